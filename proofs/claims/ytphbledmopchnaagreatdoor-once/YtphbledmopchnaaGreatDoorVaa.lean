import Derived.Below
import Derived.BigQuiet
import Derived.Deep.AppendSrc
import Derived.Deep.Draws
import Derived.Deep.Light
import Derived.Deep.LoopGhost
import Derived.Deep.QuietTactic
import Derived.Deep.Upon
import Derived.KernelRfl
import Derived.LaidEql
import Derived.Laws.EntriesVeiled
import Derived.Lib.AppendZerosOnto
import Derived.Lib.JoinLaws
import Derived.Lib.Overlaps
import Derived.Lib.SliceRun
import Derived.OpenShut
import Derived.Outline
import Derived.RowKitTokens
import Derived.Shelf.Abstract
import Derived.Stop.Asserts
import Derived.Test.YtphbledmopchnaaGreatDoorProg
import Derived.WalkKit
import Derived.WalkLawsBesides
open Go.Builtin renaming zeroCells->eB,append_->fA,firstCells->kg,clear_->sM,copy_->tC,lenOf->tJ,max_->tL
open Go.Ending renaming returned->nV
open List renaming drop_append_of_le_length->nI,take_append_of_le_length->nL,foldl_append->nU,drop_of_length_le->oC,take_of_length_le->oG,range->o9,foldl_cons->rE,nil_append->rF
open Nat renaming shiftRight_eq_div_pow->fB,xor_lt_two_pow->mE,and_two_pow_sub_one_eq_mod->nA,pow_mul->oN,mul_assoc->pO,add_sub_cancel->qd,mul_comm->qp,add_comm->tO,pow_succ->tT,xor_comm->tX
open Go.RowKit renaming intOf->eT
open UInt8 renaming toNat_ofNat_of_lt'->mI,ofNat->mK
open Go.Value renaming ownBlock->fE,cells->mR,int->rD
set_option maxHeartbeats 1000000
set_option maxRecDepth 1000000
open Go renaming World->Wq,Value->WA,Calls->WB,TypeId->Vg,bodyPost_ret->Vl,Addr->V3
set_option linter.all false
namespace Go.Proofs.YtphbledmopchnaaGreatDoor
open Go.RowKit Tryz
variable {c p q:Prop}
abbrev ay(b o:Nat):V3:=⟨b,o,none⟩
abbrev aJ(b o:Nat):WA:=.pointer (some ⟨b,o,none⟩)
abbrev uZ(x:Int):WA:=.int .u64 x
abbrev iZ(x:Int):WA:=.int .i64 x
abbrev dh(b n c:Nat):WA:=.slice (some ⟨b,0,none⟩) n c
abbrev bJ:=List WA
abbrev bZ:=List (Nat×Nat)
abbrev nZ:WA:=.slice none 0 0
abbrev bE(w y:Wq):Prop:=Below w.heap.size w y
def aj(h:p:=by omega):p:=h
def aM(h:p:=by simp):p:=h
def bO(h:p:=by kernel_rfl):p:=h
def gP(h:p:=by decide):p:=h
def rR(h:p:=by simp;omega):p:=h
def stZ(h:p:=by simp;try omega):p:=h
def asZ(h:p:=by assumption):p:=h
def bR(h:q)(k:q->p:=by omega):p:=k h
def hwZ{r:Prop}(h:q)(i:r)(k:q->r->p:=by omega):p:=k h i
def bT{α:Type _}(a:α):∃x,x=a:=⟨a,rfl⟩
def bM{h:Decidable c}(a:c){α:Type _}{t e:α}:(ite c t e)=t:=if_pos a
def aV{h:Decidable c}(a:¬c){α:Type _}{t e:α}:(ite c t e)=e:=if_neg a
def bH{P:Program}{n:Nat}{a:Array WA}{w:Wq}{v:WA}{R:Wq->Prop}{Q:Ending->Wq->Prop}(h:WB P n a w fun e b=>e=.returned v/\R b)(k:∀b,R b->Q (.returned v) b):WB P n a w Q:=h.mono fun _ b g=>g.1.symm▸k b g.2
abbrev qH(n:Nat)(a:Array WA)(w:Wq)(v:WA)(R:Wq->Prop):Prop:=WB prog n a w fun e b=>e=.returned v/\R b
def dw{a b:Prop}(h:a)(i:b):a/\b:=⟨h,i⟩
set_option linter.defProp false
def qj:=@Nat.le_refl
def qly:=@List.getD_eq_getElem?_getD
def qm0:=@List.length_append
def qm3:=@List.getElem?_eq_getElem
def qlw:=@Go.RowKit.Below.refl
def qmf:=@Go.World.block_lt_of_cell?
def qmd:=@Go.RowKit.Below.heap_setCell
def qm2:=@Nat.zero_le
def qml:=@List.getElem?_cons_zero
def qma:=@List.getElem?_cons_succ
def qlz:=@Nat.le_trans
def qm6:=@List.getElem?_take
def qm9:=@Nat.lt_of_lt_of_le
def qm4:=@List.mem_filter
def qm8:=@List.length_take
def qm7:=@List.mem_append
def qmo:=@oG
def qm5:=@Nat.zero_add
def qmj:=@Option.map_eq_some_iff
def qmt:=@Array.getElem?_eq_some_iff
def qmm:=@Go.Lib.wpList_append_run
def qmc:=@List.length_map
def qmh:=@List.append_assoc
def qmg:=@Bool.and_eq_true
def qmi:=@List.mem_singleton
def qmw:=@List.getElem?_append_left
def qmb:=@Go.Addr.add_lit
def qn0:=@List.getElem?_append_right
def qme:=@List.mem_cons
def qmr:=@Go.RowKit.Below.heap_alloc
def qmp:=@List.length_cons
def qmu:=@List.getElem?_drop
def qmq:=@rF
def qmn:=@Option.some.inj
def qms:=@List.length_drop
def qn6:=@Go.Calls.quiet_of_same
def qn1:=@List.getElem?_set_ne
def qn9:=@List.length_eq_zero_iff
def qmv:=@List.append_nil
def qmx:=@Go.World.size_alloc
def qn2:=@List.mem_of_mem_take
def qn7:=@List.getElem?_eq_none
def qmk:=@List.mem_map
def qmy:=@Nat.not_lt_zero
def qnz:=@nL
def qmz:=@List.getElem_mem
def qnj:=@oC
def qn3:=@List.length_set
def qo8:=@List.getElem?_eq_some_iff
def qn4:=@Go.Value.slice.injEq
def qnp:=@List.setIfInBounds_toArray
def qne:=@List.mem_append_right
def qn5:=@Go.IntKind.wrap_u64
def qnq:=@List.drop_eq_getElem_cons
def qn8:=@List.getElem?_map
def qo0:=@List.getElem?_set_self
def qnb:=@List.map_append
def qnc:=@List.length_nil
def qo1:=@List.length_filter_le
def qnf:=@Go.IntKind.wrap_i64
def qnr:=@List.mem_append_left
def qns:=@Go.World.cell?_alloc_lt
def qng:=@Option.some.injEq
def qnh:=@List.take_add_one
def qnt:=@nU
def qpk:=@Nat.pow_le_pow_right
def qo2:=@List.mem_of_mem_drop
def qo3:=@List.getD_cons_succ
def qo4:=@List.filter_eq_self
def qnu:=@Nat.le_add_right
def qo5:=@List.any_eq_true
def qni:=@qp
def qpl:=@List.getElem?_take_of_lt
def qok:=@Bool.not_eq_true'
def qol:=@Go.World.grownBy_alloc
def qpm:=@List.getElem?_replicate
def qpo:=@Nat.mul_le_mul_right
def qo9:=@Nat.min_le_right
def qoa:=@List.prefix_refl
def qom:=@List.cons_append
def qp1:=@List.size_toArray
def qon:=@List.ext_getElem?
def qoo:=@Nat.le_of_lt
def qop:=@List.take_zero
def qqs:=@List.take_succ_eq_append_getElem
def qpp:=@Array.length_toList
def qnv:=@Go.Sem.run_bind
def qp2:=@List.take_length
def qqt:=@nA
def qo6:=@Go.Proofs.Tryz.ntmps295
def qob:=@Prod.mk.injEq
def qq2:=@Bool.eq_false_or_eq_true
def qo7:=@Nat.mul_one
def qq3:=@Array.replicate_zero
def qq4:=@Array.replicate_succ
def qqk:=@List.getElem?_replicate_of_lt
def qpn:=@Bool.eq_iff_iff
def qqu:=@Go.World.drewN_drewN
def qq5:=@List.append_toArray
def qnd:=@Go.Proofs.Tryz.func295
def qoc:=@List.not_mem_nil
def qod:=@List.all_eq_true
def qp3:=@Bool.and_false
def qoq:=@Nat.lt_of_le_of_lt
def qp4:=@qd
def qqx:=@fB
def qoe:=@List.filter_map
def qof:=@List.drop_left'
def qnk:=@Nat.sub_self
def qnl:=@Nat.add_zero
def qp5:=@List.push_toArray
def qor:=@List.flatMap_cons
def qp6:=@Int.toNat_natCast
def qnw:=@Go.Addr.mk.injEq
def qp7:=@List.filter_sublist
def qog:=@Go.Proofs.Tryz.results217
def qnm:=@Go.Proofs.Tryz.ntmps22
def qnx:=@Go.Proofs.Tryz.ntmps215
def qot:=@List.mem_range'
def qoh:=@Nat.lt_irrefl
def qpq:=@List.length_replicate
def qou:=@Go.Oper.semAt_some
def qp8:=@Go.Result.andThen_ok
def qpr:=@List.pairwise_append
def qnn:=@Go.Proofs.Tryz.func22
def qny:=@Go.Proofs.Tryz.func215
def qp9:=@Nat.lt_succ_self
def qpa:=@List.foldlM_cons
def qpb:=@List.filter_cons
def qq6:=@List.mem_or_eq_of_mem_set
def qps:=@List.map_congr_left
def qpt:=@List.getD_cons_zero
def qoi:=@Go.Proofs.Tryz.ntmps217
def qov:=@List.map_cons
def qna:=@Ne.symm
def qpc:=@Nat.le_max_left
def qpd:=@List.foldlM_nil
def qpu:=@List.pairwise_cons
def qpv:=@Int.natCast_nonneg
def qoj:=@Go.Proofs.Tryz.func217
def qpe:=@List.take_take
def qql:=@List.countP_congr
def qq7:=@Go.World.frozen?_alloc_old
def qq8:=@ByteArray.data_extract
def qow:=@Go.Sem.run_pure
def qq9:=@List.take_append_drop
def qqa:=@List.length_singleton
def qox:=@Array.ext'
def qoy:=@Go.Proofs.Tryz.ntmps224
def qqm:=@Go.Proofs.Tryz.ntmps127
def qpw:=@Option.getD_some
def qpx:=@List.ext_getElem
def qpf:=@Nat.add_mul
def qqn:=@List.mem_of_mem_tail
def qqb:=@List.mem_of_getElem?
def qqv:=@nI
def qqw:=@rE
def qpy:=@Int.natCast_add
def qqc:=@List.mem_map_of_mem
def qqd:=@Int.toNat_of_nonneg
def qoz:=@Go.Proofs.Tryz.func224
def qqo:=@Go.Proofs.Tryz.func127
def qpg:=@Nat.zero_mul
def qph:=@Exists.intro
def qp0:=@Nat.max_le
def qqe:=@Go.WideAt.sameKey_self
def qqf:=@List.filter_append
def qpi:=@Go.Proofs.Tryz.ntmps183
def qpj:=@Nat.min_def
def qqg:=@List.pairwise_map
def qpz:=@Nat.add_assoc
def qq0:=@List.sum_cons
def qqy:=@mI
def qqp:=@List.mem_of_mem_eraseIdx
def qq1:=@Go.Proofs.Tryz.results267
def qqh:=@Nat.le_max_right
def qqq:=@List.mem_reverse
def qqi:=@List.mem_flatMap
def qqj:=@List.drop_length
def qqr:=@Go.ByteArray.toList_eq
end Go.Proofs.YtphbledmopchnaaGreatDoor
namespace Go.Proofs.YtphbledmopchnaaGreatDoor.Mm
open Go.RowKit Tryz
variable {a w:Wq}{b c g m mc n o:Nat}{cs l vs:bJ}{row:Option Nat}{t tb:Vg}
section
variable {P:Program}
def aU(l:bJ)(o:Nat)(cs:bJ):bJ:=l.take o++cs++l.drop (o+cs.length)
def bV(l:bJ)(o:Nat)(cs:bJ)(h:o+cs.length<=l.length):(aU l o cs).length=l.length:=by simp[aU];omega
def aL(w:Wq)(b:Nat)(t:Vg)(l:bJ):Prop:=w.heap[b]?=some (.cells l.toArray t (0,0))
def aL.cell{w:Wq}{b:Nat}{t:Vg}{l:bJ}(h:aL w b t l)(j:Nat):w.cell? (ay b j)=l[j]?:=by unfold aL at h;simp[World.cell?,h]
def aL.frozen{w:Wq}{b:Nat}{t:Vg}{l:bJ}(h:aL w b t l)(j:Nat):w.frozen? (ay b j)=false:=by unfold aL at h;simp[World.frozen?,h]
def aL.shape{w:Wq}{b:Nat}{t:Vg}{l:bJ}(h:aL w b t l):w.shape? b=some (t,l.length):=by unfold aL at h;simp[World.shape?,h]
def aL.lt(h:aL w b t l):b<w.heap.size:=(qmt.1 h).1
def aL.of_heap{w':Wq}(h:aL w b t l)(e:w'.heap[b]?=w.heap[b]?):aL w' b t l:=by unfold aL at h ⊢;rw[e,h]
def aL.drew{w:Wq}{b:Nat}{t:Vg}{l:bJ}(h:aL w b t l):aL w.drew b t l:=h
def aL.alloc{w:Wq}{b:Nat}{t:Vg}{l:bJ}(h:aL w b t l)(o:Obj):aL (w.alloc o) b t l:=
 h.of_heap (qmr w o b h.lt)
def aL.new(w:Wq)(t:Vg)(l:bJ):aL (w.alloc (.cells l.toArray t)) w.heap.size t l:=by show(w.heap.push _)[w.heap.size]?=_;simp
def put(w:Wq)(b:Nat)(l:bJ):Wq:=w.setRow b l.toArray
def aL.put(h:aL w b t l)(l':bJ):aL (put w b l') b t l':=setRow_heap w b _ _ t _ h
def gY(w:Wq)(b k:Nat)(l:bJ)(h:k≠b):(put w b l).heap[k]?=w.heap[k]?:=setRow_other w b k _ h
def dZ(w:Wq)(b:Nat)(l:bJ):w.grownBy (put w b l) (some b):=
 ⟨rfl,rfl,rfl,by simp[put],fun k _ a=>gY w b k l (fun e=>a (by rw[e]))⟩
def fZ(h:aL w g t l)(cs:bJ)(a:o+cs.length<=l.length)(b:∀v∈cs,v.oneCell'=true):(storeCells (ay g o) cs).run P w=.ok () (put w g (aU l o cs)):=by have:=run_storeCells_at P g o t cs 0 l.toArray w h (by simpa using a) b;simpa[put,aU]using this
def xQ(h:aL w g t l)(cs:bJ)(c:o+cs.length<=l.length)(d:∀v∈cs,v.oneCell'=true):w.setCells g o cs=put w g (aU l o cs):=by have a:=fZ (P:=default) h cs c d;have b:=run_storeCells_cells (P:=default) g o cs 0 w (fun j e=>by rw[h.cell];simp;omega) (fun j _=>h.frozen _) d;rw[b]at a;simpa using a
def jK(p A B elem:Vg){dLen dCap:Nat}(h:aL w g t l)(a:V3)(b c k n:Nat)(cs:bJ)(z:P.underlying p=some (.slice elem))(q:(P.info? elem).map (·.size)=some k)(y:Nat.min b dLen=n)(x:cs.length=n*k)(e:∀j v,cs[j]?=some v->w.cell? (a.add j)=some v)(d:o+cs.length<=l.length)(r:∀v∈cs,v.oneCell'=true):(tC #[p,A] B #[.slice (some (ay g o)) dLen dCap,.slice (some a) b c]).run P w=.ok (goInt n) (put w g (aU l o cs)):=by
 have m:=fZ (P:=P) (o:=o) h cs d r;cases f:P.info? elem with
 |none=>simp[f]at q
 |some i=>
  have u:i.size=k:=by simpa[f]using q
  have s:=run_firstCells_some (P:=P) w k n a b c cs x e;simp[tC,run_underlying z,tJ,sizeOf,typeInfo,f,u,y,s,m]
def gQ(t e j:Vg)(z:WA)(g:P.underlying t=some (.slice e))(i:∀w,(zeroValue e).run P w=.ok z w)(h:aL w b tb l)(k:0<n)(a:o+(eB z.cells n).toList.length<=l.length)(f:∀v∈(eB z.cells n).toList,v.oneCell'=true):(sM #[t] j #[.slice (some (ay b o)) n c]).run P w=.ok (.tuple #[]) (put w b (aU l o (eB z.cells n).toList)):=by have d:=fZ (P:=P) (o:=o) h _ a f;obtain⟨m,rfl⟩:∃m,n=m+1:=⟨n-1,aj⟩;simp[sM,run_underlying g,i,d]
def gG(t q u e:Vg)(z:WA)(k aB:Nat)(A:P.underlying t=some (.slice e))(r:P.underlying q=some (.slice e))(d:(P.info? e).map (fun i=>(i.zero,i.size,i.bytes))=some (some z,k,aB))(h:aL w b tb l)(a:V3)(s:vs.length=m*k)(o:∀j v,vs[j]?=some v->w.cell? (a.add j)=some v)(g:∀v∈vs,v.oneCell'=true)(f:n+m<=c)(C:n*k+vs.length<=l.length):(fA #[t,q] u #[dh b n c,.slice (some a) m mc]).run P w=.ok (dh b (n+m) c) (put w b (aU l (n*k) vs)):=by
 obtain⟨i,y,_,p,_⟩:=info_parts d;have x:Src P i.size q (.slice (some a) m mc) m vs w:=by rw[p];exact Src.ofSlice w r a m mc vs s o g
 rw[run_append_room_src (P:=P) (w:=w) t q u e i A y b 0 n c _ m vs x f (fun j B=>by rw[h.cell,p];simp;omega) (fun j _=>h.frozen _),xQ h _ (by rw[p];omega) g,p,qm5]
def jv(t o x e:Vg)(z:WA)(k aB:Nat)(D:P.underlying t=some (.slice e))(q:P.underlying o=some (.slice e))(f:(P.info? e).map (fun i=>(i.zero,i.size,i.bytes))=some (some z,k,aB)){base:Option V3}(h:base=none/\cs=[]\/∃b,base=some b/\cs.length=n*k/\∀j v,cs[j]?=some v->w.cell? (b.add j)=some v)(a:V3)(r:vs.length=m*k)(l:∀j v,vs[j]?=some v->w.cell? (a.add j)=some v)(p:∀v∈vs,v.oneCell'=true)(d:c<n+m)(g:(n+m)*aB<=140737488355328)(s:n+m<=9223372036854775807):(fA #[t,o] x #[.slice base n c,.slice (some a) m mc]).run P w=.ok (dh w.heap.size (n+m) (grownCap w (n+m) c e))
   (w.drew.alloc (.cells (cs++vs++(eB z.cells (grownCap w (n+m) c e-(n+m))).toList).toArray e)):=by
 obtain⟨i,C,E,u,B⟩:=info_parts f;have A:Src P i.size o (.slice (some a) m mc) m vs w:=by rw[u];exact Src.ofSlice w q a m mc vs r l p
 have y:(kg i.size n (.slice base n c)).run P w.drew=.ok cs.toArray w.drew:=by
  rcases h with⟨rfl,rfl⟩|⟨b,rfl,hl,hc⟩;·exact run_firstCells_none w.drew i.size n n c
  ·rw[u];exact run_firstCells_some w.drew k n b n c cs hl hc
 rw[run_append_grow_src (P:=P) (w:=w) t o x e i z D C E base n c cs y _ m vs A d aj (by rw[B];exact growslice_fits d g)];congr 3
 apply qox;simp
def uw(t h r e:Vg)(z:WA)(k aB:Nat)(p q:IntKind)(D:P.underlying t=some (.slice e))(g:P.underlying h=some (.int p))(d:(P.info? e).map (fun i=>(i.zero,i.size,i.bytes))=some (some z,k,aB))(F:0<k)(b:V3)(y:cs.length=n*k)(u:∀j v,cs[j]?=some v->w.cell? (b.add j)=some v)(A:0<m)(a:c<n+m)(f:(n+m)*aB<=140737488355328)(o:n+m<=9223372036854775807):(fA #[t,h] r #[.slice (some b) n c,.int q (m:Nat)]).run P w=.ok (dh w.heap.size (n+m) (grownCap w (n+m) c e))
   (w.drew.alloc (.cells (cs++(eB z.cells m).toList++(eB z.cells (grownCap w (n+m) c e-(n+m))).toList).toArray e)):=by
 obtain⟨i,x,E,C,l⟩:=info_parts d;have s:(kg i.size n (.slice (some b) n c)).run P w.drew=.ok cs.toArray w.drew:=by rw[C];exact run_firstCells_some w.drew k n b n c cs y u
 have B:m*aB<=(n+m)*aB:=qpo _ aj;rw[Lib.run_append_grow_zeros w t h r e i z q p D g x E (some b) n c cs s m A aj a aj (by rw[l];omega) (by rw[l];exact growslice_fits a f)];congr 3
 apply qox;simp
def ko(l:bJ)(o:Nat)(cs:bJ)(h:o+cs.length<=l.length)(j:Nat):(aU l o cs)[j]?=if j<o then l[j]? else if j<o+cs.length then cs[j-o]? else l[j]?:=by
 unfold aU;have c:(l.take o).length=o:=rR;by_cases a:j<o;·rw[bM a,qmh,qmw aj,qm6,bM a]
 ·rw[aV a];by_cases b:j<o+cs.length;·rw[bM b,qmh,qn0 aj,qmw aj,c]
  ·rw[aV b,qn0 rR,qmu];congr 1
   simp;omega
def MC(l vs:bJ)(a m k:Nat)(h:a<=m)(i:m+k<=l.length)(g:vs.length=k):(aU (aU l (a+k) ((l.drop a).take (m-a))) a vs).take (m+k)=(l.take m).take a++vs++(l.take m).drop a:=by
 have d:((l.drop a).take (m-a)).length=m-a:=rR;have f:(aU l (a+k) ((l.drop a).take (m-a))).length=l.length:=bV _ _ _ aj;apply qon;intro j;rw[qm6,ko _ _ _ aj,ko _ _ _ aj,g,d];by_cases b:j<a;·rw[bM aj,bM b,bM aj,qmh,qmw rR,qm6,bM b,qm6,bM aj]
 ·rw[aV b];by_cases c:j<a+k;·rw[bM aj,bM c,qmh,qn0 rR,qmw rR];congr 1;simp;omega
  ·rw[aV c];by_cases e:j<m+k;·rw[bM e,aV c,bM aj,qm6,bM aj,qmu,qn0 rR,qmu,qm6,bM rR];congr 1;simp;omega
   ·rw[aV e,qn7 rR]
def Jm(R vs b:bJ)(a k:Nat)(g:vs.length=k)(h:a+k+b.length<=R.length):(aU (aU R a vs) (a+k) b).take (a+k+b.length)=R.take a++vs++b:=by
 have f:(aU R a vs).length=R.length:=bV _ _ _ aj;apply qon;intro j;rw[qm6,ko _ _ _ aj,ko _ _ _ aj,g];by_cases c:j<a;·rw[bM aj,bM aj,bM c,qmh,qmw rR,qm6,bM c]
 ·rw[aV c];by_cases d:j<a+k;·rw[bM aj,bM d,bM d,qmh,qn0 rR,qmw rR];congr 1;simp;omega
  ·by_cases e:j<a+k+b.length;·rw[bM e,aV d,bM e,qn0 rR];congr 1;simp;omega
   ·rw[aV e,qn7 rR]
def gU(R cs:bJ)(o a:Nat)(h:o+cs.length<=R.length)(c:a<=o):(aU R o cs).take a=R.take a:=by
 apply qon;intro j;rw[qm6,qm6,ko _ _ _ h];by_cases b:j<a;·rw[bM b,bM b,bM aj]
 ·rw[aV b,aV b]
def iI(R vs:bJ)(a:Nat)(h:a+vs.length<=R.length):(aU R a vs).take (a+vs.length)=R.take a++vs:=by unfold aU;rw[qnz rR,qmo rR]
def dM{R:bJ}(b:∀v∈R,v.oneCell'=true)(c:∀v∈cs,v.oneCell'=true):∀v∈aU R o cs,v.oneCell'=true:=by
 intro v a;unfold aU at a;rcases qm7.1 a with a|a
 ·rcases qm7.1 a with a|a;·exact b v (qn2 a)
  ·exact c v a
 ·exact b v (qo2 a)
def qB(R cs:bJ)(o a:Nat)(h:o+cs.length<=R.length)(b:o+cs.length<=a):(aU R o cs).drop a=R.drop a:=by apply qon;intro j;rw[qmu,qmu,ko _ _ _ h,aV aj,aV aj]
def iG(n:Nat):(eB (Value.agg #[uZ 0,uZ 0]).cells n).toList.length=n*2:=by simp[eB,mR]
def jw(n:Nat):∀v∈(eB (Value.agg #[uZ 0,uZ 0]).cells n).toList,v.oneCell'=true:=by intro v a;simp[eB,mR]at a;obtain⟨i,_,rfl⟩:=a;have:i % 2=0\/i % 2=1:=aj;rcases this with h|h<;>rw[h]<;>rfl
def jm(w:Wq)(row:Option Nat):w.grownBy w.drew row:=⟨rfl,rfl,rfl,qj _,fun _ _ _=>rfl⟩
def uy(w:Wq)(q:Nat)(row:Option Nat):w.grownBy (w.drewN q) row:=⟨rfl,rfl,rfl,qj _,fun _ _ _=>rfl⟩
def ME(w:Wq)(row:Option Nat):w.grownBy w row:=⟨rfl,rfl,rfl,qj _,fun _ _ _=>rfl⟩
def fu{b c:Wq}(h:a.grownBy b row)(k:b.grownBy c row):a.grownBy c row:=
 ⟨k.os.trans h.os,k.tape.trans h.tape,k.output.trans h.output,qlz h.size k.size,fun i e d=>(k.block i (qm9 e h.size) d).trans (h.block i e d)⟩
def vU(h:a.grownBy w row)(b:Nat)(l:bJ)(e:a.heap.size<=b):a.grownBy (put w b l) row:=
 ⟨h.os,h.tape,h.output,qlz h.size (by simp[put]),fun k d c=>(gY w b k l aj).trans (h.block k d c)⟩
end
end Go.Proofs.YtphbledmopchnaaGreatDoor.Mm
namespace Go.Proofs.YtphbledmopchnaaGreatDoor.Crc
variable {a b c:Nat}
def tab:List Nat:=[0,498536548,997073096,651767980,1994146192,1802195444,1303535960,1342533948,3988292384,4027552580,3604390888,3412177804,2607071920,2262029012,2685067896,3183342108]
def Jo(c:Nat):Nat:=(c >>>4) ^^^ tab.getD (c&&& 15) 0
def byt(c:Nat)(x:UInt8):Nat:=Jo (Jo (c ^^^ x.toNat))
def reg(c:Nat)(l:List UInt8):Nat:=l.foldl byt c
def sum(l:List UInt8):Nat:=4294967295 ^^^ reg 4294967295 l
def zu(h:a ^^^ c=b ^^^ c):a=b:=by have:=congrArg (fun z=>z ^^^ c) h;simpa[Nat.xor_assoc]using this
def BQ(h:c ^^^ a=c ^^^ b):a=b:=by rw[tX c a,tX c b]at h;exact zu h
def UR:∀k,k<16->tab.getD k 0<4294967296:=by decide
def Y7:∀a,a<16->∀b,b<16->tab.getD a 0 >>>28=tab.getD b 0 >>>28->a=b:=by decide
def UU(c:Nat):c&&& 15=c % 16:=by have:=nA c 4;simpa using this
def xR(c:Nat):c&&& 15<16:=by rw[UU];omega
def wL(c:Nat)(h:c<4294967296):Jo c<4294967296:=by
 unfold Jo;have a:c >>>4<2 ^ 32:=by rw[fB];omega
 have b:tab.getD (c&&& 15) 0<2 ^ 32:=UR _ (xR c);exact mE a b
def O4(c:Nat)(h:c<4294967296):Jo c >>>28=tab.getD (c&&& 15) 0 >>>28:=by
 unfold Jo;rw[Nat.shiftRight_xor_distrib];have:c >>>4 >>>28=0:=by rw[<-Nat.shiftRight_add,fB];omega
 rw[this,Nat.zero_xor]
def Bw(a b:Nat)(f:a<4294967296)(g:b<4294967296)(h:Jo a=Jo b):a=b:=by
 have c:a&&& 15=b&&& 15:=Y7 _ (xR a) _ (xR b) (by rw[<-O4 a f,<-O4 b g,h]);have d:a >>>4=b >>>4:=by have e:=h;unfold Jo at e;rw[c]at e;exact zu e
 rw[UU,UU]at c;rw[fB,fB]at d;omega
def oz(x:UInt8):x.toNat<256:=x.toNat_lt
def BR(c:Nat)(x:UInt8)(h:c<4294967296):byt c x<4294967296:=by unfold byt;have a:c ^^^ x.toNat<2 ^ 32:=mE (by omega) (by have:=oz x;omega);exact wL _ (wL _ a)
def Gx(c:Nat)(l:List UInt8)(h:c<4294967296):reg c l<4294967296:=by
 induction l generalizing c with
 |nil=>exact h
 |cons x t a=>exact a _ (BR c x h)
def sum_lt(l:List UInt8):sum l<4294967296:=
 mE (n:=32) (by omega) (Gx _ l (by omega))
def l7(c:a<4294967296)(d:b<4294967296):a ^^^ b<4294967296:=mE (n:=32) c d
def Gy(a b:Nat)(x:UInt8)(c:a<4294967296)(d:b<4294967296)(h:byt a x=byt b x):a=b:=by have f:=oz x;have e:=Bw _ _ (wL _ (l7 c (by omega))) (wL _ (l7 d (by omega))) h;exact zu (Bw _ _ (l7 c (by omega)) (l7 d (by omega)) e)
def EB(a:Nat)(x y:UInt8)(b:a<4294967296)(h:byt a x=byt a y):x=y:=by have e:=oz x;have f:=oz y;have c:=Bw _ _ (wL _ (l7 b (by omega))) (wL _ (l7 b (by omega))) h;have d:=BQ (Bw _ _ (l7 b (by omega)) (l7 b (by omega)) c);exact UInt8.toNat_inj.1 d
def Y8(a b:Nat)(l:List UInt8)(c:a<4294967296)(d:b<4294967296)(h:reg a l=reg b l):a=b:=by
 induction l generalizing a b with
 |nil=>exact h
 |cons x t e=>exact Gy a b x c d (e _ _ (BR a x c) (BR b x d) h)
def MF(p t:List UInt8)(x y:UInt8)(h:x≠y):sum (p++x::t)≠sum (p++y::t):=by intro e;have a:=BQ e;unfold reg at a;rw[nU,nU]at a;have b:List.foldl byt 4294967295 p<4294967296:=Gx _ p (by omega);exact h (EB _ x y b (Y8 _ _ t (BR _ x b) (BR _ y b) a))
end Go.Proofs.YtphbledmopchnaaGreatDoor.Crc
namespace Go.Proofs.YtphbledmopchnaaGreatDoor.Num
def code(n:Nat):Nat:=if n<64 then 0 else if n<16384 then 1 else if n<1073741824 then 2 else 3
def be:Nat->Nat->List UInt8
 |0,_=>[]
 |k+1,n=>mK (n / 256 ^ k % 256)::be k n
def aB(n:Nat):List UInt8:=be (2 ^ code n) (n+code n*2 ^ (8*2 ^ code n-2))
def O5(n:Nat):code n<=3:=by unfold code;split<;>(try split)<;>(try split)<;>omega
def jy:∀k n,(be k n).length=k
 |0,_=>rfl
 |k+1,n=>by simp[be,jy k n]
def iQ(n:Nat):(aB n).length=2 ^ code n:=jy _ _
def val(a:Nat)(l:List UInt8):Nat:=l.foldl (fun n x=>n*256+x.toNat) a
def MG:∀k n a,val a (be k n)=a*256 ^ k+n % 256 ^ k
 |0,n,a=>by simp[be,val,Nat.mod_one]
 |k+1,n,a=>by
  have b:=MG k n (a*256+n / 256 ^ k % 256);have h:val a (be (k+1) n)=val (a*256+n / 256 ^ k % 256) (be k n):=by show val a (mK (n / 256 ^ k % 256)::be k n)=_;unfold val;rw[rE,mI (Nat.mod_lt _ (by decide))]
  rw[h,b,tT,Nat.mod_mul,Nat.add_mul,pO a 256,qp 256 (256 ^ k),qp (n / 256 ^ k % 256)];omega
def aY:List UInt8->Option (Nat×List UInt8)
 |[]=>none
 |x::t=>if t.length<2 ^ (x.toNat / 64)-1 then none else some (val (x.toNat % 64) (t.take (2 ^ (x.toNat / 64)-1)),t.drop (2 ^ (x.toNat / 64)-1))
def EW(x:UInt8)(t:List UInt8):aY (x::t)=if t.length<2 ^ (x.toNat / 64)-1 then none else some (val (x.toNat % 64) (t.take (2 ^ (x.toNat / 64)-1)),t.drop (2 ^ (x.toNat / 64)-1)):=rfl
def MI(n:Nat)(h:n<4611686018427387904)(t:List UInt8):aY (aB n++t)=some (n,t):=by
 have key:∀(c k:Nat),2 ^ c=k+1->c<4->n<64*256 ^ k->aY (be (k+1) (n+c*(64*256 ^ k))++t)=some (n,t):=by
  intro c k j p m;have a:0<256 ^ k:=Nat.pow_pos (by decide);have i:(n+c*(64*256 ^ k)) / 256 ^ k=n / 256 ^ k+c*64:=by rw[<-pO,Nat.add_mul_div_right _ _ a]
  have b:∀q,q<64->(q+c*64) / 64=c/\(q+c*64) % 64=q/\q+c*64<256:=fun q i=>by omega
  have d:n / 256 ^ k<64:=(Nat.div_lt_iff_lt_mul a).2 m;have o:(mK ((n+c*(64*256 ^ k)) / 256 ^ k % 256)).toNat=n / 256 ^ k+c*64:=by rw[mI (Nat.mod_lt _ (by decide)),i];exact Nat.mod_eq_of_lt (b _ d).2.2
  show aY (mK ((n+c*(64*256 ^ k)) / 256 ^ k % 256)::(be k (n+c*(64*256 ^ k))++t))=_;rw[EW,o,(b _ d).1,(b _ d).2.1,j,qd];have l:=jy k (n+c*(64*256 ^ k));rw[if_neg (by simp[l]),nL (by omega),oG (by omega),nI (by omega),oC (by omega),rF,MG];rw[<-pO,Nat.add_mul_mod_self_right];congr 2
  exact Nat.div_add_mod' n (256 ^ k)
 unfold aB code;by_cases e:n<64;·simp only[e,if_true];exact key 0 0 rfl (by omega) (by omega)
 ·by_cases f:n<16384;·simp only[e,f,if_true,if_false];exact key 1 1 rfl (by omega) (by omega)
  ·by_cases g:n<1073741824;·simp only[e,f,g,if_true,if_false];exact key 2 3 rfl (by omega) (by omega)
   ·simp only[e,f,g,if_false];exact key 3 7 rfl (by omega) (by omega)
end Go.Proofs.YtphbledmopchnaaGreatDoor.Num
namespace Go.Proofs.YtphbledmopchnaaGreatDoor
open Go.RowKit Go.Lib Tryz
def aF{p:Prop}(h:p):Hid p:=h
def l9{k:IntKind}{a b:Int}(h:a=b):nV (.int k a)=.returned (.int k b):=by rw[h]
def dK{a b:Bool}(h:a=b):nV (.bool a)=.returned (.bool b):=by rw[h]
def BU(n:Nat)(w:Wq):qH 271 #[uZ n] w (iZ (Num.code n:Nat)) fun j=>j=w:=by
 generalize a:Num.code n=C;unfold Num.code at a;by_cases b:n<64
 ·have c:Hid (C=0):=by rw[bM b]at a;exact a.symm
  have f:(n:Int)<64:=aj;clear a b;go_enter func271,ntmps271;go_wp2;go_ret;exact⟨l9 (by rw[c.out];rfl),rfl⟩
 ·have f:¬((n:Int)<64):=aj;by_cases d:n<16384
  ·have c:Hid (C=1):=by rw[aV b,bM d]at a;exact a.symm
   have g:(n:Int)<16384:=aj;clear a b d;go_enter func271,ntmps271;go_wp2;go_ret;exact⟨l9 (by rw[c.out];rfl),rfl⟩
  ·have g:¬((n:Int)<16384):=aj;by_cases e:n<1073741824
   ·have c:Hid (C=2):=by rw[aV b,aV d,bM e]at a;exact a.symm
    have i:(n:Int)<1073741824:=aj;clear a b d e;go_enter func271,ntmps271;go_wp2;go_ret;exact⟨l9 (by rw[c.out];rfl),rfl⟩
   ·have c:Hid (C=3):=by rw[aV b,aV d,aV e]at a;exact a.symm
    have i:¬((n:Int)<1073741824):=aj;clear a b d e;go_enter func271,ntmps271;go_wp2;go_ret;exact⟨l9 (by rw[c.out];rfl),rfl⟩
def dG(w:Wq)(a:Option V3)(l:List UInt8):Prop:=
 ∀j (hj:j<l.length),∃b c,a=some (ay b c)/\w.cell? (ay b (c+j))=some (.int .u8 ((l[j].toNat:Nat):Int))
def kU(w:Wq):Prop:=∀k,k<16->w.cell? (ay 1 k)=some (.int .u32 ((Crc.tab.getD k 0:Nat):Int))
def Y9(R:Nat)(h:R<4294967296):bits .xor .u32 IntKind.u32.max (R:Int)=((4294967295 ^^^ R:Nat):Int):=by have e:IntKind.u32.max=((4294967295:Nat):Int):=gP;rw[e];exact u32_xor_nat 4294967295 R aj h
def UW(l:List UInt8)(k:Nat)(h:k<l.length):Crc.reg 4294967295 (l.take (k+1))=Crc.byt (Crc.reg 4294967295 (l.take k)) l[k]:=by rw[qqs h];unfold Crc.reg;rw[qnt];rfl
def EX(S i D T:Nat)(h:S<4294967296)(c:i=S&&& 15)(a:D=S >>>4)(b:T=Crc.tab.getD i 0):bits .and .u32 (S:Int) 15=(i:Int)/\(S:Int) / 16=(D:Int)/\bits .xor .u32 (D:Int) (T:Int)=(Crc.Jo S:Int)/\(i:Int)<16/\i<16:=by
 have e:=Crc.xR S;have g:D=S / 16:=by rw[a,qqx]
 refine⟨?_,aj,?_,aj,aj⟩;·rw[c];exact u32_and_nat S 15 h aj
 ·have d:D<4294967296:=aj;have f:T<4294967296:=by rw[b];exact Crc.UR i aj
  rw[u32_xor_nat D T d f,b,a,c];rfl
def O6(a:Option V3){l:List UInt8}(c:Nat)(w:Wq)(V:l.length<=1000000000)(D:dG w a l)(F:kU w):qH 159 #[.slice a l.length c] w (.int .u32 (Crc.sum l:Nat)) fun S=>S=w:=by
 have G:=aF D;have C:=aF F;clear D F;go_enter func159,ntmps159;go_wp2;go_loop [3,8] (fun O z=>∃k:Nat,k<=l.length/\z=(iZ k)/\O=.int .u32 (Crc.reg 4294967295 (l.take k):Nat)) (fun _ z=>l.length-(eT z).toNat)
 case atStart=>exact⟨0,qm2 _,rfl,rfl⟩
 case round=>
  obtain⟨k,U,rfl,rfl⟩:=hrel;by_cases q:k<l.length
  ·have E:(k:Int)<(l.length:Int):=aj;obtain⟨b,L,J,K⟩:=G.out k q;subst J;have f:=Crc.Gx 4294967295 (l.take k) aj;have e:=UW l k q;have I:=Crc.oz l[k];have p:Crc.byt (Crc.reg 4294967295 (l.take k)) l[k]=Crc.Jo (Crc.Jo (Crc.reg 4294967295 (l.take k) ^^^ l[k].toNat)):=rfl;rw[p]at e;generalize Crc.reg 4294967295 (l.take k)=R at f e;generalize l[k].toNat=X at K I e;obtain⟨d,r,t,T1,n,g⟩:∃d r t T1:Nat,d=R ^^^ X/\r=d&&& 15/\t=d >>>4/\T1=Crc.tab.getD r 0:=⟨_,_,_,_,rfl,rfl,rfl,rfl⟩;have o:d<4294967296:=by rw[n];exact Crc.l7 f aj
   obtain⟨s,u,y,i⟩:∃s u y:Nat,s=Crc.Jo d&&& 15/\u=Crc.Jo d >>>4/\y=Crc.tab.getD s 0:=⟨_,_,_,rfl,rfl,rfl⟩;have r1:bits .xor .u32 (R:Int) ((X:Int) % 4294967296)=(d:Int):=by rw[show(X:Int) % 4294967296=(X:Int) by omega,n];exact u32_xor_nat R X f aj
   have r2:bits .xor .u32 (R:Int) (X:Int)=(d:Int):=by rw[n];exact u32_xor_nat R X f aj
   obtain⟨q1,q2,q3,q4,N⟩:=EX d r t T1 o g.1 g.2.1 g.2.2;obtain⟨W,Y,Z,p4,M⟩:=EX (Crc.Jo d) s u y (Crc.wL d o) i.1 i.2.1 i.2.2;have P:=C.out r N;have Q:=C.out s M;rw[<-g.2.2]at P;rw[<-i.2.2]at Q;have x:=aF e;have v:=aF n;clear e n g i p;generalize j:Crc.Jo d=H at *
   generalize m:Crc.Jo H=T at *
   have A:=aF (dw j m);clear j m;go_wp2;go_round
   case rel=>exact⟨k+1,aj,by go_num,by rw[x.out,<-v.out,A.out.1,A.out.2]⟩
   case measure=>simp[eT];omega
  ·obtain rfl:k=l.length:=aj;have f:=Crc.Gx 4294967295 (l.take l.length) aj;rw[qp2]at f ⊢;have B:Hid (Crc.sum l=4294967295 ^^^ Crc.reg 4294967295 l):=rfl;generalize Crc.reg 4294967295 l=R at f B ⊢;go_wp2;go_ret;exact⟨l9 (by rw[Y9 R f,B.out]),rfl⟩
end Go.Proofs.YtphbledmopchnaaGreatDoor
namespace Go.Proofs.YtphbledmopchnaaGreatDoor
open Go.RowKit Go.Lib Mm Tryz
variable {a:Option V3}{b:Nat}{l:List UInt8}{v:WA}{w:Wq}
def u29:prog.underlying 60=some (.slice 5):=bO
def u9:prog.underlying 9=some .string:=bO
def Jp:(prog.info? 5).map (fun i=>(i.zero,i.size,i.bytes))=some (some (.int .u8 0),1,1):=bO
def bX(l:List UInt8):bJ:=l.map fun b=>.int .u8 ((b.toNat:Nat):Int)
def dN(l:List UInt8):(bX l).length=l.length:=by simp[bX]
def jV(a b:List UInt8):bX (a++b)=bX a++bX b:=by simp[bX]
def iJ(l:List UInt8):∀v∈bX l,v.oneCell'=true:=by intro v a;obtain⟨_,_,rfl⟩:=qmk.1 a;rfl
def u_(n:Nat):(eB (rD .u8 0).cells n).toList.length=n:=by simp[eB,mR]
def zw(n:Nat):∀v∈(eB (rD .u8 0).cells n).toList,v.oneCell'=true:=by intro v a;simp[eB,mR]at a;obtain⟨i,_,rfl⟩:=a;have:i % 1=0:=aj;rw[this];rfl
def lG(w:Wq)(v:WA)(l:List UInt8):Prop:=
 v=nZ/\l=[]\/∃g cap a,v=(dh g l.length cap)/\aL w g 5 a/\a.length=cap/\l.length<=cap/\cap<=9223372036854775807/\a.take l.length=bX l/\∀v∈a,v.oneCell'=true
def Gr(w w':Wq)(v v':WA):Prop:=w.grownBy w' v.ownBlock/\∀k,v'.ownBlock=some k->v.ownBlock=some k\/w.heap.size<=k
def Gr.refl(w:Wq)(v:WA):Gr w w v v:=⟨ME w _,fun _ h=>.inl h⟩
def Gr.trans{a b c:Wq}{u v x:WA}(h:Gr a b u v)(k:Gr b c v x):Gr a c u x:=
 ⟨⟨k.1.os.trans h.1.os,k.1.tape.trans h.1.tape,k.1.output.trans h.1.output,qlz h.1.size k.1.size,fun i f d=>(k.1.block i (qm9 f h.1.size) (fun e=>by
   rcases h.2 i e.symm with e'|e';·exact d e'.symm
   ·omega)).trans (h.1.block i f d)⟩,fun i f=>by
  have g:=h.1.size;rcases k.2 i f with e|e;·exact h.2 i e
  ·exact .inr aj⟩
def Gr.alloc{w w':Wq}{v v':WA}(o:Obj)(h:Gr (w.alloc o) w' v v'):Gr w w' v v':=
 ⟨⟨h.1.os,h.1.tape,h.1.output,by have:=h.1.size;simp at this;omega,fun i a b=>by rw[h.1.block i rR b,qmr _ _ _ a]⟩,fun i a=>by
  rcases h.2 i a with e|e;·exact .inl e
  ·simp at e;exact .inr aj⟩
def lG.lt{w:Wq}{v:WA}{l:List UInt8}(h:lG w v l):∀k,v.ownBlock=some k->k<w.heap.size:=by
 intro k a;rcases h with⟨rfl,_⟩|⟨g,cap,cs,rfl,hB,_⟩;·simp[fE]at a
 ·simp[fE]at a;subst a;exact hB.lt
def lG.of_heap{w w':Wq}{v:WA}{l:List UInt8}(h:lG w v l)(e:∀k,v.ownBlock=some k->w'.heap[k]?=w.heap[k]?):lG w' v l:=by
 rcases h with h|⟨g,cap,a,rfl,c,b⟩;·exact .inl h
 ·exact .inr ⟨g,cap,a,rfl,c.of_heap (e g rfl),b⟩
def lG.alloc{w:Wq}{v:WA}{l:List UInt8}(h:lG w v l)(o:Obj):lG (w.alloc o) v l:=h.of_heap (fun k a=>qmr w o k (h.lt k a))
def lG.nil(w:Wq):lG w nZ []:=.inl ⟨rfl,rfl⟩
def mg(h:lG w v l)(a:V3)(m mc:Nat)(d:List UInt8)(r:d.length=m)(I:0<m)(o:∀j u,(bX d)[j]?=some u->w.cell? (a.add j)=some u)(H:l.length+m<=70368744177664):∃t x,(∀s,(fA #[60,60] s #[v,.slice (some a) m mc]).run prog w=.ok t x)/\lG x t (l++d)/\Gr w x v t:=by
 have y:=dN d;have grow:∀base n c (e:bJ),n=l.length->e=bX l->c<n+m->(base=none/\e=[]\/∃b:V3,base=some b/\e.length=n*1/\∀j v,e[j]?=some v->w.cell? (b.add j)=some v)->∃t x,(∀s,(fA #[60,60] s #[.slice base n c,.slice (some a) m mc]).run prog w=.ok t x)/\lG x t (l++d)/\Gr w x (.slice base n c) t:=by
  intro base n c e F q C z;have p:=fun s=>jv (P:=prog) (w:=w) 60 60 s 5 _ 1 1 u29 u29 Jp (base:=base) (n:=n) (c:=c) (m:=m) (mc:=mc) (cs:=e) z a (vs:=bX d) aj o (iJ d) C aj aj;have D:=grownCap_ge w (n+m) c 5;have i:=grownCap_le_maxLen w (n+m) c 5 (by unfold maxLen;omega);unfold maxLen at i;have G:e.length=n:=by rw[q,dN,F]
  refine⟨_,_,p,.inr ⟨w.heap.size,_,_,by rw[qm0,r,<-F],aL.new w 5 _,?_,by rw[qm0,r,<-F];exact D,i,?_,?_⟩,fu (jm w _) (qol w.drew _ _),?_⟩;·rw[qm0,qm0,u_,y];omega
  ·rw[qm0,r,jV,qnz (by rw[qm0];omega),qmo (by rw[qm0];omega),q]
  ·intro u f;rcases qm7.1 f with f|f
   ·rcases qm7.1 f with f|f;·rw[q]at f;exact iJ l u f
    ·exact iJ d u f
   ·exact zw _ u f
  ·intro k E;simp[fE]at E;exact .inr aj
 rcases h with⟨rfl,rfl⟩|⟨g,cap,e,rfl,hB,h2,h3,h4,h5,h6⟩;·exact grow none 0 0 [] rfl rfl aj (.inl ⟨rfl,rfl⟩)
 ·by_cases C:l.length+m<=cap
  ·have p:=fun s=>gG (P:=prog) (w:=w) 60 60 s 5 _ 1 1 u29 u29 Jp (n:=l.length) (c:=cap) (m:=m) (mc:=mc) hB a (vs:=bX d) aj o (iJ d) C aj;have A:=iI e (bX d) (l.length*1) aj;refine⟨_,_,p,.inr ⟨g,cap,_,by rw[qm0,r],hB.put _,?_,by rw[qm0,r];exact C,h4,?_,dM h6 (iJ d)⟩,dZ w g _,fun k E=>.inl E⟩;·rw[bV _ _ _ aj,h2]
   ·rw[y,r,qo7]at A;rw[qm0,r,qo7,A,jV,h5]
  ·exact grow (some (ay g 0)) l.length cap (bX l) rfl rfl aj (.inr ⟨_,rfl,by rw[dN];omega,fun j u B=>by
    rw[qmb,qm5,hB.cell];rw[<-h5,qm6]at B;split at B;·exact B
    ·cases B⟩)
def zx(n c k:Nat)(h:n<2 ^ k):n|||(c*2 ^ k)=n+c*2 ^ k:=by rw[Nat.or_comm,qni,<-Nat.two_pow_add_eq_or_of_lt h,tO]
def UY:∀(K N j m:Nat),K=j+m+1->(Num.be K N).take (j+1)=(Num.be K N).take j++[mK (N / 256 ^ m % 256)]
 |0,_,_,_,h=>aj
 |K+1,N,0,m,h=>by obtain rfl:K=m:=aj;simp[Num.be]
 |K+1,N,j+1,m,h=>by have:=UY K N j m aj;simp[Num.be,this]
def vg{wr:Wq}{e:WA}{K N j m:Nat}(p:K=j+m+1)(n:lG wr e (l++(Num.be K N).take j))(o:Gr w wr v e)(s:l.length<=35184372088832)(t:K<=8)(c:Int)(q:c=((N / 256 ^ m % 256:Nat):Int)):∃b d,(∀r,(fA #[60,60] r #[e,dh wr.heap.size 1 1]).run prog (wr.alloc (.cells #[.int .u8 c] 5))=.ok b d)/\lG d b (l++(Num.be K N).take (j+1))/\Gr w d v b:=by
 have f:(l++(Num.be K N).take j).length<=l.length+8:=by simp[Num.jy];omega
 obtain⟨b,d,g,h,k⟩:=mg (n.alloc (.cells #[.int .u8 c] 5)) (ay wr.heap.size 0) 1 1 [mK (N / 256 ^ m % 256)] rfl aj (fun i u a=>by
  match i,a with
  |0,a=>simp[bX]at a;rw[qmb,qm5,(aL.new wr 5 [.int .u8 c]).cell,<-a,q];simp
  |i+1,a=>simp[bX]at a) aj
 refine⟨b,d,g,?_,o.trans (k.alloc _)⟩;rw[UY K N j m p,<-qmh];exact h
def fq(v:WA)(l:List UInt8)(n:Nat)(hb:lG w v l)(hn:n<4611686018427387904)(U:l.length<=35184372088832):WB prog 211 #[v,uZ n] w fun e R=>∃P,e=.returned P/\lG R P (l++Num.aB n)/\Gr w R v P:=by
 have S:=BU n w;have HC:=aF S;clear S;have q:Hid (Num.aB n=Num.be (2 ^ Num.code n) (n+Num.code n*2 ^ (8*2 ^ Num.code n-2))):=rfl;have h4:Num.code n=0/\n<64\/Num.code n=1/\n<16384\/Num.code n=2/\n<1073741824\/Num.code n=3:=by unfold Num.code;split<;>(try split)<;>(try split)<;>omega
 have T:=aF hb;clear hb;go_enter func211,ntmps211;go_wp2_with fail;refine bH HC.out ?_;rintro E h0;subst h0;rcases h4 with⟨A,r⟩|⟨A,r⟩|⟨A,r⟩|A
 ·have B:bits .or .u64 (n:Int) 0=((n+0:Nat):Int):=by
   have:=u64_or_nat n 0 aj aj;rw[show(0:Nat)=0*2 ^ 6 from rfl,zx n 0 6 r]at this;exact this
  have c:Num.aB n=Num.be 1 (n+0):=by rw[q.out,A]
  rw[A];obtain⟨N,K⟩:=bT (n+0);rw[<-K]at B c;have s:=aF c;clear K q r A c;go_wp2_with fail;go_loopw [0,6] (fun L D wr=>∃j m t:Nat,1=j+m/\D=(iZ t)/\Hid (t=8*m)/\Hid (lG wr L (l++(Num.be 1 N).take j))/\Hid (Gr E wr v L)) (fun _ D _=>(eT D).toNat);case atStart=>exact⟨0,1,8,rfl,rfl,rfl,by rw[qop,qmv];exact T.out,Gr.refl E v⟩
  case round=>
   obtain⟨j,m,t,a,rfl,x,p,y⟩:=hrel;cases m with
   |zero=>
    have C:t=0:=x.out;subst C;have M:Hid (lG wr u0 (l++Num.aB n)):=by have:=p.out;rw[qmo (by rw[Num.jy];omega),<-s.out]at this;exact this
    clear p a;go_wp2;go_ret;exact⟨_,rfl,M.out,y.out⟩
   |succ m=>
    have O:t=8*m+8:=bR x.out;obtain⟨b,d⟩:=bT (8*m);have V:(t:Int)-8=(b:Int):=aj;have Z:(0:Int)<(t:Int):=aj;have g2:(b:Int)<64:=aj;have g4:(t:Int)<=64:=aj;have W:min b 64=b:=aj;obtain⟨Q,z⟩:=bT (N / 256 ^ m);obtain⟨J,i⟩:=bT (Q % 256);have k:2 ^ b=256 ^ m:=by rw[d,oN]
    have X:(N:Int) / 2 ^ b=(Q:Int):=by rw[z,<-k];simp
    have Y:(Q:Int) % 256=(J:Int):=aj;obtain⟨P,R,o,f,g⟩:=vg (w:=E) (v:=v) (l:=l) (N:=N) (m:=m) a p.out y.out U aj (J:Int) (by rw[i,z]);have G:=aF f;have H:=aF g;have I:=aF d;have u:=aF (show b<t by omega);have F:=aF a;clear a O d z i k f g p y x;go_wp2_with (at_builtin;refine qmm _ rfl _ _ _ _ rfl _ _ rfl rfl _ _ (o _) ?_);go_roundw;case rel=>first|exact⟨j+1,m,b,bR F.out,rfl,I,G,H⟩|((repeat apply qph);exact⟨⟨j+1,m,b,bR F.out,rfl,I,G,H⟩,rfl⟩)
    case measure=>simp[eT];exact u.out
 ·have B:bits .or .u64 (n:Int) 16384=((n+16384:Nat):Int):=by
   have:=u64_or_nat n 16384 aj aj;rw[show(16384:Nat)=1*2 ^ 14 from rfl,zx n 1 14 r]at this;exact this
  have c:Num.aB n=Num.be 2 (n+16384):=by rw[q.out,A]
  rw[A];obtain⟨N,K⟩:=bT (n+16384);rw[<-K]at B c;have s:=aF c;clear K q r A c;go_wp2_with fail;go_loopw [0,6] (fun L D wr=>∃j m t:Nat,2=j+m/\D=(iZ t)/\Hid (t=8*m)/\Hid (lG wr L (l++(Num.be 2 N).take j))/\Hid (Gr E wr v L)) (fun _ D _=>(eT D).toNat);case atStart=>exact⟨0,2,16,rfl,rfl,rfl,by rw[qop,qmv];exact T.out,Gr.refl E v⟩
  case round=>
   obtain⟨j,m,t,a,rfl,x,p,y⟩:=hrel;cases m with
   |zero=>
    have C:t=0:=x.out;subst C;have M:Hid (lG wr u0 (l++Num.aB n)):=by have:=p.out;rw[qmo (by rw[Num.jy];omega),<-s.out]at this;exact this
    clear p a;go_wp2;go_ret;exact⟨_,rfl,M.out,y.out⟩
   |succ m=>
    have O:t=8*m+8:=bR x.out;obtain⟨b,d⟩:=bT (8*m);have V:(t:Int)-8=(b:Int):=aj;have Z:(0:Int)<(t:Int):=aj;have g2:(b:Int)<64:=aj;have g4:(t:Int)<=64:=aj;have W:min b 64=b:=aj;obtain⟨Q,z⟩:=bT (N / 256 ^ m);obtain⟨J,i⟩:=bT (Q % 256);have k:2 ^ b=256 ^ m:=by rw[d,oN]
    have X:(N:Int) / 2 ^ b=(Q:Int):=by rw[z,<-k];simp
    have Y:(Q:Int) % 256=(J:Int):=aj;obtain⟨P,R,o,f,g⟩:=vg (w:=E) (v:=v) (l:=l) (N:=N) (m:=m) a p.out y.out U aj (J:Int) (by rw[i,z]);have G:=aF f;have H:=aF g;have I:=aF d;have u:=aF (show b<t by omega);have F:=aF a;clear a O d z i k f g p y x;go_wp2_with (at_builtin;refine qmm _ rfl _ _ _ _ rfl _ _ rfl rfl _ _ (o _) ?_);go_roundw;case rel=>first|exact⟨j+1,m,b,bR F.out,rfl,I,G,H⟩|((repeat apply qph);exact⟨⟨j+1,m,b,bR F.out,rfl,I,G,H⟩,rfl⟩)
    case measure=>simp[eT];exact u.out
 ·have B:bits .or .u64 (n:Int) 2147483648=((n+2147483648:Nat):Int):=by
   have:=u64_or_nat n 2147483648 aj aj;rw[show(2147483648:Nat)=2*2 ^ 30 from rfl,zx n 2 30 r]at this;exact this
  have c:Num.aB n=Num.be 4 (n+2147483648):=by rw[q.out,A]
  rw[A];obtain⟨N,K⟩:=bT (n+2147483648);rw[<-K]at B c;have s:=aF c;clear K q r A c;go_wp2_with fail;go_loopw [0,6] (fun L D wr=>∃j m t:Nat,4=j+m/\D=(iZ t)/\Hid (t=8*m)/\Hid (lG wr L (l++(Num.be 4 N).take j))/\Hid (Gr E wr v L)) (fun _ D _=>(eT D).toNat);case atStart=>exact⟨0,4,32,rfl,rfl,rfl,by rw[qop,qmv];exact T.out,Gr.refl E v⟩
  case round=>
   obtain⟨j,m,t,a,rfl,x,p,y⟩:=hrel;cases m with
   |zero=>
    have C:t=0:=x.out;subst C;have M:Hid (lG wr u0 (l++Num.aB n)):=by have:=p.out;rw[qmo (by rw[Num.jy];omega),<-s.out]at this;exact this
    clear p a;go_wp2;go_ret;exact⟨_,rfl,M.out,y.out⟩
   |succ m=>
    have O:t=8*m+8:=bR x.out;obtain⟨b,d⟩:=bT (8*m);have V:(t:Int)-8=(b:Int):=aj;have Z:(0:Int)<(t:Int):=aj;have g2:(b:Int)<64:=aj;have g4:(t:Int)<=64:=aj;have W:min b 64=b:=aj;obtain⟨Q,z⟩:=bT (N / 256 ^ m);obtain⟨J,i⟩:=bT (Q % 256);have k:2 ^ b=256 ^ m:=by rw[d,oN]
    have X:(N:Int) / 2 ^ b=(Q:Int):=by rw[z,<-k];simp
    have Y:(Q:Int) % 256=(J:Int):=aj;obtain⟨P,R,o,f,g⟩:=vg (w:=E) (v:=v) (l:=l) (N:=N) (m:=m) a p.out y.out U aj (J:Int) (by rw[i,z]);have G:=aF f;have H:=aF g;have I:=aF d;have u:=aF (show b<t by omega);have F:=aF a;clear a O d z i k f g p y x;go_wp2_with (at_builtin;refine qmm _ rfl _ _ _ _ rfl _ _ rfl rfl _ _ (o _) ?_);go_roundw;case rel=>first|exact⟨j+1,m,b,bR F.out,rfl,I,G,H⟩|((repeat apply qph);exact⟨⟨j+1,m,b,bR F.out,rfl,I,G,H⟩,rfl⟩)
    case measure=>simp[eT];exact u.out
 ·have B:bits .or .u64 (n:Int) 13835058055282163712=((n+13835058055282163712:Nat):Int):=by
   have:=u64_or_nat n 13835058055282163712 aj aj;rw[show(13835058055282163712:Nat)=3*2 ^ 62 from rfl,zx n 3 62 hn]at this;exact this
  have c:Num.aB n=Num.be 8 (n+13835058055282163712):=by rw[q.out,A]
  rw[A];obtain⟨N,K⟩:=bT (n+13835058055282163712);rw[<-K]at B c;have s:=aF c;clear K q A c;go_wp2_with fail;go_loopw [0,6] (fun L D wr=>∃j m t:Nat,8=j+m/\D=(iZ t)/\Hid (t=8*m)/\Hid (lG wr L (l++(Num.be 8 N).take j))/\Hid (Gr E wr v L)) (fun _ D _=>(eT D).toNat);case atStart=>exact⟨0,8,64,rfl,rfl,rfl,by rw[qop,qmv];exact T.out,Gr.refl E v⟩
  case round=>
   obtain⟨j,m,t,a,rfl,x,p,y⟩:=hrel;cases m with
   |zero=>
    have C:t=0:=x.out;subst C;have M:Hid (lG wr u0 (l++Num.aB n)):=by have:=p.out;rw[qmo (by rw[Num.jy];omega),<-s.out]at this;exact this
    clear p a;go_wp2;go_ret;exact⟨_,rfl,M.out,y.out⟩
   |succ m=>
    have O:t=8*m+8:=bR x.out;obtain⟨b,d⟩:=bT (8*m);have V:(t:Int)-8=(b:Int):=aj;have Z:(0:Int)<(t:Int):=aj;have g2:(b:Int)<64:=aj;have g4:(t:Int)<=64:=aj;have W:min b 64=b:=aj;obtain⟨Q,z⟩:=bT (N / 256 ^ m);obtain⟨J,i⟩:=bT (Q % 256);have k:2 ^ b=256 ^ m:=by rw[d,oN]
    have X:(N:Int) / 2 ^ b=(Q:Int):=by rw[z,<-k];simp
    have Y:(Q:Int) % 256=(J:Int):=aj;obtain⟨P,R,o,f,g⟩:=vg (w:=E) (v:=v) (l:=l) (N:=N) (m:=m) a p.out y.out U aj (J:Int) (by rw[i,z]);have G:=aF f;have H:=aF g;have I:=aF d;have u:=aF (show b<t by omega);have F:=aF a;clear a O d z i k f g p y x;go_wp2_with (at_builtin;refine qmm _ rfl _ _ _ _ rfl _ _ rfl rfl _ _ (o _) ?_);go_roundw;case rel=>first|exact⟨j+1,m,b,bR F.out,rfl,I,G,H⟩|((repeat apply qph);exact⟨⟨j+1,m,b,bR F.out,rfl,I,G,H⟩,rfl⟩)
    case measure=>simp[eT];exact u.out
def lG.aB(h:lG w v l):∃a c,v=.slice a l.length c/\dG w a l:=by
 rcases h with⟨rfl,rfl⟩|⟨g,cap,cs,rfl,hB,h2,h3,h4,h5,h6⟩;·exact⟨none,0,rfl,fun j b=>by simp at b⟩
 ·refine⟨_,cap,rfl,fun j b=>⟨g,0,rfl,?_⟩⟩;rw[hB.cell,qm5];have:(cs.take l.length)[j]?=(bX l)[j]?:=by rw[h5]
  rw[qm6,bM b]at this;rw[this];simp[bX,b]
def iV(l:List UInt8):List UInt8:=Num.be 4 (Crc.sum l)
def BX(l:List UInt8)(a b c d:Nat)(e:a=Crc.sum l / 16777216 % 256)(f:b=Crc.sum l / 65536 % 256)(g:c=Crc.sum l / 256 % 256)(h:d=Crc.sum l % 256):bX (iV l)=[.int .u8 a,.int .u8 b,.int .u8 c,.int .u8 d]:=by subst e;subst f;subst g;subst h;simp[iV,Num.be,bX]
def EC(y:lG w v l)(C:kU w)(I:l.length<=1000000000):WB prog 220 #[v] w fun e B=>∃k,e=.returned k/\lG B k (l++iV l)/\Gr w B v k:=by obtain⟨a,c,E,f⟩:=y.aB;have m:=O6 a c w I f C;rw[<-E]at m;have z:=Crc.sum_lt l;obtain⟨n,r⟩:=bT (Crc.sum l / 16777216 % 256);obtain⟨o,s⟩:=bT (Crc.sum l / 65536 % 256);obtain⟨p,t⟩:=bT (Crc.sum l / 256 % 256);obtain⟨q,x⟩:=bT (Crc.sum l % 256);have j:=BX l n o p q r s t x;obtain⟨k,B,g,b,d⟩:=mg (y.alloc (.cells #[.int .u8 n,.int .u8 o,.int .u8 p,.int .u8 q] 5)) (ay w.heap.size 0) 4 4 (iV l) (Num.jy 4 _) aj (fun i u D=>by rw[j]at D;rw[qmb,qm5,(aL.new w 5 [.int .u8 n,.int .u8 o,.int .u8 p,.int .u8 q]).cell];exact D) aj;generalize Crc.sum l=S at m z r s t x;have J:(S:Int) / 16777216=(n:Int):=aj;have K:(S:Int) / 65536 % 256=(o:Int):=aj;have L:(S:Int) / 256 % 256=(p:Int):=aj;have M:(S:Int) % 256=(q:Int):=aj;have F:=aF m;have G:=aF b;have H:=aF (d.alloc _);clear r s t x m j b d y C f E;go_enter func220,ntmps220;go_wp2_with fail;refine bH F.out ?_;rintro N A;subst A;go_wp2_with (at_builtin;refine qmm _ rfl _ _ _ _ rfl _ _ rfl rfl _ _ (g _) ?_);go_ret;exact⟨k,rfl,G.out,H.out⟩
def dG.cut(h:dG w a l)(n:Nat):dG w a (l.take n):=fun j f=>by obtain⟨b,c,d,e⟩:=h j (by simp at f;omega);exact⟨b,c,d,by rw[e];simp⟩
def qdm{x:WA}{a b:Bool}(h:a=b):nV (.tuple #[x,.bool a])=.returned (.tuple #[x,.bool b]):=by rw[h]
def Jq(a:Nat)(l:List UInt8)(x:UInt8):Num.val a (l++[x])=Num.val a l*256+x.toNat:=by unfold Num.val;rw[qnt];rfl
def zy:∀(l:List UInt8) (a k:Nat),a<256 ^ k->Num.val a l<256 ^ (k+l.length)
 |[],a,k,h=>by simpa[Num.val]using h
 |x::t,a,k,h=>by have b:=Crc.oz x;have:=zy t (a*256+x.toNat) (k+1) (by rw[tT];omega);rw[qmp,show k+(t.length+1)=k+1+t.length by omega];exact this
def qdn(T X:Nat)(b:T<16777216)(a:X<256):bits .or .u32 ((T:Int)*256) (X:Int)=((T*256+X:Nat):Int):=by have h:=u32_or_nat (T*256) X aj aj;rw[Nat.or_comm,zx X T 8 a,tO]at h;rw[<-h];simp
def MK(b d:Nat)(body a:List UInt8)(c:Nat)(L:body.length<=1000000000)(p:a.length=4)(R:body.length+4<=c)(x:dG w (some (ay b d)) (body++a))(F:kU w):qH 115 #[.slice (some (ay b d)) (body.length+4) c] w (.tuple #[.slice (some (ay b d)) body.length c,.bool (decide (Num.val 0 a=Crc.sum body))]) fun O=>∃q,O=w.drewN q:=by
 have g:dG w (some (ay b d)) body:=by have:=x.cut body.length;rwa[List.take_left']at this;rfl
 have E:=fun q=>O6 (some (ay b d)) c (w.drewN q) L g F;have o:∀k,k<4->w.cell? (ay b (d+body.length+k))=some (.int .u8 (((a.getD k 0).toNat:Nat):Int)):=fun k r=>by obtain⟨Q,G,C,y⟩:=x (body.length+k) rR;simp at C;obtain⟨rfl,rfl⟩:=C;rw[qpz,y];simp[r,p]
 have m:∀k,k<4->Num.val 0 (a.take (k+1))=Num.val 0 (a.take k)*256+(a.getD k 0).toNat/\Num.val 0 (a.take k)<16777216:=fun k r=>by
  refine⟨?_,?_⟩;·rw[qqs aj,Jq];simp[r,p]
  ·have:=zy (a.take k) 0 0 gP;have A:(a.take k).length=k:=rR;rw[A,qm5]at this;exact qm9 this (by have:(256:Nat) ^ k<=256 ^ 3:=qpk gP aj;omega)
 have t:=aF m;have u:Hid (Num.val 0 (a.take 4)=Num.val 0 a):=by rw[qmo aj];rfl
 clear m;have I:=aF E;have J:=aF o;have H:=aF p;have S:(0:Int)<=(body.length:Int):=aj;generalize body.length=n at *
 have U:(n:Int)<=(n:Int)+4:=aj;have V:¬(c=n):=aj;clear E o x g F p H;go_enter func115,ntmps115;go_wp2_with fail;go_loop [5,17] (fun M v=>∃k:Nat,k<=4/\v=(iZ k)/\M=.int .u32 (Num.val 0 (a.take k):Nat)) (fun _ v=>4-(eT v).toNat)
 case atStart=>exact⟨0,qm2 _,rfl,rfl⟩
 case round=>
  obtain⟨k,r,rfl,rfl⟩:=hrel;by_cases j:k<4
  ·have D:(k:Int)<4:=aj;have z:=J.out k j;obtain⟨e,l⟩:=t.out k j;have B:=Crc.oz (a.getD k 0);generalize (a.getD k 0).toNat=X at z e B;generalize Num.val 0 (a.take k)=T at e l;have K:=qdn T X l B;obtain⟨P,f⟩:=bT (T*256+X);rw[<-f]at K e;have N:=aF e;clear e f;go_wp2;go_round
   case rel=>exact⟨k+1,aj,by go_num,by rw[N.out]⟩
   case measure=>simp[eT];omega
  ·obtain rfl:k=4:=aj;rw[u.out];have i:(((Num.val 0 a:Nat):Int)==((Crc.sum body:Nat):Int))=decide (Num.val 0 a=Crc.sum body):=by rw[qpn,beq_iff_eq,decide_eq_true_iff];omega
   have s:=aF i;clear i;have W:(n:Int)<=(c:Int):=aj;go_wp2_with fail;go_quiet ((go_at_call 159;exact qn6 (I.out _)));go_wp2;go_ret2;exact⟨qdm s.out,nq,rfl⟩
def dH:Nat:=4611686018427387903
def uz(rs:bZ)(i:Nat):Bool:=
 decide ((rs.getD i (0,0)).1<=(rs.getD i (0,0)).2)&&decide ((rs.getD i (0,0)).2<=dH)&&(decide (i=0)||decide ((rs.getD i (0,0)).2+1<(rs.getD (i-1) (0,0)).1))
def sG(rs:bZ):Bool:=(o9 rs.length).all (uz rs)&&decide (0<rs.length)
def jA(w:Wq)(a:Option V3)(rs:bZ):Prop:=
 ∀j,j<rs.length->∃b c,a=some (ay b c)/\w.cell? (ay b (c+j*2))=some (uZ ((rs.getD j (0,0)).1:Int))/\w.cell? (ay b (c+j*2+1))=some (uZ ((rs.getD j (0,0)).2:Int))/\(rs.getD j (0,0)).1<18446744073709551616/\(rs.getD j (0,0)).2<18446744073709551616
def jA.below{w':Wq}{rs:bZ}(h:jA w a rs)(f:bE w w'):jA w' a rs:=fun j k=>by obtain⟨b,c,i,d,e,g⟩:=h j k;exact⟨b,c,i,(f.cell (p:=(ay b (c+j*2))) (qmf _ _ d)).trans d,(f.cell (p:=(ay b (c+j*2+1))) (qmf _ _ e)).trans e,g⟩
def BZ(k:Int)(w:Wq):qH 216 #[iZ k] w (.bool (decide (1<=k/\k<=8))) fun a=>a=w:=by
 by_cases h:1<=k;·go_enter func216,ntmps216;go_wp2;go_ret;exact⟨dK (by rw[decide_eq_decide];omega),rfl⟩
 ·have b:decide (1<=k)=false:=rR;go_enter func216,ntmps216;go_wp2;go_ret;exact⟨dK (by first|rfl|(symm;rw[decide_eq_false_iff_not];omega)),rfl⟩
def Gz(k:Int)(w:Wq):qH 287 #[iZ k] w (.bool (decide (0<=k/\k<8))) fun a=>a=w:=by
 by_cases h:0<=k;·go_enter func287,ntmps287;go_wp2;go_ret;exact⟨dK (by rw[decide_eq_decide];omega),rfl⟩
 ·have b:decide (0<=k)=false:=rR;go_enter func287,ntmps287;go_wp2;go_ret;exact⟨dK (by first|rfl|(symm;rw[decide_eq_false_iff_not];omega)),rfl⟩
def Ba(a:Option V3)(rs:bZ)(c:Nat)(w:Wq)(hl:rs.length<=1000000000)(R:jA w a rs):qH 335 #[.slice a rs.length c] w (.bool (sG rs)) fun w'=>bE w w':=by
 have I:=aF R;clear R;have v:Hid (sG rs=((o9 rs.length).all (uz rs)&&decide (0<rs.length))):=rfl;go_enter func335,ntmps335;go_wp2_with fail;go_loopw [7] (fun O wr=>∃k:Nat,k<=rs.length/\O=(iZ k)/\Hid (∀i,i<k->uz rs i=true)/\Hid (bE w wr)) (fun O _=>rs.length-(eT O).toNat);case atStart=>exact⟨0,qm2 _,rfl,fun i H=>absurd H (qmy _),qlw _ _⟩
 case round=>
  obtain⟨k,hk,rfl,u,t⟩:=hrel;by_cases G:k<rs.length
  ·have Q:(k:Int)<(rs.length:Int):=aj;obtain⟨b,A,Z,k1,k2,K,L⟩:=I.out.below t.out k G;subst Z;have B:0<k->wr.cell? (ay b (A+(k-1)*2))=some (uZ ((rs.getD (k-1) (0,0)).1:Int)):=fun h0=>by
    obtain⟨b',T,D,M,_⟩:=I.out.below t.out (k-1) aj;simp at D;obtain⟨rfl,rfl⟩:=D;exact M
   have f:Hid (uz rs k=(decide ((rs.getD k (0,0)).1<=(rs.getD k (0,0)).2)&&decide ((rs.getD k (0,0)).2<=dH)&&(decide (k=0)||decide ((rs.getD k (0,0)).2+1<(rs.getD (k-1) (0,0)).1)))):=rfl;have q:uz rs k=false->Hid (sG rs=false):=fun h=>by
    have:(o9 rs.length).all (uz rs)=false:=by rw[List.all_eq_false];exact⟨k,by simpa using G,by simp[h]⟩
    rw[v.out,this];rfl
   have n:uz rs k=true->Hid (∀i,i<k+1->uz rs i=true):=fun h i H=>by
    by_cases e:i=k;·rw[e];exact h
    ·exact u.out i aj
   generalize (rs.getD k (0,0)).1=x at k1 K f;generalize (rs.getD k (0,0)).2=y at k2 L f;generalize (rs.getD (k-1) (0,0)).1=z at B f;generalize uz rs k=r at f q n;have p:=aF (t.out.size);have j:=aF q;have m:=aF n;clear q n I u;by_cases J:x<=y
   ·have U:¬((y:Int)<(x:Int)):=aj;by_cases C:y<=dH
    ·have V:¬((4611686018427387903:Int)<(y:Int)):=by unfold dH at C;omega
     by_cases Y:0<k
     ·have W:(0:Int)<(k:Int):=aj;have N:=B Y;have F:b<wr.heap.size:=qmf _ _ N;have e5:((k:Int)-1).toNat=k-1:=aj;have e6:IntKind.i64.wrap ((k:Int)-1)=(k:Int)-1:=by rw[qnf];omega
      have e7:(k:Int)-1<(rs.length:Int):=aj;have e8:0<=(k:Int)-1:=aj;have e9:IntKind.u64.wrap ((y:Int)+1)=(y:Int)+1:=by rw[qn5];unfold dH at C;omega
      clear B;by_cases P:y+1<z
      ·have d:r=true:=by rw[f.out];simp[J,C,P]
       have g:=m.out d;have X:¬((z:Int)<=(y:Int)+1):=aj;clear f j m d;go_wp2_with fail;generalize o:wr.alloc (.cells #[uZ x,uZ y] 170)=s;have l:Hid (bE w s):=by rw[<-o];exact t.out.alloc p.out _
       have S:s.cell? (ay wr.heap.size 1)=some (uZ y):=by rw[<-o];exact(aL.new wr 170 [uZ x,uZ y]).cell 1
       have j2:s.cell? (ay b (A+(k-1)*2))=some (uZ z):=by rw[<-o,World.cell?_alloc_past _ b _ F];exact N
       clear o;go_quiet (fail);go_wp2;go_roundw;case rel=>exact⟨k+1,aj,by go_num,g,l.out.os,l.out.tape,l.out.output,l.out.size,l.out.block⟩
       case measure=>simp[eT];omega
      ·have d:r=false:=by rw[f.out];simp[P];omega
       have g:=j.out d;have X:(z:Int)<=(y:Int)+1:=aj;clear f j m d;go_wp2_with fail;generalize o:wr.alloc (.cells #[uZ x,uZ y] 170)=s;have l:Hid (bE w s):=by rw[<-o];exact t.out.alloc p.out _
       have S:s.cell? (ay wr.heap.size 1)=some (uZ y):=by rw[<-o];exact(aL.new wr 170 [uZ x,uZ y]).cell 1
       have j2:s.cell? (ay b (A+(k-1)*2))=some (uZ z):=by rw[<-o,World.cell?_alloc_past _ b _ F];exact N
       clear o;go_quiet (fail);go_wp2;go_ret;exact⟨dK g.out.symm,l.out.os,l.out.tape,l.out.output,l.out.size,l.out.block⟩
     ·have W:decide ((0:Int)<(k:Int))=false:=rR;have d:r=true:=by rw[f.out];simp[J,C];omega
      have g:=m.out d;clear f j m d B;go_wp2_with fail;generalize o:wr.alloc (.cells #[uZ x,uZ y] 170)=s;have l:Hid (bE w s):=by rw[<-o];exact t.out.alloc p.out _
      have S:s.cell? (ay wr.heap.size 1)=some (uZ y):=by rw[<-o];exact(aL.new wr 170 [uZ x,uZ y]).cell 1
      clear o;go_quiet (fail);go_wp2;go_roundw;case rel=>exact⟨k+1,aj,by go_num,g,l.out.os,l.out.tape,l.out.output,l.out.size,l.out.block⟩
      case measure=>simp[eT];omega
    ·have V:(4611686018427387903:Int)<(y:Int):=by unfold dH at C;omega
     have d:r=false:=by rw[f.out];simp[C]
     have g:=j.out d;clear f j m d B;go_wp2;go_ret;exact⟨dK g.out.symm,t.out.alloc p.out _⟩
   ·have U:(y:Int)<(x:Int):=aj;have d:r=false:=by rw[f.out];simp[J]
    have g:=j.out d;clear f j m d B;go_wp2;go_ret;exact⟨dK g.out.symm,t.out.alloc p.out _⟩
  ·obtain rfl:k=rs.length:=aj;have E:Hid (sG rs=decide (0<rs.length)):=by
    have:(o9 rs.length).all (uz rs)=true:=by rw[qod];intro i H;exact u.out i (by simpa using H)
    rw[v.out,this];rfl
   clear v u;go_wp2;go_ret;exact⟨dK (by rw[E.out,decide_eq_decide]),t.out⟩
structure Fr where
 aD:Int
 aG:Int
 aC:Nat
 aN:Nat
 aT:Nat
 bG:Bool
 id:Nat
 aH:Nat
 data:ByteArray
 ranges:bZ
structure nQ (w:Wq) (b off:Nat) (f:Fr) (ra:Option V3) (rc:Nat):Prop where
 c0:w.cell? (ay b off)=some (iZ f.aD)
 c1:w.cell? (ay b (off+1))=some (iZ f.aG)
 c2:w.cell? (ay b (off+2))=some (uZ f.aC)
 c3:w.cell? (ay b (off+3))=some (uZ f.aN)
 c4:w.cell? (ay b (off+4))=some (uZ f.aT)
 c5:w.cell? (ay b (off+5))=some (.bool f.bG)
 c6:w.cell? (ay b (off+6))=some (uZ f.id)
 c7:w.cell? (ay b (off+7))=some (uZ f.aH)
 c8:w.cell? (ay b (off+8))=some (.string f.data)
 c9:w.cell? (ay b (off+9))=some (.slice ra f.ranges.length rc)
 qO:jA w ra f.ranges
 Bb:f.ranges.length<=1000000000
 Bc:f.data.size<=1000000000
 k0: -9223372036854775808<=f.aD/\f.aD<=9223372036854775807
 s0: -9223372036854775808<=f.aG/\f.aG<=9223372036854775807
 u0:f.aC<18446744073709551616/\f.aN<18446744073709551616/\f.aT<18446744073709551616/\f.id<18446744073709551616/\f.aH<18446744073709551616
def nQ.below{w w':Wq}{b a:Nat}{f:Fr}{d:Option V3}{g:Nat}(h:nQ w b a f d g)(c:bE w w'):nQ w' b a f d g:=by have i:=qmf _ _ h.c0;have e:∀o,w'.cell? (ay b o)=w.cell? (ay b o):=fun o=>c.cell (p:=(ay b o)) i;exact⟨by rw[e,h.c0],by rw[e,h.c1],by rw[e,h.c2],by rw[e,h.c3],by rw[e,h.c4],by rw[e,h.c5],by rw[e,h.c6],by rw[e,h.c7],by rw[e,h.c8],by rw[e,h.c9],h.qO.below c,h.Bb,h.Bc,h.k0,h.s0,h.u0⟩
def nQ.drewN{w:Wq}{b a:Nat}{f:Fr}{c:Option V3}{d:Nat}(h:nQ w b a f c d)(q:Nat):nQ (w.drewN q) b a f c d:=h.below ⟨rfl,rfl,rfl,qj _,fun _ _=>rfl⟩
def qy(f:Fr):Bool:=decide (f.aC<=dH)&&decide (f.aN<=dH)&&decide (f.aT<=dH)&&decide (f.id<=dH)&&decide (f.aH<=dH)
def ny(f:Fr):Bool:=
 if f.aD=2 then sG f.ranges else if f.aD=3 then decide (f.aN<=f.aC)else if f.aD=4 then decide (f.data.size+f.aC<=dH)else true
def snd(f:Fr):Bool:=decide (1<=f.aD/\f.aD<=8)&&qy f&&decide (0<=f.aG/\f.aG<8)&&ny f
def qii(a b c d e:Nat):∃f:Nat,(∀g t w,(tL g t #[uZ a,uZ b,uZ c,uZ d,uZ e]).run prog w=.ok (uZ f) w)/\∀B,f<=B↔a<=B/\b<=B/\c<=B/\d<=B/\e<=B:=by
 refine⟨max (max (max (max a b) c) d) e,fun g t w=>?_,fun B=>by simp only[qp0,and_assoc]⟩;simp only[tL,qpa,qpd,Builtin.max2];simp only[qnv,qow,qp8];congr 2
 split<;>(try split)<;>(try split)<;>(try split)<;>omega
def zA{c:Nat}{f:Fr}{p:Option V3}{r:Nat}(h:nQ w b c f p r):qH 286 #[aJ b c] w (.bool (qy f)) fun s=>∃q,s=w.drewN q:=by
 have l:Hid (qy f=(decide (f.aC<=dH)&&decide (f.aN<=dH)&&decide (f.aT<=dH)&&decide (f.id<=dH)&&decide (f.aH<=dH))):=rfl;have u:=h.c2;have v:=h.c3;have x:=h.c4;have y:=h.c6;have z:=h.c7;obtain⟨u1,u2,u3,u4,u5⟩:=h.u0;obtain⟨o,n,d⟩:=qii f.aC f.aN f.aT f.id f.aH;have m:Hid (qy f=decide ((o:Int)<=4611686018427387903)):=by
  rw[l.out,qpn];have:=d 4611686018427387903;simp only[qmg];constructor;·rintro⟨⟨⟨⟨e,g⟩,i⟩,j⟩,k⟩;have:=this.2 ⟨of_decide_eq_true e,of_decide_eq_true g,of_decide_eq_true i,of_decide_eq_true j,of_decide_eq_true k⟩;exact decide_eq_true aj
  ·intro a;have t:=of_decide_eq_true a;obtain⟨e,g,i,j,k⟩:=this.1 aj;exact⟨⟨⟨⟨decide_eq_true e,decide_eq_true g⟩,decide_eq_true i⟩,decide_eq_true j⟩,decide_eq_true k⟩
 clear h l d;go_enter func286,ntmps286;go_wp2_with fail;go_quiet (fail);go_wp2;go_ret;exact⟨dK m.out.symm,nq,rfl⟩
def xU{i:Nat}{f:Fr}{n:Option V3}{o:Nat}(w:Wq)(h:nQ w b i f n o)(k:f.aC<=dH):qH 288 #[aJ b i] w (.bool (ny f)) fun p=>bE w p:=by
 have c:Hid (ny f=if f.aD=2 then sG f.ranges else if f.aD=3 then decide (f.aN<=f.aC)else if f.aD=4 then decide (f.data.size+f.aC<=dH)else true):=rfl;have l:=Ba n f.ranges o w h.Bb h.qO;have j:=aF l;clear l;have v:=h.c0;have x:=h.c2;have y:=h.c3;have z:=h.c8;have A:=h.c9;have D:=h.Bc;obtain⟨u1,u2,u3,u4,u5⟩:=h.u0;clear h;by_cases a:f.aD=2
 ·have e:Hid (ny f=sG f.ranges):=by rw[c.out,bM a];rfl
  have s:(f.aD==2)=true:=by simp[a]
  clear c a;go_enter func288,ntmps288;go_wp2_with fail;refine bH j.out ?_;rintro p m;have q:=aF m;clear m;go_wp2;go_ret;exact⟨dK e.out.symm,q.out⟩
 ·have s:(f.aD==2)=false:=by simp[a]
  by_cases d:f.aD=3
  ·have e:Hid (ny f=decide (f.aN<=f.aC)):=by rw[c.out,aV a,bM d];rfl
   have t:(f.aD==3)=true:=by simp[d]
   clear c a d j;go_enter func288,ntmps288;go_wp2_with fail;go_quiet (fail);go_wp2;go_ret;exact⟨dK (by rw[e.out,decide_eq_decide]),rfl,rfl,rfl,qj _,fun _ _=>rfl⟩
  ·have t:(f.aD==3)=false:=by simp[d]
   by_cases g:f.aD=4
   ·have e:Hid (ny f=decide (f.data.size+f.aC<=dH)):=by rw[c.out,aV a,aV d,bM g];rfl
    have u:(f.aD==4)=true:=by simp[g]
    have B:IntKind.u64.wrap (4611686018427387903-(f.aC:Int))=4611686018427387903-(f.aC:Int):=by rw[qn5];unfold dH at k;omega
    have C:IntKind.u64.wrap ((f.data.size:Nat):Int)=((f.data.size:Nat):Int):=by rw[qn5];omega
    have r:=aF k;clear c a d g j k;go_enter func288,ntmps288;go_wp2_with fail;go_quiet (fail);go_wp2;go_ret;exact⟨dK (by rw[e.out,decide_eq_decide];have:=r.out;unfold dH at *;omega),rfl,rfl,rfl,qj _,fun _ _=>rfl⟩
   ·have e:Hid (ny f=true):=by rw[c.out,aV a,aV d,aV g];rfl
    have u:(f.aD==4)=false:=by simp[g]
    clear c a d g j;go_enter func288,ntmps288;go_wp2;go_ret;exact⟨dK e.out.symm,qlw _ _⟩
def uD(l:Nat)(f:Fr)(C:Option V3)(D:Nat)(h:nQ w b l f C D):qH 218 #[aJ b l] w (.bool (snd f)) fun E=>bE w E:=by
 have c:Hid (snd f=(decide (1<=f.aD/\f.aD<=8)&&qy f&&decide (0<=f.aG/\f.aG<8)&&ny f)):=rfl;have G:=h.c0;have H:=h.c1;have m:=aF (fun s=>BZ f.aD s);have t:=aF (fun s=>Gz f.aG s);have g:=aF (zA h);have u:=aF (fun q n=>xU (w.drewN q) (h.drewN q) n);have k:qy f=true->f.aC<=dH:=fun p=>by unfold qy at p;simp only[qmg,decide_eq_true_eq]at p;exact p.1.1.1.1
 have j:=aF k;clear h k;generalize decide (1<=f.aD/\f.aD<=8)=y at *
 generalize qy f=z at *
 generalize decide (0<=f.aG/\f.aG<8)=A at *
 generalize ny f=B at *
 cases y
 ·have d:Hid (snd f=false):=by rw[c.out];rfl
  clear c;go_enter func218,ntmps218;go_wp2_with fail;refine bH (m.out _) ?_;rintro r a;subst a;go_wp2;go_ret;exact⟨dK d.out.symm,qlw _ _⟩
 ·cases z
  ·have d:Hid (snd f=false):=by rw[c.out];rfl
   clear c;go_enter func218,ntmps218;go_wp2_with fail;refine bH (m.out _) ?_;rintro r a;subst a;go_wp2_with fail;refine bH g.out ?_;rintro x ⟨q,rfl⟩;go_wp2;go_ret;exact⟨dK d.out.symm,rfl,rfl,rfl,qj _,fun _ _=>rfl⟩
  ·cases A
   ·have d:Hid (snd f=false):=by rw[c.out];rfl
    clear c;go_enter func218,ntmps218;go_wp2_with fail;refine bH (m.out _) ?_;rintro r a;subst a;go_wp2_with fail;refine bH g.out ?_;rintro x ⟨q,rfl⟩;go_wp2_with fail;refine bH (t.out _) ?_;rintro F e;subst e;go_wp2;go_ret;exact⟨dK d.out.symm,rfl,rfl,rfl,qj _,fun _ _=>rfl⟩
   ·have d:Hid (snd f=B):=by rw[c.out];rfl
    have n:=j.out rfl;have o:=aF (fun q=>u.out q n);clear c j u n;go_enter func218,ntmps218;go_wp2_with fail;refine bH (m.out _) ?_;rintro r a;subst a;go_wp2_with fail;refine bH g.out ?_;rintro x ⟨q,rfl⟩;go_wp2_with fail;refine bH (t.out _) ?_;rintro F e;subst e;go_wp2_with fail;refine bH (o.out q) ?_;rintro I v;have i:=aF v;clear v;go_wp2;go_ret;exact⟨dK d.out.symm,i.out.os,i.out.tape,i.out.output,i.out.size,i.out.block⟩
end Go.Proofs.YtphbledmopchnaaGreatDoor
namespace Go.Proofs.YtphbledmopchnaaGreatDoor
open Go.RowKit Go.Lib Go.Shelf Mm Tryz
variable {B0 aB k n xb:Nat}{e t:Vg}{l:List UInt8}{rs:bZ}{s w w' y:Wq}{v z:WA}
def ED(B0 a:Nat)(b w:Wq):Prop:=a<=w.heap.size/\∀k,B0<=k->k<a->w.heap[k]?=b.heap[k]?
structure EF (B0 B1:Nat) (w1 w:Wq) (v:WA) (l:List UInt8) (b off:Nat) (f:Fr) (ra:Option V3) (rc:Nat):Prop where
 fG:ED B0 B1 w1 w
 buf:lG w v l
 out:∀k,v.ownBlock=some k->k<B0\/B1<=k
 sH:nQ w b off f ra rc
 nb:v.ownBlock≠some b
 nr:∀x,ra=some x->v.ownBlock≠some x.block
 rl:∀x,ra=some x->x.block<w.heap.size
def cell_of{a:V3}(h:w.cell? a=some v)(e:w'.heap[a.block]?=w.heap[a.block]?):w'.cell? a=some v:=by rw[World.cell?_of_block e];exact h
def jA.of{a:Option V3}(h:jA w a rs)(e:∀x:V3,a=some x->x.block<w.heap.size->w'.heap[x.block]?=w.heap[x.block]?):jA w' a rs:=fun j l=>by obtain⟨b,c,g,f,i,k⟩:=h j l;have m:=qmf _ _ f;have d:=e _ g m;exact⟨b,c,g,cell_of f d,cell_of i d,k⟩
def nQ.of{w w':Wq}{b a:Nat}{f:Fr}{c:Option V3}{d:Nat}(h:nQ w b a f c d)(e:w'.heap[b]?=w.heap[b]?)(g:∀x:V3,c=some x->x.block<w.heap.size->w'.heap[x.block]?=w.heap[x.block]?):nQ w' b a f c d:=
 ⟨cell_of h.c0 e,cell_of h.c1 e,cell_of h.c2 e,cell_of h.c3 e,cell_of h.c4 e,cell_of h.c5 e,cell_of h.c6 e,cell_of h.c7 e,cell_of h.c8 e,cell_of h.c9 e,h.qO.of g,h.Bb,h.Bc,h.k0,h.s0,h.u0⟩
def EF.next{j:Nat}{p:Wq}{v':WA}{l':List UInt8}{b g:Nat}{f:Fr}{n:Option V3}{o:Nat}(h:EF B0 j p w v l b g f n o)(t:lG w' v' l')(a:Gr w w' v v'):EF B0 j p w' v' l' b g f n o:=by
 have d:=qmf _ _ h.sH.c0;have q:=a.1.size;have u:=h.fG.1;refine⟨⟨qlz u q,fun k r s=>(a.1.block k aj (fun e=>by rcases h.out k e.symm with e'|e'<;>omega)).trans (h.fG.2 k r s)⟩,t,?_,?_,?_,?_,fun x c=>bR (h.rl x c)⟩
 ·intro k i;rcases a.2 k i with e|e;·exact h.out k e
  ·exact .inr aj
 ·exact h.sH.of (a.1.block b d (fun e=>h.nb e.symm)) (fun x c m=>a.1.block _ m (fun e=>h.nr x c e.symm))
 ·intro e;rcases a.2 b e with e'|e';·exact h.nb e'
  ·have y:b<w.heap.size:=d;omega
 ·intro x c e;have m:=h.rl x c;rcases a.2 _ e with e'|e';·exact h.nr x c e'
  ·omega
def EF.alloc{B0 d:Nat}{i w:Wq}{v:WA}{l:List UInt8}{b a:Nat}{f:Fr}{e:Option V3}{g:Nat}(h:EF B0 d i w v l b a f e g)(o:Obj):EF B0 d i (w.alloc o) v l b a f e g:=by have c:=qmf _ _ h.sH.c0;have q:=h.fG.1;exact⟨⟨rR,fun k j m=>(qmr w o k aj).trans (h.fG.2 k j m)⟩,h.buf.alloc o,h.out,h.sH.of (qmr w o b c) (fun x _ n=>qmr w o _ n),h.nb,h.nr,fun x p=>by have:=h.rl x p;simp;omega⟩
def Wr(B0 j:Nat)(o:Wq)(k:WA)(h:List UInt8)(b a:Nat)(f:Fr)(m:Option V3)(n:Nat):Prop:=
 ∃g d,k=.func (.func g) #[] d/\(∀args w,(callFunc g args).run prog w=.ok (.enter g args) w)/\∀w v l,EF B0 j o w v l b a f m n->l.length+h.length<=35184372088832->WB prog g (#[v,aJ b a]++d) w fun e i=>∃c,e=.returned c/\lG i c (l++h)/\Gr w i v c
def ED.cell{B0 a:Nat}{b w:Wq}(h:ED B0 a b w){k o:Nat}{v:WA}(c:B0<=k)(d:k<a)(e:b.cell? (ay k o)=some v):w.cell? (ay k o)=some v:=cell_of e (h.2 k c d)
def uE(h:lG w v l)(x:UInt8)(c:Int)(j:c=((x.toNat:Nat):Int))(m:l.length<=35184372088832):∃b d,(∀k,(fA #[60,60] k #[v,dh w.heap.size 1 1]).run prog (w.alloc (.cells #[.int .u8 c] 5))=.ok b d)/\lG d b (l++[x])/\Gr w d v b:=by
 obtain⟨b,d,e,f,g⟩:=mg (h.alloc (.cells #[.int .u8 c] 5)) (ay w.heap.size 0) 1 1 [x] rfl aj (fun i u a=>by
  match i,a with
  |0,a=>simp[bX]at a;rw[qmb,qm5,(aL.new w 5 [.int .u8 c]).cell,<-a,j];rfl
  |i+1,a=>simp[bX]at a) aj
 exact⟨b,d,e,f,g.alloc _⟩
def U0{e:Nat}{m:Wq}(xb:Nat)(x:UInt8)(b d:Nat)(f:Fr)(s:Option V3)(t:Nat)(p:B0<=xb)(q:xb<e)(k:m.cell? (ay xb 0)=some (.int .u8 ((x.toNat:Nat):Int))):Wr B0 e m (.func (.func 321) #[] #[aJ xb 0]) [x] b d f s t:=by refine⟨321,_,rfl,enters_of func321 bO rfl,fun w v l c j=>?_⟩;have r:=c.fG.cell p q k;obtain⟨u,y,a,g,i⟩:=uE c.buf x ((x.toNat:Nat):Int) rfl (by simp at j;omega);have n:=aF g;have o:=aF i;generalize ((x.toNat:Nat):Int)=X at r a;clear g i c j k;go_enter func321,ntmps321;go_wp2_with (at_builtin;refine qmm _ rfl _ _ _ _ rfl _ _ rfl rfl _ _ (a _) ?_);go_ret;exact⟨u,rfl,n.out,o.out⟩
def GA{p:Nat}(b g:Nat)(f:Fr)(q:Option V3)(r:Nat):Wr B0 p s (.func (.func 331) #[] #[]) [if f.bG then 9 else 8] b g f q r:=by
 refine⟨331,_,rfl,enters_of func331 bO rfl,fun w v l e n=>?_⟩;have j:=e.sH.c5;obtain⟨o,t,a,k,m⟩:=uE e.buf (if f.bG then 9 else 8) (if f.bG then 9 else 8) (by cases f.bG<;>rfl) (by simp at n;omega);have c:=aF k;have i:=aF m;clear k m e n;cases d:f.bG;·rw[d]at j a;go_enter func331,ntmps331;go_wp2_with (at_builtin;refine qmm _ rfl _ _ _ _ rfl _ _ rfl rfl _ _ (a _) ?_);go_ret;rw[d]at c;exact⟨o,rfl,c.out,i.out⟩
 ·rw[d]at j a;go_enter func331,ntmps331;go_wp2_with (at_builtin;refine qmm _ rfl _ _ _ _ rfl _ _ rfl rfl _ _ (a _) ?_);go_ret;rw[d]at c;exact⟨o,rfl,c.out,i.out⟩
def QV{A:Wq}(b j:Nat)(f:Fr)(x:Option V3)(y:Nat)(a:0<=f.aG)(i:f.aG<8):Wr B0 n A (.func (.func 327) #[] #[]) (Num.aB f.aG.toNat) b j f x y:=by refine⟨327,_,rfl,enters_of func327 bO rfl,fun w v l d t=>?_⟩;have r:=d.sH.c1;have c:=fq v l f.aG.toNat d.buf aj aj;obtain⟨s,g⟩:=Int.eq_ofNat_of_zero_le a;rw[g]at r;rw[g,qp6]at c ⊢;have u:(s:Int)<8:=aj;have o:=aF c;clear c d t g a i;go_enter func327,ntmps327;go_wp2_with fail;refine o.out.mono ?_;rintro e B ⟨z,rfl,k,m⟩;have p:=aF k;have q:=aF m;clear k m;go_wp2;go_ret;exact⟨z,rfl,p.out,q.out⟩
def rC{m:Nat}(g j i n:Nat)(b a:Nat)(f:Fr)(t:Option V3)(u:Nat)(D:B0<=g)(E:g<m)(s:y.cell? (ay g 0)=some (.func (.func j) #[] #[]))(J:∀args w,(callFunc j args).run prog w=.ok (.enter j args) w)(c:∀w,WB prog j #[aJ b a] w fun e x=>e=.returned (aJ b (a+i))/\x=w)(q:∀w,nQ w b a f t u->w.cell? (ay b (a+i))=some (uZ n))(r:n<=dH):Wr B0 m y (.func (.func 329) #[] #[aJ g 0]) (Num.aB n) b a f t u:=by refine⟨329,_,rfl,enters_of func329 bO rfl,fun w v l d F=>?_⟩;have H:=d.fG.cell D E s;have I:=q w d.sH;have z:=aF (fq v l n d.buf (by unfold dH at r;omega) aj);have C:=aF (c w);clear c d F q r s;go_enter func329,ntmps329;go_wp2_with fail;refine bH C.out ?_;rintro x k;subst k;go_wp2_with fail;refine z.out.mono ?_;rintro e K ⟨G,rfl,o,p⟩;have A:=aF o;have B:=aF p;clear o p;go_wp2;go_ret;exact⟨G,rfl,A.out,B.out⟩
def B_(h:lG w v l)(t:0<l.length)(s:ByteArray)(G:l.length+s.size<=70368744177664):∃x y,(∀p,(fA #[60,9] p #[v,.string s]).run prog w=.ok x y)/\lG y x (l++s.data.toList)/\Gr w y v x:=by
 obtain⟨i,A,F,f,E⟩:=info_parts Jp;have z:Src prog i.size 9 (.string s) s.size (byteCells s) w:=by rw[f];exact Src.ofString w u9 s
 have m:(byteCells s).length=s.size:=byteCells_length s;have c:byteCells s=bX s.data.toList:=rfl;have a:s.data.toList.length=s.size:=by rw[qpp];rfl
 rcases h with⟨_,rfl⟩|⟨g,cap,cs,rfl,hB,h2,h3,h4,h5,h6⟩;·simp at t
 ·by_cases B:l.length+s.size<=cap
  ·have b:=fun p=>run_append_room_src (P:=prog) (w:=w) 60 9 p 5 i u29 A g 0 l.length cap _ s.size (byteCells s) z B (fun j n=>by rw[hB.cell,f];simp;omega) (fun j _=>hB.frozen _);have o:=iI cs (byteCells s) (0+l.length*i.size) (by rw[f];omega);rw[xQ hB _ (by rw[f];omega) (by rw[c];exact iJ _)]at b;refine⟨_,_,b,.inr ⟨g,cap,_,by rw[qm0,a],hB.put _,?_,by rw[qm0,a];exact B,h4,?_,dM h6 (by rw[c];exact iJ _)⟩,dZ w g _,fun k r=>.inl r⟩;·rw[bV _ _ _ (by rw[f];omega),h2]
   ·rw[m,f,qo7,qm5]at o;rw[qm0,a,f,qo7,qm5,o,jV,h5,c]
  ·have D:(kg i.size l.length (dh g l.length cap)).run prog w.drew=.ok (bX l).toArray w.drew:=by
    rw[f];exact run_firstCells_some w.drew 1 l.length (ay g 0) l.length cap (bX l) (by rw[dN,qo7]) (fun j u n=>by
     rw[qmb,qm5];show w.cell? _=_;rw[hB.cell];rw[<-h5,qm6]at n;split at n;·exact n
     ·cases n)
   have b:=fun p=>run_append_grow_src (P:=prog) (w:=w) 60 9 p 5 i (.int .u8 0) u29 A F (some (ay g 0)) l.length cap (bX l) D _ s.size (byteCells s) z aj aj (by rw[E];exact growslice_fits aj aj);have q:=grownCap_ge w (l.length+s.size) cap 5;have e:=grownCap_le_maxLen w (l.length+s.size) cap 5 (by unfold maxLen;omega);unfold maxLen at e;have C:((bX l++byteCells s).toArray++eB (rD .u8 0).cells (grownCap w (l.length+s.size) cap 5-(l.length+s.size)))=(bX l++byteCells s++(eB (rD .u8 0).cells (grownCap w (l.length+s.size) cap 5-(l.length+s.size))).toList).toArray:=by apply qox;simp
   rw[C]at b;refine⟨_,_,b,.inr ⟨w.heap.size,_,_,by rw[qm0,a],aL.new w 5 _,?_,by rw[qm0,a];exact q,e,?_,?_⟩,fu (jm w _) (qol w.drew _ _),?_⟩;·rw[qm0,qm0,u_,m,dN];omega
   ·rw[qm0,a,qnz (by rw[qm0,dN];omega),qmo (by rw[qm0,dN];omega),jV,c]
   ·intro u d;rcases qm7.1 d with d|d
    ·rcases qm7.1 d with d|d;·exact iJ l u d
     ·rw[c]at d;exact iJ _ u d
    ·exact zw _ u d
   ·intro k r;simp[fE]at r;exact .inr aj
def Y_{z:Nat}{H:Wq}(b u:Nat)(f:Fr)(E:Option V3)(F:Nat):Wr B0 z H (.func (.func 333) #[] #[]) (Num.aB f.data.size++f.data.data.toList) b u f E F:=by
 refine⟨333,_,rfl,enters_of func333 bO rfl,fun w v l m x=>?_⟩;have J:=m.sH.c8;have K:=m.sH.Bc;have A:=aF (fq v l f.data.size m.buf aj aj);have d:=Num.iQ f.data.size;have n:0<(Num.aB f.data.size).length:=by rw[d];exact Nat.pow_pos gP
 have s:(Num.aB f.data.size).length<=8:=by rw[d];have:=Num.O5 f.data.size;have:2 ^ Num.code f.data.size<=2 ^ 3:=qpk gP this;omega
 have t:f.data.data.toList.length=f.data.size:=by rw[qpp];rfl
 have k:=fun q g a i=>(m.next (w':=q) (v':=g) (l':=l++Num.aB f.data.size) a i).sH.c8;have I:=aF k;have p:=fun q g (a:lG q g (l++Num.aB f.data.size))=>B_ a (by rw[qm0];omega) f.data (by rw[qm0]at x ⊢;omega);have r:=aF p;clear k p m x d n s t;go_enter func333,ntmps333;go_wp2_with fail;refine A.out.mono ?_;rintro e y ⟨g,rfl,a,i⟩;have D:=I.out y g a i;obtain⟨G,L,o,c,j⟩:=r.out y g a;rw[qmh]at c;have B:=aF c;have C:=aF (i.trans j);clear a i c j;go_wp2_with (at_builtin;refine qmm _ rfl _ _ _ _ rfl _ _ rfl rfl _ _ (o _) ?_);go_ret;exact⟨G,rfl,B.out,C.out⟩
def jc(rs:bZ):Nat->List UInt8
 |0=>[]
 |k+1=>jc rs k++(Num.aB ((rs.getD k (0,0)).1-(rs.getD (k+1) (0,0)).2-2)++Num.aB ((rs.getD (k+1) (0,0)).2-(rs.getD (k+1) (0,0)).1))
def kH(rs:bZ):List UInt8:=
 Num.aB (rs.getD 0 (0,0)).2++(Num.aB (rs.length-1)++Num.aB ((rs.getD 0 (0,0)).2-(rs.getD 0 (0,0)).1))
def gV(rs:bZ):List UInt8:=kH rs++jc rs (rs.length-1)
def gJ(n:Nat):(Num.aB n).length<=8:=by rw[Num.iQ];have:2 ^ Num.code n<=2 ^ 3:=qpk gP (Num.O5 n);omega
def Js(rs:bZ):∀k,(jc rs k).length<=16*k
 |0=>by simp[jc]
 |k+1=>by have h:=Js rs k;have a:=gJ ((rs.getD k (0,0)).1-(rs.getD (k+1) (0,0)).2-2);have b:=gJ ((rs.getD (k+1) (0,0)).2-(rs.getD (k+1) (0,0)).1);rw[jc,qm0,qm0];omega
def Gr.cell{w w':Wq}{v v':WA}(h:Gr w w' v v'){k o:Nat}{x:WA}(b:w.cell? (ay k o)=some x)(a:v.ownBlock≠some k):w'.cell? (ay k o)=some x:=
 cell_of b (h.1.block k (qmf _ _ b) (fun e=>a e.symm))
def O7(h:sG rs=true):0<rs.length/\∀k,k<rs.length->(rs.getD k (0,0)).1<=(rs.getD k (0,0)).2/\(rs.getD k (0,0)).2<=dH/\(0<k->(rs.getD k (0,0)).2+1<(rs.getD (k-1) (0,0)).1):=by
 unfold sG at h;rw[qmg,qod]at h;refine⟨of_decide_eq_true h.2,fun k a=>?_⟩;have:=h.1 k (by simpa using a);unfold uz at this;rw[qmg,qmg,Bool.or_eq_true]at this;refine⟨of_decide_eq_true this.1.1,of_decide_eq_true this.1.2,fun b=>?_⟩;rcases this.2 with e|e;·have:=of_decide_eq_true e;omega
 ·exact of_decide_eq_true e
def Ca(rs:bZ):∀(m k:Nat),k<=m->(jc rs k).length<=(jc rs m).length
 |0,k,h=>by obtain rfl:k=0:=aj;exact qj _
 |m+1,k,h=>by
  by_cases e:k=m+1;·rw[e];exact qj _
  ·have:=Ca rs m k aj;rw[jc,qm0];omega
def U2(c:∀k,k<rs.length->(rs.getD k (0,0)).1<=(rs.getD k (0,0)).2/\(rs.getD k (0,0)).2<=dH/\(0<k->(rs.getD k (0,0)).2+1<(rs.getD (k-1) (0,0)).1))(k:Nat)(h:k+1<rs.length):∃a b:Nat,a=(rs.getD k (0,0)).1-(rs.getD (k+1) (0,0)).2-2/\b=(rs.getD (k+1) (0,0)).2-(rs.getD (k+1) (0,0)).1/\(((rs.getD k (0,0)).1:Nat):Int)-(((rs.getD (k+1) (0,0)).2:Nat):Int)=(((rs.getD k (0,0)).1-(rs.getD (k+1) (0,0)).2:Nat):Int)/\(((rs.getD k (0,0)).1-(rs.getD (k+1) (0,0)).2:Nat):Int)-2=(a:Int)/\(((rs.getD (k+1) (0,0)).2:Nat):Int)-(((rs.getD (k+1) (0,0)).1:Nat):Int)=(b:Int)/\a<4611686018427387904/\b<4611686018427387904/\IntKind.u64.wrap ((((rs.getD k (0,0)).1-(rs.getD (k+1) (0,0)).2:Nat)):Int)=((((rs.getD k (0,0)).1-(rs.getD (k+1) (0,0)).2:Nat)):Int)/\IntKind.u64.wrap (a:Int)=(a:Int)/\IntKind.u64.wrap (b:Int)=(b:Int):=by obtain⟨i,d,e⟩:=c (k+1) aj;have f:=e aj;rw[qp4]at f;obtain⟨j,g,_⟩:=c k aj;unfold dH at d g;exact⟨_,_,rfl,rfl,aj,aj,aj,aj,aj,by rw[qn5];omega,by rw[qn5];omega,by rw[qn5];omega⟩
def QW{B1:Nat}{w1:Wq}(b X:Nat)(f:Fr)(ra:Option V3)(rc:Nat)(hR:sG f.ranges=true)(x7:f.ranges.length<=rc):Wr B0 B1 w1 (.func (.func 325) #[] #[]) (gV f.ranges) b X f ra rc:=by
 refine⟨325,_,rfl,enters_of func325 bO rfl,fun w v l R hl=>?_⟩;obtain⟨I,W⟩:=O7 hR;have x8:=R.sH.Bb;have F:=Ca f.ranges (f.ranges.length-1);have hf:l.length+((kH f.ranges).length+(jc f.ranges (f.ranges.length-1)).length)<=35184372088832:=by unfold gV at hl;rw[qm0]at hl;exact hl
 obtain⟨rb,ro,O,r1,r2,_,_⟩:=R.sH.qO 0 I;rw[qpg,qnl]at r1 r2;have xl:rb<w.heap.size:=qmf _ _ r1;have hm:=R.nr _ O;have c9:=R.sH.c9;rw[O]at c9;obtain⟨q1,q2,_⟩:=W 0 I;have ho:=R.buf.lt;have hn:=R.alloc (.cells #[(uZ ((f.ranges.getD 0 (0,0)).1:Int)),(uZ ((f.ranges.getD 0 (0,0)).2:Int))] 170);have hc:(w.alloc (.cells #[(uZ ((f.ranges.getD 0 (0,0)).1:Int)),(uZ ((f.ranges.getD 0 (0,0)).2:Int))] 170)).cell? (ay w.heap.size 0)=some (uZ ((f.ranges.getD 0 (0,0)).1:Int)):=(aL.new w 170 [(uZ ((f.ranges.getD 0 (0,0)).1:Int)),(uZ ((f.ranges.getD 0 (0,0)).2:Int))]).cell 0;have he:(w.alloc (.cells #[(uZ ((f.ranges.getD 0 (0,0)).1:Int)),(uZ ((f.ranges.getD 0 (0,0)).2:Int))] 170)).cell? (ay w.heap.size 1)=some (uZ ((f.ranges.getD 0 (0,0)).2:Int)):=(aL.new w 170 [(uZ ((f.ranges.getD 0 (0,0)).1:Int)),(uZ ((f.ranges.getD 0 (0,0)).2:Int))]).cell 1;have D:Hid (kH f.ranges=Num.aB (f.ranges.getD 0 (0,0)).2++(Num.aB (f.ranges.length-1)++Num.aB ((f.ranges.getD 0 (0,0)).2-(f.ranges.getD 0 (0,0)).1))):=rfl;have x5:l.length+24<=35184372088832+24:=aj;have xL:=aF hn;have HK:=aF (dw hc he);have h5:=aF ho;have t:=aF hf;have EZ:=aF F;have h0:=aF W;have h4:=aF O;have A:=D;have MN:Hid (gV f.ranges=kH f.ranges++jc f.ranges (f.ranges.length-1)):=rfl;have x0:=aF hm;have HP:=aF R;generalize hj:(f.ranges.getD 0 (0,0)).1=z at *
 generalize x4:(f.ranges.getD 0 (0,0)).2=i at *
 have wM:=aF hj;have g1:(1:Int)<=((f.ranges.length:Nat):Int):=aj;have g2:((f.ranges.length:Nat):Int)<=(rc:Int):=aj;clear R hn hc he ho hf hl F W D hR O hm hj x4 x5;have xf:b<w.heap.size:=qmf _ _ c9;obtain⟨d0,h8⟩:=bT (i-z);have ed:(i:Int)-(z:Int)=(d0:Int):=aj;have xm:d0<=i:=aj;have h2:=aF h8;have q:=aF (fq v l i xL.out.buf (by unfold dH at q2;omega) (bR t.out));have h6:∀(L:Wq) (K:WA),lG L K (l++Num.aB i)->Gr (w.alloc (.cells #[uZ z,uZ i] 170)) L v K->EF B0 B1 w1 L K (l++Num.aB i) b X f ra rc/\L.cell? (ay w.heap.size 0)=some (uZ z)/\L.cell? (ay w.heap.size 1)=some (uZ i)/\K.ownBlock≠some w.heap.size:=fun L K hB hG=>by
  have x:v.ownBlock≠some w.heap.size:=fun e=>bR (h5.out _ e);refine⟨xL.out.next hB hG,hG.cell HK.out.1 x,hG.cell HK.out.2 x,fun e=>?_⟩;rcases hG.2 _ e with e'|e';·exact x e'
  ·simp at e';omega
 have vV:=aF h6;clear h6 h8 HK xL h5 x0;by_cases h7:rc=1
 ·have N:f.ranges.length=1:=aj;subst h7;have Y:Hid (kH f.ranges=Num.aB i++(Num.aB 0++Num.aB (i-z))):=by rw[A.out,N];rfl
  have Za:Hid (gV f.ranges=kH f.ranges):=by rw[MN.out,N];exact qmv _
  rw[N]at c9;clear A MN g1 g2 x8 I x7 N EZ h0 h4;go_enter func325,ntmps325;go_wp2_with fail;refine q.out.mono ?_;rintro e L ⟨K,rfl,d,c⟩;obtain⟨p,V,a1,G⟩:=vV.out L K d c;have o:=aF (fq K _ 0 d aj (by have:=t.out;rw[Y.out]at this;simp only[qm0]at this ⊢;omega));have Q:=aF c;have S:=aF p;have M:=aF G;clear d c p G q vV;go_wp2_with fail;refine o.out.mono ?_;rintro e x2 ⟨v2,rfl,j,a⟩;have b0:=a.cell V M.out;have b1:=a.cell a1 M.out;have n:=S.out.next j a;have H:v2.ownBlock≠some w.heap.size:=fun e=>by
   rcases a.2 _ e with e'|e';·exact M.out e'
   ·have:=qmf _ _ V;simp at this;omega
  have Uz:=aF (fq v2 _ d0 j (by unfold dH at q2;omega) (by have:=t.out;rw[Y.out]at this;simp only[qm0]at this ⊢;omega));have r:=aF (Q.out.trans a);have zB:=aF n;have B:=aF H;clear j a n H o Q S M V a1;go_wp2_with fail;refine Uz.out.mono ?_;rintro e x3 ⟨v3,rfl,C,m⟩;have d1:=m.cell b0 B.out;have U:=zB.out.next C m;rw[qmh,qmh,h2.out,<-Y.out]at U;have T:=aF (r.out.trans m);have Ja:=aF U;clear C m U Uz r zB B b0 b1;go_wp2_with fail;go_loopw [0,7,41] (fun s0 s7 J wr=>J=(iZ 0)/\s0=v3/\wr=x3) (fun _ _ _ _=>0);case atStart=>exact⟨rfl,rfl,rfl⟩
  case round=>obtain⟨rfl,rfl,rfl⟩:=hrel;have g:=Ja.out.buf;rw[<-Za.out]at g;have HF:=aF g;clear g Ja;go_wp2;go_ret;exact⟨_,rfl,HF.out,T.out.alloc _⟩
 ·have g3:¬(rc=1):=h7;go_enter func325,ntmps325;go_wp2_with fail;refine q.out.mono ?_;rintro e L ⟨K,rfl,d,c⟩;obtain⟨p,V,a1,G⟩:=vV.out L K d c;have o:=aF (fq K _ (f.ranges.length-1) d aj (by have:=t.out;rw[A.out]at this;simp only[qm0]at this ⊢;omega));have Q:=aF c;have S:=aF p;have M:=aF G;clear d c p G q vV;go_wp2_with fail;refine o.out.mono ?_;rintro e x2 ⟨v2,rfl,j,a⟩;have b0:=a.cell V M.out;have b1:=a.cell a1 M.out;have n:=S.out.next j a;have H:v2.ownBlock≠some w.heap.size:=fun e=>by
   rcases a.2 _ e with e'|e';·exact M.out e'
   ·have:=qmf _ _ V;simp at this;omega
  have Uz:=aF (fq v2 _ d0 j (by unfold dH at q2;omega) (by have:=t.out;rw[A.out]at this;simp only[qm0]at this ⊢;omega));have r:=aF (Q.out.trans a);have zB:=aF n;have B:=aF H;clear j a n H o Q S M V a1;go_wp2_with fail;refine Uz.out.mono ?_;rintro e x3 ⟨v3,rfl,C,m⟩;have d1:=m.cell b0 B.out;have U:=zB.out.next C m;rw[qmh,qmh,h2.out,<-A.out]at U;have T:=aF (r.out.trans m);have Ja:=aF U;clear C m U Uz r zB B b0 b1;go_wp2_with fail;go_loopw [0,7,41] (fun s0 s7 J wr=>∃k:Nat,k<=f.ranges.length-1/\J=(iZ k)/\s7=(uZ ((f.ranges.getD k (0,0)).1:Nat))/\Hid (EF B0 B1 w1 wr s0 ((l++kH f.ranges)++jc f.ranges k) b X f ra rc)/\Hid (Gr (w.alloc (.cells #[uZ z,uZ i] 170)) wr v s0)) (fun _ _ J _=>f.ranges.length-1-(eT J).toNat);case atStart=>exact⟨0,qm2 _,rfl,by rw[wM.out],by rw[jc,qmv];exact Ja.out,T.out⟩
  case round=>
   obtain⟨k,hk,rfl,rfl,O8,h3⟩:=hrel;by_cases xi:k<f.ranges.length-1
   ·obtain⟨xn,xo,Z,t1,t2,z1,z2⟩:=O8.out.sH.qO (k+1) aj;rw[h4.out]at Z;simp at Z;obtain⟨rfl,rfl⟩:=Z;rw[show ro+(k+1)*2=ro+2+k*2 by omega]at t1 t2;obtain⟨ga,gb,h9,ha,e1,e2,e3,hr,hu,e4,e5,e6⟩:=U2 h0.out k aj;have s:Hid (jc f.ranges (k+1)=jc f.ranges k++(Num.aB ((f.ranges.getD k (0,0)).1-(f.ranges.getD (k+1) (0,0)).2-2)++Num.aB ((f.ranges.getD (k+1) (0,0)).2-(f.ranges.getD (k+1) (0,0)).1))):=rfl;rw[<-h9,<-ha]at s;have E:=EZ.out (k+1) aj;rw[s.out]at E;simp only[qm0]at E;have x6:=t.out;clear h9 ha;generalize (f.ranges.getD k (0,0)).1=xj at e1 e2 e4 ⊢;generalize (f.ranges.getD (k+1) (0,0)).2=u at t2 z2 e1 e2 e3 e4;generalize hZ:(f.ranges.getD (k+1) (0,0)).1=y at t1 z1 e3;clear z1 z2;have hw:=O8.out.alloc (.cells #[uZ y,uZ u] 170);have n0:(wr.alloc (.cells #[uZ y,uZ u] 170)).cell? (ay wr.heap.size 0)=some (uZ y):=(aL.new wr 170 [uZ y,uZ u]).cell 0;have n1:(wr.alloc (.cells #[uZ y,uZ u] 170)).cell? (ay wr.heap.size 1)=some (uZ u):=(aL.new wr 170 [uZ y,uZ u]).cell 1;have x:u0.ownBlock≠some wr.heap.size:=fun e=>bR (O8.out.buf.lt _ e);have q:=aF (fq u0 _ ga hw.buf hr (by simp only[qm0];omega));have hg:(((l++kH f.ranges)++jc f.ranges k)++Num.aB ga).length<=35184372088832:=by simp only[qm0];omega
    have hy:=aF hg;have x9:=aF hu;have HW:=aF hw;have hv:=aF (dw n0 (dw n1 x));have HZ:=aF hZ;have xe:(k:Int)<((f.ranges.length-1:Nat):Int):=aj;have xd:rb<wr.heap.size:=qmf _ _ t1;clear hZ hw n0 n1 x hg hu hr E x6;go_wp2_with fail;refine q.out.mono ?_;rintro e y1 ⟨s1,rfl,d,c⟩;obtain⟨m0,m1,P⟩:=hv.out;have p0:=c.cell m0 P;have p1:=c.cell m1 P;have p:=HW.out.next d c;have o:=aF (fq s1 _ gb d x9.out hy.out);have Q:=aF (h3.out.trans (c.alloc _));have S:=aF p;have hx:s1.ownBlock≠some wr.heap.size:=fun e=>by
     rcases c.2 _ e with e'|e';·exact P e'
     ·simp at e';omega
    have xa:=aF hx;clear m0 m1 P d c p q HW hv hx;go_wp2_with fail;refine o.out.mono ?_;rintro e y2 ⟨s2,rfl,j,a⟩;have p2:=a.cell p0 xa.out;have n:=S.out.next j a;rw[qmh,qmh,<-s.out]at n;have r:=aF (Q.out.trans a);have zB:=aF n;clear j a n o Q S p0 p1;go_wp2_with fail;go_roundw;case rel=>exact⟨k+1,aj,by go_num,by rw[HZ.out],zB,r⟩
    case measure=>simp[eT];omega
   ·obtain rfl:k=f.ranges.length-1:=aj;have g:=O8.out.buf;rw[qmh,<-MN.out]at g;have HF:=aF g;clear g O8;go_wp2;go_ret;exact⟨_,rfl,HF.out,h3.out.alloc _⟩
def dR(a:List (List UInt8)):Nat->List UInt8
 |0=>[]
 |k+1=>dR a k++a.getD k []
def xV(a:List (List UInt8)):∀(m k:Nat),k<=m->(dR a k).length<=(dR a m).length
 |0,k,h=>by obtain rfl:k=0:=aj;exact qj _
 |m+1,k,h=>by
  by_cases e:k=m+1;·rw[e];exact qj _
  ·have:=xV a m k aj;rw[dR,qm0];omega
def MO{t:Nat}(K r a:Nat)(X W:Nat->WA)(p:List (List UInt8))(b o:Nat)(f:Fr)(T:Option V3)(U:Nat)(h3:a<=100)(C:B0<=K)(D:K<t)(F:B0<=r)(G:r<t)(E:s.cell? (ay K 0)=some (dh r a a))(c:∀j,j<a->s.cell? (ay r (j*2))=some (X j)/\s.cell? (ay r (j*2+1))=some (W j))(A:∀j,j<a->∃g O,W j=.func (.func g) #[] O)(I:∀j,j<a->Wr B0 t s (X j) (p.getD j []) b o f T U):Wr B0 t s (.func (.func 323) #[] #[aJ K 0]) (dR p a) b o f T U:=by
 refine⟨323,_,rfl,enters_of func323 bO rfl,fun w v l R hl=>?_⟩;have cp:=R.fG.cell C D E;have HP:=aF R;have EZ:=aF (xV p a);have HL:=aF hl;have HC:=aF c;have L:=aF A;have N:=aF I;have J:=aF (dw F G);clear R hl c A I E C D F G;go_enter func323,ntmps323;go_wp2_with fail;go_loopw [0,10] (fun s0 q wr=>∃k:Nat,k<=a/\q=(iZ k)/\Hid (EF B0 t s wr s0 (l++dR p k) b o f T U)/\Hid (Gr w wr v s0)) (fun _ q _=>a-(eT q).toNat);case atStart=>exact⟨0,qm2 _,rfl,by rw[dR,qmv];exact HP.out,Gr.refl w v⟩
 case round=>
  obtain⟨k,hk,rfl,z,x⟩:=hrel;by_cases m:k<a
  ·have h0:(k:Int)<(a:Int):=aj;obtain⟨q1,q2⟩:=HC.out k m;have t1:=z.out.fG.cell J.out.1 J.out.2 q1;have t2:=z.out.fG.cell J.out.1 J.out.2 q2;obtain⟨g,O,B,eg,Z⟩:=N.out k m;obtain⟨g2,QX,d⟩:=L.out k m;rw[B]at t1;rw[d]at t2;have S:=z.out.alloc (.cells #[.func (.func g) #[] O,.func (.func g2) #[] QX] 318);have i:=EZ.out (k+1) aj;have Q:=HL.out;have H:Hid (dR p (k+1)=dR p k++p.getD k []):=rfl;rw[H.out,qm0]at i;have hc:=Z _ _ _ S (by rw[qm0];omega);have u:=aF hc;have V:=aF S;have h2:r<wr.heap.size:=qmf _ _ t1;clear B d S i Q hc Z q1 q2;go_wp2_with fail;refine u.out.mono ?_;rintro e y ⟨s1,rfl,Y,P⟩;have n:=V.out.next Y P;rw[qmh,<-H.out]at n;have wO:=aF n;have M:=aF (x.out.trans (P.alloc _));clear Y P n u V;go_wp2_with fail;go_roundw;case rel=>exact⟨k+1,aj,by go_num,wO,M⟩
   case measure=>simp[eT];omega
  ·obtain rfl:k=a:=aj;have HF:=aF z.out.buf;clear z;go_wp2;go_ret;exact⟨_,rfl,HF.out,x.out⟩
def QY(B0:Nat)(w:Wq)(xb:Nat)(v:WA):Prop:=B0<=xb/\w.cell? (ay xb 0)=some v
def QY.below(h:QY B0 w xb v)(a:bE w w'):QY B0 w' xb v:=
 ⟨h.1,(a.cell (p:=(ay xb 0)) (qmf _ _ h.2)).trans h.2⟩
def QY.mono{a:Nat}(h:QY a w xb v)(b:B0<=a):QY B0 w xb v:=⟨qlz b h.1,h.2⟩
def jL(B0:Nat)(w:Wq)(a:Nat×Nat)(c b:WA):Prop:=
 (a.1=0/\∃d,QY B0 w d (.int .u8 a.2)/\c=.func (.func 321) #[] #[aJ d 0]/\b=.func (.func 322) #[] #[])\/(a.1=1/\c=.func (.func 331) #[] #[]/\b=.func (.func 332) #[] #[])\/(a.1=2/\c=.func (.func 327) #[] #[]/\b=.func (.func 328) #[] #[])\/(a.1=3/\∃d,QY B0 w d (.func (.func a.2) #[] #[])/\c=.func (.func 329) #[] #[aJ d 0]/\b=.func (.func 330) #[] #[aJ d 0])\/(a.1=4/\c=.func (.func 333) #[] #[]/\b=.func (.func 334) #[] #[])\/(a.1=5/\c=.func (.func 325) #[] #[]/\b=.func (.func 326) #[] #[])
def jL.below{B0:Nat}{w w':Wq}{a:Nat×Nat}{f e:WA}(h:jL B0 w a f e)(g:bE w w'):jL B0 w' a f e:=by
 rcases h with⟨h,d,c,b⟩|h|h|⟨h,d,c,b⟩|h|h;·exact .inl ⟨h,d,c.below g,b⟩
 ·exact .inr (.inl h)
 ·exact .inr (.inr (.inl h))
 ·exact .inr (.inr (.inr (.inl ⟨h,d,c.below g,b⟩)))
 ·exact .inr (.inr (.inr (.inr (.inl h))))
 ·exact .inr (.inr (.inr (.inr (.inr h))))
def jL.mono{B0 e:Nat}{w:Wq}{a:Nat×Nat}{g f:WA}(h:jL e w a g f)(i:B0<=e):jL B0 w a g f:=by
 rcases h with⟨h,d,c,b⟩|h|h|⟨h,d,c,b⟩|h|h;·exact .inl ⟨h,d,c.mono i,b⟩
 ·exact .inr (.inl h)
 ·exact .inr (.inr (.inl h))
 ·exact .inr (.inr (.inr (.inl ⟨h,d,c.mono i,b⟩)))
 ·exact .inr (.inr (.inr (.inr (.inl h))))
 ·exact .inr (.inr (.inr (.inr (.inr h))))
def Made(w w':Wq)(a:Nat×Nat)(e:Ending):Prop:=∃c b,e=.returned (.agg #[c,b])/\jL w.heap.size w' a c b/\bE w w'
def MP(x:Nat)(w:Wq):WB prog 274 #[.int .u8 x] w fun e a=>Made w a (0,x) e:=by
 go_enter func274,ntmps274;go_wp2;refine Vl (v:=.agg #[.func (.func 321) #[] #[aJ w.heap.size 0],.func (.func 322) #[] #[]]) (by simp[results,results274,go_sem]) rfl ⟨_,_,rfl,.inl ⟨rfl,w.heap.size,⟨qj _,?_⟩,rfl,rfl⟩,?_⟩;·exact((aL.new w 5 [.int .u8 x]).alloc _).cell 0
 ·exact((qlw _ w).alloc (qj _) _).alloc aM _
def Jt(w:Wq):WB prog 276 #[] w fun e a=>Made w a (5,0) e:=by go_enter func276,ntmps276;go_wp2;exact Vl (v:=.agg #[.func (.func 325) #[] #[],.func (.func 326) #[] #[]]) (by simp[results,results276,go_sem]) rfl ⟨_,_,rfl,.inr (.inr (.inr (.inr (.inr ⟨rfl,rfl,rfl⟩)))),(qlw _ w).alloc (qj _) _⟩
def uF(w:Wq):WB prog 277 #[] w fun e a=>Made w a (2,0) e:=by go_enter func277,ntmps277;go_wp2;exact Vl (v:=.agg #[.func (.func 327) #[] #[],.func (.func 328) #[] #[]]) (by simp[results,results277,go_sem]) rfl ⟨_,_,rfl,.inr (.inr (.inl ⟨rfl,rfl,rfl⟩)),(qlw _ w).alloc (qj _) _⟩
def MQ(w:Wq):WB prog 281 #[] w fun e a=>Made w a (1,0) e:=by go_enter func281,ntmps281;go_wp2;exact Vl (v:=.agg #[.func (.func 331) #[] #[],.func (.func 332) #[] #[]]) (by simp[results,results281,go_sem]) rfl ⟨_,_,rfl,.inr (.inl ⟨rfl,rfl,rfl⟩),(qlw _ w).alloc (qj _) _⟩
def E8(w:Wq):WB prog 282 #[] w fun e a=>Made w a (4,0) e:=by go_enter func282,ntmps282;go_wp2;exact Vl (v:=.agg #[.func (.func 333) #[] #[],.func (.func 334) #[] #[]]) (by simp[results,results282,go_sem]) rfl ⟨_,_,rfl,.inr (.inr (.inr (.inr (.inl ⟨rfl,rfl,rfl⟩)))),(qlw _ w).alloc (qj _) _⟩
def jH(a:Nat)(w:Wq):WB prog 278 #[.func (.func a) #[] #[]] w fun e b=>Made w b (3,a) e:=by
 go_enter func278,ntmps278;go_wp2;refine Vl (v:=.agg #[.func (.func 329) #[] #[aJ w.heap.size 0],.func (.func 330) #[] #[aJ w.heap.size 0]]) (by simp[results,results278,go_sem]) rfl ⟨_,_,rfl,.inr (.inr (.inr (.inl ⟨rfl,w.heap.size,⟨qj _,?_⟩,rfl,rfl⟩))),?_⟩;·exact((aL.new w 357 [.func (.func a) #[] #[]]).alloc _).cell 0
 ·exact((qlw _ w).alloc (qj _) _).alloc aM _
def jM(s:WA)(f:∃a n c,s=.slice a n c)(w:Wq):WB prog 275 #[s] w fun e d=>∃b,e=.returned (.agg #[.func (.func 323) #[] #[aJ b 0],.func (.func 324) #[] #[aJ b 0]])/\QY w.heap.size d b s/\bE w d:=by
 obtain⟨a,n,c,rfl⟩:=f;go_enter func275,ntmps275;go_wp2;refine Vl (v:=.agg #[.func (.func 323) #[] #[aJ w.heap.size 0],.func (.func 324) #[] #[aJ w.heap.size 0]]) (by simp[results,results275,go_sem]) rfl ⟨w.heap.size,rfl,⟨qj _,?_⟩,?_⟩;·exact((aL.new w 380 [.slice a n c]).alloc _).cell 0
 ·exact((qlw _ w).alloc (qj _) _).alloc aM _
def QY.of(h:QY B0 w xb v)(e:∀k,B0<=k->w'.heap[k]?=w.heap[k]?):QY B0 w' xb v:=⟨h.1,cell_of h.2 (e xb h.1)⟩
def jL.of{B0:Nat}{w w':Wq}{a:Nat×Nat}{g f:WA}(h:jL B0 w a g f)(e:∀k,B0<=k->w'.heap[k]?=w.heap[k]?):jL B0 w' a g f:=by
 rcases h with⟨h,d,c,b⟩|h|h|⟨h,d,c,b⟩|h|h;·exact .inl ⟨h,d,c.of e,b⟩
 ·exact .inr (.inl h)
 ·exact .inr (.inr (.inl h))
 ·exact .inr (.inr (.inr (.inl ⟨h,d,c.of e,b⟩)))
 ·exact .inr (.inr (.inr (.inr (.inl h))))
 ·exact .inr (.inr (.inr (.inr (.inr h))))
def U4(B0:Nat)(w:Wq)(a:bZ)(c b:WA):Prop:=
 ∃e d,c=.func (.func 323) #[] #[aJ e 0]/\b=.func (.func 324) #[] #[aJ e 0]/\QY B0 w e (dh d a.length a.length)/\B0<=d/\∀j,j<a.length->∃c b,w.cell? (ay d (j*2))=some c/\w.cell? (ay d (j*2+1))=some b/\jL B0 w (a.getD j (0,0)) c b
def Laid(w w':Wq)(a:bZ)(e:Ending):Prop:=∃c b,e=.returned (.agg #[c,b])/\U4 (w.heap.size+1) w' a c b/\bE w w'
def lI{Z:Obj}(h:Below (w.heap.size+1) (w.alloc Z) y)(a b:WA):bE w ((y.setCell (ay w.heap.size 0) a).setCell (ay w.heap.size 1) b)/\∀k,w.heap.size+1<=k->((y.setCell (ay w.heap.size 0) a).setCell (ay w.heap.size 1) b).heap[k]?=y.heap[k]?:=by
 refine⟨?_,fun k d=>?_⟩;·have c:bE w y:=((qlw _ w).alloc (qj _) Z).trans (h.mono aj);exact(c.setCell (p:=(ay w.heap.size 0)) (qj _) a).setCell (p:=(ay w.heap.size 1)) (qj _) b
 ·rw[qmd _ _ _ _ rR,qmd _ _ _ _ rR]
def kr(x:Nat)(X:Int)(a:X=(x:Int))(w:Wq):WB prog 274 #[.int .u8 X] w fun e b=>Made w b (0,x) e:=by subst a;exact MP x w
def dJ{B:Nat}{a y':Wq}(h:Below B a y)(c:B<=a.heap.size)(b:bE y y'):Below B a y':=h.trans (b.mono (qlz c h.size))
def lJ{z:Wq}(h:Below (w.heap.size+1) (w.alloc (.cells #[.nilFunc,.nilFunc] 318)) z):z.cell? (ay w.heap.size 0)=some .nilFunc/\z.cell? (ay w.heap.size 1)=some .nilFunc/\z.frozen? (ay w.heap.size 0)=false/\z.frozen? (ay w.heap.size 1)=false:=by have a:aL z w.heap.size 318 [.nilFunc,.nilFunc]:=(aL.new w 318 [.nilFunc,.nilFunc]).of_heap (h.block _ aj);exact⟨a.cell 0,a.cell 1,a.frozen 0,a.frozen 1⟩
def Zb(w:Wq):WB prog 217 #[iZ 2] w fun e K=>Laid w K [(0,2),(5,0)] e:=by
 go_enter qoj,qoi;go_wp2_with fail;refine(kr 2 _ rfl _).mono ?_;rintro e O ⟨i,f,rfl,l,c⟩;have t:Hid (Below (w.heap.size+1) (w.alloc (.cells #[.nilFunc,.nilFunc] 318)) O):=c.mono aM;have M:=aF l;have D:=aF c;clear l c;go_wp2_with fail;refine(Jt _).mono ?_;rintro e b ⟨g,k,rfl,n,d⟩;have u:Hid (Below (w.heap.size+1) (w.alloc (.cells #[.nilFunc,.nilFunc] 318)) b):=dJ t.out aM d;have L:=aF n;have s:=aF d;clear n d;go_wp2_with fail;refine(jM _ ⟨_,_,_,rfl⟩ _).mono ?_;rintro e z ⟨p,rfl,A,o⟩;have q:bE b (b.alloc (.cells #[i,f,g,k] 318)):=(qlw _ _).alloc (qj _) _;have x:Below (w.heap.size+1) (w.alloc (.cells #[.nilFunc,.nilFunc] 318)) (b.alloc (.cells #[i,f,g,k] 318)):=dJ u.out aM q;have r:Below (w.heap.size+1) (w.alloc (.cells #[.nilFunc,.nilFunc] 318)) z:=dJ x aM o;obtain⟨I,J,P,Q⟩:=lJ r;have y:aL z b.heap.size 318 [i,f,g,k]:=(aL.new b 318 [i,f,g,k]).of_heap (o.block _ aM);have Q1:=aF ((((M.out.below s.out).below q).below o).mono (B0:=w.heap.size+1) aM);have F:=aF (((L.out.below q).below o).mono (B0:=w.heap.size+1) (by have:=t.out.size;simp at this;omega));have B:w.heap.size+1<=b.heap.size:=by have:=u.out.size;simp at this;omega
 have N:=aF (A.mono (B0:=w.heap.size+1) rR);have E:=aF y;have G:=aF r;have C:=aF B;clear A y r x q o B;go_wp2_with fail;obtain⟨f1,f2⟩:=lI G.out (.func (.func 323) #[] #[aJ p 0]) (.func (.func 324) #[] #[aJ p 0]);refine Vl (v:=.agg #[.func (.func 323) #[] #[aJ p 0],.func (.func 324) #[] #[aJ p 0]]) (by simp[results,qog,go_sem,I,J]) rfl ⟨_,_,rfl,⟨p,b.heap.size,rfl,rfl,N.out.of f2,C.out,?_⟩,f1⟩;intro j H;have a:aL _ b.heap.size 318 [i,f,g,k]:=E.out.of_heap (f2 _ C.out);match j,H with
 |0,_=>exact⟨i,f,a.cell 0,a.cell 1,Q1.out.of f2⟩
 |1,_=>exact⟨g,k,a.cell 2,a.cell 3,F.out.of f2⟩
 |(m+2),hm=>exact absurd hm aM
def Zc(w:Wq):WB prog 217 #[iZ 3] w fun e Z=>Laid w Z [(0,36),(2,0),(3,279),(3,280)] e:=by
 go_enter qoj,qoi;go_wp2_with fail;refine(kr 36 _ rfl _).mono ?_;rintro e y1 ⟨p,n,rfl,x,c⟩;have F:Hid (Below (w.heap.size+1) (w.alloc (.cells #[.nilFunc,.nilFunc] 318)) y1):=c.mono aM;have xL:=aF x;have P:=aF c;clear x c;go_wp2_with fail;refine(uF _).mono ?_;rintro e y2 ⟨o,q,rfl,y,d⟩;have G:Hid (Below (w.heap.size+1) (w.alloc (.cells #[.nilFunc,.nilFunc] 318)) y2):=dJ F.out aM d;have wO:=aF y;have D:=aF d;clear y d;go_wp2_with fail;refine(jH 279 _).mono ?_;rintro e y3 ⟨s,t,rfl,A,f⟩;have H:Hid (Below (w.heap.size+1) (w.alloc (.cells #[.nilFunc,.nilFunc] 318)) y3):=dJ G.out aM f;have zB:=aF A;have u:=aF f;clear A f;go_wp2_with fail;refine(jH 280 _).mono ?_;rintro e b ⟨k,l,rfl,K,g⟩;have I:Hid (Below (w.heap.size+1) (w.alloc (.cells #[.nilFunc,.nilFunc] 318)) b):=dJ H.out aM g;have R:=aF K;have E:=aF g;clear K g;go_wp2_with fail;refine(jM _ ⟨_,_,_,rfl⟩ _).mono ?_;rintro e z ⟨B,rfl,M,i⟩;have r:bE b (b.alloc (.cells #[p,n,o,q,s,t,k,l] 318)):=(qlw _ _).alloc (qj _) _;have J:Below (w.heap.size+1) (w.alloc (.cells #[.nilFunc,.nilFunc] 318)) (b.alloc (.cells #[p,n,o,q,s,t,k,l] 318)):=dJ I.out aM r;have C:Below (w.heap.size+1) (w.alloc (.cells #[.nilFunc,.nilFunc] 318)) z:=dJ J aM i;obtain⟨X,Y,i2,i3⟩:=lJ C;have L:aL z b.heap.size 318 [p,n,o,q,s,t,k,l]:=(aL.new b 318 [p,n,o,q,s,t,k,l]).of_heap (i.block _ aM);have Q1:=aF ((((((xL.out.below D.out).below u.out).below E.out).below r).below i).mono (B0:=w.heap.size+1) aM);have S:=aF (((((wO.out.below u.out).below E.out).below r).below i).mono (B0:=w.heap.size+1) (by have:=F.out.size;simp at this;omega));have T:=aF ((((zB.out.below E.out).below r).below i).mono (B0:=w.heap.size+1) (by have:=G.out.size;simp at this;omega));have U:=aF (((R.out.below r).below i).mono (B0:=w.heap.size+1) (by have:=H.out.size;simp at this;omega));have N:w.heap.size+1<=b.heap.size:=by have:=I.out.size;simp at this;omega
 have xW:=aF (M.mono (B0:=w.heap.size+1) rR);have Q:=aF L;have V:=aF C;have O:=aF N;clear M L C J r i N;go_wp2_with fail;obtain⟨f1,f2⟩:=lI V.out (.func (.func 323) #[] #[aJ B 0]) (.func (.func 324) #[] #[aJ B 0]);refine Vl (v:=.agg #[.func (.func 323) #[] #[aJ B 0],.func (.func 324) #[] #[aJ B 0]]) (by simp[results,qog,go_sem,X,Y]) rfl ⟨_,_,rfl,⟨B,b.heap.size,rfl,rfl,xW.out.of f2,O.out,?_⟩,f1⟩;intro j W;have a:aL _ b.heap.size 318 [p,n,o,q,s,t,k,l]:=Q.out.of_heap (f2 _ O.out);match j,W with
 |0,_=>exact⟨p,n,a.cell 0,a.cell 1,Q1.out.of f2⟩
 |1,_=>exact⟨o,q,a.cell 2,a.cell 3,S.out.of f2⟩
 |2,_=>exact⟨s,t,a.cell 4,a.cell 5,T.out.of f2⟩
 |3,_=>exact⟨k,l,a.cell 6,a.cell 7,U.out.of f2⟩
 |(m+4),hm=>exact absurd hm aM
def Zd(w:Wq):WB prog 217 #[iZ 4] w fun e Z=>Laid w Z [(1,0),(2,0),(3,279),(4,0)] e:=by
 go_enter qoj,qoi;go_wp2_with fail;refine(MQ _).mono ?_;rintro e y1 ⟨p,n,rfl,x,c⟩;have F:Hid (Below (w.heap.size+1) (w.alloc (.cells #[.nilFunc,.nilFunc] 318)) y1):=c.mono aM;have xL:=aF x;have P:=aF c;clear x c;go_wp2_with fail;refine(uF _).mono ?_;rintro e y2 ⟨o,q,rfl,y,d⟩;have G:Hid (Below (w.heap.size+1) (w.alloc (.cells #[.nilFunc,.nilFunc] 318)) y2):=dJ F.out aM d;have wO:=aF y;have D:=aF d;clear y d;go_wp2_with fail;refine(jH 279 _).mono ?_;rintro e y3 ⟨s,t,rfl,A,f⟩;have H:Hid (Below (w.heap.size+1) (w.alloc (.cells #[.nilFunc,.nilFunc] 318)) y3):=dJ G.out aM f;have zB:=aF A;have u:=aF f;clear A f;go_wp2_with fail;refine(E8 _).mono ?_;rintro e b ⟨k,l,rfl,K,g⟩;have I:Hid (Below (w.heap.size+1) (w.alloc (.cells #[.nilFunc,.nilFunc] 318)) b):=dJ H.out aM g;have R:=aF K;have E:=aF g;clear K g;go_wp2_with fail;refine(jM _ ⟨_,_,_,rfl⟩ _).mono ?_;rintro e z ⟨B,rfl,M,i⟩;have r:bE b (b.alloc (.cells #[p,n,o,q,s,t,k,l] 318)):=(qlw _ _).alloc (qj _) _;have J:Below (w.heap.size+1) (w.alloc (.cells #[.nilFunc,.nilFunc] 318)) (b.alloc (.cells #[p,n,o,q,s,t,k,l] 318)):=dJ I.out aM r;have C:Below (w.heap.size+1) (w.alloc (.cells #[.nilFunc,.nilFunc] 318)) z:=dJ J aM i;obtain⟨X,Y,i2,i3⟩:=lJ C;have L:aL z b.heap.size 318 [p,n,o,q,s,t,k,l]:=(aL.new b 318 [p,n,o,q,s,t,k,l]).of_heap (i.block _ aM);have Q1:=aF ((((((xL.out.below D.out).below u.out).below E.out).below r).below i).mono (B0:=w.heap.size+1) aM);have S:=aF (((((wO.out.below u.out).below E.out).below r).below i).mono (B0:=w.heap.size+1) (by have:=F.out.size;simp at this;omega));have T:=aF ((((zB.out.below E.out).below r).below i).mono (B0:=w.heap.size+1) (by have:=G.out.size;simp at this;omega));have U:=aF (((R.out.below r).below i).mono (B0:=w.heap.size+1) (by have:=H.out.size;simp at this;omega));have N:w.heap.size+1<=b.heap.size:=by have:=I.out.size;simp at this;omega
 have xW:=aF (M.mono (B0:=w.heap.size+1) rR);have Q:=aF L;have V:=aF C;have O:=aF N;clear M L C J r i N;go_wp2_with fail;obtain⟨f1,f2⟩:=lI V.out (.func (.func 323) #[] #[aJ B 0]) (.func (.func 324) #[] #[aJ B 0]);refine Vl (v:=.agg #[.func (.func 323) #[] #[aJ B 0],.func (.func 324) #[] #[aJ B 0]]) (by simp[results,qog,go_sem,X,Y]) rfl ⟨_,_,rfl,⟨B,b.heap.size,rfl,rfl,xW.out.of f2,O.out,?_⟩,f1⟩;intro j W;have a:aL _ b.heap.size 318 [p,n,o,q,s,t,k,l]:=Q.out.of_heap (f2 _ O.out);match j,W with
 |0,_=>exact⟨p,n,a.cell 0,a.cell 1,Q1.out.of f2⟩
 |1,_=>exact⟨o,q,a.cell 2,a.cell 3,S.out.of f2⟩
 |2,_=>exact⟨s,t,a.cell 4,a.cell 5,T.out.of f2⟩
 |3,_=>exact⟨k,l,a.cell 6,a.cell 7,U.out.of f2⟩
 |(m+4),hm=>exact absurd hm aM
def Ze(w:Wq):WB prog 217 #[iZ 5] w fun e K=>Laid w K [(0,16),(3,283)] e:=by
 go_enter qoj,qoi;go_wp2_with fail;refine(kr 16 _ rfl _).mono ?_;rintro e O ⟨i,f,rfl,l,c⟩;have t:Hid (Below (w.heap.size+1) (w.alloc (.cells #[.nilFunc,.nilFunc] 318)) O):=c.mono aM;have M:=aF l;have D:=aF c;clear l c;go_wp2_with fail;refine(jH 283 _).mono ?_;rintro e b ⟨g,k,rfl,n,d⟩;have u:Hid (Below (w.heap.size+1) (w.alloc (.cells #[.nilFunc,.nilFunc] 318)) b):=dJ t.out aM d;have L:=aF n;have s:=aF d;clear n d;go_wp2_with fail;refine(jM _ ⟨_,_,_,rfl⟩ _).mono ?_;rintro e z ⟨p,rfl,A,o⟩;have q:bE b (b.alloc (.cells #[i,f,g,k] 318)):=(qlw _ _).alloc (qj _) _;have x:Below (w.heap.size+1) (w.alloc (.cells #[.nilFunc,.nilFunc] 318)) (b.alloc (.cells #[i,f,g,k] 318)):=dJ u.out aM q;have r:Below (w.heap.size+1) (w.alloc (.cells #[.nilFunc,.nilFunc] 318)) z:=dJ x aM o;obtain⟨I,J,P,Q⟩:=lJ r;have y:aL z b.heap.size 318 [i,f,g,k]:=(aL.new b 318 [i,f,g,k]).of_heap (o.block _ aM);have Q1:=aF ((((M.out.below s.out).below q).below o).mono (B0:=w.heap.size+1) aM);have F:=aF (((L.out.below q).below o).mono (B0:=w.heap.size+1) (by have:=t.out.size;simp at this;omega));have B:w.heap.size+1<=b.heap.size:=by have:=u.out.size;simp at this;omega
 have N:=aF (A.mono (B0:=w.heap.size+1) rR);have E:=aF y;have G:=aF r;have C:=aF B;clear A y r x q o B;go_wp2_with fail;obtain⟨f1,f2⟩:=lI G.out (.func (.func 323) #[] #[aJ p 0]) (.func (.func 324) #[] #[aJ p 0]);refine Vl (v:=.agg #[.func (.func 323) #[] #[aJ p 0],.func (.func 324) #[] #[aJ p 0]]) (by simp[results,qog,go_sem,I,J]) rfl ⟨_,_,rfl,⟨p,b.heap.size,rfl,rfl,N.out.of f2,C.out,?_⟩,f1⟩;intro j H;have a:aL _ b.heap.size 318 [i,f,g,k]:=E.out.of_heap (f2 _ C.out);match j,H with
 |0,_=>exact⟨i,f,a.cell 0,a.cell 1,Q1.out.of f2⟩
 |1,_=>exact⟨g,k,a.cell 2,a.cell 3,F.out.of f2⟩
 |(m+2),hm=>exact absurd hm aM
def Zf(w:Wq):WB prog 217 #[iZ 6] w fun e R=>Laid w R [(0,17),(2,0),(3,283)] e:=by
 go_enter qoj,qoi;go_wp2_with fail;refine(kr 17 _ rfl _).mono ?_;rintro e V ⟨l,i,rfl,r,c⟩;have B:Hid (Below (w.heap.size+1) (w.alloc (.cells #[.nilFunc,.nilFunc] 318)) V):=c.mono aM;have T:=aF r;have J:=aF c;clear r c;go_wp2_with fail;refine(uF _).mono ?_;rintro e W ⟨k,n,rfl,s,d⟩;have C:Hid (Below (w.heap.size+1) (w.alloc (.cells #[.nilFunc,.nilFunc] 318)) W):=dJ B.out aM d;have S:=aF s;have A:=aF d;clear s d;go_wp2_with fail;refine(jH 283 _).mono ?_;rintro e b ⟨o,p,rfl,t,f⟩;have D:Hid (Below (w.heap.size+1) (w.alloc (.cells #[.nilFunc,.nilFunc] 318)) b):=dJ C.out aM f;have X:=aF t;have q:=aF f;clear t f;go_wp2_with fail;refine(jM _ ⟨_,_,_,rfl⟩ _).mono ?_;rintro e z ⟨u,rfl,G,g⟩;have x:bE b (b.alloc (.cells #[l,i,k,n,o,p] 318)):=(qlw _ _).alloc (qj _) _;have E:Below (w.heap.size+1) (w.alloc (.cells #[.nilFunc,.nilFunc] 318)) (b.alloc (.cells #[l,i,k,n,o,p] 318)):=dJ D.out aM x;have y:Below (w.heap.size+1) (w.alloc (.cells #[.nilFunc,.nilFunc] 318)) z:=dJ E aM g;obtain⟨P,Q,Y,Z⟩:=lJ y;have F:aL z b.heap.size 318 [l,i,k,n,o,p]:=(aL.new b 318 [l,i,k,n,o,p]).of_heap (g.block _ aM);have Q1:=aF (((((T.out.below A.out).below q.out).below x).below g).mono (B0:=w.heap.size+1) aM);have L:=aF ((((S.out.below q.out).below x).below g).mono (B0:=w.heap.size+1) (by have:=B.out.size;simp at this;omega));have M:=aF (((X.out.below x).below g).mono (B0:=w.heap.size+1) (by have:=C.out.size;simp at this;omega));have H:w.heap.size+1<=b.heap.size:=by have:=D.out.size;simp at this;omega
 have U:=aF (G.mono (B0:=w.heap.size+1) rR);have K:=aF F;have N:=aF y;have I:=aF H;clear G F y E x g H;go_wp2_with fail;obtain⟨f1,f2⟩:=lI N.out (.func (.func 323) #[] #[aJ u 0]) (.func (.func 324) #[] #[aJ u 0]);refine Vl (v:=.agg #[.func (.func 323) #[] #[aJ u 0],.func (.func 324) #[] #[aJ u 0]]) (by simp[results,qog,go_sem,P,Q]) rfl ⟨_,_,rfl,⟨u,b.heap.size,rfl,rfl,U.out.of f2,I.out,?_⟩,f1⟩;intro j O;have a:aL _ b.heap.size 318 [l,i,k,n,o,p]:=K.out.of_heap (f2 _ I.out);match j,O with
 |0,_=>exact⟨l,i,a.cell 0,a.cell 1,Q1.out.of f2⟩
 |1,_=>exact⟨k,n,a.cell 2,a.cell 3,L.out.of f2⟩
 |2,_=>exact⟨o,p,a.cell 4,a.cell 5,M.out.of f2⟩
 |(m+3),hm=>exact absurd hm aM
def Zg(w:Wq):WB prog 217 #[iZ 7] w fun e Z=>Laid w Z [(0,48),(3,284),(3,285),(4,0)] e:=by
 go_enter qoj,qoi;go_wp2_with fail;refine(kr 48 _ rfl _).mono ?_;rintro e y1 ⟨p,n,rfl,x,c⟩;have F:Hid (Below (w.heap.size+1) (w.alloc (.cells #[.nilFunc,.nilFunc] 318)) y1):=c.mono aM;have xL:=aF x;have P:=aF c;clear x c;go_wp2_with fail;refine(jH 284 _).mono ?_;rintro e y2 ⟨o,q,rfl,y,d⟩;have G:Hid (Below (w.heap.size+1) (w.alloc (.cells #[.nilFunc,.nilFunc] 318)) y2):=dJ F.out aM d;have wO:=aF y;have D:=aF d;clear y d;go_wp2_with fail;refine(jH 285 _).mono ?_;rintro e y3 ⟨s,t,rfl,A,f⟩;have H:Hid (Below (w.heap.size+1) (w.alloc (.cells #[.nilFunc,.nilFunc] 318)) y3):=dJ G.out aM f;have zB:=aF A;have u:=aF f;clear A f;go_wp2_with fail;refine(E8 _).mono ?_;rintro e b ⟨k,l,rfl,K,g⟩;have I:Hid (Below (w.heap.size+1) (w.alloc (.cells #[.nilFunc,.nilFunc] 318)) b):=dJ H.out aM g;have R:=aF K;have E:=aF g;clear K g;go_wp2_with fail;refine(jM _ ⟨_,_,_,rfl⟩ _).mono ?_;rintro e z ⟨B,rfl,M,i⟩;have r:bE b (b.alloc (.cells #[p,n,o,q,s,t,k,l] 318)):=(qlw _ _).alloc (qj _) _;have J:Below (w.heap.size+1) (w.alloc (.cells #[.nilFunc,.nilFunc] 318)) (b.alloc (.cells #[p,n,o,q,s,t,k,l] 318)):=dJ I.out aM r;have C:Below (w.heap.size+1) (w.alloc (.cells #[.nilFunc,.nilFunc] 318)) z:=dJ J aM i;obtain⟨X,Y,i2,i3⟩:=lJ C;have L:aL z b.heap.size 318 [p,n,o,q,s,t,k,l]:=(aL.new b 318 [p,n,o,q,s,t,k,l]).of_heap (i.block _ aM);have Q1:=aF ((((((xL.out.below D.out).below u.out).below E.out).below r).below i).mono (B0:=w.heap.size+1) aM);have S:=aF (((((wO.out.below u.out).below E.out).below r).below i).mono (B0:=w.heap.size+1) (by have:=F.out.size;simp at this;omega));have T:=aF ((((zB.out.below E.out).below r).below i).mono (B0:=w.heap.size+1) (by have:=G.out.size;simp at this;omega));have U:=aF (((R.out.below r).below i).mono (B0:=w.heap.size+1) (by have:=H.out.size;simp at this;omega));have N:w.heap.size+1<=b.heap.size:=by have:=I.out.size;simp at this;omega
 have xW:=aF (M.mono (B0:=w.heap.size+1) rR);have Q:=aF L;have V:=aF C;have O:=aF N;clear M L C J r i N;go_wp2_with fail;obtain⟨f1,f2⟩:=lI V.out (.func (.func 323) #[] #[aJ B 0]) (.func (.func 324) #[] #[aJ B 0]);refine Vl (v:=.agg #[.func (.func 323) #[] #[aJ B 0],.func (.func 324) #[] #[aJ B 0]]) (by simp[results,qog,go_sem,X,Y]) rfl ⟨_,_,rfl,⟨B,b.heap.size,rfl,rfl,xW.out.of f2,O.out,?_⟩,f1⟩;intro j W;have a:aL _ b.heap.size 318 [p,n,o,q,s,t,k,l]:=Q.out.of_heap (f2 _ O.out);match j,W with
 |0,_=>exact⟨p,n,a.cell 0,a.cell 1,Q1.out.of f2⟩
 |1,_=>exact⟨o,q,a.cell 2,a.cell 3,S.out.of f2⟩
 |2,_=>exact⟨s,t,a.cell 4,a.cell 5,T.out.of f2⟩
 |3,_=>exact⟨k,l,a.cell 6,a.cell 7,U.out.of f2⟩
 |(m+4),hm=>exact absurd hm aM
def Zh(w:Wq):WB prog 217 #[iZ 8] w fun e K=>Laid w K [(0,28),(3,283)] e:=by
 go_enter qoj,qoi;go_wp2_with fail;refine(kr 28 _ rfl _).mono ?_;rintro e O ⟨i,f,rfl,l,c⟩;have t:Hid (Below (w.heap.size+1) (w.alloc (.cells #[.nilFunc,.nilFunc] 318)) O):=c.mono aM;have M:=aF l;have D:=aF c;clear l c;go_wp2_with fail;refine(jH 283 _).mono ?_;rintro e b ⟨g,k,rfl,n,d⟩;have u:Hid (Below (w.heap.size+1) (w.alloc (.cells #[.nilFunc,.nilFunc] 318)) b):=dJ t.out aM d;have L:=aF n;have s:=aF d;clear n d;go_wp2_with fail;refine(jM _ ⟨_,_,_,rfl⟩ _).mono ?_;rintro e z ⟨p,rfl,A,o⟩;have q:bE b (b.alloc (.cells #[i,f,g,k] 318)):=(qlw _ _).alloc (qj _) _;have x:Below (w.heap.size+1) (w.alloc (.cells #[.nilFunc,.nilFunc] 318)) (b.alloc (.cells #[i,f,g,k] 318)):=dJ u.out aM q;have r:Below (w.heap.size+1) (w.alloc (.cells #[.nilFunc,.nilFunc] 318)) z:=dJ x aM o;obtain⟨I,J,P,Q⟩:=lJ r;have y:aL z b.heap.size 318 [i,f,g,k]:=(aL.new b 318 [i,f,g,k]).of_heap (o.block _ aM);have Q1:=aF ((((M.out.below s.out).below q).below o).mono (B0:=w.heap.size+1) aM);have F:=aF (((L.out.below q).below o).mono (B0:=w.heap.size+1) (by have:=t.out.size;simp at this;omega));have B:w.heap.size+1<=b.heap.size:=by have:=u.out.size;simp at this;omega
 have N:=aF (A.mono (B0:=w.heap.size+1) rR);have E:=aF y;have G:=aF r;have C:=aF B;clear A y r x q o B;go_wp2_with fail;obtain⟨f1,f2⟩:=lI G.out (.func (.func 323) #[] #[aJ p 0]) (.func (.func 324) #[] #[aJ p 0]);refine Vl (v:=.agg #[.func (.func 323) #[] #[aJ p 0],.func (.func 324) #[] #[aJ p 0]]) (by simp[results,qog,go_sem,I,J]) rfl ⟨_,_,rfl,⟨p,b.heap.size,rfl,rfl,N.out.of f2,C.out,?_⟩,f1⟩;intro j H;have a:aL _ b.heap.size 318 [i,f,g,k]:=E.out.of_heap (f2 _ C.out);match j,H with
 |0,_=>exact⟨i,f,a.cell 0,a.cell 1,Q1.out.of f2⟩
 |1,_=>exact⟨g,k,a.cell 2,a.cell 3,F.out.of f2⟩
 |(m+2),hm=>exact absurd hm aM
structure GK (t e:Vg) (z:WA) (k aB:Nat):Prop where
 ht:prog.underlying t=some (.slice e)
 hi:(prog.info? e).map (fun i=>(i.zero,i.size,i.bytes))=some (some z,k,aB)
 hz:∀n,(eB z.cells n).toList.length=n*k
 h1:∀n,∀v∈(eB z.cells n).toList,v.oneCell'=true
 hb:aB<=104
def jY:WA:=.agg #[iZ 0,iZ 0,uZ 0,uZ 0,uZ 0,.bool false,uZ 0,uZ 0,.string ⟨#[]⟩,nZ]
def qdv:WA:=.agg #[uZ 0,uZ 0]
def M5:GK 63 170 qdv 2 16:=⟨bO,bO,iG,jw,aj⟩
def qR:GK 54 65 jY 10 104:=⟨bO,bO,fun n=>by simp[jY,eB,mR],fun n v a=>by simp[jY,eB,mR]at a;obtain⟨i,_,rfl⟩:=a;have:i % 10=0\/i % 10=1\/i % 10=2\/i % 10=3\/i % 10=4\/i % 10=5\/i % 10=6\/i % 10=7\/i % 10=8\/i % 10=9:=aj;rcases this with h|h|h|h|h|h|h|h|h|h<;>rw[h]<;>rfl,aj⟩
def dY(e:Vg)(k:Nat)(w:Wq)(v:WA)(n:Nat)(l:bJ):Prop:=
 v=nZ/\n=0/\l=[]\/∃g cap a,v=(dh g n cap)/\aL w g e a/\a.length=cap*k/\n<=cap/\cap<=9223372036854775807/\l.length=n*k/\a.take (n*k)=l/\∀v∈a,v.oneCell'=true
def dY.len{l:bJ}(h:dY e k w v n l):l.length=n*k:=by
 rcases h with⟨_,rfl,rfl⟩|⟨g,cap,cs,_,_,_,_,_,h,_⟩;·simp
 ·exact h
def dY.lt{e:Vg}{k:Nat}{w:Wq}{v:WA}{n:Nat}{l:bJ}(h:dY e k w v n l):∀b,v.ownBlock=some b->b<w.heap.size:=by
 intro b a;rcases h with⟨rfl,_⟩|⟨g,cap,cs,rfl,hB,_⟩;·simp[fE]at a
 ·simp[fE]at a;subst a;exact hB.lt
def dY.of_heap{e:Vg}{k:Nat}{w w':Wq}{v:WA}{n:Nat}{l:bJ}(h:dY e k w v n l)(f:∀b,v.ownBlock=some b->w'.heap[b]?=w.heap[b]?):dY e k w' v n l:=by
 rcases h with h|⟨g,cap,a,rfl,d,c⟩;·exact .inl h
 ·exact .inr ⟨g,cap,a,rfl,d.of_heap (f g rfl),c⟩
def dY.nil(e:Vg)(k:Nat)(w:Wq):dY e k w nZ 0 []:=.inl ⟨rfl,rfl,rfl⟩
def dY.shape{l:bJ}(h:dY e k w v n l):∃a c,v=.slice a n c/\n<=c:=by
 rcases h with⟨rfl,rfl,_⟩|⟨g,cap,cs,rfl,_,_,h,_⟩;·exact⟨_,_,rfl,qj _⟩
 ·exact⟨_,_,rfl,h⟩
def dY.cell{e:Vg}{k:Nat}{w:Wq}{v:WA}{n:Nat}{l:bJ}(h:dY e k w v n l){a:Option V3}{c:Nat}(d:v=.slice a n c)(j:Nat)(x:WA)(b:l[j]?=some x):∃g,a=some (ay g 0)/\w.cell? (ay g j)=some x/\w.frozen? (ay g j)=false:=by
 rcases h with⟨_,rfl,rfl⟩|⟨g,cap,cs,rfl,hB,_,_,_,h4,h5,_⟩;·simp at b
 ·simp at d;refine⟨g,d.1.symm,?_,hB.frozen j⟩;rw[hB.cell];rw[<-h5,qm6]at b;split at b;·exact b
  ·cases b
def je(E:GK t e z k aB){l:bJ}(h:dY e k w v n l)(a:V3)(m mc:Nat)(p:bJ)(H:p.length=m*k)(S:0<m)(F:∀v∈p,v.oneCell'=true)(o:∀j u,p[j]?=some u->w.cell? (a.add j)=some u)(O:n+m<=1000000000000):∃s x,(∀r,(fA #[t,t] r #[v,.slice (some a) m mc]).run prog w=.ok s x)/\dY e k x s (n+m) (l++p)/\Gr w x v s:=by
 have y:(n+m)*aB<=140737488355328:=qlz (Nat.mul_le_mul O E.hb) gP;have L:=h.len;have Q:(n+m)*k=n*k+m*k:=qpf _ _ _;have grow:∀base c (f:bJ),f=l->c<n+m->(base=none/\f=[]\/∃b:V3,base=some b/\f.length=n*k/\∀j v,f[j]?=some v->w.cell? (b.add j)=some v)->(∀v∈f,v.oneCell'=true)->∃s x,(∀r,(fA #[t,t] r #[.slice base n c,.slice (some a) m mc]).run prog w=.ok s x)/\dY e k x s (n+m) (l++p)/\Gr w x (.slice base n c) s:=by
  intro base c f A D B C;have q:=fun r=>jv (P:=prog) (w:=w) t t r e _ k aB E.ht E.ht E.hi (base:=base) (n:=n) (c:=c) (m:=m) (mc:=mc) (cs:=f) B a (vs:=p) H o F D y aj;have I:=grownCap_ge w (n+m) c e;have i:=grownCap_le_maxLen w (n+m) c e (by unfold maxLen;omega);unfold maxLen at i;have K:f.length=n*k:=by rw[A,L]
  refine⟨_,_,q,.inr ⟨w.heap.size,_,_,rfl,aL.new w e _,?_,I,i,by rw[qm0];omega,?_,?_⟩,fu (jm w _) (qol w.drew _ _),?_⟩
  ·rw[qm0,qm0,E.hz,K,H];have:(grownCap w (n+m) c e-(n+m))*k+(n+m)*k=grownCap w (n+m) c e*k:=by rw[<-qpf];congr 1;omega
   omega
  ·rw[qnz (by rw[qm0];omega),qmo (by rw[qm0];omega),A]
  ·intro u d;rcases qm7.1 d with d|d
   ·rcases qm7.1 d with d|d;·exact C u d
    ·exact F u d
   ·exact E.h1 _ u d
  ·intro b J;simp[fE]at J;exact .inr aj
 rcases h with⟨rfl,rfl,rfl⟩|⟨g,cap,f,rfl,hB,h2,h3,h4,h5,h6,h7⟩;·exact grow none 0 [] rfl aj (.inl ⟨rfl,rfl⟩) (fun v R=>by simp at R)
 ·by_cases D:n+m<=cap
  ·have N:(n+m)*k<=cap*k:=qpo _ D;have q:=fun r=>gG (P:=prog) (w:=w) t t r e _ k aB E.ht E.ht E.hi (n:=n) (c:=cap) (m:=m) (mc:=mc) hB a (vs:=p) H o F D aj;have M:=iI f p (n*k) aj;refine⟨_,_,q,.inr ⟨g,cap,_,rfl,hB.put _,?_,D,h4,by rw[qm0];omega,?_,dM h7 F⟩,dZ w g _,fun b J=>.inl J⟩;·rw[bV _ _ _ aj,h2]
   ·rw[Q,<-H,M,h6]
  ·exact grow (some (ay g 0)) cap l rfl aj (.inr ⟨_,rfl,h5,fun j u G=>by
    rw[qmb,qm5,hB.cell];rw[<-h6,qm6]at G;split at G;·exact G
    ·cases G⟩) (fun u d=>h7 u (by rw[<-h6]at d;exact qn2 d))
def Bh(E:GK t e z k aB)(w:Wq)(a:Option V3)(c:Nat)(h:Vg):(fA #[t,t] h #[nZ,.slice a 0 c]).run prog w=.ok nZ w:=by
 obtain⟨i,f,m,l,_⟩:=info_parts E.hi;have d:(kg i.size 0 (.slice a 0 c)).run prog w=.ok #[] w:=by
  cases a with
  |none=>exact run_firstCells_none w i.size 0 0 c
  |some b=>exact run_firstCells_some w i.size 0 b 0 c [] aM (fun j v g=>by simp at g)
 simp[fA,run_underlying E.ht,sizeOf,typeInfo,f,tJ,d]
