import Derived.Below
import Derived.BigQuiet
import Derived.Deep.AppendSrc
import Derived.Deep.Draws
import Derived.Deep.Light
import Derived.Deep.LoopGhost
import Derived.Deep.QuietTactic
import Derived.Deep.Upon
import Derived.KernelRfl
import Derived.LaidEql
import Derived.Laws.EntriesVeiled
import Derived.Lib.AppendZerosOnto
import Derived.Lib.JoinLaws
import Derived.Lib.Overlaps
import Derived.Lib.SliceRun
import Derived.OpenShut
import Derived.Outline
import Derived.RowKitTokens
import Derived.Shelf.Abstract
import Derived.Stop.Asserts
import Derived.Test.YtphbledmopchnaaGreatDoorProg
import Derived.WalkKit
import Derived.WalkLawsBesides
open Go.Builtin renaming zeroCells->eB,append_->fA,firstCells->mK,clear_->yR,copy_->Ba,lenOf->Bf,max_->Bg
open Go.Ending renaming returned->tL
open List renaming length_append->fB,take_of_length_le->fE,take_succ_eq_append_getElem->mI,foldl_append->qd,drop_of_length_le->tO,mem_of_mem_drop->tV,mem_of_mem_take->tX,range->tY,append_assoc->wm,nil_append->xY
open Nat renaming shiftRight_eq_div_pow->l9,xor_lt_two_pow->mR,and_two_pow_sub_one_eq_mod->nL,pow_le_pow_right->nU,mul_comm->tu,mul_assoc->uj,add_sub_cancel->vJ,pow_mul->wz,add_comm->Bu
open Go.RowKit renaming intOf->eT
open UInt8 renaming toNat_ofNat_of_lt'->nA,ofNat->nV
open Go.Value renaming ownBlock->mE,cells->nI,int->vU
set_option maxHeartbeats 1000000
set_option maxRecDepth 1000000
open Go renaming World->Wq,Value->Wx,Calls->WA,TypeId->WK,bodyPost_ret->VH,Addr->XK
set_option linter.all false
namespace Go.Proofs.YtphbledmopchnaaGreatDoor
open Go.RowKit Tryz
variable {c p q:Prop}
abbrev aA(b o:Nat):XK:=⟨b,o,none⟩
abbrev aK(b o:Nat):Wx:=.pointer (some ⟨b,o,none⟩)
abbrev uZ(x:Int):Wx:=.int .u64 x
abbrev iZ(x:Int):Wx:=.int .i64 x
abbrev dB(b n c:Nat):Wx:=.slice (some ⟨b,0,none⟩) n c
abbrev bM:=List Wx
abbrev bY:=List (Nat×Nat)
abbrev nZ:Wx:=.slice none 0 0
abbrev bJ(w y:Wq):Prop:=Below w.heap.size w y
def aj(h:p:=by omega):p:=h
def aR(h:p:=by simp):p:=h
def bZ(h:p:=by kernel_rfl):p:=h
def kX(h:p:=by decide):p:=h
def dZ(h:p:=by simp;omega):p:=h
def wh(h:p:=by simp;try omega):p:=h
def Nc(h:p:=by assumption):p:=h
def fT(h:q)(k:q->p:=by omega):p:=k h
def hwZ{r:Prop}(h:q)(i:r)(k:q->r->p:=by omega):p:=k h i
def bU{α:Type _}(a:α):∃x,x=a:=⟨a,rfl⟩
def dN{h:Decidable c}(a:c){α:Type _}{t e:α}:(ite c t e)=t:=if_pos a
def b_{h:Decidable c}(a:¬c){α:Type _}{t e:α}:(ite c t e)=e:=if_neg a
def bK{P}{n:Nat}{a w v}{R:Wq->Prop}{Q}(h:WA P n a w fun e b=>e=.returned v/\R b)(k:∀b,R b->Q (.returned v) b):WA P n a w Q:=h.mono fun _ b g=>g.1.symm▸k b g.2
abbrev bN(n:Nat)(a:Array Wx)(w:Wq)(v:Wx)(R:Wq->Prop):Prop:=WA prog n a w fun e b=>e=.returned v/\R b
def dz{a b}(h:a)(i:b):a/\b:=⟨h,i⟩
set_option linter.defProp false
def aI:=@Nat.le_refl
def mZ:=@List.getD_eq_getElem?_getD
def lM:=@fB
def wH:=@List.getElem?_eq_getElem
def bP:=@Go.RowKit.Below.refl
def iq:=@Go.World.block_lt_of_cell?
def jg:=@Go.RowKit.Below.heap_setCell
def eG:=@Nat.zero_le
def jh:=@List.getElem?_cons_zero
def gN:=@List.getElem?_cons_succ
def dx:=@Nat.le_trans
def pG:=@List.getElem?_take
def gK:=@Nat.lt_of_lt_of_le
def dY:=@List.mem_filter
def Au:=@List.length_take
def iJ:=@List.mem_append
def wI:=@fE
def gG:=@Nat.zero_add
def jE:=@Option.map_eq_some_iff
def oF:=@Array.getElem?_eq_some_iff
def ji:=@Go.Lib.wpList_append_run
def mH:=@List.length_map
def lC:=@wm
def iY:=@Bool.and_eq_true
def sD:=@List.mem_singleton
def Av:=@List.getElem?_append_left
def gT:=@Go.Addr.add_lit
def Nq:=@List.getElem?_append_right
def nQ:=@List.mem_cons
def mJ:=@Go.RowKit.Below.heap_alloc
def pI:=@List.length_cons
def Jm:=@List.getElem?_drop
def pJ:=@xY
def lF:=@Option.some.inj
def Jo:=@List.length_drop
def nC:=@Go.Calls.quiet_of_same
def Ay:=@List.getElem?_set_ne
def EX:=@List.length_eq_zero_iff
def lG:=@List.append_nil
def yU:=@Go.World.size_alloc
def tF:=@tX
def qmv:=@List.getElem?_eq_none
def jH:=@List.mem_map
def jZ:=@Nat.not_lt_zero
def TY:=@List.getElem_mem
def Yy:=@tO
def yV:=@List.length_set
def T9:=@List.getElem?_eq_some_iff
def nR:=@Go.Value.slice.injEq
def yX:=@List.setIfInBounds_toArray
def yY:=@List.mem_append_right
def vC:=@Go.IntKind.wrap_u64
def Jp:=@List.drop_eq_getElem_cons
def T_:=@List.getElem?_map
def Nr:=@List.getElem?_set_self
def Dv:=@List.map_append
def vD:=@List.length_nil
def tH:=@List.length_filter_le
def qB:=@Go.IntKind.wrap_i64
def Az:=@List.mem_append_left
def tJ:=@Go.World.cell?_alloc_lt
def tK:=@Option.some.injEq
def Ua:=@List.take_add_one
def EY:=@qd
def Yz:=@nU
def yZ:=@tV
def Dw:=@List.getD_cons_succ
def Jq:=@List.filter_eq_self
def wJ:=@Nat.le_add_right
def za:=@List.any_eq_true
def Ns:=@tu
def qj5:=@List.getElem?_take_of_lt
def Jr:=@Bool.not_eq_true'
def ze:=@Go.World.grownBy_alloc
def Dx:=@List.getElem?_replicate
def EZ:=@Nat.mul_le_mul_right
def Dy:=@Nat.min_le_right
def wK:=@List.prefix_refl
def AA:=@List.cons_append
def E8:=@List.size_toArray
def zh:=@List.ext_getElem?
def AB:=@Nat.le_of_lt
def Dz:=@List.take_zero
def qmw:=@mI
def Nu:=@Array.length_toList
def DC:=@Go.Sem.run_bind
def AJ:=@List.take_length
def Ub:=@nL
def vE:=@Go.Proofs.Tryz.ntmps295
def DF:=@Prod.mk.injEq
def Js:=@Bool.eq_false_or_eq_true
def wL:=@Nat.mul_one
def Jt:=@Array.replicate_zero
def Ju:=@Array.replicate_succ
def YA:=@Bool.eq_iff_iff
def qj6:=@Go.World.drewN_drewN
def Jv:=@List.append_toArray
def pY:=@Go.Proofs.Tryz.func295
def qjy:=@List.not_mem_nil
def wM:=@List.all_eq_true
def Cn:=@Nat.lt_of_le_of_lt
def KO:=@vJ
def zF:=@List.filter_map
def YB:=@List.drop_left'
def Co:=@Nat.sub_self
def sN:=@Nat.add_zero
def Cr:=@List.push_toArray
def YC:=@List.flatMap_cons
def Ct:=@Int.toNat_natCast
def wO:=@Go.Addr.mk.injEq
def wP:=@List.filter_sublist
def wQ:=@Go.Proofs.Tryz.results217
def sO:=@Go.Proofs.Tryz.ntmps22
def uL:=@Go.Proofs.Tryz.ntmps215
def KP:=@Nat.lt_irrefl
def qjz:=@List.length_replicate
def zG:=@Go.Oper.semAt_some
def qk0:=@Go.Result.andThen_ok
def Qz:=@List.pairwise_append
def sP:=@Go.Proofs.Tryz.func22
def uM:=@Go.Proofs.Tryz.func215
def YD:=@Nat.lt_succ_self
def Cu:=@List.foldlM_cons
def qk1:=@List.filter_cons
def YE:=@List.mem_or_eq_of_mem_set
def QA:=@List.map_congr_left
def E9:=@List.getD_cons_zero
def wR:=@Go.Proofs.Tryz.ntmps217
def KQ:=@List.map_cons
def qh:=@Ne.symm
def KR:=@Nat.le_max_left
def Cv:=@List.foldlM_nil
def QB:=@List.pairwise_cons
def YF:=@Int.natCast_nonneg
def wT:=@Go.Proofs.Tryz.func217
def YG:=@List.take_take
def KS:=@Go.World.frozen?_alloc_old
def qk2:=@ByteArray.data_extract
def YH:=@Go.Sem.run_pure
def qk3:=@List.take_append_drop
def qk4:=@List.length_singleton
def YI:=@Array.ext'
def zH:=@Go.Proofs.Tryz.ntmps224
def QC:=@Go.Proofs.Tryz.ntmps127
def qk5:=@Option.getD_some
def E_:=@List.ext_getElem
def Cw:=@Nat.add_mul
def KU:=@List.mem_of_mem_tail
def Cx:=@List.mem_of_getElem?
def QE:=@List.foldl_cons
def YJ:=@Int.natCast_add
def YK:=@List.mem_map_of_mem
def YL:=@Int.toNat_of_nonneg
def zI:=@Go.Proofs.Tryz.func224
def QG:=@Go.Proofs.Tryz.func127
def KV:=@Nat.zero_mul
def Cy:=@Exists.intro
def uN:=@Nat.max_le
def QH:=@Go.WideAt.sameKey_self
def QJ:=@List.filter_append
def Cz:=@Go.Proofs.Tryz.ntmps183
def QL:=@List.pairwise_map
def KW:=@Nat.add_assoc
def qk6:=@List.sum_cons
def qk7:=@nA
def KX:=@List.mem_of_mem_eraseIdx
def Fa:=@Go.Proofs.Tryz.results267
def qk8:=@Nat.le_max_right
def KY:=@List.mem_reverse
def sQ:=@List.mem_flatMap
def KZ:=@List.drop_length
def QM:=@Go.ByteArray.toList_eq
end Go.Proofs.YtphbledmopchnaaGreatDoor
namespace Go.Proofs.YtphbledmopchnaaGreatDoor.Mm
open Go.RowKit Tryz
variable {a w:Wq}{b c g m mc n o:Nat}{cs l vs:bM}{row:Option Nat}{t tb:WK}
section
variable {P:Program}
def bC(l:bM)(o:Nat)(cs:bM):bM:=l.take o++cs++l.drop (o+cs.length)
theorem cu(l o cs)(h:o+cs.length<=l.length):(bC l o cs).length=l.length:=by simp[bC];omega
def aS(w:Wq)(b:Nat)(t:WK)(l:bM):Prop:=w.heap[b]?=some (.cells l.toArray t (0,0))
def aS.cell{w b t l}(h:aS w b t l)(j):w.cell? (aA b j)=l[j]?:=by unfold aS at h;simp[World.cell?,h]
def aS.frozen{w b t l}(h:aS w b t l)(j):w.frozen? (aA b j)=false:=by unfold aS at h;simp[World.frozen?,h]
def aS.shape{w b t l}(h:aS w b t l):w.shape? b=some (t,l.length):=by unfold aS at h;simp[World.shape?,h]
def aS.lt(h:aS w b t l):b<w.heap.size:=(oF.1 h).1
theorem aS.of_heap{w'}(h:aS w b t l)(e:w'.heap[b]?=w.heap[b]?):aS w' b t l:=by grind [aS]
def aS.drew{w b t l}(h:aS w b t l):aS w.drew b t l:=h
def aS.alloc{w b t l}(h:aS w b t l)(o):aS (w.alloc o) b t l:=
 h.of_heap (mJ w o b h.lt)
theorem aS.new(w:Wq)(t l):aS (w.alloc (.cells l.toArray t)) w.heap.size t l:=by show(w.heap.push _)[w.heap.size]?=_;simp
def put(w:Wq)(b:Nat)(l:bM):Wq:=w.setRow b l.toArray
def aS.put(h:aS w b t l)(l':bM):aS (put w b l') b t l':=setRow_heap w b _ _ t _ h
def iI(w b k l)(h:k≠b):(put w b l).heap[k]?=w.heap[k]?:=setRow_other w b k _ h
def eU(w:Wq)(b l):w.grownBy (put w b l) (some b):=
 ⟨rfl,rfl,rfl,by simp[put],fun k _ a=>iI w b k l (fun e=>a (by rw[e]))⟩
theorem gU(h:aS w g t l)(cs:bM)(a:o+cs.length<=l.length)(b:∀v∈cs,v.oneCell'=true):(storeCells (aA g o) cs).run P w=.ok () (put w g (bC l o cs)):=by have:=run_storeCells_at P g o t cs 0 l.toArray w h (by grind) b;simpa[put,bC]using this
theorem AO(h:aS w g t l)(cs:bM)(c:o+cs.length<=l.length)(d:∀v∈cs,v.oneCell'=true):w.setCells g o cs=put w g (bC l o cs):=by have a:=gU (P:=default) h cs c d;have b:=run_storeCells_cells (P:=default) g o cs 0 w (fun j e=>by rw[h.cell];simp;omega) (fun j _=>h.frozen _) d;grind
theorem kE(m A B elem){dLen dCap}(h:aS w g t l)(a b c k n cs)(z:P.underlying m=some (.slice elem))(y:(P.info? elem).map (·.size)=some k)(x:Nat.min b dLen=n)(u:cs.length=n*k)(e:∀j v,cs[j]?=some v->w.cell? (a.add j)=some v)(d:o+cs.length<=l.length)(q:∀v∈cs,v.oneCell'=true):(Ba #[m,A] B #[.slice (some (aA g o)) dLen dCap,.slice (some a) b c]).run P w=.ok (goInt n) (put w g (bC l o cs)):=by
 have f:=gU (P:=P) (o:=o) h cs d q;cases p:P.info? elem with
 |none=>simp[p]at y
 |some i=>
  have s:i.size=k:=by grind
  have r:=run_firstCells_some (P:=P) w k n a b c cs u e;simp[Ba,run_underlying z,Bf,sizeOf,typeInfo,p,s,x,r,f]
def iE(t e j z)(g:P.underlying t=some (.slice e))(i:∀w,(zeroValue e).run P w=.ok z w)(h:aS w b tb l)(k:0<n)(a:o+(eB z.cells n).toList.length<=l.length)(f:∀v∈(eB z.cells n).toList,v.oneCell'=true):(yR #[t] j #[.slice (some (aA b o)) n c]).run P w=.ok (.tuple #[]) (put w b (bC l o (eB z.cells n).toList)):=by have d:=gU (P:=P) (o:=o) h _ a f;obtain⟨m,rfl⟩:∃m,n=m+1:=⟨n-1,aj⟩;simp[yR,run_underlying g,i,d]
theorem ig(t p u e z k aB)(A:P.underlying t=some (.slice e))(r:P.underlying p=some (.slice e))(d:(P.info? e).map (fun i=>(i.zero,i.size,i.bytes))=some (some z,k,aB))(h:aS w b tb l)(a)(s:vs.length=m*k)(o:∀j v,vs[j]?=some v->w.cell? (a.add j)=some v)(g:∀v∈vs,v.oneCell'=true)(f:n+m<=c)(C:n*k+vs.length<=l.length):(fA #[t,p] u #[dB b n c,.slice (some a) m mc]).run P w=.ok (dB b (n+m) c) (put w b (bC l (n*k) vs)):=by
 obtain⟨i,y,_,q,_⟩:=info_parts d;have x:Src P i.size p (.slice (some a) m mc) m vs w:=by rw[q];exact Src.ofSlice w r a m mc vs s o g
 rw[run_append_room_src (P:=P) (w:=w) t p u e i A y b 0 n c _ m vs x f (fun j B=>by rw[h.cell,q];simp;omega) (fun j _=>h.frozen _),AO h _ (by grind) g,q,gG]
theorem jX(t o x e z k aB)(D:P.underlying t=some (.slice e))(q:P.underlying o=some (.slice e))(f:(P.info? e).map (fun i=>(i.zero,i.size,i.bytes))=some (some z,k,aB)){base}(h:base=none/\cs=[]\/∃b,base=some b/\cs.length=n*k/\∀j v,cs[j]?=some v->w.cell? (b.add j)=some v)(a)(r:vs.length=m*k)(l:∀j v,vs[j]?=some v->w.cell? (a.add j)=some v)(p:∀v∈vs,v.oneCell'=true)(d:c<n+m)(g:(n+m)*aB<=140737488355328)(s:n+m<=9223372036854775807):(fA #[t,o] x #[.slice base n c,.slice (some a) m mc]).run P w=.ok (dB w.heap.size (n+m) (grownCap w (n+m) c e))
   (w.drew.alloc (.cells (cs++vs++(eB z.cells (grownCap w (n+m) c e-(n+m))).toList).toArray e)):=by
 obtain⟨i,C,E,u,B⟩:=info_parts f;have A:Src P i.size o (.slice (some a) m mc) m vs w:=by rw[u];exact Src.ofSlice w q a m mc vs r l p
 have y:(mK i.size n (.slice base n c)).run P w.drew=.ok cs.toArray w.drew:=by
  rcases h with⟨rfl,rfl⟩|⟨b,rfl,hl,hc⟩;.grind [run_firstCells_none]
  .rw[u];exact run_firstCells_some w.drew k n b n c cs hl hc
 rw[run_append_grow_src (P:=P) (w:=w) t o x e i z D C E base n c cs y _ m vs A d aj (by rw[B];exact growslice_fits d g)];congr 3
 grind
theorem wU(t h q e z k aB o p)(D:P.underlying t=some (.slice e))(g:P.underlying h=some (.int o))(d:(P.info? e).map (fun i=>(i.zero,i.size,i.bytes))=some (some z,k,aB))(F:0<k)(b)(y:cs.length=n*k)(u:∀j v,cs[j]?=some v->w.cell? (b.add j)=some v)(A:0<m)(a:c<n+m)(f:(n+m)*aB<=140737488355328)(l:n+m<=9223372036854775807):(fA #[t,h] q #[.slice (some b) n c,.int p (m:Nat)]).run P w=.ok (dB w.heap.size (n+m) (grownCap w (n+m) c e))
   (w.drew.alloc (.cells (cs++(eB z.cells m).toList++(eB z.cells (grownCap w (n+m) c e-(n+m))).toList).toArray e)):=by
 obtain⟨i,x,E,C,s⟩:=info_parts d;have r:(mK i.size n (.slice (some b) n c)).run P w.drew=.ok cs.toArray w.drew:=by rw[C];exact run_firstCells_some w.drew k n b n c cs y u
 have B:m*aB<=(n+m)*aB:=EZ _ aj;rw[Lib.run_append_grow_zeros w t h q e i z p o D g x E (some b) n c cs r m A aj a aj (by grind) (by rw[s];exact growslice_fits a f)];congr 3
 grind
theorem lS(l o cs)(h:o+cs.length<=l.length)(j):(bC l o cs)[j]?=if j<o then l[j]? else if j<o+cs.length then cs[j-o]? else l[j]?:=by unfold bC;grind
theorem QT(l vs a m k)(e:a<=m)(f:m+k<=l.length)(d:vs.length=k):(bC (bC l (a+k) ((l.drop a).take (m-a))) a vs).take (m+k)=(l.take m).take a++vs++(l.take m).drop a:=by have b:((l.drop a).take (m-a)).length=m-a:=dZ;have c:(bC l (a+k) ((l.drop a).take (m-a))).length=l.length:=cu _ _ _ aj;apply zh;intro j;rw[pG,lS _ _ _ aj,lS _ _ _ aj,d,b];grind
theorem Nw(R vs b a k)(d:vs.length=k)(e:a+k+b.length<=R.length):(bC (bC R a vs) (a+k) b).take (a+k+b.length)=R.take a++vs++b:=by have c:(bC R a vs).length=R.length:=cu _ _ _ aj;apply zh;intro j;rw[pG,lS _ _ _ aj,lS _ _ _ aj,d];grind
theorem iF(R cs o a)(h:o+cs.length<=R.length)(b:a<=o):(bC R o cs).take a=R.take a:=by apply zh;intro j;rw[pG,pG,lS _ _ _ h];grind
theorem jd(R vs a)(h:a+vs.length<=R.length):(bC R a vs).take (a+vs.length)=R.take a++vs:=by grind [bC,fE]
theorem dS{R}(a:∀v∈R,v.oneCell'=true)(b:∀v∈cs,v.oneCell'=true):∀v∈bC R o cs,v.oneCell'=true:=by grind [bC,tX,tV]
theorem sF(R cs o a)(h:o+cs.length<=R.length)(b:o+cs.length<=a):(bC R o cs).drop a=R.drop a:=by apply zh;intro j;rw[Jm,Jm,lS _ _ _ h,b_ aj,b_ aj]
theorem jC(n):(eB (Value.agg #[uZ 0,uZ 0]).cells n).toList.length=n*2:=by simp[eB,nI]
theorem kS(n):∀v∈(eB (Value.agg #[uZ 0,uZ 0]).cells n).toList,v.oneCell'=true:=by intro v a;simp[eB,nI]at a;obtain⟨i,_,rfl⟩:=a;have:i % 2=0\/i % 2=1:=aj;rcases this with h|h<;>rw[h]<;>rfl
def jS(w:Wq)(row):w.grownBy w.drew row:=⟨rfl,rfl,rfl,aI _,fun _ _ _=>rfl⟩
def wV(w:Wq)(q row):w.grownBy (w.drewN q) row:=⟨rfl,rfl,rfl,aI _,fun _ _ _=>rfl⟩
def QU(w:Wq)(row):w.grownBy w row:=⟨rfl,rfl,rfl,aI _,fun _ _ _=>rfl⟩
def fJ{b c}(h:a.grownBy b row)(k:b.grownBy c row):a.grownBy c row:=
 ⟨k.os.trans h.os,k.tape.trans h.tape,k.output.trans h.output,dx h.size k.size,fun i e d=>(k.block i (gK e h.size) d).trans (h.block i e d)⟩
def zi(h:a.grownBy w row)(b l)(e:a.heap.size<=b):a.grownBy (put w b l) row:=
 ⟨h.os,h.tape,h.output,dx h.size (by simp[put]),fun k d c=>(iI w b k l aj).trans (h.block k d c)⟩
end
end Go.Proofs.YtphbledmopchnaaGreatDoor.Mm
namespace Go.Proofs.YtphbledmopchnaaGreatDoor.Crc
variable {a b c:Nat}
def tab:List Nat:=[0,498536548,997073096,651767980,1994146192,1802195444,1303535960,1342533948,3988292384,4027552580,3604390888,3412177804,2607071920,2262029012,2685067896,3183342108]
def Nv(c:Nat):Nat:=(c >>>4) ^^^ tab.getD (c&&& 15) 0
def byt(c:Nat)(x:UInt8):Nat:=Nv (Nv (c ^^^ x.toNat))
def reg(c:Nat)(l:List UInt8):Nat:=l.foldl byt c
def sum(l:List UInt8):Nat:=4294967295 ^^^ reg 4294967295 l
theorem CB(h:a ^^^ c=b ^^^ c):a=b:=by have:=congrArg (fun z=>z ^^^ c) h;grind
theorem Fb(h:c ^^^ a=c ^^^ b):a=b:=by grind [CB]
theorem YM:∀k,k<16->tab.getD k 0<4294967296:=by decide
def qes:∀a,a<16->∀b,b<16->tab.getD a 0 >>>28=tab.getD b 0 >>>28->a=b:=by decide
theorem qj7(c):c&&& 15=c % 16:=by have:=nL c 4;grind
def AL(c):c&&& 15<16:=by rw[qj7];omega
theorem zJ(c)(h:c<4294967296):Nv c<4294967296:=by
 unfold Nv;have a:c >>>4<2 ^ 32:=by grind [l9]
 have b:tab.getD (c&&& 15) 0<2 ^ 32:=YM _ (AL c);exact mR a b
theorem qet(c)(h:c<4294967296):Nv c >>>28=tab.getD (c&&& 15) 0 >>>28:=by
 unfold Nv;rw[Nat.shiftRight_xor_distrib];have:c >>>4 >>>28=0:=by grind [Nat.shiftRight_add,l9]
 grind
theorem Ev(a b)(d:a<4294967296)(e:b<4294967296)(h:Nv a=Nv b):a=b:=by have c:a&&& 15=b&&& 15:=qes _ (AL a) _ (AL b) (by grind [qet]);grind [Nv,CB,qj7,l9]
def qX(x:UInt8):x.toNat<256:=x.toNat_lt
def Fe(c x)(h:c<4294967296):byt c x<4294967296:=by unfold byt;have a:c ^^^ x.toNat<2 ^ 32:=mR (by omega) (by have:=qX x;omega);exact zJ _ (zJ _ a)
def K_(c l)(h:c<4294967296):reg c l<4294967296:=by
 induction l generalizing c with
 |nil=>exact h
 |cons x t a=>exact a _ (Fe c x h)
theorem sum_lt(l):sum l<4294967296:=
 mR (n:=32) (by omega) (K_ _ l (by omega))
theorem qY(c:a<4294967296)(d:b<4294967296):a ^^^ b<4294967296:=mR (n:=32) c d
theorem La(a b x)(c:a<4294967296)(d:b<4294967296)(h:byt a x=byt b x):a=b:=by have f:=qX x;have e:=Ev _ _ (zJ _ (qY c (by omega))) (zJ _ (qY d (by omega))) h;grind [CB,Ev,qY]
theorem I6(a x y)(b:a<4294967296)(h:byt a x=byt a y):x=y:=by have d:=qX x;have e:=qX y;have c:=Ev _ _ (zJ _ (qY b (by omega))) (zJ _ (qY b (by omega))) h;grind [Fb,Ev,qY,UInt8.toNat_inj]
def qeu(a b l)(c:a<4294967296)(d:b<4294967296)(h:reg a l=reg b l):a=b:=by
 induction l generalizing a b with
 |nil=>exact h
 |cons x t e=>exact La a b x c d (e _ _ (Fe a x c) (Fe b x d) h)
theorem QN(p t x y)(h:x≠y):sum (p++x::t)≠sum (p++y::t):=by intro e;have a:=Fb e;unfold reg at a;rw[qd,qd]at a;have b:List.foldl byt 4294967295 p<4294967296:=K_ _ p (by omega);exact h (I6 _ x y b (qeu _ _ t (Fe _ x b) (Fe _ y b) a))
end Go.Proofs.YtphbledmopchnaaGreatDoor.Crc
namespace Go.Proofs.YtphbledmopchnaaGreatDoor.Num
def code(n:Nat):Nat:=if n<64 then 0 else if n<16384 then 1 else if n<1073741824 then 2 else 3
def be:Nat->Nat->List UInt8
 |0,_=>[]
 |k+1,n=>nV (n / 256 ^ k % 256)::be k n
def aB(n:Nat):List UInt8:=be (2 ^ code n) (n+code n*2 ^ (8*2 ^ code n-2))
theorem Uc(n):code n<=3:=by grind [code]
theorem kR:∀k n,(be k n).length=k
 |0,_=>rfl
 |k+1,n=>by simp[be,kR k n]
theorem jr(n):(aB n).length=2 ^ code n:=kR _ _
def val(a:Nat)(l:List UInt8):Nat:=l.foldl (fun n x=>n*256+x.toNat) a
theorem QO:∀k n a,val a (be k n)=a*256 ^ k+n % 256 ^ k
 |0,n,a=>by simp[be,val,Nat.mod_one]
 |k+1,n,a=>by
  have b:=QO k n (a*256+n / 256 ^ k % 256);have h:val a (be (k+1) n)=val (a*256+n / 256 ^ k % 256) (be k n):=by grind [val,be,nA,Nat.mod_lt]
  rw[h,b,Nat.pow_succ,Nat.mod_mul,Nat.add_mul,uj a 256,tu 256 (256 ^ k),tu (n / 256 ^ k % 256)];omega
def aY:List UInt8->Option (Nat×List UInt8)
 |[]=>none
 |x::t=>if t.length<2 ^ (x.toNat / 64)-1 then none else some (val (x.toNat % 64) (t.take (2 ^ (x.toNat / 64)-1)),t.drop (2 ^ (x.toNat / 64)-1))
def Jw(x t):aY (x::t)=if t.length<2 ^ (x.toNat / 64)-1 then none else some (val (x.toNat % 64) (t.take (2 ^ (x.toNat / 64)-1)),t.drop (2 ^ (x.toNat / 64)-1)):=rfl
theorem QS(n)(h:n<4611686018427387904)(t):aY (aB n++t)=some (n,t):=by
 have key:∀(c k:Nat),2 ^ c=k+1->c<4->n<64*256 ^ k->aY (be (k+1) (n+c*(64*256 ^ k))++t)=some (n,t):=by
  intro c k i p l;have a:0<256 ^ k:=Nat.pow_pos (by decide);have m:(n+c*(64*256 ^ k)) / 256 ^ k=n / 256 ^ k+c*64:=by rw[<-uj,Nat.add_mul_div_right _ _ a]
  have b:∀q,q<64->(q+c*64) / 64=c/\(q+c*64) % 64=q/\q+c*64<256:=fun q m=>by omega
  have d:=(Nat.div_lt_iff_lt_mul a).2 l;have o:(nV ((n+c*(64*256 ^ k)) / 256 ^ k % 256)).toNat=n / 256 ^ k+c*64:=by grind [nA,Nat.mod_lt,Nat.mod_eq_of_lt]
  show aY (nV ((n+c*(64*256 ^ k)) / 256 ^ k % 256)::(be k (n+c*(64*256 ^ k))++t))=_;rw[Jw,o,(b _ d).1,(b _ d).2.1,i,vJ];have j:=kR k (n+c*(64*256 ^ k));rw[if_neg (by simp[j]),List.take_append_of_le_length (by omega),fE (by omega),List.drop_append_of_le_length (by omega),tO (by omega),xY,QO];grind [uj,Nat.add_mul_mod_self_right,Nat.div_add_mod']
 unfold aB code;by_cases e:n<64;.simp only[e,if_true];exact key 0 0 rfl (by omega) (by omega)
 .by_cases f:n<16384;.simp only[e,f,if_true,if_false];exact key 1 1 rfl (by omega) (by omega)
  .by_cases g:n<1073741824;.simp only[e,f,g,if_true,if_false];exact key 2 3 rfl (by omega) (by omega)
   .simp only[e,f,g,if_false];exact key 3 7 rfl (by omega) (by omega)
end Go.Proofs.YtphbledmopchnaaGreatDoor.Num
namespace Go.Proofs.YtphbledmopchnaaGreatDoor
open Go.RowKit Go.Lib Tryz
theorem aG{p}(h:p):Hid p:=h
def nS{k a b}(h:a=b):tL (.int k a)=.returned (.int k b):=by rw[h]
def dQ{a b}(h:a=b):tL (.bool a)=.returned (.bool b):=by rw[h]
def Fg(n:Nat)(w):bN 271 #[uZ n] w (iZ (Num.code n:Nat)) fun j=>j=w:=by
 generalize a:Num.code n=C;unfold Num.code at a;by_cases b:n<64
 .have c:Hid (C=0):=by rw[dN b]at a;exact a.symm
  have f:(n:Int)<64:=aj;clear a b;go_enter func271,ntmps271;go_wp2;go_ret;exact⟨nS (by rw[c.out];rfl),rfl⟩
 .have f:¬((n:Int)<64):=aj;by_cases d:n<16384
  .have c:Hid (C=1):=by rw[b_ b,dN d]at a;exact a.symm
   have g:(n:Int)<16384:=aj;clear a b d;go_enter func271,ntmps271;go_wp2;go_ret;exact⟨nS (by rw[c.out];rfl),rfl⟩
  .have g:¬((n:Int)<16384):=aj;by_cases e:n<1073741824
   .have c:Hid (C=2):=by rw[b_ b,b_ d,dN e]at a;exact a.symm
    have i:(n:Int)<1073741824:=aj;clear a b d e;go_enter func271,ntmps271;go_wp2;go_ret;exact⟨nS (by rw[c.out];rfl),rfl⟩
   .have c:Hid (C=3):=by rw[b_ b,b_ d,b_ e]at a;exact a.symm
    have i:¬((n:Int)<1073741824):=aj;clear a b d e;go_enter func271,ntmps271;go_wp2;go_ret;exact⟨nS (by rw[c.out];rfl),rfl⟩
def dX(w:Wq)(a:Option XK)(l:List UInt8):Prop:=
 ∀j (hj:j<l.length),∃b c,a=some (aA b c)/\w.cell? (aA b (c+j))=some (.int .u8 ((l[j].toNat:Nat):Int))
def mM(w:Wq):Prop:=∀k,k<16->w.cell? (aA 1 k)=some (.int .u32 ((Crc.tab.getD k 0:Nat):Int))
def qev(R:Nat)(h:R<4294967296):bits .xor .u32 IntKind.u32.max (R:Int)=((4294967295 ^^^ R:Nat):Int):=by have e:IntKind.u32.max=((4294967295:Nat):Int):=kX;rw[e];exact u32_xor_nat 4294967295 R aj h
theorem YN(l:List UInt8)(k h):Crc.reg 4294967295 (l.take (k+1))=Crc.byt (Crc.reg 4294967295 (l.take k)) l[k]:=by grind [mI,Crc.reg]
theorem Jy(S i D T)(h:S<4294967296)(g:i=S&&& 15)(d:D=S >>>4)(f:T=Crc.tab.getD i 0):bits .and .u32 (S:Int) 15=(i:Int)/\(S:Int) / 16=(D:Int)/\bits .xor .u32 (D:Int) (T:Int)=(Crc.Nv S:Int)/\(i:Int)<16/\i<16:=by
 have b:=Crc.AL S;have e:D=S / 16:=by grind [l9]
 refine⟨?_,aj,?_,aj,aj⟩;.grind [u32_and_nat]
 .have a:D<4294967296:=aj;have c:T<4294967296:=by grind [Crc.YM]
  rw[u32_xor_nat D T a c,f,d,g];rfl
theorem Ud(a){l}(c w)(U:l.length<=1000000000)(C:dX w a l)(E:mM w):bN 159 #[.slice a l.length c] w (.int .u32 (Crc.sum l:Nat)) fun Q=>Q=w:=by
 have F:=aG C;have B:=aG E;clear C E;go_enter func159,ntmps159;go_wp2;go_loop [3,8] (fun N y=>∃k:Nat,k<=l.length/\y=(iZ k)/\N=.int .u32 (Crc.reg 4294967295 (l.take k):Nat)) (fun _ y=>l.length-(eT y).toNat)
 case atStart=>exact⟨0,eG _,rfl,rfl⟩
 case round=>
  obtain⟨k,T,rfl,rfl⟩:=hrel;by_cases n:k<l.length
  .have D:(k:Int)<(l.length:Int):=aj;obtain⟨b,K,I,J⟩:=F.out k n;subst I;have o:=Crc.K_ 4294967295 (l.take k) aj;have d:=YN l k n;have H:=Crc.qX l[k];have m:Crc.byt (Crc.reg 4294967295 (l.take k)) l[k]=Crc.Nv (Crc.Nv (Crc.reg 4294967295 (l.take k) ^^^ l[k].toNat)):=rfl;rw[m]at d;generalize Crc.reg 4294967295 (l.take k)=R at o d;generalize l[k].toNat=X at J H d;obtain⟨S1,p,r,T1,x,e⟩:∃S1 p r T1:Nat,S1=R ^^^ X/\p=S1&&& 15/\r=S1 >>>4/\T1=Crc.tab.getD p 0:=⟨_,_,_,_,rfl,rfl,rfl,rfl⟩;have j:S1<4294967296:=by grind [Crc.qY]
   obtain⟨q,s,v,f⟩:∃q s v:Nat,q=Crc.Nv S1&&& 15/\s=Crc.Nv S1 >>>4/\v=Crc.tab.getD q 0:=⟨_,_,_,rfl,rfl,rfl⟩;have r1:bits .xor .u32 (R:Int) ((X:Int) % 4294967296)=(S1:Int):=by rw[show(X:Int) % 4294967296=(X:Int) by omega,x];grind [u32_xor_nat]
   have r2:bits .xor .u32 (R:Int) (X:Int)=(S1:Int):=by grind
   obtain⟨q1,q2,q3,q4,M⟩:=Jy S1 p r T1 j e.1 e.2.1 e.2.2;obtain⟨V,W,Y,Z,L⟩:=Jy (Crc.Nv S1) q s v (Crc.zJ S1 j) f.1 f.2.1 f.2.2;have O:=B.out p M;have P:=B.out q L;rw[<-e.2.2]at O;rw[<-f.2.2]at P;have u:=aG d;have t:=aG x;clear d x e f m;generalize g:Crc.Nv S1=G at *
   generalize i:Crc.Nv G=S at *
   have z:=aG (dz g i);clear g i;go_wp2;go_round
   case rel=>exact⟨k+1,aj,by go_num,by rw[u.out,<-t.out,z.out.1,z.out.2]⟩
   case measure=>simp[eT];omega
  .obtain rfl:k=l.length:=aj;have o:=Crc.K_ 4294967295 (l.take l.length) aj;rw[AJ]at o ⊢;have A:Hid (Crc.sum l=4294967295 ^^^ Crc.reg 4294967295 l):=rfl;generalize Crc.reg 4294967295 l=R at o A ⊢;go_wp2;go_ret;exact⟨nS (by rw[qev R o,A.out]),rfl⟩
end Go.Proofs.YtphbledmopchnaaGreatDoor
namespace Go.Proofs.YtphbledmopchnaaGreatDoor
open Go.RowKit Go.Lib Mm Tryz
variable {a:Option XK}{b:Nat}{l:List UInt8}{v:Wx}{w:Wq}
def u29:prog.underlying 60=some (.slice 5):=bZ
def u9:prog.underlying 9=some .string:=bZ
def Ny:(prog.info? 5).map (fun i=>(i.zero,i.size,i.bytes))=some (some (.int .u8 0),1,1):=bZ
def cO(l:List UInt8):bM:=l.map fun b=>.int .u8 ((b.toNat:Nat):Int)
theorem fC(l):(cO l).length=l.length:=by simp[cO]
theorem kU(a b):cO (a++b)=cO a++cO b:=by simp[cO]
theorem jT(l):∀v∈cO l,v.oneCell'=true:=by intro v a;obtain⟨_,_,rfl⟩:=jH.1 a;rfl
theorem xW(n):(eB (vU .u8 0).cells n).toList.length=n:=by simp[eB,nI]
theorem CF(n):∀v∈(eB (vU .u8 0).cells n).toList,v.oneCell'=true:=by intro v a;simp[eB,nI]at a;obtain⟨i,_,rfl⟩:=a;have:i % 1=0:=aj;rw[this];rfl
def nT(w:Wq)(v:Wx)(l:List UInt8):Prop:=
 v=nZ/\l=[]\/∃g cap a,v=(dB g l.length cap)/\aS w g 5 a/\a.length=cap/\l.length<=cap/\cap<=9223372036854775807/\a.take l.length=cO l/\∀v∈a,v.oneCell'=true
def Gr(w w':Wq)(v v':Wx):Prop:=w.grownBy w' v.ownBlock/\∀k,v'.ownBlock=some k->v.ownBlock=some k\/w.heap.size<=k
def Gr.refl(w v):Gr w w v v:=⟨QU w _,fun _ h=>.inl h⟩
theorem Gr.trans{a b c u v x}(h:Gr a b u v)(k:Gr b c v x):Gr a c u x:=
 ⟨⟨k.1.os.trans h.1.os,k.1.tape.trans h.1.tape,k.1.output.trans h.1.output,dx h.1.size k.1.size,fun i d f=>(k.1.block i (gK d h.1.size) (fun e=>by
   rcases h.2 i e.symm with e'|e';.grind
   .omega)).trans (h.1.block i d f)⟩,fun i d=>by
  have g:=h.1.size;rcases k.2 i d with e|e;.exact h.2 i e
  grind⟩
theorem Gr.alloc{w w' v v'}(o)(h:Gr (w.alloc o) w' v v'):Gr w w' v v':=
 ⟨⟨h.1.os,h.1.tape,h.1.output,by have:=h.1.size;simp at this;omega,fun i a b=>by rw[h.1.block i dZ b,mJ _ _ _ a]⟩,fun i a=>by
  rcases h.2 i a with e|e;.exact .inl e
  .simp at e;grind⟩
def nT.lt{w v l}(h:nT w v l):∀k,v.ownBlock=some k->k<w.heap.size:=by
 intro k a;rcases h with⟨rfl,_⟩|⟨g,cap,cs,rfl,hB,_⟩;.simp[mE]at a
 .simp[mE]at a;subst a;exact hB.lt
def nT.of_heap{w w' v l}(h:nT w v l)(e:∀k,v.ownBlock=some k->w'.heap[k]?=w.heap[k]?):nT w' v l:=by
 rcases h with h|⟨g,cap,a,rfl,c,b⟩;.exact .inl h
 .exact .inr ⟨g,cap,a,rfl,c.of_heap (e g rfl),b⟩
def nT.alloc{w v l}(h:nT w v l)(o):nT (w.alloc o) v l:=h.of_heap (fun k a=>mJ w o k (h.lt k a))
def nT.nil(w):nT w nZ []:=.inl ⟨rfl,rfl⟩
theorem nW(h:nT w v l)(a m mc d)(B:d.length=m)(F:0<m)(i:∀j u,(cO d)[j]?=some u->w.cell? (a.add j)=some u)(H:l.length+m<=70368744177664):∃q r,(∀p,(fA #[60,60] p #[v,.slice (some a) m mc]).run prog w=.ok q r)/\nT r q (l++d)/\Gr w r v q:=by
 have x:=fC d;have grow:∀base n c (e:bM),n=l.length->e=cO l->c<n+m->(base=none/\e=[]\/∃b:XK,base=some b/\e.length=n*1/\∀j v,e[j]?=some v->w.cell? (b.add j)=some v)->∃q r,(∀p,(fA #[60,60] p #[.slice base n c,.slice (some a) m mc]).run prog w=.ok q r)/\nT r q (l++d)/\Gr w r (.slice base n c) q:=by
  intro base n c e E y A s;have o:=fun p=>jX (P:=prog) (w:=w) 60 60 p 5 _ 1 1 u29 u29 Ny (base:=base) (n:=n) (c:=c) (m:=m) (mc:=mc) (cs:=e) s a (vs:=cO d) aj i (jT d) A aj aj;have C:=grownCap_ge w (n+m) c 5;have f:=grownCap_le_maxLen w (n+m) c 5 (by unfold maxLen;omega);unfold maxLen at f;have D:e.length=n:=by rw[y,fC,E]
  refine⟨_,_,o,.inr ⟨w.heap.size,_,_,by grind,aS.new w 5 _,?_,by grind,f,?_,?_⟩,fJ (jS w _) (ze w.drew _ _),?_⟩;.grind [fB,xW]
  .grind [fB,kU,fE]
  .grind [jT,CF]
  .intro k z;simp[mE]at z;grind
 rcases h with⟨rfl,rfl⟩|⟨g,cap,e,rfl,hB,h2,h3,h4,h5,h6⟩;.exact grow none 0 0 [] rfl rfl aj (.inl ⟨rfl,rfl⟩)
 .by_cases A:l.length+m<=cap
  .have o:=fun p=>ig (P:=prog) (w:=w) 60 60 p 5 _ 1 1 u29 u29 Ny (n:=l.length) (c:=cap) (m:=m) (mc:=mc) hB a (vs:=cO d) aj i (jT d) A aj;have t:=jd e (cO d) (l.length*1) aj;refine⟨_,_,o,.inr ⟨g,cap,_,by grind,hB.put _,?_,by grind,h4,?_,dS h6 (jT d)⟩,eU w g _,fun k z=>.inl z⟩;.grind [cu]
   .rw[x,B,wL]at t;rw[lM,B,wL,t,kU,h5]
  .exact grow (some (aA g 0)) l.length cap (cO l) rfl rfl aj (.inr ⟨_,rfl,by grind,fun j u G=>by rw[gT,gG,hB.cell];grind⟩)
theorem CG(n c k)(h:n<2 ^ k):n|||(c*2 ^ k)=n+c*2 ^ k:=by grind [tu,Nat.two_pow_add_eq_or_of_lt,Bu]
theorem YO:∀(K N j m:Nat),K=j+m+1->(Num.be K N).take (j+1)=(Num.be K N).take j++[nV (N / 256 ^ m % 256)]
 |0,_,_,_,h=>aj
 |K+1,N,0,m,h=>by grind [Num.be]
 |K+1,N,j+1,m,h=>by have:=YO K N j m aj;simp[Num.be,this]
theorem xX{wr e K N j m}(s:K=j+m+1)(k:nT wr e (l++(Num.be K N).take j))(n:Gr w wr v e)(t:l.length<=35184372088832)(q:K<=8)(c)(o:c=((N / 256 ^ m % 256:Nat):Int)):∃b d,(∀p,(fA #[60,60] p #[e,dB wr.heap.size 1 1]).run prog (wr.alloc (.cells #[.int .u8 c] 5))=.ok b d)/\nT d b (l++(Num.be K N).take (j+1))/\Gr w d v b:=by
 have f:(l++(Num.be K N).take j).length<=l.length+8:=by grind
 obtain⟨b,d,g,r,h⟩:=nW (k.alloc (.cells #[.int .u8 c] 5)) (aA wr.heap.size 0) 1 1 [nV (N / 256 ^ m % 256)] rfl aj (fun i u a=>by
  match i,a with
  |0,a=>simp[cO]at a;rw[gT,gG,(aS.new wr 5 [.int .u8 c]).cell,<-a,o];simp
  |i+1,a=>simp[cO]at a) aj
 refine⟨b,d,g,?_,n.trans (h.alloc _)⟩;grind [YO,wm]
theorem fI(v l)(n:Nat)(hb:nT w v l)(hn:n<4611686018427387904)(U:l.length<=35184372088832):WA prog 211 #[v,uZ n] w fun e R=>∃P,e=.returned P/\nT R P (l++Num.aB n)/\Gr w R v P:=by
 have S:=Fg n w;have HC:=aG S;clear S;have q:Hid (Num.aB n=Num.be (2 ^ Num.code n) (n+Num.code n*2 ^ (8*2 ^ Num.code n-2))):=rfl;have h4:Num.code n=0/\n<64\/Num.code n=1/\n<16384\/Num.code n=2/\n<1073741824\/Num.code n=3:=by grind [Num.code]
 have T:=aG hb;clear hb;go_enter func211,ntmps211;go_wp2_with fail;refine bK HC.out ?_;rintro E h0;subst h0;rcases h4 with⟨y,z⟩|⟨y,z⟩|⟨y,z⟩|y
 .have A:bits .or .u64 (n:Int) 0=((n+0:Nat):Int):=by
   grind [u64_or_nat,CG]
  have c:Num.aB n=Num.be 1 (n+0):=by rw[q.out,y]
  rw[y];obtain⟨N,J⟩:=bU (n+0);rw[<-J]at A c;have r:=aG c;clear J q z y c;go_wp2_with fail;go_loopw [0,6] (fun L D wr=>∃j m t:Nat,1=j+m/\D=(iZ t)/\Hid (t=8*m)/\Hid (nT wr L (l++(Num.be 1 N).take j))/\Hid (Gr E wr v L)) (fun _ D _=>(eT D).toNat);case atStart=>exact⟨0,1,8,rfl,rfl,rfl,by rw[Dz,lG];exact T.out,Gr.refl E v⟩
  case round=>
   obtain⟨j,m,t,a,rfl,u,p,x⟩:=hrel;cases m with
   |zero=>
    have C:t=0:=u.out;subst C;have M:Hid (nT wr u0 (l++Num.aB n)):=by have:=p.out;rw[wI (by rw[Num.kR];omega),<-r.out]at this;exact this
    clear p a;go_wp2;go_ret;exact⟨_,rfl,M.out,x.out⟩
   |succ m=>
    have O:t=8*m+8:=fT u.out;obtain⟨b,d⟩:=bU (8*m);have V:(t:Int)-8=(b:Int):=aj;have Z:(0:Int)<(t:Int):=aj;have g2:(b:Int)<64:=aj;have g4:(t:Int)<=64:=aj;have W:min b 64=b:=aj;obtain⟨Q,K⟩:=bU (N / 256 ^ m);obtain⟨I,k⟩:=bU (Q % 256);have B:2 ^ b=256 ^ m:=by grind
    have X:(N:Int) / 2 ^ b=(Q:Int):=by grind
    have Y:(Q:Int) % 256=(I:Int):=aj;obtain⟨P,R,o,g,i⟩:=xX (w:=E) (v:=v) (l:=l) (N:=N) (m:=m) a p.out x.out U aj (I:Int) (by rw[k,K]);have G:=aG g;have H:=aG i;have f:=aG d;have s:=aG (show b<t by omega);have F:=aG a;clear a O d K k B g i p x u;go_wp2_with (at_builtin;refine ji _ rfl _ _ _ _ rfl _ _ rfl rfl _ _ (o _) ?_);go_roundw;case rel=>first|exact⟨j+1,m,b,fT F.out,rfl,f,G,H⟩|((repeat apply Cy);exact⟨⟨j+1,m,b,fT F.out,rfl,f,G,H⟩,rfl⟩)
    case measure=>simp[eT];exact s.out
 .have A:bits .or .u64 (n:Int) 16384=((n+16384:Nat):Int):=by
   have:=u64_or_nat n 16384 aj aj;rw[show(16384:Nat)=1*2 ^ 14 from rfl,CG n 1 14 z]at this;exact this
  have c:Num.aB n=Num.be 2 (n+16384):=by rw[q.out,y]
  rw[y];obtain⟨N,J⟩:=bU (n+16384);rw[<-J]at A c;have r:=aG c;clear J q z y c;go_wp2_with fail;go_loopw [0,6] (fun L D wr=>∃j m t:Nat,2=j+m/\D=(iZ t)/\Hid (t=8*m)/\Hid (nT wr L (l++(Num.be 2 N).take j))/\Hid (Gr E wr v L)) (fun _ D _=>(eT D).toNat);case atStart=>exact⟨0,2,16,rfl,rfl,rfl,by rw[Dz,lG];exact T.out,Gr.refl E v⟩
  case round=>
   obtain⟨j,m,t,a,rfl,u,p,x⟩:=hrel;cases m with
   |zero=>
    have C:t=0:=u.out;subst C;have M:Hid (nT wr u0 (l++Num.aB n)):=by have:=p.out;rw[wI (by rw[Num.kR];omega),<-r.out]at this;exact this
    clear p a;go_wp2;go_ret;exact⟨_,rfl,M.out,x.out⟩
   |succ m=>
    have O:t=8*m+8:=fT u.out;obtain⟨b,d⟩:=bU (8*m);have V:(t:Int)-8=(b:Int):=aj;have Z:(0:Int)<(t:Int):=aj;have g2:(b:Int)<64:=aj;have g4:(t:Int)<=64:=aj;have W:min b 64=b:=aj;obtain⟨Q,K⟩:=bU (N / 256 ^ m);obtain⟨I,k⟩:=bU (Q % 256);have B:2 ^ b=256 ^ m:=by rw[d,wz]
    have X:(N:Int) / 2 ^ b=(Q:Int):=by grind
    have Y:(Q:Int) % 256=(I:Int):=aj;obtain⟨P,R,o,g,i⟩:=xX (w:=E) (v:=v) (l:=l) (N:=N) (m:=m) a p.out x.out U aj (I:Int) (by rw[k,K]);have G:=aG g;have H:=aG i;have f:=aG d;have s:=aG (show b<t by omega);have F:=aG a;clear a O d K k B g i p x u;go_wp2_with (at_builtin;refine ji _ rfl _ _ _ _ rfl _ _ rfl rfl _ _ (o _) ?_);go_roundw;case rel=>first|exact⟨j+1,m,b,fT F.out,rfl,f,G,H⟩|((repeat apply Cy);exact⟨⟨j+1,m,b,fT F.out,rfl,f,G,H⟩,rfl⟩)
    case measure=>simp[eT];exact s.out
 .have A:bits .or .u64 (n:Int) 2147483648=((n+2147483648:Nat):Int):=by
   have:=u64_or_nat n 2147483648 aj aj;rw[show(2147483648:Nat)=2*2 ^ 30 from rfl,CG n 2 30 z]at this;exact this
  have c:Num.aB n=Num.be 4 (n+2147483648):=by rw[q.out,y]
  rw[y];obtain⟨N,J⟩:=bU (n+2147483648);rw[<-J]at A c;have r:=aG c;clear J q z y c;go_wp2_with fail;go_loopw [0,6] (fun L D wr=>∃j m t:Nat,4=j+m/\D=(iZ t)/\Hid (t=8*m)/\Hid (nT wr L (l++(Num.be 4 N).take j))/\Hid (Gr E wr v L)) (fun _ D _=>(eT D).toNat);case atStart=>exact⟨0,4,32,rfl,rfl,rfl,by rw[Dz,lG];exact T.out,Gr.refl E v⟩
  case round=>
   obtain⟨j,m,t,a,rfl,u,p,x⟩:=hrel;cases m with
   |zero=>
    have C:t=0:=u.out;subst C;have M:Hid (nT wr u0 (l++Num.aB n)):=by have:=p.out;rw[wI (by rw[Num.kR];omega),<-r.out]at this;exact this
    clear p a;go_wp2;go_ret;exact⟨_,rfl,M.out,x.out⟩
   |succ m=>
    have O:t=8*m+8:=fT u.out;obtain⟨b,d⟩:=bU (8*m);have V:(t:Int)-8=(b:Int):=aj;have Z:(0:Int)<(t:Int):=aj;have g2:(b:Int)<64:=aj;have g4:(t:Int)<=64:=aj;have W:min b 64=b:=aj;obtain⟨Q,K⟩:=bU (N / 256 ^ m);obtain⟨I,k⟩:=bU (Q % 256);have B:2 ^ b=256 ^ m:=by rw[d,wz]
    have X:(N:Int) / 2 ^ b=(Q:Int):=by grind
    have Y:(Q:Int) % 256=(I:Int):=aj;obtain⟨P,R,o,g,i⟩:=xX (w:=E) (v:=v) (l:=l) (N:=N) (m:=m) a p.out x.out U aj (I:Int) (by rw[k,K]);have G:=aG g;have H:=aG i;have f:=aG d;have s:=aG (show b<t by omega);have F:=aG a;clear a O d K k B g i p x u;go_wp2_with (at_builtin;refine ji _ rfl _ _ _ _ rfl _ _ rfl rfl _ _ (o _) ?_);go_roundw;case rel=>first|exact⟨j+1,m,b,fT F.out,rfl,f,G,H⟩|((repeat apply Cy);exact⟨⟨j+1,m,b,fT F.out,rfl,f,G,H⟩,rfl⟩)
    case measure=>simp[eT];exact s.out
 .have A:bits .or .u64 (n:Int) 13835058055282163712=((n+13835058055282163712:Nat):Int):=by
   have:=u64_or_nat n 13835058055282163712 aj aj;rw[show(13835058055282163712:Nat)=3*2 ^ 62 from rfl,CG n 3 62 hn]at this;exact this
  have c:Num.aB n=Num.be 8 (n+13835058055282163712):=by rw[q.out,y]
  rw[y];obtain⟨N,J⟩:=bU (n+13835058055282163712);rw[<-J]at A c;have r:=aG c;clear J q y c;go_wp2_with fail;go_loopw [0,6] (fun L D wr=>∃j m t:Nat,8=j+m/\D=(iZ t)/\Hid (t=8*m)/\Hid (nT wr L (l++(Num.be 8 N).take j))/\Hid (Gr E wr v L)) (fun _ D _=>(eT D).toNat);case atStart=>exact⟨0,8,64,rfl,rfl,rfl,by rw[Dz,lG];exact T.out,Gr.refl E v⟩
  case round=>
   obtain⟨j,m,t,a,rfl,u,p,x⟩:=hrel;cases m with
   |zero=>
    have C:t=0:=u.out;subst C;have M:Hid (nT wr u0 (l++Num.aB n)):=by have:=p.out;rw[wI (by rw[Num.kR];omega),<-r.out]at this;exact this
    clear p a;go_wp2;go_ret;exact⟨_,rfl,M.out,x.out⟩
   |succ m=>
    have O:t=8*m+8:=fT u.out;obtain⟨b,d⟩:=bU (8*m);have V:(t:Int)-8=(b:Int):=aj;have Z:(0:Int)<(t:Int):=aj;have g2:(b:Int)<64:=aj;have g4:(t:Int)<=64:=aj;have W:min b 64=b:=aj;obtain⟨Q,K⟩:=bU (N / 256 ^ m);obtain⟨I,k⟩:=bU (Q % 256);have B:2 ^ b=256 ^ m:=by rw[d,wz]
    have X:(N:Int) / 2 ^ b=(Q:Int):=by grind
    have Y:(Q:Int) % 256=(I:Int):=aj;obtain⟨P,R,o,g,i⟩:=xX (w:=E) (v:=v) (l:=l) (N:=N) (m:=m) a p.out x.out U aj (I:Int) (by rw[k,K]);have G:=aG g;have H:=aG i;have f:=aG d;have s:=aG (show b<t by omega);have F:=aG a;clear a O d K k B g i p x u;go_wp2_with (at_builtin;refine ji _ rfl _ _ _ _ rfl _ _ rfl rfl _ _ (o _) ?_);go_roundw;case rel=>first|exact⟨j+1,m,b,fT F.out,rfl,f,G,H⟩|((repeat apply Cy);exact⟨⟨j+1,m,b,fT F.out,rfl,f,G,H⟩,rfl⟩)
    case measure=>simp[eT];exact s.out
theorem nT.aB(h:nT w v l):∃a c,v=.slice a l.length c/\dX w a l:=by
 rcases h with⟨rfl,rfl⟩|⟨g,cap,cs,rfl,hB,h2,h3,h4,h5,h6⟩;.exact⟨none,0,rfl,fun j b=>by simp at b⟩
 .refine⟨_,cap,rfl,fun j b=>⟨g,0,rfl,?_⟩⟩;rw[hB.cell,gG];have:(cs.take l.length)[j]?=(cO l)[j]?:=by rw[h5]
  rw[pG,dN b]at this;grind [cO]
def jO(l:List UInt8):List UInt8:=Num.be 4 (Crc.sum l)
def FD(l a b c d)(e:a=Crc.sum l / 16777216 % 256)(f:b=Crc.sum l / 65536 % 256)(g:c=Crc.sum l / 256 % 256)(h:d=Crc.sum l % 256):cO (jO l)=[.int .u8 a,.int .u8 b,.int .u8 c,.int .u8 d]:=by subst e;subst f;subst g;subst h;simp[jO,Num.be,cO]
def I9(y:nT w v l)(C:mM w)(I:l.length<=1000000000):WA prog 220 #[v] w fun e B=>∃k,e=.returned k/\nT B k (l++jO l)/\Gr w B v k:=by obtain⟨a,c,E,f⟩:=y.aB;have m:=Ud a c w I f C;rw[<-E]at m;have z:=Crc.sum_lt l;obtain⟨n,r⟩:=bU (Crc.sum l / 16777216 % 256);obtain⟨o,s⟩:=bU (Crc.sum l / 65536 % 256);obtain⟨p,t⟩:=bU (Crc.sum l / 256 % 256);obtain⟨q,x⟩:=bU (Crc.sum l % 256);have j:=FD l n o p q r s t x;obtain⟨k,B,g,b,d⟩:=nW (y.alloc (.cells #[.int .u8 n,.int .u8 o,.int .u8 p,.int .u8 q] 5)) (aA w.heap.size 0) 4 4 (jO l) (Num.kR 4 _) aj (fun i u D=>by rw[j]at D;rw[gT,gG,(aS.new w 5 [.int .u8 n,.int .u8 o,.int .u8 p,.int .u8 q]).cell];exact D) aj;generalize Crc.sum l=S at m z r s t x;have J:(S:Int) / 16777216=(n:Int):=aj;have K:(S:Int) / 65536 % 256=(o:Int):=aj;have L:(S:Int) / 256 % 256=(p:Int):=aj;have M:(S:Int) % 256=(q:Int):=aj;have F:=aG m;have G:=aG b;have H:=aG (d.alloc _);clear r s t x m j b d y C f E;go_enter func220,ntmps220;go_wp2_with fail;refine bK F.out ?_;rintro N A;subst A;go_wp2_with (at_builtin;refine ji _ rfl _ _ _ _ rfl _ _ rfl rfl _ _ (g _) ?_);go_ret;exact⟨k,rfl,G.out,H.out⟩
theorem dX.cut(h:dX w a l)(n):dX w a (l.take n):=fun j f=>by obtain⟨b,c,d,e⟩:=h j (by grind);grind
def qke{x a b}(h:a=b):tL (.tuple #[x,.bool a])=.returned (.tuple #[x,.bool b]):=by rw[h]
theorem NT(a l x):Num.val a (l++[x])=Num.val a l*256+x.toNat:=by grind [Num.val]
theorem FH:∀(l) (a k),a<256 ^ k->Num.val a l<256 ^ (k+l.length)
 |[],a,k,h=>by simpa[Num.val]using h
 |x::t,a,k,h=>by have b:=Crc.qX x;have:=FH t (a*256+x.toNat) (k+1) (by grind);rw[pI,show k+(t.length+1)=k+1+t.length by omega];exact this
theorem qkf(T X:Nat)(b:T<16777216)(a:X<256):bits .or .u32 ((T:Int)*256) (X:Int)=((T*256+X:Nat):Int):=by have h:=u32_or_nat (T*256) X aj aj;rw[Nat.or_comm,CG X T 8 a,Bu]at h;grind
theorem Ra(b d body a c)(L:body.length<=1000000000)(y:a.length=4)(R:body.length+4<=c)(u:dX w (some (aA b d)) (body++a))(D:mM w):bN 115 #[.slice (some (aA b d)) (body.length+4) c] w (.tuple #[.slice (some (aA b d)) body.length c,.bool (decide (Num.val 0 a=Crc.sum body))]) fun N=>∃q,N=w.drewN q:=by
 have g:dX w (some (aA b d)) body:=by have:=u.cut body.length;grind
 have C:=fun q=>Ud (some (aA b d)) c (w.drewN q) L g D;have o:∀k,k<4->w.cell? (aA b (d+body.length+k))=some (.int .u8 (((a.getD k 0).toNat:Nat):Int)):=fun k A=>by obtain⟨P,E,Q,K⟩:=u (body.length+k) dZ;grind
 have m:∀k,k<4->Num.val 0 (a.take (k+1))=Num.val 0 (a.take k)*256+(a.getD k 0).toNat/\Num.val 0 (a.take k)<16777216:=fun k A=>by
  refine⟨?_,?_⟩;.grind [mI,NT]
  .have:=FH (a.take k) 0 0 kX;have x:(a.take k).length=k:=dZ;rw[x,gG]at this;exact gK this (by have:(256:Nat) ^ k<=256 ^ 3:=Yz kX aj;omega)
 have r:=aG m;have s:Hid (Num.val 0 (a.take 4)=Num.val 0 a):=by rw[wI aj];rfl
 clear m;have H:=aG C;have I:=aG o;have G:=aG y;have S:(0:Int)<=(body.length:Int):=aj;generalize body.length=n at *
 have U:(n:Int)<=(n:Int)+4:=aj;have V:¬(c=n):=aj;clear C o u g D y G;go_enter func115,ntmps115;go_wp2_with fail;go_loop [5,17] (fun M t=>∃k:Nat,k<=4/\t=(iZ k)/\M=.int .u32 (Num.val 0 (a.take k):Nat)) (fun _ t=>4-(eT t).toNat)
 case atStart=>exact⟨0,eG _,rfl,rfl⟩
 case round=>
  obtain⟨k,A,rfl,rfl⟩:=hrel;by_cases j:k<4
  .have B:(k:Int)<4:=aj;have v:=I.out k j;obtain⟨e,l⟩:=r.out k j;have z:=Crc.qX (a.getD k 0);generalize (a.getD k 0).toNat=X at v e z;generalize Num.val 0 (a.take k)=T at e l;have J:=qkf T X l z;obtain⟨O,f⟩:=bU (T*256+X);rw[<-f]at J e;have F:=aG e;clear e f;go_wp2;go_round
   case rel=>exact⟨k+1,aj,by go_num,by rw[F.out]⟩
   case measure=>simp[eT];omega
  .obtain rfl:k=4:=aj;rw[s.out];have i:(((Num.val 0 a:Nat):Int)==((Crc.sum body:Nat):Int))=decide (Num.val 0 a=Crc.sum body):=by grind
   have p:=aG i;clear i;have W:(n:Int)<=(c:Int):=aj;go_wp2_with fail;go_quiet ((go_at_call 159;exact nC (H.out _)));go_wp2;go_ret2;exact⟨qke p.out,nq,rfl⟩
def dH:Nat:=4611686018427387903
def vP(rs:bY)(i:Nat):Bool:=
 decide ((rs.getD i (0,0)).1<=(rs.getD i (0,0)).2)&&decide ((rs.getD i (0,0)).2<=dH)&&(decide (i=0)||decide ((rs.getD i (0,0)).2+1<(rs.getD (i-1) (0,0)).1))
def tN(rs:bY):Bool:=(tY rs.length).all (vP rs)&&decide (0<rs.length)
def j_(w:Wq)(a:Option XK)(rs:bY):Prop:=
 ∀j,j<rs.length->∃b c,a=some (aA b c)/\w.cell? (aA b (c+j*2))=some (uZ ((rs.getD j (0,0)).1:Int))/\w.cell? (aA b (c+j*2+1))=some (uZ ((rs.getD j (0,0)).2:Int))/\(rs.getD j (0,0)).1<18446744073709551616/\(rs.getD j (0,0)).2<18446744073709551616
def j_.below{w' rs}(h:j_ w a rs)(f:bJ w w'):j_ w' a rs:=fun j k=>by obtain⟨b,c,i,d,e,g⟩:=h j k;exact⟨b,c,i,(f.cell (p:=(aA b (c+j*2))) (iq _ _ d)).trans d,(f.cell (p:=(aA b (c+j*2+1))) (iq _ _ e)).trans e,g⟩
theorem Fh(k w):bN 216 #[iZ k] w (.bool (decide (1<=k/\k<=8))) fun a=>a=w:=by
 by_cases h:1<=k;.go_enter func216,ntmps216;go_wp2;go_ret;exact⟨dQ (by grind),rfl⟩
 .have b:decide (1<=k)=false:=dZ;go_enter func216,ntmps216;go_wp2;go_ret;exact⟨dQ (by grind),rfl⟩
theorem Lc(k w):bN 287 #[iZ k] w (.bool (decide (0<=k/\k<8))) fun a=>a=w:=by
 by_cases h:0<=k;.go_enter func287,ntmps287;go_wp2;go_ret;exact⟨dQ (by grind),rfl⟩
 .have b:decide (0<=k)=false:=dZ;go_enter func287,ntmps287;go_wp2;go_ret;exact⟨dQ (by grind),rfl⟩
theorem Ej(a rs c w)(hl:rs.length<=1000000000)(N:j_ w a rs):bN 335 #[.slice a rs.length c] w (.bool (tN rs)) fun w'=>bJ w w':=by
 have E:=aG N;clear N;have v:Hid (tN rs=((tY rs.length).all (vP rs)&&decide (0<rs.length))):=rfl;go_enter func335,ntmps335;go_wp2_with fail;go_loopw [7] (fun L wr=>∃k:Nat,k<=rs.length/\L=(iZ k)/\Hid (∀i,i<k->vP rs i=true)/\Hid (bJ w wr)) (fun L _=>rs.length-(eT L).toNat);case atStart=>exact⟨0,eG _,rfl,fun i I=>absurd I (jZ _),bP _ _⟩
 case round=>
  obtain⟨k,hk,rfl,u,t⟩:=hrel;by_cases J:k<rs.length
  .have M:(k:Int)<(rs.length:Int):=aj;obtain⟨b,A,W,Z,k2,G,H⟩:=E.out.below t.out k J;subst W;have B:0<k->wr.cell? (aA b (A+(k-1)*2))=some (uZ ((rs.getD (k-1) (0,0)).1:Int)):=fun h0=>by
    obtain⟨b',P,X,h5,_⟩:=E.out.below t.out (k-1) aj;grind
   have f:Hid (vP rs k=(decide ((rs.getD k (0,0)).1<=(rs.getD k (0,0)).2)&&decide ((rs.getD k (0,0)).2<=dH)&&(decide (k=0)||decide ((rs.getD k (0,0)).2+1<(rs.getD (k-1) (0,0)).1)))):=rfl;have q:vP rs k=false->Hid (tN rs=false):=fun h=>by
    have:(tY rs.length).all (vP rs)=false:=by grind
    rw[v.out,this];rfl
   have n:vP rs k=true->Hid (∀i,i<k+1->vP rs i=true):=fun h i I=>by
    by_cases e:i=k;.grind
    .exact u.out i aj
   generalize (rs.getD k (0,0)).1=x at Z G f;generalize (rs.getD k (0,0)).2=y at k2 H f;generalize (rs.getD (k-1) (0,0)).1=z at B f;generalize vP rs k=r at f q n;have p:=aG (t.out.size);have j:=aG q;have m:=aG n;clear q n E u;by_cases U:x<=y
   .have Q:¬((y:Int)<(x:Int)):=aj;by_cases F:y<=dH
    .have R:¬((4611686018427387903:Int)<(y:Int)):=by unfold dH at F;omega
     by_cases V:0<k
     .have S:(0:Int)<(k:Int):=aj;have K:=B V;have D:b<wr.heap.size:=iq _ _ K;have e5:((k:Int)-1).toNat=k-1:=aj;have e6:IntKind.i64.wrap ((k:Int)-1)=(k:Int)-1:=by rw[qB];omega
      have e7:(k:Int)-1<(rs.length:Int):=aj;have e8:0<=(k:Int)-1:=aj;have e9:IntKind.u64.wrap ((y:Int)+1)=(y:Int)+1:=by grind [IntKind.wrap_u64,dH]
      clear B;by_cases h4:y+1<z
      .have d:r=true:=by rw[f.out];grind
       have g:=m.out d;have T:¬((z:Int)<=(y:Int)+1):=aj;clear f j m d;go_wp2_with fail;generalize o:wr.alloc (.cells #[uZ x,uZ y] 170)=s;have l:Hid (bJ w s):=by rw[<-o];exact t.out.alloc p.out _
       have O:s.cell? (aA wr.heap.size 1)=some (uZ y):=by rw[<-o];exact(aS.new wr 170 [uZ x,uZ y]).cell 1
       have Y:s.cell? (aA b (A+(k-1)*2))=some (uZ z):=by rw[<-o,World.cell?_alloc_past _ b _ D];exact K
       clear o;go_quiet (fail);go_wp2;go_roundw;case rel=>exact⟨k+1,aj,by go_num,g,l.out.os,l.out.tape,l.out.output,l.out.size,l.out.block⟩
       case measure=>simp[eT];omega
      .have d:r=false:=by rw[f.out];grind
       have g:=j.out d;have T:(z:Int)<=(y:Int)+1:=aj;clear f j m d;go_wp2_with fail;generalize o:wr.alloc (.cells #[uZ x,uZ y] 170)=s;have l:Hid (bJ w s):=by rw[<-o];exact t.out.alloc p.out _
       have O:s.cell? (aA wr.heap.size 1)=some (uZ y):=by rw[<-o];exact(aS.new wr 170 [uZ x,uZ y]).cell 1
       have Y:s.cell? (aA b (A+(k-1)*2))=some (uZ z):=by rw[<-o,World.cell?_alloc_past _ b _ D];exact K
       clear o;go_quiet (fail);go_wp2;go_ret;exact⟨dQ g.out.symm,l.out.os,l.out.tape,l.out.output,l.out.size,l.out.block⟩
     .have S:decide ((0:Int)<(k:Int))=false:=dZ;have d:r=true:=by rw[f.out];grind
      have g:=m.out d;clear f j m d B;go_wp2_with fail;generalize o:wr.alloc (.cells #[uZ x,uZ y] 170)=s;have l:Hid (bJ w s):=by rw[<-o];exact t.out.alloc p.out _
      have O:s.cell? (aA wr.heap.size 1)=some (uZ y):=by rw[<-o];exact(aS.new wr 170 [uZ x,uZ y]).cell 1
      clear o;go_quiet (fail);go_wp2;go_roundw;case rel=>exact⟨k+1,aj,by go_num,g,l.out.os,l.out.tape,l.out.output,l.out.size,l.out.block⟩
      case measure=>simp[eT];omega
    .have R:(4611686018427387903:Int)<(y:Int):=by unfold dH at F;omega
     have d:r=false:=by rw[f.out];simp[F]
     have g:=j.out d;clear f j m d B;go_wp2;go_ret;exact⟨dQ g.out.symm,t.out.alloc p.out _⟩
   .have Q:(y:Int)<(x:Int):=aj;have d:r=false:=by rw[f.out];simp[U]
    have g:=j.out d;clear f j m d B;go_wp2;go_ret;exact⟨dQ g.out.symm,t.out.alloc p.out _⟩
  .obtain rfl:k=rs.length:=aj;have C:Hid (tN rs=decide (0<rs.length)):=by
    have:(tY rs.length).all (vP rs)=true:=by rw[wM];intro i I;exact u.out i (by grind)
    rw[v.out,this];rfl
   clear v u;go_wp2;go_ret;exact⟨dQ (by rw[C.out,decide_eq_decide]),t.out⟩
structure Fr where
 aD:Int
 aF:Int
 aC:Nat
 aO:Nat
 aN:Nat
 bL:Bool
 id:Nat
 aJ:Nat
 data:ByteArray
 ranges:bY
structure rX (w:Wq) (b off:Nat) (f:Fr) (ra:Option XK) (rc:Nat):Prop where
 c0:w.cell? (aA b off)=some (iZ f.aD)
 c1:w.cell? (aA b (off+1))=some (iZ f.aF)
 c2:w.cell? (aA b (off+2))=some (uZ f.aC)
 c3:w.cell? (aA b (off+3))=some (uZ f.aO)
 c4:w.cell? (aA b (off+4))=some (uZ f.aN)
 c5:w.cell? (aA b (off+5))=some (.bool f.bL)
 c6:w.cell? (aA b (off+6))=some (uZ f.id)
 c7:w.cell? (aA b (off+7))=some (uZ f.aJ)
 c8:w.cell? (aA b (off+8))=some (.string f.data)
 c9:w.cell? (aA b (off+9))=some (.slice ra f.ranges.length rc)
 vF:j_ w ra f.ranges
 Fj:f.ranges.length<=1000000000
 Fp:f.data.size<=1000000000
 k0: -9223372036854775808<=f.aD/\f.aD<=9223372036854775807
 s0: -9223372036854775808<=f.aF/\f.aF<=9223372036854775807
 u0:f.aC<18446744073709551616/\f.aO<18446744073709551616/\f.aN<18446744073709551616/\f.id<18446744073709551616/\f.aJ<18446744073709551616
def rX.below{w w' b a f d g}(h:rX w b a f d g)(c:bJ w w'):rX w' b a f d g:=by have i:=iq _ _ h.c0;have e:=fun o=>c.cell (p:=(aA b o)) i;exact⟨by rw[e,h.c0],by rw[e,h.c1],by rw[e,h.c2],by rw[e,h.c3],by rw[e,h.c4],by rw[e,h.c5],by rw[e,h.c6],by rw[e,h.c7],by rw[e,h.c8],by rw[e,h.c9],h.vF.below c,h.Fj,h.Fp,h.k0,h.s0,h.u0⟩
def rX.drewN{w b a f c d}(h:rX w b a f c d)(q):rX (w.drewN q) b a f c d:=h.below ⟨rfl,rfl,rfl,aI _,fun _ _=>rfl⟩
def rY(f:Fr):Bool:=decide (f.aC<=dH)&&decide (f.aO<=dH)&&decide (f.aN<=dH)&&decide (f.id<=dH)&&decide (f.aJ<=dH)
def oI(f:Fr):Bool:=
 if f.aD=2 then tN f.ranges else if f.aD=3 then decide (f.aO<=f.aC)else if f.aD=4 then decide (f.data.size+f.aC<=dH)else true
def snd(f:Fr):Bool:=decide (1<=f.aD/\f.aD<=8)&&rY f&&decide (0<=f.aF/\f.aF<8)&&oI f
theorem qpe(a b c d e:Nat):∃f:Nat,(∀g t w,(Bg g t #[uZ a,uZ b,uZ c,uZ d,uZ e]).run prog w=.ok (uZ f) w)/\∀B,f<=B↔a<=B/\b<=B/\c<=B/\d<=B/\e<=B:=by refine⟨max (max (max (max a b) c) d) e,fun g t w=>?_,fun B=>by grind⟩;simp only[Bg,Cu,Cv,Builtin.max2];simp only[DC,YH,qk0];grind
theorem CK{c f p r}(h:rX w b c f p r):bN 286 #[aK b c] w (.bool (rY f)) fun s=>∃q,s=w.drewN q:=by
 have l:Hid (rY f=(decide (f.aC<=dH)&&decide (f.aO<=dH)&&decide (f.aN<=dH)&&decide (f.id<=dH)&&decide (f.aJ<=dH))):=rfl;have u:=h.c2;have v:=h.c3;have x:=h.c4;have y:=h.c6;have z:=h.c7;obtain⟨u1,u2,u3,u4,u5⟩:=h.u0;obtain⟨o,n,d⟩:=qpe f.aC f.aO f.aN f.id f.aJ;have m:Hid (rY f=decide ((o:Int)<=4611686018427387903)):=by
  rw[l.out,YA];have:=d 4611686018427387903;simp only[iY];constructor;.rintro⟨⟨⟨⟨e,g⟩,i⟩,j⟩,k⟩;have:=this.2 ⟨of_decide_eq_true e,of_decide_eq_true g,of_decide_eq_true i,of_decide_eq_true j,of_decide_eq_true k⟩;grind
  .intro a;have t:=of_decide_eq_true a;obtain⟨e,g,i,j,k⟩:=this.1 aj;exact⟨⟨⟨⟨decide_eq_true e,decide_eq_true g⟩,decide_eq_true i⟩,decide_eq_true j⟩,decide_eq_true k⟩
 clear h l d;go_enter func286,ntmps286;go_wp2_with fail;go_quiet (fail);go_wp2;go_ret;exact⟨dQ m.out.symm,nq,rfl⟩
theorem AP{i f n o}(w)(h:rX w b i f n o)(k:f.aC<=dH):bN 288 #[aK b i] w (.bool (oI f)) fun p=>bJ w p:=by
 have c:Hid (oI f=if f.aD=2 then tN f.ranges else if f.aD=3 then decide (f.aO<=f.aC)else if f.aD=4 then decide (f.data.size+f.aC<=dH)else true):=rfl;have l:=Ej n f.ranges o w h.Fj h.vF;have j:=aG l;clear l;have v:=h.c0;have x:=h.c2;have y:=h.c3;have z:=h.c8;have A:=h.c9;have D:=h.Fp;obtain⟨u1,u2,u3,u4,u5⟩:=h.u0;clear h;by_cases a:f.aD=2
 .have e:Hid (oI f=tN f.ranges):=by rw[c.out,dN a];rfl
  have r:(f.aD==2)=true:=by simp[a]
  clear c a;go_enter func288,ntmps288;go_wp2_with fail;refine bK j.out ?_;rintro p m;have q:=aG m;clear m;go_wp2;go_ret;exact⟨dQ e.out.symm,q.out⟩
 .have r:(f.aD==2)=false:=by simp[a]
  by_cases d:f.aD=3
  .have e:Hid (oI f=decide (f.aO<=f.aC)):=by rw[c.out,b_ a,dN d];rfl
   have s:(f.aD==3)=true:=by simp[d]
   clear c a d j;go_enter func288,ntmps288;go_wp2_with fail;go_quiet (fail);go_wp2;go_ret;exact⟨dQ (by rw[e.out,decide_eq_decide]),rfl,rfl,rfl,aI _,fun _ _=>rfl⟩
  .have s:(f.aD==3)=false:=by simp[d]
   by_cases g:f.aD=4
   .have e:Hid (oI f=decide (f.data.size+f.aC<=dH)):=by rw[c.out,b_ a,b_ d,dN g];rfl
    have t:(f.aD==4)=true:=by simp[g]
    have B:IntKind.u64.wrap (4611686018427387903-(f.aC:Int))=4611686018427387903-(f.aC:Int):=by grind [IntKind.wrap_u64,dH]
    have C:IntKind.u64.wrap ((f.data.size:Nat):Int)=((f.data.size:Nat):Int):=by rw[vC];omega
    have u:=aG k;clear c a d g j k;go_enter func288,ntmps288;go_wp2_with fail;go_quiet (fail);go_wp2;go_ret;exact⟨dQ (by rw[e.out,decide_eq_decide];grind [dH]),rfl,rfl,rfl,aI _,fun _ _=>rfl⟩
   .have e:Hid (oI f=true):=by rw[c.out,b_ a,b_ d,b_ g];rfl
    have t:(f.aD==4)=false:=by simp[g]
    clear c a d g j;go_enter func288,ntmps288;go_wp2;go_ret;exact⟨dQ e.out.symm,bP _ _⟩
theorem wX(l f C D)(h:rX w b l f C D):bN 218 #[aK b l] w (.bool (snd f)) fun E=>bJ w E:=by
 have c:Hid (snd f=(decide (1<=f.aD/\f.aD<=8)&&rY f&&decide (0<=f.aF/\f.aF<8)&&oI f)):=rfl;have G:=h.c0;have H:=h.c1;have m:=aG (fun r=>Fh f.aD r);have s:=aG (fun r=>Lc f.aF r);have g:=aG (CK h);have t:=aG (fun q n=>AP (w.drewN q) (h.drewN q) n);have k:rY f=true->f.aC<=dH:=fun B=>by unfold rY at B;grind
 have j:=aG k;clear h k;generalize decide (1<=f.aD/\f.aD<=8)=x at *
 generalize rY f=y at *
 generalize decide (0<=f.aF/\f.aF<8)=z at *
 generalize oI f=A at *
 cases x
 .have d:Hid (snd f=false):=by rw[c.out];rfl
  clear c;go_enter func218,ntmps218;go_wp2_with fail;refine bK (m.out _) ?_;rintro p a;subst a;go_wp2;go_ret;exact⟨dQ d.out.symm,bP _ _⟩
 .cases y
  .have d:Hid (snd f=false):=by rw[c.out];rfl
   clear c;go_enter func218,ntmps218;go_wp2_with fail;refine bK (m.out _) ?_;rintro p a;subst a;go_wp2_with fail;refine bK g.out ?_;rintro v ⟨q,rfl⟩;go_wp2;go_ret;exact⟨dQ d.out.symm,rfl,rfl,rfl,aI _,fun _ _=>rfl⟩
  .cases z
   .have d:Hid (snd f=false):=by rw[c.out];rfl
    clear c;go_enter func218,ntmps218;go_wp2_with fail;refine bK (m.out _) ?_;rintro p a;subst a;go_wp2_with fail;refine bK g.out ?_;rintro v ⟨q,rfl⟩;go_wp2_with fail;refine bK (s.out _) ?_;rintro F e;subst e;go_wp2;go_ret;exact⟨dQ d.out.symm,rfl,rfl,rfl,aI _,fun _ _=>rfl⟩
   .have d:Hid (snd f=A):=by rw[c.out];rfl
    have n:=j.out rfl;have o:=aG (fun q=>t.out q n);clear c j t n;go_enter func218,ntmps218;go_wp2_with fail;refine bK (m.out _) ?_;rintro p a;subst a;go_wp2_with fail;refine bK g.out ?_;rintro v ⟨q,rfl⟩;go_wp2_with fail;refine bK (s.out _) ?_;rintro F e;subst e;go_wp2_with fail;refine bK (o.out q) ?_;rintro I u;have i:=aG u;clear u;go_wp2;go_ret;exact⟨dQ d.out.symm,i.out.os,i.out.tape,i.out.output,i.out.size,i.out.block⟩
end Go.Proofs.YtphbledmopchnaaGreatDoor
namespace Go.Proofs.YtphbledmopchnaaGreatDoor
open Go.RowKit Go.Lib Go.Shelf Mm Tryz
variable {B0 aB k n o xb:Nat}{e t:WK}{l:List UInt8}{rs:bY}{s w w' y:Wq}{v z:Wx}
def I7(B0 a:Nat)(b w:Wq):Prop:=a<=w.heap.size/\∀k,B0<=k->k<a->w.heap[k]?=b.heap[k]?
structure I8 (B0 B1:Nat) (w1 w:Wq) (v:Wx) (l:List UInt8) (b off:Nat) (f:Fr) (ra:Option XK) (rc:Nat):Prop where
 fU:I7 B0 B1 w1 w
 buf:nT w v l
 out:∀k,v.ownBlock=some k->k<B0\/B1<=k
 wY:rX w b off f ra rc
 nb:v.ownBlock≠some b
 nr:∀x,ra=some x->v.ownBlock≠some x.block
 rl:∀x,ra=some x->x.block<w.heap.size
theorem cell_of{a}(h:w.cell? a=some v)(e:w'.heap[a.block]?=w.heap[a.block]?):w'.cell? a=some v:=by grind [World.cell?_of_block]
theorem j_.of{a}(h:j_ w a rs)(e:∀x,a=some x->x.block<w.heap.size->w'.heap[x.block]?=w.heap[x.block]?):j_ w' a rs:=fun j d=>by obtain⟨b,f,k,c,g,i⟩:=h j d;have l:=iq _ _ c;grind [cell_of]
def rX.of{w w' b a f c d}(h:rX w b a f c d)(e:w'.heap[b]?=w.heap[b]?)(g:∀x,c=some x->x.block<w.heap.size->w'.heap[x.block]?=w.heap[x.block]?):rX w' b a f c d:=
 ⟨cell_of h.c0 e,cell_of h.c1 e,cell_of h.c2 e,cell_of h.c3 e,cell_of h.c4 e,cell_of h.c5 e,cell_of h.c6 e,cell_of h.c7 e,cell_of h.c8 e,cell_of h.c9 e,h.vF.of g,h.Fj,h.Fp,h.k0,h.s0,h.u0⟩
theorem I8.next{j p v' l' b d f n}(h:I8 B0 j p w v l b d f n o)(s:nT w' v' l')(a:Gr w w' v v'):I8 B0 j p w' v' l' b d f n o:=by
 have g:=iq _ _ h.wY.c0;have u:=a.1.size;have t:=h.fU.1;refine⟨⟨dx t u,fun k q r=>(a.1.block k aj (fun e=>by rcases h.out k e.symm with e'|e'<;>omega)).trans (h.fU.2 k q r)⟩,s,?_,?_,?_,?_,fun x c=>fT (h.rl x c)⟩
 .intro k i;rcases a.2 k i with e|e;.exact h.out k e
  grind
 .exact h.wY.of (a.1.block b g (fun e=>h.nb e.symm)) (fun x c m=>a.1.block _ m (fun e=>h.nr x c e.symm))
 .intro e;rcases a.2 b e with e'|e';.exact h.nb e'
  grind
 .intro x c e;have m:=h.rl x c;rcases a.2 _ e with e'|e';.exact h.nr x c e'
  .omega
def I8.alloc{B0 d i w v l b a f e g}(h:I8 B0 d i w v l b a f e g)(o):I8 B0 d i (w.alloc o) v l b a f e g:=by have c:=iq _ _ h.wY.c0;have q:=h.fU.1;exact⟨⟨dZ,fun k j m=>(mJ w o k aj).trans (h.fU.2 k j m)⟩,h.buf.alloc o,h.out,h.wY.of (mJ w o b c) (fun x _ n=>mJ w o _ n),h.nb,h.nr,fun x p=>by have:=h.rl x p;simp;omega⟩
def Wr(B0 j:Nat)(o:Wq)(k:Wx)(h:List UInt8)(b a:Nat)(f:Fr)(m:Option XK)(n:Nat):Prop:=
 ∃g d,k=.func (.func g) #[] d/\(∀args w,(callFunc g args).run prog w=.ok (.enter g args) w)/\∀w v l,I8 B0 j o w v l b a f m n->l.length+h.length<=35184372088832->WA prog g (#[v,aK b a]++d) w fun e i=>∃c,e=.returned c/\nT i c (l++h)/\Gr w i v c
def I7.cell{B0 a b w}(h:I7 B0 a b w){k o v}(c:B0<=k)(d:k<a)(e:b.cell? (aA k o)=some v):w.cell? (aA k o)=some v:=cell_of e (h.2 k c d)
def wZ(h:nT w v l)(x c)(j:c=((x.toNat:Nat):Int))(m:l.length<=35184372088832):∃b d,(∀k,(fA #[60,60] k #[v,dB w.heap.size 1 1]).run prog (w.alloc (.cells #[.int .u8 c] 5))=.ok b d)/\nT d b (l++[x])/\Gr w d v b:=by
 obtain⟨b,d,e,f,g⟩:=nW (h.alloc (.cells #[.int .u8 c] 5)) (aA w.heap.size 0) 1 1 [x] rfl aj (fun i u a=>by
  match i,a with
  |0,a=>simp[cO]at a;rw[gT,gG,(aS.new w 5 [.int .u8 c]).cell,<-a,j];rfl
  |i+1,a=>simp[cO]at a) aj
 exact⟨b,d,e,f,g.alloc _⟩
theorem YP{e k}(xb x b d f s t)(o:B0<=xb)(p:xb<e)(j:k.cell? (aA xb 0)=some (.int .u8 ((x.toNat:Nat):Int))):Wr B0 e k (.func (.func 321) #[] #[aK xb 0]) [x] b d f s t:=by refine⟨321,_,rfl,enters_of func321 bZ rfl,fun w v l c r=>?_⟩;have q:=c.fU.cell o p j;obtain⟨u,y,a,g,i⟩:=wZ c.buf x ((x.toNat:Nat):Int) rfl (by grind);have m:=aG g;have n:=aG i;generalize ((x.toNat:Nat):Int)=X at q a;clear g i c r j;go_enter func321,ntmps321;go_wp2_with (at_builtin;refine ji _ rfl _ _ _ _ rfl _ _ rfl rfl _ _ (a _) ?_);go_ret;exact⟨u,rfl,m.out,n.out⟩
theorem Ld(b g)(f:Fr)(q r):Wr B0 o s (.func (.func 331) #[] #[]) [if f.bL then 9 else 8] b g f q r:=by
 refine⟨331,_,rfl,enters_of func331 bZ rfl,fun w v l e p=>?_⟩;have j:=e.wY.c5;obtain⟨n,t,a,k,m⟩:=wZ e.buf (if f.bL then 9 else 8) (if f.bL then 9 else 8) (by cases f.bL<;>rfl) (by grind);have c:=aG k;have i:=aG m;clear k m e p;cases d:f.bL;.rw[d]at j a;go_enter func331,ntmps331;go_wp2_with (at_builtin;refine ji _ rfl _ _ _ _ rfl _ _ rfl rfl _ _ (a _) ?_);go_ret;rw[d]at c;exact⟨n,rfl,c.out,i.out⟩
 .rw[d]at j a;go_enter func331,ntmps331;go_wp2_with (at_builtin;refine ji _ rfl _ _ _ _ rfl _ _ rfl rfl _ _ (a _) ?_);go_ret;rw[d]at c;exact⟨n,rfl,c.out,i.out⟩
def VI{A}(b j f x y)(a:0<=f.aF)(i:f.aF<8):Wr B0 n A (.func (.func 327) #[] #[]) (Num.aB f.aF.toNat) b j f x y:=by refine⟨327,_,rfl,enters_of func327 bZ rfl,fun w v l d t=>?_⟩;have r:=d.wY.c1;have c:=fI v l f.aF.toNat d.buf aj aj;obtain⟨s,g⟩:=Int.eq_ofNat_of_zero_le a;rw[g]at r;rw[g,Ct]at c ⊢;have u:(s:Int)<8:=aj;have o:=aG c;clear c d t g a i;go_enter func327,ntmps327;go_wp2_with fail;refine o.out.mono ?_;rintro e B ⟨z,rfl,k,m⟩;have p:=aG k;have q:=aG m;clear k m;go_wp2;go_ret;exact⟨z,rfl,p.out,q.out⟩
def tQ{m}(g j i n:Nat)(b a f t u)(D:B0<=g)(E:g<m)(s:y.cell? (aA g 0)=some (.func (.func j) #[] #[]))(J:∀args w,(callFunc j args).run prog w=.ok (.enter j args) w)(c:∀w,WA prog j #[aK b a] w fun e x=>e=.returned (aK b (a+i))/\x=w)(q:∀w,rX w b a f t u->w.cell? (aA b (a+i))=some (uZ n))(r:n<=dH):Wr B0 m y (.func (.func 329) #[] #[aK g 0]) (Num.aB n) b a f t u:=by refine⟨329,_,rfl,enters_of func329 bZ rfl,fun w v l d F=>?_⟩;have H:=d.fU.cell D E s;have I:=q w d.wY;have z:=aG (fI v l n d.buf (by unfold dH at r;omega) aj);have C:=aG (c w);clear c d F q r s;go_enter func329,ntmps329;go_wp2_with fail;refine bK C.out ?_;rintro x k;subst k;go_wp2_with fail;refine z.out.mono ?_;rintro e K ⟨G,rfl,o,p⟩;have A:=aG o;have B:=aG p;clear o p;go_wp2;go_ret;exact⟨G,rfl,A.out,B.out⟩
theorem Fq(h:nT w v l)(p:0<l.length)(s)(F:l.length+s.size<=70368744177664):∃q r,(∀f,(fA #[60,9] f #[v,.string s]).run prog w=.ok q r)/\nT r q (l++s.data.toList)/\Gr w r v q:=by
 obtain⟨i,x,E,d,B⟩:=info_parts Ny;have t:Src prog i.size 9 (.string s) s.size (byteCells s) w:=by rw[d];exact Src.ofString w u9 s
 have m:=byteCells_length s;have c:byteCells s=cO s.data.toList:=rfl;have n:s.data.toList.length=s.size:=by rw[Nu];rfl
 rcases h with⟨_,rfl⟩|⟨g,cap,cs,rfl,hB,h2,h3,h4,h5,h6⟩;.simp at p
 .by_cases D:l.length+s.size<=cap
  .have a:=fun f=>run_append_room_src (P:=prog) (w:=w) 60 9 f 5 i u29 x g 0 l.length cap _ s.size (byteCells s) t D (fun j C=>by rw[hB.cell,d];simp;omega) (fun j _=>hB.frozen _);have e:=jd cs (byteCells s) (0+l.length*i.size) (by grind);rw[AO hB _ (by grind) (by rw[c];exact jT _)]at a;refine⟨_,_,a,.inr ⟨g,cap,_,by grind,hB.put _,?_,by grind,h4,?_,dS h6 (by rw[c];exact jT _)⟩,eU w g _,fun k o=>.inl o⟩;.grind [cu]
   .rw[m,d,wL,gG]at e;rw[lM,n,d,wL,gG,e,kU,h5,c]
  .have A:(mK i.size l.length (dB g l.length cap)).run prog w.drew=.ok (cO l).toArray w.drew:=by
    rw[d];exact run_firstCells_some w.drew 1 l.length (aA g 0) l.length cap (cO l) (by grind) (fun j u C=>by rw[gT,gG];show w.cell? _=_;rw[hB.cell];grind)
   have a:=fun f=>run_append_grow_src (P:=prog) (w:=w) 60 9 f 5 i (.int .u8 0) u29 x E (some (aA g 0)) l.length cap (cO l) A _ s.size (byteCells s) t aj aj (by rw[B];exact growslice_fits aj aj);have z:=grownCap_ge w (l.length+s.size) cap 5;have b:=grownCap_le_maxLen w (l.length+s.size) cap 5 (by unfold maxLen;omega);unfold maxLen at b;have y:((cO l++byteCells s).toArray++eB (vU .u8 0).cells (grownCap w (l.length+s.size) cap 5-(l.length+s.size)))=(cO l++byteCells s++(eB (vU .u8 0).cells (grownCap w (l.length+s.size) cap 5-(l.length+s.size))).toList).toArray:=by grind
   rw[y]at a;refine⟨_,_,a,.inr ⟨w.heap.size,_,_,by grind,aS.new w 5 _,?_,by grind,b,?_,?_⟩,fJ (jS w _) (ze w.drew _ _),?_⟩;.grind [fB,xW,fC]
   .grind [fB,fC,fE,kU]
   .grind [jT,CF]
   .intro k o;simp[mE]at o;grind
theorem qew{y I}(b u f F G):Wr B0 y I (.func (.func 333) #[] #[]) (Num.aB f.data.size++f.data.data.toList) b u f F G:=by
 refine⟨333,_,rfl,enters_of func333 bZ rfl,fun w v l k E=>?_⟩;have J:=k.wY.c8;have K:=k.wY.Fp;have A:=aG (fI v l f.data.size k.buf aj aj);have t:=Num.jr f.data.size;have m:0<(Num.aB f.data.size).length:=by grind
 have r:(Num.aB f.data.size).length<=8:=by grind [Num.Uc,Num.code,nU]
 have s:f.data.data.toList.length=f.data.size:=by rw[Nu];rfl
 have j:=fun p d a g=>(k.next (w':=p) (v':=d) (l':=l++Num.aB f.data.size) a g).wY.c8;have z:=aG j;have o:=fun p d (a:nT p d (l++Num.aB f.data.size))=>Fq a (by grind) f.data (by grind);have q:=aG o;clear j o k E t m r s;go_enter func333,ntmps333;go_wp2_with fail;refine A.out.mono ?_;rintro e x ⟨d,rfl,a,g⟩;have D:=z.out x d a g;obtain⟨H,L,n,c,i⟩:=q.out x d a;rw[lC]at c;have B:=aG c;have C:=aG (g.trans i);clear a g c i;go_wp2_with (at_builtin;refine ji _ rfl _ _ _ _ rfl _ _ rfl rfl _ _ (n _) ?_);go_ret;exact⟨H,rfl,B.out,C.out⟩
def kg(rs:bY):Nat->List UInt8
 |0=>[]
 |k+1=>kg rs k++(Num.aB ((rs.getD k (0,0)).1-(rs.getD (k+1) (0,0)).2-2)++Num.aB ((rs.getD (k+1) (0,0)).2-(rs.getD (k+1) (0,0)).1))
def l6(rs:bY):List UInt8:=
 Num.aB (rs.getD 0 (0,0)).2++(Num.aB (rs.length-1)++Num.aB ((rs.getD 0 (0,0)).2-(rs.getD 0 (0,0)).1))
def iG(rs:bY):List UInt8:=l6 rs++kg rs (rs.length-1)
theorem kK(n):(Num.aB n).length<=8:=by grind [Num.jr,Num.code,nU,Num.Uc]
theorem NA(rs):∀k,(kg rs k).length<=16*k
 |0=>by simp[kg]
 |k+1=>by have h:=NA rs k;grind [kK,kg,fB]
def Gr.cell{w w' v v'}(h:Gr w w' v v'){k o x}(b:w.cell? (aA k o)=some x)(a:v.ownBlock≠some k):w'.cell? (aA k o)=some x:=
 cell_of b (h.1.block k (iq _ _ b) (fun e=>a e.symm))
theorem Ue(h:tN rs=true):0<rs.length/\∀k,k<rs.length->(rs.getD k (0,0)).1<=(rs.getD k (0,0)).2/\(rs.getD k (0,0)).2<=dH/\(0<k->(rs.getD k (0,0)).2+1<(rs.getD (k-1) (0,0)).1):=by unfold tN at h;rw[iY,wM]at h;refine⟨of_decide_eq_true h.2,fun k a=>?_⟩;have:=h.1 k (by grind);unfold vP at this;grind
theorem Fu(rs):∀(m k),k<=m->(kg rs k).length<=(kg rs m).length
 |0,k,h=>by grind
 |m+1,k,h=>by
  by_cases e:k=m+1;.grind
  .have:=Fu rs m k aj;grind [kg,fB]
def YQ(c:∀k,k<rs.length->(rs.getD k (0,0)).1<=(rs.getD k (0,0)).2/\(rs.getD k (0,0)).2<=dH/\(0<k->(rs.getD k (0,0)).2+1<(rs.getD (k-1) (0,0)).1))(k)(h:k+1<rs.length):∃a b,a=(rs.getD k (0,0)).1-(rs.getD (k+1) (0,0)).2-2/\b=(rs.getD (k+1) (0,0)).2-(rs.getD (k+1) (0,0)).1/\(((rs.getD k (0,0)).1:Nat):Int)-(((rs.getD (k+1) (0,0)).2:Nat):Int)=(((rs.getD k (0,0)).1-(rs.getD (k+1) (0,0)).2:Nat):Int)/\(((rs.getD k (0,0)).1-(rs.getD (k+1) (0,0)).2:Nat):Int)-2=(a:Int)/\(((rs.getD (k+1) (0,0)).2:Nat):Int)-(((rs.getD (k+1) (0,0)).1:Nat):Int)=(b:Int)/\a<4611686018427387904/\b<4611686018427387904/\IntKind.u64.wrap ((((rs.getD k (0,0)).1-(rs.getD (k+1) (0,0)).2:Nat)):Int)=((((rs.getD k (0,0)).1-(rs.getD (k+1) (0,0)).2:Nat)):Int)/\IntKind.u64.wrap (a:Int)=(a:Int)/\IntKind.u64.wrap (b:Int)=(b:Int):=by obtain⟨i,d,e⟩:=c (k+1) aj;have f:=e aj;rw[KO]at f;obtain⟨j,g,_⟩:=c k aj;unfold dH at d g;exact⟨_,_,rfl,rfl,aj,aj,aj,aj,aj,by rw[vC];omega,by rw[vC];omega,by rw[vC];omega⟩
theorem VJ{B1 w1}(b Z f ra rc)(hR:tN f.ranges=true)(xa:f.ranges.length<=rc):Wr B0 B1 w1 (.func (.func 325) #[] #[]) (iG f.ranges) b Z f ra rc:=by
 refine⟨325,_,rfl,enters_of func325 bZ rfl,fun w v l T hl=>?_⟩;obtain⟨L,Y⟩:=Ue hR;have xd:=T.wY.Fj;have I:=Fu f.ranges (f.ranges.length-1);have hj:l.length+((l6 f.ranges).length+(kg f.ranges (f.ranges.length-1)).length)<=35184372088832:=by grind [iG,fB]
 obtain⟨rb,ro,R,r1,r2,_,_⟩:=T.wY.vF 0 L;rw[KV,sN]at r1 r2;have xp:rb<w.heap.size:=iq _ _ r1;have hr:=T.nr _ R;have c9:=T.wY.c9;rw[R]at c9;obtain⟨q1,q2,_⟩:=Y 0 L;have hv:=T.buf.lt;have hu:=T.alloc (.cells #[(uZ ((f.ranges.getD 0 (0,0)).1:Int)),(uZ ((f.ranges.getD 0 (0,0)).2:Int))] 170);have hf:(w.alloc (.cells #[(uZ ((f.ranges.getD 0 (0,0)).1:Int)),(uZ ((f.ranges.getD 0 (0,0)).2:Int))] 170)).cell? (aA w.heap.size 0)=some (uZ ((f.ranges.getD 0 (0,0)).1:Int)):=(aS.new w 170 [(uZ ((f.ranges.getD 0 (0,0)).1:Int)),(uZ ((f.ranges.getD 0 (0,0)).2:Int))]).cell 0;have hg:(w.alloc (.cells #[(uZ ((f.ranges.getD 0 (0,0)).1:Int)),(uZ ((f.ranges.getD 0 (0,0)).2:Int))] 170)).cell? (aA w.heap.size 1)=some (uZ ((f.ranges.getD 0 (0,0)).2:Int)):=(aS.new w 170 [(uZ ((f.ranges.getD 0 (0,0)).1:Int)),(uZ ((f.ranges.getD 0 (0,0)).2:Int))]).cell 1;have G:Hid (l6 f.ranges=Num.aB (f.ranges.getD 0 (0,0)).2++(Num.aB (f.ranges.length-1)++Num.aB ((f.ranges.getD 0 (0,0)).2-(f.ranges.getD 0 (0,0)).1))):=rfl;have x8:l.length+24<=35184372088832+24:=aj;have Ap:=aG hu;have HK:=aG (dz hf hg);have h7:=aG hv;have x:=aG hj;have JB:=aG I;have h3:=aG Y;have h6:=aG R;have D:=G;have QW:Hid (iG f.ranges=l6 f.ranges++kg f.ranges (f.ranges.length-1)):=rfl;have x6:=aG hr;have HP:=aG T;generalize ho:(f.ranges.getD 0 (0,0)).1=B at *
 generalize x7:(f.ranges.getD 0 (0,0)).2=i at *
 have Ey:=aG ho;have g1:(1:Int)<=((f.ranges.length:Nat):Int):=aj;have g2:((f.ranges.length:Nat):Int)<=(rc:Int):=aj;clear T hu hf hg hv hj hl I Y G hR R hr ho x7 x8;have xm:b<w.heap.size:=iq _ _ c9;obtain⟨d0,ha⟩:=bU (i-B);have ed:(i:Int)-(B:Int)=(d0:Int):=aj;have xr:d0<=i:=aj;have h4:=aG ha;have r:=aG (fI v l i Ap.out.buf (by unfold dH at q2;omega) (fT x.out));have h8:∀(O:Wq) (N:Wx),nT O N (l++Num.aB i)->Gr (w.alloc (.cells #[uZ B,uZ i] 170)) O v N->I8 B0 B1 w1 O N (l++Num.aB i) b Z f ra rc/\O.cell? (aA w.heap.size 0)=some (uZ B)/\O.cell? (aA w.heap.size 1)=some (uZ i)/\N.ownBlock≠some w.heap.size:=fun O N hB hG=>by
  have z:v.ownBlock≠some w.heap.size:=fun e=>fT (h7.out _ e);refine⟨Ap.out.next hB hG,hG.cell HK.out.1 z,hG.cell HK.out.2 z,fun e=>?_⟩;rcases hG.2 _ e with e'|e';.exact z e'
  .simp at e';omega
 have AQ:=aG h8;clear h8 ha HK Ap h7 x6;by_cases h9:rc=1
 .have Q:f.ranges.length=1:=aj;subst h9;have h0:Hid (l6 f.ranges=Num.aB i++(Num.aB 0++Num.aB (i-B))):=by rw[D.out,Q];rfl
  have xe:Hid (iG f.ranges=l6 f.ranges):=by rw[QW.out,Q];exact lG _
  rw[Q]at c9;clear D QW g1 g2 xd L xa Q JB h3 h6;go_enter func325,ntmps325;go_wp2_with fail;refine r.out.mono ?_;rintro e O ⟨N,rfl,d,c⟩;obtain⟨q,X,a1,J⟩:=AQ.out O N d c;have o:=aG (fI N _ 0 d aj (by have:=x.out;rw[h0.out]at this;grind));have p:=aG c;have U:=aG q;have P:=aG J;clear d c q J r AQ;go_wp2_with fail;refine o.out.mono ?_;rintro e x2 ⟨v2,rfl,j,a⟩;have b0:=a.cell X P.out;have b1:=a.cell a1 P.out;have n:=U.out.next j a;have K:v2.ownBlock≠some w.heap.size:=fun e=>by
   rcases a.2 _ e with e'|e';.exact P.out e'
   .have:=iq _ _ X;grind
  have C:=aG (fI v2 _ d0 j (by unfold dH at q2;omega) (by have:=x.out;rw[h0.out]at this;grind));have s:=aG (p.out.trans a);have V:=aG n;have E:=aG K;clear j a n K o p U P X a1;go_wp2_with fail;refine C.out.mono ?_;rintro e x3 ⟨v3,rfl,F,m⟩;have d1:=m.cell b0 E.out;have t:=V.out.next F m;rw[lC,lC,h4.out,<-h0.out]at t;have W:=aG (s.out.trans m);have Nf:=aG t;clear F m t C s V E b0 b1;go_wp2_with fail;go_loopw [0,7,41] (fun s0 s7 M wr=>M=(iZ 0)/\s0=v3/\wr=x3) (fun _ _ _ _=>0);case atStart=>grind
  case round=>obtain⟨rfl,rfl,rfl⟩:=hrel;have g:=Nf.out.buf;rw[<-xe.out]at g;have HF:=aG g;clear g Nf;go_wp2;go_ret;exact⟨_,rfl,HF.out,W.out.alloc _⟩
 .have g3:=h9;go_enter func325,ntmps325;go_wp2_with fail;refine r.out.mono ?_;rintro e O ⟨N,rfl,d,c⟩;obtain⟨q,X,a1,J⟩:=AQ.out O N d c;have o:=aG (fI N _ (f.ranges.length-1) d aj (by have:=x.out;rw[D.out]at this;grind));have p:=aG c;have U:=aG q;have P:=aG J;clear d c q J r AQ;go_wp2_with fail;refine o.out.mono ?_;rintro e x2 ⟨v2,rfl,j,a⟩;have b0:=a.cell X P.out;have b1:=a.cell a1 P.out;have n:=U.out.next j a;have K:v2.ownBlock≠some w.heap.size:=fun e=>by
   rcases a.2 _ e with e'|e';.exact P.out e'
   .have:=iq _ _ X;grind
  have C:=aG (fI v2 _ d0 j (by unfold dH at q2;omega) (by have:=x.out;rw[D.out]at this;grind));have s:=aG (p.out.trans a);have V:=aG n;have E:=aG K;clear j a n K o p U P X a1;go_wp2_with fail;refine C.out.mono ?_;rintro e x3 ⟨v3,rfl,F,m⟩;have d1:=m.cell b0 E.out;have t:=V.out.next F m;rw[lC,lC,h4.out,<-D.out]at t;have W:=aG (s.out.trans m);have Nf:=aG t;clear F m t C s V E b0 b1;go_wp2_with fail;go_loopw [0,7,41] (fun s0 s7 M wr=>∃k:Nat,k<=f.ranges.length-1/\M=(iZ k)/\s7=(uZ ((f.ranges.getD k (0,0)).1:Nat))/\Hid (I8 B0 B1 w1 wr s0 ((l++l6 f.ranges)++kg f.ranges k) b Z f ra rc)/\Hid (Gr (w.alloc (.cells #[uZ B,uZ i] 170)) wr v s0)) (fun _ _ M _=>f.ranges.length-1-(eT M).toNat);case atStart=>exact⟨0,eG _,rfl,by rw[Ey.out],by rw[kg,lG];exact Nf.out,W.out⟩
  case round=>
   obtain⟨k,hk,rfl,rfl,Uf,h5⟩:=hrel;by_cases xn:k<f.ranges.length-1
   .obtain⟨xt,xv,h2,t1,t2,z1,z2⟩:=Uf.out.wY.vF (k+1) aj;rw[h6.out]at h2;simp at h2;obtain⟨rfl,rfl⟩:=h2;rw[show ro+(k+1)*2=ro+2+k*2 by omega]at t1 t2;obtain⟨ga,gb,hc,he,e1,e2,e3,hx,hy,e4,e5,e6⟩:=YQ h3.out k aj;have u:Hid (kg f.ranges (k+1)=kg f.ranges k++(Num.aB ((f.ranges.getD k (0,0)).1-(f.ranges.getD (k+1) (0,0)).2-2)++Num.aB ((f.ranges.getD (k+1) (0,0)).2-(f.ranges.getD (k+1) (0,0)).1))):=rfl;rw[<-hc,<-he]at u;have H:=JB.out (k+1) aj;rw[u.out]at H;simp only[lM]at H;have x9:=x.out;clear hc he;generalize (f.ranges.getD k (0,0)).1=xo at e1 e2 e4 ⊢;generalize (f.ranges.getD (k+1) (0,0)).2=y at t2 z2 e1 e2 e3 e4;generalize hZ:(f.ranges.getD (k+1) (0,0)).1=A at t1 z1 e3;clear z1 z2;have hw:=Uf.out.alloc (.cells #[uZ A,uZ y] 170);have n0:(wr.alloc (.cells #[uZ A,uZ y] 170)).cell? (aA wr.heap.size 0)=some (uZ A):=(aS.new wr 170 [uZ A,uZ y]).cell 0;have n1:(wr.alloc (.cells #[uZ A,uZ y] 170)).cell? (aA wr.heap.size 1)=some (uZ y):=(aS.new wr 170 [uZ A,uZ y]).cell 1;have z:u0.ownBlock≠some wr.heap.size:=fun e=>fT (Uf.out.buf.lt _ e);have r:=aG (fI u0 _ ga hw.buf hx (by grind));have hn:(((l++l6 f.ranges)++kg f.ranges k)++Num.aB ga).length<=35184372088832:=by grind
    have x5:=aG hn;have xf:=aG hy;have HW:=aG hw;have x0:=aG (dz n0 (dz n1 z));have HZ:=aG hZ;have xl:(k:Int)<((f.ranges.length-1:Nat):Int):=aj;have xj:rb<wr.heap.size:=iq _ _ t1;clear hZ hw n0 n1 z hn hy hx H x9;go_wp2_with fail;refine r.out.mono ?_;rintro e y1 ⟨s1,rfl,d,c⟩;obtain⟨m0,m1,S⟩:=x0.out;have p0:=c.cell m0 S;have p1:=c.cell m1 S;have q:=HW.out.next d c;have o:=aG (fI s1 _ gb d xf.out x5.out);have p:=aG (h5.out.trans (c.alloc _));have U:=aG q;have x4:s1.ownBlock≠some wr.heap.size:=fun e=>by
     rcases c.2 _ e with e'|e';.exact S e'
     .simp at e';omega
    have xi:=aG x4;clear m0 m1 S d c q r HW x0 x4;go_wp2_with fail;refine o.out.mono ?_;rintro e y2 ⟨s2,rfl,j,a⟩;have p2:=a.cell p0 xi.out;have n:=U.out.next j a;rw[lC,lC,<-u.out]at n;have s:=aG (p.out.trans a);have V:=aG n;clear j a n o p U p0 p1;go_wp2_with fail;go_roundw;case rel=>exact⟨k+1,aj,by go_num,by rw[HZ.out],V,s⟩
    case measure=>simp[eT];omega
   .obtain rfl:k=f.ranges.length-1:=aj;have g:=Uf.out.buf;rw[lC,<-QW.out]at g;have HF:=aG g;clear g Uf;go_wp2;go_ret;exact⟨_,rfl,HF.out,h5.out.alloc _⟩
def fK(a:List (List UInt8)):Nat->List UInt8
 |0=>[]
 |k+1=>fK a k++a.getD k []
theorem AR(a):∀(m k),k<=m->(fK a k).length<=(fK a m).length
 |0,k,h=>by grind
 |m+1,k,h=>by
  by_cases e:k=m+1;.grind
  .have:=AR a m k aj;grind [fK,fB]
theorem QX{t}(K r a)(X W:Nat->Wx)(p b o f T U)(h3:a<=100)(C:B0<=K)(D:K<t)(F:B0<=r)(G:r<t)(E:s.cell? (aA K 0)=some (dB r a a))(c:∀j,j<a->s.cell? (aA r (j*2))=some (X j)/\s.cell? (aA r (j*2+1))=some (W j))(A:∀j,j<a->∃g O,W j=.func (.func g) #[] O)(I:∀j,j<a->Wr B0 t s (X j) (p.getD j []) b o f T U):Wr B0 t s (.func (.func 323) #[] #[aK K 0]) (fK p a) b o f T U:=by
 refine⟨323,_,rfl,enters_of func323 bZ rfl,fun w v l R hl=>?_⟩;have cp:=R.fU.cell C D E;have HP:=aG R;have JB:=aG (AR p a);have HL:=aG hl;have HC:=aG c;have L:=aG A;have N:=aG I;have J:=aG (dz F G);clear R hl c A I E C D F G;go_enter func323,ntmps323;go_wp2_with fail;go_loopw [0,10] (fun s0 q wr=>∃k:Nat,k<=a/\q=(iZ k)/\Hid (I8 B0 t s wr s0 (l++fK p k) b o f T U)/\Hid (Gr w wr v s0)) (fun _ q _=>a-(eT q).toNat);case atStart=>exact⟨0,eG _,rfl,by rw[fK,lG];exact HP.out,Gr.refl w v⟩
 case round=>
  obtain⟨k,hk,rfl,z,x⟩:=hrel;by_cases m:k<a
  .have h0:(k:Int)<(a:Int):=aj;obtain⟨q1,q2⟩:=HC.out k m;have t1:=z.out.fU.cell J.out.1 J.out.2 q1;have t2:=z.out.fU.cell J.out.1 J.out.2 q2;obtain⟨g,O,B,eg,Z⟩:=N.out k m;obtain⟨g2,VK,d⟩:=L.out k m;rw[B]at t1;rw[d]at t2;have S:=z.out.alloc (.cells #[.func (.func g) #[] O,.func (.func g2) #[] VK] 318);have i:=JB.out (k+1) aj;have Q:=HL.out;have H:Hid (fK p (k+1)=fK p k++p.getD k []):=rfl;rw[H.out,lM]at i;have hc:=Z _ _ _ S (by grind);have u:=aG hc;have V:=aG S;have h2:r<wr.heap.size:=iq _ _ t1;clear B d S i Q hc Z q1 q2;go_wp2_with fail;refine u.out.mono ?_;rintro e y ⟨s1,rfl,Y,P⟩;have n:=V.out.next Y P;rw[lC,<-H.out]at n;have zK:=aG n;have M:=aG (x.out.trans (P.alloc _));clear Y P n u V;go_wp2_with fail;go_roundw;case rel=>exact⟨k+1,aj,by go_num,zK,M⟩
   case measure=>simp[eT];omega
  .obtain rfl:k=a:=aj;have HF:=aG z.out.buf;clear z;go_wp2;go_ret;exact⟨_,rfl,HF.out,x.out⟩
def VL(B0:Nat)(w:Wq)(xb:Nat)(v:Wx):Prop:=B0<=xb/\w.cell? (aA xb 0)=some v
def VL.below(h:VL B0 w xb v)(a:bJ w w'):VL B0 w' xb v:=
 ⟨h.1,(a.cell (p:=(aA xb 0)) (iq _ _ h.2)).trans h.2⟩
def VL.mono{a}(h:VL a w xb v)(b:B0<=a):VL B0 w xb v:=⟨dx b h.1,h.2⟩
def kF(B0:Nat)(w:Wq)(a:Nat×Nat)(c b:Wx):Prop:=
 (a.1=0/\∃d,VL B0 w d (.int .u8 a.2)/\c=.func (.func 321) #[] #[aK d 0]/\b=.func (.func 322) #[] #[])\/(a.1=1/\c=.func (.func 331) #[] #[]/\b=.func (.func 332) #[] #[])\/(a.1=2/\c=.func (.func 327) #[] #[]/\b=.func (.func 328) #[] #[])\/(a.1=3/\∃d,VL B0 w d (.func (.func a.2) #[] #[])/\c=.func (.func 329) #[] #[aK d 0]/\b=.func (.func 330) #[] #[aK d 0])\/(a.1=4/\c=.func (.func 333) #[] #[]/\b=.func (.func 334) #[] #[])\/(a.1=5/\c=.func (.func 325) #[] #[]/\b=.func (.func 326) #[] #[])
def kF.below{B0 w w' a f e}(h:kF B0 w a f e)(g:bJ w w'):kF B0 w' a f e:=by
 rcases h with⟨h,d,c,b⟩|h|h|⟨h,d,c,b⟩|h|h;.exact .inl ⟨h,d,c.below g,b⟩
 .exact .inr (.inl h)
 .exact .inr (.inr (.inl h))
 .exact .inr (.inr (.inr (.inl ⟨h,d,c.below g,b⟩)))
 .exact .inr (.inr (.inr (.inr (.inl h))))
 .exact .inr (.inr (.inr (.inr (.inr h))))
def kF.mono{B0 e w a g f}(h:kF e w a g f)(i:B0<=e):kF B0 w a g f:=by
 rcases h with⟨h,d,c,b⟩|h|h|⟨h,d,c,b⟩|h|h;.exact .inl ⟨h,d,c.mono i,b⟩
 .exact .inr (.inl h)
 .exact .inr (.inr (.inl h))
 .exact .inr (.inr (.inr (.inl ⟨h,d,c.mono i,b⟩)))
 .exact .inr (.inr (.inr (.inr (.inl h))))
 .exact .inr (.inr (.inr (.inr (.inr h))))
def Made(w w':Wq)(a:Nat×Nat)(e:Ending):Prop:=∃c b,e=.returned (.agg #[c,b])/\kF w.heap.size w' a c b/\bJ w w'
def QY(x:Nat)(w):WA prog 274 #[.int .u8 x] w fun e a=>Made w a (0,x) e:=by
 go_enter func274,ntmps274;go_wp2;refine VH (v:=.agg #[.func (.func 321) #[] #[aK w.heap.size 0],.func (.func 322) #[] #[]]) (by simp[results,results274,go_sem]) rfl ⟨_,_,rfl,.inl ⟨rfl,w.heap.size,⟨aI _,?_⟩,rfl,rfl⟩,?_⟩;.exact((aS.new w 5 [.int .u8 x]).alloc _).cell 0
 .exact((bP _ w).alloc (aI _) _).alloc aR _
def NC(w):WA prog 276 #[] w fun e a=>Made w a (5,0) e:=by go_enter func276,ntmps276;go_wp2;exact VH (v:=.agg #[.func (.func 325) #[] #[],.func (.func 326) #[] #[]]) (by simp[results,results276,go_sem]) rfl ⟨_,_,rfl,.inr (.inr (.inr (.inr (.inr ⟨rfl,rfl,rfl⟩)))),(bP _ w).alloc (aI _) _⟩
def w9(w):WA prog 277 #[] w fun e a=>Made w a (2,0) e:=by go_enter func277,ntmps277;go_wp2;exact VH (v:=.agg #[.func (.func 327) #[] #[],.func (.func 328) #[] #[]]) (by simp[results,results277,go_sem]) rfl ⟨_,_,rfl,.inr (.inr (.inl ⟨rfl,rfl,rfl⟩)),(bP _ w).alloc (aI _) _⟩
def QZ(w):WA prog 281 #[] w fun e a=>Made w a (1,0) e:=by go_enter func281,ntmps281;go_wp2;exact VH (v:=.agg #[.func (.func 331) #[] #[],.func (.func 332) #[] #[]]) (by simp[results,results281,go_sem]) rfl ⟨_,_,rfl,.inr (.inl ⟨rfl,rfl,rfl⟩),(bP _ w).alloc (aI _) _⟩
def JD(w):WA prog 282 #[] w fun e a=>Made w a (4,0) e:=by go_enter func282,ntmps282;go_wp2;exact VH (v:=.agg #[.func (.func 333) #[] #[],.func (.func 334) #[] #[]]) (by simp[results,results282,go_sem]) rfl ⟨_,_,rfl,.inr (.inr (.inr (.inr (.inl ⟨rfl,rfl,rfl⟩)))),(bP _ w).alloc (aI _) _⟩
def ku(a:Nat)(w):WA prog 278 #[.func (.func a) #[] #[]] w fun e b=>Made w b (3,a) e:=by
 go_enter func278,ntmps278;go_wp2;refine VH (v:=.agg #[.func (.func 329) #[] #[aK w.heap.size 0],.func (.func 330) #[] #[aK w.heap.size 0]]) (by simp[results,results278,go_sem]) rfl ⟨_,_,rfl,.inr (.inr (.inr (.inl ⟨rfl,w.heap.size,⟨aI _,?_⟩,rfl,rfl⟩))),?_⟩;.exact((aS.new w 357 [.func (.func a) #[] #[]]).alloc _).cell 0
 .exact((bP _ w).alloc (aI _) _).alloc aR _
def kG(s)(f:∃a n c,s=.slice a n c)(w):WA prog 275 #[s] w fun e d=>∃b,e=.returned (.agg #[.func (.func 323) #[] #[aK b 0],.func (.func 324) #[] #[aK b 0]])/\VL w.heap.size d b s/\bJ w d:=by
 obtain⟨a,n,c,rfl⟩:=f;go_enter func275,ntmps275;go_wp2;refine VH (v:=.agg #[.func (.func 323) #[] #[aK w.heap.size 0],.func (.func 324) #[] #[aK w.heap.size 0]]) (by simp[results,results275,go_sem]) rfl ⟨w.heap.size,rfl,⟨aI _,?_⟩,?_⟩;.exact((aS.new w 380 [.slice a n c]).alloc _).cell 0
 .exact((bP _ w).alloc (aI _) _).alloc aR _
def VL.of(h:VL B0 w xb v)(e:∀k,B0<=k->w'.heap[k]?=w.heap[k]?):VL B0 w' xb v:=⟨h.1,cell_of h.2 (e xb h.1)⟩
def kF.of{B0 w w' a g f}(h:kF B0 w a g f)(e:∀k,B0<=k->w'.heap[k]?=w.heap[k]?):kF B0 w' a g f:=by
 rcases h with⟨h,d,c,b⟩|h|h|⟨h,d,c,b⟩|h|h;.exact .inl ⟨h,d,c.of e,b⟩
 .exact .inr (.inl h)
 .exact .inr (.inr (.inl h))
 .exact .inr (.inr (.inr (.inl ⟨h,d,c.of e,b⟩)))
 .exact .inr (.inr (.inr (.inr (.inl h))))
 .exact .inr (.inr (.inr (.inr (.inr h))))
def YR(B0:Nat)(w:Wq)(a:bY)(c b:Wx):Prop:=
 ∃e d,c=.func (.func 323) #[] #[aK e 0]/\b=.func (.func 324) #[] #[aK e 0]/\VL B0 w e (dB d a.length a.length)/\B0<=d/\∀j,j<a.length->∃c b,w.cell? (aA d (j*2))=some c/\w.cell? (aA d (j*2+1))=some b/\kF B0 w (a.getD j (0,0)) c b
def Laid(w w':Wq)(a:bY)(e:Ending):Prop:=∃c b,e=.returned (.agg #[c,b])/\YR (w.heap.size+1) w' a c b/\bJ w w'
theorem nD{Z}(h:Below (w.heap.size+1) (w.alloc Z) y)(a b):bJ w ((y.setCell (aA w.heap.size 0) a).setCell (aA w.heap.size 1) b)/\∀k,w.heap.size+1<=k->((y.setCell (aA w.heap.size 0) a).setCell (aA w.heap.size 1) b).heap[k]?=y.heap[k]?:=by
 refine⟨?_,fun k d=>?_⟩;.have c:=((bP _ w).alloc (aI _) Z).trans (h.mono aj);exact(c.setCell (p:=(aA w.heap.size 0)) (aI _) a).setCell (p:=(aA w.heap.size 1)) (aI _) b
 grind [Below.heap_setCell]
def lU(x:Nat)(X)(a:X=(x:Int))(w):WA prog 274 #[.int .u8 X] w fun e b=>Made w b (0,x) e:=by subst a;exact QY x w
def dO{B a y'}(h:Below B a y)(c:B<=a.heap.size)(b:bJ y y'):Below B a y':=h.trans (b.mono (dx c h.size))
def nE{z}(h:Below (w.heap.size+1) (w.alloc (.cells #[.nilFunc,.nilFunc] 318)) z):z.cell? (aA w.heap.size 0)=some .nilFunc/\z.cell? (aA w.heap.size 1)=some .nilFunc/\z.frozen? (aA w.heap.size 0)=false/\z.frozen? (aA w.heap.size 1)=false:=by have a:=(aS.new w 318 [.nilFunc,.nilFunc]).of_heap (h.block _ aj);exact⟨a.cell 0,a.cell 1,a.frozen 0,a.frozen 1⟩
def qey(w):WA prog 217 #[iZ 2] w fun e M=>Laid w M [(0,2),(5,0)] e:=by
 go_enter wT,wR;go_wp2_with fail;refine(lU 2 _ rfl _).mono ?_;rintro e N ⟨p,n,rfl,f,b⟩;have t:Hid (Below (w.heap.size+1) (w.alloc (.cells #[.nilFunc,.nilFunc] 318)) N):=b.mono aR;have E:=aG f;have F:=aG b;clear f b;go_wp2_with fail;refine(NC _).mono ?_;rintro e d ⟨q,o,rfl,g,c⟩;have u:Hid (Below (w.heap.size+1) (w.alloc (.cells #[.nilFunc,.nilFunc] 318)) d):=dO t.out aR c;have O:=aG g;have s:=aG c;clear g c;go_wp2_with fail;refine(kG _ ⟨_,_,_,rfl⟩ _).mono ?_;rintro e z ⟨k,rfl,A,i⟩;have l:bJ d (d.alloc (.cells #[p,n,q,o] 318)):=(bP _ _).alloc (aI _) _;have x:=dO u.out aR l;have r:=dO x aR i;obtain⟨K,L,P,Q⟩:=nE r;have y:=(aS.new d 318 [p,n,q,o]).of_heap (i.block _ aR);have Q1:=aG ((((E.out.below s.out).below l).below i).mono (B0:=w.heap.size+1) aR);have H:=aG (((O.out.below l).below i).mono (B0:=w.heap.size+1) (by have:=t.out.size;simp at this;omega));have B:w.heap.size+1<=d.heap.size:=by have:=u.out.size;simp at this;omega
 have D:=aG (A.mono (B0:=w.heap.size+1) dZ);have G:=aG y;have I:=aG r;have C:=aG B;clear A y r x l i B;go_wp2_with fail;obtain⟨f1,f2⟩:=nD I.out (.func (.func 323) #[] #[aK k 0]) (.func (.func 324) #[] #[aK k 0]);refine VH (v:=.agg #[.func (.func 323) #[] #[aK k 0],.func (.func 324) #[] #[aK k 0]]) (by simp[results,wQ,go_sem,K,L]) rfl ⟨_,_,rfl,⟨k,d.heap.size,rfl,rfl,D.out.of f2,C.out,?_⟩,f1⟩;intro j J;have a:aS _ d.heap.size 318 [p,n,q,o]:=G.out.of_heap (f2 _ C.out);match j,J with
 |0,_=>exact⟨p,n,a.cell 0,a.cell 1,Q1.out.of f2⟩
 |1,_=>exact⟨q,o,a.cell 2,a.cell 3,H.out.of f2⟩
 |(m+2),hm=>exact absurd hm aR
def qez(w):WA prog 217 #[iZ 3] w fun e w'=>Laid w w' [(0,36),(2,0),(3,279),(3,280)] e:=by
 go_enter wT,wR;go_wp2_with fail;refine(lU 36 _ rfl _).mono ?_;rintro e y1 ⟨A,x,rfl,n,b⟩;have F:Hid (Below (w.heap.size+1) (w.alloc (.cells #[.nilFunc,.nilFunc] 318)) y1):=b.mono aR;have Q:=aG n;have S:=aG b;clear n b;go_wp2_with fail;refine(w9 _).mono ?_;rintro e y2 ⟨B,y,rfl,o,c⟩;have G:Hid (Below (w.heap.size+1) (w.alloc (.cells #[.nilFunc,.nilFunc] 318)) y2):=dO F.out aR c;have zK:=aG o;have D:=aG c;clear o c;go_wp2_with fail;refine(ku 279 _).mono ?_;rintro e y3 ⟨s,r,rfl,p,d⟩;have H:Hid (Below (w.heap.size+1) (w.alloc (.cells #[.nilFunc,.nilFunc] 318)) y3):=dO G.out aR d;have R:=aG p;have l:=aG d;clear p d;go_wp2_with fail;refine(ku 280 _).mono ?_;rintro e i ⟨t,u,rfl,K,f⟩;have I:Hid (Below (w.heap.size+1) (w.alloc (.cells #[.nilFunc,.nilFunc] 318)) i):=dO H.out aR f;have U:=aG K;have E:=aG f;clear K f;go_wp2_with fail;refine(kG _ ⟨_,_,_,rfl⟩ _).mono ?_;rintro e z ⟨q,rfl,M,g⟩;have k:bJ i (i.alloc (.cells #[A,x,B,y,s,r,t,u] 318)):=(bP _ _).alloc (aI _) _;have J:=dO I.out aR k;have C:=dO J aR g;obtain⟨i0,i1,i2,i3⟩:=nE C;have L:=(aS.new i 318 [A,x,B,y,s,r,t,u]).of_heap (g.block _ aR);have Q1:=aG ((((((Q.out.below D.out).below l.out).below E.out).below k).below g).mono (B0:=w.heap.size+1) aR);have V:=aG (((((zK.out.below l.out).below E.out).below k).below g).mono (B0:=w.heap.size+1) (by have:=F.out.size;simp at this;omega));have W:=aG ((((R.out.below E.out).below k).below g).mono (B0:=w.heap.size+1) (by have:=G.out.size;simp at this;omega));have X:=aG (((U.out.below k).below g).mono (B0:=w.heap.size+1) (by have:=H.out.size;simp at this;omega));have N:w.heap.size+1<=i.heap.size:=by have:=I.out.size;simp at this;omega
 have P:=aG (M.mono (B0:=w.heap.size+1) dZ);have T:=aG L;have Y:=aG C;have O:=aG N;clear M L C J k g N;go_wp2_with fail;obtain⟨f1,f2⟩:=nD Y.out (.func (.func 323) #[] #[aK q 0]) (.func (.func 324) #[] #[aK q 0]);refine VH (v:=.agg #[.func (.func 323) #[] #[aK q 0],.func (.func 324) #[] #[aK q 0]]) (by simp[results,wQ,go_sem,i0,i1]) rfl ⟨_,_,rfl,⟨q,i.heap.size,rfl,rfl,P.out.of f2,O.out,?_⟩,f1⟩;intro j Z;have a:aS _ i.heap.size 318 [A,x,B,y,s,r,t,u]:=T.out.of_heap (f2 _ O.out);match j,Z with
 |0,_=>exact⟨A,x,a.cell 0,a.cell 1,Q1.out.of f2⟩
 |1,_=>exact⟨B,y,a.cell 2,a.cell 3,V.out.of f2⟩
 |2,_=>exact⟨s,r,a.cell 4,a.cell 5,W.out.of f2⟩
 |3,_=>exact⟨t,u,a.cell 6,a.cell 7,X.out.of f2⟩
 |(m+4),hm=>exact absurd hm aR
def qf0(w):WA prog 217 #[iZ 4] w fun e w'=>Laid w w' [(1,0),(2,0),(3,279),(4,0)] e:=by
 go_enter wT,wR;go_wp2_with fail;refine(QZ _).mono ?_;rintro e y1 ⟨A,x,rfl,n,b⟩;have F:Hid (Below (w.heap.size+1) (w.alloc (.cells #[.nilFunc,.nilFunc] 318)) y1):=b.mono aR;have Q:=aG n;have S:=aG b;clear n b;go_wp2_with fail;refine(w9 _).mono ?_;rintro e y2 ⟨B,y,rfl,o,c⟩;have G:Hid (Below (w.heap.size+1) (w.alloc (.cells #[.nilFunc,.nilFunc] 318)) y2):=dO F.out aR c;have zK:=aG o;have D:=aG c;clear o c;go_wp2_with fail;refine(ku 279 _).mono ?_;rintro e y3 ⟨s,r,rfl,p,d⟩;have H:Hid (Below (w.heap.size+1) (w.alloc (.cells #[.nilFunc,.nilFunc] 318)) y3):=dO G.out aR d;have R:=aG p;have l:=aG d;clear p d;go_wp2_with fail;refine(JD _).mono ?_;rintro e i ⟨t,u,rfl,K,f⟩;have I:Hid (Below (w.heap.size+1) (w.alloc (.cells #[.nilFunc,.nilFunc] 318)) i):=dO H.out aR f;have U:=aG K;have E:=aG f;clear K f;go_wp2_with fail;refine(kG _ ⟨_,_,_,rfl⟩ _).mono ?_;rintro e z ⟨q,rfl,M,g⟩;have k:bJ i (i.alloc (.cells #[A,x,B,y,s,r,t,u] 318)):=(bP _ _).alloc (aI _) _;have J:=dO I.out aR k;have C:=dO J aR g;obtain⟨i0,i1,i2,i3⟩:=nE C;have L:=(aS.new i 318 [A,x,B,y,s,r,t,u]).of_heap (g.block _ aR);have Q1:=aG ((((((Q.out.below D.out).below l.out).below E.out).below k).below g).mono (B0:=w.heap.size+1) aR);have V:=aG (((((zK.out.below l.out).below E.out).below k).below g).mono (B0:=w.heap.size+1) (by have:=F.out.size;simp at this;omega));have W:=aG ((((R.out.below E.out).below k).below g).mono (B0:=w.heap.size+1) (by have:=G.out.size;simp at this;omega));have X:=aG (((U.out.below k).below g).mono (B0:=w.heap.size+1) (by have:=H.out.size;simp at this;omega));have N:w.heap.size+1<=i.heap.size:=by have:=I.out.size;simp at this;omega
 have P:=aG (M.mono (B0:=w.heap.size+1) dZ);have T:=aG L;have Y:=aG C;have O:=aG N;clear M L C J k g N;go_wp2_with fail;obtain⟨f1,f2⟩:=nD Y.out (.func (.func 323) #[] #[aK q 0]) (.func (.func 324) #[] #[aK q 0]);refine VH (v:=.agg #[.func (.func 323) #[] #[aK q 0],.func (.func 324) #[] #[aK q 0]]) (by simp[results,wQ,go_sem,i0,i1]) rfl ⟨_,_,rfl,⟨q,i.heap.size,rfl,rfl,P.out.of f2,O.out,?_⟩,f1⟩;intro j Z;have a:aS _ i.heap.size 318 [A,x,B,y,s,r,t,u]:=T.out.of_heap (f2 _ O.out);match j,Z with
 |0,_=>exact⟨A,x,a.cell 0,a.cell 1,Q1.out.of f2⟩
 |1,_=>exact⟨B,y,a.cell 2,a.cell 3,V.out.of f2⟩
 |2,_=>exact⟨s,r,a.cell 4,a.cell 5,W.out.of f2⟩
 |3,_=>exact⟨t,u,a.cell 6,a.cell 7,X.out.of f2⟩
 |(m+4),hm=>exact absurd hm aR
def qf1(w):WA prog 217 #[iZ 5] w fun e M=>Laid w M [(0,16),(3,283)] e:=by
 go_enter wT,wR;go_wp2_with fail;refine(lU 16 _ rfl _).mono ?_;rintro e N ⟨p,n,rfl,f,b⟩;have t:Hid (Below (w.heap.size+1) (w.alloc (.cells #[.nilFunc,.nilFunc] 318)) N):=b.mono aR;have E:=aG f;have F:=aG b;clear f b;go_wp2_with fail;refine(ku 283 _).mono ?_;rintro e d ⟨q,o,rfl,g,c⟩;have u:Hid (Below (w.heap.size+1) (w.alloc (.cells #[.nilFunc,.nilFunc] 318)) d):=dO t.out aR c;have O:=aG g;have s:=aG c;clear g c;go_wp2_with fail;refine(kG _ ⟨_,_,_,rfl⟩ _).mono ?_;rintro e z ⟨k,rfl,A,i⟩;have l:bJ d (d.alloc (.cells #[p,n,q,o] 318)):=(bP _ _).alloc (aI _) _;have x:=dO u.out aR l;have r:=dO x aR i;obtain⟨K,L,P,Q⟩:=nE r;have y:=(aS.new d 318 [p,n,q,o]).of_heap (i.block _ aR);have Q1:=aG ((((E.out.below s.out).below l).below i).mono (B0:=w.heap.size+1) aR);have H:=aG (((O.out.below l).below i).mono (B0:=w.heap.size+1) (by have:=t.out.size;simp at this;omega));have B:w.heap.size+1<=d.heap.size:=by have:=u.out.size;simp at this;omega
 have D:=aG (A.mono (B0:=w.heap.size+1) dZ);have G:=aG y;have I:=aG r;have C:=aG B;clear A y r x l i B;go_wp2_with fail;obtain⟨f1,f2⟩:=nD I.out (.func (.func 323) #[] #[aK k 0]) (.func (.func 324) #[] #[aK k 0]);refine VH (v:=.agg #[.func (.func 323) #[] #[aK k 0],.func (.func 324) #[] #[aK k 0]]) (by simp[results,wQ,go_sem,K,L]) rfl ⟨_,_,rfl,⟨k,d.heap.size,rfl,rfl,D.out.of f2,C.out,?_⟩,f1⟩;intro j J;have a:aS _ d.heap.size 318 [p,n,q,o]:=G.out.of_heap (f2 _ C.out);match j,J with
 |0,_=>exact⟨p,n,a.cell 0,a.cell 1,Q1.out.of f2⟩
 |1,_=>exact⟨q,o,a.cell 2,a.cell 3,H.out.of f2⟩
 |(m+2),hm=>exact absurd hm aR
def qf2(w):WA prog 217 #[iZ 6] w fun e U=>Laid w U [(0,17),(2,0),(3,283)] e:=by
 go_enter wT,wR;go_wp2_with fail;refine(lU 17 _ rfl _).mono ?_;rintro e V ⟨u,s,rfl,k,b⟩;have B:Hid (Below (w.heap.size+1) (w.alloc (.cells #[.nilFunc,.nilFunc] 318)) V):=b.mono aR;have K:=aG k;have M:=aG b;clear k b;go_wp2_with fail;refine(w9 _).mono ?_;rintro e W ⟨x,t,rfl,l,c⟩;have C:Hid (Below (w.heap.size+1) (w.alloc (.cells #[.nilFunc,.nilFunc] 318)) W):=dO B.out aR c;have X:=aG l;have A:=aG c;clear l c;go_wp2_with fail;refine(ku 283 _).mono ?_;rintro e f ⟨r,q,rfl,n,d⟩;have D:Hid (Below (w.heap.size+1) (w.alloc (.cells #[.nilFunc,.nilFunc] 318)) f):=dO C.out aR d;have L:=aG n;have i:=aG d;clear n d;go_wp2_with fail;refine(kG _ ⟨_,_,_,rfl⟩ _).mono ?_;rintro e z ⟨o,rfl,G,g⟩;have p:bJ f (f.alloc (.cells #[u,s,x,t,r,q] 318)):=(bP _ _).alloc (aI _) _;have E:=dO D.out aR p;have y:=dO E aR g;obtain⟨S,T,Y,Z⟩:=nE y;have F:=(aS.new f 318 [u,s,x,t,r,q]).of_heap (g.block _ aR);have Q1:=aG (((((K.out.below A.out).below i.out).below p).below g).mono (B0:=w.heap.size+1) aR);have O:=aG ((((X.out.below i.out).below p).below g).mono (B0:=w.heap.size+1) (by have:=B.out.size;simp at this;omega));have P:=aG (((L.out.below p).below g).mono (B0:=w.heap.size+1) (by have:=C.out.size;simp at this;omega));have H:w.heap.size+1<=f.heap.size:=by have:=D.out.size;simp at this;omega
 have J:=aG (G.mono (B0:=w.heap.size+1) dZ);have N:=aG F;have Q:=aG y;have I:=aG H;clear G F y E p g H;go_wp2_with fail;obtain⟨f1,f2⟩:=nD Q.out (.func (.func 323) #[] #[aK o 0]) (.func (.func 324) #[] #[aK o 0]);refine VH (v:=.agg #[.func (.func 323) #[] #[aK o 0],.func (.func 324) #[] #[aK o 0]]) (by simp[results,wQ,go_sem,S,T]) rfl ⟨_,_,rfl,⟨o,f.heap.size,rfl,rfl,J.out.of f2,I.out,?_⟩,f1⟩;intro j R;have a:aS _ f.heap.size 318 [u,s,x,t,r,q]:=N.out.of_heap (f2 _ I.out);match j,R with
 |0,_=>exact⟨u,s,a.cell 0,a.cell 1,Q1.out.of f2⟩
 |1,_=>exact⟨x,t,a.cell 2,a.cell 3,O.out.of f2⟩
 |2,_=>exact⟨r,q,a.cell 4,a.cell 5,P.out.of f2⟩
 |(m+3),hm=>exact absurd hm aR
def qf3(w):WA prog 217 #[iZ 7] w fun e w'=>Laid w w' [(0,48),(3,284),(3,285),(4,0)] e:=by
 go_enter wT,wR;go_wp2_with fail;refine(lU 48 _ rfl _).mono ?_;rintro e y1 ⟨A,x,rfl,n,b⟩;have F:Hid (Below (w.heap.size+1) (w.alloc (.cells #[.nilFunc,.nilFunc] 318)) y1):=b.mono aR;have Q:=aG n;have S:=aG b;clear n b;go_wp2_with fail;refine(ku 284 _).mono ?_;rintro e y2 ⟨B,y,rfl,o,c⟩;have G:Hid (Below (w.heap.size+1) (w.alloc (.cells #[.nilFunc,.nilFunc] 318)) y2):=dO F.out aR c;have zK:=aG o;have D:=aG c;clear o c;go_wp2_with fail;refine(ku 285 _).mono ?_;rintro e y3 ⟨s,r,rfl,p,d⟩;have H:Hid (Below (w.heap.size+1) (w.alloc (.cells #[.nilFunc,.nilFunc] 318)) y3):=dO G.out aR d;have R:=aG p;have l:=aG d;clear p d;go_wp2_with fail;refine(JD _).mono ?_;rintro e i ⟨t,u,rfl,K,f⟩;have I:Hid (Below (w.heap.size+1) (w.alloc (.cells #[.nilFunc,.nilFunc] 318)) i):=dO H.out aR f;have U:=aG K;have E:=aG f;clear K f;go_wp2_with fail;refine(kG _ ⟨_,_,_,rfl⟩ _).mono ?_;rintro e z ⟨q,rfl,M,g⟩;have k:bJ i (i.alloc (.cells #[A,x,B,y,s,r,t,u] 318)):=(bP _ _).alloc (aI _) _;have J:=dO I.out aR k;have C:=dO J aR g;obtain⟨i0,i1,i2,i3⟩:=nE C;have L:=(aS.new i 318 [A,x,B,y,s,r,t,u]).of_heap (g.block _ aR);have Q1:=aG ((((((Q.out.below D.out).below l.out).below E.out).below k).below g).mono (B0:=w.heap.size+1) aR);have V:=aG (((((zK.out.below l.out).below E.out).below k).below g).mono (B0:=w.heap.size+1) (by have:=F.out.size;simp at this;omega));have W:=aG ((((R.out.below E.out).below k).below g).mono (B0:=w.heap.size+1) (by have:=G.out.size;simp at this;omega));have X:=aG (((U.out.below k).below g).mono (B0:=w.heap.size+1) (by have:=H.out.size;simp at this;omega));have N:w.heap.size+1<=i.heap.size:=by have:=I.out.size;simp at this;omega
 have P:=aG (M.mono (B0:=w.heap.size+1) dZ);have T:=aG L;have Y:=aG C;have O:=aG N;clear M L C J k g N;go_wp2_with fail;obtain⟨f1,f2⟩:=nD Y.out (.func (.func 323) #[] #[aK q 0]) (.func (.func 324) #[] #[aK q 0]);refine VH (v:=.agg #[.func (.func 323) #[] #[aK q 0],.func (.func 324) #[] #[aK q 0]]) (by simp[results,wQ,go_sem,i0,i1]) rfl ⟨_,_,rfl,⟨q,i.heap.size,rfl,rfl,P.out.of f2,O.out,?_⟩,f1⟩;intro j Z;have a:aS _ i.heap.size 318 [A,x,B,y,s,r,t,u]:=T.out.of_heap (f2 _ O.out);match j,Z with
 |0,_=>exact⟨A,x,a.cell 0,a.cell 1,Q1.out.of f2⟩
 |1,_=>exact⟨B,y,a.cell 2,a.cell 3,V.out.of f2⟩
 |2,_=>exact⟨s,r,a.cell 4,a.cell 5,W.out.of f2⟩
 |3,_=>exact⟨t,u,a.cell 6,a.cell 7,X.out.of f2⟩
 |(m+4),hm=>exact absurd hm aR
def qf4(w):WA prog 217 #[iZ 8] w fun e M=>Laid w M [(0,28),(3,283)] e:=by
 go_enter wT,wR;go_wp2_with fail;refine(lU 28 _ rfl _).mono ?_;rintro e N ⟨p,n,rfl,f,b⟩;have t:Hid (Below (w.heap.size+1) (w.alloc (.cells #[.nilFunc,.nilFunc] 318)) N):=b.mono aR;have E:=aG f;have F:=aG b;clear f b;go_wp2_with fail;refine(ku 283 _).mono ?_;rintro e d ⟨q,o,rfl,g,c⟩;have u:Hid (Below (w.heap.size+1) (w.alloc (.cells #[.nilFunc,.nilFunc] 318)) d):=dO t.out aR c;have O:=aG g;have s:=aG c;clear g c;go_wp2_with fail;refine(kG _ ⟨_,_,_,rfl⟩ _).mono ?_;rintro e z ⟨k,rfl,A,i⟩;have l:bJ d (d.alloc (.cells #[p,n,q,o] 318)):=(bP _ _).alloc (aI _) _;have x:=dO u.out aR l;have r:=dO x aR i;obtain⟨K,L,P,Q⟩:=nE r;have y:=(aS.new d 318 [p,n,q,o]).of_heap (i.block _ aR);have Q1:=aG ((((E.out.below s.out).below l).below i).mono (B0:=w.heap.size+1) aR);have H:=aG (((O.out.below l).below i).mono (B0:=w.heap.size+1) (by have:=t.out.size;simp at this;omega));have B:w.heap.size+1<=d.heap.size:=by have:=u.out.size;simp at this;omega
 have D:=aG (A.mono (B0:=w.heap.size+1) dZ);have G:=aG y;have I:=aG r;have C:=aG B;clear A y r x l i B;go_wp2_with fail;obtain⟨f1,f2⟩:=nD I.out (.func (.func 323) #[] #[aK k 0]) (.func (.func 324) #[] #[aK k 0]);refine VH (v:=.agg #[.func (.func 323) #[] #[aK k 0],.func (.func 324) #[] #[aK k 0]]) (by simp[results,wQ,go_sem,K,L]) rfl ⟨_,_,rfl,⟨k,d.heap.size,rfl,rfl,D.out.of f2,C.out,?_⟩,f1⟩;intro j J;have a:aS _ d.heap.size 318 [p,n,q,o]:=G.out.of_heap (f2 _ C.out);match j,J with
 |0,_=>exact⟨p,n,a.cell 0,a.cell 1,Q1.out.of f2⟩
 |1,_=>exact⟨q,o,a.cell 2,a.cell 3,H.out.of f2⟩
 |(m+2),hm=>exact absurd hm aR
structure LA (t e:WK) (z:Wx) (k aB:Nat):Prop where
 ht:prog.underlying t=some (.slice e)
 hi:(prog.info? e).map (fun i=>(i.zero,i.size,i.bytes))=some (some z,k,aB)
 hz:∀n,(eB z.cells n).toList.length=n*k
 h1:∀n,∀v∈(eB z.cells n).toList,v.oneCell'=true
 hb:aB<=104
def m_:Wx:=.agg #[iZ 0,iZ 0,uZ 0,uZ 0,uZ 0,.bool false,uZ 0,uZ 0,.string ⟨#[]⟩,nZ]
def qki:Wx:=.agg #[uZ 0,uZ 0]
def Rl:LA 63 170 qki 2 16:=⟨bZ,bZ,jC,kS,aj⟩
def sU:LA 54 65 m_ 10 104:=⟨bZ,bZ,fun n=>by simp[m_,eB,nI],fun n v a=>by simp[m_,eB,nI]at a;obtain⟨i,_,rfl⟩:=a;have:i % 10=0\/i % 10=1\/i % 10=2\/i % 10=3\/i % 10=4\/i % 10=5\/i % 10=6\/i % 10=7\/i % 10=8\/i % 10=9:=aj;rcases this with h|h|h|h|h|h|h|h|h|h<;>rw[h]<;>rfl,aj⟩
def fO(e:WK)(k:Nat)(w:Wq)(v:Wx)(n:Nat)(l:bM):Prop:=
 v=nZ/\n=0/\l=[]\/∃g cap a,v=(dB g n cap)/\aS w g e a/\a.length=cap*k/\n<=cap/\cap<=9223372036854775807/\l.length=n*k/\a.take (n*k)=l/\∀v∈a,v.oneCell'=true
def fO.len{l}(h:fO e k w v n l):l.length=n*k:=by
 rcases h with⟨_,rfl,rfl⟩|⟨g,cap,cs,_,_,_,_,_,h,_⟩;.simp
 .exact h
def fO.lt{e k w v n l}(h:fO e k w v n l):∀b,v.ownBlock=some b->b<w.heap.size:=by
 intro b a;rcases h with⟨rfl,_⟩|⟨g,cap,cs,rfl,hB,_⟩;.simp[mE]at a
 .simp[mE]at a;subst a;exact hB.lt
def fO.of_heap{e k w w' v n l}(h:fO e k w v n l)(f:∀b,v.ownBlock=some b->w'.heap[b]?=w.heap[b]?):fO e k w' v n l:=by
 rcases h with h|⟨g,cap,a,rfl,d,c⟩;.exact .inl h
 .exact .inr ⟨g,cap,a,rfl,d.of_heap (f g rfl),c⟩
def fO.nil(e k w):fO e k w nZ 0 []:=.inl ⟨rfl,rfl,rfl⟩
theorem fO.shape{l}(h:fO e k w v n l):∃a c,v=.slice a n c/\n<=c:=by
 rcases h with⟨rfl,rfl,_⟩|⟨g,cap,cs,rfl,_,_,h,_⟩;.grind
 grind
theorem fO.cell{e k w v n l}(h:fO e k w v n l){a c}(b:v=.slice a n c)(j x)(d:l[j]?=some x):∃g,a=some (aA g 0)/\w.cell? (aA g j)=some x/\w.frozen? (aA g j)=false:=by
 rcases h with⟨_,rfl,rfl⟩|⟨g,cap,cs,rfl,hB,_,_,_,h4,h5,_⟩;.simp at d
 .simp at b;refine⟨g,b.1.symm,?_,hB.frozen j⟩;rw[hB.cell];grind
theorem jL(E:LA t e z k aB){l}(h:fO e k w v n l)(a m mc o)(J:o.length=m*k)(Q:0<m)(C:∀v∈o,v.oneCell'=true)(i:∀j u,o[j]?=some u->w.cell? (a.add j)=some u)(O:n+m<=1000000000000):∃r s,(∀q,(fA #[t,t] q #[v,.slice (some a) m mc]).run prog w=.ok r s)/\fO e k s r (n+m) (l++o)/\Gr w s v r:=by
 have x:(n+m)*aB<=140737488355328:=dx (Nat.mul_le_mul O E.hb) kX;have I:=h.len;have S:(n+m)*k=n*k+m*k:=Cw _ _ _;have grow:∀base c (d:bM),d=l->c<n+m->(base=none/\d=[]\/∃b:XK,base=some b/\d.length=n*k/\∀j v,d[j]?=some v->w.cell? (b.add j)=some v)->(∀v∈d,v.oneCell'=true)->∃r s,(∀q,(fA #[t,t] q #[.slice base n c,.slice (some a) m mc]).run prog w=.ok r s)/\fO e k s r (n+m) (l++o)/\Gr w s (.slice base n c) r:=by
  intro base c d H A y L;have p:=fun q=>jX (P:=prog) (w:=w) t t q e _ k aB E.ht E.ht E.hi (base:=base) (n:=n) (c:=c) (m:=m) (mc:=mc) (cs:=d) y a (vs:=o) J i C A x aj;have D:=grownCap_ge w (n+m) c e;have f:=grownCap_le_maxLen w (n+m) c e (by unfold maxLen;omega);unfold maxLen at f;have G:d.length=n*k:=by rw[H,I]
  refine⟨_,_,p,.inr ⟨w.heap.size,_,_,rfl,aS.new w e _,?_,D,f,by grind,?_,?_⟩,fJ (jS w _) (ze w.drew _ _),?_⟩
  .rw[lM,lM,E.hz,G,J];have:(grownCap w (n+m) c e-(n+m))*k+(n+m)*k=grownCap w (n+m) c e*k:=by rw[<-Cw];grind
   omega
  .grind
  .intro u B;rcases iJ.1 B with B|B;.grind
   .exact E.h1 _ u B
  .intro b F;simp[mE]at F;grind
 rcases h with⟨rfl,rfl,rfl⟩|⟨g,cap,d,rfl,hB,h2,h3,h4,h5,h6,h7⟩;.exact grow none 0 [] rfl aj (.inl ⟨rfl,rfl⟩) (fun v N=>by simp at N)
 .by_cases A:n+m<=cap
  .have K:(n+m)*k<=cap*k:=EZ _ A;have p:=fun q=>ig (P:=prog) (w:=w) t t q e _ k aB E.ht E.ht E.hi (n:=n) (c:=cap) (m:=m) (mc:=mc) hB a (vs:=o) J i C A aj;have M:=jd d o (n*k) aj;refine⟨_,_,p,.inr ⟨g,cap,_,rfl,hB.put _,?_,A,h4,by grind,?_,dS h7 C⟩,eU w g _,fun b F=>.inl F⟩;.grind [cu]
   grind
  .exact grow (some (aA g 0)) cap l rfl aj (.inr ⟨_,rfl,h5,fun j u R=>by rw[gT,gG,hB.cell];grind⟩) (fun u B=>h7 u (by grind))
def Eo(E:LA t e z k aB)(w a c h):(fA #[t,t] h #[nZ,.slice a 0 c]).run prog w=.ok nZ w:=by
 obtain⟨i,f,m,l,_⟩:=info_parts E.hi;have d:(mK i.size 0 (.slice a 0 c)).run prog w=.ok #[] w:=by
  cases a with
  |none=>exact run_firstCells_none w i.size 0 0 c
  |some b=>exact run_firstCells_some w i.size 0 b 0 c [] aR (fun j v g=>by simp at g)
 simp[fA,run_underlying E.ht,sizeOf,typeInfo,f,Bf,d]
