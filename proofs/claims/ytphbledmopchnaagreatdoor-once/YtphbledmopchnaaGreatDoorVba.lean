import Derived.Maps.RangeWalk
import Derived.Test.YtphbledmopchnaaGreatDoorVae
import Derived.LoopIn
import Derived.LoopNIn
import Derived.OwnWalkIn
import Derived.RangeFuncBound
import Derived.RangeFuncCalls
import Derived.RangeFuncLeaves
import Derived.RangeFuncNested
import Derived.Shelf.RegionOpen
import Derived.TacticsInMore
import Derived.Deep.CutRange
import Derived.Deep.RegionHeld3
import Derived.Defers
import Derived.Laws.IdiomStrings
import Derived.Recover
open Go.Builtin renaming append_->mI,delete_->qd
open Go.Ending renaming returned->fB
open Go.Fence renaming wide->kg
open Go.Instr renaming entry->mK,next->nI,mapUpdate->qp,range->tC
open Go.Maps renaming has_eq->fE,has_true_of_atKey->mR,keyOf_int_inv->oN
open Nat renaming reduceAdd->nV,reduceSub->oC
open Go.Oper renaming semAt_plain->mE,about->rD,wp->rF,wpIn->sM
open Prod renaming fst->nL
open Go.RowKit renaming intOf->fA
open Go.Value renaming ownBlock->eT,slice->pO
open Go.World renaming putObj_heap_other->eB,putObj_heap_same->nA,alloc_heap_new->nU,ownsMap_made->o8
set_option maxHeartbeats 4000000
set_option maxRecDepth 100000
open Go renaming World->Wq,Value->WA,Calls->WB,TypeId->Vg,bodyPost_ret->Vl,Addr->V3
set_option linter.all false
namespace Go.Proofs.YtphbledmopchnaaGreatDoor.Sd
open Go.RowKit Go.Lib Mm Go.Maps Tryz
variable {b r:Nat}{w w':Wq}
def wX(x:Option V3×Nat×Nat×Nat):WA:=.agg #[.slice x.1 x.2.1 x.2.2.1,.int .u64 x.2.2.2]
def pcR(v:WA):Option (DataW WA×List MemPlace):=match v with
 |.agg a=>match a.toList with
  |[.slice _ _ _,.int .u64 t]=>if 0<=t then some (.held v,[])else none
  |_=>none
 |_=>none
def U9(x:Option V3×Nat×Nat×Nat):pcR (wX x)=some (.held (wX x),[]):=by show(if(0:Int)<=(x.2.2.2:Int)then some (DataW.held (wX x),([]:List MemPlace))else none)=_;rw[bM (qpv _)]
def Zq(v:WA)(y:DataW WA×List MemPlace)(h:pcR v=some y):∃c,v=wX c:=by
 unfold pcR at h;split at h
 ·rename_i a;split at h
  ·rename_i b n c t d;split at h
   ·rename_i e;refine⟨(b,n,c,t.toNat),?_⟩;unfold wX;have:a=#[.slice b n c,.int .u64 t]:=by cases a;simpa using d
    rw[this];simp only;rw[qqd e]
   ·cases h
  ·cases h
 ·cases h
def en(x:Nat×(Option V3×Nat×Nat×Nat)):Lit×DataW WA:=(.int .u64 x.1,.held (wX x.2))
abbrev jQ:=Nat×(Option V3×Nat×Nat×Nat)
def Cj:Keyed prog 43:=int_keyed underlying43
def mmap:prog.underlying 203=some (.map 43 289):=bO
def Cm(n:Nat)(h:n<18446744073709551616):keyOf prog 43 (.int .u64 n)=some (.int .u64 n):=keyOf_int_mk underlying43 (WalkArith.wf_u64 aj)
def mD(w:Wq)(b:Nat)(l:List jQ):Prop:=∃a,w.ownsMap prog 43 pcR b l.length (.map a)/\a.Perm (l.map en)
def tV(w:Wq)(b r:Nat)(l lf:List jQ):Prop:=
 ∃c a d,w.ranges prog 43 pcR b r l.length (.map c) a d/\c.Perm (l.map en)/\(∀x∈l,a (.int .u64 x.1)=true↔x∈lf)/\(∀x∈lf,x∈l)
def mD.perm{l l':List jQ}(h:mD w b l)(a:l.Perm l'):mD w b l':=by obtain⟨c,d,e⟩:=h;exact⟨c,by rw[<-a.length_eq];exact d,e.trans (a.map en)⟩
def mD.lt{w:Wq}{b:Nat}{l:List jQ}(h:mD w b l):b<w.heap.size:=by obtain⟨c,a,_⟩:=h;exact a.lt
def mD.kept{l:List jQ}(h:mD w b l)(i:w'.heap[b]?=w.heap[b]?):mD w' b l:=by obtain⟨d,⟨c,a,e,f⟩,g⟩:=h;exact⟨d,⟨c,a,i.trans e,f⟩,g⟩
def tV.kept{l lf:List jQ}(h:tV w b r l lf)(o:w'.heap[b]?=w.heap[b]?)(p:w'.heap[r]?=w.heap[r]?):tV w' b r l lf:=by obtain⟨e,a,s,⟨d,c,u,t,q,f,g,i,j,k,m⟩,n⟩:=h;exact⟨e,a,s,⟨d,c,u,t,q,o.trans f,g,i,j,p.trans k,m⟩,n⟩
def tV.map{l lf:List jQ}(h:tV w b r l lf):mD w b l:=by obtain⟨a,e,f,c,d,_⟩:=h;exact⟨a,c.owns,d⟩
def tV.lt{w:Wq}{b r:Nat}{l lf:List jQ}(h:tV w b r l lf):r<w.heap.size:=by obtain⟨d,c,e,a,_⟩:=h;exact a.lt
def tV.sub{l lf:List jQ}(h:tV w b r l lf):∀x∈lf,x∈l:=by obtain⟨d,c,e,_,_,_,a⟩:=h;exact a
def mD.keys{l:List jQ}(h:mD w b l):l.Pairwise fun x y=>x.1≠y.1:=by obtain⟨g,c,d⟩:=h;obtain⟨a,e,f,_⟩:=c.entries Cj;cases e;have:=(d.pairwise_iff (fun{_ _} hne=>qna hne)).1 f;rw[qqg]at this;refine this.imp fun{x y} h e=>h ?_;show Lit.int .u64 x.1=Lit.int .u64 y.1;rw[e]
def mD.nodup{l:List jQ}(h:mD w b l):l.Nodup:=h.keys.imp fun a e=>a (by rw[e])
def U_:∀{l:List jQ},(l.Pairwise fun x y=>x.1≠y.1)->∀{x y:jQ},x∈l->y∈l->x.1=y.1->x=y
 |[],_,_,_,hx,_,_=>by cases hx
 |a::t,hp,x,y,hx,hy,e=>by
  obtain⟨b,c⟩:=qpu.1 hp;rcases qme.1 hx with hx'|hx'
  ·rcases qme.1 hy with hy'|hy';·rw[hx',hy']
   ·exact absurd e (by rw[hx'];exact b y hy')
  ·rcases qme.1 hy with hy'|hy';·exact absurd e.symm (by rw[hy'];exact b x hx')
   ·exact U_ c hx' hy' e
def mD.inj{l:List jQ}(h:mD w b l){x y:jQ}(a:x∈l)(c:y∈l)(e:x.1=y.1):x=y:=U_ h.keys a c e
def mD.made(w:Wq):mD (w.alloc (.map #[] 0)) w.heap.size []:=⟨[],o8 _ _ _ _,.refl _⟩
def h_(a b:Int):(Lit.int .u64 a).sameKey (.int .u64 b)=decide (a=b):=by
 by_cases h:a=b;·rw[h,qqe (by trivial)];simp
 ·rw[Maps.sameKey_ne (fun e=>h (by injection e))];simp[h]
def mD.len{w:Wq}{b:Nat}{l:List jQ}(h:mD w b l)(a:Vg):(Builtin.len_ #[203] a #[.map (some b)]).run prog w=.ok (.int .i64 l.length) w:=by obtain⟨e,c,d⟩:=h;have:=c.len mmap a;rw[Maps.size_eq,d.length_eq,qmc]at this;exact this
def mD.put{l:List jQ}(h:mD w b l)(n:l.length<1000000)(x:jQ)(k:x.1<18446744073709551616)(i:∀y∈l,y.1≠x.1):∃a,(qp 203 (.map (some b)) (.int .u64 x.1) (wX x.2)).run prog w=.ok () a/\mD a b (x::l)/\w.grownBy a (some b):=by
 obtain⟨c,f,d⟩:=h;obtain⟨a,r,o,g⟩:=f.update Cj mmap (by unfold maxLen;omega) (Cm x.1 k) (U9 x.2);refine⟨a,r,⟨_,o,?_⟩,g⟩;refine(WideShapes.insert_perm _ _).trans ?_;have e:c.filter (fun p=> !p.1.sameKey (.int .u64 x.1))=c:=by refine qo4.2 fun p j=>?_;obtain⟨y,m,rfl⟩:=qmk.1 (d.mem_iff.1 j);show(!(Lit.int .u64 y.1).sameKey (.int .u64 x.1))=true;rw[h_];have:=i y m;simp;omega
 rw[e];exact d.cons _
def mD.range{w:Wq}{b:Nat}{l:List jQ}(h:mD w b l):∃a,(tC 203 (.map (some b))).run prog w=.ok (aJ w.heap.size 0) a/\tV a b w.heap.size l l/\w.grownBy a none/\a.heap.size=w.heap.size+1:=by obtain⟨e,f,d⟩:=h;obtain⟨a,r,o,g,z⟩:=f.range Cj mmap;refine⟨a,r,⟨e,_,_,o,d,fun x c=>⟨fun _=>c,fun _=>?_⟩,fun x c=>c⟩,g,z⟩;rw[fE];exact qo5.2 ⟨en x,d.mem_iff.2 (qqc c),qqe (by trivial)⟩
def tV.next{w:Wq}{b r:Nat}{l lf:List jQ}(h:tV w b r l lf)(B:Vg):(lf=[]/\(nI (aJ r 0) false B).run prog w=.ok (.tuple #[.bool false]) w)\/∃x f,x∈lf/\x.1<18446744073709551616/\(nI (aJ r 0) false B).run prog w=.ok (.tuple #[.bool true,.int .u64 x.1,wX x.2]) f/\tV f b r l (lf.filter fun y=> !decide (y.1=x.1))/\f.rangeLeft b r<w.rangeLeft b r/\w.grownBy f (some r)/\f.heap.size=w.heap.size/\(mK (aJ r 0)).run prog f=.ok (.tuple #[.int .u64 x.1,wX x.2]) f:=by
 have J:=h.map;obtain⟨C,O,P,D,n,o,E⟩:=h;rcases D.next Cj B with⟨_,M,d⟩|⟨key,v,kl,y,f,cnt',hkey,hlk,hv,hat,d,hrg,hlt,hgr,gT,hen⟩
 ·refine .inl ⟨?_,d⟩;cases lf with
  |nil=>rfl
  |cons x t=>have:=(o x (E x aM)).2 aM;rw[M]at this;cases this
 ·obtain⟨k,rfl,rfl,s⟩:=oN underlying43 hkey;obtain⟨c,rfl⟩:=Zq v y hv;have N:y=(.held (wX c),[]):=by rw[U9]at hv;exact(qmn hv).symm
  have g:=mR hat;rw[fE]at g;obtain⟨p,F,H⟩:=qo5.1 g;obtain⟨x,I,rfl⟩:=qmk.1 (n.mem_iff.1 F);have L:(x.1:Int)=k:=by have:(Lit.int .u64 x.1).sameKey (.int .u64 k)=true:=H;rw[h_]at this;simpa using this
  subst L;have u:x∈lf:=(o x I).1 hlk;have K:x.1<18446744073709551616:=by simp[Lit.wf,IntKind.min,IntKind.max,IntKind.signed,IntKind.bits]at s;omega
  have i:wX x.2=wX c:=by
   have e:=hat .nil;rw[N]at e;unfold DataW.atKey at e;simp only at e;cases m:C.find? (fun p=>p.1.sameKey (.int .u64 x.1))with
   |none=>exact absurd H (by have:=List.find?_eq_none.1 m (en x) F;exact this)
   |some q=>rw[m]at e;simp only at e;obtain⟨z,j,rfl⟩:=qmk.1 (n.mem_iff.1 (List.mem_of_find?_eq_some m));have G:(Lit.int .u64 z.1).sameKey (.int .u64 x.1)=true:=List.find?_some (p:=fun p:Lit×DataW WA=>p.1.sameKey (.int .u64 x.1)) m;rw[h_]at G;have A:z=x:=J.inj j I (by simp at G;omega);rw[A]at e;injection e
  refine .inr ⟨x,f,u,K,by rw[d,i],⟨C,_,cnt',hrg,n,fun z j=>?_,fun z j=>E z (qm4.1 j).1⟩,by rw[hrg.left_eq,D.left_eq];exact hlt,hgr,gT,by rw[hen,i]⟩;rw[qmg,o z j,qm4,h_];constructor;·rintro⟨a,b⟩;refine⟨a,?_⟩;simp at b ⊢;omega
  ·rintro⟨a,b⟩;refine⟨a,?_⟩;simp at b ⊢;omega
def tV.del{w:Wq}{b r:Nat}{l lf:List jQ}(h:tV w b r l lf)(n:Nat)(I:n<18446744073709551616)(u:Vg):∃c,(qd #[203,43] u #[.map (some b),.int .u64 n]).run prog w=.ok (.tuple #[]) c/\tV c b r (l.filter fun y=> !decide (y.1=n)) (lf.filter fun y=> !decide (y.1=n))/\c.rangeLeft b r<=w.rangeLeft b r/\w.grownBy c (some b):=by
 obtain⟨k,v,N,s,F,G,H⟩:=h;obtain⟨c,d,i,g,m,o⟩:=s.drop Cj mmap (Cm n I) u;have t:(k.filter fun p=> !p.1.sameKey (.int .u64 n)).Perm ((l.filter fun y=> !decide (y.1=n)).map en):=by refine(F.filter _).trans ?_;rw[qoe];refine .of_eq ?_;refine congrArg (List.map en) (List.filter_congr fun x _=>?_);show(!(Lit.int .u64 x.1).sameKey (.int .u64 n))=_;rw[h_];exact congrArg (!·) (decide_eq_decide.2 aj)
 refine⟨c,i,⟨_,(fun x=>v x&& !x.sameKey (.int .u64 n)),d,?_,t,fun z j=>?_,fun z j=>?_⟩,by rw[g.left_eq,s.left_eq];exact m,o.grown⟩;·have e:=t.length_eq;rw[qmc]at e;obtain⟨B,A,L,K,J,C,D,M,f,E⟩:=g;refine⟨B,A,L,K,J,C,D,?_,f,E⟩;rw[<-e];have:(DataW.map k).del (.int .u64 n)=.map (k.filter fun p=> !p.1.sameKey (.int .u64 n)):=rfl;rw[this]at f;injection f with f;rw[f,length_sorted];simp
 ·have q:=(qm4.1 j).1;rw[qmg,G z q,qm4,h_];constructor;·rintro⟨a,b⟩;refine⟨a,?_⟩;simp at b ⊢;omega
  ·rintro⟨a,b⟩;refine⟨a,?_⟩;simp at b ⊢;omega
 ·rw[qm4]at j ⊢;exact⟨H z j.1,j.2⟩
end Go.Proofs.YtphbledmopchnaaGreatDoor.Sd
namespace Go.Proofs.YtphbledmopchnaaGreatDoor.Sd
open Go.RowKit Go.Lib Mm Tryz
variable {S o:Nat}{l:bJ}{w:Wq}
def aF{p:Prop}(h:p):Hid p:=h
def yx{a b:Int}(h:a=b):fB (uZ a)=.returned (uZ b):=by rw[h]
def dK{a b:Bool}(h:a=b):fB (.bool a)=.returned (.bool b):=by rw[h]
def JF{g:Gn}(b:Nat)(w:Wq)(c:aL w S TS l)(h:wU l o g)(f:g.ahead<=4096)(d:b<=dH):qH 309 #[aJ S o,uZ b] w (uZ (g.jS b:Int)) fun k=>k=w:=by
 have n:w.cell? (ay S o)=some (uZ g.ahead):=by rw[c.cell];exact h.c0
 obtain⟨m,j,a⟩:=min2 (b+g.ahead) 4611686018427387903;have e:Hid (g.jS b=m):=by unfold Hid;rw[a];rfl
 generalize g.jS b=L at *
 generalize g.ahead=A at *
 unfold dH at d;have i:(b+A:Nat)<18446744073709551616:=aj;clear h c a d f;rw[qpy,show((4611686018427387903:Nat):Int)=4611686018427387903 from rfl]at j;go_enter func309,ntmps309;go_wp2;go_ret;exact⟨yx (by rw[e.out]),rfl⟩
def JG{g:Gn}(a:Nat)(w:Wq)(c:aL w S TS l)(h:wU l o g)(i:g.ahead<=4096)(f:a<=dH):qH 251 #[aJ S o,uZ a] w (.bool (g.bD a)) fun j=>∃q,j=w.drewN q:=by
 have k:w.cell? (ay S (o+2))=some (uZ g.gK):=by rw[c.cell];exact h.c2
 have n:w.cell? (ay S (o+3))=some (uZ g.aP):=by rw[c.cell];exact h.c3
 have e:=aF (fun q=>JF a (w.drewN q) c h i f);have d:Hid (g.bD a=decide (max g.gK g.aP<g.jS a)):=rfl;obtain⟨m,p,b⟩:=max2 g.gK g.aP;rw[<-b]at d;generalize g.bD a=B at *
 generalize g.jS a=L at *
 clear h c b;go_enter func251,ntmps251;go_wp2;go_quiet ((go_at_call 309;exact qn6 (e.out _)));go_wp2;go_ret;exact⟨dK (by rw[d.out,decide_eq_decide]<;>omega),nq,rfl⟩
def Fj{g:Gn}(e:Nat)(a:aL w S TS l)(h:wU l o g):qH 296 #[aJ S o,uZ e] w (.bool (decide (e<=g.dX))) fun b=>b=w:=by
 have c:w.cell? (ay S (o+1))=some (uZ g.dX):=by rw[a.cell];exact h.c1
 clear h a;go_enter func296,ntmps296;go_wp2;go_ret;exact⟨dK (by rw[decide_eq_decide]),rfl⟩
def Pt(o:Nat)(g:Gn)(a:aL w S TS l)(h:wU l o g):qH 397 #[aJ S o] w (.tuple #[]) fun d=>∃b,f_ w d S l b o 4/\wU b o g.kV:=by
 have e:w.cell? (ay S (o+2))=some (uZ g.gK):=by rw[a.cell];exact h.c2
 have f2:=a.frozen (o+2);have c:Hid (f_ w (w.setCell (ay S (o+2)) (uZ 0)) S l (l.set (o+2) (uZ 0)) o 4/\wU (l.set (o+2) (uZ 0)) o g.kV):=
  ⟨f_.one a _ _ _ _ aj aj,by rw[aA _ _ _ _ aj,h.c0];rfl,by rw[aA _ _ _ _ aj,h.c1];rfl,cB _ _ _ _ h.c2,by rw[aA _ _ _ _ aj,h.c3];rfl⟩
 clear h a;go_enter func397,ntmps397;go_wp2;go_end0;exact⟨rfl,_,c.out⟩
def Gn.st(S o:Nat)(g:Gn)(w:Wq)(l:bJ)(a:aL w S TS l)(h:wU l o g):(∀x:Nat,f_ w (w.setCell (ay S (o+1)) (uZ x)) S l (l.set (o+1) (uZ x)) o 4/\wU (l.set (o+1) (uZ x)) o {g with dX:=x})/\(∀x:Nat,f_ w (w.setCell (ay S (o+2)) (uZ x)) S l (l.set (o+2) (uZ x)) o 4/\wU (l.set (o+2) (uZ x)) o {g with gK:=x})/\(∀x:Nat,f_ w (w.setCell (ay S (o+3)) (uZ x)) S l (l.set (o+3) (uZ x)) o 4/\wU (l.set (o+3) (uZ x)) o {g with aP:=x}):=
 ⟨fun x=>⟨f_.one a _ _ _ _ aj aj,by rw[aA _ _ _ _ aj,h.c0],cB _ _ _ _ h.c1,by rw[aA _ _ _ _ aj,h.c2],by rw[aA _ _ _ _ aj,h.c3]⟩,fun x=>⟨f_.one a _ _ _ _ aj aj,by rw[aA _ _ _ _ aj,h.c0],by rw[aA _ _ _ _ aj,h.c1],cB _ _ _ _ h.c2,by rw[aA _ _ _ _ aj,h.c3]⟩,fun x=>⟨f_.one a _ _ _ _ aj aj,by rw[aA _ _ _ _ aj,h.c0],by rw[aA _ _ _ _ aj,h.c1],by rw[aA _ _ _ _ aj,h.c2],cB _ _ _ _ h.c3⟩⟩
def eF(f:Fr)(r:WA):WA:=.agg #[iZ f.aD,iZ f.aG,uZ f.aC,uZ f.aN,uZ f.aT,.bool f.bG,uZ f.id,uZ f.aH,.string f.data,r]
def GL(o:Nat)(g:Gn)(f:Fr)(d:WA)(i:aL w S TS l)(h:wU l o g):qH 311 #[aJ S o,eF f d] w (.tuple #[]) fun r=>∃n,f_ w r S l n o 4/\wU n o (g.aw f.aT):=by
 obtain⟨m,t,b⟩:=max2 g.gK f.aT;have p:Hid (g.aw f.aT={g with gK:=m}):=by unfold Hid;rw[b];rfl
 obtain⟨W,c⟩:=bT (w.alloc (.cells #[iZ f.aD,iZ f.aG,uZ f.aC,uZ f.aN,uZ f.aT,.bool f.bG,uZ f.id,uZ f.aH,.string f.data,d] 65));have k:aL W w.heap.size 65 [iZ f.aD,iZ f.aG,uZ f.aC,uZ f.aN,uZ f.aT,.bool f.bG,uZ f.id,uZ f.aH,.string f.data,d]:=by rw[c];exact aL.new w 65 _
 have a:aL W S TS l:=by rw[c];exact i.alloc _
 have j:bE w W:=by rw[c];exact(qlw _ w).alloc (qj _) _
 have e:=aF ((Gn.st S o g W l a h).2.1 m);have u:W.cell? (ay w.heap.size 4)=some (uZ f.aT):=k.cell 4;have s:W.cell? (ay S (o+2))=some (uZ g.gK):=by rw[a.cell];exact h.c2
 have f2:=a.frozen (o+2);have q:=aF j;clear h i k a j b;unfold eF;go_enter func311,ntmps311;go_wp2_with fail;rw[<-c];clear c;go_region
 all_goals go_wp2
 all_goals go_end0
 all_goals exact⟨rfl,_,f_.after q.out e.out.1.drew,by rw[p.out];exact e.out.2⟩
def Pv(o:Nat)(g:Gn)(f:Fr)(d:WA)(i:aL w S TS l)(h:wU l o g):qH 396 #[aJ S o,eF f d] w (.tuple #[]) fun r=>∃n,f_ w r S l n o 4/\wU n o (g.cm f.aT):=by
 obtain⟨m,t,b⟩:=max2 g.aP f.aT;have p:Hid (g.cm f.aT={g with aP:=m}):=by unfold Hid;rw[b];rfl
 obtain⟨W,c⟩:=bT (w.alloc (.cells #[iZ f.aD,iZ f.aG,uZ f.aC,uZ f.aN,uZ f.aT,.bool f.bG,uZ f.id,uZ f.aH,.string f.data,d] 65));have k:aL W w.heap.size 65 [iZ f.aD,iZ f.aG,uZ f.aC,uZ f.aN,uZ f.aT,.bool f.bG,uZ f.id,uZ f.aH,.string f.data,d]:=by rw[c];exact aL.new w 65 _
 have a:aL W S TS l:=by rw[c];exact i.alloc _
 have j:bE w W:=by rw[c];exact(qlw _ w).alloc (qj _) _
 have e:=aF ((Gn.st S o g W l a h).2.2 m);have u:W.cell? (ay w.heap.size 4)=some (uZ f.aT):=k.cell 4;have s:W.cell? (ay S (o+3))=some (uZ g.aP):=by rw[a.cell];exact h.c3
 have f2:=a.frozen (o+3);have q:=aF j;clear h i k a j b;unfold eF;go_enter func396,ntmps396;go_wp2_with fail;rw[<-c];clear c;go_region
 all_goals go_wp2
 all_goals go_end0
 all_goals exact⟨rfl,_,f_.after q.out e.out.1.drew,by rw[p.out];exact e.out.2⟩
end Go.Proofs.YtphbledmopchnaaGreatDoor.Sd
namespace Go.Proofs.YtphbledmopchnaaGreatDoor.Sd
open Go.RowKit Go.Lib Mm Go.Maps Tryz
variable {b r:Nat}{l lf:List Nat}{w:Wq}
section
def imR(v:WA):Option (DataW WA×List MemPlace):=match v with
 |.agg a=>match a.toList with
  |[]=>some (.held (.agg #[]),[])
  |_=>none
 |_=>none
def Va:imR (.agg #[])=some (.held (.agg #[]),[]):=rfl
def Py(v:WA)(y:DataW WA×List MemPlace)(h:imR v=some y):v=.agg #[]/\y=(.held (.agg #[]),[]):=by
 unfold imR at h;split at h
 ·rename_i a;split at h
  ·rename_i b;have:a=#[]:=by cases a;simpa using b
   rw[this];exact⟨rfl,(qmn h).symm⟩
  ·cases h
 ·cases h
def ek(x:Nat):Lit×DataW WA:=(.int .u64 x,.held (.agg #[]))
def Zu:prog.underlying 206=some (.map 43 364):=bO
def xM(w:Wq)(b:Nat)(l:List Nat):Prop:=∃c,w.ownsMap prog 43 imR b l.length (.map c)/\c.Perm (l.map ek)
def Ao(w:Wq)(b r:Nat)(l lf:List Nat):Prop:=
 ∃d c e,w.ranges prog 43 imR b r l.length (.map d) c e/\d.Perm (l.map ek)/\(∀x∈l,c (.int .u64 x)=true↔x∈lf)/\(∀x∈lf,x∈l)
def xM.perm{l':List Nat}(h:xM w b l)(c:l.Perm l'):xM w b l':=by obtain⟨d,e,f⟩:=h;exact⟨d,by rw[<-c.length_eq];exact e,f.trans (c.map ek)⟩
def xM.lt{w:Wq}{b:Nat}{l:List Nat}(h:xM w b l):b<w.heap.size:=by obtain⟨d,c,_⟩:=h;exact c.lt
def xM.kept{w':Wq}(h:xM w b l)(j:w'.heap[b]?=w.heap[b]?):xM w' b l:=by obtain⟨e,⟨d,c,f,g⟩,i⟩:=h;exact⟨e,⟨d,c,j.trans f,g⟩,i⟩
def Ao.map(h:Ao w b r l lf):xM w b l:=by obtain⟨c,f,g,d,e,_⟩:=h;exact⟨c,d.owns,e⟩
def Ao.sub(h:Ao w b r l lf):∀x∈lf,x∈l:=by obtain⟨e,d,f,_,_,_,c⟩:=h;exact c
def xM.nodup(h:xM w b l):l.Nodup:=by obtain⟨i,d,f⟩:=h;obtain⟨c,e,g,_⟩:=d.entries Cj;cases e;have:=(f.pairwise_iff (fun{_ _} hne=>qna hne)).1 g;rw[qqg]at this;refine this.imp fun{x y} h e=>h ?_;show Lit.int .u64 x=Lit.int .u64 y;rw[e]
def xM.made(w:Wq):xM (w.alloc (.map #[] 0)) w.heap.size []:=⟨[],o8 _ _ _ _,.refl _⟩
def xM.put(h:xM w b l)(q:l.length<1000000)(x:Nat)(m:x<18446744073709551616)(j:x∉l):∃c,(qp 206 (.map (some b)) (.int .u64 x) (.agg #[])).run prog w=.ok () c/\xM c b (x::l)/\w.grownBy c (some b):=by
 obtain⟨d,i,f⟩:=h;obtain⟨c,r,o,g⟩:=i.update Cj Zu (by unfold maxLen;omega) (Cm x m) Va;refine⟨c,r,⟨_,o,?_⟩,g⟩;refine(WideShapes.insert_perm _ _).trans ?_;have e:d.filter (fun p=> !p.1.sameKey (.int .u64 x))=d:=by refine qo4.2 fun p k=>?_;obtain⟨y,n,rfl⟩:=qmk.1 (f.mem_iff.1 k);show(!(Lit.int .u64 y).sameKey (.int .u64 x))=true;rw[h_];have:y≠x:=fun e=>j (by rw[<-e];exact n);simp;omega
 rw[e];exact f.cons _
def xM.look(h:xM w b l)(x:Nat)(k:x<18446744073709551616):(Instr.lookup 206 (.map (some b)) (.int .u64 x) true).run prog w=.ok (.tuple #[.agg #[],.bool (decide (x∈l))]) w:=by
 obtain⟨f,g,d⟩:=h;obtain⟨v,m,r,e⟩:=g.look_ok Cj Zu (z:=.agg #[]) bO Va (Cm x k);obtain⟨rfl,_⟩:=Py _ _ e;suffices hh:Maps.has (DataW.map f) (.int .u64 x)=decide (x∈l) by rw[r,hh]
 rw[fE];refine qpn.2 ?_;rw[qo5,decide_eq_true_eq];constructor
 ·rintro⟨p,i,j⟩;obtain⟨y,c,rfl⟩:=qmk.1 (d.mem_iff.1 i);have:(Lit.int .u64 y).sameKey (.int .u64 x)=true:=j;rw[h_]at this;have:y=x:=by simp at this;omega
  rw[<-this];exact c
 ·exact fun c=>⟨ek x,d.mem_iff.2 (qqc c),qqe (by trivial)⟩
def xM.range{w:Wq}{b:Nat}{l:List Nat}(h:xM w b l):∃c,(tC 206 (.map (some b))).run prog w=.ok (aJ w.heap.size 0) c/\Ao c b w.heap.size l l/\w.grownBy c none/\c.heap.size=w.heap.size+1:=by obtain⟨f,i,e⟩:=h;obtain⟨c,r,o,g,z⟩:=i.range Cj Zu;refine⟨c,r,⟨f,_,_,o,e,fun x d=>⟨fun _=>d,fun _=>?_⟩,fun x d=>d⟩,g,z⟩;rw[fE];exact qo5.2 ⟨ek x,e.mem_iff.2 (qqc d),qqe (by trivial)⟩
def Ao.next{w:Wq}{b r:Nat}{l lf:List Nat}(h:Ao w b r l lf)(m:Vg):(lf=[]/\(nI (aJ r 0) false m).run prog w=.ok (.tuple #[.bool false]) w)\/∃x d,x∈lf/\x<18446744073709551616/\(nI (aJ r 0) false m).run prog w=.ok (.tuple #[.bool true,.int .u64 x,(.agg #[])]) d/\Ao d b r l (lf.filter fun y=> !decide (y=x))/\d.rangeLeft b r<w.rangeLeft b r/\w.grownBy d (some r)/\d.heap.size=w.heap.size/\(mK (aJ r 0)).run prog d=.ok (.tuple #[.int .u64 x,(.agg #[])]) d:=by
 obtain⟨u,G,H,n,q,f,s⟩:=h;rcases n.next Cj m with⟨_,C,c⟩|⟨key,v,kl,y,d,cnt',hkey,hlk,hv,hat,c,hrg,hlt,hgr,gT,hen⟩
 ·refine .inl ⟨?_,c⟩;cases lf with
  |nil=>rfl
  |cons x t=>have:=(f x (s x aM)).2 aM;rw[C]at this;cases this
 ·obtain⟨k,rfl,rfl,g⟩:=oN underlying43 hkey;obtain⟨rfl,rfl⟩:=Py v y hv;have e:=mR hat;rw[fE]at e;obtain⟨p,D,E⟩:=qo5.1 e;obtain⟨x,F,rfl⟩:=qmk.1 (q.mem_iff.1 D);have B:(x:Int)=k:=by
   have:(Lit.int .u64 x).sameKey (.int .u64 k)=true:=E;rw[h_]at this;simpa using this
  subst B;have i:x∈lf:=(f x F).1 hlk;have A:x<18446744073709551616:=by simp[Lit.wf,IntKind.min,IntKind.max,IntKind.signed,IntKind.bits]at g;omega
  refine .inr ⟨x,d,i,A,c,⟨u,_,cnt',hrg,q,fun z j=>?_,fun z j=>s z (qm4.1 j).1⟩,by rw[hrg.left_eq,n.left_eq];exact hlt,hgr,gT,hen⟩;rw[qmg,f z j,qm4,h_];constructor;·rintro⟨a,b⟩;refine⟨a,?_⟩;simp at b ⊢;omega
  ·rintro⟨a,b⟩;refine⟨a,?_⟩;simp at b ⊢;omega
def Ao.del{w:Wq}{b r:Nat}{l lf:List Nat}(h:Ao w b r l lf)(n:Nat)(J:n<18446744073709551616)(v:Vg):∃c,(qd #[206,43] v #[.map (some b),.int .u64 n]).run prog w=.ok (.tuple #[]) c/\Ao c b r (l.filter fun y=> !decide (y=n)) (lf.filter fun y=> !decide (y=n))/\c.rangeLeft b r<=w.rangeLeft b r/\w.grownBy c (some b):=by
 obtain⟨k,A,O,t,G,H,I⟩:=h;obtain⟨c,d,i,g,m,q⟩:=t.drop Cj Zu (Cm n J) v;have u:(k.filter fun p=> !p.1.sameKey (.int .u64 n)).Perm ((l.filter fun y=> !decide (y=n)).map ek):=by refine(G.filter _).trans ?_;rw[qoe];refine .of_eq ?_;refine congrArg (List.map ek) (List.filter_congr fun x _=>?_);show(!(Lit.int .u64 x).sameKey (.int .u64 n))=_;rw[h_];exact congrArg (!·) (decide_eq_decide.2 aj)
 refine⟨c,i,⟨_,(fun x=>A x&& !x.sameKey (.int .u64 n)),d,?_,u,fun z j=>?_,fun z j=>?_⟩,by rw[g.left_eq,t.left_eq];exact m,q.grown⟩;·have e:=u.length_eq;rw[qmc]at e;obtain⟨C,B,M,L,K,D,E,N,f,F⟩:=g;refine⟨C,B,M,L,K,D,E,?_,f,F⟩;rw[<-e];have:(DataW.map k).del (.int .u64 n)=.map (k.filter fun p=> !p.1.sameKey (.int .u64 n)):=rfl;rw[this]at f;injection f with f;rw[f,length_sorted];simp
 ·have s:=(qm4.1 j).1;rw[qmg,H z s,qm4,h_];constructor;·rintro⟨a,b⟩;refine⟨a,?_⟩;simp at b ⊢;omega
  ·rintro⟨a,b⟩;refine⟨a,?_⟩;simp at b ⊢;omega
 ·rw[qm4]at j ⊢;exact⟨I z j.1,j.2⟩
section
variable (w:Wq) {ops:Array Oper} {rest:List Oper} {o:Oper} {a:Act} {Q:Exit->Act->Wq->Prop}
def Bl(i:o.guard=none)(m:Operand)(f:o.op=Op.range 206 m)(b:Nat)(l:List Nat)(j:a.eval m=.map (some b))(h:xM w b l)(g:∀c,Ao c b w.heap.size l l->w.grownBy c none->c.heap.size=w.heap.size+1->wpList prog ops Q rest (a.put o.dst (aJ w.heap.size 0)) c):wpList prog ops Q (o::rest) a w:=by refine wpList_plain i fun q e=>?_;obtain⟨c,d,k,n,p⟩:=h.range;unfold rF;simp[execOp,f,j,d,Result.andThen];exact e _ _ (g c k n p)
def Cn(m:o.guard=none)(j:Operand)(i:o.op=Op.next j false)(b r:Nat)(l lf:List Nat)(hit:a.eval j=(aJ r 0))(h:Ao w b r l lf)(e:lf=[]->wpList prog ops Q rest (a.put o.dst (.tuple #[.bool false])) w)(f:∀(x:Nat) (d:Wq),x∈lf->x<18446744073709551616->Ao d b r l (lf.filter fun y=> !decide (y=x))->d.rangeLeft b r<w.rangeLeft b r->w.grownBy d (some r)->d.heap.size=w.heap.size->(mK (aJ r 0)).run prog d=.ok (.tuple #[.int .u64 x,(.agg #[])]) d->wpList prog ops Q rest (a.put o.dst (.tuple #[.bool true,.int .u64 x,(.agg #[])])) d):wpList prog ops Q (o::rest) a w:=by
 refine wpList_plain m fun n g=>?_;unfold rF;rcases h.next o.type with⟨k,c⟩|⟨x,d,h1,h2,c,h3,h4,h5,h6,h7⟩;·simp[execOp,i,hit,c,Result.andThen];exact g _ _ (e k)
 ·simp[execOp,i,hit,c,Result.andThen];exact g _ _ (f x d h1 h2 h3 h4 h5 h6 h7)
def zG(i:o.guard=none)(m x:Operand)(f:o.op=Op.call {callee:=Callee.builtin Builtin.delete,args:=#[m,x],argTypes:=#[206,43]})(b r:Nat)(l lf:List Nat)(j:a.eval m=.map (some b))(h:Ao w b r l lf)(n:Nat)(p:a.eval x=.int .u64 n)(k:n<18446744073709551616)(g:∀c,Ao c b r (l.filter fun y=> !decide (y=n)) (lf.filter fun y=> !decide (y=n))->c.rangeLeft b r<=w.rangeLeft b r->w.grownBy c (some b)->wpList prog ops Q rest (a.put o.dst (.tuple #[])) c):wpList prog ops Q (o::rest) a w:=by refine wpList_plain i fun u e=>?_;obtain⟨c,d,q,s,t⟩:=h.del n k o.type;unfold rF;simp[execOp,f,resolve,invoke,builtin,j,p,d,Result.andThen];exact e _ _ (g c q s t)
def zH(k:o.guard=none)(m x v:Operand)(g:o.op=Op.mapUpdate 206 m x v)(b:Nat)(l:List Nat)(p:a.eval m=.map (some b))(h:xM w b l)(n:l.length<1000000)(e:Nat)(s:a.eval x=.int .u64 e)(r:a.eval v=.agg #[])(j:e<18446744073709551616)(q:e∉l)(i:∀d,xM d b (e::l)->w.grownBy d (some b)->wpList prog ops Q rest (a.put o.dst undef) d):wpList prog ops Q (o::rest) a w:=by refine wpList_plain k fun y f=>?_;obtain⟨d,c,t,u⟩:=h.put n e j q;unfold rF;simp[execOp,g,p,s,r,c,Result.andThen];exact f _ _ (i d t u)
end


end
end Go.Proofs.YtphbledmopchnaaGreatDoor.Sd
namespace Go.Proofs.YtphbledmopchnaaGreatDoor.Sd
open Go.RowKit Go.Lib Mm Tryz
variable {a e:Option V3}{t:Vg}{w w':Wq}
abbrev fJ(f:Fr)(a:WA):bJ:=[iZ f.aD,iZ f.aG,uZ f.aC,uZ f.aN,uZ f.aT,.bool f.bG,uZ f.id,uZ f.aH,.string f.data,a]
abbrev lY:bJ:=[iZ 0,iZ 0,uZ 0,uZ 0,uZ 0,.bool false,uZ 0,uZ 0,.string ⟨#[]⟩,nZ]
def GY{b:Nat}{f:Fr}{d:Option V3}{e:Nat}(c:aL w b t (fJ f (.slice d f.ranges.length e)))(a:lX f)(g:jA w d f.ranges):nQ w b 0 f d e:=
 ⟨c.cell 0,c.cell 1,c.cell 2,c.cell 3,c.cell 4,c.cell 5,c.cell 6,c.cell 7,c.cell 8,c.cell 9,g,a.Bb,a.Bc,a.k0,a.s0,a.u0⟩
structure EJ (w:Wq) (f:Fr) (ra:Option V3) (rc:Nat):Prop where
 snd:snd f=true
 ok:lX f
 qO:jA w ra f.ranges
 cap:f.ranges.length<=rc
 lt:∀x,ra=some x->x.block<w.heap.size
 len:(aX f).length<=1000000
def EJ.below{w w':Wq}{f:Fr}{b:Option V3}{c:Nat}(h:EJ w f b c)(a:bE w w'):EJ w' f b c:=
 ⟨h.snd,h.ok,h.qO.below a,h.cap,fun x d=>qm9 (h.lt x d) a.size,h.len⟩
def rT(f:Fr)(z:Option V3)(A:Nat)(w:Wq)(h:EJ w f z A):qH 210 #[eF f (.slice z f.ranges.length A)] w (iZ ((aX f).length:Int)) fun l=>bE w l:=by
 obtain⟨W,t⟩:=bT (w.alloc (.cells (fJ f (.slice z f.ranges.length A)).toArray 65));have E:aL W w.heap.size 65 (fJ f (.slice z f.ranges.length A)):=by rw[t];exact aL.new w 65 _
 have i:bE w W:=by rw[t];exact(qlw _ w).alloc (qj _) _
 have Y:W.heap.size=w.heap.size+1:=by rw[t];simp
 have b:=h.below i;have hF:=GY E b.ok b.qO;obtain⟨_,v,J,_⟩:=sI f h.snd;have V:W.cell? (ay w.heap.size 0)=some (iZ f.aD):=E.cell 0;have L:=aF (sJ _ v J W);have y:∀(d:Wq) (p C:WA),Jv (W.heap.size+1) d f.aD p C->bE W d->∃g k,p=.func (.func g) #[] k/\(∀args w,(callFunc g args).run prog w=.ok (.enter g args) w)/\WB prog g (#[nZ,aJ w.heap.size 0]++k) d fun e l=>∃a c,e=.returned (.slice a (aX f).length c)/\bE w l:=by
  intro d p C s m;obtain⟨g,k,O,P,Q⟩:=Pd f s h.snd w.heap.size 0 z A h.cap;refine⟨g,k,O,P,?_⟩;have U:=m.size;have Z:=h.len;refine(Q d nZ [] ⟨⟨qj _,fun _ _ _=>rfl⟩,lG.nil d,fun j T=>by simp[eT]at T,hF.below m,by simp[eT],fun x I=>by simp[eT],fun x I=>bR (b.lt x I)⟩ rR).mono ?_;rintro e l ⟨v',rfl,q,D⟩;rw[qmq]at q;have u:bE w l:=(i.trans (m.mono aj)).trans (D.below (Own.nil _) aj);rcases q with⟨rfl,R⟩|⟨g',cap,cs,rfl,_⟩;·exact⟨none,0,by rw[R];rfl,u⟩
  ·exact⟨_,_,rfl,u⟩
 have o:=aF y;clear y E i b hF h v J;generalize (aX f).length=n at *
 unfold eF;unfold fJ at t;go_enter func210,ntmps210;go_wp2_with fail;rw[<-t];refine L.out.mono ?_;rintro e d ⟨p,C,rfl,s,m⟩;obtain⟨_,_,N,M,_,F⟩:=s.shape;subst F;obtain⟨g,k,G,X,H⟩:=o.out d p _ s m;subst G;have K:=aF H;have S:=qgb g N k M;clear H s m o;go_wp2_with fail;refine K.out.mono ?_;rintro e l ⟨a,c,rfl,r⟩;have B:=aF r;clear r;go_wp2;go_ret;exact⟨rfl,B.out⟩
def Cr(n:Nat)(w:Wq)(i:n<4611686018427387904):WB prog 211 #[nZ,uZ n] w fun e g=>∃a c,e=.returned (.slice a (Num.aB n).length c)/\bE w g:=by
 refine(fq nZ [] n (lG.nil w) i aM).mono ?_;rintro e g ⟨j,rfl,b,f⟩;rw[qmq]at b;have d:bE w g:=f.below (Own.nil _) (qj _);rcases b with⟨rfl,h⟩|⟨g',cap,cs,rfl,_⟩;·exact⟨none,0,by rw[h];rfl,d⟩
 ·exact⟨_,_,rfl,d⟩
def gL{a b:Int}(h:a=b):fB (iZ a)=.returned (iZ b):=by rw[h]
def gJ(n:Nat):1<=(Num.aB n).length/\(Num.aB n).length<=8:=by
 rw[Num.iQ];unfold Num.code;repeat' split
 all_goals decide
def Vj(b n:Nat)(w:Wq)(r:b<=400)(j:n<4611686018427387904):qH 157 #[iZ b,uZ n] w (iZ ((b:Int)-((Num.aB n).length:Int)-4)) fun f=>bE w f:=by
 have i:=aF (Cr n w j);have q:=gJ n;generalize (Num.aB n).length=k at *
 have l:(b:Int)-(k:Int)<9223372036854775808:=aj;have m: -9223372036854775808<=(b:Int)-(k:Int):=aj;have o:(b:Int)-(k:Int)-4<9223372036854775808:=aj;have p: -9223372036854775808<=(b:Int)-(k:Int)-4:=aj;go_enter func157,ntmps157;go_wp2_with fail;refine i.out.mono ?_;rintro e f ⟨a,c,rfl,d⟩;have g:=aF d;clear d;go_wp2;go_ret;exact⟨rfl,g.out⟩
def Vk(l:List UInt8)(c:Nat)(h:dG w a l)(e:a=none->l=[]):(convert 60 9 (.slice a l.length c)).run prog w=.ok (.string ⟨l.toArray⟩) w:=by
 cases a with
 |none=>obtain rfl:=e rfl;show(convert 60 9 (.slice none 0 c)).run prog w=_;rw[run_convert_bytes_string w 60 9 5 none 0 c u29 bO u9];simp[Conv.bytesToString];rfl
 |some x=>exact run_convert_bytes_back (P:=prog) w 60 9 5 x c l u29 bO u9 (fun j f=>by obtain⟨b,i,g,d⟩:=h j f;cases g;rw[qmb];exact d)
def bC{y:Wq}{R:Nat}{a b c d e f g i k l:WA}(h:aL y R t [a,b,c,d,e,f,g,i,k,l]):y.cell? (ay R 0)=some a/\y.cell? (ay R 1)=some b/\y.cell? (ay R 2)=some c/\y.cell? (ay R 3)=some d/\y.cell? (ay R 4)=some e/\y.cell? (ay R 5)=some f/\y.cell? (ay R 6)=some g/\y.cell? (ay R 7)=some i/\y.cell? (ay R 8)=some k/\y.cell? (ay R 9)=some l/\∀j,y.frozen? (ay R j)=false:=
 ⟨h.cell 0,h.cell 1,h.cell 2,h.cell 3,h.cell 4,h.cell 5,h.cell 6,h.cell 7,h.cell 8,h.cell 9,fun j=>h.frozen j⟩
def kF(x:Option Fr):WA:=match x with
 |none=>.tuple #[eF iL nZ,.bool false]
 |some g=>.tuple #[eF g nZ,.bool true]
def dG.take{w:Wq}{a:Option V3}{l:List UInt8}(h:dG w a l)(n:Nat):dG w a (l.take n):=fun j f=>by obtain⟨b,c,d,e⟩:=h j (by simp at f;omega);exact⟨b,c,d,by rw[e];simp⟩
def dG.below'{l:List UInt8}(h:dG w a l)(f:bE w w'):dG w' a l:=fun j g=>by obtain⟨b,c,e,d⟩:=h j g;exact⟨b,c,e,(f.cell (p:=(ay b (c+j))) (qmf _ _ d)).trans d⟩
def JX(f:Fr)(a:Option V3)(p:List UInt8)(c:Nat)(m:Int)(w:Wq)(hF:EJ w f none 0)(hr:f.ranges=[])(hb:dG w a p)(hn:a=none->p=[])(hl:p.length<=4096)(h3:p.length<=c)(u: -1000000<=m/\m<=1000000):qH 316 #[eF f nZ,.slice a p.length c,iZ m] w (kF (pI f p m)) fun w'=>bE w w':=by
 obtain⟨W,q⟩:=bT ((w.alloc (.cells (fJ f nZ).toArray 65)).alloc (.cells (lY).toArray 65));have i:aL W w.heap.size 65 (fJ f nZ):=by rw[q];exact(aL.new w 65 _).alloc _
 have l:aL W (w.heap.size+1) 65 lY:=by rw[q];have:=aL.new (w.alloc (.cells (fJ f nZ).toArray 65)) 65 lY;rwa[qmx]at this
 have g:bE w W:=by rw[q];exact((qlw _ w).alloc (qj _) _).alloc aM _
 have gT:W.heap.size=w.heap.size+2:=by rw[q];simp
 have hS:=rT f none 0 W (hF.below g);rw[hr]at hS;have K:=aF hS;have F:=hF.len;have x:Hid (pI f p m=if m<((aX f).length:Int)then none else some {f with data:=⟨(p.take (min (min p.length (m-((aX f).length:Int)).toNat) ((m-((aX f).length:Int)).toNat-((Num.aB (min p.length (m-((aX f).length:Int)).toNat)).length-1)))).toArray⟩}):=rfl;generalize pI f p m=X at *
 generalize (aX f).length=n at *
 obtain⟨x0,x1,x2,x3,x4,x5,x6,x7,x8,x9,xf⟩:=bC i;have J:=aF (dw i (dw l g));clear i l g hF hS;have r1: -9223372036854775808<=m-(n:Int):=aj;have r2:m-(n:Int)<9223372036854775808:=aj;by_cases t:m<(n:Int)
 ·have HX:Hid (X=none):=by unfold Hid;rw[x.out,bM t]
  have g1:m-(n:Int)<0:=aj;clear x t;unfold eF;unfold fJ lY at q;go_enter func316,ntmps316;go_wp2_with fail;rw[<-q];refine bH K.out ?_;rintro y o;obtain⟨i,l,g⟩:=J.out;have b:=l.of_heap (o.block _ aj);obtain⟨y0,y1,y2,y3,y4,y5,y6,y7,y8,y9,yf⟩:=bC b;have I:=aF (dw b (g.trans (o.mono aj)));clear o i l g b q;go_wp2_with fail;rw[gq];have jX:=fK I.out.1 (iZ 0) (iZ 0) (uZ 0) (uZ 0) (uZ 0) (.bool false) (uZ 0) (uZ 0) (.string ⟨#[]⟩) nZ;have nX:=fM y (w.heap.size+1) (iZ 0) (iZ 0) (uZ 0) (uZ 0) (uZ 0) (.bool false) (uZ 0) (uZ 0) (.string ⟨#[]⟩) nZ;generalize jI y (w.heap.size+1) (iZ 0) (iZ 0) (uZ 0) (uZ 0) (uZ 0) (.bool false) (uZ 0) (uZ 0) (.string ⟨#[]⟩) nZ=Wf at *
  obtain⟨L,M,N,O,P,Q,R,S,T,U,_⟩:=bC jX;exact Vl (v:=kF X) (by rw[HX.out];simp[results,results316,go_sem,L,M,N,O,P,Q,R,S,T,U,eF,kF,iL]) rfl ⟨rfl,nX.below I.out.2 aj⟩
 ·obtain⟨r,h5⟩:∃r:Nat,m-(n:Int)=r:=⟨(m-(n:Int)).toNat,aj⟩;have G:(m-(n:Int)).toNat=r:=aj;rw[aV t,G]at x;obtain⟨m1,ha,h7⟩:=Pp (p.length:Int) (m-(n:Int));obtain⟨k,hk⟩:=bT (min p.length r:Nat);obtain rfl:m1=(k:Int):=aj;have h0:=gJ k;have h2:(Num.aB k).length=1\/64<=k:=by
   by_cases V:k<64;·left;rw[Num.iQ];unfold Num.code;rw[bM V]
   ·exact .inr aj
  have HN:=fun y=>aF (Cr k y aj);rw[<-hk]at x;generalize (Num.aB k).length=d at *
  obtain⟨m2,hc,h8⟩:=Pp (k:Int) (m-(n:Int)-((d:Int)-1));obtain⟨j,hj⟩:=bT (min k (r-(d-1)):Nat);obtain rfl:m2=(j:Int):=aj;rw[<-hj]at x;have C:Hid (∀y,bE w y->(convert 60 9 (.slice a j c)).run prog y=.ok (.string ⟨(p.take j).toArray⟩) y):=fun y hy=>by have h4:(p.take j).length=j:=rR;have:=Vk (p.take j) c (dG.below' (dG.take hb j) hy) (fun e=>by rw[hn e];simp);rwa[h4]at this
  generalize (⟨(p.take j).toArray⟩:ByteArray)=D at *
  have g1:¬(m-(n:Int)<0):=aj;have g2:(j:Int)<=(c:Int):=aj;have g3:(j:Int)<=(p.length:Int):=aj;have g4: -9223372036854775808<=m-(n:Int)-((d:Int)-1):=aj;have g5:m-(n:Int)-((d:Int)-1)<9223372036854775808:=aj;have g6: -9223372036854775808<=(d:Int)-1:=aj;have g7:(d:Int)-1<9223372036854775808:=aj;have g8:k<18446744073709551616:=aj;clear h5 t G h0 hl h3 u F h7 h8 hk hj h2 hb hn;unfold eF;unfold fJ lY at q;go_enter func316,ntmps316;go_wp2_with fail;rw[<-q];refine bH K.out ?_;rintro y o;obtain⟨i,l,g⟩:=J.out;have A:=i.of_heap (o.block _ aj);have b:=l.of_heap (o.block _ aj);have H:=g.trans (o.mono aj);have E:=HN y;have I:=aF (dw A (dw b H));have h6:=o.size;clear o i l g A b H K HN q x0 x1 x2 x3 x4 x5 x6 x7 x8 x9 xf J;go_wp2_with fail;refine E.out.mono ?_;rintro e z ⟨a',c',rfl,s⟩;obtain⟨i,l,g⟩:=I.out;have A:=i.of_heap (s.block _ aj);have b:=l.of_heap (s.block _ aj);have sN:=g.trans (s.mono aj);have h9:=C.out z sN;obtain⟨x0,x1,x2,x3,x4,x5,x6,x7,x8,x9,xf⟩:=bC A;obtain⟨y0,y1,y2,y3,y4,y5,y6,y7,y8,y9,yf⟩:=bC b;have B:=aF (dw A (dw b sN));clear s i l g A b sN C E I h6;go_wp2_with fail;rw[gq];have Y:=B.out.2.1.of_heap (qmd z (ay w.heap.size 8) (.string D) (w.heap.size+1) aM);have Z:bE w (z.setCell (ay w.heap.size 8) (.string D)):=((l6.refl w.heap.size z).set 8 (.string D)).below B.out.2.2 (qj _);have jX:=fK Y (iZ f.aD) (iZ f.aG) (uZ f.aC) (uZ f.aN) (uZ f.aT) (.bool f.bG) (uZ f.id) (uZ f.aH) (.string D) nZ;have nX:=fM (z.setCell (ay w.heap.size 8) (.string D)) (w.heap.size+1) (iZ f.aD) (iZ f.aG) (uZ f.aC) (uZ f.aN) (uZ f.aT) (.bool f.bG) (uZ f.id) (uZ f.aH) (.string D) nZ;generalize jI (z.setCell (ay w.heap.size 8) (.string D)) (w.heap.size+1) (iZ f.aD) (iZ f.aG) (uZ f.aC) (uZ f.aN) (uZ f.aT) (.bool f.bG) (uZ f.id) (uZ f.aH) (.string D) nZ=Wf at *
  obtain⟨L,M,N,O,P,Q,R,S,T,U,_⟩:=bC jX;exact Vl (v:=kF X) (by rw[x.out];simp[results,results316,go_sem,L,M,N,O,P,Q,R,S,T,U,eF,kF]) rfl ⟨rfl,nX.below Z aj⟩
def lK(n:Nat):(Num.aB n).length<=8:=(gJ n).2
def wZ(w:Wq)(f:Fr)(c:snd f=true)(b:f.ranges=[])(g:f.data.size<=4096)(d:(aX f).length<=1000000):EJ w f none 0:=by
 obtain⟨⟨p,q,k,l,m,n,o⟩,h,i,_⟩:=sI f c;unfold dH at *
 exact⟨c,⟨by rw[b];simp,aj,aj,aj,aj,fun j a=>by rw[b]at a;simp at a⟩,fun j a=>by rw[b]at a;simp at a,by rw[b];simp,(fun x e=>by cases e),d⟩
def Zy(w:Wq)(aD:Int)(a:aD=5\/aD=6)(k:Nat)(f:k<8)(x:Nat)(c:x<=dH):EJ w (lW aD k x) none 0:=by
 have b:(0:Nat)<=dH:=gP;refine wZ w _ ?_ rfl (by show(0:Nat)<=4096;decide) ?_;·rcases a with rfl|rfl<;>simp[snd,qy,ny,lW,c,b]<;>omega
 ·have d:=lK k;have e:=lK x;rcases a with rfl|rfl;·simp[aX,dz,lW,dR,dx,fieldAt];omega
  ·simp[aX,dz,lW,dR,dx,fieldAt];omega
abbrev grL(aD:Int)(k:Nat)(x:Int):bJ:=[iZ aD,iZ k,uZ 0,uZ 0,uZ x,.bool false,uZ 0,uZ 0,.string ⟨#[]⟩,nZ]
def PD{S o:Nat}{g:Gn}(aD:Int)(hk:aD=5\/aD=6)(k:Nat)(h8:k<8)(p:Nat)(q:Int)(w:Wq){l:bJ}(F:aL w S TS l)(h:wU l o g)(hg:g.ahead<=4096)(hf:p<=dH):WB prog 254 #[aJ S o,eF (lW aD k 0) nZ,uZ p,iZ q] w fun e w'=>
   e=.returned (kF ((g.next aD k p q).map nL))/\∃Q,f_ w w' S l Q o 4/\wU Q o (((g.next aD k p q).map Prod.snd).getD g):=by
 obtain⟨L,H⟩:=bT (g.jS p);have I:L<=dH:=by rw[H];unfold Gn.jS;omega
 obtain⟨W,m⟩:=bT ((w.alloc (.cells (grL aD k 0).toArray 65)).alloc (.cells (lY).toArray 65));have r:aL W w.heap.size 65 (grL aD k 0):=by rw[m];exact(aL.new w 65 _).alloc _
 have K:aL W (w.heap.size+1) 65 lY:=by rw[m];have:=aL.new (w.alloc (.cells (grL aD k 0).toArray 65)) 65 lY;rwa[qmx]at this
 have s:bE w W:=by rw[m];exact((qlw _ w).alloc (qj _) _).alloc aM _
 have gT:W.heap.size=w.heap.size+2:=by rw[m];simp
 have G:aL W S TS l:=F.of_heap (s.block _ F.lt);have t:=aF (JF p W G h hg hf);rw[<-H]at t;obtain⟨u,f⟩:=bT (W.setCell (ay w.heap.size 4) (uZ L));have j:aL u w.heap.size 65 (grL aD k L):=by rw[f];exact r.setCell 4 _
 have a:aL u (w.heap.size+1) 65 lY:=by rw[f];exact K.of_heap (qmd _ _ _ _ aM)
 have i:bE w u:=by rw[f];exact((l6.refl w.heap.size W).set 4 _).below s (qj _)
 have h0:u.heap.size=w.heap.size+2:=by rw[f];simpa using gT
 have vW:=aF (rT _ none 0 u (Zy u aD hk k h8 L I));have T:Hid (g.next aD k p q=if q<((aX (lW aD k L)).length:Int)then none else some (lW aD k L,({g with dX:=L}:Gn).aw L)):=by unfold Hid;rw[H];rfl
 generalize g.next aD k p q=X at *
 generalize hn:(aX (lW aD k L)).length=n at *
 have B:=aF (dw F (dw h H));obtain⟨x0,x1,x2,x3,x4,x5,x6,x7,x8,x9,xf⟩:=bC r;have V:=aF (dw j (dw a i));have Ct:=F.lt;clear r K s G F h j a i hg hf I H;unfold eF lW;unfold grL lY at m;by_cases O:q<(n:Int)
 ·have C:Hid (X=none):=by unfold Hid;rw[T.out,bM O]
  clear T;go_enter func254,ntmps254;go_wp2_with fail;rw[<-m];refine bH t.out ?_;rintro y rfl;obtain⟨j,a,i⟩:=V.out;obtain⟨u0,u1,u2,u3,u4,u5,u6,u7,u8,u9,uf⟩:=bC j;have Y:=aF (dw a i);clear m j a i;go_wp2_with fail;rw[<-f];refine bH vW.out ?_;rintro z b;obtain⟨a,i⟩:=Y.out;have A:=a.of_heap (b.block _ aj);have x:=i.trans (b.mono aj);obtain⟨y0,y1,y2,y3,y4,y5,y6,y7,y8,y9,yf⟩:=bC A;have P:=aF (dw A x);clear b a i A x u0 u1 u2 u3 u4 u5 u6 u7 u8 u9 uf x0 x1 x2 x3 x4 x5 x6 x7 x8 x9 xf;go_wp2_with fail;rw[gq];have jX:=fK P.out.1 (iZ 0) (iZ 0) (uZ 0) (uZ 0) (uZ 0) (.bool false) (uZ 0) (uZ 0) (.string ⟨#[]⟩) nZ;have nX:=fM z (w.heap.size+1) (iZ 0) (iZ 0) (uZ 0) (uZ 0) (uZ 0) (.bool false) (uZ 0) (uZ 0) (.string ⟨#[]⟩) nZ;generalize jI z (w.heap.size+1) (iZ 0) (iZ 0) (uZ 0) (uZ 0) (uZ 0) (.bool false) (uZ 0) (uZ 0) (.string ⟨#[]⟩) nZ=Wf at *
  obtain⟨a0,a1,a2,a3,a4,a5,a6,a7,a8,a9,_⟩:=bC jX;refine Vl (v:=kF (X.map nL)) (by rw[C.out];simp[results,results254,go_sem,a0,a1,a2,a3,a4,a5,a6,a7,a8,a9,eF,kF,iL]) rfl ⟨rfl,l,(f_.refl B.out.1 o 4).iA (nX.below P.out.2 aj),?_⟩;rw[C.out];exact B.out.2.1
 ·have C:Hid (X=some (lW aD k L,({g with dX:=L}:Gn).aw L)):=by unfold Hid;rw[T.out,aV O]
  clear T;go_enter func254,ntmps254;go_wp2_with fail;rw[<-m];refine bH t.out ?_;rintro y rfl;obtain⟨j,a,i⟩:=V.out;obtain⟨u0,u1,u2,u3,u4,u5,u6,u7,u8,u9,uf⟩:=bC j;clear m j a i;go_wp2_with fail;rw[<-f];refine bH vW.out ?_;rintro z b;obtain⟨j,a,i⟩:=V.out;have U:=j.of_heap (b.block _ aj);have A:=a.of_heap (b.block _ aj);have x:=i.trans (b.mono aj);have R:=B.out.1.of_heap (x.block _ Ct);have c:=(Gn.st S o g z l R B.out.2.1).1 L;have h6:=b.size;obtain⟨Z,J⟩:=bT (z.setCell (ay S (o+1)) (uZ L));rw[<-J]at c;have D:aL Z w.heap.size 65 _:=U.of_heap (by rw[J];exact qmd _ _ _ _ rR);have E:aL Z (w.heap.size+1) 65 _:=A.of_heap (by rw[J];exact qmd _ _ _ _ rR);have h3:Z.heap.size=z.heap.size:=by rw[J];simp
  have Ni:=aF (GL o {g with dX:=L} (lW aD k L) nZ c.1.bY c.2);have c1:z.cell? (ay S (o+1))=some (uZ g.dX):=by rw[R.cell];exact B.out.2.1.c1
  have f1:=R.frozen (o+1);obtain⟨v0,v1,v2,v3,v4,v5,v6,v7,v8,v9,vf⟩:=bC U;have h4:¬(S=w.heap.size):=aj;have h5:¬(w.heap.size=S):=aj;have P:=aF (dw D (dw E (dw c x)));clear b j a i U A x R c u0 u1 u2 u3 u4 u5 u6 u7 u8 u9 uf x0 x1 x2 x3 x4 x5 x6 x7 x8 x9 xf D E;go_wp2_with fail;rw[<-J];refine bH Ni.out ?_;rintro y ⟨Q,d,M⟩;obtain⟨D,E,c,N⟩:=P.out;have Vn:=d.other D aj;have Nj:=d.other E aj;obtain⟨x0,x1,x2,x3,x4,x5,x6,x7,x8,x9,xf⟩:=bC Vn;obtain⟨y0,y1,y2,y3,y4,y5,y6,y7,y8,y9,yf⟩:=bC Nj;have HY:=aF (dw Nj (dw (f_.after N (c.1.trans d)) M));clear d M D E c N Vn Nj v0 v1 v2 v3 v4 v5 v6 v7 v8 v9 vf;go_wp2_with fail;rw[gq];have jX:=fK HY.out.1 (iZ aD) (iZ k) (uZ 0) (uZ 0) (uZ L) (.bool false) (uZ 0) (uZ 0) (.string ⟨#[]⟩) nZ;have nX:=fM y (w.heap.size+1) (iZ aD) (iZ k) (uZ 0) (uZ 0) (uZ L) (.bool false) (uZ 0) (uZ 0) (.string ⟨#[]⟩) nZ;generalize h2:jI y (w.heap.size+1) (iZ aD) (iZ k) (uZ 0) (uZ 0) (uZ L) (.bool false) (uZ 0) (uZ 0) (.string ⟨#[]⟩) nZ=Wf at *
  obtain⟨a0,a1,a2,a3,a4,a5,a6,a7,a8,a9,_⟩:=bC jX;refine Vl (v:=kF (X.map nL)) (by rw[C.out];simp[results,results254,go_sem,a0,a1,a2,a3,a4,a5,a6,a7,a8,a9,eF,kF,lW]) rfl ⟨rfl,Q,HY.out.2.1.tch nX aj aj,?_⟩;rw[C.out];exact HY.out.2.2
abbrev FV:=Fr×Option V3×Nat×Nat
def qx(x:FV):WA:=.slice x.2.1 x.2.2.1 x.2.2.2
def rz:List FV->bJ
 |[]=>[]
 |x::t=>fJ x.1 (qx x)++rz t
def iP:FV:=(iL,none,0,0)
def yE(w:Wq)(c:Option V3)(L:List FV):Prop:=
 ∀j,j<L.length->∃b a,c=some (ay b a)/\∀i,i<10->w.cell? (ay b (a+j*10+i))=(fJ (L.getD j iP).1 (qx (L.getD j iP)))[i]?
def yE.below{L:List FV}(h:yE w e L)(k:bE w w'):yE w' e L:=fun j m=>by
 obtain⟨b,c,g,f⟩:=h j m;refine⟨b,c,g,fun i l=>?_⟩;have d:b<w.heap.size:=by exact qmf (a:=(ay b (c+j*10+0))) _ (f 0 aj)
 rw[k.cell (p:=(ay b (c+j*10+i))) d];exact f i l
def M7.qiv{c:List Fr}{f:Nat->Option V3}{g:Nat->Nat}(h:M7 w e c f g)(L:List FV)(n:L.length=c.length)(l:∀j,j<c.length->L.getD j iP=(c.getD j iL,f j,(c.getD j iL).ranges.length,g j)):yE w e L:=fun j o=>by
 obtain⟨b,d,k,a⟩:=h j aj;refine⟨b,d,k,fun i m=>?_⟩;rw[l j aj];match i,m with
 |0,_=>exact a.c0
 |1,_=>exact a.c1
 |2,_=>exact a.c2
 |3,_=>exact a.c3
 |4,_=>exact a.c4
 |5,_=>exact a.c5
 |6,_=>exact a.c6
 |7,_=>exact a.c7
 |8,_=>exact a.c8
 |9,_=>exact a.c9
def zN(P:FV->Bool)(a:List FV):Int:=if a.any P then(a.findIdx P:Int)else -1
def RG{P:FV->Bool}{a:List FV}(h:∀j,j<a.length->P (a.getD j iP)=false):zN P a= -1:=by unfold zN;rw[aV];intro d;obtain⟨x,e,c⟩:=qo5.1 d;obtain⟨j,b,rfl⟩:=List.getElem_of_mem e;have:=h j b;rw[qly,qm3 b]at this;simp only[qpw]at this;rw[this]at c;cases c
def RH{P:FV->Bool}{a:List FV}(i:Nat)(b:i<a.length)(h:∀j,j<i->P (a.getD j iP)=false)(d:P (a.getD i iP)=true):zN P a=(i:Int):=by
 have g:∀j (c:j<a.length),a.getD j iP=a[j]:=fun j c=>by rw[qly,qm3 c];rfl
 unfold zN;rw[bM (qo5.2 ⟨a[i],qmz b,by rw[<-g i b];exact d⟩)];have:a.findIdx P=i:=by rw[List.findIdx_eq b];exact⟨by rw[<-g i b];exact d,fun j c=>by rw[<-g j aj];exact h j c⟩
 rw[this]
def CG(g:Nat)(p k:Array WA)(P:FV->Bool)(L:Option V3)(c:List FV)(T:Nat)(w:Wq)(eg:∀args w,(callFunc g args).run prog w=.ok (.enter g args) w)(hl:c.length<=1000000000)(hF:yE w L c)(O:∀j,j<c.length->∀W:Wq,bE w W->WB prog g (p.push (eF (c.getD j iP).1 (qx (c.getD j iP)))++k) W fun e S=>e=.returned (.bool (P (c.getD j iP)))/\bE W S):qH 190 #[.slice L c.length T,.func (.func g) p k] w (iZ (zN P c)) fun w'=>bE w w':=by
 have Q:=aF hF;have R:=aF O;clear hF O;obtain⟨X,G⟩:=bT (zN P c);have K:=aF G;rw[<-G];clear G;go_enter func190,ntmps190;go_wp2;go_loopw [8] (fun I wr=>∃i:Nat,i<=c.length/\I=(iZ i)/\Hid ((∀j,j<i->P (c.getD j iP)=false)/\bE w wr)) (fun I _=>c.length-(fA I).toNat);case atStart=>exact⟨0,qm2 _,rfl,(⟨fun j M=>absurd M (qmy _),qlw _ _⟩:_/\_)⟩
 case round=>
  obtain⟨i,hi,rfl,f⟩:=hrel;by_cases n:i<c.length
  ·have N:(i:Int)<(c.length:Int):=aj;obtain⟨b,o,U,s⟩:=Q.out i n;subst U;have d:∀r,r<10->wr.cell? (ay b (o+i*10+r))=(fJ (c.getD i iP).1 (qx (c.getD i iP)))[r]?:=fun r H=>by
    rw[f.out.2.cell (p:=(ay b (o+i*10+r))) (qmf (a:=(ay b (o+i*10+0))) _ (s 0 aj))];exact s r H
   have t:=d 0 aj;have u:=d 1 aj;have v:=d 2 aj;have x:=d 3 aj;have y:=d 4 aj;have z:=d 5 aj;have A:=d 6 aj;have B:=d 7 aj;have C:=d 8 aj;have D:=d 9 aj;have l:=R.out i n wr f.out.2;have J:Hid (∀b,P (c.getD i iP)=b->P (c.getD i iP)=b):=fun _ h=>h;cases q:P (c.getD i iP)
   ·rw[q]at l;have E:=aF q;clear q d s J;generalize c.getD i iP=F at t u v x y z A B C D l;obtain⟨F,V,Y,Z⟩:=F;unfold eF at l;simp only[qx,qml,qma,qnl]at t u v x y z A B C D l;go_wp2_with (first|(go_at_fn g;refine bH l ?_;rintro w2 m)|go_in);go_roundw
    case rel=>exact⟨i+1,aj,aM,(⟨fun j M=>(by
     by_cases h:j=i;·rw[h];exact E.out
     ·exact f.out.1 j aj),f.out.2.trans (m.mono f.out.2.size)⟩:_/\_)⟩
    case measure=>simp[fA];omega
   ·rw[q]at l;have E:=aF q;clear q d s J;generalize c.getD i iP=F at t u v x y z A B C D l;obtain⟨F,V,Y,Z⟩:=F;unfold eF at l;simp only[qx,qml,qma,qnl]at t u v x y z A B C D l;go_wp2_with (first|(go_at_fn g;refine bH l ?_;rintro w2 m)|go_in);go_ret;exact⟨by rw[K.out,RH i n f.out.1 E.out];rfl,f.out.2.trans (m.mono f.out.2.size)⟩
  ·obtain rfl:i=c.length:=aj;go_wp2;go_ret;exact⟨by rw[K.out,RG f.out.1];rfl,f.out.2⟩
def J6(g:Nat)(p k:Array WA)(P:FV->Bool)(b:Option V3)(a:List FV)(d:Nat)(w:Wq)(m:∀args w,(callFunc g args).run prog w=.ok (.enter g args) w)(n:a.length<=1000000000)(hF:yE w b a)(f:∀j,j<a.length->∀W:Wq,bE w W->WB prog g (p.push (eF (a.getD j iP).1 (qx (a.getD j iP)))++k) W fun e l=>e=.returned (.bool (P (a.getD j iP)))/\bE W l):qH 231 #[.slice b a.length d,.func (.func g) p k] w (.bool (a.any P)) fun o=>bE w o:=by
 have i:=aF (CG g p k P b a d w m n hF f);have q:decide ((0:Int)<=zN P a)=a.any P:=by
  unfold zN;cases h:a.any P;·rw[aV aM];rfl
  ·rw[bM rfl];exact decide_eq_true (qpv _)
 generalize a.any P=B at *
 generalize zN P a=X at *
 clear f hF;go_enter func231,ntmps231;go_wp2_with (first|(go_at_call 190;refine bH i.out ?_;rintro r c)|go_in);go_ret;exact⟨rfl,c⟩
def qe5(f:Fr)(a:WA)(w:Wq):qH 232 #[eF f a] w (.bool (decide (f.aD≠2))) fun c=>bE w c:=by unfold eF;go_enter func232,ntmps232;go_wp2;go_ret;refine⟨congrArg (fun b=>fB (.bool b)) ?_,(qlw _ w).alloc (qj _) _⟩;rw[qpn];simp
def FD(a:Option V3)(L:List FV)(c:Nat)(w:Wq)(g:L.length<=1000000000)(hF:yE w a L):qH 182 #[.slice a L.length c] w (.bool (fD (L.map nL))) fun i=>bE w i:=by
 have d:=aF (J6 232 #[] #[] (fun f=>decide (f.1.aD≠2)) a L c w (enters_of func232 bO rfl) g hF (fun j _ W _=>qe5 _ _ W));have e:fD (L.map nL)=L.any fun f=>decide (f.1.aD≠2):=by unfold fD;rw[List.any_map];rfl
 rw[e];generalize (L.any fun f=>decide (f.1.aD≠2))=B at *
 clear hF;go_enter func182,ntmps182;go_wp2_with (first|(go_at_call 231;refine bH d.out ?_;rintro k b)|go_in);go_ret;exact⟨rfl,b⟩
def oQ(R:Nat):Nat->bJ->Wq->Wq
 |_,[],y=>y
 |j,v::vs,y=>oQ R (j+1) vs (y.setCell (ay R j) v)
def nK(R:Nat):∀(b:bJ) (j:Nat) (y:Wq),l6 R y (oQ R j b y)
 |[],_,y=>l6.refl R y
 |v::b,j,y=>by have h:=(l6.refl R y).set j v;have a:=nK R b (j+1) (y.setCell (ay R j) v);exact⟨a.os.trans h.os,a.tape.trans h.tape,a.output.trans h.output,a.size.trans h.size,fun k c=>(a.block k c).trans (h.block k c)⟩
def mU:Nat->bJ->bJ->bJ
 |_,[],l=>l
 |j,v::vs,l=>mU (j+1) vs (l.set j v)
def pU{R:Nat}{t:Vg}:∀(a:bJ) (j:Nat) (y:Wq) (l:bJ),aL y R t l->aL (oQ R j a y) R t (mU j a l)
 |[],_,_,_,h=>h
 |v::a,j,_,_,h=>pU a (j+1) _ _ (h.setCell j v)
def PX(n:Int)(w:Wq):qH 126 #[iZ n] w (.agg #[iZ n,uZ 0,nZ]) fun a=>bE w a:=by go_enter func126,ntmps126;go_wp2_with fail;exact Vl (v:=.agg #[iZ n,uZ 0,nZ]) (by simp[results,results126,go_sem]) rfl ⟨rfl,(qlw _ w).alloc (qj _) _⟩
def FK(n:Nat)(d:n<=4096)(w:Wq):qH 142 #[iZ n] w (.agg #[uZ n,uZ n,uZ 0,uZ n]) fun c=>bE w c:=by have a:(0:Int)<=(n:Int):=aj;have b:(n:Int)<18446744073709551616:=aj;go_enter func142,ntmps142;go_wp2_with fail;exact Vl (v:=.agg #[uZ n,uZ n,uZ 0,uZ n]) (by simp[results,results142,go_sem]) rfl ⟨rfl,(qlw _ w).alloc (qj _) _⟩
abbrev inZ:bJ:=[uZ 0,uZ 0,uZ 0,uZ 0,uZ 0,nZ,nZ,uZ 0,.bool false,uZ 0,.bool false,uZ 0,iZ 0]
abbrev Bp(n:Nat):bJ:=[uZ n,uZ n,uZ 0,uZ n,uZ 0,nZ,nZ,uZ 0,.bool false,uZ 0,.bool false,uZ 0,iZ 0]
abbrev qec:bJ:=[nZ,.bool false,.bool false,uZ 0,uZ 0,uZ 0,uZ 0,uZ 0,iZ 0,uZ 0,nZ,iZ 0,uZ 0,nZ]
abbrev oo(n:Nat):bJ:=[nZ,.bool false,.bool false,uZ 0,uZ 0,uZ 0,uZ n,uZ 0,iZ 2049,uZ 0,nZ,iZ 2049,uZ 0,nZ]
def qee(n:Nat)(E:n<=4096)(w:Wq):qH 145 #[iZ n] w (.agg (Bp n).toArray) fun G=>bE w G:=by
 have D:=aF (fun y=>FK n E y);obtain⟨W,f⟩:=bT (w.alloc (.cells inZ.toArray 198));have k:aL W w.heap.size 198 inZ:=by rw[f];exact aL.new w 198 _
 have c:bE w W:=by rw[f];exact(qlw _ w).alloc (qj _) _
 have e:w.heap.size<W.heap.size:=by rw[f];simp
 have p:=aF (dw k (dw c e));clear k c e;unfold inZ at f;unfold Bp;go_enter func145,ntmps145;go_wp2_with fail;rw[<-f];clear f;refine bH (D.out W) ?_;rintro y d;obtain⟨k,c,e⟩:=p.out;have a:=aF (dw (k.of_heap (d.block _ e)) (c.trans (d.mono (qoo e))));clear k c e d;clear p;have H:=a.out.1.cell 0;have I:=a.out.1.cell 1;have J:=a.out.1.cell 2;have K:=a.out.1.cell 3;have L:=a.out.1.cell 4;have M:=a.out.1.cell 5;have N:=a.out.1.cell 6;have O:=a.out.1.cell 7;have P:=a.out.1.cell 8;have Q:=a.out.1.cell 9;have l:=a.out.1.cell 10;have m:=a.out.1.cell 11;have o:=a.out.1.cell 12;have S:=a.out.1.frozen;simp only[qml,qma]at H I J K L M N O P Q l m o;go_wp2_with fail;have b:aL (oQ w.heap.size 0 (Bp n) y) w.heap.size 198 (Bp n):=pU _ 0 y _ a.out.1;have F:=nK w.heap.size (Bp n) 0 y;change bodyPost _ _ _ _ _ (oQ w.heap.size 0 (Bp n) y);generalize oQ w.heap.size 0 (Bp n) y=R at *
 have q:=b.cell 0;have r:=b.cell 1;have s:=b.cell 2;have t:=b.cell 3;have u:=b.cell 4;have x:=b.cell 5;have z:=b.cell 6;have A:=b.cell 7;have B:=b.cell 8;have C:=b.cell 9;have g:=b.cell 10;have i:=b.cell 11;have j:=b.cell 12;simp only[qml,qma]at q r s t u x z A B C g i j;exact Vl (v:=.agg (Bp n).toArray) (by simp[results,results145,go_sem,q,r,s,t,u,x,z,A,B,C,g,i,j]) rfl ⟨rfl,F.below a.out.2 (qj _)⟩
def ZW(n:Nat)(Z:n<=4096)(w:Wq):qH 144 #[iZ n] w (.agg (oo n).toArray) fun L=>bE w L:=by
 have I:(0:Int)<=(n:Int):=aj;have J:(n:Int)<18446744073709551616:=aj;have u:=aF (fun y=>PX 2049 y);obtain⟨W,g⟩:=bT (w.alloc (.cells qec.toArray 194));have m:aL W w.heap.size 194 qec:=by rw[g];exact aL.new w 194 _
 have c:bE w W:=by rw[g];exact(qlw _ w).alloc (qj _) _
 have f:w.heap.size<W.heap.size:=by rw[g];simp
 have t:=aF (dw m (dw c f));clear m c f;unfold qec at g;unfold oo;go_enter func144,ntmps144;go_wp2_with fail;rw[<-g];clear g;refine bH (u.out W) ?_;rintro X d;go_wp2_with fail;refine bH (u.out X) ?_;rintro y o;obtain⟨m,c,f⟩:=t.out;have e:=d.trans (o.mono d.size);have a:=aF (dw (m.of_heap (e.block _ f)) (c.trans (e.mono (qoo f))));clear m c f d o e;clear t;have M:=a.out.1.cell 0;have N:=a.out.1.cell 1;have O:=a.out.1.cell 2;have P:=a.out.1.cell 3;have Q:=a.out.1.cell 4;have R:=a.out.1.cell 5;have S:=a.out.1.cell 6;have T:=a.out.1.cell 7;have U:=a.out.1.cell 8;have V:=a.out.1.cell 9;have p:=a.out.1.cell 10;have q:=a.out.1.cell 11;have r:=a.out.1.cell 12;have s:=a.out.1.cell 13;have xf:=a.out.1.frozen;simp only[qml,qma]at M N O P Q R S T U V p q r s;go_wp2_with fail;have b:aL (oQ w.heap.size 0 (oo n) y) w.heap.size 194 (oo n):=pU _ 0 y _ a.out.1;have K:=nK w.heap.size (oo n) 0 y;change bodyPost _ _ _ _ _ (oQ w.heap.size 0 (oo n) y);generalize oQ w.heap.size 0 (oo n) y=Y at *
 have x:=b.cell 0;have z:=b.cell 1;have A:=b.cell 2;have B:=b.cell 3;have C:=b.cell 4;have D:=b.cell 5;have E:=b.cell 6;have F:=b.cell 7;have G:=b.cell 8;have H:=b.cell 9;have i:=b.cell 10;have j:=b.cell 11;have k:=b.cell 12;have l:=b.cell 13;simp only[qml,qma]at x z A B C D E F G H i j k l;exact Vl (v:=.agg (oo n).toArray) (by simp[results,results144,go_sem,x,z,A,B,C,D,E,F,G,H,i,j,k,l]) rfl ⟨rfl,K.below a.out.2 (qj _)⟩
def BK(a:Option V3)(n c:Nat)(w:Wq):qH 208 #[.slice a n c] w (iZ n) fun b=>b=w:=by go_enter func208,ntmps208;go_wp2;go_ret;exact⟨rfl,rfl⟩
def Ki(g n c i j:Nat)(k:i<n)(l:j<n)(a b:Int)(w:Wq)(e:w.cell? (ay g (i*4))=some (iZ a))(f:w.cell? (ay g (j*4))=some (iZ b)):qH 375 #[dh g n c,iZ i,iZ j] w (.bool (decide (a<b))) fun d=>∃q,d=w.drewN q:=by go_enter func375,ntmps375;go_wp2_with fail;go_quiet (fail);go_wp2;go_ret;exact⟨rfl,nq,rfl⟩
structure Src where
 u:Int
 f1:Fn
 p1:Array WA
 k1:Array WA
 f2:Fn
 p2:Array WA
 k2:Array WA
 y:Bool
abbrev jP(s:Src):bJ:=[iZ s.u,.func s.f1 s.p1 s.k1,.func s.f2 s.p2 s.k2,.bool s.y]
def qC(D:Nat->Src):List Nat->bJ
 |[]=>[]
 |u::Q=>jP (D u)++qC D Q
def NI(D:Nat->Src):∀Q,(qC D Q).length=Q.length*4
 |[]=>rfl
 |u::Q=>by have:=NI D Q;simp only[qC,qm0,qmp,qnc,this];omega
def pV(D:Nat->Src):∀(Q:List Nat) (i:Nat) (u:Nat),Q[i]?=some u->(qC D Q)[i*4]?=some (iZ (D u).u)/\(qC D Q)[i*4+1]?=some (.func (D u).f1 (D u).p1 (D u).k1)/\(qC D Q)[i*4+2]?=some (.func (D u).f2 (D u).p2 (D u).k2)/\(qC D Q)[i*4+3]?=some (.bool (D u).y)
 |[],i,u,h=>by simp at h
 |x::Q,0,u,h=>by simp at h;subst h;exact⟨rfl,rfl,rfl,rfl⟩
 |x::Q,i+1,u,h=>by
  have:=pV D Q i u (by simpa using h);have e:∀r,(i+1)*4+r=4+(i*4+r):=by intro r;omega
  have a:(i+1)*4=4+i*4:=aj;refine⟨?_,?_,?_,?_⟩;·rw[a];show(jP (D x)++qC D Q)[4+i*4]?=_;rw[qn0 aM];simpa using this.1
  ·rw[e];show(jP (D x)++qC D Q)[4+(i*4+1)]?=_;rw[qn0 aM];simpa using this.2.1
  ·rw[e];show(jP (D x)++qC D Q)[4+(i*4+2)]?=_;rw[qn0 aM];simpa using this.2.2.1
  ·rw[e];show(jP (D x)++qC D Q)[4+(i*4+3)]?=_;rw[qn0 aM];simpa using this.2.2.2
def CS:∀(a:bJ) (j:Nat) (A l:bJ),mU (A.length+j) a (A++l)=A++mU j a l
 |[],_,_,_=>rfl
 |v::a,j,A,l=>by show mU (A.length+j+1) a ((A++l).set (A.length+j) v)=A++mU (j+1) a (l.set j v);rw[List.set_append_right _ _ aj,Nat.add_sub_cancel_left,qpz,CS a (j+1) A]
def VY(D:Nat->Src):∀(Q:List Nat) (i u:Nat),i<Q.length->mU (i*4) (jP (D u)) (qC D Q)=qC D (Q.set i u)
 |[],i,u,h=>by simp at h
 |x::Q,0,u,_=>rfl
 |x::Q,i+1,u,h=>by have:=VY D Q i u (by simpa using h);show mU ((i+1)*4) (jP (D u)) (jP (D x)++qC D Q)=jP (D x)++qC D (Q.set i u);have e:(i+1)*4=(jP (D x)).length+i*4:=rR;rw[e,CS,this]
def CU:∀(a:bJ) (j:Nat) (l:bJ),(mU j a l).length=l.length
 |[],_,_=>rfl
 |v::a,j,l=>by show(mU (j+1) a (l.set j v)).length=_;rw[CU a];simp
def zS:∀(a:bJ) (j n:Nat) (l:bJ),(mU j a l).take n=mU j a (l.take n)
 |[],_,_,_=>rfl
 |v::a,j,n,l=>by show(mU (j+1) a (l.set j v)).take n=mU (j+1) a ((l.take n).set j v);rw[zS a,List.take_set]
def CV{p:WA->Prop}:∀(a:bJ) (j:Nat) (l:bJ),(∀v∈l,p v)->(∀v∈a,p v)->∀v∈mU j a l,p v
 |[],_,_,h,_=>h
 |x::a,j,l,h,k=>CV a (j+1) (l.set j x) (fun v b=>by
   rcases qq6 b with h1|h1;·exact h v h1
   ·rw[h1];exact k x aM) (fun v b=>k v (by simp[b]))
def CW(s:Src):∀v∈jP s,v.oneCell'=true:=by intro v a;simp at a;rcases a with rfl|rfl|rfl|rfl<;>rfl
def Mt(oZ:Own)(t:Nat)(D:Nat->Src)(w:Wq)(g c:Nat)(Q:List Nat):Prop:=oZ g=t/\GT oZ t 304 4 w (dh g Q.length c) Q.length (qC D Q)
def Mt.put{oZ:Own}{t:Nat}{D:Nat->Src}{g c:Nat}{Q:List Nat}(h:Mt oZ t D w g c Q)(i u:Nat)(j:i<Q.length):Mt oZ t D (oQ g (i*4) (jP (D u)) w) g c (Q.set i u)/\Kp [t] oZ oZ w (oQ g (i*4) (jP (D u)) w):=by
 obtain⟨f,h⟩:=h;have a:=nK g (jP (D u)) (i*4) w;refine⟨⟨f,?_⟩,⟨a.os,a.tape,a.output,by rw[a.size];exact qj _,fun b _ k=>a.block b (fun e=>k (by rw[e,f];simp)),fun _ _=>rfl⟩⟩;rcases h with⟨d,_⟩|⟨g',cap,cs,d,h2,h3,h4,h5,h6,h7,h8,h9⟩;·cases d
 ·simp only[qn4,qng,qnw,true_and,and_true]at d;obtain⟨rfl,rfl⟩:=d;refine .inr ⟨g,c,mU (i*4) (jP (D u)) cs,aM,f,pU _ _ _ _ h3,by rw[CU];exact h4,by simpa using h5,h6,by rw[NI],?_,CV _ _ _ h9 (CW _)⟩;rw[qn3,zS,h8,VY D Q i u j]
def Mt.drew{oZ:Own}{t:Nat}{D:Nat->Src}{w:Wq}{g c:Nat}{Q:List Nat}(h:Mt oZ t D w g c Q):Mt oZ t D w.drew g c Q:=⟨h.1,h.2.kp (T:=[]) (Kp.below (w':=w.drew) ⟨rfl,rfl,rfl,qj _,fun _ _=>rfl⟩) aM⟩
def CX(oZ:Own)(t:Nat)(D:Nat->Src)(w:Wq)(g c:Nat)(Q:List Nat)(i j:Nat)(K:i<Q.length)(F:j<Q.length)(h:Mt oZ t D w g c Q):qH 378 #[dh g Q.length c,iZ i,iZ j] w (.tuple #[]) fun L=>Mt oZ t D L g c (sw Q i j)/\Kp [t] oZ oZ w L:=by
 obtain⟨a,z⟩:=bT (Q.getD i 0);obtain⟨b,A⟩:=bT (Q.getD j 0);have I:Q[i]?=some a:=by rw[z,qly,qm3 K];rfl
 have J:Q[j]?=some b:=by rw[A,qly,qm3 F];rfl
 have C:=h.put i b K;have f:=C.1.put j a (by simpa using F);have G:Hid (Mt oZ t D (oQ g (j*4) (jP (D a)) (oQ g (i*4) (jP (D b)) w)).drew g c (sw Q i j)/\Kp [t] oZ oZ w (oQ g (j*4) (jP (D a)) (oQ g (i*4) (jP (D b)) w)).drew):=by
  have e:sw Q i j=(Q.set i b).set j a:=by unfold sw;rw[z,A]
  rw[e];exact⟨f.1.drew,(C.2.trans f.2).drew⟩
 obtain⟨m,o,p,q⟩:=pV D Q i a I;obtain⟨s,u,v,y⟩:=pV D Q j b J;have d:∀k x,(qC D Q)[k]?=some x->w.cell? (ay g k)=some x:=fun k x N=>by obtain⟨M,e,_,_,r,_⟩:=h.2.cell k x N;cases e;exact r
 have U:∀k,w.frozen? (ay g k)=false:=by
  rcases h.2 with⟨B,_⟩|⟨M,cap,cs,B,_,h3,_⟩;·cases B
  ·cases B;exact h3.frozen
 have V:=d _ _ m;have W:=d _ _ o;have X:=d _ _ p;have Y:=d _ _ q;have P:=d _ _ s;have R:=d _ _ u;have S:=d _ _ v;have T:=d _ _ y;have H:Hid (i=j->a=b):=fun e=>by rw[z,A,e]
 generalize Q.length=n at *
 clear z A I J C f m o p q s u v y d h;by_cases l:i=j
 ·have E:=H.out l;subst l;subst E;clear P R S T H F;go_enter func378,ntmps378;go_wp2_with fail;go_region
  go_end0;exact⟨rfl,G.out⟩
 ·have O:¬(i*4=j*4):=aj;go_enter func378,ntmps378;go_wp2_with fail;go_region
  go_end0;exact⟨rfl,G.out⟩
def qef(p:Nat)(w:Wq):(method 518 250 (aJ p 0) "Push").run prog w=.ok (377,(aJ p 0)) w:=bO
def qgf(p:Nat)(w:Wq):(method 518 250 (aJ p 0) "Pop").run prog w=.ok (376,(aJ p 0)) w:=bO
def qeg(p:Nat)(w:Wq):(method 518 250 (aJ p 0) "Len").run prog w=(loadVar 300 (ay p 0) >>=fun r=>(pure (208,r):Sem (FuncId×WA))).run prog w:=bO
def ZX(p:Nat)(w:Wq):(method 518 250 (aJ p 0) "Less").run prog w=(loadVar 300 (ay p 0) >>=fun r=>(pure (375,r):Sem (FuncId×WA))).run prog w:=bO
def ZY(p:Nat)(w:Wq):(method 518 250 (aJ p 0) "Swap").run prog w=(loadVar 300 (ay p 0) >>=fun r=>(pure (378,r):Sem (FuncId×WA))).run prog w:=bO
def CY(p:Nat)(w:Wq)(a:Option V3)(n c:Nat)(b:w.cell? (ay p 0)=some (.slice a n c)):(loadVar 300 (ay p 0)).run prog w=.ok (.slice a n c) w:=by simp[go_sem,loadVar,b,sizeOf300]
def qd5(p:Nat)(w:Wq)(a:Option V3)(n c:Nat)(b:w.cell? (ay p 0)=some (.slice a n c)):(method 518 250 (aJ p 0) "Len").run prog w=.ok (208,.slice a n c) w:=by rw[qeg,qnv,CY p w a n c b];rfl
def NJ(p:Nat)(w:Wq)(a:Option V3)(n c:Nat)(b:w.cell? (ay p 0)=some (.slice a n c)):(method 518 250 (aJ p 0) "Less").run prog w=.ok (375,.slice a n c) w:=by rw[ZX,qnv,CY p w a n c b];rfl
def NK(p:Nat)(w:Wq)(a:Option V3)(n c:Nat)(b:w.cell? (ay p 0)=some (.slice a n c)):(method 518 250 (aJ p 0) "Swap").run prog w=.ok (378,.slice a n c) w:=by rw[ZY,qnv,CY p w a n c b];rfl
structure yH (oZ:Own) (t:Nat) (D:Nat->Src) (w:Wq) (p g c:Nat) (Q:List Nat):Prop where
 op:oZ p=t+1
 pb:aL w p 300 [dh g Q.length c]
 sr:Mt oZ t D w g c Q
def oq(Q:List Nat)(i j:Nat):(sw Q i j).length=Q.length:=by simp[sw]
def C8 (n:Nat):∀(i:Nat) (l:List Nat),i<n->Cg n l i=Cg (i+1) l i:=n.strongRecOn fun n C=>match n,C with
 |0,_=>fun i l h=>aj
 |n+1,C=>fun i l h=>by
  simp only[Cg];by_cases a:i=0;·simp[a]
  ·split;·rfl
   ·rw[C n aj ((i-1) / 2) _ aj];rw[C i aj ((i-1) / 2) _ aj]
def Z0(oZ:Own)(t:Nat)(D:Nat->Src)(hD:∀u:Nat,(D u).u=(u:Int))(w:Wq)(p g c:Nat)(Q:List Nat)(j:Nat)(hj:j<Q.length)(hl:Q.length<=1000)(h:yH oZ t D w p g c Q):qH 307 #[.iface 250 (aJ p 0),iZ j] w (.tuple #[]) fun f=>yH oZ t D f p g c (Cg (j+1) Q j)/\Kp [t] oZ oZ w f:=by
 obtain⟨X,M⟩:=bT (Cg (j+1) Q j);rw[<-M];have W:=aF M;have U:=aF h;obtain⟨N,hN⟩:=bT Q.length;have V:=aF hN;have O:j<N:=aj;have h0:N<=1000:=aj;clear M h hN hj hl;have o:=aF hD;clear hD;go_enter func307,ntmps307;go_wp2_with fail;go_loopw [1] (fun S wr=>∃(k:Nat) (R:List Nat),k<N/\S=(iZ k)/\Hid (R.length=N/\yH oZ t D wr p g c R/\Kp [t] oZ oZ w wr/\Cg (k+1) R k=X)) (fun S _=>(fA S).toNat);case atStart=>exact⟨j,Q,O,rfl,V.out.symm,U.out,Kp.refl _ _ _,W.out.symm⟩
 case round=>
  clear W U V;obtain⟨k,R,hk,rfl,z⟩:=hrel;by_cases C:k=0
  ·subst C;have J:Hid (yH oZ t D wr p g c X/\Kp [t] oZ oZ w wr):=by
    obtain⟨Y,F,h3,Z⟩:=z.out;have:Cg (0+1) R 0=R:=by simp[Cg]
    rw[this]at Z;rw[<-Z];exact⟨F,h3⟩
   clear z;go_wp2_with fail;go_end0;exact⟨rfl,J.out⟩
  ·obtain⟨i,n⟩:=bT ((k-1) / 2);have l:i<k:=aj;have q1:((k:Int)-1).tdiv 2=(i:Int):=by
    have e:(k:Int)-1=((k-1:Nat):Int):=aj;rw[e,n];rfl
   obtain⟨d,a,G,H⟩:=z.out;have E:wr.cell? (ay p 0)=some (dh g R.length c):=by rw[a.pb.cell];rfl
   rw[d]at E;have h6:=NJ p wr _ _ _ E;have P:∀q,(method 518 250 (aJ p 0) "Swap").run prog (wr.drewN q)=.ok (378,(dh g N c)) (wr.drewN q):=fun q=>NK p (wr.drewN q) _ _ _ E;have ek:R[k]?=some (R.getD k 0):=by rw[qly,qm3 aj];rfl
   have L:R[i]?=some (R.getD i 0):=by rw[qly,qm3 aj];rfl
   have I:∀k x,(qC D R)[k]?=some x->wr.cell? (ay g k)=some x:=fun k x hx=>by obtain⟨g',e,_,_,r,_⟩:=a.sr.2.cell k x hx;cases e;exact r
   have v:=aF (Ki g N c k i hk aj _ _ wr (I _ _ (pV D R k _ ek).1) (I _ _ (pV D R i _ L).1));rw[o.out,o.out]at v;have g1:(k:Int)-1<9223372036854775808:=aj;have g2: -9223372036854775808<=(k:Int)-1:=aj;have h5:i<9223372036854775808:=aj;have n1:¬(i=k):=aj;have n2:¬((i:Int)=(k:Int)):=aj;have n3:((i:Int)==(k:Int))=false:=by simpa using n2
   by_cases b:R.getD k 0<R.getD i 0
   ·have m:Hid (qH 375 #[dh g N c,iZ k,iZ i] wr (.bool true) fun f=>∃q,f=wr.drewN q):=by
     have e:decide (((R.getD k 0:Nat):Int)<((R.getD i 0:Nat):Int))=true:=decide_eq_true (Int.ofNat_lt.2 b);have:=v.out;rw[e]at this;exact this
    have HS:Hid (∀q,qH 378 #[dh g N c,iZ i,iZ k] (wr.drewN q) (.tuple #[]) fun f=>Hid ((sw R i k).length=N/\yH oZ t D f p g c (sw R i k)/\Kp [t] oZ oZ w f/\Cg (i+1) (sw R i k) i=X)):=fun q=>by
     have A:bE wr (wr.drewN q):=⟨rfl,rfl,rfl,qj _,fun _ _=>rfl⟩;have hs:=CX oZ t D (wr.drewN q) g c R i k aj aj ⟨a.sr.1,a.sr.2.kp (T:=[]) (Kp.below A) aM⟩;rw[d]at hs;refine bH hs ?_;rintro f ⟨Y,F⟩;refine⟨rfl,by rw[oq,d],⟨a.op,?_,Y⟩,G.trans ((Kp.below A).trans F),?_⟩;·rw[oq];exact bU (w:=wr.drewN q) a.pb F (by rw[a.op];simp)
     ·rw[<-H];have K:Cg (k+1) R k=Cg k (sw R ((k-1) / 2) k) ((k-1) / 2):=by
       simp only[Cg];rw[aV];intro B;rcases B with B|B;·exact C B
       ·exact B (by rw[<-n];exact b)
      rw[K,<-n,C8 k i _ l]
    have s:=aF (dw l hk);clear d a G H E ek L I v b z n l;go_wp2_with fail;refine bH m.out ?_;rintro y ⟨q,rfl⟩;go_wp2_with fail;refine bH (HS.out q) ?_;rintro y HY;go_wp2_with fail;go_roundw;case rel=>exact⟨i,sw R i k,bR s.out,by go_num,HY⟩
    case measure=>have:=s.out;simp[fA];omega
   ·have m:Hid (qH 375 #[dh g N c,iZ k,iZ i] wr (.bool false) fun f=>∃q,f=wr.drewN q):=by
     have e:decide (((R.getD k 0:Nat):Int)<((R.getD i 0:Nat):Int))=false:=decide_eq_false (fun h=>b (Int.ofNat_lt.1 h));have:=v.out;rw[e]at this;exact this
    have J:Hid (∀q,yH oZ t D (wr.drewN q) p g c X/\Kp [t] oZ oZ w (wr.drewN q)):=fun q=>by
     have A:bE wr (wr.drewN q):=⟨rfl,rfl,rfl,qj _,fun _ _=>rfl⟩;have K:Cg (k+1) R k=R:=by simp only[Cg];rw[bM (.inr (by rw[<-n];exact b))]
     rw[<-H,K];exact⟨⟨a.op,a.pb,a.sr.1,a.sr.2.kp (T:=[]) (Kp.below A) aM⟩,G.trans (Kp.below A)⟩
    clear d a G H E ek L I v b z n P l;go_wp2_with fail;refine bH m.out ?_;rintro y ⟨q,rfl⟩;go_wp2_with fail;go_end0;exact⟨rfl,J.out q⟩
def VZ(e:Ending):Prop:=∃b,e=.returned (.bool b)
def kid(l:List Nat)(i n:Nat):Nat:=if 2*i+2<n/\l.getD (2*i+2) 0<l.getD (2*i+1) 0 then 2*i+2 else 2*i+1
def mV(k:Nat)(l:List Nat)(i n:Nat):kX (k+1) l i n=if n<=2*i+1 then l else if l.getD (kid l i n) 0<l.getD i 0 then kX k (sw l i (kid l i n)) (kid l i n) n else l:=rfl
def qeh(l:List Nat)(i n:Nat):2*i+1<=kid l i n:=by unfold kid;split<;>omega
def xB:∀(k a:Nat) (l:List Nat) (i n:Nat),n<=i+k->n<=i+a->kX k l i n=kX a l i n
 |0,0,_,_,_,_,_=>rfl
 |0,a+1,l,i,n,h,_=>by rw[mV,bM aj];rfl
 |k+1,0,l,i,n,_,h=>by rw[mV,bM aj];rfl
 |k+1,a+1,l,i,n,h,h'=>by
  rw[mV,mV];have:=qeh l i n;by_cases b:n<=2*i+1;·rw[bM b,bM b]
  ·rw[aV b,aV b,xB k a _ _ _ aj aj]
def RS(oZ:Own)(t:Nat)(D:Nat->Src)(hD:∀u:Nat,(D u).u=(u:Int))(w:Wq)(p g c:Nat)(Q:List Nat)(i0 n:Nat)(h6:i0<Q.length)(hn:n<=Q.length)(hl:Q.length<=1000)(h:yH oZ t D w p g c Q)(F:Nat)(hF:n<=i0+F):WB prog 270 #[.iface 250 (aJ p 0),iZ i0,iZ n] w fun e P=>VZ e/\yH oZ t D P p g c (kX F Q i0 n)/\Kp [t] oZ oZ w P:=by
 obtain⟨X,hX⟩:=bT (kX F Q i0 n);rw[<-hX];have HX:=aF hX;have H0:=aF h;obtain⟨N,hN⟩:=bT Q.length;have HN:=aF hN;have h7:i0<N:=aj;have hj:n<=N:=aj;have h8:N<=1000:=aj;have HF:=aF hF;clear hX h hN h6 hn hl hF;have K:=aF hD;clear hD;go_enter func270,ntmps270;go_wp2_with fail;go_loopw [7] (fun s7 wr=>∃(i:Nat) (R:List Nat),i<N/\s7=(iZ i)/\Hid (R.length=N/\yH oZ t D wr p g c R/\Kp [t] oZ oZ w wr/\kX N R i n=X)) (fun s7 _=>N-(fA s7).toNat);case atStart=>exact⟨i0,Q,h7,rfl,HN.out.symm,H0.out,Kp.refl _ _ _,by rw[HX.out];exact xB _ _ _ _ _ aj HF.out⟩
 case round=>
  clear HX H0 HN HF;obtain⟨i,R,V,rfl,HR⟩:=hrel;obtain⟨I,C,hK,hU⟩:=HR.out;have O:∀q,bE wr (wr.drewN q):=fun q=>⟨rfl,rfl,rfl,qj _,fun _ _=>rfl⟩;have H:∀q,yH oZ t D (wr.drewN q) p g c R/\Kp [t] oZ oZ w (wr.drewN q):=fun q=>⟨⟨C.op,C.pb,C.sr.1,C.sr.2.kp (T:=[]) (Kp.below (O q)) aM⟩,hK.trans (Kp.below (O q))⟩;obtain⟨F',U⟩:∃F',N=F'+1:=⟨N-1,aj⟩;have o:kX (F'+1) R i n=X:=by rw[<-U];exact hU
  rw[mV]at o;have hp:wr.cell? (ay p 0)=some (dh g N c):=by rw[C.pb.cell,<-I];rfl
  obtain⟨l,W⟩:=bT (2*i+1);obtain⟨s,Y⟩:=bT (2*i+2);have e1:2*(i:Int)+1=(l:Int):=aj;have e2:(l:Int)+1=(s:Int):=aj;have g1:2*(i:Int)<9223372036854775808:=aj;have g2: -9223372036854775808<=2*(i:Int):=aj;have g3:l<9223372036854775808:=aj;have g4:s<9223372036854775808:=aj;have g5:¬((l:Int)<0):=aj;by_cases hA:n<=l
  ·have HF:Hid (yH oZ t D wr p g c X/\Kp [t] oZ oZ w wr):=by
    rw[bM aj]at o;rw[<-o];exact⟨C,hK⟩
   have h4:(n:Int)<=(l:Int):=aj;clear HR I C hK hU O H U o hp W Y K;go_wp2_with fail;go_ret;exact⟨⟨_,rfl⟩,HF.out⟩
  ·have h4:¬((n:Int)<=(l:Int)):=aj;rw[aV aj]at o;have hf:=NJ p wr _ _ _ hp;have hm:∀q,(method 518 250 (aJ p 0) "Less").run prog (wr.drewN q)=.ok (375,(dh g N c)) (wr.drewN q):=fun q=>NJ p (wr.drewN q) _ _ _ hp;have hg:∀q,(method 518 250 (aJ p 0) "Swap").run prog (wr.drewN q)=.ok (378,(dh g N c)) (wr.drewN q):=fun q=>NK p (wr.drewN q) _ _ _ hp;have hc:∀k x,(qC D R)[k]?=some x->wr.cell? (ay g k)=some x:=fun k x hx=>by
    obtain⟨g',e,_,_,r,_⟩:=C.sr.2.cell k x hx;cases e;exact r
   have eR:∀k,k<N->R[k]?=some (R.getD k 0):=fun k hk=>by rw[qly,qm3 aj];rfl
   have A:Hid (∀(a b:Nat) (v:Bool) (q:Nat),a<N->b<N->decide (R.getD a 0<R.getD b 0)=v->qH 375 #[dh g N c,iZ a,iZ b] (wr.drewN q) (.bool v) fun P=>∃q,P=wr.drewN q):=fun a b v q ha hb hv=>by
    have h1:=Ki g N c a b ha hb _ _ (wr.drewN q) (hc _ _ (pV D R a _ (eR a ha)).1) (hc _ _ (pV D R b _ (eR b hb)).1);rw[K.out,K.out]at h1;have h2:decide (((R.getD a 0:Nat):Int)<((R.getD b 0:Nat):Int))=v:=by rw[<-hv];exact decide_eq_decide.2 Int.ofNat_lt
    rw[h2]at h1;refine bH h1 ?_;rintro P ⟨q',rfl⟩;exact⟨rfl,q+q',by rw[qqu]⟩
   have M:Hid (∀(j q:Nat),kid R i n=j->j<N->i<j->R.getD j 0<R.getD i 0->qH 378 #[dh g N c,iZ i,iZ j] (wr.drewN q) (.tuple #[]) fun P=>Hid ((sw R i j).length=N/\yH oZ t D P p g c (sw R i j)/\Kp [t] oZ oZ w P/\kX N (sw R i j) j n=X)):=fun j q Z he h9 d=>by
    have hs:=CX oZ t D (wr.drewN q) g c R i j aj aj (H q).1.sr;rw[I]at hs;refine bH hs ?_;rintro P ⟨h1,h2⟩;refine⟨rfl,by rw[oq,I],⟨C.op,?_,h1⟩,(H q).2.trans h2,?_⟩;·rw[oq];exact bU (w:=wr.drewN q) C.pb h2 (by rw[C.op];simp)
    ·rw[<-o,Z,bM d];exact xB _ _ _ _ _ aj aj
   have L:Hid (∀(j q:Nat),kid R i n=j->¬R.getD j 0<R.getD i 0->yH oZ t D (wr.drewN q) p g c X/\Kp [t] oZ oZ w (wr.drewN q)):=fun j q Z d=>by have h3:=H q;rw[Z,aV d]at o;rw[<-o];exact h3
   have m:Hid (l=2*i+1/\s=2*i+2/\l<N/\i<l/\i<s):=⟨W,Y,aj,aj,aj⟩;have ho:i<N:=V;clear HR I C hK hU O H U o hp W Y K hc eR;by_cases hB:s<n
   ·have h5:(s:Int)<(n:Int):=aj;have h0:s<N:=aj;by_cases hC:R.getD s 0<R.getD l 0
    ·have HC:=aF (A.out s l true 0 h0 (bR m.out) (decide_eq_true hC));have wm:=aF hC;clear hC;have S:kid R i n=s:=by
      have:=m.out;unfold kid;rw[bM ⟨aj,by rw[<-this.1,<-this.2.1];exact wm.out⟩];omega
     have B:=aF S;clear S;by_cases d:R.getD s 0<R.getD i 0
     ·have f:=aF (fun q=>A.out s i true q (bR m.out) V (decide_eq_true d));have G:=aF (fun q=>M.out s q B.out (bR m.out) (bR m.out) d);clear d A M L B;have z:=aF (f.out 0);go_wp2_with fail;refine bH HC.out ?_;rintro y ⟨q1,rfl⟩;go_wp2_with fail;refine bH (f.out q1) ?_;rintro y ⟨J,rfl⟩;go_wp2_with fail;refine bH (G.out J) ?_;rintro y HY;go_wp2_with fail;go_roundw;case rel=>exact⟨s,sw R i s,bR m.out,by go_num,HY⟩
      case measure=>have:=m.out;simp[fA];omega
     ·have f:=aF (fun q=>A.out s i false q (bR m.out) V (decide_eq_false d));have E:=aF (fun q=>L.out s q B.out d);clear d A M L B;have z:=aF (f.out 0);go_wp2_with fail;refine bH HC.out ?_;rintro y ⟨q1,rfl⟩;go_wp2_with fail;refine bH (f.out q1) ?_;rintro y ⟨J,rfl⟩;go_wp2_with fail;go_ret;exact⟨⟨_,rfl⟩,E.out J⟩
    ·have HC:=aF (A.out s l false 0 h0 (bR m.out) (decide_eq_false hC));have wm:=aF hC;clear hC;have S:kid R i n=l:=by
      have:=m.out;unfold kid;rw[aV (fun hh=>wm.out (by rw[this.1,this.2.1];exact hh.2))];omega
     have B:=aF S;clear S;by_cases d:R.getD l 0<R.getD i 0
     ·have f:=aF (fun q=>A.out l i true q (bR m.out) V (decide_eq_true d));have G:=aF (fun q=>M.out l q B.out (bR m.out) (bR m.out) d);clear d A M L B;have z:=aF (f.out 0);go_wp2_with fail;refine bH HC.out ?_;rintro y ⟨q1,rfl⟩;go_wp2_with fail;refine bH (f.out q1) ?_;rintro y ⟨J,rfl⟩;go_wp2_with fail;refine bH (G.out J) ?_;rintro y HY;go_wp2_with fail;go_roundw;case rel=>exact⟨l,sw R i l,bR m.out,by go_num,HY⟩
      case measure=>have:=m.out;simp[fA];omega
     ·have f:=aF (fun q=>A.out l i false q (bR m.out) V (decide_eq_false d));have E:=aF (fun q=>L.out l q B.out d);clear d A M L B;have z:=aF (f.out 0);go_wp2_with fail;refine bH HC.out ?_;rintro y ⟨q1,rfl⟩;go_wp2_with fail;refine bH (f.out q1) ?_;rintro y ⟨J,rfl⟩;go_wp2_with fail;go_ret;exact⟨⟨_,rfl⟩,E.out J⟩
   ·have h5:¬((s:Int)<(n:Int)):=aj;have S:kid R i n=l:=by
     have:=m.out;unfold kid;rw[aV (fun hh=>aj)];omega
    have B:=aF S;clear S;by_cases d:R.getD l 0<R.getD i 0
    ·have f:=aF (fun q=>A.out l i true q (bR m.out) V (decide_eq_true d));have G:=aF (fun q=>M.out l q B.out (bR m.out) (bR m.out) d);clear d A M L B;have z:=aF (f.out 0);go_wp2_with fail;refine bH z.out ?_;rintro y ⟨J,rfl⟩;go_wp2_with fail;refine bH (G.out J) ?_;rintro y HY;go_wp2_with fail;go_roundw;case rel=>exact⟨l,sw R i l,bR m.out,by go_num,HY⟩
     case measure=>have:=m.out;simp[fA];omega
    ·have f:=aF (fun q=>A.out l i false q (bR m.out) V (decide_eq_false d));have E:=aF (fun q=>L.out l q B.out d);clear d A M L B;have z:=aF (f.out 0);go_wp2_with fail;refine bH z.out ?_;rintro y ⟨J,rfl⟩;go_wp2_with fail;go_ret;exact⟨⟨_,rfl⟩,E.out J⟩
end Go.Proofs.YtphbledmopchnaaGreatDoor.Sd
namespace Go.Proofs.YtphbledmopchnaaGreatDoor.St
open Go.RowKit Go.Lib Go.Shelf Mm Tryz
variable {B n:Nat}{F:Fence}{P:Program}{Q:Exit->Act->Wq->Prop}{a:Act}{v:WA}{w:Wq}
def jJ.Q_{e:Nat}{base:Option V3}{c:Nat}{rs:bZ}(h:jJ w e base c rs)(d:rs.length<=c)(a:c<=9223372036854775807):dY 170 2 w (.slice base rs.length c) rs.length (bQ rs):=by
 rcases h with⟨rfl,rfl,rfl⟩|⟨b,l,rfl,_,hB,hl,ht,h1⟩;·exact dY.nil _ _ _
 ·refine .inr ⟨b,c,l,rfl,hB,aj,d,a,by rw[m_];omega,by rw[qni,ht],h1⟩
def qaf(w:Wq):(binOp BinOp.eql 63 nZ nZ).run prog w=.ok (.bool true) w:=bO
def Xk(w:Wq)(a:V3)(n c:Nat):(binOp BinOp.eql 63 (.slice (some a) n c) nZ).run prog w=.ok (.bool false) w:=bO
def Tc(v:WA)(rs:bZ)(w:Wq)(h:dY 170 2 w v rs.length (bQ rs))(R:rs.length<=1000000):WB prog 228 #[v] w fun e J=>∃d,e=.returned d/\dY 170 2 J d rs.length (bQ rs)/\Own w.heap.size d/\bE w J:=by
 rcases h with⟨rfl,E,D⟩|⟨g,cap,cs,rfl,hB,h2,h3,h4,h5,h6,h7⟩;·have L:Hid (dY 170 2 w nZ rs.length (bQ rs)):=.inl ⟨rfl,E,D⟩;have N:=qaf w;go_enter func228,ntmps228;go_wp2;go_ret;exact⟨_,rfl,L.out,fun k r=>by simp[eT]at r,qlw _ _⟩
 ·have N:=Xk w (ay g 0) rs.length cap;obtain⟨a,i⟩:=bT (w.alloc (.cells #[] 170));have l:aL a w.heap.size 170 []:=by rw[i];exact aL.new w 170 []
  have f:bE w a:=by rw[i];exact(qlw _ w).alloc (qj _) _
  have F:a.heap.size=w.heap.size+1:=by rw[i];simp
  have y:aL a g 170 cs:=hB.of_heap (f.block g hB.lt);have b:∀j u,(bQ rs)[j]?=some u->a.cell? ((ay g 0).add j)=some u:=fun j u q=>by
   rw[qmb,qm5,y.cell];rw[<-h6,qm6]at q;split at q;·exact q
   ·cases q
  obtain⟨d,p,H,o,s,t⟩:∃d p,(∀G,(mI #[63,63] G #[dh w.heap.size 0 0,dh g rs.length cap]).run prog a=.ok d p)/\dY 170 2 p d rs.length (bQ rs)/\Own w.heap.size d/\bE w p:=by
   by_cases M:rs.length=0;·have z:rs=[]:=qn9.1 M;subst z;have C:=fun G=>gG (P:=prog) (w:=a) 63 63 G 170 _ 2 16 M5.ht M5.ht M5.hi (n:=0) (c:=0) (m:=0) (mc:=cap) l (ay g 0) (vs:=[]) rfl (fun j v q=>by simp at q) (fun v A=>by cases A) (qj _) (qj _);refine⟨_,_,C,.inr ⟨w.heap.size,0,_,rfl,l.put _,rfl,qj _,aj,rfl,rfl,fun v A=>by cases A⟩,fun k r=>by simp[eT]at r;omega,?_⟩;exact f.trans ((⟨(dZ a w.heap.size _).os,(dZ a w.heap.size _).tape,(dZ a w.heap.size _).output,(dZ a w.heap.size _).size,fun k r=>gY a _ k _ aj⟩:Below w.heap.size a _))
   ·have x:dY 170 2 a (dh w.heap.size 0 0) 0 []:=.inr ⟨w.heap.size,0,[],rfl,l,rfl,qj _,aj,rfl,rfl,fun v A=>by cases A⟩;obtain⟨d,p,H,B,o⟩:=je M5 x (ay g 0) rs.length cap (bQ rs) (by rw[m_];omega) aj (mQ rs) b aj;have I:Own w.heap.size (dh w.heap.size 0 0):=fun k r=>by simp[eT]at r;omega
    exact⟨d,p,H,by simpa using B,o.own I aj,f.trans (o.below I aj)⟩
  obtain⟨O,Q,rfl,_⟩:=o.shape;have K:=aF (dw o (dw s t));clear o s t b y F f l hB h2 h3 h4 h5 h6 h7;subst i;go_enter func228,ntmps228;go_wp2_with (at_builtin;refine qmm _ rfl _ _ _ _ rfl _ _ rfl rfl _ _ (H _) ?_);go_ret;exact⟨_,rfl,K.out⟩
def Iz(a:Option V3)(n c:Nat)(w:Wq):qH 227 #[.slice a n c] w (.func (.func 293) #[] #[aJ w.heap.size 0]) fun e=>e=w.alloc (.cells #[.slice a n c] 63):=by have d:∀(b:Fn) (first cap:Array WA) (w:Wq),(Instr.makeFunc b first cap).run prog w=.ok (.func b first cap) w:=fun _ _ _ _=>rfl;go_enter func227,ntmps227;go_wp2;go_ret;exact⟨rfl,rfl⟩
section
attribute [local go_sem] qou
def bw(rs:bZ)(k:Nat):List (Nat×Nat×Nat):=(List.range k).map fun j=>(rs.length-1-j,rs.getD (rs.length-1-j) (0,0))
def qag(rs:bZ)(k:Nat):bw rs (k+1)=bw rs k++[(rs.length-1-k,rs.getD (rs.length-1-k) (0,0))]:=by simp[bw,List.range_succ]
def Td(rs:bZ)(k:Nat):(bw rs k).length=k:=by simp[bw]
def Xl(F:Fence)(n:Nat)(M:F.fn 293)(L:F.round=none)(hn:1<=n){d:Nat}(l:Nat)(v:WA)(rs:bZ)(h4:rs.length<=1000000)(Kp:Wq->Wq->Prop)(w:∀A B,Kp A B->B.heap[d]?=A.heap[d]?/\∀g,v.ownBlock=some g->B.heap[g]?=A.heap[g]?)(J N:List (Nat×Nat×Nat)->Wq->Prop)(P:∀b x W,J b W->b.length<rs.length->YieldAt F (n-1) prog l #[iZ x.1,.agg #[uZ x.2.1,uZ x.2.2]] W fun e p=>
   (e=.returned (.bool true)/\J (b++[x]) p/\Kp W p)\/(e=.returned (.bool false)/\N (b++[x]) p)){W:Wq}(o:aL W d 63 [v])(f:dY 170 2 W v rs.length (bQ rs))(h0:J [] W):CallsIn F n prog 293 #[.func (.yield l) #[] #[],aJ d 0] W fun e p=>(∃v,e=.returned v)/\((∃V,V=bw rs rs.length/\J V p)\/(∃b,(∃k,k<=rs.length/\b=bw rs k)/\N b p)):=by
 obtain⟨a,c,rfl,hc⟩:=f.shape;have k0:W.cell? (ay d 0)=some (.slice a rs.length c):=o.cell 0;have X:=aF o;have Y:=aF f;have Z:=aF P;have C:=aF w;clear o f P w;refine callsIn_of_wp func293 rfl M ?_ L;simp only[ntmps293,qp1,qmp,qnc,nV,oC,qq4,qq3,qp5,qq5,qmq,qom];gi_wp2;gi_loopw [3] (fun i wr=>∃k m:Nat,k+m=rs.length/\i=(iZ ((m:Int)-1))/\Hid (J (bw rs k) wr/\aL wr d 63 [.slice a rs.length c]/\dY 170 2 wr (.slice a rs.length c) rs.length (bQ rs)))
  (fun i _=>(fA i+1).toNat)
 case atStart=>exact⟨0,rs.length,aj,rfl,h0,X.out,Y.out⟩
 case round=>
  obtain⟨k,m,h2,rfl,q⟩:=hrel;obtain⟨H,o,f⟩:=q.out;have h5:wr.cell? (ay d 0)=some (.slice a rs.length c):=o.cell 0;cases m with
  |zero=>have E:((0:Nat):Int)-1= -1:=aj;rw[E];obtain rfl:k=rs.length:=aj;clear H o f;gi_wp2;go_end0;exact⟨⟨_,rfl⟩,.inl ⟨_,rfl,q.out.1⟩⟩
  |succ m=>
   have E:((m+1:Nat):Int)-1=(m:Int):=aj;rw[E];have Q:m<rs.length:=aj;have h3:(m:Int)<(rs.length:Int):=aj;obtain⟨g,hg,c0,_⟩:=f.cell rfl (m*2) _ (vw rs m Q);obtain⟨G,t,c1,_⟩:=f.cell rfl (m*2+1) _ (vB rs m Q);subst hg;have I:G=g:=by simp at t;exact t.symm
   subst I;have K:rs.length-1-k=m:=aj;have j:=aF (qag rs k);rw[K]at j;generalize rs.getD m (0,0)=xy at *
   obtain⟨x,y⟩:=xy;dsimp only at c0 c1;obtain⟨fn,U,assign,body,R,O⟩:=Z.out _ (m,x,y) wr H (by rw[Td];omega);dsimp only at R;clear H o f;gi_wp2;refine O.mono ?_;rintro e D (⟨rfl,r,u⟩|⟨rfl,s⟩)
   ·obtain⟨S,T⟩:=C.out _ _ u;have z:Hid (J (bw rs (k+1)) D/\aL D d 63 [dh G rs.length c]/\dY 170 2 D (dh G rs.length c) rs.length (bQ rs)):=
     ⟨by rw[j.out];exact r,q.out.2.1.of_heap S,q.out.2.2.of_heap T⟩
    clear r u S T q O R;gi_wp2;go_roundw;case rel=>exact⟨k+1,m,aj,by go_num,z⟩
    case measure=>simp[fA]
   ·gi_wp2;refine Vl (results_none rfl _ _ _) rfl ?_;exact⟨⟨_,rfl⟩,.inr ⟨_,⟨k+1,aj,j.out.symm⟩,s⟩⟩
end
section
attribute [local go_sem] qou
def IB{β:Type}(B b:Nat)(t:Vg)(l:bJ):OwnFrom B (fun(_:β) W=>aL W b t l):=fun _ X Y row a f g=>a.of_heap (f.block b a.lt (fun e=>by obtain⟨_,o,c,d⟩:=g b e.symm;rw[show X.heap[b]?=_ from a]at c;cases c;cases d))
def KpO(a E:Nat)(W b:Wq):Prop:=W.heap.size<=b.heap.size/\(∀k,a<=k->k<E->b.heap[k]?=W.heap[k]?)/\KeepsFrom a W b
def encR(x:Nat×Nat):Array WA:=#[.agg #[uZ x.1,uZ x.2]]
def Xm(rs:bZ)(k:Nat)(c:k<=rs.length):(bw rs k).map (·.2)=rs.reverse.take k:=by
 apply qon;intro j;by_cases a:j<k;·rw[qm6,bM a,List.getElem?_reverse aj];have b:rs.length-1-j<rs.length:=aj;simp[bw,a,b]
 ·rw[qn7 (by simp[bw];omega),qn7 rR]
end
section
attribute [local go_sem] qou
def Xn(n:Nat)(hn:4<=n){sb:Nat}(l L:Nat)(rs:bZ){A:Wq}(base:Option V3)(c:Nat)(h8:A.cell? (ay L 227)=some (.slice base rs.length c))(Z:dY 170 2 A (.slice base rs.length c) rs.length (bQ rs))(H:aL A sb 273 [aJ L 225])(hv:rs.length<=1000000)(J S:Nat->bZ->Wq->Prop)(hJ:∀E,OwnFrom A.heap.size (J E))(hj:∀E,OwnFrom A.heap.size (S E))(h0:∀E W,bE A W->J E [] W)(hY:∀m E a x W,A.heap.size<=E->E<=W.heap.size->J E a W->a.length<rs.length->YieldAt kg m prog l (encR x) W fun e T=>
   (e=.returned (.bool true)/\J E (a++[x]) T/\KpO A.heap.size E W T)\/(e=.returned (.bool false)/\S E (a++[x]) T/\KpO A.heap.size E W T)):CallsIn kg n prog 226 #[.func (.yield l) #[] #[],aJ sb 0] A fun e T=>(∃v,e=.returned v)/\∃E,A.heap.size<=E/\(J E rs.reverse T\/(∃k,k<=rs.length/\S E (rs.reverse.take k) T)):=by
 have M:1<=n:=aj;obtain⟨W0,h5⟩:=bT (A.alloc (.cells #[.func (.yield l) #[] #[]] 325));have j:bE A W0:=by rw[h5];exact(qlw _ A).alloc (qj _) _
 have I:aL W0 A.heap.size 325 [.func (.yield l) #[] #[]]:=by rw[h5];exact aL.new A 325 _
 have k0:A.cell? (ay sb 0)=some (aJ L 225):=H.cell 0;have Xo:=H.lt;have k1:W0.cell? (ay sb 0)=some (aJ L 225):=(H.of_heap (j.block sb Xo)).cell 0;have k2:W0.cell? (ay L 227)=some (.slice base rs.length c):=cell_of h8 (j.block L (qmf A _ (by rw[h8])));have hf:dY 170 2 W0 (.slice base rs.length c) rs.length (bQ rs):=Z.of_heap (fun b hb=>j.block b (Z.lt b hb));have HC:=aF (Tc _ rs W0 hf hv);have he:=aF I;have h9:=aF j;have HJ:=aF hJ;have ha:=aF hj;have H0:=aF h0;have HY:=aF hY;clear h8 Z hf j I hJ hj h0 hY H;refine callsIn_of_wp_marks func226 rfl trivial ?_ rfl;simp only[ntmps226,qp1,qmp,qnc,nV,oC,qq4,qq3,qp5,qq5,qmq,qom];subst h5;gi_wp2_with (refine⟨trivial,?_⟩;gi_at_call 228;refine(callsIn_wide.2 HC.out).mono ?_;rintro e f ⟨v1,rfl,y,Co,u⟩);obtain⟨a1,c1,rfl,_⟩:=y.shape;refine⟨trivial,?_⟩;refine(callsIn_wide.2 (Iz a1 rs.length c1 f)).mono ?_;rintro e d ⟨rfl,B⟩;have t:Hid (bE A d/\aL d A.heap.size 325 [.func (.yield l) #[] #[]]/\aL d f.heap.size 63 [.slice a1 rs.length c1]/\dY 170 2 d (.slice a1 rs.length c1) rs.length (bQ rs)/\Own A.heap.size (.slice a1 rs.length c1)/\A.heap.size<f.heap.size/\d.heap.size=f.heap.size+1):=by
  have h6:bE f d:=by rw[B];exact(qlw _ f).alloc (qj _) _
  have hA1:bE A f:=h9.out.trans (u.mono aM);have G:A.heap.size<f.heap.size:=by have:=u.size;simp at this;omega
  refine⟨hA1.trans (h6.mono hA1.size),he.out.of_heap ?_,?_,y.of_heap (fun b hb=>h6.block b (y.lt b hb)),fun k C=>?_,G,?_⟩;·rw[h6.block _ G,u.block _ aM]
  ·rw[B];exact aL.new f 63 _
  ·have:=Co k C;simp at this;omega
  ·rw[B];simp
 clear y Co u B he h9 HC k0 k1 k2;gi_wp2;have O:SeqStopsK kg (n-1) prog 293 #[aJ f.heap.size 0] (fun x:Nat×Nat×Nat=>#[iZ x.1,.agg #[uZ x.2.1,uZ x.2.2]]) (fun X Y=>∀k,A.heap.size<=k->k<d.heap.size->Y.heap[k]?=X.heap[k]?) (fun ys=>ys=bw rs rs.length) (fun a=>∃k,k<=rs.length/\a=bw rs k) rs.length d:=fun l' J' x0 W hW _ _ x3 x1=>by obtain⟨hA2,I,hu,z,hm,x2,x4⟩:=t.out;exact Xl kg (n-1) trivial rfl aj l' _ rs hv _ (fun X Y C=>⟨C _ aj aj,fun g N=>C g (hm g N) (z.lt g N)⟩) J' x0 x3 (hu.of_heap (hW.block _ aj)) (z.of_heap (fun b hb=>hW.block b (z.lt b hb))) x1
 have Xp:A.heap.size<d.heap.size:=by obtain⟨hA2,I,hu,z,hm,x2,x4⟩:=t.out;omega
 have eG:∀(Q:Nat->bZ->Wq->Prop) (E:Nat),OwnFrom A.heap.size (Q E)->OwnFrom d.heap.size (fun(a:List (Nat×Nat×Nat)) W=>Q E (a.map (·.2)) W):=fun Q E h s X Y row hs N hr=>h _ X Y row hs N (fun r e=>⟨qlz (qoo Xp) (hr r e).1,(hr r e).2⟩);have hw:OwnFrom d.heap.size (fun(_:List (Nat×Nat×Nat)) (W:Wq)=>d.heap.size<=W.heap.size):=fun s X Y row hs N hr=>qlz hs N.size;refine wpIn_rangeFunc_ownH (F:=kg) (w:=d) rfl M (gf:=293) (lb:=#[aJ f.heap.size 0]) rfl trivial (enters_of func293 bO rfl) O
  (fun h k i M h2=>(k i M h2).trans (h i M h2)) (fun W l' o o' x6 ho _ _ i M h2=>eB aj) (qlw _ _) (fun _=>rfl)
  (fun a W=>J d.heap.size (a.map (·.2)) W/\aL W A.heap.size 325 [.func (.yield l) #[] #[]]/\d.heap.size<=W.heap.size)
  (fun c a W=>c=.ret/\S d.heap.size (a.map (·.2)) W)
  (OwnFrom.and (eG J _ (HJ.out _)) (OwnFrom.and (IB _ _ _ _) hw))
  (fun c=>OwnFrom.and (ownFrom_pure _ _) (eG S _ (ha.out _)))
  ⟨H0.out _ _ t.out.1,t.out.2.1,qj _⟩
  (fun x a' W=>∃V,aL W V 170 [uZ x.2.1,uZ x.2.2]/\a'={tmps:=#[.func (.yield l) #[] #[],aJ sb 0,aJ A.heap.size 0,undef,aJ V 0,aJ L 225,aJ L 225,aJ L 227,.slice base rs.length c,.slice a1 rs.length c1,.func (.func 293) #[] #[aJ f.heap.size 0],iZ x.1,.agg #[uZ x.2.1,uZ x.2.2],undef,undef,undef,undef],defers:=[]})
  (fun x a' _ X Y row hs N hr=>by obtain⟨V,M,h2⟩:=hs;exact⟨V,IB _ _ _ _ () X Y row M N hr,h2⟩)
  ?assign ?body ?done ?stop
 case assign=>rintro l' a x W K ⟨P,i2,i3⟩ hK;gi_wp2;refine hK _ _ ((KeepsOthers.alloc _ _).from _) (fun k M h2=>qmr _ _ _ aj) ⟨OwnFrom.alloc (eG J _ (HJ.out _)) _ P,i2.alloc _,rR⟩ ⟨W.heap.size,aL.new W 170 [uZ x.2.1,uZ x.2.2],rfl⟩
 case body=>
  rintro l' a x a' W hl ⟨r,hr⟩ ⟨P,i2,i3⟩ ⟨V,h7,rfl⟩ G;obtain⟨fn,R,assign,body,hy,hR⟩:=HY.out (n-1-1-1) d.heap.size (a.map (·.2)) x.2 W (qoo Xp) i3 P (by simpa using G);have h4:RoundIn (Fence.wide.inRound l') (n-1-1-1) prog l fn R assign body W _:=hR;unfold encR at hy;have y0:W.cell? (ay A.heap.size 0)=some (.func (.yield l) #[] #[]):=i2.cell 0;have y1:W.cell? (ay V 0)=some (uZ x.2.1):=h7.cell 0;have y2:W.cell? (ay V 1)=some (uZ x.2.2):=h7.cell 1;have hx:=aF i2;clear hR O eG hw P i2 h7;gi_wp2;refine⟨fun _=>aj,h4.mono ?_⟩;rintro e U (⟨rfl,p,q⟩|⟨rfl,p,q⟩)
  ·have HF:Hid (KeepsFrom d.heap.size W U/\(∀k,A.heap.size<=k->k<d.heap.size->U.heap[k]?=W.heap[k]?)/\J d.heap.size ((a++[x]).map (·.2)) U/\aL U A.heap.size 325 [.func (.yield l) #[] #[]]/\d.heap.size<=U.heap.size):=by
    obtain⟨q1,q2,q3⟩:=q;refine⟨⟨q3.size,fun k o C ho hc=>q3.same k o aj ho hc⟩,q2,by rw[qnb];exact p,hx.out.of_heap (q2 _ (qj _) Xp),aj⟩
   clear p q h4 hy y0 y1 y2;gi_wp2;exact HF.out
  ·have HF:Hid (KeepsFrom d.heap.size W U/\S d.heap.size ((a++[x]).map (·.2)) U):=by
    obtain⟨q1,q2,q3⟩:=q;exact⟨⟨q3.size,fun k o C ho hc=>q3.same k o aj ho hc⟩,by rw[qnb];exact p⟩
   clear p q h4 hy y0 y1 y2;gi_wp2;exact⟨HF.out.1,rfl,HF.out.2⟩
 case done=>
  rintro D ys W hD x5 ⟨P,_,_⟩ hK;subst x5;have h3:J d.heap.size rs.reverse (W.putObj D (.deferred none)):=by have:=(HJ.out d.heap.size).putObj (.deferred none) P aj hK rfl;rwa[Xm rs rs.length (qj _),qmo aM]at this
  gi_wp2;refine⟨aM,.inl ⟨_,_,rfl,run_takeDeferred hK,?_⟩⟩;exact⟨_,results_none rfl _ _ _,⟨_,rfl⟩,_,qoo Xp,.inl h3⟩
 case stop=>
  rintro D c' a W hD ⟨k,C,rfl⟩ ⟨rfl,P⟩ hK;have h3:S d.heap.size (rs.reverse.take k) (W.putObj D (.deferred none)):=by have:=(ha.out d.heap.size).putObj (.deferred none) P aj hK rfl;rwa[Xm rs k C]at this
  gi_wp2;refine⟨aM,.inl ⟨_,_,rfl,run_takeDeferred hK,?_⟩⟩;exact⟨_,results_none rfl _ _ _,⟨_,rfl⟩,_,qoo Xp,.inr ⟨k,C,h3⟩⟩
end
section
attribute [local go_sem] qou
def Xq(w:Wq){d:Array Oper}{rest:List Oper}{o:Oper}(i:o.guard=none)(s x:Operand)(t:Vg)(b:o.op=Op.call {callee:=Callee.builtin Builtin.append,args:=#[s,x],argTypes:=#[t,t]})(vs e:WA)(k:a.eval s=vs)(l:a.eval x=e)(v':WA)(w':Wq)(j:(mI #[t,t] o.type #[vs,e]).run P w=.ok v' w')(h:wpListIn F n P d Q rest (a.put o.dst v') w'):wpListIn F n P d Q (o::rest) a w:=
 wpListIn_plain i fun K f=>by
  unfold sM;constructor;·simp[rD,b,resolve,Target.leads,qow]
  ·rw[mE F _ _ (by rw[b];intro c g;cases g)];simp[execOp,b,resolve,invoke,builtin,k,l,j,Result.andThen];exact f _ _ h
def wI{g:Operand}{e:Array Tmp}{assign body:Code}(h:∀c d b,c=assign->d=body->b=a->(Code.rangeFunc g e c d).wpIn F n P Q b w):(Code.rangeFunc g e assign body).wpIn F n P Q a w:=h _ _ _ rfl rfl rfl
def qah{β:Type}{I:β->Wq->Prop}(h:∀s X Y,I s X->Y.os=X.os->Y.tape=X.tape->Y.output=X.output->X.heap.size<=Y.heap.size->(∀k,k<X.heap.size->k<B->Y.heap[k]?=X.heap[k]?)->(∀k t l,aL X k t l->Y.heap[k]?=X.heap[k]?)->I s Y):OwnFrom B I:=fun s X Y row f a c=>h s X Y f a.os a.tape a.output a.size (fun k d g=>a.block k d (fun e=>bR ((c k e.symm).1))) (fun k t l b=>IB B k t l () X Y row b a c |>.trans b.symm)
def Xr{e:Vg}{k:Nat}{w':Wq}{l:bJ}(h:dY e k w v n l)(f:∀b t l,aL w b t l->w'.heap[b]?=w.heap[b]?):dY e k w' v n l:=by
 rcases h with h|⟨g,cap,c,rfl,a,d⟩;·exact .inl h
 ·exact .inr ⟨g,cap,c,rfl,a.of_heap (f _ _ _ a),d⟩
def qez{wr:Wq}{a:bZ}(h:dY 170 2 wr v a.length (bQ a))(y:Own B v)(A:B<=wr.heap.size)(J:a.length<=100000000)(f d:Nat):∃g c l,(∀G,(mI #[63,63] G #[v,dh wr.heap.size 1 1]).run prog (wr.alloc (.cells #[uZ f,uZ d] 170))=.ok (dh g (a.length+1) c) l)/\dY 170 2 l (dh g (a.length+1) c) (a++[(f,d)]).length (bQ (a++[(f,d)]))/\Own B (dh g (a.length+1) c)/\Below B wr l/\∀k,k<wr.heap.size->v.ownBlock≠some k->l.heap[k]?=wr.heap[k]?:=by
 have r:=h.lt;have t:dY 170 2 (wr.alloc (.cells #[uZ f,uZ d] 170)) v a.length (bQ a):=h.of_heap (fun b C=>qmr _ _ _ (r b C));obtain⟨I,l,H,i,o⟩:=je M5 t (ay wr.heap.size 0) 1 1 [uZ f,uZ d] rfl gP (fun v z=>by simp at z;rcases z with rfl|rfl<;>rfl)
  (fun j u F=>by rw[qmb,qm5,(aL.new wr 170 [uZ f,uZ d]).cell];exact F) aj
 have p:=o.own y rR;have w:=o.below y rR;have q:Below B wr (wr.alloc (.cells #[uZ f,uZ d] 170)):=(qlw _ wr).alloc A _;obtain⟨n,m,rfl⟩:∃n m,I=(dh n (a.length+1) m):=by
  rcases i with⟨_,x,_⟩|⟨n,m,_,x,_⟩;·omega
  ·exact⟨n,m,x⟩
 have s:bQ a++[uZ f,uZ d]=bQ (a++[(f,d)]):=by rw[jW];rfl
 rw[s]at i;exact⟨n,m,l,H,by rw[qm0];exact i,p,q.trans w,fun k D E=>by rw[o.1.block k rR (fun e=>E e.symm),qmr _ _ _ D]⟩
def JC(w:Wq)(c L D:Nat)(b:Loop)(E:Nat)(a:bZ)(W:Wq):Prop:=
 bE w W/\(∃v,aL W c 63 [v]/\dY 170 2 W v a.length (bQ a)/\Own E v)/\W.heap[L]?=some (.loop b)/\W.heap[D]?=some (.deferred (some []))
def JC.own{i L D:Nat}{d:Loop}{E:Nat}(r:L<B)(q:D<B)(y:w.heap.size<=B):OwnFrom B (JC w i L D d E):=qah fun s X Y t j l m n b h=>by obtain⟨a,⟨v,e,o,p⟩,f,g⟩:=t;have x:=(qmt.1 f).1;have u:=(qmt.1 g).1;exact⟨⟨j.trans a.os,l.trans a.tape,m.trans a.output,qlz a.size n,fun k c=>(b k (bR a.size) aj).trans (a.block k c)⟩,⟨v,e.of_heap (h _ _ _ e),Xr o h,p⟩,(b L x r).trans f,(b D u q).trans g⟩
def ER(sb sp:Nat)(rs:bZ)(base:Option V3)(c:Nat)(w:Wq)(h0:w.cell? (ay sp 227)=some (.slice base rs.length c))(hG:dY 170 2 w (.slice base rs.length c) rs.length (bQ rs))(F:aL w sb 273 [aJ sp 225])(x8:rs.length<=1000000):WB prog 308 #[nZ,.func (.func 226) #[] #[aJ sb 0]] w fun e w'=>∃J,e=.returned J/\dY 170 2 w' J rs.reverse.length (bQ rs.reverse)/\Own w.heap.size J/\bE w w':=by
 have x7:∀(b:Nat) (W:Wq),(binOp BinOp.eql 234 (.func (.func 226) #[] #[aJ b 0]) .nilFunc).run prog W=.ok (.bool false) W:=fun _ _=>bO;have HS:=aF (dw h0 (dw hG F));have Xo:=F.lt;have xa:=qmf w _ (by rw[h0]);clear h0 hG F;refine(callsIn_wide (n:=10)).1 ?_;refine callsIn_of_wp_marks func308 rfl trivial ?_ rfl;simp only[ntmps308,qp1,qmp,qnc,nV,oC,qq4,qq3,qp5,qq5,qmq,qom];gi_wp2;obtain⟨a,h2⟩:=bT (w.alloc (.cells #[nZ] 63));rw[<-h2];have R:Hid (bE w a/\a.heap.size=w.heap.size+1/\aL a w.heap.size 63 [nZ]):=by rw[h2];exact⟨(qlw _ w).alloc (qj _) _,aM,aL.new w 63 [nZ]⟩
 clear h2 x7;refine wI (fun ag bd a0 has hf Y=>wpIn_rangeFunc ?_);intro fn _;obtain⟨i,d⟩:∃i:LoopState->Option Code->Loop,i=fun st pe=>{state:=st,pending:=pe,fn:=fn,tmps:=a0.tmps,params:=#[7],assign:=ag,body:=bd,defers:=a.heap.size}:=⟨_,rfl⟩;obtain⟨A,U⟩:=bT ((a.alloc (.deferred (some []))).alloc (.loop (i .ready none)));obtain⟨Z,ho,x3⟩:=R.out;obtain⟨r1,r2,r3⟩:=HS.out;have hr:A.heap.size=a.heap.size+2:=by rw[U];simp
 have Te:bE a A:=by rw[U];exact((qlw _ a).alloc (qj _) _).alloc aM _
 have X:A.heap[a.heap.size+1]?=some (.loop (i .ready none)):=by rw[U];have:=nU (a.alloc (.deferred (some []))) (.loop (i .ready none));rwa[qmx]at this
 have V:A.heap[a.heap.size]?=some (.deferred (some [])):=by rw[U];exact(qmr _ _ _ aM).trans (nU a _)
 have Tf:bE w A:=Z.trans (Te.mono aj);have y2:=r3.of_heap (Tf.block _ Xo);have y3:=x3.of_heap (Te.block _ x3.lt);have y4:A.cell? (ay sp 227)=some (.slice base rs.length c):=cell_of r1 (Tf.block _ xa);have y5:dY 170 2 A (.slice base rs.length c) rs.length (bQ rs):=r2.of_heap (fun b hb=>Tf.block b (r2.lt b hb));clear r1 r2 r3;refine⟨a.heap.size+1,[{target:=.collected a.heap.size,args:=#[]}],A,{target:=.fn (.func 226) #[aJ sb 0],args:=#[.func (.yield (a.heap.size+1)) #[] #[]]},A,226,#[.func (.yield (a.heap.size+1)) #[] #[],aJ sb 0],A,?_,?_,fun _ _=>trivial,?_,fun _=>aj,?_⟩;·rw[U,d];exact run_enterLoop_outer _ _ _ _ _
 ·rw[Y];simp[resolve,Act.eval,go_sem]
 ·simp[invoke,go_sem]
 ·refine(Xn (10-1) aj (a.heap.size+1) sp rs base c y4 y5 y2 x8 (JC w w.heap.size (a.heap.size+1) a.heap.size (i .ready none)) (fun _ _ _=>False)
   (fun E=>JC.own aj aj aj) (fun E=>ownFrom_pure _ _) (fun E W hW=>?_) ?_).mono ?_
  ·exact⟨Tf.trans (hW.mono aj),⟨_,y3.of_heap (hW.block _ aj),dY.nil _ _ _,fun k f=>by simp[eT]at f⟩,(hW.block _ aj).trans X,(hW.block _ aj).trans V⟩
  ·intro m E j x W hE xm hJ xd;obtain⟨B,⟨J,h3,I,T⟩,K,h7⟩:=hJ;have hy:=run_yield (P:=prog) (args:=encR x) K (by rw[d];rfl);have hu:=(qmt.1 K).1;obtain⟨Wa,p⟩:=bT (W.alloc (.cells #[uZ x.1,uZ x.2] 170));have he:Wa.heap[a.heap.size+1]?=some (.loop (i .ready none)):=by rw[p];exact(qmr _ _ _ hu).trans K
   obtain⟨u,y⟩:∃u,u=Wa.putObj (a.heap.size+1) (.loop {i .ready none with state:=.busy}):=⟨_,rfl⟩;have hg:(Instr.beginRound (a.heap.size+1)).run prog Wa=.ok () u:=by rw[y];exact run_beginRound he (by rw[d])
   have F:u.heap.size=W.heap.size+1:=by rw[y,p];simp
   have M:∀k,k<W.heap.size->k≠a.heap.size+1->u.heap[k]?=W.heap[k]?:=fun k f hn=>by rw[y,eB hn,p];exact qmr _ _ _ f
   have hj:u.heap[a.heap.size+1]?=some (.loop {i .ready none with state:=.busy}):=by rw[y];exact nA (by rw[p];simp;omega)
   have h8:aL u W.heap.size 170 [uZ x.1,uZ x.2]:=by have z:=aL.new W 170 [uZ x.1,uZ x.2];rw[y];refine aL.of_heap (w:=Wa) (by rw[p];exact z) (eB aj)
   have N:u.os=W.os/\u.tape=W.tape/\u.output=W.output:=by rw[y,p];exact⟨rfl,rfl,rfl⟩
   have b3:=h3.of_heap (M _ h3.lt aj);have b4:dY 170 2 u J j.length (bQ j):=I.of_heap (fun k f=>M k (I.lt k f) (bR (T k f)));obtain⟨g,C,S,uI,c1,c2,c3,c4⟩:=qez b4 T aj aj x.1 x.2;obtain⟨G,H,rfl,_⟩:=I.shape;have d3:u.cell? (ay w.heap.size 0)=some (.slice G j.length H):=b3.cell 0;have Ti:∀k,k<E->(pO G j.length H).ownBlock≠some k:=fun k f e=>bR (T k e);have e3:=b3.of_heap (c4 _ b3.lt (Ti _ aj));have e6:=(c4 _ aj (Ti _ aj)).trans hj;have xe:S.cell? (ay w.heap.size 0)=some (.slice G j.length H):=e3.cell 0;have xj:=e3.frozen 0;have xf:u.cell? (ay W.heap.size 0)=some (uZ x.1):=h8.cell 0;have xi:u.cell? (ay W.heap.size 1)=some (uZ x.2):=h8.cell 1;rw[d]at hy;refine⟨fn,_,ag,bd,hy,roundIn_of_wpIn trivial ?_⟩;clear hy;have hw:∀(W6:Wq),W6=S.setCell (ay w.heap.size 0) (dh g (j.length+1) C)->∃r,(Instr.endRound (a.heap.size+1) none).run prog W6=.ok (.bool true) r/\r.heap[a.heap.size+1]?=some (.loop (i .ready none))/\KpO A.heap.size E W r/\bE w r/\(∃v,aL r w.heap.size 63 [v]/\dY 170 2 r v (j++[x]).length (bQ (j++[x]))/\Own E v)/\r.heap[a.heap.size]?=some (.deferred (some [])):=by
    intro W6 Mq;have hc:W6.heap[a.heap.size+1]?=some (.loop {i .ready none with state:=.busy}):=by rw[Mq,qmd _ _ _ _ rR];exact e6
    have hm:=run_endRound (P:=prog) none hc;obtain⟨r,UG⟩:=bT (W6.putObj (a.heap.size+1) (.loop (i .ready none)));refine⟨r,?_,?_,?_⟩;·rw[hm,UG,d];rfl
    ·rw[UG];exact nA (qmt.1 hc).1
    have o7:∀k,k≠a.heap.size+1->k≠w.heap.size->r.heap[k]?=S.heap[k]?:=fun k n1 n2=>by rw[UG,eB n1,Mq,qmd _ _ _ _ n2]
    have s7:r.heap.size=S.heap.size:=by rw[UG,Mq];simp
    have h9:r.os=S.os/\r.tape=S.tape/\r.output=S.output:=by rw[UG,Mq];exact⟨rfl,rfl,rfl⟩
    have s5:=c3.size;have oW:∀k,k<W.heap.size->k≠a.heap.size+1->k≠w.heap.size->(pO G j.length H).ownBlock≠some k->r.heap[k]?=W.heap[k]?:=fun k f n1 n2 n3=>by rw[o7 k n1 n2,c4 k aj n3,M k f n1]
    have xn:=c2 g rfl;have x2:g≠a.heap.size+1:=aj;have x1:g≠w.heap.size:=aj;refine⟨⟨aj,fun k k1 k2=>oW k aj aj aj (Ti k k2),⟨aj,fun k o k1 k2 k3=>?_⟩⟩,⟨?_,?_,?_,bR B.size,fun k f=>?_⟩,⟨_,?_,c1.of_heap (fun k f=>?_),c2⟩,?_⟩
    ·have x6:=(qmt.1 k2).1;rw[oW k x6 aj aj (fun e=>?_),k2];rcases I with⟨e',_⟩|⟨g',cap,cs,e',hB,_⟩;·rw[e']at e;simp[eT]at e
     ·rw[e']at e;simp[eT]at e;subst e;have:=hB.symm.trans k2;simp at this;rw[<-this]at k3;cases k3
    ·rw[h9.1,c3.os,N.1,B.os]
    ·rw[h9.2.1,c3.tape,N.2.1,B.tape]
    ·rw[h9.2.2,c3.output,N.2.2,B.output]
    ·rw[oW k (bR B.size) aj aj (Ti k aj),B.block k f]
    ·rw[UG];refine aL.of_heap (w:=W6) ?_ (eB aj);rw[Mq];exact e3.Na 0 _
    ·have x5:k=g:=by simp[eT]at f;omega
     subst x5;exact o7 k x2 x1
    ·rw[oW _ aj aj aj (Ti _ aj),h7]
   have mh:=aF hw;have ha:=aF hg;clear hw hg he M hj h8 N b3 b4 c1 c2 c3 c4 e3 e6 B h3 I T K h7 Ti X V Te Tf y2 y3 y4 y5 Z x3 HS R U ho hr F y hu d;subst has hf Y;simp only[encR];gi_wp2;rw[<-p];refine⟨u,ha.out,?_⟩;clear p ha;have xo:j.length<=1000000:=aj;gi_wp2_with (gi_at_builtin;refine Xq _ rfl _ _ _ rfl _ _ rfl rfl _ _ (uI _) ?_);obtain⟨r,r1,r2,r3,r4,r5,r6⟩:=mh.out _ rfl;exact⟨_,_,r1,.inl ⟨rfl,⟨r4,r5,r2,r6⟩,r3⟩⟩
  ·rintro e W ⟨⟨v,rfl⟩,E,xl,hJ|⟨k,f,hJ⟩⟩
   ·obtain⟨B,⟨J,h3,I,T⟩,K,h7⟩:=hJ;have gT:=(qmt.1 K).1;obtain⟨s,Ew⟩:∃s,s=W.putObj (a.heap.size+1) (.loop {i .ready none with state:=.exhausted}):=⟨_,rfl⟩;have Q:(Instr.endLoop (a.heap.size+1)).run prog W=.ok none s:=by
     have:=run_endLoop (P:=prog) K (by rw[d];simp);rw[Ew];rw[d]at this ⊢;exact this
    refine⟨none,s,Q,?_⟩;have q:∀k,k≠a.heap.size+1->s.heap[k]?=W.heap[k]?:=fun k f=>by rw[Ew];exact eB f
    have x9:s.heap.size=W.heap.size:=by rw[Ew];simp
    have O:s.os=W.os/\s.tape=W.tape/\s.output=W.output:=by rw[Ew];exact⟨rfl,rfl,rfl⟩
    have z3:=h3.of_heap (q _ aj);have z7:=(q _ aj).trans h7;have D:bE w s:=⟨O.1.trans B.os,O.2.1.trans B.tape,O.2.2.trans B.output,bR B.size,fun k f=>(q k aj).trans (B.block k f)⟩;obtain⟨G,H,rfl,_⟩:=I.shape;have zc:s.cell? (ay w.heap.size 0)=some (.slice G (rs.reverse).length H):=z3.cell 0;have HF:Hid (dY 170 2 (s.putObj a.heap.size (.deferred none)) (.slice G (rs.reverse).length H) (rs.reverse).length (bQ rs.reverse)/\Own w.heap.size (.slice G (rs.reverse).length H)/\bE w (s.putObj a.heap.size (.deferred none))):=by
     refine⟨?_,fun k f=>?_,⟨D.os,D.tape,D.output,by have:=D.size;simpa using this,fun k f=>(eB aj).trans (D.block k f)⟩⟩
     ·refine I.of_heap (fun k f=>?_);have x4:∃t l,aL W k t l:=by
       rcases I with⟨e,_⟩|⟨g,cap,cs,e,hB,_⟩;·rw[e]at f;simp[eT]at f
       ·rw[e]at f;simp[eT]at f;subst f;exact⟨_,_,hB⟩
      obtain⟨t,l,L⟩:=x4;have n1:k≠a.heap.size+1:=fun e=>by rw[e]at L;have:=L.symm.trans K;cases this
      have n2:k≠a.heap.size:=fun e=>by rw[e]at L;have:=L.symm.trans h7;cases this
      rw[eB n2,q k n1]
     ·have:=T k f;omega
    have hx:Hid (∀v,v=pO G (rs.reverse).length H->∃J,fB v=fB J/\dY 170 2 (s.putObj a.heap.size (.deferred none)) J rs.reverse.length (bQ rs.reverse)/\Own w.heap.size J/\bE w (s.putObj a.heap.size (.deferred none))):=fun v hv=>⟨v,rfl,by rw[hv];exact HF.out⟩;clear HF;generalize x0:(rs.reverse).length=N9 at zc;clear B h3 I T K h7 Q q x9 O z3 D gT hr Te X V Tf y2 y3 y4 y5 Z ho x3 U Ew d has hf R HS;subst Y;gi_wp2;refine⟨aM,.inl ⟨_,_,rfl,run_takeDeferred z7,?_⟩⟩;exact⟨.slice G N9 H,by simp[results,results308,go_sem],hx.out _ (by rw[x0])⟩
   ·exact hJ.elim
end
end Go.Proofs.YtphbledmopchnaaGreatDoor.St
namespace Go.Proofs.YtphbledmopchnaaGreatDoor.Sd
open Go.RowKit Go.Lib Mm Go.Maps Tryz
section
section
variable {F:Fence} {n:Nat} (w:Wq) {ops:Array Oper} {rest:List Oper} {o:Oper} {a:Act} {Q:Exit->Act->Wq->Prop}
def Og(k:o.guard=none)(m:Operand)(d:o.op=Op.range 203 m)(b:Nat)(l:List jQ)(p:a.eval m=.map (some b))(h:mD w b l)(i:∀e,tV e b w.heap.size l l->w.grownBy e none->e.heap.size=w.heap.size+1->wpListIn F n prog ops Q rest (a.put o.dst (aJ w.heap.size 0)) e):wpListIn F n prog ops Q (o::rest) a w:=by
 refine wpListIn_plain k fun t g=>?_;obtain⟨e,f,q,r,s⟩:=h.range;unfold sM;constructor;·simp[rD,d]
 ·rw[mE F _ _ (by rw[d];intro c j;cases j)];simp[execOp,d,p,f,Result.andThen];exact g _ _ (i e q r s)
def Tj(q:o.guard=none)(k:Operand)(e:o.op=Op.next k false)(b r:Nat)(l lf:List jQ)(hit:a.eval k=(aJ r 0))(h:tV w b r l lf)(g:lf=[]->wpListIn F n prog ops Q rest (a.put o.dst (.tuple #[.bool false])) w)(i:∀(x:jQ) (f:Wq),x∈lf->x.1<18446744073709551616->tV f b r l (lf.filter fun y=> !decide (y.1=x.1))->f.rangeLeft b r<w.rangeLeft b r->w.grownBy f (some r)->f.heap.size=w.heap.size->(mK (aJ r 0)).run prog f=.ok (.tuple #[uZ x.1,wX x.2]) f->wpListIn F n prog ops Q rest (a.put o.dst (.tuple #[.bool true,uZ x.1,wX x.2])) f):wpListIn F n prog ops Q (o::rest) a w:=by
 refine wpListIn_plain q fun s j=>?_;unfold sM;constructor;·simp[rD,e]
 ·rw[mE F _ _ (by rw[e];intro c p;cases p)];rcases h.next o.type with⟨m,d⟩|⟨x,f,h1,h2,d,h3,h4,h5,h6,h7⟩;·simp[execOp,e,hit,d,Result.andThen];exact j _ _ (g m)
  ·simp[execOp,e,hit,d,Result.andThen];exact j _ _ (i x f h1 h2 h3 h4 h5 h6 h7)
end

end
end Go.Proofs.YtphbledmopchnaaGreatDoor.Sd
namespace Go.Proofs.YtphbledmopchnaaGreatDoor.Sd
open Go.RowKit Go.Lib Mm Tryz
def TF(S aW named n:Nat)(x:Option V3×Nat×Nat×Nat)(w:Wq)(c:w.cell? (ay S 3)=some (uZ aW))(k:w.cell? (ay S 232)=some (uZ named))(i:x.2.2.2<=aW)(v:aW<18446744073709551616)(A:n+3<18446744073709551616):qH 192 #[aJ S 0,uZ n,wX x] w (.bool (decide (6<=aW-x.2.2.2)||decide (n+3<named))) fun l=>bE w l:=by
 obtain⟨d,f,e,t⟩:=x;have y:IntKind.u64.wrap ((aW:Int)-(t:Int))=((aW-t:Nat):Int):=by rw[qn5];have j:t<=aW:=i;omega
 have z:IntKind.u64.wrap ((n:Int)+3)=((n+3:Nat):Int):=by rw[qn5];omega
 have j:t<=aW:=i;clear i;show qH 192 #[aJ S 0,uZ n,.agg #[.slice d f e,uZ t]] w (.bool (decide (6<=aW-t)||decide (n+3<named))) fun l=>bE w l;generalize r:aW-t=D at *
 generalize s:n+3=o at *
 clear r s;obtain⟨W,b⟩:=bT (w.alloc (.cells #[.slice d f e,uZ t] 289));have a:bE w W:=by rw[b];exact(qlw _ w).alloc (qj _) _
 have B:W.cell? (ay S 3)=some (uZ aW):=cell_of c (a.block _ (qmf w _ (by rw[c])));have C:W.cell? (ay S 232)=some (uZ named):=cell_of k (a.block _ (qmf w _ (by rw[k])));have E:W.cell? (ay w.heap.size 1)=some (uZ t):=by rw[b];exact(aL.new w 289 [.slice d f e,uZ t]).cell 1
 have m:Hid (∀q,bE w (W.drewN q)):=fun q=>⟨a.os,a.tape,a.output,a.size,a.block⟩;clear c k a;by_cases p:6<=D;·have g:(6:Int)<=(D:Int):=aj;rw[decide_eq_true p];go_enter func192,ntmps192;go_wp2;rw[<-b];clear b;go_quiet (fail);go_wp2;go_ret;exact⟨rfl,m.out _⟩
 ·have g:decide ((6:Int)<=(D:Int))=false:=decide_eq_false aj;rw[decide_eq_false p];have u:(decide ((o:Int)<(named:Int)))=decide (o<named):=aM;go_enter func192,ntmps192;go_wp2;rw[<-b];clear b;go_quiet (fail);go_wp2;go_ret;exact⟨aM,m.out _⟩
def qf0(S b n nx:Nat)(x:Option V3×Nat×Nat×Nat)(w:Wq)(c:w.cell? (ay b 0)=some (aJ S 0))(j:w.cell? (ay S 229)=some (uZ nx))(l:n+64<18446744073709551616):qH 195 #[uZ n,wX x,aJ b 0] w (.bool (decide (n+64<nx))) fun a=>bE w a:=by
 obtain⟨d,f,e,t⟩:=x;have i:IntKind.u64.wrap ((n:Int)+64)=((n+64:Nat):Int):=by rw[qn5];omega
 show qH 195 #[uZ n,.agg #[.slice d f e,uZ t],aJ b 0] w (.bool (decide (n+64<nx))) fun a=>bE w a;generalize g:n+64=k at *
 clear g;have m:b<w.heap.size:=qmf w _ (by rw[c]);have o:S<w.heap.size:=qmf w _ (by rw[j]);go_enter func195,ntmps195;go_wp2;go_ret;exact⟨aM,(qlw _ w).alloc (qj _) _⟩
def Ol{rs:bZ}{k n:Nat}(a:k<rs.length):names (rs.drop k) n=(decide ((rs.getD k (0,0)).1<=n)&&decide (n<=(rs.getD k (0,0)).2)||names (rs.drop (k+1)) n):=by
 have e:rs.drop k=rs.getD k (0,0)::rs.drop (k+1):=by rw[qnq a,qly,qm3 a];rfl
 rw[e];rfl
def TG(a:Option V3)(rs:bZ)(c n:Nat)(w:Wq)(z:jA w a rs)(H:rs.length<=1000000):qH 338 #[.slice a rs.length c,uZ n] w (.bool (names rs n)) fun E=>bE w E:=by
 have B:=aF z;clear z;go_enter func338,ntmps338;go_wp2;go_loopw [9] (fun t wr=>∃k:Nat,k<=rs.length/\t=(iZ k)/\Hid (bE w wr/\names (rs.drop k) n=names rs n)) (fun t _=>rs.length-(fA t).toNat);case atStart=>exact⟨0,qm2 _,rfl,qlw _ _,rfl⟩
 case round=>
  obtain⟨k,G,rfl,u⟩:=hrel;obtain⟨i,d⟩:=u.out;by_cases j:k<rs.length
  ·have y:(k:Int)<(rs.length:Int):=aj;obtain⟨b,o,rfl,C,D,_⟩:=(B.out.below i) k j;have e:=Ol (n:=n) j;rw[d]at e;generalize rs.getD k (0,0)=F at *
   obtain⟨s,r⟩:=F;dsimp only at C D e;have f:Hid (∀o,bE w (wr.alloc o)):=fun o=>i.alloc i.size _;have g:=aF e;clear d e i;by_cases v:s<=n
   ·have p:(s:Int)<=(n:Int):=aj;by_cases x:n<=r;·have q:(n:Int)<=(r:Int):=aj;go_wp2;go_ret;exact⟨by rw[g.out,decide_eq_true v,decide_eq_true x];rfl,f.out _⟩
    ·have q:¬(n:Int)<=(r:Int):=aj;have m:Hid (names (rs.drop (k+1)) n=names rs n):=by rw[Hid,g.out,decide_eq_false x];simp
     go_wp2;go_roundw;case rel=>exact⟨k+1,aj,aM,f.out _,m.out⟩
     case measure=>simp[fA];omega
   ·have p:¬(s:Int)<=(n:Int):=aj;have m:Hid (names (rs.drop (k+1)) n=names rs n):=by rw[Hid,g.out,decide_eq_false v];simp
    go_wp2;go_roundw;case rel=>exact⟨k+1,aj,aM,f.out _,m.out⟩
    case measure=>simp[fA];omega
  ·obtain rfl:k=rs.length:=aj;have A:Hid (names rs n=false):=by rw[Hid,<-d,qqj];rfl
   have l:=aF i;clear d i u;go_wp2;go_ret;exact⟨by rw[A.out];rfl,l.out⟩
def XA(b n:Nat)(a:Option V3)(rs:bZ)(c:Nat)(x:Option V3×Nat×Nat×Nat)(w:Wq)(m:w.cell? (ay b 0)=some (.slice a rs.length c))(k:jA w a rs)(o:rs.length<=1000000):qH 337 #[uZ n,wX x,aJ b 0] w (.bool (names rs n)) fun d=>bE w d:=by
 obtain⟨f,i,g,t⟩:=x;show qH 337 #[uZ n,.agg #[.slice f i g,uZ t],aJ b 0] w (.bool (names rs n)) fun d=>bE w d;have p:b<w.heap.size:=qmf w _ (by rw[m]);have e:bE w (w.alloc (.cells #[.slice f i g,uZ t] 289)):=(qlw _ w).alloc (qj _) _;have l:Hid (qH 338 #[.slice a rs.length c,uZ n] (w.alloc (.cells #[.slice f i g,uZ t] 289)) (.bool (names rs n)) fun d=>bE w d):=by refine bH (TG a rs c n _ (k.below e) o) ?_;rintro d j;exact⟨rfl,e.trans (j.mono e.size)⟩
 clear e k;go_enter func337,ntmps337;go_wp2_with (go_at_call 338;refine bH l.out ?_;rintro d e);go_ret;exact⟨rfl,e⟩
end Go.Proofs.YtphbledmopchnaaGreatDoor.Sd
namespace Go.Proofs.YtphbledmopchnaaGreatDoor.Sd
open Go.RowKit Go.Lib Mm Go.Maps Tryz
variable {a:Nat->Bool}{b r:Nat}{c l lf:List Nat}{w y z:Wq}
def XJ(S g x:Nat)(w:Wq)(c:w.cell? (ay S 236)=some (uZ g))(a:x<=dH):qH 301 #[aJ S 235,uZ x] w (.bool (decide (x+32<=g))) fun d=>d=w:=by
 have e:IntKind.u64.wrap ((x:Int)+32)=((x+32:Nat):Int):=by rw[qn5];unfold dH at a;omega
 generalize b:x+32=N at *
 clear b a;go_enter func301,ntmps301;go_wp2;go_ret;exact⟨aM,rfl⟩
structure UL (w:Wq) (b r:Nat) (l:List Nat) (want:Nat->Bool) (y:Wq) (cur lf:List Nat):Prop where
 rg:Ao y b r cur lf
 cur:∀x,x∈cur↔x∈l/\(x∈lf\/want x=false)
 gr:w.grownBy y (some b)
def XK{l':List Nat}(h:l.Nodup)(a:l'.Nodup)(b:∀x,x∈l↔x∈l'):l.Perm l':=(List.perm_ext_iff_of_nodup h a).2 b
def UL.done(h:UL w b r l a y c [])(d:l.Nodup):xM y b (l.filter fun x=> !a x):=by refine h.rg.map.perm (XK h.rg.map.nodup (d.filter _) fun x=>?_);rw[h.cur,qm4];simp
def UL.stay(h:UL w b r l a y c lf)(x:Nat)(i:a x=false)(f:Ao z b r c (lf.filter fun y=> !decide (y=x)))(g:w.grownBy z (some b)):UL w b r l a z c (lf.filter fun y=> !decide (y=x)):=by
 refine⟨f,fun e=>?_,g⟩;rw[h.cur,qm4];refine and_congr_right fun j=>?_;by_cases d:e=x;·rw[d];simp[i]
 ·simp[d]
def UL.go(h:UL w b r l a y c lf)(x:Nat)(i:a x=true)(f:Ao z b r (c.filter fun e=> !decide (e=x)) ((lf.filter fun y=> !decide (y=x)).filter fun e=> !decide (e=x)))(g:w.grownBy z (some b)):UL w b r l a z (c.filter fun e=> !decide (e=x)) ((lf.filter fun y=> !decide (y=x)).filter fun e=> !decide (e=x)):=by
 refine⟨f,fun e=>?_,g⟩;rw[qm4,qm4,qm4,h.cur];by_cases d:e=x;·rw[d];simp[i]
 ·simp[d]
def KX(oZ:Own){S bi:Nat}(s g id:Nat)(l:bJ){f:List Nat}(W:aL w S TS l)(M:oZ S=s)(k:oZ bi=s+55)(c6:l[236]?=some (uZ g))(F:l[237]?=some (.map (some bi)))(h:xM w bi f)(t:id∉f)(hi:id<=dH)(r:∀x∈f,x<=dH)(hl:f.length<1000):qH 302 #[aJ S 235,uZ id] w (.tuple #[]) fun R=>xM R bi ((id::f).filter fun x=> !decide (x+32<=max g id))/\aL R S TS (l.set 236 (uZ ((max g id:Nat):Int)))/\Kp [s,s+55] oZ oZ w R:=by
 have h7:(id::f).Nodup:=List.nodup_cons.2 ⟨t,h.nodup⟩;have C:S≠bi:=fun e=>by rw[<-e,M]at k;omega
 have h6:=W.lt;obtain⟨G,hm,Y⟩:=max2 g id;rw[<-Y];have d7:w.cell? (ay S 237)=some (.map (some bi)):=by rw[W.cell];exact F
 have h8:id<18446744073709551616:=by unfold dH at hi;omega
 have P:∀x∈id::f,x<=dH:=fun x E=>by
  rcases qme.1 E with rfl|E;·exact hi
  ·exact r x E
 have HB:Hid (∀n,w.grownBy n (some bi)->n.cell? (ay S 236)=some (uZ g)/\n.frozen? (ay S 236)=false/\n.cell? (ay S 237)=some (.map (some bi))/\aL n S TS l):=fun n hg=>by have a:aL n S TS l:=W.of_heap (hg.block S h6 (fun e=>C (by simpa using e)));exact⟨by rw[a.cell];exact c6,a.frozen 236,by rw[a.cell];exact F,a⟩
 have HO:=aF (dw M (dw k (dw h7 (dw F Y))));clear W c6 F r hi Y M k;go_enter func302,ntmps302;go_wp2_with (first|(at_mapUpdate;refine zH _ rfl _ _ _ rfl bi f rfl h aj id rfl rfl h8 t ?_;intro n L d;obtain⟨V,f6,e7,a⟩:=HB.out n d;obtain⟨i,p⟩:=bT (n.setCell (ay S 236) (uZ G));have Z:xM i bi (id::f):=L.kept (by rw[p];exact qmd _ _ _ _ (fun e=>C e.symm));have HP:=aF (dw d a);clear a L)|(at_range;rw[<-p];refine Bl _ rfl _ rfl bi (id::f) rfl Z ?_;intro w0 O h3 ha)|go_in);go_frame;have HQ:Hid (∀y,i.grownBy y (some bi)->y.cell? (ay S 236)=some (uZ G)/\y.cell? (ay S 237)=some (.map (some bi))/\aL y S TS (l.set 236 (uZ G))/\Kp [s,s+55] oZ oZ w y):=fun y I=>by
  obtain⟨d,a⟩:=HP.out;obtain⟨M,k,_,F,_⟩:=HO.out;have K:aL i S TS (l.set 236 (uZ G)):=by rw[p];exact a.setCell 236 _
  have yD:aL y S TS (l.set 236 (uZ G)):=K.of_heap (I.block S K.lt (fun e=>C (by simpa using e)));refine⟨by rw[yD.cell];exact cB _ _ _ _ (by rw[<-a.cell];exact V),by rw[yD.cell,aA _ _ _ _ aj];exact F,yD,?_⟩;have k1:Kp [s,s+55] oZ oZ w n:=⟨d.os,d.tape,d.output,d.size,fun b hb t=>d.block b hb (fun e=>by simp at e;rw[e,k]at t;simp at t),fun _ _=>rfl⟩;have k2:Kp [s,s+55] oZ oZ n i:=by rw[p];exact Kp.set oZ n _ _ _ (by show oZ S∈_;rw[M];simp)
  have k3:Kp [s,s+55] oZ oZ i y:=⟨I.os,I.tape,I.output,I.size,fun b hb t=>I.block b hb (fun e=>by simp at e;rw[e,k]at t;simp at t),fun _ _=>rfl⟩;exact(k1.trans k2).trans k3
 have HN:=aF (dw HO.out.2.2.1 P);obtain⟨c,q⟩:=bT (fun x=>decide (x+32<=G):Nat->Bool);have J:Hid (∀x,c x=decide (x+32<=G)):=fun x=>by rw[q]
 clear q p V f6 e7 P HB d7 hm h t;go_loopw [4] (fun _ wr=>∃o lf:List Nat,Hid (UL i bi i.heap.size (id::f) c wr o lf)) (fun _ wr=>wr.rangeLeft bi i.heap.size);case atStart=>exact⟨id::f,id::f,(⟨O,fun x=>⟨fun r=>⟨r,.inl r⟩,fun r=>r.1⟩,h3.but _⟩:UL i bi i.heap.size (id::f) c w0 (id::f) (id::f))⟩
 case round=>
  obtain⟨o,lf,hrel⟩:=hrel;go_wp2_with (first|(at_next;refine Cn _ rfl _ rfl bi i.heap.size o lf rfl hrel.out.rg ?_ ?_)|go_in);·intro h0;go_wp2;go_end0;subst h0;obtain⟨_,_,q3,q4⟩:=HQ.out wr hrel.out.gr;refine⟨rfl,?_,q3,q4⟩;have:=hrel.out.done HN.out.1;rw[show(fun x=> !c x)=fun x=> !decide (x+32<=G)from funext fun x=>by rw[J.out]]at this;exact this
  ·intro u T r GN A z N hc h9;have H:=hrel.out;have Q:u∈id::f:=((H.cur _).1 (H.rg.sub _ r)).1;have B:i.grownBy T (some bi):=H.gr.andThen N (fun j hj=>by cases hj;exact .inl (qj _));obtain⟨V,e7,_,_⟩:=HQ.out T B;have U:Hid (qH 301 #[aJ S 235,uZ u] T (.bool (c u)) fun R=>R=T):=by
    have:=XJ S G u T V (HN.out.2 u Q);unfold Hid;rw[J.out];exact this
   have v:=aF (dw B (dw A (dw z H)));clear Q B A z H r N;cases m:c u
   ·rw[m]at U;have X:=aF m;clear m;go_wp2_with (first|(go_at_call 301;refine bH U.out ?_;rintro w4 D;subst D)|go_in);go_roundw;case rel=>exact⟨o,_,(v.out.2.2.2.stay u X.out v.out.2.1 v.out.1:UL _ _ _ _ _ _ _ _)⟩
    case measure=>exact v.out.2.2.1
   ·rw[m]at U;have X:=aF m;clear m;go_wp2_with (first|(go_at_call 301;refine bH U.out ?_;rintro w4 D;subst D)|(at_delete;refine zG _ rfl _ _ rfl bi i.heap.size o _ rfl v.out.2.1 u rfl GN ?_;intro w4 h2 h5 h4;go_frame)|go_in);refine⟨⟨_,_,(v.out.2.2.2.go u X.out h2 (v.out.1.andThen h4 (fun j hj=>by cases hj;exact .inr rfl)):UL _ _ _ _ _ _ _ _)⟩,?_⟩;exact qoq h5 v.out.2.2.1
