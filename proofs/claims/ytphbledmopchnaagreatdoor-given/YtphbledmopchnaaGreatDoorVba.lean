import Derived.Test.YtphbledmopchnaaGreatDoorVae
import Derived.Maps.RangeWalk
import Derived.LoopIn
import Derived.LoopNIn
import Derived.OwnWalkIn
import Derived.RangeFuncBound
import Derived.RangeFuncCalls
import Derived.RangeFuncLeaves
import Derived.RangeFuncNested
import Derived.Shelf.RegionOpen
import Derived.TacticsInMore
import Derived.Deep.CutRange
import Derived.Deep.RegionHeld3
import Derived.Defers
import Derived.Laws.IdiomStrings
import Derived.Recover
open Go.RowKit.Below renaming heap_setCell->fB,heap_alloc->mI
open Go.Builtin renaming append_->nA,delete_->uj
open Go.Ending renaming returned->fE
open Go.Fence renaming wide->mE
open Go.Instr renaming entry->nI,next->nV,mapUpdate->vJ,range->Ba
open Go.Maps renaming has_eq->l9,has_true_of_atKey->nL,keyOf_int_inv->tT
open Nat renaming reduceAdd->tL,reduceSub->tO
open Go.Oper renaming semAt_plain->mK,about->vU,wp->wz,wpIn->xY
open Prod renaming fst->qd
open Go.RowKit renaming intOf->fA
open Go.Value renaming ownBlock->eT,slice->tY
open Go.World renaming putObj_heap_other->eB,size_alloc->mR,putObj_heap_same->nU,alloc_heap_new->tu,ownsMap_made->tV
set_option maxHeartbeats 4000000
set_option maxRecDepth 100000
open Go renaming World->Wq,Value->Wx,Calls->WA,TypeId->WK,bodyPost_ret->VH,Addr->XK
set_option linter.all false
namespace Go.Proofs.YtphbledmopchnaaGreatDoor.Sd
open Go.RowKit Go.Lib Mm Go.Maps Tryz
variable {b r:Nat}{w w':Wq}
def zM(x:Option XK×Nat×Nat×Nat):Wx:=.agg #[.slice x.1 x.2.1 x.2.2.1,.int .u64 x.2.2.2]
def pcR(v:Wx):Option (DataW Wx×List MemPlace):=match v with
 |.agg a=>match a.toList with
  |[.slice _ _ _,.int .u64 t]=>if 0<=t then some (.held v,[])else none
  |_=>none
 |_=>none
theorem YV(x):pcR (zM x)=some (.held (zM x),[]):=by show(if(0:Int)<=(x.2.2.2:Int)then some (DataW.held (zM x),([]:List MemPlace))else none)=_;grind
theorem qf8(v y)(h:pcR v=some y):∃c,v=zM c:=by
 unfold pcR at h;split at h
 .rename_i a;split at h
  .rename_i b n c t d;split at h
   .rename_i e;refine⟨(b,n,c,t.toNat),?_⟩;unfold zM;have:a=#[.slice b n c,.int .u64 t]:=by grind
    grind
   .cases h
  .cases h
 .cases h
def en(x:Nat×(Option XK×Nat×Nat×Nat)):Lit×DataW Wx:=(.int .u64 x.1,.held (zM x.2))
abbrev kL:=Nat×(Option XK×Nat×Nat×Nat)
def Fy:Keyed prog 43:=int_keyed underlying43
def mmap:prog.underlying 203=some (.map 43 289):=bZ
def Fz(n:Nat)(h:n<18446744073709551616):keyOf prog 43 (.int .u64 n)=some (.int .u64 n):=keyOf_int_mk underlying43 (WalkArith.wf_u64 aj)
def oH(w:Wq)(b:Nat)(l:List kL):Prop:=∃a,w.ownsMap prog 43 pcR b l.length (.map a)/\a.Perm (l.map en)
def xu(w:Wq)(b r:Nat)(l lf:List kL):Prop:=
 ∃c a kM,w.ranges prog 43 pcR b r l.length (.map c) a kM/\c.Perm (l.map en)/\(∀x∈l,a (.int .u64 x.1)=true↔x∈lf)/\(∀x∈lf,x∈l)
def oH.perm{l l'}(h:oH w b l)(a:l.Perm l'):oH w b l':=by obtain⟨c,d,e⟩:=h;exact⟨c,by rw[<-a.length_eq];exact d,e.trans (a.map en)⟩
def oH.lt{w b l}(h:oH w b l):b<w.heap.size:=by obtain⟨c,a,_⟩:=h;exact a.lt
def oH.kept{l}(h:oH w b l)(i:w'.heap[b]?=w.heap[b]?):oH w' b l:=by obtain⟨d,⟨c,a,e,f⟩,g⟩:=h;exact⟨d,⟨c,a,i.trans e,f⟩,g⟩
def xu.kept{l lf}(h:xu w b r l lf)(o:w'.heap[b]?=w.heap[b]?)(p:w'.heap[r]?=w.heap[r]?):xu w' b r l lf:=by obtain⟨e,a,kM,⟨d,c,t,s,q,f,g,i,j,k,m⟩,n⟩:=h;exact⟨e,a,kM,⟨d,c,t,s,q,o.trans f,g,i,j,p.trans k,m⟩,n⟩
def xu.map{l lf}(h:xu w b r l lf):oH w b l:=by obtain⟨a,e,kM,c,d,_⟩:=h;exact⟨a,c.owns,d⟩
def xu.lt{w b r l lf}(h:xu w b r l lf):r<w.heap.size:=by obtain⟨d,c,kM,a,_⟩:=h;exact a.lt
def xu.sub{l lf}(h:xu w b r l lf):∀x∈lf,x∈l:=by obtain⟨d,c,kM,_,_,_,a⟩:=h;exact a
def oH.keys{l}(h:oH w b l):l.Pairwise fun x y=>x.1≠y.1:=by obtain⟨g,c,d⟩:=h;obtain⟨a,e,f,_⟩:=c.entries Fy;cases e;have:=(d.pairwise_iff (fun{_ _} hne=>qh hne)).1 f;rw[QL]at this;refine this.imp fun{x y} h e=>h ?_;show Lit.int .u64 x.1=Lit.int .u64 y.1;rw[e]
def oH.nodup{l}(h:oH w b l):l.Nodup:=h.keys.imp fun a e=>a (by rw[e])
theorem YW:∀{l:List kL},(l.Pairwise fun x y=>x.1≠y.1)->∀{x y},x∈l->y∈l->x.1=y.1->x=y
 |[],_,_,_,hx,_,_=>by cases hx
 |a::t,hp,x,y,hx,hy,e=>by
  obtain⟨c,b⟩:=QB.1 hp;rcases nQ.1 hx with hx'|hx';.grind
  .rcases nQ.1 hy with hy'|hy';.grind
   .exact YW b hx' hy' e
def oH.inj{l}(h:oH w b l){x y}(a:x∈l)(c:y∈l)(e:x.1=y.1):x=y:=YW h.keys a c e
def oH.made(w:Wq):oH (w.alloc (.map #[] 0)) w.heap.size []:=⟨[],tV _ _ _ _,.refl _⟩
theorem iK(a b):(Lit.int .u64 a).sameKey (.int .u64 b)=decide (a=b):=by
 by_cases h:a=b;.rw[h,QH (by trivial)];simp
 grind [Maps.sameKey_ne]
def oH.len{w b l}(h:oH w b l)(a):(Builtin.len_ #[203] a #[.map (some b)]).run prog w=.ok (.int .i64 l.length) w:=by obtain⟨e,c,d⟩:=h;have:=c.len mmap a;rw[Maps.size_eq,d.length_eq,mH]at this;exact this
theorem oH.put{l}(h:oH w b l)(k:l.length<1000000)(x)(j:x.1<18446744073709551616)(m:∀y∈l,y.1≠x.1):∃a,(vJ 203 (.map (some b)) (.int .u64 x.1) (zM x.2)).run prog w=.ok () a/\oH a b (x::l)/\w.grownBy a (some b):=by
 obtain⟨c,f,d⟩:=h;obtain⟨a,r,o,g⟩:=f.update Fy mmap (by unfold maxLen;omega) (Fz x.1 j) (YV x.2);refine⟨a,r,⟨_,o,?_⟩,g⟩;refine(WideShapes.insert_perm _ _).trans ?_;have e:c.filter (fun p=> !p.1.sameKey (.int .u64 x.1))=c:=by refine Jq.2 fun p i=>?_;obtain⟨y,n,rfl⟩:=jH.1 (d.mem_iff.1 i);show(!(Lit.int .u64 y.1).sameKey (.int .u64 x.1))=true;grind [iK]
 rw[e];exact d.cons _
def oH.range{w b l}(h:oH w b l):∃a,(Ba 203 (.map (some b))).run prog w=.ok (aK w.heap.size 0) a/\xu a b w.heap.size l l/\w.grownBy a none/\a.heap.size=w.heap.size+1:=by obtain⟨e,f,d⟩:=h;obtain⟨a,r,o,g,z⟩:=f.range Fy mmap;refine⟨a,r,⟨e,_,_,o,d,fun x c=>⟨fun _=>c,fun _=>?_⟩,fun x c=>c⟩,g,z⟩;rw[l9];exact za.2 ⟨en x,d.mem_iff.2 (YK c),QH (by trivial)⟩
theorem xu.next{w b r l lf}(h:xu w b r l lf)(A):(lf=[]/\(nV (aK r 0) false A).run prog w=.ok (.tuple #[.bool false]) w)\/∃x a,x∈lf/\x.1<18446744073709551616/\(nV (aK r 0) false A).run prog w=.ok (.tuple #[.bool true,.int .u64 x.1,zM x.2]) a/\xu a b r l (lf.filter fun y=> !decide (y.1=x.1))/\a.rangeLeft b r<w.rangeLeft b r/\w.grownBy a (some r)/\a.heap.size=w.heap.size/\(nI (aK r 0)).run prog a=.ok (.tuple #[.int .u64 x.1,zM x.2]) a:=by
 have G:=h.map;obtain⟨B,N,kM,C,i,j,D⟩:=h;rcases C.next Fy A with⟨_,J,f⟩|⟨key,v,kl,y,a,cnt',hkey,hlk,hv,hat,f,hrg,hlt,hgr,iD,hen⟩
 .refine .inl ⟨?_,f⟩;cases lf with
  |nil=>rfl
  |cons x t=>have:=(j x (D x aR)).2 aR;rw[J]at this;cases this
 .obtain⟨k,rfl,rfl,n⟩:=tT underlying43 hkey;obtain⟨c,rfl⟩:=qf8 v y hv;have M:y=(.held (zM c),[]):=by grind [YV,Option.some.inj]
  have d:=nL hat;rw[l9]at d;obtain⟨p,K,E⟩:=za.1 d;obtain⟨x,F,rfl⟩:=jH.1 (i.mem_iff.1 K);have I:(x.1:Int)=k:=by have:(Lit.int .u64 x.1).sameKey (.int .u64 k)=true:=E;grind [iK]
  subst I;have o:x∈lf:=(j x F).1 hlk;have H:x.1<18446744073709551616:=by simp[Lit.wf,IntKind.min,IntKind.max,IntKind.signed,IntKind.bits]at n;omega
  have s:zM x.2=zM c:=by
   have e:=hat .nil;rw[M]at e;unfold DataW.atKey at e;simp only at e;cases m:B.find? (fun p=>p.1.sameKey (.int .u64 x.1))with
   |none=>exact absurd E (by grind)
   |some q=>rw[m]at e;simp only at e;obtain⟨z,g,rfl⟩:=jH.1 (i.mem_iff.1 (List.mem_of_find?_eq_some m));have L:(Lit.int .u64 z.1).sameKey (.int .u64 x.1)=true:=List.find?_some (p:=fun p:Lit×DataW Wx=>p.1.sameKey (.int .u64 x.1)) m;rw[iK]at L;have u:z=x:=G.inj g F (by grind);rw[u]at e;injection e
  refine .inr ⟨x,a,o,H,by grind,⟨B,_,cnt',hrg,i,fun z g=>?_,fun z g=>D z (dY.1 g).1⟩,by rw[hrg.left_eq,C.left_eq];exact hlt,hgr,iD,by rw[hen,s]⟩;rw[iY,j z g,dY,iK];grind
theorem xu.del{w b r l lf}(h:xu w b r l lf)(n:Nat)(G:n<18446744073709551616)(s):∃a,(uj #[203,43] s #[.map (some b),.int .u64 n]).run prog w=.ok (.tuple #[]) a/\xu a b r (l.filter fun y=> !decide (y.1=n)) (lf.filter fun y=> !decide (y.1=n))/\a.rangeLeft b r<=w.rangeLeft b r/\w.grownBy a (some b):=by
 obtain⟨g,t,kM,m,E,F,L⟩:=h;obtain⟨a,c,f,d,i,j⟩:=m.drop Fy mmap (Fz n G) s;have o:(g.filter fun p=> !p.1.sameKey (.int .u64 n)).Perm ((l.filter fun y=> !decide (y.1=n)).map en):=by refine(E.filter _).trans ?_;rw[zF];refine .of_eq ?_;refine congrArg (List.map en) (List.filter_congr fun x _=>?_);show(!(Lit.int .u64 x.1).sameKey (.int .u64 n))=_;rw[iK];grind
 refine⟨a,f,⟨_,(fun x=>t x&& !x.sameKey (.int .u64 n)),c,?_,o,fun z q=>?_,fun z q=>?_⟩,by rw[d.left_eq,m.left_eq];exact i,j.grown⟩;.have e:=o.length_eq;rw[mH]at e;obtain⟨v,u,J,I,H,A,B,K,C,D⟩:=d;refine⟨v,u,J,I,H,A,B,?_,C,D⟩;rw[<-e];have:(DataW.map g).del (.int .u64 n)=.map (g.filter fun p=> !p.1.sameKey (.int .u64 n)):=rfl;grind [length_sorted]
 .have k:=(dY.1 q).1;rw[iY,F z k,dY,iK];grind
 grind
end Go.Proofs.YtphbledmopchnaaGreatDoor.Sd
namespace Go.Proofs.YtphbledmopchnaaGreatDoor.Sd
open Go.RowKit Go.Lib Mm Tryz
variable {S o:Nat}{l:bM}{w:Wq}
theorem aG{p}(h:p):Hid p:=h
def Bc{a b}(h:a=b):fE (uZ a)=.returned (uZ b):=by rw[h]
def dQ{a b}(h:a=b):fE (.bool a)=.returned (.bool b):=by rw[h]
def NY{g}(b w)(c:aS w S TS l)(h:zQ l o g)(f:g.ahead<=4096)(d:b<=dH):bN 309 #[aK S o,uZ b] w (uZ (g.jI b:Int)) fun k=>k=w:=by
 have n:w.cell? (aA S o)=some (uZ g.ahead):=by rw[c.cell];exact h.c0
 obtain⟨m,j,a⟩:=min2 (b+g.ahead) 4611686018427387903;have e:Hid (g.jI b=m):=by unfold Hid;rw[a];rfl
 generalize g.jI b=L at *
 generalize g.ahead=A at *
 unfold dH at d;have i:(b+A:Nat)<18446744073709551616:=aj;clear h c a d f;rw[YJ,show((4611686018427387903:Nat):Int)=4611686018427387903 from rfl]at j;go_enter func309,ntmps309;go_wp2;go_ret;exact⟨Bc (by rw[e.out]),rfl⟩
def NZ{g}(a w)(c:aS w S TS l)(h:zQ l o g)(i:g.ahead<=4096)(f:a<=dH):bN 251 #[aK S o,uZ a] w (.bool (g.aL a)) fun j=>∃q,j=w.drewN q:=by
 have k:w.cell? (aA S (o+2))=some (uZ g.eH):=by rw[c.cell];exact h.c2
 have n:w.cell? (aA S (o+3))=some (uZ g.aT):=by rw[c.cell];exact h.c3
 have e:=aG (fun q=>NY a (w.drewN q) c h i f);have d:Hid (g.aL a=decide (max g.eH g.aT<g.jI a)):=rfl;obtain⟨m,p,b⟩:=max2 g.eH g.aT;rw[<-b]at d;generalize g.aL a=B at *
 generalize g.jI a=L at *
 clear h c b;go_enter func251,ntmps251;go_wp2;go_quiet ((go_at_call 309;exact nC (e.out _)));go_wp2;go_ret;exact⟨dQ (by rw[d.out,decide_eq_decide]<;>omega),nq,rfl⟩
theorem JM{g}(e:Nat)(a:aS w S TS l)(h:zQ l o g):bN 296 #[aK S o,uZ e] w (.bool (decide (e<=g.eF))) fun b=>b=w:=by
 have c:w.cell? (aA S (o+1))=some (uZ g.eF):=by rw[a.cell];exact h.c1
 clear h a;go_enter func296,ntmps296;go_wp2;go_ret;exact⟨dQ (by grind),rfl⟩
def Uv(o g)(a:aS w S TS l)(h:zQ l o g):bN 397 #[aK S o] w (.tuple #[]) fun d=>∃b,gZ w d S l b o 4/\zQ b o g.kY:=by
 have e:w.cell? (aA S (o+2))=some (uZ g.eH):=by rw[a.cell];exact h.c2
 have f2:=a.frozen (o+2);have c:Hid (gZ w (w.setCell (aA S (o+2)) (uZ 0)) S l (l.set (o+2) (uZ 0)) o 4/\zQ (l.set (o+2) (uZ 0)) o g.kY):=
  ⟨gZ.one a _ _ _ _ aj aj,by rw[ay _ _ _ _ aj,h.c0];rfl,by rw[ay _ _ _ _ aj,h.c1];rfl,cZ _ _ _ _ h.c2,by rw[ay _ _ _ _ aj,h.c3];rfl⟩
 clear h a;go_enter func397,ntmps397;go_wp2;go_end0;exact⟨rfl,_,c.out⟩
def Gn.st(S o g w l)(a:aS w S TS l)(h:zQ l o g):(∀x:Nat,gZ w (w.setCell (aA S (o+1)) (uZ x)) S l (l.set (o+1) (uZ x)) o 4/\zQ (l.set (o+1) (uZ x)) o {g with eF:=x})/\(∀x:Nat,gZ w (w.setCell (aA S (o+2)) (uZ x)) S l (l.set (o+2) (uZ x)) o 4/\zQ (l.set (o+2) (uZ x)) o {g with eH:=x})/\(∀x:Nat,gZ w (w.setCell (aA S (o+3)) (uZ x)) S l (l.set (o+3) (uZ x)) o 4/\zQ (l.set (o+3) (uZ x)) o {g with aT:=x}):=
 ⟨fun x=>⟨gZ.one a _ _ _ _ aj aj,by rw[ay _ _ _ _ aj,h.c0],cZ _ _ _ _ h.c1,by rw[ay _ _ _ _ aj,h.c2],by rw[ay _ _ _ _ aj,h.c3]⟩,fun x=>⟨gZ.one a _ _ _ _ aj aj,by rw[ay _ _ _ _ aj,h.c0],by rw[ay _ _ _ _ aj,h.c1],cZ _ _ _ _ h.c2,by rw[ay _ _ _ _ aj,h.c3]⟩,fun x=>⟨gZ.one a _ _ _ _ aj aj,by rw[ay _ _ _ _ aj,h.c0],by rw[ay _ _ _ _ aj,h.c1],by rw[ay _ _ _ _ aj,h.c2],cZ _ _ _ _ h.c3⟩⟩
def eX(f:Fr)(r:Wx):Wx:=.agg #[iZ f.aD,iZ f.aF,uZ f.aC,uZ f.aO,uZ f.aN,.bool f.bL,uZ f.id,uZ f.aJ,.string f.data,r]
theorem LC(o g f d)(i:aS w S TS l)(h:zQ l o g):bN 311 #[aK S o,eX f d] w (.tuple #[]) fun r=>∃n,gZ w r S l n o 4/\zQ n o (g.aw f.aN):=by
 obtain⟨m,t,b⟩:=max2 g.eH f.aN;have p:Hid (g.aw f.aN={g with eH:=m}):=by unfold Hid;rw[b];rfl
 obtain⟨W,c⟩:=bU (w.alloc (.cells #[iZ f.aD,iZ f.aF,uZ f.aC,uZ f.aO,uZ f.aN,.bool f.bL,uZ f.id,uZ f.aJ,.string f.data,d] 65));have k:aS W w.heap.size 65 [iZ f.aD,iZ f.aF,uZ f.aC,uZ f.aO,uZ f.aN,.bool f.bL,uZ f.id,uZ f.aJ,.string f.data,d]:=by grind [aS.new]
 have a:aS W S TS l:=by rw[c];exact i.alloc _
 have j:bJ w W:=by rw[c];exact(bP _ w).alloc (aI _) _
 have e:=aG ((Gn.st S o g W l a h).2.1 m);have u:W.cell? (aA w.heap.size 4)=some (uZ f.aN):=k.cell 4;have s:W.cell? (aA S (o+2))=some (uZ g.eH):=by rw[a.cell];exact h.c2
 have f2:=a.frozen (o+2);have q:=aG j;clear h i k a j b;unfold eX;go_enter func311,ntmps311;go_wp2_with fail;rw[<-c];clear c;go_region
 all_goals go_wp2
 all_goals go_end0
 all_goals exact⟨rfl,_,gZ.after q.out e.out.1.drew,by rw[p.out];exact e.out.2⟩
theorem Uw(o g f d)(i:aS w S TS l)(h:zQ l o g):bN 396 #[aK S o,eX f d] w (.tuple #[]) fun r=>∃n,gZ w r S l n o 4/\zQ n o (g.cm f.aN):=by
 obtain⟨m,t,b⟩:=max2 g.aT f.aN;have p:Hid (g.cm f.aN={g with aT:=m}):=by unfold Hid;rw[b];rfl
 obtain⟨W,c⟩:=bU (w.alloc (.cells #[iZ f.aD,iZ f.aF,uZ f.aC,uZ f.aO,uZ f.aN,.bool f.bL,uZ f.id,uZ f.aJ,.string f.data,d] 65));have k:aS W w.heap.size 65 [iZ f.aD,iZ f.aF,uZ f.aC,uZ f.aO,uZ f.aN,.bool f.bL,uZ f.id,uZ f.aJ,.string f.data,d]:=by grind [aS.new]
 have a:aS W S TS l:=by rw[c];exact i.alloc _
 have j:bJ w W:=by rw[c];exact(bP _ w).alloc (aI _) _
 have e:=aG ((Gn.st S o g W l a h).2.2 m);have u:W.cell? (aA w.heap.size 4)=some (uZ f.aN):=k.cell 4;have s:W.cell? (aA S (o+3))=some (uZ g.aT):=by rw[a.cell];exact h.c3
 have f2:=a.frozen (o+3);have q:=aG j;clear h i k a j b;unfold eX;go_enter func396,ntmps396;go_wp2_with fail;rw[<-c];clear c;go_region
 all_goals go_wp2
 all_goals go_end0
 all_goals exact⟨rfl,_,gZ.after q.out e.out.1.drew,by rw[p.out];exact e.out.2⟩
end Go.Proofs.YtphbledmopchnaaGreatDoor.Sd
namespace Go.Proofs.YtphbledmopchnaaGreatDoor.Sd
open Go.RowKit Go.Lib Mm Go.Maps Tryz
variable {b r:Nat}{l lf:List Nat}{w:Wq}
section
def imR(v:Wx):Option (DataW Wx×List MemPlace):=match v with
 |.agg a=>match a.toList with
  |[]=>some (.held (.agg #[]),[])
  |_=>none
 |_=>none
def YX:imR (.agg #[])=some (.held (.agg #[]),[]):=rfl
theorem Uq(v y)(h:imR v=some y):v=.agg #[]/\y=(.held (.agg #[]),[]):=by
 unfold imR at h;split at h
 .rename_i a;split at h
  .rename_i b;have:a=#[]:=by grind
   grind
  .cases h
 .cases h
def ek(x:Nat):Lit×DataW Wx:=(.int .u64 x,.held (.agg #[]))
def qf9:prog.underlying 206=some (.map 43 364):=bZ
def zl(w:Wq)(b:Nat)(l:List Nat):Prop:=∃c,w.ownsMap prog 43 imR b l.length (.map c)/\c.Perm (l.map ek)
def Ls(w:Wq)(b r:Nat)(l lf:List Nat):Prop:=
 ∃d c kM,w.ranges prog 43 imR b r l.length (.map d) c kM/\d.Perm (l.map ek)/\(∀x∈l,c (.int .u64 x)=true↔x∈lf)/\(∀x∈lf,x∈l)
def zl.perm{l'}(h:zl w b l)(c:l.Perm l'):zl w b l':=by obtain⟨d,e,f⟩:=h;exact⟨d,by rw[<-c.length_eq];exact e,f.trans (c.map ek)⟩
def zl.lt{w b l}(h:zl w b l):b<w.heap.size:=by obtain⟨d,c,_⟩:=h;exact c.lt
def zl.kept{w'}(h:zl w b l)(j:w'.heap[b]?=w.heap[b]?):zl w' b l:=by obtain⟨e,⟨d,c,f,g⟩,i⟩:=h;exact⟨e,⟨d,c,j.trans f,g⟩,i⟩
def Ls.map(h:Ls w b r l lf):zl w b l:=by obtain⟨c,f,kM,d,e,_⟩:=h;exact⟨c,d.owns,e⟩
def Ls.sub(h:Ls w b r l lf):∀x∈lf,x∈l:=by obtain⟨e,d,kM,_,_,_,c⟩:=h;exact c
theorem zl.nodup(h:zl w b l):l.Nodup:=by obtain⟨i,d,f⟩:=h;obtain⟨c,e,g,_⟩:=d.entries Fy;cases e;have:=(f.pairwise_iff (fun{_ _} hne=>qh hne)).1 g;rw[QL]at this;refine this.imp fun{x y} h e=>h ?_;grind
def zl.made(w:Wq):zl (w.alloc (.map #[] 0)) w.heap.size []:=⟨[],tV _ _ _ _,.refl _⟩
theorem zl.put(h:zl w b l)(m:l.length<1000000)(x)(k:x<18446744073709551616)(n:x∉l):∃c,(vJ 206 (.map (some b)) (.int .u64 x) (.agg #[])).run prog w=.ok () c/\zl c b (x::l)/\w.grownBy c (some b):=by
 obtain⟨d,i,f⟩:=h;obtain⟨c,r,o,g⟩:=i.update Fy qf9 (by unfold maxLen;omega) (Fz x k) YX;refine⟨c,r,⟨_,o,?_⟩,g⟩;refine(WideShapes.insert_perm _ _).trans ?_;have e:d.filter (fun p=> !p.1.sameKey (.int .u64 x))=d:=by refine Jq.2 fun p j=>?_;obtain⟨y,q,rfl⟩:=jH.1 (f.mem_iff.1 j);show(!(Lit.int .u64 y).sameKey (.int .u64 x))=true;grind [iK]
 rw[e];exact f.cons _
theorem zl.look(h:zl w b l)(x:Nat)(f:x<18446744073709551616):(Instr.lookup 206 (.map (some b)) (.int .u64 x) true).run prog w=.ok (.tuple #[.agg #[],.bool (decide (x∈l))]) w:=by
 obtain⟨c,d,g⟩:=h;obtain⟨v,i,r,e⟩:=d.look_ok Fy qf9 (z:=.agg #[]) bZ YX (Fz x f);obtain⟨rfl,_⟩:=Uq _ _ e;suffices hh:Maps.has (DataW.map c) (.int .u64 x)=decide (x∈l) by rw[r,hh]
 rw[l9];refine YA.2 ?_;rw[za,decide_eq_true_eq];grind [iK,ek,List.mem_map_of_mem,WideAt.sameKey_self]
def zl.range{w b l}(h:zl w b l):∃c,(Ba 206 (.map (some b))).run prog w=.ok (aK w.heap.size 0) c/\Ls c b w.heap.size l l/\w.grownBy c none/\c.heap.size=w.heap.size+1:=by obtain⟨f,i,e⟩:=h;obtain⟨c,r,o,g,z⟩:=i.range Fy qf9;refine⟨c,r,⟨f,_,_,o,e,fun x d=>⟨fun _=>d,fun _=>?_⟩,fun x d=>d⟩,g,z⟩;rw[l9];exact za.2 ⟨ek x,e.mem_iff.2 (YK d),QH (by trivial)⟩
theorem Ls.next{w b r l lf}(h:Ls w b r l lf)(m):(lf=[]/\(nV (aK r 0) false m).run prog w=.ok (.tuple #[.bool false]) w)\/∃x d,x∈lf/\x<18446744073709551616/\(nV (aK r 0) false m).run prog w=.ok (.tuple #[.bool true,.int .u64 x,(.agg #[])]) d/\Ls d b r l (lf.filter fun y=> !decide (y=x))/\d.rangeLeft b r<w.rangeLeft b r/\w.grownBy d (some r)/\d.heap.size=w.heap.size/\(nI (aK r 0)).run prog d=.ok (.tuple #[.int .u64 x,(.agg #[])]) d:=by
 obtain⟨u,G,kM,n,q,f,s⟩:=h;rcases n.next Fy m with⟨_,C,c⟩|⟨key,v,kl,y,d,cnt',hkey,hlk,hv,hat,c,hrg,hlt,hgr,iD,hen⟩
 .refine .inl ⟨?_,c⟩;cases lf with
  |nil=>rfl
  |cons x t=>have:=(f x (s x aR)).2 aR;rw[C]at this;cases this
 .obtain⟨k,rfl,rfl,g⟩:=tT underlying43 hkey;obtain⟨rfl,rfl⟩:=Uq v y hv;have e:=nL hat;rw[l9]at e;obtain⟨p,D,E⟩:=za.1 e;obtain⟨x,F,rfl⟩:=jH.1 (q.mem_iff.1 D);have B:(x:Int)=k:=by
   have:(Lit.int .u64 x).sameKey (.int .u64 k)=true:=E;grind [iK]
  subst B;have i:=(f x F).1 hlk;have A:x<18446744073709551616:=by simp[Lit.wf,IntKind.min,IntKind.max,IntKind.signed,IntKind.bits]at g;omega
  refine .inr ⟨x,d,i,A,c,⟨u,_,cnt',hrg,q,fun z j=>?_,fun z j=>s z (dY.1 j).1⟩,by rw[hrg.left_eq,n.left_eq];exact hlt,hgr,iD,hen⟩;rw[iY,f z j,dY,iK];grind
theorem Ls.del{w b r l lf}(h:Ls w b r l lf)(n:Nat)(I:n<18446744073709551616)(u):∃c,(uj #[206,43] u #[.map (some b),.int .u64 n]).run prog w=.ok (.tuple #[]) c/\Ls c b r (l.filter fun y=> !decide (y=n)) (lf.filter fun y=> !decide (y=n))/\c.rangeLeft b r<=w.rangeLeft b r/\w.grownBy c (some b):=by
 obtain⟨i,v,kM,q,G,H,N⟩:=h;obtain⟨c,d,g,f,j,k⟩:=q.drop Fy qf9 (Fz n I) u;have s:(i.filter fun p=> !p.1.sameKey (.int .u64 n)).Perm ((l.filter fun y=> !decide (y=n)).map ek):=by refine(G.filter _).trans ?_;rw[zF];refine .of_eq ?_;refine congrArg (List.map ek) (List.filter_congr fun x _=>?_);show(!(Lit.int .u64 x).sameKey (.int .u64 n))=_;rw[iK];grind
 refine⟨c,g,⟨_,(fun x=>v x&& !x.sameKey (.int .u64 n)),d,?_,s,fun z t=>?_,fun z t=>?_⟩,by rw[f.left_eq,q.left_eq];exact j,k.grown⟩;.have e:=s.length_eq;rw[mH]at e;obtain⟨B,A,L,K,J,C,D,M,E,F⟩:=f;refine⟨B,A,L,K,J,C,D,?_,E,F⟩;rw[<-e];have:(DataW.map i).del (.int .u64 n)=.map (i.filter fun p=> !p.1.sameKey (.int .u64 n)):=rfl;grind [length_sorted]
 .have m:=(dY.1 t).1;rw[iY,H z m,dY,iK];grind
 grind
section
variable (w:Wq) {ops:Array Oper} {rest:List Oper} {o:Oper} {a:Act} {Q:Exit->Act->Wq->Prop}
def Em(i:o.guard=none)(m)(f:o.op=Op.range 206 m)(b l)(j:a.eval m=.map (some b))(h:zl w b l)(g:∀c,Ls c b w.heap.size l l->w.grownBy c none->c.heap.size=w.heap.size+1->wpList prog ops Q rest (a.put o.dst (aK w.heap.size 0)) c):wpList prog ops Q (o::rest) a w:=by refine wpList_plain i fun q e=>?_;obtain⟨c,d,k,n,p⟩:=h.range;unfold wz;simp[execOp,f,j,d,Result.andThen];exact e _ _ (g c k n p)
def FB(m:o.guard=none)(j)(i:o.op=Op.next j false)(b r l lf)(hit:a.eval j=(aK r 0))(h:Ls w b r l lf)(e:lf=[]->wpList prog ops Q rest (a.put o.dst (.tuple #[.bool false])) w)(f:∀(x) (d),x∈lf->x<18446744073709551616->Ls d b r l (lf.filter fun y=> !decide (y=x))->d.rangeLeft b r<w.rangeLeft b r->w.grownBy d (some r)->d.heap.size=w.heap.size->(nI (aK r 0)).run prog d=.ok (.tuple #[.int .u64 x,(.agg #[])]) d->wpList prog ops Q rest (a.put o.dst (.tuple #[.bool true,.int .u64 x,(.agg #[])])) d):wpList prog ops Q (o::rest) a w:=by
 refine wpList_plain m fun n g=>?_;unfold wz;rcases h.next o.type with⟨k,c⟩|⟨x,d,h1,h2,c,h3,h4,h5,h6,h7⟩;.simp[execOp,i,hit,c,Result.andThen];exact g _ _ (e k)
 .simp[execOp,i,hit,c,Result.andThen];exact g _ _ (f x d h1 h2 h3 h4 h5 h6 h7)
def CP(i:o.guard=none)(m x)(f:o.op=Op.call {callee:=Callee.builtin Builtin.delete,args:=#[m,x],argTypes:=#[206,43]})(b r l lf)(j:a.eval m=.map (some b))(h:Ls w b r l lf)(n:Nat)(p:a.eval x=.int .u64 n)(k:n<18446744073709551616)(g:∀c,Ls c b r (l.filter fun y=> !decide (y=n)) (lf.filter fun y=> !decide (y=n))->c.rangeLeft b r<=w.rangeLeft b r->w.grownBy c (some b)->wpList prog ops Q rest (a.put o.dst (.tuple #[])) c):wpList prog ops Q (o::rest) a w:=by refine wpList_plain i fun u e=>?_;obtain⟨c,d,q,s,t⟩:=h.del n k o.type;unfold wz;simp[execOp,f,resolve,invoke,builtin,j,p,d,Result.andThen];exact e _ _ (g c q s t)
def CQ(k:o.guard=none)(m x v)(g:o.op=Op.mapUpdate 206 m x v)(b l)(p:a.eval m=.map (some b))(h:zl w b l)(n:l.length<1000000)(e:Nat)(s:a.eval x=.int .u64 e)(r:a.eval v=.agg #[])(j:e<18446744073709551616)(q:e∉l)(i:∀d,zl d b (e::l)->w.grownBy d (some b)->wpList prog ops Q rest (a.put o.dst undef) d):wpList prog ops Q (o::rest) a w:=by refine wpList_plain k fun y f=>?_;obtain⟨d,c,t,u⟩:=h.put n e j q;unfold wz;simp[execOp,g,p,s,r,c,Result.andThen];exact f _ _ (i d t u)
end


end
end Go.Proofs.YtphbledmopchnaaGreatDoor.Sd
namespace Go.Proofs.YtphbledmopchnaaGreatDoor.Sd
open Go.RowKit Go.Lib Mm Tryz
variable {e:Option XK}{t:WK}{w w':Wq}
abbrev f_(f:Fr)(a:Wx):bM:=[iZ f.aD,iZ f.aF,uZ f.aC,uZ f.aO,uZ f.aN,.bool f.bL,uZ f.id,uZ f.aJ,.string f.data,a]
abbrev nO:bM:=[iZ 0,iZ 0,uZ 0,uZ 0,uZ 0,.bool false,uZ 0,uZ 0,.string ⟨#[]⟩,nZ]
theorem LD{b f d e}(c:aS w b t (f_ f (.slice d f.ranges.length e)))(a:oz f)(g:j_ w d f.ranges):rX w b 0 f d e:=
 ⟨c.cell 0,c.cell 1,c.cell 2,c.cell 3,c.cell 4,c.cell 5,c.cell 6,c.cell 7,c.cell 8,c.cell 9,g,a.Fj,a.Fp,a.k0,a.s0,a.u0⟩
structure I_ (w:Wq) (f:Fr) (ra:Option XK) (rc:Nat):Prop where
 snd:snd f=true
 ok:oz f
 vF:j_ w ra f.ranges
 cap:f.ranges.length<=rc
 lt:∀x,ra=some x->x.block<w.heap.size
 len:(bf f).length<=1000000
def I_.below{w w' f b c}(h:I_ w f b c)(a:bJ w w'):I_ w' f b c:=
 ⟨h.snd,h.ok,h.vF.below a,h.cap,fun x d=>gK (h.lt x d) a.size,h.len⟩
theorem um(f u v w)(h:I_ w f u v):bN 210 #[eX f (.slice u f.ranges.length v)] w (iZ ((bf f).length:Int)) fun y=>bJ w y:=by
 obtain⟨W,z⟩:=bU (w.alloc (.cells (f_ f (.slice u f.ranges.length v)).toArray 65));have D:aS W w.heap.size 65 (f_ f (.slice u f.ranges.length v)):=by grind [aS.new]
 have i:bJ w W:=by rw[z];exact(bP _ w).alloc (aI _) _
 have Z:W.heap.size=w.heap.size+1:=by rw[z];simp
 have b:=h.below i;have hF:=LD D b.ok b.vF;obtain⟨_,s,G,_⟩:=uO f h.snd;have U:W.cell? (aA w.heap.size 0)=some (iZ f.aD):=D.cell 0;have K:=aG (uS _ s G W);have t:∀(d:Wq) (o B:Wx),NU (W.heap.size+1) d f.aD o B->bJ W d->∃g l,o=.func (.func g) #[] l/\(∀args w,(callFunc g args).run prog w=.ok (.enter g args) w)/\WA prog g (#[nZ,aK w.heap.size 0]++l) d fun e y=>∃a c,e=.returned (.slice a (bf f).length c)/\bJ w y:=by
  intro d o B r k;obtain⟨g,l,N,O,P⟩:=Ut f r h.snd w.heap.size 0 u v h.cap;refine⟨g,l,N,O,?_⟩;have T:=k.size;have Y:=h.len;refine(P d nZ [] ⟨⟨aI _,fun _ _ _=>rfl⟩,nT.nil d,fun j S=>by simp[eT]at S,hF.below k,by simp[eT],fun x I=>by simp[eT],fun x I=>fT (b.lt x I)⟩ dZ).mono ?_;rintro e y ⟨v',rfl,p,C⟩;rw[pJ]at p;have Q:=(i.trans (k.mono aj)).trans (C.below (Own.nil _) aj);rcases p with⟨rfl,X⟩|⟨g',cap,cs,rfl,_⟩;.grind
  grind
 have m:=aG t;clear t D i b hF h s G;generalize (bf f).length=n at *
 unfold eX;unfold f_ at z;go_enter func210,ntmps210;go_wp2_with fail;rw[<-z];refine K.out.mono ?_;rintro e d ⟨o,B,rfl,r,k⟩;obtain⟨_,_,M,L,_,E⟩:=r.shape;subst E;obtain⟨g,l,F,V,H⟩:=m.out d o _ r k;subst F;have J:=aG H;have R:=qn3 g M l L;clear H r k m;go_wp2_with fail;refine J.out.mono ?_;rintro e y ⟨a,c,rfl,q⟩;have A:=aG q;clear q;go_wp2;go_ret;exact⟨rfl,A.out⟩
theorem FL(n:Nat)(w)(h:n<4611686018427387904):WA prog 211 #[nZ,uZ n] w fun e f=>∃a c,e=.returned (.slice a (Num.aB n).length c)/\bJ w f:=by
 refine(fI nZ [] n (nT.nil w) h aR).mono ?_;rintro e f ⟨j,rfl,b,d⟩;rw[pJ]at b;have g:=d.below (Own.nil _) (aI _);rcases b with⟨rfl,i⟩|⟨g',cap,cs,rfl,_⟩;.grind
 grind
def iC{a b}(h:a=b):fE (iZ a)=.returned (iZ b):=by rw[h]
theorem kK(n):1<=(Num.aB n).length/\(Num.aB n).length<=8:=by grind [Num.jr,Num.code]
def Y3(b n:Nat)(w)(r:b<=400)(j:n<4611686018427387904):bN 157 #[iZ b,uZ n] w (iZ ((b:Int)-((Num.aB n).length:Int)-4)) fun f=>bJ w f:=by
 have i:=aG (FL n w j);have q:=kK n;generalize (Num.aB n).length=k at *
 have l:(b:Int)-(k:Int)<9223372036854775808:=aj;have m: -9223372036854775808<=(b:Int)-(k:Int):=aj;have o:(b:Int)-(k:Int)-4<9223372036854775808:=aj;have p: -9223372036854775808<=(b:Int)-(k:Int)-4:=aj;go_enter func157,ntmps157;go_wp2_with fail;refine i.out.mono ?_;rintro e f ⟨a,c,rfl,d⟩;have g:=aG d;clear d;go_wp2;go_ret;exact⟨rfl,g.out⟩
theorem Y4(w a l c)(h:dX w a l)(d:a=none->l=[]):(convert 60 9 (.slice a l.length c)).run prog w=.ok (.string ⟨l.toArray⟩) w:=by
 cases a with
 |none=>obtain rfl:=d rfl;show(convert 60 9 (.slice none 0 c)).run prog w=_;rw[run_convert_bytes_string w 60 9 5 none 0 c u29 bZ u9];simp[Conv.bytesToString];rfl
 |some x=>exact run_convert_bytes_back (P:=prog) w 60 9 5 x c l u29 bZ u9 (fun j e=>by obtain⟨b,f,i,g⟩:=h j e;grind [Addr.add_lit])
def bF{y R a b c d e f g i k l}(h:aS y R t [a,b,c,d,e,f,g,i,k,l]):y.cell? (aA R 0)=some a/\y.cell? (aA R 1)=some b/\y.cell? (aA R 2)=some c/\y.cell? (aA R 3)=some d/\y.cell? (aA R 4)=some e/\y.cell? (aA R 5)=some f/\y.cell? (aA R 6)=some g/\y.cell? (aA R 7)=some i/\y.cell? (aA R 8)=some k/\y.cell? (aA R 9)=some l/\∀j,y.frozen? (aA R j)=false:=
 ⟨h.cell 0,h.cell 1,h.cell 2,h.cell 3,h.cell 4,h.cell 5,h.cell 6,h.cell 7,h.cell 8,h.cell 9,fun j=>h.frozen j⟩
def lX(x:Option Fr):Wx:=match x with
 |none=>.tuple #[eX jv nZ,.bool false]
 |some g=>.tuple #[eX g nZ,.bool true]
theorem dX.take{w a l}(h:dX w a l)(n):dX w a (l.take n):=fun j f=>by obtain⟨b,c,d,e⟩:=h j (by grind);grind
theorem dX.below'{a l}(h:dX w a l)(f:bJ w w'):dX w' a l:=fun j g=>by obtain⟨b,c,e,d⟩:=h j g;exact⟨b,c,e,(f.cell (p:=(aA b (c+j))) (iq _ _ d)).trans d⟩
theorem N7(f a p c m w)(hF:I_ w f none 0)(hr:f.ranges=[])(hb:dX w a p)(hn:a=none->p=[])(hl:p.length<=4096)(h3:p.length<=c)(u: -1000000<=m/\m<=1000000):bN 316 #[eX f nZ,.slice a p.length c,iZ m] w (lX (pK f p m)) fun w'=>bJ w w':=by
 obtain⟨W,q⟩:=bU ((w.alloc (.cells (f_ f nZ).toArray 65)).alloc (.cells (nO).toArray 65));have i:aS W w.heap.size 65 (f_ f nZ):=by rw[q];exact(aS.new w 65 _).alloc _
 have l:aS W (w.heap.size+1) 65 nO:=by rw[q];have:=aS.new (w.alloc (.cells (f_ f nZ).toArray 65)) 65 nO;grind [mR]
 have g:bJ w W:=by rw[q];exact((bP _ w).alloc (aI _) _).alloc aR _
 have iD:W.heap.size=w.heap.size+2:=by rw[q];simp
 have Z:=um f none 0 W (hF.below g);rw[hr]at Z;have K:=aG Z;have F:=hF.len;have x:Hid (pK f p m=if m<((bf f).length:Int)then none else some {f with data:=⟨(p.take (min (min p.length (m-((bf f).length:Int)).toNat) ((m-((bf f).length:Int)).toNat-((Num.aB (min p.length (m-((bf f).length:Int)).toNat)).length-1)))).toArray⟩}):=rfl;generalize pK f p m=X at *
 generalize (bf f).length=n at *
 obtain⟨x0,x1,x2,x3,x4,x5,x6,x7,x8,x9,xf⟩:=bF i;have J:=aG (dz i (dz l g));clear i l g hF Z;have r1: -9223372036854775808<=m-(n:Int):=aj;have r2:m-(n:Int)<9223372036854775808:=aj;by_cases t:m<(n:Int)
 .have HX:Hid (X=none):=by unfold Hid;rw[x.out,dN t]
  have g1:m-(n:Int)<0:=aj;clear x t;unfold eX;unfold f_ nO at q;go_enter func316,ntmps316;go_wp2_with fail;rw[<-q];refine bK K.out ?_;rintro y o;obtain⟨i,l,g⟩:=J.out;have b:=l.of_heap (o.block _ aj);obtain⟨y0,y1,y2,y3,y4,y5,y6,y7,y8,y9,yf⟩:=bF b;have I:=aG (dz b (g.trans (o.mono aj)));clear o i l g b q;go_wp2_with fail;rw[gX];have kW:=gD I.out.1 (iZ 0) (iZ 0) (uZ 0) (uZ 0) (uZ 0) (.bool false) (uZ 0) (uZ 0) (.string ⟨#[]⟩) nZ;have qm:=gF y (w.heap.size+1) (iZ 0) (iZ 0) (uZ 0) (uZ 0) (uZ 0) (.bool false) (uZ 0) (uZ 0) (.string ⟨#[]⟩) nZ;generalize kC y (w.heap.size+1) (iZ 0) (iZ 0) (uZ 0) (uZ 0) (uZ 0) (.bool false) (uZ 0) (uZ 0) (.string ⟨#[]⟩) nZ=Wf at *
  obtain⟨L,M,N,O,P,Q,R,S,T,U,_⟩:=bF kW;exact VH (v:=lX X) (by rw[HX.out];simp[results,results316,go_sem,L,M,N,O,P,Q,R,S,T,U,eX,lX,jv]) rfl ⟨rfl,qm.below I.out.2 aj⟩
 .obtain⟨r,h4⟩:∃r:Nat,m-(n:Int)=r:=⟨(m-(n:Int)).toNat,aj⟩;have G:(m-(n:Int)).toNat=r:=aj;rw[b_ t,G]at x;obtain⟨m1,hc,h6⟩:=Uu (p.length:Int) (m-(n:Int));obtain⟨k,hk⟩:=bU (min p.length r:Nat);obtain rfl:m1=(k:Int):=aj;have h0:=kK k;have h2:(Num.aB k).length=1\/64<=k:=by
   by_cases h8:k<64;.left;rw[Num.jr];unfold Num.code;grind
   grind
  have HN:=fun y=>aG (FL k y aj);rw[<-hk]at x;generalize (Num.aB k).length=d at *
  obtain⟨m2,he,h7⟩:=Uu (k:Int) (m-(n:Int)-((d:Int)-1));obtain⟨j,hj⟩:=bU (min k (r-(d-1)):Nat);obtain rfl:m2=(j:Int):=aj;rw[<-hj]at x;have C:Hid (∀y,bJ w y->(convert 60 9 (.slice a j c)).run prog y=.ok (.string ⟨(p.take j).toArray⟩) y):=fun y hy=>by have ha:(p.take j).length=j:=dZ;grind [Y4,dX.below',dX.take]
  generalize (⟨(p.take j).toArray⟩:ByteArray)=D at *
  have g1:¬(m-(n:Int)<0):=aj;have g2:(j:Int)<=(c:Int):=aj;have g3:(j:Int)<=(p.length:Int):=aj;have g4: -9223372036854775808<=m-(n:Int)-((d:Int)-1):=aj;have g5:m-(n:Int)-((d:Int)-1)<9223372036854775808:=aj;have g6: -9223372036854775808<=(d:Int)-1:=aj;have g7:(d:Int)-1<9223372036854775808:=aj;have g8:k<18446744073709551616:=aj;clear h4 t G h0 hl h3 u F h6 h7 hk hj h2 hb hn;unfold eX;unfold f_ nO at q;go_enter func316,ntmps316;go_wp2_with fail;rw[<-q];refine bK K.out ?_;rintro y o;obtain⟨i,l,g⟩:=J.out;have A:=i.of_heap (o.block _ aj);have b:=l.of_heap (o.block _ aj);have H:=g.trans (o.mono aj);have E:=HN y;have I:=aG (dz A (dz b H));have h5:=o.size;clear o i l g A b H K HN q x0 x1 x2 x3 x4 x5 x6 x7 x8 x9 xf J;go_wp2_with fail;refine E.out.mono ?_;rintro e z ⟨a',c',rfl,s⟩;obtain⟨i,l,g⟩:=I.out;have A:=i.of_heap (s.block _ aj);have b:=l.of_heap (s.block _ aj);have uT:=g.trans (s.mono aj);have h9:=C.out z uT;obtain⟨x0,x1,x2,x3,x4,x5,x6,x7,x8,x9,xf⟩:=bF A;obtain⟨y0,y1,y2,y3,y4,y5,y6,y7,y8,y9,yf⟩:=bF b;have B:=aG (dz A (dz b uT));clear s i l g A b uT C E I h5;go_wp2_with fail;rw[gX];have V:=B.out.2.1.of_heap (jg z (aA w.heap.size 8) (.string D) (w.heap.size+1) aR);have Y:=((nP.refl w.heap.size z).set 8 (.string D)).below B.out.2.2 (aI _);have kW:=gD V (iZ f.aD) (iZ f.aF) (uZ f.aC) (uZ f.aO) (uZ f.aN) (.bool f.bL) (uZ f.id) (uZ f.aJ) (.string D) nZ;have qm:=gF (z.setCell (aA w.heap.size 8) (.string D)) (w.heap.size+1) (iZ f.aD) (iZ f.aF) (uZ f.aC) (uZ f.aO) (uZ f.aN) (.bool f.bL) (uZ f.id) (uZ f.aJ) (.string D) nZ;generalize kC (z.setCell (aA w.heap.size 8) (.string D)) (w.heap.size+1) (iZ f.aD) (iZ f.aF) (uZ f.aC) (uZ f.aO) (uZ f.aN) (.bool f.bL) (uZ f.id) (uZ f.aJ) (.string D) nZ=Wf at *
  obtain⟨L,M,N,O,P,Q,R,S,T,U,_⟩:=bF kW;exact VH (v:=lX X) (by rw[x.out];simp[results,results316,go_sem,L,M,N,O,P,Q,R,S,T,U,eX,lX]) rfl ⟨rfl,qm.below Y aj⟩
def nK(n):(Num.aB n).length<=8:=(kK n).2
theorem Ab(w f)(b:snd f=true)(a:f.ranges=[])(g:f.data.size<=4096)(d:(bf f).length<=1000000):I_ w f none 0:=by
 obtain⟨⟨p,q,k,l,m,n,o⟩,h,i,_⟩:=uO f b;unfold dH at *
 exact⟨b,⟨by rw[a];simp,aj,aj,aj,aj,fun j c=>by grind⟩,fun j c=>by grind,by rw[a];simp,(fun x e=>by cases e),d⟩
theorem qgj(w aD)(a:aD=5\/aD=6)(k)(e:k<8)(x)(f:x<=dH):I_ w (lV aD k x) none 0:=by
 have b:(0:Nat)<=dH:=kX;refine Ab w _ ?_ rfl (by show(0:Nat)<=4096;decide) ?_;.grind [snd,rY,oI,lV]
 .have c:=nK k;have d:=nK x;rcases a with rfl|rfl;.simp[bf,dV,lV,fK,fu,fieldAt];omega
  .simp[bf,dV,lV,fK,fu,fieldAt];omega
abbrev grL(aD:Int)(k:Nat)(x:Int):bM:=[iZ aD,iZ k,uZ 0,uZ 0,uZ x,.bool false,uZ 0,uZ 0,.string ⟨#[]⟩,nZ]
theorem UW{S o g}(aD)(hk:aD=5\/aD=6)(k)(h8:k<8)(r s w){l}(F:aS w S TS l)(h:zQ l o g)(hg:g.ahead<=4096)(hf:r<=dH):WA prog 254 #[aK S o,eX (lV aD k 0) nZ,uZ r,iZ s] w fun e w'=>
   e=.returned (lX ((g.next aD k r s).map qd))/\∃R,gZ w w' S l R o 4/\zQ R o (((g.next aD k r s).map Prod.snd).getD g):=by
 obtain⟨L,Q⟩:=bU (g.jI r);have H:L<=dH:=by grind [Gn.jI]
 obtain⟨W,q⟩:=bU ((w.alloc (.cells (grL aD k 0).toArray 65)).alloc (.cells (nO).toArray 65));have t:aS W w.heap.size 65 (grL aD k 0):=by rw[q];exact(aS.new w 65 _).alloc _
 have I:aS W (w.heap.size+1) 65 nO:=by rw[q];have:=aS.new (w.alloc (.cells (grL aD k 0).toArray 65)) 65 nO;grind [mR]
 have u:bJ w W:=by rw[q];exact((bP _ w).alloc (aI _) _).alloc aR _
 have iD:W.heap.size=w.heap.size+2:=by rw[q];simp
 have G:=F.of_heap (u.block _ F.lt);have x:=aG (NY r W G h hg hf);rw[<-Q]at x;obtain⟨A,f⟩:=bU (W.setCell (aA w.heap.size 4) (uZ L));have p:aS A w.heap.size 65 (grL aD k L):=by rw[f];exact t.setCell 4 _
 have a:aS A (w.heap.size+1) 65 nO:=by rw[f];exact I.of_heap (jg _ _ _ _ aR)
 have i:bJ w A:=by rw[f];exact((nP.refl w.heap.size W).set 4 _).below u (aI _)
 have h0:A.heap.size=w.heap.size+2:=by rw[f];simpa using iD
 have zk:=aG (um _ none 0 A (qgj A aD hk k h8 L H));have O:Hid (g.next aD k r s=if s<((bf (lV aD k L)).length:Int)then none else some (lV aD k L,({g with eF:=L}:Gn).aw L)):=by unfold Hid;rw[Q];rfl
 generalize g.next aD k r s=X at *
 generalize hn:(bf (lV aD k L)).length=n at *
 have D:=aG (dz F (dz h Q));obtain⟨x0,x1,x2,x3,x4,x5,x6,x7,x8,x9,xf⟩:=bF t;have U:=aG (dz p (dz a i));have G5:=F.lt;clear t I u G F h p a i hg hf H Q;unfold eX lV;unfold grL nO at q;by_cases M:s<(n:Int)
 .have E:Hid (X=none):=by unfold Hid;rw[O.out,dN M]
  clear O;go_enter func254,ntmps254;go_wp2_with fail;rw[<-q];refine bK x.out ?_;rintro y rfl;obtain⟨p,a,i⟩:=U.out;obtain⟨u0,u1,u2,u3,u4,u5,u6,u7,u8,u9,uf⟩:=bF p;have V:=aG (dz a i);clear q p a i;go_wp2_with fail;rw[<-f];refine bK zk.out ?_;rintro z b;obtain⟨a,i⟩:=V.out;have C:=a.of_heap (b.block _ aj);have B:=i.trans (b.mono aj);obtain⟨y0,y1,y2,y3,y4,y5,y6,y7,y8,y9,yf⟩:=bF C;have P:=aG (dz C B);clear b a i C B u0 u1 u2 u3 u4 u5 u6 u7 u8 u9 uf x0 x1 x2 x3 x4 x5 x6 x7 x8 x9 xf;go_wp2_with fail;rw[gX];have kW:=gD P.out.1 (iZ 0) (iZ 0) (uZ 0) (uZ 0) (uZ 0) (.bool false) (uZ 0) (uZ 0) (.string ⟨#[]⟩) nZ;have qm:=gF z (w.heap.size+1) (iZ 0) (iZ 0) (uZ 0) (uZ 0) (uZ 0) (.bool false) (uZ 0) (uZ 0) (.string ⟨#[]⟩) nZ;generalize kC z (w.heap.size+1) (iZ 0) (iZ 0) (uZ 0) (uZ 0) (uZ 0) (.bool false) (uZ 0) (uZ 0) (.string ⟨#[]⟩) nZ=Wf at *
  obtain⟨a0,a1,a2,a3,a4,a5,a6,a7,a8,a9,_⟩:=bF kW;refine VH (v:=lX (X.map qd)) (by rw[E.out];simp[results,results254,go_sem,a0,a1,a2,a3,a4,a5,a6,a7,a8,a9,eX,lX,jv]) rfl ⟨rfl,l,(gZ.refl D.out.1 o 4).iQ (qm.below P.out.2 aj),?_⟩;rw[E.out];exact D.out.2.1
 .have E:Hid (X=some (lV aD k L,({g with eF:=L}:Gn).aw L)):=by unfold Hid;rw[O.out,b_ M]
  clear O;go_enter func254,ntmps254;go_wp2_with fail;rw[<-q];refine bK x.out ?_;rintro y rfl;obtain⟨p,a,i⟩:=U.out;obtain⟨u0,u1,u2,u3,u4,u5,u6,u7,u8,u9,uf⟩:=bF p;clear q p a i;go_wp2_with fail;rw[<-f];refine bK zk.out ?_;rintro z b;obtain⟨p,a,i⟩:=U.out;have Jf:=p.of_heap (b.block _ aj);have C:=a.of_heap (b.block _ aj);have B:=i.trans (b.mono aj);have T:=D.out.1.of_heap (B.block _ G5);have c:=(Gn.st S o g z l T D.out.2.1).1 L;have h6:=b.size;obtain⟨Z,hZ⟩:=bU (z.setCell (aA S (o+1)) (uZ L));rw[<-hZ]at c;have j:aS Z w.heap.size 65 _:=Jf.of_heap (by grind [fB]);have m:aS Z (w.heap.size+1) 65 _:=C.of_heap (by grind [fB]);have h3:Z.heap.size=z.heap.size:=by rw[hZ];simp
  have Sc:=aG (LC o {g with eF:=L} (lV aD k L) nZ c.1.cK c.2);have c1:z.cell? (aA S (o+1))=some (uZ g.eF):=by rw[T.cell];exact D.out.2.1.c1
  have f1:=T.frozen (o+1);obtain⟨v0,v1,v2,v3,v4,v5,v6,v7,v8,v9,vf⟩:=bF Jf;have h4:¬(S=w.heap.size):=aj;have h5:¬(w.heap.size=S):=aj;have P:=aG (dz j (dz m (dz c B)));clear b p a i Jf C B T c u0 u1 u2 u3 u4 u5 u6 u7 u8 u9 uf x0 x1 x2 x3 x4 x5 x6 x7 x8 x9 xf j m;go_wp2_with fail;rw[<-hZ];refine bK Sc.out ?_;rintro y ⟨R,d,J⟩;obtain⟨j,m,c,K⟩:=P.out;have N:=d.other j aj;have Si:=d.other m aj;obtain⟨x0,x1,x2,x3,x4,x5,x6,x7,x8,x9,xf⟩:=bF N;obtain⟨y0,y1,y2,y3,y4,y5,y6,y7,y8,y9,yf⟩:=bF Si;have Y:=aG (dz Si (dz (gZ.after K (c.1.trans d)) J));clear d J j m c K N Si v0 v1 v2 v3 v4 v5 v6 v7 v8 v9 vf;go_wp2_with fail;rw[gX];have kW:=gD Y.out.1 (iZ aD) (iZ k) (uZ 0) (uZ 0) (uZ L) (.bool false) (uZ 0) (uZ 0) (.string ⟨#[]⟩) nZ;have qm:=gF y (w.heap.size+1) (iZ aD) (iZ k) (uZ 0) (uZ 0) (uZ L) (.bool false) (uZ 0) (uZ 0) (.string ⟨#[]⟩) nZ;generalize h2:kC y (w.heap.size+1) (iZ aD) (iZ k) (uZ 0) (uZ 0) (uZ L) (.bool false) (uZ 0) (uZ 0) (.string ⟨#[]⟩) nZ=Wf at *
  obtain⟨a0,a1,a2,a3,a4,a5,a6,a7,a8,a9,_⟩:=bF kW;refine VH (v:=lX (X.map qd)) (by rw[E.out];simp[results,results254,go_sem,a0,a1,a2,a3,a4,a5,a6,a7,a8,a9,eX,lX,lV]) rfl ⟨rfl,R,Y.out.2.1.tch qm aj aj,?_⟩;rw[E.out];exact Y.out.2.2
abbrev FV:=Fr×Option XK×Nat×Nat
def rW(x:FV):Wx:=.slice x.2.1 x.2.2.1 x.2.2.2
def vI:List FV->bM
 |[]=>[]
 |x::t=>f_ x.1 (rW x)++vI t
def jw:FV:=(jv,none,0,0)
def Bn(w:Wq)(c:Option XK)(L:List FV):Prop:=
 ∀j,j<L.length->∃b a,c=some (aA b a)/\∀i,i<10->w.cell? (aA b (a+j*10+i))=(f_ (L.getD j jw).1 (rW (L.getD j jw)))[i]?
def Bn.below{L}(h:Bn w e L)(k:bJ w w'):Bn w' e L:=fun j m=>by
 obtain⟨b,c,g,f⟩:=h j m;refine⟨b,c,g,fun i l=>?_⟩;have d:b<w.heap.size:=by exact iq (a:=(aA b (c+j*10+0))) _ (f 0 aj)
 rw[k.cell (p:=(aA b (c+j*10+i))) d];exact f i l
def qfo.qpq{c f g}(h:qfo w e c f g)(L:List FV)(n:L.length=c.length)(l:∀j,j<c.length->L.getD j jw=(c.getD j jv,f j,(c.getD j jv).ranges.length,g j)):Bn w e L:=fun j o=>by
 obtain⟨b,d,k,a⟩:=h j aj;refine⟨b,d,k,fun i m=>?_⟩;rw[l j aj];match i,m with
 |0,_=>exact a.c0
 |1,_=>exact a.c1
 |2,_=>exact a.c2
 |3,_=>exact a.c3
 |4,_=>exact a.c4
 |5,_=>exact a.c5
 |6,_=>exact a.c6
 |7,_=>exact a.c7
 |8,_=>exact a.c8
 |9,_=>exact a.c9
def CW(P:FV->Bool)(a:List FV):Int:=if a.any P then(a.findIdx P:Int)else -1
theorem Wo{P a}(h:∀j,j<a.length->P (a.getD j jw)=false):CW P a= -1:=by unfold CW;grind
theorem Wp{P a}(i:Nat)(c:i<a.length)(h:∀j,j<i->P (a.getD j jw)=false)(d:P (a.getD i jw)=true):CW P a=(i:Int):=by
 have g:∀j (b:j<a.length),a.getD j jw=a[j]:=fun j b=>by grind
 unfold CW;grind
theorem FZ(g:Nat)(p k P K c S w)(eg:∀args w,(callFunc g args).run prog w=.ok (.enter g args) w)(hl:c.length<=1000000000)(hF:Bn w K c)(N:∀j,j<c.length->∀W,bJ w W->WA prog g (p.push (eX (c.getD j jw).1 (rW (c.getD j jw)))++k) W fun e R=>e=.returned (.bool (P (c.getD j jw)))/\bJ W R):bN 190 #[.slice K c.length S,.func (.func g) p k] w (iZ (CW P c)) fun w'=>bJ w w':=by
 have O:=aG hF;have Q:=aG N;clear hF N;obtain⟨X,G⟩:=bU (CW P c);have J:=aG G;rw[<-G];clear G;go_enter func190,ntmps190;go_wp2;go_loopw [8] (fun H wr=>∃i:Nat,i<=c.length/\H=(iZ i)/\Hid ((∀j,j<i->P (c.getD j jw)=false)/\bJ w wr)) (fun H _=>c.length-(fA H).toNat);case atStart=>exact⟨0,eG _,rfl,(⟨fun j L=>absurd L (jZ _),bP _ _⟩:_/\_)⟩
 case round=>
  obtain⟨i,hi,rfl,f⟩:=hrel;by_cases n:i<c.length
  .have M:(i:Int)<(c.length:Int):=aj;obtain⟨b,o,T,q⟩:=O.out i n;subst T;have d:∀s,s<10->wr.cell? (aA b (o+i*10+s))=(f_ (c.getD i jw).1 (rW (c.getD i jw)))[s]?:=fun s U=>by
    rw[f.out.2.cell (p:=(aA b (o+i*10+s))) (iq (a:=(aA b (o+i*10+0))) _ (q 0 aj))];grind
   have t:=d 0 aj;have u:=d 1 aj;have v:=d 2 aj;have x:=d 3 aj;have y:=d 4 aj;have z:=d 5 aj;have A:=d 6 aj;have B:=d 7 aj;have C:=d 8 aj;have D:=d 9 aj;have l:=Q.out i n wr f.out.2;have I:Hid (∀b,P (c.getD i jw)=b->P (c.getD i jw)=b):=fun _ h=>h;cases r:P (c.getD i jw)
   .rw[r]at l;have E:=aG r;clear r d q I;generalize c.getD i jw=F at t u v x y z A B C D l;obtain⟨F,V,Y,Z⟩:=F;unfold eX at l;simp only[rW,jh,gN,sN]at t u v x y z A B C D l;go_wp2_with (first|(go_at_fn g;refine bK l ?_;rintro w2 m)|go_in);go_roundw
    case rel=>exact⟨i+1,aj,aR,(⟨fun j L=>(by
     by_cases h:j=i;.rw[h];exact E.out
     .exact f.out.1 j aj),f.out.2.trans (m.mono f.out.2.size)⟩:_/\_)⟩
    grind [fA]
   .rw[r]at l;have E:=aG r;clear r d q I;generalize c.getD i jw=F at t u v x y z A B C D l;obtain⟨F,V,Y,Z⟩:=F;unfold eX at l;simp only[rW,jh,gN,sN]at t u v x y z A B C D l;go_wp2_with (first|(go_at_fn g;refine bK l ?_;rintro w2 m)|go_in);go_ret;exact⟨by rw[J.out,Wp i n f.out.1 E.out];rfl,f.out.2.trans (m.mono f.out.2.size)⟩
  .obtain rfl:i=c.length:=aj;go_wp2;go_ret;exact⟨by rw[J.out,Wo f.out.1];rfl,f.out.2⟩
theorem Oh(g:Nat)(p k P b a d w)(m:∀args w,(callFunc g args).run prog w=.ok (.enter g args) w)(n:a.length<=1000000000)(hF:Bn w b a)(f:∀j,j<a.length->∀W,bJ w W->WA prog g (p.push (eX (a.getD j jw).1 (rW (a.getD j jw)))++k) W fun e l=>e=.returned (.bool (P (a.getD j jw)))/\bJ W l):bN 231 #[.slice b a.length d,.func (.func g) p k] w (.bool (a.any P)) fun o=>bJ w o:=by
 have i:=aG (FZ g p k P b a d w m n hF f);have q:decide ((0:Int)<=CW P a)=a.any P:=by unfold CW;grind
 generalize a.any P=B at *
 generalize CW P a=X at *
 clear f hF;go_enter func231,ntmps231;go_wp2_with (first|(go_at_call 190;refine bK i.out ?_;rintro r c)|go_in);go_ret;exact⟨rfl,c⟩
theorem qkq(f a w):bN 232 #[eX f a] w (.bool (decide (f.aD≠2))) fun c=>bJ w c:=by unfold eX;go_enter func232,ntmps232;go_wp2;go_ret;refine⟨congrArg (fun b=>fE (.bool b)) ?_,(bP _ w).alloc (aI _) _⟩;grind
theorem JX(a L c w)(g:L.length<=1000000000)(hF:Bn w a L):bN 182 #[.slice a L.length c] w (.bool (fZ (L.map qd))) fun i=>bJ w i:=by
 have d:=aG (Oh 232 #[] #[] (fun f=>decide (f.1.aD≠2)) a L c w (enters_of func232 bZ rfl) g hF (fun j _ W _=>qkq _ _ W));have e:fZ (L.map qd)=L.any fun f=>decide (f.1.aD≠2):=by unfold fZ;grind
 rw[e];generalize (L.any fun f=>decide (f.1.aD≠2))=B at *
 clear hF;go_enter func182,ntmps182;go_wp2_with (first|(go_at_call 231;refine bK d.out ?_;rintro k b)|go_in);go_ret;exact⟨rfl,b⟩
def qJ(R:Nat):Nat->bM->Wq->Wq
 |_,[],y=>y
 |j,v::vs,y=>qJ R (j+1) vs (y.setCell (aA R j) v)
def pV(R):∀(b) (j) (y),nP R y (qJ R j b y)
 |[],_,y=>nP.refl R y
 |v::b,j,y=>by have h:=(nP.refl R y).set j v;have a:=pV R b (j+1) (y.setCell (aA R j) v);exact⟨a.os.trans h.os,a.tape.trans h.tape,a.output.trans h.output,a.size.trans h.size,fun k c=>(a.block k c).trans (h.block k c)⟩
def oK:Nat->bM->bM->bM
 |_,[],l=>l
 |j,v::vs,l=>oK (j+1) vs (l.set j v)
def rE{R t}:∀(a) (j) (y) (l),aS y R t l->aS (qJ R j a y) R t (oK j a l)
 |[],_,_,_,h=>h
 |v::a,j,_,_,h=>rE a (j+1) _ _ (h.setCell j v)
def UD(n w):bN 126 #[iZ n] w (.agg #[iZ n,uZ 0,nZ]) fun a=>bJ w a:=by go_enter func126,ntmps126;go_wp2_with fail;exact VH (v:=.agg #[iZ n,uZ 0,nZ]) (by simp[results,results126,go_sem]) rfl ⟨rfl,(bP _ w).alloc (aI _) _⟩
def JY(n:Nat)(d:n<=4096)(w):bN 142 #[iZ n] w (.agg #[uZ n,uZ n,uZ 0,uZ n]) fun c=>bJ w c:=by have a:(0:Int)<=(n:Int):=aj;have b:(n:Int)<18446744073709551616:=aj;go_enter func142,ntmps142;go_wp2_with fail;exact VH (v:=.agg #[uZ n,uZ n,uZ 0,uZ n]) (by simp[results,results142,go_sem]) rfl ⟨rfl,(bP _ w).alloc (aI _) _⟩
abbrev inZ:bM:=[uZ 0,uZ 0,uZ 0,uZ 0,uZ 0,nZ,nZ,uZ 0,.bool false,uZ 0,.bool false,uZ 0,iZ 0]
abbrev EH(n:Nat):bM:=[uZ n,uZ n,uZ 0,uZ n,uZ 0,nZ,nZ,uZ 0,.bool false,uZ 0,.bool false,uZ 0,iZ 0]
abbrev qkr:bM:=[nZ,.bool false,.bool false,uZ 0,uZ 0,uZ 0,uZ 0,uZ 0,iZ 0,uZ 0,nZ,iZ 0,uZ 0,nZ]
abbrev qK(n:Nat):bM:=[nZ,.bool false,.bool false,uZ 0,uZ 0,uZ 0,uZ n,uZ 0,iZ 2049,uZ 0,nZ,iZ 2049,uZ 0,nZ]
theorem qks(n:Nat)(E:n<=4096)(w):bN 145 #[iZ n] w (.agg (EH n).toArray) fun G=>bJ w G:=by
 have D:=aG (fun y=>JY n E y);obtain⟨W,j⟩:=bU (w.alloc (.cells inZ.toArray 198));have k:aS W w.heap.size 198 inZ:=by grind [aS.new]
 have c:bJ w W:=by rw[j];exact(bP _ w).alloc (aI _) _
 have e:w.heap.size<W.heap.size:=by rw[j];simp
 have p:=aG (dz k (dz c e));clear k c e;unfold inZ at j;unfold EH;go_enter func145,ntmps145;go_wp2_with fail;rw[<-j];clear j;refine bK (D.out W) ?_;rintro y d;obtain⟨k,c,e⟩:=p.out;have a:=aG (dz (k.of_heap (d.block _ e)) (c.trans (d.mono (AB e))));clear k c e d;clear p;have H:=a.out.1.cell 0;have I:=a.out.1.cell 1;have J:=a.out.1.cell 2;have K:=a.out.1.cell 3;have L:=a.out.1.cell 4;have M:=a.out.1.cell 5;have N:=a.out.1.cell 6;have O:=a.out.1.cell 7;have P:=a.out.1.cell 8;have Q:=a.out.1.cell 9;have l:=a.out.1.cell 10;have m:=a.out.1.cell 11;have o:=a.out.1.cell 12;have S:=a.out.1.frozen;simp only[jh,gN]at H I J K L M N O P Q l m o;go_wp2_with fail;have b:aS (qJ w.heap.size 0 (EH n) y) w.heap.size 198 (EH n):=rE _ 0 y _ a.out.1;have F:=pV w.heap.size (EH n) 0 y;change bodyPost _ _ _ _ _ (qJ w.heap.size 0 (EH n) y);generalize qJ w.heap.size 0 (EH n) y=R at *
 have q:=b.cell 0;have r:=b.cell 1;have s:=b.cell 2;have t:=b.cell 3;have u:=b.cell 4;have x:=b.cell 5;have z:=b.cell 6;have A:=b.cell 7;have B:=b.cell 8;have C:=b.cell 9;have f:=b.cell 10;have g:=b.cell 11;have i:=b.cell 12;simp only[jh,gN]at q r s t u x z A B C f g i;exact VH (v:=.agg (EH n).toArray) (by simp[results,results145,go_sem,q,r,s,t,u,x,z,A,B,C,f,g,i]) rfl ⟨rfl,F.below a.out.2 (aI _)⟩
theorem qfp(n:Nat)(Z:n<=4096)(w):bN 144 #[iZ n] w (.agg (qK n).toArray) fun L=>bJ w L:=by
 have I:(0:Int)<=(n:Int):=aj;have J:(n:Int)<18446744073709551616:=aj;have u:=aG (fun y=>UD 2049 y);obtain⟨W,l⟩:=bU (w.alloc (.cells qkr.toArray 194));have m:aS W w.heap.size 194 qkr:=by grind [aS.new]
 have c:bJ w W:=by rw[l];exact(bP _ w).alloc (aI _) _
 have f:w.heap.size<W.heap.size:=by rw[l];simp
 have t:=aG (dz m (dz c f));clear m c f;unfold qkr at l;unfold qK;go_enter func144,ntmps144;go_wp2_with fail;rw[<-l];clear l;refine bK (u.out W) ?_;rintro X d;go_wp2_with fail;refine bK (u.out X) ?_;rintro y o;obtain⟨m,c,f⟩:=t.out;have e:=d.trans (o.mono d.size);have a:=aG (dz (m.of_heap (e.block _ f)) (c.trans (e.mono (AB f))));clear m c f d o e;clear t;have M:=a.out.1.cell 0;have N:=a.out.1.cell 1;have O:=a.out.1.cell 2;have P:=a.out.1.cell 3;have Q:=a.out.1.cell 4;have R:=a.out.1.cell 5;have S:=a.out.1.cell 6;have T:=a.out.1.cell 7;have U:=a.out.1.cell 8;have V:=a.out.1.cell 9;have p:=a.out.1.cell 10;have q:=a.out.1.cell 11;have r:=a.out.1.cell 12;have s:=a.out.1.cell 13;have xf:=a.out.1.frozen;simp only[jh,gN]at M N O P Q R S T U V p q r s;go_wp2_with fail;have b:aS (qJ w.heap.size 0 (qK n) y) w.heap.size 194 (qK n):=rE _ 0 y _ a.out.1;have K:=pV w.heap.size (qK n) 0 y;change bodyPost _ _ _ _ _ (qJ w.heap.size 0 (qK n) y);generalize qJ w.heap.size 0 (qK n) y=Y at *
 have x:=b.cell 0;have z:=b.cell 1;have A:=b.cell 2;have B:=b.cell 3;have C:=b.cell 4;have D:=b.cell 5;have E:=b.cell 6;have F:=b.cell 7;have G:=b.cell 8;have H:=b.cell 9;have g:=b.cell 10;have i:=b.cell 11;have j:=b.cell 12;have k:=b.cell 13;simp only[jh,gN]at x z A B C D E F G H g i j k;exact VH (v:=.agg (qK n).toArray) (by simp[results,results144,go_sem,x,z,A,B,C,D,E,F,G,H,g,i,j,k]) rfl ⟨rfl,K.below a.out.2 (aI _)⟩
def EI(a n c w):bN 208 #[.slice a n c] w (iZ n) fun b=>b=w:=by go_enter func208,ntmps208;go_wp2;go_ret;exact⟨rfl,rfl⟩
def Oi(g n c i j)(k:i<n)(l:j<n)(a b w)(e:w.cell? (aA g (i*4))=some (iZ a))(f:w.cell? (aA g (j*4))=some (iZ b)):bN 375 #[dB g n c,iZ i,iZ j] w (.bool (decide (a<b))) fun d=>∃q,d=w.drewN q:=by go_enter func375,ntmps375;go_wp2_with fail;go_quiet (fail);go_wp2;go_ret;exact⟨rfl,nq,rfl⟩
structure Src where
 u:Int
 f1:Fn
 p1:Array Wx
 k1:Array Wx
 f2:Fn
 p2:Array Wx
 k2:Array Wx
 y:Bool
abbrev kI(s:Src):bM:=[iZ s.u,.func s.f1 s.p1 s.k1,.func s.f2 s.p2 s.k2,.bool s.y]
def qC(D:Nat->Src):List Nat->bM
 |[]=>[]
 |u::Q=>kI (D u)++qC D Q
theorem RL(D):∀Q,(qC D Q).length=Q.length*4
 |[]=>rfl
 |u::Q=>by have:=RL D Q;grind [qC,List.length_append,List.length_cons,List.length_nil]
theorem rF(D):∀(Q) (i) (u),Q[i]?=some u->(qC D Q)[i*4]?=some (iZ (D u).u)/\(qC D Q)[i*4+1]?=some (.func (D u).f1 (D u).p1 (D u).k1)/\(qC D Q)[i*4+2]?=some (.func (D u).f2 (D u).p2 (D u).k2)/\(qC D Q)[i*4+3]?=some (.bool (D u).y)
 |[],i,u,h=>by simp at h
 |x::Q,0,u,h=>by simp at h;subst h;exact⟨rfl,rfl,rfl,rfl⟩
 |x::Q,i+1,u,h=>by
  have:=rF D Q i u (by simpa using h);have e:∀r,(i+1)*4+r=4+(i*4+r):=by grind
  have a:(i+1)*4=4+i*4:=aj;refine⟨?_,?_,?_,?_⟩;.rw[a];show(kI (D x)++qC D Q)[4+i*4]?=_;grind
  .rw[e];show(kI (D x)++qC D Q)[4+(i*4+1)]?=_;grind
  .rw[e];show(kI (D x)++qC D Q)[4+(i*4+2)]?=_;grind
  .rw[e];show(kI (D x)++qC D Q)[4+(i*4+3)]?=_;grind
def F9:∀(a) (j) (A l),oK (A.length+j) a (A++l)=A++oK j a l
 |[],_,_,_=>rfl
 |v::a,j,A,l=>by show oK (A.length+j+1) a ((A++l).set (A.length+j) v)=A++oK (j+1) a (l.set j v);rw[List.set_append_right _ _ aj,Nat.add_sub_cancel_left,KW,F9 a (j+1) A]
theorem Zm(D):∀(Q) (i u),i<Q.length->oK (i*4) (kI (D u)) (qC D Q)=qC D (Q.set i u)
 |[],i,u,h=>by simp at h
 |x::Q,0,u,_=>rfl
 |x::Q,i+1,u,h=>by have:=Zm D Q i u (by simpa using h);show oK ((i+1)*4) (kI (D u)) (kI (D x)++qC D Q)=kI (D x)++qC D (Q.set i u);have e:(i+1)*4=(kI (D x)).length+i*4:=dZ;rw[e,F9,this]
def Ga:∀(a) (j) (l),(oK j a l).length=l.length
 |[],_,_=>rfl
 |v::a,j,l=>by show(oK (j+1) a (l.set j v)).length=_;rw[Ga a];simp
theorem CX:∀(a) (j n) (l),(oK j a l).take n=oK j a (l.take n)
 |[],_,_,_=>rfl
 |v::a,j,n,l=>by show(oK (j+1) a (l.set j v)).take n=oK (j+1) a ((l.take n).set j v);rw[CX a,List.take_set]
def Gb{p:Wx->Prop}:∀(a) (j) (l),(∀v∈l,p v)->(∀v∈a,p v)->∀v∈oK j a l,p v
 |[],_,_,h,_=>h
 |x::a,j,l,h,k=>Gb a (j+1) (l.set j x) (fun v b=>by
   rcases YE b with h1|h1;.exact h v h1
   .rw[h1];exact k x aR) (fun v b=>k v (by simp[b]))
def Gc(s):∀v∈kI s,v.oneCell'=true:=by intro v a;simp at a;rcases a with rfl|rfl|rfl|rfl<;>rfl
def Qr(oZ:Own)(t:Nat)(D:Nat->Src)(w:Wq)(g c:Nat)(Q:List Nat):Prop:=oZ g=t/\GT oZ t 304 4 w (dB g Q.length c) Q.length (qC D Q)
theorem Qr.put{oZ t D g c Q}(h:Qr oZ t D w g c Q)(i u)(k:i<Q.length):Qr oZ t D (qJ g (i*4) (kI (D u)) w) g c (Q.set i u)/\Kp [t] oZ oZ w (qJ g (i*4) (kI (D u)) w):=by
 obtain⟨f,h⟩:=h;have a:=pV g (kI (D u)) (i*4) w;refine⟨⟨f,?_⟩,⟨a.os,a.tape,a.output,by rw[a.size];grind,fun b _ j=>a.block b (fun e=>j (by grind)),fun _ _=>rfl⟩⟩;rcases h with⟨d,_⟩|⟨g',cap,cs,d,h2,h3,h4,h5,h6,h7,h8,h9⟩;.cases d
 .simp only[nR,tK,wO,true_and,and_true]at d;obtain⟨rfl,rfl⟩:=d;refine .inr ⟨g,c,oK (i*4) (kI (D u)) cs,aR,f,rE _ _ _ _ h3,by rw[Ga];exact h4,by grind,h6,by rw[RL],?_,Gb _ _ _ h9 (Gc _)⟩;grind [List.length_set,CX,Zm]
def Qr.drew{oZ t D w g c Q}(h:Qr oZ t D w g c Q):Qr oZ t D w.drew g c Q:=⟨h.1,h.2.kp (T:=[]) (Kp.below (w':=w.drew) ⟨rfl,rfl,rfl,aI _,fun _ _=>rfl⟩) aR⟩
theorem Gf(oZ t D w g c Q)(i j:Nat)(L:i<Q.length)(M:j<Q.length)(h:Qr oZ t D w g c Q):bN 378 #[dB g Q.length c,iZ i,iZ j] w (.tuple #[]) fun J=>Qr oZ t D J g c (sw Q i j)/\Kp [t] oZ oZ w J:=by
 obtain⟨a,H⟩:=bU (Q.getD i 0);obtain⟨b,I⟩:=bU (Q.getD j 0);have F:Q[i]?=some a:=by grind
 have G:Q[j]?=some b:=by grind
 have A:=h.put i b L;have f:=A.1.put j a (by grind);have C:Hid (Qr oZ t D (qJ g (j*4) (kI (D a)) (qJ g (i*4) (kI (D b)) w)).drew g c (sw Q i j)/\Kp [t] oZ oZ w (qJ g (j*4) (kI (D a)) (qJ g (i*4) (kI (D b)) w)).drew):=by
  have e:sw Q i j=(Q.set i b).set j a:=by unfold sw;rw[H,I]
  rw[e];exact⟨f.1.drew,(A.2.trans f.2).drew⟩
 obtain⟨m,o,p,q⟩:=rF D Q i a F;obtain⟨s,u,v,y⟩:=rF D Q j b G;have d:∀k x,(qC D Q)[k]?=some x->w.cell? (aA g k)=some x:=fun k x N=>by obtain⟨K,e,_,_,r,_⟩:=h.2.cell k x N;grind
 have U:∀k,w.frozen? (aA g k)=false:=by
  rcases h.2 with⟨z,_⟩|⟨K,cap,cs,z,_,h3,_⟩;.cases z
  .cases z;exact h3.frozen
 have V:=d _ _ m;have W:=d _ _ o;have X:=d _ _ p;have Y:=d _ _ q;have P:=d _ _ s;have R:=d _ _ u;have S:=d _ _ v;have T:=d _ _ y;have E:Hid (i=j->a=b):=fun e=>by grind
 generalize Q.length=n at *
 clear H I F G A f m o p q s u v y d h;by_cases l:i=j
 .have B:=E.out l;subst l;subst B;clear P R S T E M;go_enter func378,ntmps378;go_wp2_with fail;go_region
  go_end0;exact⟨rfl,C.out⟩
 .have O:¬(i*4=j*4):=aj;go_enter func378,ntmps378;go_wp2_with fail;go_region
  go_end0;exact⟨rfl,C.out⟩
def qkx(p w):(method 518 250 (aK p 0) "Push").run prog w=.ok (377,(aK p 0)) w:=bZ
def qnf(p w):(method 518 250 (aK p 0) "Pop").run prog w=.ok (376,(aK p 0)) w:=bZ
def qky(p w):(method 518 250 (aK p 0) "Len").run prog w=(loadVar 300 (aA p 0) >>=fun r=>(pure (208,r):Sem (FuncId×Wx))).run prog w:=bZ
def qfw(p w):(method 518 250 (aK p 0) "Less").run prog w=(loadVar 300 (aA p 0) >>=fun r=>(pure (375,r):Sem (FuncId×Wx))).run prog w:=bZ
def qfx(p w):(method 518 250 (aK p 0) "Swap").run prog w=(loadVar 300 (aA p 0) >>=fun r=>(pure (378,r):Sem (FuncId×Wx))).run prog w:=bZ
def Gu(p w a n c)(b:w.cell? (aA p 0)=some (.slice a n c)):(loadVar 300 (aA p 0)).run prog w=.ok (.slice a n c) w:=by simp[go_sem,loadVar,b,sizeOf300]
def qjd(p w a n c)(b:w.cell? (aA p 0)=some (.slice a n c)):(method 518 250 (aK p 0) "Len").run prog w=.ok (208,.slice a n c) w:=by rw[qky,DC,Gu p w a n c b];rfl
def RY(p w a n c)(b:w.cell? (aA p 0)=some (.slice a n c)):(method 518 250 (aK p 0) "Less").run prog w=.ok (375,.slice a n c) w:=by rw[qfw,DC,Gu p w a n c b];rfl
def RZ(p w a n c)(b:w.cell? (aA p 0)=some (.slice a n c)):(method 518 250 (aK p 0) "Swap").run prog w=.ok (378,.slice a n c) w:=by rw[qfx,DC,Gu p w a n c b];rfl
structure Bv (oZ:Own) (t:Nat) (D:Nat->Src) (w:Wq) (p g c:Nat) (Q:List Nat):Prop where
 op:oZ p=t+1
 pb:aS w p 300 [dB g Q.length c]
 sr:Qr oZ t D w g c Q
theorem nu(Q i j):(sw Q i j).length=Q.length:=by simp[sw]
theorem Gv (n:Nat):∀(i:Nat) (l:List Nat),i<n->El n l i=El (i+1) l i:=n.strongRecOn fun n C=>match n,C with
 |0,_=>fun i l h=>aj
 |n+1,C=>fun i l h=>by
  simp only[El];by_cases a:i=0;.simp[a]
  .split;.rfl
   .rw[C n aj ((i-1) / 2) _ aj];rw[C i aj ((i-1) / 2) _ aj]
theorem qfy(oZ t D)(W:∀u:Nat,(D u).u=(u:Int))(w p g c Q)(j:Nat)(hj:j<Q.length)(hl:Q.length<=1000)(h:Bv oZ t D w p g c Q):bN 307 #[.iface 250 (aK p 0),iZ j] w (.tuple #[]) fun d=>Bv oZ t D d p g c (El (j+1) Q j)/\Kp [t] oZ oZ w d:=by
 obtain⟨X,H⟩:=bU (El (j+1) Q j);rw[<-H];have P:=aG H;have M:=aG h;obtain⟨N,Y⟩:=bU Q.length;have O:=aG Y;have I:j<N:=aj;have h5:N<=1000:=aj;clear H h Y hj hl;have n:=aG W;clear W;go_enter func307,ntmps307;go_wp2_with fail;go_loopw [1] (fun L wr=>∃(k:Nat) (R:List Nat),k<N/\L=(iZ k)/\Hid (R.length=N/\Bv oZ t D wr p g c R/\Kp [t] oZ oZ w wr/\El (k+1) R k=X)) (fun L _=>(fA L).toNat);case atStart=>exact⟨j,Q,I,rfl,O.out.symm,M.out,Kp.refl _ _ _,P.out.symm⟩
 case round=>
  clear P M O;obtain⟨k,R,hk,rfl,s⟩:=hrel;by_cases J:k=0
  .subst J;have F:Hid (Bv oZ t D wr p g c X/\Kp [t] oZ oZ w wr):=by
    obtain⟨U,A,h3,V⟩:=s.out;have:El (0+1) R 0=R:=by simp[El]
    rw[this]at V;rw[<-V];exact⟨A,h3⟩
   clear s;go_wp2_with fail;go_end0;exact⟨rfl,F.out⟩
  .obtain⟨i,Z⟩:=bU ((k-1) / 2);have m:i<k:=aj;have q1:((k:Int)-1).tdiv 2=(i:Int):=by grind
   obtain⟨b,a,B,C⟩:=s.out;have z:wr.cell? (aA p 0)=some (dB g R.length c):=by rw[a.pb.cell];rfl
   rw[b]at z;have h7:=RY p wr _ _ _ z;have K:=fun q=>RZ p (wr.drewN q) _ _ _ z;have ek:R[k]?=some (R.getD k 0):=by grind
   have G:R[i]?=some (R.getD i 0):=by grind
   have E:∀k x,(qC D R)[k]?=some x->wr.cell? (aA g k)=some x:=fun k x hx=>by obtain⟨g',e,_,_,r,_⟩:=a.sr.2.cell k x hx;grind
   have o:=aG (Oi g N c k i hk aj _ _ wr (E _ _ (rF D R k _ ek).1) (E _ _ (rF D R i _ G).1));rw[n.out,n.out]at o;have g1:(k:Int)-1<9223372036854775808:=aj;have g2: -9223372036854775808<=(k:Int)-1:=aj;have h6:i<9223372036854775808:=aj;have n1:¬(i=k):=aj;have n2:¬((i:Int)=(k:Int)):=aj;have n3:((i:Int)==(k:Int))=false:=by grind
   by_cases f:R.getD k 0<R.getD i 0
   .have l:Hid (bN 375 #[dB g N c,iZ k,iZ i] wr (.bool true) fun d=>∃q,d=wr.drewN q):=by
     have e:=decide_eq_true (Int.ofNat_lt.2 f);have:=o.out;rw[e]at this;exact this
    have HS:Hid (∀q,bN 378 #[dB g N c,iZ i,iZ k] (wr.drewN q) (.tuple #[]) fun d=>Hid ((sw R i k).length=N/\Bv oZ t D d p g c (sw R i k)/\Kp [t] oZ oZ w d/\El (i+1) (sw R i k) i=X)):=fun q=>by
     have v:bJ wr (wr.drewN q):=⟨rfl,rfl,rfl,aI _,fun _ _=>rfl⟩;have hs:=Gf oZ t D (wr.drewN q) g c R i k aj aj ⟨a.sr.1,a.sr.2.kp (T:=[]) (Kp.below v) aR⟩;rw[b]at hs;refine bK hs ?_;rintro d ⟨U,A⟩;refine⟨rfl,by rw[nu,b],⟨a.op,?_,U⟩,B.trans ((Kp.below v).trans A),?_⟩;.rw[nu];exact bW (w:=wr.drewN q) a.pb A (by rw[a.op];simp)
     .rw[<-C];have S:El (k+1) R k=El k (sw R ((k-1) / 2) k) ((k-1) / 2):=by
       simp only[El];grind
      grind [Gv]
    have h0:=aG (dz m hk);clear b a B C z ek G E o f s Z m;go_wp2_with fail;refine bK l.out ?_;rintro y ⟨q,rfl⟩;go_wp2_with fail;refine bK (HS.out q) ?_;rintro y HY;go_wp2_with fail;go_roundw;case rel=>exact⟨i,sw R i k,by grind,by go_num,HY⟩
    grind [fA]
   .have l:Hid (bN 375 #[dB g N c,iZ k,iZ i] wr (.bool false) fun d=>∃q,d=wr.drewN q):=by
     have e:=decide_eq_false (fun h=>f (Int.ofNat_lt.1 h));have:=o.out;rw[e]at this;exact this
    have F:Hid (∀q,Bv oZ t D (wr.drewN q) p g c X/\Kp [t] oZ oZ w (wr.drewN q)):=fun q=>by
     have v:bJ wr (wr.drewN q):=⟨rfl,rfl,rfl,aI _,fun _ _=>rfl⟩;have S:El (k+1) R k=R:=by simp only[El];grind
     rw[<-C,S];exact⟨⟨a.op,a.pb,a.sr.1,a.sr.2.kp (T:=[]) (Kp.below v) aR⟩,B.trans (Kp.below v)⟩
    clear b a B C z ek G E o f s Z K m;go_wp2_with fail;refine bK l.out ?_;rintro y ⟨q,rfl⟩;go_wp2_with fail;go_end0;exact⟨rfl,F.out q⟩
def ZF(e:Ending):Prop:=∃b,e=.returned (.bool b)
def kid(l:List Nat)(i n:Nat):Nat:=if 2*i+2<n/\l.getD (2*i+2) 0<l.getD (2*i+1) 0 then 2*i+2 else 2*i+1
def oM(k l i n):lH (k+1) l i n=if n<=2*i+1 then l else if l.getD (kid l i n) 0<l.getD i 0 then lH k (sw l i (kid l i n)) (kid l i n) n else l:=rfl
theorem qkz(l i n):2*i+1<=kid l i n:=by unfold kid;grind
theorem zZ:∀(k a) (l) (i n),n<=i+k->n<=i+a->lH k l i n=lH a l i n
 |0,0,_,_,_,_,_=>rfl
 |0,a+1,l,i,n,h,_=>by rw[oM,dN aj];rfl
 |k+1,0,l,i,n,_,h=>by rw[oM,dN aj];rfl
 |k+1,a+1,l,i,n,h,h'=>by
  rw[oM,oM];have:=qkz l i n;by_cases b:n<=2*i+1;.grind
  .rw[b_ b,b_ b,zZ k a _ _ _ aj aj]
theorem WQ(oZ t D)(hD:∀u:Nat,(D u).u=(u:Int))(w p g c Q W n)(h7:W<Q.length)(hn:n<=Q.length)(hl:Q.length<=1000)(h:Bv oZ t D w p g c Q)(F:Nat)(hF:n<=W+F):WA prog 270 #[.iface 250 (aK p 0),iZ W,iZ n] w fun e P=>ZF e/\Bv oZ t D P p g c (lH F Q W n)/\Kp [t] oZ oZ w P:=by
 obtain⟨X,hX⟩:=bU (lH F Q W n);rw[<-hX];have HX:=aG hX;have H0:=aG h;obtain⟨N,hN⟩:=bU Q.length;have HN:=aG hN;have h8:W<N:=aj;have ho:n<=N:=aj;have h9:N<=1000:=aj;have HF:=aG hF;clear hX h hN h7 hn hl hF;have I:=aG hD;clear hD;go_enter func270,ntmps270;go_wp2_with fail;go_loopw [7] (fun s7 wr=>∃(i:Nat) (R:List Nat),i<N/\s7=(iZ i)/\Hid (R.length=N/\Bv oZ t D wr p g c R/\Kp [t] oZ oZ w wr/\lH N R i n=X)) (fun s7 _=>N-(fA s7).toNat);case atStart=>exact⟨W,Q,h8,rfl,HN.out.symm,H0.out,Kp.refl _ _ _,by rw[HX.out];exact zZ _ _ _ _ _ aj HF.out⟩
 case round=>
  clear HX H0 HN HF;obtain⟨i,R,S,rfl,HR⟩:=hrel;obtain⟨G,B,hK,hU⟩:=HR.out;have M:∀q,bJ wr (wr.drewN q):=fun q=>⟨rfl,rfl,rfl,aI _,fun _ _=>rfl⟩;have L:∀q,Bv oZ t D (wr.drewN q) p g c R/\Kp [t] oZ oZ w (wr.drewN q):=fun q=>⟨⟨B.op,B.pb,B.sr.1,B.sr.2.kp (T:=[]) (Kp.below (M q)) aR⟩,hK.trans (Kp.below (M q))⟩;obtain⟨F',h0⟩:∃F',N=F'+1:=⟨N-1,aj⟩;have s:lH (F'+1) R i n=X:=by grind
  rw[oM]at s;have hp:wr.cell? (aA p 0)=some (dB g N c):=by rw[B.pb.cell,<-G];rfl
  obtain⟨l,U⟩:=bU (2*i+1);obtain⟨m,V⟩:=bU (2*i+2);have e1:2*(i:Int)+1=(l:Int):=aj;have e2:(l:Int)+1=(m:Int):=aj;have g1:2*(i:Int)<9223372036854775808:=aj;have g2: -9223372036854775808<=2*(i:Int):=aj;have g3:l<9223372036854775808:=aj;have g4:m<9223372036854775808:=aj;have g5:¬((l:Int)<0):=aj;by_cases hA:n<=l
  .have HF:Hid (Bv oZ t D wr p g c X/\Kp [t] oZ oZ w wr):=by
    rw[dN aj]at s;rw[<-s];exact⟨B,hK⟩
   have h5:(n:Int)<=(l:Int):=aj;clear HR G B hK hU M L h0 s hp U V I;go_wp2_with fail;go_ret;exact⟨⟨_,rfl⟩,HF.out⟩
  .have h5:¬((n:Int)<=(l:Int)):=aj;rw[b_ aj]at s;have hg:=RY p wr _ _ _ hp;have hr:=fun q=>RY p (wr.drewN q) _ _ _ hp;have hj:=fun q=>RZ p (wr.drewN q) _ _ _ hp;have hc:∀k x,(qC D R)[k]?=some x->wr.cell? (aA g k)=some x:=fun k x hx=>by
    obtain⟨g',e,_,_,r,_⟩:=B.sr.2.cell k x hx;grind
   have eR:∀k,k<N->R[k]?=some (R.getD k 0):=fun k hk=>by grind
   have A:Hid (∀(a b:Nat) (v:Bool) (q:Nat),a<N->b<N->decide (R.getD a 0<R.getD b 0)=v->bN 375 #[dB g N c,iZ a,iZ b] (wr.drewN q) (.bool v) fun P=>∃q,P=wr.drewN q):=fun a b v q ha hb hv=>by
    have h1:=Oi g N c a b ha hb _ _ (wr.drewN q) (hc _ _ (rF D R a _ (eR a ha)).1) (hc _ _ (rF D R b _ (eR b hb)).1);rw[I.out,I.out]at h1;have h2:decide (((R.getD a 0:Nat):Int)<((R.getD b 0:Nat):Int))=v:=by rw[<-hv];grind
    rw[h2]at h1;refine h1.mono ?_;grind [World.drewN_drewN]
   have K:Hid (∀(j q:Nat),kid R i n=j->j<N->i<j->R.getD j 0<R.getD i 0->bN 378 #[dB g N c,iZ i,iZ j] (wr.drewN q) (.tuple #[]) fun P=>Hid ((sw R i j).length=N/\Bv oZ t D P p g c (sw R i j)/\Kp [t] oZ oZ w P/\lH N (sw R i j) j n=X)):=fun j q h3 hf he d=>by
    have hs:=Gf oZ t D (wr.drewN q) g c R i j aj aj (L q).1.sr;rw[G]at hs;refine bK hs ?_;rintro P ⟨h1,h2⟩;refine⟨rfl,by rw[nu,G],⟨B.op,?_,h1⟩,(L q).2.trans h2,?_⟩;.rw[nu];exact bW (w:=wr.drewN q) B.pb h2 (by rw[B.op];simp)
    .rw[<-s,h3,dN d];grind [zZ]
   have J:Hid (∀(j q:Nat),kid R i n=j->¬R.getD j 0<R.getD i 0->Bv oZ t D (wr.drewN q) p g c X/\Kp [t] oZ oZ w (wr.drewN q)):=fun j q h3 d=>by grind
   have HJ:Hid (l=2*i+1/\m=2*i+2/\l<N/\i<l/\i<m):=⟨U,V,aj,aj,aj⟩;have hu:=S;clear HR G B hK hU M L h0 s hp U V I hc eR;by_cases hB:m<n
   .have h6:(m:Int)<(n:Int):=aj;have h4:m<N:=aj;by_cases Z:R.getD m 0<R.getD l 0
    .have HC:=aG (A.out m l true 0 h4 (by grind) (decide_eq_true Z));have zw:=aG Z;clear Z;have O:kid R i n=m:=by
      have:=HJ.out;unfold kid;rw[dN ⟨aj,by rw[<-this.1,<-this.2.1];exact zw.out⟩];omega
     have z:=aG O;clear O;by_cases d:R.getD m 0<R.getD i 0
     .have f:=aG (fun q=>A.out m i true q (by grind) S (decide_eq_true d));have E:=aG (fun q=>K.out m q z.out (by grind) (by grind) d);clear d A K J z;have o:=aG (f.out 0);go_wp2_with fail;refine bK HC.out ?_;rintro y ⟨Y,rfl⟩;go_wp2_with fail;refine bK (f.out Y) ?_;rintro y ⟨H,rfl⟩;go_wp2_with fail;refine bK (E.out H) ?_;rintro y HY;go_wp2_with fail;go_roundw;case rel=>exact⟨m,sw R i m,by grind,by go_num,HY⟩
      grind [fA]
     .have f:=aG (fun q=>A.out m i false q (by grind) S (decide_eq_false d));have C:=aG (fun q=>J.out m q z.out d);clear d A K J z;have o:=aG (f.out 0);go_wp2_with fail;refine bK HC.out ?_;rintro y ⟨Y,rfl⟩;go_wp2_with fail;refine bK (f.out Y) ?_;rintro y ⟨H,rfl⟩;go_wp2_with fail;go_ret;exact⟨⟨_,rfl⟩,C.out H⟩
    .have HC:=aG (A.out m l false 0 h4 (by grind) (decide_eq_false Z));have zw:=aG Z;clear Z;have O:kid R i n=l:=by
      have:=HJ.out;unfold kid;rw[b_ (fun hh=>zw.out (by grind))];omega
     have z:=aG O;clear O;by_cases d:R.getD l 0<R.getD i 0
     .have f:=aG (fun q=>A.out l i true q (by grind) S (decide_eq_true d));have E:=aG (fun q=>K.out l q z.out (by grind) (by grind) d);clear d A K J z;have o:=aG (f.out 0);go_wp2_with fail;refine bK HC.out ?_;rintro y ⟨Y,rfl⟩;go_wp2_with fail;refine bK (f.out Y) ?_;rintro y ⟨H,rfl⟩;go_wp2_with fail;refine bK (E.out H) ?_;rintro y HY;go_wp2_with fail;go_roundw;case rel=>exact⟨l,sw R i l,by grind,by go_num,HY⟩
      grind [fA]
     .have f:=aG (fun q=>A.out l i false q (by grind) S (decide_eq_false d));have C:=aG (fun q=>J.out l q z.out d);clear d A K J z;have o:=aG (f.out 0);go_wp2_with fail;refine bK HC.out ?_;rintro y ⟨Y,rfl⟩;go_wp2_with fail;refine bK (f.out Y) ?_;rintro y ⟨H,rfl⟩;go_wp2_with fail;go_ret;exact⟨⟨_,rfl⟩,C.out H⟩
   .have h6:¬((m:Int)<(n:Int)):=aj;have O:kid R i n=l:=by
     have:=HJ.out;unfold kid;grind
    have z:=aG O;clear O;by_cases d:R.getD l 0<R.getD i 0
    .have f:=aG (fun q=>A.out l i true q (by grind) S (decide_eq_true d));have E:=aG (fun q=>K.out l q z.out (by grind) (by grind) d);clear d A K J z;have o:=aG (f.out 0);go_wp2_with fail;refine bK o.out ?_;rintro y ⟨H,rfl⟩;go_wp2_with fail;refine bK (E.out H) ?_;rintro y HY;go_wp2_with fail;go_roundw;case rel=>exact⟨l,sw R i l,by grind,by go_num,HY⟩
     grind [fA]
    .have f:=aG (fun q=>A.out l i false q (by grind) S (decide_eq_false d));have C:=aG (fun q=>J.out l q z.out d);clear d A K J z;have o:=aG (f.out 0);go_wp2_with fail;refine bK o.out ?_;rintro y ⟨H,rfl⟩;go_wp2_with fail;go_ret;exact⟨⟨_,rfl⟩,C.out H⟩
end Go.Proofs.YtphbledmopchnaaGreatDoor.Sd
namespace Go.Proofs.YtphbledmopchnaaGreatDoor.St
open Go.RowKit Go.Lib Go.Shelf Mm Tryz
variable {B n:Nat}{F:Fence}{P:Program}{Q:Exit->Act->Wq->Prop}{a:Act}{v:Wx}{w:Wq}
theorem mG.VU{e base c rs}(h:mG w e base c rs)(d:rs.length<=c)(a:c<=9223372036854775807):fO 170 2 w (.slice base rs.length c) rs.length (bX rs):=by
 rcases h with⟨rfl,rfl,rfl⟩|⟨b,l,rfl,_,hB,hl,ht,h1⟩;.exact fO.nil _ _ _
 .refine .inr ⟨b,c,l,rfl,hB,aj,d,a,by grind,by grind,h1⟩
def qga(w):(binOp BinOp.eql 63 nZ nZ).run prog w=.ok (.bool true) w:=bZ
def Z0(w a n c):(binOp BinOp.eql 63 (.slice (some a) n c) nZ).run prog w=.ok (.bool false) w:=bZ
theorem Xd(v rs w)(h:fO 170 2 w v rs.length (bX rs))(R:rs.length<=1000000):WA prog 228 #[v] w fun e I=>∃d,e=.returned d/\fO 170 2 I d rs.length (bX rs)/\Own w.heap.size d/\bJ w I:=by
 rcases h with⟨rfl,C,B⟩|⟨g,cap,cs,rfl,hB,h2,h3,h4,h5,h6,h7⟩;.have K:Hid (fO 170 2 w nZ rs.length (bX rs)):=.inl ⟨rfl,C,B⟩;have N:=qga w;go_enter func228,ntmps228;go_wp2;go_ret;exact⟨_,rfl,K.out,fun k q=>by simp[eT]at q,bP _ _⟩
 .have N:=Z0 w (aA g 0) rs.length cap;obtain⟨a,l⟩:=bU (w.alloc (.cells #[] 170));have i:aS a w.heap.size 170 []:=by grind [aS.new]
  have f:bJ w a:=by rw[l];exact(bP _ w).alloc (aI _) _
  have D:a.heap.size=w.heap.size+1:=by rw[l];simp
  have x:=hB.of_heap (f.block g hB.lt);have b:∀j u,(bX rs)[j]?=some u->a.cell? ((aA g 0).add j)=some u:=fun j u H=>by rw[gT,gG,x.cell];grind
  obtain⟨d,p,F,o,r,s⟩:∃d p,(∀E,(nA #[63,63] E #[dB w.heap.size 0 0,dB g rs.length cap]).run prog a=.ok d p)/\fO 170 2 p d rs.length (bX rs)/\Own w.heap.size d/\bJ w p:=by
   by_cases L:rs.length=0;.have y:=EX.1 L;subst y;have A:=fun E=>ig (P:=prog) (w:=a) 63 63 E 170 _ 2 16 Rl.ht Rl.ht Rl.hi (n:=0) (c:=0) (m:=0) (mc:=cap) i (aA g 0) (vs:=[]) rfl (fun j v H=>by simp at H) (fun v z=>by cases z) (aI _) (aI _);refine⟨_,_,A,.inr ⟨w.heap.size,0,_,rfl,i.put _,rfl,aI _,aj,rfl,rfl,fun v z=>by cases z⟩,fun k q=>by simp[eT]at q;omega,?_⟩;exact f.trans ((⟨(eU a w.heap.size _).os,(eU a w.heap.size _).tape,(eU a w.heap.size _).output,(eU a w.heap.size _).size,fun k q=>iI a _ k _ aj⟩:Below w.heap.size a _))
   .have t:fO 170 2 a (dB w.heap.size 0 0) 0 []:=.inr ⟨w.heap.size,0,[],rfl,i,rfl,aI _,aj,rfl,rfl,fun v z=>by cases z⟩;obtain⟨d,p,F,M,o⟩:=jL Rl t (aA g 0) rs.length cap (bX rs) (by grind) aj (oJ rs) b aj;have G:Own w.heap.size (dB w.heap.size 0 0):=fun k q=>by simp[eT]at q;omega
    exact⟨d,p,F,by grind,o.own G aj,f.trans (o.below G aj)⟩
  obtain⟨O,Q,rfl,_⟩:=o.shape;have J:=aG (dz o (dz r s));clear o r s b x D f i hB h2 h3 h4 h5 h6 h7;subst l;go_enter func228,ntmps228;go_wp2_with (at_builtin;refine ji _ rfl _ _ _ _ rfl _ _ rfl rfl _ _ (F _) ?_);go_ret;exact⟨_,rfl,J.out⟩
def Ml(a n c w):bN 227 #[.slice a n c] w (.func (.func 293) #[] #[aK w.heap.size 0]) fun e=>e=w.alloc (.cells #[.slice a n c] 63):=by have d:∀(b:Fn) (first cap:Array Wx) (w:Wq),(Instr.makeFunc b first cap).run prog w=.ok (.func b first cap) w:=fun _ _ _ _=>rfl;go_enter func227,ntmps227;go_wp2;go_ret;exact⟨rfl,rfl⟩
section
attribute [local go_sem] zG
def bw(rs:bY)(k:Nat):List (Nat×Nat×Nat):=(List.range k).map fun j=>(rs.length-1-j,rs.getD (rs.length-1-j) (0,0))
def qgb(rs k):bw rs (k+1)=bw rs k++[(rs.length-1-k,rs.getD (rs.length-1-k) (0,0))]:=by simp[bw,List.range_succ]
def Xe(rs k):(bw rs k).length=k:=by simp[bw]
theorem Z4(F n)(L:F.fn 293)(K:F.round=none)(hn:1<=n){d}(l v rs)(h5:rs.length<=1000000)(Kp:Wq->Wq->Prop)(u:∀A B,Kp A B->B.heap[d]?=A.heap[d]?/\∀g,v.ownBlock=some g->B.heap[g]?=A.heap[g]?)(J M:List (Nat×Nat×Nat)->Wq->Prop)(O:∀b x W,J b W->b.length<rs.length->YieldAt F (n-1) prog l #[iZ x.1,.agg #[uZ x.2.1,uZ x.2.2]] W fun e p=>
   (e=.returned (.bool true)/\J (b++[x]) p/\Kp W p)\/(e=.returned (.bool false)/\M (b++[x]) p)){W}(o:aS W d 63 [v])(f:fO 170 2 W v rs.length (bX rs))(h0:J [] W):CallsIn F n prog 293 #[.func (.yield l) #[] #[],aK d 0] W fun e p=>(∃v,e=.returned v)/\((∃U,U=bw rs rs.length/\J U p)\/(∃b,(∃k,k<=rs.length/\b=bw rs k)/\M b p)):=by
 obtain⟨a,c,rfl,hc⟩:=f.shape;have k0:W.cell? (aA d 0)=some (.slice a rs.length c):=o.cell 0;have V:=aG o;have X:=aG f;have Y:=aG O;have z:=aG u;clear o f O u;refine callsIn_of_wp func293 rfl L ?_ K;simp only[ntmps293,E8,pI,vD,tL,tO,Ju,Jt,Cr,Jv,pJ,AA];gi_wp2;gi_loopw [3] (fun i wr=>∃k m:Nat,k+m=rs.length/\i=(iZ ((m:Int)-1))/\Hid (J (bw rs k) wr/\aS wr d 63 [.slice a rs.length c]/\fO 170 2 wr (.slice a rs.length c) rs.length (bX rs)))
  (fun i _=>(fA i+1).toNat)
 case atStart=>exact⟨0,rs.length,aj,rfl,h0,V.out,X.out⟩
 case round=>
  obtain⟨k,m,h3,rfl,q⟩:=hrel;obtain⟨G,o,f⟩:=q.out;have h6:wr.cell? (aA d 0)=some (.slice a rs.length c):=o.cell 0;cases m with
  |zero=>have D:((0:Nat):Int)-1= -1:=aj;rw[D];obtain rfl:k=rs.length:=aj;clear G o f;gi_wp2;go_end0;exact⟨⟨_,rfl⟩,.inl ⟨_,rfl,q.out.1⟩⟩
  |succ m=>
   have D:((m+1:Nat):Int)-1=(m:Int):=aj;rw[D];have P:m<rs.length:=aj;have h4:(m:Int)<(rs.length:Int):=aj;obtain⟨g,hg,Z,_⟩:=f.cell rfl (m*2) _ (yh rs m P);obtain⟨E,h2,c1,_⟩:=f.cell rfl (m*2+1) _ (yj rs m P);subst hg;have H:E=g:=by grind
   subst H;have I:rs.length-1-k=m:=aj;have j:=aG (qgb rs k);rw[I]at j;generalize rs.getD m (0,0)=xy at *
   obtain⟨x,y⟩:=xy;dsimp only at Z c1;obtain⟨fn,T,assign,body,Q,N⟩:=Y.out _ (m,x,y) wr G (by rw[Xe];omega);dsimp only at Q;clear G o f;gi_wp2;refine N.mono ?_;rintro e C (⟨rfl,r,t⟩|⟨rfl,s⟩)
   .obtain⟨R,S⟩:=z.out _ _ t;have w:Hid (J (bw rs (k+1)) C/\aS C d 63 [dB E rs.length c]/\fO 170 2 C (dB E rs.length c) rs.length (bX rs)):=
     ⟨by rw[j.out];exact r,q.out.2.1.of_heap R,q.out.2.2.of_heap S⟩
    clear r t R S q N Q;gi_wp2;go_roundw;case rel=>exact⟨k+1,m,aj,by go_num,w⟩
    case measure=>simp[fA]
   .gi_wp2;refine VH (results_none rfl _ _ _) rfl ?_;exact⟨⟨_,rfl⟩,.inr ⟨_,⟨k+1,aj,j.out.symm⟩,s⟩⟩
end
section
attribute [local go_sem] zG
def Mq{β}(B b t l):OwnFrom B (fun(_:β) W=>aS W b t l):=fun _ X Y row a f g=>a.of_heap (f.block b a.lt (fun e=>by obtain⟨_,o,c,d⟩:=g b e.symm;rw[show X.heap[b]?=_ from a]at c;cases c;cases d))
def KpO(a E:Nat)(W b:Wq):Prop:=W.heap.size<=b.heap.size/\(∀k,a<=k->k<E->b.heap[k]?=W.heap[k]?)/\KeepsFrom a W b
def encR(x:Nat×Nat):Array Wx:=#[.agg #[uZ x.1,uZ x.2]]
theorem Z5(rs k)(b:k<=rs.length):(bw rs k).map (·.2)=rs.reverse.take k:=by
 apply zh;intro j;by_cases a:j<k;.rw[pG,dN a,List.getElem?_reverse aj];grind [bw]
 grind [List.getElem?_eq_none,bw]
end
section
attribute [local go_sem] zG
theorem Z6(n)(hn:4<=n){sb}(l N rs){A}(base c)(h8:A.cell? (aA N 227)=some (.slice base rs.length c))(U:fO 170 2 A (.slice base rs.length c) rs.length (bX rs))(C:aS A sb 273 [aK N 225])(hx:rs.length<=1000000)(J P:Nat->bY->Wq->Prop)(hJ:∀E,OwnFrom A.heap.size (J E))(hj:∀E,OwnFrom A.heap.size (P E))(h0:∀E W,bJ A W->J E [] W)(hY:∀m E a x W,A.heap.size<=E->E<=W.heap.size->J E a W->a.length<rs.length->YieldAt mE m prog l (encR x) W fun e R=>
   (e=.returned (.bool true)/\J E (a++[x]) R/\KpO A.heap.size E W R)\/(e=.returned (.bool false)/\P E (a++[x]) R/\KpO A.heap.size E W R)):CallsIn mE n prog 226 #[.func (.yield l) #[] #[],aK sb 0] A fun e R=>(∃v,e=.returned v)/\∃E,A.heap.size<=E/\(J E rs.reverse R\/(∃k,k<=rs.length/\P E (rs.reverse.take k) R)):=by
 have H:1<=n:=aj;obtain⟨W0,hv⟩:=bU (A.alloc (.cells #[.func (.yield l) #[] #[]] 325));have f:bJ A W0:=by rw[hv];exact(bP _ A).alloc (aI _) _
 have G:aS W0 A.heap.size 325 [.func (.yield l) #[] #[]]:=by grind [aS.new]
 have k0:A.cell? (aA sb 0)=some (aK N 225):=C.cell 0;have Z7:=C.lt;have k1:W0.cell? (aA sb 0)=some (aK N 225):=(C.of_heap (f.block sb Z7)).cell 0;have k2:=cell_of h8 (f.block N (iq A _ (by rw[h8])));have hf:=U.of_heap (fun b hb=>f.block b (U.lt b hb));have HC:=aG (Xd _ rs W0 hf hx);have he:=aG G;have h9:=aG f;have HJ:=aG hJ;have ha:=aG hj;have H0:=aG h0;have HY:=aG hY;clear h8 U hf f G hJ hj h0 hY C;refine callsIn_of_wp_marks func226 rfl trivial ?_ rfl;simp only[ntmps226,E8,pI,vD,tL,tO,Ju,Jt,Cr,Jv,pJ,AA];subst hv;gi_wp2_with (refine⟨trivial,?_⟩;gi_at_call 228;refine(callsIn_wide.2 HC.out).mono ?_;rintro e q ⟨v1,rfl,y,FC,u⟩);obtain⟨a1,c1,rfl,_⟩:=y.shape;refine⟨trivial,?_⟩;refine(callsIn_wide.2 (Ml a1 rs.length c1 q)).mono ?_;rintro e d ⟨rfl,h4⟩;have t:Hid (bJ A d/\aS d A.heap.size 325 [.func (.yield l) #[] #[]]/\aS d q.heap.size 63 [.slice a1 rs.length c1]/\fO 170 2 d (.slice a1 rs.length c1) rs.length (bX rs)/\Own A.heap.size (.slice a1 rs.length c1)/\A.heap.size<q.heap.size/\d.heap.size=q.heap.size+1):=by
  have h5:bJ q d:=by rw[h4];exact(bP _ q).alloc (aI _) _
  have hA1:=h9.out.trans (u.mono aR);have h7:A.heap.size<q.heap.size:=by have:=u.size;simp at this;omega
  refine⟨hA1.trans (h5.mono hA1.size),he.out.of_heap ?_,?_,y.of_heap (fun b hb=>h5.block b (y.lt b hb)),fun k B=>?_,h7,?_⟩;.rw[h5.block _ h7,u.block _ aR]
  .grind [aS.new]
  .have:=FC k B;simp at this;omega
  .rw[h4];simp
 clear y FC u h4 he h9 HC k0 k1 k2;gi_wp2;have L:SeqStopsK mE (n-1) prog 293 #[aK q.heap.size 0] (fun x:Nat×Nat×Nat=>#[iZ x.1,.agg #[uZ x.2.1,uZ x.2.2]]) (fun X Y=>∀k,A.heap.size<=k->k<d.heap.size->Y.heap[k]?=X.heap[k]?) (fun ys=>ys=bw rs rs.length) (fun a=>∃k,k<=rs.length/\a=bw rs k) rs.length d:=fun l' J' x3 W hW _ _ x6 x4=>by obtain⟨hA2,G,hw,z,hu,x5,x7⟩:=t.out;exact Z4 mE (n-1) trivial rfl aj l' _ rs hx _ (fun X Y B=>⟨B _ aj aj,fun g I=>B g (hu g I) (z.lt g I)⟩) J' x3 x6 (hw.of_heap (hW.block _ aj)) (z.of_heap (fun b hb=>hW.block b (z.lt b hb))) x4
 have Z8:A.heap.size<d.heap.size:=by obtain⟨hA2,G,hw,z,hu,x5,x7⟩:=t.out;omega
 have fP:∀(Q:Nat->bY->Wq->Prop) (E:Nat),OwnFrom A.heap.size (Q E)->OwnFrom d.heap.size (fun(a:List (Nat×Nat×Nat)) W=>Q E (a.map (·.2)) W):=fun Q E h s X Y row hs I hr=>h _ X Y row hs I (fun r e=>⟨dx (AB Z8) (hr r e).1,(hr r e).2⟩);have x0:OwnFrom d.heap.size (fun(_:List (Nat×Nat×Nat)) (W:Wq)=>d.heap.size<=W.heap.size):=fun s X Y row hs I hr=>dx hs I.size;refine wpIn_rangeFunc_ownH (F:=mE) (w:=d) rfl H (gf:=293) (lb:=#[aK q.heap.size 0]) rfl trivial (enters_of func293 bZ rfl) L
  (fun h k i H h2=>(k i H h2).trans (h i H h2)) (fun W l' o o' x9 ho _ _ i H h2=>eB aj) (bP _ _) (fun _=>rfl)
  (fun a W=>J d.heap.size (a.map (·.2)) W/\aS W A.heap.size 325 [.func (.yield l) #[] #[]]/\d.heap.size<=W.heap.size)
  (fun c a W=>c=.ret/\P d.heap.size (a.map (·.2)) W)
  (OwnFrom.and (fP J _ (HJ.out _)) (OwnFrom.and (Mq _ _ _ _) x0))
  (fun c=>OwnFrom.and (ownFrom_pure _ _) (fP P _ (ha.out _)))
  ⟨H0.out _ _ t.out.1,t.out.2.1,aI _⟩
  (fun x a' W=>∃T,aS W T 170 [uZ x.2.1,uZ x.2.2]/\a'={tmps:=#[.func (.yield l) #[] #[],aK sb 0,aK A.heap.size 0,undef,aK T 0,aK N 225,aK N 225,aK N 227,.slice base rs.length c,.slice a1 rs.length c1,.func (.func 293) #[] #[aK q.heap.size 0],iZ x.1,.agg #[uZ x.2.1,uZ x.2.2],undef,undef,undef,undef],defers:=[]})
  (fun x a' _ X Y row hs I hr=>by obtain⟨T,H,h2⟩:=hs;exact⟨T,Mq _ _ _ _ () X Y row H I hr,h2⟩)
  ?assign ?body ?done ?stop
 case assign=>rintro l' a x W K ⟨M,i2,i3⟩ Z;gi_wp2;refine Z _ _ ((KeepsOthers.alloc _ _).from _) (fun k H h2=>mJ _ _ _ aj) ⟨OwnFrom.alloc (fP J _ (HJ.out _)) _ M,i2.alloc _,dZ⟩ ⟨W.heap.size,aS.new W 170 [uZ x.2.1,uZ x.2.2],rfl⟩
 case body=>
  rintro l' a x a' W hl ⟨r,hr⟩ ⟨M,i2,i3⟩ ⟨T,h6,rfl⟩ h7;obtain⟨fn,O,assign,body,hy,hR⟩:=HY.out (n-1-1-1) d.heap.size (a.map (·.2)) x.2 W (AB Z8) i3 M (by grind);have h3:RoundIn (Fence.wide.inRound l') (n-1-1-1) prog l fn O assign body W _:=hR;unfold encR at hy;have y0:W.cell? (aA A.heap.size 0)=some (.func (.yield l) #[] #[]):=i2.cell 0;have y1:W.cell? (aA T 0)=some (uZ x.2.1):=h6.cell 0;have y2:W.cell? (aA T 1)=some (uZ x.2.2):=h6.cell 1;have x2:=aG i2;clear hR L fP x0 M i2 h6;gi_wp2;refine⟨fun _=>aj,h3.mono ?_⟩;rintro e S (⟨rfl,j,p⟩|⟨rfl,j,p⟩)
  .have HF:Hid (KeepsFrom d.heap.size W S/\(∀k,A.heap.size<=k->k<d.heap.size->S.heap[k]?=W.heap[k]?)/\J d.heap.size ((a++[x]).map (·.2)) S/\aS S A.heap.size 325 [.func (.yield l) #[] #[]]/\d.heap.size<=S.heap.size):=by
    obtain⟨q1,q2,q3⟩:=p;refine⟨⟨q3.size,fun k o B ho hc=>q3.same k o aj ho hc⟩,q2,by rw[Dv];exact j,x2.out.of_heap (q2 _ (aI _) Z8),aj⟩
   clear j p h3 hy y0 y1 y2;gi_wp2;exact HF.out
  .have HF:Hid (KeepsFrom d.heap.size W S/\P d.heap.size ((a++[x]).map (·.2)) S):=by
    obtain⟨q1,q2,q3⟩:=p;exact⟨⟨q3.size,fun k o B ho hc=>q3.same k o aj ho hc⟩,by rw[Dv];exact j⟩
   clear j p h3 hy y0 y1 y2;gi_wp2;exact⟨HF.out.1,rfl,HF.out.2⟩
 case done=>
  rintro D ys W hD x8 ⟨M,_,_⟩ Z;subst x8;have V:J d.heap.size rs.reverse (W.putObj D (.deferred none)):=by have:=(HJ.out d.heap.size).putObj (.deferred none) M aj Z rfl;rwa[Z5 rs rs.length (aI _),wI aR]at this
  gi_wp2;refine⟨aR,.inl ⟨_,_,rfl,run_takeDeferred Z,?_⟩⟩;exact⟨_,results_none rfl _ _ _,⟨_,rfl⟩,_,AB Z8,.inl V⟩
 case stop=>
  rintro D c' a W hD ⟨k,B,rfl⟩ ⟨rfl,M⟩ Z;have V:P d.heap.size (rs.reverse.take k) (W.putObj D (.deferred none)):=by have:=(ha.out d.heap.size).putObj (.deferred none) M aj Z rfl;rwa[Z5 rs k B]at this
  gi_wp2;refine⟨aR,.inl ⟨_,_,rfl,run_takeDeferred Z,?_⟩⟩;exact⟨_,results_none rfl _ _ _,⟨_,rfl⟩,_,AB Z8,.inr ⟨k,B,V⟩⟩
end
section
attribute [local go_sem] zG
theorem Z9(w){c rest o}(f:o.guard=none)(s x t)(b:o.op=Op.call {callee:=Callee.builtin Builtin.append,args:=#[s,x],argTypes:=#[t,t]})(vs d)(i:a.eval s=vs)(j:a.eval x=d)(v' w')(g:(nA #[t,t] o.type #[vs,d]).run P w=.ok v' w')(h:wpListIn F n P c Q rest (a.put o.dst v') w'):wpListIn F n P c Q (o::rest) a w:=
 wpListIn_plain f fun K e=>by
  unfold xY;constructor;.simp[vU,b,resolve,Target.leads,YH]
  .rw[mK F _ _ (by grind)];simp[execOp,b,resolve,invoke,builtin,i,j,g,Result.andThen];exact e _ _ h
def zA{g e assign body}(h:∀c d b,c=assign->d=body->b=a->(Code.rangeFunc g e c d).wpIn F n P Q b w):(Code.rangeFunc g e assign body).wpIn F n P Q a w:=h _ _ _ rfl rfl rfl
theorem qgc{β}{I:β->Wq->Prop}(h:∀s X Y,I s X->Y.os=X.os->Y.tape=X.tape->Y.output=X.output->X.heap.size<=Y.heap.size->(∀k,k<X.heap.size->k<B->Y.heap[k]?=X.heap[k]?)->(∀k t l,aS X k t l->Y.heap[k]?=X.heap[k]?)->I s Y):OwnFrom B I:=fun s X Y row f a d=>h s X Y f a.os a.tape a.output a.size (fun k c g=>a.block k c (fun e=>by grind)) (fun k t l b=>Mq B k t l () X Y row b a d |>.trans b.symm)
def Z_{e k w' l}(h:fO e k w v n l)(f:∀b t l,aS w b t l->w'.heap[b]?=w.heap[b]?):fO e k w' v n l:=by
 rcases h with h|⟨g,cap,c,rfl,a,d⟩;.exact .inl h
 .exact .inr ⟨g,cap,c,rfl,a.of_heap (f _ _ _ a),d⟩
theorem ql7{wr a}(h:fO 170 2 wr v a.length (bX a))(x:Own B v)(A:B<=wr.heap.size)(J:a.length<=100000000)(f d:Nat):∃g c i,(∀G,(nA #[63,63] G #[v,dB wr.heap.size 1 1]).run prog (wr.alloc (.cells #[uZ f,uZ d] 170))=.ok (dB g (a.length+1) c) i)/\fO 170 2 i (dB g (a.length+1) c) (a++[(f,d)]).length (bX (a++[(f,d)]))/\Own B (dB g (a.length+1) c)/\Below B wr i/\∀k,k<wr.heap.size->v.ownBlock≠some k->i.heap[k]?=wr.heap[k]?:=by
 have r:=h.lt;have t:fO 170 2 (wr.alloc (.cells #[uZ f,uZ d] 170)) v a.length (bX a):=h.of_heap (fun b C=>mJ _ _ _ (r b C));obtain⟨H,i,I,l,o⟩:=jL Rl t (aA wr.heap.size 0) 1 1 [uZ f,uZ d] rfl kX (fun v y=>by simp at y;rcases y with rfl|rfl<;>rfl)
  (fun j u F=>by rw[gT,gG,(aS.new wr 170 [uZ f,uZ d]).cell];exact F) aj
 have p:=o.own x dZ;have w:=o.below x dZ;have q:Below B wr (wr.alloc (.cells #[uZ f,uZ d] 170)):=(bP _ wr).alloc A _;obtain⟨n,m,rfl⟩:∃n m,H=(dB n (a.length+1) m):=by
  rcases l with⟨_,z,_⟩|⟨n,m,_,z,_⟩;.omega
  grind
 have s:bX a++[uZ f,uZ d]=bX (a++[(f,d)]):=by rw[kV];rfl
 rw[s]at l;exact⟨n,m,i,I,by grind,p,q.trans w,fun k D E=>by rw[o.1.block k dZ (fun e=>E e.symm),mJ _ _ _ D]⟩
def JC(w:Wq)(c L D:Nat)(b:Loop)(E:Nat)(a:bY)(W:Wq):Prop:=
 bJ w W/\(∃v,aS W c 63 [v]/\fO 170 2 W v a.length (bX a)/\Own E v)/\W.heap[L]?=some (.loop b)/\W.heap[D]?=some (.deferred (some []))
def JC.own{i L D d E}(r:L<B)(q:D<B)(y:w.heap.size<=B):OwnFrom B (JC w i L D d E):=qgc fun s X Y t j l m n b h=>by obtain⟨a,⟨v,e,o,p⟩,f,g⟩:=t;have x:=(oF.1 f).1;have u:=(oF.1 g).1;exact⟨⟨j.trans a.os,l.trans a.tape,m.trans a.output,dx a.size n,fun k c=>(b k (fT a.size) aj).trans (a.block k c)⟩,⟨v,e.of_heap (h _ _ _ e),Z_ o h,p⟩,(b L x r).trans f,(b D u q).trans g⟩
theorem Jd(sb sp rs base c w)(h0:w.cell? (aA sp 227)=some (.slice base rs.length c))(hG:fO 170 2 w (.slice base rs.length c) rs.length (bX rs))(z:aS w sb 273 [aK sp 225])(x5:rs.length<=1000000):WA prog 308 #[nZ,.func (.func 226) #[] #[aK sb 0]] w fun e w'=>∃L,e=.returned L/\fO 170 2 w' L rs.reverse.length (bX rs.reverse)/\Own w.heap.size L/\bJ w w':=by
 have x4:∀(b:Nat) (W:Wq),(binOp BinOp.eql 234 (.func (.func 226) #[] #[aK b 0]) .nilFunc).run prog W=.ok (.bool false) W:=fun _ _=>bZ;have HS:=aG (dz h0 (dz hG z));have Z7:=z.lt;have x8:=iq w _ (by rw[h0]);clear h0 hG z;refine(callsIn_wide (n:=10)).1 ?_;refine callsIn_of_wp_marks func308 rfl trivial ?_ rfl;simp only[ntmps308,E8,pI,vD,tL,tO,Ju,Jt,Cr,Jv,pJ,AA];gi_wp2;obtain⟨a,h2⟩:=bU (w.alloc (.cells #[nZ] 63));rw[<-h2];have N:Hid (bJ w a/\a.heap.size=w.heap.size+1/\aS a w.heap.size 63 [nZ]):=by rw[h2];exact⟨(bP _ w).alloc (aI _) _,aR,aS.new w 63 [nZ]⟩
 clear h2 x4;refine zA (fun ag bd a0 has hc X=>wpIn_rangeFunc ?_);intro fn _;obtain⟨d,i⟩:∃d:LoopState->Option Code->Loop,d=fun st pe=>{state:=st,pending:=pe,fn:=fn,tmps:=a0.tmps,params:=#[7],assign:=ag,body:=bd,defers:=a.heap.size}:=⟨_,rfl⟩;obtain⟨A,hA⟩:=bU ((a.alloc (.deferred (some []))).alloc (.loop (d .ready none)));obtain⟨Y,hg,x3⟩:=N.out;obtain⟨r1,r2,r3⟩:=HS.out;have hj:A.heap.size=a.heap.size+2:=by rw[hA];simp
 have Xf:bJ a A:=by rw[hA];exact((bP _ a).alloc (aI _) _).alloc aR _
 have T:A.heap[a.heap.size+1]?=some (.loop (d .ready none)):=by grind [tu,mR]
 have S:A.heap[a.heap.size]?=some (.deferred (some [])):=by grind [mI,tu]
 have Xg:=Y.trans (Xf.mono aj);have y2:=r3.of_heap (Xg.block _ Z7);have y3:=x3.of_heap (Xf.block _ x3.lt);have y4:=cell_of r1 (Xg.block _ x8);have y5:=r2.of_heap (fun b hb=>Xg.block b (r2.lt b hb));clear r1 r2 r3;refine⟨a.heap.size+1,[{target:=.collected a.heap.size,args:=#[]}],A,{target:=.fn (.func 226) #[aK sb 0],args:=#[.func (.yield (a.heap.size+1)) #[] #[]]},A,226,#[.func (.yield (a.heap.size+1)) #[] #[],aK sb 0],A,?_,?_,fun _ _=>trivial,?_,fun _=>aj,?_⟩;.rw[hA,i];exact run_enterLoop_outer _ _ _ _ _
 .rw[X];simp[resolve,Act.eval,go_sem]
 .simp[invoke,go_sem]
 .refine(Z6 (10-1) aj (a.heap.size+1) sp rs base c y4 y5 y2 x5 (JC w w.heap.size (a.heap.size+1) a.heap.size (d .ready none)) (fun _ _ _=>False)
   (fun E=>JC.own aj aj aj) (fun E=>ownFrom_pure _ _) (fun E W hW=>?_) ?_).mono ?_
  .exact⟨Xg.trans (hW.mono aj),⟨_,y3.of_heap (hW.block _ aj),fO.nil _ _ _,fun k f=>by simp[eT]at f⟩,(hW.block _ aj).trans T,(hW.block _ aj).trans S⟩
  .intro m E j x W hE xl hJ x9;obtain⟨y,⟨L,h3,G,Q⟩,R,h7⟩:=hJ;have hy:=run_yield (P:=prog) (args:=encR x) R (by rw[i];rfl);have x7:=(oF.1 R).1;obtain⟨Wa,H⟩:=bU (W.alloc (.cells #[uZ x.1,uZ x.2] 170));have hx:Wa.heap[a.heap.size+1]?=some (.loop (d .ready none)):=by grind [mI]
   obtain⟨r,V⟩:∃r,r=Wa.putObj (a.heap.size+1) (.loop {d .ready none with state:=.busy}):=⟨_,rfl⟩;have he:(Instr.beginRound (a.heap.size+1)).run prog Wa=.ok () r:=by grind [run_beginRound]
   have z:r.heap.size=W.heap.size+1:=by rw[V,H];simp
   have Z:∀k,k<W.heap.size->k≠a.heap.size+1->r.heap[k]?=W.heap[k]?:=fun k f hn=>by grind [eB,mI]
   have hf:r.heap[a.heap.size+1]?=some (.loop {d .ready none with state:=.busy}):=by grind [nU]
   have h8:aS r W.heap.size 170 [uZ x.1,uZ x.2]:=by grind [aS.new,aS.of_heap,eB]
   have J:r.os=W.os/\r.tape=W.tape/\r.output=W.output:=by rw[V,H];exact⟨rfl,rfl,rfl⟩
   have b3:=h3.of_heap (Z _ h3.lt aj);have b4:=G.of_heap (fun k f=>Z k (G.lt k f) (fT (Q k f)));obtain⟨g,C,O,xA,c1,c2,c3,c4⟩:=ql7 b4 Q aj aj x.1 x.2;obtain⟨D,F,rfl,_⟩:=G.shape;have d3:r.cell? (aA w.heap.size 0)=some (.slice D j.length F):=b3.cell 0;have B:∀k,k<E->(tY D j.length F).ownBlock≠some k:=fun k f e=>fT (Q k e);have e3:=b3.of_heap (c4 _ b3.lt (B _ aj));have e6:=(c4 _ aj (B _ aj)).trans hf;have xd:O.cell? (aA w.heap.size 0)=some (.slice D j.length F):=e3.cell 0;have xi:=e3.frozen 0;have xe:r.cell? (aA W.heap.size 0)=some (uZ x.1):=h8.cell 0;have xf:r.cell? (aA W.heap.size 1)=some (uZ x.2):=h8.cell 1;rw[i]at hy;refine⟨fn,_,ag,bd,hy,roundIn_of_wpIn trivial ?_⟩;clear hy;have ho:∀(W6:Wq),W6=O.setCell (aA w.heap.size 0) (dB g (j.length+1) C)->∃p,(Instr.endRound (a.heap.size+1) none).run prog W6=.ok (.bool true) p/\p.heap[a.heap.size+1]?=some (.loop (d .ready none))/\KpO A.heap.size E W p/\bJ w p/\(∃v,aS p w.heap.size 63 [v]/\fO 170 2 p v (j++[x]).length (bX (j++[x]))/\Own E v)/\p.heap[a.heap.size]?=some (.deferred (some [])):=by
    intro W6 Uy;have hu:W6.heap[a.heap.size+1]?=some (.loop {d .ready none with state:=.busy}):=by grind [fB]
    have xa:=run_endRound (P:=prog) none hu;obtain⟨p,U⟩:=bU (W6.putObj (a.heap.size+1) (.loop (d .ready none)));refine⟨p,?_,?_,?_⟩;.grind
    .grind [nU,Array.getElem?_eq_some_iff]
    have o7:∀k,k≠a.heap.size+1->k≠w.heap.size->p.heap[k]?=O.heap[k]?:=fun k n1 n2=>by grind [eB,fB]
    have s7:p.heap.size=O.heap.size:=by rw[U,Uy];simp
    have h9:p.os=O.os/\p.tape=O.tape/\p.output=O.output:=by rw[U,Uy];exact⟨rfl,rfl,rfl⟩
    have s5:=c3.size;have oW:∀k,k<W.heap.size->k≠a.heap.size+1->k≠w.heap.size->(tY D j.length F).ownBlock≠some k->p.heap[k]?=W.heap[k]?:=fun k f n1 n2 n3=>by grind
    have xo:=c2 g rfl;have xn:g≠a.heap.size+1:=aj;have xm:g≠w.heap.size:=aj;refine⟨⟨aj,fun k k1 k2=>oW k aj aj aj (B k k2),⟨aj,fun k o k1 k2 k3=>?_⟩⟩,⟨?_,?_,?_,by grind,fun k f=>?_⟩,⟨_,?_,c1.of_heap (fun k f=>?_),c2⟩,?_⟩
    .have x2:=(oF.1 k2).1;rw[oW k x2 aj aj (fun e=>?_),k2];rcases G with⟨e',_⟩|⟨g',cap,cs,e',hB,_⟩;.rw[e']at e;simp[eT]at e
     .rw[e']at e;simp[eT]at e;subst e;have:=hB.symm.trans k2;simp at this;rw[<-this]at k3;cases k3
    .rw[h9.1,c3.os,J.1,y.os]
    .rw[h9.2.1,c3.tape,J.2.1,y.tape]
    .rw[h9.2.2,c3.output,J.2.2,y.output]
    .rw[oW k (by grind) aj aj (B k aj),y.block k f]
    .rw[U];refine aS.of_heap (w:=W6) ?_ (eB aj);rw[Uy];exact e3.Q_ 0 _
    .have xp:k=g:=by simp[eT]at f;omega
     grind
    grind
   have oh:=aG ho;have ha:=aG he;clear ho he hx Z hf h8 J b3 b4 c1 c2 c3 c4 e3 e6 y h3 G Q R h7 B T S Xf Xg y2 y3 y4 y5 Y x3 HS N hA hg hj z V x7 i;subst has hc X;simp only[encR];gi_wp2;rw[<-H];refine⟨r,ha.out,?_⟩;clear H ha;have xr:j.length<=1000000:=aj;gi_wp2_with (gi_at_builtin;refine Z9 _ rfl _ _ _ rfl _ _ rfl rfl _ _ (xA _) ?_);obtain⟨p,r1,r2,r3,r4,r5,r6⟩:=oh.out _ rfl;exact⟨_,_,r1,.inl ⟨rfl,⟨r4,r5,r2,r6⟩,r3⟩⟩
  .rintro e W ⟨⟨v,rfl⟩,E,xj,hJ|⟨k,f,hJ⟩⟩
   .obtain⟨y,⟨L,h3,G,Q⟩,R,h7⟩:=hJ;have iD:=(oF.1 R).1;obtain⟨q,Nk⟩:∃q,q=W.putObj (a.heap.size+1) (.loop {d .ready none with state:=.exhausted}):=⟨_,rfl⟩;have M:(Instr.endLoop (a.heap.size+1)).run prog W=.ok none q:=by grind [run_endLoop,prog]
    refine⟨none,q,M,?_⟩;have s:∀k,k≠a.heap.size+1->q.heap[k]?=W.heap[k]?:=fun k f=>by grind [eB]
    have x6:q.heap.size=W.heap.size:=by rw[Nk];simp
    have K:q.os=W.os/\q.tape=W.tape/\q.output=W.output:=by rw[Nk];exact⟨rfl,rfl,rfl⟩
    have z3:=h3.of_heap (s _ aj);have z7:=(s _ aj).trans h7;have u:bJ w q:=⟨K.1.trans y.os,K.2.1.trans y.tape,K.2.2.trans y.output,by grind,fun k f=>(s k aj).trans (y.block k f)⟩;obtain⟨D,F,rfl,_⟩:=G.shape;have zc:q.cell? (aA w.heap.size 0)=some (.slice D (rs.reverse).length F):=z3.cell 0;have HF:Hid (fO 170 2 (q.putObj a.heap.size (.deferred none)) (.slice D (rs.reverse).length F) (rs.reverse).length (bX rs.reverse)/\Own w.heap.size (.slice D (rs.reverse).length F)/\bJ w (q.putObj a.heap.size (.deferred none))):=by
     refine⟨?_,fun k f=>?_,⟨u.os,u.tape,u.output,by have:=u.size;simpa using this,fun k f=>(eB aj).trans (u.block k f)⟩⟩
     .refine G.of_heap (fun k f=>?_);have x0:∃t l,aS W k t l:=by
       rcases G with⟨e,_⟩|⟨g,cap,cs,e,hB,_⟩;.rw[e]at f;simp[eT]at f
       .rw[e]at f;simp[eT]at f;grind
      obtain⟨t,l,I⟩:=x0;have n1:k≠a.heap.size+1:=fun e=>by rw[e]at I;have:=I.symm.trans R;cases this
      have n2:k≠a.heap.size:=fun e=>by rw[e]at I;have:=I.symm.trans h7;cases this
      grind [eB]
     .have:=Q k f;omega
    have hr:Hid (∀v,v=tY D (rs.reverse).length F->∃L,fE v=fE L/\fO 170 2 (q.putObj a.heap.size (.deferred none)) L rs.reverse.length (bX rs.reverse)/\Own w.heap.size L/\bJ w (q.putObj a.heap.size (.deferred none))):=fun v hv=>⟨v,rfl,by rw[hv];exact HF.out⟩;clear HF;generalize hw:(rs.reverse).length=N9 at zc;clear y h3 G Q R h7 M s x6 K z3 u iD hj Xf T S Xg y2 y3 y4 y5 Y hg x3 hA Nk i has hc N HS;subst X;gi_wp2;refine⟨aR,.inl ⟨_,_,rfl,run_takeDeferred z7,?_⟩⟩;exact⟨.slice D N9 F,by simp[results,results308,go_sem],hr.out _ (by rw[hw])⟩
   .exact hJ.elim
end
end Go.Proofs.YtphbledmopchnaaGreatDoor.St
namespace Go.Proofs.YtphbledmopchnaaGreatDoor.Sd
open Go.RowKit Go.Lib Mm Go.Maps Tryz
section
section
variable {F:Fence} {n:Nat} (w:Wq) {ops:Array Oper} {rest:List Oper} {o:Oper} {a:Act} {Q:Exit->Act->Wq->Prop}
theorem R_(i:o.guard=none)(m)(d:o.op=Op.range 203 m)(b l)(j:a.eval m=.map (some b))(h:oH w b l)(g:∀c,xu c b w.heap.size l l->w.grownBy c none->c.heap.size=w.heap.size+1->wpListIn F n prog ops Q rest (a.put o.dst (aK w.heap.size 0)) c):wpListIn F n prog ops Q (o::rest) a w:=by
 refine wpListIn_plain i fun r f=>?_;obtain⟨c,e,k,p,q⟩:=h.range;unfold xY;constructor;.simp[vU,d]
 .rw[mK F _ _ (by grind)];simp[execOp,d,j,e,Result.andThen];exact f _ _ (g c k p q)
theorem Xh(m:o.guard=none)(j)(g:o.op=Op.next j false)(b r l lf)(hit:a.eval j=(aK r 0))(h:xu w b r l lf)(e:lf=[]->wpListIn F n prog ops Q rest (a.put o.dst (.tuple #[.bool false])) w)(f:∀(x) (d),x∈lf->x.1<18446744073709551616->xu d b r l (lf.filter fun y=> !decide (y.1=x.1))->d.rangeLeft b r<w.rangeLeft b r->w.grownBy d (some r)->d.heap.size=w.heap.size->(nI (aK r 0)).run prog d=.ok (.tuple #[uZ x.1,zM x.2]) d->wpListIn F n prog ops Q rest (a.put o.dst (.tuple #[.bool true,uZ x.1,zM x.2])) d):wpListIn F n prog ops Q (o::rest) a w:=by
 refine wpListIn_plain m fun p i=>?_;unfold xY;constructor;.simp[vU,g]
 .rw[mK F _ _ (by grind)];rcases h.next o.type with⟨k,c⟩|⟨x,d,h1,h2,c,h3,h4,h5,h6,h7⟩;.simp[execOp,g,hit,c,Result.andThen];exact i _ _ (e k)
  .simp[execOp,g,hit,c,Result.andThen];exact i _ _ (f x d h1 h2 h3 h4 h5 h6 h7)
end

end
end Go.Proofs.YtphbledmopchnaaGreatDoor.Sd
namespace Go.Proofs.YtphbledmopchnaaGreatDoor.Sd
open Go.RowKit Go.Lib Mm Tryz
theorem XH(S aV named n:Nat)(x w)(c:w.cell? (aA S 3)=some (uZ aV))(i:w.cell? (aA S 232)=some (uZ named))(o:x.2.2.2<=aV)(v:aV<18446744073709551616)(A:n+3<18446744073709551616):bN 192 #[aK S 0,uZ n,zM x] w (.bool (decide (6<=aV-x.2.2.2)||decide (n+3<named))) fun j=>bJ w j:=by
 obtain⟨d,f,e,t⟩:=x;have y:IntKind.u64.wrap ((aV:Int)-(t:Int))=((aV-t:Nat):Int):=by grind [IntKind.wrap_u64]
 have z:IntKind.u64.wrap ((n:Int)+3)=((n+3:Nat):Int):=by grind [IntKind.wrap_u64]
 have u:t<=aV:=o;clear o;show bN 192 #[aK S 0,uZ n,.agg #[.slice d f e,uZ t]] w (.bool (decide (6<=aV-t)||decide (n+3<named))) fun j=>bJ w j;generalize p:aV-t=D at *
 generalize r:n+3=l at *
 clear p r;obtain⟨W,b⟩:=bU (w.alloc (.cells #[.slice d f e,uZ t] 289));have a:bJ w W:=by rw[b];exact(bP _ w).alloc (aI _) _
 have B:=cell_of c (a.block _ (iq w _ (by rw[c])));have C:=cell_of i (a.block _ (iq w _ (by rw[i])));have E:W.cell? (aA w.heap.size 1)=some (uZ t):=by rw[b];exact(aS.new w 289 [.slice d f e,uZ t]).cell 1
 have k:Hid (∀q,bJ w (W.drewN q)):=fun q=>⟨a.os,a.tape,a.output,a.size,a.block⟩;clear c i a;by_cases m:6<=D;.have g:(6:Int)<=(D:Int):=aj;rw[decide_eq_true m];go_enter func192,ntmps192;go_wp2;rw[<-b];clear b;go_quiet (fail);go_wp2;go_ret;exact⟨rfl,k.out _⟩
 .have g:decide ((6:Int)<=(D:Int))=false:=decide_eq_false aj;rw[decide_eq_false m];have s:(decide ((l:Int)<(named:Int)))=decide (l<named):=aR;go_enter func192,ntmps192;go_wp2;rw[<-b];clear b;go_quiet (fail);go_wp2;go_ret;exact⟨aR,k.out _⟩
theorem qlb(S b n nx:Nat)(x w)(c:w.cell? (aA b 0)=some (aK S 0))(j:w.cell? (aA S 229)=some (uZ nx))(l:n+64<18446744073709551616):bN 195 #[uZ n,zM x,aK b 0] w (.bool (decide (n+64<nx))) fun a=>bJ w a:=by
 obtain⟨d,f,e,t⟩:=x;have i:IntKind.u64.wrap ((n:Int)+64)=((n+64:Nat):Int):=by grind [IntKind.wrap_u64]
 show bN 195 #[uZ n,.agg #[.slice d f e,uZ t],aK b 0] w (.bool (decide (n+64<nx))) fun a=>bJ w a;generalize g:n+64=k at *
 clear g;have m:b<w.heap.size:=iq w _ (by rw[c]);have o:S<w.heap.size:=iq w _ (by rw[j]);go_enter func195,ntmps195;go_wp2;go_ret;exact⟨aR,(bP _ w).alloc (aI _) _⟩
theorem Sw{rs:bY}{k n}(a:k<rs.length):names (rs.drop k) n=(decide ((rs.getD k (0,0)).1<=n)&&decide (n<=(rs.getD k (0,0)).2)||names (rs.drop (k+1)) n):=by
 have e:rs.drop k=rs.getD k (0,0)::rs.drop (k+1):=by grind [List.drop_eq_getElem_cons,List.getElem?_eq_getElem]
 rw[e];rfl
theorem XI(a rs)(c n:Nat)(w)(z:j_ w a rs)(H:rs.length<=1000000):bN 338 #[.slice a rs.length c,uZ n] w (.bool (names rs n)) fun E=>bJ w E:=by
 have B:=aG z;clear z;go_enter func338,ntmps338;go_wp2;go_loopw [9] (fun t wr=>∃k:Nat,k<=rs.length/\t=(iZ k)/\Hid (bJ w wr/\names (rs.drop k) n=names rs n)) (fun t _=>rs.length-(fA t).toNat);case atStart=>exact⟨0,eG _,rfl,bP _ _,rfl⟩
 case round=>
  obtain⟨k,G,rfl,u⟩:=hrel;obtain⟨i,d⟩:=u.out;by_cases j:k<rs.length
  .have y:(k:Int)<(rs.length:Int):=aj;obtain⟨b,o,rfl,C,D,_⟩:=(B.out.below i) k j;have e:=Sw (n:=n) j;rw[d]at e;generalize rs.getD k (0,0)=F at *
   obtain⟨s,r⟩:=F;dsimp only at C D e;have f:Hid (∀o,bJ w (wr.alloc o)):=fun o=>i.alloc i.size _;have g:=aG e;clear d e i;by_cases v:s<=n
   .have p:(s:Int)<=(n:Int):=aj;by_cases x:n<=r;.have q:(n:Int)<=(r:Int):=aj;go_wp2;go_ret;exact⟨by rw[g.out,decide_eq_true v,decide_eq_true x];rfl,f.out _⟩
    .have q:¬(n:Int)<=(r:Int):=aj;have m:Hid (names (rs.drop (k+1)) n=names rs n):=by rw[Hid,g.out,decide_eq_false x];simp
     go_wp2;go_roundw;case rel=>exact⟨k+1,aj,aR,f.out _,m.out⟩
     grind [fA]
   .have p:¬(s:Int)<=(n:Int):=aj;have m:Hid (names (rs.drop (k+1)) n=names rs n):=by rw[Hid,g.out,decide_eq_false v];simp
    go_wp2;go_roundw;case rel=>exact⟨k+1,aj,aR,f.out _,m.out⟩
    grind [fA]
  .obtain rfl:k=rs.length:=aj;have A:Hid (names rs n=false):=by rw[Hid,<-d,KZ];rfl
   have l:=aG i;clear d i u;go_wp2;go_ret;exact⟨by rw[A.out];rfl,l.out⟩
def qao(b n:Nat)(a rs c x w)(m:w.cell? (aA b 0)=some (.slice a rs.length c))(k:j_ w a rs)(o:rs.length<=1000000):bN 337 #[uZ n,zM x,aK b 0] w (.bool (names rs n)) fun d=>bJ w d:=by
 obtain⟨f,i,g,t⟩:=x;show bN 337 #[uZ n,.agg #[.slice f i g,uZ t],aK b 0] w (.bool (names rs n)) fun d=>bJ w d;have p:b<w.heap.size:=iq w _ (by rw[m]);have e:bJ w (w.alloc (.cells #[.slice f i g,uZ t] 289)):=(bP _ w).alloc (aI _) _;have l:Hid (bN 338 #[.slice a rs.length c,uZ n] (w.alloc (.cells #[.slice f i g,uZ t] 289)) (.bool (names rs n)) fun d=>bJ w d):=by refine bK (XI a rs c n _ (k.below e) o) ?_;rintro d j;exact⟨rfl,e.trans (j.mono e.size)⟩
 clear e k;go_enter func337,ntmps337;go_wp2_with (go_at_call 338;refine bK l.out ?_;rintro d e);go_ret;exact⟨rfl,e⟩
end Go.Proofs.YtphbledmopchnaaGreatDoor.Sd
namespace Go.Proofs.YtphbledmopchnaaGreatDoor.Sd
open Go.RowKit Go.Lib Mm Go.Maps Tryz
variable {a:Nat->Bool}{b r:Nat}{c l lf:List Nat}{w y z:Wq}
theorem qav(S g x:Nat)(w)(c:w.cell? (aA S 236)=some (uZ g))(b:x<=dH):bN 301 #[aK S 235,uZ x] w (.bool (decide (x+32<=g))) fun d=>d=w:=by
 have e:IntKind.u64.wrap ((x:Int)+32)=((x+32:Nat):Int):=by grind [IntKind.wrap_u64,dH]
 generalize a:x+32=N at *
 clear a b;go_enter func301,ntmps301;go_wp2;go_ret;exact⟨aR,rfl⟩
structure ImD (w:Wq) (b r:Nat) (l:List Nat) (want:Nat->Bool) (y:Wq) (cur lf:List Nat):Prop where
 rg:Ls y b r cur lf
 cur:∀x,x∈cur↔x∈l/\(x∈lf\/want x=false)
 gr:w.grownBy y (some b)
def qaw{l'}(h:l.Nodup)(a:l'.Nodup)(b:∀x,x∈l↔x∈l'):l.Perm l':=(List.perm_ext_iff_of_nodup h a).2 b
def ImD.done(h:ImD w b r l a y c [])(d:l.Nodup):zl y b (l.filter fun x=> !a x):=by refine h.rg.map.perm (qaw h.rg.map.nodup (d.filter _) fun x=>?_);rw[h.cur,dY];simp
theorem ImD.stay(h:ImD w b r l a y c lf)(x)(g:a x=false)(d:Ls z b r c (lf.filter fun y=> !decide (y=x)))(f:w.grownBy z (some b)):ImD w b r l a z c (lf.filter fun y=> !decide (y=x)):=by refine⟨d,fun e=>?_,f⟩;rw[h.cur,dY];grind
theorem ImD.go(h:ImD w b r l a y c lf)(x)(g:a x=true)(d:Ls z b r (c.filter fun e=> !decide (e=x)) ((lf.filter fun y=> !decide (y=x)).filter fun e=> !decide (e=x)))(f:w.grownBy z (some b)):ImD w b r l a z (c.filter fun e=> !decide (e=x)) ((lf.filter fun y=> !decide (y=x)).filter fun e=> !decide (e=x)):=by refine⟨d,fun e=>?_,f⟩;rw[dY,dY,dY,h.cur];grind
theorem OQ(oZ){S bi}(s g id:Nat)(l){f}(T:aS w S TS l)(hS:oZ S=s)(z:oZ bi=s+55)(c6:l[236]?=some (uZ g))(C:l[237]?=some (.map (some bi)))(h:zl w bi f)(K:id∉f)(hi:id<=dH)(p:∀x∈f,x<=dH)(hl:f.length<1000):bN 302 #[aK S 235,uZ id] w (.tuple #[]) fun P=>zl P bi ((id::f).filter fun x=> !decide (x+32<=max g id))/\aS P S TS (l.set 236 (uZ ((max g id:Nat):Int)))/\Kp [s,s+55] oZ oZ w P:=by
 have h6:=List.nodup_cons.2 ⟨K,h.nodup⟩;have L:S≠bi:=fun e=>by grind
 have h5:=T.lt;obtain⟨G,hm,X⟩:=max2 g id;rw[<-X];have d7:w.cell? (aA S 237)=some (.map (some bi)):=by rw[T.cell];exact C
 have h7:id<18446744073709551616:=by unfold dH at hi;omega
 have N:∀x∈id::f,x<=dH:=fun x hc=>by grind
 have HB:Hid (∀o,w.grownBy o (some bi)->o.cell? (aA S 236)=some (uZ g)/\o.frozen? (aA S 236)=false/\o.cell? (aA S 237)=some (.map (some bi))/\aS o S TS l):=fun o hg=>by have c:=T.of_heap (hg.block S h5 (fun e=>L (by simpa using e)));exact⟨by rw[c.cell];exact c6,c.frozen 236,by rw[c.cell];exact C,c⟩
 have HO:=aG (dz hS (dz z (dz h6 (dz C X))));clear T c6 C p hi X hS z;go_enter func302,ntmps302;go_wp2_with (first|(at_mapUpdate;refine CQ _ rfl _ _ _ rfl bi f rfl h aj id rfl rfl h7 K ?_;intro o I d;obtain⟨W,f6,e7,c⟩:=HB.out o d;obtain⟨i,v⟩:=bU (o.setCell (aA S 236) (uZ G));have Y:zl i bi (id::f):=I.kept (by grind [fB]);have HP:=aG (dz d c);clear c I)|(at_range;rw[<-v];refine Em _ rfl _ rfl bi (id::f) rfl Y ?_;intro w0 M h2 h9)|go_in);go_frame;have HQ:Hid (∀y,i.grownBy y (some bi)->y.cell? (aA S 236)=some (uZ G)/\y.cell? (aA S 237)=some (.map (some bi))/\aS y S TS (l.set 236 (uZ G))/\Kp [s,s+55] oZ oZ w y):=fun y D=>by
  obtain⟨d,c⟩:=HP.out;obtain⟨hS,z,_,C,_⟩:=HO.out;have F:aS i S TS (l.set 236 (uZ G)):=by rw[v];exact c.setCell 236 _
  have U:=F.of_heap (D.block S F.lt (fun e=>L (by simpa using e)));refine⟨by rw[U.cell];grind,by rw[U.cell,ay _ _ _ _ aj];exact C,U,?_⟩;have k1:Kp [s,s+55] oZ oZ w o:=⟨d.os,d.tape,d.output,d.size,fun b hb K=>d.block b hb (fun e=>by grind),fun _ _=>rfl⟩;have k2:Kp [s,s+55] oZ oZ o i:=by grind [Kp.set]
  have k3:Kp [s,s+55] oZ oZ i y:=⟨D.os,D.tape,D.output,D.size,fun b hb K=>D.block b hb (fun e=>by grind),fun _ _=>rfl⟩;exact(k1.trans k2).trans k3
 have HN:=aG (dz HO.out.2.2.1 N);obtain⟨a,n⟩:=bU (fun x=>decide (x+32<=G):Nat->Bool);have E:Hid (∀x,a x=decide (x+32<=G)):=fun x=>by rw[n]
 clear n v W f6 e7 N HB d7 hm h K;go_loopw [4] (fun _ wr=>∃m lf:List Nat,Hid (ImD i bi i.heap.size (id::f) a wr m lf)) (fun _ wr=>wr.rangeLeft bi i.heap.size);case atStart=>exact⟨id::f,id::f,(⟨M,fun x=>⟨fun p=>⟨p,.inl p⟩,fun p=>p.1⟩,h2.but _⟩:ImD i bi i.heap.size (id::f) a w0 (id::f) (id::f))⟩
 case round=>
  obtain⟨m,lf,hrel⟩:=hrel;go_wp2_with (first|(at_next;refine FB _ rfl _ rfl bi i.heap.size m lf rfl hrel.out.rg ?_ ?_)|go_in);.intro h0;go_wp2;go_end0;subst h0;obtain⟨_,_,q3,q4⟩:=HQ.out wr hrel.out.gr;refine⟨rfl,?_,q3,q4⟩;have:=hrel.out.done HN.out.1;rw[show(fun x=> !a x)=fun x=> !decide (x+32<=G)from funext fun x=>by rw[E.out]]at this;exact this
  .intro u Q p LK t r J ha h8;have H:=hrel.out;have O:=((H.cur _).1 (H.rg.sub _ p)).1;have A:i.grownBy Q (some bi):=H.gr.andThen J (fun j hj=>by grind);obtain⟨W,e7,_,_⟩:=HQ.out Q A;have R:Hid (bN 301 #[aK S 235,uZ u] Q (.bool (a u)) fun P=>P=Q):=by
    have:=qav S G u Q W (HN.out.2 u O);unfold Hid;rw[E.out];exact this
   have q:=aG (dz A (dz t (dz r H)));clear O A t r H p J;cases k:a u
   .rw[k]at R;have V:=aG k;clear k;go_wp2_with (first|(go_at_call 301;refine bK R.out ?_;rintro w4 B;subst B)|go_in);go_roundw;case rel=>exact⟨m,_,(q.out.2.2.2.stay u V.out q.out.2.1 q.out.1:ImD _ _ _ _ _ _ _ _)⟩
    case measure=>exact q.out.2.2.1
   .rw[k]at R;have V:=aG k;clear k;go_wp2_with (first|(go_at_call 301;refine bK R.out ?_;rintro w4 B;subst B)|(at_delete;refine CP _ rfl _ _ rfl bi i.heap.size m _ rfl q.out.2.1 u rfl LK ?_;intro w4 Z h4 h3;go_frame)|go_in);refine⟨⟨_,_,(q.out.2.2.2.go u V.out Z (q.out.1.andThen h3 (fun j hj=>by grind)):ImD _ _ _ _ _ _ _ _)⟩,?_⟩;exact Cn h4 q.out.2.2.1
