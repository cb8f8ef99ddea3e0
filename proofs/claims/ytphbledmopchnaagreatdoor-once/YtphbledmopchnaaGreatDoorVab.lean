import Derived.Test.YtphbledmopchnaaGreatDoorVaa
import Derived.Shelf.SlCmpFuncs.BinarySearchFunc
import Derived.Deep.RegionLaw
import Derived.Shelf.Spec.SlicesInsert
import Derived.Deep.RegionWith
open Go.Builtin renaming zeroCells->eB,clear_->fA,copy_->fE
open Go.Ending renaming returned->mE
open List renaming range->fB,countP_cons->kg,drop_succ_cons->mI
open Go.Value renaming agg->eT
set_option maxHeartbeats 4000000
set_option maxRecDepth 1000000
open Go renaming World->Wq,Calls->WB,Addr->V3
set_option linter.all false
namespace Go.Proofs.YtphbledmopchnaaGreatDoor.St.Rg
variable {rs:bZ}
def gW:bZ->Prop
 |[]=>True
 |r::t=>r.1<=r.2/\(∀x∈t,r.2+1<x.1)/\gW t
def Mem(rs:bZ)(x:Nat):Prop:=∃r∈rs,r.1<=x/\x<=r.2
def ins:Nat->Nat->bZ->bZ
 |lo,hi,[]=>[(lo,hi)]
 |lo,hi,r::t=>if r.2+1<lo then r::ins lo hi t else if hi+1<r.1 then(lo,hi)::r::t else ins (min lo r.1) (max hi r.2) t
def ku(a:Nat)(rs:bZ):Nat:=rs.countP (fun r=>decide (r.2+1<a))
def iW(a:Nat)(rs:bZ):Nat:=rs.countP (fun r=>decide (r.1<=a+1))
def EG(b a:Nat)(rs:bZ):Nat×Nat:=
 if ku b rs<iW a rs then(min b (rs.getD (ku b rs) (0,0)).1,max a (rs.getD (iW a rs-1) (0,0)).2)else(b,a)
def gW.le(h:gW rs):∀r∈rs,r.1<=r.2:=by
 induction rs with
 |nil=>intro r b;cases b
 |cons a t c=>
  intro r b;rcases qme.1 b with rfl|b;·exact h.1
  ·exact c h.2.2 r b
def qD{α:Type}(p:α->Bool)(l:List α)(h:∀x∈l,p x=false):l.countP p=0:=by rw[List.countP_eq_zero];intro x a;simp[h x a]
def yh{b a:Nat}(h:b<=a)(e:gW rs):ku b rs<=iW a rs:=by unfold ku iW;apply List.countP_mono_left;intro r d c;have:=e.le r d;simp at c ⊢;omega
def BD(a:Nat)(rs:bZ):iW a rs<=rs.length:=List.countP_le_length
def GH:∀(i:bZ) (f d:Nat),f<=d->gW i->ins f d i=i.take (ku f i)++EG f d i::i.drop (iW d i)
 |[],f,d,_,_=>by simp[ins,EG,ku,iW]
 |r::t,f,d,hlh,hs=>by
  obtain⟨F,k,m⟩:=hs;rw[ins];by_cases p:r.2+1<f
  ·have j:ku f (r::t)=ku f t+1:=by simp[ku,p]
   have h:iW d (r::t)=iW d t+1:=by have:r.1<=d+1:=aj;simp[iW,this]
   rw[bM p,GH t f d hlh m,j,h];simp only[List.take_succ_cons,mI,qom,EG,j,h];by_cases c:ku f t<iW d t;·obtain⟨z,q⟩:∃z,iW d t=z+1:=⟨iW d t-1,aj⟩;simp[q]
   ·have A:¬(ku f t+1<iW d t+1):=aj;rw[aV c,aV A]
  ·have D:∀x∈t,decide (x.2+1<f)=false:=fun x g=>by
    have o:=k x g;have w:=m.le x g;simp;omega
   have j:ku f (r::t)=0:=by simp only[ku,kg,qD _ t D];simp[p]
   rw[aV p];by_cases y:d+1<r.1
   ·have v:∀x∈t,decide (x.1<=d+1)=false:=fun x g=>by
     have o:=k x g;simp;omega
    have h:iW d (r::t)=0:=by have:¬r.1<=d+1:=aj;simp only[iW,kg,qD _ t v];simp[this]
    rw[bM y];simp[EG,j,h]
   ·have B:∀x∈t,decide (x.1<=d+1)=decide (x.1<=max d r.2+1):=fun x g=>by
     have o:=k x g;rw[decide_eq_decide];omega
    have h:iW d (r::t)=iW (max d r.2) t+1:=by have:r.1<=d+1:=aj;simp only[iW,kg,this,decide_true,if_true];rw[qql (fun x g=>by rw[B x g])]
    have l:ku (min f r.1) t=0:=qD _ t (fun x g=>by have o:=k x g;have w:=m.le x g;simp;omega);rw[aV y,GH t _ _ aj m,j,h,l];simp only[qop,qmq,mI];congr 1
    simp only[EG,j,h,l];rw[bM (Nat.succ_pos _)];generalize C:iW (max d r.2) t=e;have s:e<=t.length:=C▸BD _ t;cases e with
    |zero=>simp
    |succ e=>
     have u:t.getD 0 (0,0)∈t:=by
      cases t with
      |nil=>simp at s
      |cons a b=>simp
     have n:t.getD e (0,0)∈t:=by rw[qly,qm3 aj];exact qmz _
     have E:=k _ u;have o:=k _ n;have w:=m.le _ n;simp only[Nat.succ_pos,if_true,qp4,qo3,qpt,qob];constructor<;>omega
def GI:∀(g:bZ) (c d b:Nat),c<=d->gW g->b<c->(∀x∈g,b<x.1)->∀x∈ins c d g,b<x.1
 |[],c,d,b,_,_,hb,_=>by intro x a;simp[ins]at a;subst a;exact hb
 |r::t,c,d,b,hlh,hs,hb,ha=>by
  obtain⟨k,l,j⟩:=hs;have f:=ha r aM;have e:∀x∈t,b<x.1:=fun x a=>ha x (by simp[a]);rw[ins];by_cases h:r.2+1<c
  ·rw[bM h];intro x a;rcases qme.1 a with rfl|a;·exact f
   ·exact GI t c d b hlh j hb e x a
  ·rw[aV h];by_cases i:d+1<r.1
   ·rw[bM i];intro x a;rcases qme.1 a with rfl|a;·exact hb
    ·exact ha x a
   ·rw[aV i];exact GI t _ _ b aj j aj e
def mO:∀(j:bZ) (b a:Nat),b<=a->gW j->gW (ins b a j)
 |[],b,a,h,_=>⟨h,aM,trivial⟩
 |r::t,b,a,hlh,hs=>by
  obtain⟨i,f,c⟩:=hs;rw[ins];by_cases d:r.2+1<b;·rw[bM d];exact⟨i,GI t b a _ hlh c d f,mO t b a hlh c⟩
  ·rw[aV d];by_cases e:a+1<r.1
   ·rw[bM e];refine⟨hlh,?_,i,f,c⟩;intro x g;rcases qme.1 g with rfl|g;·exact e
    ·have:=f x g;show a+1<x.1;omega
   ·rw[aV e];exact mO t _ _ aj c
def wQ:∀(i:bZ) (d b B:Nat),b<=B->(∀x∈i,x.2<=B)->∀x∈ins d b i,x.2<=B
 |[],d,b,B,h,_=>by intro x a;simp[ins]at a;subst a;exact h
 |r::t,d,b,B,h,ha=>by
  have e:=ha r aM;have c:∀x∈t,x.2<=B:=fun x a=>ha x (by simp[a]);rw[ins];by_cases f:r.2+1<d
  ·rw[bM f];intro x a;rcases qme.1 a with rfl|a;·exact e
   ·exact wQ t d b B h c x a
  ·rw[aV f];by_cases g:b+1<r.1
   ·rw[bM g];intro x a;rcases qme.1 a with rfl|a;·exact h
    ·exact ha x a
   ·rw[aV g];exact wQ t _ _ B aj c
def pG:∀(e:bZ) (b a:Nat),(ins b a e).length<=e.length+1
 |[],b,a=>by simp[ins]
 |r::t,b,a=>by
  rw[ins];by_cases c:r.2+1<b;·rw[bM c];have:=pG t b a;simp;omega
  ·rw[aV c];by_cases d:a+1<r.1;·rw[bM d];simp
   ·rw[aV d];have:=pG t (min b r.1) (max a r.2);simp;omega
def has(n:Nat)(rs:bZ):Bool:=
 let i:=rs.countP (fun r=>decide (r.2<n))
 decide (i<rs.length)&&decide ((rs.getD i (0,0)).1<=n)
def Pe:∀(b:bZ) (n:Nat),gW b->(has n b=true↔Mem b n)
 |[],n,_=>by simp[has,Mem]
 |r::t,n,hs=>by
  obtain⟨l,d,f⟩:=hs;have i:=Pe t n f;by_cases c:r.2<n
  ·have e:has n (r::t)=has n t:=by simp[has,c]
   rw[e,i];simp only[Mem,qme,exists_eq_or_imp];constructor;·intro h;exact .inr h
   ·rintro(h|h);·omega
    ·exact h
  ·have g:∀x∈t,decide (x.2<n)=false:=fun x a=>by
    have j:=d x a;have k:=f.le x a;simp;omega
   have e:has n (r::t)=decide (r.1<=n):=by simp[has,c,qD _ t g]
   rw[e,decide_eq_true_iff];simp only[Mem,qme,exists_eq_or_imp];constructor;·intro h;exact .inl ⟨h,aj⟩
   ·rintro(h|⟨x,a,h⟩);·exact h.1
    ·have:=d x a;omega
def add(d:Nat)(a:Nat)(rs:bZ)(c b:Nat):Nat×bZ:=
 if b<max c a then(a,rs)
 else if d<(ins (max c a) b rs).length then(((ins (max c a) b rs).getD 0 (0,0)).2+1,(ins (max c a) b rs).tail)
 else(a,ins (max c a) b rs)
def gW.tail{l:bZ}(h:gW l):gW l.tail:=by
 cases l with
 |nil=>exact h
 |cons a t=>exact h.2.2
structure Ok (B:Nat) (k:Nat) (fl:Nat) (rs:bZ):Prop where
 Ce:gW rs
 hi:∀r∈rs,r.2<B
 len:rs.length<=k
 fl:fl<B
def Pf{l:bZ}(h:gW l){B:Nat}(d:∀r∈l,r.2<B)(c:1<l.length):(l.getD 0 (0,0)).2+1<B:=by
 match l,c with
 |a::b::t,_=>have e:=h.2.1 b aM;have f:=h.2.2.1;have g:=d b aM;simp only[qpt];omega
def down(rs:bZ)(a:Nat):bZ:=if a=0 then rs.reverse else rs.reverse.take a
end Go.Proofs.YtphbledmopchnaaGreatDoor.St.Rg
namespace Go.Proofs.YtphbledmopchnaaGreatDoor.St
open Go.RowKit Go.Lib Go.Shelf Tryz
def wY(g:Nat)(cb:Array Value)(n:Nat)(p:Nat->Bool)(w:Wq)(N:∀args w,(callFunc g args).run prog w=.ok (.enter g args) w)(O:n<4611686018427387904)(A:∀(m:Nat) (i:Nat),i<n->WB prog g (#[iZ i]++cb) (w.drewN m) fun e s=>e=.returned (.bool (p i))/\∃q,s=(w.drewN m).drewN q)(f:∀a b,a<=b->b<n->p a=true->p b=true):qH 171 #[iZ n,.func (.func g) #[] cb] w (iZ ((fB n).countP (fun i=> !p i):Nat)) fun s=>∃q,s=w.drewN q:=by
 have E:Aside _:=A;have M:Aside _:=f;clear A f;generalize j:(fB n).countP (fun i=> !p i)=C;have D:Aside ((fB n).countP (fun i=> !p i)=C):=j;clear j;go_enter func171,ntmps171;go_wp2;go_loopg [5,6] n (fun J K L wr=>∃(d c q:Nat),K=(iZ d)/\L=(iZ c)/\d<=c/\c<=n/\c-d<=J/\wr=w.drewN q/\Aside ((∀t,t<d->p t=false)/\(∀t,c<=t->t<n->p t=true)));case atStart=>exact⟨0,n,0,rfl,rfl,qm2 _,qj _,aj,rfl,(⟨fun t k=>absurd k (qmy _),fun t P Q=>aj⟩:(∀t,t<0->p t=false)/\(∀t,n<=t->t<n->p t=true))⟩
 case round=>
  obtain⟨d,c,q,rfl,rfl,G,o,R,rfl,I⟩:=hrel;by_cases H:d<c
  ·have u:=E.out q ((d+c) / 2) aj;rw[show(((d+c) / 2:Nat):Int)=((d:Int)+(c:Int)) / 2 by omega]at u;cases r:p ((d+c) / 2)<;>rw[r]at u
   ·have v:Aside (p ((d+c) / 2)=false):=r;clear r;go_wp2_with (go_at_fn g;refine bH u ?_;rintro s ⟨nq,rfl⟩);go_roundg (c-((d+c) / 2+1));case measure=>omega
    case rel=>
     have x:Aside ((∀t,t<(d+c) / 2+1->p t=false)/\(∀t,c<=t->t<n->p t=true)):=⟨fun t k=>(by
      cases h:p t with
      |false=>rfl
      |true=>have:=M.out t ((d+c) / 2) aj aj h;rw[v.out]at this;cases this),I.out.2⟩
     exact⟨(d+c) / 2+1,c,q+nq,by rw[show((d:Int)+(c:Int)) / 2+1=(((d+c) / 2+1:Nat):Int) by omega],rfl,aj,o,qj _,rfl,x⟩
   ·have v:Aside (p ((d+c) / 2)=true):=r;clear r;go_wp2_with (go_at_fn g;refine bH u ?_;rintro s ⟨nq,rfl⟩);go_roundg ((d+c) / 2-d);case measure=>omega
    case rel=>have x:Aside ((∀t,t<d->p t=false)/\(∀t,(d+c) / 2<=t->t<n->p t=true)):=⟨I.out.1,fun t k y=>M.out ((d+c) / 2) t k y v.out⟩;exact⟨d,(d+c) / 2,q+nq,rfl,by rw[show((d:Int)+(c:Int)) / 2=(((d+c) / 2:Nat):Int) by omega],aj,aj,qj _,rfl,x⟩
  ·obtain rfl:c=d:=aj;have l:C=c:=by
    rw[<-D.out];have B:∀t,t<n->(fB n)[t]! =t:=fun t k=>by rw[getElem!_pos _ t (by simpa using k)];simp
    refine Lib.countP_boundary _ (fB n) c (by simpa using o) (fun t k=>?_) (fun t F z=>?_);·rw[B t aj,I.out.1 t k];rfl
    ·rw[B t (by simpa using z),I.out.2 t F (by simpa using z)];rfl
   subst l;go_wp2;go_ret;exact⟨rfl,q,rfl⟩
end Go.Proofs.YtphbledmopchnaaGreatDoor.St
namespace Go.Proofs.YtphbledmopchnaaGreatDoor.St
open Go.RowKit Go.Lib Tryz
def dK{a b:Bool}(h:a=b):mE (.bool a)=.returned (.bool b):=by rw[h]
def l9{k:IntKind}{a b:Int}(h:a=b):mE (.int k a)=.returned (.int k b):=by rw[h]
def Fp(a b:Nat)(e:a<18446744073709551616)(f:b<18446744073709551616)(w:Wq):qH 222 #[uZ a,uZ b] w (.bool (decide (a+1<b))) fun d=>d=w:=by
 by_cases h:a<b;·have c:decide ((a:Int)<(b:Int))=true:=rR;go_enter func222,ntmps222;go_wp2;go_ret;exact⟨dK (by rw[decide_eq_decide];omega),rfl⟩
 ·have c:decide ((a:Int)<(b:Int))=false:=rR;go_enter func222,ntmps222;go_wp2;go_ret;exact⟨dK (by symm;rw[decide_eq_false_iff_not];omega),rfl⟩
end Go.Proofs.YtphbledmopchnaaGreatDoor.St
namespace Go.Proofs.YtphbledmopchnaaGreatDoor.St
open Go.RowKit Go.Lib Mm Tryz
variable {I a b c g:Nat}{l vs:bJ}{w:Wq}
def u31:prog.underlying 63=some (.slice 170):=bO
def zI:(prog.info? 170).map (·.size)=some 2:=bO
def GQ:(prog.info? 170).map (fun i=>(i.zero,i.size,i.bytes))=some (some (.agg #[uZ 0,uZ 0]),2,16):=bO
def Vb(w:Wq):(Go.sizeOf 170).run prog w=.ok 2 w:=bO
def JH{m lb cb:Nat}(f:aL w c 170 vs)(h:aL w b 170 l)(i:l.length≠0)(d:c≠b):(callFunc 290 #[dh c m g,.slice (some (ay b a)) lb cb]).run prog w=.ok (.value (.bool false)) w:=by rw[run_callFunc_extern func290 bO bO bO (e:=Extern.SlicesOverlaps.overlaps #[63,63] #[4]) bO,Lib.run_overlaps_apart w 63 4 170 u31 2 Vb (ay c 0) (ay b a) m g lb cb d 170 170 vs.length l.length f.shape h.shape i (f.frozen 0) (f.frozen _)];rfl
def Ap{k j:Nat}{v:Value}(h:((l.drop a).take k)[j]?=some v):l[a+j]?=some v:=by
 rw[qm6]at h;split at h;·rwa[qmu]at h
 ·cases h
def GR{o:Nat}(n c i:Nat)(hi:i<n)(E:n+1<=c)(hc:c<=9223372036854775807)(x:o≠b)(h:aL w b 170 l)(R:l.length=2*c)(u:aL w o 170 vs)(T:vs.length=2)(I:∀v∈l,v.oneCell'=true)(A:∀v∈vs,v.oneCell'=true):WB prog 289 #[dh b n c,iZ i,dh o 1 1] w fun e w'=>
   e=.returned (dh b (n+1) c)/\∃q,w'=put (put (w.drewN q) b (aU l (2*(i+1)) ((l.drop (2*i)).take (2*(n-i))))) b (aU (aU l (2*(i+1)) ((l.drop (2*i)).take (2*(n-i)))) (2*i) vs):=by
 have D:∀y H G,(callFunc 290 #[dh o 1 1,.slice (some (ay b y)) H G]).run prog w=.ok (.value (.bool false)) w:=fun y H G=>JH u h aj x;have V:¬((i:Int)=(n:Int)):=aj;have X:(i:Int)<=(n:Int):=aj;generalize a:(l.drop (2*i)).take (2*(n-i))=d;have C:d.length=(n-i)*2:=by rw[<-a];simp;omega
 have t:∀j v,d[j]?=some v->w.cell? (ay b (i*2+j))=some v:=fun j v p=>by rw[h.cell,qni];rw[<-a]at p;exact Ap p
 have B:∀v∈d,v.oneCell'=true:=fun v u=>I v (by rw[<-a]at u;exact qo2 (qn2 u));generalize k:aU l (2*(i+1)) d=r;have Y:r.length=2*c:=by rw[<-k,bV _ _ _ aj,R]
 have f:∀(W:Wq),W.heap=w.heap->∀m s F,(fE #[63,63] m #[.slice (some (ay b ((i+1)*2))) (n-i) s,.slice (some (ay b (i*2))) (n+1-i) F]).run prog W=.ok (goInt ((n-i:Nat):Int)) (put W b r):=fun W K m s F=>by have z:aL W b 170 l:=h.of_heap (by rw[K]);rw[jK 63 63 m 170 z (ay b (i*2)) (n+1-i) F 2 (n-i) d u31 zI (by simp only[qpj];split<;>omega) C (fun j v p=>by rw[qmb,z.cell,<-h.cell];exact t j v p) aj B,<-k,qni (i+1) 2]
 have g:∀(W:Wq),aL W b 170 r->aL W o 170 vs->∀m s,(fE #[63,63] m #[.slice (some (ay b (i*2))) (n+1-i) s,dh o 1 1]).run prog W=.ok (goInt ((1:Nat):Int)) (put W b (aU r (2*i) vs)):=fun W z J m s=>by rw[jK 63 63 m 170 z (ay o 0) 1 1 2 1 vs u31 zI (by simp only[qpj];split<;>omega) aj (fun j v p=>by rw[qmb,J.cell,qm5];exact p) aj A,qni i 2]
 clear a k t;have U:IntKind.i64.wrap ((i:Int)+1)=(i:Int)+1:=by rw[qnf];omega
 have L:(0:Int)<=(i:Int)+1:=aj;have S:((i:Int)+1).toNat=i+1:=aj;have M:¬(c=i+1):=aj;have N:(i:Int)+1<=(n:Int)+1:=aj;have P:(i:Int)<=(n:Int)+1:=aj;have O:¬(c=i):=aj;go_enter func289,ntmps289;go_wp2_with (simp only[D]);have Q:=f w.drew rfl;clear f;go_region
 have Z:=g (put w.drew b r) (h.drew.put r) (u.drew.of_heap (gY _ _ _ _ x));clear g;go_wp2;go_ret;exact⟨rfl,1,rfl⟩
def Out(w w':Wq)(row:Option Nat)(e:Ending)(n':Nat)(d:bJ):Prop:=
 ∃a b c,e=.returned (dh a n' b)/\aL w' a 170 c/\c.length=2*b/\n'<=b/\b<=9223372036854775807/\c.take (2*n')=d/\(∀v∈c,v.oneCell'=true)/\w.grownBy w' row/\(some a=row\/w.heap.size<=a)
def JI(n c:Nat)(a:n+1<=c)(r:c<=9223372036854775807)(h:aL w b 170 l)(s:l.length=2*c)(k:aL w g 170 vs)(o:vs.length=2)(d:∀v∈vs,v.oneCell'=true):WB prog 289 #[dh b n c,iZ n,dh g 1 1] w fun e q=>
   e=.returned (dh b (n+1) c)/\q=put w b (aU l (n*2) vs):=by
 have f:=fun p=>gG (P:=prog) (w:=w) 63 63 p 170 _ 2 16 u31 u31 GQ (n:=n) (c:=c) (m:=1) (mc:=1) h (ay g 0) (vs:=vs) aj (fun j v i=>by rw[qmb,k.cell,qm5];exact i) d a aj;go_enter func289,ntmps289;go_wp2_with (at_builtin;refine qmm _ rfl _ _ _ _ rfl _ _ rfl rfl _ _ (f _) ?_);go_ret;exact⟨rfl,rfl⟩
def tF(base:Option V3){p:Nat}(n c:Nat)(cs:bJ)(s:n<=c)(f:c<n+1)(q:n<=1000000)(d:base=none/\cs=[]/\n=0\/∃b,base=some (ay b 0)/\cs.length=n*2/\∀j v,cs[j]?=some v->w.cell? (ay b j)=some v)(t:aL w p 170 vs)(u:vs.length=2)(k:∀v∈vs,v.oneCell'=true):WB prog 289 #[.slice base n c,iZ n,dh p 1 1] w fun e y=>
   e=.returned (dh w.heap.size (n+1) (grownCap w (n+1) c 170))/\y=w.drew.alloc (.cells (cs++vs++(eB (eT #[uZ 0,uZ 0]).cells (grownCap w (n+1) c 170-(n+1))).toList).toArray 170):=by
 have a:=fun x=>jv (P:=prog) (w:=w) 63 63 x 170 _ 2 16 u31 u31 GQ (base:=base) (n:=n) (c:=c) (m:=1) (mc:=1) (cs:=cs) (by
   rcases d with⟨i,l,_⟩|⟨b,i,l,h3⟩;·exact .inl ⟨i,l⟩
   ·exact .inr ⟨_,i,l,fun j v o=>by rw[qmb,qm5];exact h3 j v o⟩) (ay p 0) (vs:=vs) aj (fun j v o=>by rw[qmb,t.cell,qm5];exact o) k f aj aj
 generalize g:cs++vs++(eB (eT #[uZ 0,uZ 0]).cells (grownCap w (n+1) c 170-(n+1))).toList=r at a ⊢;clear g;generalize grownCap w (n+1) c 170=G at a ⊢;rcases d with⟨rfl,_,rfl⟩|⟨b,rfl,_,_⟩;·go_enter func289,ntmps289;go_wp2_with (at_builtin;refine qmm _ rfl _ _ _ _ rfl _ _ rfl rfl _ _ (a _) ?_);go_ret;exact⟨rfl,rfl⟩
 ·go_enter func289,ntmps289;go_wp2_with (at_builtin;refine qmm _ rfl _ _ _ _ rfl _ _ rfl rfl _ _ (a _) ?_);go_ret;exact⟨rfl,rfl⟩
def JJ(n c i:Nat)(hi:i<n)(h8:n<=c)(S:c<n+1)(V:n<=1000000)(h:aL w b 170 l)(hl:l.length=2*c)(a:aL w I 170 vs)(T:vs.length=2)(N:∀v∈l,v.oneCell'=true)(A:∀v∈vs,v.oneCell'=true):WB prog 289 #[dh b n c,iZ i,dh I 1 1] w fun e w'=>
   Out w w' none e (n+1) ((l.take (2*n)).take (2*i)++vs++(l.take (2*n)).drop (2*i)):=by
 have Q:c=n:=aj;subst Q;have he:¬((i:Int)=(c:Int)):=aj;have hf:(i:Int)<=(c:Int):=aj;have F:l.take (2*c)=l:=qmo aj;rw[F];have p:=fun H=>uw (P:=prog) (w:=w) 63 3 H 170 _ 2 16 .i64 .i64 u31 bO GQ aj (ay b 0) (n:=i) (c:=c) (m:=c+1-i) (cs:=l.take (2*i)) rR
  (fun j v r=>by
   rw[qmb,qm5,h.cell];rw[qm6]at r;split at r;·exact r
   ·cases r) aj aj aj aj
 rw[show i+(c+1-i)=c+1 by omega,show((c+1-i:Nat):Int)=(c:Int)+1-(i:Int) by omega]at p;have O:=grownCap_ge w (c+1) c 170;have f:=grownCap_le_maxLen w (c+1) c 170 (by unfold maxLen;omega);unfold maxLen at f;generalize Z:grownCap w (c+1) c 170=G at p O f;clear Z;generalize J:l.take (2*i)++(eB (eT #[uZ 0,uZ 0]).cells (c+1-i)).toList++(eB (eT #[uZ 0,uZ 0]).cells (G-(c+1))).toList=R at p;have B:R.length=2*G:=by rw[<-J,qm0,qm0,iG,iG,qm8];omega
 have C:R.take (2*i)=l.take (2*i):=by rw[<-J,qmh,qnz rR,qmo rR]
 have X:∀v∈R,v.oneCell'=true:=by
  rw[<-J];intro v a;rcases qm7.1 a with a|a
  ·rcases qm7.1 a with a|a;·exact N v (qn2 a)
   ·exact jw _ v a
  ·exact jw _ v a
 clear J;have h7:b<w.heap.size:=h.lt;have ha:I<w.heap.size:=a.lt;have t:aL ((w.alloc (.cells R.toArray 170)).drew) w.heap.size 170 R:=aL.new w 170 R;have D:aL ((w.alloc (.cells R.toArray 170)).drew) I 170 vs:=a.alloc _;have U:aL ((w.alloc (.cells R.toArray 170)).drew) b 170 l:=h.alloc _;have E:=fun H M=>jK (P:=prog) (o:=i*2) (dLen:=c+1-i) (dCap:=M) 63 63 H 170 t (ay I 0) 1 1 2 1 vs u31 zI (by simp only[qpj];split<;>omega) aj (fun j v r=>by rw[qmb,D.cell,qm5];exact r) aj A;have k:=(t.put (aU R (i*2) vs)).drew;have u:aL (put ((w.alloc (.cells R.toArray 170)).drew) w.heap.size (aU R (i*2) vs)).drew b 170 l:=U.of_heap (gY _ _ _ _ aj);have q:(l.drop (2*i)).length=(c-i)*2:=rR;have x:(aU R (i*2) vs).length=2*G:=by rw[bV _ _ _ aj,B]
 have g:=fun H M sc=>jK (P:=prog) (o:=(i+1)*2) (dLen:=c-i) (dCap:=M) 63 63 H 170 k (ay b (i*2)) (c-i) sc 2 (c-i) (l.drop (2*i)) u31 zI (by simp only[qpj];split<;>omega) q
  (fun j v r=>by rw[qmb,u.cell];rwa[qmu,qni 2 i]at r) aj (fun v a=>N v (qo2 a))
 have d:(aU (aU R (i*2) vs) ((i+1)*2) (l.drop (2*i))).take (2*(c+1))=l.take (2*i)++vs++l.drop (2*i):=by have:=Jm R vs (l.drop (2*i)) (i*2) 2 T aj;rw[show i*2+2=(i+1)*2 by omega,q,show(i+1)*2+(c-i)*2=2*(c+1) by omega,show i*2=2*i by omega,C]at this;rw[show i*2=2*i by omega];exact this
 have y:(aU (aU R (i*2) vs) ((i+1)*2) (l.drop (2*i))).length=2*G:=by rw[bV _ _ _ aj,x]
 have s:∀v∈aU (aU R (i*2) vs) ((i+1)*2) (l.drop (2*i)),v.oneCell'=true:=dM (dM X A) (fun v a=>N v (qo2 a));have z:Hid _:=k;generalize aU (aU R (i*2) vs) ((i+1)*2) (l.drop (2*i))=W at g d y s;generalize l.drop (2*i)=tl at g d q;generalize aU R (i*2) vs=l2 at E g k u x z;have hc:IntKind.i64.wrap ((i:Int)+1)=(i:Int)+1:=by rw[qnf];omega
 have h0:(0:Int)<=(i:Int)+1:=aj;have h9:((i:Int)+1).toNat=i+1:=aj;have h2:¬(G=i+1):=aj;have h3:(i:Int)+1<=(c:Int)+1:=aj;have h5:(i:Int)<=(c:Int)+1:=aj;have h4:¬(c=i):=aj;have h6:¬(G=i):=aj;have Y:Hid _:=d;have K:Hid _:=s;have L:Hid _:=y;clear d s y F C X B t D U u k q x;go_enter func289,ntmps289;go_wp2_with (at_builtin;refine qmm _ rfl _ _ _ _ rfl _ _ rfl rfl _ _ (p _) ?_);go_region
 go_wp2;go_ret;refine⟨w.heap.size,G,W,rfl,aL.put z.out W,L.out,aj,f,Y.out,K.out,?_,.inr (qj _)⟩;exact vU (fu (vU (fu (qol w _ none) (jm _ none)) _ _ (qj _)) (jm _ none)) _ _ (qj _)
def M9(base:Option V3){C:Nat}(n c i:Nat)(cs:bJ)(O:i<=n)(x:n<=c)(z:c<=9223372036854775807)(m:n<=1000000)(y:base=none/\cs=[]/\n=0/\c=0\/∃b l,base=some (ay b 0)/\aL w b 170 l/\l.length=2*c/\cs=l.take (2*n)/\C≠b/\∀v∈l,v.oneCell'=true)(a:aL w C 170 vs)(g:vs.length=2)(d:∀v∈vs,v.oneCell'=true):WB prog 289 #[.slice base n c,iZ i,dh C 1 1] w fun e s=>
   Out w s (base.map (·.block)) e (n+1) (cs.take (2*i)++vs++cs.drop (2*i)):=by
 rcases y with⟨rfl,rfl,rfl,rfl⟩|⟨b,l,rfl,h,hl,rfl,hvb,r⟩
 ·obtain rfl:i=0:=aj;refine bH (tF none 0 0 [] aj aj aj (.inl ⟨rfl,rfl,rfl⟩) a g d) ?_;rintro s rfl;have o:=grownCap_ge w (0+1) 0 170;have f:=grownCap_le_maxLen w (0+1) 0 170 (by unfold maxLen;omega);unfold maxLen at f;refine⟨w.heap.size,_,_,rfl,aL.new w 170 _,?_,o,f,?_,?_,fu (qol w _ none) (jm _ none),.inr (qj _)⟩;·rw[qmq,qm0,iG];omega
  ·rw[qmq,qnz aj,qmo aj];simp
  ·intro v a;rw[qmq]at a;rcases qm7.1 a with a|a;·exact d v a
   ·exact jw _ v a
 ·by_cases B:n+1<=c
  ·by_cases p:i<n
   ·refine bH (GR n c i p B z hvb h hl a g r d) ?_;rintro s ⟨q,rfl⟩;refine⟨b,c,_,rfl,(aL.put (w:=w.drewN q) h _).put _,?_,B,z,?_,dM (dM r (fun v a=>r v (qo2 (qn2 a)))) d,?_,.inl rfl⟩
    ·rw[bV,bV,hl];·simp;omega
     ·rw[bV];·omega
      ·simp;omega
    ·have:=MC l vs (2*i) (2*n) 2 aj aj g;rw[show 2*n-2*i=2*(n-i) by omega,show 2*i+2=2*(i+1) by omega,show 2*n+2=2*(n+1) by omega]at this;exact this
    ·exact fu (uy w q _) (fu (dZ _ b _) (dZ _ b _))
   ·obtain rfl:i=n:=aj;refine bH (JI i c B z h hl a g d) ?_;rintro s rfl;refine⟨b,c,_,rfl,h.put _,?_,B,z,?_,dM r d,dZ _ b _,.inl rfl⟩;·rw[bV,hl];omega
    ·have:=iI l vs (i*2) aj;rw[g,show i*2+2=2*(i+1) by omega,qni i 2]at this;rw[qni i 2,this,qmo (l:=l.take (2*i)) rR,qnj (l:=l.take (2*i)) rR];simp
  ·by_cases p:i<n
   ·refine(JJ n c i p x aj m h hl a g r d).mono ?_;rintro e s ⟨K,L,N,D,E,F,G,H,I,J,t,u⟩;refine⟨K,L,N,D,E,F,G,H,I,J,⟨t.os,t.tape,t.output,t.size,fun k M _=>t.block k M aM⟩,.inr ?_⟩;rcases u with u|u;·cases u
    ·exact u
   ·obtain rfl:i=n:=aj;refine(tF (some (ay b 0)) i c (l.take (2*i)) x aj m (.inr ⟨b,rfl,rR,fun j v A=>by
     rw[h.cell];rw[qm6]at A;split at A;·exact A
     ·cases A⟩) a g d).mono ?_
    rintro e s ⟨rfl,rfl⟩;have o:=grownCap_ge w (i+1) c 170;have f:=grownCap_le_maxLen w (i+1) c 170 (by unfold maxLen;omega);unfold maxLen at f;refine⟨w.heap.size,_,_,rfl,aL.new w 170 _,?_,o,f,?_,?_,fu (qol w _ _) (jm _ _),.inr (qj _)⟩;·rw[qm0,qm0,iG,qm8];omega
    ·rw[qnz rR,qmo rR,qmo (l:=l.take (2*i)) rR,qnj (l:=l.take (2*i)) rR];simp
    ·intro v a;rcases qm7.1 a with a|a
     ·rcases qm7.1 a with a|a;·exact r v (qn2 a)
      ·exact d v a
     ·exact jw _ v a
def rQ{p:Option V3}{n n':Nat}(h:n=n')(b:c=a):mE (.slice p n c)=.returned (.slice p n' a):=by rw[h,b]
def M_(w:Wq):(zeroValue 170).run prog w=.ok (.agg #[uZ 0,uZ 0]) w:=bO
def GU(base:Option V3){u:Nat}(n c i:Nat)(cs:bJ)(y:i<=n)(s:n<=c)(x:c<=9223372036854775807)(m:n<=1000000)(a:base=none/\cs=[]/\n=0/\c=0\/∃b l,base=some (ay b 0)/\aL w b 170 l/\l.length=2*c/\cs=l.take (2*n)/\u≠b/\∀v∈l,v.oneCell'=true)(C:aL w u 170 vs)(t:vs.length=2)(q:∀v∈vs,v.oneCell'=true):WB prog 224 #[.slice base n c,iZ i,iZ i,dh u 1 1] w fun e p=>
   Out w p (base.map (·.block)) e (n+1) (cs.take (2*i)++vs++cs.drop (2*i)):=by
 have j:=M9 base n c i cs y s x m a C t q;generalize cs.take (2*i)++vs++cs.drop (2*i)=X at j ⊢;generalize base.map (·.block)=row at j ⊢;have B:((i:Int)==(i:Int))=true:=aM;have z:(i:Int)<=(n:Int):=aj;have A:(i:Int)<=(c:Int):=aj;rcases a with⟨rfl,rfl,rfl,rfl⟩|⟨b,l,rfl,h,hl,rfl,hvb,h1⟩;·obtain rfl:i=0:=aj;go_enter qoz,qoy;go_wp2_with (go_at_call 289;refine j.mono ?_;intro e p k;obtain⟨f,g,o,rfl,d⟩:=k);go_ret;exact⟨f,g,o,rfl,d⟩
 ·by_cases r:c=i;·subst r;go_enter qoz,qoy;go_wp2_with (go_at_call 289;refine j.mono ?_;intro e p k;obtain⟨f,g,o,rfl,d⟩:=k);go_ret;exact⟨f,g,o,rfl,d⟩
  ·go_enter qoz,qoy;go_wp2_with (go_at_call 289;refine j.mono ?_;intro e p k;obtain⟨f,g,o,rfl,d⟩:=k);go_ret;exact⟨f,g,o,rfl,d⟩
def JK(n c i:Nat)(X:i<n)(U:n<=c)(K:c<=9223372036854775807)(J:n<=1000000)(h:aL w b 170 l)(E:l.length=2*c)(O:∀v∈l,v.oneCell'=true)(F:aL w I 170 vs)(t:vs.length=2)(z:∀v∈vs,v.oneCell'=true):WB prog 224 #[dh b n c,iZ i,iZ n,dh I 1 1] w fun e W=>
   Out w W (some b) e (i+1) ((l.take (2*n)).take (2*i)++vs):=by
 have p:=fun H=>gG (P:=prog) (w:=w) 63 63 H 170 _ 2 16 u31 u31 GQ (n:=i) (c:=c) (m:=1) (mc:=1) h (ay I 0) (vs:=vs) aj (fun j v S=>by rw[qmb,F.cell,qm5];exact S) z aj aj;have d:(aU l (i*2) vs).length=2*c:=by rw[bV _ _ _ aj,E]
 have r:(aU l (i*2) vs).take (2*(i+1))=(l.take (2*n)).take (2*i)++vs:=by have:=iI l vs (i*2) aj;rw[t,show i*2+2=2*(i+1) by omega]at this;rw[this,qpe,qni i 2,show min (2*i) (2*n)=2*i by omega]
 have g:∀v∈aU l (i*2) vs,v.oneCell'=true:=dM O z;have a:=h.put (aU l (i*2) vs);generalize aU l (i*2) vs=f at p d r g a;have y:Hid _:=r;have u:Hid _:=g;have x:Hid (aL (put w b f) b 170 f):=a;clear r g;have V:¬((i:Int)=(n:Int)):=aj;have Q:(i:Int)<=(n:Int):=aj;have R:(n:Int)<=(c:Int):=aj;by_cases T:i+1<n
 ·have D:=fun H N=>gQ (P:=prog) (o:=(i+1)*2) (n:=n-(i+1)) (c:=N) 63 170 H _ u31 M_ a aj (by rw[iG];omega) (jw _);have s:(aU f ((i+1)*2) (eB (eT #[uZ 0,uZ 0]).cells (n-(i+1))).toList).take (2*(i+1))=(l.take (2*n)).take (2*i)++vs:=by rw[gU _ _ _ _ (by rw[iG];omega) aj,y.out]
  have q:(aU f ((i+1)*2) (eB (eT #[uZ 0,uZ 0]).cells (n-(i+1))).toList).length=2*c:=by rw[bV _ _ _ (by rw[iG];omega),d]
  have k:∀v∈aU f ((i+1)*2) (eB (eT #[uZ 0,uZ 0]).cells (n-(i+1))).toList,v.oneCell'=true:=dM u.out (jw _);generalize aU f ((i+1)*2) (eB (eT #[uZ 0,uZ 0]).cells (n-(i+1))).toList=G at D s q k;have B:Hid _:=s;have M:Hid _:=k;have A:Hid _:=q;clear s k q a h F E t d;have C:(i:Int)+1<(n:Int):=aj;go_enter qoz,qoy;go_wp2_with (at_builtin;refine qmm _ rfl _ _ _ _ rfl _ _ rfl rfl _ _ (p _) ?_);go_ret;exact⟨b,c,G,rfl,aL.put x.out G,A.out,aj,K,B.out,M.out,fu (dZ w b f) (dZ _ b G),.inl rfl⟩
 ·have C:(n:Int)<=(i:Int)+1:=aj;clear a h F E t;have L:Hid _:=d;clear d;go_enter qoz,qoy;go_wp2_with (at_builtin;refine qmm _ rfl _ _ _ _ rfl _ _ rfl rfl _ _ (p _) ?_);go_ret;exact⟨b,c,f,rfl,x.out,L.out,aj,K,y.out,u.out,dZ w b f,.inl rfl⟩
def qG(w:Wq)(b:TypeId)(a:V3)(c:Nat):(fA #[63] b #[.slice (some a) 0 c]).run prog w=.ok (.tuple #[]) w:=by simp[fA,run_underlying u31]
def JM{N:Nat}(n c i j:Nat)(hg:i<j)(hm:j<n)(ho:n<=c)(hc:c<=9223372036854775807)(h0:n<=1000000)(_hvb:N≠b)(h:aL w b 170 l)(hl:l.length=2*c)(V:∀v∈l,v.oneCell'=true)(L:aL w N 170 vs)(M:vs.length=2)(z:∀v∈vs,v.oneCell'=true):WB prog 224 #[dh b n c,iZ i,iZ j,dh N 1 1] w fun e w'=>
   Out w w' (some b) e (i+1+(n-j)) ((l.take (2*n)).take (2*i)++vs++(l.take (2*n)).drop (2*j)):=by
 have hr:((i:Int)==(j:Int))=false:=rR;have h4:((j:Int)==(n:Int))=false:=rR;have he:(i:Int)<=(n:Int):=aj;have h3:(i:Int)<=(j:Int):=aj;have hy:(j:Int)<=(n:Int):=aj;have hf:(n:Int)<=(c:Int):=aj;have hj:(j:Int)<=(c:Int):=aj;have x0:(i:Int)<=(c:Int):=aj;have ha:¬(c=j):=aj;have h9:¬(c=i):=aj;have x1:¬(c=i+1):=aj;have hw:IntKind.i64.wrap ((i:Int)+1)=(i:Int)+1:=by rw[qnf];omega
 have hx:IntKind.i64.wrap ((i:Int)+1+((n-j:Nat):Int))=(i:Int)+1+((n-j:Nat):Int):=by rw[qnf];omega
 have h6:(0:Int)<=(i:Int)+1:=aj;have h7:(i:Int)+1<=(i:Int)+1+((n-j:Nat):Int):=aj;have hu:((i:Int)+1).toNat=i+1:=aj;have J:∀q a H,(fE #[63,63] a #[.slice (some (ay b (i*2))) (i+1+(n-j)-i) H,dh N 1 1]).run prog (w.drewN q)=.ok (goInt ((1:Nat):Int)) (put (w.drewN q) b (aU l (i*2) vs)):=fun q a H=>jK (w:=w.drewN q) 63 63 a 170 h (ay N 0) 1 1 2 1 vs u31 zI (by simp only[qpj];split<;>omega) aj (fun k v O=>by rw[qmb,qm5];rw[<-O];exact L.cell k) aj z;have B:(aU l (i*2) vs).length=2*c:=by rw[bV _ _ _ aj,hl]
 have u:∀v∈aU l (i*2) vs,v.oneCell'=true:=dM V z;have o:∀q,aL (put (w.drewN q) b (aU l (i*2) vs)).drew b 170 (aU l (i*2) vs):=fun q=>(aL.put (w:=w.drewN q) h _).drew;have t:((aU l (i*2) vs).drop (2*j)).take (2*(n-j))=(l.take (2*n)).drop (2*j):=by rw[qB _ _ _ _ aj aj,List.drop_take,show 2*n-2*j=2*(n-j) by omega]
 generalize D:(l.take (2*n)).drop (2*j)=g at t ⊢;have E:g.length=(n-j)*2:=by rw[<-D];simp;omega
 have F:∀v∈g,v.oneCell'=true:=fun v L=>V v (by rw[<-D]at L;exact qn2 (qo2 L));clear D;have d:(aU (aU l (i*2) vs) ((i+1)*2) g).take (2*(i+1+(n-j)))=(l.take (2*n)).take (2*i)++vs++g:=by have:=Jm l vs g (i*2) 2 M aj;rw[show i*2+2=(i+1)*2 by omega,E,show(i+1)*2+(n-j)*2=2*(i+1+(n-j)) by omega,show i*2=2*i by omega]at this;rw[show i*2=2*i by omega,this,qpe,show min (2*i) (2*n)=2*i by omega]
 generalize aU l (i*2) vs=f at J B u o t d;have K:∀q a H W,(fE #[63,63] a #[.slice (some (ay b ((i+1)*2))) (i+1+(n-j)-(i+1)) H,.slice (some (ay b (j*2))) (n-j) W]).run prog (put (w.drewN q) b f).drew=.ok (goInt ((n-j:Nat):Int)) (put (put (w.drewN q) b f).drew b (aU f ((i+1)*2) g)):=fun q a H W=>
  jK 63 63 a 170 (o q) (ay b (j*2)) (n-j) W 2 (n-j) g u31 zI (by simp only[qpj];split<;>omega) E
   (fun k v O=>by rw[qmb,(o q).cell,qni j 2];rw[<-t]at O;exact Ap O) aj F
 have r:(aU f ((i+1)*2) g).length=2*c:=by rw[bV _ _ _ aj,B]
 have x:∀v∈aU f ((i+1)*2) g,v.oneCell'=true:=dM u F;have p:∀q,aL (put (put (w.drewN q) b f).drew b (aU f ((i+1)*2) g)) b 170 (aU f ((i+1)*2) g):=fun q=>(o q).put _;generalize aU f ((i+1)*2) g=m at K r x p d;generalize hT:i+1+(n-j)=T at *
 have h5:i+1<=T/\T<=n:=aj;generalize (l.take (2*n)).take (2*i)++vs++g=X at d ⊢;have Y:Hid _:=d;have Z:Hid _:=x;have S:Hid _:=r;have G:Hid _:=p;clear d x t o u B E F h L hl V z M;by_cases hn:T<n
 ·have I:∀q a s,(fA #[63] a #[.slice (some (ay b (T*2))) (n-T) s]).run prog (put (put (w.drewN q) b f).drew b m)=.ok (.tuple #[]) (put (put (put (w.drewN q) b f).drew b m) b (aU m (T*2) (eB (eT #[uZ 0,uZ 0]).cells (n-T)).toList)):=fun q a s=>
   gQ (P:=prog) 63 170 a _ u31 M_ (p q) aj (by rw[iG];omega) (jw _)
  have A:(aU m (T*2) (eB (eT #[uZ 0,uZ 0]).cells (n-T)).toList).take (2*T)=X:=by rw[gU _ _ _ _ (by rw[iG];omega) aj,Y.out]
  have C:(aU m (T*2) (eB (eT #[uZ 0,uZ 0]).cells (n-T)).toList).length=2*c:=by rw[bV _ _ _ (by rw[iG];omega),r]
  have y:∀v∈aU m (T*2) (eB (eT #[uZ 0,uZ 0]).cells (n-T)).toList,v.oneCell'=true:=dM Z.out (jw _);generalize aU m (T*2) (eB (eT #[uZ 0,uZ 0]).cells (n-T)).toList=l3 at I A C y;have R:Hid _:=A;have Q:Hid _:=y;have U:Hid _:=C;clear A y C r p;go_enter qoz,qoy;go_wp2;go_quiet (fail);go_wp2;go_region
  go_wp2;go_ret;exact⟨b,c,l3,rQ aj rfl,aL.put (G.out nq) l3,U.out,aj,hc,R.out,Q.out,fu (uy w nq _) (fu (dZ _ b _) (fu (jm _ _) (fu (dZ _ b _) (dZ _ b _)))),.inl rfl⟩
 ·obtain rfl:T=n:=aj;have I:∀q a s,(fA #[63] a #[.slice (some (ay b (T*2))) 0 s]).run prog (put (put (w.drewN q) b f).drew b m)=.ok (.tuple #[]) (put (put (w.drewN q) b f).drew b m):=fun q a s=>qG _ a _ s;have h2:∀q a s,(fA #[63] a #[dh b 0 s]).run prog (put (put (w.drewN q) b f).drew b m)=.ok (.tuple #[]) (put (put (w.drewN q) b f).drew b m):=fun q a s=>qG _ a _ s;clear r p;by_cases h8:c=T;all_goals
   go_enter qoz,qoy;go_wp2;go_quiet (fail);go_wp2;go_region
   go_wp2;go_ret;exact⟨b,c,m,rQ aj aj,G.out nq,S.out,aj,hc,Y.out,Z.out,fu (uy w nq _) (fu (dZ _ b _) (fu (jm _ _) (dZ _ b _))),.inl rfl⟩
def JN(base:Option V3){q:Nat}(n c i j:Nat)(cs vs:bJ)(s:i<=j)(o:j<=n)(g:n<=c)(m:c<=9223372036854775807)(a:n<=1000000)(d:base=none/\cs=[]/\n=0/\c=0\/∃b l,base=some (ay b 0)/\aL w b 170 l/\l.length=2*c/\cs=l.take (2*n)/\q≠b/\∀v∈l,v.oneCell'=true)(p:aL w q 170 vs)(k:vs.length=2)(f:∀v∈vs,v.oneCell'=true):WB prog 224 #[.slice base n c,iZ i,iZ j,dh q 1 1] w fun e t=>
   Out w t (base.map (·.block)) e (i+1+(n-j)) (cs.take (2*i)++vs++cs.drop (2*j)):=by
 by_cases h:i=j;·subst h;have:=GU base n c i cs o g m a d p k f;rwa[show n+1=i+1+(n-i) by omega]at this
 ·rcases d with⟨rfl,rfl,rfl,rfl⟩|⟨b,l,rfl,hB,hl,rfl,hvb,h1⟩;·omega
  ·by_cases r:j=n;·subst r;have:=JK j c i aj g m a hB hl h1 p k f;rw[show i+1+(j-j)=i+1 by omega,qnj rR,qmv];exact this
   ·exact JM n c i j aj aj g m a hvb hB hl h1 p k f
def bQ:bZ->bJ
 |[]=>[]
 |r::t=>(uZ r.1)::(uZ r.2)::bQ t
def m_:∀a,(bQ a).length=2*a.length
 |[]=>rfl
 |r::t=>by simp[bQ,m_ t];omega
def vw:∀(a:bZ) (i:Nat),i<a.length->(bQ a)[i*2]?=some (uZ ((a.getD i (0,0)).1:Int))
 |[],i,h=>by simp at h
 |r::t,0,_=>by simp[bQ]
 |r::t,i+1,h=>by rw[show(i+1)*2=i*2+1+1 by omega];simp only[bQ,qma,qo3];exact vw t i (by simpa using h)
def vB:∀(a:bZ) (i:Nat),i<a.length->(bQ a)[i*2+1]?=some (uZ ((a.getD i (0,0)).2:Int))
 |[],i,h=>by simp at h
 |r::t,0,_=>by simp[bQ]
 |r::t,i+1,h=>by rw[show(i+1)*2+1=i*2+1+1+1 by omega];simp only[bQ,qma,qo3];exact vB t i (by simpa using h)
def jW:∀a b,bQ (a++b)=bQ a++bQ b
 |[],_=>rfl
 |r::t,b=>by simp[bQ,jW t b]
def Aq:∀(a:bZ) (i:Nat),(bQ a).take (2*i)=bQ (a.take i)
 |[],i=>by simp[bQ]
 |r::t,0=>by simp[bQ]
 |r::t,i+1=>by rw[show 2*(i+1)=2*i+1+1 by omega];simp[bQ,Aq t i]
def Ar:∀(a:bZ) (i:Nat),(bQ a).drop (2*i)=bQ (a.drop i)
 |[],i=>by simp[bQ]
 |r::t,0=>by simp[bQ]
 |r::t,i+1=>by rw[show 2*(i+1)=2*i+1+1 by omega];simp[bQ,Ar t i]
def mQ:∀(a:bZ),∀v∈bQ a,v.oneCell'=true
 |[],v,h=>by simp[bQ]at h
 |r::t,v,h=>by
  simp[bQ]at h;rcases h with rfl|rfl|h;·rfl
  ·rfl
  ·exact mQ t v h
def mF(rs:bZ)(f:Nat×Nat->Bool):(fB rs.length).countP (fun i=>f (rs.getD i (0,0)))=rs.countP f:=by
 have h:rs=(fB rs.length).map (fun i=>rs.getD i (0,0)):=by
  apply qpx;·simp
  ·intro i a b;simp[a]
 conv=>rhs;rw[h]
 rw[List.countP_map];rfl
def jJ(w:Wq)(a:Nat)(base:Option V3)(c:Nat)(rs:bZ):Prop:=
 base=none/\rs=[]/\c=0\/∃b l,base=some (ay b 0)/\b≠a/\aL w b 170 l/\l.length=2*c/\l.take (2*rs.length)=bQ rs/\∀v∈l,v.oneCell'=true
structure Kept (w w':Wq) (sp:Nat) (row:Option Nat):Prop where
 os:w'.os=w.os
 tape:w'.tape=w.tape
 output:w'.output=w.output
 size:w.heap.size<=w'.heap.size
 block:∀k,k<w.heap.size->k≠sp->some k≠row->w'.heap[k]?=w.heap[k]?
def jJ.qI{d:Nat}{base:Option V3}{rs:bZ}(h:jJ w d base c rs){i:Nat}(a:i<rs.length):∃b,base=some (ay b 0)/\b≠d/\b<w.heap.size/\w.cell? (ay b (i*2+1))=some (uZ ((rs.getD i (0,0)).2:Int))/\w.cell? (ay b (i*2))=some (uZ ((rs.getD i (0,0)).1:Int)):=by
 rcases h with⟨_,rfl,_⟩|⟨b,l,h1,h2,h3,h4,h5,_⟩;·simp at a
 ·refine⟨b,h1,h2,h3.lt,?_,?_⟩;·rw[h3.cell,<-vB rs i a,<-h5,qm6,bM aj]
  ·rw[h3.cell,<-vw rs i a,<-h5,qm6,bM aj]
def jJ.of_heap{w w':Wq}{g:Nat}{base:Option V3}{c:Nat}{rs:bZ}(h:jJ w g base c rs)(e:∀b,base=some (ay b 0)->w'.heap[b]?=w.heap[b]?):jJ w' g base c rs:=by
 rcases h with⟨a,d,f⟩|⟨b,l,a,d,f,h4⟩;·exact .inl ⟨a,d,f⟩
 ·exact .inr ⟨b,l,a,d,f.of_heap (e b a),h4⟩
end Go.Proofs.YtphbledmopchnaaGreatDoor.St
namespace Go.Proofs.YtphbledmopchnaaGreatDoor.Mm
open Go.RowKit Go.Lib Tryz
variable {b:Nat}{l:bJ}{t:TypeId}{w:Wq}
def aL.Na(h:aL w b t l)(o:Nat)(v:Value):aL (w.setCell (ay b o) v) b t (l.set o v):=by rw[setCell_eq_setRow w b o l.toArray t (0,0) v h];have:=setRow_heap w b l.toArray (l.toArray.setIfInBounds o v) t (0,0) h;unfold aL;rw[this];simp
def aL.jO(h:aL w b t l)(a:V3)(v:Value)(c:b≠a.block):aL (w.setCell a v) b t l:=
 h.of_heap (qmd w a v b c)
end Go.Proofs.YtphbledmopchnaaGreatDoor.Mm
namespace Go.Proofs.YtphbledmopchnaaGreatDoor.St
open Go.RowKit Go.Lib Mm Tryz
variable {rs:bZ}{w:Wq}
def aF{p:Prop}(h:p):Hid p:=h
def Small(rs:bZ):Prop:=∀r∈rs,r.1<18446744073709551616/\r.2<18446744073709551616
def Small.get(h:Small rs){i:Nat}(a:i<rs.length):(rs.getD i (0,0)).1<18446744073709551616/\(rs.getD i (0,0)).2<18446744073709551616:=by apply h;rw[qly,qm3 a];exact qmz _
def sK:∀{rs:bZ},Rg.gW rs->∀{a b:Nat},a<=b->b<rs.length->(rs.getD a (0,0)).1<=(rs.getD b (0,0)).1/\(rs.getD a (0,0)).2<=(rs.getD b (0,0)).2
 |[],_,a,b,_,hb=>by simp at hb
 |r::t,h,0,0,_,_=>⟨qj _,qj _⟩
 |r::t,h,0,b+1,_,hb=>by
  have c:t.getD b (0,0)∈t:=by rw[qly,qm3 (by simpa using hb)];exact qmz _
  have d:=h.2.1 _ c;have e:=h.2.2.le _ c;have f:=h.1;simp only[qpt,qo3];omega
 |r::t,h,a+1,b+1,hab,hb=>by simp only[qo3];exact sK h.2.2 aj (by simpa using hb)
def nT{d:Nat}{base:Option V3}{c:Nat}(R:jJ w d base c rs):∀k,base.map (·.block)=some k->k≠d/\k<w.heap.size:=by
 intro k a;rcases R with⟨rfl,_⟩|⟨b,l,rfl,hb,hB,_⟩;·cases a
 ·simp at a;rw[<-a];exact⟨hb,hB.lt⟩
def Kept.drewN{w w':Wq}{a:Nat}{row:Option Nat}(h:Kept w w' a row)(q:Nat):Kept w (w'.drewN q) a row:=⟨h.os,h.tape,h.output,h.size,h.block⟩
def GX{b:Nat}(m c:Nat){l:bJ}(Y:1<=m)(T:m+1<=c)(M:c<=9223372036854775807)(H:m<=1000000)(h:aL w b 170 l)(J:l.length=2*c)(D:∀v∈l,v.oneCell'=true):WB prog 225 #[(dh b (m+1) c),iZ 0,iZ 1] w fun e V=>
   Out w V (some b) e m ((l.take (2*(m+1))).drop 2):=by
 have x:((l.take (2*(m+1))).drop 2).length=2*m:=rR;have p:∀v∈(l.take (2*(m+1))).drop 2,v.oneCell'=true:=fun v U=>D v (qn2 (qo2 U));have g:∀j v,((l.take (2*(m+1))).drop 2)[j]?=some v->l[2+j]?=some v:=fun j v t=>by
  rw[qmu,qm6]at t;split at t;·exact t
  ·cases t
 have F:(loadCellsFrom (ay b 2) 0 (m*2) #[]).run prog w.drew=.ok ((l.take (2*(m+1))).drop 2).toArray w.drew:=by have R:=run_firstCells_some (P:=prog) w.drew 2 m (ay b 2) m (c-1) ((l.take (2*(m+1))).drop 2) aj (fun j v t=>by rw[qmb];exact(aL.cell h (2+j)).trans (g j v t));simpa[Builtin.firstCells,loadCells]using R
 have u:(storeCells (ay b 0) ((l.take (2*(m+1))).drop 2)).run prog w.drew=.ok () (put w.drew b (aU l 0 ((l.take (2*(m+1))).drop 2))):=
  fZ (P:=prog) (w:=w.drew) (o:=0) h _ aj p
 have q:(aU l 0 ((l.take (2*(m+1))).drop 2)).length=2*c:=by rw[bV _ _ _ aj,J]
 have f:(aU l 0 ((l.take (2*(m+1))).drop 2)).take (2*m)=(l.take (2*(m+1))).drop 2:=by have:=iI l ((l.take (2*(m+1))).drop 2) 0 aj;rw[x]at this;simpa using this
 have i:∀v∈aU l 0 ((l.take (2*(m+1))).drop 2),v.oneCell'=true:=dM D p;have d:aL (put w.drew b (aU l 0 ((l.take (2*(m+1))).drop 2))) b 170 (aU l 0 ((l.take (2*(m+1))).drop 2)):=aL.put (w:=w.drew) h _;generalize aU l 0 ((l.take (2*(m+1))).drop 2)=a at u q f i d;generalize (l.take (2*(m+1))).drop 2=X at f F u ⊢;have E:∀G C,(fA #[63] G #[.slice (some (ay b (m*2))) 1 C]).run prog (put w.drew b a)=.ok (.tuple #[]) (put (put w.drew b a) b (aU a (m*2) (eB (eT #[uZ 0,uZ 0]).cells 1).toList)):=fun G C=>gQ (P:=prog) (o:=m*2) (n:=1) (c:=C) 63 170 G _ u31 M_ d aj (by rw[iG];omega) (jw _);have s:(aU a (m*2) (eB (eT #[uZ 0,uZ 0]).cells 1).toList).take (2*m)=X:=by rw[gU _ _ _ _ (by rw[iG];omega) aj,f]
 have r:(aU a (m*2) (eB (eT #[uZ 0,uZ 0]).cells 1).toList).length=2*c:=by rw[bV _ _ _ (by rw[iG];omega),q]
 have k:∀v∈aU a (m*2) (eB (eT #[uZ 0,uZ 0]).cells 1).toList,v.oneCell'=true:=dM i (jw _);generalize aU a (m*2) (eB (eT #[uZ 0,uZ 0]).cells 1).toList=y at E s r k;have B:Hid _:=s;have L:Hid _:=k;have A:Hid _:=r;have z:Hid (aL (put w.drew b a) b 170 a):=d;have K:Hid (w.grownBy (put (put w.drew b a) b y) (some b)):=fu (jm w _) (fu (dZ w.drew b a) (dZ _ b y));clear f s k r i q d p g x D J h;have S:m<=c:=aj;have N:(1:Int)<=(m:Int)+1:=aj;have O:(m:Int)+1<=(c:Int):=aj;have Q:¬(c=m):=aj;have I:¬(c=1):=aj;have W:m+1-m=1:=aj;go_enter func225,ntmps225;go_wp2;go_region
 go_wp2;go_ret;exact⟨b,c,y,rfl,aL.put (z.out) y,A.out,aj,M,B.out,L.out,K.out,.inl rfl⟩
def JR(rs:bZ):(bQ rs).drop 2=bQ rs.tail:=by
 cases rs with
 |nil=>rfl
 |cons r t=>rfl
def Vi(b:Rg.gW rs)(h:∀r∈rs,r.2<18446744073709551616):Small rs:=fun r a=>by have c:=b.le r a;have d:=h r a;omega
def Kept.trans{w g i:Wq}{d:Nat}{row c:Option Nat}(h:Kept w g d row)(k:Kept g i d c)(m:c=row\/∃b,c=some b/\w.heap.size<=b):Kept w i d row:=
 ⟨k.os.trans h.os,k.tape.trans h.tape,k.output.trans h.output,qlz h.size k.size,fun j l f a=>by
  have o:=h.size;rw[k.block j aj f (fun e=>by
   rcases m with r|⟨b,r,n⟩;·exact a (by rw[e,r])
   ·rw[r]at e;cases e;omega),h.block j l f a]⟩
