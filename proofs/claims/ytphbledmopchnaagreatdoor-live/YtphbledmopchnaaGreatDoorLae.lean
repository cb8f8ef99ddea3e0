import Derived.Shelf.SlCmpFuncs.BinarySearchFunc
import Derived.Test.YtphbledmopchnaaGreatDoorLac
import Derived.Deep.RegionWith
import Derived.Deep.Upon
import Derived.LaidEql
import Derived.RowKitTokens
import Derived.Stop.Asserts
open List renaming mem_cons->eB,getD_cons_succ->eT,getD_eq_getElem?_getD->j3,getElem?_eq_getElem->lg,range->mE,getD_cons_zero->mI,countP_cons->mR,getElem_mem->mY,getElem?_cons_succ->nA,drop_succ_cons->nI,getElem?_take->nP
open Nat renaming le_refl->mK,succ_pos->nV
set_option maxHeartbeats 4000000
set_option maxRecDepth 1000000
namespace Go.Proofs.YtphbledmopchnaaGreatDoor.St.Rg
def fI:bW->Prop
 |[]=>True
 |r::t=>r.1<=r.2/\(∀x∈t,r.2+1<x.1)/\fI t
def Mem(rs:bW)(x:Nat):Prop:=∃r∈rs,r.1<=x/\x<=r.2
def ins:Nat->Nat->bW->bW
 |lo,hi,[]=>[(lo,hi)]
 |lo,hi,r::t=>if r.2+1<lo then r::ins lo hi t else if hi+1<r.1 then(lo,hi)::r::t else ins (min lo r.1) (max hi r.2) t
def jN(lo:Nat)(rs:bW):Nat:=rs.countP (fun r=>decide (r.2+1<lo))
def iJ(hi:Nat)(rs:bW):Nat:=rs.countP (fun r=>decide (r.1<=hi+1))
def D8(lo hi:Nat)(rs:bW):Nat×Nat:=
 if jN lo rs<iJ hi rs then(min lo (rs.getD (jN lo rs) (0,0)).1,max hi (rs.getD (iJ hi rs-1) (0,0)).2)else(lo,hi)
theorem fI.le{rs:bW}(h:fI rs):∀r∈rs,r.1<=r.2:=by
 induction rs with
 |nil=>intro r b;cases b
 |cons a t c=>
  intro r b;rcases eB.1 b with rfl|b;·exact h.1
  ·exact c h.2.2 r b
theorem pq{α:Type}(p:α->Bool)(l:List α)(h:∀x∈l,p x=false):l.countP p=0:=by rw[List.countP_eq_zero];intro x a;simp[h x a]
theorem wY{lo hi:Nat}(h:lo<=hi){rs:bW}(hs:fI rs):jN lo rs<=iJ hi rs:=by unfold jN iJ;apply List.countP_mono_left;intro r a h1;have:=hs.le r a;simp at h1 ⊢;omega
theorem AU(hi:Nat)(rs:bW):iJ hi rs<=rs.length:=List.countP_le_length
theorem FX:∀(rs:bW) (lo hi:Nat),lo<=hi->fI rs->ins lo hi rs=rs.take (jN lo rs)++D8 lo hi rs::rs.drop (iJ hi rs)
 |[],lo,hi,_,_=>by simp[ins,D8,jN,iJ]
 |r::t,lo,hi,hlh,hs=>by
  obtain⟨h1,h,j⟩:=hs;rw[ins];by_cases c1:r.2+1<lo
  ·have g:jN lo (r::t)=jN lo t+1:=by simp[jN,c1]
   have f:iJ hi (r::t)=iJ hi t+1:=by have:r.1<=hi+1:=aj;simp[iJ,this]
   rw[bK c1,FX t lo hi hlh j,g,f];simp only[List.take_succ_cons,nI,List.cons_append,D8,g,f];by_cases c:jN lo t<iJ hi t;·obtain⟨s,m⟩:∃s,iJ hi t=s+1:=⟨iJ hi t-1,aj⟩;simp[m]
   ·have c':¬(jN lo t+1<iJ hi t+1):=aj;rw[aU c,aU c']
  ·have hz:∀x∈t,decide (x.2+1<lo)=false:=fun x d=>by
    have l:=h x d;have q:=j.le x d;simp;omega
   have g:jN lo (r::t)=0:=by simp only[jN,mR,pq _ t hz];simp[c1]
   rw[aU c1];by_cases c2:hi+1<r.1
   ·have p:∀x∈t,decide (x.1<=hi+1)=false:=fun x d=>by
     have l:=h x d;simp;omega
    have f:iJ hi (r::t)=0:=by have:¬r.1<=hi+1:=aj;simp only[iJ,mR,pq _ t p];simp[this]
    rw[bK c2];simp[D8,g,f]
   ·have ec:∀x∈t,decide (x.1<=hi+1)=decide (x.1<=max hi r.2+1):=fun x d=>by
     have l:=h x d;rw[decide_eq_decide];omega
    have f:iJ hi (r::t)=iJ (max hi r.2) t+1:=by have:r.1<=hi+1:=aj;simp only[iJ,mR,this,decide_true,if_true];rw[List.countP_congr (fun x d=>by rw[ec x d])]
    have i:jN (min lo r.1) t=0:=pq _ t (fun x d=>by have l:=h x d;have q:=j.le x d;simp;omega);rw[aU c2,FX t _ _ aj j,g,f,i];simp only[List.take_zero,List.nil_append,nI];congr 1
    simp only[D8,g,f,i];rw[bK (nV _)];generalize u:iJ (max hi r.2) t=e;have n:e<=t.length:=u▸AU _ t;cases e with
    |zero=>simp
    |succ e=>
     have o:t.getD 0 (0,0)∈t:=by
      cases t with
      |nil=>simp at n
      |cons a b=>simp
     have k:t.getD e (0,0)∈t:=by rw[j3,lg aj];exact mY _
     have v:=h _ o;have l:=h _ k;have q:=j.le _ k;simp only[nV,if_true,Nat.add_sub_cancel,eT,mI,Prod.mk.injEq];constructor<;>omega
theorem wZ:∀(rs:bW) (lo hi x:Nat),lo<=hi->fI rs->(Mem (ins lo hi rs) x↔(lo<=x/\x<=hi)\/Mem rs x)
 |[],lo,hi,x,_,_=>by simp[ins,Mem]
 |r::t,lo,hi,x,hlh,hs=>by
  obtain⟨h1,d,c⟩:=hs;have b:∀l:bW,∀a:Nat×Nat,Mem (a::l) x↔(a.1<=x/\x<=a.2)\/Mem l x:=fun l a=>by simp[Mem]
  rw[ins];by_cases c1:r.2+1<lo;·rw[bK c1,b,wZ t lo hi x hlh c,b];constructor<;>(rintro(h|h|h)<;>simp[h])
  ·rw[aU c1];by_cases c2:hi+1<r.1;·rw[bK c2,b,b]
   ·rw[aU c2,wZ t _ _ x aj c,b];constructor
    ·rintro(h|h)
     ·by_cases a:lo<=x/\x<=hi;·exact .inl a
      ·exact .inr (.inl aj)
     ·exact .inr (.inr h)
    ·rintro(h|h|h);·exact .inl aj
     ·exact .inl aj
     ·exact .inr h
theorem FY:∀(rs:bW) (lo hi b:Nat),lo<=hi->fI rs->b<lo->(∀x∈rs,b<x.1)->∀x∈ins lo hi rs,b<x.1
 |[],lo,hi,b,_,_,hb,_=>by intro x a;simp[ins]at a;subst a;exact hb
 |r::t,lo,hi,b,hlh,hs,hb,ha=>by
  obtain⟨h1,f,e⟩:=hs;have d:=ha r aP;have c:∀x∈t,b<x.1:=fun x a=>ha x (by simp[a]);rw[ins];by_cases c1:r.2+1<lo
  ·rw[bK c1];intro x a;rcases eB.1 a with rfl|a;·exact d
   ·exact FY t lo hi b hlh e hb c x a
  ·rw[aU c1];by_cases c2:hi+1<r.1
   ·rw[bK c2];intro x a;rcases eB.1 a with rfl|a;·exact hb
    ·exact ha x a
   ·rw[aU c2];exact FY t _ _ b aj e aj c
theorem nY:∀(rs:bW) (lo hi:Nat),lo<=hi->fI rs->fI (ins lo hi rs)
 |[],lo,hi,h,_=>⟨h,aP,trivial⟩
 |r::t,lo,hi,hlh,hs=>by
  obtain⟨h1,b,a⟩:=hs;rw[ins];by_cases c1:r.2+1<lo;·rw[bK c1];exact⟨h1,FY t lo hi _ hlh a c1 b,nY t lo hi hlh a⟩
  ·rw[aU c1];by_cases c2:hi+1<r.1
   ·rw[bK c2];refine⟨hlh,?_,h1,b,a⟩;intro x c;rcases eB.1 c with rfl|c;·exact c2
    ·have:=b x c;show hi+1<x.1;omega
   ·rw[aU c2];exact nY t _ _ aj a
theorem sZ:∀(rs:bW) (lo hi B:Nat),hi<=B->(∀x∈rs,x.2<=B)->∀x∈ins lo hi rs,x.2<=B
 |[],lo,hi,B,h,_=>by intro x a;simp[ins]at a;subst a;exact h
 |r::t,lo,hi,B,h,ha=>by
  have c:=ha r aP;have b:∀x∈t,x.2<=B:=fun x a=>ha x (by simp[a]);rw[ins];by_cases c1:r.2+1<lo
  ·rw[bK c1];intro x a;rcases eB.1 a with rfl|a;·exact c
   ·exact sZ t lo hi B h b x a
  ·rw[aU c1];by_cases c2:hi+1<r.1
   ·rw[bK c2];intro x a;rcases eB.1 a with rfl|a;·exact h
    ·exact ha x a
   ·rw[aU c2];exact sZ t _ _ B aj b
theorem qV:∀(rs:bW) (lo hi:Nat),(ins lo hi rs).length<=rs.length+1
 |[],lo,hi=>by simp[ins]
 |r::t,lo,hi=>by
  rw[ins];by_cases c1:r.2+1<lo;·rw[bK c1];have:=qV t lo hi;simp;omega
  ·rw[aU c1];by_cases c2:hi+1<r.1;·rw[bK c2];simp
   ·rw[aU c2];have:=qV t (min lo r.1) (max hi r.2);simp;omega
def has(n:Nat)(rs:bW):Bool:=
 let i:=rs.countP (fun r=>decide (r.2<n))
 decide (i<rs.length)&&decide ((rs.getD i (0,0)).1<=n)
theorem AV:∀(rs:bW) (n:Nat),fI rs->(has n rs=true↔Mem rs n)
 |[],n,_=>by simp[has,Mem]
 |r::t,n,hs=>by
  obtain⟨h1,b,d⟩:=hs;have f:=AV t n d;by_cases c:r.2<n
  ·have e:has n (r::t)=has n t:=by simp[has,c]
   rw[e,f];simp only[Mem,eB,exists_eq_or_imp];constructor;·intro h;exact .inr h
   ·rintro(h|h);·omega
    ·exact h
  ·have hz:∀x∈t,decide (x.2<n)=false:=fun x a=>by
    have g:=b x a;have i:=d.le x a;simp;omega
   have e:has n (r::t)=decide (r.1<=n):=by simp[has,c,pq _ t hz]
   rw[e,decide_eq_true_iff];simp only[Mem,eB,exists_eq_or_imp];constructor;·intro h;exact .inl ⟨h,aj⟩
   ·rintro(h|⟨x,a,h⟩);·exact h.1
    ·have:=b x a;omega
def add(bf:Nat)(fl:Nat)(rs:bW)(lo hi:Nat):Nat×bW:=
 if hi<max lo fl then(fl,rs)
 else if bf<(ins (max lo fl) hi rs).length then(((ins (max lo fl) hi rs).getD 0 (0,0)).2+1,(ins (max lo fl) hi rs).tail)
 else(fl,ins (max lo fl) hi rs)
theorem fI.tail{l:bW}(h:fI l):fI l.tail:=by
 cases l with
 |nil=>exact h
 |cons a t=>exact h.2.2
theorem XU(rs:bW)(lo hi:Nat):0<(ins lo hi rs).length:=by
 induction rs generalizing lo hi with
 |nil=>simp[ins]
 |cons r t a=>
  rw[ins];split;·simp
  ·split;·simp
   ·exact a _ _
structure Ok (B:Nat) (k:Nat) (fl:Nat) (rs:bW):Prop where
 LA:fI rs
 hi:∀r∈rs,r.2<B
 len:rs.length<=k
 fl:fl<B
theorem XV{l:bW}(h:fI l){B:Nat}(hb:∀r∈l,r.2<B)(c:1<l.length):(l.getD 0 (0,0)).2+1<B:=by
 match l,c with
 |a::b::t,_=>have h1:=h.2.1 b aP;have d:=h.2.2.1;have e:=hb b aP;simp only[mI];omega
def down(rs:bW)(aF:Nat):bW:=if aF=0 then rs.reverse else rs.reverse.take aF
end Go.Proofs.YtphbledmopchnaaGreatDoor.St.Rg
namespace Go.Proofs.YtphbledmopchnaaGreatDoor.St
open Go.RowKit Go.Lib Go.Shelf Tryz
theorem vU(g:Nat)(cb:Array Value)(n:Nat)(p:Nat->Bool)(w:World)(F:∀args w,(callFunc g args).run prog w=.ok (.enter g args) w)(gQ:n<4611686018427387904)(u:∀(m:Nat) (i:Nat),i<n->Calls prog g (#[iZ i]++cb) (w.drewN m) fun e w'=>e=.returned (.bool (p i))/\∃q,w'=(w.drewN m).drewN q)(c:∀a b,a<=b->b<n->p a=true->p b=true):Calls prog 171 #[iZ n,.func (.func g) #[] cb] w fun e w'=>e=.returned (iZ ((mE n).countP (fun i=> !p i):Nat))/\∃q,w'=w.drewN q:=by
 have y:Aside _:=u;have M:Aside _:=c;clear u c;generalize d:(mE n).countP (fun i=> !p i)=jP;have x:Aside ((mE n).countP (fun i=> !p i)=jP):=d;clear d;go_enter func171,ntmps171;go_wp2;go_loopg [5,6] n (fun C D E wr=>∃(lo hi q:Nat),D=(iZ lo)/\E=(iZ hi)/\lo<=hi/\hi<=n/\hi-lo<=C/\wr=w.drewN q/\Aside ((∀t,t<lo->p t=false)/\(∀t,hi<=t->t<n->p t=true)));case atStart=>exact⟨0,n,0,rfl,rfl,Nat.zero_le _,mK _,aj,rfl,(⟨fun t ht=>absurd ht (Nat.not_lt_zero _),fun t h1 G=>aj⟩:(∀t,t<0->p t=false)/\(∀t,n<=t->t<n->p t=true))⟩
 case round=>
  obtain⟨lo,hi,q,rfl,rfl,A,j,H,rfl,I⟩:=hrel;by_cases B:lo<hi
  ·have k:=y.out q ((lo+hi) / 2) aj;rw[show(((lo+hi) / 2:Nat):Int)=((lo:Int)+(hi:Int)) / 2 by omega]at k;cases hp:p ((lo+hi) / 2)<;>rw[hp]at k
   ·have l:Aside (p ((lo+hi) / 2)=false):=hp;clear hp;go_wp2_with (go_at_fn g;refine bN k ?_;rintro w' ⟨nq,rfl⟩);go_roundg (hi-((lo+hi) / 2+1));case measure=>omega
    case rel=>
     have o:Aside ((∀t,t<(lo+hi) / 2+1->p t=false)/\(∀t,hi<=t->t<n->p t=true)):=⟨fun t ht=>(by
      cases h:p t with
      |false=>rfl
      |true=>have:=M.out t ((lo+hi) / 2) aj aj h;rw[l.out]at this;cases this),I.out.2⟩
     exact⟨(lo+hi) / 2+1,hi,q+nq,by rw[show((lo:Int)+(hi:Int)) / 2+1=(((lo+hi) / 2+1:Nat):Int) by omega],rfl,aj,j,mK _,rfl,o⟩
   ·have l:Aside (p ((lo+hi) / 2)=true):=hp;clear hp;go_wp2_with (go_at_fn g;refine bN k ?_;rintro w' ⟨nq,rfl⟩);go_roundg ((lo+hi) / 2-lo);case measure=>omega
    case rel=>have o:Aside ((∀t,t<lo->p t=false)/\(∀t,(lo+hi) / 2<=t->t<n->p t=true)):=⟨I.out.1,fun t ht r=>M.out ((lo+hi) / 2) t ht r l.out⟩;exact⟨lo,(lo+hi) / 2,q+nq,rfl,by rw[show((lo:Int)+(hi:Int)) / 2=(((lo+hi) / 2:Nat):Int) by omega],aj,aj,mK _,rfl,o⟩
  ·obtain rfl:hi=lo:=aj;have f:jP=hi:=by
    rw[<-x.out];have v:∀t,t<n->(mE n)[t]! =t:=fun t ht=>by rw[getElem!_pos _ t (by simpa using ht)];simp
    refine Lib.countP_boundary _ (mE n) hi (by simpa using j) (fun t ht=>?_) (fun t z s=>?_);·rw[v t aj,I.out.1 t ht];rfl
    ·rw[v t (by simpa using s),I.out.2 t z (by simpa using s)];rfl
   subst f;go_wp2;go_ret;exact⟨rfl,q,rfl⟩
end Go.Proofs.YtphbledmopchnaaGreatDoor.St
namespace Go.Proofs.YtphbledmopchnaaGreatDoor.St
open Go.RowKit Go.Lib Tryz
theorem dI{a b:Bool}(h:a=b):Ending.returned (.bool a)=.returned (.bool b):=by rw[h]
theorem kK{k:IntKind}{a b:Int}(h:a=b):Ending.returned (.int k a)=.returned (.int k b):=by rw[h]
theorem EA(a b:Nat)(c:a<18446744073709551616)(hb:b<18446744073709551616)(w:World):Calls prog 222 #[uZ a,uZ b] w fun e w'=>e=.returned (.bool (decide (a+1<b)))/\w'=w:=by
 by_cases h:a<b
 ·have h1:decide ((a:Int)<(b:Int))=true:=by simp;omega
  go_enter func222,ntmps222;go_wp2;go_ret;exact⟨dI (by rw[decide_eq_decide];omega),rfl⟩
 ·have h1:decide ((a:Int)<(b:Int))=false:=by simp;omega
  go_enter func222,ntmps222;go_wp2;go_ret;exact⟨dI (by symm;rw[decide_eq_false_iff_not];omega),rfl⟩
end Go.Proofs.YtphbledmopchnaaGreatDoor.St
namespace Go.Proofs.YtphbledmopchnaaGreatDoor.St
open Go.RowKit Go.Lib Mm Tryz
def bQ:bW->bO
 |[]=>[]
 |r::t=>(uZ r.1)::(uZ r.2)::bQ t
theorem l6:∀rs,(bQ rs).length=2*rs.length
 |[]=>rfl
 |r::t=>by simp[bQ,l6 t];omega
theorem uM:∀(rs:bW) (i:Nat),i<rs.length->(bQ rs)[i*2]?=some (uZ ((rs.getD i (0,0)).1:Int))
 |[],i,h=>by simp at h
 |r::t,0,_=>by simp[bQ]
 |r::t,i+1,h=>by rw[show(i+1)*2=i*2+1+1 by omega];simp only[bQ,nA,eT];exact uM t i (by simpa using h)
theorem uN:∀(rs:bW) (i:Nat),i<rs.length->(bQ rs)[i*2+1]?=some (uZ ((rs.getD i (0,0)).2:Int))
 |[],i,h=>by simp at h
 |r::t,0,_=>by simp[bQ]
 |r::t,i+1,h=>by rw[show(i+1)*2+1=i*2+1+1+1 by omega];simp only[bQ,nA,eT];exact uN t i (by simpa using h)
theorem jH:∀a b,bQ (a++b)=bQ a++bQ b
 |[],_=>rfl
 |r::t,b=>by simp[bQ,jH t b]
theorem zP:∀(rs:bW) (i:Nat),(bQ rs).take (2*i)=bQ (rs.take i)
 |[],i=>by simp[bQ]
 |r::t,0=>by simp[bQ]
 |r::t,i+1=>by rw[show 2*(i+1)=2*i+1+1 by omega];simp[bQ,zP t i]
theorem zQ:∀(rs:bW) (i:Nat),(bQ rs).drop (2*i)=bQ (rs.drop i)
 |[],i=>by simp[bQ]
 |r::t,0=>by simp[bQ]
 |r::t,i+1=>by rw[show 2*(i+1)=2*i+1+1 by omega];simp[bQ,zQ t i]
theorem lK:∀(rs:bW),∀v∈bQ rs,v.oneCell'=true
 |[],v,h=>by simp[bQ]at h
 |r::t,v,h=>by
  simp[bQ]at h;rcases h with rfl|rfl|h;·rfl
  ·rfl
  ·exact lK t v h
theorem kS(rs:bW)(f:Nat×Nat->Bool):(mE rs.length).countP (fun i=>f (rs.getD i (0,0)))=rs.countP f:=by
 have h:rs=(mE rs.length).map (fun i=>rs.getD i (0,0)):=by
  apply List.ext_getElem;·simp
  ·intro i h1 a;simp[h1]
 conv=>rhs;rw[h]
 rw[List.countP_map];rfl
def jB(w:World)(sp:Nat)(base:Option Addr)(c:Nat)(rs:bW):Prop:=
 base=none/\rs=[]/\c=0\/∃b l,base=some (aB b 0)/\b≠sp/\aS w b 170 l/\l.length=2*c/\l.take (2*rs.length)=bQ rs/\∀v∈l,v.oneCell'=true
structure Kept (w w':World) (sp:Nat) (row:Option Nat):Prop where
 os:w'.os=w.os
 tape:w'.tape=w.tape
 output:w'.output=w.output
 size:w.heap.size<=w'.heap.size
 block:∀k,k<w.heap.size->k≠sp->some k≠row->w'.heap[k]?=w.heap[k]?
theorem jB.pG{w:World}{sp:Nat}{base:Option Addr}{c:Nat}{rs:bW}(h:jB w sp base c rs){i:Nat}(hi:i<rs.length):∃b,base=some (aB b 0)/\b≠sp/\b<w.heap.size/\w.cell? (aB b (i*2+1))=some (uZ ((rs.getD i (0,0)).2:Int))/\w.cell? (aB b (i*2))=some (uZ ((rs.getD i (0,0)).1:Int)):=by
 rcases h with⟨_,rfl,_⟩|⟨b,l,h1,h2,h3,h4,h5,_⟩;·simp at hi
 ·refine⟨b,h1,h2,h3.lt,?_,?_⟩;·rw[h3.cell,<-uN rs i hi,<-h5,nP,bK aj]
  ·rw[h3.cell,<-uM rs i hi,<-h5,nP,bK aj]
theorem jB.of_heap{w w':World}{sp:Nat}{base:Option Addr}{c:Nat}{rs:bW}(h:jB w sp base c rs)(e:∀b,base=some (aB b 0)->w'.heap[b]?=w.heap[b]?):jB w' sp base c rs:=by
 rcases h with⟨h1,a,d⟩|⟨b,l,h1,a,d,h4⟩;·exact .inl ⟨h1,a,d⟩
 ·exact .inr ⟨b,l,h1,a,d.of_heap (e b h1),h4⟩
end Go.Proofs.YtphbledmopchnaaGreatDoor.St
namespace Go.Proofs.YtphbledmopchnaaGreatDoor.Mm
open Go.RowKit Go.Lib
theorem aS.LH{w:World}{b:Nat}{t:TypeId}{l:bO}(h:aS w b t l)(o:Nat)(v:Value):aS (w.setCell (aB b o) v) b t (l.set o v):=by rw[setCell_eq_setRow w b o l.toArray t (0,0) v h];have:=setRow_heap w b l.toArray (l.toArray.setIfInBounds o v) t (0,0) h;unfold aS;rw[this];simp
theorem aS.kU{w:World}{b:Nat}{t:TypeId}{l:bO}(h:aS w b t l)(a:Addr)(v:Value)(c:b≠a.block):aS (w.setCell a v) b t l:=
 h.of_heap (Below.heap_setCell w a v b c)
end Go.Proofs.YtphbledmopchnaaGreatDoor.Mm
namespace Go.Proofs.YtphbledmopchnaaGreatDoor.St
open Go.RowKit Go.Lib Mm

theorem aG{p:Prop}(h:p):Hid p:=h
def Small(rs:bW):Prop:=∀r∈rs,r.1<18446744073709551616/\r.2<18446744073709551616
theorem Small.get{rs:bW}(h:Small rs){i:Nat}(hi:i<rs.length):(rs.getD i (0,0)).1<18446744073709551616/\(rs.getD i (0,0)).2<18446744073709551616:=by apply h;rw[j3,lg hi];exact mY _
theorem qW:∀{rs:bW},Rg.fI rs->∀{a b:Nat},a<=b->b<rs.length->(rs.getD a (0,0)).1<=(rs.getD b (0,0)).1/\(rs.getD a (0,0)).2<=(rs.getD b (0,0)).2
 |[],_,a,b,_,hb=>by simp at hb
 |r::t,h,0,0,_,_=>⟨mK _,mK _⟩
 |r::t,h,0,b+1,_,hb=>by
  have c:t.getD b (0,0)∈t:=by rw[j3,lg (by simpa using hb)];exact mY _
  have h1:=h.2.1 _ c;have d:=h.2.2.le _ c;have e:=h.1;simp only[mI,eT];omega
 |r::t,h,a+1,b+1,hab,hb=>by simp only[eT];exact qW h.2.2 aj (by simpa using hb)
theorem oh{w:World}{sp:Nat}{base:Option Addr}{c:Nat}{rs:bW}(R:jB w sp base c rs):∀k,base.map (·.block)=some k->k≠sp/\k<w.heap.size:=by
 intro k a;rcases R with⟨rfl,_⟩|⟨b,l,rfl,hb,hB,_⟩;·cases a
 ·simp at a;rw[<-a];exact⟨hb,hB.lt⟩
theorem Kept.drewN{w w':World}{sp:Nat}{row:Option Nat}(h:Kept w w' sp row)(q:Nat):Kept w (w'.drewN q) sp row:=⟨h.os,h.tape,h.output,h.size,h.block⟩
theorem Jf(rs:bW):(bQ rs).drop 2=bQ rs.tail:=by
 cases rs with
 |nil=>rfl
 |cons r t=>rfl
theorem TT{rs:bW}(b:Rg.fI rs)(h:∀r∈rs,r.2<18446744073709551616):Small rs:=fun r a=>by have h1:=b.le r a;have c:=h r a;omega
theorem Kept.trans{w w1 f:World}{sp:Nat}{row c:Option Nat}(h:Kept w w1 sp row)(k:Kept w1 f sp c)(i:c=row\/∃b,c=some b/\w.heap.size<=b):Kept w f sp row:=
 ⟨k.os.trans h.os,k.tape.trans h.tape,k.output.trans h.output,Nat.le_trans h.size k.size,fun j g d a=>by
  have hs:=h.size;rw[k.block j aj d (fun e=>by
   rcases i with r|⟨b,r,hb⟩;·exact a (by rw[e,r])
   ·rw[r]at e;cases e;omega),h.block j g d a]⟩
