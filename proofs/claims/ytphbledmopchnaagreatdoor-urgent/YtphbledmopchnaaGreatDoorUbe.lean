import Derived.Shelf.SlCmpFuncs.BinarySearchFunc
import Derived.Test.YtphbledmopchnaaGreatDoorUbb
import Derived.Deep.RegionWith
open List renaming getD_cons_succ->fA,getD_eq_getElem?_getD->fB,mem_cons->mR,getElem?_eq_getElem->nI,range->sQ,getD_cons_zero->tL,countP_cons->uj,getElem_mem->wz,getElem?_cons_succ->Am,drop_succ_cons->Av,getElem?_take->Aw
open Nat renaming le_refl->tT,succ_pos->E8
set_option maxHeartbeats 4000000
set_option maxRecDepth 1000000
namespace Go.Proofs.YtphbledmopchnaaGreatDoor.St.Rg
def Sorted:aP->Prop
 |[]=>True
 |r::t=>r.1<=r.2/\(∀x∈t,r.2+1<x.1)/\Sorted t
def ins:Nat->Nat->aP->aP
 |lo,hi,[]=>[(lo,hi)]
 |lo,hi,r::t=>if r.2+1<lo then r::ins lo hi t else if hi+1<r.1 then(lo,hi)::r::t else ins (min lo r.1) (max hi r.2) t
def gX(lo:Nat)(rs:aP):Nat:=rs.countP (fun r=>decide (r.2+1<lo))
def end'(hi:Nat)(rs:aP):Nat:=rs.countP (fun r=>decide (r.1<=hi+1))
def zW(lo hi:Nat)(rs:aP):Nat×Nat:=
 if gX lo rs<end' hi rs then(min lo (rs.getD (gX lo rs) (0,0)).1,max hi (rs.getD (end' hi rs-1) (0,0)).2)else(lo,hi)
theorem Sorted.le{rs:aP}(h:Sorted rs):∀r∈rs,r.1<=r.2:=by
 induction rs with
 |nil=>intro r F;cases F
 |cons a t G=>
  intro r F
  rcases mR.1 F with rfl|F
  ·exact h.1
  ·exact G h.2.2 r F
theorem oM{α:Type}(p:α->Bool)(l:List α)(h:∀x∈l,p x=false):l.countP p=0:=by
 rw[List.countP_eq_zero];intro x F;simp[h x F]
theorem r_{lo hi:Nat}(h:lo<=hi){rs:aP}(hs:Sorted rs):gX lo rs<=end' hi rs:=by
 unfold gX end';apply List.countP_mono_left;intro r F h1;have:=hs.le r F;simp at h1 ⊢;omega
theorem wV(hi:Nat)(rs:aP):end' hi rs<=rs.length:=List.countP_le_length
theorem Ce:∀(rs:aP) (lo hi:Nat),lo<=hi->Sorted rs->ins lo hi rs=rs.take (gX lo rs)++zW lo hi rs::rs.drop (end' hi rs)
 |[],lo,hi,_,_=>by simp[ins,zW,gX,end']
 |r::t,lo,hi,hlh,hs=>by
  obtain⟨h1,I,O⟩:=hs;rw[ins]
  by_cases c1:r.2+1<lo
  ·have H:gX lo (r::t)=gX lo t+1:=by simp[gX,c1]
   have G:end' hi (r::t)=end' hi t+1:=by
    have:r.1<=hi+1:=by omega
    simp[end',this]
   rw[if_pos c1,Ce t lo hi hlh O,H,G];simp only[List.take_succ_cons,Av,List.cons_append,zW,H,G]
   by_cases c:gX lo t<end' hi t
   ·obtain⟨e0,X⟩:∃e0,end' hi t=e0+1:=⟨end' hi t-1,by omega⟩;simp[X]
   ·have c':¬(gX lo t+1<end' hi t+1):=by omega
    rw[if_neg c,if_neg c']
  ·have hz:∀x∈t,decide (x.2+1<lo)=false:=fun x F=>by
    have V:=I x F;have a2:=O.le x F;simp;omega
   have H:gX lo (r::t)=0:=by
    simp only[gX,uj,oM _ t hz];simp[c1]
   rw[if_neg c1]
   by_cases c2:hi+1<r.1
   ·have h4:∀x∈t,decide (x.1<=hi+1)=false:=fun x F=>by
     have V:=I x F;simp;omega
    have G:end' hi (r::t)=0:=by
     have:¬r.1<=hi+1:=by omega
     simp only[end',uj,oM _ t h4];simp[this]
    rw[if_pos c2];simp[zW,H,G]
   ·have ec:∀x∈t,decide (x.1<=hi+1)=decide (x.1<=max hi r.2+1):=fun x F=>by
     have V:=I x F;rw[decide_eq_decide];omega
    have G:end' hi (r::t)=end' (max hi r.2) t+1:=by
     have:r.1<=hi+1:=by omega
     simp only[end',uj,this,decide_true,if_true];rw[List.countP_congr (fun x F=>by rw[ec x F])]
    have K:gX (min lo r.1) t=0:=oM _ t (fun x F=>by
     have V:=I x F;have a2:=O.le x F
     simp;omega)
    rw[if_neg c2,Ce t _ _ (by omega) O,H,G,K];simp only[List.take_zero,List.nil_append,Av]
    congr 1
    simp only[zW,H,G,K];rw[if_pos (E8 _)];generalize he:end' (max hi r.2) t=e;have Z:e<=t.length:=he▸wV _ t
    cases e with
    |zero=>simp
    |succ e=>
     have h0:t.getD 0 (0,0)∈t:=by
      cases t with
      |nil=>simp at Z
      |cons a b=>simp
     have U:t.getD e (0,0)∈t:=by
      rw[fB,nI (by omega)];exact wz _
     have a0:=I _ h0;have V:=I _ U;have a2:=O.le _ U;simp only[E8,if_true,Nat.add_sub_cancel,fA,tL,Prod.mk.injEq];constructor<;>omega
theorem Cg:∀(rs:aP) (lo hi b:Nat),lo<=hi->Sorted rs->b<lo->(∀x∈rs,b<x.1)->∀x∈ins lo hi rs,b<x.1
 |[],lo,hi,b,_,_,hb,_=>by intro x F;simp[ins]at F;subst F;exact hb
 |r::t,lo,hi,b,hlh,hs,hb,ha=>by
  obtain⟨h1,K,I⟩:=hs;have H:=ha r (by simp)
  have G:∀x∈t,b<x.1:=fun x F=>ha x (by simp[F])
  rw[ins]
  by_cases c1:r.2+1<lo
  ·rw[if_pos c1];intro x F
   rcases mR.1 F with rfl|F
   ·exact H
   ·exact Cg t lo hi b hlh I hb G x F
  ·rw[if_neg c1]
   by_cases c2:hi+1<r.1
   ·rw[if_pos c2];intro x F
    rcases mR.1 F with rfl|F
    ·exact hb
    ·exact ha x F
   ·rw[if_neg c2];exact Cg t _ _ b (by omega) I (by omega) G
theorem kH:∀(rs:aP) (lo hi:Nat),lo<=hi->Sorted rs->Sorted (ins lo hi rs)
 |[],lo,hi,h,_=>⟨h,by simp,trivial⟩
 |r::t,lo,hi,hlh,hs=>by
  obtain⟨h1,G,F⟩:=hs;rw[ins]
  by_cases c1:r.2+1<lo
  ·rw[if_pos c1];exact⟨h1,Cg t lo hi _ hlh F c1 G,kH t lo hi hlh F⟩
  ·rw[if_neg c1]
   by_cases c2:hi+1<r.1
   ·rw[if_pos c2];refine⟨hlh,?_,h1,G,F⟩;intro x H
    rcases mR.1 H with rfl|H
    ·exact c2
    ·have:=G x H;show hi+1<x.1;omega
   ·rw[if_neg c2];exact kH t _ _ (by omega) F
theorem uG:∀(rs:aP) (lo hi B:Nat),hi<=B->(∀x∈rs,x.2<=B)->∀x∈ins lo hi rs,x.2<=B
 |[],lo,hi,B,h,_=>by intro x F;simp[ins]at F;subst F;exact h
 |r::t,lo,hi,B,h,ha=>by
  have H:=ha r (by simp)
  have G:∀x∈t,x.2<=B:=fun x F=>ha x (by simp[F])
  rw[ins]
  by_cases c1:r.2+1<lo
  ·rw[if_pos c1];intro x F
   rcases mR.1 F with rfl|F
   ·exact H
   ·exact uG t lo hi B h G x F
  ·rw[if_neg c1]
   by_cases c2:hi+1<r.1
   ·rw[if_pos c2];intro x F
    rcases mR.1 F with rfl|F
    ·exact h
    ·exact ha x F
   ·rw[if_neg c2];exact uG t _ _ B (by omega) G
theorem mZ:∀(rs:aP) (lo hi:Nat),(ins lo hi rs).length<=rs.length+1
 |[],lo,hi=>by simp[ins]
 |r::t,lo,hi=>by
  rw[ins]
  by_cases c1:r.2+1<lo
  ·rw[if_pos c1];have:=mZ t lo hi;simp;omega
  ·rw[if_neg c1]
   by_cases c2:hi+1<r.1
   ·rw[if_pos c2];simp
   ·rw[if_neg c2];have:=mZ t (min lo r.1) (max hi r.2);simp;omega
def has(n:Nat)(rs:aP):Bool:=
 let i:=rs.countP (fun r=>decide (r.2<n))
 decide (i<rs.length)&&decide ((rs.getD i (0,0)).1<=n)
def add(most:Nat)(fl:Nat)(rs:aP)(lo hi:Nat):Nat×aP:=
 if hi<max lo fl then(fl,rs)
 else if most<(ins (max lo fl) hi rs).length then(((ins (max lo fl) hi rs).getD 0 (0,0)).2+1,(ins (max lo fl) hi rs).tail)
 else(fl,ins (max lo fl) hi rs)
theorem Sorted.tail{l:aP}(h:Sorted l):Sorted l.tail:=by
 cases l with
 |nil=>exact h
 |cons a t=>exact h.2.2
structure Ok (B:Nat) (k:Nat) (fl:Nat) (rs:aP):Prop where
 sorted:Sorted rs
 hi:∀r∈rs,r.2<B
 len:rs.length<=k
 fl:fl<B
theorem TQ{l:aP}(h:Sorted l){B:Nat}(hb:∀r∈l,r.2<B)(F:1<l.length):(l.getD 0 (0,0)).2+1<B:=by
 match l,F with
 |a::b::t,_=>
  have h1:=h.2.1 b (by simp);have G:=h.2.2.1;have H:=hb b (by simp);simp only[tL];omega
def down(rs:aP)(av:Nat):aP:=if av=0 then rs.reverse else rs.reverse.take av
end Go.Proofs.YtphbledmopchnaaGreatDoor.St.Rg
namespace Go.Proofs.YtphbledmopchnaaGreatDoor.St
open Go.RowKit Go.Lib Go.Shelf Tryz
theorem qY(g:Nat)(cb:Array Value)(n:Nat)(p:Nat->Bool)(w:World)(eg:∀args w,(callFunc g args).run prog w=.ok (.enter g args) w)(hsz:n<4611686018427387904)(hf:∀(m:Nat) (i:Nat),i<n->Calls prog g (#[iZ i]++cb) (w.drewN m) fun e w'=>e=.returned (.bool (p i))/\∃q,w'=(w.drewN m).drewN q)(F:∀a b,a<=b->b<n->p a=true->p b=true):
  Calls prog 171 #[iZ n,.func (.func g) #[] cb] w fun e w'=>e=.returned (iZ ((sQ n).countP (fun i=> !p i):Nat))/\∃q,w'=w.drewN q:=by
 have HF:Aside _:=hf;have M:Aside _:=F;clear hf F;generalize G:(sQ n).countP (fun i=> !p i)=cnt;have CN:Aside ((sQ n).countP (fun i=> !p i)=cnt):=G;clear G;go_enter func171,ntmps171;go_wp2
 go_loopg [5,6] n (fun kx s5 s6 wr=>∃(lo hi q:Nat),s5=(iZ lo)/\s6=(iZ hi)/\lo<=hi/\hi<=n/\hi-lo<=kx/\wr=w.drewN q/\
  Aside ((∀t,t<lo->p t=false)/\(∀t,hi<=t->t<n->p t=true)))
 case atStart=>exact⟨0,n,0,rfl,rfl,Nat.zero_le _,tT _,by omega,rfl,(⟨fun t ht=>absurd ht (Nat.not_lt_zero _),fun t h1 h2=>by omega⟩:(∀t,t<0->p t=false)/\(∀t,n<=t->t<n->p t=true))⟩
 case round=>
  obtain⟨lo,hi,q,rfl,rfl,h0,K,hg,rfl,I⟩:=hrel
  by_cases h5:lo<hi
  ·have O:=HF.out q ((lo+hi) / 2) (by omega);rw[show(((lo+hi) / 2:Nat):Int)=((lo:Int)+(hi:Int)) / 2 by omega]at O;cases hp:p ((lo+hi) / 2)<;>rw[hp]at O
   ·have U:Aside (p ((lo+hi) / 2)=false):=hp;clear hp
    go_wp2_with (go_at_fn g;refine O.mono ?_;rintro e w' ⟨rfl,nq,rfl⟩)
    go_roundg (hi-((lo+hi) / 2+1))
    case measure=>omega
    case rel=>
     have V:Aside ((∀t,t<(lo+hi) / 2+1->p t=false)/\(∀t,hi<=t->t<n->p t=true)):=⟨fun t ht=>(by
      cases h:p t with
      |false=>rfl
      |true=>have:=M.out t ((lo+hi) / 2) (by omega) (by omega) h;rw[U.out]at this;cases this),I.out.2⟩
     exact⟨(lo+hi) / 2+1,hi,q+nq,by rw[show((lo:Int)+(hi:Int)) / 2+1=(((lo+hi) / 2+1:Nat):Int) by omega],rfl,by omega,K,tT _,rfl,V⟩
   ·have U:Aside (p ((lo+hi) / 2)=true):=hp;clear hp
    go_wp2_with (go_at_fn g;refine O.mono ?_;rintro e w' ⟨rfl,nq,rfl⟩)
    go_roundg ((lo+hi) / 2-lo)
    case measure=>omega
    case rel=>
     have V:Aside ((∀t,t<lo->p t=false)/\(∀t,(lo+hi) / 2<=t->t<n->p t=true)):=⟨I.out.1,fun t ht X=>M.out ((lo+hi) / 2) t ht X U.out⟩;exact⟨lo,(lo+hi) / 2,q+nq,rfl,by rw[show((lo:Int)+(hi:Int)) / 2=(((lo+hi) / 2:Nat):Int) by omega],by omega,by omega,tT _,rfl,V⟩
  ·obtain rfl:hi=lo:=by omega
   have H:cnt=hi:=by
    rw[<-CN.out]
    have hr:∀t,t<n->(sQ n)[t]! =t:=fun t ht=>by rw[getElem!_pos _ t (by simpa using ht)];simp
    refine Lib.countP_boundary _ (sQ n) hi (by simpa using K) (fun t ht=>?_) (fun t h3 Z=>?_)
    ·rw[hr t (by omega),I.out.1 t ht];rfl
    ·rw[hr t (by simpa using Z),I.out.2 t h3 (by simpa using Z)];rfl
   subst H;go_wp2;go_ret;exact⟨rfl,q,rfl⟩
end Go.Proofs.YtphbledmopchnaaGreatDoor.St
namespace Go.Proofs.YtphbledmopchnaaGreatDoor.St
open Go.RowKit Go.Lib Tryz
theorem aV{a b:Bool}(h:a=b):Ending.returned (.bool a)=.returned (.bool b):=by rw[h]
theorem iX{k:IntKind}{a b:Int}(h:a=b):Ending.returned (.int k a)=.returned (.int k b):=by rw[h]
theorem AU(a b:Nat)(F:a<18446744073709551616)(hb:b<18446744073709551616)(w:World):
  Calls prog 222 #[uZ a,uZ b] w fun e w'=>e=.returned (.bool (decide (a+1<b)))/\w'=w:=by
 by_cases h:a<b
 ·have h1:decide ((a:Int)<(b:Int))=true:=by simp;omega
  go_enter func222,ntmps222;go_wp2;go_ret;exact⟨aV (by rw[decide_eq_decide];omega),rfl⟩
 ·have h1:decide ((a:Int)<(b:Int))=false:=by simp;omega
  go_enter func222,ntmps222;go_wp2;go_ret;exact⟨aV (by symm;rw[decide_eq_false_iff_not];omega),rfl⟩
end Go.Proofs.YtphbledmopchnaaGreatDoor.St
namespace Go.Proofs.YtphbledmopchnaaGreatDoor.St
open Go.RowKit Go.Lib Mm Tryz
def aL:aP->aI
 |[]=>[]
 |r::t=>(uZ r.1)::(uZ r.2)::aL t
theorem jA:∀rs,(aL rs).length=2*rs.length
 |[]=>rfl
 |r::t=>by simp[aL,jA t];omega
theorem pX:∀(rs:aP) (i:Nat),i<rs.length->(aL rs)[i*2]?=some (uZ ((rs.getD i (0,0)).1:Int))
 |[],i,h=>by simp at h
 |r::t,0,_=>by simp[aL]
 |r::t,i+1,h=>by
  rw[show(i+1)*2=i*2+1+1 by omega];simp only[aL,Am,fA];exact pX t i (by simpa using h)
theorem pY:∀(rs:aP) (i:Nat),i<rs.length->(aL rs)[i*2+1]?=some (uZ ((rs.getD i (0,0)).2:Int))
 |[],i,h=>by simp at h
 |r::t,0,_=>by simp[aL]
 |r::t,i+1,h=>by
  rw[show(i+1)*2+1=i*2+1+1+1 by omega];simp only[aL,Am,fA];exact pY t i (by simpa using h)
theorem gT:∀a b,aL (a++b)=aL a++aL b
 |[],_=>rfl
 |r::t,b=>by simp[aL,gT t b]
theorem vO:∀(rs:aP) (i:Nat),(aL rs).take (2*i)=aL (rs.take i)
 |[],i=>by simp[aL]
 |r::t,0=>by simp[aL]
 |r::t,i+1=>by rw[show 2*(i+1)=2*i+1+1 by omega];simp[aL,vO t i]
theorem vP:∀(rs:aP) (i:Nat),(aL rs).drop (2*i)=aL (rs.drop i)
 |[],i=>by simp[aL]
 |r::t,0=>by simp[aL]
 |r::t,i+1=>by rw[show 2*(i+1)=2*i+1+1 by omega];simp[aL,vP t i]
theorem jq:∀(rs:aP),∀v∈aL rs,v.oneCell'=true
 |[],v,h=>by simp[aL]at h
 |r::t,v,h=>by
  simp[aL]at h
  rcases h with rfl|rfl|h
  ·rfl
  ·rfl
  ·exact jq t v h
theorem ji(rs:aP)(f:Nat×Nat->Bool):(sQ rs.length).countP (fun i=>f (rs.getD i (0,0)))=rs.countP f:=by
 have h:rs=(sQ rs.length).map (fun i=>rs.getD i (0,0)):=by
  apply List.ext_getElem
  ·simp
  ·intro i h1 F;simp[h1]
 conv=>rhs;rw[h]
 rw[List.countP_map];rfl
def gN(w:World)(sp:Nat)(base:Option Addr)(c:Nat)(rs:aP):Prop:=
 base=none/\rs=[]/\c=0\/∃b l,base=some (aj b 0)/\b≠sp/\aA w b 170 l/\l.length=2*c/\l.take (2*rs.length)=aL rs/\∀v∈l,v.oneCell'=true
structure Kept (w w':World) (sp:Nat) (row:Option Nat):Prop where
 os:w'.os=w.os
 tape:w'.tape=w.tape
 output:w'.output=w.output
 size:w.heap.size<=w'.heap.size
 block:∀k,k<w.heap.size->k≠sp->some k≠row->w'.heap[k]?=w.heap[k]?
theorem gN.lH{w:World}{sp:Nat}{base:Option Addr}{c:Nat}{rs:aP}(h:gN w sp base c rs){i:Nat}(hi:i<rs.length):
  ∃b,base=some (aj b 0)/\b≠sp/\b<w.heap.size/\w.cell? (aj b (i*2+1))=some (uZ ((rs.getD i (0,0)).2:Int))/\w.cell? (aj b (i*2))=some (uZ ((rs.getD i (0,0)).1:Int)):=by
 rcases h with⟨_,rfl,_⟩|⟨b,l,h1,h2,h3,h4,h5,_⟩
 ·simp at hi
 ·refine⟨b,h1,h2,h3.lt,?_,?_⟩
  ·rw[h3.cell,<-pY rs i hi,<-h5,Aw,if_pos (by omega)]
  ·rw[h3.cell,<-pX rs i hi,<-h5,Aw,if_pos (by omega)]
theorem gN.of_heap{w w':World}{sp:Nat}{base:Option Addr}{c:Nat}{rs:aP}(h:gN w sp base c rs)(e:∀b,base=some (aj b 0)->w'.heap[b]?=w.heap[b]?):gN w' sp base c rs:=by
 rcases h with⟨h1,F,G⟩|⟨b,l,h1,F,G,h4⟩
 ·exact .inl ⟨h1,F,G⟩
 ·exact .inr ⟨b,l,h1,F,G.of_heap (e b h1),h4⟩
end Go.Proofs.YtphbledmopchnaaGreatDoor.St
namespace Go.Proofs.YtphbledmopchnaaGreatDoor.Mm
open Go.RowKit Go.Lib
theorem aA.Ho{w:World}{b:Nat}{t:TypeId}{l:aI}(h:aA w b t l)(o:Nat)(v:Value):aA (w.setCell (aj b o) v) b t (l.set o v):=by
 rw[setCell_eq_setRow w b o l.toArray t (0,0) v h];have:=setRow_heap w b l.toArray (l.toArray.setIfInBounds o v) t (0,0) h;unfold aA;rw[this];simp
theorem aA.gG{w:World}{b:Nat}{t:TypeId}{l:aI}(h:aA w b t l)(a:Addr)(v:Value)(F:b≠a.block):aA (w.setCell a v) b t l:=
 h.of_heap (Below.heap_setCell w a v b F)
end Go.Proofs.YtphbledmopchnaaGreatDoor.Mm
namespace Go.Proofs.YtphbledmopchnaaGreatDoor.St
open Go.RowKit Go.Lib Mm

theorem au{p:Prop}(h:p):Hid p:=h
def Small(rs:aP):Prop:=∀r∈rs,r.1<18446744073709551616/\r.2<18446744073709551616
theorem Small.get{rs:aP}(h:Small rs){i:Nat}(hi:i<rs.length):(rs.getD i (0,0)).1<18446744073709551616/\(rs.getD i (0,0)).2<18446744073709551616:=by
 apply h;rw[fB,nI hi];exact wz _
theorem nk:∀{rs:aP},Rg.Sorted rs->∀{a b:Nat},a<=b->b<rs.length->(rs.getD a (0,0)).1<=(rs.getD b (0,0)).1/\(rs.getD a (0,0)).2<=(rs.getD b (0,0)).2
 |[],_,a,b,_,hb=>by simp at hb
 |r::t,h,0,0,_,_=>⟨tT _,tT _⟩
 |r::t,h,0,b+1,_,hb=>by
  have F:t.getD b (0,0)∈t:=by
   rw[fB,nI (by simpa using hb)];exact wz _
  have h1:=h.2.1 _ F;have G:=h.2.2.le _ F;have H:=h.1;simp only[tL,fA];omega
 |r::t,h,a+1,b+1,hab,hb=>by
  simp only[fA];exact nk h.2.2 (by omega) (by simpa using hb)
theorem kK{w:World}{sp:Nat}{base:Option Addr}{c:Nat}{rs:aP}(R:gN w sp base c rs):∀k,base.map (·.block)=some k->k≠sp/\k<w.heap.size:=by
 intro k F
 rcases R with⟨rfl,_⟩|⟨b,l,rfl,hb,hB,_⟩
 ·cases F
 ·simp at F;rw[<-F];exact⟨hb,hB.lt⟩
theorem Kept.drewN{w w':World}{sp:Nat}{row:Option Nat}(h:Kept w w' sp row)(q:Nat):Kept w (w'.drewN q) sp row:=⟨h.os,h.tape,h.output,h.size,h.block⟩
theorem Ep(rs:aP):(aL rs).drop 2=aL rs.tail:=by
 cases rs with
 |nil=>rfl
 |cons r t=>rfl
theorem OY{rs:aP}(G:Rg.Sorted rs)(h:∀r∈rs,r.2<18446744073709551616):Small rs:=fun r F=>by
 have h1:=G.le r F;have H:=h r F;omega
theorem Kept.trans{w w1 w2:World}{sp:Nat}{row G:Option Nat}(h:Kept w w1 sp row)(k:Kept w1 w2 sp G)(K:G=row\/∃b,G=some b/\w.heap.size<=b):Kept w w2 sp row:=
 ⟨k.os.trans h.os,k.tape.trans h.tape,k.output.trans h.output,Nat.le_trans h.size k.size,fun j I H F=>by
  have hs:=h.size
  rw[k.block j (by omega) H (fun e=>by
   rcases K with r|⟨b,r,hb⟩
   ·exact F (by rw[e,r])
   ·rw[r]at e;cases e;omega),h.block j I H F]⟩
