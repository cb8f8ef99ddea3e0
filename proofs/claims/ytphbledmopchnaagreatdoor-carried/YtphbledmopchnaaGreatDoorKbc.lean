import Derived.Shelf.SlCmpFuncs.BinarySearchFunc
import Derived.Test.YtphbledmopchnaaGreatDoorKae
import Derived.Deep.RegionWith
import Derived.Deep.Upon
import Derived.LaidEql
import Derived.RowKitTokens
import Derived.Stop.Asserts
open List renaming getD_cons_succ->jK,getD_eq_getElem?_getD->mR,mem_cons->nI,getElem?_eq_getElem->tL,range->tT,getD_cons_zero->uj,countP_cons->Bu,getElem_mem->CK,getElem?_cons_succ->DJ,drop_succ_cons->Gl,getElem?_take->Kt
open Nat renaming le_refl->wz,succ_pos->Lb
set_option maxHeartbeats 4000000
set_option maxRecDepth 1000000
namespace Go.Proofs.YtphbledmopchnaaGreatDoor.St.Rg
def Sorted:List (Nat×Nat)->Prop
 |[]=>True
 |r::t=>r.1<=r.2/\(∀x∈t,r.2+1<x.1)/\Sorted t
def ins:Nat->Nat->List (Nat×Nat)->List (Nat×Nat)
 |lo,hi,[]=>[(lo,hi)]
 |lo,hi,r::t=>if r.2+1<lo then r::ins lo hi t else if hi+1<r.1 then(lo,hi)::r::t else ins (min lo r.1) (max hi r.2) t
def gB(lo:Nat)(rs:List (Nat×Nat)):Nat:=rs.countP (fun r=>decide (r.2+1<lo))
def end'(hi:Nat)(rs:List (Nat×Nat)):Nat:=rs.countP (fun r=>decide (r.1<=hi+1))
def yS(lo hi:Nat)(rs:List (Nat×Nat)):Nat×Nat:=
 if gB lo rs<end' hi rs then(min lo (rs.getD (gB lo rs) (0,0)).1,max hi (rs.getD (end' hi rs-1) (0,0)).2)else(lo,hi)
theorem Sorted.le{rs:List (Nat×Nat)}(h:Sorted rs):∀r∈rs,r.1<=r.2:=by
 induction rs with
 |nil=>intro r F;cases F
 |cons a t G=>
  intro r F
  rcases nI.1 F with rfl|F
  ·exact h.1
  ·exact G h.2.2 r F
theorem nK{α:Type}(p:α->Bool)(l:List α)(h:∀x∈l,p x=false):l.countP p=0:=by
 rw[List.countP_eq_zero];intro x F;simp[h x F]
theorem qM{lo hi:Nat}(h:lo<=hi){rs:List (Nat×Nat)}(hs:Sorted rs):gB lo rs<=end' hi rs:=by
 unfold gB end';apply List.countP_mono_left;intro r F h1;have:=hs.le r F;simp at h1 ⊢;omega
theorem vI(hi:Nat)(rs:List (Nat×Nat)):end' hi rs<=rs.length:=List.countP_le_length
theorem AU:∀(rs:List (Nat×Nat)) (lo hi:Nat),lo<=hi->Sorted rs->ins lo hi rs=rs.take (gB lo rs)++yS lo hi rs::rs.drop (end' hi rs)
 |[],lo,hi,_,_=>by simp[ins,yS,gB,end']
 |r::t,lo,hi,hlh,hs=>by
  obtain⟨h1,I,U⟩:=hs;rw[ins]
  by_cases c1:r.2+1<lo
  ·have H:gB lo (r::t)=gB lo t+1:=by simp[gB,c1]
   have G:end' hi (r::t)=end' hi t+1:=by
    have:r.1<=hi+1:=by omega
    simp[end',this]
   rw[if_pos c1,AU t lo hi hlh U,H,G];simp only[List.take_succ_cons,Gl,List.cons_append,yS,H,G]
   by_cases c:gB lo t<end' hi t
   ·obtain⟨e0,Z⟩:∃e0,end' hi t=e0+1:=⟨end' hi t-1,by omega⟩;simp[Z]
   ·have c':¬(gB lo t+1<end' hi t+1):=by omega
    rw[if_neg c,if_neg c']
  ·have hz:∀x∈t,decide (x.2+1<lo)=false:=fun x F=>by
    have X:=I x F;have a2:=U.le x F;simp;omega
   have H:gB lo (r::t)=0:=by
    simp only[gB,Bu,nK _ t hz];simp[c1]
   rw[if_neg c1]
   by_cases c2:hi+1<r.1
   ·have h5:∀x∈t,decide (x.1<=hi+1)=false:=fun x F=>by
     have X:=I x F;simp;omega
    have G:end' hi (r::t)=0:=by
     have:¬r.1<=hi+1:=by omega
     simp only[end',Bu,nK _ t h5];simp[this]
    rw[if_pos c2];simp[yS,H,G]
   ·have ec:∀x∈t,decide (x.1<=hi+1)=decide (x.1<=max hi r.2+1):=fun x F=>by
     have X:=I x F;rw[decide_eq_decide];omega
    have G:end' hi (r::t)=end' (max hi r.2) t+1:=by
     have:r.1<=hi+1:=by omega
     simp only[end',Bu,this,decide_true,if_true];rw[List.countP_congr (fun x F=>by rw[ec x F])]
    have O:gB (min lo r.1) t=0:=nK _ t (fun x F=>by
     have X:=I x F;have a2:=U.le x F
     simp;omega)
    rw[if_neg c2,AU t _ _ (by omega) U,H,G,O];simp only[List.take_zero,List.nil_append,Gl]
    congr 1
    simp only[yS,H,G,O];rw[if_pos (Lb _)];generalize he:end' (max hi r.2) t=e;have h0:e<=t.length:=he▸vI _ t
    cases e with
    |zero=>simp
    |succ e=>
     have h4:t.getD 0 (0,0)∈t:=by
      cases t with
      |nil=>simp at h0
      |cons a b=>simp
     have V:t.getD e (0,0)∈t:=by
      rw[mR,tL (by omega)];exact CK _
     have a0:=I _ h4;have X:=I _ V;have a2:=U.le _ V;simp only[Lb,if_true,Nat.add_sub_cancel,jK,uj,Prod.mk.injEq];constructor<;>omega
theorem AV:∀(rs:List (Nat×Nat)) (lo hi b:Nat),lo<=hi->Sorted rs->b<lo->(∀x∈rs,b<x.1)->∀x∈ins lo hi rs,b<x.1
 |[],lo,hi,b,_,_,hb,_=>by intro x F;simp[ins]at F;subst F;exact hb
 |r::t,lo,hi,b,hlh,hs,hb,ha=>by
  obtain⟨h1,O,I⟩:=hs;have H:=ha r (by simp)
  have G:∀x∈t,b<x.1:=fun x F=>ha x (by simp[F])
  rw[ins]
  by_cases c1:r.2+1<lo
  ·rw[if_pos c1];intro x F
   rcases nI.1 F with rfl|F
   ·exact H
   ·exact AV t lo hi b hlh I hb G x F
  ·rw[if_neg c1]
   by_cases c2:hi+1<r.1
   ·rw[if_pos c2];intro x F
    rcases nI.1 F with rfl|F
    ·exact hb
    ·exact ha x F
   ·rw[if_neg c2];exact AV t _ _ b (by omega) I (by omega) G
theorem jO:∀(rs:List (Nat×Nat)) (lo hi:Nat),lo<=hi->Sorted rs->Sorted (ins lo hi rs)
 |[],lo,hi,h,_=>⟨h,by simp,trivial⟩
 |r::t,lo,hi,hlh,hs=>by
  obtain⟨h1,G,F⟩:=hs;rw[ins]
  by_cases c1:r.2+1<lo
  ·rw[if_pos c1];exact⟨h1,AV t lo hi _ hlh F c1 G,jO t lo hi hlh F⟩
  ·rw[if_neg c1]
   by_cases c2:hi+1<r.1
   ·rw[if_pos c2];refine⟨hlh,?_,h1,G,F⟩;intro x H
    rcases nI.1 H with rfl|H
    ·exact c2
    ·have:=G x H;show hi+1<x.1;omega
   ·rw[if_neg c2];exact jO t _ _ (by omega) F
theorem sP:∀(rs:List (Nat×Nat)) (lo hi B:Nat),hi<=B->(∀x∈rs,x.2<=B)->∀x∈ins lo hi rs,x.2<=B
 |[],lo,hi,B,h,_=>by intro x F;simp[ins]at F;subst F;exact h
 |r::t,lo,hi,B,h,ha=>by
  have H:=ha r (by simp)
  have G:∀x∈t,x.2<=B:=fun x F=>ha x (by simp[F])
  rw[ins]
  by_cases c1:r.2+1<lo
  ·rw[if_pos c1];intro x F
   rcases nI.1 F with rfl|F
   ·exact H
   ·exact sP t lo hi B h G x F
  ·rw[if_neg c1]
   by_cases c2:hi+1<r.1
   ·rw[if_pos c2];intro x F
    rcases nI.1 F with rfl|F
    ·exact h
    ·exact ha x F
   ·rw[if_neg c2];exact sP t _ _ B (by omega) G
theorem lW:∀(rs:List (Nat×Nat)) (lo hi:Nat),(ins lo hi rs).length<=rs.length+1
 |[],lo,hi=>by simp[ins]
 |r::t,lo,hi=>by
  rw[ins]
  by_cases c1:r.2+1<lo
  ·rw[if_pos c1];have:=lW t lo hi;simp;omega
  ·rw[if_neg c1]
   by_cases c2:hi+1<r.1
   ·rw[if_pos c2];simp
   ·rw[if_neg c2];have:=lW t (min lo r.1) (max hi r.2);simp;omega
def has(n:Nat)(rs:List (Nat×Nat)):Bool:=
 let i:=rs.countP (fun r=>decide (r.2<n))
 decide (i<rs.length)&&decide ((rs.getD i (0,0)).1<=n)
def add(most:Nat)(fl:Nat)(rs:List (Nat×Nat))(lo hi:Nat):Nat×List (Nat×Nat):=
 if hi<max lo fl then(fl,rs)
 else if most<(ins (max lo fl) hi rs).length then(((ins (max lo fl) hi rs).getD 0 (0,0)).2+1,(ins (max lo fl) hi rs).tail)
 else(fl,ins (max lo fl) hi rs)
theorem Sorted.tail{l:List (Nat×Nat)}(h:Sorted l):Sorted l.tail:=by
 cases l with
 |nil=>exact h
 |cons a t=>exact h.2.2
structure Ok (B:Nat) (k:Nat) (fl:Nat) (rs:List (Nat×Nat)):Prop where
 sorted:Sorted rs
 hi:∀r∈rs,r.2<B
 len:rs.length<=k
 fl:fl<B
theorem RL{l:List (Nat×Nat)}(h:Sorted l){B:Nat}(hb:∀r∈l,r.2<B)(F:1<l.length):(l.getD 0 (0,0)).2+1<B:=by
 match l,F with
 |a::b::t,_=>
  have h1:=h.2.1 b (by simp);have G:=h.2.2.1;have H:=hb b (by simp);simp only[uj];omega
def down(rs:List (Nat×Nat))(left:Nat):List (Nat×Nat):=if left=0 then rs.reverse else rs.reverse.take left
end Go.Proofs.YtphbledmopchnaaGreatDoor.St.Rg
namespace Go.Proofs.YtphbledmopchnaaGreatDoor.St
open Go.RowKit Go.Lib Go.Shelf Tryz
theorem pO(g:Nat)(cb:Array Value)(n:Nat)(p:Nat->Bool)(w:World)(eg:∀args w,(callFunc g args).run prog w=.ok (.enter g args) w)(hsz:n<4611686018427387904)(hf:∀(m:Nat) (i:Nat),i<n->Calls prog g (#[.int .i64 i]++cb) (w.drewN m) fun e w'=>e=.returned (.bool (p i))/\∃q,w'=(w.drewN m).drewN q)(F:∀a b,a<=b->b<n->p a=true->p b=true):
  Calls prog 171 #[.int .i64 n,.func (.func g) #[] cb] w fun e w'=>e=.returned (.int .i64 ((tT n).countP (fun i=> !p i):Nat))/\∃q,w'=w.drewN q:=by
 have HF:Aside _:=hf;have M:Aside _:=F;clear hf F;generalize G:(tT n).countP (fun i=> !p i)=cnt;have CN:Aside ((tT n).countP (fun i=> !p i)=cnt):=G;clear G;go_enter func171,ntmps171;go_wp2
 go_loopg [5,6] n (fun kx s5 s6 wr=>∃(lo hi q:Nat),s5=.int .i64 lo/\s6=.int .i64 hi/\lo<=hi/\hi<=n/\hi-lo<=kx/\wr=w.drewN q/\
  Aside ((∀t,t<lo->p t=false)/\(∀t,hi<=t->t<n->p t=true)))
 case atStart=>exact⟨0,n,0,rfl,rfl,Nat.zero_le _,wz _,by omega,rfl,(⟨fun t ht=>absurd ht (Nat.not_lt_zero _),fun t h1 h2=>by omega⟩:(∀t,t<0->p t=false)/\(∀t,n<=t->t<n->p t=true))⟩
 case round=>
  obtain⟨lo,hi,q,rfl,rfl,h0,O,hg,rfl,I⟩:=hrel
  by_cases h5:lo<hi
  ·have U:=HF.out q ((lo+hi) / 2) (by omega);rw[show(((lo+hi) / 2:Nat):Int)=((lo:Int)+(hi:Int)) / 2 by omega]at U;cases hp:p ((lo+hi) / 2)<;>rw[hp]at U
   ·have V:Aside (p ((lo+hi) / 2)=false):=hp;clear hp
    go_wp2_with (go_at_fn g;refine U.mono ?_;rintro e w' ⟨rfl,nq,rfl⟩)
    go_roundg (hi-((lo+hi) / 2+1))
    case measure=>omega
    case rel=>
     have X:Aside ((∀t,t<(lo+hi) / 2+1->p t=false)/\(∀t,hi<=t->t<n->p t=true)):=⟨fun t ht=>(by
      cases h:p t with
      |false=>rfl
      |true=>have:=M.out t ((lo+hi) / 2) (by omega) (by omega) h;rw[V.out]at this;cases this),I.out.2⟩
     exact⟨(lo+hi) / 2+1,hi,q+nq,by rw[show((lo:Int)+(hi:Int)) / 2+1=(((lo+hi) / 2+1:Nat):Int) by omega],rfl,by omega,O,wz _,rfl,X⟩
   ·have V:Aside (p ((lo+hi) / 2)=true):=hp;clear hp
    go_wp2_with (go_at_fn g;refine U.mono ?_;rintro e w' ⟨rfl,nq,rfl⟩)
    go_roundg ((lo+hi) / 2-lo)
    case measure=>omega
    case rel=>
     have X:Aside ((∀t,t<lo->p t=false)/\(∀t,(lo+hi) / 2<=t->t<n->p t=true)):=⟨I.out.1,fun t ht Z=>M.out ((lo+hi) / 2) t ht Z V.out⟩;exact⟨lo,(lo+hi) / 2,q+nq,rfl,by rw[show((lo:Int)+(hi:Int)) / 2=(((lo+hi) / 2:Nat):Int) by omega],by omega,by omega,wz _,rfl,X⟩
  ·obtain rfl:hi=lo:=by omega
   have H:cnt=hi:=by
    rw[<-CN.out]
    have hr:∀t,t<n->(tT n)[t]! =t:=fun t ht=>by rw[getElem!_pos _ t (by simpa using ht)];simp
    refine Lib.countP_boundary _ (tT n) hi (by simpa using O) (fun t ht=>?_) (fun t h3 h4=>?_)
    ·rw[hr t (by omega),I.out.1 t ht];rfl
    ·rw[hr t (by simpa using h4),I.out.2 t h3 (by simpa using h4)];rfl
   subst H;go_wp2;go_ret;exact⟨rfl,q,rfl⟩
end Go.Proofs.YtphbledmopchnaaGreatDoor.St
namespace Go.Proofs.YtphbledmopchnaaGreatDoor.St
open Go.RowKit Go.Lib Tryz
theorem aP{a b:Bool}(h:a=b):Ending.returned (.bool a)=.returned (.bool b):=by rw[h]
theorem iA{k:IntKind}{a b:Int}(h:a=b):Ending.returned (.int k a)=.returned (.int k b):=by rw[h]
theorem zG(a b:Nat)(F:a<18446744073709551616)(hb:b<18446744073709551616)(w:World):
  Calls prog 222 #[.int .u64 a,.int .u64 b] w fun e w'=>e=.returned (.bool (decide (a+1<b)))/\w'=w:=by
 by_cases h:a<b
 ·have h1:decide ((a:Int)<(b:Int))=true:=by simp;omega
  go_enter func222,ntmps222;go_wp2;go_ret;exact⟨aP (by rw[decide_eq_decide];omega),rfl⟩
 ·have h1:decide ((a:Int)<(b:Int))=false:=by simp;omega
  go_enter func222,ntmps222;go_wp2;go_ret;exact⟨aP (by symm;rw[decide_eq_false_iff_not];omega),rfl⟩
end Go.Proofs.YtphbledmopchnaaGreatDoor.St
namespace Go.Proofs.YtphbledmopchnaaGreatDoor.St
open Go.RowKit Go.Lib Mm Tryz
def aC:List (Nat×Nat)->List Value
 |[]=>[]
 |r::t=>.int .u64 r.1::.int .u64 r.2::aC t
theorem iY:∀rs,(aC rs).length=2*rs.length
 |[]=>rfl
 |r::t=>by simp[aC,iY t];omega
theorem oo:∀(rs:List (Nat×Nat)) (i:Nat),i<rs.length->(aC rs)[i*2]?=some (.int .u64 ((rs.getD i (0,0)).1:Int))
 |[],i,h=>by simp at h
 |r::t,0,_=>by simp[aC]
 |r::t,i+1,h=>by
  rw[show(i+1)*2=i*2+1+1 by omega];simp only[aC,DJ,jK];exact oo t i (by simpa using h)
theorem oq:∀(rs:List (Nat×Nat)) (i:Nat),i<rs.length->(aC rs)[i*2+1]?=some (.int .u64 ((rs.getD i (0,0)).2:Int))
 |[],i,h=>by simp at h
 |r::t,0,_=>by simp[aC]
 |r::t,i+1,h=>by
  rw[show(i+1)*2+1=i*2+1+1+1 by omega];simp only[aC,DJ,jK];exact oq t i (by simpa using h)
theorem f_:∀a b,aC (a++b)=aC a++aC b
 |[],_=>rfl
 |r::t,b=>by simp[aC,f_ t b]
theorem uJ:∀(rs:List (Nat×Nat)) (i:Nat),(aC rs).take (2*i)=aC (rs.take i)
 |[],i=>by simp[aC]
 |r::t,0=>by simp[aC]
 |r::t,i+1=>by rw[show 2*(i+1)=2*i+1+1 by omega];simp[aC,uJ t i]
theorem uK:∀(rs:List (Nat×Nat)) (i:Nat),(aC rs).drop (2*i)=aC (rs.drop i)
 |[],i=>by simp[aC]
 |r::t,0=>by simp[aC]
 |r::t,i+1=>by rw[show 2*(i+1)=2*i+1+1 by omega];simp[aC,uK t i]
theorem iR:∀(rs:List (Nat×Nat)),∀v∈aC rs,v.oneCell'=true
 |[],v,h=>by simp[aC]at h
 |r::t,v,h=>by
  simp[aC]at h
  rcases h with rfl|rfl|h
  ·rfl
  ·rfl
  ·exact iR t v h
theorem iE(rs:List (Nat×Nat))(f:Nat×Nat->Bool):(tT rs.length).countP (fun i=>f (rs.getD i (0,0)))=rs.countP f:=by
 have h:rs=(tT rs.length).map (fun i=>rs.getD i (0,0)):=by
  apply List.ext_getElem
  ·simp
  ·intro i h1 F;simp[h1]
 conv=>rhs;rw[h]
 rw[List.countP_map];rfl
def fP(w:World)(sp:Nat)(base:Option Addr)(c:Nat)(rs:List (Nat×Nat)):Prop:=
 base=none/\rs=[]/\c=0\/∃b l,base=some ⟨b,0,none⟩/\b≠sp/\ak w b 170 l/\l.length=2*c/\l.take (2*rs.length)=aC rs/\∀v∈l,v.oneCell'=true
structure Kept (w w':World) (sp:Nat) (row:Option Nat):Prop where
 os:w'.os=w.os
 tape:w'.tape=w.tape
 output:w'.output=w.output
 size:w.heap.size<=w'.heap.size
 block:∀k,k<w.heap.size->k≠sp->some k≠row->w'.heap[k]?=w.heap[k]?
theorem fP.ku{w:World}{sp:Nat}{base:Option Addr}{c:Nat}{rs:List (Nat×Nat)}(h:fP w sp base c rs){i:Nat}(hi:i<rs.length):
  ∃b,base=some ⟨b,0,none⟩/\b≠sp/\b<w.heap.size/\w.cell? ⟨b,i*2+1,none⟩=some (.int .u64 ((rs.getD i (0,0)).2:Int))/\w.cell? ⟨b,i*2,none⟩=some (.int .u64 ((rs.getD i (0,0)).1:Int)):=by
 rcases h with⟨_,rfl,_⟩|⟨b,l,h1,h2,h3,h4,h5,_⟩
 ·simp at hi
 ·refine⟨b,h1,h2,h3.lt,?_,?_⟩
  ·rw[h3.cell,<-oq rs i hi,<-h5,Kt,if_pos (by omega)]
  ·rw[h3.cell,<-oo rs i hi,<-h5,Kt,if_pos (by omega)]
theorem fP.of_heap{w w':World}{sp:Nat}{base:Option Addr}{c:Nat}{rs:List (Nat×Nat)}(h:fP w sp base c rs)(e:∀b,base=some ⟨b,0,none⟩->w'.heap[b]?=w.heap[b]?):fP w' sp base c rs:=by
 rcases h with⟨h1,F,G⟩|⟨b,l,h1,F,G,h4⟩
 ·exact .inl ⟨h1,F,G⟩
 ·exact .inr ⟨b,l,h1,F,G.of_heap (e b h1),h4⟩
end Go.Proofs.YtphbledmopchnaaGreatDoor.St
namespace Go.Proofs.YtphbledmopchnaaGreatDoor.Mm
open Go.RowKit Go.Lib
theorem ak.FN{w:World}{b:Nat}{t:TypeId}{l:List Value}(h:ak w b t l)(o:Nat)(v:Value):ak (w.setCell ⟨b,o,none⟩ v) b t (l.set o v):=by
 rw[setCell_eq_setRow w b o l.toArray t (0,0) v h];have:=setRow_heap w b l.toArray (l.toArray.setIfInBounds o v) t (0,0) h;unfold ak;rw[this];simp
theorem ak.iF{w:World}{b:Nat}{t:TypeId}{l:List Value}(h:ak w b t l)(a:Addr)(v:Value)(F:b≠a.block):ak (w.setCell a v) b t l:=
 h.of_heap (Below.heap_setCell w a v b F)
end Go.Proofs.YtphbledmopchnaaGreatDoor.Mm
namespace Go.Proofs.YtphbledmopchnaaGreatDoor.St
open Go.RowKit Go.Lib Mm

theorem hid{p:Prop}(h:p):Hid p:=h
def Small(rs:List (Nat×Nat)):Prop:=∀r∈rs,r.1<18446744073709551616/\r.2<18446744073709551616
theorem Small.get{rs:List (Nat×Nat)}(h:Small rs){i:Nat}(hi:i<rs.length):(rs.getD i (0,0)).1<18446744073709551616/\(rs.getD i (0,0)).2<18446744073709551616:=by
 apply h;rw[mR,tL hi];exact CK _
theorem lY:∀{rs:List (Nat×Nat)},Rg.Sorted rs->∀{a b:Nat},a<=b->b<rs.length->(rs.getD a (0,0)).1<=(rs.getD b (0,0)).1/\(rs.getD a (0,0)).2<=(rs.getD b (0,0)).2
 |[],_,a,b,_,hb=>by simp at hb
 |r::t,h,0,0,_,_=>⟨wz _,wz _⟩
 |r::t,h,0,b+1,_,hb=>by
  have F:t.getD b (0,0)∈t:=by
   rw[mR,tL (by simpa using hb)];exact CK _
  have h1:=h.2.1 _ F;have G:=h.2.2.le _ F;have H:=h.1;simp only[uj,jK];omega
 |r::t,h,a+1,b+1,hab,hb=>by
  simp only[jK];exact lY h.2.2 (by omega) (by simpa using hb)
theorem jP{w:World}{sp:Nat}{base:Option Addr}{c:Nat}{rs:List (Nat×Nat)}(R:fP w sp base c rs):∀k,base.map (·.block)=some k->k≠sp/\k<w.heap.size:=by
 intro k F
 rcases R with⟨rfl,_⟩|⟨b,l,rfl,hb,hB,_⟩
 ·cases F
 ·simp at F;rw[<-F];exact⟨hb,hB.lt⟩
theorem Kept.drewN{w w':World}{sp:Nat}{row:Option Nat}(h:Kept w w' sp row)(q:Nat):Kept w (w'.drewN q) sp row:=⟨h.os,h.tape,h.output,h.size,h.block⟩
theorem Dp(rs:List (Nat×Nat)):(aC rs).drop 2=aC rs.tail:=by
 cases rs with
 |nil=>rfl
 |cons r t=>rfl
theorem Ny{rs:List (Nat×Nat)}(G:Rg.Sorted rs)(h:∀r∈rs,r.2<18446744073709551616):Small rs:=fun r F=>by
 have h1:=G.le r F;have H:=h r F;omega
theorem Kept.trans{w w1 I:World}{sp:Nat}{row G:Option Nat}(h:Kept w w1 sp row)(k:Kept w1 I sp G)(U:G=row\/∃b,G=some b/\w.heap.size<=b):Kept w I sp row:=
 ⟨k.os.trans h.os,k.tape.trans h.tape,k.output.trans h.output,Nat.le_trans h.size k.size,fun j O H F=>by
  have hs:=h.size
  rw[k.block j (by omega) H (fun e=>by
   rcases U with r|⟨b,r,hb⟩
   ·exact F (by rw[e,r])
   ·rw[r]at e;cases e;omega),h.block j O H F]⟩
end Go.Proofs.YtphbledmopchnaaGreatDoor.St
