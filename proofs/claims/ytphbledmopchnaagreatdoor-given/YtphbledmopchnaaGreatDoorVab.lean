import Derived.Test.YtphbledmopchnaaGreatDoorVaa
import Derived.Shelf.SlCmpFuncs.BinarySearchFunc
import Derived.Deep.RegionLaw
import Derived.Shelf.Spec.SlicesInsert
import Derived.Deep.RegionWith
open Go.Builtin renaming zeroCells->eB,clear_->fA,copy_->l9
open Go.Ending renaming returned->mE
open List renaming range->fB,length_append->fE,mem_of_mem_take->mI,length_take->mK
open Go.Value renaming agg->eT
set_option maxHeartbeats 4000000
set_option maxRecDepth 1000000
open Go renaming World->Wq,Calls->WA,Addr->XK
set_option linter.all false
namespace Go.Proofs.YtphbledmopchnaaGreatDoor.St.Rg
variable {rs:bY}
def gP:bY->Prop
 |[]=>True
 |r::t=>r.1<=r.2/\(∀x∈t,r.2+1<x.1)/\gP t
def Mem(rs:bY)(x:Nat):Prop:=∃r∈rs,r.1<=x/\x<=r.2
def ins:Nat->Nat->bY->bY
 |lo,hi,[]=>[(lo,hi)]
 |lo,hi,r::t=>if r.2+1<lo then r::ins lo hi t else if hi+1<r.1 then(lo,hi)::r::t else ins (min lo r.1) (max hi r.2) t
def l7(a:Nat)(rs:bY):Nat:=rs.countP (fun r=>decide (r.2+1<a))
def jU(a:Nat)(rs:bY):Nat:=rs.countP (fun r=>decide (r.1<=a+1))
def Lh(b a:Nat)(rs:bY):Nat×Nat:=
 if l7 b rs<jU a rs then(min b (rs.getD (l7 b rs) (0,0)).1,max a (rs.getD (jU a rs-1) (0,0)).2)else(b,a)
def gP.le(h:gP rs):∀r∈rs,r.1<=r.2:=by
 induction rs with
 |nil=>intro r b;cases b
 |cons a t c=>
  intro r b;rcases nQ.1 b with rfl|b;.exact h.1
  .exact c h.2.2 r b
theorem sG{α:Type}(p)(l:List α)(h:∀x∈l,p x=false):l.countP p=0:=by grind
theorem AY{b a}(h:b<=a)(d:gP rs):l7 b rs<=jU a rs:=by unfold l7 jU;apply List.countP_mono_left;intro r c e;have:=d.le r c;grind
theorem Ez(a rs):jU a rs<=rs.length:=List.countP_le_length
theorem Li:∀(c) (b a),b<=a->gP c->ins b a c=c.take (l7 b c)++Lh b a c::c.drop (jU a c)
 |[],b,a,_,_=>by simp[ins,Lh,l7,jU]
 |r::t,b,a,hlh,hs=>by
  obtain⟨p,k,i⟩:=hs;rw[ins];by_cases h:r.2+1<b
  .have e:l7 b (r::t)=l7 b t+1:=by simp[l7,h]
   have d:jU a (r::t)=jU a t+1:=by grind [jU]
   rw[dN h,Li t b a hlh i,e,d];grind [Lh,l7]
  .have q:∀x∈t,decide (x.2+1<b)=false:=fun x g=>by
    have m:=k x g;have n:=i.le x g;simp;omega
   have e:l7 b (r::t)=0:=by grind [l7,sG]
   rw[b_ h];by_cases j:a+1<r.1
   .have l:∀x∈t,decide (x.1<=a+1)=false:=fun x g=>by
     grind
    have d:jU a (r::t)=0:=by grind [jU,sG]
    rw[dN j];simp[Lh,e,d]
   .have o:∀x∈t,decide (x.1<=a+1)=decide (x.1<=max a r.2+1):=fun x g=>by
     grind
    have d:jU a (r::t)=jU (max a r.2) t+1:=by have:r.1<=a+1:=aj;simp only[jU,List.countP_cons,this,decide_true,if_true];grind [List.countP_congr]
    have f:l7 (min b r.1) t=0:=sG _ t (fun x g=>by grind);rw[b_ j,Li t _ _ aj i,e,d,f];simp only[Dz,pJ,List.drop_succ_cons];congr 1
    simp only[Lh,e,d,f];rw[dN (Nat.succ_pos _)];grind [jU,Ez,List.getElem?_eq_getElem,List.getElem_mem]
theorem EA:∀(e) (c b x),c<=b->gP e->(Mem (ins c b e) x↔(c<=x/\x<=b)\/Mem e x)
 |[],c,b,x,_,_=>by simp[ins,Mem]
 |r::t,c,b,x,hlh,hs=>by
  obtain⟨i,j,g⟩:=hs;have d:∀l:bY,∀a:Nat×Nat,Mem (a::l) x↔(a.1<=x/\x<=a.2)\/Mem l x:=fun l a=>by simp[Mem]
  rw[ins];by_cases f:r.2+1<c;.rw[dN f,d,EA t c b x hlh g,d];grind
  .rw[b_ f];by_cases h:b+1<r.1;.grind
   .rw[b_ h,EA t _ _ x aj g,d];grind
theorem Ll:∀(g) (a c b),a<=c->gP g->b<a->(∀x∈g,b<x.1)->∀x∈ins a c g,b<x.1
 |[],a,c,b,_,_,hb,_=>by grind [ins]
 |r::t,a,c,b,hlh,hs,hb,ha=>by
  obtain⟨k,l,i⟩:=hs;have f:=ha r aR;have d:∀x∈t,b<x.1:=fun x e=>ha x (by simp[e]);rw[ins];by_cases h:r.2+1<a
  .rw[dN h];intro x e;rcases nQ.1 e with rfl|e;.exact f
   .exact Ll t a c b hlh i hb d x e
  .rw[b_ h];by_cases j:c+1<r.1;.grind
   .rw[b_ j];exact Ll t _ _ b aj i aj d
theorem qZ:∀(i) (b a),b<=a->gP i->gP (ins b a i)
 |[],b,a,h,_=>⟨h,aR,trivial⟩
 |r::t,b,a,hlh,hs=>by
  obtain⟨f,g,c⟩:=hs;rw[ins];by_cases d:r.2+1<b;.rw[dN d];exact⟨f,Ll t b a _ hlh c d g,qZ t b a hlh c⟩
  .rw[b_ d];by_cases e:a+1<r.1;.rw[dN e];refine⟨hlh,?_,f,g,c⟩;grind
   .rw[b_ e];exact qZ t _ _ aj c
theorem xg:∀(g) (d a B),a<=B->(∀x∈g,x.2<=B)->∀x∈ins d a g,x.2<=B
 |[],d,a,B,h,_=>by grind [ins]
 |r::t,d,a,B,h,ha=>by
  have e:=ha r aR;have b:∀x∈t,x.2<=B:=fun x c=>ha x (by simp[c]);rw[ins];by_cases f:r.2+1<d
  .rw[dN f];intro x c;rcases nQ.1 c with rfl|c;.exact e
   .exact xg t d a B h b x c
  .rw[b_ f];by_cases i:a+1<r.1;.grind
   .rw[b_ i];exact xg t _ _ B aj b
theorem uP:∀(d) (b a),(ins b a d).length<=d.length+1
 |[],b,a=>by simp[ins]
 |r::t,b,a=>by
  rw[ins];by_cases c:r.2+1<b;.rw[dN c];have:=uP t b a;simp;omega
  .rw[b_ c];by_cases e:a+1<r.1;.grind
   .rw[b_ e];have:=uP t (min b r.1) (max a r.2);simp;omega
def has(n:Nat)(rs:bY):Bool:=
 let i:=rs.countP (fun r=>decide (r.2<n))
 decide (i<rs.length)&&decide ((rs.getD i (0,0)).1<=n)
theorem Lm:∀(a) (n),gP a->(has n a=true↔Mem a n)
 |[],n,_=>by simp[has,Mem]
 |r::t,n,hs=>by
  obtain⟨k,f,b⟩:=hs;have h:=Lm t n b;by_cases c:r.2<n
  .have e:has n (r::t)=has n t:=by simp[has,c]
   rw[e,h];simp only[Mem,nQ,exists_eq_or_imp];grind
  .have g:∀x∈t,decide (x.2<n)=false:=fun x d=>by
    have i:=f x d;have j:=b.le x d;simp;omega
   have e:has n (r::t)=decide (r.1<=n):=by simp[has,c,sG _ t g]
   rw[e,decide_eq_true_iff];simp only[Mem,nQ,exists_eq_or_imp];grind
def add(d:Nat)(a:Nat)(rs:bY)(c b:Nat):Nat×bY:=
 if b<max c a then(a,rs)
 else if d<(ins (max c a) b rs).length then(((ins (max c a) b rs).getD 0 (0,0)).2+1,(ins (max c a) b rs).tail)
 else(a,ins (max c a) b rs)
def gP.tail{l}(h:gP l):gP l.tail:=by
 cases l with
 |nil=>exact h
 |cons a t=>exact h.2.2
structure Ok (B:Nat) (k:Nat) (fl:Nat) (rs:bY):Prop where
 Q5:gP rs
 hi:∀r∈rs,r.2<B
 len:rs.length<=k
 fl:fl<B
def qf5{l}(h:gP l){B}(d:∀r∈l,r.2<B)(c:1<l.length):(l.getD 0 (0,0)).2+1<B:=by
 match l,c with
 |a::b::t,_=>have e:=h.2.1 b aR;have f:=h.2.2.1;have g:=d b aR;simp only[E9];omega
def down(rs:bY)(a:Nat):bY:=if a=0 then rs.reverse else rs.reverse.take a
end Go.Proofs.YtphbledmopchnaaGreatDoor.St.Rg
namespace Go.Proofs.YtphbledmopchnaaGreatDoor.St
open Go.RowKit Go.Lib Go.Shelf Tryz
theorem zN(g:Nat)(cb n)(p:Nat->Bool)(w)(K:∀args w,(callFunc g args).run prog w=.ok (.enter g args) w)(Q:n<4611686018427387904)(z:∀(m) (i:Nat),i<n->WA prog g (#[iZ i]++cb) (w.drewN m) fun e r=>e=.returned (.bool (p i))/\∃q,r=(w.drewN m).drewN q)(f:∀a b,a<=b->b<n->p a=true->p b=true):bN 171 #[iZ n,.func (.func g) #[] cb] w (iZ ((fB n).countP (fun i=> !p i):Nat)) fun r=>∃q,r=w.drewN q:=by
 have C:Aside _:=z;have M:Aside _:=f;clear z f;generalize j:(fB n).countP (fun i=> !p i)=kM;have B:Aside ((fB n).countP (fun i=> !p i)=kM):=j;clear j;go_enter func171,ntmps171;go_wp2;go_loopg [5,6] n (fun G H J wr=>∃(d c q:Nat),H=(iZ d)/\J=(iZ c)/\d<=c/\c<=n/\c-d<=G/\wr=w.drewN q/\Aside ((∀t,t<d->p t=false)/\(∀t,c<=t->t<n->p t=true)));case atStart=>exact⟨0,n,0,rfl,rfl,eG _,aI _,aj,rfl,(⟨fun t k=>absurd k (jZ _),fun t L N=>aj⟩:(∀t,t<0->p t=false)/\(∀t,n<=t->t<n->p t=true))⟩
 case round=>
  obtain⟨d,c,q,rfl,rfl,E,x,P,rfl,I⟩:=hrel;by_cases F:d<c
  .have s:=C.out q ((d+c) / 2) aj;rw[show(((d+c) / 2:Nat):Int)=((d:Int)+(c:Int)) / 2 by omega]at s;cases o:p ((d+c) / 2)<;>rw[o]at s
   .have u:Aside (p ((d+c) / 2)=false):=o;clear o;go_wp2_with (go_at_fn g;refine bK s ?_;rintro r ⟨nq,rfl⟩);go_roundg (c-((d+c) / 2+1));case measure=>omega
    case rel=>
     have v:Aside ((∀t,t<(d+c) / 2+1->p t=false)/\(∀t,c<=t->t<n->p t=true)):=⟨fun t k=>(by
      cases h:p t with
      |false=>rfl
      |true=>have:=M.out t ((d+c) / 2) aj aj h;rw[u.out]at this;cases this),I.out.2⟩
     exact⟨(d+c) / 2+1,c,q+nq,by grind,rfl,aj,x,aI _,rfl,v⟩
   .have u:Aside (p ((d+c) / 2)=true):=o;clear o;go_wp2_with (go_at_fn g;refine bK s ?_;rintro r ⟨nq,rfl⟩);go_roundg ((d+c) / 2-d);case measure=>omega
    case rel=>have v:Aside ((∀t,t<d->p t=false)/\(∀t,(d+c) / 2<=t->t<n->p t=true)):=⟨I.out.1,fun t k y=>M.out ((d+c) / 2) t k y u.out⟩;exact⟨d,(d+c) / 2,q+nq,rfl,by grind,aj,aj,aI _,rfl,v⟩
  .obtain rfl:c=d:=aj;have l:kM=c:=by
    rw[<-B.out];have A:∀t,t<n->(fB n)[t]! =t:=fun t k=>by grind
    refine Lib.countP_boundary _ (fB n) c (by grind) (fun t k=>?_) (fun t D O=>?_);.rw[A t aj,I.out.1 t k];rfl
    .rw[A t (by grind),I.out.2 t D (by grind)];rfl
   subst l;go_wp2;go_ret;exact⟨rfl,q,rfl⟩
end Go.Proofs.YtphbledmopchnaaGreatDoor.St
namespace Go.Proofs.YtphbledmopchnaaGreatDoor.St
open Go.RowKit Go.Lib Tryz
def dQ{a b}(h:a=b):mE (.bool a)=.returned (.bool b):=by rw[h]
def nS{k a b}(h:a=b):mE (.int k a)=.returned (.int k b):=by rw[h]
theorem JI(a b:Nat)(e:a<18446744073709551616)(f:b<18446744073709551616)(w):bN 222 #[uZ a,uZ b] w (.bool (decide (a+1<b))) fun d=>d=w:=by
 by_cases h:a<b;.have c:decide ((a:Int)<(b:Int))=true:=dZ;go_enter func222,ntmps222;go_wp2;go_ret;exact⟨dQ (by grind),rfl⟩
 .have c:decide ((a:Int)<(b:Int))=false:=dZ;go_enter func222,ntmps222;go_wp2;go_ret;exact⟨dQ (by grind),rfl⟩
end Go.Proofs.YtphbledmopchnaaGreatDoor.St
namespace Go.Proofs.YtphbledmopchnaaGreatDoor.St
open Go.RowKit Go.Lib Mm Tryz
variable {a b c g k:Nat}{l vs:bM}{w:Wq}
def u31:prog.underlying 63=some (.slice 170):=bZ
def CR:(prog.info? 170).map (·.size)=some 2:=bZ
def Lu:(prog.info? 170).map (fun i=>(i.zero,i.size,i.bytes))=some (some (.agg #[uZ 0,uZ 0]),2,16):=bZ
def YZ(w):(Go.sizeOf 170).run prog w=.ok 2 w:=bZ
def NK{m lb cb}(f:aS w c 170 vs)(h:aS w b 170 l)(i:l.length≠0)(d:c≠b):(callFunc 290 #[dB c m g,.slice (some (aA b a)) lb cb]).run prog w=.ok (.value (.bool false)) w:=by rw[run_callFunc_extern func290 bZ bZ bZ (e:=Extern.SlicesOverlaps.overlaps #[63,63] #[4]) bZ,Lib.run_overlaps_apart w 63 4 170 u31 2 YZ (aA c 0) (aA b a) m g lb cb d 170 170 vs.length l.length f.shape h.shape i (f.frozen 0) (f.frozen _)];rfl
theorem Lv(n c i)(hi:i<n)(D:n+1<=c)(hc:c<=9223372036854775807)(s:k≠b)(h:aS w b 170 l)(hl:l.length=2*c)(E:aS w k 170 vs)(S:vs.length=2)(I:∀v∈l,v.oneCell'=true)(x:∀v∈vs,v.oneCell'=true):WA prog 289 #[dB b n c,iZ i,dB k 1 1] w fun e Z=>
   e=.returned (dB b (n+1) c)/\∃q,Z=put (put (w.drewN q) b (bC l (2*(i+1)) ((l.drop (2*i)).take (2*(n-i))))) b (bC (bC l (2*(i+1)) ((l.drop (2*i)).take (2*(n-i)))) (2*i) vs):=by
 have C:∀t H G,(callFunc 290 #[dB k 1 1,.slice (some (aA b t)) H G]).run prog w=.ok (.value (.bool false)) w:=fun t H G=>NK E h aj s;have U:¬((i:Int)=(n:Int)):=aj;have V:(i:Int)<=(n:Int):=aj;generalize r:(l.drop (2*i)).take (2*(n-i))=a;have A:a.length=(n-i)*2:=by grind
 have B:∀j v,a[j]?=some v->w.cell? (aA b (i*2+j))=some v:=fun j v y=>by rw[h.cell,Ns];grind
 have z:∀v∈a,v.oneCell'=true:=fun v E=>I v (by grind);generalize p:bC l (2*(i+1)) a=m;have X:m.length=2*c:=by grind [cu]
 have d:∀(W:Wq),W.heap=w.heap->∀g o F,(l9 #[63,63] g #[.slice (some (aA b ((i+1)*2))) (n-i) o,.slice (some (aA b (i*2))) (n+1-i) F]).run prog W=.ok (goInt ((n-i:Nat):Int)) (put W b m):=fun W K g o F=>by have u:=h.of_heap (by rw[K]);rw[kE 63 63 g 170 u (aA b (i*2)) (n+1-i) F 2 (n-i) a u31 CR (by grind) A (fun j v y=>by rw[gT,u.cell,<-h.cell];grind) aj z,<-p,Ns (i+1) 2]
 have f:∀(W:Wq),aS W b 170 m->aS W k 170 vs->∀g o,(l9 #[63,63] g #[.slice (some (aA b (i*2))) (n+1-i) o,dB k 1 1]).run prog W=.ok (goInt ((1:Nat):Int)) (put W b (bC m (2*i) vs)):=fun W u J g o=>by rw[kE 63 63 g 170 u (aA k 0) 1 1 2 1 vs u31 CR (by grind) aj (fun j v y=>by rw[gT,J.cell,gG];exact y) aj x,Ns i 2]
 clear r p B;have T:IntKind.i64.wrap ((i:Int)+1)=(i:Int)+1:=by rw[qB];omega
 have L:(0:Int)<=(i:Int)+1:=aj;have R:((i:Int)+1).toNat=i+1:=aj;have M:¬(c=i+1):=aj;have N:(i:Int)+1<=(n:Int)+1:=aj;have P:(i:Int)<=(n:Int)+1:=aj;have O:¬(c=i):=aj;go_enter func289,ntmps289;go_wp2_with (simp only[C]);have Q:=d w.drew rfl;clear d;go_region
 have Y:=f (put w.drew b m) (h.drew.put m) (E.drew.of_heap (iI _ _ _ _ s));clear f;go_wp2;go_ret;exact⟨rfl,1,rfl⟩
def Out(w w':Wq)(row:Option Nat)(e:Ending)(n':Nat)(d:bM):Prop:=
 ∃a b c,e=.returned (dB a n' b)/\aS w' a 170 c/\c.length=2*b/\n'<=b/\b<=9223372036854775807/\c.take (2*n')=d/\(∀v∈c,v.oneCell'=true)/\w.grownBy w' row/\(some a=row\/w.heap.size<=a)
def NM(n c)(a:n+1<=c)(r:c<=9223372036854775807)(h:aS w b 170 l)(s:l.length=2*c)(k:aS w g 170 vs)(o:vs.length=2)(d:∀v∈vs,v.oneCell'=true):WA prog 289 #[dB b n c,iZ n,dB g 1 1] w fun e q=>
   e=.returned (dB b (n+1) c)/\q=put w b (bC l (n*2) vs):=by
 have f:=fun p=>ig (P:=prog) (w:=w) 63 63 p 170 _ 2 16 u31 u31 Lu (n:=n) (c:=c) (m:=1) (mc:=1) h (aA g 0) (vs:=vs) aj (fun j v i=>by rw[gT,k.cell,gG];exact i) d a aj;go_enter func289,ntmps289;go_wp2_with (at_builtin;refine ji _ rfl _ _ _ _ rfl _ _ rfl rfl _ _ (f _) ?_);go_ret;exact⟨rfl,rfl⟩
theorem vH(base n c)(cs:bM)(s:n<=c)(f:c<n+1)(p:n<=1000000)(d:base=none/\cs=[]/\n=0\/∃b,base=some (aA b 0)/\cs.length=n*2/\∀j v,cs[j]?=some v->w.cell? (aA b j)=some v)(t:aS w k 170 vs)(u:vs.length=2)(i:∀v∈vs,v.oneCell'=true):WA prog 289 #[.slice base n c,iZ n,dB k 1 1] w fun e y=>
   e=.returned (dB w.heap.size (n+1) (grownCap w (n+1) c 170))/\y=w.drew.alloc (.cells (cs++vs++(eB (eT #[uZ 0,uZ 0]).cells (grownCap w (n+1) c 170-(n+1))).toList).toArray 170):=by
 have a:=fun x=>jX (P:=prog) (w:=w) 63 63 x 170 _ 2 16 u31 u31 Lu (base:=base) (n:=n) (c:=c) (m:=1) (mc:=1) (cs:=cs) (by
   rcases d with⟨l,o,_⟩|⟨b,l,o,h3⟩;.grind
   .exact .inr ⟨_,l,o,fun j v q=>by rw[gT,gG];grind⟩) (aA k 0) (vs:=vs) aj (fun j v q=>by rw[gT,t.cell,gG];exact q) i f aj aj
 generalize g:cs++vs++(eB (eT #[uZ 0,uZ 0]).cells (grownCap w (n+1) c 170-(n+1))).toList=r at a ⊢;clear g;generalize grownCap w (n+1) c 170=G at a ⊢;rcases d with⟨rfl,_,rfl⟩|⟨b,rfl,_,_⟩;.go_enter func289,ntmps289;go_wp2_with (at_builtin;refine ji _ rfl _ _ _ _ rfl _ _ rfl rfl _ _ (a _) ?_);go_ret;exact⟨rfl,rfl⟩
 .go_enter func289,ntmps289;go_wp2_with (at_builtin;refine ji _ rfl _ _ _ _ rfl _ _ rfl rfl _ _ (a _) ?_);go_ret;exact⟨rfl,rfl⟩
theorem NN{E}(n c i)(hi:i<n)(h7:n<=c)(O:c<n+1)(U:n<=1000000)(h:aS w b 170 l)(hl:l.length=2*c)(u:aS w E 170 vs)(h9:vs.length=2)(T:∀v∈l,v.oneCell'=true)(y:∀v∈vs,v.oneCell'=true):WA prog 289 #[dB b n c,iZ i,dB E 1 1] w fun e w'=>
   Out w w' none e (n+1) ((l.take (2*n)).take (2*i)++vs++(l.take (2*n)).drop (2*i)):=by
 have M:c=n:=aj;subst M;have he:¬((i:Int)=(c:Int)):=aj;have hf:(i:Int)<=(c:Int):=aj;have C:l.take (2*c)=l:=wI aj;rw[C];have k:=fun D=>wU (P:=prog) (w:=w) 63 3 D 170 _ 2 16 .i64 .i64 u31 bZ Lu aj (aA b 0) (n:=i) (c:=c) (m:=c+1-i) (cs:=l.take (2*i)) dZ
  (fun j v N=>by rw[gT,gG,h.cell];grind) aj aj aj aj
 rw[show i+(c+1-i)=c+1 by omega,show((c+1-i:Nat):Int)=(c:Int)+1-(i:Int) by omega]at k;have J:=grownCap_ge w (c+1) c 170;have d:=grownCap_le_maxLen w (c+1) c 170 (by unfold maxLen;omega);unfold maxLen at d;generalize X:grownCap w (c+1) c 170=G at k J d;clear X;generalize Y:l.take (2*i)++(eB (eT #[uZ 0,uZ 0]).cells (c+1-i)).toList++(eB (eT #[uZ 0,uZ 0]).cells (G-(c+1))).toList=R at k;have K:R.length=2*G:=by grind [fE,jC,mK]
 have L:R.take (2*i)=l.take (2*i):=by grind
 have Q:∀v∈R,v.oneCell'=true:=by grind [mI,kS]
 clear Y;have h6:=h.lt;have ha:=u.lt;have q:aS ((w.alloc (.cells R.toArray 170)).drew) w.heap.size 170 R:=aS.new w 170 R;have z:aS ((w.alloc (.cells R.toArray 170)).drew) E 170 vs:=u.alloc _;have S:aS ((w.alloc (.cells R.toArray 170)).drew) b 170 l:=h.alloc _;have A:=fun D I=>kE (P:=prog) (o:=i*2) (dLen:=c+1-i) (dCap:=I) 63 63 D 170 q (aA E 0) 1 1 2 1 vs u31 CR (by grind) aj (fun j v N=>by rw[gT,z.cell,gG];exact N) aj y;have g:=(q.put (bC R (i*2) vs)).drew;have r:aS (put ((w.alloc (.cells R.toArray 170)).drew) w.heap.size (bC R (i*2) vs)).drew b 170 l:=S.of_heap (iI _ _ _ _ aj);have t:(l.drop (2*i)).length=(c-i)*2:=dZ;have B:(bC R (i*2) vs).length=2*G:=by grind [cu]
 have f:=fun D I sc=>kE (P:=prog) (o:=(i+1)*2) (dLen:=c-i) (dCap:=I) 63 63 D 170 g (aA b (i*2)) (c-i) sc 2 (c-i) (l.drop (2*i)) u31 CR (by grind) t
  (fun j v N=>by rw[gT,r.cell];grind) aj (fun v u=>T v (yZ u))
 have a:(bC (bC R (i*2) vs) ((i+1)*2) (l.drop (2*i))).take (2*(c+1))=l.take (2*i)++vs++l.drop (2*i):=by grind [Nw]
 have s:(bC (bC R (i*2) vs) ((i+1)*2) (l.drop (2*i))).length=2*G:=by grind [cu]
 have p:∀v∈bC (bC R (i*2) vs) ((i+1)*2) (l.drop (2*i)),v.oneCell'=true:=dS (dS Q y) (fun v u=>T v (yZ u));have x:Hid _:=g;generalize bC (bC R (i*2) vs) ((i+1)*2) (l.drop (2*i))=V at f a s p;generalize l.drop (2*i)=tl at f a t;generalize bC R (i*2) vs=l2 at A f g r B x;have hc:IntKind.i64.wrap ((i:Int)+1)=(i:Int)+1:=by rw[qB];omega
 have Z:(0:Int)<=(i:Int)+1:=aj;have h8:((i:Int)+1).toNat=i+1:=aj;have h0:¬(G=i+1):=aj;have h2:(i:Int)+1<=(c:Int)+1:=aj;have h4:(i:Int)<=(c:Int)+1:=aj;have h3:¬(c=i):=aj;have h5:¬(G=i):=aj;have W:Hid _:=a;have F:Hid _:=p;have H:Hid _:=s;clear a p s C L Q K q z S r g t B;go_enter func289,ntmps289;go_wp2_with (at_builtin;refine ji _ rfl _ _ _ _ rfl _ _ rfl rfl _ _ (k _) ?_);go_region
 go_wp2;go_ret;refine⟨w.heap.size,G,V,rfl,aS.put x.out V,H.out,aj,d,W.out,F.out,?_,.inr (aI _)⟩;exact zi (fJ (zi (fJ (ze w _ none) (jS _ none)) _ _ (aI _)) (jS _ none)) _ _ (aI _)
theorem Q8(base){A}(n c i)(cs:bM)(N:i<=n)(u:n<=c)(y:c<=9223372036854775807)(g:n<=1000000)(x:base=none/\cs=[]/\n=0/\c=0\/∃b l,base=some (aA b 0)/\aS w b 170 l/\l.length=2*c/\cs=l.take (2*n)/\A≠b/\∀v∈l,v.oneCell'=true)(p:aS w A 170 vs)(f:vs.length=2)(d:∀v∈vs,v.oneCell'=true):WA prog 289 #[.slice base n c,iZ i,dB A 1 1] w fun e r=>
   Out w r (base.map (·.block)) e (n+1) (cs.take (2*i)++vs++cs.drop (2*i)):=by
 rcases x with⟨rfl,rfl,rfl,rfl⟩|⟨b,l,rfl,h,hl,rfl,hvb,t⟩
 .obtain rfl:i=0:=aj;refine bK (vH none 0 0 [] aj aj aj (.inl ⟨rfl,rfl,rfl⟩) p f d) ?_;rintro r rfl;have m:=grownCap_ge w (0+1) 0 170;have a:=grownCap_le_maxLen w (0+1) 0 170 (by unfold maxLen;omega);unfold maxLen at a;refine⟨w.heap.size,_,_,rfl,aS.new w 170 _,?_,m,a,?_,?_,fJ (ze w _ none) (jS _ none),.inr (aI _)⟩;.grind [fE,jC]
  .grind
  grind [kS]
 .by_cases z:n+1<=c
  .by_cases o:i<n
   .refine bK (Lv n c i o z y hvb h hl p f t d) ?_;rintro r ⟨q,rfl⟩;refine⟨b,c,_,rfl,(aS.put (w:=w.drewN q) h _).put _,?_,z,y,?_,dS (dS t (fun v p=>t v (yZ (tF p)))) d,?_,.inl rfl⟩;.grind [cu]
    .have:=QT l vs (2*i) (2*n) 2 aj aj f;grind
    .exact fJ (wV w q _) (fJ (eU _ b _) (eU _ b _))
   .obtain rfl:i=n:=aj;refine bK (NM i c z y h hl p f d) ?_;rintro r rfl;refine⟨b,c,_,rfl,h.put _,?_,z,y,?_,dS t d,eU _ b _,.inl rfl⟩;.grind [cu]
    grind [jd,Nat.mul_comm,List.take_of_length_le,List.drop_of_length_le]
  .by_cases o:i<n;.refine(NN n c i o u aj g h hl p f t d).mono ?_;rintro e r ⟨I,J,L,B,C,D,E,F,G,H,s,M⟩;refine⟨I,J,L,B,C,D,E,F,G,H,⟨s.os,s.tape,s.output,s.size,fun k K _=>s.block k K aR⟩,.inr ?_⟩;grind
   .obtain rfl:i=n:=aj;refine(vH (some (aA b 0)) i c (l.take (2*i)) u aj g (.inr ⟨b,rfl,dZ,fun j v O=>by
     rw[h.cell];grind⟩) p f d).mono ?_
    rintro e r ⟨rfl,rfl⟩;have m:=grownCap_ge w (i+1) c 170;have a:=grownCap_le_maxLen w (i+1) c 170 (by unfold maxLen;omega);unfold maxLen at a;refine⟨w.heap.size,_,_,rfl,aS.new w 170 _,?_,m,a,?_,?_,fJ (ze w _ _) (jS _ _),.inr (aI _)⟩;.grind [fE,jC,mK]
    .grind
    grind [mI,kS]
def t_{p n n'}(h:n=n')(b:c=a):mE (.slice p n c)=.returned (.slice p n' a):=by rw[h,b]
def Q9(w):(zeroValue 170).run prog w=.ok (.agg #[uZ 0,uZ 0]) w:=bZ
def Lx(base){u}(n c i)(cs:bM)(y:i<=n)(s:n<=c)(x:c<=9223372036854775807)(m:n<=1000000)(a:base=none/\cs=[]/\n=0/\c=0\/∃b l,base=some (aA b 0)/\aS w b 170 l/\l.length=2*c/\cs=l.take (2*n)/\u≠b/\∀v∈l,v.oneCell'=true)(C:aS w u 170 vs)(t:vs.length=2)(q:∀v∈vs,v.oneCell'=true):WA prog 224 #[.slice base n c,iZ i,iZ i,dB u 1 1] w fun e p=>
   Out w p (base.map (·.block)) e (n+1) (cs.take (2*i)++vs++cs.drop (2*i)):=by
 have j:=Q8 base n c i cs y s x m a C t q;generalize cs.take (2*i)++vs++cs.drop (2*i)=X at j ⊢;generalize base.map (·.block)=row at j ⊢;have B:((i:Int)==(i:Int))=true:=aR;have z:(i:Int)<=(n:Int):=aj;have A:(i:Int)<=(c:Int):=aj;rcases a with⟨rfl,rfl,rfl,rfl⟩|⟨b,l,rfl,h,hl,rfl,hvb,h1⟩;.obtain rfl:i=0:=aj;go_enter zI,zH;go_wp2_with (go_at_call 289;refine j.mono ?_;intro e p k;obtain⟨f,g,o,rfl,d⟩:=k);go_ret;exact⟨f,g,o,rfl,d⟩
 .by_cases r:c=i;.subst r;go_enter zI,zH;go_wp2_with (go_at_call 289;refine j.mono ?_;intro e p k;obtain⟨f,g,o,rfl,d⟩:=k);go_ret;exact⟨f,g,o,rfl,d⟩
  .go_enter zI,zH;go_wp2_with (go_at_call 289;refine j.mono ?_;intro e p k;obtain⟨f,g,o,rfl,d⟩:=k);go_ret;exact⟨f,g,o,rfl,d⟩
theorem NP{I}(n c i)(X:i<n)(U:n<=c)(K:c<=9223372036854775807)(J:n<=1000000)(h:aS w b 170 l)(L:l.length=2*c)(O:∀v∈l,v.oneCell'=true)(F:aS w I 170 vs)(z:vs.length=2)(y:∀v∈vs,v.oneCell'=true):WA prog 224 #[dB b n c,iZ i,iZ n,dB I 1 1] w fun e W=>
   Out w W (some b) e (i+1) ((l.take (2*n)).take (2*i)++vs):=by
 have p:=fun H=>ig (P:=prog) (w:=w) 63 63 H 170 _ 2 16 u31 u31 Lu (n:=i) (c:=c) (m:=1) (mc:=1) h (aA I 0) (vs:=vs) aj (fun j v S=>by rw[gT,F.cell,gG];exact S) y aj aj;have d:(bC l (i*2) vs).length=2*c:=by grind [cu]
 have r:(bC l (i*2) vs).take (2*(i+1))=(l.take (2*n)).take (2*i)++vs:=by grind [jd,Nat.mul_comm]
 have g:∀v∈bC l (i*2) vs,v.oneCell'=true:=dS O y;have a:=h.put (bC l (i*2) vs);generalize bC l (i*2) vs=f at p d r g a;have x:Hid _:=r;have t:Hid _:=g;have u:Hid (aS (put w b f) b 170 f):=a;clear r g;have V:¬((i:Int)=(n:Int)):=aj;have Q:(i:Int)<=(n:Int):=aj;have R:(n:Int)<=(c:Int):=aj;by_cases T:i+1<n
 .have E:=fun H N=>iE (P:=prog) (o:=(i+1)*2) (n:=n-(i+1)) (c:=N) 63 170 H _ u31 Q9 a aj (by rw[jC];omega) (kS _);have s:(bC f ((i+1)*2) (eB (eT #[uZ 0,uZ 0]).cells (n-(i+1))).toList).take (2*(i+1))=(l.take (2*n)).take (2*i)++vs:=by rw[iF _ _ _ _ (by rw[jC];omega) aj,x.out]
  have q:(bC f ((i+1)*2) (eB (eT #[uZ 0,uZ 0]).cells (n-(i+1))).toList).length=2*c:=by grind [cu,jC]
  have k:∀v∈bC f ((i+1)*2) (eB (eT #[uZ 0,uZ 0]).cells (n-(i+1))).toList,v.oneCell'=true:=dS t.out (kS _);generalize bC f ((i+1)*2) (eB (eT #[uZ 0,uZ 0]).cells (n-(i+1))).toList=G at E s q k;have C:Hid _:=s;have A:Hid _:=k;have B:Hid _:=q;clear s k q a h F L z d;have D:(i:Int)+1<(n:Int):=aj;go_enter zI,zH;go_wp2_with (at_builtin;refine ji _ rfl _ _ _ _ rfl _ _ rfl rfl _ _ (p _) ?_);go_ret;exact⟨b,c,G,rfl,aS.put u.out G,B.out,aj,K,C.out,A.out,fJ (eU w b f) (eU _ b G),.inl rfl⟩
 .have D:(n:Int)<=(i:Int)+1:=aj;clear a h F L z;have M:Hid _:=d;clear d;go_enter zI,zH;go_wp2_with (at_builtin;refine ji _ rfl _ _ _ _ rfl _ _ rfl rfl _ _ (p _) ?_);go_ret;exact⟨b,c,f,rfl,u.out,M.out,aj,K,x.out,t.out,eU w b f,.inl rfl⟩
def sH(w b a c):(fA #[63] b #[.slice (some a) 0 c]).run prog w=.ok (.tuple #[]) w:=by simp[fA,run_underlying u31]
theorem NQ{L}(n c i j)(hf:i<j)(hj:j<n)(ho:n<=c)(hc:c<=9223372036854775807)(Z:n<=1000000)(_hvb:L≠b)(h:aS w b 170 l)(hl:l.length=2*c)(R:∀v∈l,v.oneCell'=true)(U:aS w L 170 vs)(V:vs.length=2)(y:∀v∈vs,v.oneCell'=true):WA prog 224 #[dB b n c,iZ i,iZ j,dB L 1 1] w fun e w'=>
   Out w w' (some b) e (i+1+(n-j)) ((l.take (2*n)).take (2*i)++vs++(l.take (2*n)).drop (2*j)):=by
 have hr:((i:Int)==(j:Int))=false:=dZ;have h3:((j:Int)==(n:Int))=false:=dZ;have ha:(i:Int)<=(n:Int):=aj;have h2:(i:Int)<=(j:Int):=aj;have hy:(j:Int)<=(n:Int):=aj;have he:(n:Int)<=(c:Int):=aj;have hg:(j:Int)<=(c:Int):=aj;have x0:(i:Int)<=(c:Int):=aj;have h9:¬(c=j):=aj;have h8:¬(c=i):=aj;have x2:¬(c=i+1):=aj;have hw:IntKind.i64.wrap ((i:Int)+1)=(i:Int)+1:=by rw[qB];omega
 have hx:IntKind.i64.wrap ((i:Int)+1+((n-j:Nat):Int))=(i:Int)+1+((n-j:Nat):Int):=by rw[qB];omega
 have h5:(0:Int)<=(i:Int)+1:=aj;have h6:(i:Int)+1<=(i:Int)+1+((n-j:Nat):Int):=aj;have hu:((i:Int)+1).toNat=i+1:=aj;have H:∀q a F,(l9 #[63,63] a #[.slice (some (aA b (i*2))) (i+1+(n-j)-i) F,dB L 1 1]).run prog (w.drewN q)=.ok (goInt ((1:Nat):Int)) (put (w.drewN q) b (bC l (i*2) vs)):=fun q a F=>kE (w:=w.drewN q) 63 63 a 170 h (aA L 0) 1 1 2 1 vs u31 CR (by grind) aj (fun k v hk=>by rw[gT,gG];rw[<-hk];exact U.cell k) aj y;have J:(bC l (i*2) vs).length=2*c:=by grind [cu]
 have t:∀v∈bC l (i*2) vs,v.oneCell'=true:=dS R y;have o:∀q,aS (put (w.drewN q) b (bC l (i*2) vs)).drew b 170 (bC l (i*2) vs):=fun q=>(aS.put (w:=w.drewN q) h _).drew;have z:((bC l (i*2) vs).drop (2*j)).take (2*(n-j))=(l.take (2*n)).drop (2*j):=by grind [sF,List.drop_take]
 generalize S:(l.take (2*n)).drop (2*j)=m at z ⊢;have K:m.length=(n-j)*2:=by grind
 have C:∀v∈m,v.oneCell'=true:=fun v U=>R v (by grind);clear S;have d:(bC (bC l (i*2) vs) ((i+1)*2) m).take (2*(i+1+(n-j)))=(l.take (2*n)).take (2*i)++vs++m:=by grind [Nw]
 generalize bC l (i*2) vs=f at H J t o z d;have I:∀q a F W,(l9 #[63,63] a #[.slice (some (aA b ((i+1)*2))) (i+1+(n-j)-(i+1)) F,.slice (some (aA b (j*2))) (n-j) W]).run prog (put (w.drewN q) b f).drew=.ok (goInt ((n-j:Nat):Int)) (put (put (w.drewN q) b f).drew b (bC f ((i+1)*2) m)):=fun q a F W=>
  kE 63 63 a 170 (o q) (aA b (j*2)) (n-j) W 2 (n-j) m u31 CR (by grind) K
   (fun k v hk=>by rw[gT,(o q).cell,Ns j 2];grind) aj C
 have s:(bC f ((i+1)*2) m).length=2*c:=by grind [cu]
 have u:∀v∈bC f ((i+1)*2) m,v.oneCell'=true:=dS t C;have p:∀q,aS (put (put (w.drewN q) b f).drew b (bC f ((i+1)*2) m)) b 170 (bC f ((i+1)*2) m):=fun q=>(o q).put _;generalize bC f ((i+1)*2) m=g at I s u p d;generalize hT:i+1+(n-j)=T at *
 have h4:i+1<=T/\T<=n:=aj;generalize (l.take (2*n)).take (2*i)++vs++m=X at d ⊢;have Y:Hid _:=d;have D:Hid _:=u;have O:Hid _:=s;have E:Hid _:=p;clear d u z o t J K C h U hl R y V;by_cases hn:T<n
 .have G:∀q a r,(fA #[63] a #[.slice (some (aA b (T*2))) (n-T) r]).run prog (put (put (w.drewN q) b f).drew b g)=.ok (.tuple #[]) (put (put (put (w.drewN q) b f).drew b g) b (bC g (T*2) (eB (eT #[uZ 0,uZ 0]).cells (n-T)).toList)):=fun q a r=>
   iE (P:=prog) 63 170 a _ u31 Q9 (p q) aj (by rw[jC];omega) (kS _)
  have A:(bC g (T*2) (eB (eT #[uZ 0,uZ 0]).cells (n-T)).toList).take (2*T)=X:=by rw[iF _ _ _ _ (by rw[jC];omega) aj,Y.out]
  have B:(bC g (T*2) (eB (eT #[uZ 0,uZ 0]).cells (n-T)).toList).length=2*c:=by grind [cu,jC]
  have x:∀v∈bC g (T*2) (eB (eT #[uZ 0,uZ 0]).cells (n-T)).toList,v.oneCell'=true:=dS D.out (kS _);generalize bC g (T*2) (eB (eT #[uZ 0,uZ 0]).cells (n-T)).toList=l3 at G A B x;have N:Hid _:=A;have M:Hid _:=x;have Q:Hid _:=B;clear A x B s p;go_enter zI,zH;go_wp2;go_quiet (fail);go_wp2;go_region
  go_wp2;go_ret;exact⟨b,c,l3,t_ aj rfl,aS.put (E.out nq) l3,Q.out,aj,hc,N.out,M.out,fJ (wV w nq _) (fJ (eU _ b _) (fJ (jS _ _) (fJ (eU _ b _) (eU _ b _)))),.inl rfl⟩
 .obtain rfl:T=n:=aj;have G:∀q a r,(fA #[63] a #[.slice (some (aA b (T*2))) 0 r]).run prog (put (put (w.drewN q) b f).drew b g)=.ok (.tuple #[]) (put (put (w.drewN q) b f).drew b g):=fun q a r=>sH _ a _ r;have h0:∀q a r,(fA #[63] a #[dB b 0 r]).run prog (put (put (w.drewN q) b f).drew b g)=.ok (.tuple #[]) (put (put (w.drewN q) b f).drew b g):=fun q a r=>sH _ a _ r;clear s p;by_cases h7:c=T;all_goals
   go_enter zI,zH;go_wp2;go_quiet (fail);go_wp2;go_region
   go_wp2;go_ret;exact⟨b,c,g,t_ aj aj,E.out nq,O.out,aj,hc,Y.out,D.out,fJ (wV w nq _) (fJ (eU _ b _) (fJ (jS _ _) (eU _ b _))),.inl rfl⟩
def NR(base){q}(n c i j)(cs vs:bM)(s:i<=j)(o:j<=n)(g:n<=c)(m:c<=9223372036854775807)(a:n<=1000000)(d:base=none/\cs=[]/\n=0/\c=0\/∃b l,base=some (aA b 0)/\aS w b 170 l/\l.length=2*c/\cs=l.take (2*n)/\q≠b/\∀v∈l,v.oneCell'=true)(p:aS w q 170 vs)(k:vs.length=2)(f:∀v∈vs,v.oneCell'=true):WA prog 224 #[.slice base n c,iZ i,iZ j,dB q 1 1] w fun e t=>
   Out w t (base.map (·.block)) e (i+1+(n-j)) (cs.take (2*i)++vs++cs.drop (2*j)):=by
 by_cases h:i=j;.subst h;have:=Lx base n c i cs o g m a d p k f;rwa[show n+1=i+1+(n-i) by omega]at this
 .rcases d with⟨rfl,rfl,rfl,rfl⟩|⟨b,l,rfl,hB,hl,rfl,hvb,h1⟩;.omega
  .by_cases r:j=n;.subst r;have:=NP j c i aj g m a hB hl h1 p k f;rw[show i+1+(j-j)=i+1 by omega,Yy dZ,lG];exact this
   .exact NQ n c i j aj aj g m a hvb hB hl h1 p k f
def bX:bY->bM
 |[]=>[]
 |r::t=>(uZ r.1)::(uZ r.2)::bX t
def yh:∀(a) (i),i<a.length->(bX a)[i*2]?=some (uZ ((a.getD i (0,0)).1:Int))
 |[],i,h=>by simp at h
 |r::t,0,_=>by simp[bX]
 |r::t,i+1,h=>by rw[show(i+1)*2=i*2+1+1 by omega];simp only[bX,gN,Dw];exact yh t i (by simpa using h)
def yj:∀(a) (i),i<a.length->(bX a)[i*2+1]?=some (uZ ((a.getD i (0,0)).2:Int))
 |[],i,h=>by simp at h
 |r::t,0,_=>by simp[bX]
 |r::t,i+1,h=>by rw[show(i+1)*2+1=i*2+1+1+1 by omega];simp only[bX,gN,Dw];exact yj t i (by simpa using h)
theorem kV:∀a b,bX (a++b)=bX a++bX b
 |[],_=>rfl
 |r::t,b=>by simp[bX,kV t b]
theorem DK:∀(a) (i),(bX a).take (2*i)=bX (a.take i)
 |[],i=>by simp[bX]
 |r::t,0=>by simp[bX]
 |r::t,i+1=>by rw[show 2*(i+1)=2*i+1+1 by omega];simp[bX,DK t i]
theorem DL:∀(a) (i),(bX a).drop (2*i)=bX (a.drop i)
 |[],i=>by simp[bX]
 |r::t,0=>by simp[bX]
 |r::t,i+1=>by rw[show 2*(i+1)=2*i+1+1 by omega];simp[bX,DL t i]
def oJ:∀(a),∀v∈bX a,v.oneCell'=true
 |[],v,h=>by simp[bX]at h
 |r::t,v,h=>by
  simp[bX]at h;rcases h with rfl|rfl|h;.rfl
  .rfl
  .exact oJ t v h
theorem n_(rs:bY)(f):(fB rs.length).countP (fun i=>f (rs.getD i (0,0)))=rs.countP f:=by
 have h:rs=(fB rs.length).map (fun i=>rs.getD i (0,0)):=by
  apply E_;.simp
  grind
 conv=>rhs;rw[h]
 rw[List.countP_map];rfl
def mG(w:Wq)(a:Nat)(base:Option XK)(c:Nat)(rs:bY):Prop:=
 base=none/\rs=[]/\c=0\/∃b l,base=some (aA b 0)/\b≠a/\aS w b 170 l/\l.length=2*c/\l.take (2*rs.length)=bX rs/\∀v∈l,v.oneCell'=true
structure Kept (w w':Wq) (sp:Nat) (row:Option Nat):Prop where
 os:w'.os=w.os
 tape:w'.tape=w.tape
 output:w'.output=w.output
 size:w.heap.size<=w'.heap.size
 block:∀k,k<w.heap.size->k≠sp->some k≠row->w'.heap[k]?=w.heap[k]?
def mG.sI{d base rs}(h:mG w d base c rs){i}(a:i<rs.length):∃b,base=some (aA b 0)/\b≠d/\b<w.heap.size/\w.cell? (aA b (i*2+1))=some (uZ ((rs.getD i (0,0)).2:Int))/\w.cell? (aA b (i*2))=some (uZ ((rs.getD i (0,0)).1:Int)):=by
 rcases h with⟨_,rfl,_⟩|⟨b,l,h1,h2,h3,h4,h5,_⟩;.simp at a
 .refine⟨b,h1,h2,h3.lt,?_,?_⟩;.rw[h3.cell,<-yj rs i a,<-h5,pG,dN aj]
  .rw[h3.cell,<-yh rs i a,<-h5,pG,dN aj]
def mG.of_heap{w w' g base c rs}(h:mG w g base c rs)(e:∀b,base=some (aA b 0)->w'.heap[b]?=w.heap[b]?):mG w' g base c rs:=by
 rcases h with⟨a,d,f⟩|⟨b,l,a,d,f,h4⟩;.exact .inl ⟨a,d,f⟩
 .exact .inr ⟨b,l,a,d,f.of_heap (e b a),h4⟩
end Go.Proofs.YtphbledmopchnaaGreatDoor.St
namespace Go.Proofs.YtphbledmopchnaaGreatDoor.Mm
open Go.RowKit Go.Lib Tryz
variable {b:Nat}{l:bM}{t:TypeId}{w:Wq}
theorem aS.Q_(h:aS w b t l)(o v):aS (w.setCell (aA b o) v) b t (l.set o v):=by rw[setCell_eq_setRow w b o l.toArray t (0,0) v h];grind [setRow_heap,aS]
def aS.kH(h:aS w b t l)(a v)(c:b≠a.block):aS (w.setCell a v) b t l:=
 h.of_heap (jg w a v b c)
end Go.Proofs.YtphbledmopchnaaGreatDoor.Mm
namespace Go.Proofs.YtphbledmopchnaaGreatDoor.St
open Go.RowKit Go.Lib Mm Tryz
variable {w:Wq}
theorem aG{p}(h:p):Hid p:=h
def Small(rs:bY):Prop:=∀r∈rs,r.1<18446744073709551616/\r.2<18446744073709551616
theorem Small.get{rs}(h:Small rs){i}(a:i<rs.length):(rs.getD i (0,0)).1<18446744073709551616/\(rs.getD i (0,0)).2<18446744073709551616:=by apply h;grind
theorem uR:∀{rs},Rg.gP rs->∀{a b},a<=b->b<rs.length->(rs.getD a (0,0)).1<=(rs.getD b (0,0)).1/\(rs.getD a (0,0)).2<=(rs.getD b (0,0)).2
 |[],_,a,b,_,hb=>by simp at hb
 |r::t,h,0,0,_,_=>⟨aI _,aI _⟩
 |r::t,h,0,b+1,_,hb=>by
  have c:t.getD b (0,0)∈t:=by grind
  have d:=h.2.1 _ c;have e:=h.2.2.le _ c;have f:=h.1;grind
 |r::t,h,a+1,b+1,hab,hb=>by simp only[Dw];exact uR h.2.2 aj (by grind)
theorem rz{d base c rs}(R:mG w d base c rs):∀k,base.map (·.block)=some k->k≠d/\k<w.heap.size:=by
 intro k a;rcases R with⟨rfl,_⟩|⟨b,l,rfl,hb,hB,_⟩;.cases a
 .simp at a;rw[<-a];exact⟨hb,hB.lt⟩
def Kept.drewN{w w' a row}(h:Kept w w' a row)(q):Kept w (w'.drewN q) a row:=⟨h.os,h.tape,h.output,h.size,h.block⟩
theorem LJ{b}(m c){l}(Y:1<=m)(S:m+1<=c)(K:c<=9223372036854775807)(F:m<=1000000)(h:aS w b 170 l)(Q:l.length=2*c)(B:∀v∈l,v.oneCell'=true):WA prog 225 #[(dB b (m+1) c),iZ 0,iZ 1] w fun e V=>
   Out w V (some b) e m ((l.take (2*(m+1))).drop 2):=by
 have E:((l.take (2*(m+1))).drop 2).length=2*m:=dZ;have k:∀v∈(l.take (2*(m+1))).drop 2,v.oneCell'=true:=fun v T=>B v (tF (yZ T));have d:∀j v,((l.take (2*(m+1))).drop 2)[j]?=some v->l[2+j]?=some v:=fun j v H=>by grind
 have D:(loadCellsFrom (aA b 2) 0 (m*2) #[]).run prog w.drew=.ok ((l.take (2*(m+1))).drop 2).toArray w.drew:=by have O:=run_firstCells_some (P:=prog) w.drew 2 m (aA b 2) m (c-1) ((l.take (2*(m+1))).drop 2) aj (fun j v H=>by rw[gT];exact(aS.cell h (2+j)).trans (d j v H));simpa[Builtin.firstCells,loadCells]using O
 have t:=
  gU (P:=prog) (w:=w.drew) (o:=0) h _ aj k
 have s:(bC l 0 ((l.take (2*(m+1))).drop 2)).length=2*c:=by grind [cu]
 have q:(bC l 0 ((l.take (2*(m+1))).drop 2)).take (2*m)=(l.take (2*(m+1))).drop 2:=by grind [jd]
 have g:∀v∈bC l 0 ((l.take (2*(m+1))).drop 2),v.oneCell'=true:=dS B k;have a:aS (put w.drew b (bC l 0 ((l.take (2*(m+1))).drop 2))) b 170 (bC l 0 ((l.take (2*(m+1))).drop 2)):=aS.put (w:=w.drew) h _;generalize bC l 0 ((l.take (2*(m+1))).drop 2)=f at t s q g a;generalize (l.take (2*(m+1))).drop 2=X at q D t ⊢;have C:=fun U J=>iE (P:=prog) (o:=m*2) (n:=1) (c:=J) 63 170 U _ u31 Q9 a aj (by rw[jC];omega) (kS _);have r:(bC f (m*2) (eB (eT #[uZ 0,uZ 0]).cells 1).toList).take (2*m)=X:=by grind [iF,jC]
 have p:(bC f (m*2) (eB (eT #[uZ 0,uZ 0]).cells 1).toList).length=2*c:=by grind [cu,jC]
 have i:∀v∈bC f (m*2) (eB (eT #[uZ 0,uZ 0]).cells 1).toList,v.oneCell'=true:=dS g (kS _);generalize bC f (m*2) (eB (eT #[uZ 0,uZ 0]).cells 1).toList=u at C r p i;have A:Hid _:=r;have x:Hid _:=i;have z:Hid _:=p;have y:Hid (aS (put w.drew b f) b 170 f):=a;have I:Hid (w.grownBy (put (put w.drew b f) b u) (some b)):=fJ (jS w _) (fJ (eU w.drew b f) (eU _ b u));clear q r i p g s a k d E B Q h;have R:m<=c:=aj;have L:(1:Int)<=(m:Int)+1:=aj;have M:(m:Int)+1<=(c:Int):=aj;have N:¬(c=m):=aj;have G:¬(c=1):=aj;have W:m+1-m=1:=aj;go_enter func225,ntmps225;go_wp2;go_region
 go_wp2;go_ret;exact⟨b,c,u,rfl,aS.put (y.out) u,z.out,aj,K,A.out,x.out,I.out,.inl rfl⟩
theorem Oa(rs):(bX rs).drop 2=bX rs.tail:=by
 cases rs with
 |nil=>rfl
 |cons r t=>rfl
structure S1 where
 bD:Int
 fl:Nat
 rs:bY
theorem Y7{rs}(a:Rg.gP rs)(h:∀r∈rs,r.2<18446744073709551616):Small rs:=fun r b=>by have c:=a.le r b;grind
theorem Kept.trans{w g i d row a}(h:Kept w g d row)(k:Kept g i d a)(m:a=row\/∃b,a=some b/\w.heap.size<=b):Kept w i d row:=
 ⟨k.os.trans h.os,k.tape.trans h.tape,k.output.trans h.output,dx h.size k.size,fun j l f c=>by have n:=h.size;rw[k.block j aj f (fun e=>by grind),h.block j l f c]⟩
