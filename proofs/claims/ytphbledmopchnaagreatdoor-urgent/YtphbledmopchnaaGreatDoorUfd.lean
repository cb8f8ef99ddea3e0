import Derived.Test.YtphbledmopchnaaGreatDoorUfc
import Derived.Test.YtphbledmopchnaaGreatDoorUee
open Go.Addr renaming add_lit->YF
open Array renaming getElem?_eq_getElem->WJ
open Go.RowKit.Below renaming refl->Lb,heap_setCell->Ur
open List renaming getD_eq_getElem?_getD->fB,mem_filter->mR,prefix_refl->sQ,getElem?_eq_none->tL,getElem?_replicate_of_lt->tT,getElem?_set_ne->uj,getElem?_eq_getElem->Av,length_take->Aw,mem_append->DT,replicate->E8,length_map->Kt,mem_singleton->KG,getElem?_set_self->M4,length_filter_le->SF,getElem?_take_of_lt->ZH,filter_append_perm->qa1,length_set->qa2,mem_cons->qa3,getElem?_drop->qa4,getElem?_take->qa5,length_append->qa9,append_assoc->qaa,getElem?_map->qab,length_drop->qae,map_cons->qah,filter->qai
open Nat renaming le_refl->fA,zero_le->nI,le_trans->He,le_add_right->R3,lt_of_lt_of_le->WA,zero_add->qa0,max_le->qag
open Option renaming map_eq_some_iff->Am
open Go.Value renaming ownBlock->Ui
open Go.World renaming block_lt_of_cell?->wz,cell?->qaj
set_option maxHeartbeats 4000000
set_option maxRecDepth 100000
namespace Go.Proofs.YtphbledmopchnaaGreatDoor.Sd
open St Tryz
theorem Lf{A B:Side}(F:dD A)(h1:bn A B)(G:bn B A)(f:Fr):Stp A B (A.dM f):=by
 unfold Side.dM;split
 ·exact iD F h1 G _ _ ⟨(F.wr _).sl,(F.wr _).sb,(F.wr _).given⟩ rfl (fA _) (sQ _) (fun e=>⟨e,rfl⟩) (R3 _ _)
 ·split
  ·exact iD F h1 G _ _ ⟨(F.wr _).sl,(F.wr _).sb,(F.wr _).given⟩ rfl (fA _) (sQ _) (fun e=>⟨e,rfl⟩) (R3 _ _)
  ·split
   ·exact oP F h1 G _ _ (JO (G.rd _) _ (fA _)) (fA _) (fA _) (F.it _)
   ·exact G_ F h1 G _ rfl (fA _) F.gt
theorem AO{A B:Side}(F:dD A)(h1:bn A B)(G:bn B A)(f:Fr):Stp A B (A.bookC f):=by
 unfold Side.bookC;split
 ·exact iD F h1 G _ _ ⟨(F.wr _).sl,(F.wr _).sb,(F.wr _).given⟩ rfl (fA _) (sQ _) (fun e=>⟨e,rfl⟩) (R3 _ _)
 ·split
  ·exact iD F h1 G _ _ ⟨(F.wr _).sl,(F.wr _).sb,(F.wr _).given⟩ rfl (fA _) (sQ _) (fun e=>⟨e,rfl⟩) (R3 _ _)
  ·split
   ·exact oP F h1 G _ _ (JO (G.rd _) _ (fA _)) (fA _) (fA _) (F.it _)
   ·exact G_ F h1 G _ rfl (fA _) F.gt
theorem sJ(g:Side->Fr->Side)(F:∀{A B:Side},dD A->bn A B->bn B A->∀f,Stp A B (g A f)):∀(l:List Fr) {A B:Side},dD A->bn A B->bn B A->Stp A B (l.foldl g A)
 |[],_,_,hA,h1,h2=>iE hA h1 h2
 |f::t,_,_,hA,h1,h2=>by
  have s:=F hA h1 h2 f;exact s.trans (sJ g F t s.loc s.ab s.ba)
theorem getD_map{α:Type}(f:α->α)(d:α):∀(l:List α) (k:Nat),k<l.length->(l.map f).getD k d=f (l.getD k d)
 |[],_,h=>by simp at h
 |a::t,0,_=>rfl
 |a::t,k+1,h=>by simpa using getD_map f d t k (by simpa using h)
theorem kg{α:Type}(d:α):∀(l:List α) (k:Nat),l.length<=k->l.getD k d=d
 |[],_,_=>by simp
 |a::t,0,h=>by simp at h
 |a::t,k+1,h=>by simpa using kg d t k (by simpa using h)
theorem D_(f:bU->bU)(F:∀i,(f i).free=i.free):∀(l:List bU) (s:Nat),(l.map f).foldl (fun s i=>min (s+i.free) aZ) s=l.foldl (fun s i=>min (s+i.free) aZ) s
 |[],_=>rfl
 |a::t,s=>by simp only[qah,List.foldl_cons,F];exact D_ f F t _
theorem OG{A B:Side}(G:dD A)(h1:bn A B)(I:bn B A)(w l:List (Nat×m_)):
  Stp A B {A with aF:=w,lost:=l,gr:=A.gr.lose,outs:=A.outs.map gY,ins:=A.ins.map fZ}:=by
 obtain⟨A',F⟩:∃A',A'={A with aF:=w,lost:=l,gr:=A.gr.lose,outs:=A.outs.map gY,ins:=A.ins.map fZ}:=⟨_,rfl⟩;rw[<-F]
 have H:∀k,(A'.out k)=if k<8 then gY (A.out k)else A.out k:=fun k=>by
  rw[F];show(A.outs.map gY).getD k su=_;split
  ·exact getD_map gY su _ _ (by rw[G.lo];assumption)
  ·rw[kg _ _ _ (by rw[Kt,G.lo];omega)];exact(kg _ _ _ (by rw[G.lo];omega)).symm
 have hi:∀k,(A'.inn k)=if k<8 then fZ (A.inn k)else A.inn k:=fun k=>by
  rw[F];show(A.ins.map fZ).getD k uH=_;split
  ·exact getD_map fZ uH _ _ (by rw[G.li];assumption)
  ·rw[kg _ _ _ (by rw[Kt,G.li];omega)];exact(kg _ _ _ (by rw[G.li];omega)).symm
 have hl:A'.limit=A.limit:=by rw[F]
 have O:A'.next=A.next:=by rw[F]
 have K:A'.gr=A.gr.lose:=by rw[F]
 have U:A'.came=A.came:=by rw[F]
 refine⟨⟨by rw[F];show(A.outs.map gY).length=8;rw[Kt,G.lo],by rw[F];show(A.ins.map fZ).length=8;rw[Kt,G.li],fun k=>?_,?_,fun k=>?_,?_,by rw[F];exact G.why,by rw[F];exact G.q,by rw[F];exact G.qn⟩,⟨fun k=>?_,by rw[hl];exact h1.lim,by rw[O];exact h1.came⟩,⟨fun k=>?_,by rw[K];exact I.lim,by rw[U];exact I.came⟩,⟨fun k=>?_,fun k=>?_,fun k=>?_,fun k=>?_,by rw[K];exact fA _,by rw[O];exact fA _⟩⟩
 ·rw[H];split
  ·exact⟨(G.wr k).sl,(G.wr k).sb,(G.wr k).given⟩
  ·exact G.wr k
 ·rw[F];show((A.outs.map gY).map Ot.sent).sum<=A.limit;rw[List.map_map];exact G.sp
 ·rw[hi];split
  ·exact G.it k
  ·exact G.it k
 ·rw[K,F];show A.gr.lose.told<=A.gr.lose.lim ((A.ins.map fZ).foldl (fun s i=>min (s+i.free) aZ) 0);rw[D_ fZ (fun i=>rfl)];exact G.gt
 ·rw[H];split
  ·exact(h1.rd k).mono rfl (fA _) (sQ _) (fun e=>⟨e,rfl⟩)
  ·exact h1.rd k
 ·rw[hi];split
  ·exact JO (I.rd k) _ (fA _)
  ·exact I.rd k
 ·rw[H];split<;>exact fA _
 ·rw[H];split<;>exact sQ _
 ·rw[H];split<;>exact fun e=>⟨e,rfl⟩
 ·rw[hi];split<;>exact fA _
theorem Ci{A B:Side}(F:dD A)(h1:bn A B)(G:bn B A)(w l:List (Nat×m_))(n:Nat)(m:Nat)(H:A.next<=n):Stp A B {A with aF:=w,lost:=l,named:=m,next:=n}:=
 ⟨⟨F.lo,F.li,F.wr,F.sp,F.it,F.gt,F.why,F.q,F.qn⟩,⟨h1.rd,h1.lim,fun r I=>WA (h1.came r I) H⟩,⟨G.rd,G.lim,G.came⟩,⟨fun _=>fA _,fun _=>sQ _,fun _ e=>⟨e,rfl⟩,fun _=>fA _,fA _,H⟩⟩
theorem OH{A B:Side}(G:dD A)(h1:bn A B)(F:bn B A)(l:aP):Stp A B (A.land l):=by
 unfold Side.land;have s:=Ci G h1 F (A.aF.filter fun x=> !names l x.1) (A.lost.filter fun x=> !names l x.1) A.next (max A.named ((l.getD 0 (0,0)).2+1)) (fA _);exact s.trans (sJ Side.bookC (fun a b c f=>AO a b c f) _ s.loc s.ab s.ba)
theorem xQ{A B:Side}(G:dD A)(h1:bn A B)(F:bn B A)(fs:List Fr):Stp A B (A.packet fs):=
 Ci G h1 F _ A.lost (A.next+1) A.named (Nat.le_succ _)
theorem xR{A B:Side}(F:dD A)(h1:bn A B)(G:bn B A)(x:Bool):Stp A B {A with answer:=x}:=
 ⟨⟨F.lo,F.li,F.wr,F.sp,F.it,F.gt,F.why,F.q,F.qn⟩,⟨h1.rd,h1.lim,h1.came⟩,⟨G.rd,G.lim,G.came⟩,⟨fun _=>fA _,fun _=>sQ _,fun _ e=>⟨e,rfl⟩,fun _=>fA _,fA _,fA _⟩⟩
theorem Xl(most fl:Nat)(rs:aP)(lo hi B:Nat)(h:∀r∈rs,r.2<B)(I:hi<B):∀r∈(Rg.add most fl rs lo hi).2,r.2<B:=by
 have G:∀r∈Rg.ins (max lo fl) hi rs,r.2<B:=fun r F=>by
  have:=Rg.uG rs (max lo fl) hi (B-1) (by omega) (fun x H=>by have:=h x H;omega) r F;omega
 unfold Rg.add;split
 ·exact h
 ·split
  ·exact fun r F=>G r (List.mem_of_mem_tail F)
  ·exact G
theorem Ea{A B:Side}(F:dD A)(h1:bn A B)(G:bn B A)(n:Nat)(H:n<B.next)(x:Bool):Stp A B {A with came:=A.came.add 8 n n,answer:=x}:=
 ⟨⟨F.lo,F.li,F.wr,F.sp,F.it,F.gt,F.why,F.q,F.qn⟩,⟨h1.rd,h1.lim,h1.came⟩,⟨G.rd,G.lim,Xl _ _ _ _ _ _ G.came H⟩,⟨fun _=>fA _,fun _=>sQ _,fun _ e=>⟨e,rfl⟩,fun _=>fA _,fA _,fA _⟩⟩
theorem uJ(P:Nat->UInt8->Prop):∀(d:List UInt8) (i:Nat) (h:List UInt8) (c:List Bool),c.length=h.length->i+d.length<=h.length->(∀j,c.getD j false=true->P j (h.getD j 0))->(∀j,j<d.length->P (i+j) (d.getD j 0))->
  (bF d i h c).2.length=(bF d i h c).1.length/\(bF d i h c).1.length=h.length/\∀j,(bF d i h c).2.getD j false=true->P j ((bF d i h c).1.getD j 0)
 |[],i,h,c,hl,_,hc,_=>⟨hl,rfl,hc⟩
 |x::t,i,h,c,hl,hi,hc,hd=>by
  simp only[List.length_cons]at hi
  have F:∀j,j<t.length->P (i+1+j) (t.getD j 0):=fun j G=>by
   have:=hd (j+1) (by simpa using G);rw[show i+1+j=i+(j+1) by omega];simpa using this
  unfold bF;split
  ·exact uJ P t (i+1) h c hl (by omega) hc F
  ·have:=uJ P t (i+1) (h.set i x) (c.set i true) (by simpa using hl) (by rw[qa2];omega) (fun j e=>by
    by_cases G:j=i
    ·subst G;rw[fB,M4 (by omega)];have:=hd 0 (by simp);simpa using this
    ·have H:c.getD j false=true:=by
      rw[fB,uj (by omega)]at e;rw[fB];exact e
     rw[fB,uj (by omega),<-fB]
     exact hc j H) F
   exact⟨this.1,by rw[this.2.1,qa2],this.2.2⟩
theorem Eb{α:Type}(d:α)(l m:List α)(j:Nat)(h:j<l.length):(l++m).getD j d=l.getD j d:=by
 rw[fB,List.getElem?_append_left h,<-fB]
theorem T_{o:Ot}{i:bU}(h:zQ o i)(lo:Nat)(d:List UInt8)(H:i.read<=lo)(hd:∀j,j<d.length->o.bytes[lo+j]?=some (d.getD j 0)):zQ o (i.hold lo d):=by
 unfold bU.hold;obtain⟨n,I⟩:∃n,n=lo-i.read+d.length-i.held.length:=⟨_,rfl⟩;simp only[<-I]
 have key:=uJ (fun j x=>o.bytes[i.read+j]?=some x) d (lo-i.read) (i.held++E8 n 0) (i.came++E8 n false)
  (by simp[h.len]) (by simp;omega)
  (fun j e=>by
   by_cases F:j<i.came.length
   ·rw[Eb _ _ _ _ F]at e;rw[Eb _ _ _ _ (by rw[<-h.len];exact F)];exact h.got j e
   ·rw[fB,List.getElem?_append_right (by omega)]at e
    by_cases G:j-i.came.length<n
    ·rw[tT G]at e;simp at e
    ·rw[tL (by simp;omega)]at e;simp at e)
  (fun j F=>by rw[show i.read+(lo-i.read+j)=lo+j by omega];exact hd j F)
 exact⟨h.lim,h.high,h.ended,h.given,h.st,key.1,h.rd,key.2.2⟩
theorem Ua{o:Ot}{i:bU}(h:zQ o i)(f:Fr)(G:G8 o f):zQ o (i.take f):=by
 have h1:zQ o {i with high:=max i.high (aJ f),ended:=i.ended||f.fin,dX:=if f.fin then aJ f else i.dX}:=by
  refine⟨h.lim,?_,fun e=>?_,h.given,?_,h.len,h.rd,h.got⟩
  ·show max i.high (aJ f)<=o.sent;have:=h.high;have:=G.e;omega
  ·show o.fin=true/\(if f.fin then aJ f else i.dX)=o.bytes.length;cases X:f.fin
   ·have Z:i.ended=true:=by
     have:(i.ended||f.fin)=true:=e;rw[X]at this;simpa using this
    exact h.ended Z
   ·exact G.fin X
  ·rcases h.st with e|⟨e1,e2,e3⟩
   ·exact .inl e
   ·exact .inr ⟨e1,by show(i.ended||f.fin)=true;rw[e2];rfl,e3⟩
 unfold bU.take;obtain⟨I,F⟩:∃I:bU,I={i with high:=max i.high (aJ f),ended:=i.ended||f.fin,dX:=if f.fin then aJ f else i.dX}:=⟨_,rfl⟩;rw[<-F]at h1;simp only[<-F]
 have O:I.read=i.read:=by rw[F]
 split
 ·rename_i H
  refine T_ h1 _ _ (by rw[O];exact Nat.le_max_right _ _) fun j U=>?_
  rw[qae,Aw,G.d,qae,Aw]at U;have hb:=G.b;have h2:min (aJ f) I.wanted<=aJ f:=Nat.min_le_left _ _;obtain⟨lo,V⟩:∃lo,lo=max f.offset i.read:=⟨_,rfl⟩;obtain⟨hi,K⟩:∃hi,hi=min (aJ f) I.wanted:=⟨_,rfl⟩;rw[<-V]at U H ⊢;rw[<-K]at U H h2 ⊢
  have h0:f.offset<=lo:=by omega
  rw[G.d,fB,qa4,ZH (by omega),qa4,ZH (by omega),show f.offset+(lo-f.offset+j)=lo+j by omega];rw[Av (by omega)];rfl
 ·exact h1
theorem Cj{α β:Type}(c:Prop)[Decidable c](a b:α)(g:α->β)(x:β)(h1:g a=x)(F:g b=x):g (if c then a else b)=x:=by
 split
 ·exact h1
 ·exact F
theorem JR(i:bU)(f:Fr):(i.take f).gr=i.gr:=Cj _ _ _ bU.gr _ rfl rfl
theorem AP(i:bU)(f:Fr):(i.take f).read=i.read:=Cj _ _ _ bU.read _ rfl rfl
theorem Lg{o:Ot}{i:bU}(G:Wri o)(h:zQ o i)(f:Fr)(F:G8 o f):i.refuse f=0:=by
 unfold bU.refuse;have I:=F.e;have a2:=F.b;have K:=G.sl;have O:=h.lim;have U:=h.high;have V:=G.sb;rw[if_neg,if_neg (by omega)];rintro(⟨e,g⟩|⟨e,H,g⟩|⟨e,g⟩)
 ·have:=(h.ended e).2;omega
 ·have:=(h.ended e).2;have:=(F.fin H).2;omega
 ·have:=(F.fin e).2;omega
theorem Lh(l:List Ot):∀n,l.length=n->((List.range n).map fun j=>(l.getD j su).sent).sum=(l.map Ot.sent).sum:=by
 intro n G
 congr 1
 refine List.ext_getElem (by simp[G]) fun j h1 F=>?_
 simp only[List.getElem_map,List.getElem_range];rw[fB,Av (by simpa using F)];rfl
theorem OI(f g:Nat->Nat)(h:∀j,f j<=g j):∀l:List Nat,(l.map f).sum<=(l.map g).sum
 |[]=>fA _
 |a::t=>by have:=OI f g h t;have:=h a;simp only[qah,List.sum_cons];omega
theorem OJ{A B:Side}(hB:dD B)(F:bn B A)(k e:Nat)(H:e<=(B.out k).sent):A.oO k e<=A.gr.told:=by
 refine He ?_ (He hB.sp F.lim);unfold Side.spent;rw[<-Lh B.outs 8 hB.lo];unfold Side.oO;refine OI _ _ (fun j=>?_) _;have:=(F.rd j).high;show max (A.inn j).high _<=(B.out j).sent;split
 ·rename_i G;subst G;omega
 ·omega
theorem JU{A B:Side}(F:dD A)(hB:dD B)(h1:bn A B)(G:bn B A)(f:Fr)(O:lV B A f):(A.take f).2=0/\Stp A B (A.take f).1:=by
 unfold Side.take
 rcases O with⟨k1,k2,K⟩|⟨k1,k2,K,k4⟩|⟨k1,k2⟩|⟨k1,k2,K,k4⟩
 ·rw[if_pos k1,if_neg (by omega)];exact⟨rfl,OH F h1 G _⟩
 ·rw[if_neg (by omega),if_pos k1,if_neg (by rw[Lg (hB.wr _) (G.rd _) f k4];simp),if_neg (by have:=OJ hB G f.stream.toNat (aJ f) k4.e;omega)];have r:=Ua (G.rd f.stream.toNat) f k4;refine⟨rfl,oP F h1 G _ _ r (by rw[JR];exact fA _) (by rw[r.free,(G.rd _).free,AP];exact fA _) ?_⟩;rw[JR,r.free,AP,<-(G.rd _).free];exact F.it _
 ·rw[if_neg (by omega),if_neg (by omega),if_neg (by omega),if_neg (by omega),if_neg (by omega),if_pos k1];refine⟨rfl,⟨⟨F.lo,F.li,F.wr,?_,F.it,F.gt,F.why,F.q,F.qn⟩,⟨h1.rd,?_,h1.came⟩,⟨G.rd,G.lim,G.came⟩,⟨fun _=>fA _,fun _=>sQ _,fun _ e=>⟨e,rfl⟩,fun _=>fA _,fA _,fA _⟩⟩⟩
  ·show A.spent<=max A.limit f.limit;have:=F.sp;omega
  ·show max A.limit f.limit<=B.gr.told;have:=h1.lim;omega
 ·rw[if_neg (by omega),if_neg (by omega),if_neg (by omega),if_neg (by omega),if_neg (by omega),if_neg (by omega),if_pos k1];obtain⟨k,U⟩:∃k,k=f.stream.toNat:=⟨_,rfl⟩;obtain⟨o,H⟩:∃o:Ot,o={A.out k with limit:=max (A.out k).limit f.limit}:=⟨_,rfl⟩;rw[<-U]at k4 ⊢;rw[<-H]
  have I:∀j,(A.bf k o).out j=if j=k/\k<A.outs.length then o else A.out j:=fun j=>gK A k j o
  refine⟨rfl,⟨⟨(eX _ _ _).trans F.lo,F.li,fun j=>?_,?_,F.it,F.gt,F.why,F.q,F.qn⟩,⟨fun j=>?_,h1.lim,h1.came⟩,⟨G.rd,G.lim,G.came⟩,⟨fun j=>?_,fun j=>?_,fun j=>?_,fun _=>fA _,fA _,fA _⟩⟩⟩
  ·rw[I];split
   ·rw[H];exact⟨by have:=(F.wr k).sl;show(A.out k).sent<=max (A.out k).limit f.limit;omega,(F.wr k).sb,(F.wr k).given⟩
   ·exact F.wr j
  ·show(A.bf k o).spent<=A.limit;have e:=xO A k o (by rw[F.lo];omega)
   have:o.sent=(A.out k).sent:=by rw[H]
   have:=F.sp;omega
  ·rw[I];split
   ·rename_i e;rw[e.1,H];have r:=h1.rd k;exact⟨by have:=r.lim;show max (A.out k).limit f.limit<=_;omega,r.high,r.ended,r.given,r.st,r.len,r.rd,r.got⟩
   ·exact h1.rd j
  ·rw[I];split
   ·rename_i e;rw[e.1,H];exact fA _
   ·exact fA _
  ·rw[I];split
   ·rename_i e;rw[e.1,H];exact sQ _
   ·exact sQ _
  ·rw[I];split
   ·rename_i e;rw[e.1,H];exact fun x=>⟨x,rfl⟩
   ·exact fun x=>⟨x,rfl⟩
def Lq(l:List Nat):Prop:=∀x∈l,x<48
theorem Lq.getD{l:List Nat}(h:Lq l)(j:Nat):l.getD j 0<48:=by
 rw[fB]
 cases F:l[j]? with
 |none=>simp
 |some v=>exact h v (List.mem_of_getElem? F)
theorem Lq.set{l:List Nat}(h:Lq l)(i v:Nat)(G:v<48):Lq (l.set i v):=fun x F=>by
 rcases List.mem_or_eq_of_mem_set F with F|F
 ·exact h x F
 ·omega
theorem Lq.sw{l:List Nat}(h:Lq l)(i j:Nat):Lq (sw l i j):=(h.set i _ (h.getD j)).set j _ (h.getD i)
theorem Lq.down:∀(k:Nat) {l:List Nat} (i n:Nat),Lq l->Lq (iC k l i n)
 |0,_,_,_,h=>h
 |k+1,l,i,n,h=>by
  unfold iC;generalize (if 2*i+2<n/\l.getD (2*i+2) 0<l.getD (2*i+1) 0 then 2*i+2 else 2*i+1)=j;split
  ·exact h
  ·simp only;split
   ·exact Lq.down k _ _ (h.sw _ _)
   ·exact h
theorem Lq.up:∀(k:Nat) {l:List Nat} (i:Nat),Lq l->Lq (xM k l i)
 |0,_,_,h=>h
 |k+1,l,i,h=>by
  unfold xM;split
  ·exact h
  ·exact Lq.up k _ (h.sw _ _)
theorem Lq.pop{l:List Nat}(h:Lq l):Lq (jg l):=fun x F=>Lq.down _ _ _ (h.sw _ _) x (List.mem_of_mem_take F)
theorem Lq.app{l m:List Nat}(h:Lq l)(g:Lq m):Lq (l++m):=fun x F=>(DT.1 F).elim (h x) (g x)
theorem Lq.push{l:List Nat}(h:Lq l)(u:Nat)(F:u<48):Lq (bG l u):=Lq.up _ _ (h.app fun x G=>by rw[KG.1 G];exact F)
theorem Lq.pushes:∀(m:List Nat) {l:List Nat},Lq l->Lq m->Lq (m.foldl bG l)
 |[],_,h,_=>h
 |u::t,_,h,g=>Lq.pushes t (h.push u (g u (by simp))) fun x F=>g x (by simp[F])
theorem lq0:Lq q0:=by unfold Lq;decide
structure Fld (A B:Side) (x:Side×aP×List Nat×List Fr):Prop where
 Ub:Stp A B x.1
 av:∀r∈x.2.1,r.2<B.next
 q:Lq x.2.2.1
 fs:∀f∈x.2.2.2,lV x.1 B f
theorem pW:∀(n:Nat) {A B:Side} (av:aP) (Q later:List Nat) (room:Int) (l:List Fr),dD A->bn A B->bn B A->Lq Q->Lq later->(∀r∈av,r.2<B.next)->(∀f∈l,lV A B f)->Fld A B (bO n A av Q later room l)
 |0,A,B,av,Q,later,room,l,hA,h1,h2,hQ,hL,hl,hf=>⟨iE hA h1 h2,hl,Lq.pushes _ hQ hL,hf⟩
 |n+1,A,B,av,[],later,room,l,hA,h1,h2,hQ,hL,hl,hf=>⟨iE hA h1 h2,hl,Lq.pushes _ hQ hL,hf⟩
 |n+1,A,B,av,u::Q,later,room,l,hA,h1,h2,hQ,hL,hl,hf=>by
  have H:u<48:=hQ u (by simp);unfold bO
  by_cases G:A.waits av u=true
  ·simp only[G,if_true]
   cases hF:A.frame av u room with
   |none=>
    simp only;split
    ·exact pW n av _ _ room l hA h1 h2 hQ.pop (hL.app fun x I=>by rw[KG.1 I];exact H) hl hf
    ·exact⟨iE hA h1 h2,hl,Lq.pushes _ hQ hL,hf⟩
   |some x=>
    obtain⟨f,A',bH⟩:=x;simp only;obtain⟨s,K,sl⟩:=D9 hA h1 h2 av bH u room f H hl G hF
    obtain⟨O,U,V,X⟩:=pW n bH (u::Q) later (room-((aG f).length:Int)) (l++[f]) s.loc s.ab s.ba hQ hL sl (fun g F=>by
     rcases DT.1 F with F|F
     ·exact(hf g F).mono s.le (z_.refl _)
     ·rw[KG.1 F];exact K)
    exact⟨s.trans O,U,V,X⟩
  ·simp only[G];exact pW n av _ later room l hA h1 h2 hQ.pop hL hl hf
def nums(n:Nat):List (List Fr)->List (Nat×List Fr)
 |[]=>[]
 |fs::t=>(n,fs)::nums (n+1) t
structure Pks (A B:Side) (l:List (Nat×List Fr)) (x:Side×List (Nat×List Fr)) (m:List (List Fr)):Prop where
 eq:x.2=l++nums A.next m
 Ub:Stp A B x.1
 next:x.1.next=A.next+m.length
 ne:∀fs∈m,fs≠[]
 ok:∀fs∈m,∀f∈fs,lV x.1 B f
theorem oQ{A:Side}(n:Nat)(av:aP)(Q later:List Nat)(room:Int)(l:List Fr):(bO n A av Q later room l).1.next=A.next:=by
 induction n generalizing A av Q later room l with
 |zero=>rfl
 |succ n F=>
  cases Q with
  |nil=>rfl
  |cons u Q=>
   unfold bO
   by_cases G:A.waits av u=true
   ·simp only[G,if_true]
    cases hF:A.frame av u room with
    |none=>
     simp only;split
     ·exact F _ _ _ _ _
     ·rfl
    |some x=>
     obtain⟨f,H,I⟩:=x;simp only;refine(F _ _ _ _ _).trans ?_;unfold Side.frame at hF;split at hF
     ·split at hF
      ·cases hF
      ·have e:=Option.some.inj hF;exact(congrArg (fun x=>x.2.1.next) e).symm
     ·split at hF
      ·obtain⟨y,_,e⟩:=Am.1 hF;exact(congrArg (fun x=>x.2.1.next) e).symm
      ·split at hF
       ·obtain⟨y,_,e⟩:=Am.1 hF;exact(congrArg (fun x=>x.2.1.next) e).symm
       ·split at hF
        ·obtain⟨y,_,e⟩:=Am.1 hF;exact(congrArg (fun x=>x.2.1.next) e).symm
        ·split at hF
         ·split at hF
          ·cases hF
          ·obtain⟨y,_,e⟩:=Am.1 hF;exact(congrArg (fun x=>x.2.1.next) e).symm
         ·obtain⟨y,_,e⟩:=Am.1 hF;exact(congrArg (fun x=>x.2.1.next) e).symm
   ·simp only[G];exact F _ _ _ _ _
theorem AQ:∀(n:Nat) {A B:Side} (av:aP) (Q:List Nat) (l:List (Nat×List Fr)),dD A->bn A B->bn B A->Lq Q->(∀r∈av,r.2<B.next)->∃m,Pks A B l (dJ n A av Q l) m
 |0,A,B,av,Q,l,hA,h1,h2,hQ,hl=>⟨[],by simp[dJ,nums],iE hA h1 h2,rfl,by simp,by simp⟩
 |n+1,A,B,av,Q,l,hA,h1,h2,hQ,hl=>by
  have F:Fld A B (fill A av Q A.room):=pW _ av Q [] A.room [] hA h1 h2 hQ (fun x X=>by simp at X) hl (fun f H=>by simp at H);have I:(fill A av Q A.room).1.next=A.next:=oQ _ av Q [] A.room [];unfold dJ;generalize fill A av Q A.room=x at F I;obtain⟨A',bH,V,fs⟩:=x;simp only at F I ⊢;split
  ·exact⟨[],by simp[nums],F.Ub,I,by simp,by simp⟩
  ·rename_i K;have P:=xQ F.Ub.loc F.Ub.ab F.Ub.ba fs;obtain⟨m,e,s,nx,ne,ok⟩:=AQ n bH V (l++[(A.next,fs)]) P.loc P.ab P.ba F.q F.av
   have O:(A'.packet fs).next=A.next+1:=by show A'.next+1=_;rw[I]
   have U:∀f∈fs,lV A' B f:=F.fs;refine⟨fs::m,by rw[e,O];simp[nums],F.Ub.trans (P.trans s),by rw[nx,O];simp;omega,fun g G=>?_,fun g G f H=>?_⟩
   ·rcases qa3.1 G with G|G
    ·rw[G];exact K
    ·exact ne g G
   ·rcases qa3.1 G with G|G
    ·rw[G]at H;exact(U f H).mono (P.trans s).le (z_.refl _)
    ·exact ok g G f H
theorem Uc(aM window total:Nat)(G:window<=aZ)(ht:total<=aZ):dD (Side.new aM window total):=by
 have F:∀k,(Side.new aM window total).out k=if k<8 then Ot.new window else su:=fun k=>by
  show(E8 8 (Ot.new window)).getD k su=_;rw[fB];split
  ·rw[tT (by assumption)];rfl
  ·rw[tL (by simp;omega)];rfl
 have hi:∀k,(Side.new aM window total).inn k=if k<8 then bU.new window else uH:=fun k=>by
  show(E8 8 (bU.new window)).getD k uH=_;rw[fB];split
  ·rw[tT (by assumption)];rfl
  ·rw[tL (by simp;omega)];rfl
 refine⟨rfl,rfl,fun k=>?_,?_,fun k=>?_,?_,rfl,rfl,rfl⟩
 ·rw[F];split
  ·exact⟨nI _,nI _,rfl⟩
  ·exact⟨nI _,nI _,rfl⟩
 ·show 0<=_;exact nI _
 ·rw[hi];split
  ·show window<=min (0+window) aZ;omega
  ·show 0<=_;exact nI _
 ·show total<=min (_+total) aZ;omega
theorem Ud(aM window total:Nat):bn (Side.new aM window total) (Side.new aM window total):=by
 refine⟨fun k=>?_,fA _,fun r G=>by simp[Side.new]at G⟩
 have F:(Side.new aM window total).out k=if k<8 then Ot.new window else su:=by
  show(E8 8 (Ot.new window)).getD k su=_;rw[fB];split
  ·rw[tT (by assumption)];rfl
  ·rw[tL (by simp;omega)];rfl
 have hi:(Side.new aM window total).inn k=if k<8 then bU.new window else uH:=by
  show(E8 8 (bU.new window)).getD k uH=_;rw[fB];split
  ·rw[tT (by assumption)];rfl
  ·rw[tL (by simp;omega)];rfl
 rw[F,hi];split
 ·exact⟨fA _,fA _,(fun e=>by cases e),rfl,.inl rfl,rfl,fA _,fun j e=>by simp[bU.new]at e⟩
 ·exact⟨fA _,fA _,(fun e=>by cases e),rfl,.inl rfl,rfl,fA _,fun j e=>by simp[uH,bU.new]at e⟩
structure N8 (f:Fr):Prop where
 st:0<=f.stream/\f.stream<8
 dt:f.kind=4->ru f
 lm:f.limit<=aZ
 kd:f.kind=4\/f.kind=5\/f.kind=6
structure OtB (o:Ot):Prop where
 b:o.bytes.length<=2048
 a:uN o.away
 c:uN o.came
def Io(g:Gn):Prop:=g.ahead<=4096/\g.told<=aZ/\g.away<=aZ/\g.came<=aZ
structure Bb (i:bU):Prop where
 g:Io i.gr
 r:i.read<=2048
 h:i.high<=2048
 f:i.dX<=2048
 e:i.rel<=aZ
 l:i.read+i.held.length<=2048
 c:i.came.length=i.held.length
 s:i.state<=2
theorem Bb.ok{i:bU}(h:Bb i):SX i:=
 ⟨h.g,by have:=h.r;unfold aZ;omega,by have:=h.h;unfold aZ;omega,by have:=h.f;unfold aZ;omega,h.e,by have:=h.l;omega,h.c,h.s⟩
def PaB(n:Nat)(x:Nat×m_):Prop:=x.1<n/\x.2.frames.length<=400/\∀f∈x.2.frames,N8 f
theorem PaB.mono{n m:Nat}{x:Nat×m_}(h:PaB n x)(F:n<=m):PaB m x:=⟨WA h.1 F,h.2⟩
structure CmB (c:NS):Prop where
 so:Rg.Sorted c.rs
 hi:∀r∈c.rs,r.2<=aZ
 ln:c.rs.length<=8
 fl:c.fl<=aZ+1
structure Bd (M:Side):Prop where
 o:∀k,OtB (M.out k)
 i:∀k,Bb (M.inn k)
 g:Io M.gr
 lm:M.limit<=aZ
 mt:64<=M.aM/\M.aM<=400
 wy:∀x∈M.aF,PaB M.next x
 ls:∀x∈M.lost,PaB M.next x
 ky:(M.lost++M.aF).Pairwise fun x y=>x.1≠y.1
 wl:M.aF.length<=12
 ll:M.lost.length<=65
 nm:M.named<=M.next
 cm:CmB M.came
 tk:∀x∈M.aF,x.2.tick<=M.tick
def Side.nq(M:Side):Side:={M with queue:=[],qv:=nZ}
structure QQ (M:Side):Prop where
 q:∀f∈M.queue,QF f
 l:M.queue.length<=16
theorem bn.qa{A B:Side}(h:bn A B)(q:List Fr)(v:Value):bn {A with queue:=q,qv:=v} B:=⟨h.rd,h.lim,h.came⟩
theorem bn.qb{A B:Side}(h:bn A B)(q:List Fr)(v:Value):bn A {B with queue:=q,qv:=v}:=⟨h.rd,h.lim,h.came⟩
theorem Bd.q{M:Side}(h:Bd M)(q:List Fr)(v:Value):Bd {M with queue:=q,qv:=v}:=⟨h.o,h.i,h.g,h.lm,h.mt,h.wy,h.ls,h.ky,h.wl,h.ll,h.nm,h.cm,h.tk⟩
theorem dD.nq{M:Side}(h:dD M):dD M.nq:=⟨h.lo,h.li,h.wr,h.sp,h.it,h.gt,h.why,rfl,rfl⟩
theorem dD.qq{M:Side}(h:dD M):QQ M:=⟨fun f F=>(by rw[h.q]at F;cases F),by rw[h.q];exact nI _⟩
theorem Bd.wk{M:Side}(h:Bd M)(F:dD M.nq)(hq:QQ M):Wk M:=
 ⟨fun k=>(h.o k).b,fun k=>(h.o k).a,fun k=>(h.o k).c,fun k=>(F.wr k).given,fun k=>(h.i k).ok,h.g.1,F.sp,h.lm,hq.q,hq.l,by have:=h.wl;omega⟩
theorem Bd.bf{M:Side}(h:Bd M)(k:Nat)(o:Ot)(F:OtB o):Bd (M.bf k o):=
 ⟨fun j=>by rw[gK];split;exact F;exact h.o j,h.i,h.g,h.lm,h.mt,h.wy,h.ls,h.ky,h.wl,h.ll,h.nm,h.cm,h.tk⟩
theorem Bd.dA{M:Side}(h:Bd M)(k:Nat)(i:bU)(F:Bb i):Bd (M.dA k i):=
 ⟨h.o,fun j=>by rw[gL];split;exact F;exact h.i j,h.g,h.lm,h.mt,h.wy,h.ls,h.ky,h.wl,h.ll,h.nm,h.cm,h.tk⟩
theorem Bd.XB{M:Side}(h:Bd M)(g:Gn)(F:Io g):Bd {M with gr:=g}:=
 ⟨h.o,h.i,F,h.lm,h.mt,h.wy,h.ls,h.ky,h.wl,h.ll,h.nm,h.cm,h.tk⟩
theorem sS{x:NS}{f:Fr}(h:uN x)(F:ru f):uN (sj x f):=by
 have h1:=F.o;have H:=F.e;have G:=F.ne
 have I:f.offset<=aJ f:=by unfold aJ;omega
 unfold sj;cases O:f.fin
 ·rw[O]at G;have U:0<aJ f:=G.resolve_left (by simp)
  by_cases K:f.offset<=aJ f-1
  ·exact(h.add _ _ (by simpa using K) (by simp;omega)).1
  ·have e:x.add 2049 f.offset (if false=true then aJ f else aJ f-1)=x:=by
    unfold NS.add Rg.add;rw[if_pos (by simp;omega)]
   rw[e];exact h
 ·exact(h.add _ _ (by simpa using I) (by simpa using H)).1
theorem Io.aw{g:Gn}(h:Io g)(x:Nat)(F:x<=aZ):Io (g.aw x):=⟨h.1,h.2.1,qag.2 ⟨h.2.2.1,F⟩,h.2.2.2⟩
theorem Io.cm{g:Gn}(h:Io g)(x:Nat)(F:x<=aZ):Io (g.cm x):=⟨h.1,h.2.1,h.2.2.1,qag.2 ⟨h.2.2.2,F⟩⟩
theorem Io.lose{g:Gn}(h:Io g):Io g.lose:=⟨h.1,h.2.1,nI _,h.2.2.2⟩
theorem Bb.gr'{i:bU}(h:Bb i)(g:Gn)(F:Io g):Bb {i with gr:=g}:=⟨F,h.r,h.h,h.f,h.e,h.l,h.c,h.s⟩
theorem EB{M:Side}(h:Bd M)(f:Fr)(F:N8 f):Bd (M.dM f):=by
 unfold Side.dM;split
 ·rename_i G;exact h.bf _ _ ⟨(h.o _).b,sS (h.o _).a (F.dt G),(h.o _).c⟩
 ·split
  ·exact h.bf _ _ ⟨(h.o _).b,(h.o _).a,(h.o _).c⟩
  ·split
   ·exact h.dA _ _ ((h.i _).gr' _ ((h.i _).g.aw _ F.lm))
   ·exact h.XB _ (h.g.aw _ F.lm)
theorem EC{M:Side}(h:Bd M)(f:Fr)(F:N8 f):Bd (M.bookC f):=by
 unfold Side.bookC;split
 ·rename_i G;exact h.bf _ _ ⟨(h.o _).b,sS (h.o _).a (F.dt G),sS (h.o _).c (F.dt G)⟩
 ·split
  ·exact h.bf _ _ ⟨(h.o _).b,(h.o _).a,(h.o _).c⟩
  ·split
   ·exact h.dA _ _ ((h.i _).gr' _ ((h.i _).g.cm _ F.lm))
   ·exact h.XB _ (h.g.cm _ F.lm)
theorem Cy(g:Side->Fr->Side)(F:∀{M:Side},Bd M->∀f,N8 f->Bd (g M f)):∀(l:List Fr) {M:Side},Bd M->(∀f∈l,N8 f)->Bd (l.foldl g M)
 |[],_,h,_=>h
 |f::t,_,h,hl=>Cy g F t (F h f (hl f (by simp))) fun x G=>hl x (by simp[G])
def Side.qH(M:Side):Side:=
 {M with
  aF:=M.aF.filter fun x=> !M.dN x
  lost:=(M.lost++M.aF.filter M.dN).filter fun x=> !decide (x.1+64<M.next)
  gr:=M.gr.lose
  outs:=M.outs.map gY
  ins:=M.ins.map fZ}
def Side.iG(M F:Side):Prop:=
 if M.aF.any M.dN then∃lp:List (Nat×m_),lp.Perm (M.aF.filter fun x=> !M.dN x)/\F=(frames lp).foldl Side.dM M.qH else F=M
def Side.WM(M:Side)(l:aP):Side:=
 {M with
  named:=max M.named ((l.getD 0 (0,0)).2+1)
  aF:=M.aF.filter fun x=> !names l x.1
  lost:=M.lost.filter fun x=> !names l x.1}
def Side.sU(M:Side)(l:aP)(F:Side):Prop:=
 ∃lp lq:List (Nat×m_),lp.Perm (M.aF.filter fun x=>names l x.1)/\lq.Perm (M.lost.filter fun x=>names l x.1)/\F=(frames lp++frames lq).foldl Side.bookC (M.WM l)
theorem Bc{A B A':Side}(G:dD A)(h1:bn A B)(F:bn B A)(h:A.iG A'):Stp A B A':=by
 unfold Side.iG at h;split at h
 ·obtain⟨lp,_,rfl⟩:=h;have s:=OG G h1 F (A.aF.filter fun x=> !A.dN x) ((A.lost++A.aF.filter A.dN).filter fun x=> !decide (x.1+64<A.next));exact s.trans (sJ Side.dM (fun a b c f=>Lf a b c f) _ s.loc s.ab s.ba)
 ·rw[h];exact iE G h1 F
theorem LY{A B A':Side}(G:dD A)(h1:bn A B)(F:bn B A)(l:aP)(h:A.sU l A'):Stp A B A':=by
 obtain⟨lp,lq,_,_,rfl⟩:=h;have s:=Ci G h1 F (A.aF.filter fun x=> !names l x.1) (A.lost.filter fun x=> !names l x.1) A.next (max A.named ((l.getD 0 (0,0)).2+1)) (fA _);exact s.trans (sJ Side.bookC (fun a b c f=>AO a b c f) _ s.loc s.ab s.ba)
theorem rD{l:List (Nat×m_)}{n:Nat}(h:∀x∈l,PaB n x):∀f∈frames l,N8 f:=fun f F=>by
 unfold frames at F;obtain⟨x,G,F⟩:=List.mem_flatMap.1 F;exact(h x G).2.2 f F
theorem ED:∀(n a:Nat) (l:List (Nat×m_)),(l.Pairwise fun x y=>x.1≠y.1)->(∀x∈l,a<=x.1/\x.1<a+n)->l.length<=n
 |0,a,l,_,h=>by
  cases l with
  |nil=>exact fA _
  |cons x t=>have:=h x (by simp);omega
 |n+1,a,l,hp,h=>by
  have h1:=ED n a (l.filter fun x=> !decide (x.1=a+n)) (hp.filter _) fun x H=>by
   obtain⟨p,q⟩:=mR.1 H;have:=h x p;simp at q;omega
  have U:(l.filter fun x=>decide (x.1=a+n)).length<=1:=by
   have F:=hp.filter (fun x=>decide (x.1=a+n));generalize G:(l.filter fun x=>decide (x.1=a+n))=m at F
   match m,G,F with
   |[],_,_=>simp
   |[x],_,_=>simp
   |x::y::t,G,F=>
    have H:x∈(l.filter fun x=>decide (x.1=a+n)):=by rw[G];simp
    have O:y∈(l.filter fun x=>decide (x.1=a+n)):=by rw[G];simp
    have I:=(mR.1 H).2;have K:=(mR.1 O).2;simp at I K;exact absurd (I.trans K.symm) ((List.pairwise_cons.1 F).1 y (by simp))
  have V:l.length=(l.filter fun x=>decide (x.1=a+n)).length+(l.filter fun x=> !decide (x.1=a+n)).length:=by
   have:=(qa1 (fun x:Nat×m_=>decide (x.1=a+n)) l).length_eq;rw[qa9]at this;exact this.symm
  omega
theorem YS:OtB su:=⟨by decide,⟨rfl,trivial,fun r F=>by cases F⟩,⟨rfl,trivial,fun r F=>by cases F⟩⟩
theorem Cz(n:Nat)(h:n<=4096):Bb (bU.new n):=
 ⟨⟨h,He h (by decide),nI _,He h (by decide)⟩,nI _,nI _,nI _,nI _,nI _,rfl,nI _⟩
theorem EF{M:Side}(h:Bd M):Bd M.qH:=by
 have G:(M.lost++M.aF.filter M.dN++M.aF.filter fun x=> !M.dN x).Pairwise fun x y=>x.1≠y.1:=by
  rw[qaa];have hp:(M.aF.filter M.dN++M.aF.filter fun x=> !M.dN x).Perm M.aF:=qa1 _ _;exact(((List.Perm.refl M.lost).append hp).pairwise_iff (fun{_ _} e=>Ne.symm e)).2 h.ky
 refine⟨fun k=>?_,fun k=>?_,h.g.lose,h.lm,h.mt,fun x F=>h.wy x (mR.1 F).1,fun x F=>?_,?_,He (SF _ _) h.wl,?_,h.nm,h.cm,fun x F=>h.tk x (mR.1 F).1⟩
 ·show OtB ((M.outs.map gY).getD k su)
  by_cases G:k<M.outs.length
  ·have:(M.outs.map gY).getD k su=gY (M.out k):=by
    unfold Side.out;rw[fB,fB,qab,Av G];rfl
   rw[this];exact⟨(h.o k).b,(h.o k).c,(h.o k).c⟩
  ·have:(M.outs.map gY).getD k su=su:=by
    rw[fB,tL (by simp;omega)];rfl
   rw[this];exact YS
 ·show Bb ((M.ins.map fZ).getD k uH)
  by_cases G:k<M.ins.length
  ·have:(M.ins.map fZ).getD k uH=fZ (M.inn k):=by
    unfold Side.inn;rw[fB,fB,qab,Av G];rfl
   rw[this];exact(h.i k).gr' _ (h.i k).g.lose
  ·have:(M.ins.map fZ).getD k uH=uH:=by
    rw[fB,tL (by simp;omega)];rfl
   rw[this];exact Cz 0 (by decide)
 ·rcases DT.1 (mR.1 F).1 with F|F
  ·exact h.ls x F
  ·exact h.wy x (mR.1 F).1
 ·show((qai _ (M.lost++M.aF.filter M.dN))++M.aF.filter fun x=> !M.dN x).Pairwise _;exact G.sublist (List.filter_sublist.append (List.Sublist.refl _))
 ·show(qai _ (M.lost++M.aF.filter M.dN)).length<=65
  refine ED 65 (M.next-64) _ ((G.sublist (List.sublist_append_left _ _)).filter _) fun x F=>?_
  obtain⟨p,q⟩:=mR.1 F
  have H:x.1<M.next:=by
   rcases DT.1 p with p|p
   ·exact(h.ls x p).1
   ·exact(h.wy x (mR.1 p).1).1
  simp at q;omega
theorem EG{M G:Side}(h:Bd M)(F:M.iG G):Bd G:=by
 unfold Side.iG at F;split at F
 ·obtain⟨lp,hp,rfl⟩:=F;exact Cy _ (fun a f b=>EB a f b) _ (EF h) (rD fun x H=>h.wy x (mR.1 (hp.mem_iff.1 H)).1)
 ·rw[F];exact h
theorem Pn{M H:Side}{l:aP}(h:Bd M)(hl:(l.getD 0 (0,0)).2<M.next)(I:M.sU l H):Bd H:=by
 obtain⟨lp,lq,hp,hq,rfl⟩:=I;refine Cy _ (fun a f b=>EC a f b) _ ?_ (fun f G=>?_)
 ·exact⟨h.o,h.i,h.g,h.lm,h.mt,fun x F=>h.wy x (mR.1 F).1,fun x F=>h.ls x (mR.1 F).1,
   h.ky.sublist (List.filter_sublist.append List.filter_sublist),He (SF _ _) h.wl,He (SF _ _) h.ll,qag.2 ⟨h.nm,hl⟩,h.cm,fun x F=>h.tk x (mR.1 F).1⟩
 ·rcases DT.1 G with G|G
  ·exact rD (fun x F=>h.wy x (mR.1 (hp.mem_iff.1 F)).1) f G
  ·exact rD (fun x F=>h.ls x (mR.1 (hq.mem_iff.1 F)).1) f G
end Go.Proofs.YtphbledmopchnaaGreatDoor.Sd
namespace Go.Proofs.YtphbledmopchnaaGreatDoor.Sd
open Go.RowKit Go.Lib Mm Tryz
section
def DJ(W:World)(g n:Nat):Prop:=∃C fr,W.heap[g]?=some (.cells C 5 fr)/\n<=C.size/\(n<=fr.1\/fr.2=0)
theorem DJ.lt{W:World}{g n:Nat}(h:DJ W g n):g<W.heap.size:=by
 obtain⟨C,fr,h1,_⟩:=h;exact(Array.getElem?_eq_some_iff.1 h1).1
theorem DJ.of_heap{W F:World}{g n:Nat}(h:DJ W g n)(e:F.heap[g]?=W.heap[g]?):DJ F g n:=by
 obtain⟨C,fr,h1,G⟩:=h;exact⟨C,fr,e.trans h1,G⟩
theorem DJ.cell{W:World}{g n:Nat}(h:DJ W g n)(j:Nat)(H:j<n):(∃v,W.cell? (aj g j)=some v)/\W.frozen? (aj g j)=false:=by
 obtain⟨C,fr,h1,F,G⟩:=h;refine⟨⟨C[j]'(by omega),?_⟩,?_⟩
 ·simp only[qaj,h1];exact WJ (by omega)
 ·simp only[World.frozen?,h1];simp;omega
theorem DJ.set{W:World}{g n:Nat}(h:DJ W g n)(j:Nat)(v:Value):DJ (W.setCell (aj g j) v) g n:=by
 obtain⟨C,fr,h1,F,G⟩:=h;refine⟨C.setIfInBounds j v,fr,?_,by rw[Array.size_setIfInBounds];exact F,G⟩;simp[World.setCell,Array.getElem?_modify,h1]
theorem jH(w:World)(s:ByteArray)(hs:s.size<=1000000000):∃c I,(convert 9 60 (.string s)).run prog w=.ok (aS w.heap.size s.size c) I/\s.size<=c/\c<=9223372036854775807/\aD w I/\BytesAt I (some (aj w.heap.size 0)) s.data.toList/\DJ I w.heap.size s.size:=by
 have h:=run_bytes_of_string (P:=prog) w 9 60 5 s u9 u29 (by kernel_rfl);have hsz:s.data.size=s.size:=rfl;have K:=grownCap_ge w s.size 0 5
 have F:(w.drew.alloc (.cells (bytesRow s (grownCap w s.size 0 5)) 5 ((bytesRow s (grownCap w s.size 0 5)).size,(bytesRow s (grownCap w s.size 0 5)).size+1))).heap[w.heap.size]?=some (.cells (bytesRow s (grownCap w s.size 0 5)) 5 ((bytesRow s (grownCap w s.size 0 5)).size,(bytesRow s (grownCap w s.size 0 5)).size+1)):=by
  show(w.heap.push _)[w.heap.size]?=_;simp
 have G:s.size<=(bytesRow s (grownCap w s.size 0 5)).size:=by
  unfold bytesRow;rw[Array.size_append,Array.size_map,hsz];omega
 refine⟨_,_,h,K,grownCap_le_maxLen w s.size 0 5 (by unfold maxLen;omega),((Lb _ w).drew).alloc (fA _) _,fun j O=>⟨_,0,rfl,?_⟩,⟨_,_,F,G,.inl G⟩⟩
 have H:j<s.data.size:=by simpa using O
 rw[qa0];simp only[qaj,F];unfold bytesRow;rw[Array.getElem?_append_left (by simpa using H)];simp only[Array.getElem?_map,WJ H,Option.map_some,Array.getElem_toList];rfl
def SS(oZ:Own)(s:Nat)(w:World)(S bw bl bi n:Nat)(M':Side)(y:World):Prop:=
 ∃dx l2 F,bT dx s y S l2 M' bw bl bi F/\dx w.heap.size=0/\DJ y w.heap.size n/\Kp (T0 s) oZ dx w y
section
variable {oZ:Own} {s:Nat} {w:World} {S bw bl bi n:Nat} {M':Side} {y:World}
theorem SS.set(h:SS oZ s w S bw bl bi n M' y)(j:Nat)(v:Value):SS oZ s w S bw bl bi n M' (y.setCell (aj w.heap.size j) v):=by
 obtain⟨o,l2,O,h1,G,H,F⟩:=h;have K:Kp [0] o o y (y.setCell (aj w.heap.size j) v):=Kp.set o y _ v [0] (by rw[G];simp);have hs:=h1.s0;exact⟨o,l2,O,h1.kp K (fun x a b e=>by simp at e;omega),G,H.set j v,⟨F.os,F.tape,F.output,by simpa using F.size,fun b hb I=>(Ur _ _ _ _ (by simp;omega)).trans (F.blk b hb I),F.ext⟩⟩
theorem SS.step{H:Side}{y':World}(h:SS oZ s w S bw bl bi n M' y)(k:∀I l1 O,bT I s y S l1 M' bw bl bi O->fP s I y S bw bl bi H y'):SS oZ s w S bw bl bi n H y':=by
 obtain⟨o,l1,Z,h1,K,G,V⟩:=h;obtain⟨X,l2,v2,U,F⟩:=k o l1 Z h1;have hs:=h1.s0;exact⟨X,l2,v2,U,by rw[F.ext _ G.lt,K],G.of_heap (F.blk _ G.lt (by rw[K];exact fun e=>by have:=bN.1 e;omega)),V.trans F⟩
theorem SS.below{y':World}(h:SS oZ s w S bw bl bi n M' y)(hb:aD y y'):SS oZ s w S bw bl bi n M' y':=h.step fun _ _ _ g=>fP.refl g hb
theorem SS.err(h:SS oZ s w S bw bl bi n M' y)(F:eF w)(G:oZ 0∉T0 s):eF y:=by
 obtain⟨o,l1,O,h1,I,K,H⟩:=h;exact cell_of F (H.blk 0 (wz w (aj 0 0) (by unfold eF at F;rw[F])) G)
theorem SS.q(h:SS oZ s w S bw bl bi n M' y):fP s oZ w S bw bl bi M' y:=by
 obtain⟨o,l1,G,h1,H,I,F⟩:=h;exact⟨o,l1,G,h1,F⟩
end

theorem Dt{oZ:Own}{s:Nat}{w W:World}{S bw bl bi n:Nat}{l:aI}{M:Side}{vc:Value}(h:bT oZ s w S l M bw bl bi vc)(hb:aD w W)(G:DJ W w.heap.size n):SS oZ s w S bw bl bi n M W:=by
 have K:Kp [] oZ (loc oZ w.heap.size) w W:=⟨hb.os,hb.tape,hb.output,hb.size,fun x F _=>hb.block x F,fun x F=>fM _ _ _ F⟩;exact⟨_,l,vc,h.kp K (by simp),fD _ _ _ (fA _),G,K.mono (by simp)⟩
theorem VH(oZ:Own)(s:Nat)(C S:Nat)(l:aI)(M:Side)(bw bl bi:Nat)(vc:Value)(k:Nat)(hk:k<8)(data:ByteArray)(hd:data.size<=1000000000)(w:World)(h:bT oZ s w S l M bw bl bi vc)(hc:w.cell? (aj C 0)=some (ay S 0))(hy:M.why=0)(hl:(M.out k).bytes.length<=2048)(hE:eF w)(h0:oZ 0∉T0 s):
  Calls prog 34 #[ay C 0,iZ k,.string data] w fun e w'=>e=.returned (iZ (((M.out k).send data.data.toList).2:Int))/\fP s oZ w S bw bl bi (M.bf k ((M.out k).send data.data.toList).1) w':=by
 obtain⟨cp,W,ha,h7,h8,K,V,Z⟩:=jH w data hd;have h5:C<w.heap.size:=wz w (aj C 0) (by rw[hc]);have I:=Dt h K Z
 have F:data.data.toList.length=data.size:=by simp
 obtain⟨G,H⟩:∃G,G=M.bf k ((M.out k).send data.data.toList).1:=⟨_,rfl⟩
 have HC:Hid (Calls prog 61 #[ay C 0,iZ k,aS w.heap.size data.size cp] W fun e w1=>∃x,e=.returned x/\x=nu ((M.out k).send data.data.toList).2/\SS oZ s w S bw bl bi data.size G w1):=by
  refine VE C S W (cell_of hc (K.block _ h5)) k _ (fun x w1=>x=nu ((M.out k).send data.data.toList).2/\SS oZ s w S bw bl bi data.size G w1) ?_;have he:=I;obtain⟨o,l1,v1,h1,h2,U,h4⟩:=I;have:=U4 o s S l1 M bw bl bi v1 k hk data.data.toList (aj w.heap.size 0) cp W h1 hy hl V (by rw[F];exact hd);rw[F]at this;refine this.mono ?_;rintro e w1 ⟨rfl,q⟩;refine⟨_,rfl,rfl,?_⟩;obtain⟨o2,l2,v2,g1,g2⟩:=q;have hs:=h1.s0;rw[H];exact⟨o2,l2,v2,g1,by rw[g2.ext _ U.lt,h2],U.of_heap (g2.blk _ U.lt (by rw[h2];exact fun e=>by have:=bN.1 e;omega)),h4.trans g2⟩
 have HN:Hid (∀w1,SS oZ s w S bw bl bi data.size G w1->Calls prog 60 #[nu ((M.out k).send data.data.toList).2] w1 fun r w2=>r=.returned (iZ (((M.out k).send data.data.toList).2:Int))/\SS oZ s w S bw bl bi data.size G w2):=fun w1 hq=>by
  refine(rM _ (VG _ _) w1 (hq.err hE h0)).mono ?_;rintro e w2 ⟨rfl,hb⟩;exact⟨rfl,hq.below hb⟩
 rw[<-H];clear h hc hy hl hE h0 I K V Z H F;generalize ((M.out k).send data.data.toList).2=en at *;generalize data.size=n at *;go_enter func34,ntmps34
 go_wp2_with (first
  |(go_at_call 61;refine HC.out.mono ?_;rintro e w1 ⟨x,rfl,rfl,hq⟩)
  |(go_at_call 60;refine(HN.out _ hq).mono ?_;rintro e w2 ⟨rfl,X⟩;have O:=au X;clear X))
 clear HC HN hq
 go_loopw [19] (fun CF wr=>∃j:Nat,j<=n/\CF=(iZ j)/\Hid (SS oZ s w S bw bl bi n G wr)) (fun CF _=>n-(intOf CF).toNat)
 case atStart=>exact⟨0,nI _,rfl,O⟩
 case round=>
  obtain⟨j,hj,rfl,HR⟩:=hrel;clear O
  by_cases h6:j<n
  ·have h9:(j:Int)<(n:Int):=by omega
   obtain⟨⟨v,e1⟩,e2⟩:(∃v,wr.cell? (aj w.heap.size j)=some v)/\wr.frozen? (aj w.heap.size j)=false:=by
    obtain⟨o,l1,v1,h1,h2,U,h4⟩:=HR.out;exact U.cell j h6
   have HS:=au (HR.out.set j (.int .u8 33));go_wp2;go_roundw
   case rel=>exact⟨j+1,by omega,by simp,HS⟩
   case measure=>simp[intOf];omega
  ·obtain rfl:j=n:=by omega
   go_wp2;go_ret;exact⟨rfl,HR.out.q⟩
end
def vD(s t:Nat)(oZ:Own)(S o:Nat)(l:aI)(w:World)(m':bU)(w':World)(v:Value):Prop:=
 ∃aC l',Kp [s,t,t+1] oZ aC w w'/\aA w' S TS l'/\iN l l' o 13/\AX aC t w' l' o m'/\∀b,v.ownBlock=some b->aC b=0
theorem vD.drewN{s t:Nat}{oZ:Own}{S o:Nat}{l:aI}{w w':World}{m:bU}{v:Value}(h:vD s t oZ S o l w m w' v)(q:Nat):vD s t oZ S o l w m (w'.drewN q) v:=by
 obtain⟨aC,l',h1,F,G,H,I⟩:=h;exact⟨aC,l',h1.drewN q,F,G,H.kp (Kp.below (w':=w'.drewN q) (T:=[]) ⟨rfl,rfl,rfl,fA _,fun _ _=>rfl⟩) (by simp) (by simp) (iN.refl l' (o+13) 0) (by omega),I⟩
def Rp(s:Nat)(oZ:Own)(w:World)(S:Nat)(bw bl bi:Nat)(M':Side)(w':World)(v:Value):Prop:=∃aC l' F,bT aC s w' S l' M' bw bl bi F/\Kp (T0 s) oZ aC w w'/\∀b,v.ownBlock=some b->aC b=0
theorem VI(s t:Nat)(oZ:Own)(S o n:Nat)(m:bU)(l:aI)(w:World)(hB:aA w S TS l)(hS:oZ S=s)(xr:0<s)(xt:s<t)(hO:AX oZ t w l o m)(x3:1<=n)(hn:n<=m.held.length)(hw:m.came.length=m.held.length)(hl:m.held.length<=1000000)(hr:m.read+n<=aZ):
  Calls prog 238 #[ay S o,iZ n] w fun e w'=>∃a c,e=.returned (.slice a n c)/\bK 5 1 w' (.slice a n c) n (aQ (m.held.take n))/\jX w.heap.size (.slice a n c)/\vD s t oZ S o l w (m.cut n) w' (.slice a n c):=by
 obtain⟨ow,G⟩:∃ow,ow=loc oZ w.heap.size:=⟨_,rfl⟩
 have I:ow S=s:=by rw[G,fM _ _ _ hB.lt,hS]
 have xa:AX ow t w l o m:=by rw[G];exact hO.loc
 obtain⟨vh,vc,k1,k2,k3⟩:=xa;obtain⟨ah,ch,rfl,xf,_⟩:=k2.shape;obtain⟨ac,cc,rfl,xe,_⟩:=k3.shape;have xm:=hB.lt;obtain⟨i5,x0,x6,he,hu⟩:=info_parts info5;have ha:=run_makeSlice (P:=prog) w 60 5 i5 _ u29 x0 x6 .i64 .i64 (n:Int) (n:Int) (by omega) (Int.le_refl _) (by rw[he];omega) (by rw[hu];omega) (by omega);obtain⟨ZA,h8⟩:∃ZA,ZA=madeCells (Value.int .u8 0).cells ((n:Int).toNat*i5.size):=⟨_,rfl⟩
 have x7:ZA.toList.length=n:=by
  rw[h8,Array.length_toList,size_madeCells,he];omega
 rw[<-h8]at ha;obtain⟨Z,X⟩:∃Z,Z=w.alloc (.cells ZA 5):=⟨_,rfl⟩;rw[<-X]at ha;simp only[Int.toNat_natCast]at ha
 have h9:aA Z w.heap.size 5 ZA.toList:=by rw[X];exact aA.new w 5 _
 have jS:aD w Z:=by rw[X];exact(Lb _ w).alloc (fA _) _
 have xn:Z.heap.size=w.heap.size+1:=by rw[X];simp
 have h6:=hB.of_heap (jS.block _ xm);have x8:=k2.kp (Kp.below (T:=[]) jS) (by simp)
 obtain⟨g,hg⟩:∃g,ah=some (aj g 0):=by
  rcases k2 with⟨h1,h2,_⟩|⟨g,cap,cs,hv,_⟩
  ·omega
  ·simp at hv;exact⟨g,hv.1⟩
 subst hg
 have hx:=fun ty=>gy (P:=prog) (w:=Z) 60 60 ty 5 (g:=w.heap.size) (o:=0) (dLen:=n) (dCap:=n) h9 (aj g 0) m.held.length ch 1 n (aQ (m.held.take n)) u29 (by kernel_rfl) (by show min m.held.length n=n;omega) (by rw[aY];simp;omega) (fun j v hj=>by
  rw[YF,qa0]
  obtain⟨g',xi,_,_,hc,_⟩:=x8.cell j v (by
   have xj:(aQ m.held)[j]?=some v:=by
    have:(aQ (m.held.take n))=(aQ m.held).take n:=by simp[aQ]
    rw[this,qa5]at hj;split at hj
    ·exact hj
    ·cases hj
   exact xj)
  cases xi
  exact hc) (by rw[x7,aY];simp;omega) (dW _)
 have x4:splice ZA.toList 0 (aQ (m.held.take n))=aQ (m.held.take n):=by
  have xl:(aQ (m.held.take n)).length=n:=by rw[aY];simp;omega
  unfold splice;rw[List.take_zero,xl,List.drop_of_length_le (by omega)];simp
 rw[x4]at hx;obtain⟨W2,h0⟩:∃W2,W2=put Z w.heap.size (aQ (m.held.take n)):=⟨_,rfl⟩
 have Rq:aA W2 w.heap.size 5 (aQ (m.held.take n)):=by rw[h0];exact h9.put _
 have h5:je w.heap.size Z W2:=by rw[h0];exact⟨rfl,rfl,rfl,by simp[put],fun k hk=>dK _ _ _ _ hk⟩
 have F:=h5.below jS (fA _);have O:=h6.of_heap (h5.block _ (by omega));have Zt:=k2.kp (Kp.below (T:=[]) F) (by simp);have Zu:=k3.kp (Kp.below (T:=[]) F) (by simp);rw[<-h0]at hx
 have d5:Z.cell? (aj S (o+5))=some (aS g m.held.length ch):=by rw[h6.cell];exact k1.c5
 have e5:W2.cell? (aj S (o+5))=some (aS g m.held.length ch):=by rw[O.cell];exact k1.c5
 have HD:=au (O_ ow t n m.held (some (aj g 0)) ch W2 x3 hn hl Zt);have HK:=au (And.intro O (And.intro k1 (And.intro Zu (And.intro Rq F))));have HH:=au (And.intro I G)
 have h4:ow w.heap.size=0:=by rw[G,fD _ _ _ (fA _)]
 have xv:W2.heap.size=w.heap.size+1:=by rw[h5.size,xn]
 have g1:((n:Int)==0)=false:=by simp;omega
 have g2:(0:Int)<=(n:Int):=by omega
 clear k1 k2 k3 x8 Zt Zu hB h6 O h9 Rq jS F h5 x4 hO I G h0 xf xe x7 x0 x6 he hu h8 X;have Ac:=au hw;clear hw;go_enter func238,ntmps238
 go_wp2_with fail
 refine HD.out.mono ?_;rintro e y ⟨a1,c1,rfl,U,H⟩;obtain⟨O,k1,k3,Rq,F⟩:=HK.out;obtain⟨I,G⟩:=HH.out;have Dk:=aO O H (by rw[I];simp;omega);have Rs:=aO Rq H (by rw[h4];simp;omega);have x9:=k3.kp H (by simp)
 have d5:y.cell? (aj S (o+5))=some (aS g m.held.length ch):=by rw[Dk.cell];exact k1.c5
 have d6:y.cell? (aj S (o+6))=some (.slice ac m.came.length cc):=by rw[Dk.cell];exact k1.c6
 have f5:=Dk.frozen (o+5);have hy:=dL.one Dk (o+5) (.slice a1 (m.held.length-n) c1) o 13 (by omega) (by omega);obtain⟨Y1,h7⟩:∃Y1,Y1=y.setCell (aj S (o+5)) (.slice a1 (m.held.length-n) c1):=⟨_,rfl⟩;rw[<-h7]at hy;have K:=hy.kp I (T:=[s]) (by simp);have hm:=au (Pb ow (t+1) n m.came ac cc Y1 x3 (by rw[Ac.out];exact hn) (by rw[Ac.out];exact hl) (x9.kp K (by simp;omega)));have OX:=au (And.intro hy (And.intro (U.kp K (by simp;omega)) (And.intro (aO Rs K (by rw[h4];simp;omega)) (And.intro H K))));clear O k3 Rq Dk Rs x9 U H hy K e5 HD
 go_wp2_with fail
 rw[<-h7];clear h7 d5 d6 f5;refine hm.out.mono ?_;rintro e z ⟨a2,c2,rfl,ho,V⟩;obtain⟨hy,U,Rs,H,K⟩:=OX.out;have jc:=aO hy.blk V (by rw[I];simp;omega);have Zv:=aO Rs V (by rw[h4];simp);have i1:=Et k1 (.slice a1 (m.held.length-n) c1) (m.held.drop n)
 have d6:z.cell? (aj S (o+6))=some (.slice ac m.came.length cc):=by rw[jc.cell];exact i1.c6
 have d4:z.cell? (aj S (o+4))=some (uZ m.read):=by rw[jc.cell];exact i1.c4
 have ff:=fun j=>jc.frozen j
 have HF:Hid (bK 5 1 ((z.setCell (aj S (o+6)) (.slice a2 (m.came.length-n) c2)).setCell (aj S (o+4)) (uZ ((m.read+n:Nat):Int))) (aS w.heap.size n n) n (aQ (m.held.take n))/\jX w.heap.size (aS w.heap.size n n)/\vD s t oZ S o l w (m.cut n) ((z.setCell (aj S (o+6)) (.slice a2 (m.came.length-n) c2)).setCell (aj S (o+4)) (uZ ((m.read+n:Nat):Int))) (aS w.heap.size n n)):=by
  have x5:=dL.one jc (o+6) (.slice a2 (m.came.length-n) c2) o 13 (by omega) (by omega);have hf:=x5.trans (dL.one x5.blk (o+4) (uZ ((m.read+n:Nat):Int)) o 13 (by omega) (by omega));have h3:=hf.kp I (T:=[s]) (by simp);have xd:=aO Zv h3 (by rw[h4];simp;omega);refine⟨.inr ⟨w.heap.size,n,_,rfl,xd,by rw[aY,Aw];omega,fA _,by omega,by rw[aY,Aw];omega,by rw[Nat.mul_one];exact List.take_of_length_le (by rw[aY,Aw];omega),dW _⟩,fun k hk=>by simp[Ui]at hk;omega,?_⟩
  have hK:Kp [s,t,t+1] ow ow w ((z.setCell (aj S (o+6)) (.slice a2 (m.came.length-n) c2)).setCell (aj S (o+4)) (uZ ((m.read+n:Nat):Int))):=
   ((((Kp.below F).trans (H.mono (by simp))).trans (K.mono (by simp))).trans (V.mono (by simp))).trans (h3.mono (by simp))
  rw[G]at hK;refine⟨_,_,hK.jm,hf.blk,hy.win.trans hf.win,⟨.slice a1 (m.held.length-n) c1,.slice a2 (m.came.length-n) c2,Pf (Eu i1 (.slice a2 (m.came.length-n) c2) (m.came.drop n)) (m.read+n),?_,?_⟩,fun b hb=>by simp[Ui]at hb;rw[<-hb];exact fD _ _ _ (fA _)⟩
  ·have:=(U.kp V (by simp)).kp h3 (by simp;omega);rw[G]at this;exact this
  ·have:=ho.kp h3 (by simp;omega);rw[G]at this;exact this
 rw[show((m.read+n:Nat):Int)=(m.read:Int)+(n:Int) by omega]at HF
 have xo:m.read+n<18446744073709551616:=by unfold aZ at hr;omega
 have xp:n<18446744073709551616:=by omega
 clear hy U Rs H K jc Zv i1 ho V k1 F OX hm I G HH HK hr;go_wp2;go_ret;exact⟨_,_,rfl,HF.out⟩
theorem Rt(s t:Nat)(oZ:Own)(S o n:Nat)(m:bU)(l:aI)(w:World)(hB:aA w S TS l)(O:oZ S=s)(G:0<s)(H:s<t)(I:AX oZ t w l o m)(V:n<=m.held.length)(F:m.came.length=m.held.length)(hl:m.held.length<=1000000)(X:m.read+n<=aZ):
  Calls prog 238 #[ay S o,iZ n] w fun e w'=>∃a c,e=.returned (.slice a n c)/\bK 5 1 w' (.slice a n c) n (aQ (m.held.take n))/\jX w.heap.size (.slice a n c)/\vD s t oZ S o l w (m.cut n) w' (.slice a n c):=by
 by_cases K:n=0
 ·subst K;refine(U2 S o w).mono ?_;rintro e w' ⟨rfl,rfl⟩;exact⟨none,0,rfl,.inl ⟨rfl,rfl,by simp[aQ]⟩,fun k U=>by simp[Ui]at U,by rw[Qr];exact⟨oZ,l,Kp.refl _ _ _,hB,iN.refl _ _ _,I,fun b hb=>by simp[Ui]at hb⟩⟩
 ·exact VI s t oZ S o n m l w hB O G H I (by omega) V F hl X
theorem Ru(s t:Nat)(oZ:Own)(S o:Nat)(most:Int)(m:bU)(l:aI)(w:World)(hB:aA w S TS l)(hS:oZ S=s)(ha:0<s)(h5:s<t)(hO:AX oZ t w l o m)(ok:SX m)(hr:m.read+m.held.length<=aZ):
  Calls prog 184 #[ay S o,iZ most] w fun e w'=>∃a c,e=.returned (.tuple #[.slice a (m.rd most).1.length c,(iZ ((m.rd most).2.state:Int))])/\bK 5 1 w' (.slice a (m.rd most).1.length c) (m.rd most).1.length (aQ (m.rd most).1)/\jX w.heap.size (.slice a (m.rd most).1.length c)/\vD s t oZ S o l w (m.rd most).2 w' (.slice a (m.rd most).1.length c):=by
 have h8:=hB.lt;obtain⟨vh,vc,k1,k2,k3⟩:=hO;have UE:=au (Pd oZ (t+1) S o m vh vc l w hB k1 k3 (by rw[ok.cl];exact ok.hl))
 have h9:m.ready<=m.held.length:=by rw[<-ok.cl];exact yg m.came
 obtain⟨n,hn⟩:∃n,n=min m.ready (max most 0).toNat:=⟨_,rfl⟩;obtain⟨x1,hg,hc⟩:=YM most 0;obtain⟨x2,hj,he⟩:=OB (m.ready:Int) x1
 obtain rfl:x2=(n:Int):=by omega
 have h0:(m.held.take n).length=n:=by simp;omega
 have uh:Hid ((m.rd most).1=m.held.take n):=by unfold Hid;rw[hn];rfl
 have F:Hid ((m.rd most).2={m.cut n with state:=if(m.cut n).state=0 then(m.cut n).reached else(m.cut n).state}):=by unfold Hid;rw[hn];rfl
 generalize m.rd most=X at *;rw[uh.out,h0];have HC:=au (Rt s t oZ S o n m l w hB hS ha h5 ⟨vh,vc,k1,k2,k3⟩ (by omega) ok.cl ok.hl (by omega));have G:Hid ((m.cut n).state=m.state):=rfl;generalize m.cut n=M at *;generalize m.ready=RD at *;clear hn hc he h9 hB k1 k2 k3 hr ok
 by_cases Jj:m.state=0
 ·rw[G.out,if_pos Jj]at F;go_enter func184,ntmps184
  go_wp2_with fail
  refine UE.out.mono ?_;rintro e y ⟨rfl,rfl⟩
  go_wp2_with fail
  refine HC.out.mono ?_;rintro e z ⟨a,c,rfl,O,hF,bD,l1,h1,I,h3,h4,hz⟩;obtain⟨vh,vc,K,i2,i3⟩:=h4;have H:z.cell? (aj S (o+12))=some (iZ M.state):=Xo S o M vh vc z l1 I K;rw[G.out,Jj]at H;have V:=au (Hr S o M vh vc z l1 I K)
  have HK:Hid (∀q,vD s t oZ S o l y {M with state:=M.reached} ((z.drewN q).setCell (aj S (o+12)) (iZ M.reached)) (.slice a n c)/\bK 5 1 ((z.drewN q).setCell (aj S (o+12)) (iZ M.reached)) (.slice a n c) n (aQ (m.held.take n))):=fun q=>by
   have h7:bD S=s:=by rw[h1.ext _ h8,hS]
   have h6:AX bD t (z.drewN q) l1 o M:=AX.kp ⟨vh,vc,K,i2,i3⟩ (Kp.below (w':=z.drewN q) (T:=[]) ⟨rfl,rfl,rfl,fA _,fun _ _=>rfl⟩) (by simp) (by simp) (iN.refl l1 (o+13) 0) (by omega);obtain⟨dx,l2,g1,g2,g3,g4⟩:=U3 (w:=z.drewN q) I h7 h5 h6 (o+12) (iZ M.reached) (by omega) (by omega) (m':={M with state:=M.reached}) (fun _ _ h=>LP h _) rfl rfl;exact⟨⟨dx,l2,(h1.drewN q).trans g1,g2,h3.trans g3,g4,fun b hb=>by rw[g1.ext b (O.lt b hb),hz b hb]⟩,O.of_heap (fun b hb=>Ur _ _ _ _ (by have:=hF b hb;simp;omega))⟩
  have f12:=I.frozen (o+12);have HF:=au hF;clear h1 I h3 K i2 i3 O hF Jj hz;generalize M.reached=R at *
  go_wp2_with fail
  refine V.out.mono ?_;rintro e v ⟨rfl,q,rfl⟩;have U:=au (HK.out q);have hf:(z.drewN q).cell? (aj S (o+12))=some (iZ 0):=H;have ef:(z.drewN q).frozen? (aj S (o+12))=false:=f12;generalize z.drewN q=Z at *;clear H f12 V HK HC UE
  go_wp2_with fail
  go_quiet (fail)
  go_wp2;go_ret2;refine⟨a,c,Qs rfl (by rw[F.out]),?_,HF.out,?_⟩
  ·exact bK.of_heap U.out.2 (fun _ _=>rfl)
  ·rw[F.out];exact vD.drewN U.out.1 _
 ·rw[G.out,if_neg Jj]at F
  have tQ:((m.state:Int)==0)=false:=by simp;omega
  have HM:Hid (({M with state:=m.state}:bU)=M):=by unfold Hid;rw[<-G.out]
  go_enter func184,ntmps184
  go_wp2_with fail
  refine UE.out.mono ?_;rintro e y ⟨rfl,rfl⟩
  go_wp2_with fail
  refine HC.out.mono ?_;rintro e z ⟨a,c,rfl,O,hF,hQ⟩;obtain⟨bD,l1,h1,I,h3,h4,hz⟩:=hQ;have HQ:Hid (vD s t oZ S o l y M z (.slice a n c)):=⟨bD,l1,h1,I,h3,h4,hz⟩;obtain⟨vh,vc,K,i2,i3⟩:=h4;have H:z.cell? (aj S (o+12))=some (iZ M.state):=Xo S o M vh vc z l1 I K;rw[G.out]at H;have HG:=au (And.intro O hF);clear h1 I h3 K i2 i3 O hF Jj HC UE hz
  go_wp2_with fail
  go_quiet (fail)
  go_wp2;go_ret2;refine⟨a,c,Qs rfl (by rw[F.out]),?_,HG.out.2,?_⟩
  ·exact bK.of_heap HG.out.1 (fun _ _=>rfl)
  ·rw[F.out,HM.out];exact vD.drewN HQ.out _
theorem bT.Zw{oZ:Own}{s:Nat}{w w':World}{S:Nat}{l:aI}{M:Side}{bw bl bi:Nat}{vc:Value}(h:bT oZ s w S l M bw bl bi vc)(k:Nat)(U:k<8)(m:bU)(v:Value)(q:vD s (s+4+5*k) oZ S (18+27*k) l w m w' v):Rp s oZ w S bw bl bi (M.dA k m) w' v:=by
 obtain⟨aC,l',K,hB,wi,O,hz⟩:=q
 have F:∀x,x∈[s,s+4+5*k,s+4+5*k+1]->x=s\/(s+4+5*k<=x/\x<=s+5+5*k):=fun x I=>by
  simp only[qa3,List.not_mem_nil,or_false]at I;omega
 have V:∀j,(M.dA k m).inn j=if j=k then m else M.inn j:=fun j=>by
  rw[gL,h.li]
  by_cases G:j=k
  ·rw[if_pos ⟨G,U⟩,if_pos G]
  ·rw[if_neg (fun x=>G x.1),if_neg G]
 refine⟨aC,l',vc,⟨by rw[K.ext S h.blk.lt,h.ow],h.s0,hB,?_,fun j G=>?_,fun j G=>?_,h.row.kp K (fun e=>by have:=F _ e;omega),h.way.kp K (fun e=>by have:=F _ e;omega) (fun e=>by have:=F _ e;omega),h.lost.kp K (fun e=>by have:=F _ e;omega) (fun e=>by have:=F _ e;omega),h.qu.kp K (fun e=>by have:=F _ e;omega),h.lo,(eX _ _ _).trans h.li⟩,K.mono fun x I=>bN.2 (by have:=F x I;omega),hz⟩
 ·have c:=h.cells.win wi (by omega) (by omega);exact⟨c.len,c.c0,c.c1,c.c2,c.c3,c.mH,c.gr,c.oh,c.c226,c.c227,c.c228,c.c229,c.kL,c.nC,c.c232,c.c233,c.c234,c.nD,c.c236,c.o9,c.kM,c.o_⟩
 ·exact(h.out j G).kp K (fun e=>by have:=F _ e;omega) (fun e=>by have:=F _ e;omega) (fun e=>by have:=F _ e;omega) wi (by omega)
 ·rw[V]
  by_cases H:j=k
  ·subst H;rw[if_pos rfl];exact O
  ·rw[if_neg H];exact(h.inn j G).kp K (fun e=>by have:=F _ e;omega) (fun e=>by have:=F _ e;omega) wi (by omega)
theorem Rv(oZ:Own)(s:Nat)(S:Nat)(l:aI)(M:Side)(bw bl bi:Nat)(vc:Value)(k:Nat)(I:k<8)(most:Int)(w:World)(h:bT oZ s w S l M bw bl bi vc)(V:M.why=0)(ok:SX (M.inn k))(U:(M.inn k).read+(M.inn k).held.length<=aZ):
  Calls prog 140 #[ay S 0,iZ k,iZ most] w fun e w'=>∃a c,e=.returned (.tuple #[.slice a ((M.inn k).rd most).1.length c,(iZ (((M.inn k).rd most).2.state:Int)),.nilIface])/\bK 5 1 w' (.slice a ((M.inn k).rd most).1.length c) ((M.inn k).rd most).1.length (aQ ((M.inn k).rd most).1)/\jX w.heap.size (.slice a ((M.inn k).rd most).1.length c)/\Rp s oZ w S bw bl bi (M.dA k ((M.inn k).rd most).2) w' (.slice a ((M.inn k).rd most).1.length c):=by
 have K:=au (vk S k I w (h.open V))
 have F:18+27*k=4+27*k+14:=by omega
 have G:=Ru s (s+4+5*k) oZ S (18+27*k) most (M.inn k) l w h.blk h.ow h.s0 (by omega) (h.inn k I) ok U;rw[F]at G
 have H:∀w' v,vD s (s+4+5*k) oZ S (4+27*k+14) l w ((M.inn k).rd most).2 w' v->Rp s oZ w S bw bl bi (M.dA k ((M.inn k).rd most).2) w' v:=fun w' v q=>h.Zw k I _ v (by rw[F];exact q)
 replace G:=au G;replace H:=au H;generalize (M.inn k).rd most=X at *;go_enter func140,ntmps140
 go_wp2_with (first
  |(go_at_call 146;refine K.out.mono ?_;rintro e w' ⟨rfl,rfl⟩)
  |(go_at_call 184;refine G.out.mono ?_;rintro e w' ⟨a,c,rfl,h1,O,hq⟩)
  |go_in)
 go_ret3
 exact⟨a,c,rfl,h1,O,H.out _ _ hq⟩
section
theorem Rw(w:World):(convert 60 9 nZ).run prog w=.ok (.string ⟨#[]⟩) w:=by kernel_rfl
def SR(oZ:Own)(s:Nat)(w:World)(S bw bl bi g n:Nat)(M':Side)(y:World):Prop:=
 ∃dx l2 F,bT dx s y S l2 M' bw bl bi F/\dx g=0/\DJ y g n/\w.heap.size<=g/\Kp (T0 s) oZ dx w y
section
variable {oZ:Own} {s:Nat} {w:World} {S bw bl bi g n:Nat} {M':Side} {y:World}
theorem SR.set(h:SR oZ s w S bw bl bi g n M' y)(j:Nat)(v:Value):SR oZ s w S bw bl bi g n M' (y.setCell (aj g j) v):=by
 obtain⟨o,l2,U,h1,G,H,I,F⟩:=h;have K:Kp [0] o o y (y.setCell (aj g j) v):=Kp.set o y _ v [0] (by rw[G];simp);have hs:=h1.s0;exact⟨o,l2,U,h1.kp K (fun x a b e=>by simp at e;omega),G,H.set j v,I,⟨F.os,F.tape,F.output,by simpa using F.size,fun b hb O=>(Ur _ _ _ _ (by simp;omega)).trans (F.blk b hb O),F.ext⟩⟩
theorem SR.q(h:SR oZ s w S bw bl bi g n M' y):fP s oZ w S bw bl bi M' y:=by
 obtain⟨o,l1,G,h1,H,I,K,F⟩:=h;exact⟨o,l1,G,h1,F⟩
end
theorem zH{oZ:Own}{s:Nat}{w:World}{S bw bl bi:Nat}{M':Side}(w1:World)(hq:fP s oZ w S bw bl bi M' w1):Calls prog 60 #[.nilIface] w1 fun r w2=>r=.returned (iZ 0)/\fP s oZ w S bw bl bi M' w2:=by
 obtain⟨o1,l1,H,F,G⟩:=hq;refine(vC .nilIface 0 (-1) w1 _ (tZ w1)).mono ?_;rintro e w' ⟨rfl,hb⟩;exact⟨rfl,o1,l1,H,F.below hb,G.fK hb⟩
theorem VJ(oZ:Own)(s:Nat)(C S:Nat)(l:aI)(M:Side)(bw bl bi:Nat)(vc:Value)(k:Nat)(hk:k<8)(most:Int)(w:World)(h:bT oZ s w S l M bw bl bi vc)(hc:w.cell? (aj C 0)=some (ay S 0))(hy:M.why=0)(ib:Bb (M.inn k)):
  Calls prog 58 #[ay C 0,iZ k,iZ most] w fun e w'=>e=.returned (.tuple #[.string ⟨((M.inn k).rd most).1.toArray⟩,(iZ (((M.inn k).rd most).2.state:Int)),iZ 0])/\fP s oZ w S bw bl bi (M.dA k ((M.inn k).rd most).2) w':=by
 have V:((M.inn k).rd most).1.length<=2048:=by
  have:=ib.l;show((M.inn k).held.take _).length<=2048;rw[Aw];omega
 have K:Hid (Calls prog 106 #[ay C 0,iZ k,iZ most] w fun e w1=>∃x y z,e=.returned (.tuple #[x,y,z])/\∃a c,(x=.slice a ((M.inn k).rd most).1.length c/\y=(iZ (((M.inn k).rd most).2.state:Int))/\z=.nilIface)/\Hid (bK 5 1 w1 (.slice a ((M.inn k).rd most).1.length c) ((M.inn k).rd most).1.length (aQ ((M.inn k).rd most).1)/\jX w.heap.size (.slice a ((M.inn k).rd most).1.length c)/\Rp s oZ w S bw bl bi (M.dA k ((M.inn k).rd most).2) w1 (.slice a ((M.inn k).rd most).1.length c))):=by
  refine VF C S w hc k most (fun x y z w1=>∃a c,(x=.slice a ((M.inn k).rd most).1.length c/\y=(iZ (((M.inn k).rd most).2.state:Int))/\z=.nilIface)/\Hid (bK 5 1 w1 (.slice a ((M.inn k).rd most).1.length c) ((M.inn k).rd most).1.length (aQ ((M.inn k).rd most).1)/\jX w.heap.size (.slice a ((M.inn k).rd most).1.length c)/\Rp s oZ w S bw bl bi (M.dA k ((M.inn k).rd most).2) w1 (.slice a ((M.inn k).rd most).1.length c))) ?_;refine(Rv oZ s S l M bw bl bi vc k hk most w h hy ib.ok (by have:=ib.l;unfold aZ;omega)).mono ?_;rintro e w1 ⟨a,c,rfl,h1,h2,h3⟩;exact⟨_,_,_,rfl,a,c,⟨rfl,rfl,rfl⟩,h1,h2,h3⟩
 clear h hc hy ib;generalize (M.inn k).rd most=X at *;obtain⟨bs,i2⟩:=X;simp only at K V ⊢;generalize h0:M.dA k i2=M2 at *;clear h0;obtain⟨n,I⟩:∃n,n=bs.length:=⟨_,rfl⟩;rw[<-I]at K V;have HL:=au I;clear I;go_enter func58,ntmps58
 go_wp2_with (go_at_call 106;refine K.out.mono ?_;rintro e w1 ⟨x,y,z,rfl,a,c,⟨rfl,rfl,rfl⟩,H1⟩)
 obtain⟨hG,hF,Z⟩:=H1.out
 rcases hG with⟨O,en,_⟩|⟨g,cap,cs,O,hB,hcl,hc1,hc2,hc3,hc4,_⟩
 ·have h5:bs=[]:=List.length_eq_zero_iff.1 (by rw[<-HL.out];exact en);subst h5;simp only[Value.slice.injEq]at O;obtain⟨rfl,rfl,rfl⟩:=O;have F:=Rw
  have HN:Hid (Calls prog 60 #[.nilIface] w1 fun r w2=>r=.returned (iZ 0)/\fP s oZ w S bw bl bi M2 w2):=by
   obtain⟨o1,l1,v1,g1,g2,_⟩:=Z;exact zH w1 ⟨o1,l1,v1,g1,g2⟩
  clear H1 hF Z K HL;go_wp2;refine wp_loop_rounds 1 ?_;rw[rounds_succ]
  go_wp2_with (go_at_call 60;refine HN.out.mono ?_;rintro e w2 ⟨rfl,G⟩)
  go_ret3
  exact⟨rfl,G⟩
 ·simp only[Value.slice.injEq]at O;obtain⟨rfl,_,rfl⟩:=O;have I:=HL.out;have U:w.heap.size<=g:=hF g rfl
  have F:=run_convert_bytes_back (P:=prog) w1 60 9 5 (aj g 0) c bs u29 (by kernel_rfl) u9 (fun j hj=>by
   rw[YF,qa0,hB.cell]
   have:(cs.take (n*1))[j]?=(aQ bs)[j]?:=by rw[hc4]
   rw[qa5,if_pos (by omega)]at this;rw[this]
   simp[aQ,hj])
  rw[<-I]at F
  have I4:Hid (SR oZ s w S bw bl bi g n M2 w1):=by
   obtain⟨o1,l1,v1,g1,g2,g3⟩:=Z;exact⟨o1,l1,v1,g1,g3 g rfl,⟨cs.toArray,(0,0),hB,by simp;omega,.inr rfl⟩,U,g2⟩
  clear H1 hF Z K hB hcl hc1 hc2 hc3 hc4 I U;rw[F];go_simp;go_wp2
  go_loopw [26] (fun H wr=>∃j:Nat,j<=n/\H=(iZ j)/\Hid (SR oZ s w S bw bl bi g n M2 wr)) (fun H _=>n-(intOf H).toNat)
  case atStart=>exact⟨0,nI _,rfl,I4⟩
  case round=>
   obtain⟨j,hj,rfl,HR⟩:=hrel;clear I4 F
   by_cases h6:j<n
   ·have h7:(j:Int)<(n:Int):=by omega
    obtain⟨⟨v,e1⟩,e2⟩:(∃v,wr.cell? (aj g j)=some v)/\wr.frozen? (aj g j)=false:=by
     obtain⟨o,l1,v1,h1,h2,h3,h4⟩:=HR.out;exact h3.cell j h6
    have HS:=au (HR.out.set j (.int .u8 33));go_wp2;go_roundw
    case rel=>exact⟨j+1,by omega,by simp,HS⟩
    case measure=>simp[intOf];omega
   ·obtain rfl:j=n:=by omega
    have HN:=au (zH wr HR.out.q)
    go_wp2_with (go_at_call 60;refine HN.out.mono ?_;rintro e w2 ⟨rfl,G⟩)
    go_ret3
    exact⟨rfl,G⟩
end
def uo(id dl:Nat)(d:ByteArray):Fr:={dS with kind:=7,id:=id,deadline:=dl,data:=d}
theorem FL:∀L K:List Fr,iU (L++K)=iU L++iU K
 |[],_=>rfl
 |x::t,K=>by show bZ x _++iU (t++K)=(bZ x _++iU t)++iU K;rw[FL t K,qaa]
theorem NM(oZ:Own)(s:Nat)(S:Nat)(l:aI)(M:Side)(bw bl bi:Nat)(vc:Value)(id dl:Nat)(bs:List UInt8)(a:Addr)(c:Nat)(most:Int)(w:World)(h:bT oZ s w S l M bw bl bi vc)(h1:id<4611686018427387903)(h2:dl<=4611686018427387903)(h3:M.least<=id)(hb:BytesAt w (some a) bs)(ha:a.block≠S)(h4:(bs.length:Int)<=most)(_hm:most<=1000)(h5:M.queue.length<16):
  Calls prog 189 #[ay S 233,uZ id,uZ dl,.slice (some a) bs.length c,iZ most] w fun e w'=>e=.returned .nilIface/\Hid (∃v,fP s oZ w S bw bl bi {M with queue:=M.queue++[uo id dl ⟨bs.toArray⟩],qv:=v,least:=id+1} w'):=by
 have h7:=h.blk.lt;have hg:=h.cells.len;obtain⟨qa,qc,U,_,_⟩:=h.qu.shape
 have c233:w.cell? (aj S 233)=some (.slice qa M.queue.length qc):=by rw[h.blk.cell,h.cells.c233,U]
 have c234:w.cell? (aj S 234)=some (uZ M.least):=by rw[h.blk.cell];exact h.cells.c234
 have f234:=h.blk.frozen 234;obtain⟨F,G⟩:∃F,F=w.setCell (aj S 234) (uZ ((id:Int)+1)):=⟨_,rfl⟩
 have Z:aA F S TS (l.set 234 (uZ ((id:Int)+1))):=by rw[G];exact h.blk.setCell 234 _
 have K1:Kp [s] oZ oZ w F:=by rw[G];exact Kp.set oZ w _ _ _ (by show oZ S∈_;rw[h.ow];simp)
 have hk:=h.s0
 have X:F.heap.size=w.heap.size:=by rw[G];simp
 have hn:F.cell? (aj S 233)=some (.slice qa M.queue.length qc):=by rw[Z.cell,uj (by omega),h.cells.c233,U]
 obtain⟨V,hV⟩:∃V,V=bZ (uo id dl ⟨bs.toArray⟩) nZ:=⟨_,rfl⟩;obtain⟨W2,O⟩:∃W2,W2=((F.alloc (.cells V.toArray 65)).drew):=⟨_,rfl⟩
 have I:aD F W2:=by
  rw[O];have H:=(Lb F.heap.size F).alloc (fA _) (.cells V.toArray 65);exact⟨H.os,H.tape,H.output,H.size,H.block⟩
 have h6:aA W2 F.heap.size 65 V:=by rw[O];exact aA.new F 65 V
 have hf:(convert 60 9 (.slice (some a) bs.length c)).run prog F.drew=.ok (.string ⟨bs.toArray⟩) F.drew:=run_convert_bytes_back (P:=prog) F.drew 60 9 5 a c bs u29 (by kernel_rfl) u9 (fun i hi=>by
  obtain⟨b,off,e,hc⟩:=hb i hi;cases e;rw[YF];show F.cell? _=_;rw[G,World.cell?_setCell_far _ _ _ _ (fun e=>ha e.symm)]
  exact hc)
 obtain⟨v2,w3,nP,run,hG,K3⟩:=bW lS ((h.qu.kp K1 (by simp)).kp (Kp.below (T:=[]) I) (by simp)) (aj F.heap.size 0) 1 1 V (by rw[hV];rfl) (by rw[hV];exact CU _ _ rfl) (fun j x hx=>by
  have e:(aj F.heap.size 0).add j=(aj F.heap.size j):=by rw[YF,qa0]
  rw[e,h6.cell,hx]) (by omega)
 obtain⟨a2,c2,h0,_,_⟩:=hG.shape
 have h8:oZ S∉[s+53]:=by rw[h.ow];simp
 have K:aA w3 S TS (l.set 234 (uZ ((id:Int)+1))):=aO (bI I Z) K3 h8
 have h9:w3.cell? (aj S 233)=some (.slice qa M.queue.length qc):=by rw[K.cell,uj (by omega),h.cells.c233,U]
 have hm:=K.frozen 233;rw[U]at run
 have uV:S<F.heap.size:=by omega
 have he:S≠F.heap.size:=by omega
 have HE:Hid (∃v,fP s oZ w S bw bl bi {M with queue:=M.queue++[uo id dl ⟨bs.toArray⟩],qv:=v,least:=id+1} (w3.setCell (aj S 233) v2)):=by
  have K4:Kp [s] nP nP w3 (w3.setCell (aj S 233) v2):=Kp.set nP w3 _ _ _ (by show nP S∈_;rw[K3.ext S (by rw[<-X]at h7;exact WA h7 I.size),h.ow];simp);have KA:Kp [s,s+53] oZ nP w (w3.setCell (aj S 233) v2):=(K1.mono (by simp)).trans ((Kp.below I).trans ((K3.mono (by simp)).trans (K4.mono (by simp))));refine⟨v2,nP,_,vc,h.que KA (l':=(l.set 234 (uZ ((id:Int)+1))).set 233 v2) ⟨by simp,fun j hj=>by rw[uj (by omega),uj (by omega)]⟩ v2 (M.queue++[uo id dl ⟨bs.toArray⟩]) (id+1) (K.setCell 233 _) (M4 (by rw[qa2];omega)) ?_ ?_,KA.mono fun x hx=>bN.2 (by simp at hx;omega)⟩
  ·rw[uj (by omega),M4 (by omega)]
   try simp
  ·have:=hG.kp K4 (by simp);rw[qa9,FL];rw[hV]at this;exact this
 rw[h0]at run HE;rw[O,hV]at run;clear hG K3 K K1 Z h6 I O hV h0 h hb X;unfold uo dS at run;simp only at run
 have q1:¬(4611686018427387903<(id:Int)):=by omega
 have q2:¬(4611686018427387903<(dl:Int)):=by omega
 have q3:¬((id:Int)<(M.least:Int)):=by omega
 have q4:¬(most<(bs.length:Int)):=by omega
 have q5:¬(16<=(M.queue.length:Int)):=by omega
 go_enter func189,ntmps189;go_wp2;rw[<-G];clear G
 go_region_law (refine dB _ (by rfl) _ _ _ _ (by rfl) _ _ (by rfl) (by rfl) _ _ (run _) ?_)
 all_goals go_wp2_with fail
 all_goals go_ret
 all_goals exact⟨rfl,HE⟩
theorem qbd(f:Fr)(rv:Value)(tk box:Nat)(w:World)(H:w.cell? (aj box 0)=some (uZ tk)):Calls prog 152 #[bR f rv,ay box 0] w fun e w'=>e=.returned (.bool (decide (f.deadline<tk)))/\aD w w':=by
 have F:box<w.heap.size:=wz w (aj box 0) (by rw[H])
 have G:box≠w.heap.size:=by omega
 unfold bR;go_enter func152,ntmps152;go_wp2;go_ret;exact⟨by simp,(Lb _ w).alloc (fA _) _⟩
theorem Dv:∀l:List Fr,l6 (l.map fun f=>(f,none,0,0))=iU l
 |[]=>rfl
 |f::t=>by show bZ f nZ++l6 (t.map fun f=>(f,none,0,0))=bZ f nZ++iU t;rw[Dv t]
theorem Jq(oZ:Own)(s:Nat)(S:Nat)(l:aI)(M:Side)(bw bl bi:Nat)(vc:Value)(tk:Nat)(w:World)(h:bT oZ s w S l M bw bl bi vc)(hq:∀f∈M.queue,tk<=f.deadline)(zS:M.queue.length<=16):
  Calls prog 113 #[ay S 233,uZ tk] w fun e w'=>e=.returned (.tuple #[])/\fP s oZ w S bw bl bi M w':=by
 rcases h.qu with⟨QH,_,_⟩|⟨g,c,cs,hv,og,hBg,hc0,hc1,hc2,hc3,ht,hon⟩
 ·exact tX oZ s S l M bw bl bi vc tk w h QH
 have Mk:∀(fn:Fn) (first cap:Array Value) (w:World),(Instr.makeFunc fn first cap).run prog w=.ok (.func fn first cap) w:=fun _ _ _ _=>rfl
 obtain⟨W,hW⟩:∃W,W=w.alloc (.cells #[uZ tk] 43):=⟨_,rfl⟩
 have G:aD w W:=by rw[hW];exact(Lb _ w).alloc (fA _) _
 have I:aA W w.heap.size 43 [uZ tk]:=by rw[hW];exact aA.new w 43 _
 have V:=h.below G;have h2:=hBg.lt;have h3:=h.blk.lt;have c233:l[233]?=some M.qv:=h.cells.c233
 have c0:w.cell? (aj S 233)=some (aS g M.queue.length c):=by rw[h.blk.cell,c233,hv]
 have h0:S≠g:=fun e=>by rw[<-e,h.ow]at og;omega
 have Z:(M.queue.map fun f=>((f,none,0,0):FV)).length=M.queue.length:=Kt _
 have ZG:(M.queue.map fun f=>((f,none,0,0):FV)).filter (fun x=> !(fun x:FV=>decide (x.1.deadline<tk)) x)=M.queue.map fun f=>((f,none,0,0):FV):=List.filter_eq_self.2 fun x O=>by
  obtain⟨f,hf,rfl⟩:=List.mem_map.1 O;have:=hq f hf;simp;omega
 have hD:=qJ 152 #[] #[ay w.heap.size 0] (fun x=>decide (x.1.deadline<tk)) g M.queue.length c (M.queue.map fun f=>((f,none,0,0):FV)) cs W (enters_of func152 (by kernel_rfl) rfl) Z (by omega) hc1 (bI G hBg) (by omega) (by rw[Dv];exact ht) hon (fun j _ W' hg=>by
  have hc:W'.cell? (aj w.heap.size 0)=some (uZ tk):=cell_of (I.cell 0) (hg.block _ I.lt (fun e=>by simp at e;omega))
  exact qbd _ _ tk w.heap.size W' hc)
 rw[ZG,Z,Dv]at hD;have HD:=au hD
 have HE:Hid (∀w1,(∃F,aA w1 g 65 F/\F.length=cs.length/\F.take (M.queue.length*10)=iU M.queue/\(∀v∈F,v.oneCell'=true)/\W.grownBy w1 (some g))->w1.frozen? (aj S 233)=false/\w1.cell? (aj S 233)=some (aS g M.queue.length c)/\fP s oZ w S bw bl bi M (w1.setCell (aj S 233) (aS g M.queue.length c))):=fun w1 ⟨F,q1,q2,q3,q4,U⟩=>by
  have H:aA w1 S TS l:=V.blk.of_heap (U.block S V.blk.lt (fun e=>h0 (by simpa using e)));have K1:Kp [s+53] oZ oZ W w1:=⟨U.os,U.tape,U.output,U.size,fun b hb hn=>U.block b hb (fun e=>by simp at e;rw[e,og]at hn;simp at hn),fun _ _=>rfl⟩;have K2:Kp [s] oZ oZ w1 (w1.setCell (aj S 233) (aS g M.queue.length c)):=Kp.set oZ w1 _ _ _ (by show oZ S∈_;rw[h.ow];simp);have K:Kp [s,s+53] oZ oZ W (w1.setCell (aj S 233) (aS g M.queue.length c)):=(K1.mono (by simp)).trans (K2.mono (by simp));refine⟨H.frozen 233,by rw[H.cell,c233,hv],oZ,l,vc,?_,(Kp.below G).trans (K.mono fun x O=>bN.2 (by simp at O;omega))⟩;have X:=H.setCell 233 (aS g M.queue.length c);rw[tV l 233 _ (by rw[c233,hv])]at X;exact V.que K (iN.refl l 233 2) M.qv M.queue M.least X c233 V.cells.c234 (.inr ⟨g,c,F,hv,og,aO q1 K2 (by rw[og];simp),by omega,hc1,hc2,hc3,q3,q4⟩)
 clear hD ZG V G h hq zS hBg I hc0 hc1 hc2 hc3 ht hon c233 hv;go_enter func113,ntmps113
 go_wp2_with (go_at_call 151;rw[<-hW];refine HD.out.mono ?_;rintro e w1 ⟨F,rfl,O⟩;obtain⟨f1,f2,HF⟩:=HE.out w1 ⟨F,O⟩;have HF:=au HF;clear O)
 go_end0;exact⟨rfl,HF.out⟩
def Side.dg(M:Side)(f:Fr)(v:Value):Side:={M with queue:=M.queue++[f],qv:=v,least:=f.id+1}
theorem Yl(oZ:Own)(s:Nat)(S:Nat)(l:aI)(M:Side)(bw bl bi:Nat)(vc:Value)(id dl:Nat)(bs:List UInt8)(a:Addr)(c:Nat)(most:Int)(w:World)(h:bT oZ s w S l M bw bl bi vc)(h1:id<4611686018427387903)(Z:dl<=4611686018427387903)(h3:M.least<=id)(hb:BytesAt w (some a) bs)(ha:a.block≠S)(V:(bs.length:Int)<=most/\most<=1000)(h5:M.queue.length<16)(hq:∀f∈M.queue,M.tick<=f.deadline)(hd:M.tick<=dl)(q:Nat):
  Calls prog 189 #[ay S 233,uZ id,uZ dl,.slice (some a) bs.length c,iZ most] (w.drewN q) fun e w'=>e=.returned .nilIface/\w'.cell? (aj S 0)=some (iZ M.aM)/\Hid (w'.cell? (aj S 3)=some (uZ M.tick)/\∀I,Calls prog 113 #[ay S 233,uZ M.tick] (w'.drewN I) fun e w2=>e=.returned (.tuple #[])/\w2.cell? (aj S 3)=some (uZ M.tick)/\Hid (∃v,fP s oZ w S bw bl bi (M.dg (uo id dl ⟨bs.toArray⟩) v) w2)):=by
 have F:aD w (w.drewN q):=jG (Lb _ w)
 have K:BytesAt (w.drewN q) (some a) bs:=fun j hj=>by
  obtain⟨b,off,e,U⟩:=hb j hj;exact⟨b,off,e,cell_of U (F.block b (wz w (aj b _) (by rw[U])))⟩
 refine(NM oZ s S l M bw bl bi vc id dl bs a c most (w.drewN q) (h.below F) h1 Z h3 K ha V.1 V.2 h5).mono ?_;rintro e w' ⟨rfl,v,o',l',v',G,X⟩;refine⟨rfl,by rw[G.blk.cell];exact G.cells.c0,by rw[G.blk.cell];exact G.cells.c3,fun I=>?_⟩;have O:aD w' (w'.drewN I):=jG (Lb _ w');refine(Jq o' s S l' (M.dg (uo id dl ⟨bs.toArray⟩) v) bw bl bi v' M.tick (w'.drewN I) (G.below O) (fun f H=>?_) (by show(M.queue++[_]).length<=16;simp;omega)).mono ?_
 ·rcases DT.1 H with H|H
  ·exact hq f H
  ·rw[KG.1 H];exact hd
 ·rintro e w2 ⟨rfl,o2,l2,v2,a2,b2⟩;exact⟨rfl,by rw[a2.blk.cell];exact a2.cells.c3,v,o2,l2,v2,a2,(Kp.below F).trans (X.trans ((Kp.below O).trans b2))⟩
theorem V3(S aM tk n c:Nat)(a:Addr)(id dl:Int)(w:World)(R:World->Prop)(c8:w.cell? (aj S 238)=some (iZ ((0:Nat):Int)))(c0:w.cell? (aj S 0)=some (iZ aM))(most:Int)(Z:IntKind.i64.wrap ((aM:Int)-40)=most)(V:∀q,Calls prog 189 #[ay S 233,uZ id,uZ dl,.slice (some a) n c,iZ most] (w.drewN q) fun e w'=>e=.returned .nilIface/\w'.cell? (aj S 0)=some (iZ aM)/\Hid (w'.cell? (aj S 3)=some (uZ tk)/\∀q2,Calls prog 113 #[ay S 233,uZ tk] (w'.drewN q2) fun e w2=>e=.returned (.tuple #[])/\w2.cell? (aj S 3)=some (uZ tk)/\R w2)):
  Calls prog 150 #[ay S 0,uZ id,uZ dl,.slice (some a) n c] w fun e w'=>e=.returned .nilIface/\R w':=by
 have U:=au (qj S 0 w c8);have K:=au V;clear V c8;go_enter func150,ntmps150
 go_wp2_with (go_at_call 137;refine U.out.mono ?_;rintro e w' ⟨rfl,Z⟩;have I:=Z.symm;subst I)
 clear U
 go_region_held3 (fun y=>y.cell? (aj S 0)=some (iZ aM)) (first|assumption|go_keep) ((first|(go_at_call 189;refine(K.out _).mono ?_;rintro e w1 ⟨rfl,H,O⟩)))
 obtain⟨c3,G⟩:=O.out;have F:=au G;clear O G K H;go_wp2
 go_region_held3 (fun y=>y.cell? (aj S 3)=some (uZ tk)) (first|assumption|go_keep) ((first|(go_at_call 113;refine(F.out _).mono ?_;rintro e w2 ⟨rfl,h0,X⟩)))
 have HR:=au X;clear X F;go_wp2;go_ret;exact⟨rfl,HR.out⟩
theorem FM(oZ:Own)(s:Nat)(S:Nat)(l:aI)(M:Side)(bw bl bi:Nat)(vc:Value)(id dl:Nat)(bs:List UInt8)(a:Addr)(c:Nat)(w:World)(h:bT oZ s w S l M bw bl bi vc)(K:M.why=0)(h1:id<4611686018427387903)(F:dl<=4611686018427387903)(G:M.least<=id)(hb:BytesAt w (some a) bs)(I:a.block≠S)(U:64<=M.aM/\M.aM<=400)(O:bs.length+40<=M.aM)(H:M.queue.length<16)(hq:∀f∈M.queue,M.tick<=f.deadline)(hd:M.tick<=dl):
  Calls prog 150 #[ay S 0,uZ id,uZ dl,.slice (some a) bs.length c] w fun e w'=>e=.returned .nilIface/\Hid (∃v,fP s oZ w S bw bl bi (M.dg (uo id dl ⟨bs.toArray⟩) v) w'):=
 V3 S M.aM M.tick bs.length c a id dl w _ (h.open K) (by rw[h.blk.cell];exact h.cells.c0) ((M.aM:Int)-40) (by rw[IntKind.wrap_i64];omega) fun q=>Yl oZ s S l M bw bl bi vc id dl bs a c _ w h h1 F G hb I (by omega) H hq hd q
theorem FN(C S:Nat)(w:World)(G:w.cell? (aj C 0)=some (ay S 0))(x y v:Value)(R:World->Prop)(h:Calls prog 150 #[ay S 0,x,y,v] w fun e w'=>e=.returned .nilIface/\R w'):Calls prog 111 #[ay C 0,x,y,v] w fun e w'=>e=.returned .nilIface/\R w':=by
 have I:=au (lK C S w G);have H:=au h;clear h G;go_enter func111,ntmps111
 go_wp2_with (first
  |(go_at_call 65;refine I.out.mono ?_;rintro e w' ⟨rfl,U⟩;have F:=U.symm;subst F)
  |(go_at_call 150;refine H.out.mono ?_;rintro e w' ⟨rfl,O⟩;have K:=au O))
 go_ret;exact⟨rfl,K.out⟩
theorem FP(oZ:Own)(s:Nat)(C S:Nat)(l:aI)(M:Side)(bw bl bi:Nat)(vc:Value)(id dl:Nat)(data:ByteArray)(w:World)(h:bT oZ s w S l M bw bl bi vc)(hc:w.cell? (aj C 0)=some (ay S 0))(hy:M.why=0)(h1:id<4611686018427387903)(h2:dl<=4611686018427387903)(h3:M.least<=id)(hm:64<=M.aM/\M.aM<=400)(h4:data.size+40<=M.aM)(h5:M.queue.length<16)(hq:∀f∈M.queue,M.tick<=f.deadline)(hd:M.tick<=dl)(hE:eF w)(h0:oZ 0∉T0 s):
  Calls prog 64 #[ay C 0,uZ id,uZ dl,.string data] w fun e w'=>e=.returned (iZ 0)/\Hid (∃v,fP s oZ w S bw bl bi (M.dg (uo id dl data) v) w'):=by
 obtain⟨cp,W,hf,h9,ha,H,V,Z⟩:=jH w data (by omega);have h7:C<w.heap.size:=wz w (aj C 0) (by rw[hc]);have U:=Dt h H Z
 have F:data.data.toList.length=data.size:=by simp
 have G:(⟨data.data.toList.toArray⟩:ByteArray)=data:=by simp
 have uV:=h.blk.lt
 obtain⟨Q,K⟩:∃Q:World->Prop,Q=fun y=>∃v,SS oZ s w S bw bl bi data.size (M.dg (uo id dl data) v) y:=⟨_,rfl⟩
 have HC:Hid (Calls prog 111 #[ay C 0,uZ id,uZ dl,aS w.heap.size data.size cp] W fun e w1=>e=.returned .nilIface/\Q w1):=by
  refine FN C S W (cell_of hc (H.block _ h7)) _ _ _ _ ?_;obtain⟨o,l1,v1,g1,g2,g3,g4⟩:=U;have:=FM o s S l1 M bw bl bi v1 id dl data.data.toList (aj w.heap.size 0) cp W g1 hy h1 h2 h3 V (by show w.heap.size≠S;omega) hm (by rw[F];exact h4) h5 hq hd;rw[F,G]at this;refine this.mono ?_;rintro e w1 ⟨rfl,v,o2,l2,v2,k1,k2⟩;have hs:=g1.s0;rw[K];exact⟨rfl,v,o2,l2,v2,k1,by rw[k2.ext _ g3.lt,g2],g3.of_heap (k2.blk _ g3.lt (by rw[g2];exact fun e=>by have:=bN.1 e;omega)),g4.trans k2⟩
 have HN:Hid (∀w1,Q w1->Calls prog 60 #[.nilIface] w1 fun r w2=>r=.returned (iZ 0)/\Q w2):=fun w1 hq=>by
  rw[K]at hq ⊢;obtain⟨v,hq⟩:=hq;refine(rM 0 (.inl rfl) w1 (hq.err hE h0)).mono ?_;rintro e w2 ⟨rfl,hb⟩;exact⟨rfl,v,hq.below hb⟩
 have HS:Hid (∀y j (v:Value),Q y->Q (y.setCell (aj w.heap.size j) v)):=fun y j v hq=>by
  rw[K]at hq ⊢;obtain⟨u,hq⟩:=hq;exact⟨u,hq.set j v⟩
 have h6:Hid (∀y j,Q y->j<data.size->(∃v,y.cell? (aj w.heap.size j)=some v)/\y.frozen? (aj w.heap.size j)=false):=fun y j hq hj=>by
  rw[K]at hq;obtain⟨u,o,l1,v1,k1,k2,k3,k4⟩:=hq;exact k3.cell j hj
 have HF:Hid (∀y,Q y->∃v,fP s oZ w S bw bl bi (M.dg (uo id dl data) v) y):=fun y hq=>by
  rw[K]at hq;obtain⟨u,hq⟩:=hq;exact⟨u,hq.q⟩
 have hn:data.size<=400:=by omega
 clear h hc hy hE h0 U H V Z F G K hq h4 hm h5 uV;generalize data.size=n at *;go_enter func64,ntmps64
 go_wp2_with (first
  |(go_at_call 111;refine HC.out.mono ?_;rintro e w1 ⟨rfl,hq⟩)
  |(go_at_call 60;refine(HN.out _ hq).mono ?_;rintro e w2 ⟨rfl,X⟩;have O:=au X;clear X))
 clear HC HN hq
 go_loopw [22] (fun I wr=>∃j:Nat,j<=n/\I=(iZ j)/\Hid (Q wr)) (fun I _=>n-(intOf I).toNat)
 case atStart=>exact⟨0,nI _,rfl,O⟩
 case round=>
  obtain⟨j,hj,rfl,HR⟩:=hrel;clear O
  by_cases h8:j<n
  ·have he:(j:Int)<(n:Int):=by omega
   obtain⟨⟨v,e1⟩,e2⟩:=h6.out wr j HR.out h8;have HT:=au (HS.out wr j (.int .u8 33) HR.out);go_wp2;go_roundw
   case rel=>exact⟨j+1,by omega,by simp,HT⟩
   case measure=>simp[intOf];omega
  ·obtain rfl:j=n:=by omega
   go_wp2;go_ret;exact⟨rfl,HF.out _ HR.out⟩
