import Derived.Test.YtphbledmopchnaaGreatDoorKde
open List renaming getD_eq_getElem?_getD->jK,replicate->nI,mem_filter->tT,prefix_refl->uj,getElem?_eq_none->wz,getElem?_replicate_of_lt->Bu,getElem?_eq_getElem->DJ,length_drop->Kt,getElem?_replicate->KG,length_append->Lb,mem_append->M4,length_filter_le->Si,length_replicate->Vh,length_map->Vp,mem_singleton->Xw,mem_or_eq_of_mem_set->ZE,getElem?_take_of_lt->qa0,length_take->qa1,filter_append_perm->qa2,getElem?_set_ne->qa3,mem_of_mem_tail->qa4,replicate_zero->qa5,getElem?_drop->qa6,getElem?_map->qa8,length_cons->qa9,append_nil->qab,length_set->qac,map_cons->qad,mem_cons->qae,map_set->qaf,filter->qag
open Nat renaming le_refl->mR,zero_le->tL,le_trans->CK,le_add_right->R3,max_le->Z9,lt_of_lt_of_le->qa7,le_max_right->qaa
open Option renaming map_eq_some_iff->Gl
set_option maxHeartbeats 4000000
set_option maxRecDepth 100000
namespace Go.Proofs.YtphbledmopchnaaGreatDoor.Sd
open St Tryz
theorem KV{A B:Side}(F:dh A)(h1:bF A B)(G:bF B A)(f:Fr):Stp A B (A.fD f):=by
 unfold Side.fD;split
 ·exact gM F h1 G _ _ ⟨(F.wr _).sl,(F.wr _).sb,(F.wr _).given⟩ rfl (mR _) (uj _) (fun e=>⟨e,rfl⟩) (R3 _ _)
 ·split
  ·exact gM F h1 G _ _ ⟨(F.wr _).sl,(F.wr _).sb,(F.wr _).given⟩ rfl (mR _) (uj _) (fun e=>⟨e,rfl⟩) (R3 _ _)
  ·split
   ·exact nM F h1 G _ _ (IU (G.rd _) _ (mR _)) (mR _) (mR _) (F.it _)
   ·exact FK F h1 G _ rfl (mR _) F.gt
theorem zX{A B:Side}(F:dh A)(h1:bF A B)(G:bF B A)(f:Fr):Stp A B (A.bookC f):=by
 unfold Side.bookC;split
 ·exact gM F h1 G _ _ ⟨(F.wr _).sl,(F.wr _).sb,(F.wr _).given⟩ rfl (mR _) (uj _) (fun e=>⟨e,rfl⟩) (R3 _ _)
 ·split
  ·exact gM F h1 G _ _ ⟨(F.wr _).sl,(F.wr _).sb,(F.wr _).given⟩ rfl (mR _) (uj _) (fun e=>⟨e,rfl⟩) (R3 _ _)
  ·split
   ·exact nM F h1 G _ _ (IU (G.rd _) _ (mR _)) (mR _) (mR _) (F.it _)
   ·exact FK F h1 G _ rfl (mR _) F.gt
theorem rH(g:Side->Fr->Side)(F:∀{A B:Side},dh A->bF A B->bF B A->∀f,Stp A B (g A f)):∀(l:List Fr) {A B:Side},dh A->bF A B->bF B A->Stp A B (l.foldl g A)
 |[],_,_,hA,h1,h2=>gN hA h1 h2
 |f::t,_,_,hA,h1,h2=>by
  have s:=F hA h1 h2 f;exact s.trans (rH g F t s.loc s.ab s.ba)
theorem getD_map{α:Type}(f:α->α)(d:α):∀(l:List α) (k:Nat),k<l.length->(l.map f).getD k d=f (l.getD k d)
 |[],_,h=>by simp at h
 |a::t,0,_=>rfl
 |a::t,k+1,h=>by simpa using getD_map f d t k (by simpa using h)
theorem jF{α:Type}(d:α):∀(l:List α) (k:Nat),l.length<=k->l.getD k d=d
 |[],_,_=>by simp
 |a::t,0,h=>by simp at h
 |a::t,k+1,h=>by simpa using jF d t k (by simpa using h)
theorem DL(f:bI->bI)(F:∀i,(f i).free=i.free):∀(l:List bI) (s:Nat),(l.map f).foldl (fun s i=>min (s+i.free) aU) s=l.foldl (fun s i=>min (s+i.free) aU) s
 |[],_=>rfl
 |a::t,s=>by simp only[qad,List.foldl_cons,F];exact DL f F t _
theorem Ox{A B:Side}(G:dh A)(h1:bF A B)(I:bF B A)(w l:List (Nat×lX)):
  Stp A B {A with ay:=w,lost:=l,gr:=A.gr.lose,outs:=A.outs.map gD,ins:=A.ins.map fA}:=by
 obtain⟨A',F⟩:∃A',A'={A with ay:=w,lost:=l,gr:=A.gr.lose,outs:=A.outs.map gD,ins:=A.ins.map fA}:=⟨_,rfl⟩;rw[<-F]
 have H:∀k,(A'.out k)=if k<8 then gD (A.out k)else A.out k:=fun k=>by
  rw[F];show(A.outs.map gD).getD k sF=_;split
  ·exact getD_map gD sF _ _ (by rw[G.lo];assumption)
  ·rw[jF _ _ _ (by rw[Vp,G.lo];omega)];exact(jF _ _ _ (by rw[G.lo];omega)).symm
 have hi:∀k,(A'.inn k)=if k<8 then fA (A.inn k)else A.inn k:=fun k=>by
  rw[F];show(A.ins.map fA).getD k sQ=_;split
  ·exact getD_map fA sQ _ _ (by rw[G.li];assumption)
  ·rw[jF _ _ _ (by rw[Vp,G.li];omega)];exact(jF _ _ _ (by rw[G.li];omega)).symm
 have hl:A'.limit=A.limit:=by rw[F]
 have U:A'.next=A.next:=by rw[F]
 have O:A'.gr=A.gr.lose:=by rw[F]
 have V:A'.came=A.came:=by rw[F]
 refine⟨⟨by rw[F];show(A.outs.map gD).length=8;rw[Vp,G.lo],by rw[F];show(A.ins.map fA).length=8;rw[Vp,G.li],fun k=>?_,?_,fun k=>?_,?_,by rw[F];exact G.why,by rw[F];exact G.q⟩,⟨fun k=>?_,by rw[hl];exact h1.lim,by rw[U];exact h1.came⟩,⟨fun k=>?_,by rw[O];exact I.lim,by rw[V];exact I.came⟩,⟨fun k=>?_,fun k=>?_,fun k=>?_,fun k=>?_,by rw[O];exact mR _,by rw[U];exact mR _⟩⟩
 ·rw[H];split
  ·exact⟨(G.wr k).sl,(G.wr k).sb,(G.wr k).given⟩
  ·exact G.wr k
 ·rw[F];show((A.outs.map gD).map Ot.sent).sum<=A.limit;rw[List.map_map];exact G.sp
 ·rw[hi];split
  ·exact G.it k
  ·exact G.it k
 ·rw[O,F];show A.gr.lose.told<=A.gr.lose.lim ((A.ins.map fA).foldl (fun s i=>min (s+i.free) aU) 0);rw[DL fA (fun i=>rfl)];exact G.gt
 ·rw[H];split
  ·exact(h1.rd k).mono rfl (mR _) (uj _) (fun e=>⟨e,rfl⟩)
  ·exact h1.rd k
 ·rw[hi];split
  ·exact IU (I.rd k) _ (mR _)
  ·exact I.rd k
 ·rw[H];split<;>exact mR _
 ·rw[H];split<;>exact uj _
 ·rw[H];split<;>exact fun e=>⟨e,rfl⟩
 ·rw[hi];split<;>exact mR _
theorem BF{A B:Side}(F:dh A)(h1:bF A B)(G:bF B A)(w l:List (Nat×lX))(n:Nat)(m:Nat)(H:A.next<=n):Stp A B {A with ay:=w,lost:=l,named:=m,next:=n}:=
 ⟨⟨F.lo,F.li,F.wr,F.sp,F.it,F.gt,F.why,F.q⟩,⟨h1.rd,h1.lim,fun r I=>qa7 (h1.came r I) H⟩,⟨G.rd,G.lim,G.came⟩,⟨fun _=>mR _,fun _=>uj _,fun _ e=>⟨e,rfl⟩,fun _=>mR _,mR _,H⟩⟩
theorem Oy{A B:Side}(G:dh A)(h1:bF A B)(F:bF B A)(l:List (Nat×Nat)):Stp A B (A.land l):=by
 unfold Side.land;have s:=BF G h1 F (A.ay.filter fun x=> !names l x.1) (A.lost.filter fun x=> !names l x.1) A.next (max A.named ((l.getD 0 (0,0)).2+1)) (mR _);exact s.trans (rH Side.bookC (fun a b c f=>zX a b c f) _ s.loc s.ab s.ba)
theorem xD{A B:Side}(G:dh A)(h1:bF A B)(F:bF B A)(fs:List Fr):Stp A B (A.packet fs):=
 BF G h1 F _ A.lost (A.next+1) A.named (Nat.le_succ _)
theorem xE{A B:Side}(F:dh A)(h1:bF A B)(G:bF B A)(x:Bool):Stp A B {A with answer:=x}:=
 ⟨⟨F.lo,F.li,F.wr,F.sp,F.it,F.gt,F.why,F.q⟩,⟨h1.rd,h1.lim,h1.came⟩,⟨G.rd,G.lim,G.came⟩,⟨fun _=>mR _,fun _=>uj _,fun _ e=>⟨e,rfl⟩,fun _=>mR _,mR _,mR _⟩⟩
theorem Wy(most fl:Nat)(rs:List (Nat×Nat))(lo hi B:Nat)(h:∀r∈rs,r.2<B)(I:hi<B):∀r∈(Rg.add most fl rs lo hi).2,r.2<B:=by
 have G:∀r∈Rg.ins (max lo fl) hi rs,r.2<B:=fun r F=>by
  have:=Rg.sP rs (max lo fl) hi (B-1) (by omega) (fun x H=>by have:=h x H;omega) r F;omega
 unfold Rg.add;split
 ·exact h
 ·split
  ·exact fun r F=>G r (qa4 F)
  ·exact G
theorem DN{A B:Side}(F:dh A)(h1:bF A B)(G:bF B A)(n:Nat)(H:n<B.next)(x:Bool):Stp A B {A with came:=A.came.add 8 n n,answer:=x}:=
 ⟨⟨F.lo,F.li,F.wr,F.sp,F.it,F.gt,F.why,F.q⟩,⟨h1.rd,h1.lim,h1.came⟩,⟨G.rd,G.lim,Wy _ _ _ _ _ _ G.came H⟩,⟨fun _=>mR _,fun _=>uj _,fun _ e=>⟨e,rfl⟩,fun _=>mR _,mR _,mR _⟩⟩
theorem tV(P:Nat->UInt8->Prop):∀(d:List UInt8) (i:Nat) (h:List UInt8) (c:List Bool),c.length=h.length->i+d.length<=h.length->(∀j,c.getD j false=true->P j (h.getD j 0))->(∀j,j<d.length->P (i+j) (d.getD j 0))->
  (aY d i h c).2.length=(aY d i h c).1.length/\(aY d i h c).1.length=h.length/\∀j,(aY d i h c).2.getD j false=true->P j ((aY d i h c).1.getD j 0)
 |[],i,h,c,hl,_,hc,_=>⟨hl,rfl,hc⟩
 |x::t,i,h,c,hl,hi,hc,hd=>by
  simp only[qa9]at hi
  have F:∀j,j<t.length->P (i+1+j) (t.getD j 0):=fun j G=>by
   have:=hd (j+1) (by simpa using G);rw[show i+1+j=i+(j+1) by omega];simpa using this
  unfold aY;split
  ·exact tV P t (i+1) h c hl (by omega) hc F
  ·have:=tV P t (i+1) (h.set i x) (c.set i true) (by simpa using hl) (by rw[qac];omega) (fun j e=>by
    by_cases G:j=i
    ·subst G;rw[jK,List.getElem?_set_self (by omega)];have:=hd 0 (by simp);simpa using this
    ·have H:c.getD j false=true:=by
      rw[jK,qa3 (by omega)]at e;rw[jK];exact e
     rw[jK,qa3 (by omega),<-jK]
     exact hc j H) F
   exact⟨this.1,by rw[this.2.1,qac],this.2.2⟩
theorem DR{α:Type}(d:α)(l m:List α)(j:Nat)(h:j<l.length):(l++m).getD j d=l.getD j d:=by
 rw[jK,List.getElem?_append_left h,<-jK]
theorem SG{o:Ot}{i:bI}(h:yL o i)(lo:Nat)(d:List UInt8)(H:i.read<=lo)(hd:∀j,j<d.length->o.bytes[lo+j]?=some (d.getD j 0)):yL o (i.hold lo d):=by
 unfold bI.hold;obtain⟨n,I⟩:∃n,n=lo-i.read+d.length-i.held.length:=⟨_,rfl⟩;simp only[<-I]
 have key:=tV (fun j x=>o.bytes[i.read+j]?=some x) d (lo-i.read) (i.held++nI n 0) (i.came++nI n false)
  (by simp[h.len]) (by simp;omega)
  (fun j e=>by
   by_cases F:j<i.came.length
   ·rw[DR _ _ _ _ F]at e;rw[DR _ _ _ _ (by rw[<-h.len];exact F)];exact h.got j e
   ·rw[jK,List.getElem?_append_right (by omega)]at e
    by_cases G:j-i.came.length<n
    ·rw[Bu G]at e;simp at e
    ·rw[wz (by simp;omega)]at e;simp at e)
  (fun j F=>by rw[show i.read+(lo-i.read+j)=lo+j by omega];exact hd j F)
 exact⟨h.lim,h.high,h.ended,h.given,h.st,key.1,h.rd,key.2.2⟩
theorem SH{o:Ot}{i:bI}(h:yL o i)(f:Fr)(G:FJ o f):yL o (i.take f):=by
 have h1:yL o {i with high:=max i.high (av f),ended:=i.ended||f.fin,dD:=if f.fin then av f else i.dD}:=by
  refine⟨h.lim,?_,fun e=>?_,h.given,?_,h.len,h.rd,h.got⟩
  ·show max i.high (av f)<=o.sent;have:=h.high;have:=G.e;omega
  ·show o.fin=true/\(if f.fin then av f else i.dD)=o.bytes.length;cases X:f.fin
   ·have Z:i.ended=true:=by
     have:(i.ended||f.fin)=true:=e;rw[X]at this;simpa using this
    exact h.ended Z
   ·exact G.fin X
  ·rcases h.st with e|⟨e1,e2,e3⟩
   ·exact .inl e
   ·exact .inr ⟨e1,by show(i.ended||f.fin)=true;rw[e2];rfl,e3⟩
 unfold bI.take;obtain⟨i1,F⟩:∃i1:bI,i1={i with high:=max i.high (av f),ended:=i.ended||f.fin,dD:=if f.fin then av f else i.dD}:=⟨_,rfl⟩;rw[<-F]at h1;simp only[<-F]
 have O:i1.read=i.read:=by rw[F]
 split
 ·rename_i H
  refine SG h1 _ _ (by rw[O];exact qaa _ _) fun j U=>?_
  rw[Kt,qa1,G.d,Kt,qa1]at U;have hb:=G.b;have h2:min (av f) i1.wanted<=av f:=Nat.min_le_left _ _;obtain⟨lo,V⟩:∃lo,lo=max f.offset i.read:=⟨_,rfl⟩;obtain⟨hi,I⟩:∃hi,hi=min (av f) i1.wanted:=⟨_,rfl⟩;rw[<-V]at U H ⊢;rw[<-I]at U H h2 ⊢
  have h0:f.offset<=lo:=by omega
  rw[G.d,jK,qa6,qa0 (by omega),qa6,qa0 (by omega),show f.offset+(lo-f.offset+j)=lo+j by omega];rw[DJ (by omega)];rfl
 ·exact h1
theorem BG{α β:Type}(c:Prop)[Decidable c](a b:α)(g:α->β)(x:β)(h1:g a=x)(F:g b=x):g (if c then a else b)=x:=by
 split
 ·exact h1
 ·exact F
theorem Jh(i:bI)(f:Fr):(i.take f).gr=i.gr:=BG _ _ _ bI.gr _ rfl rfl
theorem zY(i:bI)(f:Fr):(i.take f).read=i.read:=BG _ _ _ bI.read _ rfl rfl
theorem KW{o:Ot}{i:bI}(G:Wri o)(h:yL o i)(f:Fr)(F:FJ o f):i.refuse f=0:=by
 unfold bI.refuse;have I:=F.e;have O:=F.b;have U:=G.sl;have V:=h.lim;have X:=h.high;have Z:=G.sb;rw[if_neg,if_neg (by omega)];rintro(⟨e,g⟩|⟨e,H,g⟩|⟨e,g⟩)
 ·have:=(h.ended e).2;omega
 ·have:=(h.ended e).2;have:=(F.fin H).2;omega
 ·have:=(F.fin e).2;omega
theorem KX(l:List Ot):∀n,l.length=n->((List.range n).map fun j=>(l.getD j sF).sent).sum=(l.map Ot.sent).sum:=by
 intro n G
 congr 1
 refine List.ext_getElem (by simp[G]) fun j h1 F=>?_
 simp only[List.getElem_map,List.getElem_range];rw[jK,DJ (by simpa using F)];rfl
theorem Oz(f g:Nat->Nat)(h:∀j,f j<=g j):∀l:List Nat,(l.map f).sum<=(l.map g).sum
 |[]=>mR _
 |a::t=>by have:=Oz f g h t;have:=h a;simp only[qad,List.sum_cons];omega
theorem OA{A B:Side}(hB:dh B)(F:bF B A)(k e:Nat)(H:e<=(B.out k).sent):A.nL k e<=A.gr.told:=by
 refine CK ?_ (CK hB.sp F.lim);unfold Side.spent;rw[<-KX B.outs 8 hB.lo];unfold Side.nL;refine Oz _ _ (fun j=>?_) _;have:=(F.rd j).high;show max (A.inn j).high _<=(B.out j).sent;split
 ·rename_i G;subst G;omega
 ·omega
theorem Ji{A B:Side}(F:dh A)(hB:dh B)(h1:bF A B)(G:bF B A)(f:Fr)(U:kH B A f):(A.take f).2=0/\Stp A B (A.take f).1:=by
 unfold Side.take
 rcases U with⟨k1,k2,O⟩|⟨k1,k2,O,k4⟩|⟨k1,k2⟩|⟨k1,k2,O,k4⟩
 ·rw[if_pos k1,if_neg (by omega)];exact⟨rfl,Oy F h1 G _⟩
 ·rw[if_neg (by omega),if_pos k1,if_neg (by rw[KW (hB.wr _) (G.rd _) f k4];simp),if_neg (by have:=OA hB G f.stream.toNat (av f) k4.e;omega)];have r:=SH (G.rd f.stream.toNat) f k4;refine⟨rfl,nM F h1 G _ _ r (by rw[Jh];exact mR _) (by rw[r.free,(G.rd _).free,zY];exact mR _) ?_⟩;rw[Jh,r.free,zY,<-(G.rd _).free];exact F.it _
 ·rw[if_neg (by omega),if_neg (by omega),if_neg (by omega),if_neg (by omega),if_neg (by omega),if_pos k1];refine⟨rfl,⟨⟨F.lo,F.li,F.wr,?_,F.it,F.gt,F.why,F.q⟩,⟨h1.rd,?_,h1.came⟩,⟨G.rd,G.lim,G.came⟩,⟨fun _=>mR _,fun _=>uj _,fun _ e=>⟨e,rfl⟩,fun _=>mR _,mR _,mR _⟩⟩⟩
  ·show A.spent<=max A.limit f.limit;have:=F.sp;omega
  ·show max A.limit f.limit<=B.gr.told;have:=h1.lim;omega
 ·rw[if_neg (by omega),if_neg (by omega),if_neg (by omega),if_neg (by omega),if_neg (by omega),if_neg (by omega),if_pos k1];obtain⟨k,V⟩:∃k,k=f.stream.toNat:=⟨_,rfl⟩;obtain⟨o,H⟩:∃o:Ot,o={A.out k with limit:=max (A.out k).limit f.limit}:=⟨_,rfl⟩;rw[<-V]at k4 ⊢;rw[<-H]
  have I:∀j,(A.aW k o).out j=if j=k/\k<A.outs.length then o else A.out j:=fun j=>gL A k j o
  refine⟨rfl,⟨⟨(fu _ _ _).trans F.lo,F.li,fun j=>?_,?_,F.it,F.gt,F.why,F.q⟩,⟨fun j=>?_,h1.lim,h1.came⟩,⟨G.rd,G.lim,G.came⟩,⟨fun j=>?_,fun j=>?_,fun j=>?_,fun _=>mR _,mR _,mR _⟩⟩⟩
  ·rw[I];split
   ·rw[H];exact⟨by have:=(F.wr k).sl;show(A.out k).sent<=max (A.out k).limit f.limit;omega,(F.wr k).sb,(F.wr k).given⟩
   ·exact F.wr j
  ·show(A.aW k o).spent<=A.limit;have e:=wu A k o (by rw[F.lo];omega)
   have:o.sent=(A.out k).sent:=by rw[H]
   have:=F.sp;omega
  ·rw[I];split
   ·rename_i e;rw[e.1,H];have r:=h1.rd k;exact⟨by have:=r.lim;show max (A.out k).limit f.limit<=_;omega,r.high,r.ended,r.given,r.st,r.len,r.rd,r.got⟩
   ·exact h1.rd j
  ·rw[I];split
   ·rename_i e;rw[e.1,H];exact mR _
   ·exact mR _
  ·rw[I];split
   ·rename_i e;rw[e.1,H];exact uj _
   ·exact uj _
  ·rw[I];split
   ·rename_i e;rw[e.1,H];exact fun x=>⟨x,rfl⟩
   ·exact fun x=>⟨x,rfl⟩
def Lq(l:List Nat):Prop:=∀x∈l,x<48
theorem Lq.getD{l:List Nat}(h:Lq l)(j:Nat):l.getD j 0<48:=by
 rw[jK]
 cases F:l[j]? with
 |none=>simp
 |some v=>exact h v (List.mem_of_getElem? F)
theorem Lq.set{l:List Nat}(h:Lq l)(i v:Nat)(G:v<48):Lq (l.set i v):=fun x F=>by
 rcases ZE F with F|F
 ·exact h x F
 ·omega
theorem Lq.sw{l:List Nat}(h:Lq l)(i j:Nat):Lq (sw l i j):=(h.set i _ (h.getD j)).set j _ (h.getD i)
theorem Lq.down:∀(k:Nat) {l:List Nat} (i n:Nat),Lq l->Lq (gK k l i n)
 |0,_,_,_,h=>h
 |k+1,l,i,n,h=>by
  unfold gK;generalize (if 2*i+2<n/\l.getD (2*i+2) 0<l.getD (2*i+1) 0 then 2*i+2 else 2*i+1)=j;split
  ·exact h
  ·simp only;split
   ·exact Lq.down k _ _ (h.sw _ _)
   ·exact h
theorem Lq.up:∀(k:Nat) {l:List Nat} (i:Nat),Lq l->Lq (wo k l i)
 |0,_,_,h=>h
 |k+1,l,i,h=>by
  unfold wo;split
  ·exact h
  ·exact Lq.up k _ (h.sw _ _)
theorem Lq.pop{l:List Nat}(h:Lq l):Lq (iQ l):=fun x F=>Lq.down _ _ _ (h.sw _ _) x (List.mem_of_mem_take F)
theorem Lq.app{l m:List Nat}(h:Lq l)(g:Lq m):Lq (l++m):=fun x F=>(M4.1 F).elim (h x) (g x)
theorem Lq.push{l:List Nat}(h:Lq l)(u:Nat)(F:u<48):Lq (aZ l u):=Lq.up _ _ (h.app fun x G=>by rw[Xw.1 G];exact F)
theorem Lq.pushes:∀(m:List Nat) {l:List Nat},Lq l->Lq m->Lq (m.foldl aZ l)
 |[],_,h,_=>h
 |u::t,_,h,g=>Lq.pushes t (h.push u (g u (by simp))) fun x F=>g x (by simp[F])
theorem lq0:Lq q0:=by unfold Lq;decide
structure Fld (A B:Side) (x:Side×List (Nat×Nat)×List Nat×List Fr):Prop where
 SI:Stp A B x.1
 left:∀r∈x.2.1,r.2<B.next
 q:Lq x.2.2.1
 fs:∀f∈x.2.2.2,kH x.1 B f
theorem oG:∀(n:Nat) {A B:Side} (left:List (Nat×Nat)) (Q later:List Nat) (room:Int) (l:List Fr),dh A->bF A B->bF B A->Lq Q->Lq later->(∀r∈left,r.2<B.next)->(∀f∈l,kH A B f)->Fld A B (cB n A left Q later room l)
 |0,A,B,left,Q,later,room,l,hA,h1,h2,hQ,hL,hl,hf=>⟨gN hA h1 h2,hl,Lq.pushes _ hQ hL,hf⟩
 |n+1,A,B,left,[],later,room,l,hA,h1,h2,hQ,hL,hl,hf=>⟨gN hA h1 h2,hl,Lq.pushes _ hQ hL,hf⟩
 |n+1,A,B,left,u::Q,later,room,l,hA,h1,h2,hQ,hL,hl,hf=>by
  have H:u<48:=hQ u (by simp);unfold cB
  by_cases G:A.waits left u=true
  ·simp only[G,if_true]
   cases hF:A.frame left u room with
   |none=>
    simp only;split
    ·exact oG n left _ _ room l hA h1 h2 hQ.pop (hL.app fun x I=>by rw[Xw.1 I];exact H) hl hf
    ·exact⟨gN hA h1 h2,hl,Lq.pushes _ hQ hL,hf⟩
   |some x=>
    obtain⟨f,A',left'⟩:=x;simp only;obtain⟨s,O,sl⟩:=wG hA h1 h2 left left' u room f H hl G hF
    obtain⟨U,V,X,Z⟩:=oG n left' (u::Q) later (room-((aB f).length:Int)) (l++[f]) s.loc s.ab s.ba hQ hL sl (fun g F=>by
     rcases M4.1 F with F|F
     ·exact(hf g F).mono s.le (yT.refl _)
     ·rw[Xw.1 F];exact O)
    exact⟨s.trans U,V,X,Z⟩
  ·simp only[G];exact oG n left _ later room l hA h1 h2 hQ.pop hL hl hf
def nums(n:Nat):List (List Fr)->List (Nat×List Fr)
 |[]=>[]
 |fs::t=>(n,fs)::nums (n+1) t
structure Pks (A B:Side) (l:List (Nat×List Fr)) (x:Side×List (Nat×List Fr)) (m:List (List Fr)):Prop where
 eq:x.2=l++nums A.next m
 SI:Stp A B x.1
 next:x.1.next=A.next+m.length
 ne:∀fs∈m,fs≠[]
 ok:∀fs∈m,∀f∈fs,kH x.1 B f
theorem rJ{A:Side}(n:Nat)(left:List (Nat×Nat))(Q later:List Nat)(room:Int)(l:List Fr):(cB n A left Q later room l).1.next=A.next:=by
 induction n generalizing A left Q later room l with
 |zero=>rfl
 |succ n F=>
  cases Q with
  |nil=>rfl
  |cons u Q=>
   unfold cB
   by_cases G:A.waits left u=true
   ·simp only[G,if_true]
    cases hF:A.frame left u room with
    |none=>
     simp only;split
     ·exact F _ _ _ _ _
     ·rfl
    |some x=>
     obtain⟨f,H,I⟩:=x;simp only;refine(F _ _ _ _ _).trans ?_;unfold Side.frame at hF;split at hF
     ·split at hF
      ·cases hF
      ·have e:=Option.some.inj hF;exact(congrArg (fun x=>x.2.1.next) e).symm
     ·split at hF
      ·obtain⟨y,_,e⟩:=Gl.1 hF;exact(congrArg (fun x=>x.2.1.next) e).symm
      ·split at hF
       ·obtain⟨y,_,e⟩:=Gl.1 hF;exact(congrArg (fun x=>x.2.1.next) e).symm
       ·split at hF
        ·obtain⟨y,_,e⟩:=Gl.1 hF;exact(congrArg (fun x=>x.2.1.next) e).symm
        ·split at hF
         ·split at hF
          ·cases hF
          ·obtain⟨y,_,e⟩:=Gl.1 hF;exact(congrArg (fun x=>x.2.1.next) e).symm
         ·obtain⟨y,_,e⟩:=Gl.1 hF;exact(congrArg (fun x=>x.2.1.next) e).symm
   ·simp only[G];exact F _ _ _ _ _
theorem zZ:∀(n:Nat) {A B:Side} (left:List (Nat×Nat)) (Q:List Nat) (l:List (Nat×List Fr)),dh A->bF A B->bF B A->Lq Q->(∀r∈left,r.2<B.next)->∃m,Pks A B l (dX n A left Q l) m
 |0,A,B,left,Q,l,hA,h1,h2,hQ,hl=>⟨[],by simp[dX,nums],gN hA h1 h2,rfl,by simp,by simp⟩
 |n+1,A,B,left,Q,l,hA,h1,h2,hQ,hl=>by
  have F:Fld A B (fill A left Q A.room):=oG _ left Q [] A.room [] hA h1 h2 hQ (fun x Z=>by simp at Z) hl (fun f H=>by simp at H);have I:(fill A left Q A.room).1.next=A.next:=rJ _ left Q [] A.room [];unfold dX;generalize fill A left Q A.room=x at F I;obtain⟨A',left',X,fs⟩:=x;simp only at F I ⊢;split
  ·exact⟨[],by simp[nums],F.SI,I,by simp,by simp⟩
  ·rename_i O;have P:=xD F.SI.loc F.SI.ab F.SI.ba fs;obtain⟨m,e,s,nx,ne,ok⟩:=zZ n left' X (l++[(A.next,fs)]) P.loc P.ab P.ba F.q F.left
   have U:(A'.packet fs).next=A.next+1:=by show A'.next+1=_;rw[I]
   have V:∀f∈fs,kH A' B f:=F.fs;refine⟨fs::m,by rw[e,U];simp[nums],F.SI.trans (P.trans s),by rw[nx,U];simp;omega,fun g G=>?_,fun g G f H=>?_⟩
   ·rcases qae.1 G with G|G
    ·rw[G];exact O
    ·exact ne g G
   ·rcases qae.1 G with G|G
    ·rw[G]at H;exact(V f H).mono (P.trans s).le (yT.refl _)
    ·exact ok g G f H
theorem SK(aH window total:Nat)(G:window<=aU)(ht:total<=aU):dh (Side.new aH window total):=by
 have F:∀k,(Side.new aH window total).out k=if k<8 then Ot.new window else sF:=fun k=>by
  show(nI 8 (Ot.new window)).getD k sF=_;rw[jK];split
  ·rw[Bu (by assumption)];rfl
  ·rw[wz (by simp;omega)];rfl
 have hi:∀k,(Side.new aH window total).inn k=if k<8 then bI.new window else sQ:=fun k=>by
  show(nI 8 (bI.new window)).getD k sQ=_;rw[jK];split
  ·rw[Bu (by assumption)];rfl
  ·rw[wz (by simp;omega)];rfl
 refine⟨rfl,rfl,fun k=>?_,?_,fun k=>?_,?_,rfl,rfl⟩
 ·rw[F];split
  ·exact⟨tL _,tL _,rfl⟩
  ·exact⟨tL _,tL _,rfl⟩
 ·show 0<=_;exact tL _
 ·rw[hi];split
  ·show window<=min (0+window) aU;omega
  ·show 0<=_;exact tL _
 ·show total<=min (_+total) aU;omega
theorem SL(aH window total:Nat):bF (Side.new aH window total) (Side.new aH window total):=by
 refine⟨fun k=>?_,mR _,fun r G=>by simp[Side.new]at G⟩
 have F:(Side.new aH window total).out k=if k<8 then Ot.new window else sF:=by
  show(nI 8 (Ot.new window)).getD k sF=_;rw[jK];split
  ·rw[Bu (by assumption)];rfl
  ·rw[wz (by simp;omega)];rfl
 have hi:(Side.new aH window total).inn k=if k<8 then bI.new window else sQ:=by
  show(nI 8 (bI.new window)).getD k sQ=_;rw[jK];split
  ·rw[Bu (by assumption)];rfl
  ·rw[wz (by simp;omega)];rfl
 rw[F,hi];split
 ·exact⟨mR _,mR _,(fun e=>by cases e),rfl,.inl rfl,rfl,mR _,fun j e=>by simp[bI.new]at e⟩
 ·exact⟨mR _,mR _,(fun e=>by cases e),rfl,.inl rfl,rfl,mR _,fun j e=>by simp[sQ,bI.new]at e⟩
end Go.Proofs.YtphbledmopchnaaGreatDoor.Sd
namespace Go.Proofs.YtphbledmopchnaaGreatDoor.Sd
open Go.RowKit Go.Lib Mm Tryz
theorem kM:∀(a b:List UInt8) (i:Nat) (h:List UInt8) (c:List Bool),aY (a++b) i h c=aY b (i+a.length) (aY a i h c).1 (aY a i h c).2
 |[],b,i,h,c=>by simp[aY]
 |x::t,b,i,h,c=>by
  simp only[List.cons_append,aY,qa9];split
  ·rw[kM t b,show i+1+t.length=i+(t.length+1) by omega]
  ·rw[kM t b,show i+1+t.length=i+(t.length+1) by omega]
theorem qh:∀(d:List UInt8) (i:Nat) (h:List UInt8) (c:List Bool),(aY d i h c).1.length=h.length/\(aY d i h c).2.length=c.length
 |[],_,_,_=>⟨rfl,rfl⟩
 |x::t,i,h,c=>by
  simp only[aY];split
  ·exact qh t _ _ _
  ·have:=qh t (i+1) (h.set i x) (c.set i true);simpa using this
theorem DI(d:List UInt8)(k f:Nat)(h:List UInt8)(c:List Bool)(F:k<d.length):
  aY (d.take (k+1)) f h c=if(aY (d.take k) f h c).2.getD (f+k) false then aY (d.take k) f h c else((aY (d.take k) f h c).1.set (f+k) d[k],(aY (d.take k) f h c).2.set (f+k) true):=by
 have e:d.take (k+1)=d.take k++[d[k]]:=by simp
 have hl:(d.take k).length=k:=by simp;omega
 rw[e,kM,hl];simp only[aY]
theorem GT.Ww{own:Own}{t:Nat}{e:TypeId}{w:World}{a:Option Addr}{n c:Nat}{l:List Value}(h:GT own t e 1 w (.slice a n c) n l)(j:Nat)(H:j<n)(x:Value)(G:x.oneCell'=true):
  ∃g,a=some ⟨g,0,none⟩/\own g=t/\g<w.heap.size/\GT own t e 1 (w.setCell ⟨g,j,none⟩ x) (.slice a n c) n (l.set j x):=by
 rcases h with⟨_,rfl,_⟩|⟨g,cap,cs,F,ho,hB,h2,h3,h4,h5,h6,h7⟩
 ·omega
 ·simp at F;obtain⟨rfl,rfl⟩:=F;refine⟨g,rfl,ho,hB.lt,.inr ⟨g,c,cs.set j x,rfl,ho,hB.setCell j x,by simpa using h2,h3,h4,by simpa using h5,?_,?_⟩⟩
  ·rw[<-h6,List.take_set]
  ·intro v F
   rcases ZE F with h|h
   ·exact h7 v h
   ·rw[h];exact G
structure mO (own:Own) (s t S o:Nat) (l:List Value) (w0:World) (ah:Option Addr) (ch:Nat) (ac:Option Addr) (cc L:Nat) (h:List UInt8) (c:List Bool) (wr:World):Prop where
 kp:Kp [t,t+1] own own w0 wr
 blk:ak wr S TS l
 gh:GT own t 5 1 wr (.slice ah L ch) L (aJ h)
 gc:GT own (t+1) 4 1 wr (.slice ac L cc) L (eU c)
 lh:h.length=L
 lc:c.length=L
theorem o9(own:Own)(s t S o:Nat)(l:List Value)(w0:World)(ah:Option Addr)(ch:Nat)(ac:Option Addr)(cc L:Nat)(h:List UInt8)(c:List Bool)(wr:World)(H:mO own s t S o l w0 ah ch ac cc L h c wr)(V:own S=s)(h2:s<t)(j:Nat)(X:j<L)(x:UInt8):
  ∃g g',ah=some ⟨g,0,none⟩/\ac=some ⟨g',0,none⟩/\g≠g'/\g<wr.heap.size/\g'<wr.heap.size/\g≠S/\g'≠S/\
   mO own s t S o l w0 ah ch ac cc L (h.set j x) (c.set j true) ((wr.setCell ⟨g,j,none⟩ (.int .u8 ((x.toNat:Nat):Int))).setCell ⟨g',j,none⟩ (.bool true)):=by
 obtain⟨g,hg,og,lg,G1⟩:=H.gh.Ww j X (.int .u8 ((x.toNat:Nat):Int)) rfl;obtain⟨g',O,I,h0,_⟩:=H.gc.Ww j X (.bool true) rfl
 have Z:g≠g':=fun e=>by rw[e,I]at og;omega
 have F:Kp [t] own own wr (wr.setCell ⟨g,j,none⟩ (.int .u8 ((x.toNat:Nat):Int))):=Kp.set own wr _ _ _ (by simp[og]);obtain⟨g2,U,_,_,G2⟩:=(H.gc.kp F (by simp)).Ww j X (.bool true) rfl;rw[O]at U;cases U;have G:Kp [t+1] own own (wr.setCell ⟨g,j,none⟩ (.int .u8 ((x.toNat:Nat):Int))) ((wr.setCell ⟨g,j,none⟩ (.int .u8 ((x.toNat:Nat):Int))).setCell ⟨g',j,none⟩ (.bool true)):=Kp.set own _ _ _ _ (by simp[I]);refine⟨g,g',hg,O,Z,lg,h0,fun e=>by rw[e,V]at og;omega,fun e=>by rw[e,V]at I;omega,?_⟩;refine⟨(H.kp.trans (F.mono (by simp))).trans (G.mono (by simp)),aK (aK H.blk F (by rw[V];simp;omega)) G (by rw[V];simp;omega),?_,?_,by simp[H.lh],by simp[H.lc]⟩
 ·have:=G1.kp G (by simp)
  have e:aJ (h.set j x)=(aJ h).set j (.int .u8 ((x.toNat:Nat):Int)):=by simp[aJ,qaf]
  rw[e];exact this
 ·have e:eU (c.set j true)=(eU c).set j (.bool true):=by simp[eU,qaf]
  rw[e];exact G2
theorem mO.cellC{own:Own}{s t S o:Nat}{l:List Value}{w0:World}{ah:Option Addr}{ch:Nat}{ac:Option Addr}{cc L:Nat}{h:List UInt8}{c:List Bool}{wr:World}(H:mO own s t S o l w0 ah ch ac cc L h c wr)(j:Nat)(O:j<L):
  ∃g',ac=some ⟨g',0,none⟩/\wr.cell? ⟨g',j,none⟩=some (.bool (c.getD j false))/\wr.frozen? ⟨g',j,none⟩=false:=by
 have F:j<c.length:=by rw[H.lc];exact O
 obtain⟨g',h1,_,_,G,I⟩:=H.gc.cell j (.bool (c.getD j false)) (by simp[eU,F]);exact⟨g',h1,G,I⟩
theorem mO.Vk{own:Own}{s t S o:Nat}{l:List Value}{w0:World}{ah:Option Addr}{ch:Nat}{ac:Option Addr}{cc L:Nat}{h:List UInt8}{c:List Bool}{wr:World}(H:mO own s t S o l w0 ah ch ac cc L h c wr)(j:Nat)(O:j<L):
  ∃g v,ah=some ⟨g,0,none⟩/\wr.cell? ⟨g,j,none⟩=some v/\wr.frozen? ⟨g,j,none⟩=false:=by
 have F:j<h.length:=by rw[H.lh];exact O
 obtain⟨g',h1,_,_,G,I⟩:=H.gh.cell j (.int .u8 ((h[j].toNat:Nat):Int)) (by simp[aJ,F]);exact⟨g',_,h1,G,I⟩
theorem Jg(s t:Nat)(own:Own)(S o off:Nat)(D:ByteArray)(m:bI)(l:List Value)(w:World)(hB:ak w S TS l)(hS:own S=s)(xo:s<t)(hO:zL own t w l o m)(x4:m.came.length=m.held.length)(hl:m.held.length<=1000000)(ho:m.read<=off)(y1:off<=aU)(y2:off-m.read+D.size<=1000000):
  Calls prog 340 #[.pointer (some ⟨S,o,none⟩),.int .u64 off,.string D] w fun e w'=>e=.returned (.tuple #[])/\NR s t own S o l w (m.hold off D.data.toList) w':=by
 obtain⟨vh,vc,k1,k2,k3⟩:=hO;obtain⟨h3,h4,rfl,_,_⟩:=k2.shape;obtain⟨h6,Vl,rfl,_,_⟩:=k3.shape;have y0:=hB.lt;unfold aU at y1;obtain⟨f,hf⟩:∃f,f=off-m.read:=⟨_,rfl⟩
 have xj:((f:Nat):Int)=(off:Int)-(m.read:Int):=by omega
 have hm:D.data.toList.length=D.size:=Array.length_toList;obtain⟨dn,x7⟩:∃dn,dn=D.size:=⟨_,rfl⟩;obtain⟨X,hX⟩:∃X,X=aY D.data.toList f (m.held++nI (f+dn-m.held.length) 0) (m.came++nI (f+dn-m.held.length) false):=⟨_,rfl⟩
 have HX:Hid (m.hold off D.data.toList={m with held:=X.1,came:=X.2}):=by unfold Hid;rw[hX,hf,x7];unfold bI.hold;rw[hm]
 generalize m.hold off D.data.toList=MH at *;have c4:=in4 S o m _ _ w l hB k1;have c5:=in5 S o m _ _ w l hB k1;have c6:=in6 S o m _ _ w l hB k1
 have Jc:Hid (∀(h:List UInt8) (c:List Bool) (k:Nat) (hk:k<D.size),aY (D.data.toList.take (k+1)) f h c=if(aY (D.data.toList.take k) f h c).2.getD (f+k) false then aY (D.data.toList.take k) f h c else((aY (D.data.toList.take k) f h c).1.set (f+k) D[k],(aY (D.data.toList.take k) f h c).2.set (f+k) true)):=fun h c k hk=>by
  have:=DI D.data.toList k f h c (by rw[hm];exact hk);rw[Array.getElem_toList]at this;exact this
 have xe:=hid (And.intro hf ho)
 have Vm:Hid (D.data.toList.take D.size=D.data.toList):=by unfold Hid;rw[<-hm,List.take_length]
 have g0:0<=(off:Int)-(m.read:Int):=by omega
 have g1:(off:Int)-(m.read:Int)<18446744073709551616:=by omega
 have g2:(off:Int)-(m.read:Int)<9223372036854775808:=by omega
 have g3:(off:Int)-(m.read:Int)+(D.size:Int)<9223372036854775808:=by omega
 have g4: -9223372036854775808<=(off:Int)-(m.read:Int)+(D.size:Int):=by omega
 have g5:(off:Int)-(m.read:Int)+(D.size:Int)-(m.held.length:Int)<9223372036854775808:=by omega
 have g6: -9223372036854775808<=(off:Int)-(m.read:Int)+(D.size:Int)-(m.held.length:Int):=by omega
 have za:=hid x4
 by_cases hn:m.held.length<f+dn
 ·obtain⟨G,xn⟩:∃G,G=f+dn-m.held.length:=⟨_,rfl⟩
  have g7:(0:Int)<(off:Int)-(m.read:Int)+(D.size:Int)-(m.held.length:Int):=by omega
  have xm:((G:Nat):Int)=(off:Int)-(m.read:Int)+(D.size:Int)-(m.held.length:Int):=by omega
  obtain⟨v1,w1,aF,jm,G1,K1⟩:=jB tC (by omega) k2 G (by omega) (by omega);obtain⟨a1,c1,rfl,_,_⟩:=G1.shape;have h9:=aK hB K1 (by rw[hS];simp;omega)
  have hx:aF S=s:=by rw[K1.ext _ y0,hS]
  have hu:=cu.one h9 (o+5) (.slice a1 (m.held.length+G) c1) o 13 (by omega) (by omega);have hy:=hu.kp hx (T:=[s]) (by simp);obtain⟨v2,w2,aL,tQ,G2,K2⟩:=jB vB (by omega) ((k3.kp K1 (by simp)).kp hy (by simp;omega)) G (by omega) (by omega);obtain⟨a2,c2,rfl,_,_⟩:=G2.shape;have hw:=aK hu.blk K2 (by rw[hx];simp;omega)
  have he:aL S=s:=by rw[K2.ext _ hu.blk.lt,hx]
  have x1:=cu.one hw (o+6) (.slice a2 (m.came.length+G) c2) o 13 (by omega) (by omega);have x0:=x1.kp he (T:=[s]) (by simp);have i2:=Du (Dt k1 (.slice a1 (m.held.length+G) c1) (m.held++nI G 0)) (.slice a2 (m.came.length+G) c2) (m.came++nI G false);have Q1:=(G1.kp hy (by simp;omega)).kp K2 (by simp);have Q2:=Q1.kp x0 (by simp;omega);have Q3:=G2.kp x0 (by simp;omega);rw[Wu,<-fZ]at Q2
  have eo:eU m.came++(Builtin.zeroCells (Value.bool false).cells G).toList=eU (m.came++nI G false):=by rw[Wv];simp[eU]
  rw[eo]at Q3;have KK:Kp [s,t,t+1] own aL w (w2.setCell ⟨S,o+6,none⟩ (.slice a2 (m.came.length+G) c2)):=(((K1.mono (by simp)).trans (hy.mono (by simp))).trans (K2.mono (by simp))).trans (x0.mono (by simp));have I:=hu.win.trans x1.win;obtain⟨l2,xa⟩:∃l2,l2=(l.set (o+5) (.slice a1 (m.held.length+G) c1)).set (o+6) (.slice a2 (m.came.length+G) c2):=⟨_,rfl⟩;rw[<-xa]at I i2;have h0:=x1.blk;rw[<-xa]at h0
  have x5:w1.cell? ⟨S,o+5,none⟩=some (.slice h3 m.held.length h4):=by rw[h9.cell];exact k1.c5
  have x6:w1.cell? ⟨S,o+6,none⟩=some (.slice h6 m.came.length Vl):=by rw[h9.cell];exact k1.c6
  have xf:=h9.frozen (o+5)
  have y6:w2.cell? ⟨S,o+6,none⟩=some (.slice h6 m.came.length Vl):=by rw[hw.cell,aj _ _ _ _ (by omega)];exact k1.c6
  have yf:=hw.frozen (o+6);obtain⟨w3,hr⟩:∃w3,w3=w2.setCell ⟨S,o+6,none⟩ (.slice a2 (m.came.length+G) c2):=⟨_,rfl⟩;rw[<-hr]at h0 Q2 Q3 KK;rw[za.out]at Q3 i2 hr y6 x6 tQ;have MN:Hid (mO aL s t S o l2 w3 a1 c1 a2 c2 (m.held.length+G) (m.held++nI G 0) (m.came++nI G false) w3):=⟨Kp.refl _ _ _,h0,Q2,Q3,by simp,by simp[za.out]⟩;have h7:=hid (And.intro KK (And.intro I (And.intro i2 he)))
  have xi:X=aY D.data.toList f (m.held++nI G 0) (m.came++nI G false):=by rw[hX,xn]
  have h8:=hid xi;obtain⟨L,hL⟩:∃L,L=m.held.length+G:=⟨_,rfl⟩;rw[<-hL]at MN jm tQ hr i2;have h2:=hid i2;rw[xm]at jm tQ
  have xt:f+D.size<=L:=by omega
  have xv:L<=1000001:=by omega
  have run:=jm;clear hf xj x7 hm;clear jm x4 xm hB k1 k2 k3 G1 G2 K1 K2 h9 hw hu x1 hy x0 hx he i2 Q1 Q2 Q3 KK I h0 xa xi hX xn hL eo;go_enter func340,ntmps340
  go_wp2_with (at_builtin;refine Lib.wpList_append_run _ rfl _ _ _ _ rfl _ _ rfl rfl _ _ (run _) ?_;clear run;have run:=tQ)
  obtain⟨U,hc⟩:∃U,U=m.held++nI G 0:=⟨_,rfl⟩;obtain⟨O,ha⟩:∃O,O=m.came++nI G false:=⟨_,rfl⟩;rw[<-hc,<-ha]at h8 MN;clear hc ha run tQ x5 x6 xf y6 yf c4 c5 c6 g7 hn
  go_loopw [48] (fun h5 wr=>∃k:Nat,k<=D.size/\h5=.int .i64 k/\Hid (mO aL s t S o l2 w3 a1 c1 a2 c2 L (aY (D.data.toList.take k) f U O).1 (aY (D.data.toList.take k) f U O).2 wr)) (fun h5 _=>D.size-(intOf h5).toNat)
  case atStart=>exact⟨0,tL _,rfl,by unfold Hid;rw[<-hr];exact MN.out⟩
  case round=>
   clear hr MN;obtain⟨k,hk,rfl,F⟩:=hrel
   by_cases x9:k<D.size
   ·have xl:(k:Int)<(D.size:Int):=by omega
    have rG:=Jc.out U O k x9;obtain⟨Hk,Z⟩:∃Hk,Hk=(aY (D.data.toList.take k) f U O).1:=⟨_,rfl⟩;obtain⟨Ck,Oq⟩:∃Ck,Ck=(aY (D.data.toList.take k) f U O).2:=⟨_,rfl⟩;rw[<-Z,<-Oq]at F
    have e5:wr.cell? ⟨S,o+5,none⟩=some (.slice a1 L c1):=by rw[F.out.blk.cell];exact h2.out.c5
    have e6:wr.cell? ⟨S,o+6,none⟩=some (.slice a2 L c2):=by rw[F.out.blk.cell];exact h2.out.c6
    obtain⟨g',x8,hj,xx⟩:=F.out.cellC (f+k) (by omega);obtain⟨hf,ho⟩:=xe.out
    have i1:0<=(off:Int)-(m.read:Int)+(k:Int):=by omega
    have i2:(off:Int)-(m.read:Int)+(k:Int)<(L:Int):=by omega
    have i3:((off:Int)-(m.read:Int)+(k:Int)).toNat=f+k:=by omega
    have i4:(off:Int)-(m.read:Int)+(k:Int)<9223372036854775808:=by omega
    have i5: -9223372036854775808<=(off:Int)-(m.read:Int)+(k:Int):=by omega
    clear hf ho;subst x8;cases hv:Ck.getD (f+k) false
    ·rw[hv]at hj;rw[<-Oq,hv,<-Z]at rG;obtain⟨g,vv,hg,xy,xz⟩:=F.out.Vk (f+k) (by omega);obtain⟨g2,xr,q1,q2,q3,q4,q5,q6,q7,HN⟩:=o9 aL s t S o l2 w3 a1 c1 _ c2 L Hk Ck wr F.out h7.out.2.2.2 xo (f+k) (by omega) D[k];subst hg;cases q1;cases q2;have x3:=hid HN;have V:=hid rG;have n1:¬(g=g'):=q3
     have n2:¬(g'=g):=fun e=>q3 e.symm
     have n3:¬(S=g):=fun e=>q6 e.symm
     have n4:¬(S=g'):=fun e=>q7 e.symm
     clear HN rG F q3 q6 q7 hv
     go_wp2_with fail
     go_region
     all_goals go_wp2_with fail
     all_goals
      refine⟨⟨k+1,by omega,by go_num,?_⟩,?_⟩
      ·unfold Hid;rw[V.out];have H:=x3.out;exact⟨⟨H.kp.os,H.kp.tape,H.kp.output,H.kp.size,H.kp.blk,H.kp.ext⟩,H.blk,H.gh.kp (Kp.below (T:=[]) ⟨rfl,rfl,rfl,mR _,fun _ _=>rfl⟩) (by simp),H.gc.kp (Kp.below (T:=[]) ⟨rfl,rfl,rfl,mR _,fun _ _=>rfl⟩) (by simp),H.lh,H.lc⟩
      ·simp[intOf];omega
    ·rw[hv]at hj;rw[<-Oq,hv]at rG;have V:=hid rG
     have vZ:Hid (mO aL s t S o l2 w3 a1 c1 (some ⟨g',0,none⟩) c2 L (aY (D.data.toList.take (k+1)) f U O).1 (aY (D.data.toList.take (k+1)) f U O).2 wr):=by
      unfold Hid;rw[V.out,if_pos rfl,<-Z,<-Oq];exact F.out
     clear rG V F Z Oq hv
     go_wp2_with fail
     go_roundw
     case rel=>exact⟨k+1,by omega,by go_num,vZ⟩
     case measure=>simp[intOf];omega
   ·obtain rfl:k=D.size:=by omega
    rw[Vm.out,<-h8.out]at F
    have iG:Hid (NR s t own S o l w MH wr):=by
     obtain⟨KK,I,i2,he⟩:=h7.out;have H:=F.out;refine⟨aL,l2,KK.trans (H.kp.mono (by simp)),H.blk,I,.slice a1 L c1,.slice a2 L c2,?_,?_,?_⟩
     ·rw[HX.out];have:=h2.out;exact⟨this.gr,this.c4,this.c5,this.c6,this.c7,this.c8,this.c9,this.c10,this.c11,this.c12⟩
     ·rw[HX.out];show GT _ _ _ _ _ _ X.1.length _;rw[H.lh];exact H.gh
     ·rw[HX.out];show GT _ _ _ _ _ _ X.2.length _;rw[H.lc];exact H.gc
    clear F;go_wp2;go_end0;exact⟨rfl,iG.out⟩
 ·have g7:(off:Int)-(m.read:Int)+(D.size:Int)-(m.held.length:Int)<=0:=by omega
  have xp:f+dn-m.held.length=0:=by omega
  rw[xp,qa5,qab,qa5,qab]at hX;obtain⟨L,hL⟩:∃L,L=m.held.length:=⟨_,rfl⟩;have x2:=k3;have xd:=k2;have i2:=k1;rw[za.out]at x2 c6 i2;rw[<-hL]at xd x2 c5 c6 i2;have MN:Hid (mO own s t S o l w h3 h4 h6 Vl L m.held m.came w):=⟨Kp.refl _ _ _,hB,xd,x2,hL.symm,by rw[za.out,hL]⟩;have h2:=hid i2;have h7:=hid (And.intro (Kp.refl [s,t,t+1] own w) (And.intro (iH.refl l o 13) (And.intro i2 hS)));have h8:=hid hX
  have xt:f+D.size<=L:=by omega
  have xv:L<=1000001:=by omega
  obtain⟨U,hc⟩:∃U,U=m.held:=⟨_,rfl⟩;obtain⟨O,ha⟩:∃O,O=m.came:=⟨_,rfl⟩;rw[<-hc,<-ha]at h8 MN;rw[<-hL]at g5 g6 g7;clear hf xj x7 hm xp hn hX x4 hB k1 k2 k3 xd x2 i2 hL hc ha;go_enter func340,ntmps340
  go_wp2_with fail
  clear c4 c5 c6
  go_loopw [48] (fun h5 wr=>∃k:Nat,k<=D.size/\h5=.int .i64 k/\Hid (mO own s t S o l w h3 h4 h6 Vl L (aY (D.data.toList.take k) f U O).1 (aY (D.data.toList.take k) f U O).2 wr)) (fun h5 _=>D.size-(intOf h5).toNat)
  case atStart=>exact⟨0,tL _,rfl,MN⟩
  case round=>
   clear MN;obtain⟨k,hk,rfl,F⟩:=hrel
   by_cases x9:k<D.size
   ·have xl:(k:Int)<(D.size:Int):=by omega
    have rG:=Jc.out U O k x9;obtain⟨Hk,Z⟩:∃Hk,Hk=(aY (D.data.toList.take k) f U O).1:=⟨_,rfl⟩;obtain⟨Ck,Oq⟩:∃Ck,Ck=(aY (D.data.toList.take k) f U O).2:=⟨_,rfl⟩;rw[<-Z,<-Oq]at F
    have e5:wr.cell? ⟨S,o+5,none⟩=some (.slice h3 L h4):=by rw[F.out.blk.cell];exact h2.out.c5
    have e6:wr.cell? ⟨S,o+6,none⟩=some (.slice h6 L Vl):=by rw[F.out.blk.cell];exact h2.out.c6
    obtain⟨g',x8,hj,xx⟩:=F.out.cellC (f+k) (by omega);obtain⟨hf,ho⟩:=xe.out
    have i1:0<=(off:Int)-(m.read:Int)+(k:Int):=by omega
    have i2:(off:Int)-(m.read:Int)+(k:Int)<(L:Int):=by omega
    have i3:((off:Int)-(m.read:Int)+(k:Int)).toNat=f+k:=by omega
    have i4:(off:Int)-(m.read:Int)+(k:Int)<9223372036854775808:=by omega
    have i5: -9223372036854775808<=(off:Int)-(m.read:Int)+(k:Int):=by omega
    clear hf ho;subst x8;cases hv:Ck.getD (f+k) false
    ·rw[hv]at hj;rw[<-Oq,hv,<-Z]at rG;obtain⟨g,vv,hg,xy,xz⟩:=F.out.Vk (f+k) (by omega);obtain⟨g2,xr,q1,q2,q3,q4,q5,q6,q7,HN⟩:=o9 own s t S o l w h3 h4 _ Vl L Hk Ck wr F.out h7.out.2.2.2 xo (f+k) (by omega) D[k];subst hg;cases q1;cases q2;have x3:=hid HN;have V:=hid rG;have n1:¬(g=g'):=q3
     have n2:¬(g'=g):=fun e=>q3 e.symm
     have n3:¬(S=g):=fun e=>q6 e.symm
     have n4:¬(S=g'):=fun e=>q7 e.symm
     clear HN rG F q3 q6 q7 hv
     go_wp2_with fail
     go_region
     all_goals go_wp2_with fail
     all_goals
      refine⟨⟨k+1,by omega,by go_num,?_⟩,?_⟩
      ·unfold Hid;rw[V.out];have H:=x3.out;exact⟨⟨H.kp.os,H.kp.tape,H.kp.output,H.kp.size,H.kp.blk,H.kp.ext⟩,H.blk,H.gh.kp (Kp.below (T:=[]) ⟨rfl,rfl,rfl,mR _,fun _ _=>rfl⟩) (by simp),H.gc.kp (Kp.below (T:=[]) ⟨rfl,rfl,rfl,mR _,fun _ _=>rfl⟩) (by simp),H.lh,H.lc⟩
      ·simp[intOf];omega
    ·rw[hv]at hj;rw[<-Oq,hv]at rG;have V:=hid rG
     have vZ:Hid (mO own s t S o l w h3 h4 (some ⟨g',0,none⟩) Vl L (aY (D.data.toList.take (k+1)) f U O).1 (aY (D.data.toList.take (k+1)) f U O).2 wr):=by
      unfold Hid;rw[V.out,if_pos rfl,<-Z,<-Oq];exact F.out
     clear rG V F Z Oq hv
     go_wp2_with fail
     go_roundw
     case rel=>exact⟨k+1,by omega,by go_num,vZ⟩
     case measure=>simp[intOf];omega
   ·obtain rfl:k=D.size:=by omega
    rw[Vm.out,<-h8.out]at F
    have iG:Hid (NR s t own S o l w MH wr):=by
     obtain⟨KK,I,i2,he⟩:=h7.out;have H:=F.out;refine⟨own,l,KK.trans (H.kp.mono (by simp)),H.blk,I,.slice h3 L h4,.slice h6 L Vl,?_,?_,?_⟩
     ·rw[HX.out];have:=h2.out;exact⟨this.gr,this.c4,this.c5,this.c6,this.c7,this.c8,this.c9,this.c10,this.c11,this.c12⟩
     ·rw[HX.out];show GT _ _ _ _ _ _ X.1.length _;rw[H.lh];exact H.gh
     ·rw[HX.out];show GT _ _ _ _ _ _ X.2.length _;rw[H.lc];exact H.gc
    clear F;go_wp2;go_end0;exact⟨rfl,iG.out⟩
end Go.Proofs.YtphbledmopchnaaGreatDoor.Sd
namespace Go.Proofs.YtphbledmopchnaaGreatDoor.Sd
open St Tryz
structure MP (f:Fr):Prop where
 st:0<=f.stream/\f.stream<8
 dt:f.kind=4->pW f
 lm:f.limit<=aU
 kd:f.kind=4\/f.kind=5\/f.kind=6
structure OtB (o:Ot):Prop where
 b:o.bytes.length<=2048
 a:tq o.away
 c:tq o.came
def GJ(g:Gn):Prop:=g.ahead<=4096/\g.told<=aU/\g.away<=aU/\g.came<=aU
structure z_ (i:bI):Prop where
 g:GJ i.gr
 r:i.read<=2048
 h:i.high<=2048
 f:i.dD<=2048
 e:i.rel<=aU
 l:i.read+i.held.length<=2048
 c:i.came.length=i.held.length
 s:i.state<=2
theorem z_.ok{i:bI}(h:z_ i):Q8 i:=
 ⟨h.g,by have:=h.r;unfold aU;omega,by have:=h.h;unfold aU;omega,by have:=h.f;unfold aU;omega,h.e,by have:=h.l;omega,h.c,h.s⟩
def PaB(n:Nat)(x:Nat×lX):Prop:=x.1<n/\x.2.frames.length<=400/\∀f∈x.2.frames,MP f
theorem PaB.mono{n m:Nat}{x:Nat×lX}(h:PaB n x)(F:n<=m):PaB m x:=⟨qa7 h.1 F,h.2⟩
structure CmB (c:NS):Prop where
 so:Rg.Sorted c.rs
 hi:∀r∈c.rs,r.2<=aU
 ln:c.rs.length<=8
 fl:c.fl<=aU+1
structure Bd (M:Side):Prop where
 o:∀k,OtB (M.out k)
 i:∀k,z_ (M.inn k)
 g:GJ M.gr
 lm:M.limit<=aU
 mt:64<=M.aH/\M.aH<=400
 wy:∀x∈M.ay,PaB M.next x
 ls:∀x∈M.lost,PaB M.next x
 ky:(M.lost++M.ay).Pairwise fun x y=>x.1≠y.1
 wl:M.ay.length<=12
 ll:M.lost.length<=65
 nm:M.named<=M.next
 cm:CmB M.came
 tk:∀x∈M.ay,x.2.tick<=M.tick
theorem Bd.wk{M:Side}(h:Bd M)(F:dh M):Wk M:=
 ⟨fun k=>(h.o k).b,fun k=>(h.o k).a,fun k=>(h.o k).c,fun k=>(F.wr k).given,fun k=>(h.i k).ok,h.g.1,F.sp,h.lm,F.q,by have:=h.wl;omega⟩
theorem Bd.aW{M:Side}(h:Bd M)(k:Nat)(o:Ot)(F:OtB o):Bd (M.aW k o):=
 ⟨fun j=>by rw[gL];split;exact F;exact h.o j,h.i,h.g,h.lm,h.mt,h.wy,h.ls,h.ky,h.wl,h.ll,h.nm,h.cm,h.tk⟩
theorem Bd.bP{M:Side}(h:Bd M)(k:Nat)(i:bI)(F:z_ i):Bd (M.bP k i):=
 ⟨h.o,fun j=>by rw[fM];split;exact F;exact h.i j,h.g,h.lm,h.mt,h.wy,h.ls,h.ky,h.wl,h.ll,h.nm,h.cm,h.tk⟩
theorem Bd.WC{M:Side}(h:Bd M)(g:Gn)(F:GJ g):Bd {M with gr:=g}:=
 ⟨h.o,h.i,F,h.lm,h.mt,h.wy,h.ls,h.ky,h.wl,h.ll,h.nm,h.cm,h.tk⟩
theorem rP{x:NS}{f:Fr}(h:tq x)(F:pW f):tq (qN x f):=by
 have h1:=F.o;have H:=F.e;have G:=F.ne
 have I:f.offset<=av f:=by unfold av;omega
 unfold qN;cases U:f.fin
 ·rw[U]at G;have V:0<av f:=G.resolve_left (by simp)
  by_cases O:f.offset<=av f-1
  ·exact(h.add _ _ (by simpa using O) (by simp;omega)).1
  ·have e:x.add 2049 f.offset (if false=true then av f else av f-1)=x:=by
    unfold NS.add Rg.add;rw[if_pos (by simp;omega)]
   rw[e];exact h
 ·exact(h.add _ _ (by simpa using I) (by simpa using H)).1
theorem GJ.aw{g:Gn}(h:GJ g)(x:Nat)(F:x<=aU):GJ (g.aw x):=⟨h.1,h.2.1,Z9.2 ⟨h.2.2.1,F⟩,h.2.2.2⟩
theorem GJ.cm{g:Gn}(h:GJ g)(x:Nat)(F:x<=aU):GJ (g.cm x):=⟨h.1,h.2.1,h.2.2.1,Z9.2 ⟨h.2.2.2,F⟩⟩
theorem GJ.lose{g:Gn}(h:GJ g):GJ g.lose:=⟨h.1,h.2.1,tL _,h.2.2.2⟩
theorem z_.gr'{i:bI}(h:z_ i)(g:Gn)(F:GJ g):z_ {i with gr:=g}:=⟨F,h.r,h.h,h.f,h.e,h.l,h.c,h.s⟩
theorem DW{M:Side}(h:Bd M)(f:Fr)(F:MP f):Bd (M.fD f):=by
 unfold Side.fD;split
 ·rename_i G;exact h.aW _ _ ⟨(h.o _).b,rP (h.o _).a (F.dt G),(h.o _).c⟩
 ·split
  ·exact h.aW _ _ ⟨(h.o _).b,(h.o _).a,(h.o _).c⟩
  ·split
   ·exact h.bP _ _ ((h.i _).gr' _ ((h.i _).g.aw _ F.lm))
   ·exact h.WC _ (h.g.aw _ F.lm)
theorem DX{M:Side}(h:Bd M)(f:Fr)(F:MP f):Bd (M.bookC f):=by
 unfold Side.bookC;split
 ·rename_i G;exact h.aW _ _ ⟨(h.o _).b,rP (h.o _).a (F.dt G),rP (h.o _).c (F.dt G)⟩
 ·split
  ·exact h.aW _ _ ⟨(h.o _).b,(h.o _).a,(h.o _).c⟩
  ·split
   ·exact h.bP _ _ ((h.i _).gr' _ ((h.i _).g.cm _ F.lm))
   ·exact h.WC _ (h.g.cm _ F.lm)
theorem BH(g:Side->Fr->Side)(F:∀{M:Side},Bd M->∀f,MP f->Bd (g M f)):∀(l:List Fr) {M:Side},Bd M->(∀f∈l,MP f)->Bd (l.foldl g M)
 |[],_,h,_=>h
 |f::t,_,h,hl=>BH g F t (F h f (hl f (by simp))) fun x G=>hl x (by simp[G])
def Side.rQ(M:Side):Side:=
 {M with
  ay:=M.ay.filter fun x=> !M.dF x
  lost:=(M.lost++M.ay.filter M.dF).filter fun x=> !decide (x.1+64<M.next)
  gr:=M.gr.lose
  outs:=M.outs.map gD
  ins:=M.ins.map fA}
def Side.je(M F:Side):Prop:=
 if M.ay.any M.dF then∃lp:List (Nat×lX),lp.Perm (M.ay.filter fun x=> !M.dF x)/\F=(frames lp).foldl Side.fD M.rQ else F=M
def Side.Vs(M:Side)(l:List (Nat×Nat)):Side:=
 {M with
  named:=max M.named ((l.getD 0 (0,0)).2+1)
  ay:=M.ay.filter fun x=> !names l x.1
  lost:=M.lost.filter fun x=> !names l x.1}
def Side.rR(M:Side)(l:List (Nat×Nat))(F:Side):Prop:=
 ∃lp lq:List (Nat×lX),lp.Perm (M.ay.filter fun x=>names l x.1)/\lq.Perm (M.lost.filter fun x=>names l x.1)/\F=(frames lp++frames lq).foldl Side.bookC (M.Vs l)
theorem Aa{A B A':Side}(G:dh A)(h1:bF A B)(F:bF B A)(h:A.je A'):Stp A B A':=by
 unfold Side.je at h;split at h
 ·obtain⟨lp,_,rfl⟩:=h;have s:=Ox G h1 F (A.ay.filter fun x=> !A.dF x) ((A.lost++A.ay.filter A.dF).filter fun x=> !decide (x.1+64<A.next));exact s.trans (rH Side.fD (fun a b c f=>KV a b c f) _ s.loc s.ab s.ba)
 ·rw[h];exact gN G h1 F
theorem KZ{A B A':Side}(G:dh A)(h1:bF A B)(F:bF B A)(l:List (Nat×Nat))(h:A.rR l A'):Stp A B A':=by
 obtain⟨lp,lq,_,_,rfl⟩:=h;have s:=BF G h1 F (A.ay.filter fun x=> !names l x.1) (A.lost.filter fun x=> !names l x.1) A.next (max A.named ((l.getD 0 (0,0)).2+1)) (mR _);exact s.trans (rH Side.bookC (fun a b c f=>zX a b c f) _ s.loc s.ab s.ba)
theorem qp{l:List (Nat×lX)}{n:Nat}(h:∀x∈l,PaB n x):∀f∈frames l,MP f:=fun f F=>by
 unfold frames at F;obtain⟨x,G,F⟩:=List.mem_flatMap.1 F;exact(h x G).2.2 f F
theorem DY:∀(n a:Nat) (l:List (Nat×lX)),(l.Pairwise fun x y=>x.1≠y.1)->(∀x∈l,a<=x.1/\x.1<a+n)->l.length<=n
 |0,a,l,_,h=>by
  cases l with
  |nil=>exact mR _
  |cons x t=>have:=h x (by simp);omega
 |n+1,a,l,hp,h=>by
  have h1:=DY n a (l.filter fun x=> !decide (x.1=a+n)) (hp.filter _) fun x H=>by
   obtain⟨p,q⟩:=tT.1 H;have:=h x p;simp at q;omega
  have V:(l.filter fun x=>decide (x.1=a+n)).length<=1:=by
   have F:=hp.filter (fun x=>decide (x.1=a+n));generalize G:(l.filter fun x=>decide (x.1=a+n))=m at F
   match m,G,F with
   |[],_,_=>simp
   |[x],_,_=>simp
   |x::y::t,G,F=>
    have H:x∈(l.filter fun x=>decide (x.1=a+n)):=by rw[G];simp
    have U:y∈(l.filter fun x=>decide (x.1=a+n)):=by rw[G];simp
    have I:=(tT.1 H).2;have O:=(tT.1 U).2;simp at I O;exact absurd (I.trans O.symm) ((List.pairwise_cons.1 F).1 y (by simp))
  have X:l.length=(l.filter fun x=>decide (x.1=a+n)).length+(l.filter fun x=> !decide (x.1=a+n)).length:=by
   have:=(qa2 (fun x:Nat×lX=>decide (x.1=a+n)) l).length_eq;rw[Lb]at this;exact this.symm
  omega
theorem XV:OtB sF:=⟨by decide,⟨rfl,trivial,fun r F=>by cases F⟩,⟨rfl,trivial,fun r F=>by cases F⟩⟩
theorem BI(n:Nat)(h:n<=4096):z_ (bI.new n):=
 ⟨⟨h,CK h (by decide),tL _,CK h (by decide)⟩,tL _,tL _,tL _,tL _,tL _,rfl,tL _⟩
theorem DZ{M:Side}(h:Bd M):Bd M.rQ:=by
 have G:(M.lost++M.ay.filter M.dF++M.ay.filter fun x=> !M.dF x).Pairwise fun x y=>x.1≠y.1:=by
  rw[List.append_assoc];have hp:(M.ay.filter M.dF++M.ay.filter fun x=> !M.dF x).Perm M.ay:=qa2 _ _;exact(((List.Perm.refl M.lost).append hp).pairwise_iff (fun{_ _} e=>Ne.symm e)).2 h.ky
 refine⟨fun k=>?_,fun k=>?_,h.g.lose,h.lm,h.mt,fun x F=>h.wy x (tT.1 F).1,fun x F=>?_,?_,CK (Si _ _) h.wl,?_,h.nm,h.cm,fun x F=>h.tk x (tT.1 F).1⟩
 ·show OtB ((M.outs.map gD).getD k sF)
  by_cases G:k<M.outs.length
  ·have:(M.outs.map gD).getD k sF=gD (M.out k):=by
    unfold Side.out;rw[jK,jK,qa8,DJ G];rfl
   rw[this];exact⟨(h.o k).b,(h.o k).c,(h.o k).c⟩
  ·have:(M.outs.map gD).getD k sF=sF:=by
    rw[jK,wz (by simp;omega)];rfl
   rw[this];exact XV
 ·show z_ ((M.ins.map fA).getD k sQ)
  by_cases G:k<M.ins.length
  ·have:(M.ins.map fA).getD k sQ=fA (M.inn k):=by
    unfold Side.inn;rw[jK,jK,qa8,DJ G];rfl
   rw[this];exact(h.i k).gr' _ (h.i k).g.lose
  ·have:(M.ins.map fA).getD k sQ=sQ:=by
    rw[jK,wz (by simp;omega)];rfl
   rw[this];exact BI 0 (by decide)
 ·rcases M4.1 (tT.1 F).1 with F|F
  ·exact h.ls x F
  ·exact h.wy x (tT.1 F).1
 ·show((qag _ (M.lost++M.ay.filter M.dF))++M.ay.filter fun x=> !M.dF x).Pairwise _;exact G.sublist (List.filter_sublist.append (List.Sublist.refl _))
 ·show(qag _ (M.lost++M.ay.filter M.dF)).length<=65
  refine DY 65 (M.next-64) _ ((G.sublist (List.sublist_append_left _ _)).filter _) fun x F=>?_
  obtain⟨p,q⟩:=tT.1 F
  have H:x.1<M.next:=by
   rcases M4.1 p with p|p
   ·exact(h.ls x p).1
   ·exact(h.wy x (tT.1 p).1).1
  simp at q;omega
theorem D5{M G:Side}(h:Bd M)(F:M.je G):Bd G:=by
 unfold Side.je at F;split at F
 ·obtain⟨lp,hp,rfl⟩:=F;exact BH _ (fun a f b=>DW a f b) _ (DZ h) (qp fun x H=>h.wy x (tT.1 (hp.mem_iff.1 H)).1)
 ·rw[F];exact h
theorem OD{M H:Side}{l:List (Nat×Nat)}(h:Bd M)(hl:(l.getD 0 (0,0)).2<M.next)(I:M.rR l H):Bd H:=by
 obtain⟨lp,lq,hp,hq,rfl⟩:=I;refine BH _ (fun a f b=>DX a f b) _ ?_ (fun f G=>?_)
 ·exact⟨h.o,h.i,h.g,h.lm,h.mt,fun x F=>h.wy x (tT.1 F).1,fun x F=>h.ls x (tT.1 F).1,
   h.ky.sublist (List.filter_sublist.append List.filter_sublist),CK (Si _ _) h.wl,CK (Si _ _) h.ll,Z9.2 ⟨h.nm,hl⟩,h.cm,fun x F=>h.tk x (tT.1 F).1⟩
 ·rcases M4.1 G with G|G
  ·exact qp (fun x F=>h.wy x (tT.1 (hp.mem_iff.1 F)).1) f G
  ·exact qp (fun x F=>h.ls x (tT.1 (hq.mem_iff.1 F)).1) f G
theorem Jl{c:NS}(h:CmB c)(n:Nat)(I:n<=aU):CmB (c.add 8 n n):=by
 unfold NS.add Rg.add
 by_cases h1:n<max n c.fl
 ·rw[if_pos h1];exact h
 ·rw[if_neg h1]
  have H:max n c.fl<=n:=by omega
  have s:=Rg.jO c.rs (max n c.fl) n H h.so;have hi:=Rg.sP c.rs (max n c.fl) n aU I h.hi;have hl:=Rg.lW c.rs (max n c.fl) n;have U:=h.ln
  by_cases G:8<(Rg.ins (max n c.fl) n c.rs).length
  ·rw[if_pos G];refine⟨s.tail,fun r O=>hi r (qa4 O),by simp only[List.length_tail];omega,?_⟩
   have F:0<(Rg.ins (max n c.fl) n c.rs).length:=by omega
   have:=hi _ (List.getElem_mem F);show((Rg.ins (max n c.fl) n c.rs).getD 0 (0,0)).2+1<=aU+1;rw[jK,DJ F];exact Nat.succ_le_succ this
  ·rw[if_neg G];exact⟨s,hi,by show(Rg.ins (max n c.fl) n c.rs).length<=8;omega,h.fl⟩
theorem OE{i:bI}(h:z_ i)(lo:Nat)(d:List UInt8)(h1:i.read<=lo)(G:lo+d.length<=2048):z_ (i.hold lo d):=by
 have hl:=h.l;have F:=h.c;obtain⟨a,b⟩:=qh d (lo-i.read) (i.held++nI (lo-i.read+d.length-i.held.length) 0) (i.came++nI (lo-i.read+d.length-i.held.length) false);refine⟨h.g,h.r,h.h,h.f,h.e,?_,?_,h.s⟩
 ·show i.read+(aY d (lo-i.read) (i.held++nI (lo-i.read+d.length-i.held.length) 0) (i.came++nI (lo-i.read+d.length-i.held.length) false)).1.length<=2048;rw[a,Lb,Vh];omega
 ·show(aY d (lo-i.read) (i.held++nI (lo-i.read+d.length-i.held.length) 0) (i.came++nI (lo-i.read+d.length-i.held.length) false)).2.length=(aY d (lo-i.read) (i.held++nI (lo-i.read+d.length-i.held.length) 0) (i.came++nI (lo-i.read+d.length-i.held.length) false)).1.length;rw[a,b,Lb,Lb,Vh,Vh,F]
theorem OG{i:bI}(h:z_ i)(f:Fr)(F:av f<=2048):z_ (i.take f):=by
 have h1:z_ {i with high:=max i.high (av f),ended:=i.ended||f.fin,dD:=if f.fin then av f else i.dD}:=
  ⟨h.g,h.r,Z9.2 ⟨h.h,F⟩,(by show(if f.fin=true then av f else i.dD)<=2048;split;exact F;exact h.f),h.e,h.l,h.c,h.s⟩
 have key:∀j:bI,z_ j->z_ (if max f.offset j.read<min (av f) j.wanted then j.hold (max f.offset j.read) ((f.data.data.toList.take (min (av f) j.wanted-f.offset)).drop (max f.offset j.read-f.offset))else j):=fun j G=>by
  split
  ·refine OE G _ _ (qaa _ _) ?_;rw[Kt,qa1];omega
  ·exact G
 exact key _ h1
theorem WE{i:bI}(h:z_ i)(most:Int):z_ (i.rd most).2:=by
 have hl:=h.l;have F:=h.c
 have G:min i.ready (max most 0).toNat<=i.held.length:=by
  have:i.ready<=i.came.length:=by
   unfold bI.ready;exact(List.takeWhile_sublist _).length_le
  omega
 unfold bI.rd;simp only;refine⟨h.g,?_,h.h,h.f,h.e,?_,?_,?_⟩
 ·show i.read+_<=2048;omega
 ·show i.read+min i.ready (max most 0).toNat+(i.held.drop (min i.ready (max most 0).toNat)).length<=2048;rw[Kt];omega
 ·show(i.came.drop _).length=(i.held.drop _).length;rw[Kt,Kt,F]
 ·show(if(i.cut _).state=0 then(i.cut _).reached else(i.cut _).state)<=2;split
  ·unfold bI.reached
   repeat' split
   all_goals decide
  ·exact h.s
def Side.fK(M:Side)(f:Fr)(F:Side)(e:Nat):Prop:=
 if f.kind=2 then(if M.next<=(f.ranges.getD 0 (0,0)).2 then F=M/\e=11 else M.rR f.ranges F/\e=0)else(F,e)=M.take f
def lI:Side->List Fr->Side->Nat->Prop
 |M,[],M1,e=>M1=M/\e=0
 |M,f::t,M1,e=>∃G F,M.fK f G F/\if F=0 then lI G t M1 e else M1={G with why:=F}/\e=F
def Side.h_(M:Side)(n:Nat)(fs:List Fr)(F:Side)(e:Nat):Prop:=
 if M.came.has n then F=M/\e=0 else lI {M with came:=M.came.add 8 n n,answer:=M.answer||wants fs} fs F e
theorem D6{A B A':Side}{e:Nat}(V:dh A)(hB:dh B)(h1:bF A B)(U:bF B A)(F:Bd A)(O:Bd B)(f:Fr)(H:kH B A f)(h:A.fK f A' e):e=0/\Stp A B A'/\Bd A'/\A'.next=A.next/\A'.aH=A.aH:=by
 unfold Side.fK at h
 have I:∀(l:List Fr) (M:Side),(l.foldl Side.bookC M).next=M.next/\(l.foldl Side.bookC M).aH=M.aH:=fun l=>by
  induction l with
  |nil=>exact fun M=>⟨rfl,rfl⟩
  |cons f t X=>
   intro M
   have hb:(M.bookC f).next=M.next/\(M.bookC f).aH=M.aH:=by
    unfold Side.bookC
    repeat' split
    all_goals exact⟨rfl,rfl⟩
   exact⟨(X _).1.trans hb.1,(X _).2.trans hb.2⟩
 by_cases k2:f.kind=2
 ·rw[if_pos k2]at h
  have hr:(f.ranges.getD 0 (0,0)).2<A.next:=by
   rcases H with⟨_,_,h⟩|⟨h,_⟩|⟨h,_⟩|⟨h,_⟩
   ·exact h
   ·rw[k2]at h;cases h
   ·rw[k2]at h;cases h
   ·rw[k2]at h;cases h
  rw[if_neg (by omega)]at h;obtain⟨h,rfl⟩:=h;refine⟨rfl,KZ V h1 U _ h,OD F hr h,?_⟩;obtain⟨lp,lq,_,_,rfl⟩:=h;exact I _ _
 ·rw[if_neg k2]at h;obtain⟨t1,t2⟩:=Ji V hB h1 U f H;have Z:A'=(A.take f).1:=congrArg Prod.fst h;have e2:e=(A.take f).2:=congrArg Prod.snd h;rw[Z,e2];refine⟨t1,t2,?_⟩;unfold Side.take;rw[if_neg k2]
  rcases H with⟨G,_⟩|⟨G,hs,hs8,hd⟩|⟨G,hl⟩|⟨G,hs,hs8,hl⟩
  ·exact absurd G k2
  ·rw[if_pos G];split
   ·exact⟨F,rfl,rfl⟩
   ·split
    ·exact⟨F,rfl,rfl⟩
    ·exact⟨F.bP _ _ (OG (F.i _) f (CK hd.b (O.o _).b)),rfl,rfl⟩
  ·have:f.limit<=aU:=CK hl O.g.2.1;rw[if_neg (by rw[G];decide),if_neg (by rw[G];decide),if_neg (by rw[G];decide),if_neg (by rw[G];decide),if_pos G];exact⟨⟨F.o,F.i,F.g,Z9.2 ⟨F.lm,this⟩,F.mt,F.wy,F.ls,F.ky,F.wl,F.ll,F.nm,F.cm,F.tk⟩,rfl,rfl⟩
  ·rw[if_neg (by rw[G];decide),if_neg (by rw[G];decide),if_neg (by rw[G];decide),if_neg (by rw[G];decide),if_neg (by rw[G];decide),if_pos G];exact⟨F.aW _ _ ⟨(F.o _).b,(F.o _).a,(F.o _).c⟩,rfl,rfl⟩
theorem uR:∀(fs:List Fr) {A B A':Side} {e:Nat},dh A->dh B->bF A B->bF B A->Bd A->Bd B->(∀f∈fs,kH B A f)->lI A fs A' e->e=0/\Stp A B A'/\Bd A'/\A'.next=A.next/\A'.aH=A.aH
 |[],A,B,A',e,hA,hB,h1,h2,bA,bB,_,h=>by
  obtain⟨rfl,rfl⟩:=h;exact⟨rfl,gN hA h1 h2,bA,rfl,rfl⟩
 |f::t,A,B,A',e,hA,hB,h1,h2,bA,bB,hf,h=>by
  obtain⟨O,U,r,h⟩:=h;obtain⟨rfl,s,b,n,m⟩:=D6 hA hB h1 h2 bA bB f (hf f (by simp)) r;rw[if_pos rfl]at h;obtain⟨F,I,b2,n2,H⟩:=uR t s.loc hB s.ab s.ba b bB (fun g G=>(hf g (by simp[G])).mono (yT.refl _) s.le) h;exact⟨F,s.trans I,b2,n2.trans n,H.trans m⟩
theorem D7{A B A':Side}{e:Nat}(H:dh A)(hB:dh B)(h1:bF A B)(G:bF B A)(F:Bd A)(I:Bd B)(n:Nat)(fs:List Fr)(X:n<B.next)(hm:B.next<=aU)(U:∀f∈fs,kH B A f)(h:A.h_ n fs A' e):e=0/\Stp A B A'/\Bd A'/\A'.next=A.next/\A'.aH=A.aH:=by
 unfold Side.h_ at h;split at h
 ·obtain⟨rfl,rfl⟩:=h;exact⟨rfl,gN H h1 G,F,rfl,rfl⟩
 ·have s:=DN H h1 G n X (A.answer||wants fs)
  obtain⟨O,s2,b2,n2,Z⟩:=uR fs s.loc hB s.ab s.ba (A:={A with came:=A.came.add 8 n n,answer:=A.answer||wants fs})
   ⟨F.o,F.i,F.g,F.lm,F.mt,F.wy,F.ls,F.ky,F.wl,F.ll,F.nm,Jl F.cm n (by omega),F.tk⟩ I (fun g V=>(U g V).mono (yT.refl _) s.le) h
  exact⟨O,s.trans s2,b2,n2,Z⟩
theorem Jm{A:Side}(h:Bd A)(k:Nat)(b:List UInt8):Bd (A.aW k ((A.out k).send b).1):=by
 refine h.aW _ _ ?_;unfold Ot.send;split
 ·exact h.o k
 ·split
  ·exact h.o k
  ·rename_i F;exact⟨by show((A.out k).bytes++b).length<=2048;rw[Lb];omega,(h.o k).a,(h.o k).c⟩
theorem Ab{A:Side}(h:Bd A)(k:Nat):Bd (A.aW k (A.out k).finish.1):=by
 refine h.aW _ _ ?_;unfold Ot.finish;split
 ·exact h.o k
 ·exact⟨(h.o k).b,(h.o k).a,(h.o k).c⟩
theorem D8{A:Side}(h:Bd A):Bd A.ticks:=⟨h.o,h.i,h.g,h.lm,h.mt,h.wy,h.ls,h.ky,h.wl,h.ll,h.nm,h.cm,fun x F=>Nat.le_succ_of_le (h.tk x F)⟩
theorem Jo{A:Side}(h:Bd A)(k:Nat)(most:Int):Bd (A.bP k ((A.inn k).rd most).2):=h.bP _ _ (WE (h.i k) most)
theorem WG(aH window total:Nat)(O:64<=aH/\aH<=400)(U:window<=4096)(ht:total<=4096):Bd (Side.new aH window total):=by
 have I:tq ⟨0,[]⟩:=⟨rfl,trivial,fun r H=>by cases H⟩;refine⟨fun k=>?_,fun k=>?_,⟨ht,CK ht (by decide),tL _,CK ht (by decide)⟩,CK ht (by decide),O,(fun x G=>by cases G),(fun x G=>by cases G),List.Pairwise.nil,tL _,tL _,tL _,⟨trivial,(fun r H=>by cases H),tL _,tL _⟩,(fun x G=>by cases G)⟩
 ·show OtB ((nI 8 (Ot.new window)).getD k sF)
  by_cases F:k<8
  ·rw[jK,KG,if_pos F];exact⟨tL _,I,I⟩
  ·rw[jK,KG,if_neg F];exact XV
 ·show z_ ((nI 8 (bI.new window)).getD k sQ)
  by_cases F:k<8
  ·rw[jK,KG,if_pos F];exact BI _ U
  ·rw[jK,KG,if_neg F];exact BI 0 (by decide)
end Go.Proofs.YtphbledmopchnaaGreatDoor.Sd
