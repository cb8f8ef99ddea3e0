import Derived.Test.YtphbledmopchnaaGreatDoorLia
open Bool renaming or_eq_false_iff->mY,and_eq_true->qy,and_eq_false_iff->tK,and_false->tL,not_eq_false'->uj
open List renaming getD_eq_getElem?_getD->j3,getElem?_eq_getElem->lg,length_map->mI,mem_filter->mK,mem_map->mR,length_filter_le->nP,getD_cons_succ->nV,getD_cons_zero->og,mem_cons->o8,getElem?_map->qx,any_eq_true->qA,getElem_mem->rX,mem_append_left->tO,filter_sublist->tT,length_append->wz,mem_append->yP,nil_append->Bf,map_cons->CP
open Nat renaming le_refl->eB,le_trans->eT,le_max_left->nA,zero_le->nI,not_lt_zero->nU,le_of_eq->sF,lt_of_lt_of_le->xB,sub_self->xQ,div_le_self->Bu,max_le->Cr
open Go.RowKit renaming intOf->mE
set_option maxHeartbeats 4000000
set_option maxRecDepth 100000
namespace Go.Proofs.YtphbledmopchnaaGreatDoor.Sd
open St Tryz
structure AP (A A':av):Prop where
 ow:A'.aJ.Sublist A.aJ
 nx:A'.next=A.next/\A'.bE=A.bE
 aw:∀k p,Rg.Mem (A.out k).cK.rs p->Rg.Mem (A'.out k).cK.rs p
 ot:∀k,(A'.out k).dw=(A.out k).dw/\(A'.out k).ay=(A.out k).ay/\(A'.out k).bn=(A.out k).bn
 g:A.gr.cK<=A'.gr.cK/\A.gr.aM<=A'.gr.aM
 i:∀k,(A.bF k).gr.cK<=(A'.bF k).gr.cK/\(A.bF k).gr.aM<=(A'.bF k).gr.aM
 h:∀k,(A.bF k).fF<=(A'.bF k).fF/\((A.bF k).bM=true->(A'.bF k).bM=true)
 r:∀k,(A.bF k).aR<=(A'.bF k).aR
 l:A.aL<=A'.aL/\∀k,(A.out k).aL<=(A'.out k).aL
theorem AP.refl(A:av):AP A A:=⟨List.Sublist.refl _,⟨rfl,rfl⟩,fun _ _ h=>h,fun _=>⟨rfl,rfl,rfl⟩,⟨eB _,eB _⟩,fun _=>⟨eB _,eB _⟩,fun _=>⟨eB _,fun h=>h⟩,fun _=>eB _,⟨eB _,fun _=>eB _⟩⟩
theorem AP.trans{A B C:av}(h:AP A B)(g:AP B C):AP A C:=
 ⟨g.ow.trans h.ow,⟨g.nx.1.trans h.nx.1,g.nx.2.trans h.nx.2⟩,fun k p x=>g.aw k p (h.aw k p x),fun k=>⟨(g.ot k).1.trans (h.ot k).1,(g.ot k).2.1.trans (h.ot k).2.1,(g.ot k).2.2.trans (h.ot k).2.2⟩,⟨eT h.g.1 g.g.1,eT h.g.2 g.g.2⟩,fun k=>⟨eT (h.i k).1 (g.i k).1,eT (h.i k).2 (g.i k).2⟩,fun k=>⟨eT (h.h k).1 (g.h k).1,fun x=>(g.h k).2 ((h.h k).2 x)⟩,fun k=>eT (h.r k) (g.r k),⟨eT h.l.1 g.l.1,fun k=>eT (h.l.2 k) (g.l.2 k)⟩⟩
theorem KS(A:av)(k:Nat)(o:Ot)(a:∀p,Rg.Mem (A.out k).cK.rs p->Rg.Mem o.cK.rs p)(hs:o.dw=(A.out k).dw/\o.ay=(A.out k).ay/\o.bn=(A.out k).bn)(hl:(A.out k).aL<=o.aL):AP A (A.dD k o):=by
 refine⟨List.Sublist.refl _,⟨rfl,rfl⟩,fun j p hp=>?_,fun j=>?_,⟨eB _,eB _⟩,fun _=>⟨eB _,eB _⟩,fun _=>⟨eB _,fun h=>h⟩,fun _=>eB _,⟨eB _,fun j=>?_⟩⟩
 ·rw[fB];split;·rename_i e;rw[e.1]at hp;exact a p hp
  ·exact hp
 ·rw[fB];split;·rename_i e;rw[e.1];exact hs
  ·exact⟨rfl,rfl,rfl⟩
 ·rw[fB];split;·rename_i e;rw[e.1];exact hl
  ·exact eB _
theorem DL(A:av)(k:Nat)(i:eH)(a:(A.bF k).gr.cK<=i.gr.cK/\(A.bF k).gr.aM<=i.gr.aM)(b:(A.bF k).fF<=i.fF/\((A.bF k).bM=true->i.bM=true))(c:(A.bF k).aR<=i.aR):AP A (A.eG k i):=by
 refine⟨List.Sublist.refl _,⟨rfl,rfl⟩,fun _ _ h=>h,fun _=>⟨rfl,rfl,rfl⟩,⟨eB _,eB _⟩,fun j=>?_,fun j=>?_,fun j=>?_,⟨eB _,fun _=>eB _⟩⟩;all_goals
  rw[dQ];split;·rename_i e;rw[e.1];assumption
  ·first
   |exact⟨eB _,eB _⟩
   |exact⟨eB _,fun h=>h⟩
   |exact eB _
theorem Sq{A:av}(bd:Bd A)(f:Fr)(a:EX f):AP A (A.dx f):=by
 have c:=a.kd;unfold av.dx;split;·rename_i b;exact KS A _ _ (fun p hp=>(jJ (bd.o _).a (a.dt b) p).2 (.inl hp)) ⟨rfl,rfl,rfl⟩ (eB _)
 ·split;·omega
  ·split;·exact DL A _ _ ⟨eB _,nA _ _⟩ ⟨eB _,fun h=>h⟩ (eB _)
   ·exact⟨List.Sublist.refl _,⟨rfl,rfl⟩,fun _ _ h=>h,fun _=>⟨rfl,rfl,rfl⟩,⟨eB _,nA _ _⟩,fun _=>⟨eB _,eB _⟩,fun _=>⟨eB _,fun h=>h⟩,fun _=>eB _,⟨eB _,fun _=>eB _⟩⟩
theorem DN:∀(F:List Fr) {A:av},Bd A->(∀f∈F,EX f)->AP A (F.foldl av.dx A)/\(F.foldl av.dx A).named=A.named/\(F.foldl av.dx A).aT=A.aT
 |[],A,_,_=>⟨AP.refl A,rfl,rfl⟩
 |f::t,A,bd,hf=>by
  obtain⟨a,b,c⟩:=DN t (xR bd f (hf f aP)) fun g d=>hf g (by simp[d]);have e:(A.dx f).named=A.named/\(A.dx f).aT=A.aT:=by
   unfold av.dx;repeat' split
   all_goals exact⟨rfl,rfl⟩
  exact⟨(Sq bd f (hf f aP)).trans a,b.trans e.1,c.trans e.2⟩
theorem Sr{A A':av}{l:bW}(bd:Bd A)(i:(l.getD 0 (0,0)).2<A.next)(hl:A.nu l A'):AP A A'/\(∀z∈A'.aJ,names l z.1=false)/\A'.named=max A.named ((l.getD 0 (0,0)).2+1)/\A'.aT=A.aT:=by
 obtain⟨lp,lq,p1,p2,rfl⟩:=hl;have hB:Bd (A.rZ l):=⟨bd.o,bd.i,bd.g,bd.lm,bd.mt,fun x d=>bd.wy x (mK.1 d).1,fun x d=>bd.ls x (mK.1 d).1,bd.ky.sublist (List.filter_sublist.append tT),eT (nP _ _) bd.wl,eT (nP _ _) bd.ll,Cr.2 ⟨bd.nm,i⟩,bd.cm,fun x d=>bd.tk x (mK.1 d).1⟩;obtain⟨a,b,c⟩:=DN (bI lp++bI lq) hB fun f e=>by
  rcases yP.1 e with e|e;·exact jR (fun x d=>bd.wy x (mK.1 (p1.mem_iff.1 d)).1) f e
  ·exact jR (fun x d=>bd.ls x (mK.1 (p2.mem_iff.1 d)).1) f e
 have g:AP A (A.rZ l):=⟨tT,⟨rfl,rfl⟩,fun _ _ h=>h,fun _=>⟨rfl,rfl,rfl⟩,⟨eB _,eB _⟩,fun _=>⟨eB _,eB _⟩,fun _=>⟨eB _,fun h=>h⟩,fun _=>eB _,⟨eB _,fun _=>eB _⟩⟩;refine⟨g.trans a,fun z hz=>?_,b,c⟩;have:=(mK.1 (a.ow.subset hz)).2;simpa using this
theorem Eo(i:eH)(f:Fr):i.fF<=(i.take f).fF/\(i.bM=true->(i.take f).bM=true)/\(i.take f).aR=i.aR:=by
 obtain⟨i1,a⟩:∃i1:eH,i1={i with fF:=max i.fF (bC f),bM:=i.bM||f.bn,fU:=if f.bn then bC f else i.fU}:=⟨_,rfl⟩;have b:i.take f=if max f.aD i1.aR<min (bC f) i1.wanted then i1.hold (max f.aD i1.aR) ((f.data.data.toList.take (min (bC f) i1.wanted-f.aD)).drop (max f.aD i1.aR-f.aD))else i1:=by rw[a];rfl
 have h1:i.fF<=i1.fF/\(i.bM=true->i1.bM=true)/\i1.aR=i.aR:=by rw[a];exact⟨nA _ _,(fun h=>by simp[h]),rfl⟩
 rw[b];split;·exact h1
 ·exact h1
theorem Sv{R S i:av}{e:Nat}(r:fE R)(t:fE S)(h1:dO R S)(q:dO S R)(p:Bd R)(f:Fr)(n:lJ S R f)(h:R.iN f i e)(s:Nat)(hs:f.aC=2->(f.ranges.getD 0 (0,0)).2<s)(o:R.named<=s):AP R i/\i.named<=s/\i.aT=R.aT/\(f.aC=2->∀z∈i.aJ,names f.ranges z.1=false):=by
 unfold av.iN at h;by_cases k2:f.aC=2
 ·rw[bK k2]at h;have u:(f.ranges.getD 0 (0,0)).2<R.next:=by
   rcases n with⟨_,_,h⟩|⟨h,_⟩|⟨h,_⟩|⟨h,_⟩;·exact h
   ·rw[k2]at h;cases h
   ·rw[k2]at h;cases h
   ·rw[k2]at h;cases h
  rw[aU aj]at h;obtain⟨a,b,c,d⟩:=Sr p u h.1;exact⟨a,by rw[c];have:=hs k2;omega,d,fun _=>b⟩
 ·rw[aU k2]at h;have j:=(A_ r t h1 q f n).1;have m:i=(R.take f).1:=congrArg Prod.fst h;clear h;rcases n with⟨g,_⟩|⟨g,_⟩|⟨g,_⟩|⟨g,_⟩;·exact absurd g k2
  ·have l:i=R.eG f.aH.toNat ((R.bF f.aH.toNat).take f):=by
    rw[m];unfold av.take at j ⊢;rw[aU k2,bK g]at j ⊢;split at j;·rename_i c;exact absurd j c
    ·rename_i c;rw[aU c];split at j;·cases j
     ·rename_i c2;rw[aU c2]
   rw[l];obtain⟨v,w,x⟩:=Eo (R.bF f.aH.toNat) f;exact⟨DL R _ _ (by rw[Ak];exact⟨eB _,eB _⟩) ⟨v,w⟩ (by rw[x];exact eB _),o,rfl,fun k=>absurd k k2⟩
  ·have l:i={R with aL:=max R.aL f.aL}:=by
    rw[m];unfold av.take;rw[aU k2,aU (by rw[g];decide),aU (by rw[g];decide),aU (by rw[g];decide),aU (by rw[g];decide),bK g]
   rw[l];exact⟨⟨List.Sublist.refl _,⟨rfl,rfl⟩,fun _ _ h=>h,fun _=>⟨rfl,rfl,rfl⟩,⟨eB _,eB _⟩,fun _=>⟨eB _,eB _⟩,fun _=>⟨eB _,fun h=>h⟩,fun _=>eB _,⟨nA _ _,fun _=>eB _⟩⟩,o,rfl,fun k=>absurd k k2⟩
  ·have l:i=R.dD f.aH.toNat {R.out f.aH.toNat with aL:=max (R.out f.aH.toNat).aL f.aL}:=by
    rw[m];unfold av.take;rw[aU k2,aU (by rw[g];decide),aU (by rw[g];decide),aU (by rw[g];decide),aU (by rw[g];decide),aU (by rw[g];decide),bK g]
   rw[l];exact⟨KS R _ _ (fun _ h=>h) ⟨rfl,rfl,rfl⟩ (nA _ _),o,rfl,fun k=>absurd k k2⟩
theorem yD(s:Nat):∀(fs:List Fr) {R S R':av},fE R->fE S->dO R S->dO S R->Bd R->Bd S->(∀f∈fs,lJ S R f)->kZ R fs R' 0->(∀f∈fs,f.aC=2->(f.ranges.getD 0 (0,0)).2<s)->R.named<=s->AP R R'/\R'.named<=s/\R'.aT=R.aT/\∀f∈fs,f.aC=2->∀z∈R'.aJ,names f.ranges z.1=false
 |[],R,S,R',_,_,_,_,_,_,_,h,_,hn=>by obtain⟨rfl,_⟩:=h;exact⟨AP.refl _,hn,rfl,fun f c=>by cases c⟩
 |f::t,R,S,R',hR,hS,h1,h2,bR,bS,c,h,hs,hn=>by
  obtain⟨u,v,r,h⟩:=h;obtain⟨rfl,st,b,_,_⟩:=xU hR hS h1 h2 bR bS f (c f aP) r;rw[bK rfl]at h;obtain⟨j,l,m,n⟩:=Sv hR hS h1 h2 bR f (c f aP) r s (hs f aP) hn;obtain⟨i,o,p,q⟩:=yD s t st.loc hS st.ab st.ba b bS (fun g e=>(c g (by simp[e])).mono (Au.refl _) st.le) h (fun g e=>hs g (by simp[e])) l;refine⟨j.trans i,o,p.trans m,fun a d k z hz=>?_⟩;rcases o8.1 d with rfl|d;·exact n k z (i.ow.subset hz)
  ·exact q a d k z hz
theorem Sw{R S b:av}(l:fE R)(m:fE S)(h1:dO R S)(k:dO S R)(a:Bd R)(j:Bd S){y:Nat×List Fr}(i:y.1<S.next)(n:∀f∈y.2,lJ S R f)(v:R.next<=dK/\S.next<=dK)(h:R.jc y.1 y.2 b 0)(s:Nat)(hs:∀f∈y.2,f.aC=2->(f.ranges.getD 0 (0,0)).2<s)(o:R.named<=s)(g:R.aM.has y.1=false):AP R b/\b.named<=s/\b.aT=(R.aT||eO y.2)/\b.aM=R.aM.add 8 y.1 y.1/\∀f∈y.2,f.aC=2->∀z∈b.aJ,names f.ranges z.1=false:=by
 unfold av.jc at h;rw[aU (by rw[g];decide)]at h;obtain⟨c,d⟩:∃c:av,c={R with aM:=R.aM.add 8 y.1 y.1,aT:=R.aT||eO y.2}:=⟨_,rfl⟩;have st:=xO l h1 k y.1 i (R.aT||eO y.2);have b0:Bd c:=by rw[d];exact⟨a.o,a.i,a.g,a.lm,a.mt,a.wy,a.ls,a.ky,a.wl,a.ll,a.nm,Ba a.cm y.1 aj,a.tk⟩
 rw[<-d]at h st;obtain⟨q,r,t,u⟩:=yD s y.2 st.loc m st.ab st.ba b0 j (fun f h=>(n f h).mono (Au.refl _) st.le) h hs (by rw[d];exact o);have p:AP R c:=by rw[d];exact⟨List.Sublist.refl _,⟨rfl,rfl⟩,fun _ _ h=>h,fun _=>⟨rfl,rfl,rfl⟩,⟨eB _,eB _⟩,fun _=>⟨eB _,eB _⟩,fun _=>⟨eB _,fun h=>h⟩,fun _=>eB _,⟨eB _,fun _=>eB _⟩⟩
 refine⟨p.trans q,r,t.trans (by rw[d]),?_,u⟩;have e:b.aM=c.aM:=qj y.2 c h;rw[e,d]
def Tp(s:NS)(n0 c:Nat):Prop:=n0<=c/\(∀r∈s.rs,r.2<c)/\s.fl<=c/\(c=n0\/∃r∈s.rs,r.1<=n0/\r.2+1=c)
theorem Tp.mem{s:NS}{n0 c p:Nat}(h:Tp s n0 c)(h1:n0<=p)(f:p<c):Rg.Mem s.rs p:=by
 rcases h.2.2.2 with e|⟨r,d,a,b⟩;·omega
 ·exact⟨r,d,aj,aj⟩
theorem Tp.new{s:NS}{n0 c:Nat}(h:Tp s n0 c)(hs:Rg.fI s.rs):s.has c=false:=by
 unfold NS.has;rw[mY];refine⟨decide_eq_false (bV h.2.2.1),?_⟩;cases a:Rg.has c s.rs with
 |false=>rfl
 |true=>obtain⟨r,d,_,b⟩:=(Rg.AV s.rs c hs).1 a;have:=h.2.1 r d;omega
theorem Pb:∀(rs:bW) (c:Nat),Rg.fI rs->(∀r∈rs,r.2<c)->∃t a,Rg.ins c c rs=t++[(a,c)]/\a<=c/\(∀r∈rs,r.2+1=c->a<=r.1)
 |[],c,_,_=>⟨[],c,rfl,eB _,fun r f=>by cases f⟩
 |r::t,c,hs,h=>by
  obtain⟨s1,k,g⟩:=hs;have f:=h r aP;unfold Rg.ins;by_cases c1:r.2+1<c
  ·rw[bK c1];obtain⟨i,a,e,h1,j⟩:=Pb t c g fun x b=>h x (by simp[b]);refine⟨r::i,a,by rw[e];rfl,h1,fun x b d=>?_⟩;rcases o8.1 b with rfl|b;·omega
   ·exact j x b d
  ·rw[aU c1,aU aj];have ht:t=[]:=by
    cases t with
    |nil=>rfl
    |cons x i=>have:=k x aP;have:=h x aP;have:=g.1;omega
   rw[ht];refine⟨[],min c r.1,?_,Nat.min_le_left _ _,fun x b d=>?_⟩;·show[(min c r.1,max c r.2)]=_;rw[Nat.max_eq_left aj];rfl
   ·rcases o8.1 b with rfl|b;·exact Nat.min_le_right _ _
    ·cases b
theorem Tp.add{s:NS}{n0 c:Nat}(h:Tp s n0 c)(hs:Rg.fI s.rs):Tp (s.add 8 c c) n0 (c+1):=by
 obtain⟨m,h1,n,g⟩:=h;have j:max c s.fl=c:=aj;obtain⟨t,a,e,o,hb⟩:=Pb s.rs c hs h1;have d:∀r∈Rg.ins c c s.rs,r.2<c+1:=fun r b=>by have:=Rg.sZ s.rs c c c (eB _) (fun x k=>bV (h1 x k)) r b;omega
 have f:a<=n0:=by
  rcases g with g|⟨r,b,p,l⟩;·omega
  ·have:=hb r b l;omega
 refine⟨aj,fun r b=>?_,WB aj (fun r b=>bV (h1 r b)) aj,.inr ⟨(a,c),?_,f,rfl⟩⟩
 ·unfold NS.add Rg.add at b;rw[j,aU aj]at b;split at b;·exact d r (List.mem_of_mem_tail b)
  ·exact d r b
 ·unfold NS.add Rg.add;rw[j,aU aj];split
  ·rename_i i;show(a,c)∈(Rg.ins c c s.rs).tail;rw[e]at i ⊢;cases t with
   |nil=>simp at i
   |cons x q=>simp
  ·show(a,c)∈Rg.ins c c s.rs;rw[e];simp
theorem Xj{A B A':av}{pk:List (Nat×List Fr)}(f:fE A)(h1:dO A B)(d:dO B A)(bd:Bd A)(i:A.next+24<1073741824)(hB:B.next<=1073741824)(h:A.jS A' pk):∃M1,A.gU M1/\PE {M1 with aT:=false} (lf M1) [] (A',pk):=by
 obtain⟨M1,hl,e⟩:=h;obtain⟨c,b,g⟩:=yu f h1 d bd hl;have s1:=uS f h1 d hl;have k:=lU s1.loc s1.ab s1.ba false;have P:=FM i ((lf M1).length+14) (lf M1) q0 [] c k.loc (fun r a=>by
  have:=c.hi r a;have hd:=c.dn;have:r.1<=r.2:=by
   clear this b g c e;generalize lf M1=L at a hd;induction L with
   |nil=>cases a
   |cons x t j=>
    rcases o8.1 a with rfl|a;·exact hd.1
    ·exact j a hd.2.2.2
  omega) (qfb _ _) lq0 b
 rw[e]at P;exact⟨M1,hl,P⟩
def jP(l:List (Nat×Nat×List Fr))(i:Nat):Nat->Nat
 |0=>0
 |j+1=>jP l i j+(if(l.getD j (0,0,[])).1=i then 1 else 0)
structure CI (bG w t:Nat) (l:List (Nat×Nat×List Fr)) (n0 s:Nat->Nat) (n2:Net) (j:Nat) (m:Net):Prop where
 p:fH bG {m with dN:=l}
 nl:NL w t {m with dN:=l}
 b:m.dN=[]
 mo:∀i,i<2->AP (n2.x i) (m.x i)
 sm:∀i,i<2->Sm (n2.x i) (m.x i)
 nm:∀i,i<2->(m.x i).named<=s i
 tp:∀i,i<2->Tp (m.x i).aM (n0 (1-i)) (s (1-i)+jP l i j)
 ak:∀j',j'<j->∀g∈(l.getD j' (0,0,[])).2.2,g.aC=2->∀z∈(m.x (l.getD j' (0,0,[])).1).aJ,names g.ranges z.1=false
 an:∀i,i<2->((m.x i).aT=true↔(n2.x i).aT=true\/∃j',j'<j/\(l.getD j' (0,0,[])).1=i/\eO (l.getD j' (0,0,[])).2.2=true)
theorem ZU{bG w t:Nat}{l:List (Nat×Nat×List Fr)}{n0 s:Nat->Nat}{n2 m:Net}{j:Nat}(h:CI bG w t l n0 s n2 j m)(I:j<l.length)(J:∀i,i<2->(n2.x i).next<=dK)(v:(l.getD j (0,0,[])).2.1=s (1-(l.getD j (0,0,[])).1)+jP l (l.getD j (0,0,[])).1 j)(A:∀g∈(l.getD j (0,0,[])).2.2,g.aC=2->(g.ranges.getD 0 (0,0)).2<s (l.getD j (0,0,[])).1)(q:∀f∈(l.getD j (0,0,[])).2.2,f.aC≠3){M:av}(B:(m.x (l.getD j (0,0,[])).1).jc (l.getD j (0,0,[])).2.1 (l.getD j (0,0,[])).2.2 M 0):CI bG w t l n0 s n2 (j+1) (m.dY (l.getD j (0,0,[])).1 M):=by
 have G:l.getD j (0,0,[])∈l:=by rw[j3,lg I];exact rX _
 have r:∀i,jP l i (j+1)=jP l i j+(if(l.getD j (0,0,[])).1=i then 1 else 0):=fun _=>rfl;have u:∀j',j'<j+1->j'<j\/j'=j:=fun j' h=>aj;generalize x:l.getD j (0,0,[])=y at *
 obtain⟨a,y⟩:=y;simp only at v A B q r ⊢;obtain⟨c,hb⟩:=h.p.dN _ G;simp only at c;have n:Hw bG (m.x (1-a)) (m.x a) y:=hb;have p:∀i,i<2->(m.x i).next<=dK:=fun i hi=>by rw[(h.mo i hi).nx.1];exact J i hi
 have D:Rg.fI (m.x a).aM.rs:=(h.p.bd a c).cm.so;have E:=h.tp a c;have C:=E.new D;rw[<-v]at C;obtain⟨H,K,L,N,O⟩:=Sw (h.p.loc a c) (h.p.loc (1-a) aj) (h.p.two a c) (h.p.jT a c) (h.p.bd a c) (h.p.bd (1-a) aj) n.lt n.fr ⟨p a c,p _ aj⟩ B (s a) A (h.nm a c) C;obtain⟨_,st,b,nx,mt⟩:=xV (h.p.loc a c) (h.p.loc (1-a) aj) (h.p.two a c) (h.p.jT a c) (h.p.bd a c) (h.p.bd (1-a) aj) y.1 y.2 n.lt (p _ aj) n.fr B;refine⟨jF h.p a c M st b mt nx,h.nl.come h.p a c G p B,h.b,fun i hi=>?_,fun i hi=>?_,fun i hi=>?_,fun i hi=>?_,fun j' o g F k z hz=>?_,fun i hi=>?_⟩
 ·by_cases e:i=a;·rw[e,dA];exact(h.mo a c).trans H
  ·rw[dX _ _ _ _ e];exact h.mo i hi
 ·by_cases e:i=a;·rw[e,dA];exact(h.sm a c).trans (yw q B)
  ·rw[dX _ _ _ _ e];exact h.sm i hi
 ·by_cases e:i=a;·rw[e,dA];exact K
  ·rw[dX _ _ _ _ e];exact h.nm i hi
 ·rw[r];by_cases e:i=a;·rw[e,dA,bK rfl,N,v,<-Nat.add_assoc];exact E.add D
  ·rw[dX _ _ _ _ e,aU (fun h=>e h.symm)];exact h.tp i hi
 ·rcases u j' o with o|rfl
  ·by_cases e:(l.getD j' (0,0,[])).1=a;·rw[e,dA]at hz;exact h.ak j' o g F k z (by rw[e];exact H.ow.subset hz)
   ·rw[dX _ _ _ _ e]at hz;exact h.ak j' o g F k z hz
  ·rw[x]at F hz;rw[dA]at hz;exact O g F k z hz
 ·by_cases e:i=a
  ·rw[e,dA,L,Bool.or_eq_true,h.an a c];constructor
   ·rintro((h|⟨j',h1,d⟩)|h);·exact .inl h
    ·exact .inr ⟨j',aj,d⟩
    ·exact .inr ⟨j,aj,by rw[x],by rw[x];exact h⟩
   ·rintro(h|⟨j',h1,d,q⟩);·exact .inl (.inl h)
    ·rcases u j' h1 with h1|rfl;·exact .inl (.inr ⟨j',h1,d,q⟩)
     ·rw[x]at q;exact .inr q
  ·rw[dX _ _ _ _ e,h.an i hi];constructor
   ·rintro(h|⟨j',h1,d⟩);·exact .inl h
    ·exact .inr ⟨j',aj,d⟩
   ·rintro(h|⟨j',h1,d,q⟩);·exact .inl h
    ·rcases u j' h1 with h1|rfl;·exact .inr ⟨j',h1,d,q⟩
     ·rw[x]at d;exact absurd d.symm e
theorem Xk{bG w t:Nat}{l:List (Nat×Nat×List Fr)}{n0 s:Nat->Nat}{n2:Net}(c:CI bG w t l n0 s n2 0 {n2 with dN:=[]})(d:∀i,i<2->(n2.x i).next<=dK)(b:∀j,j<l.length->(l.getD j (0,0,[])).2.1=s (1-(l.getD j (0,0,[])).1)+jP l (l.getD j (0,0,[])).1 j)(a:∀j,j<l.length->∀g∈(l.getD j (0,0,[])).2.2,g.aC=2->(g.ranges.getD 0 (0,0)).2<s (l.getD j (0,0,[])).1):∀j,j<=l.length->∀m,CmR l j {n2 with dN:=[]} m->CI bG w t l n0 s n2 j m
 |0,_,m,h=>by have e:m={n2 with dN:=[]}:=h;rw[e];exact c
 |j+1,hj,m,h=>by obtain⟨n,h1,f,M,k,rfl⟩:=h;exact ZU (Xk c d b a j aj n h1) aj d (b j aj) (a j aj) f k
def RdD(i:eH):Prop:=¬(i.aM.getD 0 false=true)/\(i.bM=true->i.bX=false->i.fU<=i.aR->i.state≠0)
theorem qcy{i:eH}(h:Eh i):RdD (i.rd (4096:Nat)).2:=by
 have hl:i.ready<=4096:=by unfold eH.ready;have h1:(i.aM.takeWhile id).length<=i.aM.length:=(List.takeWhile_prefix id).length_le;have:=h.c;have:=h.l;omega
 refine⟨qch i hl,fun a b m=>?_⟩;obtain⟨n,c⟩:=bZ (min i.ready (max ((4096:Nat):Int) 0).toNat);have d:(i.rd (4096:Nat)).2.state=if i.state=0 then(i.cut n).h_ else i.state:=by rw[c];rfl
 have e:(i.rd (4096:Nat)).2.aR=i.aR+n:=by rw[c];rfl
 have f:(i.rd (4096:Nat)).2.bM=i.bM:=rfl;have g:(i.rd (4096:Nat)).2.fU=i.fU:=rfl;have j:(i.rd (4096:Nat)).2.bX=i.bX:=rfl;rw[f]at a;rw[j]at b;rw[e,g]at m;rw[d];split
 ·unfold eH.h_;have h1:(i.cut n).bM=true:=a;have k:(i.cut n).wanted=i.fU:=by
   unfold eH.wanted;rw[aU (by rw[show(i.cut n).bX=false from b];decide),bK h1];rfl
  have l:(i.cut n).aR=i.aR+n:=rfl;rw[k,l,aU (by rw[h1];simp;omega)];split<;>decide
 ·assumption
structure RI (bG w t:Nat) (n3:Net) (c:Nat) (m:Net):Prop where
 p:fH bG m
 nl:NL w t m
 b:m.dN=[]
 mo:∀i,i<2->AP (n3.x i) (m.x i)
 sm:∀i,i<2->∀k,((m.x i).out k).ay=((n3.x i).out k).ay/\((m.x i).out k).bn=((n3.x i).out k).bn
 eq:∀i,i<2->(m.x i).named=(n3.x i).named/\(m.x i).aM=(n3.x i).aM/\(m.x i).aJ=(n3.x i).aJ/\(m.x i).aT=(n3.x i).aT
 rd:∀c',c'<c->RdD ((m.x (c' / 8)).bF (c' % 8))
theorem Xl{bG w t:Nat}{n3:Net}(hp:fH bG n3)(d:NL w t n3)(hb:n3.dN=[]):∀c,c<=16->∀m,O3 c n3 m->RI bG w t n3 c m
 |0,_,m,h=>by have e:m=n3:=h;rw[e];exact⟨hp,d,hb,fun i _=>AP.refl _,fun _ _ _=>⟨rfl,rfl⟩,fun _ _=>⟨rfl,rfl,rfl,rfl⟩,fun c' h=>absurd h (nU _)⟩
 |c+1,hc,m,h=>by
  obtain⟨f,h1,_,rfl⟩:=h;have I:=Xl hp d hb c aj f h1;have a:c / 8<2:=aj;have n:c % 8<8:=Nat.mod_lt _ iO;have g:c % 8<(f.x (c / 8)).ins.length:=by rw[(I.p.loc _ a).li];exact n
  unfold rdN;refine⟨jF I.p _ a _ (BJ (I.p.loc _ a) (I.p.two _ a) (I.p.jT _ a) _ _) (GJ (I.p.bd _ a) _ _) rfl rfl,I.nl.aR _ a _ _,I.b,fun i hi=>?_,fun i hi k=>?_,fun i hi=>?_,fun c' l=>?_⟩
  ·by_cases e:i=c / 8;·rw[e,dA];exact(I.mo _ a).trans (DL _ _ _ ⟨eB _,eB _⟩ ⟨eB _,fun h=>h⟩ (Nat.le_add_right _ _))
   ·rw[dX _ _ _ _ e];exact I.mo i hi
  ·by_cases e:i=c / 8;·rw[e,dA];exact I.sm _ a k
   ·rw[dX _ _ _ _ e];exact I.sm i hi k
  ·by_cases e:i=c / 8;·rw[e,dA];exact I.eq _ a
   ·rw[dX _ _ _ _ e];exact I.eq i hi
  ·by_cases e:c' / 8=c / 8
   ·rw[e,dA,dQ];by_cases b:c' % 8=c % 8;·rw[bK ⟨b,g⟩];exact qcy ((I.p.bd _ a).i _)
    ·rw[aU (fun h=>b h.1),<-e];exact I.rd c' aj
   ·rw[dX _ _ _ _ e];refine I.rd c' ?_;have:c'≠c:=fun j=>e (by rw[j]);omega
theorem KU(f:Fr)(hs:snd f=true)(k:f.aC=2):(norm f).ranges=f.ranges:=by rw[norm_eq f hs,aU aj,bK k]
theorem wL:∀(fs:List Fr),(∀f∈fs,snd f=true)->eO (fs.map norm)=eO fs
 |[],_=>rfl
 |f::t,h=>by have h1:=wL t fun g a=>h g (by simp[a]);unfold eO at h1 ⊢;simp only[CP,List.any_cons,lS f (h f aP),h1]
theorem qP{M M1:av}(h:M.gU M1):(∀z∈M1.aJ,z∈M.aJ/\M.gF z=false)/\M1.named=M.named/\M1.aT=M.aT/\((∀z∈M.aJ,M.gF z=false)->M1=M):=by
 unfold av.gU at h;split at h
 ·rename_i c;obtain⟨lp,_,rfl⟩:=h;have key:∀(F:List Fr) (N:av),(F.foldl av.eP N).aJ=N.aJ/\(F.foldl av.eP N).named=N.named/\(F.foldl av.eP N).aT=N.aT:=fun F=>by
   induction F with
   |nil=>exact fun _=>⟨rfl,rfl,rfl⟩
   |cons f t d=>
    intro N;have e:(N.eP f).aJ=N.aJ/\(N.eP f).named=N.named/\(N.eP f).aT=N.aT:=by
     unfold av.eP;repeat' split
     all_goals exact⟨rfl,rfl,rfl⟩
    exact⟨(d (N.eP f)).1.trans e.1,(d (N.eP f)).2.1.trans e.2.1,(d (N.eP f)).2.2.trans e.2.2⟩
  obtain⟨k1,k2,i⟩:=key (bI lp) M.mD;refine⟨fun z hz=>?_,k2,i,fun g=>?_⟩;·rw[k1]at hz;obtain⟨a,b⟩:=mK.1 hz;exact⟨a,by simpa using b⟩
  ·obtain⟨z,hz,hl⟩:=qA.1 c;rw[g z hz]at hl;cases hl
 ·rename_i c;rw[h];refine⟨fun z hz=>⟨hz,?_⟩,rfl,rfl,fun _=>rfl⟩;cases hl:M.gF z with
  |false=>rfl
  |true=>exact absurd (qA.2 ⟨z,hz,hl⟩) c
structure FI (bG w t:Nat) (n0 T0:Nat->Nat) (n:Net):Prop where
 p:fH bG n
 nl:NL w t n
 b:n.dN=[]
 tp:∀i,i<2->Tp (n.x i).aM (n0 (1-i)) (n.x (1-i)).next
 sI:∀i,i<2->∀z∈(n.x i).aJ,(n0 i<=z.1/\z.2.bE=(n.x i).bE/\(n.x i).named<=z.1)\/(z.1<n0 i/\z.2.bE<=T0 i/\(n.x i).bE<T0 i+6)
 an:∀i,i<2->(∃z∈(n.x i).aJ,n0 i<=z.1)->(n.x (1-i)).aT=true
structure RF (A A2 A':av) (pk:List (Nat×List Fr)):Prop where
 pe:∃M1,A.iD.gU M1/\PE {M1 with aT:=false} (lf M1) [] (A2,pk)
 le:qh A A2
 ls:∀k,(A.out k).dw<=(A2.out k).dw
 s1:Sm A A2
 mo:AP A2 A'
 ot:∀k,(A'.out k).ay=(A.out k).ay/\(A'.out k).bn=(A.out k).bn
 rd:∀k,k<8->RdD (A'.bF k)
 nx:A'.next<=A.next+24/\A'.bE=A.bE+1
theorem qhn{bG w t:Nat}{n n2:Net}(hp:fH bG n)(o:NL w t n)(f:∀i,i<2->(n.x i).next+24<dK)(h:FlR 2 n n2):∃pk:Nat->List (Nat×List Fr),(∀i,i<2->(n.x i).jS (n2.x i) (pk i))/\n2.dN=n.dN++(uq (pk 0)).map (fun y=>(1,y))++(uq (pk 1)).map (fun y=>(0,y))/\fH bG n2/\NL w t n2:=by
 obtain⟨n1,⟨n',m,d,g,q0,a⟩,M1,j,k,b⟩:=h;have e:n'=n:=m;subst e;have p1:fH bG n1:=by rw[a];exact Ia hp 0 aj (mG (hp.loc 0 aj) (hp.two 0 aj) (hp.jT 0 aj) (hp.bd 0 aj) (f 0 aj) q0)
 have l1:NL w t n1:=by rw[a];exact o.yG hp 0 aj (f 0 aj) q0
 have l:n1.x 1=n'.x 1:=by rw[a];exact dX n' 0 1 d aj
 have p:n1.x 0=d:=by rw[a];exact dA n' 0 d
 have c:(n1.x 1).next+24<dK:=by rw[l];exact f 1 aj
 have p2:fH bG n2:=by rw[b];exact Ia p1 1 aj (mG (p1.loc 1 aj) (p1.two 1 aj) (p1.jT 1 aj) (p1.bd 1 aj) c k)
 have l2:NL w t n2:=by rw[b];exact l1.yG p1 1 aj c k
 refine⟨fun i=>if i=0 then g else j,fun i hi=>?_,?_,p2,l2⟩
 ·rcases(show i=0\/i=1 by omega)with rfl|rfl
  ·have:n2.x 0=d:=by rw[b];exact(dX n1 1 0 M1 aj).trans p
   rw[this];exact q0
  ·have:n2.x 1=M1:=by rw[b];exact dA n1 1 M1
   rw[this,<-l];exact k
 ·rw[b,a];rfl
theorem qcz{a b:List (Nat×List Fr)}{s:Nat->Nat}(i:∀j,j<a.length->(a.getD j (0,[])).1=s 0+j)(h1:∀j,j<b.length->(b.getD j (0,[])).1=s 1+j)(l:List (Nat×Nat×List Fr))(hl:l=a.map (fun y=>(1,y))++b.map (fun y=>(0,y))):l.length=a.length+b.length/\(∀j,j<a.length->l.getD j (0,0,[])=(1,a.getD j (0,[])))/\(∀j,a.length<=j->j<a.length+b.length->l.getD j (0,0,[])=(0,b.getD (j-a.length) (0,[])))/\(∀j,j<=l.length->jP l 1 j=min j a.length/\jP l 0 j=j-a.length)/\(∀j,j<l.length->(l.getD j (0,0,[])).2.1=s (1-(l.getD j (0,0,[])).1)+jP l (l.getD j (0,0,[])).1 j):=by
 have e:l.length=a.length+b.length:=by rw[hl,wz,mI,mI]
 have g:∀j,j<a.length->l.getD j (0,0,[])=(1,a.getD j (0,[])):=fun j d=>by rw[hl,j3,List.getElem?_append_left (by rw[mI];exact d),qx,lg d,j3,lg d];rfl
 have h:∀j,a.length<=j->j<a.length+b.length->l.getD j (0,0,[])=(0,b.getD (j-a.length) (0,[])):=fun j d k=>by rw[hl,j3,List.getElem?_append_right (by rw[mI];exact d),mI,qx,lg aj,j3,lg aj];rfl
 have c:∀j,j<=l.length->jP l 1 j=min j a.length/\jP l 0 j=j-a.length:=fun j=>by
  induction j with
  |zero=>intro _;exact⟨by simp[jP],by simp[jP]⟩
  |succ j m=>
   intro d;obtain⟨i1,i2⟩:=m aj;unfold jP;by_cases f:j<a.length;·rw[g j f,bK rfl,aU (show¬(1=0) by decide)];omega
   ·rw[h j aj aj,aU (show¬(0=1) by decide),bK rfl];omega
 refine⟨e,g,h,c,fun j d=>?_⟩;obtain⟨c1,c2⟩:=c j aj;by_cases f:j<a.length;·rw[g j f];show(a.getD j (0,[])).1=s 0+jP l 1 j;rw[i j f,c1];omega
 ·rw[h j aj aj];show(b.getD (j-a.length) (0,[])).1=s 1+jP l 0 j;rw[h1 _ aj,c2]
theorem round{bG w t:Nat}{n0 T0:Nat->Nat}{n n':Net}(h:FI bG w t n0 T0 n)(V:∀i,i<2->(n.x i).next+24<1073741824)(hr:RoR n n'):FI bG w t n0 T0 n'/\(∀i,i<2->∀z∈(n'.x i).aJ,n0 i<=z.1->(n.x i).next<=z.1)/\∃(n2:Net) (pk:Nat->List (Nat×List Fr)),fH bG n2/\(∀i,i<2->RF (n.x i) (n2.x i) (n'.x i) (pk i))/\(∀i,i<2->(n'.x i).aT=true->∃y∈pk (1-i),eO y.2=true):=by
 obtain⟨n2,H,n3,hc,x2⟩:=hr;have hM:dK=4611686018427387903:=rfl;have a:=Ku h.p;have x0:=O1 h.nl;have c:∀i,i<2->(n.iF.x i).next=(n.x i).next:=fun i hi=>by rw[lG n i hi];rfl
 obtain⟨pk,p,Q,p2,l2⟩:=qhn a x0 (fun i hi=>by rw[c i hi];have:=V i hi;omega) H;have hn:n.iF.dN=[]:=h.b;rw[hn,Bf]at Q;obtain⟨l,hl⟩:=bZ n2.dN;rw[<-hl]at Q hc;have N:∀i,i<2->VY (n.iF.x i) (n.iF.x (1-i)) (n2.x i) (pk i):=fun i hi=>mG (a.loc i hi) (a.two i hi) (a.jT i hi) (a.bd i hi) (by rw[c i hi];have:=V i hi;omega) (p i hi);have PL:∀i,i<2->PaL (n.iF.x i) (n2.x i) (pk i):=fun i hi=>u_ (a.loc i hi).q (p i hi);have u:∀i,i<2->∃M1,(n.iF.x i).gU M1/\PE {M1 with aT:=false} (lf M1) [] (n2.x i,pk i):=fun i hi=>Xj (a.loc i hi) (a.two i hi) (a.jT i hi) (a.bd i hi) (by rw[c i hi];exact V i hi) (by rw[c _ aj];have:=V (1-i) aj;omega) (p i hi);have Qc:∀i,i<2->∀j,j<(uq (pk i)).length->((uq (pk i)).getD j (0,[])).1=(n.x i).next+j:=fun i hi j d=>by
  have v:j<(pk i).length:=by unfold uq at d;rwa[mI]at d
  have:=(N i hi).nm j v;rw[c i hi]at this;unfold uq;rw[j3,qx];rw[j3]at this;rw[lg v]at this ⊢;exact this
 obtain⟨b1,b2,b3,b4,b5⟩:=qcz (s:=fun i=>(n.x i).next) (Qc 0 aj) (Qc 1 aj) l Q;have U:∀i,i<2->∀x∈pk i,∃j,j<l.length/\l.getD j (0,0,[])=(1-i,(x.1,x.2.map norm)):=fun i hi x b=>by
  have x4:(1-i,(x.1,x.2.map norm))∈l:=by
   have h3:(x.1,x.2.map norm)∈uq (pk i):=mR.2 ⟨x,b,rfl⟩;rw[Q];rcases(show i=0\/i=1 by omega)with rfl|rfl;·exact tO _ (mR.2 ⟨_,h3,rfl⟩)
   ·exact List.mem_append_right _ (mR.2 ⟨_,h3,rfl⟩)
  obtain⟨j,d,e⟩:=List.getElem_of_mem x4;exact⟨j,d,by rw[j3,lg d,e];rfl⟩
 have E:∀j,j<l.length->∃i,i<2/\∃x∈pk i,l.getD j (0,0,[])=(1-i,(x.1,x.2.map norm)):=fun j d=>by
  have b:l.getD j (0,0,[])∈l:=by rw[j3,lg d];exact rX _
  generalize l.getD j (0,0,[])=y at b ⊢;rw[Q]at b;rcases yP.1 b with b|b;·obtain⟨z,hz,rfl⟩:=mR.1 b;obtain⟨x,K,rfl⟩:=mR.1 hz;exact⟨0,aj,x,K,rfl⟩
  ·obtain⟨z,hz,rfl⟩:=mR.1 b;obtain⟨x,K,rfl⟩:=mR.1 hz;exact⟨1,aj,x,K,rfl⟩
 have A:∀i,i<2->∀x∈pk i,∀f∈x.2,snd f=true:=fun i hi x b f H=>(((N i hi).ok x b).1.fs f H).sn;have ho:∀i,i<2->(n2.x i).aM=(n.x i).aM:=fun i hi=>by rw[(PL i hi).cm,lG n i hi];rfl
 have he:∀j,j<l.length->∀g∈(l.getD j (0,0,[])).2.2,g.aC=2->(g.ranges.getD 0 (0,0)).2<(n.x (l.getD j (0,0,[])).1).next:=fun j d g T k=>by
  obtain⟨i,hi,x,b,e⟩:=E j d;rw[e]at T ⊢;obtain⟨f,H,rfl⟩:=mR.1 T;have hs:=A i hi x b f H;rw[lS f hs]at k;rw[KU f hs k];have x1:f.ranges≠[]:=by
   rcases((N i hi).ok x b).2.2 f H with⟨_,q,_⟩|⟨q,_⟩|⟨q,_⟩|⟨q,_⟩;·exact q
   ·omega
   ·omega
   ·omega
  have h0:0<f.ranges.length:=List.length_pos_iff.2 x1;have W:f.ranges.getD 0 (0,0)∈f.ranges:=by rw[j3,lg h0];exact rX _
  have h1:=((PL i hi).ack x b).2 f H k _ W;rw[lG n i hi]at h1;exact(h.p.jT i hi).aM _ h1
 have h6:∀i,i<2->(n2.x i).named=(n.x i).named/\(n2.x i).aT=false:=fun i hi=>by obtain⟨M1,m,P⟩:=u i hi;refine⟨P.na.1.trans ((qP m).2.1.trans ?_),P.na.2⟩;rw[lG n i hi];rfl
 have X:∀i,i<2->(n2.x i).next=(n.x i).next+(pk i).length:=fun i hi=>by rw[(N i hi).next,c i hi]
 have h7:∀i,i<2->(n2.x i).next<=(n.x i).next+24:=fun i hi=>by have:=(N i hi).top;rwa[c i hi]at this
 have D:∀i,(uq (pk i)).length=(pk i).length:=fun i=>by unfold uq;rw[mI]
 have c0:CI bG w t l n0 (fun i=>(n.x i).next) n2 0 {n2 with dN:=[]}:=by
  have e:({({n2 with dN:=[]}:Net)with dN:=l}:Net)=n2:=by rw[hl]
  refine⟨by rw[e];exact p2,by rw[e];exact l2,rfl,fun i _=>AP.refl _,fun _ _=>⟨fun _=>⟨rfl,rfl⟩,fun _=>⟨rfl,rfl⟩⟩,fun i hi=>?_,fun i hi=>?_,fun j' v=>absurd v (nU _),fun i _=>?_⟩
  ·show(n2.x i).named<=(n.x i).next
   rw[(h6 i hi).1];exact(h.p.bd i hi).nm
  ·show Tp (n2.x i).aM (n0 (1-i)) ((n.x (1-i)).next+0);rw[ho i hi];exact h.tp i hi
  ·constructor;·exact .inl
   ·rintro(h|⟨j',h1,_⟩);·exact h
    ·exact absurd h1 (nU _)
 have I:=Xk c0 (fun i hi=>FN (h7 i hi) (V i hi)) b5 he l.length (eB _) n3 hc;have e3:({({n3 with dN:=l}:Net)with dN:=[],now:=n3.now}:Net)=n3:=by have:=I.b;cases n3;simp_all
 have p3:fH bG n3:=by have:=I.p.sub [] (fun y L=>by cases L) n3.now;rwa[e3]at this
 have l3:NL w t n3:=I.nl.sub rfl (fun y L=>by rw[I.b]at L;cases L);have J:=Xl p3 l3 I.b 16 (eB _) n' x2;have mo:∀i,i<2->AP (n2.x i) (n'.x i):=fun i hi=>(I.mo i hi).trans (J.mo i hi);have ZV:∀i,i<2->(n'.x i).next=(n.x i).next+(pk i).length/\(n'.x i).bE=(n.x i).bE+1:=fun i hi=>by refine⟨by rw[(mo i hi).nx.1];exact X i hi,?_⟩;rw[(mo i hi).nx.2,Du (p i hi),lG n i hi];rfl
 have x9:∀i,i<2->Tp (n'.x i).aM (n0 (1-i)) (n'.x (1-i)).next:=fun i hi=>by
  have h1:=I.tp i hi;rw[(J.eq i hi).2.1,(ZV (1-i) aj).1];have h2:=b4 l.length (eB _);have:jP l i l.length=(pk (1-i)).length:=by
   rcases(show i=0\/i=1 by omega)with rfl|rfl;·rw[h2.2,b1,<-D 1];omega
   ·rw[h2.1,b1,<-D 0];omega
  rw[this]at h1;exact h1
 have Z:∀i,i<2->∀z∈(n'.x i).aJ,((n.x i).next<=z.1/\z.2.bE=(n.x i).bE+1/\∃fs,(z.1,fs)∈pk i/\eO fs=true)\/(z.1<n0 i/\z.2.bE<=T0 i/\(n.x i).bE+1<T0 i+6):=fun i hi z hz=>by
  have h4:z∈(n3.x i).aJ:=by rw[<-(J.eq i hi).2.2.1];exact hz
  have x5:z∈(n2.x i).aJ:=(I.mo i hi).ow.subset h4;obtain⟨M1,m,P⟩:=u i hi;rcases P.nw z x5 with hz1|⟨q1,fs,q2,q3⟩
  ·right;obtain⟨l1,l2,l3,_⟩:=qP m;obtain⟨h5,B⟩:=l1 z hz1;rw[lG n i hi]at h5 B;have M:z∈(n.x i).aJ:=h5;rcases h.sI i hi z M with⟨o,F,O⟩|⟨o,F,O⟩
   ·exfalso;have hw:=((h.p.bd i hi).wy z M).1;have Y:=h.tp (1-i) aj;rw[show 1-(1-i)=i by omega]at Y;obtain⟨r,hr,r1,r2⟩:=Y.mem o hw;have Rs:=h.an i hi ⟨z,M,o⟩;obtain⟨R,h8,P'⟩:=u (1-i) aj;have hv:r∈lf R:=by
     unfold lf;have C:=(qP h8).2.2.1;have G:=(lZ h8).2.1;rw[lG n _ aj]at C G;have h9:R.aT=true:=C.trans Rs;rw[bK h9,List.mem_reverse,G];exact hr
    obtain⟨y,L,g,T,k2,x3⟩:=P'.ak r hv;obtain⟨j,d,S⟩:=U (1-i) aj y L;have hs:=A (1-i) aj y L g T;have:=I.ak j d (norm g) (by rw[S];exact List.mem_map_of_mem T) (by rw[lS g hs];exact k2) z (by rw[S];simp only[show 1-(1-i)=i by omega];exact h4);rw[KU g hs k2]at this;unfold names at this;rw[List.any_eq_false]at this;exact this r x3 (by simp[r1,r2])
   ·refine⟨o,F,?_⟩;unfold av.gF at B;rw[mY]at B;have:=of_decide_eq_false B.1;have e:(n.x i).iD.bE=(n.x i).bE+1:=rfl;rw[e]at this;omega
  ·left;refine⟨?_,?_,fs,q2,q3⟩;·have:=((PL i hi).ack _ q2).1;rwa[c i hi]at this
   ·have C:=(lZ m).2.2.2;rw[lG n i hi]at C;exact q1.trans C
 have x8:∀i,i<2->(n'.x i).named<=(n.x i).next:=fun i hi=>by rw[(J.eq i hi).1];exact I.nm i hi
 have x7:∀i,i<2->n0 i<=(n.x i).next:=fun i hi=>by have:=(h.tp (1-i) aj).1;rwa[show 1-(1-i)=i by omega]at this
 refine⟨⟨J.p,J.nl,J.b,x9,fun i hi z hz=>?_,fun i hi ⟨z,hz,x6⟩=>?_⟩,fun i hi z hz x6=>?_,n2,pk,p2,fun i hi=>?_,fun i hi ha=>?_⟩
 ·rcases Z i hi z hz with⟨o,F,_⟩|⟨o,F,O⟩;·exact .inl ⟨eT (x7 i hi) o,by rw[F,(ZV i hi).2],eT (x8 i hi) o⟩
  ·exact .inr ⟨o,F,by rw[(ZV i hi).2];exact O⟩
 ·rcases Z i hi z hz with⟨o,F,fs,O,a4⟩|⟨o,_⟩;·rw[(J.eq (1-i) aj).2.2.2,I.an (1-i) aj];right;obtain⟨j,d,S⟩:=U i hi _ O;exact⟨j,d,by rw[S],by rw[S];simp only;rw[wL fs (A i hi _ O)];exact a4⟩
  ·omega
 ·rcases Z i hi z hz with⟨o,_⟩|⟨o,_⟩;·exact o
  ·omega
 ·obtain⟨M1,m,P⟩:=u i hi;rw[lG n i hi]at m;have le:=(PL i hi).le;have sm:=Dl (p i hi);have ls:=(N i hi).Qz.le.dw;rw[lG n i hi]at le sm ls;have l0:qh (n.x i) (n.x i).iD:=⟨fun _ _ h=>h,eB _,fun _=>eB _,rfl,fun _=>rfl⟩;refine⟨⟨M1,m,P⟩,l0.trans le,ls,(Kq _).trans sm,mo i hi,fun k=>?_,fun k hk=>?_,?_⟩;·have q1:=(mo i hi).ot k;have q2:=sm.o k;exact⟨q1.2.1.trans q2.1,q1.2.2.trans q2.2⟩
  ·have:=J.rd (8*i+k) aj;rwa[show(8*i+k) / 8=i by omega,show(8*i+k) % 8=k by omega]at this
  ·have:=h7 i hi;rw[(mo i hi).nx.1];exact⟨this,(ZV i hi).2⟩
 ·rw[(J.eq i hi).2.2.2,I.an i hi,(h6 i hi).2]at ha;rcases ha with ha|⟨j,d,C,G⟩;·cases ha
  ·obtain⟨i',hu,x,b,e⟩:=E j d;rw[e]at C G;simp only at C G;rw[wL _ (A i' hu x b)]at G;have:i'=1-i:=aj;rw[<-this];exact⟨x,b,G⟩
section
def Std(T0:Nat->Nat)(n:Net):Prop:=∀i,i<2->T0 i+6<=(n.x i).bE
section
variable {bG w t:Nat} {n0 T0:Nat->Nat} {n n':Net}
theorem Ih(h:FI bG w t n0 T0 n)(hs:Std T0 n)(i:Nat)(hi:i<2):∀z∈(n.x i).aJ,n0 i<=z.1/\z.2.bE=(n.x i).bE/\(n.x i).named<=z.1:=fun z hz=>by
 rcases h.sI i hi z hz with h|h;·exact h
 ·have:=hs i hi;omega
theorem ZW(h:FI bG w t n0 T0 n)(hs:Std T0 n)(i:Nat)(hi:i<2){M1:av}(hl:(n.x i).iD.gU M1):M1=(n.x i).iD:=by
 refine(qP hl).2.2.2 fun z hz=>?_;obtain⟨_,a,b⟩:=Ih h hs i hi z hz;unfold av.gF;rw[mY];refine⟨decide_eq_false ?_,decide_eq_false ?_⟩;·show¬6<=(n.x i).bE+1-z.2.bE;omega
 ·show¬z.1+3<(n.x i).named;omega
theorem Xm(h:FI bG w t n0 T0 n)(hs:Std T0 n)(i:Nat)(hi:i<2):∀f∈bI (n.x i).aJ,Tk (n.x (1-i)) f:=fun f b=>by obtain⟨z,hz,b⟩:=List.mem_flatMap.1 b;have a:=h.tp (1-i) aj;rw[show 1-(1-i)=i by omega]at a;exact(h.nl.1 i hi).wt z (tO _ hz) (a.mem (Ih h hs i hi z hz).1 ((h.p.bd i hi).wy z hz).1) f b
theorem NG(h:FI bG w t n0 T0 n)(hs:Std T0 n)(i:Nat)(hi:i<2)(k p:Nat)(hp:Rg.Mem ((n.x i).out k).cK.rs p):DZ ((n.x (1-i)).bF k) p:=by
 have L:=h.nl.1 i hi;rcases L.aw.o k p hp with g|⟨f,d,a,b,c⟩;·exact L.cm k p g
 ·have:=(Xm h hs i hi f d).1 a p c;rwa[b]at this
theorem qd1(h:FI bG w t n0 T0 n)(hs:Std T0 n)(i:Nat)(hi:i<2):max (n.x i).gr.cK (n.x i).gr.aM<=(n.x (1-i)).aL/\∀k,max ((n.x i).bF k).gr.cK ((n.x i).bF k).gr.aM<=((n.x (1-i)).out k).aL:=by
 have L:=h.nl.1 i hi;refine⟨Cr.2 ⟨?_,L.gc⟩,fun k=>Cr.2 ⟨?_,L.ic k⟩⟩
 ·rcases L.aw.g with g|⟨f,d,a,b⟩;·exact eT g L.gc
  ·exact eT b ((Xm h hs i hi f d).2.1 a)
 ·rcases L.aw.i k with g|⟨f,d,a,b,c⟩;·exact eT g (L.ic k)
  ·have:=(Xm h hs i hi f d).2.2 a;rw[b]at this;exact eT c this
end

theorem qQ{g g':Nat->Nat}:∀n,(∀k,k<n->g' k=g k)->su g' n=su g n
 |0,_=>rfl
 |n+1,h=>by unfold su;rw[qQ n fun k a=>h k aj,h n aj]
theorem Ii{M:av}(hl:M.ins.length=8)(i:∀k,(M.bF k).aQ<=2048):M.aQ=su (fun k=>(M.bF k).aQ) 8:=by
 unfold av.aQ av.bF at *
 generalize M.ins=l at *
 have j:=i 0;have h1:=i 1;have m:=i 2;have o:=i 3;have p:=i 4;have q:=i 5;have r:=i 6;have s:=i 7;clear i;match l,hl with
 |[a,b,c,d,e,f,g,h],_=>simp only[og,nV]at j h1 m o p q r s;simp only[List.foldl_cons,List.foldl_nil,su,og,nV];have u:dK=4611686018427387903:=rfl;omega
theorem Xn{M:av}(hl:M.outs.length=8):M.l9=su (fun k=>(M.out k).dw) 8:=by
 unfold av.l9 av.out;generalize M.outs=l at *
 match l,hl with
 |[a,b,c,d,e,f,g,h],_=>simp only[CP,List.map_nil,List.sum_cons,List.sum_nil,su,og,nV];omega
theorem Xo{o:Ot}{i:eH}(h:AX o i)(b:RdD i)(e:Nat)(d:e<=o.ay.length)(a:∀p,p<e->DZ i p):e<=i.aR:=by
 refine Decidable.byContradiction fun c=>?_;rcases a i.aR aj with g|⟨_,g⟩|⟨g1,g2⟩;·omega
 ·rw[xQ]at g;exact b.1 g
 ·have:=(h.bM g1).2;omega
def Srd(n:Net)(i:Nat):Nat:=su (fun k=>((n.x (1-i)).bF k).aR) 8
def L2(w t:Nat)(n:Net)(i m:Nat):Prop:=∃ρ:Nat->Nat,(∀k,k<8->ρ k<=((n.x (1-i)).bF k).aR)/\m<=su ρ 8/\(∀k,k<8->ρ k+w<=((n.x i).out k).aL\/((n.x i).out k).ay.length<=((n.x i).out k).dw)/\su ρ 8+t<=(n.x i).aL
def Dne(n:Net)(i:Nat):Prop:=∀k,k<8->(∀p,p<((n.x i).out k).ay.length->Rg.Mem ((n.x i).out k).cK.rs p)/\(((n.x i).out k).bn=true->Rg.Mem ((n.x i).out k).cK.rs ((n.x i).out k).ay.length)/\((n.x (1-i)).bF k).aR=((n.x i).out k).ay.length/\(((n.x i).out k).bn=true->((n.x (1-i)).bF k).state=1)
theorem uE(M:av)(u:Nat)(c:M.aJ.length<12)(h:M.aK [] u=false):(u=8->M.gr.aK M.aQ=false)/\(∀k,k<8->u=16+k->(M.bF k).dh=false)/\∀k,k<8->u=40+k->(M.out k).aK M.aN=false:=by
 have a:M.full=false:=decide_eq_false aj;refine⟨fun e=>?_,fun k b e=>?_,fun k b e=>?_⟩;·subst e;have:M.aK [] 8=(!M.full&&M.gr.aK M.aQ):=rfl;rw[this,a]at h;simpa using h
 ·subst e;unfold av.aK at h;rw[aU aj,aU aj,bK aj,a,show 16+k-16=k by omega]at h;simpa using h
 ·subst e;unfold av.aK at h;rw[aU aj,aU aj,aU aj,aU aj,aU aj,a,show 40+k-40=k by omega]at h;simpa using h
section
variable {bG w t:Nat} {n0 T0:Nat->Nat} {n n2 n':Net} {pk:Nat->List (Nat×List Fr)}
theorem Sy(h:FI bG w t n0 T0 n)(q:FI bG w t n0 T0 n')(f:Std T0 n')(p2:fH bG n2)(R:∀i,i<2->RF (n.x i) (n2.x i) (n'.x i) (pk i))(s:w<=4096/\t<=4096)(i:Nat)(hi:i<2)(p:(n2.x (1-i)).aJ.length<12):L2 w t n' i (Srd n i):=by
 have v:dK=4611686018427387903:=rfl;have c:1-i<2:=aj;have b:=R (1-i) c;obtain⟨M1,_,P⟩:=b.pe;have g:=qd1 q f (1-i) c;rw[show 1-(1-i)=i by omega]at g;have m:=h.nl.2.1 (1-i) c;have e:∀k,((n2.x (1-i)).bF k).aQ=((n.x (1-i)).bF k).aR:=fun k=>by rw[((p2.two i hi).rd k).aQ];exact(b.s1.i k).1
 refine⟨fun k=>((n.x (1-i)).bF k).aR,fun k _=>?_,eB _,fun k o=>?_,?_⟩;·exact eT (sF (b.s1.i k).1.symm) (b.mo.r k)
 ·have a:=(uE _ (16+k) p (P.no (16+k) (by unfold Iz;omega))).2.1 k o rfl;unfold eH.dh at a;rw[tK]at a;rcases a with a|a
  ·right;have rd:=(p2.two i hi).rd k;simp only[uj,qy,decide_eq_true_eq]at a;have h1:((n2.x (1-i)).bF k).wanted=((n2.x (1-i)).bF k).fU:=by
    unfold eH.wanted;rw[aU (by rw[rd.bX];decide),bK a.1]
   have j:=(rd.bM a.1).2;have l:=rd.fF;have d:=(R i hi).mo.ot k;rw[d.1,d.2.1];have:=a.2;omega
  ·left;show((n.x (1-i)).bF k).aR+w<=((n'.x i).out k).aL;unfold Gn.aK at a;have h1:=of_decide_eq_false a;rw[e k]at h1;have j:=(b.mo.i k);have l:=g.2 k;have d:((n2.x (1-i)).bF k).gr.ahead=w:=(b.le.ia k).trans (m.2 k o);have r:=((h.p.bd (1-i) c).i k).r;unfold Gn.iB at h1;rw[d]at h1;omega
 ·have a:=(uE _ 8 p (P.no 8 (by unfold Iz;omega))).1 rfl;unfold Gn.aK at a;have h1:=of_decide_eq_false a;have j:=b.mo.g;have l:=g.1;have d:(n2.x (1-i)).gr.ahead=t:=b.le.ga.trans m.1;have r:=rR (p2.loc (1-i) c) (p2.bd (1-i) c);have u:(n2.x (1-i)).aQ=su (fun k=>((n.x (1-i)).bF k).aR) 8:=by
   rw[Ii (p2.loc (1-i) c).li fun k=>kI (p2.bd (1-i) c) k];exact qQ 8 fun k _=>e k
  unfold Gn.iB at h1;rw[d]at h1;omega
theorem Sz(x:FI bG w t n0 T0 n')(u:Std T0 n')(p2:fH bG n2)(R:∀i,i<2->RF (n.x i) (n2.x i) (n'.x i) (pk i))(i:Nat)(hi:i<2)(S:(n2.x i).aJ.length<12)(m:Nat)(M:L2 w t n i m):Dne n' i\/m+min w t<=Srd n' i:=by
 obtain⟨ρ,U,W,V,X⟩:=M;have o:=R i hi;have v:=R (1-i) aj;obtain⟨M1,_,P⟩:=o.pe;have f:∀k,k<8->∀p,p<((n2.x i).out k).o9 (n2.x i).aN->Rg.Mem ((n'.x i).out k).cK.rs p:=fun k a p hp=>by have T:=(uE _ (40+k) S (P.no (40+k) (by unfold Iz;omega))).2.2 k a rfl;refine o.mo.aw k p (Classical.byContradiction fun Q=>?_);have:=(nW ((p2.bd i hi).o k).a (n2.x i).aN).2 ⟨p,hp,Q⟩;rw[T]at this;cases this
 have s:∀k,((n2.x i).out k).reach (n2.x i).aN<=((n2.x i).out k).o9 (n2.x i).aN:=fun k=>by unfold Ot.o9;split<;>omega
 have l:=fun k=>(x.p.two i hi).rd k;have c:∀k,((n'.x i).out k).ay=((n2.x i).out k).ay/\((n'.x i).out k).bn=((n2.x i).out k).bn:=fun k=>⟨(o.mo.ot k).2.1,(o.mo.ot k).2.2⟩;have d:∀k,k<8->((n2.x i).out k).reach (n2.x i).aN<=((n'.x (1-i)).bF k).aR:=fun k a=>Xo (l k) (v.rd k a) _ (by rw[(c k).1];unfold Ot.reach;omega) fun p hp=>NG x u i hi k p (f k a p (xB hp (s k)));have h:=fun k=>(p2.loc i hi).wr k;have K:∀k,k<8->((n2.x i).out k).dw<=((n'.x (1-i)).bF k).aR:=fun k a=>by have h1:=d k a;have y:=(h k).sl;have z:=(h k).sb;unfold Ot.reach at h1;omega
 have G:∀k,k<8->ρ k<=((n'.x (1-i)).bF k).aR:=fun k a=>eT (U k a) (eT (sF (v.s1.i k).1.symm) (v.mo.r k));have I:(n.x i).aL<=(n2.x i).aL:=o.le.iB;have F:∀k,((n.x i).out k).aL<=((n2.x i).out k).aL:=o.le.Nu;by_cases B:∃k,k<8/\((n2.x i).out k).dw+(n2.x i).aN<=min ((n2.x i).out k).ay.length ((n2.x i).out k).aL
 ·obtain⟨k,a,D⟩:=B;right;have h1:su (fun k=>((n2.x i).out k).dw) 8+(n2.x i).aN<=Srd n' i:=by
   refine DJ (j:=k) 8 a (fun j C _=>K j C) ?_;have:=d k a;unfold Ot.reach at this;omega
  rw[<-Xn (p2.loc i hi).lo]at h1;have y:=(p2.loc i hi).sp;have z:(n2.x i).aN=(n2.x i).aL-(n2.x i).l9:=rfl;omega
 ·by_cases hd:∃k,k<8/\((n2.x i).out k).aL<((n2.x i).out k).ay.length
  ·obtain⟨k,a,D⟩:=hd;right;have h1:su ρ 8+w<=Srd n' i:=by
    refine DJ (j:=k) 8 a (fun j C _=>G j C) ?_;have h1:=d k a;have y:¬(((n2.x i).out k).dw+(n2.x i).aN<=min ((n2.x i).out k).ay.length ((n2.x i).out k).aL):=fun e=>B ⟨k,a,e⟩;have z:=F k;have H:=(h k).sl;have L:=o.ls k;have A:=(o.s1.o k).1;unfold Ot.reach at h1;rcases V k a with h7|h7;·omega
    ·rw[<-A]at h7;omega
   omega
  ·left;intro k a;have y:¬(((n2.x i).out k).dw+(n2.x i).aN<=min ((n2.x i).out k).ay.length ((n2.x i).out k).aL):=fun e=>B ⟨k,a,e⟩;have z:¬(((n2.x i).out k).aL<((n2.x i).out k).ay.length):=fun e=>hd ⟨k,a,e⟩;have H:((n2.x i).out k).reach (n2.x i).aN=((n2.x i).out k).ay.length:=by unfold Ot.reach;omega
   have L:=d k a;have A:=(l k).rd;rw[(c k).1]at A;have b:((n'.x (1-i)).bF k).aR=((n2.x i).out k).ay.length:=aj;rw[(c k).1,(c k).2];have q:((n2.x i).out k).bn=true->((n2.x i).out k).o9 (n2.x i).aN=((n2.x i).out k).ay.length+1:=fun r=>by unfold Ot.o9;rw[H,bK];unfold Ot.fO;rw[r,(h k).bX];simp
   refine⟨fun p hp=>f k a p (xB hp (bV (s k))),fun r=>f k a _ (by rw[q r];omega),b,fun r=>?_⟩;have O:=NG x u i hi k ((n2.x i).out k).ay.length (f k a _ (by rw[q r];omega));have J:=v.rd k a;have N:((n'.x (1-i)).bF k).bM=true/\((n'.x (1-i)).bF k).fU=((n2.x i).out k).ay.length:=by
    rcases O with g|⟨_,g⟩|g;·omega
    ·rw[<-b,xQ]at g;exact absurd g J.1
    ·exact g
   have E:=J.2 N.1 (l k).bX aj;rcases(l k).st with e|⟨e,_⟩;·exact absurd e E
   ·exact e
end

end
section
theorem qfh{A A':av}(h:AP A A')(b:Bd A)(a:Bd A'):A'.U<=A.U:=by refine Am 8 fun k _=>?_;have:=DI (rs:=(A.out k).cK.rs) (rs':=(A'.out k).cK.rs) (b.o k).a.so (a.o k).a.so (h.aw k) 0 0 (fun p _ hp=>absurd hp (nU _)) ((A.out k).ay.length+1);show AO (A'.out k).cK.rs ((A'.out k).ay.length+1)<=AO (A.out k).cK.rs ((A.out k).ay.length+1);rw[(h.ot k).2.1];omega
theorem Xp{α:Type}{l a b:List α}(p:α->Bool)(h:l.Sublist (a++b))(hl:∀x∈l,p x=true)(c:∀x∈a,p x=false):l.length<=b.length:=by have h1:=h.filter p;rw[List.filter_eq_self.2 hl,List.filter_append,List.filter_eq_nil_iff.2 (fun x d=>by rw[c x d];decide),Bf]at h1;exact eT h1.length_le (nP _ _)
def Gi(P:Nat->Nat)(n:Net):Prop:=∀i,i<2->(n.x i).U<=P i/\47*(n.x i).aJ.length+7*(n.x i).U<=164+7*P i
def NoG(M:av):Prop:=M.gr.aK M.aQ=false/\∀k,k<8->(M.bF k).dh=false
section
variable {bG w t:Nat} {n0 T0:Nat->Nat} {n n2 n':Net} {pk:Nat->List (Nat×List Fr)}
theorem KV(h:FI bG w t n0 T0 n)(hs:Std T0 n)(R:∀i,i<2->RF (n.x i) (n2.x i) (n'.x i) (pk i))(i:Nat)(hi:i<2):PE {(n.x i).iD with aT:=false} (lf (n.x i)) [] (n2.x i,pk i):=by obtain⟨M1,hl,P⟩:=(R i hi).pe;have e:=ZW h hs i hi hl;rw[e]at P;exact P
theorem Xq(h:FI bG w t n0 T0 n)(hs:Std T0 n)(d:FI bG w t n0 T0 n')(c:Std T0 n')(hz:∀i,i<2->∀z∈(n'.x i).aJ,n0 i<=z.1->(n.x i).next<=z.1)(p2:fH bG n2)(R:∀i,i<2->RF (n.x i) (n2.x i) (n'.x i) (pk i))(i:Nat)(hi:i<2):47*(n2.x i).aJ.length+7*(n2.x i).U<=164+47*(n.x i).aJ.length+7*(n.x i).U/\(n'.x i).aJ.length+(n.x i).aJ.length<=(n2.x i).aJ.length/\(n'.x i).U<=(n2.x i).U/\(n2.x i).U<=(n.x i).U:=by
 have P:=KV h hs R i hi;have h1:47*(n2.x i).aJ.length+(n2.x i).Y []<=47+47*(n.x i).aJ.length+(n.x i).Y (lf (n.x i)):=P.y;have f:=qhk (n.x i) (lf (n.x i));have g:=VX (h.p.bd i hi);have j:7*(n2.x i).U<=(n2.x i).Y []:=by unfold av.Y;omega
 have e:(n2.x i).U<=(n.x i).U:=P.u;obtain⟨tt,b⟩:∃tt,(n2.x i).aJ=(n.x i).aJ++tt:=P.pre;refine⟨aj,?_,qfh (R i hi).mo (p2.bd i hi) (d.p.bd i hi),e⟩;have k:=Xp (fun z=>decide ((n.x i).next<=z.1)) (by rw[<-b];exact(R i hi).mo.ow) (fun z a=>decide_eq_true (hz i hi z a (Ih d c i hi z a).1)) (fun z a=>decide_eq_false (bV (((h.p.bd i hi).wy z a).1)));rw[b,wz];omega
theorem qd2(R:∀i,i<2->RF (n.x i) (n2.x i) (n'.x i) (pk i))(i:Nat)(hi:i<2):Srd n i<=Srd n' i:=
 Am 8 fun k _=>eT (sF ((R (1-i) aj).s1.i k).1.symm) ((R (1-i) aj).mo.r k)
theorem qfi(R:∀i,i<2->RF (n.x i) (n2.x i) (n'.x i) (pk i))(i:Nat)(hi:i<2){m:Nat}(h:L2 w t n i m):L2 w t n' i m:=by
 obtain⟨ρ,d,e,f,g⟩:=h;have a:=R i hi;have c:=R (1-i) aj;refine⟨ρ,fun k b=>eT (d k b) (eT (sF (c.s1.i k).1.symm) (c.mo.r k)),e,fun k b=>?_,eT g (eT a.le.iB a.mo.l.1)⟩;rcases f k b with h|h;·exact .inl (eT h (eT (a.le.Nu k) (a.mo.l.2 k)))
 ·right;rw[(a.ot k).1,(a.mo.ot k).1];exact eT h (a.ls k)
theorem Ij(h:FI bG w t n0 T0 n)(hs:Std T0 n)(o:FI bG w t n0 T0 n')(R:∀i,i<2->RF (n.x i) (n2.x i) (n'.x i) (pk i))(i:Nat)(hi:i<2)(hd:Dne n i):Dne n' i:=fun k r=>by
 obtain⟨u,m,A,v⟩:=hd k r;have b:=R i hi;have d:=R (1-i) aj;have P:=KV h hs R i hi;have aw:∀p,Rg.Mem ((n.x i).out k).cK.rs p->Rg.Mem ((n'.x i).out k).cK.rs p:=fun p hp=>b.mo.aw k p (P.nl.aw k p hp);have rd:=(o.p.two i hi).rd k;have h1:=rd.rd;have B:=(d.s1.i k).1;have C:=d.mo.r k;rw[(b.ot k).1]at h1;rw[(b.ot k).1,(b.ot k).2];have a:((n'.x (1-i)).bF k).aR=((n.x i).out k).ay.length:=aj;refine⟨fun p hp=>aw p (u p hp),fun c=>aw _ (m c),a,fun c=>?_⟩;have s:=d.rd k r;have l:=(h.p.two i hi).rd k;have y:((n.x (1-i)).bF k).bM=true:=by
  rcases l.st with e|⟨_,e,_⟩;·rw[v c]at e;cases e
  ·exact e
 have z:=NG o (fun j q=>by have:=hs j q;rw[(R j q).nx.2];omega) i hi k ((n.x i).out k).ay.length (aw _ (m c));have x:((n'.x (1-i)).bF k).bM=true/\((n'.x (1-i)).bF k).fU=((n.x i).out k).ay.length:=by
  rcases z with g|⟨_,g⟩|g;·omega
  ·rw[<-a,xQ]at g;exact absurd g s.1
  ·exact g
 have f:=s.2 x.1 rd.bX aj;rcases rd.st with e|⟨e,_⟩;·exact absurd e f
 ·exact e
theorem Xr(h:FI bG w t n0 T0 n)(g:FI bG w t n0 T0 n')(p2:fH bG n2)(R:∀i,i<2->RF (n.x i) (n2.x i) (n'.x i) (pk i))(i:Nat)(hi:i<2)(hd:Dne n (1-i))(p:NoG (n2.x i)):NoG (n'.x i):=by
 have d:=R i hi;have m:=R (1-i) aj;have j:∀k,k<8->((n.x i).bF k).aR=((n.x (1-i)).out k).ay.length:=fun k b=>by have:=(hd k b).2.2.1;rwa[show 1-(1-i)=i by omega]at this
 have c:=fun k=>(p2.jT i hi).rd k;have a:=fun k=>(g.p.jT i hi).rd k;have q:∀k,k<8->((n'.x i).bF k).aR=((n2.x i).bF k).aR:=fun k b=>by have h1:=(a k).rd;have o:=(d.s1.i k).1;have x:=d.mo.r k;have y:=j k b;rw[(m.ot k).1]at h1;omega
 have ah:=g.nl.2.1 i hi;have f:=h.nl.2.1 i hi;have r:(n2.x i).gr.ahead=(n'.x i).gr.ahead:=by rw[ah.1,d.le.ga,f.1]
 refine⟨?_,fun k b=>?_⟩
 ·have h1:=of_decide_eq_false p.1;have u:(n'.x i).aQ=(n2.x i).aQ:=by
   rw[Ii (p2.loc i hi).li fun k=>kI (p2.bd i hi) k,Ii (g.p.loc i hi).li fun k=>kI (g.p.bd i hi) k];exact qQ 8 fun k b=>by rw[(c k).aQ,(a k).aQ,q k b]
  refine decide_eq_false fun e=>h1 ?_;have:=d.mo.g;unfold Gn.iB at e ⊢;rw[u,<-r]at e;omega
 ·have h1:=p.2 k b;unfold eH.dh at h1 ⊢;rw[tK]at h1 ⊢;rcases h1 with h1|h1
  ·left;simp only[uj,qy,decide_eq_true_eq]at h1 ⊢;have l:=(d.mo.h k).2 h1.1;refine⟨l,?_⟩;have w1:((n2.x i).bF k).wanted=((n2.x i).bF k).fU:=by
    unfold eH.wanted;rw[aU (by rw[(c k).bX];decide),bK h1.1]
   have v:((n'.x i).bF k).wanted=((n'.x i).bF k).fU:=by unfold eH.wanted;rw[aU (by rw[(a k).bX];decide),bK l]
   have f1:=((c k).bM h1.1).2;have f2:=((a k).bM l).2;have hb:=(m.mo.ot k).2.1;rw[hb]at f2;have:=(d.mo.h k).1;rw[v,f2,<-f1,<-w1];exact eT h1.2 this
  ·right;have o:=of_decide_eq_false h1;refine decide_eq_false fun e=>o ?_;have:=d.mo.i k;have s:((n2.x i).bF k).gr.ahead=((n'.x i).bF k).gr.ahead:=by rw[ah.2 k b,d.le.ia k,f.2 k b]
   rw[(a k).aQ,q k b,<-(c k).aQ]at e;unfold Gn.iB at e ⊢;rw[<-s]at e;omega
theorem Xt{A:av}(bd:Bd A)(c:Nat)(k:Nat)(h1:∀p,p<(A.out k).ay.length->Rg.Mem (A.out k).cK.rs p)(d:(A.out k).bn=true->Rg.Mem (A.out k).cK.rs (A.out k).ay.length):(A.out k).aK c=false:=by
 cases f:(A.out k).aK c with
 |false=>rfl
 |true=>
  exfalso;obtain⟨p,hp,b⟩:=(nW (bd.o k).a c).1 f;have g:(A.out k).reach c<=(A.out k).ay.length:=by unfold Ot.reach;omega
  unfold Ot.o9 at hp;by_cases e:p<(A.out k).ay.length;·exact b (h1 p e)
  ·split at hp;·rename_i a;unfold Ot.fO at a;simp only[qy,decide_eq_true_eq]at a;have:p=(A.out k).ay.length:=aj;rw[this]at b;exact b (d a.1.1)
   ·omega
theorem idle{A:av}(d:fE A)(bd:Bd A)(b:NoG A)(hd:∀k,k<8->(∀p,p<(A.out k).ay.length->Rg.Mem (A.out k).cK.rs p)/\((A.out k).bn=true->Rg.Mem (A.out k).cK.rs (A.out k).ay.length))(aF:bW)(u:Nat)(a:u<48)(c:u=0->aF=[]):A.aK aF u=false:=by
 have key:=O_ (aF:=[]) d fun u a=>by
  unfold Iz at a;by_cases u0:u=0;·rw[u0];rfl
  unfold av.aK;rw[aU u0];by_cases u8:u=8;·rw[bK u8,b.1,tL]
  ·rw[aU u8];by_cases u24:u<24;·rw[bK u24,b.2 _ aj,tL]
   ·rw[aU u24,aU aj,aU aj,Xt bd _ _ (hd _ aj).1 (hd _ aj).2,tL]
 have:=key u a;by_cases u0:u=0;·rw[c u0];exact this
 ·have e:A.aK aF u=A.aK [] u:=by
   unfold av.aK;rw[aU u0,aU u0]
  rw[e];exact this
end

def Q1(n:Net):Prop:=∀i,i<2->Dne n i/\NoG (n.x i)
def Prg(w t:Nat)(n:Net)(i c:Nat):Prop:=Dne n i\/(∃m,c=2*m/\m*min w t<=Srd n i)\/∃m,c=2*m+1/\L2 w t n i (m*min w t)
section
variable {bG w t:Nat} {n0 T0:Nat->Nat} {n n':Net}
theorem DR(h:FI bG w t n0 T0 n)(hs:Std T0 n)(v:∀i,i<2->(n.x i).next+24<1073741824)(hq:Q1 n)(x:RoR n n'):FI bG w t n0 T0 n'/\Std T0 n'/\Q1 n'/\(∀i,i<2->(n'.x i).aT=false)/\∀i,i<2->(n'.x i).next<=(n.x i).next+24:=by
 obtain⟨j,hz,n2,pk,p2,R,q⟩:=round h v x;have m:Std T0 n':=fun i hi=>by have:=hs i hi;rw[(R i hi).nx.2];omega
 refine⟨j,m,fun i hi=>⟨Ij h hs j R i hi (hq i hi).1,?_⟩,fun i hi=>?_,fun i hi=>(R i hi).nx.1⟩
 ·have P:=KV h hs R i hi;have o:=(hq i hi).2;refine Xr h j p2 R i hi (hq (1-i) aj).1 ⟨?_,fun k c=>?_⟩
  ·cases g:(n2.x i).gr.aK (n2.x i).aQ with
   |false=>rfl
   |true=>have:=P.nl.g g;have d:(n.x i).gr.aK (n.x i).aQ=true:=this;rw[o.1]at d;cases d
  ·cases g:((n2.x i).bF k).dh with
   |false=>rfl
   |true=>have:=P.nl.i k g;have d:((n.x i).bF k).dh=true:=this;rw[o.2 k c]at d;cases d
 ·cases g:(n'.x i).aT with
  |false=>rfl
  |true=>
   exfalso;obtain⟨y,A,z⟩:=q i hi g;have a:1-i<2:=aj;have P:=KV h hs R (1-i) a;obtain⟨f,r,c⟩:=qA.1 z;have l:f.aC≠2:=of_decide_eq_true c;rcases P.fr y A with h1|h1;·cases h1
   ·obtain⟨u,u1,u2,u3⟩:=h1 f r;have u0:u≠0:=fun e=>l (u3.2 e);have p:fE {(n.x (1-i)).iD with aT:=false}:=by
     have s:=yQ (h.p.loc _ a) (h.p.two _ a) (h.p.jT _ a);exact(lU s.loc s.ab s.ba false).loc
    have hB:Bd {(n.x (1-i)).iD with aT:=false}:=by have b:=Cy (h.p.bd _ a);exact⟨b.o,b.i,b.g,b.lm,b.mt,b.wy,b.ls,b.ky,b.wl,b.ll,b.nm,b.cm,b.tk⟩
    have:=idle p hB (hq _ a).2 (fun k c=>⟨((hq _ a).1 k c).1,((hq _ a).1 k c).2.1⟩) (lf (n.x (1-i))) u u1 (fun e=>absurd e u0);rw[this]at u2;cases u2
end

end
section
def uF(n:Net)(i:Nat):Nat:=su (fun k=>((n.x i).out k).ay.length) 8
section
variable {bG w t:Nat} {n0 T0:Nat->Nat} {n n':Net}
theorem qd3(h:fH bG n)(i:Nat)(hi:i<2):Srd n i<=uF n i:=Am 8 fun k _=>((h.two i hi).rd k).rd
theorem ZX(h:fH bG n)(i:Nat)(hi:i<2){B c:Nat}(hB:uF n i<=B)(e:0<min w t)(hp:Prg w t n i c)(b:2*(B / min w t)+2<=c):Dne n i:=by
 have hs:=qd3 h i hi;have key:∀m,B / min w t+1<=m->¬m*min w t<=B:=fun m d b=>by have h1:=Nat.lt_mul_div_succ B e;have a:(B / min w t+1)*min w t<=m*min w t:=Nat.mul_le_mul_right _ d;rw[Nat.mul_comm]at h1;omega
 rcases hp with h|⟨m,h1,a⟩|⟨m,h1,ρ,r1,r2,_⟩;·exact h
 ·exact absurd aj (key m aj)
 ·have:su ρ 8<=Srd n i:=Am 8 r1;exact absurd aj (key m aj)
theorem L2.less{i m m':Nat}(h:L2 w t n i m)(a:m'<=m):L2 w t n i m':=by obtain⟨ρ,b,c,d⟩:=h;exact⟨ρ,b,eT a c,d⟩
structure Rn (bG w t:Nat) (n0 T0:Nat->Nat) (B V0 T:Nat) (n:Net) (P:Nat->Nat) (c f:Nat):Prop where
 fi:FI bG w t n0 T0 n
 st:Std T0 n
 gi:Gi P n
 cf:c+f=T
 v:32*f+(P 0+(n.x 0).U+(P 1+(n.x 1).U))<=V0
 pr:∀i,i<2->Prg w t n i c
 q:2*(B / min w t)+2<c->Q1 n
 by':∀i,i<2->uF n i<=B
theorem ZY{B V0 T:Nat}{P:Nat->Nat}{c f:Nat}(z:0<min w t)(l:w<=4096/\t<=4096)(h:Rn bG w t n0 T0 B V0 T n P c f)(p:∀i,i<2->(n.x i).next+24<1073741824)(s:RoR n n'):(∃u c' v,Rn bG w t n0 T0 B V0 (T+1) n' u c' v)/\∀i,i<2->(n'.x i).next<=(n.x i).next+24:=by
 obtain⟨b,hz,n2,pk,p2,R,G⟩:=round h.fi p s;have a:Std T0 n':=fun i hi=>by have:=h.st i hi;rw[(R i hi).nx.2];omega
 have C:=fun i hi=>Xq h.fi h.st b a hz p2 R i hi;have hB:∀i,i<2->uF n' i<=B:=fun i hi=>by
  have:uF n' i=uF n i:=qQ 8 fun k _=>by rw[((R i hi).ot k).1]
  rw[this];exact h.by' i hi
 have j:Gi (fun i=>(n.x i).U) n':=fun i hi=>by obtain⟨c1,c2,c3,c4⟩:=C i hi;show(n'.x i).U<=(n.x i).U/\47*(n'.x i).aJ.length+7*(n'.x i).U<=164+7*(n.x i).U;omega
 have E:=h.gi 0 aj;have F:=h.gi 1 aj;have A:=C 0 aj;have D:=C 1 aj;have H:=h.v;have x:=h.cf;refine⟨?_,fun i hi=>(R i hi).nx.1⟩;by_cases r:(n2.x 0).aJ.length<12/\(n2.x 1).aJ.length<12
 ·have g:∀i,i<2->(n2.x i).aJ.length<12:=fun i hi=>by
   rcases(show i=0\/i=1 by omega)with rfl|rfl;·exact r.1
   ·exact r.2
  refine⟨fun i=>(n.x i).U,c+1,f,b,a,j,aj,?_,fun i hi=>?_,fun o=>?_,hB⟩;·show 32*f+((n.x 0).U+(n'.x 0).U+((n.x 1).U+(n'.x 1).U))<=V0;omega
  ·rcases h.pr i hi with d|⟨m,e,q⟩|⟨m,e,q⟩;·exact .inl (Ij h.fi h.st b R i hi d)
   ·right;right;exact⟨m,aj,(Sy h.fi b a p2 R l i hi (g _ aj)).less q⟩
   ·rcases Sz b a p2 R i hi (g i hi) _ q with d|d;·exact .inl d
    ·refine .inr (.inl ?_);exact⟨m+1,aj,by rw[Nat.succ_mul];exact d⟩
  ·have hd:∀i,i<2->Dne n i:=fun i hi=>ZX h.fi.p i hi (h.by' i hi) z (h.pr i hi) aj;refine fun i hi=>⟨Ij h.fi h.st b R i hi (hd i hi),Xr h.fi b p2 R i hi (hd (1-i) aj) ?_⟩;have P:=KV h.fi h.st R i hi;exact⟨(uE _ 8 (g i hi) (P.no 8 (by unfold Iz;omega))).1 rfl,fun k y=>(uE _ (16+k) (g i hi) (P.no (16+k) (by unfold Iz;omega))).2.1 k y rfl⟩
 ·refine⟨fun i=>(n.x i).U,c,f+1,b,a,j,aj,?_,fun i hi=>?_,fun o=>(DR h.fi h.st p (h.q o) s).2.2.1,hB⟩;·show 32*(f+1)+((n.x 0).U+(n'.x 0).U+((n.x 1).U+(n'.x 1).U))<=V0;omega
  ·rcases h.pr i hi with d|⟨m,e,q⟩|⟨m,e,q⟩;·exact .inl (Ij h.fi h.st b R i hi d)
   ·exact .inr (.inl ⟨m,e,eT q (qd2 R i hi)⟩)
   ·exact .inr (.inr ⟨m,e,qfi R i hi q⟩)
theorem Xu{B V0:Nat}{P:Nat->Nat}(g:0<min w t)(a:w<=4096/\t<=4096)(h:Rn bG w t n0 T0 B V0 0 n P 0 0):∀(T:Nat) (n':Net),zG T n n'->(∀i,i<2->(n.x i).next+24*T<1073741824)->(∃d c f,Rn bG w t n0 T0 B V0 T n' d c f)/\∀i,i<2->(n'.x i).next<=(n.x i).next+24*T
 |0,n',hr,_=>by have e:n'=n:=hr;rw[e];exact⟨⟨P,0,0,h⟩,fun _ _=>eB _⟩
 |T+1,n',hr,hm=>by obtain⟨n1,h1,j⟩:=hr;obtain⟨⟨d,c,f,I⟩,nx⟩:=Xu g a h T n1 h1 fun i hi=>bV (hm i hi);obtain⟨J,b⟩:=ZY g a I (fun i hi=>FN (nx i hi) (hm i hi)) j;exact⟨J,fun i hi=>FN (nx i hi) (b i hi)⟩
theorem Ik(h:FI bG w t n0 T0 n):∀(T:Nat) (n':Net),zG T n n'->(∀i,i<2->(n.x i).next+24*T<1073741824)->FI bG w t n0 T0 n'/\∀i,i<2->(n'.x i).next<=(n.x i).next+24*T/\(n'.x i).bE=(n.x i).bE+T/\∀k,((n'.x i).out k).ay=((n.x i).out k).ay/\((n'.x i).out k).bn=((n.x i).out k).bn
 |0,n',hr,_=>by have e:n'=n:=hr;rw[e];exact⟨h,fun _ _=>⟨eB _,rfl,fun _=>⟨rfl,rfl⟩⟩⟩
 |T+1,n',hr,hm=>by obtain⟨n1,h1,d⟩:=hr;obtain⟨I,nx⟩:=Ik h T n1 h1 fun i hi=>bV (hm i hi);obtain⟨J,_,n2,pk,p2,R,_⟩:=round I (fun i hi=>FN ((nx i hi).1) (hm i hi)) d;refine⟨J,fun i hi=>?_⟩;obtain⟨a,b,c⟩:=nx i hi;obtain⟨f,b2⟩:=(R i hi).nx;exact⟨aj,aj,fun k=>⟨((R i hi).ot k).1.trans (c k).1,((R i hi).ot k).2.trans (c k).2⟩⟩
theorem Il:∀(b a:Nat) (n n':Net),zG (a+b) n n'->∃n1,zG a n n1/\zG b n1 n'
 |0,a,n,n',h=>⟨n',h,rfl⟩
 |b+1,a,n,n',h=>by obtain⟨n1,h1,c⟩:=h;obtain⟨n3,d,e⟩:=Il b a n n1 h1;exact⟨n3,d,n1,e,c⟩
theorem KW(hp:fH bG n)(hl:NL w t n)(hb:n.dN=[]):FI bG w t (fun i=>(n.x i).next) (fun i=>(n.x i).bE) n:=by refine⟨hp,hl,hb,fun i hi=>⟨eB _,(hp.jT i hi).aM,hl.2.2.own i hi,.inl rfl⟩,fun i hi z hz=>.inr ⟨((hp.bd i hi).wy z hz).1,(hp.bd i hi).tk z hz,Nat.lt_add_of_pos_right iO⟩,fun i hi ⟨z,hz,a⟩=>?_⟩;exact absurd ((hp.bd i hi).wy z hz).1 (Nat.not_lt.2 a)
theorem qfj(n:Net)(i:Nat):(n.x i).U<=uF n i+8:=by
 have h1:(n.x i).U<=su (fun k=>((n.x i).out k).ay.length+1) 8:=Am 8 fun k _=>O7 _ _;have a:su (fun k=>((n.x i).out k).ay.length+1) 8=uF n i+8:=by unfold uF;simp only[su];omega
 omega
structure Fin (bG w t:Nat) (n0 T0:Nat->Nat) (n:Net):Prop where
 fi:FI bG w t n0 T0 n
 st:Std T0 n
 q:Q1 n
 an:∀i,i<2->(n.x i).aT=false
theorem SA(hp:fH bG n)(hl:NL w t n)(hb:n.dN=[])(G:0<min w t)(p:w<=4096/\t<=4096)(B E:Nat)(hB:uF n 0+uF n 1=B)(M:E=60+2*(B / min w t+1)+B / 16)(e:∀i,i<2->(n.x i).next+24*E<1073741824)(o:zG E n n'):Fin bG w t (fun i=>(n.x i).next) (fun i=>(n.x i).bE) n'/\(∀i,i<2->(n'.x i).next<=(n.x i).next+24*E)/\∀i,i<2->∀k,((n'.x i).out k).ay=((n.x i).out k).ay/\((n'.x i).out k).bn=((n.x i).out k).bn:=by
 have s:=KW hp hl hb;obtain⟨K,ne⟩:=Ik s E n' o e;obtain⟨T,D⟩:∃T,E=6+(1+(T+1)):=⟨E-8,aj⟩;rw[D]at o;obtain⟨a,H,r⟩:=Il _ _ _ _ o;obtain⟨b,h,r⟩:=Il _ _ _ _ r;obtain⟨na,ra,rb⟩:=r;obtain⟨u,j⟩:=Ik s 6 a H fun i hi=>bV (e i hi);have x:Std (fun i=>(n.x i).bE) a:=fun i hi=>by rw[(j i hi).2.1];exact eB _
 obtain⟨q,A,h⟩:=h;have l:q=a:=A;rw[l]at h;obtain⟨v,hz,n2,pk,p2,R,_⟩:=round u (fun i hi=>FN ((j i hi).1) (e i hi)) h;have y:Std (fun i=>(n.x i).bE) b:=fun i hi=>by have:=x i hi;rw[(R i hi).nx.2];omega
 have C:=fun i hi=>Xq u x v y hz p2 R i hi;have d:∀i,i<2->uF a i=uF n i:=fun i hi=>qQ 8 fun k _=>by rw[((j i hi).2.2 k).1]
 have m:∀i,i<2->uF b i=uF n i:=fun i hi=>(qQ 8 fun k _=>by rw[((R i hi).ot k).1]).trans (d i hi);have u0:=qfj a 0;have u1:=qfj a 1;have c0:=C 0 aj;have c1:=C 1 aj;rw[d 0 aj]at u0;rw[d 1 aj]at u1;have z:Rn bG w t (fun i=>(n.x i).next) (fun i=>(n.x i).bE) B (2*B+32) 0 b (fun i=>(a.x i).U) 0 0:=by
  refine⟨v,y,fun i hi=>?_,rfl,?_,fun i hi=>.inr (.inl ⟨0,rfl,aj⟩),fun F=>absurd F aj,fun i hi=>?_⟩;·obtain⟨c1,c2,c3,c4⟩:=C i hi;show(b.x i).U<=(a.x i).U/\47*(b.x i).aJ.length+7*(b.x i).U<=164+7*(a.x i).U;omega
  ·show 32*0+((a.x 0).U+(b.x 0).U+((a.x 1).U+(b.x 1).U))<=2*B+32;omega
  ·rw[m i hi];rcases(show i=0\/i=1 by omega)with rfl|rfl<;>omega
 have g:∀i,i<2->(b.x i).next<=(n.x i).next+168:=fun i hi=>by have:=(j i hi).1;have:=(R i hi).nx.1;omega
 obtain⟨⟨P,c,f,I⟩,J⟩:=Xu G p z T na ra fun i hi=>FN (g i hi) (e i hi);have hq:Q1 na:=I.q (by have h1:=I.v;have L:=I.cf;omega);obtain⟨f1,f2,f3,f4,f5⟩:=DR I.fi I.st (fun i hi=>by have:=J i hi;have:=g i hi;have:=e i hi;omega) hq rb;exact⟨⟨f1,f2,f3,f4⟩,fun i hi=>(ne i hi).1,fun i hi k=>(ne i hi).2.2 k⟩
theorem Pd(h:Fin bG w t n0 T0 n):∀(T:Nat) (n':Net),zG T n n'->(∀i,i<2->(n.x i).next+24*T<1073741824)->Fin bG w t n0 T0 n'/\∀i,i<2->(n'.x i).next<=(n.x i).next+24*T
 |0,n',hr,_=>by have e:n'=n:=hr;rw[e];exact⟨h,fun _ _=>eB _⟩
 |T+1,n',hr,hm=>by obtain⟨n1,h1,a⟩:=hr;obtain⟨I,nx⟩:=Pd h T n1 h1 fun i hi=>bV (hm i hi);obtain⟨f1,f2,f3,f4,f5⟩:=DR I.fi I.st (fun i hi=>FN (nx i hi) (hm i hi)) I.q a;exact⟨⟨f1,f2,f3,f4⟩,fun i hi=>FN (nx i hi) (f5 i hi)⟩
theorem Xv(h:Fin bG w t n0 T0 n)(i:Nat)(hi:i<2){M:av}{pk:List (Nat×List Fr)}(a:(n.x i).jS M pk):pk=[]/\M=n.x i:=by
 obtain⟨M1,hl,e⟩:=a;have d:M1=n.x i:=(qP hl).2.2.2 fun z hz=>by obtain⟨_,j,l⟩:=Ih h.fi h.st i hi z hz;unfold av.gF;rw[mY];exact⟨decide_eq_false aj,decide_eq_false aj⟩
 rw[d]at e;have c:lf (n.x i)=[]:=by unfold lf;rw[aU (by rw[h.an i hi];decide)]
 have f:=(lU (h.fi.p.loc i hi) (h.fi.p.two i hi) (h.fi.p.jT i hi) false).loc;have b:=h.fi.p.bd i hi;have hB:Bd {n.x i with aT:=false}:=⟨b.o,b.i,b.g,b.lm,b.mt,b.wy,b.ls,b.ky,b.wl,b.ll,b.nm,b.cm,b.tk⟩;rw[c,Ap _ _ _ _ _ (fun u g=>idle f hB (h.q i hi).2 (fun k a=>⟨((h.q i hi).1 k a).1,((h.q i hi).1 k a).2.1⟩) [] u g fun _=>rfl) lq0]at e;refine⟨(congrArg Prod.snd e).symm,(congrArg Prod.fst e).symm.trans ?_⟩;show{n.x i with aT:=false}=n.x i;rw[<-h.an i hi]
end

end
end Go.Proofs.YtphbledmopchnaaGreatDoor.Sd
namespace Go.Proofs.YtphbledmopchnaaGreatDoor.Sd
open Go.RowKit Go.Lib Mm Tryz
theorem Bl{g:Nat->Nat}{c:Nat}:∀n,(∀k,k<n->g k<=c)->su g n<=c*n
 |0,_=>nI _
 |n+1,h=>by have h1:=Bl n fun k b=>h k aj;have a:=h n aj;unfold su;rw[Nat.mul_succ];omega
theorem Xw(b t:Nat)(hb:b<=16384*2):Ending.returned (iZ (wrap64 (wrap64 (60+wrap64 (2*wrap64 (wrap64 ((b:Int) / (t:Int))+1)))+(b:Int) / 16)))=.returned (iZ ((60+2*(b / t+1)+b / 16:Nat):Int)):=by
 have h1:b / t<=b:=Bu b t;have e:(b:Int) / (t:Int)=((b / t:Nat):Int):=aP;have f:(b:Int) / 16=((b / 16:Nat):Int):=aP;have g:b / 16<=b:=Bu b 16;rw[e,f];generalize b / t=c at *
 generalize b / 16=d at *
 have k:∀x:Int,-9223372036854775808<=x->x<=9223372036854775807->wrap64 x=x:=fun x a b=>by unfold wrap64;omega
 rw[k c aj aj,k (c+1) aj aj,k (2*(c+1)) aj aj,k (60+2*((c:Int)+1)) aj aj,k _ aj aj];congr 2
def EnC(w:World)(a:Ad)(n:Net)(i k:Nat):Prop:=w.cell? (aB a.eb i)=some (dP (a.el i) 8 (a.Iw i))/\w.cell? (aB (a.el i) k)=some (aI (a.e i k) 0)/\w.cell? (aB (a.e i k) 0)=some (.string ⟨((n.x i).out k).ay.toArray⟩)/\w.cell? (aB (a.e i k) 1)=some (.bool ((n.x i).out k).bn)/\w.cell? (aB (a.e i k) 2)=some (.bool false)/\w.cell? (aB (a.e i k) 4)=some (iZ (((n.x (1-i)).bF k).aR:Int))/\w.cell? (aB (a.e i k) 5)=some (iZ (((n.x (1-i)).bF k).state:Int))
theorem Xx{oZ:Own}{w:World}{a:Ad}{n:Net}{vb:Value}(h:fu oZ w a n vb (ends n))(i k:Nat)(hi:i<2)(b:k<8):EnC w a n i k:=by obtain⟨c,d,_⟩:=h.Ke i k hi b;have B:=(h.en i k hi b).1;have e:ends n i k=J6 ((n.x i).out k) ((n.x (1-i)).bF k):=rfl;rw[e]at B;exact⟨c,d,B.cell 0,B.cell 1,B.cell 2,B.cell 4,B.cell 5⟩
theorem SB{oZ:Own}{w:World}{a:Ad}{n:Net}{vb:Value}(h:fu oZ w a n vb (ends n))(hp:fH a.bG n)(W:16<=a.gN/\a.gN<=4096)(ht:16<=a.rO/\a.rO<=4096):Calls prog 17 #[aI a.N 0] w fun e w'=>e=.returned (iZ ((60+2*((uF n 0+uF n 1) / min a.gN a.rO+1)+(uF n 0+uF n 1) / 16:Nat):Int))/\w'=w:=by
 have p:∀i k,i<2->((n.x i).out k).ay.length<=2048:=fun i k hi=>((hp.bd i hi).o k).b;have L:Hid (∀i k,i<2->k<8->EnC w a n i k):=fun i k hi F=>Xx h i k hi F;have s:∀i k,i<2->k<=8->su (fun k=>((n.x i).out k).ay.length) k<=16384:=fun i k hi F=>by have:=Bl (g:=fun k=>((n.x i).out k).ay.length) (c:=2048) k fun j _=>p i j hi;omega
 have z:=aG s;have y:=aG p;obtain⟨_,c1,_⟩:=h.cells;have B:=h.oP.1;have c6:=B.cell 6;have c7:=B.cell 7;simp only[Wh,List.getElem?_cons_zero,List.getElem?_cons_succ]at c6 c7;obtain⟨t,o⟩:=bZ a.gN;obtain⟨tt,l⟩:=bZ a.rO;rw[<-o]at c6 W;rw[<-l]at c7 ht;obtain⟨E,x⟩:=bZ (60+2*((uF n 0+uF n 1) / min a.gN a.rO+1)+(uF n 0+uF n 1) / 16);rw[<-x];rw[<-o,<-l]at x;have r:=aG x;clear h hp p s B o l x;go_enter func17,ntmps17;go_wp2;go_loopw [3,4] (fun H I wr=>∃i b:Nat,i<=2/\I=(iZ i)/\H=(iZ b)/\b<=16384*i/\Hid (wr=w/\b=su (uF n) i)) (fun _ I _=>2-(mE I).toNat);case atStart=>exact⟨0,0,nI _,rfl,rfl,nI _,rfl,rfl⟩
 case round=>
  obtain⟨i,b,hi,rfl,rfl,hb,f⟩:=hrel;by_cases q:i<2
  ·have M:(i:Int)<2:=aj;go_wp2;go_loopw [3,5] (fun H J K=>∃k c:Nat,k<=8/\J=(iZ k)/\H=(iZ c)/\c<=b+16384/\Hid (K=w/\c=b+su (fun k=>((n.x i).out k).ay.length) k)) (fun _ J _=>8-(mE J).toNat);case atStart=>exact⟨0,b,nI _,rfl,rfl,aj,f.out.1,rfl⟩
   case round=>
    obtain⟨k,c,F,rfl,rfl,A,d⟩:=hrel;by_cases G:k<8
    ·have X:(k:Int)<8:=aj;obtain⟨Q,R,S,_⟩:=L.out i k q G;have N:=c1;rw[<-d.out.1]at N Q R S;have gQ:(⟨((n.x i).out k).ay.toArray⟩:ByteArray).size=((n.x i).out k).ay.length:=(jU _).2;have v:Hid (wr=w/\c+((n.x i).out k).ay.length=b+su (fun k=>((n.x i).out k).ay.length) (k+1)):=⟨d.out.1,by
      have:=d.out.2;show _=b+(su (fun k=>((n.x i).out k).ay.length) k+((n.x i).out k).ay.length);omega⟩
     have U:c+((n.x i).out k).ay.length<=b+16384:=by have:=z.out i (k+1) q aj;have:=v.out.2;omega
     have V:=y.out i k q;clear d;generalize ((n.x i).out k).ay.length=m at *
     generalize (⟨((n.x i).out k).ay.toArray⟩:ByteArray)=D at *
     go_wp2;go_roundw;case rel=>exact⟨k+1,c+m,aj,aP,aP,aj,v⟩
     case measure=>simp[mE];omega
    ·obtain rfl:k=8:=aj;have v:Hid (wr=w/\c=su (uF n) (i+1)):=⟨d.out.1,by
      have:=d.out.2;have:=f.out.2;show _=su (uF n) i+uF n i;unfold uF at *
      omega⟩
     clear f d;go_wp2;go_roundw;case rel=>exact⟨i+1,c,aj,aP,rfl,aj,v⟩
     case measure=>simp[mE];omega
  ·obtain rfl:i=2:=aj;have O:=c6;have P:=c7;rw[<-f.out.1]at O P;have u:Hid (wr=w/\b=uF n 0+uF n 1):=⟨f.out.1,by
    have:=f.out.2;simp only[su]at this;omega⟩
   clear f c6 c7 c1 L;by_cases A:tt<t;·have C:(tt:Int)<(t:Int):=aj;have T:¬((tt:Int)=0):=aj;go_wp2;go_ret;rw[r.out,Nat.min_eq_right (Nat.le_of_lt A),<-u.out.2];exact⟨Xw b tt hb,u.out.1⟩
   ·have C:¬((tt:Int)<(t:Int)):=aj;have T:¬((t:Int)=0):=aj;go_wp2;go_ret;rw[r.out,Nat.min_eq_left (Nat.not_lt.1 A),<-u.out.2];exact⟨Xw b t hb,u.out.1⟩
theorem SC{oZ:Own}{w wr:World}{a:Ad}{n:Net}(h:nR oZ w a n wr)(i k:Nat)(hi:i<2)(b:k<8):wr.cell? (aB a.N 1)=some (dP a.eb 2 a.ec)/\EnC wr a n i k:=by obtain⟨o,vb,h1,_⟩:=h;exact⟨h1.cells.2.1,Xx h1 i k hi b⟩
theorem Xy{oZ:Own}{w wr:World}{a:Ad}{n:Net}(h:nR oZ w a n wr)(q:Nat):nR oZ w a n (wr.drewN q):=by obtain⟨o,vb,h1,b⟩:=h;exact⟨o,vb,h1.below (f_ wr q),b.trans (Kp.below (f_ wr q))⟩
theorem NH{oZ:Own}{w:World}{a:Ad}{n:Net}(h:nR oZ w a n w)(hd:∀i,i<2->Dne n i)(hb:∀i k,i<2->((n.x i).out k).ay.length<=2048):Calls prog 19 #[aI a.N 0] w fun e w'=>e=.returned (.bool true)/\nR oZ w a n w':=by
 have s:=aG h;have x:=aG hd;have v:=aG hb;clear h hd hb;go_enter func19,ntmps19;go_wp2;go_loopw [3] (fun o wr=>∃i:Nat,i<=2/\o=(iZ i)/\Hid (nR oZ w a n wr)) (fun o _=>2-(mE o).toNat);case atStart=>exact⟨0,nI _,rfl,s⟩
 case round=>
  obtain⟨i,hi,rfl,j⟩:=hrel;clear s;by_cases d:i<2
  ·have u:(i:Int)<2:=aj;go_wp2;go_loopw [4] (fun p r=>∃k:Nat,k<=8/\p=(iZ k)/\Hid (nR oZ w a n r)) (fun p _=>8-(mE p).toNat);case atStart=>exact⟨0,nI _,rfl,j⟩
   case round=>
    obtain⟨k,B,rfl,c⟩:=hrel;clear j;by_cases g:k<8
    ·have y:(k:Int)<8:=aj;obtain⟨c1,z,A,f0,f1,f2,f4,f5⟩:=SC c.out i k d g;obtain⟨_,_,t,l⟩:=x.out i d k g;have gQ:(⟨((n.x i).out k).ay.toArray⟩:ByteArray).size=((n.x i).out k).ay.length:=(jU _).2;have m:=v.out i k d;rw[t,<-gQ]at f4;rw[<-gQ]at m;have f:Hid (∀q,nR oZ w a n (wr.drewN q)):=fun q=>Xy c.out q;clear c gQ t;generalize (⟨((n.x i).out k).ay.toArray⟩:ByteArray)=D at *
     cases b:((n.x i).out k).bn with
     |true=>
      rw[b]at f1;rw[l b]at f5;clear l b;go_wp2;go_quiet (fail);go_wp2;go_roundw;case rel=>exact⟨k+1,aj,aP,f.out _⟩
      case measure=>simp[mE];omega
     |false=>
      rw[b]at f1;clear l b;go_wp2;go_quiet (fail);go_wp2;go_roundw;case rel=>exact⟨k+1,aj,aP,f.out _⟩
      case measure=>simp[mE];omega
    ·obtain rfl:k=8:=aj;go_wp2;go_roundw;case rel=>exact⟨i+1,aj,aP,c⟩
     case measure=>simp[mE];omega
  ·obtain rfl:i=2:=aj;go_wp2;go_ret;exact⟨rfl,j.out⟩
