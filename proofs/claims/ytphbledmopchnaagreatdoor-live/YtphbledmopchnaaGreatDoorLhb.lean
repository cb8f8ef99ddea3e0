import Derived.Test.YtphbledmopchnaaGreatDoorLha
import Derived.Test.YtphbledmopchnaaGreatDoorLga
open Array renaming getElem?_eq_getElem->yP
open Go.RowKit.Below renaming heap_setCell->uj,refl->Ht
open Bool renaming and_eq_true->tK,false_eq_true->wz
open List renaming getD_eq_getElem?_getD->j3,mem_append->lg,mem_cons->mE,mem_filter->mI,mem_append_left->mK,getElem?_map->mR,mem_singleton->mY,getElem?_eq_getElem->nA,length_take->nI,append_nil->o8,length_append->qx,mem_append_right->qA,mem_flatMap->rX,length_eq_zero_iff->sF,mem_of_mem_take->tO,getElem?_take->xB,getElem_mem->Bf,length_map->Cr,getElem?_eq_none->CP,length_filter_le->CZ,flatMap_append->DU,append_assoc->Es,size_toArray->Ev,length_cons->Ew,length_drop->EF,mem_reverse->Fe
open Nat renaming le_refl->eT,le_trans->nP,zero_le->qy,max_eq_right->tL,max_eq_left->tT,lt_of_lt_of_le->xQ,zero_add->Bu,not_lt_zero->FR,le_of_eq->F3
open Option renaming map_eq_some_iff->eB,map_some->FU
open Prod renaming fst->nU
open Go.RowKit renaming intOf->nV
open Go.World renaming block_lt_of_cell?->og,cell?->Gy
set_option maxHeartbeats 2000000
set_option maxRecDepth 100000
namespace Go.Proofs.YtphbledmopchnaaGreatDoor.Sd
open Go.RowKit Go.Lib Mm Tryz
structure PkF (bG:Nat) (x:Nat×List Fr):Prop where
 sn:sD x.1 x.2=true
 sz:(fK x.1 x.2).length+4<=bG
 ln:x.2.length<=400
 ne:x.2≠[]
 fs:∀f∈x.2,FrG f
theorem Fp{B:av}{N:Nat}(g:N<dK):∀(n:Nat) {A:av} (aF:bW) (Q:List Nat) (l:List (Nat×List Fr)),PP B N A aF->Lq Q->(∀x∈l,PkF A.bG x)->(∀x∈(fQ n A aF Q l).2,PkF A.bG x)/\(∃cu,PP B N (fQ n A aF Q l).1 cu)/\(fQ n A aF Q l).1.bG=A.bG
 |0,A,aF,Q,l,h,_,hl=>⟨hl,⟨aF,h⟩,rfl⟩
 |n+1,A,aF,Q,l,h,hQ,hl=>by
  obtain⟨r0,u⟩:=yt h.bd;have c:(fill A aF Q A.au).1.next=A.next:=ug _ aF Q [] A.au []
  obtain⟨m,t⟩:=lY (Q.length+A.au.toNat+1) aF Q [] A.au [] h.loc h.ab h.ba h.bd h.dn h.l8 h.hi hQ (fun x d=>by simp at d) r0;have a:FlB B A aF A.au [] (fill A aF Q A.au) m:=t;clear t;have hp:=fun b=>Hr (Q:=Q) h g hQ b;unfold fQ;generalize fill A aF Q A.au=x at a c hp;obtain⟨A',cu,k,fs⟩:=x;simp only at a c hp ⊢;have f:A'.bG=A.bG:=a.mt;have wy:A'.aJ=A.aJ:=a.wy;have ln:cu.length<=aF.length:=a.ln;split;·refine⟨hl,⟨cu,a.loc,a.ab,a.ba,a.bd,a.dn,bV h.l8,a.hi,?_⟩,f⟩;have:=h.nx;show A'.next+mu A' cu<=N;unfold mu at this ⊢;rw[wy,c];omega
  ·rename_i b;obtain⟨p1,p2,o,p,q,r⟩:=hp b;have e:(A'.dz fs).bG=A.bG:=f;obtain⟨i,s,j⟩:=Fp g n cu k (l++[(A.next,fs)]) p1 a.q (fun x d=>by
    rw[e];rcases lg.1 d with d|d;·exact hl x d
    ·rw[mY.1 d];exact⟨o,p,q,b,r⟩)
   rw[e]at i j;exact⟨i,s,j⟩
theorem qem(M:av)(f:Fr):(M.eP f).next=M.next/\(M.eP f).aM=M.aM/\(M.eP f).bG=M.bG/\(M.eP f).bE=M.bE:=by
 unfold av.eP;repeat' split
 all_goals exact⟨rfl,rfl,rfl,rfl⟩
theorem VW:∀(l:List Fr) (M:av),(l.foldl av.eP M).next=M.next/\(l.foldl av.eP M).aM=M.aM/\(l.foldl av.eP M).bG=M.bG/\(l.foldl av.eP M).bE=M.bE
 |[],M=>⟨rfl,rfl,rfl,rfl⟩
 |f::t,M=>by obtain⟨a,b,c,d⟩:=VW t (M.eP f);obtain⟨e,g,c',h⟩:=qem M f;exact⟨a.trans e,b.trans g,c.trans c',d.trans h⟩
theorem lZ{M M1:av}(h:M.gU M1):M1.next=M.next/\M1.aM=M.aM/\M1.bG=M.bG/\M1.bE=M.bE:=by
 unfold av.gU at h;split at h;·obtain⟨lp,_,rfl⟩:=h;exact VW _ _
 ·rw[h];exact⟨rfl,rfl,rfl,rfl⟩
theorem VX{M:av}(h:Bd M):(lf M).length<=8:=by
 unfold lf;split;·rw[List.length_reverse];exact h.cm.ln
 ·simp
theorem yu{A B M1:av}(f:fE A)(h1:dO A B)(e:dO B A)(d:Bd A)(h:A.gU M1):PP B (A.next+24) {M1 with aT:=false} (lf M1)/\mu {M1 with aT:=false} (lf M1)<(lf M1).length+14/\(lf M1).length<=8:=by
 have s1:=uS f h1 e h;have a:=JE d h;have c:=lU s1.loc s1.ab s1.ba false;obtain⟨k1,k2,g,_⟩:=lZ h;have hl:=VX a;refine⟨⟨c.loc,c.ab,c.ba,⟨a.o,a.i,a.g,a.lm,a.mt,a.wy,a.ls,a.ky,a.wl,a.ll,a.nm,a.cm,a.tk⟩,?_,hl,fun r b=>?_,?_⟩,?_,hl⟩
 ·unfold lf;split;·exact Dn.rev a.cm.so a.cm.hi
  ·trivial
 ·unfold lf at b;split at b;·exact s1.ba.aM r (Fe.1 b)
  ·simp at b
 ·show M1.next+mu _ _<=_;unfold mu;rw[k1];omega
 ·unfold mu;omega
def av.jS(M M':av)(pk:List (Nat×List Fr)):Prop:=∃M1,M.gU M1/\fQ ((lf M1).length+14) {M1 with aT:=false} (lf M1) q0 []=(M',pk)
structure VY (A B A':av) (pk:List (Nat×List Fr)):Prop where
 Qz:tu A B A'
 bd:Bd A'
 mt:A'.bG=A.bG
 next:A'.next=A.next+pk.length
 top:A'.next<=A.next+24
 nm:∀j,j<pk.length->(pk.getD j (0,[])).1=A.next+j
 ok:∀x∈pk,PkF A.bG x/\x.1<A'.next/\∀f∈x.2,lJ A' B f
theorem JV:∀(m:List (List Fr)) (n:Nat),(nums n m).length=m.length
 |[],_=>rfl
 |_::t,n=>by simp[nums,JV t (n+1)]
theorem JW:∀(m:List (List Fr)) (n j:Nat),j<m.length->(nums n m).getD j (0,[])=(n+j,m.getD j [])
 |[],_,j,h=>by simp at h
 |_::t,n,0,_=>rfl
 |_::t,n,j+1,h=>by have:=JW t (n+1) j (by simpa using h);simp only[nums,List.getD_cons_succ];rw[this];congr 1;omega
theorem JX:∀(m:List (List Fr)) (n:Nat) (x:Nat×List Fr),x∈nums n m->x.2∈m/\x.1<n+m.length
 |[],_,_,h=>by simp[nums]at h
 |a::t,n,x,h=>by
  rcases mE.1 h with h|h;·rw[h];simp
  ·obtain⟨p,q⟩:=JX t (n+1) x h;exact⟨by simp[p],by simp;omega⟩
theorem mG{A B A':av}{pk:List (Nat×List Fr)}(d:fE A)(h1:dO A B)(c:dO B A)(i:Bd A)(r:A.next+24<dK)(h:A.jS A' pk):VY A B A' pk:=by
 obtain⟨M1,hl,e⟩:=h;obtain⟨b,n,t⟩:=yu d h1 c i hl;obtain⟨k1,k2,g,_⟩:=lZ hl;have s1:=uS d h1 c hl;have s:=lU s1.loc s1.ab s1.ba false;obtain⟨m,o⟩:=EW ((lf M1).length+14) (lf M1) q0 [] b.loc b.ab b.ba lq0 b.hi;obtain⟨f1,⟨cu,f2⟩,f3⟩:=Fp r ((lf M1).length+14) (lf M1) q0 [] b lq0 (fun x a=>by simp at a);rw[e]at o f1 f2 f3;have eq:pk=nums M1.next m:=by have:=o.eq;simpa using this
 have nx:A'.next=M1.next+m.length:=o.next;have k:pk.length=m.length:=by rw[eq,JV]
 refine⟨s1.trans (s.trans o.Qz),f2.bd,f3.trans g,by rw[nx,k1,k],by have:A'.next+mu A' cu<=A.next+24:=f2.nx;omega,fun j u=>?_,fun x a=>?_⟩;·rw[eq,JW m _ j aj,k1]
 ·rw[eq]at a;obtain⟨p,q⟩:=JX m _ x a;exact⟨by have:=f1 x (by rw[eq];exact a);rw[<-g];exact this,by rw[nx];exact q,fun f l=>o.ok _ p f l⟩
structure Sm (A A':av):Prop where
 o:∀k,(A'.out k).ay=(A.out k).ay/\(A'.out k).bn=(A.out k).bn
 i:∀k,(A'.bF k).aR=(A.bF k).aR/\(A'.bF k).state=(A.bF k).state
theorem Sm.refl(A:av):Sm A A:=⟨fun _=>⟨rfl,rfl⟩,fun _=>⟨rfl,rfl⟩⟩
theorem Sm.trans{A B C:av}(h:Sm A B)(g:Sm B C):Sm A C:=
 ⟨fun k=>⟨(g.o k).1.trans (h.o k).1,(g.o k).2.trans (h.o k).2⟩,fun k=>⟨(g.i k).1.trans (h.i k).1,(g.i k).2.trans (h.i k).2⟩⟩
theorem nM(A:av)(k:Nat)(o:Ot)(h1:o.ay=(A.out k).ay)(a:o.bn=(A.out k).bn):Sm A (A.dD k o):=
 ⟨fun j=>by
  rw[fB];split;·rename_i h;rw[h.1];exact⟨h1,a⟩
  ·exact⟨rfl,rfl⟩,fun _=>⟨rfl,rfl⟩⟩
theorem Bg(A:av)(k:Nat)(i:eH)(h1:i.aR=(A.bF k).aR)(a:i.state=(A.bF k).state):Sm A (A.eG k i):=
 ⟨fun _=>⟨rfl,rfl⟩,fun j=>by
  rw[dQ];split;·rename_i h;rw[h.1];exact⟨h1,a⟩
  ·exact⟨rfl,rfl⟩⟩
theorem VZ(A:av)(f:Fr):Sm A (A.eP f):=by
 unfold av.eP;split;·exact nM _ _ _ rfl rfl
 ·split;·exact nM _ _ _ rfl rfl
  ·split;·exact Bg _ _ _ rfl rfl
   ·exact⟨fun _=>⟨rfl,rfl⟩,fun _=>⟨rfl,rfl⟩⟩
theorem V3(A:av)(f:Fr):Sm A (A.dx f):=by
 unfold av.dx;split;·exact nM _ _ _ rfl rfl
 ·split;·exact nM _ _ _ rfl rfl
  ·split;·exact Bg _ _ _ rfl rfl
   ·exact⟨fun _=>⟨rfl,rfl⟩,fun _=>⟨rfl,rfl⟩⟩
theorem Hu(g:av->Fr->av)(a:∀A f,Sm A (g A f)):∀(l:List Fr) (A:av),Sm A (l.foldl g A)
 |[],A=>Sm.refl A
 |f::t,A=>(a A f).trans (Hu g a t (g A f))
theorem V4{A A':av}(h:A.gU A'):Sm A A':=by
 unfold av.gU at h;split at h
 ·obtain⟨lp,_,rfl⟩:=h;refine Sm.trans ?_ (Hu _ VZ _ _);refine⟨fun k=>?_,fun k=>?_⟩
  ·show((A.outs.map jh).getD k rV).ay=(A.outs.getD k rV).ay/\((A.outs.map jh).getD k rV).bn=(A.outs.getD k rV).bn;by_cases a:k<A.outs.length;·rw[getD_map jh rV _ _ a];exact⟨rfl,rfl⟩
   ·rw[nK rV _ _ (by simpa using a),nK rV _ _ aj];exact⟨rfl,rfl⟩
  ·show((A.ins.map iC).getD k sK).aR=(A.ins.getD k sK).aR/\((A.ins.map iC).getD k sK).state=(A.ins.getD k sK).state;by_cases a:k<A.ins.length;·rw[getD_map iC sK _ _ a];exact⟨rfl,rfl⟩
   ·rw[nK sK _ _ (by simpa using a),nK sK _ _ aj];exact⟨rfl,rfl⟩
 ·rw[h];exact Sm.refl A
theorem V5{A A':av}{l:bW}(h:A.nu l A'):Sm A A':=by obtain⟨lp,lq,_,_,rfl⟩:=h;exact Sm.trans (B:=A.rZ l) ⟨fun _=>⟨rfl,rfl⟩,fun _=>⟨rfl,rfl⟩⟩ (Hu _ V3 _ _)
theorem OL(i:eH)(f:Fr):(i.take f).aR=i.aR/\(i.take f).state=i.state:=⟨GD _ _ _ eH.aR _ rfl rfl,GD _ _ _ eH.state _ rfl rfl⟩
theorem Zf(A:av)(f:Fr)(a:f.aC≠2)(b:f.aC≠3):Sm A (A.take f).1:=by
 unfold av.take;rw[aU a];split
 ·split;·exact Sm.refl A
  ·split;·exact Sm.refl A
   ·exact Bg _ _ _ (OL _ f).1 (OL _ f).2
 ·split;·exact Sm.refl A
  ·split
   ·unfold av.Tx;split;·exact Sm.refl A
    ·exact⟨fun _=>⟨rfl,rfl⟩,fun _=>⟨rfl,rfl⟩⟩
   ·split;·exact⟨fun _=>⟨rfl,rfl⟩,fun _=>⟨rfl,rfl⟩⟩
    ·split;·exact nM _ _ _ rfl rfl
     ·exact Sm.refl A
theorem V6{A A':av}{e:Nat}{f:Fr}(c:f.aC≠3)(h:A.iN f A' e):Sm A A':=by
 unfold av.iN at h;split at h
 ·split at h;·rw[h.1];exact Sm.refl A
  ·exact V5 h.1
 ·rename_i b;have a:A'=(A.take f).1:=congrArg nU h;rw[a];exact Zf A f b c
theorem Ag:∀(fs:List Fr) {A A':av} {e:Nat},(∀f∈fs,f.aC≠3)->kZ A fs A' e->Sm A A'
 |[],A,A',e,_,h=>by obtain⟨rfl,_⟩:=h;exact Sm.refl _
 |f::t,A,A',e,hk,h=>by
  obtain⟨b,c,r,h⟩:=h;have s:=V6 (hk f aP) r;split at h;·exact s.trans (Ag t (fun g a=>hk g (by simp[a])) h)
  ·rw[h.1];exact⟨s.o,s.i⟩
theorem yw{A A':av}{n e:Nat}{fs:List Fr}(a:∀f∈fs,f.aC≠3)(h:A.jc n fs A' e):Sm A A':=by
 unfold av.jc at h;split at h;·rw[h.1];exact Sm.refl A
 ·have s:=Ag fs a h;exact⟨s.o,s.i⟩
theorem OM{o o':Ot}{k:Nat}{au:Int}{aN:Nat}{f:Fr}(h:o.next k au aN=some (f,o')):o'.ay=o.ay/\o'.bn=o.bn:=by obtain⟨e,_⟩:=nQ h;rw[e];exact⟨rfl,rfl⟩
theorem V7{A A':av}{aF cu:bW}{u:Nat}{au:Int}{f:Fr}(h:A.frame aF u au=some (f,A',cu)):Sm A A':=by
 unfold av.frame at h;split at h
 ·split at h;·cases h
  ·have e:=Option.some.inj h;have a:A=A':=congrArg (fun x=>x.2.1) e;rw[<-a];exact Sm.refl A
 ·split at h;·obtain⟨y,_,e⟩:=eB.1 h;have a:({A with gr:=y.2}:av)=A':=congrArg (fun x=>x.2.1) e;rw[<-a];exact⟨fun _=>⟨rfl,rfl⟩,fun _=>⟨rfl,rfl⟩⟩
  ·split at h;·obtain⟨y,_,e⟩:=eB.1 h;have a:=congrArg (fun x=>x.2.1) e;simp only at a;rw[<-a];exact Bg _ _ _ rfl rfl
   ·split at h;·obtain⟨y,_,e⟩:=eB.1 h;have a:=congrArg (fun x=>x.2.1) e;simp only at a;rw[<-a];exact nM _ _ _ rfl rfl
    ·split at h
     ·split at h;·cases h
      ·obtain⟨y,_,e⟩:=eB.1 h;have a:=congrArg (fun x=>x.2.1) e;simp only at a;rw[<-a];exact⟨fun _=>⟨rfl,rfl⟩,fun _=>⟨rfl,rfl⟩⟩
     ·obtain⟨y,b,e⟩:=eB.1 h;have a:=congrArg (fun x=>x.2.1) e;simp only at a;rw[<-a];exact nM _ _ _ (OM (f:=y.1) (o':=y.2) b).1 (OM (f:=y.1) (o':=y.2) b).2
theorem uU:∀(n:Nat) (A:av) (aF:bW) (Q later:List Nat) (au:Int) (l:List Fr),Sm A (fD n A aF Q later au l).1
 |0,A,_,_,_,_,_=>Sm.refl A
 |n+1,A,_,[],_,_,_=>Sm.refl A
 |n+1,A,aF,u::Q,later,au,l=>by
  unfold fD;by_cases a:A.aK aF u=true
  ·simp only[a,if_true];cases hF:A.frame aF u au with
   |none=>
    simp only;split;·exact uU n _ _ _ _ _ _
    ·exact Sm.refl A
   |some x=>obtain⟨f,c,b⟩:=x;exact(V7 hF).trans (uU n _ _ _ _ _ _)
  ·simp only[a];exact uU n _ _ _ _ _ _
theorem Fq:∀(n:Nat) (A:av) (aF:bW) (Q:List Nat) (l:List (Nat×List Fr)),Sm A (fQ n A aF Q l).1
 |0,A,_,_,_=>Sm.refl A
 |n+1,A,aF,Q,l=>by
  have s:Sm A (fill A aF Q A.au).1:=uU _ _ _ _ _ _ _;unfold fQ;split;·exact s
  ·have:=Fq n ((fill A aF Q A.au).1.dz (fill A aF Q A.au).2.2.2) (fill A aF Q A.au).2.1 (fill A aF Q A.au).2.2.1 (l++[(A.next,(fill A aF Q A.au).2.2.2)]);exact s.trans ⟨this.o,this.i⟩
theorem Dl{A A':av}{pk:List (Nat×List Fr)}(h:A.jS A' pk):Sm A A':=by obtain⟨M1,hl,e⟩:=h;have s:=Fq ((lf M1).length+14) {M1 with aT:=false} (lf M1) q0 [];rw[e]at s;exact(V4 hl).trans ⟨s.o,s.i⟩
theorem lJ.kd{A B:av}{f:Fr}(h:lJ A B f):f.aC=2\/f.aC=4\/f.aC=5\/f.aC=6:=by
 rcases h with h|h|h|h;·exact .inl h.1
 ·exact .inr (.inl h.1)
 ·exact .inr (.inr (.inl h.1))
 ·exact .inr (.inr (.inr h.1))
theorem Wo(M:av)(f:Fr):(M.dx f).bE=M.bE:=by
 unfold av.dx;repeat' split
 all_goals rfl
theorem OV(g:av->Fr->av)(a:∀A f,(g A f).bE=A.bE):∀(l:List Fr) (A:av),(l.foldl g A).bE=A.bE
 |[],_=>rfl
 |f::t,A=>(OV g a t (g A f)).trans (a A f)
theorem Wp{A A':av}{l:bW}(h:A.nu l A'):A'.bE=A.bE:=by obtain⟨lp,lq,_,_,rfl⟩:=h;exact OV _ Wo _ _
theorem Zp(A:av)(f:Fr)(a:f.aC≠2):(A.take f).1.bE=A.bE:=by
 unfold av.take av.Tx;rw[aU a];repeat' split
 all_goals rfl
theorem Ws{A A':av}{e:Nat}{f:Fr}(h:A.iN f A' e):A'.bE=A.bE:=by
 unfold av.iN at h;split at h
 ·split at h;·rw[h.1]
  ·exact Wp h.1
 ·rename_i b;have a:A'=(A.take f).1:=congrArg nU h;rw[a];exact Zp A f b
theorem Ai:∀(fs:List Fr) {A A':av} {e:Nat},kZ A fs A' e->A'.bE=A.bE
 |[],A,A',e,h=>by obtain⟨rfl,_⟩:=h;rfl
 |f::t,A,A',e,h=>by
  obtain⟨a,b,r,h⟩:=h;have s:=Ws r;split at h;·exact(Ai t h).trans s
  ·rw[h.1];exact s
theorem Ki{A A':av}{n e:Nat}{fs:List Fr}(h:A.jc n fs A' e):A'.bE=A.bE:=by
 unfold av.jc at h;split at h;·rw[h.1]
 ·have s:=Ai fs h;exact s
theorem Wt{A A':av}{aF cu:bW}{u:Nat}{au:Int}{f:Fr}(h:A.frame aF u au=some (f,A',cu)):A'.bE=A.bE:=by
 unfold av.frame at h;split at h
 ·split at h;·cases h
  ·have a:A=A':=congrArg (fun x=>x.2.1) (Option.some.inj h);rw[<-a]
 ·split at h;·obtain⟨y,_,e⟩:=eB.1 h;rw[<-show _=A' from congrArg (fun x=>x.2.1) e]
  ·split at h;·obtain⟨y,_,e⟩:=eB.1 h;rw[<-show _=A' from congrArg (fun x=>x.2.1) e];rfl
   ·split at h;·obtain⟨y,_,e⟩:=eB.1 h;rw[<-show _=A' from congrArg (fun x=>x.2.1) e];rfl
    ·split at h
     ·split at h;·cases h
      ·obtain⟨y,_,e⟩:=eB.1 h;rw[<-show _=A' from congrArg (fun x=>x.2.1) e]
     ·obtain⟨y,b,e⟩:=eB.1 h;rw[<-show _=A' from congrArg (fun x=>x.2.1) e];rfl
theorem uX:∀(n:Nat) (A:av) (aF:bW) (Q later:List Nat) (au:Int) (l:List Fr),(fD n A aF Q later au l).1.bE=A.bE
 |0,_,_,_,_,_,_=>rfl
 |n+1,_,_,[],_,_,_=>rfl
 |n+1,A,aF,u::Q,later,au,l=>by
  unfold fD;by_cases a:A.aK aF u=true
  ·simp only[a,if_true];cases hF:A.frame aF u au with
   |none=>
    simp only;split;·exact uX n _ _ _ _ _ _
    ·rfl
   |some x=>obtain⟨f,c,b⟩:=x;exact(uX n _ _ _ _ _ _).trans (Wt hF)
  ·simp only[a];exact uX n _ _ _ _ _ _
theorem FB:∀(n:Nat) (A:av) (aF:bW) (Q:List Nat) (l:List (Nat×List Fr)),(fQ n A aF Q l).1.bE=A.bE
 |0,_,_,_,_=>rfl
 |n+1,A,aF,Q,l=>by
  have s:(fill A aF Q A.au).1.bE=A.bE:=uX _ _ _ _ _ _ _;unfold fQ;split;·exact s
  ·exact(FB n _ _ _ _).trans s
theorem Du{A A':av}{pk:List (Nat×List Fr)}(h:A.jS A' pk):A'.bE=A.bE:=by obtain⟨M1,hl,e⟩:=h;have s:=FB ((lf M1).length+14) {M1 with aT:=false} (lf M1) q0 [];rw[e]at s;exact s.trans (lZ hl).2.2.2
theorem RN{A B:av}{f:Fr}(h:lJ A B f)(hs:snd f=true):lJ A B (norm f):=by
 have e:=norm_eq f hs;rcases h with⟨k,h1,a⟩|⟨k,h1,a,h3⟩|⟨k,h1⟩|⟨k,h1,a,h3⟩;·rw[e,aU aj,bK k];exact .inl ⟨rfl,h1,a⟩
 ·rw[e,aU aj,aU aj,aU aj,bK k];exact .inr (.inl ⟨rfl,h1,a,h3.e,h3.b,h3.d,h3.bn,h3.ne⟩)
 ·rw[e,aU aj,aU aj,aU aj,aU aj,bK k];exact .inr (.inr (.inl ⟨rfl,h1⟩))
 ·rw[e,aU aj,aU aj,aU aj,aU aj,aU aj,bK k];exact .inr (.inr (.inr ⟨rfl,h1,a,h3⟩))
theorem RO(f:Fr)(hs:snd f=true):norm (norm f)=norm f:=by have a:=norm_eq f hs;have b:=norm_eq (norm f) (Cn f hs);rw[lS f hs]at b;rw[b];rcases oF hs with k|k|k|k|k|k|k|k<;>rw[k]at a ⊢<;>rw[a]<;>rfl
structure Hw (bG:Nat) (A B:av) (y:Nat×List Fr):Prop where
 dec:oV true y.1 y.2 (bT y.1 y.2)
 nm:y.2.map norm=y.2
 ln:y.2.length<=400
 sz:(bT y.1 y.2).length<=bG
 ps:0<(bT y.1 y.2).length
 lt:y.1<A.next
 fr:∀f∈y.2,lJ A B f
theorem Hw.mono{bG:Nat}{A B A' B':av}{y:Nat×List Fr}(h:Hw bG A B y)(a:Au A A')(hb:Au B B'):Hw bG A' B' y:=
 ⟨h.dec,h.nm,h.ln,h.sz,h.ps,xQ h.lt a.next,fun f b=>(h.fr f b).mono a hb⟩
theorem Hy{bG:Nat}{A B:av}{x:Nat×List Fr}(h:PkF bG x)(l:x.1<A.next)(k:∀f∈x.2,lJ A B f):Hw bG A B (x.1,x.2.map norm)/\bT x.1 (x.2.map norm)=bT x.1 x.2:=by
 obtain⟨p1,p2,d⟩:=V8 x.1 x.2 h.sn;obtain⟨m,n,o⟩:=Dm p1;have a:=rM x.1 x.2;refine⟨⟨?_,?_,?_,?_,?_,l,fun f b=>?_⟩,d⟩
 ·unfold oV;rw[bK rfl];refine⟨by show x.1<_;unfold dK at n;omega,fun j i=>⟨m j i,?_⟩,o,by have:=h.ln;show(x.2.map norm).length<=_;rw[Cr];omega,rfl⟩;have c:j<x.2.length:=by simpa using i
  show lM ((x.2.map norm).getD j iM);rw[j3,mR,nA c];have g:=h.fs _ (Bf c);exact Oo _ g.sn g.ok
 ·show(x.2.map norm).map norm=x.2.map norm;rw[List.map_map];exact List.map_congr_left fun f b=>RO f (h.fs f b).sn
 ·show(x.2.map norm).length<=400;rw[Cr];exact h.ln
 ·show(bT x.1 (x.2.map norm)).length<=bG;rw[d,a];exact h.sz
 ·show 0<(bT x.1 (x.2.map norm)).length;rw[d,a];omega
 ·obtain⟨g,e,rfl⟩:=List.mem_map.1 b;exact RN (k g e) (h.fs g e).sn
structure Net where
 x:Nat->av
 dN:List (Nat×Nat×List Fr)
 now:Nat
 jP:Nat->Nat
def Net.dY(n:Net)(i:Nat)(M:av):Net:={n with x:=fun j=>if j=i then M else n.x j}
structure fH (bG:Nat) (n:Net):Prop where
 loc:∀i,i<2->fE (n.x i)
 two:∀i,i<2->dO (n.x i) (n.x (1-i))
 bd:∀i,i<2->Bd (n.x i)
 mt:∀i,i<2->(n.x i).bG=bG
 ct:∀i,i<2->n.jP i=(n.x i).next
 dN:∀y∈n.dN,y.1<2/\Hw bG (n.x (1-y.1)) (n.x y.1) y.2
theorem dA(n:Net)(i:Nat)(M:av):(n.dY i M).x i=M:=bK rfl
theorem dX(n:Net)(i j:Nat)(M:av)(h:j≠i):(n.dY i M).x j=n.x j:=aU h
theorem fH.jT{bG:Nat}{n:Net}(h:fH bG n)(i:Nat)(hi:i<2):dO (n.x (1-i)) (n.x i):=by have:=h.two (1-i) aj;rwa[show 1-(1-i)=i by omega]at this
theorem fH.set{bG:Nat}{n:Net}(h:fH bG n)(i:Nat)(hi:i<2)(M:av)(s:tu (n.x i) (n.x (1-i)) M)(b:Bd M)(m:M.bG=(n.x i).bG)(c:Nat->Nat)(g:∀j,j<2->c j=if j=i then M.next else n.jP j):fH bG {n.dY i M with jP:=c}:=by
 have f:(n.dY i M).x (1-i)=n.x (1-i):=dX _ _ _ _ aj;have d:∀j,j<2->j=i\/j=1-i:=fun j d=>aj;have le:∀j,Au (n.x j) ((n.dY i M).x j):=fun j=>by
  by_cases e:j=i;·rw[e,dA];exact s.le
  ·rw[dX _ _ _ _ e];exact Au.refl _
 refine⟨fun j a=>?_,fun j a=>?_,fun j a=>?_,fun j a=>?_,fun j a=>?_,fun y k=>⟨(h.dN y k).1,(h.dN y k).2.mono (le _) (le _)⟩⟩
 ·rcases d j a with rfl|rfl;·show fE ((n.dY _ M).x _);rw[dA];exact s.loc
  ·show fE ((n.dY i M).x (1-i));rw[f];exact h.loc _ a
 ·rcases d j a with rfl|rfl;·show dO ((n.dY j M).x j) ((n.dY j M).x (1-j));rw[dA,f];exact s.ab
  ·show dO ((n.dY i M).x (1-i)) ((n.dY i M).x (1-(1-i)));rw[show 1-(1-i)=i by omega,dA,f];exact s.ba
 ·rcases d j a with rfl|rfl;·show Bd ((n.dY _ M).x _);rw[dA];exact b
  ·show Bd ((n.dY i M).x (1-i));rw[f];exact h.bd _ a
 ·rcases d j a with rfl|rfl;·show((n.dY _ M).x _).bG=bG;rw[dA,m];exact h.mt _ a
  ·show((n.dY i M).x (1-i)).bG=bG;rw[f];exact h.mt _ a
 ·rcases d j a with rfl|rfl
  ·show c _=((n.dY _ M).x _).next
   rw[dA,g _ a,bK rfl]
  ·show c _=((n.dY i M).x (1-i)).next
   rw[f,g _ a,aU aj];exact h.ct _ a
theorem fH.add{bG:Nat}{n:Net}(h:fH bG n)(l:List (Nat×Nat×List Fr))(hl:∀y∈l,y.1<2/\Hw bG (n.x (1-y.1)) (n.x y.1) y.2):fH bG {n with dN:=n.dN++l}:=
 ⟨h.loc,h.two,h.bd,h.mt,h.ct,fun y a=>(lg.1 a).elim (h.dN y) (hl y)⟩
theorem fH.sub{bG:Nat}{n:Net}(h:fH bG n)(l:List (Nat×Nat×List Fr))(hl:∀y∈l,y∈n.dN)(t:Nat):fH bG {n with dN:=l,now:=t}:=
 ⟨h.loc,h.two,h.bd,h.mt,h.ct,fun y a=>h.dN y (hl y a)⟩
def Net.new(bG aO aX:Nat):Net:=⟨fun _=>av.new bG aO aX,[],0,fun _=>0⟩
theorem JZ(bG aO aX:Nat)(a:64<=bG/\bG<=400)(b:aO<=4096)(ht:aX<=4096):fH bG (Net.new bG aO aX):=
 ⟨fun _ _=>Yt bG aO aX (by unfold dK;omega) (by unfold dK;omega),fun _ _=>Yu bG aO aX,fun _ _=>qbk bG aO aX a b ht,fun _ _=>rfl,fun _ _=>rfl,fun y c=>by cases c⟩
theorem Fv(n:Nat):1<=(Num.ay n).length:=by rw[Num.gy];exact Nat.one_le_two_pow
theorem J2(rs:bW):∀k,k<=(iI rs k).length
 |0=>qy _
 |k+1=>by rw[iI,qx,qx];have:=J2 rs k;have:=Fv ((rs.getD k (0,0)).1-(rs.getD (k+1) (0,0)).2-2);omega
theorem qca(f:Fr)(h:f.aC=2):f.ranges.length<=(bD f).length:=by
 have e:bD f=[]++[UInt8.ofNat 2]++gK f.ranges:=by unfold bD dJ;rw[aU aj,bK h];rfl
 rw[e];unfold gK jV;have:=J2 f.ranges (f.ranges.length-1);have:=Fv (f.ranges.getD 0 (0,0)).2;simp only[qx];omega
theorem OO:∀(l:List Fr) (f:Fr),f∈l->(bD f).length<=Fj l
 |g::t,f,h=>by
  have e:Fj (g::t)=(bD g).length+Fj t:=by simp[Fj]
  rcases mE.1 h with rfl|h;·omega
  ·have:=OO t f h;omega
theorem Hw.rT{bG:Nat}{A B:av}{y:Nat×List Fr}(h:Hw bG A B y)(d:bG<=400):∀f∈y.2,f.aC=2->f.ranges.length<=1000000:=fun f b k=>by have h1:=qca f k;have c:=OO _ f b;have a:=h.sz;rw[rM,vM]at a;omega
theorem qcb{A B:av}(g:fE A)(hB:fE B)(h1:dO A B)(c:dO B A)(b:Bd B){f:Fr}(a:lJ B A f)(hl:f.aC=2->f.ranges.length<=1000000):FrC A f:=by
 refine⟨a.kd,fun k=>?_,fun k=>?_,fun k=>?_,fun k=>(A_ g hB h1 c f a).1⟩
 ·rcases a with⟨_,p,q⟩|⟨e,_⟩|⟨e,_⟩|⟨e,_⟩;·exact⟨List.length_pos_iff.2 p,hl k,q⟩
  ·omega
  ·omega
  ·omega
 ·rcases a with⟨e,_⟩|⟨_,p,q,_⟩|⟨e,_⟩|⟨_,p,q,_⟩;·omega
  ·exact⟨p,q⟩
  ·omega
  ·exact⟨p,q⟩
 ·rcases a with⟨e,_⟩|⟨_,p,q,d⟩|⟨e,_⟩|⟨e,_⟩;·omega
  ·exact nP d.b (b.o _).b
  ·omega
  ·omega
theorem Fw:∀(fs:List Fr) {A B A':av},fE A->fE B->dO A B->dO B A->Bd A->Bd B->(∀f∈fs,lJ B A f)->mW A fs A'->tu A B A'/\Bd A'/\A'.next=A.next
 |[],A,B,A',hA,hB,h1,h2,bA,bB,_,h=>by cases h;exact⟨kg hA h1 h2,bA,rfl⟩
 |f::t,A,B,A',hA,hB,h1,h2,bA,bB,hf,h=>by obtain⟨d,r,h⟩:=h;obtain⟨_,s,b,n,m⟩:=xU hA hB h1 h2 bA bB f (hf f aP) r;obtain⟨c,b2,n2⟩:=Fw t s.loc hB s.ab s.ba b bB (fun g a=>(hf g (by simp[a])).mono (Au.refl _) s.le) h;exact⟨s.trans c,b2,n2.trans n⟩
theorem qeq{bG:Nat}{A B:av}(l:fE A)(hB:fE B)(h1:dO A B)(k:dO B A)(a:Bd A)(i:Bd B){y:Nat×List Fr}(h:Hw bG B A y)(o:B.next<=dK)(e:A.next<=dK)(f:bG<=400):∀c j,j<y.2.length->mW {A with aM:=A.aM.add 8 y.1 y.1,aT:=A.aT||eO y.2} (y.2.take j) c->FrC c (y.2.getD j iM)/\Bd c/\c.next<=dK:=by
 intro c j n ht;have s:=xO l h1 k y.1 h.lt (A.aT||eO y.2);obtain⟨d,b2,n2⟩:=Fw (y.2.take j) s.loc hB s.ab s.ba (A:={A with aM:=A.aM.add 8 y.1 y.1,aT:=A.aT||eO y.2})
  ⟨a.o,a.i,a.g,a.lm,a.mt,a.wy,a.ls,a.ky,a.wl,a.ll,a.nm,Ba a.cm y.1 (bV h.lt),a.tk⟩ i (fun g m=>(h.fr g (tO m)).mono (Au.refl _) s.le) ht
 have b:y.2.getD j iM∈y.2:=by rw[j3,nA n];exact Bf _
 exact⟨qcb d.loc hB d.ab d.ba i ((h.fr _ b).mono (Au.refl _) (s.trans d).le) (h.rT f _ b),b2,by rw[n2];exact e⟩
section
def Iu(W:World)(g n:Nat):Prop:=∃C fr,W.heap[g]?=some (.cells C 5 fr)/\n<=C.size/\(n<=fr.1\/fr.2=0)
theorem Iu.lt{W:World}{g n:Nat}(h:Iu W g n):g<W.heap.size:=by obtain⟨C,fr,h1,_⟩:=h;exact(Array.getElem?_eq_some_iff.1 h1).1
theorem Iu.of_heap{W a:World}{g n:Nat}(h:Iu W g n)(e:a.heap[g]?=W.heap[g]?):Iu a g n:=by obtain⟨C,fr,h1,b⟩:=h;exact⟨C,fr,e.trans h1,b⟩
theorem Iu.cell{W:World}{g n:Nat}(h:Iu W g n)(j:Nat)(c:j<n):(∃v,W.cell? (aB g j)=some v)/\W.frozen? (aB g j)=false:=by
 obtain⟨C,fr,h1,a,b⟩:=h;refine⟨⟨C[j]'aj,?_⟩,?_⟩;·simp only[Gy,h1];exact yP aj
 ·simp only[World.frozen?,h1];simp;omega
theorem Iu.set{W:World}{g n:Nat}(h:Iu W g n)(j:Nat)(v:Value):Iu (W.setCell (aB g j) v) g n:=by obtain⟨C,fr,h1,a,b⟩:=h;refine⟨C.setIfInBounds j v,fr,?_,by rw[Array.size_setIfInBounds];exact a,b⟩;simp[World.setCell,Array.getElem?_modify,h1]
theorem um(w:World)(s:ByteArray)(hs:s.size<=1000000000):∃c e,(convert 9 60 (.string s)).run prog w=.ok (dP w.heap.size s.size c) e/\s.size<=c/\c<=9223372036854775807/\bJ w e/\dV e (some (aB w.heap.size 0)) s.data.toList/\Iu e w.heap.size s.size:=by
 have h:=run_bytes_of_string (P:=prog) w 9 60 5 s u9 u29 bH;have gQ:s.data.size=s.size:=rfl;have f:=grownCap_ge w s.size 0 5;have a:(w.drew.alloc (.cells (bytesRow s (grownCap w s.size 0 5)) 5 ((bytesRow s (grownCap w s.size 0 5)).size,(bytesRow s (grownCap w s.size 0 5)).size+1))).heap[w.heap.size]?=some (.cells (bytesRow s (grownCap w s.size 0 5)) 5 ((bytesRow s (grownCap w s.size 0 5)).size,(bytesRow s (grownCap w s.size 0 5)).size+1)):=by show(w.heap.push _)[w.heap.size]?=_;simp
 have b:s.size<=(bytesRow s (grownCap w s.size 0 5)).size:=by unfold bytesRow;rw[Array.size_append,Array.size_map,gQ];omega
 refine⟨_,_,h,f,grownCap_le_maxLen w s.size 0 5 (by unfold maxLen;omega),((Ht _ w).drew).alloc (eT _) _,fun j g=>⟨_,0,rfl,?_⟩,⟨_,_,a,b,.inl b⟩⟩;have d:j<s.data.size:=by simpa using g
 rw[Bu];simp only[Gy,a];unfold bytesRow;rw[Array.getElem?_append_left (by simpa using d)];simp only[Array.getElem?_map,yP d,FU,Array.getElem_toList];rfl
def SS(oZ:Own)(s:Nat)(w:World)(S bw bl bi n:Nat)(M':av)(y:World):Prop:=
 ∃gu l2 a,fP gu s y S l2 M' bw bl bi a/\gu w.heap.size=0/\Iu y w.heap.size n/\Kp (T0 s) oZ gu w y
section
variable {oZ:Own} {s:Nat} {w:World} {S bw bl bi n:Nat} {M':av} {y:World}
theorem SS.set(h:SS oZ s w S bw bl bi n M' y)(j:Nat)(v:Value):SS oZ s w S bw bl bi n M' (y.setCell (aB w.heap.size j) v):=by obtain⟨o,l2,i,h1,d,f,c⟩:=h;have K:Kp [0] o o y (y.setCell (aB w.heap.size j) v):=Kp.set o y _ v [0] (by rw[d];simp);have hs:=h1.s0;exact⟨o,l2,i,h1.kp K (fun x a b e=>by simp at e;omega),d,f.set j v,⟨c.os,c.tape,c.output,by simpa using c.size,fun b hb g=>(uj _ _ _ _ (by simp;omega)).trans (c.cZ b hb g),c.ext⟩⟩
theorem SS.step{c:av}{y':World}(h:SS oZ s w S bw bl bi n M' y)(k:∀d l1 g,fP d s y S l1 M' bw bl bi g->jC s d y S bw bl bi c y'):SS oZ s w S bw bl bi n c y':=by obtain⟨o,l1,m,h1,f,b,j⟩:=h;obtain⟨l,l2,p,i,a⟩:=k o l1 m h1;have hs:=h1.s0;exact⟨l,l2,p,i,by rw[a.ext _ b.lt,f],b.of_heap (a.cZ _ b.lt (by rw[f];exact fun e=>bV (fG.1 e))),j.trans a⟩
theorem SS.below{y':World}(h:SS oZ s w S bw bl bi n M' y)(hb:bJ y y'):SS oZ s w S bw bl bi n M' y':=h.step fun _ _ _ g=>jC.refl g hb
theorem SS.err(h:SS oZ s w S bw bl bi n M' y)(a:iE w)(b:oZ 0∉T0 s):iE y:=by obtain⟨o,l1,f,h1,d,e,c⟩:=h;exact cell_of a (c.cZ 0 (og w (aB 0 0) (by unfold iE at a;rw[a])) b)
theorem SS.q(h:SS oZ s w S bw bl bi n M' y):jC s oZ w S bw bl bi M' y:=by obtain⟨o,l1,b,h1,c,d,a⟩:=h;exact⟨o,l1,b,h1,a⟩
end

theorem M5{oZ:Own}{s:Nat}{w W:World}{S bw bl bi n:Nat}{l:bO}{M:av}{vc:Value}(h:fP oZ s w S l M bw bl bi vc)(hb:bJ w W)(b:Iu W w.heap.size n):SS oZ s w S bw bl bi n M W:=by have K:Kp [] oZ (loc oZ w.heap.size) w W:=⟨hb.os,hb.tape,hb.output,hb.size,fun x a _=>hb.block x a,fun x a=>jv _ _ _ a⟩;exact⟨_,l,vc,h.kp K aP,iX _ _ _ (eT _),b,K.mono aP⟩
theorem Y9(oZ:Own)(s:Nat)(C S:Nat)(l:bO)(M:av)(bw bl bi:Nat)(vc:Value)(k:Nat)(X:k<8)(data:ByteArray)(hd:data.size<=1000000000)(w:World)(h:fP oZ s w S l M bw bl bi vc)(E:w.cell? (aB C 0)=some (aI S 0))(Q:M.mJ=0)(hl:(M.out k).ay.length<=2048)(L:iE w)(J:oZ 0∉T0 s):Calls prog 34 #[aI C 0,iZ k,.string data] w fun e w'=>e=.returned (iZ (((M.out k).send data.data.toList).2:Int))/\jC s oZ w S bw bl bi (M.dD k ((M.out k).send data.data.toList).1) w':=by
 obtain⟨cp,W,V,N,O,d,m,t⟩:=um w data hd;have D:C<w.heap.size:=og w (aB C 0) (by rw[E]);have c:=M5 h d t;have a:data.data.toList.length=data.size:=aP;obtain⟨g,b⟩:=bZ (M.dD k ((M.out k).send data.data.toList).1);have H:Hid (Calls prog 61 #[aI C 0,iZ k,dP w.heap.size data.size cp] W fun e w1=>∃x,e=.returned x/\x=rz ((M.out k).send data.data.toList).2/\SS oZ s w S bw bl bi data.size g w1):=by refine Y6 C S W (cell_of E (d.block _ D)) k _ (fun x w1=>x=rz ((M.out k).send data.data.toList).2/\SS oZ s w S bw bl bi data.size g w1) ?_;have Z:=c;obtain⟨o,l1,R,h1,B,i,K⟩:=c;have:=Ym o s S l1 M bw bl bi R k X data.data.toList (aB w.heap.size 0) cp W h1 Q hl m (by rw[a];exact hd);rw[a]at this;refine bN this ?_;rintro w1 q;refine⟨_,rfl,rfl,?_⟩;obtain⟨Y,l2,v2,U,A⟩:=q;have hs:=h1.s0;rw[b];exact⟨Y,l2,v2,U,by rw[A.ext _ i.lt,B],i.of_heap (A.cZ _ i.lt (by rw[B];exact fun e=>bV (fG.1 e))),K.trans A⟩
 have I:Hid (∀w1,SS oZ s w S bw bl bi data.size g w1->Calls prog 60 #[rz ((M.out k).send data.data.toList).2] w1 fun r G=>r=.returned (iZ (((M.out k).send data.data.toList).2:Int))/\SS oZ s w S bw bl bi data.size g G):=fun w1 hq=>by refine bN (CY _ (Y8 _ _) w1 (hq.err L J)) ?_;rintro G hb;exact⟨rfl,hq.below hb⟩
 rw[<-b];clear h E Q hl L J c d m t b a;generalize ((M.out k).send data.data.toList).2=en at *
 generalize data.size=n at *
 go_enter func34,ntmps34;go_wp2_with (first|(go_at_call 61;refine H.out.mono ?_;rintro e w1 ⟨x,rfl,rfl,hq⟩)|(go_at_call 60;refine bN (I.out _ hq) ?_;rintro G p;have f:=aG p;clear p));clear H I hq;go_loopw [19] (fun u wr=>∃j:Nat,j<=n/\u=(iZ j)/\Hid (SS oZ s w S bw bl bi n g wr)) (fun u _=>n-(nV u).toNat);case atStart=>exact⟨0,qy _,rfl,f⟩
 case round=>
  obtain⟨j,hj,rfl,z⟩:=hrel;clear f;by_cases F:j<n
  ·have P:(j:Int)<(n:Int):=aj;obtain⟨⟨v,e1⟩,e2⟩:(∃v,wr.cell? (aB w.heap.size j)=some v)/\wr.frozen? (aB w.heap.size j)=false:=by
    obtain⟨o,l1,R,h1,B,i,K⟩:=z.out;exact i.cell j F
   have T:=aG (z.out.set j (.int .u8 33));go_wp2;go_roundw;case rel=>exact⟨j+1,aj,aP,T⟩
   case measure=>simp[nV];omega
  ·obtain rfl:j=n:=aj;go_wp2;go_ret;exact⟨rfl,z.out.q⟩
end
section
theorem VG(w:World):(convert 60 9 nZ).run prog w=.ok (.string ⟨#[]⟩) w:=bH
def SR(oZ:Own)(s:Nat)(w:World)(S bw bl bi g n:Nat)(M':av)(y:World):Prop:=
 ∃gu l2 a,fP gu s y S l2 M' bw bl bi a/\gu g=0/\Iu y g n/\w.heap.size<=g/\Kp (T0 s) oZ gu w y
section
variable {oZ:Own} {s:Nat} {w:World} {S bw bl bi g n:Nat} {M':av} {y:World}
theorem SR.set(h:SR oZ s w S bw bl bi g n M' y)(j:Nat)(v:Value):SR oZ s w S bw bl bi g n M' (y.setCell (aB g j) v):=by obtain⟨o,l2,l,h1,d,f,i,c⟩:=h;have K:Kp [0] o o y (y.setCell (aB g j) v):=Kp.set o y _ v [0] (by rw[d];simp);have hs:=h1.s0;exact⟨o,l2,l,h1.kp K (fun x a b e=>by simp at e;omega),d,f.set j v,i,⟨c.os,c.tape,c.output,by simpa using c.size,fun b hb k=>(uj _ _ _ _ (by simp;omega)).trans (c.cZ b hb k),c.ext⟩⟩
theorem SR.q(h:SR oZ s w S bw bl bi g n M' y):jC s oZ w S bw bl bi M' y:=by obtain⟨o,l1,b,h1,c,d,e,a⟩:=h;exact⟨o,l1,b,h1,a⟩
end
theorem C9{oZ:Own}{s:Nat}{w:World}{S bw bl bi:Nat}{M':av}(w1:World)(hq:jC s oZ w S bw bl bi M' w1):Calls prog 60 #[.nilIface] w1 fun r d=>r=.returned (iZ 0)/\jC s oZ w S bw bl bi M' d:=by obtain⟨o1,l1,c,a,b⟩:=hq;refine bN (zx .nilIface 0 (-1) w1 _ (xX w1)) ?_;rintro w' hb;exact⟨rfl,o1,l1,c,a.below hb,b.iW hb⟩
theorem Za(oZ:Own)(s:Nat)(C S:Nat)(l:bO)(M:av)(bw bl bi:Nat)(vc:Value)(k:Nat)(hk:k<8)(bf:Int)(w:World)(h:fP oZ s w S l M bw bl bi vc)(U:w.cell? (aB C 0)=some (aI S 0))(Y:M.mJ=0)(A:Eh (M.bF k)):Calls prog 58 #[aI C 0,iZ k,iZ bf] w fun e w'=>e=.returned (.tuple #[.string ⟨((M.bF k).rd bf).1.toArray⟩,(iZ (((M.bF k).rd bf).2.state:Int)),iZ 0])/\jC s oZ w S bw bl bi (M.eG k ((M.bF k).rd bf).2) w':=by
 have t:((M.bF k).rd bf).1.length<=2048:=by have:=A.l;show((M.bF k).bU.take _).length<=2048;rw[nI];omega
 have m:Hid (Calls prog 106 #[aI C 0,iZ k,iZ bf] w fun e w1=>∃x y z,e=.returned (.tuple #[x,y,z])/\∃a c,(x=.slice a ((M.bF k).rd bf).1.length c/\y=(iZ (((M.bF k).rd bf).2.state:Int))/\z=.nilIface)/\Hid (eX 5 1 w1 (.slice a ((M.bF k).rd bf).1.length c) ((M.bF k).rd bf).1.length (cB ((M.bF k).rd bf).1)/\ni w.heap.size (.slice a ((M.bF k).rd bf).1.length c)/\Vz s oZ w S bw bl bi (M.eG k ((M.bF k).rd bf).2) w1 (.slice a ((M.bF k).rd bf).1.length c))):=by refine Y7 C S w U k bf (fun x y z w1=>∃a c,(x=.slice a ((M.bF k).rd bf).1.length c/\y=(iZ (((M.bF k).rd bf).2.state:Int))/\z=.nilIface)/\Hid (eX 5 1 w1 (.slice a ((M.bF k).rd bf).1.length c) ((M.bF k).rd bf).1.length (cB ((M.bF k).rd bf).1)/\ni w.heap.size (.slice a ((M.bF k).rd bf).1.length c)/\Vz s oZ w S bw bl bi (M.eG k ((M.bF k).rd bf).2) w1 (.slice a ((M.bF k).rd bf).1.length c))) ?_;refine(VF oZ s S l M bw bl bi vc k hk bf w h Y A.ok (by have:=A.l;unfold dK;omega)).mono ?_;rintro e w1 ⟨a,c,rfl,h1,T,K⟩;exact⟨_,_,_,rfl,a,c,⟨rfl,rfl,rfl⟩,h1,T,K⟩
 clear h U Y A;generalize (M.bF k).rd bf=X at *
 obtain⟨bs,i2⟩:=X;simp only at m t ⊢;generalize L:M.eG k i2=H at *
 clear L;obtain⟨n,i⟩:=bZ bs.length;rw[<-i]at m t;have E:=aG i;clear i;go_enter func58,ntmps58;go_wp2_with (go_at_call 106;refine m.out.mono ?_;rintro e w1 ⟨x,y,z,rfl,a,c,⟨rfl,rfl,rfl⟩,D⟩);obtain⟨hG,hF,u⟩:=D.out;rcases hG with⟨p,en,_⟩|⟨g,cap,cs,p,hB,hcl,hc1,hc2,hc3,hc4,_⟩
 ·have N:bs=[]:=sF.1 (by rw[<-E.out];exact en);subst N;simp only[Value.slice.injEq]at p;obtain⟨rfl,rfl,rfl⟩:=p;have b:=VG;have F:Hid (Calls prog 60 #[.nilIface] w1 fun r Q=>r=.returned (iZ 0)/\jC s oZ w S bw bl bi H Q):=by
   obtain⟨o1,l1,B,I,J,_⟩:=u;exact C9 w1 ⟨o1,l1,B,I,J⟩
  clear D hF u m E;go_wp2;refine wp_loop_rounds 1 ?_;rw[rounds_succ];go_wp2_with (go_at_call 60;refine bN F.out ?_;rintro Q d);go_ret3
  exact⟨rfl,d⟩
 ·simp only[Value.slice.injEq]at p;obtain⟨rfl,_,rfl⟩:=p;have i:=E.out;have q:w.heap.size<=g:=hF g rfl;have b:=run_convert_bytes_back (P:=prog) w1 60 9 5 (aB g 0) c bs u29 bH u9 (fun j V=>by
   rw[Addr.add_lit,Bu,hB.cell];have:(cs.take (n*1))[j]?=(cB bs)[j]?:=by rw[hc4]
   rw[xB,bK aj]at this;rw[this];simp[cB,V])
  rw[<-i]at b;have R:Hid (SR oZ s w S bw bl bi g n H w1):=by obtain⟨o1,l1,B,I,J,g3⟩:=u;exact⟨o1,l1,B,I,g3 g rfl,⟨cs.toArray,(0,0),hB,by simp;omega,.inr rfl⟩,q,J⟩
  clear D hF u m hB hcl hc1 hc2 hc3 hc4 i q;rw[b];go_simp;go_wp2;go_loopw [26] (fun f wr=>∃j:Nat,j<=n/\f=(iZ j)/\Hid (SR oZ s w S bw bl bi g n H wr)) (fun f _=>n-(nV f).toNat);case atStart=>exact⟨0,qy _,rfl,R⟩
  case round=>
   obtain⟨j,V,rfl,G⟩:=hrel;clear R b;by_cases O:j<n
   ·have W:(j:Int)<(n:Int):=aj;obtain⟨⟨v,e1⟩,e2⟩:(∃v,wr.cell? (aB g j)=some v)/\wr.frozen? (aB g j)=false:=by
     obtain⟨o,l1,B,h1,T,K,h4⟩:=G.out;exact K.cell j O
    have Z:=aG (G.out.set j (.int .u8 33));go_wp2;go_roundw;case rel=>exact⟨j+1,aj,aP,Z⟩
    case measure=>simp[nV];omega
   ·obtain rfl:j=n:=aj;have F:=aG (C9 wr G.out.q);go_wp2_with (go_at_call 60;refine bN F.out ?_;rintro Q d);go_ret3
    exact⟨rfl,d⟩
end
section
theorem qgu:I9 53 9 (.string ⟨#[]⟩) 1 16:=⟨bH,bH,fun n=>by simp[Builtin.zeroCells,Value.cells],fun n v a=>by simp[Builtin.zeroCells,Value.cells]at a;obtain⟨i,_,rfl⟩:=a;have:i % 1=0:=aj;rw[this];rfl,aj⟩
def sV(b:List UInt8):Value:=.string ⟨b.toArray⟩
def Tq(s t:Nat):List Nat:=t::List.range' s 60
theorem Dp{s t x:Nat}:x∈Tq s t↔x=t\/(s<=x/\x<s+60):=by
 unfold Tq;rw[mE,List.mem_range'];constructor
 ·rintro(h|⟨i,hi,rfl⟩);·exact .inl h
  ·exact .inr aj
 ·rintro(h|h);·exact .inl h
  ·exact .inr ⟨x-s,aj,aj⟩
structure PlS (fJ:Own) (s t:Nat) (w0:World) (S bw bl bi:Nat) (M':av) (vl:Value) (vs:bO) (bs:List (List UInt8)) (j:Nat) (v3:Value) (oZ:Own) (w:World):Prop where
 sd:∃l vc,fP oZ s w S l M' bw bl bi vc
 gd:Gd oZ w
 li:GT oZ (s+52) 60 1 w vl vs.length vs
 ln:vs.length=bs.length
 ps:∀i,j<=i->i<vs.length->kL w (vs.getD i undef) (bs.getD i [])/\∀k,(vs.getD i undef).ownBlock=some k->oZ k=s+47/\k<w.heap.size
 dj:Dj vs
 st:GT oZ t 9 1 w v3 j ((bs.take j).map sV)
 kp:Kp (Tq s t) fJ oZ w0 w
section
variable {fJ:Own} {s t:Nat} {w0:World} {S bw bl bi:Nat} {M':av} {vl:Value} {vs:bO} {bs:List (List UInt8)} {j:Nat} {v3:Value} {oZ:Own} {w:World}
theorem PlS.app(h:PlS fJ s t w0 S bw bl bi M' vl vs bs j v3 oZ w)(ht:0<t/\(t<s\/s+60<=t))(B:j<vs.length)(L:vs.length<=1000000):∃m c f,(∀J,(Builtin.append_ #[53,53] J #[v3,dP w.heap.size 1 1]).run prog (w.alloc (.cells #[sV (bs.getD j [])] 9))=.ok m c)/\PlS fJ s t w0 S bw bl bi M' vl vs bs (j+1) m f c/\(kL c (vs.getD j undef) (bs.getD j [])/\∀k,(vs.getD j undef).ownBlock=some k->f k=s+47/\k<c.heap.size):=by
 obtain⟨l,vc,G⟩:=h.sd;have o:bJ w (w.alloc (.cells #[sV (bs.getD j [])] 9)):=(Ht _ w).alloc (eT _) _;have C:aS (w.alloc (.cells #[sV (bs.getD j [])] 9)) w.heap.size 9 [sV (bs.getD j [])]:=aS.new w 9 _;have A:Kp [] oZ oZ w (w.alloc (.cells #[sV (bs.getD j [])] 9)):=Kp.below o;obtain⟨m,c,f,run,F,D⟩:=gq qgu (n:=j) (h.st.kp A aP) (aB w.heap.size 0) 1 1 [sV (bs.getD j [])] rfl (fun z hz=>by rw[mY.1 hz];rfl) (fun i y I=>by
  have e:(aB w.heap.size 0).add i=(aB w.heap.size i):=by rw[Addr.add_lit,Bu]
  rw[e,C.cell,I]) aj
 have K:Kp [t] oZ f w c:=(A.mono aP).trans D;have r:bs.take (j+1)=bs.take j++[bs.getD j []]:=by
  have u:j<bs.length:=by rw[<-h.ln];exact B
  rw[List.take_add_one,j3,nA u];rfl
 have P:∀i,j<=i->i<vs.length->kL c (vs.getD i undef) (bs.getD i [])/\∀k,(vs.getD i undef).ownBlock=some k->f k=s+47/\k<c.heap.size:=fun i hi d=>by
  obtain⟨p,q⟩:=h.ps i hi d;refine⟨?_,fun k v=>⟨by rw[K.ext k (q k v).2,(q k v).1],xQ (q k v).2 K.size⟩⟩;rcases p with p|⟨g,cap,cs,e,hB,E⟩;·exact .inl p
  ·exact .inr ⟨g,cap,cs,e,cO hB K (by rw[(q g (by rw[e];rfl)).1];simp;omega),E⟩
 refine⟨m,c,f,run,⟨⟨l,vc,G.kp K (fun x a b e=>by simp at e;omega)⟩,h.gd.kp K (by simp;omega),h.li.kp K (by simp;omega),h.ln,fun i hi d=>P i aj d,h.dj,?_,h.kp.trans (K.mono fun x H=>Dp.2 (.inl (by simpa using H)))⟩,P j (eT _) B⟩;rw[r,List.map_append];exact F
theorem PlS.set(h:PlS fJ s t w0 S bw bl bi M' vl vs bs (j+1) v3 oZ w)(ht:0<t/\(t<s\/s+60<=t))(g:Nat)(u:(vs.getD j undef).ownBlock=some g)(y:oZ g=s+47)(i:Nat)(v:Value):PlS fJ s t w0 S bw bl bi M' vl vs bs (j+1) v3 oZ (w.setCell (aB g i) v):=by
 obtain⟨l,vc,r⟩:=h.sd;have K:Kp [s+47] oZ oZ w (w.setCell (aB g i) v):=Kp.set oZ w _ v [s+47] (by rw[y];simp);refine⟨⟨l,vc,r.kp K (fun x a b e=>by simp at e;omega)⟩,h.gd.kp K aP,h.li.kp K aP,h.ln,fun i2 hi c=>?_,h.dj,h.st.kp K (by simp;omega),h.kp.trans (K.mono fun x z=>Dp.2 (.inr (by simp at z;omega)))⟩;obtain⟨p,q⟩:=h.ps i2 hi c;refine⟨?_,fun k m=>⟨(q k m).1,by simpa using(q k m).2⟩⟩;rcases p with p|⟨f,cap,cs,e,hB,o⟩;·exact .inl p
 ·refine .inr ⟨f,cap,cs,e,?_,o⟩;have d:f≠g:=fun n=>h.dj j i2 aj c g u (by rw[e,<-n];rfl);exact hB.of_heap (uj _ _ _ _ (by simpa using d))
end


def PkT(oZ:Own)(s:Nat)(w:World)(S bw bl bi:Nat)(a:av->List (List UInt8)->Prop)(x:Value)(w1:World):Prop:=
 ∃M' bs vs aY l' b,a M' bs/\fP aY s w1 S l' M' bw bl bi b/\Gd aY w1/\GT aY (s+52) 60 1 w1 x vs.length vs/\VR aY s w1 vs bs/\Kp (Tb s) oZ aY w w1
def PlT(oZ:Own)(s t:Nat)(w:World)(S bw bl bi:Nat)(a:av->List (List UInt8)->Prop)(x:Value)(w1:World):Prop:=
 ∃M' bs aY l' b,a M' bs/\fP aY s w1 S l' M' bw bl bi b/\Gd aY w1/\GT aY t 9 1 w1 x bs.length (bs.map sV)/\Kp (Tq s t) oZ aY w w1
theorem jk{oZ:Own}{t:Nat}{e:TypeId}{k:Nat}{w:World}{v:Value}{n:Nat}{l:bO}(h:GT oZ t e k w v n l):∃a c,v=.slice a n c:=by rcases h with⟨rfl,rfl,_⟩|⟨g,cap,cs,rfl,_⟩<;>exact⟨_,_,rfl⟩
theorem J5(oZ:Own)(s t:Nat)(C S:Nat)(bw bl bi:Nat)(w:World)(hs:0<s)(ht:0<t/\(t<s\/s+60<=t))(K:av->List (List UInt8)->Prop)(E:∀M' bs,K M' bs->bs.length<=1000/\∀j,j<bs.length->bs.getD j []≠[]/\(bs.getD j []).length<=1000000)(hR:Calls prog 68 #[aI C 0] w fun e w1=>∃x,e=.returned x/\PkT oZ s w S bw bl bi K x w1):Calls prog 40 #[aI C 0] w fun e w'=>∃x,e=.returned x/\PlT oZ s t w S bw bl bi K x w':=by
 have HC:Hid (Calls prog 68 #[aI C 0] w fun e w1=>∃a n c,e=.returned (.slice a n c)/\Hid (∃M' bs vs aY,n=vs.length/\K M' bs/\PlS oZ s t w S bw bl bi M' (.slice a n c) vs bs 0 nZ aY w1)):=by refine hR.mono ?_;rintro e w1 ⟨x,rfl,M',bs,vs,aY,l',jQ,h1,h2,h3,h4,N,h6⟩;obtain⟨a,c,rfl⟩:=jk h4;exact⟨a,_,c,rfl,M',bs,vs,aY,rfl,h1,⟨l',jQ,h2⟩,h3,h4,N.1,fun i _ hi=>N.2.1 i hi,N.2.2,.inl ⟨rfl,rfl,rfl⟩,h6.mono fun x hx=>Dp.2 (.inr (ji.1 hx).1)⟩
 have HN:=aG E;have HT:=aG ht;have SH:=aG hs;clear hR E ht hs;go_enter func40,ntmps40;go_wp2_with (go_at_call 68;refine HC.out.mono ?_;rintro e w1 ⟨a,n,c,rfl,Z⟩);clear HC;obtain⟨M',bs,vs,eZ,hn,Q,O⟩:=Z.out;have HM:=aG Q;have q:=aG O;have HL:=aG hn;obtain⟨g1,b⟩:=HN.out M' bs Q;have A:=O.ln;have n4:n<=1000:=aj;have HG:=aG b;clear Q O hn Z g1 b A;go_loopw [3,10] (fun s3 o wr=>∃j:Nat,j<=n/\o=(iZ j)/\Hid (∃gu,PlS oZ s t w S bw bl bi M' (.slice a n c) vs bs j s3 gu wr)) (fun _ o _=>n-(nV o).toNat);case atStart=>exact⟨0,qy _,rfl,eZ,q.out⟩
 case round=>
  obtain⟨j,hj,rfl,L⟩:=hrel;clear q;by_cases h8:j<n
  ·have h7:(j:Int)<(n:Int):=aj;obtain⟨gu,d⟩:=L.out;have m:j<vs.length:=bV HL.out;have U:j<bs.length:=bV d.ln;obtain⟨z,R⟩:=HG.out j U;obtain⟨V,W⟩:=d.ps j (eT _) m;have M:=d.li;rcases M with⟨e1,e2,_⟩|⟨g,cap,cs,ea,ho,hB,hc1,hc2,hc3,hc4,JY,_⟩;·omega
   simp only[Value.slice.injEq]at ea;obtain⟨rfl,en,rfl⟩:=ea;rcases V with⟨_,h0⟩|⟨b,cp,cs2,ev,hB2,k1,k2,k3,k4,k5⟩;·exact absurd h0 z
   have k:wr.cell? (aB g j)=some (dP b (bs.getD j []).length cp):=by
    rw[hB.cell];have:(cs.take (vs.length*1))[j]?=vs[j]?:=by rw[JY]
    rw[xB,bK aj]at this;rw[this,<-ev,j3,nA m];rfl
   have T:=run_convert_bytes_back (P:=prog) wr 60 9 5 (aB b 0) cp (bs.getD j []) u29 bH u9 (fun i hi=>by
    rw[Addr.add_lit,Bu,hB2.cell];have:(cs2.take (bs.getD j []).length)[i]?=(cB (bs.getD j []))[i]?:=by rw[k4]
    rw[xB,bK hi]at this;rw[this];generalize bs.getD j []=B at hi ⊢;simp[cB,hi])
   obtain⟨v6,Y,X,run,u,G,H⟩:=d.app HT.out m aj;obtain⟨o6,_⟩:=H b (by rw[ev];rfl);have F:(vs.getD j undef).ownBlock=some b:=by rw[ev];rfl
   have y:Iu Y b (bs.getD j []).length:=by
    rcases G with⟨e,_⟩|⟨g3,cp3,cs3,ev3,hB3,q1,q2,_⟩;·rw[ev]at e;cases e
    ·rw[ev]at ev3;simp only[Value.slice.injEq,Option.some.injEq,Addr.mk.injEq]at ev3;obtain⟨⟨rfl,_,_⟩,_,rfl⟩:=ev3;exact⟨cs3.toArray,(0,0),hB3,by rw[Ev];omega,.inr rfl⟩
   have h:Hid (PlS oZ s t w S bw bl bi M' (dP g n c) vs bs (j+1) v6 X Y/\Iu Y b (bs.getD j []).length):=⟨u,y⟩;have r:=aG (dB F o6);simp only[sV]at run;clear en d u y G H o6 F hB hB2 k1 k2 k3 k4 k5 ev W ho hc1 hc2 hc3 hc4 JY L z;generalize bs.getD j []=B at *
   obtain⟨n2,D⟩:=bZ B.length;rw[<-D]at k T h R;clear D;go_wp2_with (first|(at_builtin;refine Lib.wpList_append_run _ rfl _ _ _ _ rfl _ _ rfl rfl _ _ (run _) ?_)|go_in);go_loopw [21] (fun p J=>∃i:Nat,i<=n2/\p=(iZ i)/\Hid (PlS oZ s t w S bw bl bi M' (dP g n c) vs bs (j+1) v6 X J/\Iu J b n2)) (fun p _=>n2-(nV p).toNat);case atStart=>exact⟨0,qy _,rfl,h⟩
   case round=>
    obtain⟨i,hi,rfl,f⟩:=hrel;clear h;by_cases M:i<n2
    ·have h9:(i:Int)<(n2:Int):=aj;obtain⟨⟨v,e1⟩,e2⟩:=f.out.2.cell i M;have HS:=aG (dB (f.out.1.set HT.out b r.out.1 r.out.2 i (.int .u8 33)) (f.out.2.set i (.int .u8 33)));go_wp2;go_roundw;case rel=>exact⟨i+1,aj,aP,HS⟩
     case measure=>simp[nV];omega
    ·obtain rfl:i=n2:=aj;go_wp2;go_roundw;case rel=>exact⟨j+1,aj,aP,X,f.out.1⟩
     case measure=>simp[nV];omega
  ·obtain rfl:j=n:=aj;go_wp2;go_ret;obtain⟨gu,d⟩:=L.out;obtain⟨l,vc,hS⟩:=d.sd;have hl:=HL.out;have I:=d.st;have A:=d.ln;rw[List.take_of_length_le aj,show j=bs.length by omega]at I;exact⟨_,rfl,M',bs,gu,l,vc,HM.out,hS,d.gd,I,d.kp⟩
theorem Np(oZ:Own)(s t:Nat)(C S:Nat)(l:bO)(M B:av)(bw bl bi:Nat)(vc:Value)(w:World)(h:fP oZ s w S l M bw bl bi vc)(z:w.cell? (aB C 0)=some (aI S 0))(A:Gd oZ w)(ht:0<t/\(t<s\/s+60<=t))(d:fE M)(h1:dO M B)(m:dO B M)(b:Bd M)(p:M.next+24<dK)(f:M.bE<18446744073709551616):Calls prog 40 #[aI C 0] w fun e w'=>∃x,e=.returned x/\PlT oZ s t w S bw bl bi (fun M' bs=>∃pk,M.jS M' pk/\bs=pkB pk) x w':=by
 refine J5 oZ s t C S bw bl bi w h.s0 ht _ ?_ ?_;·rintro M' bs ⟨pk,hp,rfl⟩;have o:=mG d h1 m b p hp;have:=o.next;have:=o.top;unfold pkB;rw[Cr];refine⟨aj,fun j n=>?_⟩;rw[j3,mR,nA n];have q:=(o.ok _ (Bf n)).1.sz;have:=b.mt;simp only[FU,Option.getD_some];have e:(bT pk[j].1 pk[j].2).length=(fK pk[j].1 pk[j].2).length+4:=rM _ _;exact⟨fun v=>by rw[v]at e;simp at e,aj⟩
 ·refine MW C S w z _ ((Nl oZ s S l M bw bl bi vc w h A d.mJ M.gU (PP B (M.next+24)) mu (pkp B _ p) ?_ ?_ ?_).mono ?_);·refine bN (YT oZ s S l M bw bl bi vc w h b f aj) ?_;rintro w' ⟨M1,J,E,l2,K,g,i⟩;exact⟨rfl,M1,E,l2,K,J,g,i⟩
  ·intro gu W l2 M1 k a y;have c:=JE b a;exact Zg gu s S l2 M1 bw bl bi k W y (bV c.cm.ln) (fun r u=>by
    have:=c.cm.hi r u;have:=c.cm.so.le r u;unfold dK at *
    omega)
  ·intro M1 a;obtain⟨p1,p2,L⟩:=yu d h1 m b a;exact⟨p1,p2,aj⟩
  ·rintro e w' ⟨M1,vl,vs,aY,l',D,cu,g,rfl,i,F,G,H,I,N⟩;exact⟨vl,rfl,_,_,vs,aY,l',D,⟨_,⟨M1,g,rfl⟩,rfl⟩,i,F,G,H,I⟩
end
section
structure Ad where
 N:Nat
 xb:Nat
 xc:Nat
 eb:Nat
 ec:Nat
 gb:Nat
 gc:Nat
 nb:Nat
 nc:Nat
 cb:Nat
 cc:Nat
 el:Nat->Nat
 Iw:Nat->Nat
 e:Nat->Nat->Nat
 C:Nat->Nat
 S:Nat->Nat
 bw:Nat->Nat
 bl:Nat->Nat
 bi:Nat->Nat
 bG:Nat
 gN:Nat
 rO:Nat
def Cst(oZ:Own)(w:World)(b j:Nat)(v:Value):Prop:=w.cell? (aB b j)=some v/\180<=oZ b/\oZ b<200
theorem Cst.kp{oZ aY:Own}{w w':World}{b j:Nat}{v:Value}{T:List Nat}(h:Cst oZ w b j v)(K:Kp T oZ aY w w')(d:∀x∈T,¬(180<=x/\x<200)):Cst aY w' b j v:=by have c:b<w.heap.size:=og w (aB b j) (by rw[h.1]);exact⟨cell_of h.1 (K.cZ b c (fun e=>d _ e h.2)),by rw[K.ext b c];exact h.2⟩
def Wh(a:Ad)(now:Nat)(vb:Value):bO:=
 [dP a.xb 2 a.xc,dP a.eb 2 a.ec,dP a.gb 2 a.gc,dP a.nb 2 a.nc,uZ now,iZ a.bG,iZ a.gN,iZ a.rO,vb,dP a.cb 2 a.cc]
def J6(o:Ot)(i:eH):bO:=[.string ⟨o.ay.toArray⟩,.bool o.bn,.bool false,iZ 0,iZ i.aR,iZ i.state]
def ends(n:Net)(i k:Nat):bO:=J6 ((n.x i).out k) ((n.x (1-i)).bF k)
def jy(l:List (Nat×Nat×List Fr)):bO:=l.flatMap fun y=>[iZ y.1,sV (bT y.2.1 y.2.2)]
structure fu (oZ:Own) (w:World) (a:Ad) (n:Net) (vb:Value) (E:Nat->Nat->bO):Prop where
 oP:aS w a.N 48 (Wh a n.now vb)/\oZ a.N=200
 xs:∀i,i<2->Cst oZ w a.xb i (aI (a.C i) 0)
 es:∀i,i<2->Cst oZ w a.eb i (dP (a.el i) 8 (a.Iw i))
 el:∀i k,i<2->k<8->Cst oZ w (a.el i) k (aI (a.e i k) 0)
 en:∀i k,i<2->k<8->aS w (a.e i k) 80 (E i k)/\oZ (a.e i k)=210+8*i+k
 gs:∀i,i<2->Cst oZ w a.gb i nZ
 ct:(∃r,aS w a.cb 43 ((uZ (n.jP 0:Int))::(uZ (n.jP 1:Int))::r))/\oZ a.cb=203
 bg:GT oZ 204 62 2 w vb n.dN.length (jy n.dN)
 sd:∀i,i<2->∃l vc,fP oZ (60*(i+1)) w (a.S i) l (n.x i) (a.bw i) (a.bl i) (a.bi i) vc
 cn:∀i,i<2->w.cell? (aB (a.C i) 0)=some (aI (a.S i) 0)/\oZ (a.C i)=0
 gd:Gd oZ w
 er:iE w
 o0:oZ 0=0
section
variable {oZ aY:Own} {w w':World} {a:Ad} {n n':Net} {vb Hz:Value} {E E':Nat->Nat->bO} {T:List Nat}
theorem fu.qg(h:fu oZ w a n vb E)(K:Kp T oZ aY w w')(d:0∉T)(h1:∀x∈T,¬(180<=x/\x<200))(oP:aS w' a.N 48 (Wh a n'.now Hz))(en:∀i k,i<2->k<8->aS w' (a.e i k) 80 (E' i k))(ct:∃r,aS w' a.cb 43 ((uZ (n'.jP 0:Int))::(uZ (n'.jP 1:Int))::r))(bg:GT aY 204 62 2 w' Hz n'.dN.length (jy n'.dN))(sd:∀i,i<2->∃l vc,fP aY (60*(i+1)) w' (a.S i) l (n'.x i) (a.bw i) (a.bl i) (a.bi i) vc):fu aY w' a n' Hz E':=by
 have hs:=h.gd.sz;refine⟨⟨oP,by rw[K.ext _ h.oP.1.lt];exact h.oP.2⟩,fun i hi=>(h.xs i hi).kp K h1,fun i hi=>(h.es i hi).kp K h1,fun i k hi b=>(h.el i k hi b).kp K h1,fun i k hi b=>⟨en i k hi b,by rw[K.ext _ (h.en i k hi b).1.lt];exact(h.en i k hi b).2⟩,fun i hi=>(h.gs i hi).kp K h1,⟨ct,?_⟩,bg,sd,fun i hi=>?_,h.gd.kp K d,?_,by rw[K.ext 0 aj];exact h.o0⟩;·obtain⟨⟨r,hB⟩,o⟩:=h.ct;rw[K.ext _ hB.lt];exact o
 ·obtain⟨p,q⟩:=h.cn i hi;have c:a.C i<w.heap.size:=og w (aB (a.C i) 0) (by rw[p]);exact⟨cell_of p (K.cZ _ c (by rw[q];exact d)),by rw[K.ext _ c];exact q⟩
 ·exact cell_of h.er (K.cZ 0 aj (by rw[h.o0];exact d))
theorem fu.Dq(h:fu oZ w a n vb E)(K:Kp T oZ aY w w')(b:200∉T):aS w' a.N 48 (Wh a n.now vb):=cO h.oP.1 K (by rw[h.oP.2];exact b)
theorem fu.Dr(h:fu oZ w a n vb E)(K:Kp T oZ aY w w')(i k:Nat)(hi:i<2)(b:k<8)(c:210+8*i+k∉T):aS w' (a.e i k) 80 (E i k):=cO (h.en i k hi b).1 K (by rw[(h.en i k hi b).2];exact c)
theorem fu.Fx(h:fu oZ w a n vb E)(K:Kp T oZ aY w w')(b:203∉T):∃r,aS w' a.cb 43 ((uZ (n.jP 0:Int))::(uZ (n.jP 1:Int))::r):=by obtain⟨⟨r,hB⟩,o⟩:=h.ct;exact⟨r,cO hB K (by rw[o];exact b)⟩
theorem fu.Dt(h:fu oZ w a n vb E)(K:Kp T oZ aY w w')(i:Nat)(hi:i<2)(c:∀x∈T,x<60*(i+1)\/60*(i+1)+45<=x):∃l vc,fP aY (60*(i+1)) w' (a.S i) l (n.x i) (a.bw i) (a.bl i) (a.bi i) vc:=by obtain⟨l,vc,b⟩:=h.sd i hi;exact⟨l,vc,b.kp K (fun x p q e=>bV (c x e))⟩
theorem fu.kp(h:fu oZ w a n vb E)(K:Kp T oZ aY w w')(b:∀x∈T,226<=x):fu aY w' a n vb E:=
 h.qg K (fun e=>bV (b _ e)) (fun x e=>bV (b x e)) (h.Dq K (fun e=>bV (b _ e))) (fun i k hi c=>h.Dr K i k hi c (fun e=>bV (b _ e))) (h.Fx K (fun e=>bV (b _ e))) (h.bg.kp K (fun e=>bV (b _ e))) (fun i hi=>h.Dt K i hi fun x d=>.inr (bV (b x d)))
theorem fu.below(h:fu oZ w a n vb E)(hb:bJ w w'):fu oZ w' a n vb E:=h.kp (Kp.below (T:=[]) hb) aP
theorem fu.side(h:fu oZ w a n vb E)(K:Kp T oZ aY w w')(i:Nat)(hi:i<2)(b:∀x∈T,(60*(i+1)<=x/\x<60*(i+1)+60)\/226<=x)(M:av)(d:∃l vc,fP aY (60*(i+1)) w' (a.S i) l M (a.bw i) (a.bl i) (a.bi i) vc):fu aY w' a (n.dY i M) vb E:=by
 refine h.qg K (fun e=>bV (b _ e)) (fun x e=>bV (b x e)) (h.Dq K (fun e=>bV (b _ e))) (fun j k c f=>h.Dr K j k c f (fun e=>bV (b _ e))) (h.Fx K (fun e=>bV (b _ e))) (h.bg.kp K (fun e=>bV (b _ e))) (fun j c=>?_);by_cases e:j=i;·subst e;rw[dA];exact d
 ·rw[dX _ _ _ _ e];exact h.Dt K j c fun x g=>bV (b x g)
theorem fu.H_(h:fu oZ w a n vb E)(c:∀i k,i<2->k<8->E i k=E' i k):fu oZ w a n vb E':=
 ⟨h.oP,h.xs,h.es,h.el,fun i k hi b=>by rw[<-c i k hi b];exact h.en i k hi b,h.gs,h.ct,h.bg,h.sd,h.cn,h.gd,h.er,h.o0⟩
theorem fu.Zh(h:fu oZ w a n vb E)(i k:Nat)(hi:i<2)(f:k<8)(j:Nat)(v:Value):fu oZ (w.setCell (aB (a.e i k) j) v) a n vb (fun b k'=>if b=i/\k'=k then(E i k).set j v else E b k'):=by
 have g:=(h.en i k hi f).2;have K:Kp [210+8*i+k] oZ oZ w (w.setCell (aB (a.e i k) j) v):=Kp.set oZ w _ v _ (by rw[g];simp);refine h.qg K (by simp;omega) (by simp;omega) (h.Dq K (by simp;omega)) (fun b k' c d=>?_) (h.Fx K (by simp;omega)) (h.bg.kp K (by simp;omega)) (fun i hi=>h.Dt K i hi fun x l=>.inr (by simp at l;omega));by_cases e:b=i/\k'=k;·rw[bK e,e.1,e.2];exact(h.en i k hi f).1.setCell j v
 ·rw[aU e];exact h.Dr K b k' c d (by simp;omega)
theorem fu.qcc(h:fu oZ w a n vb E)(t:Nat):fu oZ (w.setCell (aB a.N 4) (uZ t)) a {n with now:=t} vb E:=by have K:Kp [200] oZ oZ w (w.setCell (aB a.N 4) (uZ t)):=Kp.set oZ w _ _ _ (by rw[h.oP.2];simp);exact h.qg K aP aP (h.oP.1.setCell 4 _) (fun i k hi b=>h.Dr K i k hi b (by simp;omega)) (h.Fx K aP) (h.bg.kp K aP) (fun i hi=>h.Dt K i hi fun x c=>.inr (by simp at c;omega))
theorem fu.Wi(h:fu oZ w a n vb E)(l:List (Nat×Nat×List Fr))(b:GT oZ 204 62 2 w Hz l.length (jy l)):fu oZ (w.setCell (aB a.N 8) Hz) a {n with dN:=l} Hz E:=by have K:Kp [200] oZ oZ w (w.setCell (aB a.N 8) Hz):=Kp.set oZ w _ _ _ (by rw[h.oP.2];simp);exact h.qg K aP aP (h.oP.1.setCell 8 _) (fun i k hi c=>h.Dr K i k hi c (by simp;omega)) (h.Fx K aP) (b.kp K aP) (fun i hi=>h.Dt K i hi fun x d=>.inr (by simp at d;omega))
theorem fu.qet(h:fu oZ w a n vb E)(i:Nat)(hi:i<2)(c:Nat):fu oZ (w.setCell (aB a.cb i) (uZ c)) a {n with jP:=fun j=>if j=i then c else n.jP j} vb E:=by
 have K:Kp [203] oZ oZ w (w.setCell (aB a.cb i) (uZ c)):=Kp.set oZ w _ _ _ (by rw[h.ct.2];simp);obtain⟨⟨r,hB⟩,o⟩:=h.ct;refine h.qg K aP aP (h.Dq K aP) (fun i k hi b=>h.Dr K i k hi b (by simp;omega)) ⟨r,?_⟩ (h.bg.kp K aP) (fun i hi=>h.Dt K i hi fun x d=>.inr (by simp at d;omega));have:=hB.setCell i (uZ c);rcases(show i=0\/i=1 by omega)with rfl|rfl;·exact this
 ·exact this
end

end
end Go.Proofs.YtphbledmopchnaaGreatDoor.Sd
namespace Go.Proofs.YtphbledmopchnaaGreatDoor.Sd
open St Tryz
theorem jJ{x:NS}{f:Fr}(h:vw x)(a:ru f)(p:Nat):Rg.Mem (rU x f).rs p↔Rg.Mem x.rs p\/Pl f p:=by
 have h1:=a.o;have i:=a.e;have b:=a.ne;have c:f.aD<=bC f:=by unfold bC;omega
 unfold rU Pl;cases j:f.bn with
 |false=>
  rw[j]at b;have k:0<bC f:=b.resolve_left aP;simp only[wz,if_false,false_and,or_false];by_cases d:f.aD<=bC f-1
  ·rw[(h.add _ _ d aj).2];show Rg.Mem (Rg.ins _ _ _) p↔_;rw[Rg.wZ x.rs _ _ p d h.so];constructor
   ·rintro(g|g);·exact .inr aj
    ·exact .inl g
   ·rintro(g|g);·exact .inr g
    ·exact .inl aj
  ·have e:x.add 2049 f.aD (bC f-1)=x:=by
    unfold NS.add Rg.add;rw[bK aj]
   rw[e];constructor;·exact .inl
   ·rintro(g|g);·exact g
    ·omega
 |true=>
  simp only[if_true,true_and];rw[(h.add _ _ c i).2];show Rg.Mem (Rg.ins _ _ _) p↔_;rw[Rg.wZ x.rs _ _ p c h.so];constructor
  ·rintro(g|g);·exact .inr aj
   ·exact .inl g
  ·rintro(g|g);·exact .inr g
   ·exact .inl aj
structure pO (A:av) (L:List Fr):Prop where
 o:∀k p,Rg.Mem (A.out k).cK.rs p->Rg.Mem (A.out k).aM.rs p\/∃f∈L,f.aC=4/\f.aH.toNat=k/\Pl f p
 g:A.gr.cK<=A.gr.aM\/∃f∈L,f.aC=5/\A.gr.cK<=f.aL
 i:∀k,(A.bF k).gr.cK<=(A.bF k).gr.aM\/∃f∈L,f.aC=6/\f.aH.toNat=k/\(A.bF k).gr.cK<=f.aL
theorem pO.mono{A:av}{L c:List Fr}(h:pO A L)(hs:∀f∈L,f∈c):pO A c:=by refine⟨fun k p hp=>(h.o k p hp).imp id fun⟨f,a,b⟩=>⟨f,hs f a,b⟩,h.g.imp id fun⟨f,a,b⟩=>⟨f,hs f a,b⟩,fun k=>(h.i k).imp id fun⟨f,a,b⟩=>⟨f,hs f a,b⟩⟩
theorem pO.eP{A:av}{L:List Fr}(h:pO A L)(bd:Bd A)(f:Fr)(n:EX f)(l:f∈L):pO (A.eP f) L:=by
 have r:=n.kd;unfold av.eP;split
 ·rename_i m;have hd:=n.dt m;refine⟨fun k p hp=>?_,h.g,h.i⟩;rw[fB]at hp ⊢;split at hp
  ·rename_i e;rw[bK e];rcases(jJ ((bd.o _).a) hd p).1 hp with g|g
   ·rcases h.o _ p g with g|⟨j,a,b,c,d⟩;·exact .inl g
    ·exact .inr ⟨j,a,b,by rw[c,e.1],d⟩
   ·exact .inr ⟨f,l,m,e.1.symm,g⟩
  ·rename_i e;rw[aU e];exact h.o k p hp
 ·rename_i m;split;·rename_i s;omega
  ·split
   ·rename_i o;refine⟨h.o,h.g,fun k=>?_⟩;rw[dQ];split
    ·rename_i e;show max _ _<=_\/∃j∈L,_/\_/\max _ _<=_;by_cases i:(A.bF f.aH.toNat).gr.cK<=f.aL;·rw[tL i];exact .inr ⟨f,l,o,e.1.symm,eT _⟩
     ·rw[tT aj,e.1];exact h.i _
    ·exact h.i k
   ·rename_i o;have q:f.aC=5:=aj;refine⟨h.o,?_,h.i⟩;show max _ _<=_\/∃j∈L,_/\max _ _<=_;by_cases i:A.gr.cK<=f.aL;·rw[tL i];exact .inr ⟨f,l,q,eT _⟩
    ·rw[tT aj];exact h.g
theorem pO.dx{A:av}{L:List Fr}{f:Fr}(h:pO A (f::L))(bd:Bd A)(m:EX f):pO (A.dx f) L:=by
 have t:=m.kd;unfold av.dx;split
 ·rename_i o;have hd:=m.dt o;refine⟨fun k p hp=>?_,?_,fun k=>?_⟩
  ·rw[fB]at hp ⊢;split at hp
   ·rename_i e;rw[bK e];have c:=fun g=>(jJ ((bd.o f.aH.toNat).c) hd p).2 g;rcases(jJ ((bd.o _).a) hd p).1 hp with g|g
    ·rcases h.o _ p g with g|⟨i,a,b,c',d⟩;·exact .inl (c (.inl g))
     ·rcases mE.1 a with a|a;·exact .inl (c (.inr (by rw[<-a];exact d)))
      ·exact .inr ⟨i,a,b,by rw[c',e.1],d⟩
    ·exact .inl (c (.inr g))
   ·rename_i e;rw[aU e];rcases h.o k p hp with g|⟨i,a,b,c,d⟩;·exact .inl g
    ·rcases mE.1 a with a|a
     ·rw[a]at c;have l:¬(k<A.outs.length):=fun hl=>e ⟨c.symm,by rw[c];exact hl⟩;have j:A.out k=rV:=by
       unfold av.out;rw[j3,CP aj];rfl
      rw[j]at hp;obtain⟨r,q,_⟩:=hp;cases q
     ·exact .inr ⟨i,a,b,c,d⟩
  ·rcases h.g with g|⟨i,a,b,c⟩;·exact .inl g
   ·rcases mE.1 a with a|a;·rw[a]at b;omega
    ·exact .inr ⟨i,a,b,c⟩
  ·rcases h.i k with g|⟨i,a,b,c⟩;·exact .inl g
   ·rcases mE.1 a with a|a;·rw[a]at b;omega
    ·exact .inr ⟨i,a,b,c⟩
 ·rename_i o;have n:∀k p,Rg.Mem (A.out k).cK.rs p->Rg.Mem (A.out k).aM.rs p\/∃f∈L,f.aC=4/\f.aH.toNat=k/\Pl f p:=fun k p hp=>by
   rcases h.o k p hp with g|⟨i,a,b,c⟩;·exact .inl g
   ·rcases mE.1 a with a|a;·rw[a]at b;omega
    ·exact .inr ⟨i,a,b,c⟩
  split;·omega
  ·split
   ·rename_i s;refine⟨n,?_,fun k=>?_⟩
    ·rcases h.g with g|⟨i,a,b,c⟩;·exact .inl g
     ·rcases mE.1 a with a|a;·rw[a]at b;omega
      ·exact .inr ⟨i,a,b,c⟩
    ·have hi:=h.i k;rw[dQ];split
     ·rename_i e;show(A.bF f.aH.toNat).gr.cK<=max (A.bF f.aH.toNat).gr.aM f.aL\/∃i∈L,_/\_/\(A.bF f.aH.toNat).gr.cK<=_;rw[e.1]at hi;rcases hi with g|⟨i,a,b,c,d⟩;·exact .inl aj
      ·rcases mE.1 a with a|a;·rw[a]at d;exact .inl aj
       ·exact .inr ⟨i,a,b,by rw[c,e.1],d⟩
     ·rename_i e;rcases hi with g|⟨i,a,b,c,d⟩;·exact .inl g
      ·rcases mE.1 a with a|a
       ·rw[a]at c;have l:¬(k<A.ins.length):=fun hl=>e ⟨c.symm,by rw[c];exact hl⟩;have j:A.bF k=sK:=by
         unfold av.bF;rw[j3,CP aj];rfl
        exact .inl (by rw[j];exact eT _)
       ·exact .inr ⟨i,a,b,c,d⟩
   ·rename_i s;have u:f.aC=5:=aj;refine⟨n,?_,fun k=>?_⟩
    ·show A.gr.cK<=max A.gr.aM f.aL\/_;rcases h.g with g|⟨i,a,b,c⟩;·exact .inl aj
     ·rcases mE.1 a with a|a;·rw[a]at c;exact .inl aj
      ·exact .inr ⟨i,a,b,c⟩
    ·rcases h.i k with g|⟨i,a,b,c⟩;·exact .inl g
     ·rcases mE.1 a with a|a;·rw[a]at b;omega
      ·exact .inr ⟨i,a,b,c⟩
theorem pO.Wx:∀(F:List Fr) {A:av} {L:List Fr},pO A (F++L)->Bd A->(∀f∈F,EX f)->pO (F.foldl av.dx A) L
 |[],_,_,h,_,_=>h
 |f::t,A,L,h,bd,hf=>pO.Wx t (pO.dx (L:=t++L) h bd (hf f aP)) (xR bd f (hf f aP)) fun g a=>hf g (by simp[a])
theorem pO.Wy:∀(F:List Fr) {A:av} {L:List Fr},pO A L->Bd A->(∀f∈F,EX f/\f∈L)->pO (F.foldl av.eP A) L
 |[],_,_,h,_,_=>h
 |f::t,A,L,h,bd,hf=>pO.Wy t (h.eP bd f (hf f aP).1 (hf f aP).2) (Cw bd f (hf f aP).1) fun g a=>hf g (by simp[a])
theorem pO.nu{A A':av}{l:bW}(h:pO A (bI A.aJ))(bd:Bd A)(g:(l.getD 0 (0,0)).2<A.next)(hl:A.nu l A'):pO A' (bI A'.aJ)/\A'.aJ=A.aJ.filter (fun x=> !names l x.1):=by
 obtain⟨lp,lq,p1,p2,rfl⟩:=hl;have key:∀(F:List Fr) (M:av),(F.foldl av.dx M).aJ=M.aJ:=fun F=>by
  induction F with
  |nil=>exact fun _=>rfl
  |cons f t i=>
   intro M;show(t.foldl av.dx (M.dx f)).aJ=_;rw[i];unfold av.dx;repeat' split
   all_goals rfl
 have c:((bI lp++bI lq).foldl av.dx (A.rZ l)).aJ=A.aJ.filter (fun x=> !names l x.1):=key _ _;refine⟨?_,c⟩;rw[c];have hB:Bd (A.rZ l):=⟨bd.o,bd.i,bd.g,bd.lm,bd.mt,fun x a=>bd.wy x (mI.1 a).1,fun x a=>bd.ls x (mI.1 a).1,bd.ky.sublist (List.filter_sublist.append List.filter_sublist),nP (CZ _ _) bd.wl,nP (CZ _ _) bd.ll,Nat.max_le.2 ⟨bd.nm,g⟩,bd.cm,fun x a=>bd.tk x (mI.1 a).1⟩;have d:pO (A.rZ l) ((bI lp++bI lq)++bI (A.aJ.filter fun x=> !names l x.1)):=by
  have:pO (A.rZ l) (bI A.aJ):=⟨h.o,h.g,h.i⟩;refine this.mono fun f b=>?_;obtain⟨x,a,b⟩:=rX.1 b;by_cases e:names l x.1=true;·exact mK _ (mK _ (rX.2 ⟨x,p1.mem_iff.2 (mI.2 ⟨a,e⟩),b⟩))
  ·exact qA _ (rX.2 ⟨x,mI.2 ⟨a,by simpa using e⟩,b⟩)
 refine d.Wx _ hB fun f b=>?_;rcases lg.1 b with b|b;·exact jR (fun x a=>bd.wy x (mI.1 (p1.mem_iff.1 a)).1) f b
 ·exact jR (fun x a=>bd.ls x (mI.1 (p2.mem_iff.1 a)).1) f b
theorem Wz(A:av)(k:Nat):(A.mD.out k).cK.rs=(A.mD.out k).aM.rs:=by show(((A.outs.map jh).getD k rV)).cK.rs=(((A.outs.map jh).getD k rV)).aM.rs;rw[j3,mR];cases A.outs[k]?<;>rfl
theorem WA(A:av)(k:Nat):(A.mD.bF k).gr.cK=0:=by show(((A.ins.map iC).getD k sK)).gr.cK=0;rw[j3,mR];cases A.ins[k]?<;>rfl
theorem pO.gU{A A':av}(h:pO A (bI A.aJ))(bd:Bd A)(hl:A.gU A'):pO A' (bI A'.aJ):=by
 unfold av.gU at hl;split at hl
 ·obtain⟨lp,p,rfl⟩:=hl;have key:∀(F:List Fr) (M:av),(F.foldl av.eP M).aJ=M.aJ:=fun F=>by
   induction F with
   |nil=>exact fun _=>rfl
   |cons f t c=>
    intro M;show(t.foldl av.eP (M.eP f)).aJ=_;rw[c];unfold av.eP;repeat' split
    all_goals rfl
  rw[key];refine pO.Wy _ ⟨fun k q hq=>.inl (by rw[Wz]at hq;exact hq),.inl (qy _),fun k=>.inl (by rw[WA];exact qy _)⟩ (Cx bd) fun f a=>?_;refine⟨jR (fun x b=>bd.wy x (mI.1 (p.mem_iff.1 b)).1) f a,?_⟩;obtain⟨x,b,a⟩:=rX.1 a;exact rX.2 ⟨x,p.mem_iff.1 b,a⟩
 ·rw[hl];exact h
theorem pO.frame{A A':av}{L:List Fr}{aF cu:bW}{u:Nat}{au:Int}{f:Fr}(h:pO A L)(t:fE A)(bd:Bd A)(F:u<48)(hd:Dn aF)(D:aF.length<=8)(i:A.aK aF u=true)(j:A.frame aF u au=some (f,A',cu)):pO A' (L++[f]):=by
 obtain⟨_,C,_⟩:=uo t bd aF cu u au f F hd D i j;have h1:pO A (L++[f]):=h.mono fun g E=>mK _ E;have z:f∈L++[f]:=aP;unfold av.frame at j;unfold av.aK at i;by_cases u0:u=0
 ·rw[bK u0]at j;split at j;·cases j
  ·have m:A=A':=congrArg (fun x=>x.2.1) (Option.some.inj j);rw[<-m];exact h1
 rw[aU u0]at j i;simp only[tK]at i;replace i:=i.2;by_cases u8:u=8
 ·rw[bK u8]at j;obtain⟨⟨f1,w⟩,q,e⟩:=eB.1 j;have s:f1=f:=congrArg nU e;have m:{A with gr:=w}=A':=congrArg (fun x=>x.2.1) e;obtain⟨o,v⟩:=iT q;subst s m;refine⟨h1.o,?_,h1.i⟩;rw[v];show max A.gr.cK (A.gr.iB A.aQ)<=A.gr.aM\/∃g∈L++[f1],g.aC=5/\max A.gr.cK (A.gr.iB A.aQ)<=g.aL;by_cases n:A.gr.cK<=A.gr.iB A.aQ;·rw[tL n];exact .inr ⟨f1,z,by rw[o];rfl,by rw[o];exact eT _⟩
  ·rw[tT aj];exact h1.g
 rw[aU u8]at j i;by_cases u24:u<24
 ·rw[bK u24]at j;obtain⟨⟨f1,w⟩,q,e⟩:=eB.1 j;have s:f1=f:=congrArg nU e;have m:A.eG (u-16) {A.bF (u-16)with gr:=w}=A':=congrArg (fun x=>x.2.1) e;obtain⟨o,v⟩:=iT q;subst s m;refine⟨h1.o,h1.g,fun k=>?_⟩;rw[dQ];split
  ·rename_i l;rw[v];show max (A.bF (u-16)).gr.cK ((A.bF (u-16)).gr.iB (A.bF (u-16)).aQ)<=(A.bF (u-16)).gr.aM\/∃g∈L++[f1],g.aC=6/\g.aH.toNat=k/\max (A.bF (u-16)).gr.cK ((A.bF (u-16)).gr.iB (A.bF (u-16)).aQ)<=g.aL;by_cases n:(A.bF (u-16)).gr.cK<=(A.bF (u-16)).gr.iB (A.bF (u-16)).aQ;·rw[tL n];refine .inr ⟨f1,z,by rw[o];rfl,?_,by rw[o];exact eT _⟩;rw[o,l.1];show((u-16:Nat):Int).toNat=_;omega
   ·rw[tT aj,l.1];exact h1.i (u-16)
  ·exact h1.i k
 rw[aU u24]at j i;by_cases u32:u<32;·rw[bK u32]at i;unfold Nt.aK at i;rw[(t.wr _).bX]at i;cases i
 rw[aU u32]at j i;by_cases r:u=32;·rw[bK r,t.q]at i;simp at i
 rw[aU r]at j i;obtain⟨⟨f1,o1⟩,q,e⟩:=eB.1 j;have s:f1=f:=congrArg nU e;have m:A.dD (u-40) o1=A':=congrArg (fun x=>x.2.1) e;subst s m;obtain⟨n1,n2,n3,_⟩:=uK (t.wr _) i q;obtain⟨G,_⟩:=nQ q;have y:ru f1:=by
  rcases C.kd with k|k;·omega
  ·exact k.dt n1
 refine⟨fun k p hp=>?_,h1.g,h1.i⟩;rw[fB]at hp ⊢;split at hp
 ·rename_i l;rw[bK l];rw[G]at hp ⊢;rcases(jJ ((bd.o (u-40)).a) y p).1 hp with g|g
  ·rcases h1.o (u-40) p g with g|⟨B,a,b,c,d⟩;·exact .inl g
   ·exact .inr ⟨B,a,b,by rw[c,l.1],d⟩
  ·exact .inr ⟨f1,z,n1,by rw[n2,l.1];omega,g⟩
 ·rename_i l;rw[aU l];exact h1.o k p hp
theorem pO.dz{A:av}{fs:List Fr}(h:pO A (bI A.aJ++fs)):pO (A.dz fs) (bI (A.dz fs).aJ):=by
 have key:∀f∈bI A.aJ++fs,(f.aC=4\/f.aC=5\/f.aC=6)->f∈bI (A.dz fs).aJ:=fun f c d=>by
  show f∈bI (if eO fs then A.aJ++[(A.next,⟨again fs,A.bE⟩)]else A.aJ);rcases lg.1 c with c|c
  ·split;·unfold bI;rw[DU];exact mK _ c
   ·exact c
  ·have g:eO fs=true:=List.any_eq_true.2 ⟨f,c,by simp;omega⟩;rw[bK g];unfold bI;rw[DU];refine qA _ ?_;simp only[List.flatMap_cons,List.flatMap_nil,o8];refine mI.2 ⟨c,?_⟩;rcases d with e|e|e<;>rw[e]<;>rfl
 exact⟨fun k p hp=>(h.o k p hp).imp id fun⟨f,a,b⟩=>⟨f,key f a (.inl b.1),b⟩,h.g.imp id fun⟨f,a,b⟩=>⟨f,key f a (.inr (.inl b.1)),b⟩,fun k=>(h.i k).imp id fun⟨f,a,b⟩=>⟨f,key f a (.inr (.inr b.1)),b⟩⟩
theorem uY:∀(n:Nat) {A B:av} (aF:bW) (Q later:List Nat) (au:Int) (l L:List Fr),fE A->dO A B->dO B A->Bd A->Dn aF->aF.length<=8->(∀r∈aF,r.2<B.next)->Lq Q->pO A (L++l)->pO (fD n A aF Q later au l).1 (L++(fD n A aF Q later au l).2.2.2)/\(fD n A aF Q later au l).1.aJ=A.aJ
 |0,A,B,aF,Q,later,au,l,L,hA,h1,h2,hb,hd,h8,hl,hQ,hI=>⟨hI,rfl⟩
 |n+1,A,B,aF,[],later,au,l,L,hA,h1,h2,hb,hd,h8,hl,hQ,hI=>⟨hI,rfl⟩
 |n+1,A,B,aF,u::Q,later,au,l,L,hA,h1,h2,hb,hd,h8,hl,hQ,hI=>by
  have b:u<48:=hQ u aP;unfold fD;by_cases a:A.aK aF u=true
  ·simp only[a,if_true];cases hF:A.frame aF u au with
   |none=>
    simp only;split;·exact uY n aF _ _ au l L hA h1 h2 hb hd h8 hl hQ.pop hI
    ·exact⟨hI,rfl⟩
   |some x=>
    obtain⟨f,A',cu⟩:=x;simp only;obtain⟨s,o,sl⟩:=tH hA h1 h2 aF cu u au f b hl a hF;obtain⟨_,_,g,_,_⟩:=oK hA (fun k=>(hb.o k).b) aF cu u au f b hd a hF;obtain⟨d,_,b3,_,_,_,e⟩:=uo hA hb aF cu u au f b hd h8 a hF;have i:cu.length<=aF.length:=by rcases e with⟨_,h⟩|⟨_,h,_⟩;omega;rw[h];exact eT _
    have c:=hI.frame hA hb b hd h8 a hF;obtain⟨j,m⟩:=uY n cu (u::Q) later (au-((bD f).length:Int)) (l++[f]) L s.loc s.ab s.ba d g aj sl hQ (by rw[<-Es];exact c);exact⟨j,m.trans b3⟩
  ·simp only[a];exact uY n aF _ later au l L hA h1 h2 hb hd h8 hl hQ.pop hI
theorem FC{B:av}{N:Nat}(g:N<dK):∀(n:Nat) {A:av} (aF:bW) (Q:List Nat) (l:List (Nat×List Fr)),fE A->PP B N A aF->Lq Q->pO A (bI A.aJ)->pO (fQ n A aF Q l).1 (bI (fQ n A aF Q l).1.aJ)
 |0,A,aF,Q,l,_,_,_,hI=>hI
 |n+1,A,aF,Q,l,hA,h,hQ,hI=>by
  obtain⟨r0,k⟩:=yt h.bd;obtain⟨m,t⟩:=lY (Q.length+A.au.toNat+1) aF Q [] A.au [] h.loc h.ab h.ba h.bd h.dn h.l8 h.hi hQ (fun x d=>by simp at d) r0;have e:FlB B A aF A.au [] (fill A aF Q A.au) m:=t;clear t;have F:Fld A B (fill A aF Q A.au):=qJ _ aF Q [] A.au [] hA h.ab h.ba hQ (fun x d=>by simp at d) h.hi (fun f j=>by simp at j);have hp:=fun a=>Hr (Q:=Q) h g hQ a;obtain⟨b,c⟩:pO (fill A aF Q A.au).1 (bI A.aJ++(fill A aF Q A.au).2.2.2)/\(fill A aF Q A.au).1.aJ=A.aJ:=uY _ aF Q [] A.au [] (bI A.aJ) hA h.ab h.ba h.bd h.dn h.l8 h.hi hQ (by rw[o8];exact hI);unfold fQ;generalize fill A aF Q A.au=x at e hp b c F;obtain⟨A',cu,i,fs⟩:=x;simp only at e hp b c F ⊢;split;·rename_i a;rw[a,o8,<-c]at b;exact b
  ·rename_i a;obtain⟨p1,_⟩:=hp a;rw[<-c]at b;exact FC g n cu i _ (rE F.Qz.loc F.Qz.ab F.Qz.ba fs).loc p1 e.q b.dz
theorem pO.jS{A B A':av}{pk:List (Nat×List Fr)}(h:pO A (bI A.aJ))(d:fE A)(h1:dO A B)(c:dO B A)(bd:Bd A)(f:A.next+24<dK)(hp:A.jS A' pk):pO A' (bI A'.aJ):=by obtain⟨M1,hl,e⟩:=hp;obtain⟨g,_,_⟩:=yu d h1 c bd hl;have s1:=uS d h1 c hl;have i:=lU s1.loc s1.ab s1.ba false;have a:=h.gU bd hl;have b:pO {M1 with aT:=false} (bI ({M1 with aT:=false}:av).aJ):=⟨a.o,a.g,a.i⟩;have:=FC f ((lf M1).length+14) (lf M1) q0 [] i.loc g lq0 b;rw[e]at this;exact this
structure LI (A B:av) (toB toA:List (Nat×List Fr)):Prop where
 aw:pO A (bI A.aJ)
 cm:∀k p,Rg.Mem (A.out k).aM.rs p->DZ (B.bF k) p
 gc:A.gr.aM<=B.aL
 ic:∀k,(A.bF k).gr.aM<=(B.out k).aL
 wt:∀x∈A.aJ++A.bP,Rg.Mem B.aM.rs x.1->∀f∈x.2.bI,Tk B f
 ak:∀y∈toA,∀g∈y.2,g.aC=2->∀r∈g.ranges,∀x∈A.aJ++A.bP,r.1<=x.1->x.1<=r.2->∀f∈x.2.bI,Tk B f
 pk:∀y∈toB,∀x∈A.aJ++A.bP,x.1=y.1->∀f∈x.2.bI,norm f∈y.2
 sn:∀x∈A.aJ++A.bP,∀f∈x.2.bI,snd f=true
theorem LI.dN{A B:av}{toB toA a b:List (Nat×List Fr)}(h:LI A B toB toA)(h1:∀y∈a,y∈toB)(d:∀y∈b,y∈toA):LI A B a b:=
 ⟨h.aw,h.cm,h.gc,h.ic,h.wt,fun y c=>h.ak y (d y c),fun y c=>h.pk y (h1 y c),h.sn⟩
theorem LI.grow{A B B':av}{toB toA:List (Nat×List Fr)}(h:LI A B toB toA)(g:qh B B')(i:∀p,Rg.Mem B'.aM.rs p->Rg.Mem B.aM.rs p):LI A B' toB toA:=
 ⟨h.aw,fun k p hp=>g.got k p (h.cm k p hp),nP h.gc g.iB,fun k=>nP (h.ic k) (g.Nu k),fun x e j f d=>(h.wt x e (i _ j) f d).mono g,fun y m a b c r l x e p q f d=>(h.ak y m a b c r l x e p q f d).mono g,h.pk,h.sn⟩
theorem LI.qg{A A' B:av}{toB toA:List (Nat×List Fr)}(h:LI A B toB toA)(a:A'.aJ=A.aJ)(b:A'.bP=A.bP)(c:∀k,(A'.out k).cK=(A.out k).cK/\(A'.out k).aM=(A.out k).aM)(d:A'.gr=A.gr)(e:∀k,(A'.bF k).gr=(A.bF k).gr):LI A' B toB toA:=by refine⟨?_,fun k p hp=>h.cm k p (by rw[<-(c k).2];exact hp),by rw[d];exact h.gc,fun k=>by rw[e];exact h.ic k,by rw[a,b];exact h.wt,by rw[a,b];exact h.ak,by rw[a,b];exact h.pk,by rw[a,b];exact h.sn⟩;rw[a];exact⟨fun k p hp=>by rw[(c k).1]at hp;rw[(c k).2];exact h.aw.o k p hp,by rw[d];exact h.aw.g,fun k=>by rw[e];exact h.aw.i k⟩
theorem lF(M:av)(k:Nat)(o:Ot)(h:(M.out k).aL<=o.aL):qh M (M.dD k o):=
 ⟨fun _ _ hp=>hp,eT _,(fun j=>by rw[fB];split;rename_i e;rw[e.1];exact h;exact eT _),rfl,fun _=>rfl⟩
theorem Nv(M:av)(k:Nat)(g:Gn)(a:g.ahead=(M.bF k).gr.ahead):qh M (M.eG k {M.bF k with gr:=g}):=by
 refine⟨fun j p hp=>?_,eT _,fun _=>eT _,rfl,fun j=>?_⟩
 ·rw[dQ];split;·rename_i e;rw[e.1]at hp;exact hp
  ·exact hp
 ·rw[dQ];split;·rename_i e;rw[e.1];exact a
  ·rfl
theorem RV(M:av)(f:Fr):qh M (M.eP f):=by
 unfold av.eP;split;·exact lF M _ _ (eT _)
 ·split;·exact lF M _ _ (eT _)
  ·split;·exact Nv M _ _ rfl
   ·exact⟨fun _ _ h=>h,eT _,fun _=>eT _,rfl,fun _=>rfl⟩
theorem RX(M:av)(f:Fr):qh M (M.dx f):=by
 unfold av.dx;split;·exact lF M _ _ (eT _)
 ·split;·exact lF M _ _ (eT _)
  ·split;·exact Nv M _ _ rfl
   ·exact⟨fun _ _ h=>h,eT _,fun _=>eT _,rfl,fun _=>rfl⟩
theorem Dv(g:av->Fr->av)(a:∀M f,qh M (g M f)):∀(l:List Fr) (M:av),qh M (l.foldl g M)
 |[],M=>qh.refl M
 |f::t,M=>(a M f).trans (Dv g a t (g M f))
theorem RY(M:av):qh M M.mD:=by
 have a:∀k,M.mD.bF k=iC (M.bF k):=fun k=>by show(M.ins.map iC).getD k sK=iC (M.ins.getD k sK);rw[j3,mR,j3];cases M.ins[k]?<;>rfl
 refine⟨fun k p hp=>by rw[a];exact hp,eT _,fun k=>?_,rfl,fun k=>by rw[a];rfl⟩
 ·have e:(M.mD.out k).aL=(M.out k).aL:=by
   show((M.outs.map jh).getD k rV).aL=(M.outs.getD k rV).aL;rw[j3,mR,j3];cases M.outs[k]?<;>rfl
  rw[e];exact eT _
theorem RZ{M M1:av}(h:M.gU M1):qh M M1:=by
 unfold av.gU at h;split at h;·obtain⟨lp,_,rfl⟩:=h;exact(RY M).trans (Dv _ RV _ _)
 ·rw[h];exact qh.refl M
theorem R3{M M1:av}{l:bW}(h:M.nu l M1):qh M M1:=by obtain⟨lp,lq,_,_,rfl⟩:=h;have:qh M (M.rZ l):=⟨fun _ _ h=>h,eT _,fun _=>eT _,rfl,fun _=>rfl⟩;exact this.trans (Dv _ RX _ _)
theorem zC{A A':av}{aF cu:bW}{u:Nat}{au:Int}{f:Fr}(hq:A.fq=[])(a:A.frame aF u au=some (f,A',cu)):qh A A'/\(A'.aM=A.aM/\A'.bP=A.bP/\A'.aJ=A.aJ/\A'.next=A.next/\A'.fq=A.fq)/\(f.aC=2->∀r∈f.ranges,r∈aF)/\∀r∈cu,r∈aF:=by
 unfold av.frame at a;split at a
 ·split at a;·cases a
  ·have e:=Option.some.inj a;have l:gH (aF.take (fA aF au aF.length))=f:=congrArg nU e;have j:A=A':=congrArg (fun x=>x.2.1) e;have el:aF.drop (fA aF au aF.length)=cu:=congrArg (fun x=>x.2.2) e;subst l j el;exact⟨qh.refl _,⟨rfl,rfl,rfl,rfl,rfl⟩,fun _ r b=>tO b,fun r b=>List.mem_of_mem_drop b⟩
 ·split at a;·obtain⟨⟨f1,i⟩,c,e⟩:=eB.1 a;obtain⟨d,g⟩:=iT c;cases e;exact⟨⟨fun _ _ h=>h,eT _,fun _=>eT _,by rw[g];rfl,fun _=>rfl⟩,⟨rfl,rfl,rfl,rfl,rfl⟩,(fun k=>by rw[d]at k;cases k),fun r b=>b⟩
  ·split at a;·obtain⟨⟨f1,i⟩,c,e⟩:=eB.1 a;obtain⟨d,g⟩:=iT c;cases e;exact⟨Nv A _ _ (by rw[g];rfl),⟨rfl,rfl,rfl,rfl,rfl⟩,(fun k=>by rw[d]at k;cases k),fun r b=>b⟩
   ·split at a
    ·obtain⟨⟨f1,i⟩,c,e⟩:=eB.1 a;cases e;refine⟨lF A _ _ (eT _),⟨rfl,rfl,rfl,rfl,rfl⟩,fun k=>?_,fun r b=>b⟩;unfold Nt.next at c;split at c;·cases c
     ·cases c;cases k
    ·split at a
     ·split at a;·cases a
      ·rw[hq]at a;cases a
     ·obtain⟨⟨f1,o1⟩,c,e⟩:=eB.1 a;obtain⟨m,n⟩:=nQ c;cases e;refine⟨lF A _ _ (by rw[m];exact eT _),⟨rfl,rfl,rfl,rfl,rfl⟩,(fun _ r b=>by rw[n.2.2.2.2]at b;cases b),fun r b=>b⟩
structure FiL (A:av) (aF:bW) (l:List Fr) (x:av×bW×List Nat×List Fr):Prop where
 le:qh A x.1
 eq:x.1.aM=A.aM/\x.1.bP=A.bP/\x.1.aJ=A.aJ/\x.1.next=A.next/\x.1.fq=A.fq
 lf:∀r∈x.2.1,r∈aF
 fs:∀f∈x.2.2.2,f∈l\/(f.aC=2->∀r∈f.ranges,r∈aF)
theorem oM:∀(n:Nat) (A:av) (aF:bW) (Q later:List Nat) (au:Int) (l:List Fr),A.fq=[]->FiL A aF l (fD n A aF Q later au l)
 |0,A,aF,Q,later,au,l,_=>⟨qh.refl A,⟨rfl,rfl,rfl,rfl,rfl⟩,fun _ h=>h,fun f b=>.inl b⟩
 |n+1,A,aF,[],later,au,l,_=>⟨qh.refl A,⟨rfl,rfl,rfl,rfl,rfl⟩,fun _ h=>h,fun f b=>.inl b⟩
 |n+1,A,aF,u::Q,later,au,l,hq=>by
  unfold fD;by_cases g:A.aK aF u=true
  ·simp only[g,if_true];cases hF:A.frame aF u au with
   |none=>
    simp only;split;·exact oM n A aF _ _ au l hq
    ·exact⟨qh.refl A,⟨rfl,rfl,rfl,rfl,rfl⟩,fun _ h=>h,fun f b=>.inl b⟩
   |some x=>
    obtain⟨f,A',cu⟩:=x;simp only;obtain⟨i,⟨j,m,o,p,d⟩,q,e⟩:=zC hq hF;have t:=oM n A' cu (u::Q) later (au-((bD f).length:Int)) (l++[f]) (d.trans hq);refine⟨i.trans t.le,⟨t.eq.1.trans j,t.eq.2.1.trans m,t.eq.2.2.1.trans o,t.eq.2.2.2.1.trans p,t.eq.2.2.2.2.trans d⟩,fun r c=>e r (t.lf r c),fun a s=>?_⟩;rcases t.fs a s with h|h
    ·rcases lg.1 h with h|h;·exact .inl h
     ·rw[mY.1 h];exact .inr q
    ·exact .inr fun k r c=>e r (h k r c)
  ·simp only[g];exact oM n A aF _ later au l hq
structure PkL (A:av) (aF:bW) (l:List (Nat×List Fr)) (x:av×List (Nat×List Fr)):Prop where
 le:qh A x.1
 eq:x.1.aM=A.aM/\x.1.bP=A.bP/\x.1.fq=A.fq
 sub:∀y∈l,y∈x.2
 ack:∀y∈x.2,y∈l\/A.next<=y.1/\∀g∈y.2,g.aC=2->∀r∈g.ranges,r∈aF
 sI:∀z∈x.1.aJ,z∈A.aJ\/A.next<=z.1/\∃fs,(z.1,fs)∈x.2/\z.2.bI=again fs
theorem Dw:∀(n:Nat) (A:av) (aF:bW) (Q:List Nat) (l:List (Nat×List Fr)),A.fq=[]->PkL A aF l (fQ n A aF Q l)
 |0,A,aF,Q,l,_=>⟨qh.refl A,⟨rfl,rfl,rfl⟩,fun _ h=>h,fun _ h=>.inl h,fun _ h=>.inl h⟩
 |n+1,A,aF,Q,l,hq=>by
  have t:FiL A aF [] (fill A aF Q A.au):=oM _ A aF Q [] A.au [] hq;unfold fQ;generalize fill A aF Q A.au=x at t;obtain⟨A',cu,s,fs⟩:=x;obtain⟨e,f,b,c,d⟩:=t.eq;simp only at e f b c d ⊢;split;·exact⟨t.le,⟨e,f,d⟩,fun _ h=>h,fun _ h=>.inl h,fun z hz=>.inl (by rw[<-b];exact hz)⟩
  ·have p:=Dw n (A'.dz fs) cu s (l++[(A.next,fs)]) (d.trans hq);have hp:qh A' (A'.dz fs):=⟨fun _ _ h=>h,eT _,fun _=>eT _,rfl,fun _=>rfl⟩;have u:(A'.dz fs).next=A.next+1:=by show A'.next+1=_;rw[c]
   have m:(A.next,fs)∈(fQ n (A'.dz fs) cu s (l++[(A.next,fs)])).2:=p.sub _ aP;refine⟨t.le.trans (hp.trans p.le),⟨p.eq.1.trans e,p.eq.2.1.trans f,p.eq.2.2.trans d⟩,fun y q=>p.sub y (by simp[q]),fun y q=>?_,fun z hz=>?_⟩
   ·rcases p.ack y q with h|⟨h1,i⟩
    ·rcases lg.1 h with h|h;·exact .inl h
     ·rw[mY.1 h];refine .inr ⟨eT _,fun g j k r o=>?_⟩;rcases t.fs g j with h|h;·cases h
      ·exact h k r o
    ·exact .inr ⟨aj,fun g j k r o=>t.lf r (i g j k r o)⟩
   ·rcases p.sI z hz with h|⟨h1,i⟩
    ·have a:z∈(if eO fs then A'.aJ++[(A'.next,(⟨again fs,A'.bE⟩:pz))]else A'.aJ):=h;split at a
     ·rcases lg.1 a with a|a;·exact .inl (by rw[<-b];exact a)
      ·rw[mY.1 a];refine .inr ⟨by show A.next<=A'.next;rw[c];exact eT _,fs,?_,rfl⟩;show(A'.next,fs)∈_;rw[c];exact m
     ·exact .inl (by rw[<-b];exact a)
    ·exact .inr ⟨aj,i⟩
structure Aj (A A':av):Prop where
 o:∀k,(A'.out k).aM=(A.out k).aM
 g:A'.gr.aM=A.gr.aM
 i:∀k,(A'.bF k).gr.aM=(A.bF k).gr.aM
theorem Aj.refl(A:av):Aj A A:=⟨fun _=>rfl,rfl,fun _=>rfl⟩
theorem Aj.trans{A B C:av}(h:Aj A B)(g:Aj B C):Aj A C:=⟨fun k=>(g.o k).trans (h.o k),g.g.trans h.g,fun k=>(g.i k).trans (h.i k)⟩
theorem yA(M:av)(k:Nat)(o:Ot)(h:o.aM=(M.out k).aM):Aj M (M.dD k o):=
 ⟨fun j=>by rw[fB];split;rename_i e;rw[e.1];exact h;rfl,rfl,fun _=>rfl⟩
theorem Kk(M:av)(k:Nat)(i:eH)(h:i.gr.aM=(M.bF k).gr.aM):Aj M (M.eG k i):=
 ⟨fun _=>rfl,rfl,fun j=>by rw[dQ];split;rename_i e;rw[e.1];exact h;rfl⟩
theorem R4(M:av)(f:Fr):Aj M (M.eP f):=by
 unfold av.eP;split;·exact yA M _ _ rfl
 ·split;·exact yA M _ _ rfl
  ·split;·exact Kk M _ _ rfl
   ·exact⟨fun _=>rfl,rfl,fun _=>rfl⟩
theorem Kl:∀(l:List Fr) (M:av),Aj M (l.foldl av.eP M)
 |[],M=>Aj.refl M
 |f::t,M=>(R4 M f).trans (Kl t _)
theorem R5{M M1:av}(h:M.gU M1):Aj M M1:=by
 unfold av.gU at h;split at h
 ·obtain⟨lp,_,rfl⟩:=h;have:Aj M M.mD:=by
   refine⟨fun k=>?_,rfl,fun k=>?_⟩;·show((M.outs.map jh).getD k rV).aM=(M.outs.getD k rV).aM;rw[j3,mR,j3];cases M.outs[k]?<;>rfl
   ·show((M.ins.map iC).getD k sK).gr.aM=(M.ins.getD k sK).gr.aM;rw[j3,mR,j3];cases M.ins[k]?<;>rfl
  exact this.trans (Kl _ _)
 ·rw[h];exact Aj.refl M
theorem R6{A A':av}{aF cu:bW}{u:Nat}{au:Int}{f:Fr}(hq:A.fq=[])(a:A.frame aF u au=some (f,A',cu)):Aj A A':=by
 unfold av.frame at a;split at a
 ·split at a;·cases a
  ·have g:A=A':=congrArg (fun x=>x.2.1) (Option.some.inj a);rw[g];exact Aj.refl _
 ·split at a;·obtain⟨⟨f1,d⟩,b,e⟩:=eB.1 a;obtain⟨_,c⟩:=iT b;cases e;exact⟨fun _=>rfl,by rw[c];rfl,fun _=>rfl⟩
  ·split at a;·obtain⟨⟨f1,d⟩,b,e⟩:=eB.1 a;obtain⟨_,c⟩:=iT b;cases e;exact Kk A _ _ (by rw[c];rfl)
   ·split at a;·obtain⟨⟨f1,d⟩,b,e⟩:=eB.1 a;cases e;exact yA A _ _ rfl
    ·split at a
     ·split at a;·cases a
      ·rw[hq]at a;cases a
     ·obtain⟨⟨f1,o1⟩,b,e⟩:=eB.1 a;obtain⟨h,_⟩:=nQ b;cases e;exact yA A _ _ (by rw[h];rfl)
theorem rP:∀(n:Nat) (A:av) (aF:bW) (Q later:List Nat) (au:Int) (l:List Fr),A.fq=[]->Aj A (fD n A aF Q later au l).1
 |0,A,aF,Q,later,au,l,_=>Aj.refl A
 |n+1,A,aF,[],later,au,l,_=>Aj.refl A
 |n+1,A,aF,u::Q,later,au,l,hq=>by
  unfold fD;by_cases a:A.aK aF u=true
  ·simp only[a,if_true];cases hF:A.frame aF u au with
   |none=>
    simp only;split;·exact rP n A aF _ _ au l hq
    ·exact Aj.refl A
   |some x=>obtain⟨f,A',cu⟩:=x;simp only;obtain⟨_,⟨_,_,_,_,b⟩,_⟩:=zC hq hF;exact(R6 hq hF).trans (rP n A' cu (u::Q) later _ _ (b.trans hq))
  ·simp only[a];exact rP n A aF _ later au l hq
theorem Dx:∀(n:Nat) (A:av) (aF:bW) (Q:List Nat) (l:List (Nat×List Fr)),A.fq=[]->Aj A (fQ n A aF Q l).1
 |0,A,aF,Q,l,_=>Aj.refl A
 |n+1,A,aF,Q,l,hq=>by
  have t:FiL A aF [] (fill A aF Q A.au):=oM _ A aF Q [] A.au [] hq;have c:Aj A (fill A aF Q A.au).1:=rP _ A aF Q [] A.au [] hq;unfold fQ;generalize fill A aF Q A.au=x at t c;obtain⟨A',cu,b,fs⟩:=x;have a:=t.eq.2.2.2.2;simp only at a c ⊢;split;·exact c
  ·have hp:Aj A' (A'.dz fs):=⟨fun _=>rfl,rfl,fun _=>rfl⟩;exact c.trans (hp.trans (Dx n (A'.dz fs) cu b _ (a.trans hq)))
theorem R7{M M1:av}(h:M.gU M1):∀x∈M1.aJ++M1.bP,x∈M.aJ++M.bP:=by
 unfold av.gU at h;split at h
 ·obtain⟨lp,_,rfl⟩:=h;have key:∀(F:List Fr) (N:av),(F.foldl av.eP N).aJ=N.aJ/\(F.foldl av.eP N).bP=N.bP:=fun F=>by
   induction F with
   |nil=>exact fun _=>⟨rfl,rfl⟩
   |cons f t b=>
    intro N;have e:(N.eP f).aJ=N.aJ/\(N.eP f).bP=N.bP:=by
     unfold av.eP;repeat' split
     all_goals exact⟨rfl,rfl⟩
    exact⟨(b (N.eP f)).1.trans e.1,(b (N.eP f)).2.trans e.2⟩
  rw[(key _ _).1,(key _ _).2];intro x a;rcases lg.1 a with a|a;·exact mK _ (mI.1 a).1
  ·rcases lg.1 (mI.1 a).1 with a|a;·exact qA _ a
   ·exact mK _ (mI.1 a).1
 ·rw[h];exact fun x a=>a
theorem qci{M M1:av}(h:M.gU M1):M1.fq=M.fq:=by
 unfold av.gU at h;split at h
 ·obtain⟨lp,_,rfl⟩:=h;have key:∀(F:List Fr) (N:av),(F.foldl av.eP N).fq=N.fq:=fun F=>by
   induction F with
   |nil=>exact fun _=>rfl
   |cons f t a=>
    intro N;refine(a (N.eP f)).trans ?_;unfold av.eP;repeat' split
    all_goals rfl
  exact key _ _
 ·rw[h]
structure PaL (A A':av) (pk:List (Nat×List Fr)):Prop where
 le:qh A A'
 ce:Aj A A'
 cm:A'.aM=A.aM
 ack:∀y∈pk,A.next<=y.1/\∀g∈y.2,g.aC=2->∀r∈g.ranges,r∈A.aM.rs
 sI:∀z∈A'.aJ++A'.bP,z∈A.aJ++A.bP\/A.next<=z.1/\∃fs,(z.1,fs)∈pk/\z.2.bI=again fs
theorem u_{A A':av}{pk:List (Nat×List Fr)}(hq:A.fq=[])(h:A.jS A' pk):PaL A A' pk:=by
 obtain⟨M1,hl,e⟩:=h;obtain⟨k1,k2,_⟩:=lZ hl;have b:({M1 with aT:=false}:av).fq=[]:=(qci hl).trans hq;have p:=Dw ((lf M1).length+14) {M1 with aT:=false} (lf M1) q0 [] b;have c:=Dx ((lf M1).length+14) {M1 with aT:=false} (lf M1) q0 [] b;rw[e]at p c;have l0:qh M1 {M1 with aT:=false}:=⟨fun _ _ h=>h,eT _,fun _=>eT _,rfl,fun _=>rfl⟩;have c0:Aj M1 {M1 with aT:=false}:=⟨fun _=>rfl,rfl,fun _=>rfl⟩;have f:∀r∈lf M1,r∈A.aM.rs:=fun r a=>by
  unfold lf at a;split at a;·rw[<-k2];exact Fe.1 a
  ·cases a
 have wl:=R7 hl;refine⟨(RZ hl).trans (l0.trans p.le),(R5 hl).trans (c0.trans c),p.eq.1.trans k2,fun y l=>?_,fun z hz=>?_⟩
 ·rcases p.ack y l with h|⟨h1,d⟩;·cases h
  ·exact⟨by have:M1.next<=y.1:=h1;omega,fun g j k r a=>f r (d g j k r a)⟩
 ·rcases lg.1 hz with hz|hz
  ·rcases p.sI z hz with h|⟨h1,d⟩;·exact .inl (wl z (mK _ h))
   ·exact .inr ⟨by have:M1.next<=z.1:=h1;omega,d⟩
  ·have i:A'.bP=M1.bP:=p.eq.2.1;rw[i]at hz;exact .inl (wl z (qA _ hz))
def Ot.u(o:Ot):Nat:=AO o.cK.rs (o.ay.length+1)
def av.U(M:av):Nat:=su (fun k=>(M.out k).u) 8
def av.gW(M:av):Nat:=su (fun k=>if(M.bF k).dh then 4 else 0) 8
def av.Y(M:av)(aF:bW):Nat:=10*aF.length+(if M.gr.aK M.aQ then 5 else 0)+M.gW+7*M.U
theorem qhk(M:av)(aF:bW):M.Y aF<=10*aF.length+37+7*M.U:=by
 have h1:M.gW<=32:=by have:=Am (g:=fun _=>4) (g':=fun k=>if(M.bF k).dh then 4 else 0) 8 (fun k _=>by show(if(M.bF k).dh then 4 else 0)<=4;split<;>omega);rw[KO]at this;exact this
 unfold av.Y;split<;>omega
theorem ZR{o o':Ot}{k:Nat}{au:Int}{c:Nat}{f:Fr}(y:o.aK c=true)(h:o.next k au c=some (f,o')):f.aD=(o.b_ c).1/\bC f<=(o.b_ c).2/\(f.data.size=0->f.bn=true):=by
 have r:(o.b_ c).1<(o.b_ c).2:=of_decide_eq_true y;have a:(o.b_ c).2<=(if o.fO (o.reach c)then o.reach c+1 else o.reach c):=uJ _ _ _;have x:o.reach c<=o.ay.length:=by unfold Ot.reach;omega
 obtain⟨lo,q⟩:=bZ ((o.b_ c).1);obtain⟨l,t⟩:=bZ ((o.b_ c).2);unfold Ot.next at h;simp only[<-q,<-t]at h r a ⊢;cases hF:mZ (nD k lo) ((o.ay.take (min l o.ay.length)).drop lo) au with
 |none=>rw[hF]at h;cases h
 |some g=>
  rw[hF]at h;simp only at h;split at h;·cases h
  ·rename_i s;obtain⟨n,C,u⟩:=tF hF;have p:=Option.some.inj h;have j:f={g with bn:=o.fO (bC g)}:=(congrArg nU p).symm;have gQ:g.data.size=n:=by
    rw[u];show(List.take n _).toArray.size=n;rw[Ev,nI];omega
   have v:((o.ay.take (min l o.ay.length)).drop lo).length=min l o.ay.length-lo:=by rw[EF,nI];omega
   have i:g.aD=lo:=by rw[u];rfl
   have d:bC g=lo+n:=by unfold bC;rw[gQ,i]
   have m:bC f=lo+n:=by rw[j];exact d
   refine⟨by rw[j];exact i,by rw[m];omega,fun hz=>?_⟩;have z:n=0:=by rw[j]at hz;rw[<-gQ];exact hz
   have B:¬lo<min l o.ay.length:=fun w=>s ⟨w,aj⟩;have e:f.bn=o.fO (lo+n):=by rw[j];show o.fO (bC g)=_;rw[d]
   by_cases b:o.fO (o.reach c)=true
   ·rw[bK b]at a;have A:o.reach c=o.ay.length:=by
     unfold Ot.fO at b;simp only[tK,decide_eq_true_eq]at b;exact b.2
    rw[e,show lo+n=o.reach c by omega];exact b
   ·rw[aU b]at a;omega
theorem qhl{o:Ot}(h:vw o.cK){f:Fr}(c:ru f)(b:Nat)(hb:f.aD<=b)(g:b<=o.ay.length+1)(e:∀p,f.aD<=p->p<b->¬Rg.Mem o.cK.rs p/\Pl f p):(o.aw f).u+(b-f.aD)<=o.u:=by have:=DI (a:=f.aD) (b:=b) h.so (oI h c).so (fun p hp=>(jJ h c p).2 (.inl hp)) (fun p h1 d=>⟨(e p h1 d).1,(jJ h c p).2 (.inr (e p h1 d).2)⟩) (o.ay.length+1);show AO (rU o.cK f).rs (o.ay.length+1)+_<=AO o.cK.rs (o.ay.length+1);omega
theorem uD{A A':av}{aF cu:bW}(b:0<cu.length->0<aF.length)(g:A.full=true->A'.full=true)(d:A'.gr.aK A'.aQ=true->A.gr.aK A.aQ=true)(hi:∀k,(A'.bF k).dh=true->(A.bF k).dh=true)(e:∀k,(A'.out k).nt.bX=false)(hq:A'.fq=[])(f:∀k,(A'.out k).aK A'.aN=true->(A.out k).aK A.aN=true)(v:Nat)(h:A'.aK cu v=true):A.aK aF v=true:=by
 unfold av.aK at h ⊢;by_cases u0:v=0;·rw[bK u0]at h ⊢;exact decide_eq_true (b (of_decide_eq_true h))
 rw[aU u0]at h ⊢;simp only[tK,Bool.not_eq_true']at h ⊢;refine⟨?_,?_⟩
 ·cases c:A.full with
  |false=>rfl
  |true=>rw[g c]at h;cases h.1
 replace h:=h.2;by_cases u8:v=8;·rw[bK u8]at h ⊢;exact d h
 rw[aU u8]at h ⊢;by_cases u24:v<24;·rw[bK u24]at h ⊢;exact hi _ h
 rw[aU u24]at h ⊢;by_cases u32:v<32;·rw[bK u32]at h;unfold Nt.aK at h;rw[e]at h;cases h
 rw[aU u32]at h ⊢;by_cases a:v=32;·rw[bK a,hq]at h;simp at h
 rw[aU a]at h ⊢;exact f _ h
structure S9 (A A':av):Prop where
 aw:∀k p,Rg.Mem (A.out k).cK.rs p->Rg.Mem (A'.out k).cK.rs p
 g:A'.gr.aK A'.aQ=true->A.gr.aK A.aQ=true
 i:∀k,(A'.bF k).dh=true->(A.bF k).dh=true
theorem S9.refl(A:av):S9 A A:=⟨fun _ _ h=>h,fun h=>h,fun _ h=>h⟩
theorem S9.trans{A B C:av}(h:S9 A B)(g:S9 B C):S9 A C:=⟨fun k p x=>g.aw k p (h.aw k p x),fun x=>h.g (g.g x),fun k x=>h.i k (g.i k x)⟩
theorem ZT{A A':av}{aF cu:bW}{u:Nat}{au:Int}{f:Fr}(m:fE A)(bd:Bd A)(hu:u<48)(hl:Sml aF)(h8:aF.length<=8)(a:A.aK aF u=true)(c:A.frame aF u au=some (f,A',cu)):(bD f).length+A'.Y cu<=A.Y aF/\A'.U<=A.U/\(∀v,A'.aK cu v=true->A.aK aF v=true)/\S9 A A':=by
 unfold av.frame at c;unfold av.aK at a;have n:=fun k=>(m.wr k).bX;by_cases u0:u=0
 ·rw[bK u0]at c a;have X:0<aF.length:=of_decide_eq_true a;split at c;·cases c
  ·rename_i hn;have e:=Option.some.inj c;have y:gH (aF.take (fA aF au aF.length))=f:=congrArg nU e;have w:A=A':=congrArg (fun x=>x.2.1) e;have el:aF.drop (fA aF au aF.length)=cu:=congrArg (fun x=>x.2.2) e;subst y w el;have h1:=Xi (l:=aF.take (fA aF au aF.length)) (fun r hr=>hl r (tO hr)) (by rw[nI];omega) (by rw[nI];omega);rw[nI]at h1;refine⟨?_,eT _,fun v=>uD (fun h=>X) (fun h=>h) (fun h=>h) (fun _ h=>h) n m.q (fun _ h=>h) v,S9.refl _⟩;unfold av.Y;rw[EF];omega
 rw[aU u0]at c a;simp only[tK]at a;replace a:=a.2;by_cases u8:u=8
 ·rw[bK u8]at c a;obtain⟨⟨f1,b⟩,t,e⟩:=eB.1 c;obtain⟨E,L⟩:=iT t;have y:f1=f:=congrArg nU e;have w:{A with gr:=b}=A':=congrArg (fun x=>x.2.1) e;have el:aF=cu:=congrArg (fun x=>x.2.2) e;clear c e;rw[y]at E;have D:=rR m bd;have Y:=vk (g:=A.gr) (x:=A.aQ) bd.g.1;have Z:=qag (x:=A.gr.iB A.aQ) aj;have d:b.aK A.aQ=false:=by
   rw[L];show decide (max (max A.gr.cK (A.gr.iB A.aQ)) A.gr.aM<A.gr.iB A.aQ)=false;exact decide_eq_false aj
  rw[<-w,<-el];refine⟨?_,eT _,fun v=>uD (A:=A) (A':={A with gr:=b}) (fun h=>h) (fun h=>h) (fun h=>by rw[show Gn.aK b A.aQ=true from h]at d;cases d) (fun _ h=>h) n m.q (fun _ h=>h) v,fun _ _ h=>h,(fun h=>by rw[show Gn.aK b A.aQ=true from h]at d;cases d),fun _ h=>h⟩;show(bD f).length+(10*aF.length+(if b.aK A.aQ then 5 else 0)+A.gW+7*A.U)<=10*aF.length+(if A.gr.aK A.aQ then 5 else 0)+A.gW+7*A.U;rw[d,a,E];simp only[if_true,wz,if_false];omega
 rw[aU u8]at c a;by_cases u24:u<24
 ·rw[bK u24]at c a;obtain⟨⟨f1,b⟩,t,e⟩:=eB.1 c;obtain⟨E,L⟩:=iT t;have y:f1=f:=congrArg nU e;have w:A.eG (u-16) {A.bF (u-16)with gr:=b}=A':=congrArg (fun x=>x.2.1) e;have el:aF=cu:=congrArg (fun x=>x.2.2) e;clear c e;rw[y]at E;have H:u-16<8:=aj;have U:u-16<A.ins.length:=by rw[m.li];exact H
  have D:=kI bd (u-16);have Y:=vk (g:=(A.bF (u-16)).gr) (x:=(A.bF (u-16)).aQ) (bd.i _).g.1;have Z:=qah (k:=u-16) (x:=(A.bF (u-16)).gr.iB (A.bF (u-16)).aQ) aj aj;have d:({A.bF (u-16)with gr:=b}:eH).dh=false:=by
   have:b.aK (A.bF (u-16)).aQ=false:=by rw[L];show decide (max (max (A.bF (u-16)).gr.cK ((A.bF (u-16)).gr.iB (A.bF (u-16)).aQ)) (A.bF (u-16)).gr.aM<(A.bF (u-16)).gr.iB (A.bF (u-16)).aQ)=false;exact decide_eq_false aj
   show(_&&b.aK (A.bF (u-16)).aQ)=false;rw[this,Bool.and_false]
  have C:(A.eG (u-16) {A.bF (u-16)with gr:=b}).aQ=A.aQ:=by
   have S:∀k,((A.eG (u-16) {A.bF (u-16)with gr:=b}).bF k).aQ=(A.bF k).aQ:=fun k=>by
    rw[dQ];split;·rename_i O;rw[O.1];rfl
    ·rfl
   have B:(A.eG (u-16) {A.bF (u-16)with gr:=b}).ins.length=A.ins.length:=iP _ _ _;exact Nat.le_antisymm (uI _ _ 0 0 (eT _) B fun k=>F3 (S k)) (uI _ _ 0 0 (eT _) B.symm fun k=>F3 (S k).symm)
  have G:∀k,((A.eG (u-16) {A.bF (u-16)with gr:=b}).bF k).dh=true->(A.bF k).dh=true:=fun k=>by
   rw[dQ];split;·rw[d];exact fun h=>by cases h
   ·exact fun h=>h
  rw[<-w,<-el];refine⟨?_,eT _,fun v=>uD (A:=A) (A':=A.eG (u-16) {A.bF (u-16)with gr:=b}) (fun h=>h) (fun h=>h) (fun h=>by rw[C]at h;exact h) G n m.q (fun _ h=>h) v,fun _ _ h=>h,(fun h=>by rw[C]at h;exact h),G⟩;have h7:(A.eG (u-16) {A.bF (u-16)with gr:=b}).gW+4<=A.gW:=by
   have i1:∀k,k≠u-16->(A.eG (u-16) {A.bF (u-16)with gr:=b}).bF k=A.bF k:=fun k q=>by rw[dQ,aU (fun h=>q h.1)]
   have i2:((A.eG (u-16) {A.bF (u-16)with gr:=b}).bF (u-16)).dh=false:=by rw[dQ,bK ⟨rfl,U⟩];exact d
   refine DJ (j:=u-16) 8 H (fun k _ q=>?_) ?_;·show(if((A.eG (u-16) {A.bF (u-16)with gr:=b}).bF k).dh then 4 else 0)<=(if(A.bF k).dh then 4 else 0);rw[i1 k q];exact eT _
   ·show(if((A.eG (u-16) {A.bF (u-16)with gr:=b}).bF (u-16)).dh then 4 else 0)+4<=(if(A.bF (u-16)).dh then 4 else 0);rw[i2,a];decide
  show(bD f).length+(10*aF.length+(if A.gr.aK (A.eG (u-16) {A.bF (u-16)with gr:=b}).aQ then 5 else 0)+(A.eG (u-16) {A.bF (u-16)with gr:=b}).gW+7*A.U)<=10*aF.length+(if A.gr.aK A.aQ then 5 else 0)+A.gW+7*A.U;rw[C,E];omega
 rw[aU u24]at c a;by_cases u32:u<32;·rw[bK u32]at a;unfold Nt.aK at a;rw[n]at a;cases a
 rw[aU u32]at c a;by_cases F:u=32;·rw[bK F,m.q]at a;simp at a
 rw[aU F]at c a;obtain⟨⟨f1,o1⟩,t,e⟩:=eB.1 c;have y:f1=f:=congrArg nU e;have w:A.dD (u-40) o1=A':=congrArg (fun x=>x.2.1) e;have el:aF=cu:=congrArg (fun x=>x.2.2) e;clear c e;rw[y]at t;rw[<-w,<-el];clear y w el;obtain⟨k,O⟩:=bZ (u-40);rw[<-O]at t a ⊢;have H:k<8:=aj;have I:k<A.outs.length:=by rw[m.lo];exact H
 obtain⟨n1,n2,n3,n4,n5,n6,n7,Q,n9,n10⟩:=uK (m.wr _) a t;obtain⟨K,_⟩:=nQ t;obtain⟨p1,p2,p3⟩:=ZR a t;have s:=bd.o k;have z:bC f<=(A.out k).ay.length:=by rw[<-Q];exact n3.b
 have i:ru f:=⟨by unfold bC at z;have:=s.b;omega,nP z s.b,n3.ne⟩;have ha:((A.out k).b_ A.aN).1<((A.out k).b_ A.aN).2:=of_decide_eq_true a;have h9:((A.out k).b_ A.aN).2<=(A.out k).o9 A.aN:=uJ _ _ _;have hg:=O9 (A.out k) A.aN;have V:(A.out k).b_ A.aN=gL 0 (A.out k).cK.rs ((A.out k).o9 A.aN):=by show gL (A.out k).cK.fl (A.out k).cK.rs _=_;rw[s.a.fl];rfl
 obtain⟨_,T,_,_⟩:=zH (A.out k).cK.rs 0 ((A.out k).o9 A.aN) s.a.so (fun _ _=>qy _);rw[<-V]at T;have P:o1.u+max 1 f.data.size<=(A.out k).u:=by
  have ho:bC f=f.aD+f.data.size:=rfl;have:=qhl (o:={A.out k with dw:=max (A.out k).dw (bC f)}) s.a i (f.aD+max 1 f.data.size) aj (by show _<=(A.out k).ay.length+1;omega) (fun p h1 D=>⟨T p aj aj,by
   refine⟨h1,?_⟩;by_cases hz:f.data.size=0;·right;exact⟨p3 hz,aj⟩
   ·left;omega⟩)
  rw[<-K]at this;have M:(f.aD+max 1 f.data.size-f.aD)=max 1 f.data.size:=aj;rw[M]at this;exact this
 have hU:(A.dD k o1).U+max 1 f.data.size<=A.U:=by
  refine DJ (j:=k) 8 H (fun j _ q=>?_) ?_;·rw[fB,aU (fun h=>q h.1)];exact eT _
  ·rw[fB,bK ⟨rfl,I⟩];exact P
 have gQ:=qfa (f:=f) n1 (by rw[n2];omega) (bV i.o) (by have:=i.e;unfold bC at this;omega);have he:=vS A k o1 I;have hc:=m.sp;have h6:(A.dD k o1).aN=A.aL-(A.dD k o1).l9:=rfl;have hv:A.aN=A.aL-A.l9:=rfl;refine⟨?_,aj,fun v=>uD (A:=A) (A':=A.dD k o1) (fun h=>h) (fun h=>h) (fun h=>h) (fun _ h=>h) (fun j=>?_) m.q (fun j J=>?_) v,fun j p hp=>?_,fun h=>h,fun _ h=>h⟩;·show(bD f).length+(10*aF.length+(if A.gr.aK A.aQ then 5 else 0)+A.gW+7*(A.dD k o1).U)<=10*aF.length+(if A.gr.aK A.aQ then 5 else 0)+A.gW+7*A.U;omega
 ·rw[fB];split;·exact n4.bX
  ·exact n j
 ·rw[fB]at J;split at J
  ·rename_i N;rw[N.1];have R:vw o1.cK:=by rw[K];exact oI s.a i
   obtain⟨p,h1,D⟩:=(nW R _).1 J;refine(nW s.a _).2 ⟨p,?_,fun hm=>D ?_⟩
   ·have M:o1.o9 (A.dD k o1).aN=(A.out k).o9 A.aN:=by
     have W:o1.reach (A.dD k o1).aN=(A.out k).reach A.aN:=by unfold Ot.reach;rw[Q,n5];omega
     unfold Ot.o9 Ot.fO;rw[W,Q,n9,n10]
    rw[<-M];exact h1
   ·rw[K];exact(jJ s.a i p).2 (.inl hm)
  ·obtain⟨p,h1,D⟩:=(nW (bd.o j).a _).1 J;exact(nW (bd.o j).a _).2 ⟨p,xQ h1 (Sl aj),D⟩
 ·rw[fB];split;·rename_i N;rw[N.1]at hp;rw[K];exact(jJ s.a i p).2 (.inl hp)
  ·exact hp
def Iz(u:Nat):Prop:=u=0\/u=8\/(16<=u/\u<24)\/(40<=u/\u<48)
def QI(M:av)(aF:bW)(Q:List Nat):Prop:=∀u,Iz u->u∈Q\/M.aK aF u=false
theorem qcx:∀u:Fin 48,(u.val=0\/u.val=8\/(16<=u.val/\u.val<24)\/(40<=u.val/\u.val<48))->u.val∈q0:=by decide +kernel
theorem qfb(M:av)(aF:bW):QI M aF q0:=fun u a=>.inl (qcx ⟨u,by unfold Iz at a;omega⟩ a)
theorem KR{A A':av}{aF cu:bW}{u:Nat}{au:Int}{f:Fr}(a:A.frame aF u au=some (f,A',cu)):A'.named=A.named/\A'.aT=A.aT:=by
 unfold av.frame at a;split at a
 ·split at a;·cases a
  ·cases a;exact⟨rfl,rfl⟩
 ·repeat' split at a
  all_goals first
   |cases a;done
   |(obtain⟨x,_,e⟩:=eB.1 a;cases e;exact⟨rfl,rfl⟩)
structure FE (B M:av) (aF:bW) (au:Int) (l:List Fr) (x:av×bW×List Nat×List Fr) (m:List Fr):Prop where
 eq:x.2.2.2=l++m
 y:Fj m+x.1.Y x.2.1<=M.Y aF
 en:au-(Fj m:Int)<10\/∀u,Iz u->x.1.aK x.2.1 u=false
 loc:fE x.1
 qi:QI x.1 x.2.1 x.2.2.1
 wl:∀v,x.1.aK x.2.1 v=true->M.aK aF v=true
 u:x.1.U<=M.U
 ak:∀r∈aF,r∈x.2.1\/∃g∈m,g.aC=2/\r∈g.ranges
 sub:∀r∈x.2.1,r∈aF
 fr:∀f∈m,∃u,u<48/\M.aK aF u=true/\(f.aC=2↔u=0)
 tk:x.1.bE=M.bE
 na:x.1.named=M.named/\x.1.aT=M.aT
 nl:S9 M x.1
theorem vo{B:av}:∀(n:Nat) {M:av} (aF:bW) (Q later:List Nat) (au:Int) (l:List Fr),fE M->dO M B->dO B M->Bd M->Dn aF->aF.length<=8->Sml aF->(∀r∈aF,r.2<B.next)->Lq Q->(∀u,Iz u->u∈Q\/u∈later\/M.aK aF u=false)->(later≠[]->au<10)->0<=au->Q.length+au.toNat<n->∃m,FE B M aF au l (fD n M aF Q later au l) m
 |0,M,aF,Q,later,au,l,_,_,_,_,_,_,_,_,_,_,_,_,hn=>absurd hn (FR _)
 |n+1,M,aF,[],later,au,l,d,h1,h2,bd,hd,h8,hs,hh,hQ,hq,hL,c,hn=>by
  refine⟨[],(o8 l).symm,by show 0+M.Y aF<=M.Y aF;omega,?_,d,fun u i=>?_,fun _ h=>h,eT _,fun r c=>.inl c,fun r c=>c,(fun f q=>by cases q),rfl,⟨rfl,rfl⟩,S9.refl _⟩
  ·show au-((0:Nat):Int)<10\/∀u,Iz u->M.aK aF u=false;by_cases e:later=[]
   ·right;intro u i;rcases hq u i with h|h|h;·cases h
    ·rw[e]at h;cases h
    ·exact h
   ·left;have:=hL e;omega
  ·rcases hq u i with h|h|h;·cases h
   ·exact .inl (rQ later (.inr h))
   ·exact .inr h
 |n+1,M,aF,u::Q,later,au,l,d,h1,h2,bd,hd,h8,hs,hh,hQ,hq,hL,c,hn=>by
  have i:u<48:=hQ u aP;have K:(j6 (u::Q)).length=Q.length:=by rw[yc];rfl
  simp only[Ew]at hn;unfold fD;by_cases j:M.aK aF u=true
  ·simp only[j,if_true];cases hF:M.frame aF u au with
   |none=>
    simp only;have z:=ND d bd i hs j hF;split
    ·refine vo n aF (j6 (u::Q)) (later++[u]) au l d h1 h2 bd hd h8 hs hh hQ.pop (fun v o=>?_) (fun _=>z) c aj;rcases hq v o with h|h|h
     ·rcases O6 h with h|h;·exact .inr (.inl (by rw[h];simp))
      ·exact .inl h
     ·exact .inr (.inl (by simp[h]))
     ·exact .inr (.inr h)
    ·refine⟨[],(o8 l).symm,by show 0+M.Y aF<=M.Y aF;omega,.inl (by show au-((0:Nat):Int)<10;omega),d,fun v o=>?_,fun _ h=>h,eT _,fun r c=>.inl c,fun r c=>c,(fun f q=>by cases q),rfl,⟨rfl,rfl⟩,S9.refl _⟩;rcases hq v o with h|h|h;·exact .inl (rQ later (.inl h))
     ·exact .inl (rQ later (.inr h))
     ·exact .inr h
   |some x=>
    obtain⟨f,M',cu⟩:=x;simp only;obtain⟨U,O,A,P⟩:=ZT d bd i hs h8 j hF;obtain⟨s,_,sl⟩:=tH d h1 h2 aF cu u au f i hh j hF;obtain⟨T,_,H,D,_⟩:=oK d (fun k=>(bd.o k).b) aF cu u au f i hd j hF;obtain⟨E,b2,b3,R,S,F,C⟩:=uo d bd aF cu u au f i hd h8 j hF;obtain⟨_,_,_,l8⟩:=zC d.q hF;have J:cu.length<=aF.length:=by rcases C with⟨_,h⟩|⟨_,h,_⟩;omega;rw[h];exact eT _
    have gQ:=mF f;obtain⟨m,t⟩:=vo n cu (u::Q) later (au-((bD f).length:Int)) (l++[f]) s.loc s.ab s.ba E H aj (fun r c=>hs r (l8 r c)) sl hQ (fun v o=>by
     rcases hq v o with h|h|h;·exact .inl h
     ·exact .inr (.inl h)
     ·right;right;cases I:M'.aK cu v with
      |false=>rfl
      |true=>rw[A v I]at h;cases h) (fun e=>bV (hL e)) aj (by simp only[Ew];omega)
    have p:Fj (f::m)=(bD f).length+Fj m:=by unfold Fj;simp
    refine⟨f::m,by rw[t.eq];simp,by rw[p];have:=t.y;omega,?_,t.loc,t.qi,fun v h=>A v (t.wl v h),nP t.u O,fun r c=>?_,fun r c=>l8 r (t.sub r c),fun g w=>?_,t.tk.trans F,⟨t.na.1.trans (KR hF).1,t.na.2.trans (KR hF).2⟩,P.trans t.nl⟩
    ·rcases t.en with h|h;·left;rw[p];omega
     ·exact .inr h
    ·have y:r∈cu\/f.aC=2/\r∈f.ranges:=by
      rcases C with⟨k2,_⟩|⟨_,e,_⟩
      ·have u0:u=0:=D.1 k2;unfold av.frame at hF;rw[bK u0]at hF;split at hF;·cases hF
       ·have e:=Option.some.inj hF;have G:gH (aF.take (fA aF au aF.length))=f:=congrArg nU e;have el:aF.drop (fA aF au aF.length)=cu:=congrArg (fun x=>x.2.2) e;rw[<-List.take_append_drop (fA aF au aF.length) aF]at c;rcases lg.1 c with c|c;·exact .inr ⟨k2,by rw[<-G];exact c⟩
        ·exact .inl (by rw[<-el];exact c)
      ·exact .inl (by rw[e];exact c)
     rcases y with h|h
     ·rcases t.ak r h with h|⟨g,a,b⟩;·exact .inl h
      ·exact .inr ⟨g,by simp[a],b⟩
     ·exact .inr ⟨f,aP,h⟩
    ·rcases mE.1 w with rfl|w;·exact⟨u,i,j,D⟩
     ·obtain⟨v,L,N,v3⟩:=t.fr g w;exact⟨v,L,A v N,v3⟩
  ·simp only[j];refine vo n aF (j6 (u::Q)) later au l d h1 h2 bd hd h8 hs hh hQ.pop (fun v o=>?_) hL c aj;rcases hq v o with h|h|h
   ·rcases O6 h with h|h;·exact .inr (.inr (by rw[h];simpa using j))
    ·exact .inl h
   ·exact .inr (.inl h)
   ·exact .inr (.inr h)
theorem O_{M:av}{aF:bW}(b:fE M)(h:∀u,Iz u->M.aK aF u=false):∀u,u<48->M.aK aF u=false:=fun u c=>by
 by_cases hs:Iz u;·exact h u hs
 unfold Iz at hs;by_cases u16:u<16
 ·have e:M.aK aF u=M.aK aF 16:=by
   unfold av.aK;rw[aU aj,aU aj,bK aj,aU aj,aU aj,bK aj,show u-16=16-16 by omega]
  rw[e];exact h 16 (by unfold Iz;omega)
 by_cases u32:u<32;·unfold av.aK;rw[aU aj,aU aj,aU aj,bK u32];unfold Nt.aK;rw[(b.wr _).bX];simp
 by_cases a:u=32;·unfold av.aK;rw[aU aj,aU aj,aU aj,aU aj,bK a,b.q];simp
 ·have e:M.aK aF u=M.aK aF 40:=by
   unfold av.aK;rw[aU aj,aU aj,aU aj,aU aj,aU aj,aU aj,aU aj,aU aj,aU aj,aU aj,show u-40=40-40 by omega]
  rw[e];exact h 40 (by unfold Iz;omega)
theorem Ao:∀(n:Nat) (M:av) (aF:bW) (Q:List Nat) (au:Int) (l:List Fr),(∀u,u<48->M.aK aF u=false)->Lq Q->(fD n M aF Q [] au l).1=M/\(fD n M aF Q [] au l).2.2.2=l
 |0,_,_,_,_,_,_,_=>⟨rfl,rfl⟩
 |_+1,_,_,[],_,_,_,_=>⟨rfl,rfl⟩
 |n+1,M,aF,u::Q,au,l,h,hQ=>by unfold fD;simp only[h u (hQ u aP),wz,if_false];exact Ao n M aF _ au l h hQ.pop
theorem Ap:∀(n:Nat) (M:av) (aF:bW) (Q:List Nat) (l:List (Nat×List Fr)),(∀u,u<48->M.aK aF u=false)->Lq Q->fQ n M aF Q l=(M,l)
 |0,_,_,_,_,_,_=>rfl
 |n+1,M,aF,Q,l,h,hQ=>by have t:(fill M aF Q M.au).1=M/\(fill M aF Q M.au).2.2.2=[]:=Ao _ M aF Q M.au [] h hQ;unfold fQ;rw[bK t.2,t.1]
structure PE (M:av) (aF:bW) (l:List (Nat×List Fr)) (x:av×List (Nat×List Fr)):Prop where
 y:47*x.1.aJ.length+x.1.Y []<=47+47*M.aJ.length+M.Y aF
 no:∀u,Iz u->x.1.aK [] u=false
 u:x.1.U<=M.U
 ak:∀r∈aF,∃y∈x.2,∃g∈y.2,g.aC=2/\r∈g.ranges
 fr:∀y∈x.2,y∈l\/∀f∈y.2,∃u,u<48/\M.aK aF u=true/\(f.aC=2↔u=0)
 nw:∀z∈x.1.aJ,z∈M.aJ\/(z.2.bE=M.bE/\∃fs,(z.1,fs)∈x.2/\eO fs=true)
 sub:∀y∈l,y∈x.2
 pre:∃t,x.1.aJ=M.aJ++t
 na:x.1.named=M.named/\x.1.aT=M.aT
 nl:S9 M x.1
theorem FM{B:av}{N:Nat}(V:N<1073741824):∀(n:Nat) {M:av} (aF:bW) (Q:List Nat) (l:List (Nat×List Fr)),PP B N M aF->fE M->Sml aF->QI M aF Q->Lq Q->mu M aF<n->PE M aF l (fQ n M aF Q l)
 |0,M,aF,Q,l,_,_,_,_,_,hn=>absurd hn (FR _)
 |n+1,M,aF,Q,l,h,hA,hs,hq,hQ,hn=>by
  have Y:dK=4611686018427387903:=rfl;obtain⟨r0,r1⟩:=yt h.bd;have s:(fill M aF Q M.au).1.next=M.next:=ug _ aF Q [] M.au []
  obtain⟨m,t⟩:=vo (B:=B) (Q.length+M.au.toNat+1) aF Q [] M.au [] hA h.ab h.ba h.bd h.dn h.l8 hs h.hi hQ (fun u E=>(hq u E).elim .inl fun e=>.inr (.inr e)) (fun e=>absurd rfl e) r0 aj;obtain⟨m',tb⟩:=lY (Q.length+M.au.toNat+1) aF Q [] M.au [] h.loc h.ab h.ba h.bd h.dn h.l8 h.hi hQ (fun x X=>by simp at X) r0;have a:FE B M aF M.au [] (fill M aF Q M.au) m:=t;have b:FlB B M aF M.au [] (fill M aF Q M.au) m':=tb;clear t tb;have hp:=fun p=>Hr (Q:=Q) h (show N<dK by omega) hQ p;have O:56<=M.au:=by unfold av.au;have h1:=h.nx;have:=Sk (n:=M.next) (by unfold mu at h1;omega);have:=h.bd.mt;omega
  unfold fQ;generalize fill M aF Q M.au=x at a s hp b;obtain⟨A,cu,F,fs⟩:=x;simp only at a s hp b ⊢;have eq:fs=m:=a.eq;have wy:A.aJ=M.aJ:=b.wy;subst eq;split
  ·rename_i o;have hz:Fj fs=0:=by rw[o];rfl
   have q:∀u,Iz u->A.aK cu u=false:=by
    rcases a.en with h|h;·omega
    ·exact h
   have i:cu=[]:=by have:=q 0 (.inl rfl);have d:A.aK cu 0=decide (0<cu.length):=rfl;rw[d]at this;have:=of_decide_eq_false this;exact sF.1 aj
   have c:=a.y;simp only[i]at q c;refine⟨by show 47*A.aJ.length+A.Y []<=_;rw[wy];omega,q,a.u,fun r D=>?_,fun y c=>.inl c,fun z hz=>.inl (by rw[<-wy];exact hz),fun y c=>c,⟨[],by rw[o8];exact wy⟩,a.na,a.nl⟩;rcases a.ak r D with h|⟨g,H,_⟩;·rw[i]at h;cases h
   ·rw[o]at H;cases H
  ·rename_i p;obtain⟨p1,p2,Z,p4,p5,p6⟩:=hp p;have I:=rE a.loc b.ab b.ba fs;have S:A.full=true->(A.dz fs).full=true:=fun G=>by
    unfold av.full at G ⊢;have:=of_decide_eq_true G;refine decide_eq_true ?_;show 12<=(if eO fs then A.aJ++[(A.next,(⟨again fs,A.bE⟩:pz))]else A.aJ).length;split;·rw[qx];omega
    ·exact this
   have w:∀v,(A.dz fs).aK cu v=true->A.aK cu v=true:=fun v=>uD (A:=A) (A':=A.dz fs) (fun h=>h) S (fun h=>h) (fun _ h=>h) (fun k=>(a.loc.wr k).bX) a.loc.q (fun _ h=>h) v;have L:QI (A.dz fs) cu F:=fun u E=>(a.qi u E).imp id fun e=>by
    cases K:(A.dz fs).aK cu u with
    |false=>rfl
    |true=>rw[w u K]at e;cases e
   have P:=FM V n cu F (l++[(M.next,fs)]) p1 I.loc (fun r D=>hs r (a.sub r D)) L b.q aj;have C:(M.next,fs)∈(fQ n (A.dz fs) cu F (l++[(M.next,fs)])).2:=P.sub _ aP;have T:(A.dz fs).aJ.length<=M.aJ.length+1:=by
    show(if eO fs then A.aJ++[(A.next,(⟨again fs,A.bE⟩:pz))]else A.aJ).length<=_;rw[<-wy];split;·rw[qx];exact eT _
    ·omega
   have J:(A.dz fs).Y cu=A.Y cu:=rfl;refine⟨?_,P.no,nP P.u a.u,fun r D=>?_,fun y c=>?_,fun z hz=>?_,fun y c=>P.sub y (by simp[c]),?_,⟨P.na.1.trans a.na.1,P.na.2.trans a.na.2⟩,a.nl.trans ⟨P.nl.aw,P.nl.g,P.nl.i⟩⟩
   ·rcases a.en with o|o;·have h1:=P.y;have d:=a.y;simp only at d;rw[J]at h1;omega
    ·
     have c:=a.y;simp only at o c;have aG:∀u,u<48->A.aK cu u=false:=O_ a.loc o;have U:=Ap n (A.dz fs) cu F (l++[(M.next,fs)]) (fun u E=>by
      cases K:(A.dz fs).aK cu u with
      |false=>rfl
      |true=>exact absurd (aG u E) (by rw[show A.aK cu u=true from w u K];decide)) b.q
     have i:cu=[]:=by have:=o 0 (.inl rfl);have d:A.aK cu 0=decide (0<cu.length):=rfl;rw[d]at this;have:=of_decide_eq_false this;exact sF.1 aj
     rw[U];show 47*(A.dz fs).aJ.length+A.Y []<=_;rw[i]at c;omega
   ·rcases a.ak r D with h|⟨g,H,d⟩;·exact P.ak r h
    ·exact⟨_,C,g,H,d⟩
   ·rcases P.fr y c with h|h
    ·rcases lg.1 h with h|h;·exact .inl h
     ·rw[mY.1 h];exact .inr a.fr
    ·right;intro f G;obtain⟨u,u1,u2,u3⟩:=h f G;exact⟨u,u1,a.wl u (w u u2),u3⟩
   ·rcases P.nw z hz with h|⟨h1,d⟩
    ·have j:z∈(if eO fs then A.aJ++[(A.next,(⟨again fs,A.bE⟩:pz))]else A.aJ):=h;split at j
     ·rename_i R;rcases lg.1 j with j|j;·exact .inl (by rw[<-wy];exact j)
      ·rw[mY.1 j];refine .inr ⟨a.tk,fs,?_,R⟩;show(A.next,fs)∈_;rw[s];exact C
     ·exact .inl (by rw[<-wy];exact j)
    ·exact .inr ⟨by rw[h1];exact a.tk,d⟩
   ·obtain⟨t,ht⟩:=P.pre;have W:(A.dz fs).aJ=if eO fs then A.aJ++[(A.next,(⟨again fs,A.bE⟩:pz))]else A.aJ:=rfl;rw[W,wy]at ht;split at ht;·exact⟨_,by rw[ht,Es]⟩
    ·exact⟨t,ht⟩
