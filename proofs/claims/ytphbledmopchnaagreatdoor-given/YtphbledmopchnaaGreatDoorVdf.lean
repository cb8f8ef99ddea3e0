import Derived.Test.YtphbledmopchnaaGreatDoorVdc
open Option renaming map_eq_none_iff->eB,map_eq_some_iff->eT
open UInt8 renaming ofNat->fA
set_option linter.all false
set_option linter.all false
namespace Go.Proofs.YtphbledmopchnaaGreatDoor.Sd
open St Tryz
variable {i:dP}
def Got(i:dP)(p:Nat):Prop:=p<i.aY\/(i.aY<=p/\i.aT.getD (p-i.aY) false=true)\/(i.cB=true/\i.h_=p)\/(i.bG=true/\i.rel<=p)
def Pl(f:Fr)(p:Nat):Prop:=f.aC<=p/\(p<bI f\/f.bL=true/\p=bI f)
theorem Eb:∀(d) (i) (h) (c),i+d.length<=c.length->∀j,(eP d i h c).2.getD j false=true↔c.getD j false=true\/(i<=j/\j<i+d.length)
 |[],i,h,c,_,j=>by grind [eP]
 |x::t,i,h,c,hl,j=>by have:=Eb t (i+1);grind [eP]
theorem qcj(c:i.aT.length=i.bO.length)(a d)(b:i.aY<=a)(p):Got (i.hold a d) p↔Got i p\/(a<=p/\p<a+d.length):=by grind [Eb,Got,dP.hold]
theorem qck{o}(w:vS o)(h:nN o i)(f)(c:yQ o f)(p)(z:Pl f p\/Got i p):Got (i.take f) p:=by
 have d:f.data.data.toList.length=f.data.size:=aR;obtain⟨a,b⟩:∃a:dP,a={i with fq:=max i.fq (bI f),cB:=i.cB||f.bL,h_:=if f.bL then bI f else i.h_}:=⟨_,rfl⟩;have j:i.take f=if max f.aC a.aY<min (bI f) a.wanted then a.hold (max f.aC a.aY) ((f.data.data.toList.take (min (bI f) a.wanted-f.aC)).drop (max f.aC a.aY-f.aC))else a:=by rw[b];rfl
 have m:=h.cB;have n:=h.bG;have q:=c.bL;have r:=w.gv;have s:=c.e;have t:=c.b;have u:=w.sz;have v:dH=4611686018427387903:=rfl;have g:a.wanted=if i.bG then i.rel else if i.cB||f.bL then(if f.bL then bI f else i.h_)else dH:=by rw[b];rfl
 have e:bI f=f.aC+f.data.size:=rfl;have k:Got i p->Got a p:=by rw[b];unfold Got;grind
 have l:f.bL=true->p=bI f->Got a p:=by rw[b];unfold Got;grind
 have y:a.aT.length=a.bO.length:=by rw[b];exact h.len
 have x:p<a.aY\/a.bG=true/\a.rel<=p->Got a p:=by unfold Got;grind
 grind [Pl,qcj]
theorem Yb{o}(w:vS o)(h:nN o i)(f)(a:A8 o f)(p)(j:Got i p):Got (i.gH f) p:=by have b:=h.cB;have c:=h.bG;have d:=a.fo;have e:=w.gv a.g;have g:=h.len;grind [Got,dP.gH,dP.wanted]
theorem qm1(i a p)(h:Got i p):Got (i.rd a).2 p:=by
 unfold Got dP.rd dP.cut at *
 grind
def qm2(i:dP)(h:i.ready<=4096):¬((i.rd (4096:Nat)).2.aT.getD 0 false=true):=by
 have key:∀c:List Bool,¬((c.drop (c.takeWhile id).length).getD 0 false=true):=fun c=>by
  induction c with
  |nil=>simp
  |cons b t a=>cases b<;>simp_all
 have e:(i.rd (4096:Nat)).2.aT=i.aT.drop (min i.ready (max ((4096:Nat):Int) 0).toNat):=rfl;rw[e,show min i.ready (max ((4096:Nat):Int) 0).toNat=i.ready by omega];exact key _
end Go.Proofs.YtphbledmopchnaaGreatDoor.Sd
section
set_option linter.all false
namespace Go.Proofs.YtphbledmopchnaaGreatDoor.Sd
open St Tryz
variable {c:bY}{g:Gn}{i:dP}{j u:Nat}
def Has(B:av):Nat->Nat->Nat->Prop
 |0,k,x=>Got (B.bH k) x
 |1,_,x=>x<=B.aN
 |2,k,x=>x<=(B.out k).aN
 |_,k,x=>(B.bH k).bG=true/\(B.bH k).rel<=x
def FF(f:Fr):Nat->Nat->Nat->Prop
 |0,k,x=>f.aD=4/\f.aF.toNat=k/\Pl f x
 |1,_,x=>f.aD=5/\x<=f.aN
 |2,k,x=>f.aD=6/\f.aF.toNat=k/\x<=f.aN
 |_,k,x=>f.aD=3/\f.aF.toNat=k/\f.aO<=x
def Aw(A:av):Nat->Nat->Nat->Prop
 |0,k,x=>Rg.Mem (A.out k).eH.rs x
 |1,_,x=>x<=A.gr.eH
 |2,k,x=>x<=(A.bH k).gr.eH
 |_,k,x=>(A.out k).nt.bG=true/\x<UT/\(A.out k).nt.eH<=x
def Cm(A:av):Nat->Nat->Nat->Prop
 |0,k,x=>Rg.Mem (A.out k).aT.rs x
 |1,_,x=>x<=A.gr.aT
 |2,k,x=>x<=(A.bH k).gr.aT
 |_,k,x=>(A.out k).nt.bG=true/\x<UT/\(A.out k).nt.aT<=x
theorem qW{x f}(h:Bh x)(a:vV f)(p):Rg.Mem (vG x f).rs p↔Rg.Mem x.rs p\/Pl f p:=by
 have g:=a.o;have i:=a.e;have j:=a.ne;have l:f.aC<=bI f:=by unfold bI;omega
 unfold vG Pl;obtain⟨b,d⟩:=bU (if f.bL then bI f else bI f-1);rw[<-d];by_cases c:f.aC<=b;.have:=Rg.EA x.rs _ _ p c h.so;rw[(h.add _ _ c (by grind)).2];grind
 .have e:x.add 2049 f.aC b=x:=by
   unfold NS.add Rg.add;rw[dN aj]
  grind
section
variable {A:av} {f:Fr} {t k x:Nat}
theorem Jk{o}:(A.dA k o).bH j=A.bH j:=rfl
theorem Pg{o}:(A.dA k o).gr=A.gr:=rfl
theorem Ph:(A.eZ k i).out j=A.out j:=rfl
theorem qcl:(A.eZ k i).gr=A.gr:=rfl
theorem qm3{o}:(A.dA k o).aN=A.aN:=rfl
theorem qm4:(A.eZ k i).aN=A.aN:=rfl
theorem qhv:({A with gr:=g}:av).out k=A.out k:=rfl
theorem qhw:({A with gr:=g}:av).bH k=A.bH k:=rfl
theorem qcm(b:Bd A)(a:Qt f):(Aw (A.iU f) t k x->Aw A t k x\/FF f t k x)/\(Aw A t k x->Aw (A.iU f) t k x)/\(Cm (A.iU f) t k x↔Cm A t k x):=by have d:=fun c=>qW ((b.o f.aF.toNat).a) (a.dt c) x;rcases t with _|_|_|t<;>rcases a.kd with e|e|e|e<;>simp only[Aw,FF,Cm,av.iU,e,Int.reduceEq,reduceIte]<;>refine⟨?_,?_,?_⟩<;>grind [gL,fQ,Jk,Pg,Ph,qcl,qhv,qhw,Ot.aw,Gn.aw,Nt.aw]
theorem qcn(h:A.outs.length=8/\A.ins.length=8)(c:Bd A)(b:Qt f):(Aw (A.gJ f) t k x->Aw A t k x\/Cm (A.gJ f) t k x)/\(Aw A t k x->Aw (A.gJ f) t k x)/\(Cm (A.gJ f) t k x->Cm A t k x\/FF f t k x)/\(Cm A t k x\/Aw A t k x/\FF f t k x->Cm (A.gJ f) t k x):=by have d:=fun a=>qW ((c.o f.aF.toNat).a) (b.dt a) x;have g:=fun a=>qW ((c.o f.aF.toNat).c) (b.dt a) x;have a:=b.st;rcases t with _|_|_|t<;>rcases b.kd with e|e|e|e<;>simp only[Aw,FF,Cm,av.gJ,e,Int.reduceEq,reduceIte]<;>refine⟨?_,?_,?_,?_⟩<;>grind [gL,fQ,Jk,Pg,Ph,qcl,qhv,qhw,Ot.cm,Gn.cm,Nt.cm]
theorem Pj:(Aw A.lY t k x->Cm A.lY t k x)/\(Cm A.lY t k x↔Cm A t k x):=by
 have c:A.lY.out k=if k<A.outs.length then jN (A.out k)else A.out k:=by show(A.outs.map jN).getD k vR=if k<A.outs.length then jN (A.outs.getD k vR)else A.outs.getD k vR;grind
 have b:A.lY.bH k=if k<A.ins.length then iV (A.bH k)else A.bH k:=by show(A.ins.map iV).getD k xk=if k<A.ins.length then iV (A.ins.getD k xk)else A.ins.getD k xk;grind
 have a:A.lY.gr=A.gr.kY:=rfl;have d:¬k<A.outs.length->A.out k=vR:=by unfold av.out;grind
 have e:¬k<A.ins.length->A.bH k=xk:=by unfold av.bH;grind
 have:vR.eH.rs=[]/\vR.aT.rs=[]/\vR.nt.bG=false/\xk.gr.eH=0:=⟨rfl,rfl,rfl,rfl⟩;rcases t with _|_|_|t<;>simp only[Aw,Cm,Rg.Mem,c,b,a]<;>grind [jN,iV,Ot.kY,Gn.kY,Nt.kY]
theorem oV{A' d e}(a:A.frame c u e=some (f,A',d)):(u=0/\∃n,0<n/\f=iT (c.take n)/\A'=A/\d=c.drop n)\/u≠0/\d=c/\((u=8/\f=lV 5 0 (A.gr.jI A.aP)/\A'={A with gr:=({A.gr with eF:=A.gr.jI A.aP}:Gn).aw (A.gr.jI A.aP)})\/(u≠8/\u<24/\f=lV 6 (u-16) ((A.bH (u-16)).gr.jI (A.bH (u-16)).aP)/\A'=A.eZ (u-16) {A.bH (u-16)with gr:=({(A.bH (u-16)).gr with eF:=(A.bH (u-16)).gr.jI (A.bH (u-16)).aP}:Gn).aw ((A.bH (u-16)).gr.jI (A.bH (u-16)).aP)})\/(24<=u/\u<32/\f=ou (u-24) (A.out (u-24)).nt.aC (A.out (u-24)).aB.length/\A'=A.dA (u-24) {A.out (u-24)with nt:=(A.out (u-24)).nt.aw (A.out (u-24)).aB.length})\/(u=32/\∃q,A.aQ=f::q/\A'={A with aQ:=q,qv:=qtl A.qv})\/(32<u/\∃o,(A.out (u-40)).next (u-40) e A.aU=some (f,o)/\A'=A.dA (u-40) o)):=by
 unfold av.frame at a;by_cases u0:u=0;.grind
 simp only[u0,if_false]at a;by_cases u8:u=8;.simp only[u8,if_true]at a;grind [eT,pR]
 simp only[u8,if_false]at a;by_cases u24:u<24;.simp only[u24,if_true]at a;grind [eT,pR]
 simp only[u24,if_false]at a;by_cases u32:u<32;.simp only[u32,if_true]at a;grind [eT,Nt.next]
 simp only[u32,if_false]at a;by_cases b:u=32;.simp only[b,if_true]at a;cases g:A.aQ<;>grind
 simp only[b,if_false]at a;grind [eT]
theorem Pk{A' i g}(a:fG A)(h:Bd A)(s:u<48)(v:A.aL c u=true)(j:A.frame c u g=some (f,A',i)):(Aw A' t k x->Aw A t k x\/FF f t k x)/\(Aw A t k x->Aw A' t k x)/\(Cm A' t k x↔Cm A t k x)/\(Has A t k x->Has A' t k x):=by
 have p:=a.lo;have r:=a.li;rcases oV j with⟨e,n,_,rfl,rfl,rfl⟩|⟨e0,rfl,⟨e,rfl,rfl⟩|⟨_,e,rfl,rfl⟩|⟨_,e,rfl,rfl⟩|⟨e,q,hq,rfl⟩|⟨e,o,hx,rfl⟩⟩;.grind
 .rcases t with _|_|_|t<;>simp only[Aw,Cm,FF,Has]<;>refine⟨?_,?_,?_,?_⟩<;>grind [qhv,qhw,Gn.aw,lV]
 .rcases t with _|_|_|t<;>simp only[Aw,Cm,FF,Has]<;>refine⟨?_,?_,?_,?_⟩<;>grind [fQ,Ph,qcl,qm4,Gn.aw,lV,Got]
 .rcases t with _|_|_|t<;>simp only[Aw,Cm,FF,Has]<;>refine⟨?_,?_,?_,?_⟩<;>grind [gL,Jk,Pg,qm3,Nt.aw,ou]
 .exact⟨.inl,id,.rfl,id⟩
 .have b:(A.out (u-40)).aL A.aU=true:=by grind [av.aL]
  obtain⟨w,y,d,l,z,B,C,D,E⟩:=yg (a.wr _) b hx;obtain⟨F,_⟩:=oU hx;have m:=qW ((h.o (u-40)).a) (f:=f) ⟨by grind [cases yQ,cases vS,bI],dx d.b l.sz,d.ne⟩ x;rcases t with _|_|_|t<;>simp only[Aw,Cm,FF,Has]<;>refine⟨?_,?_,?_,?_⟩<;>grind [gL,Jk,Pg,qm3,Ot.aw]
end

end Go.Proofs.YtphbledmopchnaaGreatDoor.Sd
end
set_option linter.all false
namespace Go.Proofs.YtphbledmopchnaaGreatDoor.Sd
open St Tryz
structure Cq (B M:av) (aH:bY):Prop where
 loc:fG M
 ab:dL M B
 ba:dL B M
 bd:Bd M
 dn:Dn aH
 l8:aH.length<=8
 hi:∀r∈aH,r.2<B.next
theorem Cq.frame{B M M' j k u l f}(h:Cq B M j)(n:u<48)(o:M.aL j u=true)(m:M.frame j u l=some (f,M',k)):Cq B M' k:=by obtain⟨⟨a,b,c,d⟩,e,g,_,_,_,_,_,i⟩:=MO h.loc h.ab h.ba h.bd j k u l f n h.dn h.l8 h.hi o m;exact⟨a,b,c,d,e,by have:=h.l8;grind,g⟩
theorem Iy{B}(J:av->bY->List Fr->Prop)(j:∀M b u c f g i l,Cq B M b->J M b l->u<48->M.aL b u=true->M.frame b u c=some (f,g,i)->J g i (l++[f])):∀(n) (M) (b) (Q a) (c) (l),Cq B M b->Lq Q->Lq a->J M b l->J (fV n M b Q a c l).1 (fV n M b Q a c l).2.1 (fV n M b Q a c l).2.2.2/\Lq (fV n M b Q a c l).2.2.1/\Cq B (fV n M b Q a c l).1 (fV n M b Q a c l).2.1
 |0,M,b,Q,a,c,l,hC,hQ,hL,h=>⟨h,hQ.oO a hL,hC⟩
 |n+1,M,b,[],a,c,l,hC,hQ,hL,h=>⟨h,hQ.oO a hL,hC⟩
 |n+1,M,b,u::Q,a,c,l,hC,hQ,hL,h=>by
  have k:=hQ u aR;have e:=Iy J j n;unfold fV;by_cases d:M.aL b u=true
  .simp only[d,if_true];cases hF:M.frame b u c with
   |none=>
    simp only;split;.exact e M b _ _ c l hC hQ.pop (hL.app fun x m=>by grind) h
    .exact⟨h,hQ.oO a hL,hC⟩
   |some x=>exact e _ _ _ _ _ _ (hC.frame k d hF) hQ hL (j _ _ _ _ _ _ _ _ hC h k d hF)
  .simp only[d];exact e M b _ a c l hC hQ.pop hL h
def PP.cq{B M N a}(h:PP B N M a):Cq B M a:=⟨h.loc,h.ab,h.ba,h.bd,h.dn,h.l8,h.hi⟩
theorem Ah{B N}(m:N<dH)(J:av->bY->List Fr->List (Nat×List Fr)->Prop)(p:∀M a u j f i c l b,Cq B M a->J M a l b->u<48->M.aL a u=true->M.frame a u j=some (f,i,c)->J i c (l++[f]) b)(o:∀M a l b,J M a l b->l≠[]->J (M.eO l) a [] (b++[(M.next,l)])):∀(n) (M) (a) (Q) (b),PP B N M a->Lq Q->J M a [] b->∃c,J (gQ n M a Q b).1 c [] (gQ n M a Q b).2
 |0,M,a,Q,b,_,hQ,h=>⟨a,h⟩
 |n+1,M,a,Q,b,hP,hQ,h=>by
  have t:_/\Lq (fill M a Q M.au).2.2.1/\_:=Iy (fun M a l=>J M a l b) (fun M a u j f i c l=>p M a u j f i c l b) (Q.length+M.au.toNat+1) M a Q [] M.au [] hP.cq hQ (fun x q=>by cases q) h;have d:(fill M a Q M.au).1.next=M.next:=rO _ a Q [] M.au []
  have g:=fun k=>(MP (Q:=Q) hP m hQ k).1;unfold gQ;change J (fill M a Q M.au).1 (fill M a Q M.au).2.1 (fill M a Q M.au).2.2.2 b/\_ at t;generalize fill M a Q M.au=x at t d g;split;.grind
  .rename_i e;refine Ah m J p o n _ _ _ _ (g e) t.2.1 ?_;rw[<-d];exact o _ _ _ _ t.1 e
end Go.Proofs.YtphbledmopchnaaGreatDoor.Sd
set_option linter.all false
namespace Go.Proofs.YtphbledmopchnaaGreatDoor.Sd
open St Tryz
variable {g g':Nat->Nat}{l:List Nat}{u x:Nat}
def Im(m:Nat)(l:List Nat)(x:Nat):Prop:=∃p,p<m/\l[p]?=some x
theorem qjr{m i j}(a:i<m)(b:j<m)(g:m<=l.length)(h:Im m l x):Im m (sw l i j) x:=by
 obtain⟨p,c,e⟩:=h;by_cases d:p=i;.exact⟨j,b,by unfold sw;grind⟩
 .by_cases f:p=j;.exact⟨i,a,by unfold sw;grind⟩
  .exact⟨p,c,by unfold sw;grind⟩
theorem Vv{m x}:∀(k) (l) (i),m<=l.length->Im m l x->Im m (lH k l i m) x
 |0,_,_,_,h=>h
 |k+1,l,i,hm,h=>by
  have key:∀j,j<m->i<m->Im m (if l.getD j 0<l.getD i 0 then lH k (sw l i j) j m else l) x:=fun j b a=>by
   split;.exact Vv k _ _ (by rw[nu];exact hm) (qjr a b hm h)
   .exact h
  grind [lH]
def qjs{m x}:∀(k) (l) (j),j<m->m<=l.length->Im m l x->Im m (El k l j) x
 |0,_,_,_,_,h=>h
 |k+1,l,j,hj,hm,h=>by
  unfold El;split;.exact h
  .exact qjs k _ _ aj (by rw[nu];exact hm) (qjr aj hj hm h)
theorem qdz:x∈l↔Im l.length l x:=by grind [Im,List.mem_iff_getElem?]
theorem mem_push(h:x∈l\/x=u):x∈eY l u:=by obtain⟨p,_,e⟩:=qjs (x:=x) (l.length+1) (l++[u]) l.length aR (aI _) (qdz.1 (by grind));exact Cx e
theorem IL{x}:∀(m:List Nat) {l},x∈l\/x∈m->x∈m.foldl eY l
 |[],_,h=>by grind
 |u::t,l,h=>IL t (by grind [mem_push])
theorem qiw{t}(h:x∈u::t):x=u\/x∈mO (u::t):=by
 by_cases e:x=u;.exact .inl e
 right;obtain⟨l,a⟩:=bU (u::t);rw[<-a]at h ⊢;have f:l[0]?=some u:=by rw[a];rfl
 obtain⟨p,g,d⟩:=qdz.1 h;have c:Im (l.length-1) (sw l 0 (l.length-1)) x:=by
  by_cases b:p=l.length-1;.exact⟨0,by grind,by unfold sw;grind⟩
  .exact⟨p,aj,by unfold sw;grind⟩
 obtain⟨q,j,b⟩:=Vv l.length (sw l 0 (l.length-1)) 0 (by rw[nu];omega) c;unfold mO;refine Cx (i:=q) ?_;grind
theorem Dt:∀(b) (a e),Rg.gP b->(∀r∈b,a<=r.1)->(∀p,a<=p->p<(iN a b e).1->Rg.Mem b p)/\(∀p,(iN a b e).1<=p->p<(iN a b e).2->¬Rg.Mem b p)/\((iN a b e).1<(iN a b e).2->a<=(iN a b e).1)/\(¬(iN a b e).1<(iN a b e).2->e<=(iN a b e).1)
 |[],a,e,_,_=>by grind [iN,Rg.Mem]
 |r::t,a,e,hs,hl=>by obtain⟨h,i,c⟩:=hs;have d:=hl r aR;have g:=Dt t (r.2+1) e c (fun x f=>by grind);grind [iN,Rg.Mem]
def Qi(rs:bY):Nat->Nat
 |0=>0
 |n+1=>Qi rs n+(if Rg.has n rs then 0 else 1)
theorem Vw(rs):∀n,Qi rs n<=n
 |0=>aI _
 |n+1=>by have:=Vw rs n;grind [Qi]
theorem IQ{rs rs'}(h:Rg.gP rs)(c:Rg.gP rs')(e:∀p,Rg.Mem rs p->Rg.Mem rs' p)(a b)(d:∀p,a<=p->p<b->¬Rg.Mem rs p/\Rg.Mem rs' p):∀n,Qi rs' n+(min b n-min a n)<=Qi rs n
 |0=>by simp[Qi]
 |n+1=>by have f:=IQ h c e a b d n;grind [Rg.Lm,Qi]
def su(g:Nat->Nat):Nat->Nat
 |0=>0
 |n+1=>su g n+g n
theorem Al{g g' j c}:∀n,(∀k,k<n->k≠j->g' k<=g k)->(j<n->g' j+c<=g j)->su g' n+(if j<n then c else 0)<=su g n
 |0,_,_=>by simp[su]
 |n+1,h,hc=>by have:=Al (g:=g) (g':=g') (j:=j) (c:=c) n (fun k b=>h k aj) (fun a=>hc aj);grind [su]
def Ce(n)(h:∀k,k<n->g' k<=g k):su g' n<=su g n:=by have:=Al (g:=g) (g':=g') (j:=n) (c:=0) n (fun k a _=>h k a) aj;omega
theorem Cg(n)(h:∀k,k<n->g' k=g k):su g' n=su g n:=
 Nat.le_antisymm (Ce n fun k a=>Nat.le_of_eq (h k a)) (Ce n fun k a=>Nat.le_of_eq (h k a).symm)
end Go.Proofs.YtphbledmopchnaaGreatDoor.Sd
set_option linter.all false
namespace Go.Proofs.YtphbledmopchnaaGreatDoor.Sd
open St Tryz
variable {a c k x:Nat}{g:Gn}{l:bY}
theorem kJ(n):(n<64->(Num.aB n).length=1)/\(n<16384->(Num.aB n).length<=2)/\(n<1073741824->(Num.aB n).length<=4):=by grind [Num.jr,Num.code]
def Sml(l:bY):Prop:=∀r∈l,r.1<1073741824/\r.2<1073741824
theorem Sml.at(h:Sml l)(k):(l.getD k (0,0)).1<1073741824/\(l.getD k (0,0)).2<1073741824:=by grind [Sml]
def Vx{l}(h:Sml l):∀k,(kg l k).length<=8*k
 |0=>aI _
 |k+1=>by rw[kg,lM,lM];have:=Vx h k;have a:=h.at k;have b:=h.at (k+1);have:=(kJ ((l.getD k (0,0)).1-(l.getD (k+1) (0,0)).2-2)).2.2 aj;have:=(kJ ((l.getD (k+1) (0,0)).2-(l.getD (k+1) (0,0)).1)).2.2 aj;omega
theorem qe0(h:Sml l)(b:0<l.length)(c:l.length<=8):(bf (iT l)).length<=10*l.length:=by have e:bf (iT l)=[]++[fA 2]++iG l:=rfl;rw[e];unfold iG l6;have:=Vx h (l.length-1);have a:=h.at 0;have:=(kJ (l.getD 0 (0,0)).2).2.2 a.2;have:=(kJ (l.length-1)).1 aj;have:=(kJ ((l.getD 0 (0,0)).2-(l.getD 0 (0,0)).1)).2.2 aj;grind
theorem qjt(h:x<1073741824):(bf (lV 5 0 x)).length<=5:=by have e:bf (lV 5 0 x)=[]++[fA 16]++Num.aB x:=rfl;have:=(kJ x).2.2 h;grind
theorem qju(a:k<64)(h:x<16384):(bf (lV 6 k x)).length<=4:=by have e:bf (lV 6 k x)=[]++[fA 17]++Num.aB ((k:Int).toNat)++Num.aB x:=rfl;have:=(kJ x).2.1 h;grind [kJ]
theorem qjv{o r}(c:k<64)(a:o<16384)(b:r<16384):(bf (ou k o r)).length<=6:=by have e:bf (ou k o r)=[]++[fA 36]++Num.aB ((k:Int).toNat)++Num.aB o++Num.aB r:=rfl;have:=(kJ o).2.1 a;have:=(kJ r).2.1 b;grind [kJ]
def qp7{f}(h:f.aD=4)(c:f.aF.toNat<8)(b:f.aC<16384)(a:f.data.size<16384):(bf f).length<=6+f.data.size:=by have:=(kJ f.aF.toNat).1 aj;have:=(kJ f.aC).2.1 b;have:=(kJ f.data.size).2.1 a;rw[xK f h];omega
theorem IU(a b):∀n,0<n->gV a b n=0->b<((bf (iT (a.take 1))).length:Int)
 |0,h,_=>absurd h (KP _)
 |1,_,h=>by grind [gV]
 |n+2,_,h=>IU a b (n+1) aj (by grind [gV])
theorem jB{A}(a:Bd A)(k):(A.bH k).aP<=2048:=by have:=a.i k;grind [cases Dc,cases Bd,dP.aP]
def yM{M:av}(t:M.ins.length=8)(i:∀k,(M.bH k).aP<=2048):M.aP=su (fun k=>(M.bH k).aP) 8:=by
 unfold av.aP av.bH at *
 generalize M.ins=l at *
 have j:=i 0;have m:=i 1;have n:=i 2;have o:=i 3;have p:=i 4;have q:=i 5;have r:=i 6;have s:=i 7;clear i;match l,t with
 |[a,b,c,d,e,f,g,h],_=>simp only[E9,Dw]at j m n o p q r s;simp only[QE,List.foldl_nil,su,E9,Dw];have u:dH=4611686018427387903:=rfl;omega
def vB{A}(b:fG A)(a:Bd A):A.aP<=16384:=by have:=Ce (g':=fun k=>(A.bH k).aP) (g:=fun _=>2048) 8 fun k _=>jB a k;rw[yM b.li (jB a)];exact this
def yN(h:g.ahead<=4096):g.jI x<=x+4096:=by unfold Gn.jI;omega
def Ot.upto(o:Ot)(a:Nat):Nat:=if o.iH (o.reach a)then o.reach a+1 else o.reach a
theorem M9(o:Ot)(c):o.upto c<=o.aB.length+1/\o.reach c<=o.upto c:=by grind [Ot.upto,Ot.reach]
theorem Yr{o:Ot}(h:a<=c):o.upto a<=o.upto c:=by grind [Ot.reach,Ot.upto,Ot.iH]
theorem yO{o:Ot}(h:Bh o.eH)(c):o.aL c=true↔∃p,p<o.upto c/\¬Rg.Mem o.eH.rs p:=by
 obtain⟨a,b,f,d⟩:=Dt o.eH.rs 0 (o.upto c) h.so (fun _ _=>eG _);have e:o.dF c=iN 0 o.eH.rs (o.upto c):=by show iN o.eH.fl o.eH.rs _=_;rw[h.fl];rfl
 grind [yc,Ot.aL]
theorem Yt{o:Ot}{e}(y:k<8)(x:o.aB.length<=2048)(v:o.aL c=true)(d:o.next k e c=none):e<10:=by
 refine Decidable.byContradiction fun z=>?_;have j:=of_decide_eq_true v;have h:(o.dF c).2<=o.upto c:=yc _ _ _;have u:=M9 o c;obtain⟨a,i⟩:=bU ((o.dF c).1);obtain⟨m,l⟩:=bU ((o.dF c).2);unfold Ot.next at d;simp only[<-i,<-l]at d j h;have A:(bf (qH k a)).length<=5:=by rw[xK _ rfl];have n:(qH k a).data.size=0:=rfl;rw[n];have:=(kJ (qH k a).aF.toNat).1 (by show((k:Int)).toNat<64;omega);have:=(kJ (qH k a).aC).2.1 (by show a<16384;omega);have:=(kJ 0).1 aj;omega
 unfold pK at d;rw[b_ aj]at d;simp only at d;split at d
 .rename_i t;obtain⟨w,f⟩:=t;have g:((o.aB.take (min m o.aB.length)).drop a).length=min m o.aB.length-a:=by grind
  obtain⟨b,p⟩:=bU ((o.aB.take (min m o.aB.length)).drop a);rw[<-p]at f g;obtain⟨r,q⟩:=bU ((e-((bf (qH k a)).length:Int)).toNat);rw[<-q]at f;have s:(b.take (min (min b.length r) (r-((Num.aB (min b.length r)).length-1)))).length=0:=by have:=f;rw[<-E8];exact this
  rw[Au]at s;have:=(kJ (min b.length r)).2.1 aj;omega
 .cases d
theorem Qj{aD b}(h:g.next aD k a b=none):b<((bf (lV aD k (g.jI a))).length:Int):=by grind [Gn.next]
theorem TP{A d u f}(i:fG A)(c:Bd A)(p:A.aQ=[])(q:u<48)(o:Sml d)(b:A.aL d u=true)(a:A.frame d u f=none):f<10:=by
 unfold av.frame at a;unfold av.aL at b;have j:(A.jc:Int)=0:=by grind [av.jc]
 by_cases u0:u=0
 .simp only[u0,if_true]at a b;have m:=of_decide_eq_true b;split at a;.rename_i n;have e:=IU d f _ m n;grind [qe0,Sml,List.mem_of_mem_take]
  .cases a
 simp only[u0,if_false,iY]at a b;replace b:=b.2;by_cases u8:u=8;.rw[dN u8,j]at a;have e:=Qj (eB.1 a);have k:=vB i c;have l:=yN (g:=A.gr) (x:=A.aP) c.g.1;grind [qjt]
 rw[b_ u8]at a b;by_cases u24:u<24;.rw[dN u24,j]at a;have e:=Qj (eB.1 a);have k:=jB c (u-16);have l:=yN (g:=(A.bH (u-16)).gr) (x:=(A.bH (u-16)).aP) (c.i _).g.1;grind [qju]
 rw[b_ u24]at a b;by_cases u32:u<32;.rw[dN u32,j]at a;rw[dN u32]at b;have e:=eB.1 a;unfold Nt.next at e;unfold Nt.aL at b;have k:=(i.wr (u-24)).gv;have l:=(i.wr (u-24)).sz;grind [qjv]
 rw[b_ u32]at a b;by_cases h:u=32;.grind
 rw[b_ h]at a b;exact Yt aj (c.o _).b b (eB.1 a)
end Go.Proofs.YtphbledmopchnaaGreatDoor.Sd
set_option linter.all false
namespace Go.Proofs.YtphbledmopchnaaGreatDoor.Sd
open St Tryz
variable {f:Fr}
def Ot.nw(o:Ot):Bool:=o.nt.aL o.aB.length
def Ot.u(o:Ot):Nat:=Qi o.eH.rs (o.aB.length+1)+if o.nw then 1 else 0
def av.U(M:av):Nat:=su (fun k=>(M.out k).u) 8
def av.gW(M:av):Nat:=su (fun k=>if(M.bH k).fF then 4 else 0) 8
def av.Y(M:av)(a:bY):Nat:=10*a.length+(if M.gr.aL M.aP then 5 else 0)+M.gW+7*M.U
theorem qrk(M:av)(a):M.Y a<=10*a.length+37+7*M.U:=by
 have:M.gW<=su (fun _=>4) 8:=Ce 8 fun k _=>by grind
 have:su (fun _=>4) 8=32:=rfl;unfold av.Y;grind
theorem qix{o o':Ot}{k l c}(t:o.aL c=true)(h:o.next k l c=some (f,o')):f.aC=(o.dF c).1/\bI f<=(o.dF c).2/\(f.data.size=0->f.bL=true):=by
 have e:=of_decide_eq_true t;have b:(o.dF c).2<=(if o.iH (o.reach c)then o.reach c+1 else o.reach c):=yc _ _ _;have s:o.reach c<=o.aB.length:=by unfold Ot.reach;omega
 obtain⟨a,d⟩:=bU ((o.dF c).1);obtain⟨j,i⟩:=bU ((o.dF c).2);unfold Ot.next at h;simp only[<-d,<-i]at h e b ⊢;cases hF:pK (qH k a) ((o.aB.take (min j o.aB.length)).drop a) l with
 |none=>rw[hF]at h;cases h
 |some g=>
  rw[hF]at h;simp only at h;split at h;.cases h
  .rename_i r;obtain⟨n,v,m⟩:=A9 hF;have u:=(congrArg Prod.fst (lF h)).symm;have p:((o.aB.take (min j o.aB.length)).drop a).length=min j o.aB.length-a:=by grind
   have w:g.data.size=n:=by rw[m];show(List.take n _).toArray.size=n;grind
   have q:g.aC=a:=by rw[m];rfl
   grind [bI,Ot.iH]
structure KM (A A':av):Prop where
 g:A'.gr.aL A'.aP=true->A.gr.aL A.aP=true
 i:∀k,(A'.bH k).fF=true->(A.bH k).fF=true
 n:∀k,(A'.out k).nw=true->(A.out k).nw=true
def KM.refl(A):KM A A:=⟨id,fun _=>id,fun _=>id⟩
def KM.trans{A B C}(h:KM A B)(g:KM B C):KM A C:=⟨fun x=>h.g (g.g x),fun k x=>h.i k (g.i k x),fun k x=>h.n k (g.n k x)⟩
theorem KM.aL{A A' a b}(h:KM A A')(c:0<b.length->0<a.length)(g:A.full=true->A'.full=true)(e:A'.aQ=[])(d:∀k,(A'.out k).aL A'.aU=true->(A.out k).aL A.aU=true)(v)(f:A'.aL b v=true):A.aL a v=true:=by grind [cases KM,Ot.nw,av.aL]
structure FrY (A A':av) (aH dh:bY) (f:Fr):Prop where
 y:(bf f).length+A'.Y dh<=A.Y aH
 u:A'.U<=A.U
 w:∀v,A'.aL dh v=true->A.aL aH v=true
 n:KM A A'
theorem qiy{A A' v s u W}(C:fG A)(t:Bd A)(E:A.aQ=[])(hu:u<48)(hl:Sml v)(h8:v.length<=8)(hw:A.aL v u=true)(hf:A.frame v u W=some (f,A',s)):FrY A A' v s f:=by
 have h5:=C.lo;have S:=C.li;unfold av.aL at hw;rcases oV hf with⟨e,n,hn,rfl,rfl,rfl⟩|⟨P,rfl,⟨e,rfl,rfl⟩|⟨e8,e,rfl,rfl⟩|⟨e24,e,rfl,rfl⟩|⟨e,q,hq',rfl⟩|⟨e,o,hx,rfl⟩⟩
 .have Y:0<v.length:=by grind
  have F:=qe0 (l:=v.take n) (fun r hr=>hl r (tF hr)) (by grind) (by grind);rw[Au]at F;refine⟨?_,aI _,(KM.refl _).aL (fun _=>Y) id E (fun _=>id),KM.refl _⟩;grind [av.Y,List.length_drop]
 .have J:=vB C t;have Z:=yN (g:=A.gr) (x:=A.aP) t.g.1;have R:=qjt (x:=A.gr.jI A.aP) aj;have d:A.gr.aL A.aP=true:=by grind
  obtain⟨y,X⟩:∃y,y=({A.gr with eF:=A.gr.jI A.aP}:Gn).aw (A.gr.jI A.aP):=⟨_,rfl⟩;have z:y.aL A.aP=false:=by grind [Gn.aL,Gn.aw,Gn.jI]
  rw[<-X];have N:KM A {A with gr:=y}:=⟨fun h=>absurd (show y.aL A.aP=true from h) (by simp[z]),fun _=>id,fun _=>id⟩;refine⟨?_,aI _,N.aL (fun h=>h) (fun h=>h) E (fun _=>id),N⟩;show _+(10*s.length+(if y.aL A.aP then 5 else 0)+A.gW+7*A.U)<=10*s.length+(if A.gr.aL A.aP then 5 else 0)+A.gW+7*A.U;grind
 .obtain⟨k,ek⟩:=bU (u-16);rw[<-ek];have H:k<8:=aj;have J:=jB t k;have Z:=yN (g:=(A.bH k).gr) (x:=(A.bH k).aP) (t.i _).g.1;have R:=qju (k:=k) (x:=(A.bH k).gr.jI (A.bH k).aP) aj aj;have d:(A.bH k).fF=true:=by grind
  obtain⟨i,I⟩:∃i,i={A.bH k with gr:=({(A.bH k).gr with eF:=(A.bH k).gr.jI (A.bH k).aP}:Gn).aw ((A.bH k).gr.jI (A.bH k).aP)}:=⟨_,rfl⟩;have z:i.fF=false:=by
   have:i.gr.aL i.aP=false:=by rw[I];show decide (_<_)=false;unfold Gn.jI dP.aP;grind [Gn.aw]
   grind [dP.fF]
  have hc:i.aP=(A.bH k).aP:=by rw[I];rfl
  rw[<-I];have hi:∀j,(A.eZ k i).bH j=if j=k then i else A.bH j:=fun j=>by grind [fQ]
  have M:(A.eZ k i).aP=A.aP:=by
   have b':∀j,((A.eZ k i).bH j).aP=(A.bH j).aP:=fun j=>by grind
   rw[yM (by rw[<-S];exact jD _ _ _) (fun j=>by grind [jB]),yM S (jB t)];grind
  have N:KM A (A.eZ k i):=⟨fun h=>by rw[M]at h;exact h,fun j=>by grind,fun _=>id⟩;refine⟨?_,aI _,N.aL (fun h=>h) (fun h=>h) E (fun _=>id),N⟩;have ha:(A.eZ k i).gW+(if k<8 then 4 else 0)<=A.gW:=Al (j:=k) 8 (fun j _ D=>by grind) (fun _=>by grind);show _+(10*s.length+(if A.gr.aL (A.eZ k i).aP then 5 else 0)+(A.eZ k i).gW+7*A.U)<=10*s.length+(if A.gr.aL A.aP then 5 else 0)+A.gW+7*A.U;grind
 .obtain⟨k,ek⟩:=bU (u-24);rw[<-ek];have H:k<8:=aj;have d:(A.out k).nw=true:=by unfold Ot.nw;grind
  have w:=C.wr k;have w1:=w.gv;have w2:=w.sz;have w3:=w.pr.length_le;have h9:(A.out k).nt.bG=true:=by grind [Ot.nw,Nt.aL]
  have R:=qjv (k:=k) (o:=(A.out k).nt.aC) (r:=(A.out k).aB.length) aj (by grind) aj;obtain⟨o,Q⟩:∃o,o={A.out k with nt:=(A.out k).nt.aw (A.out k).aB.length}:=⟨_,rfl⟩;have z:o.nw=false:=by grind [Ot.nw,Nt.aL,Nt.aw]
  have O:∀j,(A.dA k o).out j=if j=k then o else A.out j:=fun j=>by grind [gL]
  have L:(A.dA k o).aU=A.aU:=by
   have:=uQ A k o aj;have:o.dI=(A.out k).dI:=by rw[Q]
   unfold av.aU;show A.aN-_=_;omega
  have hv:∀c,o.aL c=(A.out k).aL c:=fun c=>by grind [Ot.aL,Ot.dF,Ot.reach,Ot.iH,Nt.aw]
  rw[<-Q];have N:KM A (A.dA k o):=⟨id,fun _=>id,fun j=>by grind⟩;have K:(A.dA k o).U+(if k<8 then 1 else 0)<=A.U:=Al (j:=k) 8 (fun j _ D=>by grind) (fun _=>by
   have e1:o.eH=(A.out k).eH/\o.aB=(A.out k).aB:=by grind
   rw[O,dN rfl];grind [Ot.u])
  rw[dN H]at K;refine⟨?_,aj,N.aL (fun h=>h) (fun h=>h) E (fun j G=>by grind),N⟩;show _+(10*s.length+(if A.gr.aL A.aP then 5 else 0)+A.gW+7*(A.dA k o).U)<=10*s.length+(if A.gr.aL A.aP then 5 else 0)+A.gW+7*A.U;omega
 .grind
 .obtain⟨k,ek⟩:=bU (u-40);rw[<-ek]at hx ⊢;have d:(A.out k).aL A.aU=true:=by grind
  have H:k<8:=aj;obtain⟨n1,n2,T,U,n5,n6,n7,n8,n9⟩:=yg (C.wr _) d hx;obtain⟨q1,_⟩:=oU hx;obtain⟨p1,p2,p3⟩:=qix d hx;have B:=t.o k;have w:=U.pr.length_le;have m:vV f:=⟨by grind [cases yQ,cases vS,bI],dx T.b U.sz,T.ne⟩;have hg:=of_decide_eq_true d;have he:((A.out k).dF A.aU).2<=(A.out k).upto A.aU:=yc _ _ _;have x3:=(M9 (A.out k) A.aU).1;have P:(A.out k).dF A.aU=iN 0 (A.out k).eH.rs ((A.out k).upto A.aU):=by show iN (A.out k).eH.fl (A.out k).eH.rs _=_;rw[B.a.fl];rfl
  obtain⟨_,V,_,_⟩:=Dt (A.out k).eH.rs 0 ((A.out k).upto A.aU) B.a.so (fun _ _=>eG _);rw[<-P]at V;have h7:bI f=f.aC+f.data.size:=rfl;have ea:o.eH=vG (A.out k).eH f:=by rw[q1];rfl
  have x2:o.u+max 1 f.data.size<=(A.out k).u:=by have F:=IQ (a:=f.aC) (b:=f.aC+max 1 f.data.size) B.a.so (xL B.a m).so (fun p hp=>(qW B.a m p).2 (.inl hp)) (fun p y g2=>⟨V p aj aj,(qW B.a m p).2 (.inr (by unfold Pl;grind))⟩) ((A.out k).aB.length+1);grind [Ot.u,Ot.nw]
  have O:∀j,(A.dA k o).out j=if j=k then o else A.out j:=fun j=>by grind [gL]
  have K:(A.dA k o).U+(if k<8 then max 1 f.data.size else 0)<=A.U:=Al (j:=k) 8 (fun j _ D=>by grind) (fun _=>by grind);rw[dN H]at K;have iD:=qp7 (f:=f) n1 (by grind) (fT m.o) (fT m.e);have x0:=uQ A k o aj;have hy:=C.sp;have L:(A.dA k o).aU=A.aN-(A.dA k o).pO:=rfl;have x4:A.aU=A.aN-A.pO:=rfl;have N:KM A (A.dA k o):=⟨id,fun _=>id,fun j=>by grind [Ot.nw]⟩;refine⟨?_,aj,N.aL (fun h=>h) (fun h=>h) E (fun j G=>?_),N⟩;.show _+(10*s.length+(if A.gr.aL A.aP then 5 else 0)+A.gW+7*(A.dA k o).U)<=10*s.length+(if A.gr.aL A.aP then 5 else 0)+A.gW+7*A.U;omega
  .rw[O]at G;split at G;.grind
   .obtain⟨p,F,J⟩:=(yO (t.o j).a _).1 G;have:=n6.dI;exact(yO (t.o j).a _).2 ⟨p,gK F (Yr aj),J⟩
