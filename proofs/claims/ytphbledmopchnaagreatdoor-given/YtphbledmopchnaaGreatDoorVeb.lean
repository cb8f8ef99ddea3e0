import Derived.Test.YtphbledmopchnaaGreatDoorVdf
import Derived.Test.YtphbledmopchnaaGreatDoorVea
open Int renaming reduceEq->fB
open List renaming replicate->eB,getElem_of_mem->fA
open Nat renaming le_of_eq->eT
set_option maxHeartbeats 4000000
set_option maxRecDepth 100000
set_option linter.all false
open Go renaming World->Wq
set_option linter.all false
namespace Go.Proofs.YtphbledmopchnaaGreatDoor.Sd
open St Tryz
variable {A A' B:av}{f:Fr}
def Tk(B:av)(f:Fr):Prop:=∀t k x,FF f t k x->Has B t k x
def Hm(B a:av):Prop:=∀t k x,Has B t k x->Has a t k x
def Tk.mono{a}(h:Tk B f)(g:Hm B a):Tk a f:=fun t k x q=>g _ _ _ (h _ _ _ q)
def Pm(A:av)(L:List Fr):Prop:=∀t k x,Aw A t k x->Cm A t k x\/∃f∈L,FF f t k x
structure LI (A B:av) (toB toA:List (Nat×List Fr)):Prop where
 aw:Pm A (bQ A.aM)
 cm:∀t k x,Cm A t k x->Has B t k x
 wt:∀z∈A.aM++A.bV,Rg.Mem B.aT.rs z.1->∀f∈z.2.bQ,Tk B f
 ak:∀y∈toA,∀g∈y.2,g.aD=2->∀r∈g.ranges,∀z∈A.aM++A.bV,r.1<=z.1->z.1<=r.2->∀f∈z.2.bQ,Tk B f
 pk:∀y∈toB,∀z∈A.aM++A.bV,z.1=y.1->∀f∈z.2.bQ,∃g∈y.2,∀t k x,FF f t k x->FF g t k x
def Pn{g}(K:av->Prop):∀(F:List Fr) (A),(∀N f,f∈F->K N->K (g N f))->K A->K (F.foldl g A)
 |[],_,_,h=>h
 |f::t,A,hs,h=>Pn K t _ (fun N x a=>hs N x (by simp[a])) (hs A f aR h)
structure Bk (A A':av):Prop where
 hm:Hm A A'
 ow:A'.aM=A.aM
 ls:A'.bV=A.bV
 ca:A'.aT=A.aT
 nx:A'.next=A.next
 nm:A'.named=A.named
 an:A'.bn=A.bn
 tk:A'.aV=A.aV
 qu:A'.aQ=A.aQ
 ga:A'.gr.ahead=A.gr.ahead
 ia:∀k,(A'.bH k).gr.ahead=(A.bH k).gr.ahead
def Bk.refl(A):Bk A A:=⟨fun _ _ _ h=>h,rfl,rfl,rfl,rfl,rfl,rfl,rfl,rfl,rfl,fun _=>rfl⟩
def Bk.trans{A B C}(h:Bk A B)(g:Bk B C):Bk A C:=⟨fun _ _ _ x=>g.hm _ _ _ (h.hm _ _ _ x),g.ow.trans h.ow,g.ls.trans h.ls,g.ca.trans h.ca,g.nx.trans h.nx,g.nm.trans h.nm,g.an.trans h.an,g.tk.trans h.tk,g.qu.trans h.qu,g.ga.trans h.ga,fun k=>(g.ia k).trans (h.ia k)⟩
theorem EP(A k o)(h:(A.out k).aN<=o.aN):Bk A (A.dA k o):=
 ⟨fun t j x=>by rcases t with _|_|_|t<;>simp only[Has]<;>grind [gL,Jk,qm3],rfl,rfl,rfl,rfl,rfl,rfl,rfl,rfl,rfl,fun _=>rfl⟩
theorem qjm(A k g)(h:g.ahead=(A.bH k).gr.ahead):Bk A (A.eZ k {A.bH k with gr:=g}):=
 ⟨fun t j x=>by rcases t with _|_|_|t<;>simp only[Has]<;>grind [fQ,Ph,qm4,Got],rfl,rfl,rfl,rfl,rfl,rfl,rfl,rfl,rfl,fun j=>by grind [fQ]⟩
def Vi(A g)(h:g.ahead=A.gr.ahead):Bk A {A with gr:=g}:=⟨fun t j x=>by rcases t with _|_|_|t<;>exact id,rfl,rfl,rfl,rfl,rfl,rfl,rfl,rfl,h,fun _=>rfl⟩
def Vj(A f):Bk A (A.iU f)/\Bk A (A.gJ f):=by
 unfold av.iU av.gJ;repeat' split
 all_goals first|exact⟨EP _ _ _ (aI _),EP _ _ _ (aI _)⟩|exact⟨qjm _ _ _ rfl,qjm _ _ _ rfl⟩|exact⟨Vi _ _ rfl,Vi _ _ rfl⟩
structure LoL (A A':av):Prop where
 hm:Hm A A'
 cm:∀t k x,Cm A' t k x↔Cm A t k x
 aw:Pm A (bQ A.aM)->Pm A' (bQ A'.aM)
 Ar:(∀z∈A'.aM,z∈A.aM/\A.g_ z=false)/\∀z∈A'.aM++A'.bV,z∈A.aM++A.bV
 ca:A'.aT=A.aT
 nx:A'.next=A.next
 nm:A'.named=A.named
 an:A'.bn=A.bn
 tk:A'.aV=A.aV
 qu:A'.aQ=A.aQ
 ga:A'.gr.ahead=A.gr.ahead
 ia:∀k,(A'.bH k).gr.ahead=(A.bH k).gr.ahead
 no:(∀z∈A.aM,A.g_ z=false)->A'=A
theorem ER(l:Bd A)(h:A.kD A'):LoL A A':=by
 unfold av.kD at h;split at h
 .rename_i r;obtain⟨o,p,rfl⟩:=h;have w:∀f∈bQ o,f∈bQ (A.aM.filter fun x=> !A.g_ x):=fun f i=>by
   obtain⟨x,d,i⟩:=sQ.1 i;exact sQ.2 ⟨x,p.mem_iff.1 d,i⟩
  have m:=u_ fun x d=>l.wy x (dY.1 (p.mem_iff.1 d)).1;have B:∀k,(A.lY.out k).aN=(A.out k).aN:=fun k=>by show((A.outs.map jN).getD k vR).aN=(A.outs.getD k vR).aN;grind [jN,Ot.kY]
  have s:∀k,A.lY.bH k=if k<A.ins.length then iV (A.bH k)else A.bH k:=fun k=>by show(A.ins.map iV).getD k xk=if k<A.ins.length then iV (A.ins.getD k xk)else A.ins.getD k xk;grind
  have key:=Pn (g:=av.iU) (fun N=>Bd N/\Bk A.lY N/\(∀t k x,Cm N t k x↔Cm A t k x)/\Pm N (bQ (A.aM.filter fun x=> !A.g_ x))) (bQ o) A.lY (fun N f i ⟨b,k,c,a⟩=>by have q:=fun t k x=>qcm (t:=t) (k:=k) (x:=x) b (m f i);refine⟨GQ b f (m f i),k.trans (Vj N f).1,fun t k x=>(q t k x).2.2.trans (c t k x),fun t k x d=>?_⟩;grind [Aw,Pm]) ⟨GX l,Bk.refl _,fun t k x=>Pj.2,fun t k x d=>.inl (Pj.1 d)⟩;obtain⟨b,k,c,a⟩:=key;refine⟨fun t j x d=>k.hm t j x ?_,c,fun _=>by rw[k.ow];exact a,⟨fun z e=>?_,fun z e=>?_⟩,k.ca,k.nx,k.nm,k.an,k.tk,k.qu,k.ga,fun j=>(k.ia j).trans ?_,fun y=>?_⟩;.have n:A.lY.aN=A.aN:=rfl;rcases t with _|_|_|t<;>simp only[Has]at d ⊢<;>grind [iV,Got]
  .rw[k.ow]at e;obtain⟨a,b⟩:=dY.1 e;grind
  .rw[k.ow,k.ls]at e;have u:A.lY.aM=A.aM.filter fun x=> !A.g_ x:=rfl;have v:A.lY.bV=(A.bV++A.aM.filter A.g_).filter fun x=> !decide (x.1+64<A.next):=rfl;grind
  .rw[s];split<;>rfl
  grind
 .rename_i r;rw[h];exact⟨fun _ _ _ h=>h,fun _ _ _=>.rfl,id,⟨fun z e=>⟨e,by grind⟩,fun z e=>e⟩,rfl,rfl,rfl,rfl,rfl,rfl,rfl,fun _=>rfl,fun _=>rfl⟩
structure PJ (A:av) (L:bY) (M:av) (aH:bY) (l:List Fr) (pk:List (Nat×List Fr)):Prop where
 lf:∀r∈aH,r∈L
 hm:Hm A M
 cm:∀t k x,Cm M t k x↔Cm A t k x
 aw:Pm M (bQ M.aM++l)
 sm:M.aT=A.aT/\M.bV=A.bV/\M.named=A.named/\M.bn=A.bn/\M.aV=A.aV/\A.next<=M.next
 ah:M.gr.ahead=A.gr.ahead/\∀k,(M.bH k).gr.ahead=(A.bH k).gr.ahead
 al:∀g∈l,g.aD=2->∀r∈g.ranges,r∈L
 ap:∀y∈pk,A.next<=y.1/\∀g∈y.2,g.aD=2->∀r∈g.ranges,r∈L
 wy:∀z∈M.aM,z∈A.aM\/A.next<=z.1/\z.2.aV=A.aV/\∃fs,(z.1,fs)∈pk/\z.2.bQ=again fs/\fZ fs=true
theorem Po{b c u d}(g:A.frame b u d=some (f,A',c)):(A'.aT=A.aT/\A'.bV=A.bV/\A'.named=A.named/\A'.bn=A.bn/\A'.aV=A.aV/\A'.next=A.next/\A'.aM=A.aM)/\(A'.gr.ahead=A.gr.ahead/\∀k,(A'.bH k).gr.ahead=(A.bH k).gr.ahead)/\(∀r∈c,r∈b)/\(f.aD=2->∀r∈f.ranges,r∈b\/A.aQ≠[]):=by
 rcases oV g with⟨e,n,_,rfl,rfl,rfl⟩|⟨e0,rfl,⟨e,rfl,rfl⟩|⟨_,e,rfl,rfl⟩|⟨_,e,rfl,rfl⟩|⟨e,q,hq,rfl⟩|⟨e,o,hx,rfl⟩⟩;.exact⟨⟨rfl,rfl,rfl,rfl,rfl,rfl,rfl⟩,⟨rfl,fun _=>rfl⟩,fun r a=>yZ a,fun _ r a=>.inl (tF a)⟩
 .exact⟨⟨rfl,rfl,rfl,rfl,rfl,rfl,rfl⟩,⟨rfl,fun _=>rfl⟩,fun r a=>a,fun h=>by cases h⟩
 .exact⟨⟨rfl,rfl,rfl,rfl,rfl,rfl,rfl⟩,⟨rfl,fun k=>by grind [fQ,Gn.aw]⟩,fun r a=>a,fun h=>by cases h⟩
 .exact⟨⟨rfl,rfl,rfl,rfl,rfl,rfl,rfl⟩,⟨rfl,fun _=>rfl⟩,fun r a=>a,fun h=>by cases h⟩
 .exact⟨⟨rfl,rfl,rfl,rfl,rfl,rfl,rfl⟩,⟨rfl,fun _=>rfl⟩,fun r a=>a,fun _ r a=>.inr (by rw[hq];simp)⟩
 .exact⟨⟨rfl,rfl,rfl,rfl,rfl,rfl,rfl⟩,⟨rfl,fun _=>rfl⟩,fun r a=>a,fun _ r a=>by rw[(oU hx).2.2.2.2.2]at a;cases a⟩
theorem qhx{M:av}{l}(c:f∈bQ M.aM++l)(d:f.aD=4\/f.aD=5\/f.aD=6\/f.aD=3):f∈bQ (M.eO l).aM:=by
 show f∈bQ (if fZ l then M.aM++[(M.next,⟨again l,M.aV⟩)]else M.aM);have e:bQ (M.aM++[(M.next,(⟨again l,M.aV⟩:sS))])=bQ M.aM++again l:=by simp[bQ]
 have a:f∈l->fZ l=true:=fun h=>za.2 ⟨f,h,dZ⟩;have b:f∈l->f∈again l:=fun h=>dY.2 ⟨h,dZ⟩;grind
structure PaL (A A':av) (pk:List (Nat×List Fr)):Prop where
 hm:Hm A A'
 cm:∀t k x,Cm A' t k x↔Cm A t k x
 aw:Pm A' (bQ A'.aM)
 sm:A'.aT=A.aT/\A'.named=A.named/\A'.bn=false/\A'.aV=A.aV/\A.next<=A'.next
 ah:A'.gr.ahead=A.gr.ahead/\∀k,(A'.bH k).gr.ahead=(A.bH k).gr.ahead
 ap:∀y∈pk,A.next<=y.1/\∀g∈y.2,g.aD=2->∀r∈g.ranges,r∈A.aT.rs
 wy:∀z∈A'.aM++A'.bV,z∈A.aM++A.bV\/A.next<=z.1/\∃fs,(z.1,fs)∈pk/\z.2.bQ=again fs
 wo:∀z∈A'.aM,z∈A.aM/\A.g_ z=false\/A.next<=z.1/\z.2.aV=A.aV/\∃fs,(z.1,fs)∈pk/\fZ fs=true
theorem yJ{v}(h:Pm A (bQ A.aM))(N:fG A)(K:dL A B)(L:dL B A)(G:Bd A)(Q:A.next+24<dH)(S:A.jA A' v):PaL A A' v:=by
 obtain⟨i,H,e⟩:=S;obtain⟨W,_,_⟩:=uJ N K L G H;have p:=ER G H;have P:∀r∈Sd.lf i,r∈A.aT.rs:=fun r c=>by grind [Sd.lf,cases LoL]
 obtain⟨J,j⟩:=Ah Q (PJ {i with bn:=false} (Sd.lf i)) (fun M I u au f Z J l v w j T U C=>by
   have E:=fun t k x=>Pk (t:=t) (k:=k) (x:=x) w.loc w.bd T U C;obtain⟨s1,s2,X,Y⟩:=Po C;have O:=fun k r c=>(Y k r c).elim id fun q=>by
    rcases oV C with⟨e,n,_,rfl,rfl,rfl⟩|⟨e0,rfl,⟨e,rfl,rfl⟩|⟨_,e,rfl,rfl⟩|⟨_,e,rfl,rfl⟩|⟨e,q,hq,rfl⟩|⟨e,o,d,rfl⟩⟩;.exact tF c
    .cases k
    .cases k
    .cases k
    .have:=(w.loc.q f (by rw[hq];simp)).kd;omega
    .rw[(oU d).2.2.2.2.2]at c;cases c
   refine⟨fun r c=>j.lf r (X r c),fun t k x d=>(E t k x).2.2.2 (j.hm t k x d),fun t k x=>(E t k x).2.2.1.trans (j.cm t k x),fun t k x d=>?_,by have:=j.sm;grind,by have:=j.ah;grind,fun g s=>?_,j.ap,by have:=j.wy;grind⟩
   .rcases(E t k x).1 d with g|g
    .rcases j.aw t k x g with g|⟨f',a,b⟩;.grind
     grind
    grind
   grind [cases PJ]) (fun M I l v j R=>by
   refine⟨j.lf,j.hm,j.cm,fun t k x d=>?_,by have:=j.sm;exact⟨this.1,this.2.1,this.2.2.1,this.2.2.2.1,this.2.2.2.2.1,Nat.le_succ_of_le this.2.2.2.2.2⟩,j.ah,(fun g s=>by cases s),fun y D=>?_,fun z m=>?_⟩
   .rcases j.aw t k x d with g|⟨f,a,b⟩;.exact .inl g
    .refine .inr ⟨f,?_,b⟩;have hk:f.aD=4\/f.aD=5\/f.aD=6\/f.aD=3:=by rcases t with _|_|_|t<;>simp only[FF]at b<;>grind
     grind [qhx]
   .grind [cases PJ]
   .have V:z∈(if fZ l then M.aM++[(M.next,(⟨again l,M.aV⟩:sS))]else M.aM):=m;grind [cases PJ]) ((Sd.lf i).length+14) _ (Sd.lf i) q0 [] W lq0 ⟨fun r c=>c,fun _ _ _ h=>h,fun _ _ _=>.rfl,by rw[lG];exact p.aw h,⟨rfl,rfl,rfl,rfl,rfl,aI _⟩,⟨rfl,fun _=>rfl⟩,(fun g s=>by cases s),(fun y D=>by cases D),fun z m=>.inl m⟩
 rw[e]at j;have F:=j.aw;rw[lG]at F;refine⟨fun t k x d=>j.hm t k x (p.hm t k x d),fun t k x=>(j.cm t k x).trans (p.cm t k x),F,?_,?_,fun y D=>?_,fun z m=>?_,fun z m=>?_⟩;.grind [cases PJ,cases LoL]
 .exact⟨j.ah.1.trans p.ga,fun k=>(j.ah.2 k).trans (p.ia k)⟩
 .grind [cases PJ,cases LoL]
 .grind [cases PJ,cases LoL]
 grind [cases PJ,cases LoL]
end Go.Proofs.YtphbledmopchnaaGreatDoor.Sd
set_option linter.all false
namespace Go.Proofs.YtphbledmopchnaaGreatDoor.Sd
open St Tryz
variable {R S:av}{e:Nat}{f:Fr}
structure Mo (A A':av):Prop where
 hm:Hm A A'
 aw:∀t k x,Aw A t k x->Aw A' t k x
 cg:∀t k x,Cm A t k x->Cm A' t k x
 ow:A'.aM.Sublist A.aM
 ls:A'.bV.Sublist A.bV
 nx:A'.next=A.next/\A'.aV=A.aV/\A'.aQ=A.aQ
 ot:∀k,(A'.out k).dI=(A.out k).dI/\(A'.out k).aB=(A.out k).aB/\(A'.out k).bL=(A.out k).bL/\(A'.out k).nt.bG=(A.out k).nt.bG/\(A'.out k).nt.aC=(A.out k).nt.aC/\(A'.out k).all=(A.out k).all
 h:∀k,(A.bH k).fq<=(A'.bH k).fq/\((A.bH k).cB=true->(A'.bH k).cB=true)/\(A.bH k).aY<=(A'.bH k).aY/\((A.bH k).state≠0->(A'.bH k).state=(A.bH k).state)
 ah:A'.gr.ahead=A.gr.ahead/\∀k,(A'.bH k).gr.ahead=(A.bH k).gr.ahead
theorem Mo.refl(A):Mo A A:=⟨fun _ _ _ h=>h,fun _ _ _ h=>h,fun _ _ _ h=>h,List.Sublist.refl _,List.Sublist.refl _,⟨rfl,rfl,rfl⟩,fun _=>⟨rfl,rfl,rfl,rfl,rfl,rfl⟩,fun _=>⟨aI _,id,aI _,fun _=>rfl⟩,rfl,fun _=>rfl⟩
theorem Mo.trans{A B C}(h:Mo A B)(g:Mo B C):Mo A C:=
 ⟨fun t k x q=>g.hm t k x (h.hm t k x q),fun t k x q=>g.aw t k x (h.aw t k x q),fun t k x q=>g.cg t k x (h.cg t k x q),g.ow.trans h.ow,g.ls.trans h.ls,by grind [cases Mo],fun k=>by grind [cases Mo],fun k=>by grind [cases Mo],by grind [cases Mo]⟩
theorem MU(A k i)(d:i.gr=(A.bH k).gr)(e:(A.bH k).fq<=i.fq/\((A.bH k).cB=true->i.cB=true)/\(A.bH k).aY<=i.aY/\((A.bH k).state≠0->i.state=(A.bH k).state))(f:∀p,Got (A.bH k) p->Got i p)(g:(A.bH k).bG=true->i.bG=true/\i.rel<=(A.bH k).rel):Mo A (A.eZ k i)/\(∀t a x,Aw (A.eZ k i) t a x↔Aw A t a x)/\(∀t a x,Cm (A.eZ k i) t a x↔Cm A t a x):=by
 have b:∀t a x,Aw (A.eZ k i) t a x↔Aw A t a x:=fun t a x=>by rcases t with _|_|_|t<;>simp only[Aw]<;>grind [fQ,Ph,qcl]
 have c:∀t a x,Cm (A.eZ k i) t a x↔Cm A t a x:=fun t a x=>by rcases t with _|_|_|t<;>simp only[Cm]<;>grind [fQ,Ph,qcl]
 exact⟨⟨fun t a x=>by rcases t with _|_|_|t<;>simp only[Has]<;>grind [fQ,Ph,qm4],fun t a x=>(b t a x).2,fun t a x=>(c t a x).2,List.Sublist.refl _,List.Sublist.refl _,⟨rfl,rfl,rfl⟩,fun _=>⟨rfl,rfl,rfl,rfl,rfl,rfl⟩,fun j=>by grind [fQ],rfl,fun j=>by grind [fQ]⟩,b,c⟩
structure LdJ (A:av) (F F2:List Fr) (N:av):Prop where
 lo:N.outs.length=8/\N.ins.length=8
 bd:Bd N
 bk:Bk A N
 aw:∀t k x,Aw A t k x->Aw N t k x
 cg:∀t k x,Cm A t k x->Cm N t k x
 ai:∀t k x,Aw N t k x->Cm N t k x\/∃f∈bQ A.aM++F2,FF f t k x
 cb:∀t k x,Cm N t k x->Cm A t k x\/∃f∈F,FF f t k x
 ot:∀k,(N.out k).dI=(A.out k).dI/\(N.out k).aB=(A.out k).aB/\(N.out k).bL=(A.out k).bL/\(N.out k).nt.bG=(A.out k).nt.bG/\(N.out k).nt.aC=(A.out k).nt.aC/\(N.out k).all=(A.out k).all
 h:∀k,(N.bH k).fq=(A.bH k).fq/\(N.bH k).cB=(A.bH k).cB/\(N.bH k).aY=(A.bH k).aY/\(N.bH k).state=(A.bH k).state
theorem qco{A F}(hF:∀f∈F,Qt f):∀(a) (N),(∀f∈a,f∈F)->LdJ A F a N->LdJ A F [] (a.foldl av.gJ N)
 |[],N,_,h=>h
 |f::t,N,hs,h=>by
  have b:=hF f (hs f aR);have c:=fun t k x=>qcn (t:=t) (k:=k) (x:=x) h.lo h.bd b;refine qco hF t (N.gJ f) (fun g d=>hs g (by simp[d])) ⟨?_,GR h.bd f b,h.bk.trans (Vj N f).2,fun t k x q=>(c t k x).2.1 (h.aw t k x q),fun t k x q=>(c t k x).2.2.2 (.inl (h.cg t k x q)),fun t k x q=>?_,fun t k x q=>?_,fun k=>?_,fun k=>?_⟩;.have:=h.lo;grind [av.gJ,av.dA,av.eZ,jD]
  .grind [cases LdJ]
  .grind [cases LdJ]
  .have:=h.ot k;grind [av.gJ,gL,Ph,qhv,Ot.cm,Nt.cm]
  grind [cases LdJ,av.gJ,fQ,Jk,qhw]
theorem qhy{A A' l}(v:fG A)(j:Bd A)(E:(l.getD 0 (0,0)).2<A.next)(D:A.uH l A')(C:Pm A (bQ A.aM)):Mo A A'/\Pm A' (bQ A'.aM)/\(∀t k x,Cm A' t k x->Cm A t k x\/∃z∈A.aM++A.bV,names l z.1=true/\∃g∈z.2.bQ,FF g t k x)/\A'.aT=A.aT/\A'.bn=A.bn/\A'.named=max A.named ((l.getD 0 (0,0)).2+1)/\∀z∈A'.aM,names l z.1=false:=by
 obtain⟨s,u,y,F,rfl⟩:=D;have B:Bd (A.GU l):=⟨j.o,j.i,j.g,j.lm,j.mt,fun x m=>j.wy x (dY.1 m).1,fun x m=>j.ls x (dY.1 m).1,j.ky.sublist (wP.append wP),dx (tH _ _) j.wl,dx (tH _ _) j.ll,uN.2 ⟨j.nm,E⟩,j.cm,fun x m=>j.tk x (dY.1 m).1,j.ib⟩;have hF:∀f∈bQ s++bQ u,Qt f/\∃z∈A.aM++A.bV,names l z.1=true/\f∈z.2.bQ:=fun f i=>by
  rcases iJ.1 i with i|i;.obtain⟨x,m,i⟩:=sQ.1 i;obtain⟨n,o⟩:=dY.1 (y.mem_iff.1 m);exact⟨(j.wy x n).2.2 f i,x,Az _ n,o,i⟩
  .obtain⟨x,m,i⟩:=sQ.1 i;obtain⟨n,o⟩:=dY.1 (F.mem_iff.1 m);exact⟨(j.ls x n).2.2 f i,x,yY _ n,o,i⟩
 have r:∀f∈bQ A.aM,f∈bQ (A.GU l).aM++(bQ s++bQ u):=fun f i=>by
  obtain⟨x,m,i⟩:=sQ.1 i;by_cases e:names l x.1=true;.exact yY _ (Az _ (sQ.2 ⟨x,y.mem_iff.2 (dY.2 ⟨m,e⟩),i⟩))
  .exact Az _ (sQ.2 ⟨x,dY.2 ⟨m,by simpa using e⟩,i⟩)
 have K:=qco (A:=A.GU l) (fun f i=>(hF f i).1) (bQ s++bQ u) (A.GU l) (fun f i=>i) ⟨⟨v.lo,v.li⟩,B,Bk.refl _,fun _ _ _ h=>h,fun _ _ _ h=>h,fun t k x q=>(C t k x q).imp id fun⟨f,a,b⟩=>⟨f,r f a,b⟩,fun _ _ _ h=>.inl h,fun _=>⟨rfl,rfl,rfl,rfl,rfl,rfl⟩,fun _=>⟨rfl,rfl,rfl,rfl⟩⟩;have p:=K.ai;rw[lG,<-K.bk.ow]at p;refine⟨⟨K.bk.hm,K.aw,K.cg,by rw[K.bk.ow];exact wP,by rw[K.bk.ls];exact wP,⟨K.bk.nx,K.bk.tk,K.bk.qu⟩,K.ot,fun k=>?_,K.bk.ga,K.bk.ia⟩,p,fun t k x q=>?_,K.bk.ca,K.bk.an,K.bk.nm,fun z w=>?_⟩;.obtain⟨a,b,c,d⟩:=K.h k;exact⟨eT a.symm,fun e=>b.trans e,eT c.symm,fun _=>d⟩
 .rcases K.cb t k x q with g|⟨f,a,b⟩;.exact .inl g
  .obtain⟨_,z,G,H,I⟩:=hF f a;grind
 .rw[K.bk.ow]at w;simpa using(dY.1 w).2
theorem Yc{b}(l:fG R)(m:fG S)(j:dL R S)(k:dL S R)(i:qj S R f)(h:R.gH f b e):(f.aD=2/\(f.ranges.getD 0 (0,0)).2<R.next/\R.uH f.ranges b)\/f.aD≠2/\((f.aD=4/\f.aF.toNat<8/\yQ (S.out f.aF.toNat) f/\b=R.eZ f.aF.toNat ((R.bH f.aF.toNat).take f))\/(f.aD=5/\b={R with aN:=max R.aN f.aN})\/(f.aD=6/\f.aF.toNat<8/\b=R.dA f.aF.toNat {R.out f.aF.toNat with aN:=max (R.out f.aF.toNat).aN f.aN})\/(f.aD=3/\f.aF.toNat<8/\A8 (S.out f.aF.toNat) f/\b=R.eZ f.aF.toNat ((R.bH f.aF.toNat).gH f))\/(f.aD=7/\∃v,b={R.pQ f with iv:=v})):=by
 have g:=(EL l m j k f i).1;unfold av.gH at h;rcases i with⟨a,c,d⟩|⟨a,c,d,k4⟩|⟨a,c⟩|⟨a,c,d,k4⟩|⟨a,c,d,k4⟩|a;.grind
 .grind [av.take]
 .simp only[av.take,a,fB,reduceIte]at h g;grind
 .simp only[av.take,a,fB,reduceIte]at h g;grind
 .simp only[av.take,a,fB,reduceIte]at h g;grind
 .have:=a.kd;grind
structure TkO (R R':av) (f:Fr):Prop where
 mo:Mo R R'
 ai:Pm R' (bQ R'.aM)
 cb:∀t k x,Cm R' t k x->Cm R t k x\/f.aD=2/\∃z∈R.aM++R.bV,names f.ranges z.1=true/\∃g∈z.2.bQ,FF g t k x
 tk:Tk R' f
 ca:R'.aT=R.aT
 an:R'.bn=R.bn
 nm:R'.named=R.named\/f.aD=2/\R'.named=max R.named ((f.ranges.getD 0 (0,0)).2+1)
 nw:f.aD=2->∀z∈R'.aM,names f.ranges z.1=false
theorem Yd(i:dP)(f):i.fq<=(i.take f).fq/\(i.cB=true->(i.take f).cB=true)/\(i.take f).rel=i.rel:=by unfold dP.take dP.hold;grind
theorem qcp{w}(o:fG R)(s:fG S)(A:dL R S)(r:dL S R)(z:Bd R)(B:qj S R f)(h:R.gH f w e)(m:Pm R (bQ R.aM)):TkO R w f:=by
 have J:=o.lo;have K:=o.li;rcases Yc o s A r B h with⟨k,D,C⟩|⟨n,⟨k,hs,hd,rfl⟩|⟨k,rfl⟩|⟨k,hs,rfl⟩|⟨k,hs,hd,rfl⟩|⟨k,v,rfl⟩⟩;.obtain⟨a,b,c,d,e,g,i⟩:=qhy o z D C m;exact⟨a,b,fun t l x q=>(c t l x q).imp id fun q=>⟨k,q⟩,fun t l x q=>by rcases t with _|_|_|t<;>simp only[FF]at q<;>omega,d,e,.inr ⟨k,g⟩,fun _=>i⟩
 .have g:=fun p=>qck (s.wr _) (r.rd f.aF.toNat) f hd p;obtain⟨G,H,I⟩:=Yd (R.bH f.aF.toNat) f;obtain⟨a,b,c⟩:=MU R f.aF.toNat ((R.bH f.aF.toNat).take f) (UO _ f) ⟨G,H,eT (J7 _ f).symm,fun _=>GJ _ f⟩ (fun p E=>g p (.inr E)) (fun q=>⟨(R6 _ f).trans q,eT I⟩);exact⟨a,fun t l x q=>(m t l x ((b t l x).1 q)).imp (c t l x).2 id,fun t l x q=>.inl ((c t l x).1 q),fun t l x q=>by rcases t with _|_|_|t<;>simp only[FF,Has]at q ⊢<;>grind [fQ],rfl,rfl,.inl rfl,fun q=>absurd q n⟩
 .refine⟨⟨fun t l x q=>?_,fun _ _ _ h=>h,fun _ _ _ h=>h,List.Sublist.refl _,List.Sublist.refl _,⟨rfl,rfl,rfl⟩,fun _=>⟨rfl,rfl,rfl,rfl,rfl,rfl⟩,fun _=>⟨aI _,id,aI _,fun _=>rfl⟩,rfl,fun _=>rfl⟩,m,fun _ _ _ h=>.inl h,fun t l x q=>?_,rfl,rfl,.inl rfl,fun q=>absurd q n⟩
  .rcases t with _|_|_|t;.exact q
   .exact dx q (KR _ _)
   .exact q
   .exact q
  .rcases t with _|_|_|t<;>simp only[FF]at q
   .omega
   .exact dx q.2 (qk8 _ _)
   .omega
   .omega
 .have b:=EP R f.aF.toNat {R.out f.aF.toNat with aN:=max (R.out f.aF.toNat).aN f.aN} (KR _ _);have y:∀t l x,Aw (R.dA f.aF.toNat {R.out f.aF.toNat with aN:=max (R.out f.aF.toNat).aN f.aN}) t l x↔Aw R t l x:=fun t l x=>by rcases t with _|_|_|t<;>simp only[Aw]<;>grind [gL,Jk,Pg]
  have u:∀t l x,Cm (R.dA f.aF.toNat {R.out f.aF.toNat with aN:=max (R.out f.aF.toNat).aN f.aN}) t l x↔Cm R t l x:=fun t l x=>by rcases t with _|_|_|t<;>simp only[Cm]<;>grind [gL,Jk,Pg]
  exact⟨⟨b.hm,fun t l x=>(y t l x).2,fun t l x=>(u t l x).2,List.Sublist.refl _,List.Sublist.refl _,⟨rfl,rfl,rfl⟩,fun j=>by grind [gL],fun _=>⟨aI _,id,aI _,fun _=>rfl⟩,rfl,fun _=>rfl⟩,fun t l x q=>(m t l x ((y t l x).1 q)).imp (u t l x).2 id,fun t l x q=>.inl ((u t l x).1 q),fun t l x q=>by rcases t with _|_|_|t<;>simp only[FF,Has]at q ⊢<;>grind [gL],rfl,rfl,.inl rfl,fun q=>absurd q n⟩
 .have g:=fun p=>Yb (s.wr _) (r.rd f.aF.toNat) f hd p;have F:(R.bH f.aF.toNat).bG=true->(R.bH f.aF.toNat).wanted=(R.bH f.aF.toNat).rel:=fun q=>by unfold dP.wanted;rw[dN q]
  obtain⟨a,b,c⟩:=MU R f.aF.toNat ((R.bH f.aF.toNat).gH f) rfl ⟨aI _,fun _=>rfl,aI _,fun _=>rfl⟩ g (fun q=>⟨rfl,by rw[<-F q];exact Nat.min_le_left _ _⟩);exact⟨a,fun t l x q=>(m t l x ((b t l x).1 q)).imp (c t l x).2 id,fun t l x q=>.inl ((c t l x).1 q),fun t l x q=>by rcases t with _|_|_|t<;>simp only[FF,Has]at q ⊢<;>grind [fQ,dP.gH],rfl,rfl,.inl rfl,fun q=>absurd q n⟩
 .have e:∀t l x,FF f t l x->False:=fun t l x q=>by rcases t with _|_|_|t<;>simp only[FF]at q<;>omega
  unfold av.pQ;split<;>exact⟨⟨fun t l x q=>by rcases t with _|_|_|t<;>exact q,fun t l x q=>by rcases t with _|_|_|t<;>exact q,fun t l x q=>by rcases t with _|_|_|t<;>exact q,List.Sublist.refl _,List.Sublist.refl _,⟨rfl,rfl,rfl⟩,fun _=>⟨rfl,rfl,rfl,rfl,rfl,rfl⟩,fun _=>⟨aI _,id,aI _,fun _=>rfl⟩,rfl,fun _=>rfl⟩,fun t l x q=>m t l x (by rcases t with _|_|_|t<;>exact q),fun t l x q=>.inl (by rcases t with _|_|_|t<;>exact q),fun t l x q=>absurd q (e t l x),rfl,rfl,.inl rfl,fun q=>absurd q n⟩
end Go.Proofs.YtphbledmopchnaaGreatDoor.Sd
set_option linter.all false
namespace Go.Proofs.YtphbledmopchnaaGreatDoor.Sd
open St Tryz
variable {A A' B:av}{a b c d:List (Nat×List Fr)}
structure TaO (R R':av) (fs:List Fr):Prop where
 mo:Mo R R'
 ai:Pm R' (bQ R'.aM)
 cb:∀t k x,Cm R' t k x->Cm R t k x\/∃f∈fs,f.aD=2/\∃z∈R.aM++R.bV,names f.ranges z.1=true/\∃g∈z.2.bQ,FF g t k x
 tk:∀f∈fs,Tk R' f
 ca:R'.aT=R.aT
 an:R'.bn=R.bn
 nm:∀s,R.named<=s->(∀f∈fs,f.aD=2->(f.ranges.getD 0 (0,0)).2<s)->R'.named<=s
 nw:∀f∈fs,f.aD=2->∀z∈R'.aM,names f.ranges z.1=false
theorem Ec:∀(j) {R S R'},fG R->fG S->dL R S->dL S R->Bd R->Bd S->(∀f∈j,qj S R f)->Pm R (bQ R.aM)->jR R j R' 0->TaO R R' j
 |[],R,S,R',_,_,_,_,_,_,_,hI,h=>by constructor<;>grind [jR,Mo.refl,Pm]
 |f::t,R,S,R',hR,hS,l,i,bR,bS,hf,hI,h=>by
  obtain⟨m,u,r,h⟩:=h;obtain⟨rfl,s,b,_,_⟩:=GY hR hS l i bR bS f (hf f aR) r;rw[dN rfl]at h;have a:=qcp hR hS l i bR (hf f aR) r hI;have q:=Ec t s.loc hS s.ab s.ba b bS (fun g d=>(hf g (by simp[d])).mono (EB.refl _) s.le) a.ai h;have sub:∀z∈m.aM++m.bV,z∈R.aM++R.bV:=fun z e=>(a.mo.ow.append a.mo.ls).subset e;refine⟨a.mo.trans q.mo,q.ai,fun o k x c=>?_,fun g d=>?_,q.ca.trans a.ca,q.an.trans a.an,fun p l i=>q.nm p ?_ fun g d=>i g (by simp[d]),fun g d k z e=>?_⟩
  .rcases q.cb o k x c with c|⟨g,d,n,z,e,r⟩;.exact(a.cb o k x c).imp id fun⟨n,r⟩=>⟨f,aR,n,r⟩
   grind
  .rcases nQ.1 d with rfl|d;.exact a.tk.mono q.mo.hm
   .exact q.tk g d
  .have:=a.nm;grind
  .rcases nQ.1 d with rfl|d;.exact a.nw k z (q.mo.ow.subset e)
   .exact q.nw g d k z e
theorem came_mem{b}{s:NS}{m p}(h:Rg.gP s.rs)(a:Rg.Mem (s.add b m m).rs p):Rg.Mem s.rs p\/p=m:=by
 have key:=(Rg.EA s.rs m m p (aI _) h).1;unfold NS.add Rg.add at a;have e:¬m<max m s.fl->max m s.fl=m:=aj;split at a;.exact .inl a
 .rename_i c;rw[e c]at a;have:Rg.Mem (Rg.ins m m s.rs) p:=by
   split at a;.obtain⟨r,f,d⟩:=a;exact⟨r,KU f,d⟩
   .exact a
  grind
def LI.grow{i e}(h:LI A B e d)(g:Hm B i)(m:∀p,Rg.Mem i.aT.rs p->Rg.Mem B.aT.rs p):LI A i e d:=
 ⟨h.aw,fun t k x q=>g t k x (h.cm t k x q),fun z l n f j=>(h.wt z l (m _ n) f j).mono g,fun y s a b c r o z l p q f j=>(h.ak y s a b c r o z l p q f j).mono g,h.pk⟩
def LI.dJ(h:LI A B d c)(f:∀y∈a,y∈d)(g:∀y∈b,y∈c):LI A B a b:=
 ⟨h.aw,h.cm,h.wt,fun y e=>h.ak y (g y e),fun y e=>h.pk y (f y e)⟩
def LI.turn(h:LI A B b a)(c:A'.aM=A.aM)(d:A'.bV=A.bV)(f:∀t k x,Aw A' t k x->Aw A t k x)(e:∀t k x,Cm A' t k x↔Cm A t k x):LI A' B b a:=
 ⟨fun t k x q=>by rw[c];exact(h.aw t k x (f t k x q)).imp (e t k x).2 id,fun t k x q=>h.cm t k x ((e t k x).1 q),by rw[c,d];exact h.wt,by rw[c,d];exact h.ak,by rw[c,d];exact h.pk⟩
structure CaO (R R':av) (y:Nat×List Fr):Prop where
 mo:Mo R R'
 fl:R'.aT=R.aT\/R'.aT=R.aT.add 8 y.1 y.1
 fr:R.aT.has y.1=false->R'.aT=R.aT.add 8 y.1 y.1/\R'.bn=(R.bn||fZ y.2)/\(∀s,R.named<=s->(∀f∈y.2,f.aD=2->(f.ranges.getD 0 (0,0)).2<s)->R'.named<=s)/\∀f∈y.2,f.aD=2->∀z∈R'.aM,names f.ranges z.1=false
theorem LI.aT{R S A toR u}(j:LI R S u toR)(l:LI S R toR u)(P:fG R)(Q:fG S)(N:dL R S)(O:dL S R)(i:Bd R)(L:Bd S){y}(I:y∈toR)(G:y.1<S.next)(T:∀f∈y.2,qj S R f)(Z:S.next<=dH)(h:R.jJ y.1 y.2 A 0):LI A S u toR/\LI S A toR u/\CaO R A y:=by
 unfold av.jJ at h;split at h;.obtain⟨rfl,_⟩:=h;exact⟨j,l,Mo.refl _,.inl rfl,fun e=>by simp_all⟩
 .obtain⟨R0,o⟩:∃R0:av,R0={R with aT:=R.aT.add 8 y.1 y.1,bn:=R.bn||fZ y.2}:=⟨_,rfl⟩;have s:=GI P N O y.1 G (R.bn||fZ y.2);have K:Bd R0:=by rw[o];exact⟨i.o,i.i,i.g,i.lm,i.mt,i.wy,i.ls,i.ky,i.wl,i.ll,i.nm,Mi i.cm y.1 aj,i.tk,i.ib⟩
  rw[<-o]at h s;have W:Mo R R0:=by rw[o];exact⟨fun t _ _ h=>by rcases t with _|_|_|t<;>exact h,fun t _ _ h=>by rcases t with _|_|_|t<;>exact h,fun t _ _ h=>by rcases t with _|_|_|t<;>exact h,List.Sublist.refl _,List.Sublist.refl _,⟨rfl,rfl,rfl⟩,fun _=>⟨rfl,rfl,rfl,rfl,rfl,rfl⟩,fun _=>⟨aI _,id,aI _,fun _=>rfl⟩,rfl,fun _=>rfl⟩
  have J:Pm R0 (bQ R0.aM):=by rw[o];exact fun t k x q=>by have:=j.aw t k x;rcases t with _|_|_|t<;>exact this q
  have q:=Ec y.2 s.loc Q s.ab s.ba K L (fun f h=>(T f h).mono (EB.refl _) s.le) J h;have B:=W.trans q.mo;have sub:∀z∈A.aM++A.bV,z∈R.aM++R.bV:=fun z n=>(B.ow.append B.ls).subset n;refine⟨⟨q.ai,fun t k x c=>?_,fun z n=>j.wt z (sub z n),fun a C g F k r D z n=>j.ak a C g F k r D z (sub z n),fun a C z n=>j.pk a C z (sub z n)⟩,⟨l.aw,fun t k x c=>B.hm t k x (l.cm t k x c),fun z n v f m=>?_,fun a C b c d r D z n p X f m=>(l.ak a C b c d r D z n p X f m).mono B.hm,l.pk⟩,B,.inr (by rw[q.ca,o]),fun _=>⟨by rw[q.ca,o],by rw[q.an,o],fun Y H E=>q.nm Y (by grind) E,q.nw⟩⟩
  .rcases q.cb t k x c with c|⟨f,m,V,z,n,U,g,F,c⟩;.refine j.cm t k x ?_;rw[o]at c;rcases t with _|_|_|t<;>exact c
   .obtain⟨r,D,w⟩:=za.1 U;simp only[iY,decide_eq_true_eq]at w;exact j.ak y I f m V r D z (by grind) w.1 w.2 g F t k x c
  .rw[q.ca,o]at v;rcases came_mem i.cm.so v with g|g;.exact(l.wt z n g f m).mono B.hm
   .obtain⟨M,H,E⟩:=l.pk y I z n g f m;exact fun t k x c=>q.tk M H t k x (E t k x c)
theorem qhz{f}(a:snd f=true)(t k x)(h:FF f t k x):FF (norm f) t k x:=by rw[norm_eq f a];rcases t with _|_|_|t<;>simp only[FF]at h ⊢<;>rw[h.1]<;>simp only[fB,reduceIte]<;>grind [L8,Pl,bI]
theorem Iz(f)(a:snd f=true)(k:f.aD=2):(norm f).ranges=f.ranges:=by rw[norm_eq f a,b_ aj,dN k]
theorem LI.qoo{H}(h:LI A B b a)(C:fG A)(s:dL A B)(u:dL B A)(m:Bd A)(E:A.next+24<dH)(F:A.jA A' H)(S:∀y∈b,y.1<A.next)(R:∀y∈a,∀g∈y.2,g.aD=2->∀r∈g.ranges,r.2<A.next):LI A' B (b++vN H) a:=by
 have p:=yJ h.aw C s u m E F;have o:=xO C s u m E F;have N:∀x∈A.aM++A.bV,x.1<A.next:=fun x c=>by
  rcases iJ.1 c with c|c;.exact(m.wy x c).1
  .exact(m.ls x c).1
 refine⟨p.aw,fun t k x q=>h.cm t k x ((p.cm t k x).1 q),fun z l U=>?_,fun y d g T k r V z l Y Z=>?_,fun y d z l e f D=>?_⟩;.grind [cases PaL,cases LI,Go.Proofs.YtphbledmopchnaaGreatDoor.St.Rg.Mem,cases dL]
 .grind [cases PaL,cases LI]
 .rcases iJ.1 d with d|d;.grind [cases PaL,cases LI]
  .obtain⟨v,G,rfl⟩:=jH.1 d;have M:=(p.ap v G).1;simp only at e;rcases p.wy z l with l|⟨l,I,w,J⟩;.grind
   .obtain⟨i,K,O⟩:=fA G;obtain⟨j,L,P⟩:=fA w;have W:=o.nm i K;have X:=o.nm j L;have Q:v=(z.1,I):=by grind
    rw[J]at D;have n:=(dY.1 D).1;refine⟨norm f,?_,qhz ((o.ok _ w).1.fs f n).sn⟩;grind
theorem LI.qop{j C}(h:LI A B d c)(H:Pm B (bQ B.aM))(s:fG B)(m:dL A B)(n:dL B A)(l:Bd B)(t:B.next+24<dH)(u:B.jA j C):LI A j d (c++vN C):=by
 have p:=yJ H s n m l t u;have o:=xO s n m l t u;have g:=h.grow p.hm fun q G=>by rw[<-p.sm.1];exact G
 refine⟨g.aw,g.cm,g.wt,fun y i a E k r w z I J K f F=>?_,g.pk⟩;rcases iJ.1 i with i|i;.grind [cases LI]
 .obtain⟨v,x,rfl⟩:=jH.1 i;obtain⟨e,b,rfl⟩:=jH.1 E;have D:=((o.ok v x).1.fs e b).sn;rw[nJ e D]at k;rw[Iz e D k]at w;exact(h.wt z I ⟨r,(p.ap v x).2 e b k r w,J,K⟩ f F).mono p.hm
end Go.Proofs.YtphbledmopchnaaGreatDoor.Sd
set_option linter.all false
namespace Go.Proofs.YtphbledmopchnaaGreatDoor.Sd
open St Tryz
variable {A M:av}{t w:Nat}{y:Nat×List Fr}
def Net.to(n:Net)(i:Nat):List (Nat×List Fr):=(n.dJ.filter fun y=>decide (y.1=i)).map Prod.snd
def Ai{n:Net}{i}:y∈n.to i↔(i,y)∈n.dJ:=by unfold Net.to;simp
structure NL (w t:Nat) (n:Net):Prop where
 li:∀i,i<2->LI (n.x i) (n.x (1-i)) (n.to (1-i)) (n.to i)
 ah:∀i,i<2->(n.x i).gr.ahead=t/\∀k,k<8->((n.x i).bH k).gr.ahead=w
 fl:∀i,i<2->(n.x i).aT.fl<=(n.x (1-i)).next
 dq:∀i,i<2->∀f∈(n.x i).aQ,f.aJ<=(n.x i).aV+8
theorem NL.li'{n}(h:NL w t n)(i)(a:i<2):LI (n.x (1-i)) (n.x i) (n.to i) (n.to (1-i)):=by grind [cases NL]
def NL.sub{n n'}(h:NL w t n)(a:n'.x=n.x)(c:∀y∈n'.dJ,y∈n.dJ):NL w t n':=
 ⟨fun i d=>by rw[a];exact(h.li i d).dJ (fun y b=>Ai.2 (c _ (Ai.1 b))) (fun y b=>Ai.2 (c _ (Ai.1 b))),by rw[a];exact h.ah,by rw[a];exact h.fl,by rw[a];exact h.dq⟩
theorem NL.upd{n n'}(h:NL w t n)(i)(l:i<2)(e:n'.x (1-i)=n.x (1-i))(b:LI (n'.x i) (n.x (1-i)) (n'.to (1-i)) (n'.to i))(c:LI (n.x (1-i)) (n'.x i) (n'.to i) (n'.to (1-i)))(d:(n'.x i).gr.ahead=(n.x i).gr.ahead/\∀k,((n'.x i).bH k).gr.ahead=((n.x i).bH k).gr.ahead)(o:(n.x i).next<=(n'.x i).next)(g:(n'.x i).aT.fl<=(n.x (1-i)).next)(p:∀f∈(n'.x i).aQ,f.aJ<=(n'.x i).aV+8):NL w t n':=by have m:∀j,j<2->j=i\/j=1-i:=aj;have q:1-(1-i)=i:=aj;have a:=h.ah;constructor<;>grind [cases NL,cases LI]
structure Tu (A M:av):Prop where
 ow:M.aM=A.aM
 ls:M.bV=A.bV
 aw:∀t k x,Aw M t k x->Aw A t k x
 cm:∀t k x,Cm M t k x↔Cm A t k x
 hm:Hm A M
 nx:M.next=A.next
 ca:M.aT=A.aT
 ah:M.gr.ahead=A.gr.ahead/\∀k,(M.bH k).gr.ahead=(A.bH k).gr.ahead
def NL.turn{w t n M}(h:NL w t n)(i)(a:i<2)(u:Tu (n.x i) M)(c:∀f∈M.aQ,f.aJ<=M.aV+8):NL w t (n.dM i M):=
 h.upd i a (gu _ _ _ _ aj) (by rw[dD];exact(h.li i a).turn u.ow u.ls u.aw u.cm) (by rw[dD];exact(h.li' i a).grow u.hm fun p b=>by rw[<-u.ca];exact b) (by rw[dD];exact u.ah) (by rw[dD];exact eT u.nx.symm) (by rw[dD,u.ca];exact h.fl i a) (by rw[dD];exact c)
def Ca(e:M={A with aV:=M.aV,aQ:=M.aQ,qv:=M.qv,least:=M.least,gy:=M.gy,iv:=M.iv}):Tu A M:=by rw[e];exact⟨rfl,rfl,fun t k x h=>by rcases t with _|_|_|t<;>exact h,fun t k x=>by rcases t with _|_|_|t<;>exact .rfl,fun t k x h=>by rcases t with _|_|_|t<;>exact h,rfl,rfl,rfl,fun _=>rfl⟩
theorem MV(A k o)(b:o.eH=(A.out k).eH)(c:o.aT=(A.out k).aT)(a:o.aN=(A.out k).aN)(d:o.nt=(A.out k).nt\/(A.out k).nt.bG=false/\o.nt.eH=UT/\o.nt.aT=UT):Tu A (A.dA k o):=
 ⟨rfl,rfl,fun t j x=>by rcases t with _|_|_|t<;>simp only[Aw]<;>grind [gL,Jk,Pg],fun t j x=>by rcases t with _|_|_|t<;>simp only[Cm]<;>grind [gL,Jk,Pg],(EP A k o (eT a.symm)).hm,rfl,rfl,rfl,fun _=>rfl⟩
theorem qi0(A k b):Tu A (A.dA k ((A.out k).send b).1):=MV A k _ (by unfold Ot.send;grind) (by unfold Ot.send;grind) (by unfold Ot.send;grind) (by unfold Ot.send;grind)
theorem Ye(A k):Tu A (A.dA k (A.out k).finish.1):=MV A k _ (by unfold Ot.finish;grind) (by unfold Ot.finish;grind) (by unfold Ot.finish;grind) (by unfold Ot.finish;grind)
theorem qcq(A k a):Tu A (A.dA k ((A.out k).reset a)):=MV A k _ rfl rfl rfl (by unfold Ot.reset Nt.AZ;grind)
def qjn(A k d):Mo A (A.eZ k ((A.bH k).rd d).2)/\Tu A (A.eZ k ((A.bH k).rd d).2):=by obtain⟨a,b,c⟩:=MU A k ((A.bH k).rd d).2 rfl ⟨aI _,id,wJ _ _,fun h=>by show(if(A.bH k).state=0 then _ else(A.bH k).state)=_;rw[b_ h]⟩ (qm1 _ d) (fun h=>⟨h,aI _⟩);exact⟨a,rfl,rfl,fun t j x=>(b t j x).1,c,a.hm,rfl,rfl,a.ah⟩
theorem Tz{f}(d:snd f=true)(k:f.aD=2):∀r∈f.ranges,r.2<=(f.ranges.getD 0 (0,0)).2:=by
 unfold snd at d;simp only[iY]at d;have b:=d.2;unfold oI at b;rw[dN k]at b;unfold tN at b;rw[iY]at b;have a:=fun j c=>(wM.1 b.1) j (List.mem_range.2 c);have key:∀j,j<f.ranges.length->(f.ranges.getD j (0,0)).2<=(f.ranges.getD 0 (0,0)).2:=fun j=>by
  induction j with
  |zero=>exact fun _=>aI _
  |succ j h=>intro c;have e:=a (j+1) c;have g:=a j aj;unfold vP at e g;simp only[iY,Bool.or_eq_true,decide_eq_true_eq,KO]at e g;have:=h aj;omega
 grind [fA]
def qi1{f B}(h:O0 f A B y):∀g∈y.2,g.aD=2->∀r∈g.ranges,r.2<B.next:=fun g b k r i=>by
 have a:=h.dec;unfold sj at a;rw[dN rfl]at a;obtain⟨j,c,e⟩:=fA b;have d:=(a.2.1 j c).1;rw[mZ,wH c,qk5,e]at d;have l:=Tz d k r i;rcases h.fr g b with⟨_,_,q⟩|⟨q,_⟩|⟨q,_⟩|⟨q,_⟩|⟨q,_⟩|q;.omega
 .omega
 .omega
 .omega
 .omega
 .have:=q.kd;omega
theorem NL.vO{w t k n}(h:NL w t n)(b:dU k n)(i)(a:i<2){M c}(g:(n.x i).next+24<dH)(e:(n.x i).jA M c)(o:∀f∈M.aQ,f∈(n.x i).aQ):NL w t (n.vO i M c):=by
 have p:=yJ (h.li i a).aw (b.loc i a) (b.two i a) (b.mU i a) (b.bd i a) g e;have s:(n.vO i M c).to (1-i)=n.to (1-i)++vN c:=by
  show((n.dJ++(vN c).map (fun y=>(1-i,y))).filter _).map Prod.snd=_;rw[QJ,Dv];congr 1
  rw[Jq.2 (fun y d=>by grind),List.map_map];exact List.map_id _
 have u:(n.vO i M c).to i=n.to i:=by show((n.dJ++(vN c).map (fun y=>(1-i,y))).filter _).map Prod.snd=_;rw[QJ,List.filter_eq_nil_iff (l:=(vN c).map (fun y=>(1-i,y))).2 (fun y d=>by grind),lG];rfl
 have j:(n.vO i M c).x i=M:=dD n i M;have m:(n.vO i M c).x (1-i)=n.x (1-i):=gu _ _ _ _ aj;have q:=(h.li i a).qoo (b.loc i a) (b.two i a) (b.mU i a) (b.bd i a) g e (fun y d=>by have:=((b.dJ _ (Ai.1 d)).2).lt;grind) (fun y d=>qi1 (b.dJ _ (Ai.1 d)).2);have r:=(h.li' i a).qop (h.li i a).aw (b.loc i a) (b.mU i a) (b.two i a) (b.bd i a) g e;exact h.upd i a m (by grind) (by grind) (by rw[j];exact p.ah) (by grind [cases PaL]) (by rw[j,p.sm.1];exact h.fl i a) (by grind [cases PaL,cases NL])
theorem qcr{a}{s:NS}{n B}(h:s.fl<=B)(c:∀r∈s.rs,r.2<B)(d:n<B):(s.add a n n).fl<=B:=by
 unfold NS.add Rg.add;simp only;split;.exact h
 .split;.have b:=Rg.xg s.rs (max n s.fl) n (B-1) aj (fun x e=>by grind);grind
  .exact h
def NL.come{k n}(h:NL w t n)(f:dU k n)(i)(d:i<2)(j:(i,y)∈n.dJ)(l:(n.x (1-i)).next<=dH)(m:(n.x i).jJ y.1 y.2 M 0):NL w t (n.dM i M)/\CaO (n.x i) M y:=by
 have g:=(f.dJ _ j).2;obtain⟨a,b,c⟩:=(h.li i d).aT (h.li' i d) (f.loc i d) (f.loc _ aj) (f.two i d) (f.mU i d) (f.bd i d) (f.bd _ aj) (Ai.2 j) g.lt g.fr l m;refine⟨h.upd i d (gu _ _ _ _ aj) (by rw[dD];exact a) (by rw[dD];exact b) (by rw[dD];exact c.mo.ah) (by rw[dD];exact eT c.mo.nx.1.symm) ?_ (by rw[dD,c.mo.nx.2.1,c.mo.nx.2.2];exact h.dq i d),c⟩;rw[dD];rcases c.fl with e|e;.rw[e];exact h.fl i d
 .rw[e];exact qcr (h.fl i d) (f.mU i d).aT g.lt
theorem qm5(a w t):NL w t (Net.new a w t):=by
 have e:∀k,((av.new a w t).out k).eH.rs=[]/\((av.new a w t).out k).aT.rs=[]/\((av.new a w t).out k).nt.bG=false:=fun k=>by show(((eB 8 (Ot.new w)).getD k vR)).eH.rs=[]/\(((eB 8 (Ot.new w)).getD k vR)).aT.rs=[]/\(((eB 8 (Ot.new w)).getD k vR)).nt.bG=false;rw[mZ,Dx];split<;>exact⟨rfl,rfl,rfl⟩
 have d:∀k,((av.new a w t).bH k).gr.eH=0/\((av.new a w t).bH k).gr.aT=((av.new a w t).out k).aN:=fun k=>by show(((eB 8 (dP.new w)).getD k xk)).gr.eH=0/\(((eB 8 (dP.new w)).getD k xk)).gr.aT=(((eB 8 (Ot.new w)).getD k vR)).aN;rw[mZ,Dx,mZ,Dx];split<;>exact⟨rfl,rfl⟩
 have n:(av.new a w t).gr.eH=0/\(av.new a w t).gr.aT=(av.new a w t).aN:=⟨rfl,rfl⟩;have o:∀p,¬Rg.Mem [] p:=fun p ⟨r,l,_⟩=>by cases l
 refine⟨fun _ _=>⟨fun b k x q=>?_,fun b k x q=>?_,(fun z m=>by cases m),(fun y c=>by cases c),fun y c=>by cases c⟩,fun _ _=>⟨rfl,fun k j=>?_⟩,fun _ _=>aI _,fun _ _ f i=>by cases i⟩
 .have g:=e k;have h:=d k;change Aw (av.new a w t) b k x at q;rcases b with _|_|_|b<;>simp only[Aw]at q
  .grind
  .exact .inl (by show x<=_;omega)
  .exact .inl (by show x<=((av.new a w t).bH k).gr.aT;omega)
  grind
 .have g:=e k;have h:=d k;change Cm (av.new a w t) b k x at q;rcases b with _|_|_|b<;>simp only[Cm]at q
  .grind
  .exact q
  .show x<=((av.new a w t).out k).aN;omega
  grind
 .show((eB 8 (dP.new w)).getD k xk).gr.ahead=w;rw[mZ,Dx,dN j];rfl
end Go.Proofs.YtphbledmopchnaaGreatDoor.Sd
namespace Go.Proofs.YtphbledmopchnaaGreatDoor.Sd
open Go.RowKit Go.Lib Mm Tryz
variable {A A' B M:av}{K a b c d e k:Nat}{L:List Gm}
section
def ny.lI{oZ w w' a n}(h:ny (loc oZ w.heap.size) w a n w'):ny oZ w a n w':=by obtain⟨o,d,b,c⟩:=h;exact⟨o,d,b,c.lI⟩
def dW.loc{oZ w a n c E}(h:dW oZ w a n c E):dW (Sd.loc oZ w.heap.size) w a n c E:=
 h.kp (T:=[]) ⟨rfl,rfl,rfl,aI _,fun _ _ _=>rfl,fun b d=>jW oZ _ b d⟩ aR
structure qN (fH:Own) (w0:Wq) (a:Ad) (L:List (Nat×TypeId×bM)) (n:Net) (w:Wq):Prop where
 ex:∃o vb,dW o w a n vb (ends n)/\Kp TN fH o w0 w/\(∀x∈L,aS w x.1 x.2.1 x.2.2/\o x.1=0)/\(∀b,w.heap.size<=b->o b=0)
section
variable {fH:Own} {w0 w w':Wq} {a:Ad} {L:List (Nat×TypeId×bM)} {n:Net}
def qN.ntf(h:qN fH w0 a L n w):ny fH w0 a n w:=by obtain⟨o,d,b,c,_⟩:=h.ex;exact⟨o,d,b,c⟩
def qjo:0∉TN:=fun e=>fT (lu.1 e)
def qN.go{n' o o' e}(h:Kp TN fH o w0 w)(i:∀x∈L,aS w x.1 x.2.1 x.2.2/\o x.1=0)(g:dW o' w' a n' e (ends n'))(c:Kp TN o o' w w'):qN fH w0 a L n' w':=by have K:Kp [] o' (Sd.loc o' w'.heap.size) w' w':=⟨rfl,rfl,rfl,aI _,fun _ _ _=>rfl,fun b d=>jW o' _ b d⟩;refine⟨_,e,g.loc,h.trans (c.trans (K.mono aR)),fun x j=>?_,fun b d=>jF _ _ _ d⟩;obtain⟨p,q⟩:=i x j;have f:=bW p c (by rw[q];exact qjo);exact⟨f,by rw[jW _ _ _ f.lt,c.ext _ p.lt];exact q⟩
def qN.below(h:qN fH w0 a L n w)(b:bJ w w'):qN fH w0 a L n w':=by obtain⟨o,f,c,d,e,_⟩:=h.ex;exact qN.go d e (c.below b) (Kp.below b)
theorem qN.alloc(h:qN fH w0 a L n w)(t l):qN fH w0 a ((w.heap.size,t,l)::L) n (w.alloc (.cells l.toArray t)):=by
 obtain⟨o,j,g,i,k,e⟩:=h.ex;have c:bJ w (w.alloc (.cells l.toArray t)):=(bP _ w).alloc (aI _) _;have K:Kp [] o o w (w.alloc (.cells l.toArray t)):=Kp.below c;refine⟨o,j,g.below c,i.trans (Kp.below c),fun x f=>?_,fun b d=>e b (dx c.size d)⟩;rcases nQ.1 f with rfl|f;.exact⟨aS.new w t l,e _ (aI _)⟩
 grind [bW]
def Dp{oZ c}(h:dW oZ w a n c (ends n)):qN (Sd.loc oZ w.heap.size) w a [] n w:=
 ⟨_,c,h.loc,Kp.refl _ _ _,fun x e=>(by cases e),fun b d=>jF _ _ _ d⟩
def qN.cell(h:qN fH w0 a L n w){b t l}(d:(b,t,l)∈L)(j):w.cell? (aA b j)=l[j]?:=by obtain⟨o,i,e,f,c,g⟩:=h.ex;exact(c _ d).1.cell j
def qN.xc(h:qN fH w0 a L n w)(i)(c:i<2):w.cell? (aA a.N 0)=some (dB a.xb 2 a.xc)/\w.cell? (aA a.xb i)=some (aK (a.C i) 0):=by obtain⟨o,g,b,d,e,f⟩:=h.ex;exact⟨b.cells.1,(b.xs i c).1⟩
theorem qN.qr0(h:qN fH w0 a L n w):∃d f,w.cell? (aA a.N 8)=some (.slice d n.dJ.length f)/\∀k,k<n.dJ.length->∃g,d=some (aA g 0)/\w.cell? (aA g (k*2))=some (iZ ((n.dJ.getD k (0,0,[])).1:Int))/\w.cell? (aA g (k*2+1))=some (sV (bT (n.dJ.getD k (0,0,[])).2.1 (n.dJ.getD k (0,0,[])).2.2)):=by
 obtain⟨o,x,i,p,q,r⟩:=h.ex;obtain⟨_,_,_,_,_,m,_⟩:=i.cells;obtain⟨d,f,rfl⟩:=iX i.bg;refine⟨d,f,m,fun k t=>?_⟩;rcases i.bg with⟨_,e,_⟩|⟨g,cap,cs,ev,ho,hB,hc1,hc2,hc3,hc4,hc5,_⟩;.omega
 simp only[nR]at ev;have l:=(yH n.dJ k).symm;have c:n.dJ.drop k=n.dJ.getD k (0,0,[])::n.dJ.drop (k+1):=by grind [List.drop_eq_getElem_cons,List.getElem?_eq_getElem]
 have b:∀j v,j<n.dJ.length*2->(lQ n.dJ)[j]?=some v->w.cell? (aA g j)=some v:=fun j v s u=>by rw[hB.cell];grind
 refine⟨g,ev.1,b _ _ aj ?_,b _ _ aj ?_⟩
 .have:((lQ n.dJ).drop (k*2))[0]?=(lQ n.dJ)[k*2]?:=by grind
  rw[<-this,l,c];rfl
 .have:((lQ n.dJ).drop (k*2))[1]?=(lQ n.dJ)[k*2+1]?:=by grind
  rw[<-this,l,c];rfl
def uK(i)(c:i<2):∀x∈T0 (60*(i+1)),x∈TN:=fun x b=>lu.2 (fT (fM.1 b))
theorem Vk(h:qN fH w0 a L n w)(k)(g:k<n.dJ.length)(i:n.dJ.length<=1000000000):bN 67 #[aK a.N 0,iZ k] w (.tuple #[]) fun w'=>qN fH w0 a L {n with dJ:=n.dJ.eraseIdx k} w':=by obtain⟨o,p,d,e,f,_⟩:=h.ex;refine bK (qhq d k g i) ?_;rintro w' ⟨j,m,b,c⟩;exact⟨rfl,qN.go e f (n':={n with dJ:=n.dJ.eraseIdx k}) b (c.mono fun x l=>lu.2 (by grind))⟩
def qi2(h:qN fH w0 a L n w)(t:dU a.aZ n)(r:qV n 0)(d:a.aZ<=400)(i)(e:i<2)(y)(u:O0 a.aZ (n.x (1-i)) (n.x i) y)(c:(n.x i).gy=[]):bN 29 #[(aK (a.C i) 0),sV (bT y.1 y.2)] w (.tuple #[iZ 0,(iZ (-1))]) fun w'=>∃b,(n.x i).jJ y.1 y.2 b 0/\qN fH w0 a L (n.dM i b) w':=by obtain⟨o,x,m,p,q,_⟩:=h.ex;refine bK (Vd m t r i e y u d c) ?_;rintro w' ⟨b,f,v,g,l⟩;have s:=Iq f;exact⟨rfl,b,f,qN.go p q (g.yS fun j k _ _=>pF s j k) (l.mono (uK i e))⟩
def qm6(h:qN fH w0 a L n w)(m:dU a.aZ n)(i)(b:i<2)(l)(k:l.length<=1000000)(j:sj false 0 [] l):bN 29 #[(aK (a.C i) 0),sV l] w (.tuple #[iZ 7,(iZ (-1))]) fun w'=>qN fH w0 a L n w':=by obtain⟨o,q,e,f,g,_⟩:=h.ex;refine bK (O7 e m i b l k j) ?_;rintro w' ⟨p,c,d⟩;exact⟨rfl,qN.go f g c (d.mono (uK i b))⟩
def TB(M):Sm M M.emp:=⟨fun _=>Cj _,fun _=>⟨rfl,rfl⟩⟩
def Net.iW(n:Net)(i:Nat):Net:=(n.dM i (n.x i).emp).uG (1-i) (jo n.now (n.x i).gy (n.gr (1-i))).1
theorem Vl(h:qN fH w0 a L n w)(i)(p:i<2)(c:(n.x i).gy.length<=1000000)(b:(n.gr (1-i)).length<=1000000000)(m:(jo n.now (n.x i).gy (n.gr (1-i))).2=true):bN 30 #[aK a.N 0,iZ i] w (.bool true) fun w'=>qN fH w0 a L (n.iW i) w':=by obtain⟨o,s,f,g,l,_⟩:=h.ex;refine bK (Vh f i p c b m) ?_;rintro w' ⟨r,d,e⟩;exact⟨rfl,qN.go (n':=n.iW i) g l (d.yS fun j k _ _=>pF (TB (n.x i)) j k) (e.mono fun x q=>lu.2 (by grind))⟩
structure Jl (aZ:Nat) (n n':Net):Prop where
 p:dU aZ n'
 nx:∀i,i<2->(n'.x i).next=(n.x i).next/\(n'.x i).aV=(n.x i).aV
 now:n'.now=n.now
 bl:n'.dJ.length<=n.dJ.length
 li:∀w t,NL w t n->NL w t n'
def xQ(h:dU b n):Jl b n n:=⟨h,fun _ _=>⟨rfl,rfl⟩,rfl,aI _,fun _ _ h=>h⟩
theorem Pp(h:dU c n)(k):Jl c n {n with dJ:=n.dJ.eraseIdx k}:=
 ⟨h.sub (n.dJ.eraseIdx k) (fun _ b=>KX b) n.now,fun _ _=>⟨rfl,rfl⟩,rfl,(by grind),fun _ _ h=>h.sub rfl fun _ b=>KX b⟩
def Cr1(c:Nat)(n b:Net):Prop:=Jl c n b/\b.x=n.x/\∀z∈b.dJ,z∈n.dJ
def qcs{c}(g:Cr1 k n c)(u:dU k n)(v:qV c 0)(i)(d:i<2)(y)(x:(i,y)∈n.dJ)(p:O0 k (c.x (1-i)) (c.x i) y){f}(l:(c.x i).jJ y.1 y.2 f e):Jl k n (c.dM i f):=by
 have h:=g.1;have m:=(v.1 (1-i) aj).1;obtain⟨r,s,b,q,A⟩:=OG (h.p.loc i d) (h.p.loc (1-i) aj) (h.p.two i d) (h.p.mU i d) (h.p.bd i d) (h.p.bd (1-i) aj) y.1 y.2 p.lt aj p.fr l;refine⟨jq h.p i d f s b A q,fun j o=>?_,h.now,h.bl,fun w t z=>?_⟩
 .by_cases e:j=i;.rw[e,dD,q,qcf l];rw[e]at o;exact h.nx i o
  .rw[gu _ _ _ _ e];exact h.nx j o
 .rw[r,g.2.1]at l;rw[g.2.1]at m;refine(z.come u i d x aj l).1.sub ?_ g.2.2;show(fun j=>if j=i then f else c.x j)=fun j=>if j=i then f else n.x j;rw[g.2.1]
def Jl.nb{B n'}(h:Jl d n n')(c:qV n B):qV n' B:=
 ⟨fun i b=>by rw[(h.nx i b).1,(h.nx i b).2];exact c.1 i b,by rw[h.now];exact c.2⟩
end
def qi3(x b:UInt8)(e:b≠0):x≠x ^^^ b:=fun h=>by have c:=congrArg UInt8.toNat h;rw[UInt8.toNat_xor]at c;have d:=Crc.Fb (show x.toNat ^^^ 0=x.toNat ^^^ b.toNat by rw[Nat.xor_zero];exact c);exact e (UInt8.toNat_inj.1 d.symm)
def spD(D:ByteArray)(q:Nat)(x:UInt8):ByteArray:=D.extract 0 q++⟨#[x]⟩++D.extract (q+1) D.size
theorem qct(l:List UInt8)(q)(b:q<l.length)(x):spD ⟨l.toArray⟩ q x=⟨(l.set q x).toArray⟩:=by
 unfold spD;ext1
 grind [ByteArray.data_append,ByteArray.data_extract,Array.toList_inj,kQ,List.set_eq_take_append_cons_drop]
theorem Yf(n c D)(f:D=⟨(bT n c).toArray⟩)(q h b)(g:b≠0):∃l,.string (spD D q (D[q] ^^^ b))=sV l/\l.length=D.size/\sj false 0 [] l:=by
 subst f;have i:(⟨(bT n c).toArray⟩:ByteArray).size=(bT n c).length:=(kQ _).2;have d:q<(bT n c).length:=by grind
 refine⟨(bT n c).set q ((bT n c)[q] ^^^ b),?_,by grind,S_ n c q _ d (qi3 _ _ g)⟩;have e:(⟨(bT n c).toArray⟩:ByteArray)[q]=(bT n c)[q]:=rfl;rw[e,qct _ q d];rfl
theorem TD(w:Wq)(x b X)(c:X=(b.toNat:Int)):(convert 60 9 (dB w.heap.size 1 1)).run prog ((w.alloc (.cells #[.int .u8 (bits .xor .u8 (x.toNat:Int) X)] 5)).drew)=.ok (.string ⟨#[x ^^^ b]⟩) ((w.alloc (.cells #[.int .u8 (bits .xor .u8 (x.toNat:Int) X)] 5)).drew):=by
 have e:bits .xor .u8 (x.toNat:Int) X=((x ^^^ b).toNat:Int):=by rw[c,u8_xor_nat _ _ x.toNat_lt b.toNat_lt,UInt8.toNat_xor]
 rw[e];have:=run_convert_bytes_back (P:=prog) ((w.alloc (.cells #[.int .u8 ((x ^^^ b).toNat:Int)] 5)).drew) 60 9 5 (aA w.heap.size 0) 1 [x ^^^ b] u29 bZ u9 (fun j d=>by
  obtain rfl:j=0:=by grind
  have:=(aS.new w 5 [.int .u8 ((x ^^^ b).toNat:Int)]).cell 0;exact this)
 exact this
end
def Vm(L:List Gm):List (Nat×Nat×ByteArray):=L.map fun g=>(g.id,g.dl,g.data)
theorem qi4{g}(h:g∈L):(g.id,g.dl,g.data)∈Vm L:=jH.2 ⟨g,h,rfl⟩
def Qw(L:List Gm)(f:Fr):Prop:=(f.id,f.aJ,f.data)∈Vm L
def Inc(L:List Gm):Prop:=(Vm L).Pairwise fun a b=>a.1<b.1
theorem qcu{g t}(h:Inc (g::t)):(∀x∈t,g.id<x.id)/\Inc t:=by grind [List.pairwise_cons,Vm,Inc,qi4]
theorem IB(now m):∀(L) (b),Vm (mV now m L b).1=Vm L
 |[],_=>rfl
 |g::t,b=>by
  unfold mV;split;.exact congrArg (List.cons _) (IB now m t _)
  .exact congrArg (List.cons _) (IB now m t _)
theorem Dq(now m):∀(L) (b) (x),x∈(mV now m L b).1->x.aT=true->x.id=m.1\/x∈L
 |[],_,x,h,_=>by cases h
 |g::t,b,x,h,hc=>by
  unfold mV at h;split at h
  .rename_i e;rcases nQ.1 h with rfl|h;.exact .inl e
   .rcases Dq now m t _ x h hc with h|h;.exact .inl h
    grind
  .rcases nQ.1 h with rfl|h;.grind
   .rcases Dq now m t _ x h hc with h|h;.exact .inl h
    grind
theorem KE(now m):∀(L) (b),(∀g∈L,g.id≠m.1)->(mV now m L b).2=b
 |[],_,_=>rfl
 |g::t,b,h=>by unfold mV;rw[b_ (h g aR)];exact KE now m t b fun x a=>h x (by simp[a])
theorem Pt(now m):∀(L) (b) (g),Inc L->g∈L->g.id=m.1->g.data=m.2->g.aT=false->now<=g.dl->(mV now m L b).2=true
 |[],_,_,_,h,_,_,_,_=>by cases h
 |x::t,b,g,hi,h,e1,e2,e3,e4=>by
  obtain⟨a,c⟩:=qcu hi;unfold mV;rcases nQ.1 h with rfl|h;.rw[dN e1,e2,e3,decide_eq_true rfl,decide_eq_true e4];grind [KE]
  .have:=a g h;rw[b_ aj];exact Pt now m t b g c h e1 e2 e3 e4
theorem IC(now m):∀(ms) (L),(jo now ms L).2=true->(mV now m (jo now ms L).1 false).2=true->jo now (ms++[m]) L=((mV now m (jo now ms L).1 false).1,true)
 |[],L,_,h=>by show(if(mV now m L false).2=true then(_,true)else _)=_;have b:(mV now m L false).2=true:=h;rw[dN b];rfl
 |x::t,L,h1,h2=>by
  have e:∀s,jo now (x::s) L=if(mV now x L false).2 then jo now s (mV now x L false).1 else((mV now x L false).1,false):=fun s=>by cases s<;>rfl
  rw[e]at h1 h2;rw[AA,e,e];by_cases a:(mV now x L false).2=true;.rw[dN a]at h1 h2 ⊢;rw[dN a];exact IC now m t _ h1 h2
  grind
structure Sg (A A':av):Prop where
 q:A'.aQ=A.aQ
 l:A'.least=A.least
 m:A'.gy=A.gy
 t:A'.taken=A.taken
 g:A'.dK=A.dK
theorem Sg.refl(A):Sg A A:=⟨rfl,rfl,rfl,rfl,rfl⟩
def Sg.trans{A B C}(h:Sg A B)(k:Sg B C):Sg A C:=⟨k.q.trans h.q,k.l.trans h.l,k.m.trans h.m,k.t.trans h.t,k.g.trans h.g⟩
def qcv(M f):Sg M (M.gJ f):=by
 unfold av.gJ;repeat' split
 all_goals exact⟨rfl,rfl,rfl,rfl,rfl⟩
def qcw(M f):Sg M (M.iU f):=by
 unfold av.iU;repeat' split
 all_goals exact⟨rfl,rfl,rfl,rfl,rfl⟩
def MW(g)(a:∀A f,Sg A (g A f)):∀(l:List Fr) (A),Sg A (l.foldl g A)
 |[],_=>Sg.refl _
 |f::t,A=>(a A f).trans (MW g a t (g A f))
def qcx{l}(h:A.uH l A'):Sg A A':=by obtain⟨a,b,_,_,rfl⟩:=h;exact Sg.trans (B:=A.GU l) ⟨rfl,rfl,rfl,rfl,rfl⟩ (MW _ qcv _ _)
theorem qcy(h:A.kD A'):Sg A A':=by
 unfold av.kD at h;split at h;.obtain⟨a,_,rfl⟩:=h;exact Sg.trans (B:=A.lY) ⟨rfl,rfl,rfl,rfl,rfl⟩ (MW _ qcw _ _)
 grind [Sg.refl]
def qi5(A f)(a:f.aD≠2)(b:f.aD≠7):Sg A (A.take f).1:=by
 unfold av.take;rw[b_ a];repeat' split
 all_goals first|exact⟨rfl,rfl,rfl,rfl,rfl⟩|(exfalso;omega)
structure Qx (now:Nat) (L:List Gm) (M:av):Prop where
 tk:M.aV=now
 ok:(jo now M.gy L).2=true
 co:Vm (jo now M.gy L).1=Vm L
 cm:∀g∈(jo now M.gy L).1,g.aT=true->g.id∈M.taken\/g.id+32<=M.dK
def Qx.sg{now}(h:Qx now L A)(s:Sg A A')(t:A'.aV=A.aV):Qx now L A':=
 ⟨t.trans h.tk,by rw[s.m];exact h.ok,by rw[s.m];exact h.co,by rw[s.m,s.t,s.g];exact h.cm⟩
theorem qcz{now}(h:Qx now L A)(n:Inc L)(f)(o:Qw L f):Qx now L (A.pQ f):=by
 unfold av.pQ;split;.exact h
 .rename_i a;have i:¬f.aJ<A.aV:=fun e=>a (.inl e);have q:f.id∉A.taken:=fun e=>a (.inr (.inl e));have r:¬f.id+32<=A.dK:=fun e=>a (.inr (.inr e));rw[h.tk]at i;have b:(f.id,f.aJ,f.data)∈Vm (jo now A.gy L).1:=by rw[h.co];exact o
  obtain⟨g,m,d⟩:=jH.1 b;simp only[DF]at d;obtain⟨j,s,k⟩:=d;have l:g.aT=false:=by grind [cases Qx]
  have hit:=Pt now (f.id,f.data) (jo now A.gy L).1 false g (by unfold Inc;rw[h.co];exact n) m j k l aj;have e:=IC now (f.id,f.data) A.gy L h.ok hit;refine⟨h.tk,by grind,?_,?_⟩;.grind [Vm,jo,IB,cases Qx]
  .show∀g∈(jo now (A.gy++[(f.id,f.data)]) L).1,g.aT=true->g.id∈(f.id::A.taken).filter (fun x=> !decide (x+32<=max A.dK f.id))\/g.id+32<=max A.dK f.id;rw[e];intro x p c;have key:∀y,y∈f.id::A.taken->y∈(f.id::A.taken).filter (fun x=> !decide (x+32<=max A.dK f.id))\/y+32<=max A.dK f.id:=fun y t=>by grind
   rcases Dq now (f.id,f.data) _ _ x p c with h1|h1;.grind
   grind [cases Qx]
theorem Yh{now}(h:Qx now L A)(j:Inc L)(f)(k:f.aD=7->Qw L f)(a:A.gH f A' e):Qx now L A'/\A'.aQ=A.aQ/\A'.least=A.least:=by
 have c:=Pe a;unfold av.gH at a;split at a
 .split at a;.grind
  .have s:=qcx a.1;exact⟨h.sg s c,s.q,s.l⟩
 .rename_i i;split at a;.rename_i b;obtain⟨v,rfl,_⟩:=a;have g:=qcz h j f (k b);refine⟨⟨g.tk,g.ok,g.co,g.cm⟩,?_⟩;grind [av.pQ]
  .rename_i b;have d:=congrArg Prod.fst a;have s:=qi5 A f i b;rw[<-d]at s;exact⟨h.sg s c,s.q,s.l⟩
theorem Cb{now L}(e:Inc L):∀(d) {A A'},Qx now L A->(∀f∈d,f.aD=7->Qw L f)->jR A d A' 0->Qx now L A'/\A'.aQ=A.aQ/\A'.least=A.least
 |[],A,A',h,_,r=>by grind [jR]
 |f::t,A,A',h,hs,r=>by
  obtain⟨l,p,k,i⟩:=r;obtain⟨a,b,c⟩:=Yh h e f (hs f aR) k;split at i;.obtain⟨m,n,o⟩:=Cb e t a (fun g j=>hs g (by simp[j])) i;grind
  grind
theorem Yi{now}(g:Inc L){m d}(h:Qx now L A)(i:∀f∈d,f.aD=7->Qw L f)(r:A.jJ m d A' 0):Qx now L A'/\A'.aQ=A.aQ/\A'.least=A.least:=by
 unfold av.jJ at r;split at r;.grind
 .have e:Qx now L {A with aT:=A.aT.add 8 m m,bn:=A.bn||fZ d}:=⟨h.tk,h.ok,h.co,h.cm⟩;obtain⟨a,b,c⟩:=Cb g d e i r;grind
def dgs(l:List Fr):List Fr:=l.filter fun f=>decide (f.aD=7)
def qi6(a b):dgs (a++b)=dgs a++dgs b:=QJ ..
theorem Pv{g:Gn}{aD b y}(h:g.next aD k a b=some y):y.1.aD=aD:=by
 unfold Gn.next at h;split at h;.cases h
 .rw[<-lF h];rfl
def qd0{n:Nt}{r a y}(h:n.next k r a=some y):y.1.aD=3:=by
 unfold Nt.next at h;split at h;.cases h
 .rw[<-lF h];rfl
structure Qp (A A':av) (fs:List Fr):Prop where
 q:A.aQ=dgs fs++A'.aQ
 l:A'.least=A.least
 m:A'.gy=A.gy
 t:A'.taken=A.taken
 g:A'.dK=A.dK
def Qp.refl(A):Qp A A []:=⟨rfl,rfl,rfl,rfl,rfl⟩
def Qp.trans{A B C a b}(h:Qp A B a)(k:Qp B C b):Qp A C (a++b):=⟨by rw[h.q,k.q,qi6,lC],k.l.trans h.l,k.m.trans h.m,k.t.trans h.t,k.g.trans h.g⟩
theorem qd1{d j u i f}(m:∀f∈A.aQ,f.aD=7)(h:A.frame d u i=some (f,A',j)):Qp A A' [f]:=by
 have c:∀{g:Fr} {k:Int},g.aD=k->k≠7->dgs [g]=[]:=fun e h=>by grind [dgs,decide_eq_false]
 unfold av.frame at h;split at h
 .split at h;.cases h
  .have e:=lF h;simp only[DF]at e;obtain⟨rfl,rfl,_⟩:=e;exact⟨by constructor<;>grind,rfl,rfl,rfl,rfl⟩
 .split at h;.obtain⟨y,a,e⟩:=jE.1 h;constructor<;>grind [Prod.mk.injEq,Pv]
  .split at h;.obtain⟨y,a,e⟩:=jE.1 h;simp only[DF]at e;obtain⟨rfl,rfl,_⟩:=e;exact⟨by rw[c (Pv a) kX];rfl,rfl,rfl,rfl,rfl⟩
   .split at h;.obtain⟨y,a,e⟩:=jE.1 h;simp only[DF]at e;obtain⟨rfl,rfl,_⟩:=e;exact⟨by rw[c (qd0 a) kX];rfl,rfl,rfl,rfl,rfl⟩
    .split at h
     .split at h;.cases h
      .obtain⟨y,a,e⟩:=jE.1 h;simp only[DF]at e;obtain⟨rfl,rfl,_⟩:=e;cases b:A.aQ with
       |nil=>rw[b]at a;cases a
       |cons z t=>rw[b]at a;obtain rfl:z=y:=lF a;have l:=m z (by grind);refine⟨?_,rfl,rfl,rfl,rfl⟩;show A.aQ=dgs [z]++t;rw[b];unfold dgs;rw[qk1,decide_eq_true l];rfl
     .obtain⟨y,a,e⟩:=jE.1 h;simp only[DF]at e;obtain⟨rfl,rfl,_⟩:=e;exact⟨by rw[c (Yg (o':=y.2) a).1 kX];rfl,rfl,rfl,rfl,rfl⟩
theorem yK:∀(n) (A) (b) (Q a) (c) (l),(∀f∈A.aQ,f.aD=7)->∃d,(fV n A b Q a c l).2.2.2=l++d/\Qp A (fV n A b Q a c l).1 d
 |0,A,_,_,_,_,l,_=>⟨[],(lG _).symm,Qp.refl _⟩
 |n+1,A,_,[],_,_,l,_=>⟨[],(lG _).symm,Qp.refl _⟩
 |n+1,A,b,u::Q,a,c,l,hq=>by
  unfold fV;by_cases h:A.aL b u=true
  .simp only[h,if_true];cases hF:A.frame b u c with
   |none=>
    simp only;split;.exact yK n _ _ _ _ _ _ hq
    .exact⟨[],(lG _).symm,Qp.refl _⟩
   |some x=>obtain⟨f,i,j⟩:=x;have s:=qd1 hq hF;obtain⟨d,e,g⟩:=yK n i j (u::Q) a (c-((bf f).length:Int)) (l++[f]) (fun g k=>hq g (by rw[s.q];simp[k]));exact⟨f::d,by grind,s.trans g⟩
  .simp only[h];exact yK n _ _ _ _ _ _ hq
theorem KH:∀(n) (A) (a) (Q) (l),(∀f∈A.aQ,f.aD=7)->∃c,(gQ n A a Q l).2=l++c/\Qp A (gQ n A a Q l).1 (c.flatMap fun x=>x.2)
 |0,A,_,_,l,_=>⟨[],(lG _).symm,Qp.refl _⟩
 |n+1,A,a,Q,l,hq=>by
  obtain⟨d,e,s⟩:=yK (Q.length+A.au.toNat+1) A a Q [] A.au [] hq;rw[pJ]at e;have i:(fill A a Q A.au).2.2.2=d:=e;have b:Qp A (fill A a Q A.au).1 d:=s;unfold gQ;split;.simp_all
  .have h:Qp A ((fill A a Q A.au).1.eO (fill A a Q A.au).2.2.2) d:=⟨b.q,b.l,b.m,b.t,b.g⟩;obtain⟨c,k,j⟩:=KH n ((fill A a Q A.au).1.eO (fill A a Q A.au).2.2.2) (fill A a Q A.au).2.1 (fill A a Q A.au).2.2.1 (l++[(A.next,(fill A a Q A.au).2.2.2)]) (fun g m=>hq g (by rw[h.q];grind));refine⟨(A.next,(fill A a Q A.au).2.2.2)::c,by grind,?_⟩;rw[YC,i]at *
   exact h.trans j
theorem xR{b}(i:∀f∈A.aQ,f.aD=7)(h:A.jA A' b):Qp A A' (b.flatMap fun x=>x.2):=by obtain⟨a,d,e⟩:=h;have s:=qcy d;obtain⟨k,j,g⟩:=KH ((lf a).length+14) {a with bn:=false} (lf a) q0 [] (fun f c=>i f (by rw[<-s.q];exact c));constructor<;>grind [cases Qp,cases Sg]
structure DgI (now:Nat) (A B:av) (L:List Gm) (nx:Nat):Prop where
 inc:Inc L
 lt:∀c∈Vm L,c.1<nx
 ls:A.least<=nx
 q:∀f∈A.aQ,Qw L f/\now<=f.aJ
 cm:∀g∈L,g.aT=true->g.id∈B.taken\/g.id+32<=B.dK
 ql:A.aQ.length<=L.length
structure iP (K:Nat) (n:Net):Prop where
 dg:∀i,i<2->DgI n.now (n.x i) (n.x (1-i)) (n.gr i) (n.nx i)
 tk:∀i,i<2->(n.x i).aV=n.now
 ms:∀i,i<2->(n.x i).gy=[]
 bg:∀y∈n.dJ,∀f∈y.2.2,f.aD=7->Qw (n.gr (1-y.1)) f
 ln:∀i,i<2->(n.gr i).length<=K/\n.nx i<=3*K
 nw:n.now<=K
def iP.mono{n}(h:iP K n)(c:K<=a):iP a n:=⟨h.dg,h.tk,h.ms,h.bg,fun i b=>fT (h.ln i b),fT h.nw⟩
def DgI.sg{now a nx}(h:DgI now A B L nx)(q:A'.aQ=A.aQ)(l:A'.least=A.least)(t:a.taken=B.taken)(g:a.dK=B.dK):DgI now A' a L nx:=
 ⟨h.inc,h.lt,by rw[l];exact h.ls,by rw[q];exact h.q,by rw[t,g];exact h.cm,by rw[q];exact h.ql⟩
theorem iP.dM{K n}(h:iP K n)(i){M}(s:Sg (n.x i) M)(t:M.aV=(n.x i).aV):iP K (n.dM i M):=by
 have b:∀j,j<2->Sg (n.x j) ((n.dM i M).x j)/\((n.dM i M).x j).aV=(n.x j).aV:=fun j _=>by grind [dD,gu,Sg.refl]
 exact⟨fun j a=>(h.dg j a).sg (b j a).1.q (b j a).1.l (b _ aj).1.t (b _ aj).1.g,fun j a=>(b j a).2.trans (h.tk j a),fun j a=>(b j a).1.m.trans (h.ms j a),h.bg,h.ln,h.nw⟩
def iP.set'{n}(h:iP K n)(b:K<=a)(i)(s:Sg (n.x i) M)(t:M.aV=(n.x i).aV):iP a (n.dM i M):=(h.dM i s t).mono b
def iP.sub{n}(h:iP K n)(l)(a:∀y∈l,y∈n.dJ):iP K {n with dJ:=l}:=⟨h.dg,h.tk,h.ms,fun y b=>h.bg y (a y b),h.ln,h.nw⟩
theorem iP.recv{n}(h:iP K n)(i)(o:i<2){y:Nat×List Fr}(v:∀f∈y.2,f.aD=7->Qw (n.gr (1-i)) f)(r:(n.x i).jJ y.1 y.2 M 0):(jo n.now M.gy (n.gr (1-i))).2=true/\iP K ((n.dM i M).iW i):=by
 have c:=h.dg (1-i) aj;rw[show 1-(1-i)=i by omega]at c;have C:Qx n.now (n.gr (1-i)) (n.x i):=by
  refine⟨h.tk i o,?_,?_,?_⟩;.rw[h.ms i o];rfl
  .rw[h.ms i o];rfl
  .rw[h.ms i o];exact c.cm
 obtain⟨p,A,x⟩:=Yi c.inc C v r;refine⟨p.ok,?_⟩;obtain⟨L,u⟩:=bU ((jo n.now M.gy (n.gr (1-i))).1);have b:=p.co;have g:=p.cm;rw[<-u]at b g;have d:∀j,((n.dM i M).iW i).x j=if j=i then M.emp else n.x j:=fun j=>by show(if j=i then(if i=i then M else n.x i).emp else if j=i then M else n.x j)=_;grind
 have t:∀j,((n.dM i M).iW i).gr j=if j=1-i then L else n.gr j:=fun j=>by rw[u];show(if j=1-i then(jo n.now (if i=i then M else n.x i).gy (n.gr (1-i))).1 else n.gr j)=_;grind
 have B:∀j f,Qw (n.gr j) f->Qw (((n.dM i M).iW i).gr j) f:=fun j f m=>by grind [Qw]
 have l:L.length=(n.gr (1-i)).length:=by have:=congrArg List.length b;grind [Vm]
 refine⟨fun j a=>?_,fun j a=>?_,fun j a=>?_,fun z w f m k=>B _ f (h.bg z w f m k),fun j a=>?_,h.nw⟩
 .rcases(show j=i\/j=1-i by omega)with e|e;.have q:1-j≠i:=aj;have s:j≠1-i:=aj;rw[d,d,t,dN e,b_ q,b_ s];have:=h.dg j a;rw[e]at this ⊢;exact this.sg (A':=M.emp) A x rfl rfl
  .have q:j≠i:=aj;have s:1-j=i:=aj;rw[d,d,t,b_ q,dN s,dN e,e];show DgI n.now (n.x (1-i)) M.emp L (n.nx (1-i));exact⟨by grind [Inc,cases DgI],by rw[b];exact c.lt,c.ls,fun f m=>⟨by grind [Qw,cases DgI],(c.q f m).2⟩,g,by rw[l];exact c.ql⟩
 .rw[d];split;.exact p.tk
  .exact h.tk j a
 .rw[d];split;.rfl
  .exact h.ms j a
 .rw[t];split;.rename_i e;rw[l,<-e];exact h.ln j a
  .exact h.ln j a
def dU.late{n}(h:dU b n)(i)(e:i<2){a}(r:(n.x i).jA M a):∀x∈a,∀f∈x.2,f.aD=7->f∈(n.x i).aQ:=fun x j f c k=>by have s:=xR (fun g d=>((h.loc i e).q g d).kd) r;rw[s.q];exact Az _ (dY.2 ⟨sQ.2 ⟨x,j,c⟩,decide_eq_true k⟩)
theorem iP.vO{K v n}(h:iP K n)(q:dU v n)(i)(m:i<2){M a}(r:(n.x i).jA M a)(o:PkW (n.x i) M a):iP K (n.vO i M a):=by
 have s:=xR (fun g d=>((q.loc i m).q g d).kd) r;have l:∀j,(n.vO i M a).x j=if j=i then M else n.x j:=fun j=>rfl;refine⟨fun j b=>?_,fun j b=>?_,fun j b=>?_,fun z c f p k=>?_,h.ln,h.nw⟩
 .have A:=h.dg j b;show DgI n.now ((n.vO i M a).x j) ((n.vO i M a).x (1-j)) (n.gr j) (n.nx j);rw[l,l];rcases(show j=i\/j=1-i by omega)with e|e;.rw[dN e,b_ aj];constructor<;>grind [cases DgI,cases Qp,List.length_append]
  .rw[b_ aj,dN aj];constructor<;>grind [cases DgI,cases Qp]
 .rw[l];split;.rename_i e;rw[e]at b;exact(B_ r).trans (h.tk i b)
  .exact h.tk j b
 .grind [cases Qp,cases iP]
 .rcases iJ.1 (show z∈n.dJ++(vN a).map (fun y=>(1-i,y))from c)with c|c;.exact h.bg z c f p k
  .obtain⟨y,w,rfl⟩:=jH.1 c;obtain⟨x,t,rfl⟩:=jH.1 w;obtain⟨g,d,rfl⟩:=jH.1 p;have u:=((o.ok x t).1.fs g d).sn;rw[nJ g u]at k;have:=((h.dg i m).q g (q.late i m r x t g d k)).1;show Qw (n.gr (1-(1-i))) (norm g);rw[show 1-(1-i)=i by omega,norm_eq g u,b_ aj,b_ aj,b_ aj,b_ aj,b_ aj,b_ aj,dN k];exact this
def Pw(b a d):iP 0 (Net.new b a d):=
 ⟨fun _ _=>⟨List.Pairwise.nil,(fun c e=>by cases e),aI _,(fun f h=>by cases h),(fun g i=>by cases i),aI _⟩,fun _ _=>rfl,fun _ _=>rfl,(fun y j=>by cases j),fun _ _=>⟨aI _,aI _⟩,aI _⟩
theorem Vn(a:fG A)(b:dL A B)(c:dL B A):rV A B A.emp:=
 ⟨⟨a.lo,a.li,a.wr,a.sp,a.it,a.gt,a.mY,a.q,a.ql⟩,⟨b.rd,b.jI,b.aT⟩,⟨c.rd,c.jI,c.aT⟩,⟨fun _=>rU.refl _,fun _=>aI _,aI _,aI _⟩⟩
def qd2(h:Bd A):Bd A.emp:=⟨h.o,h.i,h.g,h.lm,h.mt,h.wy,h.ls,h.ky,h.wl,h.ll,h.nm,h.cm,h.tk,h.ib⟩
def dU.uG{a n}(h:dU a n)(i L):dU a (n.uG i L):=⟨h.loc,h.two,h.bd,h.mt,h.ct,h.dJ⟩
theorem Jl.aT{n a}(h:Jl c n a)(i)(b:i<2):Jl c n (a.iW i):=by
 refine⟨(jq h.p i b (a.x i).emp (Vn (h.p.loc i b) (h.p.two i b) (h.p.mU i b)) (qd2 (h.p.bd i b)) rfl rfl).uG _ _,fun j d=>?_,h.now,h.bl,fun w t k=>((h.li w t k).turn (M:=(a.x i).emp) i b (Ca rfl) ((h.li w t k).dq i b)).sub rfl fun _ h=>h⟩;show((a.dM i (a.x i).emp).x j).next=_/\((a.dM i (a.x i).emp).x j).aV=_
 by_cases e:j=i;.rw[e,dD];rw[e]at d;exact h.nx i d
 grind [gu,cases Jl]
structure RcO (aZ K:Nat) (n:Net) (i:Nat) (n2:Net):Prop where
 ms:(n2.x i).gy.length<=1000000
 gl:(n2.gr (1-i)).length<=1000000000
 ok:(jo n2.now (n2.x i).gy (n2.gr (1-i))).2=true
 o:Jl aZ n (n2.iW i)
 g:iP K (n2.iW i)
theorem xU:∀(a) {A A'},jR A a A' 0->oq A a A'
 |[],_,_,h=>h.1
 |f::t,A,A',h=>by
  obtain⟨b,c,r,h⟩:=h;split at h;.rename_i e;subst e;exact⟨b,r,xU t h⟩
  grind
theorem TF{m a}(h:A.jJ m a A' 0):A'.gy.length<=A.gy.length+a.length:=by
 unfold av.jJ at h;split at h;.grind
 .have:=xP a (xU a h);exact this
theorem Px{n c}(r:K<=1000000000)(h:Cr1 d n c)(m:dU d n)(g:iP K c)(o:qV c 0)(i)(e:i<2)(y)(p:(i,y)∈n.dJ)(l:O0 d (c.x (1-i)) (c.x i) y)(q:∀f∈y.2,f.aD=7->Qw (c.gr (1-i)) f){k}(j:(c.x i).jJ y.1 y.2 k 0):RcO d K n i (c.dM i k):=by
 obtain⟨a,b⟩:=g.recv i e q j;refine⟨?_,?_,?_,(qcs h m o i e y p l j).aT i e,b⟩;.rw[dD];have:=TF j;rw[g.ms i e]at this;have:=l.ln;grind
 .have:=(g.ln (1-i) aj).1;show(c.gr (1-i)).length<=_;omega
 .rw[dD];exact a
theorem qi7{n}(d:K<=1000000000)(h:dU b n)(g:iP K n)(i)(c:i<2):RcO b K n i n:=by
 have a:=g.ms i c;have e:n.iW i=n.dM i (n.x i).emp:=by unfold Net.iW;rw[a];exact KD (n.dM i (n.x i).emp) (1-i)
 refine⟨by rw[a];simp,by grind [cases iP],by rw[a];rfl,(xQ h).aT i c,?_⟩;rw[e];exact g.dM i ⟨rfl,rfl,a.symm,rfl,rfl⟩ rfl
section
section
variable {oZ:Own} {w:Wq} {a:Ad} {n:Net} {vb:Value}
def oC(K Sd A B:Int)(S:ByteArray):bM:=[iZ K,iZ Sd,iZ A,iZ B,.string S]
def mW(x:Int):Prop:= -9223372036854775808<=x/\x<=9223372036854775807
theorem qd3(h:dW oZ w a n vb (ends n))(hp:dU a.aZ n){Kg}(KI:Kg<=1000000000)(hg:iP Kg n)(hb:qV n 0)(xe:a.aZ<=400)(hl:n.dJ.length<=1000000000)(K Sd A B S)(hA:mW A)(hB:mW B):bN 39 #[aK a.N 0,.agg #[iZ K,iZ Sd,iZ A,iZ B,.string S]] w (.bool true) fun w'=>∃n',Jl a.aZ n n'/\iP Kg n'/\(n.dJ=[]->n'=n)/\ny oZ w a n' w':=by
 have H0:=Dp h;have I:=H0.alloc 37 (oC K Sd A B S);obtain⟨a0,c0,p8,IE⟩:=I.qr0;have H:=aG hp;have P:=aG hg;have HB:=aG hb;have HA:=aG hA;have Ew:=aG hB;have x4:=aG IE;obtain⟨m,hm⟩:=bU n.dJ.length;rw[<-hm]at p8 hl;have HM:=aG hm;obtain⟨w1,Z⟩:=bU (w.alloc (.cells (oC K Sd A B S).toArray 37));rw[<-Z]at p8 I;have b0:=I.cell (.head _) 0;have b2:=I.cell (.head _) 2;have b3:=I.cell (.head _) 3;have b4:=I.cell (.head _) 4;simp only[oC,jh,gN]at b0 b2 b3 b4;have Q:=aG I;clear H0 I h hp hg hb hA hB IE hm;go_enter func39,ntmps39;have xV:w.alloc (.cells #[iZ K,iZ Sd,iZ A,iZ B,.string S] 37)=w1:=Z.symm;clear Z;by_cases h0:m=0;.subst h0;go_wp2;go_ret;exact⟨rfl,n,xQ H.out,P.out,fun _=>rfl,Q.out.ntf.lI⟩
 have xj:¬((m:Int)=0):=aj;obtain⟨k,hk⟩:=bU (dw A m);have xm:k<m:=by rw[hk];exact dR A m aj
 have x7:Hid (∀w,bN 32 #[iZ A,iZ m] w (iZ k) fun w'=>w'=w):=fun w=>by rw[hk];exact BX A m HA.out.1 HA.out.2 aj aj w
 obtain⟨g,rfl,d0,d1⟩:=x4.out k (fT HM.out);obtain⟨y,hy⟩:=bU (n.dJ.getD k (0,0,[]));rw[<-hy]at d0 d1;have E:y∈n.dJ:=by have:k<n.dJ.length:=fT HM.out;grind
 obtain⟨c,x3⟩:=H.out.dJ y E;have U:=aG x3;have R:Hid (n.dJ≠[]):=fun e=>by grind
 have x5:=aG E;obtain⟨i,hi⟩:=bU y.1;obtain⟨D,hD⟩:=bU (⟨(bT y.2.1 y.2.2).toArray⟩:ByteArray);unfold sV at d1;rw[<-hi]at d0 c;rw[<-hD]at d1;have HI:=aG hi;have HD:=aG hD;rw[show w.alloc (.cells (oC K Sd A B S).toArray 37)=w1 from xV]at d0 d1;clear hi hD hy x3 E hk x4;go_wp2;clear xV;go_quiet ((go_at_call 32;exact nC (x7.out _)));obtain⟨w2,F⟩:=bU (w1.drewN nq);have e8:w2.cell? (aA a.N 8)=some (dB g m c0):=by rw[F];exact p8
 have c0:w2.cell? (aA g (k*2))=some (iZ i):=by rw[F];exact d0
 have c1:w2.cell? (aA g (k*2+1))=some (.string D):=by rw[F];exact d1
 have G:=(Q.out.below (dG w1 nq)).alloc 62 [iZ i,.string D];rw[<-F]at G ⊢;obtain⟨w3,h8⟩:=bU (w2.alloc (.cells [iZ i,.string D].toArray 62));obtain⟨s,Nl⟩:=bU w2.heap.size;rw[<-h8,<-Nl]at G;have f0:=G.cell (.head _) 0;have f1:=G.cell (.head _) 1;have e0:=G.cell (.tail _ (.head _)) 0;have e3:=G.cell (.tail _ (.head _)) 3;have e4:=G.cell (.tail _ (.head _)) 4;obtain⟨x0,x1⟩:=G.xc i c;simp only[oC,jh,gN]at f0 f1 e0 e3 e4;have ZL:=h8.symm;have xo:=Nl.symm;have p:=aG G;clear F b0 b2 b3 b4 p8 d0 d1 Q h8 Nl G;by_cases k8:K=8;.subst k8;have O:=aG (Vk p.out k (fT HM.out) (fT HM.out));go_wp2_with (go_at_call 67;refine bK O.out ?_;rintro d h4);go_ret;exact⟨rfl,_,Pp H.out k,P.out.sub _ (fun _ hy=>KX hy),fun e=>absurd e R.out,h4.ntf.lI⟩
 by_cases k7:K=7
 .subst k7;obtain⟨q,Y⟩:=bU (dw B 2);have ha:Hid (∀w,bN 32 #[iZ B,iZ 2] w (iZ q) fun w'=>w'=w):=fun w=>by rw[Y];exact BX B 2 Ew.out.1 Ew.out.2 aj aj w
  have hf:=aG Y;clear Y;have HY:Hid (∀j d,qN (loc oZ w.heap.size) w a [(s,62,[iZ i,.string D]),(w.heap.size,37,oC 7 Sd A B S)] j d->Jl a.aZ n j->j=(if dw B 2=0 then{n with dJ:=n.dJ.eraseIdx k}else n)->bN 29 #[(aK (a.C i) 0),.string D] d (.tuple #[iZ 0,(iZ (-1))]) fun t=>∃M,RcO a.aZ Kg n i M/\qN (loc oZ w.heap.size) w a [(s,62,[iZ i,.string D]),(w.heap.size,37,oC 7 Sd A B S)] M t):=fun j d h1 J xf=>by
   have ex:j.x=n.x:=by grind
   have er:j.gr=n.gr:=by grind
   have eb:∀z∈j.dJ,z∈n.dJ:=by grind [List.mem_of_mem_eraseIdx]
   have g1:iP Kg j:=by
    rw[xf];split;.exact P.out.sub _ (fun _ hy=>KX hy)
    .exact P.out
   have h3:O0 a.aZ (j.x (1-i)) (j.x i) y.2:=by rw[ex,HI.out];exact U.out
   have hs:∀f∈y.2.2,f.aD=7->Qw (j.gr (1-i)) f:=by rw[er,HI.out];exact P.out.bg y x5.out
   have:=qi2 h1 J.p (J.nb HB.out) xe i c y.2 h3 (g1.ms i c);unfold sV at this;rw[<-HD.out]at this;refine bK this ?_;rintro t ⟨M1,r,V⟩;exact⟨rfl,_,Px KI ⟨J,ex,eb⟩ H.out g1 (J.nb HB.out) i c y.2 (by rw[HI.out];exact x5.out) h3 hs r,V⟩
  have O:=aG (Vk p.out k (fT HM.out) (fT HM.out));have hv:q=0\/¬((q:Int)=0):=aj;rcases hv with rfl|hv;all_goals go_wp2_with (first|(go_at_call 32;refine bK (ha.out _) ?_;rintro d h9;subst h9)|(go_at_call 67;refine bK O.out ?_;rintro d h4))
  all_goals(
   obtain⟨j,H4,HO,x6⟩:∃j,Hid (qN (loc oZ w.heap.size) w a [(s,62,[iZ i,.string D]),(w.heap.size,37,oC 7 Sd A B S)] j d)/\Hid (Jl a.aZ n j)/\Hid (j=(if dw B 2=0 then{n with dJ:=n.dJ.eraseIdx k}else n)):=(by first|exact⟨_,h4,Pp H.out k,(dN hf.out.symm).symm⟩|exact⟨n,p.out,xQ H.out,(b_ (by rw[<-hf.out];omega)).symm⟩);clear f0 f1 e0 e3 e4 x0 x1 p ZL
   (try clear h4))
  all_goals(
   have f0:=H4.out.cell (.head _) 0;have f1:=H4.out.cell (.head _) 1;obtain⟨x0,x1⟩:=H4.out.xc i c;simp only[jh,gN]at f0 f1;have T:Hid (bN 29 #[(aK (a.C i) 0),.string D] d.drew (.tuple #[iZ 0,(iZ (-1))]) fun t=>(t.cell? (aA a.N 0)=some (dB a.xb 2 a.xc)/\t.cell? (aA a.xb i)=some (aK (a.C i) 0)/\t.cell? (aA s 0)=some (iZ i)/\t.cell? (aA s 1)=some (.string D))/\Hid (∃M,RcO a.aZ Kg n i M/\qN (loc oZ w.heap.size) w a [(s,62,[iZ i,.string D]),(w.heap.size,37,oC 7 Sd A B S)] M t)):=by refine bK (HY.out j d.drew (H4.out.below ⟨rfl,rfl,rfl,aI _,fun _ _=>rfl⟩) HO.out x6.out) ?_;rintro t ⟨M,h6,L⟩;exact⟨rfl,⟨(L.xc i c).1,(L.xc i c).2,L.cell (.head _) 0,L.cell (.head _) 1⟩,M,h6,L⟩
   have xa:(0:Int)<=(i:Int):=aj;have xd:(i:Int)<2:=aj;go_region_held3 (fun y=>y.cell? (aA a.N 0)=some (dB a.xb 2 a.xc)/\y.cell? (aA a.xb i)=some (aK (a.C i) 0)/\y.cell? (aA s 0)=some (iZ i)/\y.cell? (aA s 1)=some (.string D)) (first|assumption|go_keep) ((first|(go_at_call 29;refine bK T.out ?_;rintro t ⟨x8,hw⟩)))
   obtain⟨_,_,s0,_⟩:=x8;obtain⟨M,C,hj⟩:=hw.out;have he:=aG C;have N:=aG (Vl hj i c C.ms C.gl C.ok);clear C hj hw f0 f1 x0 x1;go_wp2_with (go_at_call 30;refine bK N.out ?_;rintro w6 h6;have H6:=aG h6;clear h6);go_ret;exact⟨rfl,_,he.out.o,he.out.g,fun e=>absurd e R.out,H6.out.ntf.lI⟩)
 by_cases k9:K=9
 .subst k9;have ho:D.size=(bT y.2.1 y.2.2).length:=by rw[HD.out];exact(kQ _).2
  have hn:0<D.size:=by rw[ho];exact U.out.ps
  have xl:D.size<=400:=fT U.out.sz;obtain⟨q,Y⟩:=bU (dw B D.size);have xi:q<D.size:=by rw[Y];exact dR B D.size hn
  have ha:Hid (∀w,bN 32 #[iZ B,iZ D.size] w (iZ q) fun w'=>w'=w):=fun w=>by rw[Y];exact BX B D.size Ew.out.1 Ew.out.2 hn aj w
  clear Y ho;have hc:Hid (∀(b:UInt8) d,b≠0->qN (loc oZ w.heap.size) w a [(s,62,[iZ i,.string D]),(w.heap.size,37,oC 9 Sd A B S)] n d->bN 29 #[(aK (a.C i) 0),.string (D.extract 0 q++⟨#[D[q] ^^^ b]⟩++D.extract (q+1) D.size)] d (.tuple #[iZ 7,(iZ (-1))]) fun y=>(y.cell? (aA a.N 0)=some (dB a.xb 2 a.xc)/\y.cell? (aA a.xb i)=some (aK (a.C i) 0)/\y.cell? (aA s 0)=some (iZ i)/\y.cell? (aA s 1)=some (.string D))/\Hid (qN (loc oZ w.heap.size) w a [(s,62,[iZ i,.string D]),(w.heap.size,37,oC 9 Sd A B S)] n y)):=fun b d hb h4=>by obtain⟨l,h1,J,h3⟩:=Yf _ _ D HD.out q xi b hb;unfold spD at h1;rw[h1];refine bK (qm6 h4 H.out i c l aj h3) ?_;rintro t V;exact⟨rfl,⟨(V.xc i c).1,(V.xc i c).2,V.cell (.head _) 0,V.cell (.head _) 1⟩,V⟩
  have g4:(q:Int)+1<=(D.size:Int):=aj;have g1:(0:Int)<=(q:Int):=aj;have g2:(q:Int)<=(D.size:Int):=aj;have g3:(q:Int)<(D.size:Int):=aj;have g7:(0:Int)<=(q:Int)+1:=aj;have xn:IntKind.i64.wrap ((q:Int)+1)=(q:Int)+1:=by rw[qB];omega
  have xa:(0:Int)<=(i:Int):=aj;have xd:(i:Int)<2:=aj;go_wp2_with (go_at_call 32;refine bK (ha.out _) ?_;rintro d h9;subst h9);all_goals(first|(rw[show Value.int .u8 1=Value.int .u8 (((1:UInt8).toNat:Nat):Int)from rfl];have X:(1:UInt8)≠0:=kX;generalize (1:UInt8)=b at X ⊢)|(have J:((S[0].toNat:Int) != 0)=true:=Nc;have X:S[0]≠0:=(fun e=>by rw[e]at J;grind);clear J;generalize S[0]=b at *))
  all_goals(
   refine wp_region_noPanic ?_;refine wp_region_held_drew (S:=fun y=>y.cell? (aA s 1)=some (.string D)) bZ (by simpa using f1) (fun x=>?_);refine lK 0 rfl ?_;refine lK 1 rfl ?_;refine lK 2 rfl ?_;refine lK 3 rfl ?_;refine lK 4 rfl ?_;refine lK 5 rfl ?_;refine lK 6 rfl ?_;refine lK 7 rfl ?_;refine lK 8 rfl ?_;refine lK 9 rfl ?_;refine lK 13 rfl ?_;refine lK 14 rfl ?_;refine lK 15 rfl ?_;refine lK 16 rfl ?_;refine lK 17 rfl ?_;simp only[Act.put,yX];refine wpAnyH_ready (rs:=[10]) bZ aR ?_;refine AllReadyH.cons (o:=_) rfl (fun K hK=>?_) AllReadyH.nil;go_simp;have hu:=TD d D[q] b _ rfl;have hr:bJ d ((d.alloc (.cells #[.int .u8 (bits .xor .u8 (D[q].toNat:Int) (b.toNat:Int))] 5)).drew):=((bP _ d).alloc (aI _) _).drew;have H5:=aG (p.out.below hr);have f5:=H5.out.cell (.head _) 1;simp only[jh,gN]at f5;obtain⟨t,x2⟩:=bU ((d.alloc (.cells #[.int .u8 (bits .xor .u8 (D[q].toNat:Int) (b.toNat:Int))] 5)).drew);rw[<-x2]at hu f5 H5 ⊢;refine hK.out _ _ f5 (fun x=>?_);clear hK K hr x2;refine wpAnyH_ready (rs:=[11]) bZ aR ?_;refine AllReadyH.cons (o:=_) rfl (fun K hK=>?_) AllReadyH.nil;go_simp;refine hK.out _ _ f5 (fun x=>?_);clear hK K hu;refine wpAnyH_take (i:=12) (oi:=_) (v:=?_) rfl bZ bZ bZ (fun _ _ _ h=>h) (Or.inl ⟨by rfl,?_⟩) Nc ?_;rotate_left;·(intro w W;(try dsimp only at W);go_simp;rw[b_ aj])
   refine wpAnyH_take (i:=18) (oi:=_) (v:=?_) rfl bZ bZ bZ (fun _ _ _ h=>h) (Or.inl ⟨by rfl,?_⟩) Nc ?_;rotate_left;·(intro w W;(try dsimp only at W);go_simp;rw[b_ aj])
   refine lK 19 rfl ?_;refine wpAnyH_done bZ ?_ _;refine NoPanic.normal ?_;clear f0 f1 e0 e3 e4 x0 x1 p;have f0:=H5.out.cell (.head _) 0;have f1:=H5.out.cell (.head _) 1;obtain⟨x0,x1⟩:=H5.out.xc i c;simp only[jh,gN]at f0 f1;have T:=aG (hc.out b t.drew X (H5.out.below ⟨rfl,rfl,rfl,aI _,fun _ _=>rfl⟩));clear f5 hc;go_wp2;generalize D.extract 0 q++⟨#[D[q] ^^^ b]⟩++D.extract (q+1) D.size=D2 at *
   go_region_held3 (fun y=>y.cell? (aA a.N 0)=some (dB a.xb 2 a.xc)/\y.cell? (aA a.xb i)=some (aK (a.C i) 0)/\y.cell? (aA s 0)=some (iZ i)/\y.cell? (aA s 1)=some (.string D)) (first|assumption|go_keep) ((first|(go_at_call 29;refine bK T.out ?_;rintro w6 ⟨x9,hx⟩)))
   obtain⟨_,_,s0,_⟩:=x9;have u:=aG (qi7 KI H.out P.out i c);have N:=aG (Vl hx.out i c u.out.ms u.out.gl u.out.ok);clear hx f0 f1 x0 x1;go_wp2_with (go_at_call 30;refine bK N.out ?_;rintro w7 L;have H7:=aG L;clear L);go_ret;exact⟨rfl,_,u.out.o,u.out.g,fun e=>absurd e R.out,H7.out.ntf.lI⟩)
 go_wp2;go_ret;exact⟨rfl,n,xQ H.out,P.out,fun _=>rfl,p.out.ntf.lI⟩
end

end
section
def jm(c x)(h:mW c)(d:0<x/\x<=100000)(w):bN 32 #[iZ c,iZ x] w (iZ (dw c x.toNat:Nat)) fun b=>b=w:=by have:=BX c x.toNat h.1 h.2 aj aj w;rwa[YL aj]at this
theorem qm8(N xb xc eb ec el Ji e C i k)(hi:i<2)(hk:k<8)(Sd A B)(Z:mW Sd)(hA:mW A)(L:i=dw Sd 2)(M:k=dw A 8)(S d)(_hS:S.size<=1000000)(Y:d.size<=2048)(bL gv)(code:Nat)(w j)(R u:Wq->Prop)(t:j=w.alloc (.cells (oC 1 Sd A B S).toArray 37))(T:j.cell? (aA N 0)=some (dB xb 2 xc))(U:j.cell? (aA N 1)=some (dB eb 2 ec))(x1:j.cell? (aA xb i)=some (aK C 0))(V:j.cell? (aA eb i)=some (dB el 8 Ji))(W:j.cell? (aA el k)=some (aK e 0))(D:bN 34 #[aK C 0,iZ k,.string S] j (iZ code) fun b=>R b)(I:∀b,R b->b.cell? (aA e 0)=some (.string d)/\b.frozen? (aA e 0)=false/\b.cell? (aA e 1)=some (.bool bL)/\b.cell? (aA e 2)=some (.bool gv)/\b.cell? (aA w.heap.size 4)=some (.string S)/\e≠w.heap.size)(s:code=if bL||gv then 4 else if 2048<d.size+S.size then 3 else 0)(p:code≠0->∀b q,R b->u (b.drewN q))(r:code=0->∀b q q2,R b->u (((b.drewN q).setCell (aA e 0) (.string (d++S))).drewN q2)):bN 22 #[aK N 0,.agg #[iZ 1,iZ Sd,iZ A,iZ B,.string S]] w (.bool true) fun w'=>u w':=by
 have p1:=L.symm;have p2:=M.symm;have m:aS j w.heap.size 37 (oC 1 Sd A B S):=by grind [aS.new]
 have E:=m.cell 0;have F:=m.cell 1;have G:=m.cell 2;have H:=m.cell 4;simp only[oC,jh,gN]at E F G H;have P:=aG D;have Q:=aG I;have x:=aG p;have v:=aG r;have f:=aG s;have xV:w.alloc (.cells #[iZ 1,iZ Sd,iZ A,iZ B,.string S] 37)=j:=t.symm;have h0:(i:Int)<2:=aj;have h2:(k:Int)<8:=aj;clear D I p r s t m L M;go_enter sP,sO;go_wp2_with (first|(go_at_call 32;refine(jm _ _ Nc kX _).mono ?_;rintro X w4 ⟨rfl,z⟩;subst z)|(go_at_call 34;refine P.out.mono ?_;rintro X b ⟨rfl,K⟩;have o:=aG K;clear K));obtain⟨f0,O,f1,f2,f4,h3⟩:=Q.out b o.out;clear T U x1 V W E F G H P;cases bL with
 |true=>
  obtain rfl:code=4:=f.out;have g:=aG (fun q=>x.out kX b q o.out);by_cases J:(2048:Int)-(d.size:Int)<(S.size:Int);.go_quiet (fail);go_wp2;go_ret;exact⟨rfl,g.out nq⟩
  .go_quiet (fail);go_wp2;go_ret;exact⟨rfl,g.out nq⟩
 |false=>
 cases gv with
 |true=>
  obtain rfl:code=4:=f.out;have g:=aG (fun q=>x.out kX b q o.out);by_cases J:(2048:Int)-(d.size:Int)<(S.size:Int);.go_quiet (fail);go_wp2;go_ret;exact⟨rfl,g.out nq⟩
  .go_quiet (fail);go_wp2;go_ret;exact⟨rfl,g.out nq⟩
 |false=>
  by_cases J:2048<d.size+S.size
  .obtain rfl:code=3:=by have:=f.out;grind
   have g:=aG (fun q=>x.out kX b q o.out);have y:(2048:Int)-(d.size:Int)<(S.size:Int):=aj;go_quiet (fail);go_wp2;go_ret;exact⟨rfl,g.out nq⟩
  .obtain rfl:code=0:=by have:=f.out;grind
   have y:¬((2048:Int)-(d.size:Int)<(S.size:Int)):=aj;go_quiet (fail);obtain⟨l,c⟩:=bU (b.drewN nq);have g0:l.cell? (aA e 0)=some (.string d):=by rw[c];exact f0
   have gz:l.frozen? (aA e 0)=false:=by rw[c];exact O
   have g1:l.cell? (aA e 1)=some (.bool false):=by rw[c];exact f1
   have g2:l.cell? (aA e 2)=some (.bool false):=by rw[c];exact f2
   have g4:l.cell? (aA w.heap.size 4)=some (.string S):=by rw[c];exact f4
   have g:Hid (u ((l.setCell (aA e 0) (.string (d++S))).drew)):=by rw[c];exact v.out rfl b nq 1 o.out
   rw[<-c];clear c f0 O f1 f2 f4;go_wp2;go_region
   all_goals(go_wp2;go_ret;exact⟨rfl,g.out⟩)
theorem qd4(N xb xc eb ec el Ji e C i k)(W:i<2)(X:k<8)(Sd A B)(K:mW Sd)(V:mW A)(D:i=dw Sd 2)(E:k=dw A 8)(S bL gv)(code:Nat)(w f)(R u:Wq->Prop)(q:f=w.alloc (.cells (oC 2 Sd A B S).toArray 37))(P:f.cell? (aA N 0)=some (dB xb 2 xc))(Q:f.cell? (aA N 1)=some (dB eb 2 ec))(x1:f.cell? (aA xb i)=some (aK C 0))(T:f.cell? (aA eb i)=some (dB el 8 Ji))(U:f.cell? (aA el k)=some (aK e 0))(x:bN 35 #[aK C 0,iZ k] f (iZ code) fun b=>R b)(z:∀b,R b->b.frozen? (aA e 1)=false/\b.cell? (aA e 1)=some (.bool bL)/\b.cell? (aA e 2)=some (.bool gv))(p:code=if bL||gv then 4 else 0)(m:code≠0->∀b,R b->u b)(o:code=0->∀b,R b->u (b.setCell (aA e 1) (.bool true))):bN 22 #[aK N 0,.agg #[iZ 2,iZ Sd,iZ A,iZ B,.string S]] w (.bool true) fun O=>u O:=by
 have Y:=D.symm;have Z:=E.symm;have r:aS f w.heap.size 37 (oC 2 Sd A B S):=by grind [aS.new]
 have H:=r.cell 0;have I:=r.cell 1;have J:=r.cell 2;simp only[oC,jh,gN]at H I J;have v:=aG x;have t:=aG z;have y:=aG m;have s:=aG o;have g:=aG p;have xV:w.alloc (.cells #[iZ 2,iZ Sd,iZ A,iZ B,.string S] 37)=f:=q.symm;have L:(i:Int)<2:=aj;have M:(k:Int)<8:=aj;clear x z m o p q r D E;cases bL with
 |true=>obtain rfl:code=4:=g.out;go_enter sP,sO;go_wp2_with (first|(go_at_call 32;refine(jm _ _ Nc kX _).mono ?_;rintro l F ⟨rfl,d⟩;subst d)|(go_at_call 35;refine v.out.mono ?_;rintro l b ⟨rfl,c⟩;obtain⟨G,f1,f2⟩:=t.out b c;have j:=aG (y.out kX b c);clear c));go_ret;exact⟨rfl,j.out⟩
 |false=>
 cases gv with
 |true=>obtain rfl:code=4:=g.out;go_enter sP,sO;go_wp2_with (first|(go_at_call 32;refine(jm _ _ Nc kX _).mono ?_;rintro l F ⟨rfl,d⟩;subst d)|(go_at_call 35;refine v.out.mono ?_;rintro l b ⟨rfl,c⟩;obtain⟨G,f1,f2⟩:=t.out b c;have j:=aG (y.out kX b c);clear c));go_ret;exact⟨rfl,j.out⟩
 |false=>obtain rfl:code=0:=g.out;go_enter sP,sO;go_wp2_with (first|(go_at_call 32;refine(jm _ _ Nc kX _).mono ?_;rintro l F ⟨rfl,d⟩;subst d)|(go_at_call 35;refine v.out.mono ?_;rintro l b ⟨rfl,c⟩;obtain⟨G,f1,f2⟩:=t.out b c;have j:=aG (s.out aR b c);clear c));go_ret;exact⟨rfl,j.out⟩
theorem Dr(n i k o)(f:i<2)(g:k<(n.x i).outs.length)(b c)(d:b<2):ends (n.dM i ((n.x i).dA k o)) b c=if b=i/\c=k then Eu o ((n.x (1-i)).bH k)else ends n b c:=by
 unfold ends;by_cases e:b=i;.subst e;rw[dD,gu _ _ _ _ aj,gL];grind
 .rw[b_ (fun h=>e h.1),gu _ _ _ _ e,show 1-b=i by omega,dD];rfl
def Net.qG(n:Net)(i k:Nat)(S:ByteArray):Net:=n.dM i ((n.x i).dA k (((n.x i).out k).send S.data.toList).1)
def Net.TG(n:Net)(i k:Nat):Net:=n.dM i ((n.x i).dA k ((n.x i).out k).finish.1)
section
variable {oZ:Own} {w:Wq} {a:Ad} {n:Net} {vb:Value}
theorem Vo(h:dW oZ w a n vb (ends n))(G:dU a.aZ n)(Sd A B)(D:mW Sd)(V:mW A)(S)(W:S.size<=1000000):bN 22 #[aK a.N 0,.agg #[iZ 1,iZ Sd,iZ A,iZ B,.string S]] w (.bool true) fun w'=>ny oZ w a (n.qG (dw Sd 2) (dw A 8) S) w':=by
 obtain⟨i,I⟩:=bU (dw Sd 2);obtain⟨k,J⟩:=bU (dw A 8);have b:i<2:=by rw[I];exact dR Sd 2 aj
 have c:k<8:=by rw[J];exact dR A 8 aj
 rw[<-I,<-J];obtain⟨u,r⟩:=bU (w.alloc (.cells (oC 1 Sd A B S).toArray 37));have m:bJ w u:=by rw[r];exact(bP _ w).alloc (aI _) _
 have N:aS u w.heap.size 37 (oC 1 Sd A B S):=by grind [aS.new]
 have v:=h.loc.below m;have ob:loc oZ w.heap.size w.heap.size=0:=jF _ _ _ (aI _);have L:Kp TN (loc oZ w.heap.size) (loc oZ w.heap.size) w u:=Kp.below m;obtain⟨O,P,_⟩:=v.cells;obtain⟨Q,R,_⟩:=v.Ky i k b c;have Z:=(h.en i k b c).1.lt;have F:k<(n.x i).outs.length:=by rw[(G.loc i b).lo];exact c
 have f:=(G.loc i b).wr k;obtain⟨o,y⟩:=bU ((n.x i).out k);rw[<-y]at f;have X:=f.sz;have K:ends n i k=Eu o ((n.x (1-i)).bH k):=by rw[y];rfl
 have C:(⟨o.all.toArray⟩:ByteArray).size=o.all.length:=(kQ _).2;have vZ:S.data.toList.length=S.size:=aR;refine qm8 a.N a.xb a.xc a.eb a.ec (a.el i) (a.Ji i) (a.e i k) (a.C i) i k b c Sd A B D V I J S ⟨o.all.toArray⟩ W aj o.bL o.nt.bG (o.send S.data.toList).2 w u
  (fun d=>Vb (loc oZ w.heap.size) u a vb (ends n) (T0 (60*(i+1))) (n.qG i k S) d) (ny oZ w a (n.qG i k S)) r O P (v.xs i b).1 Q R (by rw[y];exact qho v G i k b c S aj) ?_ ?_ ?_ ?_
 .rintro d ⟨t,g,l⟩;have B:=(g.en i k b c).1;rw[K]at B;exact⟨B.cell 0,B.frozen 0,B.cell 1,B.cell 2,(bW N l (by grind [fM])).cell 4,aj⟩
 .unfold Ot.send Ot.closed;rw[C];cases x:(o.bL||o.nt.bG)
  .have p:o.nt.bG=false:=by grind
   simp only[f.ng p,vZ,Bool.false_eq_true,if_false];split<;>rfl
  .rfl
 .rintro x d q ⟨t,g,l⟩;have e:(o.send S.data.toList).1=o:=by
   unfold Ot.send at x ⊢;grind
  have s:Sm (n.x i) ((n.x i).dA k (((n.x i).out k).send S.data.toList).1):=by grind [qM,Cj]
  have z:=(g.below (dG d q)).yS (E':=ends (n.qG i k S)) (fun j H _ _=>pF s j H);exact ny.lI ⟨t,vb,z,L.trans ((l.mono (uK i b)).trans (Kp.below (dG d q)))⟩
 .rintro x d q M ⟨t,g,l⟩;have e:(o.send S.data.toList).1={o with aB:=o.aB++S.data.toList,all:=o.all++S.data.toList}/\o.nt.bG=false:=by
   unfold Ot.send at x ⊢;split;.grind
   .rename_i U;split;.grind
    .refine⟨rfl,?_⟩;cases h3:o.nt.bG;.rfl
     .exact absurd (by unfold Ot.closed;grind) U
  obtain⟨e,p⟩:=e;have oe:=(g.en i k b c).2;have z:=((g.below (dG d q)).Tt i k b c 0 (.string (⟨o.all.toArray⟩++S))).below (dG _ M);have T:=z.yS (E':=ends (n.qG i k S)) (fun i' H E Y=>by
   unfold Net.qG;rw[Dr n i k _ b F i' H E,K,<-y,e];split
   .unfold Eu Ot.kept;have:(⟨o.all.toArray⟩++S:ByteArray)=⟨(o.all++S.data.toList).toArray⟩:=by ext1;grind [ByteArray.data_append]
    grind
   .rfl)
  exact ny.lI ⟨t,vb,T,L.trans ((l.mono (uK i b)).trans ((Kp.below (dG d q)).trans ((Kp.set t _ (aA (a.e i k) 0) _ TN (by grind [TN,lu])).trans (Kp.below (dG _ M)))))⟩
end

end
section
section
variable {oZ:Own} {w:Wq} {a:Ad} {n:Net} {vb:Value}
theorem KJ(h:dW oZ w a n vb (ends n))(G:dU a.aZ n)(Sd A B)(t:mW Sd)(N:mW A)(S):bN 22 #[aK a.N 0,.agg #[iZ 2,iZ Sd,iZ A,iZ B,.string S]] w (.bool true) fun Q=>ny oZ w a (n.TG (dw Sd 2) (dw A 8)) Q:=by
 obtain⟨i,C⟩:=bU (dw Sd 2);obtain⟨k,D⟩:=bU (dw A 8);have b:i<2:=by rw[C];exact dR Sd 2 aj
 have c:k<8:=by rw[D];exact dR A 8 aj
 rw[<-C,<-D];obtain⟨q,g⟩:=bU (w.alloc (.cells (oC 2 Sd A B S).toArray 37));have f:bJ w q:=by rw[g];exact(bP _ w).alloc (aI _) _
 have p:=h.loc.below f;have F:Kp TN (loc oZ w.heap.size) (loc oZ w.heap.size) w q:=Kp.below f;obtain⟨H,I,_⟩:=p.cells;obtain⟨J,K,_⟩:=p.Ky i k b c;have x:k<(n.x i).outs.length:=by rw[(G.loc i b).lo];exact c
 obtain⟨o,y⟩:=bU ((n.x i).out k);have E:ends n i k=Eu o ((n.x (1-i)).bH k):=by rw[y];rfl
 refine qd4 a.N a.xb a.xc a.eb a.ec (a.el i) (a.Ji i) (a.e i k) (a.C i) i k b c Sd A B t N C D S o.bL o.nt.bG o.finish.2 w q
  (fun r=>Vb (loc oZ w.heap.size) q a vb (ends n) (T0 (60*(i+1))) (n.TG i k) r) (ny oZ w a (n.TG i k)) g H I (p.xs i b).1 J K (by rw[y];exact X8 p G i k b c) ?_ ?_ ?_ ?_
 .rintro r ⟨l,d,m⟩;have B:=(d.en i k b c).1;rw[E]at B;exact⟨B.frozen 1,B.cell 1,B.cell 2⟩
 .grind [Ot.finish,Ot.closed]
 .rintro u r ⟨l,d,m⟩;have e:o.finish.1=o:=by
   unfold Ot.finish at u ⊢;grind
  have s:Sm (n.x i) ((n.x i).dA k ((n.x i).out k).finish.1):=by grind [qM,Cj]
  have L:=d.yS (E':=ends (n.TG i k)) (fun j z _ _=>pF s j z);exact ny.lI ⟨l,vb,L,F.trans (m.mono (uK i b))⟩
 .rintro u r ⟨l,d,m⟩;have e:o.finish.1={o with bL:=true}:=by
   unfold Ot.finish at u ⊢;grind
  have R:=(d.en i k b c).2;have M:=(d.Tt i k b c 1 (.bool true)).yS (E':=ends (n.TG i k)) (fun P z v O=>by unfold Net.TG;rw[Dr n i k _ b x P z v,E,<-y,e];rfl);exact ny.lI ⟨l,vb,M,F.trans ((m.mono (uK i b)).trans (Kp.set l _ (aA (a.e i k) 1) _ TN (by grind [TN,lu])))⟩
theorem qd5(h:dW oZ w a n vb (ends n))(t:dU a.aZ n){D}(y:iP D n)(v:qV n 0)(s:a.aZ<=400)(W:n.dJ.length<=1000000000)(Sd A B)(I:mW Sd)(U:mW A)(S):bN 22 #[aK a.N 0,.agg #[iZ 6,iZ Sd,iZ A,iZ B,.string S]] w (.bool true) fun p=>∃M b,(n.x (dw Sd 2)).jA M b/\PkO (n.x (dw Sd 2)) (n.x (1-dw Sd 2)) M b/\ny oZ w a (n.vO (dw Sd 2) M b) p:=by
 obtain⟨i,m⟩:=bU (dw Sd 2);have l:i<2:=by rw[m];exact dR Sd 2 aj
 rw[<-m];have X:=m.symm;have V:=dR A 8 aj;obtain⟨q,d⟩:=bU (w.alloc (.cells (oC 6 Sd A B S).toArray 37));have c:bJ w q:=by rw[d];exact(bP _ w).alloc (aI _) _
 have g:aS q w.heap.size 37 (oC 6 Sd A B S):=by grind [aS.new]
 have j:=h.below c;obtain⟨T,_⟩:=j.cells;have x1:=(j.xs i l).1;have E:=g.cell 0;have F:=g.cell 1;have G:=g.cell 2;simp only[oC,jh,gN]at E F G;have z:Hid (bN 23 #[aK a.N 0,iZ i] q (.bool true) fun p=>Hid (∃M b,(n.x i).jA M b/\PkO (n.x i) (n.x (1-i)) M b/\ny oZ w a (n.vO i M b) p)):=by refine(Pd j t v i l s aj (fun M b r x N f J k=>((y.dg i l).q f (t.late i l r x N f J k)).2)).mono ?_;rintro e p ⟨rfl,M,b,O,P,o,C,Q,R⟩;exact⟨rfl,M,b,O,P,o,C,Q,(Kp.below c).trans R⟩
 have xV:w.alloc (.cells #[iZ 6,iZ Sd,iZ A,iZ B,.string S] 37)=q:=d.symm;have K:(i:Int)<2:=aj;clear d g m j h t y v c;go_enter sP,sO;go_wp2_with (first|(go_at_call 32;refine(jm _ _ Nc kX _).mono ?_;rintro H Z ⟨rfl,u⟩;subst u)|(go_at_call 23;refine z.out.mono ?_;rintro H Y ⟨rfl,L⟩));go_ret;exact⟨rfl,L.out⟩
theorem qi8(h:dW oZ w a n vb (ends n))(s:dU a.aZ n)(Sd A B)(D:mW Sd)(K:mW A)(L:mW B)(S):bN 22 #[aK a.N 0,.agg #[iZ 10,iZ Sd,iZ A,iZ B,.string S]] w (.bool true) fun l=>ny oZ w a (n.dM (dw Sd 2) ((n.x (dw Sd 2)).eZ (dw B 8) (((n.x (dw Sd 2)).bH (dw B 8)).rd (dw A 200:Nat)).2)) l:=by
 obtain⟨i,f⟩:=bU (dw Sd 2);obtain⟨k,g⟩:=bU (dw B 8);obtain⟨m,j⟩:=bU (dw A 200);have r:i<2:=by rw[f];exact dR Sd 2 aj
 have F:k<8:=by rw[g];exact dR B 8 aj
 have M:m<200:=by rw[j];exact dR A 200 aj
 rw[<-f,<-g,<-j];have N:=f.symm;have O:=g.symm;have P:=j.symm;obtain⟨p,c⟩:=bU (w.alloc (.cells (oC 10 Sd A B S).toArray 37));have b:bJ w p:=by rw[c];exact(bP _ w).alloc (aI _) _
 have d:aS p w.heap.size 37 (oC 10 Sd A B S):=by grind [aS.new]
 have e:=h.below b;obtain⟨J,_⟩:=e.cells;have T:=(e.xs i r).1;have v:=d.cell 0;have x:=d.cell 1;have y:=d.cell 2;have z:=d.cell 3;simp only[oC,jh,gN]at v x y z;have t:Hid (bN 31 #[aK a.N 0,iZ i,iZ k,iZ m] p (.bool true) fun l=>Hid (ny oZ w a (n.dM i ((n.x i).eZ k (((n.x i).bH k).rd m).2)) l)):=by refine bK (Ve e s i k m r F aj) ?_;rintro l ⟨o,u,H,I⟩;exact⟨rfl,o,u,H,(Kp.below b).trans I⟩
 have U:w.alloc (.cells #[iZ 10,iZ Sd,iZ A,iZ B,.string S] 37)=p:=c.symm;have E:(i:Int)<2:=aj;clear c d f g j e h s b;go_enter sP,sO;go_wp2_with (first|(go_at_call 32;refine(jm _ _ Nc kX _).mono ?_;rintro C R ⟨rfl,q⟩;subst q)|(go_at_call 31;refine t.out.mono ?_;rintro C Q ⟨rfl,G⟩));go_ret;exact⟨rfl,G.out⟩
theorem qi9(N xb xc eb ec el Ji e C i k)(hi:i<2)(hk:k<8)(Sd A B)(X:mW Sd)(hA:mW A)(I:mW B)(L:i=dw Sd 2)(M:k=dw A 8)(S l)(W:l.size<=2048)(gv)(g f:Nat)(K:f=dw B (l.size+1))(w d)(R D:Wq->Prop)(t:d=w.alloc (.cells (oC 3 Sd A B S).toArray 37))(c0:d.cell? (aA N 0)=some (dB xb 2 xc))(c1:d.cell? (aA N 1)=some (dB eb 2 ec))(x1:d.cell? (aA xb i)=some (aK C 0))(e1:d.cell? (aA eb i)=some (dB el 8 Ji))(e2:d.cell? (aA el k)=some (aK e 0))(e3:d.cell? (aA e 0)=some (.string l))(G:∀q,bN 36 #[aK C 0,iZ k,iZ f] (d.drewN q) (iZ 0) fun b=>R b)(J:∀b,R b->b.frozen? (aA e 2)=false/\b.frozen? (aA e 3)=false/\b.cell? (aA e 2)=some (.bool gv)/\b.cell? (aA e 3)=some (iZ g))(o:gv=false\/f<g->∀b q,R b->D (((b.drewN q).setCell (aA e 3) (iZ f)).setCell (aA e 2) (.bool true)))(p:gv=true->¬f<g->∀b q,R b->D ((b.drewN q).setCell (aA e 2) (.bool true))):bN 22 #[aK N 0,.agg #[iZ 3,iZ Sd,iZ A,iZ B,.string S]] w (.bool true) fun E=>D E:=by
 have p1:=L.symm;have p2:=M.symm;have j:aS d w.heap.size 37 (oC 3 Sd A B S):=by grind [aS.new]
 have Q:=j.cell 0;have T:=j.cell 1;have U:=j.cell 2;have V:=j.cell 3;simp only[oC,jh,gN]at Q T U V;have F:=aG G;have x:=aG J;have H:=aG o;have u:=aG p;have v:Hid (∀w,bN 32 #[iZ B,(iZ ((l.size:Int)+1))] w (iZ f) fun E=>E=w):=fun w=>by rw[K];exact BX B (l.size+1) I.1 I.2 aj aj w
 have xV:w.alloc (.cells #[iZ 3,iZ Sd,iZ A,iZ B,.string S] 37)=d:=t.symm;have Y:(i:Int)<2:=aj;have Z:(k:Int)<8:=aj;clear G J o p t j L M K;go_enter sP,sO;go_wp2_with (first|(go_at_call 32;refine(jm _ _ Nc aj _).mono ?_;rintro y w4 ⟨rfl,z⟩;subst z));clear xV;go_quiet ((go_at_call 32;exact nC (v.out _)));cases gv with
 |false=>go_wp2_with (go_at_call 36;refine(F.out _).mono ?_;rintro y b ⟨rfl,c⟩;obtain⟨O,P,f2,f3⟩:=x.out b c;have m:=aG (H.out (.inl rfl) b 0 c);clear c);go_ret;exact⟨rfl,m.out⟩
 |true=>
  by_cases r:f<g;.have s:(f:Int)<(g:Int):=aj;go_wp2_with (go_at_call 36;refine(F.out _).mono ?_;rintro y b ⟨rfl,c⟩;obtain⟨O,P,f2,f3⟩:=x.out b c;have m:=aG (H.out (.inr r) b 0 c);clear c);go_ret;exact⟨rfl,m.out⟩
  .have s:¬((f:Int)<(g:Int)):=aj;go_wp2_with (go_at_call 36;refine(F.out _).mono ?_;rintro y b ⟨rfl,c⟩;obtain⟨O,P,f2,f3⟩:=x.out b c;have m:=aG (u.out rfl r b 0 c);clear c);go_ret;exact⟨rfl,m.out⟩
def Net.Py(n:Net)(i k:Nat)(B:Int):Net:=n.dM i ((n.x i).dA k (((n.x i).out k).reset (dw B (((n.x i).out k).all.length+1):Nat)))
theorem qd6(h:dW oZ w a n vb (ends n))(L:dU a.aZ n)(Sd A B)(H:mW Sd)(Z:mW A)(hB:mW B)(S):bN 22 #[aK a.N 0,.agg #[iZ 3,iZ Sd,iZ A,iZ B,.string S]] w (.bool true) fun w'=>ny oZ w a (n.Py (dw Sd 2) (dw A 8) B) w':=by
 obtain⟨i,N⟩:=bU (dw Sd 2);obtain⟨k,O⟩:=bU (dw A 8);have b:i<2:=by rw[N];exact dR Sd 2 aj
 have g:k<8:=by rw[O];exact dR A 8 aj
 rw[<-N,<-O];obtain⟨x,C⟩:=bU (w.alloc (.cells (oC 3 Sd A B S).toArray 37));have z:bJ w x:=by rw[C];exact(bP _ w).alloc (aI _) _
 have y:=h.loc.below z;have Q:Kp TN (loc oZ w.heap.size) (loc oZ w.heap.size) w x:=Kp.below z;obtain⟨V,W,_⟩:=y.cells;obtain⟨X,Y,_⟩:=y.Ky i k b g;have J:k<(n.x i).outs.length:=by rw[(L.loc i b).lo];exact g
 have p:=(L.loc i b).wr k;obtain⟨o,K⟩:=bU ((n.x i).out k);rw[<-K]at p;have P:ends n i k=Eu o ((n.x (1-i)).bH k):=by rw[K];rfl
 have G:(⟨o.all.toArray⟩:ByteArray).size=o.all.length:=(kQ _).2;have T:=(y.en i k b g).1;rw[P]at T;obtain⟨d,t⟩:=bU (dw B (o.all.length+1));have h0:d<o.all.length+1:=by rw[t];exact dR B _ aj
 have U:n.Py i k B=n.dM i ((n.x i).dA k (o.reset d)):=by grind [Net.Py]
 obtain⟨r1,r2,r3,r4,r5,r6⟩:=NI p (d:Int);have r7:(o.reset d).aB.length=min d o.aB.length:=by grind
 have R:∀(l:bM),l=[.string ⟨o.all.toArray⟩,.bool o.bL,.bool true,(iZ ((min d o.aB.length:Nat):Int)),(iZ (((n.x (1-i)).bH k).aY:Int)),(iZ (((n.x (1-i)).bH k).state:Int))]->∀j r,j<2->(if j=i/\r=k then l else ends n j r)=ends (n.Py i k B) j r:=fun l hl j r f=>by
  rw[U,Dr n i k _ b J j r f];split;.rw[hl];unfold Eu Ot.kept;rw[r5,dN rfl,r7];rfl
  .rfl
 have M:∀c:Own,c (a.e i k)=210+8*i+k->c (a.e i k)∈TN:=fun c e=>by grind [lu]
 refine qi9 a.N a.xb a.xc a.eb a.ec (a.el i) (a.Ji i) (a.e i k) (a.C i) i k b g Sd A B H Z hB N O S ⟨o.all.toArray⟩ (by rw[G];exact p.sz) o.nt.bG o.kept d (by grind) w x
  (fun s=>Vb (loc oZ w.heap.size) x a vb (ends n) (T0 (60*(i+1))) (n.Py i k B) s) (ny oZ w a (n.Py i k B)) C V W (y.xs i b).1 X Y (T.cell 0) (fun q=>?_) ?_ ?_ ?_
 .have:=qc9 (y.below (dG x q)) L i k b g (d:Int);rw[<-K,<-U]at this;refine this.mono ?_;rintro ee s ⟨rfl,c,m,u⟩;exact⟨rfl,c,m,(Kp.below (dG x q)).trans u⟩
 .rintro s ⟨c,m,u⟩;have B:=(m.en i k b g).1;rw[P]at B;exact⟨B.frozen 2,B.frozen 3,B.cell 2,B.cell 3⟩
 .rintro v s q ⟨c,m,u⟩;have D:=(m.en i k b g).2;have E:=((m.below (dG s q)).Tt i k b g 3 (iZ d)).Tt i k b g 2 (.bool true);have F:=E.yS (E':=ends (n.Py i k B)) (fun j r f I=>by
   refine Eq.trans ?_ (R (((Eu o ((n.x (1-i)).bH k)).set 3 (iZ d)).set 2 (.bool true)) ?_ j r f);.grind
   .have:min d o.aB.length=d:=by
     rcases v with v|v;.rw[p.ng v];omega
     grind [Ot.kept]
    rw[this];rfl)
  exact ny.lI ⟨c,vb,F,Q.trans ((u.mono (uK i b)).trans ((Kp.below (dG s q)).trans ((Kp.set c _ (aA (a.e i k) 3) _ TN (M c D)).trans (Kp.set c _ (aA (a.e i k) 2) _ TN (M c D)))))⟩
 .rintro hg v s q ⟨c,m,u⟩;have D:=(m.en i k b g).2;have E:=(m.below (dG s q)).Tt i k b g 2 (.bool true);have F:=E.yS (E':=ends (n.Py i k B)) (fun j r f I=>by
   refine Eq.trans ?_ (R ((Eu o ((n.x (1-i)).bH k)).set 2 (.bool true)) ?_ j r f);.grind
   .have:min d o.aB.length=o.kept:=by
     unfold Ot.kept at v ⊢;grind
    rw[this];rfl)
  exact ny.lI ⟨c,vb,F,Q.trans ((u.mono (uK i b)).trans ((Kp.below (dG s q)).trans (Kp.set c _ (aA (a.e i k) 2) _ TN (M c D))))⟩
end

