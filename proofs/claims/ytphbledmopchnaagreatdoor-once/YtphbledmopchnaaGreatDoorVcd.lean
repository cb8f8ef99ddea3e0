import Derived.Test.YtphbledmopchnaaGreatDoorVca
open Go.Builtin renaming zeroCells->eB,clear_->mE
open Go.Instr renaming lookup->fB
open List renaming replicate->eT,filter_append_perm->fE,reverse_cons->kg,filter->mI
open Prod renaming fst->fA
set_option maxHeartbeats 4000000
set_option maxRecDepth 100000
open Go renaming World->Wq,Value->WA,bodyPost_ret->Vl
set_option linter.all false
namespace Go.Proofs.YtphbledmopchnaaGreatDoor.Sd
open St Tryz
variable {a c:NS}{i:eU}{l:List Nat}{o:Ot}{x y:Nat}
def EI.bk(w:EI o):EI {o with gK:=a,aP:=c,nt:={o.nt with gK:=x,aP:=y}}:=⟨w.sl,w.sb,w.pr,w.sz,w.ng,w.gv⟩
def sF.bk(o:Ot):sF o {o with gK:=a,aP:=c,nt:={o.nt with gK:=x,aP:=y}}:=⟨qj _,qoa _,fun x=>⟨x,rfl⟩,fun x=>⟨x,rfl,rfl,qj _⟩⟩
def RI{A B:av}(a:gM A)(c:eH A B)(b:eH B A)(f:Fr):rH A B (A.jq f):=by
 unfold av.jq;split;·exact mq a c b _ _ (a.wr _).bk rfl (sF.bk _) (qnu _ _)
 ·split;·exact mq a c b _ _ (a.wr _).bk rfl (sF.bk _) (qnu _ _)
  ·split;·exact rJ a c b _ (Pn (b.rd _) _ (qj _)) (qj _) (qj _) (a.it _)
   ·exact MX a c b _ rfl (qj _) a.gt
def FE{A B:av}(a:gM A)(c:eH A B)(b:eH B A)(f:Fr):rH A B (A.gN f):=by
 unfold av.gN;split;·exact mq a c b _ _ (a.wr _).bk rfl (sF.bk _) (qnu _ _)
 ·split;·exact mq a c b _ _ (a.wr _).bk rfl (sF.bk _) (qnu _ _)
  ·split;·exact rJ a c b _ (Pn (b.rd _) _ (qj _)) (qj _) (qj _) (a.it _)
   ·exact MX a c b _ rfl (qj _) a.gt
def yF(g:av->Fr->av)(a:∀{A B:av},gM A->eH A B->eH B A->∀f,rH A B (g A f)):∀(l:List Fr) {A B:av},gM A->eH A B->eH B A->rH A B (l.foldl g A)
 |[],_,_,hA,h1,h2=>kE hA h1 h2
 |f::t,_,_,hA,h1,h2=>by have s:=a hA h1 h2 f;exact s.trans (yF g a t s.loc s.ab s.ba)
def getD_map{α:Type}(f:α->α)(d:α):∀(l:List α) (k:Nat),k<l.length->(l.map f).getD k d=f (l.getD k d)
 |[],_,h=>by simp at h
 |a::t,0,_=>rfl
 |a::t,k+1,h=>by simpa using getD_map f d t k (by simpa using h)
def oP{α:Type}(d:α):∀(l:List α) (k:Nat),l.length<=k->l.getD k d=d
 |[],_,_=>aM
 |a::t,0,h=>by simp at h
 |a::t,k+1,h=>by simpa using oP d t k (by simpa using h)
def J7(f:eU->eU)(b:∀i,(f i).aZ=i.aZ):∀(l:List eU) (s:Nat),(l.map f).foldl (fun s i=>min (s+i.aZ) dH) s=l.foldl (fun s i=>min (s+i.aZ) dH) s
 |[],_=>rfl
 |a::t,s=>by simp only[qov,qqw,b];exact J7 f b t _
def VH{A B:av}(b:gM A)(d:eH A B)(e:eH B A)(w l:List (Nat×ru)):rH A B {A with bf:=w,b_:=l,gr:=A.gr.kV,outs:=A.outs.map kC,ins:=A.ins.map jC}:=by
 obtain⟨c,a⟩:∃c,c={A with bf:=w,b_:=l,gr:=A.gr.kV,outs:=A.outs.map kC,ins:=A.ins.map jC}:=⟨_,rfl⟩;rw[<-a];have h:∀k,(c.out k)=if k<8 then kC (A.out k)else A.out k:=fun k=>by
  rw[a];show(A.outs.map kC).getD k Aj=_;split;·exact getD_map kC Aj _ _ (by rw[b.lo];assumption)
  ·rw[oP _ _ _ (by rw[qmc,b.lo];omega)];exact(oP _ _ _ (by rw[b.lo];omega)).symm
 have g:∀k,(c.cK k)=if k<8 then jC (A.cK k)else A.cK k:=fun k=>by
  rw[a];show(A.ins.map jC).getD k zF=_;split;·exact getD_map jC zF _ _ (by rw[b.li];assumption)
  ·rw[oP _ _ _ (by rw[qmc,b.li];omega)];exact(oP _ _ _ (by rw[b.li];omega)).symm
 have n:c.aT=A.aT:=by rw[a]
 have j:c.next=A.next:=by rw[a]
 have f:c.gr=A.gr.kV:=by rw[a]
 have m:c.aP=A.aP:=by rw[a]
 refine⟨⟨by rw[a];show(A.outs.map kC).length=8;rw[qmc,b.lo],by rw[a];show(A.ins.map jC).length=8;rw[qmc,b.li],fun k=>?_,?_,fun k=>?_,?_,by rw[a];exact b.kW,by rw[a];exact b.q,by rw[a];exact b.ql⟩,⟨fun k=>?_,by rw[n];exact d.jS,by rw[j];exact d.aP⟩,⟨fun k=>?_,by rw[f];exact e.jS,by rw[m];exact e.aP⟩,⟨fun k=>?_,fun k=>?_,by rw[f];exact qj _,by rw[j];exact qj _⟩⟩
 ·rw[h];split;·exact(b.wr k).bk
  ·exact b.wr k
 ·rw[a];show((A.outs.map kC).map Ot.dB).sum<=A.aT;rw[List.map_map];exact b.sp
 ·rw[g];split;·exact b.it k
  ·exact b.it k
 ·rw[f,a];show A.gr.kV.dX<=A.gr.kV.jS ((A.ins.map jC).foldl (fun s i=>min (s+i.aZ) dH) 0);rw[J7 jC (fun i=>rfl)];exact b.gt
 ·rw[h];split;·exact(d.rd k).mono rfl (sF.bk _)
  ·exact d.rd k
 ·rw[g];split;·exact Pn (e.rd k) _ (qj _)
  ·exact e.rd k
 ·rw[h];split;·exact sF.bk _
  ·exact sF.refl _
 ·rw[g];split<;>exact qj _
def G5{A B:av}(a:gM A)(b:eH A B)(c:eH B A)(w l:List (Nat×ru))(n:Nat)(m:Nat)(d:A.next<=n):rH A B {A with bf:=w,b_:=l,named:=m,next:=n}:=
 ⟨⟨a.lo,a.li,a.wr,a.sp,a.it,a.gt,a.kW,a.q,a.ql⟩,⟨b.rd,b.jS,fun r e=>qm9 (b.aP r e) d⟩,⟨c.rd,c.jS,c.aP⟩,⟨fun _=>sF.refl _,fun _=>qj _,qj _,d⟩⟩
def VI{A B:av}(g:gM A)(d:eH A B)(e:eH B A)(l:bZ):rH A B (A.land l):=by unfold av.land;have s:=G5 g d e (A.bf.filter fun x=> !names l x.1) (A.b_.filter fun x=> !names l x.1) A.next (max A.named ((l.getD 0 (0,0)).2+1)) (qj _);exact s.trans (yF av.gN (fun a b c f=>FE a b c f) _ s.loc s.ab s.ba)
def CJ{A B:av}(d:gM A)(b:eH A B)(c:eH B A)(a:List Fr):rH A B (A.dO a):=
 G5 d b c _ A.b_ (A.next+1) A.named (Nat.le_succ _)
def CK{A B:av}(a:gM A)(b:eH A B)(c:eH B A)(x:Bool):rH A B {A with bI:=x}:=
 ⟨⟨a.lo,a.li,a.wr,a.sp,a.it,a.gt,a.kW,a.q,a.ql⟩,⟨b.rd,b.jS,b.aP⟩,⟨c.rd,c.jS,c.aP⟩,⟨fun _=>sF.refl _,fun _=>qj _,qj _,qj _⟩⟩
def qe6(f b:Nat)(rs:bZ)(d a B:Nat)(h:∀r∈rs,r.2<B)(i:a<B):∀r∈(Rg.add f b rs d a).2,r.2<B:=by
 have e:∀r∈Rg.ins (max d b) a rs,r.2<B:=fun r c=>by have:=Rg.wQ rs (max d b) a (B-1) aj (fun x g=>bR (h x g)) r c;omega
 unfold Rg.add;split;·exact h
 ·split;·exact fun r c=>e r (qqn c)
  ·exact e
def J8{A B:av}(a:gM A)(b:eH A B)(c:eH B A)(n:Nat)(d:n<B.next)(x:Bool):rH A B {A with aP:=A.aP.add 8 n n,bI:=x}:=
 ⟨⟨a.lo,a.li,a.wr,a.sp,a.it,a.gt,a.kW,a.q,a.ql⟩,⟨b.rd,b.jS,b.aP⟩,⟨c.rd,c.jS,qe6 _ _ _ _ _ _ c.aP d⟩,⟨fun _=>sF.refl _,fun _=>qj _,qj _,qj _⟩⟩
def zO(P:Nat->UInt8->Prop):∀(d:List UInt8) (i:Nat) (h:List UInt8) (c:List Bool),c.length=h.length->i+d.length<=h.length->(∀j,c.getD j false=true->P j (h.getD j 0))->(∀j,j<d.length->P (i+j) (d.getD j 0))->(eO d i h c).2.length=(eO d i h c).1.length/\(eO d i h c).1.length=h.length/\∀j,(eO d i h c).2.getD j false=true->P j ((eO d i h c).1.getD j 0)
 |[],i,h,c,hl,_,hc,_=>⟨hl,rfl,hc⟩
 |x::t,i,h,c,hl,hi,hc,f=>by
  simp only[qmp]at hi;have a:∀j,j<t.length->P (i+1+j) (t.getD j 0):=fun j b=>by have:=f (j+1) (by simpa using b);rw[show i+1+j=i+(j+1) by omega];simpa using this
  unfold eO;split;·exact zO P t (i+1) h c hl aj hc a
  ·have:=zO P t (i+1) (h.set i x) (c.set i true) (by simpa using hl) (by rw[qn3];omega) (fun j e=>by
    by_cases b:j=i;·subst b;rw[qly,qo0 aj];have:=f 0 aM;simpa using this
    ·have g:c.getD j false=true:=by
      rw[qly,qn1 aj]at e;rw[qly];exact e
     rw[qly,qn1 aj,<-qly];exact hc j g) a
   exact⟨this.1,by rw[this.2.1,qn3],this.2.2⟩
def J9{α:Type}(d:α)(l m:List α)(j:Nat)(h:j<l.length):(l++m).getD j d=l.getD j d:=by rw[qly,qmw h,<-qly]
def ZO(h:vX o i)(f:Nat)(d:List UInt8)(s:i.aY<=f)(p:i.bN=true->f+d.length<=i.rel)(m:∀j,j<d.length->f+j<i.fF/\o.all[f+j]?=some (d.getD j 0)):vX o (i.hold f d):=by
 unfold eU.hold;obtain⟨n,t⟩:=bT (f-i.aY+d.length-i.bK.length);simp only[<-t];have key:=zO (fun j x=>i.aY+j<i.fF/\o.all[i.aY+j]?=some x) d (f-i.aY) (i.bK++eT n 0) (i.aP++eT n false)
  (by simp[h.len]) rR
  (fun j e=>by
   by_cases k:j<i.aP.length;·rw[J9 _ _ _ _ k]at e;rw[J9 _ _ _ _ (by rw[<-h.len];exact k)];exact h.got j e
   ·rw[qly,qn0 aj]at e;by_cases r:j-i.aP.length<n;·rw[qqk r]at e;simp at e
    ·rw[qn7 rR]at e;simp at e)
  (fun j k=>by rw[show i.aY+(f-i.aY+j)=f+j by omega];exact m j k)
 refine⟨h.jS,h.fF,h.rh,h.cO,fun g=>?_,h.st,key.1,key.2.2⟩;obtain⟨a,b,c,e,l⟩:=h.bN g;refine⟨a,b,c,e,?_⟩;have q:=p g;show(eO d (f-i.aY) (i.bK++eT n 0) (i.aP++eT n false)).1.length<=i.rel-i.aY;rw[key.2.1,qm0,qpq];omega
def ZP(H:EI o)(h:vX o i)(f:Fr)(m:MU o f):vX o (i.take f):=by
 have D:=m.e;have u:vX o {i with fF:=max i.fF (bL f),cO:=i.cO||f.bG,gH:=if f.bG then bL f else i.gH}:=by
  refine⟨h.jS,?_,qlz h.rh (qpc _ _),fun e g=>?_,fun g=>?_,h.st,h.len,fun j e=>?_⟩;·show max i.fF (bL f)<=o.dB;have:=h.fF;omega
  ·show o.bG=true/\(if f.bG then bL f else i.gH)=o.all.length/\o.all.length<=o.dB;cases t:f.bG
   ·have z:i.cO=true:=by
     have:(i.cO||f.bG)=true:=e;rw[t]at this;simpa using this
    exact h.cO z g
   ·obtain⟨a,b⟩:=m.bG t;exact⟨a,b,aj⟩
  ·obtain⟨a,b,c,d,e⟩:=h.bN g;refine⟨by show(i.cO||f.bG)=true;rw[a];rfl,b,?_,d,e⟩;show(if f.bG then bL f else i.gH)=o.nt.aC;cases t:f.bG;·exact c
   ·obtain⟨_,q⟩:=m.bG t;obtain⟨x,_,I⟩:=H.gv b;show bL f=o.nt.aC;omega
  ·obtain⟨x,A⟩:=h.got j e;exact⟨qm9 x (qpc _ _),A⟩
 unfold eU.take;obtain⟨k,l⟩:∃k:eU,k={i with fF:=max i.fF (bL f),cO:=i.cO||f.bG,gH:=if f.bG then bL f else i.gH}:=⟨_,rfl⟩;rw[<-l]at u;simp only[<-l];have F:k.aY=i.aY:=by rw[l]
 have n:bL f<=k.fF:=by rw[l];exact qqh _ _
 split
 ·rename_i r;have J:=m.b;have B:min (bL f) k.wanted<=bL f:=Nat.min_le_left _ _;have C:min (bL f) k.wanted<=k.wanted:=qo9 _ _;obtain⟨s,w⟩:=bT (max f.aC i.aY);obtain⟨y,n⟩:=bT (min (bL f) k.wanted);rw[<-w]at r ⊢;rw[<-n]at r B C ⊢;have E:f.aC<=s:=aj;have v:f.data.data.toList.length=bL f-f.aC:=by rw[m.d,qms,qm8];omega
  have p:((f.data.data.toList.take (y-f.aC)).drop (s-f.aC)).length=y-s:=by rw[qms,qm8,v];omega
  refine ZO u _ _ aj (fun g=>?_) fun j G=>?_
  ·have e:k.wanted=k.rel:=by unfold eU.wanted;rw[g];rfl
   rw[p];omega
  ·rw[p]at G;refine⟨aj,?_⟩;rw[m.d,qly,qmu,qpl aj,qmu,qpl aj,show f.aC+(s-f.aC+j)=s+j by omega];rw[qm3 aj];rfl
 ·exact u
def CO{α β:Type}(c:Prop)[Decidable c](a b:α)(g:α->β)(x:β)(d:g a=x)(e:g b=x):g (if c then a else b)=x:=by
 split;·exact d
 ·exact e
def PI(i:eU)(f:Fr):(i.take f).gr=i.gr:=CO _ _ _ eU.gr _ rfl rfl
def RJ(i:eU)(f:Fr):(i.take f).aY=i.aY:=CO _ _ _ eU.aY _ rfl rfl
def Ny(i:eU)(f:Fr):(i.take f).state=i.state:=CO _ _ _ eU.state _ rfl rfl
def vX.g2(h:vX o i)(e:i.state=2):i.bN=true:=by
 rcases h.st with x|⟨x,_⟩|⟨_,x,_⟩;·omega
 ·omega
 ·exact x
def free_eq{a:eU}(h:vX o i)(b:vX o a)(c:a.state=i.state)(d:a.aY=i.aY):a.aZ=i.aZ:=by
 unfold eU.aZ;rw[c,d];split;·rename_i e;exact(b.bN (b.g2 (c.trans e))).2.2.1.trans (h.bN (h.g2 e)).2.2.1.symm
 ·rfl
def RL(d:EI o)(h:vX o i)(f:Fr)(a:MU o f):i.refuse f=0:=by
 unfold eU.refuse;have l:=a.e;have m:=a.b;have n:=d.sl;have p:=h.jS;have q:=h.fF;have r:=d.sb;have en:i.cO=true->bL f<=i.gH/\(f.bG=true->bL f=i.gH):=fun e=>by
  cases j:i.bN;·obtain⟨_,b,c⟩:=h.cO e j;exact⟨aj,fun x=>bR ((a.bG x).2)⟩
  ·obtain⟨_,g,b,_⟩:=h.bN j;obtain⟨s,_,t⟩:=d.gv g;exact⟨aj,fun x=>bR ((a.bG x).2)⟩
 rw[aV,aV aj];rintro(⟨e,g⟩|⟨e,k,g⟩|⟨e,g⟩);·have:=(en e).1;omega
 ·exact g ((en e).2 k)
 ·have:=(a.bG e).2;omega
def Nz(j:EI o)(h:vX o i)(f:Fr)(a:MV o f):i.lF f=0:=by
 unfold eU.lF;obtain⟨l,_,m⟩:=j.gv a.g;have k:=h.fF;rw[aV];rw[a.fo];rintro(⟨e,g⟩|g)
 ·cases d:i.bN;·obtain⟨_,b,c⟩:=h.cO e d;omega
  ·exact g (h.bN d).2.2.1
 ·omega
def VJ(k:EI o)(h:vX o i)(f:Fr)(d:MV o f):vX o (i.fU f):=by
 have c:=qlz k.pr.length_le k.sz;have v:o.aB.length<=i.wanted:=by
  unfold eU.wanted;split;·rename_i g;exact(h.bN g).2.2.2.1
  ·rename_i g;split;·rename_i e;obtain⟨_,b,_⟩:=h.cO e (by simpa using g);rw[b];exact k.pr.length_le
   ·exact qlz c gP
 have s:=d.r;obtain⟨r,u⟩:=bT (min i.wanted f.aN);obtain⟨n,t⟩:=bT (min i.bK.length (r-min r i.aY));have e:i.fU f={i with rel:=r,bN:=true,cO:=true,gH:=f.aC,bK:=i.bK.take n,aP:=i.aP.take n}:=by rw[t,u];rfl
 rw[e];refine⟨h.jS,h.fF,h.rh,(fun _ x=>by cases x),fun _=>⟨rfl,d.g,d.fo,by show o.aB.length<=r;omega,?_⟩,?_,?_,fun j m=>?_⟩;·show(i.bK.take n).length<=r-i.aY;rw[qm8];omega
 ·rcases h.st with x|x|⟨x,y,z⟩;·exact .inl x
  ·exact .inr (.inl x)
  ·refine .inr (.inr ⟨x,rfl,?_⟩);have:i.wanted=i.rel:=by unfold eU.wanted;rw[y];rfl
   show r<=i.aY;omega
 ·show(i.aP.take n).length=(i.bK.take n).length;rw[qm8,qm8,h.len]
 ·have a:(i.aP.take n).getD j false=true:=m;by_cases l:j<n;·rw[qly,qpl l,<-qly]at a;obtain⟨p,q⟩:=h.got j a;refine⟨p,?_⟩;show _=some ((i.bK.take n).getD j 0);rw[qly,qpl l,<-qly];exact q
  ·rw[qly,qn7 (by rw[qm8];omega)]at a;simp at a
def RN(l:List Ot):∀n,l.length=n->((List.range n).map fun j=>(l.getD j Aj).dB).sum=(l.map Ot.dB).sum:=by
 intro n b;congr 1
 refine qpx (by simp[b]) fun j c a=>?_;simp only[List.getElem_map,List.getElem_range];rw[qly,qm3 (by simpa using a)];rfl
def VK(f g:Nat->Nat)(h:∀j,f j<=g j):∀l:List Nat,(l.map f).sum<=(l.map g).sum
 |[]=>qj _
 |a::t=>by have:=VK f g h t;have:=h a;simp only[qov,qq0];omega
def VL{A B:av}(b:gM B)(a:eH B A)(k e:Nat)(d:e<=(B.out k).dB):A.uH k e<=A.gr.dX:=by
 refine qlz ?_ (qlz b.sp a.jS);unfold av.tu;rw[<-RN B.outs 8 b.lo];unfold av.uH;refine VK _ _ (fun j=>?_) _;have:=(a.rd j).fF;show max (A.cK j).fF _<=(B.out j).dB;split;·rename_i c;subst c;omega
 ·omega
def G7{A B:av}(a:gM A)(h:gM B)(c:eH A B)(b:eH B A)(f:Fr)(p:qQ B A f):(A.take f).2=0/\rH A B (A.take f).1:=by
 unfold av.take;rcases p with⟨g,l,n⟩|⟨g,l,n,k4⟩|⟨g,l⟩|⟨g,l,n,k4⟩|⟨g,l,n,k4⟩|g;·rw[bM g,aV aj];exact⟨rfl,VI a c b _⟩
 ·rw[aV aj,bM g,aV (by rw[RL (h.wr _) (b.rd _) f k4];simp),aV (bR (VL h b f.aG.toNat (bL f) k4.e))];have r:=ZP (h.wr _) (b.rd f.aG.toNat) f k4;have d:((A.cK f.aG.toNat).take f).aZ=(A.cK f.aG.toNat).aZ:=free_eq (b.rd _) r (Ny _ _) (RJ _ _);refine⟨rfl,rJ a c b _ r (by rw[PI];exact qj _) (by rw[d];exact qj _) ?_⟩;rw[PI,d];exact a.it _
 ·rw[aV aj,aV aj,aV aj,aV aj,aV aj,bM g];refine⟨rfl,⟨⟨a.lo,a.li,a.wr,?_,a.it,a.gt,a.kW,a.q,a.ql⟩,⟨c.rd,?_,c.aP⟩,⟨b.rd,b.jS,b.aP⟩,⟨fun _=>sF.refl _,fun _=>qj _,qj _,qj _⟩⟩⟩;·show A.tu<=max A.aT f.aT;have:=a.sp;omega
  ·show max A.aT f.aT<=B.gr.dX;have:=c.jS;omega
 ·rw[aV aj,aV aj,aV aj,aV aj,aV aj,aV aj,bM g];obtain⟨k,q⟩:=bT f.aG.toNat;obtain⟨o,i⟩:∃o:Ot,o={A.out k with aT:=max (A.out k).aT f.aT}:=⟨_,rfl⟩;rw[<-q]at k4 ⊢;rw[<-i];have m:∀j,(A.dD k o).out j=if j=k/\k<A.outs.length then o else A.out j:=fun j=>kD A k j o;refine⟨rfl,⟨⟨(jB _ _ _).trans a.lo,a.li,fun j=>?_,?_,a.it,a.gt,a.kW,a.q,a.ql⟩,⟨fun j=>?_,c.jS,c.aP⟩,⟨b.rd,b.jS,b.aP⟩,⟨fun j=>?_,fun _=>qj _,qj _,qj _⟩⟩⟩
  ·rw[m];split;·rw[i];exact⟨by have:=(a.wr k).sl;show(A.out k).dB<=max (A.out k).aT f.aT;omega,(a.wr k).sb,(a.wr k).pr,(a.wr k).sz,(a.wr k).ng,(a.wr k).gv⟩
   ·exact a.wr j
  ·show(A.dD k o).tu<=A.aT;have e:=Ch A k o (by rw[a.lo];omega);have:o.dB=(A.out k).dB:=by rw[i]
   have:=a.sp;omega
  ·rw[m];split;·rename_i e;rw[e.1,i];have r:=c.rd k;exact⟨by have:=r.jS;show max (A.out k).aT f.aT<=_;omega,r.fF,r.rh,r.cO,r.bN,r.st,r.len,r.got⟩
   ·exact c.rd j
  ·rw[m];split;·rename_i e;rw[e.1,i];exact⟨qj _,qoa _,fun x=>⟨x,rfl⟩,fun x=>⟨x,rfl,rfl,qj _⟩⟩
   ·exact sF.refl _
 ·rw[aV aj,aV aj,bM g,aV (by rw[Nz (h.wr _) (b.rd _) f k4];simp)];have r:=VJ (h.wr _) (b.rd f.aG.toNat) f k4;have d:((A.cK f.aG.toNat).fU f).aZ=(A.cK f.aG.toNat).aZ:=free_eq (b.rd _) r rfl rfl;refine⟨rfl,rJ a c b _ r (qj _) (by rw[d];exact qj _) ?_⟩;rw[d];exact a.it _
 ·have s:=g.kd;rw[aV aj,aV aj,aV aj,aV aj,bM s];refine⟨rfl,?_⟩;unfold av.nE;split;·exact kE a c b
  ·exact⟨⟨a.lo,a.li,a.wr,a.sp,a.it,a.gt,a.kW,a.q,a.ql⟩,⟨c.rd,c.jS,c.aP⟩,⟨b.rd,b.jS,b.aP⟩,⟨fun _=>sF.refl _,fun _=>qj _,qj _,qj _⟩⟩
def Lq(l:List Nat):Prop:=∀x∈l,x<48
def Lq.getD{l:List Nat}(h:Lq l)(j:Nat):l.getD j 0<48:=by
 rw[qly];cases a:l[j]? with
 |none=>simp
 |some v=>exact h v (qqb a)
def Lq.set{l:List Nat}(h:Lq l)(i v:Nat)(b:v<48):Lq (l.set i v):=fun x a=>by
 rcases qq6 a with a|a;·exact h x a
 ·omega
def Lq.sw(h:Lq l)(i j:Nat):Lq (sw l i j):=(h.set i _ (h.getD j)).set j _ (h.getD i)
def Lq.down:∀(k:Nat) {l:List Nat} (i n:Nat),Lq l->Lq (kX k l i n)
 |0,_,_,_,h=>h
 |k+1,l,i,n,h=>by
  unfold kX;generalize (if 2*i+2<n/\l.getD (2*i+2) 0<l.getD (2*i+1) 0 then 2*i+2 else 2*i+1)=j;split;·exact h
  ·simp only;split;·exact Lq.down k _ _ (h.sw _ _)
   ·exact h
def Lq.up:∀(k:Nat) {l:List Nat} (i:Nat),Lq l->Lq (Cg k l i)
 |0,_,_,h=>h
 |k+1,l,i,h=>by
  unfold Cg;split;·exact h
  ·exact Lq.up k _ (h.sw _ _)
def Lq.pop(h:Lq l):Lq (mo l):=fun x a=>Lq.down _ _ _ (h.sw _ _) x (qn2 a)
def Lq.app{m:List Nat}(h:Lq l)(g:Lq m):Lq (l++m):=fun x a=>(qm7.1 a).elim (h x) (g x)
def Lq.push(h:Lq l)(u:Nat)(a:u<48):Lq (eX l u):=Lq.up _ _ (h.app fun x b=>by rw[qmi.1 b];exact a)
def Lq.qW:∀(m:List Nat) {l:List Nat},Lq l->Lq m->Lq (m.foldl eX l)
 |[],_,h,_=>h
 |u::t,_,h,g=>Lq.qW t (h.push u (g u aM)) fun x a=>g x (by simp[a])
def lq0:Lq q0:=by unfold Lq;decide
structure Fld (A B:av) (x:av×bZ×List Nat×List Fr):Prop where
 stp:rH A B x.1
 aI:∀r∈x.2.1,r.2<B.next
 q:Lq x.2.2.1
 fs:∀f∈x.2.2.2,qQ x.1 B f
def vG:∀(n:Nat) {A B:av} (aI:bZ) (Q later:List Nat) (au:Int) (l:List Fr),gM A->eH A B->eH B A->Lq Q->Lq later->(∀r∈aI,r.2<B.next)->(∀f∈l,qQ A B f)->Fld A B (dU n A aI Q later au l)
 |0,A,B,aI,Q,later,au,l,hA,h1,h2,hQ,hL,hl,hf=>⟨kE hA h1 h2,hl,Lq.qW _ hQ hL,hf⟩
 |n+1,A,B,aI,[],later,au,l,hA,h1,h2,hQ,hL,hl,hf=>⟨kE hA h1 h2,hl,Lq.qW _ hQ hL,hf⟩
 |n+1,A,B,aI,u::Q,later,au,l,hA,h1,h2,hQ,hL,hl,hf=>by
  have d:u<48:=hQ u aM;unfold dU;by_cases b:A.bD aI u=true
  ·simp only[b,if_true];cases hF:A.frame aI u au with
   |none=>
    simp only;split;·exact vG n aI _ _ au l hA h1 h2 hQ.pop (hL.app fun x e=>by rw[qmi.1 e];exact d) hl hf
    ·exact⟨kE hA h1 h2,hl,Lq.qW _ hQ hL,hf⟩
   |some x=>
    obtain⟨f,p,c⟩:=x;simp only;obtain⟨s,h,i⟩:=JE hA h1 h2 aI c u au f d hl b hF;obtain⟨j,k,m,o⟩:=vG n c (u::Q) later (au-((aX f).length:Int)) (l++[f]) s.loc s.ab s.ba hQ hL i (fun g a=>by
     rcases qm7.1 a with a|a;·exact(hf g a).mono s.le (EH.refl _)
     ·rw[qmi.1 a];exact h)
    exact⟨s.trans j,k,m,o⟩
  ·simp only[b];exact vG n aI _ later au l hA h1 h2 hQ.pop hL hl hf
def nums(n:Nat):List (List Fr)->List (Nat×List Fr)
 |[]=>[]
 |fs::t=>(n,fs)::nums (n+1) t
structure Pks (A B:av) (l:List (Nat×List Fr)) (x:av×List (Nat×List Fr)) (m:List (List Fr)):Prop where
 eq:x.2=l++nums A.next m
 stp:rH A B x.1
 next:x.1.next=A.next+m.length
 ne:∀fs∈m,fs≠[]
 ok:∀fs∈m,∀f∈fs,qQ x.1 B f
def uJ{A:av}(n:Nat)(b:bZ)(Q a:List Nat)(c:Int)(l:List Fr):(dU n A b Q a c l).1.next=A.next:=by
 induction n generalizing A b Q a c l with
 |zero=>rfl
 |succ n d=>
  cases Q with
  |nil=>rfl
  |cons u Q=>
   unfold dU;by_cases g:A.bD b u=true
   ·simp only[g,if_true];cases hF:A.frame b u c with
    |none=>
     simp only;split;·exact d _ _ _ _ _
     ·rfl
    |some x=>
     obtain⟨f,h,i⟩:=x;simp only;refine(d _ _ _ _ _).trans ?_;unfold av.frame at hF;split at hF
     ·split at hF;·cases hF
      ·have e:=qmn hF;exact(congrArg (fun x=>x.2.1.next) e).symm
     ·split at hF;·obtain⟨y,_,e⟩:=qmj.1 hF;exact(congrArg (fun x=>x.2.1.next) e).symm
      ·split at hF;·obtain⟨y,_,e⟩:=qmj.1 hF;exact(congrArg (fun x=>x.2.1.next) e).symm
       ·split at hF;·obtain⟨y,_,e⟩:=qmj.1 hF;exact(congrArg (fun x=>x.2.1.next) e).symm
        ·split at hF
         ·split at hF;·cases hF
          ·obtain⟨y,_,e⟩:=qmj.1 hF;exact(congrArg (fun x=>x.2.1.next) e).symm
         ·obtain⟨y,_,e⟩:=qmj.1 hF;exact(congrArg (fun x=>x.2.1.next) e).symm
   ·simp only[g];exact d _ _ _ _ _
def FH:∀(n:Nat) {A B:av} (aI:bZ) (Q:List Nat) (l:List (Nat×List Fr)),gM A->eH A B->eH B A->Lq Q->(∀r∈aI,r.2<B.next)->∃m,Pks A B l (fI n A aI Q l) m
 |0,A,B,aI,Q,l,hA,h1,h2,hQ,hl=>⟨[],by simp[fI,nums],kE hA h1 h2,rfl,aM,aM⟩
 |n+1,A,B,aI,Q,l,hA,h1,h2,hQ,hl=>by
  have F:Fld A B (fill A aI Q A.au):=vG _ aI Q [] A.au [] hA h1 h2 hQ (fun x q=>by simp at q) hl (fun f c=>by simp at c);have d:(fill A aI Q A.au).1.next=A.next:=uJ _ aI Q [] A.au []
  unfold fI;generalize fill A aI Q A.au=x at F d;obtain⟨h,p,o,b⟩:=x;simp only at F d ⊢;split;·exact⟨[],by simp[nums],F.stp,d,aM,aM⟩
  ·rename_i i;have P:=CJ F.stp.loc F.stp.ab F.stp.ba b;obtain⟨m,e,s,u,t,v⟩:=FH n p o (l++[(A.next,b)]) P.loc P.ab P.ba F.q F.aI;have j:(h.dO b).next=A.next+1:=by show h.next+1=_;rw[d]
   have k:∀f∈b,qQ h B f:=F.fs;refine⟨b::m,by rw[e,j];simp[nums],F.stp.trans (P.trans s),by rw[u,j];simp;omega,fun g a=>?_,fun g a f c=>?_⟩
   ·rcases qme.1 a with a|a;·rw[a];exact i
    ·exact t g a
   ·rcases qme.1 a with a|a;·rw[a]at c;exact(k f c).mono (P.trans s).le (EH.refl _)
    ·exact v g a f c
def ZQ(c a b:Nat)(j:a<=dH)(i:b<=dH):gM (av.new c a b):=by
 have h:∀k,(av.new c a b).out k=if k<8 then Ot.new a else Aj:=fun k=>by
  show(eT 8 (Ot.new a)).getD k Aj=_;rw[qly];split;·rw[qqk asZ];rfl
  ·rw[qn7 rR];rfl
 have g:∀k,(av.new c a b).cK k=if k<8 then eU.new a else zF:=fun k=>by
  show(eT 8 (eU.new a)).getD k zF=_;rw[qly];split;·rw[qqk asZ];rfl
  ·rw[qn7 rR];rfl
 refine⟨rfl,rfl,fun k=>?_,?_,fun k=>?_,?_,rfl,(fun f d=>by cases d),qm2 _⟩
 ·rw[h];split;·exact⟨qm2 _,qm2 _,qoa _,qm2 _,fun _=>rfl,fun e=>by cases e⟩
  ·exact⟨qm2 _,qm2 _,qoa _,qm2 _,fun _=>rfl,fun e=>by cases e⟩
 ·show 0<=_;exact qm2 _
 ·rw[g];split;·show a<=min (0+a) dH;omega
  ·show 0<=_;exact qm2 _
 ·show b<=min (_+b) dH;omega
def ZR(b a c:Nat):eH (av.new b a c) (av.new b a c):=by
 refine⟨fun k=>?_,qj _,fun r g=>by simp[av.new]at g⟩;have f:(av.new b a c).out k=if k<8 then Ot.new a else Aj:=by
  show(eT 8 (Ot.new a)).getD k Aj=_;rw[qly];split;·rw[qqk asZ];rfl
  ·rw[qn7 rR];rfl
 have d:(av.new b a c).cK k=if k<8 then eU.new a else zF:=by
  show(eT 8 (eU.new a)).getD k zF=_;rw[qly];split;·rw[qqk asZ];rfl
  ·rw[qn7 rR];rfl
 rw[f,d];split;·exact⟨qj _,qj _,qj _,(fun e=>by cases e),(fun e=>by cases e),.inl rfl,rfl,fun j e=>by simp[eU.new]at e⟩
 ·exact⟨qj _,qj _,qj _,(fun e=>by cases e),(fun e=>by cases e),.inl rfl,rfl,fun j e=>by simp[zF,eU.new]at e⟩
end Go.Proofs.YtphbledmopchnaaGreatDoor.Sd
namespace Go.Proofs.YtphbledmopchnaaGreatDoor.Sd
open Go.RowKit Go.Lib Mm Tryz
variable {S b bi bl bw g n s:Nat}{cs l:bJ}{f:Fr}{k p:Array WA}{oZ:Own}{w:Wq}
section
section
variable {oZ:Own} {s:Nat} {w0:Wq} {S bw bl bi ab:Nat}
def Hu(e:Nat)(g:Bx oZ s w0 e 128 (aJ S 0)):qJ oZ s w0 S bw bl bi ab 250 #[] #[aJ e 0] fun M _=>M.gr.bD M.aZ:=by
 intro u w M r K p f;obtain⟨l,x,d,o⟩:=p;have z:=(g.kp K).cell;have j:Hid (∀q,qH 252 #[aJ S 0] (w.drewN q) (uZ M.aZ) fun b=>b=w.drewN q):=fun q=>PN (w.drewN q) (d.below (w':=w.drewN q) ⟨rfl,rfl,rfl,qj _,fun _ _=>rfl⟩) (fun k=>(f.cK k).aZ);have c:M.aZ<=dH:=by
  unfold av.aZ;generalize M.ins=L;cases i:L.reverse with
  |nil=>rw[List.reverse_eq_nil_iff.1 i];exact qm2 _
  |cons a t=>
   have:L=t.reverse++[a]:=by rw[<-List.reverse_reverse L,i,kg]
   rw[this,qnt];exact qo9 _ _
 have m:Hid (∀q,qH 251 #[aJ S 221,uZ M.aZ] (w.drewN q) (.bool (M.gr.bD M.aZ)) fun b=>∃n,b=(w.drewN q).drewN n):=fun q=>JG M.aZ (w.drewN q) d.bY d.cells.gr f.ga c;show qH 250 #[aJ e 0] w (.bool (M.gr.bD M.aZ)) fun b=>bE w b;generalize M.gr.bD M.aZ=B at *
 generalize M.aZ=F at *
 clear c d o f K g;go_enter func250,ntmps250;go_wp2_with fail;go_region_with (first|(go_at_call 252;refine bH (j.out _) ?_;rintro y rfl)|(go_at_call 251;refine bH (m.out _) ?_;rintro y ⟨v,rfl⟩));all_goals
  go_wp2;go_ret;exact⟨rfl,⟨rfl,rfl,rfl,qj _,fun _ _=>rfl⟩⟩
def Dg(k:Nat)(e:k<8):qJ oZ s w0 S bw bl bi ab 255 #[(aJ S (18+27*k))] #[] fun M _=>(M.cK k).iq:=by intro i w M h K b d;obtain⟨l,m,a,j⟩:=b;obtain⟨g,f,c,_⟩:=a.cK k e;refine bH (EL S (18+27*k) (M.cK k) g f w l a.bY c (d.cK k)) ?_;rintro n ⟨q,rfl⟩;exact⟨rfl,⟨rfl,rfl,rfl,qj _,fun _ _=>rfl⟩⟩
def Hw(k:Nat)(g:k<8):qJ oZ s w0 S bw bl bi ab 258 #[(aJ S (4+27*k))] #[] fun M _=>(M.out k).nt.bD (M.out k).aB.length:=by intro i w M h K e f;obtain⟨l,p,b,j⟩:=e;obtain⟨a,c,o,n,d,m,_⟩:=(b.out k g).open b.bY;refine bH (Cu (4+27*k) (M.out k).nt (M.out k).aB.length c a b.bY (f.ob k) d.c0 d.nt) ?_;rintro r ⟨q,rfl⟩;exact⟨rfl,⟨rfl,rfl,rfl,qj _,fun _ _=>rfl⟩⟩
def uP(w:Wq)(S:Nat)(a:Option Addr)(n c:Nat)(d:w.cell? (ay S 233)=some (.slice a n c)):qH 268 #[aJ S 233] w (.bool (decide (0<n))) fun b=>b=w:=by go_enter func268,ntmps268;go_wp2;go_ret;exact⟨aM,rfl⟩
def qgq(h:QF f)(w:Wq):EJ w f none 0:=⟨h.sn,h.ok,fun j a=>by rw[h.rs]at a;exact absurd a (qmy _),by rw[h.rs];exact qj _,(fun x b=>by cases b),h.ln⟩
def fH.qd8{oZ:Own}{s:Nat}{S:Nat}{M:av}{bw bl bi:Nat}{d:WA}(h:fH oZ s w S l M bw bl bi d){t:List Fr}(b:M.aK=f::t):∃g c a,M.qv=(dh g (t.length+1) c)/\oZ g=s+53/\aL w g 65 a/\c*10<=a.length/\t.length+1<=c/\c<=9223372036854775807/\a.take ((t.length+1)*10)=fJ f nZ++kY t/\∀v∈a,v.oneCell'=true:=by
 have:=h.qu.q;rw[b]at this;rcases this with⟨_,e,_⟩|⟨g,cap,a,h1,h2,h3,h4,h5,h6,h7,h8,h9⟩;·simp at e
 ·exact⟨g,cap,a,h1,h2,h3,h4,h5,h6,h8,h9⟩
def Wo{r:bJ}(b:aL w g 65 cs)(h:cs.take (n*10)=fJ f nZ++r)(j:Nat)(c:j<10):w.cell? (ay g j)=(fJ f nZ)[j]?:=by
 have d:(fJ f nZ).length=10:=rfl;have e:(cs.take (n*10))[j]?=(fJ f nZ)[j]?:=by rw[h,qmw aj]
 rw[b.cell,<-e,qm6];split;·rfl
 ·rename_i a;rw[qm6,aV a,qm3 aj]at e;cases e
def Dh{oZ:Own}{s:Nat}{S:Nat}{M:av}{bw bl bi:Nat}{P:WA}(h:fH oZ s w S l M bw bl bi P)(r:∀f∈M.aK,QF f):qH 249 #[aJ S 233] w (iZ M.gZ) fun p=>bE w p:=by
 have e:w.cell? (ay S 233)=some M.qv:=(h.bY.cell _).trans h.cells.jd;cases b:M.aK with
 |nil=>
  have m:M.gZ=0:=by unfold av.gZ;rw[b]
  obtain⟨a,c,d,_⟩:=h.qu.q.shape;rw[b]at d;rw[d]at e;rw[m];have o:=aF (uP w S a _ c e);clear d e h r b m;go_enter func249,ntmps249;go_wp2_with (first|(go_at_call 268;refine bH o.out ?_;rintro p rfl)|go_in);go_ret;exact⟨rfl,qlw _ _⟩
 |cons f t=>
  have m:M.gZ=(aX f).length:=by unfold av.gZ;rw[b]
  obtain⟨g,c,Q,d,_,u,_,L,N,x,_⟩:=h.qd8 b;rw[d]at e;rw[m];have q:=r f (by rw[b];simp);have o:=aF (uP w S _ _ c e);have i:=aF (rT f none 0 w (qgq q w));rw[q.rs]at i;have k:=fun j O=>Wo u x j O;have A:=k 0 aj;have B:=k 1 aj;have C:=k 2 aj;have D:=k 3 aj;have E:=k 4 aj;have F:=k 5 aj;have G:=k 6 aj;have H:=k 7 aj;have I:=k 8 aj;have J:=k 9 aj;unfold fJ at A B C D E F G H I J;unfold eF at i;simp only[qml,qma,qnc]at A B C D E F G H I J i;obtain⟨n,v⟩:=bT t.length;rw[<-v]at e o;obtain⟨z,y⟩:=bT ((aX f).length);rw[<-y]at i ⊢;clear y v k d h r b m q x u;go_enter func249,ntmps249;go_wp2_with (first|(go_at_call 268;refine bH o.out ?_;rintro p rfl)|(go_at_call 210;refine bH i.out ?_;rintro p K)|go_in);go_ret;exact⟨rfl,K⟩
def Di:qJ oZ s w0 S bw bl bi ab 268 #[aJ S 233] #[] fun M _=>decide (0<M.aK.length):=by intro h w M g K d j;obtain⟨l,k,b,i⟩:=d;obtain⟨a,c,f,_⟩:=b.qu.q.shape;refine(uP w S a _ c (((b.bY.cell _).trans b.cells.jd).trans (by rw[f]))).mono ?_;rintro e m ⟨rfl,rfl⟩;exact⟨rfl,qlw _ _⟩
def Sb(k:Nat)(n:k<8)(g i:Nat)(j:Bx oZ s w0 g 282 (aJ S (4+27*k)))(m:Bx oZ s w0 i 128 (aJ S 0)):qJ oZ s w0 S bw bl bi ab 263 #[] #[aJ g 0,aJ i 0] fun M _=>(M.out k).bD M.aR:=by
 intro x w M v K u b;obtain⟨l,z,f,t⟩:=u;have A:=(j.kp K).cell;have C:=(m.kp K).cell;have r:=b.dB f.lo k n;have e:(M.out k).dB+M.aR<18446744073709551616:=by
  have:=b.lm;unfold av.aR;unfold dH at *
  omega
 have o:Hid (∀q,qH 265 #[aJ S 0] (w.drewN q) (uZ M.aR) fun a=>a=w.drewN q):=fun q=>FI (w.drewN q) (f.below (w':=w.drewN q) ⟨rfl,rfl,rfl,qj _,fun _ _=>rfl⟩) b.sp b.lm;have p:Hid (∀q,qH 264 #[(aJ S (4+27*k)),uZ M.aR] (w.drewN q) (.bool ((M.out k).bD M.aR)) fun a=>bE w a):=fun q=>by have d:=f.below (w':=w.drewN q) ⟨rfl,rfl,rfl,qj _,fun _ _=>rfl⟩;refine bH (Vu (s+1+5*k) (4+27*k) (M.out k) M.aR (w.drewN q) d.bY (d.out k n) (b.ob k) e (b.oa k)) ?_;rintro a c;exact⟨rfl,⟨c.os,c.tape,c.output,c.size,c.block⟩⟩
 show qH 263 #[aJ g 0,aJ i 0] w (.bool ((M.out k).bD M.aR)) fun a=>bE w a;generalize (M.out k).bD M.aR=B at *
 generalize M.aR=F at *
 clear e r f t b K j m;go_enter func263,ntmps263;go_wp2_with fail;go_region_with (first|(go_at_call 265;refine bH (o.out _) ?_;rintro y rfl)|(go_at_call 264;refine bH (p.out _) ?_;rintro y c));all_goals
  go_wp2;go_ret;exact⟨rfl,c⟩
def Sc:qJ oZ s w0 S bw bl bi ab 246 #[aJ ab 0] #[] fun _ d=>decide (0<d.length):=by
 intro q w M d K k o;obtain⟨l,r,m,j⟩:=k;obtain⟨_,v,g,f⟩:=j;obtain⟨a,c,rfl⟩:∃a c,v=.slice a d.length c:=by
  rcases f with⟨e,i⟩|⟨rb,off,c,e,_⟩;·exact⟨none,0,by rw[e,i];rfl⟩
  ·exact⟨_,_,e⟩
 have t:w.cell? (ay ab 0)=some (.slice a d.length c):=g.cell 0;show qH 246 #[aJ ab 0] w (.bool (decide (0<d.length))) fun p=>bE w p;generalize d.length=n at *
 clear f g m o K;go_enter func246,ntmps246;go_wp2;go_ret;exact⟨congrArg (fun b=>Ending.returned (.bool b)) (decide_eq_decide.2 aj),qlw _ _⟩
end

end
section
def jE.wrap{W y i:Wq}{ab:Nat}{M:av}{m:bZ}{r:Option (Fr×av×bZ)}{x:FV}{b:Bool}{gy:Own}(O:0<s)(E:bE w W)(A:w.heap.size<W.heap.size)(k:b=r.isSome)(K:Kp (Tn s) (loc oZ w.heap.size) gy W y)(D:Env gy s y S bw bl bi ab ((r.map fun y=>y.2.1).getD M) ((r.map fun y=>y.2.2).getD m))(p:∀z,r=some z->x.1=z.1/\R_ gy s y x)(c:l6 w.heap.size y i):jE oZ s w S bw bl bi ab M m r (.returned (.tuple #[eF x.1 (qx x),.bool b])) i:=by
 have d:Kp (Tn s) oZ gy w y:=((uO oZ w).mono aM).trans ((Kp.below E).trans K);have g:gy w.heap.size=0:=by rw[K.ext _ A,iY _ _ _ (qj _)]
 have q:Kp [0] gy gy y i:=c.kpt (by rw[g];simp);refine⟨x,b,gy,rfl,k,⟨c.os.trans d.os,c.tape.trans d.tape,c.output.trans d.output,by rw[c.size];exact d.size,fun b k H=>(c.block b aj).trans (d.bY b k H),d.ext⟩,D.kp q (fun x p _ e=>by simp at e;omega) aM aM,fun z I=>?_⟩;obtain⟨B,f⟩:=p z I;refine⟨B,f.len,f.cap,fun j G=>?_,fun a F=>?_,f.nil⟩
 ·obtain⟨b,o,n,t,u,v⟩:=f.qO j G;have l:=f.bY _ n;have h:b≠w.heap.size:=fun e=>by have C:gy b=s+49:=l.2.1;rw[e,g]at C;omega
  exact⟨b,o,n,cell_of t (c.block b h),cell_of u (c.block b h),v⟩
 ·obtain⟨J,L,N⟩:=f.bY a F;exact⟨by rw[c.size];exact J,L,N⟩
section
variable {oZ:Own} {s:Nat} {w0:Wq} {S bw bl bi ab:Nat}
def tK.mono{g b:av->bZ->Bool}{nx d:av->bZ->Int->Option (Fr×av×bZ)}(h:tK oZ s w0 S bw bl bi ab n p k g nx)(l:∀M a,b M a=true->g M a=true)(m:∀M a c,Wk M->b M a=true->d M a c=nx M a c):tK oZ s w0 S bw bl bi ab n p k b d:=by intro i w M a c K j e f o;rw[m M a c e f];exact h i w M a c K j e (l M a f) o
def qa5{iw:av->bZ->Bool}{nx:av->bZ->Int->Option (Fr×av×bZ)}(J L:Nat)(eg:∀args w,(callFunc n args).run prog w=.ok (.enter n args) w)(R:Bx oZ s w0 J 302 (.func (.func n) p k))(T:Bx oZ s w0 L 128 (aJ S 0))(h:Az oZ s w0 S bw bl bi ab n p k iw nx):tK oZ s w0 S bw bl bi ab 248 #[] #[aJ J 0,aJ L 0] iw (fun M d A=>nx M d (A-M.gZ)):=by
 intro j w M d A K U N F u;have V:=U;obtain⟨l,vc,hS,hA⟩:=V;obtain⟨W,c⟩:=bT (w.alloc (.cells lY.toArray 65));have a:bE w W:=by rw[c];exact(qlw _ w).alloc (qj _) _
 have E:aL W w.heap.size 65 lY:=by rw[c];exact aL.new w 65 _
 have gT:w.heap.size<W.heap.size:=by rw[c];simp
 have D:∀q,bE W (W.drewN q):=fun q=>⟨rfl,rfl,rfl,qj _,fun _ _=>rfl⟩;have x1:=((R.kp K).below a).cell;have x2:=((T.kp K).below a).cell;have h3:=hS.s0;have h0:M.gZ<=1000000:=by
  unfold av.gZ;split;·omega
  ·rename_i f t hq;exact(N.q f (by rw[hq];simp)).ln
 have HF:Hid (∀q,qH 249 #[aJ S 233] (W.drewN q) (iZ M.gZ) fun i=>bE W i):=fun q=>(Dh (hS.below (w':=W.drewN q) ⟨a.os,a.tape,a.output,a.size,a.block⟩) N.q).mono fun e i h=>⟨h.1,(D q).trans h.2⟩;have HX:Hid (∀y,bE W y->y.cell? (ay J 0)=some (.func (.func n) p k)/\y.cell? (ay L 0)=some (aJ S 0)):=fun y B=>⟨(((R.kp K).below a).below B).cell,(((T.kp K).below a).below B).cell⟩;obtain⟨H,r⟩:=bT (A-(M.gZ:Int):Int);have Q:Hid (∀y,bE W y->Calls prog n (p.push (iZ H)++k) y fun e i=>∃x1 x2 x3 x4 b,e=.returned (.tuple #[eF x1 (.slice x2 x3 x4),.bool b])/\aL i w.heap.size 65 lY/\Hid (∀C,l6 w.heap.size i C->jE j s w S bw bl bi ab M d (nx M d H) (.returned (.tuple #[eF x1 (.slice x2 x3 x4),.bool b])) C)):=fun y B=>by
  have m:bE w y:=a.trans (B.mono a.size);have K0:Kp [] j (loc j w.heap.size) w w:=uO j w;have K1:Kp (Tb s) oZ (loc j w.heap.size) w0 y:=K.trans ((K0.mono aM).trans (Kp.below m));have Y:Env (loc j w.heap.size) s y S bw bl bi ab M d:=(U.kp K0 aM aM aM).below m;refine(h _ y M d H K1 Y N F).mono ?_;rintro e i ⟨x,b,gy,rfl,hb,K2,Z,hx⟩;refine⟨x.1,x.2.1,x.2.2.1,x.2.2.2,b,rfl,?_,fun C ht=>?_⟩;·exact bU (w:=y) (eY B E) K2 (by rw[iY _ _ _ (qj _)];exact fun e=>bR (uN.1 e))
  ·exact jE.wrap h3 m (qm9 gT B.size) hb K2 Z hx ht
 show Calls prog 248 #[iZ A,aJ J 0,aJ L 0] w fun e i=>jE j s w S bw bl bi ab M d (nx M d (A-(M.gZ:Int))) e i;rw[<-r];generalize nx M d H=X at *
 generalize M.gZ=z at *
 have h5:IntKind.i64.wrap (A-(z:Int))=H:=by rw[qnf];omega
 have h4:=aF r;clear hS hA N F R T K D E a gT U h u r h0;unfold eF at Q;unfold lY at c;go_enter func248,ntmps248;go_wp2_with fail;rw[<-c];clear c;go_region_with (first|(go_at_call 249;refine bH (HF.out _) ?_;rintro y' G;obtain⟨z1,I⟩:=HX.out _ G)|(go_at_fn n;refine(Q.out _ G).mono ?_;rintro e y ⟨g,I,O,P,b,rfl,o,HE⟩;obtain⟨y0,y1,y2,y3,y4,y5,y6,y7,y8,y9,yf⟩:=bC o;have ug:=aF o;clear o));all_goals
  clear Q;go_wp2_with fail;go_simp;rw[gq];have jX:=fK ug.out (iZ g.aD) (iZ g.aG) (uZ g.aC) (uZ g.aN) (uZ g.aT) (.bool g.bG) (uZ g.id) (uZ g.aH) (.string g.data) (.slice I O P);have nX:=fM y w.heap.size (iZ g.aD) (iZ g.aG) (uZ g.aC) (uZ g.aN) (uZ g.aT) (.bool g.bG) (uZ g.id) (uZ g.aH) (.string g.data) (.slice I O P);generalize jI y w.heap.size (iZ g.aD) (iZ g.aG) (uZ g.aC) (uZ g.aN) (uZ g.aT) (.bool g.bG) (uZ g.id) (uZ g.aH) (.string g.data) (.slice I O P)=C at *
  obtain⟨a0,a1,a2,a3,a4,a5,a6,a7,a8,a9,_⟩:=bC jX;exact Vl (v:=.tuple #[eF g (.slice I O P),.bool b]) (by simp[results,results248,go_sem,a0,a1,a2,a3,a4,a5,a6,a7,a8,a9,eF]) rfl (HE.out C nX)
end

end
def SF(m c:Nat)(Z:1<=m)(V:m+1<=c)(_hc:c<=9223372036854775807)(_hbig:m<=1000000)(h:aL w b 65 l)(T:c*10<=l.length)(E:∀v∈l,v.oneCell'=true):Calls prog 320 #[(dh b (m+1) c),iZ 0,iZ 1] w fun e L=>
   ∃z,e=.returned (dh b m c)/\aL L b 65 z/\z.length=l.length/\z.take (m*10)=(l.take ((m+1)*10)).drop 10/\(∀v∈z,v.oneCell'=true)/\l6 b w L:=by
 have y:((l.take ((m+1)*10)).drop 10).length=m*10:=rR;have q:∀v∈(l.take ((m+1)*10)).drop 10,v.oneCell'=true:=fun v W=>E v (qn2 (qo2 W));have g:∀j v,((l.take ((m+1)*10)).drop 10)[j]?=some v->l[10+j]?=some v:=fun j v u=>by
  rw[qmu,qm6]at u;split at u;·exact u
  ·cases u
 have G:(loadCellsFrom (ay b 10) 0 (m*10) #[]).run prog w.drew=.ok ((l.take ((m+1)*10)).drop 10).toArray w.drew:=by have S:=run_firstCells_some (P:=prog) w.drew 10 m (ay b 10) m (c-1) ((l.take ((m+1)*10)).drop 10) aj (fun j v u=>by rw[qmb];exact(aL.cell h (10+j)).trans (g j v u));simpa[Builtin.firstCells,loadCells]using S
 have x:(storeCells (ay b 0) ((l.take ((m+1)*10)).drop 10)).run prog w.drew=.ok () (put w.drew b (aU l 0 ((l.take ((m+1)*10)).drop 10))):=
  fZ (P:=prog) (w:=w.drew) (o:=0) h _ aj q
 have r:(aU l 0 ((l.take ((m+1)*10)).drop 10)).length=l.length:=bV _ _ _ aj;have f:(aU l 0 ((l.take ((m+1)*10)).drop 10)).take (m*10)=(l.take ((m+1)*10)).drop 10:=by have:=iI l ((l.take ((m+1)*10)).drop 10) 0 aj;rw[y]at this;simpa using this
 have i:∀v∈aU l 0 ((l.take ((m+1)*10)).drop 10),v.oneCell'=true:=dM E q;have d:aL (put w.drew b (aU l 0 ((l.take ((m+1)*10)).drop 10))) b 65 (aU l 0 ((l.take ((m+1)*10)).drop 10)):=aL.put (w:=w.drew) h _;generalize aU l 0 ((l.take ((m+1)*10)).drop 10)=a at x r f i d;generalize (l.take ((m+1)*10)).drop 10=X at f G x ⊢;have F:∀I D,(mE #[54] I #[.slice (some (ay b (m*10))) 1 D]).run prog (put w.drew b a)=.ok (.tuple #[]) (put (put w.drew b a) b (aU a (m*10) (eB jY.cells 1).toList)):=fun I D=>gQ (P:=prog) (o:=m*10) (n:=1) (c:=D) 54 65 I _ qR.ht (fun w=>bO) d aj (by rw[qR.hz];omega) (qR.h1 _);have t:(aU a (m*10) (eB jY.cells 1).toList).take (m*10)=X:=by rw[gU _ _ _ _ (by rw[qR.hz];omega) (qj _),f]
 have s:(aU a (m*10) (eB jY.cells 1).toList).length=l.length:=by rw[bV _ _ _ (by rw[qR.hz];omega),r]
 have p:∀v∈aU a (m*10) (eB jY.cells 1).toList,v.oneCell'=true:=dM i (qR.h1 _);generalize aU a (m*10) (eB jY.cells 1).toList=H at F t s p;have C:Hid _:=t;have N:Hid _:=p;have B:Hid _:=s;have A:Hid (aL (put w.drew b a) b 65 a):=d;have M:Hid (l6 b w (put (put w.drew b a) b H)):=⟨rfl,rfl,rfl,by simp[put],fun k K=>by rw[gY _ _ _ _ K,gY _ _ _ _ K];rfl⟩;clear f t p s i r d q g y E T h;have U:m<=c:=aj;have O:(1:Int)<=(m:Int)+1:=aj;have Q:(m:Int)+1<=(c:Int):=aj;have R:¬(c=m):=aj;have J:¬(c=1):=aj;have Y:m+1-m=1:=aj;go_enter func320,ntmps320;go_wp2;go_region
 go_wp2;go_ret;exact⟨H,rfl,aL.put A.out H,B.out,C.out,N.out,M.out⟩
def Wy(c:Nat)(z:1<=c)(h:aL w b 65 l)(y:c*10<=l.length)(q:∀v∈l,v.oneCell'=true):Calls prog 320 #[dh b 1 c,iZ 0,iZ 1] w fun e r=>
   ∃m,e=.returned (dh b 0 c)/\aL r b 65 m/\m.length=l.length/\(∀v∈m,v.oneCell'=true)/\l6 b w r:=by
 have i:∀p g,(mE #[54] p #[dh b 1 g]).run prog w.drew=.ok (.tuple #[]) (put w.drew b (aU l 0 (eB jY.cells 1).toList)):=fun p g=>gQ (P:=prog) (o:=0) (n:=1) (c:=g) 54 65 p _ qR.ht (fun w=>bO) (aL.drew h) aj (by rw[qR.hz];omega) (qR.h1 _);have d:(aU l 0 (eB jY.cells 1).toList).length=l.length:=bV _ _ _ (by rw[qR.hz];omega);have a:∀v∈aU l 0 (eB jY.cells 1).toList,v.oneCell'=true:=dM q (qR.h1 _);generalize aU l 0 (eB jY.cells 1).toList=f at i d a;have s:Hid (aL (put w.drew b f) b 65 f/\f.length=l.length/\(∀v∈f,v.oneCell'=true)/\l6 b w (put w.drew b f)):=⟨aL.put (w:=w.drew) h f,d,a,rfl,rfl,rfl,by simp[put],fun k x=>by rw[gY _ _ _ _ x];rfl⟩;clear d a h q y;have u:(1:Int)<=(c:Int):=aj;have t:¬(c=0):=aj;by_cases j:c=1;all_goals
  go_enter func320,ntmps320;go_wp2;go_region
  go_wp2;go_ret;exact⟨f,St.rQ rfl (by first|rfl|exact j.symm),s.out⟩
section
def fH.que{aQ:Own}{w':Wq}{l':bJ}{M:av}{f:WA}(h:fH oZ s w S l M bw bl bi f)(K:Kp [s,s+53] oZ aQ w w')(a:kR l l' 233 2)(v:WA)(q:List Fr)(d:Nat)(k:aL w' S TS l')(g:l'[233]?=some v)(i:l'[234]?=some (uZ d))(m:GT aQ (s+53) 65 10 w' v q.length (kY q)):fH aQ s w' S l' {M with aK:=q,qv:=v,least:=d} bw bl bi f:=by
 have e:∀j,j<233\/235<=j->l'[j]?=l[j]?:=fun j b=>a.2 j aj;have c:=h.cells;refine⟨by rw[K.ext S h.bY.lt,h.ow],h.s0,k,⟨a.1.trans c.len,(e _ aj).trans c.c0,(e _ aj).trans c.c1,(e _ aj).trans c.c2,(e _ aj).trans c.c3,(e _ aj).trans c.qU,c.gr.dW a aj,(e _ aj).trans c.sP,(e _ aj).trans c.sQ,(e _ aj).trans c.pQ,(e _ aj).trans c.nH,(e _ aj).trans c.n_,(e _ aj).trans c.oM,(e _ aj).trans c.rV,(e _ aj).trans c.nJ,g,i,(e _ aj).trans c.pR,(e _ aj).trans c.qV,(e _ aj).trans c.rW,(e _ aj).trans c.oO,(e _ aj).trans c.tY⟩,fun j b=>?_,fun j b=>?_,h.row.kp K aM,h.Ay.kp K aM aM,h.b_.kp K aM aM,⟨m,h.qu.m.kp K aM,by rw[K.ext bi h.qu.t.lt,h.qu.o],h.qu.t.kept (K.bY bi h.qu.t.lt (by rw[h.qu.o];simp))⟩,h.lo,h.li⟩;·exact(h.out j b).kp K rR rR rR a aj
 ·exact(h.cK j b).kp K rR rR a aj
def SG(n c:Nat)(f:Fr)(t:List Fr)(y:n=t.length)(q:aL w g 65 cs)(b:c*10<=cs.length)(h:n+1<=c)(i:c<=9223372036854775807)(x:n<=1000000)(z:cs.take ((n+1)*10)=fJ f nZ++kY t)(p:∀v∈cs,v.oneCell'=true):qH 320 #[(dh g (n+1) c),iZ 0,iZ 1] w (dh g n c) fun d=>Hid (∃a,aL d g 65 a/\a.length=cs.length/\a.take (n*10)=kY t/\(∀v∈a,v.oneCell'=true)/\l6 g w d):=by
 have u:(fJ f nZ).length=10:=rfl;by_cases r:1<=n;·refine(SF n c r h i x q b p).mono ?_;rintro e d ⟨j,rfl,k,l,A,m,o⟩;refine⟨rfl,j,k,l,?_,m,o⟩;rw[A,z,qqv aj,qnj aj,qmq]
 ·obtain rfl:n=0:=aj;refine(Wy c aj q b p).mono ?_;rintro e d ⟨j,rfl,k,l,m,o⟩;refine⟨rfl,j,k,l,?_,m,o⟩;rw[qn9.1 y.symm];rfl
section
variable {oZ:Own} {s:Nat} {w0:Wq} {S bw bl bi ab:Nat}
def Dl:tK oZ s w0 S bw bl bi ab 269 #[aJ S 233] #[] (fun M _=>decide (0<M.aK.length)) fun M B I=>if I<M.gZ then none else M.aK.head?.map fun f=>(f,{M with aK:=M.aK.tail,qv:=Et M.qv},B):=by
 intro m w M B I K hE hW O L;obtain⟨l,vc,F,hA⟩:=hE;obtain⟨f,t,P⟩:∃f t,M.aK=f::t:=by
  cases hq:M.aK with
  |nil=>simp only[hq]at O;cases O
  |cons f t=>exact⟨f,t,rfl⟩
 have e0:M.gZ=(aX f).length:=by unfold av.gZ;rw[P]
 obtain⟨g,c,H,hv,og,r,he,hm,X,ht,h1⟩:=F.qd8 P;have h4:=F.s0;have Z:=hW.ql;rw[P,qmp]at Z;obtain⟨W,p⟩:=bT (w.alloc (.cells lY.toArray 65));have u:bE w W:=by rw[p];exact(qlw _ w).alloc (qj _) _
 have V:aL W w.heap.size 65 lY:=by rw[p];exact aL.new w 65 _
 have gT:w.heap.size<W.heap.size:=by rw[p];simp
 have i:fH (loc m w.heap.size) s W S l M bw bl bi vc:=F.loc u;have hA1:AnM (loc m w.heap.size) s W ab B:=(hA.kp (uO m w) aM aM).kp (Kp.below (T:=[]) u) aM aM;have A:(loc m w.heap.size) g=s+53:=by rw[jo _ _ _ r.lt];exact og
 have G:(loc m w.heap.size) S=s:=by rw[jo _ _ _ F.bY.lt];exact F.ow
 have HF:Hid (qH 249 #[aJ S 233] W (iZ ((aX f).length:Int)) fun R=>bE W R):=by have:=Dh i hW.q;rw[e0]at this;exact this
 have Y:g≠S:=fun e=>by rw[e,G]at A;omega
 obtain⟨n,C⟩:=bT t.length;obtain⟨z,hz⟩:=bT ((aX f).length);have hr:∀x,(if I<(M.gZ:Int)then none else M.aK.head?.map fun f=>(f,{M with aK:=M.aK.tail,qv:=Et M.qv},B))=x↔(if I<(z:Int)then none else some (f,({M with aK:=t,qv:=(dh g n c)}:av),B))=x:=fun x=>by rw[e0,P,hv,hz,C];rfl
 have h3:=(hr _).2 rfl;show Calls prog 269 #[aJ S 233,iZ I] w fun e R=>jE m s w S bw bl bi ab M B (if I<(M.gZ:Int)then none else M.aK.head?.map fun f=>(f,{M with aK:=M.aK.tail,qv:=Et M.qv},B)) e R;rw[h3];clear hr h3;have h6:Hid (∀y q,bE W y->l6 w.heap.size y q->jE m s w S bw bl bi ab M B none (.returned (.tuple #[eF iL nZ,.bool false])) q):=fun y q b N=>by exact jE.wrap (x:=iP) (gy:=loc m w.heap.size) h4 u gT rfl (Kp.below b) ⟨l,vc,i.below b,hA1.kp (Kp.below (T:=[]) b) aM aM⟩ (fun z hz=>by cases hz) N
 have HC:Hid (∀y,bE W y->y.cell? (ay S 233)=some (dh g (n+1) c)/\y.frozen? (ay S 233)=false/\aL y w.heap.size 65 lY/\aL y g 65 H):=fun y b=>by have b1:=eY b i.bY;refine⟨by rw[b1.cell,F.cells.jd,hv,C],b1.frozen _,eY b V,eY b (eY u r)⟩
 have HD:Hid (∀y,aL y g 65 H->qH 320 #[(dh g (n+1) c),iZ 0,iZ 1] y (dh g n c) fun R=>Hid (∃a,aL R g 65 a/\a.length=H.length/\a.take (n*10)=kY t/\(∀v∈a,v.oneCell'=true)/\l6 g y R)):=fun y b=>SG n c f t C b he aj X aj (by rw[C];exact ht) h1;have h7:Hid (∀y d q,bE W y->(∃a,aL d g 65 a/\a.length=H.length/\a.take (n*10)=kY t/\(∀v∈a,v.oneCell'=true)/\l6 g y d)->l6 w.heap.size (d.setCell (ay S 233) (dh g n c)) q->jE m s w S bw bl bi ab M B (some (f,({M with aK:=t,qv:=(dh g n c)}:av),B)) (.returned (.tuple #[eF f nZ,.bool true])) q):=fun y d q b hX N=>by
  obtain⟨a,q1,q2,q3,q4,Q⟩:=hX;have o:=i.below b;have K1:Kp [s,s+53] (loc m w.heap.size) (loc m w.heap.size) y d:=(Q.kpt (T:=[s,s+53]) (by rw[A];simp));have h9:aL d S TS l:=o.bY.of_heap (Q.block S (fun e=>Y e.symm));have K2:Kp [s,s+53] (loc m w.heap.size) (loc m w.heap.size) d (d.setCell (ay S 233) (dh g n c)):=Kp.set _ d _ _ _ (by show(loc m w.heap.size) S∈_;rw[G];simp);have hf:=o.cells.len;have hc:=o.que (K1.trans K2) (l':=l.set 233 (dh g n c)) (kR.set l 233 _ 233 2 aj aj) (dh g n c) t M.least (h9.setCell 233 _) (qo0 aj) (by rw[qn1 aj];exact o.cells.qA)
   (.inr ⟨g,c,a,by rw[C],A,bU (T:=[s]) q1 (Kp.set _ d _ _ _ (by show(loc m w.heap.size) S∈_;rw[G];simp)) (by rw[A];simp),aj,aj,X,by rw[<-q3,C,qm8];omega,by rw[<-C];exact q3,q4⟩)
  refine jE.wrap (x:=(f,none,0,0)) (gy:=loc m w.heap.size) h4 u gT rfl ((Kp.below b).trans ((K1.trans K2).mono fun x hx=>uN.2 (by simp at hx;omega))) ⟨_,vc,hc,(hA1.kp (Kp.below (T:=[]) b) aM aM).kp (K1.trans K2) aM aM⟩ (fun y' D=>?_) N;cases D;exact⟨rfl,R_.none _ _ _ f (hW.q f (by rw[P];simp)).rs⟩
 have k:=fun y (b:aL y g 65 H) j hj=>Wo (n:=n+1) b (by rw[C];exact ht) j hj;have HK:Hid (∀y,aL y g 65 H->y.cell? (ay g 0)=some (iZ f.aD)/\y.cell? (ay g 1)=some (iZ f.aG)/\y.cell? (ay g 2)=some (uZ f.aC)/\y.cell? (ay g 3)=some (uZ f.aN)/\y.cell? (ay g 4)=some (uZ f.aT)/\y.cell? (ay g 5)=some (.bool f.bG)/\y.cell? (ay g 6)=some (uZ f.id)/\y.cell? (ay g 7)=some (uZ f.aH)/\y.cell? (ay g 8)=some (.string f.data)/\y.cell? (ay g 9)=some nZ):=fun y b=>⟨k y b 0 aj,k y b 1 aj,k y b 2 aj,k y b 3 aj,k y b 4 aj,k y b 5 aj,k y b 6 aj,k y b 7 aj,k y b 8 aj,k y b 9 aj⟩;have t_:S<W.heap.size:=i.bY.lt;have hf:=i.cells.len;have HL:Hid (∀y,bE W y->aL (y.alloc (.cells #[iZ f.aD,iZ f.aG,uZ f.aC,uZ f.aN,uZ f.aT,.bool f.bG,uZ f.id,uZ f.aH,.string f.data,nZ] 65)) g 65 H/\bE W (y.alloc (.cells #[iZ f.aD,iZ f.aG,uZ f.aC,uZ f.aN,uZ f.aT,.bool f.bG,uZ f.id,uZ f.aH,.string f.data,nZ] 65))/\∀d,(∃a,aL d g 65 a/\a.length=H.length/\a.take (n*10)=kY t/\(∀v∈a,v.oneCell'=true)/\l6 g (y.alloc (.cells #[iZ f.aD,iZ f.aG,uZ f.aC,uZ f.aN,uZ f.aT,.bool f.bG,uZ f.id,uZ f.aH,.string f.data,nZ] 65)) d)->d.cell? (ay S 233)=some (dh g (n+1) c)/\d.frozen? (ay S 233)=false/\aL (d.setCell (ay S 233) (dh g n c)) y.heap.size 65 (fJ f nZ)/\aL (d.setCell (ay S 233) (dh g n c)) w.heap.size 65 lY):=fun y b=>by
  obtain⟨_,_,r1,r2⟩:=HC.out y b;have hu:g<y.heap.size:=r2.lt;have kI:w.heap.size<y.heap.size:=r1.lt;have ha:aL (y.alloc (.cells #[iZ f.aD,iZ f.aG,uZ f.aC,uZ f.aN,uZ f.aT,.bool f.bG,uZ f.id,uZ f.aH,.string f.data,nZ] 65)) y.heap.size 65 (fJ f nZ):=aL.new y 65 (fJ f nZ);have J:bE W (y.alloc (.cells #[iZ f.aD,iZ f.aG,uZ f.aC,uZ f.aN,uZ f.aT,.bool f.bG,uZ f.id,uZ f.aH,.string f.data,nZ] 65)):=b.alloc b.size _;generalize y.alloc (.cells #[iZ f.aD,iZ f.aG,uZ f.aC,uZ f.aN,uZ f.aT,.bool f.bG,uZ f.id,uZ f.aH,.string f.data,nZ] 65)=E at *
  obtain⟨p1,p2,p3,p4⟩:=HC.out E J;refine⟨p4,J,fun d hX=>?_⟩;obtain⟨a,_,_,_,_,Q⟩:=hX;have bS:aL d S TS l:=(eY J i.bY).of_heap (Q.block S (fun e=>Y e.symm));have hg:y.heap.size≠S:=fun e=>bR b.size;have h2:w.heap.size≠S:=fun e=>bR F.bY.lt;exact⟨by rw[bS.cell,F.cells.jd,hv,C],bS.frozen _,(ha.of_heap (Q.block _ aj)).jO _ _ hg,(p3.of_heap (Q.block _ (fun e=>bR r.lt))).jO _ _ h2⟩
 rw[<-hz]at HF;have ho:=r.lt;clear k F hA hW O K i hA1 V hv ht h1 P e0 hz og A G C r L;have h5:Hid (∀y,bE W y->aL y w.heap.size 65 [iZ 0,iZ 0,uZ 0,uZ 0,uZ 0,.bool false,uZ 0,uZ 0,.string ⟨#[]⟩,nZ]):=fun y b=>(HC.out y b).2.2.1;unfold lY at p;by_cases h0:I<(z:Int)
 ·rw[bM h0];go_enter func269,ntmps269;go_wp2_with fail;rw[<-p];go_wp2_with (go_at_call 249;refine bH HF.out ?_;rintro y D;have U:=aF D;have ug:=aF (h5.out y D);obtain⟨y0,y1,y2,d,y4,y5,y6,y7,y8,y9,yf⟩:=bC ug.out;clear D);rw[gq];have jX:=fK ug.out (iZ 0) (iZ 0) (uZ 0) (uZ 0) (uZ 0) (.bool false) (uZ 0) (uZ 0) (.string ⟨#[]⟩) nZ;have nX:=fM y w.heap.size (iZ 0) (iZ 0) (uZ 0) (uZ 0) (uZ 0) (.bool false) (uZ 0) (uZ 0) (.string ⟨#[]⟩) nZ;generalize jI y w.heap.size (iZ 0) (iZ 0) (uZ 0) (uZ 0) (uZ 0) (.bool false) (uZ 0) (uZ 0) (.string ⟨#[]⟩) nZ=q at *
  obtain⟨a0,a1,a2,a3,a4,a5,a6,a7,a8,a9,_⟩:=bC jX;exact Vl (v:=.tuple #[eF iL nZ,.bool false]) (by simp[results,results269,go_sem,a0,a1,a2,a3,a4,a5,a6,a7,a8,a9,eF,iL]) rfl (h6.out y q U.out nX)
 ·rw[aV h0];generalize ({M with aK:=t,qv:=(dh g n c)}:av)=M2 at *
  go_enter func269,ntmps269;go_wp2_with fail;rw[<-p];go_wp2_with (first|(go_at_call 249;refine bH HF.out ?_;rintro y D;have U:=aF D;obtain⟨x1,x2,x3,x4⟩:=HC.out y D;obtain⟨k0,k1,k2,k3,k4,k5,k6,k7,k8,k9⟩:=HK.out y x4;have o:S<y.heap.size:=qm9 t_ D.size;have hk:S≠y.heap.size:=Nat.ne_of_lt o;clear D x3 x4)|(go_at_call 320;refine bH (HD.out _ (HL.out y U.out).1) ?_;rintro d HX;obtain⟨m1,m2,m3,m4⟩:=(HL.out y U.out).2.2 d HX.out;obtain⟨j0,j1,j2,j3,j4,j5,j6,j7,j8,j9,jf⟩:=bC m3;have h8:=aF m4;obtain⟨i0,i1,i2,i3,i4,i5,i6,i7,i8,i9,hw⟩:=bC m4;clear m3 m4));rw[gq];have jX:=fK h8.out (iZ f.aD) (iZ f.aG) (uZ f.aC) (uZ f.aN) (uZ f.aT) (.bool f.bG) (uZ f.id) (uZ f.aH) (.string f.data) nZ;have nX:=fM (d.setCell (ay S 233) (dh g n c)) w.heap.size (iZ f.aD) (iZ f.aG) (uZ f.aC) (uZ f.aN) (uZ f.aT) (.bool f.bG) (uZ f.id) (uZ f.aH) (.string f.data) nZ;generalize jI (d.setCell (ay S 233) (dh g n c)) w.heap.size (iZ f.aD) (iZ f.aG) (uZ f.aC) (uZ f.aN) (uZ f.aT) (.bool f.bG) (uZ f.id) (uZ f.aH) (.string f.data) nZ=q at *
  obtain⟨a0,a1,a2,a3,a4,a5,a6,a7,a8,a9,_⟩:=bC jX;exact Vl (v:=.tuple #[eF f nZ,.bool true]) (by simp[results,results269,go_sem,a0,a1,a2,a3,a4,a5,a6,a7,a8,a9,eF]) rfl (h7.out _ d q (HL.out y U.out).2.1 HX.out nX)
end

end
end Go.Proofs.YtphbledmopchnaaGreatDoor.Sd
namespace Go.Proofs.YtphbledmopchnaaGreatDoor.Sd
open St Tryz
variable {n:Nat}
def xE(m n:Nat)(h:m<=n):(Num.aB m).length<=(Num.aB n).length:=by
 rw[Num.iQ,Num.iQ];refine qpk gP ?_;unfold Num.code;repeat' split
 all_goals omega
def yU(f:Fr)(h:f.aD=4):(aX f).length=1+(Num.aB f.aG.toNat).length+(Num.aB f.aC).length+(Num.aB f.data.size).length+f.data.size:=by
 have e:dz f.aD=[(1,0),(2,0),(3,279),(4,0)]:=by rw[h];rfl
 unfold aX;rw[e];have:f.data.data.toList.length=f.data.size:=rfl;simp only[List.map,qmp,qnc,dR,qo3,qpt,dx,fieldAt,qm0,qmq];simp;omega
def Oc{k c:Nat}{g:Fr}{b:List UInt8}{d:Int}(h:pI (tQ k c) b d=some g):((aX g).length:Int)<=d:=by
 unfold pI at h;split at h;·cases h
 ·rename_i t;have a:=(qmn h).symm;have f:=yU (tQ k c) rfl;have i:(tQ k c).data.size=0:=rfl;have j:(Num.aB 0).length=1:=rfl;rw[i,j]at f;obtain⟨r,e⟩:=bT ((d-((aX (tQ k c)).length:Int)).toNat);simp only[<-e]at a;obtain⟨m,n⟩:=bT (min (min b.length r) (r-((Num.aB (min b.length r)).length-1)));rw[<-n]at a;have o:g.data.size=m:=by
   rw[a];show(List.take m b).toArray.size=m;rw[qp1,qm8];omega
  have l:=yU g (by rw[a];rfl);rw[o,show g.aG=(tQ k c).aG by rw[a],show g.aC=(tQ k c).aC by rw[a]]at l;have p:=xE m (min b.length r) aj;have q:=gJ (min b.length r);have s:m=0->(Num.aB m).length=1:=fun h=>by rw[h];rfl
  omega
def WM(g:Fr)(x:Bool)(h:g.aD=4):(aX {g with bG:=x}).length=(aX g).length:=by exact(yU {g with bG:=x} h).trans (yU g h).symm
def Dn:bZ->Prop
 |[]=>True
 |r::t=>r.1<=r.2/\r.2<=dH/\(∀x∈t,x.2+1<r.1)/\Dn t
def Dn.take:∀{l:bZ} (n:Nat),Dn l->Dn (l.take n)
 |[],n,h=>by simpa using h
 |_::_,0,_=>trivial
 |r::t,n+1,h=>⟨h.1,h.2.1,fun x a=>h.2.2.1 x (qn2 a),Dn.take n h.2.2.2⟩
def Dn.drop:∀{l:bZ} (n:Nat),Dn l->Dn (l.drop n)
 |[],n,h=>by simpa using h
 |_::_,0,h=>h
 |_::t,n+1,h=>Dn.drop (l:=t) n h.2.2.2
def Dn.app:∀{l:bZ} (r:Nat×Nat),Dn l->r.1<=r.2->r.2<=dH->(∀x∈l,r.2+1<x.1)->Dn (l++[r])
 |[],r,_,h1,h2,_=>⟨h1,h2,fun x b=>by simp at b,trivial⟩
 |a::t,r,h,h1,h2,h3=>⟨h.1,h.2.1,fun x b=>by
   rcases qm7.1 b with b|b;·exact h.2.2.1 x b
   ·rw[qmi.1 b];exact h3 a aM,Dn.app r h.2.2.2 h1 h2 fun x b=>h3 x (by simp[b])⟩
def Dn.rev:∀{l:bZ},Rg.gW l->(∀r∈l,r.2<=dH)->Dn l.reverse
 |[],_,_=>trivial
 |r::t,h,hb=>by rw[kg];exact Dn.app r (Dn.rev h.2.2 fun x a=>hb x (by simp[a])) h.1 (hb r aM) fun x a=>h.2.1 x (qqq.1 a)
def Dn.at:∀{l:bZ},Dn l->∀i,i<l.length->uz l i=true
 |[],_,_,h=>by simp at h
 |r::t,h,0,_=>by unfold uz;simp[h.1,h.2.1]
 |r::t,h,i+1,hi=>by
  have a:=Dn.at h.2.2.2 i (by simpa using hi);unfold uz at a ⊢;simp only[qmg,decide_eq_true_eq,Bool.or_eq_true,qo3,qp4]at a ⊢;refine⟨a.1,.inr ?_⟩;cases i with
  |zero=>refine h.2.2.1 _ ?_;rw[qly,qm3 (by simpa using hi)];exact qmz _
  |succ i=>
   rcases a.2 with e|e;·cases e
   ·simpa using e
def Dn.snd{l:bZ}(h:Dn l)(c:l≠[]):sG l=true:=by
 unfold sG;rw[qmg];refine⟨qod.2 fun i b=>h.at i (List.mem_range.1 b),decide_eq_true ?_⟩;cases l with
 |nil=>exact absurd rfl c
 |cons a t=>simp
def Dw(a:bZ)(b:Int):∀n,fP a b n≠0->((aX (dS (a.take (fP a b n)))).length:Int)<=b
 |0,h=>absurd rfl h
 |n+1,h=>by
  by_cases c:((aX (dS (a.take (n+1)))).length:Int)<=b
  ·have e:fP a b (n+1)=n+1:=by unfold fP;rw[bM c]
   rw[e];exact c
  ·have e:fP a b (n+1)=fP a b n:=by rw[fP,aV c]
   rw[e]at h ⊢;exact Dw a b n h
def Dx(f:Fr)(b:1<=f.aD/\f.aD<=8)(a:f.aC<=dH/\f.aN<=dH/\f.aT<=dH/\f.id<=dH/\f.aH<=dH)(c:0<=f.aG/\f.aG<8)(d:ny f=true):snd f=true:=by unfold snd qy;rw[d,decide_eq_true b,decide_eq_true c,decide_eq_true a.1,decide_eq_true a.2.1,decide_eq_true a.2.2.1,decide_eq_true a.2.2.2.1,decide_eq_true a.2.2.2.2];rfl
def WO(aD:Int)(k x:Nat)(c:aD=5\/aD=6)(d:k<8)(b:x<=dH):snd (lW aD k x)=true:=by
 have z:0<=dH:=qm2 _;have a:0<=(k:Int)/\(k:Int)<8:=aj;rcases c with rfl|rfl;·exact Dx _ (by show(1:Int)<=5/\(5:Int)<=8;decide) ⟨z,z,b,z,z⟩ a rfl
 ·exact Dx _ (by show(1:Int)<=6/\(6:Int)<=8;decide) ⟨z,z,b,z,z⟩ a rfl
def QD.snd{f:Fr}(h:QD f):snd f=true:=by rw[h.e];exact Dx _ (by show(1:Int)<=7/\(7:Int)<=8;decide) ⟨qm2 _,qm2 _,qm2 _,h.i,h.d⟩ (by show(0:Int)<=0/\(0:Int)<8;decide) rfl
def Dy{A A':av}(C:gM A)(c dV:bZ)(u:Nat)(o:Int)(f:Fr)(O:u<48)(p:Dn c)(i:A.bD c u=true)(h:A.frame c u o=some (f,A',dV)):((aX f).length:Int)<=o/\snd f=true/\Dn dV/\(f.aD=2↔u=0)/\(f.aD=2\/f.aD=4\/f.aD=5\/f.aD=6\/f.aD=3\/f.aD=7):=by
 unfold av.frame at h;unfold av.bD at i;by_cases u0:u=0
 ·rw[bM u0]at h;split at h;·cases h
  ·rename_i m;have e:=qmn h;have k:dS (c.take (fP c o c.length))=f:=congrArg fA e;have l:c.drop (fP c o c.length)=dV:=congrArg (fun x=>x.2.2) e;subst k l;refine⟨Dw c o _ m,?_,p.drop _,⟨fun _=>u0,fun _=>rfl⟩,.inl rfl⟩;have D:c.take (fP c o c.length)≠[]:=by
    cases c with
    |nil=>exact absurd rfl m
    |cons a t=>
     intro s;rw[List.take_eq_nil_iff]at s;rcases s with s|s;·exact m s
     ·cases s
   have:=(p.take (fP c o c.length)).snd D;unfold snd qy ny dS;simp[this]
 ·rw[aV u0]at h i;simp only[qmg]at i;replace i:=i.2;by_cases u8:u=8
  ·rw[bM u8]at h;obtain⟨⟨f1,E⟩,b,e⟩:=qmj.1 h;have k:f1=f:=congrArg fA e;have l:c=dV:=congrArg (fun x=>x.2.2) e;subst k l;unfold Gn.next at b;split at b;·cases b
   ·rename_i r;have d:lW 5 0 (A.gr.jS A.aZ)=f1:=congrArg fA (qmn b);rw[d]at r;refine⟨aj,?_,p,⟨fun x=>?_,fun x=>absurd x u0⟩,.inr (.inr (.inl (by rw[<-d];rfl)))⟩;·rw[<-d];exact WO 5 0 _ (.inl rfl) gP (qo9 _ _)
    ·rw[<-d]at x;cases x
  ·rw[aV u8]at h i;by_cases u24:u<24
   ·rw[bM u24]at h;obtain⟨⟨f1,E⟩,b,e⟩:=qmj.1 h;have k:f1=f:=congrArg fA e;have l:c=dV:=congrArg (fun x=>x.2.2) e;subst k l;unfold Gn.next at b;split at b;·cases b
    ·rename_i r;have d:lW 6 (u-16) ((A.cK (u-16)).gr.jS (A.cK (u-16)).aZ)=f1:=congrArg fA (qmn b);rw[d]at r;refine⟨aj,?_,p,⟨fun x=>?_,fun x=>absurd x u0⟩,.inr (.inr (.inr (.inl (by rw[<-d];rfl))))⟩;·rw[<-d];exact WO 6 _ _ (.inr rfl) aj (qo9 _ _)
     ·rw[<-d]at x;cases x
   ·rw[aV u24]at h i;by_cases u32:u<32
    ·rw[bM u32]at h i;obtain⟨⟨f1,B⟩,b,e⟩:=qmj.1 h;have k:f1=f:=congrArg fA e;have l:c=dV:=congrArg (fun x=>x.2.2) e;subst k l;unfold Nt.bD at i;simp only[qmg]at i;have w:=C.wr (u-24);have P:=w.sz;obtain⟨_,F,N⟩:=w.gv i.1;unfold Nt.next at b;split at b;·cases b
     ·rename_i r;have d:nD (u-24) (A.out (u-24)).nt.aC (A.out (u-24)).aB.length=f1:=congrArg fA (qmn b);have G:2048<=dH:=gP;rw[d]at r;refine⟨aj,?_,p,⟨fun x=>?_,fun x=>absurd x u0⟩,.inr (.inr (.inr (.inr (.inl (by rw[<-d];rfl)))))⟩;·rw[<-d];exact Dx _ (by show(1:Int)<=3/\(3:Int)<=8;decide) ⟨by show(A.out (u-24)).nt.aC<=dH;omega,by show(A.out (u-24)).aB.length<=dH;omega,qm2 _,qm2 _,qm2 _⟩ (by show 0<=((u-24:Nat):Int)/\((u-24:Nat):Int)<8;omega) (decide_eq_true F)
      ·rw[<-d]at x;cases x
    ·rw[aV u32]at h i;by_cases y:u=32
     ·rw[bM y]at h i;split at h;·cases h
      ·rename_i r;obtain⟨g,j,e⟩:=qmj.1 h;have k:g=f:=congrArg fA e;have l:c=dV:=congrArg (fun x=>x.2.2) e;subst k l;have q:=C.q g (List.mem_of_mem_head? j);have v:A.gZ=(aX g).length:=by
        unfold av.gZ;cases hA2:A.aK with
        |nil=>rw[hA2]at j;cases j
        |cons a t=>rw[hA2]at j;cases j;rfl
       rw[v]at r;refine⟨aj,q.snd,p,⟨fun x=>?_,fun x=>absurd x u0⟩,.inr (.inr (.inr (.inr (.inr q.kd))))⟩;rw[q.kd]at x;cases x
     ·rw[aV y]at h i;obtain⟨⟨f1,K⟩,b,e⟩:=qmj.1 h;have k:f1=f:=congrArg fA e;have l:c=dV:=congrArg (fun x=>x.2.2) e;subst k l;obtain⟨B,I,J,_⟩:=BF (C.wr _) i b;have H:K.all.length<=2048:=(BF (C.wr _) i b).2.2.2.1.sz;refine⟨?_,?_,p,⟨fun x=>?_,fun x=>absurd x u0⟩,.inr (.inl B)⟩
      ·unfold Ot.next at b;simp only at b;split at b;·cases b
       ·rename_i g j;split at b;·cases b
        ·have d:=congrArg fA (qmn b);simp only at d;rw[<-d,WM _ _ (by obtain⟨n,_,m⟩:=yt j;rw[m];rfl)];exact Oc j
      ·obtain⟨g,j,v⟩:∃g:Fr,f1=g/\g.aN=0/\g.aT=0/\g.id=0/\g.aH=0:=by
        unfold Ot.next at b;simp only at b;split at b;·cases b
        ·rename_i g j;split at b;·cases b
         ·have d:=congrArg fA (qmn b);simp only at d;obtain⟨n,_,m⟩:=yt j;exact⟨_,d.symm,by rw[m];rfl,by rw[m];rfl,by rw[m];rfl,by rw[m];rfl⟩
       subst j;have L:=J.b;have M:bL f1=f1.aC+f1.data.size:=rfl;have z:0<=dH:=qm2 _;have G:2048<=dH:=gP;refine Dx f1 (by rw[B];decide) ⟨aj,by rw[v.1];exact z,by rw[v.2.1];exact z,by rw[v.2.2.1];exact z,by rw[v.2.2.2];exact z⟩ (by rw[I];omega) ?_;unfold ny;rw[B,aV gP,aV gP,bM rfl];exact decide_eq_true aj
      ·rw[B]at x;cases x
structure UF (f:Fr):Prop where
 st:0<=f.aG/\f.aG<8
 dt:f.aD=4->xk f
 lm:f.aT<=dH
 rl:f.aN<=dH
 kd:f.aD=4\/f.aD=5\/f.aD=6\/f.aD=3
structure OtB (o:Ot):Prop where
 b:o.aB.length<=2048
 a:zK o.gK
 c:zK o.aP
def Od(g:Gn):Prop:=g.ahead<=4096/\g.dX<=dH/\g.gK<=dH/\g.aP<=dH
structure Ey (i:eU):Prop where
 g:Od i.gr
 r:i.aY<=2048
 h:i.fF<=2048
 f:i.gH<=2048
 e:i.rel<=dH
 l:i.aY+i.bK.length<=2048
 c:i.aP.length=i.bK.length
 s:i.state<=2
def Ey.ok{i:eU}(h:Ey i):Mr i:=
 ⟨h.g,by have:=h.r;unfold dH;omega,by have:=h.h;unfold dH;omega,by have:=h.f;unfold dH;omega,h.e,bR h.l,h.c,h.s⟩
def PaB(n:Nat)(x:Nat×ru):Prop:=x.1<n/\x.2.cZ.length<=400/\∀f∈x.2.cZ,UF f
def PaB.mono{m:Nat}{x:Nat×ru}(h:PaB n x)(a:n<=m):PaB m x:=⟨qm9 h.1 a,h.2⟩
structure CmB (c:NS):Prop where
 so:Rg.gW c.rs
 hi:∀r∈c.rs,r.2<=dH
 ln:c.rs.length<=8
 fl:c.fl<=dH+1
def Ib(M:av):Prop:=M.bW<=dH/\M.taken.Nodup/\∀x∈M.taken,x<=M.bW/\M.bW<x+32
structure Bd (M:av):Prop where
 o:∀k,OtB (M.out k)
 i:∀k,Ey (M.cK k)
 g:Od M.gr
 lm:M.aT<=dH
 mt:64<=M.bF/\M.bF<=400
 wy:∀x∈M.bf,PaB M.next x
 ls:∀x∈M.b_,PaB M.next x
 ky:(M.b_++M.bf).Pairwise fun x y=>x.1≠y.1
 wl:M.bf.length<=12
 ll:M.b_.length<=65
 nm:M.named<=M.next
 cm:CmB M.aP
 tk:∀x∈M.bf,x.2.aW<=M.aW
 ib:Ib M
def QD.ok{f:Fr}(h:QD f):lX f:=by have:=h.i;have:=h.d;have:=h.s;have b:dH<18446744073709551616:=gP;rw[h.e];exact⟨qm2 _,by show f.data.size<=_;omega,by show -9223372036854775808<=(7:Int)/\(7:Int)<=_;decide,by show -9223372036854775808<=(0:Int)/\(0:Int)<=_;decide,⟨by show 0<_;decide,by show 0<_;decide,by show 0<_;decide,by show f.id<_;omega,by show f.aH<_;omega⟩,fun j a=>absurd a (qmy _)⟩
def QD.ln{f:Fr}(h:QD f):(aX f).length<=379:=by
 have a:=h.s;have e:dz f.aD=dz 7:=by rw[h.kd]
 have b:=gJ f.id;have c:=gJ f.aH;have d:(Num.aB f.data.size).length<=2:=by have:=xE f.data.size 360 a;have:(Num.aB 360).length=2:=gP;omega
 unfold aX;rw[e];have:f.data.data.toList.length=f.data.size:=rfl;simp[dz,dR,dx,fieldAt];omega
def QD.qf{f:Fr}(h:QD f):QF f:=⟨h.kd,by rw[h.e];rfl,h.ok,h.snd,by rw[h.e];rfl,bR h.ln⟩
def Bd.q{M:av}(h:Bd M)(q:List Fr)(v:WA)(l:Nat):Bd {M with aK:=q,qv:=v,least:=l}:=⟨h.o,h.i,h.g,h.lm,h.mt,h.wy,h.ls,h.ky,h.wl,h.ll,h.nm,h.cm,h.tk,h.ib⟩
def Bd.wk{M:av}(h:Bd M)(a:gM M):Wk M:=
 ⟨fun k=>(h.o k).b,fun k=>(h.o k).a,fun k=>(h.o k).c,fun k e=>⟨((a.wr k).gv e).2.1,qlz ((a.wr k).gv e).2.2 (a.wr k).sz⟩,fun k=>(h.i k).ok,h.g.1,a.sp,h.lm,fun f b=>(a.q f b).qf,a.ql,bR h.wl⟩
def Bd.dD{M:av}(h:Bd M)(k:Nat)(o:Ot)(a:OtB o):Bd (M.dD k o):=
 ⟨fun j=>by rw[kD];split;exact a;exact h.o j,h.i,h.g,h.lm,h.mt,h.wy,h.ls,h.ky,h.wl,h.ll,h.nm,h.cm,h.tk,h.ib⟩
def Bd.fT{M:av}(h:Bd M)(k:Nat)(i:eU)(a:Ey i):Bd (M.fT k i):=
 ⟨h.o,fun j=>by rw[jT];split;exact a;exact h.i j,h.g,h.lm,h.mt,h.wy,h.ls,h.ky,h.wl,h.ll,h.nm,h.cm,h.tk,h.ib⟩
def Bd.sj{M:av}(h:Bd M)(g:Gn)(a:Od g):Bd {M with gr:=g}:=
 ⟨h.o,h.i,a,h.lm,h.mt,h.wy,h.ls,h.ky,h.wl,h.ll,h.nm,h.cm,h.tk,h.ib⟩
def yV{x:NS}{f:Fr}(h:zK x)(a:xk f):zK (yj x f):=by
 have k:=a.o;have c:=a.e;have b:=a.ne;have d:f.aC<=bL f:=by unfold bL;omega
 unfold yj;cases i:f.bG
 ·rw[i]at b;have j:0<bL f:=b.resolve_left aM;by_cases g:f.aC<=bL f-1;·exact(h.add _ _ (by simpa using g) rR).1
  ·have e:x.add 2049 f.aC (if false=true then bL f else bL f-1)=x:=by
    unfold NS.add Rg.add;rw[bM rR]
   rw[e];exact h
 ·exact(h.add _ _ (by simpa using d) (by simpa using c)).1
def Od.aw{g:Gn}(h:Od g)(x:Nat)(a:x<=dH):Od (g.aw x):=⟨h.1,h.2.1,qp0.2 ⟨h.2.2.1,a⟩,h.2.2.2⟩
def Od.cm{g:Gn}(h:Od g)(x:Nat)(a:x<=dH):Od (g.cm x):=⟨h.1,h.2.1,h.2.2.1,qp0.2 ⟨h.2.2.2,a⟩⟩
def Od.kV{g:Gn}(h:Od g):Od g.kV:=⟨h.1,h.2.1,qm2 _,h.2.2.2⟩
def Ey.gr'{i:eU}(h:Ey i)(g:Gn)(a:Od g):Ey {i with gr:=g}:=⟨a,h.r,h.h,h.f,h.e,h.l,h.c,h.s⟩
def KD{M:av}(h:Bd M)(f:Fr)(a:UF f):Bd (M.jq f):=by
 unfold av.jq;split;·rename_i b;exact h.dD _ _ ⟨(h.o _).b,yV (h.o _).a (a.dt b),(h.o _).c⟩
 ·split;·exact h.dD _ _ ⟨(h.o _).b,(h.o _).a,(h.o _).c⟩
  ·split;·exact h.fT _ _ ((h.i _).gr' _ ((h.i _).g.aw _ a.lm))
   ·exact h.sj _ (h.g.aw _ a.lm)
def KE{M:av}(h:Bd M)(f:Fr)(a:UF f):Bd (M.gN f):=by
 unfold av.gN;split;·rename_i b;exact h.dD _ _ ⟨(h.o _).b,yV (h.o _).a (a.dt b),yV (h.o _).c (a.dt b)⟩
 ·split;·exact h.dD _ _ ⟨(h.o _).b,(h.o _).a,(h.o _).c⟩
  ·split;·exact h.fT _ _ ((h.i _).gr' _ ((h.i _).g.cm _ a.lm))
   ·exact h.sj _ (h.g.cm _ a.lm)
def Ir(g:av->Fr->av)(a:∀{M:av},Bd M->∀f,UF f->Bd (g M f)):∀(l:List Fr) {M:av},Bd M->(∀f∈l,UF f)->Bd (l.foldl g M)
 |[],_,h,_=>h
 |f::t,_,h,hl=>Ir g a t (a h f (hl f aM)) fun x b=>hl x (by simp[b])
def av.wG(M:av):av:=
 {M with
  bf:=M.bf.filter fun x=> !M.iy x
  b_:=(M.b_++M.bf.filter M.iy).filter fun x=> !decide (x.1+64<M.next)
  gr:=M.gr.kV
  outs:=M.outs.map kC
  ins:=M.ins.map jC}
def av.lS(M a:av):Prop:=
 if M.bf.any M.iy then∃b:List (Nat×ru),b.Perm (M.bf.filter fun x=> !M.iy x)/\a=(cZ b).foldl av.jq M.wG else a=M
def av.Qc(M:av)(l:bZ):av:=
 {M with
  named:=max M.named ((l.getD 0 (0,0)).2+1)
  bf:=M.bf.filter fun x=> !names l x.1
  b_:=M.b_.filter fun x=> !names l x.1}
def av.tN(M:av)(l:bZ)(c:av):Prop:=
 ∃a b:List (Nat×ru),a.Perm (M.bf.filter fun x=>names l x.1)/\b.Perm (M.b_.filter fun x=>names l x.1)/\c=(cZ a++cZ b).foldl av.gN (M.Qc l)
def FX{A B A':av}(g:gM A)(d:eH A B)(e:eH B A)(h:A.lS A'):rH A B A':=by
 unfold av.lS at h;split at h;·obtain⟨i,_,rfl⟩:=h;have s:=VH g d e (A.bf.filter fun x=> !A.iy x) ((A.b_++A.bf.filter A.iy).filter fun x=> !decide (x.1+64<A.next));exact s.trans (yF av.jq (fun a b c f=>RI a b c f) _ s.loc s.ab s.ba)
 ·rw[h];exact kE g d e
def SX{A B A':av}(g:gM A)(d:eH A B)(e:eH B A)(l:bZ)(h:A.tN l A'):rH A B A':=by obtain⟨i,j,_,_,rfl⟩:=h;have s:=G5 g d e (A.bf.filter fun x=> !names l x.1) (A.b_.filter fun x=> !names l x.1) A.next (max A.named ((l.getD 0 (0,0)).2+1)) (qj _);exact s.trans (yF av.gN (fun a b c f=>FE a b c f) _ s.loc s.ab s.ba)
def xG{l:List (Nat×ru)}(h:∀x∈l,PaB n x):∀f∈cZ l,UF f:=fun f a=>by unfold cZ at a;obtain⟨x,b,a⟩:=qqi.1 a;exact(h x b).2.2 f a
def Dz:∀(n a:Nat) (l:List (Nat×ru)),(l.Pairwise fun x y=>x.1≠y.1)->(∀x∈l,a<=x.1/\x.1<a+n)->l.length<=n
 |0,a,l,_,h=>by
  cases l with
  |nil=>exact qj _
  |cons x t=>have:=h x aM;omega
 |n+1,a,l,hp,h=>by
  have i:=Dz n a (l.filter fun x=> !decide (x.1=a+n)) (hp.filter _) fun x d=>by obtain⟨p,q⟩:=qm4.1 d;have:=h x p;simp at q;omega
  have j:(l.filter fun x=>decide (x.1=a+n)).length<=1:=by
   have b:=hp.filter (fun x=>decide (x.1=a+n));generalize c:(l.filter fun x=>decide (x.1=a+n))=m at b;match m,c,b with
   |[],_,_=>simp
   |[x],_,_=>simp
   |x::y::t,c,b=>
    have d:x∈(l.filter fun x=>decide (x.1=a+n)):=by rw[c];simp
    have g:y∈(l.filter fun x=>decide (x.1=a+n)):=by rw[c];simp
    have e:=(qm4.1 d).2;have f:=(qm4.1 g).2;simp at e f;exact absurd (e.trans f.symm) ((qpu.1 b).1 y aM)
  have k:l.length=(l.filter fun x=>decide (x.1=a+n)).length+(l.filter fun x=> !decide (x.1=a+n)).length:=by have:=(fE (fun x:Nat×ru=>decide (x.1=a+n)) l).length_eq;rw[qm0]at this;exact this.symm
  omega
def qh5:OtB Aj:=⟨gP,⟨rfl,trivial,fun r a=>by cases a⟩,⟨rfl,trivial,fun r a=>by cases a⟩⟩
def Iu(n:Nat)(h:n<=4096):Ey (eU.new n):=
 ⟨⟨h,qlz h gP,qm2 _,qlz h gP⟩,qm2 _,qm2 _,qm2 _,qm2 _,qm2 _,rfl,qm2 _⟩
def KH{M:av}(h:Bd M):Bd M.wG:=by
 have b:(M.b_++M.bf.filter M.iy++M.bf.filter fun x=> !M.iy x).Pairwise fun x y=>x.1≠y.1:=by rw[qmh];have c:(M.bf.filter M.iy++M.bf.filter fun x=> !M.iy x).Perm M.bf:=fE _ _;exact(((List.Perm.refl M.b_).append c).pairwise_iff (fun{_ _} e=>qna e)).2 h.ky
 refine⟨fun k=>?_,fun k=>?_,h.g.kV,h.lm,h.mt,fun x a=>h.wy x (qm4.1 a).1,fun x a=>?_,?_,qlz (qo1 _ _) h.wl,?_,h.nm,h.cm,fun x a=>h.tk x (qm4.1 a).1,h.ib⟩
 ·show OtB ((M.outs.map kC).getD k Aj);by_cases b:k<M.outs.length
  ·have:(M.outs.map kC).getD k Aj=kC (M.out k):=by
    unfold av.out;rw[qly,qly,qn8,qm3 b];rfl
   rw[this];exact⟨(h.o k).b,(h.o k).c,(h.o k).c⟩
  ·have:(M.outs.map kC).getD k Aj=Aj:=by
    rw[qly,qn7 rR];rfl
   rw[this];exact qh5
 ·show Ey ((M.ins.map jC).getD k zF);by_cases b:k<M.ins.length
  ·have:(M.ins.map jC).getD k zF=jC (M.cK k):=by
    unfold av.cK;rw[qly,qly,qn8,qm3 b];rfl
   rw[this];exact(h.i k).gr' _ (h.i k).g.kV
  ·have:(M.ins.map jC).getD k zF=zF:=by
    rw[qly,qn7 rR];rfl
   rw[this];exact Iu 0 gP
 ·rcases qm7.1 (qm4.1 a).1 with a|a;·exact h.ls x a
  ·exact h.wy x (qm4.1 a).1
 ·show((mI _ (M.b_++M.bf.filter M.iy))++M.bf.filter fun x=> !M.iy x).Pairwise _;exact b.sublist (qp7.append (List.Sublist.refl _))
 ·show(mI _ (M.b_++M.bf.filter M.iy)).length<=65;refine Dz 65 (M.next-64) _ ((b.sublist (List.sublist_append_left _ _)).filter _) fun x a=>?_;obtain⟨p,q⟩:=qm4.1 a;have d:x.1<M.next:=by
   rcases qm7.1 p with p|p;·exact(h.ls x p).1
   ·exact(h.wy x (qm4.1 p).1).1
  simp at q;omega
def KI{M d:av}(h:Bd M)(c:M.lS d):Bd d:=by
 unfold av.lS at c;split at c;·obtain⟨i,e,rfl⟩:=c;exact Ir _ (fun a f b=>KD a f b) _ (KH h) (xG fun x g=>h.wy x (qm4.1 (e.mem_iff.1 g)).1)
 ·rw[c];exact h
def WQ{M e:av}{l:bZ}(h:Bd M)(g:(l.getD 0 (0,0)).2<M.next)(k:M.tN l e):Bd e:=by
 obtain⟨m,n,i,j,rfl⟩:=k;refine Ir _ (fun a f b=>KE a f b) _ ?_ (fun f d=>?_);·exact⟨h.o,h.i,h.g,h.lm,h.mt,fun x c=>h.wy x (qm4.1 c).1,fun x c=>h.ls x (qm4.1 c).1,h.ky.sublist (qp7.append qp7),qlz (qo1 _ _) h.wl,qlz (qo1 _ _) h.ll,qp0.2 ⟨h.nm,g⟩,h.cm,fun x c=>h.tk x (qm4.1 c).1,h.ib⟩
 ·rcases qm7.1 d with d|d;·exact xG (fun x c=>h.wy x (qm4.1 (i.mem_iff.1 c)).1) f d
  ·exact xG (fun x c=>h.ls x (qm4.1 (j.mem_iff.1 c)).1) f d
end Go.Proofs.YtphbledmopchnaaGreatDoor.Sd
namespace Go.Proofs.YtphbledmopchnaaGreatDoor.Sd
open Go.RowKit Go.Lib Mm Go.Maps Tryz
variable {M:av}{S bi bl bw s:Nat}{W y:Wq}{l:bJ}{oZ:Own}
def qf4(h:Ib M):M.taken.length<=32:=by
 obtain⟨_,a,b⟩:=h;have:=Dz 32 (M.bW+1-32) (M.taken.map fun x=>(x,(⟨[],0⟩:ru))) (by
  rw[qqg];exact a) (fun y d=>by
  obtain⟨x,c,rfl⟩:=qmk.1 d;have:=b x c;show M.bW+1-32<=x/\x<M.bW+1-32+32;omega)
 rwa[qmc]at this
def fH.inb{aQ:Own}{w w':Wq}{l':bJ}{i:WA}(h:fH oZ s w S l M bw bl bi i)(K:Kp [s,s+54,s+55] oZ aQ w w')(a:kR l l' 235 2)(v:WA)(d:List (Nat×ByteArray))(g:Nat)(f:List Nat)(n:aL w' S TS l')(k:l'[235]?=some v)(m:l'[236]?=some (uZ g))(o:GT aQ (s+54) 118 2 w' v d.length (Rz d))(p:xM w' bi f):fH aQ s w' S l' {M with eP:=d,iv:=v,bW:=g,taken:=f} bw bl bi i:=by
 have e:∀j,j<235\/237<=j->l'[j]?=l[j]?:=fun j b=>a.2 j aj;have c:=h.cells;refine⟨by rw[K.ext S h.bY.lt,h.ow],h.s0,n,⟨a.1.trans c.len,(e _ aj).trans c.c0,(e _ aj).trans c.c1,(e _ aj).trans c.c2,(e _ aj).trans c.c3,(e _ aj).trans c.qU,c.gr.dW a aj,(e _ aj).trans c.sP,(e _ aj).trans c.sQ,(e _ aj).trans c.pQ,(e _ aj).trans c.nH,(e _ aj).trans c.n_,(e _ aj).trans c.oM,(e _ aj).trans c.rV,(e _ aj).trans c.nJ,(e _ aj).trans c.jd,(e _ aj).trans c.qA,k,m,(e _ aj).trans c.rW,(e _ aj).trans c.oO,(e _ aj).trans c.tY⟩,fun j b=>?_,fun j b=>?_,h.row.kp K aM,h.Ay.kp K aM aM,h.b_.kp K aM aM,⟨h.qu.q.kp K aM,o,by rw[K.ext bi h.qu.t.lt,h.qu.o],p⟩,h.lo,h.li⟩;·exact(h.out j b).kp K rR rR rR a aj
 ·exact(h.cK j b).kp K rR rR a aj
def Qs:∀(l:List (Nat×ByteArray)) (m:Nat×ByteArray),Rz (l++[m])=Rz l++[uZ m.1,.string m.2]
 |[],m=>rfl
 |a::t,m=>by show[_,_]++Rz (t++[m])=([_,_]++Rz t)++_;rw[Qs t m];simp
def mY(o:Obj)(h:bE W y):bE W (y.alloc o):=h.alloc h.size o
def pq(h:bE W y):bE W y.drew:=⟨h.os,h.tape,h.output,h.size,h.block⟩
def qjp:GK 115 118 (.agg #[uZ 0,.string ⟨#[]⟩]) 2 24:=⟨bO,bO,fun n=>by simp[eB,Value.cells],fun n v a=>by simp[eB,Value.cells]at a;obtain⟨i,_,rfl⟩:=a;have:i % 2=0\/i % 2=1:=aj;rcases this with e|e<;>rw[e]<;>rfl,aj⟩
def qau{vc:WA}(f:Fr)(R:WA)(w:Wq)(h:fH oZ s w S l M bw bl bi vc)(I:QD f)(H:Ib M)(hm:M.eP.length<=1000000):qH 236 #[aJ S 235,eF f R,uZ M.aW] w (.tuple #[]) fun q=>∃v,iE s oZ w S bw bl bi {M.nE f with iv:=v} q:=by
 obtain⟨qL,F⟩:∃qL:Wq->Prop,qL=fun q=>∃v,iE s oZ w S bw bl bi {M.nE f with iv:=v} q:=⟨_,rfl⟩;suffices hc:qH 236 #[aJ S 235,eF f R,uZ M.aW] w (.tuple #[]) fun q=>qL q by rw[F]at hc;exact hc
 obtain⟨W,g⟩:=bT (w.alloc (.cells (fJ f R).toArray 65));have b:aL W w.heap.size 65 (fJ f R):=by rw[g];exact aL.new w 65 _
 have i:bE w W:=by rw[g];exact(qlw _ w).alloc (qj _) _
 have gT:W.heap.size=w.heap.size+1:=by rw[g];simp
 have o:=h.loc i;have hw:=h.bY.lt;have he:f.id<18446744073709551616:=by have:=I.i;unfold dH at this;omega
 have d:Hid (∀y,bE W y->y.cell? (ay S 237)=some (.map (some bi))/\y.cell? (ay w.heap.size 6)=some (uZ f.id)/\(fB 206 (.map (some bi)) (uZ f.id) true).run prog y=.ok (.tuple #[.agg #[],.bool (decide (f.id∈M.taken))]) y):=fun y hy=>by have G:=o.below hy;have h9:=b.of_heap (hy.block _ b.lt);exact⟨by rw[G.bY.cell];exact G.cells.rW,h9.cell 6,G.qu.t.look f.id he⟩
 have C:bE W W:=qlw _ _;obtain⟨Y,D⟩:=bT ((W.alloc (.cells #[] 364)).drew);have N:bE W Y:=by rw[D];exact pq (mY _ C)
 have n:=o.below N;have O:=b.of_heap (N.block _ b.lt);have L:Hid (M.nE f=M->qL Y):=fun e=>by rw[F];refine⟨M.iv,?_⟩;rw[e];exact iE.refl h (i.trans (N.mono aj))
 have E:Hid (qH 301 #[aJ S 235,uZ f.id] Y (.bool (decide (f.id+32<=M.bW))) fun q=>q=Y):=
  XJ S M.bW f.id Y (by rw[n.bY.cell];exact n.cells.qV) I.i
 have a:Hid (M.nE f=if f.aH<M.aW\/f.id∈M.taken\/f.id+32<=M.bW then M
   else{M with eP:=M.eP++[(f.id,f.data)],bW:=max M.bW f.id,taken:=(f.id::M.taken).filter fun x=> !decide (x+32<=max M.bW f.id)}):=rfl
 obtain⟨x0,x1,x2,x3,x4,x5,x6,x7,x8,x9,xf⟩:=bC b;obtain⟨y0,y1,y2,y3,y4,y5,y6,y7,y8,y9,yf⟩:=bC O;have hn:(W.alloc (.cells #[] 364)).cell? (ay w.heap.size 7)=some (uZ f.aH):=by have:=y7;rw[D]at this;exact this
 by_cases h7:f.aH<M.aW
 ·have X:=aF (L.out (by rw[a.out,bM (.inl h7)]));generalize decide (f.id∈M.taken)=TW at *
  clear h o n O b i I H hm L a E F;unfold eF;unfold fJ at g;go_enter func236,ntmps236;go_wp2_with fail;rw[<-g];clear g;go_region_held3 (fun y=>y.cell? (ay S 237)=some (.map (some bi))/\y.cell? (ay w.heap.size 6)=some (uZ f.id)/\(fB 206 (.map (some bi)) (uZ f.id) true).run prog y=.ok (.tuple #[.agg #[],.bool TW]) y) (first|assumption|exact d.out _ (by repeat(first|assumption|refine mY _ ?_|refine pq ?_))) ((first|fail))
  all_goals
   go_wp2_with fail;try rw[<-D]
   refine Vl (results_none rfl _ _ _) rfl ?_;exact⟨rfl,X.out⟩
 by_cases c:f.id∈M.taken
 ·have X:=aF (L.out (by rw[a.out,bM (.inr (.inl c))]));rw[decide_eq_true c]at d;clear h o n O b i I H hm L a E F c;unfold eF;unfold fJ at g;go_enter func236,ntmps236;go_wp2_with fail;rw[<-g];clear g;go_region_held3 (fun y=>y.cell? (ay S 237)=some (.map (some bi))/\y.cell? (ay w.heap.size 6)=some (uZ f.id)/\(fB 206 (.map (some bi)) (uZ f.id) true).run prog y=.ok (.tuple #[.agg #[],.bool true]) y) (first|assumption|exact d.out _ (by repeat(first|assumption|refine mY _ ?_|refine pq ?_))) ((first|fail))
  all_goals
   go_wp2_with fail;try rw[<-D]
   refine Vl (results_none rfl _ _ _) rfl ?_;exact⟨rfl,X.out⟩
 rw[decide_eq_false c]at d;by_cases TJ:f.id+32<=M.bW
 ·have X:=aF (L.out (by rw[a.out,bM (.inr (.inr TJ))]));rw[decide_eq_true TJ]at E;clear h o n O b i I H hm L a F c;unfold eF;unfold fJ at g;go_enter func236,ntmps236;go_wp2_with fail;rw[<-g];clear g;go_region_held3 (fun y=>y.cell? (ay S 237)=some (.map (some bi))/\y.cell? (ay w.heap.size 6)=some (uZ f.id)/\(fB 206 (.map (some bi)) (uZ f.id) true).run prog y=.ok (.tuple #[.agg #[],.bool false]) y) (first|assumption|exact d.out _ (by repeat(first|assumption|refine mY _ ?_|refine pq ?_))) ((first|fail))
  all_goals
   go_wp2_with (go_at_call 301;try rw[<-D];refine bH E.out ?_;rintro yy m;subst m);try rw[<-D]
   refine Vl (results_none rfl _ _ _) rfl ?_;exact⟨rfl,X.out⟩
 rw[decide_eq_false TJ]at E;have a:Hid (M.nE f={M with eP:=M.eP++[(f.id,f.data)],bW:=max M.bW f.id,taken:=(f.id::M.taken).filter fun x=> !decide (x+32<=max M.bW f.id)}):=by
  unfold Hid;rw[a.out,aV];rintro(e|e|e);·exact h7 e
  ·exact c e
  ·exact TJ e
 obtain⟨ma,mc,A,_,_⟩:=n.qu.m.shape;have pR:Y.cell? (ay S 235)=some (.slice ma M.eP.length mc):=by rw[n.bY.cell,n.cells.pR,A]
 obtain⟨V,hV⟩:=bT ([uZ f.id,.string f.data]:bJ);obtain⟨Y2,z⟩:=bT ((Y.alloc (.cells V.toArray 118)).drew);have p:bE Y Y2:=by rw[z];exact pq (mY _ (qlw _ _))
 have h2:aL Y2 Y.heap.size 118 V:=by rw[z];exact aL.new Y 118 V
 have P:=n.below p;obtain⟨T,U,t,run,hG,r⟩:=fO qjp P.qu.m (ay Y.heap.size 0) 1 1 V (by rw[hV];rfl) (by rw[hV];intro v hv;simp at hv;rcases hv with rfl|rfl<;>rfl) (fun j x hx=>by
  have e:(ay Y.heap.size 0).add j=(ay Y.heap.size j):=by rw[qmb,qm5]
  rw[e,h2.cell,hx]) aj
 obtain⟨a2,c2,h0,_,_⟩:=hG.shape;obtain⟨ow,B⟩:=bT (loc oZ w.heap.size);have ob:ow w.heap.size=0:=by rw[B];exact iY _ _ _ (qj _)
 rw[<-B]at o n P r;have ha:=h.s0;have oS:ow S∉[s+54]:=by rw[o.ow];simp
 have u:aL U S TS l:=bU P.bY r oS;have xi:U.cell? (ay S 235)=some (.slice ma M.eP.length mc):=by rw[u.cell,n.cells.pR,A]
 have xd:=u.frozen 235;obtain⟨Z,Q⟩:=bT (U.setCell (ay S 235) T);have h3:aL Z S TS (l.set 235 T):=by rw[Q];exact u.setCell 235 _
 have hf:Y.heap.size<=Y2.heap.size:=p.size;have hu:W.heap.size<=Y.heap.size:=N.size;have J:t S=s:=by rw[r.ext S aj,o.ow]
 have K4:Kp [s] t t U Z:=by rw[Q];exact Kp.set t U _ _ _ (by show t S∈_;rw[J];simp)
 have KA:Kp [s,s+54,s+55] ow t w Z:=(Kp.below (i.trans (N.mono aj))).trans ((Kp.below p).trans ((r.mono aM).trans (K4.mono aM)));have k:=P.qu.t.lt;have K:t bi=s+55:=by rw[r.ext bi k,o.qu.o]
 have h5:xM Z bi M.taken:=P.qu.t.kept ((K4.bY bi (qm9 k r.size) (by rw[K];simp)).trans (r.bY bi k (by rw[o.qu.o];simp)));have h6:aL Z w.heap.size 65 (fJ f R):=by have q1:aL U w.heap.size 65 (fJ f R):=bU (eY p O) r (by rw[ob];simp);exact bU q1 K4 (by rw[r.ext _ aj,ob];simp;omega)
 have h4:=hG.kp K4 aM;have hk:Hid (qH 302 #[aJ S 235,uZ f.id] Z (.tuple #[]) fun q=>qL q):=by refine bH (KX t s M.bW f.id (l.set 235 T) h3 J K (by rw[aA _ _ _ _ aj];exact h.cells.qV) (by rw[aA _ _ _ _ aj];exact h.cells.rW) h5 c I.i (fun x hx=>hwZ H.1 (H.2.2 x hx)) (bR (qf4 H))) ?_;rintro q ⟨r1,r2,r3⟩;refine⟨rfl,?_⟩;rw[F];have KF:Kp [s,s+54,s+55] ow t w q:=KA.trans (r3.mono aM);rw[B]at KF;have KF:=KF.j_;have hg:=h4.kp r3 aM;rw[hV]at hg;refine⟨T,t,(l.set 235 T).set 236 (uZ ((max M.bW f.id:Nat):Int)),vc,?_,KF.mono fun x hx=>fC.2 (by simp at hx;omega)⟩;rw[a.out];exact h.inb KF ⟨aM,fun j hj=>by rw[qn1 aj,qn1 aj]⟩ T (M.eP++[(f.id,f.data)]) (max M.bW f.id) _ r2 (by rw[aA _ _ _ _ aj];exact cB _ _ _ _ h.cells.pR) (cB _ _ _ _ (by rw[aA _ _ _ _ aj];exact h.cells.qV)) (by rw[qm0,Qs];exact hg) r1
 have z6:Z.cell? (ay w.heap.size 6)=some (uZ f.id):=h6.cell 6;have xe:S<Y.heap.size:=aj;have ho:S≠Y.heap.size:=aj;have hr:w.heap.size≠Y.heap.size:=aj;have xa:w.heap.size<Y.heap.size:=aj;rw[A]at run;rw[h0]at run Q;rw[z,hV]at run;rw[Q]at z6;have HZ:=aF Q;clear Q;clear hG r u K4 KA h3 h5 h6 h4 h2 p z hV h0 h o n P O b i I H hm L a F c oS J K A B ob ha k hf;unfold eF;unfold fJ at g;have h8:=aF D;clear D C N;have C:bE W W:=qlw _ _;go_enter func236,ntmps236;go_wp2_with fail;rw[<-g];clear g;go_region_held3 (fun y=>y.cell? (ay S 237)=some (.map (some bi))/\y.cell? (ay w.heap.size 6)=some (uZ f.id)/\(fB 206 (.map (some bi)) (uZ f.id) true).run prog y=.ok (.tuple #[.agg #[],.bool false]) y) (first|assumption|exact d.out _ (by repeat(first|assumption|refine mY _ ?_|refine pq ?_))) ((first|fail))
 all_goals
  go_wp2_with (go_at_call 301;rw[<-h8.out];refine bH E.out ?_;rintro yy m;rw[m];clear m);clear d E C hn;go_region_law (refine gD _ (by rfl) _ _ _ _ (by rfl) _ _ (by rfl) (by rfl) _ _ (run _) ?_)
  all_goals
   go_wp2_with (go_at_call 302;rw[<-HZ.out];refine bH hk.out ?_;rintro yy m)
   (go_end0;exact⟨rfl,m⟩)
