import Derived.Test.YtphbledmopchnaaGreatDoorVca
open Go.Builtin renaming zeroCells->eB
open Go.Instr renaming lookup->fE
open List renaming replicate->fA,getElem?_eq_getElem->fB,filter_append_perm->l9,getElem?_eq_none->mI,reverse_cons->mK,length_map->mR,filter->nA
open Prod renaming fst->eT
set_option maxHeartbeats 4000000
set_option maxRecDepth 100000
open Go renaming World->Wq,Value->Wx,bodyPost_ret->VH
set_option linter.all false
namespace Go.Proofs.YtphbledmopchnaaGreatDoor.Sd
open St Tryz
variable {a c:NS}{i:dP}{l:List Nat}{o:Ot}{x y:Nat}
def vS.bk(w:vS o):vS {o with eH:=a,aT:=c,nt:={o.nt with eH:=x,aT:=y}}:=⟨w.sl,w.sb,w.pr,w.sz,w.ng,w.gv⟩
def rU.bk(o):rU o {o with eH:=a,aT:=c,nt:={o.nt with eH:=x,aT:=y}}:=⟨aI _,wK _,fun x=>⟨x,rfl⟩,fun x=>⟨x,rfl,rfl,aI _⟩⟩
def WZ{A B}(a:fG A)(c:dL A B)(b:dL B A)(f):rV A B (A.iU f):=by
 unfold av.iU;split;.exact nY a c b _ _ (a.wr _).bk rfl (rU.bk _) (wJ _ _)
 .split;.exact nY a c b _ _ (a.wr _).bk rfl (rU.bk _) (wJ _ _)
  .split;.exact tZ a c b _ _ (Un (b.rd _) _ (aI _)) (aI _) (aI _) (a.it _)
   .exact Q7 a c b _ rfl (aI _) a.gt
def J6{A B}(a:fG A)(c:dL A B)(b:dL B A)(f):rV A B (A.gJ f):=by
 unfold av.gJ;split;.exact nY a c b _ _ (a.wr _).bk rfl (rU.bk _) (wJ _ _)
 .split;.exact nY a c b _ _ (a.wr _).bk rfl (rU.bk _) (wJ _ _)
  .split;.exact tZ a c b _ _ (Un (b.rd _) _ (aI _)) (aI _) (aI _) (a.it _)
   .exact Q7 a c b _ rfl (aI _) a.gt
def BF(g)(a:∀{A B},fG A->dL A B->dL B A->∀f,rV A B (g A f)):∀(l:List Fr) {A B},fG A->dL A B->dL B A->rV A B (l.foldl g A)
 |[],_,_,hA,h1,h2=>lW hA h1 h2
 |f::t,_,_,hA,h1,h2=>by have s:=a hA h1 h2 f;exact s.trans (BF g a t s.loc s.ab s.ba)
theorem getD_map{α:Type}(f d):∀(l:List α) (k),k<l.length->(l.map f).getD k d=f (l.getD k d)
 |[],_,h=>by simp at h
 |a::t,0,_=>rfl
 |a::t,k+1,h=>by grind
theorem yB{α:Type}(d):∀(l:List α) (k),l.length<=k->l.getD k d=d
 |[],_,_=>aR
 |a::t,0,h=>by simp at h
 |a::t,k+1,h=>by grind
def OD(f:dP->dP)(b:∀i,(f i).aP=i.aP):∀(l:List dP) (s),(l.map f).foldl (fun s i=>min (s+i.aP) dH) s=l.foldl (fun s i=>min (s+i.aP) dH) s
 |[],_=>rfl
 |a::t,s=>by simp only[KQ,QE,b];exact OD f b t _
theorem ZM{A B}(b:fG A)(d:dL A B)(e:dL B A)(w l):rV A B {A with aM:=w,bV:=l,gr:=A.gr.kY,outs:=A.outs.map jN,ins:=A.ins.map iV}:=by
 obtain⟨c,a⟩:∃c,c={A with aM:=w,bV:=l,gr:=A.gr.kY,outs:=A.outs.map jN,ins:=A.ins.map iV}:=⟨_,rfl⟩;rw[<-a];have h:∀k,(c.out k)=if k<8 then jN (A.out k)else A.out k:=fun k=>by
  rw[a];show(A.outs.map jN).getD k vR=_;split;.exact getD_map jN vR _ _ (by rw[b.lo];assumption)
  .rw[yB _ _ _ (by rw[mH,b.lo];omega)];exact(yB _ _ _ (by rw[b.lo];omega)).symm
 have g:∀k,(c.bH k)=if k<8 then iV (A.bH k)else A.bH k:=fun k=>by
  rw[a];show(A.ins.map iV).getD k xk=_;split;.exact getD_map iV xk _ _ (by rw[b.li];assumption)
  .rw[yB _ _ _ (by rw[mH,b.li];omega)];exact(yB _ _ _ (by rw[b.li];omega)).symm
 have m:c.aN=A.aN:=by rw[a]
 have n:c.next=A.next:=by rw[a]
 have f:c.gr=A.gr.kY:=by rw[a]
 have j:c.aT=A.aT:=by rw[a]
 refine⟨⟨by grind [jN,mR,cases fG],by grind [iV,mR,cases fG],fun k=>?_,?_,fun k=>?_,?_,by rw[a];exact b.mY,by rw[a];exact b.q,by rw[a];exact b.ql⟩,⟨fun k=>?_,by rw[m];exact d.jI,by rw[n];exact d.aT⟩,⟨fun k=>?_,by rw[f];exact e.jI,by rw[j];exact e.aT⟩,⟨fun k=>?_,fun k=>?_,by rw[f];exact aI _,by grind⟩⟩
 .rw[h];split;.exact(b.wr k).bk
  .exact b.wr k
 .rw[a];show((A.outs.map jN).map Ot.dI).sum<=A.aN;rw[List.map_map];exact b.sp
 .rw[g];split;.exact b.it k
  .exact b.it k
 .rw[f,a];show A.gr.kY.eF<=A.gr.kY.jI ((A.ins.map iV).foldl (fun s i=>min (s+i.aP) dH) 0);rw[OD iV (fun i=>rfl)];exact b.gt
 .rw[h];split;.exact(d.rd k).mono rfl (rU.bk _)
  .exact d.rd k
 .rw[g];split;.exact Un (e.rd k) _ (aI _)
  .exact e.rd k
 .rw[h];split;.exact rU.bk _
  .exact rU.refl _
 .rw[g];split<;>exact aI _
def Mf{A B}(a:fG A)(b:dL A B)(c:dL B A)(w l n m)(d:A.next<=n):rV A B {A with aM:=w,bV:=l,named:=m,next:=n}:=
 ⟨⟨a.lo,a.li,a.wr,a.sp,a.it,a.gt,a.mY,a.q,a.ql⟩,⟨b.rd,b.jI,fun r e=>gK (b.aT r e) d⟩,⟨c.rd,c.jI,c.aT⟩,⟨fun _=>rU.refl _,fun _=>aI _,aI _,d⟩⟩
theorem ZN{A B}(g:fG A)(d:dL A B)(e:dL B A)(l):rV A B (A.land l):=by unfold av.land;have s:=Mf g d e (A.aM.filter fun x=> !names l x.1) (A.bV.filter fun x=> !names l x.1) A.next (max A.named ((l.getD 0 (0,0)).2+1)) (aI _);exact s.trans (BF av.gJ (fun a b c f=>J6 a b c f) _ s.loc s.ab s.ba)
def GD{A B}(d:fG A)(b:dL A B)(c:dL B A)(a):rV A B (A.eO a):=
 Mf d b c _ A.bV (A.next+1) A.named (Nat.le_succ _)
def GH{A B}(a:fG A)(b:dL A B)(c:dL B A)(x):rV A B {A with bn:=x}:=
 ⟨⟨a.lo,a.li,a.wr,a.sp,a.it,a.gt,a.mY,a.q,a.ql⟩,⟨b.rd,b.jI,b.aT⟩,⟨c.rd,c.jI,c.aT⟩,⟨fun _=>rU.refl _,fun _=>aI _,aI _,aI _⟩⟩
theorem ql4(f b rs d a B)(h:∀r∈rs,r.2<B)(g:a<B):∀r∈(Rg.add f b rs d a).2,r.2<B:=by
 have e:∀r∈Rg.ins (max d b) a rs,r.2<B:=fun r c=>by have:=Rg.xg rs (max d b) a (B-1) aj (fun x i=>by grind) r c;omega
 unfold Rg.add;split;.exact h
 .split;.exact fun r c=>e r (KU c)
  .exact e
def GI{A B}(a:fG A)(b:dL A B)(c:dL B A)(n)(d:n<B.next)(x):rV A B {A with aT:=A.aT.add 8 n n,bn:=x}:=
 ⟨⟨a.lo,a.li,a.wr,a.sp,a.it,a.gt,a.mY,a.q,a.ql⟩,⟨b.rd,b.jI,b.aT⟩,⟨c.rd,c.jI,ql4 _ _ _ _ _ _ c.aT d⟩,⟨fun _=>rU.refl _,fun _=>aI _,aI _,aI _⟩⟩
theorem Da(P:Nat->UInt8->Prop):∀(d) (i) (h) (c),c.length=h.length->i+d.length<=h.length->(∀j,c.getD j false=true->P j (h.getD j 0))->(∀j,j<d.length->P (i+j) (d.getD j 0))->(eP d i h c).2.length=(eP d i h c).1.length/\(eP d i h c).1.length=h.length/\∀j,(eP d i h c).2.getD j false=true->P j ((eP d i h c).1.getD j 0)
 |[],i,h,c,hl,_,hc,_=>⟨hl,rfl,hc⟩
 |x::t,i,h,c,hl,hi,hc,b=>by
  simp only[pI]at hi;have a:∀j,j<t.length->P (i+1+j) (t.getD j 0):=fun j f=>by have:=b (j+1) (by grind);rw[show i+1+j=i+(j+1) by omega];simpa using this
  unfold eP;split;.exact Da P t (i+1) h c hl aj hc a
  .have:=Da P t (i+1) (h.set i x) (c.set i true) (by grind) (by grind) (fun j e=>by
    by_cases f:j=i;.subst f;rw[mZ,Nr aj];have:=b 0 aR;simpa using this
    .have g:c.getD j false=true:=by
      grind
     rw[mZ,Ay aj,<-mZ];exact hc j g) a
   grind
theorem ZO{α:Type}(d)(l m:List α)(j)(h:j<l.length):(l++m).getD j d=l.getD j d:=by grind
theorem qg5(h:nN o i)(a d)(b:i.aY<=a)(g:i.bG=true->a+d.length<=i.rel)(f:∀j,j<d.length->a+j<i.fq/\o.all[a+j]?=some (d.getD j 0)):nN o (i.hold a d):=by
 unfold dP.hold;obtain⟨n,c⟩:=bU (a-i.aY+d.length-i.bO.length);simp only[<-c];have key:=Da (fun j x=>i.aY+j<i.fq/\o.all[i.aY+j]?=some x) d (a-i.aY) (i.bO++fA n 0) (i.aT++fA n false)
  (by simp[h.len]) dZ
  (fun j e=>by grind [ZO,cases nN])
  (fun j k=>by grind)
 constructor<;>grind [cases nN]
theorem qg6(y:vS o)(h:nN o i)(f)(k:yQ o f):nN o (i.take f):=by
 have t:=k.e;have l:nN o {i with fq:=max i.fq (bI f),cB:=i.cB||f.bL,h_:=if f.bL then bI f else i.h_}:=by constructor<;>grind [cases nN,Nat.le_trans,Nat.le_max_left,bI,cases yQ,cases vS]
 unfold dP.take;obtain⟨a,b⟩:∃a:dP,a={i with fq:=max i.fq (bI f),cB:=i.cB||f.bL,h_:=if f.bL then bI f else i.h_}:=⟨_,rfl⟩;rw[<-b]at l;simp only[<-b];have v:a.aY=i.aY:=by rw[b]
 have c:bI f<=a.fq:=by grind
 split
 .rename_i d;have x:=k.b;have q:min (bI f) a.wanted<=bI f:=Nat.min_le_left _ _;have r:min (bI f) a.wanted<=a.wanted:=Dy _ _;obtain⟨e,n⟩:=bU (max f.aC i.aY);obtain⟨p,c⟩:=bU (min (bI f) a.wanted);rw[<-n]at d ⊢;rw[<-c]at d q r ⊢;have u:f.aC<=e:=aj;have s:f.data.data.toList.length=bI f-f.aC:=by rw[k.d,Jo,Au];omega
  have m:((f.data.data.toList.take (p-f.aC)).drop (e-f.aC)).length=p-e:=by grind
  refine qg5 l _ _ aj (fun g=>?_) fun j w=>?_;.grind [dP.wanted]
  .rw[m]at w;refine⟨aj,?_⟩;rw[k.d,mZ,Jm,qj5 aj,Jm,qj5 aj,show f.aC+(e-f.aC+j)=e+j by omega];grind
 .exact l
theorem Db{α β:Type}(c)[Decidable c](a b)(g:α->β)(x)(d:g a=x)(e:g b=x):g (if c then a else b)=x:=by grind
theorem UO(i:dP)(f):(i.take f).gr=i.gr:=Db _ _ _ dP.gr _ rfl rfl
def J7(i:dP)(f):(i.take f).aY=i.aY:=Db _ _ _ dP.aY _ rfl rfl
def GJ(i:dP)(f):(i.take f).state=i.state:=Db _ _ _ dP.state _ rfl rfl
def R6(i:dP)(f):(i.take f).bG=i.bG:=Db _ _ _ dP.bG _ rfl rfl
theorem free_eq{a}(h:nN o i)(b:nN o a)(d:a.state=i.state)(c:a.aY=i.aY):a.aP=i.aP:=by grind [dP.aP,cases nN]
theorem W_(b:vS o)(h:nN o i)(f)(a:yQ o f):i.refuse f=0:=by
 unfold dP.refuse;have c:=a.e;have d:=a.b;have g:=b.sl;have j:=h.jI;have k:=h.fq;have l:=b.sb;have en:i.cB=true->bI f<=i.h_/\(f.bL=true->bI f=i.h_):=fun e=>by
  cases m:i.bG;.grind [cases nN,cases yQ]
  grind [cases nN,cases vS,cases yQ]
 rw[b_,b_ aj];grind [cases yQ]
theorem R7(b:vS o)(h:nN o i)(f)(a:A8 o f):i.nX f=0:=by unfold dP.nX;obtain⟨d,_,e⟩:=b.gv a.g;have c:=h.fq;rw[b_];grind [cases A8,cases nN]
theorem ZP(b:vS o)(h:nN o i)(f)(c:A8 o f):nN o (i.gH f):=by
 have a:=dx b.pr.length_le b.sz;have l:o.aB.length<=i.wanted:=by
  unfold dP.wanted;split;.grind [cases nN]
  .rename_i g;split;.grind [cases nN,cases vS]
   .exact dx a kX
 have d:=c.r;obtain⟨r,k⟩:=bU (min i.wanted f.aO);obtain⟨n,j⟩:=bU (min i.bO.length (r-min r i.aY));have e:i.gH f={i with rel:=r,bG:=true,cB:=true,h_:=f.aC,bO:=i.bO.take n,aT:=i.aT.take n}:=by rw[j,k];rfl
 constructor<;>grind [cases nN,cases A8,dP.wanted,List.length_take,List.getElem?_take_of_lt]
theorem Xa(l:List Ot):∀n,l.length=n->((List.range n).map fun j=>(l.getD j vR).dI).sum=(l.map Ot.dI).sum:=by
 intro n a;congr 1
 refine E_ (by simp[a]) fun j b c=>?_;grind
theorem ZQ(f g:Nat->Nat)(h:∀j,f j<=g j):∀l:List Nat,(l.map f).sum<=(l.map g).sum
 |[]=>aI _
 |a::t=>by have:=ZQ f g h t;grind
theorem ZR{A B}(b:fG B)(a:dL B A)(k e)(c:e<=(B.out k).dI):A.xq k e<=A.gr.eF:=by refine dx ?_ (dx b.sp a.jI);unfold av.pO;rw[<-Xa B.outs 8 b.lo];unfold av.xq;refine ZQ _ _ (fun j=>?_) _;have:=(a.rd j).fq;show max (A.bH j).fq _<=(B.out j).dI;grind
theorem EL{A B}(a:fG A)(g:fG B)(c:dL A B)(b:dL B A)(f)(p:qj B A f):(A.take f).2=0/\rV A B (A.take f).1:=by
 unfold av.take;rcases p with⟨d,l,n⟩|⟨d,l,n,k4⟩|⟨d,l⟩|⟨d,l,n,k4⟩|⟨d,l,n,k4⟩|d;.rw[dN d,b_ aj];grind [ZN]
 .rw[b_ aj,dN d,b_ (by rw[W_ (g.wr _) (b.rd _) f k4];simp),b_ (fT (ZR g b f.aF.toNat (bI f) k4.e))];have r:=qg6 (g.wr _) (b.rd f.aF.toNat) f k4;have h:=free_eq (b.rd _) r (GJ _ _) (J7 _ _);grind [tZ,cases fG,cases dL,cases nN,UO]
 .rw[b_ aj,b_ aj,b_ aj,b_ aj,b_ aj,dN d];refine⟨rfl,⟨⟨a.lo,a.li,a.wr,?_,a.it,a.gt,a.mY,a.q,a.ql⟩,⟨c.rd,?_,c.aT⟩,⟨b.rd,b.jI,b.aT⟩,⟨fun _=>rU.refl _,fun _=>aI _,aI _,aI _⟩⟩⟩;.show A.pO<=max A.aN f.aN;have:=a.sp;omega
  grind [cases dL]
 .rw[b_ aj,b_ aj,b_ aj,b_ aj,b_ aj,b_ aj,dN d];obtain⟨k,q⟩:=bU f.aF.toNat;obtain⟨o,i⟩:∃o:Ot,o={A.out k with aN:=max (A.out k).aN f.aN}:=⟨_,rfl⟩;rw[<-q]at k4 ⊢;rw[<-i];have m:=fun j=>gL A k j o;refine⟨rfl,⟨⟨(jD _ _ _).trans a.lo,a.li,fun j=>?_,?_,a.it,a.gt,a.mY,a.q,a.ql⟩,⟨fun j=>?_,c.jI,c.aT⟩,⟨b.rd,b.jI,b.aT⟩,⟨fun j=>?_,fun _=>aI _,aI _,aI _⟩⟩⟩
  .rw[m];split;.rw[i];exact⟨by have:=(a.wr k).sl;grind,(a.wr k).sb,(a.wr k).pr,(a.wr k).sz,(a.wr k).ng,(a.wr k).gv⟩
   .exact a.wr j
  .show(A.dA k o).pO<=A.aN;grind [uQ,cases fG]
  .rw[m];split;.rename_i e;rw[e.1,i];have r:=c.rd k;constructor<;>grind [cases nN]
   .exact c.rd j
  .rw[m];split;.rename_i e;rw[e.1,i];exact⟨aI _,wK _,fun x=>⟨x,rfl⟩,fun x=>⟨x,rfl,rfl,aI _⟩⟩
   .exact rU.refl _
 .rw[b_ aj,b_ aj,dN d,b_ (by rw[R7 (g.wr _) (b.rd _) f k4];simp)];have r:=ZP (g.wr _) (b.rd f.aF.toNat) f k4;have h:=free_eq (b.rd _) r rfl rfl;refine⟨rfl,tZ a c b _ _ r (aI _) (by grind) ?_⟩;rw[h];exact a.it _
 .have s:=d.kd;rw[b_ aj,b_ aj,b_ aj,b_ aj,dN s];refine⟨rfl,?_⟩;unfold av.pQ;split;.exact lW a c b
  .exact⟨⟨a.lo,a.li,a.wr,a.sp,a.it,a.gt,a.mY,a.q,a.ql⟩,⟨c.rd,c.jI,c.aT⟩,⟨b.rd,b.jI,b.aT⟩,⟨fun _=>rU.refl _,fun _=>aI _,aI _,aI _⟩⟩
def Lq(l:List Nat):Prop:=∀x∈l,x<48
def Lq.getD{l}(h:Lq l)(j):l.getD j 0<48:=by
 rw[mZ];cases a:l[j]? with
 |none=>simp
 |some v=>exact h v (Cx a)
theorem Lq.set{l}(h:Lq l)(i v)(a:v<48):Lq (l.set i v):=fun x b=>by grind [List.mem_or_eq_of_mem_set,Lq]
def Lq.sw(h:Lq l)(i j:Nat):Lq (sw l i j):=(h.set i _ (h.getD j)).set j _ (h.getD i)
def Lq.down:∀(k) {l} (i n),Lq l->Lq (lH k l i n)
 |0,_,_,_,h=>h
 |k+1,l,i,n,h=>by
  unfold lH;generalize (if 2*i+2<n/\l.getD (2*i+2) 0<l.getD (2*i+1) 0 then 2*i+2 else 2*i+1)=j;split;.exact h
  .simp only;split;.exact Lq.down k _ _ (h.sw _ _)
   .exact h
def Lq.up:∀(k) {l} (i),Lq l->Lq (El k l i)
 |0,_,_,h=>h
 |k+1,l,i,h=>by
  unfold El;split;.exact h
  .exact Lq.up k _ (h.sw _ _)
def Lq.pop(h:Lq l):Lq (mO l):=fun x a=>Lq.down _ _ _ (h.sw _ _) x (tF a)
def Lq.app{m}(h:Lq l)(g:Lq m):Lq (l++m):=fun x a=>(iJ.1 a).elim (h x) (g x)
theorem Lq.push(h:Lq l)(u)(a:u<48):Lq (eY l u):=Lq.up _ _ (h.app fun x b=>by grind)
theorem Lq.oO:∀(m) {l},Lq l->Lq m->Lq (m.foldl eY l)
 |[],_,h,_=>h
 |u::t,_,h,g=>Lq.oO t (h.push u (g u aR)) fun x a=>g x (by simp[a])
def lq0:Lq q0:=by unfold Lq;decide
structure Fld (A B:av) (x:av×bY×List Nat×List Fr):Prop where
 stp:rV A B x.1
 aH:∀r∈x.2.1,r.2<B.next
 q:Lq x.2.2.1
 fs:∀f∈x.2.2.2,qj x.1 B f
theorem yC:∀(n) {A B} (aH) (Q later) (au) (l),fG A->dL A B->dL B A->Lq Q->Lq later->(∀r∈aH,r.2<B.next)->(∀f∈l,qj A B f)->Fld A B (fV n A aH Q later au l)
 |0,A,B,aH,Q,later,au,l,hA,h1,h2,hQ,hL,hl,hf=>⟨lW hA h1 h2,hl,Lq.oO _ hQ hL,hf⟩
 |n+1,A,B,aH,[],later,au,l,hA,h1,h2,hQ,hL,hl,hf=>⟨lW hA h1 h2,hl,Lq.oO _ hQ hL,hf⟩
 |n+1,A,B,aH,u::Q,later,au,l,hA,h1,h2,hQ,hL,hl,hf=>by
  have d:=hQ u aR;unfold fV;by_cases b:A.aL aH u=true
  .simp only[b,if_true];cases hF:A.frame aH u au with
   |none=>
    simp only;split;.exact yC n aH _ _ au l hA h1 h2 hQ.pop (hL.app fun x o=>by grind) hl hf
    .exact⟨lW hA h1 h2,hl,Lq.oO _ hQ hL,hf⟩
   |some x=>
    obtain⟨f,m,c⟩:=x;simp only;obtain⟨s,p,e⟩:=NJ hA h1 h2 aH c u au f d hl b hF;obtain⟨h,i,j,k⟩:=yC n c (u::Q) later (au-((bf f).length:Int)) (l++[f]) s.loc s.ab s.ba hQ hL e (fun g a=>by
     rcases iJ.1 a with a|a;.exact(hf g a).mono s.le (EB.refl _)
     grind)
    exact⟨s.trans h,i,j,k⟩
  .simp only[b];exact yC n aH _ later au l hA h1 h2 hQ.pop hL hl hf
def nums(n:Nat):List (List Fr)->List (Nat×List Fr)
 |[]=>[]
 |fs::t=>(n,fs)::nums (n+1) t
structure Pks (A B:av) (l:List (Nat×List Fr)) (x:av×List (Nat×List Fr)) (m:List (List Fr)):Prop where
 eq:x.2=l++nums A.next m
 stp:rV A B x.1
 next:x.1.next=A.next+m.length
 ne:∀fs∈m,fs≠[]
 ok:∀fs∈m,∀f∈fs,qj x.1 B f
theorem rO{A}(n b Q a c l):(fV n A b Q a c l).1.next=A.next:=by
 induction n generalizing A b Q a c l with
 |zero=>rfl
 |succ n g=>
  cases Q with
  |nil=>rfl
  |cons u Q=>
   unfold fV;by_cases d:A.aL b u=true
   .simp only[d,if_true];cases hF:A.frame b u c with
    |none=>
     simp only;split;.grind
     .rfl
    |some x=>
     obtain⟨f,h,i⟩:=x;simp only;refine(g _ _ _ _ _).trans ?_;unfold av.frame at hF;split at hF;.grind
     .split at hF;.grind [Option.map_eq_some_iff]
      .split at hF;.obtain⟨y,_,e⟩:=jE.1 hF;exact(congrArg (fun x=>x.2.1.next) e).symm
       .split at hF;.obtain⟨y,_,e⟩:=jE.1 hF;exact(congrArg (fun x=>x.2.1.next) e).symm
        .split at hF;.grind [Option.map_eq_some_iff]
         .obtain⟨y,_,e⟩:=jE.1 hF;exact(congrArg (fun x=>x.2.1.next) e).symm
   .grind
theorem J8:∀(n) {A B} (aH) (Q) (l),fG A->dL A B->dL B A->Lq Q->(∀r∈aH,r.2<B.next)->∃m,Pks A B l (gQ n A aH Q l) m
 |0,A,B,aH,Q,l,hA,h1,h2,hQ,hl=>⟨[],by simp[gQ,nums],lW hA h1 h2,rfl,aR,aR⟩
 |n+1,A,B,aH,Q,l,hA,h1,h2,hQ,hl=>by
  have F:Fld A B (fill A aH Q A.au):=yC _ aH Q [] A.au [] hA h1 h2 hQ (fun x p=>by simp at p) hl (fun f c=>by simp at c);have d:(fill A aH Q A.au).1.next=A.next:=rO _ aH Q [] A.au []
  unfold gQ;generalize fill A aH Q A.au=x at F d;obtain⟨h,k,j,b⟩:=x;simp only at F d ⊢;split;.exact⟨[],by simp[nums],F.stp,d,aR,aR⟩
  .rename_i o;have P:=GD F.stp.loc F.stp.ab F.stp.ba b;obtain⟨m,e,s,u,t,v⟩:=J8 n k j (l++[(A.next,b)]) P.loc P.ab P.ba F.q F.aH;have q:(h.eO b).next=A.next+1:=by show h.next+1=_;rw[d]
   have i:=F.fs;refine⟨b::m,by grind [nums],F.stp.trans (P.trans s),by grind,fun g a=>?_,fun g a f c=>?_⟩;.grind
   .rcases nQ.1 a with a|a;.rw[a]at c;exact(i f c).mono (P.trans s).le (EB.refl _)
    grind
theorem qg7(c a b)(j:a<=dH)(i:b<=dH):fG (av.new c a b):=by
 have h:∀k,(av.new c a b).out k=if k<8 then Ot.new a else vR:=fun k=>by show(fA 8 (Ot.new a)).getD k vR=_;grind
 have g:∀k,(av.new c a b).bH k=if k<8 then dP.new a else xk:=fun k=>by show(fA 8 (dP.new a)).getD k xk=_;grind
 refine⟨rfl,rfl,fun k=>?_,?_,fun k=>?_,?_,rfl,(fun f d=>by cases d),eG _⟩
 .rw[h];split;.exact⟨eG _,eG _,wK _,eG _,fun _=>rfl,fun e=>by cases e⟩
  .exact⟨eG _,eG _,wK _,eG _,fun _=>rfl,fun e=>by cases e⟩
 .show 0<=_;grind
 .rw[g];split;.show a<=min (0+a) dH;omega
  .show 0<=_;grind
 .show b<=min (_+b) dH;omega
theorem qg8(b a c):dL (av.new b a c) (av.new b a c):=by
 refine⟨fun k=>?_,aI _,fun r g=>by simp[av.new]at g⟩;have f:(av.new b a c).out k=if k<8 then Ot.new a else vR:=by show(fA 8 (Ot.new a)).getD k vR=_;grind
 have d:(av.new b a c).bH k=if k<8 then dP.new a else xk:=by show(fA 8 (dP.new a)).getD k xk=_;grind
 rw[f,d];split;.exact⟨aI _,aI _,aI _,(fun e=>by cases e),(fun e=>by cases e),.inl rfl,rfl,fun j e=>by simp[dP.new]at e⟩
 .exact⟨aI _,aI _,aI _,(fun e=>by cases e),(fun e=>by cases e),.inl rfl,rfl,fun j e=>by simp[xk,dP.new]at e⟩
end Go.Proofs.YtphbledmopchnaaGreatDoor.Sd
namespace Go.Proofs.YtphbledmopchnaaGreatDoor.Sd
open Go.RowKit Go.Lib Mm Tryz
variable {S b bi bl bw g n s:Nat}{cs l:bM}{f:Fr}{k p:Array Wx}{oZ:Own}{w:Wq}
section
section
variable {oZ:Own} {s:Nat} {w0:Wq} {S bw bl bi ab:Nat}
theorem Ma(e)(g:Bx oZ s w0 e 128 (aK S 0)):sJ oZ s w0 S bw bl bi ab 250 #[] #[aK e 0] fun M _=>M.gr.aL M.aP:=by
 intro u w M r K o f;obtain⟨l,x,d,m⟩:=o;have z:=(g.kp K).cell;have i:Hid (∀q,bN 252 #[aK S 0] (w.drewN q) (uZ M.aP) fun b=>b=w.drewN q):=fun q=>UL (w.drewN q) (d.below (w':=w.drewN q) ⟨rfl,rfl,rfl,aI _,fun _ _=>rfl⟩) (fun k=>(f.bH k).aP);have c:M.aP<=dH:=by
  unfold av.aP;generalize M.ins=L;cases p:L.reverse with
  |nil=>rw[List.reverse_eq_nil_iff.1 p];exact eG _
  |cons a t=>
   have:L=t.reverse++[a]:=by grind [List.reverse_reverse,mK]
   rw[this,EY];exact Dy _ _
 have j:Hid (∀q,bN 251 #[aK S 221,uZ M.aP] (w.drewN q) (.bool (M.gr.aL M.aP)) fun b=>∃n,b=(w.drewN q).drewN n):=fun q=>NZ M.aP (w.drewN q) d.cK d.cells.gr f.ga c;show bN 250 #[aK e 0] w (.bool (M.gr.aL M.aP)) fun b=>bJ w b;generalize M.gr.aL M.aP=B at *
 generalize M.aP=F at *
 clear c d m f K g;go_enter func250,ntmps250;go_wp2_with fail;go_region_with (first|(go_at_call 252;refine bK (i.out _) ?_;rintro y rfl)|(go_at_call 251;refine bK (j.out _) ?_;rintro y ⟨v,rfl⟩));all_goals
  go_wp2;go_ret;exact⟨rfl,⟨rfl,rfl,rfl,aI _,fun _ _=>rfl⟩⟩
def Gw(k)(e:k<8):sJ oZ s w0 S bw bl bi ab 255 #[(aK S (18+27*k))] #[] fun M _=>(M.bH k).fF:=by intro i w M h K b d;obtain⟨l,m,a,j⟩:=b;obtain⟨g,f,c,_⟩:=a.bH k e;refine bK (Ja S (18+27*k) (M.bH k) g f w l a.cK c (d.bH k)) ?_;rintro n ⟨q,rfl⟩;exact⟨rfl,⟨rfl,rfl,rfl,aI _,fun _ _=>rfl⟩⟩
def Mc(k)(g:k<8):sJ oZ s w0 S bw bl bi ab 258 #[(aK S (4+27*k))] #[] fun M _=>(M.out k).nt.aL (M.out k).aB.length:=by intro i w M h K e f;obtain⟨l,p,b,j⟩:=e;obtain⟨a,c,o,n,d,m,_⟩:=(b.out k g).open b.cK;refine bK (FN (4+27*k) (M.out k).nt (M.out k).aB.length c a b.cK (f.ob k) d.c0 d.nt) ?_;rintro r ⟨q,rfl⟩;exact⟨rfl,⟨rfl,rfl,rfl,aI _,fun _ _=>rfl⟩⟩
def xI(w S a n c)(d:w.cell? (aA S 233)=some (.slice a n c)):bN 268 #[aK S 233] w (.bool (decide (0<n))) fun b=>b=w:=by go_enter func268,ntmps268;go_wp2;go_ret;exact⟨aR,rfl⟩
theorem qni(h:QF f)(w):I_ w f none 0:=⟨h.sn,h.ok,fun j a=>by rw[h.rs]at a;grind,by rw[h.rs];grind,(fun x b=>by cases b),h.ln⟩
def gq.qje{oZ s S M bw bl bi d}(h:gq oZ s w S l M bw bl bi d){t}(b:M.aQ=f::t):∃g c a,M.qv=(dB g (t.length+1) c)/\oZ g=s+53/\aS w g 65 a/\c*10<=a.length/\t.length+1<=c/\c<=9223372036854775807/\a.take ((t.length+1)*10)=f_ f nZ++mP t/\∀v∈a,v.oneCell'=true:=by
 have:=h.qu.q;rw[b]at this;rcases this with⟨_,e,_⟩|⟨g,cap,a,h1,h2,h3,h4,h5,h6,h7,h8,h9⟩;.simp at e
 .exact⟨g,cap,a,h1,h2,h3,h4,h5,h6,h8,h9⟩
theorem ZG{r:bM}(a:aS w g 65 cs)(h:cs.take (n*10)=f_ f nZ++r)(j)(b:j<10):w.cell? (aA g j)=(f_ f nZ)[j]?:=by
 have c:(f_ f nZ).length=10:=rfl;have e:(cs.take (n*10))[j]?=(f_ f nZ)[j]?:=by grind
 rw[a.cell,<-e,pG];grind
def Gx{oZ s S M bw bl bi P}(h:gq oZ s w S l M bw bl bi P)(r:∀f∈M.aQ,QF f):bN 249 #[aK S 233] w (iZ M.jc) fun p=>bJ w p:=by
 have e:=(h.cK.cell _).trans h.cells.jP;cases b:M.aQ with
 |nil=>
  have m:M.jc=0:=by unfold av.jc;rw[b]
  obtain⟨a,c,d,_⟩:=h.qu.q.shape;rw[b]at d;rw[d]at e;rw[m];have o:=aG (xI w S a _ c e);clear d e h r b m;go_enter func249,ntmps249;go_wp2_with (first|(go_at_call 268;refine bK o.out ?_;rintro p rfl)|go_in);go_ret;exact⟨rfl,bP _ _⟩
 |cons f t=>
  have m:M.jc=(bf f).length:=by unfold av.jc;rw[b]
  obtain⟨g,c,Q,d,_,u,_,L,N,x,_⟩:=h.qje b;rw[d]at e;rw[m];have q:=r f (by rw[b];simp);have o:=aG (xI w S _ _ c e);have i:=aG (um f none 0 w (qni q w));rw[q.rs]at i;have k:=fun j O=>ZG u x j O;have A:=k 0 aj;have B:=k 1 aj;have C:=k 2 aj;have D:=k 3 aj;have E:=k 4 aj;have F:=k 5 aj;have G:=k 6 aj;have H:=k 7 aj;have I:=k 8 aj;have J:=k 9 aj;unfold f_ at A B C D E F G H I J;unfold eX at i;simp only[jh,gN,vD]at A B C D E F G H I J i;obtain⟨n,v⟩:=bU t.length;rw[<-v]at e o;obtain⟨z,y⟩:=bU ((bf f).length);rw[<-y]at i ⊢;clear y v k d h r b m q x u;go_enter func249,ntmps249;go_wp2_with (first|(go_at_call 268;refine bK o.out ?_;rintro p rfl)|(go_at_call 210;refine bK i.out ?_;rintro p K)|go_in);go_ret;exact⟨rfl,K⟩
theorem Gy:sJ oZ s w0 S bw bl bi ab 268 #[aK S 233] #[] fun M _=>decide (0<M.aQ.length):=by intro g w M f K d i;obtain⟨l,j,b,h⟩:=d;obtain⟨a,c,e,_⟩:=b.qu.q.shape;refine(xI w S a _ c (((b.cK.cell _).trans b.cells.jP).trans (by rw[e]))).mono ?_;grind [Below.refl]
theorem WS(k)(n:k<8)(g i)(j:Bx oZ s w0 g 282 (aK S (4+27*k)))(m:Bx oZ s w0 i 128 (aK S 0)):sJ oZ s w0 S bw bl bi ab 263 #[] #[aK g 0,aK i 0] fun M _=>(M.out k).aL M.aU:=by
 intro x w M v K u b;obtain⟨l,z,f,t⟩:=u;have A:=(j.kp K).cell;have C:=(m.kp K).cell;have r:=b.dI f.lo k n;have e:(M.out k).dI+M.aU<18446744073709551616:=by have:=b.lm;grind [av.aU,dH]
 have o:Hid (∀q,bN 265 #[aK S 0] (w.drewN q) (uZ M.aU) fun a=>a=w.drewN q):=fun q=>J4 (w.drewN q) (f.below (w':=w.drewN q) ⟨rfl,rfl,rfl,aI _,fun _ _=>rfl⟩) b.sp b.lm;have p:Hid (∀q,bN 264 #[(aK S (4+27*k)),uZ M.aU] (w.drewN q) (.bool ((M.out k).aL M.aU)) fun a=>bJ w a):=fun q=>by have d:=f.below (w':=w.drewN q) ⟨rfl,rfl,rfl,aI _,fun _ _=>rfl⟩;refine bK (Zd (s+1+5*k) (4+27*k) (M.out k) M.aU (w.drewN q) d.cK (d.out k n) (b.ob k) e (b.oa k)) ?_;rintro a c;exact⟨rfl,⟨c.os,c.tape,c.output,c.size,c.block⟩⟩
 show bN 263 #[aK g 0,aK i 0] w (.bool ((M.out k).aL M.aU)) fun a=>bJ w a;generalize (M.out k).aL M.aU=B at *
 generalize M.aU=F at *
 clear e r f t b K j m;go_enter func263,ntmps263;go_wp2_with fail;go_region_with (first|(go_at_call 265;refine bK (o.out _) ?_;rintro y rfl)|(go_at_call 264;refine bK (p.out _) ?_;rintro y c));all_goals
  go_wp2;go_ret;exact⟨rfl,c⟩
theorem WU:sJ oZ s w0 S bw bl bi ab 246 #[aK ab 0] #[] fun _ d=>decide (0<d.length):=by
 intro p w M d K j m;obtain⟨l,r,k,i⟩:=j;obtain⟨_,v,f,e⟩:=i;obtain⟨a,c,rfl⟩:∃a c,v=.slice a d.length c:=by
  rcases e with⟨g,q⟩|⟨rb,off,c,g,_⟩;.grind
  grind
 have t:w.cell? (aA ab 0)=some (.slice a d.length c):=f.cell 0;show bN 246 #[aK ab 0] w (.bool (decide (0<d.length))) fun o=>bJ w o;generalize d.length=n at *
 clear e f k m K;go_enter func246,ntmps246;go_wp2;go_ret;exact⟨congrArg (fun b=>Ending.returned (.bool b)) (decide_eq_decide.2 aj),bP _ _⟩
end

end
section
theorem kr.wrap{W y h ab M k r x b iA}(N:0<s)(B:bJ w W)(H:w.heap.size<W.heap.size)(i:b=r.isSome)(K:Kp (Tn s) (loc oZ w.heap.size) iA W y)(v:Env iA s y S bw bl bi ab ((r.map fun y=>y.2.1).getD M) ((r.map fun y=>y.2.2).getD k))(m:∀z,r=some z->x.1=z.1/\WR iA s y x)(c:nP w.heap.size y h):kr oZ s w S bw bl bi ab M k r (.returned (.tuple #[eX x.1 (rW x),.bool b])) h:=by
 have d:=((xH oZ w).mono aR).trans ((Kp.below B).trans K);have A:iA w.heap.size=0:=by rw[K.ext _ H,jF _ _ _ (aI _)]
 have n:Kp [0] iA iA y h:=c.kpt (by grind);refine⟨x,b,iA,rfl,i,⟨c.os.trans d.os,c.tape.trans d.tape,c.output.trans d.output,by rw[c.size];exact d.size,fun b i F=>(c.block b aj).trans (d.cK b i F),d.ext⟩,v.kp n (fun x m _ e=>by grind) aR aR,fun z G=>?_⟩;obtain⟨u,f⟩:=m z G;refine⟨u,f.len,f.cap,fun j E=>?_,fun a C=>?_,f.nil⟩
 .obtain⟨b,o,l,p,q,t⟩:=f.vF j E;have D:=f.cK _ l;have g:b≠w.heap.size:=fun e=>by grind
  exact⟨b,o,l,cell_of p (c.block b g),cell_of q (c.block b g),t⟩
 .obtain⟨I,J,L⟩:=f.cK a C;exact⟨by rw[c.size];exact I,J,L⟩
section
variable {oZ:Own} {s:Nat} {w0:Wq} {S bw bl bi ab:Nat}
def vK.mono{g b nx d}(h:vK oZ s w0 S bw bl bi ab n p k g nx)(l:∀M a,b M a=true->g M a=true)(m:∀M a c,Wk M->b M a=true->d M a c=nx M a c):vK oZ s w0 S bw bl bi ab n p k b d:=by intro i w M a c K j e f o;rw[m M a c e f];exact h i w M a c K j e (l M a f) o
theorem qg1{iw nx}(I J)(eg:∀args w,(callFunc n args).run prog w=.ok (.enter n args) w)(R:Bx oZ s w0 I 302 (.func (.func n) p k))(T:Bx oZ s w0 J 128 (aK S 0))(h:DW oZ s w0 S bw bl bi ab n p k iw nx):vK oZ s w0 S bw bl bi ab 248 #[] #[aK I 0,aK J 0] iw (fun M i u=>nx M i (u-M.jc)):=by
 intro Q w M i u K U L E r;have V:=U;obtain⟨l,vc,hS,hA⟩:=V;obtain⟨W,c⟩:=bU (w.alloc (.cells nO.toArray 65));have a:bJ w W:=by rw[c];exact(bP _ w).alloc (aI _) _
 have D:aS W w.heap.size 65 nO:=by grind [aS.new]
 have iD:w.heap.size<W.heap.size:=by rw[c];simp
 have C:∀q,bJ W (W.drewN q):=fun q=>⟨rfl,rfl,rfl,aI _,fun _ _=>rfl⟩;have x1:=((R.kp K).below a).cell;have x2:=((T.kp K).below a).cell;have h3:=hS.s0;have h0:M.jc<=1000000:=by
  unfold av.jc;split;.omega
  .rename_i f t hq;exact(L.q f (by rw[hq];simp)).ln
 have HF:Hid (∀q,bN 249 #[aK S 233] (W.drewN q) (iZ M.jc) fun d=>bJ W d):=fun q=>(Gx (hS.below (w':=W.drewN q) ⟨a.os,a.tape,a.output,a.size,a.block⟩) L.q).mono fun e d h=>⟨h.1,(C q).trans h.2⟩;have HX:Hid (∀y,bJ W y->y.cell? (aA I 0)=some (.func (.func n) p k)/\y.cell? (aA J 0)=some (aK S 0)):=fun y A=>⟨(((R.kp K).below a).below A).cell,(((T.kp K).below a).below A).cell⟩;obtain⟨G,o⟩:=bU (u-(M.jc:Int):Int);have P:Hid (∀y,bJ W y->Calls prog n (p.push (iZ G)++k) y fun e d=>∃x1 x2 x3 x4 b,e=.returned (.tuple #[eX x1 (.slice x2 x3 x4),.bool b])/\aS d w.heap.size 65 nO/\Hid (∀B,nP w.heap.size d B->kr Q s w S bw bl bi ab M i (nx M i G) (.returned (.tuple #[eX x1 (.slice x2 x3 x4),.bool b])) B)):=fun y A=>by
  have j:=a.trans (A.mono a.size);have K0:=xH Q w;have K1:=K.trans ((K0.mono aR).trans (Kp.below j));have Y:=(U.kp K0 aR aR aR).below j;refine(h _ y M i G K1 Y L E).mono ?_;rintro e d ⟨x,b,iA,rfl,hb,K2,Z,hx⟩;refine⟨x.1,x.2.1,x.2.2.1,x.2.2.2,b,rfl,?_,fun B ht=>?_⟩;.exact bW (w:=y) (fD A D) K2 (by rw[jF _ _ _ (aI _)];grind [xG])
  .exact kr.wrap h3 j (gK iD A.size) hb K2 Z hx ht
 show Calls prog 248 #[iZ u,aK I 0,aK J 0] w fun e d=>kr Q s w S bw bl bi ab M i (nx M i (u-(M.jc:Int))) e d;rw[<-o];generalize nx M i G=X at *
 generalize M.jc=z at *
 have h5:IntKind.i64.wrap (u-(z:Int))=G:=by rw[qB];omega
 have h4:=aG o;clear hS hA L E R T K C D a iD U h r o h0;unfold eX at P;unfold nO at c;go_enter func248,ntmps248;go_wp2_with fail;rw[<-c];clear c;go_region_with (first|(go_at_call 249;refine bK (HF.out _) ?_;rintro y' F;obtain⟨z1,H⟩:=HX.out _ F)|(go_at_fn n;refine(P.out _ F).mono ?_;rintro e y ⟨g,H,N,O,b,rfl,m,HE⟩;obtain⟨y0,y1,y2,y3,y4,y5,y6,y7,y8,y9,yf⟩:=bF m;have wu:=aG m;clear m));all_goals
  clear P;go_wp2_with fail;go_simp;rw[gX];have kW:=gD wu.out (iZ g.aD) (iZ g.aF) (uZ g.aC) (uZ g.aO) (uZ g.aN) (.bool g.bL) (uZ g.id) (uZ g.aJ) (.string g.data) (.slice H N O);have qm:=gF y w.heap.size (iZ g.aD) (iZ g.aF) (uZ g.aC) (uZ g.aO) (uZ g.aN) (.bool g.bL) (uZ g.id) (uZ g.aJ) (.string g.data) (.slice H N O);generalize kC y w.heap.size (iZ g.aD) (iZ g.aF) (uZ g.aC) (uZ g.aO) (uZ g.aN) (.bool g.bL) (uZ g.id) (uZ g.aJ) (.string g.data) (.slice H N O)=B at *
  obtain⟨a0,a1,a2,a3,a4,a5,a6,a7,a8,a9,_⟩:=bF kW;exact VH (v:=.tuple #[eX g (.slice H N O),.bool b]) (by simp[results,results248,go_sem,a0,a1,a2,a3,a4,a5,a6,a7,a8,a9,eX]) rfl (HE.out B qm)
end

end
theorem WV(m c)(Z:1<=m)(U:m+1<=c)(_hc:c<=9223372036854775807)(_hbig:m<=1000000)(h:aS w b 65 l)(S:c*10<=l.length)(C:∀v∈l,v.oneCell'=true):Calls prog 320 #[(dB b (m+1) c),iZ 0,iZ 1] w fun e K=>
   ∃x,e=.returned (dB b m c)/\aS K b 65 x/\x.length=l.length/\x.take (m*10)=(l.take ((m+1)*10)).drop 10/\(∀v∈x,v.oneCell'=true)/\nP b w K:=by
 have F:((l.take ((m+1)*10)).drop 10).length=m*10:=dZ;have p:∀v∈(l.take ((m+1)*10)).drop 10,v.oneCell'=true:=fun v V=>C v (tF (yZ V));have f:∀j v,((l.take ((m+1)*10)).drop 10)[j]?=some v->l[10+j]?=some v:=fun j v I=>by grind
 have E:(loadCellsFrom (aA b 10) 0 (m*10) #[]).run prog w.drew=.ok ((l.take ((m+1)*10)).drop 10).toArray w.drew:=by have R:=run_firstCells_some (P:=prog) w.drew 10 m (aA b 10) m (c-1) ((l.take ((m+1)*10)).drop 10) aj (fun j v I=>by rw[gT];exact(aS.cell h (10+j)).trans (f j v I));simpa[Builtin.firstCells,loadCells]using R
 have u:=
  gU (P:=prog) (w:=w.drew) (o:=0) h _ aj p
 have q:(bC l 0 ((l.take ((m+1)*10)).drop 10)).length=l.length:=cu _ _ _ aj;have d:(bC l 0 ((l.take ((m+1)*10)).drop 10)).take (m*10)=(l.take ((m+1)*10)).drop 10:=by grind [jd]
 have g:∀v∈bC l 0 ((l.take ((m+1)*10)).drop 10),v.oneCell'=true:=dS C p;have a:aS (put w.drew b (bC l 0 ((l.take ((m+1)*10)).drop 10))) b 65 (bC l 0 ((l.take ((m+1)*10)).drop 10)):=aS.put (w:=w.drew) h _;generalize bC l 0 ((l.take ((m+1)*10)).drop 10)=t at u q d g a;generalize (l.take ((m+1)*10)).drop 10=X at d E u ⊢;have D:=fun W M=>iE (P:=prog) (o:=m*10) (n:=1) (c:=M) 54 65 W _ sU.ht (fun w=>bZ) a aj (by rw[sU.hz];omega) (sU.h1 _);have s:(bC t (m*10) (eB m_.cells 1).toList).take (m*10)=X:=by rw[iF _ _ _ _ (by rw[sU.hz];omega) (aI _),d]
 have r:(bC t (m*10) (eB m_.cells 1).toList).length=l.length:=by rw[cu _ _ _ (by rw[sU.hz];omega),q]
 have i:∀v∈bC t (m*10) (eB m_.cells 1).toList,v.oneCell'=true:=dS g (sU.h1 _);generalize bC t (m*10) (eB m_.cells 1).toList=G at D s r i;have B:Hid _:=s;have y:Hid _:=i;have A:Hid _:=r;have z:Hid (aS (put w.drew b t) b 65 t):=a;have L:Hid (nP b w (put (put w.drew b t) b G)):=⟨rfl,rfl,rfl,by simp[put],fun k J=>by rw[iI _ _ _ _ J,iI _ _ _ _ J];rfl⟩;clear d s i r g q a p f F C S h;have T:m<=c:=aj;have N:(1:Int)<=(m:Int)+1:=aj;have O:(m:Int)+1<=(c:Int):=aj;have Q:¬(c=m):=aj;have H:¬(c=1):=aj;have Y:m+1-m=1:=aj;go_enter func320,ntmps320;go_wp2;go_region
 go_wp2;go_ret;exact⟨G,rfl,aS.put z.out G,A.out,B.out,y.out,L.out⟩
theorem ZI(c)(y:1<=c)(h:aS w b 65 l)(x:c*10<=l.length)(j:∀v∈l,v.oneCell'=true):Calls prog 320 #[dB b 1 c,iZ 0,iZ 1] w fun e m=>
   ∃i,e=.returned (dB b 0 c)/\aS m b 65 i/\i.length=l.length/\(∀v∈i,v.oneCell'=true)/\nP b w m:=by
 have g:=fun z q=>iE (P:=prog) (o:=0) (n:=1) (c:=q) 54 65 z _ sU.ht (fun w=>bZ) (aS.drew h) aj (by rw[sU.hz];omega) (sU.h1 _);have d:(bC l 0 (eB m_.cells 1).toList).length=l.length:=cu _ _ _ (by rw[sU.hz];omega);have a:∀v∈bC l 0 (eB m_.cells 1).toList,v.oneCell'=true:=dS j (sU.h1 _);generalize bC l 0 (eB m_.cells 1).toList=f at g d a;have p:Hid (aS (put w.drew b f) b 65 f/\f.length=l.length/\(∀v∈f,v.oneCell'=true)/\nP b w (put w.drew b f)):=⟨aS.put (w:=w.drew) h f,d,a,rfl,rfl,rfl,by simp[put],fun k u=>by rw[iI _ _ _ _ u];rfl⟩;clear d a h j x;have s:(1:Int)<=(c:Int):=aj;have r:¬(c=0):=aj;by_cases t:c=1;all_goals
  go_enter func320,ntmps320;go_wp2;go_region
  go_wp2;go_ret;exact⟨f,St.t_ rfl (by grind),p.out⟩
section
def gq.que{aX w' l' M f}(h:gq oZ s w S l M bw bl bi f)(K:Kp [s,s+53] oZ aX w w')(a:ni l l' 233 2)(v q)(d:Nat)(k:aS w' S TS l')(g:l'[233]?=some v)(i:l'[234]?=some (uZ d))(m:GT aX (s+53) 65 10 w' v q.length (mP q)):gq aX s w' S l' {M with aQ:=q,qv:=v,least:=d} bw bl bi f:=by
 have e:∀j,j<233\/235<=j->l'[j]?=l[j]?:=fun j b=>a.2 j aj;have c:=h.cells;refine⟨by rw[K.ext S h.cK.lt,h.ow],h.s0,k,⟨a.1.trans c.len,(e _ aj).trans c.c0,(e _ aj).trans c.c1,(e _ aj).trans c.c2,(e _ aj).trans c.c3,(e _ aj).trans c.uq,c.gr.iB a aj,(e _ aj).trans c.vW,(e _ aj).trans c.vX,(e _ aj).trans c.rZ,(e _ aj).trans c.qo,(e _ aj).trans c.qI,(e _ aj).trans c.rA,(e _ aj).trans c.uW,(e _ aj).trans c.qp,g,i,(e _ aj).trans c.r_,(e _ aj).trans c.uw,(e _ aj).trans c.uX,(e _ aj).trans c.rC,(e _ aj).trans c.xB⟩,fun j b=>?_,fun j b=>?_,h.row.kp K aR,h.Ar.kp K aR aR,h.bV.kp K aR aR,⟨m,h.qu.m.kp K aR,by rw[K.ext bi h.qu.t.lt,h.qu.o],h.qu.t.kept (K.cK bi h.qu.t.lt (by rw[h.qu.o];simp))⟩,h.lo,h.li⟩;.exact(h.out j b).kp K dZ dZ dZ a aj
 .exact(h.bH j b).kp K dZ dZ a aj
theorem WW(n c f t)(y:n=t.length)(q:aS w g 65 cs)(b:c*10<=cs.length)(h:n+1<=c)(i:c<=9223372036854775807)(x:n<=1000000)(z:cs.take ((n+1)*10)=f_ f nZ++mP t)(p:∀v∈cs,v.oneCell'=true):bN 320 #[(dB g (n+1) c),iZ 0,iZ 1] w (dB g n c) fun d=>Hid (∃a,aS d g 65 a/\a.length=cs.length/\a.take (n*10)=mP t/\(∀v∈a,v.oneCell'=true)/\nP g w d):=by
 have u:(f_ f nZ).length=10:=rfl;by_cases r:1<=n;.refine(WV n c r h i x q b p).mono ?_;rintro e d ⟨j,rfl,k,l,A,m,o⟩;refine⟨rfl,j,k,l,?_,m,o⟩;grind
 .obtain rfl:n=0:=aj;refine(ZI c aj q b p).mono ?_;rintro e d ⟨j,rfl,k,l,m,o⟩;refine⟨rfl,j,k,l,?_,m,o⟩;rw[EX.1 y.symm];rfl
section
variable {oZ:Own} {s:Nat} {w0:Wq} {S bw bl bi ab:Nat}
theorem Gz:vK oZ s w0 S bw bl bi ab 269 #[aK S 233] #[] (fun M _=>decide (0<M.aQ.length)) fun M B F=>if F<M.jc then none else M.aQ.head?.map fun f=>(f,{M with aQ:=M.aQ.tail,qv:=qtl M.qv},B):=by
 intro m w M B F K hE hW L I;obtain⟨l,vc,C,hA⟩:=hE;obtain⟨f,t,N⟩:∃f t,M.aQ=f::t:=by
  cases hq:M.aQ with
  |nil=>simp only[hq]at L;cases L
  |cons f t=>exact⟨f,t,rfl⟩
 have e0:M.jc=(bf f).length:=by unfold av.jc;rw[N]
 obtain⟨g,c,D,hv,og,q,hc,ho,U,ht,h1⟩:=C.qje N;have h2:=C.s0;have X:=hW.ql;rw[N,pI]at X;obtain⟨W,r⟩:=bU (w.alloc (.cells nO.toArray 65));have u:bJ w W:=by rw[r];exact(bP _ w).alloc (aI _) _
 have R:aS W w.heap.size 65 nO:=by grind [aS.new]
 have iD:w.heap.size<W.heap.size:=by rw[r];simp
 have i:=C.loc u;have hA1:=(hA.kp (xH m w) aR aR).kp (Kp.below (T:=[]) u) aR aR;have h3:(loc m w.heap.size) g=s+53:=by rw[jW _ _ _ q.lt];exact og
 have hg:(loc m w.heap.size) S=s:=by rw[jW _ _ _ C.cK.lt];exact C.ow
 have HF:Hid (bN 249 #[aK S 233] W (iZ ((bf f).length:Int)) fun P=>bJ W P):=by have:=Gx i hW.q;rw[e0]at this;exact this
 have V:g≠S:=fun e=>by grind
 obtain⟨n,H⟩:=bU t.length;obtain⟨z,hz⟩:=bU ((bf f).length);have hr:∀x,(if F<(M.jc:Int)then none else M.aQ.head?.map fun f=>(f,{M with aQ:=M.aQ.tail,qv:=qtl M.qv},B))=x↔(if F<(z:Int)then none else some (f,({M with aQ:=t,qv:=(dB g n c)}:av),B))=x:=fun x=>by rw[e0,N,hv,hz,H];rfl
 have h0:=(hr _).2 rfl;show Calls prog 269 #[aK S 233,iZ F] w fun e P=>kr m s w S bw bl bi ab M B (if F<(M.jc:Int)then none else M.aQ.head?.map fun f=>(f,{M with aQ:=M.aQ.tail,qv:=qtl M.qv},B)) e P;rw[h0];clear hr h0;have h5:Hid (∀y p,bJ W y->nP w.heap.size y p->kr m s w S bw bl bi ab M B none (.returned (.tuple #[eX jv nZ,.bool false])) p):=fun y p b J=>by exact kr.wrap (x:=jw) (iA:=loc m w.heap.size) h2 u iD rfl (Kp.below b) ⟨l,vc,i.below b,hA1.kp (Kp.below (T:=[]) b) aR aR⟩ (fun z hz=>by cases hz) J
 have HC:Hid (∀y,bJ W y->y.cell? (aA S 233)=some (dB g (n+1) c)/\y.frozen? (aA S 233)=false/\aS y w.heap.size 65 nO/\aS y g 65 D):=fun y b=>by have b1:=fD b i.cK;refine⟨by rw[b1.cell,C.cells.jP,hv,H],b1.frozen _,fD b R,fD b (fD u q)⟩
 have HD:Hid (∀y,aS y g 65 D->bN 320 #[(dB g (n+1) c),iZ 0,iZ 1] y (dB g n c) fun P=>Hid (∃a,aS P g 65 a/\a.length=D.length/\a.take (n*10)=mP t/\(∀v∈a,v.oneCell'=true)/\nP g y P)):=fun y b=>WW n c f t H b hc aj U aj (by grind) h1;have h6:Hid (∀y d p,bJ W y->(∃a,aS d g 65 a/\a.length=D.length/\a.take (n*10)=mP t/\(∀v∈a,v.oneCell'=true)/\nP g y d)->nP w.heap.size (d.setCell (aA S 233) (dB g n c)) p->kr m s w S bw bl bi ab M B (some (f,({M with aQ:=t,qv:=(dB g n c)}:av),B)) (.returned (.tuple #[eX f nZ,.bool true])) p):=fun y d p b hX J=>by
  obtain⟨a,q1,q2,q3,q4,O⟩:=hX;have o:=i.below b;have K1:Kp [s,s+53] (loc m w.heap.size) (loc m w.heap.size) y d:=(O.kpt (T:=[s,s+53]) (by grind));have h8:=o.cK.of_heap (O.block S (fun e=>V e.symm));have K2:Kp [s,s+53] (loc m w.heap.size) (loc m w.heap.size) d (d.setCell (aA S 233) (dB g n c)):=Kp.set _ d _ _ _ (by grind);have he:=o.cells.len;have ha:=o.que (K1.trans K2) (l':=l.set 233 (dB g n c)) (ni.set l 233 _ 233 2 aj aj) (dB g n c) t M.least (h8.setCell 233 _) (Nr aj) (by rw[Ay aj];exact o.cells.sW)
   (.inr ⟨g,c,a,by rw[H],h3,bW (T:=[s]) q1 (Kp.set _ d _ _ _ (by show(loc m w.heap.size) S∈_;grind)) (by grind),aj,aj,U,by grind,by grind,q4⟩)
  refine kr.wrap (x:=(f,none,0,0)) (iA:=loc m w.heap.size) h2 u iD rfl ((Kp.below b).trans ((K1.trans K2).mono fun x hx=>xG.2 (by grind))) ⟨_,vc,ha,(hA1.kp (Kp.below (T:=[]) b) aR aR).kp (K1.trans K2) aR aR⟩ (fun y' A=>?_) J;cases A;exact⟨rfl,WR.none _ _ _ f (hW.q f (by rw[N];simp)).rs⟩
 have k:=fun y (b:aS y g 65 D) j hj=>ZG (n:=n+1) b (by rw[H];exact ht) j hj;have HK:Hid (∀y,aS y g 65 D->y.cell? (aA g 0)=some (iZ f.aD)/\y.cell? (aA g 1)=some (iZ f.aF)/\y.cell? (aA g 2)=some (uZ f.aC)/\y.cell? (aA g 3)=some (uZ f.aO)/\y.cell? (aA g 4)=some (uZ f.aN)/\y.cell? (aA g 5)=some (.bool f.bL)/\y.cell? (aA g 6)=some (uZ f.id)/\y.cell? (aA g 7)=some (uZ f.aJ)/\y.cell? (aA g 8)=some (.string f.data)/\y.cell? (aA g 9)=some nZ):=fun y b=>⟨k y b 0 aj,k y b 1 aj,k y b 2 aj,k y b 3 aj,k y b 4 aj,k y b 5 aj,k y b 6 aj,k y b 7 aj,k y b 8 aj,k y b 9 aj⟩;have vZ:=i.cK.lt;have he:=i.cells.len;have HL:Hid (∀y,bJ W y->aS (y.alloc (.cells #[iZ f.aD,iZ f.aF,uZ f.aC,uZ f.aO,uZ f.aN,.bool f.bL,uZ f.id,uZ f.aJ,.string f.data,nZ] 65)) g 65 D/\bJ W (y.alloc (.cells #[iZ f.aD,iZ f.aF,uZ f.aC,uZ f.aO,uZ f.aN,.bool f.bL,uZ f.id,uZ f.aJ,.string f.data,nZ] 65))/\∀d,(∃a,aS d g 65 a/\a.length=D.length/\a.take (n*10)=mP t/\(∀v∈a,v.oneCell'=true)/\nP g (y.alloc (.cells #[iZ f.aD,iZ f.aF,uZ f.aC,uZ f.aO,uZ f.aN,.bool f.bL,uZ f.id,uZ f.aJ,.string f.data,nZ] 65)) d)->d.cell? (aA S 233)=some (dB g (n+1) c)/\d.frozen? (aA S 233)=false/\aS (d.setCell (aA S 233) (dB g n c)) y.heap.size 65 (f_ f nZ)/\aS (d.setCell (aA S 233) (dB g n c)) w.heap.size 65 nO):=fun y b=>by
  obtain⟨_,_,r1,r2⟩:=HC.out y b;have hw:=r2.lt;have mg:=r1.lt;have h9:aS (y.alloc (.cells #[iZ f.aD,iZ f.aF,uZ f.aC,uZ f.aO,uZ f.aN,.bool f.bL,uZ f.id,uZ f.aJ,.string f.data,nZ] 65)) y.heap.size 65 (f_ f nZ):=aS.new y 65 (f_ f nZ);have G:bJ W (y.alloc (.cells #[iZ f.aD,iZ f.aF,uZ f.aC,uZ f.aO,uZ f.aN,.bool f.bL,uZ f.id,uZ f.aJ,.string f.data,nZ] 65)):=b.alloc b.size _;generalize y.alloc (.cells #[iZ f.aD,iZ f.aF,uZ f.aC,uZ f.aO,uZ f.aN,.bool f.bL,uZ f.id,uZ f.aJ,.string f.data,nZ] 65)=E at *
  obtain⟨p1,p2,p3,p4⟩:=HC.out E G;refine⟨p4,G,fun d hX=>?_⟩;obtain⟨a,_,_,_,_,O⟩:=hX;have bS:=(fD G i.cK).of_heap (O.block S (fun e=>V e.symm));have hf:y.heap.size≠S:=fun e=>fT b.size;have Z:w.heap.size≠S:=fun e=>fT C.cK.lt;exact⟨by rw[bS.cell,C.cells.jP,hv,H],bS.frozen _,(h9.of_heap (O.block _ aj)).kH _ _ hf,(p3.of_heap (O.block _ (fun e=>fT q.lt))).kH _ _ Z⟩
 rw[<-hz]at HF;have hu:=q.lt;clear k C hA hW L K i hA1 R hv ht h1 N e0 hz og h3 hg H q I;have h4:Hid (∀y,bJ W y->aS y w.heap.size 65 [iZ 0,iZ 0,uZ 0,uZ 0,uZ 0,.bool false,uZ 0,uZ 0,.string ⟨#[]⟩,nZ]):=fun y b=>(HC.out y b).2.2.1;unfold nO at r;by_cases Y:F<(z:Int)
 .rw[dN Y];go_enter func269,ntmps269;go_wp2_with fail;rw[<-r];go_wp2_with (go_at_call 249;refine bK HF.out ?_;rintro y A;have Q:=aG A;have wu:=aG (h4.out y A);obtain⟨y0,y1,y2,d,y4,y5,y6,y7,y8,y9,yf⟩:=bF wu.out;clear A);rw[gX];have kW:=gD wu.out (iZ 0) (iZ 0) (uZ 0) (uZ 0) (uZ 0) (.bool false) (uZ 0) (uZ 0) (.string ⟨#[]⟩) nZ;have qm:=gF y w.heap.size (iZ 0) (iZ 0) (uZ 0) (uZ 0) (uZ 0) (.bool false) (uZ 0) (uZ 0) (.string ⟨#[]⟩) nZ;generalize kC y w.heap.size (iZ 0) (iZ 0) (uZ 0) (uZ 0) (uZ 0) (.bool false) (uZ 0) (uZ 0) (.string ⟨#[]⟩) nZ=p at *
  obtain⟨a0,a1,a2,a3,a4,a5,a6,a7,a8,a9,_⟩:=bF kW;exact VH (v:=.tuple #[eX jv nZ,.bool false]) (by simp[results,results269,go_sem,a0,a1,a2,a3,a4,a5,a6,a7,a8,a9,eX,jv]) rfl (h5.out y p Q.out qm)
 .rw[b_ Y];generalize ({M with aQ:=t,qv:=(dB g n c)}:av)=M2 at *
  go_enter func269,ntmps269;go_wp2_with fail;rw[<-r];go_wp2_with (first|(go_at_call 249;refine bK HF.out ?_;rintro y A;have Q:=aG A;obtain⟨x1,x2,x3,x4⟩:=HC.out y A;obtain⟨k0,k1,k2,k3,k4,k5,k6,k7,k8,k9⟩:=HK.out y x4;have o:=gK vZ A.size;have hk:=Nat.ne_of_lt o;clear A x3 x4)|(go_at_call 320;refine bK (HD.out _ (HL.out y Q.out).1) ?_;rintro d HX;obtain⟨m1,m2,m3,m4⟩:=(HL.out y Q.out).2.2 d HX.out;obtain⟨j0,j1,j2,j3,j4,j5,j6,j7,j8,j9,jf⟩:=bF m3;have h7:=aG m4;obtain⟨i0,i1,i2,i3,i4,i5,i6,i7,i8,i9,x0⟩:=bF m4;clear m3 m4));rw[gX];have kW:=gD h7.out (iZ f.aD) (iZ f.aF) (uZ f.aC) (uZ f.aO) (uZ f.aN) (.bool f.bL) (uZ f.id) (uZ f.aJ) (.string f.data) nZ;have qm:=gF (d.setCell (aA S 233) (dB g n c)) w.heap.size (iZ f.aD) (iZ f.aF) (uZ f.aC) (uZ f.aO) (uZ f.aN) (.bool f.bL) (uZ f.id) (uZ f.aJ) (.string f.data) nZ;generalize kC (d.setCell (aA S 233) (dB g n c)) w.heap.size (iZ f.aD) (iZ f.aF) (uZ f.aC) (uZ f.aO) (uZ f.aN) (.bool f.bL) (uZ f.id) (uZ f.aJ) (.string f.data) nZ=p at *
  obtain⟨a0,a1,a2,a3,a4,a5,a6,a7,a8,a9,_⟩:=bF kW;exact VH (v:=.tuple #[eX f nZ,.bool true]) (by simp[results,results269,go_sem,a0,a1,a2,a3,a4,a5,a6,a7,a8,a9,eX]) rfl (h6.out _ d p (HL.out y Q.out).2.1 HX.out qm)
end

end
end Go.Proofs.YtphbledmopchnaaGreatDoor.Sd
namespace Go.Proofs.YtphbledmopchnaaGreatDoor.Sd
open St Tryz
variable {n:Nat}
theorem GK(m n)(h:m<=n):(Num.aB m).length<=(Num.aB n).length:=by grind [Num.jr,Nat.pow_le_pow_right,Num.code]
theorem xK(f)(h:f.aD=4):(bf f).length=1+(Num.aB f.aF.toNat).length+(Num.aB f.aC).length+(Num.aB f.data.size).length+f.data.size:=by
 have e:dV f.aD=[(1,0),(2,0),(3,279),(4,0)]:=by rw[h];rfl
 unfold bf;rw[e];have:f.data.data.toList.length=f.data.size:=rfl;simp only[List.map,pI,vD,fK,Dw,E9,fu,fieldAt,lM,pJ];simp;omega
theorem R8{k c g b d}(h:pK (qH k c) b d=some g):((bf g).length:Int)<=d:=by
 unfold pK at h;split at h;.cases h
 .rename_i q;have a:=(lF h).symm;have f:=xK (qH k c) rfl;have i:(qH k c).data.size=0:=rfl;have j:(Num.aB 0).length=1:=rfl;rw[i,j]at f;obtain⟨r,e⟩:=bU ((d-((bf (qH k c)).length:Int)).toNat);simp only[<-e]at a;obtain⟨m,n⟩:=bU (min (min b.length r) (r-((Num.aB (min b.length r)).length-1)));rw[<-n]at a;have o:g.data.size=m:=by
   rw[a];show(List.take m b).toArray.size=m;grind
  have l:=xK g (by rw[a];rfl);rw[o,show g.aF=(qH k c).aF by rw[a],show g.aC=(qH k c).aC by rw[a]]at l;have p:=GK m (min b.length r) aj;grind
theorem ZT(g x)(h:g.aD=4):(bf {g with bL:=x}).length=(bf g).length:=by grind [xK]
def Dn:bY->Prop
 |[]=>True
 |r::t=>r.1<=r.2/\r.2<=dH/\(∀x∈t,x.2+1<r.1)/\Dn t
def Dn.take:∀{l} (n),Dn l->Dn (l.take n)
 |[],n,h=>by simpa using h
 |_::_,0,_=>trivial
 |r::t,n+1,h=>⟨h.1,h.2.1,fun x a=>h.2.2.1 x (tF a),Dn.take n h.2.2.2⟩
def Dn.drop:∀{l} (n),Dn l->Dn (l.drop n)
 |[],n,h=>by simpa using h
 |_::_,0,h=>h
 |_::t,n+1,h=>Dn.drop (l:=t) n h.2.2.2
theorem Dn.app:∀{l} (r),Dn l->r.1<=r.2->r.2<=dH->(∀x∈l,r.2+1<x.1)->Dn (l++[r])
 |[],r,_,h1,h2,_=>⟨h1,h2,fun x b=>by simp at b,trivial⟩
 |a::t,r,h,h1,h2,h3=>⟨h.1,h.2.1,fun x b=>by
   rcases iJ.1 b with b|b;.exact h.2.2.1 x b
   grind,Dn.app r h.2.2.2 h1 h2 fun x b=>h3 x (by simp[b])⟩
def Dn.rev:∀{l},Rg.gP l->(∀r∈l,r.2<=dH)->Dn l.reverse
 |[],_,_=>trivial
 |r::t,h,hb=>by rw[mK];exact Dn.app r (Dn.rev h.2.2 fun x a=>hb x (by simp[a])) h.1 (hb r aR) fun x a=>h.2.1 x (KY.1 a)
theorem Dn.at:∀{l},Dn l->∀i,i<l.length->vP l i=true
 |[],_,_,h=>by simp at h
 |r::t,h,0,_=>by grind [vP,Dn]
 |r::t,h,i+1,hi=>by have a:=Dn.at h.2.2.2 i (by grind);unfold vP at a ⊢;simp only[iY,decide_eq_true_eq,Bool.or_eq_true,Dw,KO]at a ⊢;grind [Dn,fB,List.getElem_mem]
theorem Dn.snd{l}(h:Dn l)(b:l≠[]):tN l=true:=by unfold tN;rw[iY];refine⟨wM.2 fun i a=>h.at i (List.mem_range.1 a),decide_eq_true ?_⟩;grind
theorem GL(a b):∀n,gV a b n≠0->((bf (iT (a.take (gV a b n)))).length:Int)<=b
 |0,h=>absurd rfl h
 |n+1,h=>by
  by_cases c:((bf (iT (a.take (n+1)))).length:Int)<=b;.grind [gV]
  .have e:gV a b (n+1)=gV a b n:=by rw[gV,b_ c]
   rw[e]at h ⊢;exact GL a b n h
theorem GN(f)(a:1<=f.aD/\f.aD<=8)(b:f.aC<=dH/\f.aO<=dH/\f.aN<=dH/\f.id<=dH/\f.aJ<=dH)(c:0<=f.aF/\f.aF<8)(d:oI f=true):snd f=true:=by grind [snd,rY,decide_eq_true]
def ZU(aD k x)(c:aD=5\/aD=6)(d:k<8)(b:x<=dH):snd (lV aD k x)=true:=by
 have z:0<=dH:=eG _;have a:0<=(k:Int)/\(k:Int)<8:=aj;rcases c with rfl|rfl;.exact GN _ (by show(1:Int)<=5/\(5:Int)<=8;decide) ⟨z,z,b,z,z⟩ a rfl
 .exact GN _ (by show(1:Int)<=6/\(6:Int)<=8;decide) ⟨z,z,b,z,z⟩ a rfl
def QD.snd{f:Fr}(h:QD f):snd f=true:=by rw[h.e];exact GN _ (by show(1:Int)<=7/\(7:Int)<=8;decide) ⟨eG _,eG _,eG _,h.i,h.d⟩ (by show(0:Int)<=0/\(0:Int)<8;decide) rfl
theorem Aa{A A'}(t:fG A)(b k u l f)(K:u<48)(o:Dn b)(d:A.aL b u=true)(h:A.frame b u l=some (f,A',k)):((bf f).length:Int)<=l/\snd f=true/\Dn k/\(f.aD=2↔u=0)/\(f.aD=2\/f.aD=4\/f.aD=5\/f.aD=6\/f.aD=3\/f.aD=7):=by
 unfold av.frame at h;unfold av.aL at d;by_cases u0:u=0
 .rw[dN u0]at h;split at h;.cases h
  .rename_i r;have e:=lF h;have i:iT (b.take (gV b l b.length))=f:=congrArg eT e;have j:b.drop (gV b l b.length)=k:=congrArg (fun x=>x.2.2) e;subst i j;refine⟨GL b l _ r,?_,o.drop _,⟨fun _=>u0,fun _=>rfl⟩,.inl rfl⟩;have v:b.take (gV b l b.length)≠[]:=by grind [List.take_eq_nil_iff]
   have:=(o.take (gV b l b.length)).snd v;grind [snd,rY,oI,iT]
 .rw[b_ u0]at h d;simp only[iY]at d;replace d:=d.2;by_cases u8:u=8
  .rw[dN u8]at h;obtain⟨⟨f1,C⟩,a,e⟩:=jE.1 h;have i:f1=f:=congrArg eT e;have j:b=k:=congrArg (fun x=>x.2.2) e;subst i j;unfold Gn.next at a;split at a;.cases a
   .rename_i p;have c:lV 5 0 (A.gr.jI A.aP)=f1:=congrArg eT (lF a);rw[c]at p;refine⟨aj,?_,o,⟨fun x=>?_,fun x=>absurd x u0⟩,.inr (.inr (.inl (by rw[<-c];rfl)))⟩;.rw[<-c];exact ZU 5 0 _ (.inl rfl) kX (Dy _ _)
    .rw[<-c]at x;cases x
  .rw[b_ u8]at h d;by_cases u24:u<24
   .rw[dN u24]at h;obtain⟨⟨f1,C⟩,a,e⟩:=jE.1 h;have i:f1=f:=congrArg eT e;have j:b=k:=congrArg (fun x=>x.2.2) e;subst i j;unfold Gn.next at a;split at a;.cases a
    .rename_i p;have c:lV 6 (u-16) ((A.bH (u-16)).gr.jI (A.bH (u-16)).aP)=f1:=congrArg eT (lF a);rw[c]at p;refine⟨aj,?_,o,⟨fun x=>?_,fun x=>absurd x u0⟩,.inr (.inr (.inr (.inl (by rw[<-c];rfl))))⟩;.rw[<-c];exact ZU 6 _ _ (.inr rfl) aj (Dy _ _)
     .rw[<-c]at x;cases x
   .rw[b_ u24]at h d;by_cases u32:u<32
    .rw[dN u32]at h d;obtain⟨⟨f1,B⟩,a,e⟩:=jE.1 h;have i:f1=f:=congrArg eT e;have j:b=k:=congrArg (fun x=>x.2.2) e;subst i j;unfold Nt.aL at d;simp only[iY]at d;have w:=t.wr (u-24);have N:=w.sz;obtain⟨_,D,I⟩:=w.gv d.1;unfold Nt.next at a;split at a;.cases a
     .rename_i p;have c:ou (u-24) (A.out (u-24)).nt.aC (A.out (u-24)).aB.length=f1:=congrArg eT (lF a);have J:2048<=dH:=kX;rw[c]at p;refine⟨aj,?_,o,⟨fun x=>?_,fun x=>absurd x u0⟩,.inr (.inr (.inr (.inr (.inl (by rw[<-c];rfl)))))⟩;.rw[<-c];exact GN _ (by show(1:Int)<=3/\(3:Int)<=8;decide) ⟨by show(A.out (u-24)).nt.aC<=dH;omega,by show(A.out (u-24)).aB.length<=dH;omega,eG _,eG _,eG _⟩ (by show 0<=((u-24:Nat):Int)/\((u-24:Nat):Int)<8;omega) (decide_eq_true D)
      .rw[<-c]at x;cases x
    .rw[b_ u32]at h d;by_cases s:u=32
     .rw[dN s]at h d;split at h;.cases h
      .rename_i p;obtain⟨g,m,e⟩:=jE.1 h;have i:g=f:=congrArg eT e;have j:b=k:=congrArg (fun x=>x.2.2) e;subst i j;have q:=t.q g (List.mem_of_mem_head? m);have y:A.jc=(bf g).length:=by grind [av.jc]
       rw[y]at p;refine⟨aj,q.snd,o,⟨fun x=>?_,fun x=>absurd x u0⟩,.inr (.inr (.inr (.inr (.inr q.kd))))⟩;rw[q.kd]at x;cases x
     .rw[b_ s]at h d;obtain⟨⟨f1,M⟩,a,e⟩:=jE.1 h;have i:f1=f:=congrArg eT e;have j:b=k:=congrArg (fun x=>x.2.2) e;subst i j;obtain⟨B,L,F,_⟩:=yg (t.wr _) d a;have E:=(yg (t.wr _) d a).2.2.2.1.sz;refine⟨?_,?_,o,⟨fun x=>?_,fun x=>absurd x u0⟩,.inr (.inl B)⟩
      .unfold Ot.next at a;simp only at a;split at a;.cases a
       .rename_i g m;split at a;.cases a
        .have c:=congrArg eT (lF a);simp only at c;rw[<-c,ZT _ _ (by grind)];exact R8 m
      .obtain⟨g,m,y⟩:∃g:Fr,f1=g/\g.aO=0/\g.aN=0/\g.id=0/\g.aJ=0:=by
        unfold Ot.next at a;simp only at a;split at a;.cases a
        .rename_i g m;split at a;.cases a
         .have c:=congrArg eT (lF a);simp only at c;obtain⟨n,_,r⟩:=A9 m;exact⟨_,c.symm,by rw[r];rfl,by rw[r];rfl,by rw[r];rfl,by rw[r];rfl⟩
       subst m;have G:=F.b;have H:bI f1=f1.aC+f1.data.size:=rfl;have z:0<=dH:=eG _;grind [dH,GN,oI]
      grind
structure Qt (f:Fr):Prop where
 st:0<=f.aF/\f.aF<8
 dt:f.aD=4->vV f
 lm:f.aN<=dH
 rl:f.aO<=dH
 kd:f.aD=4\/f.aD=5\/f.aD=6\/f.aD=3
structure OtB (o:Ot):Prop where
 b:o.aB.length<=2048
 a:Bh o.eH
 c:Bh o.aT
def R9(g:Gn):Prop:=g.ahead<=4096/\g.eF<=dH/\g.eH<=dH/\g.aT<=dH
structure Dc (i:dP):Prop where
 g:R9 i.gr
 r:i.aY<=2048
 h:i.fq<=2048
 f:i.h_<=2048
 e:i.rel<=dH
 l:i.aY+i.bO.length<=2048
 c:i.aT.length=i.bO.length
 s:i.state<=2
def Dc.ok{i}(h:Dc i):Ux i:=
 ⟨h.g,by have:=h.r;unfold dH;omega,by have:=h.h;unfold dH;omega,by have:=h.f;unfold dH;omega,h.e,fT h.l,h.c,h.s⟩
def PaB(n:Nat)(x:Nat×sS):Prop:=x.1<n/\x.2.bQ.length<=400/\∀f∈x.2.bQ,Qt f
def PaB.mono{m x}(h:PaB n x)(a:n<=m):PaB m x:=⟨gK h.1 a,h.2⟩
structure CmB (c:NS):Prop where
 so:Rg.gP c.rs
 hi:∀r∈c.rs,r.2<=dH
 ln:c.rs.length<=8
 fl:c.fl<=dH+1
def Ib(M:av):Prop:=M.dK<=dH/\M.taken.Nodup/\∀x∈M.taken,x<=M.dK/\M.dK<x+32
structure Bd (M:av):Prop where
 o:∀k,OtB (M.out k)
 i:∀k,Dc (M.bH k)
 g:R9 M.gr
 lm:M.aN<=dH
 mt:64<=M.aZ/\M.aZ<=400
 wy:∀x∈M.aM,PaB M.next x
 ls:∀x∈M.bV,PaB M.next x
 ky:(M.bV++M.aM).Pairwise fun x y=>x.1≠y.1
 wl:M.aM.length<=12
 ll:M.bV.length<=65
 nm:M.named<=M.next
 cm:CmB M.aT
 tk:∀x∈M.aM,x.2.aV<=M.aV
 ib:Ib M
def QD.ok{f}(h:QD f):oz f:=by have:=h.i;have:=h.d;have:=h.s;have b:dH<18446744073709551616:=kX;rw[h.e];exact⟨eG _,by show f.data.size<=_;omega,by show -9223372036854775808<=(7:Int)/\(7:Int)<=_;decide,by show -9223372036854775808<=(0:Int)/\(0:Int)<=_;decide,⟨by show 0<_;decide,by show 0<_;decide,by show 0<_;decide,by show f.id<_;omega,by show f.aJ<_;omega⟩,fun j a=>absurd a (jZ _)⟩
def QD.ln{f}(h:QD f):(bf f).length<=379:=by
 have a:=h.s;have e:dV f.aD=dV 7:=by rw[h.kd]
 have b:=kK f.id;have c:=kK f.aJ;have d:(Num.aB f.data.size).length<=2:=by have:=GK f.data.size 360 a;have:(Num.aB 360).length=2:=kX;omega
 unfold bf;rw[e];have:f.data.data.toList.length=f.data.size:=rfl;simp[dV,fK,fu,fieldAt];omega
def QD.qf{f}(h:QD f):QF f:=⟨h.kd,by rw[h.e];rfl,h.ok,h.snd,by rw[h.e];rfl,fT h.ln⟩
def Bd.q{M}(h:Bd M)(q v l):Bd {M with aQ:=q,qv:=v,least:=l}:=⟨h.o,h.i,h.g,h.lm,h.mt,h.wy,h.ls,h.ky,h.wl,h.ll,h.nm,h.cm,h.tk,h.ib⟩
def Bd.wk{M}(h:Bd M)(a:fG M):Wk M:=
 ⟨fun k=>(h.o k).b,fun k=>(h.o k).a,fun k=>(h.o k).c,fun k e=>⟨((a.wr k).gv e).2.1,dx ((a.wr k).gv e).2.2 (a.wr k).sz⟩,fun k=>(h.i k).ok,h.g.1,a.sp,h.lm,fun f b=>(a.q f b).qf,a.ql,fT h.wl⟩
def Bd.dA{M}(h:Bd M)(k o)(a:OtB o):Bd (M.dA k o):=
 ⟨fun j=>by rw[gL];split;exact a;exact h.o j,h.i,h.g,h.lm,h.mt,h.wy,h.ls,h.ky,h.wl,h.ll,h.nm,h.cm,h.tk,h.ib⟩
def Bd.eZ{M}(h:Bd M)(k i)(a:Dc i):Bd (M.eZ k i):=
 ⟨h.o,fun j=>by rw[fQ];split;exact a;exact h.i j,h.g,h.lm,h.mt,h.wy,h.ls,h.ky,h.wl,h.ll,h.nm,h.cm,h.tk,h.ib⟩
def Bd.uG{M}(h:Bd M)(g)(a:R9 g):Bd {M with gr:=g}:=
 ⟨h.o,h.i,a,h.lm,h.mt,h.wy,h.ls,h.ky,h.wl,h.ll,h.nm,h.cm,h.tk,h.ib⟩
def Bd.qnk{M}(h:Bd M)(x):Bd {M with bn:=x}:=
 ⟨h.o,h.i,h.g,h.lm,h.mt,h.wy,h.ls,h.ky,h.wl,h.ll,h.nm,h.cm,h.tk,h.ib⟩
theorem xL{x f}(h:Bh x)(a:vV f):Bh (vG x f):=by
 have g:=a.o;have i:=a.e;have b:=a.ne;have j:f.aC<=bI f:=by unfold bI;omega
 unfold vG;cases c:f.bL
 .rw[c]at b;have d:=b.resolve_left aR;by_cases k:f.aC<=bI f-1;.exact(h.add _ _ (by grind) dZ).1
  .have e:x.add 2049 f.aC (if false=true then bI f else bI f-1)=x:=by
    unfold NS.add Rg.add;rw[dN dZ]
   grind
 .exact(h.add _ _ (by grind) (by grind)).1
def R9.aw{g}(h:R9 g)(x)(a:x<=dH):R9 (g.aw x):=⟨h.1,h.2.1,uN.2 ⟨h.2.2.1,a⟩,h.2.2.2⟩
def R9.cm{g}(h:R9 g)(x)(a:x<=dH):R9 (g.cm x):=⟨h.1,h.2.1,h.2.2.1,uN.2 ⟨h.2.2.2,a⟩⟩
def R9.kY{g}(h:R9 g):R9 g.kY:=⟨h.1,h.2.1,eG _,h.2.2.2⟩
def Dc.gr'{i}(h:Dc i)(g)(a:R9 g):Dc {i with gr:=g}:=⟨a,h.r,h.h,h.f,h.e,h.l,h.c,h.s⟩
theorem GQ{M}(h:Bd M)(f)(a:Qt f):Bd (M.iU f):=by
 unfold av.iU;split;.rename_i b;exact h.dA _ _ ⟨(h.o _).b,xL (h.o _).a (a.dt b),(h.o _).c⟩
 .split;.exact h.dA _ _ ⟨(h.o _).b,(h.o _).a,(h.o _).c⟩
  .split;.exact h.eZ _ _ ((h.i _).gr' _ ((h.i _).g.aw _ a.lm))
   .exact h.uG _ (h.g.aw _ a.lm)
theorem GR{M}(h:Bd M)(f)(a:Qt f):Bd (M.gJ f):=by
 unfold av.gJ;split;.rename_i b;exact h.dA _ _ ⟨(h.o _).b,xL (h.o _).a (a.dt b),xL (h.o _).c (a.dt b)⟩
 .split;.exact h.dA _ _ ⟨(h.o _).b,(h.o _).a,(h.o _).c⟩
  .split;.exact h.eZ _ _ ((h.i _).gr' _ ((h.i _).g.cm _ a.lm))
   .exact h.uG _ (h.g.cm _ a.lm)
def Mg(g)(a:∀{M},Bd M->∀f,Qt f->Bd (g M f)):∀(l:List Fr) {M},Bd M->(∀f∈l,Qt f)->Bd (l.foldl g M)
 |[],_,h,_=>h
 |f::t,_,h,hl=>Mg g a t (a h f (hl f aR)) fun x b=>hl x (by simp[b])
def av.lY(M:av):av:=
 {M with
  aM:=M.aM.filter fun x=> !M.g_ x
  bV:=(M.bV++M.aM.filter M.g_).filter fun x=> !decide (x.1+64<M.next)
  gr:=M.gr.kY
  outs:=M.outs.map jN
  ins:=M.ins.map iV}
def av.kD(M a:av):Prop:=
 if M.aM.any M.g_ then∃b:List (Nat×sS),b.Perm (M.aM.filter fun x=> !M.g_ x)/\a=(bQ b).foldl av.iU M.lY else a=M
def av.GU(M:av)(l:bY):av:=
 {M with
  named:=max M.named ((l.getD 0 (0,0)).2+1)
  aM:=M.aM.filter fun x=> !names l x.1
  bV:=M.bV.filter fun x=> !names l x.1}
def av.uH(M:av)(l:bY)(c:av):Prop:=
 ∃a b:List (Nat×sS),a.Perm (M.aM.filter fun x=>names l x.1)/\b.Perm (M.bV.filter fun x=>names l x.1)/\c=(bQ a++bQ b).foldl av.gJ (M.GU l)
theorem J9{A B A'}(g:fG A)(d:dL A B)(e:dL B A)(h:A.kD A'):rV A B A':=by
 unfold av.kD at h;split at h;.obtain⟨i,_,rfl⟩:=h;have s:=ZM g d e (A.aM.filter fun x=> !A.g_ x) ((A.bV++A.aM.filter A.g_).filter fun x=> !decide (x.1+64<A.next));exact s.trans (BF av.iU (fun a b c f=>WZ a b c f) _ s.loc s.ab s.ba)
 grind [lW]
def Xb{A B A'}(g:fG A)(d:dL A B)(e:dL B A)(l)(h:A.uH l A'):rV A B A':=by obtain⟨i,j,_,_,rfl⟩:=h;have s:=Mf g d e (A.aM.filter fun x=> !names l x.1) (A.bV.filter fun x=> !names l x.1) A.next (max A.named ((l.getD 0 (0,0)).2+1)) (aI _);exact s.trans (BF av.gJ (fun a b c f=>J6 a b c f) _ s.loc s.ab s.ba)
def u_{l}(h:∀x∈l,PaB n x):∀f∈bQ l,Qt f:=fun f a=>by unfold bQ at a;obtain⟨x,b,a⟩:=sQ.1 a;exact(h x b).2.2 f a
theorem GV:∀(n a) (l:List (Nat×sS)),(l.Pairwise fun x y=>x.1≠y.1)->(∀x∈l,a<=x.1/\x.1<a+n)->l.length<=n
 |0,a,l,_,h=>by
  cases l with
  |nil=>exact aI _
  |cons x t=>have:=h x aR;omega
 |n+1,a,l,hp,h=>by
  have i:=GV n a (l.filter fun x=> !decide (x.1=a+n)) (hp.filter _) fun x f=>by grind
  have j:(l.filter fun x=>decide (x.1=a+n)).length<=1:=by
   have b:=hp.filter (fun x=>decide (x.1=a+n));generalize c:(l.filter fun x=>decide (x.1=a+n))=m at b;match m,c,b with
   |[],_,_=>simp
   |[x],_,_=>simp
   |x::y::t,c,b=>
    have f:x∈(l.filter fun x=>decide (x.1=a+n)):=by rw[c];simp
    have g:y∈(l.filter fun x=>decide (x.1=a+n)):=by rw[c];simp
    have d:=(dY.1 f).2;have e:=(dY.1 g).2;simp at d e;exact absurd (d.trans e.symm) ((QB.1 b).1 y aR)
  have k:l.length=(l.filter fun x=>decide (x.1=a+n)).length+(l.filter fun x=> !decide (x.1=a+n)).length:=by have:=(l9 (fun x:Nat×sS=>decide (x.1=a+n)) l).length_eq;grind
  omega
theorem qnl:OtB vR:=⟨kX,⟨rfl,trivial,fun r a=>by cases a⟩,⟨rfl,trivial,fun r a=>by cases a⟩⟩
theorem Mh(n)(h:n<=4096):Dc (dP.new n):=
 ⟨⟨h,dx h kX,eG _,dx h kX⟩,eG _,eG _,eG _,eG _,eG _,rfl,eG _⟩
theorem GX{M}(h:Bd M):Bd M.lY:=by
 have b:(M.bV++M.aM.filter M.g_++M.aM.filter fun x=> !M.g_ x).Pairwise fun x y=>x.1≠y.1:=by rw[lC];have c:(M.aM.filter M.g_++M.aM.filter fun x=> !M.g_ x).Perm M.aM:=l9 _ _;exact(((List.Perm.refl M.bV).append c).pairwise_iff (fun{_ _} e=>qh e)).2 h.ky
 refine⟨fun k=>?_,fun k=>?_,h.g.kY,h.lm,h.mt,fun x a=>h.wy x (dY.1 a).1,fun x a=>?_,?_,dx (tH _ _) h.wl,?_,h.nm,h.cm,fun x a=>h.tk x (dY.1 a).1,h.ib⟩
 .show OtB ((M.outs.map jN).getD k vR);by_cases b:k<M.outs.length
  .have:(M.outs.map jN).getD k vR=jN (M.out k):=by
    grind [av.out,fB]
   rw[this];exact⟨(h.o k).b,(h.o k).c,(h.o k).c⟩
  grind [jN,vR,mI,qnl]
 .show Dc ((M.ins.map iV).getD k xk);by_cases b:k<M.ins.length
  .have:(M.ins.map iV).getD k xk=iV (M.bH k):=by
    grind [av.bH,fB]
   rw[this];exact(h.i k).gr' _ (h.i k).g.kY
  grind [iV,xk,mI,Mh]
 .rcases iJ.1 (dY.1 a).1 with a|a;.exact h.ls x a
  .exact h.wy x (dY.1 a).1
 .show((nA _ (M.bV++M.aM.filter M.g_))++M.aM.filter fun x=> !M.g_ x).Pairwise _;grind
 .show(nA _ (M.bV++M.aM.filter M.g_)).length<=65;refine GV 65 (M.next-64) _ ((b.sublist (List.sublist_append_left _ _)).filter _) fun x a=>?_;obtain⟨p,q⟩:=dY.1 a;have d:x.1<M.next:=by
   rcases iJ.1 p with p|p;.exact(h.ls x p).1
   .exact(h.wy x (dY.1 p).1).1
  grind
theorem OE{M d}(h:Bd M)(c:M.kD d):Bd d:=by
 unfold av.kD at c;split at c;.obtain⟨i,e,rfl⟩:=c;exact Mg _ (fun a f b=>GQ a f b) _ (GX h) (u_ fun x g=>h.wy x (dY.1 (e.mem_iff.1 g)).1)
 grind
def ZV{M e l}(h:Bd M)(g:(l.getD 0 (0,0)).2<M.next)(k:M.uH l e):Bd e:=by
 obtain⟨m,n,i,j,rfl⟩:=k;refine Mg _ (fun a f b=>GR a f b) _ ?_ (fun f d=>?_);.exact⟨h.o,h.i,h.g,h.lm,h.mt,fun x c=>h.wy x (dY.1 c).1,fun x c=>h.ls x (dY.1 c).1,h.ky.sublist (wP.append wP),dx (tH _ _) h.wl,dx (tH _ _) h.ll,uN.2 ⟨h.nm,g⟩,h.cm,fun x c=>h.tk x (dY.1 c).1,h.ib⟩
 .rcases iJ.1 d with d|d;.exact u_ (fun x c=>h.wy x (dY.1 (i.mem_iff.1 c)).1) f d
  .exact u_ (fun x c=>h.ls x (dY.1 (j.mem_iff.1 c)).1) f d
end Go.Proofs.YtphbledmopchnaaGreatDoor.Sd
namespace Go.Proofs.YtphbledmopchnaaGreatDoor.Sd
open Go.RowKit Go.Lib Mm Go.Maps Tryz
variable {M:av}{S bi bl bw s:Nat}{W y:Wq}{l:bM}{oZ:Own}
theorem qlf(h:Ib M):M.taken.length<=32:=by
 obtain⟨_,a,b⟩:=h;have:=GV 32 (M.dK+1-32) (M.taken.map fun x=>(x,(⟨[],0⟩:sS))) (by
  grind) (fun y c=>by
  grind)
 grind
def gq.inb{aX w w' l' i}(h:gq oZ s w S l M bw bl bi i)(K:Kp [s,s+54,s+55] oZ aX w w')(a:ni l l' 235 2)(v d)(g:Nat)(f)(n:aS w' S TS l')(k:l'[235]?=some v)(m:l'[236]?=some (uZ g))(o:GT aX (s+54) 118 2 w' v d.length (Wn d))(p:zl w' bi f):gq aX s w' S l' {M with gy:=d,iv:=v,dK:=g,taken:=f} bw bl bi i:=by
 have e:∀j,j<235\/237<=j->l'[j]?=l[j]?:=fun j b=>a.2 j aj;have c:=h.cells;refine⟨by rw[K.ext S h.cK.lt,h.ow],h.s0,n,⟨a.1.trans c.len,(e _ aj).trans c.c0,(e _ aj).trans c.c1,(e _ aj).trans c.c2,(e _ aj).trans c.c3,(e _ aj).trans c.uq,c.gr.iB a aj,(e _ aj).trans c.vW,(e _ aj).trans c.vX,(e _ aj).trans c.rZ,(e _ aj).trans c.qo,(e _ aj).trans c.qI,(e _ aj).trans c.rA,(e _ aj).trans c.uW,(e _ aj).trans c.qp,(e _ aj).trans c.jP,(e _ aj).trans c.sW,k,m,(e _ aj).trans c.uX,(e _ aj).trans c.rC,(e _ aj).trans c.xB⟩,fun j b=>?_,fun j b=>?_,h.row.kp K aR,h.Ar.kp K aR aR,h.bV.kp K aR aR,⟨h.qu.q.kp K aR,o,by rw[K.ext bi h.qu.t.lt,h.qu.o],p⟩,h.lo,h.li⟩;.exact(h.out j b).kp K dZ dZ dZ a aj
 .exact(h.bH j b).kp K dZ dZ a aj
theorem U4:∀(l) (m),Wn (l++[m])=Wn l++[uZ m.1,.string m.2]
 |[],m=>rfl
 |a::t,m=>by show[_,_]++Wn (t++[m])=([_,_]++Wn t)++_;rw[U4 t m];simp
def oP(o)(h:bJ W y):bJ W (y.alloc o):=h.alloc h.size o
def qQ(h:bJ W y):bJ W y.drew:=⟨h.os,h.tape,h.output,h.size,h.block⟩
def qqf:LA 115 118 (.agg #[uZ 0,.string ⟨#[]⟩]) 2 24:=⟨bZ,bZ,fun n=>by simp[eB,Value.cells],fun n v a=>by simp[eB,Value.cells]at a;obtain⟨i,_,rfl⟩:=a;have:i % 2=0\/i % 2=1:=aj;rcases this with e|e<;>rw[e]<;>rfl,aj⟩
theorem qgw{vc}(f rv w)(h:gq oZ s w S l M bw bl bi vc)(I:QD f)(H:Ib M)(hm:M.gy.length<=1000000):bN 236 #[aK S 235,eX f rv,uZ M.aV] w (.tuple #[]) fun r=>∃v,je s oZ w S bw bl bi {M.pQ f with iv:=v} r:=by
 obtain⟨sM,F⟩:∃sM:Wq->Prop,sM=fun r=>∃v,je s oZ w S bw bl bi {M.pQ f with iv:=v} r:=⟨_,rfl⟩;suffices hc:bN 236 #[aK S 235,eX f rv,uZ M.aV] w (.tuple #[]) fun r=>sM r by rw[F]at hc;exact hc
 obtain⟨W,k⟩:=bU (w.alloc (.cells (f_ f rv).toArray 65));have c:aS W w.heap.size 65 (f_ f rv):=by grind [aS.new]
 have g:bJ w W:=by rw[k];exact(bP _ w).alloc (aI _) _
 have iD:W.heap.size=w.heap.size+1:=by rw[k];simp
 have o:=h.loc g;have hw:=h.cK.lt;have ha:f.id<18446744073709551616:=by have:=I.i;unfold dH at this;omega
 have d:Hid (∀y,bJ W y->y.cell? (aA S 237)=some (.map (some bi))/\y.cell? (aA w.heap.size 6)=some (uZ f.id)/\(fE 206 (.map (some bi)) (uZ f.id) true).run prog y=.ok (.tuple #[.agg #[],.bool (decide (f.id∈M.taken))]) y):=fun y hy=>by have G:=o.below hy;have h8:=c.of_heap (hy.block _ c.lt);exact⟨by rw[G.cK.cell];exact G.cells.uX,h8.cell 6,G.qu.t.look f.id ha⟩
 have B:bJ W W:=bP _ _;obtain⟨Y,C⟩:=bU ((W.alloc (.cells #[] 364)).drew);have L:bJ W Y:=by rw[C];exact qQ (oP _ B)
 have a:=o.below L;have N:=c.of_heap (L.block _ c.lt);have D:Hid (M.pQ f=M->sM Y):=fun e=>by rw[F];refine⟨M.iv,?_⟩;rw[e];exact je.refl h (g.trans (L.mono aj))
 have E:Hid (bN 301 #[aK S 235,uZ f.id] Y (.bool (decide (f.id+32<=M.dK))) fun r=>r=Y):=
  qav S M.dK f.id Y (by rw[a.cK.cell];exact a.cells.uw) I.i
 have b:Hid (M.pQ f=if f.aJ<M.aV\/f.id∈M.taken\/f.id+32<=M.dK then M
   else{M with gy:=M.gy++[(f.id,f.data)],dK:=max M.dK f.id,taken:=(f.id::M.taken).filter fun x=> !decide (x+32<=max M.dK f.id)}):=rfl
 obtain⟨x0,x1,x2,x3,x4,x5,x6,x7,x8,x9,xf⟩:=bF c;obtain⟨y0,y1,y2,y3,y4,y5,y6,y7,y8,y9,yf⟩:=bF N;have hn:(W.alloc (.cells #[] 364)).cell? (aA w.heap.size 7)=some (uZ f.aJ):=by have:=y7;rw[C]at this;exact this
 by_cases he:f.aJ<M.aV
 .have Q:=aG (D.out (by rw[b.out,dN (.inl he)]));generalize decide (f.id∈M.taken)=TW at *
  clear h o a N c g I H hm D b E F;unfold eX;unfold f_ at k;go_enter func236,ntmps236;go_wp2_with fail;rw[<-k];clear k;go_region_held3 (fun y=>y.cell? (aA S 237)=some (.map (some bi))/\y.cell? (aA w.heap.size 6)=some (uZ f.id)/\(fE 206 (.map (some bi)) (uZ f.id) true).run prog y=.ok (.tuple #[.agg #[],.bool TW]) y) (first|assumption|exact d.out _ (by repeat(first|assumption|refine oP _ ?_|refine qQ ?_))) ((first|fail))
  all_goals
   go_wp2_with fail;try rw[<-C]
   refine VH (results_none rfl _ _ _) rfl ?_;exact⟨rfl,Q.out⟩
 by_cases i:f.id∈M.taken
 .have Q:=aG (D.out (by rw[b.out,dN (.inr (.inl i))]));rw[decide_eq_true i]at d;clear h o a N c g I H hm D b E F i;unfold eX;unfold f_ at k;go_enter func236,ntmps236;go_wp2_with fail;rw[<-k];clear k;go_region_held3 (fun y=>y.cell? (aA S 237)=some (.map (some bi))/\y.cell? (aA w.heap.size 6)=some (uZ f.id)/\(fE 206 (.map (some bi)) (uZ f.id) true).run prog y=.ok (.tuple #[.agg #[],.bool true]) y) (first|assumption|exact d.out _ (by repeat(first|assumption|refine oP _ ?_|refine qQ ?_))) ((first|fail))
  all_goals
   go_wp2_with fail;try rw[<-C]
   refine VH (results_none rfl _ _ _) rfl ?_;exact⟨rfl,Q.out⟩
 rw[decide_eq_false i]at d;by_cases K:f.id+32<=M.dK
 .have Q:=aG (D.out (by rw[b.out,dN (.inr (.inr K))]));rw[decide_eq_true K]at E;clear h o a N c g I H hm D b F i;unfold eX;unfold f_ at k;go_enter func236,ntmps236;go_wp2_with fail;rw[<-k];clear k;go_region_held3 (fun y=>y.cell? (aA S 237)=some (.map (some bi))/\y.cell? (aA w.heap.size 6)=some (uZ f.id)/\(fE 206 (.map (some bi)) (uZ f.id) true).run prog y=.ok (.tuple #[.agg #[],.bool false]) y) (first|assumption|exact d.out _ (by repeat(first|assumption|refine oP _ ?_|refine qQ ?_))) ((first|fail))
  all_goals
   go_wp2_with (go_at_call 301;try rw[<-C];refine bK E.out ?_;rintro yy n;subst n);try rw[<-C]
   refine VH (results_none rfl _ _ _) rfl ?_;exact⟨rfl,Q.out⟩
 rw[decide_eq_false K]at E;have b:Hid (M.pQ f={M with gy:=M.gy++[(f.id,f.data)],dK:=max M.dK f.id,taken:=(f.id::M.taken).filter fun x=> !decide (x+32<=max M.dK f.id)}):=by unfold Hid;rw[b.out,b_];grind
 obtain⟨ma,mc,z,_,_⟩:=a.qu.m.shape;have r_:Y.cell? (aA S 235)=some (.slice ma M.gy.length mc):=by rw[a.cK.cell,a.cells.r_,z]
 obtain⟨V,hV⟩:=bU ([uZ f.id,.string f.data]:bM);obtain⟨Y2,u⟩:=bU ((Y.alloc (.cells V.toArray 118)).drew);have p:bJ Y Y2:=by rw[u];exact qQ (oP _ (bP _ _))
 have X:aS Y2 Y.heap.size 118 V:=by rw[u];exact aS.new Y 118 V
 have O:=a.below p;obtain⟨P,w3,J,run,hG,q⟩:=gI qqf O.qu.m (aA Y.heap.size 0) 1 1 V (by rw[hV];rfl) (by rw[hV];intro v hv;simp at hv;rcases hv with rfl|rfl<;>rfl) (fun j x hx=>by
  have e:(aA Y.heap.size 0).add j=(aA Y.heap.size j):=by rw[gT,gG]
  rw[e,X.cell,hx]) aj
 obtain⟨a2,c2,U,_,_⟩:=hG.shape;obtain⟨ow,A⟩:=bU (loc oZ w.heap.size);have ob:ow w.heap.size=0:=by rw[A];exact jF _ _ _ (aI _)
 rw[<-A]at o a O q;have h9:=h.s0;have oS:ow S∉[s+54]:=by rw[o.ow];simp
 have t:=bW O.cK q oS;have xi:w3.cell? (aA S 235)=some (.slice ma M.gy.length mc):=by rw[t.cell,a.cells.r_,z]
 have xd:=t.frozen 235;obtain⟨Z,hZ⟩:=bU (w3.setCell (aA S 235) P);have h0:aS Z S TS (l.set 235 P):=by rw[hZ];exact t.setCell 235 _
 have hf:=p.size;have hu:=L.size;have h5:J S=s:=by rw[q.ext S aj,o.ow]
 have R:Kp [s] J J w3 Z:=by grind [Kp.set]
 have KA:Kp [s,s+54,s+55] ow J w Z:=(Kp.below (g.trans (L.mono aj))).trans ((Kp.below p).trans ((q.mono aR).trans (R.mono aR)));have m:=O.qu.t.lt;have h6:J bi=s+55:=by rw[q.ext bi m,o.qu.o]
 have h3:zl Z bi M.taken:=O.qu.t.kept ((R.cK bi (gK m q.size) (by grind)).trans (q.cK bi m (by rw[o.qu.o];simp)));have h4:aS Z w.heap.size 65 (f_ f rv):=by have q1:=bW (fD p N) q (by rw[ob];simp);exact bW q1 R (by rw[q.ext _ aj,ob];simp;omega)
 have h2:=hG.kp R aR;have hk:Hid (bN 302 #[aK S 235,uZ f.id] Z (.tuple #[]) fun r=>sM r):=by refine bK (OQ J s M.dK f.id (l.set 235 P) h0 h5 h6 (by rw[ay _ _ _ _ aj];exact h.cells.uw) (by rw[ay _ _ _ _ aj];exact h.cells.uX) h3 i I.i (fun x hx=>hwZ H.1 (H.2.2 x hx)) (fT (qlf H))) ?_;rintro r ⟨r1,r2,r3⟩;refine⟨rfl,?_⟩;rw[F];have T:=KA.trans (r3.mono aR);rw[A]at T;have T:=T.lI;have hg:=h2.kp r3 aR;rw[hV]at hg;refine⟨P,J,(l.set 235 P).set 236 (uZ ((max M.dK f.id:Nat):Int)),vc,?_,T.mono fun x hx=>fM.2 (by grind)⟩;rw[b.out];exact h.inb T ⟨aR,fun j hj=>by grind⟩ P (M.gy++[(f.id,f.data)]) (max M.dK f.id) _ r2 (by rw[ay _ _ _ _ aj];exact cZ _ _ _ _ h.cells.r_) (cZ _ _ _ _ (by rw[ay _ _ _ _ aj];exact h.cells.uw)) (by grind [List.length_append,U4]) r1
 have z6:Z.cell? (aA w.heap.size 6)=some (uZ f.id):=h4.cell 6;have xe:S<Y.heap.size:=aj;have ho:S≠Y.heap.size:=aj;have hr:w.heap.size≠Y.heap.size:=aj;have xa:w.heap.size<Y.heap.size:=aj;rw[z]at run;rw[U]at run hZ;rw[u,hV]at run;rw[hZ]at z6;have HZ:=aG hZ;clear hZ;clear hG q t R KA h0 h3 h4 h2 X p u hV U h o a O N c g I H hm D b F i oS h5 h6 z A ob h9 m hf;unfold eX;unfold f_ at k;have h7:=aG C;clear C B L;have B:bJ W W:=bP _ _;go_enter func236,ntmps236;go_wp2_with fail;rw[<-k];clear k;go_region_held3 (fun y=>y.cell? (aA S 237)=some (.map (some bi))/\y.cell? (aA w.heap.size 6)=some (uZ f.id)/\(fE 206 (.map (some bi)) (uZ f.id) true).run prog y=.ok (.tuple #[.agg #[],.bool false]) y) (first|assumption|exact d.out _ (by repeat(first|assumption|refine oP _ ?_|refine qQ ?_))) ((first|fail))
 all_goals
  go_wp2_with (go_at_call 301;rw[<-h7.out];refine bK E.out ?_;rintro yy n;rw[n];clear n);clear d E B hn;go_region_law (refine iL _ (by rfl) _ _ _ _ (by rfl) _ _ (by rfl) (by rfl) _ _ (run _) ?_)
  all_goals
   go_wp2_with (go_at_call 302;rw[<-HZ.out];refine bK hk.out ?_;rintro yy n)
   (go_end0;exact⟨rfl,n⟩)
