import Derived.Test.YtphbledmopchnaaGreatDoorLge
import Derived.Test.YtphbledmopchnaaGreatDoorLgd
import Derived.Test.YtphbledmopchnaaGreatDoorLfd
open Bool renaming and_eq_true->mE
open Go.Builtin renaming zeroCells->og
open List renaming getD_eq_getElem?_getD->eB,length_append->eT,getElem?_eq_getElem->lg,length_cons->mI,mem_singleton->mY,length_take->nI,getElem?_append_left->nP,length_nil->nU,getElem?_append_right->nV,mem_append->qy,all_eq_true->tK,getElem_mem->tL,getElem?_cons_zero->tT,append_nil->uj,length_map->wz,mem_of_mem_take->xQ,getD_cons_succ->yP,size_toArray->Bu,length_drop->CZ,map_append->DU,map_cons->Ea,sum_cons->Em
open Nat renaming le_refl->j3,zero_le->mK,min_le_right->qx,le_trans->qA,pow_le_pow_right->rX,lt_of_le_of_lt->sF,not_lt_zero->xB,lt_of_lt_of_le->Bf,le_succ->Cr,lt_irrefl->Es,sub_self->Ev,zero_add->Ew
open Option renaming map_eq_some_iff->mR,map_eq_none_iff->o8,getD_some->tO
open Prod renaming fst->nA
set_option maxHeartbeats 4000000
set_option maxRecDepth 100000
namespace Go.Proofs.YtphbledmopchnaaGreatDoor.Sd
open Go.RowKit Go.Lib Mm Tryz
def Dj(vs:bO):Prop:=∀i j,i<j->j<vs.length->∀k,(vs.getD i undef).ownBlock=some k->(vs.getD j undef).ownBlock≠some k
def VR(oZ:Own)(s:Nat)(w:World)(vs:bO)(bs:List (List UInt8)):Prop:=
 vs.length=bs.length/\(∀j,j<vs.length->kL w (vs.getD j undef) (bs.getD j [])/\∀k,(vs.getD j undef).ownBlock=some k->oZ k=s+47/\k<w.heap.size)/\Dj vs
theorem VR.kp{oZ aY:Own}{s:Nat}{w w':World}{vs:bO}{bs:List (List UInt8)}{T:List Nat}(h:VR oZ s w vs bs)(K:Kp T oZ aY w w')(d:s+47∉T):VR aY s w' vs bs:=by
 refine⟨h.1,fun j f=>?_,h.2.2⟩;obtain⟨h1,a⟩:=h.2.1 j f;refine⟨?_,fun k b=>⟨by rw[K.ext k (a k b).2,(a k b).1],Bf (a k b).2 K.size⟩⟩;rcases h1 with h1|⟨g,cap,cs,e,hB,c⟩;·exact .inl h1
 ·exact .inr ⟨g,cap,cs,e,cO hB K (by rw[(a g (by rw[e];rfl)).1];exact d),c⟩
theorem VR.add{oZ:Own}{s:Nat}{w:World}{vs:bO}{bs:List (List UInt8)}(h:VR oZ s w vs bs)(v:Value)(b:List UInt8)(hb:kL w v b)(g:∀k,v.ownBlock=some k->oZ k=s+47/\k<w.heap.size)(hd:∀k,v.ownBlock=some k->∀j,j<vs.length->(vs.getD j undef).ownBlock≠some k):VR oZ s w (vs++[v]) (bs++[b]):=by
 refine⟨by rw[eT,eT,h.1];rfl,fun j c=>?_,fun i j d c k f=>?_⟩;rotate_left
 ·have hi:i<vs.length:=by rw[eT]at c;simp at c;omega
  rw[eB,nP hi,<-eB]at f;by_cases a:j<vs.length;·rw[eB,nP a,<-eB];exact h.2.2 i j d a k f
  ·have e:j=vs.length:=by rw[eT]at c;simp at c;omega
   subst e;rw[eB,nV (j3 _)];simp only[Ev,tT,tO];exact fun e=>hd k e i hi f
 rw[eT]at c;by_cases a:j<vs.length;·rw[eB,nP a,<-eB,eB (l:=bs++[b]),nP (by rw[<-h.1];exact a),<-eB];exact h.2.1 j a
 ·have e:j=vs.length:=by simp at c;omega
  subst e;rw[eB,nV (j3 _),eB (l:=bs++[b]),h.1,nV (j3 _)];simp only[Ev,tT,tO];exact⟨hb,g⟩
theorem qm.NR{fJ:Own}{s:Nat}{w0:World}{S bw bl bi ab:Nat}{D:Nat->Src}{p:Nat}{oZ:Own}{w:World}{M:av}{aF:bW}{Q later:List Nat}{L:List FV}{v vt:Value}{fa:Option Addr}{n o:Nat}(h:qm fJ s w0 S bw bl bi ab D p oZ w M aF Q later L v (.slice fa n o) vt)(m:∀x∈L,lM x.1)(u:0<L.length):n=L.length/\Rd 10 w (.slice fa L.length o) L.length (qR L)/\xD w fa L/\mg w fa (L.map nA) (fun j=>(L.getD j iq).2.1) (fun j=>(L.getD j iq).2.2.2)/\(∀x,fa=some x->oZ x.block=s+50)/\(∀j x,(L.getD j iq).2.1=some x->oZ x.block=s+49):=by
 have l:=h.fr;rcases l with⟨h1,q,_⟩|⟨g,cap,cs,h1,q,h3,h4,h5,h6,h7,h8,h9⟩;·omega
 ·simp only[Value.slice.injEq]at h1;obtain⟨rfl,rfl,rfl⟩:=h1;have a:∀j k,j<L.length->k<10->w.cell? (aB g (0+j*10+k))=(gG (L.getD j iq).1 (oO (L.getD j iq)))[k]?:=fun j k b t=>by rw[h3.cell,<-Gp L j k b t,<-h8,List.getElem?_take,bK aj,Ew]
  have r:xD w (some (aB g 0)) L:=fun j b=>⟨g,0,rfl,fun i hi=>a j i b hi⟩;refine⟨rfl,h.fr.rd,r,fun j b=>?_,fun x c=>by cases c;exact q,fun j x c=>?_⟩
  ·rw[wz]at b;have c:L.getD j iq∈L:=by rw[eB,lg b];exact tL _
   have hF:=h.fv _ c;have f:=m _ c;have e:(L.map nA).getD j iM=(L.getD j iq).1:=by rw[eB,eB,List.getElem?_map,lg b];rfl
   have c9:w.cell? (aB g (0+j*10+9))=some (.slice (L.getD j iq).2.1 (L.getD j iq).1.ranges.length (L.getD j iq).2.2.2):=by rw[a j 9 b aj];show some (oO (L.getD j iq))=_;unfold oO;rw[hF.len]
   refine⟨g,0,rfl,?_,?_,fun x d=>(hF.cZ x d).1⟩;·rw[e];exact⟨a j 0 b aj,a j 1 b aj,a j 2 b aj,a j 3 b aj,a j 4 b aj,a j 5 b aj,a j 6 b aj,a j 7 b aj,a j 8 b aj,c9,hF.rT,f.Bv,f.Bw,f.k0,f.s0,f.u0⟩
   ·rw[e];exact hF.cap
  ·by_cases b:j<L.length
   ·have d:L.getD j iq∈L:=by rw[eB,lg b];exact tL _
    exact((h.fv _ d).cZ x c).2.1
   ·rw[eB,List.getElem?_eq_none aj]at c;cases c
theorem yj:∀(n:Nat) (M:av) (aF:bW) (Q later:List Nat) (au:Int) (l:List Fr),Lq Q->Lq later->Lq (fD n M aF Q later au l).2.2.1/\(fD n M aF Q later au l).2.2.1.length<=Q.length+later.length
 |0,M,aF,Q,later,au,l,h1,h2=>⟨Lq.qd _ h1 h2,by show(later.foldl dZ Q).length<=_;rw[lX];exact j3 _⟩
 |n+1,M,aF,[],later,au,l,h1,h2=>⟨Lq.qd _ h1 h2,by show(later.foldl dZ []).length<=_;rw[lX];exact j3 _⟩
 |n+1,M,aF,u::Q,later,au,l,h1,h2=>by
  have hp:(j6 (u::Q)).length=Q.length:=by rw[yc];simp
  unfold fD;by_cases a:M.aK aF u=true
  ·simp only[a,if_true];cases hF:M.frame aF u au with
   |none=>
    simp only;split;·have:=yj n M aF (j6 (u::Q)) (later++[u]) au l h1.pop (h2.app fun x b=>by rw[mY.1 b];exact h1 u aP);refine⟨this.1,qA this.2 ?_⟩;rw[hp,eT];simp;omega
    ·exact⟨Lq.qd _ h1 h2,by show(later.foldl dZ (u::Q)).length<=_;rw[lX];exact j3 _⟩
   |some x=>obtain⟨f,M',cu⟩:=x;exact yj n M' cu (u::Q) later _ _ h1 h2
  ·simp only[a];have:=yj n M aF (j6 (u::Q)) later au l h1.pop h2;refine⟨this.1,qA this.2 ?_⟩;rw[hp,mI];omega
theorem RG.fis{oZ:Own}{s:Nat}{w:World}{S bw bl bi ab:Nat}{D:Nat->Src}{p:Nat}{v:Value}{Q:List Nat}{M:av}{aF:bW}(h:RG oZ s w S bw bl bi ab D p v Q M aF)(hq:Lq Q):qm oZ s w S bw bl bi ab D p oZ w M aF Q [] [] v nZ nZ:=
 ⟨h.qs.hq,fun u a=>⟨h.qs.hs u a,hq u a⟩,(fun u a=>by cases a),⟨h.z,aj⟩,h.env,.inl ⟨rfl,rfl,rfl⟩,(fun x b=>by cases b),.inl ⟨rfl,rfl,rfl⟩,Kp.refl _ _ _,fun _=>rfl⟩
theorem RH(n:Nat):(og (Value.slice none 0 0).cells n).toList.length=n:=by simp[og,Value.cells]
theorem RJ(n:Nat):∀v∈(og (Value.slice none 0 0).cells n).toList,v.oneCell'=true:=by intro v a;simp[og,Value.cells]at a;obtain⟨i,_,rfl⟩:=a;have:i % 1=0:=aj;rw[this];rfl
theorem qgs:I9 131 60 nZ 1 24:=⟨bH,bH,fun n=>by rw[RH];omega,RJ,aj⟩
def pkB(l:List (Nat×List Fr)):List (List UInt8):=l.map fun x=>bT x.1 x.2
structure Lf (AJ:Own) (s:Nat) (wW:World) (S bw bl bi ab:Nat) (D:Nat->Src) (p:Nat) (oZ:Own) (w:World) (M:av) (aF:bW) (Q:List Nat) (vl:Value) (vs:bO) (pk:List (Nat×List Fr)):Prop where
 qz:∃v,RG oZ s w S bw bl bi ab D p v Q M aF
 lq:Lq Q
 ql:Q.length<=500
 gd:Gd oZ w
 li:GT oZ (s+52) 60 1 w vl vs.length vs
 ps:VR oZ s w vs (pkB pk)
 kp:Kp (Tb s) AJ oZ wW w
structure PkP (P:av->bW->Prop) (μ:av->bW->Nat):Prop where
 wk:∀M aF,P M aF->Wk M/\zB aF=true
 fr:∀M aF u au f M' cu,P M aF->u<48->M.aK aF u=true->M.frame aF u au=some (f,M',cu)->P M' cu/\((bD f).length:Int)<=au/\0<(bD f).length/\snd f=true/\lM f
 nm:∀M aF,P M aF->M.bG<=400/\M.next<4611686018427387903/\0<=M.au/\M.au<=1000/\∀x∈M.aJ,x.1<M.next
 pk:∀M aF Q,P M aF->Lq Q->(fill M aF Q M.au).2.2.2≠[]->P ((fill M aF Q M.au).1.dz (fill M aF Q M.au).2.2.2) (fill M aF Q M.au).2.1/\μ ((fill M aF Q M.au).1.dz (fill M aF Q M.au).2.2.2) (fill M aF Q M.au).2.1<μ M aF/\
  sD M.next (fill M aF Q M.au).2.2.2=true/\(fK M.next (fill M aF Q M.au).2.2.2).length<=1000000000/\(fill M aF Q M.au).2.2.2.length<=1000/\∀f∈(fill M aF Q M.au).2.2.2,lM f/\(A9 f=false\/f.aC=2)
theorem Lf.fill{AJ:Own}{s:Nat}{wW:World}{S bw bl bi ab:Nat}{D:Nat->Src}{p:Nat}{oZ:Own}{w:World}{M:av}{aF:bW}{Q:List Nat}{vl:Value}{vs:bO}{pk:List (Nat×List Fr)}{P:av->bW->Prop}{μ:av->bW->Nat}(h:Lf AJ s wW S bw bl bi ab D p oZ w M aF Q vl vs pk)(hp:P M aF)(a:PkP P μ):Calls prog 156 #[aI p 0,iZ M.au] w fun e w'=>Df oZ s w S bw bl bi ab D p P (Sd.fill M aF Q M.au) e w':=by obtain⟨v,hq⟩:=h.qz;obtain⟨_,_,r0,c,_⟩:=a.nm M aF hp;obtain⟨l,vc,b,_⟩:=hq.env;exact VL P w M aF Q M.au hq.qs.hd b.s0 (hq.fis h.lq) ⟨r0,c⟩ h.ql hp a.wk a.fr
theorem Ze{w:World}{v:Value}{b:List UInt8}(h:kL w v b):v.oneCell'=true:=by rcases h with⟨rfl,_⟩|⟨g,cap,cs,rfl,_⟩<;>rfl
theorem qc8{w:World}{v:Value}{b:List UInt8}(h:kL w v b):∀k,v.ownBlock=some k->k<w.heap.size:=by
 rcases h with⟨rfl,_⟩|⟨g,cap,cs,rfl,hB,_⟩;·intro k a;cases a
 ·intro k a;simp[Value.ownBlock]at a;rw[<-a];exact hB.lt
theorem Lf.dz{AJ:Own}{s:Nat}{wW:World}{S bw bl bi ab:Nat}{D:Nat->Src}{p:Nat}{oZ:Own}{w G:World}{M:av}{aF:bW}{Q:List Nat}{vl:Value}{vs:bO}{pk:List (Nat×List Fr)}{P:av->bW->Prop}{μ:av->bW->Nat}(h:Lf AJ s wW S bw bl bi ab D p oZ w M aF Q vl vs pk)(hp:P M aF)(O:PkP P μ)(B:(Sd.fill M aF Q M.au).2.2.2≠[])(fl:Value)(hf:Df oZ s w S bw bl bi ab D p P (Sd.fill M aF Q M.au) (.returned fl) G):Calls prog 158 #[aI S 0,fl] G fun e w'=>∃v,e=.returned v/\Hid (v.oneCell'=true/\∃n,Lf AJ s wW S bw bl bi ab D p n w' ((Sd.fill M aF Q M.au).1.dz (Sd.fill M aF Q M.au).2.2.2) (Sd.fill M aF Q M.au).2.1 (Sd.fill M aF Q M.au).2.2.1 vl vs pk/\kL w' v (bT M.next (Sd.fill M aF Q M.au).2.2.2)/\∀k,v.ownBlock=some k->n k=s+47/\k<w'.heap.size/\∀j,j<vs.length->(vs.getD j undef).ownBlock≠some k):=by
 obtain⟨c1,c2,c3,c4,c5,c6⟩:=O.pk M aF Q hp h.lq B;have g:(Sd.fill M aF Q M.au).1.next=M.next:=ug _ aF Q [] M.au []
 have H:=yj (Q.length+M.au.toNat+1) M aF Q [] M.au [] h.lq (fun x d=>by cases d);have h0:Sd.fill M aF Q M.au=fD (Q.length+M.au.toNat+1) M aF Q [] M.au []:=rfl;rw[<-h0]at H;generalize Sd.fill M aF Q M.au=X at *
 obtain⟨J,C,Q2,fs⟩:=X;simp only at *
 obtain⟨gu,v2,h4,vt,L,e0,f,F,i⟩:=hf;cases e0;simp only at f F i;obtain⟨fa,fc,rfl,_,_⟩:=F.fr.shape;have A:0<L.length:=by
  cases L with
  |nil=>exact absurd f.symm B
  |cons a t=>simp
 have h5:L.length=fs.length:=by rw[<-f,wz]
 obtain⟨_,h2,U,T,W,Y⟩:=F.NR (fun x d=>(c6 x.1 (by rw[<-f];exact List.mem_map_of_mem d)).1) A;obtain⟨l,vc,q,hA⟩:=F.env;obtain⟨_,d2,_,_,d5⟩:=O.nm J C i;obtain⟨hW,_⟩:=O.wk J C i;have y:Gd gu G:=h.gd.kp F.kp (fun e=>FN (oJ.1 e) q.s0);have hc:=Qe gu s S l J bw bl bi vc fa L fc _ _ G q y d2 d5 hW.wl A aj h2 U T (fun x d R=>(F.fv x d).nil (fun e=>by unfold A9 at R;rw[e]at R;simp at R)) (fun x d e=>by have:=W x d;rw[e,q.ow]at this;omega) (fun j x d e=>by have:=Y j x d;rw[e,q.ow]at this;omega) (by rw[f,g];exact c3) (by rw[f,g];exact c4);refine hc.mono ?_;rintro e w' ⟨v,rfl,b,c,n,l3,h3,r,o,Z⟩;rw[f,g]at b;rw[f]at r;have I:Kp (Tb s) gu n G w':=o.mono fun z hz=>ji.2 (by simp at hz;omega);have m:∀z,z∈[s,s+42]->z=s\/z=s+42:=fun z hz=>by simpa using hz
 have N:s+52∉Tg s:=fun e=>bV (oJ.1 e);have K:s+47∉Tb s:=fun e=>bV (ji.1 e);have E:Kp (Tb s) oZ n w w':=(F.kp.mono (qa7 s)).trans I;refine⟨v,rfl,Ze b,n,⟨⟨v2,⟨⟨?_,F.hq.kp o (fun z=>bV (m _ z)) (fun z=>bV (m _ z)),fun u hu=>((F.qs u hu).1.kp I)⟩,F.z.1.kp I,⟨l3,h3,r,hA.kp o (fun z=>bV (m _ z)) (fun z=>bV (m _ z))⟩⟩⟩,H.1,?_,y.kp o (fun z=>FN (m _ z) q.s0),(h.li.kp F.kp N).kp o (fun z=>bV (m _ z)),h.ps.kp E K,h.kp.trans E⟩,b,fun k V=>⟨Z k V,qc8 b k V,fun j hj e=>by have:=(h.ps.2.1 j hj).2 k e;have:=c k V;have:=F.kp.size;omega⟩⟩;·obtain⟨v,hq⟩:=h.qz;exact hq.qs.hd
 ·have:=H.2;have:=h.ql;simp at *
  omega
end Go.Proofs.YtphbledmopchnaaGreatDoor.Sd
namespace Go.Proofs.YtphbledmopchnaaGreatDoor.Sd
open St Tryz
theorem Ni(m n:Nat)(h:m<=n):(Num.ay m).length<=(Num.ay n).length:=by
 rw[Num.gy,Num.gy];refine rX iO ?_;unfold Num.code;repeat' split
 all_goals omega
theorem qN(f:Fr)(h:f.aC=4):(bD f).length=1+(Num.ay f.aH.toNat).length+(Num.ay f.aD).length+(Num.ay f.data.size).length+f.data.size:=by
 have e:dJ f.aC=[(1,0),(2,0),(3,279),(4,0)]:=by rw[h];rfl
 unfold bD;rw[e];have:f.data.data.toList.length=f.data.size:=rfl;simp only[List.map,mI,nU,eF,yP,List.getD_cons_zero,dH,fieldAt,eT,List.nil_append];simp;omega
theorem Nj{k lo:Nat}{g:Fr}{b:List UInt8}{au:Int}(h:mZ (nD k lo) b au=some g):((bD g).length:Int)<=au:=by
 unfold mZ at h;split at h;·cases h
 ·rename_i p;have a:=(Option.some.inj h).symm;have d:=qN (nD k lo) rfl;have e:(nD k lo).data.size=0:=rfl;have f:(Num.ay 0).length=1:=rfl;rw[e,f]at d;obtain⟨r,c⟩:=bZ ((au-((bD (nD k lo)).length:Int)).toNat);simp only[<-c]at a;obtain⟨m,j⟩:=bZ (min (min b.length r) (r-((Num.ay (min b.length r)).length-1)));rw[<-j]at a;have hs:g.data.size=m:=by
   rw[a];show(List.take m b).toArray.size=m;rw[Bu,nI];omega
  have i:=qN g (by rw[a];rfl);rw[hs,show g.aH=(nD k lo).aH by rw[a],show g.aD=(nD k lo).aD by rw[a]]at i;have l:=Ni m (min b.length r) aj;have n:=iR (min b.length r);have o:m=0->(Num.ay m).length=1:=fun h=>by rw[h];rfl
  omega
theorem VT(g:Fr)(x:Bool)(h:g.aC=4):(bD {g with bn:=x}).length=(bD g).length:=by exact(qN {g with bn:=x} h).trans (qN g h).symm
def Dn:bW->Prop
 |[]=>True
 |r::t=>r.1<=r.2/\r.2<=dK/\(∀x∈t,x.2+1<r.1)/\Dn t
theorem Dn.take:∀{l:bW} (n:Nat),Dn l->Dn (l.take n)
 |[],n,h=>by simpa using h
 |_::_,0,_=>trivial
 |r::t,n+1,h=>⟨h.1,h.2.1,fun x a=>h.2.2.1 x (xQ a),Dn.take n h.2.2.2⟩
theorem Dn.drop:∀{l:bW} (n:Nat),Dn l->Dn (l.drop n)
 |[],n,h=>by simpa using h
 |_::_,0,h=>h
 |_::t,n+1,h=>Dn.drop (l:=t) n h.2.2.2
theorem Dn.app:∀{l:bW} (r:Nat×Nat),Dn l->r.1<=r.2->r.2<=dK->(∀x∈l,r.2+1<x.1)->Dn (l++[r])
 |[],r,_,h1,h2,_=>⟨h1,h2,fun x b=>by simp at b,trivial⟩
 |a::t,r,h,h1,h2,h3=>⟨h.1,h.2.1,fun x b=>by
   rcases qy.1 b with b|b;·exact h.2.2.1 x b
   ·rw[mY.1 b];exact h3 a aP,Dn.app r h.2.2.2 h1 h2 fun x b=>h3 x (by simp[b])⟩
theorem Dn.rev:∀{l:bW},Rg.fI l->(∀r∈l,r.2<=dK)->Dn l.reverse
 |[],_,_=>trivial
 |r::t,h,hb=>by rw[List.reverse_cons];exact Dn.app r (Dn.rev h.2.2 fun x a=>hb x (by simp[a])) h.1 (hb r aP) fun x a=>h.2.1 x (List.mem_reverse.1 a)
theorem Dn.at:∀{l:bW},Dn l->∀i,i<l.length->sj l i=true
 |[],_,_,h=>by simp at h
 |r::t,h,0,_=>by unfold sj;simp[h.1,h.2.1]
 |r::t,h,i+1,hi=>by
  have a:=Dn.at h.2.2.2 i (by simpa using hi);unfold sj at a ⊢;simp only[mE,decide_eq_true_eq,Bool.or_eq_true,yP,Nat.add_sub_cancel]at a ⊢;refine⟨a.1,.inr ?_⟩;cases i with
  |zero=>refine h.2.2.1 _ ?_;rw[eB,lg (by simpa using hi)];exact tL _
  |succ i=>
   rcases a.2 with e|e;·cases e
   ·simpa using e
theorem Dn.snd{l:bW}(h:Dn l)(b:l≠[]):qp l=true:=by
 unfold qp;rw[mE];refine⟨tK.2 fun i hi=>h.at i (List.mem_range.1 hi),decide_eq_true ?_⟩;cases l with
 |nil=>exact absurd rfl b
 |cons a t=>simp
theorem Di(aF:bW)(au:Int):∀n,fA aF au n≠0->((bD (gH (aF.take (fA aF au n)))).length:Int)<=au
 |0,h=>absurd rfl h
 |n+1,h=>by
  by_cases a:((bD (gH (aF.take (n+1)))).length:Int)<=au
  ·have e:fA aF au (n+1)=n+1:=by unfold fA;rw[bK a]
   rw[e];exact a
  ·have e:fA aF au (n+1)=fA aF au n:=by rw[fA,aU a]
   rw[e]at h ⊢;exact Di aF au n h
theorem snd_mk(f:Fr)(b:1<=f.aC/\f.aC<=8)(a:f.aD<=dK/\f.aV<=dK/\f.aL<=dK/\f.id<=dK/\f.aW<=dK)(hs:0<=f.aH/\f.aH<8)(ht:l7 f=true):snd f=true:=by unfold snd pQ;rw[ht,decide_eq_true b,decide_eq_true hs,decide_eq_true a.1,decide_eq_true a.2.1,decide_eq_true a.2.2.1,decide_eq_true a.2.2.2.1,decide_eq_true a.2.2.2.2];rfl
theorem VU(aC:Int)(k x:Nat)(b:aC=5\/aC=6)(c:k<8)(a:x<=dK):snd (jO aC k x)=true:=by
 have z:0<=dK:=mK _;have hs:0<=(k:Int)/\(k:Int)<8:=aj;rcases b with rfl|rfl;·exact snd_mk _ (by show(1:Int)<=5/\(5:Int)<=8;decide) ⟨z,z,a,z,z⟩ hs rfl
 ·exact snd_mk _ (by show(1:Int)<=6/\(6:Int)<=8;decide) ⟨z,z,a,z,z⟩ hs rfl
theorem oK{A A':av}(p:fE A)(hb:∀k,(A.out k).ay.length<=2048)(aF cu:bW)(u:Nat)(au:Int)(f:Fr)(B:u<48)(hl:Dn aF)(c:A.aK aF u=true)(h:A.frame aF u au=some (f,A',cu)):((bD f).length:Int)<=au/\snd f=true/\Dn cu/\(f.aC=2↔u=0)/\(f.aC=2\/f.aC=4\/f.aC=5\/f.aC=6):=by
 unfold av.frame at h;unfold av.aK at c;by_cases u0:u=0
 ·rw[bK u0]at h;split at h;·cases h
  ·rename_i i;have e:=Option.some.inj h;have j:gH (aF.take (fA aF au aF.length))=f:=congrArg nA e;have el:aF.drop (fA aF au aF.length)=cu:=congrArg (fun x=>x.2.2) e;subst j el;refine⟨Di aF au _ i,?_,hl.drop _,⟨fun _=>u0,fun _=>rfl⟩,.inl rfl⟩;have q:aF.take (fA aF au aF.length)≠[]:=by
    cases aF with
    |nil=>exact absurd rfl i
    |cons a t=>
     intro l;rw[List.take_eq_nil_iff]at l;rcases l with l|l;·exact i l
     ·cases l
   have:=(hl.take (fA aF au aF.length)).snd q;unfold snd pQ l7 gH;simp[this]
 ·rw[aU u0]at h c;simp only[mE]at c;replace c:=c.2;have hq:A.n_=0:=by unfold av.n_;rw[p.q]
  by_cases u8:u=8
  ·rw[bK u8]at h;obtain⟨⟨f1,s⟩,b,e⟩:=mR.1 h;have j:f1=f:=congrArg nA e;have el:aF=cu:=congrArg (fun x=>x.2.2) e;subst j el;unfold Gn.next at b;split at b;·cases b
   ·rename_i r;have d:jO 5 0 (A.gr.iB A.aQ)=f1:=congrArg nA (Option.some.inj b);rw[d]at r;refine⟨aj,?_,hl,⟨fun x=>?_,fun x=>absurd x u0⟩,.inr (.inr (.inl (by rw[<-d];rfl)))⟩;·rw[<-d];exact VU 5 0 _ (.inl rfl) iO (qx _ _)
    ·rw[<-d]at x;cases x
  ·rw[aU u8]at h c;by_cases u24:u<24
   ·rw[bK u24]at h;obtain⟨⟨f1,s⟩,b,e⟩:=mR.1 h;have j:f1=f:=congrArg nA e;have el:aF=cu:=congrArg (fun x=>x.2.2) e;subst j el;unfold Gn.next at b;split at b;·cases b
    ·rename_i r;have d:jO 6 (u-16) ((A.bF (u-16)).gr.iB (A.bF (u-16)).aQ)=f1:=congrArg nA (Option.some.inj b);rw[d]at r;refine⟨aj,?_,hl,⟨fun x=>?_,fun x=>absurd x u0⟩,.inr (.inr (.inr (by rw[<-d];rfl)))⟩;·rw[<-d];exact VU 6 _ _ (.inr rfl) aj (qx _ _)
     ·rw[<-d]at x;cases x
   ·rw[aU u24]at h c;by_cases u32:u<32;·rw[bK u32]at c;unfold Nt.aK at c;rw[(p.wr _).bX]at c;cases c
    ·rw[aU u32]at h c;by_cases o:u=32;·rw[bK o]at c;rw[p.q]at c;simp at c
     ·rw[aU o]at h c;obtain⟨⟨f1,o1⟩,b,e⟩:=mR.1 h;have j:f1=f:=congrArg nA e;have el:aF=cu:=congrArg (fun x=>x.2.2) e;subst j el;obtain⟨n1,n2,n3,_⟩:=uK (p.wr _) c b;have v:o1.ay.length<=2048:=by
       have:=(uK (p.wr _) c b).2.2.2.2.2.2.2.1;rw[this];exact hb _
      refine⟨?_,?_,hl,⟨fun x=>?_,fun x=>absurd x u0⟩,.inr (.inl n1)⟩
      ·unfold Ot.next at b;simp only at b;split at b;·cases b
       ·rename_i g m;split at b;·cases b
        ·have d:=congrArg nA (Option.some.inj b);simp only at d;rw[<-d,VT _ _ (by obtain⟨n,_,i⟩:=tF m;rw[i];rfl)];exact Nj m
      ·obtain⟨g,m,hs⟩:∃g:Fr,f1=g/\g.aV=0/\g.aL=0/\g.id=0/\g.aW=0:=by
        unfold Ot.next at b;simp only at b;split at b;·cases b
        ·rename_i g m;split at b;·cases b
         ·have d:=congrArg nA (Option.some.inj b);simp only at d;obtain⟨n,_,i⟩:=tF m;exact⟨_,d.symm,by rw[i];rfl,by rw[i];rfl,by rw[i];rfl,by rw[i];rfl⟩
       subst m;have w:=n3.b;have b2:bC f1=f1.aD+f1.data.size:=rfl;have z:0<=dK:=mK _;have y:2048<=dK:=iO;refine snd_mk f1 (by rw[n1];decide) ⟨aj,by rw[hs.1];exact z,by rw[hs.2.1];exact z,by rw[hs.2.2.1];exact z,by rw[hs.2.2.2];exact z⟩ (by rw[n2];omega) ?_;unfold l7;rw[n1,aU iO,aU iO,bK rfl];exact decide_eq_true aj
      ·rw[n1]at x;cases x
theorem nQ{o o':Ot}{k:Nat}{au:Int}{aN:Nat}{f:Fr}(h:o.next k au aN=some (f,o')):o'=({o with dw:=max o.dw (bC f)}:Ot).aw f/\f.aL=0/\f.aV=0/\f.id=0/\f.aW=0/\f.ranges=[]:=by
 unfold Ot.next at h;simp only at h;split at h;·cases h
 ·rename_i g d;split at h;·cases h
  ·have e:=Option.some.inj h;have b:({g with bn:=o.fO (bC g)}:Fr)=f:=congrArg nA e;have c:=congrArg Prod.snd e;simp only at c;obtain⟨n,_,a⟩:=tF d;refine⟨?_,?_⟩;·rw[<-c,<-b];rfl
   ·rw[<-b,a];exact⟨rfl,rfl,rfl,rfl,rfl⟩
structure FrG (f:Fr):Prop where
 sn:snd f=true
 ok:lM f
 kd:f.aC=2\/EX f
 sz:0<(bD f).length
theorem FrG.A9{f:Fr}(h:FrG f):A9 f=false\/f.aC=2:=by
 rcases h.kd with h|h;·exact .inr h
 ·left;unfold Sd.A9;rcases h.kd with e|e|e<;>rw[e]<;>rfl
theorem Af(ps:List (List UInt8)):∀k,0<k->0<(ps.getD 0 []).length->0<(eF ps k).length
 |0,h,_=>absurd h (Es _)
 |1,_,h=>by simpa[eF]using h
 |k+2,_,h=>by have:=Af ps (k+1) aj h;show 0<(eF ps (k+1)++_).length;rw[eT];omega
theorem mF(f:Fr):0<(bD f).length:=by
 unfold bD;refine Af _ _ ?_ ?_
 ·unfold dJ;repeat' split
  all_goals decide
 ·unfold dJ;repeat' split
  all_goals simp[dH]
theorem uo{A A':av}(r:fE A)(hb:Bd A)(aF cu:bW)(u:Nat)(au:Int)(f:Fr)(F:u<48)(hl:Dn aF)(O:aF.length<=8)(b:A.aK aF u=true)(h:A.frame aF u au=some (f,A',cu)):Bd A'/\FrG f/\A'.aJ=A.aJ/\A'.next=A.next/\A'.bG=A.bG/\A'.bE=A.bE/\(f.aC=2/\cu.length<aF.length\/f.aC≠2/\cu=aF/\A.aJ.length<12):=by
 obtain⟨_,f2,_,_,_⟩:=oK r (fun k=>(hb.o k).b) aF cu u au f F hl b h;have z:0<18446744073709551616:=iO;have q:dK<18446744073709551616:=iO;unfold av.frame at h;unfold av.aK at b;by_cases u0:u=0
 ·rw[bK u0]at h;split at h;·cases h
  ·rename_i E;have e:=Option.some.inj h;have i:gH (aF.take (fA aF au aF.length))=f:=congrArg nA e;have n:A=A':=congrArg (fun x=>x.2.1) e;have el:aF.drop (fA aF au aF.length)=cu:=congrArg (fun x=>x.2.2) e;subst n;refine⟨hb,⟨f2,?_,.inl (by rw[<-i];rfl),mF f⟩,rfl,rfl,rfl,rfl,.inl ⟨by rw[<-i];rfl,?_⟩⟩;·rw[<-i];exact⟨by simp only[gH,nI];omega,mK _,by simp only[gH];omega,by simp only[gH];omega,⟨z,z,z,z,z⟩,fun j m=>by have s:=(hl.take (fA aF au aF.length)).at j m;unfold sj at s;simp only[mE]at s;have L:=of_decide_eq_true s.1.1;have M:=of_decide_eq_true s.1.2;exact⟨by simp only[gH];omega,by simp only[gH];omega⟩⟩
   ·rw[<-el,CZ];have N:aF.length≠0:=fun C=>E (by
     have:aF=[]:=List.length_eq_zero_iff.1 C;rw[this];rfl)
    omega
 ·rw[aU u0]at h b;simp only[mE,Bool.not_eq_true']at b;have c:A.aJ.length<12:=by
   have:=b.1;unfold av.full at this;have:=of_decide_eq_false this;omega
  replace b:=b.2;by_cases u8:u=8
  ·rw[bK u8]at h;obtain⟨⟨f1,v⟩,o,e⟩:=mR.1 h;have i:f1=f:=congrArg nA e;have n:{A with gr:=v}=A':=congrArg (fun x=>x.2.1) e;have el:aF=cu:=congrArg (fun x=>x.2.2) e;obtain⟨d,t⟩:=iT o;have a:A.gr.iB A.aQ<=dK:=qx _ _;rw[i]at d;subst n;refine⟨hb.qbi _ ?_,⟨f2,?_,.inr ?_,mF f⟩,rfl,rfl,rfl,rfl,.inr ⟨by rw[d];simp[jO],el.symm,c⟩⟩;·rw[t];exact MC.aw (g:={A.gr with dW:=A.gr.iB A.aQ}) ⟨hb.g.1,a,hb.g.2.2⟩ _ a
   ·rw[d];exact⟨mK _,mK _,by simp only[jO];omega,by simp only[jO];omega,⟨z,z,sF a q,z,z⟩,fun j m=>absurd m (xB _)⟩
   ·rw[d];exact⟨by simp only[jO];omega,(fun h=>by cases h),a,.inr (.inl rfl)⟩
  ·rw[aU u8]at h b;by_cases u24:u<24
   ·rw[bK u24]at h;obtain⟨⟨f1,v⟩,o,e⟩:=mR.1 h;have i:f1=f:=congrArg nA e;have n:A.eG (u-16) {A.bF (u-16)with gr:=v}=A':=congrArg (fun x=>x.2.1) e;have el:aF=cu:=congrArg (fun x=>x.2.2) e;obtain⟨d,t⟩:=iT o;have a:(A.bF (u-16)).gr.iB (A.bF (u-16)).aQ<=dK:=qx _ _;rw[i]at d;subst n;have D:u-16<8:=aj;refine⟨hb.eG _ _ ((hb.i _).gr' _ ?_),⟨f2,?_,.inr ?_,mF f⟩,rfl,rfl,rfl,rfl,.inr ⟨by rw[d];simp[jO],el.symm,c⟩⟩;·rw[t];exact MC.aw (g:={(A.bF (u-16)).gr with dW:=(A.bF (u-16)).gr.iB (A.bF (u-16)).aQ}) ⟨(hb.i _).g.1,a,(hb.i _).g.2.2⟩ _ a
    ·rw[d];exact⟨mK _,mK _,by simp only[jO];omega,by simp only[jO];omega,⟨z,z,sF a q,z,z⟩,fun j m=>absurd m (xB _)⟩
    ·rw[d];exact⟨by simp only[jO];omega,(fun h=>by cases h),a,.inr (.inr rfl)⟩
   ·rw[aU u24]at h b;by_cases u32:u<32;·rw[bK u32]at b;unfold Nt.aK at b;rw[(r.wr _).bX]at b;cases b
    ·rw[aU u32]at h b;by_cases p:u=32;·rw[bK p]at b;rw[r.q]at b;simp at b
     ·rw[aU p]at h b;obtain⟨⟨f1,o1⟩,o,e⟩:=mR.1 h;have i:f1=f:=congrArg nA e;have n:A.dD (u-40) o1=A':=congrArg (fun x=>x.2.1) e;have el:aF=cu:=congrArg (fun x=>x.2.2) e;subst i n;obtain⟨n1,n2,n3,_,_,_,_,G,_⟩:=uK (r.wr _) b o;obtain⟨H,y,I,J,K,B⟩:=nQ o;have w:o1.ay.length<=2048:=by rw[G];exact(hb.o _).b
      have l:bC f1<=2048:=qA n3.b w;have hd:ru f1:=⟨by unfold bC at l;omega,l,n3.ne⟩;have D:u-40<8:=aj;refine⟨hb.dD _ _ ?_,⟨f2,?_,.inr ?_,mF f1⟩,rfl,rfl,rfl,rfl,.inr ⟨by rw[n1];decide,el.symm,c⟩⟩;·rw[H];exact⟨(hb.o _).b,oI (hb.o _).a hd,(hb.o _).c⟩
      ·exact⟨by rw[B];exact mK _,hd.d,by rw[n1];omega,by rw[n2];omega,⟨bV hd.o,by rw[I];exact z,by rw[y];exact z,by rw[J];exact z,by rw[K];exact z⟩,fun j m=>by rw[B]at m;exact absurd m (xB _)⟩
      ·exact⟨by rw[n2];omega,fun _=>hd,by rw[y];exact mK _,.inl n1⟩
def Fj(l:List Fr):Nat:=(l.map fun f=>(bD f).length).sum
structure FlB (B A:av) (aF:bW) (au:Int) (l:List Fr) (x:av×bW×List Nat×List Fr) (m:List Fr):Prop where
 loc:fE x.1
 ab:dO x.1 B
 ba:dO B x.1
 bd:Bd x.1
 dn:Dn x.2.1
 ln:x.2.1.length<=aF.length
 hi:∀r∈x.2.1,r.2<B.next
 q:Lq x.2.2.1
 eq:x.2.2.2=l++m
 fs:∀f∈m,FrG f
 sz:(Fj m:Int)<=au
 wy:x.1.aJ=A.aJ
 mt:x.1.bG=A.bG
 wf:eO m=true->A.aJ.length<12
 ac:m≠[]->eO m=false->x.2.1.length<aF.length
theorem lY:∀(n:Nat) {A B:av} (aF:bW) (Q later:List Nat) (au:Int) (l:List Fr),fE A->dO A B->dO B A->Bd A->Dn aF->aF.length<=8->(∀r∈aF,r.2<B.next)->Lq Q->Lq later->0<=au->∃m,FlB B A aF au l (fD n A aF Q later au l) m
 |0,A,B,aF,Q,later,au,l,hA,h1,h2,hb,hd,h8,hl,hQ,hL,hr=>⟨[],hA,h1,h2,hb,hd,j3 _,hl,Lq.qd _ hQ hL,(uj _).symm,aP,hr,rfl,rfl,by simp[eO],aP⟩
 |n+1,A,B,aF,[],later,au,l,hA,h1,h2,hb,hd,h8,hl,hQ,hL,hr=>⟨[],hA,h1,h2,hb,hd,j3 _,hl,Lq.qd _ hQ hL,(uj _).symm,aP,hr,rfl,rfl,by simp[eO],aP⟩
 |n+1,A,B,aF,u::Q,later,au,l,hA,h1,h2,hb,hd,h8,hl,hQ,hL,hr=>by
  have d:u<48:=hQ u aP;unfold fD;by_cases c:A.aK aF u=true
  ·simp only[c,if_true];cases hF:A.frame aF u au with
   |none=>
    simp only;split;·exact lY n aF _ _ au l hA h1 h2 hb hd h8 hl hQ.pop (hL.app fun x v=>by rw[mY.1 v];exact d) hr
    ·exact⟨[],hA,h1,h2,hb,hd,j3 _,hl,Lq.qd _ hQ hL,(uj _).symm,aP,hr,rfl,rfl,by simp[eO],aP⟩
   |some x=>
    obtain⟨f,A',cu⟩:=x;simp only;obtain⟨s,C,sl⟩:=tH hA h1 h2 aF cu u au f d hl c hF;obtain⟨z,_,p,_,_⟩:=oK hA (fun k=>(hb.o k).b) aF cu u au f d hd c hF;obtain⟨j,b2,b3,w,o,y,e⟩:=uo hA hb aF cu u au f d hd h8 c hF;have i:cu.length<=aF.length:=by rcases e with⟨_,h⟩|⟨_,h,_⟩;omega;rw[h];exact j3 _
    obtain⟨m,t⟩:=lY n cu (u::Q) later (au-((bD f).length:Int)) (l++[f]) s.loc s.ab s.ba j p aj sl hQ hL aj;refine⟨f::m,t.loc,t.ab,t.ba,t.bd,t.dn,qA t.ln i,t.hi,t.q,by rw[t.eq];simp,fun g b=>?_,?_,t.wy.trans b3,t.mt.trans o,fun a=>?_,fun _ a=>?_⟩
    ·rcases List.mem_cons.1 b with b|b;·rw[b];exact b2
     ·exact t.fs g b
    ·have:=t.sz;unfold Fj at this ⊢;simp only[Ea,Em];omega
    ·rcases e with⟨h,_⟩|⟨_,_,h⟩
     ·have:eO m=true:=by
       unfold eO at a ⊢;simpa[h]using a
      have:=t.wf this;rwa[b3]at this
     ·exact h
    ·have q:f.aC=2:=by
      unfold eO at a;simp only[List.any_cons,Bool.or_eq_false_iff]at a;have:=of_decide_eq_false a.1;exact Decidable.not_not.1 this
     rcases e with⟨_,h⟩|⟨h,_⟩;·exact sF t.ln h
     ·exact absurd q h
  ·simp only[c];exact lY n aF _ later au l hA h1 h2 hb hd h8 hl hQ.pop hL hr
theorem Dk(n:Nat)(fs:List Fr):∀k,k<=fs.length->(fV n fs k).length=(Num.ay n).length+Fj (fs.take k)
 |0,_=>by simp[fV,Fj]
 |k+1,h=>by show(fV n fs k++bD (fs.getD k iM)).length=_;rw[eT,Dk n fs k aj,List.take_add_one,lg aj];unfold Fj;rw[DU,List.sum_append,eB,lg aj];simp;omega
theorem vM(n:Nat)(fs:List Fr):(fK n fs).length=(Num.ay n).length+Fj fs:=by unfold fK;rw[Dk n fs fs.length (j3 _),List.take_length]
theorem OI:∀(l:List Fr),(∀f∈l,FrG f)->l.length<=Fj l
 |[],_=>mK _
 |f::t,h=>by have h1:=OI t fun g a=>h g (by simp[a]);have b:=(h f aP).sz;unfold Fj at h1 ⊢;simp only[Ea,Em,mI];omega
def mu(M:av)(aF:bW):Nat:=aF.length+(12-M.aJ.length)
structure PP (B:av) (N:Nat) (M:av) (aF:bW):Prop where
 loc:fE M
 ab:dO M B
 ba:dO B M
 bd:Bd M
 dn:Dn aF
 l8:aF.length<=8
 hi:∀r∈aF,r.2<B.next
 nx:M.next+mu M aF<=N
theorem yt{M:av}(h:Bd M):0<=M.au/\M.au<=400:=by unfold av.au;have:=iR M.next;have:=h.mt;omega
theorem Dn.okl{l:bW}(h:Dn l)(a:l.length<=8):zB l=true:=by unfold zB;rw[mE];exact⟨tK.2 fun i hi=>h.at i (by simpa using hi),decide_eq_true aj⟩
theorem Hr{B:av}{N:Nat}{M:av}{aF:bW}{Q:List Nat}(h:PP B N M aF)(I:N<dK)(v:Lq Q)(i:(fill M aF Q M.au).2.2.2≠[]):PP B N ((fill M aF Q M.au).1.dz (fill M aF Q M.au).2.2.2) (fill M aF Q M.au).2.1/\mu ((fill M aF Q M.au).1.dz (fill M aF Q M.au).2.2.2) (fill M aF Q M.au).2.1<mu M aF/\sD M.next (fill M aF Q M.au).2.2.2=true/\(fK M.next (fill M aF Q M.au).2.2.2).length+4<=M.bG/\(fill M aF Q M.au).2.2.2.length<=400/\(∀f∈(fill M aF Q M.au).2.2.2,FrG f):=by
 obtain⟨r0,J⟩:=yt h.bd;have j:(fill M aF Q M.au).1.next=M.next:=ug _ aF Q [] M.au []
 obtain⟨m,t⟩:=lY (Q.length+M.au.toNat+1) aF Q [] M.au [] h.loc h.ab h.ba h.bd h.dn h.l8 h.hi v (fun x g=>by simp at g) r0;have b:FlB B M aF M.au [] (fill M aF Q M.au) m:=t;clear t;generalize fill M aF Q M.au=x at b j i;obtain⟨A,cu,F,fs⟩:=x;simp only at b j i ⊢;have eq:fs=m:=b.eq;subst eq;have H:fE A:=b.loc;have ln:cu.length<=aF.length:=b.ln;have wy:A.aJ=M.aJ:=b.wy;have C:A.bG=M.bG:=b.mt;have P:=rE b.loc b.ab b.ba fs;have c:Bd A:=b.bd;have o:mu (A.dz fs) cu<mu M aF:=by
  unfold mu;by_cases d:eO fs=true
  ·have k:=b.wf d;have:(A.dz fs).aJ=A.aJ++[(A.next,⟨again fs,A.bE⟩)]:=by
    show(if eO fs then _ else _)=_;rw[bK d]
   rw[this,eT,wy];simp only[mI,nU];omega
  ·have s:eO fs=false:=by simpa using d
   have:(A.dz fs).aJ=A.aJ:=by show(if eO fs then _ else _)=_;rw[aU d]
   have G:cu.length<aF.length:=b.ac i s;rw[this,wy];omega
 have gQ:(Fj fs:Int)<=M.au:=b.sz;have z:fs.length<=Fj fs:=OI fs b.fs;have r:(A.dz fs).next=M.next+1:=by show A.next+1=_;rw[j]
 have w:(again fs).length<=fs.length:=List.length_filter_le _ _;have n:∀f∈again fs,EX f:=fun f l=>by
  obtain⟨p,q⟩:=List.mem_filter.1 l;rcases(b.fs f p).kd with e|e;·rw[e]at q;simp at q
  ·exact e
 have u:=h.nx;have E:dK=4611686018427387903:=rfl;refine⟨⟨P.loc,P.ab,P.ba,?_,b.dn,bV h.l8,b.hi,by rw[r];omega⟩,o,?_,?_,aj,b.fs⟩
 ·refine⟨c.o,c.i,c.g,c.lm,c.mt,fun x g=>?_,fun x g=>(c.ls x g).mono (Cr _),?_,?_,c.ll,Nat.le_succ_of_le c.nm,c.cm,fun x g=>?_⟩
  ·by_cases d:eO fs=true
   ·have a:x∈A.aJ++[(A.next,(⟨again fs,A.bE⟩:pz))]:=by
     have:(A.dz fs).aJ=A.aJ++[(A.next,⟨again fs,A.bE⟩)]:=by show(if eO fs then _ else _)=_;rw[bK d]
     rwa[this]at g
    rcases qy.1 a with a|a;·exact(c.wy x a).mono (Cr _)
    ·rw[mY.1 a];exact⟨Nat.lt_succ_self _,by show(again fs).length<=400;omega,n⟩
   ·have:(A.dz fs).aJ=A.aJ:=by
     show(if eO fs then _ else _)=_;rw[aU d]
    rw[this]at g;exact(c.wy x g).mono (Cr _)
  ·show(A.bP++(A.dz fs).aJ).Pairwise _;by_cases d:eO fs=true
   ·have:(A.dz fs).aJ=A.aJ++[(A.next,⟨again fs,A.bE⟩)]:=by
     show(if eO fs then _ else _)=_;rw[bK d]
    rw[this,<-List.append_assoc,List.pairwise_append];refine⟨c.ky,aP,fun x g y D=>?_⟩;rw[mY.1 D];have:x.1<A.next:=by
     rcases qy.1 g with g|g;·exact(c.ls x g).1
     ·exact(c.wy x g).1
    show x.1≠A.next;omega
   ·have:(A.dz fs).aJ=A.aJ:=by
     show(if eO fs then _ else _)=_;rw[aU d]
    rw[this];exact c.ky
  ·by_cases d:eO fs=true
   ·have k:=b.wf d;have:(A.dz fs).aJ=A.aJ++[(A.next,⟨again fs,A.bE⟩)]:=by
     show(if eO fs then _ else _)=_;rw[bK d]
    rw[this,eT,wy];simp only[mI,nU];omega
   ·have:(A.dz fs).aJ=A.aJ:=by
     show(if eO fs then _ else _)=_;rw[aU d]
    rw[this];exact c.wl
  ·show x.2.bE<=A.bE;by_cases d:eO fs=true
   ·have a:x∈A.aJ++[(A.next,(⟨again fs,A.bE⟩:pz))]:=by
     have:(A.dz fs).aJ=A.aJ++[(A.next,⟨again fs,A.bE⟩)]:=by show(if eO fs then _ else _)=_;rw[bK d]
     rwa[this]at g
    rcases qy.1 a with a|a;·exact c.tk x a
    ·rw[mY.1 a];exact j3 _
   ·have:(A.dz fs).aJ=A.aJ:=by
     show(if eO fs then _ else _)=_;rw[aU d]
    rw[this]at g;exact c.tk x g
 ·unfold sD;rw[mE,mE];refine⟨⟨tK.2 fun f l=>(b.fs f l).sn,decide_eq_true aj⟩,decide_eq_true ?_⟩;cases fs with
  |nil=>exact absurd rfl i
  |cons f t=>simp
 ·rw[vM];unfold av.au at gQ;omega
theorem pkp(B:av)(N:Nat)(o:N<dK):PkP (PP B N) mu where
 wk:=fun M aF h=>⟨h.bd.wk h.loc,h.dn.okl h.l8⟩
 fr:=fun M aF u au f M' cu h c d a=>by
  obtain⟨s,D,sl⟩:=tH h.loc h.ab h.ba aF cu u au f c h.hi d a;obtain⟨l,m,n,_,_⟩:=oK h.loc (fun k=>(h.bd.o k).b) aF cu u au f c h.dn d a;obtain⟨g,b2,b3,i,w,y,j⟩:=uo h.loc h.bd aF cu u au f c h.dn h.l8 d a;have q:cu.length<=aF.length:=by rcases j with⟨_,h⟩|⟨_,h,_⟩;omega;rw[h];exact j3 _
  refine⟨⟨s.loc,s.ab,s.ba,g,n,bV h.l8,sl,?_⟩,l,b2.sz,m,b2.ok⟩;have:=h.nx;unfold mu at this ⊢;rw[i,b3];omega
 nm:=fun M aF h=>by obtain⟨r0,C⟩:=yt h.bd;have v:dK=4611686018427387903:=rfl;have:=h.nx;exact⟨h.bd.mt.2,aj,r0,aj,fun x r=>(h.bd.wy x r).1⟩
 pk:=fun M aF Q h p b=>by obtain⟨p1,p2,t,z,A,e⟩:=Hr h o p b;have:=h.bd.mt;exact⟨p1,p2,t,aj,aj,fun f a=>⟨(e f a).ok,(e f a).A9⟩⟩
end Go.Proofs.YtphbledmopchnaaGreatDoor.Sd
namespace Go.Proofs.YtphbledmopchnaaGreatDoor.Sd
open Go.RowKit Go.Lib Mm Tryz
theorem Lf.new{AJ:Own}{s:Nat}{wW:World}{S bw bl bi ab:Nat}{D:Nat->Src}{p:Nat}{oZ aY:Own}{w w':World}{M:av}{aF:bW}{Q:List Nat}{vl:Value}{vs:bO}{pk:List (Nat×List Fr)}(h:Lf AJ s wW S bw bl bi ab D p oZ w M aF Q vl vs pk)(K:Kp [] oZ aY w w'):Lf AJ s wW S bw bl bi ab D p aY w' M aF Q vl vs pk:=by obtain⟨v,hq⟩:=h.qz;exact⟨⟨v,hq.new K⟩,h.lq,h.ql,h.gd.kp K aP,h.li.kp K aP,h.ps.kp K aP,h.kp.trans (K.mono aP)⟩
theorem Lf.app{AJ:Own}{s:Nat}{wW:World}{S bw bl bi ab:Nat}{D:Nat->Src}{p:Nat}{oZ aY:Own}{w w':World}{M:av}{aF:bW}{Q:List Nat}{vl a:Value}{vs:bO}{pk:List (Nat×List Fr)}(h:Lf AJ s wW S bw bl bi ab D p oZ w M aF Q vl vs pk)(v:Value)(n:Nat)(fs:List Fr)(hb:kL w v (bT n fs))(f:∀k,v.ownBlock=some k->oZ k=s+47/\k<w.heap.size)(hd:∀k,v.ownBlock=some k->∀j,j<vs.length->(vs.getD j undef).ownBlock≠some k)(K:Kp [s+52] oZ aY w w')(d:GT aY (s+52) 60 1 w' a (vs.length+1) (vs++[v])):Lf AJ s wW S bw bl bi ab D p aY w' M aF Q a (vs++[v]) (pk++[(n,fs)]):=by
 obtain⟨i,hq⟩:=h.qz;obtain⟨l,vc,e,_⟩:=hq.env;have hs:=e.s0;have b:∀x∈[s+52],x∈Tb s:=fun x g=>ji.2 (by simp at g;omega);have c:VR oZ s w (vs++[v]) (pkB (pk++[(n,fs)])):=by unfold pkB;rw[DU];exact h.ps.add v _ hb f hd
 refine⟨⟨i,hq.qs.kp K b aP aP,hq.z.kp (K.mono b),hq.env.kp K (by simp;omega) aP aP⟩,h.lq,h.ql,h.gd.kp K aP,?_,c.kp K aP,h.kp.trans (K.mono b)⟩;rw[eT];exact d
theorem RL{w:World}{v:Value}{b:List UInt8}(h:kL w v b):∃a n c,v=.slice a n c:=by rcases h with⟨rfl,_⟩|⟨g,cap,cs,rfl,_⟩<;>exact⟨_,_,_,rfl⟩
def lf(M:av):bW:=if M.aT then M.aM.rs.reverse else[]
def PkQ(oZ:Own)(s:Nat)(w:World)(S bw bl bi:Nat)(a:av->Prop)(P:av->bW->Prop)(e:Ending)(w':World):Prop:=
 ∃M1 vl vs aY l' b cu,a M1/\e=.returned vl/\fP aY s w' S l' (fQ ((lf M1).length+14) {M1 with aT:=false} (lf M1) q0 []).1 bw bl bi b/\Gd aY w'/\GT aY (s+52) 60 1 w' vl vs.length vs/\VR aY s w' vs (pkB (fQ ((lf M1).length+14) {M1 with aT:=false} (lf M1) q0 []).2)/\Kp (Tb s) oZ aY w w'/\P (fQ ((lf M1).length+14) {M1 with aT:=false} (lf M1) q0 []).1 cu
theorem Nl(oZ:Own)(s:Nat)(S:Nat)(l:bO)(M:av)(bw bl bi:Nat)(vc:Value)(w:World)(h:fP oZ s w S l M bw bl bi vc)(hg:Gd oZ w)(hy:M.mJ=0)(G:av->Prop)(P:av->bW->Prop)(μ:av->bW->Nat)(hP:PkP P μ)(ha:Calls prog 154 #[aI S 0] w fun e w'=>e=.returned (.tuple #[])/\∃M1 aY l' q,G M1/\fP aY s w' S l' M1 bw bl bi q/\Kp (T0 s) oZ aY w w')(x:∀oZ W l M1 vc,G M1->fP oZ s W S l M1 bw bl bi vc->Calls prog 200 #[aI S 0] W fun e w'=>OJ oZ s W S bw bl bi {M1 with aT:=false} (lf M1) e w')(hp:∀M1,G M1->P {M1 with aT:=false} (lf M1)/\μ {M1 with aT:=false} (lf M1)<(lf M1).length+14/\(lf M1).length<=1000):Calls prog 114 #[aI S 0] w fun e w'=>PkQ oZ s w S bw bl bi G P e w':=by
 have HO:=aG (xK S M.mJ w (by rw[h.cZ.cell];exact h.cells.oU));rw[hy]at HO;have HL:Hid (Calls prog 154 #[aI S 0] w fun e w'=>e=.returned (.tuple #[])/\Hid (∃M1,G M1/\∃aY l' q,fP aY s w' S l' M1 bw bl bi q/\Kp (Tb s) oZ aY w w')):=by refine bN ha ?_;rintro w' ⟨M1,aY,l',q,h1,R,d⟩;exact⟨rfl,M1,h1,aY,l',q,R,d.mono fun z hz=>ji.2 (bV (fG.1 hz))⟩
 have HS:Hid (∀w1 M1,G M1->(∃aY l' q,fP aY s w1 S l' M1 bw bl bi q/\Kp (Tb s) oZ aY w w1)->Calls prog 155 #[aI S 0] w1 fun e w'=>∃p,e=.returned (aI p 0)/\Hid (∃ab aY D v,RG aY s w' S bw bl bi ab D p v q0 {M1 with aT:=false} (lf M1)/\Kp (Tb s) oZ aY w w')):=by rintro w1 M1 h1 ⟨aY,l',q,R,d⟩;refine(Nk aY s S l' M1 {M1 with aT:=false} bw bl bi q (lf M1) w1 R (fun oZ W A=>x oZ W l' M1 q h1 A)).mono ?_;rintro e w' ⟨p,rfl,ab,gu,D,v,h4,Y⟩;exact⟨p,rfl,ab,gu,D,v,h4,d.trans Y⟩
 have HG:=aG hg;have V:=aG hP;have hf:=aG hp;clear h hg hP hp ha x hy;go_enter func114,ntmps114;go_wp2_with (first|(go_at_call 137;refine bN HO.out ?_;rintro w' hu;have h9:=hu.symm;subst h9)|(go_at_call 154;refine bN HL.out ?_;rintro w1 NZ)|(go_at_call 155;obtain⟨M1,I,hx⟩:=NZ.out;refine(HS.out w1 M1 I hx).mono ?_;rintro e w2 ⟨p,rfl,HQ⟩;have U:=aG I;clear I hx NZ)|go_in);obtain⟨ab,gu,D,v,hq,K2⟩:=HQ.out;have x0:0<s:=by obtain⟨l,vc,A,_⟩:=hq.env;exact A.s0
 have h0:Lf oZ s w S bw bl bi ab D p gu w2 {M1 with aT:=false} (lf M1) q0 nZ [] []:=⟨⟨v,hq⟩,lq0,iO,HG.out.kp K2 (fun z=>bV (ji.1 z)),.inl ⟨rfl,rfl,rfl⟩,⟨rfl,(fun j hj=>by cases hj),fun i j _ hj=>by cases hj⟩,K2⟩;have H0:=aG h0;clear h0 hq HQ;obtain⟨X,hX⟩:∃X,X=fQ ((lf M1).length+14) {M1 with aT:=false} (lf M1) q0 []:=⟨_,rfl⟩;have HX:=aG hX;have sJ:Hid (∀aY l' q cu vl vs w',fP aY s w' S l' X.1 bw bl bi q->Gd aY w'->GT aY (s+52) 60 1 w' vl vs.length vs->VR aY s w' vs (pkB X.2)->Kp (Tb s) oZ aY w w'->P X.1 cu->PkQ oZ s w S bw bl bi G P (.returned vl) w'):=by intro aY l' q cu vl vs w' g1 g2 g3 g4 g5 g6;rw[hX]at g1 g4 g6;exact⟨M1,vl,vs,aY,l',q,cu,U.out,rfl,g1,g2,g3,g4,g5,g6⟩
 obtain⟨a1,a2,a3⟩:=hf.out M1 U.out;have HA:=aG (dB a1 (dB a2 a3));clear a1 a2 a3 hX K2;go_loopg [4] (μ {M1 with aT:=false} (lf M1)) (fun kx s4 wr=>∃(C:Own) (M:av) (aF:bW) (Q:List Nat) (vs:bO) (pk:List (Nat×List Fr)),Hid (Lf oZ s w S bw bl bi ab D p C wr M aF Q s4 vs pk/\P M aF/\∃n,μ M aF<n/\pk.length+n<=2000/\fQ n M aF Q pk=X)/\Hid (μ M aF<=kx));case atStart=>exact⟨gu,{M1 with aT:=false},lf M1,q0,[],[],(⟨H0.out,HA.out.1,(lf M1).length+14,HA.out.2.1,by have:=HA.out.2.2;simp;omega,HX.out.symm⟩:_/\_),j3 _⟩
 case round=>
  obtain⟨C,M,aF,Q,vs,pk,HI,HK⟩:=hrel;obtain⟨O,o,n,hn,hl,c⟩:=HI.out;obtain⟨e1,e2,e3,e4,_⟩:=V.out.nm M aF o;obtain⟨v0,K⟩:=O.qz;obtain⟨sl,x2,A,_⟩:=K.env;have c0:wr.cell? (aB S 0)=some (iZ M.bG):=by rw[A.cZ.cell];exact A.cells.c0
  have oo:wr.cell? (aB S 229)=some (uZ M.next):=by rw[A.cZ.cell];exact A.cells.oo
  have HR:Hid (Calls prog 157 #[iZ M.bG,uZ M.next] wr.drew fun e w'=>e=.returned (iZ ((M.bG:Int)-((Num.ay M.next).length:Int)-4))/\bJ wr w'):=by refine bN (TL M.bG M.next wr.drew e1 aj) ?_;rintro w' hb;exact⟨rfl,hb.os,hb.tape,hb.output,hb.size,hb.block⟩
  obtain⟨m,rfl⟩:∃m,n=m+1:=⟨n-1,aj⟩;unfold fQ at c;by_cases r:(fill M aF Q M.au).2.2.2=[]
  ·rw[bK r]at c;have HF:Hid (∀b,bJ wr b->Calls prog 156 #[aI p 0,(iZ ((M.bG:Int)-((Num.ay M.next).length:Int)-4))] b fun e w'=>e=.returned nZ/\Hid (PkQ oZ s w S bw bl bi G P (.returned u4) w')):=fun b f=>by
    have d:=O.new (Kp.below f);refine(d.fill o V.out).mono ?_;rintro e w' ⟨SQ,v4,vl,vt,L,rfl,hL,F,E⟩;have hm:L=[]:=by rw[r]at hL;exact List.map_eq_nil_iff.1 hL
    obtain⟨l5,hv,h7,_⟩:=F.env;have ho:(fill M aF Q M.au).1=X.1:=by rw[<-c]
    rw[ho]at h7 E;refine⟨by rw[F.nl hm],sJ.out SQ l5 hv _ u4 vs w' h7 (d.gd.kp F.kp fun z=>bV (oJ.1 z)) (d.li.kp F.kp fun z=>bV (oJ.1 z)) ?_ (d.kp.trans (F.kp.mono (qa7 s))) E⟩;rw[<-c];exact d.ps.kp F.kp fun z=>bV (oJ.1 z)
   have q1:=BX;clear O o c K A HI;go_wp2_with fail;go_region_with (first|(go_at_call 157;refine bN HR.out ?_;rintro b f)|(go_at_call 156;refine bN (HF.out b f) ?_;rintro N HE));all_goals(go_wp2;go_ret;exact HE.out)
  ·rw[aU r]at c;obtain⟨b1,b2,b3,b4,b5,b6⟩:=V.out.pk M aF Q o O.lq r;have HF:Hid (∀b,bJ wr b->Calls prog 156 #[aI p 0,(iZ ((M.bG:Int)-((Num.ay M.next).length:Int)-4))] b fun e w'=>∃g fn fc,e=.returned (dP g fn fc)/\Hid (∃C,Lf oZ s w S bw bl bi ab D p C b M aF Q u4 vs pk/\Df C s b S bw bl bi ab D p P (Sd.fill M aF Q M.au) (.returned (dP g fn fc)) w')):=fun b f=>by
    have d:=O.new (Kp.below f);refine(d.fill o V.out).mono ?_;intro e w' hQ;obtain⟨SQ,v4,vl,vt,L,rfl,hL,F,E⟩:=hQ;have hw:0<L.length:=by
     cases L with
     |nil=>exact absurd hL.symm r
     |cons a t=>simp
    have hr:=F.fr;rcases hr with⟨_,R,_⟩|⟨g,cap,cs,rfl,_⟩;·omega
    ·exact⟨g,_,cap,rfl,C,d,SQ,v4,_,vt,L,rfl,hL,F,E⟩
   have he:Hid (∀b N fl,(∃C,Lf oZ s w S bw bl bi ab D p C b M aF Q u4 vs pk/\Df C s b S bw bl bi ab D p P (Sd.fill M aF Q M.au) (.returned fl) N)->Calls prog 158 #[aI S 0,fl] N fun e u=>∃va B vc,e=.returned (.slice va B vc)/\Hid (∃v6 w6 jZ,(∀ty,(Builtin.append_ #[131,131] ty #[u4,dP u.heap.size 1 1]).run prog (u.alloc (.cells #[.slice va B vc] 60))=.ok v6 w6)/\Lf oZ s w S bw bl bi ab D p jZ w6 ((Sd.fill M aF Q M.au).1.dz (Sd.fill M aF Q M.au).2.2.2) (Sd.fill M aF Q M.au).2.1 (Sd.fill M aF Q M.au).2.2.1 v6 (vs++[.slice va B vc]) (pk++[(M.next,(Sd.fill M aF Q M.au).2.2.2)]))):=by
    rintro b N fl ⟨C,d,h4⟩;refine(d.dz o V.out r fl h4).mono ?_;rintro e u ⟨v,rfl,_,ny,Y,H,J⟩;obtain⟨va,B,vc,rfl⟩:=RL H;refine⟨va,B,vc,rfl,?_⟩;have h8:bJ u (u.alloc (.cells #[.slice va B vc] 60)):=(Below.refl _ u).alloc (j3 _) _;have B5:aS (u.alloc (.cells #[.slice va B vc] 60)) u.heap.size 60 [.slice va B vc]:=aS.new u 60 _;have h6:=Y.new (Kp.below h8);have x1:vs.length<=2000:=by have:=h6.ps.1;unfold pkB at this;rw[wz]at this;omega
    obtain⟨v6,w6,jZ,run,hG,K6⟩:=gq qgs h6.li (aB u.heap.size 0) 1 1 [.slice va B vc] rfl (fun z hz=>by rw[mY.1 hz];rfl) (fun j y hy=>by
     have e:(aB u.heap.size 0).add j=(aB u.heap.size j):=by rw[Addr.add_lit,Ew]
     rw[e,B5.cell,hy]) aj
    exact⟨v6,w6,jZ,run,h6.app _ _ _ (H.alloc _) (fun k hk=>⟨(J k hk).1,Bf (J k hk).2.1 h8.size⟩) (fun k hk=>(J k hk).2.2) K6 hG⟩
   have HB:=aG (dB b1 (dB b2 (dB hn (dB hl c))));clear O o c K A HI b1 b2 b3 b4 b5 b6;go_wp2_with fail;go_region_with (first|(go_at_call 157;refine bN HR.out ?_;rintro b f)|(go_at_call 156;refine(HF.out b f).mono ?_;rintro e N ⟨fg,fn,fc,rfl,HE⟩));all_goals(
    have q2:=zY N (aB fg 0) fn fc;go_wp2_with (first|(go_at_call 158;refine(he.out b N _ HE.out).mono ?_;rintro e u ⟨va,B,vc,rfl,T⟩;obtain⟨v6,w6,jZ,VP,Z⟩:=T.out;have hc:=aG Z;clear T Z)|(at_builtin;refine Lib.wpList_append_run _ rfl _ _ _ _ rfl _ _ rfl rfl _ _ (VP _) ?_)|go_in);go_roundg (μ ((fill M aF Q M.au).1.dz (fill M aF Q M.au).2.2.2) (fill M aF Q M.au).2.1);case measure=>have h1:=HK.out;have R:=HB.out.2.1;omega
    case rel=>obtain⟨h1,R,d,h4,Y⟩:=HB.out;exact⟨jZ,_,_,_,_,_,(⟨hc.out,h1,m,aj,by rw[eT];simp;omega,Y⟩:_/\_),(j3 _:μ ((fill M aF Q M.au).1.dz (fill M aF Q M.au).2.2.2) (fill M aF Q M.au).2.1<=_)⟩)
end Go.Proofs.YtphbledmopchnaaGreatDoor.Sd
namespace Go.Proofs.YtphbledmopchnaaGreatDoor.Sd
open St Tryz
theorem Xg{n:Nat}(h:n<64):(Num.ay n).length=1:=by
 rw[Num.gy];have:Num.code n=0:=by unfold Num.code;rw[bK h]
 rw[this]
theorem Xh{n:Nat}(h:n<16384):(Num.ay n).length<=2:=by
 rw[Num.gy];have:Num.code n<=1:=by
  unfold Num.code;repeat' split
  all_goals omega
 have:=rX (n:=2) iO this;omega
theorem Sk{n:Nat}(h:n<1073741824):(Num.ay n).length<=4:=by
 rw[Num.gy];have:Num.code n<=2:=by
  unfold Num.code;repeat' split
  all_goals omega
 have:=rX (n:=2) iO this;omega
def Sml(l:bW):Prop:=∀r∈l,r.1<1073741824/\r.2<1073741824
theorem Sml.at{l:bW}(h:Sml l)(k:Nat):(l.getD k (0,0)).1<1073741824/\(l.getD k (0,0)).2<1073741824:=by
 rw[eB];cases a:l[k]? with
 |none=>exact⟨iO,iO⟩
 |some r=>exact h r (List.mem_of_getElem? a)
theorem O8{l:bW}(h:Sml l):∀k,(iI l k).length<=8*k
 |0=>j3 _
 |k+1=>by rw[iI,eT,eT];have:=O8 h k;have h1:=h.at k;have a:=h.at (k+1);have:=Sk (n:=(l.getD k (0,0)).1-(l.getD (k+1) (0,0)).2-2) aj;have:=Sk (n:=(l.getD (k+1) (0,0)).2-(l.getD (k+1) (0,0)).1) aj;omega
theorem Xi{l:bW}(h:Sml l)(a:0<l.length)(b:l.length<=8):(bD (gH l)).length<=10*l.length:=by have e:bD (gH l)=[]++[UInt8.ofNat 2]++gK l:=rfl;rw[e];unfold gK jV;have:=O8 h (l.length-1);have h1:=h.at 0;have:=Sk h1.2;have:=Xg (n:=l.length-1) aj;have:=Sk (n:=(l.getD 0 (0,0)).2-(l.getD 0 (0,0)).1) aj;simp only[eT,mI,nU];omega
theorem qag{x:Nat}(h:x<1073741824):(bD (jO 5 0 x)).length<=5:=by have e:bD (jO 5 0 x)=[]++[UInt8.ofNat 16]++Num.ay x:=rfl;rw[e];have:=Sk h;simp only[eT,mI,nU];omega
theorem qah{k x:Nat}(a:k<64)(h:x<16384):(bD (jO 6 k x)).length<=4:=by have e:bD (jO 6 k x)=[]++[UInt8.ofNat 17]++Num.ay ((k:Int).toNat)++Num.ay x:=rfl;rw[e];have:=Xh h;have:=Xg (n:=(k:Int).toNat) aj;simp only[eT,mI,nU];omega
theorem qfa{f:Fr}(h:f.aC=4)(hs:f.aH.toNat<8)(a:f.aD<16384)(hd:f.data.size<16384):(bD f).length<=6+f.data.size:=by rw[qN f h];have:=Xg (n:=f.aH.toNat) aj;have:=Xh a;have:=Xh hd;omega
theorem DK(aF:bW)(au:Int):∀n,0<n->fA aF au n=0->au<((bD (gH (aF.take 1))).length:Int)
 |0,h,_=>absurd h (Es _)
 |n+1,_,h=>by
  unfold fA at h;split at h;·cases h
  ·rename_i c;cases n with
   |zero=>exact Int.not_le.1 c
   |succ m=>exact DK aF au (m+1) aj h
theorem kI{A:av}(bd:Bd A)(k:Nat):(A.bF k).aQ<=2048:=by
 unfold eH.aQ;split;·exact(bd.i k).f
 ·exact(bd.i k).r
theorem KP:∀(l:List eH) (s:Nat),(∀i∈l,i.aQ<=2048)->l.foldl (fun s i=>min (s+i.aQ) dK) s<=s+2048*l.length
 |[],s,_=>aP
 |i::t,s,h=>by have:=KP t (min (s+i.aQ) dK) fun j a=>h j (by simp[a]);have:=h i aP;simp only[List.foldl_cons,mI];omega
theorem rR{A:av}(a:fE A)(bd:Bd A):A.aQ<=16384:=by
 have:=KP A.ins 0 fun i hi=>by obtain⟨k,b,e⟩:=List.getElem_of_mem hi;have:=kI bd k;unfold av.bF at this;rw[eB,lg b,tO,e]at this;exact this
 rw[a.li]at this;exact qA this aj
theorem vk{g:Gn}{x:Nat}(h:g.ahead<=4096):g.iB x<=x+4096:=by unfold Gn.iB;omega
def Ot.o9(o:Ot)(aN:Nat):Nat:=if o.fO (o.reach aN)then o.reach aN+1 else o.reach aN
theorem O9(o:Ot)(c:Nat):o.o9 c<=o.ay.length+1:=by unfold Ot.o9 Ot.reach;split<;>omega
theorem Sl{o:Ot}{c c':Nat}(h:c'<=c):o.o9 c'<=o.o9 c:=by
 have h1:o.reach c'<=o.reach c:=by unfold Ot.reach;omega
 have b:o.reach c<=o.ay.length:=by unfold Ot.reach;omega
 unfold Ot.o9;by_cases e:o.fO (o.reach c')=true
 ·have a:o.reach c'=o.ay.length:=by
   unfold Ot.fO at e;simp only[mE,decide_eq_true_eq]at e;exact e.2
  rw[show o.reach c=o.reach c' by omega];exact j3 _
 ·rw[aU e];split<;>omega
theorem nW{o:Ot}(h:vw o.cK)(c:Nat):o.aK c=true↔∃p,p<o.o9 c/\¬Rg.Mem o.cK.rs p:=by
 obtain⟨a,b,c1,d⟩:=zH o.cK.rs 0 (o.o9 c) h.so (fun _ _=>mK _);have e:o.b_ c=gL 0 o.cK.rs (o.o9 c):=by show gL o.cK.fl o.cK.rs _=_;rw[h.fl];rfl
 unfold Ot.aK;rw[decide_eq_true_eq,e];constructor;·intro h;have:=uJ o.cK.rs 0 (o.o9 c);exact⟨_,aj,b _ (j3 _) h⟩
 ·rintro⟨p,hp,f⟩;refine Decidable.byContradiction fun g=>f (a p (mK _) ?_);have:=d g;omega
theorem Sn{o:Ot}{k c:Nat}{au:Int}(u:k<8)(hb:o.ay.length<=2048)(t:o.aK c=true)(a:o.next k au c=none):au<10:=by
 refine Decidable.byContradiction fun v=>?_;have h:(o.b_ c).1<(o.b_ c).2:=of_decide_eq_true t;have f:(o.b_ c).2<=o.o9 c:=uJ _ _ _;have s:=O9 o c;obtain⟨lo,g⟩:=bZ ((o.b_ c).1);obtain⟨j,i⟩:=bZ ((o.b_ c).2);unfold Ot.next at a;simp only[<-g,<-i]at a h f;have hs:(bD (nD k lo)).length<=5:=by rw[qN _ rfl];have l:(nD k lo).data.size=0:=rfl;rw[l];have:=Xg (n:=(nD k lo).aH.toNat) (by show((k:Int)).toNat<64;omega);have:=Xh (n:=(nD k lo).aD) (by show lo<16384;omega);have:=Xg (n:=0) aj;omega
 unfold mZ at a;rw[aU aj]at a;simp only at a;split at a
 ·rename_i p;obtain⟨h1,d⟩:=p;have e:((o.ay.take (min j o.ay.length)).drop lo).length=min j o.ay.length-lo:=by rw[CZ,nI];omega
  obtain⟨b,eb⟩:=bZ ((o.ay.take (min j o.ay.length)).drop lo);rw[<-eb]at d e;obtain⟨r,er⟩:=bZ ((au-((bD (nD k lo)).length:Int)).toNat);rw[<-er]at d;have q:5<=r:=aj;have m:(b.take (min (min b.length r) (r-((Num.ay (min b.length r)).length-1)))).length=0:=by have:(⟨(b.take (min (min b.length r) (r-((Num.ay (min b.length r)).length-1)))).toArray⟩:ByteArray).size=0:=d;rw[<-Bu];exact this
  rw[nI]at m;have:=Xh (n:=min b.length r) aj;omega
 ·cases a
theorem KQ{g:Gn}{aC:Int}{k aQ:Nat}{au:Int}(h:g.next aC k aQ au=none):au<((bD (jO aC k (g.iB aQ))).length:Int):=by
 unfold Gn.next at h;split at h;·assumption
 ·cases h
theorem ND{A:av}{aF:bW}{u:Nat}{au:Int}(d:fE A)(bd:Bd A)(m:u<48)(hl:Sml aF)(a:A.aK aF u=true)(b:A.frame aF u au=none):au<10:=by
 unfold av.frame at b;unfold av.aK at a;have hq:(A.n_:Int)=0:=by unfold av.n_;rw[d.q];rfl
 by_cases u0:u=0
 ·rw[bK u0]at b a;have f:0<aF.length:=of_decide_eq_true a;split at b;·rename_i i;have h1:=DK aF au _ f i;have e:=Xi (l:=aF.take 1) (fun r j=>hl r (xQ j)) (by rw[nI];omega) (by rw[nI];omega);rw[nI]at e;omega
  ·cases b
 rw[aU u0]at b a;simp only[mE]at a;replace a:=a.2;by_cases u8:u=8;·rw[bK u8,hq]at b;have h1:=KQ (o8.1 b);have e:=rR d bd;have h:=vk (g:=A.gr) (x:=A.aQ) bd.g.1;have:=qag (x:=A.gr.iB A.aQ) aj;omega
 rw[aU u8]at b a;by_cases u24:u<24;·rw[bK u24,hq]at b;have h1:=KQ (o8.1 b);have e:=kI bd (u-16);have h:=vk (g:=(A.bF (u-16)).gr) (x:=(A.bF (u-16)).aQ) (bd.i _).g.1;have:=qah (k:=u-16) (x:=(A.bF (u-16)).gr.iB (A.bF (u-16)).aQ) aj aj;omega
 rw[aU u24]at b a;by_cases u32:u<32;·rw[bK u32]at a;unfold Nt.aK at a;rw[(d.wr _).bX]at a;cases a
 rw[aU u32]at b a;by_cases c:u=32;·rw[bK c,d.q]at a;simp at a
 rw[aU c]at b a;exact Sn aj (bd.o _).b a (o8.1 b)
