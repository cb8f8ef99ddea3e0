import Derived.Test.YtphbledmopchnaaGreatDoorLdc
import Derived.Test.YtphbledmopchnaaGreatDoorLbe
open Array renaming getElem?_eq_some_iff->mY
open Go.RowKit.Below renaming refl->tL
open Bool renaming not_eq_true'->rX
open Int renaming natCast_add->Cr
open List renaming getD_eq_getElem?_getD->eT,mem_filter->j3,getElem?_eq_getElem->lg,prefix_refl->mE,mem_append->mR,getElem?_eq_none->nA,getElem?_replicate_of_lt->nI,length_map->nP,mem_cons->o8,replicate->qx,mem_singleton->qy,length_filter_le->tK,map_append->tO,mem_map->tT,getElem?_append_right->uj,append_assoc->wz,getElem?_map->xB,take_add_one->xQ,getElem?_append_left->yP,getElem?_take_of_lt->Bf,filter_append_perm->Bu,filter_map->CP,mem_range'->CZ,sum_append->DU,take_of_length_le->Ea,getElem?_set_ne->Es,map_congr_left->Ew,getElem?_drop->Fe,length_append->FR,pairwise_cons->FU,foldl_append->F3,range'->Gt,any_eq_true->Gy,length_cons->Ht,length_drop->H8,length_take->Iq,not_mem_nil->IG,length_set->Jy,range->JH,map_cons->KG,filter->K8
open Nat renaming le_refl->eB,zero_le->mI,lt_of_lt_of_le->mK,le_trans->og,le_add_right->sF,min_le_right->I7,max_le->Ko,not_lt_zero->Kt,lt_irrefl->KT
open Option renaming map_eq_some_iff->nU
open Go.RowKit renaming intOf->nV
open Go.World renaming putObj_heap_other->qA,putObj_heap_same->Em,alloc_heap_new->Ev,grownBy_alloc->EF
set_option maxHeartbeats 4000000
set_option maxRecDepth 100000
namespace Go.Proofs.YtphbledmopchnaaGreatDoor.Sd
open Go.RowKit Go.Lib Mm Tryz
structure SdL (l:bO) (M:av) (bw bl bi:Nat) (vc:Value):Prop where
 len:l.length=240
 c0:l[0]?=some (iZ M.bG)
 c1:l[1]?=some (iZ M.aO)
 c2:l[2]?=some (iZ M.aX)
 c3:l[3]?=some (uZ M.bE)
 rC:l[220]?=some (uZ M.aL)
 gr:vX l 221 M.gr
 tN:l[225]?=some (iZ 8)
 tQ:l[226]?=some (uZ M.aM.fl)
 pV:l[227]?=some vc
 nG:l[228]?=some (.bool M.aT)
 oo:l[229]?=some (uZ M.next)
 oQ:l[230]?=some (.map (some bw))
 sG:l[231]?=some (.map (some bl))
 nH:l[232]?=some (uZ M.named)
 pW:l[233]?=some nZ
 vB:l[234]?=some (uZ 0)
 sH:l[235]?=some nZ
 vC:l[236]?=some (uZ 0)
 vD:l[237]?=some (.map (some bi))
 oU:l[238]?=some (iZ M.mJ)
 vE:l[239]?=some (.bool M.parted)
theorem SdL.gN{l l':bO}{M:av}{bw bl bi:Nat}{vc:Value}(h:SdL l M bw bl bi vc){o n:Nat}(w:kW l l' o n)(h1:4<=o)(a:o+n<=220):SdL l' M bw bl bi vc:=by have e:∀j,j<4\/220<=j->l'[j]?=l[j]?:=fun j b=>w.2 j aj;exact⟨w.1.trans h.len,by rw[e _ aj,h.c0],by rw[e _ aj,h.c1],by rw[e _ aj,h.c2],by rw[e _ aj,h.c3],by rw[e _ aj,h.rC],h.gr.gN w aj,by rw[e _ aj,h.tN],by rw[e _ aj,h.tQ],by rw[e _ aj,h.pV],by rw[e _ aj,h.nG],by rw[e _ aj,h.oo],by rw[e _ aj,h.oQ],by rw[e _ aj,h.sG],by rw[e _ aj,h.nH],by rw[e _ aj,h.pW],by rw[e _ aj,h.vB],by rw[e _ aj,h.sH],by rw[e _ aj,h.vC],by rw[e _ aj,h.vD],by rw[e _ aj,h.oU],by rw[e _ aj,h.vE]⟩
def T0(s:Nat):List Nat:=Gt s 45
theorem fG{s x:Nat}:x∈T0 s↔s<=x/\x<s+45:=by
 unfold T0;rw[CZ];constructor;·rintro⟨i,h,rfl⟩;omega
 ·rintro⟨h1,a⟩;exact⟨x-s,aj,aj⟩
def yZ:List Fr->bO
 |[]=>[]
 |f::t=>gG f nZ++yZ t
def DT(f:Nat->Option Addr×Nat)(x:Nat×pz):jA:=(x.1,(f x.1).1,x.2.bI.length,(f x.1).2,x.2.bE)
def sM(oZ:Own)(t tf:Nat)(w:World)(b:Nat)(l:List (Nat×pz)):Prop:=
 ∃f,oZ b=t/\kR w b (l.map (DT f))/\∀x∈l,GT oZ tf 65 10 w (.slice (f x.1).1 x.2.bI.length (f x.1).2) x.2.bI.length (yZ x.2.bI)
theorem sM.kp{oZ aY:Own}{t tf:Nat}{w w':World}{b:Nat}{l:List (Nat×pz)}{T:List Nat}(h:sM oZ t tf w b l)(K:Kp T oZ aY w w')(e:t∉T)(d:tf∉T):sM aY t tf w' b l:=by obtain⟨f,h1,a,c⟩:=h;exact⟨f,by rw[K.ext b a.lt,h1],a.kept (K.cZ b a.lt (by rw[h1];exact e)),fun x g=>(c x g).kp K d⟩
structure fP (oZ:Own) (s:Nat) (w:World) (S:Nat) (l:bO) (M:av) (bw bl bi:Nat) (vc:Value):Prop where
 ow:oZ S=s
 s0:0<s
 cZ:aS w S TS l
 cells:SdL l M bw bl bi vc
 out:∀k,k<8->BP oZ (s+1+5*k) w S l (4+27*k) (M.out k)
 bF:∀k,k<8->EG oZ (s+4+5*k) w l (18+27*k) (M.bF k)
 row:mh oZ (s+41) w S vc M.aM.rs
 sI:sM oZ (s+42) (s+44) w bw M.aJ
 bP:sM oZ (s+43) (s+44) w bl M.bP
 lo:M.outs.length=8
 li:M.ins.length=8
theorem fP.kp{oZ aY:Own}{s:Nat}{w w':World}{S:Nat}{l:bO}{M:av}{bw bl bi:Nat}{vc:Value}{T:List Nat}(h:fP oZ s w S l M bw bl bi vc)(K:Kp T oZ aY w w')(a:∀x,s<=x->x<s+45->x∉T):fP aY s w' S l M bw bl bi vc:=
 ⟨by rw[K.ext S h.cZ.lt,h.ow],h.s0,cO h.cZ K (by rw[h.ow];exact a _ aj aj),h.cells,fun k b=>(h.out k b).kp K (a _ aj aj) (a _ aj aj) (a _ aj aj) (kW.refl l (4+27*k+14) 0) aj,fun k b=>(h.bF k b).kp K (a _ aj aj) (a _ aj aj) (kW.refl l (18+27*k+13) 0) aj,h.row.kp K (a _ aj aj),h.sI.kp K (a _ aj aj) (a _ aj aj),h.bP.kp K (a _ aj aj) (a _ aj aj),h.lo,h.li⟩
theorem fP.below{oZ:Own}{s:Nat}{w w':World}{S:Nat}{l:bO}{M:av}{bw bl bi:Nat}{vc:Value}(h:fP oZ s w S l M bw bl bi vc)(hb:bJ w w'):fP oZ s w' S l M bw bl bi vc:=h.kp (Kp.below (T:=[]) hb) aP
def jC(s:Nat)(oZ:Own)(w:World)(S:Nat)(bw bl bi:Nat)(M':av)(w':World):Prop:=∃aY l' a,fP aY s w' S l' M' bw bl bi a/\Kp (T0 s) oZ aY w w'
theorem jC.refl{s:Nat}{oZ:Own}{w w':World}{S:Nat}{l:bO}{bw bl bi:Nat}{vc:Value}{M:av}(h:fP oZ s w S l M bw bl bi vc)(hb:bJ w w'):jC s oZ w S bw bl bi M w':=⟨oZ,l,vc,h.below hb,Kp.below hb⟩
theorem fP.dD{oZ:Own}{s:Nat}{w w':World}{S:Nat}{l:bO}{M:av}{bw bl bi:Nat}{vc:Value}(h:fP oZ s w S l M bw bl bi vc)(k:Nat)(i:k<8)(m:Ot)(q:ko s (s+1+5*k) oZ S (4+27*k) l w m w'):jC s oZ w S bw bl bi (M.dD k m) w':=by
 obtain⟨aY,l',K,hB,wi,g⟩:=q;have a:∀x,x∈[s,s+1+5*k,s+1+5*k+1,s+1+5*k+1+1]->x=s\/(s+1+5*k<=x/\x<=s+3+5*k):=fun x f=>by simp only[o8,IG,or_false]at f;omega
 have n:∀j,(M.dD k m).out j=if j=k then m else M.out j:=fun j=>by
  rw[fB,h.lo];by_cases b:j=k;·rw[bK ⟨b,i⟩,bK b]
  ·rw[aU (fun x=>b x.1),aU b]
 refine⟨aY,l',vc,⟨by rw[K.ext S h.cZ.lt,h.ow],h.s0,hB,?_,fun j b=>?_,fun j b=>?_,h.row.kp K (fun e=>bV (a _ e)),h.sI.kp K (fun e=>bV (a _ e)) (fun e=>bV (a _ e)),h.bP.kp K (fun e=>bV (a _ e)) (fun e=>bV (a _ e)),(iP _ _ _).trans h.lo,h.li⟩,K.mono fun x f=>fG.2 (bV (a x f))⟩;·have c:=h.cells.gN wi aj aj;exact⟨c.len,c.c0,c.c1,c.c2,c.c3,c.rC,c.gr,c.tN,c.tQ,c.pV,c.nG,c.oo,c.oQ,c.sG,c.nH,c.pW,c.vB,c.sH,c.vC,c.vD,c.oU,c.vE⟩
 ·rw[n];by_cases d:j=k;·subst d;rw[bK rfl];exact g
  ·rw[aU d];exact(h.out j b).kp K (fun e=>bV (a _ e)) (fun e=>bV (a _ e)) (fun e=>bV (a _ e)) wi aj
 ·exact(h.bF j b).kp K (fun e=>bV (a _ e)) (fun e=>bV (a _ e)) wi aj
theorem fP.eG{oZ:Own}{s:Nat}{w w':World}{S:Nat}{l:bO}{M:av}{bw bl bi:Nat}{vc:Value}(h:fP oZ s w S l M bw bl bi vc)(k:Nat)(i:k<8)(m:eH)(q:Uh s (s+4+5*k) oZ S (18+27*k) l w m w'):jC s oZ w S bw bl bi (M.eG k m) w':=by
 obtain⟨aY,l',K,hB,wi,g⟩:=q;have a:∀x,x∈[s,s+4+5*k,s+4+5*k+1]->x=s\/(s+4+5*k<=x/\x<=s+5+5*k):=fun x f=>by simp only[o8,IG,or_false]at f;omega
 have n:∀j,(M.eG k m).bF j=if j=k then m else M.bF j:=fun j=>by
  rw[dQ,h.li];by_cases b:j=k;·rw[bK ⟨b,i⟩,bK b]
  ·rw[aU (fun x=>b x.1),aU b]
 refine⟨aY,l',vc,⟨by rw[K.ext S h.cZ.lt,h.ow],h.s0,hB,?_,fun j b=>?_,fun j b=>?_,h.row.kp K (fun e=>bV (a _ e)),h.sI.kp K (fun e=>bV (a _ e)) (fun e=>bV (a _ e)),h.bP.kp K (fun e=>bV (a _ e)) (fun e=>bV (a _ e)),h.lo,(iP _ _ _).trans h.li⟩,K.mono fun x f=>fG.2 (bV (a x f))⟩;·have c:=h.cells.gN wi aj aj;exact⟨c.len,c.c0,c.c1,c.c2,c.c3,c.rC,c.gr,c.tN,c.tQ,c.pV,c.nG,c.oo,c.oQ,c.sG,c.nH,c.pW,c.vB,c.sH,c.vC,c.vD,c.oU,c.vE⟩
 ·exact(h.out j b).kp K (fun e=>bV (a _ e)) (fun e=>bV (a _ e)) (fun e=>bV (a _ e)) wi aj
 ·rw[n];by_cases d:j=k;·subst d;rw[bK rfl];exact g
  ·rw[aU d];exact(h.bF j b).kp K (fun e=>bV (a _ e)) (fun e=>bV (a _ e)) wi aj
theorem fP.cell{oZ:Own}{s:Nat}{w w':World}{S:Nat}{l l':bO}{M M':av}{bw bl bi:Nat}{vc:Value}(h:fP oZ s w S l M bw bl bi vc)(o n:Nat)(t:o+n<=4\/220<=o)(q:gM w w' S l l' o n)(r:SdL l' M' bw bl bi vc)(d:M'.outs=M.outs)(f:M'.ins=M.ins)(g:M'.aM=M.aM)(i:M'.aJ=M.aJ)(k:M'.bP=M.bP):jC s oZ w S bw bl bi M' w':=by
 have K:Kp [s] oZ oZ w w':=q.kp h.ow aP;have a:∀x,x∈[s]->x=s:=fun x c=>by simpa using c
 have p:∀j,M'.out j=M.out j:=fun j=>by unfold av.out;rw[d]
 have m:∀j,M'.bF j=M.bF j:=fun j=>by unfold av.bF;rw[f]
 refine⟨oZ,l',vc,⟨h.ow,h.s0,q.cZ,r,fun j b=>?_,fun j b=>?_,?_,?_,?_,by rw[d];exact h.lo,by rw[f];exact h.li⟩,K.mono fun x c=>fG.2 (bV (a x c))⟩;·rw[p];exact(h.out j b).kp K (fun e=>bV (a _ e)) (fun e=>bV (a _ e)) (fun e=>bV (a _ e)) q.gN aj
 ·rw[m];exact(h.bF j b).kp K (fun e=>bV (a _ e)) (fun e=>bV (a _ e)) q.gN aj
 ·rw[g];exact h.row.kp K (fun e=>bV (a _ e))
 ·rw[i];exact h.sI.kp K (fun e=>bV (a _ e)) (fun e=>bV (a _ e))
 ·rw[k];exact h.bP.kp K (fun e=>bV (a _ e)) (fun e=>bV (a _ e))
end Go.Proofs.YtphbledmopchnaaGreatDoor.Sd
namespace Go.Proofs.YtphbledmopchnaaGreatDoor.Sd
open St Tryz
theorem Qw{A B:av}(a:fE A)(h1:dO A B)(b:dO B A)(f:Fr):tu A B (A.eP f):=by
 unfold av.eP;split;·exact j_ a h1 b _ _ ⟨(a.wr _).sl,(a.wr _).sb,(a.wr _).bX⟩ rfl (eB _) (mE _) (fun e=>⟨e,rfl⟩) (sF _ _)
 ·split;·exact j_ a h1 b _ _ ⟨(a.wr _).sl,(a.wr _).sb,(a.wr _).bX⟩ rfl (eB _) (mE _) (fun e=>⟨e,rfl⟩) (sF _ _)
  ·split;·exact tC a h1 b _ _ (NW (b.rd _) _ (eB _)) (eB _) (eB _) (a.it _)
   ·exact LC a h1 b _ rfl (eB _) a.gt
theorem ET{A B:av}(a:fE A)(h1:dO A B)(b:dO B A)(f:Fr):tu A B (A.dx f):=by
 unfold av.dx;split;·exact j_ a h1 b _ _ ⟨(a.wr _).sl,(a.wr _).sb,(a.wr _).bX⟩ rfl (eB _) (mE _) (fun e=>⟨e,rfl⟩) (sF _ _)
 ·split;·exact j_ a h1 b _ _ ⟨(a.wr _).sl,(a.wr _).sb,(a.wr _).bX⟩ rfl (eB _) (mE _) (fun e=>⟨e,rfl⟩) (sF _ _)
  ·split;·exact tC a h1 b _ _ (NW (b.rd _) _ (eB _)) (eB _) (eB _) (a.it _)
   ·exact LC a h1 b _ rfl (eB _) a.gt
theorem xM(g:av->Fr->av)(a:∀{A B:av},fE A->dO A B->dO B A->∀f,tu A B (g A f)):∀(l:List Fr) {A B:av},fE A->dO A B->dO B A->tu A B (l.foldl g A)
 |[],_,_,hA,h1,h2=>kg hA h1 h2
 |f::t,_,_,hA,h1,h2=>by have s:=a hA h1 h2 f;exact s.trans (xM g a t s.loc s.ab s.ba)
theorem getD_map{α:Type}(f:α->α)(d:α):∀(l:List α) (k:Nat),k<l.length->(l.map f).getD k d=f (l.getD k d)
 |[],_,h=>by simp at h
 |a::t,0,_=>rfl
 |a::t,k+1,h=>by simpa using getD_map f d t k (by simpa using h)
theorem nK{α:Type}(d:α):∀(l:List α) (k:Nat),l.length<=k->l.getD k d=d
 |[],_,_=>aP
 |a::t,0,h=>by simp at h
 |a::t,k+1,h=>by simpa using nK d t k (by simpa using h)
theorem Jv(f:eH->eH)(b:∀i,(f i).aQ=i.aQ):∀(l:List eH) (s:Nat),(l.map f).foldl (fun s i=>min (s+i.aQ) dK) s=l.foldl (fun s i=>min (s+i.aQ) dK) s
 |[],_=>rfl
 |a::t,s=>by simp only[KG,List.foldl_cons,b];exact Jv f b t _
theorem UK{A B:av}(b:fE A)(h1:dO A B)(d:dO B A)(w l:List (Nat×pz)):tu A B {A with aJ:=w,bP:=l,gr:=A.gr.j5,outs:=A.outs.map jh,ins:=A.ins.map iC}:=by
 obtain⟨A',a⟩:∃A',A'={A with aJ:=w,bP:=l,gr:=A.gr.j5,outs:=A.outs.map jh,ins:=A.ins.map iC}:=⟨_,rfl⟩;rw[<-a];have c:∀k,(A'.out k)=if k<8 then jh (A.out k)else A.out k:=fun k=>by
  rw[a];show(A.outs.map jh).getD k rV=_;split;·exact getD_map jh rV _ _ (by rw[b.lo];assumption)
  ·rw[nK _ _ _ (by rw[nP,b.lo];omega)];exact(nK _ _ _ (by rw[b.lo];omega)).symm
 have hi:∀k,(A'.bF k)=if k<8 then iC (A.bF k)else A.bF k:=fun k=>by
  rw[a];show(A.ins.map iC).getD k sK=_;split;·exact getD_map iC sK _ _ (by rw[b.li];assumption)
  ·rw[nK _ _ _ (by rw[nP,b.li];omega)];exact(nK _ _ _ (by rw[b.li];omega)).symm
 have hl:A'.aL=A.aL:=by rw[a]
 have g:A'.next=A.next:=by rw[a]
 have f:A'.gr=A.gr.j5:=by rw[a]
 have h:A'.aM=A.aM:=by rw[a]
 refine⟨⟨by rw[a];show(A.outs.map jh).length=8;rw[nP,b.lo],by rw[a];show(A.ins.map iC).length=8;rw[nP,b.li],fun k=>?_,?_,fun k=>?_,?_,by rw[a];exact b.mJ,by rw[a];exact b.q⟩,⟨fun k=>?_,by rw[hl];exact h1.iB,by rw[g];exact h1.aM⟩,⟨fun k=>?_,by rw[f];exact d.iB,by rw[h];exact d.aM⟩,⟨fun k=>?_,fun k=>?_,fun k=>?_,fun k=>?_,by rw[f];exact eB _,by rw[g];exact eB _⟩⟩
 ·rw[c];split;·exact⟨(b.wr k).sl,(b.wr k).sb,(b.wr k).bX⟩
  ·exact b.wr k
 ·rw[a];show((A.outs.map jh).map Ot.dw).sum<=A.aL;rw[List.map_map];exact b.sp
 ·rw[hi];split;·exact b.it k
  ·exact b.it k
 ·rw[f,a];show A.gr.j5.dW<=A.gr.j5.iB ((A.ins.map iC).foldl (fun s i=>min (s+i.aQ) dK) 0);rw[Jv iC (fun i=>rfl)];exact b.gt
 ·rw[c];split;·exact(h1.rd k).mono rfl (eB _) (mE _) (fun e=>⟨e,rfl⟩)
  ·exact h1.rd k
 ·rw[hi];split;·exact NW (d.rd k) _ (eB _)
  ·exact d.rd k
 ·rw[c];split<;>exact eB _
 ·rw[c];split<;>exact mE _
 ·rw[c];split<;>exact fun e=>⟨e,rfl⟩
 ·rw[hi];split<;>exact eB _
theorem GA{A B:av}(a:fE A)(h1:dO A B)(b:dO B A)(w l:List (Nat×pz))(n:Nat)(m:Nat)(c:A.next<=n):tu A B {A with aJ:=w,bP:=l,named:=m,next:=n}:=
 ⟨⟨a.lo,a.li,a.wr,a.sp,a.it,a.gt,a.mJ,a.q⟩,⟨h1.rd,h1.iB,fun r d=>mK (h1.aM r d) c⟩,⟨b.rd,b.iB,b.aM⟩,⟨fun _=>eB _,fun _=>mE _,fun _ e=>⟨e,rfl⟩,fun _=>eB _,eB _,c⟩⟩
theorem UL{A B:av}(e:fE A)(h1:dO A B)(d:dO B A)(l:bW):tu A B (A.land l):=by unfold av.land;have s:=GA e h1 d (A.aJ.filter fun x=> !names l x.1) (A.bP.filter fun x=> !names l x.1) A.next (max A.named ((l.getD 0 (0,0)).2+1)) (eB _);exact s.trans (xM av.dx (fun a b c f=>ET a b c f) _ s.loc s.ab s.ba)
theorem rE{A B:av}(b:fE A)(h1:dO A B)(a:dO B A)(fs:List Fr):tu A B (A.dz fs):=
 GA b h1 a _ A.bP (A.next+1) A.named (Nat.le_succ _)
theorem lU{A B:av}(a:fE A)(h1:dO A B)(b:dO B A)(x:Bool):tu A B {A with aT:=x}:=
 ⟨⟨a.lo,a.li,a.wr,a.sp,a.it,a.gt,a.mJ,a.q⟩,⟨h1.rd,h1.iB,h1.aM⟩,⟨b.rd,b.iB,b.aM⟩,⟨fun _=>eB _,fun _=>mE _,fun _ e=>⟨e,rfl⟩,fun _=>eB _,eB _,eB _⟩⟩
theorem qbe(bf fl:Nat)(rs:bW)(lo hi B:Nat)(h:∀r∈rs,r.2<B)(d:hi<B):∀r∈(Rg.add bf fl rs lo hi).2,r.2<B:=by
 have b:∀r∈Rg.ins (max lo fl) hi rs,r.2<B:=fun r a=>by have:=Rg.sZ rs (max lo fl) hi (B-1) aj (fun x c=>bV (h x c)) r a;omega
 unfold Rg.add;split;·exact h
 ·split;·exact fun r a=>b r (List.mem_of_mem_tail a)
  ·exact b
theorem xO{A B:av}(a:fE A)(h1:dO A B)(b:dO B A)(n:Nat)(c:n<B.next)(x:Bool):tu A B {A with aM:=A.aM.add 8 n n,aT:=x}:=
 ⟨⟨a.lo,a.li,a.wr,a.sp,a.it,a.gt,a.mJ,a.q⟩,⟨h1.rd,h1.iB,h1.aM⟩,⟨b.rd,b.iB,qbe _ _ _ _ _ _ b.aM c⟩,⟨fun _=>eB _,fun _=>mE _,fun _ e=>⟨e,rfl⟩,fun _=>eB _,eB _,eB _⟩⟩
theorem zl(P:Nat->UInt8->Prop):∀(d:List UInt8) (i:Nat) (h:List UInt8) (c:List Bool),c.length=h.length->i+d.length<=h.length->(∀j,c.getD j false=true->P j (h.getD j 0))->(∀j,j<d.length->P (i+j) (d.getD j 0))->(dS d i h c).2.length=(dS d i h c).1.length/\(dS d i h c).1.length=h.length/\∀j,(dS d i h c).2.getD j false=true->P j ((dS d i h c).1.getD j 0)
 |[],i,h,c,hl,_,hc,_=>⟨hl,rfl,hc⟩
 |x::t,i,h,c,hl,hi,hc,hd=>by
  simp only[Ht]at hi;have a:∀j,j<t.length->P (i+1+j) (t.getD j 0):=fun j b=>by have:=hd (j+1) (by simpa using b);rw[show i+1+j=i+(j+1) by omega];simpa using this
  unfold dS;split;·exact zl P t (i+1) h c hl aj hc a
  ·have:=zl P t (i+1) (h.set i x) (c.set i true) (by simpa using hl) (by rw[Jy];omega) (fun j e=>by
    by_cases b:j=i;·subst b;rw[eT,List.getElem?_set_self aj];have:=hd 0 aP;simpa using this
    ·have f:c.getD j false=true:=by
      rw[eT,Es aj]at e;rw[eT];exact e
     rw[eT,Es aj,<-eT];exact hc j f) a
   exact⟨this.1,by rw[this.2.1,Jy],this.2.2⟩
theorem Jw{α:Type}(d:α)(l m:List α)(j:Nat)(h:j<l.length):(l++m).getD j d=l.getD j d:=by rw[eT,yP h,<-eT]
theorem Yq{o:Ot}{i:eH}(h:AX o i)(lo:Nat)(d:List UInt8)(c:i.aR<=lo)(hd:∀j,j<d.length->o.ay[lo+j]?=some (d.getD j 0)):AX o (i.hold lo d):=by
 unfold eH.hold;obtain⟨n,f⟩:=bZ (lo-i.aR+d.length-i.bU.length);simp only[<-f];have key:=zl (fun j x=>o.ay[i.aR+j]?=some x) d (lo-i.aR) (i.bU++qx n 0) (i.aM++qx n false)
  (by simp[h.len]) (by simp;omega)
  (fun j e=>by
   by_cases a:j<i.aM.length;·rw[Jw _ _ _ _ a]at e;rw[Jw _ _ _ _ (by rw[<-h.len];exact a)];exact h.got j e
   ·rw[eT,uj aj]at e;by_cases b:j-i.aM.length<n;·rw[nI b]at e;simp at e
    ·rw[nA (by simp;omega)]at e;simp at e)
  (fun j a=>by rw[show i.aR+(lo-i.aR+j)=lo+j by omega];exact hd j a)
 exact⟨h.iB,h.fF,h.bM,h.bX,h.st,key.1,h.rd,key.2.2⟩
theorem Yr{o:Ot}{i:eH}(h:AX o i)(f:Fr)(b:IQ o f):AX o (i.take f):=by
 have h1:AX o {i with fF:=max i.fF (bC f),bM:=i.bM||f.bn,fU:=if f.bn then bC f else i.fU}:=by
  refine⟨h.iB,?_,fun e=>?_,h.bX,?_,h.len,h.rd,h.got⟩;·show max i.fF (bC f)<=o.dw;have:=h.fF;have:=b.e;omega
  ·show o.bn=true/\(if f.bn then bC f else i.fU)=o.ay.length;cases m:f.bn
   ·have n:i.bM=true:=by
     have:(i.bM||f.bn)=true:=e;rw[m]at this;simpa using this
    exact h.bM n
   ·exact b.bn m
  ·rcases h.st with e|⟨p,q,r⟩;·exact .inl e
   ·exact .inr ⟨p,by show(i.bM||f.bn)=true;rw[q];rfl,r⟩
 unfold eH.take;obtain⟨i1,a⟩:∃i1:eH,i1={i with fF:=max i.fF (bC f),bM:=i.bM||f.bn,fU:=if f.bn then bC f else i.fU}:=⟨_,rfl⟩;rw[<-a]at h1;simp only[<-a];have g:i1.aR=i.aR:=by rw[a]
 split;·rename_i c;refine Yq h1 _ _ (by rw[g];exact Nat.le_max_right _ _) fun j k=>?_;rw[H8,Iq,b.d,H8,Iq]at k;have hb:=b.b;have s:min (bC f) i1.wanted<=bC f:=Nat.min_le_left _ _;obtain⟨lo,l⟩:=bZ (max f.aD i.aR);obtain⟨hi,d⟩:=bZ (min (bC f) i1.wanted);rw[<-l]at k c ⊢;rw[<-d]at k c s ⊢;have t:f.aD<=lo:=aj;rw[b.d,eT,Fe,Bf aj,Fe,Bf aj,show f.aD+(lo-f.aD+j)=lo+j by omega];rw[lg aj];rfl
 ·exact h1
theorem GD{α β:Type}(c:Prop)[Decidable c](a b:α)(g:α->β)(x:β)(h1:g a=x)(d:g b=x):g (if c then a else b)=x:=by
 split;·exact h1
 ·exact d
theorem Ov(i:eH)(f:Fr):(i.take f).gr=i.gr:=GD _ _ _ eH.gr _ rfl rfl
theorem EU(i:eH)(f:Fr):(i.take f).aR=i.aR:=GD _ _ _ eH.aR _ rfl rfl
theorem Qx{o:Ot}{i:eH}(b:Wri o)(h:AX o i)(f:Fr)(a:IQ o f):i.refuse f=0:=by
 unfold eH.refuse;have d:=a.e;have j:=a.b;have k:=b.sl;have l:=h.iB;have m:=h.fF;have n:=b.sb;rw[aU,aU aj];rintro(⟨e,g⟩|⟨e,c,g⟩|⟨e,g⟩);·have:=(h.bM e).2;omega
 ·have:=(h.bM e).2;have:=(a.bn c).2;omega
 ·have:=(a.bn e).2;omega
theorem Qy(l:List Ot):∀n,l.length=n->((JH n).map fun j=>(l.getD j rV).dw).sum=(l.map Ot.dw).sum:=by
 intro n b;congr 1
 refine List.ext_getElem (by simp[b]) fun j h1 a=>?_;simp only[List.getElem_map,List.getElem_range];rw[eT,lg (by simpa using a)];rfl
theorem UM(f g:Nat->Nat)(h:∀j,f j<=g j):∀l:List Nat,(l.map f).sum<=(l.map g).sum
 |[]=>eB _
 |a::t=>by have:=UM f g h t;have:=h a;simp only[KG,List.sum_cons];omega
theorem UN{A B:av}(hB:fE B)(a:dO B A)(k e:Nat)(c:e<=(B.out k).dw):A.tq k e<=A.gr.dW:=by
 refine og ?_ (og hB.sp a.iB);unfold av.l9;rw[<-Qy B.outs 8 hB.lo];unfold av.tq;refine UM _ _ (fun j=>?_) _;have:=(a.rd j).fF;show max (A.bF j).fF _<=(B.out j).dw;split;·rename_i b;subst b;omega
 ·omega
theorem A_{A B:av}(a:fE A)(hB:fE B)(h1:dO A B)(b:dO B A)(f:Fr)(h:lJ B A f):(A.take f).2=0/\tu A B (A.take f).1:=by
 unfold av.take;rcases h with⟨k1,k2,g⟩|⟨k1,k2,g,k4⟩|⟨k1,k2⟩|⟨k1,k2,g,k4⟩;·rw[bK k1,aU aj];exact⟨rfl,UL a h1 b _⟩
 ·rw[aU aj,bK k1,aU (by rw[Qx (hB.wr _) (b.rd _) f k4];simp),aU (bV (UN hB b f.aH.toNat (bC f) k4.e))];have r:=Yr (b.rd f.aH.toNat) f k4;refine⟨rfl,tC a h1 b _ _ r (by rw[Ov];exact eB _) (by rw[r.aQ,(b.rd _).aQ,EU];exact eB _) ?_⟩;rw[Ov,r.aQ,EU,<-(b.rd _).aQ];exact a.it _
 ·rw[aU aj,aU aj,aU aj,aU aj,aU aj,bK k1];refine⟨rfl,⟨⟨a.lo,a.li,a.wr,?_,a.it,a.gt,a.mJ,a.q⟩,⟨h1.rd,?_,h1.aM⟩,⟨b.rd,b.iB,b.aM⟩,⟨fun _=>eB _,fun _=>mE _,fun _ e=>⟨e,rfl⟩,fun _=>eB _,eB _,eB _⟩⟩⟩;·show A.l9<=max A.aL f.aL;have:=a.sp;omega
  ·show max A.aL f.aL<=B.gr.dW;have:=h1.iB;omega
 ·rw[aU aj,aU aj,aU aj,aU aj,aU aj,aU aj,bK k1];obtain⟨k,i⟩:=bZ f.aH.toNat;obtain⟨o,c⟩:∃o:Ot,o={A.out k with aL:=max (A.out k).aL f.aL}:=⟨_,rfl⟩;rw[<-i]at k4 ⊢;rw[<-c];have d:∀j,(A.dD k o).out j=if j=k/\k<A.outs.length then o else A.out j:=fun j=>fB A k j o;refine⟨rfl,⟨⟨(iP _ _ _).trans a.lo,a.li,fun j=>?_,?_,a.it,a.gt,a.mJ,a.q⟩,⟨fun j=>?_,h1.iB,h1.aM⟩,⟨b.rd,b.iB,b.aM⟩,⟨fun j=>?_,fun j=>?_,fun j=>?_,fun _=>eB _,eB _,eB _⟩⟩⟩
  ·rw[d];split;·rw[c];exact⟨by have:=(a.wr k).sl;show(A.out k).dw<=max (A.out k).aL f.aL;omega,(a.wr k).sb,(a.wr k).bX⟩
   ·exact a.wr j
  ·show(A.dD k o).l9<=A.aL;have e:=vS A k o (by rw[a.lo];omega);have:o.dw=(A.out k).dw:=by rw[c]
   have:=a.sp;omega
  ·rw[d];split;·rename_i e;rw[e.1,c];have r:=h1.rd k;exact⟨by have:=r.iB;show max (A.out k).aL f.aL<=_;omega,r.fF,r.bM,r.bX,r.st,r.len,r.rd,r.got⟩
   ·exact h1.rd j
  ·rw[d];split;·rename_i e;rw[e.1,c];exact eB _
   ·exact eB _
  ·rw[d];split;·rename_i e;rw[e.1,c];exact mE _
   ·exact mE _
  ·rw[d];split;·rename_i e;rw[e.1,c];exact fun x=>⟨x,rfl⟩
   ·exact fun x=>⟨x,rfl⟩
def Lq(l:List Nat):Prop:=∀x∈l,x<48
theorem Lq.getD{l:List Nat}(h:Lq l)(j:Nat):l.getD j 0<48:=by
 rw[eT];cases a:l[j]? with
 |none=>simp
 |some v=>exact h v (List.mem_of_getElem? a)
theorem Lq.set{l:List Nat}(h:Lq l)(i v:Nat)(b:v<48):Lq (l.set i v):=fun x a=>by
 rcases List.mem_or_eq_of_mem_set a with a|a;·exact h x a
 ·omega
theorem Lq.sw{l:List Nat}(h:Lq l)(i j:Nat):Lq (sw l i j):=(h.set i _ (h.getD j)).set j _ (h.getD i)
theorem Lq.down:∀(k:Nat) {l:List Nat} (i n:Nat),Lq l->Lq (jK k l i n)
 |0,_,_,_,h=>h
 |k+1,l,i,n,h=>by
  unfold jK;generalize (if 2*i+2<n/\l.getD (2*i+2) 0<l.getD (2*i+1) 0 then 2*i+2 else 2*i+1)=j;split;·exact h
  ·simp only;split;·exact Lq.down k _ _ (h.sw _ _)
   ·exact h
theorem Lq.up:∀(k:Nat) {l:List Nat} (i:Nat),Lq l->Lq (Ar k l i)
 |0,_,_,h=>h
 |k+1,l,i,h=>by
  unfold Ar;split;·exact h
  ·exact Lq.up k _ (h.sw _ _)
theorem Lq.pop{l:List Nat}(h:Lq l):Lq (j6 l):=fun x a=>Lq.down _ _ _ (h.sw _ _) x (List.mem_of_mem_take a)
theorem Lq.app{l m:List Nat}(h:Lq l)(g:Lq m):Lq (l++m):=fun x a=>(mR.1 a).elim (h x) (g x)
theorem Lq.push{l:List Nat}(h:Lq l)(u:Nat)(a:u<48):Lq (dZ l u):=Lq.up _ _ (h.app fun x b=>by rw[qy.1 b];exact a)
theorem Lq.qd:∀(m:List Nat) {l:List Nat},Lq l->Lq m->Lq (m.foldl dZ l)
 |[],_,h,_=>h
 |u::t,_,h,g=>Lq.qd t (h.push u (g u aP)) fun x a=>g x (by simp[a])
theorem lq0:Lq q0:=by unfold Lq;decide
structure Fld (A B:av) (x:av×bW×List Nat×List Fr):Prop where
 Qz:tu A B x.1
 aF:∀r∈x.2.1,r.2<B.next
 q:Lq x.2.2.1
 fs:∀f∈x.2.2.2,lJ x.1 B f
theorem qJ:∀(n:Nat) {A B:av} (aF:bW) (Q later:List Nat) (au:Int) (l:List Fr),fE A->dO A B->dO B A->Lq Q->Lq later->(∀r∈aF,r.2<B.next)->(∀f∈l,lJ A B f)->Fld A B (fD n A aF Q later au l)
 |0,A,B,aF,Q,later,au,l,hA,h1,h2,hQ,hL,hl,hf=>⟨kg hA h1 h2,hl,Lq.qd _ hQ hL,hf⟩
 |n+1,A,B,aF,[],later,au,l,hA,h1,h2,hQ,hL,hl,hf=>⟨kg hA h1 h2,hl,Lq.qd _ hQ hL,hf⟩
 |n+1,A,B,aF,u::Q,later,au,l,hA,h1,h2,hQ,hL,hl,hf=>by
  have c:u<48:=hQ u aP;unfold fD;by_cases b:A.aK aF u=true
  ·simp only[b,if_true];cases hF:A.frame aF u au with
   |none=>
    simp only;split;·exact qJ n aF _ _ au l hA h1 h2 hQ.pop (hL.app fun x d=>by rw[qy.1 d];exact c) hl hf
    ·exact⟨kg hA h1 h2,hl,Lq.qd _ hQ hL,hf⟩
   |some x=>
    obtain⟨f,A',cu⟩:=x;simp only;obtain⟨s,e,sl⟩:=tH hA h1 h2 aF cu u au f c hl b hF;obtain⟨h,i,j,k⟩:=qJ n cu (u::Q) later (au-((bD f).length:Int)) (l++[f]) s.loc s.ab s.ba hQ hL sl (fun g a=>by
     rcases mR.1 a with a|a;·exact(hf g a).mono s.le (Au.refl _)
     ·rw[qy.1 a];exact e)
    exact⟨s.trans h,i,j,k⟩
  ·simp only[b];exact qJ n aF _ later au l hA h1 h2 hQ.pop hL hl hf
def nums(n:Nat):List (List Fr)->List (Nat×List Fr)
 |[]=>[]
 |fs::t=>(n,fs)::nums (n+1) t
structure Pks (A B:av) (l:List (Nat×List Fr)) (x:av×List (Nat×List Fr)) (m:List (List Fr)):Prop where
 eq:x.2=l++nums A.next m
 Qz:tu A B x.1
 next:x.1.next=A.next+m.length
 ne:∀fs∈m,fs≠[]
 ok:∀fs∈m,∀f∈fs,lJ x.1 B f
theorem ug{A:av}(n:Nat)(aF:bW)(Q later:List Nat)(au:Int)(l:List Fr):(fD n A aF Q later au l).1.next=A.next:=by
 induction n generalizing A aF Q later au l with
 |zero=>rfl
 |succ n a=>
  cases Q with
  |nil=>rfl
  |cons u Q=>
   unfold fD;by_cases b:A.aK aF u=true
   ·simp only[b,if_true];cases hF:A.frame aF u au with
    |none=>
     simp only;split;·exact a _ _ _ _ _
     ·rfl
    |some x=>
     obtain⟨f,d,c⟩:=x;simp only;refine(a _ _ _ _ _).trans ?_;unfold av.frame at hF;split at hF
     ·split at hF;·cases hF
      ·have e:=Option.some.inj hF;exact(congrArg (fun x=>x.2.1.next) e).symm
     ·split at hF;·obtain⟨y,_,e⟩:=nU.1 hF;exact(congrArg (fun x=>x.2.1.next) e).symm
      ·split at hF;·obtain⟨y,_,e⟩:=nU.1 hF;exact(congrArg (fun x=>x.2.1.next) e).symm
       ·split at hF;·obtain⟨y,_,e⟩:=nU.1 hF;exact(congrArg (fun x=>x.2.1.next) e).symm
        ·split at hF
         ·split at hF;·cases hF
          ·obtain⟨y,_,e⟩:=nU.1 hF;exact(congrArg (fun x=>x.2.1.next) e).symm
         ·obtain⟨y,_,e⟩:=nU.1 hF;exact(congrArg (fun x=>x.2.1.next) e).symm
   ·simp only[b];exact a _ _ _ _ _
theorem EW:∀(n:Nat) {A B:av} (aF:bW) (Q:List Nat) (l:List (Nat×List Fr)),fE A->dO A B->dO B A->Lq Q->(∀r∈aF,r.2<B.next)->∃m,Pks A B l (fQ n A aF Q l) m
 |0,A,B,aF,Q,l,hA,h1,h2,hQ,hl=>⟨[],by simp[fQ,nums],kg hA h1 h2,rfl,aP,aP⟩
 |n+1,A,B,aF,Q,l,hA,h1,h2,hQ,hl=>by
  have F:Fld A B (fill A aF Q A.au):=qJ _ aF Q [] A.au [] hA h1 h2 hQ (fun x k=>by simp at k) hl (fun f b=>by simp at b);have c:(fill A aF Q A.au).1.next=A.next:=ug _ aF Q [] A.au []
  unfold fQ;generalize fill A aF Q A.au=x at F c;obtain⟨A',cu,j,fs⟩:=x;simp only at F c ⊢;split;·exact⟨[],by simp[nums],F.Qz,c,aP,aP⟩
  ·rename_i d;have P:=rE F.Qz.loc F.Qz.ab F.Qz.ba fs;obtain⟨m,e,s,nx,ne,ok⟩:=EW n cu j (l++[(A.next,fs)]) P.loc P.ab P.ba F.q F.aF;have h:(A'.dz fs).next=A.next+1:=by show A'.next+1=_;rw[c]
   have i:∀f∈fs,lJ A' B f:=F.fs;refine⟨fs::m,by rw[e,h];simp[nums],F.Qz.trans (P.trans s),by rw[nx,h];simp;omega,fun g a=>?_,fun g a f b=>?_⟩
   ·rcases o8.1 a with a|a;·rw[a];exact d
    ·exact ne g a
   ·rcases o8.1 a with a|a;·rw[a]at b;exact(i f b).mono (P.trans s).le (Au.refl _)
    ·exact ok g a f b
theorem Yt(bG aO aX:Nat)(b:aO<=dK)(ht:aX<=dK):fE (av.new bG aO aX):=by
 have a:∀k,(av.new bG aO aX).out k=if k<8 then Ot.new aO else rV:=fun k=>by
  show(qx 8 (Ot.new aO)).getD k rV=_;rw[eT];split;·rw[nI (by assumption)];rfl
  ·rw[nA (by simp;omega)];rfl
 have hi:∀k,(av.new bG aO aX).bF k=if k<8 then eH.new aO else sK:=fun k=>by
  show(qx 8 (eH.new aO)).getD k sK=_;rw[eT];split;·rw[nI (by assumption)];rfl
  ·rw[nA (by simp;omega)];rfl
 refine⟨rfl,rfl,fun k=>?_,?_,fun k=>?_,?_,rfl,rfl⟩
 ·rw[a];split;·exact⟨mI _,mI _,rfl⟩
  ·exact⟨mI _,mI _,rfl⟩
 ·show 0<=_;exact mI _
 ·rw[hi];split;·show aO<=min (0+aO) dK;omega
  ·show 0<=_;exact mI _
 ·show aX<=min (_+aX) dK;omega
theorem Yu(bG aO aX:Nat):dO (av.new bG aO aX) (av.new bG aO aX):=by
 refine⟨fun k=>?_,eB _,fun r b=>by simp[av.new]at b⟩;have a:(av.new bG aO aX).out k=if k<8 then Ot.new aO else rV:=by
  show(qx 8 (Ot.new aO)).getD k rV=_;rw[eT];split;·rw[nI (by assumption)];rfl
  ·rw[nA (by simp;omega)];rfl
 have hi:(av.new bG aO aX).bF k=if k<8 then eH.new aO else sK:=by
  show(qx 8 (eH.new aO)).getD k sK=_;rw[eT];split;·rw[nI (by assumption)];rfl
  ·rw[nA (by simp;omega)];rfl
 rw[a,hi];split;·exact⟨eB _,eB _,(fun e=>by cases e),rfl,.inl rfl,rfl,eB _,fun j e=>by simp[eH.new]at e⟩
 ·exact⟨eB _,eB _,(fun e=>by cases e),rfl,.inl rfl,rfl,eB _,fun j e=>by simp[sK,eH.new]at e⟩
end Go.Proofs.YtphbledmopchnaaGreatDoor.Sd
namespace Go.Proofs.YtphbledmopchnaaGreatDoor.Sd
open Go.RowKit Go.Lib Mm Tryz
theorem Qv{α:Type}(d:α)(f:Nat->α->Nat)(l:List α)(k:Nat)(a:k<l.length)(s:Nat):(l.take (k+1)).foldl f s=f ((l.take k).foldl f s) (l.getD k d):=by rw[xQ,lg a,F3,eT,lg a];rfl
theorem Oq(oZ:Own)(s:Nat)(S:Nat)(l:bO)(M:av)(bw bl bi:Nat)(vc:Value)(w:World)(h:fP oZ s w S l M bw bl bi vc)(ok:∀k,(M.bF k).aQ<=dK):Calls prog 252 #[aI S 0] w fun e w'=>e=.returned (uZ M.aQ)/\w'=w:=by
 obtain⟨F,hF⟩:=bZ (fun k=>(M.ins.take k).foldl (fun s i=>min (s+i.aQ) dK) 0:Nat->Nat);have q:F 0=0:=by rw[hF];rfl
 have hs:∀k,k<8->F (k+1)=min (F k+(M.bF k).aQ) dK:=fun k b=>by rw[hF];exact Qv sK _ M.ins k (by rw[h.li];exact b) 0
 have r:F 8=M.aQ:=by rw[hF];show(M.ins.take 8).foldl _ 0=_;rw[Ea (by rw[h.li];omega)];rfl
 have c:∀k,k<=8->F k<=dK:=fun k b=>by
  cases k with
  |zero=>rw[q];exact mI _
  |succ k=>rw[hs k aj];exact I7 _ _
 rw[<-r];have x:Hid (∀k,k<8->Calls prog 310 #[(aI S (4+k*27+14))] w fun e w'=>e=.returned (uZ ((M.bF k).aQ:Int))/\w'=w):=fun k b=>by obtain⟨vh,D,z,_⟩:=h.bF k b;have:=Gh S (18+27*k) (M.bF k) vh D w l h.cZ z;rw[show 18+27*k=4+k*27+14 by omega]at this;exact this
 have y:=aG (dB hs (dB c ok));clear hF hs c ok r h;go_enter func252,ntmps252;go_wp2;go_loopw [3,5] (fun G g wr=>∃k:Nat,k<=8/\G=(uZ (F k:Int))/\g=(iZ k)/\wr=w) (fun _ g _=>8-(nV g).toNat);case atStart=>exact⟨0,aj,by rw[q];rfl,rfl,rfl⟩
 case round=>
  obtain⟨k,b,rfl,rfl,rfl⟩:=hrel;by_cases d:k<8
  ·obtain⟨n,o,p⟩:=y.out;have B:=x.out k d;have u:(k:Int)<8:=aj;have m:=o k b;have b2:=p k;have b3:=n k d;obtain⟨E,f,a⟩:=min2 (F k+(M.bF k).aQ) dK;rw[<-a]at b3;have I:F k+(M.bF k).aQ<18446744073709551616:=by unfold dK at m b2;omega
   generalize F k=A at *
   generalize (M.bF k).aQ=v at *
   have H:=aG a;unfold dK at f m b2;have C:∀j t w,(Builtin.min_ j t #[(uZ ((A:Int)+(v:Int))),uZ 4611686018427387903]).run prog w=.ok (uZ E) w:=fun j t w=>by have:=f j t w;rw[Cr]at this;exact this
   clear n o p a f;go_wp2_with (first|(go_at_call 310;refine bN B ?_;rintro w' rfl)|go_in);go_roundw;case rel=>exact⟨k+1,aj,by rw[b3],aP,trivial⟩
   case measure=>simp[nV];omega
  ·obtain rfl:k=8:=aj;go_wp2;go_ret;exact⟨rfl,rfl⟩
theorem UD{α:Type}(d:α)(f:α->Nat)(l:List α)(k:Nat)(a:k<l.length):((l.take (k+1)).map f).sum=((l.take k).map f).sum+f (l.getD k d):=by rw[xQ,lg a,tO,DU,eT,lg a];simp
theorem Jr{α:Type}(f:α->Nat)(l:List α)(k:Nat):((l.take k).map f).sum<=(l.map f).sum:=by
 conv=>rhs;rw[<-List.take_append_drop k l]
 rw[tO,DU];omega
theorem ES(oZ:Own)(s:Nat)(S:Nat)(l:bO)(M:av)(bw bl bi:Nat)(vc:Value)(w:World)(h:fP oZ s w S l M bw bl bi vc)(f:M.l9<=M.aL)(d:M.aL<=dK):Calls prog 265 #[aI S 0] w fun e w'=>e=.returned (uZ M.aN)/\w'=w:=by
 obtain⟨F,hF⟩:=bZ (fun k=>M.aL-((M.outs.take k).map Ot.dw).sum:Nat->Nat);have m:F 0=M.aL:=by rw[hF];rfl
 have hs:∀k,k<8->F k=F (k+1)+(M.out k).dw:=fun k c=>by rw[hF];have e:=UD rV Ot.dw M.outs k (by rw[h.lo];exact c);have z:=Jr Ot.dw M.outs (k+1);have B:(M.outs.map Ot.dw).sum=M.l9:=rfl;have C:(M.outs.getD k rV).dw=(M.out k).dw:=rfl;show M.aL-((M.outs.take k).map Ot.dw).sum=M.aL-((M.outs.take (k+1)).map Ot.dw).sum+_;omega
 have n:F 8=M.aN:=by rw[hF];show M.aL-((M.outs.take 8).map Ot.dw).sum=_;rw[Ea (by rw[h.lo];omega)];rfl
 have a:∀k,F k<=dK:=fun k=>by rw[hF];show M.aL-_<=dK;omega
 rw[<-n];have rC:w.cell? (aB S 220)=some (uZ (F 0:Int)):=by rw[m];exact(h.cZ.cell _).trans h.cells.rC
 have q:Hid (∀k,k<8->Calls prog 315 #[(aI S (4+k*27))] w fun e w'=>e=.returned (uZ ((M.out k).dw:Int))/\w'=w):=fun k c=>by obtain⟨vb,va,D,t,_⟩:=h.out k c;have:=X8 S (4+27*k) (M.out k).dw w ((h.cZ.cell _).trans t.c7);rw[show 4+27*k=4+k*27 by omega]at this;exact this
 have i:=aG (dB hs a);clear hF hs a n h m f d;go_enter func265,ntmps265;go_wp2;go_loopw [3,9] (fun v g wr=>∃k:Nat,k<=8/\v=(uZ (F k:Int))/\g=(iZ k)/\wr=w) (fun _ g _=>8-(nV g).toNat);case atStart=>exact⟨0,aj,rfl,rfl,rfl⟩
 case round=>
  obtain⟨k,c,rfl,rfl,rfl⟩:=hrel;by_cases b:k<8
  ·have u:=q.out k b;have o:(k:Int)<8:=aj;have r:=i.out.2 k;have b2:=i.out.1 k b;unfold dK at r;have b3:0<=(F k:Int)-((M.out k).dw:Int):=aj;have y:(F k:Int)-((M.out k).dw:Int)<18446744073709551616:=aj;have j:(F k:Int)-((M.out k).dw:Int)=(F (k+1):Int):=aj;have p:=aG j;clear b2 j;generalize F k=A at *
   generalize (M.out k).dw=x at *
   go_wp2_with (first|(go_at_call 315;refine bN u ?_;rintro w' rfl)|go_in);go_roundw;case rel=>exact⟨k+1,aj,by rw[p.out],aP,trivial⟩
   case measure=>simp[nV];omega
  ·obtain rfl:k=8:=aj;go_wp2;go_ret;exact⟨rfl,rfl⟩
theorem UE(oZ:Own)(s:Nat)(S:Nat)(l:bO)(M:av)(bw bl bi:Nat)(vc:Value)(f:Fr)(t:Option Addr)(u v:Nat)(j:Nat)(C:f.aH=(j:Int))(w:World)(h:fP oZ s w S l M bw bl bi vc)(hb:∀k,(M.bF k).fF<=1000000)(P:bC f<=1000000):Calls prog 297 #[aI S 0,fM f (.slice t u v)] w fun e w'=>e=.returned (uZ (M.tq j (bC f):Int))/\bJ w w':=by
 obtain⟨F,hF⟩:=bZ (fun k=>((JH k).map fun i=>max (M.bF i).fF (if i=j then bC f else 0)).sum:Nat->Nat);have L:F 0=0:=by rw[hF];rfl
 have hs:∀k,F (k+1)=F k+max (M.bF k).fF (if k=j then bC f else 0):=fun k=>by rw[hF];show((JH (k+1)).map _).sum=_;rw[List.range_succ,tO,DU];simp
 have N:F 8=M.tq j (bC f):=by rw[hF];rfl
 have q:∀k,F k<=k*1000000:=fun k=>by
  induction k with
  |zero=>rw[L];omega
  |succ k ih=>
   rw[hs];have:=hb k;have:max (M.bF k).fF (if k=j then bC f else 0)<=1000000:=by split<;>omega
   omega
 rw[<-N];obtain⟨x,c⟩:=bZ (w.alloc (.cells (gG f (.slice t u v)).toArray 65));have m:bJ w x:=by rw[c];exact(tL _ w).alloc (eB _) _
 have d:aS x w.heap.size 65 (gG f (.slice t u v)):=by rw[c];exact aS.new w 65 _
 have z:=aG d;have n:=aG m;have T:Hid (∀k,k<8->∀W y,bJ x W->Calls prog 339 #[(aI S (4+k*27+14)),(uZ ((y:Nat):Int))] W fun e w'=>e=.returned (uZ ((max (M.bF k).fF y:Nat):Int))/\w'=W):=fun k Q W y B=>by have K:=(h.below m).below B;obtain⟨vh,jQ,hL,_⟩:=K.bF k Q;have:=zW S (18+27*k) (M.bF k) vh jQ W l K.cZ hL y;rw[show 18+27*k=4+k*27+14 by omega]at this;exact this
 have U:Hid (∀W,Calls prog 318 #[.agg #[iZ f.aC,iZ j,uZ f.aD,uZ f.aV,uZ f.aL,.bool f.bn,uZ f.id,uZ f.aW,.string f.data,.slice t u v]] W fun e w'=>e=.returned (uZ (bC f:Int))/\bJ W w'):=fun W=>by have:=kG f (.slice t u v) W (by unfold bC at P;unfold dK;omega) (by unfold bC at P;omega);unfold fM at this;rw[C]at this;exact this
 have G:=aG (dB hs (dB q hb));clear hF hs q N h hb;unfold fM;rw[C];unfold gG at c z d;rw[C]at c z d;generalize bC f=E at *
 clear m d;go_enter func297,ntmps297;go_wp2;rw[<-c];go_loopw [5,8] (fun s5 s8 wr=>∃k:Nat,k<=8/\s5=(uZ (F k:Int))/\s8=(iZ k)/\Hid (bJ x wr)) (fun _ s8 _=>8-(nV s8).toNat);case atStart=>exact⟨0,aj,by rw[L];rfl,rfl,tL _ _⟩
 case round=>
  obtain⟨k,Q,rfl,rfl,g⟩:=hrel;by_cases D:k<8
  ·have R:(k:Int)<8:=aj;obtain⟨H,I,J⟩:=G.out;have Y:=I k;have b2:=J k;have b3:=H k;have b:=gB g.out z.out;have x0:=b.cell 0;have x1:=b.cell 1;have x2:=b.cell 2;have x3:=b.cell 3;have x4:=b.cell 4;have x5:=b.cell 5;have x6:=b.cell 6;have x7:=b.cell 7;have x8:=b.cell 8;have x9:=b.cell 9;simp only[List.getElem?_cons_zero,List.getElem?_cons_succ]at x0 x1 x2 x3 x4 x5 x6 x7 x8 x9;have r:max (M.bF k).fF (if k=j then E else 0)<=1000000:=by split<;>omega
   have O:=T.out k D;clear H I J Y b2 b;have b4:F k<=8000000:=bV (G.out.2.1 k);by_cases a:k=j
   ·rw[bK a]at b3 r;have Z:((k:Int)==(j:Int))=true:=by rw[a];simp
    have V:=aG a;clear a;generalize (M.bF k).fF=X at *
    generalize F k=A at *
    go_wp2_with (first|(go_at_call 318;refine bN (U.out wr) ?_;rintro w2 o)|(go_at_call 339;refine bN (O w2 E (g.out.trans (o.mono g.out.size))) ?_;rintro w3 rfl)|go_in);go_roundw;case rel=>exact⟨k+1,aj,by rw[b3,Cr],aP,g.out.trans (o.mono g.out.size)⟩
    case measure=>simp[nV];omega
   ·rw[aU a]at b3 r;have Z:((k:Int)==(j:Int))=false:=by rw[beq_eq_false_iff_ne];omega
    have V:=aG a;clear a;generalize (M.bF k).fF=X at *
    generalize F k=A at *
    have p:=O wr 0 g.out;rw[show(((0:Nat)):Int)=0 from rfl]at p;go_wp2_with (first|(go_at_call 339;refine bN p ?_;rintro w3 rfl)|go_in);go_roundw;case rel=>exact⟨k+1,aj,by rw[b3,Cr,Nat.max_zero],aP,g.out⟩
    case measure=>simp[nV];omega
  ·obtain rfl:k=8:=aj;go_wp2;go_ret;exact⟨rfl,n.out.trans (g.out.mono n.out.size)⟩
theorem Mx{oZ aY:Own}{w w':World}{rb off:Nat}{rs:bW}{T:List Nat}(h:jg w (some (aB rb off)) rs)(K:Kp T oZ aY w w')(c:rb<w.heap.size)(a:oZ rb∉T):jg w' (some (aB rb off)) rs:=fun j g=>by obtain⟨b,o,h1,d,e,f⟩:=h j g;simp only[Option.some.injEq,Addr.mk.injEq,and_true]at h1;obtain⟨rfl,rfl⟩:=h1;exact⟨rb,off,rfl,cell_of d (K.cZ rb c a),cell_of e (K.cZ rb c a),f⟩
def RgM(oZ:Own)(t:Nat)(w:World)(v:Value)(rs:bW):Prop:=
 (v=nZ/\rs=[])\/∃rb off c,v=.slice (some (aB rb off)) rs.length c/\rs.length<=c/\c<=9223372036854775807/\rb<w.heap.size/\oZ rb=t/\jg w (some (aB rb off)) rs
theorem RgM.kp{oZ aY:Own}{t:Nat}{w w':World}{v:Value}{rs:bW}{T:List Nat}(h:RgM oZ t w v rs)(K:Kp T oZ aY w w')(g:t∉T):RgM aY t w' v rs:=by
 rcases h with h|⟨rb,off,c,h1,d,e,a,b,f⟩;·exact .inl h
 ·exact .inr ⟨rb,off,c,h1,d,e,mK a K.size,by rw[K.ext rb a,b],Mx f K a (by rw[b];exact g)⟩
def AnM(oZ:Own)(s:Nat)(w:World)(ab:Nat)(aF:bW):Prop:=oZ ab=s+48/\∃v,aS w ab 342 [v]/\RgM oZ (s+49) w v aF
theorem AnM.kp{oZ aY:Own}{s:Nat}{w w':World}{ab:Nat}{aF:bW}{T:List Nat}(h:AnM oZ s w ab aF)(K:Kp T oZ aY w w')(h1:s+48∉T)(d:s+49∉T):AnM aY s w' ab aF:=by obtain⟨a,v,b,c⟩:=h;exact⟨by rw[K.ext ab b.lt,a],v,cO b K (by rw[a];exact h1),c.kp K d⟩
def Env(oZ:Own)(s:Nat)(w:World)(S bw bl bi ab:Nat)(M:av)(aF:bW):Prop:=∃l vc,fP oZ s w S l M bw bl bi vc/\AnM oZ s w ab aF
theorem Env.kp{oZ aY:Own}{s:Nat}{w w':World}{S bw bl bi ab:Nat}{M:av}{aF:bW}{T:List Nat}(h:Env oZ s w S bw bl bi ab M aF)(K:Kp T oZ aY w w')(d:∀x,s<=x->x<s+45->x∉T)(h1:s+48∉T)(c:s+49∉T):Env aY s w' S bw bl bi ab M aF:=by obtain⟨l,vc,a,b⟩:=h;exact⟨l,vc,a.kp K d,b.kp K h1 c⟩
theorem Env.below{oZ:Own}{s:Nat}{w w':World}{S bw bl bi ab:Nat}{M:av}{aF:bW}(h:Env oZ s w S bw bl bi ab M aF)(hb:bJ w w'):Env oZ s w' S bw bl bi ab M aF:=h.kp (Kp.below (T:=[]) hb) aP aP aP
structure Wk (M:av):Prop where
 ob:∀k,(M.out k).ay.length<=2048
 oa:∀k,vw (M.out k).cK
 oc:∀k,vw (M.out k).aM
 ng:∀k,(M.out k).nt.bX=false
 bF:∀k,OkI (M.bF k)
 ga:M.gr.ahead<=4096
 sp:M.l9<=M.aL
 lm:M.aL<=dK
 q:M.fq=[]
 wl:M.aJ.length<100000
theorem Wk.dw{M:av}(h:Wk M)(hl:M.outs.length=8)(k:Nat)(b:k<8):(M.out k).dw<=dK:=by
 have h1:=h.sp;have a:=h.lm;have:(M.out k).dw<=M.l9:=by
  have:=zM (M.outs.map Ot.dw) k;have e:(M.outs.map Ot.dw).getD k 0=(M.out k).dw:=by unfold av.out;rw[eT,eT,xB,lg aj];rfl
  rw[e]at this;exact this
 omega
def Tn(s:Nat):List Nat:=Gt s 45++[s+48]
def Tb(s:Nat):List Nat:=(Gt s 60).filter fun x=> !decide (x=s+47)&& !decide (x=s+49)
theorem wH{s x:Nat}:x∈Tn s↔(s<=x/\x<s+45)\/x=s+48:=by
 unfold Tn;rw[mR,CZ,qy];constructor
 ·rintro(⟨i,h,rfl⟩|h);·left;omega
  ·exact .inr h
 ·rintro(⟨h1,a⟩|h);·exact .inl ⟨x-s,aj,aj⟩
  ·exact .inr h
theorem ji{s x:Nat}:x∈Tb s↔(s<=x/\x<s+60)/\x≠s+47/\x≠s+49:=by
 unfold Tb;rw[j3,CZ];simp only[Bool.and_eq_true,rX,decide_eq_false_iff_not];refine and_congr ⟨?_,?_⟩ Iff.rfl;·rintro⟨i,h,rfl⟩;omega
 ·rintro⟨h1,a⟩;exact⟨x-s,aj,aj⟩
theorem qdt(s:Nat):∀x∈Tn s,x∈Tb s:=fun x a=>ji.2 (bV (wH.1 a))
structure SI (oZ:Own) (s:Nat) (w:World) (x:FV):Prop where
 len:x.2.2.1=x.1.ranges.length
 cap:x.1.ranges.length<=x.2.2.2
 rT:jg w x.2.1 x.1.ranges
 cZ:∀a,x.2.1=some a->a.block<w.heap.size/\oZ a.block=s+49/\a.spot=none
 nil:x.1.aC≠2->x.2=(none,0,0)
theorem SI.none(oZ:Own)(s:Nat)(w:World)(f:Fr)(h:f.ranges=[]):SI oZ s w (f,.none,0,0):=⟨by rw[h];rfl,by rw[h];exact eB _,fun j b=>by rw[h]at b;exact absurd b (Kt _),(fun a c=>by cases c),fun _=>rfl⟩
def kY(oZ:Own)(s:Nat)(w:World)(S bw bl bi ab:Nat)(M:av)(aF:bW)(r:Option (Fr×av×bW))(e:Ending)(w':World):Prop:=
 ∃(x:FV) (b:Bool) (aY:Own),e=.returned (.tuple #[fM x.1 (oO x),.bool b])/\b=r.isSome/\Kp (Tn s) oZ aY w w'/\Env aY s w' S bw bl bi ab ((r.map fun y=>y.2.1).getD M) ((r.map fun y=>y.2.2).getD aF)/\∀y,r=some y->x.1=y.1/\SI aY s w' x
def qK(oZ:Own)(s:Nat)(w0:World)(S bw bl bi ab:Nat)(n:Nat)(p k:Array Value)(iw:av->bW->Bool):Prop:=
 ∀aY w M aF,Kp (Tb s) oZ aY w0 w->Env aY s w S bw bl bi ab M aF->Wk M->Calls prog n (p++k) w fun e w'=>e=.returned (.bool (iw M aF))/\bJ w w'
def lI(oZ:Own)(s:Nat)(w0:World)(S bw bl bi ab:Nat)(n:Nat)(p k:Array Value)(iw:av->bW->Bool)(nx:av->bW->Int->Option (Fr×av×bW)):Prop:=
 ∀aY w M aF (au:Int),Kp (Tb s) oZ aY w0 w->Env aY s w S bw bl bi ab M aF->Wk M->iw M aF=true-> -1000000<=au/\au<=1000000->Calls prog n (p.push (iZ au)++k) w fun e w'=>kY aY s w S bw bl bi ab M aF (nx M aF au) e w'
theorem qK.kp{oZ a:Own}{s:Nat}{w0 w1:World}{S bw bl bi ab n:Nat}{p k:Array Value}{iw:av->bW->Bool}(h:qK oZ s w0 S bw bl bi ab n p k iw)(K:Kp (Tb s) oZ a w0 w1):qK a s w1 S bw bl bi ab n p k iw:=
 fun aY w M aF b=>h aY w M aF (K.trans b)
theorem lI.kp{oZ a:Own}{s:Nat}{w0 w1:World}{S bw bl bi ab n:Nat}{p k:Array Value}{iw:av->bW->Bool}{nx:av->bW->Int->Option (Fr×av×bW)}(h:lI oZ s w0 S bw bl bi ab n p k iw nx)(K:Kp (Tb s) oZ a w0 w1):lI a s w1 S bw bl bi ab n p k iw nx:=
 fun aY w M aF au b=>h aY w M aF au (K.trans b)
structure Bx (oZ:Own) (s:Nat) (w:World) (b:Nat) (t:TypeId) (v:Value):Prop where
 ow:oZ b=s+47
 cZ:aS w b t [v]
theorem Bx.kp{oZ aY:Own}{s:Nat}{w w':World}{b:Nat}{t:TypeId}{v:Value}(h:Bx oZ s w b t v)(K:Kp (Tb s) oZ aY w w'):Bx aY s w' b t v:=
 ⟨by rw[K.ext b h.cZ.lt,h.ow],cO h.cZ K (by rw[h.ow];exact fun e=>(ji.1 e).2.1 rfl)⟩
theorem Bx.below{oZ:Own}{s:Nat}{w w':World}{b:Nat}{t:TypeId}{v:Value}(h:Bx oZ s w b t v)(hb:bJ w w'):Bx oZ s w' b t v:=⟨h.ow,gB hb h.cZ⟩
theorem Bx.cell{oZ:Own}{s:Nat}{w:World}{b:Nat}{t:TypeId}{v:Value}(h:Bx oZ s w b t v):w.cell? (aB b 0)=some v:=h.cZ.cell 0
theorem MB{oZ:Own}{s:Nat}{w0:World}{S bw bl bi ab:Nat}{n:Nat}{p k:Array Value}{iw:av->bW->Bool}(d b2:Nat)(y:∀args w,(callFunc n args).run prog w=.ok (.enter n args) w)(h1:Bx oZ s w0 d 128 (aI S 0))(q:Bx oZ s w0 b2 28 (.func (.func n) p k))(h:qK oZ s w0 S bw bl bi ab n p k iw):qK oZ s w0 S bw bl bi ab 261 #[] #[aI d 0,aI b2 0] fun M aF=> !M.full&&iw M aF:=by
 intro aY w M aF K r g;have t:=h aY w M aF K r g;obtain⟨l,vc,c,x⟩:=r;have A:=(h1.kp K).cell;have C:=(q.kp K).cell;have oQ:w.cell? (aB S 230)=some (.map (some bw)):=(c.cZ.cell _).trans c.cells.oQ;obtain⟨f,j,b,m⟩:=c.sI;have a:=Yc bw _ w b (by rw[nP];have:=g.wl;omega);rw[nP]at a;have o:Hid (Calls prog 262 #[.map (some bw)] w fun e w'=>e=.returned (.bool M.full)/\w'=w):=a;have v:=aG t;show Calls prog 261 #[aI d 0,aI b2 0] w fun e w'=>e=.returned (.bool (!M.full&&iw M aF))/\bJ w w';generalize iw M aF=B at *
 clear t a b m j c x g h h1 q K;generalize M.full=u at *
 cases u;·go_enter func261,ntmps261;go_wp2_with (first|(go_at_call 262;refine bN o.out ?_;rintro w' rfl)|(go_at_fn n;refine bN v.out ?_;rintro z i)|go_in);go_ret;exact⟨aP,i⟩
 ·go_enter func261,ntmps261;go_wp2_with (first|(go_at_call 262;refine bN o.out ?_;rintro w' rfl)|go_in);go_ret;exact⟨aP,tL _ _⟩
theorem wI(oZ:Own)(w:World):Kp [] oZ (loc oZ w.heap.size) w w:=⟨rfl,rfl,rfl,eB _,fun _ _ _=>rfl,fun b hb=>jv oZ _ b hb⟩
theorem Yz{oZ:Own}{s:Nat}{w W y c:World}{S bw bl bi ab:Nat}{M':av}{aF:bW}(g:AnM oZ s w ab aF)(hs:0<s)(i:bJ w W)(gQ:w.heap.size<W.heap.size)(q:jC s (loc oZ w.heap.size) W S bw bl bi M' y)(ht:nE w.heap.size y c):∃aY,Kp (Tn s) oZ aY w c/\Env aY s c S bw bl bi ab M' aF:=by
 obtain⟨aY,l',k,h1,K⟩:=q;have a:Kp (T0 s) oZ aY w y:=((wI oZ w).mono aP).trans ((Kp.below i).trans K);have h:aY w.heap.size∈[0]:=by rw[K.ext _ gQ,iX _ _ _ (eB _)];simp
 have d:Kp [0] aY aY y c:=ht.kpt h;have f:Kp (Tn s) oZ aY w c:=⟨ht.os.trans a.os,ht.tape.trans a.tape,ht.output.trans a.output,by rw[ht.size];exact a.size,fun b hb j=>(ht.block b aj).trans (a.cZ b hb (fun e=>j (wH.2 (.inl (fG.1 e))))),a.ext⟩;refine⟨aY,f,l',k,h1.kp d (fun x l _ e=>by simp at e;omega),?_⟩;have:=g.kp (T:=T0 s) (aY:=aY) (w':=y) a (fun e=>bV (fG.1 e)) (fun e=>bV (fG.1 e));exact this.kp d aP aP
theorem fP.loc{oZ:Own}{s:Nat}{w W:World}{S:Nat}{l:bO}{M:av}{bw bl bi:Nat}{vc:Value}(h:fP oZ s w S l M bw bl bi vc)(a:bJ w W):fP (loc oZ w.heap.size) s W S l M bw bl bi vc:=
 (h.kp (wI oZ w) aP).below a
section
section
variable {oZ:Own} {s:Nat} {w0:World} {S bw bl bi ab:Nat}
theorem G7(d:Nat)(h1:Bx oZ s w0 d 128 (aI S 0)):qK oZ s w0 S bw bl bi ab 250 #[] #[aI d 0] fun M _=>M.gr.aK M.aQ:=by
 intro aY w M aF K m f;obtain⟨l,vc,c,j⟩:=m;have p:=(h1.kp K).cell;have h:Hid (∀q,Calls prog 252 #[aI S 0] (w.drewN q) fun e w'=>e=.returned (uZ M.aQ)/\w'=w.drewN q):=fun q=>Oq aY s S l M bw bl bi vc (w.drewN q) (c.below (w':=w.drewN q) ⟨rfl,rfl,rfl,eB _,fun _ _=>rfl⟩) (fun k=>(f.bF k).aQ);have b:M.aQ<=dK:=by
  unfold av.aQ;generalize M.ins=L;cases g:L.reverse with
  |nil=>rw[List.reverse_eq_nil_iff.1 g];exact mI _
  |cons a t=>
   have:L=t.reverse++[a]:=by rw[<-List.reverse_reverse L,g,List.reverse_cons]
   rw[this,F3];exact I7 _ _
 have i:Hid (∀q,Calls prog 251 #[aI S 221,uZ M.aQ] (w.drewN q) fun e w'=>e=.returned (.bool (M.gr.aK M.aQ))/\∃n,w'=(w.drewN q).drewN n):=fun q=>Ja S 221 M.gr M.aQ (w.drewN q) l c.cZ c.cells.gr f.ga b;show Calls prog 250 #[aI d 0] w fun e w'=>e=.returned (.bool (M.gr.aK M.aQ))/\bJ w w';generalize M.gr.aK M.aQ=B at *
 generalize M.aQ=F at *
 clear b c j f K h1;go_enter func250,ntmps250;go_wp2_with fail;go_region_with (first|(go_at_call 252;refine bN (h.out _) ?_;rintro y rfl)|(go_at_call 251;refine bN (i.out _) ?_;rintro y ⟨o,rfl⟩));all_goals
  go_wp2;go_ret;exact⟨rfl,⟨rfl,rfl,rfl,eB _,fun _ _=>rfl⟩⟩
theorem C_(k:Nat)(e:k<8):qK oZ s w0 S bw bl bi ab 255 #[(aI S (18+27*k))] #[] fun M _=>(M.bF k).dh:=by intro aY w M aF K b d;obtain⟨l,vc,a,g⟩:=b;obtain⟨vh,f,c,_⟩:=a.bF k e;refine bN (Eb S (18+27*k) (M.bF k) vh f w l a.cZ c (d.bF k)) ?_;rintro w' ⟨q,rfl⟩;exact⟨rfl,⟨rfl,rfl,rfl,eB _,fun _ _=>rfl⟩⟩
theorem G8(k:Nat)(g:k<8):qK oZ s w0 S bw bl bi ab 258 #[(aI S (4+27*k))] #[] fun M _=>(M.out k).nt.aK (M.out k).ay.length:=by intro aY w M aF K e f;obtain⟨l,vc,b,h⟩:=e;obtain⟨a,c,va,j,d,i,_⟩:=(b.out k g).open b.cZ;refine bN (BQ S (4+27*k) (M.out k).nt (M.out k).ay.length c a w l b.cZ (f.ob k) d.c0 d.nt) ?_;rintro w' ⟨q,rfl⟩;exact⟨rfl,⟨rfl,rfl,rfl,eB _,fun _ _=>rfl⟩⟩
theorem Ae(w:World)(S:Nat)(c:w.cell? (aB S 233)=some nZ):Calls prog 268 #[aI S 233] w fun e w'=>e=.returned (.bool false)/\w'=w:=by go_enter func268,ntmps268;go_wp2;go_ret;exact⟨rfl,rfl⟩
theorem M9(w:World)(S:Nat)(c:w.cell? (aB S 233)=some nZ):Calls prog 249 #[aI S 233] w fun e w'=>e=.returned (iZ 0)/\w'=w:=by have a:=aG (Ae w S c);go_enter func249,ntmps249;go_wp2_with (first|(go_at_call 268;refine bN a.out ?_;rintro w' rfl)|go_in);go_ret;exact⟨rfl,rfl⟩
theorem Da:qK oZ s w0 S bw bl bi ab 268 #[aI S 233] #[] fun M _=>decide (0<M.fq.length):=by intro aY w M aF K b c;obtain⟨l,vc,a,d⟩:=b;refine bN (Ae w S ((a.cZ.cell _).trans a.cells.pW)) ?_;rintro w' rfl;refine⟨?_,tL _ _⟩;show Ending.returned (.bool false)=.returned (.bool (decide (0<M.fq.length)));rw[c.q];rfl
theorem Ry(k:Nat)(h:k<8)(f b2:Nat)(h1:Bx oZ s w0 f 282 (aI S (4+27*k)))(g:Bx oZ s w0 b2 128 (aI S 0)):qK oZ s w0 S bw bl bi ab 263 #[] #[aI f 0,aI b2 0] fun M _=>(M.out k).aK M.aN:=by
 intro aY w M aF K o a;obtain⟨l,vc,d,n⟩:=o;have p:=(h1.kp K).cell;have r:=(g.kp K).cell;have m:=a.dw d.lo k h;have c:(M.out k).dw+M.aN<18446744073709551616:=by
  have:=a.lm;unfold av.aN;unfold dK at *
  omega
 have i:Hid (∀q,Calls prog 265 #[aI S 0] (w.drewN q) fun e w'=>e=.returned (uZ M.aN)/\w'=w.drewN q):=fun q=>ES aY s S l M bw bl bi vc (w.drewN q) (d.below (w':=w.drewN q) ⟨rfl,rfl,rfl,eB _,fun _ _=>rfl⟩) a.sp a.lm;have j:Hid (∀q,Calls prog 264 #[(aI S (4+27*k)),uZ M.aN] (w.drewN q) fun e w'=>e=.returned (.bool ((M.out k).aK M.aN))/\bJ w w'):=fun q=>by have b:=d.below (w':=w.drewN q) ⟨rfl,rfl,rfl,eB _,fun _ _=>rfl⟩;refine bN (Ua (s+1+5*k) aY S (4+27*k) (M.out k) M.aN l (w.drewN q) b.cZ (b.out k h) (a.ob k) c (a.oa k)) ?_;rintro w' hb;exact⟨rfl,⟨hb.os,hb.tape,hb.output,hb.size,hb.block⟩⟩
 show Calls prog 263 #[aI f 0,aI b2 0] w fun e w'=>e=.returned (.bool ((M.out k).aK M.aN))/\bJ w w';generalize (M.out k).aK M.aN=B at *
 generalize M.aN=F at *
 clear c m d n a K h1 g;go_enter func263,ntmps263;go_wp2_with fail;go_region_with (first|(go_at_call 265;refine bN (i.out _) ?_;rintro y rfl)|(go_at_call 264;refine bN (j.out _) ?_;rintro y hb));all_goals
  go_wp2;go_ret;exact⟨rfl,hb⟩
theorem Rz:qK oZ s w0 S bw bl bi ab 246 #[aI ab 0] #[] fun _ aF=>decide (0<aF.length):=by
 intro aY w M aF K i k;obtain⟨l,vc,j,h⟩:=i;obtain⟨_,v,f,d⟩:=h;obtain⟨a,c,rfl⟩:∃a c,v=.slice a aF.length c:=by
  rcases d with⟨h1,g⟩|⟨rb,off,c,h1,_⟩;·exact⟨none,0,by rw[h1,g];rfl⟩
  ·exact⟨_,_,h1⟩
 have m:w.cell? (aB ab 0)=some (.slice a aF.length c):=f.cell 0;show Calls prog 246 #[aI ab 0] w fun e w'=>e=.returned (.bool (decide (0<aF.length)))/\bJ w w';generalize aF.length=n at *
 clear d f j k K;go_enter func246,ntmps246;go_wp2;go_ret;exact⟨congrArg (fun b=>Ending.returned (.bool b)) (decide_eq_decide.2 aj),tL _ _⟩
end

end
end Go.Proofs.YtphbledmopchnaaGreatDoor.Sd
namespace Go.Proofs.YtphbledmopchnaaGreatDoor.Sd
open St Tryz
structure EX (f:Fr):Prop where
 st:0<=f.aH/\f.aH<8
 dt:f.aC=4->ru f
 lm:f.aL<=dK
 kd:f.aC=4\/f.aC=5\/f.aC=6
structure OtB (o:Ot):Prop where
 b:o.ay.length<=2048
 a:vw o.cK
 c:vw o.aM
def MC(g:Gn):Prop:=g.ahead<=4096/\g.dW<=dK/\g.cK<=dK/\g.aM<=dK
structure Eh (i:eH):Prop where
 g:MC i.gr
 r:i.aR<=2048
 h:i.fF<=2048
 f:i.fU<=2048
 e:i.rel<=dK
 l:i.aR+i.bU.length<=2048
 c:i.aM.length=i.bU.length
 s:i.state<=2
theorem Eh.ok{i:eH}(h:Eh i):OkI i:=
 ⟨h.g,by have:=h.r;unfold dK;omega,by have:=h.h;unfold dK;omega,by have:=h.f;unfold dK;omega,h.e,bV h.l,h.c,h.s⟩
def PaB(n:Nat)(x:Nat×pz):Prop:=x.1<n/\x.2.bI.length<=400/\∀f∈x.2.bI,EX f
theorem PaB.mono{n m:Nat}{x:Nat×pz}(h:PaB n x)(a:n<=m):PaB m x:=⟨mK h.1 a,h.2⟩
structure CmB (c:NS):Prop where
 so:Rg.fI c.rs
 hi:∀r∈c.rs,r.2<=dK
 ln:c.rs.length<=8
 fl:c.fl<=dK+1
structure Bd (M:av):Prop where
 o:∀k,OtB (M.out k)
 i:∀k,Eh (M.bF k)
 g:MC M.gr
 lm:M.aL<=dK
 mt:64<=M.bG/\M.bG<=400
 wy:∀x∈M.aJ,PaB M.next x
 ls:∀x∈M.bP,PaB M.next x
 ky:(M.bP++M.aJ).Pairwise fun x y=>x.1≠y.1
 wl:M.aJ.length<=12
 ll:M.bP.length<=65
 nm:M.named<=M.next
 cm:CmB M.aM
 tk:∀x∈M.aJ,x.2.bE<=M.bE
theorem Bd.wk{M:av}(h:Bd M)(a:fE M):Wk M:=
 ⟨fun k=>(h.o k).b,fun k=>(h.o k).a,fun k=>(h.o k).c,fun k=>(a.wr k).bX,fun k=>(h.i k).ok,h.g.1,a.sp,h.lm,a.q,bV h.wl⟩
theorem Bd.dD{M:av}(h:Bd M)(k:Nat)(o:Ot)(a:OtB o):Bd (M.dD k o):=
 ⟨fun j=>by rw[fB];split;exact a;exact h.o j,h.i,h.g,h.lm,h.mt,h.wy,h.ls,h.ky,h.wl,h.ll,h.nm,h.cm,h.tk⟩
theorem Bd.eG{M:av}(h:Bd M)(k:Nat)(i:eH)(a:Eh i):Bd (M.eG k i):=
 ⟨h.o,fun j=>by rw[dQ];split;exact a;exact h.i j,h.g,h.lm,h.mt,h.wy,h.ls,h.ky,h.wl,h.ll,h.nm,h.cm,h.tk⟩
theorem Bd.qbi{M:av}(h:Bd M)(g:Gn)(a:MC g):Bd {M with gr:=g}:=
 ⟨h.o,h.i,a,h.lm,h.mt,h.wy,h.ls,h.ky,h.wl,h.ll,h.nm,h.cm,h.tk⟩
theorem oI{x:NS}{f:Fr}(h:vw x)(a:ru f):vw (rU x f):=by
 have h1:=a.o;have c:=a.e;have b:=a.ne;have d:f.aD<=bC f:=by unfold bC;omega
 unfold rU;cases i:f.bn
 ·rw[i]at b;have j:0<bC f:=b.resolve_left aP;by_cases g:f.aD<=bC f-1;·exact(h.add _ _ (by simpa using g) (by simp;omega)).1
  ·have e:x.add 2049 f.aD (if false=true then bC f else bC f-1)=x:=by
    unfold NS.add Rg.add;rw[bK (by simp;omega)]
   rw[e];exact h
 ·exact(h.add _ _ (by simpa using d) (by simpa using c)).1
theorem MC.aw{g:Gn}(h:MC g)(x:Nat)(a:x<=dK):MC (g.aw x):=⟨h.1,h.2.1,Ko.2 ⟨h.2.2.1,a⟩,h.2.2.2⟩
theorem MC.cm{g:Gn}(h:MC g)(x:Nat)(a:x<=dK):MC (g.cm x):=⟨h.1,h.2.1,h.2.2.1,Ko.2 ⟨h.2.2.2,a⟩⟩
theorem MC.j5{g:Gn}(h:MC g):MC g.j5:=⟨h.1,h.2.1,mI _,h.2.2.2⟩
theorem Eh.gr'{i:eH}(h:Eh i)(g:Gn)(a:MC g):Eh {i with gr:=g}:=⟨a,h.r,h.h,h.f,h.e,h.l,h.c,h.s⟩
theorem Cw{M:av}(h:Bd M)(f:Fr)(a:EX f):Bd (M.eP f):=by
 unfold av.eP;split;·rename_i b;exact h.dD _ _ ⟨(h.o _).b,oI (h.o _).a (a.dt b),(h.o _).c⟩
 ·split;·exact h.dD _ _ ⟨(h.o _).b,(h.o _).a,(h.o _).c⟩
  ·split;·exact h.eG _ _ ((h.i _).gr' _ ((h.i _).g.aw _ a.lm))
   ·exact h.qbi _ (h.g.aw _ a.lm)
theorem xR{M:av}(h:Bd M)(f:Fr)(a:EX f):Bd (M.dx f):=by
 unfold av.dx;split;·rename_i b;exact h.dD _ _ ⟨(h.o _).b,oI (h.o _).a (a.dt b),oI (h.o _).c (a.dt b)⟩
 ·split;·exact h.dD _ _ ⟨(h.o _).b,(h.o _).a,(h.o _).c⟩
  ·split;·exact h.eG _ _ ((h.i _).gr' _ ((h.i _).g.cm _ a.lm))
   ·exact h.qbi _ (h.g.cm _ a.lm)
theorem GH(g:av->Fr->av)(a:∀{M:av},Bd M->∀f,EX f->Bd (g M f)):∀(l:List Fr) {M:av},Bd M->(∀f∈l,EX f)->Bd (l.foldl g M)
 |[],_,h,_=>h
 |f::t,_,h,hl=>GH g a t (a h f (hl f aP)) fun x b=>hl x (by simp[b])
def av.mD(M:av):av:=
 {M with
  aJ:=M.aJ.filter fun x=> !M.gF x
  bP:=(M.bP++M.aJ.filter M.gF).filter fun x=> !decide (x.1+64<M.next)
  gr:=M.gr.j5
  outs:=M.outs.map jh
  ins:=M.ins.map iC}
def av.gU(M M1:av):Prop:=
 if M.aJ.any M.gF then∃lp:List (Nat×pz),lp.Perm (M.aJ.filter fun x=> !M.gF x)/\M1=(bI lp).foldl av.eP M.mD else M1=M
def av.rZ(M:av)(l:bW):av:=
 {M with
  named:=max M.named ((l.getD 0 (0,0)).2+1)
  aJ:=M.aJ.filter fun x=> !names l x.1
  bP:=M.bP.filter fun x=> !names l x.1}
def av.nu(M:av)(l:bW)(M1:av):Prop:=
 ∃lp lq:List (Nat×pz),lp.Perm (M.aJ.filter fun x=>names l x.1)/\lq.Perm (M.bP.filter fun x=>names l x.1)/\M1=(bI lp++bI lq).foldl av.dx (M.rZ l)
theorem uS{A B A':av}(e:fE A)(h1:dO A B)(d:dO B A)(h:A.gU A'):tu A B A':=by
 unfold av.gU at h;split at h;·obtain⟨lp,_,rfl⟩:=h;have s:=UK e h1 d (A.aJ.filter fun x=> !A.gF x) ((A.bP++A.aJ.filter A.gF).filter fun x=> !decide (x.1+64<A.next));exact s.trans (xM av.eP (fun a b c f=>Qw a b c f) _ s.loc s.ab s.ba)
 ·rw[h];exact kg e h1 d
theorem QB{A B A':av}(e:fE A)(h1:dO A B)(d:dO B A)(l:bW)(h:A.nu l A'):tu A B A':=by obtain⟨lp,lq,_,_,rfl⟩:=h;have s:=GA e h1 d (A.aJ.filter fun x=> !names l x.1) (A.bP.filter fun x=> !names l x.1) A.next (max A.named ((l.getD 0 (0,0)).2+1)) (eB _);exact s.trans (xM av.dx (fun a b c f=>ET a b c f) _ s.loc s.ab s.ba)
theorem jR{l:List (Nat×pz)}{n:Nat}(h:∀x∈l,PaB n x):∀f∈bI l,EX f:=fun f a=>by unfold bI at a;obtain⟨x,b,a⟩:=List.mem_flatMap.1 a;exact(h x b).2.2 f a
theorem JD:∀(n a:Nat) (l:List (Nat×pz)),(l.Pairwise fun x y=>x.1≠y.1)->(∀x∈l,a<=x.1/\x.1<a+n)->l.length<=n
 |0,a,l,_,h=>by
  cases l with
  |nil=>exact eB _
  |cons x t=>have:=h x aP;omega
 |n+1,a,l,hp,h=>by
  have h1:=JD n a (l.filter fun x=> !decide (x.1=a+n)) (hp.filter _) fun x d=>by obtain⟨p,q⟩:=j3.1 d;have:=h x p;simp at q;omega
  have i:(l.filter fun x=>decide (x.1=a+n)).length<=1:=by
   have b:=hp.filter (fun x=>decide (x.1=a+n));generalize c:(l.filter fun x=>decide (x.1=a+n))=m at b;match m,c,b with
   |[],_,_=>simp
   |[x],_,_=>simp
   |x::y::t,c,b=>
    have d:x∈(l.filter fun x=>decide (x.1=a+n)):=by rw[c];simp
    have g:y∈(l.filter fun x=>decide (x.1=a+n)):=by rw[c];simp
    have e:=(j3.1 d).2;have f:=(j3.1 g).2;simp at e f;exact absurd (e.trans f.symm) ((FU.1 b).1 y aP)
  have j:l.length=(l.filter fun x=>decide (x.1=a+n)).length+(l.filter fun x=> !decide (x.1=a+n)).length:=by have:=(Bu (fun x:Nat×pz=>decide (x.1=a+n)) l).length_eq;rw[FR]at this;exact this.symm
  omega
theorem qdu:OtB rV:=⟨iO,⟨rfl,trivial,fun r a=>by cases a⟩,⟨rfl,trivial,fun r a=>by cases a⟩⟩
theorem GI(n:Nat)(h:n<=4096):Eh (eH.new n):=
 ⟨⟨h,og h iO,mI _,og h iO⟩,mI _,mI _,mI _,mI _,mI _,rfl,mI _⟩
theorem Cx{M:av}(h:Bd M):Bd M.mD:=by
 have b:(M.bP++M.aJ.filter M.gF++M.aJ.filter fun x=> !M.gF x).Pairwise fun x y=>x.1≠y.1:=by rw[wz];have hp:(M.aJ.filter M.gF++M.aJ.filter fun x=> !M.gF x).Perm M.aJ:=Bu _ _;exact(((List.Perm.refl M.bP).append hp).pairwise_iff (fun{_ _} e=>Ne.symm e)).2 h.ky
 refine⟨fun k=>?_,fun k=>?_,h.g.j5,h.lm,h.mt,fun x a=>h.wy x (j3.1 a).1,fun x a=>?_,?_,og (tK _ _) h.wl,?_,h.nm,h.cm,fun x a=>h.tk x (j3.1 a).1⟩
 ·show OtB ((M.outs.map jh).getD k rV);by_cases b:k<M.outs.length
  ·have:(M.outs.map jh).getD k rV=jh (M.out k):=by
    unfold av.out;rw[eT,eT,xB,lg b];rfl
   rw[this];exact⟨(h.o k).b,(h.o k).c,(h.o k).c⟩
  ·have:(M.outs.map jh).getD k rV=rV:=by
    rw[eT,nA (by simp;omega)];rfl
   rw[this];exact qdu
 ·show Eh ((M.ins.map iC).getD k sK);by_cases b:k<M.ins.length
  ·have:(M.ins.map iC).getD k sK=iC (M.bF k):=by
    unfold av.bF;rw[eT,eT,xB,lg b];rfl
   rw[this];exact(h.i k).gr' _ (h.i k).g.j5
  ·have:(M.ins.map iC).getD k sK=sK:=by
    rw[eT,nA (by simp;omega)];rfl
   rw[this];exact GI 0 iO
 ·rcases mR.1 (j3.1 a).1 with a|a;·exact h.ls x a
  ·exact h.wy x (j3.1 a).1
 ·show((K8 _ (M.bP++M.aJ.filter M.gF))++M.aJ.filter fun x=> !M.gF x).Pairwise _;exact b.sublist (List.filter_sublist.append (List.Sublist.refl _))
 ·show(K8 _ (M.bP++M.aJ.filter M.gF)).length<=65;refine JD 65 (M.next-64) _ ((b.sublist (List.sublist_append_left _ _)).filter _) fun x a=>?_;obtain⟨p,q⟩:=j3.1 a;have c:x.1<M.next:=by
   rcases mR.1 p with p|p;·exact(h.ls x p).1
   ·exact(h.wy x (j3.1 p).1).1
  simp at q;omega
theorem JE{M M1:av}(h:Bd M)(c:M.gU M1):Bd M1:=by
 unfold av.gU at c;split at c;·obtain⟨lp,hp,rfl⟩:=c;exact GH _ (fun a f b=>Cw a f b) _ (Cx h) (jR fun x d=>h.wy x (j3.1 (hp.mem_iff.1 d)).1)
 ·rw[c];exact h
theorem UR{M M1:av}{l:bW}(h:Bd M)(hl:(l.getD 0 (0,0)).2<M.next)(e:M.nu l M1):Bd M1:=by
 obtain⟨lp,lq,hp,hq,rfl⟩:=e;refine GH _ (fun a f b=>xR a f b) _ ?_ (fun f d=>?_);·exact⟨h.o,h.i,h.g,h.lm,h.mt,fun x c=>h.wy x (j3.1 c).1,fun x c=>h.ls x (j3.1 c).1,h.ky.sublist (List.filter_sublist.append List.filter_sublist),og (tK _ _) h.wl,og (tK _ _) h.ll,Ko.2 ⟨h.nm,hl⟩,h.cm,fun x c=>h.tk x (j3.1 c).1⟩
 ·rcases mR.1 d with d|d;·exact jR (fun x c=>h.wy x (j3.1 (hp.mem_iff.1 c)).1) f d
  ·exact jR (fun x c=>h.ls x (j3.1 (hq.mem_iff.1 c)).1) f d
end Go.Proofs.YtphbledmopchnaaGreatDoor.Sd
namespace Go.Proofs.YtphbledmopchnaaGreatDoor.Sd
open Go.RowKit Go.Lib Mm Go.Maps Tryz
section
attribute [local go_sem] Oper.semAt_some
theorem Cz:∀(fs:List Fr) (j i:Nat),j<fs.length->i<10->(yZ fs)[j*10+i]?=(gG (fs.getD j iM) nZ)[i]?
 |[],_,_,h,_=>by simp at h
 |f::t,0,i,_,hi=>by show(gG f nZ++yZ t)[0*10+i]?=_;rw[Nat.zero_mul,Nat.zero_add,yP (by exact hi)];rfl
 |f::t,j+1,i,h,hi=>by show(gG f nZ++yZ t)[(j+1)*10+i]?=_;have hl:(gG f nZ).length=10:=rfl;rw[uj aj,hl,show(j+1)*10+i-10=j*10+i by omega,Cz t j i (by simpa using h) hi];rfl
theorem EZ:∀(l:List (Nat×pz)) (y:Nat×pz),(l.Pairwise fun x z=>x.1≠z.1)->y∈l->l.Perm (y::l.filter fun z=> !decide (z.1=y.1))
 |[],_,_,h=>by cases h
 |a::t,y,hp,h=>by
  obtain⟨h1,b⟩:=FU.1 hp;by_cases e:a.1=y.1
  ·have c:y=a:=by
    rcases o8.1 h with h|h;·exact h
    ·exact absurd e (h1 y h)
   subst c;rw[List.filter_cons_of_neg aP,List.filter_eq_self.2 fun z hz=>by simpa using fun e=>h1 z hz e.symm]
  ·have d:y∈t:=by
    rcases o8.1 h with h|h;·exact absurd (by rw[h]) e
    ·exact h
   rw[List.filter_cons_of_pos (by simpa using e)];exact((EZ t y b d).cons a).trans (.swap _ _ _)
theorem MF(l m:List (Nat×pz)):bI (l++m)=bI l++bI m:=by simp[bI]
structure SL (f:Nat->Option Addr×Nat) (b r t tf tr:Nat) (ls:List (Nat×pz)) (J:Own->List Fr->World->Prop) (oZ:Own) (y:World) (lp lr:List (Nat×pz)) (pre:List Fr):Prop where
 rg:tJ y b r (ls.map (DT f)) (lr.map (DT f))
 ob:oZ b=t
 orr:oZ r=tr
 gs:∀x∈ls,GT oZ tf 65 10 y (.slice (f x.1).1 x.2.bI.length (f x.1).2) x.2.bI.length (yZ x.2.bI)
 pm:(lp++lr).Perm ls
 j:J oZ pre y
theorem SL.kp{f:Nat->Option Addr×Nat}{b r t tf tr:Nat}{ls:List (Nat×pz)}{J:Own->List Fr->World->Prop}{oZ aY:Own}{y y':World}{lp lr:List (Nat×pz)}{pre a:List Fr}{T:List Nat}(h:SL f b r t tf tr ls J oZ y lp lr pre)(K:Kp T oZ aY y y')(h1:t∉T)(c:tf∉T)(d:tr∉T)(e:J aY a y'):SL f b r t tf tr ls J aY y' lp lr a:=
 ⟨h.rg.kept (K.cZ b h.rg.map.lt (by rw[h.ob];exact h1)) (K.cZ r h.rg.lt (by rw[h.orr];exact d)),by rw[K.ext b h.rg.map.lt,h.ob],by rw[K.ext r h.rg.lt,h.orr],fun x g=>(h.gs x g).kp K c,h.pm,e⟩
theorem SL.aF{f:Nat->Option Addr×Nat}{b r t tf tr:Nat}{ls:List (Nat×pz)}{J:Own->List Fr->World->Prop}{oZ aY:Own}{y y':World}{lp lr:List (Nat×pz)}{pre:List Fr}{T:List Nat}(h:SL f b r t tf tr ls J oZ y lp lr pre)(K:Kp T oZ aY y y')(h1:t∉T)(a:tr∉T):y'.rangeLeft b r=y.rangeLeft b r:=
 fT (K.cZ b h.rg.map.lt (by rw[h.ob];exact h1)) (K.cZ r h.rg.lt (by rw[h.orr];exact a))
theorem U8(F:Fence)(n:Nat)(hF:F.fn 243)(x0:F.round=none)(hn:1<=n)(L bx b t tf tr:Nat)(R:List Nat)(ls:List (Nat×pz))(hm:∀x∈ls,x.2.bI.length<=1000000)(ht:t∉R)(x2:tf∉R)(h3:tr∉R)(hk:tf≠tr)(J:Own->List Fr->World->Prop)(hJ:∀oZ aY pre W E,J oZ pre W->Kp [tr] oZ aY W E->J aY pre E)(hY:∀oZ pre f W,J oZ pre W->(∃x∈ls,f∈x.2.bI)->YieldAt F (n-1) prog L #[fM f nZ] W fun e E=>e=.returned (.bool true)/\∃aY,J aY (pre++[f]) E/\Kp R oZ aY W E)(oZ:Own)(W:World)(hb:aS W bx 203 [.map (some b)])(A:sM oZ t tf W b ls)(S:J oZ [] W):CallsIn F n prog 243 #[.func (.yield L) #[] #[],aI bx 0] W fun e E=>(∃v,e=.returned v)/\∃aY lp,lp.Perm ls/\J aY (bI lp) E:=by
 obtain⟨f,f1,f2,f3⟩:=A;have hr:ls.Pairwise fun x z=>x.1≠z.1:=by have:=f2.keys;rw[List.pairwise_map]at this;exact this
 have k0:W.cell? (aB bx 0)=some (.map (some b)):=hb.cell 0;have HJ:=aG hJ;have HY:=aG hY;have H0:=aG (dB f1 (dB f3 S));have HM:=aG f2;clear hb f1 f2 f3 S hJ hY;refine callsIn_of_wp func243 rfl hF ?_ x0;simp only[ntmps243,List.size_toArray,Ht,List.length_nil,Nat.reduceAdd,Nat.reduceSub,Array.replicate_succ,Array.replicate_zero,List.push_toArray,List.append_toArray,List.nil_append,List.cons_append];gi_wp2_with (first|(gi_at_range;refine ME _ rfl _ rfl b _ rfl HM.out ?_;intro w0 C o x1)|fail);have H1:Hid (∃k,SL f b W.heap.size t tf tr ls J k w0 [] ls []):=by obtain⟨k,ho⟩:=bZ (fun x=>if x<W.heap.size then oZ x else tr:Own);have K:Kp [] oZ k W w0:=⟨o.os,o.tape,o.output,o.size,fun x p _=>o.block x p aP,fun x p=>by rw[ho];exact bK p⟩;exact⟨k,C,by rw[K.ext b HM.out.lt];exact H0.out.1,by rw[ho];exact aU (KT _),fun x p=>(H0.out.2.1 x p).kp K aP,.refl _,HJ.out _ _ _ _ _ H0.out.2.2 (K.mono aP)⟩
 clear C o x1 H0 HM k0;go_frame;gi_loopw [9] (fun _ wr=>∃oZ lp lr,Hid (SL f b W.heap.size t tf tr ls J oZ wr lp lr (bI lp))) (fun _ wr=>wr.rangeLeft b W.heap.size)
 case atStart=>obtain⟨k,h1⟩:=H1.out;exact⟨k,[],ls,h1⟩
 case round=>
  obtain⟨k,lp,lr,H2⟩:=hrel;clear H1;have Z:=H2.out.rg;obtain⟨lf,w⟩:=bZ (lr.map (DT f));rw[<-w]at Z;have O:=aG w;clear w;gi_wp2_with (first|(gi_at_next;refine QG _ rfl _ rfl b W.heap.size _ _ rfl Z ?_ ?_)|fail)
  ·intro S;rw[O.out]at S;gi_wp2;go_end0;have hv:lr=[]:=by cases lr with
    |nil=>rfl
    |cons a t=>simp at S
   have h:=H2.out;rw[hv]at h;exact⟨⟨_,rfl⟩,k,lp,by simpa using h.pm,h.j⟩
  ·intro xn xa xl xc xt w1 p Me m d c x5 U;have H:=H2.out;obtain w:=O.out;subst w;obtain⟨y,D,h6⟩:=tT.1 p;simp only[DT,Prod.mk.injEq]at h6;obtain⟨rfl,rfl,rfl,rfl,rfl⟩:=h6;have Y:lr.Pairwise fun x z=>x.1≠z.1:=by
    have:=(H.pm.pairwise_iff (fun{_ _} e=>Ne.symm e)).2 hr;exact(List.pairwise_append.1 this).2.1
   have h7:y∈ls:=H.pm.mem_iff.1 (mR.2 (.inr D));have G:=EZ lr y Y D;have A:(lr.map (DT f)).filter (fun z=> !decide (z.1=y.1))=(lr.filter fun z=> !decide (z.1=y.1)).map (DT f):=by rw[CP];rfl
   rw[A]at m;generalize x3:(lr.filter fun z=> !decide (z.1=y.1))=l at m G;have h8:((lp++[y])++l).Perm ls:=by rw[wz];exact((List.Perm.refl lp).append G.symm).trans H.pm
   have K1:Kp [tr] k k wr w1:=⟨c.os,c.tape,c.output,c.size,fun b' he hn=>c.block b' he (fun e=>hn (by cases e;rw[H.orr];simp)),fun _ _=>rfl⟩;have hw:tf∉[tr]:=by simpa using hk
   obtain⟨M,r⟩:=bZ (w1.alloc (.cells #[.slice (f y.1).1 y.2.bI.length (f y.1).2,uZ y.2.bE] 289));have P:Kp [] k k w1 M:=by rw[r];exact Kp.alloc _ _ _ _
   have H3:Hid (SL f b W.heap.size t tf tr ls J k M (lp++[y]) l (bI lp)):=by
    have a:SL f b W.heap.size t tf tr ls J k w1 (lp++[y]) l (bI lp):=
     ⟨m,by rw[K1.ext b H.rg.map.lt];exact H.ob,H.orr,fun x p=>(H.gs x p).kp K1 hw,h8,HJ.out _ _ _ _ _ H.j K1⟩
    exact a.kp P aP aP aP (HJ.out _ _ _ _ _ a.j (P.mono aP))
   have ha:M.rangeLeft b W.heap.size<wr.rangeLeft b W.heap.size:=by
    rw[(H3.out.aF (y':=M) (Kp.refl [] _ _) aP aP),r];have:(w1.alloc (.cells #[.slice (f y.1).1 y.2.bI.length (f y.1).2,uZ y.2.bE] 289)).rangeLeft b W.heap.size=w1.rangeLeft b W.heap.size:=by rw[<-r];exact fT (P.cZ b (mK H.rg.map.lt c.size) aP) (P.cZ _ (mK H.rg.lt c.size) aP)
    rw[this];exact d
   have x6:=hm y h7;have SN:=aG (dB h7 (Eq.refl (bI (lp++[y]))));clear H p m d c h8 G x3 A Y D K1 P;simp only[vT]at U ⊢;gi_wp2;rw[<-r];clear r U;generalize V:y.2.bI=fs at *
   generalize h4:(f y.1).1=xa at *
   generalize h5:(f y.1).2=xc at *
   have q:=aG (dB V (dB h4 h5));clear V h4 h5;gi_loopw [16] (fun I w2=>∃(j:Nat) (gu:Own),j<=fs.length/\I=(iZ j)/\Hid (SL f b W.heap.size t tf tr ls J gu w2 (lp++[y]) l (bI lp++fs.take j))/\w2.rangeLeft b W.heap.size=M.rangeLeft b W.heap.size) (fun I _=>fs.length-(nV I).toNat)
   case atStart=>exact⟨0,k,mI _,rfl,(by rw[List.take_zero,List.append_nil];exact H3),rfl⟩
   case round=>
    obtain⟨j,gu,hj,rfl,N,u⟩:=hrel;by_cases d:j<fs.length
    ·have x4:(j:Int)<(fs.length:Int):=aj;have hG:GT gu tf 65 10 wr (.slice xa fs.length xc) fs.length (yZ fs):=by
      have:=N.out.gs y SN.out.1;rwa[q.out.1,q.out.2.1,q.out.2.2]at this
     obtain⟨g,hg,_,_,hf,_⟩:=hG.cell (j*10+0) _ (Cz fs j 0 d aj);have s:∀i x,i<10->(gG (fs.getD j iM) nZ)[i]?=some x->wr.cell? (aB g (j*10+i))=some x:=fun i x hi p=>by
      obtain⟨g',X,_,_,h',_⟩:=hG.cell (j*10+i) x ((Cz fs j i d hi).trans p);rw[hg]at X;have:g=g':=by simpa using X
      rw[this];exact h'
     clear hf hG;have B:fs.getD j iM∈fs:=by rw[eT,lg d];exact List.getElem_mem d
     have h2:fs.take (j+1)=fs.take j++[fs.getD j iM]:=by rw[xQ,eT,lg d];rfl
     have Oi:=aG (dB h2 B);clear h2 B;generalize fs.getD j iM=ff at *
     have c0:=s 0 _ aj rfl;have c1:=s 1 _ aj rfl;have c2:=s 2 _ aj rfl;have c3:=s 3 _ aj rfl;have c4:=s 4 _ aj rfl;have c5:=s 5 _ aj rfl;have c6:=s 6 _ aj rfl;have c7:=s 7 _ aj rfl;have c8:=s 8 _ aj rfl;have c9:=s 9 _ aj rfl;clear s;subst hg;simp only[Nat.add_zero]at c0;obtain⟨W5,wO⟩:=bZ (wr.alloc (.cells (gG ff nZ).toArray 65));have K5:Kp [] gu gu wr W5:=by rw[wO];exact Kp.alloc _ _ _ _
     have H5:Hid (SL f b W.heap.size t tf tr ls J gu W5 (lp++[y]) l (bI lp++fs.take j)):=N.out.kp K5 aP aP aP (HJ.out _ _ _ _ _ N.out.j (K5.mono aP));have hu:=N.out.aF K5 aP aP;obtain⟨fn,tmps,assign,body,D,hR⟩:=HY.out gu _ ff W5 H5.out.j ⟨y,SN.out.1,by rw[q.out.1];exact Oi.out.2⟩;rw[wO]at D hR;unfold fM at D;simp only[gG]at D hR;have h9:=aG wO;clear wO K5;gi_wp2;refine hR.mono ?_;rintro e w6 ⟨rfl,wh,T,K6⟩;have H6:Hid (SL f b W.heap.size t tf tr ls J wh w6 (lp++[y]) l (bI lp++fs.take (j+1))/\w6.rangeLeft b W.heap.size=M.rangeLeft b W.heap.size):=by
      have Q:Kp R gu wh W5 w6:=by rw[h9.out];exact K6
      refine⟨H5.out.kp Q ht x2 h3 ?_,?_⟩;·rw[Oi.out.1,<-wz];exact T
      ·rw[H5.out.aF Q ht h3,hu,u]
     clear T K6 hR D c0 c1 c2 c3 c4 c5 c6 c7 c8 c9;gi_wp2;go_roundw;case rel=>exact⟨j+1,wh,aj,aP,H6.out.1,H6.out.2⟩
     case measure=>simp[nV];omega
    ·obtain rfl:j=fs.length:=aj;gi_wp2;go_roundw;case rel=>
      refine⟨gu,lp++[y],l,?_⟩;have h:=N.out;rw[List.take_length]at h;have e:bI (lp++[y])=bI lp++fs:=by rw[MF];simp[bI,q.out.1]
      rw[e];exact h
     case measure=>rw[u];exact ha
end
end Go.Proofs.YtphbledmopchnaaGreatDoor.Sd
namespace Go.Proofs.YtphbledmopchnaaGreatDoor.Sd
open Go.RowKit Go.Lib Mm Tryz
theorem uT(oZ:Own)(k:Nat):∀n,∃t,k<=t/\∀b,b<n->oZ b<t
 |0=>⟨k,eB _,fun _ h=>absurd h (Kt _)⟩
 |n+1=>by
  obtain⟨t,h1,a⟩:=uT oZ k n;refine⟨max t (oZ n+1),aj,fun b hb=>?_⟩;by_cases e:b=n;·subst e;omega
  ·have:=a b aj;omega
theorem Kp.less{T U:List Nat}{oZ aY:Own}{w w':World}(h:Kp (U++T) oZ aY w w')(a:∀b,b<w.heap.size->oZ b∉U):Kp T oZ aY w w':=
 ⟨h.os,h.tape,h.output,h.size,fun b hb c=>h.cZ b hb (fun e=>(mR.1 e).elim (a b hb) c),h.ext⟩
theorem rF{n:Nat}(E:2<=n){Q:Exit->Act->World->Prop}{a:Act}{d:World}{g:Operand}{p:Tmp}{assign body:Code}(Z b t tf tr u S:Nat)(F:List Nat)(ls:List (Nat×pz))(wh:Own)(z:Own->List Fr->World->Prop)(x4:a.eval g=.func (.func 243) #[] #[aI Z 0])(h8:aS d Z 203 [.map (some b)])(x3:sM wh t tf d b ls)(x2:∀x∈ls,x.2.bI.length<=1000000)(ht:t∉F)(x7:tf∉F)(x8:tr∉F)(x6:u∉F)(x5:S∉F)(hd:tf≠tr/\u≠tr/\S≠tr/\u≠S)(hJ:∀oZ aY pre W G,z oZ pre W->Kp [u,tr] oZ aY W G->z aY pre G)(h0:z wh [] d)(hB:∀L oZ pre f W,L<W.heap.size->z oZ pre W->(∃x∈ls,f∈x.2.bI)->assign.wpIn (Fence.wide.inRound L) (n-1-1) prog
   (Exit.then (fun a₁ w₁=>Kp [] oZ oZ W w₁/\∀w₂,(∀k,k≠L->w₂.heap[k]?=w₁.heap[k]?)->w₂.heap.size=w₁.heap.size->z oZ pre w₂->body.wpIn (Fence.wide.inRound L) (n-1-1) prog (fun e _ W6=>e=.normal/\∃aY,z aY (pre++[f]) W6/\Kp F oZ aY w₂ W6) a₁ w₂) (fun _ _ _=>False))
   {tmps:=a.tmps.setIfInBounds p (fM f nZ),defers:=[]} W)(hQ:∀aY lp G D,lp.Perm ls->z aY (bI lp) G->d.heap.size<=D->aY D=S->G.heap[D]?=some (.deferred (some []))->Q .normal {a with defers:=[{target:=.collected D,args:=#[]}]++a.defers} G):(Code.rangeFunc g #[p] assign body).wpIn Fence.wide n prog Q a d:=by
 refine St.vK (fun ag bd a0 has x0 J=>wpIn_rangeFunc ?_);intro fn _;obtain⟨l,j⟩:∃l:LoopState->Option Code->Loop,l=fun st pe=>{state:=st,pending:=pe,fn:=fn,tmps:=a0.tmps,params:=#[p],assign:=ag,body:=bd,defers:=d.heap.size}:=⟨_,rfl⟩;obtain⟨A,hA⟩:=bZ ((d.alloc (.deferred (some []))).alloc (.loop (l .ready none)));have xa:A.heap.size=d.heap.size+2:=by rw[hA];simp
 have T:bJ d A:=by rw[hA];exact((tL _ d).alloc (eB _) _).alloc aP _
 have hv:A.heap[d.heap.size+1]?=some (.loop (l .ready none)):=by rw[hA];have:=Ev (d.alloc (.deferred (some []))) (.loop (l .ready none));rwa[World.size_alloc]at this
 have hm:A.heap[d.heap.size]?=some (.deferred (some [])):=by rw[hA];exact(Below.heap_alloc _ _ _ aP).trans (Ev d _)
 obtain⟨SQ,N⟩:=bZ (fun x=>if x<d.heap.size then wh x else if x=d.heap.size then S else u:Own);have K4:Kp [] wh SQ d A:=⟨T.os,T.tape,T.output,T.size,fun x hx _=>T.block x hx,fun x hx=>by rw[N];exact bK hx⟩;have oL:SQ (d.heap.size+1)=u:=by rw[N];simp only;rw[aU aj,aU aj]
 have oD:SQ d.heap.size=S:=by rw[N];simp only;rw[aU aj,bK trivial]
 refine⟨d.heap.size+1,[{target:=.collected d.heap.size,args:=#[]}],A,{target:=.fn (.func 243) #[aI Z 0],args:=#[.func (.yield (d.heap.size+1)) #[] #[]]},A,243,#[.func (.yield (d.heap.size+1)) #[] #[],aI Z 0],A,?_,?_,fun _ _=>trivial,?_,fun _=>aj,?_⟩;·rw[hA,j];exact run_enterLoop_outer _ _ _ _ _
 ·rw[J];simp[resolve,x4];simp[Deferred.ofValue,Act.eval,go_sem]
 ·simp[invoke,go_sem]
 ·refine(U8 Fence.wide (n-1) trivial rfl aj (d.heap.size+1) Z b t tf tr F ls x2 ht x7 x8 hd.1
   (fun oZ pre W=>z oZ pre W/\oZ (d.heap.size+1)=u/\W.heap[d.heap.size+1]?=some (.loop (l .ready none))/\oZ d.heap.size=S/\W.heap[d.heap.size]?=some (.deferred (some [])))
   (fun oZ aY pre W G h K=>?_) (fun oZ pre f W h hf=>?_) SQ A (h8.of_heap (T.block _ h8.lt)) (x3.kp K4 aP aP) ⟨hJ _ _ _ _ _ h0 (K4.mono aP),oL,hv,oD,hm⟩).mono ?_
  ·obtain⟨h1,C,y,H,I⟩:=h;have O:=(mY.1 y).1;have lD:=(mY.1 I).1;exact⟨hJ _ _ _ _ _ h1 (K.mono aP),by rw[K.ext _ O,C],(K.cZ _ O (by rw[C];simpa using hd.2.1)).trans y,by rw[K.ext _ lD,H],(K.cZ _ lD (by rw[H];simpa using hd.2.2.1)).trans I⟩
  ·obtain⟨h1,C,y,H,I⟩:=h;have O:=(mY.1 y).1;have lD:=(mY.1 I).1;have hy:=run_yield (P:=prog) (args:=#[fM f nZ]) y (by rw[j];rfl);rw[j]at hy;refine⟨fn,a.tmps.setIfInBounds p (fM f nZ),ag,bd,by rw[hy,J];simp,roundIn_of_wpIn trivial ?_⟩;rw[has,x0];refine wpIn_mono (hB (d.heap.size+1) oZ pre f W O h1 hf) ?_;intro e a1 w1 X;cases e with
   |normal=>
    obtain⟨m,hw⟩:=X;have hr:=(m.cZ _ O aP).trans y;obtain⟨q,s⟩:∃q,q=w1.putObj (d.heap.size+1) (.loop {l .ready none with state:=.busy}):=⟨_,rfl⟩;have x1:(Instr.beginRound (d.heap.size+1)).run prog w1=.ok () q:=by rw[s];exact run_beginRound hr (by rw[j])
    have R:q.heap.size=w1.heap.size:=by rw[s];simp
    have o2:∀k,k≠d.heap.size+1->q.heap[k]?=w1.heap[k]?:=fun k o=>by rw[s];exact qA o
    have he:d.heap.size+1<w1.heap.size:=mK O m.size;have hu:q.heap[d.heap.size+1]?=some (.loop {l .ready none with state:=.busy}):=by rw[s];exact Em he
    have U:q.os=w1.os/\q.tape=w1.tape/\q.output=w1.output:=by rw[s];exact⟨rfl,rfl,rfl⟩
    have K2:Kp [u,tr] oZ oZ W q:=⟨U.1.trans m.os,U.2.1.trans m.tape,U.2.2.trans m.output,by rw[R];exact m.size,fun k o E=>by have:k≠d.heap.size+1:=fun e=>E (by rw[e,C];simp);rw[o2 k this];exact m.cZ k o aP,fun _ _=>rfl⟩;refine⟨q,x1,wpIn_mono (hw q o2 R (hJ _ _ _ _ _ h1 K2)) ?_⟩;rintro e a6 W6 ⟨rfl,jZ,ho,w⟩;have hg:d.heap.size+1<q.heap.size:=by rw[R];exact he
    have h6:=(w.cZ _ hg (by rw[C];exact x6)).trans hu;have ha:=run_endRound (P:=prog) none h6;obtain⟨B,Y⟩:=bZ (W6.putObj (d.heap.size+1) (.loop (l .ready none)));have x9:=(mY.1 h6).1;have o7:∀k,k≠d.heap.size+1->B.heap[k]?=W6.heap[k]?:=fun k o=>by rw[Y];exact qA o
    have s7:B.heap.size=W6.heap.size:=by rw[Y];simp
    have V:B.os=W6.os/\B.tape=W6.tape/\B.output=W6.output:=by rw[Y];exact⟨rfl,rfl,rfl⟩
    have h7:B.heap[d.heap.size+1]?=some (.loop (l .ready none)):=by rw[Y];exact Em x9
    have hj:jZ (d.heap.size+1)=u:=by rw[w.ext _ hg,C]
    have hc:d.heap.size<q.heap.size:=by rw[R];exact mK lD m.size
    have K7:Kp [u,tr] jZ jZ W6 B:=⟨V.1,V.2.1,V.2.2,by rw[s7];exact eB _,fun k o E=>o7 k (fun e=>E (by rw[e,hj];simp)),fun _ _=>rfl⟩;refine⟨.bool true,B,by rw[ha,Y,j];rfl,rfl,jZ,⟨hJ _ _ _ _ _ ho K7,hj,h7,by rw[w.ext _ hc,H],?_⟩,?_⟩;·rw[o7 _ aj,w.cZ _ hc (by rw[H];exact x5),o2 _ aj,m.cZ _ lD aP,I]
    ·refine⟨V.1.trans (w.os.trans (U.1.trans m.os)),V.2.1.trans (w.tape.trans (U.2.1.trans m.tape)),V.2.2.trans (w.output.trans (U.2.2.trans m.output)),by rw[s7];exact og m.size (by rw[<-R];exact w.size),fun k o E=>?_,fun k o=>w.ext k (by rw[R];exact mK o m.size)⟩;by_cases M:k=d.heap.size+1;·rw[M,h7,y]
     ·rw[o7 k M,w.cZ k (by rw[R];exact mK o m.size) E,o2 k M,m.cZ k o aP]
   |ret=>exact X
   |exit i=>exact X
   |goto i=>exact X
   |panic c=>exact X
   |outgrown=>exact X
  ·rintro e W ⟨⟨v,rfl⟩,ny,lp,hp,h1,C,y,H,I⟩;have O:=(mY.1 y).1;obtain⟨r,DW⟩:∃r,r=W.putObj (d.heap.size+1) (.loop {l .ready none with state:=.exhausted}):=⟨_,rfl⟩;have h9:(Instr.endLoop (d.heap.size+1)).run prog W=.ok none r:=by
    have:=run_endLoop (P:=prog) y (by rw[j];simp);rw[DW];rw[j]at this ⊢;exact this
   have o4:∀k,k≠d.heap.size+1->r.heap[k]?=W.heap[k]?:=fun k o=>by rw[DW];exact qA o
   have s4:r.heap.size=W.heap.size:=by rw[DW];simp
   have e4:r.os=W.os/\r.tape=W.tape/\r.output=W.output:=by rw[DW];exact⟨rfl,rfl,rfl⟩
   refine⟨none,r,h9,?_⟩;have K5:Kp [u,tr] ny ny W r:=⟨e4.1,e4.2.1,e4.2.2,by rw[s4];exact eB _,fun k o E=>o4 k (fun e=>E (by rw[e,C];simp)),fun _ _=>rfl⟩;have:=hQ ny lp r d.heap.size hp (hJ _ _ _ _ _ h1 K5) (eB _) H ((o4 _ aj).trans I);rw[J];exact this
theorem sM.take{oZ:Own}{t tf:Nat}{w:World}{b:Nat}{l:List (Nat×pz)}(h:sM oZ t tf w b l)(i:tf≠t)(hl:l.length<100000)(g:Nat)(p k:Array Value)(z:∀args w,(callFunc g args).run prog w=.ok (.enter g args) w)(d:Nat->Nat->Bool)(s:Nat)(B:∀x∈l,∀v:Option Addr×Nat×Nat×Nat,v.2.2.2=x.2.bE->∀W:World,w.grownBy W (some b)->Calls prog g (p++(#[uZ x.1,vT v]++k)) W fun e u=>e=.returned (.bool (d x.1 x.2.bE))/\bJ W u):Calls prog 191 #[.map (some b),.func (.func g) p k] w fun e w'=>e=.returned (.map (some w.heap.size))/\∃aY,sM aY t tf w' b (l.filter fun x=> !d x.1 x.2.bE)/\sM aY s tf w' w.heap.size (l.filter fun x=>d x.1 x.2.bE)/\Kp [t] oZ aY w w':=by
 obtain⟨f,h1,j,m⟩:=h;refine(Yd g p k b (l.map (DT f)) (fun e=>d e.1 e.2.2.2.2) w z j (by rw[nP];exact hl) (fun x a W c=>?_)).mono ?_;·obtain⟨y,C,rfl⟩:=tT.1 a;exact B y C _ rfl W c
 ·rintro e w' ⟨rfl,q,r,c⟩;obtain⟨aY,o⟩:=bZ (fun x=>if x<w.heap.size then oZ x else s:Own);have K:Kp [t] oZ aY w w':=⟨c.os,c.tape,c.output,c.size,fun x a A=>c.block x a (fun e=>A (by cases e;rw[h1];simp)),fun x a=>by rw[o];exact bK a⟩;rw[CP]at q r;have n:tf∉[t]:=by simpa using i
  refine⟨rfl,aY,⟨f,by rw[K.ext b j.lt,h1],q,fun x a=>(m x (j3.1 a).1).kp K n⟩,⟨f,by rw[o];exact aU (KT _),r,fun x a=>(m x (j3.1 a).1).kp K n⟩,K⟩
end Go.Proofs.YtphbledmopchnaaGreatDoor.Sd
namespace Go.Proofs.YtphbledmopchnaaGreatDoor.Sd
open Go.RowKit Go.Lib Mm Go.Maps Tryz
structure SV (w:World) (b r:Nat) (l:List jA) (want:jA->Bool) (y:World) (cur lf:List jA):Prop where
 rg:tJ y b r cur lf
 cur:∀x,x∈cur↔x∈l/\(x∈lf\/want x=false)
 gr:w.grownBy y (some b)
theorem SV.done{w:World}{b r:Nat}{l:List jA}{want:jA->Bool}{y:World}{cur:List jA}(h:SV w b r l want y cur [])(hl:l.Nodup):kR y b (l.filter fun x=> !want x):=by refine h.rg.map.perm (xC h.rg.map.nodup (hl.filter _) fun x=>?_);rw[h.cur,j3];simp
theorem SV.stay{w:World}{b r:Nat}{l:List jA}{want:jA->Bool}{y z:World}{cur lf a:List jA}(h:SV w b r l want y cur lf)(x:jA)(g:∀y,y∈l->(y∈a↔y∈lf/\y≠x))(j:want x=false)(d:tJ z b r cur a)(i:w.grownBy z (some b)):SV w b r l want z cur a:=by
 refine⟨d,fun e=>?_,i⟩;rw[h.cur];refine and_congr_right fun f=>?_;rw[g e f];by_cases c:e=x;·rw[c];simp[j]
 ·simp[c]
theorem SV.go{w:World}{b r:Nat}{l:List jA}{want:jA->Bool}{y z:World}{cur lf f:List jA}(h:SV w b r l want y cur lf)(t:∀e∈l,∀k∈l,e.1=k.1->e=k)(x:jA)(v:x∈lf)(n:∀y,y∈l->(y∈f↔y∈lf/\y≠x))(u:want x=true)(p:tJ z b r (cur.filter fun e=> !decide (e.1=x.1)) (f.filter fun e=> !decide (e.1=x.1)))(s:w.grownBy z (some b)):SV w b r l want z (cur.filter fun e=> !decide (e.1=x.1)) (f.filter fun e=> !decide (e.1=x.1)):=by
 have j:x∈l:=((h.cur x).1 (h.rg.sub x v)).1;have d:∀e∈l,((!decide (e.1=x.1))=true↔e≠x):=fun e q=>by simp only[rX,decide_eq_false_iff_not];exact⟨fun i c=>i (by rw[c]),fun i c=>i (t e q x j c)⟩
 refine⟨p,fun e=>?_,s⟩;rw[j3,j3,h.cur];constructor;·rintro⟨⟨h1,g⟩,m⟩;refine⟨h1,g.imp (fun a=>⟨(n e h1).2 ⟨a,(d e h1).1 m⟩,m⟩) id⟩
 ·rintro⟨h1,g⟩;rcases g with⟨a,o⟩|a;·exact⟨⟨h1,.inl ((n e h1).1 a).1⟩,o⟩
  ·refine⟨⟨h1,.inr a⟩,(d e h1).2 fun c=>?_⟩;rw[c,u]at a;cases a
theorem Ej(g:Nat)(p k:Array Value)(b:Nat)(l:List jA)(want:jA->Bool)(w:World)(eg:∀args w,(callFunc g args).run prog w=.ok (.enter g args) w)(h:kR w b l)(Z:∀x∈l,∀W:World,w.grownBy W (some b)->Calls prog g (p++(#[uZ x.1,vT x.2]++k)) W fun e T=>e=.returned (.bool (want x))/\bJ W T):Calls prog 194 #[.map (some b),.func (.func g) p k] w fun e w'=>e=.returned (.tuple #[])/\kR w' b (l.filter fun x=> !want x)/\w.grownBy w' (some b):=by
 have Q:=h.nodup;have R:=h.lt;go_enter func194,ntmps194;go_wp2_with (first|(at_range;refine mO _ rfl _ rfl b l rfl h ?_;intro w0 D L X)|go_in);go_frame;go_loopw [4] (fun _ wr=>∃cur lf:List jA,Hid (SV w b w.heap.size l want wr cur lf)) (fun _ wr=>wr.rangeLeft b w.heap.size);case atStart=>exact⟨l,l,(⟨D,fun x=>⟨fun q=>⟨q,.inl q⟩,fun q=>q.1⟩,L.but _⟩:SV w b w.heap.size l want w0 l l)⟩
 case round=>
  obtain⟨cur,lf,hrel⟩:=hrel;go_wp2_with (first|(at_next;refine oq _ rfl _ rfl b w.heap.size cur lf rfl hrel.out.rg ?_ ?_)|go_in);·intro U;go_wp2;go_end0;subst U;exact⟨rfl,hrel.out.done Q,hrel.out.gr⟩
  ·intro v E F xc G w1 q S c P M Y C;have H:=hrel.out;have m:(v,E,F,xc,G)∈l:=((H.cur _).1 (H.rg.sub _ q)).1;obtain⟨B,t⟩:=bZ (w1.alloc (.cells #[.slice E F xc,uZ G] 289));have n:w1.grownBy B none:=by rw[t];exact EF _ _ _
   have o:w.grownBy B (some b):=(H.gr.andThen M (fun j r=>by cases r;exact .inl (eB _))).andThen n (fun j r=>by cases r);have A:=Z _ m B o;have I:tJ B b w.heap.size cur (lf.filter fun y=> !decide (y.1=v)):=c.kept (n.block _ c.map.lt aP) (n.block _ c.lt aP);have s:B.rangeLeft b w.heap.size<wr.rangeLeft b w.heap.size:=by rw[(fT (n.block _ c.map.lt aP) (n.block _ c.lt aP))];exact P
   have f:∀y,y∈l->(y∈(lf.filter fun y=> !decide (y.1=v))↔y∈lf/\y≠(v,E,F,xc,G)):=fun y hy=>by rw[j3];refine and_congr_right fun _=>?_;simp only[rX,decide_eq_false_iff_not];exact⟨fun u e=>u (by rw[e]),fun u e=>u (h.inj hy m e)⟩
   cases i:want (v,E,F,xc,G)
   ·rw[i]at A;have z:=aG (dB m (dB f (dB i q)));have d:=aG (dB o (dB I s));clear m f i q o I s;simp only[vT]at C A ⊢;go_wp2_with (first|(go_at_fn g;rw[<-t];refine bN A ?_;rintro w2 a)|go_in);go_roundw;case rel=>exact⟨cur,_,(H.stay _ z.out.2.1 z.out.2.2.1 (d.out.2.1.kept (a.block _ d.out.2.1.map.lt) (a.block _ d.out.2.1.lt)) (d.out.1.andThen (jI a) (fun j r=>by cases r)):SV _ _ _ _ _ _ _ _)⟩
    case measure=>rw[fT (a.block _ d.out.2.1.map.lt) (a.block _ d.out.2.1.lt)];exact d.out.2.2
   ·rw[i]at A;have z:=aG (dB m (dB f (dB i q)));have d:=aG (dB o (dB I s));clear m f i q o I s;simp only[vT]at C A ⊢;go_wp2_with (first|(go_at_fn g;rw[<-t];refine bN A ?_;rintro w2 a)|(at_delete;refine qB _ rfl _ _ rfl b w.heap.size cur _ rfl (d.out.2.1.kept (a.block _ d.out.2.1.map.lt) (a.block _ d.out.2.1.lt)) v rfl S ?_;intro w4 J O N;go_frame)|go_in);refine⟨⟨_,_,(H.go (fun e V e' K=>h.inj V K) (v,E,F,xc,G) z.out.2.2.2 z.out.2.1 z.out.2.2.1 J ((d.out.1.andThen (jI a) (fun j r=>by cases r)).andThen N (fun j r=>by cases r;exact .inr rfl)):SV _ _ _ _ _ _ _ _)⟩,?_⟩;refine Nat.lt_of_le_of_lt O ?_;rw[fT (a.block _ d.out.2.1.map.lt) (a.block _ d.out.2.1.lt)];exact d.out.2.2
structure CyF (w:World) (b b2 r:Nat) (l d:List jA) (y:World) (lf tk:List jA):Prop where
 rg:tJ y b2 r l lf
 mp:kR y b tk
 tk:∀x,x∈tk↔x∈d\/(x∈l/\x∉lf)
 gr:w.grownBy y (some b)
theorem YG(b b2:Nat)(l d:List jA)(w:World)(h:kR w b d)(O:kR w b2 l)(m:b≠b2)(hl:l.length+d.length<100000)(B:∀x∈l,∀y∈d,x.1≠y.1):Calls prog 193 #[.map (some b),.map (some b2)] w fun e w'=>e=.returned (.tuple #[])/\kR w' b (d++l)/\kR w' b2 l/\w.grownBy w' (some b):=by
 have G:(d++l).Nodup:=List.nodup_append.2 ⟨h.nodup,O.nodup,fun x f y K e=>B y K x f (by rw[e])⟩;have A:=h.lt;go_enter func193,ntmps193;go_wp2_with (first|(at_range;refine mO _ rfl _ rfl b2 l rfl O ?_;intro w0 I C X)|go_in);go_frame;go_loopw [4] (fun _ wr=>∃lf tk:List jA,Hid (CyF w b b2 w.heap.size l d wr lf tk)) (fun _ wr=>wr.rangeLeft b2 w.heap.size);case atStart=>exact⟨l,d,(⟨I,h.kept (C.block _ A aP),fun x=>⟨fun f=>.inl f,fun f=>f.elim id fun f=>absurd f.1 f.2⟩,C.but _⟩:CyF w b b2 w.heap.size l d w0 l d)⟩
 case round=>
  obtain⟨lf,tk,hrel⟩:=hrel;go_wp2_with (first|(at_next;refine oq _ rfl _ rfl b2 w.heap.size l lf rfl hrel.out.rg ?_ ?_)|go_in);·intro W;go_wp2;go_end0;subst W;refine⟨rfl,hrel.out.mp.perm (xC hrel.out.mp.nodup G fun x=>?_),hrel.out.rg.map,hrel.out.gr⟩;rw[hrel.out.tk,mR];simp
  ·intro r L M xc N w1 f V c T q Y R;have H:=hrel.out;have k:(r,L,M,xc,N)∈l:=H.rg.sub _ f;have S:tk.length<1000000:=by
    have:=Oc H.mp.nodup G fun x f=>mR.2 (((H.tk x).1 f).imp id fun h=>h.1);rw[FR]at this;omega
   obtain⟨t,z⟩:=bZ (w1.alloc (.cells #[.slice L M xc,uZ N] 289));have g:w1.grownBy t none:=by rw[z];exact EF _ _ _
   have D:w.grownBy t (some b):=(H.gr.andThen q (fun j E=>by cases E;exact .inl (eB _))).andThen g (fun j E=>by cases E);have U:tJ t b2 w.heap.size l (lf.filter fun y=> !decide (y.1=r)):=c.kept (g.block _ c.map.lt aP) (g.block _ c.lt aP);have v:kR t b tk:=H.mp.kept ((g.block _ (mK H.mp.lt q.size) aP).trans (q.block _ H.mp.lt (by simp;omega)));have F:t.rangeLeft b2 w.heap.size<wr.rangeLeft b2 w.heap.size:=by rw[(fT (g.block _ c.map.lt aP) (g.block _ c.lt aP))];exact T
   have p:∀y∈tk,y.1≠r:=fun y K e=>by
    rcases(H.tk y).1 K with a|a;·exact B _ k y a e.symm
    ·exact a.2 (by rw[O.inj a.1 k e];exact f)
   have o:∀y,y∈l->(y∈(lf.filter fun y=> !decide (y.1=r))↔y∈lf/\y≠(r,L,M,xc,N)):=fun y K=>by rw[j3];refine and_congr_right fun _=>?_;simp only[rX,decide_eq_false_iff_not];exact⟨fun m e=>m (by rw[e]),fun m e=>m (O.inj K k e)⟩
   have s:=aG (dB k (dB o p));have n:=aG (dB D (dB U (dB v F)));clear k o f D U F v p;simp only[vT]at R ⊢;go_wp2_with (first|(at_mapUpdate;rw[<-z];refine qD _ rfl _ _ _ rfl b tk rfl n.out.2.2.1 S (r,L,M,xc,N) rfl rfl V s.out.2.2 ?_;intro Z Q i;go_frame)|go_in);have P:=n.out.2.1.kept (i.block _ n.out.2.1.map.lt (by simp;omega)) (i.block _ n.out.2.1.lt (by simp;omega));refine⟨⟨_,_,(⟨P,Q,fun e=>?_,n.out.1.andThen i (fun j E=>by cases E;exact .inr rfl)⟩:CyF _ _ _ _ _ _ _ _ _)⟩,?_⟩
   ·rw[o8,H.tk];constructor
    ·rintro(a|a|a);·rw[a];exact .inr ⟨s.out.1,fun u=>((s.out.2.1 _ s.out.1).1 u).2 rfl⟩
     ·exact .inl a
     ·exact .inr ⟨a.1,fun u=>a.2 ((s.out.2.1 _ a.1).1 u).1⟩
    ·rintro(a|a);·exact .inr (.inl a)
     ·by_cases J:e=(r,L,M,xc,N);·exact .inl J
      ·exact .inr (.inr ⟨a.1,fun u=>a.2 ((s.out.2.1 _ a.1).2 ⟨u,J⟩)⟩)
   ·rw[fT (i.block _ n.out.2.1.map.lt (by simp;omega)) (i.block _ n.out.2.1.lt (by simp;omega))];exact n.out.2.2.2
end Go.Proofs.YtphbledmopchnaaGreatDoor.Sd
namespace Go.Proofs.YtphbledmopchnaaGreatDoor.Sd
open Go.RowKit Go.Lib Mm Tryz
theorem sM.drop{oZ:Own}{t tf:Nat}{w:World}{b:Nat}{l:List (Nat×pz)}(h:sM oZ t tf w b l)(d:tf≠t)(g:Nat)(p k:Array Value)(n:∀args w,(callFunc g args).run prog w=.ok (.enter g args) w)(i:Nat->Nat->Bool)(u:∀x∈l,∀v:Option Addr×Nat×Nat×Nat,v.2.2.2=x.2.bE->∀W:World,w.grownBy W (some b)->Calls prog g (p++(#[uZ x.1,vT v]++k)) W fun e m=>e=.returned (.bool (i x.1 x.2.bE))/\bJ W m):Calls prog 194 #[.map (some b),.func (.func g) p k] w fun e w'=>e=.returned (.tuple #[])/\sM oZ t tf w' b (l.filter fun x=> !i x.1 x.2.bE)/\Kp [t] oZ oZ w w':=by
 obtain⟨f,h1,o,q⟩:=h;refine(Ej g p k b (l.map (DT f)) (fun e=>i e.1 e.2.2.2.2) w n o (fun x c W a=>?_)).mono ?_;·obtain⟨y,z,rfl⟩:=tT.1 c;exact u y z _ rfl W a
 ·rintro e w' ⟨rfl,j,a⟩;have K:Kp [t] oZ oZ w w':=⟨a.os,a.tape,a.output,a.size,fun x c s=>a.block x c (fun e=>s (by cases e;rw[h1];simp)),fun x c=>rfl⟩;rw[CP]at j;have r:tf∉[t]:=by simpa using d
  exact⟨rfl,⟨f,h1,j,fun x c=>(q x (j3.1 c).1).kp K r⟩,K⟩
theorem sM.copy{oZ:Own}{t s tf:Nat}{w:World}{b b2:Nat}{d l:List (Nat×pz)}(h:sM oZ t tf w b d)(z:sM oZ s tf w b2 l)(j:tf≠t)(ht:t≠s)(hl:l.length+d.length<100000)(c:∀x∈l,∀y∈d,x.1≠y.1):Calls prog 193 #[.map (some b),.map (some b2)] w fun e w'=>e=.returned (.tuple #[])/\sM oZ t tf w' b (d++l)/\Kp [t] oZ oZ w w':=by
 obtain⟨f,h1,C,u⟩:=h;obtain⟨f2,A,D,v⟩:=z;obtain⟨F,hF⟩:=bZ (fun n=>if(l.any fun x=>decide (x.1=n))=true then f2 n else f n:Nat->Option Addr×Nat);have q:∀x∈l,F x.1=f2 x.1:=fun x a=>by rw[hF];exact bK (Gy.2 ⟨x,a,aP⟩)
 have p:∀x∈d,F x.1=f x.1:=fun x a=>by rw[hF];refine aU (fun e=>?_);obtain⟨y,m,e⟩:=Gy.1 e;exact c y m x a (by simpa using e)
 have hb:b≠b2:=fun e=>ht (by rw[<-h1,<-A,e]);refine(YG b b2 (l.map (DT f2)) (d.map (DT f)) w C D hb (by rw[nP,nP];exact hl) (fun x a y m=>?_)).mono ?_;·obtain⟨G,k,rfl⟩:=tT.1 a;obtain⟨y',o,rfl⟩:=tT.1 m;exact c G k y' o
 ·rintro e w' ⟨rfl,E,_,i⟩;have K:Kp [t] oZ oZ w w':=⟨i.os,i.tape,i.output,i.size,fun x a B=>i.block x a (fun e=>B (by cases e;rw[h1];simp)),fun x a=>rfl⟩;have r:tf∉[t]:=by simpa using j
  refine⟨rfl,⟨F,h1,?_,fun x a=>?_⟩,K⟩;·rw[tO,Ew (g:=DT f) (fun x a=>by unfold DT;rw[p x a]),Ew (l:=l) (g:=DT f2) (fun x a=>by unfold DT;rw[q x a])];exact E
  ·rcases mR.1 a with a|a;·rw[p x a];exact(u x a).kp K r
   ·rw[q x a];exact(v x a).kp K r
