import Derived.Test.YtphbledmopchnaaGreatDoorLhc
open Bool renaming and_eq_true->mY
open ByteArray renaming data_extract->nI,data_append->nP
open List renaming getD_eq_getElem?_getD->eT,getElem?_eq_getElem->j3,getElem?_cons_succ->lg,getElem?_cons_zero->mE,getElem?_replicate->mI,replicate->mK,mem_of_mem_eraseIdx->mR,mem_map->nA,getElem_of_mem->nU,filter_append->nV,getElem?_drop->og,getElem_mem->o8,mem_filter->qy
open Nat renaming le_refl->eB,le_trans->rX
set_option maxHeartbeats 4000000
set_option maxRecDepth 100000
namespace Go.Proofs.YtphbledmopchnaaGreatDoor.Sd
open St Tryz
def Net.to(n:Net)(i:Nat):List (Nat×List Fr):=(n.dN.filter fun y=>decide (y.1=i)).map Prod.snd
theorem uy{n:Net}{i:Nat}{y:Nat×List Fr}:y∈n.to i↔(i,y)∈n.dN:=by
 unfold Net.to;constructor;·intro h;obtain⟨z,hz,rfl⟩:=nA.1 h;obtain⟨h1,a⟩:=qy.1 hz;have e:z.1=i:=of_decide_eq_true a;rw[<-e];exact h1
 ·intro h;exact nA.2 ⟨(i,y),qy.2 ⟨h,aP⟩,rfl⟩
def yH(n:Net):Prop:=∀i,i<2->LI (n.x i) (n.x (1-i)) (n.to (1-i)) (n.to i)
theorem qcj(bG aO aX:Nat):LI (av.new bG aO aX) (av.new bG aO aX) [] []:=by
 have b:∀k,((av.new bG aO aX).out k).cK.rs=[]/\((av.new bG aO aX).out k).aM.rs=[]:=fun k=>by show(((mK 8 (Ot.new aO)).getD k rV)).cK.rs=[]/\(((mK 8 (Ot.new aO)).getD k rV)).aM.rs=[];rw[eT,mI];split<;>exact⟨rfl,rfl⟩
 have hi:∀k,((av.new bG aO aX).bF k).gr.cK=0/\((av.new bG aO aX).bF k).gr.aM=((av.new bG aO aX).out k).aL:=fun k=>by show(((mK 8 (eH.new aO)).getD k sK)).gr.cK=0/\(((mK 8 (eH.new aO)).getD k sK)).gr.aM=(((mK 8 (Ot.new aO)).getD k rV)).aL;rw[eT,mI,eT,mI];split<;>exact⟨rfl,rfl⟩
 have none:∀p,¬Rg.Mem [] p:=fun p ⟨r,c,_⟩=>by cases c
 refine⟨⟨fun k p hp=>absurd (by rw[(b k).1]at hp;exact hp) (none p),.inl (Nat.zero_le _),fun k=>.inl (by rw[(hi k).1];exact Nat.zero_le _)⟩,fun k p hp=>absurd (by rw[(b k).2]at hp;exact hp) (none p),eB _,fun k=>by rw[(hi k).2];exact eB _,?_,?_,?_,?_⟩;·intro x a;cases a
 ·intro x a;cases a
 ·intro x a;cases a
 ·intro x a;cases a
theorem Zr(bG aO aX:Nat):yH (Net.new bG aO aX):=fun _ _=>qcj bG aO aX
theorem yH.sub{n n':Net}(h:yH n)(b:n'.x=n.x)(hb:∀y∈n'.dN,y∈n.dN):yH n':=fun i hi=>by rw[b];exact(h i hi).dN (fun y a=>uy.2 (hb _ (uy.1 a))) (fun y a=>uy.2 (hb _ (uy.1 a)))
theorem yH.set{n:Net}{M:av}(i:Nat)(hi:i<2)(h1:LI M (n.x (1-i)) (n.to (1-i)) (n.to i))(c:LI (n.x (1-i)) M (n.to i) (n.to (1-i))):yH (n.dY i M):=fun j d=>by
 have a:(n.dY i M).x i=M:=dA n i M;have b:(n.dY i M).x (1-i)=n.x (1-i):=dX _ _ _ _ aj;rcases(show j=i\/j=1-i by omega)with rfl|rfl;·rw[a,b];exact h1
 ·rw[show 1-(1-i)=i by omega,a,b];exact c
theorem yH.qg{n:Net}(h:yH n)(i:Nat)(hi:i<2){M:av}(a:M.aJ=(n.x i).aJ)(b:M.bP=(n.x i).bP)(e:∀k,(M.out k).cK=((n.x i).out k).cK/\(M.out k).aM=((n.x i).out k).aM)(c:M.gr=(n.x i).gr)(d:∀k,(M.bF k).gr=((n.x i).bF k).gr)(le:qh (n.x i) M)(ec:M.aM=(n.x i).aM):yH (n.dY i M):=by refine yH.set i hi ((h i hi).qg a b e c d) ?_;have:=h (1-i) aj;rw[show 1-(1-i)=i by omega]at this;exact this.grow le (fun p hp=>by rw[<-ec];exact hp)
theorem Nw{f:Fr}(hs:snd f=true)(k:f.aC=2):∀r∈f.ranges,r.2<=(f.ranges.getD 0 (0,0)).2:=by
 unfold snd at hs;simp only[mY]at hs;have ht:=hs.2;unfold l7 at ht;rw[bK k]at ht;unfold qp at ht;rw[mY]at ht;have a:=fun j b=>(List.all_eq_true.1 ht.1) j (List.mem_range.2 b);have key:∀j,j<f.ranges.length->(f.ranges.getD j (0,0)).2<=(f.ranges.getD 0 (0,0)).2:=fun j=>by
  induction j with
  |zero=>exact fun _=>eB _
  |succ j g=>intro b;have h1:=a (j+1) b;have c:=a j aj;unfold sj at h1 c;simp only[mY,Bool.or_eq_true,decide_eq_true_eq,Nat.add_sub_cancel]at h1 c;have:=g aj;omega
 intro r d;obtain⟨j,b,e⟩:=nU d;have:=key j b;rw[eT,j3 b,Option.getD_some,e]at this;exact this
theorem Zt{bG:Nat}{A B:av}{y:Nat×List Fr}(h:Hw bG A B y):∀g∈y.2,g.aC=2->∀r∈g.ranges,r.2<B.next:=fun g a k r c=>by have hd:=h.dec;unfold oV at hd;rw[bK rfl]at hd;obtain⟨j,b,e⟩:=nU a;have hs:=(hd.2.1 j b).1;rw[eT,j3 b,Option.getD_some,e]at hs;have h1:=Nw hs k r c;rcases h.fr g a with⟨_,_,q⟩|⟨q,_⟩|⟨q,_⟩|⟨q,_⟩<;>omega
theorem yH.yG{bG:Nat}{n:Net}(h:yH n)(hp:fH bG n)(i:Nat)(hi:i<2){M:av}{pk:List (Nat×List Fr)}(f:(n.x i).next+24<dK)(e:(n.x i).jS M pk):yH (n.yG i M pk):=by
 have b:(n.yG i M pk).x i=M:=dA n i M;have c:(n.yG i M pk).x (1-i)=n.x (1-i):=dX _ _ _ _ aj;have g:(n.yG i M pk).to (1-i)=n.to (1-i)++uq pk:=by
  show((n.dN++(uq pk).map (fun y=>(1-i,y))).filter _).map Prod.snd=_;rw[nV,List.map_append];congr 1
  rw[List.filter_eq_self.2 (fun y a=>by obtain⟨z,_,rfl⟩:=nA.1 a;simp),List.map_map];exact List.map_id _
 have k:(n.yG i M pk).to i=n.to i:=by show((n.dN++(uq pk).map (fun y=>(1-i,y))).filter _).map Prod.snd=_;rw[nV,List.filter_eq_nil_iff (l:=(uq pk).map (fun y=>(1-i,y))).2 (fun y a=>by obtain⟨z,_,rfl⟩:=nA.1 a;simp;omega),List.append_nil];rfl
 have d:=h (1-i) aj;rw[show 1-(1-i)=i by omega]at d;have m:=(h i hi).qex (hp.loc i hi) (hp.two i hi) (hp.jT i hi) (hp.bd i hi) f e (fun y a=>by
   have:=((hp.dN _ (uy.1 a)).2).lt;simp only[show 1-(1-i)=i by omega]at this;exact this) (fun y a=>by
   exact Zt (hp.dN _ (uy.1 a)).2)
 have o:=d.qey (hp.loc i hi) (hp.jT i hi) (hp.two i hi) (hp.bd i hi) f e;intro j p;rcases(show j=i\/j=1-i by omega)with rfl|rfl;·rw[b,c,g,k];exact m
 ·rw[show 1-(1-i)=i by omega,b,c,g,k];exact o
theorem yH.come{bG:Nat}{n:Net}(h:yH n)(hp:fH bG n)(i:Nat)(hi:i<2){M:av}{y:Nat×List Fr}(e:(i,y)∈n.dN)(d:∀i,i<2->(n.x i).next<=dK)(f:(n.x i).jc y.1 y.2 M 0):yH (n.dY i M):=by have c:=h (1-i) aj;rw[show 1-(1-i)=i by omega]at c;have hb:=(hp.dN _ e).2;obtain⟨a,b,_⟩:=(h i hi).aM c (hp.loc i hi) (hp.loc _ aj) (hp.two i hi) (hp.jT i hi) (hp.bd i hi) (hp.bd _ aj) (uy.2 e) hb.lt hb.fr ⟨d i hi,d _ aj⟩ f;exact yH.set i hi a b
theorem yH.iD{n:Net}(h:yH n)(i:Nat)(hi:i<2):yH (n.dY i (n.x i).iD):=
 h.qg i hi rfl rfl (fun _=>⟨rfl,rfl⟩) rfl (fun _=>rfl) ⟨fun _ _ h=>h,eB _,fun _=>eB _,rfl,fun _=>rfl⟩ rfl
theorem yH.dD{n:Net}(h:yH n)(i:Nat)(hi:i<2)(k:Nat)(o:Ot)(a:o.cK=((n.x i).out k).cK)(b:o.aM=((n.x i).out k).aM)(c:o.aL=((n.x i).out k).aL):yH (n.dY i ((n.x i).dD k o)):=by
 refine h.qg i hi rfl rfl (fun j=>?_) rfl (fun _=>rfl) (lF _ _ _ (by rw[c];exact eB _)) rfl;rw[fB];split;·rename_i e;rw[e.1];exact⟨a,b⟩
 ·exact⟨rfl,rfl⟩
theorem zD(o:Ot)(b:List UInt8):(o.send b).1.cK=o.cK/\(o.send b).1.aM=o.aM/\(o.send b).1.aL=o.aL:=by
 unfold Ot.send;repeat' split
 all_goals exact⟨rfl,rfl,rfl⟩
theorem uz(o:Ot):o.finish.1.cK=o.cK/\o.finish.1.aM=o.aM/\o.finish.1.aL=o.aL:=by unfold Ot.finish;split<;>exact⟨rfl,rfl,rfl⟩
theorem yH.aR{n:Net}(h:yH n)(i:Nat)(hi:i<2)(k:Nat)(bf:Int):yH (n.dY i ((n.x i).eG k (((n.x i).bF k).rd bf).2)):=by
 refine h.qg i hi rfl rfl (fun _=>⟨rfl,rfl⟩) rfl (fun j=>?_) ⟨fun j p hp=>?_,eB _,fun _=>eB _,rfl,fun j=>?_⟩ rfl
 ·rw[dQ];split;·rename_i e;rw[e.1];rfl
  ·rfl
 ·rw[dQ];split;·rename_i e;rw[e.1]at hp;exact Ww _ _ _ hp
  ·exact hp
 ·rw[dQ];split;·rename_i e;rw[e.1];rfl
  ·rfl
def Ah(w t:Nat)(n:Net):Prop:=∀i,i<2->(n.x i).gr.ahead=t/\∀k,k<8->((n.x i).bF k).gr.ahead=w
theorem Ah.set{w t:Nat}{n:Net}(h:Ah w t n)(i:Nat){M:av}(le:qh (n.x i) M):Ah w t (n.dY i M):=fun j a=>by
 by_cases e:j=i;·rw[e,dA];rw[e]at a;exact⟨le.ga.trans (h i a).1,fun k b=>(le.ia k).trans ((h i a).2 k b)⟩
 ·rw[dX _ _ _ _ e];exact h j a
def FlN(n:Net):Prop:=∀i,i<2->(n.x (1-i)).aM.fl<=(n.x i).next
theorem FlN.set{n:Net}(h:FlN n)(i:Nat)(hi:i<2){M:av}(c:(n.x i).next<=M.next)(a:M.aM.fl<=(n.x (1-i)).next):FlN (n.dY i M):=fun j b=>by
 rcases(show j=i\/j=1-i by omega)with rfl|rfl;·rw[dA,dX _ _ _ _ aj];exact rX (h j b) c
 ·rw[show 1-(1-i)=i by omega,dA,dX _ _ _ _ aj];exact a
theorem FlN.own{n:Net}(h:FlN n)(i:Nat)(hi:i<2):(n.x i).aM.fl<=(n.x (1-i)).next:=by have:=h (1-i) aj;rwa[show 1-(1-i)=i by omega]at this
theorem qj{a:av}:∀(fs:List Fr) (A:av),kZ A fs a 0->a.aM=A.aM
 |[],A,⟨e,_⟩=>by rw[e]
 |f::t,A,⟨M2,e2,r,h⟩=>by
  split at h
  ·rw[qj t M2 h];unfold av.iN at r;split at r
   ·split at r;·rw[r.1]
    ·exact FD r.1
   ·have b:M2=(A.take f).1:=congrArg Prod.fst r;rw[b];unfold av.take;rw[aU (by assumption)];repeat' split
    all_goals first|rfl|(unfold av.Tx;split<;>rfl)
  ·rename_i c;exact absurd h.2.symm c
theorem WB{bf:Nat}{s:NS}{n B:Nat}(h:s.fl<=B)(c:∀r∈s.rs,r.2<B)(f:n<B):(s.add bf n n).fl<=B:=by
 unfold NS.add Rg.add;simp only;split;·exact h
 ·split;·have a:=Rg.sZ s.rs (max n s.fl) n (B-1) aj (fun x d=>bV (c x d));have b:=Rg.XU s.rs (max n s.fl) n;have e:=a ((Rg.ins (max n s.fl) n s.rs).getD 0 (0,0)) (by rw[eT,j3 b];exact o8 _);simp only;omega
  ·exact h
def NL(w t:Nat)(n:Net):Prop:=yH n/\Ah w t n/\FlN n
theorem qck(bG w t:Nat):NL w t (Net.new bG w t):=by refine⟨Zr bG w t,fun i _=>⟨rfl,fun k a=>?_⟩,fun _ _=>eB _⟩;show((mK 8 (eH.new w)).getD k sK).gr.ahead=w;rw[eT,mI,bK a];rfl
theorem NL.sub{w t:Nat}{n n':Net}(h:NL w t n)(a:n'.x=n.x)(hb:∀y∈n'.dN,y∈n.dN):NL w t n':=⟨h.1.sub a hb,fun i hi=>by rw[a];exact h.2.1 i hi,fun i hi=>by rw[a];exact h.2.2 i hi⟩
theorem NL.yG{w t bG:Nat}{n:Net}(h:NL w t n)(hp:fH bG n)(i:Nat)(hi:i<2){M:av}{pk:List (Nat×List Fr)}(b:(n.x i).next+24<dK)(a:(n.x i).jS M pk):NL w t (n.yG i M pk):=by have p:=u_ (hp.loc i hi).q a;have o:=mG (hp.loc i hi) (hp.two i hi) (hp.jT i hi) (hp.bd i hi) b a;exact⟨h.1.yG hp i hi b a,h.2.1.set i p.le,h.2.2.set i hi (by rw[o.next];omega) (by rw[p.cm];exact h.2.2.own i hi)⟩
theorem NL.come{w t bG:Nat}{n:Net}(h:NL w t n)(hp:fH bG n)(i:Nat)(hi:i<2){M:av}{y:Nat×List Fr}(c:(i,y)∈n.dN)(b:∀i,i<2->(n.x i).next<=dK)(a:(n.x i).jc y.1 y.2 M 0):NL w t (n.dY i M):=by
 have d:=h.1 (1-i) aj;rw[show 1-(1-i)=i by omega]at d;have hb:=(hp.dN _ c).2;have le:=((h.1 i hi).aM d (hp.loc i hi) (hp.loc _ aj) (hp.two i hi) (hp.jT i hi) (hp.bd i hi) (hp.bd _ aj) (uy.2 c) hb.lt hb.fr ⟨b i hi,b _ aj⟩ a).2.2;obtain⟨_,_,_,nx,_⟩:=xV (hp.loc i hi) (hp.loc _ aj) (hp.two i hi) (hp.jT i hi) (hp.bd i hi) (hp.bd _ aj) y.1 y.2 hb.lt (b _ aj) hb.fr a;refine⟨h.1.come hp i hi c b a,h.2.1.set i le,h.2.2.set i hi (by rw[nx];exact eB _) ?_⟩;unfold av.jc at a;split at a;·rw[a.1];exact h.2.2.own i hi
 ·rw[qj _ _ a];exact WB (h.2.2.own i hi) (hp.jT i hi).aM hb.lt
theorem NL.qg{w t:Nat}{n:Net}(h:NL w t n)(i:Nat)(hi:i<2){M:av}(h1:yH (n.dY i M))(le:qh (n.x i) M)(en:M.next=(n.x i).next)(ec:M.aM=(n.x i).aM):NL w t (n.dY i M):=
 ⟨h1,h.2.1.set i le,h.2.2.set i hi (by rw[en];exact eB _) (by rw[ec];exact h.2.2.own i hi)⟩
theorem NL.iD{w t:Nat}{n:Net}(h:NL w t n)(i:Nat)(hi:i<2):NL w t (n.dY i (n.x i).iD):=
 h.qg i hi (h.1.iD i hi) ⟨fun _ _ h=>h,eB _,fun _=>eB _,rfl,fun _=>rfl⟩ rfl rfl
theorem NL.dD{w t:Nat}{n:Net}(h:NL w t n)(i:Nat)(hi:i<2)(k:Nat)(o:Ot)(b:o.cK=((n.x i).out k).cK)(c:o.aM=((n.x i).out k).aM)(a:o.aL=((n.x i).out k).aL):NL w t (n.dY i ((n.x i).dD k o)):=
 h.qg i hi (h.1.dD i hi k o b c a) (lF _ _ _ (by rw[a];exact eB _)) rfl rfl
theorem qcl(A:av)(k:Nat)(bf:Int):qh A (A.eG k ((A.bF k).rd bf).2):=by
 refine⟨fun j p hp=>?_,eB _,fun _=>eB _,rfl,fun j=>?_⟩
 ·rw[dQ];split;·rename_i e;rw[e.1]at hp;exact Ww _ _ _ hp
  ·exact hp
 ·rw[dQ];split;·rename_i e;rw[e.1];rfl
  ·rfl
theorem NL.aR{w t:Nat}{n:Net}(h:NL w t n)(i:Nat)(hi:i<2)(k:Nat)(bf:Int):NL w t (n.dY i ((n.x i).eG k (((n.x i).bF k).rd bf).2)):=
 h.qg i hi (h.1.aR i hi k bf) (qcl _ _ _) rfl rfl
end Go.Proofs.YtphbledmopchnaaGreatDoor.Sd
namespace Go.Proofs.YtphbledmopchnaaGreatDoor.Sd
open Go.RowKit Go.Lib Mm Tryz
section
theorem nR.lH{oZ:Own}{w w':World}{a:Ad}{n:Net}(h:nR (loc oZ w.heap.size) w a n w'):nR oZ w a n w':=by obtain⟨o,vb,h1,b⟩:=h;exact⟨o,vb,h1,b.lH⟩
theorem fu.loc{oZ:Own}{w:World}{a:Ad}{n:Net}{vb:Value}{E:Nat->Nat->bO}(h:fu oZ w a n vb E):fu (Sd.loc oZ w.heap.size) w a n vb E:=
 h.kp (T:=[]) ⟨rfl,rfl,rfl,eB _,fun _ _ _=>rfl,fun b hb=>jv oZ _ b hb⟩ aP
structure nN (fJ:Own) (w0:World) (a:Ad) (L:List (Nat×TypeId×bO)) (n:Net) (w:World):Prop where
 ex:∃o vb,fu o w a n vb (ends n)/\Kp TN fJ o w0 w/\(∀x∈L,aS w x.1 x.2.1 x.2.2/\o x.1=0)/\(∀b,w.heap.size<=b->o b=0)
section
variable {fJ:Own} {w0 w w':World} {a:Ad} {L:List (Nat×TypeId×bO)} {n:Net}
theorem nN.ntf(h:nN fJ w0 a L n w):nR fJ w0 a n w:=by obtain⟨o,vb,h1,b,_⟩:=h.ex;exact⟨o,vb,h1,b⟩
theorem qab:0∉TN:=fun e=>bV (lC.1 e)
theorem nN.go{n':Net}{o o':Own}{d:Value}(g:Kp TN fJ o w0 w)(h:∀x∈L,aS w x.1 x.2.1 x.2.2/\o x.1=0)(f:fu o' w' a n' d (ends n'))(c:Kp TN o o' w w'):nN fJ w0 a L n' w':=by have K:Kp [] o' (Sd.loc o' w'.heap.size) w' w':=⟨rfl,rfl,rfl,eB _,fun _ _ _=>rfl,fun b hb=>jv o' _ b hb⟩;refine⟨_,d,f.loc,g.trans (c.trans (K.mono aP)),fun x i=>?_,fun b hb=>iX _ _ _ hb⟩;obtain⟨p,q⟩:=h x i;have e:=cO p c (by rw[q];exact qab);exact⟨e,by rw[jv _ _ _ e.lt,c.ext _ p.lt];exact q⟩
theorem nN.below(h:nN fJ w0 a L n w)(hb:bJ w w'):nN fJ w0 a L n w':=by obtain⟨o,vb,h1,b,c,_⟩:=h.ex;exact nN.go b c (h1.below hb) (Kp.below hb)
theorem nN.alloc(h:nN fJ w0 a L n w)(t:TypeId)(l:bO):nN fJ w0 a ((w.heap.size,t,l)::L) n (w.alloc (.cells l.toArray t)):=by
 obtain⟨o,vb,h1,g,e,f⟩:=h.ex;have hb:bJ w (w.alloc (.cells l.toArray t)):=(Below.refl _ w).alloc (eB _) _;have K:Kp [] o o w (w.alloc (.cells l.toArray t)):=Kp.below hb;refine⟨o,vb,h1.below hb,g.trans (Kp.below hb),fun x c=>?_,fun b d=>f b (rX hb.size d)⟩;rcases List.mem_cons.1 c with rfl|c;·exact⟨aS.new w t l,f _ (eB _)⟩
 ·exact⟨cO (e x c).1 K aP,(e x c).2⟩
theorem zF{oZ:Own}{vb:Value}(h:fu oZ w a n vb (ends n)):nN (Sd.loc oZ w.heap.size) w a [] n w:=
 ⟨_,vb,h.loc,Kp.refl _ _ _,fun x c=>(by cases c),fun b hb=>iX _ _ _ hb⟩
theorem nN.cell(h:nN fJ w0 a L n w){b:Nat}{t:TypeId}{l:bO}(d:(b,t,l)∈L)(j:Nat):w.cell? (aB b j)=l[j]?:=by obtain⟨o,vb,h1,e,c,f⟩:=h.ex;exact(c _ d).1.cell j
theorem nN.xc(h:nN fJ w0 a L n w)(i:Nat)(hi:i<2):w.cell? (aB a.N 0)=some (dP a.xb 2 a.xc)/\w.cell? (aB a.xb i)=some (aI (a.C i) 0):=by obtain⟨o,vb,h1,b,c,d⟩:=h.ex;exact⟨h1.cells.1,(h1.xs i hi).1⟩
theorem nN.qgy(h:nN fJ w0 a L n w):∃d c0,w.cell? (aB a.N 8)=some (.slice d n.dN.length c0)/\∀k,k<n.dN.length->∃g,d=some (aB g 0)/\w.cell? (aB g (k*2))=some (iZ ((n.dN.getD k (0,0,[])).1:Int))/\w.cell? (aB g (k*2+1))=some (sV (bT (n.dN.getD k (0,0,[])).2.1 (n.dN.getD k (0,0,[])).2.2)):=by
 obtain⟨o,vb,h1,m,p,q⟩:=h.ex;obtain⟨_,_,_,_,_,c8,_⟩:=h1.cells;obtain⟨d,c0,rfl⟩:=jk h1.bg;refine⟨d,c0,c8,fun k f=>?_⟩;rcases h1.bg with⟨_,e,_⟩|⟨g,cap,cs,ev,ho,hB,hc1,hc2,hc3,hc4,JY,_⟩;·omega
 simp only[Value.slice.injEq]at ev;have hd:(jy n.dN).drop (k*2)=jy (n.dN.drop k):=(uV n.dN k).symm;have c:n.dN.drop k=n.dN.getD k (0,0,[])::n.dN.drop (k+1):=by rw[List.drop_eq_getElem_cons f,eT,j3 f];rfl
 have b:∀j v,j<n.dN.length*2->(jy n.dN)[j]?=some v->w.cell? (aB g j)=some v:=fun j v l i=>by rw[hB.cell];rw[<-JY,List.getElem?_take,bK l]at i;exact i
 refine⟨g,ev.1,b _ _ aj ?_,b _ _ aj ?_⟩
 ·have:((jy n.dN).drop (k*2))[0]?=(jy n.dN)[k*2]?:=by rw[og];rfl
  rw[<-this,hd,c];rfl
 ·have:((jy n.dN).drop (k*2))[1]?=(jy n.dN)[k*2+1]?:=by rw[og]
  rw[<-this,hd,c];rfl
theorem vN(i:Nat)(hi:i<2):∀x∈T0 (60*(i+1)),x∈TN:=fun x b=>lC.2 (bV (fG.1 b))
theorem OW(h:nN fJ w0 a L n w)(k:Nat)(g:k<n.dN.length)(hl:n.dN.length<=1000000000):Calls prog 67 #[aI a.N 0,iZ k] w fun e w'=>e=.returned (.tuple #[])/\nN fJ w0 a L {n with dN:=n.dN.eraseIdx k} w':=by obtain⟨o,vb,h1,d,f,_⟩:=h.ex;refine bN (Zl h1 k g hl) ?_;rintro w' ⟨j,o',b,c⟩;exact⟨rfl,nN.go d f (n':={n with dN:=n.dN.eraseIdx k}) b (c.mono fun x i=>lC.2 (by simp at i;omega))⟩
theorem Zu(h:nN fJ w0 a L n w)(hp:fH a.bG n)(hb:qo n 0)(b:a.bG<=400)(i:Nat)(hi:i<2)(y:Nat×List Fr)(d:Hw a.bG (n.x (1-i)) (n.x i) y):Calls prog 29 #[(aI (a.C i) 0),sV (bT y.1 y.2)] w fun e w'=>e=.returned (.tuple #[iZ 0,(iZ (-1))])/\∃M1,(n.x i).jc y.1 y.2 M1 0/\nN fJ w0 a L (n.dY i M1) w':=by obtain⟨o,vb,h1,m,p,_⟩:=h.ex;refine bN (OP h1 hp hb i hi y d b) ?_;rintro w' ⟨M1,c,o',g,l⟩;have s:=yw (fun f q=>by rcases(d.fr f q).kd with e|e|e|e<;>omega) c;exact⟨rfl,M1,c,nN.go m p (g.H_ fun j k _ _=>uW s j k) (l.mono (vN i hi))⟩
theorem qcm(h:nN fJ w0 a L n w)(hp:fH a.bG n)(i:Nat)(hi:i<2)(l:List UInt8)(hl:l.length<=1000000)(g:oV false 0 [] l):Calls prog 29 #[(aI (a.C i) 0),sV l] w fun e w'=>e=.returned (.tuple #[iZ 7,(iZ (-1))])/\nN fJ w0 a L n w':=by obtain⟨o,vb,h1,d,f,_⟩:=h.ex;refine bN (J7 h1 hp i hi l hl g) ?_;rintro w' ⟨o',b,c⟩;exact⟨rfl,nN.go d f b (c.mono (vN i hi))⟩
theorem OX(h:nN fJ w0 a L n w)(i:Nat)(hi:i<2):Calls prog 30 #[aI a.N 0,iZ i] w fun e w'=>e=.returned (.bool true)/\nN fJ w0 a L n w':=by obtain⟨o,vb,h1,d,f,_⟩:=h.ex;refine bN (OQ h1 i hi) ?_;rintro w' ⟨o',b,c⟩;exact⟨rfl,nN.go d f b (c.mono (vN i hi))⟩
structure Lg (bG:Nat) (n n':Net):Prop where
 p:fH bG n'
 nx:∀i,i<2->(n'.x i).next=(n.x i).next/\(n'.x i).bE=(n.x i).bE
 now:n'.now=n.now
 bl:n'.dN.length<=n.dN.length
 li:∀w t,NL w t n->NL w t n'
theorem yC{bG:Nat}(h:fH bG n):Lg bG n n:=⟨h,fun _ _=>⟨rfl,rfl⟩,rfl,eB _,fun _ _ h=>h⟩
theorem Km{bG:Nat}(h:fH bG n)(k:Nat):Lg bG n {n with dN:=n.dN.eraseIdx k}:=
 ⟨h.sub (n.dN.eraseIdx k) (fun _ b=>mR b) n.now,fun _ _=>⟨rfl,rfl⟩,rfl,(by show(n.dN.eraseIdx k).length<=_;rw[List.length_eraseIdx];split<;>omega),fun _ _ h=>h.sub rfl fun _ b=>mR b⟩
def Cr1(bG:Nat)(n n1:Net):Prop:=Lg bG n n1/\n1.x=n.x/\∀z∈n1.dN,z∈n.dN
theorem WC{bG:Nat}{n1:Net}(c:Cr1 bG n n1)(l:fH bG n)(hb:qo n1 0)(i:Nat)(hi:i<2)(y:Nat×List Fr)(o:(i,y)∈n.dN)(g:Hw bG (n1.x (1-i)) (n1.x i) y){M1:av}{e:Nat}(f:(n1.x i).jc y.1 y.2 M1 e):Lg bG n (n1.dY i M1):=by
 have h:=c.1;have m:=(hb.1 (1-i) aj).1;obtain⟨k,s,b,nx,mt⟩:=xV (h.p.loc i hi) (h.p.loc (1-i) aj) (h.p.two i hi) (h.p.jT i hi) (h.p.bd i hi) (h.p.bd (1-i) aj) y.1 y.2 g.lt aj g.fr f;refine⟨jF h.p i hi M1 s b mt nx,fun j d=>?_,h.now,h.bl,fun w t p=>?_⟩
 ·by_cases e:j=i;·rw[e,dA,nx,Ki f];rw[e]at d;exact h.nx i d
  ·rw[dX _ _ _ _ e];exact h.nx j d
 ·rw[k,c.2.1]at f;refine(p.come l i hi o (fun j d=>?_) f).sub ?_ c.2.2;·have:=(hb.1 j d).1;rw[c.2.1]at this;omega
  ·show(fun j=>if j=i then M1 else n1.x j)=fun j=>if j=i then M1 else n.x j;rw[c.2.1]
theorem Lg.nb{bG B:Nat}{n':Net}(h:Lg bG n n')(hb:qo n B):qo n' B:=
 ⟨fun i hi=>by rw[(h.nx i hi).1,(h.nx i hi).2];exact hb.1 i hi,by rw[h.now];exact hb.2⟩
end
theorem Zv(x b:UInt8)(hb:b≠0):x≠x ^^^ b:=fun h=>by have c:=congrArg UInt8.toNat h;rw[UInt8.toNat_xor]at c;have d:=Crc.Bo (show x.toNat ^^^ 0=x.toNat ^^^ b.toNat by rw[Nat.xor_zero];exact c);exact hb (UInt8.toNat_inj.1 d.symm)
def spD(D:ByteArray)(q:Nat)(x:UInt8):ByteArray:=D.extract 0 q++⟨#[x]⟩++D.extract (q+1) D.size
theorem WE(l:List UInt8)(q:Nat)(hq:q<l.length)(x:UInt8):spD ⟨l.toArray⟩ q x=⟨(l.set q x).toArray⟩:=by
 unfold spD;ext1
 rw[nP,nP,nI,nI];apply Array.toList_inj.1;have hs:(⟨l.toArray⟩:ByteArray).size=l.length:=(jU l).2;rw[hs,List.set_eq_take_append_cons_drop,bK hq];simp;exact List.take_of_length_le (by rw[List.length_drop];omega)
theorem R9(n:Nat)(fs:List Fr)(D:ByteArray)(d:D=⟨(bT n fs).toArray⟩)(q:Nat)(hq:q<D.size)(b:UInt8)(hb:b≠0):∃l,.string (spD D q (D[q] ^^^ b))=sV l/\l.length=D.size/\oV false 0 [] l:=by
 subst d;have hs:(⟨(bT n fs).toArray⟩:ByteArray).size=(bT n fs).length:=(jU _).2;have c:q<(bT n fs).length:=by rw[<-hs];exact hq
 refine⟨(bT n fs).set q ((bT n fs)[q] ^^^ b),?_,by rw[List.length_set,hs],Nb n fs q _ c (Zv _ _ hb)⟩;have e:(⟨(bT n fs).toArray⟩:ByteArray)[q]=(bT n fs)[q]:=rfl;rw[e,WE _ q c];rfl
theorem Ny(w:World)(x b:UInt8)(X:Int)(c:X=(b.toNat:Int)):(convert 60 9 (dP w.heap.size 1 1)).run prog ((w.alloc (.cells #[.int .u8 (bits .xor .u8 (x.toNat:Int) X)] 5)).drew)=.ok (.string ⟨#[x ^^^ b]⟩) ((w.alloc (.cells #[.int .u8 (bits .xor .u8 (x.toNat:Int) X)] 5)).drew):=by
 have e:bits .xor .u8 (x.toNat:Int) X=((x ^^^ b).toNat:Int):=by rw[c,u8_xor_nat _ _ x.toNat_lt b.toNat_lt,UInt8.toNat_xor]
 rw[e];have:=run_convert_bytes_back (P:=prog) ((w.alloc (.cells #[.int .u8 ((x ^^^ b).toNat:Int)] 5)).drew) 60 9 5 (aB w.heap.size 0) 1 [x ^^^ b] u29 bH u9 (fun j d=>by
  obtain rfl:j=0:=by simpa using d
  have:=(aS.new w 5 [.int .u8 ((x ^^^ b).toNat:Int)]).cell 0;exact this)
 exact this
end
section
section
variable {oZ:Own} {w:World} {a:Ad} {n:Net} {vb:Value}
def sN(K Sd A B:Int)(S:ByteArray):bO:=[iZ K,iZ Sd,iZ A,iZ B,.string S]
def nO(x:Int):Prop:= -9223372036854775808<=x/\x<=9223372036854775807
theorem WG(h:fu oZ w a n vb (ends n))(hp:fH a.bG n)(hb:qo n 0)(x8:a.bG<=400)(hl:n.dN.length<=1000000000)(K Sd A B:Int)(S:ByteArray)(hA:nO A)(hB:nO B):Calls prog 39 #[aI a.N 0,.agg #[iZ K,iZ Sd,iZ A,iZ B,.string S]] w fun e w'=>e=.returned (.bool true)/\∃n',Lg a.bG n n'/\(n.dN=[]->n'=n)/\nR oZ w a n' w':=by
 have H0:=zF h;have E:=H0.alloc 37 (sN K Sd A B S);obtain⟨a0,c0,p8,Dy⟩:=E.qgy;have z:=aG hp;have HB:=aG hb;have HA:=aG hA;have AR:=aG hB;have hw:=aG Dy;obtain⟨m,hm⟩:=bZ n.dN.length;rw[<-hm]at p8 hl;have W:=aG hm;obtain⟨w1,P⟩:=bZ (w.alloc (.cells (sN K Sd A B S).toArray 37));rw[<-P]at p8 E;have b0:=E.cell (.head _) 0;have b2:=E.cell (.head _) 2;have b3:=E.cell (.head _) 3;have b4:=E.cell (.head _) 4;simp only[sN,mE,lg]at b0 b2 b3 b4;have I:=aG E;clear H0 E h hp hb hA hB Dy hm;go_enter func39,ntmps39;have Kn:w.alloc (.cells #[iZ K,iZ Sd,iZ A,iZ B,.string S] 37)=w1:=P.symm;clear P;by_cases h0:m=0;·subst h0;go_wp2;go_ret;exact⟨rfl,n,yC z.out,fun _=>rfl,I.out.ntf.lH⟩
 have xd:¬((m:Int)=0):=aj;obtain⟨k,hk⟩:=bZ (dL A m);have xf:k<m:=by rw[hk];exact fC A m aj
 have x3:Hid (∀w,Calls prog 32 #[iZ A,iZ m] w fun e w'=>e=.returned (iZ k)/\w'=w):=fun w=>by rw[hk];exact Bh A m HA.out.1 HA.out.2 aj aj w
 obtain⟨g,rfl,d0,X⟩:=hw.out k (bV W.out);obtain⟨y,hy⟩:=bZ (n.dN.getD k (0,0,[]));rw[<-hy]at d0 X;have j:y∈n.dN:=by have:k<n.dN.length:=bV W.out;rw[hy,eT,j3 this];exact o8 _
 obtain⟨d,hv⟩:=z.out.dN y j;have M:=aG hv;have J:Hid (n.dN≠[]):=fun e=>by rw[e]at j;cases j
 have xa:=aG j;obtain⟨i,hi⟩:=bZ y.1;obtain⟨D,hD⟩:=bZ (⟨(bT y.2.1 y.2.2).toArray⟩:ByteArray);unfold sV at X;rw[<-hi]at d0 d;rw[<-hD]at X;have HI:=aG hi;have HD:=aG hD;rw[show w.alloc (.cells (sN K Sd A B S).toArray 37)=w1 from Kn]at d0 X;clear hi hD hy hv j hk hw;go_wp2;clear Kn;go_quiet ((go_at_call 32;exact Calls.quiet_of_same (x3.out _)));obtain⟨U,u⟩:=bZ (w1.drewN nq);have e8:U.cell? (aB a.N 8)=some (dP g m c0):=by rw[u];exact p8
 have c0:U.cell? (aB g (k*2))=some (iZ i):=by rw[u];exact d0
 have c1:U.cell? (aB g (k*2+1))=some (.string D):=by rw[u];exact X
 have x:=(I.out.below (f_ w1 nq)).alloc 62 [iZ i,.string D];rw[<-u]at x ⊢;obtain⟨w3,Q⟩:=bZ (U.alloc (.cells [iZ i,.string D].toArray 62));obtain⟨fb,GY⟩:=bZ U.heap.size;rw[<-Q,<-GY]at x;have f0:=x.cell (.head _) 0;have f1:=x.cell (.head _) 1;have e0:=x.cell (.tail _ (.head _)) 0;have e3:=x.cell (.tail _ (.head _)) 3;have e4:=x.cell (.tail _ (.head _)) 4;obtain⟨Z,x1⟩:=x.xc i d;simp only[sN,mE,lg]at f0 f1 e0 e3 e4;have UJ:U.alloc (.cells #[iZ i,.string D] 62)=w3:=Q.symm;have xj:U.heap.size=fb:=GY.symm;have p:=aG x;clear u b0 b2 b3 b4 p8 d0 X I Q GY x;by_cases k8:K=8;·subst k8;have H:=aG (OW p.out k (bV W.out) (bV W.out));go_wp2_with (go_at_call 67;refine bN H.out ?_;rintro f Y);go_ret;exact⟨rfl,_,Km z.out k,fun e=>absurd e J.out,Y.ntf.lH⟩
 by_cases k7:K=7
 ·subst k7;obtain⟨q,hq⟩:=bZ (dL B 2);have T:Hid (∀w,Calls prog 32 #[iZ B,iZ 2] w fun e w'=>e=.returned (iZ q)/\w'=w):=fun w=>by rw[hq];exact Bh B 2 AR.out.1 AR.out.2 aj aj w
  clear hq;have HY:Hid (∀n1 f,nN (loc oZ w.heap.size) w a [(fb,62,[iZ i,.string D]),(w.heap.size,37,sN 7 Sd A B S)] n1 f->Cr1 a.bG n n1->Hw a.bG (n1.x (1-i)) (n1.x i) y.2->Calls prog 29 #[(aI (a.C i) 0),.string D] f fun e s=>e=.returned (.tuple #[iZ 0,(iZ (-1))])/\∃n2,Lg a.bG n n2/\nN (loc oZ w.heap.size) w a [(fb,62,[iZ i,.string D]),(w.heap.size,37,sN 7 Sd A B S)] n2 s):=fun n1 f h1 C h3=>by have:=Zu h1 C.1.p (C.1.nb HB.out) x8 i d y.2 h3;unfold sV at this;rw[<-HD.out]at this;refine bN this ?_;rintro s ⟨M1,r,N⟩;exact⟨rfl,_,WC C z.out (C.1.nb HB.out) i d y.2 (by rw[HI.out];exact xa.out) h3 r,N⟩
  have h8:Hid (Hw a.bG (n.x (1-i)) (n.x i) y.2):=by rw[HI.out];exact M.out
  have H:=aG (OW p.out k (bV W.out) (bV W.out));have hn:q=0\/¬((q:Int)=0):=aj;rcases hn with rfl|hn;all_goals go_wp2_with (first|(go_at_call 32;refine bN (T.out _) ?_;rintro f R;subst R)|(go_at_call 67;refine bN H.out ?_;rintro f Y))
  all_goals(
   obtain⟨n1,H4,HO,hx⟩:∃n1,Hid (nN (loc oZ w.heap.size) w a [(fb,62,[iZ i,.string D]),(w.heap.size,37,sN 7 Sd A B S)] n1 f)/\Hid (Cr1 a.bG n n1)/\Hid (Hw a.bG (n1.x (1-i)) (n1.x i) y.2):=(by first|exact⟨_,Y,⟨Km z.out k,rfl,fun _ hy=>mR hy⟩,h8.out⟩|exact⟨n,p.out,⟨yC z.out,rfl,fun _ h=>h⟩,h8.out⟩);clear f0 f1 e0 e3 e4 Z x1 p UJ
   (try clear Y))
  all_goals(
   have f0:=H4.out.cell (.head _) 0;have f1:=H4.out.cell (.head _) 1;obtain⟨Z,x1⟩:=H4.out.xc i d;simp only[mE,lg]at f0 f1;have L:Hid (Calls prog 29 #[(aI (a.C i) 0),.string D] f.drew fun e s=>e=.returned (.tuple #[iZ 0,(iZ (-1))])/\(s.cell? (aB a.N 0)=some (dP a.xb 2 a.xc)/\s.cell? (aB a.xb i)=some (aI (a.C i) 0)/\s.cell? (aB fb 0)=some (iZ i)/\s.cell? (aB fb 1)=some (.string D))/\Hid (∃n2,Lg a.bG n n2/\nN (loc oZ w.heap.size) w a [(fb,62,[iZ i,.string D]),(w.heap.size,37,sN 7 Sd A B S)] n2 s)):=by refine bN (HY.out n1 f.drew (H4.out.below ⟨rfl,rfl,rfl,eB _,fun _ _=>rfl⟩) HO.out hx.out) ?_;rintro s ⟨n2,h6,F⟩;exact⟨rfl,⟨(F.xc i d).1,(F.xc i d).2,F.cell (.head _) 0,F.cell (.head _) 1⟩,n2,h6,F⟩
   have x6:(0:Int)<=(i:Int):=aj;have x7:(i:Int)<2:=aj;go_region_held3 (fun y=>y.cell? (aB a.N 0)=some (dP a.xb 2 a.xc)/\y.cell? (aB a.xb i)=some (aI (a.C i) 0)/\y.cell? (aB fb 0)=some (iZ i)/\y.cell? (aB fb 1)=some (.string D)) (first|assumption|go_keep) ((first|(go_at_call 29;refine bN L.out ?_;rintro s ⟨x4,ho⟩)))
   obtain⟨_,_,s0,_⟩:=x4;obtain⟨n2,hf,ha⟩:=ho.out;have x2:=aG hf;have G:=aG (OX ha i d);clear hf ha ho f0 f1 Z x1;go_wp2_with (go_at_call 30;refine bN G.out ?_;rintro w6 h6;have H6:=aG h6;clear h6);go_ret;exact⟨rfl,n2,x2.out,fun e=>absurd e J.out,H6.out.ntf.lH⟩)
 by_cases k9:K=9
 ·subst k9;have he:D.size=(bT y.2.1 y.2.2).length:=by rw[HD.out];exact(jU _).2
  have hc:0<D.size:=by rw[he];exact M.out.ps
  have xe:D.size<=400:=bV M.out.sz;obtain⟨q,hq⟩:=bZ (dL B D.size);have x9:q<D.size:=by rw[hq];exact fC B D.size hc
  have T:Hid (∀w,Calls prog 32 #[iZ B,iZ D.size] w fun e w'=>e=.returned (iZ q)/\w'=w):=fun w=>by rw[hq];exact Bh B D.size AR.out.1 AR.out.2 hc aj w
  clear hq he;have h9:Hid (∀(b:UInt8) f,b≠0->nN (loc oZ w.heap.size) w a [(fb,62,[iZ i,.string D]),(w.heap.size,37,sN 9 Sd A B S)] n f->Calls prog 29 #[(aI (a.C i) 0),.string (D.extract 0 q++⟨#[D[q] ^^^ b]⟩++D.extract (q+1) D.size)] f fun e y=>e=.returned (.tuple #[iZ 7,(iZ (-1))])/\(y.cell? (aB a.N 0)=some (dP a.xb 2 a.xc)/\y.cell? (aB a.xb i)=some (aI (a.C i) 0)/\y.cell? (aB fb 0)=some (iZ i)/\y.cell? (aB fb 1)=some (.string D))/\Hid (nN (loc oZ w.heap.size) w a [(fb,62,[iZ i,.string D]),(w.heap.size,37,sN 9 Sd A B S)] n y)):=fun b f hb Y=>by obtain⟨l,h1,C,h3⟩:=R9 _ _ D HD.out q x9 b hb;unfold spD at h1;rw[h1];refine bN (qcm Y z.out i d l aj h3) ?_;rintro s N;exact⟨rfl,⟨(N.xc i d).1,(N.xc i d).2,N.cell (.head _) 0,N.cell (.head _) 1⟩,N⟩
  have g4:(q:Int)+1<=(D.size:Int):=aj;have g1:(0:Int)<=(q:Int):=aj;have g2:(q:Int)<=(D.size:Int):=aj;have g3:(q:Int)<(D.size:Int):=aj;have g7:(0:Int)<=(q:Int)+1:=aj;have xi:IntKind.i64.wrap ((q:Int)+1)=(q:Int)+1:=by rw[IntKind.wrap_i64];omega
  have x6:(0:Int)<=(i:Int):=aj;have x7:(i:Int)<2:=aj;go_wp2_with (go_at_call 32;refine bN (T.out _) ?_;rintro f R;subst R);all_goals(first|(rw[show Value.int .u8 1=Value.int .u8 (((1:UInt8).toNat:Nat):Int)from rfl];have O:(1:UInt8)≠0:=iO;generalize (1:UInt8)=b at O ⊢)|(have C:((S[0].toNat:Int) != 0)=true:=(by assumption);have O:S[0]≠0:=(fun e=>by rw[e]at C;exact absurd C iO);clear C;generalize S[0]=b at *))
  all_goals(
   refine wp_region_noPanic ?_;refine wp_region_held_drew (S:=fun y=>y.cell? (aB fb 1)=some (.string D)) bH (by simpa using f1) (fun t=>?_);refine wpAnyH_take (i:=0) (oi:=_) (v:=?_) rfl bH bH bH (fun _ _ _ h=>h) (Or.inl ⟨by rfl,?_⟩) (by assumption) ?_;rotate_left;·(intro w c;(try dsimp only at c);go_simp;try with_reducible rfl)
   refine wpAnyH_take (i:=1) (oi:=_) (v:=?_) rfl bH bH bH (fun _ _ _ h=>h) (Or.inl ⟨by rfl,?_⟩) (by assumption) ?_;rotate_left;·(intro w c;(try dsimp only at c);go_simp;try with_reducible rfl)
   refine wpAnyH_take (i:=2) (oi:=_) (v:=?_) rfl bH bH bH (fun _ _ _ h=>h) (Or.inl ⟨by rfl,?_⟩) (by assumption) ?_;rotate_left;·(intro w c;(try dsimp only at c);go_simp;try with_reducible rfl)
   refine wpAnyH_take (i:=3) (oi:=_) (v:=?_) rfl bH bH bH (fun _ _ _ h=>h) (Or.inl ⟨by rfl,?_⟩) (by assumption) ?_;rotate_left;·(intro w c;(try dsimp only at c);go_simp;try with_reducible rfl)
   refine wpAnyH_take (i:=4) (oi:=_) (v:=?_) rfl bH bH bH (fun _ _ _ h=>h) (Or.inl ⟨by rfl,?_⟩) (by assumption) ?_;rotate_left;·(intro w c;(try dsimp only at c);go_simp;try with_reducible rfl)
   refine wpAnyH_take (i:=5) (oi:=_) (v:=?_) rfl bH bH bH (fun _ _ _ h=>h) (Or.inl ⟨by rfl,?_⟩) (by assumption) ?_;rotate_left;·(intro w c;(try dsimp only at c);go_simp;try with_reducible rfl)
   refine wpAnyH_take (i:=6) (oi:=_) (v:=?_) rfl bH bH bH (fun _ _ _ h=>h) (Or.inl ⟨by rfl,?_⟩) (by assumption) ?_;rotate_left;·(intro w c;(try dsimp only at c);go_simp;try with_reducible rfl)
   refine wpAnyH_take (i:=7) (oi:=_) (v:=?_) rfl bH bH bH (fun _ _ _ h=>h) (Or.inl ⟨by rfl,?_⟩) (by assumption) ?_;rotate_left;·(intro w c;(try dsimp only at c);go_simp;try with_reducible rfl)
   refine wpAnyH_take (i:=8) (oi:=_) (v:=?_) rfl bH bH bH (fun _ _ _ h=>h) (Or.inl ⟨by rfl,?_⟩) (by assumption) ?_;rotate_left;·(intro w c;(try dsimp only at c);go_simp;try with_reducible rfl)
   refine wpAnyH_take (i:=9) (oi:=_) (v:=?_) rfl bH bH bH (fun _ _ _ h=>h) (Or.inl ⟨by rfl,?_⟩) (by assumption) ?_;rotate_left;·(intro w c;(try dsimp only at c);go_simp;try with_reducible rfl)
   refine wpAnyH_take (i:=13) (oi:=_) (v:=?_) rfl bH bH bH (fun _ _ _ h=>h) (Or.inl ⟨by rfl,?_⟩) (by assumption) ?_;rotate_left;·(intro w c;(try dsimp only at c);go_simp;try with_reducible rfl)
   refine wpAnyH_take (i:=14) (oi:=_) (v:=?_) rfl bH bH bH (fun _ _ _ h=>h) (Or.inl ⟨by rfl,?_⟩) (by assumption) ?_;rotate_left;·(intro w c;(try dsimp only at c);go_simp;try with_reducible rfl)
   refine wpAnyH_take (i:=15) (oi:=_) (v:=?_) rfl bH bH bH (fun _ _ _ h=>h) (Or.inl ⟨by rfl,?_⟩) (by assumption) ?_;rotate_left;·(intro w c;(try dsimp only at c);go_simp;try with_reducible rfl)
   refine wpAnyH_take (i:=16) (oi:=_) (v:=?_) rfl bH bH bH (fun _ _ _ h=>h) (Or.inl ⟨by rfl,?_⟩) (by assumption) ?_;rotate_left;·(intro w c;(try dsimp only at c);go_simp;try with_reducible rfl)
   refine wpAnyH_take (i:=17) (oi:=_) (v:=?_) rfl bH bH bH (fun _ _ _ h=>h) (Or.inl ⟨by rfl,?_⟩) (by assumption) ?_;rotate_left;·(intro w c;(try dsimp only at c);go_simp;try with_reducible rfl)
   simp only[Act.put,List.setIfInBounds_toArray];refine wpAnyH_ready (rs:=[10]) bH aP ?_;refine AllReadyH.cons (o:=_) rfl (fun K hK=>?_) AllReadyH.nil;go_simp;have hj:=Ny f D[q] b _ rfl;have hg:bJ f ((f.alloc (.cells #[.int .u8 (bits .xor .u8 (D[q].toNat:Int) (b.toNat:Int))] 5)).drew):=((Below.refl _ f).alloc (eB _) _).drew;have V:=aG (p.out.below hg);have f5:=V.out.cell (.head _) 1;simp only[mE,lg]at f5;obtain⟨s,hu⟩:=bZ ((f.alloc (.cells #[.int .u8 (bits .xor .u8 (D[q].toNat:Int) (b.toNat:Int))] 5)).drew);rw[<-hu]at hj f5 V ⊢;refine hK.out _ _ f5 (fun t=>?_);clear hK K hg hu;refine wpAnyH_ready (rs:=[11]) bH aP ?_;refine AllReadyH.cons (o:=_) rfl (fun K hK=>?_) AllReadyH.nil;go_simp;refine hK.out _ _ f5 (fun t=>?_);clear hK K hj;refine wpAnyH_take (i:=12) (oi:=_) (v:=?_) rfl bH bH bH (fun _ _ _ h=>h) (Or.inl ⟨by rfl,?_⟩) (by assumption) ?_;rotate_left;·(intro w c;(try dsimp only at c);go_simp;rw[aU aj])
   refine wpAnyH_take (i:=18) (oi:=_) (v:=?_) rfl bH bH bH (fun _ _ _ h=>h) (Or.inl ⟨by rfl,?_⟩) (by assumption) ?_;rotate_left;·(intro w c;(try dsimp only at c);go_simp;rw[aU aj])
   refine wpAnyH_take (i:=19) (oi:=_) (v:=?_) rfl bH bH bH (fun _ _ _ h=>h) (Or.inl ⟨by rfl,?_⟩) (by assumption) ?_;rotate_left;·(intro w c;(try dsimp only at c);go_simp;try with_reducible rfl)
   refine wpAnyH_done bH ?_ _;refine NoPanic.normal ?_;clear f0 f1 e0 e3 e4 Z x1 p;have f0:=V.out.cell (.head _) 0;have f1:=V.out.cell (.head _) 1;obtain⟨Z,x1⟩:=V.out.xc i d;simp only[mE,lg]at f0 f1;have L:=aG (h9.out b s.drew O (V.out.below ⟨rfl,rfl,rfl,eB _,fun _ _=>rfl⟩));clear f5 h9;go_wp2;generalize D.extract 0 q++⟨#[D[q] ^^^ b]⟩++D.extract (q+1) D.size=D2 at *
   go_region_held3 (fun y=>y.cell? (aB a.N 0)=some (dP a.xb 2 a.xc)/\y.cell? (aB a.xb i)=some (aI (a.C i) 0)/\y.cell? (aB fb 0)=some (iZ i)/\y.cell? (aB fb 1)=some (.string D)) (first|assumption|go_keep) ((first|(go_at_call 29;refine bN L.out ?_;rintro w6 ⟨x5,hr⟩)))
   obtain⟨_,_,s0,_⟩:=x5;have G:=aG (OX hr.out i d);clear hr f0 f1 Z x1;go_wp2_with (go_at_call 30;refine bN G.out ?_;rintro w7 F;have H7:=aG F;clear F);go_ret;exact⟨rfl,n,yC z.out,fun e=>absurd e J.out,H7.out.ntf.lH⟩)
 go_wp2;go_ret;exact⟨rfl,n,yC z.out,fun _=>rfl,p.out.ntf.lH⟩
end

