import Derived.Test.YtphbledmopchnaaGreatDoorLfe
open Go.RowKit.Below renaming refl->mI,heap_setCell->nP
open Bool renaming and_eq_true->eT
open List renaming getD_eq_getElem?_getD->eB,length_take->j3,mem_append->mK,length_append->mR,mem_singleton->mY,getElem?_take_of_lt->nA,length_drop->nI,all_eq_true->nV,mem_range->og
open Nat renaming lt_of_lt_of_le->lg,le_refl->mE,succ_pos->qx
set_option maxHeartbeats 2000000
set_option maxRecDepth 100000
namespace Go.Proofs.YtphbledmopchnaaGreatDoor.Sd
open Go.RowKit Go.Lib Mm Tryz
def M8:Value:=.agg #[iZ 0,.nilFunc,.nilFunc,.bool false]
theorem qec:I9 300 304 M8 4 32:=⟨bH,bH,fun n=>by simp[M8,Builtin.zeroCells,Value.cells],fun n v a=>by simp[M8,Builtin.zeroCells,Value.cells]at a;obtain⟨i,_,rfl⟩:=a;have:i % 4=0\/i % 4=1\/i % 4=2\/i % 4=3:=aj;rcases this with h|h|h|h<;>rw[h]<;>rfl,aj⟩
structure AB (oZ:Own) (t:Nat) (D:Nat->Src) (w:World) (p:Nat) (v:Value) (Q:List Nat):Prop where
 op:oZ p=t+1
 pb:aS w p 300 [v]
 sr:GT oZ t 304 4 w v Q.length (qC D Q)
theorem zA(D:Nat->Src):∀(Q:List Nat) (u:Nat),qC D (Q++[u])=qC D Q++jw (D u)
 |[],u=>by simp[qC]
 |x::Q,u=>by show jw (D x)++qC D (Q++[u])=(jw (D x)++qC D Q)++jw (D u);rw[zA D Q u,List.append_assoc]
theorem VH(oZ:Own)(t:Nat)(D:Nat->Src)(w:World)(p:Nat)(v:Value)(Q:List Nat)(u:Nat)(hl:Q.length<=1000)(h:AB oZ t D w p v Q):Calls prog 377 #[aI p 0,.iface 304 (.agg #[(iZ (D u).u),.func (D u).f1 (D u).p1 (D u).k1,.func (D u).f2 (D u).p2 (D u).k2,.bool (D u).y])] w fun e w'=>e=.returned (.tuple #[])/\Hid (∃aY v',AB aY t D w' p v' (Q++[u])/\Kp [t,t+1] oZ aY w w'):=by
 obtain⟨a,c,rfl,_,_⟩:=h.sr.shape;have hp:w.cell? (aB p 0)=some (.slice a Q.length c):=h.pb.cell 0;have k:=h.pb.lt;obtain⟨W,n⟩:=bZ ((w.alloc (.cells (jw (D u)).toArray 304)).drew);have hb:aS W w.heap.size 304 (jw (D u)):=by rw[n];exact aS.new w 304 _
 have d:bJ w W:=by rw[n];have b:=(mI w.heap.size w).alloc (mE _) (.cells (jw (D u)).toArray 304);exact⟨b.os,b.tape,b.output,b.size,b.block⟩
 obtain⟨v',w',aY,run,o,m⟩:=gq qec (h.sr.kp (T:=[]) (Kp.below d) aP) (aB w.heap.size 0) 1 1 (jw (D u)) aP (Ce _) (fun j x y=>by
  have e:(aB w.heap.size 0).add j=(aB w.heap.size j):=by simp[Addr.add];omega
  rw[e,hb.cell,y]) aj
 have g:=cO (h.pb.of_heap (d.block _ k)) m (by rw[h.op];simp);obtain⟨l,c',rfl,_,_⟩:=o.shape;have z:=g.cell 0;have A:=g.frozen 0;simp only[List.getElem?_cons_zero]at z;have f:aY p=t+1:=by rw[m.ext _ (lg k d.size),h.op]
 have i:Kp [t+1] aY aY w' (w'.setCell (aB p 0) (.slice l (Q.length+1) c')):=((nE.refl p w').set 0 _).kpt (by rw[f];simp);have r:Hid (∃aY q,AB aY t D (w'.setCell (aB p 0) (.slice l (Q.length+1) c')) p q (Q++[u])/\Kp [t,t+1] oZ aY w (w'.setCell (aB p 0) (.slice l (Q.length+1) c'))):=by refine⟨aY,.slice l (Q.length+1) c',⟨f,g.setCell 0 _,?_⟩,(((Kp.below d).trans (m.mono aP)).trans (i.mono aP))⟩;rw[zA,mR];exact o.kp i aP
 have s:∀w',(Instr.typeAssert (.iface 304 (.agg #[(iZ (D u).u),.func (D u).f1 (D u).p1 (D u).k1,.func (D u).f2 (D u).p2 (D u).k2,.bool (D u).y])) 20 304 false).run prog w'=.ok (.agg #[(iZ (D u).u),.func (D u).f1 (D u).p1 (D u).k1,.func (D u).f2 (D u).p2 (D u).k2,.bool (D u).y]) w':=fun _=>bH;rw[n]at run;clear o m g f i hb d n h hl;go_enter func377,ntmps377;go_wp2_with fail;go_region_law (refine jD _ (by rfl) _ _ _ _ (by rfl) _ _ (by rfl) (by rfl) _ _ (run _) ?_)
 all_goals go_wp2_with fail
 all_goals go_end0
 all_goals exact⟨rfl,r⟩
theorem AB.hp{oZ:Own}{t:Nat}{D:Nat->Src}{w:World}{p:Nat}{v:Value}{Q:List Nat}(h:AB oZ t D w p v Q)(a:0<Q.length):∃g c,v=(dP g Q.length c)/\xP oZ t D w p g c Q:=by
 have hs:=h.sr;rcases hs with⟨_,b,_⟩|⟨g,cap,cs,rfl,ho,h3⟩;·omega
 ·exact⟨g,cap,rfl,h.op,h.pb,ho,h.sr⟩
theorem xP.hq{oZ:Own}{t:Nat}{D:Nat->Src}{w:World}{p g c:Nat}{Q:List Nat}(h:xP oZ t D w p g c Q):AB oZ t D w p (dP g Q.length c) Q:=⟨h.op,h.pb,h.sr.2⟩
theorem OG:∀(k:Nat) (l:List Nat) (j:Nat),(Ar k l j).length=l.length
 |0,_,_=>rfl
 |k+1,l,j=>by
  simp only[Ar];split;·rfl
  ·rw[OG k,ku]
theorem Rx(oZ:Own)(t:Nat)(D:Nat->Src)(x:∀u:Nat,(D u).u=(u:Int))(w:World)(p:Nat)(v:Value)(Q:List Nat)(u:Nat)(hl:Q.length<1000)(h:AB oZ t D w p v Q):Calls prog 244 #[.iface 250 (aI p 0),.iface 304 (.agg #[(iZ (D u).u),.func (D u).f1 (D u).p1 (D u).k1,.func (D u).f2 (D u).p2 (D u).k2,.bool (D u).y])] w fun e w'=>e=.returned (.tuple #[])/\Hid (∃aY v',AB aY t D w' p v' (dZ Q u)/\Kp [t,t+1] oZ aY w w'):=by
 have k:=aG (VH oZ t D w p v Q u aj h);obtain⟨n,A⟩:=bZ Q.length;have j:=aG (dB A hl);have G:n<1000:=aj;have F:=qbf p;have H:(n:Int)+1-1=(n:Int):=aj;clear A hl h;generalize (.agg #[(iZ (D u).u),.func (D u).f1 (D u).p1 (D u).k1,.func (D u).f2 (D u).p2 (D u).k2,.bool (D u).y]:Value)=J at *
 go_enter func244,ntmps244;go_wp2_with fail;refine bN k.out ?_;rintro y m;obtain⟨o,I,h1,q⟩:=m.out;obtain⟨g,c,rfl,f⟩:=h1.hp aP;have a:(Q++[u]).length=n+1:=by have:=j.out.1;simp;omega
 have hp:y.cell? (aB p 0)=some (dP g (n+1) c):=by rw[f.pb.cell,<-a];rfl
 have E:=qa5 p y _ _ _ hp;have d:=aG (A8 (some (aB g 0)) (n+1) c y);have l:=aG (Yx o t D x y p g c (Q++[u]) n aj aj f);have i:=aG q;have b:Hid (dZ Q u=Ar (n+1) (Q++[u]) n):=by unfold Hid dZ;rw[<-j.out.1]
 clear h1 q f hp a m k x;go_wp2_with fail;refine bN d.out ?_;rintro z rfl;go_wp2_with fail;refine bN l.out ?_;rintro B ⟨r,s⟩;have C:Hid (∃aY v',AB aY t D B p v' (dZ Q u)/\Kp [t,t+1] oZ aY w B):=by rw[b.out];exact⟨o,_,r.hq,i.out.trans (s.mono aP)⟩
 clear r s l i b;go_wp2_with fail;go_end0;exact⟨rfl,C⟩
theorem AB.below{oZ:Own}{t:Nat}{D:Nat->Src}{w w':World}{p:Nat}{v:Value}{Q:List Nat}(h:AB oZ t D w p v Q)(hb:bJ w w'):AB oZ t D w' p v Q:=
 ⟨h.op,h.pb.of_heap (hb.block _ h.pb.lt),h.sr.kp (T:=[]) (Kp.below hb) aP⟩
theorem Bc(oZ:Own)(t:Nat)(D:Nat->Src)(d:∀u:Nat,(D u).u=(u:Int))(w:World)(p:Nat)(v:Value)(Q:List Nat)(u:Nat)(hl:Q.length<1000)(h:AB oZ t D w p v Q):Calls prog 199 #[aI p 0,.agg #[(iZ (D u).u),.func (D u).f1 (D u).p1 (D u).k1,.func (D u).f2 (D u).p2 (D u).k2,.bool (D u).y]] w fun e w'=>e=.returned (.tuple #[])/\Hid (∃aY v',AB aY t D w' p v' (dZ Q u)/\Kp [t,t+1] oZ aY w w'):=by
 obtain⟨W,b⟩:=bZ (w.alloc (.cells (jw (D u)).toArray 304));have a:bJ w W:=by rw[b];exact(mI _ w).alloc (mE _) _
 have c:Hid (Calls prog 244 #[.iface 250 (aI p 0),.iface 304 (.agg #[(iZ (D u).u),.func (D u).f1 (D u).p1 (D u).k1,.func (D u).f2 (D u).p2 (D u).k2,.bool (D u).y])] W fun e w'=>e=.returned (.tuple #[])/\Hid (∃aY v',AB aY t D w' p v' (dZ Q u)/\Kp [t,t+1] oZ aY w w')):=by refine bN (Rx oZ t D d W p v Q u hl (h.below a)) ?_;rintro w' ⟨aY,v',h1,g⟩;exact⟨rfl,aY,v',h1,(Kp.below a).trans g⟩
 clear d h hl a;unfold jw at b;generalize D u=s at *
 go_enter func199,ntmps199;go_wp2_with fail;rw[<-b];refine bN c.out ?_;rintro y f;clear c b;go_wp2_with fail;go_end0;exact⟨rfl,f⟩
section
def zB(aF:bW):Bool:=(List.range aF.length).all (sj aF)&&decide (aF.length<=100)
theorem Zd{aF:bW}(h:zB aF=true)(n:Nat)(c:0<n)(d:n<=aF.length):qp (aF.take n)=true:=by
 unfold zB at h;rw[eT]at h;unfold qp;rw[eT];have hl:(aF.take n).length=n:=by rw[j3];omega
 refine⟨nV.2 fun i hi=>?_,decide_eq_true aj⟩;rw[hl]at hi;have a:=og.1 hi;have:=nV.1 h.1 i (og.2 aj);have g:∀j,j<n->(aF.take n).getD j (0,0)=aF.getD j (0,0):=fun j b=>by rw[eB,eB,nA b]
 unfold sj at this ⊢;rw[g i a,g (i-1) aj];exact this
theorem Hg{w:World}{rb off:Nat}{aF:bW}(h:jg w (some (aB rb off)) aF)(n:Nat):jg w (some (aB rb off)) (aF.take n):=fun j e=>by
 rw[j3]at e;obtain⟨b,o,h1,a,c,d⟩:=h j aj;have g:(aF.take n).getD j (0,0)=aF.getD j (0,0):=by rw[eB,eB,nA aj]
 exact⟨b,o,h1,by rw[g];exact a,by rw[g];exact c,by rw[g];exact d⟩
theorem VI{w:World}{rb off:Nat}{aF:bW}(h:jg w (some (aB rb off)) aF)(n:Nat):jg w (some (aB rb (off+n*2))) (aF.drop n):=fun j e=>by
 rw[nI]at e;obtain⟨b,o,h1,a,c,d⟩:=h (n+j) aj;simp only[Option.some.injEq,Addr.mk.injEq,and_true]at h1;obtain⟨rfl,rfl⟩:=h1;have g:(aF.drop n).getD j (0,0)=aF.getD (n+j) (0,0):=by rw[eB,eB,List.getElem?_drop]
 rw[g];refine⟨rb,off+n*2,rfl,?_,?_,d⟩;·rw[show off+n*2+j*2=off+(n+j)*2 by omega];exact a
 ·rw[show off+n*2+j*2=off+(n+j)*2 by omega];exact c
theorem VJ{aF:bW}(a:zB aF=true){w:World}{rb off:Nat}(c:jg w (some (aB rb off)) aF)(hb:rb<w.heap.size)(n:Nat)(d:0<n)(k:n<=aF.length):Calls prog 210 #[.agg #[iZ 2,iZ 0,uZ 0,uZ 0,uZ 0,.bool false,uZ 0,uZ 0,.string ⟨#[]⟩,.slice (some (aB rb off)) n n]] w fun e w'=>e=.returned (iZ ((bD (gH (aF.take n))).length:Int))/\bJ w w':=by
 have hl:(aF.take n).length=n:=by rw[j3];omega
 have m:aF.length<=100:=by unfold zB at a;rw[eT]at a;exact of_decide_eq_true a.2
 have hs:snd (gH (aF.take n))=true:=by have:=Zd a n d k;unfold snd pQ l7 gH;simp[this]
 have b:(bD (gH (aF.take n))).length<=1000000:=by have h1:=Nc (gH (aF.take n));have f:(gH (aF.take n)).data.size=0:=rfl;have g:(gH (aF.take n)).ranges.length=n:=hl;rw[f,g]at h1;omega
 have:=xw (gH (aF.take n)) (some (aB rb off)) n w ⟨hs,⟨by show(aF.take n).length<=_;omega,by show 0<=_;omega,by show(-9223372036854775808:Int)<=2/\(2:Int)<=_;omega,by show(-9223372036854775808:Int)<=0/\(0:Int)<=_;omega,by show(0:Nat)<_/\(0:Nat)<_/\(0:Nat)<_/\(0:Nat)<_/\(0:Nat)<_;omega,fun j i=>by obtain⟨_,_,_,_,_,h⟩:=Hg c n j i;exact h⟩,Hg c n,by show(aF.take n).length<=n;omega,(fun x l=>by cases l;exact hb),b⟩;have e:fM (gH (aF.take n)) (.slice (some (aB rb off)) (gH (aF.take n)).ranges.length n)=.agg #[iZ 2,iZ 0,uZ 0,uZ 0,uZ 0,.bool false,uZ 0,uZ 0,.string ⟨#[]⟩,.slice (some (aB rb off)) n n]:=by show Value.agg _=Value.agg _;rw[show(gH (aF.take n)).ranges.length=n from hl];rfl
 rw[e]at this;exact this
section
variable {oZ:Own} {s:Nat} {w0:World} {S bw bl bi ab:Nat}
theorem Nf(aF:bW)(au:Int)(n:Nat):fA aF au (n+1)=if((bD (gH (aF.take (n+1)))).length:Int)<=au then n+1 else fA aF au n:=rfl
theorem RA:lI oZ s w0 S bw bl bi ab 247 #[aI ab 0] #[] (fun _ aF=>decide (0<aF.length)&&zB aF) fun M aF au=>if fA aF au aF.length=0 then none else some (gH (aF.take (fA aF au aF.length)),M,aF.drop (fA aF au aF.length)):=by
 intro aY w M aF au K hE hW h9 xd;rw[eT]at h9;obtain⟨h8,A⟩:=h9;have h0:=of_decide_eq_true h8;have hu:=hE;obtain⟨l,vc,hS,hA⟩:=hu;obtain⟨he,v,hv,hr⟩:=hA;rcases hr with⟨_,h2⟩|⟨rb,off,c,rfl,hlc,hc,hrb,orb,qbw⟩;·rw[h2]at h0;exact absurd h0 aP
 have h7:=hS.s0;obtain⟨W,u⟩:=bZ (w.alloc (.cells pJ.toArray 65));have h:bJ w W:=by rw[u];exact(mI _ w).alloc (mE _) _
 have h5:aS W w.heap.size 65 pJ:=by rw[u];exact aS.new w 65 _
 have gQ:w.heap.size<W.heap.size:=by rw[u];simp
 have xe:=hv.lt;obtain⟨L,hL⟩:=bZ aF.length;have i:Hid (∀n q,0<n->n<=L->bJ w q->Calls prog 210 #[.agg #[iZ 2,iZ 0,uZ 0,uZ 0,uZ 0,.bool false,uZ 0,uZ 0,.string ⟨#[]⟩,.slice (some (aB rb off)) n n]] q fun e w'=>e=.returned (iZ ((bD (gH (aF.take n))).length:Int))/\bJ q w'):=fun n q a b hb=>VJ A (qbw.below hb) (lg hrb hb.size) n a aj;have d:Hid (∀q,bJ W q->q.cell? (aB ab 0)=some (.slice (some (aB rb off)) L c)/\q.frozen? (aB ab 0)=false/\aS q w.heap.size 65 pJ/\bJ w q):=fun q hb=>by have b1:=gB hb (gB h hv);exact⟨by rw[hL];exact b1.cell 0,b1.frozen 0,gB hb h5,h.trans (hb.mono h.size)⟩
 show Calls prog 247 #[aI ab 0,iZ au] w fun e w'=>kY aY s w S bw bl bi ab M aF (if fA aF au aF.length=0 then none else some (gH (aF.take (fA aF au aF.length)),M,aF.drop (fA aF au aF.length))) e w';rw[<-hL];have F:Hid (∀wr k,bJ W wr->nE w.heap.size wr k->fA aF au L=0->kY aY s w S bw bl bi ab M aF (if fA aF au L=0 then none else some (gH (aF.take (fA aF au L)),M,aF.drop (fA aF au L))) (.returned (.tuple #[fM iM nZ,.bool false])) k):=fun wr k hb ht ho=>by rw[bK ho];have H:Env (loc aY w.heap.size) s wr S bw bl bi ab M aF:=((hE.kp (wI aY w) aP aP aP).below h).below hb;exact kY.wrap (x:=iq) (gu:=loc aY w.heap.size) h7 h gQ rfl (Kp.below hb) H (fun z hz=>by cases hz) ht
 have C:Hid (∀n wr k v',0<n->n<=L->fA aF au L=n->bJ W wr->(v'=.slice (some (aB rb (off+n*2))) (L-n) (c-n)\/c=n/\v'=.slice (some (aB rb off)) (L-n) 0)->nE w.heap.size (wr.setCell (aB ab 0) v') k->kY aY s w S bw bl bi ab M aF (if fA aF au L=0 then none else some (gH (aF.take (fA aF au L)),M,aF.drop (fA aF au L))) (.returned (.tuple #[(.agg #[iZ 2,iZ 0,uZ 0,uZ 0,uZ 0,.bool false,uZ 0,uZ 0,.string ⟨#[]⟩,.slice (some (aB rb off)) n n]),.bool true])) k):=fun n wr k v' h1 h2 h3 hb B ht=>by
  rw[aU aj,h3];have I:bJ w wr:=h.trans (hb.mono h.size);have hg:(loc aY w.heap.size) ab=s+48:=by rw[jv _ _ _ xe];exact he
  have P:(loc aY w.heap.size) rb=s+49:=by rw[jv _ _ _ hrb];exact orb
  have Ks:Kp [s+48] (loc aY w.heap.size) (loc aY w.heap.size) wr (wr.setCell (aB ab 0) v'):=Kp.set _ wr _ _ [s+48] (by show(loc aY w.heap.size) ab∈_;rw[hg];simp);have hw:fP (loc aY w.heap.size) s wr S l M bw bl bi vc:=(hS.loc h).below hb;have hk:rb<wr.heap.size:=lg hrb I.size;have hf:=qbw.below I;have H:Env (loc aY w.heap.size) s (wr.setCell (aB ab 0) v') S bw bl bi ab M (aF.drop n):=by
   refine⟨l,vc,hw.kp Ks (fun x h1 h2 e=>by simp at e;omega),hg,_,(gB I hv).setCell 0 _,?_⟩;rcases B with B|⟨xl,B⟩;·exact .inr ⟨rb,off+n*2,c-n,by rw[B,nI,hL],by rw[nI];omega,aj,by simp;omega,P,Mx (VI hf n) Ks hk (by rw[P];simp)⟩
   ·have h6:aF.drop n=[]:=List.drop_of_length_le aj;rw[h6];exact .inr ⟨rb,off,0,by rw[B,show L-n=0 by omega];rfl,mE _,aj,by simp;omega,P,fun j hj=>absurd hj (Nat.not_lt_zero _)⟩
  have hl:(aF.take n).length=n:=by rw[j3];omega
  refine kY.wrap (r:=some (gH (aF.take n),M,aF.drop n)) (x:=(gH (aF.take n),some (aB rb off),n,n)) (gu:=loc aY w.heap.size) h7 h gQ rfl ((Kp.below hb).trans (Ks.mono fun x hx=>wH.2 (.inr (by simpa using hx)))) H (fun z hz=>?_) ht;cases hz;refine⟨rfl,hl.symm,by show(aF.take n).length<=n;omega,Mx (Hg hf n) Ks hk (by rw[P];simp),fun a ha=>?_,fun xa=>absurd rfl xa⟩;cases ha;exact⟨by simp;omega,P,rfl⟩
 generalize hX:(if fA aF au L=0 then none else some (gH (aF.take (fA aF au L)),M,aF.drop (fA aF au L)))=X at *
 clear hX;have xm:L<=c:=aj;have xn:L<=1000000000:=by unfold zB at A;rw[eT]at A;have:=of_decide_eq_true A.2;omega
 have xk:0<L:=aj;clear hE hS hW hv qbw he orb A h8 h0 K h5 hlc hrb gQ;clear hL;unfold pJ at u;subst u;go_enter func247,ntmps247;obtain⟨z0,z1,z2,z3⟩:=d.out _ (mI _ _);go_wp2;go_loopw [6] (fun s6 wr=>∃n:Nat,n<=L/\s6=(iZ n)/\Hid (fA aF au n=fA aF au L/\Below (w.alloc (.cells #[iZ 0,iZ 0,uZ 0,uZ 0,uZ 0,.bool false,uZ 0,uZ 0,.string ⟨#[]⟩,nZ] 65)).heap.size (w.alloc (.cells #[iZ 0,iZ 0,uZ 0,uZ 0,uZ 0,.bool false,uZ 0,uZ 0,.string ⟨#[]⟩,nZ] 65)) wr)) (fun s6 _=>(RowKit.intOf s6).toNat);case atStart=>exact⟨L,mE _,rfl,(⟨rfl,mI _ _⟩:_/\_)⟩
 case round=>
  obtain⟨n,hn,rfl,D⟩:=hrel;have E:=d.out wr D.out.2;cases n with
  |zero=>
   obtain⟨y0,y1,y2,y3,y4,y5,y6,y7,y8,y9,yf⟩:=bL E.2.2.1;have xA:=aG E.2.2.1;clear z0 z1 z2 z3 E;go_wp2;rw[gT];have J:=gI xA.out (iZ 0) (iZ 0) (uZ 0) (uZ 0) (uZ 0) (.bool false) (uZ 0) (uZ 0) (.string ⟨#[]⟩) nZ;have N:=gJ wr w.heap.size (iZ 0) (iZ 0) (uZ 0) (uZ 0) (uZ 0) (.bool false) (uZ 0) (uZ 0) (.string ⟨#[]⟩) nZ;generalize kF wr w.heap.size (iZ 0) (iZ 0) (uZ 0) (uZ 0) (uZ 0) (.bool false) (uZ 0) (uZ 0) (.string ⟨#[]⟩) nZ=k at *
   obtain⟨Q,R,T,U,V,Y,a6,a7,a8,a9,_⟩:=bL J;exact bodyPost_ret (v:=.tuple #[fM iM nZ,.bool false]) (by simp[results,results247,go_sem,Q,R,T,U,V,Y,a6,a7,a8,a9,fM,iM]) rfl (F.out wr k D.out.2 N D.out.1.symm)
  |succ m=>
   obtain⟨q0,q1,q2,q3⟩:=E;obtain⟨W3,y⟩:=bZ (wr.alloc (.cells #[iZ 2,iZ 0,uZ 0,uZ 0,uZ 0,.bool false,uZ 0,uZ 0,.string ⟨#[]⟩,.slice (some (aB rb off)) (m+1) (m+1)] 65));have h4:bJ wr W3:=by rw[y];exact(mI _ wr).alloc (mE _) _
   have O:=D.out.2.trans (h4.mono D.out.2.size);have QY:aS W3 wr.heap.size 65 [iZ 2,iZ 0,uZ 0,uZ 0,uZ 0,.bool false,uZ 0,uZ 0,.string ⟨#[]⟩,.slice (some (aB rb off)) (m+1) (m+1)]:=by rw[y];exact aS.new wr 65 _
   have gQ:=i.out (m+1) W3 aj hn (d.out W3 O).2.2.2;have f:=aG (dB O QY);have k1:((m:Int)+1)<=(c:Int):=aj;have k2:m+1<=c:=aj;have k3:(0:Int)<(m:Int)+1:=aj;have k4:((m:Int)+1)<=(L:Int):=aj;have k5:m+1<=L:=hn;have k6:(L:Int)<=(c:Int):=aj;have o:=Nf aF au m;generalize (bD (gH (aF.take (m+1)))).length=Z at *
   clear z0 z1 z2 z3 h4 O QY q2 q3;by_cases hz:(Z:Int)<=au
   ·rw[bK hz]at o;have G:=aG o;clear o;have xi:¬(wr.heap.size=ab):=fun e=>by have h1:=D.out.2.size;simp at h1;omega
    have xp:¬(ab=wr.heap.size):=fun e=>xi e.symm;have hm:w.heap.size≠ab:=aj;have xr:¬(w.heap.size=ab):=aj;have xv:¬(ab=w.heap.size):=aj;have xj:¬(wr.heap.size=w.heap.size):=fun e=>by have h1:=D.out.2.size;simp at h1;omega
    have xt:¬(w.heap.size=wr.heap.size):=fun e=>xj e.symm;have f1:fA aF au L=m+1:=by rw[<-D.out.1];exact G.out
    by_cases hy:c=m+1
    ·subst hy;go_wp2_with (first|(go_at_call 210;rw[<-y];refine bN gQ ?_;rintro p g;obtain⟨p0,p1,p2,p3⟩:=d.out p (f.out.1.trans (g.mono f.out.1.size));obtain⟨y0,y1,y2,y3,y4,y5,y6,y7,y8,y9,yf⟩:=bL p2;have xA:=aG p2;obtain⟨x0,x1,x2,x3,x4,x5,x6,x7,x8,x9,xf⟩:=bL (gB g f.out.2);clear p2)|go_in);rw[gT];have t:aS (p.setCell (aB ab 0) (.slice (some (aB rb off)) 0 0)) w.heap.size 65 pJ:=xA.out.of_heap (nP _ _ _ _ hm);have J:=gI t (iZ 2) (iZ 0) (uZ 0) (uZ 0) (uZ 0) (.bool false) (uZ 0) (uZ 0) (.string ⟨#[]⟩) (.slice (some (aB rb off)) (m+1) (m+1));have N:=gJ (p.setCell (aB ab 0) (.slice (some (aB rb off)) 0 0)) w.heap.size (iZ 2) (iZ 0) (uZ 0) (uZ 0) (uZ 0) (.bool false) (uZ 0) (uZ 0) (.string ⟨#[]⟩) (.slice (some (aB rb off)) (m+1) (m+1));generalize kF (p.setCell (aB ab 0) (.slice (some (aB rb off)) 0 0)) w.heap.size (iZ 2) (iZ 0) (uZ 0) (uZ 0) (uZ 0) (.bool false) (uZ 0) (uZ 0) (.string ⟨#[]⟩) (.slice (some (aB rb off)) (m+1) (m+1))=k at *
     obtain⟨Q,R,T,U,V,Y,a6,a7,a8,a9,_⟩:=bL J;have f3:=C.out (m+1) p k (.slice (some (aB rb off)) 0 0) (qx _) hn f1 (f.out.1.trans (g.mono f.out.1.size)) (.inr ⟨rfl,by rw[show L-(m+1)=0 by omega]⟩) N;clear J N t C F d i
     (try simp only[Exit.inBlock,Exit.then])
     exact bodyPost_ret (v:=.tuple #[(.agg #[iZ 2,iZ 0,uZ 0,uZ 0,uZ 0,.bool false,uZ 0,uZ 0,.string ⟨#[]⟩,.slice (some (aB rb off)) (m+1) (m+1)]),.bool true]) (by simp[results,results247,go_sem,Q,R,T,U,V,Y,a6,a7,a8,a9]) rfl f3
    ·skip
     go_wp2_with (first|(go_at_call 210;rw[<-y];refine bN gQ ?_;rintro p g;obtain⟨p0,p1,p2,p3⟩:=d.out p (f.out.1.trans (g.mono f.out.1.size));obtain⟨y0,y1,y2,y3,y4,y5,y6,y7,y8,y9,yf⟩:=bL p2;have xA:=aG p2;obtain⟨x0,x1,x2,x3,x4,x5,x6,x7,x8,x9,xf⟩:=bL (gB g f.out.2);clear p2)|go_in);rw[gT];have t:aS (p.setCell (aB ab 0) (.slice (some (aB rb (off+(m+1)*2))) (L-(m+1)) (c-(m+1)))) w.heap.size 65 pJ:=xA.out.of_heap (nP _ _ _ _ hm);have J:=gI t (iZ 2) (iZ 0) (uZ 0) (uZ 0) (uZ 0) (.bool false) (uZ 0) (uZ 0) (.string ⟨#[]⟩) (.slice (some (aB rb off)) (m+1) (m+1));have N:=gJ (p.setCell (aB ab 0) (.slice (some (aB rb (off+(m+1)*2))) (L-(m+1)) (c-(m+1)))) w.heap.size (iZ 2) (iZ 0) (uZ 0) (uZ 0) (uZ 0) (.bool false) (uZ 0) (uZ 0) (.string ⟨#[]⟩) (.slice (some (aB rb off)) (m+1) (m+1));generalize kF (p.setCell (aB ab 0) (.slice (some (aB rb (off+(m+1)*2))) (L-(m+1)) (c-(m+1)))) w.heap.size (iZ 2) (iZ 0) (uZ 0) (uZ 0) (uZ 0) (.bool false) (uZ 0) (uZ 0) (.string ⟨#[]⟩) (.slice (some (aB rb off)) (m+1) (m+1))=k at *
     obtain⟨Q,R,T,U,V,Y,a6,a7,a8,a9,_⟩:=bL J;have f3:=C.out (m+1) p k (.slice (some (aB rb (off+(m+1)*2))) (L-(m+1)) (c-(m+1))) (qx _) hn f1 (f.out.1.trans (g.mono f.out.1.size)) (.inl rfl) N;clear J N t C F d i
     (try simp only[Exit.inBlock,Exit.then])
     exact bodyPost_ret (v:=.tuple #[(.agg #[iZ 2,iZ 0,uZ 0,uZ 0,uZ 0,.bool false,uZ 0,uZ 0,.string ⟨#[]⟩,.slice (some (aB rb off)) (m+1) (m+1)]),.bool true]) (by simp[results,results247,go_sem,Q,R,T,U,V,Y,a6,a7,a8,a9]) rfl f3
   ·rw[aU hz]at o;have G:=aG o;clear o;have xo:¬((Z:Int)<=au):=hz;go_wp2_with (first|(go_at_call 210;rw[<-y];refine bN gQ ?_;rintro p g)|go_in);go_roundw;case rel=>exact⟨m,aj,aP,(⟨by rw[<-D.out.1];exact G.out.symm,f.out.1.trans (g.mono f.out.1.size)⟩:_/\_)⟩
    case measure=>simp[RowKit.intOf]
end

end
def Lp(P:Nat->Prop)(l:List Nat):Prop:=∀x∈l,P x
theorem Lp.getD{P:Nat->Prop}(a:P 0){l:List Nat}(h:Lp P l)(j:Nat):P (l.getD j 0):=by
 rw[eB];cases b:l[j]? with
 |none=>exact a
 |some v=>exact h v (List.mem_of_getElem? b)
theorem Lp.set{P:Nat->Prop}{l:List Nat}(h:Lp P l)(i v:Nat)(b:P v):Lp P (l.set i v):=fun x a=>by
 rcases List.mem_or_eq_of_mem_set a with a|a;·exact h x a
 ·rw[a];exact b
theorem Lp.sw{P:Nat->Prop}(a:P 0){l:List Nat}(h:Lp P l)(i j:Nat):Lp P (sw l i j):=(h.set i _ (h.getD a j)).set j _ (h.getD a i)
theorem Lp.down{P:Nat->Prop}(a:P 0):∀(k:Nat) {l:List Nat} (i n:Nat),Lp P l->Lp P (jK k l i n)
 |0,_,_,_,h=>h
 |k+1,l,i,n,h=>by
  unfold jK;generalize (if 2*i+2<n/\l.getD (2*i+2) 0<l.getD (2*i+1) 0 then 2*i+2 else 2*i+1)=j;split;·exact h
  ·simp only;split;·exact Lp.down a k _ _ (h.sw a _ _)
   ·exact h
theorem Lp.up{P:Nat->Prop}(a:P 0):∀(k:Nat) {l:List Nat} (i:Nat),Lp P l->Lp P (Ar k l i)
 |0,_,_,h=>h
 |k+1,l,i,h=>by
  unfold Ar;split;·exact h
  ·exact Lp.up a k _ (h.sw a _ _)
theorem Lp.pop{P:Nat->Prop}(a:P 0){l:List Nat}(h:Lp P l):Lp P (j6 l):=fun x b=>Lp.down a _ _ _ (h.sw a _ _) x (List.mem_of_mem_take b)
theorem Lp.app{P:Nat->Prop}{l m:List Nat}(h:Lp P l)(g:Lp P m):Lp P (l++m):=fun x a=>(mK.1 a).elim (h x) (g x)
theorem Lp.one{P:Nat->Prop}{u:Nat}(h:P u):Lp P [u]:=fun x a=>by rw[mY.1 a];exact h
theorem Lp.push{P:Nat->Prop}(a:P 0){l:List Nat}(h:Lp P l)(u:Nat)(b:P u):Lp P (dZ l u):=Lp.up a _ _ (h.app (Lp.one b))
theorem lW(l:List Nat)(u:Nat):(dZ l u).length=l.length+1:=by unfold dZ;rw[OG];simp
theorem yc(l:List Nat):(j6 l).length=l.length-1:=by unfold j6;rw[j3,zm,ku];omega
def qM(oZ:Own)(s:Nat)(w:World)(S bw bl bi ab:Nat)(D:Nat->Src)(u:Nat):Prop:=
 (D u).y=jr u/\jE oZ s w S bw bl bi ab (D u) (fun M aF=>M.aK aF u) (fun M aF=>M.aK aF u&&zB aF) (fun M aF au=>M.frame aF u au)
theorem qM.kp{oZ a:Own}{s:Nat}{w w1:World}{S bw bl bi ab:Nat}{D:Nat->Src}{u:Nat}(h:qM oZ s w S bw bl bi ab D u)(K:Kp (Tb s) oZ a w w1):qM a s w1 S bw bl bi ab D u:=⟨h.1,h.2.kp K⟩
structure QsM (oZ:Own) (s:Nat) (w:World) (S bw bl bi ab:Nat) (D:Nat->Src) (p:Nat) (v:Value) (Q:List Nat):Prop where
 hd:∀u:Nat,(D u).u=(u:Int)
 hq:AB oZ (s+45) D w p v Q
 hs:Lp (qM oZ s w S bw bl bi ab D) Q
theorem QsM.kp{oZ a:Own}{s:Nat}{w w1:World}{S bw bl bi ab:Nat}{D:Nat->Src}{p:Nat}{v:Value}{Q:List Nat}{T:List Nat}(h:QsM oZ s w S bw bl bi ab D p v Q)(K:Kp T oZ a w w1)(c:∀x∈T,x∈Tb s)(h1:s+45∉T)(b:s+46∉T):QsM a s w1 S bw bl bi ab D p v Q:=
 ⟨h.hd,⟨by rw[K.ext p h.hq.pb.lt,h.hq.op],cO h.hq.pb K (by rw[h.hq.op];exact b),h.hq.sr.kp K h1⟩,fun u d=>(h.hs u d).kp (K.mono c)⟩
theorem Dc(D a:Nat->Src):∀(Q:List Nat),(∀u∈Q,D u=a u)->qC D Q=qC a Q
 |[],_=>rfl
 |x::t,h=>by show jw (D x)++qC D t=jw (a x)++qC a t;rw[h x aP,Dc D a t fun u b=>h u (by simp[b])]
theorem qby{oZ:Own}{s:Nat}{S bw bl bi ab:Nat}{D:Nat->Src}{p:Nat}{v:Value}{Q:List Nat}(w:World)(h:QsM oZ s w S bw bl bi ab D p v Q)(x:Src)(u:Nat)(r:x.u=(u:Int))(y:x.y=jr u)(o:u∉Q)(hl:Q.length<1000)(t:jE oZ s w S bw bl bi ab x (fun M aF=>M.aK aF u) (fun M aF=>M.aK aF u&&zB aF) (fun M aF au=>M.frame aF u au))(c:u=0\/0∈Q):Calls prog 199 #[aI p 0,nL x] w fun e w'=>e=.returned (.tuple #[])/\∃aY a v',QsM aY s w' S bw bl bi ab a p v' (dZ Q u)/\Kp [s+45,s+46] oZ aY w w':=by
 obtain⟨a,d⟩:=bZ (fun j=>if j=u then x else D j:Nat->Src);have i:a u=x:=by rw[d];exact bK rfl
 have en:∀j,j≠u->a j=D j:=fun j b=>by rw[d];exact aU b
 have g:∀j:Nat,(a j).u=(j:Int):=fun j=>by
  by_cases b:j=u;·rw[b,i];exact r
  ·rw[en j b];exact h.hd j
 have k:AB oZ (s+45) a w p v Q:=⟨h.hq.op,h.hq.pb,by rw[Dc a D Q fun j b=>en j (fun e=>o (e▸b))];exact h.hq.sr⟩;have n:∀j∈Q,qM oZ s w S bw bl bi ab a j:=fun j b=>by have:=h.hs j b;unfold qM at this ⊢;rw[en j (fun e=>o (e▸b))];exact this
 have f:qM oZ s w S bw bl bi ab a u:=by unfold qM;rw[i];exact⟨y,t⟩
 have:=Bc oZ (s+45) a g w p v Q u hl k;rw[i]at this;refine bN this ?_;rintro w' ⟨aY,v',l,K⟩;have m:Kp [s+45,s+46] oZ aY w w':=K;have q:Kp (Tb s) oZ aY w w':=m.mono fun z hz=>ji.2 (by simp at hz;omega);refine⟨rfl,aY,a,v',⟨g,l,fun j b=>qM.kp ?_ q⟩,m⟩;exact Lp.push (P:=qM oZ s w S bw bl bi ab a) (by
  rcases c with c|c;·rw[<-c];exact f
  ·exact n 0 c) n u f j b
def PU(oZ:Own)(s:Nat)(w:World)(S bw bl bi ab:Nat)(D:Nat->Src)(u:Nat):Prop:=qM oZ s w S bw bl bi ab D u/\u<48
theorem PU.kp{oZ a:Own}{s:Nat}{w w1:World}{S bw bl bi ab:Nat}{D:Nat->Src}{u:Nat}(h:PU oZ s w S bw bl bi ab D u)(K:Kp (Tb s) oZ a w w1):PU a s w1 S bw bl bi ab D u:=⟨h.1.kp K,h.2⟩
def Tg(s:Nat):List Nat:=List.range' s 47++[s+48,s+50,s+51]
theorem oJ{s x:Nat}:x∈Tg s↔(s<=x/\x<s+47)\/x=s+48\/x=s+50\/x=s+51:=by
 unfold Tg;rw[mK,List.mem_range'];simp only[List.mem_cons,List.not_mem_nil,or_false];refine or_congr ⟨?_,?_⟩ Iff.rfl;·rintro⟨i,h,rfl⟩;omega
 ·rintro⟨h1,a⟩;exact⟨x-s,aj,aj⟩
theorem qa7(s:Nat):∀x∈Tg s,x∈Tb s:=fun x a=>ji.2 (bV (oJ.1 a))
structure qm (fJ:Own) (s:Nat) (w0:World) (S bw bl bi ab:Nat) (D:Nat->Src) (p:Nat) (oZ:Own) (w:World) (M:av) (aF:bW) (Q later:List Nat) (L:List FV) (v vl vt:Value):Prop where
 hq:AB oZ (s+45) D w p v Q
 qs:Lp (PU oZ s w S bw bl bi ab D) Q
 ls:Lp (PU oZ s w S bw bl bi ab D) later
 z:PU oZ s w S bw bl bi ab D 0
 env:Env oZ s w S bw bl bi ab M aF
 fr:GT oZ (s+50) 65 10 w vl L.length (qR L)
 fv:∀x∈L,SI oZ s w x
 la:GT oZ (s+51) 304 4 w vt later.length (qC D later)
 kp:Kp (Tg s) fJ oZ w0 w
 nl:L=[]->vl=nZ
theorem SI.kp{oZ aY:Own}{s:Nat}{w w':World}{x:FV}{T:List Nat}(h:SI oZ s w x)(K:Kp T oZ aY w w')(l:s+49∉T):SI aY s w' x:=by
 refine⟨h.len,h.cap,fun j n=>?_,fun a m=>?_,h.nil⟩;·obtain⟨b,o,f,g,i,k⟩:=h.rT j n;obtain⟨c,d,_⟩:=h.cZ _ f;have e:=K.cZ b c (by rw[d];exact l);exact⟨b,o,f,cell_of g e,cell_of i e,k⟩
 ·obtain⟨c,d,p⟩:=h.cZ a m;exact⟨lg c K.size,by rw[K.ext _ c,d],p⟩
theorem AB.kp{oZ aY:Own}{t:Nat}{D:Nat->Src}{w w':World}{p:Nat}{v:Value}{Q:List Nat}{T:List Nat}(h:AB oZ t D w p v Q)(K:Kp T oZ aY w w')(h1:t∉T)(a:t+1∉T):AB aY t D w' p v Q:=
 ⟨by rw[K.ext p h.pb.lt,h.op],cO h.pb K (by rw[h.op];exact a),h.sr.kp K h1⟩
theorem qm.new{fJ:Own}{s:Nat}{w0:World}{S bw bl bi ab:Nat}{D:Nat->Src}{p:Nat}{oZ aY:Own}{w w':World}{M:av}{aF:bW}{Q later:List Nat}{L:List FV}{v vl vt:Value}(h:qm fJ s w0 S bw bl bi ab D p oZ w M aF Q later L v vl vt)(K:Kp [] oZ aY w w'):qm fJ s w0 S bw bl bi ab D p aY w' M aF Q later L v vl vt:=
 ⟨h.hq.kp K aP aP,fun u a=>(h.qs u a).kp (K.mono aP),fun u a=>(h.ls u a).kp (K.mono aP),h.z.kp (K.mono aP),h.env.kp K aP aP aP,h.fr.kp K aP,fun x b=>(h.fv x b).kp K aP,h.la.kp K aP,h.kp.trans (K.mono aP),h.nl⟩
theorem qm.pop{fJ:Own}{s:Nat}{w0:World}{S bw bl bi ab:Nat}{D:Nat->Src}{p:Nat}{oZ:Own}{w w':World}{M:av}{aF:bW}{Q later:List Nat}{L:List FV}{v v' vl vt:Value}(h:qm fJ s w0 S bw bl bi ab D p oZ w M aF Q later L v vl vt)(hq:AB oZ (s+45) D w' p v' (j6 Q))(K:Kp [s+45,s+45+1] oZ oZ w w'):qm fJ s w0 S bw bl bi ab D p oZ w' M aF (j6 Q) later L v' vl vt:=by have b:Kp (Tb s) oZ oZ w w':=K.mono fun x a=>ji.2 (by simp at a;omega);have d:Kp (Tg s) oZ oZ w w':=K.mono fun x a=>oJ.2 (by simp at a;omega);exact⟨hq,fun u c=>(Lp.pop h.z h.qs u c).kp b,fun u c=>(h.ls u c).kp b,h.z.kp b,h.env.kp K (by simp;omega) aP aP,h.fr.kp K aP,fun x a=>(h.fv x a).kp K aP,h.la.kp K aP,h.kp.trans d,h.nl⟩
theorem qm.nxt{fJ:Own}{s:Nat}{w0:World}{S bw bl bi ab:Nat}{D:Nat->Src}{p:Nat}{oZ aY:Own}{w w':World}{M M':av}{aF cu:bW}{Q later:List Nat}{L:List FV}{v vl vt:Value}(h:qm fJ s w0 S bw bl bi ab D p oZ w M aF Q later L v vl vt)(K:Kp (Tn s) oZ aY w w')(f:Env aY s w' S bw bl bi ab M' cu):qm fJ s w0 S bw bl bi ab D p aY w' M' cu Q later L v vl vt:=by have b:Kp (Tb s) oZ aY w w':=K.mono (qdt s);have d:Kp (Tg s) oZ aY w w':=K.mono fun x a=>oJ.2 (bV (wH.1 a));have e:∀x,x∈Tn s->(s<=x/\x<s+45)\/x=s+48:=fun x a=>wH.1 a;exact⟨h.hq.kp K (fun x=>bV (e _ x)) (fun x=>bV (e _ x)),fun u c=>(h.qs u c).kp b,fun u c=>(h.ls u c).kp b,h.z.kp b,f,h.fr.kp K (fun x=>bV (e _ x)),fun x a=>(h.fv x a).kp K (fun x=>bV (e _ x)),h.la.kp K (fun x=>bV (e _ x)),h.kp.trans d,h.nl⟩
theorem qm.app{fJ:Own}{s:Nat}{w0:World}{S bw bl bi ab:Nat}{D:Nat->Src}{p:Nat}{oZ aY:Own}{w w':World}{M:av}{aF:bW}{Q later:List Nat}{L:List FV}{v vl c vt:Value}(h:qm fJ s w0 S bw bl bi ab D p oZ w M aF Q later L v vl vt)(x:FV)(a:SI oZ s w x)(K:Kp [s+50] oZ aY w w')(i:GT aY (s+50) 65 10 w' c (L.length+1) (qR L++gG x.1 (oO x))):qm fJ s w0 S bw bl bi ab D p aY w' M aF Q later (L++[x]) v c vt:=by
 have d:Kp (Tb s) oZ aY w w':=K.mono fun x a=>ji.2 (by simp at a;omega);have g:Kp (Tg s) oZ aY w w':=K.mono fun x a=>oJ.2 (by simp at a;omega);refine⟨h.hq.kp K aP aP,fun u f=>(h.qs u f).kp d,fun u f=>(h.ls u f).kp d,h.z.kp d,h.env.kp K (by simp;omega) aP aP,?_,fun y b=>?_,h.la.kp K aP,h.kp.trans g,fun e=>absurd e aP⟩;·rw[xE,mR];simpa[qR]using i
 ·rcases mK.1 b with b|b;·exact(h.fv y b).kp K aP
  ·rw[mY.1 b];exact a.kp K aP
theorem qm.lat{fJ:Own}{s:Nat}{w0:World}{S bw bl bi ab:Nat}{D:Nat->Src}{p:Nat}{oZ aY:Own}{w w':World}{M:av}{aF:bW}{Q later:List Nat}{L:List FV}{v vl vt b:Value}(h:qm fJ s w0 S bw bl bi ab D p oZ w M aF Q later L v vl vt)(u:Nat)(d:PU oZ s w S bw bl bi ab D u)(K:Kp [s+51] oZ aY w w')(g:GT aY (s+51) 304 4 w' b (later.length+1) (qC D later++jw (D u))):qm fJ s w0 S bw bl bi ab D p aY w' M aF Q (later++[u]) L v vl b:=by
 have c:Kp (Tb s) oZ aY w w':=K.mono fun x e=>ji.2 (by simp at e;omega);have f:Kp (Tg s) oZ aY w w':=K.mono fun x e=>oJ.2 (by simp at e;omega);refine⟨h.hq.kp K aP aP,fun u d=>(h.qs u d).kp c,fun j a=>?_,h.z.kp c,h.env.kp K (by simp;omega) aP aP,h.fr.kp K aP,fun y i=>(h.fv y i).kp K aP,?_,h.kp.trans f,h.nl⟩
 ·rcases mK.1 a with a|a;·exact(h.ls j a).kp c
  ·rw[mY.1 a];exact d.kp c
 ·rw[zA,mR];exact g
theorem PU.fn{oZ:Own}{s:Nat}{w:World}{S bw bl bi ab:Nat}{D:Nat->Src}{u:Nat}(h:PU oZ s w S bw bl bi ab D u):∃n1 n2,(D u).f1=.func n1/\(D u).f2=.func n2/\(∀args w,(callFunc n1 args).run prog w=.ok (.enter n1 args) w)/\(∀args w,(callFunc n2 args).run prog w=.ok (.enter n2 args) w)/\qK oZ s w S bw bl bi ab n1 (D u).p1 (D u).k1 (fun M aF=>M.aK aF u)/\lI oZ s w S bw bl bi ab n2 (D u).p2 (D u).k2 (fun M aF=>M.aK aF u&&zB aF) (fun M aF au=>M.frame aF u au):=h.1.2.fn
theorem qm.head{fJ:Own}{s:Nat}{w0:World}{S bw bl bi ab:Nat}{D:Nat->Src}{p:Nat}{oZ:Own}{w:World}{M:av}{aF:bW}{u:Nat}{Q later:List Nat}{L:List FV}{v vl vt:Value}(h:qm fJ s w0 S bw bl bi ab D p oZ w M aF (u::Q) later L v vl vt):∃g c,v=(dP g (Q.length+1) c)/\xP oZ (s+45) D w p g c (u::Q)/\w.cell? (aB p 0)=some (dP g (Q.length+1) c)/\w.cell? (aB g 0)=some (iZ (D u).u)/\w.cell? (aB g 1)=some (.func (D u).f1 (D u).p1 (D u).k1)/\w.cell? (aB g 2)=some (.func (D u).f2 (D u).p2 (D u).k2)/\w.cell? (aB g 3)=some (.bool (D u).y):=by
 obtain⟨g,c,rfl,hp⟩:=h.hq.hp aP;obtain⟨q0,d,f,i⟩:=oz D (u::Q) 0 u rfl;have a:∀k x,(qC D (u::Q))[k]?=some x->w.cell? (aB g k)=some x:=fun k x b=>by obtain⟨g',e,_,_,r,_⟩:=hp.sr.2.cell k x b;cases e;exact r
 exact⟨g,c,rfl,hp,hp.pb.cell 0,a _ _ (by simpa using q0),a _ _ (by simpa using d),a _ _ (by simpa using f),a _ _ (by simpa using i)⟩
