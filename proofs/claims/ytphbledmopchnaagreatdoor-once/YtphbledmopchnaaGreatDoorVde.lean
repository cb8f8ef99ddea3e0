import Derived.Test.YtphbledmopchnaaGreatDoorVdd
import Derived.Test.YtphbledmopchnaaGreatDoorVda
open Array renaming getElem?_eq_getElem->fB
open Go.Builtin renaming zeroCells->fA
open Prod renaming fst->eT
open Go.RowKit renaming intOf->eB
open Go.Value renaming cells->fE
open Go.World renaming cell?->kg
set_option maxHeartbeats 4000000
set_option maxRecDepth 100000
open Go renaming World->Wq,Value->WA,Calls->WB,undef->Vh,bodyPost_ret->Vl,Addr->V3
set_option linter.all false
namespace Go.Proofs.YtphbledmopchnaaGreatDoor.Sd
open Go.RowKit Go.Lib Mm Tryz
variable {T:List Nat}{W w w' y':Wq}{a g j n s:Nat}{aQ oZ:Own}{b:Bool}{c t v vc:WA}{d lb:List UInt8}{f:Fr}{fa:Option V3}{l l':bJ}{m:Nat×ByteArray}{y:Nat×List Fr}
def Ow{S:Nat}{M:av}{bw bl bi:Nat}{O:WA}(f:Fr)(a:Option V3)(c:Nat)(h:fH oZ s w S l M bw bl bi O)(v:Bd M)(r:jA w a f.ranges)(m:0<f.ranges.length)(u:f.ranges.length<=1000000)(n:∀x,a=some x->oZ x.block∉T0 s)(j:(f.ranges.getD 0 (0,0)).2<M.next)(k:M.next<=dH):qH 233 #[aJ S 0,eF f (.slice a f.ranges.length c)] w (iZ 0) fun o=>∃d,M.tN f.ranges d/\iE s oZ w S bw bl bi d o:=by
 obtain⟨W,g⟩:=bT (w.alloc (.cells (fJ f (.slice a f.ranges.length c)).toArray 65));have i:aL W w.heap.size 65 (fJ f (.slice a f.ranges.length c)):=by rw[g];exact aL.new w 65 _
 have b:bE w W:=by rw[g];exact(qlw _ w).alloc (qj _) _
 have C:Hid (∀q,qH 294 #[aJ S 0,.slice a f.ranges.length c] (W.drewN q) (.tuple #[]) fun o=>∃d,M.tN f.ranges d/\iE s oZ w S bw bl bi d o):=fun q=>by have e:bE w (W.drewN q):=kZ b;refine bH (qaq (W.drewN q) (h.below e) v a c f.ranges (r.below e) m u n j k) ?_;rintro o ⟨d,D,H,G,N,E,F⟩;exact⟨rfl,d,D,H,G,N,E,(Kp.below e).trans F⟩
 obtain⟨A,L,rfl,q0,z,I,J⟩:=r 0 m;have t:A<w.heap.size:=qmf w _ (by rw[q0]);have p:=h.below b;obtain⟨X,Y,Z,x3,x4,x5,x6,x7,x8,x9,xf⟩:=bC i;have P:W.cell? (ay S 229)=some (uZ M.next):=by rw[p.bY.cell];exact p.cells.n_
 have Q:W.cell? (ay A (L+1))=some (uZ ((f.ranges.getD 0 (0,0)).2:Int)):=cell_of z (b.block _ t);have K:(0:Int)<(f.ranges.length:Int):=aj;have y:¬(M.next:Int)<=((f.ranges.getD 0 (0,0)).2:Int):=aj;clear h v r n k q0 z I J p i b j;generalize (f.ranges.getD 0 (0,0)).2=R at *
 generalize M.next=T at *
 generalize f.ranges.length=U at *
 unfold eF;unfold fJ at g;go_enter func233,ntmps233;go_wp2;rw[<-g];clear g;go_quiet (fail);go_wp2_with (go_at_call 294;refine bH (C.out _) ?_;rintro V B);go_ret;exact⟨rfl,B⟩
def fH.jS{S:Nat}{M:av}{bw bl bi:Nat}{b:WA}(h:fH oZ s w S l M bw bl bi b)(n:Nat)(q:f_ w w' S l l' 220 1)(a:l'[220]?=some (uZ n)):iE s oZ w S bw bl bi {M with aT:=n} w':=by have c:=h.cells;have e:∀j,j≠220->l'[j]?=l[j]?:=fun j d=>q.dW.2 j aj;exact h.cell 220 1 aj q ⟨q.dW.1.trans c.len,(e _ aj).trans c.c0,(e _ aj).trans c.c1,(e _ aj).trans c.c2,(e _ aj).trans c.c3,a,c.gr.dW q.dW aj,(e _ aj).trans c.sP,(e _ aj).trans c.sQ,(e _ aj).trans c.pQ,(e _ aj).trans c.nH,(e _ aj).trans c.n_,(e _ aj).trans c.oM,(e _ aj).trans c.rV,(e _ aj).trans c.nJ,(e _ aj).trans c.jd,(e _ aj).trans c.qA,(e _ aj).trans c.pR,(e _ aj).trans c.qV,(e _ aj).trans c.rW,(e _ aj).trans c.oO,(e _ aj).trans c.tY⟩ rfl rfl rfl rfl rfl rfl rfl
structure FrC (M:av) (f:Fr):Prop where
 kd:f.aD=2\/f.aD=4\/f.aD=5\/f.aD=6\/f.aD=3\/f.aD=7
 ack:f.aD=2->0<f.ranges.length/\f.ranges.length<=1000000/\(f.ranges.getD 0 (0,0)).2<M.next
 st:f.aD=4\/f.aD=6\/f.aD=3->0<=f.aG/\f.aG<8
 dt:f.aD=4->bL f<=2048
 rs:f.aD=3->f.aC<=2048/\f.aN<=2048
 dg:f.aD=7->QD f/\M.eP.length<=1000000
 ok:f.aD≠2->(M.take f).2=0
def XL{S:Nat}{M:av}{bw bl bi:Nat}{E:WA}(f:Fr)(a:Option V3)(c:Nat)(h:fH oZ s w S l M bw bl bi E)(v:Bd M)(m:FrC M f)(b:f.aD=3):qH 183 #[aJ S 0,eF f (.slice a f.ranges.length c)] w (iZ 0) fun p=>∃i,M.fU f i 0/\iE s oZ w S bw bl bi i p:=by
 obtain⟨W,o⟩:=bT (w.alloc (.cells (fJ f (.slice a f.ranges.length c)).toArray 65));have j:aL W w.heap.size 65 (fJ f (.slice a f.ranges.length c)):=by rw[o];exact aL.new w 65 _
 have d:bE w W:=by rw[o];exact(qlw _ w).alloc (qj _) _
 have u:=h.below d;have G:=h.bY.lt;obtain⟨L,N,O,P,Q,R,T,U,V,X,Y⟩:=bC j;obtain⟨k,n⟩:∃k:Nat,f.aG=(k:Int):=⟨f.aG.toNat,bR (m.st (.inr (.inr b)))⟩;have F:k<8:=bR (m.st (.inr (.inr b)));have g:f.aG.toNat=k:=aj;have x:Hid (qH 235 #[aJ S 0,eF f (.slice a f.ranges.length c)] W (iZ 0) fun p=>Hid (∃i,M.fU f i 0/\iE s oZ w S bw bl bi i p)):=by
  obtain⟨H,I⟩:=m.rs b;have q:=m.ok (by rw[b];decide);have r:M.take f=if(M.cK f.aG.toNat).lF f≠0 then(M,(M.cK f.aG.toNat).lF f)else(M.fT f.aG.toNat ((M.cK f.aG.toNat).fU f),0):=by unfold av.take;rw[aV (by rw[b];decide),aV (by rw[b];decide),bM b]
  rw[r,g]at q;have t:(M.cK k).lF f=0:=by
   by_cases e:(M.cK k).lF f=0;·exact e
   ·rw[bM e]at q;exact q
  refine bH (IJ f a f.ranges.length c k F n u (v.i k).ok (by unfold dH;omega) (by unfold dH;omega) t) ?_;rintro p ⟨C,B,D,z,A⟩;refine⟨rfl,M.fT k ((M.cK k).fU f),?_,C,B,D,z,(Kp.below d).trans A⟩;unfold av.fU;rw[aV (by rw[b];decide),aV (by rw[b];decide),r,g,aV (by rw[t];decide)]
 clear h u v m j d;generalize f.ranges.length=J at *
 unfold eF at *
 unfold fJ at o;rw[b]at *
 clear b n g;go_enter func183,qpi;go_wp2_with (go_at_call 235;rw[<-o];refine bH x.out ?_;rintro K y);go_ret;exact⟨rfl,y.out⟩
def XM{S:Nat}{M:av}{bw bl bi:Nat}{C:WA}(f:Fr)(a:Option V3)(c:Nat)(h:fH oZ s w S l M bw bl bi C)(n:Bd M)(o:FrC M f)(j:f.aD=7):qH 183 #[aJ S 0,eF f (.slice a f.ranges.length c)] w (iZ 0) fun k=>∃d,M.fU f d 0/\iE s oZ w S bw bl bi d k:=by
 obtain⟨W,e⟩:=bT (w.alloc (.cells (fJ f (.slice a f.ranges.length c)).toArray 65));have i:aL W w.heap.size 65 (fJ f (.slice a f.ranges.length c)):=by rw[e];exact aL.new w 65 _
 have b:bE w W:=by rw[e];exact(qlw _ w).alloc (qj _) _
 have m:=h.below b;have D:=h.bY.lt;obtain⟨I,J,K,L,N,O,P,Q,R,T,U⟩:=bC i;have E:W.cell? (ay S 3)=some (uZ M.aW):=by rw[m.bY.cell];exact m.cells.c3
 have p:Hid (∀q,qH 236 #[aJ S 235,eF f (.slice a f.ranges.length c),uZ M.aW] (W.drewN q) (.tuple #[]) fun k=>Hid (∃d,M.fU f d 0/\iE s oZ w S bw bl bi d k)):=fun q=>by have g:bE w (W.drewN q):=kZ b;obtain⟨t,u⟩:=o.dg j;refine bH (qau f _ (W.drewN q) (h.below g) t n.ib u) ?_;rintro k ⟨v,A,z,B,x,y⟩;refine⟨rfl,{M.nE f with iv:=v},?_,A,z,B,x,(Kp.below g).trans y⟩;unfold av.fU;rw[aV (by rw[j];decide),bM j];exact⟨v,rfl,rfl⟩
 clear h m n o i b;generalize f.ranges.length=F at *
 generalize M.aW=G at *
 unfold eF at *
 unfold fJ at e;rw[j]at *
 clear j;go_enter func183,qpi;go_wp2;rw[<-e];clear e;go_region_with (go_at_call 236;refine bH (p.out _) ?_;rintro H r);all_goals(go_wp2;go_ret;exact⟨rfl,r.out⟩)
def qav{S:Nat}{M:av}{bw bl bi:Nat}{V:WA}(f:Fr)(a:Option V3)(c:Nat)(h:fH oZ s w S l M bw bl bi V)(u:Bd M)(i:FrC M f)(H:jA w a f.ranges)(r:∀x,a=some x->oZ x.block∉T0 s)(p:M.next<=dH):qH 183 #[aJ S 0,eF f (.slice a f.ranges.length c)] w (iZ 0) fun t=>∃d,M.fU f d 0/\iE s oZ w S bw bl bi d t:=by
 obtain⟨W,n⟩:=bT (w.alloc (.cells (fJ f (.slice a f.ranges.length c)).toArray 65));have o:aL W w.heap.size 65 (fJ f (.slice a f.ranges.length c)):=by rw[n];exact aL.new w 65 _
 have b:bE w W:=by rw[n];exact(qlw _ w).alloc (qj _) _
 have m:=h.below b;have X:=h.bY.lt;obtain⟨x0,x1,x2,x3,x4,x5,x6,x7,x8,x9,xf⟩:=bC o;rcases i.kd with hk|hk|hk|hk|hk|hk
 ·have E:Hid (qH 233 #[aJ S 0,eF f (.slice a f.ranges.length c)] W (iZ 0) fun t=>Hid (∃d,M.fU f d 0/\iE s oZ w S bw bl bi d t)):=by
   obtain⟨P,Q,R⟩:=i.ack hk;refine bH (Ow f a c m u (H.below b) P Q r R p) ?_;rintro t ⟨d,T,C,B,D,z,A⟩;refine⟨rfl,d,?_,C,B,D,z,(Kp.below b).trans A⟩;unfold av.fU;rw[bM hk,aV aj];exact⟨T,rfl⟩
  clear h m u H r i o b p;generalize f.ranges.length=K at *
  unfold eF at *
  unfold fJ at n;rw[hk]at *
  clear hk;go_enter func183,qpi;go_wp2_with (go_at_call 233;rw[<-n];refine bH E.out ?_;rintro O y);go_ret;exact⟨rfl,y.out⟩
 ·obtain⟨k,v⟩:∃k:Nat,f.aG=(k:Int):=⟨f.aG.toNat,bR (i.st (.inl hk))⟩;have J:k<8:=bR (i.st (.inl hk));have E:Hid (qH 234 #[aJ S 0,eF f (.slice a f.ranges.length c)] W (iZ 0) fun t=>Hid (∃d,M.fU f d 0/\iE s oZ w S bw bl bi d t)):=by
   have he:=i.dt hk;refine(KU f a f.ranges.length c k J v hk m (u.i k).ok (fun j=>bR ((u.i j).h)) aj).mono ?_;have L:=i.ok (by rw[hk];decide);rintro e t ⟨rfl,C,B,D,z,A⟩;refine⟨by rw[L];rfl,(M.take f).1,?_,C,B,D,z,(Kp.below b).trans A⟩;unfold av.fU;rw[aV (by rw[hk];decide),aV (by rw[hk];decide)];exact Prod.ext rfl L.symm
  clear h m u H r i o b p;generalize f.ranges.length=K at *
  unfold eF at *
  unfold fJ at n;rw[hk]at *
  clear hk v;go_enter func183,qpi;go_wp2_with (go_at_call 234;rw[<-n];refine bH E.out ?_;rintro O y);go_ret;exact⟨rfl,y.out⟩
 ·obtain⟨N,hN,F⟩:=max2 M.aT f.aT;have Y:W.cell? (ay S 220)=some (uZ M.aT):=by rw[m.bY.cell];exact m.cells.qU
  have Z:=m.bY.frozen 220;have y:Hid (∃d,M.fU f d 0/\iE s oZ w S bw bl bi d (W.setCell (ay S 220) (uZ N)).drew):=by obtain⟨C,B,D,z,A⟩:=m.jS N (f_.one m.bY 220 (uZ N) 220 1 (qj _) aj) (cB l 220 _ _ m.cells.qU);refine⟨{M with aT:=N},?_,C,B,D,z.below ⟨rfl,rfl,rfl,qj _,fun _ _=>rfl⟩,(Kp.below b).trans A.drew⟩;unfold av.fU;rw[aV (by rw[hk];decide),aV (by rw[hk];decide)];unfold av.take;rw[aV (by rw[hk];decide),aV (by rw[hk];decide),aV (by rw[hk];decide),aV (by rw[hk];decide),aV (by rw[hk];decide),bM hk,F]
  clear h m u H r i o b p F;generalize f.ranges.length=K at *
  generalize M.aT=lm at *
  unfold eF at *
  unfold fJ at n;rw[hk]at *
  clear hk;go_enter func183,qpi;go_wp2;rw[<-n];clear n;go_region
  go_wp2;go_ret;exact⟨rfl,y.out⟩
 ·obtain⟨k,v⟩:∃k:Nat,f.aG=(k:Int):=⟨f.aG.toNat,bR (i.st (.inr (.inl hk)))⟩;have J:k<8:=bR (i.st (.inr (.inl hk)));have U:(k:Int)<8:=aj;have E:Hid (∀q,qH 237 #[(aJ S (4+k*27)),uZ f.aT] (W.drewN q) (.tuple #[]) fun t=>Hid (∃d,M.fU f d 0/\iE s oZ w S bw bl bi d t)):=fun q=>by
   have G:bE w (W.drewN q):=kZ b;have I:=h.below G;rw[show 4+k*27=4+27*k by omega];refine bH (Vv s (s+1+5*k) (4+27*k) f.aT (M.out k) (W.drewN q) I.bY I.ow aj (I.out k J)) ?_;rintro t g;obtain⟨C,B,D,z,A⟩:=I.dD k J _ g;refine⟨rfl,M.dD k {M.out k with aT:=max (M.out k).aT f.aT},?_,C,B,D,z,(Kp.below G).trans A⟩;unfold av.fU;rw[aV (by rw[hk];decide),aV (by rw[hk];decide)];unfold av.take;rw[aV (by rw[hk];decide),aV (by rw[hk];decide),aV (by rw[hk];decide),aV (by rw[hk];decide),aV (by rw[hk];decide),aV (by rw[hk];decide),bM hk];have:f.aG.toNat=k:=aj;rw[this]
  clear h m u H r i o b p;generalize f.ranges.length=K at *
  unfold eF at *
  unfold fJ at n;rw[hk]at *
  generalize f.aG=st at *
  subst v;clear hk;go_enter func183,qpi;go_wp2;rw[<-n];clear n;go_region_with (go_at_call 237;refine bH (E.out _) ?_;rintro O y);all_goals(go_wp2;go_ret;exact⟨rfl,y.out⟩)
 ·exact XL f a c h u i hk
 ·exact XM f a c h u i hk
section
def mJ:av->List Fr->av->Prop
 |M,[],M1=>M1=M
 |M,f::t,M1=>∃a,M.fU f a 0/\mJ a t M1
def AP:∀(l:List Fr) {M X Y:av} (f:Fr),mJ M l X->X.fU f Y 0->mJ M (l++[f]) Y
 |[],M,X,Y,f,h,k=>by cases h;exact⟨Y,k,rfl⟩
 |g::t,M,X,Y,f,h,k=>by obtain⟨a,b,c⟩:=h;exact⟨a,b,AP t f c k⟩
def DY:∀(l:List Fr) {M X:av},mJ M l X->mH M l X 0
 |[],_,_,h=>⟨h,rfl⟩
 |f::t,_,_,⟨M2,h1,h2⟩=>⟨M2,0,h1,by rw[bM rfl];exact DY t h2⟩
structure AQ (oZ:Own) (s:Nat) (w:Wq) (fa:Option V3) (L:List FV):Prop where
 fv:yE w fa L
 fo:∀x,fa=some x->x.block<w.heap.size/\oZ x.block∉T0 s
 rg:∀j,j<L.length->jA w (L.getD j iP).2.1 (L.getD j iP).1.ranges/\(L.getD j iP).2.2.1=(L.getD j iP).1.ranges.length/\∀x,(L.getD j iP).2.1=some x->x.block<w.heap.size/\oZ x.block∉T0 s
def AQ.kp{L:List FV}(h:AQ oZ s w fa L)(K:Kp (T0 s) oZ aQ w w'):AQ aQ s w' fa L:=by
 refine⟨fun j d=>?_,fun x a=>?_,fun j d=>?_⟩;·obtain⟨b,f,e,c⟩:=h.fv j d;obtain⟨f1,f2⟩:=h.fo _ e;refine⟨b,f,e,fun i l=>?_⟩;rw[<-c i l];have:=K.bY b f1 f2;unfold kg;simp only[this]
 ·obtain⟨f1,f2⟩:=h.fo x a;exact⟨qm9 f1 K.size,by rw[K.ext _ f1];exact f2⟩
 ·obtain⟨c,k,g⟩:=h.rg j d;refine⟨c.of fun x a m=>K.bY _ m (g x a).2,k,fun x a=>?_⟩;obtain⟨f1,f2⟩:=g x a;exact⟨qm9 f1 K.size,by rw[K.ext _ f1];exact f2⟩
def fH.qjs{S:Nat}{M:av}{bw bl bi:Nat}(h:fH oZ s w S l M bw bl bi t)(x:NS)(q:Rl s (s+41) oZ S 225 l 8 w (x.fl,x.rs) w'):iE s oZ w S bw bl bi {M with aP:=x} w':=by
 obtain⟨i,g,r,K,o,b,k,m,n,p⟩:=q;have a:∀y,y∈[s,s+41]->y=s\/y=s+41:=fun y f=>by simpa using f
 have e:∀j,j<225\/228<=j->g[j]?=l[j]?:=fun j d=>b.2 j aj;have c:=h.cells;refine⟨i,g,r,⟨by rw[K.ext S h.bY.lt,h.ow],h.s0,o,⟨b.1.trans c.len,(e _ aj).trans c.c0,(e _ aj).trans c.c1,(e _ aj).trans c.c2,(e _ aj).trans c.c3,(e _ aj).trans c.qU,c.gr.dW b aj,k,m,n,(e _ aj).trans c.nH,(e _ aj).trans c.n_,(e _ aj).trans c.oM,(e _ aj).trans c.rV,(e _ aj).trans c.nJ,(e _ aj).trans c.jd,(e _ aj).trans c.qA,(e _ aj).trans c.pR,(e _ aj).trans c.qV,(e _ aj).trans c.rW,(e _ aj).trans c.oO,(e _ aj).trans c.tY⟩,fun j d=>?_,fun j d=>?_,p,h.Ay.kp K (fun e=>bR (a _ e)) (fun e=>bR (a _ e)),h.b_.kp K (fun e=>bR (a _ e)) (fun e=>bR (a _ e)),(h.qu.kp K (fun e=>bR (a _ e)) (fun e=>bR (a _ e)) (fun e=>bR (a _ e))).eq rfl,h.lo,h.li⟩,K.mono fun y f=>fC.2 (bR (a y f))⟩;·exact(h.out j d).kp K (fun e=>bR (a _ e)) (fun e=>bR (a _ e)) (fun e=>bR (a _ e)) b aj
 ·exact(h.cK j d).kp K (fun e=>bR (a _ e)) (fun e=>bR (a _ e)) b aj
def fH.ans{S:Nat}{M:av}{bw bl bi:Nat}{b:WA}(h:fH oZ s w S l M bw bl bi b)(n:Bool)(q:f_ w w' S l l' 228 1)(a:l'[228]?=some (.bool n)):iE s oZ w S bw bl bi {M with bI:=n} w':=by have c:=h.cells;have e:∀j,j≠228->l'[j]?=l[j]?:=fun j d=>q.dW.2 j aj;exact h.cell 228 1 aj q ⟨q.dW.1.trans c.len,(e _ aj).trans c.c0,(e _ aj).trans c.c1,(e _ aj).trans c.c2,(e _ aj).trans c.c3,(e _ aj).trans c.qU,c.gr.dW q.dW aj,(e _ aj).trans c.sP,(e _ aj).trans c.sQ,(e _ aj).trans c.pQ,a,(e _ aj).trans c.n_,(e _ aj).trans c.oM,(e _ aj).trans c.rV,(e _ aj).trans c.nJ,(e _ aj).trans c.jd,(e _ aj).trans c.qA,(e _ aj).trans c.pR,(e _ aj).trans c.qV,(e _ aj).trans c.rW,(e _ aj).trans c.oO,(e _ aj).trans c.tY⟩ rfl rfl rfl rfl rfl rfl rfl
def CmB.ok{c:NS}(h:CmB c):St.Rg.Ok 18446744073709551616 1000000 c.fl c.rs:=
 ⟨h.so,fun r a=>by have:=h.hi r a;unfold dH at this;omega,bR h.ln,by have:=h.fl;unfold dH at this;omega⟩
def Gg{M a:av}{e:Nat}(h:M.fU f a e):a.kW=M.kW:=by
 have d:∀(l:List Fr) (X:av),(l.foldl av.gN X).kW=X.kW:=fun l=>by
  induction l with
  |nil=>exact fun X=>rfl
  |cons f t g=>
   intro X;refine(g _).trans ?_;unfold av.gN;repeat' split
   all_goals rfl
 unfold av.fU at h;split at h
 ·split at h;·rw[h.1]
  ·obtain⟨⟨i,j,_,_,rfl⟩,_⟩:=h;exact(d _ _).trans rfl
 ·rename_i b;split at h;·obtain⟨v,rfl,_⟩:=h;unfold av.nE;split<;>rfl
  have c:a=(M.take f).1:=congrArg eT h;rw[c];unfold av.take av.nE;rw[aV b];repeat' split
  all_goals rfl
def DZ:∀(l:List Fr) {M X:av},mJ M l X->X.kW=M.kW
 |[],_,_,h=>by rw[h]
 |_::t,_,_,⟨_,h1,h2⟩=>(DZ t h2).trans (Gg h1)
def TA(oZ:Own)(s:Nat)(w:Wq)(S bw bl bi:Nat)(fa:Option V3)(L:List FV)(bv:bJ)(M':av)(y:Wq):Prop:=
 ∃a c b,fH a s y S c M' bw bl bi b/\a w.heap.size=0/\aL y w.heap.size 56 bv/\AQ a s y fa L/\Kp (T0 s) oZ a w y
section
variable {oZ:Own} {s:Nat} {w:Wq} {S bw bl bi:Nat} {fa:Option V3} {L:List FV} {bv:bJ} {M':av} {y y':Wq}
def TA.step{d:av}(h:TA oZ s w S bw bl bi fa L bv M' y)(k:∀b c l,fH b s y S c M' bw bl bi l->AQ b s y fa L->iE s b y S bw bl bi d y'):TA oZ s w S bw bl bi fa L bv d y':=by obtain⟨o,c,r,f,g,j,i,n⟩:=h;obtain⟨q,p,t,m,a⟩:=k o c r f i;have u:=f.s0;exact⟨q,p,t,m,by rw[a.ext _ j.lt,g],bU j a (by rw[g];exact fun e=>bR (fC.1 e)),i.kp a,n.trans a⟩
def TA.below(h:TA oZ s w S bw bl bi fa L bv M' y)(a:bE y y'):TA oZ s w S bw bl bi fa L bv M' y':=h.step fun _ _ _ g _=>iE.refl g a
def TA.kW(h:TA oZ s w S bw bl bi fa L bv M' y)(d:M'.kW=0):y.cell? (ay S 238)=some (iZ 0)/\y.frozen? (ay S 238)=false/\TA oZ s w S bw bl bi fa L bv M' (y.setCell (ay S 238) (iZ 0))/\(y.setCell (ay S 238) (iZ 0)).cell? (ay S 238)=some (iZ ((0:Nat):Int)):=by
 have g:TA oZ s w S bw bl bi fa L bv M' (y.setCell (ay S 238) (iZ 0)):=h.step fun o b e a _=>by
  have c:b[238]?=some (iZ 0):=by rw[a.cells.oO,d];rfl
  have q:=f_.one a.bY 238 (iZ 0) 238 1 (qj _) aj;rw[KV b 238 _ c]at q;exact a.cell 238 1 aj q a.cells rfl rfl rfl rfl rfl rfl rfl
 obtain⟨o,b,e,a,_⟩:=h;refine⟨by rw[a.bY.cell,a.cells.oO,d];rfl,a.bY.frozen 238,g,?_⟩;obtain⟨o,b,e,a,_⟩:=g;rw[a.bY.cell,a.cells.oO,d]
end


def wp_cut{c:Code}{K:Act->Wq->Prop}{Q':Exit->Act->Wq->Prop}{a:Act}(act:Act)(R:Wq->Prop)(h:c.wp prog (Exit.then (fun f d=>f=act/\R d) fun _ _ _=>False) a w)(j:∀d,R d->K act d):c.wp prog (Exit.then K Q') a w:=
 wp_mono h fun e f d b=>by
  cases e with
  |normal=>obtain⟨rfl,g⟩:=b;exact j _ g
  |ret=>exact b.elim
  |exit i=>exact b.elim
  |goto i=>exact b.elim
  |panic c=>exact b.elim
  |outgrown=>exact b.elim
def Ox{S:Nat}{M:av}{bw bl bi:Nat}(n:Nat)(L:List FV)(A:Nat)(h:fH oZ s w S l M bw bl bi vc)(hb:Bd M)(hn:n<=dH)(hH:AQ oZ s w fa L)(hl:L.length<=1000000)(hy:M.kW=0)(hC:∀k j,j<L.length->mJ {M with aP:=M.aP.add 8 n n,bI:=M.bI||fD (L.map eT)} ((L.map eT).take j) k->FrC k (L.getD j iP).1/\Bd k/\k.next<=dH):WB prog 138 #[aJ S 0,.agg #[uZ n,.slice fa L.length A]] w fun e w'=>e=.returned .nilIface/\∃E,mJ {M with aP:=M.aP.add 8 n n,bI:=M.bI||fD (L.map eT)} (L.map eT) E/\iE s oZ w S bw bl bi E w':=by
 have hv:=h.s0;obtain⟨W,hW⟩:=bT (w.alloc (.cells #[uZ n,.slice fa L.length A] 56));have p:bE w W:=by rw[hW];exact(qlw _ w).alloc (qj _) _
 obtain⟨bv,u⟩:=bT ([uZ n,.slice fa L.length A]:bJ);have h6:TA oZ s w S bw bl bi fa L bv M W:=by have K:Kp [] oZ (loc oZ w.heap.size) w W:=⟨p.os,p.tape,p.output,p.size,fun x d _=>p.block x d,fun x d=>jo _ _ _ d⟩;exact⟨loc oZ w.heap.size,l,vc,h.kp K aM,iY _ _ _ (qj _),by rw[hW,u];exact aL.new w 56 _,hH.kp (K.mono aM),K.mono aM⟩
 obtain⟨E,H⟩:∃E:av,E={M with aP:=M.aP.add 8 n n}:=⟨_,rfl⟩;obtain⟨P,I⟩:=bT (fD (L.map eT));obtain⟨F,t⟩:∃F:av,F={M with aP:=M.aP.add 8 n n,bI:=M.bI||P}:=⟨_,rfl⟩;have HA:Hid (∀q,qH 127 #[aJ S 225,uZ n,uZ n] (W.drewN q) (.tuple #[]) fun c=>TA oZ s w S bw bl bi fa L bv E c):=fun q=>by
  have h7:TA oZ s w S bw bl bi fa L bv M (W.drewN q):=h6.below ⟨rfl,rfl,rfl,qj _,fun _ _=>rfl⟩;have hw:=h7;obtain⟨o,J,O,a,B,d,r,G⟩:=h7;refine bH (PG s (s+41) 225 n n 8 M.aP.fl (W.drewN q) a.bY a.ow a.cells.sP a.cells.sQ a.cells.pQ a.row hb.cm.ok (by unfold dH at hn;omega)) ?_;rintro c g;refine⟨rfl,?_⟩;have hq:iE s o (W.drewN q) S bw bl bi E c:=by rw[H];exact a.qjs (M.aP.add 8 n n) g
  obtain⟨o2,l2,v2,g1,g2⟩:=hq;exact⟨o2,l2,v2,g1,by rw[g2.ext _ d.lt,B],bU d g2 (by rw[B];exact fun e=>bR (fC.1 e)),r.kp g2,G.trans g2⟩
 have HS:Hid (∀c,TA oZ s w S bw bl bi fa L bv E c->c.cell? (ay S 228)=some (.bool M.bI)/\c.frozen? (ay S 228)=false/\c.cell? (ay w.heap.size 1)=some (.slice fa L.length A)/\yE c fa L/\TA oZ s w S bw bl bi fa L bv F (c.setCell (ay S 228) (.bool (M.bI||P)))/\(c.setCell (ay S 228) (.bool (M.bI||P))).cell? (ay w.heap.size 1)=some (.slice fa L.length A)):=fun c hT=>by
  have g:TA oZ s w S bw bl bi fa L bv F (c.setCell (ay S 228) (.bool (M.bI||P))):=hT.step fun o J O a _=>by have:=a.ans (M.bI||P) (f_.one a.bY 228 (.bool (M.bI||P)) 228 1 (qj _) aj) (cB J 228 _ _ a.cells.nH);rw[H]at this;rw[t];exact this
  obtain⟨o,J,O,a,B,d,r,G⟩:=hT;rw[u]at d;have nH:=a.cells.nH;rw[H]at nH;refine⟨by rw[a.bY.cell];exact nH,a.bY.frozen 228,d.cell 1,r.fv,g,?_⟩;obtain⟨o,J,O,a,B,d,r,G⟩:=g;rw[u]at d;exact d.cell 1
 have h9:F.kW=0:=by rw[t];exact hy
 rw[<-I,<-t]at hC;rw[<-I,<-t];obtain⟨fs,X⟩:=bT (L.map eT);rw[<-X]at hC ⊢;have HC:=aF hC;have UD:=aF (dw X (dw I h9));have hc:=aF u;clear h hb hH h6 hC H t p X I h9 hy u;have hk:W.cell? (ay w.heap.size 0)=some (uZ n):=by rw[hW];exact(aL.new w 56 [uZ n,.slice fa L.length A]).cell 0
 go_enter func138,ntmps138;go_wp2;rw[<-hW];clear hW;refine wp_cut {tmps:=#[aJ S 0,.agg #[uZ n,.slice fa L.length A],Vh,aJ w.heap.size 0,.nilIface,Vh,Vh,aJ S 0,aJ S 0,aJ S 225,aJ w.heap.size 0,uZ n,aJ w.heap.size 0,uZ n,.tuple #[],Vh,Vh,Vh,Vh,Vh,Vh,Vh,Vh,Vh,Vh,Vh,Vh,Vh,Vh,Vh,Vh,Vh,Vh,Vh,Vh,Vh,Vh,Vh,Vh,Vh,Vh,Vh,Vh,Vh,Vh,Vh,Vh,Vh,Vh],defers:=[]} (fun c=>TA oZ s w S bw bl bi fa L bv E c) ?_ (fun c m=>?_);·go_region_with (go_at_call 127;refine bH (HA.out _) ?_;rintro c m);all_goals exact⟨rfl,m⟩
 obtain⟨k1,k2,k3,k4,k5,k6⟩:=HS.out c m;have HW:Hid (qH 182 #[.slice fa L.length A] c (.bool P) fun C=>bE c C):=by rw[UD.out.2.1];exact FD fa L A c aj k4
 have R:Hid (∀C,bE c C->C.frozen? (ay S 228)=false/\C.cell? (ay S 228)=some (.bool M.bI)/\TA oZ s w S bw bl bi fa L bv F (C.setCell (ay S 228) (.bool (M.bI||P)))):=fun C V=>by obtain⟨a1,a2,a3,a4,a5,a6⟩:=HS.out C (m.below V);exact⟨a2,a1,a5⟩
 have he:=aF m;clear HS k4 k5 k6 m HA hk;have Q:Hid (∀w3,TA oZ s w S bw bl bi fa L bv F w3->w3.cell? (ay w.heap.size 1)=some (.slice fa L.length A)):=fun w3 hf=>by obtain⟨o,J,O,a,B,d,r,G⟩:=hf;rw[hc.out]at d;exact d.cell 1
 cases N:M.bI;case' false=>rw[N]at R k1;rw[Bool.false_or]at R;clear N;go_wp2_with (go_at_call 182;refine bH HW.out ?_;rintro C V;obtain⟨z1,z2,D⟩:=R.out C V;have h8:=Q.out _ D;have U:=aF D;clear D)
 case' true=>rw[N]at R k1;rw[Bool.true_or]at R;clear N;obtain⟨z1,z2,D⟩:=R.out c (qlw _ _);have h8:=Q.out _ D;have U:=aF D;clear D;go_wp2
 all_goals clear k1 k2 k3 R HW he Q
 all_goals go_loopw [30] (fun h0 wr=>∃(j:Nat) (k:av),j<=L.length/\h0=(iZ j)/\Hid (mJ F (fs.take j) k/\TA oZ s w S bw bl bi fa L bv k wr)) (fun h0 _=>L.length-(eB h0).toNat)
 all_goals first|exact⟨0,F,qm2 _,rfl,⟨rfl,U.out⟩⟩|skip
 all_goals
  obtain⟨j,k,hj,rfl,T⟩:=hrel;clear U h8;by_cases v:j<L.length
  ·have hu:(j:Int)<(L.length:Int):=aj;have hm:∃b Z,fa=some (ay b Z)/\∀i,i<10->wr.cell? (ay b (Z+j*10+i))=(fJ (L.getD j iP).1 (qx (L.getD j iP)))[i]?:=by
    obtain⟨o,J,O,a,B,d,r,G⟩:=T.out.2;exact r.fv j v
   obtain⟨b,Z,ha,z⟩:=hm;obtain⟨W5,xP⟩:=bT (wr.alloc (.cells (fJ (L.getD j iP).1 (qx (L.getD j iP))).toArray 65));have BJ:Hid (qH 183 #[aJ S 0,eF (L.getD j iP).1 (qx (L.getD j iP))] W5 (iZ 0) fun w6=>∃M',(k.fU (L.getD j iP).1 M' 0/\M'.kW=0)/\TA oZ s w S bw bl bi fa L bv M' w6):=by have hg:TA oZ s w S bw bl bi fa L bv k W5:=T.out.2.below (by rw[xP];exact(qlw _ wr).alloc (qj _) _);obtain⟨o,J,O,a,B,d,r,G⟩:=hg;obtain⟨c1,c2,c3⟩:=HC.out k j v T.out.1;obtain⟨g1,g2,g3⟩:=r.rg j v;have kI:k.kW=0:=(DZ _ T.out.1).trans UD.out.2.2;unfold qx;rw[g2];refine bH (qav (L.getD j iP).1 (L.getD j iP).2.1 (L.getD j iP).2.2.2 a c2 c1 g1 (fun x d=>(g3 x d).2) c3) ?_;rintro w6 ⟨M',t1,t2⟩;have hs:=a.s0;obtain⟨o2,l2,v2,g4,g5⟩:=t2;exact⟨rfl,M',⟨t1,(Gg t1).trans kI⟩,o2,l2,v2,g4,by rw[g5.ext _ d.lt,B],bU d g5 (by rw[B];exact fun e=>bR (fC.1 e)),r.kp g5,G.trans g5⟩
   have P5:Hid (fs.take (j+1)=fs.take j++[(L.getD j iP).1]):=by show fs.take (j+1)=_;rw[UD.out.1,qnh,qn8,qm3 v,qly,qm3 v];rfl
   subst ha;have c0:=z 0 aj;have c1:=z 1 aj;have c2:=z 2 aj;have c3:=z 3 aj;have c4:=z 4 aj;have c5:=z 5 aj;have c6:=z 6 aj;have c7:=z 7 aj;have c8:=z 8 aj;have c9:=z 9 aj;clear z;generalize L.getD j iP=FF at *
   obtain⟨f,r1,r2,r3⟩:=FF;unfold eF at BJ;unfold fJ at xP;simp only[qx,qml,qma,qnl]at c0 c1 c2 c3 c4 c5 c6 c7 c8 c9 BJ xP;go_wp2_with (first|(go_at_call 183;rw[<-xP];refine bH BJ.out ?_;rintro w6 ⟨M',Y,h5⟩;obtain⟨z1,z2,D,z4⟩:=h5.kW Y.2;have HZ:=aF (dw Y.1 D);clear D h5 Y)|(go_at_call 137;refine bH (vD S 0 _ z4) ?_;rintro w7 ho;have hr:=ho.symm;subst hr));go_roundw;case rel=>exact⟨j+1,M',aj,aM,⟨by rw[P5.out];exact AP _ _ T.out.1 HZ.out.1,HZ.out.2⟩⟩
   case measure=>simp[eB];omega
  ·obtain rfl:j=L.length:=aj;go_wp2;go_ret;refine⟨rfl,k,?_,?_⟩;·have:=T.out.1;rw[UD.out.1,qmo aM]at this;rw[UD.out.1];exact this
   ·obtain⟨o,J,O,a,B,d,r,G⟩:=T.out.2;exact⟨o,J,O,a,G⟩
end
def TL{A B:av}(h:qQ A B f)(c:snd f=true):qQ A B (norm f):=by
 have e:=norm_eq f c;rcases h with⟨k,a,b⟩|⟨k,a,b,h3⟩|⟨k,a⟩|⟨k,a,b,h3⟩|⟨k,a,b,h3⟩|h;·rw[e,aV aj,bM k];exact .inl ⟨rfl,a,b⟩
 ·rw[e,aV aj,aV aj,aV aj,bM k];exact .inr (.inl ⟨rfl,a,b,h3.e,h3.b,h3.d,h3.bG,h3.ne⟩)
 ·rw[e,aV aj,aV aj,aV aj,aV aj,bM k];exact .inr (.inr (.inl ⟨rfl,a⟩))
 ·rw[e,aV aj,aV aj,aV aj,aV aj,aV aj,bM k];exact .inr (.inr (.inr (.inl ⟨rfl,a,b,h3⟩)))
 ·rw[e,aV aj,aV aj,bM k];exact .inr (.inr (.inr (.inr (.inl ⟨rfl,a,b,h3.g,h3.fo,h3.r,h3.m⟩))))
 ·have k:=h.kd;rw[e,aV aj,aV aj,aV aj,aV aj,aV aj,aV aj,bM k];exact .inr (.inr (.inr (.inr (.inr ⟨rfl,h.i,h.d,h.s⟩))))
def TM(f:Fr)(a:snd f=true):norm (norm f)=norm f:=by have b:=norm_eq f a;have c:=norm_eq (norm f) (Db f a);rw[kL f a]at c;rw[c];rcases pX a with k|k|k|k|k|k|k|k<;>rw[k]at b ⊢<;>rw[b]<;>rfl
structure Mw (bF:Nat) (A B:av) (y:Nat×List Fr):Prop where
 dec:qZ true y.1 y.2 (bP y.1 y.2)
 nm:y.2.map norm=y.2
 ln:y.2.length<=400
 sz:(bP y.1 y.2).length<=bF
 ps:0<(bP y.1 y.2).length
 lt:y.1<A.next
 fr:∀f∈y.2,qQ A B f
def Mw.mono{b:Nat}{A B A' a:av}{y:Nat×List Fr}(h:Mw b A B y)(c:EH A A')(d:EH B a):Mw b A' a y:=
 ⟨h.dec,h.nm,h.ln,h.sz,h.ps,qm9 h.lt c.next,fun f e=>(h.fr f e).mono c d⟩
structure PkC (bF:Nat) (y:Nat×List Fr):Prop where
 dec:qZ true y.1 y.2 (bP y.1 y.2)
 nm:y.2.map norm=y.2
 ln:y.2.length<=400
 sz:(bP y.1 y.2).length<=bF
 ps:0<(bP y.1 y.2).length
def IK{c:Nat}{x:Nat×List Fr}(h:PkF c x):PkC c (x.1,x.2.map norm)/\bP x.1 (x.2.map norm)=bP x.1 x.2:=by
 obtain⟨k,o,e⟩:=XO x.1 x.2 h.sn;obtain⟨l,m,n⟩:=D5 k;have a:=sW x.1 x.2;refine⟨⟨?_,?_,?_,?_,?_⟩,e⟩
 ·unfold qZ;rw[bM rfl];refine⟨by show x.1<_;unfold dH at m;omega,fun j i=>⟨l j i,?_⟩,n,by have:=h.ln;show(x.2.map norm).length<=_;rw[qmc];omega,rfl⟩;have b:j<x.2.length:=by simpa using i
  show lX ((x.2.map norm).getD j iL);rw[qly,qn8,qm3 b];have g:=h.fs _ (qmz b);exact P8 _ g.sn g.ok
 ·show(x.2.map norm).map norm=x.2.map norm;rw[List.map_map];exact qps fun f d=>TM f (h.fs f d).sn
 ·show(x.2.map norm).length<=400;rw[qmc];exact h.ln
 ·show(bP x.1 (x.2.map norm)).length<=c;rw[e,a];exact h.sz
 ·show 0<(bP x.1 (x.2.map norm)).length;rw[e,a];omega
def qax{b:Nat}{A B:av}{x:Nat×List Fr}(h:PkF b x)(i:x.1<A.next)(e:∀f∈x.2,qQ A B f):Mw b A B (x.1,x.2.map norm):=by obtain⟨c,_⟩:=IK h;refine⟨c.dec,c.nm,c.ln,c.sz,c.ps,i,fun f a=>?_⟩;obtain⟨g,d,rfl⟩:=qmk.1 a;exact TL (e g d) (h.fs g d).sn
structure Gm where
 id:Nat
 dl:Nat
 data:ByteArray
 aP:Bool
def vN:Gm:=⟨0,0,⟨#[]⟩,false⟩
structure Net where
 x:Nat->av
 dI:List (Nat×Nat×List Fr)
 now:Nat
 kS:Nat->Nat
 gv:Nat->WA
 gr:Nat->List Gm
 nx:Nat->Nat
def Net.dA(n:Net)(i:Nat)(M:av):Net:={n with x:=fun j=>if j=i then M else n.x j}
structure gI (bF:Nat) (n:Net):Prop where
 loc:∀i,i<2->gM (n.x i)
 two:∀i,i<2->eH (n.x i) (n.x (1-i))
 bd:∀i,i<2->Bd (n.x i)
 mt:∀i,i<2->(n.x i).bF=bF
 ct:∀i,i<2->n.kS i=(n.x i).next
 dI:∀y∈n.dI,y.1<2/\Mw bF (n.x (1-y.1)) (n.x y.1) y.2
def fV(n:Net)(i:Nat)(M:av):(n.dA i M).x i=M:=bM rfl
def iH(n:Net)(i j:Nat)(M:av)(h:j≠i):(n.dA i M).x j=n.x j:=aV h
def gI.uS{n:Net}(h:gI a n)(i:Nat)(b:i<2):eH (n.x (1-i)) (n.x i):=by have:=h.two (1-i) aj;rwa[show 1-(1-i)=i by omega]at this
def gI.set{n:Net}(h:gI g n)(i:Nat)(p:i<2)(M:av)(s:rH (n.x i) (n.x (1-i)) M)(b:Bd M)(m:M.bF=(n.x i).bF)(c:Nat->Nat)(k:∀j,j<2->c j=if j=i then M.next else n.kS j):gI g {n.dA i M with kS:=c}:=by
 have f:(n.dA i M).x (1-i)=n.x (1-i):=iH _ _ _ _ aj;have d:∀j,j<2->j=i\/j=1-i:=fun j d=>aj;have o:∀j,EH (n.x j) ((n.dA i M).x j):=fun j=>by
  by_cases e:j=i;·rw[e,fV];exact s.le
  ·rw[iH _ _ _ _ e];exact EH.refl _
 refine⟨fun j a=>?_,fun j a=>?_,fun j a=>?_,fun j a=>?_,fun j a=>?_,fun y l=>⟨(h.dI y l).1,(h.dI y l).2.mono (o _) (o _)⟩⟩
 ·rcases d j a with rfl|rfl;·show gM ((n.dA _ M).x _);rw[fV];exact s.loc
  ·show gM ((n.dA i M).x (1-i));rw[f];exact h.loc _ a
 ·rcases d j a with rfl|rfl;·show eH ((n.dA j M).x j) ((n.dA j M).x (1-j));rw[fV,f];exact s.ab
  ·show eH ((n.dA i M).x (1-i)) ((n.dA i M).x (1-(1-i)));rw[show 1-(1-i)=i by omega,fV,f];exact s.ba
 ·rcases d j a with rfl|rfl;·show Bd ((n.dA _ M).x _);rw[fV];exact b
  ·show Bd ((n.dA i M).x (1-i));rw[f];exact h.bd _ a
 ·rcases d j a with rfl|rfl;·show((n.dA _ M).x _).bF=g;rw[fV,m];exact h.mt _ a
  ·show((n.dA i M).x (1-i)).bF=g;rw[f];exact h.mt _ a
 ·rcases d j a with rfl|rfl
  ·show c _=((n.dA _ M).x _).next
   rw[fV,k _ a,bM rfl]
  ·show c _=((n.dA i M).x (1-i)).next
   rw[f,k _ a,aV aj];exact h.ct _ a
def gI.add{n:Net}(h:gI a n)(l:List (Nat×Nat×List Fr))(b:∀y∈l,y.1<2/\Mw a (n.x (1-y.1)) (n.x y.1) y.2):gI a {n with dI:=n.dI++l}:=
 ⟨h.loc,h.two,h.bd,h.mt,h.ct,fun y c=>(qm7.1 c).elim (h.dI y) (b y)⟩
def gI.sub{n:Net}(h:gI a n)(l:List (Nat×Nat×List Fr))(b:∀y∈l,y∈n.dI)(t:Nat):gI a {n with dI:=l,now:=t}:=
 ⟨h.loc,h.two,h.bd,h.mt,h.ct,fun y c=>h.dI y (b y c)⟩
def Net.new(b a c:Nat):Net:=⟨fun _=>av.new b a c,[],0,fun _=>0,fun _=>nZ,fun _=>[],fun _=>0⟩
def D6(a b c:Nat)(d:64<=a/\a<=400)(f:b<=4096)(e:c<=4096):gI a (Net.new a b c):=
 ⟨fun _ _=>ZQ a b c (by unfold dH;omega) (by unfold dH;omega),fun _ _=>ZR a b c,fun _ _=>qex a b c d f e,fun _ _=>rfl,fun _ _=>rfl,fun y g=>by cases g⟩
def Gi(n:Nat):1<=(Num.aB n).length:=by rw[Num.iQ];exact Nat.one_le_two_pow
def KY(rs:bZ):∀k,k<=(jc rs k).length
 |0=>qm2 _
 |k+1=>by rw[jc,qm0,qm0];have:=KY rs k;have:=Gi ((rs.getD k (0,0)).1-(rs.getD (k+1) (0,0)).2-2);omega
def qf6(f:Fr)(h:f.aD=2):f.ranges.length<=(aX f).length:=by
 have e:aX f=[]++[UInt8.ofNat 2]++gV f.ranges:=by unfold aX dz;rw[aV aj,bM h];rfl
 rw[e];unfold gV kH;have:=KY f.ranges (f.ranges.length-1);have:=Gi (f.ranges.getD 0 (0,0)).2;simp only[qm0];omega
def Qt:∀(l:List Fr) (f:Fr),f∈l->(aX f).length<=Qe l
 |g::t,f,h=>by
  have e:Qe (g::t)=(aX g).length+Qe t:=by simp[Qe]
  rcases qme.1 h with rfl|h;·omega
  ·have:=Qt t f h;omega
def Mw.qO{A B:av}(h:Mw a A B y)(g:a<=400):∀f∈y.2,f.aD=2->f.ranges.length<=1000000:=fun f c k=>by have d:=qf6 f k;have e:=Qt _ f c;have b:=h.sz;rw[sW,wH]at b;omega
def qf7{A B:av}(i:gM A)(b:gM B)(g:eH A B)(h:eH B A)(a:qQ B A f)(j:f.aD=2->f.ranges.length<=1000000)(c:A.eP.length<=1000000):FrC A f:=by
 refine⟨a.kd,fun k=>?_,fun k=>?_,fun k=>?_,fun k=>?_,fun k=>?_,fun k=>(G7 i b g h f a).1⟩
 ·rcases a with⟨_,p,q⟩|⟨e,_⟩|⟨e,_⟩|⟨e,_⟩|⟨e,_⟩|e;·exact⟨List.length_pos_iff.2 p,j k,q⟩
  ·omega
  ·omega
  ·omega
  ·omega
  ·have:=e.kd;omega
 ·rcases a with⟨e,_⟩|⟨_,p,q,_⟩|⟨e,_⟩|⟨_,p,q,_⟩|⟨_,p,q,_⟩|e;·omega
  ·exact⟨p,q⟩
  ·omega
  ·exact⟨p,q⟩
  ·exact⟨p,q⟩
  ·have:=e.kd;omega
 ·rcases a with⟨e,_⟩|⟨_,p,q,d⟩|⟨e,_⟩|⟨e,_⟩|⟨e,_⟩|e;·omega
  ·exact qlz d.b (b.wr _).sz
  ·omega
  ·omega
  ·omega
  ·have:=e.kd;omega
 ·rcases a with⟨e,_⟩|⟨e,_⟩|⟨e,_⟩|⟨e,_⟩|⟨_,p,q,d⟩|e;·omega
  ·omega
  ·omega
  ·omega
  ·have w:=b.wr f.aG.toNat;exact⟨by rw[d.fo];exact qlz (w.gv d.g).2.2 w.sz,d.m⟩
  ·have:=e.kd;omega
 ·rcases a with⟨e,_⟩|⟨e,_⟩|⟨e,_⟩|⟨e,_⟩|⟨e,_⟩|e;·omega
  ·omega
  ·omega
  ·omega
  ·omega
  ·exact⟨e,c⟩
def Gj:∀(a:List Fr) {A B A':av},gM A->gM B->eH A B->eH B A->Bd A->Bd B->(∀f∈a,qQ B A f)->mJ A a A'->rH A B A'/\Bd A'/\A'.next=A.next
 |[],A,B,A',hA,hB,h1,h2,bA,bB,_,h=>by cases h;exact⟨kE hA h1 h2,bA,rfl⟩
 |f::t,A,B,A',hA,hB,h1,h2,bA,bB,hf,h=>by obtain⟨j,r,h⟩:=h;obtain⟨_,s,b,n,m⟩:=KJ hA hB h1 h2 bA bB f (hf f aM) r;obtain⟨i,c,e⟩:=Gj t s.loc hB s.ab s.ba b bB (fun g d=>(hf g (by simp[d])).mono (EH.refl _) s.le) h;exact⟨s.trans i,c,e.trans n⟩
def XP(M:av)(f:Fr):(M.gN f).eP=M.eP:=by
 unfold av.gN;repeat' split
 all_goals rfl
def Qu(g:av->Fr->av)(a:∀A f,(g A f).eP=A.eP):∀(l:List Fr) (A:av),(l.foldl g A).eP=A.eP
 |[],_=>rfl
 |f::t,A=>(Qu g a t (g A f)).trans (a A f)
def XQ{A A':av}{l:bZ}(h:A.tN l A'):A'.eP=A.eP:=by obtain⟨a,b,_,_,rfl⟩:=h;exact Qu _ XP _ _
def qay(A:av)(f:Fr)(a:f.aD≠2)(b:f.aD≠7):(A.take f).1.eP=A.eP:=by
 unfold av.take;rw[aV a];repeat' split
 all_goals first|rfl|(exfalso;omega)
def Oy{A A':av}{e:Nat}(h:A.fU f A' e):A'.eP.length<=A.eP.length+1:=by
 unfold av.fU at h;split at h
 ·split at h;·rw[h.1];omega
  ·rw[XQ h.1];omega
 ·rename_i b;split at h
  ·obtain⟨v,rfl,_⟩:=h;unfold av.nE;split;·show A.eP.length<=_;omega
   ·show(A.eP++[_]).length<=_;simp
  ·rename_i c;have a:A'=(A.take f).1:=congrArg eT h;rw[a,qay A f b c];omega
def uT:∀(a:List Fr) {A A':av},mJ A a A'->A'.eP.length<=A.eP.length+a.length
 |[],A,A',h=>by cases h;exact qj _
 |f::t,A,A',h=>by obtain⟨b,r,h⟩:=h;have c:=Oy r;have d:=uT t h;simp only[qmp];omega
def qhk{i:Nat}{A B:av}(q:gM A)(k:gM B)(o:eH A B)(p:eH B A)(a:Bd A)(n:Bd B)(h:Mw i B A y)(w:B.next<=dH)(e:A.next<=dH)(f:i<=400)(u:A.eP.length+y.2.length<=1000000):∀c j,j<y.2.length->mJ {A with aP:=A.aP.add 8 y.1 y.1,bI:=A.bI||fD y.2} (y.2.take j) c->FrC c (y.2.getD j iL)/\Bd c/\c.next<=dH:=by
 intro c j t l;have s:=J8 q o p y.1 h.lt (A.bI||fD y.2);obtain⟨d,m,v⟩:=Gj (y.2.take j) s.loc k s.ab s.ba (A:={A with aP:=A.aP.add 8 y.1 y.1,bI:=A.bI||fD y.2})
  ⟨a.o,a.i,a.g,a.lm,a.mt,a.wy,a.ls,a.ky,a.wl,a.ll,a.nm,Qg a.cm y.1 (bR h.lt),a.tk,a.ib⟩ n (fun g r=>(h.fr g (qn2 r)).mono (EH.refl _) s.le) l
 have b:y.2.getD j iL∈y.2:=by rw[qly,qm3 t];exact qmz _
 exact⟨qf7 d.loc k d.ab d.ba ((h.fr _ b).mono (EH.refl _) (s.trans d).le) (h.qO f _ b) (by have:=uT _ l;rw[qm8]at this;dsimp only at this;omega),m,by rw[v];exact e⟩
def qb5{B:Nat}{C:WA}{d:List Fr}{g:Nat->WA}(h:yw B w C d g d.length)(r:∀j,j<d.length->lX (d.getD j iL))(oZ:Own)(s:Nat)(H:0<s)(A:∀b,B<=b->oZ b=0):∃l m,∃L:List FV,C=.slice l L.length m/\L.map eT=d/\AQ oZ s w l L:=by
 obtain⟨l,m,rfl,hF⟩:=h.O_ r;have u:(0:Nat)∉T0 s:=fun e=>bR (fC.1 e);obtain⟨L,p⟩:=bT ((List.range d.length).map fun j=>(d.getD j iL,U8 (g j),(d.getD j iL).ranges.length,Zp (g j)):List FV);have q:L.length=d.length:=by rw[p];simp
 have z:∀j,j<d.length->L.getD j iP=(d.getD j iL,U8 (g j),(d.getD j iL).ranges.length,Zp (g j)):=fun j f=>by rw[p,qly,qn8,List.getElem?_range f];rfl
 have F:L.map eT=d:=by rw[p,List.map_map];refine qpx aM fun j v y=>?_;simp[qly,y]
 refine⟨l,m,L,by rw[q],F,⟨M7.qiv hF.weak L q z,fun x n=>?_,fun j f=>?_⟩⟩;·subst n;have i:(Value.slice (some x) d.length m).ownBlock=some x.block:=rfl;exact⟨h.buf.lt _ i,by rw[A _ (h.own _ i)];exact u⟩
 ·rw[q]at f;rw[z j f];obtain⟨b,G,_,v,y,E⟩:=hF j f;obtain⟨D,o,_⟩:=h.qO j f;refine⟨v.qO,rfl,fun x n=>⟨E x n,?_⟩⟩;obtain⟨a,c,e,_⟩:=D.shape;have k:U8 (g j)=some x:=n;rw[e]at k o;have t:a=some x:=k;rw[t]at o;rw[A _ (o x.block rfl)];exact u
def Oz{S:Nat}{M:av}{bw bl bi:Nat}(n:Nat)(d:List Fr)(Y yo cap:Nat)(h:fH oZ s w S l M bw bl bi vc)(Q:Bd M)(W:M.kW=0)(hn:n<=dH)(P:qZ true n d lb)(U:d.map norm=d)(h4:d.length<=1000000)(R:dG w (some (ay Y yo)) lb)(C:lb.length<=1000000000)(m:lb.length<=cap)(B:cap<=9223372036854775807)(X:Y<w.heap.size)(hT:kU w)(h2:2<=w.heap.size)(hC:∀H j,j<d.length->mJ {M with aP:=M.aP.add 8 n n,bI:=M.bI||fD d} (d.take j) H->FrC H (d.getD j iL)/\Bd H/\H.next<=dH):WB prog 104 #[aJ S 0,.slice (some (ay Y yo)) lb.length cap] w fun e J=>e=.returned .nilIface/\∃o,M.ji n d o 0/\iE s oZ w S bw bl bi o J:=by
 have HO:=aF (vD S M.kW w (by rw[h.bY.cell];exact h.cells.oO));rw[W]at HO;have V:∀j,j<d.length->lX (d.getD j iL):=fun j hj=>by unfold qZ at P;rw[bM rfl]at P;exact(P.2.1 j hj).2
 have N:Hid (WB prog 69 #[.slice (some (ay Y yo)) lb.length cap] w fun e f=>∃t u,∃L:List FV,e=.returned (.tuple #[.agg #[uZ n,.slice t L.length u],.nilIface])/\Hid (L.map eT=d/\∃z,fH z s f S l M bw bl bi vc/\AQ z s f t L/\Kp [] oZ z w f)):=by refine(qh true n d Y yo cap P R C m B X hT h2).mono ?_;rintro e f ⟨sv,h6,rfl,hR,k⟩;unfold pY at hR;rw[bM rfl]at hR;obtain⟨rfl,v9,hc⟩:=hR;rw[U]at hc;have K:Kp [] oZ (loc oZ w.heap.size) w f:=⟨k.os,k.tape,k.output,k.size,fun x hx _=>k.block x hx,fun x hx=>jo _ _ _ hx⟩;obtain⟨t,u,L,rfl,A,hH⟩:=qb5 hc V (loc oZ w.heap.size) s h.s0 (fun b Q=>iY _ _ _ aj);exact⟨t,u,L,rfl,A,_,h.kp K aM,hH,K⟩
 have qP:=aF (dw Q (dw W hC));clear h Q W P R C m B X hT h2 hC V U;generalize lb.length=ll at *
 go_enter func104,ntmps104;go_wp2_with (first|(go_at_call 137;refine bH HO.out ?_;rintro J E;have F:=E.symm;subst F)|(go_at_call 69;refine N.out.mono ?_;rintro e f ⟨t,u,L,rfl,Z⟩)|(go_at_call 71;refine bH (qaz _) ?_;rintro J E;have F:=E.symm;subst F));obtain⟨p,v⟩:=bT (f.alloc (.cells #[uZ n,.slice t L.length u] 56));have y:aL p f.heap.size 56 [uZ n,.slice t L.length u]:=by rw[v];exact aL.new f 56 _
 have g:bE f p:=by rw[v];exact(qlw _ f).alloc (qj _) _
 have x0:p.cell? (ay f.heap.size 0)=some (uZ n):=y.cell 0;have HH:Hid (∀q,qH 128 #[aJ S 225,uZ n] (p.drewN q) (.bool (M.aP.has n)) fun c=>bE p c):=fun q=>by obtain⟨A,z,O,g2,g3⟩:=Z.out;have i:fH z s (p.drewN q) S l M bw bl bi vc:=O.below (kZ g);refine bH (ZE (s+41) 225 n 8 M.aP.fl (p.drewN q) i.bY i.cells.sP i.cells.sQ i.cells.pQ i.row qP.out.1.cm.so (bR qP.out.1.cm.ln)) ?_;rintro c a;exact⟨rfl,nN a⟩
 have HT:Hid (∀c,bE p c->M.aP.has n=false->WB prog 138 #[aJ S 0,.agg #[uZ n,.slice t L.length u]] c fun e J=>e=.returned .nilIface/\∃o,M.ji n d o 0/\iE s oZ w S bw bl bi o J):=fun c a r=>by
  obtain⟨A,z,O,g2,g3⟩:=Z.out;obtain⟨Q,W,hC⟩:=qP.out;have I:bE f c:=g.trans (a.mono g.size);have h5:L.length=d.length:=by rw[<-A,qmc]
  refine(Ox n L u (O.below I) Q hn (g2.kp (Kp.below I)) (by rw[h5];exact h4) W (fun H j hj hr=>?_)).mono ?_
  ·rw[A]at hr;have:=hC H j aj hr;have e:(L.getD j iP).1=d.getD j iL:=by
    rw[<-A,qly,qly,qn8,qm3 hj];rfl
   rw[e];exact this
  ·rintro e J ⟨rfl,o,t1,o2,l2,v2,t2,t3⟩;rw[A]at t1;refine⟨rfl,o,?_,o2,l2,v2,t2,(g3.mono aM).trans ((Kp.below I).trans t3)⟩;unfold av.ji;rw[aV (by rw[r];simp)];exact DY d t1
 have HN:Hid (∀c,bE p c->M.aP.has n=true->∃o,M.ji n d o 0/\iE s oZ w S bw bl bi o c):=fun c a r=>by obtain⟨A,z,O,g2,g3⟩:=Z.out;have I:bE f c:=g.trans (a.mono g.size);refine⟨M,?_,z,l,vc,O.below I,(g3.mono aM).trans (Kp.below I)⟩;unfold av.ji;rw[bM r];exact⟨rfl,rfl⟩
 have h3:=aF y;have T:f.heap.size<p.heap.size:=y.lt;clear Z qP y g N HO;rw[<-v];clear v;cases r:M.aP.has n
 ·rw[r]at HH;have h0:=aF fun c a=>HT.out c a r;clear HT HN r;go_region_with (go_at_call 128;refine bH (HH.out _) ?_;rintro c a;have G:=h3.out.of_heap (a.block _ T);have y0:c.cell? (ay f.heap.size 0)=some (uZ n):=G.cell 0;have y1:c.cell? (ay f.heap.size 1)=some (.slice t L.length u):=G.cell 1;have D:=aF a;clear a G);all_goals(
   go_wp2_with (go_at_call 138;refine bH (h0.out _ D.out) ?_;rintro w4 HE;have HE:=aF HE);go_ret;exact⟨rfl,HE.out⟩)
 ·rw[r]at HH;have GD:=aF fun c a=>HN.out c a r;clear HT HN r;go_region_with (go_at_call 128;refine bH (HH.out _) ?_;rintro c a;have D:=aF a;clear a);all_goals(
   go_wp2;go_ret;exact⟨rfl,GD.out _ D.out⟩)
def D7(S:Nat)(l m cap:Nat)(z:w.cell? (ay S 238)=some (iZ ((0:Nat):Int)))(t:qZ false 0 [] lb)(j:dG w (some (ay l m)) lb)(c:lb.length<=1000000000)(a:lb.length<=cap)(b:cap<=9223372036854775807)(k:l<w.heap.size)(u:kU w)(s:2<=w.heap.size):qH 104 #[aJ S 0,.slice (some (ay l m)) lb.length cap] w (.iface 57 (iZ 7)) fun q=>bE w q:=by
 have v:=aF (vD S 0 w z);have y:∀w,(binOp .neq 94 (.iface 57 (iZ 7)) .nilIface).run prog w=.ok (.bool true) w:=fun _=>bO;have n:Hid (qH 69 #[.slice (some (ay l m)) lb.length cap] w (.tuple #[.agg #[uZ 0,nZ],.iface 57 (iZ 7)]) fun r=>bE w r):=by refine(qh false 0 [] l m cap t j c a b k u s).mono ?_;rintro e r ⟨B,x,rfl,o,p⟩;unfold pY at o;rw[aV gP]at o;obtain⟨_,rfl,rfl⟩:=o;exact⟨rfl,p⟩
 clear t j c a b k u s;generalize lb.length=A at *
 go_enter func104,ntmps104;go_wp2_with (first|(go_at_call 137;refine bH v.out ?_;rintro q d;have f:=d.symm;subst f)|(go_at_call 69;refine bH n.out ?_;rintro r i;have g:=aF i;clear i)|(go_at_call 71;refine bH (qb4 _) ?_;rintro q d;have f:=d.symm;subst f));go_ret;exact⟨rfl,g.out.alloc g.out.size _⟩
section
def ni(C S:Nat)(w:Wq)(hc:w.cell? (ay C 0)=some (aJ S 0)):qH 65 #[aJ C 0] w (aJ S 0) fun a=>a=w:=by go_enter func65,ntmps65;go_wp2;go_ret;exact⟨rfl,rfl⟩
section
variable (C S:Nat) (w:Wq) (hc:w.cell? (ay C 0)=some (aJ S 0))
 include hc
def qb6(R:Wq->Prop)(h:qH 66 #[aJ S 0] w (.tuple #[]) fun a=>R a):qH 38 #[aJ C 0] w (.tuple #[]) fun a=>R a:=by have d:=aF (ni C S w hc);have c:=aF h;clear h hc;go_enter func38,ntmps38;go_wp2_with (first|(go_at_call 65;refine bH d.out ?_;rintro a g;have b:=g.symm;subst b)|(go_at_call 66;refine bH c.out ?_;rintro a f;have e:=aF f));go_end0;exact⟨rfl,e.out⟩
def qb7(k:Int)(v:WA)(R:WA->Wq->Prop)(h:WB prog 108 #[aJ S 0,iZ k,v] w fun e a=>∃x,e=.returned x/\R x a):WB prog 61 #[aJ C 0,iZ k,v] w fun e a=>∃x,e=.returned x/\R x a:=by have d:=aF (ni C S w hc);have c:=aF h;clear h hc;go_enter func61,ntmps61;go_wp2_with (first|(go_at_call 65;refine bH d.out ?_;rintro a i;have b:=i.symm;subst b)|(go_at_call 108;refine c.out.mono ?_;rintro e a ⟨x,rfl,g⟩;have f:=aF g));go_ret;exact⟨_,rfl,f.out⟩
def TQ(k:Int)(R:WA->Wq->Prop)(h:WB prog 109 #[aJ S 0,iZ k] w fun e a=>∃x,e=.returned x/\R x a):WB prog 62 #[aJ C 0,iZ k] w fun e a=>∃x,e=.returned x/\R x a:=by have d:=aF (ni C S w hc);have c:=aF h;clear h hc;go_enter func62,ntmps62;go_wp2_with (first|(go_at_call 65;refine bH d.out ?_;rintro a i;have b:=i.symm;subst b)|(go_at_call 109;refine c.out.mono ?_;rintro e a ⟨x,rfl,g⟩;have f:=aF g));go_ret;exact⟨_,rfl,f.out⟩
def OA(R:WA->Wq->Prop)(h:WB prog 114 #[aJ S 0] w fun e a=>∃x,e=.returned x/\R x a):WB prog 68 #[aJ C 0] w fun e a=>∃x,e=.returned x/\R x a:=by have d:=aF (ni C S w hc);have c:=aF h;clear h hc;go_enter func68,ntmps68;go_wp2_with (first|(go_at_call 65;refine bH d.out ?_;rintro a i;have b:=i.symm;subst b)|(go_at_call 114;refine c.out.mono ?_;rintro e a ⟨x,rfl,g⟩;have f:=aF g));go_ret;exact⟨_,rfl,f.out⟩
def OB(v:WA)(R:WA->Wq->Prop)(h:WB prog 104 #[aJ S 0,v] w fun e a=>∃x,e=.returned x/\R x a):WB prog 56 #[aJ C 0,v] w fun e a=>∃x,e=.returned x/\R x a:=by have d:=aF (ni C S w hc);have c:=aF h;clear h hc;go_enter func56,ntmps56;go_wp2_with (first|(go_at_call 65;refine bH d.out ?_;rintro a i;have b:=i.symm;subst b)|(go_at_call 104;refine c.out.mono ?_;rintro e a ⟨x,rfl,g⟩;have f:=aF g));go_ret;exact⟨_,rfl,f.out⟩
def qb8(k c:Int)(R:WA->WA->WA->Wq->Prop)(h:WB prog 140 #[aJ S 0,iZ k,iZ c] w fun e a=>∃x y z,e=.returned (.tuple #[x,y,z])/\R x y z a):WB prog 106 #[aJ C 0,iZ k,iZ c] w fun e a=>∃x y z,e=.returned (.tuple #[x,y,z])/\R x y z a:=by have f:=aF (ni C S w hc);have d:=aF h;clear h hc;go_enter func106,ntmps106;go_wp2_with (first|(go_at_call 65;refine bH f.out ?_;rintro a j;have b:=j.symm;subst b)|(go_at_call 140;refine d.out.mono ?_;rintro e a ⟨x,y,z,rfl,i⟩;have g:=aF i));refine Vl (v:=.tuple #[x,y,z]) (by simp[results,results106,go_sem]) rfl ?_;exact⟨_,_,_,rfl,g.out⟩
end


def av.emp(M:av):av:={M with eP:=[],iv:=nZ}
def IL(S:Nat){M:av}{bw bl bi:Nat}{r:WA}(h:fH oZ s w S l M bw bl bi r):WB prog 105 #[aJ S 0] w fun e o=>∃x,e=.returned x/\GT oZ (s+54) 118 2 o x M.eP.length (Rz M.eP)/\(∃m k,fH oZ s o S m M.emp bw bl bi k)/\Kp [s] oZ oZ w o:=by
 obtain⟨a,c,q,I,hc⟩:=h.qu.m.shape;have G:w.cell? (ay S 235)=some (.slice a M.eP.length c):=by rw[h.bY.cell,h.cells.pR,q]
 have f0:=h.bY.frozen 235;have D:=h.bY.lt;have F:=h.s0;obtain⟨W,i⟩:=bT (w.setCell (ay S 235) nZ);have K:Kp [s] oZ oZ w W:=by rw[i];exact Kp.set oZ w _ _ _ (by show oZ S∈_;rw[h.ow];simp)
 have t:Hid (GT oZ (s+54) 118 2 W (.slice a M.eP.length M.eP.length) M.eP.length (Rz M.eP)/\(∃m k,fH oZ s W S m M.emp bw bl bi k)/\Kp [s] oZ oZ w W):=by
  refine⟨?_,⟨l.set 235 nZ,r,?_⟩,K⟩
  ·have g:=h.qu.m.kp K aM;rw[q]at g;rcases g with⟨e,d,f⟩|⟨b,cap,u,e1,d,f,v,p,y,z,A,B⟩;·refine .inl ⟨?_,d,f⟩;injection e with ea;rw[ea,d]
   ·injection e1 with ea;rw[ea];exact .inr ⟨b,M.eP.length,u,rfl,d,f,qlz (qpo _ p) v,qj _,qlz p y,z,A,B⟩
  ·exact h.inb (K.mono aM) ⟨aM,fun j H=>by rw[qn1 aj]⟩ nZ [] M.bW M.taken (by rw[i];exact h.bY.setCell 235 _) (cB _ _ _ _ h.cells.pR) (by rw[aA _ _ _ _ aj];exact h.cells.qV) (.inl ⟨rfl,rfl,rfl⟩) (h.qu.t.kept (K.bY bi h.qu.t.lt (by rw[h.qu.o];simp)))
 have E:(M.eP.length:Int)<=(c:Int):=aj;clear h K;generalize M.eP.length=n at *
 go_enter func105,ntmps105;go_wp2;rw[<-i];go_ret;exact⟨_,rfl,t.out⟩
def IQ(C S:Nat)(w:Wq)(hc:w.cell? (ay C 0)=some (aJ S 0))(R:WA->Wq->Prop)(h:WB prog 105 #[aJ S 0] w fun e a=>∃x,e=.returned x/\R x a):WB prog 57 #[aJ C 0] w fun e a=>∃x,e=.returned x/\R x a:=by have d:=aF (ni C S w hc);have c:=aF h;clear h hc;go_enter func57,ntmps57;go_wp2_with (first|(go_at_call 65;refine bH d.out ?_;rintro a i;have b:=i.symm;subst b)|(go_at_call 105;refine c.out.mono ?_;rintro e a ⟨x,rfl,g⟩;have f:=aF g));go_ret;exact⟨_,rfl,f.out⟩
end
def eql3(w:Wq):(binOp .eql 94 (.iface 57 (iZ 3)) (.iface 57 (iZ 3))).run prog w=.ok (.bool true) w:=bO
def eql4(w:Wq):(binOp .eql 94 (.iface 57 (iZ 4)) (.iface 57 (iZ 4))).run prog w=.ok (.bool true) w:=bO
def OC(e:Nat):Prop:=e=0\/e=3\/e=4\/e=7
def KZ(e:Nat)(b:OC e)(w:Wq)(a:g_ w):qH 42 #[lH e] w (.tuple #[iZ e,(iZ (-1))]) fun c=>bE w c:=by
 rcases b with rfl|rfl|rfl|rfl;·exact yu w
 ·exact pJ 3 eql3 w a
 ·exact pJ 4 eql4 w a
 ·exact pJ 7 eql7 w a
def qo(e:Nat)(b:OC e)(w:Wq)(a:g_ w):qH 60 #[lH e] w (iZ e) fun c=>bE w c:=vo (lH e) e (-1) w _ (KZ e b w a)
def qb9(o:Ot)(b:List UInt8):OC (o.send b).2:=by
 unfold Ot.send OC;split;·exact .inr (.inr (.inl rfl))
 ·split;·exact .inr (.inl rfl)
  ·exact .inl rfl
def TR(o:Ot):OC o.finish.2:=by
 unfold Ot.finish OC;split;·exact .inr (.inr (.inl rfl))
 ·exact .inl rfl
def TT(C S:Nat){M:av}{bw bl bi:Nat}{A:WA}(k:Nat)(u:k<8)(h:fH oZ s w S l M bw bl bi A)(n:w.cell? (ay C 0)=some (aJ S 0))(p:M.kW=0)(c:g_ w)(j:oZ 0∉T0 s):qH 35 #[aJ C 0,iZ k] w (iZ ((M.out k).finish.2:Int)) fun a=>iE s oZ w S bw bl bi (M.dD k (M.out k).finish.1) a:=by
 have q:Hid (WB prog 62 #[aJ C 0,iZ k] w fun e a=>∃x,e=.returned x/\x=lH (M.out k).finish.2/\iE s oZ w S bw bl bi (M.dD k (M.out k).finish.1) a):=
  TQ C S w n k (fun x a=>x=lH (M.out k).finish.2/\iE s oZ w S bw bl bi (M.dD k (M.out k).finish.1) a) ((RF k u h p).mono fun e a o=>⟨_,o.1,rfl,o.2⟩)
 have d:0<w.heap.size:=qmf w (ay 0 0) (by unfold g_ at c;rw[c]);have r:Hid (∀b,iE s oZ w S bw bl bi (M.dD k (M.out k).finish.1) b->qH 60 #[lH (M.out k).finish.2] b (iZ ((M.out k).finish.2:Int)) fun a=>iE s oZ w S bw bl bi (M.dD k (M.out k).finish.1) a):=fun b f=>by obtain⟨y,v,z,t,i⟩:=f;refine bH (qo _ (TR _) b (cell_of c (i.bY 0 d j))) ?_;rintro a m;exact⟨rfl,y,v,z,t.below m,i.iA m⟩
 clear h n p c j;generalize (M.out k).finish.2=en at *
 go_enter func35,ntmps35;go_wp2_with (first|(go_at_call 62;refine q.out.mono ?_;rintro e b ⟨x,rfl,rfl,f⟩)|(go_at_call 60;refine bH (r.out _ f) ?_;rintro B g));go_ret;exact⟨rfl,g⟩
section
def Ji(W:Wq)(g n:Nat):Prop:=∃C a,W.heap[g]?=some (.cells C 5 a)/\n<=C.size/\(n<=a.1\/a.2=0)
def Ji.lt(h:Ji W g n):g<W.heap.size:=by obtain⟨C,b,a,_⟩:=h;exact(qmt.1 a).1
def Ji.of_heap{a:Wq}(h:Ji W g n)(e:a.heap[g]?=W.heap[g]?):Ji a g n:=by obtain⟨C,b,c,d⟩:=h;exact⟨C,b,e.trans c,d⟩
def Ji.cell{W:Wq}{g n:Nat}(h:Ji W g n)(j:Nat)(e:j<n):(∃v,W.cell? (ay g j)=some v)/\W.frozen? (ay g j)=false:=by
 obtain⟨C,b,a,c,d⟩:=h;refine⟨⟨C[j]'aj,?_⟩,?_⟩;·simp only[kg,a];exact fB aj
 ·simp only[World.frozen?,a];simp;omega
def Ji.set(h:Ji W g n)(j:Nat)(v:WA):Ji (W.setCell (ay g j) v) g n:=by obtain⟨C,a,b,c,d⟩:=h;refine⟨C.setIfInBounds j v,a,?_,by rw[Array.size_setIfInBounds];exact c,d⟩;simp[World.setCell,Array.getElem?_modify,b]
def nO(w:Wq)(s:ByteArray)(k:s.size<=1000000000):∃c e,(convert 9 60 (.string s)).run prog w=.ok (dh w.heap.size s.size c) e/\s.size<=c/\c<=9223372036854775807/\bE w e/\dG e (some (ay w.heap.size 0)) s.data.toList/\Ji e w.heap.size s.size:=by
 have h:=run_bytes_of_string (P:=prog) w 9 60 5 s u9 u29 bO;have f:s.data.size=s.size:=rfl;have g:=grownCap_ge w s.size 0 5;have a:(w.drew.alloc (.cells (bytesRow s (grownCap w s.size 0 5)) 5 ((bytesRow s (grownCap w s.size 0 5)).size,(bytesRow s (grownCap w s.size 0 5)).size+1))).heap[w.heap.size]?=some (.cells (bytesRow s (grownCap w s.size 0 5)) 5 ((bytesRow s (grownCap w s.size 0 5)).size,(bytesRow s (grownCap w s.size 0 5)).size+1)):=by show(w.heap.push _)[w.heap.size]?=_;simp
 have b:s.size<=(bytesRow s (grownCap w s.size 0 5)).size:=by unfold bytesRow;rw[Array.size_append,Array.size_map,f];omega
 refine⟨_,_,h,g,grownCap_le_maxLen w s.size 0 5 (by unfold maxLen;omega),((qlw _ w).drew).alloc (qj _) _,fun j i=>⟨_,0,rfl,?_⟩,⟨_,_,a,b,.inl b⟩⟩;have d:j<s.data.size:=by simpa using i
 rw[qm5];simp only[kg,a];unfold bytesRow;rw[Array.getElem?_append_left (by simpa using d)];simp only[Array.getElem?_map,fB d,Option.map_some,Array.getElem_toList];rfl
def SS(oZ:Own)(s:Nat)(w:Wq)(S bw bl bi n:Nat)(M':av)(y:Wq):Prop:=
 ∃a b c,fH a s y S b M' bw bl bi c/\a w.heap.size=0/\Ji y w.heap.size n/\Kp (T0 s) oZ a w y
section
variable {oZ:Own} {s:Nat} {w:Wq} {S bw bl bi n:Nat} {M':av} {y:Wq}
def SS.set(h:SS oZ s w S bw bl bi n M' y)(j:Nat)(v:WA):SS oZ s w S bw bl bi n M' (y.setCell (ay w.heap.size j) v):=by obtain⟨o,l,m,d,f,g,c⟩:=h;have K:Kp [0] o o y (y.setCell (ay w.heap.size j) v):=Kp.set o y _ v [0] (by rw[f];simp);have p:=d.s0;exact⟨o,l,m,d.kp K (fun x a b e=>by simp at e;omega),f,g.set j v,⟨c.os,c.tape,c.output,by simpa using c.size,fun b i k=>(qmd _ _ _ _ rR).trans (c.bY b i k),c.ext⟩⟩
def SS.step{d:av}(h:SS oZ s w S bw bl bi n M' y)(k:∀f c j,fH f s y S c M' bw bl bi j->iE s f y S bw bl bi d y'):SS oZ s w S bw bl bi n d y':=by obtain⟨o,c,r,g,i,b,m⟩:=h;obtain⟨q,p,t,l,a⟩:=k o c r g;have u:=g.s0;exact⟨q,p,t,l,by rw[a.ext _ b.lt,i],b.of_heap (a.bY _ b.lt (by rw[i];exact fun e=>bR (fC.1 e))),m.trans a⟩
def SS.below(h:SS oZ s w S bw bl bi n M' y)(a:bE y y'):SS oZ s w S bw bl bi n M' y':=h.step fun _ _ _ g=>iE.refl g a
def SS.err(h:SS oZ s w S bw bl bi n M' y)(a:g_ w)(b:oZ 0∉T0 s):g_ y:=by obtain⟨o,g,i,d,e,f,c⟩:=h;exact cell_of a (c.bY 0 (qmf w (ay 0 0) (by unfold g_ at a;rw[a])) b)
def SS.q(h:SS oZ s w S bw bl bi n M' y):iE s oZ w S bw bl bi M' y:=by obtain⟨o,c,d,a,e,f,b⟩:=h;exact⟨o,c,d,a,b⟩
end

def D8{S bw bl bi:Nat}{M:av}(h:fH oZ s w S l M bw bl bi c)(a:bE w W)(d:Ji W w.heap.size n):SS oZ s w S bw bl bi n M W:=by have K:Kp [] oZ (loc oZ w.heap.size) w W:=⟨a.os,a.tape,a.output,a.size,fun x b _=>a.block x b,fun x b=>jo _ _ _ b⟩;exact⟨_,l,c,h.kp K aM,iY _ _ _ (qj _),d,K.mono aM⟩
def qba(C S:Nat){M:av}{bw bl bi:Nat}(k:Nat)(hk:k<8)(data:ByteArray)(T:data.size<=1000000000)(h:fH oZ s w S l M bw bl bi vc)(F:w.cell? (ay C 0)=some (aJ S 0))(X:M.kW=0)(U:(M.out k).aB.length<=2048)(P:g_ w)(N:oZ 0∉T0 s):qH 34 #[aJ C 0,iZ k,.string data] w (iZ (((M.out k).send data.data.toList).2:Int)) fun w'=>iE s oZ w S bw bl bi (M.dD k ((M.out k).send data.data.toList).1) w':=by
 obtain⟨L,W,h5,Q,R,f,m,t⟩:=nO w data T;have E:C<w.heap.size:=qmf w (ay C 0) (by rw[F]);have d:=D8 h f t;have a:data.data.toList.length=data.size:=aM;obtain⟨g,c⟩:=bT (M.dD k ((M.out k).send data.data.toList).1);have I:Hid (WB prog 61 #[aJ C 0,iZ k,dh w.heap.size data.size L] W fun e b=>∃x,e=.returned x/\x=lH ((M.out k).send data.data.toList).2/\SS oZ s w S bw bl bi data.size g b):=by refine qb7 C S W (cell_of F (f.block _ E)) k _ (fun x b=>x=lH ((M.out k).send data.data.toList).2/\SS oZ s w S bw bl bi data.size g b) ?_;have h6:=d;obtain⟨o,l1,v1,B,D,i,O⟩:=d;have:=ZM k hk (ay w.heap.size 0) L B X U m (by rw[a];exact T);rw[a]at this;refine bH this ?_;rintro b q;refine⟨_,rfl,rfl,?_⟩;obtain⟨o2,l2,v2,Z,A⟩:=q;have hs:=B.s0;rw[c];exact⟨o2,l2,v2,Z,by rw[A.ext _ i.lt,D],i.of_heap (A.bY _ i.lt (by rw[D];exact fun e=>bR (fC.1 e))),O.trans A⟩
 have J:Hid (∀b,SS oZ s w S bw bl bi data.size g b->qH 60 #[lH ((M.out k).send data.data.toList).2] b (iZ (((M.out k).send data.data.toList).2:Int)) fun H=>SS oZ s w S bw bl bi data.size g H):=fun b p=>by refine bH (qo _ (qb9 _ _) b (p.err P N)) ?_;rintro H hb;exact⟨rfl,p.below hb⟩
 rw[<-c];clear h F X U P N d f m t c a;generalize ((M.out k).send data.data.toList).2=en at *
 generalize data.size=n at *
 go_enter func34,ntmps34;go_wp2_with (first|(go_at_call 61;refine I.out.mono ?_;rintro e b ⟨x,rfl,rfl,p⟩)|(go_at_call 60;refine bH (J.out _ p) ?_;rintro H r;have K:=aF r;clear r));clear I J p;go_loopw [19] (fun z wr=>∃j:Nat,j<=n/\z=(iZ j)/\Hid (SS oZ s w S bw bl bi n g wr)) (fun z _=>n-(eB z).toNat);case atStart=>exact⟨0,qm2 _,rfl,K⟩
 case round=>
  obtain⟨j,hj,rfl,u⟩:=hrel;clear K;by_cases G:j<n
  ·have V:(j:Int)<(n:Int):=aj;obtain⟨⟨v,e1⟩,e2⟩:(∃v,wr.cell? (ay w.heap.size j)=some v)/\wr.frozen? (ay w.heap.size j)=false:=by
    obtain⟨o,l1,v1,B,D,i,O⟩:=u.out;exact i.cell j G
   have Y:=aF (u.out.set j (.int .u8 33));go_wp2;go_roundw;case rel=>exact⟨j+1,aj,aM,Y⟩
   case measure=>simp[eB];omega
  ·obtain rfl:j=n:=aj;go_wp2;go_ret;exact⟨rfl,u.out.q⟩
end
section
def XZ(w:Wq):(convert 60 9 nZ).run prog w=.ok (.string ⟨#[]⟩) w:=bO
def SR(oZ:Own)(s:Nat)(w:Wq)(S bw bl bi g n:Nat)(M':av)(y:Wq):Prop:=
 ∃a b c,fH a s y S b M' bw bl bi c/\a g=0/\Ji y g n/\w.heap.size<=g/\Kp (T0 s) oZ a w y
section
variable {oZ:Own} {s:Nat} {w:Wq} {S bw bl bi g n:Nat} {M':av} {y:Wq}
def SR.set(h:SR oZ s w S bw bl bi g n M' y)(j:Nat)(v:WA):SR oZ s w S bw bl bi g n M' (y.setCell (ay g j) v):=by obtain⟨o,p,q,d,f,i,l,c⟩:=h;have K:Kp [0] o o y (y.setCell (ay g j) v):=Kp.set o y _ v [0] (by rw[f];simp);have r:=d.s0;exact⟨o,p,q,d.kp K (fun x a b e=>by simp at e;omega),f,i.set j v,l,⟨c.os,c.tape,c.output,by simpa using c.size,fun b k m=>(qmd _ _ _ _ rR).trans (c.bY b k m),c.ext⟩⟩
def SR.q(h:SR oZ s w S bw bl bi g n M' y):iE s oZ w S bw bl bi M' y:=by obtain⟨o,c,d,a,e,f,i,b⟩:=h;exact⟨o,c,d,a,b⟩
end
def D_{S bw bl bi:Nat}{M':av}(a:Wq)(e:iE s oZ w S bw bl bi M' a):qH 60 #[.nilIface] a (iZ 0) fun j=>iE s oZ w S bw bl bi M' j:=by obtain⟨h,f,i,c,d⟩:=e;refine bH (vo .nilIface 0 (-1) a _ (yu a)) ?_;rintro k b;exact⟨rfl,h,f,i,c.below b,d.iA b⟩
def qbc(C S:Nat){M:av}{bw bl bi:Nat}(k:Nat)(hk:k<8)(b:Int)(h:fH oZ s w S l M bw bl bi vc)(hc:w.cell? (ay C 0)=some (aJ S 0))(hy:M.kW=0)(D:Ey (M.cK k)):qH 58 #[aJ C 0,iZ k,iZ b] w (.tuple #[.string ⟨((M.cK k).rd b).1.toArray⟩,(iZ (((M.cK k).rd b).2.state:Int)),iZ 0]) fun w'=>iE s oZ w S bw bl bi (M.fT k ((M.cK k).rd b).2) w':=by
 have u:((M.cK k).rd b).1.length<=2048:=by have:=D.l;show((M.cK k).bK.take _).length<=2048;rw[qm8];omega
 have q:Hid (WB prog 106 #[aJ C 0,iZ k,iZ b] w fun e d=>∃x y z,e=.returned (.tuple #[x,y,z])/\∃a c,(x=.slice a ((M.cK k).rd b).1.length c/\y=(iZ (((M.cK k).rd b).2.state:Int))/\z=.nilIface)/\Hid (dY 5 1 d (.slice a ((M.cK k).rd b).1.length c) ((M.cK k).rd b).1.length (bX ((M.cK k).rd b).1)/\lQ w.heap.size (.slice a ((M.cK k).rd b).1.length c)/\XR s oZ w S bw bl bi (M.fT k ((M.cK k).rd b).2) d (.slice a ((M.cK k).rd b).1.length c))):=by refine qb8 C S w hc k b (fun x y z d=>∃a c,(x=.slice a ((M.cK k).rd b).1.length c/\y=(iZ (((M.cK k).rd b).2.state:Int))/\z=.nilIface)/\Hid (dY 5 1 d (.slice a ((M.cK k).rd b).1.length c) ((M.cK k).rd b).1.length (bX ((M.cK k).rd b).1)/\lQ w.heap.size (.slice a ((M.cK k).rd b).1.length c)/\XR s oZ w S bw bl bi (M.fT k ((M.cK k).rd b).2) d (.slice a ((M.cK k).rd b).1.length c))) ?_;refine(XY k hk b h hy D.ok (by have:=D.l;unfold dH;omega)).mono ?_;rintro e d ⟨a,c,rfl,Y,Z,O⟩;exact⟨_,_,_,rfl,a,c,⟨rfl,rfl,rfl⟩,Y,Z,O⟩
 clear h hc hy D;generalize (M.cK k).rd b=X at *
 obtain⟨A,i2⟩:=X;simp only at q u ⊢;generalize Q:M.fT k i2=K at *
 clear Q;obtain⟨n,p⟩:=bT A.length;rw[<-p]at q u;have H:=aF p;clear p;go_enter func58,ntmps58;go_wp2_with (go_at_call 106;refine q.out.mono ?_;rintro e d ⟨x,y,z,rfl,a,c,⟨rfl,rfl,rfl⟩,G⟩);obtain⟨hG,hF,B⟩:=G.out;rcases hG with⟨r,en,_⟩|⟨g,cap,cs,r,hB,hcl,hc1,hc2,hc3,hc4,_⟩
 ·have R:A=[]:=qn9.1 (by rw[<-H.out];exact en);subst R;simp only[qn4]at r;obtain⟨rfl,rfl,rfl⟩:=r;have f:=XZ;have I:Hid (qH 60 #[.nilIface] d (iZ 0) fun V=>iE s oZ w S bw bl bi K V):=by
   obtain⟨U,E,F,L,N,_⟩:=B;exact D_ d ⟨U,E,F,L,N⟩
  clear G hF B q H;go_wp2;refine wp_loop_rounds 1 ?_;rw[rounds_succ];go_wp2_with (go_at_call 60;refine bH I.out ?_;rintro V i);go_ret3
  exact⟨rfl,i⟩
 ·simp only[qn4]at r;obtain⟨rfl,_,rfl⟩:=r;have p:=H.out;have t:w.heap.size<=g:=hF g rfl;have f:=run_convert_bytes_back (P:=prog) d 60 9 5 (ay g 0) c A u29 bO u9 (fun j hj=>by
   rw[qmb,qm5,hB.cell];have:(cs.take (n*1))[j]?=(bX A)[j]?:=by rw[hc4]
   rw[qm6,bM aj]at this;rw[this];simp[bX,hj])
  rw[<-p]at f;have W:Hid (SR oZ s w S bw bl bi g n K d):=by obtain⟨U,E,F,L,N,g3⟩:=B;exact⟨U,E,F,L,g3 g rfl,⟨cs.toArray,(0,0),hB,rR,.inr rfl⟩,t,N⟩
  clear G hF B q hB hcl hc1 hc2 hc3 hc4 p t;rw[f];go_simp;go_wp2;go_loopw [26] (fun m wr=>∃j:Nat,j<=n/\m=(iZ j)/\Hid (SR oZ s w S bw bl bi g n K wr)) (fun m _=>n-(eB m).toNat);case atStart=>exact⟨0,qm2 _,rfl,W⟩
  case round=>
   obtain⟨j,hj,rfl,J⟩:=hrel;clear W f;by_cases T:j<n
   ·have h0:(j:Int)<(n:Int):=aj;obtain⟨⟨v,e1⟩,e2⟩:(∃v,wr.cell? (ay g j)=some v)/\wr.frozen? (ay g j)=false:=by
     obtain⟨o,E,F,Y,Z,O,h4⟩:=J.out;exact O.cell j T
    have HS:=aF (J.out.set j (.int .u8 33));go_wp2;go_roundw;case rel=>exact⟨j+1,aj,aM,HS⟩
    case measure=>simp[eB];omega
   ·obtain rfl:j=n:=aj;have I:=aF (D_ wr J.out.q);go_wp2_with (go_at_call 60;refine bH I.out ?_;rintro V i);go_ret3
    exact⟨rfl,i⟩
end
def X0(a:V3)(w:Wq):qH 173 #[.pointer (some a)] w (.func (.func 226) #[] #[aJ w.heap.size 0]) fun d=>d=w.alloc (.cells #[.pointer (some a)] 273):=by have c:∀(b:Fn) (first cap:Array WA) (w:Wq),(Instr.makeFunc b first cap).run prog w=.ok (.func b first cap) w:=fun _ _ _ _=>rfl;go_enter func173,ntmps173;go_wp2;go_ret;exact⟨rfl,rfl⟩
def K_(i j:Nat)(rs:bZ)(base:Option V3)(c:Nat)(b:w.cell? (ay j 227)=some (.slice base rs.length c))(l:dY 170 2 w (.slice base rs.length c) rs.length (St.bQ rs))(a:aL w i 273 [aJ j 225])(g:rs.length<=1000000):WB prog 245 #[.func (.func 226) #[] #[aJ i 0]] w fun e k=>∃d,e=.returned d/\dY 170 2 k d rs.reverse.length (St.bQ rs.reverse)/\YtphbledmopchnaaGreatDoor.Own w.heap.size d/\bE w k:=by have m:=aF (St.ER i j rs base c w b l a g);clear b l a;go_enter func245,ntmps245;go_wp2_with (go_at_call 308;refine m.out.mono ?_;rintro e k ⟨d,rfl,f⟩;have f:=aF f);go_ret;exact⟨_,rfl,f.out⟩
def fH.qhp{S:Nat}{M M':av}{bw bl bi:Nat}(h:fH oZ s w S l M bw bl bi c)(K:Kp [s] oZ aQ w w')(o n:Nat)(y:o+n<=4\/220<=o)(q:f_ w w' S l l' o n)(u:SdL l' M' bw bl bi c)(d:M'.outs=M.outs)(f:M'.ins=M.ins)(g:M'.aP=M.aP)(i:M'.bf=M.bf)(k:M'.b_=M.b_)(m:M'.qv=M.qv)(p:(M'.aK,M'.iv,M'.eP,M'.taken)=(M.aK,M.iv,M.eP,M.taken)):fH aQ s w' S l' M' bw bl bi c:=by
 have a:∀x,x∈[s]->x=s:=fun x v=>by simpa using v
 have t:∀j,M'.out j=M.out j:=fun j=>by unfold av.out;rw[d]
 have r:∀j,M'.cK j=M.cK j:=fun j=>by unfold av.cK;rw[f]
 refine⟨by rw[K.ext S h.bY.lt,h.ow],h.s0,q.bY,u,fun j b=>?_,fun j b=>?_,?_,?_,?_,?_,by rw[d];exact h.lo,by rw[f];exact h.li⟩;·rw[t];exact(h.out j b).kp K (fun e=>bR (a _ e)) (fun e=>bR (a _ e)) (fun e=>bR (a _ e)) q.dW aj
 ·rw[r];exact(h.cK j b).kp K (fun e=>bR (a _ e)) (fun e=>bR (a _ e)) q.dW aj
 ·rw[g];exact h.row.kp K (fun e=>bR (a _ e))
 ·rw[i];exact h.Ay.kp K (fun e=>bR (a _ e)) (fun e=>bR (a _ e))
 ·rw[k];exact h.b_.kp K (fun e=>bR (a _ e)) (fun e=>bR (a _ e))
 ·exact(h.qu.kp K (fun e=>bR (a _ e)) (fun e=>bR (a _ e)) (fun e=>bR (a _ e))).eq (by rw[m,p])
def X3{cs:bJ}{rs:bZ}(d:aL w g 170 cs)(h:cs.take (rs.length*2)=St.bQ rs)(e:∀r∈rs,r.1<18446744073709551616/\r.2<18446744073709551616):jA w (some (ay g 0)) rs:=fun j a=>by
 have b:=St.vw rs j a;have c:=St.vB rs j a;rw[<-h,qm6,bM aj]at b c;have f:rs.getD j (0,0)∈rs:=by rw[qly,qm3 a];exact qmz _
 exact⟨g,0,rfl,by rw[d.cell,qm5];exact b,by rw[d.cell,qm5];exact c,e _ f⟩
def La{S:Nat}{M:av}{bw bl bi:Nat}{p:WA}(h:fH oZ s w S l M bw bl bi p)(q:f_ w w' S l (l.set 228 (.bool false)) 228 1)(v:WA)(t:aL w' (w.heap.size+1) 342 [v])(a:bZ)(k:∀r∈a,r.1<18446744073709551616/\r.2<18446744073709551616)(E:dY 170 2 w' v a.length (St.bQ a))(z:YtphbledmopchnaaGreatDoor.Own w.heap.size v):Qb oZ s w S bw bl bi {M with bI:=false} a (.returned (nM ⟨0,.func 246,#[(aJ (w.heap.size+1) 0)],#[],.func 247,#[(aJ (w.heap.size+1) 0)],#[],false⟩)) w':=by
 obtain⟨f,o⟩:=bT (fun b=>if b<w.heap.size then oZ b else if b=w.heap.size+1 then s+48 else s+49:Own);have G:f (w.heap.size+1)=s+48:=by rw[o];show(if w.heap.size+1<w.heap.size then _ else if w.heap.size+1=w.heap.size+1 then s+48 else s+49)=_;rw[aV aj,bM rfl]
 have H:∀b,w.heap.size<=b->b≠w.heap.size+1->f b=s+49:=fun b i d=>by rw[o];show(if b<w.heap.size then _ else if b=w.heap.size+1 then s+48 else s+49)=_;rw[aV aj,aV d]
 have K:Kp [s] oZ f w w':=⟨q.os,q.tape,q.output,q.size,fun b k D=>q.al b k (fun e=>D (by rw[e,h.ow];simp)),fun b k=>by rw[o];exact bM k⟩;have c:=h.cells;have e:∀j,j≠228->(l.set 228 (.bool false))[j]?=l[j]?:=fun j C=>qn1 (fun e=>C e.symm);have A:SdL (l.set 228 (.bool false)) {M with bI:=false} bw bl bi p:=⟨by rw[qn3];exact c.len,(e _ aj).trans c.c0,(e _ aj).trans c.c1,(e _ aj).trans c.c2,(e _ aj).trans c.c3,(e _ aj).trans c.qU,c.gr.dW q.dW aj,(e _ aj).trans c.sP,(e _ aj).trans c.sQ,(e _ aj).trans c.pQ,by rw[qo0 (by rw[c.len];omega)],(e _ aj).trans c.n_,(e _ aj).trans c.oM,(e _ aj).trans c.rV,(e _ aj).trans c.nJ,(e _ aj).trans c.jd,(e _ aj).trans c.qA,(e _ aj).trans c.pR,(e _ aj).trans c.qV,(e _ aj).trans c.rW,(e _ aj).trans c.oO,(e _ aj).trans c.tY⟩;refine⟨_,w.heap.size+1,rfl,f,K,⟨_,p,h.qhp K 228 1 aj q A rfl rfl rfl rfl rfl rfl rfl,G,v,t,?_⟩,?_,rfl,rfl⟩
 ·rcases E with⟨i,d,_⟩|⟨g,cap,cs,i,d,h3,h4,h5,h6,h7,h8⟩;·exact .inl ⟨i,qn9.1 d⟩
  ·have B:w.heap.size<=g:=z g (by rw[i];rfl);have n:g≠w.heap.size+1:=fun e=>by
    have:=t;rw[<-e]at this;have y:=d.symm.trans this;simp at y
   exact .inr ⟨g,0,cap,i,h4,h5,d.lt,H g B n,X3 d h7 k⟩
 ·have F:kM f s w' S bw bl bi (w.heap.size+1) ⟨0,.func 246,#[(aJ (w.heap.size+1) 0)],#[],.func 247,#[(aJ (w.heap.size+1) 0)],#[],false⟩ (fun _ a=>decide (0<a.length)) (fun _ a=>decide (0<a.length)&&zY a) (fun M a m=>if fP a m a.length=0 then none else some (dS (a.take (fP a m a.length)),M,a.drop (fP a m a.length))):=
   ⟨246,247,rfl,rfl,enters_of func246 bO rfl,enters_of func247 bO rfl,Sc,SL⟩
  exact F.to 0 (fun M a=>rfl) (fun M a u x=>by rw[qmg];exact⟨u,x⟩) (fun M a m _=>rfl)
def qbd{S:Nat}{M:av}{bw bl bi:Nat}(h:fH oZ s w S l M bw bl bi vc)(hn:M.aP.rs.length<=1000000)(h0:∀r∈M.aP.rs,r.1<18446744073709551616/\r.2<18446744073709551616):WB prog 200 #[aJ S 0] w fun e w'=>Qb oZ s w S bw bl bi {M with bI:=false} (if M.bI then M.aP.rs.reverse else[]) e w':=by
 have nH:w.cell? (ay S 228)=some (.bool M.bI):=by rw[h.bY.cell];exact h.cells.nH
 have Q:S<w.heap.size:=h.bY.lt;have h4:∀(fn:Fn) (first cap:Array WA) (w:Wq),(Instr.makeFunc fn first cap).run prog w=.ok (.func fn first cap) w:=fun _ _ _ _=>rfl;cases ha:M.bI
 ·rw[ha]at nH;have f228:=h.bY.frozen 228;have H:=aF h;clear h;go_enter func200,ntmps200;go_wp2;obtain⟨y,j⟩:=bT (.func (.func 246) #[(aJ (w.heap.size+1) 0)] #[]:WA);obtain⟨z,m⟩:=bT (.func (.func 247) #[(aJ (w.heap.size+1) 0)] #[]:WA);rw[<-j,<-m];have q0:f_ w (w.setCell (ay S 228) (.bool false)) S l (l.set 228 (.bool false)) 228 1:=f_.one H.out.bY 228 _ 228 1 aj aj;have h3:(w.setCell (ay S 228) (.bool false)).heap.size=w.heap.size:=aM;generalize w.setCell (ay S 228) (.bool false)=D at *
  have F:=(aL.new D 304 [iZ 0,y,z,.bool false]).alloc (.cells #[nZ] 342);have B1:=aL.new (D.alloc (.cells #[iZ 0,y,z,.bool false] 304)) 342 [nZ];have P:bE D ((D.alloc (.cells #[iZ 0,y,z,.bool false] 304)).alloc (.cells #[nZ] 342)):=((qlw _ D).alloc (qj _) _).alloc aM _;simp only[qmx]at B1;rw[h3]at F B1;generalize ((D.alloc (.cells #[iZ 0,y,z,.bool false] 304)).alloc (.cells #[nZ] 342))=W at *
  have G:=F.cell 0;have I:=F.cell 1;have J:=F.cell 2;have K:=F.cell 3;simp only[qml,qma]at G I J K;refine Vl (v:=.agg #[iZ 0,y,z,.bool false]) (by simp[results,results200,go_sem,G,I,J,K]) rfl ?_;have:=La H.out (q0.iA P) _ B1 [] (fun r hr=>by cases hr) (dY.nil _ _ _) (fun k d=>by simp[Value.ownBlock]at d);unfold nM at this;rw[j,m];exact this
 ·rw[ha]at nH;obtain⟨base,c,T,r1,r2,r3,r4⟩:=h.row;have pQ:w.cell? (ay S 227)=some (.slice base M.aP.rs.length c):=by rw[h.bY.cell,<-T];exact h.cells.pQ
  have hG:dY 170 2 w (.slice base M.aP.rs.length c) M.aP.rs.length (St.bQ M.aP.rs):=r3.Q_ r1 r2;have hS:=h.bY;obtain⟨C,f⟩:=bT (((w.alloc (.cells #[iZ 0,.nilFunc,.nilFunc,.bool false] 304)).alloc (.cells #[nZ] 342)).alloc (.cells #[aJ S 225] 273));have g:bE w C:=by rw[f];exact(((qlw _ w).alloc (qj _) _).alloc aM _).alloc rR _
  have R:C.heap.size=w.heap.size+3:=by rw[f];simp
  have i:aL C w.heap.size 304 [iZ 0,.nilFunc,.nilFunc,.bool false]:=by rw[f];exact((aL.new w 304 _).alloc _).alloc _
  have E:aL C (w.heap.size+1) 342 [nZ]:=by rw[f];have:=aL.new (w.alloc (.cells #[iZ 0,.nilFunc,.nilFunc,.bool false] 304)) 342 [nZ];simp only[qmx]at this;exact this.alloc _
  have x2:aL C (w.heap.size+1+1) 273 [aJ S 225]:=by rw[f];have:=aL.new ((w.alloc (.cells #[iZ 0,.nilFunc,.nilFunc,.bool false] 304)).alloc (.cells #[nZ] 342)) 273 [aJ S 225];simpa only[qmx]using this
  have HC:Hid (WB prog 245 #[.func (.func 226) #[] #[(aJ (w.heap.size+1+1) 0)]] C fun e a=>∃u B x,e=.returned (.slice u B x)/\a.cell? (ay S 228)=some (.bool true)/\aL a S TS l/\aL a w.heap.size 304 [iZ 0,.nilFunc,.nilFunc,.bool false]/\aL a (w.heap.size+1) 342 [nZ]/\Hid (bE w a/\dY 170 2 a (.slice u B x) M.aP.rs.reverse.length (St.bQ M.aP.rs.reverse)/\YtphbledmopchnaaGreatDoor.Own (w.heap.size+3) (.slice u B x))):=by refine(K_ (w.heap.size+1+1) S M.aP.rs base c (cell_of pQ (g.block S Q)) (hG.of_heap (fun b P=>g.block b (hG.lt b P))) x2 hn).mono ?_;rintro e a ⟨v5,rfl,g1,g2,N⟩;obtain⟨u,x,rfl,_⟩:=g1.shape;exact⟨u,_,x,rfl,cell_of nH ((g.trans (N.mono aj)).block S Q),eY (g.trans (N.mono aj)) hS,eY N i,eY N E,g.trans (N.mono aj),g1,by rw[R]at g2;exact g2⟩
  have H:=aF h;have n0:S≠w.heap.size:=aj;have n1:S≠w.heap.size+1:=aj;clear h hS g R i E x2 r1 r2 r3 r4 hG pQ T;go_enter func200,ntmps200;go_wp2_with (first|(go_at_call 173;refine bH (X0 _ _) ?_;rintro w' rfl)|(go_at_call 245;rw[<-f];refine HC.out.mono ?_;rintro e a ⟨u,B,x,rfl,s5,xS,i,E,HX⟩;have y0:a.cell? (ay w.heap.size 0)=some (iZ 0):=i.cell 0;have y1:a.cell? (ay w.heap.size 1)=some .nilFunc:=i.cell 1;have y2:a.cell? (ay w.heap.size 2)=some .nilFunc:=i.cell 2;have y3:a.cell? (ay w.heap.size 3)=some (.bool false):=i.cell 3;have iL:=i.frozen 0;have nR:=i.frozen 1;have oK:=i.frozen 2;have zm:=i.frozen 3;have z0:a.cell? (ay (w.heap.size+1) 0)=some nZ:=E.cell 0;have fz:=E.frozen 0;have h5:=xS.frozen 228)|go_in);obtain⟨y,j⟩:=bT (.func (.func 246) #[(aJ (w.heap.size+1) 0)] #[]:WA);obtain⟨z,m⟩:=bT (.func (.func 247) #[(aJ (w.heap.size+1) 0)] #[]:WA);rw[<-j,<-m];obtain⟨n,Jf,O⟩:=HX.out;obtain⟨u1,o⟩:=bT (a.setCell (ay (w.heap.size+1) 0) (.slice u B x));obtain⟨u2,p⟩:=bT (u1.setCell (ay S 228) (.bool false));obtain⟨u6,t⟩:=bT ((((u2.setCell (ay w.heap.size 0) (iZ 0)).setCell (ay w.heap.size 1) y).setCell (ay w.heap.size 2) z).setCell (ay w.heap.size 3) (.bool false));rw[<-o,<-p,<-t];have V:∀k,k≠w.heap.size+1->u1.heap[k]?=a.heap[k]?:=fun k d=>by rw[o];exact qmd _ _ _ _ d
  have X:∀k,k≠S->u2.heap[k]?=u1.heap[k]?:=fun k d=>by rw[p];exact qmd _ _ _ _ d
  have Y:∀k,k≠w.heap.size->u6.heap[k]?=u2.heap[k]?:=fun k d=>by rw[t,qmd _ _ _ _ d,qmd _ _ _ _ d,qmd _ _ _ _ d,qmd _ _ _ _ d]
  have Z:u1.heap.size=a.heap.size/\u1.os=a.os/\u1.tape=a.tape/\u1.output=a.output:=by rw[o];exact⟨aM,rfl,rfl,rfl⟩
  have s2:u2.heap.size=u1.heap.size/\u2.os=u1.os/\u2.tape=u1.tape/\u2.output=u1.output:=by rw[p];exact⟨aM,rfl,rfl,rfl⟩
  have s6:u6.heap.size=u2.heap.size/\u6.os=u2.os/\u6.tape=u2.tape/\u6.output=u2.output:=by rw[t];exact⟨aM,rfl,rfl,rfl⟩
  have U:aL u6 w.heap.size 304 [iZ 0,y,z,.bool false]:=by have L:aL u2 w.heap.size 304 [iZ 0,.nilFunc,.nilFunc,.bool false]:=(i.of_heap (V _ aj)).of_heap (X _ aj);rw[t];exact(((L.setCell 0 _).setCell 1 _).setCell 2 _).setCell 3 _
  have BA:aL u6 (w.heap.size+1) 342 [.slice u B x]:=by
   have L:aL u1 (w.heap.size+1) 342 [.slice u B x]:=by rw[o];exact E.setCell 0 _
   exact(L.of_heap (X _ aj)).of_heap (Y _ aj)
  have BS:aL u6 S TS (l.set 228 (.bool false)):=by
   have L:aL u2 S TS (l.set 228 (.bool false)):=by rw[p];exact(xS.of_heap (V _ n1)).setCell 228 _
   exact L.of_heap (Y _ n0)
  have q:f_ w u6 S l (l.set 228 (.bool false)) 228 1:=by have q0:f_ w (w.setCell (ay S 228) (.bool false)) S l (l.set 228 (.bool false)) 228 1:=f_.one H.out.bY 228 _ 228 1 aj aj;exact⟨by rw[s6.2.1,s2.2.1,Z.2.1,n.os],by rw[s6.2.2.1,s2.2.2.1,Z.2.2.1,n.tape],by rw[s6.2.2.2,s2.2.2.2,Z.2.2.2,n.output],by rw[s6.1,s2.1,Z.1];exact n.size,fun b P h2=>by rw[Y b aj,X b h2,V b aj,n.block b P],BS,q0.dW⟩
  have G6:dY 170 2 u6 (.slice u B x) M.aP.rs.reverse.length (St.bQ M.aP.rs.reverse):=Jf.of_heap (fun k d=>by have:=O k d;rw[Y k aj,X k aj,V k aj]);have A:=La H.out q _ BA M.aP.rs.reverse (fun r hr=>h0 r (qqq.1 hr)) G6 (fun k d=>bR (O k d));have G:=U.cell 0;have I:=U.cell 1;have J:=U.cell 2;have K:=U.cell 3;simp only[qml,qma]at G I J K;clear t p o;refine Vl (v:=.agg #[iZ 0,y,z,.bool false]) (by simp[results,results200,go_sem,G,I,J,K]) rfl ?_;unfold nM at A;rw[j,m];exact A
section
def qjw:GK 53 9 (.string ⟨#[]⟩) 1 16:=⟨bO,bO,fun n=>by simp[fA,fE],fun n v a=>by simp[fA,fE]at a;obtain⟨i,_,rfl⟩:=a;have:i % 1=0:=aj;rw[this];rfl,aj⟩
def sV(b:List UInt8):WA:=.string ⟨b.toArray⟩
def Tq(s t:Nat):List Nat:=t::List.range' s 60
def Ea{t x:Nat}:x∈Tq s t↔x=t\/(s<=x/\x<s+60):=by
 unfold Tq;rw[qme,qot];constructor
 ·rintro(h|⟨i,a,rfl⟩);·exact .inl h
  ·exact .inr aj
 ·rintro(h|h);·exact .inl h
  ·exact .inr ⟨x-s,aj,aj⟩
structure PlS (eZ:Own) (s t:Nat) (w0:Wq) (S bw bl bi:Nat) (M':av) (vl:WA) (vs:bJ) (bs:List (List UInt8)) (j:Nat) (v3:WA) (oZ:Own) (w:Wq):Prop where
 sd:∃l vc,fH oZ s w S l M' bw bl bi vc
 gd:Gd oZ w
 li:GT oZ (s+52) 60 1 w vl vs.length vs
 ln:vs.length=bs.length
 ps:∀i,j<=i->i<vs.length->lG w (vs.getD i Vh) (bs.getD i [])/\∀k,(vs.getD i Vh).ownBlock=some k->oZ k=s+47/\k<w.heap.size
 dj:Dj vs
 st:GT oZ t 9 1 w v3 j ((bs.take j).map sV)
 kp:Kp (Tq s t) eZ oZ w0 w
section
variable {eZ:Own} {s t:Nat} {w0:Wq} {S bw bl bi:Nat} {M':av} {vl:WA} {vs:bJ} {bs:List (List UInt8)} {j:Nat} {v3:WA} {oZ:Own} {w:Wq}
def PlS.app(h:PlS eZ s t w0 S bw bl bi M' vl vs bs j v3 oZ w)(T:0<t/\(t<s\/s+60<=t))(C:j<vs.length)(R:vs.length<=1000000):∃m c f,(∀O,(Builtin.append_ #[53,53] O #[v3,dh w.heap.size 1 1]).run prog (w.alloc (.cells #[sV (bs.getD j [])] 9))=.ok m c)/\PlS eZ s t w0 S bw bl bi M' vl vs bs (j+1) m f c/\(lG c (vs.getD j Vh) (bs.getD j [])/\∀k,(vs.getD j Vh).ownBlock=some k->f k=s+47/\k<c.heap.size):=by
 obtain⟨l,Q,J⟩:=h.sd;have o:bE w (w.alloc (.cells #[sV (bs.getD j [])] 9)):=(qlw _ w).alloc (qj _) _;have D:aL (w.alloc (.cells #[sV (bs.getD j [])] 9)) w.heap.size 9 [sV (bs.getD j [])]:=aL.new w 9 _;have A:Kp [] oZ oZ w (w.alloc (.cells #[sV (bs.getD j [])] 9)):=Kp.below o;obtain⟨m,c,f,run,I,E⟩:=fO qjw (n:=j) (h.st.kp A aM) (ay w.heap.size 0) 1 1 [sV (bs.getD j [])] rfl (fun z N=>by rw[qmi.1 N];rfl) (fun i y M=>by
  have e:(ay w.heap.size 0).add i=(ay w.heap.size i):=by rw[qmb,qm5]
  rw[e,D.cell,M]) aj
 have K:Kp [t] oZ f w c:=(A.mono aM).trans E;have r:bs.take (j+1)=bs.take j++[bs.getD j []]:=by
  have u:j<bs.length:=by rw[<-h.ln];exact C
  rw[qnh,qly,qm3 u];rfl
 have P:∀i,j<=i->i<vs.length->lG c (vs.getD i Vh) (bs.getD i [])/\∀k,(vs.getD i Vh).ownBlock=some k->f k=s+47/\k<c.heap.size:=fun i B d=>by
  obtain⟨p,q⟩:=h.ps i B d;refine⟨?_,fun k v=>⟨by rw[K.ext k (q k v).2,(q k v).1],qm9 (q k v).2 K.size⟩⟩;rcases p with p|⟨g,cap,F,e,H,G⟩;·exact .inl p
  ·exact .inr ⟨g,cap,F,e,bU H K (by rw[(q g (by rw[e];rfl)).1];simp;omega),G⟩
 refine⟨m,c,f,run,⟨⟨l,Q,J.kp K (fun x a b e=>by simp at e;omega)⟩,h.gd.kp K rR,h.li.kp K rR,h.ln,fun i B d=>P i aj d,h.dj,?_,h.kp.trans (K.mono fun x L=>Ea.2 (.inl (by simpa using L)))⟩,P j (qj _) C⟩;rw[r,qnb];exact I
def PlS.set(h:PlS eZ s t w0 S bw bl bi M' vl vs bs (j+1) v3 oZ w)(F:0<t/\(t<s\/s+60<=t))(g:Nat)(A:(vs.getD j Vh).ownBlock=some g)(C:oZ g=s+47)(i:Nat)(v:WA):PlS eZ s t w0 S bw bl bi M' vl vs bs (j+1) v3 oZ (w.setCell (ay g i) v):=by
 obtain⟨l,E,z⟩:=h.sd;have K:Kp [s+47] oZ oZ w (w.setCell (ay g i) v):=Kp.set oZ w _ v [s+47] (by rw[C];simp);refine⟨⟨l,E,z.kp K (fun x a b e=>by simp at e;omega)⟩,h.gd.kp K aM,h.li.kp K aM,h.ln,fun n B c=>?_,h.dj,h.st.kp K rR,h.kp.trans (K.mono fun x D=>Ea.2 (.inr (by simp at D;omega)))⟩;obtain⟨p,q⟩:=h.ps n B c;refine⟨?_,fun k m=>⟨(q k m).1,by simpa using(q k m).2⟩⟩;rcases p with p|⟨f,cap,o,e,y,u⟩;·exact .inl p
 ·refine .inr ⟨f,cap,o,e,?_,u⟩;have d:f≠g:=fun r=>h.dj j n aj c g A (by rw[e,<-r];rfl);exact y.of_heap (qmd _ _ _ _ (by simpa using d))
end


def PkT(oZ:Own)(s:Nat)(w:Wq)(S bw bl bi:Nat)(c:av->List (List UInt8)->Prop)(x:WA)(b:Wq):Prop:=
 ∃M' bs vs a e d,c M' bs/\fH a s b S e M' bw bl bi d/\Gd a b/\GT a (s+52) 60 1 b x vs.length vs/\WL a s b vs bs/\Kp (Tb s) oZ a w b
def PlT(oZ:Own)(s t:Nat)(w:Wq)(S bw bl bi:Nat)(c:av->List (List UInt8)->Prop)(x:WA)(b:Wq):Prop:=
 ∃M' bs a e d,c M' bs/\fH a s b S e M' bw bl bi d/\Gd a b/\GT a t 9 1 b x bs.length (bs.map sV)/\Kp (Tq s t) oZ a w b
def gX{t:Nat}{e:TypeId}{k:Nat}(h:GT oZ t e k w v n l):∃a c,v=.slice a n c:=by rcases h with⟨rfl,rfl,_⟩|⟨g,cap,cs,rfl,_⟩<;>exact⟨_,_,rfl⟩
def Lc(oZ:Own)(s t:Nat)(C S:Nat)(bw bl bi:Nat)(w:Wq)(hs:0<s)(ht:0<t/\(t<s\/s+60<=t))(Q:av->List (List UInt8)->Prop)(I:∀M' bs,Q M' bs->bs.length<=1000/\∀j,j<bs.length->bs.getD j []≠[]/\(bs.getD j []).length<=1000000)(hR:WB prog 68 #[aJ C 0] w fun e N=>∃x,e=.returned x/\PkT oZ s w S bw bl bi Q x N):WB prog 40 #[aJ C 0] w fun e w'=>∃x,e=.returned x/\PlT oZ s t w S bw bl bi Q x w':=by
 have HC:Hid (WB prog 68 #[aJ C 0] w fun e N=>∃a n c,e=.returned (.slice a n c)/\Hid (∃M' bs vs U,n=vs.length/\Q M' bs/\PlS oZ s t w S bw bl bi M' (.slice a n c) vs bs 0 nZ U N)):=by refine hR.mono ?_;rintro e N ⟨x,rfl,M',bs,vs,U,l',jR,h1,h2,h3,h4,V,h6⟩;obtain⟨a,c,rfl⟩:=gX h4;exact⟨a,_,c,rfl,M',bs,vs,U,rfl,h1,⟨l',jR,h2⟩,h3,h4,V.1,fun i _ u=>V.2.1 i u,V.2.2,.inl ⟨rfl,rfl,rfl⟩,h6.mono fun x hx=>Ea.2 (.inr (jD.1 hx).1)⟩
 have HN:=aF I;have HT:=aF ht;have UC:=aF hs;clear hR I ht hs;go_enter func40,ntmps40;go_wp2_with (go_at_call 68;refine HC.out.mono ?_;rintro e N ⟨a,n,c,rfl,H1⟩);clear HC;obtain⟨M',bs,vs,eG,hn,X,W⟩:=H1.out;have HM:=aF X;have z:=aF W;have HL:=aF hn;obtain⟨g1,b⟩:=HN.out M' bs X;have G:=W.ln;have n4:n<=1000:=aj;have HG:=aF b;clear X W hn H1 g1 b G;go_loopw [3,10] (fun s3 q wr=>∃j:Nat,j<=n/\q=(iZ j)/\Hid (∃R,PlS oZ s t w S bw bl bi M' (.slice a n c) vs bs j s3 R wr)) (fun _ q _=>n-(eB q).toNat);case atStart=>exact⟨0,qm2 _,rfl,eG,z.out⟩
 case round=>
  obtain⟨j,hj,rfl,T⟩:=hrel;clear z;by_cases hc:j<n
  ·have ha:(j:Int)<(n:Int):=aj;obtain⟨R,d⟩:=T.out;have p:j<vs.length:=bR HL.out;have h7:j<bs.length:=bR d.ln;obtain⟨F,Y⟩:=HG.out j h7;obtain⟨h8,h9⟩:=d.ps j (qj _) p;have o:=d.li;rcases o with⟨e1,e2,_⟩|⟨g,cap,cs,ea,ho,hB,hc1,hc2,hc3,hc4,BN,_⟩;·omega
   simp only[qn4]at ea;obtain⟨rfl,en,rfl⟩:=ea;rcases h8 with⟨_,h0⟩|⟨b,cp,cs2,ev,hB2,k1,k2,k3,k4,k5⟩;·exact absurd h0 F
   have m:wr.cell? (ay g j)=some (dh b (bs.getD j []).length cp):=by
    rw[hB.cell];have:(cs.take (vs.length*1))[j]?=vs[j]?:=by rw[BN]
    rw[qm6,bM aj]at this;rw[this,<-ev,qly,qm3 p];rfl
   have Z:=run_convert_bytes_back (P:=prog) wr 60 9 5 (ay b 0) cp (bs.getD j []) u29 bO u9 (fun i u=>by
    rw[qmb,qm5,hB2.cell];have:(cs2.take (bs.getD j []).length)[i]?=(bX (bs.getD j []))[i]?:=by rw[k4]
    rw[qm6,bM u]at this;rw[this];generalize bs.getD j []=B at u ⊢;simp[bX,u])
   obtain⟨v6,w6,jl,run,D,K,L⟩:=d.app HT.out p aj;obtain⟨o6,_⟩:=L b (by rw[ev];rfl);have J:(vs.getD j Vh).ownBlock=some b:=by rw[ev];rfl
   have E:Ji w6 b (bs.getD j []).length:=by
    rcases K with⟨e,_⟩|⟨g3,cp3,cs3,ev3,hB3,q1,q2,_⟩;·rw[ev]at e;cases e
    ·rw[ev]at ev3;simp only[qn4,qng,qnw]at ev3;obtain⟨⟨rfl,_,_⟩,_,rfl⟩:=ev3;exact⟨cs3.toArray,(0,0),hB3,by rw[qp1];omega,.inr rfl⟩
   have k:Hid (PlS oZ s t w S bw bl bi M' (dh g n c) vs bs (j+1) v6 jl w6/\Ji w6 b (bs.getD j []).length):=⟨D,E⟩;have A:=aF (dw J o6);simp only[sV]at run;clear en d D E K L o6 J hB hB2 k1 k2 k3 k4 k5 ev h9 ho hc1 hc2 hc3 hc4 BN T F;generalize bs.getD j []=B at *
   obtain⟨y,H⟩:=bT B.length;rw[<-H]at m Z k Y;clear H;go_wp2_with (first|(at_builtin;refine qmm _ rfl _ _ _ _ rfl _ _ rfl rfl _ _ (run _) ?_)|go_in);go_loopw [21] (fun r O=>∃i:Nat,i<=y/\r=(iZ i)/\Hid (PlS oZ s t w S bw bl bi M' (dh g n c) vs bs (j+1) v6 jl O/\Ji O b y)) (fun r _=>y-(eB r).toNat);case atStart=>exact⟨0,qm2 _,rfl,k⟩
   case round=>
    obtain⟨i,u,rfl,f⟩:=hrel;clear k;by_cases o:i<y
    ·have he:(i:Int)<(y:Int):=aj;obtain⟨⟨v,e1⟩,e2⟩:=f.out.2.cell i o;have HS:=aF (dw (f.out.1.set HT.out b A.out.1 A.out.2 i (.int .u8 33)) (f.out.2.set i (.int .u8 33)));go_wp2;go_roundw;case rel=>exact⟨i+1,aj,aM,HS⟩
     case measure=>simp[eB];omega
    ·obtain rfl:i=y:=aj;go_wp2;go_roundw;case rel=>exact⟨j+1,aj,aM,jl,f.out.1⟩
     case measure=>simp[eB];omega
  ·obtain rfl:j=n:=aj;go_wp2;go_ret;obtain⟨R,d⟩:=T.out;obtain⟨l,vc,hS⟩:=d.sd;have hl:=HL.out;have M:=d.st;have G:=d.ln;rw[qmo aj,show j=bs.length by omega]at M;exact⟨_,rfl,M',bs,R,l,vc,HM.out,hS,d.gd,M,d.kp⟩
def OG(t:Nat)(C S:Nat){M:av}(B:av){bw bl bi:Nat}{Y:WA}(h:fH oZ s w S l M bw bl bi Y)(G:w.cell? (ay C 0)=some (aJ S 0))(H:Gd oZ w)(J:0<t/\(t<s\/s+60<=t))(g:gM M)(p:eH M B)(u:eH B M)(d:Bd M)(y:M.next+24<dH)(i:M.aW<18446744073709551616):WB prog 40 #[aJ C 0] w fun e n=>∃x,e=.returned x/\PlT oZ s t w S bw bl bi (fun M' bs=>∃b,M.kQ M' b/\bs=pkB b) x n:=by
 refine Lc oZ s t C S bw bl bi w h.s0 J _ ?_ ?_;·rintro M' bs ⟨b,I,rfl⟩;have o:=DK g p u d y I;have:=o.next;have:=o.top;unfold pkB;rw[qmc];refine⟨aj,fun j v=>?_⟩;rw[qly,qn8,qm3 v];have q:=(o.ok _ (qmz v)).1.sz;have:=d.mt;simp only[Option.map_some,qpw];have e:(bP b[j].1 b[j].2).length=(fQ b[j].1 b[j].2).length+4:=sW _ _;exact⟨fun E=>by rw[E]at e;simp at e,aj⟩
 ·refine OA C S w G _ ((Oe h H g.kW M.lS (PP B (M.next+24)) mu (pkp B _ y) ?_ ?_ ?_).mono ?_);·refine bH (qap h d i aj) ?_;rintro n ⟨c,V,N,A,X,k,m⟩;exact⟨rfl,c,N,A,X,V,k,m⟩
  ·intro gy W A c Z a F;have f:=KI d a;exact qbd F (bR f.cm.ln) (fun r z=>by
    have:=f.cm.hi r z;have:=f.cm.so.le r z;unfold dH at *
    omega)
  ·intro c a;obtain⟨O,P,p3⟩:=DF g p u d a;exact⟨O,P,aj⟩
  ·rintro e n ⟨c,vl,vs,D,L,K,dV,k,rfl,m,Q,R,T,U,q7⟩;exact⟨vl,rfl,_,_,vs,D,L,K,⟨_,⟨c,k,rfl⟩,rfl⟩,m,Q,R,T,U⟩
end
section
structure Ad where
 N:Nat
 xb:Nat
 xc:Nat
 eb:Nat
 ec:Nat
 gb:Nat
 gc:Nat
 nb:Nat
 nc:Nat
 cb:Nat
 cc:Nat
 el:Nat->Nat
 Gl:Nat->Nat
 e:Nat->Nat->Nat
 C:Nat->Nat
 S:Nat->Nat
 bw:Nat->Nat
 bl:Nat->Nat
 bi:Nat->Nat
 bF:Nat
 dW:Nat
 iF:Nat
def Cst(oZ:Own)(w:Wq)(b j:Nat)(v:WA):Prop:=w.cell? (ay b j)=some v/\180<=oZ b/\oZ b<200
def Cst.kp{b:Nat}(h:Cst oZ w b j v)(K:Kp T oZ aQ w w')(d:∀x∈T,¬(180<=x/\x<200)):Cst aQ w' b j v:=by have c:b<w.heap.size:=qmf w (ay b j) (by rw[h.1]);exact⟨cell_of h.1 (K.bY b c (fun e=>d _ e h.2)),by rw[K.ext b c];exact h.2⟩
def qbe(a:Ad)(now:Nat)(vb:WA):bJ:=
 [dh a.xb 2 a.xc,dh a.eb 2 a.ec,dh a.gb 2 a.gc,dh a.nb 2 a.nc,uZ now,iZ a.bF,iZ a.dW,iZ a.iF,vb,dh a.cb 2 a.cc]
def Ot.kept(o:Ot):Nat:=if o.nt.bN then o.aB.length else 0
def Eb(o:Ot)(i:eU):bJ:=[.string ⟨o.all.toArray⟩,.bool o.bG,.bool o.nt.bN,iZ o.kept,iZ i.aY,iZ i.state]
def gmC(g:Gm):bJ:=[uZ g.id,uZ g.dl,.string g.data,.bool g.aP]
def GmM(oZ:Own)(w:Wq)(i:Nat)(v:WA)(L:List Gm):Prop:=
 ∃b:List Nat,GT oZ (205+i) 52 1 w v L.length (b.map fun p=>(aJ p 0))/\b.length=L.length/\b.Nodup/\∀j,j<L.length->aL w (b.getD j 0) 51 (gmC (L.getD j vN))/\oZ (b.getD j 0)=207+i
def GmM.kp{oZ aQ:Own}{w w':Wq}{i:Nat}{v:WA}{L:List Gm}{T:List Nat}(h:GmM oZ w i v L)(K:Kp T oZ aQ w w')(e:205+i∉T)(f:207+i∉T):GmM aQ w' i v L:=by obtain⟨k,a,b,c,d⟩:=h;refine⟨k,a.kp K e,b,c,fun j g=>?_⟩;obtain⟨p,q⟩:=d j g;exact⟨bU p K (by rw[q];exact f),by rw[K.ext _ p.lt];exact q⟩
def ends(n:Net)(i k:Nat):bJ:=Eb ((n.x i).out k) ((n.x (1-i)).cK k)
def jG(l:List (Nat×Nat×List Fr)):bJ:=l.flatMap fun y=>[iZ y.1,sV (bP y.2.1 y.2.2)]
structure dQ (oZ:Own) (w:Wq) (a:Ad) (n:Net) (vb:WA) (E:Nat->Nat->bJ):Prop where
 ou:aL w a.N 48 (qbe a n.now vb)/\oZ a.N=200
 xs:∀i,i<2->Cst oZ w a.xb i (aJ (a.C i) 0)
 es:∀i,i<2->Cst oZ w a.eb i (dh (a.el i) 8 (a.Gl i))
 el:∀i k,i<2->k<8->Cst oZ w (a.el i) k (aJ (a.e i k) 0)
 en:∀i k,i<2->k<8->aL w (a.e i k) 80 (E i k)/\oZ (a.e i k)=210+8*i+k
 gs:(∃r,aL w a.gb 49 (n.gv 0::n.gv 1::r))/\oZ a.gb=201
 gt:∀i,i<2->GmM oZ w i (n.gv i) (n.gr i)
 ns:(∃r,aL w a.nb 43 ((uZ (n.nx 0:Int))::(uZ (n.nx 1:Int))::r))/\oZ a.nb=202
 ct:(∃r,aL w a.cb 43 ((uZ (n.kS 0:Int))::(uZ (n.kS 1:Int))::r))/\oZ a.cb=203
 bg:GT oZ 204 62 2 w vb n.dI.length (jG n.dI)
 sd:∀i,i<2->∃l vc,fH oZ (60*(i+1)) w (a.S i) l (n.x i) (a.bw i) (a.bl i) (a.bi i) vc
 cn:∀i,i<2->w.cell? (ay (a.C i) 0)=some (aJ (a.S i) 0)/\oZ (a.C i)=0
 gd:Gd oZ w
 er:g_ w
 o0:oZ 0=0
section
variable {oZ aQ:Own} {w w':Wq} {a:Ad} {n n':Net} {vb Ec:WA} {E E':Nat->Nat->bJ} {T:List Nat}
def dQ.turn(h:dQ oZ w a n vb E)(K:Kp T oZ aQ w w')(m:0∉T)(d:∀x∈T,¬(180<=x/\x<200)/\x≠201/\x≠202/\¬(205<=x/\x<209))(B:aL w' a.N 48 (qbe a n'.now Ec))(en:∀i k,i<2->k<8->aL w' (a.e i k) 80 (E' i k))(y:∃r,aL w' a.cb 43 ((uZ (n'.kS 0:Int))::(uZ (n'.kS 1:Int))::r))(v:GT aQ 204 62 2 w' Ec n'.dI.length (jG n'.dI))(C:∀i,i<2->∃l D,fH aQ (60*(i+1)) w' (a.S i) l (n'.x i) (a.bw i) (a.bl i) (a.bi i) D)(z:n'.gv=n.gv/\n'.gr=n.gr/\n'.nx=n.nx:=by exact⟨rfl,rfl,rfl⟩):dQ aQ w' a n' Ec E':=by
 have F:=h.gd.sz;have s:=fun x A=>(d x A).1;obtain⟨f,t,u⟩:=z;refine⟨⟨B,by rw[K.ext _ h.ou.1.lt];exact h.ou.2⟩,fun i b=>(h.xs i b).kp K s,fun i b=>(h.es i b).kp K s,fun i k b g=>(h.el i k b g).kp K s,fun i k b g=>⟨en i k b g,by rw[K.ext _ (h.en i k b g).1.lt];exact(h.en i k b g).2⟩,?_,?_,?_,⟨y,?_⟩,v,C,fun i b=>?_,h.gd.kp K m,?_,by rw[K.ext 0 aj];exact h.o0⟩;·obtain⟨⟨r,c⟩,o⟩:=h.gs;rw[f];exact⟨⟨r,bU c K (by rw[o];exact fun e=>(d _ e).2.1 rfl)⟩,by rw[K.ext _ c.lt];exact o⟩
 ·intro i b;rw[f,t];exact(h.gt i b).kp K (fun e=>(d _ e).2.2.2 ⟨aj,aj⟩) (fun e=>(d _ e).2.2.2 ⟨aj,aj⟩)
 ·obtain⟨⟨r,c⟩,o⟩:=h.ns;rw[u];exact⟨⟨r,bU c K (by rw[o];exact fun e=>(d _ e).2.2.1 rfl)⟩,by rw[K.ext _ c.lt];exact o⟩
 ·obtain⟨⟨r,c⟩,o⟩:=h.ct;rw[K.ext _ c.lt];exact o
 ·obtain⟨p,q⟩:=h.cn i b;have j:a.C i<w.heap.size:=qmf w (ay (a.C i) 0) (by rw[p]);exact⟨cell_of p (K.bY _ j (by rw[q];exact m)),by rw[K.ext _ j];exact q⟩
 ·exact cell_of h.er (K.bY 0 aj (by rw[h.o0];exact m))
def dQ.xJ(h:dQ oZ w a n vb E)(K:Kp T oZ aQ w w')(b:200∉T):aL w' a.N 48 (qbe a n.now vb):=bU h.ou.1 K (by rw[h.ou.2];exact b)
def dQ.AU(h:dQ oZ w a n vb E)(K:Kp T oZ aQ w w')(i k:Nat)(b:i<2)(c:k<8)(d:210+8*i+k∉T):aL w' (a.e i k) 80 (E i k):=bU (h.en i k b c).1 K (by rw[(h.en i k b c).2];exact d)
def dQ.Ed(h:dQ oZ w a n vb E)(K:Kp T oZ aQ w w')(c:203∉T):∃r,aL w' a.cb 43 ((uZ (n.kS 0:Int))::(uZ (n.kS 1:Int))::r):=by obtain⟨⟨r,b⟩,o⟩:=h.ct;exact⟨r,bU b K (by rw[o];exact c)⟩
def dQ.AV(h:dQ oZ w a n vb E)(K:Kp T oZ aQ w w')(i:Nat)(f:i<2)(d:∀x∈T,x<60*(i+1)\/60*(i+1)+45<=x/\x≠60*(i+1)+53/\x≠60*(i+1)+54/\x≠60*(i+1)+55):∃l b,fH aQ (60*(i+1)) w' (a.S i) l (n.x i) (a.bw i) (a.bl i) (a.bi i) b:=by obtain⟨l,b,c⟩:=h.sd i f;exact⟨l,b,c.kp K (fun x p q e=>bR (d x e))⟩
def dQ.kp(h:dQ oZ w a n vb E)(K:Kp T oZ aQ w w')(b:∀x∈T,226<=x):dQ aQ w' a n vb E:=
 h.turn K (fun e=>bR (b _ e)) (fun x e=>bR (b x e)) (h.xJ K (fun e=>bR (b _ e))) (fun i k c d=>h.AU K i k c d (fun e=>bR (b _ e))) (h.Ed K (fun e=>bR (b _ e))) (h.bg.kp K (fun e=>bR (b _ e))) (fun i c=>h.AV K i c fun x f=>.inr (bR (b x f)))
def dQ.below(h:dQ oZ w a n vb E)(b:bE w w'):dQ oZ w' a n vb E:=h.kp (Kp.below (T:=[]) b) aM
def dQ.side(h:dQ oZ w a n vb E)(K:Kp T oZ aQ w w')(i:Nat)(o:i<2)(b:∀x∈T,(60*(i+1)<=x/\x<60*(i+1)+60)\/226<=x)(M:av)(d:∃l m,fH aQ (60*(i+1)) w' (a.S i) l M (a.bw i) (a.bl i) (a.bi i) m):dQ aQ w' a (n.dA i M) vb E:=by
 refine h.turn K (fun e=>bR (b _ e)) (fun x e=>bR (b x e)) (h.xJ K (fun e=>bR (b _ e))) (fun j k c f=>h.AU K j k c f (fun e=>bR (b _ e))) (h.Ed K (fun e=>bR (b _ e))) (h.bg.kp K (fun e=>bR (b _ e))) (fun j c=>?_);by_cases e:j=i;·subst e;rw[fV];exact d
 ·rw[iH _ _ _ _ e];exact h.AV K j c fun x g=>bR (b x g)
def dQ.vS(h:dQ oZ w a n vb E)(d:∀i k,i<2->k<8->E i k=E' i k):dQ oZ w a n vb E':=
 ⟨h.ou,h.xs,h.es,h.el,fun i k b c=>by rw[<-d i k b c];exact h.en i k b c,h.gs,h.gt,h.ns,h.ct,h.bg,h.sd,h.cn,h.gd,h.er,h.o0⟩
def dQ.OH(h:dQ oZ w a n vb E)(i k:Nat)(d:i<2)(l:k<8)(j:Nat)(v:WA):dQ oZ (w.setCell (ay (a.e i k) j) v) a n vb (fun b c=>if b=i/\c=k then(E i k).set j v else E b c):=by
 have m:=(h.en i k d l).2;have K:Kp [210+8*i+k] oZ oZ w (w.setCell (ay (a.e i k) j) v):=Kp.set oZ w _ v _ (by rw[m];simp);refine h.turn K rR rR (h.xJ K rR) (fun b c f g=>?_) (h.Ed K rR) (h.bg.kp K rR) (fun i d=>h.AV K i d fun x o=>.inr (by simp at o;omega));by_cases e:b=i/\c=k;·rw[bM e,e.1,e.2];exact(h.en i k d l).1.setCell j v
 ·rw[aV e];exact h.AU K b c f g rR
def dQ.qf8(h:dQ oZ w a n vb E)(t:Nat):dQ oZ (w.setCell (ay a.N 4) (uZ t)) a {n with now:=t} vb E:=by have K:Kp [200] oZ oZ w (w.setCell (ay a.N 4) (uZ t)):=Kp.set oZ w _ _ _ (by rw[h.ou.2];simp);exact h.turn K aM aM (h.ou.1.setCell 4 _) (fun i k b c=>h.AU K i k b c rR) (h.Ed K aM) (h.bg.kp K aM) (fun i b=>h.AV K i b fun x d=>.inr (by simp at d;omega))
def dQ.X4(h:dQ oZ w a n vb E)(l:List (Nat×Nat×List Fr))(c:GT oZ 204 62 2 w Ec l.length (jG l)):dQ oZ (w.setCell (ay a.N 8) Ec) a {n with dI:=l} Ec E:=by have K:Kp [200] oZ oZ w (w.setCell (ay a.N 8) Ec):=Kp.set oZ w _ _ _ (by rw[h.ou.2];simp);exact h.turn K aM aM (h.ou.1.setCell 8 _) (fun i k b d=>h.AU K i k b d rR) (h.Ed K aM) (c.kp K aM) (fun i b=>h.AV K i b fun x e=>.inr (by simp at e;omega))
def dQ.qhr(h:dQ oZ w a n vb E)(i:Nat)(b:i<2)(c:Nat):dQ oZ (w.setCell (ay a.cb i) (uZ c)) a {n with kS:=fun j=>if j=i then c else n.kS j} vb E:=by
 have K:Kp [203] oZ oZ w (w.setCell (ay a.cb i) (uZ c)):=Kp.set oZ w _ _ _ (by rw[h.ct.2];simp);obtain⟨⟨r,d⟩,o⟩:=h.ct;refine h.turn K aM aM (h.xJ K aM) (fun i k b e=>h.AU K i k b e rR) ⟨r,?_⟩ (h.bg.kp K aM) (fun i b=>h.AV K i b fun x f=>.inr (by simp at f;omega));have:=d.setCell i (uZ c);rcases(show i=0\/i=1 by omega)with rfl|rfl;·exact this
 ·exact this
end

end
def qbf{S:Nat}(o:Nat)(g:Nt)(x:Nat)(w:Wq)(a:aL w S TS l)(h:wV l o g):qH 187 #[aJ S o,uZ x] w (.tuple #[]) fun p=>∃b,f_ w p S l b o 4/\wV b o (g.zD x):=by
 have f:w.cell? (ay S o)=some (.bool g.bN):=by rw[a.cell];exact h.c0
 have q:w.cell? (ay S (o+1))=some (uZ g.aC):=by rw[a.cell];exact h.c1
 have r:w.cell? (ay S (o+2))=some (uZ g.gK):=by rw[a.cell];exact h.c2
 have s:w.cell? (ay S (o+3))=some (uZ g.aP):=by rw[a.cell];exact h.c3
 have f0:=a.frozen o;have f1:=a.frozen (o+1);have f2:=a.frozen (o+2);have f3:=a.frozen (o+3);have m:=a.lt;cases c:g.bN with
 |true=>have d:Hid (∃b,f_ w w S l b o 4/\wV b o (g.zD x)):=⟨l,f_.refl a _ _,by unfold Nt.zD;rw[bM c];exact h⟩;rw[c]at f;clear h a;go_enter func187,ntmps187;go_wp2;go_end0;exact⟨rfl,d.out⟩
 |false=>
  have d:Hid (∃b,f_ w ((((w.setCell (ay S o) (.bool true)).setCell (ay S (o+1)) (uZ x)).setCell (ay S (o+2)) (uZ 18446744073709551615)).setCell (ay S (o+3)) (uZ 18446744073709551615)) S l b o 4/\wV b o (g.zD x)):=by
   have i:=f_.one a o (.bool true) o 4 (qj _) aj;have j:=i.trans (f_.one i.bY (o+1) (uZ x) o 4 aj aj);have k:=j.trans (f_.one j.bY (o+2) (uZ 18446744073709551615) o 4 aj aj);have n:=k.trans (f_.one k.bY (o+3) (uZ 18446744073709551615) o 4 aj aj);refine⟨_,n,?_⟩;have e:g.zD x=⟨true,x,UT,UT⟩:=by unfold Nt.zD;rw[aV (by rw[c];decide)]
   rw[e];exact⟨by rw[aA _ _ _ _ aj,aA _ _ _ _ aj,aA _ _ _ _ aj];exact cB _ _ _ _ h.c0,by rw[aA _ _ _ _ aj,aA _ _ _ _ aj];exact cB _ _ _ _ ((aA _ _ _ _ aj).trans h.c1),by rw[aA _ _ _ _ aj];exact cB _ _ _ _ (by rw[aA _ _ _ _ aj,aA _ _ _ _ aj];exact h.c2),cB _ _ _ _ (by rw[aA _ _ _ _ aj,aA _ _ _ _ aj,aA _ _ _ _ aj];exact h.c3)⟩
  rw[c]at f;clear h a;go_enter func187,ntmps187;go_wp2;go_end0;exact⟨rfl,d.out⟩
def qf9(a:Int)(len:Nat):∃(x:Int) (n:Nat),(∀b t w,(Builtin.max_ b t #[iZ a,iZ 0]).run prog w=.ok (iZ x) w)/\(∀b t w,(Builtin.min_ b t #[iZ x,iZ len]).run prog w=.ok (iZ n) w)/\n=min (max a 0).toNat len:=by obtain⟨x,e,c⟩:=qd1 a 0;obtain⟨y,f,d⟩:=Pp x (len:Int);refine⟨x,min (max a 0).toNat len,e,fun b t w=>?_,rfl⟩;rw[f,d,c];have:min (max a 0) (len:Int)=((min (max a 0).toNat len:Nat):Int):=aj;rw[this]
def X5(s t:Nat){S:Nat}(o:Nat)(m:Ot)(p:Int)(r:aL w S TS l)(Y:oZ S=s)(h3:s<t)(F:Bo oZ t w S l o m)(hn:m.aB.length<=2048):qH 149 #[aJ S o,iZ p] w (.tuple #[]) fun i=>jU s t oZ S o l w (m.reset p) i:=by
 obtain⟨a,c,va,vc,H,hc,I,J,L,d0,Q,R,T,d7⟩:=F.open r;obtain⟨x,n,hx,hy,en⟩:=qf9 p m.aB.length;obtain⟨z,hz,D⟩:=max2 m.dB n;obtain⟨W,v⟩:=bT (w.setCell (ay S o) (.slice a n n));have k:f_ w W S l (l.set o (.slice a n n)) o 14:=by rw[v];exact f_.one r o _ o 14 (qj _) aj
 have f0:=r.frozen o;have h2:n<=m.aB.length:=aj;have d:=Fx H (.slice a n n) (m.aB.take n);have N:Hid (∀q,qH 187 #[(aJ S (o+2)),uZ z] (W.drewN q) (.tuple #[]) fun i=>jU s t oZ S o l w (m.reset p) i):=fun q=>by
  have k:=k.drewN q;refine bH (qbf (o+2) m.nt z (W.drewN q) k.bY d.nt) ?_;rintro i ⟨M,E,X⟩;have A:=k.trans (E.mono (o':=o) (n':=14) aj aj);have K:Kp [s] oZ oZ w i:=A.kp Y aM;have V:m.reset p={m with aB:=m.aB.take n,nt:=m.nt.zD z}:=by rw[D,en];rfl
  rw[V];have f:∀j,j<o+2\/o+6<=j->M[j]?=(l.set o (.slice a n n))[j]?:=fun j hj=>E.dW.2 j aj;refine⟨rfl,oZ,M,K.mono aM,A.bY,A.dW,.slice a n n,va,vc,⟨by rw[f _ aj];exact d.c0,by rw[f _ aj];exact d.c1,X,by rw[f _ aj];exact d.c6,by rw[f _ aj];exact d.c7,by rw[f _ aj];exact d.c8,by rw[f _ aj];exact d.c9,by rw[f _ aj];exact d.uh,by rw[f _ aj];exact d.w9,by rw[f _ aj];exact d.xO,by rw[f _ aj];exact d.c13⟩,?_,J.kp K rR,L.kp K rR⟩;have g:=I.kp K rR;have G:(m.aB.take n).length=n:=by rw[qm8];omega
  show GT oZ t 5 1 i (.slice a n n) (m.aB.take n).length (bX (m.aB.take n));rw[G];rcases g with⟨e,B,C⟩|⟨b,cap,P,e1,B,C,e4,e5,e6,e7,e8,U⟩;·have n0:n=0:=aj;injection e with u;subst n0;refine .inl ⟨by rw[u],rfl,rfl⟩
  ·injection e1 with u eb ec;rw[u];refine .inr ⟨b,n,P,rfl,B,C,aj,qj _,aj,?_,?_,U⟩;·unfold bX;rw[qmc,G];omega
   ·have:bX (m.aB.take n)=(bX m.aB).take n:=by unfold bX;rw[List.map_take]
    rw[this,<-e8,qpe];congr 1
    omega
 have z7:W.cell? (ay S (o+7))=some (uZ m.dB):=by rw[k.bY.cell];exact d.c7
 have z0:W.cell? (ay S o)=some (.slice a n n):=by rw[k.bY.cell];exact d.c0
 have O:Hid (∀q,qH 188 #[aJ S o] (W.drewN q) (uZ n) fun i=>i=W.drewN q):=fun q=>o_ S o n n a (W.drewN q) aj z0;have h0:(n:Int)<=(c:Int):=aj;have Z:(n:Int)<=2048:=aj;clear r F H I J L d k en D Q R T;generalize m.dB=sn at *
 generalize m.aB.length=bl at *
 go_enter func149,ntmps149;go_wp2_with fail;rw[<-v];clear v;go_region_with (first|(go_at_call 188;refine bH (O.out _) ?_;rintro y rfl)|(go_at_call 187;refine bH (N.out _) ?_;rintro i hq));all_goals(go_wp2;go_end0;exact⟨rfl,hq⟩)
def X6{S:Nat}{M:av}{bw bl bi:Nat}{m:WA}(k:Nat)(c:k<8)(b:Int)(h:fH oZ s w S l M bw bl bi m)(j:M.kW=0)(g:(M.out k).aB.length<=2048):WB prog 110 #[aJ S 0,iZ k,iZ b] w fun e a=>e=.returned .nilIface/\iE s oZ w S bw bl bi (M.dD k ((M.out k).reset b)) a:=by have f:=aF (vF S k c w (h.open j));have d:=aF ((X5 s (s+1+5*k) (4+27*k) (M.out k) b h.bY h.ow aj (h.out k c) g).mono fun e a (q:_/\_)=>(⟨q.1,h.dD k c _ q.2⟩:e=.returned (.tuple #[])/\iE s oZ w S bw bl bi (M.dD k ((M.out k).reset b)) a));go_enter func110,ntmps110;go_wp2_with (first|(go_at_call 146;refine bH f.out ?_;rintro a rfl)|(go_at_call 149;refine bH d.out ?_;rintro a i)|go_in);go_ret;exact⟨rfl,i⟩
def X7(C S:Nat)(w:Wq)(d:w.cell? (ay C 0)=some (aJ S 0))(k c:Int)(R:Wq->Prop)(h:WB prog 110 #[aJ S 0,iZ k,iZ c] w fun e a=>e=.returned .nilIface/\R a):WB prog 63 #[aJ C 0,iZ k,iZ c] w fun e a=>e=.returned .nilIface/\R a:=by have g:=aF (ni C S w d);have f:=aF h;clear h d;go_enter func63,ntmps63;go_wp2_with (first|(go_at_call 65;refine bH g.out ?_;rintro a l;have b:=l.symm;subst b)|(go_at_call 110;refine bH f.out ?_;rintro a j;have i:=aF j));go_ret;exact⟨rfl,i.out⟩
def X8(C S:Nat){M:av}{bw bl bi:Nat}{z:WA}(k:Nat)(t:k<8)(a:Int)(h:fH oZ s w S l M bw bl bi z)(n:w.cell? (ay C 0)=some (aJ S 0))(o:M.kW=0)(u:(M.out k).aB.length<=2048)(c:g_ w)(j:oZ 0∉T0 s):qH 36 #[aJ C 0,iZ k,iZ a] w (iZ 0) fun d=>iE s oZ w S bw bl bi (M.dD k ((M.out k).reset a)) d:=by
 have p:=aF (X7 C S w n k a _ (X6 k t a h o u));have e:0<w.heap.size:=qmf w (ay 0 0) (by unfold g_ at c;rw[c]);have q:Hid (∀b,iE s oZ w S bw bl bi (M.dD k ((M.out k).reset a)) b->qH 60 #[.nilIface] b (iZ 0) fun d=>iE s oZ w S bw bl bi (M.dD k ((M.out k).reset a)) d):=fun b f=>by obtain⟨x,v,y,r,i⟩:=f;refine bH (qo 0 (.inl rfl) b (cell_of c (i.bY 0 e j))) ?_;rintro d m;exact⟨rfl,x,v,y,r.below m,i.iA m⟩
 clear h n o c j;go_enter func36,ntmps36;go_wp2_with (first|(go_at_call 63;refine bH p.out ?_;rintro b f)|(go_at_call 60;refine bH (q.out _ f) ?_;rintro A g));go_ret;exact⟨rfl,g⟩
section
section
variable {oZ:Own} {w:Wq} {a:Ad} {n:Net} {vb:WA} {E:Nat->Nat->bJ}
def dQ.cells(h:dQ oZ w a n vb E):w.cell? (ay a.N 0)=some (dh a.xb 2 a.xc)/\w.cell? (ay a.N 1)=some (dh a.eb 2 a.ec)/\w.cell? (ay a.N 2)=some (dh a.gb 2 a.gc)/\w.cell? (ay a.N 4)=some (uZ n.now)/\w.cell? (ay a.N 5)=some (iZ a.bF)/\w.cell? (ay a.N 8)=some vb/\w.cell? (ay a.N 9)=some (dh a.cb 2 a.cc):=
 ⟨by rw[h.ou.1.cell];rfl,by rw[h.ou.1.cell];rfl,by rw[h.ou.1.cell];rfl,by rw[h.ou.1.cell];rfl,by rw[h.ou.1.cell];rfl,by rw[h.ou.1.cell];rfl,by rw[h.ou.1.cell];rfl⟩
def jr(now:Nat)(m:Nat×ByteArray):List Gm->Bool->List Gm×Bool
 |[],b=>([],b)
 |g::t,b=>
  if g.id=m.1 then({g with aP:=true}::(jr now m t (decide (g.data=m.2)&& !g.aP&&decide (now<=g.dl))).1,(jr now m t (decide (g.data=m.2)&& !g.aP&&decide (now<=g.dl))).2)
  else(g::(jr now m t b).1,(jr now m t b).2)
def ig(now:Nat):List (Nat×ByteArray)->List Gm->List Gm×Bool
 |[],L=>(L,true)
 |m::t,L=>if(jr now m L false).2 then ig now t (jr now m L false).1 else((jr now m L false).1,false)
def Net.sj(n:Net)(i:Nat)(L:List Gm):Net:={n with gr:=fun j=>if j=i then L else n.gr j}
def Ya:GK 46 62 (.agg #[iZ 0,.string ⟨#[]⟩]) 2 24:=⟨bO,bO,fun n=>by simp[fA,fE],fun n v b=>by simp[fA,fE]at b;obtain⟨i,_,rfl⟩:=b;rcases(show i % 2=0\/i % 2=1 by omega)with h|h<;>rw[h]<;>rfl,aj⟩
def Le:∀(l:List (Nat×Nat×List Fr)),(jG l).length=l.length*2
 |[]=>rfl
 |y::t=>by have:=Le t;unfold jG at this ⊢;rw[qor,qm0,this];simp;omega
def Gp:∀(l:List (Nat×Nat×List Fr)) (k:Nat),jG (l.take k)=(jG l).take (k*2)
 |[],k=>by simp[jG]
 |_::_,0=>by simp[jG]
 |y::t,k+1=>by have:=Gp t k;unfold jG at this ⊢;rw[List.take_succ_cons,qor,qor,this,show(k+1)*2=k*2+2 by omega];rfl
def vO:∀(l:List (Nat×Nat×List Fr)) (k:Nat),jG (l.drop k)=(jG l).drop (k*2)
 |[],k=>by simp[jG]
 |_::_,0=>by simp[jG]
 |y::t,k+1=>by have:=vO t k;unfold jG at this ⊢;rw[List.drop_succ_cons,qor,this,show(k+1)*2=k*2+2 by omega];rfl
def Lg(l m:List (Nat×Nat×List Fr)):jG (l++m)=jG l++jG m:=by unfold jG;rw[List.flatMap_append]
def Lh:∀(l:List (Nat×Nat×List Fr)),∀v∈jG l,v.oneCell'=true
 |[],v,hv=>by cases hv
 |y::t,v,hv=>by
  unfold jG at hv;rw[qor]at hv;rcases qm7.1 hv with hv|hv;·simp[sV]at hv;rcases hv with rfl|rfl<;>rfl
  ·exact Lh t v hv
def zh(oZ:Own)(t u:Nat):Own:=fun b=>if oZ b=t then u else oZ b
def GT.zh{oZ:Own}{t u:Nat}{e:TypeId}{k:Nat}{w:Wq}{v:WA}{n:Nat}{l:bJ}(h:GT oZ t e k w v n l):GT (Sd.zh oZ t u) u e k w v n l:=by
 rcases h with h|⟨g,cap,b,c,d,f⟩;·exact .inl h
 ·exact .inr ⟨g,cap,b,c,by unfold Sd.zh;rw[bM d],f⟩
def Kp.zh{oZ aQ:Own}{w w':Wq}{t u:Nat}(K:Kp [t] oZ aQ w w')(d:∀b,b<w.heap.size->oZ b≠t):Kp [] oZ (Sd.zh aQ t u) w w':=
 ⟨K.os,K.tape,K.output,K.size,fun b c _=>K.bY b c (by simp;exact d b c),fun b c=>by unfold Sd.zh;rw[K.ext b c,aV (d b c)]⟩
def qbj(h:dQ oZ w a n vb E)(k:Nat)(hk:k<n.dI.length)(hl:n.dI.length<=1000000000):qH 67 #[aJ a.N 0,iZ k] w (.tuple #[]) fun W=>∃G s,dQ s W a {n with dI:=n.dI.eraseIdx k} G E/\Kp [200] oZ s w W:=by
 obtain⟨R,M,y⟩:=vM oZ 300 w.heap.size;obtain⟨_,_,_,_,_,c8,_⟩:=h.cells;have f8:=h.ou.1.frozen 8;obtain⟨L,I⟩:=bT (jG n.dI);have r:=h.bg;have z:=Le n.dI;have d:=Lh n.dI;rw[<-I]at r z d;have P:=r;rcases r with⟨_,V,_⟩|⟨g,cap,cs,rfl,ho,hB,hc1,hc2,hc3,hc4,BN,hc6⟩;·omega
 have c:∀j u,L[j]?=some u->w.cell? (ay g j)=some u:=fun j u i=>by have F:j<L.length:=(qo8.1 i).1;rw[hB.cell,<-i,<-BN,qm6,bM aj]
 obtain⟨v1,w1,eG,O,o,B⟩:=fO Ya (oZ:=oZ) (g:=R) (w:=w) (v:=nZ) (n:=0) (l:=[]) (.inl ⟨rfl,rfl,rfl⟩) (ay g 0) k cap (L.take (k*2)) (by rw[qm8];omega) (fun v N=>d v (qn2 N)) (fun j u i=>by rw[qmb,qm5];have F:j<(L.take (k*2)).length:=(qo8.1 i).1;rw[qm8]at F;rw[qm6,bM aj]at i;exact c j u i) aj;rw[qm5,qmq]at o;have J:oZ g∉[R]:=by rw[ho];simp;omega
 have x:=h.kp B rR;obtain⟨_,_,_,_,_,d8,_⟩:=x.cells;obtain⟨A,hA2,hA3⟩:∃A:V3,(if cap=k+1 then some (ay g 0)else some (ay g ((k+1)*2)))=some A/\(cap≠k+1->A=(ay g ((k+1)*2))):=by
  by_cases e:cap=k+1;·exact⟨ay g 0,bM e,fun h=>absurd e h⟩
  ·exact⟨(ay g ((k+1)*2)),aV e,fun _=>rfl⟩
 obtain⟨v2,S,Z,T,q,U⟩:=fO Ya o A (n.dI.length-(k+1)) (cap-(k+1)) (L.drop ((k+1)*2)) (by rw[qms];omega) (fun v N=>d v (qo2 N)) (fun j u i=>by have F:j<(L.drop ((k+1)*2)).length:=(qo8.1 i).1;rw[qms]at F;rw[hA3 aj,qmb];rw[qmu]at i;exact cell_of (c _ u i) (B.bY g hB.lt J)) aj;rw[<-hA2]at T;have Q:=gX o;obtain⟨a1,c1,rfl⟩:=Q;obtain⟨C,D,rfl⟩:=gX q;have K:=B.trans U;have H:=K.zh (u:=204) (fun b hb=>Nat.ne_of_lt (y b hb));have f:=h.kp H aM;have t:=q.zh (u:=204);have p:dQ (zh Z R 204) (S.setCell (ay a.N 8) (.slice C (k+(n.dI.length-(k+1))) D)) a {n with dI:=n.dI.eraseIdx k} (.slice C (k+(n.dI.length-(k+1))) D) E:=by
  refine f.X4 (n.dI.eraseIdx k) ?_;have Y:jG (n.dI.eraseIdx k)=L.take (k*2)++L.drop ((k+1)*2):=by rw[List.eraseIdx_eq_take_drop_succ,Lg,Gp,vO,I]
  have V:(n.dI.eraseIdx k).length=k+(n.dI.length-(k+1)):=by rw[List.length_eraseIdx,bM hk];omega
  rw[Y,V];exact t
 have X:Hid (∃G s,dQ s (S.setCell (ay a.N 8) (.slice C (k+(n.dI.length-(k+1))) D)) a {n with dI:=n.dI.eraseIdx k} G E/\Kp [200] oZ s w (S.setCell (ay a.N 8) (.slice C (k+(n.dI.length-(k+1))) D))):=
  ⟨_,_,p,(H.mono aM).trans (Kp.set _ _ _ _ _ (by rw[f.ou.2];simp))⟩
 have f82:=f.ou.1.frozen 8;obtain⟨_,_,_,_,_,e8,_⟩:=f.cells;clear hA2 hA3 p f t H K q U x o B c hB hc1 hc4 BN hc6 P d z I h y M;generalize n.dI.length=m at *
 generalize n.dI.eraseIdx k=B2 at *
 have h0:(k:Int)<=(cap:Int):=aj;have h2:(k:Int)+1<=(m:Int):=aj;go_enter func67,ntmps67;go_wp2_with (first|(at_builtin;refine qmm _ rfl _ _ _ _ rfl _ _ rfl rfl _ _ (O _) ?_;clear O;(try have O:=T);(try clear T))|go_in);all_goals(go_end0;exact⟨rfl,X.out⟩)
end

end
section
def Uc(now:Nat)(m:Nat×ByteArray)(L c:List Gm)(j:Nat)(b:Bool):Prop:=
 c.length=L.length/\jr now m L false=(c.take j++(jr now m (c.drop j) b).1,(jr now m (c.drop j) b).2)
def Uc.start(now:Nat)(m:Nat×ByteArray)(L:List Gm):Uc now m L L 0 false:=⟨rfl,rfl⟩
def Uc.done{now:Nat}{L c:List Gm}(h:Uc now m L c c.length b):jr now m L false=(c,b):=by rw[h.2,qqj,qp2];simp[jr]
def Lm(l:List Gm)(j:Nat)(b:j<l.length):l.drop j=l.getD j vN::l.drop (j+1):=by rw[qnq b,qly,qm3 b];rfl
def Uc.skip{now:Nat}{L c:List Gm}(h:Uc now m L c j b)(d:j<c.length)(g:(c.getD j vN).id≠m.1):Uc now m L c (j+1) b:=by
 refine⟨h.1,h.2.trans ?_⟩;have e:jr now m (c.drop j) b=(c.getD j vN::(jr now m (c.drop (j+1)) b).1,(jr now m (c.drop (j+1)) b).2):=by rw[Lm c j d];show(if _ then _ else _)=_;rw[aV g]
 have f:c.take (j+1)=c.take j++[c.getD j vN]:=by rw[qnh,qly,qm3 d];rfl
 rw[e,f];simp
def Uc.hit{now:Nat}{L c:List Gm}(h:Uc now m L c j b)(l:j<c.length)(o:(c.getD j vN).id=m.1):Uc now m L (c.set j {c.getD j vN with aP:=true}) (j+1) (decide ((c.getD j vN).data=m.2)&& !(c.getD j vN).aP&&decide (now<=(c.getD j vN).dl)):=by
 refine⟨by rw[qn3];exact h.1,h.2.trans ?_⟩;obtain⟨g,d⟩:=bT (c.getD j vN);have e:jr now m (c.drop j) b=({g with aP:=true}::(jr now m (c.drop (j+1)) (decide (g.data=m.2)&& !g.aP&&decide (now<=g.dl))).1,(jr now m (c.drop (j+1)) (decide (g.data=m.2)&& !g.aP&&decide (now<=g.dl))).2):=by rw[Lm c j l,<-d];show(if _ then _ else _)=_;rw[bM (by rw[d];exact o)]
 rw[<-d];have f:(c.set j {g with aP:=true}).take (j+1)=c.take j++[{g with aP:=true}]:=by rw[qnh,qo0 aj,List.take_set_of_le aj];rfl
 have k:(c.set j {g with aP:=true}).drop (j+1)=c.drop (j+1):=by rw[List.drop_set_of_lt aj]
 rw[e,f,k];simp
def dQ.grm{a:Ad}{n:Net}{vb:WA}{E:Nat->Nat->bJ}(h:dQ oZ w a n vb E)(K:Kp T oZ aQ w w')(l:∀x∈T,x=201\/x=202\/205<=x/\x<209)(gv:Nat->WA)(gr:Nat->List Gm)(nx:Nat->Nat)(s:∃r,aL w' a.gb 49 (gv 0::gv 1::r))(t:∀i,i<2->GmM aQ w' i (gv i) (gr i))(v:∃r,aL w' a.nb 43 ((uZ (nx 0:Int))::(uZ (nx 1:Int))::r)):dQ aQ w' a {n with gv:=gv,gr:=gr,nx:=nx} vb E:=by
 have z:=h.gd.sz;have c:∀y,¬(y=201\/y=202\/205<=y/\y<209)->y∉T:=fun y u e=>u (l y e);have j:∀x∈T,¬(180<=x/\x<200):=fun x m=>bR (l x m);refine⟨⟨h.xJ K (c _ aj),by rw[K.ext _ h.ou.1.lt];exact h.ou.2⟩,fun i b=>(h.xs i b).kp K j,fun i b=>(h.es i b).kp K j,fun i k b f=>(h.el i k b f).kp K j,fun i k b f=>⟨h.AU K i k b f (c _ aj),by rw[K.ext _ (h.en i k b f).1.lt];exact(h.en i k b f).2⟩,⟨s,?_⟩,t,⟨v,?_⟩,⟨h.Ed K (c _ aj),?_⟩,h.bg.kp K (c _ aj),fun i b=>h.AV K i b fun x m=>.inr (bR (l x m)),fun i b=>?_,h.gd.kp K (c _ aj),?_,by rw[K.ext 0 aj];exact h.o0⟩;·obtain⟨⟨r,d⟩,o⟩:=h.gs;rw[K.ext _ d.lt];exact o
 ·obtain⟨⟨r,d⟩,o⟩:=h.ns;rw[K.ext _ d.lt];exact o
 ·obtain⟨⟨r,d⟩,o⟩:=h.ct;rw[K.ext _ d.lt];exact o
 ·obtain⟨p,q⟩:=h.cn i b;have g:a.C i<w.heap.size:=qmf w (ay (a.C i) 0) (by rw[p]);exact⟨cell_of p (K.bY _ g (by rw[q];exact c _ aj)),by rw[K.ext _ g];exact q⟩
 ·exact cell_of h.er (K.bY 0 aj (by rw[h.o0];exact c _ aj))
def Jj(eZ:Own)(w0:Wq)(a:Ad)(n:Net)(vb:WA)(E:Nat->Nat->bJ)(i:Nat)(x:WA)(ms:List (Nat×ByteArray))(L:List Gm)(w:Wq):Prop:=
 ∃b,dQ b w a (n.sj (1-i) L) vb E/\GT b (60*(i+1)+54) 118 2 w x ms.length (Rz ms)/\Kp [60*(i+1),207,208] eZ b w0 w
section
variable {eZ:Own} {w0 w:Wq} {a:Ad} {n:Net} {vb:WA} {E:Nat->Nat->bJ} {i:Nat} {x:WA} {ms:List (Nat×ByteArray)} {L:List Gm}
def Yc:∀(l:List (Nat×ByteArray)) (k:Nat) (m:Nat×ByteArray),l[k]?=some m->(Rz l)[k*2]?=some (uZ m.1)/\(Rz l)[k*2+1]?=some (.string m.2)
 |[],k,m,h=>by simp at h
 |y::t,0,m,h=>by simp at h;subst h;exact⟨rfl,rfl⟩
 |y::t,k+1,m,h=>by have:=Yc t k m (by simpa using h);rw[show(k+1)*2=k*2+1+1 by omega,show k*2+1+1+1=(k*2+1)+1+1 by omega];exact this
def Jj.msg(h:Jj eZ w0 a n vb E i x ms L w)(k:Nat)(m:Nat×ByteArray)(b:ms[k]?=some m):∃g c,x=(dh g ms.length c)/\w.cell? (ay g (k*2))=some (uZ m.1)/\w.cell? (ay g (k*2+1))=some (.string m.2):=by
 obtain⟨o,_,j,_⟩:=h;have l:k<ms.length:=(qo8.1 b).1;obtain⟨d,f⟩:=Yc ms k m b;rcases j with⟨_,e,_⟩|⟨g,cap,cs,rfl,ho,hB,hc1,hc2,hc3,hc4,BN,_⟩;·omega
 ·refine⟨g,cap,rfl,?_,?_⟩;·rw[hB.cell];rw[<-BN,qm6,bM aj]at d;exact d
  ·rw[hB.cell];rw[<-BN,qm6,bM aj]at f;exact f
def Jj.below{w':Wq}(h:Jj eZ w0 a n vb E i x ms L w)(b:bE w w'):Jj eZ w0 a n vb E i x ms L w':=by obtain⟨f,c,d,e⟩:=h;exact⟨f,c.below b,d.kp (Kp.below (T:=[]) b) aM,e.iA b⟩
def Jj.grs(h:Jj eZ w0 a n vb E i x ms L w)(m:i<2):w.cell? (ay a.N 2)=some (dh a.gb 2 a.gc)/\w.cell? (ay a.N 4)=some (uZ n.now)/\w.cell? (ay a.gb (1-i))=some (n.gv (1-i))/\∃b c,n.gv (1-i)=.slice b L.length c:=by
 obtain⟨o,d,_,_⟩:=h;obtain⟨_,_,f,j,_⟩:=d.cells;obtain⟨⟨r,k⟩,_⟩:=d.gs;refine⟨f,j,?_,?_⟩;·rw[k.cell];rcases(show i=0\/i=1 by omega)with rfl|rfl<;>rfl
 ·obtain⟨p,g,_⟩:=d.gt (1-i) aj;have e:(n.sj (1-i) L).gr (1-i)=L:=bM rfl;rw[e]at g;obtain⟨b,c,l,_⟩:=g.shape;exact⟨b,c,l⟩
def Jj.at(h:Jj eZ w0 a n vb E i x ms L w)(hi:i<2)(j:Nat)(W:j<L.length):∃o S p,n.gv (1-i)=(dh o L.length S)/\w.cell? (ay o j)=some (aJ p 0)/\w.cell? (ay p 0)=some (uZ ((L.getD j vN).id:Int))/\w.cell? (ay p 1)=some (uZ ((L.getD j vN).dl:Int))/\w.cell? (ay p 2)=some (.string (L.getD j vN).data)/\w.cell? (ay p 3)=some (.bool (L.getD j vN).aP)/\w.frozen? (ay p 3)=false/\∀b,bE w b->Jj eZ w0 a n vb E i x ms (L.set j {L.getD j vN with aP:=true}) (b.setCell (ay p 3) (.bool true)):=by
 obtain⟨d,m,U,V⟩:=h;obtain⟨l,g,J,M,y⟩:=m.gt (1-i) aj;have e:(n.sj (1-i) L).gr (1-i)=L:=bM rfl;rw[e]at g J y;obtain⟨c,H⟩:=y j W;have N:(l.map fun p=>Value.pointer (some (ay p 0)))[j]?=some (aJ (l.getD j 0) 0):=by rw[qn8,qly,qm3 aj];rfl
 have T:=g;rcases g with⟨_,e0,_⟩|⟨o,cap,cs,hv,hog,hBg,hc1,hc2,hc3,hc4,BN,hc6⟩;·omega
 refine⟨o,cap,l.getD j 0,hv,?_,c.cell 0,c.cell 1,c.cell 2,c.cell 3,c.frozen 3,fun b C=>?_⟩;·rw[hBg.cell];rw[<-BN,qm6,bM aj]at N;exact N
 obtain⟨p,f⟩:=bT (l.getD j 0);rw[<-f]at c H ⊢;have z:aL b p 51 (gmC (L.getD j vN)):=c.of_heap (C.block p c.lt);have P:Kp [207+(1-i)] d d b (b.setCell (ay p 3) (.bool true)):=Kp.set d b (ay p 3) (.bool true) _ (by rw[H];simp);have O:Kp [207+(1-i)] d d w b:=Kp.below C;have K:Kp [207+(1-i)] d d w (b.setCell (ay p 3) (.bool true)):=O.trans P;refine⟨d,?_,U.kp K rR,V.trans (K.mono rR)⟩;obtain⟨⟨r,A⟩,Y⟩:=m.gs;obtain⟨⟨r2,B⟩,Z⟩:=m.ns;have X:=m.grm K rR n.gv (n.sj (1-i) (L.set j {L.getD j vN with aP:=true})).gr n.nx ⟨r,bU A K (by rw[Y];simp;omega)⟩ (fun q D=>?_) ⟨r2,bU B K (by rw[Z];simp;omega)⟩;·exact X
 by_cases s:q=1-i
 ·subst s;have t:(n.sj (1-i) (L.set j {L.getD j vN with aP:=true})).gr (1-i)=L.set j {L.getD j vN with aP:=true}:=bM rfl;rw[t];refine⟨l,by rw[qn3];exact T.kp K aM,by rw[qn3];exact J,M,fun k F=>?_⟩;rw[qn3]at F;by_cases u:k=j
  ·subst u;have v:(L.set k {L.getD k vN with aP:=true}).getD k vN={L.getD k vN with aP:=true}:=by rw[qly,qo0 F];rfl
   rw[v,<-f];exact⟨z.setCell 3 (.bool true),H⟩
  ·have v:(L.set j {L.getD j vN with aP:=true}).getD k vN=L.getD k vN:=by
    rw[qly,qn1 (fun e=>u e.symm),<-qly]
   rw[v];obtain⟨I,Q⟩:=y k F;have G:l.getD k 0≠p:=by rw[f,qly,qly,qm3 aj,qm3 aj];exact fun e=>u ((List.getElem_inj M).1 e)
   have R:aL b (l.getD k 0) 51 (gmC (L.getD k vN)):=I.of_heap (C.block _ I.lt);exact⟨R.of_heap (qmd _ _ _ _ G),Q⟩
 ·have t:(n.sj (1-i) (L.set j {L.getD j vN with aP:=true})).gr q=(n.sj (1-i) L).gr q:=by
   unfold Net.sj;dsimp only;rw[aV s,aV s]
  rw[t];exact(m.gt q D).kp K rR rR
end

end
def AX(id a:Nat)(d:ByteArray):Fr:={iL with aD:=7,id:=id,aH:=a,data:=d}
def LA:∀L K:List Fr,kY (L++K)=kY L++kY K
 |[],_=>rfl
 |x::t,K=>by show fJ x _++kY (t++K)=(fJ x _++kY t)++kY K;rw[LA t K,qmh]
def Uk{S:Nat}{M:av}{bw bl bi:Nat}{X:WA}(id r:Nat){g:List UInt8}(a:V3)(c:Nat)(F:Int)(w:Wq)(h:fH oZ s w S l M bw bl bi X)(h1:id<4611686018427387903)(h2:r<=4611686018427387903)(h3:M.least<=id)(W:dG w (some a) g)(Z:a.block≠S)(h4:(g.length:Int)<=F)(_hm:F<=1000)(h5:M.aK.length<16):WB prog 189 #[aJ S 233,uZ id,uZ r,.slice (some a) g.length c,iZ F] w fun e w'=>e=.returned .nilIface/\Hid (∃v,iE s oZ w S bw bl bi {M with aK:=M.aK++[AX id r ⟨g.toArray⟩],qv:=v,least:=id+1} w'):=by
 have D:=h.bY.lt;have h6:=h.cells.len;obtain⟨K,L,p,_,_⟩:=h.qu.q.shape;have jd:w.cell? (ay S 233)=some (.slice K M.aK.length L):=by rw[h.bY.cell,h.cells.jd,p]
 have qA:w.cell? (ay S 234)=some (uZ M.least):=by rw[h.bY.cell];exact h.cells.qA
 have f234:=h.bY.frozen 234;obtain⟨d,f⟩:=bT (w.setCell (ay S 234) (uZ ((id:Int)+1)));have t:aL d S TS (l.set 234 (uZ ((id:Int)+1))):=by rw[f];exact h.bY.setCell 234 _
 have G:Kp [s] oZ oZ w d:=by rw[f];exact Kp.set oZ w _ _ _ (by show oZ S∈_;rw[h.ow];simp)
 have h7:=h.s0;have q:d.heap.size=w.heap.size:=by rw[f];simp
 have he:d.cell? (ay S 233)=some (.slice K M.aK.length L):=by rw[t.cell,qn1 aj,h.cells.jd,p]
 obtain⟨V,C⟩:=bT (fJ (AX id r ⟨g.toArray⟩) nZ);obtain⟨R,o⟩:=bT (((d.alloc (.cells V.toArray 65)).drew));have m:bE d R:=by rw[o];have k:=(qlw d.heap.size d).alloc (qj _) (.cells V.toArray 65);exact⟨k.os,k.tape,k.output,k.size,k.block⟩
 have B:aL R d.heap.size 65 V:=by rw[o];exact aL.new d 65 V
 have h0:(convert 60 9 (.slice (some a) g.length c)).run prog d.drew=.ok (.string ⟨g.toArray⟩) d.drew:=run_convert_bytes_back (P:=prog) d.drew 60 9 5 a c g u29 bO u9 (fun i hi=>by obtain⟨b,h8,e,hc⟩:=W i hi;cases e;rw[qmb];show d.cell? _=_;rw[f,World.cell?_setCell_far _ _ _ _ (fun e=>Z e.symm)];exact hc);obtain⟨z,u,y,run,H,E⟩:=fO qR ((h.qu.q.kp G aM).kp (Kp.below (T:=[]) m) aM) (ay d.heap.size 0) 1 1 V (by rw[C];rfl) (by rw[C];exact Ie _ _ rfl) (fun j x I=>by
  have e:(ay d.heap.size 0).add j=(ay d.heap.size j):=by rw[qmb,qm5]
  rw[e,B.cell,I]) aj
 obtain⟨a2,c2,A,_,_⟩:=H.shape;have J:oZ S∉[s+53]:=by rw[h.ow];simp
 have n:aL u S TS (l.set 234 (uZ ((id:Int)+1))):=bU (eY m t) E J;have U:u.cell? (ay S 233)=some (.slice K M.aK.length L):=by rw[n.cell,qn1 aj,h.cells.jd,p]
 have h9:=n.frozen 233;rw[p]at run;have t_:S<d.heap.size:=aj;have Y:S≠d.heap.size:=aj;have N:Hid (∃v,iE s oZ w S bw bl bi {M with aK:=M.aK++[AX id r ⟨g.toArray⟩],qv:=v,least:=id+1} (u.setCell (ay S 233) z)):=by
  have O:Kp [s] y y u (u.setCell (ay S 233) z):=Kp.set y u _ _ _ (by show y S∈_;rw[E.ext S (by rw[<-q]at D;exact qm9 D m.size),h.ow];simp);have Q:Kp [s,s+53] oZ y w (u.setCell (ay S 233) z):=(G.mono aM).trans ((Kp.below m).trans ((E.mono aM).trans (O.mono aM)));refine⟨z,y,_,X,h.que Q (l':=(l.set 234 (uZ ((id:Int)+1))).set 233 z) ⟨aM,fun j hj=>by rw[qn1 aj,qn1 aj]⟩ z (M.aK++[AX id r ⟨g.toArray⟩]) (id+1) (n.setCell 233 _) (qo0 (by rw[qn3];omega)) ?_ ?_,Q.mono fun x I=>fC.2 (by simp at I;omega)⟩;·rw[qn1 aj,qo0 aj];try simp
  ·have:=H.kp O aM;rw[qm0,LA];rw[C]at this;exact this
 rw[A]at run N;rw[o,C]at run;clear H E n G t B m o C A h W q;unfold AX iL at run;simp only at run;have q1:¬(4611686018427387903<(id:Int)):=aj;have q2:¬(4611686018427387903<(r:Int)):=aj;have q3:¬((id:Int)<(M.least:Int)):=aj;have q4:¬(F<(g.length:Int)):=aj;have q5:¬(16<=(M.aK.length:Int)):=aj;go_enter func189,ntmps189;go_wp2;rw[<-f];clear f;go_region_law (refine gD _ (by rfl) _ _ _ _ (by rfl) _ _ (by rfl) (by rfl) _ _ (run _) ?_)
 all_goals go_wp2_with fail
 all_goals go_ret
 all_goals exact⟨rfl,N⟩
def av.dg(M:av)(f:Fr)(v:WA):av:={M with aK:=M.aK++[f],qv:=v,least:=f.id+1}
def qfm{S:Nat}{M:av}{bw bl bi:Nat}{T:WA}(id g:Nat)(a:V3)(c:Nat)(r:Int)(h:fH oZ s w S l M bw bl bi T)(D:id<4611686018427387903)(E:g<=4611686018427387903)(F:M.least<=id)(I:dG w (some a) d)(H:a.block≠S)(A:(d.length:Int)<=r/\r<=1000)(G:M.aK.length<16)(N:∀f∈M.aK,M.aW<=f.aH)(J:M.aW<=g)(q:Nat):WB prog 189 #[aJ S 233,uZ id,uZ g,.slice (some a) d.length c,iZ r] (w.drewN q) fun e i=>e=.returned .nilIface/\i.cell? (ay S 0)=some (iZ M.bF)/\Hid (i.cell? (ay S 3)=some (uZ M.aW)/\∀t,qH 113 #[aJ S 233,uZ M.aW] (i.drewN t) (.tuple #[]) fun y=>y.cell? (ay S 3)=some (uZ M.aW)/\Hid (∃v,iE s oZ w S bw bl bi (M.dg (AX id g ⟨d.toArray⟩) v) y)):=by
 have k:bE w (w.drewN q):=kZ (qlw _ w);have u:dG (w.drewN q) (some a) d:=fun j K=>by obtain⟨b,x,e,z⟩:=I j K;exact⟨b,x,e,cell_of z (k.block b (qmf w (ay b _) (by rw[z])))⟩
 refine bH (Uk id g a c r (w.drewN q) (h.below k) D E F u H A.1 A.2 G) ?_;rintro i ⟨v,V,U,W,m,B⟩;refine⟨rfl,by rw[m.bY.cell];exact m.cells.c0,by rw[m.bY.cell];exact m.cells.c3,fun t=>?_⟩;have o:bE i (i.drewN t):=kZ (qlw _ i);have L:((M.dg (AX id g ⟨d.toArray⟩) v).aK.filter fun f=> !decide (f.aH<M.aW))=(M.dg (AX id g ⟨d.toArray⟩) v).aK:=by
  rw[qo4];intro f n;have:M.aW<=f.aH:=by
   rcases qm7.1 n with n|n;·exact N f n
   ·rw[qmi.1 n];exact J
  simp;omega
 refine bH (Aa (M.dg (AX id g ⟨d.toArray⟩) v) M.aW (i.drewN t) (m.below o) (by show(M.aK++[_]).length<=16;simp;omega)) ?_;rintro y ⟨R,P,O,Q,p,C⟩;rw[L]at p;exact⟨rfl,by rw[p.bY.cell];exact p.cells.c3,R,P,O,Q,p,(Kp.below k).trans (B.trans ((Kp.below o).trans C))⟩
def QG(t:WA)(S f g n c:Nat)(a:V3)(id s:Int)(w:Wq)(R:Wq->Prop)(r:w.cell? (ay S 238)=some (iZ ((0:Nat):Int)))(C:w.cell? (ay S 0)=some (iZ f))(p:Int)(x:IntKind.i64.wrap ((f:Int)-40)=p)(u:∀q,qH 189 #[aJ S 233,uZ id,uZ s,.slice (some a) n c,iZ p] (w.drewN q) t fun b=>b.cell? (ay S 0)=some (iZ f)/\Hid (b.cell? (ay S 3)=some (uZ g)/\∀B,qH 113 #[aJ S 233,uZ g] (b.drewN B) (.tuple #[]) fun k=>k.cell? (ay S 3)=some (uZ g)/\R k)):qH 150 #[aJ S 0,uZ id,uZ s,.slice (some a) n c] w t fun b=>R b:=by
 have o:=aF (vD S 0 w r);have l:=aF u;clear u r;go_enter func150,ntmps150;go_wp2_with (go_at_call 137;refine bH o.out ?_;rintro b x;have j:=x.symm;subst j);clear o;go_region_held3 (fun y=>y.cell? (ay S 0)=some (iZ f)) (first|assumption|go_keep) ((first|(go_at_call 189;refine bH (l.out _) ?_;rintro E ⟨i,m⟩)))
 obtain⟨D,e⟩:=m.out;have d:=aF e;clear m e l i;go_wp2;go_region_held3 (fun y=>y.cell? (ay S 3)=some (uZ g)) (first|assumption|go_keep) ((first|(go_at_call 113;refine bH (d.out _) ?_;rintro k ⟨A,v⟩)))
 have z:=aF v;clear v d;go_wp2;go_ret;exact⟨rfl,z.out⟩
def LC{S:Nat}{M:av}{bw bl bi:Nat}(id b:Nat)(a:V3)(c:Nat)(h:fH oZ s w S l M bw bl bi t)(r:M.kW=0)(g:id<4611686018427387903)(i:b<=4611686018427387903)(j:M.least<=id)(n:dG w (some a) d)(m:a.block≠S)(y:64<=M.bF/\M.bF<=400)(x:d.length+40<=M.bF)(k:M.aK.length<16)(p:∀f∈M.aK,M.aW<=f.aH)(o:M.aW<=b):WB prog 150 #[aJ S 0,uZ id,uZ b,.slice (some a) d.length c] w fun e u=>e=.returned .nilIface/\Hid (∃v,iE s oZ w S bw bl bi (M.dg (AX id b ⟨d.toArray⟩) v) u):=
 QG _ S M.bF M.aW d.length c a id b w _ (h.open r) (by rw[h.bY.cell];exact h.cells.c0) ((M.bF:Int)-40) (by rw[qnf];omega) fun q=>qfm id b a c _ h g i j n m aj k p o q
def LD(C S:Nat)(w:Wq)(c:w.cell? (ay C 0)=some (aJ S 0))(x y v:WA)(R:Wq->Prop)(h:WB prog 150 #[aJ S 0,x,y,v] w fun e a=>e=.returned .nilIface/\R a):WB prog 111 #[aJ C 0,x,y,v] w fun e a=>e=.returned .nilIface/\R a:=by have f:=aF (ni C S w c);have d:=aF h;clear h c;go_enter func111,ntmps111;go_wp2_with (first|(go_at_call 65;refine bH f.out ?_;rintro a j;have b:=j.symm;subst b)|(go_at_call 150;refine bH d.out ?_;rintro a i;have g:=aF i));go_ret;exact⟨rfl,g.out⟩
def LG(C S:Nat){M:av}{bw bl bi:Nat}(id c:Nat)(data:ByteArray)(h:fH oZ s w S l M bw bl bi vc)(E:w.cell? (ay C 0)=some (aJ S 0))(hy:M.kW=0)(h1:id<4611686018427387903)(h2:c<=4611686018427387903)(h3:M.least<=id)(Z:64<=M.bF/\M.bF<=400)(P:data.size+40<=M.bF)(R:M.aK.length<16)(a:∀f∈M.aK,M.aW<=f.aH)(hd:M.aW<=c)(T:g_ w)(O:oZ 0∉T0 s):qH 64 #[aJ C 0,uZ id,uZ c,.string data] w (iZ 0) fun w'=>Hid (∃v,iE s oZ w S bw bl bi (M.dg (AX id c data) v) w'):=by
 obtain⟨K,W,h6,U,V,i,q,t⟩:=nO w data aj;have D:C<w.heap.size:=qmf w (ay C 0) (by rw[E]);have p:=D8 h i t;have b:data.data.toList.length=data.size:=aM;have d:(⟨data.data.toList.toArray⟩:ByteArray)=data:=aM;have t_:=h.bY.lt;obtain⟨Q,m⟩:∃Q:Wq->Prop,Q=fun y=>∃v,SS oZ s w S bw bl bi data.size (M.dg (AX id c data) v) y:=⟨_,rfl⟩;have H:Hid (WB prog 111 #[aJ C 0,uZ id,uZ c,dh w.heap.size data.size K] W fun e g=>e=.returned .nilIface/\Q g):=by refine LD C S W (cell_of E (i.block _ D)) _ _ _ _ ?_;obtain⟨o,l1,v1,L,N,B,g4⟩:=p;have:=LC id c (ay w.heap.size 0) K L hy h1 h2 h3 q (by show w.heap.size≠S;omega) Z (by rw[b];exact P) R a hd;rw[b,d]at this;refine bH this ?_;rintro g ⟨v,o2,l2,v2,k1,x⟩;have hs:=L.s0;rw[m];exact⟨rfl,v,o2,l2,v2,k1,by rw[x.ext _ B.lt,N],B.of_heap (x.bY _ B.lt (by rw[N];exact fun e=>bR (fC.1 e))),g4.trans x⟩
 have I:Hid (∀g,Q g->qH 60 #[.nilIface] g (iZ 0) fun G=>Q G):=fun g a=>by rw[m]at a ⊢;obtain⟨v,a⟩:=a;refine bH (qo 0 (.inl rfl) g (a.err T O)) ?_;rintro G hb;exact⟨rfl,v,a.below hb⟩
 have HS:Hid (∀y j (v:WA),Q y->Q (y.setCell (ay w.heap.size j) v)):=fun y j v a=>by rw[m]at a ⊢;obtain⟨u,a⟩:=a;exact⟨u,a.set j v⟩
 have A:Hid (∀y j,Q y->j<data.size->(∃v,y.cell? (ay w.heap.size j)=some v)/\y.frozen? (ay w.heap.size j)=false):=fun y j a X=>by rw[m]at a;obtain⟨u,o,l1,v1,k1,x,k3,k4⟩:=a;exact k3.cell j X
 have HF:Hid (∀y,Q y->∃v,iE s oZ w S bw bl bi (M.dg (AX id c data) v) y):=fun y a=>by rw[m]at a;obtain⟨u,a⟩:=a;exact⟨u,a.q⟩
 have hn:data.size<=400:=aj;clear h E hy T O p i q t b d m a P Z R t_;generalize data.size=n at *
 go_enter func64,ntmps64;go_wp2_with (first|(go_at_call 111;refine bH H.out ?_;rintro g a)|(go_at_call 60;refine bH (I.out _ a) ?_;rintro G r;have J:=aF r;clear r));clear H I a;go_loopw [22] (fun k wr=>∃j:Nat,j<=n/\k=(iZ j)/\Hid (Q wr)) (fun k _=>n-(eB k).toNat);case atStart=>exact⟨0,qm2 _,rfl,J⟩
 case round=>
  obtain⟨j,X,rfl,z⟩:=hrel;clear J;by_cases F:j<n
  ·have Y:(j:Int)<(n:Int):=aj;obtain⟨⟨v,e1⟩,e2⟩:=A.out wr j z.out F;have HT:=aF (HS.out wr j (.int .u8 33) z.out);go_wp2;go_roundw;case rel=>exact⟨j+1,aj,aM,HT⟩
   case measure=>simp[eB];omega
  ·obtain rfl:j=n:=aj;go_wp2;go_ret;exact⟨rfl,HF.out _ z.out⟩
def Ul(S id b d n c:Nat)(a:Option V3)(e:Int)(w:Wq)(g:w.cell? (ay S 234)=some (uZ d))(i:id<4611686018427387903)(j:b<=4611686018427387903)(k:d<=id)(l:e<(n:Int)):qH 189 #[aJ S 233,uZ id,uZ b,.slice a n c,iZ e] w (lH 6) fun f=>∃q,f=w.drewN q:=by have m:¬(4611686018427387903<(id:Int)):=aj;have o:¬(4611686018427387903<(b:Int)):=aj;have p:¬((id:Int)<(d:Int)):=aj;go_enter func189,ntmps189;go_wp2;go_ret;exact⟨rfl,0,rfl⟩
def OU(S id d e n c m k:Nat)(a f:Option V3)(b:Int)(w:Wq)(i:w.cell? (ay S 233)=some (.slice f m k))(j:w.cell? (ay S 234)=some (uZ e))(l:id<4611686018427387903)(o:d<=4611686018427387903)(p:e<=id)(r:(n:Int)<=b)(s:16<=m):qH 189 #[aJ S 233,uZ id,uZ d,.slice a n c,iZ b] w (lH 3) fun g=>∃q,g=w.drewN q:=by have t:¬(4611686018427387903<(id:Int)):=aj;have u:¬(4611686018427387903<(d:Int)):=aj;have v:¬((id:Int)<(e:Int)):=aj;have x:¬(b<(n:Int)):=aj;have y:(16:Int)<=(m:Int):=aj;go_enter func189,ntmps189;go_wp2;go_ret;exact⟨rfl,0,rfl⟩
def Yt{S:Nat}{M:av}{bw bl bi:Nat}{D:WA}(id k n c:Nat)(a:V3)(e:Nat)(h:fH oZ s w S l M bw bl bi D)(y:M.kW=0)(F:64<=M.bF/\M.bF<=400)(E:M.aK.length<=16)(x:∀f∈M.aK,M.aW<=f.aH)(p:∀q,qH 189 #[aJ S 233,uZ id,uZ k,.slice (some a) n c,(iZ ((M.bF:Int)-40))] (w.drewN q) (lH e) fun j=>∃i,j=(w.drewN q).drewN i):qH 150 #[aJ S 0,uZ id,uZ k,.slice (some a) n c] w (lH e) fun j=>Hid (∃v,iE s oZ w S bw bl bi {M with qv:=v} j):=by
 refine QG (lH e) S M.bF M.aW n c a id k w _ (h.open y) (by rw[h.bY.cell];exact h.cells.c0) ((M.bF:Int)-40) (by rw[qnf];omega) fun q=>(p q).mono ?_;rintro r j ⟨rfl,i,rfl⟩;have m:bE w ((w.drewN q).drewN i):=⟨rfl,rfl,rfl,qj _,fun _ _=>rfl⟩;have g:=h.below m;refine⟨rfl,by rw[g.bY.cell];exact g.cells.c0,by rw[g.bY.cell];exact g.cells.c3,fun B=>?_⟩;have b:bE w (((w.drewN q).drewN i).drewN B):=⟨rfl,rfl,rfl,qj _,fun _ _=>rfl⟩;have u:(M.aK.filter fun f=> !decide (f.aH<M.aW))=M.aK:=by rw[qo4];intro f t;have:=x f t;simp;omega
 refine(Aa M M.aW _ (h.below b) E).mono ?_;rintro r G ⟨rfl,v,A,z,C,d,o⟩;rw[u]at d;exact⟨rfl,by rw[d.bY.cell];exact d.cells.c3,v,A,z,C,d,(Kp.below b).trans o⟩
def eql6(w:Wq):(binOp .eql 94 (.iface 57 (iZ 6)) (.iface 57 (iZ 6))).run prog w=.ok (.bool true) w:=bO
def Yu(w:Wq)(a:g_ w):qH 60 #[lH 6] w (iZ ((6:Nat):Int)) fun b=>bE w b:=vo (lH 6) (6:Nat) (-1) w _ (pJ 6 eql6 w a)
def qhx{b:Nat}(h:w'.heap[b]?=w.heap[b]?):w'.cell? (ay b j)=w.cell? (ay b j):=by unfold kg;simp only[h]
def qhy(c:WA)(C S:Nat)(w:Wq)(d:w.cell? (ay C 0)=some (aJ S 0))(x y v:WA)(R:Wq->Prop)(h:qH 150 #[aJ S 0,x,y,v] w c fun a=>R a):qH 111 #[aJ C 0,x,y,v] w c fun a=>R a:=by have f:=aF (ni C S w d);have e:=aF h;clear h d;go_enter func111,ntmps111;go_wp2_with (first|(go_at_call 65;refine bH f.out ?_;rintro a j;have b:=j.symm;subst b)|(go_at_call 150;refine bH e.out ?_;rintro a i;have g:=aF i));go_ret;exact⟨rfl,g.out⟩
def Yv(C S:Nat){M:av}{bw bl bi:Nat}(id A:Nat)(data:ByteArray)(h:fH oZ s w S l M bw bl bi vc)(J:w.cell? (ay C 0)=some (aJ S 0))(hy:M.kW=0)(hm:64<=M.bF/\M.bF<=400)(wE:M.aK.length<=16)(a:∀f∈M.aK,M.aW<=f.aH)(en:Nat)(m:∀w,g_ w->qH 60 #[lH en] w (iZ en) fun z=>bE w z)(U:data.size<=1000000)(X:∀W n c x,(∀j,j=233\/j=234->W.cell? (ay S j)=w.cell? (ay S j))->n=data.size->qH 189 #[aJ S 233,uZ id,uZ A,.slice (some x) n c,(iZ ((M.bF:Int)-40))] W (lH en) fun z=>∃q2,z=W.drewN q2)(Y:g_ w)(V:oZ 0∉T0 s):qH 64 #[aJ C 0,uZ id,uZ A,.string data] w (iZ en) fun z=>Hid (∃v,iE s oZ w S bw bl bi {M with qv:=v} z):=by
 obtain⟨F,W,h4,Z,h2,b,I,t⟩:=nO w data aj;have H:C<w.heap.size:=qmf w (ay C 0) (by rw[J]);have k:=D8 h b t;have p:data.data.toList.length=data.size:=aM;have t_:=h.bY.lt;obtain⟨Q,i⟩:∃Q:Wq->Prop,Q=fun y=>∃v,SS oZ s w S bw bl bi data.size {M with qv:=v} y:=⟨_,rfl⟩;have N:Hid (qH 111 #[aJ C 0,uZ id,uZ A,dh w.heap.size data.size F] W (lH en) fun d=>Q d):=by refine qhy (lH en) C S W (cell_of J (b.block _ H)) _ _ _ _ ?_;obtain⟨o,l1,v1,R,T,G,g4⟩:=k;refine bH (Yt id A data.size F (ay w.heap.size 0) en R hy hm wE a fun q=>X (W.drewN q) data.size F _ (fun j _=>qhx (b.block _ t_)) rfl) ?_;rintro d ⟨v,o2,l2,v2,k1,B⟩;have hs:=R.s0;rw[i];exact⟨rfl,v,o2,l2,v2,k1,by rw[B.ext _ G.lt,T],G.of_heap (B.bY _ G.lt (by rw[T];exact fun e=>bR (fC.1 e))),g4.trans B⟩
 have O:Hid (∀d,Q d->qH 60 #[lH en] d (iZ en) fun L=>Q L):=fun d a=>by rw[i]at a ⊢;obtain⟨v,a⟩:=a;refine bH (m d (a.err Y V)) ?_;rintro L hb;exact⟨rfl,v,a.below hb⟩
 have HS:Hid (∀y j (v:WA),Q y->Q (y.setCell (ay w.heap.size j) v)):=fun y j v a=>by rw[i]at a ⊢;obtain⟨u,a⟩:=a;exact⟨u,a.set j v⟩
 have E:Hid (∀y j,Q y->j<data.size->(∃v,y.cell? (ay w.heap.size j)=some v)/\y.frozen? (ay w.heap.size j)=false):=fun y j a hj=>by rw[i]at a;obtain⟨u,o,l1,v1,k1,B,k3,k4⟩:=a;exact k3.cell j hj
 have HF:Hid (∀y,Q y->∃v,iE s oZ w S bw bl bi {M with qv:=v} y):=fun y a=>by rw[i]at a;obtain⟨u,a⟩:=a;exact⟨u,a.q⟩
 have hn:data.size<=1000000:=U;clear h J hy Y V k b I t p i a wE hm t_ X m U;generalize data.size=n at *
 go_enter func64,ntmps64;go_wp2_with (first|(go_at_call 111;refine bH N.out ?_;rintro d a)|(go_at_call 60;refine bH (O.out _ a) ?_;rintro L r;have P:=aF r;clear r));clear N O a;go_loopw [22] (fun g wr=>∃j:Nat,j<=n/\g=(iZ j)/\Hid (Q wr)) (fun g _=>n-(eB g).toNat);case atStart=>exact⟨0,qm2 _,rfl,P⟩
 case round=>
  obtain⟨j,hj,rfl,D⟩:=hrel;clear P;by_cases K:j<n
  ·have h3:(j:Int)<(n:Int):=aj;obtain⟨⟨v,e1⟩,e2⟩:=E.out wr j D.out K;have HT:=aF (HS.out wr j (.int .u8 33) D.out);go_wp2;go_roundw;case rel=>exact⟨j+1,aj,aM,HT⟩
   case measure=>simp[eB];omega
  ·obtain rfl:j=n:=aj;go_wp2;go_ret;exact⟨rfl,HF.out _ D.out⟩
