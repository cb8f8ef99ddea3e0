import Derived.Test.YtphbledmopchnaaGreatDoorVda
import Derived.Test.YtphbledmopchnaaGreatDoorVdd
open Go.RowKit.Below renaming heap_setCell->fB
open Go.Builtin renaming zeroCells->fA
open List renaming take_add_one->fE,getElem?_eq_getElem->l9,length_append->mK,map_map->nA
open Prod renaming fst->eT
open Go.RowKit renaming intOf->eB
open Go.Value renaming cells->mE
open Go.World renaming cell?->mI
set_option maxHeartbeats 4000000
set_option maxRecDepth 100000
open Go renaming World->Wq,Value->Wx,Calls->WA,undef->VG,bodyPost_ret->VH,Addr->XK
set_option linter.all false
namespace Go.Proofs.YtphbledmopchnaaGreatDoor.Sd
open Go.RowKit Go.Lib Mm Tryz
variable {A b r v vc:Wx}{T:List Nat}{W w w' y':Wq}{a g j n s t:Nat}{aX oZ:Own}{d lb:List UInt8}{f:Fr}{fa:Option XK}{l l':bM}{m:Nat×ByteArray}{y:Nat×List Fr}
theorem SE{S M bw bl bi L}(f a c)(h:gq oZ s w S l M bw bl bi L)(v:Bd M)(r:j_ w a f.ranges)(k:0<f.ranges.length)(u:f.ranges.length<=1000000)(m:∀x,a=some x->oZ x.block∉T0 s)(i:(f.ranges.getD 0 (0,0)).2<M.next)(j:M.next<=dH):bN 233 #[aK S 0,eX f (.slice a f.ranges.length c)] w (iZ 0) fun o=>∃d,M.uH f.ranges d/\je s oZ w S bw bl bi d o:=by
 obtain⟨W,n⟩:=bU (w.alloc (.cells (f_ f (.slice a f.ranges.length c)).toArray 65));have g:aS W w.heap.size 65 (f_ f (.slice a f.ranges.length c)):=by grind [aS.new]
 have b:bJ w W:=by rw[n];exact(bP _ w).alloc (aI _) _
 have B:Hid (∀q,bN 294 #[aK S 0,.slice a f.ranges.length c] (W.drewN q) (.tuple #[]) fun o=>∃d,M.uH f.ranges d/\je s oZ w S bw bl bi d o):=fun q=>by have e:bJ w (W.drewN q):=mQ b;refine bK (qgs (W.drewN q) (h.below e) v a c f.ranges (r.below e) k u m i j) ?_;rintro o ⟨d,C,G,F,K,D,E⟩;exact⟨rfl,d,C,G,F,K,D,(Kp.below e).trans E⟩
 obtain⟨R,U,rfl,q0,z,H,I⟩:=r 0 k;have t:=iq w _ (by rw[q0]);have p:=h.below b;obtain⟨X,Y,Z,x3,x4,x5,x6,x7,x8,x9,xf⟩:=bF g;have N:W.cell? (aA S 229)=some (uZ M.next):=by rw[p.cK.cell];exact p.cells.qI
 have O:=cell_of z (b.block _ t);have J:(0:Int)<(f.ranges.length:Int):=aj;have y:¬(M.next:Int)<=((f.ranges.getD 0 (0,0)).2:Int):=aj;clear h v r m j q0 z H I p g b i;generalize (f.ranges.getD 0 (0,0)).2=P at *
 generalize M.next=Q at *
 generalize f.ranges.length=T at *
 unfold eX;unfold f_ at n;go_enter func233,ntmps233;go_wp2;rw[<-n];clear n;go_quiet (fail);go_wp2_with (go_at_call 294;refine bK (B.out _) ?_;rintro V A);go_ret;exact⟨rfl,A⟩
def gq.jI{S M bw bl bi}(h:gq oZ s w S l M bw bl bi b)(n:Nat)(q:gZ w w' S l l' 220 1)(a:l'[220]?=some (uZ n)):je s oZ w S bw bl bi {M with aN:=n} w':=by have c:=h.cells;have e:∀j,j≠220->l'[j]?=l[j]?:=fun j d=>q.iB.2 j aj;exact h.cell 220 1 aj q ⟨q.iB.1.trans c.len,(e _ aj).trans c.c0,(e _ aj).trans c.c1,(e _ aj).trans c.c2,(e _ aj).trans c.c3,a,c.gr.iB q.iB aj,(e _ aj).trans c.vW,(e _ aj).trans c.vX,(e _ aj).trans c.rZ,(e _ aj).trans c.qo,(e _ aj).trans c.qI,(e _ aj).trans c.rA,(e _ aj).trans c.uW,(e _ aj).trans c.qp,(e _ aj).trans c.jP,(e _ aj).trans c.sW,(e _ aj).trans c.r_,(e _ aj).trans c.uw,(e _ aj).trans c.uX,(e _ aj).trans c.rC,(e _ aj).trans c.xB⟩ rfl rfl rfl rfl rfl rfl rfl
structure FrC (M:av) (f:Fr):Prop where
 kd:f.aD=2\/f.aD=4\/f.aD=5\/f.aD=6\/f.aD=3\/f.aD=7
 ack:f.aD=2->0<f.ranges.length/\f.ranges.length<=1000000/\(f.ranges.getD 0 (0,0)).2<M.next
 st:f.aD=4\/f.aD=6\/f.aD=3->0<=f.aF/\f.aF<8
 dt:f.aD=4->bI f<=2048
 rs:f.aD=3->f.aC<=2048/\f.aO<=2048
 dg:f.aD=7->QD f/\M.gy.length<=1000000
 ok:f.aD≠2->(M.take f).2=0
theorem qay{S M bw bl bi E}(f a c)(h:gq oZ s w S l M bw bl bi E)(r:Bd M)(i:FrC M f)(j:f.aD=3):bN 183 #[aK S 0,eX f (.slice a f.ranges.length c)] w (iZ 0) fun n=>∃e,M.gH f e 0/\je s oZ w S bw bl bi e n:=by
 obtain⟨W,o⟩:=bU (w.alloc (.cells (f_ f (.slice a f.ranges.length c)).toArray 65));have g:aS W w.heap.size 65 (f_ f (.slice a f.ranges.length c)):=by grind [aS.new]
 have b:bJ w W:=by rw[o];exact(bP _ w).alloc (aI _) _
 have q:=h.below b;have F:=h.cK.lt;obtain⟨K,L,N,O,P,Q,R,T,U,V,X⟩:=bF g;obtain⟨k,m⟩:∃k:Nat,f.aF=(k:Int):=⟨f.aF.toNat,fT (i.st (.inr (.inr j)))⟩;have t:k<8:=fT (i.st (.inr (.inr j)));have d:f.aF.toNat=k:=aj;have u:Hid (bN 235 #[aK S 0,eX f (.slice a f.ranges.length c)] W (iZ 0) fun n=>Hid (∃e,M.gH f e 0/\je s oZ w S bw bl bi e n)):=by
  obtain⟨G,H⟩:=i.rs j;have z:=i.ok (by grind);have p:M.take f=if(M.bH f.aF.toNat).nX f≠0 then(M,(M.bH f.aF.toNat).nX f)else(M.eZ f.aF.toNat ((M.bH f.aF.toNat).gH f),0):=by unfold av.take;grind
  rw[p,d]at z;have A:(M.bH k).nX f=0:=by grind
  refine bK (MB f a f.ranges.length c k t m q (r.i k).ok (by unfold dH;omega) (by unfold dH;omega) A) ?_;rintro n ⟨C,B,D,x,y⟩;refine⟨rfl,M.eZ k ((M.bH k).gH f),?_,C,B,D,x,(Kp.below b).trans y⟩;unfold av.gH;rw[b_ (by grind),b_ (by grind),p,d,b_ (by grind)]
 clear h q r i g b;generalize f.ranges.length=I at *
 unfold eX at *
 unfold f_ at o;rw[j]at *
 clear j m d;go_enter func183,Cz;go_wp2_with (go_at_call 235;rw[<-o];refine bK u.out ?_;rintro J v);go_ret;exact⟨rfl,v.out⟩
theorem qaz{S M bw bl bi C}(f a c)(h:gq oZ s w S l M bw bl bi C)(n:Bd M)(o:FrC M f)(j:f.aD=7):bN 183 #[aK S 0,eX f (.slice a f.ranges.length c)] w (iZ 0) fun k=>∃d,M.gH f d 0/\je s oZ w S bw bl bi d k:=by
 obtain⟨W,i⟩:=bU (w.alloc (.cells (f_ f (.slice a f.ranges.length c)).toArray 65));have g:aS W w.heap.size 65 (f_ f (.slice a f.ranges.length c)):=by grind [aS.new]
 have b:bJ w W:=by rw[i];exact(bP _ w).alloc (aI _) _
 have m:=h.below b;have D:=h.cK.lt;obtain⟨I,J,K,L,N,O,P,Q,R,T,U⟩:=bF g;have E:W.cell? (aA S 3)=some (uZ M.aV):=by rw[m.cK.cell];exact m.cells.c3
 have p:Hid (∀q,bN 236 #[aK S 235,eX f (.slice a f.ranges.length c),uZ M.aV] (W.drewN q) (.tuple #[]) fun k=>Hid (∃d,M.gH f d 0/\je s oZ w S bw bl bi d k)):=fun q=>by have e:bJ w (W.drewN q):=mQ b;obtain⟨t,u⟩:=o.dg j;refine bK (qgw f _ (W.drewN q) (h.below e) t n.ib u) ?_;rintro k ⟨v,A,z,B,x,y⟩;refine⟨rfl,{M.pQ f with iv:=v},?_,A,z,B,x,(Kp.below e).trans y⟩;unfold av.gH;rw[b_ (by grind),dN j];grind
 clear h m n o g b;generalize f.ranges.length=F at *
 generalize M.aV=G at *
 unfold eX at *
 unfold f_ at i;rw[j]at *
 clear j;go_enter func183,Cz;go_wp2;rw[<-i];clear i;go_region_with (go_at_call 236;refine bK (p.out _) ?_;rintro H r);all_goals(go_wp2;go_ret;exact⟨rfl,r.out⟩)
theorem qgx{S M bw bl bi U}(f a c)(h:gq oZ s w S l M bw bl bi U)(u:Bd M)(i:FrC M f)(G:j_ w a f.ranges)(r:∀x,a=some x->oZ x.block∉T0 s)(p:M.next<=dH):bN 183 #[aK S 0,eX f (.slice a f.ranges.length c)] w (iZ 0) fun t=>∃d,M.gH f d 0/\je s oZ w S bw bl bi d t:=by
 obtain⟨W,n⟩:=bU (w.alloc (.cells (f_ f (.slice a f.ranges.length c)).toArray 65));have o:aS W w.heap.size 65 (f_ f (.slice a f.ranges.length c)):=by grind [aS.new]
 have b:bJ w W:=by rw[n];exact(bP _ w).alloc (aI _) _
 have m:=h.below b;have V:=h.cK.lt;obtain⟨x0,x1,x2,x3,x4,x5,x6,x7,x8,x9,xf⟩:=bF o;rcases i.kd with hk|hk|hk|hk|hk|hk
 .have E:Hid (bN 233 #[aK S 0,eX f (.slice a f.ranges.length c)] W (iZ 0) fun t=>Hid (∃d,M.gH f d 0/\je s oZ w S bw bl bi d t)):=by
   obtain⟨O,P,Q⟩:=i.ack hk;refine bK (SE f a c m u (G.below b) O P r Q p) ?_;rintro t ⟨d,Z,C,B,D,z,A⟩;refine⟨rfl,d,?_,C,B,D,z,(Kp.below b).trans A⟩;unfold av.gH;rw[dN hk,b_ aj];grind
  clear h m u G r i o b p;generalize f.ranges.length=K at *
  unfold eX at *
  unfold f_ at n;rw[hk]at *
  clear hk;go_enter func183,Cz;go_wp2_with (go_at_call 233;rw[<-n];refine bK E.out ?_;rintro L y);go_ret;exact⟨rfl,y.out⟩
 .obtain⟨k,v⟩:∃k:Nat,f.aF=(k:Int):=⟨f.aF.toNat,fT (i.st (.inl hk))⟩;have H:k<8:=fT (i.st (.inl hk));have E:Hid (bN 234 #[aK S 0,eX f (.slice a f.ranges.length c)] W (iZ 0) fun t=>Hid (∃d,M.gH f d 0/\je s oZ w S bw bl bi d t)):=by
   have he:=i.dt hk;refine(OA f a f.ranges.length c k H v hk m (u.i k).ok (fun j=>fT ((u.i j).h)) aj).mono ?_;have R:=i.ok (by grind);rintro e t ⟨rfl,C,B,D,z,A⟩;refine⟨by rw[R];rfl,(M.take f).1,?_,C,B,D,z,(Kp.below b).trans A⟩;unfold av.gH;rw[b_ (by grind),b_ (by grind)];grind
  clear h m u G r i o b p;generalize f.ranges.length=K at *
  unfold eX at *
  unfold f_ at n;rw[hk]at *
  clear hk v;go_enter func183,Cz;go_wp2_with (go_at_call 234;rw[<-n];refine bK E.out ?_;rintro L y);go_ret;exact⟨rfl,y.out⟩
 .obtain⟨N,hN,J⟩:=max2 M.aN f.aN;have X:W.cell? (aA S 220)=some (uZ M.aN):=by rw[m.cK.cell];exact m.cells.uq
  have Y:=m.cK.frozen 220;have y:Hid (∃d,M.gH f d 0/\je s oZ w S bw bl bi d (W.setCell (aA S 220) (uZ N)).drew):=by obtain⟨C,B,D,z,A⟩:=m.jI N (gZ.one m.cK 220 (uZ N) 220 1 (aI _) aj) (cZ l 220 _ _ m.cells.uq);refine⟨{M with aN:=N},?_,C,B,D,z.below ⟨rfl,rfl,rfl,aI _,fun _ _=>rfl⟩,(Kp.below b).trans A.drew⟩;unfold av.gH;rw[b_ (by grind),b_ (by grind)];unfold av.take;grind
  clear h m u G r i o b p J;generalize f.ranges.length=K at *
  generalize M.aN=lm at *
  unfold eX at *
  unfold f_ at n;rw[hk]at *
  clear hk;go_enter func183,Cz;go_wp2;rw[<-n];clear n;go_region
  go_wp2;go_ret;exact⟨rfl,y.out⟩
 .obtain⟨k,v⟩:∃k:Nat,f.aF=(k:Int):=⟨f.aF.toNat,fT (i.st (.inr (.inl hk)))⟩;have H:k<8:=fT (i.st (.inr (.inl hk)));have T:(k:Int)<8:=aj;have E:Hid (∀q,bN 237 #[(aK S (4+k*27)),uZ f.aN] (W.drewN q) (.tuple #[]) fun t=>Hid (∃d,M.gH f d 0/\je s oZ w S bw bl bi d t)):=fun q=>by
   have F:bJ w (W.drewN q):=mQ b;have I:=h.below F;rw[show 4+k*27=4+27*k by omega];refine bK (Ze s (s+1+5*k) (4+27*k) f.aN (M.out k) (W.drewN q) I.cK I.ow aj (I.out k H)) ?_;rintro t g;obtain⟨C,B,D,z,A⟩:=I.dA k H _ g;refine⟨rfl,M.dA k {M.out k with aN:=max (M.out k).aN f.aN},?_,C,B,D,z,(Kp.below F).trans A⟩;unfold av.gH;rw[b_ (by grind),b_ (by grind)];unfold av.take;rw[b_ (by grind),b_ (by grind),b_ (by grind),b_ (by grind),b_ (by grind),b_ (by grind),dN hk];grind
  clear h m u G r i o b p;generalize f.ranges.length=K at *
  unfold eX at *
  unfold f_ at n;rw[hk]at *
  generalize f.aF=st at *
  subst v;clear hk;go_enter func183,Cz;go_wp2;rw[<-n];clear n;go_region_with (go_at_call 237;refine bK (E.out _) ?_;rintro L y);all_goals(go_wp2;go_ret;exact⟨rfl,y.out⟩)
 .exact qay f a c h u i hk
 .exact qaz f a c h u i hk
section
def oq:av->List Fr->av->Prop
 |M,[],M1=>M1=M
 |M,f::t,M1=>∃a,M.gH f a 0/\oq a t M1
def DZ:∀(l) {M X Y} (f),oq M l X->X.gH f Y 0->oq M (l++[f]) Y
 |[],M,X,Y,f,h,k=>by cases h;exact⟨Y,k,rfl⟩
 |g::t,M,X,Y,f,h,k=>by obtain⟨a,b,c⟩:=h;exact⟨a,b,DZ t f c k⟩
def Hu:∀(l) {M X},oq M l X->jR M l X 0
 |[],_,_,h=>⟨h,rfl⟩
 |f::t,_,_,⟨M2,h1,h2⟩=>⟨M2,0,h1,by rw[dN rfl];exact Hu t h2⟩
structure D5 (oZ:Own) (s:Nat) (w:Wq) (fa:Option XK) (L:List FV):Prop where
 fv:Bn w fa L
 fo:∀x,fa=some x->x.block<w.heap.size/\oZ x.block∉T0 s
 rg:∀j,j<L.length->j_ w (L.getD j jw).2.1 (L.getD j jw).1.ranges/\(L.getD j jw).2.2.1=(L.getD j jw).1.ranges.length/\∀x,(L.getD j jw).2.1=some x->x.block<w.heap.size/\oZ x.block∉T0 s
theorem D5.kp{L}(h:D5 oZ s w fa L)(K:Kp (T0 s) oZ aX w w'):D5 aX s w' fa L:=by
 refine⟨fun j d=>?_,fun x a=>?_,fun j d=>?_⟩;.obtain⟨b,f,e,c⟩:=h.fv j d;obtain⟨f1,f2⟩:=h.fo _ e;refine⟨b,f,e,fun i l=>?_⟩;rw[<-c i l];have:=K.cK b f1 f2;unfold mI;grind
 .obtain⟨f1,f2⟩:=h.fo x a;exact⟨gK f1 K.size,by rw[K.ext _ f1];exact f2⟩
 .obtain⟨c,k,g⟩:=h.rg j d;refine⟨c.of fun x a m=>K.cK _ m (g x a).2,k,fun x a=>?_⟩;obtain⟨f1,f2⟩:=g x a;exact⟨gK f1 K.size,by rw[K.ext _ f1];exact f2⟩
theorem gq.qqi{S M bw bl bi}(h:gq oZ s w S l M bw bl bi r)(x)(q:V3 s (s+41) oZ S 225 l 8 w (x.fl,x.rs) w'):je s oZ w S bw bl bi {M with aT:=x} w':=by
 obtain⟨f,d,p,K,m,a,g,i,k,n⟩:=q;have t:∀y,y∈[s,s+41]->y=s\/y=s+41:=fun y o=>by grind
 have e:∀j,j<225\/228<=j->d[j]?=l[j]?:=fun j b=>a.2 j aj;have c:=h.cells;refine⟨f,d,p,⟨by rw[K.ext S h.cK.lt,h.ow],h.s0,m,⟨a.1.trans c.len,(e _ aj).trans c.c0,(e _ aj).trans c.c1,(e _ aj).trans c.c2,(e _ aj).trans c.c3,(e _ aj).trans c.uq,c.gr.iB a aj,g,i,k,(e _ aj).trans c.qo,(e _ aj).trans c.qI,(e _ aj).trans c.rA,(e _ aj).trans c.uW,(e _ aj).trans c.qp,(e _ aj).trans c.jP,(e _ aj).trans c.sW,(e _ aj).trans c.r_,(e _ aj).trans c.uw,(e _ aj).trans c.uX,(e _ aj).trans c.rC,(e _ aj).trans c.xB⟩,fun j b=>?_,fun j b=>?_,n,h.Ar.kp K (fun e=>by grind) (fun e=>by grind),h.bV.kp K (fun e=>by grind) (fun e=>by grind),(h.qu.kp K (fun e=>by grind) (fun e=>by grind) (fun e=>by grind)).eq rfl,h.lo,h.li⟩,K.mono fun y o=>fM.2 (by grind)⟩;.exact(h.out j b).kp K (fun e=>by grind) (fun e=>by grind) (fun e=>by grind) a aj
 .exact(h.bH j b).kp K (fun e=>by grind) (fun e=>by grind) a aj
def gq.ans{S M bw bl bi}(h:gq oZ s w S l M bw bl bi b)(n)(q:gZ w w' S l l' 228 1)(a:l'[228]?=some (.bool n)):je s oZ w S bw bl bi {M with bn:=n} w':=by have c:=h.cells;have e:∀j,j≠228->l'[j]?=l[j]?:=fun j d=>q.iB.2 j aj;exact h.cell 228 1 aj q ⟨q.iB.1.trans c.len,(e _ aj).trans c.c0,(e _ aj).trans c.c1,(e _ aj).trans c.c2,(e _ aj).trans c.c3,(e _ aj).trans c.uq,c.gr.iB q.iB aj,(e _ aj).trans c.vW,(e _ aj).trans c.vX,(e _ aj).trans c.rZ,a,(e _ aj).trans c.qI,(e _ aj).trans c.rA,(e _ aj).trans c.uW,(e _ aj).trans c.qp,(e _ aj).trans c.jP,(e _ aj).trans c.sW,(e _ aj).trans c.r_,(e _ aj).trans c.uw,(e _ aj).trans c.uX,(e _ aj).trans c.rC,(e _ aj).trans c.xB⟩ rfl rfl rfl rfl rfl rfl rfl
def CmB.ok{c}(h:CmB c):St.Rg.Ok 18446744073709551616 1000000 c.fl c.rs:=
 ⟨h.so,fun r a=>by have:=h.hi r a;unfold dH at this;omega,fT h.ln,by have:=h.fl;unfold dH at this;omega⟩
theorem Kj{M a:av}{e}(h:M.gH f a e):a.mY=M.mY:=by
 have d:∀(l:List Fr) (X:av),(l.foldl av.gJ X).mY=X.mY:=fun l=>by
  induction l with
  |nil=>exact fun X=>rfl
  |cons f t g=>
   intro X;refine(g _).trans ?_;unfold av.gJ;repeat' split
   all_goals rfl
 unfold av.gH at h;split at h
 .split at h;.rw[h.1]
  .obtain⟨⟨i,j,_,_,rfl⟩,_⟩:=h;exact(d _ _).trans rfl
 .rename_i b;split at h;.grind [av.pQ]
  have c:a=(M.take f).1:=congrArg eT h;rw[c];unfold av.take av.pQ;rw[b_ b];repeat' split
  all_goals rfl
def Hw:∀(l) {M X},oq M l X->X.mY=M.mY
 |[],_,_,h=>by rw[h]
 |_::t,_,_,⟨_,h1,h2⟩=>(Hw t h2).trans (Kj h1)
def TA(oZ:Own)(s:Nat)(w:Wq)(S bw bl bi:Nat)(fa:Option XK)(L:List FV)(bv:bM)(M':av)(y:Wq):Prop:=
 ∃a c b,gq a s y S c M' bw bl bi b/\a w.heap.size=0/\aS y w.heap.size 56 bv/\D5 a s y fa L/\Kp (T0 s) oZ a w y
section
variable {oZ:Own} {s:Nat} {w:Wq} {S bw bl bi:Nat} {fa:Option XK} {L:List FV} {bv:bM} {M':av} {y y':Wq}
theorem TA.step{e}(h:TA oZ s w S bw bl bi fa L bv M' y)(k:∀b c d,gq b s y S c M' bw bl bi d->D5 b s y fa L->je s b y S bw bl bi e y'):TA oZ s w S bw bl bi fa L bv e y':=by obtain⟨o,c,q,f,l,i,g,m⟩:=h;obtain⟨p,n,r,j,a⟩:=k o c q f g;have t:=f.s0;exact⟨p,n,r,j,by rw[a.ext _ i.lt,l],bW i a (by grind [fM]),g.kp a,m.trans a⟩
def TA.below(h:TA oZ s w S bw bl bi fa L bv M' y)(a:bJ y y'):TA oZ s w S bw bl bi fa L bv M' y':=h.step fun _ _ _ g _=>je.refl g a
def TA.mY(h:TA oZ s w S bw bl bi fa L bv M' y)(d:M'.mY=0):y.cell? (aA S 238)=some (iZ 0)/\y.frozen? (aA S 238)=false/\TA oZ s w S bw bl bi fa L bv M' (y.setCell (aA S 238) (iZ 0))/\(y.setCell (aA S 238) (iZ 0)).cell? (aA S 238)=some (iZ ((0:Nat):Int)):=by
 have g:=h.step fun o b e a _=>by
  have c:b[238]?=some (iZ 0):=by rw[a.cells.rC,d];rfl
  have q:=gZ.one a.cK 238 (iZ 0) 238 1 (aI _) aj;rw[OB b 238 _ c]at q;exact a.cell 238 1 aj q a.cells rfl rfl rfl rfl rfl rfl rfl
 obtain⟨o,b,e,a,_⟩:=h;refine⟨by rw[a.cK.cell,a.cells.rC,d];rfl,a.cK.frozen 238,g,?_⟩;obtain⟨o,b,e,a,_⟩:=g;rw[a.cK.cell,a.cells.rC,d]
end


def wp_cut{c:Code}{K g a}(act)(R:Wq->Prop)(h:c.wp prog (Exit.then (fun f d=>f=act/\R d) fun _ _ _=>False) a w)(k:∀d,R d->K act d):c.wp prog (Exit.then K g) a w:=
 wp_mono h fun e f d b=>by
  cases e with
  |normal=>obtain⟨rfl,j⟩:=b;exact k _ j
  |ret=>exact b.elim
  |exit i=>exact b.elim
  |goto i=>exact b.elim
  |panic c=>exact b.elim
  |outgrown=>exact b.elim
theorem SF{S M bw bl bi}(n L z)(h:gq oZ s w S l M bw bl bi vc)(hb:Bd M)(hn:n<=dH)(hH:D5 oZ s w fa L)(hl:L.length<=1000000)(hy:M.mY=0)(hC:∀p j,j<L.length->oq {M with aT:=M.aT.add 8 n n,bn:=M.bn||fZ (L.map eT)} ((L.map eT).take j) p->FrC p (L.getD j jw).1/\Bd p/\p.next<=dH):WA prog 138 #[aK S 0,.agg #[uZ n,.slice fa L.length z]] w fun e w'=>e=.returned .nilIface/\∃C,oq {M with aT:=M.aT.add 8 n n,bn:=M.bn||fZ (L.map eT)} (L.map eT) C/\je s oZ w S bw bl bi C w':=by
 have hw:=h.s0;obtain⟨W,hW⟩:=bU (w.alloc (.cells #[uZ n,.slice fa L.length z] 56));have m:bJ w W:=by rw[hW];exact(bP _ w).alloc (aI _) _
 obtain⟨bv,F⟩:=bU ([uZ n,.slice fa L.length z]:bM);have h6:TA oZ s w S bw bl bi fa L bv M W:=by have K:Kp [] oZ (loc oZ w.heap.size) w W:=⟨m.os,m.tape,m.output,m.size,fun x d _=>m.block x d,fun x d=>jW _ _ _ d⟩;exact⟨loc oZ w.heap.size,l,vc,h.kp K aR,jF _ _ _ (aI _),by grind [aS.new],hH.kp (K.mono aR),K.mono aR⟩
 obtain⟨C,T⟩:∃C:av,C={M with aT:=M.aT.add 8 n n}:=⟨_,rfl⟩;obtain⟨N,G⟩:=bU (fZ (L.map eT));obtain⟨D,U⟩:∃D:av,D={M with aT:=M.aT.add 8 n n,bn:=M.bn||N}:=⟨_,rfl⟩;have HA:Hid (∀q,bN 127 #[aK S 225,uZ n,uZ n] (W.drewN q) (.tuple #[]) fun c=>TA oZ s w S bw bl bi fa L bv C c):=fun q=>by
  have h7:TA oZ s w S bw bl bi fa L bv M (W.drewN q):=h6.below ⟨rfl,rfl,rfl,aI _,fun _ _=>rfl⟩;have x0:=h7;obtain⟨o,H,J,a,I,d,t,E⟩:=h7;refine bK (Uz s (s+41) 225 n n 8 M.aT.fl (W.drewN q) a.cK a.ow a.cells.vW a.cells.vX a.cells.rZ a.row hb.cm.ok (by unfold dH at hn;omega)) ?_;rintro c g;refine⟨rfl,?_⟩;have hq:je s o (W.drewN q) S bw bl bi C c:=by rw[T];exact a.qqi (M.aT.add 8 n n) g
  obtain⟨o2,l2,v2,g1,g2⟩:=hq;exact⟨o2,l2,v2,g1,by rw[g2.ext _ d.lt,I],bW d g2 (by grind [fM]),t.kp g2,E.trans g2⟩
 have HS:Hid (∀c,TA oZ s w S bw bl bi fa L bv C c->c.cell? (aA S 228)=some (.bool M.bn)/\c.frozen? (aA S 228)=false/\c.cell? (aA w.heap.size 1)=some (.slice fa L.length z)/\Bn c fa L/\TA oZ s w S bw bl bi fa L bv D (c.setCell (aA S 228) (.bool (M.bn||N)))/\(c.setCell (aA S 228) (.bool (M.bn||N))).cell? (aA w.heap.size 1)=some (.slice fa L.length z)):=fun c hT=>by
  have g:TA oZ s w S bw bl bi fa L bv D (c.setCell (aA S 228) (.bool (M.bn||N))):=hT.step fun o H J a _=>by have:=a.ans (M.bn||N) (gZ.one a.cK 228 (.bool (M.bn||N)) 228 1 (aI _) aj) (cZ H 228 _ _ a.cells.qo);grind
  obtain⟨o,H,J,a,I,d,t,E⟩:=hT;rw[F]at d;have qo:=a.cells.qo;rw[T]at qo;refine⟨by rw[a.cK.cell];exact qo,a.cK.frozen 228,d.cell 1,t.fv,g,?_⟩;obtain⟨o,H,J,a,I,d,t,E⟩:=g;rw[F]at d;exact d.cell 1
 have h9:D.mY=0:=by grind
 rw[<-G,<-U]at hC;rw[<-G,<-U];obtain⟨fs,X⟩:=bU (L.map eT);rw[<-X]at hC ⊢;have HC:=aG hC;have r:=aG (dz X (dz G h9));have hc:=aG F;clear h hb hH h6 hC T U m X G h9 hy F;have hk:W.cell? (aA w.heap.size 0)=some (uZ n):=by rw[hW];exact(aS.new w 56 [uZ n,.slice fa L.length z]).cell 0
 go_enter func138,ntmps138;go_wp2;rw[<-hW];clear hW;refine wp_cut {tmps:=#[aK S 0,.agg #[uZ n,.slice fa L.length z],VG,aK w.heap.size 0,.nilIface,VG,VG,aK S 0,aK S 0,aK S 225,aK w.heap.size 0,uZ n,aK w.heap.size 0,uZ n,.tuple #[],VG,VG,VG,VG,VG,VG,VG,VG,VG,VG,VG,VG,VG,VG,VG,VG,VG,VG,VG,VG,VG,VG,VG,VG,VG,VG,VG,VG,VG,VG,VG,VG,VG,VG],defers:=[]} (fun c=>TA oZ s w S bw bl bi fa L bv C c) ?_ (fun c k=>?_);.go_region_with (go_at_call 127;refine bK (HA.out _) ?_;rintro c k);all_goals exact⟨rfl,k⟩
 obtain⟨k1,k2,k3,k4,k5,k6⟩:=HS.out c k;have HW:Hid (bN 182 #[.slice fa L.length z] c (.bool N) fun A=>bJ c A):=by rw[r.out.2.1];exact JX fa L z c aj k4
 have P:Hid (∀A,bJ c A->A.frozen? (aA S 228)=false/\A.cell? (aA S 228)=some (.bool M.bn)/\TA oZ s w S bw bl bi fa L bv D (A.setCell (aA S 228) (.bool (M.bn||N)))):=fun A V=>by obtain⟨a1,a2,a3,a4,a5,a6⟩:=HS.out A (k.below V);grind
 have he:=aG k;clear HS k4 k5 k6 k HA hk;have O:Hid (∀w3,TA oZ s w S bw bl bi fa L bv D w3->w3.cell? (aA w.heap.size 1)=some (.slice fa L.length z)):=fun w3 hf=>by obtain⟨o,H,J,a,I,d,t,E⟩:=hf;rw[hc.out]at d;exact d.cell 1
 cases XO:M.bn;case' false=>rw[XO]at P k1;rw[Bool.false_or]at P;clear XO;go_wp2_with (go_at_call 182;refine bK HW.out ?_;rintro A V;obtain⟨z1,z2,B⟩:=P.out A V;have h8:=O.out _ B;have R:=aG B;clear B)
 case' true=>rw[XO]at P k1;rw[Bool.true_or]at P;clear XO;obtain⟨z1,z2,B⟩:=P.out c (bP _ _);have h8:=O.out _ B;have R:=aG B;clear B;go_wp2
 all_goals clear k1 k2 k3 P HW he O
 all_goals go_loopw [30] (fun h0 wr=>∃(j:Nat) (p:av),j<=L.length/\h0=(iZ j)/\Hid (oq D (fs.take j) p/\TA oZ s w S bw bl bi fa L bv p wr)) (fun h0 _=>L.length-(eB h0).toNat)
 all_goals first|exact⟨0,D,eG _,rfl,⟨rfl,R.out⟩⟩|skip
 all_goals
  obtain⟨j,p,hj,rfl,Q⟩:=hrel;clear R h8;by_cases u:j<L.length
  .have hv:(j:Int)<(L.length:Int):=aj;have ho:∃b Z,fa=some (aA b Z)/\∀i,i<10->wr.cell? (aA b (Z+j*10+i))=(f_ (L.getD j jw).1 (rW (L.getD j jw)))[i]?:=by
    obtain⟨o,H,J,a,I,d,t,E⟩:=Q.out.2;exact t.fv j u
   obtain⟨b,Z,ha,v⟩:=ho;obtain⟨W5,BG⟩:=bU (wr.alloc (.cells (f_ (L.getD j jw).1 (rW (L.getD j jw))).toArray 65));have EK:Hid (bN 183 #[aK S 0,eX (L.getD j jw).1 (rW (L.getD j jw))] W5 (iZ 0) fun w6=>∃M',(p.gH (L.getD j jw).1 M' 0/\M'.mY=0)/\TA oZ s w S bw bl bi fa L bv M' w6):=by have hg:TA oZ s w S bw bl bi fa L bv p W5:=Q.out.2.below (by rw[BG];exact(bP _ wr).alloc (aI _) _);obtain⟨o,H,J,a,I,d,t,E⟩:=hg;obtain⟨c1,c2,c3⟩:=HC.out p j u Q.out.1;obtain⟨g1,g2,g3⟩:=t.rg j u;have mg:=(Hw _ Q.out.1).trans r.out.2.2;unfold rW;rw[g2];refine bK (qgx (L.getD j jw).1 (L.getD j jw).2.1 (L.getD j jw).2.2.2 a c2 c1 g1 (fun x d=>(g3 x d).2) c3) ?_;rintro w6 ⟨M',t1,t2⟩;have hs:=a.s0;obtain⟨o2,l2,v2,g4,g5⟩:=t2;exact⟨rfl,M',⟨t1,(Kj t1).trans mg⟩,o2,l2,v2,g4,by rw[g5.ext _ d.lt,I],bW d g5 (by grind [fM]),t.kp g5,E.trans g5⟩
   have UF:Hid (fs.take (j+1)=fs.take j++[(L.getD j jw).1]):=by show fs.take (j+1)=_;rw[r.out.1,Ua,T_,wH u,mZ,wH u];rfl
   subst ha;have c0:=v 0 aj;have c1:=v 1 aj;have c2:=v 2 aj;have c3:=v 3 aj;have c4:=v 4 aj;have c5:=v 5 aj;have c6:=v 6 aj;have c7:=v 7 aj;have c8:=v 8 aj;have c9:=v 9 aj;clear v;generalize L.getD j jw=FF at *
   obtain⟨f,r1,r2,r3⟩:=FF;unfold eX at EK;unfold f_ at BG;simp only[rW,jh,gN,sN]at c0 c1 c2 c3 c4 c5 c6 c7 c8 c9 EK BG;go_wp2_with (first|(go_at_call 183;rw[<-BG];refine bK EK.out ?_;rintro w6 ⟨M',Y,h5⟩;obtain⟨z1,z2,B,z4⟩:=h5.mY Y.2;have HZ:=aG (dz Y.1 B);clear B h5 Y)|(go_at_call 137;refine bK (yw S 0 _ z4) ?_;rintro w7 hr;have hu:=hr.symm;subst hu));go_roundw;case rel=>exact⟨j+1,M',aj,aR,⟨by rw[UF.out];exact DZ _ _ Q.out.1 HZ.out.1,HZ.out.2⟩⟩
   grind [eB]
  .obtain rfl:j=L.length:=aj;go_wp2;go_ret;refine⟨rfl,p,?_,?_⟩;.have:=Q.out.1;rw[r.out.1,wI aR]at this;rw[r.out.1];exact this
   .obtain⟨o,H,J,a,I,d,t,E⟩:=Q.out.2;exact⟨o,H,J,a,E⟩
end
def X5{A B}(h:qj A B f)(c:snd f=true):qj A B (norm f):=by
 have e:=norm_eq f c;rcases h with⟨k,a,b⟩|⟨k,a,b,h3⟩|⟨k,a⟩|⟨k,a,b,h3⟩|⟨k,a,b,h3⟩|h;.rw[e,b_ aj,dN k];exact .inl ⟨rfl,a,b⟩
 .rw[e,b_ aj,b_ aj,b_ aj,dN k];exact .inr (.inl ⟨rfl,a,b,h3.e,h3.b,h3.d,h3.bL,h3.ne⟩)
 .rw[e,b_ aj,b_ aj,b_ aj,b_ aj,dN k];exact .inr (.inr (.inl ⟨rfl,a⟩))
 .rw[e,b_ aj,b_ aj,b_ aj,b_ aj,b_ aj,dN k];exact .inr (.inr (.inr (.inl ⟨rfl,a,b,h3⟩)))
 .rw[e,b_ aj,b_ aj,dN k];exact .inr (.inr (.inr (.inr (.inl ⟨rfl,a,b,h3.g,h3.fo,h3.r,h3.m⟩))))
 .have k:=h.kd;rw[e,b_ aj,b_ aj,b_ aj,b_ aj,b_ aj,b_ aj,dN k];exact .inr (.inr (.inr (.inr (.inr ⟨rfl,h.i,h.d,h.s⟩))))
theorem X6(f)(a:snd f=true):norm (norm f)=norm f:=by have b:=norm_eq f a;have c:=norm_eq (norm f) (Gq f a);grind [nJ,rH]
structure O0 (aZ:Nat) (A B:av) (y:Nat×List Fr):Prop where
 dec:sj true y.1 y.2 (bT y.1 y.2)
 nm:y.2.map norm=y.2
 ln:y.2.length<=400
 sz:(bT y.1 y.2).length<=aZ
 ps:0<(bT y.1 y.2).length
 lt:y.1<A.next
 fr:∀f∈y.2,qj A B f
def O0.mono{b A B A' a y}(h:O0 b A B y)(c:EB A A')(d:EB B a):O0 b A' a y:=
 ⟨h.dec,h.nm,h.ln,h.sz,h.ps,gK h.lt c.next,fun f e=>(h.fr f e).mono c d⟩
structure PkC (aZ:Nat) (y:Nat×List Fr):Prop where
 dec:sj true y.1 y.2 (bT y.1 y.2)
 nm:y.2.map norm=y.2
 ln:y.2.length<=400
 sz:(bT y.1 y.2).length<=aZ
 ps:0<(bT y.1 y.2).length
theorem MR{c x}(h:PkF c x):PkC c (x.1,x.2.map norm)/\bT x.1 (x.2.map norm)=bT x.1 x.2:=by
 obtain⟨k,n,e⟩:=qbr x.1 x.2 h.sn;obtain⟨l,o,m⟩:=Ir k;have b:=vo x.1 x.2;refine⟨⟨?_,?_,?_,?_,?_⟩,e⟩
 .unfold sj;rw[dN rfl];refine⟨by grind [dH],fun j i=>⟨l j i,?_⟩,m,by have:=h.ln;grind,rfl⟩;have a:j<x.2.length:=by grind
  show oz ((x.2.map norm).getD j jv);rw[mZ,T_,wH a];have g:=h.fs _ (TY a);exact UK _ g.sn g.ok
 .show(x.2.map norm).map norm=x.2.map norm;rw[nA];exact QA fun f d=>X6 f (h.fs f d).sn
 .show(x.2.map norm).length<=400;rw[mH];exact h.ln
 .show(bT x.1 (x.2.map norm)).length<=c;rw[e,b];exact h.sz
 grind
theorem qhi{b A B x}(h:PkF b x)(i:x.1<A.next)(e:∀f∈x.2,qj A B f):O0 b A B (x.1,x.2.map norm):=by obtain⟨c,_⟩:=MR h;refine⟨c.dec,c.nm,c.ln,c.sz,c.ps,i,fun f a=>?_⟩;obtain⟨g,d,rfl⟩:=jH.1 a;exact X5 (e g d) (h.fs g d).sn
structure Gm where
 id:Nat
 dl:Nat
 data:ByteArray
 aT:Bool
def BU:Gm:=⟨0,0,⟨#[]⟩,false⟩
structure Net where
 x:Nat->av
 dJ:List (Nat×Nat×List Fr)
 now:Nat
 kM:Nat->Nat
 gv:Nat->Wx
 gr:Nat->List Gm
 nx:Nat->Nat
def Net.dM(n:Net)(i:Nat)(M:av):Net:={n with x:=fun j=>if j=i then M else n.x j}
structure dU (aZ:Nat) (n:Net):Prop where
 loc:∀i,i<2->fG (n.x i)
 two:∀i,i<2->dL (n.x i) (n.x (1-i))
 bd:∀i,i<2->Bd (n.x i)
 mt:∀i,i<2->(n.x i).aZ=aZ
 ct:∀i,i<2->n.kM i=(n.x i).next
 dJ:∀y∈n.dJ,y.1<2/\O0 aZ (n.x (1-y.1)) (n.x y.1) y.2
theorem dD(n:Net)(i M):(n.dM i M).x i=M:=dN rfl
theorem gu(n:Net)(i j M)(h:j≠i):(n.dM i M).x j=n.x j:=b_ h
theorem dU.mU{n}(h:dU a n)(i)(b:i<2):dL (n.x (1-i)) (n.x i):=by grind [cases dU]
theorem dU.set{d n}(h:dU d n)(i)(o:i<2)(M)(s:rV (n.x i) (n.x (1-i)) M)(b:Bd M)(m:M.aZ=(n.x i).aZ)(c)(e:∀j,j<2->c j=if j=i then M.next else n.kM j):dU d {n.dM i M with kM:=c}:=by
 have l:(n.dM i M).x (1-i)=n.x (1-i):=gu _ _ _ _ aj;have f:∀j,j<2->j=i\/j=1-i:=fun j f=>aj;have k:∀j,EB (n.x j) ((n.dM i M).x j):=fun j=>by grind [dD,cases rV,gu,EB.refl]
 refine⟨fun j a=>?_,fun j a=>?_,fun j a=>?_,fun j a=>?_,fun j a=>?_,fun y g=>⟨(h.dJ y g).1,(h.dJ y g).2.mono (k _) (k _)⟩⟩;.grind [dD,cases rV,cases dU]
 .grind [dD,cases rV]
 .grind [dD,cases dU]
 .grind [dD,cases dU]
 .rcases f j a with rfl|rfl
  .show c _=((n.dM _ M).x _).next
   rw[dD,e _ a,dN rfl]
  .show c _=((n.dM i M).x (1-i)).next
   rw[l,e _ a,b_ aj];exact h.ct _ a
def dU.add{n}(h:dU a n)(l)(b:∀y∈l,y.1<2/\O0 a (n.x (1-y.1)) (n.x y.1) y.2):dU a {n with dJ:=n.dJ++l}:=
 ⟨h.loc,h.two,h.bd,h.mt,h.ct,fun y c=>(iJ.1 c).elim (h.dJ y) (b y)⟩
def dU.sub{n}(h:dU a n)(l)(b:∀y∈l,y∈n.dJ)(t):dU a {n with dJ:=l,now:=t}:=
 ⟨h.loc,h.two,h.bd,h.mt,h.ct,fun y c=>h.dJ y (b y c)⟩
def Net.new(b a c:Nat):Net:=⟨fun _=>av.new b a c,[],0,fun _=>0,fun _=>nZ,fun _=>[],fun _=>0⟩
theorem O1(a b c)(d:64<=a/\a<=400)(f:b<=4096)(e:c<=4096):dU a (Net.new a b c):=
 ⟨fun _ _=>qg7 a b c (by unfold dH;omega) (by unfold dH;omega),fun _ _=>qg8 a b c,fun _ _=>ql6 a b c d f e,fun _ _=>rfl,fun _ _=>rfl,fun y g=>by cases g⟩
theorem Ku(n):1<=(Num.aB n).length:=by grind [Num.jr,Nat.one_le_two_pow]
theorem O3(rs):∀k,k<=(kg rs k).length
 |0=>eG _
 |k+1=>by rw[kg,lM,lM];have:=O3 rs k;grind [Ku]
theorem qls(f)(h:f.aD=2):f.ranges.length<=(bf f).length:=by
 have e:bf f=[]++[UInt8.ofNat 2]++iG f.ranges:=by unfold bf dV;rw[b_ aj,dN h];rfl
 grind [iG,l6,O3,Ku,mK]
def U_:∀(l) (f),f∈l->(bf f).length<=Kn l
 |g::t,f,h=>by
  have e:Kn (g::t)=(bf g).length+Kn t:=by simp[Kn]
  rcases nQ.1 h with rfl|h;.omega
  .have:=U_ t f h;omega
theorem O0.vF{A B}(h:O0 a A B y)(g:a<=400):∀f∈y.2,f.aD=2->f.ranges.length<=1000000:=fun f b k=>by have c:=qls f k;have d:=U_ _ f b;have e:=h.sz;grind [vo,zC]
theorem qlt{A B}(h:fG A)(b:fG B)(c:dL A B)(g:dL B A)(a:qj B A f)(j:f.aD=2->f.ranges.length<=1000000)(i:A.gy.length<=1000000):FrC A f:=by
 refine⟨a.kd,fun k=>?_,fun k=>?_,fun k=>?_,fun k=>?_,fun k=>?_,fun k=>(EL h b c g f a).1⟩
 .rcases a with⟨_,p,q⟩|⟨e,_⟩|⟨e,_⟩|⟨e,_⟩|⟨e,_⟩|e;.grind
  .omega
  .omega
  .omega
  .omega
  .have:=e.kd;omega
 .rcases a with⟨e,_⟩|⟨_,p,q,_⟩|⟨e,_⟩|⟨_,p,q,_⟩|⟨_,p,q,_⟩|e;.omega
  .grind
  .omega
  .grind
  .grind
  .have:=e.kd;omega
 .rcases a with⟨e,_⟩|⟨_,p,q,d⟩|⟨e,_⟩|⟨e,_⟩|⟨e,_⟩|e;.omega
  .exact dx d.b (b.wr _).sz
  .omega
  .omega
  .omega
  .have:=e.kd;omega
 .rcases a with⟨e,_⟩|⟨e,_⟩|⟨e,_⟩|⟨e,_⟩|⟨_,p,q,d⟩|e;.omega
  .omega
  .omega
  .omega
  .have w:=b.wr f.aF.toNat;grind [cases A8,Nat.le_trans,cases vS]
  .have:=e.kd;omega
 grind [qj]
theorem Kv:∀(a) {A B A'},fG A->fG B->dL A B->dL B A->Bd A->Bd B->(∀f∈a,qj B A f)->oq A a A'->rV A B A'/\Bd A'/\A'.next=A.next
 |[],A,B,A',hA,hB,h1,h2,bA,bB,_,h=>by cases h;grind [lW]
 |f::t,A,B,A',hA,hB,h1,h2,bA,bB,hf,h=>by obtain⟨j,r,h⟩:=h;obtain⟨_,s,b,n,m⟩:=GY hA hB h1 h2 bA bB f (hf f aR) r;obtain⟨i,c,e⟩:=Kv t s.loc hB s.ab s.ba b bB (fun g d=>(hf g (by simp[d])).mono (EB.refl _) s.le) h;exact⟨s.trans i,c,e.trans n⟩
def qbs(M:av)(f):(M.gJ f).gy=M.gy:=by
 unfold av.gJ;repeat' split
 all_goals rfl
def Va(g)(a:∀A f,(g A f).gy=A.gy):∀(l:List Fr) (A:av),(l.foldl g A).gy=A.gy
 |[],_=>rfl
 |f::t,A=>(Va g a t (g A f)).trans (a A f)
theorem qbt{A A':av}{l}(h:A.uH l A'):A'.gy=A.gy:=by obtain⟨a,b,_,_,rfl⟩:=h;exact Va _ qbs _ _
theorem qhj(A:av)(f)(a:f.aD≠2)(b:f.aD≠7):(A.take f).1.gy=A.gy:=by
 unfold av.take;rw[b_ a];repeat' split
 all_goals first|rfl|(exfalso;omega)
theorem Ti{A A':av}{e}(h:A.gH f A' e):A'.gy.length<=A.gy.length+1:=by
 unfold av.gH at h;split at h;.grind [qbt]
 .rename_i b;split at h;.grind [av.pQ]
  .rename_i c;have a:=congrArg eT h;grind [qhj]
theorem xP:∀(a) {A A'},oq A a A'->A'.gy.length<=A.gy.length+a.length
 |[],A,A',h=>by cases h;grind
 |f::t,A,A',h=>by obtain⟨b,r,h⟩:=h;have c:=Ti r;have d:=xP t h;grind
theorem qog{f A B}(p:fG A)(i:fG B)(n:dL A B)(o:dL B A)(a:Bd A)(m:Bd B)(h:O0 f B A y)(v:B.next<=dH)(r:A.next<=dH)(e:f<=400)(t:A.gy.length+y.2.length<=1000000):∀c j,j<y.2.length->oq {A with aT:=A.aT.add 8 y.1 y.1,bn:=A.bn||fZ y.2} (y.2.take j) c->FrC c (y.2.getD j jv)/\Bd c/\c.next<=dH:=by
 intro c j u k;have s:=GI p n o y.1 h.lt (A.bn||fZ y.2);obtain⟨d,l,w⟩:=Kv (y.2.take j) s.loc i s.ab s.ba (A:={A with aT:=A.aT.add 8 y.1 y.1,bn:=A.bn||fZ y.2})
  ⟨a.o,a.i,a.g,a.lm,a.mt,a.wy,a.ls,a.ky,a.wl,a.ll,a.nm,Mi a.cm y.1 (fT h.lt),a.tk,a.ib⟩ m (fun g q=>(h.fr g (tF q)).mono (EB.refl _) s.le) k
 have b:y.2.getD j jv∈y.2:=by grind
 exact⟨qlt d.loc i d.ab d.ba ((h.fr _ b).mono (EB.refl _) (s.trans d).le) (h.vF e _ b) (by have:=xP _ k;grind),l,by grind⟩
theorem qh2{B d f}(h:Bb B w A d f d.length)(q:∀j,j<d.length->oz (d.getD j jv))(oZ s)(H:0<s)(z:∀b,B<=b->oZ b=0):∃l m,∃L,A=.slice l L.length m/\L.map eT=d/\D5 oZ s w l L:=by
 obtain⟨l,m,rfl,hF⟩:=h.Uj q;have t:(0:Nat)∉T0 s:=fun e=>fT (fM.1 e);obtain⟨L,v⟩:=bU ((List.range d.length).map fun j=>(d.getD j jv,Y0 (f j),(d.getD j jv).ranges.length,qfd (f j)):List FV);have p:L.length=d.length:=by rw[v];simp
 have y:∀j,j<d.length->L.getD j jw=(d.getD j jv,Y0 (f j),(d.getD j jv).ranges.length,qfd (f j)):=fun j g=>by grind
 have F:L.map eT=d:=by rw[v,nA];refine E_ aR fun j u D=>?_;grind
 refine⟨l,m,L,by rw[p],F,⟨qfo.qpq hF.weak L p y,fun x n=>?_,fun j g=>?_⟩⟩;.subst n;have i:(Value.slice (some x) d.length m).ownBlock=some x.block:=rfl;exact⟨h.buf.lt _ i,by rw[z _ (h.own _ i)];exact t⟩
 .rw[p]at g;rw[y j g];obtain⟨b,G,_,u,D,E⟩:=hF j g;obtain⟨C,o,_⟩:=h.vF j g;refine⟨u.vF,rfl,fun x n=>⟨E x n,?_⟩⟩;obtain⟨a,c,e,_⟩:=C.shape;have k:Y0 (f j)=some x:=n;rw[e]at k o;have r:a=some x:=k;rw[r]at o;rw[z _ (o x.block rfl)];exact t
theorem SH{S M bw bl bi}(n d X yo cap)(h:gq oZ s w S l M bw bl bi vc)(P:Bd M)(V:M.mY=0)(hn:n<=dH)(hD:sj true n d lb)(T:d.map norm=d)(h5:d.length<=1000000)(Q:dX w (some (aA X yo)) lb)(A:lb.length<=1000000000)(m:lb.length<=cap)(z:cap<=9223372036854775807)(W:X<w.heap.size)(hT:mM w)(h2:2<=w.heap.size)(hC:∀J j,j<d.length->oq {M with aT:=M.aT.add 8 n n,bn:=M.bn||fZ d} (d.take j) J->FrC J (d.getD j jv)/\Bd J/\J.next<=dH):WA prog 104 #[aK S 0,.slice (some (aA X yo)) lb.length cap] w fun e H=>e=.returned .nilIface/\∃o,M.jJ n d o 0/\je s oZ w S bw bl bi o H:=by
 have HO:=aG (yw S M.mY w (by rw[h.cK.cell];exact h.cells.rC));rw[V]at HO;have U:∀j,j<d.length->oz (d.getD j jv):=fun j hj=>by unfold sj at hD;grind
 have I:Hid (WA prog 69 #[.slice (some (aA X yo)) lb.length cap] w fun e g=>∃t u,∃L:List FV,e=.returned (.tuple #[.agg #[uZ n,.slice t L.length u],.nilIface])/\Hid (L.map eT=d/\∃y,gq y s g S l M bw bl bi vc/\D5 y s g t L/\Kp [] oZ y w g)):=by refine(rM true n d X yo cap hD Q A m z W hT h2).mono ?_;rintro e g ⟨sv,h4,rfl,hR,k⟩;unfold rJ at hR;rw[dN rfl]at hR;obtain⟨rfl,v9,hc⟩:=hR;rw[T]at hc;have K:Kp [] oZ (loc oZ w.heap.size) w g:=⟨k.os,k.tape,k.output,k.size,fun x hx _=>k.block x hx,fun x hx=>jW _ _ _ hx⟩;obtain⟨t,u,L,rfl,O,hH⟩:=qh2 hc U (loc oZ w.heap.size) s h.s0 (fun b P=>jF _ _ _ aj);exact⟨t,u,L,rfl,O,_,h.kp K aR,hH,K⟩
 have ug:=aG (dz P (dz V hC));clear h P V hD Q A m z W hT h2 hC U T;generalize lb.length=ll at *
 go_enter func104,ntmps104;go_wp2_with (first|(go_at_call 137;refine bK HO.out ?_;rintro H D;have E:=D.symm;subst E)|(go_at_call 69;refine I.out.mono ?_;rintro e g ⟨t,u,L,rfl,Y⟩)|(go_at_call 71;refine bK (qh0 _) ?_;rintro H D;have E:=D.symm;subst E));obtain⟨r,C⟩:=bU (g.alloc (.cells #[uZ n,.slice t L.length u] 56));have v:aS r g.heap.size 56 [uZ n,.slice t L.length u]:=by grind [aS.new]
 have f:bJ g r:=by rw[C];exact(bP _ g).alloc (aI _) _
 have x0:r.cell? (aA g.heap.size 0)=some (uZ n):=v.cell 0;have Z:Hid (∀q,bN 128 #[aK S 225,uZ n] (r.drewN q) (.bool (M.aT.has n)) fun c=>bJ r c):=fun q=>by obtain⟨O,y,N,g2,g3⟩:=Y.out;have i:gq y s (r.drewN q) S l M bw bl bi vc:=N.below (mQ f);refine bK (qfh (s+41) 225 n 8 M.aT.fl (r.drewN q) i.cK i.cells.vW i.cells.vX i.cells.rZ i.row ug.out.1.cm.so (fT ug.out.1.cm.ln)) ?_;rintro c a;grind [pW]
 have HT:Hid (∀c,bJ r c->M.aT.has n=false->WA prog 138 #[aK S 0,.agg #[uZ n,.slice t L.length u]] c fun e H=>e=.returned .nilIface/\∃o,M.jJ n d o 0/\je s oZ w S bw bl bi o H):=fun c a p=>by
  obtain⟨O,y,N,g2,g3⟩:=Y.out;obtain⟨P,V,hC⟩:=ug.out;have G:=f.trans (a.mono f.size);have h6:L.length=d.length:=by grind
  refine(SF n L u (N.below G) P hn (g2.kp (Kp.below G)) (by grind) V (fun J j hj hr=>?_)).mono ?_;.grind
  .rintro e H ⟨rfl,o,t1,o2,l2,v2,t2,t3⟩;rw[O]at t1;refine⟨rfl,o,?_,o2,l2,v2,t2,(g3.mono aR).trans ((Kp.below G).trans t3)⟩;unfold av.jJ;rw[b_ (by rw[p];simp)];exact Hu d t1
 have HN:Hid (∀c,bJ r c->M.aT.has n=true->∃o,M.jJ n d o 0/\je s oZ w S bw bl bi o c):=fun c a p=>by obtain⟨O,y,N,g2,g3⟩:=Y.out;have G:=f.trans (a.mono f.size);refine⟨M,?_,y,l,vc,N.below G,(g3.mono aR).trans (Kp.below G)⟩;unfold av.jJ;rw[dN p];grind
 have h3:=aG v;have R:=v.lt;clear Y ug v f I HO;rw[<-C];clear C;cases p:M.aT.has n
 .rw[p]at Z;have h0:=aG fun c a=>HT.out c a p;clear HT HN p;go_region_with (go_at_call 128;refine bK (Z.out _) ?_;rintro c a;have F:=h3.out.of_heap (a.block _ R);have y0:c.cell? (aA g.heap.size 0)=some (uZ n):=F.cell 0;have y1:c.cell? (aA g.heap.size 1)=some (.slice t L.length u):=F.cell 1;have B:=aG a;clear a F);all_goals(
   go_wp2_with (go_at_call 138;refine bK (h0.out _ B.out) ?_;rintro w4 HE;have HE:=aG HE);go_ret;exact⟨rfl,HE.out⟩)
 .rw[p]at Z;have Le:=aG fun c a=>HN.out c a p;clear HT HN p;go_region_with (go_at_call 128;refine bK (Z.out _) ?_;rintro c a;have B:=aG a;clear a);all_goals(
   go_wp2;go_ret;exact⟨rfl,Le.out _ B.out⟩)
theorem Hy(S l m cap)(z:w.cell? (aA S 238)=some (iZ ((0:Nat):Int)))(r:sj false 0 [] lb)(j:dX w (some (aA l m)) lb)(c:lb.length<=1000000000)(a:lb.length<=cap)(b:cap<=9223372036854775807)(k:l<w.heap.size)(s:mM w)(q:2<=w.heap.size):bN 104 #[aK S 0,.slice (some (aA l m)) lb.length cap] w (.iface 57 (iZ 7)) fun o=>bJ w o:=by
 have t:=aG (yw S 0 w z);have y:∀w,(binOp .neq 94 (.iface 57 (iZ 7)) .nilIface).run prog w=.ok (.bool true) w:=fun _=>bZ;have n:Hid (bN 69 #[.slice (some (aA l m)) lb.length cap] w (.tuple #[.agg #[uZ 0,nZ],.iface 57 (iZ 7)]) fun p=>bJ w p):=by refine(rM false 0 [] l m cap r j c a b k s q).mono ?_;rintro e p ⟨B,u,rfl,v,x⟩;unfold rJ at v;grind
 clear r j c a b k s q;generalize lb.length=A at *
 go_enter func104,ntmps104;go_wp2_with (first|(go_at_call 137;refine bK t.out ?_;rintro o d;have f:=d.symm;subst f)|(go_at_call 69;refine bK n.out ?_;rintro p i;have g:=aG i;clear i)|(go_at_call 71;refine bK (qh1 _) ?_;rintro o d;have f:=d.symm;subst f));go_ret;exact⟨rfl,g.out.alloc g.out.size _⟩
section
def pz(C S w)(hc:w.cell? (aA C 0)=some (aK S 0)):bN 65 #[aK C 0] w (aK S 0) fun a=>a=w:=by go_enter func65,ntmps65;go_wp2;go_ret;exact⟨rfl,rfl⟩
section
variable (C S:Nat) (w:Wq) (hc:w.cell? (aA C 0)=some (aK S 0))
 include hc
theorem qh3(R:Wq->Prop)(h:bN 66 #[aK S 0] w (.tuple #[]) fun a=>R a):bN 38 #[aK C 0] w (.tuple #[]) fun a=>R a:=by have d:=aG (pz C S w hc);have c:=aG h;clear h hc;go_enter func38,ntmps38;go_wp2_with (first|(go_at_call 65;refine bK d.out ?_;rintro a f;have b:=f.symm;subst b)|(go_at_call 66;refine bK c.out ?_;rintro a e;have g:=aG e));go_end0;grind
def qh4(k v)(R:Wx->Wq->Prop)(h:WA prog 108 #[aK S 0,iZ k,v] w fun e a=>∃x,e=.returned x/\R x a):WA prog 61 #[aK C 0,iZ k,v] w fun e a=>∃x,e=.returned x/\R x a:=by have d:=aG (pz C S w hc);have c:=aG h;clear h hc;go_enter func61,ntmps61;go_wp2_with (first|(go_at_call 65;refine bK d.out ?_;rintro a i;have b:=i.symm;subst b)|(go_at_call 108;refine c.out.mono ?_;rintro e a ⟨x,rfl,g⟩;have f:=aG g));go_ret;exact⟨_,rfl,f.out⟩
def XQ(k)(R:Wx->Wq->Prop)(h:WA prog 109 #[aK S 0,iZ k] w fun e a=>∃x,e=.returned x/\R x a):WA prog 62 #[aK C 0,iZ k] w fun e a=>∃x,e=.returned x/\R x a:=by have d:=aG (pz C S w hc);have c:=aG h;clear h hc;go_enter func62,ntmps62;go_wp2_with (first|(go_at_call 65;refine bK d.out ?_;rintro a i;have b:=i.symm;subst b)|(go_at_call 109;refine c.out.mono ?_;rintro e a ⟨x,rfl,g⟩;have f:=aG g));go_ret;exact⟨_,rfl,f.out⟩
def SI(R:Wx->Wq->Prop)(h:WA prog 114 #[aK S 0] w fun e a=>∃x,e=.returned x/\R x a):WA prog 68 #[aK C 0] w fun e a=>∃x,e=.returned x/\R x a:=by have d:=aG (pz C S w hc);have c:=aG h;clear h hc;go_enter func68,ntmps68;go_wp2_with (first|(go_at_call 65;refine bK d.out ?_;rintro a i;have b:=i.symm;subst b)|(go_at_call 114;refine c.out.mono ?_;rintro e a ⟨x,rfl,g⟩;have f:=aG g));go_ret;exact⟨_,rfl,f.out⟩
def SK(v)(R:Wx->Wq->Prop)(h:WA prog 104 #[aK S 0,v] w fun e a=>∃x,e=.returned x/\R x a):WA prog 56 #[aK C 0,v] w fun e a=>∃x,e=.returned x/\R x a:=by have d:=aG (pz C S w hc);have c:=aG h;clear h hc;go_enter func56,ntmps56;go_wp2_with (first|(go_at_call 65;refine bK d.out ?_;rintro a i;have b:=i.symm;subst b)|(go_at_call 104;refine c.out.mono ?_;rintro e a ⟨x,rfl,g⟩;have f:=aG g));go_ret;exact⟨_,rfl,f.out⟩
theorem qh5(k c)(R:Wx->Wx->Wx->Wq->Prop)(h:WA prog 140 #[aK S 0,iZ k,iZ c] w fun e a=>∃x y z,e=.returned (.tuple #[x,y,z])/\R x y z a):WA prog 106 #[aK C 0,iZ k,iZ c] w fun e a=>∃x y z,e=.returned (.tuple #[x,y,z])/\R x y z a:=by have f:=aG (pz C S w hc);have d:=aG h;clear h hc;go_enter func106,ntmps106;go_wp2_with (first|(go_at_call 65;refine bK f.out ?_;rintro a i;have b:=i.symm;subst b)|(go_at_call 140;refine d.out.mono ?_;rintro e a ⟨x,y,z,rfl,g⟩;have j:=aG g));refine VH (v:=.tuple #[x,y,z]) (by simp[results,results106,go_sem]) rfl ?_;grind
end


def av.emp(M:av):av:={M with gy:=[],iv:=nZ}
theorem MC(S){M bw bl bi}(h:gq oZ s w S l M bw bl bi r):WA prog 105 #[aK S 0] w fun e o=>∃x,e=.returned x/\GT oZ (s+54) 118 2 o x M.gy.length (Wn M.gy)/\(∃k m,gq oZ s o S k M.emp bw bl bi m)/\Kp [s] oZ oZ w o:=by
 obtain⟨a,c,q,I,hc⟩:=h.qu.m.shape;have G:w.cell? (aA S 235)=some (.slice a M.gy.length c):=by rw[h.cK.cell,h.cells.r_,q]
 have f0:=h.cK.frozen 235;have D:=h.cK.lt;have F:=h.s0;obtain⟨W,i⟩:=bU (w.setCell (aA S 235) nZ);have K:Kp [s] oZ oZ w W:=by rw[i];exact Kp.set oZ w _ _ _ (by show oZ S∈_;rw[h.ow];simp)
 have t:Hid (GT oZ (s+54) 118 2 W (.slice a M.gy.length M.gy.length) M.gy.length (Wn M.gy)/\(∃k m,gq oZ s W S k M.emp bw bl bi m)/\Kp [s] oZ oZ w W):=by
  refine⟨?_,⟨l.set 235 nZ,r,?_⟩,K⟩
  .have g:=h.qu.m.kp K aR;rw[q]at g;rcases g with⟨e,d,f⟩|⟨b,cap,u,e1,d,f,v,p,y,z,A,B⟩;.refine .inl ⟨?_,d,f⟩;grind
   .injection e1 with ea;rw[ea];exact .inr ⟨b,M.gy.length,u,rfl,d,f,dx (EZ _ p) v,aI _,dx p y,z,A,B⟩
  .exact h.inb (K.mono aR) ⟨aR,fun j H=>by grind⟩ nZ [] M.dK M.taken (by rw[i];exact h.cK.setCell 235 _) (cZ _ _ _ _ h.cells.r_) (by rw[ay _ _ _ _ aj];exact h.cells.uw) (.inl ⟨rfl,rfl,rfl⟩) (h.qu.t.kept (K.cK bi h.qu.t.lt (by rw[h.qu.o];simp)))
 have E:(M.gy.length:Int)<=(c:Int):=aj;clear h K;generalize M.gy.length=n at *
 go_enter func105,ntmps105;go_wp2;rw[<-i];go_ret;exact⟨_,rfl,t.out⟩
def ME(C S w)(hc:w.cell? (aA C 0)=some (aK S 0))(R:Wx->Wq->Prop)(h:WA prog 105 #[aK S 0] w fun e a=>∃x,e=.returned x/\R x a):WA prog 57 #[aK C 0] w fun e a=>∃x,e=.returned x/\R x a:=by have d:=aG (pz C S w hc);have c:=aG h;clear h hc;go_enter func57,ntmps57;go_wp2_with (first|(go_at_call 65;refine bK d.out ?_;rintro a i;have b:=i.symm;subst b)|(go_at_call 105;refine c.out.mono ?_;rintro e a ⟨x,rfl,g⟩;have f:=aG g));go_ret;exact⟨_,rfl,f.out⟩
end
def eql3(w):(binOp .eql 94 (.iface 57 (iZ 3)) (.iface 57 (iZ 3))).run prog w=.ok (.bool true) w:=bZ
def eql4(w):(binOp .eql 94 (.iface 57 (iZ 4)) (.iface 57 (iZ 4))).run prog w=.ok (.bool true) w:=bZ
def SL(e:Nat):Prop:=e=0\/e=3\/e=4\/e=7
def OT(e)(b:SL e)(w)(a:iM w):bN 42 #[nk e] w (.tuple #[iZ e,(iZ (-1))]) fun c=>bJ w c:=by
 rcases b with rfl|rfl|rfl|rfl;.exact BK w
 .exact rQ 3 eql3 w a
 .exact rQ 4 eql4 w a
 .exact rQ 7 eql7 w a
def rR(e)(b:SL e)(w)(a:iM w):bN 60 #[nk e] w (iZ e) fun c=>bJ w c:=yF (nk e) e (-1) w _ (OT e b w a)
theorem qh6(o:Ot)(b):SL (o.send b).2:=by grind [Ot.send,SL]
theorem XR(o:Ot):SL o.finish.2:=by grind [Ot.finish,SL]
def XT(C S){M bw bl bi}(k:Nat)(u:k<8)(h:gq oZ s w S l M bw bl bi A)(n:w.cell? (aA C 0)=some (aK S 0))(p:M.mY=0)(c:iM w)(j:oZ 0∉T0 s):bN 35 #[aK C 0,iZ k] w (iZ ((M.out k).finish.2:Int)) fun a=>je s oZ w S bw bl bi (M.dA k (M.out k).finish.1) a:=by
 have q:Hid (WA prog 62 #[aK C 0,iZ k] w fun e a=>∃x,e=.returned x/\x=nk (M.out k).finish.2/\je s oZ w S bw bl bi (M.dA k (M.out k).finish.1) a):=
  XQ C S w n k (fun x a=>x=nk (M.out k).finish.2/\je s oZ w S bw bl bi (M.dA k (M.out k).finish.1) a) ((WM k u h p).mono fun e a o=>⟨_,o.1,rfl,o.2⟩)
 have d:0<w.heap.size:=iq w (aA 0 0) (by unfold iM at c;rw[c]);have r:Hid (∀b,je s oZ w S bw bl bi (M.dA k (M.out k).finish.1) b->bN 60 #[nk (M.out k).finish.2] b (iZ ((M.out k).finish.2:Int)) fun a=>je s oZ w S bw bl bi (M.dA k (M.out k).finish.1) a):=fun b f=>by obtain⟨y,v,z,t,i⟩:=f;refine bK (rR _ (XR _) b (cell_of c (i.cK 0 d j))) ?_;rintro a m;exact⟨rfl,y,v,z,t.below m,i.iQ m⟩
 clear h n p c j;generalize (M.out k).finish.2=en at *
 go_enter func35,ntmps35;go_wp2_with (first|(go_at_call 62;refine q.out.mono ?_;rintro e b ⟨x,rfl,rfl,f⟩)|(go_at_call 60;refine bK (r.out _ f) ?_;rintro B g));go_ret;exact⟨rfl,g⟩
section
def Nn(W:Wq)(g n:Nat):Prop:=∃C a,W.heap[g]?=some (.cells C 5 a)/\n<=C.size/\(n<=a.1\/a.2=0)
theorem Nn.lt(h:Nn W g n):g<W.heap.size:=by obtain⟨C,a,b,_⟩:=h;grind
def Nn.of_heap{a}(h:Nn W g n)(e:a.heap[g]?=W.heap[g]?):Nn a g n:=by obtain⟨C,b,c,d⟩:=h;exact⟨C,b,e.trans c,d⟩
theorem Nn.cell{W g n}(h:Nn W g n)(j)(e:j<n):(∃v,W.cell? (aA g j)=some v)/\W.frozen? (aA g j)=false:=by
 obtain⟨C,b,a,c,d⟩:=h;refine⟨⟨C[j]'aj,?_⟩,?_⟩;.simp only[mI,a];grind
 .simp only[World.frozen?,a];grind
theorem Nn.set(h:Nn W g n)(j v):Nn (W.setCell (aA g j) v) g n:=by obtain⟨C,a,b,d,c⟩:=h;refine⟨C.setIfInBounds j v,a,?_,by grind,c⟩;simp[World.setCell,Array.getElem?_modify,b]
theorem pX(w s)(i:s.size<=1000000000):∃c d,(convert 9 60 (.string s)).run prog w=.ok (dB w.heap.size s.size c) d/\s.size<=c/\c<=9223372036854775807/\bJ w d/\dX d (some (aA w.heap.size 0)) s.data.toList/\Nn d w.heap.size s.size:=by
 have h:=run_bytes_of_string (P:=prog) w 9 60 5 s u9 u29 bZ;have k:s.data.size=s.size:=rfl;have e:=grownCap_ge w s.size 0 5;have a:(w.drew.alloc (.cells (bytesRow s (grownCap w s.size 0 5)) 5 ((bytesRow s (grownCap w s.size 0 5)).size,(bytesRow s (grownCap w s.size 0 5)).size+1))).heap[w.heap.size]?=some (.cells (bytesRow s (grownCap w s.size 0 5)) 5 ((bytesRow s (grownCap w s.size 0 5)).size,(bytesRow s (grownCap w s.size 0 5)).size+1)):=by show(w.heap.push _)[w.heap.size]?=_;simp
 have b:s.size<=(bytesRow s (grownCap w s.size 0 5)).size:=by unfold bytesRow;grind
 refine⟨_,_,h,e,grownCap_le_maxLen w s.size 0 5 (by unfold maxLen;omega),((bP _ w).drew).alloc (aI _) _,fun j g=>⟨_,0,rfl,?_⟩,⟨_,_,a,b,.inl b⟩⟩;have f:j<s.data.size:=by grind
 rw[gG];simp only[mI,a];unfold bytesRow;grind
def SS(oZ:Own)(s:Nat)(w:Wq)(S bw bl bi n:Nat)(M':av)(y:Wq):Prop:=
 ∃a b c,gq a s y S b M' bw bl bi c/\a w.heap.size=0/\Nn y w.heap.size n/\Kp (T0 s) oZ a w y
section
variable {oZ:Own} {s:Nat} {w:Wq} {S bw bl bi n:Nat} {M':av} {y:Wq}
theorem SS.set(h:SS oZ s w S bw bl bi n M' y)(j v):SS oZ s w S bw bl bi n M' (y.setCell (aA w.heap.size j) v):=by obtain⟨o,l,m,d,f,g,c⟩:=h;have K:Kp [0] o o y (y.setCell (aA w.heap.size j) v):=Kp.set o y _ v [0] (by rw[f];simp);have p:=d.s0;exact⟨o,l,m,d.kp K (fun x a b e=>by grind),f,g.set j v,⟨c.os,c.tape,c.output,by simpa using c.size,fun b i k=>(jg _ _ _ _ dZ).trans (c.cK b i k),c.ext⟩⟩
theorem SS.step{e}(h:SS oZ s w S bw bl bi n M' y)(k:∀f c d,gq f s y S c M' bw bl bi d->je s f y S bw bl bi e y'):SS oZ s w S bw bl bi n e y':=by obtain⟨o,c,q,g,j,b,l⟩:=h;obtain⟨p,m,r,i,a⟩:=k o c q g;have t:=g.s0;exact⟨p,m,r,i,by rw[a.ext _ b.lt,j],b.of_heap (a.cK _ b.lt (by grind [fM])),l.trans a⟩
def SS.below(h:SS oZ s w S bw bl bi n M' y)(a:bJ y y'):SS oZ s w S bw bl bi n M' y':=h.step fun _ _ _ g=>je.refl g a
def SS.err(h:SS oZ s w S bw bl bi n M' y)(a:iM w)(b:oZ 0∉T0 s):iM y:=by obtain⟨o,g,i,d,e,f,c⟩:=h;exact cell_of a (c.cK 0 (iq w (aA 0 0) (by unfold iM at a;rw[a])) b)
def SS.q(h:SS oZ s w S bw bl bi n M' y):je s oZ w S bw bl bi M' y:=by obtain⟨o,c,d,a,e,f,b⟩:=h;exact⟨o,c,d,a,b⟩
end

def Hz{S bw bl bi M c}(h:gq oZ s w S l M bw bl bi c)(a:bJ w W)(d:Nn W w.heap.size n):SS oZ s w S bw bl bi n M W:=by have K:Kp [] oZ (loc oZ w.heap.size) w W:=⟨a.os,a.tape,a.output,a.size,fun x b _=>a.block x b,fun x b=>jW _ _ _ b⟩;exact⟨_,l,c,h.kp K aR,jF _ _ _ (aI _),d,K.mono aR⟩
theorem qh7(C S){M bw bl bi}(k)(hk:k<8)(data)(hd:data.size<=1000000000)(h:gq oZ s w S l M bw bl bi vc)(F:w.cell? (aA C 0)=some (aK S 0))(V:M.mY=0)(T:(M.out k).aB.length<=2048)(P:iM w)(L:oZ 0∉T0 s):bN 34 #[aK C 0,iZ k,.string data] w (iZ (((M.out k).send data.data.toList).2:Int)) fun w'=>je s oZ w S bw bl bi (M.dA k ((M.out k).send data.data.toList).1) w':=by
 obtain⟨K,W,h5,Q,R,f,m,t⟩:=pX w data hd;have E:C<w.heap.size:=iq w (aA C 0) (by rw[F]);have d:=Hz h f t;have b:data.data.toList.length=data.size:=aR;obtain⟨g,c⟩:=bU (M.dA k ((M.out k).send data.data.toList).1);have I:Hid (WA prog 61 #[aK C 0,iZ k,dB w.heap.size data.size K] W fun e a=>∃x,e=.returned x/\x=nk ((M.out k).send data.data.toList).2/\SS oZ s w S bw bl bi data.size g a):=by refine qh4 C S W (cell_of F (f.block _ E)) k _ (fun x a=>x=nk ((M.out k).send data.data.toList).2/\SS oZ s w S bw bl bi data.size g a) ?_;have h6:=d;obtain⟨o,l1,v1,D,N,i,O⟩:=d;have:=qfv k hk (aA w.heap.size 0) K D V T m (by grind);rw[b]at this;refine bK this ?_;rintro a q;refine⟨_,rfl,rfl,?_⟩;obtain⟨o2,l2,v2,Y,B⟩:=q;have hs:=D.s0;rw[c];exact⟨o2,l2,v2,Y,by rw[B.ext _ i.lt,N],i.of_heap (B.cK _ i.lt (by grind [fM])),O.trans B⟩
 have J:Hid (∀a,SS oZ s w S bw bl bi data.size g a->bN 60 #[nk ((M.out k).send data.data.toList).2] a (iZ (((M.out k).send data.data.toList).2:Int)) fun H=>SS oZ s w S bw bl bi data.size g H):=fun a p=>by refine bK (rR _ (qh6 _ _) a (p.err P L)) ?_;rintro H Z;exact⟨rfl,p.below Z⟩
 rw[<-c];clear h F V T P L d f m t c b;generalize ((M.out k).send data.data.toList).2=en at *
 generalize data.size=n at *
 go_enter func34,ntmps34;go_wp2_with (first|(go_at_call 61;refine I.out.mono ?_;rintro e a ⟨x,rfl,rfl,p⟩)|(go_at_call 60;refine bK (J.out _ p) ?_;rintro H r;have u:=aG r;clear r));clear I J p;go_loopw [19] (fun A wr=>∃j:Nat,j<=n/\A=(iZ j)/\Hid (SS oZ s w S bw bl bi n g wr)) (fun A _=>n-(eB A).toNat);case atStart=>grind
 case round=>
  obtain⟨j,hj,rfl,z⟩:=hrel;clear u;by_cases G:j<n
  .have U:(j:Int)<(n:Int):=aj;obtain⟨⟨v,e1⟩,e2⟩:(∃v,wr.cell? (aA w.heap.size j)=some v)/\wr.frozen? (aA w.heap.size j)=false:=by
    obtain⟨o,l1,v1,D,N,i,O⟩:=z.out;exact i.cell j G
   have X:=aG (z.out.set j (.int .u8 33));go_wp2;go_roundw;case rel=>exact⟨j+1,aj,aR,X⟩
   grind [eB]
  .obtain rfl:j=n:=aj;go_wp2;go_ret;exact⟨rfl,z.out.q⟩
end
section
def qba(w):(convert 60 9 nZ).run prog w=.ok (.string ⟨#[]⟩) w:=bZ
def SR(oZ:Own)(s:Nat)(w:Wq)(S bw bl bi g n:Nat)(M':av)(y:Wq):Prop:=
 ∃a b c,gq a s y S b M' bw bl bi c/\a g=0/\Nn y g n/\w.heap.size<=g/\Kp (T0 s) oZ a w y
section
variable {oZ:Own} {s:Nat} {w:Wq} {S bw bl bi g n:Nat} {M':av} {y:Wq}
theorem SR.set(h:SR oZ s w S bw bl bi g n M' y)(j v):SR oZ s w S bw bl bi g n M' (y.setCell (aA g j) v):=by obtain⟨o,p,q,d,f,i,l,c⟩:=h;have K:Kp [0] o o y (y.setCell (aA g j) v):=Kp.set o y _ v [0] (by rw[f];simp);have r:=d.s0;exact⟨o,p,q,d.kp K (fun x a b e=>by grind),f,i.set j v,l,⟨c.os,c.tape,c.output,by simpa using c.size,fun b k m=>(jg _ _ _ _ dZ).trans (c.cK b k m),c.ext⟩⟩
def SR.q(h:SR oZ s w S bw bl bi g n M' y):je s oZ w S bw bl bi M' y:=by obtain⟨o,c,d,a,e,f,i,b⟩:=h;exact⟨o,c,d,a,b⟩
end
def Ia{S bw bl bi M'}(a)(e:je s oZ w S bw bl bi M' a):bN 60 #[.nilIface] a (iZ 0) fun j=>je s oZ w S bw bl bi M' j:=by obtain⟨h,f,i,c,d⟩:=e;refine bK (yF .nilIface 0 (-1) a _ (BK a)) ?_;rintro k b;exact⟨rfl,h,f,i,c.below b,d.iQ b⟩
theorem qh9(C S){M bw bl bi}(k)(hk:k<8)(b)(h:gq oZ s w S l M bw bl bi vc)(hc:w.cell? (aA C 0)=some (aK S 0))(hy:M.mY=0)(B:Dc (M.bH k)):bN 58 #[aK C 0,iZ k,iZ b] w (.tuple #[.string ⟨((M.bH k).rd b).1.toArray⟩,(iZ (((M.bH k).rd b).2.state:Int)),iZ 0]) fun w'=>je s oZ w S bw bl bi (M.eZ k ((M.bH k).rd b).2) w':=by
 have u:((M.bH k).rd b).1.length<=2048:=by have:=B.l;show((M.bH k).bO.take _).length<=2048;grind
 have q:Hid (WA prog 106 #[aK C 0,iZ k,iZ b] w fun e d=>∃x y z,e=.returned (.tuple #[x,y,z])/\∃a c,(x=.slice a ((M.bH k).rd b).1.length c/\y=(iZ (((M.bH k).rd b).2.state:Int))/\z=.nilIface)/\Hid (fO 5 1 d (.slice a ((M.bH k).rd b).1.length c) ((M.bH k).rd b).1.length (cO ((M.bH k).rd b).1)/\nH w.heap.size (.slice a ((M.bH k).rd b).1.length c)/\qb4 s oZ w S bw bl bi (M.eZ k ((M.bH k).rd b).2) d (.slice a ((M.bH k).rd b).1.length c))):=by refine qh5 C S w hc k b (fun x y z d=>∃a c,(x=.slice a ((M.bH k).rd b).1.length c/\y=(iZ (((M.bH k).rd b).2.state:Int))/\z=.nilIface)/\Hid (fO 5 1 d (.slice a ((M.bH k).rd b).1.length c) ((M.bH k).rd b).1.length (cO ((M.bH k).rd b).1)/\nH w.heap.size (.slice a ((M.bH k).rd b).1.length c)/\qb4 s oZ w S bw bl bi (M.eZ k ((M.bH k).rd b).2) d (.slice a ((M.bH k).rd b).1.length c))) ?_;refine(qb9 k hk b h hy B.ok (by have:=B.l;unfold dH;omega)).mono ?_;rintro e d ⟨a,c,rfl,Y,Z,Q⟩;exact⟨_,_,_,rfl,a,c,⟨rfl,rfl,rfl⟩,Y,Z,Q⟩
 clear h hc hy B;generalize (M.bH k).rd b=X at *
 obtain⟨L,i2⟩:=X;simp only at q u ⊢;generalize R:M.eZ k i2=K at *
 clear R;obtain⟨n,p⟩:=bU L.length;rw[<-p]at q u;have G:=aG p;clear p;go_enter func58,ntmps58;go_wp2_with (go_at_call 106;refine q.out.mono ?_;rintro e d ⟨x,y,z,rfl,a,c,⟨rfl,rfl,rfl⟩,F⟩);obtain⟨hG,hF,A⟩:=F.out;rcases hG with⟨r,en,_⟩|⟨g,cap,cs,r,hB,hcl,hc1,hc2,hc3,hc4,_⟩
 .have T:=EX.1 (by rw[<-G.out];exact en);subst T;simp only[nR]at r;obtain⟨rfl,rfl,rfl⟩:=r;have f:=qba;have H:Hid (bN 60 #[.nilIface] d (iZ 0) fun W=>je s oZ w S bw bl bi K W):=by
   obtain⟨V,D,E,N,O,_⟩:=A;exact Ia d ⟨V,D,E,N,O⟩
  clear F hF A q G;go_wp2;refine wp_loop_rounds 1 ?_;rw[rounds_succ];go_wp2_with (go_at_call 60;refine bK H.out ?_;rintro W i);go_ret3
  exact⟨rfl,i⟩
 .simp only[nR]at r;obtain⟨rfl,_,rfl⟩:=r;have p:=G.out;have t:=hF g rfl;have f:=run_convert_bytes_back (P:=prog) d 60 9 5 (aA g 0) c L u29 bZ u9 (fun j hj=>by
   rw[gT,gG,hB.cell];have:(cs.take (n*1))[j]?=(cO L)[j]?:=by rw[hc4]
   rw[pG,dN aj]at this;grind [cO])
  rw[<-p]at f;have J:Hid (SR oZ s w S bw bl bi g n K d):=by obtain⟨V,D,E,N,O,g3⟩:=A;exact⟨V,D,E,N,g3 g rfl,⟨cs.toArray,(0,0),hB,dZ,.inr rfl⟩,t,O⟩
  clear F hF A q hB hcl hc1 hc2 hc3 hc4 p t;rw[f];go_simp;go_wp2;go_loopw [26] (fun m wr=>∃j:Nat,j<=n/\m=(iZ j)/\Hid (SR oZ s w S bw bl bi g n K wr)) (fun m _=>n-(eB m).toNat);case atStart=>grind
  case round=>
   obtain⟨j,hj,rfl,I⟩:=hrel;clear J f;by_cases U:j<n
   .have h0:(j:Int)<(n:Int):=aj;obtain⟨⟨v,e1⟩,e2⟩:(∃v,wr.cell? (aA g j)=some v)/\wr.frozen? (aA g j)=false:=by
     obtain⟨o,D,E,Y,Z,Q,h4⟩:=I.out;exact Q.cell j U
    have HS:=aG (I.out.set j (.int .u8 33));go_wp2;go_roundw;case rel=>exact⟨j+1,aj,aR,HS⟩
    grind [eB]
   .obtain rfl:j=n:=aj;have H:=aG (Ia wr I.out.q);go_wp2_with (go_at_call 60;refine bK H.out ?_;rintro W i);go_ret3
    exact⟨rfl,i⟩
end
def qbu(a w):bN 173 #[.pointer (some a)] w (.func (.func 226) #[] #[aK w.heap.size 0]) fun d=>d=w.alloc (.cells #[.pointer (some a)] 273):=by have c:∀(b:Fn) (first cap:Array Wx) (w:Wq),(Instr.makeFunc b first cap).run prog w=.ok (.func b first cap) w:=fun _ _ _ _=>rfl;go_enter func173,ntmps173;go_wp2;go_ret;exact⟨rfl,rfl⟩
def O4(i j rs base c)(b:w.cell? (aA j 227)=some (.slice base rs.length c))(l:fO 170 2 w (.slice base rs.length c) rs.length (St.bX rs))(a:aS w i 273 [aK j 225])(g:rs.length<=1000000):WA prog 245 #[.func (.func 226) #[] #[aK i 0]] w fun e k=>∃d,e=.returned d/\fO 170 2 k d rs.reverse.length (St.bX rs.reverse)/\YtphbledmopchnaaGreatDoor.Own w.heap.size d/\bJ w k:=by have m:=aG (St.Jd i j rs base c w b l a g);clear b l a;go_enter func245,ntmps245;go_wp2_with (go_at_call 308;refine m.out.mono ?_;rintro e k ⟨d,rfl,f⟩;have f:=aG f);go_ret;exact⟨_,rfl,f.out⟩
theorem gq.qoh{S M M' bw bl bi}(h:gq oZ s w S l M bw bl bi b)(K:Kp [s] oZ aX w w')(o n)(v:o+n<=4\/220<=o)(q:gZ w w' S l l' o n)(t:EG l' M' bw bl bi b)(c:M'.outs=M.outs)(d:M'.ins=M.ins)(f:M'.aT=M.aT)(g:M'.aM=M.aM)(i:M'.bV=M.bV)(k:M'.qv=M.qv)(m:(M'.aQ,M'.iv,M'.gy,M'.taken)=(M.aQ,M.iv,M.gy,M.taken)):gq aX s w' S l' M' bw bl bi b:=by
 have u:∀x,x∈[s]->x=s:=fun x y=>by grind
 have r:∀j,M'.out j=M.out j:=fun j=>by unfold av.out;rw[c]
 have p:∀j,M'.bH j=M.bH j:=fun j=>by unfold av.bH;rw[d]
 refine⟨by rw[K.ext S h.cK.lt,h.ow],h.s0,q.cK,t,fun j a=>?_,fun j a=>?_,?_,?_,?_,?_,by rw[c];exact h.lo,by rw[d];exact h.li⟩;.rw[r];exact(h.out j a).kp K (fun e=>by grind) (fun e=>by grind) (fun e=>by grind) q.iB aj
 .rw[p];exact(h.bH j a).kp K (fun e=>by grind) (fun e=>by grind) q.iB aj
 .rw[f];exact h.row.kp K (fun e=>by grind)
 .rw[g];exact h.Ar.kp K (fun e=>by grind) (fun e=>by grind)
 .rw[i];exact h.bV.kp K (fun e=>by grind) (fun e=>by grind)
 .exact(h.qu.kp K (fun e=>by grind) (fun e=>by grind) (fun e=>by grind)).eq (by rw[k,m])
theorem qbw{cs rs}(c:aS w g 170 cs)(h:cs.take (rs.length*2)=St.bX rs)(e:∀r∈rs,r.1<18446744073709551616/\r.2<18446744073709551616):j_ w (some (aA g 0)) rs:=fun j d=>by
 have a:=St.yh rs j d;have b:=St.yj rs j d;rw[<-h,pG,dN aj]at a b;have f:rs.getD j (0,0)∈rs:=by grind
 exact⟨g,0,rfl,by rw[c.cell,gG];exact a,by rw[c.cell,gG];exact b,e _ f⟩
theorem O5{S M bw bl bi o}(h:gq oZ s w S l M bw bl bi o)(q:gZ w w' S l (l.set 228 (.bool false)) 228 1)(v)(p:aS w' (w.heap.size+1) 342 [v])(a)(m:∀r∈a,r.1<18446744073709551616/\r.2<18446744073709551616)(D:fO 170 2 w' v a.length (St.bX a))(y:YtphbledmopchnaaGreatDoor.Own w.heap.size v):U9 oZ s w S bw bl bi {M with bn:=false} a (.returned (qL ⟨0,.func 246,#[(aK (w.heap.size+1) 0)],#[],.func 247,#[(aK (w.heap.size+1) 0)],#[],false⟩)) w':=by
 obtain⟨f,H⟩:=bU (fun b=>if b<w.heap.size then oZ b else if b=w.heap.size+1 then s+48 else s+49:Own);have F:f (w.heap.size+1)=s+48:=by grind
 have G:∀b,w.heap.size<=b->b≠w.heap.size+1->f b=s+49:=fun b i d=>by grind
 have K:Kp [s] oZ f w w':=⟨q.os,q.tape,q.output,q.size,fun b m C=>q.al b m (fun e=>C (by rw[e,h.ow];simp)),fun b m=>by grind⟩;have c:=h.cells;have e:∀j,j≠228->(l.set 228 (.bool false))[j]?=l[j]?:=fun j B=>Ay (fun e=>B e.symm);have z:EG (l.set 228 (.bool false)) {M with bn:=false} bw bl bi o:=⟨by rw[yV];exact c.len,(e _ aj).trans c.c0,(e _ aj).trans c.c1,(e _ aj).trans c.c2,(e _ aj).trans c.c3,(e _ aj).trans c.uq,c.gr.iB q.iB aj,(e _ aj).trans c.vW,(e _ aj).trans c.vX,(e _ aj).trans c.rZ,by rw[Nr (by rw[c.len];omega)],(e _ aj).trans c.qI,(e _ aj).trans c.rA,(e _ aj).trans c.uW,(e _ aj).trans c.qp,(e _ aj).trans c.jP,(e _ aj).trans c.sW,(e _ aj).trans c.r_,(e _ aj).trans c.uw,(e _ aj).trans c.uX,(e _ aj).trans c.rC,(e _ aj).trans c.xB⟩;refine⟨_,w.heap.size+1,rfl,f,K,⟨_,o,h.qoh K 228 1 aj q z rfl rfl rfl rfl rfl rfl rfl,F,v,p,?_⟩,?_,rfl,rfl⟩
 .rcases D with⟨i,d,_⟩|⟨g,cap,cs,i,d,h3,h4,h5,h6,h7,h8⟩;.exact .inl ⟨i,EX.1 d⟩
  .have A:=y g (by rw[i];rfl);have n:g≠w.heap.size+1:=fun e=>by
    have:=p;rw[<-e]at this;have x:=d.symm.trans this;simp at x
   exact .inr ⟨g,0,cap,i,h4,h5,d.lt,G g A n,qbw d h7 m⟩
 .have E:mF f s w' S bw bl bi (w.heap.size+1) ⟨0,.func 246,#[(aK (w.heap.size+1) 0)],#[],.func 247,#[(aK (w.heap.size+1) 0)],#[],false⟩ (fun _ a=>decide (0<a.length)) (fun _ a=>decide (0<a.length)&&Dm a) (fun M a k=>if gV a k a.length=0 then none else some (iT (a.take (gV a k a.length)),M,a.drop (gV a k a.length))):=
   ⟨246,247,rfl,rfl,enters_of func246 bZ rfl,enters_of func247 bZ rfl,WU,XW⟩
  exact E.to 0 (fun M a=>rfl) (fun M a t u=>by rw[iY];exact⟨t,u⟩) (fun M a k _=>rfl)
theorem qhk{S M bw bl bi}(h:gq oZ s w S l M bw bl bi vc)(hn:M.aT.rs.length<=1000000)(Z:∀r∈M.aT.rs,r.1<18446744073709551616/\r.2<18446744073709551616):WA prog 200 #[aK S 0] w fun e w'=>U9 oZ s w S bw bl bi {M with bn:=false} (if M.bn then M.aT.rs.reverse else[]) e w':=by
 have qo:w.cell? (aA S 228)=some (.bool M.bn):=by rw[h.cK.cell];exact h.cells.qo
 have P:=h.cK.lt;have h5:∀(fn:Fn) (first cap:Array Wx) (w:Wq),(Instr.makeFunc fn first cap).run prog w=.ok (.func fn first cap) w:=fun _ _ _ _=>rfl;cases ha:M.bn
 .rw[ha]at qo;have f228:=h.cK.frozen 228;have H:=aG h;clear h;go_enter func200,ntmps200;go_wp2;obtain⟨n,z⟩:=bU (.func (.func 246) #[(aK (w.heap.size+1) 0)] #[]:Wx);obtain⟨o,A⟩:=bU (.func (.func 247) #[(aK (w.heap.size+1) 0)] #[]:Wx);rw[<-z,<-A];have q0:gZ w (w.setCell (aA S 228) (.bool false)) S l (l.set 228 (.bool false)) 228 1:=gZ.one H.out.cK 228 _ 228 1 aj aj;have h2:(w.setCell (aA S 228) (.bool false)).heap.size=w.heap.size:=aR;generalize w.setCell (aA S 228) (.bool false)=C at *
  have E:=(aS.new C 304 [iZ 0,n,o,.bool false]).alloc (.cells #[nZ] 342);have X:=aS.new (C.alloc (.cells #[iZ 0,n,o,.bool false] 304)) 342 [nZ];have O:bJ C ((C.alloc (.cells #[iZ 0,n,o,.bool false] 304)).alloc (.cells #[nZ] 342)):=((bP _ C).alloc (aI _) _).alloc aR _;simp only[yU]at X;rw[h2]at E X;generalize ((C.alloc (.cells #[iZ 0,n,o,.bool false] 304)).alloc (.cells #[nZ] 342))=W at *
  have F:=E.cell 0;have G:=E.cell 1;have I:=E.cell 2;have J:=E.cell 3;simp only[jh,gN]at F G I J;refine VH (v:=.agg #[iZ 0,n,o,.bool false]) (by simp[results,results200,go_sem,F,G,I,J]) rfl ?_;have:=O5 H.out (q0.iQ O) _ X [] (fun r hr=>by cases hr) (fO.nil _ _ _) (fun k x=>by simp[Value.ownBlock]at x);grind
 .rw[ha]at qo;obtain⟨base,c,Q,r1,r2,r3,r4⟩:=h.row;have rZ:w.cell? (aA S 227)=some (.slice base M.aT.rs.length c):=by rw[h.cK.cell,<-Q];exact h.cells.rZ
  have Y:=r3.VU r1 r2;have hS:=h.cK;obtain⟨B,g⟩:=bU (((w.alloc (.cells #[iZ 0,.nilFunc,.nilFunc,.bool false] 304)).alloc (.cells #[nZ] 342)).alloc (.cells #[aK S 225] 273));have d:bJ w B:=by rw[g];exact(((bP _ w).alloc (aI _) _).alloc aR _).alloc dZ _
  have h3:B.heap.size=w.heap.size+3:=by rw[g];simp
  have f:aS B w.heap.size 304 [iZ 0,.nilFunc,.nilFunc,.bool false]:=by rw[g];exact((aS.new w 304 _).alloc _).alloc _
  have D:aS B (w.heap.size+1) 342 [nZ]:=by rw[g];have:=aS.new (w.alloc (.cells #[iZ 0,.nilFunc,.nilFunc,.bool false] 304)) 342 [nZ];simp only[yU]at this;exact this.alloc _
  have x2:aS B (w.heap.size+1+1) 273 [aK S 225]:=by grind [aS.new,World.size_alloc]
  have HC:Hid (WA prog 245 #[.func (.func 226) #[] #[(aK (w.heap.size+1+1) 0)]] B fun e a=>∃j y m,e=.returned (.slice j y m)/\a.cell? (aA S 228)=some (.bool true)/\aS a S TS l/\aS a w.heap.size 304 [iZ 0,.nilFunc,.nilFunc,.bool false]/\aS a (w.heap.size+1) 342 [nZ]/\Hid (bJ w a/\fO 170 2 a (.slice j y m) M.aT.rs.reverse.length (St.bX M.aT.rs.reverse)/\YtphbledmopchnaaGreatDoor.Own (w.heap.size+3) (.slice j y m))):=by refine(O4 (w.heap.size+1+1) S M.aT.rs base c (cell_of rZ (d.block S P)) (Y.of_heap (fun b O=>d.block b (Y.lt b O))) x2 hn).mono ?_;rintro e a ⟨v5,rfl,g1,g2,L⟩;obtain⟨j,m,rfl,_⟩:=g1.shape;exact⟨j,_,m,rfl,cell_of qo ((d.trans (L.mono aj)).block S P),fD (d.trans (L.mono aj)) hS,fD L f,fD L D,d.trans (L.mono aj),g1,by grind⟩
  have H:=aG h;have n0:S≠w.heap.size:=aj;have n1:S≠w.heap.size+1:=aj;clear h hS d h3 f D x2 r1 r2 r3 r4 Y rZ Q;go_enter func200,ntmps200;go_wp2_with (first|(go_at_call 173;refine bK (qbu _ _) ?_;rintro w' rfl)|(go_at_call 245;rw[<-g];refine HC.out.mono ?_;rintro e a ⟨j,y,m,rfl,s5,xS,f,D,HX⟩;have y0:a.cell? (aA w.heap.size 0)=some (iZ 0):=f.cell 0;have y1:a.cell? (aA w.heap.size 1)=some .nilFunc:=f.cell 1;have y2:a.cell? (aA w.heap.size 2)=some .nilFunc:=f.cell 2;have y3:a.cell? (aA w.heap.size 3)=some (.bool false):=f.cell 3;have jv:=f.frozen 0;have vQ:=f.frozen 1;have w_:=f.frozen 2;have JE:=f.frozen 3;have z0:a.cell? (aA (w.heap.size+1) 0)=some nZ:=D.cell 0;have fz:=D.frozen 0;have h6:=xS.frozen 228)|go_in);obtain⟨n,z⟩:=bU (.func (.func 246) #[(aK (w.heap.size+1) 0)] #[]:Wx);obtain⟨o,A⟩:=bU (.func (.func 247) #[(aK (w.heap.size+1) 0)] #[]:Wx);rw[<-z,<-A];obtain⟨i,Nh,N⟩:=HX.out;obtain⟨u1,p⟩:=bU (a.setCell (aA (w.heap.size+1) 0) (.slice j y m));obtain⟨u2,t⟩:=bU (u1.setCell (aA S 228) (.bool false));obtain⟨u6,u⟩:=bU ((((u2.setCell (aA w.heap.size 0) (iZ 0)).setCell (aA w.heap.size 1) n).setCell (aA w.heap.size 2) o).setCell (aA w.heap.size 3) (.bool false));rw[<-p,<-t,<-u];have o1:∀k,k≠w.heap.size+1->u1.heap[k]?=a.heap[k]?:=fun k x=>by grind [fB]
  have o2:∀k,k≠S->u2.heap[k]?=u1.heap[k]?:=fun k x=>by grind [fB]
  have o6:∀k,k≠w.heap.size->u6.heap[k]?=u2.heap[k]?:=fun k x=>by grind [fB]
  have T:u1.heap.size=a.heap.size/\u1.os=a.os/\u1.tape=a.tape/\u1.output=a.output:=by rw[p];exact⟨aR,rfl,rfl,rfl⟩
  have U:u2.heap.size=u1.heap.size/\u2.os=u1.os/\u2.tape=u1.tape/\u2.output=u1.output:=by rw[t];exact⟨aR,rfl,rfl,rfl⟩
  have V:u6.heap.size=u2.heap.size/\u6.os=u2.os/\u6.tape=u2.tape/\u6.output=u2.output:=by rw[u];exact⟨aR,rfl,rfl,rfl⟩
  have R:aS u6 w.heap.size 304 [iZ 0,n,o,.bool false]:=by have K:=(f.of_heap (o1 _ aj)).of_heap (o2 _ aj);rw[u];exact(((K.setCell 0 _).setCell 1 _).setCell 2 _).setCell 3 _
  have BA:aS u6 (w.heap.size+1) 342 [.slice j y m]:=by
   have K:aS u1 (w.heap.size+1) 342 [.slice j y m]:=by rw[p];exact D.setCell 0 _
   exact(K.of_heap (o2 _ aj)).of_heap (o6 _ aj)
  have BS:aS u6 S TS (l.set 228 (.bool false)):=by
   have K:aS u2 S TS (l.set 228 (.bool false)):=by rw[t];exact(xS.of_heap (o1 _ n1)).setCell 228 _
   exact K.of_heap (o6 _ n0)
  have q:gZ w u6 S l (l.set 228 (.bool false)) 228 1:=by have q0:gZ w (w.setCell (aA S 228) (.bool false)) S l (l.set 228 (.bool false)) 228 1:=gZ.one H.out.cK 228 _ 228 1 aj aj;exact⟨by rw[V.2.1,U.2.1,T.2.1,i.os],by rw[V.2.2.1,U.2.2.1,T.2.2.1,i.tape],by rw[V.2.2.2,U.2.2.2,T.2.2.2,i.output],by rw[V.1,U.1,T.1];exact i.size,fun b O h0=>by rw[o6 b aj,o2 b h0,o1 b aj,i.block b O],BS,q0.iB⟩
  have G6:fO 170 2 u6 (.slice j y m) M.aT.rs.reverse.length (St.bX M.aT.rs.reverse):=Nh.of_heap (fun k x=>by have:=N k x;grind);have h4:=O5 H.out q _ BA M.aT.rs.reverse (fun r hr=>Z r (KY.1 hr)) G6 (fun k x=>fT (N k x));have F:=R.cell 0;have G:=R.cell 1;have I:=R.cell 2;have J:=R.cell 3;simp only[jh,gN]at F G I J;clear u t p;refine VH (v:=.agg #[iZ 0,n,o,.bool false]) (by simp[results,results200,go_sem,F,G,I,J]) rfl ?_;grind
section
def qqu:LA 53 9 (.string ⟨#[]⟩) 1 16:=⟨bZ,bZ,fun n=>by simp[fA,mE],fun n v a=>by simp[fA,mE]at a;obtain⟨i,_,rfl⟩:=a;have:i % 1=0:=aj;rw[this];rfl,aj⟩
def sV(b:List UInt8):Wx:=.string ⟨b.toArray⟩
def Tq(s t:Nat):List Nat:=t::List.range' s 60
theorem Iu{x}:x∈Tq s t↔x=t\/(s<=x/\x<s+60):=by grind [Tq,List.mem_range']
structure PlS (fH:Own) (s t:Nat) (w0:Wq) (S bw bl bi:Nat) (M':av) (vl:Wx) (vs:bM) (bs:List (List UInt8)) (j:Nat) (v3:Wx) (oZ:Own) (w:Wq):Prop where
 sd:∃l vc,gq oZ s w S l M' bw bl bi vc
 gd:Gd oZ w
 li:GT oZ (s+52) 60 1 w vl vs.length vs
 ln:vs.length=bs.length
 ps:∀i,j<=i->i<vs.length->nT w (vs.getD i VG) (bs.getD i [])/\∀k,(vs.getD i VG).ownBlock=some k->oZ k=s+47/\k<w.heap.size
 dj:Dj vs
 st:GT oZ t 9 1 w v3 j ((bs.take j).map sV)
 kp:Kp (Tq s t) fH oZ w0 w
section
variable {fH:Own} {s t:Nat} {w0:Wq} {S bw bl bi:Nat} {M':av} {vl:Wx} {vs:bM} {bs:List (List UInt8)} {j:Nat} {v3:Wx} {oZ:Own} {w:Wq}
theorem PlS.app(h:PlS fH s t w0 S bw bl bi M' vl vs bs j v3 oZ w)(R:0<t/\(t<s\/s+60<=t))(A:j<vs.length)(O:vs.length<=1000000):∃m c f,(∀M,(Builtin.append_ #[53,53] M #[v3,dB w.heap.size 1 1]).run prog (w.alloc (.cells #[sV (bs.getD j [])] 9))=.ok m c)/\PlS fH s t w0 S bw bl bi M' vl vs bs (j+1) m f c/\(nT c (vs.getD j VG) (bs.getD j [])/\∀k,(vs.getD j VG).ownBlock=some k->f k=s+47/\k<c.heap.size):=by
 obtain⟨l,N,G⟩:=h.sd;have o:bJ w (w.alloc (.cells #[sV (bs.getD j [])] 9)):=(bP _ w).alloc (aI _) _;have B:aS (w.alloc (.cells #[sV (bs.getD j [])] 9)) w.heap.size 9 [sV (bs.getD j [])]:=aS.new w 9 _;have u:Kp [] oZ oZ w (w.alloc (.cells #[sV (bs.getD j [])] 9)):=Kp.below o;obtain⟨m,c,f,run,Q,C⟩:=gI qqu (n:=j) (h.st.kp u aR) (aA w.heap.size 0) 1 1 [sV (bs.getD j [])] rfl (fun z L=>by rw[sD.1 L];rfl) (fun i y J=>by
  have e:(aA w.heap.size 0).add i=(aA w.heap.size i):=by rw[gT,gG]
  rw[e,B.cell,J]) aj
 have K:=(u.mono aR).trans C;have H:bs.take (j+1)=bs.take j++[bs.getD j []]:=by
  have I:j<bs.length:=by rw[<-h.ln];exact A
  grind [fE,l9]
 have P:∀i,j<=i->i<vs.length->nT c (vs.getD i VG) (bs.getD i [])/\∀k,(vs.getD i VG).ownBlock=some k->f k=s+47/\k<c.heap.size:=fun i v d=>by
  obtain⟨p,q⟩:=h.ps i v d;refine⟨?_,fun k r=>⟨by rw[K.ext k (q k r).2,(q k r).1],gK (q k r).2 K.size⟩⟩;rcases p with p|⟨g,cap,D,e,F,E⟩;.exact .inl p
  .exact .inr ⟨g,cap,D,e,bW F K (by rw[(q g (by rw[e];rfl)).1];simp;omega),E⟩
 refine⟨m,c,f,run,⟨⟨l,N,G.kp K (fun x a b e=>by grind)⟩,h.gd.kp K dZ,h.li.kp K dZ,h.ln,fun i v d=>P i aj d,h.dj,?_,h.kp.trans (K.mono fun x T=>Iu.2 (.inl (by grind)))⟩,P j (aI _) A⟩;grind
theorem PlS.set(h:PlS fH s t w0 S bw bl bi M' vl vs bs (j+1) v3 oZ w)(E:0<t/\(t<s\/s+60<=t))(g:Nat)(z:(vs.getD j VG).ownBlock=some g)(C:oZ g=s+47)(i:Nat)(v:Wx):PlS fH s t w0 S bw bl bi M' vl vs bs (j+1) v3 oZ (w.setCell (aA g i) v):=by
 obtain⟨l,D,y⟩:=h.sd;have K:Kp [s+47] oZ oZ w (w.setCell (aA g i) v):=Kp.set oZ w _ v [s+47] (by rw[C];simp);refine⟨⟨l,D,y.kp K (fun x a b e=>by grind)⟩,h.gd.kp K aR,h.li.kp K aR,h.ln,fun m A c=>?_,h.dj,h.st.kp K dZ,h.kp.trans (K.mono fun x F=>Iu.2 (.inr (by grind)))⟩;obtain⟨p,q⟩:=h.ps m A c;refine⟨?_,fun k f=>⟨(q k f).1,by simpa using(q k f).2⟩⟩;rcases p with p|⟨d,cap,n,e,u,r⟩;.exact .inl p
 .refine .inr ⟨d,cap,n,e,?_,r⟩;have B:d≠g:=fun o=>h.dj j m aj c g z (by rw[e,<-o];rfl);exact u.of_heap (jg _ _ _ _ (by grind))
end


def PkT(oZ:Own)(s:Nat)(w:Wq)(S bw bl bi:Nat)(c:av->List (List UInt8)->Prop)(x:Wx)(b:Wq):Prop:=
 ∃M' bs vs a d e,c M' bs/\gq a s b S d M' bw bl bi e/\Gd a b/\GT a (s+52) 60 1 b x vs.length vs/\PsM a s b vs bs/\Kp (Tb s) oZ a w b
def PlT(oZ:Own)(s t:Nat)(w:Wq)(S bw bl bi:Nat)(c:av->List (List UInt8)->Prop)(x:Wx)(b:Wq):Prop:=
 ∃M' bs a d e,c M' bs/\gq a s b S d M' bw bl bi e/\Gd a b/\GT a t 9 1 b x bs.length (bs.map sV)/\Kp (Tq s t) oZ a w b
def iX{e k}(h:GT oZ t e k w v n l):∃a c,v=.slice a n c:=by rcases h with⟨rfl,rfl,_⟩|⟨g,cap,cs,rfl,_⟩<;>exact⟨_,_,rfl⟩
theorem O6(oZ s t C S bw bl bi w)(hs:0<s)(ht:0<t/\(t<s\/s+60<=t))(O)(H:∀M' bs,O M' bs->bs.length<=1000/\∀j,j<bs.length->bs.getD j []≠[]/\(bs.getD j []).length<=1000000)(hR:WA prog 68 #[aK C 0] w fun e M=>∃x,e=.returned x/\PkT oZ s w S bw bl bi O x M):WA prog 40 #[aK C 0] w fun e w'=>∃x,e=.returned x/\PlT oZ s t w S bw bl bi O x w':=by
 have HC:Hid (WA prog 68 #[aK C 0] w fun e M=>∃a n c,e=.returned (.slice a n c)/\Hid (∃M' bs vs U,n=vs.length/\O M' bs/\PlS oZ s t w S bw bl bi M' (.slice a n c) vs bs 0 nZ U M)):=by refine hR.mono ?_;rintro e M ⟨x,rfl,M',bs,vs,U,l',lJ,h1,h2,h3,h4,V,h6⟩;obtain⟨a,c,rfl⟩:=iX h4;exact⟨a,_,c,rfl,M',bs,vs,U,rfl,h1,⟨l',lJ,h2⟩,h3,h4,V.1,fun i _ Q=>V.2.1 i Q,V.2.2,.inl ⟨rfl,rfl,rfl⟩,h6.mono fun x hx=>Iu.2 (.inr (ko.1 hx).1)⟩
 have HN:=aG H;have HT:=aG ht;have hc:=aG hs;clear hR H ht hs;go_enter func40,ntmps40;go_wp2_with (go_at_call 68;refine HC.out.mono ?_;rintro e M ⟨a,n,c,rfl,H1⟩);clear HC;obtain⟨M',bs,vs,fP,hn,X,W⟩:=H1.out;have HM:=aG X;have r:=aG W;have HL:=aG hn;obtain⟨g1,b⟩:=HN.out M' bs X;have E:=W.ln;have n4:n<=1000:=aj;have HG:=aG b;clear X W hn H1 g1 b E;go_loopw [3,10] (fun s3 o wr=>∃j:Nat,j<=n/\o=(iZ j)/\Hid (∃R,PlS oZ s t w S bw bl bi M' (.slice a n c) vs bs j s3 R wr)) (fun _ o _=>n-(eB o).toNat);case atStart=>exact⟨0,eG _,rfl,fP,r.out⟩
 case round=>
  obtain⟨j,hj,rfl,T⟩:=hrel;clear r;by_cases he:j<n
  .have ha:(j:Int)<(n:Int):=aj;obtain⟨R,d⟩:=T.out;have F:j<vs.length:=fT HL.out;have h7:j<bs.length:=fT d.ln;obtain⟨D,Y⟩:=HG.out j h7;obtain⟨h8,h9⟩:=d.ps j (aI _) F;have m:=d.li;rcases m with⟨e1,e2,_⟩|⟨g,cap,cs,ea,ho,hB,hc1,hc2,hc3,hc4,hc5,_⟩;.omega
   simp only[nR]at ea;obtain⟨rfl,en,rfl⟩:=ea;rcases h8 with⟨_,h0⟩|⟨b,cp,cs2,ev,hB2,k1,k2,k3,k4,k5⟩;.exact absurd h0 D
   have k:wr.cell? (aA g j)=some (dB b (bs.getD j []).length cp):=by rw[hB.cell];grind
   have Z:=run_convert_bytes_back (P:=prog) wr 60 9 5 (aA b 0) cp (bs.getD j []) u29 bZ u9 (fun i Q=>by
    rw[gT,gG,hB2.cell];have:(cs2.take (bs.getD j []).length)[i]?=(cO (bs.getD j []))[i]?:=by rw[k4]
    rw[pG,dN Q]at this;grind [cO])
   obtain⟨v6,w6,jY,run,z,J,K⟩:=d.app HT.out F aj;obtain⟨o6,_⟩:=K b (by rw[ev];rfl);have I:(vs.getD j VG).ownBlock=some b:=by rw[ev];rfl
   have A:Nn w6 b (bs.getD j []).length:=by
    rcases J with⟨e,_⟩|⟨g3,cp3,cs3,ev3,hB3,q1,q2,_⟩;.grind
    .rw[ev]at ev3;simp only[nR,tK,wO]at ev3;obtain⟨⟨rfl,_,_⟩,_,rfl⟩:=ev3;exact⟨cs3.toArray,(0,0),hB3,by grind,.inr rfl⟩
   have u:Hid (PlS oZ s t w S bw bl bi M' (dB g n c) vs bs (j+1) v6 jY w6/\Nn w6 b (bs.getD j []).length):=⟨z,A⟩;have y:=aG (dz I o6);simp only[sV]at run;clear en d z A J K o6 I hB hB2 k1 k2 k3 k4 k5 ev h9 ho hc1 hc2 hc3 hc4 hc5 T D;generalize bs.getD j []=B at *
   obtain⟨q,G⟩:=bU B.length;rw[<-G]at k Z u Y;clear G;go_wp2_with (first|(at_builtin;refine ji _ rfl _ _ _ _ rfl _ _ rfl rfl _ _ (run _) ?_)|go_in);go_loopw [21] (fun p N=>∃i:Nat,i<=q/\p=(iZ i)/\Hid (PlS oZ s t w S bw bl bi M' (dB g n c) vs bs (j+1) v6 jY N/\Nn N b q)) (fun p _=>q-(eB p).toNat);case atStart=>grind
   case round=>
    obtain⟨i,Q,rfl,f⟩:=hrel;clear u;by_cases m:i<q
    .have hf:(i:Int)<(q:Int):=aj;obtain⟨⟨v,e1⟩,e2⟩:=f.out.2.cell i m;have HS:=aG (dz (f.out.1.set HT.out b y.out.1 y.out.2 i (.int .u8 33)) (f.out.2.set i (.int .u8 33)));go_wp2;go_roundw;case rel=>exact⟨i+1,aj,aR,HS⟩
     grind [eB]
    .obtain rfl:i=q:=aj;go_wp2;go_roundw;case rel=>exact⟨j+1,aj,aR,jY,f.out.1⟩
     grind [eB]
  .obtain rfl:j=n:=aj;go_wp2;go_ret;obtain⟨R,d⟩:=T.out;obtain⟨l,vc,hS⟩:=d.sd;have hl:=HL.out;have L:=d.st;have E:=d.ln;rw[wI aj,show j=bs.length by omega]at L;exact⟨_,rfl,M',bs,R,l,vc,HM.out,hS,d.gd,L,d.kp⟩
theorem Tj(t C S){M}(B){bw bl bi Q}(h:gq oZ s w S l M bw bl bi Q)(E:w.cell? (aA C 0)=some (aK S 0))(F:Gd oZ w)(H:0<t/\(t<s\/s+60<=t))(k:fG M)(z:dL M B)(A:dL B M)(a:Bd M)(n:M.next+24<dH)(f:M.aV<18446744073709551616):WA prog 40 #[aK C 0] w fun e i=>∃x,e=.returned x/\PlT oZ s t w S bw bl bi (fun M' bs=>∃g,M.jA M' g/\bs=pkB g) x i:=by
 refine O6 oZ s t C S bw bl bi w h.s0 H _ ?_ ?_;.rintro M' bs ⟨g,G,rfl⟩;have o:=Ip k z A a n G;have:=o.next;have:=o.top;unfold pkB;rw[mH];refine⟨aj,fun j m=>?_⟩;rw[mZ,T_,wH m];have q:=(o.ok _ (TY m)).1.sz;have:=a.mt;grind [bT,gM,vo]
 .refine SI C S w E _ ((Tf h F k.mY M.kD (PP B (M.next+24)) mu (pkp B _ n) ?_ ?_ ?_).mono ?_);.refine bK (qgr h a f aj) ?_;rintro i ⟨b,Y,V,J,Z,u,v⟩;grind
  .intro U W J b R d D;have c:=OE a d;exact qhk D (fT c.cm.ln) (fun r p=>by have:=c.cm.hi r p;have:=c.cm.so.le r p;grind [dH])
  .grind [uJ]
  .rintro e i ⟨b,vl,vs,y,I,K,T,u,rfl,v,L,N,O,P,X⟩;exact⟨vl,rfl,_,_,vs,y,I,K,⟨_,⟨b,u,rfl⟩,rfl⟩,v,L,N,O,P⟩
end
section
structure Ad where
 N:Nat
 xb:Nat
 xc:Nat
 eb:Nat
 ec:Nat
 gb:Nat
 gc:Nat
 nb:Nat
 nc:Nat
 cb:Nat
 cc:Nat
 el:Nat->Nat
 Ji:Nat->Nat
 e:Nat->Nat->Nat
 C:Nat->Nat
 S:Nat->Nat
 bw:Nat->Nat
 bl:Nat->Nat
 bi:Nat->Nat
 aZ:Nat
 iB:Nat
 vM:Nat
def Cst(oZ:Own)(w:Wq)(b j:Nat)(v:Wx):Prop:=w.cell? (aA b j)=some v/\180<=oZ b/\oZ b<200
theorem Cst.kp{b}(h:Cst oZ w b j v)(K:Kp T oZ aX w w')(d:∀x∈T,¬(180<=x/\x<200)):Cst aX w' b j v:=by have c:=iq w (aA b j) (by rw[h.1]);grind [cell_of,Cst,cases Kp]
def qhl(a:Ad)(now:Nat)(vb:Wx):bM:=
 [dB a.xb 2 a.xc,dB a.eb 2 a.ec,dB a.gb 2 a.gc,dB a.nb 2 a.nc,uZ now,iZ a.aZ,iZ a.iB,iZ a.vM,vb,dB a.cb 2 a.cc]
def Ot.kept(o:Ot):Nat:=if o.nt.bG then o.aB.length else 0
def Eu(o:Ot)(i:dP):bM:=[.string ⟨o.all.toArray⟩,.bool o.bL,.bool o.nt.bG,iZ o.kept,iZ i.aY,iZ i.state]
def gmC(g:Gm):bM:=[uZ g.id,uZ g.dl,.string g.data,.bool g.aT]
def GmM(oZ:Own)(w:Wq)(i:Nat)(v:Wx)(L:List Gm):Prop:=
 ∃b:List Nat,GT oZ (205+i) 52 1 w v L.length (b.map fun p=>(aK p 0))/\b.length=L.length/\b.Nodup/\∀j,j<L.length->aS w (b.getD j 0) 51 (gmC (L.getD j BU))/\oZ (b.getD j 0)=207+i
theorem GmM.kp{oZ aX w w' i v L T}(h:GmM oZ w i v L)(K:Kp T oZ aX w w')(e:205+i∉T)(k:207+i∉T):GmM aX w' i v L:=by obtain⟨g,a,b,c,d⟩:=h;refine⟨g,a.kp K e,b,c,fun j f=>?_⟩;obtain⟨p,q⟩:=d j f;exact⟨bW p K (by grind),by rw[K.ext _ p.lt];exact q⟩
def ends(n:Net)(i k:Nat):bM:=Eu ((n.x i).out k) ((n.x (1-i)).bH k)
def lQ(l:List (Nat×Nat×List Fr)):bM:=l.flatMap fun y=>[iZ y.1,sV (bT y.2.1 y.2.2)]
structure dW (oZ:Own) (w:Wq) (a:Ad) (n:Net) (vb:Wx) (E:Nat->Nat->bM):Prop where
 qA:aS w a.N 48 (qhl a n.now vb)/\oZ a.N=200
 xs:∀i,i<2->Cst oZ w a.xb i (aK (a.C i) 0)
 es:∀i,i<2->Cst oZ w a.eb i (dB (a.el i) 8 (a.Ji i))
 el:∀i k,i<2->k<8->Cst oZ w (a.el i) k (aK (a.e i k) 0)
 en:∀i k,i<2->k<8->aS w (a.e i k) 80 (E i k)/\oZ (a.e i k)=210+8*i+k
 gs:(∃r,aS w a.gb 49 (n.gv 0::n.gv 1::r))/\oZ a.gb=201
 gt:∀i,i<2->GmM oZ w i (n.gv i) (n.gr i)
 ns:(∃r,aS w a.nb 43 ((uZ (n.nx 0:Int))::(uZ (n.nx 1:Int))::r))/\oZ a.nb=202
 ct:(∃r,aS w a.cb 43 ((uZ (n.kM 0:Int))::(uZ (n.kM 1:Int))::r))/\oZ a.cb=203
 bg:GT oZ 204 62 2 w vb n.dJ.length (lQ n.dJ)
 sd:∀i,i<2->∃l vc,gq oZ (60*(i+1)) w (a.S i) l (n.x i) (a.bw i) (a.bl i) (a.bi i) vc
 cn:∀i,i<2->w.cell? (aA (a.C i) 0)=some (aK (a.S i) 0)/\oZ (a.C i)=0
 gd:Gd oZ w
 er:iM w
 o0:oZ 0=0
section
variable {oZ aX:Own} {w w':Wq} {a:Ad} {n n':Net} {vb Jj:Wx} {E E':Nat->Nat->bM} {T:List Nat}
theorem dW.turn(h:dW oZ w a n vb E)(K:Kp T oZ aX w w')(s:0∉T)(d:∀x∈T,¬(180<=x/\x<200)/\x≠201/\x≠202/\¬(205<=x/\x<209))(B:aS w' a.N 48 (qhl a n'.now Jj))(en:∀i k,i<2->k<8->aS w' (a.e i k) 80 (E' i k))(u:∃r,aS w' a.cb 43 ((uZ (n'.kM 0:Int))::(uZ (n'.kM 1:Int))::r))(t:GT aX 204 62 2 w' Jj n'.dJ.length (lQ n'.dJ))(C:∀i,i<2->∃l D,gq aX (60*(i+1)) w' (a.S i) l (n'.x i) (a.bw i) (a.bl i) (a.bi i) D)(v:n'.gv=n.gv/\n'.gr=n.gr/\n'.nx=n.nx:=by exact⟨rfl,rfl,rfl⟩):dW aX w' a n' Jj E':=by
 have F:=h.gd.sz;have f:=fun x A=>(d x A).1;obtain⟨j,m,y⟩:=v;refine⟨⟨B,by rw[K.ext _ h.qA.1.lt];exact h.qA.2⟩,fun i b=>(h.xs i b).kp K f,fun i b=>(h.es i b).kp K f,fun i k b c=>(h.el i k b c).kp K f,fun i k b c=>⟨en i k b c,by rw[K.ext _ (h.en i k b c).1.lt];exact(h.en i k b c).2⟩,?_,?_,?_,⟨u,?_⟩,t,C,fun i b=>?_,h.gd.kp K s,?_,by rw[K.ext 0 aj];exact h.o0⟩;.obtain⟨⟨r,g⟩,o⟩:=h.gs;grind [bW,Go.Proofs.YtphbledmopchnaaGreatDoor.Mm.aS,cases Kp]
 .intro i b;rw[j,m];exact(h.gt i b).kp K (fun e=>(d _ e).2.2.2 ⟨aj,aj⟩) (fun e=>(d _ e).2.2.2 ⟨aj,aj⟩)
 .obtain⟨⟨r,g⟩,o⟩:=h.ns;grind [bW,Go.Proofs.YtphbledmopchnaaGreatDoor.Mm.aS,cases Kp]
 .obtain⟨⟨r,g⟩,o⟩:=h.ct;rw[K.ext _ g.lt];exact o
 .obtain⟨p,q⟩:=h.cn i b;have z:=iq w (aA (a.C i) 0) (by rw[p]);grind [cell_of,cases Kp]
 .exact cell_of h.er (K.cK 0 aj (by rw[h.o0];exact s))
def dW.Ag(h:dW oZ w a n vb E)(K:Kp T oZ aX w w')(b:200∉T):aS w' a.N 48 (qhl a n.now vb):=bW h.qA.1 K (by rw[h.qA.2];exact b)
theorem dW.D9(h:dW oZ w a n vb E)(K:Kp T oZ aX w w')(i k)(b:i<2)(c:k<8)(d:210+8*i+k∉T):aS w' (a.e i k) 80 (E i k):=bW (h.en i k b c).1 K (by grind [cases dW])
theorem dW.Iw(h:dW oZ w a n vb E)(K:Kp T oZ aX w w')(b:203∉T):∃r,aS w' a.cb 43 ((uZ (n.kM 0:Int))::(uZ (n.kM 1:Int))::r):=by grind [cases dW,bW]
theorem dW.D_(h:dW oZ w a n vb E)(K:Kp T oZ aX w w')(i)(d:i<2)(f:∀x∈T,x<60*(i+1)\/60*(i+1)+45<=x/\x≠60*(i+1)+53/\x≠60*(i+1)+54/\x≠60*(i+1)+55):∃l b,gq aX (60*(i+1)) w' (a.S i) l (n.x i) (a.bw i) (a.bl i) (a.bi i) b:=by obtain⟨l,b,c⟩:=h.sd i d;exact⟨l,b,c.kp K (fun x p q e=>by grind)⟩
theorem dW.kp(h:dW oZ w a n vb E)(K:Kp T oZ aX w w')(d:∀x∈T,226<=x):dW aX w' a n vb E:=
 h.turn K (fun e=>by grind) (fun x e=>by grind) (h.Ag K (fun e=>by grind)) (fun i k b c=>h.D9 K i k b c (fun e=>by grind)) (h.Iw K (fun e=>by grind)) (h.bg.kp K (fun e=>by grind)) (fun i b=>h.D_ K i b fun x f=>.inr (by grind))
def dW.below(h:dW oZ w a n vb E)(b:bJ w w'):dW oZ w' a n vb E:=h.kp (Kp.below (T:=[]) b) aR
theorem dW.side(h:dW oZ w a n vb E)(K:Kp T oZ aX w w')(i)(m:i<2)(g:∀x∈T,(60*(i+1)<=x/\x<60*(i+1)+60)\/226<=x)(M)(f:∃l d,gq aX (60*(i+1)) w' (a.S i) l M (a.bw i) (a.bl i) (a.bi i) d):dW aX w' a (n.dM i M) vb E:=by
 refine h.turn K (fun e=>by grind) (fun x e=>by grind) (h.Ag K (fun e=>by grind)) (fun j k b c=>h.D9 K j k b c (fun e=>by grind)) (h.Iw K (fun e=>by grind)) (h.bg.kp K (fun e=>by grind)) (fun j b=>?_);by_cases e:j=i;.grind [dD]
 .rw[gu _ _ _ _ e];exact h.D_ K j b fun x o=>by grind
theorem dW.yS(h:dW oZ w a n vb E)(b:∀i k,i<2->k<8->E i k=E' i k):dW oZ w a n vb E':=
 ⟨h.qA,h.xs,h.es,h.el,fun i k c d=>by grind [cases dW],h.gs,h.gt,h.ns,h.ct,h.bg,h.sd,h.cn,h.gd,h.er,h.o0⟩
theorem dW.Tt(h:dW oZ w a n vb E)(i k)(d:i<2)(l:k<8)(j v):dW oZ (w.setCell (aA (a.e i k) j) v) a n vb (fun b c=>if b=i/\c=k then(E i k).set j v else E b c):=by
 have m:=(h.en i k d l).2;have K:Kp [210+8*i+k] oZ oZ w (w.setCell (aA (a.e i k) j) v):=Kp.set oZ w _ v _ (by rw[m];simp);refine h.turn K dZ dZ (h.Ag K dZ) (fun b c f g=>?_) (h.Iw K dZ) (h.bg.kp K dZ) (fun i d=>h.D_ K i d fun x o=>.inr (by grind));by_cases e:b=i/\c=k;.rw[dN e,e.1,e.2];exact(h.en i k d l).1.setCell j v
 .rw[b_ e];exact h.D9 K b c f g dZ
theorem dW.qlu(h:dW oZ w a n vb E)(t:Nat):dW oZ (w.setCell (aA a.N 4) (uZ t)) a {n with now:=t} vb E:=by have K:Kp [200] oZ oZ w (w.setCell (aA a.N 4) (uZ t)):=Kp.set oZ w _ _ _ (by rw[h.qA.2];simp);exact h.turn K aR aR (h.qA.1.setCell 4 _) (fun i k b c=>h.D9 K i k b c dZ) (h.Iw K aR) (h.bg.kp K aR) (fun i b=>h.D_ K i b fun x d=>.inr (by grind))
theorem dW.qbx(h:dW oZ w a n vb E)(l)(c:GT oZ 204 62 2 w Jj l.length (lQ l)):dW oZ (w.setCell (aA a.N 8) Jj) a {n with dJ:=l} Jj E:=by have K:Kp [200] oZ oZ w (w.setCell (aA a.N 8) Jj):=Kp.set oZ w _ _ _ (by rw[h.qA.2];simp);exact h.turn K aR aR (h.qA.1.setCell 8 _) (fun i k b d=>h.D9 K i k b d dZ) (h.Iw K aR) (c.kp K aR) (fun i b=>h.D_ K i b fun x e=>.inr (by grind))
theorem dW.qoj(h:dW oZ w a n vb E)(i)(b:i<2)(c:Nat):dW oZ (w.setCell (aA a.cb i) (uZ c)) a {n with kM:=fun j=>if j=i then c else n.kM j} vb E:=by have K:Kp [203] oZ oZ w (w.setCell (aA a.cb i) (uZ c)):=Kp.set oZ w _ _ _ (by rw[h.ct.2];simp);obtain⟨⟨r,d⟩,o⟩:=h.ct;refine h.turn K aR aR (h.Ag K aR) (fun i k b e=>h.D9 K i k b e dZ) ⟨r,?_⟩ (h.bg.kp K aR) (fun i b=>h.D_ K i b fun x f=>.inr (by grind));have:=d.setCell i (uZ c);grind
end

end
theorem qhm{S}(o g)(x:Nat)(w)(a:aS w S TS l)(h:zR l o g):bN 187 #[aK S o,uZ x] w (.tuple #[]) fun p=>∃b,gZ w p S l b o 4/\zR b o (g.AZ x):=by
 have d:w.cell? (aA S o)=some (.bool g.bG):=by rw[a.cell];exact h.c0
 have q:w.cell? (aA S (o+1))=some (uZ g.aC):=by rw[a.cell];exact h.c1
 have r:w.cell? (aA S (o+2))=some (uZ g.eH):=by rw[a.cell];exact h.c2
 have s:w.cell? (aA S (o+3))=some (uZ g.aT):=by rw[a.cell];exact h.c3
 have f0:=a.frozen o;have f1:=a.frozen (o+1);have f2:=a.frozen (o+2);have f3:=a.frozen (o+3);have m:=a.lt;cases f:g.bG with
 |true=>have c:Hid (∃b,gZ w w S l b o 4/\zR b o (g.AZ x)):=⟨l,gZ.refl a _ _,by unfold Nt.AZ;grind⟩;rw[f]at d;clear h a;go_enter func187,ntmps187;go_wp2;go_end0;exact⟨rfl,c.out⟩
 |false=>
  have c:Hid (∃b,gZ w ((((w.setCell (aA S o) (.bool true)).setCell (aA S (o+1)) (uZ x)).setCell (aA S (o+2)) (uZ 18446744073709551615)).setCell (aA S (o+3)) (uZ 18446744073709551615)) S l b o 4/\zR b o (g.AZ x)):=by
   have i:=gZ.one a o (.bool true) o 4 (aI _) aj;have j:=i.trans (gZ.one i.cK (o+1) (uZ x) o 4 aj aj);have k:=j.trans (gZ.one j.cK (o+2) (uZ 18446744073709551615) o 4 aj aj);have n:=k.trans (gZ.one k.cK (o+3) (uZ 18446744073709551615) o 4 aj aj);refine⟨_,n,?_⟩;have e:g.AZ x=⟨true,x,UT,UT⟩:=by unfold Nt.AZ;grind
   rw[e];exact⟨by rw[ay _ _ _ _ aj,ay _ _ _ _ aj,ay _ _ _ _ aj];exact cZ _ _ _ _ h.c0,by rw[ay _ _ _ _ aj,ay _ _ _ _ aj];exact cZ _ _ _ _ ((ay _ _ _ _ aj).trans h.c1),by rw[ay _ _ _ _ aj];exact cZ _ _ _ _ (by rw[ay _ _ _ _ aj,ay _ _ _ _ aj];exact h.c2),cZ _ _ _ _ (by rw[ay _ _ _ _ aj,ay _ _ _ _ aj,ay _ _ _ _ aj];exact h.c3)⟩
  rw[f]at d;clear h a;go_enter func187,ntmps187;go_wp2;go_end0;exact⟨rfl,c.out⟩
theorem qlv(a)(len:Nat):∃(x:Int) (n:Nat),(∀b t w,(Builtin.max_ b t #[iZ a,iZ 0]).run prog w=.ok (iZ x) w)/\(∀b t w,(Builtin.min_ b t #[iZ x,iZ len]).run prog w=.ok (iZ n) w)/\n=min (max a 0).toNat len:=by obtain⟨x,c,d⟩:=qj9 a 0;obtain⟨y,f,e⟩:=Uu x (len:Int);refine⟨x,min (max a 0).toNat len,c,fun b t w=>?_,rfl⟩;grind
theorem qby(s t){S}(o m p)(r:aS w S TS l)(X:oZ S=s)(h3:s<t)(F:EC oZ t w S l o m)(hn:m.aB.length<=2048):bN 149 #[aK S o,iZ p] w (.tuple #[]) fun i=>mh s t oZ S o l w (m.reset p) i:=by
 obtain⟨a,c,va,vc,G,hc,H,I,J,d0,P,Q,R,d7⟩:=F.open r;obtain⟨x,n,hx,hy,en⟩:=qlv p m.aB.length;obtain⟨z,hz,D⟩:=max2 m.dI n;obtain⟨W,v⟩:=bU (w.setCell (aA S o) (.slice a n n));have k:gZ w W S l (l.set o (.slice a n n)) o 14:=by rw[v];exact gZ.one r o _ o 14 (aI _) aj
 have f0:=r.frozen o;have h2:n<=m.aB.length:=aj;have d:=JU G (.slice a n n) (m.aB.take n);have M:Hid (∀q,bN 187 #[(aK S (o+2)),uZ z] (W.drewN q) (.tuple #[]) fun i=>mh s t oZ S o l w (m.reset p) i):=fun q=>by
  have k:=k.drewN q;refine bK (qhm (o+2) m.nt z (W.drewN q) k.cK d.nt) ?_;rintro i ⟨L,E,V⟩;have A:=k.trans (E.mono (o':=o) (n':=14) aj aj);have K:Kp [s] oZ oZ w i:=A.kp X aR;have U:m.reset p={m with aB:=m.aB.take n,nt:=m.nt.AZ z}:=by rw[D,en];rfl
  rw[U];have f:∀j,j<o+2\/o+6<=j->L[j]?=(l.set o (.slice a n n))[j]?:=fun j hj=>E.iB.2 j aj;refine⟨rfl,oZ,L,K.mono aR,A.cK,A.iB,.slice a n n,va,vc,⟨by rw[f _ aj];exact d.c0,by rw[f _ aj];exact d.c1,V,by rw[f _ aj];exact d.c6,by rw[f _ aj];exact d.c7,by rw[f _ aj];exact d.c8,by rw[f _ aj];exact d.c9,by rw[f _ aj];exact d.wD,by rw[f _ aj];exact d.zT,by rw[f _ aj];exact d.Aq,by rw[f _ aj];exact d.c13⟩,?_,I.kp K dZ,J.kp K dZ⟩;have g:=H.kp K dZ;have Y:(m.aB.take n).length=n:=by grind
  show GT oZ t 5 1 i (.slice a n n) (m.aB.take n).length (cO (m.aB.take n));rw[Y];rcases g with⟨e,B,C⟩|⟨b,cap,O,e1,B,C,e4,e5,e6,e7,e8,T⟩;.have n0:n=0:=aj;injection e with u;subst n0;refine .inl ⟨by rw[u],rfl,rfl⟩
  .injection e1 with u eb ec;rw[u];refine .inr ⟨b,n,O,rfl,B,C,aj,aI _,aj,?_,?_,T⟩;.grind [cO,List.length_map]
   grind [cO,List.map_take]
 have z7:W.cell? (aA S (o+7))=some (uZ m.dI):=by rw[k.cK.cell];exact d.c7
 have z0:W.cell? (aA S o)=some (.slice a n n):=by rw[k.cK.cell];exact d.c0
 have N:Hid (∀q,bN 188 #[aK S o] (W.drewN q) (uZ n) fun i=>i=W.drewN q):=fun q=>qO S o n n a (W.drewN q) aj z0;have h0:(n:Int)<=(c:Int):=aj;have Z:(n:Int)<=2048:=aj;clear r F G H I J d k en D P Q R;generalize m.dI=sn at *
 generalize m.aB.length=bl at *
 go_enter func149,ntmps149;go_wp2_with fail;rw[<-v];clear v;go_region_with (first|(go_at_call 188;refine bK (N.out _) ?_;rintro y rfl)|(go_at_call 187;refine bK (M.out _) ?_;rintro i hq));all_goals(go_wp2;go_end0;exact⟨rfl,hq⟩)
def qbz{S M bw bl bi m}(k)(c:k<8)(b)(h:gq oZ s w S l M bw bl bi m)(j:M.mY=0)(g:(M.out k).aB.length<=2048):WA prog 110 #[aK S 0,iZ k,iZ b] w fun e a=>e=.returned .nilIface/\je s oZ w S bw bl bi (M.dA k ((M.out k).reset b)) a:=by have f:=aG (yA S k c w (h.open j));have d:=aG ((qby s (s+1+5*k) (4+27*k) (M.out k) b h.cK h.ow aj (h.out k c) g).mono fun e a (q:_/\_)=>(⟨q.1,h.dA k c _ q.2⟩:e=.returned (.tuple #[])/\je s oZ w S bw bl bi (M.dA k ((M.out k).reset b)) a));go_enter func110,ntmps110;go_wp2_with (first|(go_at_call 146;refine bK f.out ?_;rintro a rfl)|(go_at_call 149;refine bK d.out ?_;rintro a i)|go_in);go_ret;exact⟨rfl,i⟩
def qc0(C S w)(d:w.cell? (aA C 0)=some (aK S 0))(k c)(R:Wq->Prop)(h:WA prog 110 #[aK S 0,iZ k,iZ c] w fun e a=>e=.returned .nilIface/\R a):WA prog 63 #[aK C 0,iZ k,iZ c] w fun e a=>e=.returned .nilIface/\R a:=by have g:=aG (pz C S w d);have f:=aG h;clear h d;go_enter func63,ntmps63;go_wp2_with (first|(go_at_call 65;refine bK g.out ?_;rintro a l;have b:=l.symm;subst b)|(go_at_call 110;refine bK f.out ?_;rintro a j;have i:=aG j));go_ret;exact⟨rfl,i.out⟩
def qc7(C S){M bw bl bi z}(k)(t:k<8)(a)(h:gq oZ s w S l M bw bl bi z)(n:w.cell? (aA C 0)=some (aK S 0))(o:M.mY=0)(u:(M.out k).aB.length<=2048)(c:iM w)(j:oZ 0∉T0 s):bN 36 #[aK C 0,iZ k,iZ a] w (iZ 0) fun d=>je s oZ w S bw bl bi (M.dA k ((M.out k).reset a)) d:=by
 have p:=aG (qc0 C S w n k a _ (qbz k t a h o u));have e:0<w.heap.size:=iq w (aA 0 0) (by unfold iM at c;rw[c]);have q:Hid (∀b,je s oZ w S bw bl bi (M.dA k ((M.out k).reset a)) b->bN 60 #[.nilIface] b (iZ 0) fun d=>je s oZ w S bw bl bi (M.dA k ((M.out k).reset a)) d):=fun b f=>by obtain⟨x,v,y,r,i⟩:=f;refine bK (rR 0 (.inl rfl) b (cell_of c (i.cK 0 e j))) ?_;rintro d m;exact⟨rfl,x,v,y,r.below m,i.iQ m⟩
 clear h n o c j;go_enter func36,ntmps36;go_wp2_with (first|(go_at_call 63;refine bK p.out ?_;rintro b f)|(go_at_call 60;refine bK (q.out _ f) ?_;rintro A g));go_ret;exact⟨rfl,g⟩
section
section
variable {oZ:Own} {w:Wq} {a:Ad} {n:Net} {vb:Wx} {E:Nat->Nat->bM}
def dW.cells(h:dW oZ w a n vb E):w.cell? (aA a.N 0)=some (dB a.xb 2 a.xc)/\w.cell? (aA a.N 1)=some (dB a.eb 2 a.ec)/\w.cell? (aA a.N 2)=some (dB a.gb 2 a.gc)/\w.cell? (aA a.N 4)=some (uZ n.now)/\w.cell? (aA a.N 5)=some (iZ a.aZ)/\w.cell? (aA a.N 8)=some vb/\w.cell? (aA a.N 9)=some (dB a.cb 2 a.cc):=
 ⟨by rw[h.qA.1.cell];rfl,by rw[h.qA.1.cell];rfl,by rw[h.qA.1.cell];rfl,by rw[h.qA.1.cell];rfl,by rw[h.qA.1.cell];rfl,by rw[h.qA.1.cell];rfl,by rw[h.qA.1.cell];rfl⟩
def mV(now:Nat)(m:Nat×ByteArray):List Gm->Bool->List Gm×Bool
 |[],b=>([],b)
 |g::t,b=>
  if g.id=m.1 then({g with aT:=true}::(mV now m t (decide (g.data=m.2)&& !g.aT&&decide (now<=g.dl))).1,(mV now m t (decide (g.data=m.2)&& !g.aT&&decide (now<=g.dl))).2)
  else(g::(mV now m t b).1,(mV now m t b).2)
def jo(now:Nat):List (Nat×ByteArray)->List Gm->List Gm×Bool
 |[],L=>(L,true)
 |m::t,L=>if(mV now m L false).2 then jo now t (mV now m L false).1 else((mV now m L false).1,false)
def Net.uG(n:Net)(i:Nat)(L:List Gm):Net:={n with gr:=fun j=>if j=i then L else n.gr j}
def qca:LA 46 62 (.agg #[iZ 0,.string ⟨#[]⟩]) 2 24:=⟨bZ,bZ,fun n=>by simp[fA,mE],fun n v b=>by simp[fA,mE]at b;obtain⟨i,_,rfl⟩:=b;rcases(show i % 2=0\/i % 2=1 by omega)with h|h<;>rw[h]<;>rfl,aj⟩
theorem O8:∀(l),(lQ l).length=l.length*2
 |[]=>rfl
 |y::t=>by have:=O8 t;grind [lQ,mK]
theorem Kw:∀(l) (k),lQ (l.take k)=(lQ l).take (k*2)
 |[],k=>by simp[lQ]
 |_::_,0=>by simp[lQ]
 |y::t,k+1=>by have:=Kw t k;grind [lQ]
theorem yH:∀(l) (k),lQ (l.drop k)=(lQ l).drop (k*2)
 |[],k=>by simp[lQ]
 |_::_,0=>by simp[lQ]
 |y::t,k+1=>by have:=yH t k;grind [lQ]
theorem O9(l m):lQ (l++m)=lQ l++lQ m:=by grind [lQ]
def O_:∀(l),∀v∈lQ l,v.oneCell'=true
 |[],v,hv=>by cases hv
 |y::t,v,hv=>by
  unfold lQ at hv;rw[YC]at hv;rcases iJ.1 hv with hv|hv;.simp[sV]at hv;rcases hv with rfl|rfl<;>rfl
  .exact O_ t v hv
def BZ(oZ:Own)(t u:Nat):Own:=fun b=>if oZ b=t then u else oZ b
theorem GT.BZ{oZ t u e k w v n l}(h:GT oZ t e k w v n l):GT (Sd.BZ oZ t u) u e k w v n l:=by
 rcases h with h|⟨g,cap,b,c,f,d⟩;.exact .inl h
 .exact .inr ⟨g,cap,b,c,by unfold Sd.BZ;grind,d⟩
theorem Kp.BZ{oZ aX w w' t u}(K:Kp [t] oZ aX w w')(d:∀b,b<w.heap.size->oZ b≠t):Kp [] oZ (Sd.BZ aX t u) w w':=
 ⟨K.os,K.tape,K.output,K.size,fun b c _=>K.cK b c (by grind),fun b c=>by unfold Sd.BZ;rw[K.ext b c,b_ (d b c)]⟩
theorem qhq(h:dW oZ w a n vb E)(k)(hk:k<n.dJ.length)(hl:n.dJ.length<=1000000000):bN 67 #[aK a.N 0,iZ k] w (.tuple #[]) fun U=>∃D r,dW r U a {n with dJ:=n.dJ.eraseIdx k} D E/\Kp [200] oZ r w U:=by
 obtain⟨P,I,t⟩:=yD oZ 300 w.heap.size;obtain⟨_,_,_,_,_,c8,_⟩:=h.cells;have f8:=h.qA.1.frozen 8;obtain⟨L,S⟩:=bU (lQ n.dJ);have p:=h.bg;have x:=O8 n.dJ;have c:=O_ n.dJ;rw[<-S]at p x c;have M:=p;rcases p with⟨_,e2,_⟩|⟨g,cap,cs,rfl,ho,hB,hc1,hc2,hc3,hc4,hc5,hc6⟩;.omega
 have e:∀j u,L[j]?=some u->w.cell? (aA g j)=some u:=fun j u q=>by have T:=(T9.1 q).1;rw[hB.cell,<-q,<-hc5,pG,dN aj]
 obtain⟨v1,w1,fP,O,f,z⟩:=gI qca (oZ:=oZ) (g:=P) (w:=w) (v:=nZ) (n:=0) (l:=[]) (.inl ⟨rfl,rfl,rfl⟩) (aA g 0) k cap (L.take (k*2)) (by grind) (fun v J=>c v (tF J)) (fun j u q=>by rw[gT,gG];grind) aj;rw[gG,pJ]at f;have H:oZ g∉[P]:=by grind
 have s:=h.kp z dZ;obtain⟨_,_,_,_,_,d8,_⟩:=s.cells;obtain⟨y,hA2,hA3⟩:∃y:XK,(if cap=k+1 then some (aA g 0)else some (aA g ((k+1)*2)))=some y/\(cap≠k+1->y=(aA g ((k+1)*2))):=by grind
 obtain⟨v2,Q,Z,C,o,R⟩:=gI qca f y (n.dJ.length-(k+1)) (cap-(k+1)) (L.drop ((k+1)*2)) (by grind) (fun v J=>c v (yZ J)) (fun j u q=>by have T:=(T9.1 q).1;rw[Jo]at T;rw[hA3 aj,gT];rw[Jm]at q;exact cell_of (e _ u q) (z.cK g hB.lt H)) aj;rw[<-hA2]at C;have N:=iX f;obtain⟨a1,c1,rfl⟩:=N;obtain⟨A,B,rfl⟩:=iX o;have K:=z.trans R;have F:=K.BZ (u:=204) (fun b W=>Nat.ne_of_lt (t b W));have d:=h.kp F aR;have G:=o.BZ (u:=204);have i:dW (BZ Z P 204) (Q.setCell (aA a.N 8) (.slice A (k+(n.dJ.length-(k+1))) B)) a {n with dJ:=n.dJ.eraseIdx k} (.slice A (k+(n.dJ.length-(k+1))) B) E:=by refine d.qbx (n.dJ.eraseIdx k) ?_;grind [lQ,List.eraseIdx_eq_take_drop_succ,O9,Kw,yH]
 have V:Hid (∃D r,dW r (Q.setCell (aA a.N 8) (.slice A (k+(n.dJ.length-(k+1))) B)) a {n with dJ:=n.dJ.eraseIdx k} D E/\Kp [200] oZ r w (Q.setCell (aA a.N 8) (.slice A (k+(n.dJ.length-(k+1))) B))):=
  ⟨_,_,i,(F.mono aR).trans (Kp.set _ _ _ _ _ (by rw[d.qA.2];simp))⟩
 have f82:=d.qA.1.frozen 8;obtain⟨_,_,_,_,_,e8,_⟩:=d.cells;clear hA2 hA3 i d G F K o R s f z e hB hc1 hc4 hc5 hc6 M c x S h t I;generalize n.dJ.length=m at *
 generalize n.dJ.eraseIdx k=B2 at *
 have X:(k:Int)<=(cap:Int):=aj;have Y:(k:Int)+1<=(m:Int):=aj;go_enter func67,ntmps67;go_wp2_with (first|(at_builtin;refine ji _ rfl _ _ _ _ rfl _ _ rfl rfl _ _ (O _) ?_;clear O;(try have O:=C);(try clear C))|go_in);all_goals(go_end0;exact⟨rfl,V.out⟩)
end

end
section
def Vg(now:Nat)(m:Nat×ByteArray)(L c:List Gm)(j:Nat)(b:Bool):Prop:=
 c.length=L.length/\mV now m L false=(c.take j++(mV now m (c.drop j) b).1,(mV now m (c.drop j) b).2)
def Vg.start(now m L):Vg now m L L 0 false:=⟨rfl,rfl⟩
def Vg.done{now L c b}(h:Vg now m L c c.length b):mV now m L false=(c,b):=by rw[h.2,KZ,AJ];simp[mV]
theorem Pf(l:List Gm)(j)(b:j<l.length):l.drop j=l.getD j BU::l.drop (j+1):=by simp_all
theorem Vg.skip{now L c b}(h:Vg now m L c j b)(d:j<c.length)(e:(c.getD j BU).id≠m.1):Vg now m L c (j+1) b:=by grind [Vg,mV,BU,Pf,fE]
theorem Vg.hit{now L c b}(h:Vg now m L c j b)(e:j<c.length)(f:(c.getD j BU).id=m.1):Vg now m L (c.set j {c.getD j BU with aT:=true}) (j+1) (decide ((c.getD j BU).data=m.2)&& !(c.getD j BU).aT&&decide (now<=(c.getD j BU).dl)):=by refine⟨by rw[yV];exact h.1,h.2.trans ?_⟩;obtain⟨g,d⟩:=bU (c.getD j BU);grind [mV,Pf,fE,List.getElem?_set_self,List.take_set_of_le,List.drop_set_of_lt]
theorem dW.grm{a n vb E}(h:dW oZ w a n vb E)(K:Kp T oZ aX w w')(m:∀x∈T,x=201\/x=202\/205<=x/\x<209)(gv gr nx)(j:∃r,aS w' a.gb 49 (gv 0::gv 1::r))(l:∀i,i<2->GmM aX w' i (gv i) (gr i))(v:∃r,aS w' a.nb 43 ((uZ (nx 0:Int))::(uZ (nx 1:Int))::r)):dW aX w' a {n with gv:=gv,gr:=gr,nx:=nx} vb E:=by
 have z:=h.gd.sz;have f:∀y,¬(y=201\/y=202\/205<=y/\y<209)->y∉T:=fun y u e=>u (m y e);have g:∀x∈T,¬(180<=x/\x<200):=fun x t=>by grind
 refine⟨⟨h.Ag K (f _ aj),by rw[K.ext _ h.qA.1.lt];exact h.qA.2⟩,fun i b=>(h.xs i b).kp K g,fun i b=>(h.es i b).kp K g,fun i k b d=>(h.el i k b d).kp K g,fun i k b d=>⟨h.D9 K i k b d (f _ aj),by rw[K.ext _ (h.en i k b d).1.lt];exact(h.en i k b d).2⟩,⟨j,?_⟩,l,⟨v,?_⟩,⟨h.Iw K (f _ aj),?_⟩,h.bg.kp K (f _ aj),fun i b=>h.D_ K i b fun x t=>.inr (by grind),fun i b=>?_,h.gd.kp K (f _ aj),?_,by rw[K.ext 0 aj];exact h.o0⟩;.obtain⟨⟨r,c⟩,o⟩:=h.gs;rw[K.ext _ c.lt];exact o
 .obtain⟨⟨r,c⟩,o⟩:=h.ns;rw[K.ext _ c.lt];exact o
 .obtain⟨⟨r,c⟩,o⟩:=h.ct;rw[K.ext _ c.lt];exact o
 .obtain⟨p,q⟩:=h.cn i b;have s:=iq w (aA (a.C i) 0) (by rw[p]);grind [cell_of,cases Kp]
 .exact cell_of h.er (K.cK 0 aj (by rw[h.o0];grind))
def Np(fH:Own)(w0:Wq)(a:Ad)(n:Net)(vb:Wx)(E:Nat->Nat->bM)(i:Nat)(x:Wx)(ms:List (Nat×ByteArray))(L:List Gm)(w:Wq):Prop:=
 ∃b,dW b w a (n.uG (1-i) L) vb E/\GT b (60*(i+1)+54) 118 2 w x ms.length (Wn ms)/\Kp [60*(i+1),207,208] fH b w0 w
section
variable {fH:Own} {w0 w:Wq} {a:Ad} {n:Net} {vb:Wx} {E:Nat->Nat->bM} {i:Nat} {x:Wx} {ms:List (Nat×ByteArray)} {L:List Gm}
def qch:∀(l) (k) (m),l[k]?=some m->(Wn l)[k*2]?=some (uZ m.1)/\(Wn l)[k*2+1]?=some (.string m.2)
 |[],k,m,h=>by simp at h
 |y::t,0,m,h=>by simp at h;subst h;exact⟨rfl,rfl⟩
 |y::t,k+1,m,h=>by have:=qch t k m (by simpa using h);rw[show(k+1)*2=k*2+1+1 by omega,show k*2+1+1+1=(k*2+1)+1+1 by omega];exact this
theorem Np.msg(h:Np fH w0 a n vb E i x ms L w)(k m)(b:ms[k]?=some m):∃g c,x=(dB g ms.length c)/\w.cell? (aA g (k*2))=some (uZ m.1)/\w.cell? (aA g (k*2+1))=some (.string m.2):=by
 obtain⟨j,_,d,_⟩:=h;have f:=(T9.1 b).1;obtain⟨l,o⟩:=qch ms k m b;rcases d with⟨_,e,_⟩|⟨g,cap,cs,rfl,ho,hB,hc1,hc2,hc3,hc4,hc5,_⟩;.omega
 .refine⟨g,cap,rfl,?_,?_⟩;.rw[hB.cell];grind
  .rw[hB.cell];grind
def Np.below{w'}(h:Np fH w0 a n vb E i x ms L w)(b:bJ w w'):Np fH w0 a n vb E i x ms L w':=by obtain⟨f,c,d,e⟩:=h;exact⟨f,c.below b,d.kp (Kp.below (T:=[]) b) aR,e.iQ b⟩
def Np.grs(h:Np fH w0 a n vb E i x ms L w)(m:i<2):w.cell? (aA a.N 2)=some (dB a.gb 2 a.gc)/\w.cell? (aA a.N 4)=some (uZ n.now)/\w.cell? (aA a.gb (1-i))=some (n.gv (1-i))/\∃b c,n.gv (1-i)=.slice b L.length c:=by
 obtain⟨o,d,_,_⟩:=h;obtain⟨_,_,f,j,_⟩:=d.cells;obtain⟨⟨r,k⟩,_⟩:=d.gs;refine⟨f,j,?_,?_⟩;.rw[k.cell];rcases(show i=0\/i=1 by omega)with rfl|rfl<;>rfl
 .obtain⟨p,g,_⟩:=d.gt (1-i) aj;have e:(n.uG (1-i) L).gr (1-i)=L:=dN rfl;rw[e]at g;obtain⟨b,c,l,_⟩:=g.shape;exact⟨b,c,l⟩
theorem Np.at(h:Np fH w0 a n vb E i x ms L w)(Z:i<2)(j)(V:j<L.length):∃o R p,n.gv (1-i)=(dB o L.length R)/\w.cell? (aA o j)=some (aK p 0)/\w.cell? (aA p 0)=some (uZ ((L.getD j BU).id:Int))/\w.cell? (aA p 1)=some (uZ ((L.getD j BU).dl:Int))/\w.cell? (aA p 2)=some (.string (L.getD j BU).data)/\w.cell? (aA p 3)=some (.bool (L.getD j BU).aT)/\w.frozen? (aA p 3)=false/\∀c,bJ w c->Np fH w0 a n vb E i x ms (L.set j {L.getD j BU with aT:=true}) (c.setCell (aA p 3) (.bool true)):=by
 obtain⟨d,l,T,U⟩:=h;obtain⟨f,g,P,Q,u⟩:=l.gt (1-i) aj;have e:(n.uG (1-i) L).gr (1-i)=L:=dN rfl;rw[e]at g P u;obtain⟨b,D⟩:=u j V;have hp:(f.map fun p=>Value.pointer (some (aA p 0)))[j]?=some (aK (f.getD j 0) 0):=by grind
 have S:=g;rcases g with⟨_,Y,_⟩|⟨o,cap,cs,hv,hog,hBg,hc1,hc2,hc3,hc4,hc5,hc6⟩;.omega
 refine⟨o,cap,f.getD j 0,hv,?_,b.cell 0,b.cell 1,b.cell 2,b.cell 3,b.frozen 3,fun c A=>?_⟩;.rw[hBg.cell];grind
 obtain⟨p,m⟩:=bU (f.getD j 0);rw[<-m]at b D ⊢;have v:=b.of_heap (A.block p b.lt);have I:Kp [207+(1-i)] d d c (c.setCell (aA p 3) (.bool true)):=Kp.set d c (aA p 3) (.bool true) _ (by rw[D];simp);have H:Kp [207+(1-i)] d d w c:=Kp.below A;have K:=H.trans I;refine⟨d,?_,T.kp K dZ,U.trans (K.mono dZ)⟩;obtain⟨⟨r,y⟩,oG⟩:=l.gs;obtain⟨⟨X,z⟩,oN⟩:=l.ns;have W:=l.grm K dZ n.gv (n.uG (1-i) (L.set j {L.getD j BU with aT:=true})).gr n.nx ⟨r,bW y K (by grind)⟩ (fun q B=>?_) ⟨X,bW z K (by grind)⟩;.exact W
 by_cases N:q=1-i
 .subst N;have s:(n.uG (1-i) (L.set j {L.getD j BU with aT:=true})).gr (1-i)=L.set j {L.getD j BU with aT:=true}:=dN rfl;rw[s];refine⟨f,by rw[yV];exact S.kp K aR,by grind,Q,fun k G=>?_⟩;rw[yV]at G;by_cases O:k=j
  .subst O;have t:(L.set k {L.getD k BU with aT:=true}).getD k BU={L.getD k BU with aT:=true}:=by grind
   rw[t,<-m];exact⟨v.setCell 3 (.bool true),D⟩
  .have t:(L.set j {L.getD j BU with aT:=true}).getD k BU=L.getD k BU:=by
    grind
   rw[t];obtain⟨F,J⟩:=u k G;have C:f.getD k 0≠p:=by grind [l9,List.getElem_inj]
   have M:=F.of_heap (A.block _ F.lt);exact⟨M.of_heap (jg _ _ _ _ C),J⟩
 .have s:(n.uG (1-i) (L.set j {L.getD j BU with aT:=true})).gr q=(n.uG (1-i) L).gr q:=by
   unfold Net.uG;grind
  rw[s];exact(l.gt q B).kp K dZ dZ
end

end
def Ee(id a:Nat)(d:ByteArray):Fr:={jv with aD:=7,id:=id,aJ:=a,data:=d}
def Pz:∀L K,mP (L++K)=mP L++mP K
 |[],_=>rfl
 |x::t,K=>by show f_ x _++mP (t++K)=(f_ x _++mP t)++mP K;rw[Pz t K,lC]
theorem Yj{S M bw bl bi X}(id r:Nat){m}(a c F w)(h:gq oZ s w S l M bw bl bi X)(h1:id<4611686018427387903)(h2:r<=4611686018427387903)(h3:M.least<=id)(U:dX w (some a) m)(ha:a.block≠S)(h4:(m.length:Int)<=F)(_hm:F<=1000)(h5:M.aQ.length<16):WA prog 189 #[aK S 233,uZ id,uZ r,.slice (some a) m.length c,iZ F] w fun e w'=>e=.returned .nilIface/\Hid (∃v,je s oZ w S bw bl bi {M with aQ:=M.aQ++[Ee id r ⟨m.toArray⟩],qv:=v,least:=id+1} w'):=by
 have D:=h.cK.lt;have h0:=h.cells.len;obtain⟨J,K,p,_,_⟩:=h.qu.q.shape;have jP:w.cell? (aA S 233)=some (.slice J M.aQ.length K):=by rw[h.cK.cell,h.cells.jP,p]
 have sW:w.cell? (aA S 234)=some (uZ M.least):=by rw[h.cK.cell];exact h.cells.sW
 have f234:=h.cK.frozen 234;obtain⟨d,f⟩:=bU (w.setCell (aA S 234) (uZ ((id:Int)+1)));have t:aS d S TS (l.set 234 (uZ ((id:Int)+1))):=by rw[f];exact h.cK.setCell 234 _
 have G:Kp [s] oZ oZ w d:=by rw[f];exact Kp.set oZ w _ _ _ (by show oZ S∈_;rw[h.ow];simp)
 have h6:=h.s0;have q:d.heap.size=w.heap.size:=by rw[f];simp
 have h9:d.cell? (aA S 233)=some (.slice J M.aQ.length K):=by rw[t.cell,Ay aj,h.cells.jP,p]
 obtain⟨V,C⟩:=bU (f_ (Ee id r ⟨m.toArray⟩) nZ);obtain⟨Q,o⟩:=bU (((d.alloc (.cells V.toArray 65)).drew));have k:bJ d Q:=by rw[o];have g:=(bP d.heap.size d).alloc (aI _) (.cells V.toArray 65);exact⟨g.os,g.tape,g.output,g.size,g.block⟩
 have B:aS Q d.heap.size 65 V:=by rw[o];exact aS.new d 65 V
 have Z:=run_convert_bytes_back (P:=prog) d.drew 60 9 5 a c m u29 bZ u9 (fun i hi=>by obtain⟨b,h7,e,hc⟩:=U i hi;cases e;rw[gT];show d.cell? _=_;grind [World.cell?_setCell_far]);obtain⟨y,z,u,run,H,E⟩:=gI sU ((h.qu.q.kp G aR).kp (Kp.below (T:=[]) k) aR) (aA d.heap.size 0) 1 1 V (by rw[C];rfl) (by rw[C];exact LQ _ _ rfl) (fun j x W=>by
  have e:(aA d.heap.size 0).add j=(aA d.heap.size j):=by rw[gT,gG]
  rw[e,B.cell,W]) aj
 obtain⟨a2,c2,A,_,_⟩:=H.shape;have I:oZ S∉[s+53]:=by rw[h.ow];simp
 have n:=bW (fD k t) E I;have R:z.cell? (aA S 233)=some (.slice J M.aQ.length K):=by rw[n.cell,Ay aj,h.cells.jP,p]
 have h8:=n.frozen 233;rw[p]at run;have vZ:S<d.heap.size:=aj;have Y:S≠d.heap.size:=aj;have L:Hid (∃v,je s oZ w S bw bl bi {M with aQ:=M.aQ++[Ee id r ⟨m.toArray⟩],qv:=v,least:=id+1} (z.setCell (aA S 233) y)):=by
  have N:Kp [s] u u z (z.setCell (aA S 233) y):=Kp.set u z _ _ _ (by show u S∈_;rw[E.ext S (by rw[<-q]at D;exact gK D k.size),h.ow];simp);have O:Kp [s,s+53] oZ u w (z.setCell (aA S 233) y):=(G.mono aR).trans ((Kp.below k).trans ((E.mono aR).trans (N.mono aR)));refine⟨y,u,_,X,h.que O (l':=(l.set 234 (uZ ((id:Int)+1))).set 233 y) ⟨aR,fun j hj=>by grind⟩ y (M.aQ++[Ee id r ⟨m.toArray⟩]) (id+1) (n.setCell 233 _) (Nr (by grind)) ?_ ?_,O.mono fun x W=>fM.2 (by grind)⟩;.grind
  .have:=H.kp N aR;rw[lM,Pz];rw[C]at this;exact this
 rw[A]at run L;rw[o,C]at run;clear H E n G t B k o C A h U q;unfold Ee jv at run;simp only at run;have q1:¬(4611686018427387903<(id:Int)):=aj;have q2:¬(4611686018427387903<(r:Int)):=aj;have q3:¬((id:Int)<(M.least:Int)):=aj;have q4:¬(F<(m.length:Int)):=aj;have q5:¬(16<=(M.aQ.length:Int)):=aj;go_enter func189,ntmps189;go_wp2;rw[<-f];clear f;go_region_law (refine iL _ (by rfl) _ _ _ _ (by rfl) _ _ (by rfl) (by rfl) _ _ (run _) ?_)
 all_goals go_wp2_with fail
 all_goals go_ret
 all_goals exact⟨rfl,L⟩
def av.dg(M:av)(f:Fr)(v:Wx):av:={M with aQ:=M.aQ++[f],qv:=v,least:=f.id+1}
def qm9{S M bw bl bi T}(id g a c r)(h:gq oZ s w S l M bw bl bi T)(D:id<4611686018427387903)(E:g<=4611686018427387903)(F:M.least<=id)(I:dX w (some a) d)(H:a.block≠S)(A:(d.length:Int)<=r/\r<=1000)(G:M.aQ.length<16)(N:∀f∈M.aQ,M.aV<=f.aJ)(J:M.aV<=g)(q):WA prog 189 #[aK S 233,uZ id,uZ g,.slice (some a) d.length c,iZ r] (w.drewN q) fun e i=>e=.returned .nilIface/\i.cell? (aA S 0)=some (iZ M.aZ)/\Hid (i.cell? (aA S 3)=some (uZ M.aV)/\∀t,bN 113 #[aK S 233,uZ M.aV] (i.drewN t) (.tuple #[]) fun y=>y.cell? (aA S 3)=some (uZ M.aV)/\Hid (∃v,je s oZ w S bw bl bi (M.dg (Ee id g ⟨d.toArray⟩) v) y)):=by
 have k:bJ w (w.drewN q):=mQ (bP _ w);have u:dX (w.drewN q) (some a) d:=fun j K=>by obtain⟨b,x,e,z⟩:=I j K;exact⟨b,x,e,cell_of z (k.block b (iq w (aA b _) (by rw[z])))⟩
 refine bK (Yj id g a c r (w.drewN q) (h.below k) D E F u H A.1 A.2 G) ?_;rintro i ⟨v,V,U,W,m,B⟩;refine⟨rfl,by rw[m.cK.cell];exact m.cells.c0,by rw[m.cK.cell];exact m.cells.c3,fun t=>?_⟩;have o:bJ i (i.drewN t):=mQ (bP _ i);have L:((M.dg (Ee id g ⟨d.toArray⟩) v).aQ.filter fun f=> !decide (f.aJ<M.aV))=(M.dg (Ee id g ⟨d.toArray⟩) v).aQ:=by
  rw[Jq];intro f n;have:M.aV<=f.aJ:=by
   rcases iJ.1 n with n|n;.exact N f n
   .rw[sD.1 n];exact J
  simp;omega
 refine bK (C_ (M.dg (Ee id g ⟨d.toArray⟩) v) M.aV (i.drewN t) (m.below o) (by show(M.aQ++[_]).length<=16;simp;omega)) ?_;rintro y ⟨R,P,O,Q,p,C⟩;rw[L]at p;exact⟨rfl,by rw[p.cK.cell];exact p.cells.c3,R,P,O,Q,p,(Kp.below k).trans (B.trans ((Kp.below o).trans C))⟩
def Vp(t)(S f g n c:Nat)(a id s w)(R:Wq->Prop)(r:w.cell? (aA S 238)=some (iZ ((0:Nat):Int)))(C:w.cell? (aA S 0)=some (iZ f))(p)(x:IntKind.i64.wrap ((f:Int)-40)=p)(u:∀q,bN 189 #[aK S 233,uZ id,uZ s,.slice (some a) n c,iZ p] (w.drewN q) t fun b=>b.cell? (aA S 0)=some (iZ f)/\Hid (b.cell? (aA S 3)=some (uZ g)/\∀B,bN 113 #[aK S 233,uZ g] (b.drewN B) (.tuple #[]) fun k=>k.cell? (aA S 3)=some (uZ g)/\R k)):bN 150 #[aK S 0,uZ id,uZ s,.slice (some a) n c] w t fun b=>R b:=by
 have o:=aG (yw S 0 w r);have l:=aG u;clear u r;go_enter func150,ntmps150;go_wp2_with (go_at_call 137;refine bK o.out ?_;rintro b x;have j:=x.symm;subst j);clear o;go_region_held3 (fun y=>y.cell? (aA S 0)=some (iZ f)) (first|assumption|go_keep) ((first|(go_at_call 189;refine bK (l.out _) ?_;rintro E ⟨i,m⟩)))
 obtain⟨D,e⟩:=m.out;have d:=aG e;clear m e l i;go_wp2;go_region_held3 (fun y=>y.cell? (aA S 3)=some (uZ g)) (first|assumption|go_keep) ((first|(go_at_call 113;refine bK (d.out _) ?_;rintro k ⟨A,v⟩)))
 have z:=aG v;clear v d;go_wp2;go_ret;exact⟨rfl,z.out⟩
def PD{S M bw bl bi t}(id b a c)(h:gq oZ s w S l M bw bl bi t)(r:M.mY=0)(g:id<4611686018427387903)(i:b<=4611686018427387903)(j:M.least<=id)(n:dX w (some a) d)(m:a.block≠S)(y:64<=M.aZ/\M.aZ<=400)(x:d.length+40<=M.aZ)(k:M.aQ.length<16)(p:∀f∈M.aQ,M.aV<=f.aJ)(o:M.aV<=b):WA prog 150 #[aK S 0,uZ id,uZ b,.slice (some a) d.length c] w fun e u=>e=.returned .nilIface/\Hid (∃v,je s oZ w S bw bl bi (M.dg (Ee id b ⟨d.toArray⟩) v) u):=
 Vp _ S M.aZ M.aV d.length c a id b w _ (h.open r) (by rw[h.cK.cell];exact h.cells.c0) ((M.aZ:Int)-40) (by rw[qB];omega) fun q=>qm9 id b a c _ h g i j n m aj k p o q
def PG(C S w)(c:w.cell? (aA C 0)=some (aK S 0))(x y v)(R:Wq->Prop)(h:WA prog 150 #[aK S 0,x,y,v] w fun e a=>e=.returned .nilIface/\R a):WA prog 111 #[aK C 0,x,y,v] w fun e a=>e=.returned .nilIface/\R a:=by have f:=aG (pz C S w c);have d:=aG h;clear h c;go_enter func111,ntmps111;go_wp2_with (first|(go_at_call 65;refine bK f.out ?_;rintro a j;have b:=j.symm;subst b)|(go_at_call 150;refine bK d.out ?_;rintro a i;have g:=aG i));go_ret;exact⟨rfl,g.out⟩
theorem PI(C S){M bw bl bi}(id b data)(h:gq oZ s w S l M bw bl bi vc)(F:w.cell? (aA C 0)=some (aK S 0))(Y:M.mY=0)(h1:id<4611686018427387903)(h2:b<=4611686018427387903)(h3:M.least<=id)(X:64<=M.aZ/\M.aZ<=400)(h4:data.size+40<=M.aZ)(O:M.aQ.length<16)(a:∀f∈M.aQ,M.aV<=f.aJ)(hd:M.aV<=b)(P:iM w)(N:oZ 0∉T0 s):bN 64 #[aK C 0,uZ id,uZ b,.string data] w (iZ 0) fun w'=>Hid (∃v,je s oZ w S bw bl bi (M.dg (Ee id b data) v) w'):=by
 obtain⟨K,W,h6,R,T,i,q,t⟩:=pX w data aj;have E:C<w.heap.size:=iq w (aA C 0) (by rw[F]);have p:=Hz h i t;have d:data.data.toList.length=data.size:=aR;have c:(⟨data.data.toList.toArray⟩:ByteArray)=data:=aR;have vZ:=h.cK.lt;obtain⟨Q,m⟩:∃Q:Wq->Prop,Q=fun y=>∃v,SS oZ s w S bw bl bi data.size (M.dg (Ee id b data) v) y:=⟨_,rfl⟩;have I:Hid (WA prog 111 #[aK C 0,uZ id,uZ b,dB w.heap.size data.size K] W fun e g=>e=.returned .nilIface/\Q g):=by refine PG C S W (cell_of F (i.block _ E)) _ _ _ _ ?_;obtain⟨o,l1,v1,L,g2,D,g4⟩:=p;have:=PD id b (aA w.heap.size 0) K L Y h1 h2 h3 q (by grind) X (by grind) O a hd;rw[d,c]at this;refine bK this ?_;rintro g ⟨v,o2,l2,v2,Z,x⟩;have hs:=L.s0;rw[m];exact⟨rfl,v,o2,l2,v2,Z,by rw[x.ext _ D.lt,g2],D.of_heap (x.cK _ D.lt (by grind [fM])),g4.trans x⟩
 have J:Hid (∀g,Q g->bN 60 #[.nilIface] g (iZ 0) fun H=>Q H):=fun g a=>by rw[m]at a ⊢;obtain⟨v,a⟩:=a;refine bK (rR 0 (.inl rfl) g (a.err P N)) ?_;rintro H hb;exact⟨rfl,v,a.below hb⟩
 have HS:Hid (∀y j (v:Wx),Q y->Q (y.setCell (aA w.heap.size j) v)):=fun y j v a=>by rw[m]at a ⊢;obtain⟨u,a⟩:=a;exact⟨u,a.set j v⟩
 have B:Hid (∀y j,Q y->j<data.size->(∃v,y.cell? (aA w.heap.size j)=some v)/\y.frozen? (aA w.heap.size j)=false):=fun y j a U=>by rw[m]at a;obtain⟨u,o,l1,v1,Z,x,k3,k4⟩:=a;exact k3.cell j U
 have HF:Hid (∀y,Q y->∃v,je s oZ w S bw bl bi (M.dg (Ee id b data) v) y):=fun y a=>by rw[m]at a;obtain⟨u,a⟩:=a;exact⟨u,a.q⟩
 have hn:data.size<=400:=aj;clear h F Y P N p i q t d c m a h4 X O vZ;generalize data.size=n at *
 go_enter func64,ntmps64;go_wp2_with (first|(go_at_call 111;refine bK I.out ?_;rintro g a)|(go_at_call 60;refine bK (J.out _ a) ?_;rintro H r;have z:=aG r;clear r));clear I J a;go_loopw [22] (fun k wr=>∃j:Nat,j<=n/\k=(iZ j)/\Hid (Q wr)) (fun k _=>n-(eB k).toNat);case atStart=>grind
 case round=>
  obtain⟨j,U,rfl,A⟩:=hrel;clear z;by_cases G:j<n
  .have V:(j:Int)<(n:Int):=aj;obtain⟨⟨v,e1⟩,e2⟩:=B.out wr j A.out G;have HT:=aG (HS.out wr j (.int .u8 33) A.out);go_wp2;go_roundw;case rel=>exact⟨j+1,aj,aR,HT⟩
   grind [eB]
  .obtain rfl:j=n:=aj;go_wp2;go_ret;exact⟨rfl,HF.out _ A.out⟩
def Yk(S id b d n c:Nat)(a e w)(g:w.cell? (aA S 234)=some (uZ d))(i:id<4611686018427387903)(j:b<=4611686018427387903)(k:d<=id)(l:e<(n:Int)):bN 189 #[aK S 233,uZ id,uZ b,.slice a n c,iZ e] w (nk 6) fun f=>∃q,f=w.drewN q:=by have m:¬(4611686018427387903<(id:Int)):=aj;have o:¬(4611686018427387903<(b:Int)):=aj;have p:¬((id:Int)<(d:Int)):=aj;go_enter func189,ntmps189;go_wp2;go_ret;exact⟨rfl,0,rfl⟩
def TH(S id d e n c m k:Nat)(a f b w)(i:w.cell? (aA S 233)=some (.slice f m k))(j:w.cell? (aA S 234)=some (uZ e))(l:id<4611686018427387903)(o:d<=4611686018427387903)(p:e<=id)(r:(n:Int)<=b)(s:16<=m):bN 189 #[aK S 233,uZ id,uZ d,.slice a n c,iZ b] w (nk 3) fun g=>∃q,g=w.drewN q:=by have t:¬(4611686018427387903<(id:Int)):=aj;have u:¬(4611686018427387903<(d:Int)):=aj;have v:¬((id:Int)<(e:Int)):=aj;have x:¬(b<(n:Int)):=aj;have y:(16:Int)<=(m:Int):=aj;go_enter func189,ntmps189;go_wp2;go_ret;exact⟨rfl,0,rfl⟩
theorem qd7{S M bw bl bi B}(id k n c:Nat)(a e)(h:gq oZ s w S l M bw bl bi B)(u:M.mY=0)(D:64<=M.aZ/\M.aZ<=400)(C:M.aQ.length<=16)(E:∀f∈M.aQ,M.aV<=f.aJ)(p:∀q,bN 189 #[aK S 233,uZ id,uZ k,.slice (some a) n c,(iZ ((M.aZ:Int)-40))] (w.drewN q) (nk e) fun j=>∃i,j=(w.drewN q).drewN i):bN 150 #[aK S 0,uZ id,uZ k,.slice (some a) n c] w (nk e) fun j=>Hid (∃v,je s oZ w S bw bl bi {M with qv:=v} j):=by
 refine Vp (nk e) S M.aZ M.aV n c a id k w _ (h.open u) (by rw[h.cK.cell];exact h.cells.c0) ((M.aZ:Int)-40) (by rw[qB];omega) fun q=>(p q).mono ?_;rintro r j ⟨rfl,i,rfl⟩;have m:bJ w ((w.drewN q).drewN i):=⟨rfl,rfl,rfl,aI _,fun _ _=>rfl⟩;have g:=h.below m;refine⟨rfl,by rw[g.cK.cell];exact g.cells.c0,by rw[g.cK.cell];exact g.cells.c3,fun z=>?_⟩;have b:bJ w (((w.drewN q).drewN i).drewN z):=⟨rfl,rfl,rfl,aI _,fun _ _=>rfl⟩;have t:(M.aQ.filter fun f=> !decide (f.aJ<M.aV))=M.aQ:=by grind [List.filter_eq_self]
 refine(C_ M M.aV _ (h.below b) C).mono ?_;rintro r F ⟨rfl,v,y,x,A,d,o⟩;rw[t]at d;exact⟨rfl,by rw[d.cK.cell];exact d.cells.c3,v,y,x,A,d,(Kp.below b).trans o⟩
def eql6(w):(binOp .eql 94 (.iface 57 (iZ 6)) (.iface 57 (iZ 6))).run prog w=.ok (.bool true) w:=bZ
def qd8(w)(a:iM w):bN 60 #[nk 6] w (iZ ((6:Nat):Int)) fun b=>bJ w b:=yF (nk 6) (6:Nat) (-1) w _ (rQ 6 eql6 w a)
def qou{b}(h:w'.heap[b]?=w.heap[b]?):w'.cell? (aA b j)=w.cell? (aA b j):=by unfold mI;simp only[h]
def qov(c C S w)(d:w.cell? (aA C 0)=some (aK S 0))(x y v)(R:Wq->Prop)(h:bN 150 #[aK S 0,x,y,v] w c fun a=>R a):bN 111 #[aK C 0,x,y,v] w c fun a=>R a:=by have f:=aG (pz C S w d);have e:=aG h;clear h d;go_enter func111,ntmps111;go_wp2_with (first|(go_at_call 65;refine bK f.out ?_;rintro a j;have b:=j.symm;subst b)|(go_at_call 150;refine bK e.out ?_;rintro a i;have g:=aG i));go_ret;exact⟨rfl,g.out⟩
theorem qd9(C S){M bw bl bi}(id z:Nat)(data)(h:gq oZ s w S l M bw bl bi vc)(J:w.cell? (aA C 0)=some (aK S 0))(hy:M.mY=0)(hm:64<=M.aZ/\M.aZ<=400)(zy:M.aQ.length<=16)(a:∀f∈M.aQ,M.aV<=f.aJ)(en)(k:∀w,iM w->bN 60 #[nk en] w (iZ en) fun t=>bJ w t)(iD:data.size<=1000000)(T:∀W n c x,(∀j,j=233\/j=234->W.cell? (aA S j)=w.cell? (aA S j))->n=data.size->bN 189 #[aK S 233,uZ id,uZ z,.slice (some x) n c,(iZ ((M.aZ:Int)-40))] W (nk en) fun t=>∃q2,t=W.drewN q2)(U:iM w)(R:oZ 0∉T0 s):bN 64 #[aK C 0,uZ id,uZ z,.string data] w (iZ en) fun t=>Hid (∃v,je s oZ w S bw bl bi {M with qv:=v} t):=by
 obtain⟨F,W,h2,V,X,b,I,r⟩:=pX w data aj;have H:C<w.heap.size:=iq w (aA C 0) (by rw[J]);have i:=Hz h b r;have m:data.data.toList.length=data.size:=aR;have vZ:=h.cK.lt;obtain⟨Q,g⟩:∃Q:Wq->Prop,Q=fun y=>∃v,SS oZ s w S bw bl bi data.size {M with qv:=v} y:=⟨_,rfl⟩;have N:Hid (bN 111 #[aK C 0,uZ id,uZ z,dB w.heap.size data.size F] W (nk en) fun d=>Q d):=by refine qov (nk en) C S W (cell_of J (b.block _ H)) _ _ _ _ ?_;obtain⟨o,l1,v1,P,g2,G,g4⟩:=i;refine bK (qd7 id z data.size F (aA w.heap.size 0) en P hy hm zy a fun q=>T (W.drewN q) data.size F _ (fun j _=>qou (b.block _ vZ)) rfl) ?_;rintro d ⟨v,o2,l2,v2,k1,A⟩;have hs:=P.s0;rw[g];exact⟨rfl,v,o2,l2,v2,k1,by rw[A.ext _ G.lt,g2],G.of_heap (A.cK _ G.lt (by grind [fM])),g4.trans A⟩
 have O:Hid (∀d,Q d->bN 60 #[nk en] d (iZ en) fun L=>Q L):=fun d a=>by rw[g]at a ⊢;obtain⟨v,a⟩:=a;refine bK (k d (a.err U R)) ?_;rintro L hb;exact⟨rfl,v,a.below hb⟩
 have HS:Hid (∀y j (v:Wx),Q y->Q (y.setCell (aA w.heap.size j) v)):=fun y j v a=>by rw[g]at a ⊢;obtain⟨u,a⟩:=a;exact⟨u,a.set j v⟩
 have E:Hid (∀y j,Q y->j<data.size->(∃v,y.cell? (aA w.heap.size j)=some v)/\y.frozen? (aA w.heap.size j)=false):=fun y j a Y=>by rw[g]at a;obtain⟨u,o,l1,v1,k1,A,k3,k4⟩:=a;exact k3.cell j Y
 have HF:Hid (∀y,Q y->∃v,je s oZ w S bw bl bi {M with qv:=v} y):=fun y a=>by rw[g]at a;obtain⟨u,a⟩:=a;exact⟨u,a.q⟩
 have hn:=iD;clear h J hy U R i b I r m g a zy hm vZ T k iD;generalize data.size=n at *
 go_enter func64,ntmps64;go_wp2_with (first|(go_at_call 111;refine bK N.out ?_;rintro d a)|(go_at_call 60;refine bK (O.out _ a) ?_;rintro L p;have B:=aG p;clear p));clear N O a;go_loopw [22] (fun e wr=>∃j:Nat,j<=n/\e=(iZ j)/\Hid (Q wr)) (fun e _=>n-(eB e).toNat);case atStart=>grind
 case round=>
  obtain⟨j,Y,rfl,D⟩:=hrel;clear B;by_cases K:j<n
  .have Z:(j:Int)<(n:Int):=aj;obtain⟨⟨v,e1⟩,e2⟩:=E.out wr j D.out K;have HT:=aG (HS.out wr j (.int .u8 33) D.out);go_wp2;go_roundw;case rel=>exact⟨j+1,aj,aR,HT⟩
   grind [eB]
  .obtain rfl:j=n:=aj;go_wp2;go_ret;exact⟨rfl,HF.out _ D.out⟩
