import Derived.Test.YtphbledmopchnaaGreatDoorLfc
import Derived.Test.YtphbledmopchnaaGreatDoorLfd
open Go.RowKit.Below renaming refl->mE
open List renaming getD_eq_getElem?_getD->eB,getElem?_eq_getElem->lg,getElem?_map->mI
open Nat renaming le_refl->eT,lt_of_lt_of_le->mK
open Prod renaming fst->j3
set_option maxHeartbeats 4000000
set_option maxRecDepth 100000
namespace Go.Proofs.YtphbledmopchnaaGreatDoor.Sd
open Go.RowKit Go.Lib Mm Tryz
theorem MR(oZ:Own)(s:Nat)(S:Nat)(l:bO)(M:av)(bw bl bi:Nat)(vc:Value)(f:Fr)(a:Option Addr)(c:Nat)(w:World)(h:fP oZ s w S l M bw bl bi vc)(hb:Bd M)(p:jg w a f.ranges)(m:0<f.ranges.length)(t:f.ranges.length<=1000000)(n:∀x,a=some x->oZ x.block∉T0 s)(j:(f.ranges.getD 0 (0,0)).2<M.next)(k:M.next<=dK):Calls prog 233 #[aI S 0,fM f (.slice a f.ranges.length c)] w fun e w'=>e=.returned (iZ 0)/\∃M1,M.nu f.ranges M1/\jC s oZ w S bw bl bi M1 w':=by
 obtain⟨W,g⟩:=bZ (w.alloc (.cells (gG f (.slice a f.ranges.length c)).toArray 65));have i:aS W w.heap.size 65 (gG f (.slice a f.ranges.length c)):=by rw[g];exact aS.new w 65 _
 have b:bJ w W:=by rw[g];exact(mE _ w).alloc (eT _) _
 have z:Hid (∀q,Calls prog 294 #[aI S 0,.slice a f.ranges.length c] (W.drewN q) fun e w'=>e=.returned (.tuple #[])/\∃M1,M.nu f.ranges M1/\jC s oZ w S bw bl bi M1 w'):=fun q=>by have d:bJ w (W.drewN q):=qI b;refine bN (YU oZ s S l M bw bl bi vc (W.drewN q) (h.below d) hb a c f.ranges (p.below d) m t n j k) ?_;rintro w' ⟨M1,A,o',l',v',B,C⟩;exact⟨rfl,M1,A,o',l',v',B,(Kp.below d).trans C⟩
 obtain⟨rb,G,rfl,q0,v,D,E⟩:=p 0 m;have r:rb<w.heap.size:=World.block_lt_of_cell? w _ (by rw[q0]);have o:=h.below b;obtain⟨I,J,K,L,N,O,P,Q,R,T,U⟩:=bL i;have dn:W.cell? (aB S 229)=some (uZ M.next):=by rw[o.cZ.cell];exact o.cells.oo
 have H:W.cell? (aB rb (G+1))=some (uZ ((f.ranges.getD 0 (0,0)).2:Int)):=cell_of v (b.block _ r);have F:(0:Int)<(f.ranges.length:Int):=aj;have u:¬(M.next:Int)<=((f.ranges.getD 0 (0,0)).2:Int):=aj;clear h hb p n k q0 v D E o i b j;generalize (f.ranges.getD 0 (0,0)).2=hi at *
 generalize M.next=nx at *
 generalize f.ranges.length=rl at *
 unfold fM;unfold gG at g;go_enter func233,ntmps233;go_wp2;rw[<-g];clear g;go_quiet (fail);go_wp2_with (go_at_call 294;refine bN (z.out _) ?_;rintro w1 y);go_ret;exact⟨rfl,y⟩
theorem fP.iB{oZ:Own}{s:Nat}{w w':World}{S:Nat}{l l':bO}{M:av}{bw bl bi:Nat}{vc:Value}(h:fP oZ s w S l M bw bl bi vc)(n:Nat)(q:gM w w' S l l' 220 1)(a:l'[220]?=some (uZ n)):jC s oZ w S bw bl bi {M with aL:=n} w':=by have c:=h.cells;have e:∀j,j≠220->l'[j]?=l[j]?:=fun j b=>q.gN.2 j aj;exact h.cell 220 1 aj q ⟨q.gN.1.trans c.len,(e _ aj).trans c.c0,(e _ aj).trans c.c1,(e _ aj).trans c.c2,(e _ aj).trans c.c3,a,c.gr.gN q.gN aj,(e _ aj).trans c.tN,(e _ aj).trans c.tQ,(e _ aj).trans c.pV,(e _ aj).trans c.nG,(e _ aj).trans c.oo,(e _ aj).trans c.oQ,(e _ aj).trans c.sG,(e _ aj).trans c.nH,(e _ aj).trans c.pW,(e _ aj).trans c.vB,(e _ aj).trans c.sH,(e _ aj).trans c.vC,(e _ aj).trans c.vD,(e _ aj).trans c.oU,(e _ aj).trans c.vE⟩ rfl rfl rfl rfl rfl
structure FrC (M:av) (f:Fr):Prop where
 kd:f.aC=2\/f.aC=4\/f.aC=5\/f.aC=6
 ack:f.aC=2->0<f.ranges.length/\f.ranges.length<=1000000/\(f.ranges.getD 0 (0,0)).2<M.next
 st:f.aC=4\/f.aC=6->0<=f.aH/\f.aH<8
 dt:f.aC=4->bC f<=2048
 ok:f.aC≠2->(M.take f).2=0
theorem YX(oZ:Own)(s:Nat)(S:Nat)(l:bO)(M:av)(bw bl bi:Nat)(vc:Value)(f:Fr)(a:Option Addr)(c:Nat)(w:World)(h:fP oZ s w S l M bw bl bi vc)(hb:Bd M)(m:FrC M f)(B:jg w a f.ranges)(p:∀x,a=some x->oZ x.block∉T0 s)(o:M.next<=dK):Calls prog 183 #[aI S 0,fM f (.slice a f.ranges.length c)] w fun e w'=>e=.returned (iZ 0)/\∃M1,M.iN f M1 0/\jC s oZ w S bw bl bi M1 w':=by
 obtain⟨W,i⟩:=bZ (w.alloc (.cells (gG f (.slice a f.ranges.length c)).toArray 65));have n:aS W w.heap.size 65 (gG f (.slice a f.ranges.length c)):=by rw[i];exact aS.new w 65 _
 have b:bJ w W:=by rw[i];exact(mE _ w).alloc (eT _) _
 have d:=h.below b;have J:=h.cZ.lt;obtain⟨Q,R,T,U,V,X,Y,Z,x8,x9,xf⟩:=bL n;rcases m.kd with hk|hk|hk|hk
 ·have y:Hid (Calls prog 233 #[aI S 0,fM f (.slice a f.ranges.length c)] W fun e w'=>e=.returned (iZ 0)/\Hid (∃M1,M.iN f M1 0/\jC s oZ w S bw bl bi M1 w')):=by
   obtain⟨E,F,G⟩:=m.ack hk;refine bN (MR oZ s S l M bw bl bi vc f a c W d hb (B.below b) E F p G o) ?_;rintro w' ⟨M1,H,o',l',v',u,v⟩;refine⟨rfl,M1,?_,o',l',v',u,(Kp.below b).trans v⟩;unfold av.iN;rw[bK hk,aU aj];exact⟨H,rfl⟩
  clear h d hb B p m n b o;generalize f.ranges.length=rl at *
  unfold fM at *
  unfold gG at i;rw[hk]at *
  clear hk;go_enter func183,ntmps183;go_wp2_with (go_at_call 233;rw[<-i];refine bN y.out ?_;rintro w1 t);go_ret;exact⟨rfl,t.out⟩
 ·obtain⟨k,r⟩:∃k:Nat,f.aH=(k:Int):=⟨f.aH.toNat,bV (m.st (.inl hk))⟩;have C:k<8:=bV (m.st (.inl hk));have y:Hid (Calls prog 234 #[aI S 0,fM f (.slice a f.ranges.length c)] W fun e w'=>e=.returned (iZ 0)/\Hid (∃M1,M.iN f M1 0/\jC s oZ w S bw bl bi M1 w')):=by
   have P:=m.dt hk;refine(Ju oZ s S l M bw bl bi vc f a f.ranges.length c k C r hk W d (hb.i k).ok (fun j=>bV ((hb.i j).h)) aj).mono ?_;have D:=m.ok (by rw[hk];decide);rintro e w' ⟨rfl,o',l',v',u,v⟩;refine⟨by rw[D];rfl,(M.take f).1,?_,o',l',v',u,(Kp.below b).trans v⟩;unfold av.iN;rw[aU (by rw[hk];decide)];exact Prod.ext rfl D.symm
  clear h d hb B p m n b o;generalize f.ranges.length=rl at *
  unfold fM at *
  unfold gG at i;rw[hk]at *
  clear hk r;go_enter func183,ntmps183;go_wp2_with (go_at_call 234;rw[<-i];refine bN y.out ?_;rintro w1 t);go_ret;exact⟨rfl,t.out⟩
 ·obtain⟨N,O,z⟩:=max2 M.aL f.aL;have K:W.cell? (aB S 220)=some (uZ M.aL):=by rw[d.cZ.cell];exact d.cells.rC
  have L:=d.cZ.frozen 220;have t:Hid (∃M1,M.iN f M1 0/\jC s oZ w S bw bl bi M1 (W.setCell (aB S 220) (uZ N)).drew):=by obtain⟨o',l',v',u,v⟩:=d.iB N (gM.one d.cZ 220 (uZ N) 220 1 (eT _) aj) (dG l 220 _ _ d.cells.rC);refine⟨{M with aL:=N},?_,o',l',v',u.below ⟨rfl,rfl,rfl,eT _,fun _ _=>rfl⟩,(Kp.below b).trans v.drew⟩;unfold av.iN;rw[aU (by rw[hk];decide)];unfold av.take;rw[aU (by rw[hk];decide),aU (by rw[hk];decide),aU (by rw[hk];decide),aU (by rw[hk];decide),aU (by rw[hk];decide),bK hk,z]
  clear h d hb B p m n b o z;generalize f.ranges.length=rl at *
  generalize M.aL=lm at *
  unfold fM at *
  unfold gG at i;rw[hk]at *
  clear hk;go_enter func183,ntmps183;go_wp2;rw[<-i];clear i;go_region
  go_wp2;go_ret;exact⟨rfl,t.out⟩
 ·obtain⟨k,r⟩:∃k:Nat,f.aH=(k:Int):=⟨f.aH.toNat,bV (m.st (.inr hk))⟩;have C:k<8:=bV (m.st (.inr hk));have I:(k:Int)<8:=aj;have y:Hid (∀q,Calls prog 237 #[(aI S (4+k*27)),uZ f.aL] (W.drewN q) fun e w'=>e=.returned (.tuple #[])/\Hid (∃M1,M.iN f M1 0/\jC s oZ w S bw bl bi M1 w')):=fun q=>by
   have A:bJ w (W.drewN q):=qI b;have hq:=h.below A;rw[show 4+k*27=4+27*k by omega];refine bN (Ub s (s+1+5*k) oZ S (4+27*k) f.aL (M.out k) l (W.drewN q) hq.cZ hq.ow aj (hq.out k C)) ?_;rintro w' g;obtain⟨o',l',v',u,v⟩:=hq.dD k C _ g;refine⟨rfl,M.dD k {M.out k with aL:=max (M.out k).aL f.aL},?_,o',l',v',u,(Kp.below A).trans v⟩;unfold av.iN;rw[aU (by rw[hk];decide)];unfold av.take;rw[aU (by rw[hk];decide),aU (by rw[hk];decide),aU (by rw[hk];decide),aU (by rw[hk];decide),aU (by rw[hk];decide),aU (by rw[hk];decide),bK hk];have:f.aH.toNat=k:=aj;rw[this]
  clear h d hb B p m n b o;generalize f.ranges.length=rl at *
  unfold fM at *
  unfold gG at i;rw[hk]at *
  generalize f.aH=st at *
  subst r;clear hk;go_enter func183,ntmps183;go_wp2;rw[<-i];clear i;go_region_with (go_at_call 237;refine bN (y.out _) ?_;rintro w1 t);all_goals(go_wp2;go_ret;exact⟨rfl,t.out⟩)
section
def mW:av->List Fr->av->Prop
 |M,[],M1=>M1=M
 |M,f::t,M1=>∃a,M.iN f a 0/\mW a t M1
theorem Aa:∀(l:List Fr) {M X Y:av} (f:Fr),mW M l X->X.iN f Y 0->mW M (l++[f]) Y
 |[],M,X,Y,f,h,k=>by cases h;exact⟨Y,k,rfl⟩
 |g::t,M,X,Y,f,h,k=>by obtain⟨a,h1,b⟩:=h;exact⟨a,h1,Aa t f b k⟩
theorem CV:∀(l:List Fr) {M X:av},mW M l X->kZ M l X 0
 |[],_,_,h=>⟨h,rfl⟩
 |f::t,_,_,⟨M2,h1,h2⟩=>⟨M2,0,h1,by rw[bK rfl];exact CV t h2⟩
structure Ab (oZ:Own) (s:Nat) (w:World) (fa:Option Addr) (L:List FV):Prop where
 fv:xD w fa L
 fo:∀x,fa=some x->x.block<w.heap.size/\oZ x.block∉T0 s
 rg:∀j,j<L.length->jg w (L.getD j iq).2.1 (L.getD j iq).1.ranges/\(L.getD j iq).2.2.1=(L.getD j iq).1.ranges.length/\∀x,(L.getD j iq).2.1=some x->x.block<w.heap.size/\oZ x.block∉T0 s
theorem Ab.kp{oZ aY:Own}{s:Nat}{w w':World}{fa:Option Addr}{L:List FV}(h:Ab oZ s w fa L)(K:Kp (T0 s) oZ aY w w'):Ab aY s w' fa L:=by
 refine⟨fun j c=>?_,fun x a=>?_,fun j c=>?_⟩;·obtain⟨b,off,e,h1⟩:=h.fv j c;obtain⟨f1,f2⟩:=h.fo _ e;refine⟨b,off,e,fun i hi=>?_⟩;rw[<-h1 i hi];have:=K.cZ b f1 f2;unfold World.cell?;simp only[this]
 ·obtain⟨f1,f2⟩:=h.fo x a;exact⟨mK f1 K.size,by rw[K.ext _ f1];exact f2⟩
 ·obtain⟨h1,f,d⟩:=h.rg j c;refine⟨h1.of fun x a hl=>K.cZ _ hl (d x a).2,f,fun x a=>?_⟩;obtain⟨f1,f2⟩:=d x a;exact⟨mK f1 K.size,by rw[K.ext _ f1];exact f2⟩
theorem fP.qgj{oZ:Own}{s:Nat}{w w':World}{S:Nat}{l:bO}{M:av}{bw bl bi:Nat}{vc:Value}(h:fP oZ s w S l M bw bl bi vc)(x:NS)(q:PG s (s+41) oZ S 225 l 8 w (x.fl,x.rs) w'):jC s oZ w S bw bl bi {M with aM:=x} w':=by
 obtain⟨aY,l',va,K,hB,wi,f,g,i,k⟩:=q;have a:∀y,y∈[s,s+41]->y=s\/y=s+41:=fun y d=>by simpa using d
 have e:∀j,j<225\/228<=j->l'[j]?=l[j]?:=fun j b=>wi.2 j aj;have c:=h.cells;refine⟨aY,l',va,⟨by rw[K.ext S h.cZ.lt,h.ow],h.s0,hB,⟨wi.1.trans c.len,(e _ aj).trans c.c0,(e _ aj).trans c.c1,(e _ aj).trans c.c2,(e _ aj).trans c.c3,(e _ aj).trans c.rC,c.gr.gN wi aj,f,g,i,(e _ aj).trans c.nG,(e _ aj).trans c.oo,(e _ aj).trans c.oQ,(e _ aj).trans c.sG,(e _ aj).trans c.nH,(e _ aj).trans c.pW,(e _ aj).trans c.vB,(e _ aj).trans c.sH,(e _ aj).trans c.vC,(e _ aj).trans c.vD,(e _ aj).trans c.oU,(e _ aj).trans c.vE⟩,fun j b=>?_,fun j b=>?_,k,h.sI.kp K (fun e=>bV (a _ e)) (fun e=>bV (a _ e)),h.bP.kp K (fun e=>bV (a _ e)) (fun e=>bV (a _ e)),h.lo,h.li⟩,K.mono fun y d=>fG.2 (bV (a y d))⟩;·exact(h.out j b).kp K (fun e=>bV (a _ e)) (fun e=>bV (a _ e)) (fun e=>bV (a _ e)) wi aj
 ·exact(h.bF j b).kp K (fun e=>bV (a _ e)) (fun e=>bV (a _ e)) wi aj
theorem fP.ans{oZ:Own}{s:Nat}{w w':World}{S:Nat}{l l':bO}{M:av}{bw bl bi:Nat}{vc:Value}(h:fP oZ s w S l M bw bl bi vc)(n:Bool)(q:gM w w' S l l' 228 1)(a:l'[228]?=some (.bool n)):jC s oZ w S bw bl bi {M with aT:=n} w':=by have c:=h.cells;have e:∀j,j≠228->l'[j]?=l[j]?:=fun j b=>q.gN.2 j aj;exact h.cell 228 1 aj q ⟨q.gN.1.trans c.len,(e _ aj).trans c.c0,(e _ aj).trans c.c1,(e _ aj).trans c.c2,(e _ aj).trans c.c3,(e _ aj).trans c.rC,c.gr.gN q.gN aj,(e _ aj).trans c.tN,(e _ aj).trans c.tQ,(e _ aj).trans c.pV,a,(e _ aj).trans c.oo,(e _ aj).trans c.oQ,(e _ aj).trans c.sG,(e _ aj).trans c.nH,(e _ aj).trans c.pW,(e _ aj).trans c.vB,(e _ aj).trans c.sH,(e _ aj).trans c.vC,(e _ aj).trans c.vD,(e _ aj).trans c.oU,(e _ aj).trans c.vE⟩ rfl rfl rfl rfl rfl
theorem CmB.ok{c:NS}(h:CmB c):St.Rg.Ok 18446744073709551616 1000000 c.fl c.rs:=
 ⟨h.so,fun r a=>by have:=h.hi r a;unfold dK at this;omega,bV h.ln,by have:=h.fl;unfold dK at this;omega⟩
theorem E_{M M1:av}{f:Fr}{e:Nat}(h:M.iN f M1 e):M1.mJ=M.mJ:=by
 have c:∀(l:List Fr) (X:av),(l.foldl av.dx X).mJ=X.mJ:=fun l=>by
  induction l with
  |nil=>exact fun X=>rfl
  |cons f t d=>
   intro X;refine(d _).trans ?_;unfold av.dx;repeat' split
   all_goals rfl
 unfold av.iN at h;split at h
 ·split at h;·rw[h.1]
  ·obtain⟨⟨lp,lq,_,_,rfl⟩,_⟩:=h;exact(c _ _).trans rfl
 ·rename_i a;have b:M1=(M.take f).1:=congrArg j3 h;rw[b];unfold av.take av.Tx;rw[aU a];repeat' split
  all_goals rfl
theorem CW:∀(l:List Fr) {M X:av},mW M l X->X.mJ=M.mJ
 |[],_,_,h=>by rw[h]
 |_::t,_,_,⟨_,h1,h2⟩=>(CW t h2).trans (E_ h1)
def TA(oZ:Own)(s:Nat)(w:World)(S bw bl bi:Nat)(fa:Option Addr)(L:List FV)(bv:bO)(M':av)(y:World):Prop:=
 ∃a l1 b,fP a s y S l1 M' bw bl bi b/\a w.heap.size=0/\aS y w.heap.size 56 bv/\Ab a s y fa L/\Kp (T0 s) oZ a w y
section
variable {oZ:Own} {s:Nat} {w:World} {S bw bl bi:Nat} {fa:Option Addr} {L:List FV} {bv:bO} {M':av} {y y':World}
theorem TA.step{c:av}(h:TA oZ s w S bw bl bi fa L bv M' y)(k:∀b l1 i,fP b s y S l1 M' bw bl bi i->Ab b s y fa L->jC s b y S bw bl bi c y'):TA oZ s w S bw bl bi fa L bv c y':=by obtain⟨o,l1,n,h1,d,g,f,l⟩:=h;obtain⟨m,l2,p,j,a⟩:=k o l1 n h1 f;have hs:=h1.s0;exact⟨m,l2,p,j,by rw[a.ext _ g.lt,d],cO g a (by rw[d];exact fun e=>bV (fG.1 e)),f.kp a,l.trans a⟩
theorem TA.below(h:TA oZ s w S bw bl bi fa L bv M' y)(hb:bJ y y'):TA oZ s w S bw bl bi fa L bv M' y':=h.step fun _ _ _ g _=>jC.refl g hb
theorem TA.mJ(h:TA oZ s w S bw bl bi fa L bv M' y)(a:M'.mJ=0):y.cell? (aB S 238)=some (iZ 0)/\y.frozen? (aB S 238)=false/\TA oZ s w S bw bl bi fa L bv M' (y.setCell (aB S 238) (iZ 0))/\(y.setCell (aB S 238) (iZ 0)).cell? (aB S 238)=some (iZ ((0:Nat):Int)):=by
 have g:TA oZ s w S bw bl bi fa L bv M' (y.setCell (aB S 238) (iZ 0)):=h.step fun o l1 b h1 _=>by
  have c:l1[238]?=some (iZ 0):=by rw[h1.cells.oU,a];rfl
  have q:=gM.one h1.cZ 238 (iZ 0) 238 1 (eT _) aj;rw[Ct l1 238 _ c]at q;exact h1.cell 238 1 aj q h1.cells rfl rfl rfl rfl rfl
 obtain⟨o,l1,b,h1,_⟩:=h;refine⟨by rw[h1.cZ.cell,h1.cells.oU,a];rfl,h1.cZ.frozen 238,g,?_⟩;obtain⟨o,l1,b,h1,_⟩:=g;rw[h1.cZ.cell,h1.cells.oU,a]
end


theorem wp_cut{c:Code}{K:Act->World->Prop}{f:Exit->Act->World->Prop}{a:Act}{w:World}(act:Act)(R:World->Prop)(h:c.wp prog (Exit.then (fun d w'=>d=act/\R w') fun _ _ _=>False) a w)(j:∀w',R w'->K act w'):c.wp prog (Exit.then K f) a w:=
 wp_mono h fun e d w' b=>by
  cases e with
  |normal=>obtain⟨rfl,g⟩:=b;exact j _ g
  |ret=>exact b.elim
  |exit i=>exact b.elim
  |goto i=>exact b.elim
  |panic c=>exact b.elim
  |outgrown=>exact b.elim
theorem MS(oZ:Own)(s:Nat)(S:Nat)(l:bO)(M:av)(bw bl bi:Nat)(vc:Value)(n:Nat)(fa:Option Addr)(L:List FV)(v:Nat)(w:World)(h:fP oZ s w S l M bw bl bi vc)(hb:Bd M)(hn:n<=dK)(hH:Ab oZ s w fa L)(hl:L.length<=1000000)(hy:M.mJ=0)(hC:∀c j,j<L.length->mW {M with aM:=M.aM.add 8 n n,aT:=M.aT||eO (L.map j3)} ((L.map j3).take j) c->FrC c (L.getD j iq).1/\Bd c/\c.next<=dK):Calls prog 138 #[aI S 0,.agg #[uZ n,.slice fa L.length v]] w fun e w'=>e=.returned .nilIface/\∃M1,mW {M with aM:=M.aM.add 8 n n,aT:=M.aT||eO (L.map j3)} (L.map j3) M1/\jC s oZ w S bw bl bi M1 w':=by
 have hm:=h.s0;obtain⟨W,hW⟩:=bZ (w.alloc (.cells #[uZ n,.slice fa L.length v] 56));have k:bJ w W:=by rw[hW];exact(mE _ w).alloc (eT _) _
 obtain⟨bv,r⟩:=bZ ([uZ n,.slice fa L.length v]:bO);have Y:TA oZ s w S bw bl bi fa L bv M W:=by have K:Kp [] oZ (loc oZ w.heap.size) w W:=⟨k.os,k.tape,k.output,k.size,fun x a _=>k.block x a,fun x a=>jv _ _ _ a⟩;exact⟨loc oZ w.heap.size,l,vc,h.kp K aP,iX _ _ _ (eT _),by rw[hW,r];exact aS.new w 56 _,hH.kp (K.mono aP),K.mono aP⟩
 obtain⟨M1,F⟩:∃M1:av,M1={M with aM:=M.aM.add 8 n n}:=⟨_,rfl⟩;obtain⟨H,G⟩:=bZ (eO (L.map j3));obtain⟨D,p⟩:∃D:av,D={M with aM:=M.aM.add 8 n n,aT:=M.aT||H}:=⟨_,rfl⟩;have HA:Hid (∀q,Calls prog 127 #[aI S 225,uZ n,uZ n] (W.drewN q) fun e w1=>e=.returned (.tuple #[])/\TA oZ s w S bw bl bi fa L bv M1 w1):=fun q=>by
  have Z:TA oZ s w S bw bl bi fa L bv M (W.drewN q):=Y.below ⟨rfl,rfl,rfl,eT _,fun _ _=>rfl⟩;have ho:=Z;obtain⟨o,l1,A,h1,z,a,m,E⟩:=Z;refine bN (Ob s (s+41) o S 225 n n l1 8 M.aM.fl M.aM.rs A (W.drewN q) h1.cZ h1.ow h1.cells.tN h1.cells.tQ h1.cells.pV h1.row hb.cm.ok (by unfold dK at hn;omega)) ?_;rintro w1 g;refine⟨rfl,?_⟩;have hq:jC s o (W.drewN q) S bw bl bi M1 w1:=by rw[F];exact h1.qgj (M.aM.add 8 n n) g
  obtain⟨o2,l2,v2,g1,U⟩:=hq;exact⟨o2,l2,v2,g1,by rw[U.ext _ a.lt,z],cO a U (by rw[z];exact fun e=>bV (fG.1 e)),m.kp U,E.trans U⟩
 have HS:Hid (∀w1,TA oZ s w S bw bl bi fa L bv M1 w1->w1.cell? (aB S 228)=some (.bool M.aT)/\w1.frozen? (aB S 228)=false/\w1.cell? (aB w.heap.size 1)=some (.slice fa L.length v)/\xD w1 fa L/\TA oZ s w S bw bl bi fa L bv D (w1.setCell (aB S 228) (.bool (M.aT||H)))/\(w1.setCell (aB S 228) (.bool (M.aT||H))).cell? (aB w.heap.size 1)=some (.slice fa L.length v)):=fun w1 hT=>by
  have g:TA oZ s w S bw bl bi fa L bv D (w1.setCell (aB S 228) (.bool (M.aT||H))):=hT.step fun o l1 A h1 _=>by have:=h1.ans (M.aT||H) (gM.one h1.cZ 228 (.bool (M.aT||H)) 228 1 (eT _) aj) (dG l1 228 _ _ h1.cells.nG);rw[F]at this;rw[p];exact this
  obtain⟨o,l1,A,h1,z,a,m,E⟩:=hT;rw[r]at a;have nG:=h1.cells.nG;rw[F]at nG;refine⟨by rw[h1.cZ.cell];exact nG,h1.cZ.frozen 228,a.cell 1,m.fv,g,?_⟩;obtain⟨o,l1,A,h1,z,a,m,E⟩:=g;rw[r]at a;exact a.cell 1
 have h5:D.mJ=0:=by rw[p];exact hy
 rw[<-G,<-p]at hC;rw[<-G,<-p];obtain⟨fs,Q⟩:=bZ (L.map j3);rw[<-Q]at hC ⊢;have HC:=aG hC;have V:=aG (dB Q (dB G h5));have h6:=aG r;clear h hb hH Y hC F p k Q G h5 hy r;have hc:W.cell? (aB w.heap.size 0)=some (uZ n):=by rw[hW];exact(aS.new w 56 [uZ n,.slice fa L.length v]).cell 0
 go_enter func138,ntmps138;go_wp2;rw[<-hW];clear hW;refine wp_cut {tmps:=#[aI S 0,.agg #[uZ n,.slice fa L.length v],undef,aI w.heap.size 0,.nilIface,undef,undef,aI S 0,aI S 0,aI S 225,aI w.heap.size 0,uZ n,aI w.heap.size 0,uZ n,.tuple #[],undef,undef,undef,undef,undef,undef,undef,undef,undef,undef,undef,undef,undef,undef,undef,undef,undef,undef,undef,undef,undef,undef,undef,undef,undef,undef,undef,undef,undef,undef,undef,undef,undef,undef],defers:=[]} (fun w1=>TA oZ s w S bw bl bi fa L bv M1 w1) ?_ (fun w1 d=>?_);·go_region_with (go_at_call 127;refine bN (HA.out _) ?_;rintro w1 d);all_goals exact⟨rfl,d⟩
 obtain⟨k1,k2,k3,k4,k5,k6⟩:=HS.out w1 d;have HW:Hid (Calls prog 182 #[.slice fa L.length v] w1 fun e B=>e=.returned (.bool H)/\bJ w1 B):=by rw[V.out.2.1];exact EM fa L v w1 aj k4
 have J:Hid (∀B,bJ w1 B->B.frozen? (aB S 228)=false/\B.cell? (aB S 228)=some (.bool M.aT)/\TA oZ s w S bw bl bi fa L bv D (B.setCell (aB S 228) (.bool (M.aT||H)))):=fun B P=>by obtain⟨a1,a2,a3,a4,a5,a6⟩:=HS.out B (d.below P);exact⟨a2,a1,a5⟩
 have h7:=aG d;clear HS k4 k5 k6 d HA hc;have I:Hid (∀w3,TA oZ s w S bw bl bi fa L bv D w3->w3.cell? (aB w.heap.size 1)=some (.slice fa L.length v)):=fun w3 h8=>by obtain⟨o,l1,A,h1,z,a,m,E⟩:=h8;rw[h6.out]at a;exact a.cell 1
 cases Rs:M.aT;case' false=>rw[Rs]at J k1;rw[Bool.false_or]at J;clear Rs;go_wp2_with (go_at_call 182;refine bN HW.out ?_;rintro B P;obtain⟨z1,z2,C⟩:=J.out B P;have h0:=I.out _ C;have O:=aG C;clear C)
 case' true=>rw[Rs]at J k1;rw[Bool.true_or]at J;clear Rs;obtain⟨z1,z2,C⟩:=J.out w1 (mE _ _);have h0:=I.out _ C;have O:=aG C;clear C;go_wp2
 all_goals clear k1 k2 k3 J HW h7 I
 all_goals go_loopw [30] (fun T wr=>∃(j:Nat) (c:av),j<=L.length/\T=(iZ j)/\Hid (mW D (fs.take j) c/\TA oZ s w S bw bl bi fa L bv c wr)) (fun T _=>L.length-(RowKit.intOf T).toNat)
 all_goals first|exact⟨0,D,Nat.zero_le _,rfl,⟨rfl,O.out⟩⟩|skip
 all_goals
  obtain⟨j,c,hj,rfl,N⟩:=hrel;clear O h0;by_cases t:j<L.length
  ·have hk:(j:Int)<(L.length:Int):=aj;have he:∃b off,fa=some (aB b off)/\∀i,i<10->wr.cell? (aB b (off+j*10+i))=(gG (L.getD j iq).1 (oO (L.getD j iq)))[i]?:=by
    obtain⟨o,l1,A,h1,z,a,m,E⟩:=N.out.2;exact m.fv j t
   obtain⟨b,off,ha,u⟩:=he;obtain⟨W5,wO⟩:=bZ (wr.alloc (.cells (gG (L.getD j iq).1 (oO (L.getD j iq))).toArray 65));have Ed:Hid (Calls prog 183 #[aI S 0,fM (L.getD j iq).1 (oO (L.getD j iq))] W5 fun e w6=>e=.returned (iZ 0)/\∃M',(c.iN (L.getD j iq).1 M' 0/\M'.mJ=0)/\TA oZ s w S bw bl bi fa L bv M' w6):=by have h9:TA oZ s w S bw bl bi fa L bv c W5:=N.out.2.below (by rw[wO];exact(mE _ wr).alloc (eT _) _);obtain⟨o,l1,A,h1,z,a,m,E⟩:=h9;obtain⟨c1,c2,c3⟩:=HC.out c j t N.out.1;obtain⟨g1,U,g3⟩:=m.rg j t;have jY:c.mJ=0:=(CW _ N.out.1).trans V.out.2.2;unfold oO;rw[U];refine bN (YX o s S l1 c bw bl bi A (L.getD j iq).1 (L.getD j iq).2.1 (L.getD j iq).2.2.2 W5 h1 c2 c1 g1 (fun x a=>(g3 x a).2) c3) ?_;rintro w6 ⟨M',t1,t2⟩;have hs:=h1.s0;obtain⟨o2,l2,v2,g4,g5⟩:=t2;exact⟨rfl,M',⟨t1,(E_ t1).trans jY⟩,o2,l2,v2,g4,by rw[g5.ext _ a.lt,z],cO a g5 (by rw[z];exact fun e=>bV (fG.1 e)),m.kp g5,E.trans g5⟩
   have Oi:Hid (fs.take (j+1)=fs.take j++[(L.getD j iq).1]):=by show fs.take (j+1)=_;rw[V.out.1,List.take_add_one,mI,lg t,eB,lg t];rfl
   subst ha;have c0:=u 0 aj;have c1:=u 1 aj;have c2:=u 2 aj;have c3:=u 3 aj;have c4:=u 4 aj;have c5:=u 5 aj;have c6:=u 6 aj;have c7:=u 7 aj;have c8:=u 8 aj;have c9:=u 9 aj;clear u;generalize L.getD j iq=FF at *
   obtain⟨f,r1,r2,r3⟩:=FF;unfold fM at Ed;unfold gG at wO;simp only[oO,List.getElem?_cons_zero,List.getElem?_cons_succ,Nat.add_zero]at c0 c1 c2 c3 c4 c5 c6 c7 c8 c9 Ed wO;go_wp2_with (first|(go_at_call 183;rw[<-wO];refine bN Ed.out ?_;rintro w6 ⟨M',R,X⟩;obtain⟨z1,z2,C,z4⟩:=X.mJ R.2;have HZ:=aG (dB R.1 C);clear C X R)|(go_at_call 137;refine bN (xK S 0 _ z4) ?_;rintro w7 hf;have hg:=hf.symm;subst hg));go_roundw;case rel=>exact⟨j+1,M',aj,aP,⟨by rw[Oi.out];exact Aa _ _ N.out.1 HZ.out.1,HZ.out.2⟩⟩
   case measure=>simp[RowKit.intOf];omega
  ·obtain rfl:j=L.length:=aj;go_wp2;go_ret;refine⟨rfl,c,?_,?_⟩;·have:=N.out.1;rw[V.out.1,List.take_of_length_le aP]at this;rw[V.out.1];exact this
   ·obtain⟨o,l1,A,h1,z,a,m,E⟩:=N.out.2;exact⟨o,l1,A,h1,E⟩
end
theorem Y4{B:Nat}{w:World}{u:Value}{gs:List Fr}{v9:Nat->Value}(h:xq B w u gs v9 gs.length)(n:∀j,j<gs.length->lM (gs.getD j iM))(oZ:Own)(s:Nat)(hs:0<s)(t:∀b,B<=b->oZ b=0):∃fa i,∃L:List FV,u=.slice fa L.length i/\L.map j3=gs/\Ab oZ s w fa L:=by
 obtain⟨fa,i,rfl,hF⟩:=h.NR n;have p:(0:Nat)∉T0 s:=fun e=>bV (fG.1 e);obtain⟨L,m⟩:=bZ ((List.range gs.length).map fun j=>(gs.getD j iM,TJ (v9 j),(gs.getD j iM).ranges.length,X4 (v9 j)):List FV);have hl:L.length=gs.length:=by rw[m];simp
 have r:∀j,j<gs.length->L.getD j iq=(gs.getD j iM,TJ (v9 j),(gs.getD j iM).ranges.length,X4 (v9 j)):=fun j d=>by rw[m,eB,mI,List.getElem?_range d];rfl
 have z:L.map j3=gs:=by rw[m,List.map_map];refine List.ext_getElem aP fun j h1 q=>?_;simp[eB,q]
 refine⟨fa,i,L,by rw[hl],z,⟨Ye.qfx hF.weak L hl r,fun x k=>?_,fun j d=>?_⟩⟩;·subst k;have f:(Value.slice (some x) gs.length i).ownBlock=some x.block:=rfl;exact⟨h.buf.lt _ f,by rw[t _ (h.own _ f)];exact p⟩
 ·rw[hl]at d;rw[r j d];obtain⟨b,off,_,h1,q,y⟩:=hF j d;obtain⟨v,l,_⟩:=h.rT j d;refine⟨h1.rT,rfl,fun x k=>⟨y x k,?_⟩⟩;obtain⟨a,c,e,_⟩:=v.shape;have g:TJ (v9 j)=some x:=k;rw[e]at g l;have o:a=some x:=g;rw[o]at l;rw[t _ (l x.block rfl)];exact p
theorem MV(oZ:Own)(s:Nat)(S:Nat)(l:bO)(M:av)(bw bl bi:Nat)(vc:Value)(n:Nat)(fs:List Fr)(yb yo cap:Nat)(lb:List UInt8)(w:World)(h:fP oZ s w S l M bw bl bi vc)(hb:Bd M)(P:M.mJ=0)(hn:n<=dK)(H:oV true n fs lb)(N:fs.map norm=fs)(h4:fs.length<=1000000)(I:dV w (some (aB yb yo)) lb)(y:lb.length<=1000000000)(i:lb.length<=cap)(v:cap<=9223372036854775807)(Q:yb<w.heap.size)(hT:j4 w)(h2:2<=w.heap.size)(V:∀D j,j<fs.length->mW {M with aM:=M.aM.add 8 n n,aT:=M.aT||eO fs} (fs.take j) D->FrC D (fs.getD j iM)/\Bd D/\D.next<=dK):Calls prog 104 #[aI S 0,.slice (some (aB yb yo)) lb.length cap] w fun e w'=>e=.returned .nilIface/\∃M1,M.jc n fs M1 0/\jC s oZ w S bw bl bi M1 w':=by
 have Z:=aG (xK S M.mJ w (by rw[h.cZ.cell];exact h.cells.oU));rw[P]at Z;have O:∀j,j<fs.length->lM (fs.getD j iM):=fun j hj=>by unfold oV at H;rw[bK rfl]at H;exact(H.2.1 j hj).2
 have F:Hid (Calls prog 69 #[.slice (some (aB yb yo)) lb.length cap] w fun e w1=>∃fa p,∃L:List FV,e=.returned (.tuple #[.agg #[uZ n,.slice fa L.length p],.nilIface])/\Hid (L.map j3=fs/\∃m,fP m s w1 S l M bw bl bi vc/\Ab m s w1 fa L/\Kp [] oZ m w w1)):=by refine(oH true n fs yb yo cap lb w H I y i v Q hT h2).mono ?_;rintro e w1 ⟨sv,err,rfl,hR,g⟩;unfold oG at hR;rw[bK rfl]at hR;obtain⟨rfl,v9,hc⟩:=hR;rw[N]at hc;have K:Kp [] oZ (loc oZ w.heap.size) w w1:=⟨g.os,g.tape,g.output,g.size,fun x hx _=>g.block x hx,fun x hx=>jv _ _ _ hx⟩;obtain⟨fa,p,L,rfl,u,hH⟩:=Y4 hc O (loc oZ w.heap.size) s h.s0 (fun b hb=>iX _ _ _ aj);exact⟨fa,p,L,rfl,u,_,h.kp K aP,hH,K⟩
 have W:=aG (dB hb (dB P V));clear h hb P H I y i v Q hT h2 V O N;generalize lb.length=ll at *
 go_enter func104,ntmps104;go_wp2_with (first|(go_at_call 137;refine bN Z.out ?_;rintro w' A;have B:=A.symm;subst B)|(go_at_call 69;refine F.out.mono ?_;rintro e w1 ⟨fa,p,L,rfl,R⟩)|(go_at_call 71;refine bN (Y2 _) ?_;rintro w' A;have B:=A.symm;subst B));obtain⟨k,r⟩:=bZ (w1.alloc (.cells #[uZ n,.slice fa L.length p] 56));have t:aS k w1.heap.size 56 [uZ n,.slice fa L.length p]:=by rw[r];exact aS.new w1 56 _
 have d:bJ w1 k:=by rw[r];exact(mE _ w1).alloc (eT _) _
 have x0:k.cell? (aB w1.heap.size 0)=some (uZ n):=t.cell 0;have T:Hid (∀q,Calls prog 128 #[aI S 225,uZ n] (k.drewN q) fun e c=>e=.returned (.bool (M.aM.has n))/\bJ k c):=fun q=>by obtain⟨u,m,G,g2,U⟩:=R.out;have f:fP m s (k.drewN q) S l M bw bl bi vc:=G.below (qI d);refine bN (X9 (s+41) m S 225 n l 8 M.aM.fl M.aM.rs vc (k.drewN q) f.cZ f.cells.tN f.cells.tQ f.cells.pV f.row W.out.1.cm.so (bV W.out.1.cm.ln)) ?_;rintro c a;exact⟨rfl,t_ a⟩
 have HT:Hid (∀c,bJ k c->M.aM.has n=false->Calls prog 138 #[aI S 0,.agg #[uZ n,.slice fa L.length p]] c fun e w'=>e=.returned .nilIface/\∃M1,M.jc n fs M1 0/\jC s oZ w S bw bl bi M1 w'):=fun c a o=>by
  obtain⟨u,m,G,g2,U⟩:=R.out;obtain⟨hb,P,V⟩:=W.out;have E:bJ w1 c:=d.trans (a.mono d.size);have h5:L.length=fs.length:=by rw[<-u,List.length_map]
  refine(MS m s S l M bw bl bi vc n fa L p c (G.below E) hb hn (g2.kp (Kp.below E)) (by rw[h5];exact h4) P (fun D j hj hr=>?_)).mono ?_
  ·rw[u]at hr;have:=V D j aj hr;have e:(L.getD j iq).1=fs.getD j iM:=by
    rw[<-u,eB,eB,mI,lg hj];rfl
   rw[e];exact this
  ·rintro e w' ⟨rfl,M1,t1,o2,l2,v2,t2,t3⟩;rw[u]at t1;refine⟨rfl,M1,?_,o2,l2,v2,t2,(U.mono aP).trans ((Kp.below E).trans t3)⟩;unfold av.jc;rw[aU (by rw[o];simp)];exact CV fs t1
 have Y:Hid (∀c,bJ k c->M.aM.has n=true->∃M1,M.jc n fs M1 0/\jC s oZ w S bw bl bi M1 c):=fun c a o=>by obtain⟨u,m,G,g2,U⟩:=R.out;have E:bJ w1 c:=d.trans (a.mono d.size);refine⟨M,?_,m,l,vc,G.below E,(U.mono aP).trans (Kp.below E)⟩;unfold av.jc;rw[bK o];exact⟨rfl,rfl⟩
 have h3:=aG t;have J:w1.heap.size<k.heap.size:=t.lt;clear R W t d F Z;rw[<-r];clear r;cases o:M.aM.has n
 ·rw[o]at T;have h0:=aG fun c a=>HT.out c a o;clear HT Y o;go_region_with (go_at_call 128;refine bN (T.out _) ?_;rintro c a;have C:=h3.out.of_heap (a.block _ J);have y0:c.cell? (aB w1.heap.size 0)=some (uZ n):=C.cell 0;have y1:c.cell? (aB w1.heap.size 1)=some (.slice fa L.length p):=C.cell 1;have z:=aG a;clear a C);all_goals(
   go_wp2_with (go_at_call 138;refine bN (h0.out _ z.out) ?_;rintro w4 X;have X:=aG X);go_ret;exact⟨rfl,X.out⟩)
 ·rw[o]at T;have IJ:=aG fun c a=>Y.out c a o;clear HT Y o;go_region_with (go_at_call 128;refine bN (T.out _) ?_;rintro c a;have z:=aG a;clear a);all_goals(
   go_wp2;go_ret;exact⟨rfl,IJ.out _ z.out⟩)
theorem CX(S:Nat)(yb yo cap:Nat)(lb:List UInt8)(w:World)(s:w.cell? (aB S 238)=some (iZ ((0:Nat):Int)))(o:oV false 0 [] lb)(i:dV w (some (aB yb yo)) lb)(c:lb.length<=1000000000)(a:lb.length<=cap)(b:cap<=9223372036854775807)(j:yb<w.heap.size)(p:j4 w)(n:2<=w.heap.size):Calls prog 104 #[aI S 0,.slice (some (aB yb yo)) lb.length cap] w fun e w'=>e=.returned (.iface 57 (iZ 7))/\bJ w w':=by
 have q:=aG (xK S 0 w s);have r:∀w,(binOp .neq 94 (.iface 57 (iZ 7)) .nilIface).run prog w=.ok (.bool true) w:=fun _=>bH;have k:Hid (Calls prog 69 #[.slice (some (aB yb yo)) lb.length cap] w fun e w1=>e=.returned (.tuple #[.agg #[uZ 0,nZ],.iface 57 (iZ 7)])/\bJ w w1):=by refine(oH false 0 [] yb yo cap lb w o i c a b j p n).mono ?_;rintro e w1 ⟨t,err,rfl,l,m⟩;unfold oG at l;rw[aU iO]at l;obtain⟨_,rfl,rfl⟩:=l;exact⟨rfl,m⟩
 clear o i c a b j p n;generalize lb.length=ll at *
 go_enter func104,ntmps104;go_wp2_with (first|(go_at_call 137;refine bN q.out ?_;rintro w' d;have f:=d.symm;subst f)|(go_at_call 69;refine bN k.out ?_;rintro w1 h;have g:=aG h;clear h)|(go_at_call 71;refine bN (Y3 _) ?_;rintro w' d;have f:=d.symm;subst f));go_ret;exact⟨rfl,g.out.alloc g.out.size _⟩
