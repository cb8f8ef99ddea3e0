import Derived.Test.YtphbledmopchnaaGreatDoorVbe
open Prod renaming fst->eB
set_option maxHeartbeats 4000000
set_option maxRecDepth 100000
open Go renaming bodyPost_ret->VH
set_option linter.all false
namespace Go.Proofs.YtphbledmopchnaaGreatDoor.Sd
open Go.RowKit Go.Lib Mm Tryz
variable {S:Nat}{b:List UInt8}{l:bM}{oZ:Own}{rs:bY}{w:World}
theorem qa6{v}(h:fO 170 2 w v rs.length (St.bX rs))(f:∀b,v.ownBlock=some b->b≠S):∃base c,v=.slice base rs.length c/\rs.length<=c/\c<=9223372036854775807/\St.mG w S base c rs/\∀b,base.map (·.block)=some b->v.ownBlock=some b:=by
 rcases h with⟨rfl,d,e⟩|⟨g,cap,cs,rfl,hB,e,h3,h4,h5,h6,h7⟩;.have:=EX.1 d;subst this;exact⟨none,0,rfl,aI _,aj,.inl ⟨rfl,rfl,rfl⟩,fun b a=>by cases a⟩
 .refine⟨_,_,rfl,h3,h4,.inr ⟨g,cs,rfl,f g rfl,hB,aj,?_,h7⟩,fun b a=>by simp at a;rw[<-a];rfl⟩;grind
theorem Xr(t g i)(m:Nat){N}(I:aS w S TS l)(F:l[g]?=some (iZ i))(G:l[g+1]?=some (uZ m))(H:l[g+2]?=some N)(M:pU oZ t w S N rs)(V:rs.length<=1000000):Calls prog 393 #[aK S g] w fun e O=>∃o,e=.returned (.agg #[iZ i,uZ m,o])/\fO 170 2 O o rs.length (St.bX rs)/\nH w.heap.size o/\bJ w O:=by
 have L:=M.rd;obtain⟨base,c,rfl,R,h3,T,U⟩:=M;obtain⟨W,D⟩:=bU (w.alloc (.cells #[iZ 0,uZ 0,nZ] 192));have p:aS W w.heap.size 192 [iZ 0,uZ 0,nZ]:=by grind [aS.new]
 have d:bJ w W:=by rw[D];exact(bP _ w).alloc (aI _) _
 have iD:W.heap.size=w.heap.size+1:=by rw[D];simp
 have f:=I.of_heap (d.block _ I.lt);have X:W.cell? (aA S g)=some (iZ i):=by rw[f.cell];exact F
 have Y:W.cell? (aA S (g+1))=some (uZ m):=by rw[f.cell];exact G
 have Z:W.cell? (aA S (g+2))=some (.slice base rs.length c):=by rw[f.cell];exact H
 have K:Hid (∀q,Calls prog 228 #[.slice base rs.length c] (W.drewN q) fun e y=>∃o:Value,e=.returned o/\(∃a c,o=.slice a rs.length c)/\y.cell? (aA S g)=some (iZ i)/\y.cell? (aA S (g+1))=some (uZ m)/\y.cell? (aA S (g+2))=some (.slice base rs.length c)/\y.cell? (aA w.heap.size 0)=some (iZ 0)/\y.cell? (aA w.heap.size 1)=some (uZ 0)/\y.cell? (aA w.heap.size 2)=some nZ/\(∀j,y.frozen? (aA w.heap.size j)=false)/\Hid (aS y w.heap.size 192 [iZ 0,uZ 0,nZ]/\fO 170 2 y o rs.length (St.bX rs)/\nH (w.heap.size+1) o/\bJ w y)):=fun q=>by refine(Rv _ rs.length (St.bX rs) (W.drewN q) (L.below ⟨d.os,d.tape,d.output,d.size,d.block⟩) V).mono ?_;rintro e y ⟨r,s,rfl,P,Q,C⟩;have x:bJ W y:=⟨C.os,C.tape,C.output,C.size,C.block⟩;have B:=p.of_heap (x.block _ aj);have u:=f.of_heap (x.block _ f.lt);refine⟨_,rfl,⟨r,s,rfl⟩,by rw[u.cell];exact F,by rw[u.cell];exact G,by rw[u.cell];exact H,B.cell 0,B.cell 1,B.cell 2,fun j=>B.frozen j,B,P,fun k J=>by have h1:=Q k J;have R:(W.drewN q).heap.size=W.heap.size:=rfl;omega,d.trans (x.mono aj)⟩
 have x0:W.cell? (aA w.heap.size 0)=some (iZ 0):=p.cell 0;have x1:W.cell? (aA w.heap.size 1)=some (uZ 0):=p.cell 1;have x2:W.cell? (aA w.heap.size 2)=some nZ:=p.cell 2;have xf:=p.frozen;clear I p d f T U F G H L;go_enter func393,ntmps393;go_wp2_with fail;rw[<-D];clear D;go_region_with (go_at_call 228;refine(K.out _).mono ?_;rintro e y ⟨o,rfl,⟨r,s,rfl⟩,j0,j1,j2,y0,y1,y2,yf,A⟩;clear K x0 x1 x2 xf X Y Z);all_goals go_wp2_with fail
 all_goals
  have n:=((A.out.1.setCell 0 (iZ i)).setCell 1 (uZ m)).setCell 2 (.slice r rs.length s);have z:=(((nP.refl w.heap.size y).set 0 (iZ i)).set 1 (uZ m)).set 2 (.slice r rs.length s);generalize ((y.setCell (aA w.heap.size 0) (iZ i)).setCell (aA w.heap.size 1) (uZ m)).setCell (aA w.heap.size 2) (.slice r rs.length s)=E at n z ⊢;have z0:E.cell? (aA w.heap.size 0)=some (iZ i):=n.cell 0;have z1:E.cell? (aA w.heap.size 1)=some (uZ m):=n.cell 1;have z2:E.cell? (aA w.heap.size 2)=some (.slice r rs.length s):=n.cell 2;exact VH (v:=.agg #[iZ i,uZ m,.slice r rs.length s]) (by simp[results,results393,go_sem,z0,z1,z2]) rfl
   ⟨_,rfl,A.out.2.1.of_heap (fun b p=>z.block b (fT (A.out.2.2.1 b p))),fun k J=>fT (A.out.2.2.1 k J),z.below A.out.2.2.2 (aI _)⟩
theorem qgi(s t o m)(g:aS w S TS l)(Z:oZ S=s)(P:s<t)(M:EC oZ t w S l o m)(C:m.aT.rs.length<=1000000):bN 392 #[aK S o] w (.tuple #[]) fun V=>mh s t oZ S o l w m.kY V:=by
 obtain⟨R,Q,U,a,q,v,p⟩:=M;have D:=aG (Xr (t+2) (o+11) 2049 m.aT.fl g a.zT a.Aq a.c13 p C);have E:=aG (dz g (dz a (dz q (dz v p))));clear a q v p g;go_enter func392,ntmps392;go_wp2_with fail;refine D.out.mono ?_;rintro e y ⟨v',rfl,x,z,k⟩;obtain⟨g,a,q,v,p⟩:=E.out;have f:=g.of_heap (k.block _ g.lt);obtain⟨r,u,rfl,_⟩:=x.shape;have W:y.cell? (aA S (o+8))=some (iZ 2049):=by rw[f.cell];exact a.c8
 have X:y.cell? (aA S (o+9))=some (uZ m.eH.fl):=by rw[f.cell];exact a.c9
 have H:y.cell? (aA S (o+10))=some Q:=by rw[f.cell];exact a.wD
 have Y:=fun j=>f.frozen j;have G:Hid (mh s t oZ S o l w m.kY (((y.setCell (aA S (o+8)) (iZ 2049)).setCell (aA S (o+9)) (uZ m.aT.fl)).setCell (aA S (o+10)) (.slice r m.aT.rs.length u))):=by
  have A:=((gZ.one f (o+8) (iZ 2049) o 14 aj aj).trans (gZ.one (f.setCell _ _) (o+9) (uZ m.aT.fl) o 14 aj aj)).trans (gZ.one ((f.setCell _ _).setCell _ _) (o+10) (.slice r m.aT.rs.length u) o 14 aj aj);have N:=g.lt;obtain⟨base,c,I,J,K,F,L⟩:=qa6 (S:=S) x (fun b i=>fT (z b i));have n:Kp [s] oZ (zV oZ (t+1) w.heap.size y.heap.size) w y:=⟨k.os,k.tape,k.output,k.size,fun b i _=>k.block b i,fun b i=>uV _ _ _ _ _ i⟩;have B:zV oZ (t+1) w.heap.size y.heap.size S=s:=by grind [uV]
  have d:=A.kp B (T:=[s]) aR;refine⟨_,_,(n.trans d).mono aR,A.cK,A.iB,R,.slice r m.aT.rs.length u,U,⟨?_,?_,((a.nt.set aj).set aj).set aj,?_,?_,?_,?_,?_,?_,?_,?_⟩,(q.kp n dZ).kp d dZ,?_,(p.kp n dZ).kp d dZ⟩;.rw[ay _ _ _ _ aj,ay _ _ _ _ aj,ay _ _ _ _ aj];exact a.c0
  .rw[ay _ _ _ _ aj,ay _ _ _ _ aj,ay _ _ _ _ aj];exact a.c1
  .rw[ay _ _ _ _ aj,ay _ _ _ _ aj,ay _ _ _ _ aj];exact a.c6
  .rw[ay _ _ _ _ aj,ay _ _ _ _ aj,ay _ _ _ _ aj];exact a.c7
  .rw[ay _ _ _ _ aj,ay _ _ _ _ aj];exact cZ _ _ _ _ a.c8
  .rw[ay _ _ _ _ aj];exact cZ _ _ _ _ (by rw[ay _ _ _ _ aj];exact a.c9)
  .exact cZ _ _ _ _ (by rw[ay _ _ _ _ aj,ay _ _ _ _ aj];exact a.wD)
  .rw[ay _ _ _ _ aj,ay _ _ _ _ aj,ay _ _ _ _ aj];exact a.zT
  .rw[ay _ _ _ _ aj,ay _ _ _ _ aj,ay _ _ _ _ aj];exact a.Aq
  .rw[ay _ _ _ _ aj,ay _ _ _ _ aj,ay _ _ _ _ aj];exact a.c13
  .have O:pU (zV oZ (t+1) w.heap.size y.heap.size) (t+1) y S (.slice r m.aT.rs.length u) m.aT.rs:=⟨base,c,I,J,K,F,fun b i=>zW _ _ _ _ _ (z b (L b i)) (St.rz F b i).2⟩;exact O.kp d dZ
 clear g a q v p f x z k E D;go_wp2;go_end0;exact⟨rfl,G.out⟩
def UY(w k)(f:k<8)(a)(g:a<=2048):I_ w (qH k a) none 0:=by
 have c:(0:Nat)<=dH:=kX;have b:a<=dH:=by unfold dH;omega
 refine Ab w _ ?_ rfl (by show(0:Nat)<=4096;decide) ?_;.simp[snd,rY,oI,qH,b,c];refine⟨aj,decide_eq_true ?_⟩;show 0+a<=dH;omega
 .have b:=nK k;have d:=nK a;have e:=nK (⟨#[]⟩:ByteArray).size;simp[bf,dV,qH,fK,fu,fieldAt];omega
theorem G8(m:Ot)(a)(h:m.aL a=true):(m.dF a).1<=min (m.dF a).2 m.aB.length/\(m.dF a).2<=m.aB.length+1:=by
 have i:=of_decide_eq_true h;have d:∀(c:bY) (b e:Nat),(iN b c e).2<=e:=by
  intro c;induction c with
  |nil=>intro b e;exact aI _
  |cons r t j=>
   intro b e;unfold iN;split;.grind
   .grind
 have f:(m.dF a).2<=m.aB.length+1:=by
  have g:m.reach a<=m.aB.length:=by unfold Ot.reach;omega
  refine dx (d _ _ _) ?_;grind
 omega
theorem OJ(m:Ot)(a)(h:m.aL a=true)(i:min (m.dF a).2 m.aB.length=(m.dF a).1):m.iH (m.dF a).1=true:=by
 have j:=of_decide_eq_true h;have d:∀(c:bY) (b e:Nat),(iN b c e).2<=e:=by
  intro c;induction c with
  |nil=>intro b e;exact aI _
  |cons r t k=>
   intro b e;unfold iN;split;.grind
   .grind
 have f:(m.dF a).2<=if m.iH (m.reach a)then m.reach a+1 else m.reach a:=d _ _ _;have g:m.reach a<=m.aB.length:=by unfold Ot.reach;omega
 grind
theorem GT.part{t a c}(h:GT oZ t 5 1 w (.slice a b.length c) b.length (cO b))(d f)(q:d<f)(r:f<=b.length):∃g,a=some (aA g 0)/\g<w.heap.size/\dX w (some (aA g d)) ((b.take f).drop d):=by
 have k:0<b.length:=aj;have n:(cO b)[0]?=some (.int .u8 ((b[0]).toNat:Int)):=by simp[cO,k]
 obtain⟨g,l,_,o,_⟩:=h.cell 0 _ n;refine⟨g,l,o,fun j s=>⟨g,d,rfl,?_⟩⟩;have i:d+j<b.length:=by grind
 obtain⟨p,m,_,_,e,_⟩:=h.cell (d+j) (.int .u8 ((b[d+j]).toNat:Int)) (by simp[cO,i]);grind
theorem Dh{f a g}(h:pK f b a=some g):g.data.size<=b.length/\g={f with data:=g.data}:=by
 unfold pK at h;split at h;.cases h
 .simp only[tK]at h;rw[<-h];refine⟨?_,rfl⟩;show(b.take _).toArray.size<=_;grind
theorem Ke(s:ByteArray):s.toList.isEmpty=decide (s.size=0):=by rw[QM,YA,List.isEmpty_iff_length_eq_zero,decide_eq_true_iff];exact Iff.rfl
def UZ(m:Ot)(k b a):m.next k b a=(match pK (qH k (m.dF a).1) ((m.aB.take (min (m.dF a).2 m.aB.length)).drop (m.dF a).1) b with
  |none=>none
  |some f=>if(m.dF a).1<min (m.dF a).2 m.aB.length/\f.data.size=0 then none else some ({f with bL:=m.iH (bI f)},({m with dI:=max m.dI (bI f)}:Ot).aw {f with bL:=m.iH (bI f)})):=rfl
theorem qgk(s t o m)(k:Nat)(h8:k<8)(au aU w)(hB:aS w S TS l)(hS:oZ S=s)(wb:0<s)(y5:s<t)(hO:EC oZ t w S l o m)(hl:m.aB.length<=2048)(hs:m.dI+aU<18446744073709551616)(yy:Bh m.eH)(hw:m.aL aU=true)(xw: -1000000<=au/\au<=1000000):bN 267 #[aK S o,iZ k,iZ au,uZ aU] w (lX ((m.next k au aU).map eB)) fun L=>mh s t oZ S o l w (((m.next k au aU).map Prod.snd).getD m) L:=by
 obtain⟨W,hW⟩:=bU (w.alloc (.cells (nO).toArray 65));have hb:aS W w.heap.size 65 nO:=by grind [aS.new]
 have D:bJ w W:=by rw[hW];exact(bP _ w).alloc (aI _) _
 have iD:W.heap.size=w.heap.size+1:=by rw[hW];simp
 have ym:=hB.of_heap (D.block _ hB.lt);have yp:=hO.kp (Kp.below (T:=[]) D) aR aR aR (ni.refl l (o+14) 0) aj;have y3:=aG (FQ aU ym yp hl hs yy);obtain⟨yk,zt⟩:=G8 m aU hw;obtain⟨a,c,va,vc,k1,hc,k2,k3,k4,d0,d1,d2,d6,d7⟩:=hO.open hB;have Ch:=aG (UZ m k au aU);have vY:=aG (OJ m aU hw);generalize m.next k au aU=X at *
 generalize (m.dF aU).1=r at *
 generalize (m.dF aU).2=ys at *
 obtain⟨hi,yr⟩:=bU (min ys m.aB.length);rw[<-yr]at Ch yk vY;obtain⟨K,wa,zv⟩:=min2 ys m.aB.length;obtain rfl:K=hi:=aj;have zc:K<=m.aB.length:=aj;have hf:((m.aB.take K).drop r).length=K-r:=dZ;have y7:=yy;have y2:=aG (fun y (hy:bJ w y)=>qO S o m.aB.length c a y hl ((hy.cell (p:=(aA S o)) hB.lt).trans d0));have G5:=hB.lt;have g1:(r:Int)<=(K:Int):=aj;have g2:(K:Int)<=(c:Int):=aj;have HB:=aG (dz hb (dz D (dz hB hO)));have Ey:=aG (dz yk (dz zc hl));clear zv yr yk zt hb D ym yp k1 k3 k4 hw;unfold nO at hW;by_cases he:K=r
 .have y6:(m.aB.take K).drop r=[]:=EX.1 (by grind);rw[y6]at Ch;have M:=aG (fun y (_:bJ w y)=>N7 (qH k r) a [] 0 au y (UY y k h8 r aj) rfl (fun j hj=>by simp at hj) (fun _=>rfl) aR aR xw);generalize xe:pK (qH k r) [] au=F0 at *
  unfold qH eX at M;clear y6 hf k2;go_enter func267,ntmps267;go_wp2_with fail;rw[<-hW];refine bK y3.out ?_;rintro y I;obtain⟨hb,D,hB,hO⟩:=HB.out;have O:=D.trans (I.mono aj);have Ur:=aG (y2.out y O);have Sj:=aG (M.out y O);have e0:=(O.cell (p:=(aA S o)) G5).trans d0;have HY:=aG (dz (hb.of_heap (I.block _ aj)) O);have zs:=I.size;clear I hb D hB hO O y2 M y3 d0 d1 d2 d6 d7 hW;go_wp2_with fail;refine bK Ur.out ?_;rintro z rfl;go_wp2_with fail;refine bK Sj.out ?_;rintro u H;obtain⟨xp,h7⟩:=HY.out;have Sk:=xp.of_heap (H.block _ aj);have xx:=h7.trans (H.mono h7.size);have zp:=H.size;obtain⟨r0,r1,r2,r3,r4,r5,r6,r7,r8,r9,rf⟩:=bF Sk;have HU:=aG (dz Sk xx);clear H xp h7 Sk xx Sj Ur HY e0;have yf:w.heap.size<u.heap.size:=aj;have yi:¬(w.heap.size=u.heap.size):=aj;cases F0 with
  |none=>
   have HX:Hid (X=none):=Ch.out;clear Ch;unfold lX eX;go_wp2_with fail;rw[gX];have kW:=gD HU.out.1 (iZ 0) (iZ 0) (uZ 0) (uZ 0) (uZ 0) (.bool false) (uZ 0) (uZ 0) (.string ⟨#[]⟩) nZ;have qm:=gF u w.heap.size (iZ 0) (iZ 0) (uZ 0) (uZ 0) (uZ 0) (.bool false) (uZ 0) (uZ 0) (.string ⟨#[]⟩) nZ;generalize kC u w.heap.size (iZ 0) (iZ 0) (uZ 0) (uZ 0) (uZ 0) (.bool false) (uZ 0) (uZ 0) (.string ⟨#[]⟩) nZ=Wf at *
   have N:=qm.below HU.out.2 (aI _);generalize i:Wf.alloc (.cells #[iZ jv.aD,iZ jv.aF,uZ jv.aC,uZ jv.aO,uZ jv.aN,.bool jv.bL,uZ jv.id,uZ jv.aJ,.string jv.data,nZ] 65)=Z;have hv:aS Z w.heap.size 65 nO:=by rw[<-i];exact kW.alloc _
   have y4:bJ w Z:=by rw[<-i];exact N.alloc N.size _
   obtain⟨a0,a1,a2,a3,a4,a5,a6,a7,a8,a9,_⟩:=bF hv;refine VH (v:=lX (X.map eB)) (by rw[HX.out];simp[results,Fa,go_sem,a0,a1,a2,a3,a4,a5,a6,a7,a8,a9,eX,lX,jv]) rfl ⟨rfl,?_⟩;rw[HX.out];exact mh.refl HB.out.2.2.1 HB.out.2.2.2 y4
  |some f=>
   have w7:¬(r<K):=aj;obtain⟨d,A⟩:∃d:Fr,d={f with bL:=m.iH (bI f)}:=⟨_,rfl⟩;have HX:Hid (X=some (d,({m with dI:=max m.dI (bI f)}:Ot).aw d)):=by unfold Hid;rw[Ch.out,A];grind
   clear Ch;obtain⟨xv,xt⟩:=Dh xe;simp only[vD]at xv;have ye:f.aC=r:=by rw[xt];rfl
   have yz:bI f<=K:=by unfold bI;omega
   have yn:bI f=r:=by unfold bI;omega
   have xd:bI d=bI f:=by rw[A];rfl
   have h9:d.bL=m.iH (bI f):=by rw[A]
   have y9:=Ey.out;have hx:vV d:=⟨by grind,by grind,.inl (by rw[h9,yn];exact vY.out he)⟩;have xr:f_ d nZ=[iZ f.aD,iZ f.aF,uZ f.aC,uZ f.aO,uZ f.aN,.bool (m.iH (bI f)),uZ f.id,uZ f.aJ,.string f.data,nZ]:=by rw[A]
   obtain⟨U,hU⟩:=bU (u.alloc (.cells (f_ f nZ).toArray 65));have h0:aS U u.heap.size 65 (f_ f nZ):=by grind [aS.new]
   have xm:bJ u U:=by rw[hU];exact(bP _ u).alloc (aI _) _
   have zd:U.heap.size=u.heap.size+1:=by rw[hU];simp
   have ho:=aG (nG f nZ U (by unfold dH;omega) aj);obtain⟨x0,x1,x2,x3,x4,x5,x6,x7,x8,x9,xf⟩:=bF h0;have R:=aG (dz h0 (dz xm hx));have hr:=aG xr;have hk:=aG (dz xd h9);clear h0 xm hx xr xd h9 A xt xe xv y9 ye yn;unfold lX eX;unfold f_ at hU;go_wp2_with fail;rw[<-hU];clear hU;refine bK ho.out ?_;rintro y1 xJ;generalize zb:bI f=E at *
   have h6:=HU.out.2.trans (R.out.2.1.mono HU.out.2.size);have Ms:=h6.trans (xJ.mono h6.size);have n:=HB.out.2.2.1.of_heap (Ms.block _ G5);have FC:=HB.out.2.2.2.kp (Kp.below (T:=[]) Ms) aR aR aR (ni.refl l (o+14) 0) aj;obtain⟨a1,c1,zz,w4,_,_,_,_,_,p0,p1,p2,p6,p7⟩:=FC.open n;have CU:=aG (CS S o m.aB.length c1 E a1 m.bL m.nt.bG y1 Ey.out.2.2 p0 p1 p2);have Di:=R.out.1.of_heap (xJ.block _ aj);obtain⟨z0,z1,z2,z3,z4,z5,z6,z7,z8,z9,zf⟩:=bF Di;have Ac:=HU.out.1.of_heap ((R.out.2.1.block _ yf)) |>.of_heap (xJ.block _ aj);have hu:=aG (dz Di (dz Ac (dz Ms (dz n FC))));have zw:=xJ.size;clear xJ h6 Ms n FC Di Ac p0 p1 p2 p6 p7 x0 x1 x2 x3 x4 x5 x6 x7 x8 x9 xf r0 r1 r2 r3 r4 r5 r6 r7 r8 r9 rf ho;go_wp2_with fail;refine bK CU.out ?_;rintro y rfl;obtain⟨Di,Ac,O,n,FC⟩:=hu.out;obtain⟨Y,hY⟩:=bU (y.setCell (aA u.heap.size 5) (.bool (m.bL&& !m.nt.bG&&decide (E=m.aB.length))));have C:nP u.heap.size y Y:=by rw[hY];exact(nP.refl _ _).set 5 _
   have Mt:aS Y u.heap.size 65 (f_ d nZ):=by rw[hr.out,hY,show m.iH E=(m.bL&& !m.nt.bG&&decide (E=m.aB.length))from rfl];exact Di.setCell 5 _
   have Sn:=Ac.of_heap (C.block _ yi);have J:=C.below O aj;have F:=n.of_heap (C.block _ aj);have xj:=HB.out.2.2.2.kp (Kp.below (T:=[]) J) aR aR aR (ni.refl l (o+14) 0) aj;have zg:=C.size;obtain⟨a2,c2,w3,w5,q1,_,q3,q4,q5,p0,p1,p2,p6,p7⟩:=xj.open F;obtain⟨P,zk,xz⟩:=max2 m.dI E;have Q:Hid (∀q,bN 318 #[eX d nZ] (Y.drewN q) (uZ E) fun v=>v.cell? (aA S (o+7))=some (uZ m.dI)/\v.frozen? (aA S (o+7))=false/\Hid (aS (v.setCell (aA S (o+7)) (uZ P)) u.heap.size 65 (f_ d nZ)/\bN 319 #[aK S o,eX d nZ] (v.setCell (aA S (o+7)) (uZ P)) (.tuple #[]) fun L=>aS L u.heap.size 65 (f_ d nZ)/\aS L w.heap.size 65 nO/\∀Z,nP w.heap.size L Z->mh s t oZ S o l w (({m with dI:=max m.dI E}:Ot).aw d) Z)):=fun q=>by
    have xa:=nG d nZ (Y.drewN q) R.out.2.2.om R.out.2.2.d;rw[hk.out.1]at xa;refine bK xa ?_;rintro v G9;have x:bJ Y v:=⟨G9.os,G9.tape,G9.output,G9.size,G9.block⟩;have xy:=J.trans (x.mono J.size);have G:=F.of_heap (x.block _ F.lt);have y0:=Mt.of_heap (x.block _ Mt.lt);have Sq:=Sn.of_heap (x.block _ Sn.lt);have zr:=x.size;refine⟨rfl,by rw[G.cell];exact q1.c7,G.frozen _,?_⟩;obtain⟨ow,B⟩:=bU (loc oZ w.heap.size);have xl:ow S=s:=by rw[B,jW _ _ _ G5,hS]
    have yd:EC ow t w S l o m:=by obtain⟨vb,va,vc,k1,k2,k3,k4⟩:=HB.out.2.2.2;rw[B];exact⟨vb,va,vc,k1,k2.loc,k3.loc,k4.loc⟩
    have ya:=yd.kp (Kp.below (T:=[]) xy) aR aR aR (ni.refl l (o+14) 0) aj;obtain⟨fP,l1,h1,h2,h3,h4⟩:=EF G xl y5 ya (o+7) (uZ P) aj aj (m':={m with dI:=P}) (fun _ _ _ h=>Ob h P) rfl rfl rfl;have hz:∀b,w.heap.size<=b->ow b∉[s,t,t+1,t+2]:=fun b hb=>by rw[B,jF _ _ _ hb];simp;omega
    have Xt:=bW y0 h1 (hz _ aj);have zy:=bW Sq h1 (hz _ (aI _));refine⟨Xt,?_⟩;rw[<-xz];refine(ED s t o {m with dI:=P} d nZ (v.setCell (aA S (o+7)) (uZ P)) h2 (by rw[h1.ext _ G.lt,xl]) y5 h4 y7 R.out.2.2).mono ?_;rintro e L ⟨rfl,iA,l2,g1,g2,g3,g4⟩;have hK:=h1.trans ⟨g1.os,g1.tape,g1.output,g1.size,g1.cK,g1.ext⟩;have xi:=(Kp.below xy).trans hK;refine⟨rfl,bW y0 hK (hz _ aj),bW Sq hK (hz _ (aI _)),fun Z i=>?_⟩;have zn:iA w.heap.size=0:=by rw[hK.ext _ Sq.lt,B,jF _ _ _ (aI _)]
    have y8:Kp [0] iA iA L Z:=⟨i.os,i.tape,i.output,by rw[i.size];grind,fun b _ hn=>i.block b (fun e=>hn (by grind)),fun _ _=>rfl⟩;rw[B]at xi;exact⟨iA,l2,i.kp xi.lI (aI _),g2.of_heap (i.block _ aj),h3.trans g3,g4.kp y8 dZ aR aR (ni.refl l2 (o+14) 0) aj⟩
   have b7:=p7;have n1:¬(S=u.heap.size):=aj;have n2:¬(u.heap.size=S):=aj;obtain⟨x0,x1,x2,x3,x4,x5,x6,x7,x8,x9,xf⟩:=bF Mt;clear Di Ac O n FC C Mt Sn J F xj q1 q3 q4 q5 p0 p1 p2 p6 p7 CU hu hr hk R xz;unfold eX at Q;go_wp2_with fail;rw[<-hY];clear hY z0 z1 z2 z3 z4 z5 z6 z7 z8 z9 zf;go_region_with (go_at_call 318;refine bK (Q.out _) ?_;rintro v ⟨v1,v2,HV⟩;clear Q x0 x1 x2 x3 x4 x5 x6 x7 x8 x9 xf b7);all_goals
    obtain⟨xn,hC⟩:=HV.out;generalize v.setCell (aA S (o+7)) (uZ P)=V at *
    obtain⟨x0,x1,x2,x3,x4,x5,x6,x7,x8,x9,xf⟩:=bF xn;have HC:=aG hC;clear hC xn HV v1 v2;go_wp2_with fail;refine bK HC.out ?_;rintro L ⟨xo,h5,i⟩;clear x0 x1 x2 x3 x4 x5 x6 x7 x8 x9 xf;obtain⟨x0,x1,x2,x3,x4,x5,x6,x7,x8,x9,xf⟩:=bF xo;obtain⟨r0,r1,r2,r3,r4,r5,r6,r7,r8,r9,rf⟩:=bF h5;have HZ:=aG (dz h5 i);clear xo h5 i HC;go_wp2_with fail;rw[gX];have kW:=gD HZ.out.1 (iZ d.aD) (iZ d.aF) (uZ d.aC) (uZ d.aO) (uZ d.aN) (.bool d.bL) (uZ d.id) (uZ d.aJ) (.string d.data) nZ;have qm:=HZ.out.2 _ (gF L w.heap.size (iZ d.aD) (iZ d.aF) (uZ d.aC) (uZ d.aO) (uZ d.aN) (.bool d.bL) (uZ d.id) (uZ d.aJ) (.string d.data) nZ);generalize kC L w.heap.size (iZ d.aD) (iZ d.aF) (uZ d.aC) (uZ d.aO) (uZ d.aN) (.bool d.bL) (uZ d.id) (uZ d.aJ) (.string d.data) nZ=Wf at *
    obtain⟨a0,a1,a2,a3,a4,a5,a6,a7,a8,a9,_⟩:=bF kW;refine VH (v:=lX (X.map eB)) (by rw[HX.out];simp[results,Fa,go_sem,a0,a1,a2,a3,a4,a5,a6,a7,a8,a9,eX,lX]) rfl ⟨rfl,?_⟩;rw[HX.out];exact qm
 .obtain⟨g,ha,hg,yq⟩:=k2.part r K (by grind) Ey.out.2.1;have M:=aG (fun y (hy:bJ w y)=>N7 (qH k r) (some (aA g r)) ((m.aB.take K).drop r) (K-r) au y (UY y k h8 r (by grind)) rfl (dX.below' yq hy) (fun e=>by cases e) (by grind) aj xw);rw[hf]at M;generalize xe:pK (qH k r) ((m.aB.take K).drop r) au=F0 at *
  unfold qH eX at M;clear yq hf k2;subst ha;go_enter func267,ntmps267;go_wp2_with fail;rw[<-hW];refine bK y3.out ?_;rintro y I;obtain⟨hb,D,hB,hO⟩:=HB.out;have O:=D.trans (I.mono aj);have Ur:=aG (y2.out y O);have Sj:=aG (M.out y O);have e0:=(O.cell (p:=(aA S o)) G5).trans d0;have HY:=aG (dz (hb.of_heap (I.block _ aj)) O);have zs:=I.size;clear I hb D hB hO O y2 M y3 d0 d1 d2 d6 d7 hW;go_wp2_with fail;refine bK Ur.out ?_;rintro z rfl;go_wp2_with fail;refine bK Sj.out ?_;rintro u H;obtain⟨xp,h7⟩:=HY.out;have Sk:=xp.of_heap (H.block _ aj);have xx:=h7.trans (H.mono h7.size);have zp:=H.size;obtain⟨r0,r1,r2,r3,r4,r5,r6,r7,r8,r9,rf⟩:=bF Sk;have HU:=aG (dz Sk xx);clear H xp h7 Sk xx Sj Ur HY e0;have yf:w.heap.size<u.heap.size:=aj;have yi:¬(w.heap.size=u.heap.size):=aj;cases F0 with
  |none=>
   have HX:Hid (X=none):=Ch.out;clear Ch;unfold lX eX;go_wp2_with fail;rw[gX];have kW:=gD HU.out.1 (iZ 0) (iZ 0) (uZ 0) (uZ 0) (uZ 0) (.bool false) (uZ 0) (uZ 0) (.string ⟨#[]⟩) nZ;have qm:=gF u w.heap.size (iZ 0) (iZ 0) (uZ 0) (uZ 0) (uZ 0) (.bool false) (uZ 0) (uZ 0) (.string ⟨#[]⟩) nZ;generalize kC u w.heap.size (iZ 0) (iZ 0) (uZ 0) (uZ 0) (uZ 0) (.bool false) (uZ 0) (uZ 0) (.string ⟨#[]⟩) nZ=Wf at *
   have N:=qm.below HU.out.2 (aI _);generalize i:Wf.alloc (.cells #[iZ jv.aD,iZ jv.aF,uZ jv.aC,uZ jv.aO,uZ jv.aN,.bool jv.bL,uZ jv.id,uZ jv.aJ,.string jv.data,nZ] 65)=Z;have hv:aS Z w.heap.size 65 nO:=by rw[<-i];exact kW.alloc _
   have y4:bJ w Z:=by rw[<-i];exact N.alloc N.size _
   obtain⟨a0,a1,a2,a3,a4,a5,a6,a7,a8,a9,_⟩:=bF hv;refine VH (v:=lX (X.map eB)) (by rw[HX.out];simp[results,Fa,go_sem,a0,a1,a2,a3,a4,a5,a6,a7,a8,a9,eX,lX,jv]) rfl ⟨rfl,?_⟩;rw[HX.out];exact mh.refl HB.out.2.2.1 HB.out.2.2.2 y4
  |some f=>
   by_cases hd:f.data.size=0
   .have HX:Hid (X=none):=by
     unfold Hid;rw[Ch.out];grind
    have yv:r<K:=by grind
    have zj:f.data.toList.isEmpty=true:=by grind [Ke,decide_eq_true]
    clear Ch;unfold lX eX;go_wp2_with fail;rw[gX];have kW:=gD HU.out.1 (iZ 0) (iZ 0) (uZ 0) (uZ 0) (uZ 0) (.bool false) (uZ 0) (uZ 0) (.string ⟨#[]⟩) nZ;have qm:=gF u w.heap.size (iZ 0) (iZ 0) (uZ 0) (uZ 0) (uZ 0) (.bool false) (uZ 0) (uZ 0) (.string ⟨#[]⟩) nZ;generalize kC u w.heap.size (iZ 0) (iZ 0) (uZ 0) (uZ 0) (uZ 0) (.bool false) (uZ 0) (uZ 0) (.string ⟨#[]⟩) nZ=Wf at *
    have N:=qm.below HU.out.2 (aI _);generalize i:Wf.alloc (.cells #[iZ f.aD,iZ f.aF,uZ f.aC,uZ f.aO,uZ f.aN,.bool f.bL,uZ f.id,uZ f.aJ,.string f.data,nZ] 65)=Z;have hv:aS Z w.heap.size 65 nO:=by rw[<-i];exact kW.alloc _
    have y4:bJ w Z:=by rw[<-i];exact N.alloc N.size _
    obtain⟨a0,a1,a2,a3,a4,a5,a6,a7,a8,a9,_⟩:=bF hv;refine VH (v:=lX (X.map eB)) (by rw[HX.out];simp[results,Fa,go_sem,a0,a1,a2,a3,a4,a5,a6,a7,a8,a9,eX,lX,jv]) rfl ⟨rfl,?_⟩;rw[HX.out];grind [mh.refl]
   .have zj:f.data.toList.isEmpty=false:=by grind [Ke,decide_eq_false]
    have yv:r<K:=by grind
    obtain⟨d,A⟩:∃d:Fr,d={f with bL:=m.iH (bI f)}:=⟨_,rfl⟩;have HX:Hid (X=some (d,({m with dI:=max m.dI (bI f)}:Ot).aw d)):=by unfold Hid;rw[Ch.out,A];grind
    clear Ch;obtain⟨xv,xt⟩:=Dh xe;have hf:((m.aB.take K).drop r).length=K-r:=by grind
    rw[hf]at xv;have ye:f.aC=r:=by rw[xt];rfl
    have yz:bI f<=K:=by unfold bI;omega
    have w8:0<bI f:=by unfold bI;omega
    have xd:bI d=bI f:=by rw[A];rfl
    have h9:d.bL=m.iH (bI f):=by rw[A]
    have y9:=Ey.out;have hx:vV d:=⟨by grind,by grind,.inr (by grind)⟩;have xr:f_ d nZ=[iZ f.aD,iZ f.aF,uZ f.aC,uZ f.aO,uZ f.aN,.bool (m.iH (bI f)),uZ f.id,uZ f.aJ,.string f.data,nZ]:=by rw[A]
    obtain⟨U,hU⟩:=bU (u.alloc (.cells (f_ f nZ).toArray 65));have h0:aS U u.heap.size 65 (f_ f nZ):=by grind [aS.new]
    have xm:bJ u U:=by rw[hU];exact(bP _ u).alloc (aI _) _
    have zd:U.heap.size=u.heap.size+1:=by rw[hU];simp
    have ho:=aG (nG f nZ U (by unfold dH;omega) aj);obtain⟨x0,x1,x2,x3,x4,x5,x6,x7,x8,x9,xf⟩:=bF h0;have R:=aG (dz h0 (dz xm hx));have hr:=aG xr;have hk:=aG (dz xd h9);clear h0 xm hx xr xd h9 A xt xe xv y9 ye hf;unfold lX eX;unfold f_ at hU;go_wp2_with fail;rw[<-hU];clear hU;refine bK ho.out ?_;rintro y1 xJ;generalize zb:bI f=E at *
    have h6:=HU.out.2.trans (R.out.2.1.mono HU.out.2.size);have Ms:=h6.trans (xJ.mono h6.size);have n:=HB.out.2.2.1.of_heap (Ms.block _ G5);have FC:=HB.out.2.2.2.kp (Kp.below (T:=[]) Ms) aR aR aR (ni.refl l (o+14) 0) aj;obtain⟨a1,c1,zz,w4,_,_,_,_,_,p0,p1,p2,p6,p7⟩:=FC.open n;have CU:=aG (CS S o m.aB.length c1 E a1 m.bL m.nt.bG y1 Ey.out.2.2 p0 p1 p2);have Di:=R.out.1.of_heap (xJ.block _ aj);obtain⟨z0,z1,z2,z3,z4,z5,z6,z7,z8,z9,zf⟩:=bF Di;have Ac:=HU.out.1.of_heap ((R.out.2.1.block _ yf)) |>.of_heap (xJ.block _ aj);have hu:=aG (dz Di (dz Ac (dz Ms (dz n FC))));have zw:=xJ.size;clear xJ h6 Ms n FC Di Ac p0 p1 p2 p6 p7 x0 x1 x2 x3 x4 x5 x6 x7 x8 x9 xf r0 r1 r2 r3 r4 r5 r6 r7 r8 r9 rf ho;go_wp2_with fail;refine bK CU.out ?_;rintro y rfl;obtain⟨Di,Ac,O,n,FC⟩:=hu.out;obtain⟨Y,hY⟩:=bU (y.setCell (aA u.heap.size 5) (.bool (m.bL&& !m.nt.bG&&decide (E=m.aB.length))));have C:nP u.heap.size y Y:=by rw[hY];exact(nP.refl _ _).set 5 _
    have Mt:aS Y u.heap.size 65 (f_ d nZ):=by rw[hr.out,hY,show m.iH E=(m.bL&& !m.nt.bG&&decide (E=m.aB.length))from rfl];exact Di.setCell 5 _
    have Sn:=Ac.of_heap (C.block _ yi);have J:=C.below O aj;have F:=n.of_heap (C.block _ aj);have xj:=HB.out.2.2.2.kp (Kp.below (T:=[]) J) aR aR aR (ni.refl l (o+14) 0) aj;have zg:=C.size;obtain⟨a2,c2,w3,w5,q1,_,q3,q4,q5,p0,p1,p2,p6,p7⟩:=xj.open F;obtain⟨P,zk,xz⟩:=max2 m.dI E;have Q:Hid (∀q,bN 318 #[eX d nZ] (Y.drewN q) (uZ E) fun v=>v.cell? (aA S (o+7))=some (uZ m.dI)/\v.frozen? (aA S (o+7))=false/\Hid (aS (v.setCell (aA S (o+7)) (uZ P)) u.heap.size 65 (f_ d nZ)/\bN 319 #[aK S o,eX d nZ] (v.setCell (aA S (o+7)) (uZ P)) (.tuple #[]) fun L=>aS L u.heap.size 65 (f_ d nZ)/\aS L w.heap.size 65 nO/\∀Z,nP w.heap.size L Z->mh s t oZ S o l w (({m with dI:=max m.dI E}:Ot).aw d) Z)):=fun q=>by
     have xa:=nG d nZ (Y.drewN q) R.out.2.2.om R.out.2.2.d;rw[hk.out.1]at xa;refine bK xa ?_;rintro v G9;have x:bJ Y v:=⟨G9.os,G9.tape,G9.output,G9.size,G9.block⟩;have xy:=J.trans (x.mono J.size);have G:=F.of_heap (x.block _ F.lt);have y0:=Mt.of_heap (x.block _ Mt.lt);have Sq:=Sn.of_heap (x.block _ Sn.lt);have zr:=x.size;refine⟨rfl,by rw[G.cell];exact q1.c7,G.frozen _,?_⟩;obtain⟨ow,B⟩:=bU (loc oZ w.heap.size);have xl:ow S=s:=by rw[B,jW _ _ _ G5,hS]
     have yd:EC ow t w S l o m:=by obtain⟨vb,va,vc,k1,k2,k3,k4⟩:=HB.out.2.2.2;rw[B];exact⟨vb,va,vc,k1,k2.loc,k3.loc,k4.loc⟩
     have ya:=yd.kp (Kp.below (T:=[]) xy) aR aR aR (ni.refl l (o+14) 0) aj;obtain⟨fP,l1,h1,h2,h3,h4⟩:=EF G xl y5 ya (o+7) (uZ P) aj aj (m':={m with dI:=P}) (fun _ _ _ h=>Ob h P) rfl rfl rfl;have hz:∀b,w.heap.size<=b->ow b∉[s,t,t+1,t+2]:=fun b hb=>by rw[B,jF _ _ _ hb];simp;omega
     have Xt:=bW y0 h1 (hz _ aj);have zy:=bW Sq h1 (hz _ (aI _));refine⟨Xt,?_⟩;rw[<-xz];refine(ED s t o {m with dI:=P} d nZ (v.setCell (aA S (o+7)) (uZ P)) h2 (by rw[h1.ext _ G.lt,xl]) y5 h4 y7 R.out.2.2).mono ?_;rintro e L ⟨rfl,iA,l2,g1,g2,g3,g4⟩;have hK:=h1.trans ⟨g1.os,g1.tape,g1.output,g1.size,g1.cK,g1.ext⟩;have xi:=(Kp.below xy).trans hK;refine⟨rfl,bW y0 hK (hz _ aj),bW Sq hK (hz _ (aI _)),fun Z i=>?_⟩;have zn:iA w.heap.size=0:=by rw[hK.ext _ Sq.lt,B,jF _ _ _ (aI _)]
     have y8:Kp [0] iA iA L Z:=⟨i.os,i.tape,i.output,by rw[i.size];grind,fun b _ hn=>i.block b (fun e=>hn (by grind)),fun _ _=>rfl⟩;rw[B]at xi;exact⟨iA,l2,i.kp xi.lI (aI _),g2.of_heap (i.block _ aj),h3.trans g3,g4.kp y8 dZ aR aR (ni.refl l2 (o+14) 0) aj⟩
    have b7:=p7;have n1:¬(S=u.heap.size):=aj;have n2:¬(u.heap.size=S):=aj;obtain⟨x0,x1,x2,x3,x4,x5,x6,x7,x8,x9,xf⟩:=bF Mt;clear Di Ac O n FC C Mt Sn J F xj q1 q3 q4 q5 p0 p1 p2 p6 p7 CU hu hr hk R xz;unfold eX at Q;go_wp2_with fail;rw[<-hY];clear hY z0 z1 z2 z3 z4 z5 z6 z7 z8 z9 zf;go_region_with (go_at_call 318;refine bK (Q.out _) ?_;rintro v ⟨v1,v2,HV⟩;clear Q x0 x1 x2 x3 x4 x5 x6 x7 x8 x9 xf b7);all_goals
     obtain⟨xn,hC⟩:=HV.out;generalize v.setCell (aA S (o+7)) (uZ P)=V at *
     obtain⟨x0,x1,x2,x3,x4,x5,x6,x7,x8,x9,xf⟩:=bF xn;have HC:=aG hC;clear hC xn HV v1 v2;go_wp2_with fail;refine bK HC.out ?_;rintro L ⟨xo,h5,i⟩;clear x0 x1 x2 x3 x4 x5 x6 x7 x8 x9 xf;obtain⟨x0,x1,x2,x3,x4,x5,x6,x7,x8,x9,xf⟩:=bF xo;obtain⟨r0,r1,r2,r3,r4,r5,r6,r7,r8,r9,rf⟩:=bF h5;have HZ:=aG (dz h5 i);clear xo h5 i HC;go_wp2_with fail;rw[gX];have kW:=gD HZ.out.1 (iZ d.aD) (iZ d.aF) (uZ d.aC) (uZ d.aO) (uZ d.aN) (.bool d.bL) (uZ d.id) (uZ d.aJ) (.string d.data) nZ;have qm:=HZ.out.2 _ (gF L w.heap.size (iZ d.aD) (iZ d.aF) (uZ d.aC) (uZ d.aO) (uZ d.aN) (.bool d.bL) (uZ d.id) (uZ d.aJ) (.string d.data) nZ);generalize kC L w.heap.size (iZ d.aD) (iZ d.aF) (uZ d.aC) (uZ d.aO) (uZ d.aN) (.bool d.bL) (uZ d.id) (uZ d.aJ) (.string d.data) nZ=Wf at *
     obtain⟨a0,a1,a2,a3,a4,a5,a6,a7,a8,a9,_⟩:=bF kW;refine VH (v:=lX (X.map eB)) (by rw[HX.out];simp[results,Fa,go_sem,a0,a1,a2,a3,a4,a5,a6,a7,a8,a9,eX,lX]) rfl ⟨rfl,?_⟩;rw[HX.out];exact qm
