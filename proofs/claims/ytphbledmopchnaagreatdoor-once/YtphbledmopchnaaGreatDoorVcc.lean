import Derived.Test.YtphbledmopchnaaGreatDoorVbe
open Prod renaming fst->eB
set_option maxHeartbeats 4000000
set_option maxRecDepth 100000
open Go renaming bodyPost_ret->Vl
set_option linter.all false
namespace Go.Proofs.YtphbledmopchnaaGreatDoor.Sd
open Go.RowKit Go.Lib Mm Tryz
variable {S:Nat}{b:List UInt8}{l:bJ}{oZ:Own}{rs:bZ}{w:World}
def VG{v:Value}(h:dY 170 2 w v rs.length (St.bQ rs))(f:∀b,v.ownBlock=some b->b≠S):∃base c,v=.slice base rs.length c/\rs.length<=c/\c<=9223372036854775807/\St.jJ w S base c rs/\∀b,base.map (·.block)=some b->v.ownBlock=some b:=by
 rcases h with⟨rfl,d,e⟩|⟨g,cap,cs,rfl,hB,e,h3,h4,h5,h6,h7⟩;·have:rs=[]:=qn9.1 d;subst this;exact⟨none,0,rfl,qj _,aj,.inl ⟨rfl,rfl,rfl⟩,fun b a=>by cases a⟩
 ·refine⟨_,_,rfl,h3,h4,.inr ⟨g,cs,rfl,f g rfl,hB,aj,?_,h7⟩,fun b a=>by simp at a;rw[<-a];rfl⟩;rw[qni 2,h6]
def RA(t:Nat)(g:Nat)(i:Int)(m:Nat){N:Value}(I:aL w S TS l)(F:l[g]?=some (iZ i))(G:l[g+1]?=some (uZ m))(H:l[g+2]?=some N)(M:nG oZ t w S N rs)(V:rs.length<=1000000):Calls prog 393 #[aJ S g] w fun e O=>∃o,e=.returned (.agg #[iZ i,uZ m,o])/\dY 170 2 O o rs.length (St.bQ rs)/\lQ w.heap.size o/\bE w O:=by
 have L:=M.rd;obtain⟨base,c,rfl,R,h3,T,U⟩:=M;obtain⟨W,D⟩:=bT (w.alloc (.cells #[iZ 0,uZ 0,nZ] 192));have p:aL W w.heap.size 192 [iZ 0,uZ 0,nZ]:=by rw[D];exact aL.new w 192 _
 have d:bE w W:=by rw[D];exact(qlw _ w).alloc (qj _) _
 have gT:W.heap.size=w.heap.size+1:=by rw[D];simp
 have f:=I.of_heap (d.block _ I.lt);have X:W.cell? (ay S g)=some (iZ i):=by rw[f.cell];exact F
 have Y:W.cell? (ay S (g+1))=some (uZ m):=by rw[f.cell];exact G
 have Z:W.cell? (ay S (g+2))=some (.slice base rs.length c):=by rw[f.cell];exact H
 have K:Hid (∀q,Calls prog 228 #[.slice base rs.length c] (W.drewN q) fun e y=>∃o:Value,e=.returned o/\(∃a c,o=.slice a rs.length c)/\y.cell? (ay S g)=some (iZ i)/\y.cell? (ay S (g+1))=some (uZ m)/\y.cell? (ay S (g+2))=some (.slice base rs.length c)/\y.cell? (ay w.heap.size 0)=some (iZ 0)/\y.cell? (ay w.heap.size 1)=some (uZ 0)/\y.cell? (ay w.heap.size 2)=some nZ/\(∀j,y.frozen? (ay w.heap.size j)=false)/\Hid (aL y w.heap.size 192 [iZ 0,uZ 0,nZ]/\dY 170 2 y o rs.length (St.bQ rs)/\lQ (w.heap.size+1) o/\bE w y)):=fun q=>by refine(Nn _ rs.length (St.bQ rs) (W.drewN q) (L.below ⟨d.os,d.tape,d.output,d.size,d.block⟩) V).mono ?_;rintro e y ⟨r,s,rfl,P,Q,C⟩;have x:bE W y:=⟨C.os,C.tape,C.output,C.size,C.block⟩;have B:=p.of_heap (x.block _ aj);have u:=f.of_heap (x.block _ f.lt);refine⟨_,rfl,⟨r,s,rfl⟩,by rw[u.cell];exact F,by rw[u.cell];exact G,by rw[u.cell];exact H,B.cell 0,B.cell 1,B.cell 2,fun j=>B.frozen j,B,P,fun k J=>by have h1:=Q k J;have R:(W.drewN q).heap.size=W.heap.size:=rfl;omega,d.trans (x.mono aj)⟩
 have x0:W.cell? (ay w.heap.size 0)=some (iZ 0):=p.cell 0;have x1:W.cell? (ay w.heap.size 1)=some (uZ 0):=p.cell 1;have x2:W.cell? (ay w.heap.size 2)=some nZ:=p.cell 2;have xf:=p.frozen;clear I p d f T U F G H L;go_enter func393,ntmps393;go_wp2_with fail;rw[<-D];clear D;go_region_with (go_at_call 228;refine(K.out _).mono ?_;rintro e y ⟨o,rfl,⟨r,s,rfl⟩,j0,j1,j2,y0,y1,y2,yf,A⟩;clear K x0 x1 x2 xf X Y Z);all_goals go_wp2_with fail
 all_goals
  have n:=((A.out.1.setCell 0 (iZ i)).setCell 1 (uZ m)).setCell 2 (.slice r rs.length s);have z:=(((l6.refl w.heap.size y).set 0 (iZ i)).set 1 (uZ m)).set 2 (.slice r rs.length s);generalize ((y.setCell (ay w.heap.size 0) (iZ i)).setCell (ay w.heap.size 1) (uZ m)).setCell (ay w.heap.size 2) (.slice r rs.length s)=E at n z ⊢;have z0:E.cell? (ay w.heap.size 0)=some (iZ i):=n.cell 0;have z1:E.cell? (ay w.heap.size 1)=some (uZ m):=n.cell 1;have z2:E.cell? (ay w.heap.size 2)=some (.slice r rs.length s):=n.cell 2;exact Vl (v:=.agg #[iZ i,uZ m,.slice r rs.length s]) (by simp[results,results393,go_sem,z0,z1,z2]) rfl
   ⟨_,rfl,A.out.2.1.of_heap (fun b p=>z.block b (bR (A.out.2.2.1 b p))),fun k J=>bR (A.out.2.2.1 k J),z.below A.out.2.2.2 (qj _)⟩
def ZL(s t:Nat)(o:Nat)(m:Ot)(f:aL w S TS l)(O:oZ S=s)(Q:s<t)(N:Bo oZ t w S l o m)(D:m.aP.rs.length<=1000000):qH 392 #[aJ S o] w (.tuple #[]) fun W=>jU s t oZ S o l w m.kV W:=by
 obtain⟨U,R,V,a,q,v,p⟩:=N;have E:=aF (RA (t+2) (o+11) 2049 m.aP.fl f a.w9 a.xO a.c13 p D);have F:=aF (dw f (dw a (dw q (dw v p))));clear a q v p f;go_enter func392,ntmps392;go_wp2_with fail;refine E.out.mono ?_;rintro e y ⟨v',rfl,x,z,k⟩;obtain⟨f,a,q,v,p⟩:=F.out;have i:=f.of_heap (k.block _ f.lt);obtain⟨r,u,rfl,_⟩:=x.shape;have X:y.cell? (ay S (o+8))=some (iZ 2049):=by rw[i.cell];exact a.c8
 have Y:y.cell? (ay S (o+9))=some (uZ m.gK.fl):=by rw[i.cell];exact a.c9
 have I:y.cell? (ay S (o+10))=some R:=by rw[i.cell];exact a.uh
 have Z:=fun j=>i.frozen j;have H:Hid (jU s t oZ S o l w m.kV (((y.setCell (ay S (o+8)) (iZ 2049)).setCell (ay S (o+9)) (uZ m.aP.fl)).setCell (ay S (o+10)) (.slice r m.aP.rs.length u))):=by
  have A:=((f_.one i (o+8) (iZ 2049) o 14 aj aj).trans (f_.one (i.setCell _ _) (o+9) (uZ m.aP.fl) o 14 aj aj)).trans (f_.one ((i.setCell _ _).setCell _ _) (o+10) (.slice r m.aP.rs.length u) o 14 aj aj);have C:=f.lt;obtain⟨base,c,J,K,L,G,M⟩:=VG (S:=S) x (fun b g=>bR (z b g));have n:Kp [s] oZ (xq oZ (t+1) w.heap.size y.heap.size) w y:=⟨k.os,k.tape,k.output,k.size,fun b g _=>k.block b g,fun b g=>sO _ _ _ _ _ g⟩;have B:xq oZ (t+1) w.heap.size y.heap.size S=s:=by rw[sO _ _ _ _ _ C,O]
  have d:=A.kp B (T:=[s]) aM;refine⟨_,_,(n.trans d).mono aM,A.bY,A.dW,U,.slice r m.aP.rs.length u,V,⟨?_,?_,((a.nt.set aj).set aj).set aj,?_,?_,?_,?_,?_,?_,?_,?_⟩,(q.kp n rR).kp d rR,?_,(p.kp n rR).kp d rR⟩;·rw[aA _ _ _ _ aj,aA _ _ _ _ aj,aA _ _ _ _ aj];exact a.c0
  ·rw[aA _ _ _ _ aj,aA _ _ _ _ aj,aA _ _ _ _ aj];exact a.c1
  ·rw[aA _ _ _ _ aj,aA _ _ _ _ aj,aA _ _ _ _ aj];exact a.c6
  ·rw[aA _ _ _ _ aj,aA _ _ _ _ aj,aA _ _ _ _ aj];exact a.c7
  ·rw[aA _ _ _ _ aj,aA _ _ _ _ aj];exact cB _ _ _ _ a.c8
  ·rw[aA _ _ _ _ aj];exact cB _ _ _ _ (by rw[aA _ _ _ _ aj];exact a.c9)
  ·exact cB _ _ _ _ (by rw[aA _ _ _ _ aj,aA _ _ _ _ aj];exact a.uh)
  ·rw[aA _ _ _ _ aj,aA _ _ _ _ aj,aA _ _ _ _ aj];exact a.w9
  ·rw[aA _ _ _ _ aj,aA _ _ _ _ aj,aA _ _ _ _ aj];exact a.xO
  ·rw[aA _ _ _ _ aj,aA _ _ _ _ aj,aA _ _ _ _ aj];exact a.c13
  ·have P:nG (xq oZ (t+1) w.heap.size y.heap.size) (t+1) y S (.slice r m.aP.rs.length u) m.aP.rs:=⟨base,c,J,K,L,G,fun b g=>xu _ _ _ _ _ (z b (M b g)) (St.nT G b g).2⟩;exact P.kp d rR
 clear f a q v p i x z k F E;go_wp2;go_end0;exact⟨rfl,H.out⟩
def PV(w:World)(k:Nat)(f:k<8)(a:Nat)(g:a<=2048):EJ w (tQ k a) none 0:=by
 have c:(0:Nat)<=dH:=gP;have b:a<=dH:=by unfold dH;omega
 refine wZ w _ ?_ rfl (by show(0:Nat)<=4096;decide) ?_;·simp[snd,qy,ny,tQ,b,c];refine⟨aj,decide_eq_true ?_⟩;show 0+a<=dH;omega
 ·have b:=lK k;have d:=lK a;have e:=lK (⟨#[]⟩:ByteArray).size;simp[aX,dz,tQ,dR,dx,fieldAt];omega
def CQ(m:Ot)(a:Nat)(h:m.bD a=true):(m.dP a).1<=min (m.dP a).2 m.aB.length/\(m.dP a).2<=m.aB.length+1:=by
 have j:=of_decide_eq_true h;have d:∀(c:bZ) (b e:Nat),(mP b c e).2<=e:=by
  intro c;induction c with
  |nil=>intro b e;exact qj _
  |cons r t f=>
   intro b e;unfold mP;split;·exact qo9 _ _
   ·split;·exact qj _
    ·exact f _ _
 have g:(m.dP a).2<=m.aB.length+1:=by
  have i:m.reach a<=m.aB.length:=by unfold Ot.reach;omega
  refine qlz (d _ _ _) ?_;split<;>omega
 omega
def Kh(m:Ot)(a:Nat)(h:m.bD a=true)(l:min (m.dP a).2 m.aB.length=(m.dP a).1):m.iR (m.dP a).1=true:=by
 have n:=of_decide_eq_true h;have i:∀(d:bZ) (c e:Nat),(mP c d e).2<=e:=by
  intro d;induction d with
  |nil=>intro c e;exact qj _
  |cons r t j=>
   intro c e;unfold mP;split;·exact qo9 _ _
   ·split;·exact qj _
    ·exact j _ _
 have f:(m.dP a).2<=if m.iR (m.reach a)then m.reach a+1 else m.reach a:=i _ _ _;have k:m.reach a<=m.aB.length:=by unfold Ot.reach;omega
 by_cases b:m.iR (m.reach a)=true;·rw[bM b]at f;have g:m.reach a=(m.dP a).1:=aj;rw[<-g];exact b
 ·rw[aV b]at f;omega
def GT.part{t:Nat}{a:Option Addr}{c:Nat}(h:GT oZ t 5 1 w (.slice a b.length c) b.length (bX b))(e i:Nat)(r:e<i)(s:i<=b.length):∃g,a=some (ay g 0)/\g<w.heap.size/\dG w (some (ay g e)) ((b.take i).drop e):=by
 have m:0<b.length:=aj;have n:(bX b)[0]?=some (.int .u8 ((b[0]).toNat:Int)):=by simp[bX,m]
 obtain⟨g,l,_,o,_⟩:=h.cell 0 _ n;refine⟨g,l,o,fun j p=>⟨g,e,rfl,?_⟩⟩;have k:e+j<b.length:=by simp at p;omega
 obtain⟨q,f,_,_,d,_⟩:=h.cell (e+j) (.int .u8 ((b[e+j]).toNat:Int)) (by simp[bX,k]);rw[l]at f;cases f;rw[d];simp
def zQ{f:Fr}{a:Int}{g:Fr}(h:pI f b a=some g):g.data.size<=b.length/\g={f with data:=g.data}:=by
 unfold pI at h;split at h;·cases h
 ·simp only[qng]at h;rw[<-h];refine⟨?_,rfl⟩;show(b.take _).toArray.size<=_;simp;omega
def FJ(s:ByteArray):s.toList.isEmpty=decide (s.size=0):=by rw[qqr,qpn,List.isEmpty_iff_length_eq_zero,decide_eq_true_iff];exact Iff.rfl
def PW(m:Ot)(k:Nat)(b:Int)(a:Nat):m.next k b a=(match pI (tQ k (m.dP a).1) ((m.aB.take (min (m.dP a).2 m.aB.length)).drop (m.dP a).1) b with
  |none=>none
  |some f=>if(m.dP a).1<min (m.dP a).2 m.aB.length/\f.data.size=0 then none else some ({f with bG:=m.iR (bL f)},({m with dB:=max m.dB (bL f)}:Ot).aw {f with bG:=m.iR (bL f)})):=rfl
def ZV(s t:Nat)(o:Nat)(m:Ot)(k:Nat)(h8:k<8)(au:Int)(aR:Nat)(w:World)(hB:aL w S TS l)(hS:oZ S=s)(w4:0<s)(y2:s<t)(hO:Bo oZ t w S l o m)(hl:m.aB.length<=2048)(hs:m.dB+aR<18446744073709551616)(ys:zK m.gK)(hw:m.bD aR=true)(xv: -1000000<=au/\au<=1000000):qH 267 #[aJ S o,iZ k,iZ au,uZ aR] w (kF ((m.next k au aR).map eB)) fun C=>jU s t oZ S o l w (((m.next k au aR).map Prod.snd).getD m) C:=by
 obtain⟨W,hW⟩:=bT (w.alloc (.cells (lY).toArray 65));have hb:aL W w.heap.size 65 lY:=by rw[hW];exact aL.new w 65 _
 have D:bE w W:=by rw[hW];exact(qlw _ w).alloc (qj _) _
 have gT:W.heap.size=w.heap.size+1:=by rw[hW];simp
 have yg:=hB.of_heap (D.block _ hB.lt);have yk:=hO.kp (Kp.below (T:=[]) D) aM aM aM (kR.refl l (o+14) 0) aj;have y0:=aF (Cw aR yg yk hl hs ys);obtain⟨yf,zo⟩:=CQ m aR hw;obtain⟨a,c,va,vc,k1,hc,k2,k3,k4,d0,d1,d2,d6,d7⟩:=hO.open hB;have zl:=aF (PW m k au aR);have tZ:=aF (Kh m aR hw);generalize m.next k au aR=X at *
 generalize (m.dP aR).1=x at *
 generalize (m.dP aR).2=yp at *
 obtain⟨hi,yn⟩:=bT (min yp m.aB.length);rw[<-yn]at zl yf tZ;obtain⟨K,w3,zp⟩:=min2 yp m.aB.length;obtain rfl:K=hi:=aj;have za:K<=m.aB.length:=aj;have h5:((m.aB.take K).drop x).length=K-x:=rR;have y4:=ys;have xz:=aF (fun y (hy:bE w y)=>o_ S o m.aB.length c a y hl ((hy.cell (p:=(ay S o)) hB.lt).trans d0));have Ct:=hB.lt;have g1:(x:Int)<=(K:Int):=aj;have g2:(K:Int)<=(c:Int):=aj;have P:=aF (dw hb (dw D (dw hB hO)));have wM:=aF (dw yf (dw za hl));clear zp yn yf zo hb D yg yk k1 k3 k4 hw;unfold lY at hW;by_cases he:K=x
 ·have y3:(m.aB.take K).drop x=[]:=qn9.1 (by rw[h5];omega);rw[y3]at zl;have VT:=aF (fun y (_:bE w y)=>JX (tQ k x) a [] 0 au y (PV y k h8 x aj) rfl (fun j hj=>by simp at hj) (fun _=>rfl) aM aM xv);generalize xd:pI (tQ k x) [] au=F0 at *
  unfold tQ eF at VT;clear y3 h5 k2;go_enter func267,ntmps267;go_wp2_with fail;rw[<-hW];refine bH y0.out ?_;rintro y I;obtain⟨hb,D,hB,hO⟩:=P.out;have N:=D.trans (I.mono aj);have Pz:=aF (xz.out y N);have Jg:=aF (VT.out y N);have e0:y.cell? (ay S o)=some (.slice a m.aB.length c):=(N.cell (p:=(ay S o)) Ct).trans d0;have HY:=aF (dw (hb.of_heap (I.block _ aj)) N);have zn:=I.size;clear I hb D hB hO N xz VT y0 d0 d1 d2 d6 d7 hW;go_wp2_with fail;refine bH Pz.out ?_;rintro z rfl;go_wp2_with fail;refine bH Jg.out ?_;rintro u H;obtain⟨xo,h9⟩:=HY.out;have NC:=xo.of_heap (H.block _ aj);have xx:=h9.trans (H.mono h9.size);have zj:=H.size;obtain⟨r0,r1,r2,r3,r4,r5,r6,r7,r8,r9,rf⟩:=bC NC;have HU:=aF (dw NC xx);clear H xo h9 NC xx Jg Pz HY e0;have yd:w.heap.size<u.heap.size:=aj;have ye:¬(w.heap.size=u.heap.size):=aj;cases F0 with
  |none=>
   have HX:Hid (X=none):=zl.out;clear zl;unfold kF eF;go_wp2_with fail;rw[gq];have jX:=fK HU.out.1 (iZ 0) (iZ 0) (uZ 0) (uZ 0) (uZ 0) (.bool false) (uZ 0) (uZ 0) (.string ⟨#[]⟩) nZ;have nX:=fM u w.heap.size (iZ 0) (iZ 0) (uZ 0) (uZ 0) (uZ 0) (.bool false) (uZ 0) (uZ 0) (.string ⟨#[]⟩) nZ;generalize jI u w.heap.size (iZ 0) (iZ 0) (uZ 0) (uZ 0) (uZ 0) (.bool false) (uZ 0) (uZ 0) (.string ⟨#[]⟩) nZ=Wf at *
   have L:=nX.below HU.out.2 (qj _);generalize i:Wf.alloc (.cells #[iZ iL.aD,iZ iL.aG,uZ iL.aC,uZ iL.aN,uZ iL.aT,.bool iL.bG,uZ iL.id,uZ iL.aH,.string iL.data,nZ] 65)=Z;have hv:aL Z w.heap.size 65 lY:=by rw[<-i];exact jX.alloc _
   have hu:bE w Z:=by rw[<-i];exact L.alloc L.size _
   obtain⟨a0,a1,a2,a3,a4,a5,a6,a7,a8,a9,_⟩:=bC hv;refine Vl (v:=kF (X.map eB)) (by rw[HX.out];simp[results,qq1,go_sem,a0,a1,a2,a3,a4,a5,a6,a7,a8,a9,eF,kF,iL]) rfl ⟨rfl,?_⟩;rw[HX.out];exact jU.refl P.out.2.2.1 P.out.2.2.2 hu
  |some f=>
   have yr:¬(x<K):=aj;obtain⟨d,r⟩:∃d:Fr,d={f with bG:=m.iR (bL f)}:=⟨_,rfl⟩;have HX:Hid (X=some (d,({m with dB:=max m.dB (bL f)}:Ot).aw d)):=by unfold Hid;rw[zl.out,r];exact aV (fun h=>yr h.1)
   clear zl;obtain⟨xt,xr⟩:=zQ xd;simp only[qnc]at xt;have y9:f.aC=x:=by rw[xr];rfl
   have yy:bL f<=K:=by unfold bL;omega
   have yi:bL f=x:=by unfold bL;omega
   have M:bL d=bL f:=by rw[r];rfl
   have hf:d.bG=m.iR (bL f):=by rw[r]
   have y6:=wM.out;have hx:xk d:=⟨by rw[r];show f.aC<=2048;omega,by rw[M];omega,.inl (by rw[hf,yi];exact tZ.out he)⟩;have xp:fJ d nZ=[iZ f.aD,iZ f.aG,uZ f.aC,uZ f.aN,uZ f.aT,.bool (m.iR (bL f)),uZ f.id,uZ f.aH,.string f.data,nZ]:=by rw[r]
   obtain⟨U,hU⟩:=bT (u.alloc (.cells (fJ f nZ).toArray 65));have h0:aL U u.heap.size 65 (fJ f nZ):=by rw[hU];exact aL.new u 65 _
   have xl:bE u U:=by rw[hU];exact(qlw _ u).alloc (qj _) _
   have zb:U.heap.size=u.heap.size+1:=by rw[hU];simp
   have hm:=aF (lM f nZ U (by unfold dH;omega) aj);obtain⟨x0,x1,x2,x3,x4,x5,x6,x7,x8,x9,xf⟩:=bC h0;have R:=aF (dw h0 (dw xl hx));have ho:=aF xp;have hk:=aF (dw M hf);clear h0 xl hx xp M hf r xr xd xt y6 y9 yi;unfold kF eF;unfold fJ at hU;go_wp2_with fail;rw[<-hU];clear hU;refine bH hm.out ?_;rintro y1 uK;generalize yz:bL f=E at *
   have h7:bE w U:=HU.out.2.trans (R.out.2.1.mono HU.out.2.size);have G9:bE w y1:=h7.trans (uK.mono h7.size);have n:=P.out.2.2.1.of_heap (G9.block _ Ct);have Co:=P.out.2.2.2.kp (Kp.below (T:=[]) G9) aM aM aM (kR.refl l (o+14) 0) aj;obtain⟨a1,c1,zt,Nw,_,_,_,_,_,p0,p1,p2,p6,p7⟩:=Co.open n;have zL:=aF (zJ S o m.aB.length c1 E a1 m.bG m.nt.bN y1 wM.out.2.2 p0 p1 p2);have zR:=R.out.1.of_heap (uK.block _ aj);obtain⟨z0,z1,z2,z3,z4,z5,z6,z7,z8,z9,zf⟩:=bC zR;have xA:=HU.out.1.of_heap ((R.out.2.1.block _ yd)) |>.of_heap (uK.block _ aj);have hr:=aF (dw zR (dw xA (dw G9 (dw n Co))));have zr:=uK.size;clear uK h7 G9 n Co zR xA p0 p1 p2 p6 p7 x0 x1 x2 x3 x4 x5 x6 x7 x8 x9 xf r0 r1 r2 r3 r4 r5 r6 r7 r8 r9 rf hm;go_wp2_with fail;refine bH zL.out ?_;rintro y rfl;obtain⟨zR,xA,N,n,Co⟩:=hr.out;obtain⟨Y,hY⟩:=bT (y.setCell (ay u.heap.size 5) (.bool (m.bG&& !m.nt.bN&&decide (E=m.aB.length))));have VU:l6 u.heap.size y Y:=by rw[hY];exact(l6.refl _ _).set 5 _
   have G_:aL Y u.heap.size 65 (fJ d nZ):=by rw[ho.out,hY,show m.iR E=(m.bG&& !m.nt.bN&&decide (E=m.aB.length))from rfl];exact zR.setCell 5 _
   have NG:=xA.of_heap (VU.block _ ye);have J:=VU.below N aj;have F:=n.of_heap (VU.block _ aj);have xi:=P.out.2.2.2.kp (Kp.below (T:=[]) J) aM aM aM (kR.refl l (o+14) 0) aj;have zc:Y.heap.size=y.heap.size:=VU.size;obtain⟨a2,c2,zv,zz,q1,_,q3,q4,q5,p0,p1,p2,p6,p7⟩:=xi.open F;obtain⟨O,zg,VW⟩:=max2 m.dB E;have Q:Hid (∀q,qH 318 #[eF d nZ] (Y.drewN q) (uZ E) fun v=>v.cell? (ay S (o+7))=some (uZ m.dB)/\v.frozen? (ay S (o+7))=false/\Hid (aL (v.setCell (ay S (o+7)) (uZ O)) u.heap.size 65 (fJ d nZ)/\qH 319 #[aJ S o,eF d nZ] (v.setCell (ay S (o+7)) (uZ O)) (.tuple #[]) fun C=>aL C u.heap.size 65 (fJ d nZ)/\aL C w.heap.size 65 lY/\∀Z,l6 w.heap.size C Z->jU s t oZ S o l w (({m with dB:=max m.dB E}:Ot).aw d) Z)):=fun q=>by
    have xa:=lM d nZ (Y.drewN q) R.out.2.2.om R.out.2.2.d;rw[hk.out.1]at xa;refine bH xa ?_;rintro v CR;have A:bE Y v:=⟨CR.os,CR.tape,CR.output,CR.size,CR.block⟩;have xy:=J.trans (A.mono J.size);have G:=F.of_heap (A.block _ F.lt);have VX:=G_.of_heap (A.block _ G_.lt);have NH:=NG.of_heap (A.block _ NG.lt);have zm:=A.size;refine⟨rfl,by rw[G.cell];exact q1.c7,G.frozen _,?_⟩;obtain⟨ow,B⟩:=bT (loc oZ w.heap.size);have xj:ow S=s:=by rw[B,jo _ _ _ Ct,hS]
    have y8:Bo ow t w S l o m:=by obtain⟨vb,va,vc,k1,k2,k3,k4⟩:=P.out.2.2.2;rw[B];exact⟨vb,va,vc,k1,k2.loc,k3.loc,k4.loc⟩
    have y7:=y8.kp (Kp.below (T:=[]) xy) aM aM aM (kR.refl l (o+14) 0) aj;obtain⟨eG,l1,h1,h2,h3,h4⟩:=BI G xj y2 y7 (o+7) (uZ O) aj aj (m':={m with dB:=O}) (fun _ _ _ h=>JY h O) rfl rfl rfl;have hz:∀b,w.heap.size<=b->ow b∉[s,t,t+1,t+2]:=fun b hb=>by rw[B,iY _ _ _ hb];simp;omega
    have RQ:=bU VX h1 (hz _ aj);have zs:=bU NH h1 (hz _ (qj _));refine⟨RQ,?_⟩;rw[<-VW];refine(BH s t o {m with dB:=O} d nZ (v.setCell (ay S (o+7)) (uZ O)) h2 (by rw[h1.ext _ G.lt,xj]) y2 h4 y4 R.out.2.2).mono ?_;rintro e C ⟨rfl,gy,l2,g1,g2,g3,g4⟩;have hK:Kp [s,t,t+1,t+2] ow gy v C:=h1.trans ⟨g1.os,g1.tape,g1.output,g1.size,g1.bY,g1.ext⟩;have xe:Kp [s,t,t+1,t+2] ow gy w C:=(Kp.below xy).trans hK;refine⟨rfl,bU VX hK (hz _ aj),bU NH hK (hz _ (qj _)),fun Z i=>?_⟩;have ya:gy w.heap.size=0:=by rw[hK.ext _ NH.lt,B,iY _ _ _ (qj _)]
    have y5:Kp [0] gy gy C Z:=⟨i.os,i.tape,i.output,by rw[i.size];exact qj _,fun b _ hn=>i.block b (fun e=>hn (by rw[e,ya];simp)),fun _ _=>rfl⟩;rw[B]at xe;exact⟨gy,l2,i.kp xe.j_ (qj _),g2.of_heap (i.block _ aj),h3.trans g3,g4.kp y5 rR aM aM (kR.refl l2 (o+14) 0) aj⟩
   have b7:Y.cell? (ay S (o+7))=some (uZ m.dB):=p7;have n1:¬(S=u.heap.size):=aj;have n2:¬(u.heap.size=S):=aj;obtain⟨x0,x1,x2,x3,x4,x5,x6,x7,x8,x9,xf⟩:=bC G_;clear zR xA N n Co VU G_ NG J F xi q1 q3 q4 q5 p0 p1 p2 p6 p7 zL hr ho hk R VW;unfold eF at Q;go_wp2_with fail;rw[<-hY];clear hY z0 z1 z2 z3 z4 z5 z6 z7 z8 z9 zf;go_region_with (go_at_call 318;refine bH (Q.out _) ?_;rintro v ⟨v1,v2,HV⟩;clear Q x0 x1 x2 x3 x4 x5 x6 x7 x8 x9 xf b7);all_goals
    obtain⟨xm,hC⟩:=HV.out;generalize v.setCell (ay S (o+7)) (uZ O)=V at *
    obtain⟨x0,x1,x2,x3,x4,x5,x6,x7,x8,x9,xf⟩:=bC xm;have HC:=aF hC;clear hC xm HV v1 v2;go_wp2_with fail;refine bH HC.out ?_;rintro C ⟨xn,h6,i⟩;clear x0 x1 x2 x3 x4 x5 x6 x7 x8 x9 xf;obtain⟨x0,x1,x2,x3,x4,x5,x6,x7,x8,x9,xf⟩:=bC xn;obtain⟨r0,r1,r2,r3,r4,r5,r6,r7,r8,r9,rf⟩:=bC h6;have HZ:=aF (dw h6 i);clear xn h6 i HC;go_wp2_with fail;rw[gq];have jX:=fK HZ.out.1 (iZ d.aD) (iZ d.aG) (uZ d.aC) (uZ d.aN) (uZ d.aT) (.bool d.bG) (uZ d.id) (uZ d.aH) (.string d.data) nZ;have nX:=HZ.out.2 _ (fM C w.heap.size (iZ d.aD) (iZ d.aG) (uZ d.aC) (uZ d.aN) (uZ d.aT) (.bool d.bG) (uZ d.id) (uZ d.aH) (.string d.data) nZ);generalize jI C w.heap.size (iZ d.aD) (iZ d.aG) (uZ d.aC) (uZ d.aN) (uZ d.aT) (.bool d.bG) (uZ d.id) (uZ d.aH) (.string d.data) nZ=Wf at *
    obtain⟨a0,a1,a2,a3,a4,a5,a6,a7,a8,a9,_⟩:=bC jX;refine Vl (v:=kF (X.map eB)) (by rw[HX.out];simp[results,qq1,go_sem,a0,a1,a2,a3,a4,a5,a6,a7,a8,a9,eF,kF]) rfl ⟨rfl,?_⟩;rw[HX.out];exact nX
 ·obtain⟨g,ha,hg,ym⟩:=k2.part x K (bR wM.out) wM.out.2.1;have VT:=aF (fun y (hy:bE w y)=>JX (tQ k x) (some (ay g x)) ((m.aB.take K).drop x) (K-x) au y (PV y k h8 x (bR wM.out)) rfl (dG.below' ym hy) (fun e=>by cases e) (bR wM.out) aj xv);rw[h5]at VT;generalize xd:pI (tQ k x) ((m.aB.take K).drop x) au=F0 at *
  unfold tQ eF at VT;clear ym h5 k2;subst ha;go_enter func267,ntmps267;go_wp2_with fail;rw[<-hW];refine bH y0.out ?_;rintro y I;obtain⟨hb,D,hB,hO⟩:=P.out;have N:=D.trans (I.mono aj);have Pz:=aF (xz.out y N);have Jg:=aF (VT.out y N);have e0:y.cell? (ay S o)=some (dh g m.aB.length c):=(N.cell (p:=(ay S o)) Ct).trans d0;have HY:=aF (dw (hb.of_heap (I.block _ aj)) N);have zn:=I.size;clear I hb D hB hO N xz VT y0 d0 d1 d2 d6 d7 hW;go_wp2_with fail;refine bH Pz.out ?_;rintro z rfl;go_wp2_with fail;refine bH Jg.out ?_;rintro u H;obtain⟨xo,h9⟩:=HY.out;have NC:=xo.of_heap (H.block _ aj);have xx:=h9.trans (H.mono h9.size);have zj:=H.size;obtain⟨r0,r1,r2,r3,r4,r5,r6,r7,r8,r9,rf⟩:=bC NC;have HU:=aF (dw NC xx);clear H xo h9 NC xx Jg Pz HY e0;have yd:w.heap.size<u.heap.size:=aj;have ye:¬(w.heap.size=u.heap.size):=aj;cases F0 with
  |none=>
   have HX:Hid (X=none):=zl.out;clear zl;unfold kF eF;go_wp2_with fail;rw[gq];have jX:=fK HU.out.1 (iZ 0) (iZ 0) (uZ 0) (uZ 0) (uZ 0) (.bool false) (uZ 0) (uZ 0) (.string ⟨#[]⟩) nZ;have nX:=fM u w.heap.size (iZ 0) (iZ 0) (uZ 0) (uZ 0) (uZ 0) (.bool false) (uZ 0) (uZ 0) (.string ⟨#[]⟩) nZ;generalize jI u w.heap.size (iZ 0) (iZ 0) (uZ 0) (uZ 0) (uZ 0) (.bool false) (uZ 0) (uZ 0) (.string ⟨#[]⟩) nZ=Wf at *
   have L:=nX.below HU.out.2 (qj _);generalize i:Wf.alloc (.cells #[iZ iL.aD,iZ iL.aG,uZ iL.aC,uZ iL.aN,uZ iL.aT,.bool iL.bG,uZ iL.id,uZ iL.aH,.string iL.data,nZ] 65)=Z;have hv:aL Z w.heap.size 65 lY:=by rw[<-i];exact jX.alloc _
   have hu:bE w Z:=by rw[<-i];exact L.alloc L.size _
   obtain⟨a0,a1,a2,a3,a4,a5,a6,a7,a8,a9,_⟩:=bC hv;refine Vl (v:=kF (X.map eB)) (by rw[HX.out];simp[results,qq1,go_sem,a0,a1,a2,a3,a4,a5,a6,a7,a8,a9,eF,kF,iL]) rfl ⟨rfl,?_⟩;rw[HX.out];exact jU.refl P.out.2.2.1 P.out.2.2.2 hu
  |some f=>
   by_cases hd:f.data.size=0
   ·have HX:Hid (X=none):=by
     unfold Hid;rw[zl.out];exact bM ⟨bR wM.out,hd⟩
    have yq:x<K:=bR wM.out;have zd:f.data.toList.isEmpty=true:=by rw[FJ];exact decide_eq_true hd
    clear zl;unfold kF eF;go_wp2_with fail;rw[gq];have jX:=fK HU.out.1 (iZ 0) (iZ 0) (uZ 0) (uZ 0) (uZ 0) (.bool false) (uZ 0) (uZ 0) (.string ⟨#[]⟩) nZ;have nX:=fM u w.heap.size (iZ 0) (iZ 0) (uZ 0) (uZ 0) (uZ 0) (.bool false) (uZ 0) (uZ 0) (.string ⟨#[]⟩) nZ;generalize jI u w.heap.size (iZ 0) (iZ 0) (uZ 0) (uZ 0) (uZ 0) (.bool false) (uZ 0) (uZ 0) (.string ⟨#[]⟩) nZ=Wf at *
    have L:=nX.below HU.out.2 (qj _);generalize i:Wf.alloc (.cells #[iZ f.aD,iZ f.aG,uZ f.aC,uZ f.aN,uZ f.aT,.bool f.bG,uZ f.id,uZ f.aH,.string f.data,nZ] 65)=Z;have hv:aL Z w.heap.size 65 lY:=by rw[<-i];exact jX.alloc _
    have hu:bE w Z:=by rw[<-i];exact L.alloc L.size _
    obtain⟨a0,a1,a2,a3,a4,a5,a6,a7,a8,a9,_⟩:=bC hv;refine Vl (v:=kF (X.map eB)) (by rw[HX.out];simp[results,qq1,go_sem,a0,a1,a2,a3,a4,a5,a6,a7,a8,a9,eF,kF,iL]) rfl ⟨rfl,?_⟩;rw[HX.out];exact jU.refl P.out.2.2.1 P.out.2.2.2 hu
   ·have zd:f.data.toList.isEmpty=false:=by rw[FJ];exact decide_eq_false hd
    have yq:x<K:=bR wM.out;obtain⟨d,r⟩:∃d:Fr,d={f with bG:=m.iR (bL f)}:=⟨_,rfl⟩;have HX:Hid (X=some (d,({m with dB:=max m.dB (bL f)}:Ot).aw d)):=by unfold Hid;rw[zl.out,r];exact aV (fun h=>hd h.2)
    clear zl;obtain⟨xt,xr⟩:=zQ xd;have h5:((m.aB.take K).drop x).length=K-x:=by have:=wM.out;simp;omega
    rw[h5]at xt;have y9:f.aC=x:=by rw[xr];rfl
    have yy:bL f<=K:=by unfold bL;omega
    have yv:0<bL f:=by unfold bL;omega
    have M:bL d=bL f:=by rw[r];rfl
    have hf:d.bG=m.iR (bL f):=by rw[r]
    have y6:=wM.out;have hx:xk d:=⟨by rw[r];show f.aC<=2048;omega,by rw[M];omega,.inr (by rw[M];exact yv)⟩;have xp:fJ d nZ=[iZ f.aD,iZ f.aG,uZ f.aC,uZ f.aN,uZ f.aT,.bool (m.iR (bL f)),uZ f.id,uZ f.aH,.string f.data,nZ]:=by rw[r]
    obtain⟨U,hU⟩:=bT (u.alloc (.cells (fJ f nZ).toArray 65));have h0:aL U u.heap.size 65 (fJ f nZ):=by rw[hU];exact aL.new u 65 _
    have xl:bE u U:=by rw[hU];exact(qlw _ u).alloc (qj _) _
    have zb:U.heap.size=u.heap.size+1:=by rw[hU];simp
    have hm:=aF (lM f nZ U (by unfold dH;omega) aj);obtain⟨x0,x1,x2,x3,x4,x5,x6,x7,x8,x9,xf⟩:=bC h0;have R:=aF (dw h0 (dw xl hx));have ho:=aF xp;have hk:=aF (dw M hf);clear h0 xl hx xp M hf r xr xd xt y6 y9 h5;unfold kF eF;unfold fJ at hU;go_wp2_with fail;rw[<-hU];clear hU;refine bH hm.out ?_;rintro y1 uK;generalize yz:bL f=E at *
    have h7:bE w U:=HU.out.2.trans (R.out.2.1.mono HU.out.2.size);have G9:bE w y1:=h7.trans (uK.mono h7.size);have n:=P.out.2.2.1.of_heap (G9.block _ Ct);have Co:=P.out.2.2.2.kp (Kp.below (T:=[]) G9) aM aM aM (kR.refl l (o+14) 0) aj;obtain⟨a1,c1,zt,Nw,_,_,_,_,_,p0,p1,p2,p6,p7⟩:=Co.open n;have zL:=aF (zJ S o m.aB.length c1 E a1 m.bG m.nt.bN y1 wM.out.2.2 p0 p1 p2);have zR:=R.out.1.of_heap (uK.block _ aj);obtain⟨z0,z1,z2,z3,z4,z5,z6,z7,z8,z9,zf⟩:=bC zR;have xA:=HU.out.1.of_heap ((R.out.2.1.block _ yd)) |>.of_heap (uK.block _ aj);have hr:=aF (dw zR (dw xA (dw G9 (dw n Co))));have zr:=uK.size;clear uK h7 G9 n Co zR xA p0 p1 p2 p6 p7 x0 x1 x2 x3 x4 x5 x6 x7 x8 x9 xf r0 r1 r2 r3 r4 r5 r6 r7 r8 r9 rf hm;go_wp2_with fail;refine bH zL.out ?_;rintro y rfl;obtain⟨zR,xA,N,n,Co⟩:=hr.out;obtain⟨Y,hY⟩:=bT (y.setCell (ay u.heap.size 5) (.bool (m.bG&& !m.nt.bN&&decide (E=m.aB.length))));have VU:l6 u.heap.size y Y:=by rw[hY];exact(l6.refl _ _).set 5 _
    have G_:aL Y u.heap.size 65 (fJ d nZ):=by rw[ho.out,hY,show m.iR E=(m.bG&& !m.nt.bN&&decide (E=m.aB.length))from rfl];exact zR.setCell 5 _
    have NG:=xA.of_heap (VU.block _ ye);have J:=VU.below N aj;have F:=n.of_heap (VU.block _ aj);have xi:=P.out.2.2.2.kp (Kp.below (T:=[]) J) aM aM aM (kR.refl l (o+14) 0) aj;have zc:Y.heap.size=y.heap.size:=VU.size;obtain⟨a2,c2,zv,zz,q1,_,q3,q4,q5,p0,p1,p2,p6,p7⟩:=xi.open F;obtain⟨O,zg,VW⟩:=max2 m.dB E;have Q:Hid (∀q,qH 318 #[eF d nZ] (Y.drewN q) (uZ E) fun v=>v.cell? (ay S (o+7))=some (uZ m.dB)/\v.frozen? (ay S (o+7))=false/\Hid (aL (v.setCell (ay S (o+7)) (uZ O)) u.heap.size 65 (fJ d nZ)/\qH 319 #[aJ S o,eF d nZ] (v.setCell (ay S (o+7)) (uZ O)) (.tuple #[]) fun C=>aL C u.heap.size 65 (fJ d nZ)/\aL C w.heap.size 65 lY/\∀Z,l6 w.heap.size C Z->jU s t oZ S o l w (({m with dB:=max m.dB E}:Ot).aw d) Z)):=fun q=>by
     have xa:=lM d nZ (Y.drewN q) R.out.2.2.om R.out.2.2.d;rw[hk.out.1]at xa;refine bH xa ?_;rintro v CR;have A:bE Y v:=⟨CR.os,CR.tape,CR.output,CR.size,CR.block⟩;have xy:=J.trans (A.mono J.size);have G:=F.of_heap (A.block _ F.lt);have VX:=G_.of_heap (A.block _ G_.lt);have NH:=NG.of_heap (A.block _ NG.lt);have zm:=A.size;refine⟨rfl,by rw[G.cell];exact q1.c7,G.frozen _,?_⟩;obtain⟨ow,B⟩:=bT (loc oZ w.heap.size);have xj:ow S=s:=by rw[B,jo _ _ _ Ct,hS]
     have y8:Bo ow t w S l o m:=by obtain⟨vb,va,vc,k1,k2,k3,k4⟩:=P.out.2.2.2;rw[B];exact⟨vb,va,vc,k1,k2.loc,k3.loc,k4.loc⟩
     have y7:=y8.kp (Kp.below (T:=[]) xy) aM aM aM (kR.refl l (o+14) 0) aj;obtain⟨eG,l1,h1,h2,h3,h4⟩:=BI G xj y2 y7 (o+7) (uZ O) aj aj (m':={m with dB:=O}) (fun _ _ _ h=>JY h O) rfl rfl rfl;have hz:∀b,w.heap.size<=b->ow b∉[s,t,t+1,t+2]:=fun b hb=>by rw[B,iY _ _ _ hb];simp;omega
     have RQ:=bU VX h1 (hz _ aj);have zs:=bU NH h1 (hz _ (qj _));refine⟨RQ,?_⟩;rw[<-VW];refine(BH s t o {m with dB:=O} d nZ (v.setCell (ay S (o+7)) (uZ O)) h2 (by rw[h1.ext _ G.lt,xj]) y2 h4 y4 R.out.2.2).mono ?_;rintro e C ⟨rfl,gy,l2,g1,g2,g3,g4⟩;have hK:Kp [s,t,t+1,t+2] ow gy v C:=h1.trans ⟨g1.os,g1.tape,g1.output,g1.size,g1.bY,g1.ext⟩;have xe:Kp [s,t,t+1,t+2] ow gy w C:=(Kp.below xy).trans hK;refine⟨rfl,bU VX hK (hz _ aj),bU NH hK (hz _ (qj _)),fun Z i=>?_⟩;have ya:gy w.heap.size=0:=by rw[hK.ext _ NH.lt,B,iY _ _ _ (qj _)]
     have y5:Kp [0] gy gy C Z:=⟨i.os,i.tape,i.output,by rw[i.size];exact qj _,fun b _ hn=>i.block b (fun e=>hn (by rw[e,ya];simp)),fun _ _=>rfl⟩;rw[B]at xe;exact⟨gy,l2,i.kp xe.j_ (qj _),g2.of_heap (i.block _ aj),h3.trans g3,g4.kp y5 rR aM aM (kR.refl l2 (o+14) 0) aj⟩
    have b7:Y.cell? (ay S (o+7))=some (uZ m.dB):=p7;have n1:¬(S=u.heap.size):=aj;have n2:¬(u.heap.size=S):=aj;obtain⟨x0,x1,x2,x3,x4,x5,x6,x7,x8,x9,xf⟩:=bC G_;clear zR xA N n Co VU G_ NG J F xi q1 q3 q4 q5 p0 p1 p2 p6 p7 zL hr ho hk R VW;unfold eF at Q;go_wp2_with fail;rw[<-hY];clear hY z0 z1 z2 z3 z4 z5 z6 z7 z8 z9 zf;go_region_with (go_at_call 318;refine bH (Q.out _) ?_;rintro v ⟨v1,v2,HV⟩;clear Q x0 x1 x2 x3 x4 x5 x6 x7 x8 x9 xf b7);all_goals
     obtain⟨xm,hC⟩:=HV.out;generalize v.setCell (ay S (o+7)) (uZ O)=V at *
     obtain⟨x0,x1,x2,x3,x4,x5,x6,x7,x8,x9,xf⟩:=bC xm;have HC:=aF hC;clear hC xm HV v1 v2;go_wp2_with fail;refine bH HC.out ?_;rintro C ⟨xn,h6,i⟩;clear x0 x1 x2 x3 x4 x5 x6 x7 x8 x9 xf;obtain⟨x0,x1,x2,x3,x4,x5,x6,x7,x8,x9,xf⟩:=bC xn;obtain⟨r0,r1,r2,r3,r4,r5,r6,r7,r8,r9,rf⟩:=bC h6;have HZ:=aF (dw h6 i);clear xn h6 i HC;go_wp2_with fail;rw[gq];have jX:=fK HZ.out.1 (iZ d.aD) (iZ d.aG) (uZ d.aC) (uZ d.aN) (uZ d.aT) (.bool d.bG) (uZ d.id) (uZ d.aH) (.string d.data) nZ;have nX:=HZ.out.2 _ (fM C w.heap.size (iZ d.aD) (iZ d.aG) (uZ d.aC) (uZ d.aN) (uZ d.aT) (.bool d.bG) (uZ d.id) (uZ d.aH) (.string d.data) nZ);generalize jI C w.heap.size (iZ d.aD) (iZ d.aG) (uZ d.aC) (uZ d.aN) (uZ d.aT) (.bool d.bG) (uZ d.id) (uZ d.aH) (.string d.data) nZ=Wf at *
     obtain⟨a0,a1,a2,a3,a4,a5,a6,a7,a8,a9,_⟩:=bC jX;refine Vl (v:=kF (X.map eB)) (by rw[HX.out];simp[results,qq1,go_sem,a0,a1,a2,a3,a4,a5,a6,a7,a8,a9,eF,kF]) rfl ⟨rfl,?_⟩;rw[HX.out];exact nX
