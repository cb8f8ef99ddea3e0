import Derived.Test.YtphbledmopchnaaGreatDoorLdb
open Nat renaming le_refl->eB,min_le_right->j3
open Prod renaming fst->eT
set_option maxHeartbeats 4000000
set_option maxRecDepth 100000
namespace Go.Proofs.YtphbledmopchnaaGreatDoor.Sd
open Go.RowKit Go.Lib Mm Tryz
theorem OA(w:World)(k:Nat)(d:k<8)(lo:Nat)(e:lo<=2048):Jb w (nD k lo) none 0:=by
 have a:(0:Nat)<=dK:=iO;have h1:lo<=dK:=by unfold dK;omega
 refine CB w _ ?_ rfl (by show(0:Nat)<=4096;decide) ?_;·simp[snd,pQ,l7,nD,h1,a];refine⟨aj,decide_eq_true ?_⟩;show 0+lo<=dK;omega
 ·have h1:=qL k;have b:=qL lo;have c:=qL (⟨#[]⟩:ByteArray).size;simp[bD,dJ,nD,eF,dH,fieldAt];omega
theorem CF(m:Ot)(aN:Nat)(h:m.aK aN=true):(m.b_ aN).1<=min (m.b_ aN).2 m.ay.length/\(m.b_ aN).2<=m.ay.length+1:=by
 have f:=of_decide_eq_true h;have a:∀(rs:bW) (lo e:Nat),(gL lo rs e).2<=e:=by
  intro rs;induction rs with
  |nil=>intro lo e;exact eB _
  |cons r t b=>
   intro lo e;unfold gL;split;·exact j3 _ _
   ·split;·exact eB _
    ·exact b _ _
 have c:(m.b_ aN).2<=m.ay.length+1:=by
  have d:m.reach aN<=m.ay.length:=by unfold Ot.reach;omega
  refine Nat.le_trans (a _ _ _) ?_;split<;>omega
 omega
theorem JG(m:Ot)(aN:Nat)(h:m.aK aN=true)(g:min (m.b_ aN).2 m.ay.length=(m.b_ aN).1):m.fO (m.b_ aN).1=true:=by
 have i:=of_decide_eq_true h;have c:∀(rs:bW) (lo e:Nat),(gL lo rs e).2<=e:=by
  intro rs;induction rs with
  |nil=>intro lo e;exact eB _
  |cons r t d=>
   intro lo e;unfold gL;split;·exact j3 _ _
   ·split;·exact eB _
    ·exact d _ _
 have a:(m.b_ aN).2<=if m.fO (m.reach aN)then m.reach aN+1 else m.reach aN:=c _ _ _;have f:m.reach aN<=m.ay.length:=by unfold Ot.reach;omega
 by_cases hq:m.fO (m.reach aN)=true;·rw[bK hq]at a;have b:m.reach aN=(m.b_ aN).1:=aj;rw[<-b];exact hq
 ·rw[aU hq]at a;omega
theorem GT.part{oZ:Own}{t:Nat}{w:World}{a:Option Addr}{c:Nat}{bs:List UInt8}(h:GT oZ t 5 1 w (.slice a bs.length c) bs.length (cB bs))(lo hi:Nat)(h1:lo<hi)(n:hi<=bs.length):∃g,a=some (aB g 0)/\g<w.heap.size/\dV w (some (aB g lo)) ((bs.take hi).drop lo):=by
 have i:0<bs.length:=aj;have k:(cB bs)[0]?=some (.int .u8 ((bs[0]).toNat:Int)):=by simp[cB,i]
 obtain⟨g,f,_,l,_⟩:=h.cell 0 _ k;refine⟨g,f,l,fun j m=>⟨g,lo,rfl,?_⟩⟩;have e:lo+j<bs.length:=by simp at m;omega
 obtain⟨g',d,_,_,b,_⟩:=h.cell (lo+j) (.int .u8 ((bs[lo+j]).toNat:Int)) (by simp[cB,e]);rw[f]at d;cases d;rw[b];simp
theorem zq{f:Fr}{b:List UInt8}{au:Int}{g:Fr}(h:mZ f b au=some g):g.data.size<=b.length/\g={f with data:=g.data}:=by
 unfold mZ at h;split at h;·cases h
 ·simp only[Option.some.injEq]at h;rw[<-h];refine⟨?_,rfl⟩;show(b.take _).toArray.size<=_;simp;omega
theorem E8(s:ByteArray):s.toList.isEmpty=decide (s.size=0):=by rw[ByteArray.toList_eq,Bool.eq_iff_iff,List.isEmpty_iff_length_eq_zero,decide_eq_true_iff];exact Iff.rfl
theorem OB(m:Ot)(k:Nat)(au:Int)(aN:Nat):m.next k au aN=(match mZ (nD k (m.b_ aN).1) ((m.ay.take (min (m.b_ aN).2 m.ay.length)).drop (m.b_ aN).1) au with
  |none=>none
  |some f=>if(m.b_ aN).1<min (m.b_ aN).2 m.ay.length/\f.data.size=0 then none else some ({f with bn:=m.fO (bC f)},({m with dw:=max m.dw (bC f)}:Ot).aw {f with bn:=m.fO (bC f)})):=rfl
theorem YM(s t:Nat)(oZ:Own)(S o:Nat)(m:Ot)(k:Nat)(h8:k<8)(au:Int)(aN:Nat)(l:bO)(w:World)(hB:aS w S TS l)(hS:oZ S=s)(w4:0<s)(xz:s<t)(hO:BP oZ t w S l o m)(hl:m.ay.length<=2048)(hs:m.dw+aN<18446744073709551616)(yq:vw m.cK)(hw:m.aK aN=true)(xr: -1000000<=au/\au<=1000000):Calls prog 267 #[aI S o,iZ k,iZ au,uZ aN] w fun e w'=>e=.returned (kX ((m.next k au aN).map eT))/\ko s t oZ S o l w (((m.next k au aN).map Prod.snd).getD m) w':=by
 obtain⟨W,hW⟩:=bZ (w.alloc (.cells (pJ).toArray 65));have hb:aS W w.heap.size 65 pJ:=by rw[hW];exact aS.new w 65 _
 have B:bJ w W:=by rw[hW];exact(Below.refl _ w).alloc (eB _) _
 have gQ:W.heap.size=w.heap.size+1:=by rw[hW];simp
 have ye:=hB.of_heap (B.block _ hB.lt);have yg:=hO.kp (Kp.below (T:=[]) B) aP aP aP (kW.refl l (o+14) 0) aj;have xy:=aG (BU t oZ S o m aN l W ye yg hl hs yq);obtain⟨yd,zp⟩:=CF m aN hw;obtain⟨a,c,va,vc,k1,hc,k2,k3,k4,d0,d1,d2,d6,d7⟩:=hO.open hB;have BD:=aG (OB m k au aN);have sJ:=aG (JG m aN hw);generalize m.next k au aN=X at *
 generalize (m.b_ aN).1=lo at *
 generalize (m.b_ aN).2=ym at *
 obtain⟨hi,yk⟩:=bZ (min ym m.ay.length);rw[<-yk]at BD yd sJ;obtain⟨I,w3,zr⟩:=min2 ym m.ay.length;obtain rfl:I=hi:=aj;have yy:I<=m.ay.length:=aj;have R:((m.ay.take I).drop lo).length=I-lo:=by simp;omega
 have y2:=yq;have xx:=aG (fun y (hy:bJ w y)=>uO S o m.ay.length c a y hl ((hy.cell (p:=(aB S o)) hB.lt).trans d0));have El:=hB.lt;have g1:(lo:Int)<=(I:Int):=aj;have g2:(I:Int)<=(c:Int):=aj;have N:=aG (dB hb (dB B (dB hB hO)));have vQ:=aG (dB yd (dB yy hl));clear zr yk yd zp hb B ye yg k1 k3 k4 hw;unfold pJ at hW;by_cases he:I=lo
 ·have y0:(m.ay.take I).drop lo=[]:=List.length_eq_zero_iff.1 (by rw[R];omega);rw[y0]at BD;have UQ:=aG (fun y (_:bJ w y)=>Jc (nD k lo) a [] 0 au y (OA y k h8 lo aj) rfl (fun j hj=>by simp at hj) (fun _=>rfl) aP aP xr);generalize xa:mZ (nD k lo) [] au=F0 at *
  unfold nD fM at UQ;clear y0 R k2;go_enter func267,ntmps267;go_wp2_with fail;rw[<-hW];refine bN xy.out ?_;rintro y G;obtain⟨hb,B,hB,hO⟩:=N.out;have L:=B.trans (G.mono aj);have NZ:=aG (xx.out y L);have hk:=aG (UQ.out y L);have e0:y.cell? (aB S o)=some (.slice a m.ay.length c):=(L.cell (p:=(aB S o)) El).trans d0;have HY:=aG (dB (hb.of_heap (G.block _ aj)) L);have zk:=G.size;clear G hb B hB hO L xx UQ xy d0 d1 d2 d6 d7 hW;go_wp2_with fail;refine bN NZ.out ?_;rintro z rfl;go_wp2_with fail;refine bN hk.out ?_;rintro u F;obtain⟨xm,h6⟩:=HY.out;have MI:=xm.of_heap (F.block _ aj);have xt:=h6.trans (F.mono h6.size);have zg:=F.size;obtain⟨r0,r1,r2,r3,r4,r5,r6,r7,r8,r9,rf⟩:=bL MI;have HU:=aG (dB MI xt);clear F xm h6 MI xt hk NZ HY e0;have y9:w.heap.size<u.heap.size:=aj;have ya:¬(w.heap.size=u.heap.size):=aj;cases F0 with
  |none=>
   have HX:Hid (X=none):=BD.out;clear BD;unfold kX fM;go_wp2_with fail;rw[gT];have kr:=gI HU.out.1 (iZ 0) (iZ 0) (uZ 0) (uZ 0) (uZ 0) (.bool false) (uZ 0) (uZ 0) (.string ⟨#[]⟩) nZ;have qZ:=gJ u w.heap.size (iZ 0) (iZ 0) (uZ 0) (uZ 0) (uZ 0) (.bool false) (uZ 0) (uZ 0) (.string ⟨#[]⟩) nZ;generalize kF u w.heap.size (iZ 0) (iZ 0) (uZ 0) (uZ 0) (uZ 0) (.bool false) (uZ 0) (uZ 0) (.string ⟨#[]⟩) nZ=Wf at *
   have J:=qZ.below HU.out.2 (eB _);generalize i:Wf.alloc (.cells #[iZ iM.aC,iZ iM.aH,uZ iM.aD,uZ iM.aV,uZ iM.aL,.bool iM.bn,uZ iM.id,uZ iM.aW,.string iM.data,nZ] 65)=Z;have hu:aS Z w.heap.size 65 pJ:=by rw[<-i];exact kr.alloc _
   have hr:bJ w Z:=by rw[<-i];exact J.alloc J.size _
   obtain⟨a0,a1,a2,a3,a4,a5,a6,a7,a8,a9,_⟩:=bL hu;refine bodyPost_ret (v:=kX (X.map eT)) (by rw[HX.out];simp[results,results267,go_sem,a0,a1,a2,a3,a4,a5,a6,a7,a8,a9,fM,kX,iM]) rfl ⟨rfl,?_⟩;rw[HX.out];exact ko.refl N.out.2.2.1 N.out.2.2.2 hr
  |some f=>
   have yp:¬(lo<I):=aj;obtain⟨d,r⟩:∃d:Fr,d={f with bn:=m.fO (bC f)}:=⟨_,rfl⟩;have HX:Hid (X=some (d,({m with dw:=max m.dw (bC f)}:Ot).aw d)):=by unfold Hid;rw[BD.out,r];exact aU (fun h=>yp h.1)
   clear BD;obtain⟨xp,xo⟩:=zq xa;simp only[List.length_nil]at xp;have y7:f.aD=lo:=by rw[xo];rfl
   have ys:bC f<=I:=by unfold bC;omega
   have yf:bC f=lo:=by unfold bC;omega
   have K:bC d=bC f:=by rw[r];rfl
   have h7:d.bn=m.fO (bC f):=by rw[r]
   have y4:=vQ.out;have hv:ru d:=⟨by rw[r];show f.aD<=2048;omega,by rw[K];omega,.inl (by rw[h7,yf];exact sJ.out he)⟩;have xn:gG d nZ=[iZ f.aC,iZ f.aH,uZ f.aD,uZ f.aV,uZ f.aL,.bool (m.fO (bC f)),uZ f.id,uZ f.aW,.string f.data,nZ]:=by rw[r]
   obtain⟨U,hU⟩:=bZ (u.alloc (.cells (gG f nZ).toArray 65));have Q:aS U u.heap.size 65 (gG f nZ):=by rw[hU];exact aS.new u 65 _
   have xj:bJ u U:=by rw[hU];exact(Below.refl _ u).alloc (eB _) _
   have yz:U.heap.size=u.heap.size+1:=by rw[hU];simp
   have hf:=aG (kG f nZ U (by unfold dK;omega) aj);obtain⟨x0,x1,x2,x3,x4,x5,x6,x7,x8,x9,xf⟩:=bL Q;have P:=aG (dB Q (dB xj hv));have hm:=aG xn;have h9:=aG (dB K h7);clear Q xj hv xn K h7 r xo xa xp y4 y7 yf;unfold kX fM;unfold gG at hU;go_wp2_with fail;rw[<-hU];clear hU;refine bN hf.out ?_;rintro y1 tZ;generalize yv:bC f=E at *
   have h5:bJ w U:=HU.out.2.trans (P.out.2.1.mono HU.out.2.size);have GQ:bJ w y1:=h5.trans (tZ.mono h5.size);have n:=N.out.2.2.1.of_heap (GQ.block _ El);have BK:=N.out.2.2.2.kp (Kp.below (T:=[]) GQ) aP aP aP (kW.refl l (o+14) 0) aj;obtain⟨a1,c1,zv,QX,_,_,_,_,_,p0,p1,p2,p6,p7⟩:=BK.open n;have yV:=aG (yU S o m.ay.length c1 E a1 m.bn m.nt.bX y1 vQ.out.2.2 p0 p1 p2);have zu:=P.out.1.of_heap (tZ.block _ aj);obtain⟨z0,z1,z2,z3,z4,z5,z6,z7,z8,z9,zf⟩:=bL zu;have wJ:=HU.out.1.of_heap ((P.out.2.1.block _ y9)) |>.of_heap (tZ.block _ aj);have ho:=aG (dB zu (dB wJ (dB GQ (dB n BK))));have zs:=tZ.size;clear tZ h5 GQ n BK zu wJ p0 p1 p2 p6 p7 x0 x1 x2 x3 x4 x5 x6 x7 x8 x9 xf r0 r1 r2 r3 r4 r5 r6 r7 r8 r9 rf hf;go_wp2_with fail;refine bN yV.out ?_;rintro y rfl;obtain⟨zu,wJ,L,n,BK⟩:=ho.out;obtain⟨Y,hY⟩:=bZ (y.setCell (aB u.heap.size 5) (.bool (m.bn&& !m.nt.bX&&decide (E=m.ay.length))));have Vd:nE u.heap.size y Y:=by rw[hY];exact(nE.refl _ _).set 5 _
   have GR:aS Y u.heap.size 65 (gG d nZ):=by rw[hm.out,hY,show m.fO E=(m.bn&& !m.nt.bX&&decide (E=m.ay.length))from rfl];exact zu.setCell 5 _
   have MK:=wJ.of_heap (Vd.block _ ya);have H:=Vd.below L aj;have C:=n.of_heap (Vd.block _ aj);have xe:=N.out.2.2.2.kp (Kp.below (T:=[]) H) aP aP aP (kW.refl l (o+14) 0) aj;have zb:Y.heap.size=y.heap.size:=Vd.size;obtain⟨a2,c2,zz,w2,q1,_,q3,q4,q5,p0,p1,p2,p6,p7⟩:=xe.open C;obtain⟨M,zd,Ve⟩:=max2 m.dw E;have O:Hid (∀q,Calls prog 318 #[fM d nZ] (Y.drewN q) fun e v=>e=.returned (uZ E)/\v.cell? (aB S (o+7))=some (uZ m.dw)/\v.frozen? (aB S (o+7))=false/\Hid (aS (v.setCell (aB S (o+7)) (uZ M)) u.heap.size 65 (gG d nZ)/\Calls prog 319 #[aI S o,fM d nZ] (v.setCell (aB S (o+7)) (uZ M)) fun e w'=>e=.returned (.tuple #[])/\aS w' u.heap.size 65 (gG d nZ)/\aS w' w.heap.size 65 pJ/\∀Z,nE w.heap.size w' Z->ko s t oZ S o l w (({m with dw:=max m.dw E}:Ot).aw d) Z)):=fun q=>by
    have hx:=kG d nZ (Y.drewN q) P.out.2.2.om P.out.2.2.d;rw[h9.out.1]at hx;refine bN hx ?_;rintro v CG;have x:bJ Y v:=⟨CG.os,CG.tape,CG.output,CG.size,CG.block⟩;have xv:=H.trans (x.mono H.size);have D:=C.of_heap (x.block _ C.lt);have Vf:=GR.of_heap (x.block _ GR.lt);have ML:=MK.of_heap (x.block _ MK.lt);have zj:=x.size;refine⟨rfl,by rw[D.cell];exact q1.c7,D.frozen _,?_⟩;obtain⟨ow,A⟩:=bZ (loc oZ w.heap.size);have xi:ow S=s:=by rw[A,jv _ _ _ El,hS]
    have y6:BP ow t w S l o m:=by obtain⟨vb,va,vc,k1,k2,k3,k4⟩:=N.out.2.2.2;rw[A];exact⟨vb,va,vc,k1,k2.loc,k3.loc,k4.loc⟩
    have y5:=y6.kp (Kp.below (T:=[]) xv) aP aP aP (kW.refl l (o+14) 0) aj;obtain⟨eZ,l1,h1,h2,h3,h4⟩:=AZ D xi xz y5 (o+7) (uZ M) aj aj (m':={m with dw:=M}) (fun _ _ _ h=>Jg h M) rfl rfl rfl;have hz:∀b,w.heap.size<=b->ow b∉[s,t,t+1,t+2]:=fun b hb=>by rw[A,iX _ _ _ hb];simp;omega
    have QY:=cO Vf h1 (hz _ aj);have zt:=cO ML h1 (hz _ (eB _));refine⟨QY,?_⟩;rw[<-Ve];refine(AY s t eZ S o {m with dw:=M} d nZ l1 (v.setCell (aB S (o+7)) (uZ M)) h2 (by rw[h1.ext _ D.lt,xi]) xz h4 y2 P.out.2.2).mono ?_;rintro e w' ⟨rfl,gu,l2,g1,g2,g3,g4⟩;have hK:Kp [s,t,t+1,t+2] ow gu v w':=h1.trans ⟨g1.os,g1.tape,g1.output,g1.size,g1.cZ,g1.ext⟩;have xd:Kp [s,t,t+1,t+2] ow gu w w':=(Kp.below xv).trans hK;refine⟨rfl,cO Vf hK (hz _ aj),cO ML hK (hz _ (eB _)),fun Z i=>?_⟩;have y8:gu w.heap.size=0:=by rw[hK.ext _ ML.lt,A,iX _ _ _ (eB _)]
    have y3:Kp [0] gu gu w' Z:=⟨i.os,i.tape,i.output,by rw[i.size];exact eB _,fun b _ hn=>i.block b (fun e=>hn (by rw[e,y8];simp)),fun _ _=>rfl⟩;rw[A]at xd;exact⟨gu,l2,i.kp xd.lH (eB _),g2.of_heap (i.block _ aj),h3.trans g3,g4.kp y3 (by simp;omega) aP aP (kW.refl l2 (o+14) 0) aj⟩
   have b7:Y.cell? (aB S (o+7))=some (uZ m.dw):=p7;have n1:¬(S=u.heap.size):=aj;have n2:¬(u.heap.size=S):=aj;obtain⟨x0,x1,x2,x3,x4,x5,x6,x7,x8,x9,xf⟩:=bL GR;clear zu wJ L n BK Vd GR MK H C xe q1 q3 q4 q5 p0 p1 p2 p6 p7 yV ho hm h9 P Ve;unfold fM at O;go_wp2_with fail;rw[<-hY];clear hY z0 z1 z2 z3 z4 z5 z6 z7 z8 z9 zf;go_region_with (go_at_call 318;refine bN (O.out _) ?_;rintro v ⟨v1,v2,HV⟩;clear O x0 x1 x2 x3 x4 x5 x6 x7 x8 x9 xf b7);all_goals
    obtain⟨xk,hC⟩:=HV.out;generalize v.setCell (aB S (o+7)) (uZ M)=V at *
    obtain⟨x0,x1,x2,x3,x4,x5,x6,x7,x8,x9,xf⟩:=bL xk;have HC:=aG hC;clear hC xk HV v1 v2;go_wp2_with fail;refine bN HC.out ?_;rintro w' ⟨xl,h0,i⟩;clear x0 x1 x2 x3 x4 x5 x6 x7 x8 x9 xf;obtain⟨x0,x1,x2,x3,x4,x5,x6,x7,x8,x9,xf⟩:=bL xl;obtain⟨r0,r1,r2,r3,r4,r5,r6,r7,r8,r9,rf⟩:=bL h0;have HZ:=aG (dB h0 i);clear xl h0 i HC;go_wp2_with fail;rw[gT];have kr:=gI HZ.out.1 (iZ d.aC) (iZ d.aH) (uZ d.aD) (uZ d.aV) (uZ d.aL) (.bool d.bn) (uZ d.id) (uZ d.aW) (.string d.data) nZ;have qZ:=HZ.out.2 _ (gJ w' w.heap.size (iZ d.aC) (iZ d.aH) (uZ d.aD) (uZ d.aV) (uZ d.aL) (.bool d.bn) (uZ d.id) (uZ d.aW) (.string d.data) nZ);generalize kF w' w.heap.size (iZ d.aC) (iZ d.aH) (uZ d.aD) (uZ d.aV) (uZ d.aL) (.bool d.bn) (uZ d.id) (uZ d.aW) (.string d.data) nZ=Wf at *
    obtain⟨a0,a1,a2,a3,a4,a5,a6,a7,a8,a9,_⟩:=bL kr;refine bodyPost_ret (v:=kX (X.map eT)) (by rw[HX.out];simp[results,results267,go_sem,a0,a1,a2,a3,a4,a5,a6,a7,a8,a9,fM,kX]) rfl ⟨rfl,?_⟩;rw[HX.out];exact qZ
 ·obtain⟨g,ha,hg,yi⟩:=k2.part lo I (bV vQ.out) vQ.out.2.1;have UQ:=aG (fun y (hy:bJ w y)=>Jc (nD k lo) (some (aB g lo)) ((m.ay.take I).drop lo) (I-lo) au y (OA y k h8 lo (bV vQ.out)) rfl (dV.below' yi hy) (fun e=>by cases e) (bV vQ.out) aj xr);rw[R]at UQ;generalize xa:mZ (nD k lo) ((m.ay.take I).drop lo) au=F0 at *
  unfold nD fM at UQ;clear yi R k2;subst ha;go_enter func267,ntmps267;go_wp2_with fail;rw[<-hW];refine bN xy.out ?_;rintro y G;obtain⟨hb,B,hB,hO⟩:=N.out;have L:=B.trans (G.mono aj);have NZ:=aG (xx.out y L);have hk:=aG (UQ.out y L);have e0:y.cell? (aB S o)=some (dP g m.ay.length c):=(L.cell (p:=(aB S o)) El).trans d0;have HY:=aG (dB (hb.of_heap (G.block _ aj)) L);have zk:=G.size;clear G hb B hB hO L xx UQ xy d0 d1 d2 d6 d7 hW;go_wp2_with fail;refine bN NZ.out ?_;rintro z rfl;go_wp2_with fail;refine bN hk.out ?_;rintro u F;obtain⟨xm,h6⟩:=HY.out;have MI:=xm.of_heap (F.block _ aj);have xt:=h6.trans (F.mono h6.size);have zg:=F.size;obtain⟨r0,r1,r2,r3,r4,r5,r6,r7,r8,r9,rf⟩:=bL MI;have HU:=aG (dB MI xt);clear F xm h6 MI xt hk NZ HY e0;have y9:w.heap.size<u.heap.size:=aj;have ya:¬(w.heap.size=u.heap.size):=aj;cases F0 with
  |none=>
   have HX:Hid (X=none):=BD.out;clear BD;unfold kX fM;go_wp2_with fail;rw[gT];have kr:=gI HU.out.1 (iZ 0) (iZ 0) (uZ 0) (uZ 0) (uZ 0) (.bool false) (uZ 0) (uZ 0) (.string ⟨#[]⟩) nZ;have qZ:=gJ u w.heap.size (iZ 0) (iZ 0) (uZ 0) (uZ 0) (uZ 0) (.bool false) (uZ 0) (uZ 0) (.string ⟨#[]⟩) nZ;generalize kF u w.heap.size (iZ 0) (iZ 0) (uZ 0) (uZ 0) (uZ 0) (.bool false) (uZ 0) (uZ 0) (.string ⟨#[]⟩) nZ=Wf at *
   have J:=qZ.below HU.out.2 (eB _);generalize i:Wf.alloc (.cells #[iZ iM.aC,iZ iM.aH,uZ iM.aD,uZ iM.aV,uZ iM.aL,.bool iM.bn,uZ iM.id,uZ iM.aW,.string iM.data,nZ] 65)=Z;have hu:aS Z w.heap.size 65 pJ:=by rw[<-i];exact kr.alloc _
   have hr:bJ w Z:=by rw[<-i];exact J.alloc J.size _
   obtain⟨a0,a1,a2,a3,a4,a5,a6,a7,a8,a9,_⟩:=bL hu;refine bodyPost_ret (v:=kX (X.map eT)) (by rw[HX.out];simp[results,results267,go_sem,a0,a1,a2,a3,a4,a5,a6,a7,a8,a9,fM,kX,iM]) rfl ⟨rfl,?_⟩;rw[HX.out];exact ko.refl N.out.2.2.1 N.out.2.2.2 hr
  |some f=>
   by_cases hd:f.data.size=0
   ·have HX:Hid (X=none):=by
     unfold Hid;rw[BD.out];exact bK ⟨bV vQ.out,hd⟩
    have yn:lo<I:=bV vQ.out;have zc:f.data.toList.isEmpty=true:=by rw[E8];exact decide_eq_true hd
    clear BD;unfold kX fM;go_wp2_with fail;rw[gT];have kr:=gI HU.out.1 (iZ 0) (iZ 0) (uZ 0) (uZ 0) (uZ 0) (.bool false) (uZ 0) (uZ 0) (.string ⟨#[]⟩) nZ;have qZ:=gJ u w.heap.size (iZ 0) (iZ 0) (uZ 0) (uZ 0) (uZ 0) (.bool false) (uZ 0) (uZ 0) (.string ⟨#[]⟩) nZ;generalize kF u w.heap.size (iZ 0) (iZ 0) (uZ 0) (uZ 0) (uZ 0) (.bool false) (uZ 0) (uZ 0) (.string ⟨#[]⟩) nZ=Wf at *
    have J:=qZ.below HU.out.2 (eB _);generalize i:Wf.alloc (.cells #[iZ f.aC,iZ f.aH,uZ f.aD,uZ f.aV,uZ f.aL,.bool f.bn,uZ f.id,uZ f.aW,.string f.data,nZ] 65)=Z;have hu:aS Z w.heap.size 65 pJ:=by rw[<-i];exact kr.alloc _
    have hr:bJ w Z:=by rw[<-i];exact J.alloc J.size _
    obtain⟨a0,a1,a2,a3,a4,a5,a6,a7,a8,a9,_⟩:=bL hu;refine bodyPost_ret (v:=kX (X.map eT)) (by rw[HX.out];simp[results,results267,go_sem,a0,a1,a2,a3,a4,a5,a6,a7,a8,a9,fM,kX,iM]) rfl ⟨rfl,?_⟩;rw[HX.out];exact ko.refl N.out.2.2.1 N.out.2.2.2 hr
   ·have zc:f.data.toList.isEmpty=false:=by rw[E8];exact decide_eq_false hd
    have yn:lo<I:=bV vQ.out;obtain⟨d,r⟩:∃d:Fr,d={f with bn:=m.fO (bC f)}:=⟨_,rfl⟩;have HX:Hid (X=some (d,({m with dw:=max m.dw (bC f)}:Ot).aw d)):=by unfold Hid;rw[BD.out,r];exact aU (fun h=>hd h.2)
    clear BD;obtain⟨xp,xo⟩:=zq xa;have R:((m.ay.take I).drop lo).length=I-lo:=by have:=vQ.out;simp;omega
    rw[R]at xp;have y7:f.aD=lo:=by rw[xo];rfl
    have ys:bC f<=I:=by unfold bC;omega
    have yr:0<bC f:=by unfold bC;omega
    have K:bC d=bC f:=by rw[r];rfl
    have h7:d.bn=m.fO (bC f):=by rw[r]
    have y4:=vQ.out;have hv:ru d:=⟨by rw[r];show f.aD<=2048;omega,by rw[K];omega,.inr (by rw[K];exact yr)⟩;have xn:gG d nZ=[iZ f.aC,iZ f.aH,uZ f.aD,uZ f.aV,uZ f.aL,.bool (m.fO (bC f)),uZ f.id,uZ f.aW,.string f.data,nZ]:=by rw[r]
    obtain⟨U,hU⟩:=bZ (u.alloc (.cells (gG f nZ).toArray 65));have Q:aS U u.heap.size 65 (gG f nZ):=by rw[hU];exact aS.new u 65 _
    have xj:bJ u U:=by rw[hU];exact(Below.refl _ u).alloc (eB _) _
    have yz:U.heap.size=u.heap.size+1:=by rw[hU];simp
    have hf:=aG (kG f nZ U (by unfold dK;omega) aj);obtain⟨x0,x1,x2,x3,x4,x5,x6,x7,x8,x9,xf⟩:=bL Q;have P:=aG (dB Q (dB xj hv));have hm:=aG xn;have h9:=aG (dB K h7);clear Q xj hv xn K h7 r xo xa xp y4 y7 R;unfold kX fM;unfold gG at hU;go_wp2_with fail;rw[<-hU];clear hU;refine bN hf.out ?_;rintro y1 tZ;generalize yv:bC f=E at *
    have h5:bJ w U:=HU.out.2.trans (P.out.2.1.mono HU.out.2.size);have GQ:bJ w y1:=h5.trans (tZ.mono h5.size);have n:=N.out.2.2.1.of_heap (GQ.block _ El);have BK:=N.out.2.2.2.kp (Kp.below (T:=[]) GQ) aP aP aP (kW.refl l (o+14) 0) aj;obtain⟨a1,c1,zv,QX,_,_,_,_,_,p0,p1,p2,p6,p7⟩:=BK.open n;have yV:=aG (yU S o m.ay.length c1 E a1 m.bn m.nt.bX y1 vQ.out.2.2 p0 p1 p2);have zu:=P.out.1.of_heap (tZ.block _ aj);obtain⟨z0,z1,z2,z3,z4,z5,z6,z7,z8,z9,zf⟩:=bL zu;have wJ:=HU.out.1.of_heap ((P.out.2.1.block _ y9)) |>.of_heap (tZ.block _ aj);have ho:=aG (dB zu (dB wJ (dB GQ (dB n BK))));have zs:=tZ.size;clear tZ h5 GQ n BK zu wJ p0 p1 p2 p6 p7 x0 x1 x2 x3 x4 x5 x6 x7 x8 x9 xf r0 r1 r2 r3 r4 r5 r6 r7 r8 r9 rf hf;go_wp2_with fail;refine bN yV.out ?_;rintro y rfl;obtain⟨zu,wJ,L,n,BK⟩:=ho.out;obtain⟨Y,hY⟩:=bZ (y.setCell (aB u.heap.size 5) (.bool (m.bn&& !m.nt.bX&&decide (E=m.ay.length))));have Vd:nE u.heap.size y Y:=by rw[hY];exact(nE.refl _ _).set 5 _
    have GR:aS Y u.heap.size 65 (gG d nZ):=by rw[hm.out,hY,show m.fO E=(m.bn&& !m.nt.bX&&decide (E=m.ay.length))from rfl];exact zu.setCell 5 _
    have MK:=wJ.of_heap (Vd.block _ ya);have H:=Vd.below L aj;have C:=n.of_heap (Vd.block _ aj);have xe:=N.out.2.2.2.kp (Kp.below (T:=[]) H) aP aP aP (kW.refl l (o+14) 0) aj;have zb:Y.heap.size=y.heap.size:=Vd.size;obtain⟨a2,c2,zz,w2,q1,_,q3,q4,q5,p0,p1,p2,p6,p7⟩:=xe.open C;obtain⟨M,zd,Ve⟩:=max2 m.dw E;have O:Hid (∀q,Calls prog 318 #[fM d nZ] (Y.drewN q) fun e v=>e=.returned (uZ E)/\v.cell? (aB S (o+7))=some (uZ m.dw)/\v.frozen? (aB S (o+7))=false/\Hid (aS (v.setCell (aB S (o+7)) (uZ M)) u.heap.size 65 (gG d nZ)/\Calls prog 319 #[aI S o,fM d nZ] (v.setCell (aB S (o+7)) (uZ M)) fun e w'=>e=.returned (.tuple #[])/\aS w' u.heap.size 65 (gG d nZ)/\aS w' w.heap.size 65 pJ/\∀Z,nE w.heap.size w' Z->ko s t oZ S o l w (({m with dw:=max m.dw E}:Ot).aw d) Z)):=fun q=>by
     have hx:=kG d nZ (Y.drewN q) P.out.2.2.om P.out.2.2.d;rw[h9.out.1]at hx;refine bN hx ?_;rintro v CG;have x:bJ Y v:=⟨CG.os,CG.tape,CG.output,CG.size,CG.block⟩;have xv:=H.trans (x.mono H.size);have D:=C.of_heap (x.block _ C.lt);have Vf:=GR.of_heap (x.block _ GR.lt);have ML:=MK.of_heap (x.block _ MK.lt);have zj:=x.size;refine⟨rfl,by rw[D.cell];exact q1.c7,D.frozen _,?_⟩;obtain⟨ow,A⟩:=bZ (loc oZ w.heap.size);have xi:ow S=s:=by rw[A,jv _ _ _ El,hS]
     have y6:BP ow t w S l o m:=by obtain⟨vb,va,vc,k1,k2,k3,k4⟩:=N.out.2.2.2;rw[A];exact⟨vb,va,vc,k1,k2.loc,k3.loc,k4.loc⟩
     have y5:=y6.kp (Kp.below (T:=[]) xv) aP aP aP (kW.refl l (o+14) 0) aj;obtain⟨eZ,l1,h1,h2,h3,h4⟩:=AZ D xi xz y5 (o+7) (uZ M) aj aj (m':={m with dw:=M}) (fun _ _ _ h=>Jg h M) rfl rfl rfl;have hz:∀b,w.heap.size<=b->ow b∉[s,t,t+1,t+2]:=fun b hb=>by rw[A,iX _ _ _ hb];simp;omega
     have QY:=cO Vf h1 (hz _ aj);have zt:=cO ML h1 (hz _ (eB _));refine⟨QY,?_⟩;rw[<-Ve];refine(AY s t eZ S o {m with dw:=M} d nZ l1 (v.setCell (aB S (o+7)) (uZ M)) h2 (by rw[h1.ext _ D.lt,xi]) xz h4 y2 P.out.2.2).mono ?_;rintro e w' ⟨rfl,gu,l2,g1,g2,g3,g4⟩;have hK:Kp [s,t,t+1,t+2] ow gu v w':=h1.trans ⟨g1.os,g1.tape,g1.output,g1.size,g1.cZ,g1.ext⟩;have xd:Kp [s,t,t+1,t+2] ow gu w w':=(Kp.below xv).trans hK;refine⟨rfl,cO Vf hK (hz _ aj),cO ML hK (hz _ (eB _)),fun Z i=>?_⟩;have y8:gu w.heap.size=0:=by rw[hK.ext _ ML.lt,A,iX _ _ _ (eB _)]
     have y3:Kp [0] gu gu w' Z:=⟨i.os,i.tape,i.output,by rw[i.size];exact eB _,fun b _ hn=>i.block b (fun e=>hn (by rw[e,y8];simp)),fun _ _=>rfl⟩;rw[A]at xd;exact⟨gu,l2,i.kp xd.lH (eB _),g2.of_heap (i.block _ aj),h3.trans g3,g4.kp y3 (by simp;omega) aP aP (kW.refl l2 (o+14) 0) aj⟩
    have b7:Y.cell? (aB S (o+7))=some (uZ m.dw):=p7;have n1:¬(S=u.heap.size):=aj;have n2:¬(u.heap.size=S):=aj;obtain⟨x0,x1,x2,x3,x4,x5,x6,x7,x8,x9,xf⟩:=bL GR;clear zu wJ L n BK Vd GR MK H C xe q1 q3 q4 q5 p0 p1 p2 p6 p7 yV ho hm h9 P Ve;unfold fM at O;go_wp2_with fail;rw[<-hY];clear hY z0 z1 z2 z3 z4 z5 z6 z7 z8 z9 zf;go_region_with (go_at_call 318;refine bN (O.out _) ?_;rintro v ⟨v1,v2,HV⟩;clear O x0 x1 x2 x3 x4 x5 x6 x7 x8 x9 xf b7);all_goals
     obtain⟨xk,hC⟩:=HV.out;generalize v.setCell (aB S (o+7)) (uZ M)=V at *
     obtain⟨x0,x1,x2,x3,x4,x5,x6,x7,x8,x9,xf⟩:=bL xk;have HC:=aG hC;clear hC xk HV v1 v2;go_wp2_with fail;refine bN HC.out ?_;rintro w' ⟨xl,h0,i⟩;clear x0 x1 x2 x3 x4 x5 x6 x7 x8 x9 xf;obtain⟨x0,x1,x2,x3,x4,x5,x6,x7,x8,x9,xf⟩:=bL xl;obtain⟨r0,r1,r2,r3,r4,r5,r6,r7,r8,r9,rf⟩:=bL h0;have HZ:=aG (dB h0 i);clear xl h0 i HC;go_wp2_with fail;rw[gT];have kr:=gI HZ.out.1 (iZ d.aC) (iZ d.aH) (uZ d.aD) (uZ d.aV) (uZ d.aL) (.bool d.bn) (uZ d.id) (uZ d.aW) (.string d.data) nZ;have qZ:=HZ.out.2 _ (gJ w' w.heap.size (iZ d.aC) (iZ d.aH) (uZ d.aD) (uZ d.aV) (uZ d.aL) (.bool d.bn) (uZ d.id) (uZ d.aW) (.string d.data) nZ);generalize kF w' w.heap.size (iZ d.aC) (iZ d.aH) (uZ d.aD) (uZ d.aV) (uZ d.aL) (.bool d.bn) (uZ d.id) (uZ d.aW) (.string d.data) nZ=Wf at *
     obtain⟨a0,a1,a2,a3,a4,a5,a6,a7,a8,a9,_⟩:=bL kr;refine bodyPost_ret (v:=kX (X.map eT)) (by rw[HX.out];simp[results,results267,go_sem,a0,a1,a2,a3,a4,a5,a6,a7,a8,a9,fM,kX]) rfl ⟨rfl,?_⟩;rw[HX.out];exact qZ
