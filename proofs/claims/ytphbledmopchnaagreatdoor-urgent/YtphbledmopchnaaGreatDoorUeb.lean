import Derived.Test.YtphbledmopchnaaGreatDoorUdc
open Nat renaming le_refl->fA,min_le_right->mR
open Prod renaming fst->fB
set_option maxHeartbeats 4000000
set_option maxRecDepth 100000
namespace Go.Proofs.YtphbledmopchnaaGreatDoor.Sd
open Go.RowKit Go.Lib Mm Tryz
theorem Kj(w:World)(k:Nat)(I:k<8)(lo:Nat)(K:lo<=2048):Ct w (nX k lo) none 0:=by
 have F:(0:Nat)<=aZ:=by decide
 have h1:lo<=aZ:=by unfold aZ;omega
 refine yN w _ ?_ rfl (by show(0:Nat)<=4096;decide) ?_
 ·simp[snd,lM,jK,nX,h1,F];refine⟨by omega,decide_eq_true ?_⟩;show 0+lo<=aZ;omega
 ·have h1:=mU k;have G:=mU lo;have H:=mU (⟨#[]⟩:ByteArray).size;simp[aG,aX,nX,bE,aR,fieldAt];omega
theorem yO(m:Ot)(aB:Nat)(h:m.waits aB=true):(m.waiting aB).1<=min (m.waiting aB).2 m.bytes.length/\(m.waiting aB).2<=m.bytes.length+1:=by
 have K:=of_decide_eq_true h
 have F:∀(rs:aP) (lo e:Nat),(jo lo rs e).2<=e:=by
  intro rs
  induction rs with
  |nil=>intro lo e;exact fA _
  |cons r t G=>
   intro lo e;unfold jo;split
   ·exact mR _ _
   ·split
    ·exact fA _
    ·exact G _ _
 have H:(m.waiting aB).2<=m.bytes.length+1:=by
  have I:m.reach aB<=m.bytes.length:=by unfold Ot.reach;omega
  refine Nat.le_trans (F _ _ _) ?_;split<;>omega
 omega
theorem ER(m:Ot)(aB:Nat)(h:m.waits aB=true)(O:min (m.waiting aB).2 m.bytes.length=(m.waiting aB).1):m.eO (m.waiting aB).1=true:=by
 have U:=of_decide_eq_true h
 have H:∀(rs:aP) (lo e:Nat),(jo lo rs e).2<=e:=by
  intro rs
  induction rs with
  |nil=>intro lo e;exact fA _
  |cons r t I=>
   intro lo e;unfold jo;split
   ·exact mR _ _
   ·split
    ·exact fA _
    ·exact I _ _
 have F:(m.waiting aB).2<=if m.eO (m.reach aB)then m.reach aB+1 else m.reach aB:=H _ _ _
 have K:m.reach aB<=m.bytes.length:=by unfold Ot.reach;omega
 by_cases hq:m.eO (m.reach aB)=true
 ·rw[if_pos hq]at F
  have G:m.reach aB=(m.waiting aB).1:=by omega
  rw[<-G];exact hq
 ·rw[if_neg hq]at F;omega
theorem GT.part{oZ:Own}{t:Nat}{w:World}{a:Option Addr}{c:Nat}{bs:List UInt8}(h:GT oZ t 5 1 w (.slice a bs.length c) bs.length (aQ bs))(lo hi:Nat)(h1:lo<hi)(X:hi<=bs.length):
  ∃g,a=some (aj g 0)/\g<w.heap.size/\BytesAt w (some (aj g lo)) ((bs.take hi).drop lo):=by
 have K:0<bs.length:=by omega
 have O:(aQ bs)[0]?=some (.int .u8 ((bs[0]).toNat:Int)):=by simp[aQ,K]
 obtain⟨g,I,_,U,_⟩:=h.cell 0 _ O;refine⟨g,I,U,fun j V=>⟨g,lo,rfl,?_⟩⟩
 have H:lo+j<bs.length:=by simp at V;omega
 obtain⟨g',G,_,_,F,_⟩:=h.cell (lo+j) (.int .u8 ((bs[lo+j]).toNat:Int)) (by simp[aQ,H]);rw[I]at G;cases G;rw[F];simp
theorem uW{f:Fr}{b:List UInt8}{room:Int}{g:Fr}(h:kI f b room=some g):g.data.size<=b.length/\g={f with data:=g.data}:=by
 unfold kI at h;split at h
 ·cases h
 ·simp only[Option.some.injEq]at h;rw[<-h];refine⟨?_,rfl⟩;show(b.take _).toArray.size<=_;simp;omega
theorem Bn(s:ByteArray):s.toList.isEmpty=decide (s.size=0):=by
 rw[ByteArray.toList_eq,Bool.eq_iff_iff,List.isEmpty_iff_length_eq_zero,decide_eq_true_iff];exact Iff.rfl
theorem Kk(m:Ot)(k:Nat)(room:Int)(aB:Nat):m.next k room aB=(match kI (nX k (m.waiting aB).1) ((m.bytes.take (min (m.waiting aB).2 m.bytes.length)).drop (m.waiting aB).1) room with
  |none=>none
  |some f=>if(m.waiting aB).1<min (m.waiting aB).2 m.bytes.length/\f.data.size=0 then none else some ({f with fin:=m.eO (aJ f)},({m with sent:=max m.sent (aJ f)}:Ot).aw {f with fin:=m.eO (aJ f)})):=rfl
theorem UM(s t:Nat)(oZ:Own)(S o:Nat)(m:Ot)(k:Nat)(h8:k<8)(room:Int)(aB:Nat)(l:aI)(w:World)(hB:aA w S TS l)(hS:oZ S=s)(wb:0<s)(y8:s<t)(hO:xW oZ t w S l o m)(hl:m.bytes.length<=2048)(hs:m.sent+aB<18446744073709551616)(zd:uN m.away)(hw:m.waits aB=true)(y3: -1000000<=room/\room<=1000000):
  Calls prog 267 #[ay S o,iZ k,iZ room,uZ aB] w fun e w'=>e=.returned (jk ((m.next k room aB).map fB))/\iF s t oZ S o l w (((m.next k room aB).map Prod.snd).getD m) w':=by
 obtain⟨W,hW⟩:∃W,W=w.alloc (.cells (ko).toArray 65):=⟨_,rfl⟩
 have hb:aA W w.heap.size 65 ko:=by rw[hW];exact aA.new w 65 _
 have h0:aD w W:=by rw[hW];exact(Below.refl _ w).alloc (fA _) _
 have hsz:W.heap.size=w.heap.size+1:=by rw[hW];simp
 have yq:=hB.of_heap (h0.block _ hB.lt);have ys:=hO.kp (Kp.below (T:=[]) h0) (by simp) (by simp) (by simp) (iN.refl l (o+14) 0) (by omega);have y7:=au (xZ t oZ S o m aB l W yq ys hl hs zd);obtain⟨XL,zy⟩:=yO m aB hw;obtain⟨a,c,va,vc,k1,hc,k2,k3,k4,d0,d1,d2,d6,d7⟩:=hO.open hB;have wG:=au (Kk m k room aB);have oo:=au (ER m aB hw);generalize m.next k room aB=X at *;generalize (m.waiting aB).1=lo at *;generalize (m.waiting aB).2=yz at *;obtain⟨hi,yy⟩:∃hi,hi=min yz m.bytes.length:=⟨_,rfl⟩;rw[<-yy]at wG XL oo;obtain⟨mn,wa,zz⟩:=min2 yz m.bytes.length
 obtain rfl:mn=hi:=by omega
 have zo:mn<=m.bytes.length:=by omega
 have ho:((m.bytes.take mn).drop lo).length=mn-lo:=by simp;omega
 have ya:=zd;have y6:=au (fun y (hy:aD w y)=>qd S o m.bytes.length c a y hl ((hy.cell (p:=(aj S o)) hB.lt).trans d0));have Ag:=hB.lt
 have g1:(lo:Int)<=(mn:Int):=by omega
 have g2:(mn:Int)<=(c:Int):=by omega
 have HB:=au (And.intro hb (And.intro h0 (And.intro hB hO)));have qP:=au (And.intro XL (And.intro zo hl));clear zz yy XL zy hb h0 yq ys k1 k3 k4 hw;unfold ko at hW
 by_cases he:mn=lo
 ·have y9:(m.bytes.take mn).drop lo=[]:=List.length_eq_zero_iff.1 (by rw[ho];omega);rw[y9]at wG;have Pm:=au (fun y (_:aD w y)=>Em (nX k lo) a [] 0 room y (Kj y k h8 lo (by omega)) rfl (fun j hj=>by simp at hj) (fun _=>rfl) (by simp) (by simp) y3);generalize xm:kI (nX k lo) [] room=F0 at *;unfold nX bR at Pm;clear y9 ho k2;go_enter func267,ntmps267
  go_wp2_with fail
  rw[<-hW];refine y7.out.mono ?_;rintro e y ⟨rfl,h7⟩;obtain⟨hb,h0,hB,hO⟩:=HB.out;have h_:=h0.trans (h7.mono (by omega));have JZ:=au (y6.out y h_);have Td:=au (Pm.out y h_);have e0:y.cell? (aj S o)=some (.slice a m.bytes.length c):=(h_.cell (p:=(aj S o)) Ag).trans d0;have HY:=au (And.intro (hb.of_heap (h7.block _ (by omega))) h_);have zx:=h7.size;clear h7 hb h0 hB hO h_ y6 Pm y7 d0 d1 d2 d6 d7 hW
  go_wp2_with fail
  refine JZ.out.mono ?_;rintro e z ⟨rfl,rfl⟩
  go_wp2_with fail
  refine Td.out.mono ?_;rintro e u ⟨rfl,h6⟩;obtain⟨xx,hv⟩:=HY.out;have IC:=xx.of_heap (h6.block _ (by omega));have y4:=hv.trans (h6.mono hv.size);have zv:=h6.size;obtain⟨r0,r1,r2,r3,r4,r5,r6,r7,r8,r9,rf⟩:=aH IC;have HU:=au (And.intro IC y4);clear h6 xx hv IC y4 Td JZ HY e0
  have yn:w.heap.size<u.heap.size:=by omega
  have yp:¬(w.heap.size=u.heap.size):=by omega
  cases F0 with
  |none=>
   have HX:Hid (X=none):=wG.out;clear wG;unfold jk bR
   go_wp2_with fail
   rw[dI];have iB:=dh HU.out.1 (iZ 0) (iZ 0) (uZ 0) (uZ 0) (uZ 0) (.bool false) (uZ 0) (uZ 0) (.string ⟨#[]⟩) nZ;have lX:=dw u w.heap.size (iZ 0) (iZ 0) (uZ 0) (uZ 0) (uZ 0) (.bool false) (uZ 0) (uZ 0) (.string ⟨#[]⟩) nZ;generalize iA u w.heap.size (iZ 0) (iZ 0) (uZ 0) (uZ 0) (uZ 0) (.bool false) (uZ 0) (uZ 0) (.string ⟨#[]⟩) nZ=Wf at *;have h9:=lX.below HU.out.2 (fA _);generalize G:Wf.alloc (.cells #[iZ dS.kind,iZ dS.stream,uZ dS.offset,uZ dS.reliable,uZ dS.limit,.bool dS.fin,uZ dS.id,uZ dS.deadline,.string dS.data,nZ] 65)=Z
   have xi:aA Z w.heap.size 65 ko:=by rw[<-G];exact iB.alloc _
   have UN:aD w Z:=by rw[<-G];exact h9.alloc h9.size _
   obtain⟨a0,a1,a2,a3,a4,a5,a6,a7,a8,a9,_⟩:=aH xi;refine bodyPost_ret (v:=jk (X.map fB)) (by rw[HX.out];simp[results,results267,go_sem,a0,a1,a2,a3,a4,a5,a6,a7,a8,a9,bR,jk,dS]) rfl ⟨rfl,?_⟩;rw[HX.out];exact iF.refl HB.out.2.2.1 HB.out.2.2.2 UN
  |some f=>
   have zc:¬(lo<mn):=by omega
   obtain⟨F,I⟩:∃F:Fr,F={f with fin:=m.eO (aJ f)}:=⟨_,rfl⟩
   have HX:Hid (X=some (F,({m with sent:=max m.sent (aJ f)}:Ot).aw F)):=by
    unfold Hid;rw[wG.out,I];exact if_neg (fun h=>zc h.1)
   clear wG;obtain⟨y0,xz⟩:=uW xm;simp only[List.length_nil]at y0
   have yk:f.offset=lo:=by rw[xz];rfl
   have zj:aJ f<=mn:=by unfold aJ;omega
   have yr:aJ f=lo:=by unfold aJ;omega
   have hf:aJ F=aJ f:=by rw[I];rfl
   have hx:F.fin=m.eO (aJ f):=by rw[I]
   have ye:=qP.out;have xj:ru F:=⟨by rw[I];show f.offset<=2048;omega,by rw[hf];omega,.inl (by rw[hx,yr];exact oo.out he)⟩
   have xy:bZ F nZ=[iZ f.kind,iZ f.stream,uZ f.offset,uZ f.reliable,uZ f.limit,.bool (m.eO (aJ f)),uZ f.id,uZ f.deadline,.string f.data,nZ]:=by rw[I]
   obtain⟨U,hU⟩:∃U,U=u.alloc (.cells (bZ f nZ).toArray 65):=⟨_,rfl⟩
   have hm:aA U u.heap.size 65 (bZ f nZ):=by rw[hU];exact aA.new u 65 _
   have xr:aD u U:=by rw[hU];exact(Below.refl _ u).alloc (fA _) _
   have zp:U.heap.size=u.heap.size+1:=by rw[hU];simp
   have Te:=au (iP f nZ U (by unfold aZ;omega) (by omega));obtain⟨x0,x1,x2,x3,x4,x5,x6,x7,x8,x9,xf⟩:=aH hm;have IE:=au (And.intro hm (And.intro xr xj));have xd:=au xy;have xa:=au (And.intro hf hx);clear hm xr xj xy hf hx I xz xm y0 ye yk yr;unfold jk bR;unfold bZ at hU
   go_wp2_with fail
   rw[<-hU];clear hU;refine Te.out.mono ?_;rintro e y1 ⟨rfl,pK⟩;generalize zn:aJ f=E at *;have hu:aD w U:=HU.out.2.trans (IE.out.2.1.mono HU.out.2.size);have CX:aD w y1:=hu.trans (pK.mono hu.size);have H:=HB.out.2.2.1.of_heap (CX.block _ Ag);have wJ:=HB.out.2.2.2.kp (Kp.below (T:=[]) CX) (by simp) (by simp) (by simp) (iN.refl l (o+14) 0) (by omega);obtain⟨a1,c1,w5,ME,_,_,_,_,_,p0,p1,p2,p6,p7⟩:=wJ.open H;have uO:=au (uM S o m.bytes.length c1 E a1 m.fin m.nt.given y1 qP.out.2.2 p0 p1 p2);have uX:=IE.out.1.of_heap (pK.block _ (by omega));obtain⟨z0,z1,z2,z3,z4,z5,z6,z7,z8,z9,zf⟩:=aH uX
   have rG:=HU.out.1.of_heap ((IE.out.2.1.block _ yn)) |>.of_heap (pK.block _ (by omega))
   have xe:=au (And.intro uX (And.intro rG (And.intro CX (And.intro H wJ))));have w3:=pK.size;clear pK hu CX H wJ uX rG p0 p1 p2 p6 p7 x0 x1 x2 x3 x4 x5 x6 x7 x8 x9 xf r0 r1 r2 r3 r4 r5 r6 r7 r8 r9 rf Te
   go_wp2_with fail
   refine uO.out.mono ?_;rintro e y ⟨rfl,rfl⟩;obtain⟨uX,rG,h_,H,wJ⟩:=xe.out;obtain⟨Y,hY⟩:∃Y,Y=y.setCell (aj u.heap.size 5) (.bool (m.fin&& !m.nt.given&&decide (E=m.bytes.length))):=⟨_,rfl⟩
   have P8:je u.heap.size y Y:=by rw[hY];exact(je.refl _ _).set 5 _
   have CY:aA Y u.heap.size 65 (bZ F nZ):=by
    rw[xd.out,hY,show m.eO E=(m.fin&& !m.nt.given&&decide (E=m.bytes.length))from rfl];exact uX.setCell 5 _
   have IG:=rG.of_heap (P8.block _ yp);have UO:=P8.below h_ (by omega);have h5:=H.of_heap (P8.block _ (by omega));have xo:=HB.out.2.2.2.kp (Kp.below (T:=[]) UO) (by simp) (by simp) (by simp) (iN.refl l (o+14) 0) (by omega);have zr:Y.heap.size=y.heap.size:=P8.size;obtain⟨a2,c2,w7,w8,q1,_,q3,q4,q5,p0,p1,p2,p6,p7⟩:=xo.open h5;obtain⟨mx,zt,P9⟩:=max2 m.sent E
   have hk:Hid (∀q,Calls prog 318 #[bR F nZ] (Y.drewN q) fun e v=>e=.returned (uZ E)/\v.cell? (aj S (o+7))=some (uZ m.sent)/\v.frozen? (aj S (o+7))=false/\
     Hid (aA (v.setCell (aj S (o+7)) (uZ mx)) u.heap.size 65 (bZ F nZ)/\Calls prog 319 #[ay S o,bR F nZ] (v.setCell (aj S (o+7)) (uZ mx)) fun e w'=>e=.returned (.tuple #[])/\aA w' u.heap.size 65 (bZ F nZ)/\aA w' w.heap.size 65 ko/\∀Z,je w.heap.size w' Z->iF s t oZ S o l w (({m with sent:=max m.sent E}:Ot).aw F) Z)):=fun q=>by
    have xl:=iP F nZ (Y.drewN q) IE.out.2.2.om IE.out.2.2.d;rw[xa.out.1]at xl;refine xl.mono ?_;rintro e v ⟨rfl,yP⟩;have K:aD Y v:=⟨yP.os,yP.tape,yP.output,yP.size,yP.block⟩;have y5:=UO.trans (K.mono UO.size);have UQ:=h5.of_heap (K.block _ h5.lt);have P_:=CY.of_heap (K.block _ CY.lt);have II:=IG.of_heap (K.block _ IG.lt);have zw:=K.size;refine⟨rfl,by rw[UQ.cell];exact q1.c7,UQ.frozen _,?_⟩;obtain⟨ow,O⟩:∃ow,ow=loc oZ w.heap.size:=⟨_,rfl⟩
    have xp:ow S=s:=by rw[O,fM _ _ _ Ag,hS]
    have yi:xW ow t w S l o m:=by
     obtain⟨vb,va,vc,k1,k2,k3,k4⟩:=HB.out.2.2.2;rw[O];exact⟨vb,va,vc,k1,k2.loc,k3.loc,k4.loc⟩
    have yf:=yi.kp (Kp.below (T:=[]) y5) (by simp) (by simp) (by simp) (iN.refl l (o+14) 0) (by omega);obtain⟨bD,l1,h1,h2,h3,h4⟩:=wZ UQ xp y8 yf (o+7) (uZ mx) (by omega) (by omega) (m':={m with sent:=mx}) (fun _ _ _ h=>Er h mx) rfl rfl rfl
    have hz:∀b,w.heap.size<=b->ow b∉[s,t,t+1,t+2]:=fun b hb=>by rw[O,fD _ _ _ hb];simp;omega
    have MF:=aO P_ h1 (hz _ (by omega));have w4:=aO II h1 (hz _ (fA _));refine⟨MF,?_⟩;rw[<-P9];refine(wY s t bD S o {m with sent:=mx} F nZ l1 (v.setCell (aj S (o+7)) (uZ mx)) h2 (by rw[h1.ext _ UQ.lt,xp]) y8 h4 ya IE.out.2.2).mono ?_;rintro e w' ⟨rfl,dx,l2,g1,g2,g3,g4⟩;have hK:Kp [s,t,t+1,t+2] ow dx v w':=h1.trans ⟨g1.os,g1.tape,g1.output,g1.size,g1.blk,g1.ext⟩;have xn:Kp [s,t,t+1,t+2] ow dx w w':=(Kp.below y5).trans hK;refine⟨rfl,aO P_ hK (hz _ (by omega)),aO II hK (hz _ (fA _)),fun Z G=>?_⟩
    have ym:dx w.heap.size=0:=by rw[hK.ext _ II.lt,O,fD _ _ _ (fA _)]
    have yd:Kp [0] dx dx w' Z:=⟨G.os,G.tape,G.output,by rw[G.size];exact fA _,fun b _ hn=>G.block b (fun e=>hn (by rw[e,ym];simp)),fun _ _=>rfl⟩;rw[O]at xn;exact⟨dx,l2,G.kp xn.jm (fA _),g2.of_heap (G.block _ (by omega)),h3.trans g3,g4.kp yd (by simp;omega) (by simp) (by simp) (iN.refl l2 (o+14) 0) (by omega)⟩
   have b7:Y.cell? (aj S (o+7))=some (uZ m.sent):=p7
   have n1:¬(S=u.heap.size):=by omega
   have n2:¬(u.heap.size=S):=by omega
   obtain⟨x0,x1,x2,x3,x4,x5,x6,x7,x8,x9,xf⟩:=aH CY;clear uX rG h_ H wJ P8 CY IG UO h5 xo q1 q3 q4 q5 p0 p1 p2 p6 p7 uO xe xd xa IE P9;unfold bR at hk
   go_wp2_with fail
   rw[<-hY];clear hY z0 z1 z2 z3 z4 z5 z6 z7 z8 z9 zf
   go_region_with (go_at_call 318;refine(hk.out _).mono ?_;rintro e v ⟨rfl,v1,v2,HV⟩;clear hk x0 x1 x2 x3 x4 x5 x6 x7 x8 x9 xf b7)
   all_goals
    obtain⟨xt,hC⟩:=HV.out;generalize v.setCell (aj S (o+7)) (uZ mx)=V at *;obtain⟨x0,x1,x2,x3,x4,x5,x6,x7,x8,x9,xf⟩:=aH xt;have HC:=au hC;clear hC xt HV v1 v2
    go_wp2_with fail
    refine HC.out.mono ?_;rintro e w' ⟨rfl,xv,hr,G⟩;clear x0 x1 x2 x3 x4 x5 x6 x7 x8 x9 xf;obtain⟨x0,x1,x2,x3,x4,x5,x6,x7,x8,x9,xf⟩:=aH xv;obtain⟨r0,r1,r2,r3,r4,r5,r6,r7,r8,r9,rf⟩:=aH hr;have HZ:=au (And.intro hr G);clear xv hr G HC
    go_wp2_with fail
    rw[dI];have iB:=dh HZ.out.1 (iZ F.kind) (iZ F.stream) (uZ F.offset) (uZ F.reliable) (uZ F.limit) (.bool F.fin) (uZ F.id) (uZ F.deadline) (.string F.data) nZ;have lX:=HZ.out.2 _ (dw w' w.heap.size (iZ F.kind) (iZ F.stream) (uZ F.offset) (uZ F.reliable) (uZ F.limit) (.bool F.fin) (uZ F.id) (uZ F.deadline) (.string F.data) nZ);generalize iA w' w.heap.size (iZ F.kind) (iZ F.stream) (uZ F.offset) (uZ F.reliable) (uZ F.limit) (.bool F.fin) (uZ F.id) (uZ F.deadline) (.string F.data) nZ=Wf at *;obtain⟨a0,a1,a2,a3,a4,a5,a6,a7,a8,a9,_⟩:=aH iB;refine bodyPost_ret (v:=jk (X.map fB)) (by rw[HX.out];simp[results,results267,go_sem,a0,a1,a2,a3,a4,a5,a6,a7,a8,a9,bR,jk]) rfl ⟨rfl,?_⟩;rw[HX.out];exact lX
 ·obtain⟨g,ha,hg,yv⟩:=k2.part lo mn (by have:=qP.out;omega) qP.out.2.1;have Pm:=au (fun y (hy:aD w y)=>Em (nX k lo) (some (aj g lo)) ((m.bytes.take mn).drop lo) (mn-lo) room y (Kj y k h8 lo (by have:=qP.out;omega)) rfl (BytesAt.below' yv hy) (fun e=>by cases e) (by have:=qP.out;omega) (by omega) y3);rw[ho]at Pm;generalize xm:kI (nX k lo) ((m.bytes.take mn).drop lo) room=F0 at *;unfold nX bR at Pm;clear yv ho k2;subst ha;go_enter func267,ntmps267
  go_wp2_with fail
  rw[<-hW];refine y7.out.mono ?_;rintro e y ⟨rfl,h7⟩;obtain⟨hb,h0,hB,hO⟩:=HB.out;have h_:=h0.trans (h7.mono (by omega));have JZ:=au (y6.out y h_);have Td:=au (Pm.out y h_);have e0:y.cell? (aj S o)=some (aS g m.bytes.length c):=(h_.cell (p:=(aj S o)) Ag).trans d0;have HY:=au (And.intro (hb.of_heap (h7.block _ (by omega))) h_);have zx:=h7.size;clear h7 hb h0 hB hO h_ y6 Pm y7 d0 d1 d2 d6 d7 hW
  go_wp2_with fail
  refine JZ.out.mono ?_;rintro e z ⟨rfl,rfl⟩
  go_wp2_with fail
  refine Td.out.mono ?_;rintro e u ⟨rfl,h6⟩;obtain⟨xx,hv⟩:=HY.out;have IC:=xx.of_heap (h6.block _ (by omega));have y4:=hv.trans (h6.mono hv.size);have zv:=h6.size;obtain⟨r0,r1,r2,r3,r4,r5,r6,r7,r8,r9,rf⟩:=aH IC;have HU:=au (And.intro IC y4);clear h6 xx hv IC y4 Td JZ HY e0
  have yn:w.heap.size<u.heap.size:=by omega
  have yp:¬(w.heap.size=u.heap.size):=by omega
  cases F0 with
  |none=>
   have HX:Hid (X=none):=wG.out;clear wG;unfold jk bR
   go_wp2_with fail
   rw[dI];have iB:=dh HU.out.1 (iZ 0) (iZ 0) (uZ 0) (uZ 0) (uZ 0) (.bool false) (uZ 0) (uZ 0) (.string ⟨#[]⟩) nZ;have lX:=dw u w.heap.size (iZ 0) (iZ 0) (uZ 0) (uZ 0) (uZ 0) (.bool false) (uZ 0) (uZ 0) (.string ⟨#[]⟩) nZ;generalize iA u w.heap.size (iZ 0) (iZ 0) (uZ 0) (uZ 0) (uZ 0) (.bool false) (uZ 0) (uZ 0) (.string ⟨#[]⟩) nZ=Wf at *;have h9:=lX.below HU.out.2 (fA _);generalize G:Wf.alloc (.cells #[iZ dS.kind,iZ dS.stream,uZ dS.offset,uZ dS.reliable,uZ dS.limit,.bool dS.fin,uZ dS.id,uZ dS.deadline,.string dS.data,nZ] 65)=Z
   have xi:aA Z w.heap.size 65 ko:=by rw[<-G];exact iB.alloc _
   have UN:aD w Z:=by rw[<-G];exact h9.alloc h9.size _
   obtain⟨a0,a1,a2,a3,a4,a5,a6,a7,a8,a9,_⟩:=aH xi;refine bodyPost_ret (v:=jk (X.map fB)) (by rw[HX.out];simp[results,results267,go_sem,a0,a1,a2,a3,a4,a5,a6,a7,a8,a9,bR,jk,dS]) rfl ⟨rfl,?_⟩;rw[HX.out];exact iF.refl HB.out.2.2.1 HB.out.2.2.2 UN
  |some f=>
   by_cases hd:f.data.size=0
   ·have HX:Hid (X=none):=by
     unfold Hid;rw[wG.out];exact if_pos ⟨by have:=qP.out;omega,hd⟩
    have zb:lo<mn:=by have:=qP.out;omega
    have zs:f.data.toList.isEmpty=true:=by rw[Bn];exact decide_eq_true hd
    clear wG;unfold jk bR
    go_wp2_with fail
    rw[dI];have iB:=dh HU.out.1 (iZ 0) (iZ 0) (uZ 0) (uZ 0) (uZ 0) (.bool false) (uZ 0) (uZ 0) (.string ⟨#[]⟩) nZ;have lX:=dw u w.heap.size (iZ 0) (iZ 0) (uZ 0) (uZ 0) (uZ 0) (.bool false) (uZ 0) (uZ 0) (.string ⟨#[]⟩) nZ;generalize iA u w.heap.size (iZ 0) (iZ 0) (uZ 0) (uZ 0) (uZ 0) (.bool false) (uZ 0) (uZ 0) (.string ⟨#[]⟩) nZ=Wf at *;have h9:=lX.below HU.out.2 (fA _);generalize G:Wf.alloc (.cells #[iZ f.kind,iZ f.stream,uZ f.offset,uZ f.reliable,uZ f.limit,.bool f.fin,uZ f.id,uZ f.deadline,.string f.data,nZ] 65)=Z
    have xi:aA Z w.heap.size 65 ko:=by rw[<-G];exact iB.alloc _
    have UN:aD w Z:=by rw[<-G];exact h9.alloc h9.size _
    obtain⟨a0,a1,a2,a3,a4,a5,a6,a7,a8,a9,_⟩:=aH xi;refine bodyPost_ret (v:=jk (X.map fB)) (by rw[HX.out];simp[results,results267,go_sem,a0,a1,a2,a3,a4,a5,a6,a7,a8,a9,bR,jk,dS]) rfl ⟨rfl,?_⟩;rw[HX.out];exact iF.refl HB.out.2.2.1 HB.out.2.2.2 UN
   ·have zs:f.data.toList.isEmpty=false:=by rw[Bn];exact decide_eq_false hd
    have zb:lo<mn:=by have:=qP.out;omega
    obtain⟨F,I⟩:∃F:Fr,F={f with fin:=m.eO (aJ f)}:=⟨_,rfl⟩
    have HX:Hid (X=some (F,({m with sent:=max m.sent (aJ f)}:Ot).aw F)):=by
     unfold Hid;rw[wG.out,I];exact if_neg (fun h=>hd h.2)
    clear wG;obtain⟨y0,xz⟩:=uW xm
    have ho:((m.bytes.take mn).drop lo).length=mn-lo:=by have:=qP.out;simp;omega
    rw[ho]at y0
    have yk:f.offset=lo:=by rw[xz];rfl
    have zj:aJ f<=mn:=by unfold aJ;omega
    have zg:0<aJ f:=by unfold aJ;omega
    have hf:aJ F=aJ f:=by rw[I];rfl
    have hx:F.fin=m.eO (aJ f):=by rw[I]
    have ye:=qP.out;have xj:ru F:=⟨by rw[I];show f.offset<=2048;omega,by rw[hf];omega,.inr (by rw[hf];exact zg)⟩
    have xy:bZ F nZ=[iZ f.kind,iZ f.stream,uZ f.offset,uZ f.reliable,uZ f.limit,.bool (m.eO (aJ f)),uZ f.id,uZ f.deadline,.string f.data,nZ]:=by rw[I]
    obtain⟨U,hU⟩:∃U,U=u.alloc (.cells (bZ f nZ).toArray 65):=⟨_,rfl⟩
    have hm:aA U u.heap.size 65 (bZ f nZ):=by rw[hU];exact aA.new u 65 _
    have xr:aD u U:=by rw[hU];exact(Below.refl _ u).alloc (fA _) _
    have zp:U.heap.size=u.heap.size+1:=by rw[hU];simp
    have Te:=au (iP f nZ U (by unfold aZ;omega) (by omega));obtain⟨x0,x1,x2,x3,x4,x5,x6,x7,x8,x9,xf⟩:=aH hm;have IE:=au (And.intro hm (And.intro xr xj));have xd:=au xy;have xa:=au (And.intro hf hx);clear hm xr xj xy hf hx I xz xm y0 ye yk ho;unfold jk bR;unfold bZ at hU
    go_wp2_with fail
    rw[<-hU];clear hU;refine Te.out.mono ?_;rintro e y1 ⟨rfl,pK⟩;generalize zn:aJ f=E at *;have hu:aD w U:=HU.out.2.trans (IE.out.2.1.mono HU.out.2.size);have CX:aD w y1:=hu.trans (pK.mono hu.size);have H:=HB.out.2.2.1.of_heap (CX.block _ Ag);have wJ:=HB.out.2.2.2.kp (Kp.below (T:=[]) CX) (by simp) (by simp) (by simp) (iN.refl l (o+14) 0) (by omega);obtain⟨a1,c1,w5,ME,_,_,_,_,_,p0,p1,p2,p6,p7⟩:=wJ.open H;have uO:=au (uM S o m.bytes.length c1 E a1 m.fin m.nt.given y1 qP.out.2.2 p0 p1 p2);have uX:=IE.out.1.of_heap (pK.block _ (by omega));obtain⟨z0,z1,z2,z3,z4,z5,z6,z7,z8,z9,zf⟩:=aH uX
    have rG:=HU.out.1.of_heap ((IE.out.2.1.block _ yn)) |>.of_heap (pK.block _ (by omega))
    have xe:=au (And.intro uX (And.intro rG (And.intro CX (And.intro H wJ))));have w3:=pK.size;clear pK hu CX H wJ uX rG p0 p1 p2 p6 p7 x0 x1 x2 x3 x4 x5 x6 x7 x8 x9 xf r0 r1 r2 r3 r4 r5 r6 r7 r8 r9 rf Te
    go_wp2_with fail
    refine uO.out.mono ?_;rintro e y ⟨rfl,rfl⟩;obtain⟨uX,rG,h_,H,wJ⟩:=xe.out;obtain⟨Y,hY⟩:∃Y,Y=y.setCell (aj u.heap.size 5) (.bool (m.fin&& !m.nt.given&&decide (E=m.bytes.length))):=⟨_,rfl⟩
    have P8:je u.heap.size y Y:=by rw[hY];exact(je.refl _ _).set 5 _
    have CY:aA Y u.heap.size 65 (bZ F nZ):=by
     rw[xd.out,hY,show m.eO E=(m.fin&& !m.nt.given&&decide (E=m.bytes.length))from rfl];exact uX.setCell 5 _
    have IG:=rG.of_heap (P8.block _ yp);have UO:=P8.below h_ (by omega);have h5:=H.of_heap (P8.block _ (by omega));have xo:=HB.out.2.2.2.kp (Kp.below (T:=[]) UO) (by simp) (by simp) (by simp) (iN.refl l (o+14) 0) (by omega);have zr:Y.heap.size=y.heap.size:=P8.size;obtain⟨a2,c2,w7,w8,q1,_,q3,q4,q5,p0,p1,p2,p6,p7⟩:=xo.open h5;obtain⟨mx,zt,P9⟩:=max2 m.sent E
    have hk:Hid (∀q,Calls prog 318 #[bR F nZ] (Y.drewN q) fun e v=>e=.returned (uZ E)/\v.cell? (aj S (o+7))=some (uZ m.sent)/\v.frozen? (aj S (o+7))=false/\
      Hid (aA (v.setCell (aj S (o+7)) (uZ mx)) u.heap.size 65 (bZ F nZ)/\Calls prog 319 #[ay S o,bR F nZ] (v.setCell (aj S (o+7)) (uZ mx)) fun e w'=>e=.returned (.tuple #[])/\aA w' u.heap.size 65 (bZ F nZ)/\aA w' w.heap.size 65 ko/\∀Z,je w.heap.size w' Z->iF s t oZ S o l w (({m with sent:=max m.sent E}:Ot).aw F) Z)):=fun q=>by
     have xl:=iP F nZ (Y.drewN q) IE.out.2.2.om IE.out.2.2.d;rw[xa.out.1]at xl;refine xl.mono ?_;rintro e v ⟨rfl,yP⟩;have K:aD Y v:=⟨yP.os,yP.tape,yP.output,yP.size,yP.block⟩;have y5:=UO.trans (K.mono UO.size);have UQ:=h5.of_heap (K.block _ h5.lt);have P_:=CY.of_heap (K.block _ CY.lt);have II:=IG.of_heap (K.block _ IG.lt);have zw:=K.size;refine⟨rfl,by rw[UQ.cell];exact q1.c7,UQ.frozen _,?_⟩;obtain⟨ow,O⟩:∃ow,ow=loc oZ w.heap.size:=⟨_,rfl⟩
     have xp:ow S=s:=by rw[O,fM _ _ _ Ag,hS]
     have yi:xW ow t w S l o m:=by
      obtain⟨vb,va,vc,k1,k2,k3,k4⟩:=HB.out.2.2.2;rw[O];exact⟨vb,va,vc,k1,k2.loc,k3.loc,k4.loc⟩
     have yf:=yi.kp (Kp.below (T:=[]) y5) (by simp) (by simp) (by simp) (iN.refl l (o+14) 0) (by omega);obtain⟨bD,l1,h1,h2,h3,h4⟩:=wZ UQ xp y8 yf (o+7) (uZ mx) (by omega) (by omega) (m':={m with sent:=mx}) (fun _ _ _ h=>Er h mx) rfl rfl rfl
     have hz:∀b,w.heap.size<=b->ow b∉[s,t,t+1,t+2]:=fun b hb=>by rw[O,fD _ _ _ hb];simp;omega
     have MF:=aO P_ h1 (hz _ (by omega));have w4:=aO II h1 (hz _ (fA _));refine⟨MF,?_⟩;rw[<-P9];refine(wY s t bD S o {m with sent:=mx} F nZ l1 (v.setCell (aj S (o+7)) (uZ mx)) h2 (by rw[h1.ext _ UQ.lt,xp]) y8 h4 ya IE.out.2.2).mono ?_;rintro e w' ⟨rfl,dx,l2,g1,g2,g3,g4⟩;have hK:Kp [s,t,t+1,t+2] ow dx v w':=h1.trans ⟨g1.os,g1.tape,g1.output,g1.size,g1.blk,g1.ext⟩;have xn:Kp [s,t,t+1,t+2] ow dx w w':=(Kp.below y5).trans hK;refine⟨rfl,aO P_ hK (hz _ (by omega)),aO II hK (hz _ (fA _)),fun Z G=>?_⟩
     have ym:dx w.heap.size=0:=by rw[hK.ext _ II.lt,O,fD _ _ _ (fA _)]
     have yd:Kp [0] dx dx w' Z:=⟨G.os,G.tape,G.output,by rw[G.size];exact fA _,fun b _ hn=>G.block b (fun e=>hn (by rw[e,ym];simp)),fun _ _=>rfl⟩;rw[O]at xn;exact⟨dx,l2,G.kp xn.jm (fA _),g2.of_heap (G.block _ (by omega)),h3.trans g3,g4.kp yd (by simp;omega) (by simp) (by simp) (iN.refl l2 (o+14) 0) (by omega)⟩
    have b7:Y.cell? (aj S (o+7))=some (uZ m.sent):=p7
    have n1:¬(S=u.heap.size):=by omega
    have n2:¬(u.heap.size=S):=by omega
    obtain⟨x0,x1,x2,x3,x4,x5,x6,x7,x8,x9,xf⟩:=aH CY;clear uX rG h_ H wJ P8 CY IG UO h5 xo q1 q3 q4 q5 p0 p1 p2 p6 p7 uO xe xd xa IE P9;unfold bR at hk
    go_wp2_with fail
    rw[<-hY];clear hY z0 z1 z2 z3 z4 z5 z6 z7 z8 z9 zf
    go_region_with (go_at_call 318;refine(hk.out _).mono ?_;rintro e v ⟨rfl,v1,v2,HV⟩;clear hk x0 x1 x2 x3 x4 x5 x6 x7 x8 x9 xf b7)
    all_goals
     obtain⟨xt,hC⟩:=HV.out;generalize v.setCell (aj S (o+7)) (uZ mx)=V at *;obtain⟨x0,x1,x2,x3,x4,x5,x6,x7,x8,x9,xf⟩:=aH xt;have HC:=au hC;clear hC xt HV v1 v2
     go_wp2_with fail
     refine HC.out.mono ?_;rintro e w' ⟨rfl,xv,hr,G⟩;clear x0 x1 x2 x3 x4 x5 x6 x7 x8 x9 xf;obtain⟨x0,x1,x2,x3,x4,x5,x6,x7,x8,x9,xf⟩:=aH xv;obtain⟨r0,r1,r2,r3,r4,r5,r6,r7,r8,r9,rf⟩:=aH hr;have HZ:=au (And.intro hr G);clear xv hr G HC
     go_wp2_with fail
     rw[dI];have iB:=dh HZ.out.1 (iZ F.kind) (iZ F.stream) (uZ F.offset) (uZ F.reliable) (uZ F.limit) (.bool F.fin) (uZ F.id) (uZ F.deadline) (.string F.data) nZ;have lX:=HZ.out.2 _ (dw w' w.heap.size (iZ F.kind) (iZ F.stream) (uZ F.offset) (uZ F.reliable) (uZ F.limit) (.bool F.fin) (uZ F.id) (uZ F.deadline) (.string F.data) nZ);generalize iA w' w.heap.size (iZ F.kind) (iZ F.stream) (uZ F.offset) (uZ F.reliable) (uZ F.limit) (.bool F.fin) (uZ F.id) (uZ F.deadline) (.string F.data) nZ=Wf at *;obtain⟨a0,a1,a2,a3,a4,a5,a6,a7,a8,a9,_⟩:=aH iB;refine bodyPost_ret (v:=jk (X.map fB)) (by rw[HX.out];simp[results,results267,go_sem,a0,a1,a2,a3,a4,a5,a6,a7,a8,a9,bR,jk]) rfl ⟨rfl,?_⟩;rw[HX.out];exact lX
