import Derived.Test.YtphbledmopchnaaGreatDoorKdb
open Nat renaming le_refl->jK,min_le_right->nI
open Prod renaming fst->mR
set_option maxHeartbeats 4000000
set_option maxRecDepth 100000
namespace Go.Proofs.YtphbledmopchnaaGreatDoor.Sd
open Go.RowKit Go.Lib Mm Tryz
theorem Jq(w:World)(k:Nat)(I:k<8)(lo:Nat)(O:lo<=2048):Di w (mV k lo) none 0:=by
 have F:(0:Nat)<=aU:=by decide
 have h1:lo<=aU:=by unfold aU;omega
 refine xJ w _ ?_ rfl (by show(0:Nat)<=4096;decide) ?_
 ·simp[snd,kG,jf,mV,h1,F];refine⟨by omega,decide_eq_true ?_⟩;show 0+lo<=aU;omega
 ·have h1:=lJ k;have G:=lJ lo;have H:=lJ (⟨#[]⟩:ByteArray).size;simp[aB,aQ,mV,aX,aO,fieldAt];omega
theorem xK(m:Ot)(au:Nat)(h:m.waits au=true):(m.waiting au).1<=min (m.waiting au).2 m.bytes.length/\(m.waiting au).2<=m.bytes.length+1:=by
 have O:=of_decide_eq_true h
 have F:∀(rs:List (Nat×Nat)) (lo e:Nat),(iP lo rs e).2<=e:=by
  intro rs
  induction rs with
  |nil=>intro lo e;exact jK _
  |cons r t G=>
   intro lo e;unfold iP;split
   ·exact nI _ _
   ·split
    ·exact jK _
    ·exact G _ _
 have H:(m.waiting au).2<=m.bytes.length+1:=by
  have I:m.reach au<=m.bytes.length:=by unfold Ot.reach;omega
  refine Nat.le_trans (F _ _ _) ?_;split<;>omega
 omega
theorem D_(m:Ot)(au:Nat)(h:m.waits au=true)(U:min (m.waiting au).2 m.bytes.length=(m.waiting au).1):m.dK (m.waiting au).1=true:=by
 have V:=of_decide_eq_true h
 have H:∀(rs:List (Nat×Nat)) (lo e:Nat),(iP lo rs e).2<=e:=by
  intro rs
  induction rs with
  |nil=>intro lo e;exact jK _
  |cons r t I=>
   intro lo e;unfold iP;split
   ·exact nI _ _
   ·split
    ·exact jK _
    ·exact I _ _
 have F:(m.waiting au).2<=if m.dK (m.reach au)then m.reach au+1 else m.reach au:=H _ _ _
 have O:m.reach au<=m.bytes.length:=by unfold Ot.reach;omega
 by_cases hq:m.dK (m.reach au)=true
 ·rw[if_pos hq]at F
  have G:m.reach au=(m.waiting au).1:=by omega
  rw[<-G];exact hq
 ·rw[if_neg hq]at F;omega
theorem GT.part{own:Own}{t:Nat}{w:World}{a:Option Addr}{c:Nat}{bs:List UInt8}(h:GT own t 5 1 w (.slice a bs.length c) bs.length (aJ bs))(lo hi:Nat)(h1:lo<hi)(Z:hi<=bs.length):
  ∃g,a=some ⟨g,0,none⟩/\g<w.heap.size/\BytesAt w (some ⟨g,lo,none⟩) ((bs.take hi).drop lo):=by
 have O:0<bs.length:=by omega
 have U:(aJ bs)[0]?=some (.int .u8 ((bs[0]).toNat:Int)):=by simp[aJ,O]
 obtain⟨g,I,_,V,_⟩:=h.cell 0 _ U;refine⟨g,I,V,fun j X=>⟨g,lo,rfl,?_⟩⟩
 have H:lo+j<bs.length:=by simp at X;omega
 obtain⟨g',G,_,_,F,_⟩:=h.cell (lo+j) (.int .u8 ((bs[lo+j]).toNat:Int)) (by simp[aJ,H]);rw[I]at G;cases G;rw[F];simp
theorem t_{f:Fr}{b:List UInt8}{room:Int}{g:Fr}(h:ko f b room=some g):g.data.size<=b.length/\g={f with data:=g.data}:=by
 unfold ko at h;split at h
 ·cases h
 ·simp only[Option.some.injEq]at h;rw[<-h];refine⟨?_,rfl⟩;show(b.take _).toArray.size<=_;simp;omega
theorem Ae(s:ByteArray):s.toList.isEmpty=decide (s.size=0):=by
 rw[ByteArray.toList_eq,Bool.eq_iff_iff,List.isEmpty_iff_length_eq_zero,decide_eq_true_iff];exact Iff.rfl
theorem Jr(m:Ot)(k:Nat)(room:Int)(au:Nat):m.next k room au=(match ko (mV k (m.waiting au).1) ((m.bytes.take (min (m.waiting au).2 m.bytes.length)).drop (m.waiting au).1) room with
  |none=>none
  |some f=>if(m.waiting au).1<min (m.waiting au).2 m.bytes.length/\f.data.size=0 then none else some ({f with fin:=m.dK (av f)},({m with sent:=max m.sent (av f)}:Ot).aw {f with fin:=m.dK (av f)})):=rfl
theorem Tz(s t:Nat)(own:Own)(S o:Nat)(m:Ot)(k:Nat)(h8:k<8)(room:Int)(au:Nat)(l:List Value)(w:World)(hB:ak w S TS l)(hS:own S=s)(zv:0<s)(y4:s<t)(hO:wM own t w S l o m)(hl:m.bytes.length<=2048)(hs:m.sent+au<18446744073709551616)(yv:tq m.away)(hw:m.waits au=true)(xz: -1000000<=room/\room<=1000000):
  Calls prog 267 #[.pointer (some ⟨S,o,none⟩),.int .i64 k,.int .i64 room,.int .u64 au] w fun e w'=>e=.returned (iI ((m.next k room au).map mR))/\gP s t own S o l w (((m.next k room au).map Prod.snd).getD m) w':=by
 obtain⟨W,hW⟩:∃W,W=w.alloc (.cells (kD).toArray 65):=⟨_,rfl⟩
 have hb:ak W w.heap.size 65 kD:=by rw[hW];exact ak.new w 65 _
 have h5:Below w.heap.size w W:=by rw[hW];exact(Below.refl _ w).alloc (jK _) _
 have hsz:W.heap.size=w.heap.size+1:=by rw[hW];simp
 have yi:=hB.of_heap (h5.block _ hB.lt);have ym:=hO.kp (Kp.below (T:=[]) h5) (by simp) (by simp) (by simp) (iH.refl l (o+14) 0) (by omega);have y3:=hid (wQ t own S o m au l W yi ym hl hs yv);obtain⟨WL,Za⟩:=xK m au hw;obtain⟨a,c,va,vc,k1,hc,k2,k3,k4,d0,d1,d2,d6,d7⟩:=hO.open hB;have vZ:=hid (Jr m k room au);have m_:=hid (D_ m au hw);generalize m.next k room au=X at *;generalize (m.waiting au).1=lo at *;generalize (m.waiting au).2=yq at *;obtain⟨hi,yp⟩:∃hi,hi=min yq m.bytes.length:=⟨_,rfl⟩;rw[<-yp]at vZ WL m_;obtain⟨mn,zu,Zb⟩:=min2 yq m.bytes.length
 obtain rfl:mn=hi:=by omega
 have za:mn<=m.bytes.length:=by omega
 have hm:((m.bytes.take mn).drop lo).length=mn-lo:=by simp;omega
 have y6:=yv;have Vr:=hid (fun y (hy:Below w.heap.size w y)=>ou S o m.bytes.length c a y hl ((hy.cell (p:=⟨S,o,none⟩) hB.lt).trans d0));have zl:=hB.lt
 have g1:(lo:Int)<=(mn:Int):=by omega
 have g2:(mn:Int)<=(c:Int):=by omega
 have HB:=hid (And.intro hb (And.intro h5 (And.intro hB hO)));have pI:=hid (And.intro WL (And.intro za hl));clear Zb yp WL Za hb h5 yi ym k1 k3 k4 hw;unfold kD at hW
 by_cases he:mn=lo
 ·have y5:(m.bytes.take mn).drop lo=[]:=List.length_eq_zero_iff.1 (by rw[hm];omega);rw[y5]at vZ;have OC:=hid (fun y (_:Below w.heap.size w y)=>Dk (mV k lo) a [] 0 room y (Jq y k h8 lo (by omega)) rfl (fun j hj=>by simp at hj) (fun _=>rfl) (by simp) (by simp) xz);generalize xj:ko (mV k lo) [] room=F0 at *;unfold mV bJ at OC;clear y5 hm k2;go_enter func267,ntmps267
  go_wp2_with fail
  rw[<-hW];refine y3.out.mono ?_;rintro e y ⟨rfl,h9⟩;obtain⟨hb,h5,hB,hO⟩:=HB.out;have gJ:=h5.trans (h9.mono (by omega));have IW:=hid (Vr.out y gJ);have Rj:=hid (OC.out y gJ);have e0:y.cell? ⟨S,o,none⟩=some (.slice a m.bytes.length c):=(gJ.cell (p:=⟨S,o,none⟩) zl).trans d0;have HY:=hid (And.intro (hb.of_heap (h9.block _ (by omega))) gJ);have zp:=h9.size;clear h9 hb h5 hB hO gJ Vr OC y3 d0 d1 d2 d6 d7 hW
  go_wp2_with fail
  refine IW.out.mono ?_;rintro e z ⟨rfl,rfl⟩
  go_wp2_with fail
  refine Rj.out.mono ?_;rintro e u ⟨rfl,h7⟩;obtain⟨xt,hu⟩:=HY.out;have GQ:=xt.of_heap (h7.block _ (by omega));have y0:=hu.trans (h7.mono hu.size);have zj:=h7.size;obtain⟨r0,r1,r2,r3,r4,r5,r6,r7,r8,r9,rf⟩:=aA GQ;have HU:=hid (And.intro GQ y0);clear h7 xt hu GQ y0 Rj IW HY e0
  have ye:w.heap.size<u.heap.size:=by omega
  have yf:¬(w.heap.size=u.heap.size):=by omega
  cases F0 with
  |none=>
   have HX:Hid (X=none):=vZ.out;clear vZ;unfold iI bJ
   go_wp2_with fail
   rw[dw];have gU:=bY HU.out.1 (.int .i64 0) (.int .i64 0) (.int .u64 0) (.int .u64 0) (.int .u64 0) (.bool false) (.int .u64 0) (.int .u64 0) (.string ⟨#[]⟩) (.slice none 0 0);have l7:=bZ u w.heap.size (.int .i64 0) (.int .i64 0) (.int .u64 0) (.int .u64 0) (.int .u64 0) (.bool false) (.int .u64 0) (.int .u64 0) (.string ⟨#[]⟩) (.slice none 0 0);generalize gZ u w.heap.size (.int .i64 0) (.int .i64 0) (.int .u64 0) (.int .u64 0) (.int .u64 0) (.bool false) (.int .u64 0) (.int .u64 0) (.string ⟨#[]⟩) (.slice none 0 0)=Wf at *;have Vt:=l7.below HU.out.2 (jK _);generalize G:Wf.alloc (.cells #[.int .i64 dW.kind,.int .i64 dW.stream,.int .u64 dW.offset,.int .u64 dW.reliable,.int .u64 dW.limit,.bool dW.fin,.int .u64 dW.id,.int .u64 dW.deadline,.string dW.data,.slice none 0 0] 65)=Z
   have xd:ak Z w.heap.size 65 kD:=by rw[<-G];exact gU.alloc _
   have Tv:Below w.heap.size w Z:=by rw[<-G];exact Vt.alloc Vt.size _
   obtain⟨a0,a1,a2,a3,a4,a5,a6,a7,a8,a9,_⟩:=aA xd;refine bodyPost_ret (v:=iI (X.map mR)) (by rw[HX.out];simp[results,results267,go_sem,a0,a1,a2,a3,a4,a5,a6,a7,a8,a9,bJ,iI,dW]) rfl ⟨rfl,?_⟩;rw[HX.out];exact gP.refl HB.out.2.2.1 HB.out.2.2.2 Tv
  |some f=>
   have ys:¬(lo<mn):=by omega
   obtain⟨F,I⟩:∃F:Fr,F={f with fin:=m.dK (av f)}:=⟨_,rfl⟩
   have HX:Hid (X=some (F,({m with sent:=max m.sent (av f)}:Ot).aw F)):=by
    unfold Hid;rw[vZ.out,I];exact if_neg (fun h=>ys h.1)
   clear vZ;obtain⟨xy,xx⟩:=t_ xj;simp only[List.length_nil]at xy
   have ya:f.offset=lo:=by rw[xx];rfl
   have yy:av f<=mn:=by unfold av;omega
   have yk:av f=lo:=by unfold av;omega
   have Vu:av F=av f:=by rw[I];rfl
   have hv:F.fin=m.dK (av f):=by rw[I]
   have y8:=pI.out;have xe:pW F:=⟨by rw[I];show f.offset<=2048;omega,by rw[Vu];omega,.inl (by rw[hv,yk];exact m_.out he)⟩
   have xv:bX F (.slice none 0 0)=[.int .i64 f.kind,.int .i64 f.stream,.int .u64 f.offset,.int .u64 f.reliable,.int .u64 f.limit,.bool (m.dK (av f)),.int .u64 f.id,.int .u64 f.deadline,.string f.data,.slice none 0 0]:=by rw[I]
   obtain⟨U,hU⟩:∃U,U=u.alloc (.cells (bX f (.slice none 0 0)).toArray 65):=⟨_,rfl⟩
   have hk:ak U u.heap.size 65 (bX f (.slice none 0 0)):=by rw[hU];exact ak.new u 65 _
   have xo:Below u.heap.size u U:=by rw[hU];exact(Below.refl _ u).alloc (jK _) _
   have zb:U.heap.size=u.heap.size+1:=by rw[hU];simp
   have Rb:=hid (g_ f (.slice none 0 0) U (by unfold aU;omega) (by omega));obtain⟨x0,x1,x2,x3,x4,x5,x6,x7,x8,x9,xf⟩:=aA hk;have GR:=hid (And.intro hk (And.intro xo xe));have hx:=hid xv;have Vo:=hid (And.intro Vu hv);clear hk xo xe xv Vu hv I xx xj xy y8 ya yk;unfold iI bJ;unfold bX at hU
   go_wp2_with fail
   rw[<-hU];clear hU;refine Rb.out.mono ?_;rintro e y1 ⟨rfl,nT⟩;generalize yz:av f=E at *;have hr:Below w.heap.size w U:=HU.out.2.trans (GR.out.2.1.mono HU.out.2.size);have BM:Below w.heap.size w y1:=hr.trans (nT.mono hr.size);have H:=HB.out.2.2.1.of_heap (BM.block _ zl);have wH:=HB.out.2.2.2.kp (Kp.below (T:=[]) BM) (by simp) (by simp) (by simp) (iH.refl l (o+14) 0) (by omega);obtain⟨a1,c1,zr,Lx,_,_,_,_,_,p0,p1,p2,p6,p7⟩:=wH.open H;have tu:=hid (sZ S o m.bytes.length c1 E a1 m.fin m.nt.given y1 pI.out.2.2 p0 p1 p2);have ug:=GR.out.1.of_heap (nT.block _ (by omega));obtain⟨z0,z1,z2,z3,z4,z5,z6,z7,z8,z9,zf⟩:=aA ug
   have qw:=HU.out.1.of_heap ((GR.out.2.1.block _ ye)) |>.of_heap (nT.block _ (by omega))
   have xa:=hid (And.intro ug (And.intro qw (And.intro BM (And.intro H wH))));have Zc:=nT.size;clear nT hr BM H wH ug qw p0 p1 p2 p6 p7 x0 x1 x2 x3 x4 x5 x6 x7 x8 x9 xf r0 r1 r2 r3 r4 r5 r6 r7 r8 r9 rf Rb
   go_wp2_with fail
   refine tu.out.mono ?_;rintro e y ⟨rfl,rfl⟩;obtain⟨ug,qw,gJ,H,wH⟩:=xa.out;obtain⟨Y,hY⟩:∃Y,Y=y.setCell ⟨u.heap.size,5,none⟩ (.bool (m.fin&& !m.nt.given&&decide (E=m.bytes.length))):=⟨_,rfl⟩
   have OZ:jD u.heap.size y Y:=by rw[hY];exact(jD.refl _ _).set 5 _
   have BN:ak Y u.heap.size 65 (bX F (.slice none 0 0)):=by
    rw[hx.out,hY,show m.dK E=(m.fin&& !m.nt.given&&decide (E=m.bytes.length))from rfl];exact ug.setCell 5 _
   have GU:=qw.of_heap (OZ.block _ yf);have TB:=OZ.below gJ (by omega);have h6:=H.of_heap (OZ.block _ (by omega));have xm:=HB.out.2.2.2.kp (Kp.below (T:=[]) TB) (by simp) (by simp) (by simp) (iH.refl l (o+14) 0) (by omega);have zc:Y.heap.size=y.heap.size:=OZ.size;obtain⟨a2,c2,zs,zt,q1,_,q3,q4,q5,p0,p1,p2,p6,p7⟩:=xm.open h6;obtain⟨mx,zg,O0⟩:=max2 m.sent E
   have hf:Hid (∀q,Calls prog 318 #[bJ F (.slice none 0 0)] (Y.drewN q) fun e v=>e=.returned (.int .u64 E)/\v.cell? ⟨S,o+7,none⟩=some (.int .u64 m.sent)/\v.frozen? ⟨S,o+7,none⟩=false/\
     Hid (ak (v.setCell ⟨S,o+7,none⟩ (.int .u64 mx)) u.heap.size 65 (bX F (.slice none 0 0))/\Calls prog 319 #[.pointer (some ⟨S,o,none⟩),bJ F (.slice none 0 0)] (v.setCell ⟨S,o+7,none⟩ (.int .u64 mx)) fun e w'=>e=.returned (.tuple #[])/\ak w' u.heap.size 65 (bX F (.slice none 0 0))/\ak w' w.heap.size 65 kD/\∀Z,jD w.heap.size w' Z->gP s t own S o l w (({m with sent:=max m.sent E}:Ot).aw F) Z)):=fun q=>by
    have xi:=g_ F (.slice none 0 0) (Y.drewN q) GR.out.2.2.om GR.out.2.2.d;rw[Vo.out.1]at xi;refine xi.mono ?_;rintro e v ⟨rfl,xL⟩;have O:Below Y.heap.size Y v:=⟨xL.os,xL.tape,xL.output,xL.size,xL.block⟩;have y2:=TB.trans (O.mono TB.size);have TD:=h6.of_heap (O.block _ h6.lt);have O1:=BN.of_heap (O.block _ BN.lt);have GV:=GU.of_heap (O.block _ GU.lt);have zm:=O.size;refine⟨rfl,by rw[TD.cell];exact q1.c7,TD.frozen _,?_⟩;obtain⟨ow,h0⟩:∃ow,ow=loc own w.heap.size:=⟨_,rfl⟩
    have xn:ow S=s:=by rw[h0,fH _ _ _ zl,hS]
    have Vn:wM ow t w S l o m:=by
     obtain⟨vb,va,vc,k1,k2,k3,k4⟩:=HB.out.2.2.2;rw[h0];exact⟨vb,va,vc,k1,k2.loc,k3.loc,k4.loc⟩
    have y9:=Vn.kp (Kp.below (T:=[]) y2) (by simp) (by simp) (by simp) (iH.refl l (o+14) 0) (by omega);obtain⟨aF,l1,h1,h2,h3,h4⟩:=vL TD xn y4 y9 (o+7) (.int .u64 mx) (by omega) (by omega) (m':={m with sent:=mx}) (fun _ _ _ h=>Dq h mx) rfl rfl rfl
    have hz:∀b,w.heap.size<=b->ow b∉[s,t,t+1,t+2]:=fun b hb=>by rw[h0,eT _ _ _ hb];simp;omega
    have LA:=aK O1 h1 (hz _ (by omega));have Zd:=aK GV h1 (hz _ (jK _));refine⟨LA,?_⟩;rw[<-O0];refine(vK s t aF S o {m with sent:=mx} F (.slice none 0 0) l1 (v.setCell ⟨S,o+7,none⟩ (.int .u64 mx)) h2 (by rw[h1.ext _ TD.lt,xn]) y4 h4 y6 GR.out.2.2).mono ?_;rintro e w' ⟨rfl,aL,l2,g1,g2,g3,g4⟩;have hK:Kp [s,t,t+1,t+2] ow aL v w':=h1.trans ⟨g1.os,g1.tape,g1.output,g1.size,g1.blk,g1.ext⟩;have xl:Kp [s,t,t+1,t+2] ow aL w w':=(Kp.below y2).trans hK;refine⟨rfl,aK O1 hK (hz _ (by omega)),aK GV hK (hz _ (jK _)),fun Z G=>?_⟩
    have yd:aL w.heap.size=0:=by rw[hK.ext _ GV.lt,h0,eT _ _ _ (jK _)]
    have y7:Kp [0] aL aL w' Z:=⟨G.os,G.tape,G.output,by rw[G.size];exact jK _,fun b _ hn=>G.block b (fun e=>hn (by rw[e,yd];simp)),fun _ _=>rfl⟩;rw[h0]at xl;exact⟨aL,l2,G.kp xl.iN (jK _),g2.of_heap (G.block _ (by omega)),h3.trans g3,g4.kp y7 (by simp;omega) (by simp) (by simp) (iH.refl l2 (o+14) 0) (by omega)⟩
   have b7:Y.cell? ⟨S,o+7,none⟩=some (.int .u64 m.sent):=p7
   have n1:¬(S=u.heap.size):=by omega
   have n2:¬(u.heap.size=S):=by omega
   obtain⟨x0,x1,x2,x3,x4,x5,x6,x7,x8,x9,xf⟩:=aA BN;clear ug qw gJ H wH OZ BN GU TB h6 xm q1 q3 q4 q5 p0 p1 p2 p6 p7 tu xa hx Vo GR O0;unfold bJ at hf
   go_wp2_with fail
   rw[<-hY];clear hY z0 z1 z2 z3 z4 z5 z6 z7 z8 z9 zf
   go_region_with (go_at_call 318;refine(hf.out _).mono ?_;rintro e v ⟨rfl,v1,v2,HV⟩;clear hf x0 x1 x2 x3 x4 x5 x6 x7 x8 x9 xf b7)
   all_goals
    obtain⟨xp,hC⟩:=HV.out;generalize v.setCell ⟨S,o+7,none⟩ (.int .u64 mx)=V at *;obtain⟨x0,x1,x2,x3,x4,x5,x6,x7,x8,x9,xf⟩:=aA xp;have HC:=hid hC;clear hC xp HV v1 v2
    go_wp2_with fail
    refine HC.out.mono ?_;rintro e w' ⟨rfl,xr,ho,G⟩;clear x0 x1 x2 x3 x4 x5 x6 x7 x8 x9 xf;obtain⟨x0,x1,x2,x3,x4,x5,x6,x7,x8,x9,xf⟩:=aA xr;obtain⟨r0,r1,r2,r3,r4,r5,r6,r7,r8,r9,rf⟩:=aA ho;have HZ:=hid (And.intro ho G);clear xr ho G HC
    go_wp2_with fail
    rw[dw];have gU:=bY HZ.out.1 (.int .i64 F.kind) (.int .i64 F.stream) (.int .u64 F.offset) (.int .u64 F.reliable) (.int .u64 F.limit) (.bool F.fin) (.int .u64 F.id) (.int .u64 F.deadline) (.string F.data) (.slice none 0 0);have l7:=HZ.out.2 _ (bZ w' w.heap.size (.int .i64 F.kind) (.int .i64 F.stream) (.int .u64 F.offset) (.int .u64 F.reliable) (.int .u64 F.limit) (.bool F.fin) (.int .u64 F.id) (.int .u64 F.deadline) (.string F.data) (.slice none 0 0));generalize gZ w' w.heap.size (.int .i64 F.kind) (.int .i64 F.stream) (.int .u64 F.offset) (.int .u64 F.reliable) (.int .u64 F.limit) (.bool F.fin) (.int .u64 F.id) (.int .u64 F.deadline) (.string F.data) (.slice none 0 0)=Wf at *;obtain⟨a0,a1,a2,a3,a4,a5,a6,a7,a8,a9,_⟩:=aA gU;refine bodyPost_ret (v:=iI (X.map mR)) (by rw[HX.out];simp[results,results267,go_sem,a0,a1,a2,a3,a4,a5,a6,a7,a8,a9,bJ,iI]) rfl ⟨rfl,?_⟩;rw[HX.out];exact l7
 ·obtain⟨g,ha,hg,yn⟩:=k2.part lo mn (by have:=pI.out;omega) pI.out.2.1;have OC:=hid (fun y (hy:Below w.heap.size w y)=>Dk (mV k lo) (some ⟨g,lo,none⟩) ((m.bytes.take mn).drop lo) (mn-lo) room y (Jq y k h8 lo (by have:=pI.out;omega)) rfl (BytesAt.below' yn hy) (fun e=>by cases e) (by have:=pI.out;omega) (by omega) xz);rw[hm]at OC;generalize xj:ko (mV k lo) ((m.bytes.take mn).drop lo) room=F0 at *;unfold mV bJ at OC;clear yn hm k2;subst ha;go_enter func267,ntmps267
  go_wp2_with fail
  rw[<-hW];refine y3.out.mono ?_;rintro e y ⟨rfl,h9⟩;obtain⟨hb,h5,hB,hO⟩:=HB.out;have gJ:=h5.trans (h9.mono (by omega));have IW:=hid (Vr.out y gJ);have Rj:=hid (OC.out y gJ);have e0:y.cell? ⟨S,o,none⟩=some (.slice (some ⟨g,0,none⟩) m.bytes.length c):=(gJ.cell (p:=⟨S,o,none⟩) zl).trans d0;have HY:=hid (And.intro (hb.of_heap (h9.block _ (by omega))) gJ);have zp:=h9.size;clear h9 hb h5 hB hO gJ Vr OC y3 d0 d1 d2 d6 d7 hW
  go_wp2_with fail
  refine IW.out.mono ?_;rintro e z ⟨rfl,rfl⟩
  go_wp2_with fail
  refine Rj.out.mono ?_;rintro e u ⟨rfl,h7⟩;obtain⟨xt,hu⟩:=HY.out;have GQ:=xt.of_heap (h7.block _ (by omega));have y0:=hu.trans (h7.mono hu.size);have zj:=h7.size;obtain⟨r0,r1,r2,r3,r4,r5,r6,r7,r8,r9,rf⟩:=aA GQ;have HU:=hid (And.intro GQ y0);clear h7 xt hu GQ y0 Rj IW HY e0
  have ye:w.heap.size<u.heap.size:=by omega
  have yf:¬(w.heap.size=u.heap.size):=by omega
  cases F0 with
  |none=>
   have HX:Hid (X=none):=vZ.out;clear vZ;unfold iI bJ
   go_wp2_with fail
   rw[dw];have gU:=bY HU.out.1 (.int .i64 0) (.int .i64 0) (.int .u64 0) (.int .u64 0) (.int .u64 0) (.bool false) (.int .u64 0) (.int .u64 0) (.string ⟨#[]⟩) (.slice none 0 0);have l7:=bZ u w.heap.size (.int .i64 0) (.int .i64 0) (.int .u64 0) (.int .u64 0) (.int .u64 0) (.bool false) (.int .u64 0) (.int .u64 0) (.string ⟨#[]⟩) (.slice none 0 0);generalize gZ u w.heap.size (.int .i64 0) (.int .i64 0) (.int .u64 0) (.int .u64 0) (.int .u64 0) (.bool false) (.int .u64 0) (.int .u64 0) (.string ⟨#[]⟩) (.slice none 0 0)=Wf at *;have Vt:=l7.below HU.out.2 (jK _);generalize G:Wf.alloc (.cells #[.int .i64 dW.kind,.int .i64 dW.stream,.int .u64 dW.offset,.int .u64 dW.reliable,.int .u64 dW.limit,.bool dW.fin,.int .u64 dW.id,.int .u64 dW.deadline,.string dW.data,.slice none 0 0] 65)=Z
   have xd:ak Z w.heap.size 65 kD:=by rw[<-G];exact gU.alloc _
   have Tv:Below w.heap.size w Z:=by rw[<-G];exact Vt.alloc Vt.size _
   obtain⟨a0,a1,a2,a3,a4,a5,a6,a7,a8,a9,_⟩:=aA xd;refine bodyPost_ret (v:=iI (X.map mR)) (by rw[HX.out];simp[results,results267,go_sem,a0,a1,a2,a3,a4,a5,a6,a7,a8,a9,bJ,iI,dW]) rfl ⟨rfl,?_⟩;rw[HX.out];exact gP.refl HB.out.2.2.1 HB.out.2.2.2 Tv
  |some f=>
   by_cases hd:f.data.size=0
   ·have HX:Hid (X=none):=by
     unfold Hid;rw[vZ.out];exact if_pos ⟨by have:=pI.out;omega,hd⟩
    have yr:lo<mn:=by have:=pI.out;omega
    have zd:f.data.toList.isEmpty=true:=by rw[Ae];exact decide_eq_true hd
    clear vZ;unfold iI bJ
    go_wp2_with fail
    rw[dw];have gU:=bY HU.out.1 (.int .i64 0) (.int .i64 0) (.int .u64 0) (.int .u64 0) (.int .u64 0) (.bool false) (.int .u64 0) (.int .u64 0) (.string ⟨#[]⟩) (.slice none 0 0);have l7:=bZ u w.heap.size (.int .i64 0) (.int .i64 0) (.int .u64 0) (.int .u64 0) (.int .u64 0) (.bool false) (.int .u64 0) (.int .u64 0) (.string ⟨#[]⟩) (.slice none 0 0);generalize gZ u w.heap.size (.int .i64 0) (.int .i64 0) (.int .u64 0) (.int .u64 0) (.int .u64 0) (.bool false) (.int .u64 0) (.int .u64 0) (.string ⟨#[]⟩) (.slice none 0 0)=Wf at *;have Vt:=l7.below HU.out.2 (jK _);generalize G:Wf.alloc (.cells #[.int .i64 f.kind,.int .i64 f.stream,.int .u64 f.offset,.int .u64 f.reliable,.int .u64 f.limit,.bool f.fin,.int .u64 f.id,.int .u64 f.deadline,.string f.data,.slice none 0 0] 65)=Z
    have xd:ak Z w.heap.size 65 kD:=by rw[<-G];exact gU.alloc _
    have Tv:Below w.heap.size w Z:=by rw[<-G];exact Vt.alloc Vt.size _
    obtain⟨a0,a1,a2,a3,a4,a5,a6,a7,a8,a9,_⟩:=aA xd;refine bodyPost_ret (v:=iI (X.map mR)) (by rw[HX.out];simp[results,results267,go_sem,a0,a1,a2,a3,a4,a5,a6,a7,a8,a9,bJ,iI,dW]) rfl ⟨rfl,?_⟩;rw[HX.out];exact gP.refl HB.out.2.2.1 HB.out.2.2.2 Tv
   ·have zd:f.data.toList.isEmpty=false:=by rw[Ae];exact decide_eq_false hd
    have yr:lo<mn:=by have:=pI.out;omega
    obtain⟨F,I⟩:∃F:Fr,F={f with fin:=m.dK (av f)}:=⟨_,rfl⟩
    have HX:Hid (X=some (F,({m with sent:=max m.sent (av f)}:Ot).aw F)):=by
     unfold Hid;rw[vZ.out,I];exact if_neg (fun h=>hd h.2)
    clear vZ;obtain⟨xy,xx⟩:=t_ xj
    have hm:((m.bytes.take mn).drop lo).length=mn-lo:=by have:=pI.out;simp;omega
    rw[hm]at xy
    have ya:f.offset=lo:=by rw[xx];rfl
    have yy:av f<=mn:=by unfold av;omega
    have yx:0<av f:=by unfold av;omega
    have Vu:av F=av f:=by rw[I];rfl
    have hv:F.fin=m.dK (av f):=by rw[I]
    have y8:=pI.out;have xe:pW F:=⟨by rw[I];show f.offset<=2048;omega,by rw[Vu];omega,.inr (by rw[Vu];exact yx)⟩
    have xv:bX F (.slice none 0 0)=[.int .i64 f.kind,.int .i64 f.stream,.int .u64 f.offset,.int .u64 f.reliable,.int .u64 f.limit,.bool (m.dK (av f)),.int .u64 f.id,.int .u64 f.deadline,.string f.data,.slice none 0 0]:=by rw[I]
    obtain⟨U,hU⟩:∃U,U=u.alloc (.cells (bX f (.slice none 0 0)).toArray 65):=⟨_,rfl⟩
    have hk:ak U u.heap.size 65 (bX f (.slice none 0 0)):=by rw[hU];exact ak.new u 65 _
    have xo:Below u.heap.size u U:=by rw[hU];exact(Below.refl _ u).alloc (jK _) _
    have zb:U.heap.size=u.heap.size+1:=by rw[hU];simp
    have Rb:=hid (g_ f (.slice none 0 0) U (by unfold aU;omega) (by omega));obtain⟨x0,x1,x2,x3,x4,x5,x6,x7,x8,x9,xf⟩:=aA hk;have GR:=hid (And.intro hk (And.intro xo xe));have hx:=hid xv;have Vo:=hid (And.intro Vu hv);clear hk xo xe xv Vu hv I xx xj xy y8 ya hm;unfold iI bJ;unfold bX at hU
    go_wp2_with fail
    rw[<-hU];clear hU;refine Rb.out.mono ?_;rintro e y1 ⟨rfl,nT⟩;generalize yz:av f=E at *;have hr:Below w.heap.size w U:=HU.out.2.trans (GR.out.2.1.mono HU.out.2.size);have BM:Below w.heap.size w y1:=hr.trans (nT.mono hr.size);have H:=HB.out.2.2.1.of_heap (BM.block _ zl);have wH:=HB.out.2.2.2.kp (Kp.below (T:=[]) BM) (by simp) (by simp) (by simp) (iH.refl l (o+14) 0) (by omega);obtain⟨a1,c1,zr,Lx,_,_,_,_,_,p0,p1,p2,p6,p7⟩:=wH.open H;have tu:=hid (sZ S o m.bytes.length c1 E a1 m.fin m.nt.given y1 pI.out.2.2 p0 p1 p2);have ug:=GR.out.1.of_heap (nT.block _ (by omega));obtain⟨z0,z1,z2,z3,z4,z5,z6,z7,z8,z9,zf⟩:=aA ug
    have qw:=HU.out.1.of_heap ((GR.out.2.1.block _ ye)) |>.of_heap (nT.block _ (by omega))
    have xa:=hid (And.intro ug (And.intro qw (And.intro BM (And.intro H wH))));have Zc:=nT.size;clear nT hr BM H wH ug qw p0 p1 p2 p6 p7 x0 x1 x2 x3 x4 x5 x6 x7 x8 x9 xf r0 r1 r2 r3 r4 r5 r6 r7 r8 r9 rf Rb
    go_wp2_with fail
    refine tu.out.mono ?_;rintro e y ⟨rfl,rfl⟩;obtain⟨ug,qw,gJ,H,wH⟩:=xa.out;obtain⟨Y,hY⟩:∃Y,Y=y.setCell ⟨u.heap.size,5,none⟩ (.bool (m.fin&& !m.nt.given&&decide (E=m.bytes.length))):=⟨_,rfl⟩
    have OZ:jD u.heap.size y Y:=by rw[hY];exact(jD.refl _ _).set 5 _
    have BN:ak Y u.heap.size 65 (bX F (.slice none 0 0)):=by
     rw[hx.out,hY,show m.dK E=(m.fin&& !m.nt.given&&decide (E=m.bytes.length))from rfl];exact ug.setCell 5 _
    have GU:=qw.of_heap (OZ.block _ yf);have TB:=OZ.below gJ (by omega);have h6:=H.of_heap (OZ.block _ (by omega));have xm:=HB.out.2.2.2.kp (Kp.below (T:=[]) TB) (by simp) (by simp) (by simp) (iH.refl l (o+14) 0) (by omega);have zc:Y.heap.size=y.heap.size:=OZ.size;obtain⟨a2,c2,zs,zt,q1,_,q3,q4,q5,p0,p1,p2,p6,p7⟩:=xm.open h6;obtain⟨mx,zg,O0⟩:=max2 m.sent E
    have hf:Hid (∀q,Calls prog 318 #[bJ F (.slice none 0 0)] (Y.drewN q) fun e v=>e=.returned (.int .u64 E)/\v.cell? ⟨S,o+7,none⟩=some (.int .u64 m.sent)/\v.frozen? ⟨S,o+7,none⟩=false/\
      Hid (ak (v.setCell ⟨S,o+7,none⟩ (.int .u64 mx)) u.heap.size 65 (bX F (.slice none 0 0))/\Calls prog 319 #[.pointer (some ⟨S,o,none⟩),bJ F (.slice none 0 0)] (v.setCell ⟨S,o+7,none⟩ (.int .u64 mx)) fun e w'=>e=.returned (.tuple #[])/\ak w' u.heap.size 65 (bX F (.slice none 0 0))/\ak w' w.heap.size 65 kD/\∀Z,jD w.heap.size w' Z->gP s t own S o l w (({m with sent:=max m.sent E}:Ot).aw F) Z)):=fun q=>by
     have xi:=g_ F (.slice none 0 0) (Y.drewN q) GR.out.2.2.om GR.out.2.2.d;rw[Vo.out.1]at xi;refine xi.mono ?_;rintro e v ⟨rfl,xL⟩;have O:Below Y.heap.size Y v:=⟨xL.os,xL.tape,xL.output,xL.size,xL.block⟩;have y2:=TB.trans (O.mono TB.size);have TD:=h6.of_heap (O.block _ h6.lt);have O1:=BN.of_heap (O.block _ BN.lt);have GV:=GU.of_heap (O.block _ GU.lt);have zm:=O.size;refine⟨rfl,by rw[TD.cell];exact q1.c7,TD.frozen _,?_⟩;obtain⟨ow,h0⟩:∃ow,ow=loc own w.heap.size:=⟨_,rfl⟩
     have xn:ow S=s:=by rw[h0,fH _ _ _ zl,hS]
     have Vn:wM ow t w S l o m:=by
      obtain⟨vb,va,vc,k1,k2,k3,k4⟩:=HB.out.2.2.2;rw[h0];exact⟨vb,va,vc,k1,k2.loc,k3.loc,k4.loc⟩
     have y9:=Vn.kp (Kp.below (T:=[]) y2) (by simp) (by simp) (by simp) (iH.refl l (o+14) 0) (by omega);obtain⟨aF,l1,h1,h2,h3,h4⟩:=vL TD xn y4 y9 (o+7) (.int .u64 mx) (by omega) (by omega) (m':={m with sent:=mx}) (fun _ _ _ h=>Dq h mx) rfl rfl rfl
     have hz:∀b,w.heap.size<=b->ow b∉[s,t,t+1,t+2]:=fun b hb=>by rw[h0,eT _ _ _ hb];simp;omega
     have LA:=aK O1 h1 (hz _ (by omega));have Zd:=aK GV h1 (hz _ (jK _));refine⟨LA,?_⟩;rw[<-O0];refine(vK s t aF S o {m with sent:=mx} F (.slice none 0 0) l1 (v.setCell ⟨S,o+7,none⟩ (.int .u64 mx)) h2 (by rw[h1.ext _ TD.lt,xn]) y4 h4 y6 GR.out.2.2).mono ?_;rintro e w' ⟨rfl,aL,l2,g1,g2,g3,g4⟩;have hK:Kp [s,t,t+1,t+2] ow aL v w':=h1.trans ⟨g1.os,g1.tape,g1.output,g1.size,g1.blk,g1.ext⟩;have xl:Kp [s,t,t+1,t+2] ow aL w w':=(Kp.below y2).trans hK;refine⟨rfl,aK O1 hK (hz _ (by omega)),aK GV hK (hz _ (jK _)),fun Z G=>?_⟩
     have yd:aL w.heap.size=0:=by rw[hK.ext _ GV.lt,h0,eT _ _ _ (jK _)]
     have y7:Kp [0] aL aL w' Z:=⟨G.os,G.tape,G.output,by rw[G.size];exact jK _,fun b _ hn=>G.block b (fun e=>hn (by rw[e,yd];simp)),fun _ _=>rfl⟩;rw[h0]at xl;exact⟨aL,l2,G.kp xl.iN (jK _),g2.of_heap (G.block _ (by omega)),h3.trans g3,g4.kp y7 (by simp;omega) (by simp) (by simp) (iH.refl l2 (o+14) 0) (by omega)⟩
    have b7:Y.cell? ⟨S,o+7,none⟩=some (.int .u64 m.sent):=p7
    have n1:¬(S=u.heap.size):=by omega
    have n2:¬(u.heap.size=S):=by omega
    obtain⟨x0,x1,x2,x3,x4,x5,x6,x7,x8,x9,xf⟩:=aA BN;clear ug qw gJ H wH OZ BN GU TB h6 xm q1 q3 q4 q5 p0 p1 p2 p6 p7 tu xa hx Vo GR O0;unfold bJ at hf
    go_wp2_with fail
    rw[<-hY];clear hY z0 z1 z2 z3 z4 z5 z6 z7 z8 z9 zf
    go_region_with (go_at_call 318;refine(hf.out _).mono ?_;rintro e v ⟨rfl,v1,v2,HV⟩;clear hf x0 x1 x2 x3 x4 x5 x6 x7 x8 x9 xf b7)
    all_goals
     obtain⟨xp,hC⟩:=HV.out;generalize v.setCell ⟨S,o+7,none⟩ (.int .u64 mx)=V at *;obtain⟨x0,x1,x2,x3,x4,x5,x6,x7,x8,x9,xf⟩:=aA xp;have HC:=hid hC;clear hC xp HV v1 v2
     go_wp2_with fail
     refine HC.out.mono ?_;rintro e w' ⟨rfl,xr,ho,G⟩;clear x0 x1 x2 x3 x4 x5 x6 x7 x8 x9 xf;obtain⟨x0,x1,x2,x3,x4,x5,x6,x7,x8,x9,xf⟩:=aA xr;obtain⟨r0,r1,r2,r3,r4,r5,r6,r7,r8,r9,rf⟩:=aA ho;have HZ:=hid (And.intro ho G);clear xr ho G HC
     go_wp2_with fail
     rw[dw];have gU:=bY HZ.out.1 (.int .i64 F.kind) (.int .i64 F.stream) (.int .u64 F.offset) (.int .u64 F.reliable) (.int .u64 F.limit) (.bool F.fin) (.int .u64 F.id) (.int .u64 F.deadline) (.string F.data) (.slice none 0 0);have l7:=HZ.out.2 _ (bZ w' w.heap.size (.int .i64 F.kind) (.int .i64 F.stream) (.int .u64 F.offset) (.int .u64 F.reliable) (.int .u64 F.limit) (.bool F.fin) (.int .u64 F.id) (.int .u64 F.deadline) (.string F.data) (.slice none 0 0));generalize gZ w' w.heap.size (.int .i64 F.kind) (.int .i64 F.stream) (.int .u64 F.offset) (.int .u64 F.reliable) (.int .u64 F.limit) (.bool F.fin) (.int .u64 F.id) (.int .u64 F.deadline) (.string F.data) (.slice none 0 0)=Wf at *;obtain⟨a0,a1,a2,a3,a4,a5,a6,a7,a8,a9,_⟩:=aA gU;refine bodyPost_ret (v:=iI (X.map mR)) (by rw[HX.out];simp[results,results267,go_sem,a0,a1,a2,a3,a4,a5,a6,a7,a8,a9,bJ,iI]) rfl ⟨rfl,?_⟩;rw[HX.out];exact l7
end Go.Proofs.YtphbledmopchnaaGreatDoor.Sd
