import Derived.Test.YtphbledmopchnaaGreatDoorVdc
open List renaming replicate->eB,replicate_zero->fE,map_set->mI
open Go.RowKit renaming intOf->eT
set_option maxHeartbeats 4000000
set_option maxRecDepth 100000
open Go renaming World->Wq,Value->Wx,Addr->XK
set_option linter.all false
namespace Go.Proofs.YtphbledmopchnaaGreatDoor.Sd
open Go.RowKit Go.Lib Mm Tryz
variable {L S cc o s t:Nat}{c:List Bool}{d:Option XK}{h:List UInt8}{l:bM}{m:dP}{oZ:Own}{w w0 wr:Wq}
theorem tq:∀(a b) (i) (h) (c),eP (a++b) i h c=eP b (i+a.length) (eP a i h c).1 (eP a i h c).2
 |[],b,i,h,c=>by simp[eP]
 |x::t,b,i,h,c=>by
  simp only[AA,eP,pI];split;.rw[tq t b,show i+1+t.length=i+(t.length+1) by omega]
  .rw[tq t b,show i+1+t.length=i+(t.length+1) by omega]
theorem z_:∀(d) (i) (h) (c),(eP d i h c).1.length=h.length/\(eP d i h c).2.length=c.length
 |[],_,_,_=>⟨rfl,rfl⟩
 |x::t,i,h,c=>by
  simp only[eP];split;.exact z_ t _ _ _
  .have:=z_ t (i+1) (h.set i x) (c.set i true);grind
theorem Oy(d:List UInt8)(k f h c a):eP (d.take (k+1)) f h c=if(eP (d.take k) f h c).2.getD (f+k) false then eP (d.take k) f h c else((eP (d.take k) f h c).1.set (f+k) d[k],(eP (d.take k) f h c).2.set (f+k) true):=by have e:d.take (k+1)=d.take k++[d[k]]:=aR;grind [tq,eP]
theorem GT.ql2{e a n c}(h:GT oZ t e 1 w (.slice a n c) n l)(j)(b:j<n)(x)(d:x.oneCell'=true):∃g,a=some (aA g 0)/\oZ g=t/\g<w.heap.size/\GT oZ t e 1 (w.setCell (aA g j) x) (.slice a n c) n (l.set j x):=by
 rcases h with⟨_,rfl,_⟩|⟨g,cap,cs,hv,ho,hB,h2,h3,h4,h5,h6,h7⟩;.omega
 .simp at hv;obtain⟨rfl,rfl⟩:=hv;refine⟨g,rfl,ho,hB.lt,.inr ⟨g,c,cs.set j x,rfl,ho,hB.setCell j x,by grind,h3,h4,by grind,?_,?_⟩⟩;.rw[<-h6,List.take_set]
  grind
structure vL (oZ:Own) (s t S o:Nat) (l:bM) (w0:Wq) (ah:Option XK) (ch:Nat) (ac:Option XK) (cc L:Nat) (h:List UInt8) (c:List Bool) (wr:Wq):Prop where
 kp:Kp [t,t+1] oZ oZ w0 wr
 cK:aS wr S TS l
 gh:GT oZ t 5 1 wr (.slice ah L ch) L (cO h)
 gc:GT oZ (t+1) 4 1 wr (.slice ac L cc) L (jG c)
 lh:h.length=L
 lc:c.length=L
theorem zx(oZ s t S o l w0 m u k cc L h c wr)(H:vL oZ s t S o l w0 m u k cc L h c wr)(D:oZ S=s)(y:s<t)(j)(n:j<L)(x):∃g a,m=some (aA g 0)/\k=some (aA a 0)/\g≠a/\g<wr.heap.size/\a<wr.heap.size/\g≠S/\a≠S/\vL oZ s t S o l w0 m u k cc L (h.set j x) (c.set j true) ((wr.setCell (aA g j) (.int .u8 ((x.toNat:Nat):Int))).setCell (aA a j) (.bool true)):=by
 obtain⟨g,w,A,z,v⟩:=H.gh.ql2 j n (.int .u8 ((x.toNat:Nat):Int)) rfl;obtain⟨a,f,r,q,_⟩:=H.gc.ql2 j n (.bool true) rfl;have p:g≠a:=fun e=>by grind
 have b:Kp [t] oZ oZ wr (wr.setCell (aA g j) (.int .u8 ((x.toNat:Nat):Int))):=Kp.set oZ wr _ _ _ (by simp[A]);obtain⟨C,i,_,_,B⟩:=(H.gc.kp b aR).ql2 j n (.bool true) rfl;rw[f]at i;cases i;have d:Kp [t+1] oZ oZ (wr.setCell (aA g j) (.int .u8 ((x.toNat:Nat):Int))) ((wr.setCell (aA g j) (.int .u8 ((x.toNat:Nat):Int))).setCell (aA a j) (.bool true)):=Kp.set oZ _ _ _ _ (by simp[r]);refine⟨g,a,w,f,p,z,q,fun e=>by grind,fun e=>by grind,?_⟩;refine⟨(H.kp.trans (b.mono aR)).trans (d.mono aR),bW (bW H.cK b (by grind)) d (by grind),?_,?_,by simp[H.lh],by simp[H.lc]⟩;.have:=v.kp d aR;grind [cO,mI]
 grind [jG,mI]
theorem vL.cellC{e f}(H:vL oZ s t S o l w0 e f d cc L h c wr)(j)(g:j<L):∃a,d=some (aA a 0)/\wr.cell? (aA a j)=some (.bool (c.getD j false))/\wr.frozen? (aA a j)=false:=by
 have b:j<c.length:=by rw[H.lc];exact g
 obtain⟨a,i,_,_,k,m⟩:=H.gc.cell j (.bool (c.getD j false)) (by simp[jG,b]);grind
theorem vL.qjf{b e}(H:vL oZ s t S o l w0 b e d cc L h c wr)(j)(f:j<L):∃g v,b=some (aA g 0)/\wr.cell? (aA g j)=some v/\wr.frozen? (aA g j)=false:=by
 have a:j<h.length:=by rw[H.lh];exact f
 obtain⟨i,k,_,_,m,n⟩:=H.gh.cell j (.int .u8 ((h[j].toNat:Nat):Int)) (by simp[cO,a]);grind
def UN(s a D)(hB:aS w S TS l)(hS:oZ S=s)(hy:s<t)(hO:IZ oZ t w l o m)(h8:m.aT.length=m.bO.length)(hl:m.bO.length<=1000000)(V:m.aY<=a)(xe:a<=dH)(xi:a-m.aY+D.size<=1000000):bN 340 #[aK S o,uZ a,.string D] w (.tuple #[]) fun w'=>RG s t oZ S o l w (m.hold a D.data.toList) w':=by
 obtain⟨vh,vc,Z,k2,k3⟩:=hO;obtain⟨A,B,rfl,_,_⟩:=k2.shape;obtain⟨F,u,rfl,_,_⟩:=k3.shape;have xd:=hB.lt;unfold dH at xe;obtain⟨f,hf⟩:=bU (a-m.aY);have hr:((f:Nat):Int)=(a:Int)-(m.aY:Int):=aj;have R:D.data.toList.length=D.size:=Nu;obtain⟨dn,h9⟩:=bU D.size;obtain⟨X,hX⟩:=bU (eP D.data.toList f (m.bO++eB (f+dn-m.bO.length) 0) (m.aT++eB (f+dn-m.bO.length) false));have HX:Hid (m.hold a D.data.toList={m with bO:=X.1,aT:=X.2}):=by unfold Hid;rw[hX,hf,h9];unfold dP.hold;rw[R]
 generalize m.hold a D.data.toList=MH at *
 have c4:=in4 S o m _ _ w l hB Z;have c5:=in5 S o m _ _ w l hB Z;have c6:=in6 S o m _ _ w l hB Z;have UH:Hid (∀(h:List UInt8) (c:List Bool) (k:Nat) (hk:k<D.size),eP (D.data.toList.take (k+1)) f h c=if(eP (D.data.toList.take k) f h c).2.getD (f+k) false then eP (D.data.toList.take k) f h c else((eP (D.data.toList.take k) f h c).1.set (f+k) D[k],(eP (D.data.toList.take k) f h c).2.set (f+k) true)):=fun h c k hk=>by have:=Oy D.data.toList k f h c (by rw[R];exact hk);rw[Array.getElem_toList]at this;exact this
 have hn:=aG (dz hf V);have x2:Hid (D.data.toList.take D.size=D.data.toList):=by unfold Hid;rw[<-R,AJ]
 have g0:0<=(a:Int)-(m.aY:Int):=aj;have g1:(a:Int)-(m.aY:Int)<18446744073709551616:=aj;have g2:(a:Int)-(m.aY:Int)<9223372036854775808:=aj;have g3:(a:Int)-(m.aY:Int)+(D.size:Int)<9223372036854775808:=aj;have g4: -9223372036854775808<=(a:Int)-(m.aY:Int)+(D.size:Int):=aj;have g5:(a:Int)-(m.aY:Int)+(D.size:Int)-(m.bO.length:Int)<9223372036854775808:=aj;have g6: -9223372036854775808<=(a:Int)-(m.aY:Int)+(D.size:Int)-(m.bO.length:Int):=aj;have EK:=aG h8;by_cases U:m.bO.length<f+dn
 .obtain⟨j,hx⟩:=bU (f+dn-m.bO.length);have g7:(0:Int)<(a:Int)-(m.aY:Int)+(D.size:Int)-(m.bO.length:Int):=aj;have hw:((j:Nat):Int)=(a:Int)-(m.aY:Int)+(D.size:Int)-(m.bO.length:Int):=aj;obtain⟨v1,w1,fP,qx,G1,K1⟩:=qF Bj aj k2 j aj aj;obtain⟨a1,c1,rfl,_,_⟩:=G1.shape;have M:=bW hB K1 (by rw[hS];simp;omega);have h2:fP S=s:=by rw[K1.ext _ xd,hS]
  have Y:=gZ.one M (o+5) (.slice a1 (m.bO.length+j) c1) o 13 aj aj;have h3:=Y.kp h2 (T:=[s]) aR;obtain⟨v2,w2,iA,C9,G2,K2⟩:=qF CV aj ((k3.kp K1 aR).kp h3 dZ) j aj aj;obtain⟨a2,K,rfl,_,_⟩:=G2.shape;have h0:=bW Y.cK K2 (by rw[h2];simp;omega);have P:iA S=s:=by rw[K2.ext _ Y.cK.lt,h2]
  have h5:=gZ.one h0 (o+6) (.slice a2 (m.aT.length+j) K) o 13 aj aj;have h4:=h5.kp P (T:=[s]) aR;have v:=FY (FX Z (.slice a1 (m.bO.length+j) c1) (m.bO++eB j 0)) (.slice a2 (m.aT.length+j) K) (m.aT++eB j false);have Q1:=(G1.kp h3 dZ).kp K2 aR;have Q2:=Q1.kp h4 dZ;have Q3:=G2.kp h4 dZ;rw[ql0,<-kU]at Q2;have eo:jG m.aT++(Builtin.zeroCells (Value.bool false).cells j).toList=jG (m.aT++eB j false):=by rw[ql1];simp[jG]
  rw[eo]at Q3;have KK:Kp [s,t,t+1] oZ iA w (w2.setCell (aA S (o+6)) (.slice a2 (m.aT.length+j) K)):=(((K1.mono aR).trans (h3.mono aR)).trans (K2.mono aR)).trans (h4.mono aR);have i:=Y.iB.trans h5.iB;obtain⟨l2,he⟩:=bU ((l.set (o+5) (.slice a1 (m.bO.length+j) c1)).set (o+6) (.slice a2 (m.aT.length+j) K));rw[<-he]at i v;have q:=h5.cK;rw[<-he]at q;have x5:w1.cell? (aA S (o+5))=some (.slice A m.bO.length B):=by rw[M.cell];exact Z.c5
  have x6:w1.cell? (aA S (o+6))=some (.slice F m.aT.length u):=by rw[M.cell];exact Z.c6
  have xf:=M.frozen (o+5);have y6:w2.cell? (aA S (o+6))=some (.slice F m.aT.length u):=by rw[h0.cell,ay _ _ _ _ aj];exact Z.c6
  have yf:=h0.frozen (o+6);obtain⟨w3,W⟩:=bU (w2.setCell (aA S (o+6)) (.slice a2 (m.aT.length+j) K));rw[<-W]at q Q2 Q3 KK;rw[EK.out]at Q3 v W y6 x6 C9;have r:Hid (vL iA s t S o l2 w3 a1 c1 a2 K (m.bO.length+j) (m.bO++eB j 0) (m.aT++eB j false) w3):=⟨Kp.refl _ _ _,q,Q2,Q3,aR,by simp[EK.out]⟩;have I:=aG (dz KK (dz i (dz v P)));have ho:X=eP D.data.toList f (m.bO++eB j 0) (m.aT++eB j false):=by rw[hX,hx]
  have J:=aG ho;obtain⟨L,hL⟩:=bU (m.bO.length+j);rw[<-hL]at r qx C9 W v;have z:=aG v;rw[hw]at qx C9;have x4:f+D.size<=L:=aj;have x7:L<=1000001:=aj;have run:=qx;clear hf hr h9 R;clear qx h8 hw hB Z k2 k3 G1 G2 K1 K2 M h0 Y h5 h3 h4 h2 P v Q1 Q2 Q3 KK i q he ho hX hx hL eo;go_enter func340,ntmps340;go_wp2_with (at_builtin;refine ji _ rfl _ _ _ _ rfl _ _ rfl rfl _ _ (run _) ?_;clear run;have run:=C9);obtain⟨y,O⟩:=bU (m.bO++eB j 0);obtain⟨x,N⟩:=bU (m.aT++eB j false);rw[<-O,<-N]at J r;clear O N run C9 x5 x6 xf y6 yf c4 c5 c6 g7 U;go_loopw [48] (fun C wr=>∃k:Nat,k<=D.size/\C=(iZ k)/\Hid (vL iA s t S o l2 w3 a1 c1 a2 K L (eP (D.data.toList.take k) f y x).1 (eP (D.data.toList.take k) f y x).2 wr)) (fun C _=>D.size-(eT C).toNat);case atStart=>exact⟨0,eG _,rfl,by unfold Hid;rw[<-W];exact r.out⟩
  case round=>
   clear W r;obtain⟨k,hk,rfl,b⟩:=hrel;by_cases hc:k<D.size
   .have hu:(k:Int)<(D.size:Int):=aj;have E:=UH.out y x k hc;obtain⟨Hk,p⟩:=bU ((eP (D.data.toList.take k) f y x).1);obtain⟨Ck,d⟩:=bU ((eP (D.data.toList.take k) f y x).2);rw[<-p,<-d]at b;have e5:wr.cell? (aA S (o+5))=some (.slice a1 L c1):=by rw[b.out.cK.cell];exact z.out.c5
    have e6:wr.cell? (aA S (o+6))=some (.slice a2 L K):=by rw[b.out.cK.cell];exact z.out.c6
    obtain⟨g',ha,Q,x8⟩:=b.out.cellC (f+k) aj;obtain⟨hf,V⟩:=hn.out;have i1:0<=(a:Int)-(m.aY:Int)+(k:Int):=aj;have v:(a:Int)-(m.aY:Int)+(k:Int)<(L:Int):=aj;have i3:((a:Int)-(m.aY:Int)+(k:Int)).toNat=f+k:=aj;have i4:(a:Int)-(m.aY:Int)+(k:Int)<9223372036854775808:=aj;have i5: -9223372036854775808<=(a:Int)-(m.aY:Int)+(k:Int):=aj;clear hf V;subst ha;cases G:Ck.getD (f+k) false
    .rw[G]at Q;rw[<-d,G,<-p]at E;obtain⟨g,vv,hg,x9,xa⟩:=b.out.qjf (f+k) aj;obtain⟨g2,x3,q1,q2,q3,q4,q5,q6,q7,HN⟩:=zx iA s t S o l2 w3 a1 c1 _ K L Hk Ck wr b.out I.out.2.2.2 hy (f+k) aj D[k];subst hg;cases q1;cases q2;have h7:=aG HN;have n:=aG E;have n1:¬(g=g'):=q3;have n2:¬(g'=g):=fun e=>q3 e.symm;have n3:¬(S=g):=fun e=>q6 e.symm;have n4:¬(S=g'):=fun e=>q7 e.symm;clear HN E b q3 q6 q7 G;go_wp2_with fail;go_region
     all_goals go_wp2_with fail
     all_goals
      refine⟨⟨k+1,aj,by go_num,?_⟩,?_⟩;.unfold Hid;rw[n.out];have H:=h7.out;exact⟨⟨H.kp.os,H.kp.tape,H.kp.output,H.kp.size,H.kp.cK,H.kp.ext⟩,H.cK,H.gh.kp (Kp.below (T:=[]) ⟨rfl,rfl,rfl,aI _,fun _ _=>rfl⟩) aR,H.gc.kp (Kp.below (T:=[]) ⟨rfl,rfl,rfl,aI _,fun _ _=>rfl⟩) aR,H.lh,H.lc⟩
      .simp[eT];omega
    .rw[G]at Q;rw[<-d,G]at E;have n:=aG E;have Ch:Hid (vL iA s t S o l2 w3 a1 c1 (some (aA g' 0)) K L (eP (D.data.toList.take (k+1)) f y x).1 (eP (D.data.toList.take (k+1)) f y x).2 wr):=by
      unfold Hid;rw[n.out,dN rfl,<-p,<-d];exact b.out
     clear E n b p d G;go_wp2_with fail;go_roundw;case rel=>exact⟨k+1,aj,by go_num,Ch⟩
     case measure=>simp[eT];omega
   .obtain rfl:k=D.size:=aj;rw[x2.out,<-J.out]at b;have oh:Hid (RG s t oZ S o l w MH wr):=by
     obtain⟨KK,i,v,P⟩:=I.out;have H:=b.out;refine⟨iA,l2,KK.trans (H.kp.mono aR),H.cK,i,.slice a1 L c1,.slice a2 L K,?_,?_,?_⟩;.rw[HX.out];have:=z.out;exact⟨this.gr,this.c4,this.c5,this.c6,this.c7,this.c8,this.c9,this.wD,this.zT,this.Aq⟩
     .rw[HX.out];show GT _ _ _ _ _ _ X.1.length _;rw[H.lh];exact H.gh
     .rw[HX.out];show GT _ _ _ _ _ _ X.2.length _;rw[H.lc];exact H.gc
    clear b;go_wp2;go_end0;exact⟨rfl,oh.out⟩
 .have g7:(a:Int)-(m.aY:Int)+(D.size:Int)-(m.bO.length:Int)<=0:=aj;have x0:f+dn-m.bO.length=0:=aj;rw[x0,fE,lG,fE,lG]at hX;obtain⟨L,hL⟩:=bU m.bO.length;have h6:=k3;have hj:=k2;have v:=Z;rw[EK.out]at h6 c6 v;rw[<-hL]at hj h6 c5 c6 v;have r:Hid (vL oZ s t S o l w A B F u L m.bO m.aT w):=⟨Kp.refl _ _ _,hB,hj,h6,hL.symm,by rw[EK.out,hL]⟩;have z:=aG v;have I:=aG (dz (Kp.refl [s,t,t+1] oZ w) (dz (ni.refl l o 13) (dz v hS)));have J:=aG hX;have x4:f+D.size<=L:=aj;have x7:L<=1000001:=aj;obtain⟨y,O⟩:=bU m.bO;obtain⟨x,N⟩:=bU m.aT;rw[<-O,<-N]at J r;rw[<-hL]at g5 g6 g7;clear hf hr h9 R x0 U hX h8 hB Z k2 k3 hj h6 v hL O N;go_enter func340,ntmps340;go_wp2_with fail;clear c4 c5 c6;go_loopw [48] (fun C wr=>∃k:Nat,k<=D.size/\C=(iZ k)/\Hid (vL oZ s t S o l w A B F u L (eP (D.data.toList.take k) f y x).1 (eP (D.data.toList.take k) f y x).2 wr)) (fun C _=>D.size-(eT C).toNat);case atStart=>exact⟨0,eG _,rfl,r⟩
  case round=>
   clear r;obtain⟨k,hk,rfl,b⟩:=hrel;by_cases hc:k<D.size
   .have hu:(k:Int)<(D.size:Int):=aj;have E:=UH.out y x k hc;obtain⟨Hk,p⟩:=bU ((eP (D.data.toList.take k) f y x).1);obtain⟨Ck,d⟩:=bU ((eP (D.data.toList.take k) f y x).2);rw[<-p,<-d]at b;have e5:wr.cell? (aA S (o+5))=some (.slice A L B):=by rw[b.out.cK.cell];exact z.out.c5
    have e6:wr.cell? (aA S (o+6))=some (.slice F L u):=by rw[b.out.cK.cell];exact z.out.c6
    obtain⟨g',ha,Q,x8⟩:=b.out.cellC (f+k) aj;obtain⟨hf,V⟩:=hn.out;have i1:0<=(a:Int)-(m.aY:Int)+(k:Int):=aj;have v:(a:Int)-(m.aY:Int)+(k:Int)<(L:Int):=aj;have i3:((a:Int)-(m.aY:Int)+(k:Int)).toNat=f+k:=aj;have i4:(a:Int)-(m.aY:Int)+(k:Int)<9223372036854775808:=aj;have i5: -9223372036854775808<=(a:Int)-(m.aY:Int)+(k:Int):=aj;clear hf V;subst ha;cases G:Ck.getD (f+k) false
    .rw[G]at Q;rw[<-d,G,<-p]at E;obtain⟨g,vv,hg,x9,xa⟩:=b.out.qjf (f+k) aj;obtain⟨g2,x3,q1,q2,q3,q4,q5,q6,q7,HN⟩:=zx oZ s t S o l w A B _ u L Hk Ck wr b.out I.out.2.2.2 hy (f+k) aj D[k];subst hg;cases q1;cases q2;have h7:=aG HN;have n:=aG E;have n1:¬(g=g'):=q3;have n2:¬(g'=g):=fun e=>q3 e.symm;have n3:¬(S=g):=fun e=>q6 e.symm;have n4:¬(S=g'):=fun e=>q7 e.symm;clear HN E b q3 q6 q7 G;go_wp2_with fail;go_region
     all_goals go_wp2_with fail
     all_goals
      refine⟨⟨k+1,aj,by go_num,?_⟩,?_⟩;.unfold Hid;rw[n.out];have H:=h7.out;exact⟨⟨H.kp.os,H.kp.tape,H.kp.output,H.kp.size,H.kp.cK,H.kp.ext⟩,H.cK,H.gh.kp (Kp.below (T:=[]) ⟨rfl,rfl,rfl,aI _,fun _ _=>rfl⟩) aR,H.gc.kp (Kp.below (T:=[]) ⟨rfl,rfl,rfl,aI _,fun _ _=>rfl⟩) aR,H.lh,H.lc⟩
      .simp[eT];omega
    .rw[G]at Q;rw[<-d,G]at E;have n:=aG E;have Ch:Hid (vL oZ s t S o l w A B (some (aA g' 0)) u L (eP (D.data.toList.take (k+1)) f y x).1 (eP (D.data.toList.take (k+1)) f y x).2 wr):=by
      unfold Hid;rw[n.out,dN rfl,<-p,<-d];exact b.out
     clear E n b p d G;go_wp2_with fail;go_roundw;case rel=>exact⟨k+1,aj,by go_num,Ch⟩
     case measure=>simp[eT];omega
   .obtain rfl:k=D.size:=aj;rw[x2.out,<-J.out]at b;have oh:Hid (RG s t oZ S o l w MH wr):=by
     obtain⟨KK,i,v,P⟩:=I.out;have H:=b.out;refine⟨oZ,l,KK.trans (H.kp.mono aR),H.cK,i,.slice A L B,.slice F L u,?_,?_,?_⟩;.rw[HX.out];have:=z.out;exact⟨this.gr,this.c4,this.c5,this.c6,this.c7,this.c8,this.c9,this.wD,this.zT,this.Aq⟩
     .rw[HX.out];show GT _ _ _ _ _ _ X.1.length _;rw[H.lh];exact H.gh
     .rw[HX.out];show GT _ _ _ _ _ _ X.2.length _;rw[H.lc];exact H.gc
    clear b;go_wp2;go_end0;exact⟨rfl,oh.out⟩
def extract_toList(D:ByteArray)(a b):(D.extract a b).data.toList=(D.data.toList.take b).drop a:=by rw[qk2,Array.toList_extract,List.extract_eq_drop_take',List.drop_take]
def qg2(m:dP)(f):m.take f=(
  if max f.aC m.aY<min (bI f) ({m with fq:=max m.fq (bI f),cB:=m.cB||f.bL,h_:=if f.bL then bI f else m.h_}:dP).wanted then
   ({m with fq:=max m.fq (bI f),cB:=m.cB||f.bL,h_:=if f.bL then bI f else m.h_}:dP).hold (max f.aC m.aY) ((f.data.data.toList.take (min (bI f) ({m with fq:=max m.fq (bI f),cB:=m.cB||f.bL,h_:=if f.bL then bI f else m.h_}:dP).wanted-f.aC)).drop (max f.aC m.aY-f.aC))
  else{m with fq:=max m.fq (bI f),cB:=m.cB||f.bL,h_:=if f.bL then bI f else m.h_}):=rfl
structure Qs (ow:Own) (s t S o B:Nat) (f:Fr) (rv:Wx) (l0:bM) (w:Wq) (l:bM) (m:dP) (y:Wq):Prop where
 kp:Kp [s,t,t+1] ow ow w y
 cK:aS y S TS l
 iB:ni l0 l o 13
 bH:IZ ow t y l o m
 box:aS y B 65 (f_ f rv)
def Qs.below{c s t S o B f d b w l m y y'}(h:Qs c s t S o B f d b w l m y)(a:bJ y y'):Qs c s t S o B f d b w l m y':=
 ⟨h.kp.iQ a,h.cK.of_heap (a.block _ h.cK.lt),h.iB,h.bH.kp (Kp.below (T:=[]) a) aR aR (ni.refl l (o+13) 0) aj,h.box.of_heap (a.block _ h.box.lt)⟩
theorem Qs.cell{b B f k i m' y}(h:Qs b s t S o B f k i w l m y)(q:b S=s)(z:s<t)(E:b B=0)(x:0<s)(j v)(u:o<=j)(g:j<o+13)(r:∀d c,zS l o m d c->zS (l.set j v) o m' d c)(n:m'.bO=m.bO)(p:m'.aT=m.aT):Qs b s t S o B f k i w (l.set j v) m' (y.setCell (aA S j) v):=by
 have e:=gZ.one h.cK j v o 13 u g;have a:=e.kp q (T:=[s]) aR;obtain⟨d,c,A,C,D⟩:=h.bH;refine⟨h.kp.trans (a.mono aR),e.cK,h.iB.trans e.iB,⟨d,c,r _ _ A,?_,?_⟩,bW h.box a (by grind)⟩;.rw[n];exact C.kp a dZ
 .rw[p];exact D.kp a dZ
def Qs.drewN{b s t S o B f c a w l m y}(h:Qs b s t S o B f c a w l m y)(q):Qs b s t S o B f c a w l m (y.drewN q):=h.below ⟨rfl,rfl,rfl,aI _,fun _ _=>rfl⟩
def Qs.wanted{c s t S o B f d b w l m y}(h:Qs c s t S o B f d b w l m y):bN 306 #[aK S o] y (uZ m.wanted) fun i=>i=y:=by obtain⟨g,e,a,_⟩:=h.bH;exact uo S o m g e y l h.cK a
def Qs.aY{c s t S o B f d b w l m y}(h:Qs c s t S o B f d b w l m y):y.cell? (aA S (o+4))=some (uZ m.aY):=by obtain⟨g,e,a,_⟩:=h.bH;exact in4 S o m g e y l h.cK a
theorem qg3(s t o m f Q)(hB:aS w S TS l)(hS:oZ S=s)(ha:0<s)(O:s<t)(hO:IZ oZ t w l o m)(ok:Ux m)(ho:f.aC<=dH)(hd:f.data.size<=1000000000)(hE:bI f<=dH)(hw:bI f<=m.aY+100000):bN 298 #[aK S o,eX f Q] w (.tuple #[]) fun w'=>RG s t oZ S o l w (m.take f) w':=by
 have hn:=hB.lt;obtain⟨Z,N⟩:=bU (loc oZ w.heap.size);have I:Z S=s:=by rw[N,jW _ _ _ hn,hS]
 have h7:Z w.heap.size=0:=by rw[N,jF _ _ _ (aI _)]
 have hj:IZ Z t w l o m:=by rw[N];exact hO.loc
 obtain⟨W,hW⟩:=bU (w.alloc (.cells (f_ f Q).toArray 65));have hb:aS W w.heap.size 65 (f_ f Q):=by grind [aS.new]
 have Y:bJ w W:=by rw[hW];exact(bP _ w).alloc (aI _) _
 have T0:Qs Z s t S o w.heap.size f Q l w l m W:=⟨Kp.below Y,hB.of_heap (Y.block _ hn),ni.refl _ _ _,hj.kp (Kp.below (T:=[]) Y) aR aR (ni.refl l (o+13) 0) aj,hb⟩;have R:=aG (fun y=>nG f Q y ho hd);obtain⟨x0,x1,x2,x3,x4,x5,x6,x7,x8,x9,xf⟩:=bF hb;have oh:Hid (∀w' m',m'=m.take f->RG s t Z S o l w m' w'->RG s t oZ S o l w (m.take f) w'):=fun w' m' e h=>by rw[<-e];rw[N]at h;obtain⟨aX,l',h1,h2⟩:=h;exact⟨aX,l',h1.lI,h2⟩
 have U:=aG (qg2 m f);generalize m.take f=MT at *
 generalize hg:bI f=E at *
 have he:Hid (f.aC+f.data.size=E):=by unfold Hid;rw[<-hg];rfl
 clear hg;have hf:=aG T0;clear hb Y T0 hj N hO;unfold eX at *
 unfold f_ at hW;go_enter func298,ntmps298;go_wp2_with fail;rw[<-hW];clear hW;refine bK (R.out W) ?_;rintro y1 xJ;have T1:=hf.out.below xJ;obtain⟨vh,vc,k1,k2,k3⟩:=T1.bH;have h5:=aG (DT S o m vh vc y1 l T1.cK k1 E);have c7:=in7 S o m vh vc y1 l T1.cK k1;have f7:=T1.cK.frozen (o+7);have T2:=T1.cell I O h7 ha (o+7) (uZ ((max m.fq E:Nat):Int)) aj aj (m':={m with fq:=max m.fq E}) (fun _ _ h=>Zl h _) rfl rfl;generalize max m.fq E=HI at *
 obtain⟨y2,P⟩:=bU (y1.setCell (aA S (o+7)) (uZ HI));rw[<-P]at T2;obtain⟨z0,z1,z2,z3,z4,z5,z6,z7,z8,z9,zf⟩:=bF T1.box;have n1:¬(S=w.heap.size):=aj;have n2:¬(w.heap.size=S):=aj;have r:=aG T2;clear T1 T2 k1 k2 k3 xJ x0 x1 x2 x3 x4 x5 x6 x7 x8 x9 xf hf;go_wp2_with fail;refine bK h5.out ?_;rintro y rfl;rcases(Js f.bL).symm with hfi|hfi
 .have t5:y.cell? (aA w.heap.size 5)=some (.bool false):=by grind
  have J5:=aG hfi;clear hfi z0 z1 z2 z3 z4 z5 z6 z7 z8 z9 zf;go_wp2_with fail;rw[<-P];clear P t5 c7 f7 h5;obtain⟨a,c⟩:∃a:dP,a={m with fq:=HI}:=⟨_,rfl⟩;have b:=r;rw[<-c]at b;obtain⟨l3,L⟩:=bU (l.set (o+7) (uZ HI));rw[<-L]at b;obtain⟨y3,p⟩:=bU y2;rw[<-p];rw[<-p]at b;have g:Hid (MT=if max f.aC m.aY<min E a.wanted then a.hold (max f.aC m.aY) ((f.data.data.toList.take (min E a.wanted-f.aC)).drop (max f.aC m.aY-f.aC))else a):=by have h:=U.out;rw[J5.out]at h;simp only[Bool.or_false,Bool.false_eq_true,if_false]at h;rw[c];exact h
  have u:Hid (a.aY=m.aY/\a.bO=m.bO/\a.aT=m.aT):=by rw[c];exact⟨rfl,rfl,rfl⟩
  clear p L c r U J5;obtain⟨d,h9,ZJ⟩:=max2 f.aC m.aY;obtain⟨z,h8,ZK⟩:=min2 E a.wanted;obtain⟨C,x⟩:=bU (Qs Z s t S o w.heap.size f Q l w l3 a:Wq->Prop);have n:Hid (∀v,C v->v.cell? (aA S (o+4))=some (uZ m.aY)/\(v.cell? (aA w.heap.size 0)=some (iZ f.aD)/\v.cell? (aA w.heap.size 1)=some (iZ f.aF)/\v.cell? (aA w.heap.size 2)=some (uZ f.aC)/\v.cell? (aA w.heap.size 3)=some (uZ f.aO)/\v.cell? (aA w.heap.size 4)=some (uZ f.aN)/\v.cell? (aA w.heap.size 5)=some (.bool f.bL)/\v.cell? (aA w.heap.size 6)=some (uZ f.id)/\v.cell? (aA w.heap.size 7)=some (uZ f.aJ)/\v.cell? (aA w.heap.size 8)=some (.string f.data)/\v.cell? (aA w.heap.size 9)=some Q/\∀j,v.frozen? (aA w.heap.size j)=false)):=fun v h=>by rw[x]at h;exact⟨by rw[<-u.out.1];exact h.aY,bF h.box⟩
  have B:Hid (∀v,C v->bN 318 #[.agg #[iZ f.aD,iZ f.aF,uZ f.aC,uZ f.aO,uZ f.aN,.bool f.bL,uZ f.id,uZ f.aJ,.string f.data,Q]] v (uZ E) fun q=>C q):=fun v h=>by refine bK (R.out v) ?_;rintro v' hb;rw[x]at h ⊢;exact⟨rfl,h.below hb⟩
  have F:Hid (∀v,C v->bN 306 #[aK S o] v (uZ a.wanted) fun q=>C q):=fun v h=>by have h':=h;rw[x]at h';refine h'.wanted.mono ?_;grind
  have H:C (y3.drewN 1):=by rw[x];exact b.out.drewN 1
  have HC:=aG x;have A:=aG ZJ;have V:=aG ZK;clear x ZJ ZK;refine wp_region_quiet (C:=C) bZ bZ H ?_;dsimp only;repeat
   refine wpQuiet_step (fun K X=>?_);go_simp;first
    |(
      refine X _ ?_;clear X K)
    |(
      apply Cy;refine⟨fun y hy=>?_,X _ ?_⟩
      (first
       |exact B.out y hy
       |exact F.out y hy
       |(
         obtain⟨c4,d0,d1,d2,d3,d4,d5,d6,d7,d8,d9,df⟩:=n.out y hy;go_simp;rfl)
       |rfl)
      clear X K)
  refine wpQuiet_nil ?_;intro y5 i;obtain⟨c4,d0,d1,d2,d3,d4,d5,d6,d7,d8,d9,df⟩:=n.out y5 i;rw[HC.out]at i;have k:=aG i;clear i HC B F n H h9 h8 b;have G:Hid (f.aC<=d/\m.aY<=d/\z<=E/\E=f.aC+f.data.size):=by
   refine⟨?_,?_,?_,?_⟩;.rw[A.out];grind
   .rw[A.out];grind
   .rw[V.out];grind
   .exact he.out.symm
  by_cases M:d<z
  .obtain⟨l1,l2,l4,l5⟩:=G.out;have hc:E<=4611686018427387904:=by grind [dH]
   obtain⟨D,hD⟩:=bU (f.data.extract (d-f.aC) (z-f.aC));have hu:∀wx,(Instr.slice 9 (.string f.data) (some (uZ ((d:Int)-(f.aC:Int)))) (some (uZ ((z:Int)-(f.aC:Int)))) none).run prog wx=.ok (.string D) wx:=fun wx=>by rw[run_slice_string wx 9 f.data .u64 .u64 _ _ bZ aj aj aj,hD];grind
   have J:d-m.aY+D.size<=1000000:=by grind [ByteArray.size_extract]
   have HH:=aG (UN s d D k.out.cK I O k.out.bH (by rw[u.out.2.1,u.out.2.2];exact ok.cl) (by rw[u.out.2.1];exact ok.hl) (by rw[u.out.1];exact l2) (by grind) (by rw[u.out.1];exact J));have h6:Hid (a.hold d D.data.toList=MT):=by have h:=g.out;rw[<-A.out,<-V.out,dN M]at h;unfold Hid;rw[h,hD,extract_toList]
   have g0:0<=(d:Int)-(f.aC:Int):=aj;have g1:(d:Int)-(f.aC:Int)<18446744073709551616:=aj;have g2:0<=(z:Int)-(f.aC:Int):=aj;have g3:(z:Int)-(f.aC:Int)<18446744073709551616:=aj;clear c4 d0 d1 d3 d4 d5 d6 d7 d9 df l5 hc l4 l1 l2 hD J g A V G;go_wp2_with fail;refine bK HH.out ?_;rintro y6 hQ;have HQ:Hid (RG s t oZ S o l w MT y6):=by obtain⟨aX,l',h1,h2,h3,h4⟩:=hQ;rw[h6.out]at h4;exact oh.out y6 MT rfl ⟨aX,l',k.out.kp.trans h1,h2,k.out.iB.trans h3,h4⟩
   clear HH hQ;go_wp2_with fail;go_end0;exact⟨rfl,HQ.out⟩
  .clear c4 d0 d1 d2 d3 d4 d5 d6 d7 d8 d9 df;go_wp2_with fail;go_end0;have h:=g.out;rw[<-A.out,<-V.out,b_ M]at h;exact⟨rfl,oh.out _ _ h.symm ⟨Z,l3,k.out.kp,k.out.cK,k.out.iB,k.out.bH⟩⟩
 .have J5:=aG hfi;have t5:y.cell? (aA w.heap.size 5)=some (.bool true):=by grind
  clear z5;have h0:=aG (R.out y2);rw[hfi]at h0;have g:Hid (∀a:dP,a={m with fq:=HI,cB:=true,h_:=E}->(MT=if max f.aC m.aY<min E a.wanted then a.hold (max f.aC m.aY) ((f.data.data.toList.take (min E a.wanted-f.aC)).drop (max f.aC m.aY-f.aC))else a)):=fun a c=>by have h:=U.out;grind
  clear hfi U;have hv:=(bF r.out.box).1;obtain⟨x0,x1,x2,x3,x4,x5,x6,x7,x8,x9,xf⟩:=bF r.out.box;rw[J5.out]at x5;clear hv;go_wp2_with fail;rw[<-P];refine bK h0.out ?_;rintro y4 hk;have T3:=r.out.below hk;obtain⟨hr,lJ,k1,k2,k3⟩:=T3.bH;have c8:=in8 S o _ hr lJ y4 _ T3.cK k1;have c9:=in9 S o _ hr lJ y4 _ T3.cK k1;have f8:=T3.cK.frozen (o+8);have f9:=T3.cK.frozen (o+9);have T4:=T3.cell I O h7 ha (o+8) (.bool true) aj aj (m':={m with fq:=HI,cB:=true}) (fun _ _ h=>JW h true) rfl rfl;have T5:=T4.cell I O h7 ha (o+9) (uZ E) aj aj (m':={m with fq:=HI,cB:=true,h_:=E}) (fun _ _ h=>Og h E) rfl rfl;obtain⟨y3,p⟩:=bU ((y4.setCell (aA S (o+8)) (.bool true)).setCell (aA S (o+9)) (uZ E));rw[<-p]at T5;have b:=aG T5;clear T3 T4 T5 k1 k2 k3 hk P c7 f7 h5 t5 z0 z1 z2 z3 z4 z6 z7 z8 z9 zf h0 r x0 x1 x2 x3 x4 x5 x6 x7 x8 x9 xf;go_wp2_with fail;rw[<-p];clear p c8 c9 f8 f9 J5;obtain⟨a,c⟩:∃a:dP,a={m with fq:=HI,cB:=true,h_:=E}:=⟨_,rfl⟩;rw[<-c]at b;have g:=aG (g.out a c);have u:Hid (a.aY=m.aY/\a.bO=m.bO/\a.aT=m.aT):=by rw[c];exact⟨rfl,rfl,rfl⟩
  clear c;obtain⟨l3,L⟩:=bU (((l.set (o+7) (uZ HI)).set (o+8) (.bool true)).set (o+9) (uZ E));rw[<-L]at b;clear L;obtain⟨d,h9,ZJ⟩:=max2 f.aC m.aY;obtain⟨z,h8,ZK⟩:=min2 E a.wanted;obtain⟨C,x⟩:=bU (Qs Z s t S o w.heap.size f Q l w l3 a:Wq->Prop);have n:Hid (∀v,C v->v.cell? (aA S (o+4))=some (uZ m.aY)/\(v.cell? (aA w.heap.size 0)=some (iZ f.aD)/\v.cell? (aA w.heap.size 1)=some (iZ f.aF)/\v.cell? (aA w.heap.size 2)=some (uZ f.aC)/\v.cell? (aA w.heap.size 3)=some (uZ f.aO)/\v.cell? (aA w.heap.size 4)=some (uZ f.aN)/\v.cell? (aA w.heap.size 5)=some (.bool f.bL)/\v.cell? (aA w.heap.size 6)=some (uZ f.id)/\v.cell? (aA w.heap.size 7)=some (uZ f.aJ)/\v.cell? (aA w.heap.size 8)=some (.string f.data)/\v.cell? (aA w.heap.size 9)=some Q/\∀j,v.frozen? (aA w.heap.size j)=false)):=fun v h=>by rw[x]at h;exact⟨by rw[<-u.out.1];exact h.aY,bF h.box⟩
  have B:Hid (∀v,C v->bN 318 #[.agg #[iZ f.aD,iZ f.aF,uZ f.aC,uZ f.aO,uZ f.aN,.bool f.bL,uZ f.id,uZ f.aJ,.string f.data,Q]] v (uZ E) fun q=>C q):=fun v h=>by refine bK (R.out v) ?_;rintro v' hb;rw[x]at h ⊢;exact⟨rfl,h.below hb⟩
  have F:Hid (∀v,C v->bN 306 #[aK S o] v (uZ a.wanted) fun q=>C q):=fun v h=>by have h':=h;rw[x]at h';refine h'.wanted.mono ?_;grind
  have H:C (y3.drewN 1):=by rw[x];exact b.out.drewN 1
  have HC:=aG x;have A:=aG ZJ;have V:=aG ZK;clear x ZJ ZK;refine wp_region_quiet (C:=C) bZ bZ H ?_;dsimp only;repeat
   refine wpQuiet_step (fun K X=>?_);go_simp;first
    |(
      refine X _ ?_;clear X K)
    |(
      apply Cy;refine⟨fun y hy=>?_,X _ ?_⟩
      (first
       |exact B.out y hy
       |exact F.out y hy
       |(
         obtain⟨c4,d0,d1,d2,d3,d4,d5,d6,d7,d8,d9,df⟩:=n.out y hy;go_simp;rfl)
       |rfl)
      clear X K)
  refine wpQuiet_nil ?_;intro y5 i;obtain⟨c4,d0,d1,d2,d3,d4,d5,d6,d7,d8,d9,df⟩:=n.out y5 i;rw[HC.out]at i;have k:=aG i;clear i HC B F n H h9 h8 b;have G:Hid (f.aC<=d/\m.aY<=d/\z<=E/\E=f.aC+f.data.size):=by
   refine⟨?_,?_,?_,?_⟩;.rw[A.out];grind
   .rw[A.out];grind
   .rw[V.out];grind
   .exact he.out.symm
  by_cases M:d<z
  .obtain⟨l1,l2,l4,l5⟩:=G.out;have hc:E<=4611686018427387904:=by grind [dH]
   obtain⟨D,hD⟩:=bU (f.data.extract (d-f.aC) (z-f.aC));have hu:∀wx,(Instr.slice 9 (.string f.data) (some (uZ ((d:Int)-(f.aC:Int)))) (some (uZ ((z:Int)-(f.aC:Int)))) none).run prog wx=.ok (.string D) wx:=fun wx=>by rw[run_slice_string wx 9 f.data .u64 .u64 _ _ bZ aj aj aj,hD];grind
   have J:d-m.aY+D.size<=1000000:=by grind [ByteArray.size_extract]
   have HH:=aG (UN s d D k.out.cK I O k.out.bH (by rw[u.out.2.1,u.out.2.2];exact ok.cl) (by rw[u.out.2.1];exact ok.hl) (by rw[u.out.1];exact l2) (by grind) (by rw[u.out.1];exact J));have h6:Hid (a.hold d D.data.toList=MT):=by have h:=g.out;rw[<-A.out,<-V.out,dN M]at h;unfold Hid;rw[h,hD,extract_toList]
   have g0:0<=(d:Int)-(f.aC:Int):=aj;have g1:(d:Int)-(f.aC:Int)<18446744073709551616:=aj;have g2:0<=(z:Int)-(f.aC:Int):=aj;have g3:(z:Int)-(f.aC:Int)<18446744073709551616:=aj;clear c4 d0 d1 d3 d4 d5 d6 d7 d9 df l5 hc l4 l1 l2 hD J g A V G;go_wp2_with fail;refine bK HH.out ?_;rintro y6 hQ;have HQ:Hid (RG s t oZ S o l w MT y6):=by obtain⟨aX,l',h1,h2,h3,h4⟩:=hQ;rw[h6.out]at h4;exact oh.out y6 MT rfl ⟨aX,l',k.out.kp.trans h1,h2,k.out.iB.trans h3,h4⟩
   clear HH hQ;go_wp2_with fail;go_end0;exact⟨rfl,HQ.out⟩
  .clear c4 d0 d1 d2 d3 d4 d5 d6 d7 d8 d9 df;go_wp2_with fail;go_end0;have h:=g.out;rw[<-A.out,<-V.out,b_ M]at h;exact⟨rfl,oh.out _ _ h.symm ⟨Z,l3,k.out.kp,k.out.cK,k.out.iB,k.out.bH⟩⟩
end Go.Proofs.YtphbledmopchnaaGreatDoor.Sd
namespace Go.Proofs.YtphbledmopchnaaGreatDoor.Sd
open St Tryz
variable {e:Nat}{i:dP}
theorem Mi{c}(h:CmB c)(n)(f:n<=dH):CmB (c.add 8 n n):=by
 unfold NS.add Rg.add;by_cases d:n<max n c.fl;.simp_all
 .rw[b_ d];have e:max n c.fl<=n:=aj;have s:=Rg.qZ c.rs (max n c.fl) n e h.so;have b:=Rg.xg c.rs (max n c.fl) n dH f h.hi;have j:=Rg.uP c.rs (max n c.fl) n;have i:=h.ln;by_cases a:8<(Rg.ins (max n c.fl) n c.rs).length;.rw[dN a];refine⟨s.tail,fun r g=>b r (KU g),by grind,?_⟩;grind
  .rw[b_ a];exact⟨s,b,by grind,h.fl⟩
theorem ZW(h:Dc i)(c d)(e:i.aY<=c)(f:c+d.length<=2048):Dc (i.hold c d):=by
 have j:=h.l;have g:=h.c;obtain⟨a,b⟩:=z_ d (c-i.aY) (i.bO++eB (c-i.aY+d.length-i.bO.length) 0) (i.aT++eB (c-i.aY+d.length-i.bO.length) false);refine⟨h.g,h.r,h.h,h.f,h.e,?_,?_,h.s⟩;.show i.aY+(eP d (c-i.aY) (i.bO++eB (c-i.aY+d.length-i.bO.length) 0) (i.aT++eB (c-i.aY+d.length-i.bO.length) false)).1.length<=2048;grind
 .show(eP d (c-i.aY) (i.bO++eB (c-i.aY+d.length-i.bO.length) 0) (i.aT++eB (c-i.aY+d.length-i.bO.length) false)).2.length=(eP d (c-i.aY) (i.bO++eB (c-i.aY+d.length-i.bO.length) 0) (i.aT++eB (c-i.aY+d.length-i.bO.length) false)).1.length;grind
theorem ZX(h:Dc i)(f)(b:bI f<=2048):Dc (i.take f):=by
 have a:Dc {i with fq:=max i.fq (bI f),cB:=i.cB||f.bL,h_:=if f.bL then bI f else i.h_}:=
  ⟨h.g,h.r,uN.2 ⟨h.h,b⟩,(by grind [bI,cases Dc]),h.e,h.l,h.c,h.s⟩
 have key:∀j:dP,Dc j->Dc (if max f.aC j.aY<min (bI f) j.wanted then j.hold (max f.aC j.aY) ((f.data.data.toList.take (min (bI f) j.wanted-f.aC)).drop (max f.aC j.aY-f.aC))else j):=fun j c=>by grind [ZW,Nat.le_max_right,List.length_drop,List.length_take]
 exact key _ a
theorem Xc(h:Dc i)(f)(c:f.aC<=2048)(g:f.aO<=dH):Dc (i.gH f):=by
 have d:=h.l;have b:=h.c;obtain⟨r,a⟩:=bU (min i.wanted f.aO);obtain⟨n,en⟩:=bU (min i.bO.length (r-min r i.aY));have e:i.gH f={i with rel:=r,bG:=true,cB:=true,h_:=f.aC,bO:=i.bO.take n,aT:=i.aT.take n}:=by rw[en,a];rfl
 constructor<;>grind [cases Dc]
theorem ql5(h:Dc i)(a):Dc (i.rd a).2:=by
 have c:=h.l;have b:=h.c;have d:min i.ready (max a 0).toNat<=i.bO.length:=by grind [dP.ready,List.takeWhile_sublist]
 unfold dP.rd;simp only;refine⟨h.g,?_,h.h,h.f,h.e,?_,?_,?_⟩;.show i.aY+_<=2048;omega
 .show i.aY+min i.ready (max a 0).toNat+(i.bO.drop (min i.ready (max a 0).toNat)).length<=2048;grind
 .show(i.aT.drop _).length=(i.bO.drop _).length;grind
 .show(if(i.cut _).state=0 then(i.cut _).iO else(i.cut _).state)<=2;split;.grind [dP.iO]
  .exact h.s
def av.gH(M:av)(f:Fr)(a:av)(e:Nat):Prop:=
 if f.aD=2 then(if M.next<=(f.ranges.getD 0 (0,0)).2 then a=M/\e=11 else M.uH f.ranges a/\e=0)else if f.aD=7 then∃v,a={M.pQ f with iv:=v}/\e=0 else(a,e)=M.take f
def jR:av->List Fr->av->Nat->Prop
 |M,[],M1,e=>M1=M/\e=0
 |M,f::t,M1,e=>∃b a,M.gH f b a/\if a=0 then jR b t M1 e else M1={b with mY:=a}/\e=a
def av.jJ(M:av)(n:Nat)(b:List Fr)(a:av)(e:Nat):Prop:=
 if M.aT.has n then a=M/\e=0 else jR {M with aT:=M.aT.add 8 n n,bn:=M.bn||fZ b} b a e
theorem qg9{A}(h:Ib A)(f:Fr)(a:f.id<=dH)(b:f.id∉A.taken):Ib {A with gy:=A.gy++[(f.id,f.data)],dK:=max A.dK f.id,taken:=(f.id::A.taken).filter fun x=> !decide (x+32<=max A.dK f.id)}:=by grind [Ib,List.nodup_cons,List.filter_sublist]
def rV.iv{A B A'}(h:rV A B A')(v):rV A B {A' with iv:=v}:=
 ⟨⟨h.loc.lo,h.loc.li,h.loc.wr,h.loc.sp,h.loc.it,h.loc.gt,h.loc.mY,h.loc.q,h.loc.ql⟩,⟨h.ab.rd,h.ab.jI,h.ab.aT⟩,⟨h.ba.rd,h.ba.jI,h.ba.aT⟩,⟨h.le.out,h.le.NG,h.le.eF,h.le.next⟩⟩
def Bd.iv{A}(h:Bd A)(v):Bd {A with iv:=v}:=⟨h.o,h.i,h.g,h.lm,h.mt,h.wy,h.ls,h.ky,h.wl,h.ll,h.nm,h.cm,h.tk,h.ib⟩
theorem GY{A B A'}(n:fG A)(i:fG B)(k:dL A B)(m:dL B A)(a:Bd A)(u:Bd B)(f)(c:qj B A f)(h:A.gH f A' e):e=0/\rV A B A'/\Bd A'/\A'.next=A.next/\A'.aZ=A.aZ:=by
 unfold av.gH at h;have p:∀(l:List Fr) (M:av),(l.foldl av.gJ M).next=M.next/\(l.foldl av.gJ M).aZ=M.aZ:=fun l=>by
  induction l with
  |nil=>exact fun M=>⟨rfl,rfl⟩
  |cons f t s=>
   intro M;have r:(M.gJ f).next=M.next/\(M.gJ f).aZ=M.aZ:=by
    unfold av.gJ;repeat' split
    all_goals exact⟨rfl,rfl⟩
   exact⟨(s _).1.trans r.1,(s _).2.trans r.2⟩
 by_cases g:f.aD=2
 .rw[dN g]at h;have d:(f.ranges.getD 0 (0,0)).2<A.next:=by
   rcases c with⟨_,_,h⟩|⟨h,_⟩|⟨h,_⟩|⟨h,_⟩|⟨h,_⟩|h;.exact h
   .grind
   .grind
   .grind
   .grind
   .rw[h.kd]at g;cases g
  rw[b_ aj]at h;obtain⟨h,rfl⟩:=h;refine⟨rfl,Xb n k m _ h,ZV a d h,?_⟩;obtain⟨E,F,_,_,rfl⟩:=h;exact p _ _
 .rw[b_ g]at h;by_cases o:f.aD=7
  .rw[dN o]at h;obtain⟨v,rfl,rfl⟩:=h;obtain⟨_,j⟩:=EL n i k m f c;have z:(A.take f).1=A.pQ f:=by grind [av.take]
   rw[z]at j;have q:Bd (A.pQ f)/\(A.pQ f).next=A.next/\(A.pQ f).aZ=A.aZ:=by
    unfold av.pQ;split;.grind
    .rename_i C;refine⟨⟨a.o,a.i,a.g,a.lm,a.mt,a.wy,a.ls,a.ky,a.wl,a.ll,a.nm,a.cm,a.tk,?_⟩,rfl,rfl⟩;refine qg9 a.ib f ?_ (fun e=>C (.inr (.inl e)));rcases c with⟨h,_⟩|⟨h,_⟩|⟨h,_⟩|⟨h,_⟩|⟨h,_⟩|h;.omega
     .omega
     .omega
     .omega
     .omega
     .exact h.i
   exact⟨rfl,j.iv v,q.1.iv v,q.2⟩
  rw[b_ o]at h;obtain⟨D,j⟩:=EL n i k m f c;have x:A'=(A.take f).1:=congrArg Prod.fst h;have y:e=(A.take f).2:=congrArg Prod.snd h;rw[x,y];refine⟨D,j,?_⟩;unfold av.take;rw[b_ g];rcases c with⟨b,_⟩|⟨b,hs,hs8,hd⟩|⟨b,hl⟩|⟨b,hs,hs8,hl⟩|⟨b,hs,hs8,d⟩|d;.grind
  .rw[dN b];split;.grind
   .split;.grind
    .exact⟨a.eZ _ _ (ZX (a.i _) f (dx hd.b (i.wr _).sz)),rfl,rfl⟩
  .have:=dx hl u.g.2.1;rw[b_ (by grind),b_ (by grind),b_ (by grind),b_ (by grind),dN b];exact⟨⟨a.o,a.i,a.g,uN.2 ⟨a.lm,this⟩,a.mt,a.wy,a.ls,a.ky,a.wl,a.ll,a.nm,a.cm,a.tk,a.ib⟩,rfl,rfl⟩
  .rw[b_ (by grind),b_ (by grind),b_ (by grind),b_ (by grind),b_ (by grind),dN b];exact⟨a.dA _ _ ⟨(a.o _).b,(a.o _).a,(a.o _).c⟩,rfl,rfl⟩
  .rw[b_ (by grind),dN b];split;.grind
   .refine⟨a.eZ _ _ (Xc (a.i _) f ?_ (dx d.m kX)),rfl,rfl⟩;have w:=i.wr f.aF.toNat;grind [cases A8,Nat.le_trans,cases vS]
  .exact absurd d.kd o
theorem DX:∀(a) {A B A'} {e},fG A->fG B->dL A B->dL B A->Bd A->Bd B->(∀f∈a,qj B A f)->jR A a A' e->e=0/\rV A B A'/\Bd A'/\A'.next=A.next/\A'.aZ=A.aZ
 |[],A,B,A',e,hA,hB,h1,h2,bA,bB,_,h=>by grind [jR,lW]
 |f::t,A,B,A',e,hA,hB,h1,h2,bA,bB,hf,h=>by obtain⟨o,p,r,h⟩:=h;obtain⟨rfl,s,b,n,m⟩:=GY hA hB h1 h2 bA bB f (hf f aR) r;rw[dN rfl]at h;obtain⟨d,l,c,k,j⟩:=DX t s.loc hB s.ab s.ba b bB (fun g i=>(hf g (by simp[i])).mono (EB.refl _) s.le) h;exact⟨d,s.trans l,c,k.trans n,j.trans m⟩
theorem OG{A B A'}(l:fG A)(m:fG B)(j:dL A B)(k:dL B A)(a:Bd A)(d:Bd B)(n b)(q:n<B.next)(v:B.next<=dH)(o:∀f∈b,qj B A f)(h:A.jJ n b A' e):e=0/\rV A B A'/\Bd A'/\A'.next=A.next/\A'.aZ=A.aZ:=by
 unfold av.jJ at h;split at h;.grind [lW]
 .have s:=GI l j k n q (A.bn||fZ b);obtain⟨i,u,c,t,r⟩:=DX b s.loc m s.ab s.ba (A:={A with aT:=A.aT.add 8 n n,bn:=A.bn||fZ b})
   ⟨a.o,a.i,a.g,a.lm,a.mt,a.wy,a.ls,a.ky,a.wl,a.ll,a.nm,Mi a.cm n aj,a.tk,a.ib⟩ d (fun g p=>(o g p).mono (EB.refl _) s.le) h
  exact⟨i,s.trans u,c,t,r⟩
theorem UR{A}(h:Bd A)(k b):Bd (A.dA k ((A.out k).send b).1):=by
 refine h.dA _ _ ?_;unfold Ot.send;split;.exact h.o k
 .split;.exact h.o k
  .rename_i a;exact⟨by grind,(h.o k).a,(h.o k).c⟩
def J_{A}(h:Bd A)(k):Bd (A.dA k (A.out k).finish.1):=by
 refine h.dA _ _ ?_;unfold Ot.finish;split;.exact h.o k
 .exact⟨(h.o k).b,(h.o k).a,(h.o k).c⟩
def ZY{A}(h:Bd A)(k a):Bd (A.dA k ((A.out k).reset a)):=
 h.dA _ _ ⟨by show((A.out k).aB.take _).length<=2048;rw[Au];have:=(h.o k).b;omega,(h.o k).a,(h.o k).c⟩
def Mk{A}(h:Bd A)(k a):Bd (A.eZ k ((A.bH k).rd a).2):=h.eZ _ _ (ql5 (h.i k) a)
def ql6(e c g)(i:64<=e/\e<=400)(j:c<=4096)(d:g<=4096):Bd (av.new e c g):=by
 have h:Bh ⟨0,[]⟩:=⟨rfl,trivial,fun r f=>by cases f⟩;refine⟨fun k=>?_,fun k=>?_,⟨d,dx d kX,eG _,dx d kX⟩,dx d kX,i,(fun x a=>by cases a),(fun x a=>by cases a),List.Pairwise.nil,eG _,eG _,eG _,⟨trivial,(fun r f=>by cases f),eG _,eG _⟩,(fun x a=>by cases a),⟨eG _,List.nodup_nil,fun x a=>by cases a⟩⟩
 .show OtB ((eB 8 (Ot.new c)).getD k vR);by_cases b:k<8;.rw[mZ,Dx,dN b];exact⟨eG _,h,h⟩
  .rw[mZ,Dx,b_ b];exact qnl
 .show Dc ((eB 8 (dP.new c)).getD k xk);by_cases b:k<8;.rw[mZ,Dx,dN b];exact Mh _ j
  .rw[mZ,Dx,b_ b];exact Mh 0 kX
end Go.Proofs.YtphbledmopchnaaGreatDoor.Sd
namespace Go.Proofs.YtphbledmopchnaaGreatDoor.Sd
open Go.RowKit Go.Lib Mm Tryz
variable {S bi bl bw e k n q s t u:Nat}{W:Wq}{a:List Fr}{b d:Int}{c:List (Nat×List Fr)}{f:Fr}{l:bM}{o':Ot}{oZ:Own}
structure PkF (aZ:Nat) (x:Nat×List Fr):Prop where
 sn:vT x.1 x.2=true
 sz:(gM x.1 x.2).length+4<=aZ
 ln:x.2.length<=400
 ne:x.2≠[]
 fs:∀f∈x.2,FrG f
theorem Ko{B N}(o:N<dH):∀(n) {A} (aH) (Q) (l),PP B N A aH->Lq Q->(∀x∈l,PkF A.aZ x)->(∀x∈(gQ n A aH Q l).2,PkF A.aZ x)/\(∃d,PP B N (gQ n A aH Q l).1 d)/\(gQ n A aH Q l).1.aZ=A.aZ
 |0,A,aH,Q,l,h,_,hl=>⟨hl,⟨aH,h⟩,rfl⟩
 |n+1,A,aH,Q,l,h,hQ,hl=>by
  obtain⟨r,F⟩:=EO h.bd;have f:(fill A aH Q A.au).1.next=A.next:=rO _ aH Q [] A.au []
  obtain⟨m,t⟩:=qU (Q.length+A.au.toNat+1) aH Q [] A.au [] h.loc h.ab h.ba h.bd h.dn h.l8 h.hi hQ (fun x c=>by simp at c) r;have a:FlB B A aH A.au [] (fill A aH Q A.au) m:=t;clear t;have j:=fun b=>MP (Q:=Q) h o hQ b;unfold gQ;generalize fill A aH Q A.au=x at a f j;obtain⟨g,d,p,k⟩:=x;simp only at a f j ⊢;have e:g.aZ=A.aZ:=a.mt;have G:g.aM=A.aM:=a.wy;have s:d.length<=aH.length:=a.ln;split;.refine⟨hl,⟨d,a.loc,a.ab,a.ba,a.bd,a.dn,fT h.l8,a.hi,?_⟩,e⟩;have:=h.nx;grind [mu]
  .rename_i b;obtain⟨q,u,v,w,y,z⟩:=j b;have i:(g.eO k).aZ=A.aZ:=e;obtain⟨C,D,E⟩:=Ko o n d p (l++[(A.next,k)]) q a.q (fun x c=>by
    rw[i];rcases iJ.1 c with c|c;.exact hl x c
    constructor<;>grind [List.mem_singleton])
   grind
theorem qob(M:av)(f):(M.iU f).next=M.next/\(M.iU f).aT=M.aT/\(M.iU f).aZ=M.aZ/\(M.iU f).aV=M.aV:=by
 unfold av.iU;repeat' split
 all_goals exact⟨rfl,rfl,rfl,rfl⟩
theorem qbj:∀(l:List Fr) (M),(l.foldl av.iU M).next=M.next/\(l.foldl av.iU M).aT=M.aT/\(l.foldl av.iU M).aZ=M.aZ/\(l.foldl av.iU M).aV=M.aV
 |[],M=>⟨rfl,rfl,rfl,rfl⟩
 |f::t,M=>by obtain⟨a,b,c,d⟩:=qbj t (M.iU f);grind [qob]
theorem Af{M a:av}(h:M.kD a):a.next=M.next/\a.aT=M.aT/\a.aZ=M.aZ/\a.aV=M.aV:=by
 unfold av.kD at h;split at h;.obtain⟨b,_,rfl⟩:=h;exact qbj _ _
 grind
def qbk{M}(h:Bd M):(lf M).length<=8:=by
 unfold lf;split;.rw[List.length_reverse];exact h.cm.ln
 .simp
theorem uJ{A B b}(k:fG A)(i:dL A B)(j:dL B A)(g:Bd A)(h:A.kD b):PP B (A.next+24) {b with bn:=false} (lf b)/\mu {b with bn:=false} (lf b)<(lf b).length+14/\(lf b).length<=8:=by
 have d:=J9 k i j h;have a:=OE g h;have e:=GH d.loc d.ab d.ba false;obtain⟨l,m,n,_⟩:=Af h;have f:=qbk a;refine⟨⟨e.loc,e.ab,e.ba,⟨a.o,a.i,a.g,a.lm,a.mt,a.wy,a.ls,a.ky,a.wl,a.ll,a.nm,a.cm,a.tk,a.ib⟩,?_,f,fun r c=>?_,?_⟩,?_,f⟩
 .unfold lf;split;.exact Dn.rev a.cm.so a.cm.hi
  .trivial
 .unfold lf at c;split at c;.exact d.ba.aT r (KY.1 c)
  .simp at c
 .grind [mu]
 .unfold mu;omega
def av.jA(M M':av)(b:List (Nat×List Fr)):Prop:=∃a,M.kD a/\gQ ((lf a).length+14) {a with bn:=false} (lf a) q0 []=(M',b)
structure PkO (A B A':av) (pk:List (Nat×List Fr)):Prop where
 stp:rV A B A'
 bd:Bd A'
 mt:A'.aZ=A.aZ
 next:A'.next=A.next+pk.length
 top:A'.next<=A.next+24
 nm:∀j,j<pk.length->(pk.getD j (0,[])).1=A.next+j
 ok:∀x∈pk,PkF A.aZ x/\x.1<A'.next/\∀f∈x.2,qj A' B f
def OY:∀(m) (n),(nums n m).length=m.length
 |[],_=>rfl
 |_::t,n=>by simp[nums,OY t (n+1)]
theorem OZ:∀(m) (n j),j<m.length->(nums n m).getD j (0,[])=(n+j,m.getD j [])
 |[],_,j,h=>by simp at h
 |_::t,n,0,_=>rfl
 |_::t,n,j+1,h=>by have:=OZ t (n+1) j (by simpa using h);grind [nums,List.getD_cons_succ]
theorem Il:∀(m) (n) (x),x∈nums n m->x.2∈m/\x.1<n+m.length
 |[],_,_,h=>by simp[nums]at h
 |a::t,n,x,h=>by
  rcases nQ.1 h with h|h;.rw[h];simp
  .obtain⟨p,q⟩:=Il t (n+1) x h;grind
theorem Io:∀(n) (A) (a) (Q) (l),∃m,(gQ n A a Q l).2=l++nums A.next m/\(gQ n A a Q l).1.next=A.next+m.length
 |0,A,a,Q,l=>⟨[],by simp[gQ,nums],rfl⟩
 |n+1,A,a,Q,l=>by
  have b:(fill A a Q A.au).1.next=A.next:=rO _ a Q [] A.au []
  unfold gQ;split;.exact⟨[],by simp[nums],b⟩
  .obtain⟨m,e,d⟩:=Io n ((fill A a Q A.au).1.eO (fill A a Q A.au).2.2.2) (fill A a Q A.au).2.1 (fill A a Q A.au).2.2.1 (l++[(A.next,(fill A a Q A.au).2.2.2)]);have c:((fill A a Q A.au).1.eO (fill A a Q A.au).2.2.2).next=A.next+1:=by show(fill A a Q A.au).1.next+1=_;rw[b]
   rw[c]at e d;exact⟨(fill A a Q A.au).2.2.2::m,by rw[e];simp[nums],by grind⟩
structure PkW (A A':av) (pk:List (Nat×List Fr)):Prop where
 bd:Bd A'
 mt:A'.aZ=A.aZ
 next:A'.next=A.next+pk.length
 top:A'.next<=A.next+24
 nm:∀j,j<pk.length->(pk.getD j (0,[])).1=A.next+j
 ok:∀x∈pk,PkF A.aZ x/\x.1<A'.next
theorem Ip{A B A' d}(n:fG A)(k:dL A B)(l:dL B A)(i:Bd A)(r:A.next+24<dH)(h:A.jA A' d):PkW A A' d:=by
 obtain⟨a,g,e⟩:=h;obtain⟨t,o,v⟩:=uJ n k l i g;obtain⟨y,z,s,_⟩:=Af g;obtain⟨m,b,f⟩:=Io ((lf a).length+14) {a with bn:=false} (lf a) q0 [];obtain⟨f1,⟨u,f2⟩,f3⟩:=Ko r ((lf a).length+14) (lf a) q0 [] t lq0 (fun x c=>by simp at c);rw[e]at b f f1 f2 f3;replace b:d=nums a.next m:=by grind
 replace f:A'.next=a.next+m.length:=f;have ek:d.length=m.length:=by rw[b,OY]
 refine⟨f2.bd,f3.trans s,by grind,by grind [mu,cases PP],fun j w=>?_,fun x c=>?_⟩;.grind [OZ]
 .rw[b]at c;obtain⟨p,q⟩:=Il m _ x c;grind
def PkO.w{A B A' b}(o:PkO A B A' b):PkW A A' b:=⟨o.bd,o.mt,o.next,o.top,o.nm,fun x a=>⟨(o.ok x a).1,(o.ok x a).2.1⟩⟩
theorem xO{A B A' j}(i:fG A)(d:dL A B)(g:dL B A)(l:Bd A)(t:A.next+24<dH)(h:A.jA A' j):PkO A B A' j:=by
 have W:=Ip i d g l t h;obtain⟨c,n,e⟩:=h;obtain⟨k,s,u⟩:=uJ i d g l n;have b:=J9 i d g n;have p:=GH b.loc b.ab b.ba false;obtain⟨m,o⟩:=J8 ((lf c).length+14) (lf c) q0 [] p.loc k.ab k.ba lq0 k.hi;rw[e]at o;have q:j=nums c.next m:=by have:=o.eq;grind
 refine⟨b.trans (p.trans o.stp),W.bd,W.mt,W.next,W.top,W.nm,fun x a=>⟨(W.ok x a).1,(W.ok x a).2,fun f r=>o.ok _ ?_ f r⟩⟩;rw[q]at a;exact(Il m _ x a).1
def SmO(o o':Ot):Prop:=o'.all=o.all/\o'.aB=o.aB/\o'.bL=o.bL/\o'.nt.bG=o.nt.bG
structure Sm (A A':av):Prop where
 o:∀k,SmO (A.out k) (A'.out k)
 i:∀k,(A'.bH k).aY=(A.bH k).aY/\(A'.bH k).state=(A.bH k).state
theorem Cj(o):SmO o o:=⟨rfl,rfl,rfl,rfl⟩
theorem Sm.refl(A):Sm A A:=⟨fun _=>Cj _,fun _=>⟨rfl,rfl⟩⟩
def Sm.trans{A B C}(h:Sm A B)(g:Sm B C):Sm A C:=
 ⟨fun k=>⟨(g.o k).1.trans (h.o k).1,(g.o k).2.1.trans (h.o k).2.1,(g.o k).2.2.1.trans (h.o k).2.2.1,(g.o k).2.2.2.trans (h.o k).2.2.2⟩,fun k=>⟨(g.i k).1.trans (h.i k).1,(g.i k).2.trans (h.i k).2⟩⟩
theorem qM(A k o)(a:SmO (A.out k) o):Sm A (A.dA k o):=
 ⟨fun j=>by grind [gL,Cj],fun _=>⟨rfl,rfl⟩⟩
theorem BQ(A k i)(a:i.aY=(A.bH k).aY)(b:i.state=(A.bH k).state):Sm A (A.eZ k i):=
 ⟨fun _=>Cj _,fun j=>by grind [fQ]⟩
theorem qbl(A f):Sm A (A.iU f):=by
 unfold av.iU;split;.exact qM _ _ _ (Cj _)
 .split;.exact qM _ _ _ (Cj _)
  .split;.grind [BQ]
   .exact⟨fun _=>Cj _,fun _=>⟨rfl,rfl⟩⟩
theorem qbm(A f):Sm A (A.gJ f):=by
 unfold av.gJ;split;.exact qM _ _ _ (Cj _)
 .split;.exact qM _ _ _ (Cj _)
  .split;.grind [BQ]
   .exact⟨fun _=>Cj _,fun _=>⟨rfl,rfl⟩⟩
def MQ(g)(a:∀A f,Sm A (g A f)):∀(l:List Fr) (A),Sm A (l.foldl g A)
 |[],A=>Sm.refl A
 |f::t,A=>(a A f).trans (MQ g a t (g A f))
theorem qbn{A A'}(h:A.kD A'):Sm A A':=by
 unfold av.kD at h;split at h
 .obtain⟨b,_,rfl⟩:=h;refine Sm.trans ?_ (MQ _ qbl _ _);refine⟨fun k=>?_,fun k=>?_⟩
  .show SmO (A.outs.getD k vR) ((A.outs.map jN).getD k vR);by_cases a:k<A.outs.length;.rw[getD_map jN vR _ _ a];exact Cj _
   grind [yB,vR,jN,Cj]
  .show((A.ins.map iV).getD k xk).aY=(A.ins.getD k xk).aY/\((A.ins.map iV).getD k xk).state=(A.ins.getD k xk).state;grind [getD_map,iV,xk,yB]
 grind [Sm.refl]
theorem qbo{A A' l}(h:A.uH l A'):Sm A A':=by obtain⟨a,b,_,_,rfl⟩:=h;exact Sm.trans (B:=A.GU l) ⟨fun _=>Cj _,fun _=>⟨rfl,rfl⟩⟩ (MQ _ qbm _ _)
theorem qhf(i:dP)(f):(i.take f).aY=i.aY/\(i.take f).state=i.state:=⟨Db _ _ _ dP.aY _ rfl rfl,Db _ _ _ dP.state _ rfl rfl⟩
theorem qhg(A f)(a:f.aD≠2):Sm A (A.take f).1:=by
 unfold av.take;rw[b_ a];split;.grind [Sm.refl,BQ,qhf]
 .split
  .split;.exact Sm.refl A
   .exact BQ _ _ _ rfl rfl
  split;.exact Sm.refl A
  .split
   .unfold av.pQ;split;.exact Sm.refl A
    .exact⟨fun _=>Cj _,fun _=>⟨rfl,rfl⟩⟩
   .split;.exact⟨fun _=>Cj _,fun _=>⟨rfl,rfl⟩⟩
    .split;.exact qM _ _ _ (Cj _)
     .exact Sm.refl A
theorem qbp{A A'}(h:A.gH f A' e):Sm A A':=by
 unfold av.gH at h;split at h;.grind [Sm.refl,qbo]
 .rename_i b;split at h
  .obtain⟨v,rfl,_⟩:=h;unfold av.pQ;split;.exact⟨fun _=>Cj _,fun _=>⟨rfl,rfl⟩⟩
   .exact⟨fun _=>Cj _,fun _=>⟨rfl,rfl⟩⟩
  .have a:=congrArg Prod.fst h;grind [qhg]
theorem D8:∀(a) {A A'} {e},jR A a A' e->Sm A A'
 |[],A,A',e,h=>by grind [jR,Sm.refl]
 |f::t,A,A',e,h=>by
  obtain⟨b,c,r,h⟩:=h;have s:=qbp r;split at h;.exact s.trans (D8 t h)
  .rw[h.1];exact⟨s.o,s.i⟩
theorem Iq{A A'}(h:A.jJ n a A' e):Sm A A':=by
 unfold av.jJ at h;split at h;.grind [Sm.refl]
 .have s:=D8 a h;exact⟨s.o,s.i⟩
theorem qhh{o a}(h:o.next k b a=some (f,o')):SmO o o':=by obtain⟨e,_⟩:=oU h;rw[e];exact Cj _
def X4{n:Nt}{r a y}(h:n.next k r a=some y):y.2.bG=n.bG:=by
 unfold Nt.next at h;split at h;.cases h
 .rw[<-lF h];rfl
theorem qbq{A A' c g}(h:A.frame c u d=some (f,A',g)):Sm A A':=by
 unfold av.frame at h;split at h
 .split at h;.cases h
  .have e:=lF h;have a:A=A':=congrArg (fun x=>x.2.1) e;grind [Sm.refl]
 .split at h;.obtain⟨y,_,e⟩:=jE.1 h;have a:({A with gr:=y.2}:av)=A':=congrArg (fun x=>x.2.1) e;rw[<-a];exact⟨fun _=>Cj _,fun _=>⟨rfl,rfl⟩⟩
  .split at h;.obtain⟨y,_,e⟩:=jE.1 h;have a:=congrArg (fun x=>x.2.1) e;grind [BQ]
   .split at h;.obtain⟨y,b,e⟩:=jE.1 h;have a:=congrArg (fun x=>x.2.1) e;simp only at a;rw[<-a];exact qM _ _ _ ⟨rfl,rfl,rfl,X4 b⟩
    .split at h
     .split at h;.cases h
      .obtain⟨y,_,e⟩:=jE.1 h;have a:=congrArg (fun x=>x.2.1) e;simp only at a;rw[<-a];exact⟨fun _=>Cj _,fun _=>⟨rfl,rfl⟩⟩
     .obtain⟨y,b,e⟩:=jE.1 h;have a:=congrArg (fun x=>x.2.1) e;grind [qM,qhh]
def yG:∀(n) (A) (b) (Q a) (c) (l),Sm A (fV n A b Q a c l).1
 |0,A,_,_,_,_,_=>Sm.refl A
 |n+1,A,_,[],_,_,_=>Sm.refl A
 |n+1,A,b,u::Q,a,c,l=>by
  unfold fV;by_cases d:A.aL b u=true
  .simp only[d,if_true];cases hF:A.frame b u c with
   |none=>
    simp only;split;.exact yG n _ _ _ _ _ _
    .exact Sm.refl A
   |some x=>obtain⟨f,e,g⟩:=x;exact(qbq hF).trans (yG n _ _ _ _ _ _)
  .simp only[d];exact yG n _ _ _ _ _ _
def Kq:∀(n) (A) (a) (Q) (l),Sm A (gQ n A a Q l).1
 |0,A,_,_,_=>Sm.refl A
 |n+1,A,a,Q,l=>by
  have s:Sm A (fill A a Q A.au).1:=yG _ _ _ _ _ _ _;unfold gQ;split;.exact s
  .have:=Kq n ((fill A a Q A.au).1.eO (fill A a Q A.au).2.2.2) (fill A a Q A.au).2.1 (fill A a Q A.au).2.2.1 (l++[(A.next,(fill A a Q A.au).2.2.2)]);exact s.trans ⟨this.o,this.i⟩
def BR{A A'}(h:A.jA A' c):Sm A A':=by obtain⟨a,b,e⟩:=h;have s:=Kq ((lf a).length+14) {a with bn:=false} (lf a) q0 [];rw[e]at s;exact(qbn b).trans ⟨s.o,s.i⟩
theorem qj.kd{A B f}(h:qj A B f):f.aD=2\/f.aD=4\/f.aD=5\/f.aD=6\/f.aD=3\/f.aD=7:=by
 rcases h with h|h|h|h|h|h;.grind
 .grind
 .grind
 .grind
 .grind
 .exact .inr (.inr (.inr (.inr (.inr h.kd))))
def qcd(M:av)(f):(M.gJ f).aV=M.aV:=by
 unfold av.gJ;repeat' split
 all_goals rfl
def Vf(g)(a:∀A f,(g A f).aV=A.aV):∀(l:List Fr) (A:av),(l.foldl g A).aV=A.aV
 |[],_=>rfl
 |f::t,A=>(Vf g a t (g A f)).trans (a A f)
theorem qce{A A':av}{l}(h:A.uH l A'):A'.aV=A.aV:=by obtain⟨a,b,_,_,rfl⟩:=h;exact Vf _ qcd _ _
theorem qhu(A:av)(f)(a:f.aD≠2):(A.take f).1.aV=A.aV:=by
 unfold av.take av.pQ;rw[b_ a];repeat' split
 all_goals rfl
theorem Pe{A A':av}(h:A.gH f A' e):A'.aV=A.aV:=by
 unfold av.gH at h;split at h;.grind [qce]
 .rename_i b;split at h;.grind [av.pQ]
  .have a:=congrArg Prod.fst h;grind [qhu]
theorem Ea:∀(a) {A A'} {e},jR A a A' e->A'.aV=A.aV
 |[],A,A',e,h=>by grind [jR]
 |f::t,A,A',e,h=>by
  obtain⟨b,c,r,h⟩:=h;have s:=Pe r;split at h;.exact(Ea t h).trans s
  grind
def qcf{A A':av}(h:A.jJ n a A' e):A'.aV=A.aV:=by
 unfold av.jJ at h;split at h;.rw[h.1]
 .have s:=Ea a h;exact s
theorem qcg{A A':av}{a c}(h:A.frame a u b=some (f,A',c)):A'.aV=A.aV:=by
 unfold av.frame at h;split at h;.grind
 .split at h;.grind [Option.map_eq_some_iff]
  .split at h;.obtain⟨y,_,e⟩:=jE.1 h;rw[<-show _=A' from congrArg (fun x=>x.2.1) e];rfl
   .split at h;.obtain⟨y,_,e⟩:=jE.1 h;rw[<-show _=A' from congrArg (fun x=>x.2.1) e];rfl
    .split at h;.grind [Option.map_eq_some_iff]
     .obtain⟨y,d,e⟩:=jE.1 h;rw[<-show _=A' from congrArg (fun x=>x.2.1) e];rfl
def yI:∀(n) (A) (b) (Q a) (c) (l),(fV n A b Q a c l).1.aV=A.aV
 |0,_,_,_,_,_,_=>rfl
 |n+1,_,_,[],_,_,_=>rfl
 |n+1,A,b,u::Q,a,c,l=>by
  unfold fV;by_cases d:A.aL b u=true
  .simp only[d,if_true];cases hF:A.frame b u c with
   |none=>
    simp only;split;.exact yI n _ _ _ _ _ _
    .rfl
   |some x=>obtain⟨f,e,g⟩:=x;exact(yI n _ _ _ _ _ _).trans (qcg hF)
  .simp only[d];exact yI n _ _ _ _ _ _
def KC:∀(n) (A) (a) (Q) (l),(gQ n A a Q l).1.aV=A.aV
 |0,_,_,_,_=>rfl
 |n+1,A,a,Q,l=>by
  have s:(fill A a Q A.au).1.aV=A.aV:=yI _ _ _ _ _ _ _;unfold gQ;split;.exact s
  .exact(KC n _ _ _ _).trans s
def B_{A A':av}(h:A.jA A' c):A'.aV=A.aV:=by obtain⟨a,b,e⟩:=h;have s:=KC ((lf a).length+14) {a with bn:=false} (lf a) q0 [];rw[e]at s;exact s.trans (Af b).2.2.2
def mQ{w}(h:Below n w W):Below n w (W.drewN q):=⟨h.os,h.tape,h.output,h.size,h.block⟩
theorem pW{w}(h:Below (W.drewN q).heap.size (W.drewN q) w):bJ W w:=⟨h.os,h.tape,h.output,h.size,h.block⟩
theorem OA{M vc}(f u v x)(k:Nat)(Z:k<8)(hj:f.aF=(k:Int))(h4:f.aD=4){w}(h:gq oZ s w S l M bw bl bi vc)(ok:Ux (M.bH k))(hb:∀k,(M.bH k).fq<=1000000)(he:bI f<=100000):bN 234 #[aK S 0,eX f (.slice u v x)] w (iZ ((M.take f).2:Int)) fun n=>je s oZ w S bw bl bi (M.take f).1 n:=by
 have ho:f.aC<=dH:=by grind [bI,dH]
 have Y:f.data.size<=1000000000:=by unfold bI at he;omega
 have h0:f.aF.toNat=k:=aj;have p:4+k*27+14=18+27*k:=aj;obtain⟨W,t⟩:=bU (w.alloc (.cells (f_ f (.slice u v x)).toArray 65));have B:aS W w.heap.size 65 (f_ f (.slice u v x)):=by grind [aS.new]
 have m:bJ w W:=by rw[t];exact(bP _ w).alloc (aI _) _
 have iD:W.heap.size=w.heap.size+1:=by rw[t];simp
 have Ol:=h.cK.lt;have hT:M.take f=(if(M.bH k).refuse f≠0 then(M,(M.bH k).refuse f)else if M.gr.eF<M.xq k (bI f)then(M,9)else(M.eZ k ((M.bH k).take f),0)):=by unfold av.take;grind
 have E:Hid (∀q,bN 295 #[(aK S (4+k*27+14)),eX f (.slice u v x)] (W.drewN q) (iZ ((M.bH k).refuse f:Int)) fun n=>bJ W n):=fun q=>by have j:=h.below (mQ (q:=q) m);obtain⟨vh,lJ,hL,_,_⟩:=j.bH k Z;rw[p];exact(WY (18+27*k) (M.bH k) f (.slice u v x) (W.drewN q) j.cK hL ho Y).mono fun e n F=>⟨F.1,pW F.2⟩
 have HH:Hid (∀g q,bJ W g->bN 297 #[aK S 0,eX f (.slice u v x)] (g.drewN q) (uZ (M.xq k (bI f):Int)) fun n=>bJ W n):=fun g q r=>by have j:=h.below (mQ (q:=q) (m.trans (r.mono aj)));exact(ZE f u v x k hj (g.drewN q) j hb aj).mono fun e n F=>⟨F.1,r.trans ((pW F.2).mono r.size)⟩
 have G:Hid (∀g,bJ W g->bN 296 #[aK S 221,(uZ (M.xq k (bI f):Int))] g (.bool (decide (M.xq k (bI f)<=M.gr.eF))) fun n=>n=g):=fun g r=>by have j:=h.below (m.trans (r.mono aj));exact JM (M.xq k (bI f)) j.cK j.cells.gr
 have HK:Hid (∀g,bJ W g->bN 298 #[(aK S (4+k*27+14)),eX f (.slice u v x)] g (.tuple #[]) fun n=>je s oZ w S bw bl bi (M.eZ k ((M.bH k).take f)) n):=fun g r=>by have c:=m.trans (r.mono aj);have j:=h.below c;rw[p];refine bK (qg3 s (s+4+5*k) (18+27*k) (M.bH k) f (.slice u v x) j.cK j.ow j.s0 aj (j.bH k Z) ok ho Y (by unfold dH;omega) aj) ?_;rintro n q;obtain⟨o',l',v',a,b⟩:=j.eZ k Z _ q;exact⟨rfl,o',l',v',a,(Kp.below c).trans b⟩
 have HQ:Hid (∀g,bJ W g->je s oZ w S bw bl bi M g):=fun g r=>je.refl h (m.trans (r.mono aj));have D:=aG B;have Ao:(k:Int)<8:=aj;obtain⟨x0,x1,x2,x3,x4,x5,x6,x7,x8,x9,xf⟩:=bF B;rw[hT];clear hT m h ok hb he ho Y B h0 p h4;generalize (M.bH k).refuse f=R at *
 generalize M.xq k (bI f)=H at *
 unfold eX at *
 unfold f_ at t D;generalize f.aF=st at *
 subst hj;by_cases A:R≠0;.rw[dN A];have Ci:¬(R:Int)=0:=aj;go_enter func234,ntmps234;go_wp2;rw[<-t];clear t;go_quiet (fail);go_wp2_with (go_at_call 295;refine bK (E.out _) ?_;rintro g c;have d:=D.out.of_heap (c.block _ aj);obtain⟨I,J,K,L,N,O,P,Q,T,U,V⟩:=bF d;have o:=aG c;clear d c x0 x1 x2 x3 x4 x5 x6 x7 x8 x9 xf E);go_ret;exact⟨rfl,HQ.out _ o.out⟩
 .rw[b_ A];obtain rfl:R=0:=aj;clear A;by_cases hH:M.gr.eF<H;.rw[dN hH];have z:decide (H<=M.gr.eF)=false:=decide_eq_false aj;rw[z]at G;go_enter func234,ntmps234;go_wp2;rw[<-t];clear t;go_quiet (fail);go_wp2_with (go_at_call 295;refine bK (E.out _) ?_;rintro g c;have d:=D.out.of_heap (c.block _ aj);obtain⟨I,J,K,L,N,O,P,Q,T,U,V⟩:=bF d;have o:=aG c;clear d c x0 x1 x2 x3 x4 x5 x6 x7 x8 x9 xf E);go_region_with (first|(go_at_call 297;refine bK (HH.out g _ o.out) ?_;rintro w2 i)|(go_at_call 296;refine bK (G.out w2 i) ?_;rintro w3 C;have X:=C.symm;subst X;have d:=D.out.of_heap (i.block _ aj);obtain⟨z0,z1,z2,z3,z4,z5,z6,z7,z8,z9,zf⟩:=bF d;have y:=aG i;clear d i I J K L N O P Q T U V));all_goals(go_wp2;go_ret;exact⟨rfl,HQ.out _ y.out⟩)
  .rw[b_ hH];have z:decide (H<=M.gr.eF)=true:=decide_eq_true aj;rw[z]at G;go_enter func234,ntmps234;go_wp2;rw[<-t];clear t;go_quiet (fail);go_wp2_with (go_at_call 295;refine bK (E.out _) ?_;rintro g c;have d:=D.out.of_heap (c.block _ aj);obtain⟨I,J,K,L,N,O,P,Q,T,U,V⟩:=bF d;have o:=aG c;clear d c x0 x1 x2 x3 x4 x5 x6 x7 x8 x9 xf E);go_region_with (first|(go_at_call 297;refine bK (HH.out g _ o.out) ?_;rintro w2 i)|(go_at_call 296;refine bK (G.out w2 i) ?_;rintro w3 C;have X:=C.symm;subst X;have d:=D.out.of_heap (i.block _ aj);obtain⟨z0,z1,z2,z3,z4,z5,z6,z7,z8,z9,zf⟩:=bF d;have y:=aG i;clear d i I J K L N O P Q T U V));all_goals(
    go_wp2_with (go_at_call 298;refine bK (HK.out _ y.out) ?_;rintro w4 HE);go_ret;exact⟨rfl,HE⟩)
theorem OB(l:bM)(j v)(h:l[j]?=some v):l.set j v=l:=by refine zh fun i=>?_;grind
def R5(g:Nat)(p k w)(e:∀args w,(callFunc g args).run prog w=.ok (.enter g args) w):bN 151 #[nZ,.func (.func g) p k] w nZ fun f=>bJ w f:=by have c:=aG (FZ g p k (fun _=>false) none [] 0 w e kX (fun j b=>absurd b (jZ _)) (fun j b=>absurd b (jZ _)));have d:CW (fun _=>false) []= -1:=rfl;rw[d]at c;go_enter func151,ntmps151;go_wp2_with (go_at_call 190;refine bK c.out ?_;rintro i a);go_ret;exact⟨rfl,a⟩
theorem Md{M A}(p:Nat){w}(h:gq oZ s w S l M bw bl bi A)(f:M.qv=nZ):bN 113 #[aK S 233,uZ p] w (.tuple #[]) fun B=>je s oZ w S bw bl bi M B:=by
 have v:∀(k:Fn) (first cap:Array Wx) (w:Wq),(Instr.makeFunc k first cap).run prog w=.ok (.func k first cap) w:=fun _ _ _ _=>rfl;obtain⟨W,o⟩:=bU (w.alloc (.cells #[uZ p] 43));have d:bJ w W:=by rw[o];exact(bP _ w).alloc (aI _) _
 have n:=h.below d;have g:l[233]?=some nZ:=by rw[h.cells.jP,f]
 have C:w.cell? (aA S 233)=some nZ:=by rw[h.cK.cell];exact g
 have u:=h.cK.lt;have r:=aG (R5 152 #[] #[aK w.heap.size 0] W (enters_of func152 bZ rfl));have t:Hid (∀e,bJ W e->e.frozen? (aA S 233)=false/\e.cell? (aA S 233)=some nZ/\je s oZ w S bw bl bi M (e.setCell (aA S 233) nZ)):=fun e m=>by have c:=n.below m;refine⟨c.cK.frozen 233,by rw[c.cK.cell];exact g,?_⟩;have q:=gZ.one c.cK 233 nZ 233 1 (aI _) aj;rw[OB l 233 _ g]at q;obtain⟨y,x,z,a,b⟩:=c.cell 233 1 aj q c.cells rfl rfl rfl rfl rfl rfl rfl;exact⟨y,x,z,a,(Kp.below (d.trans (m.mono d.size))).trans b⟩
 clear n d h f g;go_enter func113,ntmps113;go_wp2_with (go_at_call 151;rw[<-o];refine bK r.out ?_;rintro e i;obtain⟨f1,f2,j⟩:=t.out e i;have j:=aG j);go_end0;grind
def qq0(f e)(a box:Nat)(w)(d:w.cell? (aA box 0)=some (uZ a)):bN 152 #[eX f e,aK box 0] w (.bool (decide (f.aJ<a))) fun g=>bJ w g:=by have b:box<w.heap.size:=iq w (aA box 0) (by rw[d]);have c:box≠w.heap.size:=aj;unfold eX;go_enter func152,ntmps152;go_wp2;go_ret;exact⟨aR,(bP _ w).alloc (aI _) _⟩
def Me:∀l,vI (l.map fun f=>(f,none,0,0))=mP l
 |[]=>rfl
 |f::t=>by show f_ f nZ++vI (t.map fun f=>(f,none,0,0))=f_ f nZ++mP t;rw[Me t]
def OC:∀l,(mP l).length=l.length*10
 |[]=>rfl
 |f::t=>by show(f_ f nZ++mP t).length=_;rw[lM,OC t,show(f_ f nZ).length=10 from rfl,pI];omega
theorem C_(M){O}(k:Nat)(w)(h:gq oZ s w S l M bw bl bi O)(zy:M.aQ.length<=16):bN 113 #[aK S 233,uZ k] w (.tuple #[]) fun P=>∃v,je s oZ w S bw bl bi {M with aQ:=M.aQ.filter fun f=> !decide (f.aJ<k),qv:=v} P:=by
 rcases h.qu.q with⟨E,D,_⟩|⟨g,c,cs,hv,og,hBg,hc0,hc1,hc2,hc3,ht,hon⟩;.refine bK (Md k h E) ?_;rintro P p;refine⟨rfl,M.qv,?_⟩;rw[show({M with aQ:=M.aQ.filter fun f=> !decide (f.aJ<k),qv:=M.qv}:av)=M by rw[EX.1 D];cases M;simp_all];exact p
 obtain⟨d,o⟩:=bU (M.aQ.filter fun f=> !decide (f.aJ<k));have U:d.length<=M.aQ.length:=by grind
 rw[<-o];have h2:∀(J:Fn) (first cap:Array Wx) (w:Wq),(Instr.makeFunc J first cap).run prog w=.ok (.func J first cap) w:=fun _ _ _ _=>rfl;obtain⟨W,L⟩:=bU (w.alloc (.cells #[uZ k] 43));have m:bJ w W:=by rw[L];exact(bP _ w).alloc (aI _) _
 have q:aS W w.heap.size 43 [uZ k]:=by grind [aS.new]
 have p:=h.below m;have Z:=hBg.lt;have h0:=h.cK.lt;have z:=h.cells.jP;have c0:w.cell? (aA S 233)=some (dB g M.aQ.length c):=by rw[h.cK.cell,z,hv]
 have C:S≠g:=fun e=>by rw[<-e,h.ow]at og;omega
 have u:(M.aQ.map fun f=>((f,none,0,0):FV)).length=M.aQ.length:=mH _;have y:(M.aQ.map fun f=>((f,none,0,0):FV)).filter (fun x=> !(fun x:FV=>decide (x.1.aJ<k)) x)=d.map fun f=>((f,none,0,0):FV):=by rw[o,zF];rfl
 have t:(d.map fun f=>((f,none,0,0):FV)).length=d.length:=mH _;have A:=zq 152 #[] #[aK w.heap.size 0] (fun x=>decide (x.1.aJ<k)) M.aQ.length c (M.aQ.map fun f=>((f,none,0,0):FV)) (enters_of func152 bZ rfl) u aj hc1 (fD m hBg) aj (by rw[Me];exact ht) hon (fun j _ I Y=>by have X:I.cell? (aA w.heap.size 0)=some (uZ k):=cell_of (q.cell 0) (Y.block _ q.lt (fun e=>by grind));exact qq0 _ _ k w.heap.size I X);rw[y,t,Me]at A;have Q:=aG A;have R:Hid (∀i,(∃a,aS i g 65 a/\a.length=cs.length/\a.take (d.length*10)=mP d/\(∀v∈a,v.oneCell'=true)/\W.grownBy i (some g))->i.frozen? (aA S 233)=false/\i.cell? (aA S 233)=some (dB g M.aQ.length c)/\∃v,je s oZ w S bw bl bi {M with aQ:=d,qv:=v} (i.setCell (aA S 233) (dB g d.length c))):=fun i ⟨a,q1,q2,q3,q4,r⟩=>by have n:=p.cK.of_heap (r.block S p.cK.lt (fun e=>C (by simpa using e)));have T:Kp [s+53] oZ oZ W i:=⟨r.os,r.tape,r.output,r.size,fun b V hn=>r.block b V (fun e=>by grind),fun _ _=>rfl⟩;have H:Kp [s] oZ oZ i (i.setCell (aA S 233) (dB g d.length c)):=Kp.set oZ i _ _ _ (by show oZ S∈_;rw[h.ow];simp);have K:Kp [s,s+53] oZ oZ W (i.setCell (aA S 233) (dB g d.length c)):=(T.mono aR).trans (H.mono aR);refine⟨n.frozen 233,by rw[n.cell,z,hv],dB g d.length c,oZ,l.set 233 (dB g d.length c),O,?_,(Kp.below m).trans (K.mono fun x F=>fM.2 (by grind))⟩;have B:=n.setCell 233 (dB g d.length c);exact p.que K (ni.set l 233 _ 233 2 aj aj) (dB g d.length c) d M.least B (cZ _ _ _ _ z) (by rw[ay _ _ _ _ aj];exact p.cells.sW) (.inr ⟨g,c,a,rfl,og,bW q1 H (by rw[og];simp),aj,aj,hc2,OC d,q3,q4⟩)
 clear A y p m h zy hBg q hc0 hc1 hc2 hc3 ht hon z hv o t u;go_enter func113,ntmps113;go_wp2_with (go_at_call 151;rw[<-L];refine Q.out.mono ?_;rintro e i ⟨a,rfl,F⟩;obtain⟨f1,f2,G⟩:=R.out i ⟨a,F⟩;have G:=aG G;clear F);go_end0;grind
theorem qg4(S){M C w}(h:gq oZ s w S l M bw bl bi C)(y:M.aV+1<18446744073709551616)(n:M.aQ.length<=16):bN 66 #[aK S 0] w (.tuple #[]) fun d=>∃v,je s oZ w S bw bl bi {M.Ul with qv:=v} d:=by
 have D:w.cell? (aA S 3)=some (uZ M.aV):=by rw[h.cK.cell];exact h.cells.c3
 have f3:=h.cK.frozen 3;have E:IntKind.u64.wrap ((M.aV:Int)+1)=((M.aV+1:Nat):Int):=by grind [IntKind.wrap_u64]
 obtain⟨W,g⟩:=bU (w.setCell (aA S 3) (uZ ((M.aV+1:Nat):Int)));have f:Hid (je s oZ w S bw bl bi {M with aV:=M.aV+1} W):=by rw[g];have q:=gZ.one h.cK 3 (uZ ((M.aV+1:Nat):Int)) 3 1 (aI _) aj;have c:=h.cells;have e:∀j,j≠3->(l.set 3 (uZ ((M.aV+1:Nat):Int)))[j]?=l[j]?:=fun j x=>ay l 3 j _ (qh x);refine h.cell 3 1 aj q ⟨q.iB.1.trans c.len,(e _ aj).trans c.c0,(e _ aj).trans c.c1,(e _ aj).trans c.c2,cZ l 3 _ _ c.c3,(e _ aj).trans c.uq,c.gr.iB q.iB aj,(e _ aj).trans c.vW,(e _ aj).trans c.vX,(e _ aj).trans c.rZ,(e _ aj).trans c.qo,(e _ aj).trans c.qI,(e _ aj).trans c.rA,(e _ aj).trans c.uW,(e _ aj).trans c.qp,(e _ aj).trans c.jP,(e _ aj).trans c.sW,(e _ aj).trans c.r_,(e _ aj).trans c.uw,(e _ aj).trans c.uX,(e _ aj).trans c.rC,(e _ aj).trans c.xB⟩ rfl rfl rfl rfl rfl rfl rfl
 have F:W.cell? (aA S 3)=some (uZ ((M.aV+1:Nat):Int)):=by obtain⟨k,i,m,a,b⟩:=f.out;rw[a.cK.cell];exact a.cells.c3
 have o:Hid (∀q,bN 113 #[aK S 233,(uZ ((M.aV+1:Nat):Int))] (W.drewN q) (.tuple #[]) fun d=>Hid (∃v,je s oZ w S bw bl bi {M.Ul with qv:=v} d)):=fun q=>by obtain⟨k,i,m,a,b⟩:=f.out;have r:gq k s (W.drewN q) S i {M with aV:=M.aV+1} bw bl bi m:=a.below (mQ (bP _ W));refine bK (C_ _ (M.aV+1) (W.drewN q) r n) ?_;rintro d ⟨v,A,z,B,t,u⟩;exact⟨rfl,v,A,z,B,t,(b.drewN q).trans u⟩
 clear h f y n;generalize M.aV+1=G at *
 go_enter func66,ntmps66;go_wp2;rw[<-g];clear g;go_region_with (go_at_call 113;refine bK (o.out _) ?_;rintro H p);go_end0;exact⟨rfl,p.out⟩
theorem Sz(o m){k j}(f r w)(p:aS w S TS l)(h:zS l o m k j):bN 299 #[aK S o,eX f r] w (iZ (m.nX f:Int)) fun y=>bJ w y:=by
 obtain⟨W,c⟩:=bU (w.alloc (.cells (f_ f r).toArray 65));have u:aS W w.heap.size 65 (f_ f r):=by grind [aS.new]
 have a:bJ w W:=by rw[c];exact(bP _ w).alloc (aI _) _
 have e:=p.of_heap (a.block _ p.lt);have z:=in7 S o m k j W l e h;have s:=in8 S o m k j W l e h;have A:=in9 S o m k j W l e h;have B:W.cell? (aA w.heap.size 2)=some (uZ f.aC):=u.cell 2;have i:Hid (∀q,bJ w (W.drewN q)):=fun q=>⟨a.os,a.tape,a.output,a.size,a.block⟩;have b:Hid (m.nX f=if m.cB/\m.h_≠f.aC\/f.aC<m.fq then 10 else 0):=rfl;generalize m.nX f=R at *
 clear u a p e h;unfold eX;unfold f_ at c;generalize f.aC=E at *
 rcases(Js m.cB).symm with hen|hen
 .rw[hen]at s b;by_cases n:E<m.fq
  .have g:decide ((E:Int)<(m.fq:Int))=true:=decide_eq_true aj;have d:Hid (R=10):=by unfold Hid;rw[b.out,dN (.inr n)]
   clear b hen;go_enter func299,ntmps299;go_wp2;rw[<-c];clear c;go_quiet (fail);go_wp2;go_ret;exact⟨iC (by rw[d.out];rfl),i.out _⟩
  .have g:decide ((E:Int)<(m.fq:Int))=false:=decide_eq_false aj;have d:Hid (R=0):=by unfold Hid;rw[b.out,b_ dZ]
   clear b hen;go_enter func299,ntmps299;go_wp2;rw[<-c];clear c;go_quiet (fail);go_wp2;go_ret;exact⟨iC (by rw[d.out];rfl),i.out _⟩
 .rw[hen]at s b;by_cases t:m.h_=E
  .subst t;by_cases n:m.h_<m.fq
   .have g:decide ((m.h_:Int)<(m.fq:Int))=true:=decide_eq_true aj;have d:Hid (R=10):=by unfold Hid;rw[b.out,dN (.inr n)]
    clear b hen;go_enter func299,ntmps299;go_wp2;rw[<-c];clear c;go_quiet (fail);go_wp2;go_ret;exact⟨iC (by rw[d.out];rfl),i.out _⟩
   .have g:decide ((m.h_:Int)<(m.fq:Int))=false:=decide_eq_false aj;have d:Hid (R=0):=by unfold Hid;rw[b.out,b_ dZ]
    clear b hen;go_enter func299,ntmps299;go_wp2;rw[<-c];clear c;go_quiet (fail);go_wp2;go_ret;exact⟨iC (by rw[d.out];rfl),i.out _⟩
  .have v:((m.h_:Int)==(E:Int))=false:=dZ;have d:Hid (R=10):=by unfold Hid;rw[b.out,dN (.inl ⟨rfl,t⟩)]
   have x:¬(m.h_:Int)=(E:Int):=aj;clear b hen;go_enter func299,ntmps299;go_wp2;rw[<-c];clear c;go_quiet (fail);go_wp2;go_ret;exact⟨iC (by rw[d.out];rfl),i.out _⟩
theorem GT.rdt{e w a c}(h:GT oZ t e 1 w (.slice a n c) n l)(k)(f:k<=n):Rd 1 w (.slice a k c) k (l.take k):=by
 have i:=h.len;rcases h with⟨b,rfl,rfl⟩|⟨g,cap,cs,b,h2,h3,h4,h5,h6,h7,h8,h9⟩;.simp only[nR]at b;obtain⟨rfl,_,rfl⟩:=b;obtain rfl:k=0:=aj;exact .inl ⟨rfl,rfl,rfl⟩
 .simp only[nR]at b;obtain⟨rfl,_,rfl⟩:=b;refine .inr ⟨g,c,rfl,h3.lt,by grind,fun j u d=>?_,fun u m=>h9 u (by grind)⟩;rw[h3.cell];grind
theorem XJ(s){o m}(w)(r:aS w S TS l)(x:oZ S=s)(hk:s<t)(hO:IZ oZ t w l o m)(ok:Ux m)(n)(hn:n=min m.bO.length (m.wanted-min m.wanted m.aY))(h5:m.wanted<=dH):bN 341 #[aK S o] w (.tuple #[]) fun p=>RG s t oZ S o l w {m with bO:=m.bO.take n,aT:=m.aT.take n} p:=by
 obtain⟨vh,vc,k,k2,A⟩:=hO;obtain⟨ah,V,rfl,ha,hv⟩:=k2.shape;obtain⟨ac,U,rfl,h9,hw⟩:=A.shape;have h4:=r.lt;have L:=ok.cl;have M:=ok.hl;have HW:Hid (∀q,bN 306 #[aK S o] (w.drewN q) (uZ m.wanted) fun p=>p=w.drewN q):=fun q=>uo S o m _ _ (w.drewN q) l r k;obtain⟨Y,hg,h6⟩:=min2 m.wanted m.aY;obtain⟨d,hj,h7⟩:=min2 m.bO.length (m.wanted-Y);obtain rfl:d=n:=by grind
 have hu:IntKind.u64.wrap ((m.wanted:Int)-(Y:Int))=((m.wanted-Y:Nat):Int):=by grind [IntKind.wrap_u64,dH]
 have F:d<=m.bO.length:=aj;have d4:w.cell? (aA S (o+4))=some (uZ m.aY):=by rw[r.cell];exact k.c4
 have d5:w.cell? (aA S (o+5))=some (.slice ah m.bO.length V):=by rw[r.cell];exact k.c5
 have EK:Hid (∀q,Calls prog 348 #[.slice ah d V] (w.drewN q) fun e p=>∃a c,e=.returned (.slice a d c)/\fO 5 1 p (.slice a d c) d (cO (m.bO.take d))/\nH w.heap.size (.slice a d c)/\bJ w p):=fun q=>by have hr:=(k2.rdt d F).below (w':=w.drewN q) ⟨rfl,rfl,rfl,aI _,fun _ _=>rfl⟩;refine(Ry _ _ _ (w.drewN q) hr aj).mono ?_;rintro e p ⟨a,c,rfl,g1,g2,g3⟩;exact⟨a,c,rfl,by rw[show cO (m.bO.take d)=(cO m.bO).take d by simp[cO]];exact g1,g2,pW g3⟩
 have ho:d<18446744073709551616:=aj;have Z:=aG (dz r (dz x (dz k A)));have HN:=aG (dz L (dz M F));have hc:(d:Int)<=(V:Int):=aj;have he:(d:Int)<=(U:Int):=aj;have hf:m.bO.length<18446744073709551616:=aj;generalize h8:m.bO.length=HL at *
 generalize m.wanted=WT at *
 generalize h0:WT-Y=WX at *
 clear r x k k2 A ok hn h6 h7 h0 h5 L M F;go_enter func341,ntmps341;go_wp2_with fail;go_quiet ((go_at_call 306;exact nC (HW.out _)));go_wp2_with fail;refine(EK.out _).mono ?_;rintro e y ⟨O,Q,rfl,g,j,f⟩;obtain⟨r,x,k,A⟩:=Z.out;have H:=r.of_heap (f.block _ h4);have d5:y.cell? (aA S (o+5))=some (.slice ah HL V):=by rw[H.cell];exact k.c5
 have f5:=H.frozen (o+5);have d6:y.cell? (aA S (o+6))=some (.slice ac m.aT.length U):=by rw[H.cell];exact k.c6
 have v:=gZ.one H (o+5) (.slice O d Q) o 13 aj aj;obtain⟨K,D⟩:=bU (y.setCell (aA S (o+5)) (.slice O d Q));rw[<-D]at v;have G:=(Kp.below f).trans (v.kp x (T:=[s]) aR);have E:K.heap.size=y.heap.size:=by rw[D];simp
 have I:Hid (Calls prog 349 #[.slice ac d U] K fun e p=>∃a c,e=.returned (.slice a d c)/\fO 4 1 p (.slice a d c) d (jG (m.aT.take d))/\nH K.heap.size (.slice a d c)/\bJ K p):=by obtain⟨n1,n2,n3⟩:=HN.out;refine(RA _ _ _ K ((A.kp G dZ).rdt d aj) aj).mono ?_;rintro e p ⟨a,c,rfl,g1,g2,g3⟩;exact⟨a,c,rfl,by rw[show jG (m.aT.take d)=(jG m.aT).take d by simp[jG]];exact g1,g2,g3⟩
 have HY:=aG (dz v (dz g (dz j (dz f (dz G E)))));clear r x k A H v G g j f EK E;go_wp2_with fail;rw[<-D];refine I.out.mono ?_;rintro e z ⟨P,R,rfl,C,B,u⟩;obtain⟨r,x,k,A⟩:=Z.out;obtain⟨v,g,j,f,G,E⟩:=HY.out;have X:=v.cK.of_heap (u.block _ v.cK.lt);have i1:=FX k (.slice O d Q) (m.bO.take d);have d6:z.cell? (aA S (o+6))=some (.slice ac m.aT.length U):=by rw[X.cell];exact i1.c6
 have f6:=X.frozen (o+6);have HF:Hid (RG s t oZ S o l w {m with bO:=m.bO.take d,aT:=m.aT.take d} (z.setCell (aA S (o+6)) (.slice P d R))):=by
  obtain⟨n1,n2,n3⟩:=HN.out;have N:=gZ.one X (o+6) (.slice P d R) o 13 aj aj;have J:=(G.trans (Kp.below u)).trans (N.kp x (T:=[s]) aR);refine⟨fun b=>if b<w.heap.size then oZ b else if b<y.heap.size then t else t+1,_,⟨J.os,J.tape,J.output,J.size,fun b i hn=>J.cK b i (by grind),fun b i=>dN i⟩,N.cK,v.iB.trans N.iB,.slice O d Q,.slice P d R,FY i1 (.slice P d R) (m.aT.take d),?_,?_⟩
  .rw[show({m with bO:=m.bO.take d,aT:=m.aT.take d}:dP).bO.length=d by show(m.bO.take d).length=d;rw[Au];omega];refine GT.VU (g.of_heap fun b i=>?_) fun b i=>?_;.have h1:=j b i;have W:=g.lt b i;have h3:=u.size;rw[N.al b aj aj,u.block b aj,v.al b W aj]
   .have h1:=j b i;have W:=g.lt b i;grind
  .rw[show({m with bO:=m.bO.take d,aT:=m.aT.take d}:dP).aT.length=d by show(m.aT.take d).length=d;rw[Au];omega];refine GT.VU (C.of_heap fun b i=>?_) fun b i=>?_;.have h1:=B b i;have W:=f.size;rw[N.al b (C.lt b i) aj]
   .have h1:=B b i;have W:=f.size;grind
 clear v g j f G X i1 C B u r x k A Z HY HN I;go_wp2;go_end0;exact⟨rfl,HF.out⟩
theorem qau(s t o m f R){w}(C:aS w S TS l)(H:oZ S=s)(M:s<t)(G:IZ oZ t w l o m)(i:Ux m)(ho:f.aC<=dH)(hr:f.aO<=dH):bN 300 #[aK S o,eX f R] w (.tuple #[]) fun k=>RG s t oZ S o l w (m.gH f) k:=by
 obtain⟨W,u⟩:=bU (w.alloc (.cells (f_ f R).toArray 65));have v:aS W w.heap.size 65 (f_ f R):=by grind [aS.new]
 have e:bJ w W:=by rw[u];exact(bP _ w).alloc (aI _) _
 have iD:W.heap.size=w.heap.size+1:=by rw[u];simp
 have J:=C.lt;have a:=C.of_heap (e.block _ J);obtain⟨vh,vc,g,k2,k3⟩:=G;have V:Hid (∀q,bN 306 #[aK S o] (W.drewN q) (uZ m.wanted) fun k=>k=W.drewN q):=fun q=>uo S o m _ _ (W.drewN q) l a g;obtain⟨r,h5,A⟩:=min2 m.wanted f.aO;have x2:W.cell? (aA w.heap.size 2)=some (uZ f.aC):=v.cell 2;have x3:W.cell? (aA w.heap.size 3)=some (uZ f.aO):=v.cell 3;have d8:W.cell? (aA S (o+8))=some (.bool m.cB):=by rw[a.cell];exact g.c8
 have d9:W.cell? (aA S (o+9))=some (uZ m.h_):=by rw[a.cell];exact g.c9
 have E:W.cell? (aA S (o+10))=some (.bool m.bG):=by rw[a.cell];exact g.wD
 have F:W.cell? (aA S (o+11))=some (uZ m.rel):=by rw[a.cell];exact g.zT
 have ff:=fun j=>a.frozen j;have h6:¬(S=w.heap.size):=aj;have h0:¬(w.heap.size=S):=aj;have HR:=aG A;have b:bJ W (W.drewN 1):=⟨rfl,rfl,rfl,aI _,fun _ _=>rfl⟩;have p:=a.of_heap (w':=W.drewN 1) (b.block _ a.lt);have P:=gZ.one p (o+11) (uZ r) o 13 aj aj;have d:=P.trans (gZ.one P.cK (o+10) (.bool true) o 13 aj aj);have D:=Wl (qfl g r) true;obtain⟨Y,I⟩:=bU (((W.drewN 1).setCell (aA S (o+11)) (uZ r)).setCell (aA S (o+10)) (.bool true));rw[<-I]at d;have x:=d.other (w:=W.drewN 1) (v.of_heap (b.block _ v.lt)) aj;have y2:Y.cell? (aA w.heap.size 2)=some (uZ f.aC):=x.cell 2;have y8:Y.cell? (aA S (o+8))=some (.bool m.cB):=by rw[d.cK.cell];exact D.c8
 have y9:Y.cell? (aA S (o+9))=some (uZ m.h_):=by rw[d.cK.cell];exact D.c9
 have yf:=fun j=>d.cK.frozen j;have Q:=d.trans (gZ.one d.cK (o+8) (.bool true) o 13 aj aj);have B:=Q.trans (gZ.one Q.cK (o+9) (uZ f.aC) o 13 aj aj);have j2:=Og (JW D true) f.aC;obtain⟨c,n⟩:∃c:dP,c={m with rel:=r,bG:=true,cB:=true,h_:=f.aC}:=⟨_,rfl⟩;obtain⟨Z,X⟩:=bU ((Y.setCell (aA S (o+8)) (.bool true)).setCell (aA S (o+9)) (uZ f.aC));rw[<-X]at B;have N:c.wanted=r:=by rw[n];rfl
 have L:r<=dH:=by grind
 have U:Hid (∀q,bN 341 #[aK S o] (Z.drewN q) (.tuple #[]) fun k=>RG s t oZ S o l w (m.gH f) k):=fun q=>by
  have K:=((Kp.below (e.trans (b.mono aj))).trans (B.kp H (T:=[s]) aR)).drewN q;have G:IZ oZ t (Z.drewN q) _ o c:=⟨vh,vc,by rw[n];exact j2,by rw[n];exact k2.kp K dZ,by rw[n];exact k3.kp K dZ⟩;have O:Ux c:=by rw[n];exact⟨i.gr,i.rd,i.hi,ho,L,i.hl,i.cl,i.st⟩
  refine bK (XJ s (Z.drewN q) (B.cK.of_heap rfl) H M G O (min c.bO.length (c.wanted-min c.wanted c.aY)) rfl (by grind)) ?_;rintro k ⟨aX,l',h1,h2,h3,h4⟩;refine⟨rfl,aX,l',(K.mono aR).trans h1,h2,B.iB.trans h3,?_⟩;grind [dP.gH]
 have HB:=aG C;clear A v e a g k2 k3 i hr P d Q B p D j2 x N n b C H HB;unfold eX;unfold f_ at u;generalize m.wanted=WT at *
 go_enter func300,ntmps300;go_wp2_with fail;rw[<-u];clear u;go_region_with (go_at_call 306;refine bK (V.out _) ?_;rintro y rfl);all_goals
  go_wp2_with fail;rw[<-I];clear I V d8 d9 E F x2 x3 ff;go_region
  all_goals go_wp2_with fail
  all_goals
   rw[<-X];refine bK (U.out 1) ?_;rintro z hq;have HQ:=aG hq;clear hq U;go_wp2;go_end0;exact⟨rfl,HQ.out⟩
theorem MB{M N}(f j m n)(k:Nat)(v:k<8)(I:f.aF=(k:Int)){w}(h:gq oZ s w S l M bw bl bi N)(C:Ux (M.bH k))(z:f.aC<=dH)(B:f.aO<=dH)(F:(M.bH k).nX f=0):bN 235 #[aK S 0,eX f (.slice j m n)] w (iZ 0) fun o=>je s oZ w S bw bl bi (M.eZ k ((M.bH k).gH f)) o:=by
 have d:4+k*27+14=18+27*k:=aj;obtain⟨W,p⟩:=bU (w.alloc (.cells (f_ f (.slice j m n)).toArray 65));have i:aS W w.heap.size 65 (f_ f (.slice j m n)):=by grind [aS.new]
 have g:bJ w W:=by rw[p];exact(bP _ w).alloc (aI _) _
 have iD:W.heap.size=w.heap.size+1:=by rw[p];simp
 have Ol:=h.cK.lt;have y:Hid (∀q,bN 299 #[(aK S (4+k*27+14)),eX f (.slice j m n)] (W.drewN q) (iZ 0) fun o=>bJ W o):=fun q=>by have e:=h.below (mQ (q:=q) g);obtain⟨vh,lJ,H,_,_⟩:=e.bH k v;rw[d];refine(Sz (18+27*k) (M.bH k) f (.slice j m n) (W.drewN q) e.cK H).mono ?_;grind [pW]
 have D:Hid (∀t,bJ W t->bN 300 #[(aK S (4+k*27+14)),eX f (.slice j m n)] t (.tuple #[]) fun o=>je s oZ w S bw bl bi (M.eZ k ((M.bH k).gH f)) o):=fun t G=>by have c:=g.trans (G.mono aj);have e:=h.below c;rw[d];refine bK (qau s (s+4+5*k) (18+27*k) (M.bH k) f (.slice j m n) e.cK e.ow aj (e.bH k v) C z B) ?_;rintro o q;obtain⟨K,J,L,a,b⟩:=e.eZ k v _ q;exact⟨rfl,K,J,L,a,(Kp.below c).trans b⟩
 have x:=aG i;have Ao:(k:Int)<8:=aj;obtain⟨O,P,Q,R,T,U,V,X,Y,Z,xf⟩:=bF i;clear g h C z B i d F;unfold eX at *
 unfold f_ at p x;generalize f.aF=st at *
 subst I;go_enter func235,ntmps235;go_wp2;rw[<-p];clear p;go_quiet (fail);go_wp2_with (first|(go_at_call 299;refine bK (y.out _) ?_;rintro t c;have r:=x.out.of_heap (c.block _ aj);obtain⟨y0,y1,y2,y3,y4,y5,y6,y7,y8,y9,yf⟩:=bF r;have u:=aG c;clear r c O P Q R T U V X Y Z xf y)|(go_at_call 300;refine bK (D.out _ u.out) ?_;rintro w2 A;have E:=aG A;clear A)|go_in);go_ret;exact⟨rfl,E.out⟩
def Yg{o:Ot}{c}(h:o.next k d c=some (f,o')):f.aD=4/\f.aF=(k:Int)/\o'.nt=o.nt:=by
 have e:=(oU h).1;refine⟨?_,?_,by rw[e];rfl⟩;all_goals
  unfold Ot.next at h;simp only at h;split at h;.cases h
  .rename_i g a;split at h;.cases h
   .have b:=congrArg Prod.fst (lF h);simp only at b;unfold pK at a;split at a;.cases a
    .have i:=lF a;rw[<-b,<-i];rfl
