import Derived.Test.YtphbledmopchnaaGreatDoorVdc
open List renaming replicate->eB,replicate_zero->fB,map_set->mE
open Go.RowKit renaming intOf->eT
set_option maxHeartbeats 4000000
set_option maxRecDepth 100000
open Go renaming World->Wq,Value->WA,Addr->V3
set_option linter.all false
namespace Go.Proofs.YtphbledmopchnaaGreatDoor.Sd
open Go.RowKit Go.Lib Mm Tryz
variable {L S cc o s t:Nat}{c:List Bool}{d:Option V3}{h:List UInt8}{l:bJ}{m:eU}{oZ:Own}{w w0 wr:Wq}
def qX:∀(a b:List UInt8) (i:Nat) (h:List UInt8) (c:List Bool),eO (a++b) i h c=eO b (i+a.length) (eO a i h c).1 (eO a i h c).2
 |[],b,i,h,c=>by simp[eO]
 |x::t,b,i,h,c=>by
  simp only[qom,eO,qmp];split;·rw[qX t b,show i+1+t.length=i+(t.length+1) by omega]
  ·rw[qX t b,show i+1+t.length=i+(t.length+1) by omega]
def xw:∀(d:List UInt8) (i:Nat) (h:List UInt8) (c:List Bool),(eO d i h c).1.length=h.length/\(eO d i h c).2.length=c.length
 |[],_,_,_=>⟨rfl,rfl⟩
 |x::t,i,h,c=>by
  simp only[eO];split;·exact xw t _ _ _
  ·have:=xw t (i+1) (h.set i x) (c.set i true);simpa using this
def Kc(d:List UInt8)(k f:Nat)(h:List UInt8)(c:List Bool)(b:k<d.length):eO (d.take (k+1)) f h c=if(eO (d.take k) f h c).2.getD (f+k) false then eO (d.take k) f h c else((eO (d.take k) f h c).1.set (f+k) d[k],(eO (d.take k) f h c).2.set (f+k) true):=by have e:d.take (k+1)=d.take k++[d[k]]:=aM;have a:(d.take k).length=k:=rR;rw[e,qX,a];simp only[eO]
def GT.qe9{e:TypeId}{a:Option V3}{n c:Nat}(h:GT oZ t e 1 w (.slice a n c) n l)(j:Nat)(f:j<n)(x:WA)(d:x.oneCell'=true):∃g,a=some (ay g 0)/\oZ g=t/\g<w.heap.size/\GT oZ t e 1 (w.setCell (ay g j) x) (.slice a n c) n (l.set j x):=by
 rcases h with⟨_,rfl,_⟩|⟨g,cap,cs,b,ho,hB,h2,h3,h4,h5,h6,h7⟩;·omega
 ·simp at b;obtain⟨rfl,rfl⟩:=b;refine⟨g,rfl,ho,hB.lt,.inr ⟨g,c,cs.set j x,rfl,ho,hB.setCell j x,by simpa using h2,h3,h4,by simpa using h5,?_,?_⟩⟩;·rw[<-h6,List.take_set]
  ·intro v b;rcases qq6 b with h|h;·exact h7 v h
   ·rw[h];exact d
structure tH (oZ:Own) (s t S o:Nat) (l:bJ) (w0:Wq) (ah:Option V3) (ch:Nat) (ac:Option V3) (cc L:Nat) (h:List UInt8) (c:List Bool) (wr:Wq):Prop where
 kp:Kp [t,t+1] oZ oZ w0 wr
 bY:aL wr S TS l
 gh:GT oZ t 5 1 wr (.slice ah L ch) L (bX h)
 gc:GT oZ (t+1) 4 1 wr (.slice ac L cc) L (iK c)
 lh:h.length=L
 lc:c.length=L
def wh(oZ:Own)(s t S o:Nat)(l:bJ)(w0:Wq)(p:Option V3)(w:Nat)(n:Option V3)(cc L:Nat)(h:List UInt8)(c:List Bool)(wr:Wq)(H:tH oZ s t S o l w0 p w n cc L h c wr)(m:oZ S=s)(B:s<t)(j:Nat)(q:j<L)(x:UInt8):∃g a,p=some (ay g 0)/\n=some (ay a 0)/\g≠a/\g<wr.heap.size/\a<wr.heap.size/\g≠S/\a≠S/\tH oZ s t S o l w0 p w n cc L (h.set j x) (c.set j true) ((wr.setCell (ay g j) (.int .u8 ((x.toNat:Nat):Int))).setCell (ay a j) (.bool true)):=by
 obtain⟨g,A,v,C,y⟩:=H.gh.qe9 j q (.int .u8 ((x.toNat:Nat):Int)) rfl;obtain⟨a,i,f,u,_⟩:=H.gc.qe9 j q (.bool true) rfl;have r:g≠a:=fun e=>by rw[e,f]at v;omega
 have b:Kp [t] oZ oZ wr (wr.setCell (ay g j) (.int .u8 ((x.toNat:Nat):Int))):=Kp.set oZ wr _ _ _ (by simp[v]);obtain⟨D,k,_,_,z⟩:=(H.gc.kp b aM).qe9 j q (.bool true) rfl;rw[i]at k;cases k;have d:Kp [t+1] oZ oZ (wr.setCell (ay g j) (.int .u8 ((x.toNat:Nat):Int))) ((wr.setCell (ay g j) (.int .u8 ((x.toNat:Nat):Int))).setCell (ay a j) (.bool true)):=Kp.set oZ _ _ _ _ (by simp[f]);refine⟨g,a,A,i,r,C,u,fun e=>by rw[e,m]at v;omega,fun e=>by rw[e,m]at f;omega,?_⟩;refine⟨(H.kp.trans (b.mono aM)).trans (d.mono aM),bU (bU H.bY b (by rw[m];simp;omega)) d (by rw[m];simp;omega),?_,?_,by simp[H.lh],by simp[H.lc]⟩
 ·have:=y.kp d aM;have e:bX (h.set j x)=(bX h).set j (.int .u8 ((x.toNat:Nat):Int)):=by simp[bX,mE]
  rw[e];exact this
 ·have e:iK (c.set j true)=(iK c).set j (.bool true):=by simp[iK,mE]
  rw[e];exact z
def tH.cellC{e:Option V3}{f:Nat}(H:tH oZ s t S o l w0 e f d cc L h c wr)(j:Nat)(m:j<L):∃a,d=some (ay a 0)/\wr.cell? (ay a j)=some (.bool (c.getD j false))/\wr.frozen? (ay a j)=false:=by
 have b:j<c.length:=by rw[H.lc];exact m
 obtain⟨a,g,_,_,i,k⟩:=H.gc.cell j (.bool (c.getD j false)) (by simp[iK,b]);exact⟨a,g,i,k⟩
def tH.qd3{b:Option V3}{e:Nat}(H:tH oZ s t S o l w0 b e d cc L h c wr)(j:Nat)(n:j<L):∃g v,b=some (ay g 0)/\wr.cell? (ay g j)=some v/\wr.frozen? (ay g j)=false:=by
 have a:j<h.length:=by rw[H.lh];exact n
 obtain⟨f,i,_,_,k,m⟩:=H.gh.cell j (.int .u8 ((h[j].toNat:Nat):Int)) (by simp[bX,a]);exact⟨f,_,i,k,m⟩
def PO(s:Nat)(a:Nat)(D:ByteArray)(hB:aL w S TS l)(hS:oZ S=s)(hx:s<t)(hO:BG oZ t w l o m)(h8:m.aP.length=m.bK.length)(hl:m.bK.length<=1000000)(U:m.aY<=a)(xa:a<=dH)(xd:a-m.aY+D.size<=1000000):qH 340 #[aJ S o,uZ a,.string D] w (.tuple #[]) fun w'=>FB s t oZ S o l w (m.hold a D.data.toList) w':=by
 obtain⟨vh,vc,Y,k2,k3⟩:=hO;obtain⟨y,z,rfl,_,_⟩:=k2.shape;obtain⟨B,q,rfl,_,_⟩:=k3.shape;have x9:=hB.lt;unfold dH at xa;obtain⟨f,hf⟩:=bT (a-m.aY);have ho:((f:Nat):Int)=(a:Int)-(m.aY:Int):=aj;have Q:D.data.toList.length=D.size:=qpp;obtain⟨dn,h9⟩:=bT D.size;obtain⟨X,hX⟩:=bT (eO D.data.toList f (m.bK++eB (f+dn-m.bK.length) 0) (m.aP++eB (f+dn-m.bK.length) false));have HX:Hid (m.hold a D.data.toList={m with bK:=X.1,aP:=X.2}):=by unfold Hid;rw[hX,hf,h9];unfold eU.hold;rw[Q]
 generalize m.hold a D.data.toList=MH at *
 have c4:=in4 S o m _ _ w l hB Y;have c5:=in5 S o m _ _ w l hB Y;have c6:=in6 S o m _ _ w l hB Y;have PS:Hid (∀(h:List UInt8) (c:List Bool) (k:Nat) (hk:k<D.size),eO (D.data.toList.take (k+1)) f h c=if(eO (D.data.toList.take k) f h c).2.getD (f+k) false then eO (D.data.toList.take k) f h c else((eO (D.data.toList.take k) f h c).1.set (f+k) D[k],(eO (D.data.toList.take k) f h c).2.set (f+k) true)):=fun h c k hk=>by have:=Kc D.data.toList k f h c (by rw[Q];exact hk);rw[Array.getElem_toList]at this;exact this
 have hm:=aF (dw hf U);have x0:Hid (D.data.toList.take D.size=D.data.toList):=by unfold Hid;rw[<-Q,qp2]
 have g0:0<=(a:Int)-(m.aY:Int):=aj;have g1:(a:Int)-(m.aY:Int)<18446744073709551616:=aj;have g2:(a:Int)-(m.aY:Int)<9223372036854775808:=aj;have g3:(a:Int)-(m.aY:Int)+(D.size:Int)<9223372036854775808:=aj;have g4: -9223372036854775808<=(a:Int)-(m.aY:Int)+(D.size:Int):=aj;have g5:(a:Int)-(m.aY:Int)+(D.size:Int)-(m.bK.length:Int)<9223372036854775808:=aj;have g6: -9223372036854775808<=(a:Int)-(m.aY:Int)+(D.size:Int)-(m.bK.length:Int):=aj;have BJ:=aF h8;by_cases R:m.bK.length<f+dn
 ·obtain⟨i,hw⟩:=bT (f+dn-m.bK.length);have g7:(0:Int)<(a:Int)-(m.aY:Int)+(D.size:Int)-(m.bK.length:Int):=aj;have hu:((i:Nat):Int)=(a:Int)-(m.aY:Int)+(D.size:Int)-(m.bK.length:Int):=aj;obtain⟨v1,w1,eG,oh,G1,K1⟩:=oH yC aj k2 i aj aj;obtain⟨Z,c1,rfl,_,_⟩:=G1.shape;have K:=bU hB K1 (by rw[hS];simp;omega);have h2:eG S=s:=by rw[K1.ext _ x9,hS]
  have W:=f_.one K (o+5) (.slice Z (m.bK.length+i) c1) o 13 aj aj;have h3:=W.kp h2 (T:=[s]) aM;obtain⟨v2,w2,gy,zP,G2,K2⟩:=oH zM aj ((k3.kp K1 aM).kp h3 rR) i aj aj;obtain⟨a2,J,rfl,_,_⟩:=G2.shape;have h0:=bU W.bY K2 (by rw[h2];simp;omega);have O:gy S=s:=by rw[K2.ext _ W.bY.lt,h2]
  have h5:=f_.one h0 (o+6) (.slice a2 (m.aP.length+i) J) o 13 aj aj;have h4:=h5.kp O (T:=[s]) aM;have r:=CF (CB Y (.slice Z (m.bK.length+i) c1) (m.bK++eB i 0)) (.slice a2 (m.aP.length+i) J) (m.aP++eB i false);have Q1:=(G1.kp h3 rR).kp K2 aM;have Q2:=Q1.kp h4 rR;have Q3:=G2.kp h4 rR;rw[qe7,<-jV]at Q2;have eo:iK m.aP++(Builtin.zeroCells (Value.bool false).cells i).toList=iK (m.aP++eB i false):=by rw[qe8];simp[iK]
  rw[eo]at Q3;have KK:Kp [s,t,t+1] oZ gy w (w2.setCell (ay S (o+6)) (.slice a2 (m.aP.length+i) J)):=(((K1.mono aM).trans (h3.mono aM)).trans (K2.mono aM)).trans (h4.mono aM);have d:=W.dW.trans h5.dW;obtain⟨l2,he⟩:=bT ((l.set (o+5) (.slice Z (m.bK.length+i) c1)).set (o+6) (.slice a2 (m.aP.length+i) J));rw[<-he]at d r;have p:=h5.bY;rw[<-he]at p;have x5:w1.cell? (ay S (o+5))=some (.slice y m.bK.length z):=by rw[K.cell];exact Y.c5
  have x6:w1.cell? (ay S (o+6))=some (.slice B m.aP.length q):=by rw[K.cell];exact Y.c6
  have xf:=K.frozen (o+5);have y6:w2.cell? (ay S (o+6))=some (.slice B m.aP.length q):=by rw[h0.cell,aA _ _ _ _ aj];exact Y.c6
  have yf:=h0.frozen (o+6);obtain⟨w3,V⟩:=bT (w2.setCell (ay S (o+6)) (.slice a2 (m.aP.length+i) J));rw[<-V]at p Q2 Q3 KK;rw[BJ.out]at Q3 r V y6 x6 zP;have UC:Hid (tH gy s t S o l2 w3 Z c1 a2 J (m.bK.length+i) (m.bK++eB i 0) (m.aP++eB i false) w3):=⟨Kp.refl _ _ _,p,Q2,Q3,aM,by simp[BJ.out]⟩;have F:=aF (dw KK (dw d (dw r O)));have hn:X=eO D.data.toList f (m.bK++eB i 0) (m.aP++eB i false):=by rw[hX,hw]
  have G:=aF hn;obtain⟨L,hL⟩:=bT (m.bK.length+i);rw[<-hL]at UC oh zP V r;have x:=aF r;rw[hu]at oh zP;have x2:f+D.size<=L:=aj;have x3:L<=1000001:=aj;have run:=oh;clear hf ho h9 Q;clear oh h8 hu hB Y k2 k3 G1 G2 K1 K2 K h0 W h5 h3 h4 h2 O r Q1 Q2 Q3 KK d p he hn hX hw hL eo;go_enter func340,ntmps340;go_wp2_with (at_builtin;refine qmm _ rfl _ _ _ _ rfl _ _ rfl rfl _ _ (run _) ?_;clear run;have run:=zP);obtain⟨v,N⟩:=bT (m.bK++eB i 0);obtain⟨u,M⟩:=bT (m.aP++eB i false);rw[<-N,<-M]at G UC;clear N M run zP x5 x6 xf y6 yf c4 c5 c6 g7 R;go_loopw [48] (fun A wr=>∃k:Nat,k<=D.size/\A=(iZ k)/\Hid (tH gy s t S o l2 w3 Z c1 a2 J L (eO (D.data.toList.take k) f v u).1 (eO (D.data.toList.take k) f v u).2 wr)) (fun A _=>D.size-(eT A).toNat);case atStart=>exact⟨0,qm2 _,rfl,by unfold Hid;rw[<-V];exact UC.out⟩
  case round=>
   clear V UC;obtain⟨k,hk,rfl,b⟩:=hrel;by_cases hc:k<D.size
   ·have hr:(k:Int)<(D.size:Int):=aj;have E:=PS.out v u k hc;obtain⟨Hk,n⟩:=bT ((eO (D.data.toList.take k) f v u).1);obtain⟨Ck,I⟩:=bT ((eO (D.data.toList.take k) f v u).2);rw[<-n,<-I]at b;have e5:wr.cell? (ay S (o+5))=some (.slice Z L c1):=by rw[b.out.bY.cell];exact x.out.c5
    have e6:wr.cell? (ay S (o+6))=some (.slice a2 L J):=by rw[b.out.bY.cell];exact x.out.c6
    obtain⟨g',ha,P,x4⟩:=b.out.cellC (f+k) aj;obtain⟨hf,U⟩:=hm.out;have i1:0<=(a:Int)-(m.aY:Int)+(k:Int):=aj;have r:(a:Int)-(m.aY:Int)+(k:Int)<(L:Int):=aj;have i3:((a:Int)-(m.aY:Int)+(k:Int)).toNat=f+k:=aj;have i4:(a:Int)-(m.aY:Int)+(k:Int)<9223372036854775808:=aj;have i5: -9223372036854775808<=(a:Int)-(m.aY:Int)+(k:Int):=aj;clear hf U;subst ha;cases C:Ck.getD (f+k) false
    ·rw[C]at P;rw[<-I,C,<-n]at E;obtain⟨g,vv,hg,x7,x8⟩:=b.out.qd3 (f+k) aj;obtain⟨g2,x1,q1,q2,q3,q4,q5,q6,q7,HN⟩:=wh gy s t S o l2 w3 Z c1 _ J L Hk Ck wr b.out F.out.2.2.2 hx (f+k) aj D[k];subst hg;cases q1;cases q2;have h7:=aF HN;have j:=aF E;have n1:¬(g=g'):=q3;have n2:¬(g'=g):=fun e=>q3 e.symm;have n3:¬(S=g):=fun e=>q6 e.symm;have n4:¬(S=g'):=fun e=>q7 e.symm;clear HN E b q3 q6 q7 C;go_wp2_with fail;go_region
     all_goals go_wp2_with fail
     all_goals
      refine⟨⟨k+1,aj,by go_num,?_⟩,?_⟩;·unfold Hid;rw[j.out];have H:=h7.out;exact⟨⟨H.kp.os,H.kp.tape,H.kp.output,H.kp.size,H.kp.bY,H.kp.ext⟩,H.bY,H.gh.kp (Kp.below (T:=[]) ⟨rfl,rfl,rfl,qj _,fun _ _=>rfl⟩) aM,H.gc.kp (Kp.below (T:=[]) ⟨rfl,rfl,rfl,qj _,fun _ _=>rfl⟩) aM,H.lh,H.lc⟩
      ·simp[eT];omega
    ·rw[C]at P;rw[<-I,C]at E;have j:=aF E;have zl:Hid (tH gy s t S o l2 w3 Z c1 (some (ay g' 0)) J L (eO (D.data.toList.take (k+1)) f v u).1 (eO (D.data.toList.take (k+1)) f v u).2 wr):=by
      unfold Hid;rw[j.out,bM rfl,<-n,<-I];exact b.out
     clear E j b n I C;go_wp2_with fail;go_roundw;case rel=>exact⟨k+1,aj,by go_num,zl⟩
     case measure=>simp[eT];omega
   ·obtain rfl:k=D.size:=aj;rw[x0.out,<-G.out]at b;have mh:Hid (FB s t oZ S o l w MH wr):=by
     obtain⟨KK,d,r,O⟩:=F.out;have H:=b.out;refine⟨gy,l2,KK.trans (H.kp.mono aM),H.bY,d,.slice Z L c1,.slice a2 L J,?_,?_,?_⟩;·rw[HX.out];have:=x.out;exact⟨this.gr,this.c4,this.c5,this.c6,this.c7,this.c8,this.c9,this.uh,this.w9,this.xO⟩
     ·rw[HX.out];show GT _ _ _ _ _ _ X.1.length _;rw[H.lh];exact H.gh
     ·rw[HX.out];show GT _ _ _ _ _ _ X.2.length _;rw[H.lc];exact H.gc
    clear b;go_wp2;go_end0;exact⟨rfl,mh.out⟩
 ·have g7:(a:Int)-(m.aY:Int)+(D.size:Int)-(m.bK.length:Int)<=0:=aj;have hy:f+dn-m.bK.length=0:=aj;rw[hy,fB,qmv,fB,qmv]at hX;obtain⟨L,hL⟩:=bT m.bK.length;have h6:=k3;have hj:=k2;have r:=Y;rw[BJ.out]at h6 c6 r;rw[<-hL]at hj h6 c5 c6 r;have UC:Hid (tH oZ s t S o l w y z B q L m.bK m.aP w):=⟨Kp.refl _ _ _,hB,hj,h6,hL.symm,by rw[BJ.out,hL]⟩;have x:=aF r;have F:=aF (dw (Kp.refl [s,t,t+1] oZ w) (dw (kR.refl l o 13) (dw r hS)));have G:=aF hX;have x2:f+D.size<=L:=aj;have x3:L<=1000001:=aj;obtain⟨v,N⟩:=bT m.bK;obtain⟨u,M⟩:=bT m.aP;rw[<-N,<-M]at G UC;rw[<-hL]at g5 g6 g7;clear hf ho h9 Q hy R hX h8 hB Y k2 k3 hj h6 r hL N M;go_enter func340,ntmps340;go_wp2_with fail;clear c4 c5 c6;go_loopw [48] (fun A wr=>∃k:Nat,k<=D.size/\A=(iZ k)/\Hid (tH oZ s t S o l w y z B q L (eO (D.data.toList.take k) f v u).1 (eO (D.data.toList.take k) f v u).2 wr)) (fun A _=>D.size-(eT A).toNat);case atStart=>exact⟨0,qm2 _,rfl,UC⟩
  case round=>
   clear UC;obtain⟨k,hk,rfl,b⟩:=hrel;by_cases hc:k<D.size
   ·have hr:(k:Int)<(D.size:Int):=aj;have E:=PS.out v u k hc;obtain⟨Hk,n⟩:=bT ((eO (D.data.toList.take k) f v u).1);obtain⟨Ck,I⟩:=bT ((eO (D.data.toList.take k) f v u).2);rw[<-n,<-I]at b;have e5:wr.cell? (ay S (o+5))=some (.slice y L z):=by rw[b.out.bY.cell];exact x.out.c5
    have e6:wr.cell? (ay S (o+6))=some (.slice B L q):=by rw[b.out.bY.cell];exact x.out.c6
    obtain⟨g',ha,P,x4⟩:=b.out.cellC (f+k) aj;obtain⟨hf,U⟩:=hm.out;have i1:0<=(a:Int)-(m.aY:Int)+(k:Int):=aj;have r:(a:Int)-(m.aY:Int)+(k:Int)<(L:Int):=aj;have i3:((a:Int)-(m.aY:Int)+(k:Int)).toNat=f+k:=aj;have i4:(a:Int)-(m.aY:Int)+(k:Int)<9223372036854775808:=aj;have i5: -9223372036854775808<=(a:Int)-(m.aY:Int)+(k:Int):=aj;clear hf U;subst ha;cases C:Ck.getD (f+k) false
    ·rw[C]at P;rw[<-I,C,<-n]at E;obtain⟨g,vv,hg,x7,x8⟩:=b.out.qd3 (f+k) aj;obtain⟨g2,x1,q1,q2,q3,q4,q5,q6,q7,HN⟩:=wh oZ s t S o l w y z _ q L Hk Ck wr b.out F.out.2.2.2 hx (f+k) aj D[k];subst hg;cases q1;cases q2;have h7:=aF HN;have j:=aF E;have n1:¬(g=g'):=q3;have n2:¬(g'=g):=fun e=>q3 e.symm;have n3:¬(S=g):=fun e=>q6 e.symm;have n4:¬(S=g'):=fun e=>q7 e.symm;clear HN E b q3 q6 q7 C;go_wp2_with fail;go_region
     all_goals go_wp2_with fail
     all_goals
      refine⟨⟨k+1,aj,by go_num,?_⟩,?_⟩;·unfold Hid;rw[j.out];have H:=h7.out;exact⟨⟨H.kp.os,H.kp.tape,H.kp.output,H.kp.size,H.kp.bY,H.kp.ext⟩,H.bY,H.gh.kp (Kp.below (T:=[]) ⟨rfl,rfl,rfl,qj _,fun _ _=>rfl⟩) aM,H.gc.kp (Kp.below (T:=[]) ⟨rfl,rfl,rfl,qj _,fun _ _=>rfl⟩) aM,H.lh,H.lc⟩
      ·simp[eT];omega
    ·rw[C]at P;rw[<-I,C]at E;have j:=aF E;have zl:Hid (tH oZ s t S o l w y z (some (ay g' 0)) q L (eO (D.data.toList.take (k+1)) f v u).1 (eO (D.data.toList.take (k+1)) f v u).2 wr):=by
      unfold Hid;rw[j.out,bM rfl,<-n,<-I];exact b.out
     clear E j b n I C;go_wp2_with fail;go_roundw;case rel=>exact⟨k+1,aj,by go_num,zl⟩
     case measure=>simp[eT];omega
   ·obtain rfl:k=D.size:=aj;rw[x0.out,<-G.out]at b;have mh:Hid (FB s t oZ S o l w MH wr):=by
     obtain⟨KK,d,r,O⟩:=F.out;have H:=b.out;refine⟨oZ,l,KK.trans (H.kp.mono aM),H.bY,d,.slice y L z,.slice B L q,?_,?_,?_⟩;·rw[HX.out];have:=x.out;exact⟨this.gr,this.c4,this.c5,this.c6,this.c7,this.c8,this.c9,this.uh,this.w9,this.xO⟩
     ·rw[HX.out];show GT _ _ _ _ _ _ X.1.length _;rw[H.lh];exact H.gh
     ·rw[HX.out];show GT _ _ _ _ _ _ X.2.length _;rw[H.lc];exact H.gc
    clear b;go_wp2;go_end0;exact⟨rfl,mh.out⟩
def extract_toList(D:ByteArray)(a b:Nat):(D.extract a b).data.toList=(D.data.toList.take b).drop a:=by rw[qq8,Array.toList_extract,List.extract_eq_drop_take',List.drop_take]
def ZT(m:eU)(f:Fr):m.take f=(
  if max f.aC m.aY<min (bL f) ({m with fF:=max m.fF (bL f),cO:=m.cO||f.bG,gH:=if f.bG then bL f else m.gH}:eU).wanted then
   ({m with fF:=max m.fF (bL f),cO:=m.cO||f.bG,gH:=if f.bG then bL f else m.gH}:eU).hold (max f.aC m.aY) ((f.data.data.toList.take (min (bL f) ({m with fF:=max m.fF (bL f),cO:=m.cO||f.bG,gH:=if f.bG then bL f else m.gH}:eU).wanted-f.aC)).drop (max f.aC m.aY-f.aC))
  else{m with fF:=max m.fF (bL f),cO:=m.cO||f.bG,gH:=if f.bG then bL f else m.gH}):=rfl
structure Ms (ow:Own) (s t S o B:Nat) (f:Fr) (rv:WA) (l0:bJ) (w:Wq) (l:bJ) (m:eU) (y:Wq):Prop where
 kp:Kp [s,t,t+1] ow ow w y
 bY:aL y S TS l
 dW:kR l0 l o 13
 cK:BG ow t y l o m
 box:aL y B 65 (fJ f rv)
def Ms.below{c:Own}{s t S o B:Nat}{f:Fr}{d:WA}{b:bJ}{w:Wq}{l:bJ}{m:eU}{y y':Wq}(h:Ms c s t S o B f d b w l m y)(a:bE y y'):Ms c s t S o B f d b w l m y':=
 ⟨h.kp.iA a,h.bY.of_heap (a.block _ h.bY.lt),h.dW,h.cK.kp (Kp.below (T:=[]) a) aM aM (kR.refl l (o+13) 0) aj,h.box.of_heap (a.block _ h.box.lt)⟩
def Ms.cell{b:Own}{B:Nat}{f:Fr}{k:WA}{i:bJ}{m':eU}{y:Wq}(h:Ms b s t S o B f k i w l m y)(r:b S=s)(A:s<t)(q:b B=0)(z:0<s)(j:Nat)(v:WA)(x:o<=j)(g:j<o+13)(u:∀d c,w_ l o m d c->w_ (l.set j v) o m' d c)(n:m'.bK=m.bK)(p:m'.aP=m.aP):Ms b s t S o B f k i w (l.set j v) m' (y.setCell (ay S j) v):=by
 have e:=f_.one h.bY j v o 13 x g;have a:=e.kp r (T:=[s]) aM;obtain⟨d,c,C,D,E⟩:=h.cK;refine⟨h.kp.trans (a.mono aM),e.bY,h.dW.trans e.dW,⟨d,c,u _ _ C,?_,?_⟩,bU h.box a (by rw[q];simp;omega)⟩;·rw[n];exact D.kp a rR
 ·rw[p];exact E.kp a rR
def Ms.drewN{b:Own}{s t S o B:Nat}{f:Fr}{c:WA}{a:bJ}{w:Wq}{l:bJ}{m:eU}{y:Wq}(h:Ms b s t S o B f c a w l m y)(q:Nat):Ms b s t S o B f c a w l m (y.drewN q):=h.below ⟨rfl,rfl,rfl,qj _,fun _ _=>rfl⟩
def Ms.wanted{c:Own}{s t S o B:Nat}{f:Fr}{d:WA}{b:bJ}{w:Wq}{l:bJ}{m:eU}{y:Wq}(h:Ms c s t S o B f d b w l m y):qH 306 #[aJ S o] y (uZ m.wanted) fun i=>i=y:=by obtain⟨g,e,a,_⟩:=h.cK;exact rU S o m g e y l h.bY a
def Ms.aY{c:Own}{s t S o B:Nat}{f:Fr}{d:WA}{b:bJ}{w:Wq}{l:bJ}{m:eU}{y:Wq}(h:Ms c s t S o B f d b w l m y):y.cell? (ay S (o+4))=some (uZ m.aY):=by obtain⟨g,e,a,_⟩:=h.cK;exact in4 S o m g e y l h.bY a
def ZU(s t:Nat)(o:Nat)(m:eU)(f:Fr)(P:WA)(hB:aL w S TS l)(hS:oZ S=s)(ha:0<s)(N:s<t)(hO:BG oZ t w l o m)(ok:Mr m)(ho:f.aC<=dH)(hd:f.data.size<=1000000000)(hE:bL f<=dH)(hv:bL f<=m.aY+100000):qH 298 #[aJ S o,eF f P] w (.tuple #[]) fun w'=>FB s t oZ S o l w (m.take f) w':=by
 have hm:=hB.lt;obtain⟨ow,M⟩:=bT (loc oZ w.heap.size);have H:ow S=s:=by rw[M,jo _ _ _ hm,hS]
 have h7:ow w.heap.size=0:=by rw[M,iY _ _ _ (qj _)]
 have hj:BG ow t w l o m:=by rw[M];exact hO.loc
 obtain⟨W,hW⟩:=bT (w.alloc (.cells (fJ f P).toArray 65));have hb:aL W w.heap.size 65 (fJ f P):=by rw[hW];exact aL.new w 65 _
 have Z:bE w W:=by rw[hW];exact(qlw _ w).alloc (qj _) _
 have T0:Ms ow s t S o w.heap.size f P l w l m W:=⟨Kp.below Z,hB.of_heap (Z.block _ hm),kR.refl _ _ _,hj.kp (Kp.below (T:=[]) Z) aM aM (kR.refl l (o+13) 0) aj,hb⟩;have R:=aF (fun y=>lM f P y ho hd);obtain⟨x0,x1,x2,x3,x4,x5,x6,x7,x8,x9,xf⟩:=bC hb;have mh:Hid (∀w' m',m'=m.take f->FB s t ow S o l w m' w'->FB s t oZ S o l w (m.take f) w'):=fun w' m' e h=>by rw[<-e];rw[M]at h;obtain⟨aQ,l',h1,h2⟩:=h;exact⟨aQ,l',h1.j_,h2⟩
 have U:=aF (ZT m f);generalize m.take f=MT at *
 generalize hg:bL f=E at *
 have he:Hid (f.aC+f.data.size=E):=by unfold Hid;rw[<-hg];rfl
 clear hg;have hf:=aF T0;clear hb Z T0 hj M hO;unfold eF at *
 unfold fJ at hW;go_enter func298,ntmps298;go_wp2_with fail;rw[<-hW];clear hW;refine bH (R.out W) ?_;rintro y1 uK;have T1:=hf.out.below uK;obtain⟨vh,vc,k1,k2,k3⟩:=T1.cK;have h5:=aF (Av S o m vh vc y1 l T1.bY k1 E);have c7:=in7 S o m vh vc y1 l T1.bY k1;have f7:=T1.bY.frozen (o+7);have T2:=T1.cell H N h7 ha (o+7) (uZ ((max m.fF E:Nat):Int)) aj aj (m':={m with fF:=max m.fF E}) (fun _ _ h=>VD h _) rfl rfl;generalize max m.fF E=HI at *
 obtain⟨y2,O⟩:=bT (y1.setCell (ay S (o+7)) (uZ HI));rw[<-O]at T2;obtain⟨z0,z1,z2,z3,z4,z5,z6,z7,z8,z9,zf⟩:=bC T1.box;have n1:¬(S=w.heap.size):=aj;have n2:¬(w.heap.size=S):=aj;have u:=aF T2;clear T1 T2 k1 k2 k3 uK x0 x1 x2 x3 x4 x5 x6 x7 x8 x9 xf hf;go_wp2_with fail;refine bH h5.out ?_;rintro y rfl;rcases(qq2 f.bG).symm with hfi|hfi
 ·have t5:y.cell? (ay w.heap.size 5)=some (.bool false):=by rw[<-hfi];exact z5
  have Fz:=aF hfi;clear hfi z0 z1 z2 z3 z4 z5 z6 z7 z8 z9 zf;go_wp2_with fail;rw[<-O];clear O t5 c7 f7 h5;obtain⟨a,c⟩:∃a:eU,a={m with fF:=HI}:=⟨_,rfl⟩;have d:=u;rw[<-c]at d;obtain⟨l3,J⟩:=bT (l.set (o+7) (uZ HI));rw[<-J]at d;obtain⟨y3,q⟩:=bT y2;rw[<-q];rw[<-q]at d;have g:Hid (MT=if max f.aC m.aY<min E a.wanted then a.hold (max f.aC m.aY) ((f.data.data.toList.take (min E a.wanted-f.aC)).drop (max f.aC m.aY-f.aC))else a):=by have h:=U.out;rw[Fz.out]at h;simp only[Bool.or_false,Bool.false_eq_true,if_false]at h;rw[c];exact h
  have x:Hid (a.aY=m.aY/\a.bK=m.bK/\a.aP=m.aP):=by rw[c];exact⟨rfl,rfl,rfl⟩
  clear q J c u U Fz;obtain⟨b,h9,VQ⟩:=max2 f.aC m.aY;obtain⟨n,h8,VR⟩:=min2 E a.wanted;obtain⟨C,z⟩:=bT (Ms ow s t S o w.heap.size f P l w l3 a:Wq->Prop);have p:Hid (∀v,C v->v.cell? (ay S (o+4))=some (uZ m.aY)/\(v.cell? (ay w.heap.size 0)=some (iZ f.aD)/\v.cell? (ay w.heap.size 1)=some (iZ f.aG)/\v.cell? (ay w.heap.size 2)=some (uZ f.aC)/\v.cell? (ay w.heap.size 3)=some (uZ f.aN)/\v.cell? (ay w.heap.size 4)=some (uZ f.aT)/\v.cell? (ay w.heap.size 5)=some (.bool f.bG)/\v.cell? (ay w.heap.size 6)=some (uZ f.id)/\v.cell? (ay w.heap.size 7)=some (uZ f.aH)/\v.cell? (ay w.heap.size 8)=some (.string f.data)/\v.cell? (ay w.heap.size 9)=some P/\∀j,v.frozen? (ay w.heap.size j)=false)):=fun v h=>by rw[z]at h;exact⟨by rw[<-x.out.1];exact h.aY,bC h.box⟩
  have A:Hid (∀v,C v->qH 318 #[.agg #[iZ f.aD,iZ f.aG,uZ f.aC,uZ f.aN,uZ f.aT,.bool f.bG,uZ f.id,uZ f.aH,.string f.data,P]] v (uZ E) fun r=>C r):=fun v h=>by refine bH (R.out v) ?_;rintro v' hb;rw[z]at h ⊢;exact⟨rfl,h.below hb⟩
  have B:Hid (∀v,C v->qH 306 #[aJ S o] v (uZ a.wanted) fun r=>C r):=fun v h=>by have h':=h;rw[z]at h';refine bH h'.wanted ?_;rintro v' rfl;exact⟨rfl,h⟩
  have G:C (y3.drewN 1):=by rw[z];exact d.out.drewN 1
  have HC:=aF z;have Q:=aF VQ;have V:=aF VR;clear z VQ VR;refine wp_region_quiet (C:=C) bO bO G ?_;dsimp only;repeat
   refine wpQuiet_step (fun K Y=>?_);go_simp;first
    |(
      refine Y _ ?_;clear Y K)
    |(
      apply qph;refine⟨fun y hy=>?_,Y _ ?_⟩
      (first
       |exact A.out y hy
       |exact B.out y hy
       |(
         obtain⟨c4,d0,d1,d2,d3,d4,d5,d6,d7,d8,d9,df⟩:=p.out y hy;go_simp;rfl)
       |rfl)
      clear Y K)
  refine wpQuiet_nil ?_;intro y5 i;obtain⟨c4,d0,d1,d2,d3,d4,d5,d6,d7,d8,d9,df⟩:=p.out y5 i;rw[HC.out]at i;have k:=aF i;clear i HC A B p G h9 h8 d;have F:Hid (f.aC<=b/\m.aY<=b/\n<=E/\E=f.aC+f.data.size):=by
   refine⟨?_,?_,?_,?_⟩;·rw[Q.out];exact qpc _ _
   ·rw[Q.out];exact qqh _ _
   ·rw[V.out];exact Nat.min_le_left _ _
   ·exact he.out.symm
  by_cases L:b<n
  ·obtain⟨l1,l2,l4,l5⟩:=F.out;have hc:E<=4611686018427387904:=by have:=hE;unfold dH at this;omega
   obtain⟨D,X⟩:=bT (f.data.extract (b-f.aC) (n-f.aC));have hr:∀wx,(Instr.slice 9 (.string f.data) (some (uZ ((b:Int)-(f.aC:Int)))) (some (uZ ((n:Int)-(f.aC:Int)))) none).run prog wx=.ok (.string D) wx:=fun wx=>by rw[run_slice_string wx 9 f.data .u64 .u64 _ _ bO aj aj aj,X];have e1:((b:Int)-(f.aC:Int)).toNat=b-f.aC:=aj;have e2:((n:Int)-(f.aC:Int)).toNat=n-f.aC:=aj;rw[e1,e2]
   have I:b-m.aY+D.size<=1000000:=by rw[X,ByteArray.size_extract];omega
   have HH:=aF (PO s b D k.out.bY H N k.out.cK (by rw[x.out.2.1,x.out.2.2];exact ok.cl) (by rw[x.out.2.1];exact ok.hl) (by rw[x.out.1];exact l2) (by unfold dH;omega) (by rw[x.out.1];exact I));have h6:Hid (a.hold b D.data.toList=MT):=by have h:=g.out;rw[<-Q.out,<-V.out,bM L]at h;unfold Hid;rw[h,X,extract_toList]
   have g0:0<=(b:Int)-(f.aC:Int):=aj;have g1:(b:Int)-(f.aC:Int)<18446744073709551616:=aj;have g2:0<=(n:Int)-(f.aC:Int):=aj;have g3:(n:Int)-(f.aC:Int)<18446744073709551616:=aj;clear c4 d0 d1 d3 d4 d5 d6 d7 d9 df l5 hc l4 l1 l2 X I g Q V F;go_wp2_with fail;refine bH HH.out ?_;rintro y6 hQ;have HQ:Hid (FB s t oZ S o l w MT y6):=by obtain⟨aQ,l',h1,h2,h3,h4⟩:=hQ;rw[h6.out]at h4;exact mh.out y6 MT rfl ⟨aQ,l',k.out.kp.trans h1,h2,k.out.dW.trans h3,h4⟩
   clear HH hQ;go_wp2_with fail;go_end0;exact⟨rfl,HQ.out⟩
  ·clear c4 d0 d1 d2 d3 d4 d5 d6 d7 d8 d9 df;go_wp2_with fail;go_end0;have h:=g.out;rw[<-Q.out,<-V.out,aV L]at h;exact⟨rfl,mh.out _ _ h.symm ⟨ow,l3,k.out.kp,k.out.bY,k.out.dW,k.out.cK⟩⟩
 ·have Fz:=aF hfi;have t5:y.cell? (ay w.heap.size 5)=some (.bool true):=by rw[<-hfi];exact z5
  clear z5;have h0:=aF (R.out y2);rw[hfi]at h0;have g:Hid (∀a:eU,a={m with fF:=HI,cO:=true,gH:=E}->(MT=if max f.aC m.aY<min E a.wanted then a.hold (max f.aC m.aY) ((f.data.data.toList.take (min E a.wanted-f.aC)).drop (max f.aC m.aY-f.aC))else a)):=fun a c=>by have h:=U.out;rw[hfi]at h;simp only[Bool.or_true,if_true]at h;rw[c];exact h
  clear hfi U;have hu:y2.cell? (ay w.heap.size 0)=some (iZ f.aD):=(bC u.out.box).1;obtain⟨x0,x1,x2,x3,x4,x5,x6,x7,x8,x9,xf⟩:=bC u.out.box;rw[Fz.out]at x5;clear hu;go_wp2_with fail;rw[<-O];refine bH h0.out ?_;rintro y4 hk;have T3:=u.out.below hk;obtain⟨hn,jR,k1,k2,k3⟩:=T3.cK;have c8:=in8 S o _ hn jR y4 _ T3.bY k1;have c9:=in9 S o _ hn jR y4 _ T3.bY k1;have f8:=T3.bY.frozen (o+8);have f9:=T3.bY.frozen (o+9);have T4:=T3.cell H N h7 ha (o+8) (.bool true) aj aj (m':={m with fF:=HI,cO:=true}) (fun _ _ h=>FC h true) rfl rfl;have T5:=T4.cell H N h7 ha (o+9) (uZ E) aj aj (m':={m with fF:=HI,cO:=true,gH:=E}) (fun _ _ h=>J4 h E) rfl rfl;obtain⟨y3,q⟩:=bT ((y4.setCell (ay S (o+8)) (.bool true)).setCell (ay S (o+9)) (uZ E));rw[<-q]at T5;have d:=aF T5;clear T3 T4 T5 k1 k2 k3 hk O c7 f7 h5 t5 z0 z1 z2 z3 z4 z6 z7 z8 z9 zf h0 u x0 x1 x2 x3 x4 x5 x6 x7 x8 x9 xf;go_wp2_with fail;rw[<-q];clear q c8 c9 f8 f9 Fz;obtain⟨a,c⟩:∃a:eU,a={m with fF:=HI,cO:=true,gH:=E}:=⟨_,rfl⟩;rw[<-c]at d;have g:=aF (g.out a c);have x:Hid (a.aY=m.aY/\a.bK=m.bK/\a.aP=m.aP):=by rw[c];exact⟨rfl,rfl,rfl⟩
  clear c;obtain⟨l3,J⟩:=bT (((l.set (o+7) (uZ HI)).set (o+8) (.bool true)).set (o+9) (uZ E));rw[<-J]at d;clear J;obtain⟨b,h9,VQ⟩:=max2 f.aC m.aY;obtain⟨n,h8,VR⟩:=min2 E a.wanted;obtain⟨C,z⟩:=bT (Ms ow s t S o w.heap.size f P l w l3 a:Wq->Prop);have p:Hid (∀v,C v->v.cell? (ay S (o+4))=some (uZ m.aY)/\(v.cell? (ay w.heap.size 0)=some (iZ f.aD)/\v.cell? (ay w.heap.size 1)=some (iZ f.aG)/\v.cell? (ay w.heap.size 2)=some (uZ f.aC)/\v.cell? (ay w.heap.size 3)=some (uZ f.aN)/\v.cell? (ay w.heap.size 4)=some (uZ f.aT)/\v.cell? (ay w.heap.size 5)=some (.bool f.bG)/\v.cell? (ay w.heap.size 6)=some (uZ f.id)/\v.cell? (ay w.heap.size 7)=some (uZ f.aH)/\v.cell? (ay w.heap.size 8)=some (.string f.data)/\v.cell? (ay w.heap.size 9)=some P/\∀j,v.frozen? (ay w.heap.size j)=false)):=fun v h=>by rw[z]at h;exact⟨by rw[<-x.out.1];exact h.aY,bC h.box⟩
  have A:Hid (∀v,C v->qH 318 #[.agg #[iZ f.aD,iZ f.aG,uZ f.aC,uZ f.aN,uZ f.aT,.bool f.bG,uZ f.id,uZ f.aH,.string f.data,P]] v (uZ E) fun r=>C r):=fun v h=>by refine bH (R.out v) ?_;rintro v' hb;rw[z]at h ⊢;exact⟨rfl,h.below hb⟩
  have B:Hid (∀v,C v->qH 306 #[aJ S o] v (uZ a.wanted) fun r=>C r):=fun v h=>by have h':=h;rw[z]at h';refine bH h'.wanted ?_;rintro v' rfl;exact⟨rfl,h⟩
  have G:C (y3.drewN 1):=by rw[z];exact d.out.drewN 1
  have HC:=aF z;have Q:=aF VQ;have V:=aF VR;clear z VQ VR;refine wp_region_quiet (C:=C) bO bO G ?_;dsimp only;repeat
   refine wpQuiet_step (fun K Y=>?_);go_simp;first
    |(
      refine Y _ ?_;clear Y K)
    |(
      apply qph;refine⟨fun y hy=>?_,Y _ ?_⟩
      (first
       |exact A.out y hy
       |exact B.out y hy
       |(
         obtain⟨c4,d0,d1,d2,d3,d4,d5,d6,d7,d8,d9,df⟩:=p.out y hy;go_simp;rfl)
       |rfl)
      clear Y K)
  refine wpQuiet_nil ?_;intro y5 i;obtain⟨c4,d0,d1,d2,d3,d4,d5,d6,d7,d8,d9,df⟩:=p.out y5 i;rw[HC.out]at i;have k:=aF i;clear i HC A B p G h9 h8 d;have F:Hid (f.aC<=b/\m.aY<=b/\n<=E/\E=f.aC+f.data.size):=by
   refine⟨?_,?_,?_,?_⟩;·rw[Q.out];exact qpc _ _
   ·rw[Q.out];exact qqh _ _
   ·rw[V.out];exact Nat.min_le_left _ _
   ·exact he.out.symm
  by_cases L:b<n
  ·obtain⟨l1,l2,l4,l5⟩:=F.out;have hc:E<=4611686018427387904:=by have:=hE;unfold dH at this;omega
   obtain⟨D,X⟩:=bT (f.data.extract (b-f.aC) (n-f.aC));have hr:∀wx,(Instr.slice 9 (.string f.data) (some (uZ ((b:Int)-(f.aC:Int)))) (some (uZ ((n:Int)-(f.aC:Int)))) none).run prog wx=.ok (.string D) wx:=fun wx=>by rw[run_slice_string wx 9 f.data .u64 .u64 _ _ bO aj aj aj,X];have e1:((b:Int)-(f.aC:Int)).toNat=b-f.aC:=aj;have e2:((n:Int)-(f.aC:Int)).toNat=n-f.aC:=aj;rw[e1,e2]
   have I:b-m.aY+D.size<=1000000:=by rw[X,ByteArray.size_extract];omega
   have HH:=aF (PO s b D k.out.bY H N k.out.cK (by rw[x.out.2.1,x.out.2.2];exact ok.cl) (by rw[x.out.2.1];exact ok.hl) (by rw[x.out.1];exact l2) (by unfold dH;omega) (by rw[x.out.1];exact I));have h6:Hid (a.hold b D.data.toList=MT):=by have h:=g.out;rw[<-Q.out,<-V.out,bM L]at h;unfold Hid;rw[h,X,extract_toList]
   have g0:0<=(b:Int)-(f.aC:Int):=aj;have g1:(b:Int)-(f.aC:Int)<18446744073709551616:=aj;have g2:0<=(n:Int)-(f.aC:Int):=aj;have g3:(n:Int)-(f.aC:Int)<18446744073709551616:=aj;clear c4 d0 d1 d3 d4 d5 d6 d7 d9 df l5 hc l4 l1 l2 X I g Q V F;go_wp2_with fail;refine bH HH.out ?_;rintro y6 hQ;have HQ:Hid (FB s t oZ S o l w MT y6):=by obtain⟨aQ,l',h1,h2,h3,h4⟩:=hQ;rw[h6.out]at h4;exact mh.out y6 MT rfl ⟨aQ,l',k.out.kp.trans h1,h2,k.out.dW.trans h3,h4⟩
   clear HH hQ;go_wp2_with fail;go_end0;exact⟨rfl,HQ.out⟩
  ·clear c4 d0 d1 d2 d3 d4 d5 d6 d7 d8 d9 df;go_wp2_with fail;go_end0;have h:=g.out;rw[<-Q.out,<-V.out,aV L]at h;exact⟨rfl,mh.out _ _ h.symm ⟨ow,l3,k.out.kp,k.out.bY,k.out.dW,k.out.cK⟩⟩
end Go.Proofs.YtphbledmopchnaaGreatDoor.Sd
namespace Go.Proofs.YtphbledmopchnaaGreatDoor.Sd
open St Tryz
variable {e:Nat}{i:eU}
def Qg{c:NS}(h:CmB c)(n:Nat)(g:n<=dH):CmB (c.add 8 n n):=by
 unfold NS.add Rg.add;by_cases d:n<max n c.fl;·rw[bM d];exact h
 ·rw[aV d];have f:max n c.fl<=n:=aj;have s:=Rg.mO c.rs (max n c.fl) n f h.so;have a:=Rg.wQ c.rs (max n c.fl) n dH g h.hi;have k:=Rg.pG c.rs (max n c.fl) n;have j:=h.ln;by_cases e:8<(Rg.ins (max n c.fl) n c.rs).length;·rw[bM e];refine⟨s.tail,fun r i=>a r (qqn i),by simp only[List.length_tail];omega,?_⟩;have b:0<(Rg.ins (max n c.fl) n c.rs).length:=aj;have:=a _ (qmz b);show((Rg.ins (max n c.fl) n c.rs).getD 0 (0,0)).2+1<=dH+1;rw[qly,qm3 b];exact Nat.succ_le_succ this
  ·rw[aV e];exact⟨s,a,by show(Rg.ins (max n c.fl) n c.rs).length<=8;omega,h.fl⟩
def WU(h:Ey i)(c:Nat)(d:List UInt8)(f:i.aY<=c)(g:c+d.length<=2048):Ey (i.hold c d):=by
 have j:=h.l;have e:=h.c;obtain⟨a,b⟩:=xw d (c-i.aY) (i.bK++eB (c-i.aY+d.length-i.bK.length) 0) (i.aP++eB (c-i.aY+d.length-i.bK.length) false);refine⟨h.g,h.r,h.h,h.f,h.e,?_,?_,h.s⟩;·show i.aY+(eO d (c-i.aY) (i.bK++eB (c-i.aY+d.length-i.bK.length) 0) (i.aP++eB (c-i.aY+d.length-i.bK.length) false)).1.length<=2048;rw[a,qm0,qpq];omega
 ·show(eO d (c-i.aY) (i.bK++eB (c-i.aY+d.length-i.bK.length) 0) (i.aP++eB (c-i.aY+d.length-i.bK.length) false)).2.length=(eO d (c-i.aY) (i.bK++eB (c-i.aY+d.length-i.bK.length) 0) (i.aP++eB (c-i.aY+d.length-i.bK.length) false)).1.length;rw[a,b,qm0,qm0,qpq,qpq,e]
def WV(h:Ey i)(f:Fr)(a:bL f<=2048):Ey (i.take f):=by
 have c:Ey {i with fF:=max i.fF (bL f),cO:=i.cO||f.bG,gH:=if f.bG then bL f else i.gH}:=
  ⟨h.g,h.r,qp0.2 ⟨h.h,a⟩,(by show(if f.bG=true then bL f else i.gH)<=2048;split;exact a;exact h.f),h.e,h.l,h.c,h.s⟩
 have key:∀j:eU,Ey j->Ey (if max f.aC j.aY<min (bL f) j.wanted then j.hold (max f.aC j.aY) ((f.data.data.toList.take (min (bL f) j.wanted-f.aC)).drop (max f.aC j.aY-f.aC))else j):=fun j b=>by
  split;·refine WU b _ _ (qqh _ _) ?_;rw[qms,qm8];omega
  ·exact b
 exact key _ c
def SY(h:Ey i)(f:Fr)(c:f.aC<=2048)(g:f.aN<=dH):Ey (i.fU f):=by
 have d:=h.l;have b:=h.c;obtain⟨r,a⟩:=bT (min i.wanted f.aN);obtain⟨n,en⟩:=bT (min i.bK.length (r-min r i.aY));have e:i.fU f={i with rel:=r,bN:=true,cO:=true,gH:=f.aC,bK:=i.bK.take n,aP:=i.aP.take n}:=by rw[en,a];rfl
 rw[e];refine⟨h.g,h.r,h.h,c,by show r<=dH;omega,?_,?_,h.s⟩;·show i.aY+(i.bK.take n).length<=2048;rw[qm8];omega
 ·show(i.aP.take n).length=(i.bK.take n).length;rw[qm8,qm8,b]
def qew(h:Ey i)(a:Int):Ey (i.rd a).2:=by
 have c:=h.l;have b:=h.c;have d:min i.ready (max a 0).toNat<=i.bK.length:=by
  have:i.ready<=i.aP.length:=by unfold eU.ready;exact(List.takeWhile_sublist _).length_le
  omega
 unfold eU.rd;simp only;refine⟨h.g,?_,h.h,h.f,h.e,?_,?_,?_⟩;·show i.aY+_<=2048;omega
 ·show i.aY+min i.ready (max a 0).toNat+(i.bK.drop (min i.ready (max a 0).toNat)).length<=2048;rw[qms];omega
 ·show(i.aP.drop _).length=(i.bK.drop _).length;rw[qms,qms,b]
 ·show(if(i.cut _).state=0 then(i.cut _).iT else(i.cut _).state)<=2;split
  ·unfold eU.iT;repeat' split
   all_goals decide
  ·exact h.s
def av.fU(M:av)(f:Fr)(a:av)(e:Nat):Prop:=
 if f.aD=2 then(if M.next<=(f.ranges.getD 0 (0,0)).2 then a=M/\e=11 else M.tN f.ranges a/\e=0)else if f.aD=7 then∃v,a={M.nE f with iv:=v}/\e=0 else(a,e)=M.take f
def mH:av->List Fr->av->Nat->Prop
 |M,[],M1,e=>M1=M/\e=0
 |M,f::t,M1,e=>∃b a,M.fU f b a/\if a=0 then mH b t M1 e else M1={b with kW:=a}/\e=a
def av.ji(M:av)(n:Nat)(b:List Fr)(a:av)(e:Nat):Prop:=
 if M.aP.has n then a=M/\e=0 else mH {M with aP:=M.aP.add 8 n n,bI:=M.bI||fD b} b a e
def qab{A:av}(h:Ib A)(f:Fr)(g:f.id<=dH)(c:f.id∉A.taken):Ib {A with eP:=A.eP++[(f.id,f.data)],bW:=max A.bW f.id,taken:=(f.id::A.taken).filter fun x=> !decide (x+32<=max A.bW f.id)}:=by
 obtain⟨e,a,b⟩:=h;unfold Ib;dsimp only;refine⟨aj,(List.nodup_cons.2 ⟨c,a⟩).sublist qp7,fun x d=>?_⟩;obtain⟨p,q⟩:=qm4.1 d;simp at q;refine⟨?_,aj⟩;rcases qme.1 p with rfl|p;·omega
 ·have:=b x p;omega
def rH.iv{A B A':av}(h:rH A B A')(v:WA):rH A B {A' with iv:=v}:=
 ⟨⟨h.loc.lo,h.loc.li,h.loc.wr,h.loc.sp,h.loc.it,h.loc.gt,h.loc.kW,h.loc.q,h.loc.ql⟩,⟨h.ab.rd,h.ab.jS,h.ab.aP⟩,⟨h.ba.rd,h.ba.jS,h.ba.aP⟩,⟨h.le.out,h.le.Pk,h.le.dX,h.le.next⟩⟩
def Bd.iv{A:av}(h:Bd A)(v:WA):Bd {A with iv:=v}:=⟨h.o,h.i,h.g,h.lm,h.mt,h.wy,h.ls,h.ky,h.wl,h.ll,h.nm,h.cm,h.tk,h.ib⟩
def KJ{A B A':av}(o:gM A)(i:gM B)(m:eH A B)(n:eH B A)(a:Bd A)(u:Bd B)(f:Fr)(g:qQ B A f)(h:A.fU f A' e):e=0/\rH A B A'/\Bd A'/\A'.next=A.next/\A'.bF=A.bF:=by
 unfold av.fU at h;have p:∀(l:List Fr) (M:av),(l.foldl av.gN M).next=M.next/\(l.foldl av.gN M).bF=M.bF:=fun l=>by
  induction l with
  |nil=>exact fun M=>⟨rfl,rfl⟩
  |cons f t s=>
   intro M;have r:(M.gN f).next=M.next/\(M.gN f).bF=M.bF:=by
    unfold av.gN;repeat' split
    all_goals exact⟨rfl,rfl⟩
   exact⟨(s _).1.trans r.1,(s _).2.trans r.2⟩
 by_cases c:f.aD=2
 ·rw[bM c]at h;have d:(f.ranges.getD 0 (0,0)).2<A.next:=by
   rcases g with⟨_,_,h⟩|⟨h,_⟩|⟨h,_⟩|⟨h,_⟩|⟨h,_⟩|h;·exact h
   ·rw[c]at h;cases h
   ·rw[c]at h;cases h
   ·rw[c]at h;cases h
   ·rw[c]at h;cases h
   ·rw[h.kd]at c;cases c
  rw[aV aj]at h;obtain⟨h,rfl⟩:=h;refine⟨rfl,SX o m n _ h,WQ a d h,?_⟩;obtain⟨E,F,_,_,rfl⟩:=h;exact p _ _
 ·rw[aV c]at h;by_cases j:f.aD=7
  ·rw[bM j]at h;obtain⟨v,rfl,rfl⟩:=h;obtain⟨_,k⟩:=G7 o i m n f g;have z:(A.take f).1=A.nE f:=by
    unfold av.take;rw[aV c,aV aj,aV aj,aV aj,bM j]
   rw[z]at k;have q:Bd (A.nE f)/\(A.nE f).next=A.next/\(A.nE f).bF=A.bF:=by
    unfold av.nE;split;·exact⟨a,rfl,rfl⟩
    ·rename_i C;refine⟨⟨a.o,a.i,a.g,a.lm,a.mt,a.wy,a.ls,a.ky,a.wl,a.ll,a.nm,a.cm,a.tk,?_⟩,rfl,rfl⟩;refine qab a.ib f ?_ (fun e=>C (.inr (.inl e)));rcases g with⟨h,_⟩|⟨h,_⟩|⟨h,_⟩|⟨h,_⟩|⟨h,_⟩|h;·omega
     ·omega
     ·omega
     ·omega
     ·omega
     ·exact h.i
   exact⟨rfl,k.iv v,q.1.iv v,q.2⟩
  rw[aV j]at h;obtain⟨D,k⟩:=G7 o i m n f g;have x:A'=(A.take f).1:=congrArg Prod.fst h;have y:e=(A.take f).2:=congrArg Prod.snd h;rw[x,y];refine⟨D,k,?_⟩;unfold av.take;rw[aV c];rcases g with⟨b,_⟩|⟨b,hs,hs8,hd⟩|⟨b,hl⟩|⟨b,hs,hs8,hl⟩|⟨b,hs,hs8,d⟩|d;·exact absurd b c
  ·rw[bM b];split;·exact⟨a,rfl,rfl⟩
   ·split;·exact⟨a,rfl,rfl⟩
    ·exact⟨a.fT _ _ (WV (a.i _) f (qlz hd.b (i.wr _).sz)),rfl,rfl⟩
  ·have:f.aT<=dH:=qlz hl u.g.2.1;rw[aV (by rw[b];decide),aV (by rw[b];decide),aV (by rw[b];decide),aV (by rw[b];decide),bM b];exact⟨⟨a.o,a.i,a.g,qp0.2 ⟨a.lm,this⟩,a.mt,a.wy,a.ls,a.ky,a.wl,a.ll,a.nm,a.cm,a.tk,a.ib⟩,rfl,rfl⟩
  ·rw[aV (by rw[b];decide),aV (by rw[b];decide),aV (by rw[b];decide),aV (by rw[b];decide),aV (by rw[b];decide),bM b];exact⟨a.dD _ _ ⟨(a.o _).b,(a.o _).a,(a.o _).c⟩,rfl,rfl⟩
  ·rw[aV (by rw[b];decide),bM b];split;·exact⟨a,rfl,rfl⟩
   ·refine⟨a.fT _ _ (SY (a.i _) f ?_ (qlz d.m gP)),rfl,rfl⟩;have w:=i.wr f.aG.toNat;rw[d.fo];exact qlz (w.gv d.g).2.2 w.sz
  ·exact absurd d.kd j
def AB:∀(a:List Fr) {A B A':av} {e:Nat},gM A->gM B->eH A B->eH B A->Bd A->Bd B->(∀f∈a,qQ B A f)->mH A a A' e->e=0/\rH A B A'/\Bd A'/\A'.next=A.next/\A'.bF=A.bF
 |[],A,B,A',e,hA,hB,h1,h2,bA,bB,_,h=>by obtain⟨rfl,rfl⟩:=h;exact⟨rfl,kE hA h1 h2,bA,rfl,rfl⟩
 |f::t,A,B,A',e,hA,hB,h1,h2,bA,bB,hf,h=>by obtain⟨o,p,r,h⟩:=h;obtain⟨rfl,s,b,n,m⟩:=KJ hA hB h1 h2 bA bB f (hf f aM) r;rw[bM rfl]at h;obtain⟨d,l,c,k,j⟩:=AB t s.loc hB s.ab s.ba b bB (fun g i=>(hf g (by simp[i])).mono (EH.refl _) s.le) h;exact⟨d,s.trans l,c,k.trans n,j.trans m⟩
def WW{A B A':av}(i:gM A)(m:gM B)(c:eH A B)(d:eH B A)(a:Bd A)(k:Bd B)(n:Nat)(b:List Fr)(q:n<B.next)(v:B.next<=dH)(o:∀f∈b,qQ B A f)(h:A.ji n b A' e):e=0/\rH A B A'/\Bd A'/\A'.next=A.next/\A'.bF=A.bF:=by
 unfold av.ji at h;split at h;·obtain⟨rfl,rfl⟩:=h;exact⟨rfl,kE i c d,a,rfl,rfl⟩
 ·have s:=J8 i c d n q (A.bI||fD b);obtain⟨l,u,j,t,r⟩:=AB b s.loc m s.ab s.ba (A:={A with aP:=A.aP.add 8 n n,bI:=A.bI||fD b})
   ⟨a.o,a.i,a.g,a.lm,a.mt,a.wy,a.ls,a.ky,a.wl,a.ll,a.nm,Qg a.cm n aj,a.tk,a.ib⟩ k (fun g p=>(o g p).mono (EH.refl _) s.le) h
  exact⟨l,s.trans u,j,t,r⟩
def Qh{A:av}(h:Bd A)(k:Nat)(b:List UInt8):Bd (A.dD k ((A.out k).send b).1):=by
 refine h.dD _ _ ?_;unfold Ot.send;split;·exact h.o k
 ·split;·exact h.o k
  ·rename_i a;exact⟨by show((A.out k).aB++b).length<=2048;rw[qm0];omega,(h.o k).a,(h.o k).c⟩
def FY{A:av}(h:Bd A)(k:Nat):Bd (A.dD k (A.out k).finish.1):=by
 refine h.dD _ _ ?_;unfold Ot.finish;split;·exact h.o k
 ·exact⟨(h.o k).b,(h.o k).a,(h.o k).c⟩
def WY{A:av}(h:Bd A)(k:Nat)(a:Int):Bd (A.dD k ((A.out k).reset a)):=
 h.dD _ _ ⟨by show((A.out k).aB.take _).length<=2048;rw[qm8];have:=(h.o k).b;omega,(h.o k).a,(h.o k).c⟩
def Qi{A:av}(h:Bd A)(k:Nat)(a:Int):Bd (A.fT k ((A.cK k).rd a).2):=h.fT _ _ (qew (h.i k) a)
def qex(e c g:Nat)(i:64<=e/\e<=400)(j:c<=4096)(d:g<=4096):Bd (av.new e c g):=by
 have h:zK ⟨0,[]⟩:=⟨rfl,trivial,fun r f=>by cases f⟩;refine⟨fun k=>?_,fun k=>?_,⟨d,qlz d gP,qm2 _,qlz d gP⟩,qlz d gP,i,(fun x a=>by cases a),(fun x a=>by cases a),List.Pairwise.nil,qm2 _,qm2 _,qm2 _,⟨trivial,(fun r f=>by cases f),qm2 _,qm2 _⟩,(fun x a=>by cases a),⟨qm2 _,List.nodup_nil,fun x a=>by cases a⟩⟩
 ·show OtB ((eB 8 (Ot.new c)).getD k Aj);by_cases b:k<8;·rw[qly,qpm,bM b];exact⟨qm2 _,h,h⟩
  ·rw[qly,qpm,aV b];exact qh5
 ·show Ey ((eB 8 (eU.new c)).getD k zF);by_cases b:k<8;·rw[qly,qpm,bM b];exact Iu _ j
  ·rw[qly,qpm,aV b];exact Iu 0 gP
end Go.Proofs.YtphbledmopchnaaGreatDoor.Sd
namespace Go.Proofs.YtphbledmopchnaaGreatDoor.Sd
open Go.RowKit Go.Lib Mm Tryz
variable {P:WA}{S bi bl bw e k n q s t u:Nat}{W:Wq}{a:List Fr}{b:Int}{c:List (Nat×List Fr)}{dV:bZ}{f:Fr}{l:bJ}{oZ:Own}
structure PkF (bF:Nat) (x:Nat×List Fr):Prop where
 sn:rG x.1 x.2=true
 sz:(fQ x.1 x.2).length+4<=bF
 ln:x.2.length<=400
 ne:x.2≠[]
 fs:∀f∈x.2,FrG f
def FZ{B:av}{N:Nat}(o:N<dH):∀(n:Nat) {A:av} (aI:bZ) (Q:List Nat) (l:List (Nat×List Fr)),PP B N A aI->Lq Q->(∀x∈l,PkF A.bF x)->(∀x∈(fI n A aI Q l).2,PkF A.bF x)/\(∃e,PP B N (fI n A aI Q l).1 e)/\(fI n A aI Q l).1.bF=A.bF
 |0,A,aI,Q,l,h,_,hl=>⟨hl,⟨aI,h⟩,rfl⟩
 |n+1,A,aI,Q,l,h,hQ,hl=>by
  obtain⟨C,G⟩:=Iw h.bd;have c:(fill A aI Q A.au).1.next=A.next:=uJ _ aI Q [] A.au []
  obtain⟨m,t⟩:=su (Q.length+A.au.toNat+1) aI Q [] A.au [] h.loc h.ab h.ba h.bd h.dn h.l8 h.hi hQ (fun x d=>by simp at d) C;have a:FlB B A aI A.au [] (fill A aI Q A.au) m:=t;clear t;have j:=fun b=>WS (Q:=Q) h o hQ b;unfold fI;generalize fill A aI Q A.au=x at a c j;obtain⟨f,e,r,k⟩:=x;simp only at a c j ⊢;have i:f.bF=A.bF:=a.mt;have D:f.bf=A.bf:=a.wy;have E:e.length<=aI.length:=a.ln;split;·refine⟨hl,⟨e,a.loc,a.ab,a.ba,a.bd,a.dn,bR h.l8,a.hi,?_⟩,i⟩;have:=h.nx;show f.next+mu f e<=N;unfold mu at this ⊢;rw[D,c];omega
  ·rename_i b;obtain⟨s,F,u,v,w,y⟩:=j b;have g:(f.dO k).bF=A.bF:=i;obtain⟨p,z,q⟩:=FZ o n e r (l++[(A.next,k)]) s a.q (fun x d=>by
    rw[g];rcases qm7.1 d with d|d;·exact hl x d
    ·rw[qmi.1 d];exact⟨u,v,w,b,y⟩)
   rw[g]at p q;exact⟨p,z,q⟩
def qh6(M:av)(f:Fr):(M.jq f).next=M.next/\(M.jq f).aP=M.aP/\(M.jq f).bF=M.bF/\(M.jq f).aW=M.aW:=by
 unfold av.jq;repeat' split
 all_goals exact⟨rfl,rfl,rfl,rfl⟩
def WZ:∀(l:List Fr) (M:av),(l.foldl av.jq M).next=M.next/\(l.foldl av.jq M).aP=M.aP/\(l.foldl av.jq M).bF=M.bF/\(l.foldl av.jq M).aW=M.aW
 |[],M=>⟨rfl,rfl,rfl,rfl⟩
 |f::t,M=>by obtain⟨a,b,c,d⟩:=WZ t (M.jq f);obtain⟨e,g,h,i⟩:=qh6 M f;exact⟨a.trans e,b.trans g,c.trans h,d.trans i⟩
def xH{M a:av}(h:M.lS a):a.next=M.next/\a.aP=M.aP/\a.bF=M.bF/\a.aW=M.aW:=by
 unfold av.lS at h;split at h;·obtain⟨b,_,rfl⟩:=h;exact WZ _ _
 ·rw[h];exact⟨rfl,rfl,rfl,rfl⟩
def qey{M:av}(h:Bd M):(lf M).length<=8:=by
 unfold lf;split;·rw[List.length_reverse];exact h.cm.ln
 ·simp
def DF{A B b:av}(k:gM A)(i:eH A B)(j:eH B A)(g:Bd A)(h:A.lS b):PP B (A.next+24) {b with bI:=false} (lf b)/\mu {b with bI:=false} (lf b)<(lf b).length+14/\(lf b).length<=8:=by
 have d:=FX k i j h;have a:=KI g h;have e:=CK d.loc d.ab d.ba false;obtain⟨l,m,n,_⟩:=xH h;have f:=qey a;refine⟨⟨e.loc,e.ab,e.ba,⟨a.o,a.i,a.g,a.lm,a.mt,a.wy,a.ls,a.ky,a.wl,a.ll,a.nm,a.cm,a.tk,a.ib⟩,?_,f,fun r c=>?_,?_⟩,?_,f⟩
 ·unfold lf;split;·exact Dn.rev a.cm.so a.cm.hi
  ·trivial
 ·unfold lf at c;split at c;·exact d.ba.aP r (qqq.1 c)
  ·simp at c
 ·show b.next+mu _ _<=_;unfold mu;rw[l];omega
 ·unfold mu;omega
def av.kQ(M M':av)(b:List (Nat×List Fr)):Prop:=∃a,M.lS a/\fI ((lf a).length+14) {a with bI:=false} (lf a) q0 []=(M',b)
structure PkO (A B A':av) (pk:List (Nat×List Fr)):Prop where
 stp:rH A B A'
 bd:Bd A'
 mt:A'.bF=A.bF
 next:A'.next=A.next+pk.length
 top:A'.next<=A.next+24
 nm:∀j,j<pk.length->(pk.getD j (0,[])).1=A.next+j
 ok:∀x∈pk,PkF A.bF x/\x.1<A'.next/\∀f∈x.2,qQ A' B f
def KL:∀(m:List (List Fr)) (n:Nat),(nums n m).length=m.length
 |[],_=>rfl
 |_::t,n=>by simp[nums,KL t (n+1)]
def KM:∀(m:List (List Fr)) (n j:Nat),j<m.length->(nums n m).getD j (0,[])=(n+j,m.getD j [])
 |[],_,j,h=>by simp at h
 |_::t,n,0,_=>rfl
 |_::t,n,j+1,h=>by have:=KM t (n+1) j (by simpa using h);simp only[nums,qo3];rw[this];congr 1;omega
def DI:∀(m:List (List Fr)) (n:Nat) (x:Nat×List Fr),x∈nums n m->x.2∈m/\x.1<n+m.length
 |[],_,_,h=>by simp[nums]at h
 |a::t,n,x,h=>by
  rcases qme.1 h with h|h;·rw[h];simp
  ·obtain⟨p,q⟩:=DI t (n+1) x h;exact⟨by simp[p],rR⟩
def DJ:∀(n:Nat) (A:av) (a:bZ) (Q:List Nat) (l:List (Nat×List Fr)),∃m,(fI n A a Q l).2=l++nums A.next m/\(fI n A a Q l).1.next=A.next+m.length
 |0,A,a,Q,l=>⟨[],by simp[fI,nums],rfl⟩
 |n+1,A,a,Q,l=>by
  have b:(fill A a Q A.au).1.next=A.next:=uJ _ a Q [] A.au []
  unfold fI;split;·exact⟨[],by simp[nums],b⟩
  ·obtain⟨m,e,c⟩:=DJ n ((fill A a Q A.au).1.dO (fill A a Q A.au).2.2.2) (fill A a Q A.au).2.1 (fill A a Q A.au).2.2.1 (l++[(A.next,(fill A a Q A.au).2.2.2)]);have d:((fill A a Q A.au).1.dO (fill A a Q A.au).2.2.2).next=A.next+1:=by show(fill A a Q A.au).1.next+1=_;rw[b]
   rw[d]at e c;exact⟨(fill A a Q A.au).2.2.2::m,by rw[e];simp[nums],by rw[c,qmp];omega⟩
structure PkW (A A':av) (pk:List (Nat×List Fr)):Prop where
 bd:Bd A'
 mt:A'.bF=A.bF
 next:A'.next=A.next+pk.length
 top:A'.next<=A.next+24
 nm:∀j,j<pk.length->(pk.getD j (0,[])).1=A.next+j
 ok:∀x∈pk,PkF A.bF x/\x.1<A'.next
def DK{A B A':av}{f:List (Nat×List Fr)}(s:gM A)(o:eH A B)(r:eH B A)(l:Bd A)(u:A.next+24<dH)(h:A.kQ A' f):PkW A A' f:=by
 obtain⟨a,g,e⟩:=h;obtain⟨v,t,w⟩:=DF s o r l g;obtain⟨i,z,k,_⟩:=xH g;obtain⟨m,b,d⟩:=DJ ((lf a).length+14) {a with bI:=false} (lf a) q0 [];obtain⟨f1,⟨n,f2⟩,f3⟩:=FZ u ((lf a).length+14) (lf a) q0 [] v lq0 (fun x c=>by simp at c);rw[e]at b d f1 f2 f3;replace b:f=nums a.next m:=by simpa using b
 replace d:A'.next=a.next+m.length:=d;have ek:f.length=m.length:=by rw[b,KL]
 refine⟨f2.bd,f3.trans k,by rw[d,i,ek],by have:A'.next+mu A' n<=A.next+24:=f2.nx;omega,fun j y=>?_,fun x c=>?_⟩;·rw[b,KM m _ j aj,i]
 ·rw[b]at c;obtain⟨p,q⟩:=DI m _ x c;exact⟨by have:=f1 x (by rw[b];exact c);rw[<-k];exact this,by rw[d];exact q⟩
def PkO.w{A B A':av}{b:List (Nat×List Fr)}(o:PkO A B A' b):PkW A A' b:=⟨o.bd,o.mt,o.next,o.top,o.nm,fun x a=>⟨(o.ok x a).1,(o.ok x a).2.1⟩⟩
def W_{A B A':av}{j:List (Nat×List Fr)}(i:gM A)(d:eH A B)(g:eH B A)(l:Bd A)(t:A.next+24<dH)(h:A.kQ A' j):PkO A B A' j:=by
 have W:=DK i d g l t h;obtain⟨c,n,e⟩:=h;obtain⟨k,s,u⟩:=DF i d g l n;have b:=FX i d g n;have p:=CK b.loc b.ab b.ba false;obtain⟨m,o⟩:=FH ((lf c).length+14) (lf c) q0 [] p.loc k.ab k.ba lq0 k.hi;rw[e]at o;have q:j=nums c.next m:=by have:=o.eq;simpa using this
 refine⟨b.trans (p.trans o.stp),W.bd,W.mt,W.next,W.top,W.nm,fun x a=>⟨(W.ok x a).1,(W.ok x a).2,fun f r=>o.ok _ ?_ f r⟩⟩;rw[q]at a;exact(DI m _ x a).1
def SmO(o o':Ot):Prop:=o'.all=o.all/\o'.aB=o.aB/\o'.bG=o.bG/\o'.nt.bN=o.nt.bN
structure Sm (A A':av):Prop where
 o:∀k,SmO (A.out k) (A'.out k)
 i:∀k,(A'.cK k).aY=(A.cK k).aY/\(A'.cK k).state=(A.cK k).state
def z_(o:Ot):SmO o o:=⟨rfl,rfl,rfl,rfl⟩
def Sm.refl(A:av):Sm A A:=⟨fun _=>z_ _,fun _=>⟨rfl,rfl⟩⟩
def Sm.trans{A B C:av}(h:Sm A B)(g:Sm B C):Sm A C:=
 ⟨fun k=>⟨(g.o k).1.trans (h.o k).1,(g.o k).2.1.trans (h.o k).2.1,(g.o k).2.2.1.trans (h.o k).2.2.1,(g.o k).2.2.2.trans (h.o k).2.2.2⟩,fun k=>⟨(g.i k).1.trans (h.i k).1,(g.i k).2.trans (h.i k).2⟩⟩
def oU(A:av)(k:Nat)(o:Ot)(a:SmO (A.out k) o):Sm A (A.dD k o):=
 ⟨fun j=>by
  rw[kD];split;·rename_i h;rw[h.1];exact a
  ·exact z_ _,fun _=>⟨rfl,rfl⟩⟩
def yX(A:av)(k:Nat)(i:eU)(a:i.aY=(A.cK k).aY)(b:i.state=(A.cK k).state):Sm A (A.fT k i):=
 ⟨fun _=>z_ _,fun j=>by
  rw[jT];split;·rename_i h;rw[h.1];exact⟨a,b⟩
  ·exact⟨rfl,rfl⟩⟩
def Xa(A:av)(f:Fr):Sm A (A.jq f):=by
 unfold av.jq;split;·exact oU _ _ _ (z_ _)
 ·split;·exact oU _ _ _ (z_ _)
  ·split;·exact yX _ _ _ rfl rfl
   ·exact⟨fun _=>z_ _,fun _=>⟨rfl,rfl⟩⟩
def Xb(A:av)(f:Fr):Sm A (A.gN f):=by
 unfold av.gN;split;·exact oU _ _ _ (z_ _)
 ·split;·exact oU _ _ _ (z_ _)
  ·split;·exact yX _ _ _ rfl rfl
   ·exact⟨fun _=>z_ _,fun _=>⟨rfl,rfl⟩⟩
def Iy(g:av->Fr->av)(a:∀A f,Sm A (g A f)):∀(l:List Fr) (A:av),Sm A (l.foldl g A)
 |[],A=>Sm.refl A
 |f::t,A=>(a A f).trans (Iy g a t (g A f))
def Xc{A A':av}(h:A.lS A'):Sm A A':=by
 unfold av.lS at h;split at h
 ·obtain⟨b,_,rfl⟩:=h;refine Sm.trans ?_ (Iy _ Xa _ _);refine⟨fun k=>?_,fun k=>?_⟩
  ·show SmO (A.outs.getD k Aj) ((A.outs.map kC).getD k Aj);by_cases a:k<A.outs.length;·rw[getD_map kC Aj _ _ a];exact z_ _
   ·rw[oP Aj (A.outs.map kC) _ (by simpa using a),oP Aj _ _ aj];exact z_ _
  ·show((A.ins.map jC).getD k zF).aY=(A.ins.getD k zF).aY/\((A.ins.map jC).getD k zF).state=(A.ins.getD k zF).state;by_cases a:k<A.ins.length;·rw[getD_map jC zF _ _ a];exact⟨rfl,rfl⟩
   ·rw[oP zF _ _ (by simpa using a),oP zF _ _ aj];exact⟨rfl,rfl⟩
 ·rw[h];exact Sm.refl A
def Xd{A A':av}{l:bZ}(h:A.tN l A'):Sm A A':=by obtain⟨a,b,_,_,rfl⟩:=h;exact Sm.trans (B:=A.Qc l) ⟨fun _=>z_ _,fun _=>⟨rfl,rfl⟩⟩ (Iy _ Xb _ _)
def Qj(i:eU)(f:Fr):(i.take f).aY=i.aY/\(i.take f).state=i.state:=⟨CO _ _ _ eU.aY _ rfl rfl,CO _ _ _ eU.state _ rfl rfl⟩
def qac(A:av)(f:Fr)(a:f.aD≠2):Sm A (A.take f).1:=by
 unfold av.take;rw[aV a];split
 ·split;·exact Sm.refl A
  ·split;·exact Sm.refl A
   ·exact yX _ _ _ (Qj _ f).1 (Qj _ f).2
 ·split
  ·split;·exact Sm.refl A
   ·exact yX _ _ _ rfl rfl
  split;·exact Sm.refl A
  ·split
   ·unfold av.nE;split;·exact Sm.refl A
    ·exact⟨fun _=>z_ _,fun _=>⟨rfl,rfl⟩⟩
   ·split;·exact⟨fun _=>z_ _,fun _=>⟨rfl,rfl⟩⟩
    ·split;·exact oU _ _ _ (z_ _)
     ·exact Sm.refl A
def Xe{A A':av}(h:A.fU f A' e):Sm A A':=by
 unfold av.fU at h;split at h
 ·split at h;·rw[h.1];exact Sm.refl A
  ·exact Xd h.1
 ·rename_i b;split at h
  ·obtain⟨v,rfl,_⟩:=h;unfold av.nE;split;·exact⟨fun _=>z_ _,fun _=>⟨rfl,rfl⟩⟩
   ·exact⟨fun _=>z_ _,fun _=>⟨rfl,rfl⟩⟩
  ·have a:A'=(A.take f).1:=congrArg Prod.fst h;rw[a];exact qac A f b
def AJ:∀(a:List Fr) {A A':av} {e:Nat},mH A a A' e->Sm A A'
 |[],A,A',e,h=>by obtain⟨rfl,_⟩:=h;exact Sm.refl _
 |f::t,A,A',e,h=>by
  obtain⟨b,c,r,h⟩:=h;have s:=Xe r;split at h;·exact s.trans (AJ t h)
  ·rw[h.1];exact⟨s.o,s.i⟩
def DL{A A':av}(h:A.ji n a A' e):Sm A A':=by
 unfold av.ji at h;split at h;·rw[h.1];exact Sm.refl A
 ·have s:=AJ a h;exact⟨s.o,s.i⟩
def qad{o o':Ot}{a:Nat}(h:o.next k b a=some (f,o')):SmO o o':=by obtain⟨e,_⟩:=zZ h;rw[e];exact z_ _
def Ta{n:Nt}{r:Nat}{a:Int}{y:Fr×Nt}(h:n.next k r a=some y):y.2.bN=n.bN:=by
 unfold Nt.next at h;split at h;·cases h
 ·rw[<-qmn h];rfl
def Xf{A A':av}{c:bZ}{d:Int}(h:A.frame c u d=some (f,A',dV)):Sm A A':=by
 unfold av.frame at h;split at h
 ·split at h;·cases h
  ·have e:=qmn h;have a:A=A':=congrArg (fun x=>x.2.1) e;rw[<-a];exact Sm.refl A
 ·split at h;·obtain⟨y,_,e⟩:=qmj.1 h;have a:({A with gr:=y.2}:av)=A':=congrArg (fun x=>x.2.1) e;rw[<-a];exact⟨fun _=>z_ _,fun _=>⟨rfl,rfl⟩⟩
  ·split at h;·obtain⟨y,_,e⟩:=qmj.1 h;have a:=congrArg (fun x=>x.2.1) e;simp only at a;rw[<-a];exact yX _ _ _ rfl rfl
   ·split at h;·obtain⟨y,b,e⟩:=qmj.1 h;have a:=congrArg (fun x=>x.2.1) e;simp only at a;rw[<-a];exact oU _ _ _ ⟨rfl,rfl,rfl,Ta b⟩
    ·split at h
     ·split at h;·cases h
      ·obtain⟨y,_,e⟩:=qmj.1 h;have a:=congrArg (fun x=>x.2.1) e;simp only at a;rw[<-a];exact⟨fun _=>z_ _,fun _=>⟨rfl,rfl⟩⟩
     ·obtain⟨y,b,e⟩:=qmj.1 h;have a:=congrArg (fun x=>x.2.1) e;simp only at a;rw[<-a];exact oU _ _ _ (qad (f:=y.1) (o':=y.2) b)
def vK:∀(n:Nat) (A:av) (b:bZ) (Q a:List Nat) (c:Int) (l:List Fr),Sm A (dU n A b Q a c l).1
 |0,A,_,_,_,_,_=>Sm.refl A
 |n+1,A,_,[],_,_,_=>Sm.refl A
 |n+1,A,b,u::Q,a,c,l=>by
  unfold dU;by_cases d:A.bD b u=true
  ·simp only[d,if_true];cases hF:A.frame b u c with
   |none=>
    simp only;split;·exact vK n _ _ _ _ _ _
    ·exact Sm.refl A
   |some x=>obtain⟨f,e,g⟩:=x;exact(Xf hF).trans (vK n _ _ _ _ _ _)
  ·simp only[d];exact vK n _ _ _ _ _ _
def F9:∀(n:Nat) (A:av) (a:bZ) (Q:List Nat) (l:List (Nat×List Fr)),Sm A (fI n A a Q l).1
 |0,A,_,_,_=>Sm.refl A
 |n+1,A,a,Q,l=>by
  have s:Sm A (fill A a Q A.au).1:=vK _ _ _ _ _ _ _;unfold fI;split;·exact s
  ·have:=F9 n ((fill A a Q A.au).1.dO (fill A a Q A.au).2.2.2) (fill A a Q A.au).2.1 (fill A a Q A.au).2.2.1 (l++[(A.next,(fill A a Q A.au).2.2.2)]);exact s.trans ⟨this.o,this.i⟩
def KN{A A':av}(h:A.kQ A' c):Sm A A':=by obtain⟨a,b,e⟩:=h;have s:=F9 ((lf a).length+14) {a with bI:=false} (lf a) q0 [];rw[e]at s;exact(Xc b).trans ⟨s.o,s.i⟩
def qQ.kd{A B:av}{f:Fr}(h:qQ A B f):f.aD=2\/f.aD=4\/f.aD=5\/f.aD=6\/f.aD=3\/f.aD=7:=by
 rcases h with h|h|h|h|h|h;·exact .inl h.1
 ·exact .inr (.inl h.1)
 ·exact .inr (.inr (.inl h.1))
 ·exact .inr (.inr (.inr (.inl h.1)))
 ·exact .inr (.inr (.inr (.inr (.inl h.1))))
 ·exact .inr (.inr (.inr (.inr (.inr h.kd))))
def Xg(M:av)(f:Fr):(M.gN f).aW=M.aW:=by
 unfold av.gN;repeat' split
 all_goals rfl
def Ql(g:av->Fr->av)(a:∀A f,(g A f).aW=A.aW):∀(l:List Fr) (A:av),(l.foldl g A).aW=A.aW
 |[],_=>rfl
 |f::t,A=>(Ql g a t (g A f)).trans (a A f)
def Xh{A A':av}{l:bZ}(h:A.tN l A'):A'.aW=A.aW:=by obtain⟨a,b,_,_,rfl⟩:=h;exact Ql _ Xg _ _
def qae(A:av)(f:Fr)(a:f.aD≠2):(A.take f).1.aW=A.aW:=by
 unfold av.take av.nE;rw[aV a];repeat' split
 all_goals rfl
def KO{A A':av}(h:A.fU f A' e):A'.aW=A.aW:=by
 unfold av.fU at h;split at h
 ·split at h;·rw[h.1]
  ·exact Xh h.1
 ·rename_i b;split at h;·obtain⟨v,rfl,_⟩:=h;unfold av.nE;split<;>rfl
  ·have a:A'=(A.take f).1:=congrArg Prod.fst h;rw[a];exact qae A f b
def AL:∀(a:List Fr) {A A':av} {e:Nat},mH A a A' e->A'.aW=A.aW
 |[],A,A',e,h=>by obtain⟨rfl,_⟩:=h;rfl
 |f::t,A,A',e,h=>by
  obtain⟨b,c,r,h⟩:=h;have s:=KO r;split at h;·exact(AL t h).trans s
  ·rw[h.1];exact s
def Xi{A A':av}(h:A.ji n a A' e):A'.aW=A.aW:=by
 unfold av.ji at h;split at h;·rw[h.1]
 ·have s:=AL a h;exact s
def Xj{A A':av}{a:bZ}(h:A.frame a u b=some (f,A',dV)):A'.aW=A.aW:=by
 unfold av.frame at h;split at h
 ·split at h;·cases h
  ·have c:A=A':=congrArg (fun x=>x.2.1) (qmn h);rw[<-c]
 ·split at h;·obtain⟨y,_,e⟩:=qmj.1 h;rw[<-show _=A' from congrArg (fun x=>x.2.1) e]
  ·split at h;·obtain⟨y,_,e⟩:=qmj.1 h;rw[<-show _=A' from congrArg (fun x=>x.2.1) e];rfl
   ·split at h;·obtain⟨y,_,e⟩:=qmj.1 h;rw[<-show _=A' from congrArg (fun x=>x.2.1) e];rfl
    ·split at h
     ·split at h;·cases h
      ·obtain⟨y,_,e⟩:=qmj.1 h;rw[<-show _=A' from congrArg (fun x=>x.2.1) e]
     ·obtain⟨y,d,e⟩:=qmj.1 h;rw[<-show _=A' from congrArg (fun x=>x.2.1) e];rfl
def vL:∀(n:Nat) (A:av) (b:bZ) (Q a:List Nat) (c:Int) (l:List Fr),(dU n A b Q a c l).1.aW=A.aW
 |0,_,_,_,_,_,_=>rfl
 |n+1,_,_,[],_,_,_=>rfl
 |n+1,A,b,u::Q,a,c,l=>by
  unfold dU;by_cases d:A.bD b u=true
  ·simp only[d,if_true];cases hF:A.frame b u c with
   |none=>
    simp only;split;·exact vL n _ _ _ _ _ _
    ·rfl
   |some x=>obtain⟨f,e,g⟩:=x;exact(vL n _ _ _ _ _ _).trans (Xj hF)
  ·simp only[d];exact vL n _ _ _ _ _ _
def Ga:∀(n:Nat) (A:av) (a:bZ) (Q:List Nat) (l:List (Nat×List Fr)),(fI n A a Q l).1.aW=A.aW
 |0,_,_,_,_=>rfl
 |n+1,A,a,Q,l=>by
  have s:(fill A a Q A.au).1.aW=A.aW:=vL _ _ _ _ _ _ _;unfold fI;split;·exact s
  ·exact(Ga n _ _ _ _).trans s
def yY{A A':av}(h:A.kQ A' c):A'.aW=A.aW:=by obtain⟨a,b,e⟩:=h;have s:=Ga ((lf a).length+14) {a with bI:=false} (lf a) q0 [];rw[e]at s;exact s.trans (xH b).2.2.2
def kZ{w:Wq}(h:Below n w W):Below n w (W.drewN q):=⟨h.os,h.tape,h.output,h.size,h.block⟩
def nN{w:Wq}(h:Below (W.drewN q).heap.size (W.drewN q) w):bE W w:=⟨h.os,h.tape,h.output,h.size,h.block⟩
def KU{M:av}{vc:WA}(f:Fr)(u:Option V3)(v x:Nat)(k:Nat)(hk:k<8)(hj:f.aG=(k:Int))(Z:f.aD=4){w:Wq}(h:fH oZ s w S l M bw bl bi vc)(ok:Mr (M.cK k))(hb:∀k,(M.cK k).fF<=1000000)(he:bL f<=100000):qH 234 #[aJ S 0,eF f (.slice u v x)] w (iZ ((M.take f).2:Int)) fun n=>iE s oZ w S bw bl bi (M.take f).1 n:=by
 have ho:f.aC<=dH:=by unfold bL at he;unfold dH;omega
 have hd:f.data.size<=1000000000:=by unfold bL at he;omega
 have G:f.aG.toNat=k:=aj;have p:4+k*27+14=18+27*k:=aj;obtain⟨W,r⟩:=bT (w.alloc (.cells (fJ f (.slice u v x)).toArray 65));have B:aL W w.heap.size 65 (fJ f (.slice u v x)):=by rw[r];exact aL.new w 65 _
 have m:bE w W:=by rw[r];exact(qlw _ w).alloc (qj _) _
 have gT:W.heap.size=w.heap.size+1:=by rw[r];simp
 have Ku:=h.bY.lt;have hT:M.take f=(if(M.cK k).refuse f≠0 then(M,(M.cK k).refuse f)else if M.gr.dX<M.uH k (bL f)then(M,9)else(M.fT k ((M.cK k).take f),0)):=by unfold av.take;rw[aV (by rw[Z];decide),bM Z,G]
 have D:Hid (∀q,qH 295 #[(aJ S (4+k*27+14)),eF f (.slice u v x)] (W.drewN q) (iZ ((M.cK k).refuse f:Int)) fun n=>bE W n):=fun q=>by have j:=h.below (kZ (q:=q) m);obtain⟨vh,jR,hL,_,_⟩:=j.cK k hk;rw[p];exact(Rs (18+27*k) (M.cK k) f (.slice u v x) (W.drewN q) j.bY hL ho hd).mono fun e n F=>⟨F.1,nN F.2⟩
 have HH:Hid (∀g q,bE W g->qH 297 #[aJ S 0,eF f (.slice u v x)] (g.drewN q) (uZ (M.uH k (bL f):Int)) fun n=>bE W n):=fun g q t=>by have j:=h.below (kZ (q:=q) (m.trans (t.mono aj)));exact(VO f u v x k hj (g.drewN q) j hb aj).mono fun e n F=>⟨F.1,t.trans ((nN F.2).mono t.size)⟩
 have I:Hid (∀g,bE W g->qH 296 #[aJ S 221,(uZ (M.uH k (bL f):Int))] g (.bool (decide (M.uH k (bL f)<=M.gr.dX))) fun n=>n=g):=fun g t=>by have j:=h.below (m.trans (t.mono aj));exact Fj (M.uH k (bL f)) j.bY j.cells.gr
 have HK:Hid (∀g,bE W g->qH 298 #[(aJ S (4+k*27+14)),eF f (.slice u v x)] g (.tuple #[]) fun n=>iE s oZ w S bw bl bi (M.fT k ((M.cK k).take f)) n):=fun g t=>by have c:=m.trans (t.mono aj);have j:=h.below c;rw[p];refine bH (ZU s (s+4+5*k) (18+27*k) (M.cK k) f (.slice u v x) j.bY j.ow j.s0 aj (j.cK k hk) ok ho hd (by unfold dH;omega) aj) ?_;rintro n q;obtain⟨o',l',v',a,b⟩:=j.fT k hk _ q;exact⟨rfl,o',l',v',a,(Kp.below c).trans b⟩
 have HQ:Hid (∀g,bE W g->iE s oZ w S bw bl bi M g):=fun g t=>iE.refl h (m.trans (t.mono aj));have E:=aF B;have xK:(k:Int)<8:=aj;obtain⟨x0,x1,x2,x3,x4,x5,x6,x7,x8,x9,xf⟩:=bC B;rw[hT];clear hT m h ok hb he ho hd B G p Z;generalize (M.cK k).refuse f=R at *
 generalize M.uH k (bL f)=H at *
 unfold eF at *
 unfold fJ at r E;generalize f.aG=st at *
 subst hj;by_cases A:R≠0;·rw[bM A];have zo:¬(R:Int)=0:=aj;go_enter func234,ntmps234;go_wp2;rw[<-r];clear r;go_quiet (fail);go_wp2_with (go_at_call 295;refine bH (D.out _) ?_;rintro g c;have d:=E.out.of_heap (c.block _ aj);obtain⟨J,K,L,N,O,P,Q,T,U,V,X⟩:=bC d;have o:=aF c;clear d c x0 x1 x2 x3 x4 x5 x6 x7 x8 x9 xf D);go_ret;exact⟨rfl,HQ.out _ o.out⟩
 ·rw[aV A];obtain rfl:R=0:=aj;clear A;by_cases hH:M.gr.dX<H;·rw[bM hH];have z:decide (H<=M.gr.dX)=false:=decide_eq_false aj;rw[z]at I;go_enter func234,ntmps234;go_wp2;rw[<-r];clear r;go_quiet (fail);go_wp2_with (go_at_call 295;refine bH (D.out _) ?_;rintro g c;have d:=E.out.of_heap (c.block _ aj);obtain⟨J,K,L,N,O,P,Q,T,U,V,X⟩:=bC d;have o:=aF c;clear d c x0 x1 x2 x3 x4 x5 x6 x7 x8 x9 xf D);go_region_with (first|(go_at_call 297;refine bH (HH.out g _ o.out) ?_;rintro w2 i)|(go_at_call 296;refine bH (I.out w2 i) ?_;rintro w3 C;have Y:=C.symm;subst Y;have d:=E.out.of_heap (i.block _ aj);obtain⟨z0,z1,z2,z3,z4,z5,z6,z7,z8,z9,zf⟩:=bC d;have y:=aF i;clear d i J K L N O P Q T U V X));all_goals(go_wp2;go_ret;exact⟨rfl,HQ.out _ y.out⟩)
  ·rw[aV hH];have z:decide (H<=M.gr.dX)=true:=decide_eq_true aj;rw[z]at I;go_enter func234,ntmps234;go_wp2;rw[<-r];clear r;go_quiet (fail);go_wp2_with (go_at_call 295;refine bH (D.out _) ?_;rintro g c;have d:=E.out.of_heap (c.block _ aj);obtain⟨J,K,L,N,O,P,Q,T,U,V,X⟩:=bC d;have o:=aF c;clear d c x0 x1 x2 x3 x4 x5 x6 x7 x8 x9 xf D);go_region_with (first|(go_at_call 297;refine bH (HH.out g _ o.out) ?_;rintro w2 i)|(go_at_call 296;refine bH (I.out w2 i) ?_;rintro w3 C;have Y:=C.symm;subst Y;have d:=E.out.of_heap (i.block _ aj);obtain⟨z0,z1,z2,z3,z4,z5,z6,z7,z8,z9,zf⟩:=bC d;have y:=aF i;clear d i J K L N O P Q T U V X));all_goals(
    go_wp2_with (go_at_call 298;refine bH (HK.out _ y.out) ?_;rintro w4 HE);go_ret;exact⟨rfl,HE⟩)
def KV(l:bJ)(j:Nat)(v:WA)(h:l[j]?=some v):l.set j v=l:=by
 refine qon fun i=>?_;by_cases e:j=i;·subst e;rw[cB l j v v h,h]
 ·rw[aA l j i v e]
def Oo(g:Nat)(p k:Array WA)(w:Wq)(e:∀args w,(callFunc g args).run prog w=.ok (.enter g args) w):qH 151 #[nZ,.func (.func g) p k] w nZ fun f=>bE w f:=by have c:=aF (CG g p k (fun _=>false) none [] 0 w e gP (fun j b=>absurd b (qmy _)) (fun j b=>absurd b (qmy _)));have d:zN (fun _=>false) []= -1:=rfl;rw[d]at c;go_enter func151,ntmps151;go_wp2_with (go_at_call 190;refine bH c.out ?_;rintro i a);go_ret;exact⟨rfl,a⟩
def IG{M:av}{A:WA}(p:Nat){w:Wq}(h:fH oZ s w S l M bw bl bi A)(f:M.qv=nZ):qH 113 #[aJ S 233,uZ p] w (.tuple #[]) fun B=>iE s oZ w S bw bl bi M B:=by
 have v:∀(k:Fn) (first cap:Array WA) (w:Wq),(Instr.makeFunc k first cap).run prog w=.ok (.func k first cap) w:=fun _ _ _ _=>rfl;obtain⟨W,o⟩:=bT (w.alloc (.cells #[uZ p] 43));have d:bE w W:=by rw[o];exact(qlw _ w).alloc (qj _) _
 have n:=h.below d;have g:l[233]?=some nZ:=by rw[h.cells.jd,f]
 have C:w.cell? (ay S 233)=some nZ:=by rw[h.bY.cell];exact g
 have u:=h.bY.lt;have r:=aF (Oo 152 #[] #[aJ w.heap.size 0] W (enters_of func152 bO rfl));have t:Hid (∀e,bE W e->e.frozen? (ay S 233)=false/\e.cell? (ay S 233)=some nZ/\iE s oZ w S bw bl bi M (e.setCell (ay S 233) nZ)):=fun e m=>by have c:=n.below m;refine⟨c.bY.frozen 233,by rw[c.bY.cell];exact g,?_⟩;have q:=f_.one c.bY 233 nZ 233 1 (qj _) aj;rw[KV l 233 _ g]at q;obtain⟨y,x,z,a,b⟩:=c.cell 233 1 aj q c.cells rfl rfl rfl rfl rfl rfl rfl;exact⟨y,x,z,a,(Kp.below (d.trans (m.mono d.size))).trans b⟩
 clear n d h f g;go_enter func113,ntmps113;go_wp2_with (go_at_call 151;rw[<-o];refine bH r.out ?_;rintro e j;obtain⟨f1,f2,i⟩:=t.out e j;have i:=aF i);go_end0;exact⟨rfl,i.out⟩
def qjn(f:Fr)(e:WA)(a box:Nat)(w:Wq)(d:w.cell? (ay box 0)=some (uZ a)):qH 152 #[eF f e,aJ box 0] w (.bool (decide (f.aH<a))) fun g=>bE w g:=by have b:box<w.heap.size:=qmf w (ay box 0) (by rw[d]);have c:box≠w.heap.size:=aj;unfold eF;go_enter func152,ntmps152;go_wp2;go_ret;exact⟨aM,(qlw _ w).alloc (qj _) _⟩
def II:∀l:List Fr,rz (l.map fun f=>(f,none,0,0))=kY l
 |[]=>rfl
 |f::t=>by show fJ f nZ++rz (t.map fun f=>(f,none,0,0))=fJ f nZ++kY t;rw[II t]
def KW:∀l:List Fr,(kY l).length=l.length*10
 |[]=>rfl
 |f::t=>by show(fJ f nZ++kY t).length=_;rw[qm0,KW t,show(fJ f nZ).length=10 from rfl,qmp];omega
def Aa(M:av)(k:Nat)(w:Wq)(h:fH oZ s w S l M bw bl bi P)(wE:M.aK.length<=16):qH 113 #[aJ S 233,uZ k] w (.tuple #[]) fun Q=>∃v,iE s oZ w S bw bl bi {M with aK:=M.aK.filter fun f=> !decide (f.aH<k),qv:=v} Q:=by
 rcases h.qu.q with⟨H,G,_⟩|⟨g,c,cs,hv,og,hBg,hc0,hc1,hc2,hc3,ht,hon⟩;·refine bH (IG k h H) ?_;rintro Q p;refine⟨rfl,M.qv,?_⟩;rw[show({M with aK:=M.aK.filter fun f=> !decide (f.aH<k),qv:=M.qv}:av)=M by rw[qn9.1 G];cases M;simp_all];exact p
 obtain⟨d,m⟩:=bT (M.aK.filter fun f=> !decide (f.aH<k));have V:d.length<=M.aK.length:=by rw[m];exact qo1 _ _
 rw[<-m];have h3:∀(L:Fn) (first cap:Array WA) (w:Wq),(Instr.makeFunc L first cap).run prog w=.ok (.func L first cap) w:=fun _ _ _ _=>rfl;obtain⟨W,D⟩:=bT (w.alloc (.cells #[uZ k] 43));have n:bE w W:=by rw[D];exact(qlw _ w).alloc (qj _) _
 have q:aL W w.heap.size 43 [uZ k]:=by rw[D];exact aL.new w 43 _
 have p:=h.below n;have h0:=hBg.lt;have h2:=h.bY.lt;have A:l[233]?=some M.qv:=h.cells.jd;have c0:w.cell? (ay S 233)=some (dh g M.aK.length c):=by rw[h.bY.cell,A,hv]
 have F:S≠g:=fun e=>by rw[<-e,h.ow]at og;omega
 have u:(M.aK.map fun f=>((f,none,0,0):FV)).length=M.aK.length:=qmc _;have y:(M.aK.map fun f=>((f,none,0,0):FV)).filter (fun x=> !(fun x:FV=>decide (x.1.aH<k)) x)=d.map fun f=>((f,none,0,0):FV):=by rw[m,qoe];rfl
 have t:(d.map fun f=>((f,none,0,0):FV)).length=d.length:=qmc _;have C:=wu 152 #[] #[aJ w.heap.size 0] (fun x=>decide (x.1.aH<k)) M.aK.length c (M.aK.map fun f=>((f,none,0,0):FV)) (enters_of func152 bO rfl) u aj hc1 (eY n hBg) aj (by rw[II];exact ht) hon (fun j _ J Z=>by have Y:J.cell? (ay w.heap.size 0)=some (uZ k):=cell_of (q.cell 0) (Z.block _ q.lt (fun e=>by simp at e;omega));exact qjn _ _ k w.heap.size J Y);rw[y,t,II]at C;have R:=aF C;have T:Hid (∀i,(∃a,aL i g 65 a/\a.length=cs.length/\a.take (d.length*10)=kY d/\(∀v∈a,v.oneCell'=true)/\W.grownBy i (some g))->i.frozen? (ay S 233)=false/\i.cell? (ay S 233)=some (dh g M.aK.length c)/\∃v,iE s oZ w S bw bl bi {M with aK:=d,qv:=v} (i.setCell (ay S 233) (dh g d.length c))):=fun i ⟨a,q1,q2,q3,q4,r⟩=>by have o:aL i S TS l:=p.bY.of_heap (r.block S p.bY.lt (fun e=>F (by simpa using e)));have U:Kp [s+53] oZ oZ W i:=⟨r.os,r.tape,r.output,r.size,fun b X N=>r.block b X (fun e=>by simp at e;rw[e,og]at N;simp at N),fun _ _=>rfl⟩;have I:Kp [s] oZ oZ i (i.setCell (ay S 233) (dh g d.length c)):=Kp.set oZ i _ _ _ (by show oZ S∈_;rw[h.ow];simp);have K:Kp [s,s+53] oZ oZ W (i.setCell (ay S 233) (dh g d.length c)):=(U.mono aM).trans (I.mono aM);refine⟨o.frozen 233,by rw[o.cell,A,hv],dh g d.length c,oZ,l.set 233 (dh g d.length c),P,?_,(Kp.below n).trans (K.mono fun x z=>fC.2 (by simp at z;omega))⟩;have E:=o.setCell 233 (dh g d.length c);exact p.que K (kR.set l 233 _ 233 2 aj aj) (dh g d.length c) d M.least E (cB _ _ _ _ A) (by rw[aA _ _ _ _ aj];exact p.cells.qA) (.inr ⟨g,c,a,rfl,og,bU q1 I (by rw[og];simp),aj,aj,hc2,KW d,q3,q4⟩)
 clear C y p n h wE hBg q hc0 hc1 hc2 hc3 ht hon A hv m t u;go_enter func113,ntmps113;go_wp2_with (go_at_call 151;rw[<-D];refine R.out.mono ?_;rintro e i ⟨a,rfl,z⟩;obtain⟨f1,f2,B⟩:=T.out i ⟨a,z⟩;have B:=aF B;clear z);go_end0;exact⟨rfl,B.out⟩
def qat(S:Nat){M:av}{C:WA}{w:Wq}(h:fH oZ s w S l M bw bl bi C)(y:M.aW+1<18446744073709551616)(n:M.aK.length<=16):qH 66 #[aJ S 0] w (.tuple #[]) fun d=>∃v,iE s oZ w S bw bl bi {M.Ph with qv:=v} d:=by
 have D:w.cell? (ay S 3)=some (uZ M.aW):=by rw[h.bY.cell];exact h.cells.c3
 have f3:=h.bY.frozen 3;have E:IntKind.u64.wrap ((M.aW:Int)+1)=((M.aW+1:Nat):Int):=by rw[qn5];omega
 obtain⟨W,g⟩:=bT (w.setCell (ay S 3) (uZ ((M.aW+1:Nat):Int)));have f:Hid (iE s oZ w S bw bl bi {M with aW:=M.aW+1} W):=by rw[g];have q:=f_.one h.bY 3 (uZ ((M.aW+1:Nat):Int)) 3 1 (qj _) aj;have c:=h.cells;have e:∀j,j≠3->(l.set 3 (uZ ((M.aW+1:Nat):Int)))[j]?=l[j]?:=fun j x=>aA l 3 j _ (qna x);refine h.cell 3 1 aj q ⟨q.dW.1.trans c.len,(e _ aj).trans c.c0,(e _ aj).trans c.c1,(e _ aj).trans c.c2,cB l 3 _ _ c.c3,(e _ aj).trans c.qU,c.gr.dW q.dW aj,(e _ aj).trans c.sP,(e _ aj).trans c.sQ,(e _ aj).trans c.pQ,(e _ aj).trans c.nH,(e _ aj).trans c.n_,(e _ aj).trans c.oM,(e _ aj).trans c.rV,(e _ aj).trans c.nJ,(e _ aj).trans c.jd,(e _ aj).trans c.qA,(e _ aj).trans c.pR,(e _ aj).trans c.qV,(e _ aj).trans c.rW,(e _ aj).trans c.oO,(e _ aj).trans c.tY⟩ rfl rfl rfl rfl rfl rfl rfl
 have F:W.cell? (ay S 3)=some (uZ ((M.aW+1:Nat):Int)):=by obtain⟨k,i,m,a,b⟩:=f.out;rw[a.bY.cell];exact a.cells.c3
 have o:Hid (∀q,qH 113 #[aJ S 233,(uZ ((M.aW+1:Nat):Int))] (W.drewN q) (.tuple #[]) fun d=>Hid (∃v,iE s oZ w S bw bl bi {M.Ph with qv:=v} d)):=fun q=>by obtain⟨k,i,m,a,b⟩:=f.out;have r:fH k s (W.drewN q) S i {M with aW:=M.aW+1} bw bl bi m:=a.below (kZ (qlw _ W));refine bH (Aa _ (M.aW+1) (W.drewN q) r n) ?_;rintro d ⟨v,A,z,B,t,u⟩;exact⟨rfl,v,A,z,B,t,(b.drewN q).trans u⟩
 clear h f y n;generalize M.aW+1=G at *
 go_enter func66,ntmps66;go_wp2;rw[<-g];clear g;go_region_with (go_at_call 113;refine bH (o.out _) ?_;rintro H p);go_end0;exact⟨rfl,p.out⟩
def Oq(o:Nat)(m:eU){k j:WA}(f:Fr)(r:WA)(w:Wq)(p:aL w S TS l)(h:w_ l o m k j):qH 299 #[aJ S o,eF f r] w (iZ (m.lF f:Int)) fun y=>bE w y:=by
 obtain⟨W,b⟩:=bT (w.alloc (.cells (fJ f r).toArray 65));have u:aL W w.heap.size 65 (fJ f r):=by rw[b];exact aL.new w 65 _
 have a:bE w W:=by rw[b];exact(qlw _ w).alloc (qj _) _
 have e:=p.of_heap (a.block _ p.lt);have z:=in7 S o m k j W l e h;have s:=in8 S o m k j W l e h;have A:=in9 S o m k j W l e h;have B:W.cell? (ay w.heap.size 2)=some (uZ f.aC):=u.cell 2;have i:Hid (∀q,bE w (W.drewN q)):=fun q=>⟨a.os,a.tape,a.output,a.size,a.block⟩;have c:Hid (m.lF f=if m.cO/\m.gH≠f.aC\/f.aC<m.fF then 10 else 0):=rfl;generalize m.lF f=R at *
 clear u a p e h;unfold eF;unfold fJ at b;generalize f.aC=E at *
 rcases(qq2 m.cO).symm with hen|hen
 ·rw[hen]at s c;by_cases n:E<m.fF
  ·have g:decide ((E:Int)<(m.fF:Int))=true:=decide_eq_true aj;have d:Hid (R=10):=by unfold Hid;rw[c.out,bM (.inr n)]
   clear c hen;go_enter func299,ntmps299;go_wp2;rw[<-b];clear b;go_quiet (fail);go_wp2;go_ret;exact⟨gL (by rw[d.out];rfl),i.out _⟩
  ·have g:decide ((E:Int)<(m.fF:Int))=false:=decide_eq_false aj;have d:Hid (R=0):=by unfold Hid;rw[c.out,aV rR]
   clear c hen;go_enter func299,ntmps299;go_wp2;rw[<-b];clear b;go_quiet (fail);go_wp2;go_ret;exact⟨gL (by rw[d.out];rfl),i.out _⟩
 ·rw[hen]at s c;by_cases t:m.gH=E
  ·subst t;by_cases n:m.gH<m.fF
   ·have g:decide ((m.gH:Int)<(m.fF:Int))=true:=decide_eq_true aj;have d:Hid (R=10):=by unfold Hid;rw[c.out,bM (.inr n)]
    clear c hen;go_enter func299,ntmps299;go_wp2;rw[<-b];clear b;go_quiet (fail);go_wp2;go_ret;exact⟨gL (by rw[d.out];rfl),i.out _⟩
   ·have g:decide ((m.gH:Int)<(m.fF:Int))=false:=decide_eq_false aj;have d:Hid (R=0):=by unfold Hid;rw[c.out,aV rR]
    clear c hen;go_enter func299,ntmps299;go_wp2;rw[<-b];clear b;go_quiet (fail);go_wp2;go_ret;exact⟨gL (by rw[d.out];rfl),i.out _⟩
  ·have v:((m.gH:Int)==(E:Int))=false:=rR;have d:Hid (R=10):=by unfold Hid;rw[c.out,bM (.inl ⟨rfl,t⟩)]
   have x:¬(m.gH:Int)=(E:Int):=aj;clear c hen;go_enter func299,ntmps299;go_wp2;rw[<-b];clear b;go_quiet (fail);go_wp2;go_ret;exact⟨gL (by rw[d.out];rfl),i.out _⟩
def GT.rdt{e:TypeId}{w:Wq}{a:Option V3}{c:Nat}(h:GT oZ t e 1 w (.slice a n c) n l)(k:Nat)(i:k<=n):Rd 1 w (.slice a k c) k (l.take k):=by
 have m:=h.len;rcases h with⟨d,rfl,rfl⟩|⟨g,cap,cs,d,h2,h3,h4,h5,h6,h7,h8,h9⟩;·simp only[qn4]at d;obtain⟨rfl,_,rfl⟩:=d;obtain rfl:k=0:=aj;exact .inl ⟨rfl,rfl,rfl⟩
 ·simp only[qn4]at d;obtain⟨rfl,_,rfl⟩:=d;refine .inr ⟨g,c,rfl,h3.lt,by rw[qm8];omega,fun j u b=>?_,fun u f=>h9 u (by have:=qn2 f;rw[<-h8]at this;exact qn2 this)⟩;rw[h3.cell];rw[qm6]at b;split at b
  ·rw[<-h8,qm6]at b;split at b;·exact b
   ·cases b
  ·cases b
def TH(s:Nat){o:Nat}{m:eU}(w:Wq)(r:aL w S TS l)(x:oZ S=s)(hf:s<t)(hO:BG oZ t w l o m)(ok:Mr m)(n:Nat)(P:n=min m.bK.length (m.wanted-min m.wanted m.aY))(Q:m.wanted<=dH):qH 341 #[aJ S o] w (.tuple #[]) fun p=>FB s t oZ S o l w {m with bK:=m.bK.take n,aP:=m.aP.take n} p:=by
 obtain⟨vh,vc,k,k2,A⟩:=hO;obtain⟨ah,ch,rfl,h7,hk⟩:=k2.shape;obtain⟨ac,Z,rfl,h6,hm⟩:=A.shape;have h4:=r.lt;have N:=ok.cl;have O:=ok.hl;have HW:Hid (∀q,qH 306 #[aJ S o] (w.drewN q) (uZ m.wanted) fun p=>p=w.drewN q):=fun q=>rU S o m _ _ (w.drewN q) l r k;obtain⟨x1,hc,R⟩:=min2 m.wanted m.aY;obtain⟨d,he,U⟩:=min2 m.bK.length (m.wanted-x1);obtain rfl:d=n:=by rw[P,U,R]
 have hj:IntKind.u64.wrap ((m.wanted:Int)-(x1:Int))=((m.wanted-x1:Nat):Int):=by rw[qn5];unfold dH at Q;omega
 have F:d<=m.bK.length:=aj;have d4:w.cell? (ay S (o+4))=some (uZ m.aY):=by rw[r.cell];exact k.c4
 have d5:w.cell? (ay S (o+5))=some (.slice ah m.bK.length ch):=by rw[r.cell];exact k.c5
 have BJ:Hid (∀q,Calls prog 348 #[.slice ah d ch] (w.drewN q) fun e p=>∃a c,e=.returned (.slice a d c)/\dY 5 1 p (.slice a d c) d (bX (m.bK.take d))/\lQ w.heap.size (.slice a d c)/\bE w p):=fun q=>by have hr:=(k2.rdt d F).below (w':=w.drewN q) ⟨rfl,rfl,rfl,qj _,fun _ _=>rfl⟩;refine(Nr _ _ _ (w.drewN q) hr aj).mono ?_;rintro e p ⟨a,c,rfl,g1,g2,g3⟩;exact⟨a,c,rfl,by rw[show bX (m.bK.take d)=(bX m.bK).take d by simp[bX]];exact g1,g2,nN g3⟩
 have hg:d<18446744073709551616:=aj;have HK:=aF (dw r (dw x (dw k A)));have HN:=aF (dw N (dw O F));have h8:(d:Int)<=(ch:Int):=aj;have h9:(d:Int)<=(Z:Int):=aj;have ha:m.bK.length<18446744073709551616:=aj;generalize h5:m.bK.length=HL at *
 generalize m.wanted=WT at *
 generalize h0:WT-x1=WX at *
 clear r x k k2 A ok P R U h0 Q N O F;go_enter func341,ntmps341;go_wp2_with fail;go_quiet ((go_at_call 306;exact qn6 (HW.out _)));go_wp2_with fail;refine(BJ.out _).mono ?_;rintro e y ⟨X,Y,rfl,g,j,f⟩;obtain⟨r,x,k,A⟩:=HK.out;have W:=r.of_heap (f.block _ h4);have d5:y.cell? (ay S (o+5))=some (.slice ah HL ch):=by rw[W.cell];exact k.c5
 have f5:=W.frozen (o+5);have d6:y.cell? (ay S (o+6))=some (.slice ac m.aP.length Z):=by rw[W.cell];exact k.c6
 have v:=f_.one W (o+5) (.slice X d Y) o 13 aj aj;obtain⟨H,D⟩:=bT (y.setCell (ay S (o+5)) (.slice X d Y));rw[<-D]at v;have G:Kp [s] oZ oZ w H:=(Kp.below f).trans (v.kp x (T:=[s]) aM);have E:H.heap.size=y.heap.size:=by rw[D];simp
 have I:Hid (Calls prog 349 #[.slice ac d Z] H fun e p=>∃a c,e=.returned (.slice a d c)/\dY 4 1 p (.slice a d c) d (iK (m.aP.take d))/\lQ H.heap.size (.slice a d c)/\bE H p):=by obtain⟨n1,n2,n3⟩:=HN.out;refine(Nu _ _ _ H ((A.kp G rR).rdt d aj) aj).mono ?_;rintro e p ⟨a,c,rfl,g1,g2,g3⟩;exact⟨a,c,rfl,by rw[show iK (m.aP.take d)=(iK m.aP).take d by simp[iK]];exact g1,g2,g3⟩
 have HY:=aF (dw v (dw g (dw j (dw f (dw G E)))));clear r x k A W v G g j f BJ E;go_wp2_with fail;rw[<-D];refine I.out.mono ?_;rintro e z ⟨K,L,rfl,C,B,u⟩;obtain⟨r,x,k,A⟩:=HK.out;obtain⟨v,g,j,f,G,E⟩:=HY.out;have lC:=v.bY.of_heap (u.block _ v.bY.lt);have i1:=CB k (.slice X d Y) (m.bK.take d);have d6:z.cell? (ay S (o+6))=some (.slice ac m.aP.length Z):=by rw[lC.cell];exact i1.c6
 have f6:=lC.frozen (o+6);have HF:Hid (FB s t oZ S o l w {m with bK:=m.bK.take d,aP:=m.aP.take d} (z.setCell (ay S (o+6)) (.slice K d L))):=by
  obtain⟨n1,n2,n3⟩:=HN.out;have V:=f_.one lC (o+6) (.slice K d L) o 13 aj aj;have J:Kp [s] oZ oZ w (z.setCell (ay S (o+6)) (.slice K d L)):=(G.trans (Kp.below u)).trans (V.kp x (T:=[s]) aM);refine⟨fun b=>if b<w.heap.size then oZ b else if b<y.heap.size then t else t+1,_,⟨J.os,J.tape,J.output,J.size,fun b i P=>J.bY b i (by simp at P ⊢;exact P.1),fun b i=>bM i⟩,V.bY,v.dW.trans V.dW,.slice X d Y,.slice K d L,CF i1 (.slice K d L) (m.aP.take d),?_,?_⟩
  ·rw[show({m with bK:=m.bK.take d,aP:=m.aP.take d}:eU).bK.length=d by show(m.bK.take d).length=d;rw[qm8];omega];refine GT.Q_ (g.of_heap fun b i=>?_) fun b i=>?_;·have h1:=j b i;have M:=g.lt b i;have h3:=u.size;rw[V.al b aj aj,u.block b aj,v.al b M aj]
   ·have h1:=j b i;have M:=g.lt b i;rw[aV aj,bM M]
  ·rw[show({m with bK:=m.bK.take d,aP:=m.aP.take d}:eU).aP.length=d by show(m.aP.take d).length=d;rw[qm8];omega];refine GT.Q_ (C.of_heap fun b i=>?_) fun b i=>?_;·have h1:=B b i;have M:=f.size;rw[V.al b (C.lt b i) aj]
   ·have h1:=B b i;have M:=f.size;rw[aV aj,aV aj]
 clear v g j f G lC i1 C B u r x k A HK HY HN I;go_wp2;go_end0;exact⟨rfl,HF.out⟩
def XI(s t:Nat)(o:Nat)(m:eU)(f:Fr)(G:WA){w:Wq}(E:aL w S TS l)(L:oZ S=s)(O:s<t)(J:BG oZ t w l o m)(p:Mr m)(ho:f.aC<=dH)(hr:f.aN<=dH):qH 300 #[aJ S o,eF f G] w (.tuple #[]) fun u=>FB s t oZ S o l w (m.fU f) u:=by
 obtain⟨W,v⟩:=bT (w.alloc (.cells (fJ f G).toArray 65));have A:aL W w.heap.size 65 (fJ f G):=by rw[v];exact aL.new w 65 _
 have i:bE w W:=by rw[v];exact(qlw _ w).alloc (qj _) _
 have gT:W.heap.size=w.heap.size+1:=by rw[v];simp
 have N:=E.lt;have a:=E.of_heap (i.block _ N);obtain⟨vh,vc,n,k2,k3⟩:=J;have V:Hid (∀q,qH 306 #[aJ S o] (W.drewN q) (uZ m.wanted) fun u=>u=W.drewN q):=fun q=>rU S o m _ _ (W.drewN q) l a n;obtain⟨r,h5,c⟩:=min2 m.wanted f.aN;have x2:W.cell? (ay w.heap.size 2)=some (uZ f.aC):=A.cell 2;have x3:W.cell? (ay w.heap.size 3)=some (uZ f.aN):=A.cell 3;have d8:W.cell? (ay S (o+8))=some (.bool m.cO):=by rw[a.cell];exact n.c8
 have d9:W.cell? (ay S (o+9))=some (uZ m.gH):=by rw[a.cell];exact n.c9
 have H:W.cell? (ay S (o+10))=some (.bool m.bN):=by rw[a.cell];exact n.uh
 have I:W.cell? (ay S (o+11))=some (uZ m.rel):=by rw[a.cell];exact n.w9
 have ff:=fun j=>a.frozen j;have h6:¬(S=w.heap.size):=aj;have h0:¬(w.heap.size=S):=aj;have HR:=aF c;have b:bE W (W.drewN 1):=⟨rfl,rfl,rfl,qj _,fun _ _=>rfl⟩;have x:=a.of_heap (w':=W.drewN 1) (b.block _ a.lt);have Q:=f_.one x (o+11) (uZ r) o 13 aj aj;have e:=Q.trans (f_.one Q.bY (o+10) (.bool true) o 13 aj aj);have F:=Rx (ZI n r) true;obtain⟨Y,M⟩:=bT (((W.drewN 1).setCell (ay S (o+11)) (uZ r)).setCell (ay S (o+10)) (.bool true));rw[<-M]at e;have B:aL Y w.heap.size 65 (fJ f G):=e.other (w:=W.drewN 1) (A.of_heap (b.block _ A.lt)) aj;have y2:Y.cell? (ay w.heap.size 2)=some (uZ f.aC):=B.cell 2;have y8:Y.cell? (ay S (o+8))=some (.bool m.cO):=by rw[e.bY.cell];exact F.c8
 have y9:Y.cell? (ay S (o+9))=some (uZ m.gH):=by rw[e.bY.cell];exact F.c9
 have yf:=fun j=>e.bY.frozen j;have R:=e.trans (f_.one e.bY (o+8) (.bool true) o 13 aj aj);have D:=R.trans (f_.one R.bY (o+9) (uZ f.aC) o 13 aj aj);have j2:=J4 (FC F true) f.aC;obtain⟨d,g⟩:∃d:eU,d={m with rel:=r,bN:=true,cO:=true,gH:=f.aC}:=⟨_,rfl⟩;obtain⟨Z,hZ⟩:=bT ((Y.setCell (ay S (o+8)) (.bool true)).setCell (ay S (o+9)) (uZ f.aC));rw[<-hZ]at D;have k:d.wanted=r:=by rw[g];rfl
 have C:r<=dH:=by rw[c];omega
 have U:Hid (∀q,qH 341 #[aJ S o] (Z.drewN q) (.tuple #[]) fun u=>FB s t oZ S o l w (m.fU f) u):=fun q=>by
  have K:Kp [s] oZ oZ w (Z.drewN q):=((Kp.below (i.trans (b.mono aj))).trans (D.kp L (T:=[s]) aM)).drewN q;have J:BG oZ t (Z.drewN q) _ o d:=⟨vh,vc,by rw[g];exact j2,by rw[g];exact k2.kp K rR,by rw[g];exact k3.kp K rR⟩;have P:Mr d:=by rw[g];exact⟨p.gr,p.rd,p.hi,ho,C,p.hl,p.cl,p.st⟩
  refine bH (TH s (Z.drewN q) (D.bY.of_heap rfl) L O J P (min d.bK.length (d.wanted-min d.wanted d.aY)) rfl (by rw[k];exact C)) ?_;rintro u ⟨aQ,l',h1,h2,h3,X⟩;refine⟨rfl,aQ,l',(K.mono aM).trans h1,h2,D.dW.trans h3,?_⟩;rw[k,g]at X;unfold eU.fU;rw[<-c];exact X
 have HB:=aF E;clear c A i a n k2 k3 p hr Q e R D x F j2 B k g b E L HB;unfold eF;unfold fJ at v;generalize m.wanted=WT at *
 go_enter func300,ntmps300;go_wp2_with fail;rw[<-v];clear v;go_region_with (go_at_call 306;refine bH (V.out _) ?_;rintro y rfl);all_goals
  go_wp2_with fail;rw[<-M];clear M V d8 d9 H I x2 x3 ff;go_region
  all_goals go_wp2_with fail
  all_goals
   rw[<-hZ];refine bH (U.out 1) ?_;rintro z hq;have HQ:=aF hq;clear hq U;go_wp2;go_end0;exact⟨rfl,HQ.out⟩
def IJ{M:av}(f:Fr)(m:Option V3)(n o:Nat)(k:Nat)(x:k<8)(K:f.aG=(k:Int)){w:Wq}(h:fH oZ s w S l M bw bl bi P)(E:Mr (M.cK k))(B:f.aC<=dH)(D:f.aN<=dH)(z:(M.cK k).lF f=0):qH 235 #[aJ S 0,eF f (.slice m n o)] w (iZ 0) fun p=>iE s oZ w S bw bl bi (M.fT k ((M.cK k).fU f)) p:=by
 have d:4+k*27+14=18+27*k:=aj;obtain⟨W,r⟩:=bT (w.alloc (.cells (fJ f (.slice m n o)).toArray 65));have j:aL W w.heap.size 65 (fJ f (.slice m n o)):=by rw[r];exact aL.new w 65 _
 have i:bE w W:=by rw[r];exact(qlw _ w).alloc (qj _) _
 have gT:W.heap.size=w.heap.size+1:=by rw[r];simp
 have Ku:=h.bY.lt;have y:Hid (∀q,qH 299 #[(aJ S (4+k*27+14)),eF f (.slice m n o)] (W.drewN q) (iZ 0) fun p=>bE W p):=fun q=>by have g:=h.below (kZ (q:=q) i);obtain⟨vh,jR,J,_,_⟩:=g.cK k x;rw[d];refine(Oq (18+27*k) (M.cK k) f (.slice m n o) (W.drewN q) g.bY J).mono ?_;rw[z];exact fun e p A=>⟨A.1,nN A.2⟩
 have G:Hid (∀u,bE W u->qH 300 #[(aJ S (4+k*27+14)),eF f (.slice m n o)] u (.tuple #[]) fun p=>iE s oZ w S bw bl bi (M.fT k ((M.cK k).fU f)) p):=fun u I=>by have c:=i.trans (I.mono aj);have g:=h.below c;rw[d];refine bH (XI s (s+4+5*k) (18+27*k) (M.cK k) f (.slice m n o) g.bY g.ow aj (g.cK k x) E B D) ?_;rintro p q;obtain⟨N,L,O,a,b⟩:=g.fT k x _ q;exact⟨rfl,N,L,O,a,(Kp.below c).trans b⟩
 have F:=aF j;have xK:(k:Int)<8:=aj;obtain⟨Q,R,T,U,V,X,Y,Z,x8,x9,xf⟩:=bC j;clear i h E B D j d z;unfold eF at *
 unfold fJ at r F;generalize f.aG=st at *
 subst K;go_enter func235,ntmps235;go_wp2;rw[<-r];clear r;go_quiet (fail);go_wp2_with (first|(go_at_call 299;refine bH (y.out _) ?_;rintro u c;have t:=F.out.of_heap (c.block _ aj);obtain⟨y0,y1,y2,y3,y4,y5,y6,y7,y8,y9,yf⟩:=bC t;have v:=aF c;clear t c Q R T U V X Y Z x8 x9 xf y)|(go_at_call 300;refine bH (G.out _ v.out) ?_;rintro w2 C;have H:=aF C;clear C)|go_in);go_ret;exact⟨rfl,H.out⟩
end Go.Proofs.YtphbledmopchnaaGreatDoor.Sd
namespace Go.Proofs.YtphbledmopchnaaGreatDoor.Sd
open Go.RowKit Go.Lib Mm St Tryz
variable {Q Q':List Nat}{a dV:bZ}{dW iF:Nat}{f:Fr}
section
structure Q1 (dW iF:Nat) (M:av):Prop where
 o:M.outs=eB 8 (Ot.new dW)
 i:M.ins=eB 8 (eU.new dW)
 g:M.gr=Gn.new iF
 ls:M.b_=[]
def YV(n x:Nat)(h:x=0):(Gn.new n).bD x=false:=by subst h;unfold Gn.bD Gn.new Gn.jS;exact decide_eq_false (by show¬max 0 n<min (0+n) dH;omega)
def Q1.cK{dW iF:Nat}{M:av}(h:Q1 dW iF M)(k:Nat)(a:k<8):M.cK k=eU.new dW:=by unfold av.cK;rw[h.i,qly,qpm,bM a];rfl
def Q1.out{dW iF:Nat}{M:av}(h:Q1 dW iF M)(k:Nat)(a:k<8):M.out k=Ot.new dW:=by unfold av.out;rw[h.o,qly,qpm,bM a];rfl
def Q1.aZ{dW iF:Nat}{M:av}(h:Q1 dW iF M):M.aZ=0:=by unfold av.aZ;rw[h.i];rfl
def qcn:∀j:Fin 27,j.val≠0->j.val≠18->EA.getD j.val 0=8\/(16<=EA.getD j.val 0/\EA.getD j.val 0<32)\/(40<=EA.getD j.val 0/\EA.getD j.val 0<48):=gP
def Q1.quiet{M:av}(h:Q1 dW iF M)(d:bZ)(j:Nat)(k:j<27)(g:j≠0)(a:j≠18):M.bD d (EA.getD j 0)=false:=by
 have:=qcn ⟨j,k⟩ g a;simp only at this;generalize EA.getD j 0=u at *
 unfold av.bD;rcases this with rfl|⟨i,b⟩|⟨i,b⟩;·rw[aV aj,bM rfl,h.g,h.aZ,YV _ _ rfl,qp3]
 ·rw[aV aj,aV aj];by_cases c:u<24
  ·rw[bM c,h.cK _ aj];have:(eU.new dW).iq=false:=by
    unfold eU.iq;rw[show(eU.new dW).gr=Gn.new dW from rfl,YV _ _ (show(eU.new dW).aZ=0 from rfl),qp3]
   rw[this,qp3]
  ·rw[aV c,bM b,h.out _ aj];exact qp3 _
 ·rw[aV aj,aV aj,aV aj,aV aj,aV aj,h.out _ aj];have:(Ot.new dW).bD M.aR=false:=by
   have e:(Ot.new dW).reach M.aR=0:=by unfold Ot.reach;simp[Ot.new]
   have f:(Ot.new dW).dP M.aR=(0,0):=by unfold Ot.dP;rw[e];rfl
   unfold Ot.bD;rw[f];rfl
  rw[this,qp3]
def qfz{M:av}{j:Nat}(c:j<27)(e:M.bD a (EA.getD j 0)=false)(n:Nat)(b:Int)(l:List Fr):dU (n+1) M a (Qn j) [] b l=dU n M a (Qn (j+1)) [] b l:=by
 obtain⟨t,d⟩:=QB j c;show _=dU n M a (mo (Qn j)) [] b l;rw[d];conv=>lhs;unfold dU
 simp only[e];rfl
def I5{M:av}{a:bZ}(b:Int)(l:List Fr):∀(k j n:Nat),j+k<=27->(∀i,j<=i->i<j+k->M.bD a (EA.getD i 0)=false)->dU (n+k) M a (Qn j) [] b l=dU n M a (Qn (j+k)) [] b l
 |0,_,_,_,_=>rfl
 |k+1,j,n,h,hw=>by rw[show n+(k+1)=(n+k)+1 by omega,qfz aj (hw j (qj _) aj),I5 b l k (j+1) n aj (fun i c d=>hw i aj aj),show j+1+k=j+(k+1) by omega]
def YW(n:Nat)(M:av)(a:bZ)(b:Int)(l:List Fr):dU n M a (Qn 27) [] b l=(M,a,Qn 27,l):=by rw[qfh];cases n<;>rfl
def qia{M:av}:M.bD [] (EA.getD 0 0)=false:=rfl
def qib{M:av}(a:M.aK=[]):M.bD [] (EA.getD 18 0)=false:=by show(!M.full&&decide (0<M.aK.length))=false;rw[a];exact qp3 _
section
variable {dW iF:Nat} {M:av}
def I6(h:Q1 dW iF M)(d:M.aK=[])(n j:Nat)(g:j<=27)(a:Int)(l:List Fr):dU (n+(27-j)) M [] (Qn j) [] a l=(M,[],Qn 27,l):=by
 rw[I5 a l (27-j) j n aj (fun i e f=>?_),show j+(27-j)=27 by omega,YW];by_cases b:i=0;·subst b;exact qia
 by_cases c:i=18;·subst c;exact qib d
 exact h.quiet [] i aj b c
def qdi(h:Q1 dW iF M)(n j:Nat)(e:j<=18)(a:Int)(l:List Fr):dU (n+(18-j)) M [] (Qn j) [] a l=dU n M [] (Qn 18) [] a l:=by
 rw[I5 a l (18-j) j n aj (fun i c d=>?_),show j+(18-j)=18 by omega];by_cases b:i=0;·subst b;exact qia
 exact h.quiet [] i aj b aj
def O0(h:Q1 dW iF M)(b:M.aK=[f])(c:M.full=false)(n j:Nat)(d:j<=18)(a:Int)(g:¬a<((aX f).length:Int))(l:List Fr):dU (n+10+(18-j)) M [] (Qn j) [] a l=({M with aK:=[],qv:=Et M.qv},[],Qn 27,l++[f]):=by
 rw[qdi h _ j d];obtain⟨t,i⟩:=QB 18 aj;have k:EA.getD 18 0=32:=rfl;have m:M.bD [] 32=true:=by show(!M.full&&decide (0<M.aK.length))=true;rw[c,b];rfl
 have hF:M.frame [] 32 a=some (f,{M with aK:=[],qv:=Et M.qv},[]):=by
  show(if a<M.gZ then none else M.aK.head?.map fun f=>(f,{M with aK:=M.aK.tail,qv:=Et M.qv},[]))=_;have:M.gZ=(aX f).length:=by unfold av.gZ;rw[b]
  rw[aV (by rw[this];exact g),b];rfl
 have e:dU (n+10) M [] (Qn 18) [] a l=dU (n+9) {M with aK:=[],qv:=Et M.qv} [] (Qn 18) [] (a-((aX f).length:Int)) (l++[f]):=by
  rw[i,k];conv=>lhs;unfold dU
  simp only[m,if_true,hF]
 rw[e];exact I6 (M:={M with aK:=[],qv:=Et M.qv}) ⟨h.o,h.i,h.g,h.ls⟩ rfl n 18 aj _ _
def qic(h:Q1 dW iF M)(b:M.aK=[f])(c:M.full=false)(n j:Nat)(d:j<=18)(a:Int)(e:a<((aX f).length:Int))(l:List Fr):dU (n+10+(18-j)) M [] (Qn j) [] a l=(M,[],Qn 18,l):=by
 rw[qdi h _ j d];obtain⟨t,g⟩:=QB 18 aj;have i:EA.getD 18 0=32:=rfl;have k:M.bD [] 32=true:=by show(!M.full&&decide (0<M.aK.length))=true;rw[c,b];rfl
 have hF:M.frame [] 32 a=none:=by
  show(if a<M.gZ then none else _)=_;have:M.gZ=(aX f).length:=by unfold av.gZ;rw[b]
  rw[bM (by rw[this];exact e)]
 rw[g,i];unfold dU;simp only[k,if_true,hF];rfl
def qg0(r:Nat×Nat)(n:Nat)(a:Int)(c:((aX (dS [r])).length:Int)<=a)(l:List Fr):dU (n+1) M [r] (Qn 0) [] a l=dU n M [] (Qn 0) [] (a-((aX (dS [r])).length:Int)) (l++[dS [r]]):=by
 obtain⟨t,d⟩:=QB 0 aj;have e:EA.getD 0 0=0:=rfl;have b:fP [r] a 1=1:=by unfold fP;rw[show List.take (0+1) [r]=[r]from rfl,bM c]
 have hF:M.frame [r] 0 a=some (dS [r],M,[]):=by show(if fP [r] a [r].length=0 then none else some (dS ([r].take (fP [r] a [r].length)),M,[r].drop (fP [r] a [r].length)))=_;rw[show[r].length=1 from rfl,b];rfl
 rw[d,e];conv=>lhs;unfold dU
 simp only[show M.bD [r] 0=true from rfl,if_true,hF]
end

def qg1(h:QD f):(aX f).length<=19+f.data.size:=by
 have a:=h.s;have e:dz f.aD=dz 7:=by rw[h.kd]
 have b:=gJ f.id;have c:=gJ f.aH;have d:(Num.aB f.data.size).length<=2:=by have:=xE f.data.size 360 a;have:(Num.aB 360).length=2:=gP;omega
 unfold aX;rw[e];have:f.data.data.toList.length=f.data.size:=rfl;simp[dz,dR,dx,fieldAt];omega
def qco(r:Nat×Nat):(aX (dS [r])).length<=18:=by
 have e:aX (dS [r])=[]++[UInt8.ofNat 2]++gV [r]:=rfl;rw[e];unfold gV kH;have c:=gJ ([r].getD 0 (0,0)).2;have d:=gJ (([r].getD 0 (0,0)).2-([r].getD 0 (0,0)).1);have a:(Num.aB ([r].length-1)).length=1:=show(Num.aB 0).length=1 by decide
 have b:(jc [r] ([r].length-1)).length=0:=rfl;simp only[qm0,qmp,qnc,a,b]at *
 omega
structure FlO (A M:av) (pk:List (Nat×List Fr)) (ak:List Fr):Prop where
 o:M.outs=A.outs
 i:M.ins=A.ins
 g:M.gr=A.gr
 ls:M.b_=A.b_
 q:M.aK=[]
 an:M.bI=false
 cm:M.aP=A.aP
 nm:M.named=A.named
 fr:(pk.flatMap fun x=>x.2)=ak++A.aK
 wy:∀p∈M.bf,p∈A.bf\/(p.1+1=M.next/\p.2=⟨[],A.aW⟩/\A.aK≠[]/\∃y∈pk,y.1=p.1/\fD y.2=true)
def QM{M:av}(h:fill M a Q M.au=(M,dV,Q',[]))(n:Nat)(l:List (Nat×List Fr)):fI (n+1) M a Q l=(M,l):=by unfold fI;rw[h,bM rfl]
def Me{M M':av}{b:bZ}{a:List Fr}(h:fill M b Q M.au=(M',dV,Q',a))(c:a≠[])(n:Nat)(l:List (Nat×List Fr)):fI (n+1) M b Q l=fI n (M'.dO a) dV Q' (l++[(M.next,a)]):=by
 conv=>lhs;unfold fI
 rw[h,aV c]
def I7(M:av)(n:Nat)(l:List (Nat×List Fr)):fI (n+1) M [] (Qn 27) l=(M,l):=QM (by unfold fill;exact YW _ M [] M.au []) n l
def O1:(Qn 0).length=27:=by decide +kernel
def qcp:(Qn 18).length=9:=by decide +kernel
def av.QN(M:av):(M.bF:Int)-12<=M.au:=by have:=gJ M.next;unfold av.au;omega
def full_of{M:av}(h:M.bf.length<=2):M.full=false:=by unfold av.full;exact decide_eq_false aj
def qcq{A:av}(h:Q1 dW iF A)(K:64<=A.bF)(q:A.bI=false)(L:A.bf.length<=1)(o:bZ)(I:o=[]\/∃r,o=[r])(c:A.aK=[]\/∃f,A.aK=[f]/\f.aD=7/\(aX f).length+12<=A.bF)(n:Nat):FlO A (fI (n+4) A o (Qn 0) []).1 (fI (n+4) A o (Qn 0) []).2 (o.map fun r=>dS [r]):=by
 have J:=A.QN;have l:A.full=false:=full_of aj;have D:∀r,fD [dS [r]]=false:=fun r=>rfl;rcases I with rfl|⟨r,rfl⟩
 ·rcases c with c|⟨f,c,m,F⟩
  ·
   have e:fI (n+4) A [] (Qn 0) []=(A,[]):=by refine QM (dV:=[]) (Q':=Qn 27) (n:=n+3) ?_ [];unfold fill;rw[O1,show 27+A.au.toNat+1=(A.au.toNat+1)+(27-0) by omega,I6 h c _ 0 aj]
   rw[e];exact⟨rfl,rfl,rfl,rfl,c,q,rfl,rfl,by simp[c],fun p d=>.inl d⟩
  ·have j:fill A [] (Qn 0) A.au=({A with aK:=[],qv:=Et A.qv},[],Qn 27,[f]):=by
    unfold fill;rw[O1,show 27+A.au.toNat+1=A.au.toNat+10+(18-0) by omega];exact O0 h c l _ 0 aj A.au aj []
   have e:fI (n+4) A [] (Qn 0) []=(av.dO {A with aK:=[],qv:=Et A.qv} [f],[(A.next,[f])]):=by rw[Me (n:=n+3) j aM,I7];rfl
   have g:fD [f]=true:=by unfold fD;simp[m]
   have k:again [f]=[]:=by unfold again;simp[m]
   rw[e];refine⟨rfl,rfl,rfl,rfl,rfl,q,rfl,rfl,by simp[c],fun p d=>?_⟩;have a:p∈A.bf++[(A.next,⟨again [f],A.aW⟩)]:=by
    have:(av.dO {A with aK:=[],qv:=Et A.qv} [f]).bf=A.bf++[(A.next,⟨again [f],A.aW⟩)]:=by unfold av.dO;dsimp only;rw[bM g]
    rw[this]at d;exact d
   rcases qm7.1 a with a|a;·exact .inl a
   ·rw[qmi.1 a,k];exact .inr ⟨rfl,rfl,by rw[c];simp,(A.next,[f]),aM,rfl,g⟩
 ·have H:=qco r;have z:((aX (dS [r])).length:Int)<=A.au:=aj;obtain⟨t,y⟩:=bT (A.au-((aX (dS [r])).length:Int));have v:fill A [r] (Qn 0) A.au=dU (27+A.au.toNat) A [] (Qn 0) [] t [dS [r]]:=by
   unfold fill;rw[O1,qg0 r _ A.au z,y];rfl
  rcases c with c|⟨f,c,m,F⟩
  ·have j:fill A [r] (Qn 0) A.au=(A,[],Qn 27,[dS [r]]):=by
    rw[v,show 27+A.au.toNat=A.au.toNat+(27-0) by omega];exact I6 h c _ 0 aj _ _
   have e:fI (n+4) A [r] (Qn 0) []=(A.dO [dS [r]],[(A.next,[dS [r]])]):=by rw[Me (n:=n+3) j aM,I7];rfl
   rw[e];refine⟨rfl,rfl,rfl,rfl,c,q,rfl,rfl,by simp[c],fun p d=>.inl ?_⟩;unfold av.dO at d;dsimp only at d;rw[D]at d;exact d
  ·have g:fD [f]=true:=by unfold fD;simp[m]
   have k:again [f]=[]:=by unfold again;simp[m]
   by_cases i:t<((aX f).length:Int)
   ·
    have j:fill A [r] (Qn 0) A.au=(A,[],Qn 18,[dS [r]]):=by rw[v,show 27+A.au.toNat=A.au.toNat+9-10+10+(18-0) by omega];exact qic h c l _ 0 aj _ i _
    obtain⟨b,hA2⟩:=bT (A.dO [dS [r]]);have G:Q1 dW iF b:=by rw[hA2];exact⟨h.o,h.i,h.g,h.ls⟩
    have x:b.aK=[f]:=by rw[hA2];exact c
    have s:b.bf=A.bf:=by rw[hA2];unfold av.dO;dsimp only;rw[D];rfl
    have w:b.bF=A.bF:=by rw[hA2];rfl
    have B:=b.QN;rw[w]at B;have E:fill b [] (Qn 18) b.au=({b with aK:=[],qv:=Et b.qv},[],Qn 27,[f]):=by unfold fill;rw[qcp,show 9+b.au.toNat+1=b.au.toNat+10+(18-18) by omega];exact O0 G x (full_of (by rw[s];omega)) _ 18 aj b.au aj []
    have e:fI (n+4) A [r] (Qn 0) []=(av.dO {b with aK:=[],qv:=Et b.qv} [f],[(A.next,[dS [r]]),(A.next+1,[f])]):=by rw[Me (n:=n+3) j aM,<-hA2,Me (n:=n+2) E aM,I7];rw[hA2];rfl
    rw[e];refine⟨by show b.outs=_;rw[hA2];rfl,by show b.ins=_;rw[hA2];rfl,by show b.gr=_;rw[hA2];rfl,by show b.b_=_;rw[hA2];rfl,rfl,by show b.bI=_;rw[hA2];exact q,by show b.aP=_;rw[hA2];rfl,by show b.named=_;rw[hA2];rfl,by simp[c],fun p d=>?_⟩;have a:p∈A.bf++[(A.next+1,⟨again [f],A.aW⟩)]:=by
     have:(av.dO {b with aK:=[],qv:=Et b.qv} [f]).bf=A.bf++[(A.next+1,⟨again [f],A.aW⟩)]:=by unfold av.dO;dsimp only;rw[bM g,s,hA2];rfl
     rw[this]at d;exact d
    rcases qm7.1 a with a|a;·exact .inl a
    ·rw[qmi.1 a,k];exact .inr ⟨by show A.next+1+1=b.next+1;rw[hA2];rfl,rfl,by rw[c];simp,(A.next+1,[f]),aM,rfl,g⟩
   ·have j:fill A [r] (Qn 0) A.au=({A with aK:=[],qv:=Et A.qv},[],Qn 27,[dS [r],f]):=by
     rw[v,show 27+A.au.toNat=A.au.toNat+9-10+10+(18-0) by omega];exact O0 h c l _ 0 aj _ i _
    have e:fI (n+4) A [r] (Qn 0) []=(av.dO {A with aK:=[],qv:=Et A.qv} [dS [r],f],[(A.next,[dS [r],f])]):=by rw[Me (n:=n+3) j aM,I7];rfl
    have u:fD [dS [r],f]=true:=by unfold fD;simp[m]
    have C:again [dS [r],f]=[]:=by unfold again;simp[m,dS]
    rw[e];refine⟨rfl,rfl,rfl,rfl,rfl,q,rfl,rfl,by simp[c],fun p d=>?_⟩;have a:p∈A.bf++[(A.next,⟨again [dS [r],f],A.aW⟩)]:=by
     have:(av.dO {A with aK:=[],qv:=Et A.qv} [dS [r],f]).bf=A.bf++[(A.next,⟨again [dS [r],f],A.aW⟩)]:=by unfold av.dO;dsimp only;rw[bM u]
     rw[this]at d;exact d
    rcases qm7.1 a with a|a;·exact .inl a
    ·rw[qmi.1 a,C];exact .inr ⟨rfl,rfl,by rw[c];simp,(A.next,[dS [r],f]),aM,rfl,u⟩
def cmn:Nat->NS
 |0=>⟨0,[]⟩
 |n+1=>⟨0,[(0,n)]⟩
def qcr:∀n,(cmn n).add 8 n n=cmn (n+1)
 |0=>rfl
 |n+1=>by
  show NS.add 8 ⟨0,[(0,n)]⟩ (n+1) (n+1)=⟨0,[(0,n+1)]⟩;unfold NS.add Rg.add;dsimp only;have e:max (n+1) 0=n+1:=aj;rw[e,aV aj];have a:Rg.ins (n+1) (n+1) [(0,n)]=[(0,n+1)]:=by unfold Rg.ins;rw[aV aM,aV aM];unfold Rg.ins;simp
  rw[a];rfl
def qcs:∀n,(cmn n).has n=false
 |0=>rfl
 |n+1=>by
  show(decide (n+1<0)||Rg.has (n+1) [(0,n)])=false;have h:=Rg.Pe [(0,n)] (n+1) ⟨qm2 _,(fun x c=>by cases c),trivial⟩;cases e:Rg.has (n+1) [(0,n)];·rfl
  ·obtain⟨r,b,d,a⟩:=h.1 e;rw[qmi.1 b]at a;simp at a;omega
def I8(b:Bool)(c:Nat):List Fr:=if b then(cmn c).rs.reverse.map fun r=>dS [r]else[]
def Uv{A M:av}{n:List (Nat×List Fr)}(h:Q1 dW iF A)(q:64<=A.bF)(t:A.bf.length<=1)(s:∀p∈A.bf,A.aW<=p.2.aW+1/\A.named<=p.1)(c:Nat)(m:A.aP=cmn c)(b:A.aK=[]\/∃f,A.aK=[f]/\QD f/\f.data.size+40<=A.bF)(k:A.kQ M n):FlO A M n (I8 A.bI c):=by
 obtain⟨a,g,e⟩:=k;unfold av.lS at g;have j:A.bf.any A.iy=false:=by rw[List.any_eq_false];intro p k;have:=s p k;unfold av.iy;simp;omega
 rw[j,aV gP]at g;subst g;have i:lf a=[]\/∃r,lf a=[r]:=by
  unfold lf;rw[m];cases a.bI;·exact .inl rfl
  ·cases c;·exact .inl rfl
   ·exact .inr ⟨_,rfl⟩
 have d:(lf a).map (fun r=>dS [r])=I8 a.bI c:=by unfold lf I8;rw[m];cases a.bI<;>rfl
 have l:a.aK=[]\/∃f,a.aK=[f]/\f.aD=7/\(aX f).length+12<=a.bF:=by
  rcases b with b|⟨f,b,o,u⟩;·exact .inl b
  ·exact .inr ⟨f,b,o.kd,bR (qg1 o)⟩
 have r:=qcq (A:={a with bI:=false}) ⟨h.o,h.i,h.g,h.ls⟩ q rfl t (lf a) i l ((lf a).length+10);rw[show(lf a).length+10+4=(lf a).length+14 by omega,show Qn 0=q0 from rfl,e,d]at r;exact⟨r.o,r.i,r.g,r.ls,r.q,r.an,r.cm,r.nm,r.fr,r.wy⟩
