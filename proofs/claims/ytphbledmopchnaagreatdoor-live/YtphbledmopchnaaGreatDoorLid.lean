import Derived.Test.YtphbledmopchnaaGreatDoorLib
import Derived.Test.YtphbledmopchnaaGreatDoorLic
open Nat renaming le_refl->j3,zero_le->lg
open Go.RowKit renaming intOf->eB
set_option maxHeartbeats 4000000
set_option maxRecDepth 100000
namespace Go.Proofs.YtphbledmopchnaaGreatDoor.Sd
open Go.RowKit Go.Lib Mm Tryz
def Wd(n:Net):Prop:=((n.x 1).bF 3).aR=22/\((n.x 1).bF 3).state=1
theorem O4{n:Net}(h:Wd n)(i:Nat){M:av}(s:Sm (n.x i) M):Wd (n.dY i M):=by
 unfold Wd;by_cases e:(1:Nat)=i;·subst e;rw[dA,(s.i 3).1,(s.i 3).2];exact h
 ·rw[dX _ _ _ _ e];exact h
theorem WW:∀(i:Nat) {n n':Net},Wd n->FlR i n n'->Wd n'
 |0,n,n',h,e=>by cases e;exact h
 |i+1,n,n',h,e=>by obtain⟨n1,e,M,pk,r,rfl⟩:=e;have:=O4 (WW i h e) i (Dl r);exact this
theorem WX(l:List (Nat×Nat×List Fr)):∀(j:Nat) {n n':Net},Wd n->CmR l j n n'->Wd n'
 |0,n,n',h,e=>by cases e;exact h
 |j+1,n,n',h,e=>by obtain⟨n1,e,a,M,r,rfl⟩:=e;exact O4 (WX l j h e) _ (yw a r)
theorem WY{n:Net}(h:Wd n)(i k:Nat)(p:RdK ((n.x (1-i)).out k) ((n.x i).bF k) 4096):Wd (rdN n i k):=by
 unfold Wd rdN;by_cases e:(1:Nat)=i
 ·subst e;rw[dA,dQ];split;·rename_i f;have b:k=3:=aj;subst b;obtain⟨c,d⟩:=p.s0 (by rw[h.2];omega);have a:=p.nx;rw[c]at a;exact⟨by rw[a];exact h.1,by rw[d];exact h.2⟩
  ·exact h
 ·rw[dX _ _ _ _ e];exact h
theorem WZ:∀(c:Nat) {n n':Net},Wd n->O3 c n n'->Wd n'
 |0,n,n',h,e=>by cases e;exact h
 |c+1,n,n',h,e=>by obtain⟨n1,e,p,rfl⟩:=e;exact WY (WZ c h e) _ _ p
theorem qcv{n n':Net}(h:Wd n)(r:RoR n n'):Wd n':=by obtain⟨n2,b,n3,c,d⟩:=r;have h1:Wd n.iF:=h;have a:Wd n2:=WW 2 h1 b;exact WZ 16 (WX _ _ (show Wd {n2 with dN:=[]}from a) c) d
theorem qac(I:eH):∀(c:Nat) {n n':Net},(n.x 1).bF 3=I->(n.x 1).ins.length=8->O3 c n n'->(n'.x 1).ins.length=8/\(c<=11->(n'.x 1).bF 3=I)/\(11<c->((I.rd (4096:Nat)).2.aR=22/\(I.rd (4096:Nat)).2.state=1)->Wd n')
 |0,n,n',h,hl,e=>by cases e;exact⟨hl,fun _=>h,fun h=>aj⟩
 |c+1,n,n',h,hl,e=>by
  obtain⟨n1,e,p,rfl⟩:=e;obtain⟨d,f,i⟩:=qac I c h hl e;refine⟨?_,fun g=>?_,fun g b=>?_⟩
  ·unfold rdN;by_cases a:(1:Nat)=c / 8;·rw[<-a,dA];show(md _ _ _).length=8;rw[iP];exact d
   ·rw[dX _ _ _ _ a];exact d
  ·have:=f aj;unfold rdN;by_cases a:(1:Nat)=c / 8;·rw[<-a,dA,dQ,aU aj];exact this
   ·rw[dX _ _ _ _ a];exact this
  ·by_cases e:c=11;·subst e;have:=f aj;show Wd (rdN n1 1 3);unfold Wd rdN;rw[dA,dQ,bK ⟨rfl,aj⟩,this];exact b
   ·exact WY (i aj b) _ _ p
theorem FL{M M':av}{pk:List (Nat×List Fr)}(h1:M.aJ=[])(c:M.aT=false)(h:M.jS M' pk):fQ 14 {M with aT:=false} [] q0 []=(M',pk):=by
 obtain⟨M1,hl,e⟩:=h;unfold av.gU at hl;rw[h1]at hl;have a:M1=M:=hl;subst a;have b:lf M1=[]:=by unfold lf;rw[c];rfl
 rw[b]at e;exact e
def wS:ByteArray:=⟨#[115,111,109,101,32,98,121,116,101,115,32,111,102,32,97,32,115,116,114,101,97,109]⟩
def wN:Net:=((Net.new 64 116 116).qO 0 3 wS).Nz 0 3
def wA:av×List (Nat×List Fr):=fQ 14 {(wN.iF.x 0)with aT:=false} [] q0 []
def wB:av×List (Nat×List Fr):=fQ 14 {(wN.iF.x 1)with aT:=false} [] q0 []
def wF:Fr:=⟨4,3,0,0,0,true,0,0,wS,[]⟩
def wC:av:={wB.1 with aM:=wB.1.aM.add 8 0 0,aT:=wB.1.aT||eO [norm wF]}
theorem qf4:wA.2=[(0,[wF])]:=bH
theorem qf5:wB.2=[]:=bH
theorem qf6:wB.1.aM.has 0=false:=bH
theorem NA:(wC.take (norm wF)).2=0/\(norm wF).aC=4/\(wC.take (norm wF)).1.ins.length=8:=⟨bH,bH,bH⟩
theorem qhi:((((wC.take (norm wF)).1.bF 3).rd (4096:Nat)).2.aR=22/\(((wC.take (norm wF)).1.bF 3).rd (4096:Nat)).2.state=1):=⟨bH,bH⟩
theorem ZN{n':Net}(r:RoR wN n'):Wd n':=by
 obtain⟨n2,⟨n1,⟨n0,k,d,b,r0,rfl⟩,M1,c,w,rfl⟩,n3,i,x⟩:=r;cases k;have m:=FL bH bH r0;have o:=FL (M:=(wN.iF.yG 0 d b).x 1) bH bH w;have s:wA=(d,b):=m;have hB:wB=(M1,c):=o;have v:b=[(0,[wF])]:=by rw[<-qf4,s]
 have p1:c=[]:=by rw[<-qf5,hB]
 have u:M1=wB.1:=by rw[hB]
 subst v p1 u;have hb:((wN.iF.yG 0 d [(0,[wF])]).yG 1 wB.1 []).dN=[(1,0,[norm wF])]:=rfl;rw[hb]at i;obtain⟨n4,l,_,M,t,rfl⟩:=i;cases l;have g:wB.1.jc 0 [norm wF] M 0:=t;unfold av.jc at g;rw[qf6,aU iO]at g;obtain⟨e,h,y,j⟩:=g;have a:wC.iN (norm wF) e h:=y;unfold av.iN at a;rw[aU (by rw[NA.2.1];decide)]at a;have q:e=(wC.take (norm wF)).1:=congrArg Prod.fst a;have p:h=0:=(congrArg Prod.snd a).trans NA.1;rw[bK p]at j;have f:M=e:=j.1;subst f q;have:=qac ((wC.take (norm wF)).1.bF 3) 16 (n:=Net.dY _ 1 (wC.take (norm wF)).1) (by rw[dA]) (by rw[dA];exact NA.2.2) x;exact this.2.2 aj qhi
theorem qad:∀(t:Nat) {n':Net},zG (t+1) wN n'->Wd n'
 |0,n',h=>by obtain⟨n1,e,r⟩:=h;cases e;exact ZN r
 |t+1,n',h=>by obtain⟨n1,e,r⟩:=h;exact qcv (qad t e) r
theorem DF{oZ:Own}{w w':World}(K:Kp TN (fun _=>0) oZ w w'):bJ w w':=
 ⟨K.os,K.tape,K.output,K.size,fun b hb=>K.cZ b hb qab⟩
theorem Ig(n:Nat)(h:n<=1000):nO (n:Int):=by unfold nO;omega
theorem W_(bG gN rO B:Nat)(h:B<=1000000):qo (Net.new bG gN rO) B:=⟨fun i _=>by show 0+24*(B+1)<dK/\0+B<_;unfold dK;omega,by show 0+B<_;omega⟩
theorem Xa(w:World)(E:iE w)(H:j4 w)(f:2<=w.heap.size):Calls prog 15 #[] w fun e w'=>e=.returned (.bool true)/\bJ w w':=by
 have z:nO 0:=Ig 0 aj;have i3:nO 3:=Ig 3 aj;have n:nO 100:=Ig 100 aj;have C:Hid (Calls prog 21 #[iZ 0,iZ 100,iZ 100] w fun e w'=>∃N,e=.returned (aI N 0)/\Hid (∃a oZ vb,a.N=N/\a.bG=64/\fu oZ w' a (Net.new 64 116 116) vb (ends (Net.new 64 116 116))/\Kp TN (fun _=>0) oZ w w')):=by refine(KJ 0 100 100 z n n w E H f).mono ?_;rintro e w' ⟨p,rfl,a,oZ,vb,rfl,v,h1,f,_⟩;exact⟨a.N,rfl,a,oZ,vb,rfl,v,h1,f⟩
 clear E H f;go_enter func15,ntmps15;go_wp2_with (go_at_call 21;refine C.out.mono ?_;rintro e w1 ⟨N,rfl,h1⟩);obtain⟨a,oZ,vb,rfl,x,G,F⟩:=h1.out;clear h1 C;have b:fH a.bG (Net.new 64 116 116):=by rw[x];exact JZ 64 116 116 aj aj aj
 have A:dL 0 2=0:=rfl;have B:dL 3 8=3:=rfl;have c:fH a.bG ((Net.new 64 116 116).qO 0 3 wS):=jF b 0 aj _ (IU (b.loc 0 aj) (b.two 0 aj) (b.jT 0 aj) _ _) (Oy (b.bd 0 aj) _ _) rfl rfl;have k:fH a.bG wN:=jF c 0 aj _ (BH (c.loc 0 aj) (c.two 0 aj) (c.jT 0 aj) _) (EY (c.bd 0 aj) _) rfl rfl;have t:Hid (Calls prog 22 #[aI a.N 0,.agg #[iZ 1,iZ 0,iZ 3,iZ 0,.string wS]] w1 fun e i=>e=.returned (.bool true)/\Hid (nR oZ w1 a ((Net.new 64 116 116).qO 0 3 wS) i)):=by have:=OY G b 0 3 0 z i3 wS iO;rw[A,B]at this;exact this
 have K:Hid (∀i,nR oZ w1 a ((Net.new 64 116 116).qO 0 3 wS) i->Calls prog 22 #[aI a.N 0,.agg #[iZ 2,iZ 0,iZ 3,iZ 0,.string ⟨#[]⟩]] i fun e h=>e=.returned (.bool true)/\Hid (nR oZ w1 a wN h)):=fun i f=>by obtain⟨o,r,j,g⟩:=f;have:=FJ j c 0 3 0 z i3 ⟨#[]⟩;rw[A,B]at this;refine bN this ?_;rintro h q;exact⟨rfl,q.then g⟩
 have L:Hid (∀h,nR oZ w1 a wN h->Calls prog 18 #[aI a.N 0,iZ 4] h fun e d=>e=.returned (.bool true)/\Hid (∃n',Wd n'/\nR oZ w1 a n' d)):=fun h j=>by obtain⟨o,r,g,s⟩:=j;have y:qo ((Net.new 64 116 116).qO 0 3 wS) 12:=qo.dY (W_ 64 116 116 12 aj) 0 (M:=((Net.new 64 116 116).x 0).dD 3 ((((Net.new 64 116 116).x 0).out 3).send wS.data.toList).1) rfl rfl;have hb:qo wN 12:=qo.dY y 0 (M:=((((Net.new 64 116 116).qO 0 3 wS).x 0).dD 3 ((((Net.new 64 116 116).qO 0 3 wS).x 0).out 3).finish.1)) rfl rfl;refine bN (Ic g k 4 aj hb aj) ?_;rintro d ⟨n',p,_,_,q⟩;exact⟨rfl,n',qad 3 p,q.then s⟩
 have J:Hid (∀n' d,Wd n'->nR oZ w1 a n' d->d.cell? (aB a.N 1)=some (dP a.eb 2 a.ec)/\d.cell? (aB a.eb 0)=some (dP (a.el 0) 8 (a.Iw 0))/\d.cell? (aB (a.el 0) 3)=some (aI (a.e 0 3) 0)/\d.cell? (aB (a.e 0 3) 4)=some (iZ 22)/\d.cell? (aB (a.e 0 3) 5)=some (iZ 1)/\bJ w d):=fun n' d l g=>by
  obtain⟨o,r,s,P⟩:=g;obtain⟨_,c1,_⟩:=s.cells;obtain⟨v,O,D⟩:=s.Ke 0 3 aj aj;refine⟨c1,v,O,?_,?_,DF (F.trans P)⟩;·rw[D];show some (Value.int .i64 (((n'.x 1).bF 3).aR:Int))=_;rw[l.1];rfl
  ·rw[D];show some (Value.int .i64 (((n'.x 1).bF 3).state:Int))=_;rw[l.2];rfl
 have m:wS=⟨#[115,111,109,101,32,98,121,116,101,115,32,111,102,32,97,32,115,116,114,101,97,109]⟩:=rfl;rw[m]at t;clear G F b c k A B m;go_wp2_with (first|(go_at_call 22;refine bN t.out ?_;rintro i f;clear t)|(go_at_call 22;refine bN (K.out _ f.out) ?_;rintro h j)|(go_at_call 18;refine bN (L.out _ j.out) ?_;rintro d g;obtain⟨n',l,I⟩:=g.out;obtain⟨c1,c2,c3,c4,c5,hb⟩:=J.out n' d l I;have u:=aG hb;clear hb l I g));go_ret;exact⟨rfl,u.out⟩
section
structure Si where
 K:Int
 Sd:Int
 A:Int
 B:Int
 S:ByteArray
def Kc:Si:=⟨0,0,0,0,⟨#[]⟩⟩
structure ZO (w:World) (b off:Nat) (s:Si):Prop where
 c0:w.cell? (aB b off)=some (iZ s.K)
 c1:w.cell? (aB b (off+1))=some (iZ s.Sd)
 c2:w.cell? (aB b (off+2))=some (iZ s.A)
 c3:w.cell? (aB b (off+3))=some (iZ s.B)
 c4:w.cell? (aB b (off+4))=some (.string s.S)
 i1:nO s.Sd
 i2:nO s.A
 i3:nO s.B
 ls:s.S.size<=140737488351232
def StW(w:World)(oa:Option Addr)(c:List Si):Prop:=∀j,j<c.length->∃b off,oa=some (aB b off)/\ZO w b (off+j*5) (c.getD j Kc)
theorem StW.below{w w':World}{oa:Option Addr}{d:List Si}(h:StW w oa d)(hb:bJ w w'):StW w' oa d:=fun j f=>by obtain⟨b,off,e,s⟩:=h j f;have c:b<w.heap.size:=World.block_lt_of_cell? w (aB b _) (by rw[s.c0]);have g:=hb.block b c;exact⟨b,off,e,cell_of s.c0 g,cell_of s.c1 g,cell_of s.c2 g,cell_of s.c3 g,cell_of s.c4 g,s.i1,s.i2,s.i3,s.ls⟩
def SmQ(c:List Si)(w:World)(e:Ending)(w':World):Prop:=∃b:Bool,e=.returned (.bool b)/\(b=true->c.length<=8192/\∀j,j<c.length->(c.getD j Kc).S.size<=8192)/\w'=w
theorem NC{c:List Si}{w:World}{e:Ending}{w':World}(b:Bool)(h1:e=.returned (.bool b))(d:b=true->c.length<=8192/\∀j,j<c.length->(c.getD j Kc).S.size<=8192)(f:w'=w):SmQ c w e w':=⟨b,h1,d,f⟩
theorem Xb(oa:Option Addr)(c:List Si)(oc:Nat)(w:World)(o:StW w oa c)(hl:c.length<=140737488351232):Calls prog 14 #[.slice oa c.length oc] w fun e w'=>SmQ c w e w':=by
 have s:=aG o;obtain⟨m,g⟩:=bZ c.length;have l:=aG g;rw[<-g]at hl ⊢;clear o g;go_enter func14,ntmps14;go_wp2;go_loopw [3,4] (fun A k wr=>∃i n:Nat,i<=m/\k=(iZ i)/\A=(iZ n)/\m<=n/\n<=281474976710656/\Hid (wr=w/\∀j,j<i->(c.getD j Kc).S.size<=n)) (fun _ k _=>m-(eB k).toNat);case atStart=>exact⟨0,m,lg _,rfl,rfl,j3 _,aj,rfl,fun j p=>aj⟩
 case round=>
  obtain⟨i,n,hi,rfl,rfl,y,z,d⟩:=hrel;by_cases v:i<m
  ·have q:(i:Int)<(m:Int):=aj;by_cases x:n<=8192
   ·have f:(n:Int)<=8192:=aj;obtain⟨b,off,rfl,hs⟩:=s.out i (bV l.out);have c4:=hs.c4;rw[<-d.out.1]at c4;have u:=hs.ls;have t:Hid (wr=w/\∀j,j<i+1->(c.getD j Kc).S.size<=n+(c.getD i Kc).S.size):=⟨d.out.1,fun j p=>by
     by_cases e:j=i;·rw[e];omega
     ·have:=d.out.2 j aj;omega⟩
    clear hs d;generalize (c.getD i Kc).S=D at *
    go_wp2;go_roundw;case rel=>exact⟨i+1,n+D.size,aj,aP,aP,aj,aj,t⟩
    case measure=>simp[eB];omega
   ·have f:¬((n:Int)<=8192):=aj;go_wp2;go_ret;exact NC false rfl (fun h=>by cases h) d.out.1
  ·obtain rfl:i=m:=aj;by_cases x:n<=8192
   ·have f:(n:Int)<=8192:=aj;have r:Hid (c.length<=8192/\∀j,j<c.length->(c.getD j Kc).S.size<=8192):=by
     have:=l.out;exact⟨aj,fun j p=>bV (d.out.2 j aj)⟩
    go_wp2;go_ret;exact NC true rfl (fun _=>r.out) d.out.1
   ·have f:¬((n:Int)<=8192):=aj;go_wp2;go_ret;exact NC false rfl (fun h=>by cases h) d.out.1
def KL(oZ:Own)(w w1:World)(a:Ad)(mt wn tn i:Nat)(wr:World):Prop:=∃n,fH a.bG n/\qo n (100000-i)/\n.dN.length<=24*i/\nR oZ w1 a n wr/\(a.bG=mt/\a.gN=wn/\a.rO=tn)/\Kp TN (fun _=>0) oZ w w1/\NL wn tn n/\∀j,j<2->(n.x j).next<=24*i
section
variable {oZ:Own} {w w1 wr:World} {a:Ad} {mt wn tn i:Nat}
theorem KL.below(h:KL oZ w w1 a mt wn tn i wr):bJ w wr:=by obtain⟨n,_,_,_,⟨o,vb,h1,b⟩,_,K,_⟩:=h;exact DF (K.trans b)
theorem KL.drew(h:KL oZ w w1 a mt wn tn i wr)(q:Nat):KL oZ w w1 a mt wn tn i (wr.drewN q):=by obtain⟨n,p,b,l,⟨o,vb,h1,c⟩,m⟩:=h;exact⟨n,p,b,l,⟨o,vb,h1.below (f_ wr q),c.trans (Kp.below (f_ wr q))⟩,m⟩
theorem KL.skip(h:KL oZ w w1 a mt wn tn i wr)(hi:i<8192):KL oZ w w1 a mt wn tn (i+1) wr:=by obtain⟨n,p,b,l,r,m,K,e,x⟩:=h;rw[show 100000-i=100000-(i+1)+1 by omega]at b;exact⟨n,p,b.less,aj,r,m,K,e,fun j c=>bV (x j c)⟩
theorem ZP(h:KL oZ w w1 a mt wn tn i wr)(hi:i<8192)(f:mt<=400)(s:Si)(i1:nO s.Sd)(i2:nO s.A)(i3:nO s.B)(t:s.S.size<=8192)(g:s.K≠3)(k:s.K≠4):Calls prog 22 #[aI a.N 0,.agg #[iZ s.K,iZ s.Sd,iZ s.A,iZ s.B,.string s.S]] wr fun e w'=>e=.returned (.bool true)/\Hid (KL oZ w w1 a mt wn tn (i+1) w'):=by obtain⟨n,p,b,l,⟨o,vb,h1,d⟩,m,K,z,x⟩:=h;rw[show 100000-i=100000-(i+1)+1 by omega]at b;refine bN (Zx h1 p _ b aj aj s.K s.Sd s.A s.B g k i1 i2 i3 s.S aj) ?_;rintro w' ⟨n',q,r⟩;exact⟨rfl,n',q.p,q.nb,bV q.bl,r.then d,m,K,q.li _ _ z,fun j c=>FN (q.nx j c) (x j c)⟩
end

def PyQ(w:World)(mt wn tn m:Nat)(e:Ending)(w':World):Prop:=∃N,e=.returned (.tuple #[aI N 0,.bool true])/\Hid (∃a oZ w1,a.N=N/\KL oZ w w1 a mt wn tn m w')
theorem Xc(oa:Option Addr)(u:List Si)(oc t:Nat)(cm x ct:Int)(hm:nO cm)(hw:nO x)(ht:nO ct)(w:World)(hO:StW w oa u)(hl:u.length<=8192)(hS:∀j,j<u.length->(u.getD j Kc).S.size<=8192)(b0:w.cell? (aB t 0)=some (iZ 3))(b1:w.cell? (aB t 1)=some (iZ 4))(hE:iE w)(hT:j4 w)(F:2<=w.heap.size):Calls prog 16 #[.slice oa u.length oc,dP t 2 2,iZ cm,iZ x,iZ ct] w fun e w'=>PyQ w (64+dL cm 337) (16+dL x 300) (16+dL ct 600) u.length e w':=by
 have l1:=fC cm 337 aj;have l2:=fC x 300 aj;have l3:=fC ct 600 aj;obtain⟨mt,l⟩:=bZ (64+dL cm 337);have T:mt<=400:=aj;obtain⟨wn,r⟩:=bZ (16+dL x 300);obtain⟨tn,n⟩:=bZ (16+dL ct 600);rw[<-l,<-r,<-n];have W:Hid (Calls prog 21 #[iZ cm,iZ x,iZ ct] w fun e w'=>∃N,e=.returned (aI N 0)/\Hid (∃a oZ,a.N=N/\KL oZ w w' a mt wn tn 0 w')):=by refine(KJ cm x ct hm hw ht w hE hT F).mono ?_;rintro e w' ⟨p,rfl,a,oZ,vb,rfl,J,g1,g2,e2⟩;rw[<-l,<-r,<-n]at g1;rw[<-l]at J;rw[<-r,<-n]at e2;exact⟨a.N,rfl,a,oZ,rfl,_,by rw[J];exact JZ mt _ _ aj aj aj,W_ _ _ _ _ aj,lg _,⟨oZ,vb,g1,Kp.refl _ _ _⟩,⟨J,e2⟩,g2,qck _ _ _,fun _ _=>j3 _⟩
 have Y:=aG hO;have HS:=aG hS;have E:t<w.heap.size:=World.block_lt_of_cell? w (aB t 0) (by rw[b0]);obtain⟨m,y⟩:=bZ u.length;have H:=aG y;rw[<-y]at hl ⊢;clear hO hS y hE hT F l r n l1 l2 l3;go_enter func16,ntmps16;go_wp2_with (go_at_call 21;refine W.out.mono ?_;rintro e w1 ⟨N,rfl,h1⟩);obtain⟨a,oZ,rfl,hP⟩:=h1.out;have Z:=aG hP;clear hP h1 W;go_loopw [13] (fun z wr=>∃i:Nat,i<=m/\z=(iZ i)/\Hid (KL oZ w w1 a mt wn tn i wr)) (fun z _=>m-(eB z).toNat);case atStart=>exact⟨0,lg _,rfl,Z⟩
 case round=>
  obtain⟨i,hi,rfl,HR⟩:=hrel;clear Z;by_cases h6:i<m
  ·have h0:(i:Int)<(m:Int):=aj;obtain⟨b,off,rfl,_⟩:=Y.out i (bV H.out);obtain⟨s,es⟩:=bZ (u.getD i Kc);have I:Hid (s.S.size<=8192):=by rw[es];exact HS.out i (bV H.out)
   have HC:Hid (∀wr,KL oZ w w1 a mt wn tn i wr->ZO wr b (off+i*5) s/\wr.cell? (aB t 0)=some (iZ 3)/\wr.cell? (aB t 1)=some (iZ 4)):=fun wr h=>by have g:=h.below;obtain⟨b',h5,e',hs⟩:=(Y.out.below g) i (bV H.out);simp only[Option.some.injEq,Addr.mk.injEq,and_true]at e';obtain⟨rfl,rfl⟩:=e';rw[es];exact⟨hs,cell_of b0 (g.block t E),cell_of b1 (g.block t E)⟩
   clear es;obtain⟨K,Sd,A,B,S⟩:=s;go_wp2;go_loopw [14,15] (fun U C V=>∃(o:Bool) (k:Nat),k<=2/\U=.bool o/\C=(iZ k)/\Hid ((o=true↔(0<k/\K=3\/1<k/\K=4))/\KL oZ w w1 a mt wn tn i V)) (fun _ C _=>2-(eB C).toNat);case atStart=>exact⟨false,0,aj,rfl,rfl,aP,HR.out⟩
   case round=>
    obtain⟨o,k,hk,rfl,rfl,d⟩:=hrel;obtain⟨hs,d0,d1⟩:=HC.out wr d.out.2;have M:=hs.c0;have O:=hs.c1;have P:=hs.c2;have Q:=hs.c3;have R:=hs.c4;have v:=aG hs;simp only at M O P Q R;clear hs;have c:=d.out.1;have f:Hid (∀q,KL oZ w w1 a mt wn tn i (wr.drewN q)):=fun q=>d.out.2.drew q;rcases(show k=0\/k=1\/k=2 by omega)with rfl|rfl|rfl
    ·obtain rfl:o=false:=by cases o<;>simp_all
     clear c d;by_cases h3:K=3
     ·subst h3;go_wp2;go_quiet (fail);go_wp2;go_roundw;case rel=>exact⟨true,1,aj,rfl,aP,aP,f.out _⟩
      case measure=>simp[eB]
     ·have X:=aG h3;go_wp2;go_quiet (fail);go_wp2;go_roundw;case rel=>exact⟨false,1,aj,by simp[X.out],aP,by simp[X.out],f.out _⟩
      case measure=>simp[eB]
    ·cases o with
     |true=>
      have L:Hid (K=3):=by
       rcases c.1 rfl with h|h;·exact h.2
       ·omega
      clear c d;go_wp2;go_quiet (fail);go_wp2;go_roundw;case rel=>exact⟨true,2,aj,rfl,aP,by simp[L.out],f.out _⟩
      case measure=>simp[eB]
     |false=>
      have L:Hid (¬K=3):=fun e=>by have:=c.2 (.inl ⟨aj,e⟩);cases this
      clear c d;by_cases h4:K=4
      ·subst h4;go_wp2;go_quiet (fail);go_wp2;go_roundw;case rel=>exact⟨true,2,aj,rfl,aP,aP,f.out _⟩
       case measure=>simp[eB]
      ·have D:=aG h4;go_wp2;go_quiet (fail);go_wp2;go_roundw;case rel=>exact⟨false,2,aj,by simp[D.out],aP,by simp[L.out,D.out],f.out _⟩
       case measure=>simp[eB]
    ·cases o with
     |true=>
      have G:=aG (d.out.2.skip aj);clear c d f;go_wp2;go_roundw;case rel=>exact⟨i+1,aj,aP,G⟩
      case measure=>simp[eB];omega
     |false=>
      have HF:=aG (ZP d.out.2 aj T ⟨K,Sd,A,B,S⟩ v.out.i1 v.out.i2 v.out.i3 I.out (fun e=>by have:=c.2 (.inl ⟨aj,e⟩);cases this) (fun e=>by have:=c.2 (.inr ⟨aj,e⟩);cases this));clear c d f;go_wp2_with (go_at_call 22;refine bN HF.out ?_;rintro w2 F);go_roundw;case rel=>exact⟨i+1,aj,aP,F⟩
      case measure=>simp[eB];omega
  ·obtain rfl:i=m:=aj;have G:Hid (∃a' oZ w1,a'.N=a.N/\KL oZ w w1 a' mt wn tn i wr):=⟨a,oZ,w1,rfl,HR.out⟩;go_wp2;go_ret2;exact⟨_,rfl,G⟩
end
section
theorem Pe:∀(i:Nat) {n n':Net},FlR i n n'->n'.now=n.now
 |0,_,_,h=>by rw[show _=_ from h]
 |i+1,n,n',h=>by obtain⟨n1,h1,M,pk,_,rfl⟩:=h;exact(Pe i h1:n1.now=n.now)
theorem Pf{l:List (Nat×Nat×List Fr)}:∀(j:Nat) {n n':Net},CmR l j n n'->n'.now=n.now
 |0,_,_,h=>by rw[show _=_ from h]
 |j+1,n,n',h=>by obtain⟨n1,h1,_,M,_,rfl⟩:=h;exact(Pf j h1:n1.now=n.now)
theorem Pg:∀(c:Nat) {n n':Net},O3 c n n'->n'.now=n.now
 |0,_,_,h=>by rw[show _=_ from h]
 |c+1,n,n',h=>by obtain⟨n1,h1,_,rfl⟩:=h;exact(Pg c h1:n1.now=n.now)
theorem Ph:∀(T:Nat) {n n':Net},zG T n n'->n'.now=n.now+T
 |0,_,_,h=>by rw[show _=_ from h];rfl
 |T+1,n,n',h=>by obtain⟨n1,h1,n2,g,n3,i,j⟩:=h;have a:=Ph T h1;have b:=Pe 2 g;have c:=Pf _ i;have d:=Pg 16 j;have e:n1.iF.now=n1.now+1:=rfl;have f:({n2 with dN:=[]}:Net).now=n2.now:=rfl;omega
def Qf(a:Ad)(n:Net):Prop:=∃n0 T0,Fin a.bG a.gN a.rO n0 T0 n
theorem Xz{bG w t:Nat}{n0 T0:Nat->Nat}{n n':Net}{T B:Nat}(h:FI bG w t n0 T0 n)(c:∀i,i<2->(n.x i).next+24*T<1073741824)(d:zG T n n')(hb:qo n (T+B)):qo n' B:=by have e:dK=4611686018427387903:=rfl;refine⟨fun i hi=>?_,by rw[Ph T d];have:=hb.2;omega⟩;obtain⟨_,x⟩:=Ik h T n' d c;obtain⟨a,b,_⟩:=x i hi;have:=hb.1 i hi;have:=c i hi;omega
theorem XA{a:Ad}{n n1:Net}(h:Qf a n)(p:fH a.bG n1)(b:∀i,i<2->n1.x i=n.x i)(hb:n1.dN=[])(e:∀w t,NL w t n->NL w t n1):Qf a n1:=by obtain⟨n0,T0,F⟩:=h;have c:∀i,i<2->n1.x (1-i)=n.x (1-i):=fun i hi=>b (1-i) aj;refine⟨n0,T0,⟨p,e _ _ F.fi.nl,hb,fun i hi=>by rw[b i hi,c i hi];exact F.fi.tp i hi,fun i hi=>by rw[b i hi];exact F.fi.sI i hi,fun i hi=>by rw[b i hi,c i hi];exact F.fi.an i hi⟩,fun i hi=>by rw[b i hi];exact F.st i hi,fun i hi=>⟨fun k d=>?_,by rw[b i hi];exact(F.q i hi).2⟩,fun i hi=>by rw[b i hi];exact F.an i hi⟩;have:=(F.q i hi).1 k d;rw[b i hi,c i hi];exact this
section
variable {oZ:Own} {w wr:World} {a:Ad} {B:Nat}
theorem KX(h:Fs oZ w a (B+1) (Qf a) wr)(b:a.bG<=400)(i:Nat)(hi:i<2):Calls prog 23 #[aI a.N 0,iZ i] wr fun e w'=>e=.returned (.bool true)/\Hid (Fs oZ w a B (Qf a) w'):=by
 refine bN (Kv h b i hi (fun n hq=>by obtain⟨_,_,F⟩:=hq;rw[F.fi.b];simp)) ?_;rintro w' q;refine⟨rfl,?_⟩;obtain⟨n',⟨n,hq,M,pk,o,rfl,_⟩,hp,hb,m⟩:=q.out;refine⟨_,?_,hp,hb,m⟩;obtain⟨n0,T0,F⟩:=id hq;obtain⟨g,l⟩:=Xv F i hi o;subst g l;have d:(n.yG i (n.x i) []).x=n.x:=by
  show(fun j=>if j=i then n.x i else n.x j)=n.x;funext j;split;·rename_i e;rw[e]
  ·rfl
 have c:(n.yG i (n.x i) []).dN=[]:=by show n.dN++[]=[];rw[F.fi.b];rfl
 exact XA hq hp (fun i _=>by rw[d]) c (fun w t k=>k.sub d (fun y f=>by rw[c]at f;cases f))
theorem Z0(h:Fs oZ w a 40 (fun n=>Qf a n/\∀i,i<2->(n.x i).next+480<1073741824) wr)(b:a.bG<=400):Calls prog 18 #[aI a.N 0,iZ 12] wr fun e w'=>e=.returned (.bool true)/\Hid (Fs oZ w a 2 (Qf a) w'):=by
 obtain⟨n,hq,hp,hb,o,vb,j,K⟩:=h;obtain⟨⟨n0,T0,F⟩,f⟩:=hq;refine bN (Ic j hp 12 aj ⟨fun i hi=>bV (hb.1 i hi),bV hb.2⟩ b) ?_;rintro w' ⟨n',d,c,k,q⟩;have e:({n with dN:=[]}:Net)=n:=by have:=F.fi.b;cases n;simp_all
 rw[e]at d;obtain⟨g,_⟩:=Pd F 12 n' d fun i hi=>bV (f i hi);exact⟨rfl,n',⟨n0,T0,g⟩,c,Xz F.fi (fun i hi=>bV (f i hi)) d ⟨fun i hi=>bV (hb.1 i hi),bV hb.2⟩,q.then K⟩
theorem XB(h:Fs oZ w a 40 (fun n=>Qf a n/\∀i,i<2->(n.x i).next+480<1073741824) wr)(d:a.bG<=400):Calls prog 20 #[aI a.N 0] wr fun e w'=>e=.returned (.bool true)/\∃n,nR oZ w a n w':=by
 have m:=aG (Z0 h d);have j:Hid (∀b,Hid (Fs oZ w a 2 (Qf a) b)->Calls prog 23 #[aI a.N 0,iZ 0] b fun e w'=>e=.returned (.bool true)/\Hid (Fs oZ w a 1 (Qf a) w')):=fun b c=>KX c.out d 0 aj;have k:Hid (∀b,Hid (Fs oZ w a 1 (Qf a) b)->Calls prog 23 #[aI a.N 0,iZ 1] b fun e w'=>e=.returned (.bool true)/\Hid (Fs oZ w a 0 (Qf a) w')):=fun b c=>KX c.out d 1 aj;have l:Hid (∀b,Hid (Fs oZ w a 0 (Qf a) b)->∃f c0,b.cell? (aB a.N 8)=some (.slice f 0 c0)/\Hid (∃n,nR oZ w a n b)):=fun b c=>by obtain⟨n,⟨n0,T0,F⟩,_,_,o,vb,g,K⟩:=c.out;obtain⟨_,_,_,_,_,c8,_⟩:=g.cells;obtain⟨f,c0,rfl⟩:=jk g.bg;rw[F.fi.b]at c8;exact⟨f,c0,c8,n,o,_,g,K⟩
 clear h;go_enter func20,ntmps20;go_wp2_with (first|(go_at_call 18;refine bN m.out ?_;rintro w1 h1;clear m)|(go_at_call 23;refine bN (j.out _ h1) ?_;rintro b c;clear j h1)|(go_at_call 23;refine bN (k.out _ c) ?_;rintro r p;clear k c;obtain⟨f,c0,c8,q⟩:=l.out _ p;clear l p));go_ret;exact⟨rfl,q.out⟩
end

end
def LvP(w:World)(N:Nat)(wr:World):Prop:=∃a oZ n vb b,a.N=N/\fu oZ wr a n vb (ends n)/\fH a.bG n/\qo n 90000/\NL a.gN a.rO n/\(∀j,j<2->(n.x j).next<=196608)/\a.bG<=400/\(16<=a.gN/\a.gN<=4096)/\(16<=a.rO/\a.rO<=4096)/\bJ w b/\Kp TN (fun _=>0) oZ b wr
def LvQ(w:World)(N:Nat)(wr:World):Prop:=∃a oZ b c,a.N=N/\a.bG<=400/\Fs oZ b a 40 (fun n=>Qf a n/\∀i,i<2->(n.x i).next+480<1073741824) wr/\bJ w c/\Kp TN (fun _=>0) oZ c b
theorem qd4{w wr:World}{N:Nat}(h:LvP w N wr):∃T:Nat,T<=1000000/\Hid (Calls prog 17 #[aI N 0] wr fun e w'=>e=.returned (iZ T)/\w'=wr)/\Hid (Calls prog 18 #[aI N 0,iZ T] wr fun e w'=>e=.returned (.bool true)/\Hid (LvQ w N w')):=by
 obtain⟨a,oZ,n,vb,I,rfl,z,hp,hb,hl,D,d,C,ht,hB,K⟩:=h;have L:dK=4611686018427387903:=rfl;obtain⟨B,f⟩:=bZ (uF n 0+uF n 1);obtain⟨T,v⟩:=bZ (60+2*(B / min a.gN a.rO+1)+B / 16);have H:B<=32768:=by have J:=Bl (g:=fun k=>((n.x 0).out k).ay.length) (c:=2048) 8 fun j _=>((hp.bd 0 aj).o j).b;have h1:=Bl (g:=fun k=>((n.x 1).out k).ay.length) (c:=2048) 8 fun j _=>((hp.bd 1 aj).o j).b;unfold uF at f;omega
 have M:T<=6300:=by have h1:B / min a.gN a.rO<=B / 16:=Nat.div_le_div_left aj aj;omega
 have p:0<min a.gN a.rO:=aj;have t:qo n (T+40):=⟨fun i hi=>bV (hb.1 i hi),bV hb.2⟩;have x:=SB z hp C ht;rw[<-f,<-v]at x;refine⟨T,aj,x,(Ic z hp T aj ⟨fun i hi=>bV (hb.1 i hi),bV hb.2⟩ d).mono ?_⟩;rintro e w' ⟨rfl,n',o,l,_,q⟩;obtain⟨m,b⟩:∃m:Net,m={n with dN:=[]}:=⟨_,rfl⟩;have pm:fH a.bG m:=by rw[b];exact hp.sub [] (fun y r=>by cases r) n.now
 have lm:NL a.gN a.rO m:=by rw[b];exact hl.sub rfl fun y r=>by cases r
 have E:∀i,(m.x i)=n.x i:=fun i=>by rw[b]
 have u:m.dN=[]:=by rw[b]
 have sm:uF m 0+uF m 1=B:=by rw[f,b];rfl
 have nb:qo m (T+40):=by rw[b];exact t
 rw[<-b]at o;have A:∀i,i<2->(m.x i).next+24*T<1073741824:=fun i hi=>by rw[E];have:=D i hi;omega
 obtain⟨F,nx,_⟩:=SA pm lm u p ⟨C.2,ht.2⟩ B T sm v A o;have G:=KW pm lm u;have s:=Xz G A o nb;refine⟨rfl,a,oZ,wr,I,rfl,d,⟨n',⟨⟨_,_,F⟩,fun i hi=>?_⟩,l,s,q⟩,hB,K⟩;have:=nx i hi;rw[E]at this;have:=D i hi;omega
theorem NI{w wr:World}{N:Nat}(h:LvQ w N wr):Calls prog 19 #[aI N 0] wr fun e w'=>e=.returned (.bool true)/\Hid (LvQ w N w'):=by obtain⟨a,oZ,f,g,rfl,b,⟨n,hq,hp,hb,o,vb,d,c⟩,hB,K⟩:=h;obtain⟨n0,T0,F⟩:=id hq.1;refine bN (NH ⟨o,vb,d,Kp.refl _ _ _⟩ (fun i hi=>(F.q i hi).1) fun i k hi=>((hp.bd i hi).o k).b) ?_;rintro w' q;exact⟨rfl,a,oZ,f,g,rfl,b,⟨n,hq,hp,hb,q.then c⟩,hB,K⟩
theorem XC{w wr:World}{N:Nat}(h:LvQ w N wr):Calls prog 20 #[aI N 0] wr fun e w'=>e=.returned (.bool true)/\Hid (bJ w w'):=by obtain⟨a,oZ,d,f,rfl,b,hF,hB,K⟩:=h;refine bN (XB hF b) ?_;rintro w' ⟨n,o,vb,_,c⟩;exact⟨rfl,hB.trans ((DF (K.trans c)).mono hB.size)⟩
theorem SE(oa:Option Addr)(c:List Si)(oc:Nat)(cm r ct:Int)(I:nO cm)(J:nO r)(ht:nO ct)(w:World)(x:StW w oa c)(hl:c.length<=140737488351232)(v:iE w)(u:j4 w)(s:2<=w.heap.size):Calls prog 9 #[.slice oa c.length oc,iZ cm,iZ r,iZ ct] w fun e w'=>e=.returned (.bool true)/\bJ w w':=by
 have l:Hid (Calls prog 14 #[.slice oa c.length oc] w fun e w'=>∃b:Bool,e=.returned (.bool b)/\Hid ((b=true->c.length<=8192/\∀j,j<c.length->(c.getD j Kc).S.size<=8192)/\w'=w)):=by refine(Xb oa c oc w x hl).mono ?_;rintro e w' ⟨b,h1,s,t⟩;exact⟨b,h1,s,t⟩
 have C:Hid (∀w1,w1=w->Calls prog 15 #[] w1 fun e w'=>e=.returned (.bool true)/\Hid (bJ w w')):=fun w1 e=>by subst e;exact Xa w1 v u s
 have A:Hid (∀f,bJ w f->(c.length<=8192/\∀j,j<c.length->(c.getD j Kc).S.size<=8192)->Calls prog 16 #[.slice oa c.length oc,dP f.heap.size 2 2,iZ cm,iZ r,iZ ct] (f.alloc (.cells #[iZ 3,iZ 4] 3)) fun e w'=>∃N,e=.returned (.tuple #[aI N 0,.bool true])/\Hid (LvP w N w')):=fun f hb hs=>by have y:bJ f (f.alloc (.cells #[iZ 3,iZ 4] 3)):=(Below.refl _ f).alloc (j3 _) _;have d:=hb.trans (y.mono hb.size);have B:=aS.new f 3 [iZ 3,iZ 4];refine(Xc oa c oc f.heap.size cm r ct I J ht _ (x.below d) hs.1 hs.2 (B.cell 0) (B.cell 1) (cell_of v (d.block 0 aj)) (fun k H=>cell_of (u k H) (d.block 1 aj)) (Nat.le_trans s d.size)).mono ?_;rintro e w' ⟨N,rfl,q⟩;obtain⟨a,oZ,w1,rfl,n,p,b,_,⟨o,vb,O,P⟩,⟨R,L,M⟩,K,nl,nx⟩:=q.out;have l1:=fC cm 337 aj;have l2:=fC r 300 aj;have Q:=fC ct 600 aj;rw[<-L,<-M]at nl;exact⟨_,rfl,a,o,n,vb,_,rfl,O,p,⟨fun i hi=>FN (b.1 i hi) hs.1,FN b.2 hs.1⟩,nl,fun j G=>FN (nx j G) hs.1,aj,aj,aj,d,K.trans P⟩
 clear x hl v u s;generalize c.length=m at *
 go_enter func9,ntmps9;go_wp2_with (first|(go_at_call 14;refine l.out.mono ?_;rintro e w1 ⟨b,rfl,h1⟩;clear l)|(go_at_call 15;refine bN (C.out _ h1.out.2) ?_;rintro f hb;clear C)|(go_at_call 16;refine(A.out f hb.out (h1.out.1 (by assumption))).mono ?_;rintro e S ⟨N,rfl,t⟩;clear A h1;obtain⟨T,u,g,h⟩:=qd4 t.out;clear t)|(go_at_call 17;refine bN g.out ?_;rintro U z;subst z;clear g)|(go_at_call 18;refine bN h.out ?_;rintro V D;clear h)|(go_at_call 19;refine bN (NI D.out) ?_;rintro W E;clear D)|(go_at_call 20;refine bN (XC E.out) ?_;rintro X F;clear E));·go_ret;exact⟨rfl,F.out⟩
 ·go_ret;exact⟨rfl,hb.out⟩
