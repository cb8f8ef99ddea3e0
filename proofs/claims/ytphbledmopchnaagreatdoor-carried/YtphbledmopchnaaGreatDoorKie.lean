import Derived.Test.YtphbledmopchnaaGreatDoorKic
import Derived.Test.YtphbledmopchnaaGreatDoorKid
set_option maxHeartbeats 4000000
set_option maxRecDepth 100000
namespace Go.Proofs.YtphbledmopchnaaGreatDoor.Sd
open Go.RowKit Go.Lib Mm Tryz
def Wd(n:Net):Prop:=((n.x 1).inn 3).read=22/\((n.x 1).inn 3).state=1
theorem JW{n:Net}(h:Wd n)(i:Nat){M:Side}(s:Sm (n.x i) M):Wd (n.bK i M):=by
 unfold Wd
 by_cases e:(1:Nat)=i
 ·subst e;rw[bT,(s.i 3).1,(s.i 3).2];exact h
 ·rw[dV _ _ _ _ e];exact h
theorem QJ:∀(i:Nat) {n n':Net},Wd n->VG i n n'->Wd n'
 |0,n,n',h,e=>by cases e;exact h
 |i+1,n,n',h,e=>by
  obtain⟨n1,e,M,pk,r,rfl⟩:=e;have:=JW (QJ i h e) i (Es r);exact this
theorem QL(l:List (Nat×Nat×List Fr)):∀(j:Nat) {n n':Net},Wd n->VH l j n n'->Wd n'
 |0,n,n',h,e=>by cases e;exact h
 |j+1,n,n',h,e=>by
  obtain⟨n1,e,F,M,r,rfl⟩:=e;exact JW (QL l j h e) _ (yD F r)
theorem QM{n:Net}(h:Wd n)(i k:Nat)(p:RdK ((n.x (1-i)).out k) ((n.x i).inn k) 4096):Wd (UG n i k):=by
 unfold Wd UG
 by_cases e:(1:Nat)=i
 ·subst e;rw[bT,fM];split
  ·rename_i O
   have G:k=3:=by omega
   subst G;obtain⟨H,I⟩:=p.s0 (by rw[h.2];omega);have F:=p.nx;rw[H]at F;exact⟨by rw[F];exact h.1,by rw[I];exact h.2⟩
  ·exact h
 ·rw[dV _ _ _ _ e];exact h
theorem QN:∀(c:Nat) {n n':Net},Wd n->MX c n n'->Wd n'
 |0,n,n',h,e=>by cases e;exact h
 |c+1,n,n',h,e=>by
  obtain⟨n1,e,p,rfl⟩:=e;exact QM (QN c h e) _ _ p
theorem Xr{n n':Net}(h:Wd n)(r:RoR n n'):Wd n':=by
 obtain⟨n2,G,n3,H,I⟩:=r;have h1:Wd n.gG:=h;have F:Wd n2:=QJ 2 h1 G;exact QN 16 (QL _ _ (show Wd {n2 with bD:=[]}from F) H) I
theorem VI(I:bI):∀(c:Nat) {n n':Net},(n.x 1).inn 3=I->(n.x 1).ins.length=8->MX c n n'->(n'.x 1).ins.length=8/\(c<=11->(n'.x 1).inn 3=I)/\(11<c->((I.rd (4096:Nat)).2.read=22/\(I.rd (4096:Nat)).2.state=1)->Wd n')
 |0,n,n',h,hl,e=>by cases e;exact⟨hl,fun _=>h,fun h=>by omega⟩
 |c+1,n,n',h,hl,e=>by
  obtain⟨n1,e,p,rfl⟩:=e;obtain⟨H,O,V⟩:=VI I c h hl e;refine⟨?_,fun U=>?_,fun U G=>?_⟩
  ·unfold UG
   by_cases F:(1:Nat)=c / 8
   ·rw[<-F,bT];show(md _ _ _).length=8;rw[fu];exact H
   ·rw[dV _ _ _ _ F];exact H
  ·have:=O (by omega);unfold UG
   by_cases F:(1:Nat)=c / 8
   ·rw[<-F,bT,fM,if_neg (by omega)];exact this
   ·rw[dV _ _ _ _ F];exact this
  ·by_cases e:c=11
   ·subst e;have:=O (by omega);show Wd (UG n1 1 3);unfold Wd UG;rw[bT,fM,if_pos ⟨rfl,by omega⟩,this];exact G
   ·exact QM (V (by omega) G) _ _ p
theorem AL{M M':Side}{pk:List (Nat×List Fr)}(h1:M.ay=[])(I:M.answer=false)(h:M.mQ M' pk):dX 14 {M with answer:=false} [] q0 []=(M',pk):=by
 obtain⟨F,hl,e⟩:=h;unfold Side.je at hl;rw[h1]at hl;have G:F=M:=hl;subst G
 have H:lf F=[]:=by unfold lf;rw[I];rfl
 rw[H]at e;exact e
def wS:ByteArray:=⟨#[115,111,109,101,32,98,121,116,101,115,32,111,102,32,97,32,115,116,114,101,97,109]⟩
def wN:Net:=((Net.new 64 116 116).lQ 0 3 wS).Iq 0 3
def wA:Side×List (Nat×List Fr):=dX 14 {(wN.gG.x 0)with answer:=false} [] q0 []
def wB:Side×List (Nat×List Fr):=dX 14 {(wN.gG.x 1)with answer:=false} [] q0 []
def wF:Fr:=⟨4,3,0,0,0,true,0,0,wS,[]⟩
def wC:Side:={wB.1 with came:=wB.1.came.add 8 0 0,answer:=wB.1.answer||wants [norm wF]}
theorem YE:wA.2=[(0,[wF])]:=by kernel_rfl
theorem YF:wB.2=[]:=by kernel_rfl
theorem YG:wB.1.came.has 0=false:=by kernel_rfl
theorem Ir:(wC.take (norm wF)).2=0/\(norm wF).kind=4/\(wC.take (norm wF)).1.ins.length=8:=⟨by kernel_rfl,by kernel_rfl,by kernel_rfl⟩
theorem ZW:((((wC.take (norm wF)).1.inn 3).rd (4096:Nat)).2.read=22/\(((wC.take (norm wF)).1.inn 3).rd (4096:Nat)).2.state=1):=⟨by kernel_rfl,by kernel_rfl⟩
theorem U3{n':Net}(r:RoR wN n'):Wd n':=by
 obtain⟨n2,⟨n1,⟨n0,e0,I,G,r0,rfl⟩,X,H,r1,rfl⟩,n3,r2,r3⟩:=r;cases e0;have eA:=AL (by kernel_rfl) (by kernel_rfl) r0;have eB:=AL (M:=(wN.gG.JM 0 I G).x 1) (by kernel_rfl) (by kernel_rfl) r1;have hA:wA=(I,G):=eA;have hB:wB=(X,H):=eB
 have p0:G=[(0,[wF])]:=by rw[<-YE,hA]
 have p1:H=[]:=by rw[<-YF,hB]
 have m1:X=wB.1:=by rw[hB]
 subst p0 p1 m1;have hb:((wN.gG.JM 0 I [(0,[wF])]).JM 1 wB.1 []).bD=[(1,0,[norm wF])]:=rfl;rw[hb]at r2;obtain⟨n4,e4,_,M,hr,rfl⟩:=r2;cases e4;have V:wB.1.h_ 0 [norm wF] M 0:=hr;unfold Side.h_ at V;rw[YG,if_neg (by decide)]at V;obtain⟨O,Z,t1,t2⟩:=V;have F:wC.fK (norm wF) O Z:=t1;unfold Side.fK at F;rw[if_neg (by rw[Ir.2.1];decide)]at F;have em:O=(wC.take (norm wF)).1:=congrArg Prod.fst F;have ee:Z=0:=(congrArg Prod.snd F).trans Ir.1;rw[if_pos ee]at t2;have U:M=O:=t2.1;subst U em;have:=VI ((wC.take (norm wF)).1.inn 3) 16 (n:=Net.bK _ 1 (wC.take (norm wF)).1) (by rw[bT]) (by rw[bT];exact Ir.2.2) r3;exact this.2.2 (by omega) ZW
theorem VJ:∀(t:Nat) {n':Net},CB (t+1) wN n'->Wd n'
 |0,n',h=>by
  obtain⟨n1,e,r⟩:=h;cases e;exact U3 r
 |t+1,n',h=>by
  obtain⟨n1,e,r⟩:=h;exact Xr (VJ t e) r
theorem E_{own:Own}{w w':World}(K:Kp TN (fun _=>0) own w w'):Below w.heap.size w w':=
 ⟨K.os,K.tape,K.output,K.size,fun b hb=>K.blk b hb VF⟩
theorem Cr(n:Nat)(h:n<=1000):jJ (n:Int):=by unfold jJ;omega
theorem QO(aH win tot B:Nat)(h:B<=1000000):ni (Net.new aH win tot) B:=⟨fun i _=>by
 show 0+24*(B+1)<aU/\0+B<_
 unfold aU;omega,by show 0+B<_;omega⟩
theorem QS(w:World)(hE:dP w)(hT:TabAt w)(I:2<=w.heap.size):
  Calls prog 15 #[] w fun e w'=>e=.returned (.bool true)/\Below w.heap.size w w':=by
 have i0:jJ 0:=Cr 0 (by omega);have i3:jJ 3:=Cr 3 (by omega);have YH:jJ 100:=Cr 100 (by omega)
 have HB:Hid (Calls prog 21 #[.int .i64 0,.int .i64 100,.int .i64 100] w fun e w'=>∃N,e=.returned (.pointer (some ⟨N,0,none⟩))/\Hid (∃a own vb,a.N=N/\a.aH=64/\bE own w' a (Net.new 64 116 116) vb (ends (Net.new 64 116 116))/\Kp TN (fun _=>0) own w w')):=by
  refine(E9 0 100 100 i0 YH YH w hE hT I).mono ?_;rintro e w' ⟨p,rfl,a,own,vb,rfl,e1,h1,I⟩;exact⟨a.N,rfl,a,own,vb,rfl,e1,h1,I⟩
 clear hE hT I;go_enter func15,ntmps15
 go_wp2_with (go_at_call 21;refine HB.out.mono ?_;rintro e w1 ⟨N,rfl,h1⟩)
 obtain⟨a,own,vb,rfl,h9,hN,hK⟩:=h1.out;clear h1 HB
 have F:dx a.aH (Net.new 64 116 116):=by rw[h9];exact Ev 64 116 116 (by omega) (by omega) (by omega)
 have q1:aV 0 2=0:=rfl;have q2:aV 3 8=3:=rfl;have G:dx a.aH ((Net.new 64 116 116).lQ 0 3 wS):=gQ F 0 (by omega) _ (CS (F.loc 0 (by omega)) (F.two 0 (by omega)) (F.two' 0 (by omega)) _ _) (Jm (F.bd 0 (by omega)) _ _) rfl rfl;have Z:dx a.aH wN:=gQ G 0 (by omega) _ (wD (G.loc 0 (by omega)) (G.two 0 (by omega)) (G.two' 0 (by omega)) _) (Ab (G.bd 0 (by omega)) _) rfl rfl
 have HA:Hid (Calls prog 22 #[.pointer (some ⟨a.N,0,none⟩),.agg #[.int .i64 1,.int .i64 0,.int .i64 3,.int .i64 0,.string wS]] w1 fun e V=>e=.returned (.bool true)/\Hid (mU own w1 a ((Net.new 64 116 116).lQ 0 3 wS) V)):=by
  have:=JR hN F 0 3 0 i0 i3 wS (by decide);rw[q1,q2]at this;exact this
 have HF:Hid (∀V,mU own w1 a ((Net.new 64 116 116).lQ 0 3 wS) V->Calls prog 22 #[.pointer (some ⟨a.N,0,none⟩),.agg #[.int .i64 2,.int .i64 0,.int .i64 3,.int .i64 0,.string ⟨#[]⟩]] V fun e U=>e=.returned (.bool true)/\Hid (mU own w1 a wN U)):=fun V I=>by
  obtain⟨o,h7,X,O⟩:=I;have:=AB X G 0 3 0 i0 i3 ⟨#[]⟩;rw[q1,q2]at this;refine this.mono ?_;rintro e U ⟨rfl,q⟩;exact⟨rfl,q.then O⟩
 have HR:Hid (∀U,mU own w1 a wN U->Calls prog 18 #[.pointer (some ⟨a.N,0,none⟩),.int .i64 4] U fun e H=>e=.returned (.bool true)/\Hid (∃n',Wd n'/\mU own w1 a n' H)):=fun U X=>by
  obtain⟨o,h7,O,h5⟩:=X;have ha:ni ((Net.new 64 116 116).lQ 0 3 wS) 12:=ni.bK (QO 64 116 116 12 (by omega)) 0 (M:=((Net.new 64 116 116).x 0).aW 3 ((((Net.new 64 116 116).x 0).out 3).send wS.data.toList).1) rfl rfl;have hb:ni wN 12:=ni.bK ha 0 (M:=((((Net.new 64 116 116).lQ 0 3 wS).x 0).aW 3 ((((Net.new 64 116 116).lQ 0 3 wS).x 0).out 3).finish.1)) rfl rfl;refine(UM O Z 4 (by omega) hb (by omega)).mono ?_;rintro e H ⟨rfl,n',p,_,_,q⟩;exact⟨rfl,n',VJ 3 p,q.then h5⟩
 have HE:Hid (∀n' H,Wd n'->mU own w1 a n' H->H.cell? ⟨a.N,1,none⟩=some (.slice (some ⟨a.eb,0,none⟩) 2 a.ec)/\H.cell? ⟨a.eb,0,none⟩=some (.slice (some ⟨a.el 0,0,none⟩) 8 (a.EB 0))/\H.cell? ⟨a.el 0,3,none⟩=some (.pointer (some ⟨a.e 0 3,0,none⟩))/\H.cell? ⟨a.e 0 3,4,none⟩=some (.int .i64 22)/\H.cell? ⟨a.e 0 3,5,none⟩=some (.int .i64 1)/\Below w.heap.size w H):=fun n' H hw O=>by
  obtain⟨o,h7,h5,h6⟩:=O;obtain⟨_,c1,_⟩:=h5.cells;obtain⟨e1,e2,e3⟩:=h5.JJ 0 3 (by omega) (by omega);refine⟨c1,e1,e2,?_,?_,E_ (hK.trans h6)⟩
  ·rw[e3];show some (Value.int .i64 (((n'.x 1).inn 3).read:Int))=_;rw[hw.1];rfl
  ·rw[e3];show some (Value.int .i64 (((n'.x 1).inn 3).state:Int))=_;rw[hw.2];rfl
 have h0:wS=⟨#[115,111,109,101,32,98,121,116,101,115,32,111,102,32,97,32,115,116,114,101,97,109]⟩:=rfl;rw[h0]at HA;clear hN hK F G Z q1 q2 h0
 go_wp2_with (first
  |(go_at_call 22;refine HA.out.mono ?_;rintro e V ⟨rfl,I⟩;clear HA)
  |(go_at_call 22;refine(HF.out _ I.out).mono ?_;rintro e U ⟨rfl,X⟩)
  |(go_at_call 18;refine(HR.out _ X.out).mono ?_;rintro e H ⟨rfl,O⟩;obtain⟨n',hw,hn⟩:=O.out;obtain⟨c1,c2,c3,c4,c5,hb⟩:=HE.out n' H hw hn;have h8:=hid hb;clear hb hw hn O))
 go_ret;exact⟨rfl,h8.out⟩
structure MI where
 K:Int
 Sd:Int
 A:Int
 B:Int
 S:ByteArray
def st0:MI:=⟨0,0,0,0,⟨#[]⟩⟩
structure U4 (w:World) (b off:Nat) (s:MI):Prop where
 c0:w.cell? ⟨b,off,none⟩=some (.int .i64 s.K)
 c1:w.cell? ⟨b,off+1,none⟩=some (.int .i64 s.Sd)
 c2:w.cell? ⟨b,off+2,none⟩=some (.int .i64 s.A)
 c3:w.cell? ⟨b,off+3,none⟩=some (.int .i64 s.B)
 c4:w.cell? ⟨b,off+4,none⟩=some (.string s.S)
 i1:jJ s.Sd
 i2:jJ s.A
 i3:jJ s.B
 ls:s.S.size<=140737488351232
def VK(w:World)(oa:Option Addr)(F:List MI):Prop:=∀j,j<F.length->∃b off,oa=some ⟨b,off,none⟩/\U4 w b (off+j*5) (F.getD j st0)
theorem VK.below{w w':World}{oa:Option Addr}{G:List MI}(h:VK w oa G)(hb:Below w.heap.size w w'):VK w' oa G:=fun j H=>by
 obtain⟨b,off,e,s⟩:=h j H;have F:b<w.heap.size:=World.block_lt_of_cell? w ⟨b,_,none⟩ (by rw[s.c0]);have g:=hb.block b F;exact⟨b,off,e,cell_of s.c0 g,cell_of s.c1 g,cell_of s.c2 g,cell_of s.c3 g,cell_of s.c4 g,s.i1,s.i2,s.i3,s.ls⟩
def SmQ(F:List MI)(w:World)(e:Ending)(w':World):Prop:=∃b:Bool,e=.returned (.bool b)/\(b=true->F.length<=8192/\∀j,j<F.length->(F.getD j st0).S.size<=8192)/\w'=w
theorem Iu{F:List MI}{w:World}{e:Ending}{w':World}(b:Bool)(h1:e=.returned (.bool b))(G:b=true->F.length<=8192/\∀j,j<F.length->(F.getD j st0).S.size<=8192)(H:w'=w):SmQ F w e w':=⟨b,h1,G,H⟩
theorem QT(oa:Option Addr)(F:List MI)(oc:Nat)(w:World)(V:VK w oa F)(hl:F.length<=140737488351232):
  Calls prog 14 #[.slice oa F.length oc] w fun e w'=>SmQ F w e w':=by
 have HO:=hid V;obtain⟨m,I⟩:∃m,m=F.length:=⟨_,rfl⟩;have U:=hid I;rw[<-I]at hl ⊢;clear V I;go_enter func14,ntmps14;go_wp2
 go_loopw [3,4] (fun s3 O wr=>∃i n:Nat,i<=m/\O=.int .i64 i/\s3=.int .i64 n/\m<=n/\n<=281474976710656/\Hid (wr=w/\∀j,j<i->(F.getD j st0).S.size<=n)) (fun _ O _=>m-(intOf O).toNat)
 case atStart=>exact⟨0,m,Nat.zero_le _,rfl,rfl,Nat.le_refl _,by omega,rfl,fun j X=>by omega⟩
 case round=>
  obtain⟨i,n,hi,rfl,rfl,h3,h4,G⟩:=hrel
  by_cases h2:i<m
  ·have Z:(i:Int)<(m:Int):=by omega
   by_cases hn:n<=8192
   ·have H:(n:Int)<=8192:=by omega
    obtain⟨b,off,rfl,hs⟩:=HO.out i (by have:=U.out;omega);have c4:=hs.c4;rw[<-G.out.1]at c4;have h0:=hs.ls
    have HS:Hid (wr=w/\∀j,j<i+1->(F.getD j st0).S.size<=n+(F.getD i st0).S.size):=⟨G.out.1,fun j X=>by
     by_cases e:j=i
     ·rw[e];omega
     ·have:=G.out.2 j (by omega);omega⟩
    clear hs G;generalize (F.getD i st0).S=D at *;go_wp2;go_roundw
    case rel=>exact⟨i+1,n+D.size,by omega,by simp,by simp,by omega,by omega,HS⟩
    case measure=>simp[intOf];omega
   ·have H:¬((n:Int)<=8192):=by omega
    go_wp2;go_ret;exact Iu false rfl (fun h=>by cases h) G.out.1
  ·obtain rfl:i=m:=by omega
   by_cases hn:n<=8192
   ·have H:(n:Int)<=8192:=by omega
    have HE:Hid (F.length<=8192/\∀j,j<F.length->(F.getD j st0).S.size<=8192):=by
     have:=U.out;exact⟨by omega,fun j X=>by have:=G.out.2 j (by omega);omega⟩
    go_wp2;go_ret;exact Iu true rfl (fun _=>HE.out) G.out.1
   ·have H:¬((n:Int)<=8192):=by omega
    go_wp2;go_ret;exact Iu false rfl (fun h=>by cases h) G.out.1
def Iw(own:Own)(w w1:World)(a:Ad)(mt i:Nat)(wr:World):Prop:=∃n,dx a.aH n/\ni n (8192-i)/\n.bD.length<=24*i/\mU own w1 a n wr/\a.aH=mt/\Kp TN (fun _=>0) own w w1
theorem Iw.below{own:Own}{w w1:World}{a:Ad}{mt i:Nat}{wr:World}(h:Iw own w w1 a mt i wr):Below w.heap.size w wr:=by
 obtain⟨n,_,_,_,⟨o,vb,h1,F⟩,_,K⟩:=h;exact E_ (K.trans F)
theorem Iw.drew{own:Own}{w w1:World}{a:Ad}{mt i:Nat}{wr:World}(h:Iw own w w1 a mt i wr)(q:Nat):Iw own w w1 a mt i (wr.drewN q):=by
 obtain⟨n,p,b,l,⟨o,vb,h1,F⟩,m,K⟩:=h;exact⟨n,p,b,l,⟨o,vb,h1.below (b_ wr q),F.trans (Kp.below (b_ wr q))⟩,m,K⟩
theorem Iw.skip{own:Own}{w w1:World}{a:Ad}{mt i:Nat}{wr:World}(h:Iw own w w1 a mt i wr)(hi:i<8192):Iw own w w1 a mt (i+1) wr:=by
 obtain⟨n,p,b,l,r⟩:=h;rw[show 8192-i=8192-(i+1)+1 by omega]at b;exact⟨n,p,b.less,by omega,r⟩
theorem U5{own:Own}{w w1:World}{a:Ad}{mt i:Nat}{wr:World}(h:Iw own w w1 a mt i wr)(hi:i<8192)(G:mt<=400)(s:MI)(i1:jJ s.Sd)(i2:jJ s.A)(i3:jJ s.B)(O:s.S.size<=8192)(H:s.K≠3)(I:s.K≠4):
  Calls prog 22 #[.pointer (some ⟨a.N,0,none⟩),.agg #[.int .i64 s.K,.int .i64 s.Sd,.int .i64 s.A,.int .i64 s.B,.string s.S]] wr fun e w'=>e=.returned (.bool true)/\Hid (Iw own w w1 a mt (i+1) w'):=by
 obtain⟨n,p,b,l,⟨o,vb,h1,F⟩,m,K⟩:=h;rw[show 8192-i=8192-(i+1)+1 by omega]at b;refine(UF h1 p _ b (by omega) (by omega) s.K s.Sd s.A s.B H I i1 i2 i3 s.S (by omega)).mono ?_;rintro e w' ⟨rfl,n',q,r⟩;exact⟨rfl,n',q.p,q.nb,by have:=q.bl;omega,r.then F,m,K⟩
theorem QU(oa:Option Addr)(ss:List MI)(oc O:Nat)(cm cw ct:Int)(hm:jJ cm)(hw:jJ cw)(ht:jJ ct)(w:World)(hO:VK w oa ss)(hl:ss.length<=8192)(hS:∀j,j<ss.length->(ss.getD j st0).S.size<=8192)(b0:w.cell? ⟨O,0,none⟩=some (.int .i64 3))(b1:w.cell? ⟨O,1,none⟩=some (.int .i64 4))(hE:dP w)(hT:TabAt w)(h2:2<=w.heap.size):
  Calls prog 16 #[.slice oa ss.length oc,.slice (some ⟨O,0,none⟩) 2 2,.int .i64 cm,.int .i64 cw,.int .i64 ct] w fun e w'=>(∃p,e=.returned (.tuple #[p,.bool true]))/\Below w.heap.size w w':=by
 have l1:=bL cm 337 (by omega);have l2:=bL cw 300 (by omega);have l3:=bL ct 600 (by omega);obtain⟨mt,h6⟩:∃mt,mt=64+aV cm 337:=⟨_,rfl⟩
 have ZX:mt<=400:=by omega
 have HB:Hid (Calls prog 21 #[.int .i64 cm,.int .i64 cw,.int .i64 ct] w fun e w'=>∃N,e=.returned (.pointer (some ⟨N,0,none⟩))/\Hid (∃a own,a.N=N/\Iw own w w' a mt 0 w')):=by
  refine(E9 cm cw ct hm hw ht w hE hT h2).mono ?_;rintro e w' ⟨p,rfl,a,own,vb,rfl,e1,g1,g2⟩;rw[<-h6]at e1 g1;exact⟨a.N,rfl,a,own,rfl,_,by rw[e1];exact Ev mt _ _ (by omega) (by omega) (by omega),QO _ _ _ _ (by omega),Nat.zero_le _,⟨own,vb,g1,Kp.refl _ _ _⟩,e1,g2⟩
 have HO:=hid hO;have HS:=hid hS;have h5:O<w.heap.size:=World.block_lt_of_cell? w ⟨O,0,none⟩ (by rw[b0]);obtain⟨m,V⟩:∃m,m=ss.length:=⟨_,rfl⟩;have HM:=hid V;rw[<-V]at hl ⊢;clear hO hS V hE hT h2 h6 l1 l2 l3;go_enter func16,ntmps16
 go_wp2_with (go_at_call 21;refine HB.out.mono ?_;rintro e w1 ⟨N,rfl,h1⟩)
 obtain⟨a,own,rfl,hP⟩:=h1.out;have HP:=hid hP;clear hP h1 HB
 go_loopw [13] (fun X wr=>∃i:Nat,i<=m/\X=.int .i64 i/\Hid (Iw own w w1 a mt i wr)) (fun X _=>m-(intOf X).toNat)
 case atStart=>exact⟨0,Nat.zero_le _,rfl,HP⟩
 case round=>
  obtain⟨i,hi,rfl,HR⟩:=hrel;clear HP
  by_cases ho:i<m
  ·have hj:(i:Int)<(m:Int):=by omega
   obtain⟨b,off,rfl,_⟩:=HO.out i (by have:=HM.out;omega);obtain⟨s,es⟩:∃s,s=ss.getD i st0:=⟨_,rfl⟩
   have h7:Hid (s.S.size<=8192):=by rw[es];exact HS.out i (by have:=HM.out;omega)
   have HC:Hid (∀wr,Iw own w w1 a mt i wr->U4 wr b (off+i*5) s/\wr.cell? ⟨O,0,none⟩=some (.int .i64 3)/\wr.cell? ⟨O,1,none⟩=some (.int .i64 4)):=fun wr h=>by
    have I:=h.below;obtain⟨b',hn,e',hs⟩:=(HO.out.below I) i (by have:=HM.out;omega);simp only[Option.some.injEq,Addr.mk.injEq,and_true]at e';obtain⟨rfl,rfl⟩:=e';rw[es];exact⟨hs,cell_of b0 (I.block O h5),cell_of b1 (I.block O h5)⟩
   clear es;obtain⟨K,Sd,A,B,S⟩:=s;go_wp2
   go_loopw [14,15] (fun hf Z hg=>∃(o:Bool) (k:Nat),k<=2/\hf=.bool o/\Z=.int .i64 k/\Hid ((o=true↔(0<k/\K=3\/1<k/\K=4))/\Iw own w w1 a mt i hg)) (fun _ Z _=>2-(intOf Z).toNat)
   case atStart=>exact⟨false,0,by omega,rfl,rfl,by simp,HR.out⟩
   case round=>
    obtain⟨o,k,hk,rfl,rfl,G⟩:=hrel;obtain⟨hs,d0,d1⟩:=HC.out wr G.out.2;have h8:=hs.c0;have h9:=hs.c1;have ha:=hs.c2;have hc:=hs.c3;have he:=hs.c4;have U:=hid hs;simp only at h8 h9 ha hc he;clear hs;have F:=G.out.1
    have H:Hid (∀q,Iw own w w1 a mt i (wr.drewN q)):=fun q=>G.out.2.drew q
    rcases(show k=0\/k=1\/k=2 by omega)with rfl|rfl|rfl
    ·obtain rfl:o=false:=by cases o<;>simp_all
     clear F G
     by_cases h3:K=3
     ·subst h3;go_wp2
      go_quiet (fail)
      go_wp2;go_roundw
      case rel=>exact⟨true,1,by omega,rfl,by simp,by simp,H.out _⟩
      case measure=>simp[intOf]
     ·have HK:=hid h3;go_wp2
      go_quiet (fail)
      go_wp2;go_roundw
      case rel=>exact⟨false,1,by omega,by simp[HK.out],by simp,by simp[HK.out],H.out _⟩
      case measure=>simp[intOf]
    ·cases o with
     |true=>
      have hK:Hid (K=3):=by
       rcases F.1 rfl with h|h
       ·exact h.2
       ·omega
      clear F G;go_wp2
      go_quiet (fail)
      go_wp2;go_roundw
      case rel=>exact⟨true,2,by omega,rfl,by simp,by simp[hK.out],H.out _⟩
      case measure=>simp[intOf]
     |false=>
      have hK:Hid (¬K=3):=fun e=>by
       have:=F.2 (.inl ⟨by omega,e⟩);cases this
      clear F G
      by_cases h4:K=4
      ·subst h4;go_wp2
       go_quiet (fail)
       go_wp2;go_roundw
       case rel=>exact⟨true,2,by omega,rfl,by simp,by simp,H.out _⟩
       case measure=>simp[intOf]
      ·have h0:=hid h4;go_wp2
       go_quiet (fail)
       go_wp2;go_roundw
       case rel=>exact⟨false,2,by omega,by simp[h0.out],by simp,by simp[hK.out,h0.out],H.out _⟩
       case measure=>simp[intOf]
    ·cases o with
     |true=>
      have HE:=hid (G.out.2.skip (by omega));clear F G H;go_wp2;go_roundw
      case rel=>exact⟨i+1,by omega,by simp,HE⟩
      case measure=>simp[intOf];omega
     |false=>
      have HF:=hid (U5 G.out.2 (by omega) ZX ⟨K,Sd,A,B,S⟩ U.out.i1 U.out.i2 U.out.i3 h7.out (fun e=>by have:=F.2 (.inl ⟨by omega,e⟩);cases this) (fun e=>by have:=F.2 (.inr ⟨by omega,e⟩);cases this));clear F G H
      go_wp2_with (go_at_call 22;refine HF.out.mono ?_;rintro e w2 ⟨rfl,h2⟩)
      go_roundw
      case rel=>exact⟨i+1,by omega,by simp,h2⟩
      case measure=>simp[intOf];omega
  ·obtain rfl:i=m:=by omega
   have HE:=hid HR.out.below;go_wp2;go_ret2;exact⟨⟨_,rfl⟩,HE.out⟩
theorem Ct(oa:Option Addr)(F:List MI)(oc:Nat)(cm U ct:Int)(hm:jJ cm)(hw:jJ U)(ht:jJ ct)(w:World)(Z:VK w oa F)(hl:F.length<=140737488351232)(X:dP w)(hT:TabAt w)(O:2<=w.heap.size):
  Calls prog 8 #[.slice oa F.length oc,.int .i64 cm,.int .i64 U,.int .i64 ct] w fun e w'=>e=.returned (.bool true)/\Below w.heap.size w w':=by
 have I:Hid (Calls prog 14 #[.slice oa F.length oc] w fun e w'=>∃b:Bool,e=.returned (.bool b)/\Hid ((b=true->F.length<=8192/\∀j,j<F.length->(F.getD j st0).S.size<=8192)/\w'=w)):=by
  refine(QT oa F oc w Z hl).mono ?_;rintro e w' ⟨b,h1,O,V⟩;exact⟨b,h1,O,V⟩
 have HW:Hid (∀w1,w1=w->Calls prog 15 #[] w1 fun e w'=>e=.returned (.bool true)/\Hid (Below w.heap.size w w')):=fun w1 e=>by
  subst e;exact QS w1 X hT O
 have HP:Hid (∀H,Below w.heap.size w H->(F.length<=8192/\∀j,j<F.length->(F.getD j st0).S.size<=8192)->Calls prog 16 #[.slice oa F.length oc,.slice (some ⟨H.heap.size,0,none⟩) 2 2,.int .i64 cm,.int .i64 U,.int .i64 ct] (H.alloc (.cells #[.int .i64 3,.int .i64 4] 3)) fun e w'=>(∃p,e=.returned (.tuple #[p,.bool true]))/\Hid (Below w.heap.size w w')):=fun H hb hs=>by
  have h0:Below H.heap.size H (H.alloc (.cells #[.int .i64 3,.int .i64 4] 3)):=(Below.refl _ H).alloc (Nat.le_refl _) _;have G:=hb.trans (h0.mono hb.size);have B:=ak.new H 3 [.int .i64 3,.int .i64 4];refine(QU oa F oc H.heap.size cm U ct hm hw ht _ (Z.below G) hs.1 hs.2 (B.cell 0) (B.cell 1) (cell_of X (G.block 0 (by omega))) (fun k hk=>cell_of (hT k hk) (G.block 1 (by omega))) (Nat.le_trans O G.size)).mono ?_;rintro e w' ⟨p,q⟩;exact⟨p,G.trans (q.mono G.size)⟩
 clear Z hl X hT O;generalize F.length=m at *;go_enter func8,ntmps8
 go_wp2_with (first
  |(go_at_call 14;refine I.out.mono ?_;rintro e w1 ⟨b,rfl,h1⟩;clear I)
  |(go_at_call 15;refine(HW.out _ h1.out.2).mono ?_;rintro e H ⟨rfl,hb⟩)
  |(go_at_call 16;refine(HP.out H hb.out (h1.out.1 (by assumption))).mono ?_;rintro e w3 ⟨⟨p,rfl⟩,V⟩))
 ·go_ret;exact⟨rfl,V.out⟩
 ·go_ret;exact⟨rfl,hb.out⟩
end Go.Proofs.YtphbledmopchnaaGreatDoor.Sd
