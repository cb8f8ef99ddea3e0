import Derived.Test.YtphbledmopchnaaGreatDoorUab
open Bool renaming and_eq_true->nI
open List renaming length_append->fA,append_assoc->mR,append_nil->sQ
open Nat renaming le_refl->tL
open Go.World renaming block_lt_of_cell?->fB
set_option maxHeartbeats 1000000
set_option maxRecDepth 100000
namespace Go.Proofs.YtphbledmopchnaaGreatDoor
open Go.RowKit Go.Lib Go.Shelf Mm Tryz
def fG(rs:aP):Nat->List UInt8
 |0=>[]
 |k+1=>fG rs k++(Num.bytes ((rs.getD k (0,0)).1-(rs.getD (k+1) (0,0)).2-2)++Num.bytes ((rs.getD (k+1) (0,0)).2-(rs.getD (k+1) (0,0)).1))
def iJ(rs:aP):List UInt8:=
 Num.bytes (rs.getD 0 (0,0)).2++(Num.bytes (rs.length-1)++Num.bytes ((rs.getD 0 (0,0)).2-(rs.getD 0 (0,0)).1))
def dP(rs:aP):List UInt8:=iJ rs++fG rs (rs.length-1)
theorem dQ(n:Nat):(Num.bytes n).length<=8:=by
 rw[Num.eH];have:2 ^ Num.code n<=2 ^ 3:=Nat.pow_le_pow_right (by decide) (Num.Jz n);omega
theorem DU(rs:aP):∀k,(fG rs k).length<=16*k
 |0=>by simp[fG]
 |k+1=>by
  have h:=DU rs k;have h1:=dQ ((rs.getD k (0,0)).1-(rs.getD (k+1) (0,0)).2-2);have F:=dQ ((rs.getD (k+1) (0,0)).2-(rs.getD (k+1) (0,0)).1);rw[fG,fA,fA];omega
theorem Gr.cell{w w':World}{v v':Value}(h:Gr w w' v v'){k o:Nat}{x:Value}(G:w.cell? (aj k o)=some x)(F:v.ownBlock≠some k):w'.cell? (aj k o)=some x:=
 cell_of G (h.1.block k (fB _ _ G) (fun e=>F e.symm))
theorem JD{rs:aP}(h:mX rs=true):0<rs.length/\∀k,k<rs.length->(rs.getD k (0,0)).1<=(rs.getD k (0,0)).2/\(rs.getD k (0,0)).2<=aZ/\(0<k->(rs.getD k (0,0)).2+1<(rs.getD (k-1) (0,0)).1):=by
 unfold mX at h;rw[nI,List.all_eq_true]at h;refine⟨of_decide_eq_true h.2,fun k F=>?_⟩;have:=h.1 k (by simpa using F);unfold oG at this;rw[nI,nI,Bool.or_eq_true]at this;refine⟨of_decide_eq_true this.1.1,of_decide_eq_true this.1.2,fun G=>?_⟩
 rcases this.2 with e|e
 ·have:=of_decide_eq_true e;omega
 ·exact of_decide_eq_true e
theorem xI(rs:aP):∀(m k:Nat),k<=m->(fG rs k).length<=(fG rs m).length
 |0,k,h=>by
   obtain rfl:k=0:=by omega
   exact tL _
 |m+1,k,h=>by
  by_cases e:k=m+1
  ·rw[e];exact tL _
  ·have:=xI rs m k (by omega);rw[fG,fA];omega
theorem Ov{rs:aP}(F:∀k,k<rs.length->(rs.getD k (0,0)).1<=(rs.getD k (0,0)).2/\(rs.getD k (0,0)).2<=aZ/\(0<k->(rs.getD k (0,0)).2+1<(rs.getD (k-1) (0,0)).1))(k:Nat)(O:k+1<rs.length):
  ∃ga gb:Nat,ga=(rs.getD k (0,0)).1-(rs.getD (k+1) (0,0)).2-2/\gb=(rs.getD (k+1) (0,0)).2-(rs.getD (k+1) (0,0)).1/\
   (((rs.getD k (0,0)).1:Nat):Int)-(((rs.getD (k+1) (0,0)).2:Nat):Int)=(((rs.getD k (0,0)).1-(rs.getD (k+1) (0,0)).2:Nat):Int)/\
   (((rs.getD k (0,0)).1-(rs.getD (k+1) (0,0)).2:Nat):Int)-2=(ga:Int)/\
   (((rs.getD (k+1) (0,0)).2:Nat):Int)-(((rs.getD (k+1) (0,0)).1:Nat):Int)=(gb:Int)/\ga<4611686018427387904/\gb<4611686018427387904/\IntKind.u64.wrap ((((rs.getD k (0,0)).1-(rs.getD (k+1) (0,0)).2:Nat)):Int)=((((rs.getD k (0,0)).1-(rs.getD (k+1) (0,0)).2:Nat)):Int)/\IntKind.u64.wrap (ga:Int)=(ga:Int)/\IntKind.u64.wrap (gb:Int)=(gb:Int):=by
 obtain⟨o1,G,H⟩:=F (k+1) (by omega);have I:=H (by omega);rw[Nat.add_sub_cancel]at I;obtain⟨U,K,_⟩:=F k (by omega);unfold aZ at G K;exact⟨_,_,rfl,rfl,by omega,by omega,by omega,by omega,by omega,by rw[IntKind.wrap_u64];omega,by rw[IntKind.wrap_u64];omega,by rw[IntKind.wrap_u64];omega⟩
theorem KY{B0 B1:Nat}{w1:World}(b off:Nat)(f:Fr)(ra:Option Addr)(rc:Nat)(hR:mX f.ranges=true)(xy:f.ranges.length<=rc):
  Wr B0 B1 w1 (.func (.func 325) #[] #[]) (dP f.ranges) b off f ra rc:=by
 refine⟨325,_,rfl,enters_of func325 (by kernel_rfl) rfl,fun w v l hp hl=>?_⟩;obtain⟨hm,hx⟩:=JD hR;have xz:=hp.oI.rlen;have hf:=xI f.ranges (f.ranges.length-1)
 have xi:l.length+((iJ f.ranges).length+(fG f.ranges (f.ranges.length-1)).length)<=35184372088832:=by
  unfold dP at hl;rw[fA]at hl;exact hl
 obtain⟨rb,ro,hr,r1,r2,_,_⟩:=hp.oI.rng 0 hm;rw[Nat.zero_mul,Nat.add_zero]at r1 r2;have y7:rb<w.heap.size:=fB _ _ r1;have xm:=hp.nr _ hr;have c9:=hp.oI.c9;rw[hr]at c9;obtain⟨q1,q2,_⟩:=hx 0 hm;have xo:=hp.buf.lt;have xn:=hp.alloc (.cells #[(uZ ((f.ranges.getD 0 (0,0)).1:Int)),(uZ ((f.ranges.getD 0 (0,0)).2:Int))] 170);have xe:(w.alloc (.cells #[(uZ ((f.ranges.getD 0 (0,0)).1:Int)),(uZ ((f.ranges.getD 0 (0,0)).2:Int))] 170)).cell? (aj w.heap.size 0)=some (uZ ((f.ranges.getD 0 (0,0)).1:Int)):=(aA.new w 170 [(uZ ((f.ranges.getD 0 (0,0)).1:Int)),(uZ ((f.ranges.getD 0 (0,0)).2:Int))]).cell 0;have xf:(w.alloc (.cells #[(uZ ((f.ranges.getD 0 (0,0)).1:Int)),(uZ ((f.ranges.getD 0 (0,0)).2:Int))] 170)).cell? (aj w.heap.size 1)=some (uZ ((f.ranges.getD 0 (0,0)).2:Int)):=(aA.new w 170 [(uZ ((f.ranges.getD 0 (0,0)).1:Int)),(uZ ((f.ranges.getD 0 (0,0)).2:Int))]).cell 1;have hc:Hid (iJ f.ranges=Num.bytes (f.ranges.getD 0 (0,0)).2++(Num.bytes (f.ranges.length-1)++Num.bytes ((f.ranges.getD 0 (0,0)).2-(f.ranges.getD 0 (0,0)).1))):=rfl
 have xv:l.length+24<=35184372088832+24:=by omega
 have rP:=au xn;have HK:=au (And.intro xe xf);have x6:=au xo;have h4:=au xi;have Ar:=au hf;have hy:=au hx;have x5:=au hr;have h8:=hc;have GQ:Hid (dP f.ranges=iJ f.ranges++fG f.ranges (f.ranges.length-1)):=rfl;have xr:=au xm;have HP:=au hp;generalize xl:(f.ranges.getD 0 (0,0)).1=TF at *;generalize xt:(f.ranges.getD 0 (0,0)).2=K at *;have qP:=au xl
 have g1:(1:Int)<=((f.ranges.length:Nat):Int):=by omega
 have g2:((f.ranges.length:Nat):Int)<=(rc:Int):=by omega
 clear hp xn xe xf xo xi hl hf hx hc hR hr xm xl xt xv;have y4:b<w.heap.size:=fB _ _ c9;obtain⟨d0,x9⟩:∃d0,d0=K-TF:=⟨_,rfl⟩
 have ed:(K:Int)-(TF:Int)=(d0:Int):=by omega
 have y8:d0<=K:=by omega
 have x0:=au x9;have h0:=au (bJ v l K _ rP.out.buf (by unfold aZ at q2;omega) (by have:=h4.out;omega))
 have x7:∀(x1:World) (v1:Value),Buf x1 v1 (l++Num.bytes K)->Gr (w.alloc (.cells #[uZ TF,uZ K] 170)) x1 v v1->
   zV B0 B1 w1 x1 v1 (l++Num.bytes K) b off f ra rc/\x1.cell? (aj w.heap.size 0)=some (uZ TF)/\x1.cell? (aj w.heap.size 1)=some (uZ K)/\v1.ownBlock≠some w.heap.size:=fun x1 v1 hB hG=>by
  have h6:v.ownBlock≠some w.heap.size:=fun e=>by have:=x6.out _ e;omega
  refine⟨rP.out.next hB hG,hG.cell HK.out.1 h6,hG.cell HK.out.2 h6,fun e=>?_⟩
  rcases hG.2 _ e with e'|e'
  ·exact h6 e'
  ·simp at e';omega
 have rW:=au x7;clear x7 x9 HK rP x6 xr
 by_cases x8:rc=1
 ·have ho:f.ranges.length=1:=by omega
  subst x8
  have Xc:Hid (iJ f.ranges=Num.bytes K++(Num.bytes 0++Num.bytes (K-TF))):=by rw[h8.out,ho];rfl
  have TG:Hid (dP f.ranges=iJ f.ranges):=by rw[GQ.out,ho];exact sQ _
  rw[ho]at c9;clear h8 GQ g1 g2 xz hm xy ho Ar hy x5;go_enter func325,ntmps325
  go_wp2_with fail
  refine h0.out.mono ?_;rintro e x1 ⟨v1,rfl,H,G⟩;obtain⟨Z,a0,a1,hg⟩:=rW.out x1 v1 H G;have X:=au (bJ v1 _ 0 x1 H (by omega) (by have:=h4.out;rw[Xc.out]at this;simp only[fA]at this ⊢;omega));have NY:=au G;have qQ:=au Z;have DV:=au hg;clear H G Z hg h0 rW
  go_wp2_with fail
  refine X.out.mono ?_;rintro e x2 ⟨v2,rfl,O,F⟩;have b0:=F.cell a0 DV.out;have b1:=F.cell a1 DV.out;have V:=qQ.out.next O F
  have hj:v2.ownBlock≠some w.heap.size:=fun e=>by
   rcases F.2 _ e with e'|e'
   ·exact DV.out e'
   ·have:=fB _ _ a0;simp at this;omega
  have NZ:=au (bJ v2 _ d0 x2 O (by unfold aZ at q2;omega) (by have:=h4.out;rw[Xc.out]at this;simp only[fA]at this ⊢;omega));have h2:=au (NY.out.trans F);have uE:=au V;have h9:=au hj;clear O F V hj X NY qQ DV a0 a1
  go_wp2_with fail
  refine NZ.out.mono ?_;rintro e x3 ⟨v3,rfl,ha,U⟩;have d1:=U.cell b0 h9.out;have Ow:=uE.out.next ha U;rw[mR,mR,x0.out,<-Xc.out]at Ow;have hv:=au (h2.out.trans U);have Dz:=au Ow;clear ha U Ow NZ h2 uE h9 b0 b1
  go_wp2_with fail
  go_loopw [0,7,41] (fun s0 s7 hn wr=>hn=(iZ 0)/\s0=v3/\wr=x3) (fun _ _ _ _=>0)
  case atStart=>exact⟨rfl,rfl,rfl⟩
  case round=>
   obtain⟨rfl,rfl,rfl⟩:=hrel;have I:=Dz.out.buf;rw[<-TG.out]at I;have HF:=au I;clear I Dz;go_wp2;go_ret;exact⟨_,rfl,HF.out,hv.out.alloc _⟩
 ·have g3:¬(rc=1):=x8;go_enter func325,ntmps325
  go_wp2_with fail
  refine h0.out.mono ?_;rintro e x1 ⟨v1,rfl,H,G⟩;obtain⟨Z,a0,a1,hg⟩:=rW.out x1 v1 H G;have X:=au (bJ v1 _ (f.ranges.length-1) x1 H (by omega) (by have:=h4.out;rw[h8.out]at this;simp only[fA]at this ⊢;omega));have NY:=au G;have qQ:=au Z;have DV:=au hg;clear H G Z hg h0 rW
  go_wp2_with fail
  refine X.out.mono ?_;rintro e x2 ⟨v2,rfl,O,F⟩;have b0:=F.cell a0 DV.out;have b1:=F.cell a1 DV.out;have V:=qQ.out.next O F
  have hj:v2.ownBlock≠some w.heap.size:=fun e=>by
   rcases F.2 _ e with e'|e'
   ·exact DV.out e'
   ·have:=fB _ _ a0;simp at this;omega
  have NZ:=au (bJ v2 _ d0 x2 O (by unfold aZ at q2;omega) (by have:=h4.out;rw[h8.out]at this;simp only[fA]at this ⊢;omega));have h2:=au (NY.out.trans F);have uE:=au V;have h9:=au hj;clear O F V hj X NY qQ DV a0 a1
  go_wp2_with fail
  refine NZ.out.mono ?_;rintro e x3 ⟨v3,rfl,ha,U⟩;have d1:=U.cell b0 h9.out;have Ow:=uE.out.next ha U;rw[mR,mR,x0.out,<-h8.out]at Ow;have hv:=au (h2.out.trans U);have Dz:=au Ow;clear ha U Ow NZ h2 uE h9 b0 b1
  go_wp2_with fail
  go_loopw [0,7,41] (fun s0 s7 hn wr=>∃k:Nat,k<=f.ranges.length-1/\hn=(iZ k)/\s7=(uZ ((f.ranges.getD k (0,0)).1:Nat))/\Hid (zV B0 B1 w1 wr s0 ((l++iJ f.ranges)++fG f.ranges k) b off f ra rc)/\Hid (Gr (w.alloc (.cells #[uZ TF,uZ K] 170)) wr v s0)) (fun _ _ hn _=>f.ranges.length-1-(intOf hn).toNat)
  case atStart=>exact⟨0,Nat.zero_le _,rfl,by rw[qP.out],by rw[fG,sQ];exact Dz.out,hv.out⟩
  case round=>
   obtain⟨k,hk,rfl,rfl,JE,x4⟩:=hrel
   by_cases y5:k<f.ranges.length-1
   ·obtain⟨y9,ya,Xd,t1,t2,z1,z2⟩:=JE.out.oI.rng (k+1) (by omega);rw[x5.out]at Xd;simp at Xd;obtain⟨rfl,rfl⟩:=Xd;rw[show ro+(k+1)*2=ro+2+k*2 by omega]at t1 t2;obtain⟨ga,gb,xa,xd,e1,e2,e3,YG,YH,e4,e5,e6⟩:=Ov hy.out k (by omega);have h3:Hid (fG f.ranges (k+1)=fG f.ranges k++(Num.bytes ((f.ranges.getD k (0,0)).1-(f.ranges.getD (k+1) (0,0)).2-2)++Num.bytes ((f.ranges.getD (k+1) (0,0)).2-(f.ranges.getD (k+1) (0,0)).1))):=rfl;rw[<-xa,<-xd]at h3;have he:=Ar.out (k+1) (by omega);rw[h3.out]at he;simp only[fA]at he;have xx:=h4.out;clear xa xd;generalize (f.ranges.getD k (0,0)).1=y6 at e1 e2 e4 ⊢;generalize (f.ranges.getD (k+1) (0,0)).2=h5 at t2 z2 e1 e2 e3 e4;generalize hZ:(f.ranges.getD (k+1) (0,0)).1=h7 at t1 z1 e3;clear z1 z2;have hw:=JE.out.alloc (.cells #[uZ h7,uZ h5] 170);have n0:(wr.alloc (.cells #[uZ h7,uZ h5] 170)).cell? (aj wr.heap.size 0)=some (uZ h7):=(aA.new wr 170 [uZ h7,uZ h5]).cell 0;have n1:(wr.alloc (.cells #[uZ h7,uZ h5] 170)).cell? (aj wr.heap.size 1)=some (uZ h5):=(aA.new wr 170 [uZ h7,uZ h5]).cell 1
    have h6:u0.ownBlock≠some wr.heap.size:=fun e=>by have:=JE.out.buf.lt _ e;omega
    have h0:=au (bJ u0 _ ga _ hw.buf YG (by simp only[fA];omega))
    have xj:(((l++iJ f.ranges)++fG f.ranges k)++Num.bytes ga).length<=35184372088832:=by simp only[fA];omega
    have xp:=au xj;have Z5:=au YH;have HW:=au hw;have YI:=au (And.intro n0 (And.intro n1 h6));have HZ:=au hZ
    have y3:(k:Int)<((f.ranges.length-1:Nat):Int):=by omega
    have y0:rb<wr.heap.size:=fB _ _ t1;clear hZ hw n0 n1 h6 xj YH YG he xx
    go_wp2_with fail
    refine h0.out.mono ?_;rintro e y1 ⟨s1,rfl,H,G⟩;obtain⟨m0,m1,hu⟩:=YI.out;have p0:=G.cell m0 hu;have p1:=G.cell m1 hu;have Z:=HW.out.next H G;have X:=au (bJ s1 _ gb y1 H Z5.out xp.out);have NY:=au (x4.out.trans (G.alloc _));have qQ:=au Z
    have YJ:s1.ownBlock≠some wr.heap.size:=fun e=>by
     rcases G.2 _ e with e'|e'
     ·exact hu e'
     ·simp at e';omega
    have Z6:=au YJ;clear m0 m1 hu H G Z h0 HW YI YJ
    go_wp2_with fail
    refine X.out.mono ?_;rintro e y2 ⟨s2,rfl,O,F⟩;have p2:=F.cell p0 Z6.out;have V:=qQ.out.next O F;rw[mR,mR,<-h3.out]at V;have h2:=au (NY.out.trans F);have uE:=au V;clear O F V X NY qQ p0 p1
    go_wp2_with fail
    go_roundw
    case rel=>exact⟨k+1,by omega,by go_num,by rw[HZ.out],uE,h2⟩
    case measure=>simp[intOf];omega
   ·obtain rfl:k=f.ranges.length-1:=by omega
    have I:=JE.out.buf;rw[mR,<-GQ.out]at I;have HF:=au I;clear I JE;go_wp2;go_ret;exact⟨_,rfl,HF.out,x4.out.alloc _⟩
def bE(ps:List (List UInt8)):Nat->List UInt8
 |0=>[]
 |k+1=>bE ps k++ps.getD k []
theorem rX(ps:List (List UInt8)):∀(m k:Nat),k<=m->(bE ps k).length<=(bE ps m).length
 |0,k,h=>by
   obtain rfl:k=0:=by omega
   exact tL _
 |m+1,k,h=>by
  by_cases e:k=m+1
  ·rw[e];exact tL _
  ·have:=rX ps m k (by omega);rw[bE,fA];omega
theorem GR{B0 B1:Nat}{w1:World}(pb qb F:Nat)(fw fr:Nat->Value)(ps:List (List UInt8))(b off:Nat)(f:Fr)(ra:Option Addr)(rc:Nat)(hn:F<=100)(h3:B0<=pb)(h4:pb<B1)(h6:B0<=qb)(h7:qb<B1)(h5:w1.cell? (aj pb 0)=some (aS qb F F))(G:∀j,j<F->w1.cell? (aj qb (j*2))=some (fw j)/\w1.cell? (aj qb (j*2+1))=some (fr j))(h0:∀j,j<F->∃g cb,fr j=.func (.func g) #[] cb)(h9:∀j,j<F->Wr B0 B1 w1 (fw j) (ps.getD j []) b off f ra rc):
  Wr B0 B1 w1 (.func (.func 323) #[] #[ay pb 0]) (bE ps F) b off f ra rc:=by
 refine⟨323,_,rfl,enters_of func323 (by kernel_rfl) rfl,fun w v l hp hl=>?_⟩;have cp:=hp.keep.cell h3 h4 h5;have HP:=au hp;have Ar:=au (rX ps F);have HL:=au hl;have HC:=au G;have ha:=au h0;have hf:=au h9;have HQ:=au (And.intro h6 h7);clear hp hl G h0 h9 h5 h3 h4 h6 h7;go_enter func323,ntmps323
 go_wp2_with fail
 go_loopw [0,10] (fun s0 U wr=>∃k:Nat,k<=F/\U=(iZ k)/\Hid (zV B0 B1 w1 wr s0 (l++bE ps k) b off f ra rc)/\Hid (Gr w wr v s0)) (fun _ U _=>F-(intOf U).toNat)
 case atStart=>exact⟨0,Nat.zero_le _,rfl,by rw[bE,sQ];exact HP.out,Gr.refl w v⟩
 case round=>
  obtain⟨k,hk,rfl,Z,X⟩:=hrel
  by_cases K:k<F
  ·have hj:(k:Int)<(F:Int):=by omega
   obtain⟨q1,q2⟩:=HC.out k K;have t1:=Z.out.keep.cell HQ.out.1 HQ.out.2 q1;have t2:=Z.out.keep.cell HQ.out.1 HQ.out.2 q2;obtain⟨g,cb,h2,eg,hW⟩:=hf.out k K;obtain⟨g2,KZ,H⟩:=ha.out k K;rw[h2]at t1;rw[H]at t2;have hw:=Z.out.alloc (.cells #[.func (.func g) #[] cb,.func (.func g2) #[] KZ] 318);have I:=Ar.out (k+1) (by omega);have hg:=HL.out;have h8:Hid (bE ps (k+1)=bE ps k++ps.getD k []):=rfl;rw[h8.out,fA]at I;have hc:=hW _ _ _ hw (by rw[fA];omega);have V:=au hc;have HW:=au hw;have hm:qb<wr.heap.size:=fB _ _ t1;clear h2 H hw I hg hc hW q1 q2
   go_wp2_with fail
   refine V.out.mono ?_;rintro e y ⟨s1,rfl,hB,hG⟩;have O:=HW.out.next hB hG;rw[mR,<-h8.out]at O;have qQ:=au O;have he:=au (X.out.trans (hG.alloc _));clear hB hG O V HW
   go_wp2_with fail
   go_roundw
   case rel=>exact⟨k+1,by omega,by go_num,qQ,he⟩
   case measure=>simp[intOf];omega
  ·obtain rfl:k=F:=by omega
   have HF:=au Z.out.buf;clear Z;go_wp2;go_ret;exact⟨_,rfl,HF.out,X.out⟩
