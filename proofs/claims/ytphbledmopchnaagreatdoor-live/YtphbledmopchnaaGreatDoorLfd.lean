import Derived.Test.YtphbledmopchnaaGreatDoorLeb
import Derived.Test.YtphbledmopchnaaGreatDoorLdd
import Derived.Sort.AtCall
open Go.RowKit.Below renaming refl->eT
open List renaming length_take->lg
open Nat renaming le_refl->eB,le_max_right->mK,le_max_left->mY,min_le_left->nA,not_lt_zero->nI
open Go.Value renaming ownBlock->j3,int->mI
set_option maxHeartbeats 4000000
set_option maxRecDepth 100000
namespace Go.Proofs.YtphbledmopchnaaGreatDoor.Sd
open Go.RowKit Go.Lib Mm Tryz
theorem EG.loc{oZ:Own}{t:Nat}{w:World}{l:bO}{o:Nat}{m:eH}(h:EG oZ t w l o m):EG (loc oZ w.heap.size) t w l o m:=by obtain⟨vh,vc,h1,a,b⟩:=h;exact⟨vh,vc,h1,a.loc,b.loc⟩
theorem Yk(S o:Nat)(w:World):Calls prog 238 #[aI S o,iZ 0] w fun e w'=>e=.returned nZ/\w'=w:=by go_enter func238,ntmps238;go_wp2;go_ret;exact⟨rfl,rfl⟩
theorem UA(m:eH):m.cut 0=m:=by cases m;simp[eH.cut]
theorem Yl{s t:Nat}{oZ:Own}{S o:Nat}{l:bO}{w:World}{m m':eH}(hB:aS w S TS l)(b:oZ S=s)(i:s<t)(f:EG oZ t w l o m)(j:Nat)(v:Value)(g:o<=j)(a:j<o+13)(h:∀vh vc,zT l o m vh vc->zT (l.set j v) o m' vh vc)(d:m'.bU=m.bU)(e:m'.aM=m.aM):Uh s t oZ S o l w m' (w.setCell (aB S j) v):=by
 have h1:=gM.one hB j v o 13 g a;obtain⟨vh,vc,k1,k2,k⟩:=f;have c:=h1.kp b (T:=[s]) aP;refine⟨oZ,_,h1.kp b aP,h1.cZ,h1.gN,vh,vc,h _ _ k1,?_,?_⟩;·rw[d];exact k2.kp c (by simp;omega)
 ·rw[e];exact k.kp c (by simp;omega)
theorem UC{v v':Value}{a b:Int}(h:v=v')(c:a=b):Ending.returned (.tuple #[v,iZ a])=.returned (.tuple #[v',iZ b]):=by rw[h,c]
theorem xK(S:Nat)(y:Nat)(w:World)(c:w.cell? (aB S 238)=some (iZ y)):Calls prog 137 #[aI S 0] w fun e w'=>e=.returned (.bool (decide (y=0)))/\w'=w:=by go_enter func137,ntmps137;go_wp2;go_ret;refine⟨congrArg (fun b=>Ending.returned (.bool b)) ?_,rfl⟩;rw[Bool.eq_iff_iff];simp
theorem uR(n a b:Int)(w:World):Calls prog 185 #[iZ n,iZ a,iZ b] w fun e w'=>e=.returned (.bool (decide (a<=n/\n<=b)))/\w'=w:=by
 by_cases h1:a<=n
 ·by_cases c:n<=b;·rw[decide_eq_true (show a<=n/\n<=b from⟨h1,c⟩)];go_enter func185,ntmps185;go_wp2;go_ret;exact⟨rfl,rfl⟩
  ·rw[decide_eq_false (show¬(a<=n/\n<=b)from fun h=>c h.2)];go_enter func185,ntmps185;go_wp2;go_ret;exact⟨rfl,rfl⟩
 ·rw[decide_eq_false (show¬(a<=n/\n<=b)from fun h=>h1 h.1)];go_enter func185,ntmps185;go_wp2;go_ret;exact⟨rfl,rfl⟩
theorem zi(S k:Nat)(d:k<8)(w:World)(c:w.cell? (aB S 238)=some (iZ ((0:Nat):Int))):Calls prog 146 #[aI S 0,iZ k] w fun e w'=>e=.returned (.tuple #[(aI S (4+27*k)),.nilIface])/\w'=w:=by have b:=aG (xK S 0 w c);have a:=aG (uR (k:Int) 0 7 w);rw[decide_eq_true (show(0:Int)<=(k:Int)/\(k:Int)<=7 by omega)]at a;go_enter func146,ntmps146;go_wp2_with (first|(go_at_call 137;refine bN b.out ?_;rintro w' rfl)|(go_at_call 185;refine bN a.out ?_;rintro w' rfl)|go_in);go_ret2;rw[Nat.mul_comm 27 k];exact⟨rfl,rfl⟩
theorem fP.open{oZ:Own}{s:Nat}{w:World}{S:Nat}{l:bO}{M:av}{bw bl bi:Nat}{vc:Value}(h:fP oZ s w S l M bw bl bi vc)(a:M.mJ=0):w.cell? (aB S 238)=some (iZ ((0:Nat):Int)):=by rw[h.cZ.cell,h.cells.oU,a]
theorem Ym(oZ:Own)(s:Nat)(S:Nat)(l:bO)(M:av)(bw bl bi:Nat)(vc:Value)(k:Nat)(f:k<8)(bs:List UInt8)(a:Addr)(c:Nat)(w:World)(h:fP oZ s w S l M bw bl bi vc)(j:M.mJ=0)(hl:(M.out k).ay.length<=2048)(d:dV w (some a) bs)(b:bs.length<=1000000000):Calls prog 108 #[aI S 0,iZ k,.slice (some a) bs.length c] w fun e w'=>e=.returned (rz ((M.out k).send bs).2)/\jC s oZ w S bw bl bi (M.dD k ((M.out k).send bs).1) w':=by have i:=aG (zi S k f w (h.open j));have g:=aG ((Yb s (s+1+5*k) oZ S (4+27*k) (M.out k) bs a c l w h.cZ h.ow aj (h.out k f) hl d b).mono fun e w' (q:_/\_)=>(⟨q.1,h.dD k f _ q.2⟩:e=.returned (rz ((M.out k).send bs).2)/\jC s oZ w S bw bl bi (M.dD k ((M.out k).send bs).1) w'));go_enter func108,ntmps108;go_wp2_with (first|(go_at_call 146;refine bN i.out ?_;rintro w' rfl)|(go_at_call 147;refine bN g.out ?_;rintro w' hq)|go_in);go_ret;exact⟨rfl,hq⟩
theorem Qt(oZ:Own)(s:Nat)(S:Nat)(l:bO)(M:av)(bw bl bi:Nat)(vc:Value)(k:Nat)(a:k<8)(w:World)(h:fP oZ s w S l M bw bl bi vc)(d:M.mJ=0):Calls prog 109 #[aI S 0,iZ k] w fun e w'=>e=.returned (rz (M.out k).finish.2)/\jC s oZ w S bw bl bi (M.dD k (M.out k).finish.1) w':=by have c:=aG (zi S k a w (h.open d));have b:=aG ((PX s (s+1+5*k) oZ S (4+27*k) (M.out k) l w h.cZ h.ow aj (h.out k a)).mono fun e w' (q:_/\_)=>(⟨q.1,h.dD k a _ q.2⟩:e=.returned (rz (M.out k).finish.2)/\jC s oZ w S bw bl bi (M.dD k (M.out k).finish.1) w'));go_enter func109,ntmps109;go_wp2_with (first|(go_at_call 146;refine bN c.out ?_;rintro w' rfl)|(go_at_call 148;refine bN b.out ?_;rintro w' hq)|go_in);go_ret;exact⟨rfl,hq⟩
theorem extract_toList(D:ByteArray)(a b:Nat):(D.extract a b).data.toList=(D.data.toList.take b).drop a:=by rw[ByteArray.data_extract,Array.toList_extract,List.extract_eq_drop_take',List.drop_take]
theorem Yn(m:eH)(f:Fr):m.take f=(
  if max f.aD m.aR<min (bC f) ({m with fF:=max m.fF (bC f),bM:=m.bM||f.bn,fU:=if f.bn then bC f else m.fU}:eH).wanted then
   ({m with fF:=max m.fF (bC f),bM:=m.bM||f.bn,fU:=if f.bn then bC f else m.fU}:eH).hold (max f.aD m.aR) ((f.data.data.toList.take (min (bC f) ({m with fF:=max m.fF (bC f),bM:=m.bM||f.bn,fU:=if f.bn then bC f else m.fU}:eH).wanted-f.aD)).drop (max f.aD m.aR-f.aD))
  else{m with fF:=max m.fF (bC f),bM:=m.bM||f.bn,fU:=if f.bn then bC f else m.fU}):=rfl
structure Ld (ow:Own) (s t S o B:Nat) (f:Fr) (rv:Value) (l0:bO) (w:World) (l:bO) (m:eH) (y:World):Prop where
 kp:Kp [s,t,t+1] ow ow w y
 cZ:aS y S TS l
 gN:kW l0 l o 13
 bF:EG ow t y l o m
 box:aS y B 65 (gG f rv)
theorem Ld.below{ow:Own}{s t S o B:Nat}{f:Fr}{rv:Value}{l0:bO}{w:World}{l:bO}{m:eH}{y y':World}(h:Ld ow s t S o B f rv l0 w l m y)(hb:bJ y y'):Ld ow s t S o B f rv l0 w l m y':=
 ⟨h.kp.iW hb,h.cZ.of_heap (hb.block _ h.cZ.lt),h.gN,h.bF.kp (Kp.below (T:=[]) hb) aP aP (kW.refl l (o+13) 0) aj,h.box.of_heap (hb.block _ h.box.lt)⟩
theorem Ld.cell{ow:Own}{s t S o B:Nat}{f:Fr}{rv:Value}{l0:bO}{w:World}{l:bO}{m m':eH}{y:World}(h:Ld ow s t S o B f rv l0 w l m y)(e:ow S=s)(n:s<t)(hB:ow B=0)(k:0<s)(j:Nat)(v:Value)(i:o<=j)(b:j<o+13)(g:∀vh vc,zT l o m vh vc->zT (l.set j v) o m' vh vc)(c:m'.bU=m.bU)(d:m'.aM=m.aM):Ld ow s t S o B f rv l0 w (l.set j v) m' (y.setCell (aB S j) v):=by
 have h1:=gM.one h.cZ j v o 13 i b;have a:=h1.kp e (T:=[s]) aP;obtain⟨vh,vc,k1,k2,p⟩:=h.bF;refine⟨h.kp.trans (a.mono aP),h1.cZ,h.gN.trans h1.gN,⟨vh,vc,g _ _ k1,?_,?_⟩,cO h.box a (by rw[hB];simp;omega)⟩;·rw[c];exact k2.kp a (by simp;omega)
 ·rw[d];exact p.kp a (by simp;omega)
theorem Ld.drewN{ow:Own}{s t S o B:Nat}{f:Fr}{rv:Value}{l0:bO}{w:World}{l:bO}{m:eH}{y:World}(h:Ld ow s t S o B f rv l0 w l m y)(q:Nat):Ld ow s t S o B f rv l0 w l m (y.drewN q):=h.below ⟨rfl,rfl,rfl,eB _,fun _ _=>rfl⟩
theorem Ld.wanted{ow:Own}{s t S o B:Nat}{f:Fr}{rv:Value}{l0:bO}{w:World}{l:bO}{m:eH}{y:World}(h:Ld ow s t S o B f rv l0 w l m y):Calls prog 306 #[aI S o] y fun e w'=>e=.returned (uZ m.wanted)/\w'=y:=by obtain⟨vh,vc,k1,_⟩:=h.bF;exact yT S o m vh vc y l h.cZ k1
theorem Ld.aR{ow:Own}{s t S o B:Nat}{f:Fr}{rv:Value}{l0:bO}{w:World}{l:bO}{m:eH}{y:World}(h:Ld ow s t S o B f rv l0 w l m y):y.cell? (aB S (o+4))=some (uZ m.aR):=by obtain⟨vh,vc,k1,_⟩:=h.bF;exact in4 S o m vh vc y l h.cZ k1
theorem Yo(s t:Nat)(oZ:Own)(S o:Nat)(m:eH)(f:Fr)(rv:Value)(l:bO)(w:World)(hB:aS w S TS l)(hS:oZ S=s)(ha:0<s)(L:s<t)(hO:EG oZ t w l o m)(ok:OkI m)(ho:f.aD<=dK)(hd:f.data.size<=1000000000)(hE:bC f<=dK)(hv:bC f<=m.aR+100000):Calls prog 298 #[aI S o,fM f rv] w fun e w'=>e=.returned (.tuple #[])/\Uh s t oZ S o l w (m.take f) w':=by
 have hm:=hB.lt;obtain⟨ow,J⟩:=bZ (loc oZ w.heap.size);have F:ow S=s:=by rw[J,jv _ _ _ hm,hS]
 have h7:ow w.heap.size=0:=by rw[J,iX _ _ _ (eB _)]
 have hj:EG ow t w l o m:=by rw[J];exact hO.loc
 obtain⟨W,hW⟩:=bZ (w.alloc (.cells (gG f rv).toArray 65));have hb:aS W w.heap.size 65 (gG f rv):=by rw[hW];exact aS.new w 65 _
 have V:bJ w W:=by rw[hW];exact(eT _ w).alloc (eB _) _
 have T0:Ld ow s t S o w.heap.size f rv l w l m W:=⟨Kp.below V,hB.of_heap (V.block _ hm),kW.refl _ _ _,hj.kp (Kp.below (T:=[]) V) aP aP (kW.refl l (o+13) 0) aj,hb⟩;have O:=aG (fun y=>kG f rv y ho hd);obtain⟨x0,x1,x2,x3,x4,x5,x6,x7,x8,x9,xf⟩:=bL hb;have kV:Hid (∀w' m',m'=m.take f->Uh s t ow S o l w m' w'->Uh s t oZ S o l w (m.take f) w'):=fun w' m' e h=>by rw[<-e];rw[J]at h;obtain⟨aY,l',h1,h2⟩:=h;exact⟨aY,l',h1.lH,h2⟩
 have P:=aG (Yn m f);generalize m.take f=Z at *
 generalize hg:bC f=E at *
 have he:Hid (f.aD+f.data.size=E):=by unfold Hid;rw[<-hg];rfl
 clear hg;have hf:=aG T0;clear hb V T0 hj J hO;unfold fM at *
 unfold gG at hW;go_enter func298,ntmps298;go_wp2_with fail;rw[<-hW];clear hW;refine bN (O.out W) ?_;rintro y1 tZ;have T1:=hf.out.below tZ;obtain⟨vh,vc,k1,k2,k3⟩:=T1.bF;have h5:=aG (zW S o m vh vc y1 l T1.cZ k1 E);have c7:=in7 S o m vh vc y1 l T1.cZ k1;have f7:=T1.cZ.frozen (o+7);have T2:=T1.cell F L h7 ha (o+7) (uZ ((max m.fF E:Nat):Int)) aj aj (m':={m with fF:=max m.fF E}) (fun _ _ h=>Uj h _) rfl rfl;generalize max m.fF E=Y at *
 obtain⟨y2,M⟩:=bZ (y1.setCell (aB S (o+7)) (uZ Y));rw[<-M]at T2;obtain⟨z0,z1,z2,z3,z4,z5,z6,z7,z8,z9,zf⟩:=bL T1.box;have n1:¬(S=w.heap.size):=aj;have n2:¬(w.heap.size=S):=aj;have q:=aG T2;clear T1 T2 k1 k2 k3 tZ x0 x1 x2 x3 x4 x5 x6 x7 x8 x9 xf hf;go_wp2_with fail;refine bN h5.out ?_;rintro y rfl;rcases(Bool.eq_false_or_eq_true f.bn).symm with hfi|hfi
 ·have t5:y.cell? (aB w.heap.size 5)=some (.bool false):=by rw[<-hfi];exact z5
  have ER:=aG hfi;clear hfi z0 z1 z2 z3 z4 z5 z6 z7 z8 z9 zf;go_wp2_with fail;rw[<-M];clear M t5 c7 f7 h5;obtain⟨a,b⟩:∃a:eH,a={m with fF:=Y}:=⟨_,rfl⟩;have c:=q;rw[<-b]at c;obtain⟨l3,H⟩:=bZ (l.set (o+7) (uZ Y));rw[<-H]at c;obtain⟨y3,n⟩:=bZ y2;rw[<-n];rw[<-n]at c;have d:Hid (Z=if max f.aD m.aR<min E a.wanted then a.hold (max f.aD m.aR) ((f.data.data.toList.take (min E a.wanted-f.aD)).drop (max f.aD m.aR-f.aD))else a):=by have h:=P.out;rw[ER.out]at h;simp only[Bool.or_false,Bool.false_eq_true,if_false]at h;rw[b];exact h
  have r:Hid (a.aR=m.aR/\a.bU=m.bU/\a.aM=m.aM):=by rw[b];exact⟨rfl,rfl,rfl⟩
  clear n H b q P ER;obtain⟨lo,h9,UG⟩:=max2 f.aD m.aR;obtain⟨hi,h8,UH⟩:=min2 E a.wanted;obtain⟨C,u⟩:=bZ (Ld ow s t S o w.heap.size f rv l w l3 a:World->Prop);have k:Hid (∀v,C v->v.cell? (aB S (o+4))=some (uZ m.aR)/\(v.cell? (aB w.heap.size 0)=some (iZ f.aC)/\v.cell? (aB w.heap.size 1)=some (iZ f.aH)/\v.cell? (aB w.heap.size 2)=some (uZ f.aD)/\v.cell? (aB w.heap.size 3)=some (uZ f.aV)/\v.cell? (aB w.heap.size 4)=some (uZ f.aL)/\v.cell? (aB w.heap.size 5)=some (.bool f.bn)/\v.cell? (aB w.heap.size 6)=some (uZ f.id)/\v.cell? (aB w.heap.size 7)=some (uZ f.aW)/\v.cell? (aB w.heap.size 8)=some (.string f.data)/\v.cell? (aB w.heap.size 9)=some rv/\∀j,v.frozen? (aB w.heap.size j)=false)):=fun v h=>by rw[u]at h;exact⟨by rw[<-r.out.1];exact h.aR,bL h.box⟩
  have x:Hid (∀v,C v->Calls prog 318 #[.agg #[iZ f.aC,iZ f.aH,uZ f.aD,uZ f.aV,uZ f.aL,.bool f.bn,uZ f.id,uZ f.aW,.string f.data,rv]] v fun e p=>e=.returned (uZ E)/\C p):=fun v h=>by refine bN (O.out v) ?_;rintro v' hb;rw[u]at h ⊢;exact⟨rfl,h.below hb⟩
  have z:Hid (∀v,C v->Calls prog 306 #[aI S o] v fun e p=>e=.returned (uZ a.wanted)/\C p):=fun v h=>by have h':=h;rw[u]at h';refine bN h'.wanted ?_;rintro v' rfl;exact⟨rfl,h⟩
  have B:C (y3.drewN 1):=by rw[u];exact c.out.drewN 1
  have HC:=aG u;have N:=aG UG;have Q:=aG UH;clear u UG UH;refine wp_region_quiet (C:=C) bH bH B ?_;dsimp only;repeat
   refine wpQuiet_step (fun K U=>?_);go_simp;first
    |(
      refine U _ ?_;clear U K)
    |(
      apply Exists.intro;refine⟨fun y hy=>?_,U _ ?_⟩
      (first
       |exact x.out y hy
       |exact z.out y hy
       |(
         obtain⟨c4,d0,d1,d2,d3,d4,d5,d6,d7,d8,d9,df⟩:=k.out y hy;go_simp;rfl)
       |rfl)
      clear U K)
  refine wpQuiet_nil ?_;intro y5 g;obtain⟨c4,d0,d1,d2,d3,d4,d5,d6,d7,d8,d9,df⟩:=k.out y5 g;rw[HC.out]at g;have i:=aG g;clear g HC x z k B h9 h8 c;have A:Hid (f.aD<=lo/\m.aR<=lo/\hi<=E/\E=f.aD+f.data.size):=by
   refine⟨?_,?_,?_,?_⟩;·rw[N.out];exact mY _ _
   ·rw[N.out];exact mK _ _
   ·rw[Q.out];exact nA _ _
   ·exact he.out.symm
  by_cases I:lo<hi
  ·obtain⟨l1,l2,l4,l5⟩:=A.out;have hc:E<=4611686018427387904:=by have:=hE;unfold dK at this;omega
   obtain⟨D,R⟩:=bZ (f.data.extract (lo-f.aD) (hi-f.aD));have hr:∀X,(Instr.slice 9 (.string f.data) (some (uZ ((lo:Int)-(f.aD:Int)))) (some (uZ ((hi:Int)-(f.aD:Int)))) none).run prog X=.ok (.string D) X:=fun X=>by rw[run_slice_string X 9 f.data .u64 .u64 _ _ bH aj aj aj,R];have e1:((lo:Int)-(f.aD:Int)).toNat=lo-f.aD:=aj;have e2:((hi:Int)-(f.aD:Int)).toNat=hi-f.aD:=aj;rw[e1,e2]
   have G:lo-m.aR+D.size<=1000000:=by rw[R,ByteArray.size_extract];omega
   have HH:=aG (Ou s t ow S o lo D a l3 y5 i.out.cZ F L i.out.bF (by rw[r.out.2.1,r.out.2.2];exact ok.cl) (by rw[r.out.2.1];exact ok.hl) (by rw[r.out.1];exact l2) (by unfold dK;omega) (by rw[r.out.1];exact G));have h6:Hid (a.hold lo D.data.toList=Z):=by have h:=d.out;rw[<-N.out,<-Q.out,bK I]at h;unfold Hid;rw[h,R,extract_toList]
   have g0:0<=(lo:Int)-(f.aD:Int):=aj;have g1:(lo:Int)-(f.aD:Int)<18446744073709551616:=aj;have g2:0<=(hi:Int)-(f.aD:Int):=aj;have g3:(hi:Int)-(f.aD:Int)<18446744073709551616:=aj;clear c4 d0 d1 d3 d4 d5 d6 d7 d9 df l5 hc l4 l1 l2 R G d N Q A;go_wp2_with fail;refine bN HH.out ?_;rintro y6 hQ;have HQ:Hid (Uh s t oZ S o l w Z y6):=by obtain⟨aY,l',h1,h2,h3,h4⟩:=hQ;rw[h6.out]at h4;exact kV.out y6 Z rfl ⟨aY,l',i.out.kp.trans h1,h2,i.out.gN.trans h3,h4⟩
   clear HH hQ;go_wp2_with fail;go_end0;exact⟨rfl,HQ.out⟩
  ·clear c4 d0 d1 d2 d3 d4 d5 d6 d7 d8 d9 df;go_wp2_with fail;go_end0;have h:=d.out;rw[<-N.out,<-Q.out,aU I]at h;exact⟨rfl,kV.out _ _ h.symm ⟨ow,l3,i.out.kp,i.out.cZ,i.out.gN,i.out.bF⟩⟩
 ·have ER:=aG hfi;have t5:y.cell? (aB w.heap.size 5)=some (.bool true):=by rw[<-hfi];exact z5
  clear z5;have h0:=aG (O.out y2);rw[hfi]at h0;have d:Hid (∀a:eH,a={m with fF:=Y,bM:=true,fU:=E}->(Z=if max f.aD m.aR<min E a.wanted then a.hold (max f.aD m.aR) ((f.data.data.toList.take (min E a.wanted-f.aD)).drop (max f.aD m.aR-f.aD))else a)):=fun a b=>by have h:=P.out;rw[hfi]at h;simp only[Bool.or_true,if_true]at h;rw[b];exact h
  clear hfi P;have hu:y2.cell? (aB w.heap.size 0)=some (iZ f.aC):=(bL q.out.box).1;obtain⟨x0,x1,x2,x3,x4,x5,x6,x7,x8,x9,xf⟩:=bL q.out.box;rw[ER.out]at x5;clear hu;go_wp2_with fail;rw[<-M];refine bN h0.out ?_;rintro y4 hk;have T3:=q.out.below hk;obtain⟨hn,jQ,k1,k2,k3⟩:=T3.bF;have c8:=in8 S o _ hn jQ y4 _ T3.cZ k1;have c9:=in9 S o _ hn jQ y4 _ T3.cZ k1;have f8:=T3.cZ.frozen (o+8);have f9:=T3.cZ.frozen (o+9);have T4:=T3.cell F L h7 ha (o+8) (.bool true) aj aj (m':={m with fF:=Y,bM:=true}) (fun _ _ h=>P8 h true) rfl rfl;have T5:=T4.cell F L h7 ha (o+9) (uZ E) aj aj (m':={m with fF:=Y,bM:=true,fU:=E}) (fun _ _ h=>Uk h E) rfl rfl;obtain⟨y3,n⟩:=bZ ((y4.setCell (aB S (o+8)) (.bool true)).setCell (aB S (o+9)) (uZ E));rw[<-n]at T5;have c:=aG T5;clear T3 T4 T5 k1 k2 k3 hk M c7 f7 h5 t5 z0 z1 z2 z3 z4 z6 z7 z8 z9 zf h0 q x0 x1 x2 x3 x4 x5 x6 x7 x8 x9 xf;go_wp2_with fail;rw[<-n];clear n c8 c9 f8 f9 ER;obtain⟨a,b⟩:∃a:eH,a={m with fF:=Y,bM:=true,fU:=E}:=⟨_,rfl⟩;rw[<-b]at c;have d:=aG (d.out a b);have r:Hid (a.aR=m.aR/\a.bU=m.bU/\a.aM=m.aM):=by rw[b];exact⟨rfl,rfl,rfl⟩
  clear b;obtain⟨l3,H⟩:=bZ (((l.set (o+7) (uZ Y)).set (o+8) (.bool true)).set (o+9) (uZ E));rw[<-H]at c;clear H;obtain⟨lo,h9,UG⟩:=max2 f.aD m.aR;obtain⟨hi,h8,UH⟩:=min2 E a.wanted;obtain⟨C,u⟩:=bZ (Ld ow s t S o w.heap.size f rv l w l3 a:World->Prop);have k:Hid (∀v,C v->v.cell? (aB S (o+4))=some (uZ m.aR)/\(v.cell? (aB w.heap.size 0)=some (iZ f.aC)/\v.cell? (aB w.heap.size 1)=some (iZ f.aH)/\v.cell? (aB w.heap.size 2)=some (uZ f.aD)/\v.cell? (aB w.heap.size 3)=some (uZ f.aV)/\v.cell? (aB w.heap.size 4)=some (uZ f.aL)/\v.cell? (aB w.heap.size 5)=some (.bool f.bn)/\v.cell? (aB w.heap.size 6)=some (uZ f.id)/\v.cell? (aB w.heap.size 7)=some (uZ f.aW)/\v.cell? (aB w.heap.size 8)=some (.string f.data)/\v.cell? (aB w.heap.size 9)=some rv/\∀j,v.frozen? (aB w.heap.size j)=false)):=fun v h=>by rw[u]at h;exact⟨by rw[<-r.out.1];exact h.aR,bL h.box⟩
  have x:Hid (∀v,C v->Calls prog 318 #[.agg #[iZ f.aC,iZ f.aH,uZ f.aD,uZ f.aV,uZ f.aL,.bool f.bn,uZ f.id,uZ f.aW,.string f.data,rv]] v fun e p=>e=.returned (uZ E)/\C p):=fun v h=>by refine bN (O.out v) ?_;rintro v' hb;rw[u]at h ⊢;exact⟨rfl,h.below hb⟩
  have z:Hid (∀v,C v->Calls prog 306 #[aI S o] v fun e p=>e=.returned (uZ a.wanted)/\C p):=fun v h=>by have h':=h;rw[u]at h';refine bN h'.wanted ?_;rintro v' rfl;exact⟨rfl,h⟩
  have B:C (y3.drewN 1):=by rw[u];exact c.out.drewN 1
  have HC:=aG u;have N:=aG UG;have Q:=aG UH;clear u UG UH;refine wp_region_quiet (C:=C) bH bH B ?_;dsimp only;repeat
   refine wpQuiet_step (fun K U=>?_);go_simp;first
    |(
      refine U _ ?_;clear U K)
    |(
      apply Exists.intro;refine⟨fun y hy=>?_,U _ ?_⟩
      (first
       |exact x.out y hy
       |exact z.out y hy
       |(
         obtain⟨c4,d0,d1,d2,d3,d4,d5,d6,d7,d8,d9,df⟩:=k.out y hy;go_simp;rfl)
       |rfl)
      clear U K)
  refine wpQuiet_nil ?_;intro y5 g;obtain⟨c4,d0,d1,d2,d3,d4,d5,d6,d7,d8,d9,df⟩:=k.out y5 g;rw[HC.out]at g;have i:=aG g;clear g HC x z k B h9 h8 c;have A:Hid (f.aD<=lo/\m.aR<=lo/\hi<=E/\E=f.aD+f.data.size):=by
   refine⟨?_,?_,?_,?_⟩;·rw[N.out];exact mY _ _
   ·rw[N.out];exact mK _ _
   ·rw[Q.out];exact nA _ _
   ·exact he.out.symm
  by_cases I:lo<hi
  ·obtain⟨l1,l2,l4,l5⟩:=A.out;have hc:E<=4611686018427387904:=by have:=hE;unfold dK at this;omega
   obtain⟨D,R⟩:=bZ (f.data.extract (lo-f.aD) (hi-f.aD));have hr:∀X,(Instr.slice 9 (.string f.data) (some (uZ ((lo:Int)-(f.aD:Int)))) (some (uZ ((hi:Int)-(f.aD:Int)))) none).run prog X=.ok (.string D) X:=fun X=>by rw[run_slice_string X 9 f.data .u64 .u64 _ _ bH aj aj aj,R];have e1:((lo:Int)-(f.aD:Int)).toNat=lo-f.aD:=aj;have e2:((hi:Int)-(f.aD:Int)).toNat=hi-f.aD:=aj;rw[e1,e2]
   have G:lo-m.aR+D.size<=1000000:=by rw[R,ByteArray.size_extract];omega
   have HH:=aG (Ou s t ow S o lo D a l3 y5 i.out.cZ F L i.out.bF (by rw[r.out.2.1,r.out.2.2];exact ok.cl) (by rw[r.out.2.1];exact ok.hl) (by rw[r.out.1];exact l2) (by unfold dK;omega) (by rw[r.out.1];exact G));have h6:Hid (a.hold lo D.data.toList=Z):=by have h:=d.out;rw[<-N.out,<-Q.out,bK I]at h;unfold Hid;rw[h,R,extract_toList]
   have g0:0<=(lo:Int)-(f.aD:Int):=aj;have g1:(lo:Int)-(f.aD:Int)<18446744073709551616:=aj;have g2:0<=(hi:Int)-(f.aD:Int):=aj;have g3:(hi:Int)-(f.aD:Int)<18446744073709551616:=aj;clear c4 d0 d1 d3 d4 d5 d6 d7 d9 df l5 hc l4 l1 l2 R G d N Q A;go_wp2_with fail;refine bN HH.out ?_;rintro y6 hQ;have HQ:Hid (Uh s t oZ S o l w Z y6):=by obtain⟨aY,l',h1,h2,h3,h4⟩:=hQ;rw[h6.out]at h4;exact kV.out y6 Z rfl ⟨aY,l',i.out.kp.trans h1,h2,i.out.gN.trans h3,h4⟩
   clear HH hQ;go_wp2_with fail;go_end0;exact⟨rfl,HQ.out⟩
  ·clear c4 d0 d1 d2 d3 d4 d5 d6 d7 d8 d9 df;go_wp2_with fail;go_end0;have h:=d.out;rw[<-N.out,<-Q.out,aU I]at h;exact⟨rfl,kV.out _ _ h.symm ⟨ow,l3,i.out.kp,i.out.cZ,i.out.gN,i.out.bF⟩⟩
theorem qI{n q:Nat}{w W:World}(h:Below n w W):Below n w (W.drewN q):=⟨h.os,h.tape,h.output,h.size,h.block⟩
theorem t_{q:Nat}{W w:World}(h:Below (W.drewN q).heap.size (W.drewN q) w):bJ W w:=⟨h.os,h.tape,h.output,h.size,h.block⟩
theorem Ju(oZ:Own)(s:Nat)(S:Nat)(l:bO)(M:av)(bw bl bi:Nat)(vc:Value)(f:Fr)(p:Option Addr)(r t:Nat)(k:Nat)(Y:k<8)(hj:f.aH=(k:Int))(V:f.aC=4)(w:World)(h:fP oZ s w S l M bw bl bi vc)(ok:OkI (M.bF k))(hb:∀k,(M.bF k).fF<=1000000)(X:bC f<=100000):Calls prog 234 #[aI S 0,fM f (.slice p r t)] w fun e w'=>e=.returned (iZ ((M.take f).2:Int))/\jC s oZ w S bw bl bi (M.take f).1 w':=by
 have Z:f.aD<=dK:=by unfold bC at X;unfold dK;omega
 have hd:f.data.size<=1000000000:=by unfold bC at X;omega
 have D:f.aH.toNat=k:=aj;have n:4+k*27+14=18+27*k:=aj;obtain⟨W,o⟩:=bZ (w.alloc (.cells (gG f (.slice p r t)).toArray 65));have y:aS W w.heap.size 65 (gG f (.slice p r t)):=by rw[o];exact aS.new w 65 _
 have j:bJ w W:=by rw[o];exact(eT _ w).alloc (eB _) _
 have gQ:W.heap.size=w.heap.size+1:=by rw[o];simp
 have Um:=h.cZ.lt;have hT:M.take f=(if(M.bF k).refuse f≠0 then(M,(M.bF k).refuse f)else if M.gr.dW<M.tq k (bC f)then(M,9)else(M.eG k ((M.bF k).take f),0)):=by unfold av.take;rw[aU (by rw[V];decide),bK V,D]
 have A:Hid (∀q,Calls prog 295 #[(aI S (4+k*27+14)),fM f (.slice p r t)] (W.drewN q) fun e w'=>e=.returned (iZ ((M.bF k).refuse f:Int))/\bJ W w'):=fun q=>by have i:=h.below (qI (q:=q) j);obtain⟨vh,jQ,hL,_,_⟩:=i.bF k Y;rw[n];exact(Qu S (18+27*k) (M.bF k) vh jQ f (.slice p r t) l (W.drewN q) i.cZ hL Z hd).mono fun e w' C=>⟨C.1,t_ C.2⟩
 have HH:Hid (∀w1 q,bJ W w1->Calls prog 297 #[aI S 0,fM f (.slice p r t)] (w1.drewN q) fun e w'=>e=.returned (uZ (M.tq k (bC f):Int))/\bJ W w'):=fun w1 q h1=>by have i:=h.below (qI (q:=q) (j.trans (h1.mono aj)));exact(UE oZ s S l M bw bl bi vc f p r t k hj (w1.drewN q) i hb aj).mono fun e w' C=>⟨C.1,h1.trans ((t_ C.2).mono h1.size)⟩
 have E:Hid (∀w1,bJ W w1->Calls prog 296 #[aI S 221,(uZ (M.tq k (bC f):Int))] w1 fun e w'=>e=.returned (.bool (decide (M.tq k (bC f)<=M.gr.dW)))/\w'=w1):=fun w1 h1=>by have i:=h.below (j.trans (h1.mono aj));exact ED S 221 M.gr (M.tq k (bC f)) w1 l i.cZ i.cells.gr
 have HK:Hid (∀w1,bJ W w1->Calls prog 298 #[(aI S (4+k*27+14)),fM f (.slice p r t)] w1 fun e w'=>e=.returned (.tuple #[])/\jC s oZ w S bw bl bi (M.eG k ((M.bF k).take f)) w'):=fun w1 h1=>by have c:=j.trans (h1.mono aj);have i:=h.below c;rw[n];refine bN (Yo s (s+4+5*k) oZ S (18+27*k) (M.bF k) f (.slice p r t) l w1 i.cZ i.ow i.s0 aj (i.bF k Y) ok Z hd (by unfold dK;omega) aj) ?_;rintro w' q;obtain⟨o',l',v',a,b⟩:=i.eG k Y _ q;exact⟨rfl,o',l',v',a,(Kp.below c).trans b⟩
 have HQ:Hid (∀w1,bJ W w1->jC s oZ w S bw bl bi M w1):=fun w1 h1=>jC.refl h (j.trans (h1.mono aj));have B:=aG y;have yL:(k:Int)<8:=aj;obtain⟨x0,x1,x2,x3,x4,x5,x6,x7,x8,x9,xf⟩:=bL y;rw[hT];clear hT j h ok hb X Z hd y D n V;generalize (M.bF k).refuse f=R at *
 generalize M.tq k (bC f)=H at *
 unfold fM at *
 unfold gG at o B;generalize f.aH=st at *
 subst hj;by_cases x:R≠0;·rw[bK x];have yF:¬(R:Int)=0:=aj;go_enter func234,ntmps234;go_wp2;rw[<-o];clear o;go_quiet (fail);go_wp2_with (go_at_call 295;refine bN (A.out _) ?_;rintro w1 c;have d:=B.out.of_heap (c.block _ aj);obtain⟨F,G,I,J,K,L,N,O,P,Q,T⟩:=bL d;have m:=aG c;clear d c x0 x1 x2 x3 x4 x5 x6 x7 x8 x9 xf A);go_ret;exact⟨rfl,HQ.out _ m.out⟩
 ·rw[aU x];obtain rfl:R=0:=aj;clear x;by_cases hH:M.gr.dW<H;·rw[bK hH];have v:decide (H<=M.gr.dW)=false:=decide_eq_false aj;rw[v]at E;go_enter func234,ntmps234;go_wp2;rw[<-o];clear o;go_quiet (fail);go_wp2_with (go_at_call 295;refine bN (A.out _) ?_;rintro w1 c;have d:=B.out.of_heap (c.block _ aj);obtain⟨F,G,I,J,K,L,N,O,P,Q,T⟩:=bL d;have m:=aG c;clear d c x0 x1 x2 x3 x4 x5 x6 x7 x8 x9 xf A);go_region_with (first|(go_at_call 297;refine bN (HH.out w1 _ m.out) ?_;rintro w2 g)|(go_at_call 296;refine bN (E.out w2 g) ?_;rintro w3 z;have U:=z.symm;subst U;have d:=B.out.of_heap (g.block _ aj);obtain⟨z0,z1,z2,z3,z4,z5,z6,z7,z8,z9,zf⟩:=bL d;have u:=aG g;clear d g F G I J K L N O P Q T));all_goals(go_wp2;go_ret;exact⟨rfl,HQ.out _ u.out⟩)
  ·rw[aU hH];have v:decide (H<=M.gr.dW)=true:=decide_eq_true aj;rw[v]at E;go_enter func234,ntmps234;go_wp2;rw[<-o];clear o;go_quiet (fail);go_wp2_with (go_at_call 295;refine bN (A.out _) ?_;rintro w1 c;have d:=B.out.of_heap (c.block _ aj);obtain⟨F,G,I,J,K,L,N,O,P,Q,T⟩:=bL d;have m:=aG c;clear d c x0 x1 x2 x3 x4 x5 x6 x7 x8 x9 xf A);go_region_with (first|(go_at_call 297;refine bN (HH.out w1 _ m.out) ?_;rintro w2 g)|(go_at_call 296;refine bN (E.out w2 g) ?_;rintro w3 z;have U:=z.symm;subst U;have d:=B.out.of_heap (g.block _ aj);obtain⟨z0,z1,z2,z3,z4,z5,z6,z7,z8,z9,zf⟩:=bL d;have u:=aG g;clear d g F G I J K L N O P Q T));all_goals(
    go_wp2_with (go_at_call 298;refine bN (HK.out _ u.out) ?_;rintro w4 HE);go_ret;exact⟨rfl,HE⟩)
theorem Ct(l:bO)(j:Nat)(v:Value)(h:l[j]?=some v):l.set j v=l:=by
 refine List.ext_getElem? fun i=>?_;by_cases e:j=i;·subst e;rw[dG l j v v h,h]
 ·rw[aA l j i v e]
theorem Mt(g:Nat)(p k:Array Value)(w:World)(f:∀args w,(callFunc g args).run prog w=.ok (.enter g args) w):Calls prog 151 #[nZ,.func (.func g) p k] w fun e w'=>e=.returned nZ/\bJ w w':=by have c:=aG (B_ g p k (fun _=>false) none [] 0 w f iO (fun j b=>absurd b (nI _)) (fun j b=>absurd b (nI _)));have d:za (fun _=>false) []= -1:=rfl;rw[d]at c;go_enter func151,ntmps151;go_wp2_with (go_at_call 190;refine bN c.out ?_;rintro w1 a);go_ret;exact⟨rfl,a⟩
theorem Gz(oZ:Own)(s:Nat)(S:Nat)(l:bO)(M:av)(bw bl bi:Nat)(vc:Value)(tk:Nat)(w:World)(h:fP oZ s w S l M bw bl bi vc):Calls prog 113 #[aI S 233,uZ tk] w fun e w'=>e=.returned (.tuple #[])/\jC s oZ w S bw bl bi M w':=by
 have o:∀(fn:Fn) (first cap:Array Value) (w:World),(Instr.makeFunc fn first cap).run prog w=.ok (.func fn first cap) w:=fun _ _ _ _=>rfl;obtain⟨W,j⟩:=bZ (w.alloc (.cells #[uZ tk] 43));have d:bJ w W:=by rw[j];exact(eT _ w).alloc (eB _) _
 have i:=h.below d;have c0:w.cell? (aB S 233)=some nZ:=by rw[h.cZ.cell];exact h.cells.pW
 have n:=h.cZ.lt;have k:=aG (Mt 152 #[] #[aI w.heap.size 0] W (enters_of func152 bH rfl));have m:Hid (∀w1,bJ W w1->w1.frozen? (aB S 233)=false/\w1.cell? (aB S 233)=some nZ/\jC s oZ w S bw bl bi M (w1.setCell (aB S 233) nZ)):=fun w1 h1=>by have c:=i.below h1;refine⟨c.cZ.frozen 233,by rw[c.cZ.cell];exact c.cells.pW,?_⟩;have q:=gM.one c.cZ 233 nZ 233 1 (eB _) aj;rw[Ct l 233 _ c.cells.pW]at q;obtain⟨o',l',v',a,b⟩:=c.cell 233 1 aj q c.cells rfl rfl rfl rfl rfl;exact⟨o',l',v',a,(Kp.below (d.trans (h1.mono d.size))).trans b⟩
 clear i d h;go_enter func113,ntmps113;go_wp2_with (go_at_call 151;rw[<-j];refine bN k.out ?_;rintro w1 g;obtain⟨f1,f2,f⟩:=m.out w1 g;have f:=aG f);go_end0;exact⟨rfl,f.out⟩
theorem Yp(oZ:Own)(s:Nat)(S:Nat)(l:bO)(M:av)(bw bl bi:Nat)(vc:Value)(w:World)(h:fP oZ s w S l M bw bl bi vc)(ht:M.bE+1<18446744073709551616):Calls prog 66 #[aI S 0] w fun e w'=>e=.returned (.tuple #[])/\jC s oZ w S bw bl bi M.iD w':=by
 have c3:w.cell? (aB S 3)=some (uZ M.bE):=by rw[h.cZ.cell];exact h.cells.c3
 have f3:=h.cZ.frozen 3;have r:IntKind.u64.wrap ((M.bE:Int)+1)=((M.bE+1:Nat):Int):=by rw[IntKind.wrap_u64];omega
 obtain⟨W,f⟩:=bZ (w.setCell (aB S 3) (uZ ((M.bE+1:Nat):Int)));have d:Hid (jC s oZ w S bw bl bi M.iD W):=by rw[f];have q:=gM.one h.cZ 3 (uZ ((M.bE+1:Nat):Int)) 3 1 (eB _) aj;have c:=h.cells;have e:∀j,j≠3->(l.set 3 (uZ ((M.bE+1:Nat):Int)))[j]?=l[j]?:=fun j n=>aA l 3 j _ (Ne.symm n);refine h.cell 3 1 aj q ⟨q.gN.1.trans c.len,(e _ aj).trans c.c0,(e _ aj).trans c.c1,(e _ aj).trans c.c2,dG l 3 _ _ c.c3,(e _ aj).trans c.rC,c.gr.gN q.gN aj,(e _ aj).trans c.tN,(e _ aj).trans c.tQ,(e _ aj).trans c.pV,(e _ aj).trans c.nG,(e _ aj).trans c.oo,(e _ aj).trans c.oQ,(e _ aj).trans c.sG,(e _ aj).trans c.nH,(e _ aj).trans c.pW,(e _ aj).trans c.vB,(e _ aj).trans c.sH,(e _ aj).trans c.vC,(e _ aj).trans c.vD,(e _ aj).trans c.oU,(e _ aj).trans c.vE⟩ rfl rfl rfl rfl rfl
 have t:W.cell? (aB S 3)=some (uZ ((M.bE+1:Nat):Int)):=by obtain⟨o',l',v',a,b⟩:=d.out;rw[a.cZ.cell];exact a.cells.c3
 have g:Hid (∀q,Calls prog 113 #[aI S 233,(uZ ((M.bE+1:Nat):Int))] (W.drewN q) fun e w'=>e=.returned (.tuple #[])/\jC s oZ w S bw bl bi M.iD w'):=fun q=>by obtain⟨o',l',v',a,b⟩:=d.out;have k:fP o' s (W.drewN q) S l' M.iD bw bl bi v':=a.below (qI (eT _ W));refine bN (Gz o' s S l' M.iD bw bl bi v' (M.bE+1) (W.drewN q) k) ?_;rintro w' ⟨o,l2,p,m,b3⟩;exact⟨rfl,o,l2,p,m,(b.drewN q).trans b3⟩
 clear h d ht;generalize M.bE+1=tk at *
 go_enter func66,ntmps66;go_wp2;rw[<-f];clear f;go_region_with (go_at_call 113;refine bN (g.out _) ?_;rintro w1 i);go_end0;exact⟨rfl,i⟩
section
theorem rJ(C S:Nat)(w:World)(hc:w.cell? (aB C 0)=some (aI S 0)):Calls prog 65 #[aI C 0] w fun e w'=>e=.returned (aI S 0)/\w'=w:=by go_enter func65,ntmps65;go_wp2;go_ret;exact⟨rfl,rfl⟩
section
variable (C S:Nat) (w:World) (hc:w.cell? (aB C 0)=some (aI S 0))
 include hc
theorem Y5(R:World->Prop)(h:Calls prog 66 #[aI S 0] w fun e w'=>e=.returned (.tuple #[])/\R w'):Calls prog 38 #[aI C 0] w fun e w'=>e=.returned (.tuple #[])/\R w':=by have c:=aG (rJ C S w hc);have b:=aG h;clear h hc;go_enter func38,ntmps38;go_wp2_with (first|(go_at_call 65;refine bN c.out ?_;rintro w' g;have a:=g.symm;subst a)|(go_at_call 66;refine bN b.out ?_;rintro w' f;have d:=aG f));go_end0;exact⟨rfl,d.out⟩
theorem Y6(k:Int)(v:Value)(R:Value->World->Prop)(h:Calls prog 108 #[aI S 0,iZ k,v] w fun e w'=>∃x,e=.returned x/\R x w'):Calls prog 61 #[aI C 0,iZ k,v] w fun e w'=>∃x,e=.returned x/\R x w':=by have c:=aG (rJ C S w hc);have b:=aG h;clear h hc;go_enter func61,ntmps61;go_wp2_with (first|(go_at_call 65;refine bN c.out ?_;rintro w' g;have a:=g.symm;subst a)|(go_at_call 108;refine b.out.mono ?_;rintro e w' ⟨x,rfl,f⟩;have d:=aG f));go_ret;exact⟨_,rfl,d.out⟩
theorem Ru(k:Int)(R:Value->World->Prop)(h:Calls prog 109 #[aI S 0,iZ k] w fun e w'=>∃x,e=.returned x/\R x w'):Calls prog 62 #[aI C 0,iZ k] w fun e w'=>∃x,e=.returned x/\R x w':=by have c:=aG (rJ C S w hc);have b:=aG h;clear h hc;go_enter func62,ntmps62;go_wp2_with (first|(go_at_call 65;refine bN c.out ?_;rintro w' g;have a:=g.symm;subst a)|(go_at_call 109;refine b.out.mono ?_;rintro e w' ⟨x,rfl,f⟩;have d:=aG f));go_ret;exact⟨_,rfl,d.out⟩
theorem MW(R:Value->World->Prop)(h:Calls prog 114 #[aI S 0] w fun e w'=>∃x,e=.returned x/\R x w'):Calls prog 68 #[aI C 0] w fun e w'=>∃x,e=.returned x/\R x w':=by have c:=aG (rJ C S w hc);have b:=aG h;clear h hc;go_enter func68,ntmps68;go_wp2_with (first|(go_at_call 65;refine bN c.out ?_;rintro w' g;have a:=g.symm;subst a)|(go_at_call 114;refine b.out.mono ?_;rintro e w' ⟨x,rfl,f⟩;have d:=aG f));go_ret;exact⟨_,rfl,d.out⟩
theorem MX(v:Value)(R:Value->World->Prop)(h:Calls prog 104 #[aI S 0,v] w fun e w'=>∃x,e=.returned x/\R x w'):Calls prog 56 #[aI C 0,v] w fun e w'=>∃x,e=.returned x/\R x w':=by have c:=aG (rJ C S w hc);have b:=aG h;clear h hc;go_enter func56,ntmps56;go_wp2_with (first|(go_at_call 65;refine bN c.out ?_;rintro w' g;have a:=g.symm;subst a)|(go_at_call 104;refine b.out.mono ?_;rintro e w' ⟨x,rfl,f⟩;have d:=aG f));go_ret;exact⟨_,rfl,d.out⟩
theorem Y7(k bf:Int)(R:Value->Value->Value->World->Prop)(h:Calls prog 140 #[aI S 0,iZ k,iZ bf] w fun e w'=>∃x y z,e=.returned (.tuple #[x,y,z])/\R x y z w'):Calls prog 106 #[aI C 0,iZ k,iZ bf] w fun e w'=>∃x y z,e=.returned (.tuple #[x,y,z])/\R x y z w':=by have c:=aG (rJ C S w hc);have b:=aG h;clear h hc;go_enter func106,ntmps106;go_wp2_with (first|(go_at_call 65;refine bN c.out ?_;rintro w' g;have a:=g.symm;subst a)|(go_at_call 140;refine b.out.mono ?_;rintro e w' ⟨x,y,z,rfl,f⟩;have d:=aG f));refine bodyPost_ret (v:=.tuple #[x,y,z]) (by simp[results,results106,go_sem]) rfl ?_;exact⟨_,_,_,rfl,d.out⟩
end

theorem GZ(oZ:Own)(s:Nat)(S:Nat)(l:bO)(M:av)(bw bl bi:Nat)(vc:Value)(w:World)(h:fP oZ s w S l M bw bl bi vc):Calls prog 105 #[aI S 0] w fun e w'=>e=.returned nZ/\jC s oZ w S bw bl bi M w':=by
 have c0:w.cell? (aB S 235)=some nZ:=by rw[h.cZ.cell];exact h.cells.sH
 have f0:=h.cZ.frozen 235;have a:Hid (jC s oZ w S bw bl bi M (w.setCell (aB S 235) nZ)):=by have q:=gM.one h.cZ 235 nZ 235 1 (eB _) aj;rw[Ct l 235 _ h.cells.sH]at q;exact h.cell 235 1 aj q h.cells rfl rfl rfl rfl rfl
 clear h;go_enter func105,ntmps105;go_wp2;go_ret;exact⟨rfl,a.out⟩
theorem G5(C S:Nat)(w:World)(hc:w.cell? (aB C 0)=some (aI S 0))(R:World->Prop)(h:Calls prog 105 #[aI S 0] w fun e w'=>e=.returned nZ/\R w'):Calls prog 57 #[aI C 0] w fun e w'=>e=.returned nZ/\R w':=by have c:=aG (rJ C S w hc);have b:=aG h;clear h hc;go_enter func57,ntmps57;go_wp2_with (first|(go_at_call 65;refine bN c.out ?_;rintro w' g;have a:=g.symm;subst a)|(go_at_call 105;refine bN b.out ?_;rintro w' f;have d:=aG f));go_ret;exact⟨rfl,d.out⟩
end
theorem eql3(w:World):(binOp .eql 94 (.iface 57 (iZ 3)) (.iface 57 (iZ 3))).run prog w=.ok (.bool true) w:=bH
theorem eql4(w:World):(binOp .eql 94 (.iface 57 (iZ 4)) (.iface 57 (iZ 4))).run prog w=.ok (.bool true) w:=bH
def MZ(e:Nat):Prop:=e=0\/e=3\/e=4\/e=7
theorem JN(e:Nat)(b:MZ e)(w:World)(a:iE w):Calls prog 42 #[rz e] w fun r w'=>r=.returned (.tuple #[iZ e,(iZ (-1))])/\bJ w w':=by
 rcases b with rfl|rfl|rfl|rfl;·exact xX w
 ·exact rH 3 eql3 w a
 ·exact rH 4 eql4 w a
 ·exact rH 7 eql7 w a
theorem CY(e:Nat)(b:MZ e)(w:World)(a:iE w):Calls prog 60 #[rz e] w fun r w'=>r=.returned (iZ e)/\bJ w w':=zx (rz e) e (-1) w _ (JN e b w a)
theorem Y8(o:Ot)(b:List UInt8):MZ (o.send b).2:=by
 unfold Ot.send MZ;split;·exact .inr (.inr (.inl rfl))
 ·split;·exact .inr (.inl rfl)
  ·exact .inl rfl
theorem Rv(o:Ot):MZ o.finish.2:=by
 unfold Ot.finish MZ;split;·exact .inr (.inr (.inl rfl))
 ·exact .inl rfl
theorem Rw(oZ:Own)(s:Nat)(C S:Nat)(l:bO)(M:av)(bw bl bi:Nat)(vc:Value)(k:Nat)(p:k<8)(w:World)(h:fP oZ s w S l M bw bl bi vc)(g:w.cell? (aB C 0)=some (aI S 0))(j:M.mJ=0)(a:iE w)(f:oZ 0∉T0 s):Calls prog 35 #[aI C 0,iZ k] w fun e w'=>e=.returned (iZ ((M.out k).finish.2:Int))/\jC s oZ w S bw bl bi (M.dD k (M.out k).finish.1) w':=by
 have m:Hid (Calls prog 62 #[aI C 0,iZ k] w fun e w'=>∃x,e=.returned x/\x=rz (M.out k).finish.2/\jC s oZ w S bw bl bi (M.dD k (M.out k).finish.1) w'):=
  Ru C S w g k (fun x w'=>x=rz (M.out k).finish.2/\jC s oZ w S bw bl bi (M.dD k (M.out k).finish.1) w') ((Qt oZ s S l M bw bl bi vc k p w h j).mono fun e w' i=>⟨_,i.1,rfl,i.2⟩)
 have b:0<w.heap.size:=World.block_lt_of_cell? w (aB 0 0) (by unfold iE at a;rw[a]);have n:Hid (∀w1,jC s oZ w S bw bl bi (M.dD k (M.out k).finish.1) w1->Calls prog 60 #[rz (M.out k).finish.2] w1 fun r w'=>r=.returned (iZ ((M.out k).finish.2:Int))/\jC s oZ w S bw bl bi (M.dD k (M.out k).finish.1) w'):=fun w1 hq=>by obtain⟨o1,l1,q,o,d⟩:=hq;refine bN (CY _ (Rv _) w1 (cell_of a (d.cZ 0 b f))) ?_;rintro w' hb;exact⟨rfl,o1,l1,q,o.below hb,d.iW hb⟩
 clear h g j a f;generalize (M.out k).finish.2=en at *
 go_enter func35,ntmps35;go_wp2_with (first|(go_at_call 62;refine m.out.mono ?_;rintro e w1 ⟨x,rfl,rfl,hq⟩)|(go_at_call 60;refine bN (n.out _ hq) ?_;rintro t c));go_ret;exact⟨rfl,c⟩
def zy(s t:Nat)(oZ:Own)(S o:Nat)(l:bO)(w:World)(m':eH)(w':World)(v:Value):Prop:=
 ∃aY l',Kp [s,t,t+1] oZ aY w w'/\aS w' S TS l'/\kW l l' o 13/\EG aY t w' l' o m'/\∀b,v.ownBlock=some b->aY b=0
theorem zy.drewN{s t:Nat}{oZ:Own}{S o:Nat}{l:bO}{w w':World}{m:eH}{v:Value}(h:zy s t oZ S o l w m w' v)(q:Nat):zy s t oZ S o l w m (w'.drewN q) v:=by obtain⟨aY,l',h1,a,b,c,d⟩:=h;exact⟨aY,l',h1.drewN q,a,b,c.kp (Kp.below (w':=w'.drewN q) (T:=[]) ⟨rfl,rfl,rfl,eB _,fun _ _=>rfl⟩) aP aP (kW.refl l' (o+13) 0) aj,d⟩
def Vz(s:Nat)(oZ:Own)(w:World)(S:Nat)(bw bl bi:Nat)(M':av)(w':World)(v:Value):Prop:=∃aY l' a,fP aY s w' S l' M' bw bl bi a/\Kp (T0 s) oZ aY w w'/\∀b,v.ownBlock=some b->aY b=0
theorem Y_(s t:Nat)(oZ:Own)(S o n:Nat)(m:eH)(l:bO)(w:World)(hB:aS w S TS l)(hS:oZ S=s)(x7:0<s)(x8:s<t)(hO:EG oZ t w l o m)(h4:1<=n)(hn:n<=m.bU.length)(Z:m.aM.length=m.bU.length)(hl:m.bU.length<=1000000)(hr:m.aR+n<=dK):Calls prog 238 #[aI S o,iZ n] w fun e w'=>∃a c,e=.returned (.slice a n c)/\eX 5 1 w' (.slice a n c) n (cB (m.bU.take n))/\ni w.heap.size (.slice a n c)/\zy s t oZ S o l w (m.cut n) w' (.slice a n c):=by
 obtain⟨ow,f⟩:=bZ (loc oZ w.heap.size);have i:ow S=s:=by rw[f,jv _ _ _ hB.lt,hS]
 have ho:EG ow t w l o m:=by rw[f];exact hO.loc
 obtain⟨vh,vc,k1,k2,O⟩:=ho;obtain⟨ah,ch,rfl,hx,_⟩:=k2.shape;obtain⟨ac,cc,rfl,hw,_⟩:=O.shape;have x3:=hB.lt;obtain⟨i5,h3,h7,L,Y⟩:=info_parts IE;have K:=run_makeSlice (P:=prog) w 60 5 i5 _ u29 h3 h7 .i64 .i64 (n:Int) (n:Int) aj (Int.le_refl _) (by rw[L];omega) (by rw[Y];omega) aj;obtain⟨ZA,I⟩:=bZ (madeCells (mI .u8 0).cells ((n:Int).toNat*i5.size));have h8:ZA.toList.length=n:=by rw[I,Array.length_toList,size_madeCells,L];omega
 rw[<-I]at K;obtain⟨F,x⟩:=bZ (w.alloc (.cells ZA 5));rw[<-x]at K;simp only[Int.toNat_natCast]at K;have J:aS F w.heap.size 5 ZA.toList:=by rw[x];exact aS.new w 5 _
 have mV:bJ w F:=by rw[x];exact(eT _ w).alloc (eB _) _
 have x4:F.heap.size=w.heap.size+1:=by rw[x];simp
 have G:=hB.of_heap (mV.block _ x3);have h9:=k2.kp (Kp.below (T:=[]) mV) aP;obtain⟨g,hg⟩:∃g,ah=some (aB g 0):=by
  rcases k2 with⟨h1,h2,_⟩|⟨g,cap,cs,hv,_⟩;·omega
  ·simp at hv;exact⟨g,hv.1⟩
 subst hg;have h0:=fun ty=>jm (P:=prog) (w:=F) 60 60 ty 5 (g:=w.heap.size) (o:=0) (dLen:=n) (dCap:=n) J (aB g 0) m.bU.length ch 1 n (cB (m.bU.take n)) u29 bH (by show min m.bU.length n=n;omega) (by rw[dM];simp;omega) (fun j v hj=>by
  rw[Addr.add_lit,Nat.zero_add];obtain⟨g',x0,_,_,hc,_⟩:=h9.cell j v (by
   have x1:(cB m.bU)[j]?=some v:=by
    have:(cB (m.bU.take n))=(cB m.bU).take n:=by simp[cB]
    rw[this,List.getElem?_take]at hj;split at hj;·exact hj
    ·cases hj
   exact x1)
  cases x0;exact hc) (by rw[h8,dM];simp;omega) (gY _)
 have h5:aZ ZA.toList 0 (cB (m.bU.take n))=cB (m.bU.take n):=by
  have x2:(cB (m.bU.take n)).length=n:=by rw[dM];simp;omega
  unfold aZ;rw[List.take_zero,x2,List.drop_of_length_le aj];simp
 rw[h5]at h0;obtain⟨W,A⟩:=bZ (put F w.heap.size (cB (m.bU.take n)));have U:aS W w.heap.size 5 (cB (m.bU.take n)):=by rw[A];exact J.put _
 have D:nE w.heap.size F W:=by rw[A];exact⟨rfl,rfl,rfl,by simp[put],fun k hk=>iG _ _ _ _ hk⟩
 have d:=D.below mV (eB _);have q:=G.of_heap (D.block _ aj);have he:=k2.kp (Kp.below (T:=[]) d) aP;have hf:=O.kp (Kp.below (T:=[]) d) aP;rw[<-A]at h0;have d5:F.cell? (aB S (o+5))=some (dP g m.bU.length ch):=by rw[G.cell];exact k1.c5
 have e5:W.cell? (aB S (o+5))=some (dP g m.bU.length ch):=by rw[q.cell];exact k1.c5
 have HD:=aG (Ue ow t n m.bU (some (aB g 0)) ch W h4 hn hl he);have HK:=aG (dB q (dB k1 (dB hf (dB U d))));have HH:=aG (dB i f);have C:ow w.heap.size=0:=by rw[f,iX _ _ _ (eB _)]
 have x9:W.heap.size=w.heap.size+1:=by rw[D.size,x4]
 have g1:((n:Int)==0)=false:=by simp;omega
 have g2:(0:Int)<=(n:Int):=aj;clear k1 k2 O h9 he hf hB G q J U mV d D h5 hO i f A hx hw h8 h3 h7 L Y I x;have Ed:=aG Z;clear Z;go_enter func238,ntmps238;go_wp2_with fail;refine HD.out.mono ?_;rintro e y ⟨a1,c1,rfl,r,h⟩;obtain⟨q,k1,O,U,d⟩:=HK.out;obtain⟨i,f⟩:=HH.out;have Q:=cO q h (by rw[i];simp;omega);have V:=cO U h (by rw[C];simp;omega);have ha:=O.kp h aP;have d5:y.cell? (aB S (o+5))=some (dP g m.bU.length ch):=by rw[Q.cell];exact k1.c5
 have d6:y.cell? (aB S (o+6))=some (.slice ac m.aM.length cc):=by rw[Q.cell];exact k1.c6
 have f5:=Q.frozen (o+5);have E:=gM.one Q (o+5) (.slice a1 (m.bU.length-n) c1) o 13 aj aj;obtain⟨Y1,H⟩:=bZ (y.setCell (aB S (o+5)) (.slice a1 (m.bU.length-n) c1));rw[<-H]at E;have p:=E.kp i (T:=[s]) aP;have R:=aG (Uf ow (t+1) n m.aM ac cc Y1 h4 (by rw[Ed.out];exact hn) (by rw[Ed.out];exact hl) (ha.kp p (by simp;omega)));have TR:=aG (dB E (dB (r.kp p (by simp;omega)) (dB (cO V p (by rw[C];simp;omega)) (dB h p))));clear q O U Q V ha r h E p e5 HD;go_wp2_with fail;rw[<-H];clear H d5 d6 f5;refine R.out.mono ?_;rintro e z ⟨N,c2,rfl,X,u⟩;obtain⟨E,r,V,h,p⟩:=TR.out;have kQ:=cO E.cZ u (by rw[i];simp;omega);have hm:=cO V u (by rw[C];simp);have i1:=Ji k1 (.slice a1 (m.bU.length-n) c1) (m.bU.drop n);have d6:z.cell? (aB S (o+6))=some (.slice ac m.aM.length cc):=by rw[kQ.cell];exact i1.c6
 have d4:z.cell? (aB S (o+4))=some (uZ m.aR):=by rw[kQ.cell];exact i1.c4
 have ff:=fun j=>kQ.frozen j;have HF:Hid (eX 5 1 ((z.setCell (aB S (o+6)) (.slice N (m.aM.length-n) c2)).setCell (aB S (o+4)) (uZ ((m.aR+n:Nat):Int))) (dP w.heap.size n n) n (cB (m.bU.take n))/\ni w.heap.size (dP w.heap.size n n)/\zy s t oZ S o l w (m.cut n) ((z.setCell (aB S (o+6)) (.slice N (m.aM.length-n) c2)).setCell (aB S (o+4)) (uZ ((m.aR+n:Nat):Int))) (dP w.heap.size n n)):=by
  have h6:=gM.one kQ (o+6) (.slice N (m.aM.length-n) c2) o 13 aj aj;have M:=h6.trans (gM.one h6.cZ (o+4) (uZ ((m.aR+n:Nat):Int)) o 13 aj aj);have B:=M.kp i (T:=[s]) aP;have hu:=cO hm B (by rw[C];simp;omega);refine⟨.inr ⟨w.heap.size,n,_,rfl,hu,by rw[dM,lg];omega,eB _,aj,by rw[dM,lg];omega,by rw[Nat.mul_one];exact List.take_of_length_le (by rw[dM,lg];omega),gY _⟩,fun k hk=>by simp[j3]at hk;omega,?_⟩;have hK:Kp [s,t,t+1] ow ow w ((z.setCell (aB S (o+6)) (.slice N (m.aM.length-n) c2)).setCell (aB S (o+4)) (uZ ((m.aR+n:Nat):Int))):=
   ((((Kp.below d).trans (h.mono aP)).trans (p.mono aP)).trans (u.mono aP)).trans (B.mono aP)
  rw[f]at hK;refine⟨_,_,hK.lH,M.cZ,E.gN.trans M.gN,⟨.slice a1 (m.bU.length-n) c1,.slice N (m.aM.length-n) c2,Ui (Jj i1 (.slice N (m.aM.length-n) c2) (m.aM.drop n)) (m.aR+n),?_,?_⟩,fun b hb=>by simp[j3]at hb;rw[<-hb];exact iX _ _ _ (eB _)⟩;·have:=(r.kp u aP).kp B (by simp;omega);rw[f]at this;exact this
  ·have:=X.kp B (by simp;omega);rw[f]at this;exact this
 rw[show((m.aR+n:Nat):Int)=(m.aR:Int)+(n:Int) by omega]at HF;have x5:m.aR+n<18446744073709551616:=by unfold dK at hr;omega
 have x6:n<18446744073709551616:=aj;clear E r V h p kQ hm i1 X u k1 d TR R i f HH HK hr;go_wp2;go_ret;exact⟨_,_,rfl,HF.out⟩
theorem VD(s t:Nat)(oZ:Own)(S o n:Nat)(m:eH)(l:bO)(w:World)(hB:aS w S TS l)(j:oZ S=s)(f:0<s)(g:s<t)(h:EG oZ t w l o m)(q:n<=m.bU.length)(d:m.aM.length=m.bU.length)(hl:m.bU.length<=1000000)(r:m.aR+n<=dK):Calls prog 238 #[aI S o,iZ n] w fun e w'=>∃a c,e=.returned (.slice a n c)/\eX 5 1 w' (.slice a n c) n (cB (m.bU.take n))/\ni w.heap.size (.slice a n c)/\zy s t oZ S o l w (m.cut n) w' (.slice a n c):=by
 by_cases i:n=0;·subst i;refine bN (Yk S o w) ?_;rintro w' rfl;exact⟨none,0,rfl,.inl ⟨rfl,rfl,by simp[cB]⟩,fun k p=>by simp[j3]at p,by rw[UA];exact⟨oZ,l,Kp.refl _ _ _,hB,kW.refl _ _ _,h,fun b hb=>by simp[j3]at hb⟩⟩
 ·exact Y_ s t oZ S o n m l w hB j f g h aj q d hl r
theorem VE(s t:Nat)(oZ:Own)(S o:Nat)(bf:Int)(m:eH)(l:bO)(w:World)(hB:aS w S TS l)(V:oZ S=s)(K:0<s)(B:s<t)(hO:EG oZ t w l o m)(ok:OkI m)(hr:m.aR+m.bU.length<=dK):Calls prog 184 #[aI S o,iZ bf] w fun e w'=>∃a c,e=.returned (.tuple #[.slice a (m.rd bf).1.length c,(iZ ((m.rd bf).2.state:Int))])/\eX 5 1 w' (.slice a (m.rd bf).1.length c) (m.rd bf).1.length (cB (m.rd bf).1)/\ni w.heap.size (.slice a (m.rd bf).1.length c)/\zy s t oZ S o l w (m.rd bf).2 w' (.slice a (m.rd bf).1.length c):=by
 have H:=hB.lt;obtain⟨vh,vc,k1,k2,L⟩:=hO;have i:=aG (Ug oZ (t+1) S o m vh vc l w hB k1 L (by rw[ok.cl];exact ok.hl));have J:m.ready<=m.bU.length:=by rw[<-ok.cl];exact BZ m.aM
 obtain⟨n,I⟩:=bZ (min m.ready (max bf 0).toNat);obtain⟨x1,h5,N⟩:=qde bf 0;obtain⟨x2,h6,O⟩:=TK (m.ready:Int) x1;obtain rfl:x2=(n:Int):=aj;have A:(m.bU.take n).length=n:=by simp;omega
 have yF:Hid ((m.rd bf).1=m.bU.take n):=by unfold Hid;rw[I];rfl
 have d:Hid ((m.rd bf).2={m.cut n with state:=if(m.cut n).state=0 then(m.cut n).h_ else(m.cut n).state}):=by unfold Hid;rw[I];rfl
 generalize m.rd bf=X at *
 rw[yF.out,A];have C:=aG (VD s t oZ S o n m l w hB V K B ⟨vh,vc,k1,k2,L⟩ aj ok.cl ok.hl aj);have f:Hid ((m.cut n).state=m.state):=rfl;generalize m.cut n=M at *
 generalize m.ready=RD at *
 clear I N O J hB k1 k2 L hr ok;by_cases u:m.state=0
 ·rw[f.out,bK u]at d;go_enter func184,ntmps184;go_wp2_with fail;refine bN i.out ?_;rintro y rfl;go_wp2_with fail;refine C.out.mono ?_;rintro e z ⟨a,c,rfl,k,hF,D,l1,h1,j,x,E,hz⟩;obtain⟨vh,vc,i1,i2,i3⟩:=E;have g:z.cell? (aB S (o+12))=some (iZ M.state):=qat S o M vh vc z l1 j i1;rw[f.out,u]at g;have r:=aG (LU S o M vh vc z l1 j i1);have Q:Hid (∀q,zy s t oZ S o l y {M with state:=M.h_} ((z.drewN q).setCell (aB S (o+12)) (iZ M.h_)) (.slice a n c)/\eX 5 1 ((z.drewN q).setCell (aB S (o+12)) (iZ M.h_)) (.slice a n c) n (cB (m.bU.take n))):=fun q=>by
   have G:D S=s:=by rw[h1.ext _ H,V]
   have F:EG D t (z.drewN q) l1 o M:=EG.kp ⟨vh,vc,i1,i2,i3⟩ (Kp.below (w':=z.drewN q) (T:=[]) ⟨rfl,rfl,rfl,eB _,fun _ _=>rfl⟩) aP aP (kW.refl l1 (o+13) 0) aj;obtain⟨gu,l2,U,g2,g3,g4⟩:=Yl (w:=z.drewN q) j G B F (o+12) (iZ M.h_) aj aj (m':={M with state:=M.h_}) (fun _ _ h=>P9 h _) rfl rfl;exact⟨⟨gu,l2,(h1.drewN q).trans U,g2,x.trans g3,g4,fun b hb=>by rw[U.ext b (k.lt b hb),hz b hb]⟩,k.of_heap (fun b hb=>Below.heap_setCell _ _ _ _ (by have:=hF b hb;simp;omega))⟩
  have f12:=j.frozen (o+12);have W:=aG hF;clear h1 j x i1 i2 i3 k hF u hz;generalize M.h_=R at *
  go_wp2_with fail;refine bN r.out ?_;rintro v ⟨q,rfl⟩;have p:=aG (Q.out q);have h0:(z.drewN q).cell? (aB S (o+12))=some (iZ 0):=g;have ef:(z.drewN q).frozen? (aB S (o+12))=false:=f12;generalize z.drewN q=Z at *
  clear g f12 r Q C i;go_wp2_with fail;go_quiet (fail);go_wp2;go_ret2;refine⟨a,c,UC rfl (by rw[d.out]),?_,W.out,?_⟩;·exact eX.of_heap p.out.2 (fun _ _=>rfl)
  ·rw[d.out];exact zy.drewN p.out.1 _
 ·rw[f.out,aU u]at d;have xL:((m.state:Int)==0)=false:=by simp;omega
  have Y:Hid (({M with state:=m.state}:eH)=M):=by unfold Hid;rw[<-f.out]
  go_enter func184,ntmps184;go_wp2_with fail;refine bN i.out ?_;rintro y rfl;go_wp2_with fail;refine C.out.mono ?_;rintro e z ⟨a,c,rfl,k,hF,hQ⟩;obtain⟨D,l1,h1,j,x,E,hz⟩:=hQ;have HQ:Hid (zy s t oZ S o l y M z (.slice a n c)):=⟨D,l1,h1,j,x,E,hz⟩;obtain⟨vh,vc,i1,i2,i3⟩:=E;have g:z.cell? (aB S (o+12))=some (iZ M.state):=qat S o M vh vc z l1 j i1;rw[f.out]at g;have P:=aG (dB k hF);clear h1 j x i1 i2 i3 k hF u C i hz;go_wp2_with fail;go_quiet (fail);go_wp2;go_ret2;refine⟨a,c,UC rfl (by rw[d.out]),?_,P.out.2,?_⟩;·exact eX.of_heap P.out.1 (fun _ _=>rfl)
  ·rw[d.out,Y.out];exact zy.drewN HQ.out _
theorem fP.qeb{oZ:Own}{s:Nat}{w w':World}{S:Nat}{l:bO}{M:av}{bw bl bi:Nat}{vc:Value}(h:fP oZ s w S l M bw bl bi vc)(k:Nat)(i:k<8)(m:eH)(v:Value)(q:zy s (s+4+5*k) oZ S (18+27*k) l w m w' v):Vz s oZ w S bw bl bi (M.eG k m) w' v:=by
 obtain⟨aY,l',K,hB,wi,g,hz⟩:=q;have a:∀x,x∈[s,s+4+5*k,s+4+5*k+1]->x=s\/(s+4+5*k<=x/\x<=s+5+5*k):=fun x f=>by simp only[List.mem_cons,List.not_mem_nil,or_false]at f;omega
 have n:∀j,(M.eG k m).bF j=if j=k then m else M.bF j:=fun j=>by
  rw[dQ,h.li];by_cases b:j=k;·rw[bK ⟨b,i⟩,bK b]
  ·rw[aU (fun x=>b x.1),aU b]
 refine⟨aY,l',vc,⟨by rw[K.ext S h.cZ.lt,h.ow],h.s0,hB,?_,fun j b=>?_,fun j b=>?_,h.row.kp K (fun e=>bV (a _ e)),h.sI.kp K (fun e=>bV (a _ e)) (fun e=>bV (a _ e)),h.bP.kp K (fun e=>bV (a _ e)) (fun e=>bV (a _ e)),h.lo,(iP _ _ _).trans h.li⟩,K.mono fun x f=>fG.2 (bV (a x f)),hz⟩;·have c:=h.cells.gN wi aj aj;exact⟨c.len,c.c0,c.c1,c.c2,c.c3,c.rC,c.gr,c.tN,c.tQ,c.pV,c.nG,c.oo,c.oQ,c.sG,c.nH,c.pW,c.vB,c.sH,c.vC,c.vD,c.oU,c.vE⟩
 ·exact(h.out j b).kp K (fun e=>bV (a _ e)) (fun e=>bV (a _ e)) (fun e=>bV (a _ e)) wi aj
 ·rw[n];by_cases d:j=k;·subst d;rw[bK rfl];exact g
  ·rw[aU d];exact(h.bF j b).kp K (fun e=>bV (a _ e)) (fun e=>bV (a _ e)) wi aj
theorem VF(oZ:Own)(s:Nat)(S:Nat)(l:bO)(M:av)(bw bl bi:Nat)(vc:Value)(k:Nat)(g:k<8)(bf:Int)(w:World)(h:fP oZ s w S l M bw bl bi vc)(n:M.mJ=0)(ok:OkI (M.bF k))(m:(M.bF k).aR+(M.bF k).bU.length<=dK):Calls prog 140 #[aI S 0,iZ k,iZ bf] w fun e w'=>∃a c,e=.returned (.tuple #[.slice a ((M.bF k).rd bf).1.length c,(iZ (((M.bF k).rd bf).2.state:Int)),.nilIface])/\eX 5 1 w' (.slice a ((M.bF k).rd bf).1.length c) ((M.bF k).rd bf).1.length (cB ((M.bF k).rd bf).1)/\ni w.heap.size (.slice a ((M.bF k).rd bf).1.length c)/\Vz s oZ w S bw bl bi (M.eG k ((M.bF k).rd bf).2) w' (.slice a ((M.bF k).rd bf).1.length c):=by
 have i:=aG (zi S k g w (h.open n));have b:18+27*k=4+27*k+14:=aj;have d:=VE s (s+4+5*k) oZ S (18+27*k) bf (M.bF k) l w h.cZ h.ow h.s0 aj (h.bF k g) ok m;rw[b]at d;have f:∀w' v,zy s (s+4+5*k) oZ S (4+27*k+14) l w ((M.bF k).rd bf).2 w' v->Vz s oZ w S bw bl bi (M.eG k ((M.bF k).rd bf).2) w' v:=fun w' v q=>h.qeb k g _ v (by rw[b];exact q);replace d:=aG d;replace f:=aG f;generalize (M.bF k).rd bf=X at *
 go_enter func140,ntmps140;go_wp2_with (first|(go_at_call 146;refine bN i.out ?_;rintro w' rfl)|(go_at_call 184;refine d.out.mono ?_;rintro e w' ⟨a,c,rfl,h1,j,hq⟩)|go_in);go_ret3
 exact⟨a,c,rfl,h1,j,f.out _ _ hq⟩
theorem R_(w:World):Calls prog 143 #[] w fun e w'=>∃b,e=.returned (.agg #[nZ,.int .u64 0,.map (some b)])/\bJ w w':=by have a:=@run_makeMap prog;go_enter func143,ntmps143;go_wp2;exact bodyPost_ret (v:=.agg #[nZ,.int .u64 0,.map (some (w.heap.size+1))]) (by simp[results,results143,go_sem]) rfl ⟨_,rfl,((eT _ w).alloc (eB _) _).alloc aP _⟩
theorem WM(bG aO aX:Nat)(g:64<=bG/\bG<=400)(h:16<=aO/\aO<=4096)(ht:16<=aX/\aX<=4096)(w:World):Calls prog 141 #[.agg #[.int .i64 bG,.int .i64 aO,.int .i64 aX]] w fun e w'=>e=.returned (.bool true)/\bJ w w':=by
 have c:Hid (∀y,Calls prog 185 #[.int .i64 bG,.int .i64 64,.int .i64 400] y fun e w'=>e=.returned (.bool true)/\w'=y):=fun y=>by have:=uR (bG:Int) 64 400 y;rwa[decide_eq_true aj]at this
 have d:Hid (∀y,Calls prog 185 #[.int .i64 aO,.int .i64 16,.int .i64 4096] y fun e w'=>e=.returned (.bool true)/\w'=y):=fun y=>by have:=uR (aO:Int) 16 4096 y;rwa[decide_eq_true aj]at this
 have f:Hid (∀y,Calls prog 185 #[.int .i64 aX,.int .i64 16,.int .i64 4096] y fun e w'=>e=.returned (.bool true)/\w'=y):=fun y=>by have:=uR (aX:Int) 16 4096 y;rwa[decide_eq_true aj]at this
 clear g h ht;go_enter func141,ntmps141;go_wp2_with (first|(go_at_call_has 185 (mI .i64 bG);refine bN (c.out _) ?_;rintro y b;have a:=b.symm;subst a)|(go_at_call_has 185 (mI .i64 aO);refine bN (d.out _) ?_;rintro y b;have a:=b.symm;subst a)|(go_at_call_has 185 (mI .i64 aX);refine bN (f.out _) ?_;rintro y b;have a:=b.symm;subst a));go_ret;exact⟨rfl,(eT _ w).alloc (eB _) _⟩
