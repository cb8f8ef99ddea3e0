import Derived.Test.YtphbledmopchnaaGreatDoorKeb
import Derived.Test.YtphbledmopchnaaGreatDoorKdd
open Nat renaming le_refl->mR,le_max_right->nI,le_max_left->tL,min_le_left->tT
set_option maxHeartbeats 4000000
set_option maxRecDepth 100000
namespace Go.Proofs.YtphbledmopchnaaGreatDoor.Sd
open Go.RowKit Go.Lib Mm Tryz
theorem extract_toList(D:ByteArray)(a b:Nat):(D.extract a b).data.toList=(D.data.toList.take b).drop a:=by
 rw[ByteArray.data_extract,Array.toList_extract,List.extract_eq_drop_take',List.drop_take]
theorem SA(m:bI)(f:Fr):m.take f=(
  if max f.offset m.read<min (av f) ({m with high:=max m.high (av f),ended:=m.ended||f.fin,dD:=if f.fin then av f else m.dD}:bI).wanted then
   ({m with high:=max m.high (av f),ended:=m.ended||f.fin,dD:=if f.fin then av f else m.dD}:bI).hold (max f.offset m.read) ((f.data.data.toList.take (min (av f) ({m with high:=max m.high (av f),ended:=m.ended||f.fin,dD:=if f.fin then av f else m.dD}:bI).wanted-f.offset)).drop (max f.offset m.read-f.offset))
  else{m with high:=max m.high (av f),ended:=m.ended||f.fin,dD:=if f.fin then av f else m.dD}):=rfl
structure Fq (ow:Own) (s t S o B:Nat) (f:Fr) (rv:Value) (l0:List Value) (w:World) (l:List Value) (m:bI) (y:World):Prop where
 kp:Kp [s,t,t+1] ow ow w y
 blk:ak y S TS l
 win:iH l0 l o 13
 inn:zL ow t y l o m
 box:ak y B 65 (bX f rv)
theorem Fq.below{ow:Own}{s t S o B:Nat}{f:Fr}{rv:Value}{l0:List Value}{w:World}{l:List Value}{m:bI}{y y':World}(h:Fq ow s t S o B f rv l0 w l m y)(hb:Below y.heap.size y y'):Fq ow s t S o B f rv l0 w l m y':=
 ⟨h.kp.eP hb,h.blk.of_heap (hb.block _ h.blk.lt),h.win,h.inn.kp (Kp.below (T:=[]) hb) (by simp) (by simp) (iH.refl l (o+13) 0) (by omega),h.box.of_heap (hb.block _ h.box.lt)⟩
theorem Fq.cell{ow:Own}{s t S o B:Nat}{f:Fr}{rv:Value}{l0:List Value}{w:World}{l:List Value}{m m':bI}{y:World}(h:Fq ow s t S o B f rv l0 w l m y)(O:ow S=s)(Z:s<t)(hB:ow B=0)(X:0<s)(j:Nat)(v:Value)(V:o<=j)(G:j<o+13)(U:∀vh vc,uN l o m vh vc->uN (l.set j v) o m' vh vc)(H:m'.held=m.held)(I:m'.came=m.came):Fq ow s t S o B f rv l0 w (l.set j v) m' (y.setCell ⟨S,j,none⟩ v):=by
 have h1:=cu.one h.blk j v o 13 V G;have F:=h1.kp O (T:=[s]) (by simp);obtain⟨vh,vc,k1,k2,k3⟩:=h.inn;refine⟨h.kp.trans (F.mono (by simp)),h1.blk,h.win.trans h1.win,⟨vh,vc,U _ _ k1,?_,?_⟩,aK h.box F (by rw[hB];simp;omega)⟩
 ·rw[H];exact k2.kp F (by simp;omega)
 ·rw[I];exact k3.kp F (by simp;omega)
theorem Fq.drewN{ow:Own}{s t S o B:Nat}{f:Fr}{rv:Value}{l0:List Value}{w:World}{l:List Value}{m:bI}{y:World}(h:Fq ow s t S o B f rv l0 w l m y)(q:Nat):Fq ow s t S o B f rv l0 w l m (y.drewN q):=h.below ⟨rfl,rfl,rfl,mR _,fun _ _=>rfl⟩
theorem Fq.wanted{ow:Own}{s t S o B:Nat}{f:Fr}{rv:Value}{l0:List Value}{w:World}{l:List Value}{m:bI}{y:World}(h:Fq ow s t S o B f rv l0 w l m y):Calls prog 306 #[.pointer (some ⟨S,o,none⟩)] y fun e w'=>e=.returned (.int .u64 m.wanted)/\w'=y:=by
 obtain⟨vh,vc,k1,_⟩:=h.inn;exact sW S o m vh vc y l h.blk k1
theorem Fq.read{ow:Own}{s t S o B:Nat}{f:Fr}{rv:Value}{l0:List Value}{w:World}{l:List Value}{m:bI}{y:World}(h:Fq ow s t S o B f rv l0 w l m y):y.cell? ⟨S,o+4,none⟩=some (.int .u64 m.read):=by
 obtain⟨vh,vc,k1,_⟩:=h.inn;exact in4 S o m vh vc y l h.blk k1
theorem SB(s t:Nat)(own:Own)(S o:Nat)(m:bI)(f:Fr)(rv:Value)(l:List Value)(w:World)(hB:ak w S TS l)(hS:own S=s)(hx:0<s)(hf:s<t)(hO:zL own t w l o m)(ok:Q8 m)(ho:f.offset<=aU)(hd:f.data.size<=1000000000)(hE:av f<=aU)(xn:av f<=m.read+100000):
  Calls prog 298 #[.pointer (some ⟨S,o,none⟩),bJ f rv] w fun e w'=>e=.returned (.tuple #[])/\NR s t own S o l w (m.take f) w':=by
 have xi:=hB.lt;obtain⟨ow,he⟩:∃ow,ow=loc own w.heap.size:=⟨_,rfl⟩
 have h8:ow S=s:=by rw[he,fH _ _ _ xi,hS]
 have hu:ow w.heap.size=0:=by rw[he,eT _ _ _ (mR _)]
 have Vn:zL ow t w l o m:=by rw[he];exact hO.loc
 obtain⟨W,hW⟩:∃W,W=w.alloc (.cells (bX f rv).toArray 65):=⟨_,rfl⟩
 have hb:ak W w.heap.size 65 (bX f rv):=by rw[hW];exact ak.new w 65 _
 have hk:Below w.heap.size w W:=by rw[hW];exact(Below.refl _ w).alloc (mR _) _
 have T0:Fq ow s t S o w.heap.size f rv l w l m W:=⟨Kp.below hk,hB.of_heap (hk.block _ xi),iH.refl _ _ _,Vn.kp (Kp.below (T:=[]) hk) (by simp) (by simp) (iH.refl l (o+13) 0) (by omega),hb⟩;have Rb:=hid (fun y=>g_ f rv y ho hd);obtain⟨x0,x1,x2,x3,x4,x5,x6,x7,x8,x9,xf⟩:=aA hb
 have iG:Hid (∀w' m',m'=m.take f->NR s t ow S o l w m' w'->NR s t own S o l w (m.take f) w'):=fun w' m' e h=>by
  rw[<-e];rw[he]at h;obtain⟨own',l',h1,h2⟩:=h;exact⟨own',l',h1.iN,h2⟩
 have hj:=hid (SA m f);generalize m.take f=MT at *;generalize xd:av f=E at *
 have Vo:Hid (f.offset+f.data.size=E):=by unfold Hid;rw[<-xd];rfl
 clear xd;have xa:=hid T0;clear hb hk T0 Vn he hO;unfold bJ at *;unfold bX at hW;go_enter func298,ntmps298
 go_wp2_with fail
 rw[<-hW];clear hW;refine(Rb.out W).mono ?_;rintro e y1 ⟨rfl,nT⟩;have T1:=xa.out.below nT;obtain⟨vh,vc,k1,k2,k3⟩:=T1.inn;have hn:=hid (uO S o m vh vc y1 l T1.blk k1 E);have c7:=in7 S o m vh vc y1 l T1.blk k1;have f7:=T1.blk.frozen (o+7);have T2:=T1.cell h8 hf hu hx (o+7) (.int .u64 ((max m.high E:Nat):Int)) (by omega) (by omega) (m':={m with high:=max m.high E}) (fun _ _ h=>NU h _) rfl rfl;generalize max m.high E=HI at *;obtain⟨y2,hg⟩:∃y2,y2=y1.setCell ⟨S,o+7,none⟩ (.int .u64 HI):=⟨_,rfl⟩;rw[<-hg]at T2;obtain⟨z0,z1,z2,z3,z4,z5,z6,z7,z8,z9,zf⟩:=aA T1.box
 have n1:¬(S=w.heap.size):=by omega
 have n2:¬(w.heap.size=S):=by omega
 have Z:=hid T2;clear T1 T2 k1 k2 k3 nT x0 x1 x2 x3 x4 x5 x6 x7 x8 x9 xf xa
 go_wp2_with fail
 refine hn.out.mono ?_;rintro e y ⟨rfl,rfl⟩
 rcases(Bool.eq_false_or_eq_true f.fin).symm with hfi|hfi
 ·have t5:y.cell? ⟨w.heap.size,5,none⟩=some (.bool false):=by rw[<-hfi];exact z5
  have zV:=hid hfi;clear hfi z0 z1 z2 z3 z4 z5 z6 z7 z8 z9 zf
  go_wp2_with fail
  rw[<-hg];clear hg t5 c7 f7 hn;obtain⟨F,G⟩:∃F:bI,F={m with high:=HI}:=⟨_,rfl⟩;have H:=Z;rw[<-G]at H;obtain⟨l3,ha⟩:∃l3,l3=l.set (o+7) (.int .u64 HI):=⟨_,rfl⟩;rw[<-ha]at H;obtain⟨y3,U⟩:∃y3,y3=y2:=⟨_,rfl⟩;rw[<-U];rw[<-U]at H
  have SC:Hid (MT=if max f.offset m.read<min E F.wanted then F.hold (max f.offset m.read) ((f.data.data.toList.take (min E F.wanted-f.offset)).drop (max f.offset m.read-f.offset))else F):=by
   have h:=hj.out;rw[zV.out]at h;simp only[Bool.or_false,Bool.false_eq_true,if_false]at h;rw[G];exact h
  have X:Hid (F.read=m.read/\F.held=m.held/\F.came=m.came):=by rw[G];exact⟨rfl,rfl,rfl⟩
  clear U ha G Z hj zV;obtain⟨lo,hw,Ou⟩:=max2 f.offset m.read;obtain⟨hi,hv,Ov⟩:=min2 E F.wanted;obtain⟨C,hC⟩:∃C:World->Prop,C=Fq ow s t S o w.heap.size f rv l w l3 F:=⟨_,rfl⟩
  have O:Hid (∀v,C v->v.cell? ⟨S,o+4,none⟩=some (.int .u64 m.read)/\(v.cell? ⟨w.heap.size,0,none⟩=some (.int .i64 f.kind)/\v.cell? ⟨w.heap.size,1,none⟩=some (.int .i64 f.stream)/\v.cell? ⟨w.heap.size,2,none⟩=some (.int .u64 f.offset)/\v.cell? ⟨w.heap.size,3,none⟩=some (.int .u64 f.reliable)/\v.cell? ⟨w.heap.size,4,none⟩=some (.int .u64 f.limit)/\v.cell? ⟨w.heap.size,5,none⟩=some (.bool f.fin)/\v.cell? ⟨w.heap.size,6,none⟩=some (.int .u64 f.id)/\v.cell? ⟨w.heap.size,7,none⟩=some (.int .u64 f.deadline)/\v.cell? ⟨w.heap.size,8,none⟩=some (.string f.data)/\v.cell? ⟨w.heap.size,9,none⟩=some rv/\∀j,v.frozen? ⟨w.heap.size,j,none⟩=false)):=fun v h=>by
   rw[hC]at h;exact⟨by rw[<-X.out.1];exact h.read,aA h.box⟩
  have h0:Hid (∀v,C v->Calls prog 318 #[.agg #[.int .i64 f.kind,.int .i64 f.stream,.int .u64 f.offset,.int .u64 f.reliable,.int .u64 f.limit,.bool f.fin,.int .u64 f.id,.int .u64 f.deadline,.string f.data,rv]] v fun e V=>e=.returned (.int .u64 E)/\C V):=fun v h=>by
   refine(Rb.out v).mono ?_;rintro e v' ⟨rfl,hb⟩;rw[hC]at h ⊢;exact⟨rfl,h.below hb⟩
  have h5:Hid (∀v,C v->Calls prog 306 #[.pointer (some ⟨S,o,none⟩)] v fun e V=>e=.returned (.int .u64 F.wanted)/\C V):=fun v h=>by
   have h':=h;rw[hC]at h';refine h'.wanted.mono ?_;rintro e v' ⟨rfl,rfl⟩;exact⟨rfl,h⟩
  have h7:C (y3.drewN 1):=by rw[hC];exact H.out.drewN 1
  have HC:=hid hC;have pI:=hid Ou;have Kc:=hid Ov;clear hC Ou Ov;refine wp_region_quiet (C:=C) (by kernel_rfl) (by kernel_rfl) h7 ?_;dsimp only
  repeat
   refine wpQuiet_step (fun K hK=>?_);go_simp
   first
    |(
      refine hK _ ?_
      clear hK K)
    |(
      apply Exists.intro;refine⟨fun y hy=>?_,hK _ ?_⟩
      (first
       |exact h0.out y hy
       |exact h5.out y hy
       |(
         obtain⟨c4,d0,d1,d2,d3,d4,d5,d6,d7,d8,d9,df⟩:=O.out y hy;go_simp
         rfl)
       |rfl)
      clear hK K)
  refine wpQuiet_nil ?_;intro y5 SE;obtain⟨c4,d0,d1,d2,d3,d4,d5,d6,d7,d8,d9,df⟩:=O.out y5 SE;rw[HC.out]at SE;have I:=hid SE;clear SE HC h0 h5 O h7 hw hv H
  have h6:Hid (f.offset<=lo/\m.read<=lo/\hi<=E/\E=f.offset+f.data.size):=by
   refine⟨?_,?_,?_,?_⟩
   ·rw[pI.out];exact tL _ _
   ·rw[pI.out];exact nI _ _
   ·rw[Kc.out];exact tT _ _
   ·exact Vo.out.symm
  by_cases hc:lo<hi
  ·obtain⟨l1,l2,l4,l5⟩:=h6.out
   have Wx:E<=4611686018427387904:=by have:=hE;unfold aU at this;omega
   obtain⟨D,hD⟩:∃D,D=f.data.extract (lo-f.offset) (hi-f.offset):=⟨_,rfl⟩
   have xl:∀wx,(Instr.slice 9 (.string f.data) (some (.int .u64 ((lo:Int)-(f.offset:Int)))) (some (.int .u64 ((hi:Int)-(f.offset:Int)))) none).run prog wx=.ok (.string D) wx:=fun wx=>by
    rw[run_slice_string wx 9 f.data .u64 .u64 _ _ (by kernel_rfl) (by omega) (by omega) (by omega),hD]
    have e1:((lo:Int)-(f.offset:Int)).toNat=lo-f.offset:=by omega
    have e2:((hi:Int)-(f.offset:Int)).toNat=hi-f.offset:=by omega
    rw[e1,e2]
   have h9:lo-m.read+D.size<=1000000:=by rw[hD,ByteArray.size_extract];omega
   have HH:=hid (Jg s t ow S o lo D F l3 y5 I.out.blk h8 hf I.out.inn (by rw[X.out.2.1,X.out.2.2];exact ok.cl) (by rw[X.out.2.1];exact ok.hl) (by rw[X.out.1];exact l2) (by unfold aU;omega) (by rw[X.out.1];exact h9))
   have hr:Hid (F.hold lo D.data.toList=MT):=by
    have h:=SC.out;rw[<-pI.out,<-Kc.out,if_pos hc]at h;unfold Hid;rw[h,hD,extract_toList]
   have g0:0<=(lo:Int)-(f.offset:Int):=by omega
   have g1:(lo:Int)-(f.offset:Int)<18446744073709551616:=by omega
   have g2:0<=(hi:Int)-(f.offset:Int):=by omega
   have g3:(hi:Int)-(f.offset:Int)<18446744073709551616:=by omega
   clear c4 d0 d1 d3 d4 d5 d6 d7 d9 df l5 Wx l4 l1 l2 hD h9 SC pI Kc h6
   go_wp2_with fail
   refine HH.out.mono ?_;rintro e y6 ⟨rfl,hQ⟩
   have HQ:Hid (NR s t own S o l w MT y6):=by
    obtain⟨own',l',h1,h2,h3,h4⟩:=hQ;rw[hr.out]at h4;exact iG.out y6 MT rfl ⟨own',l',I.out.kp.trans h1,h2,I.out.win.trans h3,h4⟩
   clear HH hQ
   go_wp2_with fail
   go_end0;exact⟨rfl,HQ.out⟩
  ·clear c4 d0 d1 d2 d3 d4 d5 d6 d7 d8 d9 df
   go_wp2_with fail
   go_end0;have h:=SC.out;rw[<-pI.out,<-Kc.out,if_neg hc]at h;exact⟨rfl,iG.out _ _ h.symm ⟨ow,l3,I.out.kp,I.out.blk,I.out.win,I.out.inn⟩⟩
 ·have zV:=hid hfi
  have t5:y.cell? ⟨w.heap.size,5,none⟩=some (.bool true):=by rw[<-hfi];exact z5
  clear z5;have hm:=hid (Rb.out y2);rw[hfi]at hm
  have SC:Hid (∀F:bI,F={m with high:=HI,ended:=true,dD:=E}->(MT=if max f.offset m.read<min E F.wanted then F.hold (max f.offset m.read) ((f.data.data.toList.take (min E F.wanted-f.offset)).drop (max f.offset m.read-f.offset))else F)):=fun F G=>by
   have h:=hj.out;rw[hfi]at h;simp only[Bool.or_true,if_true]at h;rw[G];exact h
  clear hfi hj;have xm:y2.cell? ⟨w.heap.size,0,none⟩=some (.int .i64 f.kind):=(aA Z.out.box).1;obtain⟨x0,x1,x2,x3,x4,x5,x6,x7,x8,x9,xf⟩:=aA Z.out.box;rw[zV.out]at x5;clear xm
  go_wp2_with fail
  rw[<-hg];refine hm.out.mono ?_;rintro e y4 ⟨rfl,xe⟩;have T3:=Z.out.below xe;obtain⟨xj,gF,k1,k2,k3⟩:=T3.inn;have c8:=in8 S o _ xj gF y4 _ T3.blk k1;have c9:=in9 S o _ xj gF y4 _ T3.blk k1;have f8:=T3.blk.frozen (o+8);have f9:=T3.blk.frozen (o+9);have T4:=T3.cell h8 hf hu hx (o+8) (.bool true) (by omega) (by omega) (m':={m with high:=HI,ended:=true}) (fun _ _ h=>Ku h true) rfl rfl;have T5:=T4.cell h8 hf hu hx (o+9) (.int .u64 E) (by omega) (by omega) (m':={m with high:=HI,ended:=true,dD:=E}) (fun _ _ h=>NV h E) rfl rfl;obtain⟨y3,U⟩:∃y3,y3=(y4.setCell ⟨S,o+8,none⟩ (.bool true)).setCell ⟨S,o+9,none⟩ (.int .u64 E):=⟨_,rfl⟩;rw[<-U]at T5;have H:=hid T5;clear T3 T4 T5 k1 k2 k3 xe hg c7 f7 hn t5 z0 z1 z2 z3 z4 z6 z7 z8 z9 zf hm Z x0 x1 x2 x3 x4 x5 x6 x7 x8 x9 xf
  go_wp2_with fail
  rw[<-U];clear U c8 c9 f8 f9 zV;obtain⟨F,G⟩:∃F:bI,F={m with high:=HI,ended:=true,dD:=E}:=⟨_,rfl⟩;rw[<-G]at H;have SC:=hid (SC.out F G)
  have X:Hid (F.read=m.read/\F.held=m.held/\F.came=m.came):=by rw[G];exact⟨rfl,rfl,rfl⟩
  clear G;obtain⟨l3,ha⟩:∃l3,l3=((l.set (o+7) (.int .u64 HI)).set (o+8) (.bool true)).set (o+9) (.int .u64 E):=⟨_,rfl⟩;rw[<-ha]at H;clear ha;obtain⟨lo,hw,Ou⟩:=max2 f.offset m.read;obtain⟨hi,hv,Ov⟩:=min2 E F.wanted;obtain⟨C,hC⟩:∃C:World->Prop,C=Fq ow s t S o w.heap.size f rv l w l3 F:=⟨_,rfl⟩
  have O:Hid (∀v,C v->v.cell? ⟨S,o+4,none⟩=some (.int .u64 m.read)/\(v.cell? ⟨w.heap.size,0,none⟩=some (.int .i64 f.kind)/\v.cell? ⟨w.heap.size,1,none⟩=some (.int .i64 f.stream)/\v.cell? ⟨w.heap.size,2,none⟩=some (.int .u64 f.offset)/\v.cell? ⟨w.heap.size,3,none⟩=some (.int .u64 f.reliable)/\v.cell? ⟨w.heap.size,4,none⟩=some (.int .u64 f.limit)/\v.cell? ⟨w.heap.size,5,none⟩=some (.bool f.fin)/\v.cell? ⟨w.heap.size,6,none⟩=some (.int .u64 f.id)/\v.cell? ⟨w.heap.size,7,none⟩=some (.int .u64 f.deadline)/\v.cell? ⟨w.heap.size,8,none⟩=some (.string f.data)/\v.cell? ⟨w.heap.size,9,none⟩=some rv/\∀j,v.frozen? ⟨w.heap.size,j,none⟩=false)):=fun v h=>by
   rw[hC]at h;exact⟨by rw[<-X.out.1];exact h.read,aA h.box⟩
  have h0:Hid (∀v,C v->Calls prog 318 #[.agg #[.int .i64 f.kind,.int .i64 f.stream,.int .u64 f.offset,.int .u64 f.reliable,.int .u64 f.limit,.bool f.fin,.int .u64 f.id,.int .u64 f.deadline,.string f.data,rv]] v fun e V=>e=.returned (.int .u64 E)/\C V):=fun v h=>by
   refine(Rb.out v).mono ?_;rintro e v' ⟨rfl,hb⟩;rw[hC]at h ⊢;exact⟨rfl,h.below hb⟩
  have h5:Hid (∀v,C v->Calls prog 306 #[.pointer (some ⟨S,o,none⟩)] v fun e V=>e=.returned (.int .u64 F.wanted)/\C V):=fun v h=>by
   have h':=h;rw[hC]at h';refine h'.wanted.mono ?_;rintro e v' ⟨rfl,rfl⟩;exact⟨rfl,h⟩
  have h7:C (y3.drewN 1):=by rw[hC];exact H.out.drewN 1
  have HC:=hid hC;have pI:=hid Ou;have Kc:=hid Ov;clear hC Ou Ov;refine wp_region_quiet (C:=C) (by kernel_rfl) (by kernel_rfl) h7 ?_;dsimp only
  repeat
   refine wpQuiet_step (fun K hK=>?_);go_simp
   first
    |(
      refine hK _ ?_
      clear hK K)
    |(
      apply Exists.intro;refine⟨fun y hy=>?_,hK _ ?_⟩
      (first
       |exact h0.out y hy
       |exact h5.out y hy
       |(
         obtain⟨c4,d0,d1,d2,d3,d4,d5,d6,d7,d8,d9,df⟩:=O.out y hy;go_simp
         rfl)
       |rfl)
      clear hK K)
  refine wpQuiet_nil ?_;intro y5 SE;obtain⟨c4,d0,d1,d2,d3,d4,d5,d6,d7,d8,d9,df⟩:=O.out y5 SE;rw[HC.out]at SE;have I:=hid SE;clear SE HC h0 h5 O h7 hw hv H
  have h6:Hid (f.offset<=lo/\m.read<=lo/\hi<=E/\E=f.offset+f.data.size):=by
   refine⟨?_,?_,?_,?_⟩
   ·rw[pI.out];exact tL _ _
   ·rw[pI.out];exact nI _ _
   ·rw[Kc.out];exact tT _ _
   ·exact Vo.out.symm
  by_cases hc:lo<hi
  ·obtain⟨l1,l2,l4,l5⟩:=h6.out
   have Wx:E<=4611686018427387904:=by have:=hE;unfold aU at this;omega
   obtain⟨D,hD⟩:∃D,D=f.data.extract (lo-f.offset) (hi-f.offset):=⟨_,rfl⟩
   have xl:∀wx,(Instr.slice 9 (.string f.data) (some (.int .u64 ((lo:Int)-(f.offset:Int)))) (some (.int .u64 ((hi:Int)-(f.offset:Int)))) none).run prog wx=.ok (.string D) wx:=fun wx=>by
    rw[run_slice_string wx 9 f.data .u64 .u64 _ _ (by kernel_rfl) (by omega) (by omega) (by omega),hD]
    have e1:((lo:Int)-(f.offset:Int)).toNat=lo-f.offset:=by omega
    have e2:((hi:Int)-(f.offset:Int)).toNat=hi-f.offset:=by omega
    rw[e1,e2]
   have h9:lo-m.read+D.size<=1000000:=by rw[hD,ByteArray.size_extract];omega
   have HH:=hid (Jg s t ow S o lo D F l3 y5 I.out.blk h8 hf I.out.inn (by rw[X.out.2.1,X.out.2.2];exact ok.cl) (by rw[X.out.2.1];exact ok.hl) (by rw[X.out.1];exact l2) (by unfold aU;omega) (by rw[X.out.1];exact h9))
   have hr:Hid (F.hold lo D.data.toList=MT):=by
    have h:=SC.out;rw[<-pI.out,<-Kc.out,if_pos hc]at h;unfold Hid;rw[h,hD,extract_toList]
   have g0:0<=(lo:Int)-(f.offset:Int):=by omega
   have g1:(lo:Int)-(f.offset:Int)<18446744073709551616:=by omega
   have g2:0<=(hi:Int)-(f.offset:Int):=by omega
   have g3:(hi:Int)-(f.offset:Int)<18446744073709551616:=by omega
   clear c4 d0 d1 d3 d4 d5 d6 d7 d9 df l5 Wx l4 l1 l2 hD h9 SC pI Kc h6
   go_wp2_with fail
   refine HH.out.mono ?_;rintro e y6 ⟨rfl,hQ⟩
   have HQ:Hid (NR s t own S o l w MT y6):=by
    obtain⟨own',l',h1,h2,h3,h4⟩:=hQ;rw[hr.out]at h4;exact iG.out y6 MT rfl ⟨own',l',I.out.kp.trans h1,h2,I.out.win.trans h3,h4⟩
   clear HH hQ
   go_wp2_with fail
   go_end0;exact⟨rfl,HQ.out⟩
  ·clear c4 d0 d1 d2 d3 d4 d5 d6 d7 d8 d9 df
   go_wp2_with fail
   go_end0;have h:=SC.out;rw[<-pI.out,<-Kc.out,if_neg hc]at h;exact⟨rfl,iG.out _ _ h.symm ⟨ow,l3,I.out.kp,I.out.blk,I.out.win,I.out.inn⟩⟩
theorem lG{n q:Nat}{w W:World}(h:Below n w W):Below n w (W.drewN q):=⟨h.os,h.tape,h.output,h.size,h.block⟩
theorem nW{q:Nat}{W w:World}(h:Below (W.drewN q).heap.size (W.drewN q) w):Below W.heap.size W w:=⟨h.os,h.tape,h.output,h.size,h.block⟩
theorem DK(own:Own)(s:Nat)(S:Nat)(l:List Value)(M:Side)(bw bl bi:Nat)(vc:Value)(f:Fr)(r1:Option Addr)(r2 r3:Nat)(k:Nat)(hk:k<8)(hj:f.stream=(k:Int))(h4:f.kind=4)(w:World)(h:bM own s w S l M bw bl bi vc)(ok:Q8 (M.inn k))(hb:∀k,(M.inn k).high<=1000000)(he:av f<=100000):
  Calls prog 234 #[.pointer (some ⟨S,0,none⟩),bJ f (.slice r1 r2 r3)] w fun e w'=>e=.returned (.int .i64 ((M.take f).2:Int))/\fQ s own w S bw bl bi (M.take f).1 w':=by
 have ho:f.offset<=aU:=by unfold av at he;unfold aU;omega
 have hd:f.data.size<=1000000000:=by unfold av at he;omega
 have h7:f.stream.toNat=k:=by omega
 have X:4+k*27+14=18+27*k:=by omega
 obtain⟨W,Z⟩:∃W,W=w.alloc (.cells (bX f (.slice r1 r2 r3)).toArray 65):=⟨_,rfl⟩
 have h5:ak W w.heap.size 65 (bX f (.slice r1 r2 r3)):=by rw[Z];exact ak.new w 65 _
 have U:Below w.heap.size w W:=by rw[Z];exact(Below.refl _ w).alloc (mR _) _
 have hsz:W.heap.size=w.heap.size+1:=by rw[Z];simp
 have NY:=h.blk.lt
 have hT:M.take f=(if(M.inn k).refuse f≠0 then(M,(M.inn k).refuse f)else if M.gr.told<M.nL k (av f)then(M,9)else(M.bP k ((M.inn k).take f),0)):=by
  unfold Side.take;rw[if_neg (by rw[h4];decide),if_pos h4,h7]
 have HR:Hid (∀q,Calls prog 295 #[.pointer (some ⟨S,4+k*27+14,none⟩),bJ f (.slice r1 r2 r3)] (W.drewN q) fun e w'=>e=.returned (.int .i64 ((M.inn k).refuse f:Int))/\Below W.heap.size W w'):=fun q=>by
  have O:=h.below (lG (q:=q) U);obtain⟨vh,gF,hL,_,_⟩:=O.inn k hk;rw[X]
  exact(KS S (18+27*k) (M.inn k) vh gF f (.slice r1 r2 r3) l (W.drewN q) O.blk hL ho hd).mono fun e w' hh=>⟨hh.1,nW hh.2⟩
 have HH:Hid (∀w1 q,Below W.heap.size W w1->Calls prog 297 #[.pointer (some ⟨S,0,none⟩),bJ f (.slice r1 r2 r3)] (w1.drewN q) fun e w'=>e=.returned (.int .u64 (M.nL k (av f):Int))/\Below W.heap.size W w'):=fun w1 q h1=>by
  have O:=h.below (lG (q:=q) (U.trans (h1.mono (by omega))))
  exact(Oo own s S l M bw bl bi vc f r1 r2 r3 k hj (w1.drewN q) O hb (by omega)).mono fun e w' hh=>⟨hh.1,h1.trans ((nW hh.2).mono h1.size)⟩
 have HG:Hid (∀w1,Below W.heap.size W w1->Calls prog 296 #[.pointer (some ⟨S,221,none⟩),.int .u64 (M.nL k (av f):Int)] w1 fun e w'=>e=.returned (.bool (decide (M.nL k (av f)<=M.gr.told)))/\w'=w1):=fun w1 h1=>by
  have O:=h.below (U.trans (h1.mono (by omega)));exact zJ S 221 M.gr (M.nL k (av f)) w1 l O.blk O.cells.gr
 have HK:Hid (∀w1,Below W.heap.size W w1->Calls prog 298 #[.pointer (some ⟨S,4+k*27+14,none⟩),bJ f (.slice r1 r2 r3)] w1 fun e w'=>e=.returned (.tuple #[])/\fQ s own w S bw bl bi (M.bP k ((M.inn k).take f)) w'):=fun w1 h1=>by
  have F:=U.trans (h1.mono (by omega));have O:=h.below F;rw[X];refine(SB s (s+4+5*k) own S (18+27*k) (M.inn k) f (.slice r1 r2 r3) l w1 O.blk O.ow O.s0 (by omega) (O.inn k hk) ok ho hd (by unfold aU;omega) (by omega)).mono ?_;rintro e w' ⟨rfl,q⟩;obtain⟨o',l',v',a,b⟩:=O.bP k hk _ q;exact⟨rfl,o',l',v',a,(Kp.below F).trans b⟩
 have HQ:Hid (∀w1,Below W.heap.size W w1->fQ s own w S bw bl bi M w1):=fun w1 h1=>fQ.refl h (U.trans (h1.mono (by omega)))
 have uE:=hid h5
 have sK:(k:Int)<8:=by omega
 obtain⟨x0,x1,x2,x3,x4,x5,x6,x7,x8,x9,xf⟩:=aA h5;rw[hT];clear hT U h ok hb he ho hd h5 h7 X h4;generalize (M.inn k).refuse f=R at *;generalize M.nL k (av f)=H at *;unfold bJ at *;unfold bX at Z uE;generalize f.stream=st at *;subst hj
 by_cases h3:R≠0
 ·rw[if_pos h3]
  have sG:¬(R:Int)=0:=by omega
  go_enter func234,ntmps234;go_wp2;rw[<-Z];clear Z
  go_quiet (fail)
  go_wp2_with (go_at_call 295;refine(HR.out _).mono ?_;rintro e w1 ⟨rfl,F⟩;have G:=uE.out.of_heap (F.block _ (by omega));obtain⟨y0,y1,y2,y3,y4,y5,y6,y7,y8,y9,yf⟩:=aA G;have V:=hid F;clear G F x0 x1 x2 x3 x4 x5 x6 x7 x8 x9 xf HR)
  go_ret;exact⟨rfl,HQ.out _ V.out⟩
 ·rw[if_neg h3]
  obtain rfl:R=0:=by omega
  clear h3
  by_cases hH:M.gr.told<H
  ·rw[if_pos hH];have h2:decide (H<=M.gr.told)=false:=decide_eq_false (by omega);rw[h2]at HG;go_enter func234,ntmps234;go_wp2;rw[<-Z];clear Z
   go_quiet (fail)
   go_wp2_with (go_at_call 295;refine(HR.out _).mono ?_;rintro e w1 ⟨rfl,F⟩;have G:=uE.out.of_heap (F.block _ (by omega));obtain⟨y0,y1,y2,y3,y4,y5,y6,y7,y8,y9,yf⟩:=aA G;have V:=hid F;clear G F x0 x1 x2 x3 x4 x5 x6 x7 x8 x9 xf HR)
   go_region_with (first|(go_at_call 297;refine(HH.out w1 _ V.out).mono ?_;rintro e w2 ⟨rfl,I⟩)|(go_at_call 296;refine(HG.out w2 I).mono ?_;rintro e w3 ⟨rfl,h6⟩;have Ow:=h6.symm;subst Ow;have G:=uE.out.of_heap (I.block _ (by omega));obtain⟨z0,z1,z2,z3,z4,z5,z6,z7,z8,z9,zf⟩:=aA G;have h0:=hid I;clear G I y0 y1 y2 y3 y4 y5 y6 y7 y8 y9 yf))
   all_goals(go_wp2;go_ret;exact⟨rfl,HQ.out _ h0.out⟩)
  ·rw[if_neg hH];have h2:decide (H<=M.gr.told)=true:=decide_eq_true (by omega);rw[h2]at HG;go_enter func234,ntmps234;go_wp2;rw[<-Z];clear Z
   go_quiet (fail)
   go_wp2_with (go_at_call 295;refine(HR.out _).mono ?_;rintro e w1 ⟨rfl,F⟩;have G:=uE.out.of_heap (F.block _ (by omega));obtain⟨y0,y1,y2,y3,y4,y5,y6,y7,y8,y9,yf⟩:=aA G;have V:=hid F;clear G F x0 x1 x2 x3 x4 x5 x6 x7 x8 x9 xf HR)
   go_region_with (first|(go_at_call 297;refine(HH.out w1 _ V.out).mono ?_;rintro e w2 ⟨rfl,I⟩)|(go_at_call 296;refine(HG.out w2 I).mono ?_;rintro e w3 ⟨rfl,h6⟩;have Ow:=h6.symm;subst Ow;have G:=uE.out.of_heap (I.block _ (by omega));obtain⟨z0,z1,z2,z3,z4,z5,z6,z7,z8,z9,zf⟩:=aA G;have h0:=hid I;clear G I y0 y1 y2 y3 y4 y5 y6 y7 y8 y9 yf))
   all_goals(
    go_wp2_with (go_at_call 298;refine(HK.out _ h0.out).mono ?_;rintro e w4 ⟨rfl,HE⟩)
    go_ret
    exact⟨rfl,HE⟩)
end Go.Proofs.YtphbledmopchnaaGreatDoor.Sd
