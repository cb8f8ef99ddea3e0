import Derived.Test.YtphbledmopchnaaGreatDoorUhb
open List renaming flatMap_cons->fA,getElem?_eq_some_iff->fB,length_take->mR,getElem?_take->sQ,length_drop->tT
open Nat renaming le_refl->nI,zero_add->wz
set_option maxHeartbeats 2000000
set_option maxRecDepth 100000
namespace Go.Proofs.YtphbledmopchnaaGreatDoor.Sd
open Go.RowKit Go.Lib Mm Tryz
theorem wh(oZ:Own)(s:Nat)(C S:Nat)(bw bl bi:Nat)(data:ByteArray)(hd:data.size<=1000000000)(w:World)(hc:w.cell? (aj C 0)=some (ay S 0))(hE:eF w)(h0:oZ 0∉T0 s)(en:Nat)(h7:Jh en)(Z:Side->Prop)(hR:∀cp W,data.size<=cp->cp<=9223372036854775807->aD w W->BytesAt W (some (aj w.heap.size 0)) data.data.toList->DJ W w.heap.size data.size->Calls prog 104 #[ay S 0,aS w.heap.size data.size cp] W fun e w1=>e=.returned (nu en)/\∃F,Z F/\SS oZ s w S bw bl bi data.size F w1):
  Calls prog 29 #[ay C 0,.string data] w fun e w'=>e=.returned (.tuple #[iZ en,(iZ (-1))])/\∃F,Z F/\fP s oZ w S bw bl bi F w':=by
 obtain⟨cp,W,he,U,V,G,O,X⟩:=jH w data hd;have h6:C<w.heap.size:=World.block_lt_of_cell? w (aj C 0) (by rw[hc])
 have HC:Hid (Calls prog 56 #[ay C 0,aS w.heap.size data.size cp] W fun e w1=>∃x,e=.returned x/\x=nu en/\∃F,Z F/\SS oZ s w S bw bl bi data.size F w1):=
  Jg C S W (cell_of hc (G.block _ h6)) _ (fun x w1=>x=nu en/\∃F,Z F/\SS oZ s w S bw bl bi data.size F w1) ((hR cp W U V G O X).mono fun e w1 hh=>⟨_,hh.1,rfl,hh.2⟩)
 have HN:Hid (∀F w1,SS oZ s w S bw bl bi data.size F w1->Calls prog 42 #[nu en] w1 fun r w2=>r=.returned (.tuple #[iZ en,(iZ (-1))])/\SS oZ s w S bw bl bi data.size F w2):=fun F w1 hq=>by
  refine(Fh _ h7 w1 (hq.err hE h0)).mono ?_;rintro e w2 ⟨rfl,hb⟩;exact⟨rfl,hq.below hb⟩
 clear hc hE h0 G O X hR;generalize data.size=n at *;go_enter func29,ntmps29
 go_wp2_with (go_at_call 56;refine HC.out.mono ?_;rintro e w1 ⟨x,rfl,rfl,F,K,hq⟩;have h5:=au K;have I:=au hq;clear K hq)
 clear HC
 go_loopw [16] (fun H wr=>∃j:Nat,j<=n/\H=(iZ j)/\Hid (SS oZ s w S bw bl bi n F wr)) (fun H _=>n-(intOf H).toNat)
 case atStart=>exact⟨0,Nat.zero_le _,rfl,I⟩
 case round=>
  obtain⟨j,hj,rfl,HR⟩:=hrel;clear I
  by_cases h8:j<n
  ·have ha:(j:Int)<(n:Int):=by omega
   obtain⟨⟨v,e1⟩,e2⟩:(∃v,wr.cell? (aj w.heap.size j)=some v)/\wr.frozen? (aj w.heap.size j)=false:=by
    obtain⟨o,l1,v1,h1,h2,h3,h4⟩:=HR.out;exact h3.cell j h8
   have HS:=au (HR.out.set j (.int .u8 33));go_wp2;go_roundw
   case rel=>exact⟨j+1,by omega,by simp,HS⟩
   case measure=>simp[intOf];omega
  ·obtain rfl:j=n:=by omega
   have HT:=au (HN.out F wr HR.out)
   go_wp2_with (go_at_call 42;refine HT.out.mono ?_;rintro e w3 ⟨rfl,h9⟩)
   refine bodyPost_ret (v:=.tuple #[iZ en,(iZ (-1))]) (by simp[results,results29,go_sem]) rfl ?_;exact⟨rfl,F,h5.out,h9.q⟩
theorem Ji(oZ:Own)(s:Nat)(C S:Nat)(l:aI)(M:Side)(bw bl bi:Nat)(vc:Value)(n:Nat)(fs:List Fr)(data:ByteArray)(hd:data.size<=1000000000)(w:World)(h:bT oZ s w S l M bw bl bi vc)(hc:w.cell? (aj C 0)=some (ay S 0))(hE:eF w)(h0:oZ 0=0)(hg:Gd oZ w)(hb:Bd M)(hy:M.why=0)(hn:n<=aZ)(hD:lZ true n fs data.data.toList)(Z:fs.map norm=fs)(X:fs.length<=1000000)(hC:∀O j,j<fs.length->jT {M with came:=M.came.add 8 n n,answer:=M.answer||wants fs} (fs.take j) O->FrC O (fs.getD j dS)/\Bd O/\O.next<=aZ):
  Calls prog 29 #[ay C 0,.string data] w fun e w'=>e=.returned (.tuple #[iZ 0,(iZ (-1))])/\∃G,M.iQ n fs G 0/\fP s oZ w S bw bl bi G w':=by
 have hs:=h.s0
 have H:(0:Nat)∉T0 s:=fun e=>by have:=bN.1 e;omega
 have F:data.data.toList.length=data.size:=by simp
 refine wh oZ s C S bw bl bi data hd w hc hE (by rw[h0];exact H) 0 (.inl rfl) (fun G=>M.iQ n fs G 0) ?_;intro cp W h1 h2 I V h3;obtain⟨o,l1,v1,g1,g2,U,g4⟩:=Dt h I h3;have K:Gd oZ W:=hg.kp (Kp.below (T:=[]) I) (by simp);have:=Je o s S l1 M bw bl bi v1 n fs w.heap.size 0 cp data.data.toList W g1 hb hy hn hD Z X V (by rw[F];exact hd) (by rw[F];exact h1) h2 U.lt K.tab K.sz hC;rw[F]at this;refine this.mono ?_;rintro e w1 ⟨rfl,G,r1,o2,l2,v2,q1,q2⟩;exact⟨rfl,G,r1,o2,l2,v2,q1,by rw[q2.ext _ U.lt,g2],U.of_heap (q2.blk _ U.lt (by rw[g2];exact H)),g4.trans q2⟩
theorem zG(oZ:Own)(s:Nat)(C S:Nat)(l:aI)(M:Side)(bw bl bi:Nat)(vc:Value)(data:ByteArray)(hd:data.size<=1000000000)(w:World)(h:bT oZ s w S l M bw bl bi vc)(hc:w.cell? (aj C 0)=some (ay S 0))(hE:eF w)(h0:oZ 0=0)(hg:Gd oZ w)(hy:M.why=0)(hD:lZ false 0 [] data.data.toList):
  Calls prog 29 #[ay C 0,.string data] w fun e w'=>e=.returned (.tuple #[iZ 7,(iZ (-1))])/\fP s oZ w S bw bl bi M w':=by
 have hs:=h.s0
 have I:(0:Nat)∉T0 s:=fun e=>by have:=bN.1 e;omega
 have F:data.data.toList.length=data.size:=by simp
 refine(wh oZ s C S bw bl bi data hd w hc hE (by rw[h0];exact I) 7 (.inr (.inr (.inr rfl))) (fun X=>X=M) ?_).mono ?_
 ·intro cp W h1 h2 G O U;have V:=Dt h G U;obtain⟨o,l1,v1,Z,g2,g3,g4⟩:=V;have H:Gd oZ W:=hg.kp (Kp.below (T:=[]) G) (by simp);have:=zF S w.heap.size 0 cp data.data.toList W (Z.open hy) hD O (by rw[F];exact hd) (by rw[F];exact h1) h2 g3.lt H.tab H.sz;rw[F]at this;refine this.mono ?_;rintro e w1 ⟨rfl,K⟩;exact⟨rfl,M,rfl,SS.below ⟨o,l1,v1,Z,g2,g3,g4⟩ K⟩
 ·rintro e w' ⟨rfl,X,rfl,hq⟩;exact⟨rfl,hq⟩
section
theorem xu(c:Int)(m:Nat)(K: -9223372036854775808<=c)(G:c<=9223372036854775807)(H:0<m)(I:m<=9000000000)(w:World):
  Calls prog 32 #[iZ c,iZ m] w fun e w'=>e=.returned (iZ (bX c m:Nat))/\w'=w:=by
 have hl:=au (fI c m H)
 by_cases h:c<0
 ·have F:=au (Bo c m h);go_enter func32,ntmps32;go_wp2;go_ret;exact⟨iX F.out,rfl⟩
 ·have F:=au (Bp c m (by omega));go_enter func32,ntmps32;go_wp2;go_ret;exact⟨iX F.out,rfl⟩
theorem BK(n:Net)(i:Nat):n.bY i (n.x i)=n:=by
 unfold Net.bY
 have:(fun j=>if j=i then n.x i else n.x j)=n.x:=funext fun j=>by split<;>simp_all
 rw[this]
def rR(n:Net)(B:Nat):Prop:=(∀i,i<2->(n.x i).next+24*(B+1)<aZ/\(n.x i).tick+B<9223372036854775808)/\n.now+B<9223372036854775808
def NH(oZ:Own)(w:World)(a:Ad)(vb:Value)(E:Nat->Nat->aI)(T:List Nat)(n:Net)(w':World):Prop:=∃aC,bL aC w' a n vb E/\Kp T oZ aC w w'
section
variable {oZ:Own} {w:World} {a:Ad} {n:Net} {vb:Value} {E:Nat->Nat->aI}
theorem bL.sdq(h:bL oZ w a n vb E)(i:Nat)(hi:i<2)(M:Side){w':World}(hq:fP (60*(i+1)) oZ w (a.S i) (a.bw i) (a.bl i) (a.bi i) M w'):NH oZ w a vb E (T0 (60*(i+1))) (n.bY i M) w':=by
 obtain⟨o,l,v,h1,F⟩:=hq;exact⟨o,h.side F i hi (fun x G=>by have:=bN.1 G;omega) M ⟨l,v,h1⟩,F⟩
theorem bL.no0(h:bL oZ w a n vb E)(i:Nat):oZ 0∉T0 (60*(i+1)):=by
 rw[h.o0];exact fun e=>by have:=bN.1 e;omega
theorem VQ(h:bL oZ w a n vb E)(i:Nat)(hi:i<2)(ht:(n.x i).tick+1<18446744073709551616)(hq:(n.x i).queue=[])(G:(n.x i).qv=nZ):
  Calls prog 38 #[(ay (a.C i) 0)] w fun e w'=>e=.returned (.tuple #[])/\NH oZ w a vb E (T0 (60*(i+1))) (n.bY i (n.x i).ticks) w':=by
 obtain⟨l,vc,H⟩:=h.sd i hi;exact VD (a.C i) (a.S i) w (h.cn i hi).1 _ ((U_ oZ _ (a.S i) l _ _ _ _ vc w H ht hq G).mono fun e w' F=>⟨F.1,h.sdq i hi _ F.2⟩)
theorem RL(h:bL oZ w a n vb E)(i:Nat)(hi:i<2):
  Calls prog 57 #[(ay (a.C i) 0)] w fun e w'=>e=.returned nZ/\NH oZ w a vb E (T0 (60*(i+1))) n w':=by
 obtain⟨l,vc,G⟩:=h.sd i hi;refine Dr (a.C i) (a.S i) w (h.cn i hi).1 _ ((Dq oZ _ (a.S i) l _ _ _ _ vc w G).mono fun e w' F=>⟨F.1,?_⟩);have:=h.sdq i hi _ F.2;rwa[BK]at this
theorem NI(h:bL oZ w a n vb E)(hp:eY a.aM n)(i k:Nat)(hi:i<2)(H:k<8):
  Calls prog 35 #[(ay (a.C i) 0),iZ k] w fun e w'=>e=.returned (iZ (((n.x i).out k).finish.2:Int))/\NH oZ w a vb E (T0 (60*(i+1))) (n.bY i ((n.x i).bf k ((n.x i).out k).finish.1)) w':=by
 obtain⟨l,vc,G⟩:=h.sd i hi
 exact(NC oZ _ (a.C i) (a.S i) l _ _ _ _ vc k H w G (h.cn i hi).1 (hp.loc i hi).why h.er (h.no0 i)).mono fun e w' F=>⟨F.1,h.sdq i hi _ F.2⟩
theorem VR(h:bL oZ w a n vb E)(hp:eY a.aM n)(i k:Nat)(hi:i<2)(H:k<8)(data:ByteArray)(hd:data.size<=1000000000):
  Calls prog 34 #[(ay (a.C i) 0),iZ k,.string data] w fun e w'=>e=.returned (iZ ((((n.x i).out k).send data.data.toList).2:Int))/\NH oZ w a vb E (T0 (60*(i+1))) (n.bY i ((n.x i).bf k (((n.x i).out k).send data.data.toList).1)) w':=by
 obtain⟨l,vc,G⟩:=h.sd i hi
 exact(VH oZ _ (a.C i) (a.S i) l _ _ _ _ vc k H data hd w G (h.cn i hi).1 (hp.loc i hi).why ((hp.bd i hi).o k).b h.er (h.no0 i)).mono fun e w' F=>⟨F.1,h.sdq i hi _ F.2⟩
theorem VT(h:bL oZ w a n vb E)(hp:eY a.aM n)(i k:Nat)(hi:i<2)(H:k<8)(most:Int):
  Calls prog 58 #[(ay (a.C i) 0),iZ k,iZ most] w fun e w'=>e=.returned (.tuple #[sV (((n.x i).inn k).rd most).1,(iZ ((((n.x i).inn k).rd most).2.state:Int)),iZ 0])/\NH oZ w a vb E (T0 (60*(i+1))) (n.bY i ((n.x i).dA k (((n.x i).inn k).rd most).2)) w':=by
 obtain⟨l,vc,G⟩:=h.sd i hi
 exact(VJ oZ _ (a.C i) (a.S i) l _ _ _ _ vc k H most w G (h.cn i hi).1 (hp.loc i hi).why ((hp.bd i hi).i k)).mono fun e w' F=>⟨F.1,h.sdq i hi _ F.2⟩
theorem iI(l:List UInt8):(⟨l.toArray⟩:ByteArray).data.toList=l/\(⟨l.toArray⟩:ByteArray).size=l.length:=⟨by simp,by simp[ByteArray.size]⟩
theorem KH(h:bL oZ w a n vb E)(hp:eY a.aM n)(hb:rR n 0)(i:Nat)(hi:i<2)(y:Nat×List Fr)(F:Fq a.aM (n.x (1-i)) (n.x i) y)(H:a.aM<=400):
  Calls prog 29 #[(ay (a.C i) 0),sV (aK y.1 y.2)] w fun e w'=>e=.returned (.tuple #[iZ 0,(iZ (-1))])/\∃G,(n.x i).iQ y.1 y.2 G 0/\NH oZ w a vb E (T0 (60*(i+1))) (n.bY i G) w':=by
 obtain⟨l,vc,O⟩:=h.sd i hi;have U:=(hb.1 i hi).1;have V:=(hb.1 (1-i) (by omega)).1;have X:=F.lt;have hsz:=F.sz;obtain⟨I,K⟩:=iI (aK y.1 y.2)
 refine(Ji oZ _ (a.C i) (a.S i) l _ _ _ _ vc y.1 y.2 ⟨(aK y.1 y.2).toArray⟩ (by rw[K];omega) w O (h.cn i hi).1 h.er h.o0 h.gd (hp.bd i hi) (hp.loc i hi).why (by omega) (by rw[I];exact F.dec) F.nm (by have:=F.ln;omega)
  (ZB (hp.loc i hi) (hp.loc (1-i) (by omega)) (hp.two i hi) (hp.two' i hi) (hp.bd i hi) (hp.bd (1-i) (by omega)) F (by omega) (by omega) H)).mono ?_
 rintro e w' ⟨rfl,G,r,hq⟩;exact⟨rfl,G,r,h.sdq i hi _ hq⟩
theorem FB(h:bL oZ w a n vb E)(hp:eY a.aM n)(i:Nat)(hi:i<2)(l:List UInt8)(hl:l.length<=1000000)(H:lZ false 0 [] l):
  Calls prog 29 #[(ay (a.C i) 0),sV l] w fun e w'=>e=.returned (.tuple #[iZ 7,(iZ (-1))])/\NH oZ w a vb E (T0 (60*(i+1))) n w':=by
 obtain⟨sl,vc,I⟩:=h.sd i hi;obtain⟨F,G⟩:=iI l;refine(zG oZ _ (a.C i) (a.S i) sl _ _ _ _ vc ⟨l.toArray⟩ (by rw[G];omega) w I (h.cn i hi).1 h.er h.o0 h.gd (hp.loc i hi).why (by rw[F];exact H)).mono ?_;rintro e w' ⟨rfl,hq⟩;have:=h.sdq i hi _ hq;rw[BK]at this;exact⟨rfl,this⟩
theorem Jm(h:bL oZ w a n vb E)(i:Nat)(hi:i<2)(U:dD (n.x i).nq)(hq:QQ (n.x i))(h1:bn (n.x i) (n.x (1-i)))(O:bn (n.x (1-i)) (n.x i))(I:Bd (n.x i))(hb:rR n 0):
  Calls prog 40 #[(ay (a.C i) 0)] w fun e w'=>∃x,e=.returned x/\∃aC M' pk,(n.x i).kY M' pk/\bL aC w' a (n.bY i M') vb E/\GT aC 229 9 1 w' x pk.length (pk.map fun y=>sV (aK y.1 y.2))/\Kp (Tq (60*(i+1)) 229) oZ aC w w':=by
 obtain⟨l,vc,V⟩:=h.sd i hi;have X:=hb.1 i hi;refine(Jk oZ _ 229 (a.C i) (a.S i) l _ (n.x (1-i)) _ _ _ vc w V (h.cn i hi).1 h.gd (by omega) U hq h1 O I (by omega) (by omega)).mono ?_;rintro e w' ⟨x,rfl,M',bs,aC,l',K,⟨pk,F,rfl⟩,q1,q2,G,H⟩;refine⟨x,rfl,aC,M',pk,F,h.side H i hi (fun x Z=>by rcases zL.1 Z with h|h<;>omega) M' ⟨l',K,q1⟩,?_,H⟩;unfold UZ at G;rw[List.map_map,List.length_map]at G;exact G
end

end
section
section
variable {oZ:Own} {w:World} {a:Ad} {n:Net} {vb:Value} {E:Nat->Nat->aI}
theorem bL.cells(h:bL oZ w a n vb E):w.cell? (aj a.N 0)=some (aS a.xb 2 a.xc)/\w.cell? (aj a.N 1)=some (aS a.eb 2 a.ec)/\w.cell? (aj a.N 2)=some (aS a.gb 2 a.gc)/\w.cell? (aj a.N 4)=some (uZ n.now)/\w.cell? (aj a.N 5)=some (iZ a.aM)/\w.cell? (aj a.N 8)=some vb/\w.cell? (aj a.N 9)=some (aS a.cb 2 a.cc):=
 ⟨by rw[h.net.1.cell];rfl,by rw[h.net.1.cell];rfl,by rw[h.net.1.cell];rfl,by rw[h.net.1.cell];rfl,by rw[h.net.1.cell];rfl,by rw[h.net.1.cell];rfl,by rw[h.net.1.cell];rfl⟩
theorem KI(h:bL oZ w a n vb E)(i:Nat)(hi:i<2):
  Calls prog 30 #[ay a.N 0,iZ i] w fun e w'=>e=.returned (.bool true)/\NH oZ w a vb E (T0 (60*(i+1))) n w':=by
 have F:=au (RL h i hi);obtain⟨c0,_⟩:=h.cells;have c1:=(h.xs i hi).1;clear h
 have H:(i:Int)<2:=by omega
 go_enter func30,ntmps30
 go_wp2_with (go_at_call 57;refine F.out.mono ?_;rintro e w1 ⟨rfl,hq⟩;have G:=au hq;clear hq)
 refine wp_loop_rounds 1 ?_;rw[rounds_succ];go_wp2;go_ret;exact⟨rfl,G.out⟩
theorem RN:DC 46 62 (.agg #[iZ 0,.string ⟨#[]⟩]) 2 24:=⟨by kernel_rfl,by kernel_rfl,fun n=>by simp[Builtin.zeroCells,Value.cells],fun n v F=>by
 simp[Builtin.zeroCells,Value.cells]at F;obtain⟨i,_,rfl⟩:=F
 rcases(show i % 2=0\/i % 2=1 by omega)with h|h<;>rw[h]<;>rfl,by omega⟩
theorem FC:∀(l:List (Nat×Nat×List Fr)),(gI l).length=l.length*2
 |[]=>rfl
 |y::t=>by
  have:=FC t;unfold gI at this ⊢;rw[fA,List.length_append,this];simp;omega
theorem BL:∀(l:List (Nat×Nat×List Fr)) (k:Nat),gI (l.take k)=(gI l).take (k*2)
 |[],k=>by simp[gI]
 |_::_,0=>by simp[gI]
 |y::t,k+1=>by
  have:=BL t k;unfold gI at this ⊢;rw[List.take_succ_cons,fA,fA,this,show(k+1)*2=k*2+2 by omega];rfl
theorem qx:∀(l:List (Nat×Nat×List Fr)) (k:Nat),gI (l.drop k)=(gI l).drop (k*2)
 |[],k=>by simp[gI]
 |_::_,0=>by simp[gI]
 |y::t,k+1=>by
  have:=qx t k;unfold gI at this ⊢;rw[List.drop_succ_cons,fA,this,show(k+1)*2=k*2+2 by omega];rfl
theorem FD(l m:List (Nat×Nat×List Fr)):gI (l++m)=gI l++gI m:=by unfold gI;rw[List.flatMap_append]
theorem FE:∀(l:List (Nat×Nat×List Fr)),∀v∈gI l,v.oneCell'=true
 |[],v,hv=>by cases hv
 |y::t,v,hv=>by
  unfold gI at hv;rw[fA]at hv
  rcases List.mem_append.1 hv with hv|hv
  ·simp[sV]at hv
   rcases hv with rfl|rfl<;>rfl
  ·exact FE t v hv
def retag(oZ:Own)(t u:Nat):Own:=fun b=>if oZ b=t then u else oZ b
theorem GT.retag{oZ:Own}{t u:Nat}{e:TypeId}{k:Nat}{w:World}{v:Value}{n:Nat}{l:aI}(h:GT oZ t e k w v n l):GT (Sd.retag oZ t u) u e k w v n l:=by
 rcases h with h|⟨g,cap,cs,h1,F,G⟩
 ·exact .inl h
 ·exact .inr ⟨g,cap,cs,h1,by unfold Sd.retag;rw[if_pos F],G⟩
theorem Kp.retag{oZ aC:Own}{w w':World}{t u:Nat}(K:Kp [t] oZ aC w w')(F:∀b,b<w.heap.size->oZ b≠t):Kp [] oZ (Sd.retag aC t u) w w':=
 ⟨K.os,K.tape,K.output,K.size,fun b hb _=>K.blk b hb (by simp;exact F b hb),fun b hb=>by unfold Sd.retag;rw[K.ext b hb,if_neg (F b hb)]⟩
theorem VU(h:bL oZ w a n vb E)(k:Nat)(hk:k<n.bP.length)(hl:n.bP.length<=1000000000):
  Calls prog 67 #[ay a.N 0,iZ k] w fun e w'=>e=.returned (.tuple #[])/\∃Fz aC,bL aC w' a {n with bP:=n.bP.eraseIdx k} Fz E/\Kp [200] oZ aC w w':=by
 obtain⟨tb,h5,h2⟩:=qp oZ 300 w.heap.size;obtain⟨_,_,_,_,_,c8,_⟩:=h.cells;have f8:=h.net.1.frozen 8;obtain⟨L,hL⟩:∃L,L=gI n.bP:=⟨_,rfl⟩;have V:=h.bg;have h3:=FC n.bP;have G:=FE n.bP;rw[<-hL]at V h3 G;have h6:=V
 rcases V with⟨_,e2,_⟩|⟨g,cap,cs,rfl,ho,hB,hc1,hc2,hc3,hc4,Fp,hc6⟩
 ·omega
 have F:∀j u,L[j]?=some u->w.cell? (aj g j)=some u:=fun j u H=>by
  have hj:j<L.length:=(fB.1 H).1;rw[hB.cell,<-H,<-Fp,sQ,if_pos (by omega)]
 obtain⟨v1,w1,bD,jQ,I,K1⟩:=bW RN (oZ:=oZ) (g:=tb) (w:=w) (v:=nZ) (n:=0) (l:=[]) (.inl ⟨rfl,rfl,rfl⟩) (aj g 0) k cap (L.take (k*2)) (by rw[mR];omega) (fun v hv=>G v (List.mem_of_mem_take hv)) (fun j u H=>by
  rw[Addr.add_lit,wz];have hj:j<(L.take (k*2)).length:=(fB.1 H).1;rw[mR]at hj;rw[sQ,if_pos (by omega)]at H
  exact F j u H) (by omega)
 rw[wz,List.nil_append]at I
 have h4:oZ g∉[tb]:=by rw[ho];simp;omega
 have h0:=h.kp K1 (by simp;omega);obtain⟨_,_,_,_,_,d8,_⟩:=h0.cells
 obtain⟨A2,hA2,hA3⟩:∃A2:Addr,(if cap=k+1 then some (aj g 0)else some (aj g ((k+1)*2)))=some A2/\(cap≠k+1->A2=(aj g ((k+1)*2))):=by
  by_cases e:cap=k+1
  ·exact⟨aj g 0,if_pos e,fun h=>absurd e h⟩
  ·exact⟨(aj g ((k+1)*2)),if_neg e,fun _=>rfl⟩
 obtain⟨v2,w2,dx,vo,U,K2⟩:=bW RN I A2 (n.bP.length-(k+1)) (cap-(k+1)) (L.drop ((k+1)*2)) (by rw[tT];omega) (fun v hv=>G v (List.mem_of_mem_drop hv)) (fun j u H=>by
  have hj:j<(L.drop ((k+1)*2)).length:=(fB.1 H).1;rw[tT]at hj;rw[hA3 (by omega),Addr.add_lit];rw[List.getElem?_drop]at H
  exact cell_of (F _ u H) (K1.blk g hB.lt h4)) (by omega)
 rw[<-hA2]at vo;have h7:=fC I;obtain⟨a1,c1,rfl⟩:=h7;obtain⟨a2,c2,rfl⟩:=fC U;have K:=K1.trans K2;have K3:=K.retag (u:=204) (fun b hb=>Nat.ne_of_lt (h2 b hb));have X:=h.kp K3 (by simp);have Z:=U.retag (u:=204)
 have O:bL (retag dx tb 204) (w2.setCell (aj a.N 8) (.slice a2 (k+(n.bP.length-(k+1))) c2)) a {n with bP:=n.bP.eraseIdx k} (.slice a2 (k+(n.bP.length-(k+1))) c2) E:=by
  refine X.RJ (n.bP.eraseIdx k) ?_
  have e1:gI (n.bP.eraseIdx k)=L.take (k*2)++L.drop ((k+1)*2):=by
   rw[List.eraseIdx_eq_take_drop_succ,FD,BL,qx,hL]
  have e2:(n.bP.eraseIdx k).length=k+(n.bP.length-(k+1)):=by rw[List.length_eraseIdx,if_pos hk];omega
  rw[e1,e2];exact Z
 have HF:Hid (∃Fz aC,bL aC (w2.setCell (aj a.N 8) (.slice a2 (k+(n.bP.length-(k+1))) c2)) a {n with bP:=n.bP.eraseIdx k} Fz E/\Kp [200] oZ aC w (w2.setCell (aj a.N 8) (.slice a2 (k+(n.bP.length-(k+1))) c2))):=
  ⟨_,_,O,(K3.mono (by simp)).trans (Kp.set _ _ _ _ _ (by rw[X.net.2];simp))⟩
 have f82:=X.net.1.frozen 8;obtain⟨_,_,_,_,_,e8,_⟩:=X.cells;clear hA2 hA3 O X Z K3 K U K2 h0 I K1 F hB hc1 hc4 Fp hc6 h6 G h3 hL h h2 h5;generalize n.bP.length=m at *;generalize n.bP.eraseIdx k=B2 at *
 have h8:(k:Int)<=(cap:Int):=by omega
 have h9:(k:Int)+1<=(m:Int):=by omega
 go_enter func67,ntmps67
 go_wp2_with (first
  |(at_builtin;refine Lib.wpList_append_run _ rfl _ _ _ _ rfl _ _ rfl rfl _ _ (jQ _) ?_;clear jQ;(try have jQ:=vo);(try clear vo))
  |go_in)
 all_goals(go_end0;exact⟨rfl,HF.out⟩)
end

end
section
def TN:List Nat:=List.range' 60 170
theorem iK{x:Nat}:x∈TN↔60<=x/\x<230:=by
 unfold TN;rw[List.mem_range'];constructor
 ·rintro⟨i,hi,rfl⟩;omega
 ·exact fun h=>⟨x-60,by omega,by omega⟩
def nL(oZ:Own)(w:World)(a:Ad)(n:Net)(w':World):Prop:=∃aC vb,bL aC w' a n vb (ends n)/\Kp TN oZ aC w w'
theorem dF(w:World)(q:Nat):aD w (w.drewN q):=⟨rfl,rfl,rfl,nI _,fun _ _=>rfl⟩
structure RdK (o:Ot) (i:bU) (most:Nat):Prop where
 l1:(i.rd most).1.length<=most
 l2:i.read+(i.rd most).1.length<=o.bytes.length
 tx:(o.bytes.drop i.read).take (i.rd most).1.length=(i.rd most).1
 s0:i.state≠0->(i.rd most).1=[]/\(i.rd most).2.state=i.state
 nx:(i.rd most).2.read=i.read+(i.rd most).1.length
 st:(i.rd most).2.state=0\/(i.rd most).2.state=1/\o.fin=true/\(i.rd most).2.read=o.bytes.length
theorem RO{o:Ot}{i:bU}(h:zQ o i)(most:Nat):RdK o i most:=by
 obtain⟨F,_,_,I,U⟩:=WI h most
 have hl:(i.rd most).1.length<=most:=by
  show(i.held.take (min i.ready (max (most:Int) 0).toNat)).length<=most;rw[mR];omega
 have O:i.read+(i.rd most).1.length<=o.bytes.length:=by rw[<-I];exact F.rd
 refine⟨hl,O,U.symm,fun H=>?_,I,?_⟩
 ·rcases h.st with e|⟨e,_,G⟩
  ·exact absurd e H
  ·refine⟨List.length_eq_zero_iff.1 (by omega),?_⟩;show(if i.state=0 then _ else i.state)=i.state;rw[if_neg H]
 ·rcases F.st with e|⟨e,K,G⟩
  ·exact .inl e
  ·exact .inr ⟨e,(F.ended K).1,G⟩
theorem Yd(N xb xc eb ec el Fy e C i k j most:Nat)(hi:i<2)(_hj:j<2)(hk:k<8)(h4:(1:Int)-(i:Int)=(j:Int))(D I:ByteArray)(fin:Bool)(r H st m lb:Nat)(hm:most<=1000000)(w:World)(R wR:World->Prop)(c0:w.cell? (aj N 0)=some (aS xb 2 xc))(c1:w.cell? (aj N 1)=some (aS eb 2 ec))(x1:w.cell? (aj xb i)=some (ay C 0))(e1:w.cell? (aj eb j)=some (aS el 8 Fy))(e2:w.cell? (aj el k)=some (ay e 0))(HC:Calls prog 58 #[ay C 0,iZ k,iZ most] w fun x w1=>x=.returned (.tuple #[.string D,iZ st,iZ 0])/\R w1)(hR:∀w1,R w1->aA w1 e 80 [.string I,.bool fin,.bool false,iZ 0,iZ r,iZ H])(hF:∀w1 q X,R w1->wR ((((w1.drewN q).setCell (aj e 4) (iZ ((r+m:Nat):Int))).setCell (aj e 5) (iZ st)).drewN X))(hD:D.size=m)(hB:I.size=lb)(h2:m<=most)(h3:r+m<=lb)(h5:lb<=2048)(V:I.extract r (r+m)=D)(Jj:H=0\/H=1/\st=1/\D=⟨#[]⟩)(U:st=0\/st=1/\fin=true/\r+m=lb):
  Calls prog 31 #[ay N 0,iZ i,iZ k,iZ most] w fun e w'=>e=.returned (.bool true)/\wR w':=by
 have Cx:=au HC;have HR:=au hR;have Z:=au hF;clear HC hR hF;have O:=au U;clear U;go_enter func31,ntmps31
 go_wp2_with (go_at_call 58;refine Cx.out.mono ?_;rintro ee w1 ⟨rfl,G⟩;have F:=HR.out w1 G)
 have HW:=au G;have f0:=F.cell 0;have f1:=F.cell 1;have f2:=F.cell 2;have f4:=F.cell 4;have f5:=F.cell 5;have z4:=F.frozen 4;have z5:=F.frozen 5;simp only[List.getElem?_cons_zero,List.getElem?_cons_succ]at f0 f1 f2 f4 f5;clear G F
 have g1:¬((most:Int)<(m:Int)):=by omega
 have g2:¬((lb:Int)-(r:Int)<(m:Int)):=by omega
 have g3:(0:Int)<=(r:Int):=by omega
 have g4:(r:Int)<=(r:Int)+(m:Int):=by omega
 have g5:(r:Int)+(m:Int)<=(lb:Int):=by omega
 rcases Jj with rfl|⟨rfl,rfl,rfl⟩
 ·go_quiet (fail)
  rcases O.out with rfl|⟨rfl,rfl,hr⟩
  ·have K:=au (Z.out w1 nq 0 HW.out);go_wp2;go_ret;exact⟨rfl,K.out⟩
  ·subst hr;go_wp2;have K:=au (fun X=>Z.out w1 nq X HW.out)
   go_quiet (fail)
   go_wp2;go_ret;exact⟨rfl,K.out nq⟩
 ·rcases O.out with h0|⟨_,rfl,hr⟩
  ·cases h0
  ·have h0:m=0:=hD.symm;subst h0;subst hr;clear g1 g2 g3 g4 g5
   have g1:¬((most:Int)<0):=by omega
   have g2:¬((r:Int)-(r:Int)<0):=by omega
   have g3:(0:Int)<=(r:Int):=by omega
   have g4:(r:Int)<=(r:Int):=by omega
   have g5:I.extract r r=⟨#[]⟩:=V;have g6:I.size=r:=hB;clear hB hD h3 h2 V
   go_quiet (fail)
   go_wp2;have K:=au (fun X=>Z.out w1 nq X HW.out)
   go_quiet (fail)
   go_wp2;go_ret;exact⟨rfl,K.out nq⟩
section
variable {oZ:Own} {w:World} {a:Ad} {n:Net} {vb:Value} {E:Nat->Nat->aI}
theorem bL.KJ(h:bL oZ w a n vb E)(i k:Nat)(hi:i<2)(F:k<8):w.cell? (aj a.eb i)=some (aS (a.el i) 8 (a.Fy i))/\w.cell? (aj (a.el i) k)=some (ay (a.e i k) 0)/\∀j,w.cell? (aj (a.e i k) j)=(E i k)[j]?:=
 ⟨(h.es i hi).1,(h.el i k hi F).1,fun j=>(h.en i k hi F).1.cell j⟩
theorem VW(h:bL oZ w a n vb (ends n))(hp:eY a.aM n)(i k most:Nat)(hi:i<2)(F:k<8)(hm:most<=1000000):
  Calls prog 31 #[ay a.N 0,iZ i,iZ k,iZ most] w fun e w'=>e=.returned (.bool true)/\nL oZ w a (n.bY i ((n.x i).dA k (((n.x i).inn k).rd most).2)) w':=by
 have K:=RO ((hp.two' i hi).rd k) most;obtain⟨c0,c1,_⟩:=h.cells;obtain⟨e1,O,_⟩:=h.KJ (1-i) k (by omega) F;have H:((n.x (1-i)).out k).bytes.length<=2048:=((hp.bd (1-i) (by omega)).o k).b
 have Z:ends n (1-i) k=Jl ((n.x (1-i)).out k) ((n.x i).inn k):=by unfold ends;rw[show 1-(1-i)=i by omega]
 have Tt:k<(n.x i).ins.length:=by rw[(hp.loc i hi).li];exact F
 refine Yd a.N a.xb a.xc a.eb a.ec (a.el (1-i)) (a.Fy (1-i)) (a.e (1-i) k) (a.C i) i k (1-i) most hi (by omega) F (by omega) ⟨(((n.x i).inn k).rd most).1.toArray⟩ ⟨((n.x (1-i)).out k).bytes.toArray⟩ ((n.x (1-i)).out k).fin ((n.x i).inn k).read ((n.x i).inn k).state (((n.x i).inn k).rd most).2.state (((n.x i).inn k).rd most).1.length ((n.x (1-i)).out k).bytes.length hm w
  (fun w1=>NH oZ w a vb (ends n) (T0 (60*(i+1))) (n.bY i ((n.x i).dA k (((n.x i).inn k).rd most).2)) w1) (nL oZ w a (n.bY i ((n.x i).dA k (((n.x i).inn k).rd most).2))) c0 c1 (h.xs i hi).1 e1 O (VT h hp i k hi F most) ?_ ?_ (iI _).2 (iI _).2 K.l1 K.l2 H ?_ ?_ ?_
 ·rintro w1 ⟨o1,h1,_⟩;have:=(h1.en (1-i) k (by omega) F).1;rw[Z]at this;exact this
 ·rintro w1 q I ⟨o1,h1,h2⟩;have g1:bL o1 (w1.drewN q) a _ vb (ends n):=h1.below ⟨rfl,rfl,rfl,nI _,fun _ _=>rfl⟩;have g2:=(g1.VP (1-i) k (by omega) F 4 (iZ ((((n.x i).inn k).read+(((n.x i).inn k).rd most).1.length:Nat):Int))).VP (1-i) k (by omega) F 5 (iZ ((((n.x i).inn k).rd most).2.state:Int));have g3:=g2.below (dF _ I);have ho:=(h1.en (1-i) k (by omega) F).2;refine⟨o1,vb,g3.Al fun V k' h3 h4=>?_,?_⟩
  ·by_cases e:V=1-i/\k'=k
   ·obtain⟨rfl,rfl⟩:=e;simp only[and_self,if_true];rw[Z];unfold ends;rw[show 1-(1-i)=i by omega,b_,eU _ _ _ _ (by omega),gL,if_pos ⟨rfl,Tt⟩,<-K.nx];rfl
   ·rw[if_neg e,if_neg e];unfold ends
    by_cases O:V=i
    ·subst O;rw[b_,eU _ _ _ _ (by omega)];rfl
    ·have e3:V=1-i:=by omega
     subst e3;rw[show 1-(1-i)=i by omega,b_,eU _ _ _ _ (by omega),gL,if_neg (fun x=>e ⟨rfl,x.1⟩)]
  ·have K2:Kp TN o1 o1 w1 (w1.drewN q):=Kp.below ⟨rfl,rfl,rfl,nI _,fun _ _=>rfl⟩;have hT:210+8*(1-i)+k∈TN:=iK.2 (by omega);exact(h2.mono fun x hx=>iK.2 (by have:=bN.1 hx;omega)).trans (K2.trans ((Kp.set o1 _ _ _ TN (by rw[ho];exact hT)).trans ((Kp.set o1 _ _ _ TN (by rw[ho];exact hT)).trans (Kp.below ⟨rfl,rfl,rfl,nI _,fun _ _=>rfl⟩))))
 ·have t:=K.tx;apply ByteArray.ext;rw[ByteArray.data_extract];apply Array.ext';rw[<-t];simp
 ·by_cases U:((n.x i).inn k).state=0
  ·exact .inl U
  ·obtain⟨X,I⟩:=K.s0 U;have G:=K.st;rw[X,I]at *
   rcases G with G|G
   ·exact absurd G U
   ·exact .inr ⟨G.1,G.1,rfl⟩
 ·rcases K.st with q|⟨X,I,G⟩
  ·exact .inl q
  ·exact .inr ⟨X,I,by rw[<-K.nx];exact G⟩
end

