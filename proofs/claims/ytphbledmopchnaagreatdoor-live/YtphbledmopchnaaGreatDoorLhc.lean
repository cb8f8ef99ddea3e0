import Derived.Test.YtphbledmopchnaaGreatDoorLhb
open List renaming getElem?_eq_getElem->eB,getD_eq_getElem?_getD->eT,mem_filter->lg,mem_append->mE,flatMap_cons->mI,getElem?_eq_some_iff->mK,length_take->mR,mem_append_right->mY,length_map->nA,mem_append_left->nI,mem_map->nP,length_append->nU,getElem_of_mem->og,getElem?_take->qx,any_eq_true->tK,length_drop->tL,mem_flatMap->tO,map_map->xB
open Nat renaming le_refl->j3,le_trans->qy,zero_add->qA,le_max_right->tT,le_max_left->wz
set_option maxHeartbeats 2000000
set_option maxRecDepth 100000
namespace Go.Proofs.YtphbledmopchnaaGreatDoor.Sd
open Go.RowKit Go.Lib Mm Tryz
theorem Ac(oZ:Own)(s:Nat)(C S:Nat)(bw bl bi:Nat)(data:ByteArray)(hd:data.size<=1000000000)(w:World)(q:w.cell? (aB C 0)=some (aI S 0))(B:iE w)(A:oZ 0∉T0 s)(en:Nat)(t:MZ en)(k:av->Prop)(D:∀cp W,data.size<=cp->cp<=9223372036854775807->bJ w W->dV W (some (aB w.heap.size 0)) data.data.toList->Iu W w.heap.size data.size->Calls prog 104 #[aI S 0,dP w.heap.size data.size cp] W fun e w1=>e=.returned (rz en)/\∃M1,k M1/\SS oZ s w S bw bl bi data.size M1 w1):Calls prog 29 #[aI C 0,.string data] w fun e w'=>e=.returned (.tuple #[iZ en,(iZ (-1))])/\∃M1,k M1/\jC s oZ w S bw bl bi M1 w':=by
 obtain⟨cp,W,L,g,h,a,f,i⟩:=um w data hd;have p:C<w.heap.size:=World.block_lt_of_cell? w (aB C 0) (by rw[q]);have z:Hid (Calls prog 56 #[aI C 0,dP w.heap.size data.size cp] W fun e w1=>∃x,e=.returned x/\x=rz en/\∃M1,k M1/\SS oZ s w S bw bl bi data.size M1 w1):=
  MX C S W (cell_of q (a.block _ p)) _ (fun x w1=>x=rz en/\∃M1,k M1/\SS oZ s w S bw bl bi data.size M1 w1) ((D cp W g h a f i).mono fun e w1 E=>⟨_,E.1,rfl,E.2⟩)
 have H:Hid (∀M1 w1,SS oZ s w S bw bl bi data.size M1 w1->Calls prog 42 #[rz en] w1 fun r G=>r=.returned (.tuple #[iZ en,(iZ (-1))])/\SS oZ s w S bw bl bi data.size M1 G):=fun M1 w1 hq=>by refine bN (JN _ t w1 (hq.err B A)) ?_;rintro G hb;exact⟨rfl,hq.below hb⟩
 clear q B A a f i D;generalize data.size=n at *
 go_enter func29,ntmps29;go_wp2_with (go_at_call 56;refine z.out.mono ?_;rintro e w1 ⟨x,rfl,rfl,M1,d,hq⟩;have l:=aG d;have c:=aG hq;clear d hq);clear z;go_loopw [16] (fun b wr=>∃j:Nat,j<=n/\b=(iZ j)/\Hid (SS oZ s w S bw bl bi n M1 wr)) (fun b _=>n-(RowKit.intOf b).toNat);case atStart=>exact⟨0,Nat.zero_le _,rfl,c⟩
 case round=>
  obtain⟨j,Q,rfl,m⟩:=hrel;clear c;by_cases u:j<n
  ·have F:(j:Int)<(n:Int):=aj;obtain⟨⟨v,M⟩,N⟩:(∃v,wr.cell? (aB w.heap.size j)=some v)/\wr.frozen? (aB w.heap.size j)=false:=by
    obtain⟨o,l1,R,h1,O,K,P⟩:=m.out;exact K.cell j u
   have I:=aG (m.out.set j (.int .u8 33));go_wp2;go_roundw;case rel=>exact⟨j+1,aj,aP,I⟩
   case measure=>simp[RowKit.intOf];omega
  ·obtain rfl:j=n:=aj;have J:=aG (H.out M1 wr m.out);go_wp2_with (go_at_call 42;refine bN J.out ?_;rintro T y);refine bodyPost_ret (v:=.tuple #[iZ en,(iZ (-1))]) (by simp[results,results29,go_sem]) rfl ?_;exact⟨rfl,M1,l.out,y.q⟩
theorem M6(oZ:Own)(s:Nat)(C S:Nat)(l:bO)(M:av)(bw bl bi:Nat)(vc:Value)(n:Nat)(fs:List Fr)(data:ByteArray)(hd:data.size<=1000000000)(w:World)(h:fP oZ s w S l M bw bl bi vc)(B:w.cell? (aB C 0)=some (aI S 0))(A:iE w)(v:oZ 0=0)(D:Gd oZ w)(hb:Bd M)(F:M.mJ=0)(E:n<=dK)(z:oV true n fs data.data.toList)(m:fs.map norm=fs)(k:fs.length<=1000000)(y:∀f j,j<fs.length->mW {M with aM:=M.aM.add 8 n n,aT:=M.aT||eO fs} (fs.take j) f->FrC f (fs.getD j iM)/\Bd f/\f.next<=dK):Calls prog 29 #[aI C 0,.string data] w fun e w'=>e=.returned (.tuple #[iZ 0,(iZ (-1))])/\∃M1,M.jc n fs M1 0/\jC s oZ w S bw bl bi M1 w':=by have hs:=h.s0;have b:(0:Nat)∉T0 s:=fun e=>bV (fG.1 e);have a:data.data.toList.length=data.size:=aP;refine Ac oZ s C S bw bl bi data hd w B A (by rw[v];exact b) 0 (.inl rfl) (fun M1=>M.jc n fs M1 0) ?_;intro cp W h1 x c i p;obtain⟨o,l1,J,t,r,g,u⟩:=M5 h c p;have d:Gd oZ W:=D.kp (Kp.below (T:=[]) c) aP;have:=MV o s S l1 M bw bl bi J n fs w.heap.size 0 cp data.data.toList W t hb F E z m k i (by rw[a];exact hd) (by rw[a];exact h1) x g.lt d.tab d.sz y;rw[a]at this;refine bN this ?_;rintro w1 ⟨M1,I,G,l2,K,H,q⟩;exact⟨rfl,M1,I,G,l2,K,H,by rw[q.ext _ g.lt,r],g.of_heap (q.cZ _ g.lt (by rw[r];exact b)),u.trans q⟩
theorem C8(oZ:Own)(s:Nat)(C S:Nat)(l:bO)(M:av)(bw bl bi:Nat)(vc:Value)(data:ByteArray)(hd:data.size<=1000000000)(w:World)(h:fP oZ s w S l M bw bl bi vc)(v:w.cell? (aB C 0)=some (aI S 0))(u:iE w)(q:oZ 0=0)(x:Gd oZ w)(y:M.mJ=0)(t:oV false 0 [] data.data.toList):Calls prog 29 #[aI C 0,.string data] w fun e w'=>e=.returned (.tuple #[iZ 7,(iZ (-1))])/\jC s oZ w S bw bl bi M w':=by
 have hs:=h.s0;have d:(0:Nat)∉T0 s:=fun e=>bV (fG.1 e);have a:data.data.toList.length=data.size:=aP;refine(Ac oZ s C S bw bl bi data hd w v u (by rw[q];exact d) 7 (.inr (.inr (.inr rfl))) (fun M1=>M1=M) ?_).mono ?_;·intro cp W h1 r b g i;have j:=M5 h b i;obtain⟨o,l1,z,k,n,m,p⟩:=j;have c:Gd oZ W:=x.kp (Kp.below (T:=[]) b) aP;have:=CX S w.heap.size 0 cp data.data.toList W (k.open y) t g (by rw[a];exact hd) (by rw[a];exact h1) r m.lt c.tab c.sz;rw[a]at this;refine bN this ?_;rintro w1 f;exact⟨rfl,M,rfl,SS.below ⟨o,l1,z,k,n,m,p⟩ f⟩
 ·rintro e w' ⟨rfl,M1,rfl,hq⟩;exact⟨rfl,hq⟩
section
theorem Bh(c:Int)(m:Nat)(i: -9223372036854775808<=c)(d:c<=9223372036854775807)(f:0<m)(g:m<=9000000000)(w:World):Calls prog 32 #[iZ c,iZ m] w fun e w'=>e=.returned (iZ (dL c m:Nat))/\w'=w:=by
 have hl:=aG (fC c m f);by_cases h:c<0;·have b:=aG (Fa c m h);go_enter func32,ntmps32;go_wp2;go_ret;exact⟨kK b.out,rfl⟩
 ·have b:=aG (Fb c m aj);go_enter func32,ntmps32;go_wp2;go_ret;exact⟨kK b.out,rfl⟩
theorem Fy(n:Net)(i:Nat):n.dY i (n.x i)=n:=by
 unfold Net.dY;have:(fun j=>if j=i then n.x i else n.x j)=n.x:=funext fun j=>by split<;>simp_all
 rw[this]
def qo(n:Net)(B:Nat):Prop:=(∀i,i<2->(n.x i).next+24*(B+1)<dK/\(n.x i).bE+B<9223372036854775808)/\n.now+B<9223372036854775808
def SY(oZ:Own)(w:World)(a:Ad)(vb:Value)(E:Nat->Nat->bO)(T:List Nat)(n:Net)(w':World):Prop:=∃aY,fu aY w' a n vb E/\Kp T oZ aY w w'
section
variable {oZ:Own} {w:World} {a:Ad} {n:Net} {vb:Value} {E:Nat->Nat->bO}
theorem fu.sdq(h:fu oZ w a n vb E)(i:Nat)(hi:i<2)(M:av){w':World}(hq:jC (60*(i+1)) oZ w (a.S i) (a.bw i) (a.bl i) (a.bi i) M w'):SY oZ w a vb E (T0 (60*(i+1))) (n.dY i M) w':=by obtain⟨o,l,v,h1,b⟩:=hq;exact⟨o,h.side b i hi (fun x c=>bV (fG.1 c)) M ⟨l,v,h1⟩,b⟩
theorem fu.no0(h:fu oZ w a n vb E)(i:Nat):oZ 0∉T0 (60*(i+1)):=by rw[h.o0];exact fun e=>bV (fG.1 e)
theorem Zi(h:fu oZ w a n vb E)(i:Nat)(hi:i<2)(ht:(n.x i).bE+1<18446744073709551616):Calls prog 38 #[(aI (a.C i) 0)] w fun e w'=>e=.returned (.tuple #[])/\SY oZ w a vb E (T0 (60*(i+1))) (n.dY i (n.x i).iD) w':=by obtain⟨l,vc,c⟩:=h.sd i hi;exact Y5 (a.C i) (a.S i) w (h.cn i hi).1 _ ((Yp oZ _ (a.S i) l _ _ _ _ vc w c ht).mono fun e w' b=>⟨b.1,h.sdq i hi _ b.2⟩)
theorem Wj(h:fu oZ w a n vb E)(i:Nat)(hi:i<2):Calls prog 57 #[(aI (a.C i) 0)] w fun e w'=>e=.returned nZ/\SY oZ w a vb E (T0 (60*(i+1))) n w':=by obtain⟨l,vc,c⟩:=h.sd i hi;refine G5 (a.C i) (a.S i) w (h.cn i hi).1 _ ((GZ oZ _ (a.S i) l _ _ _ _ vc w c).mono fun e w' b=>⟨b.1,?_⟩);have:=h.sdq i hi _ b.2;rwa[Fy]at this
theorem RQ(h:fu oZ w a n vb E)(hp:fH a.bG n)(i k:Nat)(hi:i<2)(d:k<8):Calls prog 35 #[(aI (a.C i) 0),iZ k] w fun e w'=>e=.returned (iZ (((n.x i).out k).finish.2:Int))/\SY oZ w a vb E (T0 (60*(i+1))) (n.dY i ((n.x i).dD k ((n.x i).out k).finish.1)) w':=by obtain⟨l,vc,c⟩:=h.sd i hi;exact(Rw oZ _ (a.C i) (a.S i) l _ _ _ _ vc k d w c (h.cn i hi).1 (hp.loc i hi).mJ h.er (h.no0 i)).mono fun e w' b=>⟨b.1,h.sdq i hi _ b.2⟩
theorem Zj(h:fu oZ w a n vb E)(hp:fH a.bG n)(i k:Nat)(hi:i<2)(d:k<8)(data:ByteArray)(hd:data.size<=1000000000):Calls prog 34 #[(aI (a.C i) 0),iZ k,.string data] w fun e w'=>e=.returned (iZ ((((n.x i).out k).send data.data.toList).2:Int))/\SY oZ w a vb E (T0 (60*(i+1))) (n.dY i ((n.x i).dD k (((n.x i).out k).send data.data.toList).1)) w':=by obtain⟨l,vc,c⟩:=h.sd i hi;exact(Y9 oZ _ (a.C i) (a.S i) l _ _ _ _ vc k d data hd w c (h.cn i hi).1 (hp.loc i hi).mJ ((hp.bd i hi).o k).b h.er (h.no0 i)).mono fun e w' b=>⟨b.1,h.sdq i hi _ b.2⟩
theorem Zk(h:fu oZ w a n vb E)(hp:fH a.bG n)(i k:Nat)(hi:i<2)(d:k<8)(bf:Int):Calls prog 58 #[(aI (a.C i) 0),iZ k,iZ bf] w fun e w'=>e=.returned (.tuple #[sV (((n.x i).bF k).rd bf).1,(iZ ((((n.x i).bF k).rd bf).2.state:Int)),iZ 0])/\SY oZ w a vb E (T0 (60*(i+1))) (n.dY i ((n.x i).eG k (((n.x i).bF k).rd bf).2)) w':=by obtain⟨l,vc,c⟩:=h.sd i hi;exact(Za oZ _ (a.C i) (a.S i) l _ _ _ _ vc k d bf w c (h.cn i hi).1 (hp.loc i hi).mJ ((hp.bd i hi).i k)).mono fun e w' b=>⟨b.1,h.sdq i hi _ b.2⟩
theorem jU(l:List UInt8):(⟨l.toArray⟩:ByteArray).data.toList=l/\(⟨l.toArray⟩:ByteArray).size=l.length:=⟨aP,by simp[ByteArray.size]⟩
theorem OP(h:fu oZ w a n vb E)(hp:fH a.bG n)(hb:qo n 0)(i:Nat)(hi:i<2)(y:Nat×List Fr)(b:Hw a.bG (n.x (1-i)) (n.x i) y)(c:a.bG<=400):Calls prog 29 #[(aI (a.C i) 0),sV (bT y.1 y.2)] w fun e w'=>e=.returned (.tuple #[iZ 0,(iZ (-1))])/\∃M1,(n.x i).jc y.1 y.2 M1 0/\SY oZ w a vb E (T0 (60*(i+1))) (n.dY i M1) w':=by
 obtain⟨l,vc,g⟩:=h.sd i hi;have j:=(hb.1 i hi).1;have k:=(hb.1 (1-i) aj).1;have m:=b.lt;have gQ:=b.sz;obtain⟨d,f⟩:=jU (bT y.1 y.2);refine(M6 oZ _ (a.C i) (a.S i) l _ _ _ _ vc y.1 y.2 ⟨(bT y.1 y.2).toArray⟩ (by rw[f];omega) w g (h.cn i hi).1 h.er h.o0 h.gd (hp.bd i hi) (hp.loc i hi).mJ aj (by rw[d];exact b.dec) b.nm (bV b.ln)
  (qeq (hp.loc i hi) (hp.loc (1-i) aj) (hp.two i hi) (hp.jT i hi) (hp.bd i hi) (hp.bd (1-i) aj) b aj aj c)).mono ?_
 rintro e w' ⟨rfl,M1,r,hq⟩;exact⟨rfl,M1,r,h.sdq i hi _ hq⟩
theorem J7(h:fu oZ w a n vb E)(hp:fH a.bG n)(i:Nat)(hi:i<2)(l:List UInt8)(hl:l.length<=1000000)(d:oV false 0 [] l):Calls prog 29 #[(aI (a.C i) 0),sV l] w fun e w'=>e=.returned (.tuple #[iZ 7,(iZ (-1))])/\SY oZ w a vb E (T0 (60*(i+1))) n w':=by obtain⟨sl,vc,f⟩:=h.sd i hi;obtain⟨b,c⟩:=jU l;refine bN (C8 oZ _ (a.C i) (a.S i) sl _ _ _ _ vc ⟨l.toArray⟩ (by rw[c];omega) w f (h.cn i hi).1 h.er h.o0 h.gd (hp.loc i hi).mJ (by rw[b];exact d)) ?_;rintro w' hq;have:=h.sdq i hi _ hq;rw[Fy]at this;exact⟨rfl,this⟩
theorem Nq(h:fu oZ w a n vb E)(hp:fH a.bG n)(hb:qo n 0)(i:Nat)(hi:i<2):Calls prog 40 #[(aI (a.C i) 0)] w fun e w'=>∃x,e=.returned x/\∃aY M' pk,(n.x i).jS M' pk/\fu aY w' a (n.dY i M') vb E/\GT aY 229 9 1 w' x pk.length (pk.map fun y=>sV (bT y.1 y.2))/\Kp (Tq (60*(i+1)) 229) oZ aY w w':=by obtain⟨l,vc,f⟩:=h.sd i hi;have g:=hb.1 i hi;refine(Np oZ _ 229 (a.C i) (a.S i) l _ (n.x (1-i)) _ _ _ vc w f (h.cn i hi).1 h.gd aj (hp.loc i hi) (hp.two i hi) (hp.jT i hi) (hp.bd i hi) aj aj).mono ?_;rintro e w' ⟨x,rfl,M',bs,aY,l',k,⟨pk,b,rfl⟩,m,o,c,d⟩;refine⟨x,rfl,aY,M',pk,b,h.side d i hi (fun x j=>by rcases Dp.1 j with h|h<;>omega) M' ⟨l',k,m⟩,?_,d⟩;unfold pkB at c;rw[xB,nA]at c;exact c
end

end
section
section
variable {oZ:Own} {w:World} {a:Ad} {n:Net} {vb:Value} {E:Nat->Nat->bO}
theorem fu.cells(h:fu oZ w a n vb E):w.cell? (aB a.N 0)=some (dP a.xb 2 a.xc)/\w.cell? (aB a.N 1)=some (dP a.eb 2 a.ec)/\w.cell? (aB a.N 2)=some (dP a.gb 2 a.gc)/\w.cell? (aB a.N 4)=some (uZ n.now)/\w.cell? (aB a.N 5)=some (iZ a.bG)/\w.cell? (aB a.N 8)=some vb/\w.cell? (aB a.N 9)=some (dP a.cb 2 a.cc):=
 ⟨by rw[h.oP.1.cell];rfl,by rw[h.oP.1.cell];rfl,by rw[h.oP.1.cell];rfl,by rw[h.oP.1.cell];rfl,by rw[h.oP.1.cell];rfl,by rw[h.oP.1.cell];rfl,by rw[h.oP.1.cell];rfl⟩
theorem OQ(h:fu oZ w a n vb E)(i:Nat)(hi:i<2):Calls prog 30 #[aI a.N 0,iZ i] w fun e w'=>e=.returned (.bool true)/\SY oZ w a vb E (T0 (60*(i+1))) n w':=by have b:=aG (Wj h i hi);obtain⟨c0,_⟩:=h.cells;have c1:=(h.xs i hi).1;clear h;have d:(i:Int)<2:=aj;go_enter func30,ntmps30;go_wp2_with (go_at_call 57;refine bN b.out ?_;rintro w1 hq;have c:=aG hq;clear hq);refine wp_loop_rounds 1 ?_;rw[rounds_succ];go_wp2;go_ret;exact⟨rfl,c.out⟩
theorem Wl:I9 46 62 (.agg #[iZ 0,.string ⟨#[]⟩]) 2 24:=⟨bH,bH,fun n=>by simp[Builtin.zeroCells,Value.cells],fun n v b=>by simp[Builtin.zeroCells,Value.cells]at b;obtain⟨i,_,rfl⟩:=b;rcases(show i % 2=0\/i % 2=1 by omega)with h|h<;>rw[h]<;>rfl,aj⟩
theorem J8:∀(l:List (Nat×Nat×List Fr)),(jy l).length=l.length*2
 |[]=>rfl
 |y::t=>by have:=J8 t;unfold jy at this ⊢;rw[mI,nU,this];simp;omega
theorem Fz:∀(l:List (Nat×Nat×List Fr)) (k:Nat),jy (l.take k)=(jy l).take (k*2)
 |[],k=>by simp[jy]
 |_::_,0=>by simp[jy]
 |y::t,k+1=>by have:=Fz t k;unfold jy at this ⊢;rw[List.take_succ_cons,mI,mI,this,show(k+1)*2=k*2+2 by omega];rfl
theorem uV:∀(l:List (Nat×Nat×List Fr)) (k:Nat),jy (l.drop k)=(jy l).drop (k*2)
 |[],k=>by simp[jy]
 |_::_,0=>by simp[jy]
 |y::t,k+1=>by have:=uV t k;unfold jy at this ⊢;rw[List.drop_succ_cons,mI,this,show(k+1)*2=k*2+2 by omega];rfl
theorem J9(l m:List (Nat×Nat×List Fr)):jy (l++m)=jy l++jy m:=by unfold jy;rw[List.flatMap_append]
theorem J_:∀(l:List (Nat×Nat×List Fr)),∀v∈jy l,v.oneCell'=true
 |[],v,hv=>by cases hv
 |y::t,v,hv=>by
  unfold jy at hv;rw[mI]at hv;rcases mE.1 hv with hv|hv;·simp[sV]at hv;rcases hv with rfl|rfl<;>rfl
  ·exact J_ t v hv
def yx(oZ:Own)(t u:Nat):Own:=fun b=>if oZ b=t then u else oZ b
theorem GT.yx{oZ:Own}{t u:Nat}{e:TypeId}{k:Nat}{w:World}{v:Value}{n:Nat}{l:bO}(h:GT oZ t e k w v n l):GT (Sd.yx oZ t u) u e k w v n l:=by
 rcases h with h|⟨g,cap,cs,h1,b,c⟩;·exact .inl h
 ·exact .inr ⟨g,cap,cs,h1,by unfold Sd.yx;rw[bK b],c⟩
theorem Kp.yx{oZ aY:Own}{w w':World}{t u:Nat}(K:Kp [t] oZ aY w w')(c:∀b,b<w.heap.size->oZ b≠t):Kp [] oZ (Sd.yx aY t u) w w':=
 ⟨K.os,K.tape,K.output,K.size,fun b hb _=>K.cZ b hb (by simp;exact c b hb),fun b hb=>by unfold Sd.yx;rw[K.ext b hb,aU (c b hb)]⟩
theorem Zl(h:fu oZ w a n vb E)(k:Nat)(U:k<n.dN.length)(hl:n.dN.length<=1000000000):Calls prog 67 #[aI a.N 0,iZ k] w fun e w'=>e=.returned (.tuple #[])/\∃C aY,fu aY w' a {n with dN:=n.dN.eraseIdx k} C E/\Kp [200] oZ aY w w':=by
 obtain⟨tb,H,x⟩:=uT oZ 300 w.heap.size;obtain⟨_,_,_,_,_,c8,_⟩:=h.cells;have f8:=h.oP.1.frozen 8;obtain⟨L,F⟩:=bZ (jy n.dN);have r:=h.bg;have y:=J8 n.dN;have d:=J_ n.dN;rw[<-F]at r y d;have M:=r;rcases r with⟨_,R,_⟩|⟨g,cap,cs,rfl,ho,hB,hc1,hc2,hc3,hc4,JY,hc6⟩;·omega
 have c:∀j u,L[j]?=some u->w.cell? (aB g j)=some u:=fun j u i=>by have B:j<L.length:=(mK.1 i).1;rw[hB.cell,<-i,<-JY,qx,bK aj]
 obtain⟨v1,w1,eZ,J,o,z⟩:=gq Wl (oZ:=oZ) (g:=tb) (w:=w) (v:=nZ) (n:=0) (l:=[]) (.inl ⟨rfl,rfl,rfl⟩) (aB g 0) k cap (L.take (k*2)) (by rw[mR];omega) (fun v I=>d v (List.mem_of_mem_take I)) (fun j u i=>by rw[Addr.add_lit,qA];have B:j<(L.take (k*2)).length:=(mK.1 i).1;rw[mR]at B;rw[qx,bK aj]at i;exact c j u i) aj;rw[qA,List.nil_append]at o;have G:oZ g∉[tb]:=by rw[ho];simp;omega
 have t:=h.kp z (by simp;omega);obtain⟨_,_,_,_,_,Z,_⟩:=t.cells;obtain⟨A2,hA2,hA3⟩:∃A2:Addr,(if cap=k+1 then some (aB g 0)else some (aB g ((k+1)*2)))=some A2/\(cap≠k+1->A2=(aB g ((k+1)*2))):=by
  by_cases e:cap=k+1;·exact⟨aB g 0,bK e,fun h=>absurd e h⟩
  ·exact⟨(aB g ((k+1)*2)),aU e,fun _=>rfl⟩
 obtain⟨v2,O,gu,P,q,Q⟩:=gq Wl o A2 (n.dN.length-(k+1)) (cap-(k+1)) (L.drop ((k+1)*2)) (by rw[tL];omega) (fun v I=>d v (List.mem_of_mem_drop I)) (fun j u i=>by have B:j<(L.drop ((k+1)*2)).length:=(mK.1 i).1;rw[tL]at B;rw[hA3 aj,Addr.add_lit];rw[List.getElem?_drop]at i;exact cell_of (c _ u i) (z.cZ g hB.lt G)) aj;rw[<-hA2]at P;have N:=jk o;obtain⟨Y,c1,rfl⟩:=N;obtain⟨A,c2,rfl⟩:=jk q;have K:=z.trans Q;have D:=K.yx (u:=204) (fun b hb=>Nat.ne_of_lt (x b hb));have f:=h.kp D aP;have s:=q.yx (u:=204);have p:fu (yx gu tb 204) (O.setCell (aB a.N 8) (.slice A (k+(n.dN.length-(k+1))) c2)) a {n with dN:=n.dN.eraseIdx k} (.slice A (k+(n.dN.length-(k+1))) c2) E:=by
  refine f.Wi (n.dN.eraseIdx k) ?_;have T:jy (n.dN.eraseIdx k)=L.take (k*2)++L.drop ((k+1)*2):=by rw[List.eraseIdx_eq_take_drop_succ,J9,Fz,uV,F]
  have R:(n.dN.eraseIdx k).length=k+(n.dN.length-(k+1)):=by rw[List.length_eraseIdx,bK U];omega
  rw[T,R];exact s
 have S:Hid (∃C aY,fu aY (O.setCell (aB a.N 8) (.slice A (k+(n.dN.length-(k+1))) c2)) a {n with dN:=n.dN.eraseIdx k} C E/\Kp [200] oZ aY w (O.setCell (aB a.N 8) (.slice A (k+(n.dN.length-(k+1))) c2))):=
  ⟨_,_,p,(D.mono aP).trans (Kp.set _ _ _ _ _ (by rw[f.oP.2];simp))⟩
 have f82:=f.oP.1.frozen 8;obtain⟨_,_,_,_,_,e8,_⟩:=f.cells;clear hA2 hA3 p f s D K q Q t o z c hB hc1 hc4 JY hc6 M d y F h x H;generalize n.dN.length=m at *
 generalize n.dN.eraseIdx k=X at *
 have V:(k:Int)<=(cap:Int):=aj;have W:(k:Int)+1<=(m:Int):=aj;go_enter func67,ntmps67;go_wp2_with (first|(at_builtin;refine Lib.wpList_append_run _ rfl _ _ _ _ rfl _ _ rfl rfl _ _ (J _) ?_;clear J;(try have J:=P);(try clear P))|go_in);all_goals(go_end0;exact⟨rfl,S.out⟩)
end

end
section
def TN:List Nat:=List.range' 60 170
theorem lC{x:Nat}:x∈TN↔60<=x/\x<230:=by
 unfold TN;rw[List.mem_range'];constructor;·rintro⟨i,hi,rfl⟩;omega
 ·exact fun h=>⟨x-60,aj,aj⟩
def nR(oZ:Own)(w:World)(a:Ad)(n:Net)(w':World):Prop:=∃aY vb,fu aY w' a n vb (ends n)/\Kp TN oZ aY w w'
theorem f_(w:World)(q:Nat):bJ w (w.drewN q):=⟨rfl,rfl,rfl,j3 _,fun _ _=>rfl⟩
structure RdK (o:Ot) (i:eH) (bf:Nat):Prop where
 l1:(i.rd bf).1.length<=bf
 l2:i.aR+(i.rd bf).1.length<=o.ay.length
 tx:(o.ay.drop i.aR).take (i.rd bf).1.length=(i.rd bf).1
 s0:i.state≠0->(i.rd bf).1=[]/\(i.rd bf).2.state=i.state
 nx:(i.rd bf).2.aR=i.aR+(i.rd bf).1.length
 st:(i.rd bf).2.state=0\/(i.rd bf).2.state=1/\o.bn=true/\(i.rd bf).2.aR=o.ay.length
theorem Wm{o:Ot}{i:eH}(h:AX o i)(bf:Nat):RdK o i bf:=by
 obtain⟨b,_,_,f,k⟩:=Z5 h bf;have hl:(i.rd bf).1.length<=bf:=by show(i.bU.take (min i.ready (max (bf:Int) 0).toNat)).length<=bf;rw[mR];omega
 have j:i.aR+(i.rd bf).1.length<=o.ay.length:=by rw[<-f];exact b.rd
 refine⟨hl,j,k.symm,fun d=>?_,f,?_⟩
 ·rcases h.st with e|⟨e,_,c⟩;·exact absurd e d
  ·refine⟨List.length_eq_zero_iff.1 aj,?_⟩;show(if i.state=0 then _ else i.state)=i.state;rw[aU d]
 ·rcases b.st with e|⟨e,g,c⟩;·exact .inl e
  ·exact .inr ⟨e,(b.bM g).1,c⟩
theorem qcd(N xb xc eb ec el Iw e C i k j bf:Nat)(hi:i<2)(_hj:j<2)(W:k<8)(P:(1:Int)-(i:Int)=(j:Int))(D d:ByteArray)(bn:Bool)(r Kc st m lb:Nat)(X:bf<=1000000)(w:World)(R A:World->Prop)(c0:w.cell? (aB N 0)=some (dP xb 2 xc))(c1:w.cell? (aB N 1)=some (dP eb 2 ec))(Y:w.cell? (aB xb i)=some (aI C 0))(S:w.cell? (aB eb j)=some (dP el 8 Iw))(T:w.cell? (aB el k)=some (aI e 0))(z:Calls prog 58 #[aI C 0,iZ k,iZ bf] w fun x w1=>x=.returned (.tuple #[.string D,iZ st,iZ 0])/\R w1)(K:∀w1,R w1->aS w1 e 80 [.string d,.bool bn,.bool false,iZ 0,iZ r,iZ Kc])(hF:∀w1 q o,R w1->A ((((w1.drewN q).setCell (aB e 4) (iZ ((r+m:Nat):Int))).setCell (aB e 5) (iZ st)).drewN o))(J:D.size=m)(hB:d.size=lb)(u:m<=bf)(y:r+m<=lb)(Q:lb<=2048)(l:d.extract r (r+m)=D)(M:Kc=0\/Kc=1/\st=1/\D=⟨#[]⟩)(h:st=0\/st=1/\bn=true/\r+m=lb):Calls prog 31 #[aI N 0,iZ i,iZ k,iZ bf] w fun e w'=>e=.returned (.bool true)/\A w':=by
 have O:=aG z;have L:=aG K;have p:=aG hF;clear z K hF;have g:=aG h;clear h;go_enter func31,ntmps31;go_wp2_with (go_at_call 58;refine O.out.mono ?_;rintro U w1 ⟨rfl,c⟩;have b:=L.out w1 c);have s:=aG c;have f0:=b.cell 0;have f1:=b.cell 1;have f2:=b.cell 2;have f4:=b.cell 4;have f5:=b.cell 5;have Z:=b.frozen 4;have z5:=b.frozen 5;simp only[List.getElem?_cons_zero,List.getElem?_cons_succ]at f0 f1 f2 f4 f5;clear c b;have B:¬((bf:Int)<(m:Int)):=aj;have F:¬((lb:Int)-(r:Int)<(m:Int)):=aj;have G:(0:Int)<=(r:Int):=aj;have H:(r:Int)<=(r:Int)+(m:Int):=aj;have I:(r:Int)+(m:Int)<=(lb:Int):=aj;rcases M with rfl|⟨rfl,rfl,rfl⟩
 ·go_quiet (fail);rcases g.out with rfl|⟨rfl,rfl,v⟩;·have f:=aG (p.out w1 nq 0 s.out);go_wp2;go_ret;exact⟨rfl,f.out⟩
  ·subst v;go_wp2;have f:=aG (fun o=>p.out w1 nq o s.out);go_quiet (fail);go_wp2;go_ret;exact⟨rfl,f.out nq⟩
 ·rcases g.out with t|⟨_,rfl,v⟩;·cases t
  ·have t:m=0:=J.symm;subst t;subst v;clear B F G H I;have B:¬((bf:Int)<0):=aj;have F:¬((r:Int)-(r:Int)<0):=aj;have G:(0:Int)<=(r:Int):=aj;have H:(r:Int)<=(r:Int):=aj;have I:d.extract r r=⟨#[]⟩:=l;have V:d.size=r:=hB;clear hB J y u l;go_quiet (fail);go_wp2;have f:=aG (fun o=>p.out w1 nq o s.out);go_quiet (fail);go_wp2;go_ret;exact⟨rfl,f.out nq⟩
section
variable {oZ:Own} {w:World} {a:Ad} {n:Net} {vb:Value} {E:Nat->Nat->bO}
theorem fu.Ke(h:fu oZ w a n vb E)(i k:Nat)(hi:i<2)(b:k<8):w.cell? (aB a.eb i)=some (dP (a.el i) 8 (a.Iw i))/\w.cell? (aB (a.el i) k)=some (aI (a.e i k) 0)/\∀j,w.cell? (aB (a.e i k) j)=(E i k)[j]?:=
 ⟨(h.es i hi).1,(h.el i k hi b).1,fun j=>(h.en i k hi b).1.cell j⟩
theorem OU(h:fu oZ w a n vb (ends n))(hp:fH a.bG n)(i k bf:Nat)(hi:i<2)(b:k<8)(G:bf<=1000000):Calls prog 31 #[aI a.N 0,iZ i,iZ k,iZ bf] w fun e w'=>e=.returned (.bool true)/\nR oZ w a (n.dY i ((n.x i).eG k (((n.x i).bF k).rd bf).2)) w':=by
 have K:=Wm ((hp.jT i hi).rd k) bf;obtain⟨c0,c1,_⟩:=h.cells;obtain⟨v,g,_⟩:=h.Ke (1-i) k aj b;have d:((n.x (1-i)).out k).ay.length<=2048:=((hp.bd (1-i) aj).o k).b;have o:ends n (1-i) k=J6 ((n.x (1-i)).out k) ((n.x i).bF k):=by unfold ends;rw[show 1-(1-i)=i by omega]
 have u:k<(n.x i).ins.length:=by rw[(hp.loc i hi).li];exact b
 refine qcd a.N a.xb a.xc a.eb a.ec (a.el (1-i)) (a.Iw (1-i)) (a.e (1-i) k) (a.C i) i k (1-i) bf hi aj b aj ⟨(((n.x i).bF k).rd bf).1.toArray⟩ ⟨((n.x (1-i)).out k).ay.toArray⟩ ((n.x (1-i)).out k).bn ((n.x i).bF k).aR ((n.x i).bF k).state (((n.x i).bF k).rd bf).2.state (((n.x i).bF k).rd bf).1.length ((n.x (1-i)).out k).ay.length G w
  (fun w1=>SY oZ w a vb (ends n) (T0 (60*(i+1))) (n.dY i ((n.x i).eG k (((n.x i).bF k).rd bf).2)) w1) (nR oZ w a (n.dY i ((n.x i).eG k (((n.x i).bF k).rd bf).2))) c0 c1 (h.xs i hi).1 v g (Zk h hp i k hi b bf) ?_ ?_ (jU _).2 (jU _).2 K.l1 K.l2 d ?_ ?_ ?_
 ·rintro w1 ⟨o1,h1,_⟩;have:=(h1.en (1-i) k aj b).1;rw[o]at this;exact this
 ·rintro w1 q f ⟨o1,h1,C⟩;have z:fu o1 (w1.drewN q) a _ vb (ends n):=h1.below ⟨rfl,rfl,rfl,j3 _,fun _ _=>rfl⟩;have A:=(z.Zh (1-i) k aj b 4 (iZ ((((n.x i).bF k).aR+(((n.x i).bF k).rd bf).1.length:Nat):Int))).Zh (1-i) k aj b 5 (iZ ((((n.x i).bF k).rd bf).2.state:Int));have B:=A.below (f_ _ f);have r:=(h1.en (1-i) k aj b).2;refine⟨o1,vb,B.H_ fun l k' D F=>?_,?_⟩
  ·by_cases e:l=1-i/\k'=k;·obtain⟨rfl,rfl⟩:=e;simp only[and_self,if_true];rw[o];unfold ends;rw[show 1-(1-i)=i by omega,dA,dX _ _ _ _ aj,dQ,bK ⟨rfl,u⟩,<-K.nx];rfl
   ·rw[aU e,aU e];unfold ends;by_cases g:l=i;·subst g;rw[dA,dX _ _ _ _ aj];rfl
    ·have y:l=1-i:=aj;subst y;rw[show 1-(1-i)=i by omega,dA,dX _ _ _ _ aj,dQ,aU (fun x=>e ⟨rfl,x.1⟩)]
  ·have s:Kp TN o1 o1 w1 (w1.drewN q):=Kp.below ⟨rfl,rfl,rfl,j3 _,fun _ _=>rfl⟩;have p:210+8*(1-i)+k∈TN:=lC.2 aj;exact(C.mono fun x H=>lC.2 (bV (fG.1 H))).trans (s.trans ((Kp.set o1 _ _ _ TN (by rw[r];exact p)).trans ((Kp.set o1 _ _ _ TN (by rw[r];exact p)).trans (Kp.below ⟨rfl,rfl,rfl,j3 _,fun _ _=>rfl⟩))))
 ·have t:=K.tx;apply ByteArray.ext;rw[ByteArray.data_extract];apply Array.ext';rw[<-t];simp
 ·by_cases j:((n.x i).bF k).state=0;·exact .inl j
  ·obtain⟨m,f⟩:=K.s0 j;have c:=K.st;rw[m,f]at *
   rcases c with c|c;·exact absurd c j
   ·exact .inr ⟨c.1,c.1,rfl⟩
 ·rcases K.st with q|⟨m,f,c⟩;·exact .inl q
  ·exact .inr ⟨m,f,by rw[<-K.nx];exact c⟩
end

end
section
def KdW(B:Nat)(w:World)(d:Option Addr)(fs:List Fr):Prop:=∀j,j<fs.length->∃b off,d=some (aB b off)/\B<=b/\w.cell? (aB b (off+j*10))=some (iZ (fs.getD j iM).aC)
theorem KdW.below{B:Nat}{w w':World}{f:Option Addr}{fs:List Fr}(h:KdW B w f fs)(hb:bJ w w'):KdW B w' f fs:=fun j g=>by obtain⟨b,off,e,h1,d⟩:=h j g;exact⟨b,off,e,h1,cell_of d (hb.block _ (World.block_lt_of_cell? w (aB b _) (by rw[d])))⟩
theorem KdW.set{B:Nat}{w:World}{d:Option Addr}{fs:List Fr}(h:KdW B w d fs)(x:Addr)(v:Value)(k:x.block<B):KdW B (w.setCell x v) d fs:=fun j g=>by obtain⟨b,off,e,h1,f⟩:=h j g;exact⟨b,off,e,h1,cell_of f (Below.heap_setCell _ _ _ _ (by show b≠x.block;omega))⟩
theorem RS(y:Nat×List Fr)(D:ByteArray)(g cap:Nat)(w:World)(hd:oV true y.1 y.2 D.data.toList)(z:y.2.map norm=y.2)(hb:dV w (some (aB g 0)) D.data.toList)(hl:D.size<=1000000)(A:0<D.size)(v:g<w.heap.size)(u:j4 w)(r:iE w)(p:2<=w.heap.size):Calls prog 24 #[dP g D.size cap] w fun e w'=>∃d m,e=.returned (.tuple #[.agg #[uZ y.1,.slice d y.2.length m],iZ 0,(iZ (-1))])/\bJ w w'/\KdW w.heap.size w' d y.2:=by have o:D.data.toList.length=D.size:=aP;have:=AL true y.1 y.2 g 0 cap D.data.toList w hd hb aj aj v u r p 0 rfl;rw[o]at this;refine this.mono ?_;rintro e w' ⟨s,err,rfl,h,hb⟩;unfold oG at h;rw[bK rfl]at h;obtain⟨_,v9,f⟩:=h;rw[z]at f;unfold oV at hd;rw[bK rfl]at hd;obtain⟨d,m,l,hF⟩:=f.NR (fun j k=>(hd.2.1 j k).2);subst l;have t:=f.own;refine⟨d,m,rfl,hb,fun j k=>?_⟩;obtain⟨b,off,e,q⟩:=hF.weak j k;subst e;exact⟨b,off,rfl,t b rfl,q.c0⟩
def nj(n:Net)(i:Nat)(Y:List (Nat×List Fr))(j c:Nat):Net:={n with dN:=n.dN++(Y.take j).map (fun y=>(1-i,y)),jP:=fun t=>if t=i then n.jP i+c else n.jP t}
structure Kg (fJ:Own) (w0:World) (a:Ad) (n:Net) (E:Nat->Nat->bO) (i:Nat) (Y:List (Nat×List Fr)) (x:Value) (j c:Nat) (oZ:Own) (w:World):Prop where
 nt:∃vb,fu oZ w a (nj n i Y j c) vb E
 st:GT oZ 229 9 1 w x Y.length (Y.map fun y=>sV (bT y.1 y.2))
 kp:Kp TN fJ oZ w0 w
section
variable {fJ oZ:Own} {w0 w w':World} {a:Ad} {n:Net} {E:Nat->Nat->bO} {i j c:Nat} {Y:List (Nat×List Fr)} {x:Value}
theorem Kg.below(h:Kg fJ w0 a n E i Y x j c oZ w)(hb:bJ w w'):Kg fJ w0 a n E i Y x j c oZ w':=by obtain⟨vb,h1⟩:=h.nt;exact⟨⟨vb,h1.below hb⟩,h.st.kp (Kp.below (T:=[]) hb) aP,h.kp.trans (Kp.below hb)⟩
theorem Kg.count(h:Kg fJ w0 a n E i Y x j c oZ w)(hi:i<2):Kg fJ w0 a n E i Y x j (c+1) oZ (w.setCell (aB a.cb i) (uZ ((n.jP i+c+1:Nat):Int))):=by
 obtain⟨vb,h1⟩:=h.nt;have g:=h1.qet i hi (n.jP i+c+1);have K:Kp [203] oZ oZ w (w.setCell (aB a.cb i) (uZ ((n.jP i+c+1:Nat):Int))):=Kp.set oZ w _ _ _ (by rw[h1.ct.2];simp);refine⟨⟨vb,?_⟩,h.st.kp K aP,h.kp.trans (K.mono fun x b=>lC.2 (by simp at b;omega))⟩;have e:(fun t=>if t=i then n.jP i+c+1 else(nj n i Y j c).jP t)=(nj n i Y j (c+1)).jP:=funext fun t=>by
  show _=if t=i then n.jP i+(c+1)else n.jP t;by_cases e:t=i;·rw[bK e,bK e];omega
  ·rw[aU e,aU e];exact aU e
 rw[e]at g;exact g
theorem Kg.push(h:Kg fJ w0 a n E i Y x j c oZ w)(F:j<Y.length)(hl:n.dN.length+Y.length<=100000000000):∃l n0 c0 f n2 c2 b d,w.cell? (aB a.N 8)=some (.slice l n0 c0)/\(∀B,(Builtin.append_ #[46,46] B #[.slice l n0 c0,dP w.heap.size 1 1]).run prog (w.alloc (.cells #[(iZ ((1-i:Nat):Int)),sV (bT (Y.getD j (0,[])).1 (Y.getD j (0,[])).2)] 62))=.ok (.slice f n2 c2) b)/\(∃v,b.cell? (aB a.N 8)=some v)/\b.frozen? (aB a.N 8)=false/\Kg fJ w0 a n E i Y x (j+1) c d (b.setCell (aB a.N 8) (.slice f n2 c2)):=by
 obtain⟨vb,h1⟩:=h.nt;obtain⟨V,p⟩:=bZ ([Value.int .i64 ((1-i:Nat):Int),sV (bT (Y.getD j (0,[])).1 (Y.getD j (0,[])).2)]);have G:aS (w.alloc (.cells V.toArray 62)) w.heap.size 62 V:=aS.new w 62 V;have m:bJ w (w.alloc (.cells V.toArray 62)):=(Below.refl _ w).alloc (j3 _) _;have o:=h1.below m;obtain⟨l,c0,rfl⟩:=jk h1.bg;obtain⟨K,b,d,run,D,q⟩:=gq Wl o.bg (aB w.heap.size 0) 1 1 V (by rw[p];rfl) (fun z hz=>by
  rw[p]at hz;simp[sV]at hz;rcases hz with rfl|rfl<;>rfl) (fun t y I=>by
  have e:(aB w.heap.size 0).add t=(aB w.heap.size t):=by rw[Addr.add_lit,qA]
  rw[e,G.cell,I]) (by unfold nj;rw[nU,nA,mR];omega)
 obtain⟨f,c2,rfl⟩:=jk D;obtain⟨_,_,_,_,_,c8,_⟩:=h1.cells;have g:aS b a.N 48 (Wh a (nj n i Y j c).now (.slice l (nj n i Y j c).dN.length c0)):=o.Dq q aP;have u:d a.N=200:=by rw[q.ext _ o.oP.1.lt];exact o.oP.2
 have C:Kp [200] d d b (b.setCell (aB a.N 8) (.slice f ((nj n i Y j c).dN.length+1) c2)):=Kp.set d b _ _ _ (by rw[u];simp);have k:Kp [204,200] oZ d w (b.setCell (aB a.N 8) (.slice f ((nj n i Y j c).dN.length+1) c2)):=(Kp.below m).trans ((q.mono aP).trans (C.mono aP));have eb:(nj n i Y (j+1) c).dN=(nj n i Y j c).dN++[(1-i,Y.getD j (0,[]))]:=by unfold nj;simp only;rw[List.take_add_one,eB F,List.map_append,eT,eB F,List.append_assoc];rfl
 have H:b.cell? (aB a.N 8)=some (.slice l (nj n i Y j c).dN.length c0):=by rw[g.cell];rfl
 refine⟨l,_,c0,f,_,c2,b,d,c8,fun B=>by have:=run B;rw[p]at this;exact this,⟨_,H⟩,g.frozen 8,⟨.slice f ((nj n i Y j c).dN.length+1) c2,?_⟩,h.st.kp k aP,h.kp.trans (k.mono fun x A=>lC.2 (by simp at A;omega))⟩;refine h1.qg k aP aP (g.setCell 8 _) (fun J k' r s=>h1.Dr k J k' r s (by simp;omega)) (h1.Fx k aP) ?_ (fun i hi=>h1.Dt k i hi fun x A=>.inr (by simp at A;omega));rw[eb,J9,nU];have:=D.kp C aP;rw[p]at this;exact this
end

end
theorem qo.less{n:Net}{B:Nat}(h:qo n (B+1)):qo n B:=⟨fun i hi=>bV (h.1 i hi),bV h.2⟩
theorem qo.to{n:Net}{B:Nat}(h:qo n B):qo n 0:=⟨fun i hi=>bV (h.1 i hi),bV h.2⟩
theorem qo.dY{n:Net}{B:Nat}(h:qo n B)(i:Nat){M:av}(h1:M.next=(n.x i).next)(b:M.bE=(n.x i).bE):qo (n.dY i M) B:=⟨fun j a=>by
 by_cases e:j=i;·rw[e,dA,h1,b];rw[e]at a;exact h.1 i a
 ·rw[dX _ _ _ _ e];exact h.1 j a,h.2⟩
theorem jF{bG:Nat}{n:Net}(h:fH bG n)(i:Nat)(hi:i<2)(M:av)(s:tu (n.x i) (n.x (1-i)) M)(b:Bd M)(m:M.bG=(n.x i).bG)(a:M.next=(n.x i).next):fH bG (n.dY i M):=
 h.set i hi M s b m n.jP fun j c=>by
  split;·rename_i e;rw[e,a];exact h.ct i hi
  ·rfl
def uq(pk:List (Nat×List Fr)):List (Nat×List Fr):=pk.map fun y=>(y.1,y.2.map norm)
def Net.yG(n:Net)(i:Nat)(M:av)(pk:List (Nat×List Fr)):Net:=
 {n.dY i M with dN:=n.dN++(uq pk).map (fun y=>(1-i,y)),jP:=fun t=>if t=i then M.next else n.jP t}
theorem Ia{bG:Nat}{n:Net}(hp:fH bG n)(i:Nat)(hi:i<2){M:av}{pk:List (Nat×List Fr)}(o:VY (n.x i) (n.x (1-i)) M pk):fH bG (n.yG i M pk):=by
 have g:=hp.set i hi M o.Qz o.bd o.mt (fun t=>if t=i then M.next else n.jP t) (fun j _=>rfl);refine g.add _ (fun y d=>?_);obtain⟨z,hz,rfl⟩:=nP.1 d;obtain⟨x,c,rfl⟩:=nP.1 hz;obtain⟨f,lt,fr⟩:=o.ok x c;refine⟨by show 1-i<2;omega,?_⟩;have a:(n.dY i M).x (1-(1-i))=M:=by rw[show 1-(1-i)=i by omega];exact dA n i M
 have b:(n.dY i M).x (1-i)=n.x (1-i):=dX _ _ _ _ aj;show Hw bG ((n.dY i M).x (1-(1-i))) ((n.dY i M).x (1-i)) (x.1,x.2.map norm);rw[a,b];rw[hp.mt i hi]at f;exact(Hy f lt fr).1
theorem Wn{n:Net}{B:Nat}(h:qo n (B+1))(i:Nat){M:av}{pk:List (Nat×List Fr)}{A:av}(o:VY (n.x i) A M pk)(t:M.bE=(n.x i).bE):qo (n.yG i M pk) B:=⟨fun j a=>by
 show((n.dY i M).x j).next+_<_/\((n.dY i M).x j).bE+B<_
 by_cases e:j=i;·rw[e,dA,t];rw[e]at a;have:=h.1 i a;have:=o.top;omega
 ·rw[dX _ _ _ _ e];have:=h.1 j a;omega,by have:=h.2;show n.now+B<_;omega⟩
structure FlY (bG c0:Nat) (j:Nat) (y:Nat×List Fr):Prop where
 dec:oV true y.1 y.2 (bT y.1 y.2)
 nm:y.2.map norm=y.2
 sz:(bT y.1 y.2).length<=bG
 ps:0<(bT y.1 y.2).length
 no:y.1=c0+j
 ne:0<y.2.length
 ln:y.2.length<=400
 kd:∀f∈y.2,f.aC=2\/f.aC=4\/f.aC=5\/f.aC=6
theorem qce{bG:Nat}{A B M:av}{pk:List (Nat×List Fr)}(o:VY A B M pk)(i:A.bG=bG)(j:Nat)(h:j<(uq pk).length):FlY bG A.next j ((uq pk).getD j (0,[])):=by
 have a:j<pk.length:=by simpa[uq]using h
 have c:pk.getD j (0,[])=pk[j]:=by rw[eT,eB a];rfl
 have e:(uq pk).getD j (0,[])=((pk[j]).1,(pk[j]).2.map norm):=by unfold uq;rw[eT,List.getElem?_map,eB a];rfl
 obtain⟨f,lt,fr⟩:=o.ok _ (List.getElem_mem a);have n:=o.nm j a;rw[c]at n;rw[i]at f;obtain⟨b,_⟩:=Hy f lt fr;rw[e];exact⟨b.dec,b.nm,b.sz,b.ps,n,by show 0<((pk[j]).2.map norm).length;rw[nA];exact List.length_pos_iff.2 f.ne,b.ln,fun g d=>(b.fr g d).kd⟩
theorem RU{A B M:av}{pk:List (Nat×List Fr)}(o:VY A B M pk):(uq pk).map (fun y=>sV (bT y.1 y.2))=pk.map fun y=>sV (bT y.1 y.2):=by unfold uq;rw[xB];refine List.map_congr_left fun x a=>?_;obtain⟨f,lt,fr⟩:=o.ok x a;show sV (bT x.1 (x.2.map norm))=_;rw[(Hy f lt fr).2]
theorem qcf{bG:Nat}{n:Net}(hp:fH bG n)(i:Nat)(hi:i<2){M:av}{pk:List (Nat×List Fr)}(o:VY (n.x i) (n.x (1-i)) M pk):nj (n.dY i M) i (uq pk) (uq pk).length (uq pk).length=n.yG i M pk:=by
 have e:(fun t=>if t=i then(n.dY i M).jP i+(uq pk).length else(n.dY i M).jP t)=fun t=>if t=i then M.next else n.jP t:=funext fun t=>by
  split;·show n.jP i+_=_;rw[hp.ct i hi,o.next];unfold uq;rw[nA]
  ·rfl
 unfold nj Net.yG;rw[e,List.take_length];rfl
theorem uW{n:Net}{i:Nat}{M:av}(s:Sm (n.x i) M)(j k:Nat):ends n j k=ends (n.dY i M) j k:=by
 have h1:((n.dY i M).x j).out k={(((n.dY i M).x j).out k)with}:=rfl;unfold ends J6;have a:(((n.dY i M).x j).out k).ay=((n.x j).out k).ay/\(((n.dY i M).x j).out k).bn=((n.x j).out k).bn:=by
  by_cases e:j=i;·rw[e,dA];exact s.o k
  ·rw[dX _ _ _ _ e];exact⟨rfl,rfl⟩
 have b:(((n.dY i M).x (1-j)).bF k).aR=((n.x (1-j)).bF k).aR/\(((n.dY i M).x (1-j)).bF k).state=((n.x (1-j)).bF k).state:=by
  by_cases e:1-j=i;·rw[e,dA];exact s.i k
  ·rw[dX _ _ _ _ e];exact⟨rfl,rfl⟩
 rw[a.1,a.2,b.1,b.2]
end Go.Proofs.YtphbledmopchnaaGreatDoor.Sd
namespace Go.Proofs.YtphbledmopchnaaGreatDoor.Sd
open St Tryz
theorem LI.qex{A B A':av}{toB toA pk:List (Nat×List Fr)}(h:LI A B toB toA)(t:fE A)(h1:dO A B)(w:dO B A)(bd:Bd A)(F:A.next+24<dK)(hp:A.jS A' pk)(hb:∀y∈toB,y.1<A.next)(G:∀y∈toA,∀g∈y.2,g.aC=2->∀r∈g.ranges,r.2<A.next):LI A' B (toB++uq pk) toA:=by
 have p:=u_ t.q hp;have o:=mG t h1 w bd F hp;have u:∀x∈A.aJ++A.bP,x.1<A.next:=fun x a=>by
  rcases mE.1 a with a|a;·exact(bd.wy x a).1
  ·exact(bd.ls x a).1
 refine⟨h.aw.jS t h1 w bd F hp,fun k q hq=>h.cm k q (by rw[<-p.ce.o k];exact hq),by rw[p.ce.g];exact h.gc,fun k=>by rw[p.ce.i k];exact h.ic k,fun x a E=>?_,fun y b g C k r d x a I J=>?_,fun y b x a e f c=>?_,fun x a f c=>?_⟩
 ·rcases p.sI x a with a|⟨a,_⟩;·exact h.wt x a E
  ·obtain⟨r,d,_,K⟩:=E;have:=h1.aM r d;omega
 ·rcases p.sI x a with a|⟨a,_⟩;·exact h.ak y b g C k r d x a I J
  ·have:=G y b g C k r d;omega
 ·rcases mE.1 b with b|b
  ·rcases p.sI x a with a|⟨a,_⟩;·exact h.pk y b x a e f c
   ·have:=hb y b;omega
  ·obtain⟨z,hz,rfl⟩:=nP.1 b;have H:=(p.ack z hz).1;simp only at e;rcases p.sI x a with a|⟨a,fs,n,s⟩;·have:=u x a;omega
   ·
    obtain⟨i,hi,v⟩:=og hz;obtain⟨j,D,m⟩:=og n;have n1:=o.nm i hi;have n2:=o.nm j D;rw[eT,eB hi,Option.getD_some,v]at n1;rw[eT,eB D,Option.getD_some,m]at n2;simp only at n2;have l:i=j:=aj;subst l;rw[v]at m;rw[s]at c;show norm f∈z.2.map norm;rw[m];exact List.mem_map_of_mem (lg.1 c).1
 ·rcases p.sI x a with a|⟨a,fs,n,s⟩;·exact h.sn x a f c
  ·rw[s]at c;exact((o.ok _ n).1.fs f (lg.1 c).1).sn
theorem LI.qey{A B B':av}{toB toA pk:List (Nat×List Fr)}(h:LI A B toB toA)(hB:fE B)(h1:dO A B)(s:dO B A)(bd:Bd B)(t:B.next+24<dK)(hp:B.jS B' pk):LI A B' toB (toA++uq pk):=by
 have p:=u_ hB.q hp;have o:=mG hB s h1 bd t hp;have g:=h.grow p.le fun q hq=>by rw[<-p.cm];exact hq
 refine⟨g.aw,g.cm,g.gc,g.ic,g.wt,fun y d a i k r e x l m n f j=>?_,g.pk,g.sn⟩;rcases mE.1 d with d|d;·exact g.ak y d a i k r e x l m n f j
 ·obtain⟨z,hz,rfl⟩:=nP.1 d;obtain⟨b,c,rfl⟩:=nP.1 i;have sn:=((o.ok z hz).1.fs b c).sn;rw[lS b sn]at k;have er:(norm b).ranges=b.ranges:=by rw[norm_eq b sn,aU aj,bK k]
  rw[er]at e;exact(h.wt x l ⟨r,(p.ack z hz).2 b c k r e,m,n⟩ f j).mono p.le
theorem Zq{B:av}{f:Fr}(hs:snd f=true)(h:Tk B (norm f)):Tk B f:=by
 have a:=lS f hs;refine⟨fun k p hp=>?_,fun k=>?_,fun k=>?_⟩
 ·have e:norm f={DV 4 with bn:=f.bn,aH:=f.aH,aD:=f.aD,data:=f.data}:=by rw[norm_eq f hs,aU aj,aU aj,aU aj,bK k]
  have:=h.1 (by rw[a];exact k) p;rw[e]at this;exact this hp
 ·have e:norm f={DV 5 with aL:=f.aL}:=by rw[norm_eq f hs,aU aj,aU aj,aU aj,aU aj,bK k]
  have:=h.2.1 (by rw[a];exact k);rw[e]at this;exact this
 ·have e:norm f={DV 6 with aH:=f.aH,aL:=f.aL}:=by rw[norm_eq f hs,aU aj,aU aj,aU aj,aU aj,aU aj,bK k]
  have:=h.2.2 (by rw[a];exact k);rw[e]at this;exact this
theorem LI.qez{A A' B:av}{toB toA:List (Nat×List Fr)}{l:bW}(h:LI A B toB toA)(bd:Bd A)(I:(l.getD 0 (0,0)).2<A.next)(hl:A.nu l A')(ht:∀r∈l,∀x∈A.aJ++A.bP,r.1<=x.1->x.1<=r.2->∀f∈x.2.bI,Tk B f):LI A' B toB toA:=by
 obtain⟨aw,_⟩:=h.aw.nu bd I hl;obtain⟨lp,lq,p1,p2,rfl⟩:=hl;have H:∀f∈bI lp++bI lq,EX f/\Tk B f:=fun f j=>by
  rcases mE.1 j with j|j;·obtain⟨x,d,j⟩:=tO.1 j;obtain⟨m,n⟩:=lg.1 (p1.mem_iff.1 d);obtain⟨r,o,i⟩:=tK.1 n;simp only[Bool.and_eq_true,decide_eq_true_eq]at i;exact⟨(bd.wy x m).2.2 f j,ht r o x (nI _ m) i.1 i.2 f j⟩
  ·obtain⟨x,d,j⟩:=tO.1 j;obtain⟨m,n⟩:=lg.1 (p2.mem_iff.1 d);obtain⟨r,o,i⟩:=tK.1 n;simp only[Bool.and_eq_true,decide_eq_true_eq]at i;exact⟨(bd.ls x m).2.2 f j,ht r o x (mY _ m) i.1 i.2 f j⟩
 have key:∀(F:List Fr) (M:av),(∀f∈F,EX f/\Tk B f)->(∀k,vw (M.out k).aM)->(∀k p,Rg.Mem (M.out k).aM.rs p->DZ (B.bF k) p)->M.gr.aM<=B.aL->(∀k,(M.bF k).gr.aM<=(B.out k).aL)->(∀k p,Rg.Mem ((F.foldl av.dx M).out k).aM.rs p->DZ (B.bF k) p)/\(F.foldl av.dx M).gr.aM<=B.aL/\(∀k,((F.foldl av.dx M).bF k).gr.aM<=(B.out k).aL)/\(F.foldl av.dx M).aJ=M.aJ/\(F.foldl av.dx M).bP=M.bP:=fun F=>by
  induction F with
  |nil=>exact fun M _ _ a b c=>⟨a,b,c,rfl,rfl⟩
  |cons f t J=>
   intro M hF ok a b c;obtain⟨fb,tk⟩:=hF f aP;have K:=fb.kd;have D:(M.dx f).aJ=M.aJ/\(M.dx f).bP=M.bP:=by
    unfold av.dx;repeat' split
    all_goals exact⟨rfl,rfl⟩
   have step:(∀k,vw ((M.dx f).out k).aM)/\(∀k p,Rg.Mem ((M.dx f).out k).aM.rs p->DZ (B.bF k) p)/\(M.dx f).gr.aM<=B.aL/\(∀k,((M.dx f).bF k).gr.aM<=(B.out k).aL):=by
    unfold av.dx;split
    ·rename_i E;have hd:=fb.dt E;refine⟨fun k=>?_,fun k p hp=>?_,b,c⟩
     ·rw[fB];split;·exact oI (ok _) hd
      ·exact ok k
     ·rw[fB]at hp;split at hp
      ·rename_i e;rcases(jJ (ok f.aH.toNat) hd p).1 hp with g|g;·rw[e.1];exact a _ p g
       ·rw[e.1];exact tk.1 E p g
      ·exact a k p hp
    ·split;·omega
     ·split
      ·rename_i G;refine⟨ok,a,b,fun k=>?_⟩;rw[dQ];split;·rename_i e;show max _ _<=_;rw[e.1];exact Nat.max_le.2 ⟨c _,tk.2.2 G⟩
       ·exact c k
      ·rename_i G;exact⟨ok,a,Nat.max_le.2 ⟨b,tk.2.1 aj⟩,c⟩
   obtain⟨u,v,w,z,C⟩:=J (M.dx f) (fun g q=>hF g (by simp[q])) step.1 step.2.1 step.2.2.1 step.2.2.2;exact⟨u,v,w,z.trans D.1,C.trans D.2⟩
 obtain⟨u,v,w,z,C⟩:=key (bI lp++bI lq) (A.rZ l) H (fun k=>(bd.o k).c) h.cm h.gc h.ic;have sub:∀x∈((bI lp++bI lq).foldl av.dx (A.rZ l)).aJ++((bI lp++bI lq).foldl av.dx (A.rZ l)).bP,x∈A.aJ++A.bP:=fun x d=>by
  rw[z,C]at d;rcases mE.1 d with d|d;·exact nI _ (lg.1 d).1
  ·exact mY _ (lg.1 d).1
 exact⟨aw,u,v,w,fun x d=>h.wt x (sub x d),fun y s g q k r o x d=>h.ak y s g q k r o x (sub x d),fun y s x d=>h.pk y s x (sub x d),fun x d=>h.sn x (sub x d)⟩
theorem Ak(i:eH)(f:Fr):(i.take f).gr=i.gr:=by
 unfold eH.take;simp only;repeat' split
 all_goals rfl
theorem FD{M M1:av}{l:bW}(h:M.nu l M1):M1.aM=M.aM:=by
 obtain⟨lp,lq,_,_,rfl⟩:=h;have key:∀(F:List Fr) (N:av),(F.foldl av.dx N).aM=N.aM:=fun F=>by
  induction F with
  |nil=>exact fun _=>rfl
  |cons f t a=>
   intro N;show(t.foldl av.dx (N.dx f)).aM=_;rw[a];unfold av.dx;repeat' split
   all_goals rfl
 exact key _ _
theorem R8{R S b:av}{e:Nat}{toR m:List (Nat×List Fr)}(q:fE R)(D:fE S)(h1:dO R S)(v:dO S R)(z:Bd R)(A:Bd S)(f:Fr)(s:lJ S R f)(h:R.iN f b e)(n:LI R S m toR)(E:f.aC=2->∀r∈f.ranges,∀x∈R.aJ++R.bP,r.1<=x.1->x.1<=r.2->∀g∈x.2.bI,Tk S g):qh R b/\b.aM=R.aM/\Tk b f/\LI b S m toR/\∀x∈b.aJ++b.bP,x∈R.aJ++R.bP:=by
 unfold av.iN at h;by_cases k2:f.aC=2
 ·rw[bK k2]at h;have G:(f.ranges.getD 0 (0,0)).2<R.next:=by
   rcases s with⟨_,_,h⟩|⟨h,_⟩|⟨h,_⟩|⟨h,_⟩;·exact h
   ·rw[k2]at h;cases h
   ·rw[k2]at h;cases h
   ·rw[k2]at h;cases h
  rw[aU aj]at h;obtain⟨h,rfl⟩:=h;refine⟨R3 h,FD h,⟨fun k=>aj,fun k=>aj,fun k=>aj⟩,n.qez z G h (E k2),?_⟩;obtain⟨lp,lq,_,_,rfl⟩:=h;have key:∀(F:List Fr) (N:av),(F.foldl av.dx N).aJ=N.aJ/\(F.foldl av.dx N).bP=N.bP:=fun F=>by
   induction F with
   |nil=>exact fun _=>⟨rfl,rfl⟩
   |cons f t w=>
    intro N;have e:(N.dx f).aJ=N.aJ/\(N.dx f).bP=N.bP:=by
     unfold av.dx;repeat' split
     all_goals exact⟨rfl,rfl⟩
    exact⟨(w (N.dx f)).1.trans e.1,(w (N.dx f)).2.trans e.2⟩
  rw[(key _ _).1,(key _ _).2];intro x d;rcases mE.1 d with d|d;·exact nI _ (lg.1 d).1
  ·exact mY _ (lg.1 d).1
 ·rw[aU k2]at h;have i:=(A_ q D h1 v f s).1;have o:b=(R.take f).1:=congrArg Prod.fst h;clear h;rcases s with⟨a,_⟩|⟨a,hs,hs8,hd⟩|⟨a,hl⟩|⟨a,hs,hs8,hl⟩;·exact absurd a k2
  ·have j:b=R.eG f.aH.toNat ((R.bF f.aH.toNat).take f):=by
    rw[o];unfold av.take at i ⊢;rw[aU k2,bK a]at i ⊢;split at i;·rename_i c;exact absurd i c
    ·rename_i c;rw[aU c];split at i;·cases i
     ·rename_i c2;rw[aU c2]
   rw[j];have y:f.aH.toNat<R.ins.length:=by rw[q.li];omega
   obtain⟨B,C⟩:=Wv (v.rd f.aH.toNat) f hd (qy (A.o _).b iO);have l:∀k,((R.eG f.aH.toNat ((R.bF f.aH.toNat).take f)).bF k).gr=(R.bF k).gr:=fun k=>by
    rw[dQ];split;·rename_i e;rw[e.1];exact Ak _ f
    ·rfl
   refine⟨⟨fun k p hp=>?_,j3 _,fun _=>j3 _,rfl,fun k=>by rw[l]⟩,rfl,⟨fun _ p hp=>?_,fun k=>aj,fun k=>aj⟩,n.qg rfl rfl (fun _=>⟨rfl,rfl⟩) rfl l,fun x d=>d⟩
   ·rw[dQ];split;·rename_i e;rw[e.1]at hp;exact C p hp
    ·exact hp
   ·rw[dQ,bK ⟨rfl,y⟩];exact B p hp
  ·have j:b={R with aL:=max R.aL f.aL}:=by
    rw[o];unfold av.take;rw[aU k2,aU (by rw[a];decide),aU (by rw[a];decide),aU (by rw[a];decide),aU (by rw[a];decide),bK a]
   rw[j];exact⟨⟨fun _ _ h=>h,wz _ _,fun _=>j3 _,rfl,fun _=>rfl⟩,rfl,⟨fun k=>aj,fun _=>tT _ _,fun k=>aj⟩,n.qg rfl rfl (fun _=>⟨rfl,rfl⟩) rfl fun _=>rfl,fun x d=>d⟩
  ·have j:b=R.dD f.aH.toNat {R.out f.aH.toNat with aL:=max (R.out f.aH.toNat).aL f.aL}:=by
    rw[o];unfold av.take;rw[aU k2,aU (by rw[a];decide),aU (by rw[a];decide),aU (by rw[a];decide),aU (by rw[a];decide),aU (by rw[a];decide),bK a]
   rw[j];have u:f.aH.toNat<R.outs.length:=by rw[q.lo];omega
   refine⟨lF R _ _ (wz _ _),rfl,⟨fun k=>aj,fun k=>aj,fun _=>?_⟩,n.qg rfl rfl (fun k=>?_) rfl fun _=>rfl,fun x d=>d⟩;·rw[fB,bK ⟨rfl,u⟩];exact tT _ _
   ·rw[fB];split;·rename_i e;rw[e.1];exact⟨rfl,rfl⟩
    ·exact⟨rfl,rfl⟩
theorem yB:∀(fs:List Fr) {R S R':av} {toR toS:List (Nat×List Fr)},fE R->fE S->dO R S->dO S R->Bd R->Bd S->(∀f∈fs,lJ S R f)->LI R S toS toR->(∀f∈fs,f.aC=2->∀r∈f.ranges,∀x∈R.aJ++R.bP,r.1<=x.1->x.1<=r.2->∀g∈x.2.bI,Tk S g)->kZ R fs R' 0->qh R R'/\R'.aM=R.aM/\(∀f∈fs,Tk R' f)/\LI R' S toS toR
 |[],R,S,R',toR,toS,_,_,_,_,_,_,_,hI,_,h=>by obtain⟨rfl,_⟩:=h;exact⟨qh.refl _,rfl,(fun f d=>by cases d),hI⟩
 |f::t,R,S,R',toR,toS,hR,hS,h1,h2,bR,bS,d,hI,ha,h=>by
  obtain⟨y,z,r,h⟩:=h;obtain⟨rfl,s,b,_,_⟩:=xU hR hS h1 h2 bR bS f (d f aP) r;rw[bK rfl]at h;obtain⟨i,j,l,m,n⟩:=R8 hR hS h1 h2 bR bS f (d f aP) r hI (ha f aP);obtain⟨e,u,v,w⟩:=yB t s.loc hS s.ab s.ba b bS (fun g o=>(d g (by simp[o])).mono (Au.refl _) s.le) m (fun a c k r p x q=>ha a (by simp[c]) k r p x (n x q)) h;refine⟨i.trans e,u.trans j,fun a c=>?_,w⟩;rcases List.mem_cons.1 c with rfl|c;·exact l.mono e
  ·exact v a c
theorem came_mem{bf:Nat}{s:NS}{m p:Nat}(h:Rg.fI s.rs)(hp:Rg.Mem (s.add bf m m).rs p):Rg.Mem s.rs p\/p=m:=by
 unfold NS.add Rg.add at hp;split at hp;·exact .inl hp
 ·rename_i c;have b:max m s.fl=m:=aj;rw[b]at hp;have key:Rg.Mem (Rg.ins m m s.rs) p->Rg.Mem s.rs p\/p=m:=fun q=>by
   rcases(Rg.wZ s.rs m m p (j3 _) h).1 q with g|g;·exact .inr aj
   ·exact .inl g
  split at hp;·obtain⟨r,d,a⟩:=hp;exact key ⟨r,List.mem_of_mem_tail d,a⟩
  ·exact key hp
theorem LI.aM{R S u:av}{toR j:List (Nat×List Fr)}(n:LI R S j toR)(d:LI S R toR j)(D:fE R)(E:fE S)(h1:dO R S)(C:dO S R)(i:Bd R)(B:Bd S){y:Nat×List Fr}(A:y∈toR)(v:y.1<S.next)(F:∀f∈y.2,lJ S R f)(L:R.next<=dK/\S.next<=dK)(h:R.jc y.1 y.2 u 0):LI u S j toR/\LI S u toR j/\qh R u:=by
 unfold av.jc at h;split at h;·obtain⟨rfl,_⟩:=h;exact⟨n,d,qh.refl _⟩
 ·obtain⟨t,o⟩:∃t:av,t={R with aM:=R.aM.add 8 y.1 y.1,aT:=R.aT||eO y.2}:=⟨_,rfl⟩;have s:=xO D h1 C y.1 v (R.aT||eO y.2);have b0:Bd t:=by rw[o];exact⟨i.o,i.i,i.g,i.lm,i.mt,i.wy,i.ls,i.ky,i.wl,i.ll,i.nm,Ba i.cm y.1 aj,i.tk⟩
  rw[<-o]at h s;have G:LI t S j toR:=by rw[o];exact n.qg rfl rfl (fun _=>⟨rfl,rfl⟩) rfl fun _=>rfl
  have l0:qh R t:=by rw[o];exact⟨fun _ _ h=>h,j3 _,fun _=>j3 _,rfl,fun _=>rfl⟩
  obtain⟨H,I,J,K⟩:=yB y.2 s.loc E s.ab s.ba b0 B (fun f h=>(F f h).mono (Au.refl _) s.le) G (fun f e k r w x m=>n.ak y A f e k r w x (by rw[o]at m;exact m)) h;have le:=l0.trans H;refine⟨K,⟨d.aw,fun k p hp=>le.got k p (d.cm k p hp),qy d.gc le.iB,fun k=>qy (d.ic k) (le.Nu k),fun x m l f e=>?_,fun z hz a b c r w x m p q f e=>(d.ak z hz a b c r w x m p q f e).mono le,d.pk,d.sn⟩,le⟩;rw[I,o]at l;rcases came_mem i.cm.so l with g|g;·exact(d.wt x m g f e).mono le
  ·exact Zq (d.sn x m f e) (J _ (d.pk y A x m g f e))
