import Derived.Test.YtphbledmopchnaaGreatDoorKhc
open ByteArray renaming data_extract->uj,data_append->Lb
open List renaming getElem?_eq_getElem->jK,getD_eq_getElem?_getD->nI,flatMap_cons->tL,getElem?_eq_some_iff->tT,length_take->wz,length_map->Bu,getElem?_drop->CK,getElem?_take->DJ,length_append->Gl,length_drop->Kt,length_eraseIdx->M4,map_map->Xw,mem_map->ZE
open Nat renaming le_refl->mR,zero_add->Si
set_option maxHeartbeats 2000000
set_option maxRecDepth 100000
namespace Go.Proofs.YtphbledmopchnaaGreatDoor.Sd
open Go.RowKit Go.Lib Mm Tryz
theorem uV(own:Own)(s:Nat)(C S:Nat)(bw bl bi:Nat)(data:ByteArray)(hd:data.size<=1000000000)(w:World)(hc:w.cell? ⟨C,0,none⟩=some (.pointer (some ⟨S,0,none⟩)))(hE:dP w)(h0:own 0∉T0 s)(en:Nat)(h7:Hg en)(RM:Side->Prop)(hR:∀cp W,data.size<=cp->cp<=9223372036854775807->Below w.heap.size w W->BytesAt W (some ⟨w.heap.size,0,none⟩) data.data.toList->Cy W w.heap.size data.size->Calls prog 104 #[.pointer (some ⟨S,0,none⟩),.slice (some ⟨w.heap.size,0,none⟩) data.size cp] W fun e w1=>e=.returned (l9 en)/\∃F,RM F/\SS own s w S bw bl bi data.size F w1):
  Calls prog 29 #[.pointer (some ⟨C,0,none⟩),.string data] w fun e w'=>e=.returned (.tuple #[.int .i64 en,.int .i64 (-1)])/\∃F,RM F/\fQ s own w S bw bl bi F w':=by
 obtain⟨cp,W,he,V,X,G,U,Z⟩:=nY w data hd;have h6:C<w.heap.size:=World.block_lt_of_cell? w ⟨C,0,none⟩ (by rw[hc])
 have HC:Hid (Calls prog 56 #[.pointer (some ⟨C,0,none⟩),.slice (some ⟨w.heap.size,0,none⟩) data.size cp] W fun e w1=>∃x,e=.returned x/\x=l9 en/\∃F,RM F/\SS own s w S bw bl bi data.size F w1):=
  Hf C S W (cell_of hc (G.block _ h6)) _ (fun x w1=>x=l9 en/\∃F,RM F/\SS own s w S bw bl bi data.size F w1) ((hR cp W V X G U Z).mono fun e w1 hh=>⟨_,hh.1,rfl,hh.2⟩)
 have HN:Hid (∀F w1,SS own s w S bw bl bi data.size F w1->Calls prog 42 #[l9 en] w1 fun r w2=>r=.returned (.tuple #[.int .i64 en,.int .i64 (-1)])/\SS own s w S bw bl bi data.size F w2):=fun F w1 hq=>by
  refine(Ee _ h7 w1 (hq.err hE h0)).mono ?_;rintro e w2 ⟨rfl,hb⟩;exact⟨rfl,hq.below hb⟩
 clear hc hE h0 G U Z hR;generalize data.size=n at *;go_enter func29,ntmps29
 go_wp2_with (go_at_call 56;refine HC.out.mono ?_;rintro e w1 ⟨x,rfl,rfl,F,O,hq⟩;have h5:=hid O;have I:=hid hq;clear O hq)
 clear HC
 go_loopw [16] (fun H wr=>∃j:Nat,j<=n/\H=.int .i64 j/\Hid (SS own s w S bw bl bi n F wr)) (fun H _=>n-(intOf H).toNat)
 case atStart=>exact⟨0,Nat.zero_le _,rfl,I⟩
 case round=>
  obtain⟨j,hj,rfl,HR⟩:=hrel;clear I
  by_cases h8:j<n
  ·have ha:(j:Int)<(n:Int):=by omega
   obtain⟨⟨v,e1⟩,e2⟩:(∃v,wr.cell? ⟨w.heap.size,j,none⟩=some v)/\wr.frozen? ⟨w.heap.size,j,none⟩=false:=by
    obtain⟨o,l1,v1,h1,h2,h3,h4⟩:=HR.out;exact h3.cell j h8
   have HS:=hid (HR.out.set j (.int .u8 33));go_wp2;go_roundw
   case rel=>exact⟨j+1,by omega,by simp,HS⟩
   case measure=>simp[intOf];omega
  ·obtain rfl:j=n:=by omega
   have HT:=hid (HN.out F wr HR.out)
   go_wp2_with (go_at_call 42;refine HT.out.mono ?_;rintro e w3 ⟨rfl,h9⟩)
   refine bodyPost_ret (v:=.tuple #[.int .i64 en,.int .i64 (-1)]) (by simp[results,results29,go_sem]) rfl ?_;exact⟨rfl,F,h5.out,h9.q⟩
theorem Ho(own:Own)(s:Nat)(C S:Nat)(l:List Value)(M:Side)(bw bl bi:Nat)(vc:Value)(n:Nat)(fs:List Fr)(data:ByteArray)(hd:data.size<=1000000000)(w:World)(h:bM own s w S l M bw bl bi vc)(hc:w.cell? ⟨C,0,none⟩=some (.pointer (some ⟨S,0,none⟩)))(hE:dP w)(h0:own 0=0)(hg:Gd own w)(hb:Bd M)(hy:M.why=0)(hn:n<=aU)(hD:kL true n fs data.data.toList)(h3:fs.map norm=fs)(Z:fs.length<=1000000)(hC:∀U j,j<fs.length->jr {M with came:=M.came.add 8 n n,answer:=M.answer||wants fs} (fs.take j) U->FrC U (fs.getD j dW)/\Bd U/\U.next<=aU):
  Calls prog 29 #[.pointer (some ⟨C,0,none⟩),.string data] w fun e w'=>e=.returned (.tuple #[.int .i64 0,.int .i64 (-1)])/\∃G,M.h_ n fs G 0/\fQ s own w S bw bl bi G w':=by
 have hs:=h.s0
 have H:(0:Nat)∉T0 s:=fun e=>by have:=bG.1 e;omega
 have F:data.data.toList.length=data.size:=by simp
 refine uV own s C S bw bl bi data hd w hc hE (by rw[h0];exact H) 0 (.inl rfl) (fun G=>M.h_ n fs G 0) ?_;intro cp W h1 h2 I X h4;obtain⟨o,l1,v1,g1,g2,V,g4⟩:=Hl h I h4;have O:Gd own W:=hg.kp (Kp.below (T:=[]) I) (by simp);have:=G_ o s S l1 M bw bl bi v1 n fs w.heap.size 0 cp data.data.toList W g1 hb hy hn hD h3 Z X (by rw[F];exact hd) (by rw[F];exact h1) h2 V.lt O.tab O.sz hC;rw[F]at this;refine this.mono ?_;rintro e w1 ⟨rfl,G,r1,o2,l2,v2,q1,q2⟩;exact⟨rfl,G,r1,o2,l2,v2,q1,by rw[q2.ext _ V.lt,g2],V.of_heap (q2.blk _ V.lt (by rw[g2];exact H)),g4.trans q2⟩
theorem xZ(own:Own)(s:Nat)(C S:Nat)(l:List Value)(M:Side)(bw bl bi:Nat)(vc:Value)(data:ByteArray)(hd:data.size<=1000000000)(w:World)(h:bM own s w S l M bw bl bi vc)(hc:w.cell? ⟨C,0,none⟩=some (.pointer (some ⟨S,0,none⟩)))(hE:dP w)(h0:own 0=0)(hg:Gd own w)(hy:M.why=0)(hD:kL false 0 [] data.data.toList):
  Calls prog 29 #[.pointer (some ⟨C,0,none⟩),.string data] w fun e w'=>e=.returned (.tuple #[.int .i64 7,.int .i64 (-1)])/\fQ s own w S bw bl bi M w':=by
 have hs:=h.s0
 have I:(0:Nat)∉T0 s:=fun e=>by have:=bG.1 e;omega
 have F:data.data.toList.length=data.size:=by simp
 refine(uV own s C S bw bl bi data hd w hc hE (by rw[h0];exact I) 7 (.inr (.inr (.inr rfl))) (fun Z=>Z=M) ?_).mono ?_
 ·intro cp W h1 h2 G U V;have X:=Hl h G V;obtain⟨o,l1,v1,g1,g2,g3,g4⟩:=X;have H:Gd own W:=hg.kp (Kp.below (T:=[]) G) (by simp);have:=xX S w.heap.size 0 cp data.data.toList W (g1.open hy) hD U (by rw[F];exact hd) (by rw[F];exact h1) h2 g3.lt H.tab H.sz;rw[F]at this;refine this.mono ?_;rintro e w1 ⟨rfl,O⟩;exact⟨rfl,M,rfl,SS.below ⟨o,l1,v1,g1,g2,g3,g4⟩ O⟩
 ·rintro e w' ⟨rfl,Z,rfl,hq⟩;exact⟨rfl,hq⟩
section
theorem vQ(c:Int)(m:Nat)(O: -9223372036854775808<=c)(G:c<=9223372036854775807)(H:0<m)(I:m<=9000000000)(w:World):
  Calls prog 32 #[.int .i64 c,.int .i64 m] w fun e w'=>e=.returned (.int .i64 (aV c m:Nat))/\w'=w:=by
 have hl:=hid (bL c m H)
 by_cases h:c<0
 ·have F:=hid (Ah c m h);go_enter func32,ntmps32;go_wp2;go_ret;exact⟨iA F.out,rfl⟩
 ·have F:=hid (Ai c m (by omega));go_enter func32,ntmps32;go_wp2;go_ret;exact⟨iA F.out,rfl⟩
theorem Av(n:Net)(i:Nat):n.bK i (n.x i)=n:=by
 unfold Net.bK
 have:(fun j=>if j=i then n.x i else n.x j)=n.x:=funext fun j=>by split<;>simp_all
 rw[this]
def ni(n:Net)(B:Nat):Prop:=(∀i,i<2->(n.x i).next+24*(B+1)<aU/\(n.x i).tick+B<9223372036854775808)/\n.now+B<9223372036854775808
def MW(own:Own)(w:World)(a:Ad)(vb:Value)(E:Nat->Nat->List Value)(T:List Nat)(n:Net)(w':World):Prop:=∃own',bE own' w' a n vb E/\Kp T own own' w w'
section
variable {own:Own} {w:World} {a:Ad} {n:Net} {vb:Value} {E:Nat->Nat->List Value}
theorem bE.sdq(h:bE own w a n vb E)(i:Nat)(hi:i<2)(M:Side){w':World}(hq:fQ (60*(i+1)) own w (a.S i) (a.bw i) (a.bl i) (a.bi i) M w'):MW own w a vb E (T0 (60*(i+1))) (n.bK i M) w':=by
 obtain⟨o,l,v,h1,F⟩:=hq;exact⟨o,h.side F i hi (fun x G=>by have:=bG.1 G;omega) M ⟨l,v,h1⟩,F⟩
theorem bE.no0(h:bE own w a n vb E)(i:Nat):own 0∉T0 (60*(i+1)):=by
 rw[h.o0];exact fun e=>by have:=bG.1 e;omega
theorem Us(h:bE own w a n vb E)(i:Nat)(hi:i<2)(ht:(n.x i).tick+1<18446744073709551616):
  Calls prog 38 #[.pointer (some ⟨a.C i,0,none⟩)] w fun e w'=>e=.returned (.tuple #[])/\MW own w a vb E (T0 (60*(i+1))) (n.bK i (n.x i).ticks) w':=by
 obtain⟨l,vc,G⟩:=h.sd i hi;exact Ua (a.C i) (a.S i) w (h.cn i hi).1 _ ((SF own _ (a.S i) l _ _ _ _ vc w G ht).mono fun e w' F=>⟨F.1,h.sdq i hi _ F.2⟩)
theorem Qg(h:bE own w a n vb E)(i:Nat)(hi:i<2):
  Calls prog 57 #[.pointer (some ⟨a.C i,0,none⟩)] w fun e w'=>e=.returned (.slice none 0 0)/\MW own w a vb E (T0 (60*(i+1))) n w':=by
 obtain⟨l,vc,G⟩:=h.sd i hi;refine BU (a.C i) (a.S i) w (h.cn i hi).1 _ ((BR own _ (a.S i) l _ _ _ _ vc w G).mono fun e w' F=>⟨F.1,?_⟩);have:=h.sdq i hi _ F.2;rwa[Av]at this
theorem Mv(h:bE own w a n vb E)(hp:dx a.aH n)(i k:Nat)(hi:i<2)(H:k<8):
  Calls prog 35 #[.pointer (some ⟨a.C i,0,none⟩),.int .i64 k] w fun e w'=>e=.returned (.int .i64 (((n.x i).out k).finish.2:Int))/\MW own w a vb E (T0 (60*(i+1))) (n.bK i ((n.x i).aW k ((n.x i).out k).finish.1)) w':=by
 obtain⟨l,vc,G⟩:=h.sd i hi
 exact(Md own _ (a.C i) (a.S i) l _ _ _ _ vc k H w G (h.cn i hi).1 (hp.loc i hi).why h.er (h.no0 i)).mono fun e w' F=>⟨F.1,h.sdq i hi _ F.2⟩
theorem Ut(h:bE own w a n vb E)(hp:dx a.aH n)(i k:Nat)(hi:i<2)(H:k<8)(data:ByteArray)(hd:data.size<=1000000000):
  Calls prog 34 #[.pointer (some ⟨a.C i,0,none⟩),.int .i64 k,.string data] w fun e w'=>e=.returned (.int .i64 ((((n.x i).out k).send data.data.toList).2:Int))/\MW own w a vb E (T0 (60*(i+1))) (n.bK i ((n.x i).aW k (((n.x i).out k).send data.data.toList).1)) w':=by
 obtain⟨l,vc,G⟩:=h.sd i hi
 exact(Ue own _ (a.C i) (a.S i) l _ _ _ _ vc k H data hd w G (h.cn i hi).1 (hp.loc i hi).why ((hp.bd i hi).o k).b h.er (h.no0 i)).mono fun e w' F=>⟨F.1,h.sdq i hi _ F.2⟩
theorem Uu(h:bE own w a n vb E)(hp:dx a.aH n)(i k:Nat)(hi:i<2)(H:k<8)(most:Int):
  Calls prog 58 #[.pointer (some ⟨a.C i,0,none⟩),.int .i64 k,.int .i64 most] w fun e w'=>e=.returned (.tuple #[sV (((n.x i).inn k).rd most).1,.int .i64 ((((n.x i).inn k).rd most).2.state:Int),.int .i64 0])/\MW own w a vb E (T0 (60*(i+1))) (n.bK i ((n.x i).bP k (((n.x i).inn k).rd most).2)) w':=by
 obtain⟨l,vc,G⟩:=h.sd i hi
 exact(Ug own _ (a.C i) (a.S i) l _ _ _ _ vc k H most w G (h.cn i hi).1 (hp.loc i hi).why ((hp.bd i hi).i k)).mono fun e w' F=>⟨F.1,h.sdq i hi _ F.2⟩
theorem iL(l:List UInt8):(⟨l.toArray⟩:ByteArray).data.toList=l/\(⟨l.toArray⟩:ByteArray).size=l.length:=⟨by simp,by simp[ByteArray.size]⟩
theorem JG(h:bE own w a n vb E)(hp:dx a.aH n)(hb:ni n 0)(i:Nat)(hi:i<2)(y:Nat×List Fr)(F:Eu a.aH (n.x (1-i)) (n.x i) y)(H:a.aH<=400):
  Calls prog 29 #[.pointer (some ⟨a.C i,0,none⟩),sV (aD y.1 y.2)] w fun e w'=>e=.returned (.tuple #[.int .i64 0,.int .i64 (-1)])/\∃G,(n.x i).h_ y.1 y.2 G 0/\MW own w a vb E (T0 (60*(i+1))) (n.bK i G) w':=by
 obtain⟨l,vc,U⟩:=h.sd i hi;have V:=(hb.1 i hi).1;have X:=(hb.1 (1-i) (by omega)).1;have Z:=F.lt;have hsz:=F.sz;obtain⟨I,O⟩:=iL (aD y.1 y.2)
 refine(Ho own _ (a.C i) (a.S i) l _ _ _ _ vc y.1 y.2 ⟨(aD y.1 y.2).toArray⟩ (by rw[O];omega) w U (h.cn i hi).1 h.er h.o0 h.gd (hp.bd i hi) (hp.loc i hi).why (by omega) (by rw[I];exact F.dec) F.nm (by have:=F.ln;omega)
  (Yt (hp.loc i hi) (hp.loc (1-i) (by omega)) (hp.two i hi) (hp.two' i hi) (hp.bd i hi) (hp.bd (1-i) (by omega)) F (by omega) (by omega) H)).mono ?_
 rintro e w' ⟨rfl,G,r,hq⟩;exact⟨rfl,G,r,h.sdq i hi _ hq⟩
theorem EC(h:bE own w a n vb E)(hp:dx a.aH n)(i:Nat)(hi:i<2)(l:List UInt8)(hl:l.length<=1000000)(H:kL false 0 [] l):
  Calls prog 29 #[.pointer (some ⟨a.C i,0,none⟩),sV l] w fun e w'=>e=.returned (.tuple #[.int .i64 7,.int .i64 (-1)])/\MW own w a vb E (T0 (60*(i+1))) n w':=by
 obtain⟨sl,vc,I⟩:=h.sd i hi;obtain⟨F,G⟩:=iL l;refine(xZ own _ (a.C i) (a.S i) sl _ _ _ _ vc ⟨l.toArray⟩ (by rw[G];omega) w I (h.cn i hi).1 h.er h.o0 h.gd (hp.loc i hi).why (by rw[F];exact H)).mono ?_;rintro e w' ⟨rfl,hq⟩;have:=h.sdq i hi _ hq;rw[Av]at this;exact⟨rfl,this⟩
theorem Im(h:bE own w a n vb E)(hp:dx a.aH n)(hb:ni n 0)(i:Nat)(hi:i<2):
  Calls prog 40 #[.pointer (some ⟨a.C i,0,none⟩)] w fun e w'=>∃x,e=.returned x/\∃own' M' pk,(n.x i).mQ M' pk/\bE own' w' a (n.bK i M') vb E/\GT own' 229 9 1 w' x pk.length (pk.map fun y=>sV (aD y.1 y.2))/\Kp (Tq (60*(i+1)) 229) own own' w w':=by
 obtain⟨l,vc,O⟩:=h.sd i hi;have U:=hb.1 i hi;refine(Ik own _ 229 (a.C i) (a.S i) l _ (n.x (1-i)) _ _ _ vc w O (h.cn i hi).1 h.gd (by omega) (hp.loc i hi) (hp.two i hi) (hp.two' i hi) (hp.bd i hi) (by omega) (by omega)).mono ?_;rintro e w' ⟨x,rfl,M',bs,own',l',I,⟨pk,F,rfl⟩,X,Z,G,H⟩;refine⟨x,rfl,own',M',pk,F,h.side H i hi (fun x V=>by rcases yF.1 V with h|h<;>omega) M' ⟨l',I,X⟩,?_,H⟩;unfold Uk at G;rw[Xw,Bu]at G;exact G
end

end
section
section
variable {own:Own} {w:World} {a:Ad} {n:Net} {vb:Value} {E:Nat->Nat->List Value}
theorem bE.cells(h:bE own w a n vb E):w.cell? ⟨a.N,0,none⟩=some (.slice (some ⟨a.xb,0,none⟩) 2 a.xc)/\w.cell? ⟨a.N,1,none⟩=some (.slice (some ⟨a.eb,0,none⟩) 2 a.ec)/\w.cell? ⟨a.N,2,none⟩=some (.slice (some ⟨a.gb,0,none⟩) 2 a.gc)/\w.cell? ⟨a.N,4,none⟩=some (.int .u64 n.now)/\w.cell? ⟨a.N,5,none⟩=some (.int .i64 a.aH)/\w.cell? ⟨a.N,8,none⟩=some vb/\w.cell? ⟨a.N,9,none⟩=some (.slice (some ⟨a.cb,0,none⟩) 2 a.cc):=
 ⟨by rw[h.net.1.cell];rfl,by rw[h.net.1.cell];rfl,by rw[h.net.1.cell];rfl,by rw[h.net.1.cell];rfl,by rw[h.net.1.cell];rfl,by rw[h.net.1.cell];rfl,by rw[h.net.1.cell];rfl⟩
theorem JH(h:bE own w a n vb E)(i:Nat)(hi:i<2):
  Calls prog 30 #[.pointer (some ⟨a.N,0,none⟩),.int .i64 i] w fun e w'=>e=.returned (.bool true)/\MW own w a vb E (T0 (60*(i+1))) n w':=by
 have F:=hid (Qg h i hi);obtain⟨c0,_⟩:=h.cells;have c1:=(h.xs i hi).1;clear h
 have H:(i:Int)<2:=by omega
 go_enter func30,ntmps30
 go_wp2_with (go_at_call 57;refine F.out.mono ?_;rintro e w1 ⟨rfl,hq⟩;have G:=hid hq;clear hq)
 refine wp_loop_rounds 1 ?_;rw[rounds_succ];go_wp2;go_ret;exact⟨rfl,G.out⟩
theorem Qh:Df 46 62 (.agg #[.int .i64 0,.string ⟨#[]⟩]) 2 24:=⟨by kernel_rfl,by kernel_rfl,fun n=>by simp[Builtin.zeroCells,Value.cells],fun n v F=>by
 simp[Builtin.zeroCells,Value.cells]at F;obtain⟨i,_,rfl⟩:=F
 rcases(show i % 2=0\/i % 2=1 by omega)with h|h<;>rw[h]<;>rfl,by omega⟩
theorem ED:∀(l:List (Nat×Nat×List Fr)),(fJ l).length=l.length*2
 |[]=>rfl
 |y::t=>by
  have:=ED t;unfold fJ at this ⊢;rw[tL,Gl,this];simp;omega
theorem Aw:∀(l:List (Nat×Nat×List Fr)) (k:Nat),fJ (l.take k)=(fJ l).take (k*2)
 |[],k=>by simp[fJ]
 |_::_,0=>by simp[fJ]
 |y::t,k+1=>by
  have:=Aw t k;unfold fJ at this ⊢;rw[List.take_succ_cons,tL,tL,this,show(k+1)*2=k*2+2 by omega];rfl
theorem oJ:∀(l:List (Nat×Nat×List Fr)) (k:Nat),fJ (l.drop k)=(fJ l).drop (k*2)
 |[],k=>by simp[fJ]
 |_::_,0=>by simp[fJ]
 |y::t,k+1=>by
  have:=oJ t k;unfold fJ at this ⊢;rw[List.drop_succ_cons,tL,this,show(k+1)*2=k*2+2 by omega];rfl
theorem EF(l m:List (Nat×Nat×List Fr)):fJ (l++m)=fJ l++fJ m:=by unfold fJ;rw[List.flatMap_append]
theorem EG:∀(l:List (Nat×Nat×List Fr)),∀v∈fJ l,v.oneCell'=true
 |[],v,hv=>by cases hv
 |y::t,v,hv=>by
  unfold fJ at hv;rw[tL]at hv
  rcases List.mem_append.1 hv with hv|hv
  ·simp[sV]at hv
   rcases hv with rfl|rfl<;>rfl
  ·exact EG t v hv
def retag(own:Own)(t u:Nat):Own:=fun b=>if own b=t then u else own b
theorem GT.retag{own:Own}{t u:Nat}{e:TypeId}{k:Nat}{w:World}{v:Value}{n:Nat}{l:List Value}(h:GT own t e k w v n l):GT (Sd.retag own t u) u e k w v n l:=by
 rcases h with h|⟨g,cap,cs,h1,F,G⟩
 ·exact .inl h
 ·exact .inr ⟨g,cap,cs,h1,by unfold Sd.retag;rw[if_pos F],G⟩
theorem Kp.retag{own own':Own}{w w':World}{t u:Nat}(K:Kp [t] own own' w w')(F:∀b,b<w.heap.size->own b≠t):Kp [] own (Sd.retag own' t u) w w':=
 ⟨K.os,K.tape,K.output,K.size,fun b hb _=>K.blk b hb (by simp;exact F b hb),fun b hb=>by unfold Sd.retag;rw[K.ext b hb,if_neg (F b hb)]⟩
theorem Uv(h:bE own w a n vb E)(k:Nat)(hk:k<n.bD.length)(hl:n.bD.length<=1000000000):
  Calls prog 67 #[.pointer (some ⟨a.N,0,none⟩),.int .i64 k] w fun e w'=>e=.returned (.tuple #[])/\∃Cn own',bE own' w' a {n with bD:=n.bD.eraseIdx k} Cn E/\Kp [200] own own' w w':=by
 obtain⟨tb,h5,h2⟩:=oH own 300 w.heap.size;obtain⟨_,_,_,_,_,c8,_⟩:=h.cells;have f8:=h.net.1.frozen 8;obtain⟨L,hL⟩:∃L,L=fJ n.bD:=⟨_,rfl⟩;have V:=h.bg;have h3:=ED n.bD;have G:=EG n.bD;rw[<-hL]at V h3 G;have Zx:=V
 rcases V with⟨_,e2,_⟩|⟨g,cap,cs,rfl,ho,hB,hc1,hc2,hc3,hc4,Et,hc6⟩
 ·omega
 have F:∀j u,L[j]?=some u->w.cell? ⟨g,j,none⟩=some u:=fun j u H=>by
  have hj:j<L.length:=(tT.1 H).1;rw[hB.cell,<-H,<-Et,DJ,if_pos (by omega)]
 obtain⟨v1,w1,aF,jm,I,K1⟩:=bU Qh (own:=own) (g:=tb) (w:=w) (v:=.slice none 0 0) (n:=0) (l:=[]) (.inl ⟨rfl,rfl,rfl⟩) ⟨g,0,none⟩ k cap (L.take (k*2)) (by rw[wz];omega) (fun v hv=>G v (List.mem_of_mem_take hv)) (fun j u H=>by
  rw[Addr.add_lit,Si];have hj:j<(L.take (k*2)).length:=(tT.1 H).1;rw[wz]at hj;rw[DJ,if_pos (by omega)]at H
  exact F j u H) (by omega)
 rw[Si,List.nil_append]at I
 have h4:own g∉[tb]:=by rw[ho];simp;omega
 have h0:=h.kp K1 (by simp;omega);obtain⟨_,_,_,_,_,d8,_⟩:=h0.cells
 obtain⟨A2,hA2,hA3⟩:∃A2:Addr,(if cap=k+1 then some ⟨g,0,none⟩else some ⟨g,(k+1)*2,none⟩)=some A2/\(cap≠k+1->A2=⟨g,(k+1)*2,none⟩):=by
  by_cases e:cap=k+1
  ·exact⟨⟨g,0,none⟩,if_pos e,fun h=>absurd e h⟩
  ·exact⟨⟨g,(k+1)*2,none⟩,if_neg e,fun _=>rfl⟩
 obtain⟨v2,w2,aL,tQ,U,K2⟩:=bU Qh I A2 (n.bD.length-(k+1)) (cap-(k+1)) (L.drop ((k+1)*2)) (by rw[Kt];omega) (fun v hv=>G v (List.mem_of_mem_drop hv)) (fun j u H=>by
  have hj:j<(L.drop ((k+1)*2)).length:=(tT.1 H).1;rw[Kt]at hj;rw[hA3 (by omega),Addr.add_lit];rw[CK]at H
  exact cell_of (F _ u H) (K1.blk g hB.lt h4)) (by omega)
 rw[<-hA2]at tQ;have Zy:=fV I;obtain⟨a1,c1,rfl⟩:=Zy;obtain⟨a2,c2,rfl⟩:=fV U;have K:=K1.trans K2;have K3:=K.retag (u:=204) (fun b hb=>Nat.ne_of_lt (h2 b hb));have X:=h.kp K3 (by simp);have Z:=U.retag (u:=204)
 have O:bE (retag aL tb 204) (w2.setCell ⟨a.N,8,none⟩ (.slice a2 (k+(n.bD.length-(k+1))) c2)) a {n with bD:=n.bD.eraseIdx k} (.slice a2 (k+(n.bD.length-(k+1))) c2) E:=by
  refine X.Qf (n.bD.eraseIdx k) ?_
  have e1:fJ (n.bD.eraseIdx k)=L.take (k*2)++L.drop ((k+1)*2):=by
   rw[List.eraseIdx_eq_take_drop_succ,EF,Aw,oJ,hL]
  have e2:(n.bD.eraseIdx k).length=k+(n.bD.length-(k+1)):=by rw[M4,if_pos hk];omega
  rw[e1,e2];exact Z
 have HF:Hid (∃Cn own',bE own' (w2.setCell ⟨a.N,8,none⟩ (.slice a2 (k+(n.bD.length-(k+1))) c2)) a {n with bD:=n.bD.eraseIdx k} Cn E/\Kp [200] own own' w (w2.setCell ⟨a.N,8,none⟩ (.slice a2 (k+(n.bD.length-(k+1))) c2))):=
  ⟨_,_,O,(K3.mono (by simp)).trans (Kp.set _ _ _ _ _ (by rw[X.net.2];simp))⟩
 have f82:=X.net.1.frozen 8;obtain⟨_,_,_,_,_,e8,_⟩:=X.cells;clear hA2 hA3 O X Z K3 K U K2 h0 I K1 F hB hc1 hc4 Et hc6 Zx G h3 hL h h2 h5;generalize n.bD.length=m at *;generalize n.bD.eraseIdx k=B2 at *
 have h6:(k:Int)<=(cap:Int):=by omega
 have h7:(k:Int)+1<=(m:Int):=by omega
 go_enter func67,ntmps67
 go_wp2_with (first
  |(at_builtin;refine Lib.wpList_append_run _ rfl _ _ _ _ rfl _ _ rfl rfl _ _ (jm _) ?_;clear jm;(try have jm:=tQ);(try clear tQ))
  |go_in)
 all_goals(go_end0;exact⟨rfl,HF.out⟩)
end

end
section
def TN:List Nat:=List.range' 60 170
theorem iM{x:Nat}:x∈TN↔60<=x/\x<230:=by
 unfold TN;rw[List.mem_range'];constructor
 ·rintro⟨i,hi,rfl⟩;omega
 ·exact fun h=>⟨x-60,by omega,by omega⟩
def mU(own:Own)(w:World)(a:Ad)(n:Net)(w':World):Prop:=∃own' vb,bE own' w' a n vb (ends n)/\Kp TN own own' w w'
theorem b_(w:World)(q:Nat):Below w.heap.size w (w.drewN q):=⟨rfl,rfl,rfl,mR _,fun _ _=>rfl⟩
structure RdK (o:Ot) (i:bI) (most:Nat):Prop where
 l1:(i.rd most).1.length<=most
 l2:i.read+(i.rd most).1.length<=o.bytes.length
 tx:(o.bytes.drop i.read).take (i.rd most).1.length=(i.rd most).1
 s0:i.state≠0->(i.rd most).1=[]/\(i.rd most).2.state=i.state
 nx:(i.rd most).2.read=i.read+(i.rd most).1.length
 st:(i.rd most).2.state=0\/(i.rd most).2.state=1/\o.fin=true/\(i.rd most).2.read=o.bytes.length
theorem Qi{o:Ot}{i:bI}(h:yL o i)(most:Nat):RdK o i most:=by
 obtain⟨F,_,_,I,V⟩:=Va h most
 have hl:(i.rd most).1.length<=most:=by
  show(i.held.take (min i.ready (max (most:Int) 0).toNat)).length<=most;rw[wz];omega
 have U:i.read+(i.rd most).1.length<=o.bytes.length:=by rw[<-I];exact F.rd
 refine⟨hl,U,V.symm,fun H=>?_,I,?_⟩
 ·rcases h.st with e|⟨e,_,G⟩
  ·exact absurd e H
  ·refine⟨List.length_eq_zero_iff.1 (by omega),?_⟩;show(if i.state=0 then _ else i.state)=i.state;rw[if_neg H]
 ·rcases F.st with e|⟨e,O,G⟩
  ·exact .inl e
  ·exact .inr ⟨e,(F.ended O).1,G⟩
theorem Xe(N xb xc eb ec el EB e C i k j most:Nat)(hi:i<2)(_hj:j<2)(hk:k<8)(h4:(1:Int)-(i:Int)=(j:Int))(D H:ByteArray)(fin:Bool)(r st0 st m lb:Nat)(hm:most<=1000000)(w:World)(R JI:World->Prop)(c0:w.cell? ⟨N,0,none⟩=some (.slice (some ⟨xb,0,none⟩) 2 xc))(c1:w.cell? ⟨N,1,none⟩=some (.slice (some ⟨eb,0,none⟩) 2 ec))(x1:w.cell? ⟨xb,i,none⟩=some (.pointer (some ⟨C,0,none⟩)))(e1:w.cell? ⟨eb,j,none⟩=some (.slice (some ⟨el,0,none⟩) 8 EB))(e2:w.cell? ⟨el,k,none⟩=some (.pointer (some ⟨e,0,none⟩)))(HC:Calls prog 58 #[.pointer (some ⟨C,0,none⟩),.int .i64 k,.int .i64 most] w fun x w1=>x=.returned (.tuple #[.string D,.int .i64 st,.int .i64 0])/\R w1)(hR:∀w1,R w1->ak w1 e 80 [.string H,.bool fin,.bool false,.int .i64 0,.int .i64 r,.int .i64 st0])(hF:∀w1 q X,R w1->JI ((((w1.drewN q).setCell ⟨e,4,none⟩ (.int .i64 ((r+m:Nat):Int))).setCell ⟨e,5,none⟩ (.int .i64 st)).drewN X))(hD:D.size=m)(hB:H.size=lb)(h2:m<=most)(h3:r+m<=lb)(h5:lb<=2048)(V:H.extract r (r+m)=D)(Hr:st0=0\/st0=1/\st=1/\D=⟨#[]⟩)(U:st=0\/st=1/\fin=true/\r+m=lb):
  Calls prog 31 #[.pointer (some ⟨N,0,none⟩),.int .i64 i,.int .i64 k,.int .i64 most] w fun e w'=>e=.returned (.bool true)/\JI w':=by
 have Jj:=hid HC;have HR:=hid hR;have Z:=hid hF;clear HC hR hF;have O:=hid U;clear U;go_enter func31,ntmps31
 go_wp2_with (go_at_call 58;refine Jj.out.mono ?_;rintro ee w1 ⟨rfl,G⟩;have F:=HR.out w1 G)
 have HW:=hid G;have f0:=F.cell 0;have f1:=F.cell 1;have f2:=F.cell 2;have f4:=F.cell 4;have f5:=F.cell 5;have z4:=F.frozen 4;have z5:=F.frozen 5;simp only[List.getElem?_cons_zero,List.getElem?_cons_succ]at f0 f1 f2 f4 f5;clear G F
 have g1:¬((most:Int)<(m:Int)):=by omega
 have g2:¬((lb:Int)-(r:Int)<(m:Int)):=by omega
 have g3:(0:Int)<=(r:Int):=by omega
 have g4:(r:Int)<=(r:Int)+(m:Int):=by omega
 have g5:(r:Int)+(m:Int)<=(lb:Int):=by omega
 rcases Hr with rfl|⟨rfl,rfl,rfl⟩
 ·go_quiet (fail)
  rcases O.out with rfl|⟨rfl,rfl,hr⟩
  ·have I:=hid (Z.out w1 nq 0 HW.out);go_wp2;go_ret;exact⟨rfl,I.out⟩
  ·subst hr;go_wp2;have I:=hid (fun X=>Z.out w1 nq X HW.out)
   go_quiet (fail)
   go_wp2;go_ret;exact⟨rfl,I.out nq⟩
 ·rcases O.out with h0|⟨_,rfl,hr⟩
  ·cases h0
  ·have h0:m=0:=hD.symm;subst h0;subst hr;clear g1 g2 g3 g4 g5
   have g1:¬((most:Int)<0):=by omega
   have g2:¬((r:Int)-(r:Int)<0):=by omega
   have g3:(0:Int)<=(r:Int):=by omega
   have g4:(r:Int)<=(r:Int):=by omega
   have g5:H.extract r r=⟨#[]⟩:=V;have g6:H.size=r:=hB;clear hB hD h3 h2 V
   go_quiet (fail)
   go_wp2;have I:=hid (fun X=>Z.out w1 nq X HW.out)
   go_quiet (fail)
   go_wp2;go_ret;exact⟨rfl,I.out nq⟩
section
variable {own:Own} {w:World} {a:Ad} {n:Net} {vb:Value} {E:Nat->Nat->List Value}
theorem bE.JJ(h:bE own w a n vb E)(i k:Nat)(hi:i<2)(F:k<8):w.cell? ⟨a.eb,i,none⟩=some (.slice (some ⟨a.el i,0,none⟩) 8 (a.EB i))/\w.cell? ⟨a.el i,k,none⟩=some (.pointer (some ⟨a.e i k,0,none⟩))/\∀j,w.cell? ⟨a.e i k,j,none⟩=(E i k)[j]?:=
 ⟨(h.es i hi).1,(h.el i k hi F).1,fun j=>(h.en i k hi F).1.cell j⟩
theorem JK(h:bE own w a n vb (ends n))(hp:dx a.aH n)(i k most:Nat)(hi:i<2)(F:k<8)(hm:most<=1000000):
  Calls prog 31 #[.pointer (some ⟨a.N,0,none⟩),.int .i64 i,.int .i64 k,.int .i64 most] w fun e w'=>e=.returned (.bool true)/\mU own w a (n.bK i ((n.x i).bP k (((n.x i).inn k).rd most).2)) w':=by
 have K:=Qi ((hp.two' i hi).rd k) most;obtain⟨c0,c1,_⟩:=h.cells;obtain⟨e1,O,_⟩:=h.JJ (1-i) k (by omega) F;have H:((n.x (1-i)).out k).bytes.length<=2048:=((hp.bd (1-i) (by omega)).o k).b
 have Z:ends n (1-i) k=Il ((n.x (1-i)).out k) ((n.x i).inn k):=by unfold ends;rw[show 1-(1-i)=i by omega]
 have Uo:k<(n.x i).ins.length:=by rw[(hp.loc i hi).li];exact F
 refine Xe a.N a.xb a.xc a.eb a.ec (a.el (1-i)) (a.EB (1-i)) (a.e (1-i) k) (a.C i) i k (1-i) most hi (by omega) F (by omega) ⟨(((n.x i).inn k).rd most).1.toArray⟩ ⟨((n.x (1-i)).out k).bytes.toArray⟩ ((n.x (1-i)).out k).fin ((n.x i).inn k).read ((n.x i).inn k).state (((n.x i).inn k).rd most).2.state (((n.x i).inn k).rd most).1.length ((n.x (1-i)).out k).bytes.length hm w
  (fun w1=>MW own w a vb (ends n) (T0 (60*(i+1))) (n.bK i ((n.x i).bP k (((n.x i).inn k).rd most).2)) w1) (mU own w a (n.bK i ((n.x i).bP k (((n.x i).inn k).rd most).2))) c0 c1 (h.xs i hi).1 e1 O (Uu h hp i k hi F most) ?_ ?_ (iL _).2 (iL _).2 K.l1 K.l2 H ?_ ?_ ?_
 ·rintro w1 ⟨o1,h1,_⟩;have:=(h1.en (1-i) k (by omega) F).1;rw[Z]at this;exact this
 ·rintro w1 q I ⟨o1,h1,h2⟩;have g1:bE o1 (w1.drewN q) a _ vb (ends n):=h1.below ⟨rfl,rfl,rfl,mR _,fun _ _=>rfl⟩;have g2:=(g1.Ur (1-i) k (by omega) F 4 (.int .i64 ((((n.x i).inn k).read+(((n.x i).inn k).rd most).1.length:Nat):Int))).Ur (1-i) k (by omega) F 5 (.int .i64 ((((n.x i).inn k).rd most).2.state:Int));have g3:=g2.below (b_ _ I);have ho:=(h1.en (1-i) k (by omega) F).2;refine⟨o1,vb,g3.Co fun V k' h3 h4=>?_,?_⟩
  ·by_cases e:V=1-i/\k'=k
   ·obtain⟨rfl,rfl⟩:=e;simp only[and_self,if_true];rw[Z];unfold ends;rw[show 1-(1-i)=i by omega,bT,dV _ _ _ _ (by omega),fM,if_pos ⟨rfl,Uo⟩,<-K.nx];rfl
   ·rw[if_neg e,if_neg e];unfold ends
    by_cases O:V=i
    ·subst O;rw[bT,dV _ _ _ _ (by omega)];rfl
    ·have e3:V=1-i:=by omega
     subst e3;rw[show 1-(1-i)=i by omega,bT,dV _ _ _ _ (by omega),fM,if_neg (fun x=>e ⟨rfl,x.1⟩)]
  ·have K2:Kp TN o1 o1 w1 (w1.drewN q):=Kp.below ⟨rfl,rfl,rfl,mR _,fun _ _=>rfl⟩;have hT:210+8*(1-i)+k∈TN:=iM.2 (by omega);exact(h2.mono fun x hx=>iM.2 (by have:=bG.1 hx;omega)).trans (K2.trans ((Kp.set o1 _ _ _ TN (by rw[ho];exact hT)).trans ((Kp.set o1 _ _ _ TN (by rw[ho];exact hT)).trans (Kp.below ⟨rfl,rfl,rfl,mR _,fun _ _=>rfl⟩))))
 ·have t:=K.tx;apply ByteArray.ext;rw[uj];apply Array.ext';rw[<-t];simp
 ·by_cases U:((n.x i).inn k).state=0
  ·exact .inl U
  ·obtain⟨X,I⟩:=K.s0 U;have G:=K.st;rw[X,I]at *
   rcases G with G|G
   ·exact absurd G U
   ·exact .inr ⟨G.1,G.1,rfl⟩
 ·rcases K.st with q|⟨X,I,G⟩
  ·exact .inl q
  ·exact .inr ⟨X,I,by rw[<-K.nx];exact G⟩
end

end
section
def Rp(B:Nat)(w:World)(F:Option Addr)(fs:List Fr):Prop:=∀j,j<fs.length->∃b off,F=some ⟨b,off,none⟩/\B<=b/\w.cell? ⟨b,off+j*10,none⟩=some (.int .i64 (fs.getD j dW).kind)
theorem Rp.below{B:Nat}{w w':World}{G:Option Addr}{fs:List Fr}(h:Rp B w G fs)(hb:Below w.heap.size w w'):Rp B w' G fs:=fun j H=>by
 obtain⟨b,off,e,h1,F⟩:=h j H;exact⟨b,off,e,h1,cell_of F (hb.block _ (World.block_lt_of_cell? w ⟨b,_,none⟩ (by rw[F])))⟩
theorem Rp.set{B:Nat}{w:World}{F:Option Addr}{fs:List Fr}(h:Rp B w F fs)(x:Addr)(v:Value)(I:x.block<B):Rp B (w.setCell x v) F fs:=fun j H=>by
 obtain⟨b,off,e,h1,G⟩:=h j H;exact⟨b,off,e,h1,cell_of G (Below.heap_setCell _ _ _ _ (by show b≠x.block;omega))⟩
theorem Mw(y:Nat×List Fr)(D:ByteArray)(g cap:Nat)(w:World)(hd:kL true y.1 y.2 D.data.toList)(hn:y.2.map norm=y.2)(hb:BytesAt w (some ⟨g,0,none⟩) D.data.toList)(hl:D.size<=1000000)(h0:0<D.size)(hg:g<w.heap.size)(hT:TabAt w)(hE:dP w)(X:2<=w.heap.size):
  Calls prog 24 #[.slice (some ⟨g,0,none⟩) D.size cap] w fun e w'=>∃F U,e=.returned (.tuple #[.agg #[.int .u64 y.1,.slice F y.2.length U],.int .i64 0,.int .i64 (-1)])/\Below w.heap.size w w'/\Rp w.heap.size w' F y.2:=by
 have V:D.data.toList.length=D.size:=by simp
 have:=vF true y.1 y.2 g 0 cap D.data.toList w hd hb (by omega) (by omega) hg hT hE X 0 rfl;rw[V]at this;refine this.mono ?_;rintro e w' ⟨s,err,rfl,H,hb⟩;unfold jV at H;rw[if_pos rfl]at H;obtain⟨_,v9,G⟩:=H;rw[hn]at G;unfold kL at hd;rw[if_pos rfl]at hd;obtain⟨F,U,O,hF⟩:=G.II (fun j I=>(hd.2.1 j I).2);subst O;have hO:=G.own;refine⟨F,U,rfl,hb,fun j I=>?_⟩;obtain⟨b,off,e,Z⟩:=hF.weak j I;subst e;exact⟨b,off,rfl,hO b rfl,Z.c0⟩
def nj(n:Net)(i:Nat)(Y:List (Nat×List Fr))(j c:Nat):Net:={n with bD:=n.bD++(Y.take j).map (fun y=>(1-i,y)),cnt:=fun t=>if t=i then n.cnt i+c else n.cnt t}
structure EH (aI:Own) (w0:World) (a:Ad) (n:Net) (E:Nat->Nat->List Value) (i:Nat) (Y:List (Nat×List Fr)) (x:Value) (j c:Nat) (own:Own) (w:World):Prop where
 nt:∃vb,bE own w a (nj n i Y j c) vb E
 st:GT own 229 9 1 w x Y.length (Y.map fun y=>sV (aD y.1 y.2))
 kp:Kp TN aI own w0 w
section
variable {aI own:Own} {w0 w w':World} {a:Ad} {n:Net} {E:Nat->Nat->List Value} {i j c:Nat} {Y:List (Nat×List Fr)} {x:Value}
theorem EH.below(h:EH aI w0 a n E i Y x j c own w)(hb:Below w.heap.size w w'):EH aI w0 a n E i Y x j c own w':=by
 obtain⟨vb,h1⟩:=h.nt;exact⟨⟨vb,h1.below hb⟩,h.st.kp (Kp.below (T:=[]) hb) (by simp),h.kp.trans (Kp.below hb)⟩
theorem EH.count(h:EH aI w0 a n E i Y x j c own w)(hi:i<2):EH aI w0 a n E i Y x j (c+1) own (w.setCell ⟨a.cb,i,none⟩ (.int .u64 ((n.cnt i+c+1:Nat):Int))):=by
 obtain⟨vb,h1⟩:=h.nt;have g:=h1.Yw i hi (n.cnt i+c+1);have K:Kp [203] own own w (w.setCell ⟨a.cb,i,none⟩ (.int .u64 ((n.cnt i+c+1:Nat):Int))):=Kp.set own w _ _ _ (by rw[h1.ct.2];simp);refine⟨⟨vb,?_⟩,h.st.kp K (by simp),h.kp.trans (K.mono fun x F=>iM.2 (by simp at F;omega))⟩
 have e:(fun t=>if t=i then n.cnt i+c+1 else(nj n i Y j c).cnt t)=(nj n i Y j (c+1)).cnt:=funext fun t=>by
  show _=if t=i then n.cnt i+(c+1)else n.cnt t
  by_cases e:t=i
  ·rw[if_pos e,if_pos e];omega
  ·rw[if_neg e,if_neg e];exact if_neg e
 rw[e]at g;exact g
theorem EH.push(h:EH aI w0 a n E i Y x j c own w)(hj:j<Y.length)(hl:n.bD.length+Y.length<=100000000000):
  ∃O n0 c0 H n2 c2 F G,w.cell? ⟨a.N,8,none⟩=some (.slice O n0 c0)/\(∀ty,(Builtin.append_ #[46,46] ty #[.slice O n0 c0,.slice (some ⟨w.heap.size,0,none⟩) 1 1]).run prog (w.alloc (.cells #[.int .i64 ((1-i:Nat):Int),sV (aD (Y.getD j (0,[])).1 (Y.getD j (0,[])).2)] 62))=.ok (.slice H n2 c2) F)/\
   (∃v,F.cell? ⟨a.N,8,none⟩=some v)/\F.frozen? ⟨a.N,8,none⟩=false/\EH aI w0 a n E i Y x (j+1) c G (F.setCell ⟨a.N,8,none⟩ (.slice H n2 c2)):=by
 obtain⟨vb,h1⟩:=h.nt;obtain⟨V,Z⟩:∃V,V=[Value.int .i64 ((1-i:Nat):Int),sV (aD (Y.getD j (0,[])).1 (Y.getD j (0,[])).2)]:=⟨_,rfl⟩;have B5:ak (w.alloc (.cells V.toArray 62)) w.heap.size 62 V:=ak.new w 62 V;have U:Below w.heap.size w (w.alloc (.cells V.toArray 62)):=(Below.refl _ w).alloc (mR _) _;have X:=h1.below U;obtain⟨O,c0,rfl⟩:=fV h1.bg
 obtain⟨v6,F,G,run,hG,K6⟩:=bU Qh X.bg ⟨w.heap.size,0,none⟩ 1 1 V (by rw[Z];rfl) (fun z hz=>by
  rw[Z]at hz;simp[sV]at hz
  rcases hz with rfl|rfl<;>rfl) (fun t y hy=>by
  have e:(⟨w.heap.size,0,none⟩:Addr).add t=⟨w.heap.size,t,none⟩:=by rw[Addr.add_lit,Si]
  rw[e,B5.cell,hy]) (by unfold nj;rw[Gl,Bu,wz];omega)
 obtain⟨H,c2,rfl⟩:=fV hG;obtain⟨_,_,_,_,_,c8,_⟩:=h1.cells;have Uw:ak F a.N 48 (Uq a (nj n i Y j c).now (.slice O (nj n i Y j c).bD.length c0)):=X.yG K6 (by simp)
 have h3:G a.N=200:=by rw[K6.ext _ X.net.1.lt];exact X.net.2
 have K7:Kp [200] G G F (F.setCell ⟨a.N,8,none⟩ (.slice H ((nj n i Y j c).bD.length+1) c2)):=Kp.set G F _ _ _ (by rw[h3];simp);have I:Kp [204,200] own G w (F.setCell ⟨a.N,8,none⟩ (.slice H ((nj n i Y j c).bD.length+1) c2)):=(Kp.below U).trans ((K6.mono (by simp)).trans (K7.mono (by simp)))
 have eb:(nj n i Y (j+1) c).bD=(nj n i Y j c).bD++[(1-i,Y.getD j (0,[]))]:=by
  unfold nj;simp only;rw[List.take_add_one,jK hj,List.map_append,nI,jK hj,List.append_assoc];rfl
 have d8:F.cell? ⟨a.N,8,none⟩=some (.slice O (nj n i Y j c).bD.length c0):=by rw[Uw.cell];rfl
 refine⟨O,_,c0,H,_,c2,F,G,c8,fun ty=>by have:=run ty;rw[Z]at this;exact this,⟨_,d8⟩,Uw.frozen 8,⟨.slice H ((nj n i Y j c).bD.length+1) c2,?_⟩,h.st.kp I (by simp),h.kp.trans (I.mono fun x hx=>iM.2 (by simp at hx;omega))⟩;refine h1.turn I (by simp) (by simp) (Uw.setCell 8 _) (fun i' k' h0 h2=>h1.yH I i' k' h0 h2 (by simp;omega)) (h1.Au I (by simp)) ?_ (fun i hi=>h1.yI I i hi fun x hx=>.inr (by simp at hx;omega));rw[eb,EF,Gl];have:=hG.kp K7 (by simp);rw[Z]at this;exact this
end

end
theorem ni.less{n:Net}{B:Nat}(h:ni n (B+1)):ni n B:=⟨fun i hi=>by have:=h.1 i hi;omega,by have:=h.2;omega⟩
theorem ni.to{n:Net}{B:Nat}(h:ni n B):ni n 0:=⟨fun i hi=>by have:=h.1 i hi;omega,by have:=h.2;omega⟩
theorem ni.bK{n:Net}{B:Nat}(h:ni n B)(i:Nat){M:Side}(h1:M.next=(n.x i).next)(G:M.tick=(n.x i).tick):ni (n.bK i M) B:=⟨fun j F=>by
 by_cases e:j=i
 ·rw[e,bT,h1,G];rw[e]at F;exact h.1 i F
 ·rw[dV _ _ _ _ e];exact h.1 j F,h.2⟩
theorem gQ{aH:Nat}{n:Net}(h:dx aH n)(i:Nat)(hi:i<2)(M:Side)(s:Stp (n.x i) (n.x (1-i)) M)(b:Bd M)(m:M.aH=(n.x i).aH)(F:M.next=(n.x i).next):dx aH (n.bK i M):=
 h.set i hi M s b m n.cnt fun j G=>by
  split
  ·rename_i e;rw[e,F];exact h.ct i hi
  ·rfl
def Ay(pk:List (Nat×List Fr)):List (Nat×List Fr):=pk.map fun y=>(y.1,y.2.map norm)
def Net.JM(n:Net)(i:Nat)(M:Side)(pk:List (Nat×List Fr)):Net:=
 {n.bK i M with bD:=n.bD++(Ay pk).map (fun y=>(1-i,y)),cnt:=fun t=>if t=i then M.next else n.cnt t}
theorem Qj{aH:Nat}{n:Net}(hp:dx aH n)(i:Nat)(hi:i<2){M:Side}{pk:List (Nat×List Fr)}(o:Rn (n.x i) (n.x (1-i)) M pk):dx aH (n.JM i M pk):=by
 have g:=hp.set i hi M o.SI o.bd o.mt (fun t=>if t=i then M.next else n.cnt t) (fun j _=>rfl);refine g.add _ (fun y I=>?_);obtain⟨z,hz,rfl⟩:=ZE.1 I;obtain⟨x,H,rfl⟩:=ZE.1 hz;obtain⟨f,lt,fr⟩:=o.ok x H;refine⟨by show 1-i<2;omega,?_⟩
 have F:(n.bK i M).x (1-(1-i))=M:=by rw[show 1-(1-i)=i by omega];exact bT n i M
 have G:(n.bK i M).x (1-i)=n.x (1-i):=dV _ _ _ _ (by omega);show Eu aH ((n.bK i M).x (1-(1-i))) ((n.bK i M).x (1-i)) (x.1,x.2.map norm);rw[F,G];rw[hp.mt i hi]at f;exact(Cm f lt fr).1
theorem Ql{n:Net}{B:Nat}(h:ni n (B+1))(i:Nat){M:Side}{pk:List (Nat×List Fr)}{A:Side}(o:Rn (n.x i) A M pk)(t:M.tick=(n.x i).tick):ni (n.JM i M pk) B:=⟨fun j F=>by
 show((n.bK i M).x j).next+_<_/\((n.bK i M).x j).tick+B<_
 by_cases e:j=i
 ·rw[e,bT,t];rw[e]at F;have:=h.1 i F;have:=o.top;omega
 ·rw[dV _ _ _ _ e];have:=h.1 j F
  omega,by have:=h.2;show n.now+B<_;omega⟩
structure FlY (aH c0:Nat) (j:Nat) (y:Nat×List Fr):Prop where
 dec:kL true y.1 y.2 (aD y.1 y.2)
 nm:y.2.map norm=y.2
 sz:(aD y.1 y.2).length<=aH
 ps:0<(aD y.1 y.2).length
 no:y.1=c0+j
 ne:0<y.2.length
 ln:y.2.length<=400
 kd:∀f∈y.2,f.kind=2\/f.kind=4\/f.kind=5\/f.kind=6
theorem Xf{aH:Nat}{A B M:Side}{pk:List (Nat×List Fr)}(o:Rn A B M pk)(O:A.aH=aH)(j:Nat)(I:j<(Ay pk).length):FlY aH A.next j ((Ay pk).getD j (0,[])):=by
 have F:j<pk.length:=by simpa[Ay]using I
 have G:pk.getD j (0,[])=pk[j]:=by rw[nI,jK F];rfl
 have e:(Ay pk).getD j (0,[])=((pk[j]).1,(pk[j]).2.map norm):=by
  unfold Ay;rw[nI,List.getElem?_map,jK F];rfl
 obtain⟨f,lt,fr⟩:=o.ok _ (List.getElem_mem F);have n:=o.nm j F;rw[G]at n;rw[O]at f;obtain⟨b,_⟩:=Cm f lt fr;rw[e];exact⟨b.dec,b.nm,b.sz,b.ps,n,by show 0<((pk[j]).2.map norm).length;rw[Bu];exact List.length_pos_iff.2 f.ne,b.ln,fun g H=>(b.fr g H).kd⟩
theorem Mx{A B M:Side}{pk:List (Nat×List Fr)}(o:Rn A B M pk):(Ay pk).map (fun y=>sV (aD y.1 y.2))=pk.map fun y=>sV (aD y.1 y.2):=by
 unfold Ay;rw[Xw]
 refine List.map_congr_left fun x F=>?_
 obtain⟨f,lt,fr⟩:=o.ok x F;show sV (aD x.1 (x.2.map norm))=_;rw[(Cm f lt fr).2]
theorem Xg{aH:Nat}{n:Net}(hp:dx aH n)(i:Nat)(hi:i<2){M:Side}{pk:List (Nat×List Fr)}(o:Rn (n.x i) (n.x (1-i)) M pk):nj (n.bK i M) i (Ay pk) (Ay pk).length (Ay pk).length=n.JM i M pk:=by
 have e:(fun t=>if t=i then(n.bK i M).cnt i+(Ay pk).length else(n.bK i M).cnt t)=fun t=>if t=i then M.next else n.cnt t:=funext fun t=>by
  split
  ·show n.cnt i+_=_;rw[hp.ct i hi,o.next];unfold Ay;rw[Bu]
  ·rfl
 unfold nj Net.JM;rw[e,List.take_length];rfl
theorem oK{n:Net}{i:Nat}{M:Side}(s:Sm (n.x i) M)(j k:Nat):ends n j k=ends (n.bK i M) j k:=by
 have h1:((n.bK i M).x j).out k={(((n.bK i M).x j).out k)with}:=rfl;unfold ends Il
 have a:(((n.bK i M).x j).out k).bytes=((n.x j).out k).bytes/\(((n.bK i M).x j).out k).fin=((n.x j).out k).fin:=by
  by_cases e:j=i
  ·rw[e,bT];exact s.o k
  ·rw[dV _ _ _ _ e];exact⟨rfl,rfl⟩
 have b:(((n.bK i M).x (1-j)).inn k).read=((n.x (1-j)).inn k).read/\(((n.bK i M).x (1-j)).inn k).state=((n.x (1-j)).inn k).state:=by
  by_cases e:1-j=i
  ·rw[e,bT];exact s.i k
  ·rw[dV _ _ _ _ e];exact⟨rfl,rfl⟩
 rw[a.1,a.2,b.1,b.2]
section
theorem mU.iN{own:Own}{w w':World}{a:Ad}{n:Net}(h:mU (loc own w.heap.size) w a n w'):mU own w a n w':=by
 obtain⟨o,vb,h1,F⟩:=h;exact⟨o,vb,h1,F.iN⟩
theorem bE.loc{own:Own}{w:World}{a:Ad}{n:Net}{vb:Value}{E:Nat->Nat->List Value}(h:bE own w a n vb E):bE (Sd.loc own w.heap.size) w a n vb E:=
 h.kp (T:=[]) ⟨rfl,rfl,rfl,mR _,fun _ _ _=>rfl,fun b hb=>fH own _ b hb⟩ (by simp)
structure jI (aI:Own) (w0:World) (a:Ad) (L:List (Nat×TypeId×List Value)) (n:Net) (w:World):Prop where
 ex:∃o vb,bE o w a n vb (ends n)/\Kp TN aI o w0 w/\(∀x∈L,ak w x.1 x.2.1 x.2.2/\o x.1=0)/\(∀b,w.heap.size<=b->o b=0)
section
variable {aI:Own} {w0 w w':World} {a:Ad} {L:List (Nat×TypeId×List Value)} {n:Net}
theorem jI.ntf(h:jI aI w0 a L n w):mU aI w0 a n w:=by
 obtain⟨o,vb,h1,F,_⟩:=h.ex;exact⟨o,vb,h1,F⟩
theorem VF:0∉TN:=fun e=>by have:=iM.1 e;omega
theorem jI.go{n':Net}{o o':Own}{G:Value}(O:Kp TN aI o w0 w)(U:∀x∈L,ak w x.1 x.2.1 x.2.2/\o x.1=0)(I:bE o' w' a n' G (ends n'))(F:Kp TN o o' w w'):jI aI w0 a L n' w':=by
 have K:Kp [] o' (Sd.loc o' w'.heap.size) w' w':=⟨rfl,rfl,rfl,mR _,fun _ _ _=>rfl,fun b hb=>fH o' _ b hb⟩;refine⟨_,G,I.loc,O.trans (F.trans (K.mono (by simp))),fun x V=>?_,fun b hb=>eT _ _ _ hb⟩;obtain⟨p,q⟩:=U x V;have H:=aK p F (by rw[q];exact VF);exact⟨H,by rw[fH _ _ _ H.lt,F.ext _ p.lt];exact q⟩
theorem jI.below(h:jI aI w0 a L n w)(hb:Below w.heap.size w w'):jI aI w0 a L n w':=by
 obtain⟨o,vb,h1,F,G,_⟩:=h.ex;exact jI.go F G (h1.below hb) (Kp.below hb)
theorem jI.alloc(h:jI aI w0 a L n w)(t:TypeId)(l:List Value):jI aI w0 a ((w.heap.size,t,l)::L) n (w.alloc (.cells l.toArray t)):=by
 obtain⟨o,vb,h1,O,H,I⟩:=h.ex;have hb:Below w.heap.size w (w.alloc (.cells l.toArray t)):=(Below.refl _ w).alloc (mR _) _;have K:Kp [] o o w (w.alloc (.cells l.toArray t)):=Kp.below hb;refine⟨o,vb,h1.below hb,O.trans (Kp.below hb),fun x F=>?_,fun b G=>I b (Nat.le_trans hb.size G)⟩
 rcases List.mem_cons.1 F with rfl|F
 ·exact⟨ak.new w t l,I _ (mR _)⟩
 ·exact⟨aK (H x F).1 K (by simp),(H x F).2⟩
theorem uy{own:Own}{vb:Value}(h:bE own w a n vb (ends n)):jI (Sd.loc own w.heap.size) w a [] n w:=
 ⟨_,vb,h.loc,Kp.refl _ _ _,fun x F=>(by cases F),fun b hb=>eT _ _ _ hb⟩
theorem jI.cell(h:jI aI w0 a L n w){b:Nat}{t:TypeId}{l:List Value}(G:(b,t,l)∈L)(j:Nat):w.cell? ⟨b,j,none⟩=l[j]?:=by
 obtain⟨o,vb,h1,H,F,I⟩:=h.ex;exact(F _ G).1.cell j
theorem jI.xc(h:jI aI w0 a L n w)(i:Nat)(hi:i<2):w.cell? ⟨a.N,0,none⟩=some (.slice (some ⟨a.xb,0,none⟩) 2 a.xc)/\w.cell? ⟨a.xb,i,none⟩=some (.pointer (some ⟨a.C i,0,none⟩)):=by
 obtain⟨o,vb,h1,F,G,H⟩:=h.ex;exact⟨h1.cells.1,(h1.xs i hi).1⟩
theorem jI.ZB(h:jI aI w0 a L n w):∃H c0,w.cell? ⟨a.N,8,none⟩=some (.slice H n.bD.length c0)/\∀k,k<n.bD.length->∃g,H=some ⟨g,0,none⟩/\w.cell? ⟨g,k*2,none⟩=some (.int .i64 ((n.bD.getD k (0,0,[])).1:Int))/\w.cell? ⟨g,k*2+1,none⟩=some (sV (aD (n.bD.getD k (0,0,[])).2.1 (n.bD.getD k (0,0,[])).2.2)):=by
 obtain⟨o,vb,h1,V,X,Z⟩:=h.ex;obtain⟨_,_,_,_,_,c8,_⟩:=h1.cells;obtain⟨H,c0,rfl⟩:=fV h1.bg;refine⟨H,c0,c8,fun k I=>?_⟩
 rcases h1.bg with⟨_,e,_⟩|⟨g,cap,cs,ev,ho,hB,hc1,hc2,hc3,hc4,Et,_⟩
 ·omega
 simp only[Value.slice.injEq]at ev;have hd:(fJ n.bD).drop (k*2)=fJ (n.bD.drop k):=(oJ n.bD k).symm
 have G:n.bD.drop k=n.bD.getD k (0,0,[])::n.bD.drop (k+1):=by
  rw[List.drop_eq_getElem_cons I,nI,jK I];rfl
 have F:∀j v,j<n.bD.length*2->(fJ n.bD)[j]?=some v->w.cell? ⟨g,j,none⟩=some v:=fun j v U O=>by
  rw[hB.cell];rw[<-Et,DJ,if_pos U]at O;exact O
 refine⟨g,ev.1,F _ _ (by omega) ?_,F _ _ (by omega) ?_⟩
 ·have:((fJ n.bD).drop (k*2))[0]?=(fJ n.bD)[k*2]?:=by rw[CK];rfl
  rw[<-this,hd,G];rfl
 ·have:((fJ n.bD).drop (k*2))[1]?=(fJ n.bD)[k*2+1]?:=by rw[CK]
  rw[<-this,hd,G];rfl
theorem pz(i:Nat)(hi:i<2):∀x∈T0 (60*(i+1)),x∈TN:=fun x F=>iM.2 (by have:=bG.1 F;omega)
theorem JO(h:jI aI w0 a L n w)(k:Nat)(O:k<n.bD.length)(hl:n.bD.length<=1000000000):
  Calls prog 67 #[.pointer (some ⟨a.N,0,none⟩),.int .i64 k] w fun e w'=>e=.returned (.tuple #[])/\jI aI w0 a L {n with bD:=n.bD.eraseIdx k} w':=by
 obtain⟨o,vb,h1,H,I,_⟩:=h.ex;refine(Uv h1 k O hl).mono ?_;rintro e w' ⟨rfl,V,o',F,G⟩;exact⟨rfl,jI.go H I (n':={n with bD:=n.bD.eraseIdx k}) F (G.mono fun x U=>iM.2 (by simp at U;omega))⟩
theorem UC(h:jI aI w0 a L n w)(hp:dx a.aH n)(hb:ni n 0)(G:a.aH<=400)(i:Nat)(hi:i<2)(y:Nat×List Fr)(I:Eu a.aH (n.x (1-i)) (n.x i) y):
  Calls prog 29 #[.pointer (some ⟨a.C i,0,none⟩),sV (aD y.1 y.2)] w fun e w'=>e=.returned (.tuple #[.int .i64 0,.int .i64 (-1)])/\∃F,(n.x i).h_ y.1 y.2 F 0/\jI aI w0 a L (n.bK i F) w':=by
 obtain⟨o,vb,h1,V,X,_⟩:=h.ex;refine(JG h1 hp hb i hi y I G).mono ?_;rintro e w' ⟨rfl,F,H,o',O,U⟩;have s:=yD (fun f Z=>by rcases(I.fr f Z).kd with e|e|e|e<;>omega) H;exact⟨rfl,F,H,jI.go V X (O.Co fun j k _ _=>oK s j k) (U.mono (pz i hi))⟩
theorem Xi(h:jI aI w0 a L n w)(hp:dx a.aH n)(i:Nat)(hi:i<2)(l:List UInt8)(hl:l.length<=1000000)(O:kL false 0 [] l):
  Calls prog 29 #[.pointer (some ⟨a.C i,0,none⟩),sV l] w fun e w'=>e=.returned (.tuple #[.int .i64 7,.int .i64 (-1)])/\jI aI w0 a L n w':=by
 obtain⟨o,vb,h1,H,I,_⟩:=h.ex;refine(EC h1 hp i hi l hl O).mono ?_;rintro e w' ⟨rfl,o',F,G⟩;exact⟨rfl,jI.go H I F (G.mono (pz i hi))⟩
theorem JQ(h:jI aI w0 a L n w)(i:Nat)(hi:i<2):
  Calls prog 30 #[.pointer (some ⟨a.N,0,none⟩),.int .i64 i] w fun e w'=>e=.returned (.bool true)/\jI aI w0 a L n w':=by
 obtain⟨o,vb,h1,H,I,_⟩:=h.ex;refine(JH h1 i hi).mono ?_;rintro e w' ⟨rfl,o',F,G⟩;exact⟨rfl,jI.go H I F (G.mono (pz i hi))⟩
structure Cz (aH:Nat) (n n':Net):Prop where
 p:dx aH n'
 nx:∀i,i<2->(n'.x i).next=(n.x i).next/\(n'.x i).tick=(n.x i).tick
 now:n'.now=n.now
 bl:n'.bD.length<=n.bD.length
theorem su{aH:Nat}(h:dx aH n):Cz aH n n:=⟨h,fun _ _=>⟨rfl,rfl⟩,rfl,mR _⟩
theorem EL{aH:Nat}(h:dx aH n)(k:Nat):Cz aH n {n with bD:=n.bD.eraseIdx k}:=
 ⟨h.sub (n.bD.eraseIdx k) (fun _ F=>List.mem_of_mem_eraseIdx F) n.now,fun _ _=>⟨rfl,rfl⟩,rfl,by show(n.bD.eraseIdx k).length<=_;rw[M4];split<;>omega⟩
theorem Qq{aH:Nat}{n1:Net}(h:Cz aH n n1)(hb:ni n1 0)(i:Nat)(hi:i<2)(y:Nat×List Fr)(I:Eu aH (n1.x (1-i)) (n1.x i) y){F:Side}{e:Nat}(H:(n1.x i).h_ y.1 y.2 F e):Cz aH n (n1.bK i F):=by
 have O:=(hb.1 (1-i) (by omega)).1;obtain⟨_,s,b,nx,mt⟩:=D7 (h.p.loc i hi) (h.p.loc (1-i) (by omega)) (h.p.two i hi) (h.p.two' i hi) (h.p.bd i hi) (h.p.bd (1-i) (by omega)) y.1 y.2 I.lt (by omega) I.fr H;refine⟨gQ h.p i hi F s b mt nx,fun j G=>?_,h.now,h.bl⟩
 by_cases e:j=i
 ·rw[e,bT,nx,EJ H];rw[e]at G;exact h.nx i G
 ·rw[dV _ _ _ _ e];exact h.nx j G
theorem Cz.nb{aH B:Nat}{n':Net}(h:Cz aH n n')(hb:ni n B):ni n' B:=
 ⟨fun i hi=>by rw[(h.nx i hi).1,(h.nx i hi).2];exact hb.1 i hi,by rw[h.now];exact hb.2⟩
end
theorem UD(x b:UInt8)(hb:b≠0):x≠x ^^^ b:=fun h=>by
 have F:=congrArg UInt8.toNat h;rw[UInt8.toNat_xor]at F;have G:=Crc.vT (show x.toNat ^^^ 0=x.toNat ^^^ b.toNat by rw[Nat.xor_zero];exact F);exact hb (UInt8.toNat_inj.1 G.symm)
def spD(D:ByteArray)(q:Nat)(x:UInt8):ByteArray:=D.extract 0 q++⟨#[x]⟩++D.extract (q+1) D.size
theorem Qr(l:List UInt8)(q:Nat)(hq:q<l.length)(x:UInt8):spD ⟨l.toArray⟩ q x=⟨(l.set q x).toArray⟩:=by
 unfold spD
 ext1
 rw[Lb,Lb,uj,uj];apply Array.toList_inj.1;have hs:(⟨l.toArray⟩:ByteArray).size=l.length:=(iL l).2;rw[hs,List.set_eq_take_append_cons_drop,if_pos hq];simp;exact List.take_of_length_le (by rw[Kt];omega)
theorem MB(n:Nat)(fs:List Fr)(D:ByteArray)(G:D=⟨(aD n fs).toArray⟩)(q:Nat)(hq:q<D.size)(b:UInt8)(hb:b≠0):∃l,.string (spD D q (D[q] ^^^ b))=sV l/\l.length=D.size/\kL false 0 [] l:=by
 subst G;have hs:(⟨(aD n fs).toArray⟩:ByteArray).size=(aD n fs).length:=(iL _).2
 have F:q<(aD n fs).length:=by rw[<-hs];exact hq
 refine⟨(aD n fs).set q ((aD n fs)[q] ^^^ b),?_,by rw[List.length_set,hs],H_ n fs q _ F (UD _ _ hb)⟩;have e:(⟨(aD n fs).toArray⟩:ByteArray)[q]=(aD n fs)[q]:=rfl;rw[e,Qr _ q F];rfl
theorem Ip(w:World)(x b:UInt8)(X:Int)(F:X=(b.toNat:Int)):(convert 60 9 (.slice (some ⟨w.heap.size,0,none⟩) 1 1)).run prog ((w.alloc (.cells #[.int .u8 (bits .xor .u8 (x.toNat:Int) X)] 5)).drew)=.ok (.string ⟨#[x ^^^ b]⟩) ((w.alloc (.cells #[.int .u8 (bits .xor .u8 (x.toNat:Int) X)] 5)).drew):=by
 have e:bits .xor .u8 (x.toNat:Int) X=((x ^^^ b).toNat:Int):=by
  rw[F,u8_xor_nat _ _ x.toNat_lt b.toNat_lt,UInt8.toNat_xor]
 rw[e]
 have:=run_convert_bytes_back (P:=prog) ((w.alloc (.cells #[.int .u8 ((x ^^^ b).toNat:Int)] 5)).drew) 60 9 5 ⟨w.heap.size,0,none⟩ 1 [x ^^^ b] u29 (by kernel_rfl) u9 (fun j G=>by
  obtain rfl:j=0:=by simpa using G
  have:=(ak.new w 5 [.int .u8 ((x ^^^ b).toNat:Int)]).cell 0
  exact this)
 exact this
end
end Go.Proofs.YtphbledmopchnaaGreatDoor.Sd
