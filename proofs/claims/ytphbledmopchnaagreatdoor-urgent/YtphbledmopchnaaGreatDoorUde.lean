import Derived.Test.YtphbledmopchnaaGreatDoorUdd
import Derived.Sort.MapsRangeIn
open Array renaming getElem?_eq_some_iff->fB
open Go.RowKit.Below renaming refl->SF
open Bool renaming not_eq_true'->Av
open Int renaming natCast_add->He
open List renaming getElem?_eq_getElem->fA,getD_eq_getElem?_getD->mR,mem_filter->sQ,mem_cons->tT,mem_append->uj,length_map->wz,map_append->Aw,mem_map->DT,take_add_one->E8,filter_map->Kt,mem_range'->KG,sum_append->Lb,take_of_length_le->M4,map_congr_left->Ur,append_assoc->WJ,range'->YF,any_eq_true->ZH,not_mem_nil->qa0
open Nat renaming lt_of_lt_of_le->nI,le_refl->tL,not_lt_zero->qa1,lt_irrefl->qa2
open Go.World renaming putObj_heap_other->Am,putObj_heap_same->R3,alloc_heap_new->Ui,grownBy_alloc->WA
set_option maxHeartbeats 4000000
set_option maxRecDepth 100000
namespace Go.Proofs.YtphbledmopchnaaGreatDoor.Sd
open Go.RowKit Go.Lib Mm Tryz
structure SdL (l:aI) (M:Side) (bw bl bi:Nat) (vc:Value):Prop where
 len:l.length=240
 c0:l[0]?=some (iZ M.aM)
 c1:l[1]?=some (iZ M.window)
 c2:l[2]?=some (iZ M.total)
 c3:l[3]?=some (uZ M.tick)
 mH:l[220]?=some (uZ M.limit)
 gr:qV l 221 M.gr
 oh:l[225]?=some (iZ 8)
 c226:l[226]?=some (uZ M.came.fl)
 c227:l[227]?=some vc
 c228:l[228]?=some (.bool M.answer)
 c229:l[229]?=some (uZ M.next)
 kL:l[230]?=some (.map (some bw))
 nC:l[231]?=some (.map (some bl))
 c232:l[232]?=some (uZ M.named)
 c233:l[233]?=some M.qv
 c234:l[234]?=some (uZ M.least)
 nD:l[235]?=some nZ
 c236:l[236]?=some (uZ 0)
 o9:l[237]?=some (.map (some bi))
 kM:l[238]?=some (iZ M.why)
 o_:l[239]?=some (.bool M.parted)
theorem SdL.win{l l':aI}{M:Side}{bw bl bi:Nat}{vc:Value}(h:SdL l M bw bl bi vc){o n:Nat}(w:iN l l' o n)(h1:4<=o)(F:o+n<=220):SdL l' M bw bl bi vc:=by
 have e:∀j,j<4\/220<=j->l'[j]?=l[j]?:=fun j G=>w.2 j (by omega)
 exact⟨w.1.trans h.len,by rw[e _ (by omega),h.c0],by rw[e _ (by omega),h.c1],by rw[e _ (by omega),h.c2],by rw[e _ (by omega),h.c3],by rw[e _ (by omega),h.mH],h.gr.win w (by omega),
  by rw[e _ (by omega),h.oh],by rw[e _ (by omega),h.c226],by rw[e _ (by omega),h.c227],by rw[e _ (by omega),h.c228],by rw[e _ (by omega),h.c229],by rw[e _ (by omega),h.kL],by rw[e _ (by omega),h.nC],by rw[e _ (by omega),h.c232],
  by rw[e _ (by omega),h.c233],by rw[e _ (by omega),h.c234],by rw[e _ (by omega),h.nD],by rw[e _ (by omega),h.c236],by rw[e _ (by omega),h.o9],by rw[e _ (by omega),h.kM],by rw[e _ (by omega),h.o_]⟩
def T0(s:Nat):List Nat:=(s+53)::YF s 45
theorem bN{s x:Nat}:x∈T0 s↔x=s+53\/(s<=x/\x<s+45):=by
 unfold T0;rw[tT,KG];constructor
 ·rintro(h|⟨i,h,rfl⟩)
  ·exact .inl h
  ·exact .inr (by omega)
 ·rintro(h|⟨h1,F⟩)
  ·exact .inl h
  ·exact .inr ⟨x-s,by omega,by omega⟩
def iU:List Fr->aI
 |[]=>[]
 |f::t=>bZ f nZ++iU t
def ent(f:Nat->Option Addr×Nat)(x:Nat×m_):gM:=(x.1,(f x.1).1,x.2.frames.length,(f x.1).2,x.2.tick)
def oq(oZ:Own)(t tf:Nat)(w:World)(b:Nat)(l:List (Nat×m_)):Prop:=
 ∃f,oZ b=t/\jh w b (l.map (ent f))/\∀x∈l,GT oZ tf 65 10 w (.slice (f x.1).1 x.2.frames.length (f x.1).2) x.2.frames.length (iU x.2.frames)
theorem oq.kp{oZ aC:Own}{t tf:Nat}{w w':World}{b:Nat}{l:List (Nat×m_)}{T:List Nat}(h:oq oZ t tf w b l)(K:Kp T oZ aC w w')(I:t∉T)(H:tf∉T):oq aC t tf w' b l:=by
 obtain⟨f,h1,F,G⟩:=h;exact⟨f,by rw[K.ext b F.lt,h1],F.kept (K.blk b F.lt (by rw[h1];exact I)),fun x O=>(G x O).kp K H⟩
structure bT (oZ:Own) (s:Nat) (w:World) (S:Nat) (l:aI) (M:Side) (bw bl bi:Nat) (vc:Value):Prop where
 ow:oZ S=s
 s0:0<s
 blk:aA w S TS l
 cells:SdL l M bw bl bi vc
 out:∀k,k<8->xW oZ (s+1+5*k) w S l (4+27*k) (M.out k)
 inn:∀k,k<8->AX oZ (s+4+5*k) w l (18+27*k) (M.inn k)
 row:jC oZ (s+41) w S vc M.came.rs
 way:oq oZ (s+42) (s+44) w bw M.aF
 lost:oq oZ (s+43) (s+44) w bl M.lost
 qu:GT oZ (s+53) 65 10 w M.qv M.queue.length (iU M.queue)
 lo:M.outs.length=8
 li:M.ins.length=8
theorem bT.kp{oZ aC:Own}{s:Nat}{w w':World}{S:Nat}{l:aI}{M:Side}{bw bl bi:Nat}{vc:Value}{T:List Nat}(h:bT oZ s w S l M bw bl bi vc)(K:Kp T oZ aC w w')(F:∀x,s<=x->x<s+45\/x=s+53->x∉T):bT aC s w' S l M bw bl bi vc:=
 ⟨by rw[K.ext S h.blk.lt,h.ow],h.s0,aO h.blk K (by rw[h.ow];exact F _ (by omega) (by omega)),h.cells,
 fun k G=>(h.out k G).kp K (F _ (by omega) (by omega)) (F _ (by omega) (by omega)) (F _ (by omega) (by omega)) (iN.refl l (4+27*k+14) 0) (by omega),
 fun k G=>(h.inn k G).kp K (F _ (by omega) (by omega)) (F _ (by omega) (by omega)) (iN.refl l (18+27*k+13) 0) (by omega),
 h.row.kp K (F _ (by omega) (by omega)),h.way.kp K (F _ (by omega) (by omega)) (F _ (by omega) (by omega)),h.lost.kp K (F _ (by omega) (by omega)) (F _ (by omega) (by omega)),h.qu.kp K (F _ (by omega) (by omega)),h.lo,h.li⟩
theorem bT.below{oZ:Own}{s:Nat}{w w':World}{S:Nat}{l:aI}{M:Side}{bw bl bi:Nat}{vc:Value}(h:bT oZ s w S l M bw bl bi vc)(hb:aD w w'):bT oZ s w' S l M bw bl bi vc:=h.kp (Kp.below (T:=[]) hb) (by simp)
def fP(s:Nat)(oZ:Own)(w:World)(S:Nat)(bw bl bi:Nat)(M':Side)(w':World):Prop:=∃aC l' F,bT aC s w' S l' M' bw bl bi F/\Kp (T0 s) oZ aC w w'
theorem fP.refl{s:Nat}{oZ:Own}{w w':World}{S:Nat}{l:aI}{bw bl bi:Nat}{vc:Value}{M:Side}(h:bT oZ s w S l M bw bl bi vc)(hb:aD w w'):fP s oZ w S bw bl bi M w':=⟨oZ,l,vc,h.below hb,Kp.below hb⟩
theorem bT.bf{oZ:Own}{s:Nat}{w w':World}{S:Nat}{l:aI}{M:Side}{bw bl bi:Nat}{vc:Value}(h:bT oZ s w S l M bw bl bi vc)(k:Nat)(U:k<8)(m:Ot)(q:iF s (s+1+5*k) oZ S (4+27*k) l w m w'):fP s oZ w S bw bl bi (M.bf k m) w':=by
 obtain⟨aC,l',K,hB,wi,O⟩:=q
 have F:∀x,x∈[s,s+1+5*k,s+1+5*k+1,s+1+5*k+1+1]->x=s\/(s+1+5*k<=x/\x<=s+3+5*k):=fun x I=>by
  simp only[tT,qa0,or_false]at I;omega
 have V:∀j,(M.bf k m).out j=if j=k then m else M.out j:=fun j=>by
  rw[gK,h.lo]
  by_cases G:j=k
  ·rw[if_pos ⟨G,U⟩,if_pos G]
  ·rw[if_neg (fun x=>G x.1),if_neg G]
 refine⟨aC,l',vc,⟨by rw[K.ext S h.blk.lt,h.ow],h.s0,hB,?_,fun j G=>?_,fun j G=>?_,h.row.kp K (fun e=>by have:=F _ e;omega),h.way.kp K (fun e=>by have:=F _ e;omega) (fun e=>by have:=F _ e;omega),h.lost.kp K (fun e=>by have:=F _ e;omega) (fun e=>by have:=F _ e;omega),h.qu.kp K (fun e=>by have:=F _ e;omega),(eX _ _ _).trans h.lo,h.li⟩,K.mono fun x I=>bN.2 (by have:=F x I;omega)⟩
 ·have c:=h.cells.win wi (by omega) (by omega);exact⟨c.len,c.c0,c.c1,c.c2,c.c3,c.mH,c.gr,c.oh,c.c226,c.c227,c.c228,c.c229,c.kL,c.nC,c.c232,c.c233,c.c234,c.nD,c.c236,c.o9,c.kM,c.o_⟩
 ·rw[V]
  by_cases H:j=k
  ·subst H;rw[if_pos rfl];exact O
  ·rw[if_neg H];exact(h.out j G).kp K (fun e=>by have:=F _ e;omega) (fun e=>by have:=F _ e;omega) (fun e=>by have:=F _ e;omega) wi (by omega)
 ·exact(h.inn j G).kp K (fun e=>by have:=F _ e;omega) (fun e=>by have:=F _ e;omega) wi (by omega)
theorem bT.dA{oZ:Own}{s:Nat}{w w':World}{S:Nat}{l:aI}{M:Side}{bw bl bi:Nat}{vc:Value}(h:bT oZ s w S l M bw bl bi vc)(k:Nat)(U:k<8)(m:bU)(q:Pe s (s+4+5*k) oZ S (18+27*k) l w m w'):fP s oZ w S bw bl bi (M.dA k m) w':=by
 obtain⟨aC,l',K,hB,wi,O⟩:=q
 have F:∀x,x∈[s,s+4+5*k,s+4+5*k+1]->x=s\/(s+4+5*k<=x/\x<=s+5+5*k):=fun x I=>by
  simp only[tT,qa0,or_false]at I;omega
 have V:∀j,(M.dA k m).inn j=if j=k then m else M.inn j:=fun j=>by
  rw[gL,h.li]
  by_cases G:j=k
  ·rw[if_pos ⟨G,U⟩,if_pos G]
  ·rw[if_neg (fun x=>G x.1),if_neg G]
 refine⟨aC,l',vc,⟨by rw[K.ext S h.blk.lt,h.ow],h.s0,hB,?_,fun j G=>?_,fun j G=>?_,h.row.kp K (fun e=>by have:=F _ e;omega),h.way.kp K (fun e=>by have:=F _ e;omega) (fun e=>by have:=F _ e;omega),h.lost.kp K (fun e=>by have:=F _ e;omega) (fun e=>by have:=F _ e;omega),h.qu.kp K (fun e=>by have:=F _ e;omega),h.lo,(eX _ _ _).trans h.li⟩,K.mono fun x I=>bN.2 (by have:=F x I;omega)⟩
 ·have c:=h.cells.win wi (by omega) (by omega);exact⟨c.len,c.c0,c.c1,c.c2,c.c3,c.mH,c.gr,c.oh,c.c226,c.c227,c.c228,c.c229,c.kL,c.nC,c.c232,c.c233,c.c234,c.nD,c.c236,c.o9,c.kM,c.o_⟩
 ·exact(h.out j G).kp K (fun e=>by have:=F _ e;omega) (fun e=>by have:=F _ e;omega) (fun e=>by have:=F _ e;omega) wi (by omega)
 ·rw[V]
  by_cases H:j=k
  ·subst H;rw[if_pos rfl];exact O
  ·rw[if_neg H];exact(h.inn j G).kp K (fun e=>by have:=F _ e;omega) (fun e=>by have:=F _ e;omega) wi (by omega)
theorem bT.cell{oZ:Own}{s:Nat}{w w':World}{S:Nat}{l l':aI}{M M':Side}{bw bl bi:Nat}{vc:Value}(h:bT oZ s w S l M bw bl bi vc)(o n:Nat)(ho:o+n<=4\/220<=o)(q:dL w w' S l l' o n)(hc:SdL l' M' bw bl bi vc)(I:M'.outs=M.outs)(O:M'.ins=M.ins)(U:M'.came=M.came)(V:M'.aF=M.aF)(X:M'.lost=M.lost)(Z:M'.qv=M.qv)(e7:M'.queue=M.queue):fP s oZ w S bw bl bi M' w':=by
 have K:Kp [s] oZ oZ w w':=q.kp h.ow (by simp)
 have F:∀x,x∈[s]->x=s:=fun x H=>by simpa using H
 have eo:∀j,M'.out j=M.out j:=fun j=>by unfold Side.out;rw[I]
 have ei:∀j,M'.inn j=M.inn j:=fun j=>by unfold Side.inn;rw[O]
 refine⟨oZ,l',vc,⟨h.ow,h.s0,q.blk,hc,fun j G=>?_,fun j G=>?_,?_,?_,?_,?_,by rw[I];exact h.lo,by rw[O];exact h.li⟩,K.mono fun x H=>bN.2 (by have:=F x H;omega)⟩
 ·rw[eo];exact(h.out j G).kp K (fun e=>by have:=F _ e;omega) (fun e=>by have:=F _ e;omega) (fun e=>by have:=F _ e;omega) q.win (by omega)
 ·rw[ei];exact(h.inn j G).kp K (fun e=>by have:=F _ e;omega) (fun e=>by have:=F _ e;omega) q.win (by omega)
 ·rw[U];exact h.row.kp K (fun e=>by have:=F _ e;omega)
 ·rw[V];exact h.way.kp K (fun e=>by have:=F _ e;omega) (fun e=>by have:=F _ e;omega)
 ·rw[X];exact h.lost.kp K (fun e=>by have:=F _ e;omega) (fun e=>by have:=F _ e;omega)
 ·rw[Z,e7];exact h.qu.kp K (fun e=>by have:=F _ e;omega)
theorem Mq{α:Type}(d:α)(f:Nat->α->Nat)(l:List α)(k:Nat)(F:k<l.length)(s:Nat):(l.take (k+1)).foldl f s=f ((l.take k).foldl f s) (l.getD k d):=by
 rw[E8,fA F,List.foldl_append,mR,fA F];rfl
theorem Kh(oZ:Own)(s:Nat)(S:Nat)(l:aI)(M:Side)(bw bl bi:Nat)(vc:Value)(w:World)(h:bT oZ s w S l M bw bl bi vc)(ok:∀k,(M.inn k).free<=aZ):
  Calls prog 252 #[ay S 0] w fun e w'=>e=.returned (uZ M.free)/\w'=w:=by
 obtain⟨F,hF⟩:∃F:Nat->Nat,F=fun k=>(M.ins.take k).foldl (fun s i=>min (s+i.free) aZ) 0:=⟨_,rfl⟩
 have h0:F 0=0:=by rw[hF];rfl
 have hs:∀k,k<8->F (k+1)=min (F k+(M.inn k).free) aZ:=fun k H=>by rw[hF];exact Mq uH _ M.ins k (by rw[h.li];exact H) 0
 have h8:F 8=M.free:=by rw[hF];show(M.ins.take 8).foldl _ 0=_;rw[M4 (by rw[h.li];omega)];rfl
 have I:∀k,k<=8->F k<=aZ:=fun k H=>by
  cases k with
  |zero=>rw[h0];exact Nat.zero_le _
  |succ k=>rw[hs k (by omega)];exact Nat.min_le_right _ _
 rw[<-h8]
 have HC:Hid (∀k,k<8->Calls prog 310 #[(ay S (4+k*27+14))] w fun e w'=>e=.returned (uZ ((M.inn k).free:Int))/\w'=w):=fun k H=>by
  obtain⟨vh,gZ,hL,_⟩:=h.inn k H;have:=Cu S (18+27*k) (M.inn k) vh gZ w l h.blk hL;rw[show 18+27*k=4+k*27+14 by omega]at this;exact this
 have HS:=au (And.intro hs (And.intro I ok));clear hF hs I ok h8 h;go_enter func252,ntmps252;go_wp2
 go_loopw [3,5] (fun s3 U wr=>∃k:Nat,k<=8/\s3=(uZ (F k:Int))/\U=(iZ k)/\wr=w) (fun _ U _=>8-(intOf U).toNat)
 case atStart=>exact⟨0,by omega,by rw[h0];rfl,rfl,rfl⟩
 case round=>
  obtain⟨k,H,rfl,rfl,rfl⟩:=hrel
  by_cases K:k<8
  ·obtain⟨Z,g2,g3⟩:=HS.out;have hc:=HC.out k K
   have h2:(k:Int)<8:=by omega
   have X:=g2 k H;have b2:=g3 k;have b3:=Z k K;obtain⟨mm,O,G⟩:=min2 (F k+(M.inn k).free) aZ;rw[<-G]at b3
   have b4:F k+(M.inn k).free<18446744073709551616:=by unfold aZ at X b2;omega
   generalize F k=A at *;generalize (M.inn k).free=Bf at *;have HM:=au G;unfold aZ at O X b2
   have h3:∀V t w,(Builtin.min_ V t #[(uZ ((A:Int)+(Bf:Int))),uZ 4611686018427387903]).run prog w=.ok (uZ mm) w:=fun V t w=>by
    have:=O V t w;rw[He]at this;exact this
   clear Z g2 g3 G O
   go_wp2_with (first
    |(go_at_call 310;refine hc.mono ?_;rintro e w' ⟨rfl,rfl⟩)
    |go_in)
   go_roundw
   case rel=>exact⟨k+1,by omega,by rw[b3],by simp,trivial⟩
   case measure=>simp[intOf];omega
  ·obtain rfl:k=8:=by omega
   go_wp2;go_ret;exact⟨rfl,rfl⟩
theorem PV{α:Type}(d:α)(f:α->Nat)(l:List α)(k:Nat)(F:k<l.length):((l.take (k+1)).map f).sum=((l.take k).map f).sum+f (l.getD k d):=by
 rw[E8,fA F,Aw,Lb,mR,fA F];simp
theorem EO{α:Type}(f:α->Nat)(l:List α)(k:Nat):((l.take k).map f).sum<=(l.map f).sum:=by
 conv=>rhs;rw[<-List.take_append_drop k l]
 rw[Aw,Lb];omega
theorem Bj(oZ:Own)(s:Nat)(S:Nat)(l:aI)(M:Side)(bw bl bi:Nat)(vc:Value)(w:World)(h:bT oZ s w S l M bw bl bi vc)(O:M.spent<=M.limit)(K:M.limit<=aZ):
  Calls prog 265 #[ay S 0] w fun e w'=>e=.returned (uZ M.aB)/\w'=w:=by
 obtain⟨F,hF⟩:∃F:Nat->Nat,F=fun k=>M.limit-((M.outs.take k).map Ot.sent).sum:=⟨_,rfl⟩
 have Z:F 0=M.limit:=by rw[hF];rfl
 have hs:∀k,k<8->F k=F (k+1)+(M.out k).sent:=fun k I=>by
  rw[hF];have e:=PV su Ot.sent M.outs k (by rw[h.lo];exact I);have e2:=EO Ot.sent M.outs (k+1);have e3:(M.outs.map Ot.sent).sum=M.spent:=rfl;have e4:(M.outs.getD k su).sent=(M.out k).sent:=rfl;show M.limit-((M.outs.take k).map Ot.sent).sum=M.limit-((M.outs.take (k+1)).map Ot.sent).sum+_;omega
 have h8:F 8=M.aB:=by rw[hF];show M.limit-((M.outs.take 8).map Ot.sent).sum=_;rw[M4 (by rw[h.lo];omega)];rfl
 have G:∀k,F k<=aZ:=fun k=>by rw[hF];show M.limit-_<=aZ;omega
 rw[<-h8]
 have mH:w.cell? (aj S 220)=some (uZ (F 0:Int)):=by rw[Z];exact(h.blk.cell _).trans h.cells.mH
 have HC:Hid (∀k,k<8->Calls prog 315 #[(ay S (4+k*27))] w fun e w'=>e=.returned (uZ ((M.out k).sent:Int))/\w'=w):=fun k I=>by
  obtain⟨vb,va,gZ,hL,_⟩:=h.out k I;have:=Uk S (4+27*k) (M.out k).sent w ((h.blk.cell _).trans hL.c7);rw[show 4+27*k=4+k*27 by omega]at this;exact this
 have V:=au (And.intro hs G);clear hF hs G h8 h Z O K;go_enter func265,ntmps265;go_wp2
 go_loopw [3,9] (fun s3 U wr=>∃k:Nat,k<=8/\s3=(uZ (F k:Int))/\U=(iZ k)/\wr=w) (fun _ U _=>8-(intOf U).toNat)
 case atStart=>exact⟨0,by omega,rfl,rfl,rfl⟩
 case round=>
  obtain⟨k,I,rfl,rfl,rfl⟩:=hrel
  by_cases H:k<8
  ·have hc:=HC.out k H
   have h2:(k:Int)<8:=by omega
   have b1:=V.out.2 k;have b2:=V.out.1 k H;unfold aZ at b1
   have b3:0<=(F k:Int)-((M.out k).sent:Int):=by omega
   have b4:(F k:Int)-((M.out k).sent:Int)<18446744073709551616:=by omega
   have X:(F k:Int)-((M.out k).sent:Int)=(F (k+1):Int):=by omega
   have HB:=au X;clear b2 X;generalize F k=A at *;generalize (M.out k).sent=Bf at *
   go_wp2_with (first
    |(go_at_call 315;refine hc.mono ?_;rintro e w' ⟨rfl,rfl⟩)
    |go_in)
   go_roundw
   case rel=>exact⟨k+1,by omega,by rw[HB.out],by simp,trivial⟩
   case measure=>simp[intOf];omega
  ·obtain rfl:k=8:=by omega
   go_wp2;go_ret;exact⟨rfl,rfl⟩
theorem PW(oZ:Own)(s:Nat)(S:Nat)(l:aI)(M:Side)(bw bl bi:Nat)(vc:Value)(f:Fr)(r1:Option Addr)(r2 r3:Nat)(j:Nat)(hj:f.stream=(j:Int))(w:World)(h:bT oZ s w S l M bw bl bi vc)(hb:∀k,(M.inn k).high<=1000000)(he:aJ f<=1000000):
  Calls prog 297 #[ay S 0,bR f (.slice r1 r2 r3)] w fun e w'=>e=.returned (uZ (M.oO j (aJ f):Int))/\aD w w':=by
 obtain⟨F,hF⟩:∃F:Nat->Nat,F=fun k=>((List.range k).map fun i=>max (M.inn i).high (if i=j then aJ f else 0)).sum:=⟨_,rfl⟩
 have h0:F 0=0:=by rw[hF];rfl
 have hs:∀k,F (k+1)=F k+max (M.inn k).high (if k=j then aJ f else 0):=fun k=>by
  rw[hF];show((List.range (k+1)).map _).sum=_;rw[List.range_succ,Aw,Lb];simp
 have h8:F 8=M.oO j (aJ f):=by rw[hF];rfl
 have h3:∀k,F k<=k*1000000:=fun k=>by
  induction k with
  |zero=>rw[h0];omega
  |succ k ih=>
   rw[hs];have:=hb k
   have:max (M.inn k).high (if k=j then aJ f else 0)<=1000000:=by split<;>omega
   omega
 rw[<-h8];obtain⟨V,I⟩:∃V,V=w.alloc (.cells (bZ f (.slice r1 r2 r3)).toArray 65):=⟨_,rfl⟩
 have U:aD w V:=by rw[I];exact(SF _ w).alloc (tL _) _
 have K:aA V w.heap.size 65 (bZ f (.slice r1 r2 r3)):=by rw[I];exact aA.new w 65 _
 have HP:=au K;have X:=au U
 have HC:Hid (∀k,k<8->∀W e0,aD V W->Calls prog 339 #[(ay S (4+k*27+14)),(uZ ((e0:Nat):Int))] W fun e w'=>e=.returned (uZ ((max (M.inn k).high e0:Nat):Int))/\w'=W):=fun k hk W e0 h5=>by
  have h':=(h.below U).below h5;obtain⟨vh,gZ,hL,_⟩:=h'.inn k hk;have:=vR S (18+27*k) (M.inn k) vh gZ W l h'.blk hL e0;rw[show 18+27*k=4+k*27+14 by omega]at this;exact this
 have HE:Hid (∀W,Calls prog 318 #[.agg #[iZ f.kind,iZ j,uZ f.offset,uZ f.reliable,uZ f.limit,.bool f.fin,uZ f.id,uZ f.deadline,.string f.data,.slice r1 r2 r3]] W fun e w'=>e=.returned (uZ (aJ f:Int))/\aD W w'):=fun W=>by
  have:=iP f (.slice r1 r2 r3) W (by unfold aJ at he;unfold aZ;omega) (by unfold aJ at he;omega);unfold bR at this;rw[hj]at this;exact this
 have HS:=au (And.intro hs (And.intro h3 hb));clear hF hs h3 h8 h hb;unfold bR;rw[hj];unfold bZ at I HP K;rw[hj]at I HP K;generalize aJ f=E at *;clear U K;go_enter func297,ntmps297;go_wp2;rw[<-I]
 go_loopw [5,8] (fun s5 s8 wr=>∃k:Nat,k<=8/\s5=(uZ (F k:Int))/\s8=(iZ k)/\Hid (aD V wr)) (fun _ s8 _=>8-(intOf s8).toNat)
 case atStart=>exact⟨0,by omega,by rw[h0];rfl,rfl,SF _ _⟩
 case round=>
  obtain⟨k,hk,rfl,rfl,O⟩:=hrel
  by_cases h6:k<8
  ·have h7:(k:Int)<8:=by omega
   obtain⟨g1,g2,g3⟩:=HS.out;have b1:=g2 k;have b2:=g3 k;have b3:=g1 k;have H:=bI O.out HP.out;have x0:=H.cell 0;have x1:=H.cell 1;have x2:=H.cell 2;have x3:=H.cell 3;have x4:=H.cell 4;have x5:=H.cell 5;have x6:=H.cell 6;have x7:=H.cell 7;have x8:=H.cell 8;have x9:=H.cell 9;simp only[List.getElem?_cons_zero,List.getElem?_cons_succ]at x0 x1 x2 x3 x4 x5 x6 x7 x8 x9
   have h4:max (M.inn k).high (if k=j then E else 0)<=1000000:=by split<;>omega
   have hc:=HC.out k h6;clear g1 g2 g3 b1 b2 H
   have b4:F k<=8000000:=by have:=HS.out.2.1 k;omega
   by_cases G:k=j
   ·rw[if_pos G]at b3 h4
    have e1:((k:Int)==(j:Int))=true:=by rw[G];simp
    have HK:=au G;clear G;generalize (M.inn k).high=Hh at *;generalize F k=A at *
    go_wp2_with (first
     |(go_at_call 318;refine(HE.out wr).mono ?_;rintro e w2 ⟨rfl,Z⟩)
     |(go_at_call 339;refine(hc w2 E (O.out.trans (Z.mono O.out.size))).mono ?_;rintro e w3 ⟨rfl,rfl⟩)
     |go_in)
    go_roundw
    case rel=>exact⟨k+1,by omega,by rw[b3,He],by simp,O.out.trans (Z.mono O.out.size)⟩
    case measure=>simp[intOf];omega
   ·rw[if_neg G]at b3 h4
    have e1:((k:Int)==(j:Int))=false:=by rw[beq_eq_false_iff_ne];omega
    have HK:=au G;clear G;generalize (M.inn k).high=Hh at *;generalize F k=A at *;have h2:=hc wr 0 O.out;rw[show(((0:Nat)):Int)=0 from rfl]at h2
    go_wp2_with (first
     |(go_at_call 339;refine h2.mono ?_;rintro e w3 ⟨rfl,rfl⟩)
     |go_in)
    go_roundw
    case rel=>exact⟨k+1,by omega,by rw[b3,He,Nat.max_zero],by simp,O.out⟩
    case measure=>simp[intOf];omega
  ·obtain rfl:k=8:=by omega
   go_wp2;go_ret;exact⟨rfl,X.out.trans (O.out.mono X.out.size)⟩
theorem Il{oZ aC:Own}{w w':World}{rb off:Nat}{rs:aP}{T:List Nat}(h:fV w (some (aj rb off)) rs)(K:Kp T oZ aC w w')(G:rb<w.heap.size)(F:oZ rb∉T):fV w' (some (aj rb off)) rs:=fun j U=>by
 obtain⟨b,o,h1,H,I,O⟩:=h j U;simp only[Option.some.injEq,Addr.mk.injEq,and_true]at h1;obtain⟨rfl,rfl⟩:=h1;exact⟨rb,off,rfl,cell_of H (K.blk rb G F),cell_of I (K.blk rb G F),O⟩
def RgM(oZ:Own)(t:Nat)(w:World)(v:Value)(rs:aP):Prop:=
 (v=nZ/\rs=[])\/∃rb off c,v=.slice (some (aj rb off)) rs.length c/\rs.length<=c/\c<=9223372036854775807/\rb<w.heap.size/\oZ rb=t/\fV w (some (aj rb off)) rs
theorem RgM.kp{oZ aC:Own}{t:Nat}{w w':World}{v:Value}{rs:aP}{T:List Nat}(h:RgM oZ t w v rs)(K:Kp T oZ aC w w')(U:t∉T):RgM aC t w' v rs:=by
 rcases h with h|⟨rb,off,c,h1,H,I,F,G,O⟩
 ·exact .inl h
 ·exact .inr ⟨rb,off,c,h1,H,I,nI F K.size,by rw[K.ext rb F,G],Il O K F (by rw[G];exact U)⟩
def AnM(oZ:Own)(s:Nat)(w:World)(ab:Nat)(av:aP):Prop:=oZ ab=s+48/\∃v,aA w ab 342 [v]/\RgM oZ (s+49) w v av
theorem AnM.kp{oZ aC:Own}{s:Nat}{w w':World}{ab:Nat}{av:aP}{T:List Nat}(h:AnM oZ s w ab av)(K:Kp T oZ aC w w')(h1:s+48∉T)(H:s+49∉T):AnM aC s w' ab av:=by
 obtain⟨F,v,a2,G⟩:=h;exact⟨by rw[K.ext ab a2.lt,F],v,aO a2 K (by rw[F];exact h1),G.kp K H⟩
def Env(oZ:Own)(s:Nat)(w:World)(S bw bl bi ab:Nat)(M:Side)(av:aP):Prop:=∃l vc,bT oZ s w S l M bw bl bi vc/\AnM oZ s w ab av
theorem Env.kp{oZ aC:Own}{s:Nat}{w w':World}{S bw bl bi ab:Nat}{M:Side}{av:aP}{T:List Nat}(h:Env oZ s w S bw bl bi ab M av)(K:Kp T oZ aC w w')(G:∀x,s<=x->x<s+45\/x=s+53->x∉T)(h1:s+48∉T)(F:s+49∉T):Env aC s w' S bw bl bi ab M av:=by
 obtain⟨l,vc,a,b⟩:=h;exact⟨l,vc,a.kp K G,b.kp K h1 F⟩
theorem Env.below{oZ:Own}{s:Nat}{w w':World}{S bw bl bi ab:Nat}{M:Side}{av:aP}(h:Env oZ s w S bw bl bi ab M av)(hb:aD w w'):Env oZ s w' S bw bl bi ab M av:=h.kp (Kp.below (T:=[]) hb) (by simp) (by simp) (by simp)
structure QF (f:Fr):Prop where
 kd:f.kind=7
 st:f.stream=0
 ok:jl f
 sn:snd f=true
 rs:f.ranges=[]
 ln:(aG f).length<=1000000
structure Wk (M:Side):Prop where
 ob:∀k,(M.out k).bytes.length<=2048
 oa:∀k,uN (M.out k).away
 oc:∀k,uN (M.out k).came
 ng:∀k,(M.out k).nt.given=false
 inn:∀k,SX (M.inn k)
 ga:M.gr.ahead<=4096
 sp:M.spent<=M.limit
 lm:M.limit<=aZ
 q:∀f∈M.queue,QF f
 ql:M.queue.length<=16
 wl:M.aF.length<100000
theorem Wk.sent{M:Side}(h:Wk M)(hl:M.outs.length=8)(k:Nat)(G:k<8):(M.out k).sent<=aZ:=by
 have h1:=h.sp;have F:=h.lm
 have:(M.out k).sent<=M.spent:=by
  have:=vL (M.outs.map Ot.sent) k
  have e:(M.outs.map Ot.sent).getD k 0=(M.out k).sent:=by
   unfold Side.out;rw[mR,mR,List.getElem?_map,fA (by omega)];rfl
  rw[e]at this;exact this
 omega
def Tn(s:Nat):List Nat:=YF s 45++[s+48,s+53]
def Tb(s:Nat):List Nat:=(YF s 60).filter fun x=> !decide (x=s+47)&& !decide (x=s+49)
theorem pq{s x:Nat}:x∈Tn s↔(s<=x/\x<s+45)\/x=s+48\/x=s+53:=by
 unfold Tn;rw[uj,KG,tT,List.mem_singleton];constructor
 ·rintro(⟨i,h,rfl⟩|h)
  ·left;omega
  ·exact .inr h
 ·rintro(⟨h1,F⟩|h)
  ·exact .inl ⟨x-s,by omega,by omega⟩
  ·exact .inr h
theorem f_{s x:Nat}:x∈Tb s↔(s<=x/\x<s+60)/\x≠s+47/\x≠s+49:=by
 unfold Tb;rw[sQ,KG];simp only[Bool.and_eq_true,Av,decide_eq_false_iff_not];refine and_congr ⟨?_,?_⟩ Iff.rfl
 ·rintro⟨i,h,rfl⟩;omega
 ·rintro⟨h1,F⟩;exact⟨x-s,by omega,by omega⟩
theorem YR(s:Nat):∀x∈Tn s,x∈Tb s:=fun x F=>f_.2 (by have:=pq.1 F;omega)
structure LW (oZ:Own) (s:Nat) (w:World) (x:FV):Prop where
 len:x.2.2.1=x.1.ranges.length
 cap:x.1.ranges.length<=x.2.2.2
 rng:fV w x.2.1 x.1.ranges
 blk:∀a,x.2.1=some a->a.block<w.heap.size/\oZ a.block=s+49/\a.spot=none
 nil:x.1.kind≠2->x.2=(none,0,0)
theorem LW.none(oZ:Own)(s:Nat)(w:World)(f:Fr)(h:f.ranges=[]):LW oZ s w (f,.none,0,0):=⟨by rw[h];rfl,by rw[h];exact tL _,fun j F=>by rw[h]at F;exact absurd F (qa1 _),(fun a G=>by cases G),fun _=>rfl⟩
def gP(oZ:Own)(s:Nat)(w:World)(S bw bl bi ab:Nat)(M:Side)(av:aP)(r:Option (Fr×Side×aP))(e:Ending)(w':World):Prop:=
 ∃(x:FV) (b:Bool) (aC:Own),e=.returned (.tuple #[bR x.1 (lu x),.bool b])/\b=r.isSome/\Kp (Tn s) oZ aC w w'/\Env aC s w' S bw bl bi ab ((r.map fun y=>y.2.1).getD M) ((r.map fun y=>y.2.2).getD av)/\∀y,r=some y->x.1=y.1/\LW aC s w' x
def lI(oZ:Own)(s:Nat)(w0:World)(S bw bl bi ab:Nat)(n:Nat)(p k:Array Value)(iw:Side->aP->Bool):Prop:=
 ∀aC w M av,Kp (Tb s) oZ aC w0 w->Env aC s w S bw bl bi ab M av->Wk M->Calls prog n (p++k) w fun e w'=>e=.returned (.bool (iw M av))/\aD w w'
def nQ(oZ:Own)(s:Nat)(w0:World)(S bw bl bi ab:Nat)(n:Nat)(p k:Array Value)(iw:Side->aP->Bool)(nx:Side->aP->Int->Option (Fr×Side×aP)):Prop:=
 ∀aC w M av (room:Int),Kp (Tb s) oZ aC w0 w->Env aC s w S bw bl bi ab M av->Wk M->iw M av=true-> -1000000<=room/\room<=1000000->Calls prog n (p.push (iZ room)++k) w fun e w'=>gP aC s w S bw bl bi ab M av (nx M av room) e w'
def qG(oZ:Own)(s:Nat)(w0:World)(S bw bl bi ab:Nat)(n:Nat)(p k:Array Value)(iw:Side->aP->Bool)(nx:Side->aP->Int->Option (Fr×Side×aP)):Prop:=
 ∀aC w M av (room:Int),Kp (Tb s) oZ aC w0 w->Env aC s w S bw bl bi ab M av->Wk M->iw M av=true->Calls prog n (p.push (iZ room)++k) w fun e w'=>gP aC s w S bw bl bi ab M av (nx M av room) e w'
theorem qG.kp{oZ F:Own}{s:Nat}{w0 w1:World}{S bw bl bi ab n:Nat}{p k:Array Value}{iw:Side->aP->Bool}{nx:Side->aP->Int->Option (Fr×Side×aP)}(h:qG oZ s w0 S bw bl bi ab n p k iw nx)(K:Kp (Tb s) oZ F w0 w1):qG F s w1 S bw bl bi ab n p k iw nx:=
 fun aC w M av room G=>h aC w M av room (K.trans G)
theorem lI.kp{oZ F:Own}{s:Nat}{w0 w1:World}{S bw bl bi ab n:Nat}{p k:Array Value}{iw:Side->aP->Bool}(h:lI oZ s w0 S bw bl bi ab n p k iw)(K:Kp (Tb s) oZ F w0 w1):lI F s w1 S bw bl bi ab n p k iw:=
 fun aC w M av G=>h aC w M av (K.trans G)
theorem nQ.kp{oZ F:Own}{s:Nat}{w0 w1:World}{S bw bl bi ab n:Nat}{p k:Array Value}{iw:Side->aP->Bool}{nx:Side->aP->Int->Option (Fr×Side×aP)}(h:nQ oZ s w0 S bw bl bi ab n p k iw nx)(K:Kp (Tb s) oZ F w0 w1):nQ F s w1 S bw bl bi ab n p k iw nx:=
 fun aC w M av room G=>h aC w M av room (K.trans G)
structure Bx (oZ:Own) (s:Nat) (w:World) (b:Nat) (t:TypeId) (v:Value):Prop where
 ow:oZ b=s+47
 blk:aA w b t [v]
theorem Bx.kp{oZ aC:Own}{s:Nat}{w w':World}{b:Nat}{t:TypeId}{v:Value}(h:Bx oZ s w b t v)(K:Kp (Tb s) oZ aC w w'):Bx aC s w' b t v:=
 ⟨by rw[K.ext b h.blk.lt,h.ow],aO h.blk K (by rw[h.ow];exact fun e=>(f_.1 e).2.1 rfl)⟩
theorem Bx.below{oZ:Own}{s:Nat}{w w':World}{b:Nat}{t:TypeId}{v:Value}(h:Bx oZ s w b t v)(hb:aD w w'):Bx oZ s w' b t v:=⟨h.ow,bI hb h.blk⟩
theorem Bx.cell{oZ:Own}{s:Nat}{w:World}{b:Nat}{t:TypeId}{v:Value}(h:Bx oZ s w b t v):w.cell? (aj b 0)=some v:=h.blk.cell 0
theorem Im{oZ:Own}{s:Nat}{w0:World}{S bw bl bi ab:Nat}{n:Nat}{p k:Array Value}{iw:Side->aP->Bool}(I b2:Nat)(eg:∀args w,(callFunc n args).run prog w=.ok (.enter n args) w)(h1:Bx oZ s w0 I 128 (ay S 0))(h2:Bx oZ s w0 b2 28 (.func (.func n) p k))(h:lI oZ s w0 S bw bl bi ab n p k iw):lI oZ s w0 S bw bl bi ab 261 #[] #[ay I 0,ay b2 0] fun M av=> !M.full&&iw M av:=by
 intro aC w M av K hE O;have hc:=h aC w M av K hE O;obtain⟨l,vc,H,hA⟩:=hE;have x1:=(h1.kp K).cell;have x2:=(h2.kp K).cell;have kL:w.cell? (aj S 230)=some (.map (some bw)):=(H.blk.cell _).trans H.cells.kL;obtain⟨f,V,G,X⟩:=H.way;have F:=Uf bw _ w G (by rw[wz];have:=O.wl;omega);rw[wz]at F;have Z:Hid (Calls prog 262 #[.map (some bw)] w fun e w'=>e=.returned (.bool M.full)/\w'=w):=F;have HC:=au hc
 show Calls prog 261 #[ay I 0,ay b2 0] w fun e w'=>e=.returned (.bool (!M.full&&iw M av))/\aD w w'
 generalize iw M av=B at *;clear hc F G X V H hA O h h1 h2 K;generalize M.full=FU at *;cases FU
 ·go_enter func261,ntmps261
  go_wp2_with (first
   |(go_at_call 262;refine Z.out.mono ?_;rintro e w' ⟨rfl,rfl⟩)
   |(go_at_fn n;refine HC.out.mono ?_;rintro e w2 ⟨rfl,U⟩)
   |go_in)
  go_ret;exact⟨by simp,U⟩
 ·go_enter func261,ntmps261
  go_wp2_with (first
   |(go_at_call 262;refine Z.out.mono ?_;rintro e w' ⟨rfl,rfl⟩)
   |go_in)
  go_ret;exact⟨by simp,SF _ _⟩
theorem pz(oZ:Own)(w:World):Kp [] oZ (loc oZ w.heap.size) w w:=⟨rfl,rfl,rfl,tL _,fun _ _ _=>rfl,fun b hb=>fM oZ _ b hb⟩
theorem Uz{oZ:Own}{s:Nat}{w W y G:World}{S bw bl bi ab:Nat}{M':Side}{av:aP}(U:AnM oZ s w ab av)(hs:0<s)(X:aD w W)(hsz:w.heap.size<W.heap.size)(q:fP s (loc oZ w.heap.size) W S bw bl bi M' y)(ht:je w.heap.size y G):
  ∃aC,Kp (Tn s) oZ aC w G/\Env aC s G S bw bl bi ab M' av:=by
 obtain⟨aC,l',O,h1,K⟩:=q;have F:Kp (T0 s) oZ aC w y:=((pz oZ w).mono (by simp)).trans ((Kp.below X).trans K)
 have V:aC w.heap.size∈[0]:=by rw[K.ext _ hsz,fD _ _ _ (tL _)];simp
 have H:Kp [0] aC aC y G:=ht.kpt V;have I:Kp (Tn s) oZ aC w G:=⟨ht.os.trans F.os,ht.tape.trans F.tape,ht.output.trans F.output,by rw[ht.size];exact F.size,fun b hb Z=>(ht.block b (by omega)).trans (F.blk b hb (fun e=>Z (pq.2 (by have:=bN.1 e;omega)))),F.ext⟩;refine⟨aC,I,l',O,h1.kp H (fun x hx _ e=>by simp at e;omega),?_⟩;have:=U.kp (T:=T0 s) (aC:=aC) (w':=y) F (fun e=>by have:=bN.1 e;omega) (fun e=>by have:=bN.1 e;omega);exact this.kp H (by simp) (by simp)
theorem bT.loc{oZ:Own}{s:Nat}{w W:World}{S:Nat}{l:aI}{M:Side}{bw bl bi:Nat}{vc:Value}(h:bT oZ s w S l M bw bl bi vc)(F:aD w W):bT (loc oZ w.heap.size) s W S l M bw bl bi vc:=
 (h.kp (pz oZ w) (by simp)).below F
end Go.Proofs.YtphbledmopchnaaGreatDoor.Sd
namespace Go.Proofs.YtphbledmopchnaaGreatDoor.Sd
open Go.RowKit Go.Lib Mm Go.Maps Tryz
section
attribute [local go_sem] Oper.semAt_some
theorem zq:∀(fs:List Fr) (j i:Nat),j<fs.length->i<10->(iU fs)[j*10+i]?=(bZ (fs.getD j dS) nZ)[i]?
 |[],_,_,h,_=>by simp at h
 |f::t,0,i,_,hi=>by
  show(bZ f nZ++iU t)[0*10+i]?=_;rw[Nat.zero_mul,Nat.zero_add,List.getElem?_append_left (by exact hi)];rfl
 |f::t,j+1,i,h,hi=>by
  show(bZ f nZ++iU t)[(j+1)*10+i]?=_;have hl:(bZ f nZ).length=10:=rfl;rw[List.getElem?_append_right (by omega),hl,show(j+1)*10+i-10=j*10+i by omega,zq t j i (by simpa using h) hi];rfl
theorem Bz:∀(l:List (Nat×m_)) (y:Nat×m_),(l.Pairwise fun x z=>x.1≠z.1)->y∈l->l.Perm (y::l.filter fun z=> !decide (z.1=y.1))
 |[],_,_,h=>by cases h
 |a::t,y,hp,h=>by
  obtain⟨h1,F⟩:=List.pairwise_cons.1 hp
  by_cases e:a.1=y.1
  ·have G:y=a:=by
    rcases tT.1 h with h|h
    ·exact h
    ·exact absurd e (h1 y h)
   subst G;rw[List.filter_cons_of_neg (by simp),List.filter_eq_self.2 fun z hz=>by simpa using fun e=>h1 z hz e.symm]
  ·have H:y∈t:=by
    rcases tT.1 h with h|h
    ·exact absurd (by rw[h]) e
    ·exact h
   rw[List.filter_cons_of_pos (by simpa using e)];exact((Bz t y F H).cons a).trans (.swap _ _ _)
theorem I7(l m:List (Nat×m_)):frames (l++m)=frames l++frames m:=by simp[frames]
structure Ob (f:Nat->Option Addr×Nat) (b r t tf tr:Nat) (ls:List (Nat×m_)) (J:Own->List Fr->World->Prop) (oZ:Own) (y:World) (lp lr:List (Nat×m_)) (pre:List Fr):Prop where
 rg:oU y b r (ls.map (ent f)) (lr.map (ent f))
 ob:oZ b=t
 orr:oZ r=tr
 gs:∀x∈ls,GT oZ tf 65 10 y (.slice (f x.1).1 x.2.frames.length (f x.1).2) x.2.frames.length (iU x.2.frames)
 pm:(lp++lr).Perm ls
 j:J oZ pre y
theorem Ob.kp{f:Nat->Option Addr×Nat}{b r t tf tr:Nat}{ls:List (Nat×m_)}{J:Own->List Fr->World->Prop}{oZ aC:Own}{y y':World}{lp lr:List (Nat×m_)}{pre F:List Fr}{T:List Nat}(h:Ob f b r t tf tr ls J oZ y lp lr pre)(K:Kp T oZ aC y y')(h1:t∉T)(G:tf∉T)(H:tr∉T)(I:J aC F y'):
  Ob f b r t tf tr ls J aC y' lp lr F:=
 ⟨h.rg.kept (K.blk b h.rg.map.lt (by rw[h.ob];exact h1)) (K.blk r h.rg.lt (by rw[h.orr];exact H)),by rw[K.ext b h.rg.map.lt,h.ob],by rw[K.ext r h.rg.lt,h.orr],fun x O=>(h.gs x O).kp K G,h.pm,I⟩
theorem Ob.av{f:Nat->Option Addr×Nat}{b r t tf tr:Nat}{ls:List (Nat×m_)}{J:Own->List Fr->World->Prop}{oZ aC:Own}{y y':World}{lp lr:List (Nat×m_)}{pre:List Fr}{T:List Nat}(h:Ob f b r t tf tr ls J oZ y lp lr pre)(K:Kp T oZ aC y y')(h1:t∉T)(F:tr∉T):y'.rangeLeft b r=y.rangeLeft b r:=
 cK (K.blk b h.rg.map.lt (by rw[h.ob];exact h1)) (K.blk r h.rg.lt (by rw[h.orr];exact F))
theorem QU(F:Fence)(n:Nat)(hF:F.fn 243)(xr:F.round=none)(hn:1<=n)(L bx b t tf tr:Nat)(Ty:List Nat)(ls:List (Nat×m_))(xi:∀x∈ls,x.2.frames.length<=1000000)(ht:t∉Ty)(xx:tf∉Ty)(x3:tr∉Ty)(xf:tf≠tr)(J:Own->List Fr->World->Prop)(hJ:∀oZ aC pre W W',J oZ pre W->Kp [tr] oZ aC W W'->J aC pre W')(hY:∀oZ pre f W,J oZ pre W->(∃x∈ls,f∈x.2.frames)->YieldAt F (n-1) prog L #[bR f nZ] W fun e W'=>e=.returned (.bool true)/\∃aC,J aC (pre++[f]) W'/\Kp Ty oZ aC W W')(oZ:Own)(W:World)(hb:aA W bx 203 [.map (some b)])(h6:oq oZ t tf W b ls)(h0:J oZ [] W):
  CallsIn F n prog 243 #[.func (.yield L) #[] #[],ay bx 0] W fun e W'=>(∃v,e=.returned v)/\∃aC lp,lp.Perm ls/\J aC (frames lp) W':=by
 obtain⟨f,f1,f2,f3⟩:=h6
 have xj:ls.Pairwise fun x z=>x.1≠z.1:=by
  have:=f2.keys;rw[List.pairwise_map]at this;exact this
 have k0:W.cell? (aj bx 0)=some (.map (some b)):=hb.cell 0;have HJ:=au hJ;have HY:=au hY;have H0:=au (And.intro f1 (And.intro f3 h0));have HM:=au f2;clear hb f1 f2 f3 h0 hJ hY;refine callsIn_of_wp func243 rfl hF ?_ xr;simp only[ntmps243,List.size_toArray,List.length_cons,List.length_nil,Nat.reduceAdd,Nat.reduceSub,Array.replicate_succ,Array.replicate_zero,List.push_toArray,List.append_toArray,List.nil_append,List.cons_append]
 gi_wp2_with (first
  |(gi_at_range;refine I6 _ rfl _ rfl b _ rfl HM.out ?_;intro w0 h8 X xv)
  |fail)
 have H1:Hid (∃G,Ob f b W.heap.size t tf tr ls J G w0 [] ls []):=by
  obtain⟨G,ho⟩:∃G:Own,G=fun x=>if x<W.heap.size then oZ x else tr:=⟨_,rfl⟩
  have K:Kp [] oZ G W w0:=⟨X.os,X.tape,X.output,X.size,fun x Z _=>X.block x Z (by simp),fun x Z=>by rw[ho];exact if_pos Z⟩;exact⟨G,h8,by rw[K.ext b HM.out.lt];exact H0.out.1,by rw[ho];exact if_neg (qa2 _),fun x Z=>(H0.out.2.1 x Z).kp K (by simp),.refl _,HJ.out _ _ _ _ _ H0.out.2.2 (K.mono (by simp))⟩
 clear h8 X xv H0 HM k0
 go_frame
 gi_loopw [9] (fun _ wr=>∃oZ lp lr,Hid (Ob f b W.heap.size t tf tr ls J oZ wr lp lr (frames lp))) (fun _ wr=>wr.rangeLeft b W.heap.size)
 case atStart=>
  obtain⟨G,h1⟩:=H1.out;exact⟨G,[],ls,h1⟩
 case round=>
  obtain⟨G,lp,lr,H2⟩:=hrel;clear H1;have hw:=H2.out.rg;obtain⟨lf,h5⟩:∃lf,lf=lr.map (ent f):=⟨_,rfl⟩;rw[<-h5]at hw;have he:=au h5;clear h5
  gi_wp2_with (first
   |(gi_at_next;refine M5 _ rfl _ rfl b W.heap.size _ _ rfl hw ?_ ?_)
   |fail)
  ·intro h0;rw[he.out]at h0
   gi_wp2
   go_end0
   have xo:lr=[]:=by cases lr with
    |nil=>rfl
    |cons a t=>simp at h0
   have h:=H2.out;rw[xo]at h;exact⟨⟨_,rfl⟩,G,lp,by simpa using h.pm,h.j⟩
  ·intro xn xa xl xc xt w1 Z Hf V O I y0 hm;have H:=H2.out;obtain h5:=he.out;subst h5;obtain⟨y,hy,x6⟩:=DT.1 Z;simp only[ent,Prod.mk.injEq]at x6;obtain⟨rfl,rfl,rfl,rfl,rfl⟩:=x6
   have hv:lr.Pairwise fun x z=>x.1≠z.1:=by
    have:=(H.pm.pairwise_iff (fun{_ _} e=>Ne.symm e)).2 xj;exact(List.pairwise_append.1 this).2.1
   have x7:y∈ls:=H.pm.mem_iff.1 (uj.2 (.inr hy));have h9:=Bz lr y hv hy
   have h6:(lr.map (ent f)).filter (fun z=> !decide (z.1=y.1))=(lr.filter fun z=> !decide (z.1=y.1)).map (ent f):=by rw[Kt];rfl
   rw[h6]at V;generalize xy:(lr.filter fun z=> !decide (z.1=y.1))=U at V h9
   have Zl:((lp++[y])++U).Perm ls:=by
    rw[WJ];exact((List.Perm.refl lp).append h9.symm).trans H.pm
   have K1:Kp [tr] G G wr w1:=⟨I.os,I.tape,I.output,I.size,fun b' xd hn=>I.block b' xd (fun e=>hn (by cases e;rw[H.orr];simp)),fun _ _=>rfl⟩
   have xp:tf∉[tr]:=by simpa using xf
   obtain⟨W3,h3⟩:∃W3,W3=w1.alloc (.cells #[.slice (f y.1).1 y.2.frames.length (f y.1).2,uZ y.2.tick] 289):=⟨_,rfl⟩
   have K3:Kp [] G G w1 W3:=by rw[h3];exact Kp.alloc _ _ _ _
   have H3:Hid (Ob f b W.heap.size t tf tr ls J G W3 (lp++[y]) U (frames lp)):=by
    have a:Ob f b W.heap.size t tf tr ls J G w1 (lp++[y]) U (frames lp):=
     ⟨V,by rw[K1.ext b H.rg.map.lt];exact H.ob,H.orr,fun x Z=>(H.gs x Z).kp K1 xp,Zl,HJ.out _ _ _ _ _ H.j K1⟩
    exact a.kp K3 (by simp) (by simp) (by simp) (HJ.out _ _ _ _ _ a.j (K3.mono (by simp)))
   have x9:W3.rangeLeft b W.heap.size<wr.rangeLeft b W.heap.size:=by
    rw[(H3.out.av (y':=W3) (Kp.refl [] _ _) (by simp) (by simp)),h3]
    have:(w1.alloc (.cells #[.slice (f y.1).1 y.2.frames.length (f y.1).2,uZ y.2.tick] 289)).rangeLeft b W.heap.size=w1.rangeLeft b W.heap.size:=by
     rw[<-h3];exact cK (K3.blk b (nI H.rg.map.lt I.size) (by simp)) (K3.blk _ (nI H.rg.lt I.size) (by simp))
    rw[this];exact O
   have y3:=xi y x7;have N_:=au (And.intro x7 (Eq.refl (frames (lp++[y]))));clear H Z V O I Zl h9 xy h6 hv hy K1 K3;simp only[qX]at hm ⊢
   gi_wp2
   rw[<-h3];clear h3 hm;generalize hr:y.2.frames=fs at *;generalize x4:(f y.1).1=xa at *;generalize x5:(f y.1).2=xc at *;have h2:=au (And.intro hr (And.intro x4 x5));clear hr x4 x5
   gi_loopw [16] (fun ha w2=>∃(j:Nat) (dx:Own),j<=fs.length/\ha=(iZ j)/\Hid (Ob f b W.heap.size t tf tr ls J dx w2 (lp++[y]) U (frames lp++fs.take j))/\w2.rangeLeft b W.heap.size=W3.rangeLeft b W.heap.size) (fun ha _=>fs.length-(intOf ha).toNat)
   case atStart=>exact⟨0,G,Nat.zero_le _,rfl,(by rw[List.take_zero,List.append_nil];exact H3),rfl⟩
   case round=>
    obtain⟨j,dx,hj,rfl,H4,h4⟩:=hrel
    by_cases O:j<fs.length
    ·have xz:(j:Int)<(fs.length:Int):=by omega
     have hG:GT dx tf 65 10 wr (.slice xa fs.length xc) fs.length (iU fs):=by
      have:=H4.out.gs y N_.out.1;rwa[h2.out.1,h2.out.2.1,h2.out.2.2]at this
     obtain⟨g,hg,_,_,xe,_⟩:=hG.cell (j*10+0) _ (zq fs j 0 O (by omega))
     have hc:∀i x,i<10->(bZ (fs.getD j dS) nZ)[i]?=some x->wr.cell? (aj g (j*10+i))=some x:=fun i x hi Z=>by
      obtain⟨g',hu,_,_,h',_⟩:=hG.cell (j*10+i) x ((zq fs j i O hi).trans Z);rw[hg]at hu
      have:g=g':=by simpa using hu
      rw[this];exact h'
     clear xe hG
     have h7:fs.getD j dS∈fs:=by
      rw[mR,fA O];exact List.getElem_mem O
     have x0:fs.take (j+1)=fs.take j++[fs.getD j dS]:=by
      rw[E8,mR,fA O];rfl
     have J8:=au (And.intro x0 h7);clear x0 h7;generalize fs.getD j dS=ff at *;have c0:=hc 0 _ (by omega) rfl;have c1:=hc 1 _ (by omega) rfl;have c2:=hc 2 _ (by omega) rfl;have c3:=hc 3 _ (by omega) rfl;have c4:=hc 4 _ (by omega) rfl;have c5:=hc 5 _ (by omega) rfl;have c6:=hc 6 _ (by omega) rfl;have c7:=hc 7 _ (by omega) rfl;have c8:=hc 8 _ (by omega) rfl;have c9:=hc 9 _ (by omega) rfl;clear hc;subst hg;simp only[Nat.add_zero]at c0;obtain⟨W5,rQ⟩:∃W5,W5=wr.alloc (.cells (bZ ff nZ).toArray 65):=⟨_,rfl⟩
     have K5:Kp [] dx dx wr W5:=by rw[rQ];exact Kp.alloc _ _ _ _
     have H5:Hid (Ob f b W.heap.size t tf tr ls J dx W5 (lp++[y]) U (frames lp++fs.take j)):=H4.out.kp K5 (by simp) (by simp) (by simp) (HJ.out _ _ _ _ _ H4.out.j (K5.mono (by simp)));have xm:=H4.out.av K5 (by simp) (by simp);obtain⟨fn,tmps,assign,body,hy,hR⟩:=HY.out dx _ ff W5 H5.out.j ⟨y,N_.out.1,by rw[h2.out.1];exact J8.out.2⟩;rw[rQ]at hy hR;unfold bR at hy;simp only[bZ]at hy hR;have x8:=au rQ;clear rQ K5
     gi_wp2
     refine hR.mono ?_;rintro e w6 ⟨rfl,nP,hk,K6⟩
     have H6:Hid (Ob f b W.heap.size t tf tr ls J nP w6 (lp++[y]) U (frames lp++fs.take (j+1))/\w6.rangeLeft b W.heap.size=W3.rangeLeft b W.heap.size):=by
      have hf:Kp Ty dx nP W5 w6:=by rw[x8.out];exact K6
      refine⟨H5.out.kp hf ht xx x3 ?_,?_⟩
      ·rw[J8.out.1,<-WJ];exact hk
      ·rw[H5.out.av hf ht x3,xm,h4]
     clear hk K6 hR hy c0 c1 c2 c3 c4 c5 c6 c7 c8 c9
     gi_wp2
     go_roundw
     case rel=>exact⟨j+1,nP,by omega,by simp,H6.out.1,H6.out.2⟩
     case measure=>simp[intOf];omega
    ·obtain rfl:j=fs.length:=by omega
     gi_wp2
     go_roundw
     case rel=>
      refine⟨dx,lp++[y],U,?_⟩;have h:=H4.out;rw[List.take_length]at h
      have e:frames (lp++[y])=frames lp++fs:=by
       rw[I7];simp[frames,h2.out.1]
      rw[e];exact h
     case measure=>rw[h4];exact x9
end
end Go.Proofs.YtphbledmopchnaaGreatDoor.Sd
namespace Go.Proofs.YtphbledmopchnaaGreatDoor.Sd
open Go.RowKit Go.Lib Mm Tryz
theorem qp(oZ:Own)(k:Nat):∀n,∃t,k<=t/\∀b,b<n->oZ b<t
 |0=>⟨k,tL _,fun _ h=>absurd h (qa1 _)⟩
 |n+1=>by
  obtain⟨t,h1,F⟩:=qp oZ k n;refine⟨max t (oZ n+1),by omega,fun b hb=>?_⟩
  by_cases e:b=n
  ·subst e;omega
  ·have:=F b (by omega);omega
theorem Kp.less{T U:List Nat}{oZ aC:Own}{w w':World}(h:Kp (U++T) oZ aC w w')(F:∀b,b<w.heap.size->oZ b∉U):Kp T oZ aC w w':=
 ⟨h.os,h.tape,h.output,h.size,fun b hb G=>h.blk b hb (fun e=>(uj.1 e).elim (F b hb) G),h.ext⟩
theorem nH{n:Nat}(hn:2<=n){Q:Exit->Act->World->Prop}{a:Act}{F:World}{g:Operand}{p:Tmp}{assign body:Code}(bx b t tf tr X tD:Nat)(Ty:List Nat)(ls:List (Nat×m_))(nP:Own)(J0:Own->List Fr->World->Prop)(x9:a.eval g=.func (.func 243) #[] #[ay bx 0])(hc:aA F bx 203 [.map (some b)])(x8:oq nP t tf F b ls)(x7:∀x∈ls,x.2.frames.length<=1000000)(ht:t∉Ty)(xe:tf∉Ty)(xf:tr∉Ty)(xd:X∉Ty)(xa:tD∉Ty)(hd:tf≠tr/\X≠tr/\tD≠tr/\X≠tD)(hJ:∀oZ aC pre W W',J0 oZ pre W->Kp [X,tr] oZ aC W W'->J0 aC pre W')(h0:J0 nP [] F)(hB:∀L oZ pre f W,L<W.heap.size->J0 oZ pre W->(∃x∈ls,f∈x.2.frames)->assign.wpIn (Fence.wide.inRound L) (n-1-1) prog
   (Exit.then (fun a₁ w₁=>Kp [] oZ oZ W w₁/\∀w₂,(∀k,k≠L->w₂.heap[k]?=w₁.heap[k]?)->w₂.heap.size=w₁.heap.size->J0 oZ pre w₂->body.wpIn (Fence.wide.inRound L) (n-1-1) prog (fun e _ W6=>e=.normal/\∃aC,J0 aC (pre++[f]) W6/\Kp Ty oZ aC w₂ W6) a₁ w₂) (fun _ _ _=>False))
   {tmps:=a.tmps.setIfInBounds p (bR f nZ),defers:=[]} W)(hQ:∀aC lp W' D,lp.Perm ls->J0 aC (frames lp) W'->F.heap.size<=D->aC D=tD->W'.heap[D]?=some (.deferred (some []))->Q .normal {a with defers:=[{target:=.collected D,args:=#[]}]++a.defers} W'):
  (Code.rangeFunc g #[p] assign body).wpIn Fence.wide n prog Q a F:=by
 refine St.abstractRange (fun ag bd a0 has x5 h6=>wpIn_rangeFunc ?_);intro fn _
 obtain⟨H,G⟩:∃H:LoopState->Option Code->Loop,H=fun st pe=>{state:=st,pending:=pe,fn:=fn,tmps:=a0.tmps,params:=#[p],assign:=ag,body:=bd,defers:=F.heap.size}:=⟨_,rfl⟩
 obtain⟨A,hA⟩:∃A,A=(F.alloc (.deferred (some []))).alloc (.loop (H .ready none)):=⟨_,rfl⟩
 have xj:A.heap.size=F.heap.size+2:=by rw[hA];simp
 have MW:aD F A:=by rw[hA];exact((SF _ F).alloc (tL _) _).alloc (by simp) _
 have x3:A.heap[F.heap.size+1]?=some (.loop (H .ready none)):=by rw[hA];have:=Ui (F.alloc (.deferred (some []))) (.loop (H .ready none));rwa[World.size_alloc]at this
 have hu:A.heap[F.heap.size]?=some (.deferred (some [])):=by rw[hA];exact(Below.heap_alloc _ _ _ (by simp)).trans (Ui F _)
 obtain⟨Kl,h8⟩:∃Kl:Own,Kl=fun x=>if x<F.heap.size then nP x else if x=F.heap.size then tD else X:=⟨_,rfl⟩
 have K4:Kp [] nP Kl F A:=⟨MW.os,MW.tape,MW.output,MW.size,fun x hx _=>MW.block x hx,fun x hx=>by rw[h8];exact if_pos hx⟩
 have oL:Kl (F.heap.size+1)=X:=by rw[h8];simp only;rw[if_neg (by omega),if_neg (by omega)]
 have oD:Kl F.heap.size=tD:=by rw[h8];simp only;rw[if_neg (by omega),if_pos trivial]
 refine⟨F.heap.size+1,[{target:=.collected F.heap.size,args:=#[]}],A,{target:=.fn (.func 243) #[ay bx 0],args:=#[.func (.yield (F.heap.size+1)) #[] #[]]},A,243,#[.func (.yield (F.heap.size+1)) #[] #[],ay bx 0],A,?_,?_,fun _ _=>trivial,?_,fun _=>by omega,?_⟩
 ·rw[hA,G];exact run_enterLoop_outer _ _ _ _ _
 ·rw[h6];simp[resolve,x9];simp[Deferred.ofValue,Act.eval,go_sem]
 ·simp[invoke,go_sem]
 ·refine(QU Fence.wide (n-1) trivial rfl (by omega) (F.heap.size+1) bx b t tf tr Ty ls x7 ht xe xf hd.1
   (fun oZ pre W=>J0 oZ pre W/\oZ (F.heap.size+1)=X/\W.heap[F.heap.size+1]?=some (.loop (H .ready none))/\oZ F.heap.size=tD/\W.heap[F.heap.size]?=some (.deferred (some [])))
   (fun oZ aC pre W W' h K=>?_) (fun oZ pre f W h hf=>?_) Kl A (hc.of_heap (MW.block _ hc.lt)) (x8.kp K4 (by simp) (by simp)) ⟨hJ _ _ _ _ _ h0 (K4.mono (by simp)),oL,x3,oD,hu⟩).mono ?_
  ·obtain⟨h1,h2,h3,h4,h5⟩:=h;have lL:=(fB.1 h3).1;have lD:=(fB.1 h5).1;exact⟨hJ _ _ _ _ _ h1 (K.mono (by simp)),by rw[K.ext _ lL,h2],(K.blk _ lL (by rw[h2];simpa using hd.2.1)).trans h3,by rw[K.ext _ lD,h4],(K.blk _ lD (by rw[h4];simpa using hd.2.2.1)).trans h5⟩
  ·obtain⟨h1,h2,h3,h4,h5⟩:=h;have lL:=(fB.1 h3).1;have lD:=(fB.1 h5).1;have hy:=run_yield (P:=prog) (args:=#[bR f nZ]) h3 (by rw[G];rfl);rw[G]at hy;refine⟨fn,a.tmps.setIfInBounds p (bR f nZ),ag,bd,by rw[hy,h6];simp,roundIn_of_wpIn trivial ?_⟩;rw[has,x5];refine wpIn_mono (hB (F.heap.size+1) oZ pre f W lL h1 hf) ?_;intro e a1 w1 hh
   cases e with
   |normal=>
    obtain⟨I,x4⟩:=hh;have hw:=(I.blk _ lL (by simp)).trans h3;obtain⟨w2,V⟩:∃w2,w2=w1.putObj (F.heap.size+1) (.loop {H .ready none with state:=.busy}):=⟨_,rfl⟩
    have x6:(Instr.beginRound (F.heap.size+1)).run prog w1=.ok () w2:=by rw[V];exact run_beginRound hw (by rw[G])
    have s2:w2.heap.size=w1.heap.size:=by rw[V];simp
    have o2:∀k,k≠F.heap.size+1->w2.heap[k]?=w1.heap[k]?:=fun k O=>by rw[V];exact Am O
    have hm:F.heap.size+1<w1.heap.size:=nI lL I.size
    have x0:w2.heap[F.heap.size+1]?=some (.loop {H .ready none with state:=.busy}):=by rw[V];exact R3 hm
    have e2:w2.os=w1.os/\w2.tape=w1.tape/\w2.output=w1.output:=by rw[V];exact⟨rfl,rfl,rfl⟩
    have K2:Kp [X,tr] oZ oZ W w2:=⟨e2.1.trans I.os,e2.2.1.trans I.tape,e2.2.2.trans I.output,by rw[s2];exact I.size,fun k O hn=>by
     have:k≠F.heap.size+1:=fun e=>hn (by rw[e,h2];simp)
     rw[o2 k this];exact I.blk k O (by simp),fun _ _=>rfl⟩
    refine⟨w2,x6,wpIn_mono (x4 w2 o2 s2 (hJ _ _ _ _ _ h1 K2)) ?_⟩;rintro e a6 W6 ⟨rfl,gq,hv,Z⟩
    have ho:F.heap.size+1<w2.heap.size:=by rw[s2];exact hm
    have h9:=(Z.blk _ ho (by rw[h2];exact xd)).trans x0;have hg:=run_endRound (P:=prog) none h9;obtain⟨W7,Oa⟩:∃W7,W7=W6.putObj (F.heap.size+1) (.loop (H .ready none)):=⟨_,rfl⟩;have xi:=(fB.1 h9).1
    have o7:∀k,k≠F.heap.size+1->W7.heap[k]?=W6.heap[k]?:=fun k O=>by rw[Oa];exact Am O
    have s7:W7.heap.size=W6.heap.size:=by rw[Oa];simp
    have e7:W7.os=W6.os/\W7.tape=W6.tape/\W7.output=W6.output:=by rw[Oa];exact⟨rfl,rfl,rfl⟩
    have ha:W7.heap[F.heap.size+1]?=some (.loop (H .ready none)):=by rw[Oa];exact R3 xi
    have hr:gq (F.heap.size+1)=X:=by rw[Z.ext _ ho,h2]
    have hj:F.heap.size<w2.heap.size:=by rw[s2];exact nI lD I.size
    have K7:Kp [X,tr] gq gq W6 W7:=⟨e7.1,e7.2.1,e7.2.2,by rw[s7];exact tL _,fun k O hn=>o7 k (fun e=>hn (by rw[e,hr];simp)),fun _ _=>rfl⟩;refine⟨.bool true,W7,by rw[hg,Oa,G];rfl,rfl,gq,⟨hJ _ _ _ _ _ hv K7,hr,ha,by rw[Z.ext _ hj,h4],?_⟩,?_⟩
    ·rw[o7 _ (by omega),Z.blk _ hj (by rw[h4];exact xa),o2 _ (by omega),I.blk _ lD (by simp),h5]
    ·refine⟨e7.1.trans (Z.os.trans (e2.1.trans I.os)),e7.2.1.trans (Z.tape.trans (e2.2.1.trans I.tape)),e7.2.2.trans (Z.output.trans (e2.2.2.trans I.output)),by rw[s7];exact Nat.le_trans I.size (by rw[<-s2];exact Z.size),fun k O hn=>?_,fun k O=>Z.ext k (by rw[s2];exact nI O I.size)⟩
     by_cases h7:k=F.heap.size+1
     ·rw[h7,ha,h3]
     ·rw[o7 k h7,Z.blk k (by rw[s2];exact nI O I.size) hn,o2 k h7,I.blk k O (by simp)]
   |ret=>exact hh
   |exit i=>exact hh
   |goto i=>exact hh
   |panic c=>exact hh
   |outgrown=>exact hh
  ·rintro e W ⟨⟨v,rfl⟩,jY,lp,hp,h1,h2,h3,h4,h5⟩;have lL:=(fB.1 h3).1;obtain⟨U,um⟩:∃U,U=W.putObj (F.heap.size+1) (.loop {H .ready none with state:=.exhausted}):=⟨_,rfl⟩
   have he:(Instr.endLoop (F.heap.size+1)).run prog W=.ok none U:=by
    have:=run_endLoop (P:=prog) h3 (by rw[G];simp);rw[um];rw[G]at this ⊢;exact this
   have o4:∀k,k≠F.heap.size+1->U.heap[k]?=W.heap[k]?:=fun k O=>by rw[um];exact Am O
   have s4:U.heap.size=W.heap.size:=by rw[um];simp
   have e4:U.os=W.os/\U.tape=W.tape/\U.output=W.output:=by rw[um];exact⟨rfl,rfl,rfl⟩
   refine⟨none,U,he,?_⟩;have K5:Kp [X,tr] jY jY W U:=⟨e4.1,e4.2.1,e4.2.2,by rw[s4];exact tL _,fun k O hn=>o4 k (fun e=>hn (by rw[e,h2];simp)),fun _ _=>rfl⟩;have:=hQ jY lp U F.heap.size hp (hJ _ _ _ _ _ h1 K5) (tL _) h4 ((o4 _ (by omega)).trans h5);rw[h6];exact this
theorem oq.take{oZ:Own}{t tf:Nat}{w:World}{b:Nat}{l:List (Nat×m_)}(h:oq oZ t tf w b l)(I:tf≠t)(hl:l.length<100000)(g:Nat)(p k:Array Value)(eg:∀args w,(callFunc g args).run prog w=.ok (.enter g args) w)(H:Nat->Nat->Bool)(tn:Nat)(hw:∀x∈l,∀v:Option Addr×Nat×Nat×Nat,v.2.2.2=x.2.tick->∀W:World,w.grownBy W (some b)->Calls prog g (p++(#[uZ x.1,qX v]++k)) W fun e W'=>e=.returned (.bool (H x.1 x.2.tick))/\aD W W'):
  Calls prog 191 #[.map (some b),.func (.func g) p k] w fun e w'=>e=.returned (.map (some w.heap.size))/\∃aC,oq aC t tf w' b (l.filter fun x=> !H x.1 x.2.tick)/\oq aC tn tf w' w.heap.size (l.filter fun x=>H x.1 x.2.tick)/\Kp [t] oZ aC w w':=by
 obtain⟨f,h1,O,U⟩:=h;refine(Ug g p k b (l.map (ent f)) (fun e=>H e.1 e.2.2.2.2) w eg O (by rw[wz];exact hl) (fun x F W G=>?_)).mono ?_
 ·obtain⟨y,hy,rfl⟩:=DT.1 F;exact hw y hy _ rfl W G
 ·rintro e w' ⟨rfl,Z,m2,G⟩
  obtain⟨aC,X⟩:∃aC:Own,aC=fun x=>if x<w.heap.size then oZ x else tn:=⟨_,rfl⟩
  have K:Kp [t] oZ aC w w':=⟨G.os,G.tape,G.output,G.size,fun x F hn=>G.block x F (fun e=>hn (by cases e;rw[h1];simp)),fun x F=>by rw[X];exact if_pos F⟩;rw[Kt]at Z m2
  have V:tf∉[t]:=by simpa using I
  refine⟨rfl,aC,⟨f,by rw[K.ext b O.lt,h1],Z,fun x F=>(U x (sQ.1 F).1).kp K V⟩,⟨f,by rw[X];exact if_neg (qa2 _),m2,fun x F=>(U x (sQ.1 F).1).kp K V⟩,K⟩
end Go.Proofs.YtphbledmopchnaaGreatDoor.Sd
namespace Go.Proofs.YtphbledmopchnaaGreatDoor.Sd
open Go.RowKit Go.Lib Mm Go.Maps Tryz
structure Oc (w:World) (b r:Nat) (l:List gM) (want:gM->Bool) (y:World) (cur lf:List gM):Prop where
 rg:oU y b r cur lf
 cur:∀x,x∈cur↔x∈l/\(x∈lf\/want x=false)
 gr:w.grownBy y (some b)
theorem Oc.done{w:World}{b r:Nat}{l:List gM}{want:gM->Bool}{y:World}{cur:List gM}(h:Oc w b r l want y cur [])(hl:l.Nodup):jh y b (l.filter fun x=> !want x):=by
 refine h.rg.map.perm (sM h.rg.map.nodup (hl.filter _) fun x=>?_);rw[h.cur,sQ];simp
theorem Oc.stay{w:World}{b r:Nat}{l:List gM}{want:gM->Bool}{y z:World}{cur lf F:List gM}(h:Oc w b r l want y cur lf)(x:gM)(K:∀y,y∈l->(y∈F↔y∈lf/\y≠x))(U:want x=false)(H:oU z b r cur F)(O:w.grownBy z (some b)):Oc w b r l want z cur F:=by
 refine⟨H,fun e=>?_,O⟩;rw[h.cur]
 refine and_congr_right fun I=>?_
 rw[K e I]
 by_cases G:e=x
 ·rw[G];simp[U]
 ·simp[G]
theorem Oc.go{w:World}{b r:Nat}{l:List gM}{want:gM->Bool}{y z:World}{cur lf I:List gM}(h:Oc w b r l want y cur lf)(hk:∀e∈l,∀V∈l,e.1=V.1->e=V)(x:gM)(hx:x∈lf)(Z:∀y,y∈l->(y∈I↔y∈lf/\y≠x))(hw:want x=true)(hR:oU z b r (cur.filter fun e=> !decide (e.1=x.1)) (I.filter fun e=> !decide (e.1=x.1)))(hg:w.grownBy z (some b)):
  Oc w b r l want z (cur.filter fun e=> !decide (e.1=x.1)) (I.filter fun e=> !decide (e.1=x.1)):=by
 have U:x∈l:=((h.cur x).1 (h.rg.sub x hx)).1
 have H:∀e∈l,((!decide (e.1=x.1))=true↔e≠x):=fun e he=>by
  simp only[Av,decide_eq_false_iff_not];exact⟨fun O G=>O (by rw[G]),fun O G=>O (hk e he x U G)⟩
 refine⟨hR,fun e=>?_,hg⟩;rw[sQ,sQ,h.cur];constructor
 ·rintro⟨⟨h1,K⟩,X⟩;refine⟨h1,K.imp (fun F=>⟨(Z e h1).2 ⟨F,(H e h1).1 X⟩,X⟩) id⟩
 ·rintro⟨h1,K⟩
  rcases K with⟨F,h5⟩|F
  ·exact⟨⟨h1,.inl ((Z e h1).1 F).1⟩,h5⟩
  ·refine⟨⟨h1,.inr F⟩,(H e h1).2 fun G=>?_⟩;rw[G,hw]at F;cases F
theorem Ak(g:Nat)(p k:Array Value)(b:Nat)(l:List gM)(want:gM->Bool)(w:World)(eg:∀args w,(callFunc g args).run prog w=.ok (.enter g args) w)(h:jh w b l)(hw:∀x∈l,∀W:World,w.grownBy W (some b)->Calls prog g (p++(#[uZ x.1,qX x.2]++k)) W fun e W'=>e=.returned (.bool (want x))/\aD W W'):
  Calls prog 194 #[.map (some b),.func (.func g) p k] w fun e w'=>e=.returned (.tuple #[])/\jh w' b (l.filter fun x=> !want x)/\w.grownBy w' (some b):=by
 have hm:=h.nodup;have hn:=h.lt;go_enter func194,ntmps194
 go_wp2_with (first
  |(at_range;refine jM _ rfl _ rfl b l rfl h ?_;intro w0 h6 h9 ho)
  |go_in)
 go_frame
 go_loopw [4] (fun _ wr=>∃cur lf:List gM,Hid (Oc w b w.heap.size l want wr cur lf)) (fun _ wr=>wr.rangeLeft b w.heap.size)
 case atStart=>exact⟨l,l,(⟨h6,fun x=>⟨fun Z=>⟨Z,.inl Z⟩,fun Z=>Z.1⟩,h9.but _⟩:Oc w b w.heap.size l want w0 l l)⟩
 case round=>
  obtain⟨cur,lf,hrel⟩:=hrel
  go_wp2_with (first
   |(at_next;refine kJ _ rfl _ rfl b w.heap.size cur lf rfl hrel.out.rg ?_ ?_)
   |go_in)
  ·intro h0;go_wp2;go_end0;subst h0;exact⟨rfl,hrel.out.done hm,hrel.out.gr⟩
  ·intro xn xa xl xc xt w1 Z Hf G hk ha hr h5;have H:=hrel.out;have U:(xn,xa,xl,xc,xt)∈l:=((H.cur _).1 (H.rg.sub _ Z)).1;obtain⟨W3,h3⟩:∃W3,W3=w1.alloc (.cells #[.slice xa xl xc,uZ xt] 289):=⟨_,rfl⟩
   have V:w1.grownBy W3 none:=by rw[h3];exact WA _ _ _
   have X:w.grownBy W3 (some b):=(H.gr.andThen ha (fun j hj=>by cases hj;exact .inl (tL _))).andThen V (fun j hj=>by cases hj);have hc:=hw _ U W3 X;have DF:oU W3 b w.heap.size cur (lf.filter fun y=> !decide (y.1=xn)):=G.kept (V.block _ G.map.lt (by simp)) (V.block _ G.lt (by simp))
   have h2:W3.rangeLeft b w.heap.size<wr.rangeLeft b w.heap.size:=by rw[(cK (V.block _ G.map.lt (by simp)) (V.block _ G.lt (by simp)))];exact hk
   have K:∀y,y∈l->(y∈(lf.filter fun y=> !decide (y.1=xn))↔y∈lf/\y≠(xn,xa,xl,xc,xt)):=fun y hy=>by
    rw[sQ]
    refine and_congr_right fun _=>?_
    simp only[Av,decide_eq_false_iff_not];exact⟨fun h4 e=>h4 (by rw[e]),fun h4 e=>h4 (h.inj hy U e)⟩
   cases O:want (xn,xa,xl,xc,xt)
   ·rw[O]at hc;have HX:=au (And.intro U (And.intro K (And.intro O Z)));have I:=au (And.intro X (And.intro DF h2));clear U K O Z X DF h2;simp only[qX]at h5 hc ⊢
    go_wp2_with (first
     |(go_at_fn g;rw[<-h3];refine hc.mono ?_;rintro e w2 ⟨rfl,F⟩)
     |go_in)
    go_roundw
    case rel=>
     exact⟨cur,_,(H.stay _ HX.out.2.1 HX.out.2.2.1 (I.out.2.1.kept (F.block _ I.out.2.1.map.lt) (F.block _ I.out.2.1.lt)) (I.out.1.andThen (fF F) (fun j hj=>by cases hj)):Oc _ _ _ _ _ _ _ _)⟩
    case measure=>rw[cK (F.block _ I.out.2.1.map.lt) (F.block _ I.out.2.1.lt)];exact I.out.2.2
   ·rw[O]at hc;have HX:=au (And.intro U (And.intro K (And.intro O Z)));have I:=au (And.intro X (And.intro DF h2));clear U K O Z X DF h2;simp only[qX]at h5 hc ⊢
    go_wp2_with (first
     |(go_at_fn g;rw[<-h3];refine hc.mono ?_;rintro e w2 ⟨rfl,F⟩)
     |(at_delete;refine mD _ rfl _ _ rfl b w.heap.size cur _ rfl (I.out.2.1.kept (F.block _ I.out.2.1.map.lt) (F.block _ I.out.2.1.lt)) xn rfl Hf ?_;intro w4 h7 hg hf;go_frame)
     |go_in)
    refine⟨⟨_,_,(H.go (fun e he e' h8=>h.inj he h8) (xn,xa,xl,xc,xt) HX.out.2.2.2 HX.out.2.1 HX.out.2.2.1 h7 ((I.out.1.andThen (fF F) (fun j hj=>by cases hj)).andThen hf (fun j hj=>by cases hj;exact .inr rfl)):Oc _ _ _ _ _ _ _ _)⟩,?_⟩;refine Nat.lt_of_le_of_lt hg ?_;rw[cK (F.block _ I.out.2.1.map.lt) (F.block _ I.out.2.1.lt)];exact I.out.2.2
structure CyF (w:World) (b b2 r:Nat) (l d:List gM) (y:World) (lf tk:List gM):Prop where
 rg:oU y b2 r l lf
 mp:jh y b tk
 tk:∀x,x∈tk↔x∈d\/(x∈l/\x∉lf)
 gr:w.grownBy y (some b)
theorem Vg(b b2:Nat)(l d:List gM)(w:World)(h:jh w b d)(h2:jh w b2 l)(V:b≠b2)(hl:l.length+d.length<100000)(h9:∀x∈l,∀y∈d,x.1≠y.1):
  Calls prog 193 #[.map (some b),.map (some b2)] w fun e w'=>e=.returned (.tuple #[])/\jh w' b (d++l)/\jh w' b2 l/\w.grownBy w' (some b):=by
 have hf:(d++l).Nodup:=List.nodup_append.2 ⟨h.nodup,h2.nodup,fun x I y hy e=>h9 y hy x I (by rw[e])⟩;have h8:=h.lt;go_enter func193,ntmps193
 go_wp2_with (first
  |(at_range;refine jM _ rfl _ rfl b2 l rfl h2 ?_;intro w0 hg ha hv)
  |go_in)
 go_frame
 go_loopw [4] (fun _ wr=>∃lf tk:List gM,Hid (CyF w b b2 w.heap.size l d wr lf tk)) (fun _ wr=>wr.rangeLeft b2 w.heap.size)
 case atStart=>exact⟨l,d,(⟨hg,h.kept (ha.block _ h8 (by simp)),fun x=>⟨fun I=>.inl I,fun I=>I.elim id fun I=>absurd I.1 I.2⟩,ha.but _⟩:CyF w b b2 w.heap.size l d w0 l d)⟩
 case round=>
  obtain⟨lf,tk,hrel⟩:=hrel
  go_wp2_with (first
   |(at_next;refine kJ _ rfl _ rfl b2 w.heap.size l lf rfl hrel.out.rg ?_ ?_)
   |go_in)
  ·intro h0;go_wp2;go_end0;subst h0;refine⟨rfl,hrel.out.mp.perm (sM hrel.out.mp.nodup hf fun x=>?_),hrel.out.rg.map,hrel.out.gr⟩;rw[hrel.out.tk,uj];simp
  ·intro xn xa xl xc xt w1 I Hf G hu h6 hw ho;have H:=hrel.out;have U:(xn,xa,xl,xc,xt)∈l:=H.rg.sub _ I
   have hr:tk.length<1000000:=by
    have:=JX H.mp.nodup hf fun x I=>uj.2 (((H.tk x).1 I).imp id fun h=>h.1)
    rw[List.length_append]at this;omega
   obtain⟨W3,h7⟩:∃W3,W3=w1.alloc (.cells #[.slice xa xl xc,uZ xt] 289):=⟨_,rfl⟩
   have K:w1.grownBy W3 none:=by rw[h7];exact WA _ _ _
   have hc:w.grownBy W3 (some b):=(H.gr.andThen h6 (fun j hj=>by cases hj;exact .inl (tL _))).andThen K (fun j hj=>by cases hj);have DF:oU W3 b2 w.heap.size l (lf.filter fun y=> !decide (y.1=xn)):=G.kept (K.block _ G.map.lt (by simp)) (K.block _ G.lt (by simp));have Uh:jh W3 b tk:=H.mp.kept ((K.block _ (nI H.mp.lt h6.size) (by simp)).trans (h6.block _ H.mp.lt (by simp;omega)))
   have he:W3.rangeLeft b2 w.heap.size<wr.rangeLeft b2 w.heap.size:=by rw[(cK (K.block _ G.map.lt (by simp)) (K.block _ G.lt (by simp)))];exact hu
   have h5:∀y∈tk,y.1≠xn:=fun y hy e=>by
    rcases(H.tk y).1 hy with F|F
    ·exact h9 _ U y F e.symm
    ·exact F.2 (by rw[h2.inj F.1 U e];exact I)
   have Z:∀y,y∈l->(y∈(lf.filter fun y=> !decide (y.1=xn))↔y∈lf/\y≠(xn,xa,xl,xc,xt)):=fun y hy=>by
    rw[sQ]
    refine and_congr_right fun _=>?_
    simp only[Av,decide_eq_false_iff_not];exact⟨fun V e=>V (by rw[e]),fun V e=>V (h2.inj hy U e)⟩
   have HX:=au (And.intro U (And.intro Z h5));have X:=au (And.intro hc (And.intro DF (And.intro Uh he)));clear U Z I hc DF he Uh h5;simp only[qX]at ho ⊢
   go_wp2_with (first
    |(at_mapUpdate;rw[<-h7];refine mF _ rfl _ _ _ rfl b tk rfl X.out.2.2.1 hr (xn,xa,xl,xc,xt) rfl rfl Hf HX.out.2.2 ?_;intro w3 hn O;go_frame)
    |go_in)
   have hm:=X.out.2.1.kept (O.block _ X.out.2.1.map.lt (by simp;omega)) (O.block _ X.out.2.1.lt (by simp;omega));refine⟨⟨_,_,(⟨hm,hn,fun e=>?_,X.out.1.andThen O (fun j hj=>by cases hj;exact .inr rfl)⟩:CyF _ _ _ _ _ _ _ _ _)⟩,?_⟩
   ·rw[tT,H.tk];constructor
    ·rintro(F|F|F)
     ·rw[F];exact .inr ⟨HX.out.1,fun h4=>((HX.out.2.1 _ HX.out.1).1 h4).2 rfl⟩
     ·exact .inl F
     ·exact .inr ⟨F.1,fun h4=>F.2 ((HX.out.2.1 _ F.1).1 h4).1⟩
    ·rintro(F|F)
     ·exact .inr (.inl F)
     ·by_cases hk:e=(xn,xa,xl,xc,xt)
      ·exact .inl hk
      ·exact .inr (.inr ⟨F.1,fun h4=>F.2 ((HX.out.2.1 _ F.1).2 ⟨h4,hk⟩)⟩)
   ·rw[cK (O.block _ X.out.2.1.map.lt (by simp;omega)) (O.block _ X.out.2.1.lt (by simp;omega))];exact X.out.2.2.2
end Go.Proofs.YtphbledmopchnaaGreatDoor.Sd
namespace Go.Proofs.YtphbledmopchnaaGreatDoor.Sd
open Go.RowKit Go.Lib Mm Tryz
theorem oq.drop{oZ:Own}{t tf:Nat}{w:World}{b:Nat}{l:List (Nat×m_)}(h:oq oZ t tf w b l)(H:tf≠t)(g:Nat)(p k:Array Value)(V:∀args w,(callFunc g args).run prog w=.ok (.enter g args) w)(I:Nat->Nat->Bool)(hw:∀x∈l,∀v:Option Addr×Nat×Nat×Nat,v.2.2.2=x.2.tick->∀W:World,w.grownBy W (some b)->Calls prog g (p++(#[uZ x.1,qX v]++k)) W fun e U=>e=.returned (.bool (I x.1 x.2.tick))/\aD W U):
  Calls prog 194 #[.map (some b),.func (.func g) p k] w fun e w'=>e=.returned (.tuple #[])/\oq oZ t tf w' b (l.filter fun x=> !I x.1 x.2.tick)/\Kp [t] oZ oZ w w':=by
 obtain⟨f,h1,X,Z⟩:=h;refine(Ak g p k b (l.map (ent f)) (fun e=>I e.1 e.2.2.2.2) w V X (fun x G W F=>?_)).mono ?_
 ·obtain⟨y,hy,rfl⟩:=DT.1 G;exact hw y hy _ rfl W F
 ·rintro e w' ⟨rfl,O,F⟩;have K:Kp [t] oZ oZ w w':=⟨F.os,F.tape,F.output,F.size,fun x G hn=>F.block x G (fun e=>hn (by cases e;rw[h1];simp)),fun x G=>rfl⟩;rw[Kt]at O
  have hf:tf∉[t]:=by simpa using H
  exact⟨rfl,⟨f,h1,O,fun x G=>(Z x (sQ.1 G).1).kp K hf⟩,K⟩
theorem oq.copy{oZ:Own}{t t2 tf:Nat}{w:World}{b b2:Nat}{d l:List (Nat×m_)}(h:oq oZ t tf w b d)(h2:oq oZ t2 tf w b2 l)(O:tf≠t)(ht:t≠t2)(hl:l.length+d.length<100000)(H:∀x∈l,∀y∈d,x.1≠y.1):
  Calls prog 193 #[.map (some b),.map (some b2)] w fun e w'=>e=.returned (.tuple #[])/\oq oZ t tf w' b (d++l)/\Kp [t] oZ oZ w w':=by
 obtain⟨f,h1,m1,g1⟩:=h;obtain⟨f2,h3,m2,g2⟩:=h2
 obtain⟨F,hF⟩:∃F:Nat->Option Addr×Nat,F=fun n=>if(l.any fun x=>decide (x.1=n))=true then f2 n else f n:=⟨_,rfl⟩
 have F2:∀x∈l,F x.1=f2 x.1:=fun x G=>by
  rw[hF];exact if_pos (ZH.2 ⟨x,G,by simp⟩)
 have Z:∀x∈d,F x.1=f x.1:=fun x G=>by
  rw[hF];refine if_neg (fun e=>?_);obtain⟨y,V,e⟩:=ZH.1 e;exact H y V x G (by simpa using e)
 have hb:b≠b2:=fun e=>ht (by rw[<-h1,<-h3,e])
 refine(Vg b b2 (l.map (ent f2)) (d.map (ent f)) w m1 m2 hb (by rw[wz,wz];exact hl) (fun x G y V=>?_)).mono ?_
 ·obtain⟨x',U,rfl⟩:=DT.1 G;obtain⟨y',X,rfl⟩:=DT.1 V;exact H x' U y' X
 ·rintro e w' ⟨rfl,m3,_,I⟩;have K:Kp [t] oZ oZ w w':=⟨I.os,I.tape,I.output,I.size,fun x G hn=>I.block x G (fun e=>hn (by cases e;rw[h1];simp)),fun x G=>rfl⟩
  have hf:tf∉[t]:=by simpa using O
  refine⟨rfl,⟨F,h1,?_,fun x G=>?_⟩,K⟩
  ·rw[Aw,Ur (g:=ent f) (fun x G=>by unfold ent;rw[Z x G]),Ur (l:=l) (g:=ent f2) (fun x G=>by unfold ent;rw[F2 x G])];exact m3
  ·rcases uj.1 G with G|G
   ·rw[Z x G];exact(g1 x G).kp K hf
   ·rw[F2 x G];exact(g2 x G).kp K hf
