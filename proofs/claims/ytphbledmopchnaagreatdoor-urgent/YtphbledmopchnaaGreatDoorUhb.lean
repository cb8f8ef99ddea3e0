import Derived.Test.YtphbledmopchnaaGreatDoorUha
import Derived.Test.YtphbledmopchnaaGreatDoorUgb
open Go.RowKit.Below renaming refl->uj
open List renaming getD_eq_getElem?_getD->fA,getElem?_eq_getElem->fB,getElem?_map->tL,length_map->Am,length_append->Av,getElem_mem->Aw,take_of_length_le->DT,getElem?_take->He,take_add_one->KG,mem_cons->Lb,map_map->R3
open Nat renaming le_refl->mR,lt_of_lt_of_le->tT,zero_le->E8,zero_add->SF
open Option renaming map_eq_some_iff->nI
open Prod renaming fst->sQ
open Go.World renaming block_lt_of_cell?->wz
set_option maxHeartbeats 4000000
set_option maxRecDepth 100000
namespace Go.Proofs.YtphbledmopchnaaGreatDoor.Sd
open Go.RowKit Go.Lib Mm Tryz
structure Sm (A A':Side):Prop where
 o:∀k,(A'.out k).bytes=(A.out k).bytes/\(A'.out k).fin=(A.out k).fin
 i:∀k,(A'.inn k).read=(A.inn k).read/\(A'.inn k).state=(A.inn k).state
theorem Sm.refl(A:Side):Sm A A:=⟨fun _=>⟨rfl,rfl⟩,fun _=>⟨rfl,rfl⟩⟩
theorem Sm.trans{A B C:Side}(h:Sm A B)(g:Sm B C):Sm A C:=
 ⟨fun k=>⟨(g.o k).1.trans (h.o k).1,(g.o k).2.trans (h.o k).2⟩,fun k=>⟨(g.i k).1.trans (h.i k).1,(g.i k).2.trans (h.i k).2⟩⟩
theorem ku(A:Side)(k:Nat)(o:Ot)(h1:o.bytes=(A.out k).bytes)(F:o.fin=(A.out k).fin):Sm A (A.bf k o):=
 ⟨fun j=>by
  rw[gK];split
  ·rename_i h;rw[h.1];exact⟨h1,F⟩
  ·exact⟨rfl,rfl⟩,fun _=>⟨rfl,rfl⟩⟩
theorem xk(A:Side)(k:Nat)(i:bU)(h1:i.read=(A.inn k).read)(F:i.state=(A.inn k).state):Sm A (A.dA k i):=
 ⟨fun _=>⟨rfl,rfl⟩,fun j=>by
  rw[gL];split
  ·rename_i h;rw[h.1];exact⟨h1,F⟩
  ·exact⟨rfl,rfl⟩⟩
theorem Rx(A:Side)(f:Fr):Sm A (A.dM f):=by
 unfold Side.dM;split
 ·exact ku _ _ _ rfl rfl
 ·split
  ·exact ku _ _ _ rfl rfl
  ·split
   ·exact xk _ _ _ rfl rfl
   ·exact⟨fun _=>⟨rfl,rfl⟩,fun _=>⟨rfl,rfl⟩⟩
theorem Ry(A:Side)(f:Fr):Sm A (A.bookC f):=by
 unfold Side.bookC;split
 ·exact ku _ _ _ rfl rfl
 ·split
  ·exact ku _ _ _ rfl rfl
  ·split
   ·exact xk _ _ _ rfl rfl
   ·exact⟨fun _=>⟨rfl,rfl⟩,fun _=>⟨rfl,rfl⟩⟩
theorem Du(g:Side->Fr->Side)(F:∀A f,Sm A (g A f)):∀(l:List Fr) (A:Side),Sm A (l.foldl g A)
 |[],A=>Sm.refl A
 |f::t,A=>(F A f).trans (Du g F t (g A f))
theorem Rz{A A':Side}(h:A.iG A'):Sm A A':=by
 unfold Side.iG at h;split at h
 ·obtain⟨lp,_,rfl⟩:=h;refine Sm.trans ?_ (Du _ Rx _ _);refine⟨fun k=>?_,fun k=>?_⟩
  ·show((A.outs.map gY).getD k su).bytes=(A.outs.getD k su).bytes/\((A.outs.map gY).getD k su).fin=(A.outs.getD k su).fin
   by_cases F:k<A.outs.length
   ·rw[getD_map gY su _ _ F];exact⟨rfl,rfl⟩
   ·rw[kg su _ _ (by simpa using F),kg su _ _ (by omega)];exact⟨rfl,rfl⟩
  ·show((A.ins.map fZ).getD k uH).read=(A.ins.getD k uH).read/\((A.ins.map fZ).getD k uH).state=(A.ins.getD k uH).state
   by_cases F:k<A.ins.length
   ·rw[getD_map fZ uH _ _ F];exact⟨rfl,rfl⟩
   ·rw[kg uH _ _ (by simpa using F),kg uH _ _ (by omega)];exact⟨rfl,rfl⟩
 ·rw[h];exact Sm.refl A
theorem RA{A A':Side}{l:aP}(h:A.sU l A'):Sm A A':=by
 obtain⟨lp,lq,_,_,rfl⟩:=h;exact Sm.trans (B:=A.WM l) ⟨fun _=>⟨rfl,rfl⟩,fun _=>⟨rfl,rfl⟩⟩ (Du _ Ry _ _)
theorem KD(i:bU)(f:Fr):(i.take f).read=i.read/\(i.take f).state=i.state:=⟨Cj _ _ _ bU.read _ rfl rfl,Cj _ _ _ bU.state _ rfl rfl⟩
theorem VK(A:Side)(f:Fr)(F:f.kind≠2)(G:f.kind≠3):Sm A (A.take f).1:=by
 unfold Side.take;rw[if_neg F];split
 ·split
  ·exact Sm.refl A
  ·split
   ·exact Sm.refl A
   ·exact xk _ _ _ (KD _ f).1 (KD _ f).2
 ·split
  ·exact Sm.refl A
  ·split
   ·unfold Side.Le;split
    ·exact Sm.refl A
    ·exact⟨fun _=>⟨rfl,rfl⟩,fun _=>⟨rfl,rfl⟩⟩
   ·split
    ·exact⟨fun _=>⟨rfl,rfl⟩,fun _=>⟨rfl,rfl⟩⟩
    ·split
     ·exact ku _ _ _ rfl rfl
     ·exact Sm.refl A
theorem RB{A A':Side}{e:Nat}{f:Fr}(H:f.kind≠3)(h:A.gJ f A' e):Sm A A':=by
 unfold Side.gJ at h;split at h
 ·split at h
  ·rw[h.1];exact Sm.refl A
  ·exact RA h.1
 ·rename_i G;have F:A'=(A.take f).1:=congrArg sQ h;rw[F];exact VK A f G H
theorem wm:∀(fs:List Fr) {A A':Side} {e:Nat},(∀f∈fs,f.kind≠3)->mJ A fs A' e->Sm A A'
 |[],A,A',e,_,h=>by obtain⟨rfl,_⟩:=h;exact Sm.refl _
 |f::t,A,A',e,hk,h=>by
  obtain⟨G,H,r,h⟩:=h;have s:=RB (hk f (by simp)) r;split at h
  ·exact s.trans (wm t (fun g F=>hk g (by simp[F])) h)
  ·rw[h.1];exact⟨s.o,s.i⟩
theorem zI{A A':Side}{n e:Nat}{fs:List Fr}(F:∀f∈fs,f.kind≠3)(h:A.iQ n fs A' e):Sm A A':=by
 unfold Side.iQ at h;split at h
 ·rw[h.1];exact Sm.refl A
 ·have s:=wm fs F h;exact⟨s.o,s.i⟩
theorem KE{o o':Ot}{k:Nat}{room:Int}{aB:Nat}{f:Fr}(h:o.next k room aB=some (f,o')):o'.bytes=o.bytes/\o'.fin=o.fin:=by
 obtain⟨e,_⟩:=vg h;rw[e];exact⟨rfl,rfl⟩
theorem RF{A A':Side}{av bH:aP}{u:Nat}{room:Int}{f:Fr}(h:A.frame av u room=some (f,A',bH)):Sm A A':=by
 unfold Side.frame at h;split at h
 ·split at h
  ·cases h
  ·have e:=Option.some.inj h;have F:A=A':=congrArg (fun x=>x.2.1) e;rw[<-F];exact Sm.refl A
 ·split at h
  ·obtain⟨y,_,e⟩:=nI.1 h;have F:({A with gr:=y.2}:Side)=A':=congrArg (fun x=>x.2.1) e;rw[<-F];exact⟨fun _=>⟨rfl,rfl⟩,fun _=>⟨rfl,rfl⟩⟩
  ·split at h
   ·obtain⟨y,_,e⟩:=nI.1 h;have F:=congrArg (fun x=>x.2.1) e;simp only at F;rw[<-F];exact xk _ _ _ rfl rfl
   ·split at h
    ·obtain⟨y,_,e⟩:=nI.1 h;have F:=congrArg (fun x=>x.2.1) e;simp only at F;rw[<-F];exact ku _ _ _ rfl rfl
    ·split at h
     ·split at h
      ·cases h
      ·obtain⟨y,_,e⟩:=nI.1 h;have F:=congrArg (fun x=>x.2.1) e;simp only at F;rw[<-F];exact⟨fun _=>⟨rfl,rfl⟩,fun _=>⟨rfl,rfl⟩⟩
     ·obtain⟨y,G,e⟩:=nI.1 h;have F:=congrArg (fun x=>x.2.1) e;simp only at F;rw[<-F];exact ku _ _ _ (KE (f:=y.1) (o':=y.2) G).1 (KE (f:=y.1) (o':=y.2) G).2
theorem qw:∀(n:Nat) (A:Side) (av:aP) (Q later:List Nat) (room:Int) (l:List Fr),Sm A (bO n A av Q later room l).1
 |0,A,_,_,_,_,_=>Sm.refl A
 |n+1,A,_,[],_,_,_=>Sm.refl A
 |n+1,A,av,u::Q,later,room,l=>by
  unfold bO
  by_cases F:A.waits av u=true
  ·simp only[F,if_true]
   cases hF:A.frame av u room with
   |none=>
    simp only;split
    ·exact qw n _ _ _ _ _ _
    ·exact Sm.refl A
   |some x=>
    obtain⟨f,G,H⟩:=x;exact(RF hF).trans (qw n _ _ _ _ _ _)
  ·simp only[F];exact qw n _ _ _ _ _ _
theorem BG:∀(n:Nat) (A:Side) (av:aP) (Q:List Nat) (l:List (Nat×List Fr)),Sm A (dJ n A av Q l).1
 |0,A,_,_,_=>Sm.refl A
 |n+1,A,av,Q,l=>by
  have s:Sm A (fill A av Q A.room).1:=qw _ _ _ _ _ _ _;unfold dJ;split
  ·exact s
  ·have:=BG n ((fill A av Q A.room).1.packet (fill A av Q A.room).2.2.2) (fill A av Q A.room).2.1 (fill A av Q A.room).2.2.1 (l++[(A.next,(fill A av Q A.room).2.2.2)]);exact s.trans ⟨this.o,this.i⟩
theorem Fj{A A':Side}{pk:List (Nat×List Fr)}(h:A.kY A' pk):Sm A A':=by
 obtain⟨F,hl,e⟩:=h;have s:=BG ((lf F).length+14) {F with answer:=false} (lf F) q0 [];rw[e]at s;exact(Rz hl).trans ⟨s.o,s.i⟩
theorem lV.kd{A B:Side}{f:Fr}(h:lV A B f):f.kind=2\/f.kind=4\/f.kind=5\/f.kind=6:=by
 rcases h with h|h|h|h
 ·exact .inl h.1
 ·exact .inr (.inl h.1)
 ·exact .inr (.inr (.inl h.1))
 ·exact .inr (.inr (.inr h.1))
theorem Jb(oZ:Own)(s:Nat)(S:Nat)(l:aI)(M:Side)(bw bl bi:Nat)(vc:Value)(f:Fr)(a:Option Addr)(c:Nat)(w:World)(h:bT oZ s w S l M bw bl bi vc)(hb:Bd M)(hr:fV w a f.ranges)(V:0<f.ranges.length)(h2:f.ranges.length<=1000000)(X:∀x,a=some x->oZ x.block∉T0 s)(O:(f.ranges.getD 0 (0,0)).2<M.next)(U:M.next<=aZ):
  Calls prog 233 #[ay S 0,bR f (.slice a f.ranges.length c)] w fun e w'=>e=.returned (iZ 0)/\∃G,M.sU f.ranges G/\fP s oZ w S bw bl bi G w':=by
 obtain⟨W,I⟩:∃W,W=w.alloc (.cells (bZ f (.slice a f.ranges.length c)).toArray 65):=⟨_,rfl⟩
 have K:aA W w.heap.size 65 (bZ f (.slice a f.ranges.length c)):=by rw[I];exact aA.new w 65 _
 have F:aD w W:=by rw[I];exact(uj _ w).alloc (mR _) _
 have HL:Hid (∀q,Calls prog 294 #[ay S 0,.slice a f.ranges.length c] (W.drewN q) fun e w'=>e=.returned (.tuple #[])/\∃G,M.sU f.ranges G/\fP s oZ w S bw bl bi G w'):=fun q=>by
  have H:aD w (W.drewN q):=jG F;refine(Vs oZ s S l M bw bl bi vc (W.drewN q) (h.below H) hb a c f.ranges (hr.below H) V h2 X O U).mono ?_;rintro e w' ⟨rfl,G,g1,o',l',v',g2,g3⟩;exact⟨rfl,G,g1,o',l',v',g2,(Kp.below H).trans g3⟩
 obtain⟨rb,ro,rfl,q0,q1,q2,q3⟩:=hr 0 V;have h0:rb<w.heap.size:=wz w _ (by rw[q0]);have Z:=h.below F;obtain⟨x0,x1,x2,x3,x4,x5,x6,x7,x8,x9,xf⟩:=aH K
 have dn:W.cell? (aj S 229)=some (uZ M.next):=by rw[Z.blk.cell];exact Z.cells.c229
 have dr:W.cell? (aj rb (ro+1))=some (uZ ((f.ranges.getD 0 (0,0)).2:Int)):=cell_of q1 (F.block _ h0)
 have h4:(0:Int)<(f.ranges.length:Int):=by omega
 have h3:¬(M.next:Int)<=((f.ranges.getD 0 (0,0)).2:Int):=by omega
 clear h hb hr X U q0 q1 q2 q3 Z K F O;generalize (f.ranges.getD 0 (0,0)).2=hi at *;generalize M.next=nx at *;generalize f.ranges.length=rl at *;unfold bR;unfold bZ at I;go_enter func233,ntmps233;go_wp2;rw[<-I];clear I
 go_quiet (fail)
 go_wp2_with (go_at_call 294;refine(HL.out _).mono ?_;rintro e w1 ⟨rfl,HE⟩)
 go_ret;exact⟨rfl,HE⟩
theorem bT.lim{oZ:Own}{s:Nat}{w w':World}{S:Nat}{l l':aI}{M:Side}{bw bl bi:Nat}{vc:Value}(h:bT oZ s w S l M bw bl bi vc)(n:Nat)(q:dL w w' S l l' 220 1)(F:l'[220]?=some (uZ n)):fP s oZ w S bw bl bi {M with limit:=n} w':=by
 have c:=h.cells
 have e:∀j,j≠220->l'[j]?=l[j]?:=fun j G=>q.win.2 j (by omega)
 exact h.cell 220 1 (by omega) q ⟨q.win.1.trans c.len,(e _ (by omega)).trans c.c0,(e _ (by omega)).trans c.c1,(e _ (by omega)).trans c.c2,(e _ (by omega)).trans c.c3,F,c.gr.win q.win (by omega),
  (e _ (by omega)).trans c.oh,(e _ (by omega)).trans c.c226,(e _ (by omega)).trans c.c227,(e _ (by omega)).trans c.c228,(e _ (by omega)).trans c.c229,(e _ (by omega)).trans c.kL,(e _ (by omega)).trans c.nC,(e _ (by omega)).trans c.c232,(e _ (by omega)).trans c.c233,
  (e _ (by omega)).trans c.c234,(e _ (by omega)).trans c.nD,(e _ (by omega)).trans c.c236,(e _ (by omega)).trans c.o9,(e _ (by omega)).trans c.kM,(e _ (by omega)).trans c.o_⟩ rfl rfl rfl rfl rfl rfl rfl
structure FrC (M:Side) (f:Fr):Prop where
 kd:f.kind=2\/f.kind=4\/f.kind=5\/f.kind=6
 ack:f.kind=2->0<f.ranges.length/\f.ranges.length<=1000000/\(f.ranges.getD 0 (0,0)).2<M.next
 st:f.kind=4\/f.kind=6->0<=f.stream/\f.stream<8
 dt:f.kind=4->aJ f<=2048
 ok:f.kind≠2->(M.take f).2=0
theorem Vv(oZ:Own)(s:Nat)(S:Nat)(l:aI)(M:Side)(bw bl bi:Nat)(vc:Value)(f:Fr)(a:Option Addr)(c:Nat)(w:World)(h:bT oZ s w S l M bw bl bi vc)(hb:Bd M)(K:FrC M f)(hr:fV w a f.ranges)(V:∀x,a=some x->oZ x.block∉T0 s)(U:M.next<=aZ):
  Calls prog 183 #[ay S 0,bR f (.slice a f.ranges.length c)] w fun e w'=>e=.returned (iZ 0)/\∃G,M.gJ f G 0/\fP s oZ w S bw bl bi G w':=by
 obtain⟨W,I⟩:∃W,W=w.alloc (.cells (bZ f (.slice a f.ranges.length c)).toArray 65):=⟨_,rfl⟩
 have O:aA W w.heap.size 65 (bZ f (.slice a f.ranges.length c)):=by rw[I];exact aA.new w 65 _
 have F:aD w W:=by rw[I];exact(uj _ w).alloc (mR _) _
 have H:=h.below F;have P5:=h.blk.lt;obtain⟨x0,x1,x2,x3,x4,x5,x6,x7,x8,x9,xf⟩:=aH O
 rcases K.kd with hk|hk|hk|hk
 ·have HA:Hid (Calls prog 233 #[ay S 0,bR f (.slice a f.ranges.length c)] W fun e w'=>e=.returned (iZ 0)/\Hid (∃G,M.gJ f G 0/\fP s oZ w S bw bl bi G w')):=by
   obtain⟨a1,a2,a3⟩:=K.ack hk;refine(Jb oZ s S l M bw bl bi vc f a c W H hb (hr.below F) a1 a2 V a3 U).mono ?_;rintro e w' ⟨rfl,G,g1,o',l',v',g2,g3⟩;refine⟨rfl,G,?_,o',l',v',g2,(Kp.below F).trans g3⟩;unfold Side.gJ;rw[if_pos hk,if_neg (by omega)];exact⟨g1,rfl⟩
  clear h H hb hr V K O F U;generalize f.ranges.length=rl at *;unfold bR at *;unfold bZ at I;rw[hk]at *;clear hk;go_enter func183,ntmps183
  go_wp2_with (go_at_call 233;rw[<-I];refine HA.out.mono ?_;rintro e w1 ⟨rfl,Z⟩)
  go_ret;exact⟨rfl,Z.out⟩
 ·obtain⟨k,X⟩:∃k:Nat,f.stream=(k:Int):=⟨f.stream.toNat,by have:=K.st (.inl hk);omega⟩
  have uz:k<8:=by have:=K.st (.inl hk);omega
  have HA:Hid (Calls prog 234 #[ay S 0,bR f (.slice a f.ranges.length c)] W fun e w'=>e=.returned (iZ 0)/\Hid (∃G,M.gJ f G 0/\fP s oZ w S bw bl bi G w')):=by
   have he:=K.dt hk;refine(E9 oZ s S l M bw bl bi vc f a f.ranges.length c k uz X hk W H (hb.i k).ok (fun j=>by have:=(hb.i j).h;omega) (by omega)).mono ?_;have h0:=K.ok (by rw[hk];decide);rintro e w' ⟨rfl,o',l',v',g2,g3⟩;refine⟨by rw[h0];rfl,(M.take f).1,?_,o',l',v',g2,(Kp.below F).trans g3⟩;unfold Side.gJ;rw[if_neg (by rw[hk];decide)];exact Prod.ext rfl h0.symm
  clear h H hb hr V K O F U;generalize f.ranges.length=rl at *;unfold bR at *;unfold bZ at I;rw[hk]at *;clear hk X;go_enter func183,ntmps183
  go_wp2_with (go_at_call 234;rw[<-I];refine HA.out.mono ?_;rintro e w1 ⟨rfl,Z⟩)
  go_ret;exact⟨rfl,Z.out⟩
 ·obtain⟨N,hN,h2⟩:=max2 M.limit f.limit
  have d0:W.cell? (aj S 220)=some (uZ M.limit):=by rw[H.blk.cell];exact H.cells.mH
  have df:=H.blk.frozen 220
  have Z:Hid (∃G,M.gJ f G 0/\fP s oZ w S bw bl bi G (W.setCell (aj S 220) (uZ N)).drew):=by
   obtain⟨o',l',v',g2,g3⟩:=H.lim N (dL.one H.blk 220 (uZ N) 220 1 (mR _) (by omega)) (aU l 220 _ _ H.cells.mH);refine⟨{M with limit:=N},?_,o',l',v',g2.below ⟨rfl,rfl,rfl,mR _,fun _ _=>rfl⟩,(Kp.below F).trans g3.drew⟩;unfold Side.gJ;rw[if_neg (by rw[hk];decide)];unfold Side.take;rw[if_neg (by rw[hk];decide),if_neg (by rw[hk];decide),if_neg (by rw[hk];decide),if_neg (by rw[hk];decide),if_neg (by rw[hk];decide),if_pos hk,h2]
  clear h H hb hr V K O F U h2;generalize f.ranges.length=rl at *;generalize M.limit=lm at *;unfold bR at *;unfold bZ at I;rw[hk]at *;clear hk;go_enter func183,ntmps183;go_wp2;rw[<-I];clear I
  go_region
  go_wp2;go_ret;exact⟨rfl,Z.out⟩
 ·obtain⟨k,X⟩:∃k:Nat,f.stream=(k:Int):=⟨f.stream.toNat,by have:=K.st (.inr hk);omega⟩
  have uz:k<8:=by have:=K.st (.inr hk);omega
  have h4:(k:Int)<8:=by omega
  have HA:Hid (∀q,Calls prog 237 #[(ay S (4+k*27)),uZ f.limit] (W.drewN q) fun e w'=>e=.returned (.tuple #[])/\Hid (∃G,M.gJ f G 0/\fP s oZ w S bw bl bi G w')):=fun q=>by
   have h3:aD w (W.drewN q):=jG F;have hq:=h.below h3;rw[show 4+k*27=4+27*k by omega];refine(O7 s (s+1+5*k) oZ S (4+27*k) f.limit (M.out k) l (W.drewN q) hq.blk hq.ow (by omega) (hq.out k uz)).mono ?_;rintro e w' ⟨rfl,g⟩;obtain⟨o',l',v',g2,g3⟩:=hq.bf k uz _ g;refine⟨rfl,M.bf k {M.out k with limit:=max (M.out k).limit f.limit},?_,o',l',v',g2,(Kp.below h3).trans g3⟩;unfold Side.gJ;rw[if_neg (by rw[hk];decide)];unfold Side.take;rw[if_neg (by rw[hk];decide),if_neg (by rw[hk];decide),if_neg (by rw[hk];decide),if_neg (by rw[hk];decide),if_neg (by rw[hk];decide),if_neg (by rw[hk];decide),if_pos hk]
   have:f.stream.toNat=k:=by omega
   rw[this]
  clear h H hb hr V K O F U;generalize f.ranges.length=rl at *;unfold bR at *;unfold bZ at I;rw[hk]at *;generalize f.stream=st at *;subst X;clear hk;go_enter func183,ntmps183;go_wp2;rw[<-I];clear I
  go_region_with (go_at_call 237;refine(HA.out _).mono ?_;rintro e w1 ⟨rfl,Z⟩)
  all_goals(go_wp2;go_ret;exact⟨rfl,Z.out⟩)
section
def jT:Side->List Fr->Side->Prop
 |M,[],M1=>M1=M
 |M,f::t,M1=>∃F,M.gJ f F 0/\jT F t M1
theorem vY:∀(l:List Fr) {M X Y:Side} (f:Fr),jT M l X->X.gJ f Y 0->jT M (l++[f]) Y
 |[],M,X,Y,f,h,k=>by
  cases h;exact⟨Y,k,rfl⟩
 |g::t,M,X,Y,f,h,k=>by
  obtain⟨F,h1,G⟩:=h;exact⟨F,h1,vY t f G k⟩
theorem zC:∀(l:List Fr) {M X:Side},jT M l X->mJ M l X 0
 |[],_,_,h=>⟨h,rfl⟩
 |f::t,_,_,⟨M2,h1,h2⟩=>⟨M2,0,h1,by rw[if_pos rfl];exact zC t h2⟩
structure vZ (oZ:Own) (s:Nat) (w:World) (fa:Option Addr) (L:List FV):Prop where
 fv:sO w fa L
 fo:∀x,fa=some x->x.block<w.heap.size/\oZ x.block∉T0 s
 rg:∀j,j<L.length->fV w (L.getD j eG).2.1 (L.getD j eG).1.ranges/\(L.getD j eG).2.2.1=(L.getD j eG).1.ranges.length/\∀x,(L.getD j eG).2.1=some x->x.block<w.heap.size/\oZ x.block∉T0 s
theorem vZ.kp{oZ aC:Own}{s:Nat}{w w':World}{fa:Option Addr}{L:List FV}(h:vZ oZ s w fa L)(K:Kp (T0 s) oZ aC w w'):vZ aC s w' fa L:=by
 refine⟨fun j G=>?_,fun x F=>?_,fun j G=>?_⟩
 ·obtain⟨b,off,e,h1⟩:=h.fv j G;obtain⟨f1,f2⟩:=h.fo _ e;refine⟨b,off,e,fun i hi=>?_⟩;rw[<-h1 i hi];have:=K.blk b f1 f2;unfold World.cell?;simp only[this]
 ·obtain⟨f1,f2⟩:=h.fo x F;exact⟨tT f1 K.size,by rw[K.ext _ f1];exact f2⟩
 ·obtain⟨h1,I,H⟩:=h.rg j G;refine⟨h1.of fun x F hl=>K.blk _ hl (H x F).2,I,fun x F=>?_⟩;obtain⟨f1,f2⟩:=H x F;exact⟨tT f1 K.size,by rw[K.ext _ f1];exact f2⟩
theorem bT.qb4{oZ:Own}{s:Nat}{w w':World}{S:Nat}{l:aI}{M:Side}{bw bl bi:Nat}{vc:Value}(h:bT oZ s w S l M bw bl bi vc)(x:NS)(q:Lr s (s+41) oZ S 225 l 8 w (x.fl,x.rs) w'):fP s oZ w S bw bl bi {M with came:=x} w':=by
 obtain⟨aC,l',va,K,hB,wi,I,O,U,V⟩:=q
 have F:∀y,y∈[s,s+41]->y=s\/y=s+41:=fun y H=>by simpa using H
 have e:∀j,j<225\/228<=j->l'[j]?=l[j]?:=fun j G=>wi.2 j (by omega)
 have c:=h.cells
 refine⟨aC,l',va,⟨by rw[K.ext S h.blk.lt,h.ow],h.s0,hB,⟨wi.1.trans c.len,(e _ (by omega)).trans c.c0,(e _ (by omega)).trans c.c1,(e _ (by omega)).trans c.c2,(e _ (by omega)).trans c.c3,(e _ (by omega)).trans c.mH,c.gr.win wi (by omega),
  I,O,U,(e _ (by omega)).trans c.c228,(e _ (by omega)).trans c.c229,(e _ (by omega)).trans c.kL,(e _ (by omega)).trans c.nC,(e _ (by omega)).trans c.c232,(e _ (by omega)).trans c.c233,
  (e _ (by omega)).trans c.c234,(e _ (by omega)).trans c.nD,(e _ (by omega)).trans c.c236,(e _ (by omega)).trans c.o9,(e _ (by omega)).trans c.kM,(e _ (by omega)).trans c.o_⟩,fun j G=>?_,fun j G=>?_,V,h.way.kp K (fun e=>by have:=F _ e;omega) (fun e=>by have:=F _ e;omega),h.lost.kp K (fun e=>by have:=F _ e;omega) (fun e=>by have:=F _ e;omega),h.qu.kp K (fun e=>by have:=F _ e;omega),h.lo,h.li⟩,K.mono fun y H=>bN.2 (by have:=F y H;omega)⟩
 ·exact(h.out j G).kp K (fun e=>by have:=F _ e;omega) (fun e=>by have:=F _ e;omega) (fun e=>by have:=F _ e;omega) wi (by omega)
 ·exact(h.inn j G).kp K (fun e=>by have:=F _ e;omega) (fun e=>by have:=F _ e;omega) wi (by omega)
theorem bT.ans{oZ:Own}{s:Nat}{w w':World}{S:Nat}{l l':aI}{M:Side}{bw bl bi:Nat}{vc:Value}(h:bT oZ s w S l M bw bl bi vc)(n:Bool)(q:dL w w' S l l' 228 1)(F:l'[228]?=some (.bool n)):fP s oZ w S bw bl bi {M with answer:=n} w':=by
 have c:=h.cells
 have e:∀j,j≠228->l'[j]?=l[j]?:=fun j G=>q.win.2 j (by omega)
 exact h.cell 228 1 (by omega) q ⟨q.win.1.trans c.len,(e _ (by omega)).trans c.c0,(e _ (by omega)).trans c.c1,(e _ (by omega)).trans c.c2,(e _ (by omega)).trans c.c3,(e _ (by omega)).trans c.mH,c.gr.win q.win (by omega),
  (e _ (by omega)).trans c.oh,(e _ (by omega)).trans c.c226,(e _ (by omega)).trans c.c227,F,(e _ (by omega)).trans c.c229,(e _ (by omega)).trans c.kL,(e _ (by omega)).trans c.nC,(e _ (by omega)).trans c.c232,(e _ (by omega)).trans c.c233,
  (e _ (by omega)).trans c.c234,(e _ (by omega)).trans c.nD,(e _ (by omega)).trans c.c236,(e _ (by omega)).trans c.o9,(e _ (by omega)).trans c.kM,(e _ (by omega)).trans c.o_⟩ rfl rfl rfl rfl rfl rfl rfl
theorem CmB.ok{c:NS}(h:CmB c):St.Rg.Ok 18446744073709551616 1000000 c.fl c.rs:=
 ⟨h.so,fun r F=>by have:=h.hi r F;unfold aZ at this;omega,by have:=h.ln;omega,by have:=h.fl;unfold aZ at this;omega⟩
theorem BF{M F:Side}{f:Fr}{e:Nat}(h:M.gJ f F e):F.why=M.why:=by
 have I:∀(l:List Fr) (X:Side),(l.foldl Side.bookC X).why=X.why:=fun l=>by
  induction l with
  |nil=>exact fun X=>rfl
  |cons f t K=>
   intro X;refine(K _).trans ?_;unfold Side.bookC
   repeat' split
   all_goals rfl
 unfold Side.gJ at h;split at h
 ·split at h
  ·rw[h.1]
  ·obtain⟨⟨lp,lq,_,_,rfl⟩,_⟩:=h;exact(I _ _).trans rfl
 ·rename_i G;have H:F=(M.take f).1:=congrArg sQ h;rw[H];unfold Side.take Side.Le;rw[if_neg G]
  repeat' split
  all_goals rfl
theorem zD:∀(l:List Fr) {M X:Side},jT M l X->X.why=M.why
 |[],_,_,h=>by rw[h]
 |_::t,_,_,⟨_,h1,h2⟩=>(zD t h2).trans (BF h1)
def TA(oZ:Own)(s:Nat)(w:World)(S bw bl bi:Nat)(fa:Option Addr)(L:List FV)(bv:aI)(M':Side)(y:World):Prop:=
 ∃F l1 G,bT F s y S l1 M' bw bl bi G/\F w.heap.size=0/\aA y w.heap.size 56 bv/\vZ F s y fa L/\Kp (T0 s) oZ F w y
section
variable {oZ:Own} {s:Nat} {w:World} {S bw bl bi:Nat} {fa:Option Addr} {L:List FV} {bv:aI} {M':Side} {y y':World}
theorem TA.step{H:Side}(h:TA oZ s w S bw bl bi fa L bv M' y)(k:∀G l1 U,bT G s y S l1 M' bw bl bi U->vZ G s y fa L->fP s G y S bw bl bi H y'):TA oZ s w S bw bl bi fa L bv H y':=by
 obtain⟨o,l1,v1,h1,I,O,K,X⟩:=h;obtain⟨Z,l2,v2,V,F⟩:=k o l1 v1 h1 K;have hs:=h1.s0;exact⟨Z,l2,v2,V,by rw[F.ext _ O.lt,I],aO O F (by rw[I];exact fun e=>by have:=bN.1 e;omega),K.kp F,X.trans F⟩
theorem TA.below(h:TA oZ s w S bw bl bi fa L bv M' y)(hb:aD y y'):TA oZ s w S bw bl bi fa L bv M' y':=h.step fun _ _ _ g _=>fP.refl g hb
theorem TA.why(h:TA oZ s w S bw bl bi fa L bv M' y)(F:M'.why=0):y.cell? (aj S 238)=some (iZ 0)/\y.frozen? (aj S 238)=false/\TA oZ s w S bw bl bi fa L bv M' (y.setCell (aj S 238) (iZ 0))/\(y.setCell (aj S 238) (iZ 0)).cell? (aj S 238)=some (iZ ((0:Nat):Int)):=by
 have g:TA oZ s w S bw bl bi fa L bv M' (y.setCell (aj S 238) (iZ 0)):=h.step fun o l1 G h1 _=>by
  have c:l1[238]?=some (iZ 0):=by rw[h1.cells.kM,F];rfl
  have q:=dL.one h1.blk 238 (iZ 0) 238 1 (mR _) (by omega);rw[tV l1 238 _ c]at q;exact h1.cell 238 1 (by omega) q h1.cells rfl rfl rfl rfl rfl rfl rfl
 obtain⟨o,l1,G,h1,_⟩:=h;refine⟨by rw[h1.blk.cell,h1.cells.kM,F];rfl,h1.blk.frozen 238,g,?_⟩;obtain⟨o,l1,G,h1,_⟩:=g;rw[h1.blk.cell,h1.cells.kM,F]
end


theorem wp_cut{c:Code}{K:Act->World->Prop}{H:Exit->Act->World->Prop}{a:Act}{w:World}(act:Act)(R:World->Prop)(h:c.wp prog (Exit.then (fun G w'=>G=act/\R w') fun _ _ _=>False) a w)(O:∀w',R w'->K act w'):c.wp prog (Exit.then K H) a w:=
 wp_mono h fun e G w' F=>by
  cases e with
  |normal=>obtain⟨rfl,I⟩:=F;exact O _ I
  |ret=>exact F.elim
  |exit i=>exact F.elim
  |goto i=>exact F.elim
  |panic c=>exact F.elim
  |outgrown=>exact F.elim
theorem Jc(oZ:Own)(s:Nat)(S:Nat)(l:aI)(M:Side)(bw bl bi:Nat)(vc:Value)(n:Nat)(fa:Option Addr)(L:List FV)(fc:Nat)(w:World)(h:bT oZ s w S l M bw bl bi vc)(hb:Bd M)(hn:n<=aZ)(hH:vZ oZ s w fa L)(hl:L.length<=1000000)(hy:M.why=0)(hC:∀G j,j<L.length->jT {M with came:=M.came.add 8 n n,answer:=M.answer||wants (L.map sQ)} ((L.map sQ).take j) G->FrC G (L.getD j eG).1/\Bd G/\G.next<=aZ):
  Calls prog 138 #[ay S 0,.agg #[uZ n,.slice fa L.length fc]] w fun e w'=>e=.returned .nilIface/\∃M1,jT {M with came:=M.came.add 8 n n,answer:=M.answer||wants (L.map sQ)} (L.map sQ) M1/\fP s oZ w S bw bl bi M1 w':=by
 have x5:=h.s0;obtain⟨W,hW⟩:∃W,W=w.alloc (.cells #[uZ n,.slice fa L.length fc] 56):=⟨_,rfl⟩
 have I:aD w W:=by rw[hW];exact(uj _ w).alloc (mR _) _
 obtain⟨bv,V⟩:∃bv:aI,bv=[uZ n,.slice fa L.length fc]:=⟨_,rfl⟩
 have hg:TA oZ s w S bw bl bi fa L bv M W:=by
  have K:Kp [] oZ (loc oZ w.heap.size) w W:=⟨I.os,I.tape,I.output,I.size,fun x F _=>I.block x F,fun x F=>fM _ _ _ F⟩;exact⟨loc oZ w.heap.size,l,vc,h.kp K (by simp),fD _ _ _ (mR _),by rw[hW,V];exact aA.new w 56 _,hH.kp (K.mono (by simp)),K.mono (by simp)⟩
 obtain⟨M1,h0⟩:∃M1:Side,M1={M with came:=M.came.add 8 n n}:=⟨_,rfl⟩;obtain⟨wn,h5⟩:∃wn,wn=wants (L.map sQ):=⟨_,rfl⟩;obtain⟨M2,U⟩:∃M2:Side,M2={M with came:=M.came.add 8 n n,answer:=M.answer||wn}:=⟨_,rfl⟩
 have HA:Hid (∀q,Calls prog 127 #[ay S 225,uZ n,uZ n] (W.drewN q) fun e w1=>e=.returned (.tuple #[])/\TA oZ s w S bw bl bi fa L bv M1 w1):=fun q=>by
  have hk:TA oZ s w S bw bl bi fa L bv M (W.drewN q):=hg.below ⟨rfl,rfl,rfl,mR _,fun _ _=>rfl⟩;have x6:=hk;obtain⟨o,l1,v1,h1,h2,F,O,h4⟩:=hk;refine(J2 s (s+41) o S 225 n n l1 8 M.came.fl M.came.rs v1 (W.drewN q) h1.blk h1.ow h1.cells.oh h1.cells.c226 h1.cells.c227 h1.row hb.cm.ok (by unfold aZ at hn;omega)).mono ?_;rintro e w1 ⟨rfl,g⟩;refine⟨rfl,?_⟩
  have hq:fP s o (W.drewN q) S bw bl bi M1 w1:=by rw[h0];exact h1.qb4 (M.came.add 8 n n) g
  obtain⟨o2,l2,v2,g1,g2⟩:=hq;exact⟨o2,l2,v2,g1,by rw[g2.ext _ F.lt,h2],aO F g2 (by rw[h2];exact fun e=>by have:=bN.1 e;omega),O.kp g2,h4.trans g2⟩
 have HS:Hid (∀w1,TA oZ s w S bw bl bi fa L bv M1 w1->w1.cell? (aj S 228)=some (.bool M.answer)/\w1.frozen? (aj S 228)=false/\w1.cell? (aj w.heap.size 1)=some (.slice fa L.length fc)/\sO w1 fa L/\TA oZ s w S bw bl bi fa L bv M2 (w1.setCell (aj S 228) (.bool (M.answer||wn)))/\(w1.setCell (aj S 228) (.bool (M.answer||wn))).cell? (aj w.heap.size 1)=some (.slice fa L.length fc)):=fun w1 hT=>by
  have g:TA oZ s w S bw bl bi fa L bv M2 (w1.setCell (aj S 228) (.bool (M.answer||wn))):=hT.step fun o l1 v1 h1 _=>by
   have:=h1.ans (M.answer||wn) (dL.one h1.blk 228 (.bool (M.answer||wn)) 228 1 (mR _) (by omega)) (aU l1 228 _ _ h1.cells.c228);rw[h0]at this;rw[U];exact this
  obtain⟨o,l1,v1,h1,h2,F,O,h4⟩:=hT;rw[V]at F;have c228:=h1.cells.c228;rw[h0]at c228;refine⟨by rw[h1.blk.cell];exact c228,h1.blk.frozen 228,F.cell 1,O.fv,g,?_⟩;obtain⟨o,l1,v1,h1,h2,F,O,h4⟩:=g;rw[V]at F;exact F.cell 1
 have Zr:M2.why=0:=by rw[U];exact hy
 rw[<-h5,<-U]at hC;rw[<-h5,<-U];obtain⟨fs,h9⟩:∃fs,fs=L.map sQ:=⟨_,rfl⟩;rw[<-h9]at hC ⊢;have HC:=au hC;have N_:=au (And.intro h9 (And.intro h5 Zr));have ho:=au V;clear h hb hH hg hC h0 U I h9 h5 Zr hy V
 have hv:W.cell? (aj w.heap.size 0)=some (uZ n):=by rw[hW];exact(aA.new w 56 [uZ n,.slice fa L.length fc]).cell 0
 go_enter func138,ntmps138;go_wp2;rw[<-hW];clear hW;refine wp_cut {tmps:=#[ay S 0,.agg #[uZ n,.slice fa L.length fc],undef,ay w.heap.size 0,.nilIface,undef,undef,ay S 0,ay S 0,ay S 225,ay w.heap.size 0,uZ n,ay w.heap.size 0,uZ n,.tuple #[],undef,undef,undef,undef,undef,undef,undef,undef,undef,undef,undef,undef,undef,undef,undef,undef,undef,undef,undef,undef,undef,undef,undef,undef,undef,undef,undef,undef,undef,undef,undef,undef,undef,undef],defers:=[]} (fun w1=>TA oZ s w S bw bl bi fa L bv M1 w1) ?_ (fun w1 H=>?_)
 ·go_region_with (go_at_call 127;refine(HA.out _).mono ?_;rintro e w1 ⟨rfl,H⟩)
  all_goals exact⟨rfl,H⟩
 obtain⟨k1,k2,k3,k4,k5,k6⟩:=HS.out w1 H
 have HW:Hid (Calls prog 182 #[.slice fa L.length fc] w1 fun e w2=>e=.returned (.bool wn)/\aD w1 w2):=by
  rw[N_.out.2.1];exact A_ fa L fc w1 (by omega) k4
 have HN:Hid (∀w2,aD w1 w2->w2.frozen? (aj S 228)=false/\w2.cell? (aj S 228)=some (.bool M.answer)/\TA oZ s w S bw bl bi fa L bv M2 (w2.setCell (aj S 228) (.bool (M.answer||wn)))):=fun w2 h8=>by
  obtain⟨a1,a2,a3,a4,a5,a6⟩:=HS.out w2 (H.below h8);exact⟨a2,a1,a5⟩
 have hr:=au H;clear HS k4 k5 k6 H HA hv
 have h6:Hid (∀w3,TA oZ s w S bw bl bi fa L bv M2 w3->w3.cell? (aj w.heap.size 1)=some (.slice fa L.length fc)):=fun w3 Uh=>by
  obtain⟨o,l1,v1,h1,h2,F,O,h4⟩:=Uh;rw[ho.out]at F;exact F.cell 1
 cases Vw:M.answer
 case' false=>
  rw[Vw]at HN k1;rw[Bool.false_or]at HN;clear Vw
  go_wp2_with (go_at_call 182;refine HW.out.mono ?_;rintro e w2 ⟨rfl,h8⟩;obtain⟨z1,z2,z3⟩:=HN.out w2 h8;have hm:=h6.out _ z3;have h7:=au z3;clear z3)
 case' true=>
  rw[Vw]at HN k1;rw[Bool.true_or]at HN;clear Vw;obtain⟨z1,z2,z3⟩:=HN.out w1 (uj _ _);have hm:=h6.out _ z3;have h7:=au z3;clear z3;go_wp2
 all_goals clear k1 k2 k3 HN HW hr h6
 all_goals go_loopw [30] (fun he wr=>∃(j:Nat) (G:Side),j<=L.length/\he=(iZ j)/\Hid (jT M2 (fs.take j) G/\TA oZ s w S bw bl bi fa L bv G wr)) (fun he _=>L.length-(intOf he).toNat)
 all_goals first|exact⟨0,M2,E8 _,rfl,⟨rfl,h7.out⟩⟩|skip
 all_goals
  obtain⟨j,G,hj,rfl,HR⟩:=hrel;clear h7 hm
  by_cases X:j<L.length
  ·have x4:(j:Int)<(L.length:Int):=by omega
   have hw:∃b off,fa=some (aj b off)/\∀i,i<10->wr.cell? (aj b (off+j*10+i))=(bZ (L.getD j eG).1 (lu (L.getD j eG)))[i]?:=by
    obtain⟨o,l1,v1,h1,h2,F,O,h4⟩:=HR.out.2;exact O.fv j X
   obtain⟨b,off,ha,Z⟩:=hw;obtain⟨W5,rQ⟩:∃W5,W5=wr.alloc (.cells (bZ (L.getD j eG).1 (lu (L.getD j eG))).toArray 65):=⟨_,rfl⟩
   have Ac:Hid (Calls prog 183 #[ay S 0,bR (L.getD j eG).1 (lu (L.getD j eG))] W5 fun e w6=>e=.returned (iZ 0)/\∃M',(G.gJ (L.getD j eG).1 M' 0/\M'.why=0)/\TA oZ s w S bw bl bi fa L bv M' w6):=by
    have hu:TA oZ s w S bw bl bi fa L bv G W5:=HR.out.2.below (by rw[rQ];exact(uj _ wr).alloc (mR _) _);obtain⟨o,l1,v1,h1,h2,F,O,h4⟩:=hu;obtain⟨c1,c2,c3⟩:=HC.out G j X HR.out.1;obtain⟨g1,g2,g3⟩:=O.rg j X;have h_:G.why=0:=(zD _ HR.out.1).trans N_.out.2.2;unfold lu;rw[g2];refine(Vv o s S l1 G bw bl bi v1 (L.getD j eG).1 (L.getD j eG).2.1 (L.getD j eG).2.2.2 W5 h1 c2 c1 g1 (fun x F=>(g3 x F).2) c3).mono ?_;rintro e w6 ⟨rfl,M',t1,t2⟩;have hs:=h1.s0;obtain⟨o2,l2,v2,g4,g5⟩:=t2;exact⟨rfl,M',⟨t1,(BF t1).trans h_⟩,o2,l2,v2,g4,by rw[g5.ext _ F.lt,h2],aO F g5 (by rw[h2];exact fun e=>by have:=bN.1 e;omega),O.kp g5,h4.trans g5⟩
   have J8:Hid (fs.take (j+1)=fs.take j++[(L.getD j eG).1]):=by
    show fs.take (j+1)=_;rw[N_.out.1,KG,tL,fB X,fA,fB X];rfl
   subst ha;have c0:=Z 0 (by omega);have c1:=Z 1 (by omega);have c2:=Z 2 (by omega);have c3:=Z 3 (by omega);have c4:=Z 4 (by omega);have c5:=Z 5 (by omega);have c6:=Z 6 (by omega);have c7:=Z 7 (by omega);have c8:=Z 8 (by omega);have c9:=Z 9 (by omega);clear Z;generalize L.getD j eG=FF at *;obtain⟨f,r1,r2,r3⟩:=FF;unfold bR at Ac;unfold bZ at rQ;simp only[lu,List.getElem?_cons_zero,List.getElem?_cons_succ,Nat.add_zero]at c0 c1 c2 c3 c4 c5 c6 c7 c8 c9 Ac rQ
   go_wp2_with (first
    |(go_at_call 183;rw[<-rQ];refine Ac.out.mono ?_;rintro e w6 ⟨rfl,M',hc,hf⟩;obtain⟨z1,z2,z3,z4⟩:=hf.why hc.2;have HZ:=au (And.intro hc.1 z3);clear z3 hf hc)
    |(go_at_call 137;refine(qj S 0 _ z4).mono ?_;rintro e w7 ⟨rfl,x0⟩;have x3:=x0.symm;subst x3))
   go_roundw
   case rel=>exact⟨j+1,M',by omega,by simp,⟨by rw[J8.out];exact vY _ _ HR.out.1 HZ.out.1,HZ.out.2⟩⟩
   case measure=>simp[intOf];omega
  ·obtain rfl:j=L.length:=by omega
   go_wp2;go_ret;refine⟨rfl,G,?_,?_⟩
   ·have:=HR.out.1;rw[N_.out.1,DT (by simp)]at this;rw[N_.out.1];exact this
   ·obtain⟨o,l1,v1,h1,h2,F,O,h4⟩:=HR.out.2;exact⟨o,l1,v1,h1,h4⟩
end
theorem ND{A B:Side}{f:Fr}(h:lV A B f)(hs:snd f=true):lV A B (norm f):=by
 have e:=norm_eq f hs
 rcases h with⟨k,h1,F⟩|⟨k,h1,F,h3⟩|⟨k,h1⟩|⟨k,h1,F,h3⟩
 ·rw[e,if_neg (by omega),if_pos k];exact .inl ⟨rfl,h1,F⟩
 ·rw[e,if_neg (by omega),if_neg (by omega),if_neg (by omega),if_pos k];exact .inr (.inl ⟨rfl,h1,F,h3.e,h3.b,h3.d,h3.fin,h3.ne⟩)
 ·rw[e,if_neg (by omega),if_neg (by omega),if_neg (by omega),if_neg (by omega),if_pos k];exact .inr (.inr (.inl ⟨rfl,h1⟩))
 ·rw[e,if_neg (by omega),if_neg (by omega),if_neg (by omega),if_neg (by omega),if_neg (by omega),if_pos k];exact .inr (.inr (.inr ⟨rfl,h1,F,h3⟩))
theorem NG(f:Fr)(hs:snd f=true):norm (norm f)=norm f:=by
 have F:=norm_eq f hs;have G:=norm_eq (norm f) (yG f hs);rw[mQ f hs]at G;rw[G]
 rcases kU hs with k|k|k|k|k|k|k|k<;>rw[k]at F ⊢<;>rw[F]<;>rfl
structure Fq (aM:Nat) (A B:Side) (y:Nat×List Fr):Prop where
 dec:lZ true y.1 y.2 (aK y.1 y.2)
 nm:y.2.map norm=y.2
 ln:y.2.length<=400
 sz:(aK y.1 y.2).length<=aM
 ps:0<(aK y.1 y.2).length
 lt:y.1<A.next
 fr:∀f∈y.2,lV A B f
theorem Fq.mono{aM:Nat}{A B A' F:Side}{y:Nat×List Fr}(h:Fq aM A B y)(G:z_ A A')(hb:z_ B F):Fq aM A' F y:=
 ⟨h.dec,h.nm,h.ln,h.sz,h.ps,tT h.lt G.next,fun f H=>(h.fr f H).mono G hb⟩
structure PkC (aM:Nat) (y:Nat×List Fr):Prop where
 dec:lZ true y.1 y.2 (aK y.1 y.2)
 nm:y.2.map norm=y.2
 ln:y.2.length<=400
 sz:(aK y.1 y.2).length<=aM
 ps:0<(aK y.1 y.2).length
theorem xq{aM:Nat}{x:Nat×List Fr}(h:PkF aM x):PkC aM (x.1,x.2.map norm)/\aK x.1 (x.2.map norm)=aK x.1 x.2:=by
 obtain⟨p1,p2,I⟩:=RG x.1 x.2 h.sn;obtain⟨O,U,V⟩:=zJ p1;have F:=nG x.1 x.2;refine⟨⟨?_,?_,?_,?_,?_⟩,I⟩
 ·unfold lZ;rw[if_pos rfl];refine⟨by show x.1<_;unfold aZ at U;omega,fun j K=>⟨O j K,?_⟩,V,by have:=h.ln;show(x.2.map norm).length<=_;rw[Am];omega,rfl⟩
  have G:j<x.2.length:=by simpa using K
  show jl ((x.2.map norm).getD j dS);rw[fA,tL,fB G];have g:=h.fs _ (Aw G);exact Ke _ g.sn g.ok
 ·show(x.2.map norm).map norm=x.2.map norm;rw[R3]
  exact List.map_congr_left fun f H=>NG f (h.fs f H).sn
 ·show(x.2.map norm).length<=400;rw[Am];exact h.ln
 ·show(aK x.1 (x.2.map norm)).length<=aM;rw[I,F];exact h.sz
 ·show 0<(aK x.1 (x.2.map norm)).length;rw[I,F];omega
theorem VL{aM:Nat}{A B:Side}{x:Nat×List Fr}(h:PkF aM x)(I:x.1<A.next)(H:∀f∈x.2,lV A B f):Fq aM A B (x.1,x.2.map norm):=by
 obtain⟨c,_⟩:=xq h;refine⟨c.dec,c.nm,c.ln,c.sz,c.ps,I,fun f F=>?_⟩;obtain⟨g,G,rfl⟩:=List.mem_map.1 F;exact ND (H g G) (h.fs g G).sn
structure Net where
 x:Nat->Side
 bP:List (Nat×Nat×List Fr)
 now:Nat
 cnt:Nat->Nat
 gv:Value
 gl:Nat
 nx:Nat
def Net.bY(n:Net)(i:Nat)(M:Side):Net:={n with x:=fun j=>if j=i then M else n.x j}
structure eY (aM:Nat) (n:Net):Prop where
 loc:∀i,i<2->dD (n.x i)
 two:∀i,i<2->bn (n.x i) (n.x (1-i))
 bd:∀i,i<2->Bd (n.x i)
 mt:∀i,i<2->(n.x i).aM=aM
 ct:∀i,i<2->n.cnt i=(n.x i).next
 bP:∀y∈n.bP,y.1<2/\Fq aM (n.x (1-y.1)) (n.x y.1) y.2
theorem b_(n:Net)(i:Nat)(M:Side):(n.bY i M).x i=M:=if_pos rfl
theorem eU(n:Net)(i j:Nat)(M:Side)(h:j≠i):(n.bY i M).x j=n.x j:=if_neg h
theorem eY.two'{aM:Nat}{n:Net}(h:eY aM n)(i:Nat)(hi:i<2):bn (n.x (1-i)) (n.x i):=by
 have:=h.two (1-i) (by omega);rwa[show 1-(1-i)=i by omega]at this
theorem eY.set{aM:Nat}{n:Net}(h:eY aM n)(i:Nat)(hi:i<2)(M:Side)(s:Stp (n.x i) (n.x (1-i)) M)(b:Bd M)(m:M.aM=(n.x i).aM)(c:Nat->Nat)(I:∀j,j<2->c j=if j=i then M.next else n.cnt j):eY aM {n.bY i M with cnt:=c}:=by
 have H:(n.bY i M).x (1-i)=n.x (1-i):=eU _ _ _ _ (by omega)
 have G:∀j,j<2->j=i\/j=1-i:=fun j G=>by omega
 have le:∀j,z_ (n.x j) ((n.bY i M).x j):=fun j=>by
  by_cases e:j=i
  ·rw[e,b_];exact s.le
  ·rw[eU _ _ _ _ e];exact z_.refl _
 refine⟨fun j F=>?_,fun j F=>?_,fun j F=>?_,fun j F=>?_,fun j F=>?_,fun y K=>⟨(h.bP y K).1,(h.bP y K).2.mono (le _) (le _)⟩⟩
 ·rcases G j F with rfl|rfl
  ·show dD ((n.bY _ M).x _);rw[b_];exact s.loc
  ·show dD ((n.bY i M).x (1-i));rw[H];exact h.loc _ F
 ·rcases G j F with rfl|rfl
  ·show bn ((n.bY j M).x j) ((n.bY j M).x (1-j));rw[b_,H];exact s.ab
  ·show bn ((n.bY i M).x (1-i)) ((n.bY i M).x (1-(1-i)));rw[show 1-(1-i)=i by omega,b_,H];exact s.ba
 ·rcases G j F with rfl|rfl
  ·show Bd ((n.bY _ M).x _);rw[b_];exact b
  ·show Bd ((n.bY i M).x (1-i));rw[H];exact h.bd _ F
 ·rcases G j F with rfl|rfl
  ·show((n.bY _ M).x _).aM=aM;rw[b_,m];exact h.mt _ F
  ·show((n.bY i M).x (1-i)).aM=aM;rw[H];exact h.mt _ F
 ·rcases G j F with rfl|rfl
  ·show c _=((n.bY _ M).x _).next;rw[b_,I _ F,if_pos rfl]
  ·show c _=((n.bY i M).x (1-i)).next;rw[H,I _ F,if_neg (by omega)];exact h.ct _ F
theorem eY.add{aM:Nat}{n:Net}(h:eY aM n)(l:List (Nat×Nat×List Fr))(hl:∀y∈l,y.1<2/\Fq aM (n.x (1-y.1)) (n.x y.1) y.2):eY aM {n with bP:=n.bP++l}:=
 ⟨h.loc,h.two,h.bd,h.mt,h.ct,fun y F=>(List.mem_append.1 F).elim (h.bP y) (hl y)⟩
theorem eY.sub{aM:Nat}{n:Net}(h:eY aM n)(l:List (Nat×Nat×List Fr))(hl:∀y∈l,y∈n.bP)(t:Nat):eY aM {n with bP:=l,now:=t}:=
 ⟨h.loc,h.two,h.bd,h.mt,h.ct,fun y F=>h.bP y (hl y F)⟩
def Net.new(aM window total:Nat):Net:=⟨fun _=>Side.new aM window total,[],0,fun _=>0,nZ,0,0⟩
theorem zK(aM window total:Nat)(F:64<=aM/\aM<=400)(G:window<=4096)(ht:total<=4096):eY aM (Net.new aM window total):=
 ⟨fun _ _=>Uc aM window total (by unfold aZ;omega) (by unfold aZ;omega),fun _ _=>Ud aM window total,fun _ _=>XD aM window total F G ht,fun _ _=>rfl,fun _ _=>rfl,fun y H=>by cases H⟩
theorem BI(n:Nat):1<=(Num.bytes n).length:=by
 rw[Num.eH];exact Nat.one_le_two_pow
theorem Fu(rs:aP):∀k,k<=(fG rs k).length
 |0=>E8 _
 |k+1=>by
  rw[fG,Av,Av];have:=Fu rs k;have:=BI ((rs.getD k (0,0)).1-(rs.getD (k+1) (0,0)).2-2);omega
theorem X_(f:Fr)(h:f.kind=2):f.ranges.length<=(aG f).length:=by
 have e:aG f=[]++[UInt8.ofNat 2]++dP f.ranges:=by
  unfold aG aX;rw[if_neg (by omega),if_pos h];rfl
 rw[e];unfold dP iJ;have:=Fu f.ranges (f.ranges.length-1);have:=BI (f.ranges.getD 0 (0,0)).2;simp only[Av];omega
theorem KF:∀(l:List Fr) (f:Fr),f∈l->(aG f).length<=Kq l
 |g::t,f,h=>by
  have e:Kq (g::t)=(aG g).length+Kq t:=by simp[Kq]
  rcases Lb.1 h with rfl|h
  ·omega
  ·have:=KF t f h;omega
theorem Fq.rng{aM:Nat}{A B:Side}{y:Nat×List Fr}(h:Fq aM A B y)(I:aM<=400):∀f∈y.2,f.kind=2->f.ranges.length<=1000000:=fun f G k=>by
 have h1:=X_ f k;have H:=KF _ f G;have F:=h.sz;rw[nG,qL]at F;omega
theorem Ya{A B:Side}(I:dD A)(hB:dD B)(h1:bn A B)(H:bn B A)(G:Bd B){f:Fr}(F:lV B A f)(hl:f.kind=2->f.ranges.length<=1000000):FrC A f:=by
 refine⟨F.kd,fun k=>?_,fun k=>?_,fun k=>?_,fun k=>(JU I hB h1 H f F).1⟩
 ·rcases F with⟨_,p,q⟩|⟨e,_⟩|⟨e,_⟩|⟨e,_⟩
  ·exact⟨List.length_pos_iff.2 p,hl k,q⟩
  ·omega
  ·omega
  ·omega
 ·rcases F with⟨e,_⟩|⟨_,p,q,_⟩|⟨e,_⟩|⟨_,p,q,_⟩
  ·omega
  ·exact⟨p,q⟩
  ·omega
  ·exact⟨p,q⟩
 ·rcases F with⟨e,_⟩|⟨_,p,q,d⟩|⟨e,_⟩|⟨e,_⟩
  ·omega
  ·exact Nat.le_trans d.b (G.o _).b
  ·omega
  ·omega
theorem BJ:∀(fs:List Fr) {A B A':Side},dD A->dD B->bn A B->bn B A->Bd A->Bd B->(∀f∈fs,lV B A f)->jT A fs A'->Stp A B A'/\Bd A'/\A'.next=A.next
 |[],A,B,A',hA,hB,h1,h2,bA,bB,_,h=>by
  cases h;exact⟨iE hA h1 h2,bA,rfl⟩
 |f::t,A,B,A',hA,hB,h1,h2,bA,bB,hf,h=>by
  obtain⟨H,r,h⟩:=h;obtain⟨_,s,b,n,m⟩:=EH hA hB h1 h2 bA bB f (hf f (by simp)) r;obtain⟨G,b2,n2⟩:=BJ t s.loc hB s.ab s.ba b bB (fun g F=>(hf g (by simp[F])).mono (z_.refl _) s.le) h;exact⟨s.trans G,b2,n2.trans n⟩
theorem ZB{aM:Nat}{A B:Side}(X:dD A)(hB:dD B)(h1:bn A B)(V:bn B A)(F:Bd A)(U:Bd B){y:Nat×List Fr}(h:Fq aM B A y)(hm:B.next<=aZ)(K:A.next<=aZ)(O:aM<=400):
  ∀H j,j<y.2.length->jT {A with came:=A.came.add 8 y.1 y.1,answer:=A.answer||wants y.2} (y.2.take j) H->FrC H (y.2.getD j dS)/\Bd H/\H.next<=aZ:=by
 intro H j hj ht;have s:=Ea X h1 V y.1 h.lt (A.answer||wants y.2)
 obtain⟨I,b2,n2⟩:=BJ (y.2.take j) s.loc hB s.ab s.ba (A:={A with came:=A.came.add 8 y.1 y.1,answer:=A.answer||wants y.2})
  ⟨F.o,F.i,F.g,F.lm,F.mt,F.wy,F.ls,F.ky,F.wl,F.ll,F.nm,J6 F.cm y.1 (by have:=h.lt;omega),F.tk⟩ U (fun g Z=>(h.fr g (List.mem_of_mem_take Z)).mono (z_.refl _) s.le) ht
 have G:y.2.getD j dS∈y.2:=by rw[fA,fB hj];exact Aw _
 exact⟨Ya I.loc hB I.ab I.ba U ((h.fr _ G).mono (z_.refl _) (s.trans I).le) (h.rng O _ G),b2,by rw[n2];exact K⟩
theorem VB{B:Nat}{w:World}{sv:Value}{gs:List Fr}{v9:Nat->Value}(h:sH B w sv gs v9 gs.length)(U:∀j,j<gs.length->jl (gs.getD j dS))(oZ:Own)(s:Nat)(hs:0<s)(ho:∀b,B<=b->oZ b=0):
  ∃fa H,∃L:List FV,sv=.slice fa L.length H/\L.map sQ=gs/\vZ oZ s w fa L:=by
 obtain⟨fa,H,rfl,hF⟩:=h.JG U
 have Z:(0:Nat)∉T0 s:=fun e=>by have:=bN.1 e;omega
 obtain⟨L,O⟩:∃L:List FV,L=(List.range gs.length).map fun j=>(gs.getD j dS,OA (v9 j),(gs.getD j dS).ranges.length,TV (v9 j)):=⟨_,rfl⟩
 have hl:L.length=gs.length:=by rw[O];simp
 have hg:∀j,j<gs.length->L.getD j eG=(gs.getD j dS,OA (v9 j),(gs.getD j dS).ranges.length,TV (v9 j)):=fun j F=>by
  rw[O,fA,tL,List.getElem?_range F];rfl
 have hm:L.map sQ=gs:=by
  rw[O,R3]
  refine List.ext_getElem (by simp) fun j h1 h2=>?_
  simp[fA,h2]
 refine⟨fa,H,L,by rw[hl],hm,⟨Uq.qa8 hF.weak L hl hg,fun x I=>?_,fun j F=>?_⟩⟩
 ·subst I;have X:(Value.slice (some x) gs.length H).ownBlock=some x.block:=rfl;exact⟨h.buf.lt _ X,by rw[ho _ (h.own _ X)];exact Z⟩
 ·rw[hl]at F;rw[hg j F];obtain⟨b,off,_,h1,h2,h3⟩:=hF j F;obtain⟨g1,K,_⟩:=h.rng j F;refine⟨h1.rng,rfl,fun x I=>⟨h3 x I,?_⟩⟩;obtain⟨a,c,e,_⟩:=g1.shape;have G:OA (v9 j)=some x:=I;rw[e]at G K;have V:a=some x:=G;rw[V]at K;rw[ho _ (K x.block rfl)];exact Z
theorem Je(oZ:Own)(s:Nat)(S:Nat)(l:aI)(M:Side)(bw bl bi:Nat)(vc:Value)(n:Nat)(fs:List Fr)(yb yo cap:Nat)(lb:List UInt8)(w:World)(h:bT oZ s w S l M bw bl bi vc)(hb:Bd M)(hy:M.why=0)(hn:n<=aZ)(hD:lZ true n fs lb)(hg:fs.map norm=fs)(hv:fs.length<=1000000)(he:BytesAt w (some (aj yb yo)) lb)(h5:lb.length<=1000000000)(V:lb.length<=cap)(h4:cap<=9223372036854775807)(hm:yb<w.heap.size)(hT:TabAt w)(h2:2<=w.heap.size)(hC:∀Mj j,j<fs.length->jT {M with came:=M.came.add 8 n n,answer:=M.answer||wants fs} (fs.take j) Mj->FrC Mj (fs.getD j dS)/\Bd Mj/\Mj.next<=aZ):
  Calls prog 104 #[ay S 0,.slice (some (aj yb yo)) lb.length cap] w fun e w'=>e=.returned .nilIface/\∃X,M.iQ n fs X 0/\fP s oZ w S bw bl bi X w':=by
 have HO:=au (qj S M.why w (by rw[h.blk.cell];exact h.cells.kM));rw[hy]at HO
 have hk:∀j,j<fs.length->jl (fs.getD j dS):=fun j hj=>by
  unfold lZ at hD;rw[if_pos rfl]at hD;exact(hD.2.1 j hj).2
 have ha:Hid (Calls prog 69 #[.slice (some (aj yb yo)) lb.length cap] w fun e w1=>∃fa fc,∃L:List FV,e=.returned (.tuple #[.agg #[uZ n,.slice fa L.length fc],.nilIface])/\Hid (L.map sQ=fs/\∃Z,bT Z s w1 S l M bw bl bi vc/\vZ Z s w1 fa L/\Kp [] oZ Z w w1)):=by
  refine(kW true n fs yb yo cap lb w hD he h5 V h4 hm hT h2).mono ?_;rintro e w1 ⟨sv,err,rfl,hR,U⟩;unfold kV at hR;rw[if_pos rfl]at hR;obtain⟨rfl,v9,hc⟩:=hR;rw[hg]at hc;have K:Kp [] oZ (loc oZ w.heap.size) w w1:=⟨U.os,U.tape,U.output,U.size,fun x hx _=>U.block x hx,fun x hx=>fM _ _ _ hx⟩;obtain⟨fa,fc,L,rfl,hL,hH⟩:=VB hc hk (loc oZ w.heap.size) s h.s0 (fun b hb=>fD _ _ _ (by omega));exact⟨fa,fc,L,rfl,hL,_,h.kp K (by simp),hH,K⟩
 have lQ:=au (And.intro hb (And.intro hy hC));clear h hb hy hD he h5 V h4 hm hT h2 hC hk hg;generalize lb.length=ll at *;go_enter func104,ntmps104
 go_wp2_with (first
  |(go_at_call 137;refine HO.out.mono ?_;rintro e w' ⟨rfl,h7⟩;have h8:=h7.symm;subst h8)
  |(go_at_call 69;refine ha.out.mono ?_;rintro e w1 ⟨fa,fc,L,rfl,H1⟩)
  |(go_at_call 71;refine(Vz _).mono ?_;rintro e w' ⟨rfl,h7⟩;have h8:=h7.symm;subst h8))
 obtain⟨I,h0⟩:∃I,I=w1.alloc (.cells #[uZ n,.slice fa L.length fc] 56):=⟨_,rfl⟩
 have h3:aA I w1.heap.size 56 [uZ n,.slice fa L.length fc]:=by rw[h0];exact aA.new w1 56 _
 have H:aD w1 I:=by rw[h0];exact(uj _ w1).alloc (mR _) _
 have x0:I.cell? (aj w1.heap.size 0)=some (uZ n):=h3.cell 0
 have HH:Hid (∀q,Calls prog 128 #[ay S 225,uZ n] (I.drewN q) fun e G=>e=.returned (.bool (M.came.has n))/\aD I G):=fun q=>by
  obtain⟨hL,Z,g1,g2,g3⟩:=H1.out;have O:bT Z s (I.drewN q) S l M bw bl bi vc:=g1.below (jG H);refine(Ul (s+41) Z S 225 n l 8 M.came.fl M.came.rs vc (I.drewN q) O.blk O.cells.oh O.cells.c226 O.cells.c227 O.row lQ.out.1.cm.so (by have:=lQ.out.1.cm.ln;omega)).mono ?_;rintro e G ⟨rfl,F⟩;exact⟨rfl,pO F⟩
 have HT:Hid (∀G,aD I G->M.came.has n=false->Calls prog 138 #[ay S 0,.agg #[uZ n,.slice fa L.length fc]] G fun e w'=>e=.returned .nilIface/\∃X,M.iQ n fs X 0/\fP s oZ w S bw bl bi X w'):=fun G F hh=>by
  obtain⟨hL,Z,g1,g2,g3⟩:=H1.out;obtain⟨hb,hy,hC⟩:=lQ.out;have Ny:aD w1 G:=H.trans (F.mono H.size)
  have hw:L.length=fs.length:=by rw[<-hL,Am]
  refine(Jc Z s S l M bw bl bi vc n fa L fc G (g1.below Ny) hb hn (g2.kp (Kp.below Ny)) (by rw[hw];exact hv) hy (fun Mj j hj hr=>?_)).mono ?_
  ·rw[hL]at hr;have:=hC Mj j (by omega) hr
   have e:(L.getD j eG).1=fs.getD j dS:=by
    rw[<-hL,fA,fA,tL,fB hj];rfl
   rw[e];exact this
  ·rintro e w' ⟨rfl,X,t1,o2,l2,v2,t2,t3⟩;rw[hL]at t1;refine⟨rfl,X,?_,o2,l2,v2,t2,(g3.mono (by simp)).trans ((Kp.below Ny).trans t3)⟩;unfold Side.iQ;rw[if_neg (by rw[hh];simp)];exact zC fs t1
 have HN:Hid (∀G,aD I G->M.came.has n=true->∃X,M.iQ n fs X 0/\fP s oZ w S bw bl bi X G):=fun G F hh=>by
  obtain⟨hL,Z,g1,g2,g3⟩:=H1.out;have Ny:aD w1 G:=H.trans (F.mono H.size);refine⟨M,?_,Z,l,vc,g1.below Ny,(g3.mono (by simp)).trans (Kp.below Ny)⟩;unfold Side.iQ;rw[if_pos hh];exact⟨rfl,rfl⟩
 have hu:=au h3;have hf:w1.heap.size<I.heap.size:=h3.lt;clear H1 lQ h3 H ha HO;rw[<-h0];clear h0;cases hh:M.came.has n
 ·rw[hh]at HH
  have ho:=au fun G F=>HT.out G F hh
  clear HT HN hh
  go_region_with (go_at_call 128;refine(HH.out _).mono ?_;rintro e G ⟨rfl,F⟩;have h9:=hu.out.of_heap (F.block _ hf);have y0:G.cell? (aj w1.heap.size 0)=some (uZ n):=h9.cell 0;have y1:G.cell? (aj w1.heap.size 1)=some (.slice fa L.length fc):=h9.cell 1;have h6:=au F;clear F h9)
  all_goals(
   go_wp2_with (go_at_call 138;refine(ho.out _ h6.out).mono ?_;rintro e w4 ⟨rfl,HE⟩;have HE:=au HE)
   go_ret
   exact⟨rfl,HE.out⟩)
 ·rw[hh]at HH
  have DV:=au fun G F=>HN.out G F hh
  clear HT HN hh
  go_region_with (go_at_call 128;refine(HH.out _).mono ?_;rintro e G ⟨rfl,F⟩;have h6:=au F;clear F)
  all_goals(
   go_wp2;go_ret
   exact⟨rfl,DV.out _ h6.out⟩)
theorem zF(S:Nat)(yb yo cap:Nat)(lb:List UInt8)(w:World)(hy:w.cell? (aj S 238)=some (iZ ((0:Nat):Int)))(hD:lZ false 0 [] lb)(V:BytesAt w (some (aj yb yo)) lb)(H:lb.length<=1000000000)(F:lb.length<=cap)(G:cap<=9223372036854775807)(X:yb<w.heap.size)(hT:TabAt w)(h2:2<=w.heap.size):
  Calls prog 104 #[ay S 0,.slice (some (aj yb yo)) lb.length cap] w fun e w'=>e=.returned (.iface 57 (iZ 7))/\aD w w':=by
 have HO:=au (qj S 0 w hy)
 have h3:∀w,(binOp .neq 94 (.iface 57 (iZ 7)) .nilIface).run prog w=.ok (.bool true) w:=fun _=>by kernel_rfl
 have Z:Hid (Calls prog 69 #[.slice (some (aj yb yo)) lb.length cap] w fun e w1=>e=.returned (.tuple #[.agg #[uZ 0,nZ],.iface 57 (iZ 7)])/\aD w w1):=by
  refine(kW false 0 [] yb yo cap lb w hD V H F G X hT h2).mono ?_;rintro e w1 ⟨sv,err,rfl,hR,h0⟩;unfold kV at hR;rw[if_neg (by decide)]at hR;obtain⟨_,rfl,rfl⟩:=hR;exact⟨rfl,h0⟩
 clear hD V H F G X hT h2;generalize lb.length=ll at *;go_enter func104,ntmps104
 go_wp2_with (first
  |(go_at_call 137;refine HO.out.mono ?_;rintro e w' ⟨rfl,I⟩;have K:=I.symm;subst K)
  |(go_at_call 69;refine Z.out.mono ?_;rintro e w1 ⟨rfl,U⟩;have O:=au U;clear U)
  |(go_at_call 71;refine(VA _).mono ?_;rintro e w' ⟨rfl,I⟩;have K:=I.symm;subst K))
 go_ret;exact⟨rfl,O.out.alloc O.out.size _⟩
section
theorem qb9:DC 53 9 (.string ⟨#[]⟩) 1 16:=⟨by kernel_rfl,by kernel_rfl,fun n=>by simp[Builtin.zeroCells,Value.cells],fun n v F=>by
 simp[Builtin.zeroCells,Value.cells]at F;obtain⟨i,_,rfl⟩:=F
 have:i % 1=0:=by omega
 rw[this];rfl,by omega⟩
def sV(b:List UInt8):Value:=.string ⟨b.toArray⟩
def Tq(s t:Nat):List Nat:=t::List.range' s 60
theorem zL{s t x:Nat}:x∈Tq s t↔x=t\/(s<=x/\x<s+60):=by
 unfold Tq;rw[Lb,List.mem_range'];constructor
 ·rintro(h|⟨i,hi,rfl⟩)
  ·exact .inl h
  ·exact .inr (by omega)
 ·rintro(h|h)
  ·exact .inl h
  ·exact .inr ⟨x-s,by omega,by omega⟩
structure Tp (bQ:Own) (s t:Nat) (w0:World) (S bw bl bi:Nat) (M':Side) (vl:Value) (vs:aI) (bs:List (List UInt8)) (j:Nat) (v3:Value) (oZ:Own) (w:World):Prop where
 sd:∃l vc,bT oZ s w S l M' bw bl bi vc
 gd:Gd oZ w
 li:GT oZ (s+52) 60 1 w vl vs.length vs
 ln:vs.length=bs.length
 ps:∀i,j<=i->i<vs.length->Buf w (vs.getD i undef) (bs.getD i [])/\∀k,(vs.getD i undef).ownBlock=some k->oZ k=s+47/\k<w.heap.size
 dj:Dj vs
 st:GT oZ t 9 1 w v3 j ((bs.take j).map sV)
 kp:Kp (Tq s t) bQ oZ w0 w
section
variable {bQ:Own} {s t:Nat} {w0:World} {S bw bl bi:Nat} {M':Side} {vl:Value} {vs:aI} {bs:List (List UInt8)} {j:Nat} {v3:Value} {oZ:Own} {w:World}
theorem Tp.app(h:Tp bQ s t w0 S bw bl bi M' vl vs bs j v3 oZ w)(ht:0<t/\(t<s\/s+60<=t))(Z:j<vs.length)(h6:vs.length<=1000000):
  ∃H w6 G,(∀ty,(Builtin.append_ #[53,53] ty #[v3,aS w.heap.size 1 1]).run prog (w.alloc (.cells #[sV (bs.getD j [])] 9))=.ok H w6)/\Tp bQ s t w0 S bw bl bi M' vl vs bs (j+1) H G w6/\
   (Buf w6 (vs.getD j undef) (bs.getD j [])/\∀k,(vs.getD j undef).ownBlock=some k->G k=s+47/\k<w6.heap.size):=by
 obtain⟨l,vc,hS⟩:=h.sd;have I:aD w (w.alloc (.cells #[sV (bs.getD j [])] 9)):=(uj _ w).alloc (mR _) _;have B5:aA (w.alloc (.cells #[sV (bs.getD j [])] 9)) w.heap.size 9 [sV (bs.getD j [])]:=aA.new w 9 _;have X:Kp [] oZ oZ w (w.alloc (.cells #[sV (bs.getD j [])] 9)):=Kp.below I
 obtain⟨H,w6,G,run,hG,K6⟩:=bW qb9 (n:=j) (h.st.kp X (by simp)) (aj w.heap.size 0) 1 1 [sV (bs.getD j [])] rfl (fun z hz=>by rw[List.mem_singleton.1 hz];rfl) (fun i y hy=>by
  have e:(aj w.heap.size 0).add i=(aj w.heap.size i):=by rw[Addr.add_lit,SF]
  rw[e,B5.cell,hy]) (by omega)
 have K:Kp [t] oZ G w w6:=(X.mono (by simp)).trans K6
 have O:bs.take (j+1)=bs.take j++[bs.getD j []]:=by
  have U:j<bs.length:=by rw[<-h.ln];exact Z
  rw[KG,fA,fB U];rfl
 have P:∀i,j<=i->i<vs.length->Buf w6 (vs.getD i undef) (bs.getD i [])/\∀k,(vs.getD i undef).ownBlock=some k->G k=s+47/\k<w6.heap.size:=fun i hi F=>by
  obtain⟨p,q⟩:=h.ps i hi F;refine⟨?_,fun k V=>⟨by rw[K.ext k (q k V).2,(q k V).1],tT (q k V).2 K.size⟩⟩
  rcases p with p|⟨g,cap,cs,e,hB,h3⟩
  ·exact .inl p
  ·exact .inr ⟨g,cap,cs,e,aO hB K (by rw[(q g (by rw[e];rfl)).1];simp;omega),h3⟩
 refine⟨H,w6,G,run,⟨⟨l,vc,hS.kp K (fun x a b e=>by simp at e;omega)⟩,h.gd.kp K (by simp;omega),h.li.kp K (by simp;omega),h.ln,fun i hi F=>P i (by omega) F,h.dj,?_,h.kp.trans (K.mono fun x hx=>zL.2 (.inl (by simpa using hx)))⟩,P j (mR _) Z⟩;rw[O,List.map_append];exact hG
theorem Tp.set(h:Tp bQ s t w0 S bw bl bi M' vl vs bs (j+1) v3 oZ w)(ht:0<t/\(t<s\/s+60<=t))(g:Nat)(Z:(vs.getD j undef).ownBlock=some g)(ho:oZ g=s+47)(i:Nat)(v:Value):
  Tp bQ s t w0 S bw bl bi M' vl vs bs (j+1) v3 oZ (w.setCell (aj g i) v):=by
 obtain⟨l,vc,X⟩:=h.sd;have K:Kp [s+47] oZ oZ w (w.setCell (aj g i) v):=Kp.set oZ w _ v [s+47] (by rw[ho];simp);refine⟨⟨l,vc,X.kp K (fun x a b e=>by simp at e;omega)⟩,h.gd.kp K (by simp),h.li.kp K (by simp),h.ln,fun O hi F=>?_,h.dj,h.st.kp K (by simp;omega),h.kp.trans (K.mono fun x hx=>zL.2 (.inr (by simp at hx;omega)))⟩;obtain⟨p,q⟩:=h.ps O hi F;refine⟨?_,fun k I=>⟨(q k I).1,by simpa using(q k I).2⟩⟩
 rcases p with p|⟨H,cap,cs,e,hB,V⟩
 ·exact .inl p
 ·refine .inr ⟨H,cap,cs,e,?_,V⟩
  have G:H≠g:=fun U=>h.dj j O (by omega) F g Z (by rw[e,<-U];rfl)
  exact hB.of_heap (Below.heap_setCell _ _ _ _ (by simpa using G))
end


def PkT(oZ:Own)(s:Nat)(w:World)(S bw bl bi:Nat)(F:Side->List (List UInt8)->Prop)(x:Value)(w1:World):Prop:=
 ∃M' bs vs aC l' G,F M' bs/\bT aC s w1 S l' M' bw bl bi G/\Gd aC w1/\GT aC (s+52) 60 1 w1 x vs.length vs/\Qi aC s w1 vs bs/\Kp (Tb s) oZ aC w w1
def PlT(oZ:Own)(s t:Nat)(w:World)(S bw bl bi:Nat)(F:Side->List (List UInt8)->Prop)(x:Value)(w1:World):Prop:=
 ∃M' bs aC l' G,F M' bs/\bT aC s w1 S l' M' bw bl bi G/\Gd aC w1/\GT aC t 9 1 w1 x bs.length (bs.map sV)/\Kp (Tq s t) oZ aC w w1
theorem fC{oZ:Own}{t:Nat}{e:TypeId}{k:Nat}{w:World}{v:Value}{n:Nat}{l:aI}(h:GT oZ t e k w v n l):∃a c,v=.slice a n c:=by
 rcases h with⟨rfl,rfl,_⟩|⟨g,cap,cs,rfl,_⟩<;>exact⟨_,_,rfl⟩
theorem Fx(oZ:Own)(s t:Nat)(C S:Nat)(bw bl bi:Nat)(w:World)(hs:0<s)(ht:0<t/\(t<s\/s+60<=t))(RM:Side->List (List UInt8)->Prop)(he:∀M' bs,RM M' bs->bs.length<=1000/\∀j,j<bs.length->bs.getD j []≠[]/\(bs.getD j []).length<=1000000)(hR:Calls prog 68 #[ay C 0] w fun e w1=>∃x,e=.returned x/\PkT oZ s w S bw bl bi RM x w1):
  Calls prog 40 #[ay C 0] w fun e w'=>∃x,e=.returned x/\PlT oZ s t w S bw bl bi RM x w':=by
 have HC:Hid (Calls prog 68 #[ay C 0] w fun e w1=>∃a n c,e=.returned (.slice a n c)/\Hid (∃M' bs vs aC,n=vs.length/\RM M' bs/\Tp oZ s t w S bw bl bi M' (.slice a n c) vs bs 0 nZ aC w1)):=by
  refine hR.mono ?_;rintro e w1 ⟨x,rfl,M',bs,vs,aC,l',gZ,h1,h2,h3,h4,h5,h6⟩;obtain⟨a,c,rfl⟩:=fC h4;exact⟨a,_,c,rfl,M',bs,vs,aC,rfl,h1,⟨l',gZ,h2⟩,h3,h4,h5.1,fun i _ hi=>h5.2.1 i hi,h5.2.2,.inl ⟨rfl,rfl,rfl⟩,h6.mono fun x hx=>zL.2 (.inr (f_.1 hx).1)⟩
 have HN:=au he;have HT:=au ht;have I4:=au hs;clear hR he ht hs;go_enter func40,ntmps40
 go_wp2_with (go_at_call 68;refine HC.out.mono ?_;rintro e w1 ⟨a,n,c,rfl,H1⟩)
 clear HC;obtain⟨M',bs,vs,bD,hn,hM,hI⟩:=H1.out;have HM:=au hM;have X:=au hI;have HL:=au hn;obtain⟨g1,F⟩:=HN.out M' bs hM;have ha:=hI.ln
 have n4:n<=1000:=by omega
 have HG:=au F;clear hM hI hn H1 g1 F ha
 go_loopw [3,10] (fun s3 U wr=>∃j:Nat,j<=n/\U=(iZ j)/\Hid (∃dx,Tp oZ s t w S bw bl bi M' (.slice a n c) vs bs j s3 dx wr)) (fun _ U _=>n-(intOf U).toNat)
 case atStart=>exact⟨0,E8 _,rfl,bD,X.out⟩
 case round=>
  obtain⟨j,hj,rfl,HR⟩:=hrel;clear X
  by_cases x3:j<n
  ·have x0:(j:Int)<(n:Int):=by omega
   obtain⟨dx,G⟩:=HR.out
   have O:j<vs.length:=by have:=HL.out;omega
   have hv:j<bs.length:=by have:=G.ln;omega
   obtain⟨h9,hr⟩:=HG.out j hv;obtain⟨hw,hy⟩:=G.ps j (mR _) O;have Tt:=G.li
   rcases Tt with⟨e1,e2,_⟩|⟨g,cap,cs,ea,ho,hB,hc1,hc2,hc3,hc4,Fp,_⟩
   ·omega
   simp only[Value.slice.injEq]at ea;obtain⟨rfl,en,rfl⟩:=ea
   rcases hw with⟨_,h0⟩|⟨F,cp,cs2,ev,hB2,k1,k2,k3,k4,k5⟩
   ·exact absurd h0 h9
   have K:wr.cell? (aj g j)=some (aS F (bs.getD j []).length cp):=by
    rw[hB.cell]
    have:(cs.take (vs.length*1))[j]?=vs[j]?:=by rw[Fp]
    rw[He,if_pos (by omega)]at this;rw[this,<-ev,fA,fB O];rfl
   have hu:=run_convert_bytes_back (P:=prog) wr 60 9 5 (aj F 0) cp (bs.getD j []) u29 (by kernel_rfl) u9 (fun i hi=>by
    rw[Addr.add_lit,SF,hB2.cell]
    have:(cs2.take (bs.getD j []).length)[i]?=(aQ (bs.getD j []))[i]?:=by rw[k4]
    rw[He,if_pos hi]at this;rw[this];generalize bs.getD j []=B at hi ⊢
    simp[aQ,hi])
   obtain⟨v6,w6,gq,run,h7,hf,hg⟩:=G.app HT.out O (by omega);obtain⟨o6,_⟩:=hg F (by rw[ev];rfl)
   have Ti:(vs.getD j undef).ownBlock=some F:=by rw[ev];rfl
   have h8:DJ w6 F (bs.getD j []).length:=by
    rcases hf with⟨e,_⟩|⟨g3,cp3,cs3,ev3,hB3,q1,q2,_⟩
    ·rw[ev]at e;cases e
    ·rw[ev]at ev3;simp only[Value.slice.injEq,Option.some.injEq,Addr.mk.injEq]at ev3;obtain⟨⟨rfl,_,_⟩,_,rfl⟩:=ev3;exact⟨cs3.toArray,(0,0),hB3,by rw[List.size_toArray];omega,.inr rfl⟩
   have I:Hid (Tp oZ s t w S bw bl bi M' (aS g n c) vs bs (j+1) v6 gq w6/\DJ w6 F (bs.getD j []).length):=⟨h7,h8⟩;have Z:=au (And.intro Ti o6);simp only[sV]at run;clear en G h7 h8 hf hg o6 Ti hB hB2 k1 k2 k3 k4 k5 ev hy ho hc1 hc2 hc3 hc4 Fp HR h9;generalize bs.getD j []=B at *;obtain⟨n2,hc⟩:∃n2,n2=B.length:=⟨_,rfl⟩;rw[<-hc]at K hu I hr;clear hc
   go_wp2_with (first|(at_builtin;refine Lib.wpList_append_run _ rfl _ _ _ _ rfl _ _ rfl rfl _ _ (run _) ?_)|go_in)
   go_loopw [21] (fun V hm=>∃i:Nat,i<=n2/\V=(iZ i)/\Hid (Tp oZ s t w S bw bl bi M' (aS g n c) vs bs (j+1) v6 gq hm/\DJ hm F n2)) (fun V _=>n2-(intOf V).toNat)
   case atStart=>exact⟨0,E8 _,rfl,I⟩
   case round=>
    obtain⟨i,hi,rfl,H⟩:=hrel;clear I
    by_cases Tt:i<n2
    ·have Yb:(i:Int)<(n2:Int):=by omega
     obtain⟨⟨v,e1⟩,e2⟩:=H.out.2.cell i Tt;have HS:=au (And.intro (H.out.1.set HT.out F Z.out.1 Z.out.2 i (.int .u8 33)) (H.out.2.set i (.int .u8 33)));go_wp2;go_roundw
     case rel=>exact⟨i+1,by omega,by simp,HS⟩
     case measure=>simp[intOf];omega
    ·obtain rfl:i=n2:=by omega
     go_wp2;go_roundw
     case rel=>exact⟨j+1,by omega,by simp,gq,H.out.1⟩
     case measure=>simp[intOf];omega
  ·obtain rfl:j=n:=by omega
   go_wp2;go_ret;obtain⟨dx,G⟩:=HR.out;obtain⟨l,vc,hS⟩:=G.sd;have hl:=HL.out;have hk:=G.st;have ha:=G.ln;rw[DT (by omega),show j=bs.length by omega]at hk;exact⟨_,rfl,M',bs,dx,l,vc,HM.out,hS,G.gd,hk,G.kp⟩
theorem Jk(oZ:Own)(s t:Nat)(C S:Nat)(l:aI)(M B:Side)(bw bl bi:Nat)(vc:Value)(w:World)(h:bT oZ s w S l M bw bl bi vc)(hc:w.cell? (aj C 0)=some (ay S 0))(hg:Gd oZ w)(ht:0<t/\(t<s\/s+60<=t))(K:dD M.nq)(hq:QQ M)(h1:bn M B)(Z:bn B M)(H:Bd M)(hn:M.next+24<aZ)(O:M.tick<18446744073709551616):
  Calls prog 40 #[ay C 0] w fun e w'=>∃x,e=.returned x/\PlT oZ s t w S bw bl bi (fun M' bs=>∃pk,M.kY M' pk/\bs=UZ pk) x w':=by
 refine Fx oZ s t C S bw bl bi w h.s0 ht _ ?_ ?_
 ·rintro M' bs ⟨pk,hp,rfl⟩;have o:=zm K hq h1 Z H hn hp;have:=o.next;have:=o.top;unfold UZ;rw[Am];refine⟨by omega,fun j hj=>?_⟩;rw[fA,tL,fB hj];have q:=(o.ok _ (Aw hj)).1.sz;have:=H.mt;simp only[Option.map_some,Option.getD_some];have e:(aK pk[j].1 pk[j].2).length=(bV pk[j].1 pk[j].2).length+4:=nG _ _;exact⟨fun e2=>by rw[e2]at e;simp at e,by omega⟩
 ·refine Jf C S w hc _ ((IZ oZ s S l M bw bl bi vc w h hg K.why M.iG (PP B (M.next+24)) mu (pkp B _ hn) ?_ ?_ ?_).mono ?_)
  ·refine(Vr oZ s S l M bw bl bi vc w h H O (by omega)).mono ?_;rintro e w' ⟨rfl,G,r1,o2,l2,v2,U,V⟩;exact⟨rfl,G,o2,l2,v2,r1,U,V⟩
  ·intro dx W l2 G X F hS;have I:=EG H F
   exact VN dx s S l2 G bw bl bi X W hS (by have:=I.cm.ln;omega) (fun r hr=>by
    have:=I.cm.hi r hr;have:=I.cm.so.le r hr;unfold aZ at *
    omega)
  ·intro G F;obtain⟨p1,p2,p3⟩:=zi K hq h1 Z H F;exact⟨p1,p2,by omega⟩
  ·rintro e w' ⟨G,vl,vs,aC,l',gZ,bH,U,rfl,V,q3,q4,q5,q6,q7⟩;exact⟨vl,rfl,_,_,vs,aC,l',gZ,⟨_,⟨G,U,rfl⟩,rfl⟩,V,q3,q4,q5,q6⟩
end
section
structure Ad where
 N:Nat
 xb:Nat
 xc:Nat
 eb:Nat
 ec:Nat
 gb:Nat
 gc:Nat
 nb:Nat
 nc:Nat
 cb:Nat
 cc:Nat
 el:Nat->Nat
 Fy:Nat->Nat
 e:Nat->Nat->Nat
 C:Nat->Nat
 S:Nat->Nat
 bw:Nat->Nat
 bl:Nat->Nat
 bi:Nat->Nat
 aM:Nat
 win:Nat
 tot:Nat
def Cst(oZ:Own)(w:World)(b j:Nat)(v:Value):Prop:=w.cell? (aj b j)=some v/\180<=oZ b/\oZ b<200
theorem Cst.kp{oZ aC:Own}{w w':World}{b j:Nat}{v:Value}{T:List Nat}(h:Cst oZ w b j v)(K:Kp T oZ aC w w')(G:∀x∈T,¬(180<=x/\x<200)):Cst aC w' b j v:=by
 have F:b<w.heap.size:=wz w (aj b j) (by rw[h.1]);exact⟨cell_of h.1 (K.blk b F (fun e=>G _ e h.2)),by rw[K.ext b F];exact h.2⟩
def VO(a:Ad)(now:Nat)(vb:Value):aI:=
 [aS a.xb 2 a.xc,aS a.eb 2 a.ec,aS a.gb 2 a.gc,aS a.nb 2 a.nc,uZ now,iZ a.aM,iZ a.win,iZ a.tot,vb,aS a.cb 2 a.cc]
def Jl(o:Ot)(i:bU):aI:=[.string ⟨o.bytes.toArray⟩,.bool o.fin,.bool false,iZ 0,iZ i.read,iZ i.state]
def ends(n:Net)(i k:Nat):aI:=Jl ((n.x i).out k) ((n.x (1-i)).inn k)
def gI(l:List (Nat×Nat×List Fr)):aI:=l.flatMap fun y=>[iZ y.1,sV (aK y.2.1 y.2.2)]
structure bL (oZ:Own) (w:World) (a:Ad) (n:Net) (vb:Value) (E:Nat->Nat->aI):Prop where
 net:aA w a.N 48 (VO a n.now vb)/\oZ a.N=200
 xs:∀i,i<2->Cst oZ w a.xb i (ay (a.C i) 0)
 es:∀i,i<2->Cst oZ w a.eb i (aS (a.el i) 8 (a.Fy i))
 el:∀i k,i<2->k<8->Cst oZ w (a.el i) k (ay (a.e i k) 0)
 en:∀i k,i<2->k<8->aA w (a.e i k) 80 (E i k)/\oZ (a.e i k)=210+8*i+k
 gs:(∃g r,aA w a.gb 49 (n.gv::g::r))/\oZ a.gb=201
 gt:∃l,GT oZ 205 52 1 w n.gv n.gl l
 ns:(∃g r,aA w a.nb 43 ((uZ n.nx)::g::r))/\oZ a.nb=202
 ct:(∃r,aA w a.cb 43 ((uZ (n.cnt 0:Int))::(uZ (n.cnt 1:Int))::r))/\oZ a.cb=203
 bg:GT oZ 204 62 2 w vb n.bP.length (gI n.bP)
 sd:∀i,i<2->∃l vc,bT oZ (60*(i+1)) w (a.S i) l (n.x i) (a.bw i) (a.bl i) (a.bi i) vc
 cn:∀i,i<2->w.cell? (aj (a.C i) 0)=some (ay (a.S i) 0)/\oZ (a.C i)=0
 gd:Gd oZ w
 er:eF w
 o0:oZ 0=0
section
variable {oZ aC:Own} {w w':World} {a:Ad} {n n':Net} {vb Fz:Value} {E E':Nat->Nat->aI} {T:List Nat}
theorem bL.turn(h:bL oZ w a n vb E)(K:Kp T oZ aC w w')(I:0∉T)(h1:∀x∈T,¬(180<=x/\x<200)/\x≠201/\x≠202/\x≠205)(net:aA w' a.N 48 (VO a n'.now Fz))(en:∀i k,i<2->k<8->aA w' (a.e i k) 80 (E' i k))(ct:∃r,aA w' a.cb 43 ((uZ (n'.cnt 0:Int))::(uZ (n'.cnt 1:Int))::r))(bg:GT aC 204 62 2 w' Fz n'.bP.length (gI n'.bP))(sd:∀i,i<2->∃l vc,bT aC (60*(i+1)) w' (a.S i) l (n'.x i) (a.bw i) (a.bl i) (a.bi i) vc)(X:n'.gv=n.gv/\n'.gl=n.gl/\n'.nx=n.nx:=by exact⟨rfl,rfl,rfl⟩):bL aC w' a n' Fz E':=by
 have hs:=h.gd.sz
 have O:=fun x Z=>(h1 x Z).1
 obtain⟨F,U,V⟩:=X;refine⟨⟨net,by rw[K.ext _ h.net.1.lt];exact h.net.2⟩,fun i hi=>(h.xs i hi).kp K O,fun i hi=>(h.es i hi).kp K O,fun i k hi G=>(h.el i k hi G).kp K O,fun i k hi G=>⟨en i k hi G,by rw[K.ext _ (h.en i k hi G).1.lt];exact(h.en i k hi G).2⟩,?_,?_,?_,⟨ct,?_⟩,bg,sd,fun i hi=>?_,h.gd.kp K I,?_,by rw[K.ext 0 (by omega)];exact h.o0⟩
 ·obtain⟨⟨g,r,hB⟩,o⟩:=h.gs;rw[F];exact⟨⟨g,r,aO hB K (by rw[o];exact fun e=>(h1 _ e).2.1 rfl)⟩,by rw[K.ext _ hB.lt];exact o⟩
 ·obtain⟨l,hl⟩:=h.gt;rw[F,U];exact⟨l,hl.kp K fun e=>(h1 _ e).2.2.2 rfl⟩
 ·obtain⟨⟨g,r,hB⟩,o⟩:=h.ns;rw[V];exact⟨⟨g,r,aO hB K (by rw[o];exact fun e=>(h1 _ e).2.2.1 rfl)⟩,by rw[K.ext _ hB.lt];exact o⟩
 ·obtain⟨⟨r,hB⟩,o⟩:=h.ct;rw[K.ext _ hB.lt];exact o
 ·obtain⟨p,q⟩:=h.cn i hi;have H:a.C i<w.heap.size:=wz w (aj (a.C i) 0) (by rw[p]);exact⟨cell_of p (K.blk _ H (by rw[q];exact I)),by rw[K.ext _ H];exact q⟩
 ·exact cell_of h.er (K.blk 0 (by omega) (by rw[h.o0];exact I))
theorem bL.rO(h:bL oZ w a n vb E)(K:Kp T oZ aC w w')(F:200∉T):aA w' a.N 48 (VO a n.now vb):=aO h.net.1 K (by rw[h.net.2];exact F)
theorem bL.wo(h:bL oZ w a n vb E)(K:Kp T oZ aC w w')(i k:Nat)(hi:i<2)(F:k<8)(G:210+8*i+k∉T):aA w' (a.e i k) 80 (E i k):=aO (h.en i k hi F).1 K (by rw[(h.en i k hi F).2];exact G)
theorem bL.zM(h:bL oZ w a n vb E)(K:Kp T oZ aC w w')(F:203∉T):∃r,aA w' a.cb 43 ((uZ (n.cnt 0:Int))::(uZ (n.cnt 1:Int))::r):=by
 obtain⟨⟨r,hB⟩,o⟩:=h.ct;exact⟨r,aO hB K (by rw[o];exact F)⟩
theorem bL.wu(h:bL oZ w a n vb E)(K:Kp T oZ aC w w')(i:Nat)(hi:i<2)(G:∀x∈T,x<60*(i+1)\/60*(i+1)+45<=x/\x≠60*(i+1)+53):∃l vc,bT aC (60*(i+1)) w' (a.S i) l (n.x i) (a.bw i) (a.bl i) (a.bi i) vc:=by
 obtain⟨l,vc,F⟩:=h.sd i hi;exact⟨l,vc,F.kp K (fun x p q e=>by have:=G x e;omega)⟩
theorem bL.kp(h:bL oZ w a n vb E)(K:Kp T oZ aC w w')(F:∀x∈T,226<=x):bL aC w' a n vb E:=
 h.turn K (fun e=>by have:=F _ e;omega) (fun x e=>by have:=F x e;omega) (h.rO K (fun e=>by have:=F _ e;omega)) (fun i k hi G=>h.wo K i k hi G (fun e=>by have:=F _ e;omega)) (h.zM K (fun e=>by have:=F _ e;omega)) (h.bg.kp K (fun e=>by have:=F _ e;omega)) (fun i hi=>h.wu K i hi fun x H=>.inr (by have:=F x H;omega))
theorem bL.below(h:bL oZ w a n vb E)(hb:aD w w'):bL oZ w' a n vb E:=h.kp (Kp.below (T:=[]) hb) (by simp)
theorem bL.side(h:bL oZ w a n vb E)(K:Kp T oZ aC w w')(i:Nat)(hi:i<2)(F:∀x∈T,(60*(i+1)<=x/\x<60*(i+1)+60)\/226<=x)(M:Side)(H:∃l vc,bT aC (60*(i+1)) w' (a.S i) l M (a.bw i) (a.bl i) (a.bi i) vc):bL aC w' a (n.bY i M) vb E:=by
 refine h.turn K (fun e=>by have:=F _ e;omega) (fun x e=>by have:=F x e;omega) (h.rO K (fun e=>by have:=F _ e;omega)) (fun j k G I=>h.wo K j k G I (fun e=>by have:=F _ e;omega)) (h.zM K (fun e=>by have:=F _ e;omega)) (h.bg.kp K (fun e=>by have:=F _ e;omega)) (fun j G=>?_)
 by_cases e:j=i
 ·subst e;rw[b_];exact H
 ·rw[eU _ _ _ _ e]
  exact h.wu K j G fun x O=>by have:=F x O;omega
theorem bL.Al(h:bL oZ w a n vb E)(G:∀i k,i<2->k<8->E i k=E' i k):bL oZ w a n vb E':=
 ⟨h.net,h.xs,h.es,h.el,fun i k hi F=>by rw[<-G i k hi F];exact h.en i k hi F,h.gs,h.gt,h.ns,h.ct,h.bg,h.sd,h.cn,h.gd,h.er,h.o0⟩
theorem bL.VP(h:bL oZ w a n vb E)(i k:Nat)(hi:i<2)(I:k<8)(j:Nat)(v:Value):bL oZ (w.setCell (aj (a.e i k) j) v) a n vb (fun F k'=>if F=i/\k'=k then(E i k).set j v else E F k'):=by
 have O:=(h.en i k hi I).2;have K:Kp [210+8*i+k] oZ oZ w (w.setCell (aj (a.e i k) j) v):=Kp.set oZ w _ v _ (by rw[O];simp);refine h.turn K (by simp;omega) (by simp;omega) (h.rO K (by simp;omega)) (fun F k' G H=>?_) (h.zM K (by simp;omega)) (h.bg.kp K (by simp;omega)) (fun i hi=>h.wu K i hi fun x U=>.inr (by simp at U;omega))
 by_cases e:F=i/\k'=k
 ·rw[if_pos e,e.1,e.2];exact(h.en i k hi I).1.setCell j v
 ·rw[if_neg e];exact h.wo K F k' G H (by simp;omega)
theorem bL.Yc(h:bL oZ w a n vb E)(t:Nat):bL oZ (w.setCell (aj a.N 4) (uZ t)) a {n with now:=t} vb E:=by
 have K:Kp [200] oZ oZ w (w.setCell (aj a.N 4) (uZ t)):=Kp.set oZ w _ _ _ (by rw[h.net.2];simp);exact h.turn K (by simp) (by simp) (h.net.1.setCell 4 _) (fun i k hi F=>h.wo K i k hi F (by simp;omega)) (h.zM K (by simp)) (h.bg.kp K (by simp)) (fun i hi=>h.wu K i hi fun x G=>.inr (by simp at G;omega))
theorem bL.RJ(h:bL oZ w a n vb E)(l:List (Nat×Nat×List Fr))(F:GT oZ 204 62 2 w Fz l.length (gI l)):bL oZ (w.setCell (aj a.N 8) Fz) a {n with bP:=l} Fz E:=by
 have K:Kp [200] oZ oZ w (w.setCell (aj a.N 8) Fz):=Kp.set oZ w _ _ _ (by rw[h.net.2];simp);exact h.turn K (by simp) (by simp) (h.net.1.setCell 8 _) (fun i k hi G=>h.wo K i k hi G (by simp;omega)) (h.zM K (by simp)) (F.kp K (by simp)) (fun i hi=>h.wu K i hi fun x H=>.inr (by simp at H;omega))
theorem bL.ZE(h:bL oZ w a n vb E)(i:Nat)(hi:i<2)(c:Nat):bL oZ (w.setCell (aj a.cb i) (uZ c)) a {n with cnt:=fun j=>if j=i then c else n.cnt j} vb E:=by
 have K:Kp [203] oZ oZ w (w.setCell (aj a.cb i) (uZ c)):=Kp.set oZ w _ _ _ (by rw[h.ct.2];simp);obtain⟨⟨r,hB⟩,o⟩:=h.ct;refine h.turn K (by simp) (by simp) (h.rO K (by simp)) (fun i k hi F=>h.wo K i k hi F (by simp;omega)) ⟨r,?_⟩ (h.bg.kp K (by simp)) (fun i hi=>h.wu K i hi fun x G=>.inr (by simp at G;omega));have:=hB.setCell i (uZ c)
 rcases(show i=0\/i=1 by omega)with rfl|rfl
 ·exact this
 ·exact this
end

