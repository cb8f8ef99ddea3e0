import Derived.Test.YtphbledmopchnaaGreatDoorUee
import Derived.Test.YtphbledmopchnaaGreatDoorUfa
open Go.RowKit.Below renaming refl->fB,heap_setCell->tT
open List renaming getElem?_cons_succ->nI,getElem?_cons_zero->sQ,getElem?_set_ne->Am,length_map->Aw
open Nat renaming le_refl->fA,le_trans->uj,lt_succ_self->wz,lt_of_lt_of_le->DT,lt_succ_of_lt->E8
open Prod renaming fst->mR
open Go.World renaming size_alloc->tL,block_lt_of_cell?->Av
set_option maxHeartbeats 4000000
set_option maxRecDepth 100000
namespace Go.Proofs.YtphbledmopchnaaGreatDoor.Sd
open Go.RowKit Go.Lib Mm Tryz
theorem qac(S N n H B:Nat)(fa:Option Addr)(w K G:World)(X:Value->World->Prop)(Q:Value->World->Prop)(U:K=w.alloc (.cells #[uZ N,.slice fa n H] 56))(V:G=K.setCell (aj S 229) (uZ ((N:Int)+1)))(I:G.heap.size=w.heap.size+1)(hB:B=w.heap.size)(h0:N<4611686018427387903)(n0:w.cell? (aj S 229)=some (uZ N))(n1:K.cell? (aj S 229)=some (uZ N))(nf:K.frozen? (aj S 229)=false)(x0:G.cell? (aj B 0)=some (uZ N))(x1:G.cell? (aj B 1)=some (.slice fa n H))(hw:Calls prog 182 #[.slice fa n H] G fun e w'=>e=.returned (.bool false)/\aD G w')(Z:∀W,aD G W->Calls prog 167 #[.agg #[uZ N,.slice fa n H]] W fun e w'=>∃v,e=.returned (.tuple #[v,.nilIface])/\(X v w'/\∀k,v.ownBlock=some k->W.heap.size<=k)/\aD W w')(hq:∀v W O,(X v O/\∀k,v.ownBlock=some k->W.heap.size<=k)->aD G W->aD W O->Q v O):
  Calls prog 158 #[ay S 0,.slice fa n H] w fun e w'=>∃v,e=.returned v/\Q v w':=by
 subst hB;subst U;have UJ:=au hw;have HE:=au Z;have HQ:=au hq;clear hw Z hq;go_enter func158,ntmps158
 go_wp2_with (first
  |(go_at_call 182;rw[<-V];refine UJ.out.mono ?_;rintro e w2 ⟨rfl,F⟩;have y0:=(cell_of x0 (F.block _ (by rw[I];exact wz _)));have y1:=(cell_of x1 (F.block _ (by rw[I];exact wz _))))
  |(go_at_call 167;refine(HE.out w2 F).mono ?_;rintro e w3 ⟨v,rfl,e1,e3⟩)
  |go_in)
 go_ret;exact⟨v,rfl,HQ.out v _ _ e1 F e3⟩
theorem qad(S N n K B bw tk m:Nat)(fa:Option Addr)(w W0 G:World)(A1:Option Addr->Nat->World->Prop)(U1:World->Prop)(E1:Value->World->Prop)(Q:Value->World->Prop)(h3:W0=w.alloc (.cells #[uZ N,.slice fa n K] 56))(h0:G=W0.setCell (aj S 229) (uZ ((N:Int)+1)))(I:G.heap.size=w.heap.size+1)(hB:B=w.heap.size)(U:S<w.heap.size)(h4:N<4611686018427387903)(n0:w.cell? (aj S 229)=some (uZ N))(n1:W0.cell? (aj S 229)=some (uZ N))(nf:W0.frozen? (aj S 229)=false)(x0:G.cell? (aj B 0)=some (uZ N))(x1:G.cell? (aj B 1)=some (.slice fa n K))(z3:G.cell? (aj S 3)=some (uZ tk))(XH:G.cell? (aj S 230)=some (.map (some bw)))(hw:Calls prog 182 #[.slice fa n K] G fun e w'=>e=.returned (.bool true)/\aD G w')(ha:∀W,aD G W->Calls prog 212 #[.slice fa n K] W fun e w'=>∃a c,e=.returned (.slice a m c)/\A1 a c w'/\aD W w')(hu:∀a c W,aD G W->A1 a c W->∃O,(Instr.mapUpdate 203 (.map (some bw)) (uZ N) (.agg #[.slice a m c,uZ tk])).run prog W=.ok () O/\U1 O/\G.grownBy O (some bw)/\O.cell? (aj B 0)=some (uZ N)/\O.cell? (aj B 1)=some (.slice fa n K))(he:∀W,G.grownBy W (some bw)->Calls prog 167 #[.agg #[uZ N,.slice fa n K]] W fun e w'=>∃v,e=.returned (.tuple #[v,.nilIface])/\(E1 v w'/\∀k,v.ownBlock=some k->W.heap.size<=k)/\aD W w')(hq:∀v W O,(E1 v O/\∀k,v.ownBlock=some k->W.heap.size<=k)->U1 W->aD W O->Q v O):
  Calls prog 158 #[ay S 0,.slice fa n K] w fun e w'=>∃v,e=.returned v/\Q v w':=by
 subst hB;subst h3;have UJ:=au hw;have HE:=au he;have HQ:=au hq;have HA:=au ha;have HU:=au hu;have HS:=au (And.intro I U);have HX:=au (And.intro x0 (And.intro x1 (And.intro z3 XH)))
 have hf:Hid (∀W,aD G W->W.cell? (aj w.heap.size 0)=some (uZ N)/\W.cell? (aj w.heap.size 1)=some (.slice fa n K)/\W.cell? (aj S 3)=some (uZ tk)/\W.cell? (aj S 230)=some (.map (some bw))):=fun W hb=>⟨cell_of x0 (hb.block _ (by rw[I];exact wz _)),cell_of x1 (hb.block _ (by rw[I];exact wz _)),cell_of z3 (hb.block _ (by rw[I];exact E8 U)),cell_of XH (hb.block _ (by rw[I];exact E8 U))⟩
 clear hw he hq ha hu x0 x1 z3 XH I U;go_enter func158,ntmps158
 go_wp2_with (first
  |(go_at_call 182;rw[<-h0];refine UJ.out.mono ?_;rintro e w2 ⟨rfl,H⟩)
  |go_in)
 obtain⟨y0,y1,y3,h5⟩:=hf.out w2 H
 have Z:Hid (∀q,Calls prog 212 #[.slice fa n K] (w2.drewN q) fun e w'=>∃a c,e=.returned (.slice a m c)/\Hid (A1 a c w'/\aD G w')/\(w'.cell? (aj w.heap.size 0)=some (uZ N)/\w'.cell? (aj w.heap.size 1)=some (.slice fa n K)/\w'.cell? (aj S 3)=some (uZ tk)/\w'.cell? (aj S 230)=some (.map (some bw)))/\∃F:World,(Instr.mapUpdate 203 (.map (some bw)) (uZ N) (.agg #[.slice a m c,uZ tk])).run prog w'=.ok () F/\Hid (U1 F/\G.grownBy F (some bw))/\F.cell? (aj w.heap.size 0)=some (uZ N)/\F.cell? (aj w.heap.size 1)=some (.slice fa n K)):=fun q=>by
  have X:aD G (w2.drewN q):=⟨H.os,H.tape,H.output,H.size,H.block⟩;refine(HA.out (w2.drewN q) X).mono ?_;rintro e w' ⟨a,c,rfl,h1,h2⟩;have V:aD G w':=X.trans (h2.mono X.size);obtain⟨F,u1,u2,u3,u4,u5⟩:=HU.out a c w' V h1;exact⟨a,c,rfl,⟨h1,V⟩,hf.out w' V,F,u1,⟨u2,u3⟩,u4,u5⟩
 clear HA HU UJ hf h4 n0 n1 nf h0 H HX HS
 go_region_with (first|(go_at_call 212;refine(Z.out _).mono ?_;rintro e y ⟨a,c,rfl,hA,⟨y0,y1,y3,h5⟩,F,hF,hU,f0,f1⟩))
 all_goals
  clear Z
  go_wp2_with (first
   |(go_at_call 167;refine(HE.out F hU.out.2).mono ?_;rintro e w3 ⟨v,rfl,e1,e3⟩)
   |go_in)
  go_ret;exact⟨v,rfl,HQ.out v _ _ e1 hU.out.1 e3⟩
structure Gd (oZ:Own) (w:World):Prop where
 tab:TabAt w
 o1:oZ 1=0
 sz:2<=w.heap.size
theorem Gd.kp{oZ aC:Own}{w w':World}{T:List Nat}(h:Gd oZ w)(K:Kp T oZ aC w w')(F:0∉T):Gd aC w':=
 ⟨fun k G=>cell_of (h.tab k G) (K.blk 1 (by have:=h.sz;omega) (by rw[h.o1];exact F)),by rw[K.ext 1 (by have:=h.sz;omega),h.o1],uj h.sz K.size⟩
theorem jh.UK{w:World}{b:Nat}{l:List gM}(h:jh w b l){x o:Nat}{v:Value}(G:w.cell? (aj x o)=some v):x≠b:=fun e=>by
 obtain⟨es,⟨H,c1,F,_⟩,_⟩:=h;subst e;simp[World.cell?,F]at G
theorem kG.heap{w w':World}{b off:Nat}{f:Fr}{ra:Option Addr}{rc:Nat}{S:Nat}(h:kG w b off f ra rc)(hb:b≠S)(G:∀x,ra=some x->x.block≠S)(F:∀x o v,x≠S->w.cell? (aj x o)=some v->w'.cell? (aj x o)=some v):kG w' b off f ra rc:=
 ⟨F _ _ _ hb h.c0,F _ _ _ hb h.c1,F _ _ _ hb h.c2,F _ _ _ hb h.c3,F _ _ _ hb h.c4,F _ _ _ hb h.c5,F _ _ _ hb h.c6,F _ _ _ hb h.c7,F _ _ _ hb h.c8,F _ _ _ hb h.c9,fun j O=>by
  obtain⟨x,o,h1,H,I,K⟩:=h.rng j O
  exact⟨x,o,h1,F _ _ _ (G _ h1) H,F _ _ _ (G _ h1) I,K⟩,h.rlen,h.xG,h.k0,h.s0,h.u0⟩
theorem jB.heap{w w':World}{fa:Option Addr}{fs:List Fr}{ra:Nat->Option Addr}{rc:Nat->Nat}{S:Nat}(h:jB w fa fs ra rc)(F:∀x,fa=some x->x.block≠S)(G:∀j x,ra j=some x->x.block≠S)(U:∀x o v,x≠S->w.cell? (aj x o)=some v->w'.cell? (aj x o)=some v)(hs:w.heap.size<=w'.heap.size):jB w' fa fs ra rc:=fun j O=>by
 obtain⟨b,off,h1,H,I,K⟩:=h j O;exact⟨b,off,h1,kG.heap H (F _ h1) (G j) U,I,fun x V=>DT (K x V) hs⟩
theorem rF{w w':World}{b:Nat}{l:List gM}(G:jh w b l)(H:w.grownBy w' (some b)):∀x o v,w.cell? (aj x o)=some v->w'.cell? (aj x o)=some v:=fun x o v F=>
 cell_of F (H.block x (Av (a:=(aj x o)) _ F) (by simpa using G.UK F))
theorem oq.add{oZ aC:Own}{t tf:Nat}{w w':World}{b:Nat}{l:List (Nat×m_)}(n:Nat)(p:m_)(a:Option Addr)(c:Nat)(f:Nat->Option Addr×Nat)(h1:oZ b=t)(I:∀x∈l,GT oZ tf 65 10 w (.slice (f x.1).1 x.2.frames.length (f x.1).2) x.2.frames.length (iU x.2.frames))(H:∀x∈l,x.1≠n)(U:jh w' b ((n,a,p.frames.length,c,p.tick)::l.map (ent f))){T:List Nat}(K:Kp T oZ aC w w')(G:tf∉T)(hb:b<w.heap.size)(O:GT aC tf 65 10 w' (.slice a p.frames.length c) p.frames.length (iU p.frames)):oq aC t tf w' b (l++[(n,p)]):=by
 refine⟨fun k=>if k=n then(a,c)else f k,by rw[K.ext b hb,h1],?_,fun x F=>?_⟩
 ·have e:(l++[(n,p)]).map (ent fun k=>if k=n then(a,c)else f k)=l.map (ent f)++[(n,a,p.frames.length,c,p.tick)]:=by
   rw[List.map_append]
   congr 1
   ·refine List.map_congr_left fun x F=>?_
    unfold ent;simp only[if_neg (H x F)]
   ·simp[ent]
  rw[e];exact U.perm (List.perm_append_comm (l₁:=[_]))
 ·rcases List.mem_append.1 F with F|F
  ·simp only[if_neg (H x F)];exact(I x F).kp K G
  ·obtain rfl:=List.mem_singleton.1 F;simp only[if_true];exact O
theorem EP:∀L:List FV,(∀x∈L,x.2=(none,0,0))->l6 L=iU (L.map mR)
 |[],_=>rfl
 |x::t,h=>by
  have e:lu x=nZ:=by unfold lu;rw[h x (by simp)]
  show bZ x.1 (lu x)++l6 t=bZ x.1 nZ++iU (t.map mR);rw[e,EP t fun y F=>h y (by simp[F])]
theorem bT.pkt{oZ aC:Own}{s:Nat}{w w':World}{S:Nat}{l:aI}{M:Side}{bw bl bi:Nat}{vc:Value}(h:bT oZ s w S l M bw bl bi vc)(n:Nat)(way:List (Nat×m_))(K:Kp [s,s+42] oZ aC w w')(hB:aA w' S TS (l.set 229 (uZ n)))(G:oq aC (s+42) (s+44) w' bw way):bT aC s w' S (l.set 229 (uZ n)) {M with next:=n,aF:=way} bw bl bi vc:=by
 have wi:iN l (l.set 229 (uZ n)) 229 1:=iN.set l 229 _ 229 1 (by omega) (by omega)
 have e:∀j,j≠229->(l.set 229 (uZ n))[j]?=l[j]?:=fun j F=>Am (by omega)
 have c:=h.cells
 refine⟨by rw[K.ext S h.blk.lt,h.ow],h.s0,hB,⟨by rw[List.length_set];exact c.len,(e _ (by omega)).trans c.c0,(e _ (by omega)).trans c.c1,(e _ (by omega)).trans c.c2,(e _ (by omega)).trans c.c3,(e _ (by omega)).trans c.mH,c.gr.win wi (by omega),
  (e _ (by omega)).trans c.oh,(e _ (by omega)).trans c.c226,(e _ (by omega)).trans c.c227,(e _ (by omega)).trans c.c228,List.getElem?_set_self (by rw[c.len];omega),(e _ (by omega)).trans c.kL,(e _ (by omega)).trans c.nC,(e _ (by omega)).trans c.c232,(e _ (by omega)).trans c.c233,
  (e _ (by omega)).trans c.c234,(e _ (by omega)).trans c.nD,(e _ (by omega)).trans c.c236,(e _ (by omega)).trans c.o9,(e _ (by omega)).trans c.kM,(e _ (by omega)).trans c.o_⟩,fun j F=>?_,fun j F=>?_,?_,G,?_,h.qu.kp K (by simp),h.lo,h.li⟩
 ·exact(h.out j F).kp K (by simp;omega) (by simp;omega) (by simp;omega) wi (by omega)
 ·exact(h.inn j F).kp K (by simp;omega) (by simp;omega) wi (by omega)
 ·exact h.row.kp K (by simp)
 ·exact h.lost.kp K (by simp) (by simp)
def Bl(oZ:Own)(s n:Nat):Own:=fun b=>if b<n then oZ b else s+47
theorem CV(oZ:Own)(s n b:Nat)(h:b<n):Bl oZ s n b=oZ b:=if_pos h
theorem jR(oZ:Own)(s n b:Nat)(h:n<=b):Bl oZ s n b=s+47:=if_neg (by omega)
def qaf(s:Nat)(oZ:Own)(w:World)(S:Nat)(bw bl bi:Nat)(M:Side)(fs:List Fr)(v:Value)(w':World):Prop:=
 Buf w' v (aK M.next fs)/\jX w.heap.size v/\∃aC l' F,bT aC s w' S l' (M.packet fs) bw bl bi F/\Kp [s,s+42] oZ aC w w'/\∀k,v.ownBlock=some k->aC k=s+47
theorem MB(oZ:Own)(s:Nat)(S:Nat)(l:aI)(M:Side)(bw bl bi:Nat)(vc:Value)(fa:Option Addr)(L:List FV)(X:Nat)(ra:Nat->Option Addr)(rc:Nat->Nat)(w:World)(h:bT oZ s w S l M bw bl bi vc)(hG:Gd oZ w)(hn:M.next<4611686018427387903)(hk:∀x∈M.aF,x.1<M.next)(xt:M.aF.length<100000)(h0:0<L.length)(hl:L.length<=1000)(hF:Rd 10 w (.slice fa L.length X) L.length (l6 L))(hV:sO w fa L)(hA:jB w fa (L.map mR) ra rc)(hr:∀x∈L,isA x.1=false->x.2=(none,0,0))(he:∀x,fa=some x->x.block≠S)(x7:∀j x,ra j=some x->x.block≠S)(TT:nY M.next (L.map mR)=true)(xi:(bV M.next (L.map mR)).length<=1000000000):
  Calls prog 158 #[ay S 0,.slice fa L.length X] w fun e w'=>∃v,e=.returned v/\qaf s oZ w S bw bl bi M (L.map mR) v w':=by
 have P5:=h.blk.lt;obtain⟨V,h7⟩:∃V,V=w.alloc (.cells #[uZ M.next,.slice fa L.length X] 56):=⟨_,rfl⟩
 have h8:aD w V:=by rw[h7];exact(fB _ w).alloc (fA _) _
 have xm:aA V w.heap.size 56 [uZ M.next,.slice fa L.length X]:=by rw[h7];exact aA.new w 56 _
 have xo:V.heap.size=w.heap.size+1:=by rw[h7];simp
 obtain⟨G,I⟩:∃G,G=V.setCell (aj S 229) (uZ ((M.next:Int)+1)):=⟨_,rfl⟩;have hm:aA V S TS l:=h.blk.of_heap (h8.block S P5)
 have h9:aA G S TS (l.set 229 (uZ (((M.next+1:Nat)):Int))):=by rw[I];exact hm.setCell 229 _
 have x6:aA G w.heap.size 56 [uZ M.next,.slice fa L.length X]:=by rw[I];exact xm.of_heap (tT _ _ _ _ (by show w.heap.size≠S;omega))
 have K1:Kp [s] oZ oZ w G:=by rw[I];exact(Kp.below h8).trans (Kp.set oZ V _ _ [s] (by show oZ S∈[s];rw[h.ow];simp))
 have O:∀x o v,x≠S->w.cell? (aj x o)=some v->G.cell? (aj x o)=some v:=fun x o v hx hc=>by
  have xp:=Av (a:=(aj x o)) _ hc;rw[I];exact cell_of hc ((tT V (aj S 229) _ x hx).trans (h8.block x xp))
 have x8:G.heap.size=w.heap.size+1:=by rw[I];simp[xo]
 have xf:sO G fa L:=fun j hj=>by
  obtain⟨b,off,h1,h2⟩:=hV j hj;refine⟨b,off,h1,fun i hi=>?_⟩;have:=h2 i hi;rw[List.getElem?_eq_getElem (by simpa using hi)]at this ⊢;exact O _ _ _ (he _ h1) this
 have xd:Rd 10 G (.slice fa L.length X) L.length (l6 L):=by
  rcases hF with h|⟨g,cap,h1,h2,h3,h4,h5⟩
  ·exact .inl h
  ·simp only[Value.slice.injEq,true_and]at h1;exact .inr ⟨g,cap,by simp[h1],by omega,h3,fun j u hj=>O _ _ _ (he _ h1.1) (h4 j u hj),h5⟩
 have hA1:jB G fa (L.map mR) ra rc:=jB.heap hA he x7 O (by omega);have Y4:Gd oZ G:=hG.kp K1 (by simp;have:=h.s0;omega);have UJ:=au (A_ fa L X G (by omega) xf);have xr:=h.way;obtain⟨f,ho,ha,xj⟩:=xr
 have Y5:bw≠S:=fun e=>by have:=h.ow;rw[e]at ho;omega
 have h6:jh G bw (M.aF.map (ent f)):=ha.kept (by rw[I];exact(tT V (aj S 229) _ bw Y5).trans (h8.block bw ha.lt))
 have HE:Hid (∀W,G.grownBy W (some bw)->Calls prog 167 #[.agg #[uZ M.next,.slice fa L.length X]] W fun e w'=>∃v,e=.returned (.tuple #[v,.nilIface])/\(Buf w' v (aK M.next (L.map mR))/\∀k,v.ownBlock=some k->W.heap.size<=k)/\aD W w'):=fun W Z=>by
  have x4:=rF h6 Z;have hA2:jB W fa (L.map mR) ra rc:=jB.heap hA1 he x7 (fun x o v _ hc=>x4 x o v hc) Z.size;have:=xL M.next fa (L.map mR) X ra rc W (by simp;omega) hA2 TT (fun k H=>x4 _ _ _ (Y4.tab k H)) (uj Y4.sz Z.size) xi;rw[Aw]at this;refine this.mono ?_;rintro e w' ⟨v,h1,h2,h3,h4⟩;exact⟨v,h1,⟨h2,h3⟩,h4⟩
 have x0:G.cell? (aj w.heap.size 0)=some (uZ M.next):=x6.cell 0;have x1:G.cell? (aj w.heap.size 1)=some (.slice fa L.length X):=x6.cell 1;have n0:w.cell? (aj S 229)=some (uZ M.next):=(h.blk.cell _).trans h.cells.c229;have n1:V.cell? (aj S 229)=some (uZ M.next):=(hm.cell _).trans h.cells.c229;have nf:=hm.frozen 229;cases hf:wants (L.map mR)
 ·rw[hf]at UJ
  have HQ:Hid (∀W,aD G W->∃l' gZ,bT (Bl oZ s w.heap.size) s W S l' (M.packet (L.map mR)) bw bl bi gZ/\Kp [s,s+42] oZ (Bl oZ s w.heap.size) w W):=fun W hb=>by
   have e:M.packet (L.map mR)={M with next:=M.next+1,aF:=M.aF}:=by unfold Side.packet;rw[hf];rfl
   rw[e];have K0:Kp [s,s+42] oZ oZ w W:=(K1.mono (by simp)).fK hb;have K:Kp [s,s+42] oZ (Bl oZ s w.heap.size) w W:=⟨K0.os,K0.tape,K0.output,K0.size,K0.blk,fun b F=>CV oZ s _ b F⟩;have Kx:Kp [s] oZ (Bl oZ s w.heap.size) w G:=⟨K1.os,K1.tape,K1.output,K1.size,K1.blk,fun b F=>CV oZ s _ b F⟩;exact⟨_,vc,h.pkt (M.next+1) M.aF K (bI hb h9) ((h.way.kp Kx (by simp) (by simp)).kp (Kp.below (T:=[]) hb) (by simp) (by simp)),K⟩
  refine qac S M.next L.length X w.heap.size fa w V G _ _ h7 I x8 rfl (by omega) n0 n1 nf x0 x1 UJ.out (fun W hb=>HE.out W ((fF hb).but _)) (fun v W W' a b c=>?_);obtain⟨l',gZ,q1,q2⟩:=HQ.out W' (b.trans (c.mono b.size))
  have hw:∀k,v.ownBlock=some k->w.heap.size<=k:=fun k H=>uj (by have:=b.size;omega) (a.2 k H)
  exact⟨a.1,hw,_,l',gZ,q1,q2,fun k H=>jR _ _ _ _ (hw k H)⟩
 ·rw[hf]at UJ
  have hv:(L.filter fun x=> !isA x.1).map mR=again (L.map mR):=by
   unfold again;rw[List.filter_map];rfl
  have Y6:(L.filter fun x=> !isA x.1).length=(again (L.map mR)).length:=by rw[<-hv,Aw]
  have xn:l6 (L.filter fun x=> !isA x.1)=iU (again (L.map mR)):=by
   rw[EP _ fun x hx=>by
    obtain⟨h1,h2⟩:=List.mem_filter.1 hx
    exact hr x h1 (by simpa using h2),hv]
  have x9:Hid (∀W,aD G W->Calls prog 212 #[.slice fa L.length X] W fun e w'=>∃a c,e=.returned (.slice a (again (L.map mR)).length c)/\(bK 65 10 w' (.slice a (again (L.map mR)).length c) (again (L.map mR)).length (iU (again (L.map mR)))/\jX w.heap.size (.slice a (again (L.map mR)).length c))/\aD W w'):=fun W hb=>by
   have:=Mx fa L X W (by omega) h0 (xd.below hb);rw[Y6,xn]at this;refine this.mono ?_;rintro e w' ⟨a,c,h1,h2,h3,h4⟩;exact⟨a,c,h1,⟨h2,fun k H=>uj (by have:=hb.size;omega) (h3 k H)⟩,h4⟩
  refine qad S M.next L.length X w.heap.size bw M.tick (again (L.map mR)).length fa w V G _ (fun W=>∃aC l' gZ,bT aC s W S l' (M.packet (L.map mR)) bw bl bi gZ/\Kp [s,s+42] oZ aC w W/\w.heap.size<=W.heap.size/\∀b,W.heap.size<=b->aC b=s+47) _ _ h7 I x8 rfl P5 (by omega) n0 n1 nf x0 x1 ?_ ?_ UJ.out x9.out ?_ HE.out ?_
  ·rw[h9.cell,Am (by omega)];exact h.cells.c3
  ·rw[h9.cell,Am (by omega)];exact h.cells.kL
  ·rintro a c W hb ⟨hu,x3⟩;have xe:jh W bw (M.aF.map (ent f)):=h6.kept (hb.block _ h6.lt)
   obtain⟨W',u1,u2,u3⟩:=xe.put (by rw[Aw];omega) (M.next,a,(again (L.map mR)).length,c,M.tick) (by omega) (fun y hy=>by
    obtain⟨x,hx,rfl⟩:=List.mem_map.1 hy;have:=hk x hx;show x.1≠M.next
    omega)
   have Z:G.grownBy W' (some bw):=((fF hb).but (some bw)).andThen u3 (fun j hj=>.inr hj);refine⟨W',u1,?_,Z,rF h6 Z _ _ _ x0,rF h6 Z _ _ _ x1⟩
   obtain⟨aC,U⟩:∃aC:Own,aC=fun b=>if b<w.heap.size then oZ b else if b<W'.heap.size then s+44 else s+47:=⟨_,rfl⟩
   have K:Kp [s,s+42] oZ aC w W':=by
    have k1:w.grownBy G (some S):=⟨K1.os,K1.tape,K1.output,K1.size,fun i hi xl=>by rw[I];exact(tT V (aj S 229) _ i (by simpa using xl)).trans (h8.block i hi)⟩;refine⟨Z.os.trans k1.os,Z.tape.trans k1.tape,Z.output.trans k1.output,uj k1.size Z.size,fun b F x5=>?_,fun b F=>by rw[U];exact if_pos F⟩
    have e1:b≠S:=fun e=>x5 (by rw[e,h.ow];simp)
    have e2:b≠bw:=fun e=>x5 (by rw[e,ho];simp)
    exact(Z.block b (by omega) (by simpa using e2)).trans (k1.block b F (by simpa using e1))
   have e:M.packet (L.map mR)={M with next:=M.next+1,aF:=M.aF++[(M.next,⟨again (L.map mR),M.tick⟩)]}:=by unfold Side.packet;rw[hf];rfl
   rw[e];refine⟨aC,_,vc,h.pkt (M.next+1) _ K (h9.of_heap (Z.block S (by omega) (by simpa using Y5.symm))) ?_,K,K.size,fun b F=>by rw[U];show(if b<w.heap.size then oZ b else if b<W'.heap.size then s+44 else s+47)=_;rw[if_neg (by have:=K.size;omega),if_neg (by omega)]⟩;refine oq.add M.next ⟨again (L.map mR),M.tick⟩ a c f ho xj (fun x hx=>by have:=hk x hx;omega) u2 K (by simp) ha.lt ?_
   refine GT.TW ?_ fun b F=>?_
   ·refine hu.of_heap fun b F=>u3.block b (hu.lt b F) (fun e=>?_)
    have:=x3 b F;have:=ha.lt;simp at e;omega
   ·rw[U];have xv:=x3 b F;have xa:b<W'.heap.size:=DT (hu.lt b F) u3.size;show(if b<w.heap.size then oZ b else if b<W'.heap.size then s+44 else s+47)=_;rw[if_neg (by omega),if_pos xa]
  ·rintro v W W' ⟨e1,e2⟩ ⟨aC,l',gZ,u1,u2,u4,u3⟩ hb;exact⟨e1,fun k H=>uj u4 (e2 k H),aC,l',gZ,u1.below hb,u2.fK hb,fun k H=>u3 k (e2 k H)⟩
abbrev jE(x:Src):Value:=.agg #[iZ x.u,.func x.f1 x.p1 x.k1,.func x.f2 x.p2 x.k2,.bool x.y]
structure iy (oZ:Own) (s:Nat) (w0:World) (S bw bl bi ab:Nat) (x:Src) (iw ou:Side->aP->Bool) (nx:Side->aP->Int->Option (Fr×Side×aP)):Prop where
 fn:∃n1 n2,x.f1=.func n1/\x.f2=.func n2/\(∀args w,(callFunc n1 args).run prog w=.ok (.enter n1 args) w)/\(∀args w,(callFunc n2 args).run prog w=.ok (.enter n2 args) w)/\
  lI oZ s w0 S bw bl bi ab n1 x.p1 x.k1 iw/\nQ oZ s w0 S bw bl bi ab n2 x.p2 x.k2 ou nx
theorem iy.kp{oZ F:Own}{s:Nat}{w0 w1:World}{S bw bl bi ab:Nat}{x:Src}{iw ou:Side->aP->Bool}{nx:Side->aP->Int->Option (Fr×Side×aP)}(h:iy oZ s w0 S bw bl bi ab x iw ou nx)(K:Kp (Tb s) oZ F w0 w1):iy F s w1 S bw bl bi ab x iw ou nx:=by
 obtain⟨n1,n2,h1,G,H,I,O,U⟩:=h.fn;exact⟨n1,n2,h1,G,H,I,O.kp K,U.kp K⟩
structure MK (oZ:Own) (s:Nat) (w0:World) (S bw bl bi ab:Nat) (x:Src) (iw ou:Side->aP->Bool) (nx:Side->aP->Int->Option (Fr×Side×aP)):Prop where
 fn:∃n1 n2,x.f1=.func n1/\x.f2=.func n2/\(∀args w,(callFunc n1 args).run prog w=.ok (.enter n1 args) w)/\(∀args w,(callFunc n2 args).run prog w=.ok (.enter n2 args) w)/\
  lI oZ s w0 S bw bl bi ab n1 x.p1 x.k1 iw/\qG oZ s w0 S bw bl bi ab n2 x.p2 x.k2 ou nx
theorem yS{oZ:Own}{s:Nat}{w w':World}(hb:aD w w'):Kp [] oZ (Bl oZ s w.heap.size) w w':=⟨hb.os,hb.tape,hb.output,hb.size,fun b h _=>hb.block b h,fun b h=>CV oZ s _ b h⟩
theorem qK{oZ:Own}{s:Nat}{S bw bl bi ab:Nat}{x:Src}{iw ou:Side->aP->Bool}{nx:Side->aP->Int->Option (Fr×Side×aP)}(w:World)(h:iy oZ s w S bw bl bi ab x iw ou nx):
  Calls prog 205 #[ay S 0,jE x] w fun e w'=>∃I,e=.returned (jE I)/\aD w w'/\I.u=x.u/\I.y=x.y/\iy (Bl oZ s w.heap.size) s w' S bw bl bi ab I (fun M av=> !M.full&&iw M av) ou nx:=by
 go_enter func205,ntmps205;go_wp2;obtain⟨F,H⟩:∃F:Value,F=.func (.func 261) #[] #[ay w.heap.size 0,(ay (w.heap.size+1+1+1) 0)]:=⟨_,rfl⟩;rw[<-H];have B0:=aA.new w 128 [ay S 0];have B1:=aA.new (w.alloc (.cells #[ay S 0] 128)) 304 [iZ x.u,F,.func x.f2 x.p2 x.k2,.bool x.y];have G:=aA.new ((w.alloc (.cells #[ay S 0] 128)).alloc (.cells #[iZ x.u,F,.func x.f2 x.p2 x.k2,.bool x.y] 304)) 304 [iZ x.u,F,.func x.f2 x.p2 x.k2,.bool x.y];have O:=aA.new (((w.alloc (.cells #[ay S 0] 128)).alloc (.cells #[iZ x.u,F,.func x.f2 x.p2 x.k2,.bool x.y] 304)).alloc (.cells #[iZ x.u,F,.func x.f2 x.p2 x.k2,.bool x.y] 304)) 28 [.func x.f1 x.p1 x.k1];have hb:aD w ((((w.alloc (.cells #[ay S 0] 128)).alloc (.cells #[iZ x.u,F,.func x.f2 x.p2 x.k2,.bool x.y] 304)).alloc (.cells #[iZ x.u,F,.func x.f2 x.p2 x.k2,.bool x.y] 304)).alloc (.cells #[.func x.f1 x.p1 x.k1] 28)):=((((fB _ w).alloc (fA _) _).alloc (by simp) _).alloc (by simp;omega) _).alloc (by simp;omega) _;replace B0:=((B0.alloc (.cells #[iZ x.u,F,.func x.f2 x.p2 x.k2,.bool x.y] 304)).alloc (.cells #[iZ x.u,F,.func x.f2 x.p2 x.k2,.bool x.y] 304)).alloc (.cells #[.func x.f1 x.p1 x.k1] 28);replace G:=G.alloc (.cells #[.func x.f1 x.p1 x.k1] 28);simp only[tL]at G O;generalize ((((w.alloc (.cells #[ay S 0] 128)).alloc (.cells #[iZ x.u,F,.func x.f2 x.p2 x.k2,.bool x.y] 304)).alloc (.cells #[iZ x.u,F,.func x.f2 x.p2 x.k2,.bool x.y] 304)).alloc (.cells #[.func x.f1 x.p1 x.k1] 28))=W at *;have U:=G.cell 0;have V:=G.cell 1;have a2:=G.cell 2;have X:=G.cell 3;simp only[sQ,nI]at U V a2 X;refine bodyPost_ret (v:=.agg #[iZ x.u,F,.func x.f2 x.p2 x.k2,.bool x.y]) (by simp[results,results205,go_sem,U,V,a2,X]) rfl ⟨⟨x.u,.func 261,#[],#[ay w.heap.size 0,(ay (w.heap.size+1+1+1) 0)],x.f2,x.p2,x.k2,x.y⟩,by rw[H],hb,rfl,rfl,?_⟩;obtain⟨n1,n2,h1,Z,h3,h4,h5,h6⟩:=h.fn;have K:Kp (Tb s) oZ (Bl oZ s w.heap.size) w W:=(yS hb).mono (by simp);rw[h1]at O;exact⟨261,n2,rfl,Z,enters_of func261 (by kernel_rfl) rfl,h4,Im _ _ h3 ⟨jR _ _ _ _ (fA _),B0⟩ ⟨jR _ _ _ _ (by omega),O⟩ (h5.kp K),h6.kp K⟩
theorem IJ{oZ:Own}{s:Nat}{S bw bl bi ab:Nat}(w:World):
  Calls prog 202 #[ay S 0] w fun e w'=>∃K,e=.returned (jE K)/\aD w w'/\K.u=8/\K.y=false/\MK (Bl oZ s w.heap.size) s w' S bw bl bi ab K (fun M _=>M.gr.waits M.free) (fun M _=>M.gr.waits M.free) (fun M av room=>(M.gr.next 5 0 M.free room).map fun x=>(x.1,{M with gr:=x.2},av)):=by
 go_enter func202,ntmps202;go_wp2;obtain⟨F,H⟩:∃F:Value,F=.func (.func 250) #[] #[ay w.heap.size 0]:=⟨_,rfl⟩;obtain⟨G,I⟩:∃G:Value,G=.func (.func 253) #[] #[ay w.heap.size 0]:=⟨_,rfl⟩;rw[<-H,<-I];have B0:=((aA.new w 128 [ay S 0]).alloc (.cells #[iZ 8,F,G,.bool false] 304));have B1:=aA.new (w.alloc (.cells #[ay S 0] 128)) 304 [iZ 8,F,G,.bool false];have hb:aD w ((w.alloc (.cells #[ay S 0] 128)).alloc (.cells #[iZ 8,F,G,.bool false] 304)):=(((fB _ w).alloc (fA _) (.cells #[ay S 0] 128)).alloc (by simp;try omega) (.cells #[iZ 8,F,G,.bool false] 304));simp only[tL]at B1;generalize ((w.alloc (.cells #[ay S 0] 128)).alloc (.cells #[iZ 8,F,G,.bool false] 304))=W at *;have O:=B1.cell 0;have U:=B1.cell 1;have a2:=B1.cell 2;have V:=B1.cell 3;simp only[sQ,nI]at O U a2 V;refine bodyPost_ret (v:=.agg #[(iZ (8)),F,G,.bool false]) (by simp[results,results202,go_sem,O,U,a2,V]) rfl ⟨⟨8,.func 250,#[],#[ay w.heap.size 0],.func 253,#[],#[ay w.heap.size 0],false⟩,by rw[H,I],hb,rfl,rfl,?_⟩;exact⟨250,253,rfl,rfl,enters_of func250 (by kernel_rfl) rfl,enters_of func253 (by kernel_rfl) rfl,CP _ ⟨jR _ _ _ _ (by omega),B0⟩,C9 _ ⟨jR _ _ _ _ (by omega),B0⟩ _⟩
theorem C_{oZ:Own}{s:Nat}{S bw bl bi ab:Nat}(k:Nat)(Z:k<8)(w:World):
  Calls prog 203 #[ay S 0,iZ k] w fun e w'=>∃K,e=.returned (jE K)/\aD w w'/\K.u=16+(k:Int)/\K.y=false/\MK (Bl oZ s w.heap.size) s w' S bw bl bi ab K (fun M _=>(M.inn k).eZ) (fun M _=>(M.inn k).eZ) (fun M av room=>((M.inn k).gr.next 6 k (M.inn k).free room).map fun x=>(x.1,M.dA k {M.inn k with gr:=x.2},av)):=by
 have h0:(k:Int)<8:=by omega
 go_enter func203,ntmps203;go_wp2
 go_region
 go_wp2;rw[show 4+k*27+14=18+27*k by omega];obtain⟨F,H⟩:∃F:Value,F=.func (.func 255) #[(ay S (18+27*k))] #[]:=⟨_,rfl⟩;obtain⟨G,I⟩:∃G:Value,G=.func (.func 256) #[] #[(ay (w.heap.size+1+1) 0),ay w.heap.size 0]:=⟨_,rfl⟩;rw[<-H,<-I];have B0:=aA.drew (((((aA.new w 3 [iZ k]).alloc (.cells #[(iZ (16+(k:Int))),F,G,.bool false] 304))).alloc (.cells #[(ay S (18+27*k))] 333)));have B1:=aA.drew (((aA.new (w.alloc (.cells #[iZ k] 3)) 304 [(iZ (16+(k:Int))),F,G,.bool false]).alloc (.cells #[(ay S (18+27*k))] 333)));have O:=aA.drew (aA.new ((w.alloc (.cells #[iZ k] 3)).alloc (.cells #[(iZ (16+(k:Int))),F,G,.bool false] 304)) 333 [(ay S (18+27*k))]);have hb:aD w (((w.alloc (.cells #[iZ k] 3)).alloc (.cells #[(iZ (16+(k:Int))),F,G,.bool false] 304)).alloc (.cells #[(ay S (18+27*k))] 333)).drew:=(⟨((((fB _ w).alloc (fA _) (.cells #[iZ k] 3)).alloc (by simp;try omega) (.cells #[(iZ (16+(k:Int))),F,G,.bool false] 304)).alloc (by simp;try omega) (.cells #[(ay S (18+27*k))] 333)).os,((((fB _ w).alloc (fA _) (.cells #[iZ k] 3)).alloc (by simp;try omega) (.cells #[(iZ (16+(k:Int))),F,G,.bool false] 304)).alloc (by simp;try omega) (.cells #[(ay S (18+27*k))] 333)).tape,((((fB _ w).alloc (fA _) (.cells #[iZ k] 3)).alloc (by simp;try omega) (.cells #[(iZ (16+(k:Int))),F,G,.bool false] 304)).alloc (by simp;try omega) (.cells #[(ay S (18+27*k))] 333)).output,((((fB _ w).alloc (fA _) (.cells #[iZ k] 3)).alloc (by simp;try omega) (.cells #[(iZ (16+(k:Int))),F,G,.bool false] 304)).alloc (by simp;try omega) (.cells #[(ay S (18+27*k))] 333)).size,((((fB _ w).alloc (fA _) (.cells #[iZ k] 3)).alloc (by simp;try omega) (.cells #[(iZ (16+(k:Int))),F,G,.bool false] 304)).alloc (by simp;try omega) (.cells #[(ay S (18+27*k))] 333)).block⟩:aD w (((w.alloc (.cells #[iZ k] 3)).alloc (.cells #[(iZ (16+(k:Int))),F,G,.bool false] 304)).alloc (.cells #[(ay S (18+27*k))] 333)).drew);simp only[tL]at B1 O;generalize (((w.alloc (.cells #[iZ k] 3)).alloc (.cells #[(iZ (16+(k:Int))),F,G,.bool false] 304)).alloc (.cells #[(ay S (18+27*k))] 333)).drew=W at *;have U:=B1.cell 0;have V:=B1.cell 1;have a2:=B1.cell 2;have X:=B1.cell 3;simp only[sQ,nI]at U V a2 X;refine bodyPost_ret (v:=.agg #[(iZ (16+(k:Int))),F,G,.bool false]) (by simp[results,results203,go_sem,U,V,a2,X]) rfl ⟨⟨16+(k:Int),.func 255,#[(ay S (18+27*k))],#[],.func 256,#[],#[(ay (w.heap.size+1+1) 0),ay w.heap.size 0],false⟩,by rw[H,I],hb,rfl,rfl,?_⟩;exact⟨255,256,rfl,rfl,enters_of func255 (by kernel_rfl) rfl,enters_of func256 (by kernel_rfl) rfl,yJ k Z,yR k Z _ _ ⟨jR _ _ _ _ (by omega),O⟩ ⟨jR _ _ _ _ (by omega),B0⟩ _⟩
theorem IK{oZ:Own}{s:Nat}{S bw bl bi ab:Nat}(k:Nat)(hk:k<8)(w:World):
  Calls prog 204 #[ay S 0,iZ k] w fun e w'=>∃K,e=.returned (jE K)/\aD w w'/\K.u=24+(k:Int)/\K.y=false/\MK (Bl oZ s w.heap.size) s w' S bw bl bi ab K (fun M _=>(M.out k).nt.waits (M.out k).bytes.length) (fun M _=>(M.out k).nt.waits (M.out k).bytes.length) (fun M av room=>((M.out k).nt.next k (M.out k).bytes.length room).map fun x=>(x.1,M.bf k {M.out k with nt:=x.2},av)):=by
 have h0:(k:Int)<8:=by omega
 go_enter func204,ntmps204;go_wp2
 go_region
 go_wp2;rw[show 4+k*27=4+27*k by omega];obtain⟨F,H⟩:∃F:Value,F=.func (.func 258) #[(ay S (4+27*k))] #[]:=⟨_,rfl⟩;obtain⟨G,I⟩:∃G:Value,G=.func (.func 259) #[] #[(ay (w.heap.size+1+1) 0),ay w.heap.size 0]:=⟨_,rfl⟩;rw[<-H,<-I];have B0:=aA.drew (((((aA.new w 3 [iZ k]).alloc (.cells #[(iZ (24+(k:Int))),F,G,.bool false] 304))).alloc (.cells #[(ay S (4+27*k))] 282)));have B1:=aA.drew (((aA.new (w.alloc (.cells #[iZ k] 3)) 304 [(iZ (24+(k:Int))),F,G,.bool false]).alloc (.cells #[(ay S (4+27*k))] 282)));have X:=aA.drew (aA.new ((w.alloc (.cells #[iZ k] 3)).alloc (.cells #[(iZ (24+(k:Int))),F,G,.bool false] 304)) 282 [(ay S (4+27*k))]);have hb:aD w (((w.alloc (.cells #[iZ k] 3)).alloc (.cells #[(iZ (24+(k:Int))),F,G,.bool false] 304)).alloc (.cells #[(ay S (4+27*k))] 282)).drew:=(⟨((((fB _ w).alloc (fA _) (.cells #[iZ k] 3)).alloc (by simp;try omega) (.cells #[(iZ (24+(k:Int))),F,G,.bool false] 304)).alloc (by simp;try omega) (.cells #[(ay S (4+27*k))] 282)).os,((((fB _ w).alloc (fA _) (.cells #[iZ k] 3)).alloc (by simp;try omega) (.cells #[(iZ (24+(k:Int))),F,G,.bool false] 304)).alloc (by simp;try omega) (.cells #[(ay S (4+27*k))] 282)).tape,((((fB _ w).alloc (fA _) (.cells #[iZ k] 3)).alloc (by simp;try omega) (.cells #[(iZ (24+(k:Int))),F,G,.bool false] 304)).alloc (by simp;try omega) (.cells #[(ay S (4+27*k))] 282)).output,((((fB _ w).alloc (fA _) (.cells #[iZ k] 3)).alloc (by simp;try omega) (.cells #[(iZ (24+(k:Int))),F,G,.bool false] 304)).alloc (by simp;try omega) (.cells #[(ay S (4+27*k))] 282)).size,((((fB _ w).alloc (fA _) (.cells #[iZ k] 3)).alloc (by simp;try omega) (.cells #[(iZ (24+(k:Int))),F,G,.bool false] 304)).alloc (by simp;try omega) (.cells #[(ay S (4+27*k))] 282)).block⟩:aD w (((w.alloc (.cells #[iZ k] 3)).alloc (.cells #[(iZ (24+(k:Int))),F,G,.bool false] 304)).alloc (.cells #[(ay S (4+27*k))] 282)).drew);simp only[tL]at B1 X;generalize (((w.alloc (.cells #[iZ k] 3)).alloc (.cells #[(iZ (24+(k:Int))),F,G,.bool false] 304)).alloc (.cells #[(ay S (4+27*k))] 282)).drew=W at *;have O:=B1.cell 0;have U:=B1.cell 1;have a2:=B1.cell 2;have V:=B1.cell 3;simp only[sQ,nI]at O U a2 V;refine bodyPost_ret (v:=.agg #[(iZ (24+(k:Int))),F,G,.bool false]) (by simp[results,results204,go_sem,O,U,a2,V]) rfl ⟨⟨24+(k:Int),.func 258,#[(ay S (4+27*k))],#[],.func 259,#[],#[(ay (w.heap.size+1+1) 0),ay w.heap.size 0],false⟩,by rw[H,I],hb,rfl,rfl,?_⟩;exact⟨258,259,rfl,rfl,enters_of func258 (by kernel_rfl) rfl,enters_of func259 (by kernel_rfl) rfl,CQ k hk,qG.never fun M _ Z=>(by show((M.out k).nt.given&&_)=false;rw[Z.ng k];rfl)⟩
theorem mk_data{oZ:Own}{s:Nat}{S bw bl bi ab:Nat}(k:Nat)(hk:k<8)(w:World):
  Calls prog 206 #[ay S 0,iZ k] w fun e w'=>∃O,e=.returned (jE O)/\aD w w'/\O.u=40+(k:Int)/\O.y=false/\iy (Bl oZ s w.heap.size) s w' S bw bl bi ab O (fun M _=>(M.out k).waits M.aB) (fun M _=>(M.out k).waits M.aB) (fun M av room=>((M.out k).next k room M.aB).map fun x=>(x.1,M.bf k x.2,av)):=by
 have h0:(k:Int)<8:=by omega
 go_enter func206,ntmps206;go_wp2
 go_region
 go_wp2;rw[show 4+k*27=4+27*k by omega];obtain⟨F,I⟩:∃F:Value,F=.func (.func 263) #[] #[(ay (w.heap.size+1+1+1) 0),ay w.heap.size 0]:=⟨_,rfl⟩;obtain⟨G,K⟩:∃G:Value,G=.func (.func 266) #[] #[(ay (w.heap.size+1+1+1) 0),(ay (w.heap.size+1) 0),ay w.heap.size 0]:=⟨_,rfl⟩;rw[<-I,<-K];have B0:=aA.drew (((((((aA.new w 128 [ay S 0]).alloc (.cells #[iZ k] 3))).alloc (.cells #[(iZ (40+(k:Int))),F,G,.bool false] 304))).alloc (.cells #[(ay S (4+27*k))] 282)));have B1:=aA.drew (((((aA.new (w.alloc (.cells #[ay S 0] 128)) 3 [iZ k]).alloc (.cells #[(iZ (40+(k:Int))),F,G,.bool false] 304))).alloc (.cells #[(ay S (4+27*k))] 282)));have H:=aA.drew (((aA.new ((w.alloc (.cells #[ay S 0] 128)).alloc (.cells #[iZ k] 3)) 304 [(iZ (40+(k:Int))),F,G,.bool false]).alloc (.cells #[(ay S (4+27*k))] 282)));have U:=aA.drew (aA.new (((w.alloc (.cells #[ay S 0] 128)).alloc (.cells #[iZ k] 3)).alloc (.cells #[(iZ (40+(k:Int))),F,G,.bool false] 304)) 282 [(ay S (4+27*k))]);have hb:aD w ((((w.alloc (.cells #[ay S 0] 128)).alloc (.cells #[iZ k] 3)).alloc (.cells #[(iZ (40+(k:Int))),F,G,.bool false] 304)).alloc (.cells #[(ay S (4+27*k))] 282)).drew:=(⟨(((((fB _ w).alloc (fA _) (.cells #[ay S 0] 128)).alloc (by simp;try omega) (.cells #[iZ k] 3)).alloc (by simp;try omega) (.cells #[(iZ (40+(k:Int))),F,G,.bool false] 304)).alloc (by simp;try omega) (.cells #[(ay S (4+27*k))] 282)).os,(((((fB _ w).alloc (fA _) (.cells #[ay S 0] 128)).alloc (by simp;try omega) (.cells #[iZ k] 3)).alloc (by simp;try omega) (.cells #[(iZ (40+(k:Int))),F,G,.bool false] 304)).alloc (by simp;try omega) (.cells #[(ay S (4+27*k))] 282)).tape,(((((fB _ w).alloc (fA _) (.cells #[ay S 0] 128)).alloc (by simp;try omega) (.cells #[iZ k] 3)).alloc (by simp;try omega) (.cells #[(iZ (40+(k:Int))),F,G,.bool false] 304)).alloc (by simp;try omega) (.cells #[(ay S (4+27*k))] 282)).output,(((((fB _ w).alloc (fA _) (.cells #[ay S 0] 128)).alloc (by simp;try omega) (.cells #[iZ k] 3)).alloc (by simp;try omega) (.cells #[(iZ (40+(k:Int))),F,G,.bool false] 304)).alloc (by simp;try omega) (.cells #[(ay S (4+27*k))] 282)).size,(((((fB _ w).alloc (fA _) (.cells #[ay S 0] 128)).alloc (by simp;try omega) (.cells #[iZ k] 3)).alloc (by simp;try omega) (.cells #[(iZ (40+(k:Int))),F,G,.bool false] 304)).alloc (by simp;try omega) (.cells #[(ay S (4+27*k))] 282)).block⟩:aD w ((((w.alloc (.cells #[ay S 0] 128)).alloc (.cells #[iZ k] 3)).alloc (.cells #[(iZ (40+(k:Int))),F,G,.bool false] 304)).alloc (.cells #[(ay S (4+27*k))] 282)).drew);simp only[tL]at B1 H U;generalize ((((w.alloc (.cells #[ay S 0] 128)).alloc (.cells #[iZ k] 3)).alloc (.cells #[(iZ (40+(k:Int))),F,G,.bool false] 304)).alloc (.cells #[(ay S (4+27*k))] 282)).drew=W at *;have V:=H.cell 0;have X:=H.cell 1;have a2:=H.cell 2;have Z:=H.cell 3;simp only[sQ,nI]at V X a2 Z;refine bodyPost_ret (v:=.agg #[(iZ (40+(k:Int))),F,G,.bool false]) (by simp[results,results206,go_sem,V,X,a2,Z]) rfl ⟨⟨40+(k:Int),.func 263,#[],#[(ay (w.heap.size+1+1+1) 0),ay w.heap.size 0],.func 266,#[],#[(ay (w.heap.size+1+1+1) 0),(ay (w.heap.size+1) 0),ay w.heap.size 0],false⟩,by rw[I,K],hb,rfl,rfl,?_⟩;exact⟨263,266,rfl,rfl,enters_of func263 (by kernel_rfl) rfl,enters_of func266 (by kernel_rfl) rfl,Mr k hk _ _ ⟨jR _ _ _ _ (by omega),U⟩ ⟨jR _ _ _ _ (by omega),B0⟩,MJ k hk _ _ _ ⟨jR _ _ _ _ (by omega),U⟩ ⟨jR _ _ _ _ (by omega),B1⟩ ⟨jR _ _ _ _ (by omega),B0⟩⟩
theorem Da{oZ:Own}{s:Nat}{S bw bl bi ab:Nat}(w:World):
  Calls prog 207 #[ay S 0] w fun e w'=>∃K,e=.returned (jE K)/\aD w w'/\K.u=32/\K.y=false/\iy (Bl oZ s w.heap.size) s w' S bw bl bi ab K (fun M _=>decide (0<M.queue.length)) (fun M _=>decide (0<M.queue.length)) (fun M av room=>if room<M.cO then none else M.queue.head?.map fun f=>(f,{M with queue:=M.queue.tail,qv:=SV M.qv},av)):=by
 go_enter func207,ntmps207;go_wp2
 go_region
 go_wp2;obtain⟨F,H⟩:∃F:Value,F=.func (.func 268) #[ay S 233] #[]:=⟨_,rfl⟩;obtain⟨G,I⟩:∃G:Value,G=.func (.func 269) #[ay S 233] #[]:=⟨_,rfl⟩;rw[<-H,<-I];have B0:=aA.drew (aA.new w 304 [iZ 32,F,G,.bool false]);have hb:aD w (w.alloc (.cells #[iZ 32,F,G,.bool false] 304)).drew:=(⟨((fB _ w).alloc (fA _) (.cells #[iZ 32,F,G,.bool false] 304)).os,((fB _ w).alloc (fA _) (.cells #[iZ 32,F,G,.bool false] 304)).tape,((fB _ w).alloc (fA _) (.cells #[iZ 32,F,G,.bool false] 304)).output,((fB _ w).alloc (fA _) (.cells #[iZ 32,F,G,.bool false] 304)).size,((fB _ w).alloc (fA _) (.cells #[iZ 32,F,G,.bool false] 304)).block⟩:aD w (w.alloc (.cells #[iZ 32,F,G,.bool false] 304)).drew);generalize (w.alloc (.cells #[iZ 32,F,G,.bool false] 304)).drew=W at *;have O:=B0.cell 0;have U:=B0.cell 1;have a2:=B0.cell 2;have V:=B0.cell 3;simp only[sQ,nI]at O U a2 V;refine bodyPost_ret (v:=.agg #[(iZ (32)),F,G,.bool false]) (by simp[results,results207,go_sem,O,U,a2,V]) rfl ⟨⟨32,.func 268,#[ay S 233],#[],.func 269,#[ay S 233],#[],false⟩,by rw[H,I],hb,rfl,rfl,?_⟩;exact⟨268,269,rfl,rfl,enters_of func268 (by kernel_rfl) rfl,enters_of func269 (by kernel_rfl) rfl,yL,yM⟩
