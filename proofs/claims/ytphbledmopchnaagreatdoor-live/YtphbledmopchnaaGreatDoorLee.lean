import Derived.Test.YtphbledmopchnaaGreatDoorLde
open Go.RowKit.Below renaming heap_setCell->eT
open List renaming getElem?_set_ne->mE,length_map->mK
open Nat renaming le_trans->j3,lt_succ_self->lg,lt_of_lt_of_le->mR,lt_succ_of_lt->mY
open Prod renaming fst->eB
set_option maxHeartbeats 4000000
set_option maxRecDepth 100000
namespace Go.Proofs.YtphbledmopchnaaGreatDoor.Sd
open Go.RowKit Go.Lib Mm Tryz
theorem qfz(S N n c B:Nat)(fa:Option Addr)(w f b:World)(l:Value->World->Prop)(Q:Value->World->Prop)(i:f=w.alloc (.cells #[uZ N,.slice fa n c] 56))(j:b=f.setCell (aB S 229) (uZ ((N:Int)+1)))(d:b.heap.size=w.heap.size+1)(hB:B=w.heap.size)(t:N<4611686018427387903)(n0:w.cell? (aB S 229)=some (uZ N))(n1:f.cell? (aB S 229)=some (uZ N))(z:f.frozen? (aB S 229)=false)(x:b.cell? (aB B 0)=some (uZ N))(y:b.cell? (aB B 1)=some (.slice fa n c))(o:Calls prog 182 #[.slice fa n c] b fun e w'=>e=.returned (.bool false)/\bJ b w')(m:∀W,bJ b W->Calls prog 167 #[.agg #[uZ N,.slice fa n c]] W fun e w'=>∃v,e=.returned (.tuple #[v,.nilIface])/\(l v w'/\∀k,v.ownBlock=some k->W.heap.size<=k)/\bJ W w')(hq:∀v W h,(l v h/\∀k,v.ownBlock=some k->W.heap.size<=k)->bJ b W->bJ W h->Q v h):Calls prog 158 #[aI S 0,.slice fa n c] w fun e w'=>∃v,e=.returned v/\Q v w':=by subst hB;subst i;have g:=aG o;have p:=aG m;have q:=aG hq;clear o m hq;go_enter func158,ntmps158;go_wp2_with (first|(go_at_call 182;rw[<-j];refine bN g.out ?_;rintro u a;have C:=(cell_of x (a.block _ (by rw[d];exact lg _)));have D:=(cell_of y (a.block _ (by rw[d];exact lg _))))|(go_at_call 167;refine(p.out u a).mono ?_;rintro e A ⟨v,rfl,r,s⟩)|go_in);go_ret;exact⟨v,rfl,q.out v _ _ r a s⟩
theorem qg0(S N n g B bw tk m:Nat)(fa:Option Addr)(w t b:World)(x:Option Addr->Nat->World->Prop)(z:World->Prop)(J:Value->World->Prop)(Q:Value->World->Prop)(A:t=w.alloc (.cells #[uZ N,.slice fa n g] 56))(s:b=t.setCell (aB S 229) (uZ ((N:Int)+1)))(f:b.heap.size=w.heap.size+1)(hB:B=w.heap.size)(i:S<w.heap.size)(D:N<4611686018427387903)(n0:w.cell? (aB S 229)=some (uZ N))(n1:t.cell? (aB S 229)=some (uZ N))(nf:t.frozen? (aB S 229)=false)(G:b.cell? (aB B 0)=some (uZ N))(H:b.cell? (aB B 1)=some (.slice fa n g))(I:b.cell? (aB S 3)=some (uZ tk))(o:b.cell? (aB S 230)=some (.map (some bw)))(T:Calls prog 182 #[.slice fa n g] b fun e w'=>e=.returned (.bool true)/\bJ b w')(O:∀W,bJ b W->Calls prog 212 #[.slice fa n g] W fun e w'=>∃a c,e=.returned (.slice a m c)/\x a c w'/\bJ W w')(R:∀a c W,bJ b W->x a c W->∃h,(Instr.mapUpdate 203 (.map (some bw)) (uZ N) (.agg #[.slice a m c,uZ tk])).run prog W=.ok () h/\z h/\b.grownBy h (some bw)/\h.cell? (aB B 0)=some (uZ N)/\h.cell? (aB B 1)=some (.slice fa n g))(P:∀W,b.grownBy W (some bw)->Calls prog 167 #[.agg #[uZ N,.slice fa n g]] W fun e w'=>∃v,e=.returned (.tuple #[v,.nilIface])/\(J v w'/\∀k,v.ownBlock=some k->W.heap.size<=k)/\bJ W w')(hq:∀v W h,(J v h/\∀k,v.ownBlock=some k->W.heap.size<=k)->z W->bJ W h->Q v h):Calls prog 158 #[aI S 0,.slice fa n g] w fun e w'=>∃v,e=.returned v/\Q v w':=by
 subst hB;subst A;have r:=aG T;have U:=aG P;have V:=aG hq;have K:=aG O;have L:=aG R;have X:=aG (dB f i);have Y:=aG (dB G (dB H (dB I o)));have C:Hid (∀W,bJ b W->W.cell? (aB w.heap.size 0)=some (uZ N)/\W.cell? (aB w.heap.size 1)=some (.slice fa n g)/\W.cell? (aB S 3)=some (uZ tk)/\W.cell? (aB S 230)=some (.map (some bw))):=fun W hb=>⟨cell_of G (hb.block _ (by rw[f];exact lg _)),cell_of H (hb.block _ (by rw[f];exact lg _)),cell_of I (hb.block _ (by rw[f];exact mY i)),cell_of o (hb.block _ (by rw[f];exact mY i))⟩;clear T P hq O R G H I o f i;go_enter func158,ntmps158;go_wp2_with (first|(go_at_call 182;rw[<-s];refine bN r.out ?_;rintro u d)|go_in);obtain⟨y0,y1,y3,E⟩:=C.out u d;have p:Hid (∀q,Calls prog 212 #[.slice fa n g] (u.drewN q) fun e w'=>∃a c,e=.returned (.slice a m c)/\Hid (x a c w'/\bJ b w')/\(w'.cell? (aB w.heap.size 0)=some (uZ N)/\w'.cell? (aB w.heap.size 1)=some (.slice fa n g)/\w'.cell? (aB S 3)=some (uZ tk)/\w'.cell? (aB S 230)=some (.map (some bw)))/\∃F:World,(Instr.mapUpdate 203 (.map (some bw)) (uZ N) (.agg #[.slice a m c,uZ tk])).run prog w'=.ok () F/\Hid (z F/\b.grownBy F (some bw))/\F.cell? (aB w.heap.size 0)=some (uZ N)/\F.cell? (aB w.heap.size 1)=some (.slice fa n g)):=fun q=>by have l:bJ b (u.drewN q):=⟨d.os,d.tape,d.output,d.size,d.block⟩;refine(K.out (u.drewN q) l).mono ?_;rintro e w' ⟨a,c,rfl,h1,h2⟩;have j:bJ b w':=l.trans (h2.mono l.size);obtain⟨F,u1,u2,u3,u4,u5⟩:=L.out a c w' j h1;exact⟨a,c,rfl,⟨h1,j⟩,C.out w' j,F,u1,⟨u2,u3⟩,u4,u5⟩
 clear K L r C D n0 n1 nf s d Y X;go_region_with (first|(go_at_call 212;refine(p.out _).mono ?_;rintro e y ⟨a,c,rfl,hA,⟨y0,y1,y3,E⟩,F,hF,M,f0,f1⟩));all_goals
  clear p;go_wp2_with (first|(go_at_call 167;refine(U.out F M.out.2).mono ?_;rintro e w3 ⟨v,rfl,Z,e3⟩)|go_in);go_ret;exact⟨v,rfl,V.out v _ _ Z M.out.1 e3⟩
structure Gd (oZ:Own) (w:World):Prop where
 tab:j4 w
 o1:oZ 1=0
 sz:2<=w.heap.size
theorem Gd.kp{oZ aY:Own}{w w':World}{T:List Nat}(h:Gd oZ w)(K:Kp T oZ aY w w')(a:0∉T):Gd aY w':=
 ⟨fun k b=>cell_of (h.tab k b) (K.cZ 1 (bV h.sz) (by rw[h.o1];exact a)),by rw[K.ext 1 (bV h.sz),h.o1],j3 h.sz K.size⟩
theorem kR.Yh{w:World}{b:Nat}{l:List jA}(h:kR w b l){x o:Nat}{v:Value}(c:w.cell? (aB x o)=some v):x≠b:=fun e=>by obtain⟨es,⟨d,c1,a,_⟩,_⟩:=h;subst e;simp[World.cell?,a]at c
theorem nX.heap{w w':World}{b off:Nat}{f:Fr}{ra:Option Addr}{rc:Nat}{S:Nat}(h:nX w b off f ra rc)(hb:b≠S)(c:∀x,ra=some x->x.block≠S)(a:∀x o v,x≠S->w.cell? (aB x o)=some v->w'.cell? (aB x o)=some v):nX w' b off f ra rc:=
 ⟨a _ _ _ hb h.c0,a _ _ _ hb h.c1,a _ _ _ hb h.c2,a _ _ _ hb h.c3,a _ _ _ hb h.c4,a _ _ _ hb h.c5,a _ _ _ hb h.c6,a _ _ _ hb h.c7,a _ _ _ hb h.c8,a _ _ _ hb h.c9,fun j i=>by obtain⟨x,o,h1,d,e,g⟩:=h.rT j i;exact⟨x,o,h1,a _ _ _ (c _ h1) d,a _ _ _ (c _ h1) e,g⟩,h.Bv,h.Bw,h.k0,h.s0,h.u0⟩
theorem mg.heap{w w':World}{fa:Option Addr}{fs:List Fr}{ra:Nat->Option Addr}{rc:Nat->Nat}{S:Nat}(h:mg w fa fs ra rc)(a:∀x,fa=some x->x.block≠S)(c:∀j x,ra j=some x->x.block≠S)(i:∀x o v,x≠S->w.cell? (aB x o)=some v->w'.cell? (aB x o)=some v)(hs:w.heap.size<=w'.heap.size):mg w' fa fs ra rc:=fun j g=>by obtain⟨b,off,h1,d,e,f⟩:=h j g;exact⟨b,off,h1,nX.heap d (a _ h1) (c j) i,e,fun x k=>mR (f x k) hs⟩
theorem wu{w w':World}{b:Nat}{l:List jA}(d:kR w b l)(e:w.grownBy w' (some b)):∀x o v,w.cell? (aB x o)=some v->w'.cell? (aB x o)=some v:=fun x o v c=>cell_of c (e.block x (World.block_lt_of_cell? (a:=(aB x o)) _ c) (by simpa using d.Yh c))
theorem sM.add{oZ aY:Own}{t tf:Nat}{w w':World}{b:Nat}{l:List (Nat×pz)}(n:Nat)(p:pz)(a:Option Addr)(c:Nat)(f:Nat->Option Addr×Nat)(h1:oZ b=t)(i:∀x∈l,GT oZ tf 65 10 w (.slice (f x.1).1 x.2.bI.length (f x.1).2) x.2.bI.length (yZ x.2.bI))(h:∀x∈l,x.1≠n)(m:kR w' b ((n,a,p.bI.length,c,p.bE)::l.map (DT f))){T:List Nat}(K:Kp T oZ aY w w')(g:tf∉T)(hb:b<w.heap.size)(j:GT aY tf 65 10 w' (.slice a p.bI.length c) p.bI.length (yZ p.bI)):sM aY t tf w' b (l++[(n,p)]):=by
 refine⟨fun k=>if k=n then(a,c)else f k,by rw[K.ext b hb,h1],?_,fun x d=>?_⟩
 ·have e:(l++[(n,p)]).map (DT fun k=>if k=n then(a,c)else f k)=l.map (DT f)++[(n,a,p.bI.length,c,p.bE)]:=by
   rw[List.map_append];congr 1
   ·refine List.map_congr_left fun x d=>?_;unfold DT;simp only[aU (h x d)]
   ·simp[DT]
  rw[e];exact m.perm (List.perm_append_comm (l₁:=[_]))
 ·rcases List.mem_append.1 d with d|d;·simp only[aU (h x d)];exact(i x d).kp K g
  ·obtain rfl:=List.mem_singleton.1 d;simp only[if_true];exact j
theorem Jm:∀L:List FV,(∀x∈L,x.2=(none,0,0))->qR L=yZ (L.map eB)
 |[],_=>rfl
 |x::t,h=>by
  have e:oO x=nZ:=by unfold oO;rw[h x aP]
  show gG x.1 (oO x)++qR t=gG x.1 nZ++yZ (t.map eB);rw[e,Jm t fun y a=>h y (by simp[a])]
theorem fP.pkt{oZ aY:Own}{s:Nat}{w w':World}{S:Nat}{l:bO}{M:av}{bw bl bi:Nat}{vc:Value}(h:fP oZ s w S l M bw bl bi vc)(n:Nat)(sI:List (Nat×pz))(K:Kp [s,s+42] oZ aY w w')(hB:aS w' S TS (l.set 229 (uZ n)))(b:sM aY (s+42) (s+44) w' bw sI):fP aY s w' S (l.set 229 (uZ n)) {M with next:=n,aJ:=sI} bw bl bi vc:=by
 have wi:kW l (l.set 229 (uZ n)) 229 1:=kW.set l 229 _ 229 1 aj aj;have e:∀j,j≠229->(l.set 229 (uZ n))[j]?=l[j]?:=fun j a=>mE aj;have c:=h.cells;refine⟨by rw[K.ext S h.cZ.lt,h.ow],h.s0,hB,⟨by rw[List.length_set];exact c.len,(e _ aj).trans c.c0,(e _ aj).trans c.c1,(e _ aj).trans c.c2,(e _ aj).trans c.c3,(e _ aj).trans c.rC,c.gr.gN wi aj,(e _ aj).trans c.tN,(e _ aj).trans c.tQ,(e _ aj).trans c.pV,(e _ aj).trans c.nG,List.getElem?_set_self (by rw[c.len];omega),(e _ aj).trans c.oQ,(e _ aj).trans c.sG,(e _ aj).trans c.nH,(e _ aj).trans c.pW,(e _ aj).trans c.vB,(e _ aj).trans c.sH,(e _ aj).trans c.vC,(e _ aj).trans c.vD,(e _ aj).trans c.oU,(e _ aj).trans c.vE⟩,fun j a=>?_,fun j a=>?_,?_,b,?_,h.lo,h.li⟩;·exact(h.out j a).kp K (by simp;omega) (by simp;omega) (by simp;omega) wi aj
 ·exact(h.bF j a).kp K (by simp;omega) (by simp;omega) wi aj
 ·exact h.row.kp K aP
 ·exact h.bP.kp K aP aP
def Ir(oZ:Own)(s n:Nat):Own:=fun b=>if b<n then oZ b else s+47
theorem Gq(oZ:Own)(s n b:Nat)(h:b<n):Ir oZ s n b=oZ b:=bK h
theorem mQ(oZ:Own)(s n b:Nat)(h:n<=b):Ir oZ s n b=s+47:=aU aj
def qg2(s:Nat)(oZ:Own)(w:World)(S:Nat)(bw bl bi:Nat)(M:av)(fs:List Fr)(v:Value)(w':World):Prop:=
 kL w' v (bT M.next fs)/\ni w.heap.size v/\∃aY l' a,fP aY s w' S l' (M.dz fs) bw bl bi a/\Kp [s,s+42] oZ aY w w'/\∀k,v.ownBlock=some k->aY k=s+47
theorem Qe(oZ:Own)(s:Nat)(S:Nat)(l:bO)(M:av)(bw bl bi:Nat)(vc:Value)(fa:Option Addr)(L:List FV)(t:Nat)(ra:Nat->Option Addr)(rc:Nat->Nat)(w:World)(h:fP oZ s w S l M bw bl bi vc)(hG:Gd oZ w)(hn:M.next<4611686018427387903)(hk:∀x∈M.aJ,x.1<M.next)(xi:M.aJ.length<100000)(h0:0<L.length)(hl:L.length<=1000)(hF:Rd 10 w (.slice fa L.length t) L.length (qR L))(hV:xD w fa L)(hA:mg w fa (L.map eB) ra rc)(hr:∀x∈L,A9 x.1=false->x.2=(none,0,0))(J:∀x,fa=some x->x.block≠S)(hf:∀j x,ra j=some x->x.block≠S)(X0:sD M.next (L.map eB)=true)(x5:(fK M.next (L.map eB)).length<=1000000000):Calls prog 158 #[aI S 0,.slice fa L.length t] w fun e w'=>∃v,e=.returned v/\qg2 s oZ w S bw bl bi M (L.map eB) v w':=by
 have Um:=h.cZ.lt;obtain⟨A,D⟩:=bZ (w.alloc (.cells #[uZ M.next,.slice fa L.length t] 56));have E:bJ w A:=by rw[D];exact(Below.refl _ w).alloc (Nat.le_refl _) _
 have x8:aS A w.heap.size 56 [uZ M.next,.slice fa L.length t]:=by rw[D];exact aS.new w 56 _
 have xa:A.heap.size=w.heap.size+1:=by rw[D];simp
 obtain⟨n,p⟩:=bZ (A.setCell (aB S 229) (uZ ((M.next:Int)+1)));have P:aS A S TS l:=h.cZ.of_heap (E.block S Um);have H:aS n S TS (l.set 229 (uZ (((M.next+1:Nat)):Int))):=by rw[p];exact P.setCell 229 _
 have he:aS n w.heap.size 56 [uZ M.next,.slice fa L.length t]:=by rw[p];exact x8.of_heap (eT _ _ _ _ (by show w.heap.size≠S;omega))
 have B:Kp [s] oZ oZ w n:=by rw[p];exact(Kp.below E).trans (Kp.set oZ A _ _ [s] (by show oZ S∈[s];rw[h.ow];simp))
 have q:∀x o v,x≠S->w.cell? (aB x o)=some v->n.cell? (aB x o)=some v:=fun x o v U hc=>by have xd:=World.block_lt_of_cell? (a:=(aB x o)) _ hc;rw[p];exact cell_of hc ((eT A (aB S 229) _ x U).trans (E.block x xd))
 have hm:n.heap.size=w.heap.size+1:=by rw[p];simp[xa]
 have x4:xD n fa L:=fun j hj=>by obtain⟨b,off,h1,O⟩:=hV j hj;refine⟨b,off,h1,fun i hi=>?_⟩;have:=O i hi;rw[List.getElem?_eq_getElem (by simpa using hi)]at this ⊢;exact q _ _ _ (J _ h1) this
 have x2:Rd 10 n (.slice fa L.length t) L.length (qR L):=by
  rcases hF with h|⟨g,cap,h1,O,Y,Z,h5⟩;·exact .inl h
  ·simp only[Value.slice.injEq,true_and]at h1;exact .inr ⟨g,cap,by simp[h1],aj,Y,fun j u hj=>q _ _ _ (J _ h1.1) (Z j u hj),h5⟩
 have hA1:mg n fa (L.map eB) ra rc:=mg.heap hA J hf q aj;have ho:Gd oZ n:=hG.kp B (by simp;have:=h.s0;omega);have G:=aG (EM fa L t n aj x4);have xf:=h.sI;obtain⟨f,Q,I,x6⟩:=xf;have hu:bw≠S:=fun e=>by have:=h.ow;rw[e]at Q;omega
 have C:kR n bw (M.aJ.map (DT f)):=I.kept (by rw[p];exact(eT A (aB S 229) _ bw hu).trans (E.block bw I.lt));have HE:Hid (∀W,n.grownBy W (some bw)->Calls prog 167 #[.agg #[uZ M.next,.slice fa L.length t]] W fun e w'=>∃v,e=.returned (.tuple #[v,.nilIface])/\(kL w' v (bT M.next (L.map eB))/\∀k,v.ownBlock=some k->W.heap.size<=k)/\bJ W w'):=fun W z=>by have h9:=wu C z;have hA2:mg W fa (L.map eB) ra rc:=mg.heap hA1 J hf (fun x o v _ hc=>h9 x o v hc) z.size;have:=BM M.next fa (L.map eB) t ra rc W (by simp;omega) hA2 X0 (fun k m=>h9 _ _ _ (ho.tab k m)) (j3 ho.sz z.size) x5;rw[mK]at this;refine this.mono ?_;rintro e w' ⟨v,h1,O,Y,Z⟩;exact⟨v,h1,⟨O,Y⟩,Z⟩
 have x0:n.cell? (aB w.heap.size 0)=some (uZ M.next):=he.cell 0;have x1:n.cell? (aB w.heap.size 1)=some (.slice fa L.length t):=he.cell 1;have n0:w.cell? (aB S 229)=some (uZ M.next):=(h.cZ.cell _).trans h.cells.oo;have n1:A.cell? (aB S 229)=some (uZ M.next):=(P.cell _).trans h.cells.oo;have nf:=P.frozen 229;cases N:eO (L.map eB)
 ·rw[N]at G;have HQ:Hid (∀W,bJ n W->∃l' V,fP (Ir oZ s w.heap.size) s W S l' (M.dz (L.map eB)) bw bl bi V/\Kp [s,s+42] oZ (Ir oZ s w.heap.size) w W):=fun W hb=>by
   have e:M.dz (L.map eB)={M with next:=M.next+1,aJ:=M.aJ}:=by unfold av.dz;rw[N];rfl
   rw[e];have X:Kp [s,s+42] oZ oZ w W:=(B.mono aP).iW hb;have K:Kp [s,s+42] oZ (Ir oZ s w.heap.size) w W:=⟨X.os,X.tape,X.output,X.size,X.cZ,fun b d=>Gq oZ s _ b d⟩;have Kx:Kp [s] oZ (Ir oZ s w.heap.size) w n:=⟨B.os,B.tape,B.output,B.size,B.cZ,fun b d=>Gq oZ s _ b d⟩;exact⟨_,vc,h.pkt (M.next+1) M.aJ K (gB hb H) ((h.sI.kp Kx aP aP).kp (Kp.below (T:=[]) hb) aP aP),K⟩
  refine qfz S M.next L.length t w.heap.size fa w A n _ _ D p hm rfl aj n0 n1 nf x0 x1 G.out (fun W hb=>HE.out W ((jI hb).but _)) (fun v W F a b c=>?_);obtain⟨l',V,q1,q2⟩:=HQ.out F (b.trans (c.mono b.size));have h7:∀k,v.ownBlock=some k->w.heap.size<=k:=fun k m=>j3 (bV b.size) (a.2 k m);exact⟨a.1,h7,_,l',V,q1,q2,fun k m=>mQ _ _ _ _ (h7 k m)⟩
 ·rw[N]at G;have h6:(L.filter fun x=> !A9 x.1).map eB=again (L.map eB):=by
   unfold again;rw[List.filter_map];rfl
  have xe:(L.filter fun x=> !A9 x.1).length=(again (L.map eB)).length:=by rw[<-h6,mK]
  have x9:qR (L.filter fun x=> !A9 x.1)=yZ (again (L.map eB)):=by rw[Jm _ fun x U=>by obtain⟨h1,O⟩:=List.mem_filter.1 U;exact hr x h1 (by simpa using O),h6]
  have hv:Hid (∀W,bJ n W->Calls prog 212 #[.slice fa L.length t] W fun e w'=>∃a c,e=.returned (.slice a (again (L.map eB)).length c)/\(eX 65 10 w' (.slice a (again (L.map eB)).length c) (again (L.map eB)).length (yZ (again (L.map eB)))/\ni w.heap.size (.slice a (again (L.map eB)).length c))/\bJ W w'):=fun W hb=>by have:=Qd fa L t W aj h0 (x2.below hb);rw[xe,x9]at this;refine this.mono ?_;rintro e w' ⟨a,c,h1,O,Y,Z⟩;exact⟨a,c,h1,⟨O,fun k m=>j3 (bV hb.size) (Y k m)⟩,Z⟩
  refine qg0 S M.next L.length t w.heap.size bw M.bE (again (L.map eB)).length fa w A n _ (fun W=>∃aY l' V,fP aY s W S l' (M.dz (L.map eB)) bw bl bi V/\Kp [s,s+42] oZ aY w W/\w.heap.size<=W.heap.size/\∀b,W.heap.size<=b->aY b=s+47) _ _ D p hm rfl Um aj n0 n1 nf x0 x1 ?_ ?_ G.out hv.out ?_ HE.out ?_;·rw[H.cell,mE aj];exact h.cells.c3
  ·rw[H.cell,mE aj];exact h.cells.oQ
  ·rintro a c W hb ⟨R,h8⟩;have x3:kR W bw (M.aJ.map (DT f)):=C.kept (hb.block _ C.lt);obtain⟨F,u1,u2,u3⟩:=x3.put (by rw[mK];omega) (M.next,a,(again (L.map eB)).length,c,M.bE) aj (fun y hy=>by
    obtain⟨x,U,rfl⟩:=List.mem_map.1 hy;have:=hk x U;show x.1≠M.next;omega)
   have z:n.grownBy F (some bw):=((jI hb).but (some bw)).andThen u3 (fun j hj=>.inr hj);refine⟨F,u1,?_,z,wu C z _ _ _ x0,wu C z _ _ _ x1⟩;obtain⟨aY,r⟩:=bZ (fun b=>if b<w.heap.size then oZ b else if b<F.heap.size then s+44 else s+47:Own);have K:Kp [s,s+42] oZ aY w F:=by have k1:w.grownBy n (some S):=⟨B.os,B.tape,B.output,B.size,fun i hi x7=>by rw[p];exact(eT A (aB S 229) _ i (by simpa using x7)).trans (E.block i hi)⟩;refine⟨z.os.trans k1.os,z.tape.trans k1.tape,z.output.trans k1.output,j3 k1.size z.size,fun b d ha=>?_,fun b d=>by rw[r];exact bK d⟩;have e1:b≠S:=fun e=>ha (by rw[e,h.ow];simp);have e2:b≠bw:=fun e=>ha (by rw[e,Q];simp);exact(z.block b aj (by simpa using e2)).trans (k1.block b d (by simpa using e1))
   have e:M.dz (L.map eB)={M with next:=M.next+1,aJ:=M.aJ++[(M.next,⟨again (L.map eB),M.bE⟩)]}:=by unfold av.dz;rw[N];rfl
   rw[e];refine⟨aY,_,vc,h.pkt (M.next+1) _ K (H.of_heap (z.block S aj (by simpa using hu.symm))) ?_,K,K.size,fun b d=>by rw[r];show(if b<w.heap.size then oZ b else if b<F.heap.size then s+44 else s+47)=_;rw[aU (bV K.size),aU aj]⟩;refine sM.add M.next ⟨again (L.map eB),M.bE⟩ a c f Q x6 (fun x U=>bV (hk x U)) u2 K aP I.lt ?_;refine GT.X5 ?_ fun b d=>?_;·refine R.of_heap fun b d=>u3.block b (R.lt b d) (fun e=>?_);have:=h8 b d;have:=I.lt;simp at e;omega
   ·rw[r];have xj:=h8 b d;have hw:b<F.heap.size:=mR (R.lt b d) u3.size;show(if b<w.heap.size then oZ b else if b<F.heap.size then s+44 else s+47)=_;rw[aU aj,bK hw]
  ·rintro v W F ⟨e1,e2⟩ ⟨aY,l',V,u1,u2,u4,u3⟩ hb;exact⟨e1,fun k m=>j3 u4 (e2 k m),aY,l',V,u1.below hb,u2.iW hb,fun k m=>u3 k (e2 k m)⟩
