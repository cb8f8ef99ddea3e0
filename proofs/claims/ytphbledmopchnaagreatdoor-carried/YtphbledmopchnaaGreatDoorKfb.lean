import Derived.Test.YtphbledmopchnaaGreatDoorKde
open Go.RowKit.Below renaming heap_setCell->mR
open List renaming getElem?_set_ne->tT,length_map->wz
open Nat renaming le_trans->nI,lt_succ_self->tL,lt_of_lt_of_le->Bu,lt_succ_of_lt->CK
open Prod renaming fst->jK
set_option maxHeartbeats 4000000
set_option maxRecDepth 100000
namespace Go.Proofs.YtphbledmopchnaaGreatDoor.Sd
open Go.RowKit Go.Lib Mm Tryz
theorem Y0(S N n H B:Nat)(fa:Option Addr)(w O F:World)(Z:Value->World->Prop)(Q:Value->World->Prop)(V:O=w.alloc (.cells #[.int .u64 N,.slice fa n H] 56))(X:F=O.setCell ⟨S,229,none⟩ (.int .u64 ((N:Int)+1)))(I:F.heap.size=w.heap.size+1)(hB:B=w.heap.size)(h0:N<4611686018427387903)(n0:w.cell? ⟨S,229,none⟩=some (.int .u64 N))(n1:O.cell? ⟨S,229,none⟩=some (.int .u64 N))(nf:O.frozen? ⟨S,229,none⟩=false)(x0:F.cell? ⟨B,0,none⟩=some (.int .u64 N))(x1:F.cell? ⟨B,1,none⟩=some (.slice fa n H))(hw:Calls prog 182 #[.slice fa n H] F fun e w'=>e=.returned (.bool false)/\Below F.heap.size F w')(he:∀W,Below F.heap.size F W->Calls prog 167 #[.agg #[.int .u64 N,.slice fa n H]] W fun e w'=>∃v,e=.returned (.tuple #[v,.nilIface])/\(Z v w'/\∀k,v.ownBlock=some k->W.heap.size<=k)/\Below W.heap.size W w')(hq:∀v W U,(Z v U/\∀k,v.ownBlock=some k->W.heap.size<=k)->Below F.heap.size F W->Below W.heap.size W U->Q v U):
  Calls prog 158 #[.pointer (some ⟨S,0,none⟩),.slice fa n H] w fun e w'=>∃v,e=.returned v/\Q v w':=by
 subst hB;subst V;have Sk:=hid hw;have HE:=hid he;have HQ:=hid hq;clear hw he hq;go_enter func158,ntmps158
 go_wp2_with (first
  |(go_at_call 182;rw[<-X];refine Sk.out.mono ?_;rintro e w2 ⟨rfl,G⟩;have y0:=(cell_of x0 (G.block _ (by rw[I];exact tL _)));have y1:=(cell_of x1 (G.block _ (by rw[I];exact tL _))))
  |(go_at_call 167;refine(HE.out w2 G).mono ?_;rintro e w3 ⟨v,rfl,e1,e3⟩)
  |go_in)
 go_ret;exact⟨v,rfl,HQ.out v _ _ e1 G e3⟩
theorem Y2(S N n O B bw tk m:Nat)(fa:Option Addr)(w W0 G:World)(A1:Option Addr->Nat->World->Prop)(U1:World->Prop)(E1:Value->World->Prop)(Q:Value->World->Prop)(h4:W0=w.alloc (.cells #[.int .u64 N,.slice fa n O] 56))(h3:G=W0.setCell ⟨S,229,none⟩ (.int .u64 ((N:Int)+1)))(I:G.heap.size=w.heap.size+1)(hB:B=w.heap.size)(V:S<w.heap.size)(h5:N<4611686018427387903)(n0:w.cell? ⟨S,229,none⟩=some (.int .u64 N))(n1:W0.cell? ⟨S,229,none⟩=some (.int .u64 N))(nf:W0.frozen? ⟨S,229,none⟩=false)(x0:G.cell? ⟨B,0,none⟩=some (.int .u64 N))(x1:G.cell? ⟨B,1,none⟩=some (.slice fa n O))(z3:G.cell? ⟨S,3,none⟩=some (.int .u64 tk))(Wp:G.cell? ⟨S,230,none⟩=some (.map (some bw)))(hw:Calls prog 182 #[.slice fa n O] G fun e w'=>e=.returned (.bool true)/\Below G.heap.size G w')(ha:∀W,Below G.heap.size G W->Calls prog 212 #[.slice fa n O] W fun e w'=>∃a c,e=.returned (.slice a m c)/\A1 a c w'/\Below W.heap.size W w')(hu:∀a c W,Below G.heap.size G W->A1 a c W->∃U,(Instr.mapUpdate 203 (.map (some bw)) (.int .u64 N) (.agg #[.slice a m c,.int .u64 tk])).run prog W=.ok () U/\U1 U/\G.grownBy U (some bw)/\U.cell? ⟨B,0,none⟩=some (.int .u64 N)/\U.cell? ⟨B,1,none⟩=some (.slice fa n O))(he:∀W,G.grownBy W (some bw)->Calls prog 167 #[.agg #[.int .u64 N,.slice fa n O]] W fun e w'=>∃v,e=.returned (.tuple #[v,.nilIface])/\(E1 v w'/\∀k,v.ownBlock=some k->W.heap.size<=k)/\Below W.heap.size W w')(hq:∀v W U,(E1 v U/\∀k,v.ownBlock=some k->W.heap.size<=k)->U1 W->Below W.heap.size W U->Q v U):
  Calls prog 158 #[.pointer (some ⟨S,0,none⟩),.slice fa n O] w fun e w'=>∃v,e=.returned v/\Q v w':=by
 subst hB;subst h4;have Sk:=hid hw;have HE:=hid he;have HQ:=hid hq;have HA:=hid ha;have HU:=hid hu;have HS:=hid (And.intro I V);have HX:=hid (And.intro x0 (And.intro x1 (And.intro z3 Wp)))
 have hf:Hid (∀W,Below G.heap.size G W->W.cell? ⟨w.heap.size,0,none⟩=some (.int .u64 N)/\W.cell? ⟨w.heap.size,1,none⟩=some (.slice fa n O)/\W.cell? ⟨S,3,none⟩=some (.int .u64 tk)/\W.cell? ⟨S,230,none⟩=some (.map (some bw))):=fun W hb=>⟨cell_of x0 (hb.block _ (by rw[I];exact tL _)),cell_of x1 (hb.block _ (by rw[I];exact tL _)),cell_of z3 (hb.block _ (by rw[I];exact CK V)),cell_of Wp (hb.block _ (by rw[I];exact CK V))⟩
 clear hw he hq ha hu x0 x1 z3 Wp I V;go_enter func158,ntmps158
 go_wp2_with (first
  |(go_at_call 182;rw[<-h3];refine Sk.out.mono ?_;rintro e w2 ⟨rfl,H⟩)
  |go_in)
 obtain⟨y0,y1,y3,Y3⟩:=hf.out w2 H
 have h0:Hid (∀q,Calls prog 212 #[.slice fa n O] (w2.drewN q) fun e w'=>∃a c,e=.returned (.slice a m c)/\Hid (A1 a c w'/\Below G.heap.size G w')/\(w'.cell? ⟨w.heap.size,0,none⟩=some (.int .u64 N)/\w'.cell? ⟨w.heap.size,1,none⟩=some (.slice fa n O)/\w'.cell? ⟨S,3,none⟩=some (.int .u64 tk)/\w'.cell? ⟨S,230,none⟩=some (.map (some bw)))/\∃F:World,(Instr.mapUpdate 203 (.map (some bw)) (.int .u64 N) (.agg #[.slice a m c,.int .u64 tk])).run prog w'=.ok () F/\Hid (U1 F/\G.grownBy F (some bw))/\F.cell? ⟨w.heap.size,0,none⟩=some (.int .u64 N)/\F.cell? ⟨w.heap.size,1,none⟩=some (.slice fa n O)):=fun q=>by
  have Z:Below G.heap.size G (w2.drewN q):=⟨H.os,H.tape,H.output,H.size,H.block⟩;refine(HA.out (w2.drewN q) Z).mono ?_;rintro e w' ⟨a,c,rfl,h1,h2⟩;have X:Below G.heap.size G w':=Z.trans (h2.mono Z.size);obtain⟨F,u1,u2,u3,u4,u5⟩:=HU.out a c w' X h1;exact⟨a,c,rfl,⟨h1,X⟩,hf.out w' X,F,u1,⟨u2,u3⟩,u4,u5⟩
 clear HA HU Sk hf h5 n0 n1 nf h3 H HX HS
 go_region_with (first|(go_at_call 212;refine(h0.out _).mono ?_;rintro e y ⟨a,c,rfl,hA,⟨y0,y1,y3,Y3⟩,F,hF,hU,f0,f1⟩))
 all_goals
  clear h0
  go_wp2_with (first
   |(go_at_call 167;refine(HE.out F hU.out.2).mono ?_;rintro e w3 ⟨v,rfl,e1,e3⟩)
   |go_in)
  go_ret;exact⟨v,rfl,HQ.out v _ _ e1 hU.out.1 e3⟩
structure Gd (own:Own) (w:World):Prop where
 tab:TabAt w
 o1:own 1=0
 sz:2<=w.heap.size
theorem Gd.kp{own own':Own}{w w':World}{T:List Nat}(h:Gd own w)(K:Kp T own own' w w')(F:0∉T):Gd own' w':=
 ⟨fun k G=>cell_of (h.tab k G) (K.blk 1 (by have:=h.sz;omega) (by rw[h.o1];exact F)),by rw[K.ext 1 (by have:=h.sz;omega),h.o1],nI h.sz K.size⟩
theorem iD.Sl{w:World}{b:Nat}{l:List fO}(h:iD w b l){x o:Nat}{v:Value}(G:w.cell? ⟨x,o,none⟩=some v):x≠b:=fun e=>by
 obtain⟨es,⟨H,c1,F,_⟩,_⟩:=h;subst e;simp[World.cell?,F]at G
theorem jN.heap{w w':World}{b off:Nat}{f:Fr}{ra:Option Addr}{rc:Nat}{S:Nat}(h:jN w b off f ra rc)(hb:b≠S)(G:∀x,ra=some x->x.block≠S)(F:∀x o v,x≠S->w.cell? ⟨x,o,none⟩=some v->w'.cell? ⟨x,o,none⟩=some v):jN w' b off f ra rc:=
 ⟨F _ _ _ hb h.c0,F _ _ _ hb h.c1,F _ _ _ hb h.c2,F _ _ _ hb h.c3,F _ _ _ hb h.c4,F _ _ _ hb h.c5,F _ _ _ hb h.c6,F _ _ _ hb h.c7,F _ _ _ hb h.c8,F _ _ _ hb h.c9,fun j U=>by
  obtain⟨x,o,h1,H,I,O⟩:=h.rng j U
  exact⟨x,o,h1,F _ _ _ (G _ h1) H,F _ _ _ (G _ h1) I,O⟩,h.rlen,h.vX,h.k0,h.s0,h.u0⟩
theorem iZ.heap{w w':World}{fa:Option Addr}{fs:List Fr}{ra:Nat->Option Addr}{rc:Nat->Nat}{S:Nat}(h:iZ w fa fs ra rc)(F:∀x,fa=some x->x.block≠S)(G:∀j x,ra j=some x->x.block≠S)(V:∀x o v,x≠S->w.cell? ⟨x,o,none⟩=some v->w'.cell? ⟨x,o,none⟩=some v)(hs:w.heap.size<=w'.heap.size):iZ w' fa fs ra rc:=fun j U=>by
 obtain⟨b,off,h1,H,I,O⟩:=h j U;exact⟨b,off,h1,jN.heap H (F _ h1) (G j) V,I,fun x X=>Bu (O x X) hs⟩
theorem qd{w w':World}{b:Nat}{l:List fO}(G:iD w b l)(H:w.grownBy w' (some b)):∀x o v,w.cell? ⟨x,o,none⟩=some v->w'.cell? ⟨x,o,none⟩=some v:=fun x o v F=>
 cell_of F (H.block x (World.block_lt_of_cell? (a:=⟨x,o,none⟩) _ F) (by simpa using G.Sl F))
theorem nk.add{own own':Own}{t tf:Nat}{w w':World}{b:Nat}{l:List (Nat×lX)}(n:Nat)(p:lX)(a:Option Addr)(c:Nat)(f:Nat->Option Addr×Nat)(h1:own b=t)(I:∀x∈l,GT own tf 65 10 w (.slice (f x.1).1 x.2.frames.length (f x.1).2) x.2.frames.length (tH x.2.frames))(H:∀x∈l,x.1≠n)(U:iD w' b ((n,a,p.frames.length,c,p.tick)::l.map (ent f))){T:List Nat}(K:Kp T own own' w w')(G:tf∉T)(hb:b<w.heap.size)(O:GT own' tf 65 10 w' (.slice a p.frames.length c) p.frames.length (tH p.frames)):nk own' t tf w' b (l++[(n,p)]):=by
 refine⟨fun k=>if k=n then(a,c)else f k,by rw[K.ext b hb,h1],?_,fun x F=>?_⟩
 ·have e:(l++[(n,p)]).map (ent fun k=>if k=n then(a,c)else f k)=l.map (ent f)++[(n,a,p.frames.length,c,p.tick)]:=by
   rw[List.map_append]
   congr 1
   ·refine List.map_congr_left fun x F=>?_
    unfold ent;simp only[if_neg (H x F)]
   ·simp[ent]
  rw[e];exact U.perm (List.perm_append_comm (l₁:=[_]))
 ·rcases List.mem_append.1 F with F|F
  ·simp only[if_neg (H x F)];exact(I x F).kp K G
  ·obtain rfl:=List.mem_singleton.1 F;simp only[if_true];exact O
theorem Dx:∀L:List FV,(∀x∈L,x.2=(none,0,0))->lS L=tH (L.map jK)
 |[],_=>rfl
 |x::t,h=>by
  have e:j5 x=.slice none 0 0:=by unfold j5;rw[h x (by simp)]
  show bX x.1 (j5 x)++lS t=bX x.1 (.slice none 0 0)++tH (t.map jK);rw[e,Dx t fun y F=>h y (by simp[F])]
theorem bM.pkt{own own':Own}{s:Nat}{w w':World}{S:Nat}{l:List Value}{M:Side}{bw bl bi:Nat}{vc:Value}(h:bM own s w S l M bw bl bi vc)(n:Nat)(way:List (Nat×lX))(K:Kp [s,s+42] own own' w w')(hB:ak w' S TS (l.set 229 (.int .u64 n)))(G:nk own' (s+42) (s+44) w' bw way):bM own' s w' S (l.set 229 (.int .u64 n)) {M with next:=n,ay:=way} bw bl bi vc:=by
 have wi:iH l (l.set 229 (.int .u64 n)) 229 1:=iH.set l 229 _ 229 1 (by omega) (by omega)
 have e:∀j,j≠229->(l.set 229 (.int .u64 n))[j]?=l[j]?:=fun j F=>tT (by omega)
 have c:=h.cells
 refine⟨by rw[K.ext S h.blk.lt,h.ow],h.s0,hB,⟨by rw[List.length_set];exact c.len,by rw[e _ (by omega)];exact c.c0,by rw[e _ (by omega)];exact c.c1,by rw[e _ (by omega)];exact c.c2,by rw[e _ (by omega)];exact c.c3,by rw[e _ (by omega)];exact c.mh,c.gr.win wi (by omega),
  by rw[e _ (by omega)];exact c.nP,by rw[e _ (by omega)];exact c.c226,by rw[e _ (by omega)];exact c.c227,by rw[e _ (by omega)];exact c.c228,List.getElem?_set_self (by rw[c.len];omega),by rw[e _ (by omega)];exact c.j6,by rw[e _ (by omega)];exact c.mY,by rw[e _ (by omega)];exact c.c232,by rw[e _ (by omega)];exact c.c233,
  by rw[e _ (by omega)];exact c.c234,by rw[e _ (by omega)];exact c.mZ,by rw[e _ (by omega)];exact c.c236,by rw[e _ (by omega)];exact c.oO,by rw[e _ (by omega)];exact c.j_,by rw[e _ (by omega)];exact c.oP⟩,fun j F=>?_,fun j F=>?_,?_,G,?_,h.lo,h.li⟩
 ·exact(h.out j F).kp K (by simp;omega) (by simp;omega) (by simp;omega) wi (by omega)
 ·exact(h.inn j F).kp K (by simp;omega) (by simp;omega) wi (by omega)
 ·exact h.row.kp K (by simp)
 ·exact h.lost.kp K (by simp) (by simp)
def Cx(own:Own)(s n:Nat):Own:=fun b=>if b<n then own b else s+47
theorem Bl(own:Own)(s n b:Nat)(h:b<n):Cx own s n b=own b:=if_pos h
theorem jl(own:Own)(s n b:Nat)(h:n<=b):Cx own s n b=s+47:=if_neg (by omega)
def Y4(s:Nat)(own:Own)(w:World)(S:Nat)(bw bl bi:Nat)(M:Side)(fs:List Fr)(v:Value)(w':World):Prop:=
 Buf w' v (aD M.next fs)/\jA w.heap.size v/\∃own' l' F,bM own' s w' S l' (M.packet fs) bw bl bi F/\Kp [s,s+42] own own' w w'/\∀k,v.ownBlock=some k->own' k=s+47
theorem KC(own:Own)(s:Nat)(S:Nat)(l:List Value)(M:Side)(bw bl bi:Nat)(vc:Value)(fa:Option Addr)(L:List FV)(X:Nat)(ra:Nat->Option Addr)(rc:Nat->Nat)(w:World)(h:bM own s w S l M bw bl bi vc)(hG:Gd own w)(hn:M.next<4611686018427387903)(hk:∀x∈M.ay,x.1<M.next)(xp:M.ay.length<100000)(h0:0<L.length)(hl:L.length<=1000)(hF:Rd 10 w (.slice fa L.length X) L.length (lS L))(hV:ru w fa L)(hA:iZ w fa (L.map jK) ra rc)(hr:∀x∈L,isA x.1=false->x.2=(none,0,0))(he:∀x,fa=some x->x.block≠S)(x6:∀j x,ra j=some x->x.block≠S)(RV:mW M.next (L.map jK)=true)(xf:(bH M.next (L.map jK)).length<=1000000000):
  Calls prog 158 #[.pointer (some ⟨S,0,none⟩),.slice fa L.length X] w fun e w'=>∃v,e=.returned v/\Y4 s own w S bw bl bi M (L.map jK) v w':=by
 have NY:=h.blk.lt;obtain⟨V,h7⟩:∃V,V=w.alloc (.cells #[.int .u64 M.next,.slice fa L.length X] 56):=⟨_,rfl⟩
 have h8:Below w.heap.size w V:=by rw[h7];exact(Below.refl _ w).alloc (Nat.le_refl _) _
 have xl:ak V w.heap.size 56 [.int .u64 M.next,.slice fa L.length X]:=by rw[h7];exact ak.new w 56 _
 have xn:V.heap.size=w.heap.size+1:=by rw[h7];simp
 obtain⟨G,I⟩:∃G,G=V.setCell ⟨S,229,none⟩ (.int .u64 ((M.next:Int)+1)):=⟨_,rfl⟩;have hm:ak V S TS l:=h.blk.of_heap (h8.block S NY)
 have h9:ak G S TS (l.set 229 (.int .u64 (((M.next+1:Nat)):Int))):=by rw[I];exact hm.setCell 229 _
 have x5:ak G w.heap.size 56 [.int .u64 M.next,.slice fa L.length X]:=by rw[I];exact xl.of_heap (mR _ _ _ _ (by show w.heap.size≠S;omega))
 have K1:Kp [s] own own w G:=by rw[I];exact(Kp.below h8).trans (Kp.set own V _ _ [s] (by show own S∈[s];rw[h.ow];simp))
 have O:∀x o v,x≠S->w.cell? ⟨x,o,none⟩=some v->G.cell? ⟨x,o,none⟩=some v:=fun x o v hx hc=>by
  have xo:=World.block_lt_of_cell? (a:=⟨x,o,none⟩) _ hc;rw[I];exact cell_of hc ((mR V ⟨S,229,none⟩ _ x hx).trans (h8.block x xo))
 have x7:G.heap.size=w.heap.size+1:=by rw[I];simp[xn]
 have xe:ru G fa L:=fun j hj=>by
  obtain⟨b,off,h1,h2⟩:=hV j hj;refine⟨b,off,h1,fun i hi=>?_⟩;have:=h2 i hi;rw[List.getElem?_eq_getElem (by simpa using hi)]at this ⊢;exact O _ _ _ (he _ h1) this
 have xa:Rd 10 G (.slice fa L.length X) L.length (lS L):=by
  rcases hF with h|⟨g,cap,h1,h2,h3,h4,h5⟩
  ·exact .inl h
  ·simp only[Value.slice.injEq,true_and]at h1;exact .inr ⟨g,cap,by simp[h1],by omega,h3,fun j u hj=>O _ _ _ (he _ h1.1) (h4 j u hj),h5⟩
 have hA1:iZ G fa (L.map jK) ra rc:=iZ.heap hA he x6 O (by omega);have XG:Gd own G:=hG.kp K1 (by simp;have:=h.s0;omega);have Sk:=hid (zQ fa L X G (by omega) xe);have Y5:=h.way;obtain⟨f,ho,ha,xi⟩:=Y5
 have XH:bw≠S:=fun e=>by have:=h.ow;rw[e]at ho;omega
 have h6:iD G bw (M.ay.map (ent f)):=ha.kept (by rw[I];exact(mR V ⟨S,229,none⟩ _ bw XH).trans (h8.block bw ha.lt))
 have HE:Hid (∀W,G.grownBy W (some bw)->Calls prog 167 #[.agg #[.int .u64 M.next,.slice fa L.length X]] W fun e w'=>∃v,e=.returned (.tuple #[v,.nilIface])/\(Buf w' v (aD M.next (L.map jK))/\∀k,v.ownBlock=some k->W.heap.size<=k)/\Below W.heap.size W w'):=fun W Z=>by
  have x3:=qd h6 Z;have hA2:iZ W fa (L.map jK) ra rc:=iZ.heap hA1 he x6 (fun x o v _ hc=>x3 x o v hc) Z.size;have:=wJ M.next fa (L.map jK) X ra rc W (by simp;omega) hA2 RV (fun k H=>x3 _ _ _ (XG.tab k H)) (nI XG.sz Z.size) xf;rw[wz]at this;refine this.mono ?_;rintro e w' ⟨v,h1,h2,h3,h4⟩;exact⟨v,h1,⟨h2,h3⟩,h4⟩
 have x0:G.cell? ⟨w.heap.size,0,none⟩=some (.int .u64 M.next):=x5.cell 0;have x1:G.cell? ⟨w.heap.size,1,none⟩=some (.slice fa L.length X):=x5.cell 1;have n0:w.cell? ⟨S,229,none⟩=some (.int .u64 M.next):=(h.blk.cell _).trans h.cells.c229;have n1:V.cell? ⟨S,229,none⟩=some (.int .u64 M.next):=(hm.cell _).trans h.cells.c229;have nf:=hm.frozen 229;cases hf:wants (L.map jK)
 ·rw[hf]at Sk
  have HQ:Hid (∀W,Below G.heap.size G W->∃l' gF,bM (Cx own s w.heap.size) s W S l' (M.packet (L.map jK)) bw bl bi gF/\Kp [s,s+42] own (Cx own s w.heap.size) w W):=fun W hb=>by
   have e:M.packet (L.map jK)={M with next:=M.next+1,ay:=M.ay}:=by unfold Side.packet;rw[hf];rfl
   rw[e];have K0:Kp [s,s+42] own own w W:=(K1.mono (by simp)).eP hb;have K:Kp [s,s+42] own (Cx own s w.heap.size) w W:=⟨K0.os,K0.tape,K0.output,K0.size,K0.blk,fun b F=>Bl own s _ b F⟩;have Kx:Kp [s] own (Cx own s w.heap.size) w G:=⟨K1.os,K1.tape,K1.output,K1.size,K1.blk,fun b F=>Bl own s _ b F⟩;exact⟨_,vc,h.pkt (M.next+1) M.ay K (bV hb h9) ((h.way.kp Kx (by simp) (by simp)).kp (Kp.below (T:=[]) hb) (by simp) (by simp)),K⟩
  refine Y0 S M.next L.length X w.heap.size fa w V G _ _ h7 I x7 rfl (by omega) n0 n1 nf x0 x1 Sk.out (fun W hb=>HE.out W ((gq hb).but _)) (fun v W W' a b c=>?_);obtain⟨l',gF,q1,q2⟩:=HQ.out W' (b.trans (c.mono b.size))
  have hw:∀k,v.ownBlock=some k->w.heap.size<=k:=fun k H=>nI (by have:=b.size;omega) (a.2 k H)
  exact⟨a.1,hw,_,l',gF,q1,q2,fun k H=>jl _ _ _ _ (hw k H)⟩
 ·rw[hf]at Sk
  have hv:(L.filter fun x=> !isA x.1).map jK=again (L.map jK):=by
   unfold again;rw[List.filter_map];rfl
  have XI:(L.filter fun x=> !isA x.1).length=(again (L.map jK)).length:=by rw[<-hv,wz]
  have xm:lS (L.filter fun x=> !isA x.1)=tH (again (L.map jK)):=by
   rw[Dx _ fun x hx=>by
    obtain⟨h1,h2⟩:=List.mem_filter.1 hx
    exact hr x h1 (by simpa using h2),hv]
  have x8:Hid (∀W,Below G.heap.size G W->Calls prog 212 #[.slice fa L.length X] W fun e w'=>∃a c,e=.returned (.slice a (again (L.map jK)).length c)/\(bn 65 10 w' (.slice a (again (L.map jK)).length c) (again (L.map jK)).length (tH (again (L.map jK)))/\jA w.heap.size (.slice a (again (L.map jK)).length c))/\Below W.heap.size W w'):=fun W hb=>by
   have:=KA fa L X W (by omega) h0 (xa.below hb);rw[XI,xm]at this;refine this.mono ?_;rintro e w' ⟨a,c,h1,h2,h3,h4⟩;exact⟨a,c,h1,⟨h2,fun k H=>nI (by have:=hb.size;omega) (h3 k H)⟩,h4⟩
  refine Y2 S M.next L.length X w.heap.size bw M.tick (again (L.map jK)).length fa w V G _ (fun W=>∃own' l' gF,bM own' s W S l' (M.packet (L.map jK)) bw bl bi gF/\Kp [s,s+42] own own' w W/\w.heap.size<=W.heap.size/\∀b,W.heap.size<=b->own' b=s+47) _ _ h7 I x7 rfl NY (by omega) n0 n1 nf x0 x1 ?_ ?_ Sk.out x8.out ?_ HE.out ?_
  ·rw[h9.cell,tT (by omega)];exact h.cells.c3
  ·rw[h9.cell,tT (by omega)];exact h.cells.j6
  ·rintro a c W hb ⟨hu,x2⟩;have xd:iD W bw (M.ay.map (ent f)):=h6.kept (hb.block _ h6.lt)
   obtain⟨W',u1,u2,u3⟩:=xd.put (by rw[wz];omega) (M.next,a,(again (L.map jK)).length,c,M.tick) (by omega) (fun y hy=>by
    obtain⟨x,hx,rfl⟩:=List.mem_map.1 hy;have:=hk x hx;show x.1≠M.next
    omega)
   have Z:G.grownBy W' (some bw):=((gq hb).but (some bw)).andThen u3 (fun j hj=>.inr hj);refine⟨W',u1,?_,Z,qd h6 Z _ _ _ x0,qd h6 Z _ _ _ x1⟩
   obtain⟨own',U⟩:∃own':Own,own'=fun b=>if b<w.heap.size then own b else if b<W'.heap.size then s+44 else s+47:=⟨_,rfl⟩
   have K:Kp [s,s+42] own own' w W':=by
    have k1:w.grownBy G (some S):=⟨K1.os,K1.tape,K1.output,K1.size,fun i hi xj=>by rw[I];exact(mR V ⟨S,229,none⟩ _ i (by simpa using xj)).trans (h8.block i hi)⟩;refine⟨Z.os.trans k1.os,Z.tape.trans k1.tape,Z.output.trans k1.output,nI k1.size Z.size,fun b F x4=>?_,fun b F=>by rw[U];exact if_pos F⟩
    have e1:b≠S:=fun e=>x4 (by rw[e,h.ow];simp)
    have e2:b≠bw:=fun e=>x4 (by rw[e,ho];simp)
    exact(Z.block b (by omega) (by simpa using e2)).trans (k1.block b F (by simpa using e1))
   have e:M.packet (L.map jK)={M with next:=M.next+1,ay:=M.ay++[(M.next,⟨again (L.map jK),M.tick⟩)]}:=by unfold Side.packet;rw[hf];rfl
   rw[e];refine⟨own',_,vc,h.pkt (M.next+1) _ K (h9.of_heap (Z.block S (by omega) (by simpa using XH.symm))) ?_,K,K.size,fun b F=>by rw[U];show(if b<w.heap.size then own b else if b<W'.heap.size then s+44 else s+47)=_;rw[if_neg (by have:=K.size;omega),if_neg (by omega)]⟩;refine nk.add M.next ⟨again (L.map jK),M.tick⟩ a c f ho xi (fun x hx=>by have:=hk x hx;omega) u2 K (by simp) ha.lt ?_
   refine GT.RZ ?_ fun b F=>?_
   ·refine hu.of_heap fun b F=>u3.block b (hu.lt b F) (fun e=>?_)
    have:=x2 b F;have:=ha.lt;simp at e;omega
   ·rw[U];have xr:=x2 b F;have x9:b<W'.heap.size:=Bu (hu.lt b F) u3.size;show(if b<w.heap.size then own b else if b<W'.heap.size then s+44 else s+47)=_;rw[if_neg (by omega),if_pos x9]
  ·rintro v W W' ⟨e1,e2⟩ ⟨own',l',gF,u1,u2,u4,u3⟩ hb;exact⟨e1,fun k H=>nI u4 (e2 k H),own',l',gF,u1.below hb,u2.eP hb,fun k H=>u3 k (e2 k H)⟩
end Go.Proofs.YtphbledmopchnaaGreatDoor.Sd
