import Derived.Test.YtphbledmopchnaaGreatDoorKha
import Derived.Test.YtphbledmopchnaaGreatDoorKge
import Derived.Test.YtphbledmopchnaaGreatDoorKgb
open Go.Builtin renaming zeroCells->wz
open List renaming getD_eq_getElem?_getD->jK,length_append->mR,getElem?_append_left->nI,getElem?_append_right->tT,getElem?_eq_getElem->uj,getElem?_cons_zero->Bu,length_map->CK,mem_singleton->DJ,getElem_mem->Kt
open Nat renaming le_refl->tL,lt_of_lt_of_le->Gl,le_trans->Lb,sub_self->M4,zero_add->R3
set_option maxHeartbeats 4000000
set_option maxRecDepth 100000
namespace Go.Proofs.YtphbledmopchnaaGreatDoor.Sd
open Go.RowKit Go.Lib Mm Tryz
def Dj(vs:List Value):Prop:=∀i j,i<j->j<vs.length->∀k,(vs.getD i undef).ownBlock=some k->(vs.getD j undef).ownBlock≠some k
def PX(own:Own)(s:Nat)(w:World)(vs:List Value)(bs:List (List UInt8)):Prop:=
 vs.length=bs.length/\(∀j,j<vs.length->Buf w (vs.getD j undef) (bs.getD j [])/\∀k,(vs.getD j undef).ownBlock=some k->own k=s+47/\k<w.heap.size)/\Dj vs
theorem PX.kp{own own':Own}{s:Nat}{w w':World}{vs:List Value}{bs:List (List UInt8)}{T:List Nat}(h:PX own s w vs bs)(K:Kp T own own' w w')(I:s+47∉T):PX own' s w' vs bs:=by
 refine⟨h.1,fun j O=>?_,h.2.2⟩;obtain⟨h1,F⟩:=h.2.1 j O;refine⟨?_,fun k G=>⟨by rw[K.ext k (F k G).2,(F k G).1],Gl (F k G).2 K.size⟩⟩
 rcases h1 with h1|⟨g,cap,cs,e,hB,H⟩
 ·exact .inl h1
 ·exact .inr ⟨g,cap,cs,e,aK hB K (by rw[(F g (by rw[e];rfl)).1];exact I),H⟩
theorem PX.add{own:Own}{s:Nat}{w:World}{vs:List Value}{bs:List (List UInt8)}(h:PX own s w vs bs)(v:Value)(b:List UInt8)(hb:Buf w v b)(O:∀k,v.ownBlock=some k->own k=s+47/\k<w.heap.size)(hd:∀k,v.ownBlock=some k->∀j,j<vs.length->(vs.getD j undef).ownBlock≠some k):PX own s w (vs++[v]) (bs++[b]):=by
 refine⟨by rw[mR,mR,h.1];rfl,fun j G=>?_,fun i j H G k I=>?_⟩
 rotate_left
 ·have hi:i<vs.length:=by rw[mR]at G;simp at G;omega
  rw[jK,nI hi,<-jK]at I
  by_cases F:j<vs.length
  ·rw[jK,nI F,<-jK];exact h.2.2 i j H F k I
  ·have e:j=vs.length:=by rw[mR]at G;simp at G;omega
   subst e;rw[jK,tT (tL _)];simp only[M4,Bu,Option.getD_some]
   exact fun e=>hd k e i hi I
 rw[mR]at G
 by_cases F:j<vs.length
 ·rw[jK,nI F,<-jK,jK (l:=bs++[b]),nI (by rw[<-h.1];exact F),<-jK];exact h.2.1 j F
 ·have e:j=vs.length:=by simp at G;omega
  subst e;rw[jK,tT (tL _),jK (l:=bs++[b]),h.1,tT (tL _)];simp only[M4,Bu,Option.getD_some];exact⟨hb,O⟩
theorem kQ.II{aI:Own}{s:Nat}{w0:World}{S bw bl bi ab:Nat}{D:Nat->Src}{p:Nat}{own:Own}{w:World}{M:Side}{left:List (Nat×Nat)}{Q later:List Nat}{L:List FV}{v vt:Value}{fa:Option Addr}{n X:Nat}(h:kQ aI s w0 S bw bl bi ab D p own w M left Q later L v (.slice fa n X) vt)(V:∀x∈L,iT x.1)(h0:0<L.length):
  n=L.length/\Rd 10 w (.slice fa L.length X) L.length (lS L)/\ru w fa L/\iZ w fa (L.map Prod.fst) (fun j=>(L.getD j dM).2.1) (fun j=>(L.getD j dM).2.2.2)/\(∀x,fa=some x->own x.block=s+50)/\(∀j x,(L.getD j dM).2.1=some x->own x.block=s+49):=by
 have U:=h.fr
 rcases U with⟨h1,Z,_⟩|⟨g,cap,cs,h1,Z,h3,h4,h5,h6,h7,h8,h9⟩
 ·omega
 ·simp only[Value.slice.injEq]at h1;obtain⟨rfl,rfl,rfl⟩:=h1
  have F:∀j k,j<L.length->k<10->w.cell? ⟨g,0+j*10+k,none⟩=(bX (L.getD j dM).1 (j5 (L.getD j dM)))[k]?:=fun j k G hk=>by
   rw[h3.cell,<-Bj L j k G hk,<-h8,List.getElem?_take,if_pos (by omega),R3]
  have hV:ru w (some ⟨g,0,none⟩) L:=fun j G=>⟨g,0,rfl,fun i hi=>F j i G hi⟩
  refine⟨rfl,h.fr.rd,hV,fun j G=>?_,fun x H=>by cases H;exact Z,fun j x H=>?_⟩
  ·rw[CK]at G
   have H:L.getD j dM∈L:=by rw[jK,uj G];exact Kt _
   have hF:=h.fv _ H;have O:=V _ H
   have e:(L.map Prod.fst).getD j dW=(L.getD j dM).1:=by
    rw[jK,jK,List.getElem?_map,uj G];rfl
   have c9:w.cell? ⟨g,0+j*10+9,none⟩=some (.slice (L.getD j dM).2.1 (L.getD j dM).1.ranges.length (L.getD j dM).2.2.2):=by
    rw[F j 9 G (by omega)];show some (j5 (L.getD j dM))=_;unfold j5;rw[hF.len]
   refine⟨g,0,rfl,?_,?_,fun x I=>(hF.blk x I).1⟩
   ·rw[e];exact⟨F j 0 G (by omega),F j 1 G (by omega),F j 2 G (by omega),F j 3 G (by omega),F j 4 G (by omega),F j 5 G (by omega),F j 6 G (by omega),F j 7 G (by omega),F j 8 G (by omega),c9,hF.rng,O.rlen,O.vX,O.k0,O.s0,O.u0⟩
   ·rw[e];exact hF.cap
  ·by_cases G:j<L.length
   ·have I:L.getD j dM∈L:=by rw[jK,uj G];exact Kt _
    exact((h.fv _ I).blk x H).2.1
   ·rw[jK,List.getElem?_eq_none (by omega)]at H;cases H
theorem r_:∀(n:Nat) (M:Side) (left:List (Nat×Nat)) (Q later:List Nat) (room:Int) (l:List Fr),Lq Q->Lq later->Lq (cB n M left Q later room l).2.2.1/\(cB n M left Q later room l).2.2.1.length<=Q.length+later.length
 |0,M,left,Q,later,room,l,h1,h2=>⟨Lq.pushes _ h1 h2,by show(later.foldl aZ Q).length<=_;rw[iX];exact tL _⟩
 |n+1,M,left,[],later,room,l,h1,h2=>⟨Lq.pushes _ h1 h2,by show(later.foldl aZ []).length<=_;rw[iX];exact tL _⟩
 |n+1,M,left,u::Q,later,room,l,h1,h2=>by
  have hp:(iQ (u::Q)).length=Q.length:=by rw[yt];simp
  unfold cB
  by_cases F:M.waits left u=true
  ·simp only[F,if_true]
   cases hF:M.frame left u room with
   |none=>
    simp only;split
    ·have:=r_ n M left (iQ (u::Q)) (later++[u]) room l h1.pop (h2.app fun x G=>by rw[DJ.1 G];exact h1 u (by simp));refine⟨this.1,Lb this.2 ?_⟩;rw[hp,mR];simp;omega
    ·exact⟨Lq.pushes _ h1 h2,by show(later.foldl aZ (u::Q)).length<=_;rw[iX];exact tL _⟩
   |some x=>
    obtain⟨f,M',left'⟩:=x;exact r_ n M' left' (u::Q) later _ _ h1 h2
  ·simp only[F];have:=r_ n M left (iQ (u::Q)) later room l h1.pop h2;refine⟨this.1,Lb this.2 ?_⟩;rw[hp,List.length_cons];omega
theorem Mk.fis{own:Own}{s:Nat}{w:World}{S bw bl bi ab:Nat}{D:Nat->Src}{p:Nat}{v:Value}{Q:List Nat}{M:Side}{left:List (Nat×Nat)}(h:Mk own s w S bw bl bi ab D p v Q M left)(hq:Lq Q):kQ own s w S bw bl bi ab D p own w M left Q [] [] v (.slice none 0 0) (.slice none 0 0):=
 ⟨h.qs.hq,fun u F=>⟨h.qs.hs u F,hq u F⟩,(fun u F=>by cases F),⟨h.z,by omega⟩,h.env,.inl ⟨rfl,rfl,rfl⟩,(fun x G=>by cases G),.inl ⟨rfl,rfl,rfl⟩,Kp.refl _ _ _,fun _=>rfl⟩
theorem Ml(n:Nat):(wz (Value.slice none 0 0).cells n).toList.length=n:=by simp[wz,Value.cells]
theorem Mq(n:Nat):∀v∈(wz (Value.slice none 0 0).cells n).toList,v.oneCell'=true:=by
 intro v F;simp[wz,Value.cells]at F;obtain⟨i,_,rfl⟩:=F
 have:i % 1=0:=by omega
 rw[this];rfl
theorem Zu:Df 131 60 (.slice none 0 0) 1 24:=⟨by kernel_rfl,by kernel_rfl,fun n=>by rw[Ml];omega,Mq,by omega⟩
def Uk(l:List (Nat×List Fr)):List (List UInt8):=l.map fun x=>aD x.1 x.2
structure Fv (vE:Own) (s:Nat) (wW:World) (S bw bl bi ab:Nat) (D:Nat->Src) (p:Nat) (own:Own) (w:World) (M:Side) (left:List (Nat×Nat)) (Q:List Nat) (vl:Value) (vs:List Value) (pk:List (Nat×List Fr)):Prop where
 qz:∃v,Mk own s w S bw bl bi ab D p v Q M left
 lq:Lq Q
 ql:Q.length<=500
 gd:Gd own w
 li:GT own (s+52) 60 1 w vl vs.length vs
 ps:PX own s w vs (Uk pk)
 kp:Kp (Tb s) vE own wW w
structure PkP (P:Side->List (Nat×Nat)->Prop) (μ:Side->List (Nat×Nat)->Nat):Prop where
 wk:∀M left,P M left->Wk M/\uw left=true
 fr:∀M left u room f M' left',P M left->u<48->M.waits left u=true->M.frame left u room=some (f,M',left')->P M' left'/\((aB f).length:Int)<=room/\0<(aB f).length/\snd f=true/\iT f
 nm:∀M left,P M left->M.aH<=400/\M.next<4611686018427387903/\0<=M.room/\M.room<=1000/\∀x∈M.ay,x.1<M.next
 pk:∀M left Q,P M left->Lq Q->(fill M left Q M.room).2.2.2≠[]->P ((fill M left Q M.room).1.packet (fill M left Q M.room).2.2.2) (fill M left Q M.room).2.1/\μ ((fill M left Q M.room).1.packet (fill M left Q M.room).2.2.2) (fill M left Q M.room).2.1<μ M left/\
  mW M.next (fill M left Q M.room).2.2.2=true/\(bH M.next (fill M left Q M.room).2.2.2).length<=1000000000/\(fill M left Q M.room).2.2.2.length<=1000/\∀f∈(fill M left Q M.room).2.2.2,iT f/\(isA f=false\/f.kind=2)
theorem Fv.fill{vE:Own}{s:Nat}{wW:World}{S bw bl bi ab:Nat}{D:Nat->Src}{p:Nat}{own:Own}{w:World}{M:Side}{left:List (Nat×Nat)}{Q:List Nat}{vl:Value}{vs:List Value}{pk:List (Nat×List Fr)}{P:Side->List (Nat×Nat)->Prop}{μ:Side->List (Nat×Nat)->Nat}(h:Fv vE s wW S bw bl bi ab D p own w M left Q vl vs pk)(hp:P M left)(F:PkP P μ):
  Calls prog 156 #[.pointer (some ⟨p,0,none⟩),.int .i64 M.room] w fun e w'=>yw own s w S bw bl bi ab D p P (Sd.fill M left Q M.room) e w':=by
 obtain⟨v,hq⟩:=h.qz;obtain⟨_,_,r0,H,_⟩:=F.nm M left hp;obtain⟨l,vc,G,_⟩:=hq.env;exact PN P w M left Q M.room hq.qs.hd G.s0 (hq.fis h.lq) ⟨r0,H⟩ h.ql hp F.wk F.fr
theorem Ul{w:World}{v:Value}{b:List UInt8}(h:Buf w v b):v.oneCell'=true:=by
 rcases h with⟨rfl,_⟩|⟨g,cap,cs,rfl,_⟩<;>rfl
theorem WZ{w:World}{v:Value}{b:List UInt8}(h:Buf w v b):∀k,v.ownBlock=some k->k<w.heap.size:=by
 rcases h with⟨rfl,_⟩|⟨g,cap,cs,rfl,hB,_⟩
 ·intro k F;cases F
 ·intro k F;simp[Value.ownBlock]at F;rw[<-F];exact hB.lt
theorem Fv.packet{vE:Own}{s:Nat}{wW:World}{S bw bl bi ab:Nat}{D:Nat->Src}{p:Nat}{own:Own}{w w2:World}{M:Side}{left:List (Nat×Nat)}{Q:List Nat}{vl:Value}{vs:List Value}{pk:List (Nat×List Fr)}{P:Side->List (Nat×Nat)->Prop}{μ:Side->List (Nat×Nat)->Nat}(h:Fv vE s wW S bw bl bi ab D p own w M left Q vl vs pk)(hp:P M left)(hP:PkP P μ)(h3:(Sd.fill M left Q M.room).2.2.2≠[])(fl:Value)(hf:yw own s w S bw bl bi ab D p P (Sd.fill M left Q M.room) (.returned fl) w2):
  Calls prog 158 #[.pointer (some ⟨S,0,none⟩),fl] w2 fun e w'=>∃v,e=.returned v/\Hid (v.oneCell'=true/\∃gV,Fv vE s wW S bw bl bi ab D p gV w' ((Sd.fill M left Q M.room).1.packet (Sd.fill M left Q M.room).2.2.2) (Sd.fill M left Q M.room).2.1 (Sd.fill M left Q M.room).2.2.1 vl vs pk/\Buf w' v (aD M.next (Sd.fill M left Q M.room).2.2.2)/\∀k,v.ownBlock=some k->gV k=s+47/\k<w'.heap.size/\∀j,j<vs.length->(vs.getD j undef).ownBlock≠some k):=by
 obtain⟨c1,c2,c3,c4,c5,c6⟩:=hP.pk M left Q hp h.lq h3;have U:(Sd.fill M left Q M.room).1.next=M.next:=rJ _ left Q [] M.room [];have Ak:=r_ (Q.length+M.room.toNat+1) M left Q [] M.room [] h.lq (fun x I=>by cases I);have hg:Sd.fill M left Q M.room=cB (Q.length+M.room.toNat+1) M left Q [] M.room []:=rfl;rw[<-hg]at Ak;generalize Sd.fill M left Q M.room=X at *;obtain⟨M2,VB,Q2,fs⟩:=X;simp only at *;obtain⟨aL,v2,ho,vt,L,e0,O,F,V⟩:=hf;cases e0;simp only at O F V;obtain⟨fa,fc,rfl,_,_⟩:=F.fr.shape
 have h2:0<L.length:=by
  cases L with
  |nil=>exact absurd O.symm h3
  |cons a t=>simp
 have VA:L.length=fs.length:=by rw[<-O,CK]
 obtain⟨_,hm,h7,h6,h8,h9⟩:=F.II (fun x I=>(c6 x.1 (by rw[<-O];exact List.mem_map_of_mem I)).1) h2;obtain⟨l,vc,hS,hA⟩:=F.env;obtain⟨_,d2,_,_,d5⟩:=hP.nm M2 VB V;obtain⟨hW,_⟩:=hP.wk M2 VB V;have h0:Gd aL w2:=h.gd.kp F.kp (fun e=>by have:=jZ.1 e;have:=hS.s0;omega);have hc:=KC aL s S l M2 bw bl bi vc fa L fc _ _ w2 hS h0 d2 d5 hW.wl h2 (by omega) hm h7 h6 (fun x I ha=>(F.fv x I).nil (fun e=>by unfold isA at ha;rw[e]at ha;simp at ha)) (fun x I e=>by have:=h8 x I;rw[e,hS.ow]at this;omega) (fun j x I e=>by have:=h9 j x I;rw[e,hS.ow]at this;omega) (by rw[O,U];exact c3) (by rw[O,U];exact c4);refine hc.mono ?_;rintro e w' ⟨v,rfl,G,H,gV,l3,hn,Q_,K3,he⟩;rw[O,U]at G;rw[O]at Q_
 have KT:Kp (Tb s) aL gV w2 w':=K3.mono fun z hz=>fB.2 (by simp at hz;omega)
 have Z:∀z,z∈[s,s+42]->z=s\/z=s+42:=fun z hz=>by simpa using hz
 have h5:s+52∉Tg s:=fun e=>by have:=jZ.1 e;omega
 have h4:s+47∉Tb s:=fun e=>by have:=fB.1 e;omega
 have Yn:Kp (Tb s) own gV w w':=(F.kp.mono (Vz s)).trans KT;refine⟨v,rfl,Ul G,gV,⟨⟨v2,⟨⟨?_,F.hq.kp K3 (fun z=>by have:=Z _ z;omega) (fun z=>by have:=Z _ z;omega),fun u hu=>((F.qs u hu).1.kp KT)⟩,F.z.1.kp KT,⟨l3,hn,Q_,hA.kp K3 (fun z=>by have:=Z _ z;omega) (fun z=>by have:=Z _ z;omega)⟩⟩⟩,Ak.1,?_,h0.kp K3 (fun z=>by have:=Z _ z;have:=hS.s0;omega),(h.li.kp F.kp h5).kp K3 (fun z=>by have:=Z _ z;omega),h.ps.kp Yn h4,h.kp.trans Yn⟩,G,fun k hk=>⟨he k hk,WZ G k hk,fun j hj e=>by have:=(h.ps.2.1 j hj).2 k e;have:=H k hk;have:=F.kp.size;omega⟩⟩
 ·obtain⟨v,hq⟩:=h.qz;exact hq.qs.hd
 ·have:=Ak.2;have:=h.ql;simp at *;omega
theorem Fv.new{vE:Own}{s:Nat}{wW:World}{S bw bl bi ab:Nat}{D:Nat->Src}{p:Nat}{own own':Own}{w w':World}{M:Side}{left:List (Nat×Nat)}{Q:List Nat}{vl:Value}{vs:List Value}{pk:List (Nat×List Fr)}(h:Fv vE s wW S bw bl bi ab D p own w M left Q vl vs pk)(K:Kp [] own own' w w'):Fv vE s wW S bw bl bi ab D p own' w' M left Q vl vs pk:=by
 obtain⟨v,hq⟩:=h.qz;exact⟨⟨v,hq.new K⟩,h.lq,h.ql,h.gd.kp K (by simp),h.li.kp K (by simp),h.ps.kp K (by simp),h.kp.trans (K.mono (by simp))⟩
theorem Fv.app{vE:Own}{s:Nat}{wW:World}{S bw bl bi ab:Nat}{D:Nat->Src}{p:Nat}{own own':Own}{w w':World}{M:Side}{left:List (Nat×Nat)}{Q:List Nat}{vl F:Value}{vs:List Value}{pk:List (Nat×List Fr)}(h:Fv vE s wW S bw bl bi ab D p own w M left Q vl vs pk)(v:Value)(n:Nat)(fs:List Fr)(hb:Buf w v (aD n fs))(U:∀k,v.ownBlock=some k->own k=s+47/\k<w.heap.size)(hd:∀k,v.ownBlock=some k->∀j,j<vs.length->(vs.getD j undef).ownBlock≠some k)(K:Kp [s+52] own own' w w')(I:GT own' (s+52) 60 1 w' F (vs.length+1) (vs++[v])):
  Fv vE s wW S bw bl bi ab D p own' w' M left Q F (vs++[v]) (pk++[(n,fs)]):=by
 obtain⟨X,hq⟩:=h.qz;obtain⟨l,vc,O,_⟩:=hq.env;have hs:=O.s0
 have G:∀x∈[s+52],x∈Tb s:=fun x V=>fB.2 (by simp at V;omega)
 have H:PX own s w (vs++[v]) (Uk (pk++[(n,fs)])):=by
  unfold Uk;rw[List.map_append];exact h.ps.add v _ hb U hd
 refine⟨⟨X,hq.qs.kp K G (by simp) (by simp),hq.z.kp (K.mono G),hq.env.kp K (by simp;omega) (by simp) (by simp)⟩,h.lq,h.ql,h.gd.kp K (by simp),?_,H.kp K (by simp),h.kp.trans (K.mono G)⟩;rw[mR];exact I
theorem Mr{w:World}{v:Value}{b:List UInt8}(h:Buf w v b):∃a n c,v=.slice a n c:=by
 rcases h with⟨rfl,_⟩|⟨g,cap,cs,rfl,_⟩<;>exact⟨_,_,_,rfl⟩
def lf(M:Side):List (Nat×Nat):=if M.answer then M.came.rs.reverse else[]
def PkQ(own:Own)(s:Nat)(w:World)(S bw bl bi:Nat)(G:Side->Prop)(P:Side->List (Nat×Nat)->Prop)(e:Ending)(w':World):Prop:=
 ∃F vl vs own' l' H left',G F/\e=.returned vl/\bM own' s w' S l' (dX ((lf F).length+14) {F with answer:=false} (lf F) q0 []).1 bw bl bi H/\Gd own' w'/\
  GT own' (s+52) 60 1 w' vl vs.length vs/\PX own' s w' vs (Uk (dX ((lf F).length+14) {F with answer:=false} (lf F) q0 []).2)/\Kp (Tb s) own own' w w'/\P (dX ((lf F).length+14) {F with answer:=false} (lf F) q0 []).1 left'
theorem Ij(own:Own)(s:Nat)(S:Nat)(l:List Value)(M:Side)(bw bl bi:Nat)(vc:Value)(w:World)(h:bM own s w S l M bw bl bi vc)(hg:Gd own w)(hy:M.why=0)(LR:Side->Prop)(P:Side->List (Nat×Nat)->Prop)(μ:Side->List (Nat×Nat)->Nat)(hP:PkP P μ)(VD:Calls prog 154 #[.pointer (some ⟨S,0,none⟩)] w fun e w'=>e=.returned (.tuple #[])/\∃G own' l' Z,LR G/\bM own' s w' S l' G bw bl bi Z/\Kp (T0 s) own own' w w')(h8:∀own W l G vc,LR G->bM own s W S l G bw bl bi vc->Calls prog 200 #[.pointer (some ⟨S,0,none⟩)] W fun e w'=>JB own s W S bw bl bi {G with answer:=false} (lf G) e w')(hp:∀G,LR G->P {G with answer:=false} (lf G)/\μ {G with answer:=false} (lf G)<(lf G).length+14/\(lf G).length<=1000):
  Calls prog 114 #[.pointer (some ⟨S,0,none⟩)] w fun e w'=>PkQ own s w S bw bl bi LR P e w':=by
 have HO:=hid (rF S M.why w (by rw[h.blk.cell];exact h.cells.j_));rw[hy]at HO
 have HL:Hid (Calls prog 154 #[.pointer (some ⟨S,0,none⟩)] w fun e w'=>e=.returned (.tuple #[])/\Hid (∃G,LR G/\∃own' l' Z,bM own' s w' S l' G bw bl bi Z/\Kp (Tb s) own own' w w')):=by
  refine VD.mono ?_;rintro e w' ⟨rfl,G,own',l',Z,h1,h2,O⟩;exact⟨rfl,G,h1,own',l',Z,h2,O.mono fun z hz=>fB.2 (by have:=bG.1 hz;omega)⟩
 have HS:Hid (∀w1 G,LR G->(∃own' l' Z,bM own' s w1 S l' G bw bl bi Z/\Kp (Tb s) own own' w w1)->Calls prog 155 #[.pointer (some ⟨S,0,none⟩)] w1 fun e w'=>∃p,e=.returned (.pointer (some ⟨p,0,none⟩))/\Hid (∃ab own' D v,Mk own' s w' S bw bl bi ab D p v q0 {G with answer:=false} (lf G)/\Kp (Tb s) own own' w w')):=by
  rintro w1 G h1 ⟨own',l',Z,h2,O⟩;refine(Ii own' s S l' G {G with answer:=false} bw bl bi Z (lf G) w1 h2 (fun own W hS=>h8 own W l' G Z h1 hS)).mono ?_;rintro e w' ⟨p,rfl,ab,aL,D,v,h4,h5⟩;exact⟨p,rfl,ab,aL,D,v,h4,O.trans h5⟩
 have HG:=hid hg;have HP:=hid hP;have x0:=hid hp;clear h hg hP hp VD h8 hy;go_enter func114,ntmps114
 go_wp2_with (first
  |(go_at_call 137;refine HO.out.mono ?_;rintro e w' ⟨rfl,x4⟩;have hv:=x4.symm;subst hv)
  |(go_at_call 154;refine HL.out.mono ?_;rintro e w1 ⟨rfl,IW⟩)
  |(go_at_call 155;obtain⟨G,hc,hx⟩:=IW.out;refine(HS.out w1 G hc hx).mono ?_;rintro e w2 ⟨p,rfl,HQ⟩;have ho:=hid hc;clear hc hx IW)
  |go_in)
 obtain⟨ab,aL,D,v,hq,K2⟩:=HQ.out
 have x7:0<s:=by obtain⟨l,vc,hS,_⟩:=hq.env;exact hS.s0
 have h0:Fv own s w S bw bl bi ab D p aL w2 {G with answer:=false} (lf G) q0 (.slice none 0 0) [] []:=⟨⟨v,hq⟩,lq0,by decide,HG.out.kp K2 (fun z=>by have:=fB.1 z;omega),.inl ⟨rfl,rfl,rfl⟩,⟨rfl,(fun j hj=>by cases hj),fun i j _ hj=>by cases hj⟩,K2⟩;have H0:=hid h0;clear h0 hq HQ;obtain⟨X,hX⟩:∃X,X=dX ((lf G).length+14) {G with answer:=false} (lf G) q0 []:=⟨_,rfl⟩;have HX:=hid hX
 have m_:Hid (∀own' l' Z left' vl vs w',bM own' s w' S l' X.1 bw bl bi Z->Gd own' w'->GT own' (s+52) 60 1 w' vl vs.length vs->PX own' s w' vs (Uk X.2)->Kp (Tb s) own own' w w'->P X.1 left'->PkQ own s w S bw bl bi LR P (.returned vl) w'):=by
  intro own' l' Z left' vl vs w' g1 g2 g3 g4 g5 g6;rw[hX]at g1 g4 g6;exact⟨G,vl,vs,own',l',Z,left',ho.out,rfl,g1,g2,g3,g4,g5,g6⟩
 obtain⟨a1,a2,a3⟩:=x0.out G ho.out;have HA:=hid (And.intro a1 (And.intro a2 a3));clear a1 a2 a3 hX K2
 go_loopg [4] (μ {G with answer:=false} (lf G)) (fun kx s4 wr=>∃(gV:Own) (M:Side) (left:List (Nat×Nat)) (Q:List Nat) (vs:List Value) (pk:List (Nat×List Fr)),
  Hid (Fv own s w S bw bl bi ab D p gV wr M left Q s4 vs pk/\P M left/\∃n,μ M left<n/\pk.length+n<=2000/\dX n M left Q pk=X)/\Hid (μ M left<=kx))
 case atStart=>exact⟨aL,{G with answer:=false},lf G,q0,[],[],(⟨H0.out,HA.out.1,(lf G).length+14,HA.out.2.1,by have:=HA.out.2.2;simp;omega,HX.out.symm⟩:_/\_),tL _⟩
 case round=>
  obtain⟨gV,M,left,Q,vs,pk,HI,HK⟩:=hrel;obtain⟨yM,V,n,hn,hl,I⟩:=HI.out;obtain⟨e1,e2,e3,e4,_⟩:=HP.out.nm M left V;obtain⟨v0,hf⟩:=yM.qz;obtain⟨sl,x9,hS,_⟩:=hf.env
  have c0:wr.cell? ⟨S,0,none⟩=some (.int .i64 M.aH):=by rw[hS.blk.cell];exact hS.cells.c0
  have c229:wr.cell? ⟨S,229,none⟩=some (.int .u64 M.next):=by rw[hS.blk.cell];exact hS.cells.c229
  have HR:Hid (Calls prog 157 #[.int .i64 M.aH,.int .u64 M.next] wr.drew fun e w'=>e=.returned (.int .i64 ((M.aH:Int)-((Num.bytes M.next).length:Int)-4))/\Below wr.heap.size wr w'):=by
   refine(Nr M.aH M.next wr.drew e1 (by omega)).mono ?_;rintro e w' ⟨rfl,hb⟩;exact⟨rfl,hb.os,hb.tape,hb.output,hb.size,hb.block⟩
  obtain⟨m,rfl⟩:∃m,n=m+1:=⟨n-1,by omega⟩;unfold dX at I
  by_cases h7:(fill M left Q M.room).2.2.2=[]
  ·rw[if_pos h7]at I
   have HF:Hid (∀H,Below wr.heap.size wr H->Calls prog 156 #[.pointer (some ⟨p,0,none⟩),.int .i64 ((M.aH:Int)-((Num.bytes M.next).length:Int)-4)] H fun e w'=>e=.returned (.slice none 0 0)/\Hid (PkQ own s w S bw bl bi LR P (.returned u4) w')):=fun H U=>by
    have O:=yM.new (Kp.below U);refine(O.fill V HP.out).mono ?_;rintro e w' ⟨rT,v4,vl,vt,L,rfl,hL,F,h9⟩
    have x1:L=[]:=by rw[h7]at hL;exact List.map_eq_nil_iff.1 hL
    obtain⟨l5,x5,hr,_⟩:=F.env
    have x2:(fill M left Q M.room).1=X.1:=by rw[<-I]
    rw[x2]at hr h9;refine⟨by rw[F.nl x1],m_.out rT l5 x5 _ u4 vs w' hr (O.gd.kp F.kp fun z=>by have:=jZ.1 z;omega) (O.li.kp F.kp fun z=>by have:=jZ.1 z;omega) ?_ (O.kp.trans (F.kp.mono (Vz s))) h9⟩;rw[<-I]
    exact O.ps.kp F.kp fun z=>by have:=jZ.1 z;omega
   have q1:=wR;clear yM V I hf hS HI
   go_wp2_with fail
   go_region_with (first|(go_at_call 157;refine HR.out.mono ?_;rintro e H ⟨rfl,U⟩)|(go_at_call 156;refine(HF.out H U).mono ?_;rintro e w4 ⟨rfl,HE⟩))
   all_goals(go_wp2;go_ret;exact HE.out)
  ·rw[if_neg h7]at I;obtain⟨b1,b2,b3,b4,b5,b6⟩:=HP.out.pk M left Q V yM.lq h7
   have HF:Hid (∀H,Below wr.heap.size wr H->Calls prog 156 #[.pointer (some ⟨p,0,none⟩),.int .i64 ((M.aH:Int)-((Num.bytes M.next).length:Int)-4)] H fun e w'=>∃g fn fc,e=.returned (.slice (some ⟨g,0,none⟩) fn fc)/\Hid (∃gV,Fv own s w S bw bl bi ab D p gV H M left Q u4 vs pk/\yw gV s H S bw bl bi ab D p P (Sd.fill M left Q M.room) (.returned (.slice (some ⟨g,0,none⟩) fn fc)) w')):=fun H U=>by
    have O:=yM.new (Kp.below U);refine(O.fill V HP.out).mono ?_;intro e w' hQ;obtain⟨rT,v4,vl,vt,L,rfl,hL,F,h9⟩:=hQ
    have x6:0<L.length:=by
     cases L with
     |nil=>exact absurd hL.symm h7
     |cons a t=>simp
    have x3:=F.fr
    rcases x3 with⟨_,h2,_⟩|⟨g,cap,cs,rfl,_⟩
    ·omega
    ·exact⟨g,_,cap,rfl,gV,O,rT,v4,_,vt,L,rfl,hL,F,h9⟩
   have Vd:Hid (∀H w4 fl,(∃gV,Fv own s w S bw bl bi ab D p gV H M left Q u4 vs pk/\yw gV s H S bw bl bi ab D p P (Sd.fill M left Q M.room) (.returned fl) w4)->Calls prog 158 #[.pointer (some ⟨S,0,none⟩),fl] w4 fun e w5=>∃va vn vc,e=.returned (.slice va vn vc)/\Hid (∃v6 w6 bR,(∀ty,(Builtin.append_ #[131,131] ty #[u4,.slice (some ⟨w5.heap.size,0,none⟩) 1 1]).run prog (w5.alloc (.cells #[.slice va vn vc] 60))=.ok v6 w6)/\Fv own s w S bw bl bi ab D p bR w6 ((Sd.fill M left Q M.room).1.packet (Sd.fill M left Q M.room).2.2.2) (Sd.fill M left Q M.room).2.1 (Sd.fill M left Q M.room).2.2.1 v6 (vs++[.slice va vn vc]) (pk++[(M.next,(Sd.fill M left Q M.room).2.2.2)]))):=by
    rintro H w4 fl ⟨gV,O,h4⟩;refine(O.packet V HP.out h7 fl h4).mono ?_;rintro e w5 ⟨v,rfl,_,dI,h5,ha,he⟩;obtain⟨va,vn,vc,rfl⟩:=Mr ha;refine⟨va,vn,vc,rfl,?_⟩;have hu:Below w5.heap.size w5 (w5.alloc (.cells #[.slice va vn vc] 60)):=(Below.refl _ w5).alloc (tL _) _;have B5:ak (w5.alloc (.cells #[.slice va vn vc] 60)) w5.heap.size 60 [.slice va vn vc]:=ak.new w5 60 _;have h6:=h5.new (Kp.below hu)
    have x8:vs.length<=2000:=by have:=h6.ps.1;unfold Uk at this;rw[CK]at this;omega
    obtain⟨v6,w6,bR,run,hG,K6⟩:=bU Zu h6.li ⟨w5.heap.size,0,none⟩ 1 1 [.slice va vn vc] rfl (fun z hz=>by rw[DJ.1 hz];rfl) (fun j y hy=>by
     have e:(⟨w5.heap.size,0,none⟩:Addr).add j=⟨w5.heap.size,j,none⟩:=by rw[Addr.add_lit,R3]
     rw[e,B5.cell,hy]) (by omega)
    exact⟨v6,w6,bR,run,h6.app _ _ _ (ha.alloc _) (fun k hk=>⟨(he k hk).1,Gl (he k hk).2.1 hu.size⟩) (fun k hk=>(he k hk).2.2) K6 hG⟩
   have HB:=hid (And.intro b1 (And.intro b2 (And.intro hn (And.intro hl I))));clear yM V I hf hS HI b1 b2 b3 b4 b5 b6
   go_wp2_with fail
   go_region_with (first|(go_at_call 157;refine HR.out.mono ?_;rintro e H ⟨rfl,U⟩)|(go_at_call 156;refine(HF.out H U).mono ?_;rintro e w4 ⟨fg,fn,fc,rfl,HE⟩))
   all_goals(
    have q2:=uQ w4 ⟨fg,0,none⟩ fn fc
    go_wp2_with (first
     |(go_at_call 158;refine(Vd.out H w4 _ HE.out).mono ?_;rintro e w5 ⟨va,vn,vc,rfl,hm⟩;obtain⟨v6,w6,bR,PV,Q9⟩:=hm.out;have hw:=hid Q9;clear hm Q9)
     |(at_builtin;refine Lib.wpList_append_run _ rfl _ _ _ _ rfl _ _ rfl rfl _ _ (PV _) ?_)
     |go_in)
    go_roundg (μ ((fill M left Q M.room).1.packet (fill M left Q M.room).2.2.2) (fill M left Q M.room).2.1)
    case measure=>have h1:=HK.out;have h2:=HB.out.2.1;omega
    case rel=>
     obtain⟨h1,h2,O,h4,h5⟩:=HB.out
     exact⟨bR,_,_,_,_,_,(⟨hw.out,h1,m,by omega,by rw[mR];simp;omega,h5⟩:_/\_),(tL _:μ ((fill M left Q M.room).1.packet (fill M left Q M.room).2.2.2) (fill M left Q M.room).2.1<=_)⟩)
end Go.Proofs.YtphbledmopchnaaGreatDoor.Sd
