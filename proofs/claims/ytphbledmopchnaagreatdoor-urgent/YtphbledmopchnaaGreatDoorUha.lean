import Derived.Test.YtphbledmopchnaaGreatDoorUfd
import Derived.Test.YtphbledmopchnaaGreatDoorUge
open Bool renaming and_eq_true->Aw,and_false->qa0,not_eq_true'->qa2
open Go.Builtin renaming zeroCells->Lb
open List renaming getD_eq_getElem?_getD->fA,length_append->fB,getElem?_eq_getElem->tL,replicate->tT,mem_singleton->uj,length_cons->wz,getElem?_append_left->Av,getElem?_replicate->E8,append_nil->He,length_drop->Kt,getElem?_append_right->KG,length_replicate->M4,mem_append->R3,getElem_mem->Ui,getElem?_cons_zero->Ur,length_eq_zero_iff->WA,length_map->WJ,length_nil->YF,all_eq_true->qa5,length_take->qa9,map_append->qae,map_cons->qag,mem_cons->qah,sum_cons->qai
open Nat renaming le_refl->nI,zero_le->sQ,le_trans->Am,lt_of_le_of_lt->SF,not_lt_zero->ZH,lt_of_lt_of_le->qa1,le_succ_of_le->qa3,le_succ->qa4,min_le_right->qaa,sub_self->qaj,zero_add->qak
open Option renaming map_eq_some_iff->mR,getD_some->qab
open Prod renaming fst->DT
set_option maxHeartbeats 4000000
set_option maxRecDepth 100000
namespace Go.Proofs.YtphbledmopchnaaGreatDoor.Sd
open Go.RowKit Go.Lib Mm Tryz
def Dj(vs:aI):Prop:=∀i j,i<j->j<vs.length->∀k,(vs.getD i undef).ownBlock=some k->(vs.getD j undef).ownBlock≠some k
def Qi(oZ:Own)(s:Nat)(w:World)(vs:aI)(bs:List (List UInt8)):Prop:=
 vs.length=bs.length/\(∀j,j<vs.length->Buf w (vs.getD j undef) (bs.getD j [])/\∀k,(vs.getD j undef).ownBlock=some k->oZ k=s+47/\k<w.heap.size)/\Dj vs
theorem Qi.kp{oZ aC:Own}{s:Nat}{w w':World}{vs:aI}{bs:List (List UInt8)}{T:List Nat}(h:Qi oZ s w vs bs)(K:Kp T oZ aC w w')(I:s+47∉T):Qi aC s w' vs bs:=by
 refine⟨h.1,fun j O=>?_,h.2.2⟩;obtain⟨h1,F⟩:=h.2.1 j O;refine⟨?_,fun k G=>⟨by rw[K.ext k (F k G).2,(F k G).1],qa1 (F k G).2 K.size⟩⟩
 rcases h1 with h1|⟨g,cap,cs,e,hB,H⟩
 ·exact .inl h1
 ·exact .inr ⟨g,cap,cs,e,aO hB K (by rw[(F g (by rw[e];rfl)).1];exact I),H⟩
theorem Qi.add{oZ:Own}{s:Nat}{w:World}{vs:aI}{bs:List (List UInt8)}(h:Qi oZ s w vs bs)(v:Value)(b:List UInt8)(hb:Buf w v b)(K:∀k,v.ownBlock=some k->oZ k=s+47/\k<w.heap.size)(hd:∀k,v.ownBlock=some k->∀j,j<vs.length->(vs.getD j undef).ownBlock≠some k):Qi oZ s w (vs++[v]) (bs++[b]):=by
 refine⟨by rw[fB,fB,h.1];rfl,fun j G=>?_,fun i j H G k I=>?_⟩
 rotate_left
 ·have hi:i<vs.length:=by rw[fB]at G;simp at G;omega
  rw[fA,Av hi,<-fA]at I
  by_cases F:j<vs.length
  ·rw[fA,Av F,<-fA];exact h.2.2 i j H F k I
  ·have e:j=vs.length:=by rw[fB]at G;simp at G;omega
   subst e;rw[fA,KG (nI _)];simp only[qaj,Ur,qab]
   exact fun e=>hd k e i hi I
 rw[fB]at G
 by_cases F:j<vs.length
 ·rw[fA,Av F,<-fA,fA (l:=bs++[b]),Av (by rw[<-h.1];exact F),<-fA];exact h.2.1 j F
 ·have e:j=vs.length:=by simp at G;omega
  subst e;rw[fA,KG (nI _),fA (l:=bs++[b]),h.1,KG (nI _)];simp only[qaj,Ur,qab];exact⟨hb,K⟩
theorem l7.JG{bQ:Own}{s:Nat}{w0:World}{S bw bl bi ab:Nat}{D:Nat->Src}{p:Nat}{oZ:Own}{w:World}{M:Side}{av:aP}{Q later:List Nat}{L:List FV}{v vt:Value}{fa:Option Addr}{n V:Nat}(h:l7 bQ s w0 S bw bl bi ab D p oZ w M av Q later L v (.slice fa n V) vt)(U:∀x∈L,jl x.1)(h0:0<L.length):
  n=L.length/\Rd 10 w (.slice fa L.length V) L.length (l6 L)/\sO w fa L/\jB w fa (L.map DT) (fun j=>(L.getD j eG).2.1) (fun j=>(L.getD j eG).2.2.2)/\(∀x,fa=some x->oZ x.block=s+50)/\(∀j x,(L.getD j eG).2.1=some x->oZ x.block=s+49):=by
 have O:=h.fr
 rcases O with⟨h1,X,_⟩|⟨g,cap,cs,h1,X,h3,h4,h5,h6,h7,h8,h9⟩
 ·omega
 ·simp only[Value.slice.injEq]at h1;obtain⟨rfl,rfl,rfl⟩:=h1
  have F:∀j k,j<L.length->k<10->w.cell? (aj g (0+j*10+k))=(bZ (L.getD j eG).1 (lu (L.getD j eG)))[k]?:=fun j k G hk=>by
   rw[h3.cell,<-CS L j k G hk,<-h8,List.getElem?_take,if_pos (by omega),qak]
  have Z:sO w (some (aj g 0)) L:=fun j G=>⟨g,0,rfl,fun i hi=>F j i G hi⟩
  refine⟨rfl,h.fr.rd,Z,fun j G=>?_,fun x H=>by cases H;exact X,fun j x H=>?_⟩
  ·rw[WJ]at G
   have H:L.getD j eG∈L:=by rw[fA,tL G];exact Ui _
   have hF:=h.fv _ H;have K:=U _ H
   have e:(L.map DT).getD j dS=(L.getD j eG).1:=by
    rw[fA,fA,List.getElem?_map,tL G];rfl
   have c9:w.cell? (aj g (0+j*10+9))=some (.slice (L.getD j eG).2.1 (L.getD j eG).1.ranges.length (L.getD j eG).2.2.2):=by
    rw[F j 9 G (by omega)];show some (lu (L.getD j eG))=_;unfold lu;rw[hF.len]
   refine⟨g,0,rfl,?_,?_,fun x I=>(hF.blk x I).1⟩
   ·rw[e];exact⟨F j 0 G (by omega),F j 1 G (by omega),F j 2 G (by omega),F j 3 G (by omega),F j 4 G (by omega),F j 5 G (by omega),F j 6 G (by omega),F j 7 G (by omega),F j 8 G (by omega),c9,hF.rng,K.rlen,K.xG,K.k0,K.s0,K.u0⟩
   ·rw[e];exact hF.cap
  ·by_cases G:j<L.length
   ·have I:L.getD j eG∈L:=by rw[fA,tL G];exact Ui _
    exact((h.fv _ I).blk x H).2.1
   ·rw[fA,List.getElem?_eq_none (by omega)]at H;cases H
theorem tK:∀(n:Nat) (M:Side) (av:aP) (Q later:List Nat) (room:Int) (l:List Fr),Lq Q->Lq later->Lq (bO n M av Q later room l).2.2.1/\(bO n M av Q later room l).2.2.1.length<=Q.length+later.length
 |0,M,av,Q,later,room,l,h1,h2=>⟨Lq.pushes _ h1 h2,by show(later.foldl bG Q).length<=_;rw[jy];exact nI _⟩
 |n+1,M,av,[],later,room,l,h1,h2=>⟨Lq.pushes _ h1 h2,by show(later.foldl bG []).length<=_;rw[jy];exact nI _⟩
 |n+1,M,av,u::Q,later,room,l,h1,h2=>by
  have hp:(jg (u::Q)).length=Q.length:=by rw[yU];simp
  unfold bO
  by_cases F:M.waits av u=true
  ·simp only[F,if_true]
   cases hF:M.frame av u room with
   |none=>
    simp only;split
    ·have:=tK n M av (jg (u::Q)) (later++[u]) room l h1.pop (h2.app fun x G=>by rw[uj.1 G];exact h1 u (by simp));refine⟨this.1,Am this.2 ?_⟩;rw[hp,fB];simp;omega
    ·exact⟨Lq.pushes _ h1 h2,by show(later.foldl bG (u::Q)).length<=_;rw[jy];exact nI _⟩
   |some x=>
    obtain⟨f,M',bH⟩:=x;exact tK n M' bH (u::Q) later _ _ h1 h2
  ·simp only[F];have:=tK n M av (jg (u::Q)) later room l h1.pop h2;refine⟨this.1,Am this.2 ?_⟩;rw[hp,wz];omega
theorem Km.fis{oZ:Own}{s:Nat}{w:World}{S bw bl bi ab:Nat}{D:Nat->Src}{p:Nat}{v:Value}{Q:List Nat}{M:Side}{av:aP}(h:Km oZ s w S bw bl bi ab D p v Q M av)(hq:Lq Q):l7 oZ s w S bw bl bi ab D p oZ w M av Q [] [] v nZ nZ:=
 ⟨h.qs.hq,fun u F=>⟨h.qs.hs u F,hq u F⟩,(fun u F=>by cases F),⟨h.z,by omega⟩,h.env,.inl ⟨rfl,rfl,rfl⟩,(fun x G=>by cases G),.inl ⟨rfl,rfl,rfl⟩,Kp.refl _ _ _,fun _=>rfl⟩
theorem MO(n:Nat):(Lb (Value.slice none 0 0).cells n).toList.length=n:=by simp[Lb,Value.cells]
theorem MP(n:Nat):∀v∈(Lb (Value.slice none 0 0).cells n).toList,v.oneCell'=true:=by
 intro v F;simp[Lb,Value.cells]at F;obtain⟨i,_,rfl⟩:=F
 have:i % 1=0:=by omega
 rw[this];rfl
theorem qap:DC 131 60 nZ 1 24:=⟨by kernel_rfl,by kernel_rfl,fun n=>by rw[MO];omega,MP,by omega⟩
def UZ(l:List (Nat×List Fr)):List (List UInt8):=l.map fun x=>aK x.1 x.2
structure Gy (wP:Own) (s:Nat) (wW:World) (S bw bl bi ab:Nat) (D:Nat->Src) (p:Nat) (oZ:Own) (w:World) (M:Side) (av:aP) (Q:List Nat) (vl:Value) (vs:aI) (pk:List (Nat×List Fr)):Prop where
 qz:∃v,Km oZ s w S bw bl bi ab D p v Q M av
 lq:Lq Q
 ql:Q.length<=500
 gd:Gd oZ w
 li:GT oZ (s+52) 60 1 w vl vs.length vs
 ps:Qi oZ s w vs (UZ pk)
 kp:Kp (Tb s) wP oZ wW w
structure PkP (P:Side->aP->Prop) (μ:Side->aP->Nat):Prop where
 wk:∀M av,P M av->Wk M/\u_ av=true
 fr:∀M av u room f M' bH,P M av->u<48->M.waits av u=true->M.frame av u room=some (f,M',bH)->P M' bH/\((aG f).length:Int)<=room/\0<(aG f).length/\snd f=true/\jl f
 nm:∀M av,P M av->M.aM<=400/\M.next<4611686018427387903/\0<=M.room/\M.room<=1000/\∀x∈M.aF,x.1<M.next
 pk:∀M av Q,P M av->Lq Q->(fill M av Q M.room).2.2.2≠[]->P ((fill M av Q M.room).1.packet (fill M av Q M.room).2.2.2) (fill M av Q M.room).2.1/\μ ((fill M av Q M.room).1.packet (fill M av Q M.room).2.2.2) (fill M av Q M.room).2.1<μ M av/\
  nY M.next (fill M av Q M.room).2.2.2=true/\(bV M.next (fill M av Q M.room).2.2.2).length<=1000000000/\(fill M av Q M.room).2.2.2.length<=1000/\∀f∈(fill M av Q M.room).2.2.2,jl f
theorem Gy.fill{wP:Own}{s:Nat}{wW:World}{S bw bl bi ab:Nat}{D:Nat->Src}{p:Nat}{oZ:Own}{w:World}{M:Side}{av:aP}{Q:List Nat}{vl:Value}{vs:aI}{pk:List (Nat×List Fr)}{P:Side->aP->Prop}{μ:Side->aP->Nat}(h:Gy wP s wW S bw bl bi ab D p oZ w M av Q vl vs pk)(hp:P M av)(F:PkP P μ):
  Calls prog 156 #[ay p 0,iZ M.room] w fun e w'=>yX oZ s w S bw bl bi ab D p P (Sd.fill M av Q M.room) e w':=by
 obtain⟨v,hq⟩:=h.qz;obtain⟨_,_,r0,H,_⟩:=F.nm M av hp;obtain⟨l,vc,G,_⟩:=hq.env;exact Qd P w M av Q M.room hq.qs.hd G.s0 (hq.fis h.lq) ⟨r0,H⟩ h.ql hp F.wk F.fr
theorem U0{w:World}{v:Value}{b:List UInt8}(h:Buf w v b):v.oneCell'=true:=by
 rcases h with⟨rfl,_⟩|⟨g,cap,cs,rfl,_⟩<;>rfl
theorem XV{w:World}{v:Value}{b:List UInt8}(h:Buf w v b):∀k,v.ownBlock=some k->k<w.heap.size:=by
 rcases h with⟨rfl,_⟩|⟨g,cap,cs,rfl,hB,_⟩
 ·intro k F;cases F
 ·intro k F;simp[Value.ownBlock]at F;rw[<-F];exact hB.lt
theorem Gy.packet{wP:Own}{s:Nat}{wW:World}{S bw bl bi ab:Nat}{D:Nat->Src}{p:Nat}{oZ:Own}{w w2:World}{M:Side}{av:aP}{Q:List Nat}{vl:Value}{vs:aI}{pk:List (Nat×List Fr)}{P:Side->aP->Prop}{μ:Side->aP->Nat}(h:Gy wP s wW S bw bl bi ab D p oZ w M av Q vl vs pk)(hp:P M av)(hP:PkP P μ)(h3:(Sd.fill M av Q M.room).2.2.2≠[])(fl:Value)(hf:yX oZ s w S bw bl bi ab D p P (Sd.fill M av Q M.room) (.returned fl) w2):
  Calls prog 158 #[ay S 0,fl] w2 fun e w'=>∃v,e=.returned v/\Hid (v.oneCell'=true/\∃Z,Gy wP s wW S bw bl bi ab D p Z w' ((Sd.fill M av Q M.room).1.packet (Sd.fill M av Q M.room).2.2.2) (Sd.fill M av Q M.room).2.1 (Sd.fill M av Q M.room).2.2.1 vl vs pk/\Buf w' v (aK M.next (Sd.fill M av Q M.room).2.2.2)/\∀k,v.ownBlock=some k->Z k=s+47/\k<w'.heap.size/\∀j,j<vs.length->(vs.getD j undef).ownBlock≠some k):=by
 obtain⟨c1,c2,c3,c4,c5,c6⟩:=hP.pk M av Q hp h.lq h3;have O:(Sd.fill M av Q M.room).1.next=M.next:=oQ _ av Q [] M.room [];have zS:=tK (Q.length+M.room.toNat+1) M av Q [] M.room [] h.lq (fun x I=>by cases I);have hg:Sd.fill M av Q M.room=bO (Q.length+M.room.toNat+1) M av Q [] M.room []:=rfl;rw[<-hg]at zS;generalize Sd.fill M av Q M.room=X at *;obtain⟨M2,WU,Q2,fs⟩:=X;simp only at *;obtain⟨dx,v2,ho,vt,L,e0,K,F,U⟩:=hf;cases e0;simp only at K F U;obtain⟨fa,fc,rfl,_,_⟩:=F.fr.shape
 have h2:0<L.length:=by
  cases L with
  |nil=>exact absurd K.symm h3
  |cons a t=>simp
 have hr:L.length=fs.length:=by rw[<-K,WJ]
 obtain⟨_,hm,h7,h6,h8,h9⟩:=F.JG (fun x I=>c6 x.1 (by rw[<-K];exact List.mem_map_of_mem I)) h2;obtain⟨l,vc,hS,hA⟩:=F.env;obtain⟨_,d2,_,_,d5⟩:=hP.nm M2 WU U;obtain⟨hW,_⟩:=hP.wk M2 WU U;have h0:Gd dx w2:=h.gd.kp F.kp (fun e=>by have:=kX.1 e;have:=hS.s0;omega);have hc:=MB dx s S l M2 bw bl bi vc fa L fc _ _ w2 hS h0 d2 d5 hW.wl h2 (by omega) hm h7 h6 (fun x I ha=>(F.fv x I).nil (fun e=>by unfold isA at ha;rw[e]at ha;simp at ha)) (fun x I e=>by have:=h8 x I;rw[e,hS.ow]at this;omega) (fun j x I e=>by have:=h9 j x I;rw[e,hS.ow]at this;omega) (by rw[K,O];exact c3) (by rw[K,O];exact c4);refine hc.mono ?_;rintro e w' ⟨v,rfl,G,H,Z,l3,hn,S_,K3,he⟩;rw[K,O]at G;rw[K]at S_
 have KT:Kp (Tb s) dx Z w2 w':=K3.mono fun z hz=>f_.2 (by simp at hz;omega)
 have V:∀z,z∈[s,s+42]->z=s\/z=s+42:=fun z hz=>by simpa using hz
 have h5:s+52∉Tg s:=fun e=>by have:=kX.1 e;omega
 have h4:s+47∉Tb s:=fun e=>by have:=f_.1 e;omega
 have Zf:Kp (Tb s) oZ Z w w':=(F.kp.mono (WT s)).trans KT;refine⟨v,rfl,U0 G,Z,⟨⟨v2,⟨⟨?_,F.hq.kp K3 (fun z=>by have:=V _ z;omega) (fun z=>by have:=V _ z;omega),fun u hu=>((F.qs u hu).1.kp KT)⟩,F.z.1.kp KT,⟨l3,hn,S_,hA.kp K3 (fun z=>by have:=V _ z;omega) (fun z=>by have:=V _ z;omega)⟩⟩⟩,zS.1,?_,h0.kp K3 (fun z=>by have:=V _ z;have:=hS.s0;omega),(h.li.kp F.kp h5).kp K3 (fun z=>by have:=V _ z;omega),h.ps.kp Zf h4,h.kp.trans Zf⟩,G,fun k hk=>⟨he k hk,XV G k hk,fun j hj e=>by have:=(h.ps.2.1 j hj).2 k e;have:=H k hk;have:=F.kp.size;omega⟩⟩
 ·obtain⟨v,hq⟩:=h.qz;exact hq.qs.hd
 ·have:=zS.2;have:=h.ql;simp at *;omega
end Go.Proofs.YtphbledmopchnaaGreatDoor.Sd
namespace Go.Proofs.YtphbledmopchnaaGreatDoor.Sd
open St Tryz
theorem vg{o o':Ot}{k:Nat}{room:Int}{aB:Nat}{f:Fr}(h:o.next k room aB=some (f,o')):o'=({o with sent:=max o.sent (aJ f)}:Ot).aw f/\f.limit=0/\f.reliable=0/\f.id=0/\f.deadline=0/\f.ranges=[]:=by
 unfold Ot.next at h;simp only at h;split at h
 ·cases h
 ·rename_i g I;split at h
  ·cases h
  ·have e:=Option.some.inj h;have G:({g with fin:=o.eO (aJ g)}:Fr)=f:=congrArg DT e;have H:=congrArg Prod.snd e;simp only at H;obtain⟨n,_,F⟩:=sI I;refine⟨?_,?_⟩
   ·rw[<-H,<-G];rfl
   ·rw[<-G,F];exact⟨rfl,rfl,rfl,rfl,rfl⟩
structure FrG (f:Fr):Prop where
 sn:snd f=true
 ok:jl f
 kd:f.kind=2\/f.kind=7\/N8 f
 sz:0<(aG f).length
theorem vV(ps:List (List UInt8)):∀k,0<k->0<(ps.getD 0 []).length->0<(bE ps k).length
 |0,h,_=>absurd h (Nat.lt_irrefl _)
 |1,_,h=>by simpa[bE]using h
 |k+2,_,h=>by
  have:=vV ps (k+1) (by omega) h;show 0<(bE ps (k+1)++_).length;rw[fB];omega
theorem jF(f:Fr):0<(aG f).length:=by
 unfold aG;refine vV _ _ ?_ ?_
 ·unfold aX;repeat' split
  all_goals decide
 ·unfold aX;repeat' split
  all_goals simp[aR]
theorem Qm{A A':Side}(hA:dD A)(hb:Bd A)(av bH:aP)(u:Nat)(room:Int)(f:Fr)(hu:u<48)(hl:Dn av)(h8:av.length<=8)(G:A.waits av u=true)(h:A.frame av u room=some (f,A',bH)):Bd A'/\FrG f/\A'.aF=A.aF/\A'.next=A.next/\A'.aM=A.aM/\A'.tick=A.tick/\
   (f.kind=2/\bH.length<av.length\/f.kind≠2/\bH=av/\A.aF.length<12):=by
 obtain⟨_,f2,_,_,_⟩:=ze hA (fun k=>(hb.o k).b) av bH u room f hu hl G h
 have z:0<18446744073709551616:=by decide
 have h2:aZ<18446744073709551616:=by decide
 unfold Side.frame at h;unfold Side.waits at G
 by_cases u0:u=0
 ·rw[if_pos u0]at h;split at h
  ·cases h
  ·rename_i hn;have e:=Option.some.inj h;have K:dR (av.take (cB av room av.length))=f:=congrArg DT e;have V:A=A':=congrArg (fun x=>x.2.1) e;have el:av.drop (cB av room av.length)=bH:=congrArg (fun x=>x.2.2) e;subst V;refine⟨hb,⟨f2,?_,.inl (by rw[<-K];rfl),jF f⟩,rfl,rfl,rfl,rfl,.inl ⟨by rw[<-K];rfl,?_⟩⟩
   ·rw[<-K]
    exact⟨by simp only[dR,qa9];omega,sQ _,by simp only[dR];omega,by simp only[dR];omega,⟨z,z,z,z,z⟩,fun j U=>by
     have ha:=(hl.take (cB av room av.length)).at j U;unfold oG at ha;simp only[Aw]at ha;have a1:=of_decide_eq_true ha.1.1;have a2:=of_decide_eq_true ha.1.2
     exact⟨by simp only[dR];omega,by simp only[dR];omega⟩⟩
   ·rw[<-el,Kt]
    have h0:av.length≠0:=fun e0=>hn (by
     have:av=[]:=WA.1 e0
     rw[this];rfl)
    omega
 ·rw[if_neg u0]at h G;simp only[Aw,qa2]at G
  have H:A.aF.length<12:=by
   have:=G.1;unfold Side.full at this;have:=of_decide_eq_false this;omega
  replace G:=G.2
  by_cases u8:u=8
  ·rw[if_pos u8]at h;obtain⟨⟨f1,g1⟩,X,e⟩:=mR.1 h;have K:f1=f:=congrArg DT e;have V:{A with gr:=g1}=A':=congrArg (fun x=>x.2.1) e;have el:av=bH:=congrArg (fun x=>x.2.2) e;obtain⟨I,e2⟩:=mq X;have F:A.gr.lim A.free<=aZ:=qaa _ _;rw[K]at I;subst V;refine⟨hb.XB _ ?_,⟨f2,?_,.inr (.inr ?_),jF f⟩,rfl,rfl,rfl,rfl,.inr ⟨by rw[I];simp[iT],el.symm,H⟩⟩
   ·rw[e2];exact Io.aw (g:={A.gr with told:=A.gr.lim A.free}) ⟨hb.g.1,F,hb.g.2.2⟩ _ F
   ·rw[I];exact⟨sQ _,sQ _,by simp only[iT];omega,by simp only[iT];omega,⟨z,z,SF F h2,z,z⟩,fun j U=>absurd U (ZH _)⟩
   ·rw[I];exact⟨by simp only[iT];omega,(fun h=>by cases h),F,.inr (.inl rfl)⟩
  ·rw[if_neg u8]at h G
   by_cases u24:u<24
   ·rw[if_pos u24]at h;obtain⟨⟨f1,g1⟩,X,e⟩:=mR.1 h;have K:f1=f:=congrArg DT e;have V:A.dA (u-16) {A.inn (u-16)with gr:=g1}=A':=congrArg (fun x=>x.2.1) e;have el:av=bH:=congrArg (fun x=>x.2.2) e;obtain⟨I,e2⟩:=mq X;have F:(A.inn (u-16)).gr.lim (A.inn (u-16)).free<=aZ:=qaa _ _;rw[K]at I;subst V
    have hk:u-16<8:=by omega
    refine⟨hb.dA _ _ ((hb.i _).gr' _ ?_),⟨f2,?_,.inr (.inr ?_),jF f⟩,rfl,rfl,rfl,rfl,.inr ⟨by rw[I];simp[iT],el.symm,H⟩⟩
    ·rw[e2];exact Io.aw (g:={(A.inn (u-16)).gr with told:=(A.inn (u-16)).gr.lim (A.inn (u-16)).free}) ⟨(hb.i _).g.1,F,(hb.i _).g.2.2⟩ _ F
    ·rw[I];exact⟨sQ _,sQ _,by simp only[iT];omega,by simp only[iT];omega,⟨z,z,SF F h2,z,z⟩,fun j U=>absurd U (ZH _)⟩
    ·rw[I];exact⟨by simp only[iT];omega,(fun h=>by cases h),F,.inr (.inr rfl)⟩
   ·rw[if_neg u24]at h G
    by_cases u32:u<32
    ·rw[if_pos u32]at G;unfold Nt.waits at G;rw[(hA.wr _).given]at G;cases G
    ·rw[if_neg u32]at h G
     by_cases Z:u=32
     ·rw[if_pos Z]at G;rw[hA.q]at G;simp at G
     ·rw[if_neg Z]at h G;obtain⟨⟨f1,o1⟩,X,e⟩:=mR.1 h;have K:f1=f:=congrArg DT e;have V:A.bf (u-40) o1=A':=congrArg (fun x=>x.2.1) e;have el:av=bH:=congrArg (fun x=>x.2.2) e;subst K V;obtain⟨n1,n2,n3,_,_,_,_,n8,_⟩:=wX (hA.wr _) G X;obtain⟨q1,q2,q3,q4,q5,q6⟩:=vg X
      have h3:o1.bytes.length<=2048:=by rw[n8];exact(hb.o _).b
      have O:aJ f1<=2048:=Am n3.b h3;have hd:ru f1:=⟨by unfold aJ at O;omega,O,n3.ne⟩
      have hk:u-40<8:=by omega
      refine⟨hb.bf _ _ ?_,⟨f2,?_,.inr (.inr ?_),jF f1⟩,rfl,rfl,rfl,rfl,.inr ⟨by rw[n1];decide,el.symm,H⟩⟩
      ·rw[q1];exact⟨(hb.o _).b,sS (hb.o _).a hd,(hb.o _).c⟩
      ·exact⟨by rw[q6];exact sQ _,hd.d,by rw[n1];omega,by rw[n2];omega,⟨by have:=hd.o;omega,by rw[q3];exact z,by rw[q2];exact z,by rw[q4];exact z,by rw[q5];exact z⟩,fun j U=>by rw[q6]at U;exact absurd U (ZH _)⟩
      ·exact⟨by rw[n2];omega,fun _=>hd,by rw[q2];exact sQ _,.inl n1⟩
theorem Qo{A A':Side}{av bH:aP}{u:Nat}{room:Int}{f:Fr}(I:u≠32)(h:A.frame av u room=some (f,A',bH)):∃r,r<=room/\A.nq.frame av u r=some (f,A'.nq,bH)/\A'.queue=A.queue:=by
 have z:∀r:Int,r-(A.nq.cO:Int)=r:=fun r=>by show r-((0:Nat):Int)=r;simp
 unfold Side.frame at h ⊢
 by_cases u0:u=0
 ·rw[if_pos u0]at h;refine⟨room,Int.le_refl _,?_⟩;rw[if_pos u0];split at h
  ·cases h
  ·rename_i O;rw[if_neg O];have e:=Option.some.inj h;have K:A=A':=congrArg (fun x=>x.2.1) e;subst K;have H:=congrArg DT e;have el:=congrArg (fun x=>x.2.2) e;simp only at H el;exact⟨by rw[H,el],rfl⟩
 rw[if_neg u0]at h
 by_cases u8:u=8
 ·rw[if_pos u8]at h;refine⟨room-A.cO,by omega,?_⟩;rw[if_neg u0,if_pos u8,z];obtain⟨x,G,e⟩:=mR.1 h;have F:(A.nq.gr.next 5 0 A.nq.free (room-A.cO))=some x:=G;rw[F];cases e;exact⟨rfl,rfl⟩
 rw[if_neg u8]at h
 by_cases u24:u<24
 ·rw[if_pos u24]at h;refine⟨room-A.cO,by omega,?_⟩;rw[if_neg u0,if_neg u8,if_pos u24,z];obtain⟨x,G,e⟩:=mR.1 h;have F:((A.nq.inn (u-16)).gr.next 6 (u-16) (A.nq.inn (u-16)).free (room-A.cO))=some x:=G;rw[F];cases e;exact⟨rfl,rfl⟩
 rw[if_neg u24]at h
 by_cases u32:u<32
 ·rw[if_pos u32]at h;refine⟨room-A.cO,by omega,?_⟩;rw[if_neg u0,if_neg u8,if_neg u24,if_pos u32,z];obtain⟨x,G,e⟩:=mR.1 h;have F:((A.nq.out (u-24)).nt.next (u-24) (A.nq.out (u-24)).bytes.length (room-A.cO))=some x:=G;rw[F];cases e;exact⟨rfl,rfl⟩
 rw[if_neg u32,if_neg I]at h;refine⟨room,Int.le_refl _,?_⟩;rw[if_neg u0,if_neg u8,if_neg u24,if_neg u32,if_neg I];obtain⟨x,G,e⟩:=mR.1 h;have F:((A.nq.out (u-40)).next (u-40) room A.nq.aB)=some x:=G;rw[F];cases e;exact⟨rfl,rfl⟩
theorem Qp{A:Side}{av:aP}{u:Nat}(F:u≠32):A.nq.waits av u=A.waits av u:=by
 unfold Side.waits;rw[if_neg F,if_neg F];rfl
theorem Ko{A A' B:Side}(K:dD A.nq)(h1:bn A B)(h2:bn B A)(hb:Bd A)(hq:QQ A)(av bH:aP)(u:Nat)(room:Int)(f:Fr)(X:u<48)(hl:Dn av)(h8:av.length<=8)(hh:∀r∈av,r.2<B.next)(I:A.waits av u=true)(h:A.frame av u room=some (f,A',bH)):(dD A'.nq/\bn A' B/\bn B A'/\Bd A'/\QQ A')/\Dn bH/\(∀r∈bH,r.2<B.next)/\((aG f).length:Int)<=room/\FrG f/\A'.aF=A.aF/\A'.next=A.next/\A'.aM=A.aM/\
   (f.kind=2/\bH.length<av.length\/f.kind≠2/\bH=av/\A.aF.length<12):=by
 by_cases G:u=32
 ·subst G;have Z:A.waits av 32=(!A.full&&decide (0<A.queue.length)):=rfl
  have V:A.frame av 32 room=if room<A.cO then none else A.queue.head?.map fun f=>(f,{A with queue:=A.queue.tail,qv:=SV A.qv},av):=rfl
  rw[Z,Aw,qa2]at I
  have U:A.aF.length<12:=by
   have:=I.1;unfold Side.full at this;have:=of_decide_eq_false this;omega
  rw[V]at h
  cases F:A.queue with
  |nil=>rw[F]at I;cases I.2
  |cons g t=>
   have hs:A.cO=(aG g).length:=by unfold Side.cO;rw[F]
   rw[F,hs]at h;split at h
   ·cases h
   ·rename_i hr;have e:=Option.some.inj h;have ef:g=f:=congrArg DT e;have ea:{A with queue:=t,qv:=SV A.qv}=A':=congrArg (fun x=>x.2.1) e;have el:av=bH:=congrArg (fun x=>x.2.2) e;subst ef ea el;have O:=hq.q g (by rw[F];simp);refine⟨⟨K,h1.qa _ _,h2.qb _ _,hb.q _ _,fun x hx=>hq.q x (by rw[F];exact List.mem_cons_of_mem _ hx),by have:=hq.l;rw[F,wz]at this;show t.length<=16;omega⟩,hl,hh,by omega,⟨O.sn,O.ok,.inr (.inl O.kd),jF g⟩,rfl,rfl,rfl,.inr ⟨by rw[O.kd];decide,rfl,U⟩⟩
 ·obtain⟨r,hr,e,eq⟩:=Qo G h
  have H:A.nq.waits av u=true:=by rw[Qp G];exact I
  obtain⟨s,_,sl⟩:=D9 (A:=A.nq) K (h1.qa _ _) (h2.qb _ _) av bH u r f X hh H e;obtain⟨g1,_,g3,_,_⟩:=ze K (fun k=>(hb.o k).b) av bH u r f X hl H e;obtain⟨b1,b2,b3,b4,b5,_,b7⟩:=Qm (A:=A.nq) K (hb.q _ _) av bH u r f X hl h8 H e;exact⟨⟨s.loc,s.ab.qa A'.queue A'.qv,s.ba.qb A'.queue A'.qv,b1.q A'.queue A'.qv,by rw[eq];exact hq.q,by rw[eq];exact hq.l⟩,g3,sl,by omega,b2,b3,b4,b5,b7⟩
def Kq(l:List Fr):Nat:=(l.map fun f=>(aG f).length).sum
structure FlB (B A:Side) (av:aP) (room:Int) (l:List Fr) (x:Side×aP×List Nat×List Fr) (m:List Fr):Prop where
 loc:dD x.1.nq
 qq:QQ x.1
 ab:bn x.1 B
 ba:bn B x.1
 bd:Bd x.1
 dn:Dn x.2.1
 ln:x.2.1.length<=av.length
 hi:∀r∈x.2.1,r.2<B.next
 q:Lq x.2.2.1
 eq:x.2.2.2=l++m
 fs:∀f∈m,FrG f
 sz:(Kq m:Int)<=room
 wy:x.1.aF=A.aF
 mt:x.1.aM=A.aM
 wf:wants m=true->A.aF.length<12
 ac:m≠[]->wants m=false->x.2.1.length<av.length
theorem mW:∀(n:Nat) {A B:Side} (av:aP) (Q later:List Nat) (room:Int) (l:List Fr),dD A.nq->bn A B->bn B A->Bd A->QQ A->Dn av->av.length<=8->(∀r∈av,r.2<B.next)->Lq Q->Lq later->0<=room->
  ∃m,FlB B A av room l (bO n A av Q later room l) m
 |0,A,B,av,Q,later,room,l,hA,h1,h2,hb,hq,hd,h8,hl,hQ,hL,hr=>⟨[],hA,hq,h1,h2,hb,hd,nI _,hl,Lq.pushes _ hQ hL,(He _).symm,by simp,hr,rfl,rfl,by simp[wants],by simp⟩
 |n+1,A,B,av,[],later,room,l,hA,h1,h2,hb,hq,hd,h8,hl,hQ,hL,hr=>⟨[],hA,hq,h1,h2,hb,hd,nI _,hl,Lq.pushes _ hQ hL,(He _).symm,by simp,hr,rfl,rfl,by simp[wants],by simp⟩
 |n+1,A,B,av,u::Q,later,room,l,hA,h1,h2,hb,hq,hd,h8,hl,hQ,hL,hr=>by
  have O:u<48:=hQ u (by simp);unfold bO
  by_cases K:A.waits av u=true
  ·simp only[K,if_true]
   cases hF:A.frame av u room with
   |none=>
    simp only;split
    ·exact mW n av _ _ room l hA h1 h2 hb hq hd h8 hl hQ.pop (hL.app fun x hx=>by rw[uj.1 hx];exact O) hr
    ·exact⟨[],hA,hq,h1,h2,hb,hd,nI _,hl,Lq.pushes _ hQ hL,(He _).symm,by simp,hr,rfl,rfl,by simp[wants],by simp⟩
   |some x=>
    obtain⟨f,A',bH⟩:=x;simp only;obtain⟨⟨sL,sa,sb,U,sq⟩,X,sl,g1,b2,b3,b4,V,H⟩:=Ko hA h1 h2 hb hq av bH u room f O hd h8 hl K hF
    have I:bH.length<=av.length:=by rcases H with⟨_,h⟩|⟨_,h,_⟩;omega;rw[h];exact nI _
    obtain⟨m,t⟩:=mW n bH (u::Q) later (room-((aG f).length:Int)) (l++[f]) sL sa sb U sq X (by omega) sl hQ hL (by omega);refine⟨f::m,t.loc,t.qq,t.ab,t.ba,t.bd,t.dn,Am t.ln I,t.hi,t.q,by rw[t.eq];simp,fun g G=>?_,?_,t.wy.trans b3,t.mt.trans V,fun F=>?_,fun _ F=>?_⟩
    ·rcases qah.1 G with G|G
     ·rw[G];exact b2
     ·exact t.fs g G
    ·have:=t.sz;unfold Kq at this ⊢;simp only[qag,qai];omega
    ·rcases H with⟨h,_⟩|⟨_,_,h⟩
     ·have:wants m=true:=by
       unfold wants at F ⊢;simpa[h]using F
      have:=t.wf this;rwa[b3]at this
     ·exact h
    ·have Z:f.kind=2:=by
      unfold wants at F;simp only[List.any_cons,Bool.or_eq_false_iff]at F;have:=of_decide_eq_false F.1;exact Decidable.not_not.1 this
     rcases H with⟨_,h⟩|⟨h,_⟩
     ·exact SF t.ln h
     ·exact absurd Z h
  ·simp only[K];exact mW n av _ later room l hA h1 h2 hb hq hd h8 hl hQ.pop hL hr
theorem zh(n:Nat)(fs:List Fr):∀k,k<=fs.length->(cZ n fs k).length=(Num.bytes n).length+Kq (fs.take k)
 |0,_=>by simp[cZ,Kq]
 |k+1,h=>by
  show(cZ n fs k++aG (fs.getD k dS)).length=_;rw[fB,zh n fs k (by omega),List.take_add_one,tL (by omega)];unfold Kq;rw[qae,List.sum_append,fA,tL (by omega)];simp;omega
theorem qL(n:Nat)(fs:List Fr):(bV n fs).length=(Num.bytes n).length+Kq fs:=by
 unfold bV;rw[zh n fs fs.length (nI _),List.take_length]
theorem Kr:∀(l:List Fr),(∀f∈l,FrG f)->l.length<=Kq l
 |[],_=>sQ _
 |f::t,h=>by
  have h1:=Kr t fun g F=>h g (by simp[F])
  have G:=(h f (by simp)).sz;unfold Kq at h1 ⊢;simp only[qag,qai,wz];omega
def mu(M:Side)(av:aP):Nat:=av.length+(12-M.aF.length)
structure PP (B:Side) (N:Nat) (M:Side) (av:aP):Prop where
 loc:dD M.nq
 qq:QQ M
 ab:bn M B
 ba:bn B M
 bd:Bd M
 dn:Dn av
 l8:av.length<=8
 hi:∀r∈av,r.2<B.next
 nx:M.next+mu M av<=N
theorem Di{M:Side}(h:Bd M):0<=M.room/\M.room<=400:=by
 unfold Side.room;have:=dQ M.next;have:=h.mt;omega
theorem Dn.okl{l:aP}(h:Dn l)(F:l.length<=8):u_ l=true:=by
 unfold u_;rw[Aw];exact⟨qa5.2 fun i hi=>h.at i (by simpa using hi),decide_eq_true (by omega)⟩
theorem Qq{B:Side}{N:Nat}{M:Side}{av:aP}{Q:List Nat}(h:PP B N M av)(hN:N<aZ)(hQ:Lq Q)(O:(fill M av Q M.room).2.2.2≠[]):
  PP B N ((fill M av Q M.room).1.packet (fill M av Q M.room).2.2.2) (fill M av Q M.room).2.1/\mu ((fill M av Q M.room).1.packet (fill M av Q M.room).2.2.2) (fill M av Q M.room).2.1<mu M av/\
  nY M.next (fill M av Q M.room).2.2.2=true/\(bV M.next (fill M av Q M.room).2.2.2).length+4<=M.aM/\(fill M av Q M.room).2.2.2.length<=400/\(∀f∈(fill M av Q M.room).2.2.2,FrG f):=by
 obtain⟨r0,r1⟩:=Di h.bd;have U:(fill M av Q M.room).1.next=M.next:=oQ _ av Q [] M.room [];obtain⟨m,t⟩:=mW (Q.length+M.room.toNat+1) av Q [] M.room [] h.loc h.ab h.ba h.bd h.qq h.dn h.l8 h.hi hQ (fun x K=>by simp at K) r0;have G:FlB B M av M.room [] (fill M av Q M.room) m:=t;clear t;generalize fill M av Q M.room=x at G U O;obtain⟨A,bH,Q',fs⟩:=x;simp only at G U O ⊢;have eq:fs=m:=G.eq;subst eq;have ln:bH.length<=av.length:=G.ln;have wy:A.aF=M.aF:=G.wy;have h7:A.aM=M.aM:=G.mt;have P:=xQ (A:=A.nq) G.loc (G.ab.qa _ _) (G.ba.qb _ _) fs;have H:Bd A:=G.bd
 have h0:mu (A.packet fs) bH<mu M av:=by
  unfold mu
  by_cases I:wants fs=true
  ·have V:=G.wf I
   have:(A.packet fs).aF=A.aF++[(A.next,⟨again fs,A.tick⟩)]:=by
    show(if wants fs then _ else _)=_;rw[if_pos I]
   rw[this,fB,wy];simp only[wz,YF];omega
  ·have h4:wants fs=false:=by simpa using I
   have:(A.packet fs).aF=A.aF:=by
    show(if wants fs then _ else _)=_;rw[if_neg I]
   have h3:bH.length<av.length:=G.ac O h4;rw[this,wy];omega
 have hsz:(Kq fs:Int)<=M.room:=G.sz;have h6:fs.length<=Kq fs:=Kr fs G.fs
 have h2:(A.packet fs).next=M.next+1:=by show A.next+1=_;rw[U]
 have h5:(again fs).length<=fs.length:=List.length_filter_le _ _
 have Z:∀f∈again fs,N8 f:=fun f X=>by
  obtain⟨p,q⟩:=List.mem_filter.1 X
  rcases(G.fs f p).kd with e|e
  ·rw[e]at q;simp at q
  ·rcases e with e|e
   ·rw[e]at q;simp at q
   ·exact e
 have TB:=h.nx;have h8:aZ=4611686018427387903:=rfl;refine⟨⟨P.loc,⟨G.qq.q,G.qq.l⟩,P.ab.qa A.queue A.qv,P.ba.qb A.queue A.qv,?_,G.dn,by have:=h.l8;omega,G.hi,by rw[h2];omega⟩,h0,?_,?_,by omega,G.fs⟩
 ·refine⟨H.o,H.i,H.g,H.lm,H.mt,fun x K=>?_,fun x K=>(H.ls x K).mono (qa4 _),?_,?_,H.ll,qa3 H.nm,H.cm,fun x K=>?_⟩
  ·by_cases I:wants fs=true
   ·have F:x∈A.aF++[(A.next,(⟨again fs,A.tick⟩:m_))]:=by
     have:(A.packet fs).aF=A.aF++[(A.next,⟨again fs,A.tick⟩)]:=by
      show(if wants fs then _ else _)=_;rw[if_pos I]
     rwa[this]at K
    rcases R3.1 F with F|F
    ·exact(H.wy x F).mono (qa4 _)
    ·rw[uj.1 F];exact⟨Nat.lt_succ_self _,by show(again fs).length<=400;omega,Z⟩
   ·have:(A.packet fs).aF=A.aF:=by
     show(if wants fs then _ else _)=_;rw[if_neg I]
    rw[this]at K;exact(H.wy x K).mono (qa4 _)
  ·show(A.lost++(A.packet fs).aF).Pairwise _
   by_cases I:wants fs=true
   ·have:(A.packet fs).aF=A.aF++[(A.next,⟨again fs,A.tick⟩)]:=by
     show(if wants fs then _ else _)=_;rw[if_pos I]
    rw[this,<-List.append_assoc,List.pairwise_append];refine⟨H.ky,by simp,fun x K y hy=>?_⟩;rw[uj.1 hy]
    have:x.1<A.next:=by
     rcases R3.1 K with K|K
     ·exact(H.ls x K).1
     ·exact(H.wy x K).1
    show x.1≠A.next;omega
   ·have:(A.packet fs).aF=A.aF:=by
     show(if wants fs then _ else _)=_;rw[if_neg I]
    rw[this];exact H.ky
  ·by_cases I:wants fs=true
   ·have V:=G.wf I
    have:(A.packet fs).aF=A.aF++[(A.next,⟨again fs,A.tick⟩)]:=by
     show(if wants fs then _ else _)=_;rw[if_pos I]
    rw[this,fB,wy];simp only[wz,YF];omega
   ·have:(A.packet fs).aF=A.aF:=by
     show(if wants fs then _ else _)=_;rw[if_neg I]
    rw[this];exact H.wl
  ·show x.2.tick<=A.tick
   by_cases I:wants fs=true
   ·have F:x∈A.aF++[(A.next,(⟨again fs,A.tick⟩:m_))]:=by
     have:(A.packet fs).aF=A.aF++[(A.next,⟨again fs,A.tick⟩)]:=by
      show(if wants fs then _ else _)=_;rw[if_pos I]
     rwa[this]at K
    rcases R3.1 F with F|F
    ·exact H.tk x F
    ·rw[uj.1 F];exact nI _
   ·have:(A.packet fs).aF=A.aF:=by
     show(if wants fs then _ else _)=_;rw[if_neg I]
    rw[this]at K;exact H.tk x K
 ·unfold nY;rw[Aw,Aw];refine⟨⟨qa5.2 fun f X=>(G.fs f X).sn,decide_eq_true (by omega)⟩,decide_eq_true ?_⟩
  cases fs with
  |nil=>exact absurd rfl O
  |cons f t=>simp
 ·rw[qL];unfold Side.room at hsz;omega
theorem pkp(B:Side)(N:Nat)(U:N<aZ):PkP (PP B N) mu where
 wk:=fun M av h=>⟨h.bd.wk h.loc h.qq,h.dn.okl h.l8⟩
 fr:=fun M av u room f M' bH h Z hw F=>by
  obtain⟨⟨sL,sa,sb,H,sq⟩,O,sl,K,b2,b3,b4,b5,I⟩:=Ko h.loc h.ab h.ba h.bd h.qq av bH u room f Z h.dn h.l8 h.hi hw F
  have X:bH.length<=av.length:=by rcases I with⟨_,h⟩|⟨_,h,_⟩;omega;rw[h];exact nI _
  refine⟨⟨sL,sq,sa,sb,H,O,by have:=h.l8;omega,sl,?_⟩,K,b2.sz,b2.sn,b2.ok⟩;have:=h.nx;unfold mu at this ⊢;rw[b4,b3];omega
 nm:=fun M av h=>by
  obtain⟨r0,r1⟩:=Di h.bd;have h0:aZ=4611686018427387903:=rfl;have:=h.nx;exact⟨h.bd.mt.2,by omega,r0,by omega,fun x hx=>(h.bd.wy x hx).1⟩
 pk:=fun M av Q h V G=>by
  obtain⟨p1,p2,p3,p4,p5,p6⟩:=Qq h U V G;have:=h.bd.mt;exact⟨p1,p2,p3,by omega,by omega,fun f F=>(p6 f F).ok⟩
theorem J6{c:NS}(h:CmB c)(n:Nat)(I:n<=aZ):CmB (c.add 8 n n):=by
 unfold NS.add Rg.add
 by_cases h1:n<max n c.fl
 ·rw[if_pos h1];exact h
 ·rw[if_neg h1]
  have H:max n c.fl<=n:=by omega
  have s:=Rg.kH c.rs (max n c.fl) n H h.so;have hi:=Rg.uG c.rs (max n c.fl) n aZ I h.hi;have hl:=Rg.mZ c.rs (max n c.fl) n;have O:=h.ln
  by_cases G:8<(Rg.ins (max n c.fl) n c.rs).length
  ·rw[if_pos G];refine⟨s.tail,fun r K=>hi r (List.mem_of_mem_tail K),by simp only[List.length_tail];omega,?_⟩
   have F:0<(Rg.ins (max n c.fl) n c.rs).length:=by omega
   have:=hi _ (Ui F);show((Rg.ins (max n c.fl) n c.rs).getD 0 (0,0)).2+1<=aZ+1;rw[fA,tL F];exact Nat.succ_le_succ this
  ·rw[if_neg G];exact⟨s,hi,by show(Rg.ins (max n c.fl) n c.rs).length<=8;omega,h.fl⟩
theorem Po{i:bU}(h:Bb i)(lo:Nat)(d:List UInt8)(h1:i.read<=lo)(G:lo+d.length<=2048):Bb (i.hold lo d):=by
 have hl:=h.l;have F:=h.c;obtain⟨a,b⟩:=qW d (lo-i.read) (i.held++tT (lo-i.read+d.length-i.held.length) 0) (i.came++tT (lo-i.read+d.length-i.held.length) false);refine⟨h.g,h.r,h.h,h.f,h.e,?_,?_,h.s⟩
 ·show i.read+(bF d (lo-i.read) (i.held++tT (lo-i.read+d.length-i.held.length) 0) (i.came++tT (lo-i.read+d.length-i.held.length) false)).1.length<=2048;rw[a,fB,M4];omega
 ·show(bF d (lo-i.read) (i.held++tT (lo-i.read+d.length-i.held.length) 0) (i.came++tT (lo-i.read+d.length-i.held.length) false)).2.length=(bF d (lo-i.read) (i.held++tT (lo-i.read+d.length-i.held.length) 0) (i.came++tT (lo-i.read+d.length-i.held.length) false)).1.length;rw[a,b,fB,fB,M4,M4,F]
theorem Pp{i:bU}(h:Bb i)(f:Fr)(F:aJ f<=2048):Bb (i.take f):=by
 have h1:Bb {i with high:=max i.high (aJ f),ended:=i.ended||f.fin,dX:=if f.fin then aJ f else i.dX}:=
  ⟨h.g,h.r,Nat.max_le.2 ⟨h.h,F⟩,(by show(if f.fin=true then aJ f else i.dX)<=2048;split;exact F;exact h.f),h.e,h.l,h.c,h.s⟩
 have key:∀j:bU,Bb j->Bb (if max f.offset j.read<min (aJ f) j.wanted then j.hold (max f.offset j.read) ((f.data.data.toList.take (min (aJ f) j.wanted-f.offset)).drop (max f.offset j.read-f.offset))else j):=fun j G=>by
  split
  ·refine Po G _ _ (Nat.le_max_right _ _) ?_;rw[Kt,qa9];omega
  ·exact G
 exact key _ h1
theorem XC{i:bU}(h:Bb i)(most:Int):Bb (i.rd most).2:=by
 have hl:=h.l;have F:=h.c
 have G:min i.ready (max most 0).toNat<=i.held.length:=by
  have:i.ready<=i.came.length:=by
   unfold bU.ready;exact(List.takeWhile_sublist _).length_le
  omega
 unfold bU.rd;simp only;refine⟨h.g,?_,h.h,h.f,h.e,?_,?_,?_⟩
 ·show i.read+_<=2048;omega
 ·show i.read+min i.ready (max most 0).toNat+(i.held.drop (min i.ready (max most 0).toNat)).length<=2048;rw[Kt];omega
 ·show(i.came.drop _).length=(i.held.drop _).length;rw[Kt,Kt,F]
 ·show(if(i.cut _).state=0 then(i.cut _).reached else(i.cut _).state)<=2;split
  ·unfold bU.reached
   repeat' split
   all_goals decide
  ·exact h.s
def Side.gJ(M:Side)(f:Fr)(F:Side)(e:Nat):Prop:=
 if f.kind=2 then(if M.next<=(f.ranges.getD 0 (0,0)).2 then F=M/\e=11 else M.sU f.ranges F/\e=0)else(F,e)=M.take f
def mJ:Side->List Fr->Side->Nat->Prop
 |M,[],M1,e=>M1=M/\e=0
 |M,f::t,M1,e=>∃G F,M.gJ f G F/\if F=0 then mJ G t M1 e else M1={G with why:=F}/\e=F
def Side.iQ(M:Side)(n:Nat)(fs:List Fr)(F:Side)(e:Nat):Prop:=
 if M.came.has n then F=M/\e=0 else mJ {M with came:=M.came.add 8 n n,answer:=M.answer||wants fs} fs F e
theorem EH{A B A':Side}{e:Nat}(U:dD A)(hB:dD B)(h1:bn A B)(O:bn B A)(F:Bd A)(K:Bd B)(f:Fr)(H:lV B A f)(h:A.gJ f A' e):e=0/\Stp A B A'/\Bd A'/\A'.next=A.next/\A'.aM=A.aM:=by
 unfold Side.gJ at h
 have I:∀(l:List Fr) (M:Side),(l.foldl Side.bookC M).next=M.next/\(l.foldl Side.bookC M).aM=M.aM:=fun l=>by
  induction l with
  |nil=>exact fun M=>⟨rfl,rfl⟩
  |cons f t V=>
   intro M
   have hb:(M.bookC f).next=M.next/\(M.bookC f).aM=M.aM:=by
    unfold Side.bookC
    repeat' split
    all_goals exact⟨rfl,rfl⟩
   exact⟨(V _).1.trans hb.1,(V _).2.trans hb.2⟩
 by_cases k2:f.kind=2
 ·rw[if_pos k2]at h
  have hr:(f.ranges.getD 0 (0,0)).2<A.next:=by
   rcases H with⟨_,_,h⟩|⟨h,_⟩|⟨h,_⟩|⟨h,_⟩
   ·exact h
   ·rw[k2]at h;cases h
   ·rw[k2]at h;cases h
   ·rw[k2]at h;cases h
  rw[if_neg (by omega)]at h;obtain⟨h,rfl⟩:=h;refine⟨rfl,LY U h1 O _ h,Pn F hr h,?_⟩;obtain⟨lp,lq,_,_,rfl⟩:=h;exact I _ _
 ·rw[if_neg k2]at h;obtain⟨t1,t2⟩:=JU U hB h1 O f H;have X:A'=(A.take f).1:=congrArg DT h;have Z:e=(A.take f).2:=congrArg Prod.snd h;rw[X,Z];refine⟨t1,t2,?_⟩;unfold Side.take;rw[if_neg k2]
  rcases H with⟨G,_⟩|⟨G,hs,hs8,hd⟩|⟨G,hl⟩|⟨G,hs,hs8,hl⟩
  ·exact absurd G k2
  ·rw[if_pos G];split
   ·exact⟨F,rfl,rfl⟩
   ·split
    ·exact⟨F,rfl,rfl⟩
    ·exact⟨F.dA _ _ (Pp (F.i _) f (Am hd.b (K.o _).b)),rfl,rfl⟩
  ·have:f.limit<=aZ:=Am hl K.g.2.1;rw[if_neg (by rw[G];decide),if_neg (by rw[G];decide),if_neg (by rw[G];decide),if_neg (by rw[G];decide),if_pos G];exact⟨⟨F.o,F.i,F.g,Nat.max_le.2 ⟨F.lm,this⟩,F.mt,F.wy,F.ls,F.ky,F.wl,F.ll,F.nm,F.cm,F.tk⟩,rfl,rfl⟩
  ·rw[if_neg (by rw[G];decide),if_neg (by rw[G];decide),if_neg (by rw[G];decide),if_neg (by rw[G];decide),if_neg (by rw[G];decide),if_pos G];exact⟨F.bf _ _ ⟨(F.o _).b,(F.o _).a,(F.o _).c⟩,rfl,rfl⟩
theorem vU:∀(fs:List Fr) {A B A':Side} {e:Nat},dD A->dD B->bn A B->bn B A->Bd A->Bd B->(∀f∈fs,lV B A f)->mJ A fs A' e->e=0/\Stp A B A'/\Bd A'/\A'.next=A.next/\A'.aM=A.aM
 |[],A,B,A',e,hA,hB,h1,h2,bA,bB,_,h=>by
  obtain⟨rfl,rfl⟩:=h;exact⟨rfl,iE hA h1 h2,bA,rfl,rfl⟩
 |f::t,A,B,A',e,hA,hB,h1,h2,bA,bB,hf,h=>by
  obtain⟨K,O,r,h⟩:=h;obtain⟨rfl,s,b,n,m⟩:=EH hA hB h1 h2 bA bB f (hf f (by simp)) r;rw[if_pos rfl]at h;obtain⟨F,I,b2,n2,H⟩:=vU t s.loc hB s.ab s.ba b bB (fun g G=>(hf g (by simp[G])).mono (z_.refl _) s.le) h;exact⟨F,s.trans I,b2,n2.trans n,H.trans m⟩
theorem EI{A B A':Side}{e:Nat}(H:dD A)(hB:dD B)(h1:bn A B)(G:bn B A)(F:Bd A)(I:Bd B)(n:Nat)(fs:List Fr)(V:n<B.next)(hm:B.next<=aZ)(O:∀f∈fs,lV B A f)(h:A.iQ n fs A' e):e=0/\Stp A B A'/\Bd A'/\A'.next=A.next/\A'.aM=A.aM:=by
 unfold Side.iQ at h;split at h
 ·obtain⟨rfl,rfl⟩:=h;exact⟨rfl,iE H h1 G,F,rfl,rfl⟩
 ·have s:=Ea H h1 G n V (A.answer||wants fs)
  obtain⟨K,Z,b2,n2,X⟩:=vU fs s.loc hB s.ab s.ba (A:={A with came:=A.came.add 8 n n,answer:=A.answer||wants fs})
   ⟨F.o,F.i,F.g,F.lm,F.mt,F.wy,F.ls,F.ky,F.wl,F.ll,F.nm,J6 F.cm n (by omega),F.tk⟩ I (fun g U=>(O g U).mono (z_.refl _) s.le) h
  exact⟨K,s.trans Z,b2,n2,X⟩
theorem J7{A:Side}(h:Bd A)(k:Nat)(b:List UInt8):Bd (A.bf k ((A.out k).send b).1):=by
 refine h.bf _ _ ?_;unfold Ot.send;split
 ·exact h.o k
 ·split
  ·exact h.o k
  ·rename_i F;exact⟨by show((A.out k).bytes++b).length<=2048;rw[fB];omega,(h.o k).a,(h.o k).c⟩
theorem LZ{A:Side}(h:Bd A)(k:Nat):Bd (A.bf k (A.out k).finish.1):=by
 refine h.bf _ _ ?_;unfold Ot.finish;split
 ·exact h.o k
 ·exact⟨(h.o k).b,(h.o k).a,(h.o k).c⟩
theorem EJ{A:Side}(h:Bd A):Bd A.ticks:=⟨h.o,h.i,h.g,h.lm,h.mt,h.wy,h.ls,h.ky,h.wl,h.ll,h.nm,h.cm,fun x F=>qa3 (h.tk x F)⟩
theorem UA{A:Side}(h:Bd A)(k:Nat)(most:Int):Bd (A.dA k ((A.inn k).rd most).2):=h.dA _ _ (XC (h.i k) most)
theorem XD(aM window total:Nat)(K:64<=aM/\aM<=400)(O:window<=4096)(ht:total<=4096):Bd (Side.new aM window total):=by
 have I:uN ⟨0,[]⟩:=⟨rfl,trivial,fun r H=>by cases H⟩;refine⟨fun k=>?_,fun k=>?_,⟨ht,Am ht (by decide),sQ _,Am ht (by decide)⟩,Am ht (by decide),K,(fun x G=>by cases G),(fun x G=>by cases G),List.Pairwise.nil,sQ _,sQ _,sQ _,⟨trivial,(fun r H=>by cases H),sQ _,sQ _⟩,(fun x G=>by cases G)⟩
 ·show OtB ((tT 8 (Ot.new window)).getD k su)
  by_cases F:k<8
  ·rw[fA,E8,if_pos F];exact⟨sQ _,I,I⟩
  ·rw[fA,E8,if_neg F];exact YS
 ·show Bb ((tT 8 (bU.new window)).getD k uH)
  by_cases F:k<8
  ·rw[fA,E8,if_pos F];exact Cz _ O
  ·rw[fA,E8,if_neg F];exact Cz 0 (by decide)
end Go.Proofs.YtphbledmopchnaaGreatDoor.Sd
namespace Go.Proofs.YtphbledmopchnaaGreatDoor.Sd
open Go.RowKit Go.Lib Mm Tryz
theorem Gy.new{wP:Own}{s:Nat}{wW:World}{S bw bl bi ab:Nat}{D:Nat->Src}{p:Nat}{oZ aC:Own}{w w':World}{M:Side}{av:aP}{Q:List Nat}{vl:Value}{vs:aI}{pk:List (Nat×List Fr)}(h:Gy wP s wW S bw bl bi ab D p oZ w M av Q vl vs pk)(K:Kp [] oZ aC w w'):Gy wP s wW S bw bl bi ab D p aC w' M av Q vl vs pk:=by
 obtain⟨v,hq⟩:=h.qz;exact⟨⟨v,hq.new K⟩,h.lq,h.ql,h.gd.kp K (by simp),h.li.kp K (by simp),h.ps.kp K (by simp),h.kp.trans (K.mono (by simp))⟩
theorem Gy.app{wP:Own}{s:Nat}{wW:World}{S bw bl bi ab:Nat}{D:Nat->Src}{p:Nat}{oZ aC:Own}{w w':World}{M:Side}{av:aP}{Q:List Nat}{vl F:Value}{vs:aI}{pk:List (Nat×List Fr)}(h:Gy wP s wW S bw bl bi ab D p oZ w M av Q vl vs pk)(v:Value)(n:Nat)(fs:List Fr)(hb:Buf w v (aK n fs))(U:∀k,v.ownBlock=some k->oZ k=s+47/\k<w.heap.size)(hd:∀k,v.ownBlock=some k->∀j,j<vs.length->(vs.getD j undef).ownBlock≠some k)(K:Kp [s+52] oZ aC w w')(I:GT aC (s+52) 60 1 w' F (vs.length+1) (vs++[v])):
  Gy wP s wW S bw bl bi ab D p aC w' M av Q F (vs++[v]) (pk++[(n,fs)]):=by
 obtain⟨X,hq⟩:=h.qz;obtain⟨l,vc,O,_⟩:=hq.env;have hs:=O.s0
 have G:∀x∈[s+52],x∈Tb s:=fun x V=>f_.2 (by simp at V;omega)
 have H:Qi oZ s w (vs++[v]) (UZ (pk++[(n,fs)])):=by
  unfold UZ;rw[qae];exact h.ps.add v _ hb U hd
 refine⟨⟨X,hq.qs.kp K G (by simp) (by simp),hq.z.kp (K.mono G),hq.env.kp K (by simp;omega) (by simp) (by simp)⟩,h.lq,h.ql,h.gd.kp K (by simp),?_,H.kp K (by simp),h.kp.trans (K.mono G)⟩;rw[fB];exact I
theorem MR{w:World}{v:Value}{b:List UInt8}(h:Buf w v b):∃a n c,v=.slice a n c:=by
 rcases h with⟨rfl,_⟩|⟨g,cap,cs,rfl,_⟩<;>exact⟨_,_,_,rfl⟩
def lf(M:Side):aP:=if M.answer then M.came.rs.reverse else[]
def PkQ(oZ:Own)(s:Nat)(w:World)(S bw bl bi:Nat)(G:Side->Prop)(P:Side->aP->Prop)(e:Ending)(w':World):Prop:=
 ∃F vl vs aC l' H bH,G F/\e=.returned vl/\bT aC s w' S l' (dJ ((lf F).length+14) {F with answer:=false} (lf F) q0 []).1 bw bl bi H/\Gd aC w'/\
  GT aC (s+52) 60 1 w' vl vs.length vs/\Qi aC s w' vs (UZ (dJ ((lf F).length+14) {F with answer:=false} (lf F) q0 []).2)/\Kp (Tb s) oZ aC w w'/\P (dJ ((lf F).length+14) {F with answer:=false} (lf F) q0 []).1 bH
theorem IZ(oZ:Own)(s:Nat)(S:Nat)(l:aI)(M:Side)(bw bl bi:Nat)(vc:Value)(w:World)(h:bT oZ s w S l M bw bl bi vc)(hg:Gd oZ w)(hy:M.why=0)(LR:Side->Prop)(P:Side->aP->Prop)(μ:Side->aP->Nat)(hP:PkP P μ)(WV:Calls prog 154 #[ay S 0] w fun e w'=>e=.returned (.tuple #[])/\∃G aC l' V,LR G/\bT aC s w' S l' G bw bl bi V/\Kp (T0 s) oZ aC w w')(h7:∀oZ W l G vc,LR G->bT oZ s W S l G bw bl bi vc->Calls prog 200 #[ay S 0] W fun e w'=>Ku oZ s W S bw bl bi {G with answer:=false} (lf G) e w')(hp:∀G,LR G->P {G with answer:=false} (lf G)/\μ {G with answer:=false} (lf G)<(lf G).length+14/\(lf G).length<=1000):
  Calls prog 114 #[ay S 0] w fun e w'=>PkQ oZ s w S bw bl bi LR P e w':=by
 have HO:=au (qj S M.why w (by rw[h.blk.cell];exact h.cells.kM));rw[hy]at HO
 have HL:Hid (Calls prog 154 #[ay S 0] w fun e w'=>e=.returned (.tuple #[])/\Hid (∃G,LR G/\∃aC l' V,bT aC s w' S l' G bw bl bi V/\Kp (Tb s) oZ aC w w')):=by
  refine WV.mono ?_;rintro e w' ⟨rfl,G,aC,l',V,h1,h2,K⟩;exact⟨rfl,G,h1,aC,l',V,h2,K.mono fun z hz=>f_.2 (by have:=bN.1 hz;omega)⟩
 have HS:Hid (∀w1 G,LR G->(∃aC l' V,bT aC s w1 S l' G bw bl bi V/\Kp (Tb s) oZ aC w w1)->Calls prog 155 #[ay S 0] w1 fun e w'=>∃p,e=.returned (ay p 0)/\Hid (∃ab aC D v,Km aC s w' S bw bl bi ab D p v q0 {G with answer:=false} (lf G)/\Kp (Tb s) oZ aC w w')):=by
  rintro w1 G h1 ⟨aC,l',V,h2,K⟩;refine(IY aC s S l' G {G with answer:=false} bw bl bi V (lf G) w1 h2 (fun oZ W hS=>h7 oZ W l' G V h1 hS)).mono ?_;rintro e w' ⟨p,rfl,ab,dx,D,v,h4,h5⟩;exact⟨p,rfl,ab,dx,D,v,h4,K.trans h5⟩
 have HG:=au hg;have HP:=au hP;have x0:=au hp;clear h hg hP hp WV h7 hy;go_enter func114,ntmps114
 go_wp2_with (first
  |(go_at_call 137;refine HO.out.mono ?_;rintro e w' ⟨rfl,x6⟩;have hu:=x6.symm;subst hu)
  |(go_at_call 154;refine HL.out.mono ?_;rintro e w1 ⟨rfl,JZ⟩)
  |(go_at_call 155;obtain⟨G,ha,hx⟩:=JZ.out;refine(HS.out w1 G ha hx).mono ?_;rintro e w2 ⟨p,rfl,HQ⟩;have hm:=au ha;clear ha hx JZ)
  |go_in)
 obtain⟨ab,dx,D,v,hq,K2⟩:=HQ.out
 have x9:0<s:=by obtain⟨l,vc,hS,_⟩:=hq.env;exact hS.s0
 have h0:Gy oZ s w S bw bl bi ab D p dx w2 {G with answer:=false} (lf G) q0 nZ [] []:=⟨⟨v,hq⟩,lq0,by decide,HG.out.kp K2 (fun z=>by have:=f_.1 z;omega),.inl ⟨rfl,rfl,rfl⟩,⟨rfl,(fun j hj=>by cases hj),fun i j _ hj=>by cases hj⟩,K2⟩;have H0:=au h0;clear h0 hq HQ;obtain⟨X,hX⟩:∃X,X=dJ ((lf G).length+14) {G with answer:=false} (lf G) q0 []:=⟨_,rfl⟩;have HX:=au hX
 have oo:Hid (∀aC l' V bH vl vs w',bT aC s w' S l' X.1 bw bl bi V->Gd aC w'->GT aC (s+52) 60 1 w' vl vs.length vs->Qi aC s w' vs (UZ X.2)->Kp (Tb s) oZ aC w w'->P X.1 bH->PkQ oZ s w S bw bl bi LR P (.returned vl) w'):=by
  intro aC l' V bH vl vs w' g1 g2 g3 g4 g5 g6;rw[hX]at g1 g4 g6;exact⟨G,vl,vs,aC,l',V,bH,hm.out,rfl,g1,g2,g3,g4,g5,g6⟩
 obtain⟨a1,a2,a3⟩:=x0.out G hm.out;have HA:=au (And.intro a1 (And.intro a2 a3));clear a1 a2 a3 hX K2
 go_loopg [4] (μ {G with answer:=false} (lf G)) (fun kx s4 wr=>∃(nP:Own) (M:Side) (av:aP) (Q:List Nat) (vs:aI) (pk:List (Nat×List Fr)),
  Hid (Gy oZ s w S bw bl bi ab D p nP wr M av Q s4 vs pk/\P M av/\∃n,μ M av<n/\pk.length+n<=2000/\dJ n M av Q pk=X)/\Hid (μ M av<=kx))
 case atStart=>exact⟨dx,{G with answer:=false},lf G,q0,[],[],(⟨H0.out,HA.out.1,(lf G).length+14,HA.out.2.1,by have:=HA.out.2.2;simp;omega,HX.out.symm⟩:_/\_),nI _⟩
 case round=>
  obtain⟨nP,M,av,Q,vs,pk,HI,HK⟩:=hrel;obtain⟨zR,U,n,hn,hl,I⟩:=HI.out;obtain⟨e1,e2,e3,e4,_⟩:=HP.out.nm M av U;obtain⟨v0,he⟩:=zR.qz;obtain⟨sl,xd,hS,_⟩:=he.env
  have c0:wr.cell? (aj S 0)=some (iZ M.aM):=by rw[hS.blk.cell];exact hS.cells.c0
  have c229:wr.cell? (aj S 229)=some (uZ M.next):=by rw[hS.blk.cell];exact hS.cells.c229
  have HR:Hid (Calls prog 157 #[iZ M.aM,uZ M.next] wr.drew fun e w'=>e=.returned (iZ ((M.aM:Int)-((Num.bytes M.next).length:Int)-4))/\aD wr w'):=by
   refine(OT M.aM M.next wr.drew e1 (by omega)).mono ?_;rintro e w' ⟨rfl,hb⟩;exact⟨rfl,hb.os,hb.tape,hb.output,hb.size,hb.block⟩
  obtain⟨m,rfl⟩:∃m,n=m+1:=⟨n-1,by omega⟩;unfold dJ at I
  by_cases Z:(fill M av Q M.room).2.2.2=[]
  ·rw[if_pos Z]at I
   have HF:Hid (∀H,aD wr H->Calls prog 156 #[ay p 0,(iZ ((M.aM:Int)-((Num.bytes M.next).length:Int)-4))] H fun e w'=>e=.returned nZ/\Hid (PkQ oZ s w S bw bl bi LR P (.returned u4) w')):=fun H O=>by
    have K:=zR.new (Kp.below O);refine(K.fill U HP.out).mono ?_;rintro e w' ⟨Kl,v4,vl,vt,L,rfl,hL,F,h8⟩
    have x3:L=[]:=by rw[Z]at hL;exact List.map_eq_nil_iff.1 hL
    obtain⟨l5,x7,ho,_⟩:=F.env
    have x4:(fill M av Q M.room).1=X.1:=by rw[<-I]
    rw[x4]at ho h8;refine⟨by rw[F.nl x3],oo.out Kl l5 x7 _ u4 vs w' ho (K.gd.kp F.kp fun z=>by have:=kX.1 z;omega) (K.li.kp F.kp fun z=>by have:=kX.1 z;omega) ?_ (K.kp.trans (F.kp.mono (WT s))) h8⟩;rw[<-I]
    exact K.ps.kp F.kp fun z=>by have:=kX.1 z;omega
   have q1:=yc;clear zR U I he hS HI
   go_wp2_with fail
   go_region_with (first|(go_at_call 157;refine HR.out.mono ?_;rintro e H ⟨rfl,O⟩)|(go_at_call 156;refine(HF.out H O).mono ?_;rintro e w4 ⟨rfl,HE⟩))
   all_goals(go_wp2;go_ret;exact HE.out)
  ·rw[if_neg Z]at I;obtain⟨b1,b2,b3,b4,b5,b6⟩:=HP.out.pk M av Q U zR.lq Z
   have HF:Hid (∀H,aD wr H->Calls prog 156 #[ay p 0,(iZ ((M.aM:Int)-((Num.bytes M.next).length:Int)-4))] H fun e w'=>∃g fn fc,e=.returned (aS g fn fc)/\Hid (∃nP,Gy oZ s w S bw bl bi ab D p nP H M av Q u4 vs pk/\yX nP s H S bw bl bi ab D p P (Sd.fill M av Q M.room) (.returned (aS g fn fc)) w')):=fun H O=>by
    have K:=zR.new (Kp.below O);refine(K.fill U HP.out).mono ?_;intro e w' hQ;obtain⟨Kl,v4,vl,vt,L,rfl,hL,F,h8⟩:=hQ
    have x8:0<L.length:=by
     cases L with
     |nil=>exact absurd hL.symm Z
     |cons a t=>simp
    have x5:=F.fr
    rcases x5 with⟨_,h2,_⟩|⟨g,cap,cs,rfl,_⟩
    ·omega
    ·exact⟨g,_,cap,rfl,nP,K,Kl,v4,_,vt,L,rfl,hL,F,h8⟩
   have hw:Hid (∀H w4 fl,(∃nP,Gy oZ s w S bw bl bi ab D p nP H M av Q u4 vs pk/\yX nP s H S bw bl bi ab D p P (Sd.fill M av Q M.room) (.returned fl) w4)->Calls prog 158 #[ay S 0,fl] w4 fun e w5=>∃va vn vc,e=.returned (.slice va vn vc)/\Hid (∃v6 w6 gq,(∀ty,(Builtin.append_ #[131,131] ty #[u4,aS w5.heap.size 1 1]).run prog (w5.alloc (.cells #[.slice va vn vc] 60))=.ok v6 w6)/\Gy oZ s w S bw bl bi ab D p gq w6 ((Sd.fill M av Q M.room).1.packet (Sd.fill M av Q M.room).2.2.2) (Sd.fill M av Q M.room).2.1 (Sd.fill M av Q M.room).2.2.1 v6 (vs++[.slice va vn vc]) (pk++[(M.next,(Sd.fill M av Q M.room).2.2.2)]))):=by
    rintro H w4 fl ⟨nP,K,h4⟩;refine(K.packet U HP.out Z fl h4).mono ?_;rintro e w5 ⟨v,rfl,_,jY,h5,h9,hc⟩;obtain⟨va,vn,vc,rfl⟩:=MR h9;refine⟨va,vn,vc,rfl,?_⟩;have hr:aD w5 (w5.alloc (.cells #[.slice va vn vc] 60)):=(Below.refl _ w5).alloc (nI _) _;have B5:aA (w5.alloc (.cells #[.slice va vn vc] 60)) w5.heap.size 60 [.slice va vn vc]:=aA.new w5 60 _;have h6:=h5.new (Kp.below hr)
    have xa:vs.length<=2000:=by have:=h6.ps.1;unfold UZ at this;rw[WJ]at this;omega
    obtain⟨v6,w6,gq,run,hG,K6⟩:=bW qap h6.li (aj w5.heap.size 0) 1 1 [.slice va vn vc] rfl (fun z hz=>by rw[uj.1 hz];rfl) (fun j y hy=>by
     have e:(aj w5.heap.size 0).add j=(aj w5.heap.size j):=by rw[Addr.add_lit,qak]
     rw[e,B5.cell,hy]) (by omega)
    exact⟨v6,w6,gq,run,h6.app _ _ _ (h9.alloc _) (fun k hk=>⟨(hc k hk).1,qa1 (hc k hk).2.1 hr.size⟩) (fun k hk=>(hc k hk).2.2) K6 hG⟩
   have HB:=au (And.intro b1 (And.intro b2 (And.intro hn (And.intro hl I))));clear zR U I he hS HI b1 b2 b3 b4 b5 b6
   go_wp2_with fail
   go_region_with (first|(go_at_call 157;refine HR.out.mono ?_;rintro e H ⟨rfl,O⟩)|(go_at_call 156;refine(HF.out H O).mono ?_;rintro e w4 ⟨fg,fn,fc,rfl,HE⟩))
   all_goals(
    have q2:=vT w4 (aj fg 0) fn fc
    go_wp2_with (first
     |(go_at_call 158;refine(hw.out H w4 _ HE.out).mono ?_;rintro e w5 ⟨va,vn,vc,rfl,hf⟩;obtain⟨v6,w6,gq,Qg,SY⟩:=hf.out;have hv:=au SY;clear hf SY)
     |(at_builtin;refine Lib.wpList_append_run _ rfl _ _ _ _ rfl _ _ rfl rfl _ _ (Qg _) ?_)
     |go_in)
    go_roundg (μ ((fill M av Q M.room).1.packet (fill M av Q M.room).2.2.2) (fill M av Q M.room).2.1)
    case measure=>have h1:=HK.out;have h2:=HB.out.2.1;omega
    case rel=>
     obtain⟨h1,h2,K,h4,h5⟩:=HB.out
     exact⟨gq,_,_,_,_,_,(⟨hv.out,h1,m,by omega,by rw[fB];simp;omega,h5⟩:_/\_),(nI _:μ ((fill M av Q M.room).1.packet (fill M av Q M.room).2.2.2) (fill M av Q M.room).2.1<=_)⟩)
structure PkF (aM:Nat) (x:Nat×List Fr):Prop where
 sn:nY x.1 x.2=true
 sz:(bV x.1 x.2).length+4<=aM
 ln:x.2.length<=400
 ne:x.2≠[]
 fs:∀f∈x.2,FrG f
theorem Br{B:Side}{N:Nat}(U:N<aZ):∀(n:Nat) {A:Side} (av:aP) (Q:List Nat) (l:List (Nat×List Fr)),PP B N A av->Lq Q->(∀x∈l,PkF A.aM x)->
  (∀x∈(dJ n A av Q l).2,PkF A.aM x)/\(∃bH,PP B N (dJ n A av Q l).1 bH)/\(dJ n A av Q l).1.aM=A.aM
 |0,A,av,Q,l,h,_,hl=>⟨hl,⟨av,h⟩,rfl⟩
 |n+1,A,av,Q,l,h,hQ,hl=>by
  obtain⟨r0,r1⟩:=Di h.bd;have H:(fill A av Q A.room).1.next=A.next:=oQ _ av Q [] A.room [];obtain⟨m,t⟩:=mW (Q.length+A.room.toNat+1) av Q [] A.room [] h.loc h.ab h.ba h.bd h.qq h.dn h.l8 h.hi hQ (fun x I=>by simp at I) r0;have F:FlB B A av A.room [] (fill A av Q A.room) m:=t;clear t
  have hp:=fun G=>Qq (Q:=Q) h U hQ G
  unfold dJ;generalize fill A av Q A.room=x at F H hp;obtain⟨A',bH,Z,fs⟩:=x;simp only at F H hp ⊢;have O:A'.aM=A.aM:=F.mt;have wy:A'.aF=A.aF:=F.wy;have ln:bH.length<=av.length:=F.ln;split
  ·refine⟨hl,⟨bH,F.loc,F.qq,F.ab,F.ba,F.bd,F.dn,by have:=h.l8;omega,F.hi,?_⟩,O⟩;have:=h.nx;show A'.next+mu A' bH<=N;unfold mu at this ⊢;rw[wy,H];omega
  ·rename_i G;obtain⟨p1,p2,p3,p4,p5,p6⟩:=hp G;have K:(A'.packet fs).aM=A.aM:=O
   obtain⟨V,q2,X⟩:=Br U n bH Z (l++[(A.next,fs)]) p1 F.q (fun x I=>by
    rw[K]
    rcases R3.1 I with I|I
    ·exact hl x I
    ·rw[uj.1 I];exact⟨p3,p4,p5,G,p6⟩)
   rw[K]at V X;exact⟨V,q2,X⟩
theorem Zg(M:Side)(f:Fr):(M.dM f).next=M.next/\(M.dM f).came=M.came/\(M.dM f).aM=M.aM/\(M.dM f).tick=M.tick:=by
 unfold Side.dM
 repeat' split
 all_goals exact⟨rfl,rfl,rfl,rfl⟩
theorem Qt:∀(l:List Fr) (M:Side),(l.foldl Side.dM M).next=M.next/\(l.foldl Side.dM M).came=M.came/\(l.foldl Side.dM M).aM=M.aM/\(l.foldl Side.dM M).tick=M.tick
 |[],M=>⟨rfl,rfl,rfl,rfl⟩
 |f::t,M=>by
  obtain⟨a,b,c,d⟩:=Qt t (M.dM f);obtain⟨F,G,H,I⟩:=Zg M f;exact⟨a.trans F,b.trans G,c.trans H,d.trans I⟩
theorem rH{M F:Side}(h:M.iG F):F.next=M.next/\F.came=M.came/\F.aM=M.aM/\F.tick=M.tick:=by
 unfold Side.iG at h;split at h
 ·obtain⟨lp,_,rfl⟩:=h;exact Qt _ _
 ·rw[h];exact⟨rfl,rfl,rfl,rfl⟩
theorem XY{M:Side}(h:Bd M):(lf M).length<=8:=by
 unfold lf;split
 ·rw[List.length_reverse];exact h.cm.ln
 ·simp
theorem Qu(M:Side)(f:Fr):(M.dM f).nq=M.nq.dM f/\(M.dM f).queue=M.queue:=by
 unfold Side.dM
 repeat' split
 all_goals exact⟨rfl,rfl⟩
theorem Bu:∀(l:List Fr) (M:Side),(l.foldl Side.dM M).nq=l.foldl Side.dM M.nq/\(l.foldl Side.dM M).queue=M.queue
 |[],_=>⟨rfl,rfl⟩
 |f::t,M=>by
  obtain⟨a,b⟩:=Bu t (M.dM f);obtain⟨c,d⟩:=Qu M f;exact⟨by show(t.foldl Side.dM (M.dM f)).nq=t.foldl Side.dM (M.nq.dM f);rw[a,c],b.trans d⟩
theorem Qv{M G:Side}(h:M.iG G):M.nq.iG G.nq/\G.queue=M.queue:=by
 unfold Side.iG at h ⊢
 by_cases H:M.aF.any M.dN=true
 ·rw[if_pos H]at h;obtain⟨lp,p,rfl⟩:=h;obtain⟨a,b⟩:=Bu (frames lp) M.qH;refine⟨?_,b⟩;have F:M.nq.aF.any M.nq.dN=true:=H;rw[if_pos F];exact⟨lp,p,a⟩
 ·rw[if_neg H]at h;subst h;have F:¬(G.nq.aF.any G.nq.dN=true):=H;rw[if_neg F];exact⟨rfl,rfl⟩
theorem zi{A B G:Side}(V:dD A.nq)(hq:QQ A)(h1:bn A B)(U:bn B A)(O:Bd A)(h:A.iG G):PP B (A.next+24) {G with answer:=false} (lf G)/\mu {G with answer:=false} (lf G)<(lf G).length+14/\(lf G).length<=8:=by
 obtain⟨X,eq⟩:=Qv h;have I:=Bc (A:=A.nq) V (h1.qa _ _) (U.qb _ _) X;have F:=EG O h;have K:=xR I.loc I.ab I.ba false;obtain⟨k1,k2,Z,_⟩:=rH h;have hl:=XY F;refine⟨⟨K.loc,⟨by show∀f∈G.queue,_;rw[eq];exact hq.q,by show G.queue.length<=_;rw[eq];exact hq.l⟩,K.ab.qa G.queue G.qv,K.ba.qb G.queue G.qv,⟨F.o,F.i,F.g,F.lm,F.mt,F.wy,F.ls,F.ky,F.wl,F.ll,F.nm,F.cm,F.tk⟩,?_,hl,fun r H=>?_,?_⟩,?_,hl⟩
 ·unfold lf;split
  ·exact Dn.rev F.cm.so F.cm.hi
  ·trivial
 ·unfold lf at H;split at H
  ·exact I.ba.came r (List.mem_reverse.1 H)
  ·simp at H
 ·show G.next+mu _ _<=_;unfold mu;rw[k1];omega
 ·unfold mu;omega
def Side.kY(M M':Side)(pk:List (Nat×List Fr)):Prop:=∃F,M.iG F/\dJ ((lf F).length+14) {F with answer:=false} (lf F) q0 []=(M',pk)
structure PkO (A B A':Side) (pk:List (Nat×List Fr)):Prop where
 Ub:Stp A B A'
 bd:Bd A'
 mt:A'.aM=A.aM
 next:A'.next=A.next+pk.length
 top:A'.next<=A.next+24
 nm:∀j,j<pk.length->(pk.getD j (0,[])).1=A.next+j
 ok:∀x∈pk,PkF A.aM x/\x.1<A'.next/\∀f∈x.2,lV A' B f
theorem EX:∀(m:List (List Fr)) (n:Nat),(nums n m).length=m.length
 |[],_=>rfl
 |_::t,n=>by simp[nums,EX t (n+1)]
theorem EY:∀(m:List (List Fr)) (n j:Nat),j<m.length->(nums n m).getD j (0,[])=(n+j,m.getD j [])
 |[],_,j,h=>by simp at h
 |_::t,n,0,_=>rfl
 |_::t,n,j+1,h=>by
  have:=EY t (n+1) j (by simpa using h);simp only[nums,List.getD_cons_succ];rw[this];congr 1;omega
theorem zk:∀(m:List (List Fr)) (n:Nat) (x:Nat×List Fr),x∈nums n m->x.2∈m/\x.1<n+m.length
 |[],_,_,h=>by simp[nums]at h
 |a::t,n,x,h=>by
  rcases qah.1 h with h|h
  ·rw[h];simp
  ·obtain⟨p,q⟩:=zk t (n+1) x h;exact⟨by simp[p],by simp;omega⟩
theorem zl:∀(n:Nat) (A:Side) (av:aP) (Q:List Nat) (l:List (Nat×List Fr)),∃m,(dJ n A av Q l).2=l++nums A.next m/\(dJ n A av Q l).1.next=A.next+m.length
 |0,A,av,Q,l=>⟨[],by simp[dJ,nums],rfl⟩
 |n+1,A,av,Q,l=>by
  have F:(fill A av Q A.room).1.next=A.next:=oQ _ av Q [] A.room [];unfold dJ;split
  ·exact⟨[],by simp[nums],F⟩
  ·obtain⟨m,e,nx⟩:=zl n ((fill A av Q A.room).1.packet (fill A av Q A.room).2.2.2) (fill A av Q A.room).2.1 (fill A av Q A.room).2.2.1 (l++[(A.next,(fill A av Q A.room).2.2.2)])
   have G:((fill A av Q A.room).1.packet (fill A av Q A.room).2.2.2).next=A.next+1:=by show(fill A av Q A.room).1.next+1=_;rw[F]
   rw[G]at e nx;exact⟨(fill A av Q A.room).2.2.2::m,by rw[e];simp[nums],by rw[nx,wz];omega⟩
structure PkW (A A':Side) (pk:List (Nat×List Fr)):Prop where
 bd:Bd A'
 mt:A'.aM=A.aM
 next:A'.next=A.next+pk.length
 top:A'.next<=A.next+24
 nm:∀j,j<pk.length->(pk.getD j (0,[])).1=A.next+j
 ok:∀x∈pk,PkF A.aM x/\x.1<A'.next
theorem zm{A B A':Side}{pk:List (Nat×List Fr)}(U:dD A.nq)(hq:QQ A)(h1:bn A B)(O:bn B A)(I:Bd A)(X:A.next+24<aZ)(h:A.kY A' pk):PkW A A' pk:=by
 obtain⟨F,hl,e⟩:=h;obtain⟨Z,V,h8⟩:=zi U hq h1 O I hl;obtain⟨k1,k2,H,_⟩:=rH hl;obtain⟨m,eq,nx⟩:=zl ((lf F).length+14) {F with answer:=false} (lf F) q0 [];obtain⟨f1,⟨bH,f2⟩,f3⟩:=Br X ((lf F).length+14) (lf F) q0 [] Z lq0 (fun x G=>by simp at G);rw[e]at eq nx f1 f2 f3
 replace eq:pk=nums F.next m:=by simpa using eq
 replace nx:A'.next=F.next+m.length:=nx
 have K:pk.length=m.length:=by rw[eq,EX]
 refine⟨f2.bd,f3.trans H,by rw[nx,k1,K],by have:A'.next+mu A' bH<=A.next+24:=f2.nx;omega,fun j hj=>?_,fun x G=>?_⟩
 ·rw[eq,EY m _ j (by omega),k1]
 ·rw[eq]at G;obtain⟨p,q⟩:=zk m _ x G;exact⟨by have:=f1 x (by rw[eq];exact G);rw[<-H];exact this,by rw[nx];exact q⟩
theorem Qw{A B A':Side}{pk:List (Nat×List Fr)}(F:dD A)(h1:bn A B)(K:bn B A)(U:Bd A)(hn:A.next+24<aZ)(h:A.kY A' pk):PkO A B A' pk:=by
 have W:=zm F.nq F.qq h1 K U hn h;obtain⟨I,hl,e⟩:=h;obtain⟨O,Z,h8⟩:=zi F.nq F.qq h1 K U hl;have H:=Bc F h1 K hl;have V:=xR H.loc H.ab H.ba false;obtain⟨m,o⟩:=AQ ((lf I).length+14) (lf I) q0 [] V.loc O.ab O.ba lq0 O.hi;rw[e]at o
 have eq:pk=nums I.next m:=by have:=o.eq;simpa using this
 refine⟨H.trans (V.trans o.Ub),W.bd,W.mt,W.next,W.top,W.nm,fun x G=>⟨(W.ok x G).1,(W.ok x G).2,fun f X=>o.ok _ ?_ f X⟩⟩;rw[eq]at G;exact(zk m _ x G).1
theorem Qx(M:Side)(f:Fr):(M.bookC f).tick=M.tick:=by
 unfold Side.bookC
 repeat' split
 all_goals rfl
theorem Kv(g:Side->Fr->Side)(F:∀A f,(g A f).tick=A.tick):∀(l:List Fr) (A:Side),(l.foldl g A).tick=A.tick
 |[],_=>rfl
 |f::t,A=>(Kv g F t (g A f)).trans (F A f)
theorem Qy{A A':Side}{l:aP}(h:A.sU l A'):A'.tick=A.tick:=by
 obtain⟨lp,lq,_,_,rfl⟩:=h;exact Kv _ Qx _ _
theorem U5(A:Side)(f:Fr)(F:f.kind≠2):(A.take f).1.tick=A.tick:=by
 unfold Side.take Side.Le;rw[if_neg F]
 repeat' split
 all_goals rfl
theorem Qz{A A':Side}{e:Nat}{f:Fr}(h:A.gJ f A' e):A'.tick=A.tick:=by
 unfold Side.gJ at h;split at h
 ·split at h
  ·rw[h.1]
  ·exact Qy h.1
 ·rename_i G;have F:A'=(A.take f).1:=congrArg DT h;rw[F];exact U5 A f G
theorem vW:∀(fs:List Fr) {A A':Side} {e:Nat},mJ A fs A' e->A'.tick=A.tick
 |[],A,A',e,h=>by obtain⟨rfl,_⟩:=h;rfl
 |f::t,A,A',e,h=>by
  obtain⟨F,G,r,h⟩:=h;have s:=Qz r;split at h
  ·exact(vW t h).trans s
  ·rw[h.1];exact s
theorem EZ{A A':Side}{n e:Nat}{fs:List Fr}(h:A.iQ n fs A' e):A'.tick=A.tick:=by
 unfold Side.iQ at h;split at h
 ·rw[h.1]
 ·have s:=vW fs h;exact s
theorem QA{A A':Side}{av bH:aP}{u:Nat}{room:Int}{f:Fr}(h:A.frame av u room=some (f,A',bH)):A'.tick=A.tick:=by
 unfold Side.frame at h;split at h
 ·split at h
  ·cases h
  ·have F:A=A':=congrArg (fun x=>x.2.1) (Option.some.inj h);rw[<-F]
 ·split at h
  ·obtain⟨y,_,e⟩:=mR.1 h;rw[<-show _=A' from congrArg (fun x=>x.2.1) e]
  ·split at h
   ·obtain⟨y,_,e⟩:=mR.1 h;rw[<-show _=A' from congrArg (fun x=>x.2.1) e];rfl
   ·split at h
    ·obtain⟨y,_,e⟩:=mR.1 h;rw[<-show _=A' from congrArg (fun x=>x.2.1) e];rfl
    ·split at h
     ·split at h
      ·cases h
      ·obtain⟨y,_,e⟩:=mR.1 h;rw[<-show _=A' from congrArg (fun x=>x.2.1) e]
     ·obtain⟨y,G,e⟩:=mR.1 h;rw[<-show _=A' from congrArg (fun x=>x.2.1) e];rfl
theorem qo:∀(n:Nat) (A:Side) (av:aP) (Q later:List Nat) (room:Int) (l:List Fr),(bO n A av Q later room l).1.tick=A.tick
 |0,_,_,_,_,_,_=>rfl
 |n+1,_,_,[],_,_,_=>rfl
 |n+1,A,av,u::Q,later,room,l=>by
  unfold bO
  by_cases F:A.waits av u=true
  ·simp only[F,if_true]
   cases hF:A.frame av u room with
   |none=>
    simp only;split
    ·exact qo n _ _ _ _ _ _
    ·rfl
   |some x=>
    obtain⟨f,G,H⟩:=x;exact(qo n _ _ _ _ _ _).trans (QA hF)
  ·simp only[F];exact qo n _ _ _ _ _ _
theorem Bv:∀(n:Nat) (A:Side) (av:aP) (Q:List Nat) (l:List (Nat×List Fr)),(dJ n A av Q l).1.tick=A.tick
 |0,_,_,_,_=>rfl
 |n+1,A,av,Q,l=>by
  have s:(fill A av Q A.room).1.tick=A.tick:=qo _ _ _ _ _ _ _;unfold dJ;split
  ·exact s
  ·exact(Bv n _ _ _ _).trans s
theorem QB{A A':Side}{pk:List (Nat×List Fr)}(h:A.kY A' pk):A'.tick=A.tick:=by
 obtain⟨F,hl,e⟩:=h;have s:=Bv ((lf F).length+14) {F with answer:=false} (lf F) q0 [];rw[e]at s;exact s.trans (rH hl).2.2.2
def Qn:Nat->List Nat
 |0=>q0
 |j+1=>jg (Qn j)
def FX:List Nat:=[0,8,16,17,18,19,20,21,22,23,24,25,26,27,28,29,30,31,32,40,41,42,43,44,45,46,47]
theorem Yn:∀j:Fin 27,(Qn j.val).head?=some (FX.getD j.val 0):=by decide +kernel
theorem ZL(j:Nat)(h:j<27):∃t,Qn j=FX.getD j 0::t:=by
 have:=Yn ⟨j,h⟩
 cases e:Qn j with
 |nil=>simp only[e]at this;cases this
 |cons a t=>simp only[e,List.head?_cons,Option.some.injEq]at this;exact⟨t,by rw[this]⟩
theorem Yo:Qn 27=[]:=by decide +kernel
structure KQ (M:Side):Prop where
 lo:M.outs.length=8
 gr:M.gr.waits M.free=false
 inn:∀k,k<8->(M.inn k).eZ=false
 nt:∀k,(M.out k).nt.given=false
 qk:∀f∈M.queue,f.kind=7
theorem KQ.same{M M':Side}(h:KQ M)(F:M'.outs=M.outs)(G:M'.ins=M.ins)(H:M'.gr=M.gr)(I:∀f∈M'.queue,f∈M.queue):KQ M':=
 ⟨by rw[F];exact h.lo,by unfold Side.free;rw[H,G];exact h.gr,fun k O=>by unfold Side.inn;rw[G];exact h.inn k O,fun k=>by unfold Side.out;rw[F];exact h.nt k,fun f K=>h.qk f (I f K)⟩
def oz(x:Int×Int)(f:Fr):Int×Int:=(if f.kind=7 then x.1-1 else x.1,if f.kind=4 then f.stream else x.2)
def NP:Int×Int->List Fr->Prop
 |_,[]=>True
 |x,f::t=>(f.kind=4->x.2<=f.stream)/\NP (oz x f) t
def FY:Int×Int->List (Nat×List Fr)->Prop
 |_,[]=>True
 |x,p::t=>NP x p.2/\¬(0<(p.2.foldl oz x).1/\0<=(p.2.foldl oz x).2)/\FY (p.2.foldl oz x) t
structure InU (j:Nat) (M:Side) (x:Int×Int):Prop where
 l:x.1=(M.queue.length:Int)
 s:0<=x.2->M.queue=[]
 p:18<j->M.queue=[]\/M.full=true
 k:x.2<0\/x.2+19<=(j:Int)
theorem NQ{o o':Ot}{k:Nat}{room:Int}{aB:Nat}{f:Fr}(h:o.next k room aB=some (f,o')):f.kind=4/\f.stream=(k:Int)/\o'.nt=o.nt:=by
 have e:=(vg h).1;refine⟨?_,?_,by rw[e];rfl⟩
 all_goals
  unfold Ot.next at h;simp only at h;split at h
  ·cases h
  ·rename_i g F;split at h
   ·cases h
   ·have G:=congrArg DT (Option.some.inj h);simp only at G;unfold kI at F;split at F
    ·cases F
    ·have H:=Option.some.inj F;rw[<-G,<-H];rfl
theorem Yp:∀j:Fin 18,FX.getD j.val 0=0\/FX.getD j.val 0=8\/(16<=FX.getD j.val 0/\FX.getD j.val 0<32):=by decide
theorem Yq:∀j:Fin 8,FX.getD (19+j.val) 0=40+j.val:=by decide
theorem KQ.quiet{M:Side}(h:KQ M)(j:Nat)(H:j<18):M.waits [] (FX.getD j 0)=false:=by
 have:=Yp ⟨j,H⟩;simp only at this;generalize FX.getD j 0=u at *;unfold Side.waits
 rcases this with rfl|rfl|⟨h1,G⟩
 ·rfl
 ·rw[if_neg (by omega),if_pos rfl,h.gr,qa0]
 ·rw[if_neg (by omega),if_neg (by omega)]
  by_cases F:u<24
  ·rw[if_pos F,h.inn _ (by omega),qa0]
  ·rw[if_neg F,if_pos G];unfold Nt.waits;rw[h.nt,Bool.false_and,qa0]
def FlU(M:Side)(x:Int×Int)(l:List Fr)(r:Side×aP×List Nat×List Fr):Prop:=
 ∃F ds,r.2.1=[]/\r.2.2.1=Qn F/\F<=27/\r.2.2.2=l++ds/\KQ r.1/\NP x ds/\InU F r.1 (ds.foldl oz x)/\r.1.aF=M.aF/\r.1.next=M.next
theorem Dx{j:Nat}{M:Side}{x:Int×Int}{l:List Fr}(H:j<=27)(F:KQ M)(G:InU j M x):FlU M x l (M,[],Qn j,l):=
 ⟨j,[],rfl,rfl,H,(He _).symm,F,trivial,G,rfl,rfl⟩
theorem RZ{M M':Side}{x:Int×Int}{l:List Fr}{f:Fr}{r:Side×aP×List Nat×List Fr}(h:FlU M' (oz x f) (l++[f]) r)(Z:f.kind=4->x.2<=f.stream)(e:M'.aF=M.aF)(F:M'.next=M.next):FlU M x l r:=by
 obtain⟨j',ds,h1,G,H,I,K,O,U,V,X⟩:=h;exact⟨j',f::ds,h1,G,H,by rw[I];simp,K,⟨Z,O⟩,U,V.trans e,X.trans F⟩
theorem zO:∀(n:Nat) (M:Side) (j:Nat) (room:Int) (l:List Fr) (x:Int×Int),j<=27->KQ M->InU j M x->FlU M x l (bO n M [] (Qn j) [] room l)
 |0,M,j,room,l,x,hj,hC,hI=>Dx hj hC hI
 |n+1,M,j,room,l,x,hj,hC,hI=>by
  by_cases X:j=27
  ·subst X
   have e:bO (n+1) M [] (Qn 27) [] room l=(M,[],Qn 27,l):=by rw[Yo];rfl
   rw[e];exact Dx hj hC hI
  obtain⟨t,ht⟩:=ZL j (by omega)
  have U:InU (j+1) M x->M.waits [] (FX.getD j 0)=false->FlU M x l (bO (n+1) M [] (Qn j) [] room l):=fun O F=>by
   have e:bO (n+1) M [] (Qn j) [] room l=bO n M [] (Qn (j+1)) [] room l:=by
    show _=bO n M [] (jg (Qn j)) [] room l;rw[ht]
    conv=>lhs;unfold bO
    simp only[F];rfl
   rw[e];exact zO n M (j+1) room l x (by omega) hC O
  have G:M.waits [] (FX.getD j 0)=true->yields (FX.getD j 0)=false->M.frame [] (FX.getD j 0) room=none->FlU M x l (bO (n+1) M [] (Qn j) [] room l):=fun F hy hF=>by
   have e:bO (n+1) M [] (Qn j) [] room l=(M,[],Qn j,l):=by
    rw[ht];unfold bO;simp only[F,if_true,hF,hy];rfl
   rw[e];exact Dx hj hC hI
  have I:∀f M',M.waits [] (FX.getD j 0)=true->M.frame [] (FX.getD j 0) room=some (f,M',[])->(f.kind=4->x.2<=f.stream)->M'.aF=M.aF->M'.next=M.next->KQ M'->InU j M' (oz x f)->FlU M x l (bO (n+1) M [] (Qn j) [] room l):=fun f M' F hF hf e1 e2 Z O=>by
   have e:bO (n+1) M [] (Qn j) [] room l=bO n M' [] (Qn j) [] (room-((aG f).length:Int)) (l++[f]):=by
    rw[ht]
    conv=>lhs;unfold bO
    simp only[F,if_true,hF]
   rw[e];exact RZ (zO n M' j _ _ _ hj Z O) hf e1 e2
  by_cases V:j<18
  ·exact U ⟨hI.l,hI.s,fun h=>by omega,by have:=hI.k;omega⟩ (hC.quiet j V)
  by_cases he:j=18
  ·subst he;have hu:FX.getD 18 0=32:=rfl;rw[hu]at U G I;have K:M.waits [] 32=(!M.full&&decide (0<M.queue.length)):=rfl
   cases F:M.waits [] 32 with
   |false=>
    refine U ⟨hI.l,hI.s,fun _=>?_,by have:=hI.k;omega⟩ F;rw[K]at F
    cases hf:M.full with
    |true=>exact .inr rfl
    |false=>
     rw[hf]at F;simp only[Bool.not_false,Bool.true_and,decide_eq_false_iff_not]at F;exact .inl (WA.1 (by omega))
   |true=>
    have H:M.frame [] 32 room=if room<M.cO then none else M.queue.head?.map fun f=>(f,{M with queue:=M.queue.tail,qv:=SV M.qv},[]):=rfl
    by_cases hr:room<M.cO
    ·exact G F rfl (by rw[H,if_pos hr])
    ·cases hq:M.queue with
     |nil=>
      exact absurd F (by rw[K,hq];simp)
     |cons f q=>
      have k7:=hC.qk f (by rw[hq];simp)
      have hs:x.2<0:=by
       by_cases h:0<=x.2
       ·have:=hI.s h;rw[hq]at this;cases this
       ·omega
      refine I f {M with queue:=q,qv:=SV M.qv} F (by rw[H,if_neg hr,hq];rfl) (fun h=>by omega) rfl rfl (hC.same rfl rfl rfl fun g hg=>by rw[hq];simp only at hg;simp[hg]) ⟨?_,fun h=>?_,fun h=>by omega,?_⟩
      ·have:=hI.l;rw[hq]at this;simp only[oz,k7,if_true];simp only[wz]at this;omega
      ·have:(oz x f).2=x.2:=by simp[oz,k7]
       omega
      ·have:(oz x f).2=x.2:=by simp[oz,k7]
       omega
  ·obtain⟨k,rfl⟩:∃k,j=19+k:=⟨j-19,by omega⟩
   have hk:k<8:=by omega
   have hu:FX.getD (19+k) 0=40+k:=Yq ⟨k,hk⟩;rw[hu]at U G I
   have K:M.waits [] (40+k)=(!M.full&&(M.out k).waits M.aB):=by
    unfold Side.waits;rw[if_neg (by omega),if_neg (by omega),if_neg (by omega),if_neg (by omega),if_neg (by omega),show 40+k-40=k by omega]
   cases F:M.waits [] (40+k)with
   |false=>exact U ⟨hI.l,hI.s,fun _=>hI.p (by omega),by have:=hI.k;omega⟩ F
   |true=>
    have hq:M.queue=[]:=by
     rcases hI.p (by omega)with h|h
     ·exact h
     ·rw[K,h]at F;cases F
    have H:M.frame [] (40+k) room=((M.out k).next k room M.aB).map fun x=>(x.1,M.bf k x.2,[]):=by
     unfold Side.frame;rw[if_neg (by omega),if_neg (by omega),if_neg (by omega),if_neg (by omega),if_neg (by omega),show 40+k-40=k by omega]
    cases hn:(M.out k).next k room M.aB with
    |none=>exact G F (by unfold yields;simp;omega) (by rw[H,hn];rfl)
    |some y=>
     obtain⟨f,o⟩:=y;obtain⟨g1,g2,g3⟩:=NQ hn;have hx:(oz x f).1=x.1/\(oz x f).2=(k:Int):=⟨by simp[oz,g1],by simp[oz,g1,g2]⟩;refine I f (M.bf k o) F (by rw[H,hn];rfl) (fun _=>by rw[g2];have:=hI.k;omega) rfl rfl ⟨(eX _ _ _).trans hC.lo,hC.gr,hC.inn,fun i=>?_,hC.qk⟩ ⟨?_,fun _=>hq,fun _=>.inl hq,.inr ?_⟩
     ·rw[gK];split
      ·rw[g3];exact hC.nt k
      ·exact hC.nt i
     ·rw[hx.1];exact hI.l
     ·rw[hx.2];omega
theorem FZ:∀(n:Nat) (M:Side) (j:Nat) (l:List (Nat×List Fr)) (x:Int×Int),j<=27->KQ M->InU j M x->∃ps,(dJ n M [] (Qn j) l).2=l++ps/\FY x ps
 |0,M,j,l,x,_,_,_=>⟨[],(He _).symm,trivial⟩
 |n+1,M,j,l,x,hj,hC,hI=>by
  obtain⟨X,ds,h1,U,Z,H,V,h6,F,h8,h9⟩:FlU M x [] (fill M [] (Qn j) M.room):=zO _ M j _ [] x hj hC hI;unfold dJ;generalize fill M [] (Qn j) M.room=r at *;obtain⟨M',bH,Q',fs⟩:=r;simp only at h1 U H V F h8 h9 ⊢;subst h1 U;rw[List.nil_append]at H;subst H;split
  ·exact⟨[],(He _).symm,trivial⟩
  ·have I:KQ (M'.packet fs):=V.same rfl rfl rfl fun f hf=>hf
   have G:M'.full=true->(M'.packet fs).full=true:=fun h=>by
    unfold Side.full Side.packet at *;simp only[decide_eq_true_eq]at h ⊢;split
    ·rw[fB];omega
    ·exact h
   have K:InU X (M'.packet fs) (fs.foldl oz x):=⟨F.l,F.s,fun h=>(F.p h).elim .inl fun g=>.inr (G g),F.k⟩;obtain⟨ps,e,ok⟩:=FZ n (M'.packet fs) X (l++[(M.next,fs)]) (fs.foldl oz x) Z I K;refine⟨(M.next,fs)::ps,by rw[e];simp,h6,fun h=>?_,ok⟩;have h1:0<(fs.foldl oz x).1:=h.1;have O:=F.l;rw[F.s h.2]at O;simp only[YF]at O;omega
theorem V8{M M':Side}{pk:List (Nat×List Fr)}(h:M.kY M' pk)(X:M.aF=[])(U:M.answer=false)(O:KQ M):FY ((M.queue.length:Int),-1) pk:=by
 obtain⟨F,hl,e⟩:=h
 have I:F=M:=by
  unfold Side.iG at hl;rw[X]at hl;simpa using hl
 subst I
 have G:lf F=[]:=by unfold lf;rw[U];rfl
 rw[G]at e;obtain⟨ps,H,ok⟩:=FZ (([]:aP).length+14) {F with answer:=false} 0 [] ((F.queue.length:Int),-1) (by omega) (O.same rfl rfl rfl fun f V=>V) ⟨rfl,fun h=>by simp at h,fun h=>by omega,.inl (by show(-1:Int)<0;omega)⟩;have K:dJ (([]:aP).length+14) {F with answer:=false} [] (Qn 0) []=(M',pk):=e;rw[K]at H;rw[show pk=[]++ps from H];exact ok
