import Derived.Test.YtphbledmopchnaaGreatDoorKhb
import Derived.Test.YtphbledmopchnaaGreatDoorKfe
open Go.RowKit.Below renaming refl->KG,heap_setCell->Xw
open Bool renaming and_eq_true->Bu
open List renaming getD_eq_getElem?_getD->mR,getElem?_eq_getElem->nI,length_append->wz,mem_singleton->CK,mem_append->Gl,getElem?_map->Kt,getElem_mem->M4,length_cons->R3,length_map->Vh,getD_cons_succ->Vp,getElem?_take->ZE,mem_cons->qa0,take_add_one->qa1,all_eq_true->qa3,length_take->qa4,length_eq_zero_iff->qa6,append_nil->qa7,length_nil->qa8,take_of_length_le->qaa,mem_of_mem_take->qab,size_toArray->qaf,mem_reverse->qai,map_append->qaj,map_cons->qal,sum_cons->qam,map_map->qan
open Nat renaming le_refl->tL,zero_le->uj,lt_of_lt_of_le->Lb,min_le_right->Si,lt_of_le_of_lt->Z9,zero_add->qa5,not_lt_zero->qa9,le_trans->qad,le_succ->qag
open Option renaming map_eq_some_iff->jK,map_some->qak
open Prod renaming fst->tT
open Go.World renaming block_lt_of_cell?->DJ,cell?->qah
set_option maxHeartbeats 4000000
set_option maxRecDepth 100000
namespace Go.Proofs.YtphbledmopchnaaGreatDoor.Sd
open St Tryz
theorem Ig(m n:Nat)(h:m<=n):(Num.bytes m).length<=(Num.bytes n).length:=by
 rw[Num.dJ,Num.dJ];refine Nat.pow_le_pow_right (by decide) ?_;unfold Num.code
 repeat' split
 all_goals omega
theorem sj(f:Fr)(h:f.kind=4):(aB f).length=1+(Num.bytes f.stream.toNat).length+(Num.bytes f.offset).length+(Num.bytes f.data.size).length+f.data.size:=by
 have e:aQ f.kind=[(1,0),(2,0),(3,279),(4,0)]:=by rw[h];rfl
 unfold aB;rw[e];have:f.data.data.toList.length=f.data.size:=rfl;simp only[List.map,R3,qa8,aX,Vp,List.getD_cons_zero,aO,fieldAt,wz,List.nil_append];simp;omega
theorem Ih{k lo:Nat}{g:Fr}{b:List UInt8}{room:Int}(h:ko (mV k lo) b room=some g):((aB g).length:Int)<=room:=by
 unfold ko at h;split at h
 ·cases h
 ·rename_i hr;have F:=(Option.some.inj h).symm;have H:=sj (mV k lo) rfl;have I:(mV k lo).data.size=0:=rfl;have O:(Num.bytes 0).length=1:=rfl;rw[I,O]at H;obtain⟨r,G⟩:∃r,r=(room-((aB (mV k lo)).length:Int)).toNat:=⟨_,rfl⟩;simp only[<-G]at F;obtain⟨m,V⟩:∃m,m=min (min b.length r) (r-((Num.bytes (min b.length r)).length-1)):=⟨_,rfl⟩;rw[<-V]at F
  have hs:g.data.size=m:=by
   rw[F];show(List.take m b).toArray.size=m;rw[qaf,qa4];omega
  have U:=sj g (by rw[F];rfl);rw[hs,show g.stream=(mV k lo).stream by rw[F],show g.offset=(mV k lo).offset by rw[F]]at U;have X:=Ig m (min b.length r) (by omega);have Z:=eF (min b.length r)
  have e6:m=0->(Num.bytes m).length=1:=fun h=>by rw[h];rfl
  omega
theorem PY(g:Fr)(x:Bool)(h:g.kind=4):(aB {g with fin:=x}).length=(aB g).length:=by
 exact(sj {g with fin:=x} h).trans (sj g h).symm
def Dn:List (Nat×Nat)->Prop
 |[]=>True
 |r::t=>r.1<=r.2/\r.2<=aU/\(∀x∈t,x.2+1<r.1)/\Dn t
theorem Dn.take:∀{l:List (Nat×Nat)} (n:Nat),Dn l->Dn (l.take n)
 |[],n,h=>by simpa using h
 |_::_,0,_=>trivial
 |r::t,n+1,h=>⟨h.1,h.2.1,fun x F=>h.2.2.1 x (qab F),Dn.take n h.2.2.2⟩
theorem Dn.drop:∀{l:List (Nat×Nat)} (n:Nat),Dn l->Dn (l.drop n)
 |[],n,h=>by simpa using h
 |_::_,0,h=>h
 |_::t,n+1,h=>Dn.drop (l:=t) n h.2.2.2
theorem Dn.app:∀{l:List (Nat×Nat)} (r:Nat×Nat),Dn l->r.1<=r.2->r.2<=aU->(∀x∈l,r.2+1<x.1)->Dn (l++[r])
 |[],r,_,h1,h2,_=>⟨h1,h2,fun x F=>by simp at F,trivial⟩
 |a::t,r,h,h1,h2,h3=>⟨h.1,h.2.1,fun x F=>by
   rcases Gl.1 F with F|F
   ·exact h.2.2.1 x F
   ·rw[CK.1 F];exact h3 a (by simp),Dn.app r h.2.2.2 h1 h2 fun x F=>h3 x (by simp[F])⟩
theorem Dn.rev:∀{l:List (Nat×Nat)},Rg.Sorted l->(∀r∈l,r.2<=aU)->Dn l.reverse
 |[],_,_=>trivial
 |r::t,h,hb=>by
  rw[List.reverse_cons]
  exact Dn.app r (Dn.rev h.2.2 fun x F=>hb x (by simp[F])) h.1 (hb r (by simp)) fun x F=>h.2.1 x (qai.1 F)
theorem Dn.at:∀{l:List (Nat×Nat)},Dn l->∀i,i<l.length->nD l i=true
 |[],_,_,h=>by simp at h
 |r::t,h,0,_=>by
  unfold nD;simp[h.1,h.2.1]
 |r::t,h,i+1,hi=>by
  have F:=Dn.at h.2.2.2 i (by simpa using hi);unfold nD at F ⊢;simp only[Bu,decide_eq_true_eq,Bool.or_eq_true,Vp,Nat.add_sub_cancel]at F ⊢;refine⟨F.1,.inr ?_⟩
  cases i with
  |zero=>
   refine h.2.2.1 _ ?_;rw[mR,nI (by simpa using hi)];exact M4 _
  |succ i=>
   rcases F.2 with e|e
   ·cases e
   ·simpa using e
theorem Dn.snd{l:List (Nat×Nat)}(h:Dn l)(F:l≠[]):lU l=true:=by
 unfold lU;rw[Bu];refine⟨qa3.2 fun i hi=>h.at i (List.mem_range.1 hi),decide_eq_true ?_⟩
 cases l with
 |nil=>exact absurd rfl F
 |cons a t=>simp
theorem yB(left:List (Nat×Nat))(room:Int):∀n,bN left room n≠0->((aB (cZ (left.take (bN left room n)))).length:Int)<=room
 |0,h=>absurd rfl h
 |n+1,h=>by
  by_cases F:((aB (cZ (left.take (n+1)))).length:Int)<=room
  ·have e:bN left room (n+1)=n+1:=by unfold bN;rw[if_pos F]
   rw[e];exact F
  ·have e:bN left room (n+1)=bN left room n:=by rw[bN,if_neg F]
   rw[e]at h ⊢;exact yB left room n h
theorem snd_mk(f:Fr)(G:1<=f.kind/\f.kind<=8)(F:f.offset<=aU/\f.reliable<=aU/\f.limit<=aU/\f.id<=aU/\f.deadline<=aU)(hs:0<=f.stream/\f.stream<8)(ht:jf f=true):snd f=true:=by
 unfold snd kG;rw[ht,decide_eq_true G,decide_eq_true hs,decide_eq_true F.1,decide_eq_true F.2.1,decide_eq_true F.2.2.1,decide_eq_true F.2.2.2.1,decide_eq_true F.2.2.2.2];rfl
theorem PZ(kind:Int)(k x:Nat)(G:kind=5\/kind=6)(H:k<8)(F:x<=aU):snd (iq kind k x)=true:=by
 have z:0<=aU:=uj _
 have hs:0<=(k:Int)/\(k:Int)<8:=by omega
 rcases G with rfl|rfl
 ·exact snd_mk _ (by show(1:Int)<=5/\(5:Int)<=8;decide) ⟨z,z,F,z,z⟩ hs rfl
 ·exact snd_mk _ (by show(1:Int)<=6/\(6:Int)<=8;decide) ⟨z,z,F,z,z⟩ hs rfl
theorem qy{A A':Side}(Z:dh A)(hb:∀k,(A.out k).bytes.length<=2048)(left left':List (Nat×Nat))(u:Nat)(room:Int)(f:Fr)(hu:u<48)(hl:Dn left)(G:A.waits left u=true)(h:A.frame left u room=some (f,A',left')):((aB f).length:Int)<=room/\snd f=true/\Dn left'/\(f.kind=2↔u=0)/\(f.kind=2\/f.kind=4\/f.kind=5\/f.kind=6):=by
 unfold Side.frame at h;unfold Side.waits at G
 by_cases u0:u=0
 ·rw[if_pos u0]at h;split at h
  ·cases h
  ·rename_i I;have e:=Option.some.inj h;have O:cZ (left.take (bN left room left.length))=f:=congrArg tT e;have el:left.drop (bN left room left.length)=left':=congrArg (fun x=>x.2.2) e;subst O el;refine⟨yB left room _ I,?_,hl.drop _,⟨fun _=>u0,fun _=>rfl⟩,.inl rfl⟩
   have h0:left.take (bN left room left.length)≠[]:=by
    cases left with
    |nil=>exact absurd rfl I
    |cons a t=>
     intro U;rw[List.take_eq_nil_iff]at U
     rcases U with U|U
     ·exact I U
     ·cases U
   have:=(hl.take (bN left room left.length)).snd h0;unfold snd kG jf cZ;simp[this]
 ·rw[if_neg u0]at h G;simp only[Bu]at G;replace G:=G.2
  have hq:A.kW=0:=by unfold Side.kW;rw[Z.q]
  by_cases u8:u=8
  ·rw[if_pos u8]at h;obtain⟨⟨f1,g1⟩,F,e⟩:=jK.1 h;have O:f1=f:=congrArg tT e;have el:left=left':=congrArg (fun x=>x.2.2) e;subst O el;unfold Gn.next at F;split at F
   ·cases F
   ·rename_i hr;have H:iq 5 0 (A.gr.lim A.free)=f1:=congrArg tT (Option.some.inj F);rw[H]at hr;refine⟨by omega,?_,hl,⟨fun x=>?_,fun x=>absurd x u0⟩,.inr (.inr (.inl (by rw[<-H];rfl)))⟩
    ·rw[<-H];exact PZ 5 0 _ (.inl rfl) (by decide) (Si _ _)
    ·rw[<-H]at x;cases x
  ·rw[if_neg u8]at h G
   by_cases u24:u<24
   ·rw[if_pos u24]at h;obtain⟨⟨f1,g1⟩,F,e⟩:=jK.1 h;have O:f1=f:=congrArg tT e;have el:left=left':=congrArg (fun x=>x.2.2) e;subst O el;unfold Gn.next at F;split at F
    ·cases F
    ·rename_i hr;have H:iq 6 (u-16) ((A.inn (u-16)).gr.lim (A.inn (u-16)).free)=f1:=congrArg tT (Option.some.inj F);rw[H]at hr;refine⟨by omega,?_,hl,⟨fun x=>?_,fun x=>absurd x u0⟩,.inr (.inr (.inr (by rw[<-H];rfl)))⟩
     ·rw[<-H];exact PZ 6 _ _ (.inr rfl) (by omega) (Si _ _)
     ·rw[<-H]at x;cases x
   ·rw[if_neg u24]at h G
    by_cases u32:u<32
    ·rw[if_pos u32]at G;unfold Nt.waits at G;rw[(Z.wr _).given]at G;cases G
    ·rw[if_neg u32]at h G
     by_cases X:u=32
     ·rw[if_pos X]at G;rw[Z.q]at G;simp at G
     ·rw[if_neg X]at h G;obtain⟨⟨f1,o1⟩,F,e⟩:=jK.1 h;have O:f1=f:=congrArg tT e;have el:left=left':=congrArg (fun x=>x.2.2) e;subst O el;obtain⟨n1,n2,n3,_⟩:=vJ (Z.wr _) G F
      have h2:o1.bytes.length<=2048:=by
       have:=(vJ (Z.wr _) G F).2.2.2.2.2.2.2.1;rw[this];exact hb _
      refine⟨?_,?_,hl,⟨fun x=>?_,fun x=>absurd x u0⟩,.inr (.inl n1)⟩
      ·unfold Ot.next at F;simp only at F;split at F
       ·cases F
       ·rename_i g V;split at F
        ·cases F
        ·have H:=congrArg tT (Option.some.inj F);simp only at H;rw[<-H,PY _ _ (by obtain⟨n,_,I⟩:=qO V;rw[I];rfl)];exact Ih V
      ·obtain⟨g,V,hs⟩:∃g:Fr,f1=g/\g.reliable=0/\g.limit=0/\g.id=0/\g.deadline=0:=by
        unfold Ot.next at F;simp only at F;split at F
        ·cases F
        ·rename_i g V;split at F
         ·cases F
         ·have H:=congrArg tT (Option.some.inj F);simp only at H;obtain⟨n,_,I⟩:=qO V;exact⟨_,H.symm,by rw[I];rfl,by rw[I];rfl,by rw[I];rfl,by rw[I];rfl⟩
       subst V;have b1:=n3.b;have b2:av f1=f1.offset+f1.data.size:=rfl;have z:0<=aU:=uj _
       have hM:2048<=aU:=by decide
       refine snd_mk f1 (by rw[n1];decide) ⟨by omega,by rw[hs.1];exact z,by rw[hs.2.1];exact z,by rw[hs.2.2.1];exact z,by rw[hs.2.2.2];exact z⟩ (by rw[n2];omega) ?_;unfold jf;rw[n1,if_neg (by decide),if_neg (by decide),if_pos rfl];exact decide_eq_true (by omega)
      ·rw[n1]at x;cases x
theorem Al{o o':Ot}{k:Nat}{room:Int}{au:Nat}{f:Fr}(h:o.next k room au=some (f,o')):o'=({o with sent:=max o.sent (av f)}:Ot).aw f/\f.limit=0/\f.reliable=0/\f.id=0/\f.deadline=0/\f.ranges=[]:=by
 unfold Ot.next at h;simp only at h;split at h
 ·cases h
 ·rename_i g I;split at h
  ·cases h
  ·have e:=Option.some.inj h;have G:({g with fin:=o.dK (av g)}:Fr)=f:=congrArg tT e;have H:=congrArg Prod.snd e;simp only at H;obtain⟨n,_,F⟩:=qO I;refine⟨?_,?_⟩
   ·rw[<-H,<-G];rfl
   ·rw[<-G,F];exact⟨rfl,rfl,rfl,rfl,rfl⟩
structure FrG (f:Fr):Prop where
 sn:snd f=true
 ok:iT f
 kd:f.kind=2\/MP f
 sz:0<(aB f).length
theorem FrG.isA{f:Fr}(h:FrG f):isA f=false\/f.kind=2:=by
 rcases h.kd with h|h
 ·exact .inr h
 ·left;unfold Sd.isA
  rcases h.kd with e|e|e<;>rw[e]<;>rfl
theorem uX(ps:List (List UInt8)):∀k,0<k->0<(ps.getD 0 []).length->0<(aX ps k).length
 |0,h,_=>absurd h (Nat.lt_irrefl _)
 |1,_,h=>by simpa[aX]using h
 |k+2,_,h=>by
  have:=uX ps (k+1) (by omega) h;show 0<(aX ps (k+1)++_).length;rw[wz];omega
theorem kF(f:Fr):0<(aB f).length:=by
 unfold aB;refine uX _ _ ?_ ?_
 ·unfold aQ;repeat' split
  all_goals decide
 ·unfold aQ;repeat' split
  all_goals simp[aO]
theorem El{A A':Side}(hA:dh A)(hb:Bd A)(left left':List (Nat×Nat))(u:Nat)(room:Int)(f:Fr)(hu:u<48)(hl:Dn left)(h8:left.length<=8)(G:A.waits left u=true)(h:A.frame left u room=some (f,A',left')):Bd A'/\FrG f/\A'.ay=A.ay/\A'.next=A.next/\A'.aH=A.aH/\A'.tick=A.tick/\
   (f.kind=2/\left'.length<left.length\/f.kind≠2/\left'=left/\A.ay.length<12):=by
 obtain⟨_,f2,_,_,_⟩:=qy hA (fun k=>(hb.o k).b) left left' u room f hu hl G h
 have z:0<18446744073709551616:=by decide
 have h3:aU<18446744073709551616:=by decide
 unfold Side.frame at h;unfold Side.waits at G
 by_cases u0:u=0
 ·rw[if_pos u0]at h;split at h
  ·cases h
  ·rename_i hn;have e:=Option.some.inj h;have O:cZ (left.take (bN left room left.length))=f:=congrArg tT e;have X:A=A':=congrArg (fun x=>x.2.1) e;have el:left.drop (bN left room left.length)=left':=congrArg (fun x=>x.2.2) e;subst X;refine⟨hb,⟨f2,?_,.inl (by rw[<-O];rfl),kF f⟩,rfl,rfl,rfl,rfl,.inl ⟨by rw[<-O];rfl,?_⟩⟩
   ·rw[<-O]
    exact⟨by simp only[cZ,qa4];omega,uj _,by simp only[cZ];omega,by simp only[cZ];omega,⟨z,z,z,z,z⟩,fun j V=>by
     have ha:=(hl.take (bN left room left.length)).at j V;unfold nD at ha;simp only[Bu]at ha;have a1:=of_decide_eq_true ha.1.1;have a2:=of_decide_eq_true ha.1.2
     exact⟨by simp only[cZ];omega,by simp only[cZ];omega⟩⟩
   ·rw[<-el,List.length_drop]
    have h0:left.length≠0:=fun e0=>hn (by
     have:left=[]:=qa6.1 e0
     rw[this];rfl)
    omega
 ·rw[if_neg u0]at h G;simp only[Bu,Bool.not_eq_true']at G
  have H:A.ay.length<12:=by
   have:=G.1;unfold Side.full at this;have:=of_decide_eq_false this;omega
  replace G:=G.2
  by_cases u8:u=8
  ·rw[if_pos u8]at h;obtain⟨⟨f1,g1⟩,Z,e⟩:=jK.1 h;have O:f1=f:=congrArg tT e;have X:{A with gr:=g1}=A':=congrArg (fun x=>x.2.1) e;have el:left=left':=congrArg (fun x=>x.2.2) e;obtain⟨I,e2⟩:=kX Z;have F:A.gr.lim A.free<=aU:=Si _ _;rw[O]at I;subst X;refine⟨hb.WC _ ?_,⟨f2,?_,.inr ?_,kF f⟩,rfl,rfl,rfl,rfl,.inr ⟨by rw[I];simp[iq],el.symm,H⟩⟩
   ·rw[e2];exact GJ.aw (g:={A.gr with told:=A.gr.lim A.free}) ⟨hb.g.1,F,hb.g.2.2⟩ _ F
   ·rw[I];exact⟨uj _,uj _,by simp only[iq];omega,by simp only[iq];omega,⟨z,z,Z9 F h3,z,z⟩,fun j V=>absurd V (qa9 _)⟩
   ·rw[I];exact⟨by simp only[iq];omega,(fun h=>by cases h),F,.inr (.inl rfl)⟩
  ·rw[if_neg u8]at h G
   by_cases u24:u<24
   ·rw[if_pos u24]at h;obtain⟨⟨f1,g1⟩,Z,e⟩:=jK.1 h;have O:f1=f:=congrArg tT e;have X:A.bP (u-16) {A.inn (u-16)with gr:=g1}=A':=congrArg (fun x=>x.2.1) e;have el:left=left':=congrArg (fun x=>x.2.2) e;obtain⟨I,e2⟩:=kX Z;have F:(A.inn (u-16)).gr.lim (A.inn (u-16)).free<=aU:=Si _ _;rw[O]at I;subst X
    have hk:u-16<8:=by omega
    refine⟨hb.bP _ _ ((hb.i _).gr' _ ?_),⟨f2,?_,.inr ?_,kF f⟩,rfl,rfl,rfl,rfl,.inr ⟨by rw[I];simp[iq],el.symm,H⟩⟩
    ·rw[e2];exact GJ.aw (g:={(A.inn (u-16)).gr with told:=(A.inn (u-16)).gr.lim (A.inn (u-16)).free}) ⟨(hb.i _).g.1,F,(hb.i _).g.2.2⟩ _ F
    ·rw[I];exact⟨uj _,uj _,by simp only[iq];omega,by simp only[iq];omega,⟨z,z,Z9 F h3,z,z⟩,fun j V=>absurd V (qa9 _)⟩
    ·rw[I];exact⟨by simp only[iq];omega,(fun h=>by cases h),F,.inr (.inr rfl)⟩
   ·rw[if_neg u24]at h G
    by_cases u32:u<32
    ·rw[if_pos u32]at G;unfold Nt.waits at G;rw[(hA.wr _).given]at G;cases G
    ·rw[if_neg u32]at h G
     by_cases h2:u=32
     ·rw[if_pos h2]at G;rw[hA.q]at G;simp at G
     ·rw[if_neg h2]at h G;obtain⟨⟨f1,o1⟩,Z,e⟩:=jK.1 h;have O:f1=f:=congrArg tT e;have X:A.aW (u-40) o1=A':=congrArg (fun x=>x.2.1) e;have el:left=left':=congrArg (fun x=>x.2.2) e;subst O X;obtain⟨n1,n2,n3,_,_,_,_,n8,_⟩:=vJ (hA.wr _) G Z;obtain⟨q1,q2,q3,q4,q5,q6⟩:=Al Z
      have h4:o1.bytes.length<=2048:=by rw[n8];exact(hb.o _).b
      have U:av f1<=2048:=qad n3.b h4;have hd:pW f1:=⟨by unfold av at U;omega,U,n3.ne⟩
      have hk:u-40<8:=by omega
      refine⟨hb.aW _ _ ?_,⟨f2,?_,.inr ?_,kF f1⟩,rfl,rfl,rfl,rfl,.inr ⟨by rw[n1];decide,el.symm,H⟩⟩
      ·rw[q1];exact⟨(hb.o _).b,rP (hb.o _).a hd,(hb.o _).c⟩
      ·exact⟨by rw[q6];exact uj _,hd.d,by rw[n1];omega,by rw[n2];omega,⟨by have:=hd.o;omega,by rw[q3];exact z,by rw[q2];exact z,by rw[q4];exact z,by rw[q5];exact z⟩,fun j V=>by rw[q6]at V;exact absurd V (qa9 _)⟩
      ·exact⟨by rw[n2];omega,fun _=>hd,by rw[q2];exact uj _,.inl n1⟩
def Jy(l:List Fr):Nat:=(l.map fun f=>(aB f).length).sum
structure FlB (B A:Side) (left:List (Nat×Nat)) (room:Int) (l:List Fr) (x:Side×List (Nat×Nat)×List Nat×List Fr) (m:List Fr):Prop where
 loc:dh x.1
 ab:bF x.1 B
 ba:bF B x.1
 bd:Bd x.1
 dn:Dn x.2.1
 ln:x.2.1.length<=left.length
 hi:∀r∈x.2.1,r.2<B.next
 q:Lq x.2.2.1
 eq:x.2.2.2=l++m
 fs:∀f∈m,FrG f
 sz:(Jy m:Int)<=room
 wy:x.1.ay=A.ay
 mt:x.1.aH=A.aH
 wf:wants m=true->A.ay.length<12
 ac:m≠[]->wants m=false->x.2.1.length<left.length
theorem lM:∀(n:Nat) {A B:Side} (left:List (Nat×Nat)) (Q later:List Nat) (room:Int) (l:List Fr),dh A->bF A B->bF B A->Bd A->Dn left->left.length<=8->(∀r∈left,r.2<B.next)->Lq Q->Lq later->0<=room->
  ∃m,FlB B A left room l (cB n A left Q later room l) m
 |0,A,B,left,Q,later,room,l,hA,h1,h2,hb,hd,h8,hl,hQ,hL,hr=>⟨[],hA,h1,h2,hb,hd,tL _,hl,Lq.pushes _ hQ hL,(qa7 _).symm,by simp,hr,rfl,rfl,by simp[wants],by simp⟩
 |n+1,A,B,left,[],later,room,l,hA,h1,h2,hb,hd,h8,hl,hQ,hL,hr=>⟨[],hA,h1,h2,hb,hd,tL _,hl,Lq.pushes _ hQ hL,(qa7 _).symm,by simp,hr,rfl,rfl,by simp[wants],by simp⟩
 |n+1,A,B,left,u::Q,later,room,l,hA,h1,h2,hb,hd,h8,hl,hQ,hL,hr=>by
  have I:u<48:=hQ u (by simp);unfold cB
  by_cases H:A.waits left u=true
  ·simp only[H,if_true]
   cases hF:A.frame left u room with
   |none=>
    simp only;split
    ·exact lM n left _ _ room l hA h1 h2 hb hd h8 hl hQ.pop (hL.app fun x hx=>by rw[CK.1 hx];exact I) hr
    ·exact⟨[],hA,h1,h2,hb,hd,tL _,hl,Lq.pushes _ hQ hL,(qa7 _).symm,by simp,hr,rfl,rfl,by simp[wants],by simp⟩
   |some x=>
    obtain⟨f,A',left'⟩:=x;simp only;obtain⟨s,sf,sl⟩:=wG hA h1 h2 left left' u room f I hl H hF;obtain⟨g1,_,Z,_,_⟩:=qy hA (fun k=>(hb.o k).b) left left' u room f I hd H hF;obtain⟨V,b2,b3,b4,X,b6,O⟩:=El hA hb left left' u room f I hd h8 H hF
    have U:left'.length<=left.length:=by rcases O with⟨_,h⟩|⟨_,h,_⟩;omega;rw[h];exact tL _
    obtain⟨m,t⟩:=lM n left' (u::Q) later (room-((aB f).length:Int)) (l++[f]) s.loc s.ab s.ba V Z (by omega) sl hQ hL (by omega);refine⟨f::m,t.loc,t.ab,t.ba,t.bd,t.dn,qad t.ln U,t.hi,t.q,by rw[t.eq];simp,fun g G=>?_,?_,t.wy.trans b3,t.mt.trans X,fun F=>?_,fun _ F=>?_⟩
    ·rcases qa0.1 G with G|G
     ·rw[G];exact b2
     ·exact t.fs g G
    ·have:=t.sz;unfold Jy at this ⊢;simp only[qal,qam];omega
    ·rcases O with⟨h,_⟩|⟨_,_,h⟩
     ·have:wants m=true:=by
       unfold wants at F ⊢;simpa[h]using F
      have:=t.wf this;rwa[b3]at this
     ·exact h
    ·have hk:f.kind=2:=by
      unfold wants at F;simp only[List.any_cons,Bool.or_eq_false_iff]at F;have:=of_decide_eq_false F.1;exact Decidable.not_not.1 this
     rcases O with⟨_,h⟩|⟨h,_⟩
     ·exact Z9 t.ln h
     ·exact absurd hk h
  ·simp only[H];exact lM n left _ later room l hA h1 h2 hb hd h8 hl hQ.pop hL hr
theorem yC(n:Nat)(fs:List Fr):∀k,k<=fs.length->(bQ n fs k).length=(Num.bytes n).length+Jy (fs.take k)
 |0,_=>by simp[bQ,Jy]
 |k+1,h=>by
  show(bQ n fs k++aB (fs.getD k dW)).length=_;rw[wz,yC n fs k (by omega),qa1,nI (by omega)];unfold Jy;rw[qaj,List.sum_append,mR,nI (by omega)];simp;omega
theorem pq(n:Nat)(fs:List Fr):(bH n fs).length=(Num.bytes n).length+Jy fs:=by
 unfold bH;rw[yC n fs fs.length (tL _),List.take_length]
theorem Jz:∀(l:List Fr),(∀f∈l,FrG f)->l.length<=Jy l
 |[],_=>uj _
 |f::t,h=>by
  have h1:=Jz t fun g F=>h g (by simp[F])
  have G:=(h f (by simp)).sz;unfold Jy at h1 ⊢;simp only[qal,qam,R3];omega
def mu(M:Side)(left:List (Nat×Nat)):Nat:=left.length+(12-M.ay.length)
structure PP (B:Side) (N:Nat) (M:Side) (left:List (Nat×Nat)):Prop where
 loc:dh M
 ab:bF M B
 ba:bF B M
 bd:Bd M
 dn:Dn left
 l8:left.length<=8
 hi:∀r∈left,r.2<B.next
 nx:M.next+mu M left<=N
theorem Ci{M:Side}(h:Bd M):0<=M.room/\M.room<=400:=by
 unfold Side.room;have:=eF M.next;have:=h.mt;omega
theorem Dn.okl{l:List (Nat×Nat)}(h:Dn l)(F:l.length<=8):uw l=true:=by
 unfold uw;rw[Bu];exact⟨qa3.2 fun i hi=>h.at i (by simpa using hi),decide_eq_true (by omega)⟩
theorem P5{B:Side}{N:Nat}{M:Side}{left:List (Nat×Nat)}{Q:List Nat}(h:PP B N M left)(hN:N<aU)(hQ:Lq Q)(U:(fill M left Q M.room).2.2.2≠[]):
  PP B N ((fill M left Q M.room).1.packet (fill M left Q M.room).2.2.2) (fill M left Q M.room).2.1/\mu ((fill M left Q M.room).1.packet (fill M left Q M.room).2.2.2) (fill M left Q M.room).2.1<mu M left/\
  mW M.next (fill M left Q M.room).2.2.2=true/\(bH M.next (fill M left Q M.room).2.2.2).length+4<=M.aH/\(fill M left Q M.room).2.2.2.length<=400/\(∀f∈(fill M left Q M.room).2.2.2,FrG f):=by
 obtain⟨r0,r1⟩:=Ci h.bd;have V:(fill M left Q M.room).1.next=M.next:=rJ _ left Q [] M.room [];obtain⟨m,t⟩:=lM (Q.length+M.room.toNat+1) left Q [] M.room [] h.loc h.ab h.ba h.bd h.dn h.l8 h.hi hQ (fun x O=>by simp at O) r0;have G:FlB B M left M.room [] (fill M left Q M.room) m:=t;clear t;generalize fill M left Q M.room=x at G V U;obtain⟨A,left',Q',fs⟩:=x;simp only at G V U ⊢;have eq:fs=m:=G.eq;subst eq;have hA:dh A:=G.loc;have ln:left'.length<=left.length:=G.ln;have wy:A.ay=M.ay:=G.wy;have h8:A.aH=M.aH:=G.mt;have P:=xD G.loc G.ab G.ba fs;have H:Bd A:=G.bd
 have h2:mu (A.packet fs) left'<mu M left:=by
  unfold mu
  by_cases I:wants fs=true
  ·have X:=G.wf I
   have:(A.packet fs).ay=A.ay++[(A.next,⟨again fs,A.tick⟩)]:=by
    show(if wants fs then _ else _)=_;rw[if_pos I]
   rw[this,wz,wy];simp only[R3,qa8];omega
  ·have h5:wants fs=false:=by simpa using I
   have:(A.packet fs).ay=A.ay:=by
    show(if wants fs then _ else _)=_;rw[if_neg I]
   have h3:left'.length<left.length:=G.ac U h5;rw[this,wy];omega
 have hsz:(Jy fs:Int)<=M.room:=G.sz;have h7:fs.length<=Jy fs:=Jz fs G.fs
 have h4:(A.packet fs).next=M.next+1:=by show A.next+1=_;rw[V]
 have h6:(again fs).length<=fs.length:=List.length_filter_le _ _
 have h0:∀f∈again fs,MP f:=fun f Z=>by
  obtain⟨p,q⟩:=List.mem_filter.1 Z
  rcases(G.fs f p).kd with e|e
  ·rw[e]at q;simp at q
  ·exact e
 have Rw:=h.nx;have Zv:aU=4611686018427387903:=rfl;refine⟨⟨P.loc,P.ab,P.ba,?_,G.dn,by have:=h.l8;omega,G.hi,by rw[h4];omega⟩,h2,?_,?_,by omega,G.fs⟩
 ·refine⟨H.o,H.i,H.g,H.lm,H.mt,fun x O=>?_,fun x O=>(H.ls x O).mono (qag _),?_,?_,H.ll,Nat.le_succ_of_le H.nm,H.cm,fun x O=>?_⟩
  ·by_cases I:wants fs=true
   ·have F:x∈A.ay++[(A.next,(⟨again fs,A.tick⟩:lX))]:=by
     have:(A.packet fs).ay=A.ay++[(A.next,⟨again fs,A.tick⟩)]:=by
      show(if wants fs then _ else _)=_;rw[if_pos I]
     rwa[this]at O
    rcases Gl.1 F with F|F
    ·exact(H.wy x F).mono (qag _)
    ·rw[CK.1 F];exact⟨Nat.lt_succ_self _,by show(again fs).length<=400;omega,h0⟩
   ·have:(A.packet fs).ay=A.ay:=by
     show(if wants fs then _ else _)=_;rw[if_neg I]
    rw[this]at O;exact(H.wy x O).mono (qag _)
  ·show(A.lost++(A.packet fs).ay).Pairwise _
   by_cases I:wants fs=true
   ·have:(A.packet fs).ay=A.ay++[(A.next,⟨again fs,A.tick⟩)]:=by
     show(if wants fs then _ else _)=_;rw[if_pos I]
    rw[this,<-List.append_assoc,List.pairwise_append];refine⟨H.ky,by simp,fun x O y hy=>?_⟩;rw[CK.1 hy]
    have:x.1<A.next:=by
     rcases Gl.1 O with O|O
     ·exact(H.ls x O).1
     ·exact(H.wy x O).1
    show x.1≠A.next;omega
   ·have:(A.packet fs).ay=A.ay:=by
     show(if wants fs then _ else _)=_;rw[if_neg I]
    rw[this];exact H.ky
  ·by_cases I:wants fs=true
   ·have X:=G.wf I
    have:(A.packet fs).ay=A.ay++[(A.next,⟨again fs,A.tick⟩)]:=by
     show(if wants fs then _ else _)=_;rw[if_pos I]
    rw[this,wz,wy];simp only[R3,qa8];omega
   ·have:(A.packet fs).ay=A.ay:=by
     show(if wants fs then _ else _)=_;rw[if_neg I]
    rw[this];exact H.wl
  ·show x.2.tick<=A.tick
   by_cases I:wants fs=true
   ·have F:x∈A.ay++[(A.next,(⟨again fs,A.tick⟩:lX))]:=by
     have:(A.packet fs).ay=A.ay++[(A.next,⟨again fs,A.tick⟩)]:=by
      show(if wants fs then _ else _)=_;rw[if_pos I]
     rwa[this]at O
    rcases Gl.1 F with F|F
    ·exact H.tk x F
    ·rw[CK.1 F];exact tL _
   ·have:(A.packet fs).ay=A.ay:=by
     show(if wants fs then _ else _)=_;rw[if_neg I]
    rw[this]at O;exact H.tk x O
 ·unfold mW;rw[Bu,Bu];refine⟨⟨qa3.2 fun f Z=>(G.fs f Z).sn,decide_eq_true (by omega)⟩,decide_eq_true ?_⟩
  cases fs with
  |nil=>exact absurd rfl U
  |cons f t=>simp
 ·rw[pq];unfold Side.room at hsz;omega
theorem pkp(B:Side)(N:Nat)(hN:N<aU):PkP (PP B N) mu where
 wk:=fun M left h=>⟨h.bd.wk h.loc,h.dn.okl h.l8⟩
 fr:=fun M left u room f M' left' h H I F=>by
  obtain⟨s,sf,sl⟩:=wG h.loc h.ab h.ba left left' u room f H h.hi I F;obtain⟨Z,g2,g3,_,_⟩:=qy h.loc (fun k=>(h.bd.o k).b) left left' u room f H h.dn I F;obtain⟨U,b2,b3,V,b5,b6,X⟩:=El h.loc h.bd left left' u room f H h.dn h.l8 I F
  have h0:left'.length<=left.length:=by rcases X with⟨_,h⟩|⟨_,h,_⟩;omega;rw[h];exact tL _
  refine⟨⟨s.loc,s.ab,s.ba,U,g3,by have:=h.l8;omega,sl,?_⟩,Z,b2.sz,g2,b2.ok⟩;have:=h.nx;unfold mu at this ⊢;rw[V,b3];omega
 nm:=fun M left h=>by
  obtain⟨r0,r1⟩:=Ci h.bd;have Zv:aU=4611686018427387903:=rfl;have:=h.nx;exact⟨h.bd.mt.2,by omega,r0,by omega,fun x hx=>(h.bd.wy x hx).1⟩
 pk:=fun M left Q h hQ G=>by
  obtain⟨p1,p2,p3,p4,p5,O⟩:=P5 h hN hQ G;have:=h.bd.mt;exact⟨p1,p2,p3,by omega,by omega,fun f F=>⟨(O f F).ok,(O f F).isA⟩⟩
end Go.Proofs.YtphbledmopchnaaGreatDoor.Sd
namespace Go.Proofs.YtphbledmopchnaaGreatDoor.Sd
open Go.RowKit Go.Lib Mm Tryz
structure PkF (aH:Nat) (x:Nat×List Fr):Prop where
 sn:mW x.1 x.2=true
 sz:(bH x.1 x.2).length+4<=aH
 ln:x.2.length<=400
 ne:x.2≠[]
 fs:∀f∈x.2,FrG f
theorem Am{B:Side}{N:Nat}(V:N<aU):∀(n:Nat) {A:Side} (left:List (Nat×Nat)) (Q:List Nat) (l:List (Nat×List Fr)),PP B N A left->Lq Q->(∀x∈l,PkF A.aH x)->
  (∀x∈(dX n A left Q l).2,PkF A.aH x)/\(∃left',PP B N (dX n A left Q l).1 left')/\(dX n A left Q l).1.aH=A.aH
 |0,A,left,Q,l,h,_,hl=>⟨hl,⟨left,h⟩,rfl⟩
 |n+1,A,left,Q,l,h,hQ,hl=>by
  obtain⟨r0,r1⟩:=Ci h.bd;have H:(fill A left Q A.room).1.next=A.next:=rJ _ left Q [] A.room [];obtain⟨m,t⟩:=lM (Q.length+A.room.toNat+1) left Q [] A.room [] h.loc h.ab h.ba h.bd h.dn h.l8 h.hi hQ (fun x I=>by simp at I) r0;have F:FlB B A left A.room [] (fill A left Q A.room) m:=t;clear t
  have hp:=fun G=>P5 (Q:=Q) h V hQ G
  unfold dX;generalize fill A left Q A.room=x at F H hp;obtain⟨A',left',Q',fs⟩:=x;simp only at F H hp ⊢;have U:A'.aH=A.aH:=F.mt;have wy:A'.ay=A.ay:=F.wy;have ln:left'.length<=left.length:=F.ln;split
  ·refine⟨hl,⟨left',F.loc,F.ab,F.ba,F.bd,F.dn,by have:=h.l8;omega,F.hi,?_⟩,U⟩;have:=h.nx;show A'.next+mu A' left'<=N;unfold mu at this ⊢;rw[wy,H];omega
  ·rename_i G;obtain⟨p1,p2,p3,p4,p5,p6⟩:=hp G;have O:(A'.packet fs).aH=A.aH:=U
   obtain⟨X,q2,Z⟩:=Am V n left' Q' (l++[(A.next,fs)]) p1 F.q (fun x I=>by
    rw[O]
    rcases Gl.1 I with I|I
    ·exact hl x I
    ·rw[CK.1 I];exact⟨p3,p4,p5,G,p6⟩)
   rw[O]at X Z;exact⟨X,q2,Z⟩
theorem Yo(M:Side)(f:Fr):(M.fD f).next=M.next/\(M.fD f).came=M.came/\(M.fD f).aH=M.aH/\(M.fD f).tick=M.tick:=by
 unfold Side.fD
 repeat' split
 all_goals exact⟨rfl,rfl,rfl,rfl⟩
theorem P6:∀(l:List Fr) (M:Side),(l.foldl Side.fD M).next=M.next/\(l.foldl Side.fD M).came=M.came/\(l.foldl Side.fD M).aH=M.aH/\(l.foldl Side.fD M).tick=M.tick
 |[],M=>⟨rfl,rfl,rfl,rfl⟩
 |f::t,M=>by
  obtain⟨a,b,c,d⟩:=P6 t (M.fD f);obtain⟨F,G,H,I⟩:=Yo M f;exact⟨a.trans F,b.trans G,c.trans H,d.trans I⟩
theorem qA{M F:Side}(h:M.je F):F.next=M.next/\F.came=M.came/\F.aH=M.aH/\F.tick=M.tick:=by
 unfold Side.je at h;split at h
 ·obtain⟨lp,_,rfl⟩:=h;exact P6 _ _
 ·rw[h];exact⟨rfl,rfl,rfl,rfl⟩
theorem Xa{M:Side}(h:Bd M):(lf M).length<=8:=by
 unfold lf;split
 ·rw[List.length_reverse];exact h.cm.ln
 ·simp
theorem Em{A B G:Side}(X:dh A)(h1:bF A B)(V:bF B A)(U:Bd A)(h:A.je G):PP B (A.next+24) {G with answer:=false} (lf G)/\mu {G with answer:=false} (lf G)<(lf G).length+14/\(lf G).length<=8:=by
 have I:=Aa X h1 V h;have F:=D5 U h;have O:=xE I.loc I.ab I.ba false;obtain⟨k1,k2,Z,_⟩:=qA h;have hl:=Xa F;refine⟨⟨O.loc,O.ab,O.ba,⟨F.o,F.i,F.g,F.lm,F.mt,F.wy,F.ls,F.ky,F.wl,F.ll,F.nm,F.cm,F.tk⟩,?_,hl,fun r H=>?_,?_⟩,?_,hl⟩
 ·unfold lf;split
  ·exact Dn.rev F.cm.so F.cm.hi
  ·trivial
 ·unfold lf at H;split at H
  ·exact I.ba.came r (qai.1 H)
  ·simp at H
 ·show G.next+mu _ _<=_;unfold mu;rw[k1];omega
 ·unfold mu;omega
def Side.mQ(M M':Side)(pk:List (Nat×List Fr)):Prop:=∃F,M.je F/\dX ((lf F).length+14) {F with answer:=false} (lf F) q0 []=(M',pk)
structure Rn (A B A':Side) (pk:List (Nat×List Fr)):Prop where
 SI:Stp A B A'
 bd:Bd A'
 mt:A'.aH=A.aH
 next:A'.next=A.next+pk.length
 top:A'.next<=A.next+24
 nm:∀j,j<pk.length->(pk.getD j (0,[])).1=A.next+j
 ok:∀x∈pk,PkF A.aH x/\x.1<A'.next/\∀f∈x.2,kH A' B f
theorem En:∀(m:List (List Fr)) (n:Nat),(nums n m).length=m.length
 |[],_=>rfl
 |_::t,n=>by simp[nums,En t (n+1)]
theorem Eo:∀(m:List (List Fr)) (n j:Nat),j<m.length->(nums n m).getD j (0,[])=(n+j,m.getD j [])
 |[],_,j,h=>by simp at h
 |_::t,n,0,_=>rfl
 |_::t,n,j+1,h=>by
  have:=Eo t (n+1) j (by simpa using h);simp only[nums,Vp];rw[this];congr 1;omega
theorem Ep:∀(m:List (List Fr)) (n:Nat) (x:Nat×List Fr),x∈nums n m->x.2∈m/\x.1<n+m.length
 |[],_,_,h=>by simp[nums]at h
 |a::t,n,x,h=>by
  rcases qa0.1 h with h|h
  ·rw[h];simp
  ·obtain⟨p,q⟩:=Ep t (n+1) x h;exact⟨by simp[p],by simp;omega⟩
theorem Er{A B A':Side}{pk:List (Nat×List Fr)}(U:dh A)(h1:bF A B)(O:bF B A)(X:Bd A)(hn:A.next+24<aU)(h:A.mQ A' pk):Rn A B A' pk:=by
 obtain⟨F,hl,e⟩:=h;obtain⟨H,h0,h8⟩:=Em U h1 O X hl;obtain⟨k1,k2,V,_⟩:=qA hl;have I:=Aa U h1 O hl;have s2:=xE I.loc I.ab I.ba false;obtain⟨m,o⟩:=zZ ((lf F).length+14) (lf F) q0 [] H.loc H.ab H.ba lq0 H.hi;obtain⟨f1,⟨left',f2⟩,f3⟩:=Am hn ((lf F).length+14) (lf F) q0 [] H lq0 (fun x G=>by simp at G);rw[e]at o f1 f2 f3
 have eq:pk=nums F.next m:=by have:=o.eq;simpa using this
 have nx:A'.next=F.next+m.length:=o.next
 have Z:pk.length=m.length:=by rw[eq,En]
 refine⟨I.trans (s2.trans o.SI),f2.bd,f3.trans V,by rw[nx,k1,Z],by have:A'.next+mu A' left'<=A.next+24:=f2.nx;omega,fun j hj=>?_,fun x G=>?_⟩
 ·rw[eq,Eo m _ j (by omega),k1]
 ·rw[eq]at G;obtain⟨p,q⟩:=Ep m _ x G;exact⟨by have:=f1 x (by rw[eq];exact G);rw[<-V];exact this,by rw[nx];exact q,fun f hf=>o.ok _ p f hf⟩
structure Sm (A A':Side):Prop where
 o:∀k,(A'.out k).bytes=(A.out k).bytes/\(A'.out k).fin=(A.out k).fin
 i:∀k,(A'.inn k).read=(A.inn k).read/\(A'.inn k).state=(A.inn k).state
theorem Sm.refl(A:Side):Sm A A:=⟨fun _=>⟨rfl,rfl⟩,fun _=>⟨rfl,rfl⟩⟩
theorem Sm.trans{A B C:Side}(h:Sm A B)(g:Sm B C):Sm A C:=
 ⟨fun k=>⟨(g.o k).1.trans (h.o k).1,(g.o k).2.trans (h.o k).2⟩,fun k=>⟨(g.i k).1.trans (h.i k).1,(g.i k).2.trans (h.i k).2⟩⟩
theorem jH(A:Side)(k:Nat)(o:Ot)(h1:o.bytes=(A.out k).bytes)(F:o.fin=(A.out k).fin):Sm A (A.aW k o):=
 ⟨fun j=>by
  rw[gL];split
  ·rename_i h;rw[h.1];exact⟨h1,F⟩
  ·exact⟨rfl,rfl⟩,fun _=>⟨rfl,rfl⟩⟩
theorem vP(A:Side)(k:Nat)(i:bI)(h1:i.read=(A.inn k).read)(F:i.state=(A.inn k).state):Sm A (A.bP k i):=
 ⟨fun _=>⟨rfl,rfl⟩,fun j=>by
  rw[fM];split
  ·rename_i h;rw[h.1];exact⟨h1,F⟩
  ·exact⟨rfl,rfl⟩⟩
theorem P7(A:Side)(f:Fr):Sm A (A.fD f):=by
 unfold Side.fD;split
 ·exact jH _ _ _ rfl rfl
 ·split
  ·exact jH _ _ _ rfl rfl
  ·split
   ·exact vP _ _ _ rfl rfl
   ·exact⟨fun _=>⟨rfl,rfl⟩,fun _=>⟨rfl,rfl⟩⟩
theorem P8(A:Side)(f:Fr):Sm A (A.bookC f):=by
 unfold Side.bookC;split
 ·exact jH _ _ _ rfl rfl
 ·split
  ·exact jH _ _ _ rfl rfl
  ·split
   ·exact vP _ _ _ rfl rfl
   ·exact⟨fun _=>⟨rfl,rfl⟩,fun _=>⟨rfl,rfl⟩⟩
theorem Cj(g:Side->Fr->Side)(F:∀A f,Sm A (g A f)):∀(l:List Fr) (A:Side),Sm A (l.foldl g A)
 |[],A=>Sm.refl A
 |f::t,A=>(F A f).trans (Cj g F t (g A f))
theorem P9{A A':Side}(h:A.je A'):Sm A A':=by
 unfold Side.je at h;split at h
 ·obtain⟨lp,_,rfl⟩:=h;refine Sm.trans ?_ (Cj _ P7 _ _);refine⟨fun k=>?_,fun k=>?_⟩
  ·show((A.outs.map gD).getD k sF).bytes=(A.outs.getD k sF).bytes/\((A.outs.map gD).getD k sF).fin=(A.outs.getD k sF).fin
   by_cases F:k<A.outs.length
   ·rw[getD_map gD sF _ _ F];exact⟨rfl,rfl⟩
   ·rw[jF sF _ _ (by simpa using F),jF sF _ _ (by omega)];exact⟨rfl,rfl⟩
  ·show((A.ins.map fA).getD k sQ).read=(A.ins.getD k sQ).read/\((A.ins.map fA).getD k sQ).state=(A.ins.getD k sQ).state
   by_cases F:k<A.ins.length
   ·rw[getD_map fA sQ _ _ F];exact⟨rfl,rfl⟩
   ·rw[jF sQ _ _ (by simpa using F),jF sQ _ _ (by omega)];exact⟨rfl,rfl⟩
 ·rw[h];exact Sm.refl A
theorem P_{A A':Side}{l:List (Nat×Nat)}(h:A.rR l A'):Sm A A':=by
 obtain⟨lp,lq,_,_,rfl⟩:=h;exact Sm.trans (B:=A.Vs l) ⟨fun _=>⟨rfl,rfl⟩,fun _=>⟨rfl,rfl⟩⟩ (Cj _ P8 _ _)
theorem JD(i:bI)(f:Fr):(i.take f).read=i.read/\(i.take f).state=i.state:=⟨BG _ _ _ bI.read _ rfl rfl,BG _ _ _ bI.state _ rfl rfl⟩
theorem Um(A:Side)(f:Fr)(F:f.kind≠2)(G:f.kind≠3):Sm A (A.take f).1:=by
 unfold Side.take;rw[if_neg F];split
 ·split
  ·exact Sm.refl A
  ·split
   ·exact Sm.refl A
   ·exact vP _ _ _ (JD _ f).1 (JD _ f).2
 ·split
  ·exact Sm.refl A
  ·split
   ·unfold Side.RN;split
    ·exact Sm.refl A
    ·exact⟨fun _=>⟨rfl,rfl⟩,fun _=>⟨rfl,rfl⟩⟩
   ·split
    ·exact⟨fun _=>⟨rfl,rfl⟩,fun _=>⟨rfl,rfl⟩⟩
    ·split
     ·exact jH _ _ _ rfl rfl
     ·exact Sm.refl A
theorem Qa{A A':Side}{e:Nat}{f:Fr}(H:f.kind≠3)(h:A.fK f A' e):Sm A A':=by
 unfold Side.fK at h;split at h
 ·split at h
  ·rw[h.1];exact Sm.refl A
  ·exact P_ h.1
 ·rename_i G;have F:A'=(A.take f).1:=congrArg tT h;rw[F];exact Um A f G H
theorem uY:∀(fs:List Fr) {A A':Side} {e:Nat},(∀f∈fs,f.kind≠3)->lI A fs A' e->Sm A A'
 |[],A,A',e,_,h=>by obtain⟨rfl,_⟩:=h;exact Sm.refl _
 |f::t,A,A',e,hk,h=>by
  obtain⟨G,H,r,h⟩:=h;have s:=Qa (hk f (by simp)) r;split at h
  ·exact s.trans (uY t (fun g F=>hk g (by simp[F])) h)
  ·rw[h.1];exact⟨s.o,s.i⟩
theorem yD{A A':Side}{n e:Nat}{fs:List Fr}(F:∀f∈fs,f.kind≠3)(h:A.h_ n fs A' e):Sm A A':=by
 unfold Side.h_ at h;split at h
 ·rw[h.1];exact Sm.refl A
 ·have s:=uY fs F h;exact⟨s.o,s.i⟩
theorem JE{o o':Ot}{k:Nat}{room:Int}{au:Nat}{f:Fr}(h:o.next k room au=some (f,o')):o'.bytes=o.bytes/\o'.fin=o.fin:=by
 obtain⟨e,_⟩:=Al h;rw[e];exact⟨rfl,rfl⟩
theorem Qb{A A':Side}{left left':List (Nat×Nat)}{u:Nat}{room:Int}{f:Fr}(h:A.frame left u room=some (f,A',left')):Sm A A':=by
 unfold Side.frame at h;split at h
 ·split at h
  ·cases h
  ·have e:=Option.some.inj h;have F:A=A':=congrArg (fun x=>x.2.1) e;rw[<-F];exact Sm.refl A
 ·split at h
  ·obtain⟨y,_,e⟩:=jK.1 h;have F:({A with gr:=y.2}:Side)=A':=congrArg (fun x=>x.2.1) e;rw[<-F];exact⟨fun _=>⟨rfl,rfl⟩,fun _=>⟨rfl,rfl⟩⟩
  ·split at h
   ·obtain⟨y,_,e⟩:=jK.1 h;have F:=congrArg (fun x=>x.2.1) e;simp only at F;rw[<-F];exact vP _ _ _ rfl rfl
   ·split at h
    ·obtain⟨y,_,e⟩:=jK.1 h;have F:=congrArg (fun x=>x.2.1) e;simp only at F;rw[<-F];exact jH _ _ _ rfl rfl
    ·split at h
     ·split at h
      ·cases h
      ·obtain⟨y,_,e⟩:=jK.1 h;have F:=congrArg (fun x=>x.2.1) e;simp only at F;rw[<-F];exact⟨fun _=>⟨rfl,rfl⟩,fun _=>⟨rfl,rfl⟩⟩
     ·obtain⟨y,G,e⟩:=jK.1 h;have F:=congrArg (fun x=>x.2.1) e;simp only at F;rw[<-F];exact jH _ _ _ (JE (f:=y.1) (o':=y.2) G).1 (JE (f:=y.1) (o':=y.2) G).2
theorem oI:∀(n:Nat) (A:Side) (left:List (Nat×Nat)) (Q later:List Nat) (room:Int) (l:List Fr),Sm A (cB n A left Q later room l).1
 |0,A,_,_,_,_,_=>Sm.refl A
 |n+1,A,_,[],_,_,_=>Sm.refl A
 |n+1,A,left,u::Q,later,room,l=>by
  unfold cB
  by_cases F:A.waits left u=true
  ·simp only[F,if_true]
   cases hF:A.frame left u room with
   |none=>
    simp only;split
    ·exact oI n _ _ _ _ _ _
    ·exact Sm.refl A
   |some x=>
    obtain⟨f,G,H⟩:=x;exact(Qb hF).trans (oI n _ _ _ _ _ _)
  ·simp only[F];exact oI n _ _ _ _ _ _
theorem Ao:∀(n:Nat) (A:Side) (left:List (Nat×Nat)) (Q:List Nat) (l:List (Nat×List Fr)),Sm A (dX n A left Q l).1
 |0,A,_,_,_=>Sm.refl A
 |n+1,A,left,Q,l=>by
  have s:Sm A (fill A left Q A.room).1:=oI _ _ _ _ _ _ _;unfold dX;split
  ·exact s
  ·have:=Ao n ((fill A left Q A.room).1.packet (fill A left Q A.room).2.2.2) (fill A left Q A.room).2.1 (fill A left Q A.room).2.2.1 (l++[(A.next,(fill A left Q A.room).2.2.2)]);exact s.trans ⟨this.o,this.i⟩
theorem Es{A A':Side}{pk:List (Nat×List Fr)}(h:A.mQ A' pk):Sm A A':=by
 obtain⟨F,hl,e⟩:=h;have s:=Ao ((lf F).length+14) {F with answer:=false} (lf F) q0 [];rw[e]at s;exact(P9 hl).trans ⟨s.o,s.i⟩
theorem kH.kd{A B:Side}{f:Fr}(h:kH A B f):f.kind=2\/f.kind=4\/f.kind=5\/f.kind=6:=by
 rcases h with h|h|h|h
 ·exact .inl h.1
 ·exact .inr (.inl h.1)
 ·exact .inr (.inr (.inl h.1))
 ·exact .inr (.inr (.inr h.1))
theorem Qm(M:Side)(f:Fr):(M.bookC f).tick=M.tick:=by
 unfold Side.bookC
 repeat' split
 all_goals rfl
theorem JN(g:Side->Fr->Side)(F:∀A f,(g A f).tick=A.tick):∀(l:List Fr) (A:Side),(l.foldl g A).tick=A.tick
 |[],_=>rfl
 |f::t,A=>(JN g F t (g A f)).trans (F A f)
theorem Qn{A A':Side}{l:List (Nat×Nat)}(h:A.rR l A'):A'.tick=A.tick:=by
 obtain⟨lp,lq,_,_,rfl⟩:=h;exact JN _ Qm _ _
theorem UA(A:Side)(f:Fr)(F:f.kind≠2):(A.take f).1.tick=A.tick:=by
 unfold Side.take Side.RN;rw[if_neg F]
 repeat' split
 all_goals rfl
theorem Qo{A A':Side}{e:Nat}{f:Fr}(h:A.fK f A' e):A'.tick=A.tick:=by
 unfold Side.fK at h;split at h
 ·split at h
  ·rw[h.1]
  ·exact Qn h.1
 ·rename_i G;have F:A'=(A.take f).1:=congrArg tT h;rw[F];exact UA A f G
theorem uZ:∀(fs:List Fr) {A A':Side} {e:Nat},lI A fs A' e->A'.tick=A.tick
 |[],A,A',e,h=>by obtain⟨rfl,_⟩:=h;rfl
 |f::t,A,A',e,h=>by
  obtain⟨F,G,r,h⟩:=h;have s:=Qo r;split at h
  ·exact(uZ t h).trans s
  ·rw[h.1];exact s
theorem EJ{A A':Side}{n e:Nat}{fs:List Fr}(h:A.h_ n fs A' e):A'.tick=A.tick:=by
 unfold Side.h_ at h;split at h
 ·rw[h.1]
 ·have s:=uZ fs h;exact s
theorem Qp{A A':Side}{left left':List (Nat×Nat)}{u:Nat}{room:Int}{f:Fr}(h:A.frame left u room=some (f,A',left')):A'.tick=A.tick:=by
 unfold Side.frame at h;split at h
 ·split at h
  ·cases h
  ·have F:A=A':=congrArg (fun x=>x.2.1) (Option.some.inj h);rw[<-F]
 ·split at h
  ·obtain⟨y,_,e⟩:=jK.1 h;rw[<-show _=A' from congrArg (fun x=>x.2.1) e]
  ·split at h
   ·obtain⟨y,_,e⟩:=jK.1 h;rw[<-show _=A' from congrArg (fun x=>x.2.1) e];rfl
   ·split at h
    ·obtain⟨y,_,e⟩:=jK.1 h;rw[<-show _=A' from congrArg (fun x=>x.2.1) e];rfl
    ·split at h
     ·split at h
      ·cases h
      ·obtain⟨y,_,e⟩:=jK.1 h;rw[<-show _=A' from congrArg (fun x=>x.2.1) e]
     ·obtain⟨y,G,e⟩:=jK.1 h;rw[<-show _=A' from congrArg (fun x=>x.2.1) e];rfl
theorem oM:∀(n:Nat) (A:Side) (left:List (Nat×Nat)) (Q later:List Nat) (room:Int) (l:List Fr),(cB n A left Q later room l).1.tick=A.tick
 |0,_,_,_,_,_,_=>rfl
 |n+1,_,_,[],_,_,_=>rfl
 |n+1,A,left,u::Q,later,room,l=>by
  unfold cB
  by_cases F:A.waits left u=true
  ·simp only[F,if_true]
   cases hF:A.frame left u room with
   |none=>
    simp only;split
    ·exact oM n _ _ _ _ _ _
    ·rfl
   |some x=>
    obtain⟨f,G,H⟩:=x;exact(oM n _ _ _ _ _ _).trans (Qp hF)
  ·simp only[F];exact oM n _ _ _ _ _ _
theorem Az:∀(n:Nat) (A:Side) (left:List (Nat×Nat)) (Q:List Nat) (l:List (Nat×List Fr)),(dX n A left Q l).1.tick=A.tick
 |0,_,_,_,_=>rfl
 |n+1,A,left,Q,l=>by
  have s:(fill A left Q A.room).1.tick=A.tick:=oM _ _ _ _ _ _ _;unfold dX;split
  ·exact s
  ·exact(Az n _ _ _ _).trans s
theorem EK{A A':Side}{pk:List (Nat×List Fr)}(h:A.mQ A' pk):A'.tick=A.tick:=by
 obtain⟨F,hl,e⟩:=h;have s:=Az ((lf F).length+14) {F with answer:=false} (lf F) q0 [];rw[e]at s;exact s.trans (qA hl).2.2.2
theorem G7(own:Own)(s:Nat)(S:Nat)(l:List Value)(M:Side)(bw bl bi:Nat)(vc:Value)(f:Fr)(a:Option Addr)(c:Nat)(w:World)(h:bM own s w S l M bw bl bi vc)(hb:Bd M)(hr:fq w a f.ranges)(X:0<f.ranges.length)(h2:f.ranges.length<=1000000)(Z:∀x,a=some x->own x.block∉T0 s)(U:(f.ranges.getD 0 (0,0)).2<M.next)(V:M.next<=aU):
  Calls prog 233 #[.pointer (some ⟨S,0,none⟩),bJ f (.slice a f.ranges.length c)] w fun e w'=>e=.returned (.int .i64 0)/\∃G,M.rR f.ranges G/\fQ s own w S bw bl bi G w':=by
 obtain⟨W,I⟩:∃W,W=w.alloc (.cells (bX f (.slice a f.ranges.length c)).toArray 65):=⟨_,rfl⟩
 have O:ak W w.heap.size 65 (bX f (.slice a f.ranges.length c)):=by rw[I];exact ak.new w 65 _
 have F:Below w.heap.size w W:=by rw[I];exact(KG _ w).alloc (tL _) _
 have HL:Hid (∀q,Calls prog 294 #[.pointer (some ⟨S,0,none⟩),.slice a f.ranges.length c] (W.drewN q) fun e w'=>e=.returned (.tuple #[])/\∃G,M.rR f.ranges G/\fQ s own w S bw bl bi G w'):=fun q=>by
  have H:Below w.heap.size w (W.drewN q):=lG F;refine(TP own s S l M bw bl bi vc (W.drewN q) (h.below H) hb a c f.ranges (hr.below H) X h2 Z U V).mono ?_;rintro e w' ⟨rfl,G,g1,o',l',v',g2,g3⟩;exact⟨rfl,G,g1,o',l',v',g2,(Kp.below H).trans g3⟩
 obtain⟨rb,ro,rfl,q0,q1,q2,q3⟩:=hr 0 X;have h0:rb<w.heap.size:=DJ w _ (by rw[q0]);have hS:=h.below F;obtain⟨x0,x1,x2,x3,x4,x5,x6,x7,x8,x9,xf⟩:=aA O
 have dn:W.cell? ⟨S,229,none⟩=some (.int .u64 M.next):=by rw[hS.blk.cell];exact hS.cells.c229
 have dr:W.cell? ⟨rb,ro+1,none⟩=some (.int .u64 ((f.ranges.getD 0 (0,0)).2:Int)):=cell_of q1 (F.block _ h0)
 have Zh:(0:Int)<(f.ranges.length:Int):=by omega
 have h3:¬(M.next:Int)<=((f.ranges.getD 0 (0,0)).2:Int):=by omega
 clear h hb hr Z V q0 q1 q2 q3 hS O F U;generalize (f.ranges.getD 0 (0,0)).2=hi at *;generalize M.next=nx at *;generalize f.ranges.length=rl at *;unfold bJ;unfold bX at I;go_enter func233,ntmps233;go_wp2;rw[<-I];clear I
 go_quiet (fail)
 go_wp2_with (go_at_call 294;refine(HL.out _).mono ?_;rintro e w1 ⟨rfl,HE⟩)
 go_ret;exact⟨rfl,HE⟩
theorem bM.lim{own:Own}{s:Nat}{w w':World}{S:Nat}{l l':List Value}{M:Side}{bw bl bi:Nat}{vc:Value}(h:bM own s w S l M bw bl bi vc)(n:Nat)(q:cu w w' S l l' 220 1)(F:l'[220]?=some (.int .u64 n)):fQ s own w S bw bl bi {M with limit:=n} w':=by
 have c:=h.cells
 have e:∀j,j≠220->l'[j]?=l[j]?:=fun j G=>q.win.2 j (by omega)
 exact h.cell 220 1 (by omega) q ⟨q.win.1.trans c.len,by rw[e _ (by omega)];exact c.c0,by rw[e _ (by omega)];exact c.c1,by rw[e _ (by omega)];exact c.c2,by rw[e _ (by omega)];exact c.c3,F,c.gr.win q.win (by omega),
  by rw[e _ (by omega)];exact c.nP,by rw[e _ (by omega)];exact c.c226,by rw[e _ (by omega)];exact c.c227,by rw[e _ (by omega)];exact c.c228,by rw[e _ (by omega)];exact c.c229,by rw[e _ (by omega)];exact c.j6,by rw[e _ (by omega)];exact c.mY,by rw[e _ (by omega)];exact c.c232,by rw[e _ (by omega)];exact c.c233,
  by rw[e _ (by omega)];exact c.c234,by rw[e _ (by omega)];exact c.mZ,by rw[e _ (by omega)];exact c.c236,by rw[e _ (by omega)];exact c.oO,by rw[e _ (by omega)];exact c.j_,by rw[e _ (by omega)];exact c.oP⟩ rfl rfl rfl rfl rfl
structure FrC (M:Side) (f:Fr):Prop where
 kd:f.kind=2\/f.kind=4\/f.kind=5\/f.kind=6
 ack:f.kind=2->0<f.ranges.length/\f.ranges.length<=1000000/\(f.ranges.getD 0 (0,0)).2<M.next
 st:f.kind=4\/f.kind=6->0<=f.stream/\f.stream<8
 dt:f.kind=4->av f<=2048
 ok:f.kind≠2->(M.take f).2=0
theorem TT(own:Own)(s:Nat)(S:Nat)(l:List Value)(M:Side)(bw bl bi:Nat)(vc:Value)(f:Fr)(a:Option Addr)(c:Nat)(w:World)(h:bM own s w S l M bw bl bi vc)(hb:Bd M)(O:FrC M f)(hr:fq w a f.ranges)(X:∀x,a=some x->own x.block∉T0 s)(V:M.next<=aU):
  Calls prog 183 #[.pointer (some ⟨S,0,none⟩),bJ f (.slice a f.ranges.length c)] w fun e w'=>e=.returned (.int .i64 0)/\∃G,M.fK f G 0/\fQ s own w S bw bl bi G w':=by
 obtain⟨W,I⟩:∃W,W=w.alloc (.cells (bX f (.slice a f.ranges.length c)).toArray 65):=⟨_,rfl⟩
 have U:ak W w.heap.size 65 (bX f (.slice a f.ranges.length c)):=by rw[I];exact ak.new w 65 _
 have F:Below w.heap.size w W:=by rw[I];exact(KG _ w).alloc (tL _) _
 have H:=h.below F;have NY:=h.blk.lt;obtain⟨x0,x1,x2,x3,x4,x5,x6,x7,x8,x9,xf⟩:=aA U
 rcases O.kd with hk|hk|hk|hk
 ·have HA:Hid (Calls prog 233 #[.pointer (some ⟨S,0,none⟩),bJ f (.slice a f.ranges.length c)] W fun e w'=>e=.returned (.int .i64 0)/\Hid (∃G,M.fK f G 0/\fQ s own w S bw bl bi G w')):=by
   obtain⟨a1,a2,a3⟩:=O.ack hk;refine(G7 own s S l M bw bl bi vc f a c W H hb (hr.below F) a1 a2 X a3 V).mono ?_;rintro e w' ⟨rfl,G,g1,o',l',v',g2,g3⟩;refine⟨rfl,G,?_,o',l',v',g2,(Kp.below F).trans g3⟩;unfold Side.fK;rw[if_pos hk,if_neg (by omega)];exact⟨g1,rfl⟩
  clear h H hb hr X O U F V;generalize f.ranges.length=rl at *;unfold bJ at *;unfold bX at I;rw[hk]at *;clear hk;go_enter func183,ntmps183
  go_wp2_with (go_at_call 233;rw[<-I];refine HA.out.mono ?_;rintro e w1 ⟨rfl,HE⟩)
  go_ret;exact⟨rfl,HE.out⟩
 ·obtain⟨k,Z⟩:∃k:Nat,f.stream=(k:Int):=⟨f.stream.toNat,by have:=O.st (.inl hk);omega⟩
  have sK:k<8:=by have:=O.st (.inl hk);omega
  have HA:Hid (Calls prog 234 #[.pointer (some ⟨S,0,none⟩),bJ f (.slice a f.ranges.length c)] W fun e w'=>e=.returned (.int .i64 0)/\Hid (∃G,M.fK f G 0/\fQ s own w S bw bl bi G w')):=by
   have he:=O.dt hk;refine(DK own s S l M bw bl bi vc f a f.ranges.length c k sK Z hk W H (hb.i k).ok (fun j=>by have:=(hb.i j).h;omega) (by omega)).mono ?_;have h0:=O.ok (by rw[hk];decide);rintro e w' ⟨rfl,o',l',v',g2,g3⟩;refine⟨by rw[h0];rfl,(M.take f).1,?_,o',l',v',g2,(Kp.below F).trans g3⟩;unfold Side.fK;rw[if_neg (by rw[hk];decide)];exact Prod.ext rfl h0.symm
  clear h H hb hr X O U F V;generalize f.ranges.length=rl at *;unfold bJ at *;unfold bX at I;rw[hk]at *;clear hk Z;go_enter func183,ntmps183
  go_wp2_with (go_at_call 234;rw[<-I];refine HA.out.mono ?_;rintro e w1 ⟨rfl,HE⟩)
  go_ret;exact⟨rfl,HE.out⟩
 ·obtain⟨N,hN,h2⟩:=max2 M.limit f.limit
  have d0:W.cell? ⟨S,220,none⟩=some (.int .u64 M.limit):=by rw[H.blk.cell];exact H.cells.mh
  have df:=H.blk.frozen 220
  have HE:Hid (∃G,M.fK f G 0/\fQ s own w S bw bl bi G (W.setCell ⟨S,220,none⟩ (.int .u64 N)).drew):=by
   obtain⟨o',l',v',g2,g3⟩:=H.lim N (cu.one H.blk 220 (.int .u64 N) 220 1 (tL _) (by omega)) (aN l 220 _ _ H.cells.mh);refine⟨{M with limit:=N},?_,o',l',v',g2.below ⟨rfl,rfl,rfl,tL _,fun _ _=>rfl⟩,(Kp.below F).trans g3.drew⟩;unfold Side.fK;rw[if_neg (by rw[hk];decide)];unfold Side.take;rw[if_neg (by rw[hk];decide),if_neg (by rw[hk];decide),if_neg (by rw[hk];decide),if_neg (by rw[hk];decide),if_neg (by rw[hk];decide),if_pos hk,h2]
  clear h H hb hr X O U F V h2;generalize f.ranges.length=rl at *;generalize M.limit=lm at *;unfold bJ at *;unfold bX at I;rw[hk]at *;clear hk;go_enter func183,ntmps183;go_wp2;rw[<-I];clear I
  go_region
  go_wp2;go_ret;exact⟨rfl,HE.out⟩
 ·obtain⟨k,Z⟩:∃k:Nat,f.stream=(k:Int):=⟨f.stream.toNat,by have:=O.st (.inr hk);omega⟩
  have sK:k<8:=by have:=O.st (.inr hk);omega
  have h4:(k:Int)<8:=by omega
  have HA:Hid (∀q,Calls prog 237 #[.pointer (some ⟨S,4+k*27,none⟩),.int .u64 f.limit] (W.drewN q) fun e w'=>e=.returned (.tuple #[])/\Hid (∃G,M.fK f G 0/\fQ s own w S bw bl bi G w')):=fun q=>by
   have h3:Below w.heap.size w (W.drewN q):=lG F;have hq:=h.below h3;rw[show 4+k*27=4+27*k by omega];refine(NJ s (s+1+5*k) own S (4+27*k) f.limit (M.out k) l (W.drewN q) hq.blk hq.ow (by omega) (hq.out k sK)).mono ?_;rintro e w' ⟨rfl,g⟩;obtain⟨o',l',v',g2,g3⟩:=hq.aW k sK _ g;refine⟨rfl,M.aW k {M.out k with limit:=max (M.out k).limit f.limit},?_,o',l',v',g2,(Kp.below h3).trans g3⟩;unfold Side.fK;rw[if_neg (by rw[hk];decide)];unfold Side.take;rw[if_neg (by rw[hk];decide),if_neg (by rw[hk];decide),if_neg (by rw[hk];decide),if_neg (by rw[hk];decide),if_neg (by rw[hk];decide),if_neg (by rw[hk];decide),if_pos hk]
   have:f.stream.toNat=k:=by omega
   rw[this]
  clear h H hb hr X O U F V;generalize f.ranges.length=rl at *;unfold bJ at *;unfold bX at I;rw[hk]at *;generalize f.stream=st at *;subst Z;clear hk;go_enter func183,ntmps183;go_wp2;rw[<-I];clear I
  go_region_with (go_at_call 237;refine(HA.out _).mono ?_;rintro e w1 ⟨rfl,HE⟩)
  all_goals(go_wp2;go_ret;exact⟨rfl,HE.out⟩)
section
def jr:Side->List Fr->Side->Prop
 |M,[],M1=>M1=M
 |M,f::t,M1=>∃F,M.fK f F 0/\jr F t M1
theorem uT:∀(l:List Fr) {M X Y:Side} (f:Fr),jr M l X->X.fK f Y 0->jr M (l++[f]) Y
 |[],M,X,Y,f,h,k=>by
  cases h;exact⟨Y,k,rfl⟩
 |g::t,M,X,Y,f,h,k=>by
  obtain⟨F,h1,G⟩:=h;exact⟨F,h1,uT t f G k⟩
theorem xV:∀(l:List Fr) {M X:Side},jr M l X->lI M l X 0
 |[],_,_,h=>⟨h,rfl⟩
 |f::t,_,_,⟨M2,h1,h2⟩=>⟨M2,0,h1,by rw[if_pos rfl];exact xV t h2⟩
structure uU (own:Own) (s:Nat) (w:World) (fa:Option Addr) (L:List FV):Prop where
 fv:ru w fa L
 fo:∀x,fa=some x->x.block<w.heap.size/\own x.block∉T0 s
 rg:∀j,j<L.length->fq w (L.getD j dM).2.1 (L.getD j dM).1.ranges/\(L.getD j dM).2.2.1=(L.getD j dM).1.ranges.length/\∀x,(L.getD j dM).2.1=some x->x.block<w.heap.size/\own x.block∉T0 s
theorem uU.kp{own own':Own}{s:Nat}{w w':World}{fa:Option Addr}{L:List FV}(h:uU own s w fa L)(K:Kp (T0 s) own own' w w'):uU own' s w' fa L:=by
 refine⟨fun j G=>?_,fun x F=>?_,fun j G=>?_⟩
 ·obtain⟨b,off,e,h1⟩:=h.fv j G;obtain⟨f1,f2⟩:=h.fo _ e;refine⟨b,off,e,fun i hi=>?_⟩;rw[<-h1 i hi];have:=K.blk b f1 f2;unfold qah;simp only[this]
 ·obtain⟨f1,f2⟩:=h.fo x F;exact⟨Lb f1 K.size,by rw[K.ext _ f1];exact f2⟩
 ·obtain⟨h1,I,H⟩:=h.rg j G;refine⟨h1.of fun x F hl=>K.blk _ hl (H x F).2,I,fun x F=>?_⟩;obtain⟨f1,f2⟩:=H x F;exact⟨Lb f1 K.size,by rw[K.ext _ f1];exact f2⟩
theorem bM.Zk{own:Own}{s:Nat}{w w':World}{S:Nat}{l:List Value}{M:Side}{bw bl bi:Nat}{vc:Value}(h:bM own s w S l M bw bl bi vc)(x:NS)(q:Ke s (s+41) own S 225 l 8 w (x.fl,x.rs) w'):fQ s own w S bw bl bi {M with came:=x} w':=by
 obtain⟨own',l',va,K,hB,wi,I,O,U,V⟩:=q
 have F:∀y,y∈[s,s+41]->y=s\/y=s+41:=fun y H=>by simpa using H
 have e:∀j,j<225\/228<=j->l'[j]?=l[j]?:=fun j G=>wi.2 j (by omega)
 have c:=h.cells
 refine⟨own',l',va,⟨by rw[K.ext S h.blk.lt,h.ow],h.s0,hB,⟨wi.1.trans c.len,by rw[e _ (by omega)];exact c.c0,by rw[e _ (by omega)];exact c.c1,by rw[e _ (by omega)];exact c.c2,by rw[e _ (by omega)];exact c.c3,by rw[e _ (by omega)];exact c.mh,c.gr.win wi (by omega),
  I,O,U,by rw[e _ (by omega)];exact c.c228,by rw[e _ (by omega)];exact c.c229,by rw[e _ (by omega)];exact c.j6,by rw[e _ (by omega)];exact c.mY,by rw[e _ (by omega)];exact c.c232,by rw[e _ (by omega)];exact c.c233,
  by rw[e _ (by omega)];exact c.c234,by rw[e _ (by omega)];exact c.mZ,by rw[e _ (by omega)];exact c.c236,by rw[e _ (by omega)];exact c.oO,by rw[e _ (by omega)];exact c.j_,by rw[e _ (by omega)];exact c.oP⟩,fun j G=>?_,fun j G=>?_,V,h.way.kp K (fun e=>by have:=F _ e;omega) (fun e=>by have:=F _ e;omega),h.lost.kp K (fun e=>by have:=F _ e;omega) (fun e=>by have:=F _ e;omega),h.lo,h.li⟩,K.mono fun y H=>bG.2 (by have:=F y H;omega)⟩
 ·exact(h.out j G).kp K (fun e=>by have:=F _ e;omega) (fun e=>by have:=F _ e;omega) (fun e=>by have:=F _ e;omega) wi (by omega)
 ·exact(h.inn j G).kp K (fun e=>by have:=F _ e;omega) (fun e=>by have:=F _ e;omega) wi (by omega)
theorem bM.ans{own:Own}{s:Nat}{w w':World}{S:Nat}{l l':List Value}{M:Side}{bw bl bi:Nat}{vc:Value}(h:bM own s w S l M bw bl bi vc)(n:Bool)(q:cu w w' S l l' 228 1)(F:l'[228]?=some (.bool n)):fQ s own w S bw bl bi {M with answer:=n} w':=by
 have c:=h.cells
 have e:∀j,j≠228->l'[j]?=l[j]?:=fun j G=>q.win.2 j (by omega)
 exact h.cell 228 1 (by omega) q ⟨q.win.1.trans c.len,by rw[e _ (by omega)];exact c.c0,by rw[e _ (by omega)];exact c.c1,by rw[e _ (by omega)];exact c.c2,by rw[e _ (by omega)];exact c.c3,by rw[e _ (by omega)];exact c.mh,c.gr.win q.win (by omega),
  by rw[e _ (by omega)];exact c.nP,by rw[e _ (by omega)];exact c.c226,by rw[e _ (by omega)];exact c.c227,F,by rw[e _ (by omega)];exact c.c229,by rw[e _ (by omega)];exact c.j6,by rw[e _ (by omega)];exact c.mY,by rw[e _ (by omega)];exact c.c232,by rw[e _ (by omega)];exact c.c233,
  by rw[e _ (by omega)];exact c.c234,by rw[e _ (by omega)];exact c.mZ,by rw[e _ (by omega)];exact c.c236,by rw[e _ (by omega)];exact c.oO,by rw[e _ (by omega)];exact c.j_,by rw[e _ (by omega)];exact c.oP⟩ rfl rfl rfl rfl rfl
theorem CmB.ok{c:NS}(h:CmB c):St.Rg.Ok 18446744073709551616 1000000 c.fl c.rs:=
 ⟨h.so,fun r F=>by have:=h.hi r F;unfold aU at this;omega,by have:=h.ln;omega,by have:=h.fl;unfold aU at this;omega⟩
theorem Ag{M F:Side}{f:Fr}{e:Nat}(h:M.fK f F e):F.why=M.why:=by
 have I:∀(l:List Fr) (X:Side),(l.foldl Side.bookC X).why=X.why:=fun l=>by
  induction l with
  |nil=>exact fun X=>rfl
  |cons f t O=>
   intro X;refine(O _).trans ?_;unfold Side.bookC
   repeat' split
   all_goals rfl
 unfold Side.fK at h;split at h
 ·split at h
  ·rw[h.1]
  ·obtain⟨⟨lp,lq,_,_,rfl⟩,_⟩:=h;exact(I _ _).trans rfl
 ·rename_i G;have H:F=(M.take f).1:=congrArg tT h;rw[H];unfold Side.take Side.RN;rw[if_neg G]
  repeat' split
  all_goals rfl
theorem xW:∀(l:List Fr) {M X:Side},jr M l X->X.why=M.why
 |[],_,_,h=>by rw[h]
 |_::t,_,_,⟨_,h1,h2⟩=>(xW t h2).trans (Ag h1)
def TA(own:Own)(s:Nat)(w:World)(S bw bl bi:Nat)(fa:Option Addr)(L:List FV)(bv:List Value)(M':Side)(y:World):Prop:=
 ∃F l1 G,bM F s y S l1 M' bw bl bi G/\F w.heap.size=0/\ak y w.heap.size 56 bv/\uU F s y fa L/\Kp (T0 s) own F w y
section
variable {own:Own} {s:Nat} {w:World} {S bw bl bi:Nat} {fa:Option Addr} {L:List FV} {bv:List Value} {M':Side} {y y':World}
theorem TA.step{H:Side}(h:TA own s w S bw bl bi fa L bv M' y)(k:∀G l1 V,bM G s y S l1 M' bw bl bi V->uU G s y fa L->fQ s G y S bw bl bi H y'):TA own s w S bw bl bi fa L bv H y':=by
 obtain⟨o,l1,v1,h1,I,U,O,Z⟩:=h;obtain⟨o2,l2,v2,X,F⟩:=k o l1 v1 h1 O;have hs:=h1.s0;exact⟨o2,l2,v2,X,by rw[F.ext _ U.lt,I],aK U F (by rw[I];exact fun e=>by have:=bG.1 e;omega),O.kp F,Z.trans F⟩
theorem TA.below(h:TA own s w S bw bl bi fa L bv M' y)(hb:Below y.heap.size y y'):TA own s w S bw bl bi fa L bv M' y':=h.step fun _ _ _ g _=>fQ.refl g hb
theorem TA.why(h:TA own s w S bw bl bi fa L bv M' y)(F:M'.why=0):y.cell? ⟨S,238,none⟩=some (.int .i64 0)/\y.frozen? ⟨S,238,none⟩=false/\TA own s w S bw bl bi fa L bv M' (y.setCell ⟨S,238,none⟩ (.int .i64 0))/\(y.setCell ⟨S,238,none⟩ (.int .i64 0)).cell? ⟨S,238,none⟩=some (.int .i64 ((0:Nat):Int)):=by
 have g:TA own s w S bw bl bi fa L bv M' (y.setCell ⟨S,238,none⟩ (.int .i64 0)):=h.step fun o l1 G h1 _=>by
  have c:l1[238]?=some (.int .i64 0):=by rw[h1.cells.j_,F];rfl
  have q:=cu.one h1.blk 238 (.int .i64 0) 238 1 (tL _) (by omega);rw[xC l1 238 _ c]at q;exact h1.cell 238 1 (by omega) q h1.cells rfl rfl rfl rfl rfl
 obtain⟨o,l1,G,h1,_⟩:=h;refine⟨by rw[h1.blk.cell,h1.cells.j_,F];rfl,h1.blk.frozen 238,g,?_⟩;obtain⟨o,l1,G,h1,_⟩:=g;rw[h1.blk.cell,h1.cells.j_,F]
end


theorem wp_cut{c:Code}{K:Act->World->Prop}{H:Exit->Act->World->Prop}{a:Act}{w:World}(act:Act)(R:World->Prop)(h:c.wp prog (Exit.then (fun G w'=>G=act/\R w') fun _ _ _=>False) a w)(O:∀w',R w'->K act w'):c.wp prog (Exit.then K H) a w:=
 wp_mono h fun e G w' F=>by
  cases e with
  |normal=>obtain⟨rfl,I⟩:=F;exact O _ I
  |ret=>exact F.elim
  |exit i=>exact F.elim
  |goto i=>exact F.elim
  |panic c=>exact F.elim
  |outgrown=>exact F.elim
theorem G8(own:Own)(s:Nat)(S:Nat)(l:List Value)(M:Side)(bw bl bi:Nat)(vc:Value)(n:Nat)(fa:Option Addr)(L:List FV)(fc:Nat)(w:World)(h:bM own s w S l M bw bl bi vc)(hb:Bd M)(hn:n<=aU)(hH:uU own s w fa L)(hl:L.length<=1000000)(hy:M.why=0)(hC:∀G j,j<L.length->jr {M with came:=M.came.add 8 n n,answer:=M.answer||wants (L.map tT)} ((L.map tT).take j) G->FrC G (L.getD j dM).1/\Bd G/\G.next<=aU):
  Calls prog 138 #[.pointer (some ⟨S,0,none⟩),.agg #[.int .u64 n,.slice fa L.length fc]] w fun e w'=>e=.returned .nilIface/\∃M1,jr {M with came:=M.came.add 8 n n,answer:=M.answer||wants (L.map tT)} (L.map tT) M1/\fQ s own w S bw bl bi M1 w':=by
 have x2:=h.s0;obtain⟨W,hW⟩:∃W,W=w.alloc (.cells #[.int .u64 n,.slice fa L.length fc] 56):=⟨_,rfl⟩
 have I:Below w.heap.size w W:=by rw[hW];exact(KG _ w).alloc (tL _) _
 obtain⟨bv,V⟩:∃bv:List Value,bv=[.int .u64 n,.slice fa L.length fc]:=⟨_,rfl⟩
 have hg:TA own s w S bw bl bi fa L bv M W:=by
  have K:Kp [] own (loc own w.heap.size) w W:=⟨I.os,I.tape,I.output,I.size,fun x F _=>I.block x F,fun x F=>fH _ _ _ F⟩;exact⟨loc own w.heap.size,l,vc,h.kp K (by simp),eT _ _ _ (tL _),by rw[hW,V];exact ak.new w 56 _,hH.kp (K.mono (by simp)),K.mono (by simp)⟩
 obtain⟨M1,h0⟩:∃M1:Side,M1={M with came:=M.came.add 8 n n}:=⟨_,rfl⟩;obtain⟨wn,h5⟩:∃wn,wn=wants (L.map tT):=⟨_,rfl⟩;obtain⟨M2,U⟩:∃M2:Side,M2={M with came:=M.came.add 8 n n,answer:=M.answer||wn}:=⟨_,rfl⟩
 have HA:Hid (∀q,Calls prog 127 #[.pointer (some ⟨S,225,none⟩),.int .u64 n,.int .u64 n] (W.drewN q) fun e w1=>e=.returned (.tuple #[])/\TA own s w S bw bl bi fa L bv M1 w1):=fun q=>by
  have hk:TA own s w S bw bl bi fa L bv M (W.drewN q):=hg.below ⟨rfl,rfl,rfl,tL _,fun _ _=>rfl⟩;have x3:=hk;obtain⟨o,l1,v1,h1,h2,F,O,h4⟩:=hk;refine(I5 s (s+41) o S 225 n n l1 8 M.came.fl M.came.rs v1 (W.drewN q) h1.blk h1.ow h1.cells.nP h1.cells.c226 h1.cells.c227 h1.row hb.cm.ok (by unfold aU at hn;omega)).mono ?_;rintro e w1 ⟨rfl,g⟩;refine⟨rfl,?_⟩
  have hq:fQ s o (W.drewN q) S bw bl bi M1 w1:=by rw[h0];exact h1.Zk (M.came.add 8 n n) g
  obtain⟨o2,l2,v2,g1,g2⟩:=hq;exact⟨o2,l2,v2,g1,by rw[g2.ext _ F.lt,h2],aK F g2 (by rw[h2];exact fun e=>by have:=bG.1 e;omega),O.kp g2,h4.trans g2⟩
 have HS:Hid (∀w1,TA own s w S bw bl bi fa L bv M1 w1->w1.cell? ⟨S,228,none⟩=some (.bool M.answer)/\w1.frozen? ⟨S,228,none⟩=false/\w1.cell? ⟨w.heap.size,1,none⟩=some (.slice fa L.length fc)/\ru w1 fa L/\TA own s w S bw bl bi fa L bv M2 (w1.setCell ⟨S,228,none⟩ (.bool (M.answer||wn)))/\(w1.setCell ⟨S,228,none⟩ (.bool (M.answer||wn))).cell? ⟨w.heap.size,1,none⟩=some (.slice fa L.length fc)):=fun w1 hT=>by
  have g:TA own s w S bw bl bi fa L bv M2 (w1.setCell ⟨S,228,none⟩ (.bool (M.answer||wn))):=hT.step fun o l1 v1 h1 _=>by
   have:=h1.ans (M.answer||wn) (cu.one h1.blk 228 (.bool (M.answer||wn)) 228 1 (tL _) (by omega)) (aN l1 228 _ _ h1.cells.c228);rw[h0]at this;rw[U];exact this
  obtain⟨o,l1,v1,h1,h2,F,O,h4⟩:=hT;rw[V]at F;have c228:=h1.cells.c228;rw[h0]at c228;refine⟨by rw[h1.blk.cell];exact c228,h1.blk.frozen 228,F.cell 1,O.fv,g,?_⟩;obtain⟨o,l1,v1,h1,h2,F,O,h4⟩:=g;rw[V]at F;exact F.cell 1
 have X_:M2.why=0:=by rw[U];exact hy
 rw[<-h5,<-U]at hC;rw[<-h5,<-U];obtain⟨fs,h9⟩:∃fs,fs=L.map tT:=⟨_,rfl⟩;rw[<-h9]at hC ⊢;have HC:=hid hC;have MS:=hid (And.intro h9 (And.intro h5 X_));have ho:=hid V;clear h hb hH hg hC h0 U I h9 h5 X_ hy V
 have hv:W.cell? ⟨w.heap.size,0,none⟩=some (.int .u64 n):=by rw[hW];exact(ak.new w 56 [.int .u64 n,.slice fa L.length fc]).cell 0
 go_enter func138,ntmps138;go_wp2;rw[<-hW];clear hW;refine wp_cut {tmps:=#[.pointer (some ⟨S,0,none⟩),.agg #[.int .u64 n,.slice fa L.length fc],undef,.pointer (some ⟨w.heap.size,0,none⟩),.nilIface,undef,undef,.pointer (some ⟨S,0,none⟩),.pointer (some ⟨S,0,none⟩),.pointer (some ⟨S,225,none⟩),.pointer (some ⟨w.heap.size,0,none⟩),.int .u64 n,.pointer (some ⟨w.heap.size,0,none⟩),.int .u64 n,.tuple #[],undef,undef,undef,undef,undef,undef,undef,undef,undef,undef,undef,undef,undef,undef,undef,undef,undef,undef,undef,undef,undef,undef,undef,undef,undef,undef,undef,undef,undef,undef,undef,undef,undef,undef],defers:=[]} (fun w1=>TA own s w S bw bl bi fa L bv M1 w1) ?_ (fun w1 H=>?_)
 ·go_region_with (go_at_call 127;refine(HA.out _).mono ?_;rintro e w1 ⟨rfl,H⟩)
  all_goals exact⟨rfl,H⟩
 obtain⟨k1,k2,k3,k4,k5,k6⟩:=HS.out w1 H
 have HW:Hid (Calls prog 182 #[.slice fa L.length fc] w1 fun e w2=>e=.returned (.bool wn)/\Below w1.heap.size w1 w2):=by
  rw[MS.out.2.1];exact zQ fa L fc w1 (by omega) k4
 have HN:Hid (∀w2,Below w1.heap.size w1 w2->w2.frozen? ⟨S,228,none⟩=false/\w2.cell? ⟨S,228,none⟩=some (.bool M.answer)/\TA own s w S bw bl bi fa L bv M2 (w2.setCell ⟨S,228,none⟩ (.bool (M.answer||wn)))):=fun w2 h8=>by
  obtain⟨a1,a2,a3,a4,a5,a6⟩:=HS.out w2 (H.below h8);exact⟨a2,a1,a5⟩
 have hr:=hid H;clear HS k4 k5 k6 H HA hv
 have h6:Hid (∀w3,TA own s w S bw bl bi fa L bv M2 w3->w3.cell? ⟨w.heap.size,1,none⟩=some (.slice fa L.length fc)):=fun w3 Sc=>by
  obtain⟨o,l1,v1,h1,h2,F,O,h4⟩:=Sc;rw[ho.out]at F;exact F.cell 1
 cases TU:M.answer
 case' false=>
  rw[TU]at HN k1;rw[Bool.false_or]at HN;clear TU
  go_wp2_with (go_at_call 182;refine HW.out.mono ?_;rintro e w2 ⟨rfl,h8⟩;obtain⟨z1,z2,z3⟩:=HN.out w2 h8;have hm:=h6.out _ z3;have h7:=hid z3;clear z3)
 case' true=>
  rw[TU]at HN k1;rw[Bool.true_or]at HN;clear TU;obtain⟨z1,z2,z3⟩:=HN.out w1 (KG _ _);have hm:=h6.out _ z3;have h7:=hid z3;clear z3;go_wp2
 all_goals clear k1 k2 k3 HN HW hr h6
 all_goals go_loopw [30] (fun he wr=>∃(j:Nat) (G:Side),j<=L.length/\he=.int .i64 j/\Hid (jr M2 (fs.take j) G/\TA own s w S bw bl bi fa L bv G wr)) (fun he _=>L.length-(intOf he).toNat)
 all_goals first|exact⟨0,M2,uj _,rfl,⟨rfl,h7.out⟩⟩|skip
 all_goals
  obtain⟨j,G,hj,rfl,HR⟩:=hrel;clear h7 hm
  by_cases X:j<L.length
  ·have x1:(j:Int)<(L.length:Int):=by omega
   have hw:∃b off,fa=some ⟨b,off,none⟩/\∀i,i<10->wr.cell? ⟨b,off+j*10+i,none⟩=(bX (L.getD j dM).1 (j5 (L.getD j dM)))[i]?:=by
    obtain⟨o,l1,v1,h1,h2,F,O,h4⟩:=HR.out.2;exact O.fv j X
   obtain⟨b,off,ha,Z⟩:=hw;obtain⟨W5,qD⟩:∃W5,W5=wr.alloc (.cells (bX (L.getD j dM).1 (j5 (L.getD j dM))).toArray 65):=⟨_,rfl⟩
   have za:Hid (Calls prog 183 #[.pointer (some ⟨S,0,none⟩),bJ (L.getD j dM).1 (j5 (L.getD j dM))] W5 fun e w6=>e=.returned (.int .i64 0)/\∃M',(G.fK (L.getD j dM).1 M' 0/\M'.why=0)/\TA own s w S bw bl bi fa L bv M' w6):=by
    have hu:TA own s w S bw bl bi fa L bv G W5:=HR.out.2.below (by rw[qD];exact(KG _ wr).alloc (tL _) _);obtain⟨o,l1,v1,h1,h2,F,O,h4⟩:=hu;obtain⟨c1,c2,c3⟩:=HC.out G j X HR.out.1;obtain⟨g1,g2,g3⟩:=O.rg j X;have gJ:G.why=0:=(xW _ HR.out.1).trans MS.out.2.2;unfold j5;rw[g2];refine(TT o s S l1 G bw bl bi v1 (L.getD j dM).1 (L.getD j dM).2.1 (L.getD j dM).2.2.2 W5 h1 c2 c1 g1 (fun x F=>(g3 x F).2) c3).mono ?_;rintro e w6 ⟨rfl,M',t1,t2⟩;have hs:=h1.s0;obtain⟨o2,l2,v2,g4,g5⟩:=t2;exact⟨rfl,M',⟨t1,(Ag t1).trans gJ⟩,o2,l2,v2,g4,by rw[g5.ext _ F.lt,h2],aK F g5 (by rw[h2];exact fun e=>by have:=bG.1 e;omega),O.kp g5,h4.trans g5⟩
   have Ja:Hid (fs.take (j+1)=fs.take j++[(L.getD j dM).1]):=by
    show fs.take (j+1)=_;rw[MS.out.1,qa1,Kt,nI X,mR,nI X];rfl
   subst ha;have c0:=Z 0 (by omega);have c1:=Z 1 (by omega);have c2:=Z 2 (by omega);have c3:=Z 3 (by omega);have c4:=Z 4 (by omega);have c5:=Z 5 (by omega);have c6:=Z 6 (by omega);have c7:=Z 7 (by omega);have c8:=Z 8 (by omega);have c9:=Z 9 (by omega);clear Z;generalize L.getD j dM=FF at *;obtain⟨f,r1,r2,r3⟩:=FF;unfold bJ at za;unfold bX at qD;simp only[j5,List.getElem?_cons_zero,List.getElem?_cons_succ,Nat.add_zero]at c0 c1 c2 c3 c4 c5 c6 c7 c8 c9 za qD
   go_wp2_with (first
    |(go_at_call 183;rw[<-qD];refine za.out.mono ?_;rintro e w6 ⟨rfl,M',hc,hf⟩;obtain⟨z1,z2,z3,z4⟩:=hf.why hc.2;have HZ:=hid (And.intro hc.1 z3);clear z3 hf hc)
    |(go_at_call 137;refine(rF S 0 _ z4).mono ?_;rintro e w7 ⟨rfl,x0⟩;have Zl:=x0.symm;subst Zl))
   go_roundw
   case rel=>exact⟨j+1,M',by omega,by simp,⟨by rw[Ja.out];exact uT _ _ HR.out.1 HZ.out.1,HZ.out.2⟩⟩
   case measure=>simp[intOf];omega
  ·obtain rfl:j=L.length:=by omega
   go_wp2;go_ret;refine⟨rfl,G,?_,?_⟩
   ·have:=HR.out.1;rw[MS.out.1,qaa (by simp)]at this;rw[MS.out.1];exact this
   ·obtain⟨o,l1,v1,h1,h2,F,O,h4⟩:=HR.out.2;exact⟨o,l1,v1,h1,h4⟩
end
theorem Ms{A B:Side}{f:Fr}(h:kH A B f)(hs:snd f=true):kH A B (norm f):=by
 have e:=norm_eq f hs
 rcases h with⟨k,h1,F⟩|⟨k,h1,F,h3⟩|⟨k,h1⟩|⟨k,h1,F,h3⟩
 ·rw[e,if_neg (by omega),if_pos k];exact .inl ⟨rfl,h1,F⟩
 ·rw[e,if_neg (by omega),if_neg (by omega),if_neg (by omega),if_pos k];exact .inr (.inl ⟨rfl,h1,F,h3.e,h3.b,h3.d,h3.fin,h3.ne⟩)
 ·rw[e,if_neg (by omega),if_neg (by omega),if_neg (by omega),if_neg (by omega),if_pos k];exact .inr (.inr (.inl ⟨rfl,h1⟩))
 ·rw[e,if_neg (by omega),if_neg (by omega),if_neg (by omega),if_neg (by omega),if_neg (by omega),if_pos k];exact .inr (.inr (.inr ⟨rfl,h1,F,h3⟩))
theorem Mt(f:Fr)(hs:snd f=true):norm (norm f)=norm f:=by
 have F:=norm_eq f hs;have G:=norm_eq (norm f) (xu f hs);rw[zU f hs]at G;rw[G]
 rcases jU hs with k|k|k|k|k|k|k|k<;>rw[k]at F ⊢<;>rw[F]<;>rfl
structure Eu (aH:Nat) (A B:Side) (y:Nat×List Fr):Prop where
 dec:kL true y.1 y.2 (aD y.1 y.2)
 nm:y.2.map norm=y.2
 ln:y.2.length<=400
 sz:(aD y.1 y.2).length<=aH
 ps:0<(aD y.1 y.2).length
 lt:y.1<A.next
 fr:∀f∈y.2,kH A B f
theorem Eu.mono{aH:Nat}{A B A' F:Side}{y:Nat×List Fr}(h:Eu aH A B y)(G:yT A A')(hb:yT B F):Eu aH A' F y:=
 ⟨h.dec,h.nm,h.ln,h.sz,h.ps,Lb h.lt G.next,fun f H=>(h.fr f H).mono G hb⟩
theorem Cm{aH:Nat}{A B:Side}{x:Nat×List Fr}(h:PkF aH x)(X:x.1<A.next)(V:∀f∈x.2,kH A B f):Eu aH A B (x.1,x.2.map norm)/\aD x.1 (x.2.map norm)=aD x.1 x.2:=by
 obtain⟨p1,p2,I⟩:=Qc x.1 x.2 h.sn;obtain⟨Z,q2,q3⟩:=yE p1;have F:=mH x.1 x.2;refine⟨⟨?_,?_,?_,?_,?_,X,fun f G=>?_⟩,I⟩
 ·unfold kL;rw[if_pos rfl];refine⟨by show x.1<_;unfold aU at q2;omega,fun j U=>⟨Z j U,?_⟩,q3,by have:=h.ln;show(x.2.map norm).length<=_;rw[Vh];omega,rfl⟩
  have H:j<x.2.length:=by simpa using U
  show iT ((x.2.map norm).getD j dW);rw[mR,Kt,nI H];have g:=h.fs _ (M4 H);exact Je _ g.sn g.ok
 ·show(x.2.map norm).map norm=x.2.map norm;rw[qan]
  exact List.map_congr_left fun f G=>Mt f (h.fs f G).sn
 ·show(x.2.map norm).length<=400;rw[Vh];exact h.ln
 ·show(aD x.1 (x.2.map norm)).length<=aH;rw[I,F];exact h.sz
 ·show 0<(aD x.1 (x.2.map norm)).length;rw[I,F];omega
 ·obtain⟨g,O,rfl⟩:=List.mem_map.1 G;exact Ms (V g O) (h.fs g O).sn
structure Net where
 x:Nat->Side
 bD:List (Nat×Nat×List Fr)
 now:Nat
 cnt:Nat->Nat
def Net.bK(n:Net)(i:Nat)(M:Side):Net:={n with x:=fun j=>if j=i then M else n.x j}
structure dx (aH:Nat) (n:Net):Prop where
 loc:∀i,i<2->dh (n.x i)
 two:∀i,i<2->bF (n.x i) (n.x (1-i))
 bd:∀i,i<2->Bd (n.x i)
 mt:∀i,i<2->(n.x i).aH=aH
 ct:∀i,i<2->n.cnt i=(n.x i).next
 bD:∀y∈n.bD,y.1<2/\Eu aH (n.x (1-y.1)) (n.x y.1) y.2
theorem bT(n:Net)(i:Nat)(M:Side):(n.bK i M).x i=M:=if_pos rfl
theorem dV(n:Net)(i j:Nat)(M:Side)(h:j≠i):(n.bK i M).x j=n.x j:=if_neg h
theorem dx.two'{aH:Nat}{n:Net}(h:dx aH n)(i:Nat)(hi:i<2):bF (n.x (1-i)) (n.x i):=by
 have:=h.two (1-i) (by omega);rwa[show 1-(1-i)=i by omega]at this
theorem dx.set{aH:Nat}{n:Net}(h:dx aH n)(i:Nat)(hi:i<2)(M:Side)(s:Stp (n.x i) (n.x (1-i)) M)(b:Bd M)(m:M.aH=(n.x i).aH)(c:Nat->Nat)(I:∀j,j<2->c j=if j=i then M.next else n.cnt j):dx aH {n.bK i M with cnt:=c}:=by
 have H:(n.bK i M).x (1-i)=n.x (1-i):=dV _ _ _ _ (by omega)
 have G:∀j,j<2->j=i\/j=1-i:=fun j G=>by omega
 have le:∀j,yT (n.x j) ((n.bK i M).x j):=fun j=>by
  by_cases e:j=i
  ·rw[e,bT];exact s.le
  ·rw[dV _ _ _ _ e];exact yT.refl _
 refine⟨fun j F=>?_,fun j F=>?_,fun j F=>?_,fun j F=>?_,fun j F=>?_,fun y O=>⟨(h.bD y O).1,(h.bD y O).2.mono (le _) (le _)⟩⟩
 ·rcases G j F with rfl|rfl
  ·show dh ((n.bK _ M).x _);rw[bT];exact s.loc
  ·show dh ((n.bK i M).x (1-i));rw[H];exact h.loc _ F
 ·rcases G j F with rfl|rfl
  ·show bF ((n.bK j M).x j) ((n.bK j M).x (1-j));rw[bT,H];exact s.ab
  ·show bF ((n.bK i M).x (1-i)) ((n.bK i M).x (1-(1-i)));rw[show 1-(1-i)=i by omega,bT,H];exact s.ba
 ·rcases G j F with rfl|rfl
  ·show Bd ((n.bK _ M).x _);rw[bT];exact b
  ·show Bd ((n.bK i M).x (1-i));rw[H];exact h.bd _ F
 ·rcases G j F with rfl|rfl
  ·show((n.bK _ M).x _).aH=aH;rw[bT,m];exact h.mt _ F
  ·show((n.bK i M).x (1-i)).aH=aH;rw[H];exact h.mt _ F
 ·rcases G j F with rfl|rfl
  ·show c _=((n.bK _ M).x _).next;rw[bT,I _ F,if_pos rfl]
  ·show c _=((n.bK i M).x (1-i)).next;rw[H,I _ F,if_neg (by omega)];exact h.ct _ F
theorem dx.add{aH:Nat}{n:Net}(h:dx aH n)(l:List (Nat×Nat×List Fr))(hl:∀y∈l,y.1<2/\Eu aH (n.x (1-y.1)) (n.x y.1) y.2):dx aH {n with bD:=n.bD++l}:=
 ⟨h.loc,h.two,h.bd,h.mt,h.ct,fun y F=>(Gl.1 F).elim (h.bD y) (hl y)⟩
theorem dx.sub{aH:Nat}{n:Net}(h:dx aH n)(l:List (Nat×Nat×List Fr))(hl:∀y∈l,y∈n.bD)(t:Nat):dx aH {n with bD:=l,now:=t}:=
 ⟨h.loc,h.two,h.bd,h.mt,h.ct,fun y F=>h.bD y (hl y F)⟩
def Net.new(aH window total:Nat):Net:=⟨fun _=>Side.new aH window total,[],0,fun _=>0⟩
theorem Ev(aH window total:Nat)(F:64<=aH/\aH<=400)(G:window<=4096)(ht:total<=4096):dx aH (Net.new aH window total):=
 ⟨fun _ _=>SK aH window total (by unfold aU;omega) (by unfold aU;omega),fun _ _=>SL aH window total,fun _ _=>WG aH window total F G ht,fun _ _=>rfl,fun _ _=>rfl,fun y H=>by cases H⟩
theorem Aq(n:Nat):1<=(Num.bytes n).length:=by
 rw[Num.dJ];exact Nat.one_le_two_pow
theorem Ew(rs:List (Nat×Nat)):∀k,k<=(dZ rs k).length
 |0=>uj _
 |k+1=>by
  rw[dZ,wz,wz];have:=Ew rs k;have:=Aq ((rs.getD k (0,0)).1-(rs.getD (k+1) (0,0)).2-2);omega
theorem Xb(f:Fr)(h:f.kind=2):f.ranges.length<=(aB f).length:=by
 have e:aB f=[]++[UInt8.ofNat 2]++cO f.ranges:=by
  unfold aB aQ;rw[if_neg (by omega),if_pos h];rfl
 rw[e];unfold cO gT;have:=Ew f.ranges (f.ranges.length-1);have:=Aq (f.ranges.getD 0 (0,0)).2;simp only[wz];omega
theorem JF:∀(l:List Fr) (f:Fr),f∈l->(aB f).length<=Jy l
 |g::t,f,h=>by
  have e:Jy (g::t)=(aB g).length+Jy t:=by simp[Jy]
  rcases qa0.1 h with rfl|h
  ·omega
  ·have:=JF t f h;omega
theorem Eu.rng{aH:Nat}{A B:Side}{y:Nat×List Fr}(h:Eu aH A B y)(I:aH<=400):∀f∈y.2,f.kind=2->f.ranges.length<=1000000:=fun f G k=>by
 have h1:=Xb f k;have H:=JF _ f G;have F:=h.sz;rw[mH,pq]at F;omega
theorem Xc{A B:Side}(I:dh A)(hB:dh B)(h1:bF A B)(H:bF B A)(G:Bd B){f:Fr}(F:kH B A f)(hl:f.kind=2->f.ranges.length<=1000000):FrC A f:=by
 refine⟨F.kd,fun k=>?_,fun k=>?_,fun k=>?_,fun k=>(Ji I hB h1 H f F).1⟩
 ·rcases F with⟨_,p,q⟩|⟨e,_⟩|⟨e,_⟩|⟨e,_⟩
  ·exact⟨List.length_pos_iff.2 p,hl k,q⟩
  ·omega
  ·omega
  ·omega
 ·rcases F with⟨e,_⟩|⟨_,p,q,_⟩|⟨e,_⟩|⟨_,p,q,_⟩
  ·omega
  ·exact⟨p,q⟩
  ·omega
  ·exact⟨p,q⟩
 ·rcases F with⟨e,_⟩|⟨_,p,q,d⟩|⟨e,_⟩|⟨e,_⟩
  ·omega
  ·exact qad d.b (G.o _).b
  ·omega
  ·omega
theorem Ar:∀(fs:List Fr) {A B A':Side},dh A->dh B->bF A B->bF B A->Bd A->Bd B->(∀f∈fs,kH B A f)->jr A fs A'->Stp A B A'/\Bd A'/\A'.next=A.next
 |[],A,B,A',hA,hB,h1,h2,bA,bB,_,h=>by
  cases h;exact⟨gN hA h1 h2,bA,rfl⟩
 |f::t,A,B,A',hA,hB,h1,h2,bA,bB,hf,h=>by
  obtain⟨H,r,h⟩:=h;obtain⟨_,s,b,n,m⟩:=D6 hA hB h1 h2 bA bB f (hf f (by simp)) r;obtain⟨G,b2,n2⟩:=Ar t s.loc hB s.ab s.ba b bB (fun g F=>(hf g (by simp[F])).mono (yT.refl _) s.le) h;exact⟨s.trans G,b2,n2.trans n⟩
theorem Yt{aH:Nat}{A B:Side}(Z:dh A)(hB:dh B)(h1:bF A B)(X:bF B A)(F:Bd A)(V:Bd B){y:Nat×List Fr}(h:Eu aH B A y)(hm:B.next<=aU)(O:A.next<=aU)(U:aH<=400):
  ∀H j,j<y.2.length->jr {A with came:=A.came.add 8 y.1 y.1,answer:=A.answer||wants y.2} (y.2.take j) H->FrC H (y.2.getD j dW)/\Bd H/\H.next<=aU:=by
 intro H j hj ht;have s:=DN Z h1 X y.1 h.lt (A.answer||wants y.2)
 obtain⟨I,b2,n2⟩:=Ar (y.2.take j) s.loc hB s.ab s.ba (A:={A with came:=A.came.add 8 y.1 y.1,answer:=A.answer||wants y.2})
  ⟨F.o,F.i,F.g,F.lm,F.mt,F.wy,F.ls,F.ky,F.wl,F.ll,F.nm,Jl F.cm y.1 (by have:=h.lt;omega),F.tk⟩ V (fun g hg=>(h.fr g (qab hg)).mono (yT.refl _) s.le) ht
 have G:y.2.getD j dW∈y.2:=by rw[mR,nI hj];exact M4 _
 exact⟨Xc I.loc hB I.ab I.ba V ((h.fr _ G).mono (yT.refl _) (s.trans I).le) (h.rng U _ G),b2,by rw[n2];exact O⟩
theorem T_{B:Nat}{w:World}{sv:Value}{gs:List Fr}{v9:Nat->Value}(h:qU B w sv gs v9 gs.length)(V:∀j,j<gs.length->iT (gs.getD j dW))(own:Own)(s:Nat)(hs:0<s)(ho:∀b,B<=b->own b=0):
  ∃fa H,∃L:List FV,sv=.slice fa L.length H/\L.map tT=gs/\uU own s w fa L:=by
 obtain⟨fa,H,rfl,hF⟩:=h.II V
 have h0:(0:Nat)∉T0 s:=fun e=>by have:=bG.1 e;omega
 obtain⟨L,U⟩:∃L:List FV,L=(List.range gs.length).map fun j=>(gs.getD j dW,Np (v9 j),(gs.getD j dW).ranges.length,RY (v9 j)):=⟨_,rfl⟩
 have hl:L.length=gs.length:=by rw[U];simp
 have hg:∀j,j<gs.length->L.getD j dM=(gs.getD j dW,Np (v9 j),(gs.getD j dW).ranges.length,RY (v9 j)):=fun j F=>by
  rw[U,mR,Kt,List.getElem?_range F];rfl
 have hm:L.map tT=gs:=by
  rw[U,qan]
  refine List.ext_getElem (by simp) fun j h1 h2=>?_
  simp[mR,h2]
 refine⟨fa,H,L,by rw[hl],hm,⟨Sg.YX hF.weak L hl hg,fun x I=>?_,fun j F=>?_⟩⟩
 ·subst I;have Z:(Value.slice (some x) gs.length H).ownBlock=some x.block:=rfl;exact⟨h.buf.lt _ Z,by rw[ho _ (h.own _ Z)];exact h0⟩
 ·rw[hl]at F;rw[hg j F];obtain⟨b,off,_,h1,h2,h3⟩:=hF j F;obtain⟨g1,O,_⟩:=h.rng j F;refine⟨h1.rng,rfl,fun x I=>⟨h3 x I,?_⟩⟩;obtain⟨a,c,e,_⟩:=g1.shape;have G:Np (v9 j)=some x:=I;rw[e]at G O;have X:a=some x:=G;rw[X]at O;rw[ho _ (O x.block rfl)];exact h0
theorem G_(own:Own)(s:Nat)(S:Nat)(l:List Value)(M:Side)(bw bl bi:Nat)(vc:Value)(n:Nat)(fs:List Fr)(yb yo cap:Nat)(lb:List UInt8)(w:World)(h:bM own s w S l M bw bl bi vc)(hb:Bd M)(hy:M.why=0)(hn:n<=aU)(hD:kL true n fs lb)(hg:fs.map norm=fs)(hv:fs.length<=1000000)(he:BytesAt w (some ⟨yb,yo,none⟩) lb)(h5:lb.length<=1000000000)(V:lb.length<=cap)(h4:cap<=9223372036854775807)(hm:yb<w.heap.size)(hT:TabAt w)(h2:2<=w.heap.size)(hC:∀Mj j,j<fs.length->jr {M with came:=M.came.add 8 n n,answer:=M.answer||wants fs} (fs.take j) Mj->FrC Mj (fs.getD j dW)/\Bd Mj/\Mj.next<=aU):
  Calls prog 104 #[.pointer (some ⟨S,0,none⟩),.slice (some ⟨yb,yo,none⟩) lb.length cap] w fun e w'=>e=.returned .nilIface/\∃X,M.h_ n fs X 0/\fQ s own w S bw bl bi X w':=by
 have HO:=hid (rF S M.why w (by rw[h.blk.cell];exact h.cells.j_));rw[hy]at HO
 have hk:∀j,j<fs.length->iT (fs.getD j dW):=fun j hj=>by
  unfold kL at hD;rw[if_pos rfl]at hD;exact(hD.2.1 j hj).2
 have ha:Hid (Calls prog 69 #[.slice (some ⟨yb,yo,none⟩) lb.length cap] w fun e w1=>∃fa fc,∃L:List FV,e=.returned (.tuple #[.agg #[.int .u64 n,.slice fa L.length fc],.nilIface])/\Hid (L.map tT=fs/\∃Z,bM Z s w1 S l M bw bl bi vc/\uU Z s w1 fa L/\Kp [] own Z w w1)):=by
  refine(jW true n fs yb yo cap lb w hD he h5 V h4 hm hT h2).mono ?_;rintro e w1 ⟨sv,err,rfl,hR,U⟩;unfold jV at hR;rw[if_pos rfl]at hR;obtain⟨rfl,v9,hc⟩:=hR;rw[hg]at hc;have K:Kp [] own (loc own w.heap.size) w w1:=⟨U.os,U.tape,U.output,U.size,fun x hx _=>U.block x hx,fun x hx=>fH _ _ _ hx⟩;obtain⟨fa,fc,L,rfl,hL,hH⟩:=T_ hc hk (loc own w.heap.size) s h.s0 (fun b hb=>eT _ _ _ (by omega));exact⟨fa,fc,L,rfl,hL,_,h.kp K (by simp),hH,K⟩
 have kJ:=hid (And.intro hb (And.intro hy hC));clear h hb hy hD he h5 V h4 hm hT h2 hC hk hg;generalize lb.length=ll at *;go_enter func104,ntmps104
 go_wp2_with (first
  |(go_at_call 137;refine HO.out.mono ?_;rintro e w' ⟨rfl,h7⟩;have h8:=h7.symm;subst h8)
  |(go_at_call 69;refine ha.out.mono ?_;rintro e w1 ⟨fa,fc,L,rfl,H1⟩)
  |(go_at_call 71;refine(TY _).mono ?_;rintro e w' ⟨rfl,h7⟩;have h8:=h7.symm;subst h8))
 obtain⟨H,h0⟩:∃H,H=w1.alloc (.cells #[.int .u64 n,.slice fa L.length fc] 56):=⟨_,rfl⟩
 have h3:ak H w1.heap.size 56 [.int .u64 n,.slice fa L.length fc]:=by rw[h0];exact ak.new w1 56 _
 have I:Below w1.heap.size w1 H:=by rw[h0];exact(KG _ w1).alloc (tL _) _
 have x0:H.cell? ⟨w1.heap.size,0,none⟩=some (.int .u64 n):=h3.cell 0
 have HH:Hid (∀q,Calls prog 128 #[.pointer (some ⟨S,225,none⟩),.int .u64 n] (H.drewN q) fun e G=>e=.returned (.bool (M.came.has n))/\Below H.heap.size H G):=fun q=>by
  obtain⟨hL,Z,g1,g2,g3⟩:=H1.out;have O:bM Z s (H.drewN q) S l M bw bl bi vc:=g1.below (lG I);refine(R6 (s+41) Z S 225 n l 8 M.came.fl M.came.rs vc (H.drewN q) O.blk O.cells.nP O.cells.c226 O.cells.c227 O.row kJ.out.1.cm.so (by have:=kJ.out.1.cm.ln;omega)).mono ?_;rintro e G ⟨rfl,F⟩;exact⟨rfl,nW F⟩
 have HT:Hid (∀G,Below H.heap.size H G->M.came.has n=false->Calls prog 138 #[.pointer (some ⟨S,0,none⟩),.agg #[.int .u64 n,.slice fa L.length fc]] G fun e w'=>e=.returned .nilIface/\∃X,M.h_ n fs X 0/\fQ s own w S bw bl bi X w'):=fun G F hh=>by
  obtain⟨hL,Z,g1,g2,g3⟩:=H1.out;obtain⟨hb,hy,hC⟩:=kJ.out;have L_:Below w1.heap.size w1 G:=I.trans (F.mono I.size)
  have hw:L.length=fs.length:=by rw[<-hL,Vh]
  refine(G8 Z s S l M bw bl bi vc n fa L fc G (g1.below L_) hb hn (g2.kp (Kp.below L_)) (by rw[hw];exact hv) hy (fun Mj j hj hr=>?_)).mono ?_
  ·rw[hL]at hr;have:=hC Mj j (by omega) hr
   have e:(L.getD j dM).1=fs.getD j dW:=by
    rw[<-hL,mR,mR,Kt,nI hj];rfl
   rw[e];exact this
  ·rintro e w' ⟨rfl,X,t1,o2,l2,v2,t2,t3⟩;rw[hL]at t1;refine⟨rfl,X,?_,o2,l2,v2,t2,(g3.mono (by simp)).trans ((Kp.below L_).trans t3)⟩;unfold Side.h_;rw[if_neg (by rw[hh];simp)];exact xV fs t1
 have HN:Hid (∀G,Below H.heap.size H G->M.came.has n=true->∃X,M.h_ n fs X 0/\fQ s own w S bw bl bi X G):=fun G F hh=>by
  obtain⟨hL,Z,g1,g2,g3⟩:=H1.out;have L_:Below w1.heap.size w1 G:=I.trans (F.mono I.size);refine⟨M,?_,Z,l,vc,g1.below L_,(g3.mono (by simp)).trans (Kp.below L_)⟩;unfold Side.h_;rw[if_pos hh];exact⟨rfl,rfl⟩
 have hu:=hid h3;have hf:w1.heap.size<H.heap.size:=h3.lt;clear H1 kJ h3 I ha HO;rw[<-h0];clear h0;cases hh:M.came.has n
 ·rw[hh]at HH
  have ho:=hid fun G F=>HT.out G F hh
  clear HT HN hh
  go_region_with (go_at_call 128;refine(HH.out _).mono ?_;rintro e G ⟨rfl,F⟩;have h9:=hu.out.of_heap (F.block _ hf);have y0:G.cell? ⟨w1.heap.size,0,none⟩=some (.int .u64 n):=h9.cell 0;have y1:G.cell? ⟨w1.heap.size,1,none⟩=some (.slice fa L.length fc):=h9.cell 1;have h6:=hid F;clear F h9)
  all_goals(
   go_wp2_with (go_at_call 138;refine(ho.out _ h6.out).mono ?_;rintro e w4 ⟨rfl,HE⟩;have HE:=hid HE)
   go_ret
   exact⟨rfl,HE.out⟩)
 ·rw[hh]at HH
  have CP:=hid fun G F=>HN.out G F hh
  clear HT HN hh
  go_region_with (go_at_call 128;refine(HH.out _).mono ?_;rintro e G ⟨rfl,F⟩;have h6:=hid F;clear F)
  all_goals(
   go_wp2;go_ret
   exact⟨rfl,CP.out _ h6.out⟩)
theorem xX(S:Nat)(yb yo cap:Nat)(lb:List UInt8)(w:World)(hy:w.cell? ⟨S,238,none⟩=some (.int .i64 ((0:Nat):Int)))(hD:kL false 0 [] lb)(X:BytesAt w (some ⟨yb,yo,none⟩) lb)(H:lb.length<=1000000000)(F:lb.length<=cap)(G:cap<=9223372036854775807)(Z:yb<w.heap.size)(hT:TabAt w)(h2:2<=w.heap.size):
  Calls prog 104 #[.pointer (some ⟨S,0,none⟩),.slice (some ⟨yb,yo,none⟩) lb.length cap] w fun e w'=>e=.returned (.iface 57 (.int .i64 7))/\Below w.heap.size w w':=by
 have HO:=hid (rF S 0 w hy)
 have h4:∀w,(binOp .neq 94 (.iface 57 (.int .i64 7)) .nilIface).run prog w=.ok (.bool true) w:=fun _=>by kernel_rfl
 have h0:Hid (Calls prog 69 #[.slice (some ⟨yb,yo,none⟩) lb.length cap] w fun e w1=>e=.returned (.tuple #[.agg #[.int .u64 0,.slice none 0 0],.iface 57 (.int .i64 7)])/\Below w.heap.size w w1):=by
  refine(jW false 0 [] yb yo cap lb w hD X H F G Z hT h2).mono ?_;rintro e w1 ⟨sv,err,rfl,hR,h3⟩;unfold jV at hR;rw[if_neg (by decide)]at hR;obtain⟨_,rfl,rfl⟩:=hR;exact⟨rfl,h3⟩
 clear hD X H F G Z hT h2;generalize lb.length=ll at *;go_enter func104,ntmps104
 go_wp2_with (first
  |(go_at_call 137;refine HO.out.mono ?_;rintro e w' ⟨rfl,I⟩;have O:=I.symm;subst O)
  |(go_at_call 69;refine h0.out.mono ?_;rintro e w1 ⟨rfl,V⟩;have U:=hid V;clear V)
  |(go_at_call 71;refine(T9 _).mono ?_;rintro e w' ⟨rfl,I⟩;have O:=I.symm;subst O))
 go_ret;exact⟨rfl,U.out.alloc U.out.size _⟩
section
def Cy(W:World)(g n:Nat):Prop:=∃C fr,W.heap[g]?=some (.cells C 5 fr)/\n<=C.size/\(n<=fr.1\/fr.2=0)
theorem Cy.lt{W:World}{g n:Nat}(h:Cy W g n):g<W.heap.size:=by
 obtain⟨C,fr,h1,_⟩:=h;exact(Array.getElem?_eq_some_iff.1 h1).1
theorem Cy.of_heap{W F:World}{g n:Nat}(h:Cy W g n)(e:F.heap[g]?=W.heap[g]?):Cy F g n:=by
 obtain⟨C,fr,h1,G⟩:=h;exact⟨C,fr,e.trans h1,G⟩
theorem Cy.cell{W:World}{g n:Nat}(h:Cy W g n)(j:Nat)(H:j<n):(∃v,W.cell? ⟨g,j,none⟩=some v)/\W.frozen? ⟨g,j,none⟩=false:=by
 obtain⟨C,fr,h1,F,G⟩:=h;refine⟨⟨C[j]'(by omega),?_⟩,?_⟩
 ·simp only[qah,h1];exact Array.getElem?_eq_getElem (by omega)
 ·simp only[World.frozen?,h1];simp;omega
theorem Cy.set{W:World}{g n:Nat}(h:Cy W g n)(j:Nat)(v:Value):Cy (W.setCell ⟨g,j,none⟩ v) g n:=by
 obtain⟨C,fr,h1,F,G⟩:=h;refine⟨C.setIfInBounds j v,fr,?_,by rw[Array.size_setIfInBounds];exact F,G⟩;simp[World.setCell,Array.getElem?_modify,h1]
theorem nY(w:World)(s:ByteArray)(hs:s.size<=1000000000):∃c I,(convert 9 60 (.string s)).run prog w=.ok (.slice (some ⟨w.heap.size,0,none⟩) s.size c) I/\s.size<=c/\c<=9223372036854775807/\Below w.heap.size w I/\BytesAt I (some ⟨w.heap.size,0,none⟩) s.data.toList/\Cy I w.heap.size s.size:=by
 have h:=run_bytes_of_string (P:=prog) w 9 60 5 s u9 u29 (by kernel_rfl);have hsz:s.data.size=s.size:=rfl;have O:=grownCap_ge w s.size 0 5
 have F:(w.drew.alloc (.cells (bytesRow s (grownCap w s.size 0 5)) 5 ((bytesRow s (grownCap w s.size 0 5)).size,(bytesRow s (grownCap w s.size 0 5)).size+1))).heap[w.heap.size]?=some (.cells (bytesRow s (grownCap w s.size 0 5)) 5 ((bytesRow s (grownCap w s.size 0 5)).size,(bytesRow s (grownCap w s.size 0 5)).size+1)):=by
  show(w.heap.push _)[w.heap.size]?=_;simp
 have G:s.size<=(bytesRow s (grownCap w s.size 0 5)).size:=by
  unfold bytesRow;rw[Array.size_append,Array.size_map,hsz];omega
 refine⟨_,_,h,O,grownCap_le_maxLen w s.size 0 5 (by unfold maxLen;omega),((KG _ w).drew).alloc (tL _) _,fun j U=>⟨_,0,rfl,?_⟩,⟨_,_,F,G,.inl G⟩⟩
 have H:j<s.data.size:=by simpa using U
 rw[qa5];simp only[qah,F];unfold bytesRow;rw[Array.getElem?_append_left (by simpa using H)];simp only[Array.getElem?_map,Array.getElem?_eq_getElem H,qak,Array.getElem_toList];rfl
def SS(own:Own)(s:Nat)(w:World)(S bw bl bi n:Nat)(M':Side)(y:World):Prop:=
 ∃aL l2 F,bM aL s y S l2 M' bw bl bi F/\aL w.heap.size=0/\Cy y w.heap.size n/\Kp (T0 s) own aL w y
section
variable {own:Own} {s:Nat} {w:World} {S bw bl bi n:Nat} {M':Side} {y:World}
theorem SS.set(h:SS own s w S bw bl bi n M' y)(j:Nat)(v:Value):SS own s w S bw bl bi n M' (y.setCell ⟨w.heap.size,j,none⟩ v):=by
 obtain⟨o,l2,O,h1,G,H,F⟩:=h;have K:Kp [0] o o y (y.setCell ⟨w.heap.size,j,none⟩ v):=Kp.set o y _ v [0] (by rw[G];simp);have hs:=h1.s0;exact⟨o,l2,O,h1.kp K (fun x a b e=>by simp at e;omega),G,H.set j v,⟨F.os,F.tape,F.output,by simpa using F.size,fun b hb I=>(Xw _ _ _ _ (by simp;omega)).trans (F.blk b hb I),F.ext⟩⟩
theorem SS.step{H:Side}{y':World}(h:SS own s w S bw bl bi n M' y)(k:∀I l1 U,bM I s y S l1 M' bw bl bi U->fQ s I y S bw bl bi H y'):SS own s w S bw bl bi n H y':=by
 obtain⟨o,l1,v1,h1,O,G,X⟩:=h;obtain⟨Z,l2,v2,V,F⟩:=k o l1 v1 h1;have hs:=h1.s0;exact⟨Z,l2,v2,V,by rw[F.ext _ G.lt,O],G.of_heap (F.blk _ G.lt (by rw[O];exact fun e=>by have:=bG.1 e;omega)),X.trans F⟩
theorem SS.below{y':World}(h:SS own s w S bw bl bi n M' y)(hb:Below y.heap.size y y'):SS own s w S bw bl bi n M' y':=h.step fun _ _ _ g=>fQ.refl g hb
theorem SS.err(h:SS own s w S bw bl bi n M' y)(F:dP w)(G:own 0∉T0 s):dP y:=by
 obtain⟨o,l1,U,h1,I,O,H⟩:=h;exact cell_of F (H.blk 0 (DJ w ⟨0,0,none⟩ (by unfold dP at F;rw[F])) G)
theorem SS.q(h:SS own s w S bw bl bi n M' y):fQ s own w S bw bl bi M' y:=by
 obtain⟨o,l1,G,h1,H,I,F⟩:=h;exact⟨o,l1,G,h1,F⟩
end

theorem Hl{own:Own}{s:Nat}{w W:World}{S bw bl bi n:Nat}{l:List Value}{M:Side}{vc:Value}(h:bM own s w S l M bw bl bi vc)(hb:Below w.heap.size w W)(G:Cy W w.heap.size n):SS own s w S bw bl bi n M W:=by
 have K:Kp [] own (loc own w.heap.size) w W:=⟨hb.os,hb.tape,hb.output,hb.size,fun x F _=>hb.block x F,fun x F=>fH _ _ _ F⟩;exact⟨_,l,vc,h.kp K (by simp),eT _ _ _ (tL _),G,K.mono (by simp)⟩
theorem Ue(own:Own)(s:Nat)(C S:Nat)(l:List Value)(M:Side)(bw bl bi:Nat)(vc:Value)(k:Nat)(hk:k<8)(data:ByteArray)(hd:data.size<=1000000000)(w:World)(h:bM own s w S l M bw bl bi vc)(hc:w.cell? ⟨C,0,none⟩=some (.pointer (some ⟨S,0,none⟩)))(hy:M.why=0)(hl:(M.out k).bytes.length<=2048)(hE:dP w)(h0:own 0∉T0 s):
  Calls prog 34 #[.pointer (some ⟨C,0,none⟩),.int .i64 k,.string data] w fun e w'=>e=.returned (.int .i64 (((M.out k).send data.data.toList).2:Int))/\fQ s own w S bw bl bi (M.aW k ((M.out k).send data.data.toList).1) w':=by
 obtain⟨cp,W,he,h8,h9,O,X,h5⟩:=nY w data hd;have h6:C<w.heap.size:=DJ w ⟨C,0,none⟩ (by rw[hc]);have I:=Hl h O h5
 have F:data.data.toList.length=data.size:=by simp
 obtain⟨G,H⟩:∃G,G=M.aW k ((M.out k).send data.data.toList).1:=⟨_,rfl⟩
 have HC:Hid (Calls prog 61 #[.pointer (some ⟨C,0,none⟩),.int .i64 k,.slice (some ⟨w.heap.size,0,none⟩) data.size cp] W fun e w1=>∃x,e=.returned x/\x=l9 ((M.out k).send data.data.toList).2/\SS own s w S bw bl bi data.size G w1):=by
  refine Ub C S W (cell_of hc (O.block _ h6)) k _ (fun x w1=>x=l9 ((M.out k).send data.data.toList).2/\SS own s w S bw bl bi data.size G w1) ?_;have hf:=I;obtain⟨o,l1,v1,h1,h2,V,h4⟩:=I;have:=Sz o s S l1 M bw bl bi v1 k hk data.data.toList ⟨w.heap.size,0,none⟩ cp W h1 hy hl X (by rw[F];exact hd);rw[F]at this;refine this.mono ?_;rintro e w1 ⟨rfl,q⟩;refine⟨_,rfl,rfl,?_⟩;obtain⟨o2,l2,v2,g1,g2⟩:=q;have hs:=h1.s0;rw[H];exact⟨o2,l2,v2,g1,by rw[g2.ext _ V.lt,h2],V.of_heap (g2.blk _ V.lt (by rw[h2];exact fun e=>by have:=bG.1 e;omega)),h4.trans g2⟩
 have HN:Hid (∀w1,SS own s w S bw bl bi data.size G w1->Calls prog 60 #[l9 ((M.out k).send data.data.toList).2] w1 fun r w2=>r=.returned (.int .i64 (((M.out k).send data.data.toList).2:Int))/\SS own s w S bw bl bi data.size G w2):=fun w1 hq=>by
  refine(xY _ (Ud _ _) w1 (hq.err hE h0)).mono ?_;rintro e w2 ⟨rfl,hb⟩;exact⟨rfl,hq.below hb⟩
 rw[<-H];clear h hc hy hl hE h0 I O X h5 H F;generalize ((M.out k).send data.data.toList).2=en at *;generalize data.size=n at *;go_enter func34,ntmps34
 go_wp2_with (first
  |(go_at_call 61;refine HC.out.mono ?_;rintro e w1 ⟨x,rfl,rfl,hq⟩)
  |(go_at_call 60;refine(HN.out _ hq).mono ?_;rintro e w2 ⟨rfl,Z⟩;have U:=hid Z;clear Z))
 clear HC HN hq
 go_loopw [19] (fun Bo wr=>∃j:Nat,j<=n/\Bo=.int .i64 j/\Hid (SS own s w S bw bl bi n G wr)) (fun Bo _=>n-(intOf Bo).toNat)
 case atStart=>exact⟨0,uj _,rfl,U⟩
 case round=>
  obtain⟨j,hj,rfl,HR⟩:=hrel;clear U
  by_cases h7:j<n
  ·have ha:(j:Int)<(n:Int):=by omega
   obtain⟨⟨v,e1⟩,e2⟩:(∃v,wr.cell? ⟨w.heap.size,j,none⟩=some v)/\wr.frozen? ⟨w.heap.size,j,none⟩=false:=by
    obtain⟨o,l1,v1,h1,h2,V,h4⟩:=HR.out;exact V.cell j h7
   have HS:=hid (HR.out.set j (.int .u8 33));go_wp2;go_roundw
   case rel=>exact⟨j+1,by omega,by simp,HS⟩
   case measure=>simp[intOf];omega
  ·obtain rfl:j=n:=by omega
   go_wp2;go_ret;exact⟨rfl,HR.out.q⟩
end
section
theorem PD(w:World):(convert 60 9 (.slice none 0 0)).run prog w=.ok (.string ⟨#[]⟩) w:=by kernel_rfl
def SR(own:Own)(s:Nat)(w:World)(S bw bl bi g n:Nat)(M':Side)(y:World):Prop:=
 ∃aL l2 F,bM aL s y S l2 M' bw bl bi F/\aL g=0/\Cy y g n/\w.heap.size<=g/\Kp (T0 s) own aL w y
section
variable {own:Own} {s:Nat} {w:World} {S bw bl bi g n:Nat} {M':Side} {y:World}
theorem SR.set(h:SR own s w S bw bl bi g n M' y)(j:Nat)(v:Value):SR own s w S bw bl bi g n M' (y.setCell ⟨g,j,none⟩ v):=by
 obtain⟨o,l2,U,h1,G,H,I,F⟩:=h;have K:Kp [0] o o y (y.setCell ⟨g,j,none⟩ v):=Kp.set o y _ v [0] (by rw[G];simp);have hs:=h1.s0;exact⟨o,l2,U,h1.kp K (fun x a b e=>by simp at e;omega),G,H.set j v,I,⟨F.os,F.tape,F.output,by simpa using F.size,fun b hb O=>(Xw _ _ _ _ (by simp;omega)).trans (F.blk b hb O),F.ext⟩⟩
theorem SR.q(h:SR own s w S bw bl bi g n M' y):fQ s own w S bw bl bi M' y:=by
 obtain⟨o,l1,G,h1,H,I,O,F⟩:=h;exact⟨o,l1,G,h1,F⟩
end
theorem yc{own:Own}{s:Nat}{w:World}{S bw bl bi:Nat}{M':Side}(w1:World)(hq:fQ s own w S bw bl bi M' w1):Calls prog 60 #[.nilIface] w1 fun r I=>r=.returned (.int .i64 0)/\fQ s own w S bw bl bi M' I:=by
 obtain⟨o1,l1,H,F,G⟩:=hq;refine(um .nilIface 0 (-1) w1 _ (rV w1)).mono ?_;rintro e w' ⟨rfl,hb⟩;exact⟨rfl,o1,l1,H,F.below hb,G.eP hb⟩
theorem Ug(own:Own)(s:Nat)(C S:Nat)(l:List Value)(M:Side)(bw bl bi:Nat)(vc:Value)(k:Nat)(hk:k<8)(most:Int)(w:World)(h:bM own s w S l M bw bl bi vc)(hc:w.cell? ⟨C,0,none⟩=some (.pointer (some ⟨S,0,none⟩)))(hy:M.why=0)(ib:z_ (M.inn k)):
  Calls prog 58 #[.pointer (some ⟨C,0,none⟩),.int .i64 k,.int .i64 most] w fun e w'=>e=.returned (.tuple #[.string ⟨((M.inn k).rd most).1.toArray⟩,.int .i64 (((M.inn k).rd most).2.state:Int),.int .i64 0])/\fQ s own w S bw bl bi (M.bP k ((M.inn k).rd most).2) w':=by
 have Z:((M.inn k).rd most).1.length<=2048:=by
  have:=ib.l;show((M.inn k).held.take _).length<=2048;rw[qa4];omega
 have O:Hid (Calls prog 106 #[.pointer (some ⟨C,0,none⟩),.int .i64 k,.int .i64 most] w fun e w1=>∃x y z,e=.returned (.tuple #[x,y,z])/\∃a c,(x=.slice a ((M.inn k).rd most).1.length c/\y=.int .i64 (((M.inn k).rd most).2.state:Int)/\z=.nilIface)/\Hid (bn 5 1 w1 (.slice a ((M.inn k).rd most).1.length c) ((M.inn k).rd most).1.length (aJ ((M.inn k).rd most).1)/\jA w.heap.size (.slice a ((M.inn k).rd most).1.length c)/\Pt s own w S bw bl bi (M.bP k ((M.inn k).rd most).2) w1 (.slice a ((M.inn k).rd most).1.length c))):=by
  refine Uc C S w hc k most (fun x y z w1=>∃a c,(x=.slice a ((M.inn k).rd most).1.length c/\y=.int .i64 (((M.inn k).rd most).2.state:Int)/\z=.nilIface)/\Hid (bn 5 1 w1 (.slice a ((M.inn k).rd most).1.length c) ((M.inn k).rd most).1.length (aJ ((M.inn k).rd most).1)/\jA w.heap.size (.slice a ((M.inn k).rd most).1.length c)/\Pt s own w S bw bl bi (M.bP k ((M.inn k).rd most).2) w1 (.slice a ((M.inn k).rd most).1.length c))) ?_;refine(Pz own s S l M bw bl bi vc k hk most w h hy ib.ok (by have:=ib.l;unfold aU;omega)).mono ?_;rintro e w1 ⟨a,c,rfl,h1,h2,h3⟩;exact⟨_,_,_,rfl,a,c,⟨rfl,rfl,rfl⟩,h1,h2,h3⟩
 clear h hc hy ib;generalize (M.inn k).rd most=X at *;obtain⟨bs,i2⟩:=X;simp only at O Z ⊢;generalize h0:M.bP k i2=M2 at *;clear h0;obtain⟨n,I⟩:∃n,n=bs.length:=⟨_,rfl⟩;rw[<-I]at O Z;have HL:=hid I;clear I;go_enter func58,ntmps58
 go_wp2_with (go_at_call 106;refine O.out.mono ?_;rintro e w1 ⟨x,y,z,rfl,a,c,⟨rfl,rfl,rfl⟩,H1⟩)
 obtain⟨hG,hF,hQ⟩:=H1.out
 rcases hG with⟨U,en,_⟩|⟨g,cap,cs,U,hB,hcl,hc1,hc2,hc3,hc4,_⟩
 ·have h5:bs=[]:=qa6.1 (by rw[<-HL.out];exact en);subst h5;simp only[Value.slice.injEq]at U;obtain⟨rfl,rfl,rfl⟩:=U;have F:=PD
  have HN:Hid (Calls prog 60 #[.nilIface] w1 fun r w2=>r=.returned (.int .i64 0)/\fQ s own w S bw bl bi M2 w2):=by
   obtain⟨o1,l1,v1,g1,g2,_⟩:=hQ;exact yc w1 ⟨o1,l1,v1,g1,g2⟩
  clear H1 hF hQ O HL;go_wp2;refine wp_loop_rounds 1 ?_;rw[rounds_succ]
  go_wp2_with (go_at_call 60;refine HN.out.mono ?_;rintro e w2 ⟨rfl,G⟩)
  go_ret3
  exact⟨rfl,G⟩
 ·simp only[Value.slice.injEq]at U;obtain⟨rfl,_,rfl⟩:=U;have I:=HL.out;have V:w.heap.size<=g:=hF g rfl
  have F:=run_convert_bytes_back (P:=prog) w1 60 9 5 ⟨g,0,none⟩ c bs u29 (by kernel_rfl) u9 (fun j hj=>by
   rw[Addr.add_lit,qa5,hB.cell]
   have:(cs.take (n*1))[j]?=(aJ bs)[j]?:=by rw[hc4]
   rw[ZE,if_pos (by omega)]at this;rw[this]
   simp[aJ,hj])
  rw[<-I]at F
  have MN:Hid (SR own s w S bw bl bi g n M2 w1):=by
   obtain⟨o1,l1,v1,g1,g2,g3⟩:=hQ;exact⟨o1,l1,v1,g1,g3 g rfl,⟨cs.toArray,(0,0),hB,by simp;omega,.inr rfl⟩,V,g2⟩
  clear H1 hF hQ O hB hcl hc1 hc2 hc3 hc4 I V;rw[F];go_simp;go_wp2
  go_loopw [26] (fun H wr=>∃j:Nat,j<=n/\H=.int .i64 j/\Hid (SR own s w S bw bl bi g n M2 wr)) (fun H _=>n-(intOf H).toNat)
  case atStart=>exact⟨0,uj _,rfl,MN⟩
  case round=>
   obtain⟨j,hj,rfl,HR⟩:=hrel;clear MN F
   by_cases h6:j<n
   ·have h7:(j:Int)<(n:Int):=by omega
    obtain⟨⟨v,e1⟩,e2⟩:(∃v,wr.cell? ⟨g,j,none⟩=some v)/\wr.frozen? ⟨g,j,none⟩=false:=by
     obtain⟨o,l1,v1,h1,h2,h3,h4⟩:=HR.out;exact h3.cell j h6
    have HS:=hid (HR.out.set j (.int .u8 33));go_wp2;go_roundw
    case rel=>exact⟨j+1,by omega,by simp,HS⟩
    case measure=>simp[intOf];omega
   ·obtain rfl:j=n:=by omega
    have HN:=hid (yc wr HR.out.q)
    go_wp2_with (go_at_call 60;refine HN.out.mono ?_;rintro e w2 ⟨rfl,G⟩)
    go_ret3
    exact⟨rfl,G⟩
end
section
theorem Zw:Df 53 9 (.string ⟨#[]⟩) 1 16:=⟨by kernel_rfl,by kernel_rfl,fun n=>by simp[Builtin.zeroCells,Value.cells],fun n v F=>by
 simp[Builtin.zeroCells,Value.cells]at F;obtain⟨i,_,rfl⟩:=F
 have:i % 1=0:=by omega
 rw[this];rfl,by omega⟩
def sV(b:List UInt8):Value:=.string ⟨b.toArray⟩
def Tq(s t:Nat):List Nat:=t::List.range' s 60
theorem yF{s t x:Nat}:x∈Tq s t↔x=t\/(s<=x/\x<s+60):=by
 unfold Tq;rw[qa0,List.mem_range'];constructor
 ·rintro(h|⟨i,hi,rfl⟩)
  ·exact .inl h
  ·exact .inr (by omega)
 ·rintro(h|h)
  ·exact .inl h
  ·exact .inr ⟨x-s,by omega,by omega⟩
structure Ro (aI:Own) (s t:Nat) (w0:World) (S bw bl bi:Nat) (M':Side) (vl:Value) (vs:List Value) (bs:List (List UInt8)) (j:Nat) (v3:Value) (own:Own) (w:World):Prop where
 sd:∃l vc,bM own s w S l M' bw bl bi vc
 gd:Gd own w
 li:GT own (s+52) 60 1 w vl vs.length vs
 ln:vs.length=bs.length
 ps:∀i,j<=i->i<vs.length->Buf w (vs.getD i undef) (bs.getD i [])/\∀k,(vs.getD i undef).ownBlock=some k->own k=s+47/\k<w.heap.size
 dj:Dj vs
 st:GT own t 9 1 w v3 j ((bs.take j).map sV)
 kp:Kp (Tq s t) aI own w0 w
section
variable {aI:Own} {s t:Nat} {w0:World} {S bw bl bi:Nat} {M':Side} {vl:Value} {vs:List Value} {bs:List (List UInt8)} {j:Nat} {v3:Value} {own:Own} {w:World}
theorem Ro.app(h:Ro aI s t w0 S bw bl bi M' vl vs bs j v3 own w)(ht:0<t/\(t<s\/s+60<=t))(hj:j<vs.length)(h6:vs.length<=1000000):
  ∃I F H,(∀ty,(Builtin.append_ #[53,53] ty #[v3,.slice (some ⟨w.heap.size,0,none⟩) 1 1]).run prog (w.alloc (.cells #[sV (bs.getD j [])] 9))=.ok I F)/\Ro aI s t w0 S bw bl bi M' vl vs bs (j+1) I H F/\
   (Buf F (vs.getD j undef) (bs.getD j [])/\∀k,(vs.getD j undef).ownBlock=some k->H k=s+47/\k<F.heap.size):=by
 obtain⟨l,vc,hS⟩:=h.sd;have O:Below w.heap.size w (w.alloc (.cells #[sV (bs.getD j [])] 9)):=(KG _ w).alloc (tL _) _;have B5:ak (w.alloc (.cells #[sV (bs.getD j [])] 9)) w.heap.size 9 [sV (bs.getD j [])]:=ak.new w 9 _;have Z:Kp [] own own w (w.alloc (.cells #[sV (bs.getD j [])] 9)):=Kp.below O
 obtain⟨I,F,H,run,hG,K6⟩:=bU Zw (n:=j) (h.st.kp Z (by simp)) ⟨w.heap.size,0,none⟩ 1 1 [sV (bs.getD j [])] rfl (fun z hz=>by rw[CK.1 hz];rfl) (fun i y hy=>by
  have e:(⟨w.heap.size,0,none⟩:Addr).add i=⟨w.heap.size,i,none⟩:=by rw[Addr.add_lit,qa5]
  rw[e,B5.cell,hy]) (by omega)
 have K:Kp [t] own H w F:=(Z.mono (by simp)).trans K6
 have U:bs.take (j+1)=bs.take j++[bs.getD j []]:=by
  have V:j<bs.length:=by rw[<-h.ln];exact hj
  rw[qa1,mR,nI V];rfl
 have P:∀i,j<=i->i<vs.length->Buf F (vs.getD i undef) (bs.getD i [])/\∀k,(vs.getD i undef).ownBlock=some k->H k=s+47/\k<F.heap.size:=fun i hi G=>by
  obtain⟨p,q⟩:=h.ps i hi G;refine⟨?_,fun k X=>⟨by rw[K.ext k (q k X).2,(q k X).1],Lb (q k X).2 K.size⟩⟩
  rcases p with p|⟨g,cap,cs,e,hB,h3⟩
  ·exact .inl p
  ·exact .inr ⟨g,cap,cs,e,aK hB K (by rw[(q g (by rw[e];rfl)).1];simp;omega),h3⟩
 refine⟨I,F,H,run,⟨⟨l,vc,hS.kp K (fun x a b e=>by simp at e;omega)⟩,h.gd.kp K (by simp;omega),h.li.kp K (by simp;omega),h.ln,fun i hi G=>P i (by omega) G,h.dj,?_,h.kp.trans (K.mono fun x hx=>yF.2 (.inl (by simpa using hx)))⟩,P j (tL _) hj⟩;rw[U,qaj];exact hG
theorem Ro.set(h:Ro aI s t w0 S bw bl bi M' vl vs bs (j+1) v3 own w)(ht:0<t/\(t<s\/s+60<=t))(g:Nat)(X:(vs.getD j undef).ownBlock=some g)(Z:own g=s+47)(i:Nat)(v:Value):
  Ro aI s t w0 S bw bl bi M' vl vs bs (j+1) v3 own (w.setCell ⟨g,i,none⟩ v):=by
 obtain⟨l,vc,V⟩:=h.sd;have K:Kp [s+47] own own w (w.setCell ⟨g,i,none⟩ v):=Kp.set own w _ v [s+47] (by rw[Z];simp);refine⟨⟨l,vc,V.kp K (fun x a b e=>by simp at e;omega)⟩,h.gd.kp K (by simp),h.li.kp K (by simp),h.ln,fun i2 hi F=>?_,h.dj,h.st.kp K (by simp;omega),h.kp.trans (K.mono fun x hx=>yF.2 (.inr (by simp at hx;omega)))⟩;obtain⟨p,q⟩:=h.ps i2 hi F;refine⟨?_,fun k I=>⟨(q k I).1,by simpa using(q k I).2⟩⟩
 rcases p with p|⟨H,cap,cs,e,hB,U⟩
 ·exact .inl p
 ·refine .inr ⟨H,cap,cs,e,?_,U⟩
  have G:H≠g:=fun O=>h.dj j i2 (by omega) F g X (by rw[e,<-O];rfl)
  exact hB.of_heap (Xw _ _ _ _ (by simpa using G))
end


def PkT(own:Own)(s:Nat)(w:World)(S bw bl bi:Nat)(F:Side->List (List UInt8)->Prop)(x:Value)(w1:World):Prop:=
 ∃M' bs vs own' l' G,F M' bs/\bM own' s w1 S l' M' bw bl bi G/\Gd own' w1/\GT own' (s+52) 60 1 w1 x vs.length vs/\PX own' s w1 vs bs/\Kp (Tb s) own own' w w1
def PlT(own:Own)(s t:Nat)(w:World)(S bw bl bi:Nat)(F:Side->List (List UInt8)->Prop)(x:Value)(w1:World):Prop:=
 ∃M' bs own' l' G,F M' bs/\bM own' s w1 S l' M' bw bl bi G/\Gd own' w1/\GT own' t 9 1 w1 x bs.length (bs.map sV)/\Kp (Tq s t) own own' w w1
theorem fV{own:Own}{t:Nat}{e:TypeId}{k:Nat}{w:World}{v:Value}{n:Nat}{l:List Value}(h:GT own t e k w v n l):∃a c,v=.slice a n c:=by
 rcases h with⟨rfl,rfl,_⟩|⟨g,cap,cs,rfl,_⟩<;>exact⟨_,_,rfl⟩
theorem EA(own:Own)(s t:Nat)(C S:Nat)(bw bl bi:Nat)(w:World)(hs:0<s)(ht:0<t/\(t<s\/s+60<=t))(RM:Side->List (List UInt8)->Prop)(hf:∀M' bs,RM M' bs->bs.length<=1000/\∀j,j<bs.length->bs.getD j []≠[]/\(bs.getD j []).length<=1000000)(hR:Calls prog 68 #[.pointer (some ⟨C,0,none⟩)] w fun e w1=>∃x,e=.returned x/\PkT own s w S bw bl bi RM x w1):
  Calls prog 40 #[.pointer (some ⟨C,0,none⟩)] w fun e w'=>∃x,e=.returned x/\PlT own s t w S bw bl bi RM x w':=by
 have HC:Hid (Calls prog 68 #[.pointer (some ⟨C,0,none⟩)] w fun e w1=>∃a n c,e=.returned (.slice a n c)/\Hid (∃M' bs vs own',n=vs.length/\RM M' bs/\Ro own s t w S bw bl bi M' (.slice a n c) vs bs 0 (.slice none 0 0) own' w1)):=by
  refine hR.mono ?_;rintro e w1 ⟨x,rfl,M',bs,vs,own',l',gF,h1,h2,h3,h4,h5,h6⟩;obtain⟨a,c,rfl⟩:=fV h4;exact⟨a,_,c,rfl,M',bs,vs,own',rfl,h1,⟨l',gF,h2⟩,h3,h4,h5.1,fun i _ hi=>h5.2.1 i hi,h5.2.2,.inl ⟨rfl,rfl,rfl⟩,h6.mono fun x hx=>yF.2 (.inr (fB.1 hx).1)⟩
 have HN:=hid hf;have HT:=hid ht;have MN:=hid hs;clear hR hf ht hs;go_enter func40,ntmps40
 go_wp2_with (go_at_call 68;refine HC.out.mono ?_;rintro e w1 ⟨a,n,c,rfl,H1⟩)
 clear HC;obtain⟨M',bs,vs,aF,hn,hM,hI⟩:=H1.out;have HM:=hid hM;have Z:=hid hI;have HL:=hid hn;obtain⟨g1,F⟩:=HN.out M' bs hM;have hc:=hI.ln
 have n4:n<=1000:=by omega
 have HG:=hid F;clear hM hI hn H1 g1 F hc
 go_loopw [3,10] (fun s3 V wr=>∃j:Nat,j<=n/\V=.int .i64 j/\Hid (∃aL,Ro own s t w S bw bl bi M' (.slice a n c) vs bs j s3 aL wr)) (fun _ V _=>n-(intOf V).toNat)
 case atStart=>exact⟨0,uj _,rfl,aF,Z.out⟩
 case round=>
  obtain⟨j,hj,rfl,HR⟩:=hrel;clear Z
  by_cases x2:j<n
  ·have x1:(j:Int)<(n:Int):=by omega
   obtain⟨aL,G⟩:=HR.out
   have U:j<vs.length:=by have:=HL.out;omega
   have hw:j<bs.length:=by have:=G.ln;omega
   obtain⟨ha,hu⟩:=HG.out j hw;obtain⟨hy,x0⟩:=G.ps j (tL _) U;have Uo:=G.li
   rcases Uo with⟨e1,e2,_⟩|⟨g,cap,cs,ea,ho,hB,hc1,hc2,hc3,hc4,Et,_⟩
   ·omega
   simp only[Value.slice.injEq]at ea;obtain⟨rfl,en,rfl⟩:=ea
   rcases hy with⟨_,h0⟩|⟨F,cp,cs2,ev,hB2,k1,k2,k3,k4,k5⟩
   ·exact absurd h0 ha
   have O:wr.cell? ⟨g,j,none⟩=some (.slice (some ⟨F,0,none⟩) (bs.getD j []).length cp):=by
    rw[hB.cell]
    have:(cs.take (vs.length*1))[j]?=vs[j]?:=by rw[Et]
    rw[ZE,if_pos (by omega)]at this;rw[this,<-ev,mR,nI U];rfl
   have hv:=run_convert_bytes_back (P:=prog) wr 60 9 5 ⟨F,0,none⟩ cp (bs.getD j []) u29 (by kernel_rfl) u9 (fun i hi=>by
    rw[Addr.add_lit,qa5,hB2.cell]
    have:(cs2.take (bs.getD j []).length)[i]?=(aJ (bs.getD j []))[i]?:=by rw[k4]
    rw[ZE,if_pos hi]at this;rw[this];generalize bs.getD j []=B at hi ⊢
    simp[aJ,hi])
   obtain⟨v6,w6,bR,run,h8,hg,hk⟩:=G.app HT.out U (by omega);obtain⟨o6,_⟩:=hk F (by rw[ev];rfl)
   have Rf:(vs.getD j undef).ownBlock=some F:=by rw[ev];rfl
   have h9:Cy w6 F (bs.getD j []).length:=by
    rcases hg with⟨e,_⟩|⟨g3,cp3,cs3,ev3,hB3,q1,q2,_⟩
    ·rw[ev]at e;cases e
    ·rw[ev]at ev3;simp only[Value.slice.injEq,Option.some.injEq,Addr.mk.injEq]at ev3;obtain⟨⟨rfl,_,_⟩,_,rfl⟩:=ev3;exact⟨cs3.toArray,(0,0),hB3,by rw[qaf];omega,.inr rfl⟩
   have I:Hid (Ro own s t w S bw bl bi M' (.slice (some ⟨g,0,none⟩) n c) vs bs (j+1) v6 bR w6/\Cy w6 F (bs.getD j []).length):=⟨h8,h9⟩;have h7:=hid (And.intro Rf o6);simp only[sV]at run;clear en G h8 h9 hg hk o6 Rf hB hB2 k1 k2 k3 k4 k5 ev x0 ho hc1 hc2 hc3 hc4 Et HR ha;generalize bs.getD j []=B at *;obtain⟨n2,he⟩:∃n2,n2=B.length:=⟨_,rfl⟩;rw[<-he]at O hv I hu;clear he
   go_wp2_with (first|(at_builtin;refine Lib.wpList_append_run _ rfl _ _ _ _ rfl _ _ rfl rfl _ _ (run _) ?_)|go_in)
   go_loopw [21] (fun X hr=>∃i:Nat,i<=n2/\X=.int .i64 i/\Hid (Ro own s t w S bw bl bi M' (.slice (some ⟨g,0,none⟩) n c) vs bs (j+1) v6 bR hr/\Cy hr F n2)) (fun X _=>n2-(intOf X).toNat)
   case atStart=>exact⟨0,uj _,rfl,I⟩
   case round=>
    obtain⟨i,hi,rfl,H⟩:=hrel;clear I
    by_cases Uo:i<n2
    ·have Yv:(i:Int)<(n2:Int):=by omega
     obtain⟨⟨v,e1⟩,e2⟩:=H.out.2.cell i Uo;have HS:=hid (And.intro (H.out.1.set HT.out F h7.out.1 h7.out.2 i (.int .u8 33)) (H.out.2.set i (.int .u8 33)));go_wp2;go_roundw
     case rel=>exact⟨i+1,by omega,by simp,HS⟩
     case measure=>simp[intOf];omega
    ·obtain rfl:i=n2:=by omega
     go_wp2;go_roundw
     case rel=>exact⟨j+1,by omega,by simp,bR,H.out.1⟩
     case measure=>simp[intOf];omega
  ·obtain rfl:j=n:=by omega
   go_wp2;go_ret;obtain⟨aL,G⟩:=HR.out;obtain⟨l,vc,hS⟩:=G.sd;have hl:=HL.out;have hm:=G.st;have hc:=G.ln;rw[qaa (by omega),show j=bs.length by omega]at hm;exact⟨_,rfl,M',bs,aL,l,vc,HM.out,hS,G.gd,hm,G.kp⟩
theorem Ik(own:Own)(s t:Nat)(C S:Nat)(l:List Value)(M B:Side)(bw bl bi:Nat)(vc:Value)(w:World)(h:bM own s w S l M bw bl bi vc)(hc:w.cell? ⟨C,0,none⟩=some (.pointer (some ⟨S,0,none⟩)))(hg:Gd own w)(ht:0<t/\(t<s\/s+60<=t))(O:dh M)(h1:bF M B)(h2:bF B M)(H:Bd M)(hn:M.next+24<aU)(U:M.tick<18446744073709551616):
  Calls prog 40 #[.pointer (some ⟨C,0,none⟩)] w fun e w'=>∃x,e=.returned x/\PlT own s t w S bw bl bi (fun M' bs=>∃pk,M.mQ M' pk/\bs=Uk pk) x w':=by
 refine EA own s t C S bw bl bi w h.s0 ht _ ?_ ?_
 ·rintro M' bs ⟨pk,hp,rfl⟩;have o:=Er O h1 h2 H hn hp;have:=o.next;have:=o.top;unfold Uk;rw[Vh];refine⟨by omega,fun j hj=>?_⟩;rw[mR,Kt,nI hj];have q:=(o.ok _ (M4 hj)).1.sz;have:=H.mt;simp only[qak,Option.getD_some];have e:(aD pk[j].1 pk[j].2).length=(bH pk[j].1 pk[j].2).length+4:=mH _ _;exact⟨fun e2=>by rw[e2]at e;simp at e,by omega⟩
 ·refine He C S w hc _ ((Ij own s S l M bw bl bi vc w h hg O.why M.je (PP B (M.next+24)) mu (pkp B _ hn) ?_ ?_ ?_).mono ?_)
  ·refine(TM own s S l M bw bl bi vc w h H U (by omega)).mono ?_;rintro e w' ⟨rfl,G,r1,o2,l2,v2,V,X⟩;exact⟨rfl,G,o2,l2,v2,r1,V,X⟩
  ·intro aL W l2 G Z F hS;have I:=D5 H F
   exact Un aL s S l2 G bw bl bi Z W hS (by have:=I.cm.ln;omega) (fun r hr=>by
    have:=I.cm.hi r hr;have:=I.cm.so.le r hr;unfold aU at *
    omega)
  ·intro G F;obtain⟨p1,p2,p3⟩:=Em O h1 h2 H F;exact⟨p1,p2,by omega⟩
  ·rintro e w' ⟨G,vl,vs,own',l',gF,left',V,rfl,X,q3,q4,q5,q6,q7⟩;exact⟨vl,rfl,_,_,vs,own',l',gF,⟨_,⟨G,V,rfl⟩,rfl⟩,X,q3,q4,q5,q6⟩
end
section
structure Ad where
 N:Nat
 xb:Nat
 xc:Nat
 eb:Nat
 ec:Nat
 gb:Nat
 gc:Nat
 nb:Nat
 nc:Nat
 cb:Nat
 cc:Nat
 el:Nat->Nat
 EB:Nat->Nat
 e:Nat->Nat->Nat
 C:Nat->Nat
 S:Nat->Nat
 bw:Nat->Nat
 bl:Nat->Nat
 bi:Nat->Nat
 aH:Nat
 win:Nat
 tot:Nat
def Cst(own:Own)(w:World)(b j:Nat)(v:Value):Prop:=w.cell? ⟨b,j,none⟩=some v/\180<=own b/\own b<200
theorem Cst.kp{own own':Own}{w w':World}{b j:Nat}{v:Value}{T:List Nat}(h:Cst own w b j v)(K:Kp T own own' w w')(G:∀x∈T,¬(180<=x/\x<200)):Cst own' w' b j v:=by
 have F:b<w.heap.size:=DJ w ⟨b,j,none⟩ (by rw[h.1]);exact⟨cell_of h.1 (K.blk b F (fun e=>G _ e h.2)),by rw[K.ext b F];exact h.2⟩
def Uq(a:Ad)(now:Nat)(vb:Value):List Value:=
 [.slice (some ⟨a.xb,0,none⟩) 2 a.xc,.slice (some ⟨a.eb,0,none⟩) 2 a.ec,.slice (some ⟨a.gb,0,none⟩) 2 a.gc,.slice (some ⟨a.nb,0,none⟩) 2 a.nc,.int .u64 now,.int .i64 a.aH,.int .i64 a.win,.int .i64 a.tot,vb,.slice (some ⟨a.cb,0,none⟩) 2 a.cc]
def Il(o:Ot)(i:bI):List Value:=[.string ⟨o.bytes.toArray⟩,.bool o.fin,.bool false,.int .i64 0,.int .i64 i.read,.int .i64 i.state]
def ends(n:Net)(i k:Nat):List Value:=Il ((n.x i).out k) ((n.x (1-i)).inn k)
def fJ(l:List (Nat×Nat×List Fr)):List Value:=l.flatMap fun y=>[.int .i64 y.1,sV (aD y.2.1 y.2.2)]
structure bE (own:Own) (w:World) (a:Ad) (n:Net) (vb:Value) (E:Nat->Nat->List Value):Prop where
 net:ak w a.N 48 (Uq a n.now vb)/\own a.N=200
 xs:∀i,i<2->Cst own w a.xb i (.pointer (some ⟨a.C i,0,none⟩))
 es:∀i,i<2->Cst own w a.eb i (.slice (some ⟨a.el i,0,none⟩) 8 (a.EB i))
 el:∀i k,i<2->k<8->Cst own w (a.el i) k (.pointer (some ⟨a.e i k,0,none⟩))
 en:∀i k,i<2->k<8->ak w (a.e i k) 80 (E i k)/\own (a.e i k)=210+8*i+k
 gs:∀i,i<2->Cst own w a.gb i (.slice none 0 0)
 ct:(∃r,ak w a.cb 43 (.int .u64 (n.cnt 0:Int)::.int .u64 (n.cnt 1:Int)::r))/\own a.cb=203
 bg:GT own 204 62 2 w vb n.bD.length (fJ n.bD)
 sd:∀i,i<2->∃l vc,bM own (60*(i+1)) w (a.S i) l (n.x i) (a.bw i) (a.bl i) (a.bi i) vc
 cn:∀i,i<2->w.cell? ⟨a.C i,0,none⟩=some (.pointer (some ⟨a.S i,0,none⟩))/\own (a.C i)=0
 gd:Gd own w
 er:dP w
 o0:own 0=0
section
variable {own own':Own} {w w':World} {a:Ad} {n n':Net} {vb Cn:Value} {E E':Nat->Nat->List Value} {T:List Nat}
theorem bE.turn(h:bE own w a n vb E)(K:Kp T own own' w w')(H:0∉T)(h1:∀x∈T,¬(180<=x/\x<200))(net:ak w' a.N 48 (Uq a n'.now Cn))(en:∀i k,i<2->k<8->ak w' (a.e i k) 80 (E' i k))(ct:∃r,ak w' a.cb 43 (.int .u64 (n'.cnt 0:Int)::.int .u64 (n'.cnt 1:Int)::r))(bg:GT own' 204 62 2 w' Cn n'.bD.length (fJ n'.bD))(sd:∀i,i<2->∃l vc,bM own' (60*(i+1)) w' (a.S i) l (n'.x i) (a.bw i) (a.bl i) (a.bi i) vc):bE own' w' a n' Cn E':=by
 have hs:=h.gd.sz;refine⟨⟨net,by rw[K.ext _ h.net.1.lt];exact h.net.2⟩,fun i hi=>(h.xs i hi).kp K h1,fun i hi=>(h.es i hi).kp K h1,fun i k hi F=>(h.el i k hi F).kp K h1,fun i k hi F=>⟨en i k hi F,by rw[K.ext _ (h.en i k hi F).1.lt];exact(h.en i k hi F).2⟩,fun i hi=>(h.gs i hi).kp K h1,⟨ct,?_⟩,bg,sd,fun i hi=>?_,h.gd.kp K H,?_,by rw[K.ext 0 (by omega)];exact h.o0⟩
 ·obtain⟨⟨r,hB⟩,o⟩:=h.ct;rw[K.ext _ hB.lt];exact o
 ·obtain⟨p,q⟩:=h.cn i hi;have G:a.C i<w.heap.size:=DJ w ⟨a.C i,0,none⟩ (by rw[p]);exact⟨cell_of p (K.blk _ G (by rw[q];exact H)),by rw[K.ext _ G];exact q⟩
 ·exact cell_of h.er (K.blk 0 (by omega) (by rw[h.o0];exact H))
theorem bE.yG(h:bE own w a n vb E)(K:Kp T own own' w w')(F:200∉T):ak w' a.N 48 (Uq a n.now vb):=aK h.net.1 K (by rw[h.net.2];exact F)
theorem bE.yH(h:bE own w a n vb E)(K:Kp T own own' w w')(i k:Nat)(hi:i<2)(F:k<8)(G:210+8*i+k∉T):ak w' (a.e i k) 80 (E i k):=aK (h.en i k hi F).1 K (by rw[(h.en i k hi F).2];exact G)
theorem bE.Au(h:bE own w a n vb E)(K:Kp T own own' w w')(F:203∉T):∃r,ak w' a.cb 43 (.int .u64 (n.cnt 0:Int)::.int .u64 (n.cnt 1:Int)::r):=by
 obtain⟨⟨r,hB⟩,o⟩:=h.ct;exact⟨r,aK hB K (by rw[o];exact F)⟩
theorem bE.yI(h:bE own w a n vb E)(K:Kp T own own' w w')(i:Nat)(hi:i<2)(G:∀x∈T,x<60*(i+1)\/60*(i+1)+45<=x):∃l vc,bM own' (60*(i+1)) w' (a.S i) l (n.x i) (a.bw i) (a.bl i) (a.bi i) vc:=by
 obtain⟨l,vc,F⟩:=h.sd i hi;exact⟨l,vc,F.kp K (fun x p q e=>by have:=G x e;omega)⟩
theorem bE.kp(h:bE own w a n vb E)(K:Kp T own own' w w')(F:∀x∈T,226<=x):bE own' w' a n vb E:=
 h.turn K (fun e=>by have:=F _ e;omega) (fun x e=>by have:=F x e;omega) (h.yG K (fun e=>by have:=F _ e;omega)) (fun i k hi G=>h.yH K i k hi G (fun e=>by have:=F _ e;omega)) (h.Au K (fun e=>by have:=F _ e;omega)) (h.bg.kp K (fun e=>by have:=F _ e;omega)) (fun i hi=>h.yI K i hi fun x H=>.inr (by have:=F x H;omega))
theorem bE.below(h:bE own w a n vb E)(hb:Below w.heap.size w w'):bE own w' a n vb E:=h.kp (Kp.below (T:=[]) hb) (by simp)
theorem bE.side(h:bE own w a n vb E)(K:Kp T own own' w w')(i:Nat)(hi:i<2)(F:∀x∈T,(60*(i+1)<=x/\x<60*(i+1)+60)\/226<=x)(M:Side)(H:∃l vc,bM own' (60*(i+1)) w' (a.S i) l M (a.bw i) (a.bl i) (a.bi i) vc):bE own' w' a (n.bK i M) vb E:=by
 refine h.turn K (fun e=>by have:=F _ e;omega) (fun x e=>by have:=F x e;omega) (h.yG K (fun e=>by have:=F _ e;omega)) (fun j k G I=>h.yH K j k G I (fun e=>by have:=F _ e;omega)) (h.Au K (fun e=>by have:=F _ e;omega)) (h.bg.kp K (fun e=>by have:=F _ e;omega)) (fun j G=>?_)
 by_cases e:j=i
 ·subst e;rw[bT];exact H
 ·rw[dV _ _ _ _ e]
  exact h.yI K j G fun x O=>by have:=F x O;omega
theorem bE.Co(h:bE own w a n vb E)(G:∀i k,i<2->k<8->E i k=E' i k):bE own w a n vb E':=
 ⟨h.net,h.xs,h.es,h.el,fun i k hi F=>by rw[<-G i k hi F];exact h.en i k hi F,h.gs,h.ct,h.bg,h.sd,h.cn,h.gd,h.er,h.o0⟩
theorem bE.Ur(h:bE own w a n vb E)(i k:Nat)(hi:i<2)(I:k<8)(j:Nat)(v:Value):bE own (w.setCell ⟨a.e i k,j,none⟩ v) a n vb (fun F k'=>if F=i/\k'=k then(E i k).set j v else E F k'):=by
 have O:=(h.en i k hi I).2;have K:Kp [210+8*i+k] own own w (w.setCell ⟨a.e i k,j,none⟩ v):=Kp.set own w _ v _ (by rw[O];simp);refine h.turn K (by simp;omega) (by simp;omega) (h.yG K (by simp;omega)) (fun F k' G H=>?_) (h.Au K (by simp;omega)) (h.bg.kp K (by simp;omega)) (fun i hi=>h.yI K i hi fun x U=>.inr (by simp at U;omega))
 by_cases e:F=i/\k'=k
 ·rw[if_pos e,e.1,e.2];exact(h.en i k hi I).1.setCell j v
 ·rw[if_neg e];exact h.yH K F k' G H (by simp;omega)
theorem bE.Xd(h:bE own w a n vb E)(t:Nat):bE own (w.setCell ⟨a.N,4,none⟩ (.int .u64 t)) a {n with now:=t} vb E:=by
 have K:Kp [200] own own w (w.setCell ⟨a.N,4,none⟩ (.int .u64 t)):=Kp.set own w _ _ _ (by rw[h.net.2];simp);exact h.turn K (by simp) (by simp) (h.net.1.setCell 4 _) (fun i k hi F=>h.yH K i k hi F (by simp;omega)) (h.Au K (by simp)) (h.bg.kp K (by simp)) (fun i hi=>h.yI K i hi fun x G=>.inr (by simp at G;omega))
theorem bE.Qf(h:bE own w a n vb E)(l:List (Nat×Nat×List Fr))(F:GT own 204 62 2 w Cn l.length (fJ l)):bE own (w.setCell ⟨a.N,8,none⟩ Cn) a {n with bD:=l} Cn E:=by
 have K:Kp [200] own own w (w.setCell ⟨a.N,8,none⟩ Cn):=Kp.set own w _ _ _ (by rw[h.net.2];simp);exact h.turn K (by simp) (by simp) (h.net.1.setCell 8 _) (fun i k hi G=>h.yH K i k hi G (by simp;omega)) (h.Au K (by simp)) (F.kp K (by simp)) (fun i hi=>h.yI K i hi fun x H=>.inr (by simp at H;omega))
theorem bE.Yw(h:bE own w a n vb E)(i:Nat)(hi:i<2)(c:Nat):bE own (w.setCell ⟨a.cb,i,none⟩ (.int .u64 c)) a {n with cnt:=fun j=>if j=i then c else n.cnt j} vb E:=by
 have K:Kp [203] own own w (w.setCell ⟨a.cb,i,none⟩ (.int .u64 c)):=Kp.set own w _ _ _ (by rw[h.ct.2];simp);obtain⟨⟨r,hB⟩,o⟩:=h.ct;refine h.turn K (by simp) (by simp) (h.yG K (by simp)) (fun i k hi F=>h.yH K i k hi F (by simp;omega)) ⟨r,?_⟩ (h.bg.kp K (by simp)) (fun i hi=>h.yI K i hi fun x G=>.inr (by simp at G;omega));have:=hB.setCell i (.int .u64 c)
 rcases(show i=0\/i=1 by omega)with rfl|rfl
 ·exact this
 ·exact this
end

end
end Go.Proofs.YtphbledmopchnaaGreatDoor.Sd
