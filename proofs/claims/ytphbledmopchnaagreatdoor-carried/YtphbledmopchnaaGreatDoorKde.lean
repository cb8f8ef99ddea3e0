import Derived.Test.YtphbledmopchnaaGreatDoorKdc
import Derived.Sort.MapsRangeIn
open Array renaming getElem?_eq_some_iff->mR
open Go.RowKit.Below renaming refl->ZE
open Bool renaming not_eq_true'->DJ
open Int renaming natCast_add->M4
open List renaming getElem?_eq_getElem->jK,getD_eq_getElem?_getD->nI,mem_filter->tT,mem_append->wz,length_map->Bu,mem_cons->Gl,map_append->Kt,mem_map->KG,take_add_one->Lb,filter_map->R3,mem_range'->Si,sum_append->Vh,take_of_length_le->Vp,map_congr_left->qa0,append_assoc->qa2,range'->qa3,any_eq_true->qa4,not_mem_nil->qa5
open Nat renaming lt_of_lt_of_le->tL,le_refl->uj,not_lt_zero->qa6,lt_irrefl->qa7
open Go.World renaming putObj_heap_other->CK,putObj_heap_same->Xw,alloc_heap_new->Z9,grownBy_alloc->qa1
set_option maxHeartbeats 4000000
set_option maxRecDepth 100000
namespace Go.Proofs.YtphbledmopchnaaGreatDoor.Sd
open Go.RowKit Go.Lib Mm Tryz
structure Vg (l:List Value) (M:Side) (bw bl bi:Nat) (vc:Value):Prop where
 len:l.length=240
 c0:l[0]?=some (.int .i64 M.aH)
 c1:l[1]?=some (.int .i64 M.window)
 c2:l[2]?=some (.int .i64 M.total)
 c3:l[3]?=some (.int .u64 M.tick)
 mh:l[220]?=some (.int .u64 M.limit)
 gr:pU l 221 M.gr
 nP:l[225]?=some (.int .i64 8)
 c226:l[226]?=some (.int .u64 M.came.fl)
 c227:l[227]?=some vc
 c228:l[228]?=some (.bool M.answer)
 c229:l[229]?=some (.int .u64 M.next)
 j6:l[230]?=some (.map (some bw))
 mY:l[231]?=some (.map (some bl))
 c232:l[232]?=some (.int .u64 M.named)
 c233:l[233]?=some (.slice none 0 0)
 c234:l[234]?=some (.int .u64 0)
 mZ:l[235]?=some (.slice none 0 0)
 c236:l[236]?=some (.int .u64 0)
 oO:l[237]?=some (.map (some bi))
 j_:l[238]?=some (.int .i64 M.why)
 oP:l[239]?=some (.bool M.parted)
theorem Vg.win{l l':List Value}{M:Side}{bw bl bi:Nat}{vc:Value}(h:Vg l M bw bl bi vc){o n:Nat}(w:iH l l' o n)(h1:4<=o)(F:o+n<=220):Vg l' M bw bl bi vc:=by
 have e:∀j,j<4\/220<=j->l'[j]?=l[j]?:=fun j G=>w.2 j (by omega)
 exact⟨w.1.trans h.len,by rw[e _ (by omega),h.c0],by rw[e _ (by omega),h.c1],by rw[e _ (by omega),h.c2],by rw[e _ (by omega),h.c3],by rw[e _ (by omega),h.mh],h.gr.win w (by omega),
  by rw[e _ (by omega),h.nP],by rw[e _ (by omega),h.c226],by rw[e _ (by omega),h.c227],by rw[e _ (by omega),h.c228],by rw[e _ (by omega),h.c229],by rw[e _ (by omega),h.j6],by rw[e _ (by omega),h.mY],by rw[e _ (by omega),h.c232],
  by rw[e _ (by omega),h.c233],by rw[e _ (by omega),h.c234],by rw[e _ (by omega),h.mZ],by rw[e _ (by omega),h.c236],by rw[e _ (by omega),h.oO],by rw[e _ (by omega),h.j_],by rw[e _ (by omega),h.oP]⟩
def T0(s:Nat):List Nat:=qa3 s 45
theorem bG{s x:Nat}:x∈T0 s↔s<=x/\x<s+45:=by
 unfold T0;rw[Si];constructor
 ·rintro⟨i,h,rfl⟩;omega
 ·rintro⟨h1,F⟩;exact⟨x-s,by omega,by omega⟩
def tH:List Fr->List Value
 |[]=>[]
 |f::t=>bX f (.slice none 0 0)++tH t
def ent(f:Nat->Option Addr×Nat)(x:Nat×lX):fO:=(x.1,(f x.1).1,x.2.frames.length,(f x.1).2,x.2.tick)
def nk(own:Own)(t tf:Nat)(w:World)(b:Nat)(l:List (Nat×lX)):Prop:=
 ∃f,own b=t/\iD w b (l.map (ent f))/\∀x∈l,GT own tf 65 10 w (.slice (f x.1).1 x.2.frames.length (f x.1).2) x.2.frames.length (tH x.2.frames)
theorem nk.kp{own own':Own}{t tf:Nat}{w w':World}{b:Nat}{l:List (Nat×lX)}{T:List Nat}(h:nk own t tf w b l)(K:Kp T own own' w w')(I:t∉T)(H:tf∉T):nk own' t tf w' b l:=by
 obtain⟨f,h1,F,G⟩:=h;exact⟨f,by rw[K.ext b F.lt,h1],F.kept (K.blk b F.lt (by rw[h1];exact I)),fun x O=>(G x O).kp K H⟩
structure bM (own:Own) (s:Nat) (w:World) (S:Nat) (l:List Value) (M:Side) (bw bl bi:Nat) (vc:Value):Prop where
 ow:own S=s
 s0:0<s
 blk:ak w S TS l
 cells:Vg l M bw bl bi vc
 out:∀k,k<8->wM own (s+1+5*k) w S l (4+27*k) (M.out k)
 inn:∀k,k<8->zL own (s+4+5*k) w l (18+27*k) (M.inn k)
 row:jc own (s+41) w S vc M.came.rs
 way:nk own (s+42) (s+44) w bw M.ay
 lost:nk own (s+43) (s+44) w bl M.lost
 lo:M.outs.length=8
 li:M.ins.length=8
theorem bM.kp{own own':Own}{s:Nat}{w w':World}{S:Nat}{l:List Value}{M:Side}{bw bl bi:Nat}{vc:Value}{T:List Nat}(h:bM own s w S l M bw bl bi vc)(K:Kp T own own' w w')(F:∀x,s<=x->x<s+45->x∉T):bM own' s w' S l M bw bl bi vc:=
 ⟨by rw[K.ext S h.blk.lt,h.ow],h.s0,aK h.blk K (by rw[h.ow];exact F _ (by omega) (by omega)),h.cells,
 fun k G=>(h.out k G).kp K (F _ (by omega) (by omega)) (F _ (by omega) (by omega)) (F _ (by omega) (by omega)) (iH.refl l (4+27*k+14) 0) (by omega),
 fun k G=>(h.inn k G).kp K (F _ (by omega) (by omega)) (F _ (by omega) (by omega)) (iH.refl l (18+27*k+13) 0) (by omega),
 h.row.kp K (F _ (by omega) (by omega)),h.way.kp K (F _ (by omega) (by omega)) (F _ (by omega) (by omega)),h.lost.kp K (F _ (by omega) (by omega)) (F _ (by omega) (by omega)),h.lo,h.li⟩
theorem bM.below{own:Own}{s:Nat}{w w':World}{S:Nat}{l:List Value}{M:Side}{bw bl bi:Nat}{vc:Value}(h:bM own s w S l M bw bl bi vc)(hb:Below w.heap.size w w'):bM own s w' S l M bw bl bi vc:=h.kp (Kp.below (T:=[]) hb) (by simp)
def fQ(s:Nat)(own:Own)(w:World)(S:Nat)(bw bl bi:Nat)(M':Side)(w':World):Prop:=∃own' l' F,bM own' s w' S l' M' bw bl bi F/\Kp (T0 s) own own' w w'
theorem fQ.refl{s:Nat}{own:Own}{w w':World}{S:Nat}{l:List Value}{bw bl bi:Nat}{vc:Value}{M:Side}(h:bM own s w S l M bw bl bi vc)(hb:Below w.heap.size w w'):fQ s own w S bw bl bi M w':=⟨own,l,vc,h.below hb,Kp.below hb⟩
theorem bM.aW{own:Own}{s:Nat}{w w':World}{S:Nat}{l:List Value}{M:Side}{bw bl bi:Nat}{vc:Value}(h:bM own s w S l M bw bl bi vc)(k:Nat)(U:k<8)(m:Ot)(q:gP s (s+1+5*k) own S (4+27*k) l w m w'):fQ s own w S bw bl bi (M.aW k m) w':=by
 obtain⟨own',l',K,hB,wi,O⟩:=q
 have F:∀x,x∈[s,s+1+5*k,s+1+5*k+1,s+1+5*k+1+1]->x=s\/(s+1+5*k<=x/\x<=s+3+5*k):=fun x I=>by
  simp only[Gl,qa5,or_false]at I;omega
 have V:∀j,(M.aW k m).out j=if j=k then m else M.out j:=fun j=>by
  rw[gL,h.lo]
  by_cases G:j=k
  ·rw[if_pos ⟨G,U⟩,if_pos G]
  ·rw[if_neg (fun x=>G x.1),if_neg G]
 refine⟨own',l',vc,⟨by rw[K.ext S h.blk.lt,h.ow],h.s0,hB,?_,fun j G=>?_,fun j G=>?_,h.row.kp K (fun e=>by have:=F _ e;omega),h.way.kp K (fun e=>by have:=F _ e;omega) (fun e=>by have:=F _ e;omega),h.lost.kp K (fun e=>by have:=F _ e;omega) (fun e=>by have:=F _ e;omega),(fu _ _ _).trans h.lo,h.li⟩,K.mono fun x I=>bG.2 (by have:=F x I;omega)⟩
 ·have c:=h.cells.win wi (by omega) (by omega);exact⟨c.len,c.c0,c.c1,c.c2,c.c3,c.mh,c.gr,c.nP,c.c226,c.c227,c.c228,c.c229,c.j6,c.mY,c.c232,c.c233,c.c234,c.mZ,c.c236,c.oO,c.j_,c.oP⟩
 ·rw[V]
  by_cases H:j=k
  ·subst H;rw[if_pos rfl];exact O
  ·rw[if_neg H];exact(h.out j G).kp K (fun e=>by have:=F _ e;omega) (fun e=>by have:=F _ e;omega) (fun e=>by have:=F _ e;omega) wi (by omega)
 ·exact(h.inn j G).kp K (fun e=>by have:=F _ e;omega) (fun e=>by have:=F _ e;omega) wi (by omega)
theorem bM.bP{own:Own}{s:Nat}{w w':World}{S:Nat}{l:List Value}{M:Side}{bw bl bi:Nat}{vc:Value}(h:bM own s w S l M bw bl bi vc)(k:Nat)(U:k<8)(m:bI)(q:NR s (s+4+5*k) own S (18+27*k) l w m w'):fQ s own w S bw bl bi (M.bP k m) w':=by
 obtain⟨own',l',K,hB,wi,O⟩:=q
 have F:∀x,x∈[s,s+4+5*k,s+4+5*k+1]->x=s\/(s+4+5*k<=x/\x<=s+5+5*k):=fun x I=>by
  simp only[Gl,qa5,or_false]at I;omega
 have V:∀j,(M.bP k m).inn j=if j=k then m else M.inn j:=fun j=>by
  rw[fM,h.li]
  by_cases G:j=k
  ·rw[if_pos ⟨G,U⟩,if_pos G]
  ·rw[if_neg (fun x=>G x.1),if_neg G]
 refine⟨own',l',vc,⟨by rw[K.ext S h.blk.lt,h.ow],h.s0,hB,?_,fun j G=>?_,fun j G=>?_,h.row.kp K (fun e=>by have:=F _ e;omega),h.way.kp K (fun e=>by have:=F _ e;omega) (fun e=>by have:=F _ e;omega),h.lost.kp K (fun e=>by have:=F _ e;omega) (fun e=>by have:=F _ e;omega),h.lo,(fu _ _ _).trans h.li⟩,K.mono fun x I=>bG.2 (by have:=F x I;omega)⟩
 ·have c:=h.cells.win wi (by omega) (by omega);exact⟨c.len,c.c0,c.c1,c.c2,c.c3,c.mh,c.gr,c.nP,c.c226,c.c227,c.c228,c.c229,c.j6,c.mY,c.c232,c.c233,c.c234,c.mZ,c.c236,c.oO,c.j_,c.oP⟩
 ·exact(h.out j G).kp K (fun e=>by have:=F _ e;omega) (fun e=>by have:=F _ e;omega) (fun e=>by have:=F _ e;omega) wi (by omega)
 ·rw[V]
  by_cases H:j=k
  ·subst H;rw[if_pos rfl];exact O
  ·rw[if_neg H];exact(h.inn j G).kp K (fun e=>by have:=F _ e;omega) (fun e=>by have:=F _ e;omega) wi (by omega)
theorem bM.cell{own:Own}{s:Nat}{w w':World}{S:Nat}{l l':List Value}{M M':Side}{bw bl bi:Nat}{vc:Value}(h:bM own s w S l M bw bl bi vc)(o n:Nat)(ho:o+n<=4\/220<=o)(q:cu w w' S l l' o n)(hc:Vg l' M' bw bl bi vc)(I:M'.outs=M.outs)(O:M'.ins=M.ins)(U:M'.came=M.came)(V:M'.ay=M.ay)(X:M'.lost=M.lost):fQ s own w S bw bl bi M' w':=by
 have K:Kp [s] own own w w':=q.kp h.ow (by simp)
 have F:∀x,x∈[s]->x=s:=fun x H=>by simpa using H
 have eo:∀j,M'.out j=M.out j:=fun j=>by unfold Side.out;rw[I]
 have Z:∀j,M'.inn j=M.inn j:=fun j=>by unfold Side.inn;rw[O]
 refine⟨own,l',vc,⟨h.ow,h.s0,q.blk,hc,fun j G=>?_,fun j G=>?_,?_,?_,?_,by rw[I];exact h.lo,by rw[O];exact h.li⟩,K.mono fun x H=>bG.2 (by have:=F x H;omega)⟩
 ·rw[eo];exact(h.out j G).kp K (fun e=>by have:=F _ e;omega) (fun e=>by have:=F _ e;omega) (fun e=>by have:=F _ e;omega) q.win (by omega)
 ·rw[Z];exact(h.inn j G).kp K (fun e=>by have:=F _ e;omega) (fun e=>by have:=F _ e;omega) q.win (by omega)
 ·rw[U];exact h.row.kp K (fun e=>by have:=F _ e;omega)
 ·rw[V];exact h.way.kp K (fun e=>by have:=F _ e;omega) (fun e=>by have:=F _ e;omega)
 ·rw[X];exact h.lost.kp K (fun e=>by have:=F _ e;omega) (fun e=>by have:=F _ e;omega)
theorem KU{α:Type}(d:α)(f:Nat->α->Nat)(l:List α)(k:Nat)(F:k<l.length)(s:Nat):(l.take (k+1)).foldl f s=f ((l.take k).foldl f s) (l.getD k d):=by
 rw[Lb,jK F,List.foldl_append,nI,jK F];rfl
theorem Jf(own:Own)(s:Nat)(S:Nat)(l:List Value)(M:Side)(bw bl bi:Nat)(vc:Value)(w:World)(h:bM own s w S l M bw bl bi vc)(ok:∀k,(M.inn k).free<=aU):
  Calls prog 252 #[.pointer (some ⟨S,0,none⟩)] w fun e w'=>e=.returned (.int .u64 M.free)/\w'=w:=by
 obtain⟨F,hF⟩:∃F:Nat->Nat,F=fun k=>(M.ins.take k).foldl (fun s i=>min (s+i.free) aU) 0:=⟨_,rfl⟩
 have h0:F 0=0:=by rw[hF];rfl
 have hs:∀k,k<8->F (k+1)=min (F k+(M.inn k).free) aU:=fun k H=>by rw[hF];exact KU sQ _ M.ins k (by rw[h.li];exact H) 0
 have h8:F 8=M.free:=by rw[hF];show(M.ins.take 8).foldl _ 0=_;rw[Vp (by rw[h.li];omega)];rfl
 have I:∀k,k<=8->F k<=aU:=fun k H=>by
  cases k with
  |zero=>rw[h0];exact Nat.zero_le _
  |succ k=>rw[hs k (by omega)];exact Nat.min_le_right _ _
 rw[<-h8]
 have HC:Hid (∀k,k<8->Calls prog 310 #[.pointer (some ⟨S,4+k*27+14,none⟩)] w fun e w'=>e=.returned (.int .u64 ((M.inn k).free:Int))/\w'=w):=fun k H=>by
  obtain⟨vh,gF,hL,_⟩:=h.inn k H;have:=Bb S (18+27*k) (M.inn k) vh gF w l h.blk hL;rw[show 18+27*k=4+k*27+14 by omega]at this;exact this
 have HS:=hid (And.intro hs (And.intro I ok));clear hF hs I ok h8 h;go_enter func252,ntmps252;go_wp2
 go_loopw [3,5] (fun s3 V wr=>∃k:Nat,k<=8/\s3=.int .u64 (F k:Int)/\V=.int .i64 k/\wr=w) (fun _ V _=>8-(intOf V).toNat)
 case atStart=>exact⟨0,by omega,by rw[h0];rfl,rfl,rfl⟩
 case round=>
  obtain⟨k,H,rfl,rfl,rfl⟩:=hrel
  by_cases O:k<8
  ·obtain⟨g1,g2,g3⟩:=HS.out;have hc:=HC.out k O
   have h2:(k:Int)<8:=by omega
   have Z:=g2 k H;have b2:=g3 k;have b3:=g1 k O;obtain⟨mm,U,G⟩:=min2 (F k+(M.inn k).free) aU;rw[<-G]at b3
   have b4:F k+(M.inn k).free<18446744073709551616:=by unfold aU at Z b2;omega
   generalize F k=A at *;generalize (M.inn k).free=Bf at *;have HM:=hid G;unfold aU at U Z b2
   have h3:∀X t w,(Builtin.min_ X t #[.int .u64 ((A:Int)+(Bf:Int)),.int .u64 4611686018427387903]).run prog w=.ok (.int .u64 mm) w:=fun X t w=>by
    have:=U X t w;rw[M4]at this;exact this
   clear g1 g2 g3 G U
   go_wp2_with (first
    |(go_at_call 310;refine hc.mono ?_;rintro e w' ⟨rfl,rfl⟩)
    |go_in)
   go_roundw
   case rel=>exact⟨k+1,by omega,by rw[b3],by simp,trivial⟩
   case measure=>simp[intOf];omega
  ·obtain rfl:k=8:=by omega
   go_wp2;go_ret;exact⟨rfl,rfl⟩
theorem Om{α:Type}(d:α)(f:α->Nat)(l:List α)(k:Nat)(F:k<l.length):((l.take (k+1)).map f).sum=((l.take k).map f).sum+f (l.getD k d):=by
 rw[Lb,jK F,Kt,Vh,nI,jK F];simp
theorem DF{α:Type}(f:α->Nat)(l:List α)(k:Nat):((l.take k).map f).sum<=(l.map f).sum:=by
 conv=>rhs;rw[<-List.take_append_drop k l]
 rw[Kt,Vh];omega
theorem zW(own:Own)(s:Nat)(S:Nat)(l:List Value)(M:Side)(bw bl bi:Nat)(vc:Value)(w:World)(h:bM own s w S l M bw bl bi vc)(U:M.spent<=M.limit)(O:M.limit<=aU):
  Calls prog 265 #[.pointer (some ⟨S,0,none⟩)] w fun e w'=>e=.returned (.int .u64 M.au)/\w'=w:=by
 obtain⟨F,hF⟩:∃F:Nat->Nat,F=fun k=>M.limit-((M.outs.take k).map Ot.sent).sum:=⟨_,rfl⟩
 have h0:F 0=M.limit:=by rw[hF];rfl
 have hs:∀k,k<8->F k=F (k+1)+(M.out k).sent:=fun k I=>by
  rw[hF];have e:=Om sF Ot.sent M.outs k (by rw[h.lo];exact I);have e2:=DF Ot.sent M.outs (k+1);have e3:(M.outs.map Ot.sent).sum=M.spent:=rfl;have e4:(M.outs.getD k sF).sent=(M.out k).sent:=rfl;show M.limit-((M.outs.take k).map Ot.sent).sum=M.limit-((M.outs.take (k+1)).map Ot.sent).sum+_;omega
 have h8:F 8=M.au:=by rw[hF];show M.limit-((M.outs.take 8).map Ot.sent).sum=_;rw[Vp (by rw[h.lo];omega)];rfl
 have G:∀k,F k<=aU:=fun k=>by rw[hF];show M.limit-_<=aU;omega
 rw[<-h8]
 have mh:w.cell? ⟨S,220,none⟩=some (.int .u64 (F 0:Int)):=by rw[h0];exact(h.blk.cell _).trans h.cells.mh
 have HC:Hid (∀k,k<8->Calls prog 315 #[.pointer (some ⟨S,4+k*27,none⟩)] w fun e w'=>e=.returned (.int .u64 ((M.out k).sent:Int))/\w'=w):=fun k I=>by
  obtain⟨vb,va,gF,hL,_⟩:=h.out k I;have:=R5 S (4+27*k) (M.out k).sent w ((h.blk.cell _).trans hL.c7);rw[show 4+27*k=4+k*27 by omega]at this;exact this
 have X:=hid (And.intro hs G);clear hF hs G h8 h h0 U O;go_enter func265,ntmps265;go_wp2
 go_loopw [3,9] (fun s3 V wr=>∃k:Nat,k<=8/\s3=.int .u64 (F k:Int)/\V=.int .i64 k/\wr=w) (fun _ V _=>8-(intOf V).toNat)
 case atStart=>exact⟨0,by omega,rfl,rfl,rfl⟩
 case round=>
  obtain⟨k,I,rfl,rfl,rfl⟩:=hrel
  by_cases H:k<8
  ·have hc:=HC.out k H
   have h2:(k:Int)<8:=by omega
   have b1:=X.out.2 k;have b2:=X.out.1 k H;unfold aU at b1
   have b3:0<=(F k:Int)-((M.out k).sent:Int):=by omega
   have b4:(F k:Int)-((M.out k).sent:Int)<18446744073709551616:=by omega
   have Z:(F k:Int)-((M.out k).sent:Int)=(F (k+1):Int):=by omega
   have HB:=hid Z;clear b2 Z;generalize F k=A at *;generalize (M.out k).sent=Bf at *
   go_wp2_with (first
    |(go_at_call 315;refine hc.mono ?_;rintro e w' ⟨rfl,rfl⟩)
    |go_in)
   go_roundw
   case rel=>exact⟨k+1,by omega,by rw[HB.out],by simp,trivial⟩
   case measure=>simp[intOf];omega
  ·obtain rfl:k=8:=by omega
   go_wp2;go_ret;exact⟨rfl,rfl⟩
theorem Oo(own:Own)(s:Nat)(S:Nat)(l:List Value)(M:Side)(bw bl bi:Nat)(vc:Value)(f:Fr)(r1:Option Addr)(r2 r3:Nat)(j:Nat)(hj:f.stream=(j:Int))(w:World)(h:bM own s w S l M bw bl bi vc)(hb:∀k,(M.inn k).high<=1000000)(he:av f<=1000000):
  Calls prog 297 #[.pointer (some ⟨S,0,none⟩),bJ f (.slice r1 r2 r3)] w fun e w'=>e=.returned (.int .u64 (M.nL j (av f):Int))/\Below w.heap.size w w':=by
 obtain⟨F,hF⟩:∃F:Nat->Nat,F=fun k=>((List.range k).map fun i=>max (M.inn i).high (if i=j then av f else 0)).sum:=⟨_,rfl⟩
 have h0:F 0=0:=by rw[hF];rfl
 have hs:∀k,F (k+1)=F k+max (M.inn k).high (if k=j then av f else 0):=fun k=>by
  rw[hF];show((List.range (k+1)).map _).sum=_;rw[List.range_succ,Kt,Vh];simp
 have h8:F 8=M.nL j (av f):=by rw[hF];rfl
 have h4:∀k,F k<=k*1000000:=fun k=>by
  induction k with
  |zero=>rw[h0];omega
  |succ k ih=>
   rw[hs];have:=hb k
   have:max (M.inn k).high (if k=j then av f else 0)<=1000000:=by split<;>omega
   omega
 rw[<-h8];obtain⟨V,I⟩:∃V,V=w.alloc (.cells (bX f (.slice r1 r2 r3)).toArray 65):=⟨_,rfl⟩
 have X:Below w.heap.size w V:=by rw[I];exact(ZE _ w).alloc (uj _) _
 have O:ak V w.heap.size 65 (bX f (.slice r1 r2 r3)):=by rw[I];exact ak.new w 65 _
 have HP:=hid O;have Z:=hid X
 have HC:Hid (∀k,k<8->∀W e0,Below V.heap.size V W->Calls prog 339 #[.pointer (some ⟨S,4+k*27+14,none⟩),.int .u64 ((e0:Nat):Int)] W fun e w'=>e=.returned (.int .u64 ((max (M.inn k).high e0:Nat):Int))/\w'=W):=fun k hk W e0 h6=>by
  have h':=(h.below X).below h6;obtain⟨vh,gF,hL,_⟩:=h'.inn k hk;have:=uO S (18+27*k) (M.inn k) vh gF W l h'.blk hL e0;rw[show 18+27*k=4+k*27+14 by omega]at this;exact this
 have HE:Hid (∀W,Calls prog 318 #[.agg #[.int .i64 f.kind,.int .i64 j,.int .u64 f.offset,.int .u64 f.reliable,.int .u64 f.limit,.bool f.fin,.int .u64 f.id,.int .u64 f.deadline,.string f.data,.slice r1 r2 r3]] W fun e w'=>e=.returned (.int .u64 (av f:Int))/\Below W.heap.size W w'):=fun W=>by
  have:=g_ f (.slice r1 r2 r3) W (by unfold av at he;unfold aU;omega) (by unfold av at he;omega);unfold bJ at this;rw[hj]at this;exact this
 have HS:=hid (And.intro hs (And.intro h4 hb));clear hF hs h4 h8 h hb;unfold bJ;rw[hj];unfold bX at I HP O;rw[hj]at I HP O;generalize av f=E at *;clear X O;go_enter func297,ntmps297;go_wp2;rw[<-I]
 go_loopw [5,8] (fun s5 s8 wr=>∃k:Nat,k<=8/\s5=.int .u64 (F k:Int)/\s8=.int .i64 k/\Hid (Below V.heap.size V wr)) (fun _ s8 _=>8-(intOf s8).toNat)
 case atStart=>exact⟨0,by omega,by rw[h0];rfl,rfl,ZE _ _⟩
 case round=>
  obtain⟨k,hk,rfl,rfl,U⟩:=hrel
  by_cases h7:k<8
  ·have h9:(k:Int)<8:=by omega
   obtain⟨g1,g2,g3⟩:=HS.out;have b1:=g2 k;have b2:=g3 k;have b3:=g1 k;have H:=bV U.out HP.out;have x0:=H.cell 0;have x1:=H.cell 1;have x2:=H.cell 2;have x3:=H.cell 3;have x4:=H.cell 4;have x5:=H.cell 5;have x6:=H.cell 6;have x7:=H.cell 7;have x8:=H.cell 8;have x9:=H.cell 9;simp only[List.getElem?_cons_zero,List.getElem?_cons_succ]at x0 x1 x2 x3 x4 x5 x6 x7 x8 x9
   have h5:max (M.inn k).high (if k=j then E else 0)<=1000000:=by split<;>omega
   have hc:=HC.out k h7;clear g1 g2 g3 b1 b2 H
   have b4:F k<=8000000:=by have:=HS.out.2.1 k;omega
   by_cases G:k=j
   ·rw[if_pos G]at b3 h5
    have e1:((k:Int)==(j:Int))=true:=by rw[G];simp
    have HK:=hid G;clear G;generalize (M.inn k).high=Hh at *;generalize F k=A at *
    go_wp2_with (first
     |(go_at_call 318;refine(HE.out wr).mono ?_;rintro e w2 ⟨rfl,h2⟩)
     |(go_at_call 339;refine(hc w2 E (U.out.trans (h2.mono U.out.size))).mono ?_;rintro e w3 ⟨rfl,rfl⟩)
     |go_in)
    go_roundw
    case rel=>exact⟨k+1,by omega,by rw[b3,M4],by simp,U.out.trans (h2.mono U.out.size)⟩
    case measure=>simp[intOf];omega
   ·rw[if_neg G]at b3 h5
    have e1:((k:Int)==(j:Int))=false:=by rw[beq_eq_false_iff_ne];omega
    have HK:=hid G;clear G;generalize (M.inn k).high=Hh at *;generalize F k=A at *;have h3:=hc wr 0 U.out;rw[show(((0:Nat)):Int)=0 from rfl]at h3
    go_wp2_with (first
     |(go_at_call 339;refine h3.mono ?_;rintro e w3 ⟨rfl,rfl⟩)
     |go_in)
    go_roundw
    case rel=>exact⟨k+1,by omega,by rw[b3,M4,Nat.max_zero],by simp,U.out⟩
    case measure=>simp[intOf];omega
  ·obtain rfl:k=8:=by omega
   go_wp2;go_ret;exact⟨rfl,Z.out.trans (U.out.mono Z.out.size)⟩
theorem GH{own own':Own}{w w':World}{rb off:Nat}{rs:List (Nat×Nat)}{T:List Nat}(h:fq w (some ⟨rb,off,none⟩) rs)(K:Kp T own own' w w')(G:rb<w.heap.size)(F:own rb∉T):fq w' (some ⟨rb,off,none⟩) rs:=fun j U=>by
 obtain⟨b,o,h1,H,I,O⟩:=h j U;simp only[Option.some.injEq,Addr.mk.injEq,and_true]at h1;obtain⟨rfl,rfl⟩:=h1;exact⟨rb,off,rfl,cell_of H (K.blk rb G F),cell_of I (K.blk rb G F),O⟩
def RgM(own:Own)(t:Nat)(w:World)(v:Value)(rs:List (Nat×Nat)):Prop:=
 (v=.slice none 0 0/\rs=[])\/∃rb off c,v=.slice (some ⟨rb,off,none⟩) rs.length c/\rs.length<=c/\c<=9223372036854775807/\rb<w.heap.size/\own rb=t/\fq w (some ⟨rb,off,none⟩) rs
theorem RgM.kp{own own':Own}{t:Nat}{w w':World}{v:Value}{rs:List (Nat×Nat)}{T:List Nat}(h:RgM own t w v rs)(K:Kp T own own' w w')(U:t∉T):RgM own' t w' v rs:=by
 rcases h with h|⟨rb,off,c,h1,H,I,F,G,O⟩
 ·exact .inl h
 ·exact .inr ⟨rb,off,c,h1,H,I,tL F K.size,by rw[K.ext rb F,G],GH O K F (by rw[G];exact U)⟩
def AnM(own:Own)(s:Nat)(w:World)(ab:Nat)(left:List (Nat×Nat)):Prop:=own ab=s+48/\∃v,ak w ab 342 [v]/\RgM own (s+49) w v left
theorem AnM.kp{own own':Own}{s:Nat}{w w':World}{ab:Nat}{left:List (Nat×Nat)}{T:List Nat}(h:AnM own s w ab left)(K:Kp T own own' w w')(h1:s+48∉T)(I:s+49∉T):AnM own' s w' ab left:=by
 obtain⟨F,v,G,H⟩:=h;exact⟨by rw[K.ext ab G.lt,F],v,aK G K (by rw[F];exact h1),H.kp K I⟩
def Env(own:Own)(s:Nat)(w:World)(S bw bl bi ab:Nat)(M:Side)(left:List (Nat×Nat)):Prop:=∃l vc,bM own s w S l M bw bl bi vc/\AnM own s w ab left
theorem Env.kp{own own':Own}{s:Nat}{w w':World}{S bw bl bi ab:Nat}{M:Side}{left:List (Nat×Nat)}{T:List Nat}(h:Env own s w S bw bl bi ab M left)(K:Kp T own own' w w')(G:∀x,s<=x->x<s+45->x∉T)(h1:s+48∉T)(F:s+49∉T):Env own' s w' S bw bl bi ab M left:=by
 obtain⟨l,vc,a,b⟩:=h;exact⟨l,vc,a.kp K G,b.kp K h1 F⟩
theorem Env.below{own:Own}{s:Nat}{w w':World}{S bw bl bi ab:Nat}{M:Side}{left:List (Nat×Nat)}(h:Env own s w S bw bl bi ab M left)(hb:Below w.heap.size w w'):Env own s w' S bw bl bi ab M left:=h.kp (Kp.below (T:=[]) hb) (by simp) (by simp) (by simp)
structure Wk (M:Side):Prop where
 ob:∀k,(M.out k).bytes.length<=2048
 oa:∀k,tq (M.out k).away
 oc:∀k,tq (M.out k).came
 ng:∀k,(M.out k).nt.given=false
 inn:∀k,Q8 (M.inn k)
 ga:M.gr.ahead<=4096
 sp:M.spent<=M.limit
 lm:M.limit<=aU
 q:M.queue=[]
 wl:M.ay.length<100000
theorem Wk.sent{M:Side}(h:Wk M)(hl:M.outs.length=8)(k:Nat)(G:k<8):(M.out k).sent<=aU:=by
 have h1:=h.sp;have F:=h.lm
 have:(M.out k).sent<=M.spent:=by
  have:=uG (M.outs.map Ot.sent) k
  have e:(M.outs.map Ot.sent).getD k 0=(M.out k).sent:=by
   unfold Side.out;rw[nI,nI,List.getElem?_map,jK (by omega)];rfl
  rw[e]at this;exact this
 omega
def Tn(s:Nat):List Nat:=qa3 s 45++[s+48]
def Tb(s:Nat):List Nat:=(qa3 s 60).filter fun x=> !decide (x=s+47)&& !decide (x=s+49)
theorem qm{s x:Nat}:x∈Tn s↔(s<=x/\x<s+45)\/x=s+48:=by
 unfold Tn;rw[wz,Si,List.mem_singleton];constructor
 ·rintro(⟨i,h,rfl⟩|h)
  ·left;omega
  ·exact .inr h
 ·rintro(⟨h1,F⟩|h)
  ·exact .inl ⟨x-s,by omega,by omega⟩
  ·exact .inr h
theorem fB{s x:Nat}:x∈Tb s↔(s<=x/\x<s+60)/\x≠s+47/\x≠s+49:=by
 unfold Tb;rw[tT,Si];simp only[Bool.and_eq_true,DJ,decide_eq_false_iff_not];refine and_congr ⟨?_,?_⟩ Iff.rfl
 ·rintro⟨i,h,rfl⟩;omega
 ·rintro⟨h1,F⟩;exact⟨x-s,by omega,by omega⟩
theorem XU(s:Nat):∀x∈Tn s,x∈Tb s:=fun x F=>fB.2 (by have:=qm.1 F;omega)
structure MO (own:Own) (s:Nat) (w:World) (x:FV):Prop where
 len:x.2.2.1=x.1.ranges.length
 cap:x.1.ranges.length<=x.2.2.2
 rng:fq w x.2.1 x.1.ranges
 blk:∀a,x.2.1=some a->a.block<w.heap.size/\own a.block=s+49/\a.spot=none
 nil:x.1.kind≠2->x.2=(none,0,0)
theorem MO.none(own:Own)(s:Nat)(w:World)(f:Fr)(h:f.ranges=[]):MO own s w (f,.none,0,0):=⟨by rw[h];rfl,by rw[h];exact uj _,fun j F=>by rw[h]at F;exact absurd F (qa6 _),(fun a G=>by cases G),fun _=>rfl⟩
def iJ(own:Own)(s:Nat)(w:World)(S bw bl bi ab:Nat)(M:Side)(left:List (Nat×Nat))(r:Option (Fr×Side×List (Nat×Nat)))(e:Ending)(w':World):Prop:=
 ∃(x:FV) (b:Bool) (own':Own),e=.returned (.tuple #[bJ x.1 (j5 x),.bool b])/\b=r.isSome/\Kp (Tn s) own own' w w'/\Env own' s w' S bw bl bi ab ((r.map fun y=>y.2.1).getD M) ((r.map fun y=>y.2.2).getD left)/\∀y,r=some y->x.1=y.1/\MO own' s w' x
def lH(own:Own)(s:Nat)(w0:World)(S bw bl bi ab:Nat)(n:Nat)(p k:Array Value)(iw:Side->List (Nat×Nat)->Bool):Prop:=
 ∀own' w M left,Kp (Tb s) own own' w0 w->Env own' s w S bw bl bi ab M left->Wk M->Calls prog n (p++k) w fun e w'=>e=.returned (.bool (iw M left))/\Below w.heap.size w w'
def iO(own:Own)(s:Nat)(w0:World)(S bw bl bi ab:Nat)(n:Nat)(p k:Array Value)(iw:Side->List (Nat×Nat)->Bool)(nx:Side->List (Nat×Nat)->Int->Option (Fr×Side×List (Nat×Nat))):Prop:=
 ∀own' w M left (room:Int),Kp (Tb s) own own' w0 w->Env own' s w S bw bl bi ab M left->Wk M->iw M left=true-> -1000000<=room/\room<=1000000->Calls prog n (p.push (.int .i64 room)++k) w fun e w'=>iJ own' s w S bw bl bi ab M left (nx M left room) e w'
theorem lH.kp{own F:Own}{s:Nat}{w0 w1:World}{S bw bl bi ab n:Nat}{p k:Array Value}{iw:Side->List (Nat×Nat)->Bool}(h:lH own s w0 S bw bl bi ab n p k iw)(K:Kp (Tb s) own F w0 w1):lH F s w1 S bw bl bi ab n p k iw:=
 fun own' w M left G=>h own' w M left (K.trans G)
theorem iO.kp{own F:Own}{s:Nat}{w0 w1:World}{S bw bl bi ab n:Nat}{p k:Array Value}{iw:Side->List (Nat×Nat)->Bool}{nx:Side->List (Nat×Nat)->Int->Option (Fr×Side×List (Nat×Nat))}(h:iO own s w0 S bw bl bi ab n p k iw nx)(K:Kp (Tb s) own F w0 w1):iO F s w1 S bw bl bi ab n p k iw nx:=
 fun own' w M left room G=>h own' w M left room (K.trans G)
structure Bx (own:Own) (s:Nat) (w:World) (b:Nat) (t:TypeId) (v:Value):Prop where
 ow:own b=s+47
 blk:ak w b t [v]
theorem Bx.kp{own own':Own}{s:Nat}{w w':World}{b:Nat}{t:TypeId}{v:Value}(h:Bx own s w b t v)(K:Kp (Tb s) own own' w w'):Bx own' s w' b t v:=
 ⟨by rw[K.ext b h.blk.lt,h.ow],aK h.blk K (by rw[h.ow];exact fun e=>(fB.1 e).2.1 rfl)⟩
theorem Bx.below{own:Own}{s:Nat}{w w':World}{b:Nat}{t:TypeId}{v:Value}(h:Bx own s w b t v)(hb:Below w.heap.size w w'):Bx own s w' b t v:=⟨h.ow,bV hb h.blk⟩
theorem Bx.cell{own:Own}{s:Nat}{w:World}{b:Nat}{t:TypeId}{v:Value}(h:Bx own s w b t v):w.cell? ⟨b,0,none⟩=some v:=h.blk.cell 0
theorem GI{own:Own}{s:Nat}{w0:World}{S bw bl bi ab:Nat}{n:Nat}{p k:Array Value}{iw:Side->List (Nat×Nat)->Bool}(I b2:Nat)(eg:∀args w,(callFunc n args).run prog w=.ok (.enter n args) w)(h1:Bx own s w0 I 128 (.pointer (some ⟨S,0,none⟩)))(h2:Bx own s w0 b2 28 (.func (.func n) p k))(h:lH own s w0 S bw bl bi ab n p k iw):lH own s w0 S bw bl bi ab 261 #[] #[.pointer (some ⟨I,0,none⟩),.pointer (some ⟨b2,0,none⟩)] fun M left=> !M.full&&iw M left:=by
 intro own' w M left K hE O;have hc:=h own' w M left K hE O;obtain⟨l,vc,H,hA⟩:=hE;have x1:=(h1.kp K).cell;have x2:=(h2.kp K).cell;have j6:w.cell? ⟨S,230,none⟩=some (.map (some bw)):=(H.blk.cell _).trans H.cells.j6;obtain⟨f,V,G,X⟩:=H.way;have F:=R_ bw _ w G (by rw[Bu];have:=O.wl;omega);rw[Bu]at F;have Z:Hid (Calls prog 262 #[.map (some bw)] w fun e w'=>e=.returned (.bool M.full)/\w'=w):=F;have HC:=hid hc
 show Calls prog 261 #[.pointer (some ⟨I,0,none⟩),.pointer (some ⟨b2,0,none⟩)] w fun e w'=>e=.returned (.bool (!M.full&&iw M left))/\Below w.heap.size w w'
 generalize iw M left=B at *;clear hc F G X V H hA O h h1 h2 K;generalize M.full=FU at *;cases FU
 ·go_enter func261,ntmps261
  go_wp2_with (first
   |(go_at_call 262;refine Z.out.mono ?_;rintro e w' ⟨rfl,rfl⟩)
   |(go_at_fn n;refine HC.out.mono ?_;rintro e w2 ⟨rfl,U⟩)
   |go_in)
  go_ret;exact⟨by simp,U⟩
 ·go_enter func261,ntmps261
  go_wp2_with (first
   |(go_at_call 262;refine Z.out.mono ?_;rintro e w' ⟨rfl,rfl⟩)
   |go_in)
  go_ret;exact⟨by simp,ZE _ _⟩
theorem qo(own:Own)(w:World):Kp [] own (loc own w.heap.size) w w:=⟨rfl,rfl,rfl,uj _,fun _ _ _=>rfl,fun b hb=>fH own _ b hb⟩
theorem S_{own:Own}{s:Nat}{w W y G:World}{S bw bl bi ab:Nat}{M':Side}{left:List (Nat×Nat)}(U:AnM own s w ab left)(hs:0<s)(X:Below w.heap.size w W)(hsz:w.heap.size<W.heap.size)(q:fQ s (loc own w.heap.size) W S bw bl bi M' y)(ht:jD w.heap.size y G):
  ∃own',Kp (Tn s) own own' w G/\Env own' s G S bw bl bi ab M' left:=by
 obtain⟨own',l',O,h1,K⟩:=q;have F:Kp (T0 s) own own' w y:=((qo own w).mono (by simp)).trans ((Kp.below X).trans K)
 have V:own' w.heap.size∈[0]:=by rw[K.ext _ hsz,eT _ _ _ (uj _)];simp
 have H:Kp [0] own' own' y G:=ht.kpt V;have I:Kp (Tn s) own own' w G:=⟨ht.os.trans F.os,ht.tape.trans F.tape,ht.output.trans F.output,by rw[ht.size];exact F.size,fun b hb Z=>(ht.block b (by omega)).trans (F.blk b hb (fun e=>Z (qm.2 (.inl (bG.1 e))))),F.ext⟩;refine⟨own',I,l',O,h1.kp H (fun x hx _ e=>by simp at e;omega),?_⟩;have:=U.kp (T:=T0 s) (own':=own') (w':=y) F (fun e=>by have:=bG.1 e;omega) (fun e=>by have:=bG.1 e;omega);exact this.kp H (by simp) (by simp)
theorem bM.loc{own:Own}{s:Nat}{w W:World}{S:Nat}{l:List Value}{M:Side}{bw bl bi:Nat}{vc:Value}(h:bM own s w S l M bw bl bi vc)(F:Below w.heap.size w W):bM (loc own w.heap.size) s W S l M bw bl bi vc:=
 (h.kp (qo own w) (by simp)).below F
end Go.Proofs.YtphbledmopchnaaGreatDoor.Sd
namespace Go.Proofs.YtphbledmopchnaaGreatDoor.Sd
open Go.RowKit Go.Lib Mm Go.Maps Tryz
section
attribute [local go_sem] Oper.semAt_some
theorem xI:∀(fs:List Fr) (j i:Nat),j<fs.length->i<10->(tH fs)[j*10+i]?=(bX (fs.getD j dW) (.slice none 0 0))[i]?
 |[],_,_,h,_=>by simp at h
 |f::t,0,i,_,hi=>by
  show(bX f (.slice none 0 0)++tH t)[0*10+i]?=_;rw[Nat.zero_mul,Nat.zero_add,List.getElem?_append_left (by exact hi)];rfl
 |f::t,j+1,i,h,hi=>by
  show(bX f (.slice none 0 0)++tH t)[(j+1)*10+i]?=_;have hl:(bX f (.slice none 0 0)).length=10:=rfl;rw[List.getElem?_append_right (by omega),hl,show(j+1)*10+i-10=j*10+i by omega,xI t j i (by simpa using h) hi];rfl
theorem Ac:∀(l:List (Nat×lX)) (y:Nat×lX),(l.Pairwise fun x z=>x.1≠z.1)->y∈l->l.Perm (y::l.filter fun z=> !decide (z.1=y.1))
 |[],_,_,h=>by cases h
 |a::t,y,hp,h=>by
  obtain⟨h1,F⟩:=List.pairwise_cons.1 hp
  by_cases e:a.1=y.1
  ·have G:y=a:=by
    rcases Gl.1 h with h|h
    ·exact h
    ·exact absurd e (h1 y h)
   subst G;rw[List.filter_cons_of_neg (by simp),List.filter_eq_self.2 fun z hz=>by simpa using fun e=>h1 z hz e.symm]
  ·have H:y∈t:=by
    rcases Gl.1 h with h|h
    ·exact absurd (by rw[h]) e
    ·exact h
   rw[List.filter_cons_of_pos (by simpa using e)];exact((Ac t y F H).cons a).trans (.swap _ _ _)
theorem GL(l m:List (Nat×lX)):frames (l++m)=frames l++frames m:=by simp[frames]
structure MR (f:Nat->Option Addr×Nat) (b r t tf tr:Nat) (ls:List (Nat×lX)) (J:Own->List Fr->World->Prop) (own:Own) (y:World) (lp lr:List (Nat×lX)) (pre:List Fr):Prop where
 rg:nN y b r (ls.map (ent f)) (lr.map (ent f))
 ob:own b=t
 orr:own r=tr
 gs:∀x∈ls,GT own tf 65 10 y (.slice (f x.1).1 x.2.frames.length (f x.1).2) x.2.frames.length (tH x.2.frames)
 pm:(lp++lr).Perm ls
 j:J own pre y
theorem MR.kp{f:Nat->Option Addr×Nat}{b r t tf tr:Nat}{ls:List (Nat×lX)}{J:Own->List Fr->World->Prop}{own own':Own}{y y':World}{lp lr:List (Nat×lX)}{pre F:List Fr}{T:List Nat}(h:MR f b r t tf tr ls J own y lp lr pre)(K:Kp T own own' y y')(h1:t∉T)(G:tf∉T)(H:tr∉T)(I:J own' F y'):
  MR f b r t tf tr ls J own' y' lp lr F:=
 ⟨h.rg.kept (K.blk b h.rg.map.lt (by rw[h.ob];exact h1)) (K.blk r h.rg.lt (by rw[h.orr];exact H)),by rw[K.ext b h.rg.map.lt,h.ob],by rw[K.ext r h.rg.lt,h.orr],fun x O=>(h.gs x O).kp K G,h.pm,I⟩
theorem MR.left{f:Nat->Option Addr×Nat}{b r t tf tr:Nat}{ls:List (Nat×lX)}{J:Own->List Fr->World->Prop}{own own':Own}{y y':World}{lp lr:List (Nat×lX)}{pre:List Fr}{T:List Nat}(h:MR f b r t tf tr ls J own y lp lr pre)(K:Kp T own own' y y')(h1:t∉T)(F:tr∉T):y'.rangeLeft b r=y.rangeLeft b r:=
 bO (K.blk b h.rg.map.lt (by rw[h.ob];exact h1)) (K.blk r h.rg.lt (by rw[h.orr];exact F))
theorem OU(F:Fence)(n:Nat)(hF:F.fn 243)(xo:F.round=none)(hn:1<=n)(L bx b t tf tr:Nat)(Ty:List Nat)(ls:List (Nat×lX))(xe:∀x∈ls,x.2.frames.length<=1000000)(ht:t∉Ty)(xr:tf∉Ty)(x1:tr∉Ty)(xd:tf≠tr)(J:Own->List Fr->World->Prop)(hJ:∀own own' pre W W',J own pre W->Kp [tr] own own' W W'->J own' pre W')(hY:∀own pre f W,J own pre W->(∃x∈ls,f∈x.2.frames)->YieldAt F (n-1) prog L #[bJ f (.slice none 0 0)] W fun e W'=>e=.returned (.bool true)/\∃own',J own' (pre++[f]) W'/\Kp Ty own own' W W')(own:Own)(W:World)(hb:ak W bx 203 [.map (some b)])(h6:nk own t tf W b ls)(h0:J own [] W):
  CallsIn F n prog 243 #[.func (.yield L) #[] #[],.pointer (some ⟨bx,0,none⟩)] W fun e W'=>(∃v,e=.returned v)/\∃own' lp,lp.Perm ls/\J own' (frames lp) W':=by
 obtain⟨f,f1,f2,f3⟩:=h6
 have xf:ls.Pairwise fun x z=>x.1≠z.1:=by
  have:=f2.keys;rw[List.pairwise_map]at this;exact this
 have k0:W.cell? ⟨bx,0,none⟩=some (.map (some b)):=hb.cell 0;have HJ:=hid hJ;have HY:=hid hY;have H0:=hid (And.intro f1 (And.intro f3 h0));have HM:=hid f2;clear hb f1 f2 f3 h0 hJ hY;refine callsIn_of_wp func243 rfl hF ?_ xo;simp only[ntmps243,List.size_toArray,List.length_cons,List.length_nil,Nat.reduceAdd,Nat.reduceSub,Array.replicate_succ,Array.replicate_zero,List.push_toArray,List.append_toArray,List.nil_append,List.cons_append]
 gi_wp2_with (first
  |(gi_at_range;refine GK _ rfl _ rfl b _ rfl HM.out ?_;intro w0 h8 X xp)
  |fail)
 have H1:Hid (∃G,MR f b W.heap.size t tf tr ls J G w0 [] ls []):=by
  obtain⟨G,ho⟩:∃G:Own,G=fun x=>if x<W.heap.size then own x else tr:=⟨_,rfl⟩
  have K:Kp [] own G W w0:=⟨X.os,X.tape,X.output,X.size,fun x Z _=>X.block x Z (by simp),fun x Z=>by rw[ho];exact if_pos Z⟩;exact⟨G,h8,by rw[K.ext b HM.out.lt];exact H0.out.1,by rw[ho];exact if_neg (qa7 _),fun x Z=>(H0.out.2.1 x Z).kp K (by simp),.refl _,HJ.out _ _ _ _ _ H0.out.2.2 (K.mono (by simp))⟩
 clear h8 X xp H0 HM k0
 go_frame
 gi_loopw [9] (fun _ wr=>∃own lp lr,Hid (MR f b W.heap.size t tf tr ls J own wr lp lr (frames lp))) (fun _ wr=>wr.rangeLeft b W.heap.size)
 case atStart=>
  obtain⟨G,h1⟩:=H1.out;exact⟨G,[],ls,h1⟩
 case round=>
  obtain⟨G,lp,lr,H2⟩:=hrel;clear H1;have hw:=H2.out.rg;obtain⟨lf,h5⟩:∃lf,lf=lr.map (ent f):=⟨_,rfl⟩;rw[<-h5]at hw;have he:=hid h5;clear h5
  gi_wp2_with (first
   |(gi_at_next;refine Le _ rfl _ rfl b W.heap.size _ _ rfl hw ?_ ?_)
   |fail)
  ·intro h0;rw[he.out]at h0
   gi_wp2
   go_end0
   have xj:lr=[]:=by cases lr with
    |nil=>rfl
    |cons a t=>simp at h0
   have h:=H2.out;rw[xj]at h;exact⟨⟨_,rfl⟩,G,lp,by simpa using h.pm,h.j⟩
  ·intro xn xa xl xc xt w1 Z Gm V O I xx hm;have H:=H2.out;obtain h5:=he.out;subst h5;obtain⟨y,hy,x4⟩:=KG.1 Z;simp only[ent,Prod.mk.injEq]at x4;obtain⟨rfl,rfl,rfl,rfl,rfl⟩:=x4
   have hv:lr.Pairwise fun x z=>x.1≠z.1:=by
    have:=(H.pm.pairwise_iff (fun{_ _} e=>Ne.symm e)).2 xf;exact(List.pairwise_append.1 this).2.1
   have x5:y∈ls:=H.pm.mem_iff.1 (wz.2 (.inr hy));have h9:=Ac lr y hv hy
   have h6:(lr.map (ent f)).filter (fun z=> !decide (z.1=y.1))=(lr.filter fun z=> !decide (z.1=y.1)).map (ent f):=by rw[R3];rfl
   rw[h6]at V;generalize Y_:(lr.filter fun z=> !decide (z.1=y.1))=U at V h9
   have X3:((lp++[y])++U).Perm ls:=by
    rw[qa2];exact((List.Perm.refl lp).append h9.symm).trans H.pm
   have K1:Kp [tr] G G wr w1:=⟨I.os,I.tape,I.output,I.size,fun b' x8 hn=>I.block b' x8 (fun e=>hn (by cases e;rw[H.orr];simp)),fun _ _=>rfl⟩
   have xm:tf∉[tr]:=by simpa using xd
   obtain⟨W3,h3⟩:∃W3,W3=w1.alloc (.cells #[.slice (f y.1).1 y.2.frames.length (f y.1).2,.int .u64 y.2.tick] 289):=⟨_,rfl⟩
   have K3:Kp [] G G w1 W3:=by rw[h3];exact Kp.alloc _ _ _ _
   have H3:Hid (MR f b W.heap.size t tf tr ls J G W3 (lp++[y]) U (frames lp)):=by
    have a:MR f b W.heap.size t tf tr ls J G w1 (lp++[y]) U (frames lp):=
     ⟨V,by rw[K1.ext b H.rg.map.lt];exact H.ob,H.orr,fun x Z=>(H.gs x Z).kp K1 xm,X3,HJ.out _ _ _ _ _ H.j K1⟩
    exact a.kp K3 (by simp) (by simp) (by simp) (HJ.out _ _ _ _ _ a.j (K3.mono (by simp)))
   have x7:W3.rangeLeft b W.heap.size<wr.rangeLeft b W.heap.size:=by
    rw[(H3.out.left (y':=W3) (Kp.refl [] _ _) (by simp) (by simp)),h3]
    have:(w1.alloc (.cells #[.slice (f y.1).1 y.2.frames.length (f y.1).2,.int .u64 y.2.tick] 289)).rangeLeft b W.heap.size=w1.rangeLeft b W.heap.size:=by
     rw[<-h3];exact bO (K3.blk b (tL H.rg.map.lt I.size) (by simp)) (K3.blk _ (tL H.rg.lt I.size) (by simp))
    rw[this];exact O
   have xy:=xe y x5;have MS:=hid (And.intro x5 (Eq.refl (frames (lp++[y]))));clear H Z V O I X3 h9 Y_ h6 hv hy K1 K3;simp only[pK]at hm ⊢
   gi_wp2
   rw[<-h3];clear h3 hm;generalize hr:y.2.frames=fs at *;generalize x2:(f y.1).1=xa at *;generalize x3:(f y.1).2=xc at *;have h2:=hid (And.intro hr (And.intro x2 x3));clear hr x2 x3
   gi_loopw [16] (fun ha w2=>∃(j:Nat) (aL:Own),j<=fs.length/\ha=.int .i64 j/\Hid (MR f b W.heap.size t tf tr ls J aL w2 (lp++[y]) U (frames lp++fs.take j))/\w2.rangeLeft b W.heap.size=W3.rangeLeft b W.heap.size) (fun ha _=>fs.length-(intOf ha).toNat)
   case atStart=>exact⟨0,G,Nat.zero_le _,rfl,(by rw[List.take_zero,List.append_nil];exact H3),rfl⟩
   case round=>
    obtain⟨j,aL,hj,rfl,H4,h4⟩:=hrel
    by_cases O:j<fs.length
    ·have xv:(j:Int)<(fs.length:Int):=by omega
     have hG:GT aL tf 65 10 wr (.slice xa fs.length xc) fs.length (tH fs):=by
      have:=H4.out.gs y MS.out.1;rwa[h2.out.1,h2.out.2.1,h2.out.2.2]at this
     obtain⟨g,hg,_,_,x9,_⟩:=hG.cell (j*10+0) _ (xI fs j 0 O (by omega))
     have hc:∀i x,i<10->(bX (fs.getD j dW) (.slice none 0 0))[i]?=some x->wr.cell? ⟨g,j*10+i,none⟩=some x:=fun i x hi Z=>by
      obtain⟨g',hu,_,_,h',_⟩:=hG.cell (j*10+i) x ((xI fs j i O hi).trans Z);rw[hg]at hu
      have:g=g':=by simpa using hu
      rw[this];exact h'
     clear x9 hG
     have h7:fs.getD j dW∈fs:=by
      rw[nI,jK O];exact List.getElem_mem O
     have x0:fs.take (j+1)=fs.take j++[fs.getD j dW]:=by
      rw[Lb,nI,jK O];rfl
     have Ja:=hid (And.intro x0 h7);clear x0 h7;generalize fs.getD j dW=ff at *;have c0:=hc 0 _ (by omega) rfl;have c1:=hc 1 _ (by omega) rfl;have c2:=hc 2 _ (by omega) rfl;have c3:=hc 3 _ (by omega) rfl;have c4:=hc 4 _ (by omega) rfl;have c5:=hc 5 _ (by omega) rfl;have c6:=hc 6 _ (by omega) rfl;have c7:=hc 7 _ (by omega) rfl;have c8:=hc 8 _ (by omega) rfl;have c9:=hc 9 _ (by omega) rfl;clear hc;subst hg;simp only[Nat.add_zero]at c0;obtain⟨W5,qD⟩:∃W5,W5=wr.alloc (.cells (bX ff (.slice none 0 0)).toArray 65):=⟨_,rfl⟩
     have K5:Kp [] aL aL wr W5:=by rw[qD];exact Kp.alloc _ _ _ _
     have H5:Hid (MR f b W.heap.size t tf tr ls J aL W5 (lp++[y]) U (frames lp++fs.take j)):=H4.out.kp K5 (by simp) (by simp) (by simp) (HJ.out _ _ _ _ _ H4.out.j (K5.mono (by simp)));have xi:=H4.out.left K5 (by simp) (by simp);obtain⟨fn,tmps,assign,body,hy,hR⟩:=HY.out aL _ ff W5 H5.out.j ⟨y,MS.out.1,by rw[h2.out.1];exact Ja.out.2⟩;rw[qD]at hy hR;unfold bJ at hy;simp only[bX]at hy hR;have x6:=hid qD;clear qD K5
     gi_wp2
     refine hR.mono ?_;rintro e w6 ⟨rfl,gV,hk,K6⟩
     have H6:Hid (MR f b W.heap.size t tf tr ls J gV w6 (lp++[y]) U (frames lp++fs.take (j+1))/\w6.rangeLeft b W.heap.size=W3.rangeLeft b W.heap.size):=by
      have hf:Kp Ty aL gV W5 w6:=by rw[x6.out];exact K6
      refine⟨H5.out.kp hf ht xr x1 ?_,?_⟩
      ·rw[Ja.out.1,<-qa2];exact hk
      ·rw[H5.out.left hf ht x1,xi,h4]
     clear hk K6 hR hy c0 c1 c2 c3 c4 c5 c6 c7 c8 c9
     gi_wp2
     go_roundw
     case rel=>exact⟨j+1,gV,by omega,by simp,H6.out.1,H6.out.2⟩
     case measure=>simp[intOf];omega
    ·obtain rfl:j=fs.length:=by omega
     gi_wp2
     go_roundw
     case rel=>
      refine⟨aL,lp++[y],U,?_⟩;have h:=H4.out;rw[List.take_length]at h
      have e:frames (lp++[y])=frames lp++fs:=by
       rw[GL];simp[frames,h2.out.1]
      rw[e];exact h
     case measure=>rw[h4];exact x7
end
end Go.Proofs.YtphbledmopchnaaGreatDoor.Sd
namespace Go.Proofs.YtphbledmopchnaaGreatDoor.Sd
open Go.RowKit Go.Lib Mm Tryz
theorem oH(own:Own)(k:Nat):∀n,∃t,k<=t/\∀b,b<n->own b<t
 |0=>⟨k,uj _,fun _ h=>absurd h (qa6 _)⟩
 |n+1=>by
  obtain⟨t,h1,F⟩:=oH own k n;refine⟨max t (own n+1),by omega,fun b hb=>?_⟩
  by_cases e:b=n
  ·subst e;omega
  ·have:=F b (by omega);omega
theorem Kp.less{T U:List Nat}{own own':Own}{w w':World}(h:Kp (U++T) own own' w w')(F:∀b,b<w.heap.size->own b∉U):Kp T own own' w w':=
 ⟨h.os,h.tape,h.output,h.size,fun b hb G=>h.blk b hb (fun e=>(wz.1 e).elim (F b hb) G),h.ext⟩
theorem mq{n:Nat}(hn:2<=n){Q:Exit->Act->World->Prop}{a:Act}{F:World}{g:Operand}{p:Tmp}{assign body:Code}(bx b t tf tr Z tD:Nat)(Ty:List Nat)(ls:List (Nat×lX))(gV:Own)(J0:Own->List Fr->World->Prop)(x7:a.eval g=.func (.func 243) #[] #[.pointer (some ⟨bx,0,none⟩)])(hc:ak F bx 203 [.map (some b)])(x6:nk gV t tf F b ls)(x5:∀x∈ls,x.2.frames.length<=1000000)(ht:t∉Ty)(xa:tf∉Ty)(xd:tr∉Ty)(x9:Z∉Ty)(x8:tD∉Ty)(hd:tf≠tr/\Z≠tr/\tD≠tr/\Z≠tD)(hJ:∀own own' pre W W',J0 own pre W->Kp [Z,tr] own own' W W'->J0 own' pre W')(h0:J0 gV [] F)(hB:∀L own pre f W,L<W.heap.size->J0 own pre W->(∃x∈ls,f∈x.2.frames)->assign.wpIn (Fence.wide.inRound L) (n-1-1) prog
   (Exit.then (fun a₁ w₁=>Kp [] own own W w₁/\∀w₂,(∀k,k≠L->w₂.heap[k]?=w₁.heap[k]?)->w₂.heap.size=w₁.heap.size->J0 own pre w₂->body.wpIn (Fence.wide.inRound L) (n-1-1) prog (fun e _ W6=>e=.normal/\∃own',J0 own' (pre++[f]) W6/\Kp Ty own own' w₂ W6) a₁ w₂) (fun _ _ _=>False))
   {tmps:=a.tmps.setIfInBounds p (bJ f (.slice none 0 0)),defers:=[]} W)(hQ:∀own' lp W' D,lp.Perm ls->J0 own' (frames lp) W'->F.heap.size<=D->own' D=tD->W'.heap[D]?=some (.deferred (some []))->Q .normal {a with defers:=[{target:=.collected D,args:=#[]}]++a.defers} W'):
  (Code.rangeFunc g #[p] assign body).wpIn Fence.wide n prog Q a F:=by
 refine St.abstractRange (fun ag bd a0 has x3 h6=>wpIn_rangeFunc ?_);intro fn _
 obtain⟨H,G⟩:∃H:LoopState->Option Code->Loop,H=fun st pe=>{state:=st,pending:=pe,fn:=fn,tmps:=a0.tmps,params:=#[p],assign:=ag,body:=bd,defers:=F.heap.size}:=⟨_,rfl⟩
 obtain⟨A,hA⟩:∃A,A=(F.alloc (.deferred (some []))).alloc (.loop (H .ready none)):=⟨_,rfl⟩
 have xf:A.heap.size=F.heap.size+2:=by rw[hA];simp
 have OT:Below F.heap.size F A:=by rw[hA];exact((ZE _ F).alloc (uj _) _).alloc (by simp) _
 have x1:A.heap[F.heap.size+1]?=some (.loop (H .ready none)):=by rw[hA];have:=Z9 (F.alloc (.deferred (some []))) (.loop (H .ready none));rwa[World.size_alloc]at this
 have hu:A.heap[F.heap.size]?=some (.deferred (some [])):=by rw[hA];exact(Below.heap_alloc _ _ _ (by simp)).trans (Z9 F _)
 obtain⟨rT,h8⟩:∃rT:Own,rT=fun x=>if x<F.heap.size then gV x else if x=F.heap.size then tD else Z:=⟨_,rfl⟩
 have K4:Kp [] gV rT F A:=⟨OT.os,OT.tape,OT.output,OT.size,fun x hx _=>OT.block x hx,fun x hx=>by rw[h8];exact if_pos hx⟩
 have oL:rT (F.heap.size+1)=Z:=by rw[h8];simp only;rw[if_neg (by omega),if_neg (by omega)]
 have oD:rT F.heap.size=tD:=by rw[h8];simp only;rw[if_neg (by omega),if_pos trivial]
 refine⟨F.heap.size+1,[{target:=.collected F.heap.size,args:=#[]}],A,{target:=.fn (.func 243) #[.pointer (some ⟨bx,0,none⟩)],args:=#[.func (.yield (F.heap.size+1)) #[] #[]]},A,243,#[.func (.yield (F.heap.size+1)) #[] #[],.pointer (some ⟨bx,0,none⟩)],A,?_,?_,fun _ _=>trivial,?_,fun _=>by omega,?_⟩
 ·rw[hA,G];exact run_enterLoop_outer _ _ _ _ _
 ·rw[h6];simp[resolve,x7];simp[Deferred.ofValue,Act.eval,go_sem]
 ·simp[invoke,go_sem]
 ·refine(OU Fence.wide (n-1) trivial rfl (by omega) (F.heap.size+1) bx b t tf tr Ty ls x5 ht xa xd hd.1
   (fun own pre W=>J0 own pre W/\own (F.heap.size+1)=Z/\W.heap[F.heap.size+1]?=some (.loop (H .ready none))/\own F.heap.size=tD/\W.heap[F.heap.size]?=some (.deferred (some [])))
   (fun own own' pre W W' h K=>?_) (fun own pre f W h hf=>?_) rT A (hc.of_heap (OT.block _ hc.lt)) (x6.kp K4 (by simp) (by simp)) ⟨hJ _ _ _ _ _ h0 (K4.mono (by simp)),oL,x1,oD,hu⟩).mono ?_
  ·obtain⟨h1,h2,h3,h4,h5⟩:=h;have lL:=(mR.1 h3).1;have lD:=(mR.1 h5).1;exact⟨hJ _ _ _ _ _ h1 (K.mono (by simp)),by rw[K.ext _ lL,h2],(K.blk _ lL (by rw[h2];simpa using hd.2.1)).trans h3,by rw[K.ext _ lD,h4],(K.blk _ lD (by rw[h4];simpa using hd.2.2.1)).trans h5⟩
  ·obtain⟨h1,h2,h3,h4,h5⟩:=h;have lL:=(mR.1 h3).1;have lD:=(mR.1 h5).1;have hy:=run_yield (P:=prog) (args:=#[bJ f (.slice none 0 0)]) h3 (by rw[G];rfl);rw[G]at hy;refine⟨fn,a.tmps.setIfInBounds p (bJ f (.slice none 0 0)),ag,bd,by rw[hy,h6];simp,roundIn_of_wpIn trivial ?_⟩;rw[has,x3];refine wpIn_mono (hB (F.heap.size+1) own pre f W lL h1 hf) ?_;intro e a1 w1 hh
   cases e with
   |normal=>
    obtain⟨I,x2⟩:=hh;have hw:=(I.blk _ lL (by simp)).trans h3;obtain⟨U,X⟩:∃U,U=w1.putObj (F.heap.size+1) (.loop {H .ready none with state:=.busy}):=⟨_,rfl⟩
    have x4:(Instr.beginRound (F.heap.size+1)).run prog w1=.ok () U:=by rw[X];exact run_beginRound hw (by rw[G])
    have s2:U.heap.size=w1.heap.size:=by rw[X];simp
    have o2:∀k,k≠F.heap.size+1->U.heap[k]?=w1.heap[k]?:=fun k O=>by rw[X];exact CK O
    have hm:F.heap.size+1<w1.heap.size:=tL lL I.size
    have x0:U.heap[F.heap.size+1]?=some (.loop {H .ready none with state:=.busy}):=by rw[X];exact Xw hm
    have e2:U.os=w1.os/\U.tape=w1.tape/\U.output=w1.output:=by rw[X];exact⟨rfl,rfl,rfl⟩
    have K2:Kp [Z,tr] own own W U:=⟨e2.1.trans I.os,e2.2.1.trans I.tape,e2.2.2.trans I.output,by rw[s2];exact I.size,fun k O hn=>by
     have:k≠F.heap.size+1:=fun e=>hn (by rw[e,h2];simp)
     rw[o2 k this];exact I.blk k O (by simp),fun _ _=>rfl⟩
    refine⟨U,x4,wpIn_mono (x2 U o2 s2 (hJ _ _ _ _ _ h1 K2)) ?_⟩;rintro e a6 W6 ⟨rfl,bR,hv,K6⟩
    have ho:F.heap.size+1<U.heap.size:=by rw[s2];exact hm
    have h9:=(K6.blk _ ho (by rw[h2];exact x9)).trans x0;have hg:=run_endRound (P:=prog) none h9;obtain⟨W7,MQ⟩:∃W7,W7=W6.putObj (F.heap.size+1) (.loop (H .ready none)):=⟨_,rfl⟩;have xe:=(mR.1 h9).1
    have o7:∀k,k≠F.heap.size+1->W7.heap[k]?=W6.heap[k]?:=fun k O=>by rw[MQ];exact CK O
    have s7:W7.heap.size=W6.heap.size:=by rw[MQ];simp
    have e7:W7.os=W6.os/\W7.tape=W6.tape/\W7.output=W6.output:=by rw[MQ];exact⟨rfl,rfl,rfl⟩
    have ha:W7.heap[F.heap.size+1]?=some (.loop (H .ready none)):=by rw[MQ];exact Xw xe
    have hr:bR (F.heap.size+1)=Z:=by rw[K6.ext _ ho,h2]
    have hj:F.heap.size<U.heap.size:=by rw[s2];exact tL lD I.size
    have K7:Kp [Z,tr] bR bR W6 W7:=⟨e7.1,e7.2.1,e7.2.2,by rw[s7];exact uj _,fun k O hn=>o7 k (fun e=>hn (by rw[e,hr];simp)),fun _ _=>rfl⟩;refine⟨.bool true,W7,by rw[hg,MQ,G];rfl,rfl,bR,⟨hJ _ _ _ _ _ hv K7,hr,ha,by rw[K6.ext _ hj,h4],?_⟩,?_⟩
    ·rw[o7 _ (by omega),K6.blk _ hj (by rw[h4];exact x8),o2 _ (by omega),I.blk _ lD (by simp),h5]
    ·refine⟨e7.1.trans (K6.os.trans (e2.1.trans I.os)),e7.2.1.trans (K6.tape.trans (e2.2.1.trans I.tape)),e7.2.2.trans (K6.output.trans (e2.2.2.trans I.output)),by rw[s7];exact Nat.le_trans I.size (by rw[<-s2];exact K6.size),fun k O hn=>?_,fun k O=>K6.ext k (by rw[s2];exact tL O I.size)⟩
     by_cases h7:k=F.heap.size+1
     ·rw[h7,ha,h3]
     ·rw[o7 k h7,K6.blk k (by rw[s2];exact tL O I.size) hn,o2 k h7,I.blk k O (by simp)]
   |ret=>exact hh
   |exit i=>exact hh
   |goto i=>exact hh
   |panic c=>exact hh
   |outgrown=>exact hh
  ·rintro e W ⟨⟨v,rfl⟩,dI,lp,hp,h1,h2,h3,h4,h5⟩;have lL:=(mR.1 h3).1;obtain⟨V,yN⟩:∃V,V=W.putObj (F.heap.size+1) (.loop {H .ready none with state:=.exhausted}):=⟨_,rfl⟩
   have he:(Instr.endLoop (F.heap.size+1)).run prog W=.ok none V:=by
    have:=run_endLoop (P:=prog) h3 (by rw[G];simp);rw[yN];rw[G]at this ⊢;exact this
   have o4:∀k,k≠F.heap.size+1->V.heap[k]?=W.heap[k]?:=fun k O=>by rw[yN];exact CK O
   have s4:V.heap.size=W.heap.size:=by rw[yN];simp
   have e4:V.os=W.os/\V.tape=W.tape/\V.output=W.output:=by rw[yN];exact⟨rfl,rfl,rfl⟩
   refine⟨none,V,he,?_⟩;have K5:Kp [Z,tr] dI dI W V:=⟨e4.1,e4.2.1,e4.2.2,by rw[s4];exact uj _,fun k O hn=>o4 k (fun e=>hn (by rw[e,h2];simp)),fun _ _=>rfl⟩;have:=hQ dI lp V F.heap.size hp (hJ _ _ _ _ _ h1 K5) (uj _) h4 ((o4 _ (by omega)).trans h5);rw[h6];exact this
theorem nk.take{own:Own}{t tf:Nat}{w:World}{b:Nat}{l:List (Nat×lX)}(h:nk own t tf w b l)(I:tf≠t)(hl:l.length<100000)(g:Nat)(p k:Array Value)(eg:∀args w,(callFunc g args).run prog w=.ok (.enter g args) w)(H:Nat->Nat->Bool)(tn:Nat)(hw:∀x∈l,∀v:Option Addr×Nat×Nat×Nat,v.2.2.2=x.2.tick->∀W:World,w.grownBy W (some b)->Calls prog g (p++(#[.int .u64 x.1,pK v]++k)) W fun e W'=>e=.returned (.bool (H x.1 x.2.tick))/\Below W.heap.size W W'):
  Calls prog 191 #[.map (some b),.func (.func g) p k] w fun e w'=>e=.returned (.map (some w.heap.size))/\∃own',nk own' t tf w' b (l.filter fun x=> !H x.1 x.2.tick)/\nk own' tn tf w' w.heap.size (l.filter fun x=>H x.1 x.2.tick)/\Kp [t] own own' w w':=by
 obtain⟨f,h1,O,U⟩:=h;refine(Sb g p k b (l.map (ent f)) (fun e=>H e.1 e.2.2.2.2) w eg O (by rw[Bu];exact hl) (fun x F W G=>?_)).mono ?_
 ·obtain⟨y,hy,rfl⟩:=KG.1 F;exact hw y hy _ rfl W G
 ·rintro e w' ⟨rfl,Z,m2,G⟩
  obtain⟨own',X⟩:∃own':Own,own'=fun x=>if x<w.heap.size then own x else tn:=⟨_,rfl⟩
  have K:Kp [t] own own' w w':=⟨G.os,G.tape,G.output,G.size,fun x F hn=>G.block x F (fun e=>hn (by cases e;rw[h1];simp)),fun x F=>by rw[X];exact if_pos F⟩;rw[R3]at Z m2
  have V:tf∉[t]:=by simpa using I
  refine⟨rfl,own',⟨f,by rw[K.ext b O.lt,h1],Z,fun x F=>(U x (tT.1 F).1).kp K V⟩,⟨f,by rw[X];exact if_neg (qa7 _),m2,fun x F=>(U x (tT.1 F).1).kp K V⟩,K⟩
end Go.Proofs.YtphbledmopchnaaGreatDoor.Sd
namespace Go.Proofs.YtphbledmopchnaaGreatDoor.Sd
open Go.RowKit Go.Lib Mm Go.Maps Tryz
structure MU (w:World) (b r:Nat) (l:List fO) (want:fO->Bool) (y:World) (cur lf:List fO):Prop where
 rg:nN y b r cur lf
 cur:∀x,x∈cur↔x∈l/\(x∈lf\/want x=false)
 gr:w.grownBy y (some b)
theorem MU.done{w:World}{b r:Nat}{l:List fO}{want:fO->Bool}{y:World}{cur:List fO}(h:MU w b r l want y cur [])(hl:l.Nodup):iD y b (l.filter fun x=> !want x):=by
 refine h.rg.map.perm (qZ h.rg.map.nodup (hl.filter _) fun x=>?_);rw[h.cur,tT];simp
theorem MU.stay{w:World}{b r:Nat}{l:List fO}{want:fO->Bool}{y z:World}{cur lf F:List fO}(h:MU w b r l want y cur lf)(x:fO)(O:∀y,y∈l->(y∈F↔y∈lf/\y≠x))(V:want x=false)(H:nN z b r cur F)(U:w.grownBy z (some b)):MU w b r l want z cur F:=by
 refine⟨H,fun e=>?_,U⟩;rw[h.cur]
 refine and_congr_right fun I=>?_
 rw[O e I]
 by_cases G:e=x
 ·rw[G];simp[V]
 ·simp[G]
theorem MU.go{w:World}{b r:Nat}{l:List fO}{want:fO->Bool}{y z:World}{cur lf I:List fO}(h:MU w b r l want y cur lf)(hk:∀e∈l,∀X∈l,e.1=X.1->e=X)(x:fO)(hx:x∈lf)(hf:∀y,y∈l->(y∈I↔y∈lf/\y≠x))(hw:want x=true)(hR:nN z b r (cur.filter fun e=> !decide (e.1=x.1)) (I.filter fun e=> !decide (e.1=x.1)))(hg:w.grownBy z (some b)):
  MU w b r l want z (cur.filter fun e=> !decide (e.1=x.1)) (I.filter fun e=> !decide (e.1=x.1)):=by
 have V:x∈l:=((h.cur x).1 (h.rg.sub x hx)).1
 have H:∀e∈l,((!decide (e.1=x.1))=true↔e≠x):=fun e he=>by
  simp only[DJ,decide_eq_false_iff_not];exact⟨fun U G=>U (by rw[G]),fun U G=>U (hk e he x V G)⟩
 refine⟨hR,fun e=>?_,hg⟩;rw[tT,tT,h.cur];constructor
 ·rintro⟨⟨h1,O⟩,Z⟩;refine⟨h1,O.imp (fun F=>⟨(hf e h1).2 ⟨F,(H e h1).1 Z⟩,Z⟩) id⟩
 ·rintro⟨h1,O⟩
  rcases O with⟨F,h5⟩|F
  ·exact⟨⟨h1,.inl ((hf e h1).1 F).1⟩,h5⟩
  ·refine⟨⟨h1,.inr F⟩,(H e h1).2 fun G=>?_⟩;rw[G,hw]at F;cases F
theorem zk(g:Nat)(p k:Array Value)(b:Nat)(l:List fO)(want:fO->Bool)(w:World)(eg:∀args w,(callFunc g args).run prog w=.ok (.enter g args) w)(h:iD w b l)(hw:∀x∈l,∀W:World,w.grownBy W (some b)->Calls prog g (p++(#[.int .u64 x.1,pK x.2]++k)) W fun e W'=>e=.returned (.bool (want x))/\Below W.heap.size W W'):
  Calls prog 194 #[.map (some b),.func (.func g) p k] w fun e w'=>e=.returned (.tuple #[])/\iD w' b (l.filter fun x=> !want x)/\w.grownBy w' (some b):=by
 have hm:=h.nodup;have hn:=h.lt;go_enter func194,ntmps194
 go_wp2_with (first
  |(at_range;refine ji _ rfl _ rfl b l rfl h ?_;intro w0 h6 h9 ho)
  |go_in)
 go_frame
 go_loopw [4] (fun _ wr=>∃cur lf:List fO,Hid (MU w b w.heap.size l want wr cur lf)) (fun _ wr=>wr.rangeLeft b w.heap.size)
 case atStart=>exact⟨l,l,(⟨h6,fun x=>⟨fun hx=>⟨hx,.inl hx⟩,fun hx=>hx.1⟩,h9.but _⟩:MU w b w.heap.size l want w0 l l)⟩
 case round=>
  obtain⟨cur,lf,hrel⟩:=hrel
  go_wp2_with (first
   |(at_next;refine jQ _ rfl _ rfl b w.heap.size cur lf rfl hrel.out.rg ?_ ?_)
   |go_in)
  ·intro h0;go_wp2;go_end0;subst h0;exact⟨rfl,hrel.out.done hm,hrel.out.gr⟩
  ·intro xn xa xl xc xt w1 hx Gm G hk ha hr h5;have H:=hrel.out;have V:(xn,xa,xl,xc,xt)∈l:=((H.cur _).1 (H.rg.sub _ hx)).1;obtain⟨W3,h3⟩:∃W3,W3=w1.alloc (.cells #[.slice xa xl xc,.int .u64 xt] 289):=⟨_,rfl⟩
   have X:w1.grownBy W3 none:=by rw[h3];exact qa1 _ _ _
   have Z:w.grownBy W3 (some b):=(H.gr.andThen ha (fun j hj=>by cases hj;exact .inl (uj _))).andThen X (fun j hj=>by cases hj);have hc:=hw _ V W3 Z;have Cw:nN W3 b w.heap.size cur (lf.filter fun y=> !decide (y.1=xn)):=G.kept (X.block _ G.map.lt (by simp)) (X.block _ G.lt (by simp))
   have h2:W3.rangeLeft b w.heap.size<wr.rangeLeft b w.heap.size:=by rw[(bO (X.block _ G.map.lt (by simp)) (X.block _ G.lt (by simp)))];exact hk
   have O:∀y,y∈l->(y∈(lf.filter fun y=> !decide (y.1=xn))↔y∈lf/\y≠(xn,xa,xl,xc,xt)):=fun y hy=>by
    rw[tT]
    refine and_congr_right fun _=>?_
    simp only[DJ,decide_eq_false_iff_not];exact⟨fun h4 e=>h4 (by rw[e]),fun h4 e=>h4 (h.inj hy V e)⟩
   cases U:want (xn,xa,xl,xc,xt)
   ·rw[U]at hc;have HX:=hid (And.intro V (And.intro O (And.intro U hx)));have I:=hid (And.intro Z (And.intro Cw h2));clear V O U hx Z Cw h2;simp only[pK]at h5 hc ⊢
    go_wp2_with (first
     |(go_at_fn g;rw[<-h3];refine hc.mono ?_;rintro e w2 ⟨rfl,F⟩)
     |go_in)
    go_roundw
    case rel=>
     exact⟨cur,_,(H.stay _ HX.out.2.1 HX.out.2.2.1 (I.out.2.1.kept (F.block _ I.out.2.1.map.lt) (F.block _ I.out.2.1.lt)) (I.out.1.andThen (gq F) (fun j hj=>by cases hj)):MU _ _ _ _ _ _ _ _)⟩
    case measure=>rw[bO (F.block _ I.out.2.1.map.lt) (F.block _ I.out.2.1.lt)];exact I.out.2.2
   ·rw[U]at hc;have HX:=hid (And.intro V (And.intro O (And.intro U hx)));have I:=hid (And.intro Z (And.intro Cw h2));clear V O U hx Z Cw h2;simp only[pK]at h5 hc ⊢
    go_wp2_with (first
     |(go_at_fn g;rw[<-h3];refine hc.mono ?_;rintro e w2 ⟨rfl,F⟩)
     |(at_delete;refine kY _ rfl _ _ rfl b w.heap.size cur _ rfl (I.out.2.1.kept (F.block _ I.out.2.1.map.lt) (F.block _ I.out.2.1.lt)) xn rfl Gm ?_;intro w4 h7 hg hf;go_frame)
     |go_in)
    refine⟨⟨_,_,(H.go (fun e he e' h8=>h.inj he h8) (xn,xa,xl,xc,xt) HX.out.2.2.2 HX.out.2.1 HX.out.2.2.1 h7 ((I.out.1.andThen (gq F) (fun j hj=>by cases hj)).andThen hf (fun j hj=>by cases hj;exact .inr rfl)):MU _ _ _ _ _ _ _ _)⟩,?_⟩;refine Nat.lt_of_le_of_lt hg ?_;rw[bO (F.block _ I.out.2.1.map.lt) (F.block _ I.out.2.1.lt)];exact I.out.2.2
structure CyF (w:World) (b b2 r:Nat) (l d:List fO) (y:World) (lf tk:List fO):Prop where
 rg:nN y b2 r l lf
 mp:iD y b tk
 tk:∀x,x∈tk↔x∈d\/(x∈l/\x∉lf)
 gr:w.grownBy y (some b)
theorem Tj(b b2:Nat)(l d:List fO)(w:World)(h:iD w b d)(h2:iD w b2 l)(X:b≠b2)(hl:l.length+d.length<100000)(ha:∀x∈l,∀y∈d,x.1≠y.1):
  Calls prog 193 #[.map (some b),.map (some b2)] w fun e w'=>e=.returned (.tuple #[])/\iD w' b (d++l)/\iD w' b2 l/\w.grownBy w' (some b):=by
 have hg:(d++l).Nodup:=List.nodup_append.2 ⟨h.nodup,h2.nodup,fun x I y hy e=>ha y hy x I (by rw[e])⟩;have h9:=h.lt;go_enter func193,ntmps193
 go_wp2_with (first
  |(at_range;refine ji _ rfl _ rfl b2 l rfl h2 ?_;intro w0 hk hc hw)
  |go_in)
 go_frame
 go_loopw [4] (fun _ wr=>∃lf tk:List fO,Hid (CyF w b b2 w.heap.size l d wr lf tk)) (fun _ wr=>wr.rangeLeft b2 w.heap.size)
 case atStart=>exact⟨l,d,(⟨hk,h.kept (hc.block _ h9 (by simp)),fun x=>⟨fun I=>.inl I,fun I=>I.elim id fun I=>absurd I.1 I.2⟩,hc.but _⟩:CyF w b b2 w.heap.size l d w0 l d)⟩
 case round=>
  obtain⟨lf,tk,hrel⟩:=hrel
  go_wp2_with (first
   |(at_next;refine jQ _ rfl _ rfl b2 w.heap.size l lf rfl hrel.out.rg ?_ ?_)
   |go_in)
  ·intro h0;go_wp2;go_end0;subst h0;refine⟨rfl,hrel.out.mp.perm (qZ hrel.out.mp.nodup hg fun x=>?_),hrel.out.rg.map,hrel.out.gr⟩;rw[hrel.out.tk,wz];simp
  ·intro xn xa xl xc xt w1 I Gm G hv h7 x0 hr;have H:=hrel.out;have V:(xn,xa,xl,xc,xt)∈l:=H.rg.sub _ I
   have hu:tk.length<1000000:=by
    have:=I6 H.mp.nodup hg fun x I=>wz.2 (((H.tk x).1 I).imp id fun h=>h.1)
    rw[List.length_append]at this;omega
   obtain⟨W3,h8⟩:∃W3,W3=w1.alloc (.cells #[.slice xa xl xc,.int .u64 xt] 289):=⟨_,rfl⟩
   have O:w1.grownBy W3 none:=by rw[h8];exact qa1 _ _ _
   have he:w.grownBy W3 (some b):=(H.gr.andThen h7 (fun j hj=>by cases hj;exact .inl (uj _))).andThen O (fun j hj=>by cases hj);have Cw:nN W3 b2 w.heap.size l (lf.filter fun y=> !decide (y.1=xn)):=G.kept (O.block _ G.map.lt (by simp)) (O.block _ G.lt (by simp));have Sc:iD W3 b tk:=H.mp.kept ((O.block _ (tL H.mp.lt h7.size) (by simp)).trans (h7.block _ H.mp.lt (by simp;omega)))
   have hf:W3.rangeLeft b2 w.heap.size<wr.rangeLeft b2 w.heap.size:=by rw[(bO (O.block _ G.map.lt (by simp)) (O.block _ G.lt (by simp)))];exact hv
   have h6:∀y∈tk,y.1≠xn:=fun y hy e=>by
    rcases(H.tk y).1 hy with F|F
    ·exact ha _ V y F e.symm
    ·exact F.2 (by rw[h2.inj F.1 V e];exact I)
   have h5:∀y,y∈l->(y∈(lf.filter fun y=> !decide (y.1=xn))↔y∈lf/\y≠(xn,xa,xl,xc,xt)):=fun y hy=>by
    rw[tT]
    refine and_congr_right fun _=>?_
    simp only[DJ,decide_eq_false_iff_not];exact⟨fun X e=>X (by rw[e]),fun X e=>X (h2.inj hy V e)⟩
   have HX:=hid (And.intro V (And.intro h5 h6));have Z:=hid (And.intro he (And.intro Cw (And.intro Sc hf)));clear V h5 I he Cw hf Sc h6;simp only[pK]at hr ⊢
   go_wp2_with (first
    |(at_mapUpdate;rw[<-h8];refine kZ _ rfl _ _ _ rfl b tk rfl Z.out.2.2.1 hu (xn,xa,xl,xc,xt) rfl rfl Gm HX.out.2.2 ?_;intro w3 ho U;go_frame)
    |go_in)
   have hn:=Z.out.2.1.kept (U.block _ Z.out.2.1.map.lt (by simp;omega)) (U.block _ Z.out.2.1.lt (by simp;omega));refine⟨⟨_,_,(⟨hn,ho,fun e=>?_,Z.out.1.andThen U (fun j hj=>by cases hj;exact .inr rfl)⟩:CyF _ _ _ _ _ _ _ _ _)⟩,?_⟩
   ·rw[Gl,H.tk];constructor
    ·rintro(F|F|F)
     ·rw[F];exact .inr ⟨HX.out.1,fun h4=>((HX.out.2.1 _ HX.out.1).1 h4).2 rfl⟩
     ·exact .inl F
     ·exact .inr ⟨F.1,fun h4=>F.2 ((HX.out.2.1 _ F.1).1 h4).1⟩
    ·rintro(F|F)
     ·exact .inr (.inl F)
     ·by_cases hm:e=(xn,xa,xl,xc,xt)
      ·exact .inl hm
      ·exact .inr (.inr ⟨F.1,fun h4=>F.2 ((HX.out.2.1 _ F.1).2 ⟨h4,hm⟩)⟩)
   ·rw[bO (U.block _ Z.out.2.1.map.lt (by simp;omega)) (U.block _ Z.out.2.1.lt (by simp;omega))];exact Z.out.2.2.2
end Go.Proofs.YtphbledmopchnaaGreatDoor.Sd
namespace Go.Proofs.YtphbledmopchnaaGreatDoor.Sd
open Go.RowKit Go.Lib Mm Tryz
theorem nk.drop{own:Own}{t tf:Nat}{w:World}{b:Nat}{l:List (Nat×lX)}(h:nk own t tf w b l)(H:tf≠t)(g:Nat)(p k:Array Value)(V:∀args w,(callFunc g args).run prog w=.ok (.enter g args) w)(I:Nat->Nat->Bool)(hw:∀x∈l,∀v:Option Addr×Nat×Nat×Nat,v.2.2.2=x.2.tick->∀W:World,w.grownBy W (some b)->Calls prog g (p++(#[.int .u64 x.1,pK v]++k)) W fun e U=>e=.returned (.bool (I x.1 x.2.tick))/\Below W.heap.size W U):
  Calls prog 194 #[.map (some b),.func (.func g) p k] w fun e w'=>e=.returned (.tuple #[])/\nk own t tf w' b (l.filter fun x=> !I x.1 x.2.tick)/\Kp [t] own own w w':=by
 obtain⟨f,h1,X,Z⟩:=h;refine(zk g p k b (l.map (ent f)) (fun e=>I e.1 e.2.2.2.2) w V X (fun x G W F=>?_)).mono ?_
 ·obtain⟨y,hy,rfl⟩:=KG.1 G;exact hw y hy _ rfl W F
 ·rintro e w' ⟨rfl,O,F⟩;have K:Kp [t] own own w w':=⟨F.os,F.tape,F.output,F.size,fun x G hn=>F.block x G (fun e=>hn (by cases e;rw[h1];simp)),fun x G=>rfl⟩;rw[R3]at O
  have hf:tf∉[t]:=by simpa using H
  exact⟨rfl,⟨f,h1,O,fun x G=>(Z x (tT.1 G).1).kp K hf⟩,K⟩
theorem nk.copy{own:Own}{t t2 tf:Nat}{w:World}{b b2:Nat}{d l:List (Nat×lX)}(h:nk own t tf w b d)(h2:nk own t2 tf w b2 l)(O:tf≠t)(ht:t≠t2)(hl:l.length+d.length<100000)(H:∀x∈l,∀y∈d,x.1≠y.1):
  Calls prog 193 #[.map (some b),.map (some b2)] w fun e w'=>e=.returned (.tuple #[])/\nk own t tf w' b (d++l)/\Kp [t] own own w w':=by
 obtain⟨f,h1,m1,g1⟩:=h;obtain⟨f2,h3,m2,g2⟩:=h2
 obtain⟨F,hF⟩:∃F:Nat->Option Addr×Nat,F=fun n=>if(l.any fun x=>decide (x.1=n))=true then f2 n else f n:=⟨_,rfl⟩
 have F2:∀x∈l,F x.1=f2 x.1:=fun x G=>by
  rw[hF];exact if_pos (qa4.2 ⟨x,G,by simp⟩)
 have Z:∀x∈d,F x.1=f x.1:=fun x G=>by
  rw[hF];refine if_neg (fun e=>?_);obtain⟨y,V,e⟩:=qa4.1 e;exact H y V x G (by simpa using e)
 have hb:b≠b2:=fun e=>ht (by rw[<-h1,<-h3,e])
 refine(Tj b b2 (l.map (ent f2)) (d.map (ent f)) w m1 m2 hb (by rw[Bu,Bu];exact hl) (fun x G y V=>?_)).mono ?_
 ·obtain⟨x',U,rfl⟩:=KG.1 G;obtain⟨y',X,rfl⟩:=KG.1 V;exact H x' U y' X
 ·rintro e w' ⟨rfl,m3,_,I⟩;have K:Kp [t] own own w w':=⟨I.os,I.tape,I.output,I.size,fun x G hn=>I.block x G (fun e=>hn (by cases e;rw[h1];simp)),fun x G=>rfl⟩
  have hf:tf∉[t]:=by simpa using O
  refine⟨rfl,⟨F,h1,?_,fun x G=>?_⟩,K⟩
  ·rw[Kt,qa0 (g:=ent f) (fun x G=>by unfold ent;rw[Z x G]),qa0 (l:=l) (g:=ent f2) (fun x G=>by unfold ent;rw[F2 x G])];exact m3
  ·rcases wz.1 G with G|G
   ·rw[Z x G];exact(g1 x G).kp K hf
   ·rw[F2 x G];exact(g2 x G).kp K hf
end Go.Proofs.YtphbledmopchnaaGreatDoor.Sd
