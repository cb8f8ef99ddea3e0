import Derived.Test.YtphbledmopchnaaGreatDoorUcc
import Derived.Test.YtphbledmopchnaaGreatDoorUcb
open Go.RowKit.Below renaming refl->tL,heap_setCell->DT
open Bool renaming and_eq_true->R3,eq_iff_iff->qai
open Go.Builtin renaming zeroCells->nI,min_->qao
open Go.Calls renaming quiet_of_same->Av
open Go.Ending renaming returned->Am
open List renaming getElem?_eq_getElem->fA,getD_eq_getElem?_getD->mR,length_take->sQ,getElem?_cons_succ->tT,getElem?_cons_zero->uj,drop_eq_getElem_cons->Aw,length_append->E8,nil_append->KG,getElem?_append_left->M4,any_eq_true->SF,take_of_length_le->WA,take_append_drop->WJ,getElem?_set_ne->YF,filter_eq_self->ZH,getD_cons_succ->qa0,getElem_of_mem->qa1,filter_append->qa2,getElem?_take->qa3,mem_singleton->qa4,take_add_one->qaa,getElem_mem->qae,length_cons->qag,filter_nil->qaj,length_set->qak,drop_drop->qal
open Nat renaming le_refl->fB,add_zero->Ui,mul_comm->qa5,zero_add->qa9,zero_le->qab,min_le_right->qah
open Option renaming map_eq_some_iff->Kt
open Prod renaming fst->wz
open Go.Value renaming ownBlock->Lb,nilIface->qam,cells->qaq
open Go.World renaming block_lt_of_cell?->He,size_alloc->Ur
set_option maxHeartbeats 4000000
set_option maxRecDepth 100000
namespace Go.Proofs.YtphbledmopchnaaGreatDoor.Sd
open Go.RowKit Go.Lib Mm Tryz
abbrev bZ(f:Fr)(rv:Value):aI:=[iZ f.kind,iZ f.stream,uZ f.offset,uZ f.reliable,uZ f.limit,.bool f.fin,uZ f.id,uZ f.deadline,.string f.data,rv]
abbrev ko:aI:=[iZ 0,iZ 0,uZ 0,uZ 0,uZ 0,.bool false,uZ 0,uZ 0,.string ⟨#[]⟩,nZ]
theorem Cr{w:World}{b:Nat}{t:TypeId}{f:Fr}{ra:Option Addr}{rc:Nat}(hB:aA w b t (bZ f (.slice ra f.ranges.length rc)))(F:jl f)(G:fV w ra f.ranges):kG w b 0 f ra rc:=
 ⟨hB.cell 0,hB.cell 1,hB.cell 2,hB.cell 3,hB.cell 4,hB.cell 5,hB.cell 6,hB.cell 7,hB.cell 8,hB.cell 9,G,F.rlen,F.xG,F.k0,F.s0,F.u0⟩
structure Ct (w:World) (f:Fr) (ra:Option Addr) (rc:Nat):Prop where
 snd:snd f=true
 ok:jl f
 rng:fV w ra f.ranges
 cap:f.ranges.length<=rc
 lt:∀x,ra=some x->x.block<w.heap.size
 len:(aG f).length<=1000000
theorem Ct.below{w w':World}{f:Fr}{ra:Option Addr}{rc:Nat}(h:Ct w f ra rc)(hb:aD w w'):Ct w' f ra rc:=
 ⟨h.snd,h.ok,h.rng.below hb,h.cap,fun x F=>Nat.lt_of_lt_of_le (h.lt x F) hb.size,h.len⟩
theorem oV(f:Fr)(ra:Option Addr)(rc:Nat)(w:World)(h:Ct w f ra rc):
  Calls prog 210 #[bR f (.slice ra f.ranges.length rc)] w fun e w'=>e=.returned (iZ ((aG f).length:Int))/\aD w w':=by
 obtain⟨W,X⟩:∃W,W=w.alloc (.cells (bZ f (.slice ra f.ranges.length rc)).toArray 65):=⟨_,rfl⟩
 have hb:aA W w.heap.size 65 (bZ f (.slice ra f.ranges.length rc)):=by rw[X];exact aA.new w 65 _
 have G:aD w W:=by rw[X];exact(tL _ w).alloc (fB _) _
 have hsz:W.heap.size=w.heap.size+1:=by rw[X];simp
 have F:=h.below G;have hF:=Cr hb F.ok F.rng;obtain⟨_,h0,uz,_⟩:=mY f h.snd;have c0:W.cell? (aj w.heap.size 0)=some (iZ f.kind):=hb.cell 0;have G5:=au (ni _ h0 uz W)
 have h4:∀(wl:World) (K fr:Value),DZ (W.heap.size+1) wl f.kind K fr->aD W wl->
   ∃g cb,K=.func (.func g) #[] cb/\(∀args w,(callFunc g args).run prog w=.ok (.enter g args) w)/\
    Calls prog g (#[nZ,ay w.heap.size 0]++cb) wl fun e w'=>∃a c,e=.returned (.slice a (aG f).length c)/\aD w w':=by
  intro wl K fr V H;obtain⟨g,cb,h1,h2,h3⟩:=JJ f V h.snd w.heap.size 0 ra rc h.cap;refine⟨g,cb,h1,h2,?_⟩;have Z_:=H.size;have hl:=h.len;refine(h3 wl nZ [] ⟨⟨fB _,fun _ _ _=>rfl⟩,Buf.nil wl,fun j hj=>by simp[Lb]at hj,hF.below H,by simp[Lb],fun x hx=>by simp[Lb],fun x hx=>by have:=F.lt x hx;omega⟩ (by simp;omega)).mono ?_;rintro e w' ⟨v',rfl,O,h5⟩;rw[KG]at O;have Z:aD w w':=(G.trans (H.mono (by omega))).trans (h5.below (Own.nil _) (by omega))
  rcases O with⟨rfl,he⟩|⟨g',cap,cs,rfl,_⟩
  ·exact⟨none,0,by rw[he];rfl,Z⟩
  ·exact⟨_,_,rfl,Z⟩
 have I:=au h4;clear h4 hb G F hF h h0 uz;generalize (aG f).length=n at *;unfold bR;unfold bZ at X;go_enter func210,ntmps210
 go_wp2_with fail
 rw[<-X];refine G5.out.mono ?_;rintro e wl ⟨K,fr,rfl,V,H⟩;obtain⟨_,_,g2,KZ,_,h6⟩:=V.shape;subst h6;obtain⟨g,cb,h7,eg,hC⟩:=I.out wl K _ V H;subst h7;have HC:=au hC;have h8:=YL g g2 cb KZ;clear hC V H I
 go_wp2_with fail
 refine HC.out.mono ?_;rintro e w' ⟨a,c,rfl,U⟩;have SQ:=au U;clear U;go_wp2;go_ret;exact⟨rfl,SQ.out⟩
theorem xU(n:Nat)(w:World)(K:n<4611686018427387904):
  Calls prog 211 #[nZ,uZ n] w fun e w'=>∃a c,e=.returned (.slice a (Num.bytes n).length c)/\aD w w':=by
 refine(bJ nZ [] n w (Buf.nil w) K (by simp)).mono ?_;rintro e w' ⟨v',rfl,F,H⟩;rw[KG]at F;have G:aD w w':=H.below (Own.nil _) (fB _)
 rcases F with⟨rfl,I⟩|⟨g',cap,cs,rfl,_⟩
 ·exact⟨none,0,by rw[I];rfl,G⟩
 ·exact⟨_,_,rfl,G⟩
theorem eP{a b:Int}(h:a=b):Am (iZ a)=.returned (iZ b):=by rw[h]
theorem dQ(n:Nat):1<=(Num.bytes n).length/\(Num.bytes n).length<=8:=by
 rw[Num.eH];unfold Num.code
 repeat' split
 all_goals decide
theorem OT(aM n:Nat)(w:World)(V:aM<=400)(I:n<4611686018427387904):
  Calls prog 157 #[iZ aM,uZ n] w fun e w'=>e=.returned (iZ ((aM:Int)-((Num.bytes n).length:Int)-4))/\aD w w':=by
 have H:=au (xU n w I);have hb:=dQ n;generalize (Num.bytes n).length=k at *
 have h1:(aM:Int)-(k:Int)<9223372036854775808:=by omega
 have K: -9223372036854775808<=(aM:Int)-(k:Int):=by omega
 have O:(aM:Int)-(k:Int)-4<9223372036854775808:=by omega
 have U: -9223372036854775808<=(aM:Int)-(k:Int)-4:=by omega
 go_enter func157,ntmps157
 go_wp2_with fail
 refine H.out.mono ?_;rintro e w' ⟨a,c,rfl,F⟩;have G:=au F;clear F;go_wp2;go_ret;exact⟨rfl,G.out⟩
theorem OU(w:World)(a:Option Addr)(l:List UInt8)(c:Nat)(h:BytesAt w a l)(F:a=none->l=[]):(convert 60 9 (.slice a l.length c)).run prog w=.ok (.string ⟨l.toArray⟩) w:=by
 cases a with
 |none=>
  obtain rfl:=F rfl;show(convert 60 9 (.slice none 0 c)).run prog w=_;rw[run_convert_bytes_string w 60 9 5 none 0 c u29 (by kernel_rfl) u9];simp[Conv.bytesToString];rfl
 |some x=>exact run_convert_bytes_back (P:=prog) w 60 9 5 x c l u29 (by kernel_rfl) u9 (fun j G=>by
   obtain⟨b,off,H,h1⟩:=h j G;cases H;rw[Addr.add_lit]
   exact h1)
theorem aH{y:World}{R:Nat}{t:TypeId}{F G H v3 I K O U V v9:Value}(h:aA y R t [F,G,H,v3,I,K,O,U,V,v9]):
  y.cell? (aj R 0)=some F/\y.cell? (aj R 1)=some G/\y.cell? (aj R 2)=some H/\y.cell? (aj R 3)=some v3/\y.cell? (aj R 4)=some I/\y.cell? (aj R 5)=some K/\y.cell? (aj R 6)=some O/\y.cell? (aj R 7)=some U/\y.cell? (aj R 8)=some V/\y.cell? (aj R 9)=some v9/\∀j,y.frozen? (aj R j)=false:=
 ⟨h.cell 0,h.cell 1,h.cell 2,h.cell 3,h.cell 4,h.cell 5,h.cell 6,h.cell 7,h.cell 8,h.cell 9,fun j=>h.frozen j⟩
def jk(x:Option Fr):Value:=match x with
 |none=>.tuple #[bR dS nZ,.bool false]
 |some g=>.tuple #[bR g nZ,.bool true]
theorem BytesAt.take{w:World}{a:Option Addr}{l:List UInt8}(h:BytesAt w a l)(n:Nat):BytesAt w a (l.take n):=fun j G=>by
 obtain⟨b,off,h1,F⟩:=h j (by simp at G;omega);exact⟨b,off,h1,by rw[F];simp⟩
theorem BytesAt.below'{w w':World}{a:Option Addr}{l:List UInt8}(h:BytesAt w a l)(hb:aD w w'):BytesAt w' a l:=fun j G=>by
 obtain⟨b,off,h1,F⟩:=h j G;exact⟨b,off,h1,(hb.cell (p:=(aj b (off+j))) (He _ _ F)).trans F⟩
theorem Em(f:Fr)(a:Option Addr)(bs:List UInt8)(c:Nat)(room:Int)(w:World)(hF:Ct w f none 0)(hr:f.ranges=[])(hb:BytesAt w a bs)(hn:a=none->bs=[])(hl:bs.length<=4096)(hc:bs.length<=c)(Z: -1000000<=room/\room<=1000000):
  Calls prog 316 #[bR f nZ,.slice a bs.length c,iZ room] w fun e w'=>e=.returned (jk (kI f bs room))/\aD w w':=by
 obtain⟨W,O⟩:∃W,W=(w.alloc (.cells (bZ f nZ).toArray 65)).alloc (.cells (ko).toArray 65):=⟨_,rfl⟩
 have H:aA W w.heap.size 65 (bZ f nZ):=by rw[O];exact(aA.new w 65 _).alloc _
 have I:aA W (w.heap.size+1) 65 ko:=by
  rw[O];have:=aA.new (w.alloc (.cells (bZ f nZ).toArray 65)) 65 ko;rwa[Ur]at this
 have G:aD w W:=by rw[O];exact((tL _ w).alloc (fB _) _).alloc (by simp) _
 have hsz:W.heap.size=w.heap.size+2:=by rw[O];simp
 have hS:=oV f none 0 W (hF.below G);rw[hr]at hS;have HS:=au hS;have h4:=hF.len;have AV:Hid (kI f bs room=if room<((aG f).length:Int)then none else some {f with data:=⟨(bs.take (min (min bs.length (room-((aG f).length:Int)).toNat) ((room-((aG f).length:Int)).toNat-((Num.bytes (min bs.length (room-((aG f).length:Int)).toNat)).length-1)))).toArray⟩}):=rfl;generalize kI f bs room=X at *;generalize (aG f).length=n at *;obtain⟨x0,x1,x2,x3,x4,x5,x6,x7,x8,x9,xf⟩:=aH H;have HB:=au (And.intro H (And.intro I G));clear H I G hF hS
 have r1: -9223372036854775808<=room-(n:Int):=by omega
 have r2:room-(n:Int)<9223372036854775808:=by omega
 by_cases V:room<(n:Int)
 ·have HX:Hid (X=none):=by unfold Hid;rw[AV.out,if_pos V]
  have g1:room-(n:Int)<0:=by omega
  clear AV V;unfold bR;unfold bZ ko at O;go_enter func316,ntmps316
  go_wp2_with fail
  rw[<-O];refine HS.out.mono ?_;rintro e y ⟨rfl,K⟩;obtain⟨H,I,G⟩:=HB.out;have F:=I.of_heap (K.block _ (by omega));obtain⟨y0,y1,y2,y3,y4,y5,y6,y7,y8,y9,yf⟩:=aH F;have qB:=au (And.intro F (G.trans (K.mono (by omega))));clear K H I G F O
  go_wp2_with fail
  rw[dI];have iB:=dh qB.out.1 (iZ 0) (iZ 0) (uZ 0) (uZ 0) (uZ 0) (.bool false) (uZ 0) (uZ 0) (.string ⟨#[]⟩) nZ;have lX:=dw y (w.heap.size+1) (iZ 0) (iZ 0) (uZ 0) (uZ 0) (uZ 0) (.bool false) (uZ 0) (uZ 0) (.string ⟨#[]⟩) nZ;generalize iA y (w.heap.size+1) (iZ 0) (iZ 0) (uZ 0) (uZ 0) (uZ 0) (.bool false) (uZ 0) (uZ 0) (.string ⟨#[]⟩) nZ=Wf at *;obtain⟨a0,a1,a2,a3,a4,a5,a6,a7,a8,a9,_⟩:=aH iB;exact bodyPost_ret (v:=jk X) (by rw[HX.out];simp[results,results316,go_sem,a0,a1,a2,a3,a4,a5,a6,a7,a8,a9,bR,jk,dS]) rfl ⟨rfl,lX.below qB.out.2 (by omega)⟩
 ·obtain⟨r,hf⟩:∃r:Nat,room-(n:Int)=r:=⟨(room-(n:Int)).toNat,by omega⟩
  have h5:(room-(n:Int)).toNat=r:=by omega
  rw[if_neg V,h5]at AV;obtain⟨m1,hv,hm⟩:=OB (bs.length:Int) (room-(n:Int));obtain⟨k,hk⟩:∃k:Nat,k=min bs.length r:=⟨_,rfl⟩
  obtain rfl:m1=(k:Int):=by omega
  have h9:=dQ k
  have ha:(Num.bytes k).length=1\/64<=k:=by
   by_cases h6:k<64
   ·left;rw[Num.eH];unfold Num.code;rw[if_pos h6]
   ·exact .inr (by omega)
  have HN:=fun y=>au (xU k y (by omega))
  rw[<-hk]at AV;generalize (Num.bytes k).length=d at *;obtain⟨m2,hw,ho⟩:=OB (k:Int) (room-(n:Int)-((d:Int)-1));obtain⟨j,hj⟩:∃j:Nat,j=min k (r-(d-1)):=⟨_,rfl⟩
  obtain rfl:m2=(j:Int):=by omega
  rw[<-hj]at AV
  have h2:Hid (∀y,aD w y->(convert 60 9 (.slice a j c)).run prog y=.ok (.string ⟨(bs.take j).toArray⟩) y):=fun y hy=>by
   have he:(bs.take j).length=j:=by simp;omega
   have:=OU y a (bs.take j) c (BytesAt.below' (BytesAt.take hb j) hy) (fun e=>by rw[hn e];simp);rwa[he]at this
  generalize (⟨(bs.take j).toArray⟩:ByteArray)=D at *
  have g1:¬(room-(n:Int)<0):=by omega
  have g2:(j:Int)<=(c:Int):=by omega
  have g3:(j:Int)<=(bs.length:Int):=by omega
  have g4: -9223372036854775808<=room-(n:Int)-((d:Int)-1):=by omega
  have g5:room-(n:Int)-((d:Int)-1)<9223372036854775808:=by omega
  have g6: -9223372036854775808<=(d:Int)-1:=by omega
  have g7:(d:Int)-1<9223372036854775808:=by omega
  have g8:k<18446744073709551616:=by omega
  clear hf V h5 h9 hl hc Z h4 hm ho hk hj ha hb hn;unfold bR;unfold bZ ko at O;go_enter func316,ntmps316
  go_wp2_with fail
  rw[<-O];refine HS.out.mono ?_;rintro e y ⟨rfl,K⟩;obtain⟨H,I,G⟩:=HB.out;have n_:=H.of_heap (K.block _ (by omega));have F:=I.of_heap (K.block _ (by omega));have YN:=G.trans (K.mono (by omega));have h3:=HN y;have qB:=au (And.intro n_ (And.intro F YN));have hg:=K.size;clear K H I G n_ F YN HS HN O x0 x1 x2 x3 x4 x5 x6 x7 x8 x9 xf HB
  go_wp2_with fail
  refine h3.out.mono ?_;rintro e z ⟨a',c',rfl,U⟩;obtain⟨H,I,G⟩:=qB.out;have n_:=H.of_heap (U.block _ (by omega));have F:=I.of_heap (U.block _ (by omega));have Aa:=G.trans (U.mono (by omega));have hu:=h2.out z Aa;obtain⟨x0,x1,x2,x3,x4,x5,x6,x7,x8,x9,xf⟩:=aH n_;obtain⟨y0,y1,y2,y3,y4,y5,y6,y7,y8,y9,yf⟩:=aH F;have h0:=au (And.intro n_ (And.intro F Aa));clear U H I G n_ F Aa h2 h3 qB hg
  go_wp2_with fail
  rw[dI];have h7:=h0.out.2.1.of_heap (DT z (aj w.heap.size 8) (.string D) (w.heap.size+1) (by simp));have h8:aD w (z.setCell (aj w.heap.size 8) (.string D)):=((je.refl w.heap.size z).set 8 (.string D)).below h0.out.2.2 (fB _);have iB:=dh h7 (iZ f.kind) (iZ f.stream) (uZ f.offset) (uZ f.reliable) (uZ f.limit) (.bool f.fin) (uZ f.id) (uZ f.deadline) (.string D) nZ;have lX:=dw (z.setCell (aj w.heap.size 8) (.string D)) (w.heap.size+1) (iZ f.kind) (iZ f.stream) (uZ f.offset) (uZ f.reliable) (uZ f.limit) (.bool f.fin) (uZ f.id) (uZ f.deadline) (.string D) nZ;generalize iA (z.setCell (aj w.heap.size 8) (.string D)) (w.heap.size+1) (iZ f.kind) (iZ f.stream) (uZ f.offset) (uZ f.reliable) (uZ f.limit) (.bool f.fin) (uZ f.id) (uZ f.deadline) (.string D) nZ=Wf at *;obtain⟨a0,a1,a2,a3,a4,a5,a6,a7,a8,a9,_⟩:=aH iB;exact bodyPost_ret (v:=jk X) (by rw[AV.out];simp[results,results316,go_sem,a0,a1,a2,a3,a4,a5,a6,a7,a8,a9,bR,jk]) rfl ⟨rfl,lX.below h8 (by omega)⟩
theorem mU(n:Nat):(Num.bytes n).length<=8:=(dQ n).2
theorem yN(w:World)(f:Fr)(hs:snd f=true)(G:f.ranges=[])(hd:f.data.size<=4096)(hl:(aG f).length<=1000000):Ct w f none 0:=by
 obtain⟨⟨s0,s8,n0,n1,n2,n3,n4⟩,k1,I,_⟩:=mY f hs;unfold aZ at *;exact⟨hs,⟨by rw[G];simp,by omega,by omega,by omega,by omega,fun j F=>by rw[G]at F;simp at F⟩,fun j F=>by rw[G]at F;simp at F,by rw[G];simp,(fun x H=>by cases H),hl⟩
theorem UL(w:World)(kind:Int)(F:kind=5\/kind=6)(k:Nat)(K:k<8)(x:Nat)(H:x<=aZ):Ct w (iT kind k x) none 0:=by
 have G:(0:Nat)<=aZ:=by decide
 refine yN w _ ?_ rfl (by show(0:Nat)<=4096;decide) ?_
 ·rcases F with rfl|rfl<;>simp[snd,lM,jK,iT,H,G]<;>omega
 ·have h1:=mU k;have I:=mU x
  rcases F with rfl|rfl
  ·simp[aG,aX,iT,bE,aR,fieldAt];omega
  ·simp[aG,aX,iT,bE,aR,fieldAt];omega
abbrev grL(kind:Int)(k:Nat)(x:Int):aI:=[iZ kind,iZ k,uZ 0,uZ 0,uZ x,.bool false,uZ 0,uZ 0,.string ⟨#[]⟩,nZ]
theorem Ki(S o:Nat)(g:Gn)(kind:Int)(hk:kind=5\/kind=6)(k:Nat)(h8:k<8)(free:Nat)(room:Int)(w:World)(l:aI)(hB:aA w S TS l)(h:qV l o g)(hg:g.ahead<=4096)(hf:free<=aZ):
  Calls prog 254 #[ay S o,bR (iT kind k 0) nZ,uZ free,iZ room] w fun e w'=>
   e=.returned (jk ((g.next kind k free room).map wz))/\∃l',dL w w' S l l' o 4/\qV l' o (((g.next kind k free room).map Prod.snd).getD g):=by
 obtain⟨L,hL⟩:∃L,L=g.lim free:=⟨_,rfl⟩
 have h4:L<=aZ:=by rw[hL];unfold Gn.lim;omega
 obtain⟨W,V⟩:∃W,W=(w.alloc (.cells (grL kind k 0).toArray 65)).alloc (.cells (ko).toArray 65):=⟨_,rfl⟩
 have h0:aA W w.heap.size 65 (grL kind k 0):=by rw[V];exact(aA.new w 65 _).alloc _
 have h5:aA W (w.heap.size+1) 65 ko:=by
  rw[V];have:=aA.new (w.alloc (.cells (grL kind k 0).toArray 65)) 65 ko;rwa[Ur]at this
 have h2:aD w W:=by rw[V];exact((tL _ w).alloc (fB _) _).alloc (by simp) _
 have hsz:W.heap.size=w.heap.size+2:=by rw[V];simp
 have h3:aA W S TS l:=hB.of_heap (h2.block _ hB.lt);have XI:=au (Ec S o g free W l h3 h hg hf);rw[<-hL]at XI;obtain⟨W1,K⟩:∃W1,W1=W.setCell (aj w.heap.size 4) (uZ L):=⟨_,rfl⟩
 have U:aA W1 w.heap.size 65 (grL kind k L):=by rw[K];exact h0.setCell 4 _
 have F:aA W1 (w.heap.size+1) 65 ko:=by rw[K];exact h5.of_heap (DT _ _ _ _ (by simp))
 have O:aD w W1:=by rw[K];exact((je.refl w.heap.size W).set 4 _).below h2 (fB _)
 have hc:W1.heap.size=w.heap.size+2:=by rw[K];simpa using hsz
 have vI:=au (oV _ none 0 W1 (UL W1 kind hk k h8 L h4))
 have wG:Hid (g.next kind k free room=if room<((aG (iT kind k L)).length:Int)then none else some (iT kind k L,({g with told:=L}:Gn).aw L)):=by unfold Hid;rw[hL];rfl
 generalize g.next kind k free room=X at *;generalize hn:(aG (iT kind k L)).length=n at *;have HB:=au (And.intro hB (And.intro h hL));obtain⟨x0,x1,x2,x3,x4,x5,x6,x7,x8,x9,xf⟩:=aH h0;have HH:=au (And.intro U (And.intro F O));have Ag:=hB.lt;clear h0 h5 h2 h3 hB h U F O hg hf h4 hL;unfold bR iT;unfold grL ko at V
 by_cases h9:room<(n:Int)
 ·have HX:Hid (X=none):=by unfold Hid;rw[wG.out,if_pos h9]
  clear wG;go_enter func254,ntmps254
  go_wp2_with fail
  rw[<-V];refine XI.out.mono ?_;rintro e y ⟨rfl,rfl⟩;obtain⟨U,F,O⟩:=HH.out;obtain⟨u0,u1,u2,u3,u4,u5,u6,u7,u8,u9,uf⟩:=aH U;have ha:=au (And.intro F O);clear V U F O
  go_wp2_with fail
  rw[<-K];refine vI.out.mono ?_;rintro e z ⟨rfl,G⟩;obtain⟨F,O⟩:=ha.out;have MC:=F.of_heap (G.block _ (by omega));have Aa:=O.trans (G.mono (by omega));obtain⟨y0,y1,y2,y3,y4,y5,y6,y7,y8,y9,yf⟩:=aH MC;have HZ:=au (And.intro MC Aa);clear G F O MC Aa u0 u1 u2 u3 u4 u5 u6 u7 u8 u9 uf x0 x1 x2 x3 x4 x5 x6 x7 x8 x9 xf
  go_wp2_with fail
  rw[dI];have iB:=dh HZ.out.1 (iZ 0) (iZ 0) (uZ 0) (uZ 0) (uZ 0) (.bool false) (uZ 0) (uZ 0) (.string ⟨#[]⟩) nZ;have lX:=dw z (w.heap.size+1) (iZ 0) (iZ 0) (uZ 0) (uZ 0) (uZ 0) (.bool false) (uZ 0) (uZ 0) (.string ⟨#[]⟩) nZ;generalize iA z (w.heap.size+1) (iZ 0) (iZ 0) (uZ 0) (uZ 0) (uZ 0) (.bool false) (uZ 0) (uZ 0) (.string ⟨#[]⟩) nZ=Wf at *;obtain⟨a0,a1,a2,a3,a4,a5,a6,a7,a8,a9,_⟩:=aH iB;refine bodyPost_ret (v:=jk (X.map wz)) (by rw[HX.out];simp[results,results254,go_sem,a0,a1,a2,a3,a4,a5,a6,a7,a8,a9,bR,jk,dS]) rfl ⟨rfl,l,(dL.refl HB.out.1 o 4).fK (lX.below HZ.out.2 (by omega)),?_⟩;rw[HX.out];exact HB.out.2.1
 ·have HX:Hid (X=some (iT kind k L,({g with told:=L}:Gn).aw L)):=by unfold Hid;rw[wG.out,if_neg h9]
  clear wG;go_enter func254,ntmps254
  go_wp2_with fail
  rw[<-V];refine XI.out.mono ?_;rintro e y ⟨rfl,rfl⟩;obtain⟨U,F,O⟩:=HH.out;obtain⟨u0,u1,u2,u3,u4,u5,u6,u7,u8,u9,uf⟩:=aH U;clear V U F O
  go_wp2_with fail
  rw[<-K];refine vI.out.mono ?_;rintro e z ⟨rfl,G⟩;obtain⟨U,F,O⟩:=HH.out;have XJ:=U.of_heap (G.block _ (by omega));have MC:=F.of_heap (G.block _ (by omega));have Aa:=O.trans (G.mono (by omega));have jc:=HB.out.1.of_heap (Aa.block _ Ag);have H:=(Gn.st S o g z l jc HB.out.2.1).1 L;have hr:=G.size;obtain⟨Z,hZ⟩:∃Z,Z=z.setCell (aj S (o+1)) (uZ L):=⟨_,rfl⟩;rw[<-hZ]at H;have P6:aA Z w.heap.size 65 _:=XJ.of_heap (by rw[hZ];exact DT _ _ _ _ (by simp;omega));have P7:aA Z (w.heap.size+1) 65 _:=MC.of_heap (by rw[hZ];exact DT _ _ _ _ (by simp;omega))
  have hj:Z.heap.size=z.heap.size:=by rw[hZ];simp
  have Tc:=au (Cm S o {g with told:=L} (iT kind k L) nZ Z _ H.1.blk H.2)
  have c1:z.cell? (aj S (o+1))=some (uZ g.told):=by rw[jc.cell];exact HB.out.2.1.c1
  have f1:=jc.frozen (o+1);obtain⟨v0,v1,v2,v3,v4,v5,v6,v7,v8,v9,vf⟩:=aH XJ
  have hm:¬(S=w.heap.size):=by omega
  have ho:¬(w.heap.size=S):=by omega
  have HZ:=au (And.intro P6 (And.intro P7 (And.intro H Aa)));clear G U F O XJ MC Aa jc H u0 u1 u2 u3 u4 u5 u6 u7 u8 u9 uf x0 x1 x2 x3 x4 x5 x6 x7 x8 x9 xf P6 P7
  go_wp2_with fail
  rw[<-hZ];refine Tc.out.mono ?_;rintro e y ⟨rfl,l',I,h6⟩;obtain⟨P6,P7,H,h7⟩:=HZ.out;have Y7:=I.other P6 (by omega);have XK:=I.other P7 (by omega);obtain⟨x0,x1,x2,x3,x4,x5,x6,x7,x8,x9,xf⟩:=aH Y7;obtain⟨y0,y1,y2,y3,y4,y5,y6,y7,y8,y9,yf⟩:=aH XK;have HY:=au (And.intro XK (And.intro (dL.after h7 (H.1.trans I)) h6));clear I h6 P6 P7 H h7 Y7 XK v0 v1 v2 v3 v4 v5 v6 v7 v8 v9 vf
  go_wp2_with fail
  rw[dI];have iB:=dh HY.out.1 (iZ kind) (iZ k) (uZ 0) (uZ 0) (uZ L) (.bool false) (uZ 0) (uZ 0) (.string ⟨#[]⟩) nZ;have lX:=dw y (w.heap.size+1) (iZ kind) (iZ k) (uZ 0) (uZ 0) (uZ L) (.bool false) (uZ 0) (uZ 0) (.string ⟨#[]⟩) nZ;generalize he:iA y (w.heap.size+1) (iZ kind) (iZ k) (uZ 0) (uZ 0) (uZ L) (.bool false) (uZ 0) (uZ 0) (.string ⟨#[]⟩) nZ=Wf at *;obtain⟨a0,a1,a2,a3,a4,a5,a6,a7,a8,a9,_⟩:=aH iB;refine bodyPost_ret (v:=jk (X.map wz)) (by rw[HX.out];simp[results,results254,go_sem,a0,a1,a2,a3,a4,a5,a6,a7,a8,a9,bR,jk,iT]) rfl ⟨rfl,l',HY.out.2.1.tch lX (by omega) (by omega),?_⟩;rw[HX.out];exact HY.out.2.2
def jC(oZ:Own)(t:Nat)(w:World)(S:Nat)(va:Value)(rs:aP):Prop:=
 ∃base c,va=.slice base rs.length c/\rs.length<=c/\c<=9223372036854775807/\St.gN w S base c rs/\∀b,base.map (·.block)=some b->oZ b=t
theorem jC.kp{oZ aC:Own}{t:Nat}{w w':World}{S:Nat}{va:Value}{rs:aP}{T:List Nat}(h:jC oZ t w S va rs)(K:Kp T oZ aC w w')(U:t∉T):jC aC t w' S va rs:=by
 obtain⟨base,c,h1,I,O,G,H⟩:=h
 have hb:∀b,base.map (·.block)=some b->b<w.heap.size:=fun b hb=>(St.kK G b hb).2
 exact⟨base,c,h1,I,O,G.of_heap (fun b F=>by
  have e:base.map (·.block)=some b:=by rw[F];rfl
  exact K.blk b (hb b e) (by rw[H b e];exact U)),fun b e=>by rw[K.ext b (hb b e),H b e]⟩
structure Ia (l:aI) (o:Nat) (m:Ot) (vb va vc:Value):Prop where
 c0:l[o]?=some vb
 c1:l[o+1]?=some (.bool m.fin)
 nt:zY l (o+2) m.nt
 c6:l[o+6]?=some (uZ m.limit)
 c7:l[o+7]?=some (uZ m.sent)
 c8:l[o+8]?=some (iZ 2049)
 c9:l[o+9]?=some (uZ m.away.fl)
 c10:l[o+10]?=some va
 c11:l[o+11]?=some (iZ 2049)
 c12:l[o+12]?=some (uZ m.came.fl)
 c13:l[o+13]?=some vc
theorem Ia.win{l l':aI}{o o' n':Nat}{m:Ot}{vb va vc:Value}(h:Ia l o m vb va vc)(w:iN l l' o' n')(hd:o+14<=o'\/o'+n'<=o):Ia l' o m vb va vc:=
 ⟨by rw[w.2 _ (by omega),h.c0],by rw[w.2 _ (by omega),h.c1],h.nt.win w (by omega),by rw[w.2 _ (by omega),h.c6],by rw[w.2 _ (by omega),h.c7],by rw[w.2 _ (by omega),h.c8],by rw[w.2 _ (by omega),h.c9],by rw[w.2 _ (by omega),h.c10],
 by rw[w.2 _ (by omega),h.c11],by rw[w.2 _ (by omega),h.c12],by rw[w.2 _ (by omega),h.c13]⟩
def xW(oZ:Own)(t:Nat)(w:World)(S:Nat)(l:aI)(o:Nat)(m:Ot):Prop:=
 ∃vb va vc,Ia l o m vb va vc/\GT oZ t 5 1 w vb m.bytes.length (aQ m.bytes)/\jC oZ (t+1) w S va m.away.rs/\jC oZ (t+2) w S vc m.came.rs
theorem xW.kp{oZ aC:Own}{t:Nat}{w w':World}{S:Nat}{l l':aI}{o o' n':Nat}{m:Ot}{T:List Nat}(h:xW oZ t w S l o m)(K:Kp T oZ aC w w')(U:t∉T)(F:t+1∉T)(G:t+2∉T)(wi:iN l l' o' n')(hd:o+14<=o'\/o'+n'<=o):xW aC t w' S l' o m:=by
 obtain⟨vb,va,vc,h1,H,I,O⟩:=h;exact⟨vb,va,vc,h1.win wi hd,H.kp K U,I.kp K F,O.kp K G⟩
theorem qd(S o n c:Nat)(a:Option Addr)(w:World)(F:n<=2048)(c0:w.cell? (aj S o)=some (.slice a n c)):
  Calls prog 188 #[ay S o] w fun e w'=>e=.returned (uZ n)/\w'=w:=by
 have h1:n<18446744073709551616:=by omega
 go_enter func188,ntmps188;go_wp2;go_ret;exact⟨rfl,rfl⟩
theorem AY(S o:Nat)(f g:Bool)(w:World)(c1:w.cell? (aj S (o+1))=some (.bool f))(c2:w.cell? (aj S (o+2))=some (.bool g)):
  Calls prog 186 #[ay S o] w fun e w'=>e=.returned (.bool (f||g))/\w'=w:=by
 cases f
 all_goals
  go_enter func186,ntmps186;go_wp2;go_ret;exact⟨aV (by simp),rfl⟩
theorem Uk(S o x:Nat)(w:World)(c7:w.cell? (aj S (o+7))=some (uZ x)):
  Calls prog 315 #[ay S o] w fun e w'=>e=.returned (uZ x)/\w'=w:=by
 go_enter func315,ntmps315;go_wp2;go_ret;exact⟨rfl,rfl⟩
theorem AZ(S o:Nat)(w:World):
  Calls prog 241 #[ay S o] w fun e w'=>e=.returned (ay S (o+2))/\w'=w:=by
 go_enter func241,ntmps241;go_wp2;go_ret;exact⟨rfl,rfl⟩
theorem uM(S o n c F:Nat)(a:Option Addr)(f g:Bool)(w:World)(H:n<=2048)(c0:w.cell? (aj S o)=some (.slice a n c))(c1:w.cell? (aj S (o+1))=some (.bool f))(c2:w.cell? (aj S (o+2))=some (.bool g)):
  Calls prog 317 #[ay S o,uZ F] w fun e w'=>e=.returned (.bool (f&& !g&&decide (F=n)))/\w'=w:=by
 have G:=au (qd S o n c a w H c0);clear c0;cases f
 ·go_enter func317,ntmps317;go_wp2;go_ret;exact⟨rfl,rfl⟩
 ·cases g
  ·go_enter func317,ntmps317
   go_wp2_with (go_at_call 188;refine G.out.mono ?_;rintro e w' ⟨rfl,rfl⟩)
   go_ret;exact⟨aV (by rw[qai];simp<;>omega),rfl⟩
  ·go_enter func317,ntmps317;go_wp2;go_ret;exact⟨rfl,rfl⟩
theorem iP(f:Fr)(rv:Value)(w:World)(I:f.offset<=aZ)(hd:f.data.size<=1000000000):
  Calls prog 318 #[bR f rv] w fun e w'=>e=.returned (uZ (aJ f:Int))/\aD w w':=by
 obtain⟨W,G⟩:∃W,W=w.alloc (.cells (bZ f rv).toArray 65):=⟨_,rfl⟩
 have hb:aA W w.heap.size 65 (bZ f rv):=by rw[G];exact aA.new w 65 _
 have F:aD w W:=by rw[G];exact(tL _ w).alloc (fB _) _
 have c2:W.cell? (aj w.heap.size 2)=some (uZ f.offset):=hb.cell 2;have c8:W.cell? (aj w.heap.size 8)=some (.string f.data):=hb.cell 8;have K:=au F
 have H:((aJ f:Nat):Int)=(f.offset:Int)+(f.data.size:Int):=by unfold aJ;omega
 unfold aZ at I
 have h1:f.offset+f.data.size<18446744073709551616:=by omega
 have O:f.data.size<18446744073709551616:=by omega
 rw[H];clear H I hd F hb;unfold bR;unfold bZ at G;go_enter func318,ntmps318
 go_wp2_with fail
 rw[<-G];go_wp2;go_ret;exact⟨rfl,K.out⟩
theorem qa7(a b c:Nat):∃m:Nat,(∀F t w,(qao F t #[uZ a,uZ b,uZ c]).run prog w=.ok (uZ m) w)/\m=min (min a b) c:=by
 refine⟨min (min a b) c,fun F t w=>?_,rfl⟩;simp only[qao,List.foldlM_cons,List.foldlM_nil,Builtin.min2];simp only[Sem.run_bind,Sem.run_pure,Result.andThen_ok]
 congr 2
 split<;>(try split)<;>omega
theorem OZ(S o n c lim sent aB:Nat)(a:Option Addr)(w:World)(I:n<=2048)(hs:sent+aB<18446744073709551616)(c0:w.cell? (aj S o)=some (.slice a n c))(c6:w.cell? (aj S (o+6))=some (uZ lim))(c7:w.cell? (aj S (o+7))=some (uZ sent)):
  Calls prog 343 #[ay S o,uZ aB] w fun e w'=>e=.returned (uZ ((min (min n lim) (sent+aB):Nat):Int))/\∃q,w'=w.drewN q:=by
 have G:=au (fun q=>qd S o n c a (w.drewN q) I c0);obtain⟨m,H,F⟩:=qa7 n lim (sent+aB);rw[<-F];rw[Int.natCast_add]at H;clear c0 F;go_enter func343,ntmps343;go_wp2
 go_quiet ((go_at_call 188;exact Av (G.out _)))
 go_wp2;go_ret;exact⟨rfl,nq,rfl⟩
theorem O0(S o:Nat)(n:Nt)(r:Nat)(w:World)(l:aI)(hB:aA w S TS l)(h:zY l o n):
  Calls prog 312 #[ay S o,uZ r] w fun e w'=>e=.returned (.bool (n.waits r))/\∃q,w'=w.drewN q:=by
 have c0:w.cell? (aj S o)=some (.bool n.given):=by rw[hB.cell];exact h.c0
 have c2:w.cell? (aj S (o+2))=some (uZ n.away):=by rw[hB.cell];exact h.c2
 have c3:w.cell? (aj S (o+3))=some (uZ n.came):=by rw[hB.cell];exact h.c3
 obtain⟨m,I,F⟩:=min2 n.away n.came
 have G:Hid (n.waits r=(n.given&&decide (r<m))):=by unfold Hid;rw[F];rfl
 generalize n.waits r=B at *;clear h hB F;cases H:n.given
 all_goals
  rw[H]at c0 G;go_enter func312,ntmps312;go_wp2
  go_quiet (fail)
  go_wp2;go_ret;exact⟨aV (by rw[G.out];simp),nq,rfl⟩
theorem xX(S o:Nat)(n:Nt)(k c:Nat)(a:Option Addr)(w:World)(l:aI)(hB:aA w S TS l)(H:k<=2048)(c0:l[o]?=some (.slice a k c))(h:zY l (o+2) n):
  Calls prog 258 #[ay S o] w fun e w'=>e=.returned (.bool (n.waits k))/\∃q,w'=w.drewN q:=by
 have F:=au (fun q=>qd S o k c a (w.drewN q) H (by rw[show(w.drewN q).cell? (aj S o)=w.cell? (aj S o)from rfl,hB.cell];exact c0));have G:=au (fun q=>O0 S (o+2) n k (w.drewN q) l hB h);clear h hB;go_enter func258,ntmps258;go_wp2
 go_quiet ((first|(go_at_call 188;exact Av (F.out _))|(go_at_call 312;exact Calls.quiet_of (G.out _))))
 go_wp2;go_ret;exact⟨rfl,nq,rfl⟩
theorem Nt.st(S o:Nat)(g:Nt)(w:World)(l:aI)(hB:aA w S TS l)(h:zY l o g):
  (∀x:Nat,dL w (w.setCell (aj S (o+2)) (uZ x)) S l (l.set (o+2) (uZ x)) o 4/\zY (l.set (o+2) (uZ x)) o {g with away:=x})/\
  (∀x:Nat,dL w (w.setCell (aj S (o+3)) (uZ x)) S l (l.set (o+3) (uZ x)) o 4/\zY (l.set (o+3) (uZ x)) o {g with came:=x}):=
 ⟨fun x=>⟨dL.one hB _ _ _ _ (by omega) (by omega),by rw[ak _ _ _ _ (by omega),h.c0],by rw[ak _ _ _ _ (by omega),h.c1],aU _ _ _ _ h.c2,by rw[ak _ _ _ _ (by omega),h.c3]⟩,
 fun x=>⟨dL.one hB _ _ _ _ (by omega) (by omega),by rw[ak _ _ _ _ (by omega),h.c0],by rw[ak _ _ _ _ (by omega),h.c1],by rw[ak _ _ _ _ (by omega),h.c2],aU _ _ _ _ h.c3⟩⟩
theorem Vh(S o:Nat)(g:Nt)(w:World)(l:aI)(hB:aA w S TS l)(h:zY l o g):
  Calls prog 395 #[ay S o] w fun e w'=>e=.returned (.tuple #[])/\∃l',dL w w' S l l' o 4/\zY l' o g.lose:=by
 have c2:w.cell? (aj S (o+2))=some (uZ g.away):=by rw[hB.cell];exact h.c2
 have f2:=hB.frozen (o+2);have F:=au ((Nt.st S o g w l hB h).1 18446744073709551615);rw[show((18446744073709551615:Nat):Int)=18446744073709551615 from rfl]at F;clear h hB;go_enter func395,ntmps395;go_wp2;go_end0;exact⟨rfl,_,F.out⟩
theorem Vi(S o:Nat)(g:Nt)(f:Fr)(rv:Value)(w:World)(l:aI)(hB:aA w S TS l)(h:zY l o g):
  Calls prog 342 #[ay S o,bR f rv] w fun e w'=>e=.returned (.tuple #[])/\∃l',dL w w' S l l' o 4/\zY l' o (g.aw f.reliable):=by
 obtain⟨m,V,G⟩:=min2 g.away f.reliable
 have O:Hid (g.aw f.reliable={g with away:=m}):=by unfold Hid;rw[G];rfl
 obtain⟨W,H⟩:∃W,W=w.alloc (.cells (bZ f rv).toArray 65):=⟨_,rfl⟩
 have hb:aA W w.heap.size 65 (bZ f rv):=by rw[H];exact aA.new w 65 _
 have F:aA W S TS l:=by rw[H];exact hB.alloc _
 have K:aD w W:=by rw[H];exact(tL _ w).alloc (fB _) _
 have I:=au ((Nt.st S o g W l F h).1 m);have X:W.cell? (aj w.heap.size 3)=some (uZ f.reliable):=hb.cell 3
 have c2:W.cell? (aj S (o+2))=some (uZ g.away):=by rw[F.cell];exact h.c2
 have f2:=F.frozen (o+2);have U:=au K;clear h hB hb F K G;unfold bR;unfold bZ at H;go_enter func342,ntmps342
 go_wp2_with fail
 rw[<-H];clear H
 go_region
 all_goals go_wp2
 all_goals go_end0
 all_goals exact⟨rfl,_,dL.after U.out I.out.1.drew,by rw[O.out];exact I.out.2⟩
theorem Vj(S o:Nat)(g:Nt)(f:Fr)(rv:Value)(w:World)(l:aI)(hB:aA w S TS l)(h:zY l o g):
  Calls prog 394 #[ay S o,bR f rv] w fun e w'=>e=.returned (.tuple #[])/\∃l',dL w w' S l l' o 4/\zY l' o (g.cm f.reliable):=by
 obtain⟨m,V,G⟩:=min2 g.came f.reliable
 have O:Hid (g.cm f.reliable={g with came:=m}):=by unfold Hid;rw[G];rfl
 obtain⟨W,H⟩:∃W,W=w.alloc (.cells (bZ f rv).toArray 65):=⟨_,rfl⟩
 have hb:aA W w.heap.size 65 (bZ f rv):=by rw[H];exact aA.new w 65 _
 have F:aA W S TS l:=by rw[H];exact hB.alloc _
 have K:aD w W:=by rw[H];exact(tL _ w).alloc (fB _) _
 have I:=au ((Nt.st S o g W l F h).2 m);have X:W.cell? (aj w.heap.size 3)=some (uZ f.reliable):=hb.cell 3
 have c2:W.cell? (aj S (o+3))=some (uZ g.came):=by rw[F.cell];exact h.c3
 have f2:=F.frozen (o+3);have U:=au K;clear h hB hb F K G;unfold bR;unfold bZ at H;go_enter func394,ntmps394
 go_wp2_with fail
 rw[<-H];clear H
 go_region
 all_goals go_wp2
 all_goals go_end0
 all_goals exact⟨rfl,_,dL.after U.out I.out.1.drew,by rw[O.out];exact I.out.2⟩
abbrev FV:=Fr×Option Addr×Nat×Nat
def lu(x:FV):Value:=.slice x.2.1 x.2.2.1 x.2.2.2
def l6:List FV->aI
 |[]=>[]
 |x::t=>bZ x.1 (lu x)++l6 t
def eG:FV:=(dS,none,0,0)
def sO(w:World)(fa:Option Addr)(L:List FV):Prop:=
 ∀j,j<L.length->∃b off,fa=some (aj b off)/\∀i,i<10->w.cell? (aj b (off+j*10+i))=(bZ (L.getD j eG).1 (lu (L.getD j eG)))[i]?
theorem sO.below{w w':World}{fa:Option Addr}{L:List FV}(h:sO w fa L)(hb:aD w w'):sO w' fa L:=fun j H=>by
 obtain⟨b,off,G,h1⟩:=h j H;refine⟨b,off,G,fun i hi=>?_⟩
 have F:b<w.heap.size:=by
  exact He (a:=(aj b (off+j*10+0))) _ (h1 0 (by omega))
 rw[hb.cell (p:=(aj b (off+j*10+i))) F];exact h1 i hi
theorem Uq.qa8{w:World}{fa:Option Addr}{fs:List Fr}{ra:Nat->Option Addr}{rc:Nat->Nat}(h:Uq w fa fs ra rc)(L:List FV)(H:L.length=fs.length)(G:∀j,j<fs.length->L.getD j eG=(fs.getD j dS,ra j,(fs.getD j dS).ranges.length,rc j)):sO w fa L:=fun j I=>by
 obtain⟨b,off,F,h1⟩:=h j (by omega);refine⟨b,off,F,fun i hi=>?_⟩;rw[G j (by omega)]
 match i,hi with
 |0,_=>exact h1.c0
 |1,_=>exact h1.c1
 |2,_=>exact h1.c2
 |3,_=>exact h1.c3
 |4,_=>exact h1.c4
 |5,_=>exact h1.c5
 |6,_=>exact h1.c6
 |7,_=>exact h1.c7
 |8,_=>exact h1.c8
 |9,_=>exact h1.c9
def uR(P:FV->Bool)(fs:List FV):Int:=if fs.any P then(fs.findIdx P:Int)else -1
theorem LQ{P:FV->Bool}{fs:List FV}(h:∀j,j<fs.length->P (fs.getD j eG)=false):uR P fs= -1:=by
 unfold uR;rw[if_neg];intro h1;obtain⟨x,G,hp⟩:=SF.1 h1;obtain⟨j,F,rfl⟩:=qa1 G;have:=h j F;rw[mR,fA F]at this;simp only[Option.getD_some]at this;rw[this]at hp;cases hp
theorem LU{P:FV->Bool}{fs:List FV}(i:Nat)(hi:i<fs.length)(h:∀j,j<i->P (fs.getD j eG)=false)(hp:P (fs.getD i eG)=true):uR P fs=(i:Int):=by
 have g:∀j (F:j<fs.length),fs.getD j eG=fs[j]:=fun j F=>by rw[mR,fA F];rfl
 unfold uR;rw[if_pos (SF.2 ⟨fs[i],qae hi,by rw[<-g i hi];exact hp⟩)]
 have:fs.findIdx P=i:=by
  rw[List.findIdx_eq hi];exact⟨by rw[<-g i hi];exact hp,fun j F=>by rw[<-g j (by omega)];exact h j F⟩
 rw[this]
theorem yh(g:Nat)(p k:Array Value)(P:FV->Bool)(fa:Option Addr)(fs:List FV)(fc:Nat)(w:World)(eg:∀args w,(callFunc g args).run prog w=.ok (.enter g args) w)(hl:fs.length<=1000000000)(hF:sO w fa fs)(hw:∀j,j<fs.length->∀W:World,aD w W->Calls prog g (p.push (bR (fs.getD j eG).1 (lu (fs.getD j eG)))++k) W fun e W'=>e=.returned (.bool (P (fs.getD j eG)))/\aD W W'):
  Calls prog 190 #[.slice fa fs.length fc,.func (.func g) p k] w fun e w'=>e=.returned (iZ (uR P fs))/\aD w w':=by
 have HF:=au hF;have HW:=au hw;clear hF hw;obtain⟨X,hX⟩:∃X,X=uR P fs:=⟨_,rfl⟩;have HX:=au hX;rw[<-hX];clear hX;go_enter func190,ntmps190;go_wp2
 go_loopw [8] (fun s8 wr=>∃i:Nat,i<=fs.length/\s8=(iZ i)/\Hid ((∀j,j<i->P (fs.getD j eG)=false)/\aD w wr)) (fun s8 _=>fs.length-(intOf s8).toNat)
 case atStart=>exact⟨0,qab _,rfl,(⟨fun j hj=>absurd hj (Nat.not_lt_zero _),tL _ _⟩:_/\_)⟩
 case round=>
  obtain⟨i,hi,rfl,H⟩:=hrel
  by_cases O:i<fs.length
  ·have h2:(i:Int)<(fs.length:Int):=by omega
   obtain⟨b,off,ha,V⟩:=HF.out i O;subst ha
   have G:∀U,U<10->wr.cell? (aj b (off+i*10+U))=(bZ (fs.getD i eG).1 (lu (fs.getD i eG)))[U]?:=fun U h0=>by
    rw[H.out.2.cell (p:=(aj b (off+i*10+U))) (He (a:=(aj b (off+i*10+0))) _ (V 0 (by omega)))];exact V U h0
   have c0:=G 0 (by omega);have c1:=G 1 (by omega);have c2:=G 2 (by omega);have c3:=G 3 (by omega);have c4:=G 4 (by omega);have c5:=G 5 (by omega);have c6:=G 6 (by omega);have c7:=G 7 (by omega);have c8:=G 8 (by omega);have c9:=G 9 (by omega);have I:=HW.out i O wr H.out.2
   have HP:Hid (∀b,P (fs.getD i eG)=b->P (fs.getD i eG)=b):=fun _ h=>h
   cases hp:P (fs.getD i eG)
   ·rw[hp]at I;have Z:=au hp;clear hp G V HP;generalize fs.getD i eG=F at c0 c1 c2 c3 c4 c5 c6 c7 c8 c9 I;obtain⟨F,r1,r2,r3⟩:=F;unfold bR at I;simp only[lu,uj,tT,Ui]at c0 c1 c2 c3 c4 c5 c6 c7 c8 c9 I
    go_wp2_with (first
     |(go_at_fn g;refine I.mono ?_;rintro e w2 ⟨rfl,K⟩)
     |go_in)
    go_roundw
    case rel=>exact⟨i+1,by omega,by simp,(⟨fun j hj=>(by
     by_cases h:j=i
     ·rw[h];exact Z.out
     ·exact H.out.1 j (by omega)),H.out.2.trans (K.mono H.out.2.size)⟩:_/\_)⟩
    case measure=>simp[intOf];omega
   ·rw[hp]at I;have Z:=au hp;clear hp G V HP;generalize fs.getD i eG=F at c0 c1 c2 c3 c4 c5 c6 c7 c8 c9 I;obtain⟨F,r1,r2,r3⟩:=F;unfold bR at I;simp only[lu,uj,tT,Ui]at c0 c1 c2 c3 c4 c5 c6 c7 c8 c9 I
    go_wp2_with (first
     |(go_at_fn g;refine I.mono ?_;rintro e w2 ⟨rfl,K⟩)
     |go_in)
    go_ret;exact⟨by rw[HX.out,LU i O H.out.1 Z.out];rfl,H.out.2.trans (K.mono H.out.2.size)⟩
  ·obtain rfl:i=fs.length:=by omega
   go_wp2;go_ret;exact⟨by rw[HX.out,LQ H.out.1];rfl,H.out.2⟩
theorem Ev(g:Nat)(p k:Array Value)(P:FV->Bool)(fa:Option Addr)(fs:List FV)(G:Nat)(w:World)(O:∀args w,(callFunc g args).run prog w=.ok (.enter g args) w)(hl:fs.length<=1000000000)(hF:sO w fa fs)(H:∀j,j<fs.length->∀W:World,aD w W->Calls prog g (p.push (bR (fs.getD j eG).1 (lu (fs.getD j eG)))++k) W fun e K=>e=.returned (.bool (P (fs.getD j eG)))/\aD W K):
  Calls prog 231 #[.slice fa fs.length G,.func (.func g) p k] w fun e w'=>e=.returned (.bool (fs.any P))/\aD w w':=by
 have I:=au (yh g p k P fa fs G w O hl hF H)
 have U:decide ((0:Int)<=uR P fs)=fs.any P:=by
  unfold uR;cases h:fs.any P
  ·rw[if_neg (by simp)];rfl
  ·rw[if_pos rfl];exact decide_eq_true (Int.natCast_nonneg _)
 generalize fs.any P=B at *;generalize uR P fs=X at *;clear H hF;go_enter func231,ntmps231
 go_wp2_with (first
  |(go_at_call 190;refine I.out.mono ?_;rintro e w2 ⟨rfl,F⟩)
  |go_in)
 go_ret;exact⟨rfl,F⟩
theorem Xv(f:Fr)(rv:Value)(w:World):Calls prog 232 #[bR f rv] w fun e w'=>e=.returned (.bool (decide (f.kind≠2)))/\aD w w':=by
 unfold bR;go_enter func232,ntmps232;go_wp2;go_ret;refine⟨congrArg (fun b=>Am (.bool b)) ?_,(tL _ w).alloc (fB _) _⟩;rw[qai];simp
theorem A_(fa:Option Addr)(L:List FV)(G:Nat)(w:World)(hl:L.length<=1000000000)(hF:sO w fa L):
  Calls prog 182 #[.slice fa L.length G] w fun e w'=>e=.returned (.bool (wants (L.map wz)))/\aD w w':=by
 have H:=au (Ev 232 #[] #[] (fun f=>decide (f.1.kind≠2)) fa L G w (enters_of func232 (by kernel_rfl) rfl) hl hF (fun j _ W _=>Xv _ _ W))
 have e:wants (L.map wz)=L.any fun f=>decide (f.1.kind≠2):=by unfold wants;rw[List.any_map];rfl
 rw[e];generalize (L.any fun f=>decide (f.1.kind≠2))=B at *;clear hF;go_enter func182,ntmps182
 go_wp2_with (first
  |(go_at_call 231;refine H.out.mono ?_;rintro e w2 ⟨rfl,F⟩)
  |go_in)
 go_ret;exact⟨rfl,F⟩
theorem qh:∀L:List FV,(l6 L).length=L.length*10
 |[]=>rfl
 |x::t=>by show(bZ x.1 (lu x)++l6 t).length=_;rw[E8,qh t];simp;omega
theorem tC:∀L K:List FV,l6 (L++K)=l6 L++l6 K
 |[],_=>rfl
 |x::t,K=>by show bZ x.1 (lu x)++l6 (t++K)=(bZ x.1 (lu x)++l6 t)++l6 K;rw[tC t K,List.append_assoc]
theorem pJ:∀(vs:aI) (j:Nat) (l:aI),j+vs.length<=l.length->jr j vs l=splice l j vs
 |[],j,l,h=>by show l=splice l j [];simp[splice]
 |v::vs,j,l,h=>by
  show jr (j+1) vs (l.set j v)=splice l j (v::vs);simp only[qag]at h;rw[pJ vs (j+1) (l.set j v) (by rw[qak];omega)]
  refine List.ext_getElem? fun i=>?_
  rw[gV _ _ _ (by rw[qak];omega),gV _ _ _ (by simp;omega)]
  by_cases h1:i<j
  ·rw[if_pos (by omega),if_pos h1,YF (by omega)]
  ·by_cases G:i=j
   ·subst G;rw[if_pos (by omega),if_neg h1,if_pos (by simp),List.getElem?_set_self (by omega)];simp
   ·rw[if_neg (by omega),if_neg h1]
    by_cases F:i<j+1+vs.length
    ·rw[if_pos F,if_pos (by simp;omega),show i-j=(i-(j+1))+1 by omega];simp
    ·rw[if_neg F,if_neg (by simp;omega),YF (by omega)]
structure CR (w:World) (b n:Nat) (L:List FV) (q:FV->Bool) (len:Nat) (i j:Nat) (cs:aI) (y:World):Prop where
 blk:aA y b 65 cs
 len:cs.length=len
 done:cs.take (i*10)=l6 ((L.take j).filter q)
 av:(cs.take (n*10)).drop (j*10)=l6 (L.drop j)
 one:∀v∈cs,v.oneCell'=true
 num:((L.take j).filter q).length=i
 gr:w.grownBy y (some b)
theorem CR.cell{w:World}{b n:Nat}{L:List FV}{q:FV->Bool}{len i j:Nat}{cs:aI}{y:World}(h:CR w b n L q len i j cs y)(F:j<L.length)(k:Nat)(G:k<10):y.cell? (aj b (j*10+k))=(bZ (L.getD j eG).1 (lu (L.getD j eG)))[k]?:=by
 have e:L.drop j=L.getD j eG::L.drop (j+1):=by
  rw[mR,fA F];exact Aw F
 have h1:((cs.take (n*10)).drop (j*10))[k]?=(bZ (L.getD j eG).1 (lu (L.getD j eG)))[k]?:=by
  rw[h.av,e];show(bZ (L.getD j eG).1 (lu (L.getD j eG))++l6 (L.drop (j+1)))[k]?=_;rw[M4 (by simpa using G)]
 rw[h.blk.cell];rw[List.getElem?_drop,qa3]at h1;split at h1
 ·exact h1
 ·rename_i H
  have:(bZ (L.getD j eG).1 (lu (L.getD j eG)))[k]?.isSome=true:=by
   rw[fA (by simpa using G)];rfl
  rw[<-h1]at this;cases this
theorem CR.skip{w:World}{b n:Nat}{L:List FV}{q:FV->Bool}{len i j:Nat}{cs:aI}{y z:World}(h:CR w b n L q len i j cs y)(F:j<L.length)(hq:q (L.getD j eG)=false)(hB:aA z b 65 cs)(H:w.grownBy z (some b)):CR w b n L q len i (j+1) cs z:=by
 have e:L.take (j+1)=L.take j++[L.getD j eG]:=by
  rw[mR,fA F,qaa,fA F];rfl
 have G:(L.take (j+1)).filter q=(L.take j).filter q:=by rw[e,qa2,List.filter_cons_of_neg (by rw[hq];simp),qaj,List.append_nil]
 refine⟨hB,h.len,by rw[G];exact h.done,?_,h.one,by rw[G];exact h.num,H⟩;have:=congrArg (List.drop 10) h.av;rw[qal,Aw F]at this;rw[show(j+1)*10=j*10+10 by omega,this];rfl
theorem CR.keep{w:World}{b n:Nat}{L:List FV}{q:FV->Bool}{len i j:Nat}{cs:aI}{y z:World}(h:CR w b n L q len i j cs y)(V:n*10<=len)(U:j<n)(O:i<j)(H:j<L.length)(hq:q (L.getD j eG)=true)(hB:aA z b 65 (jr (i*10) (bZ (L.getD j eG).1 (lu (L.getD j eG))) cs))(h1:∀v∈bZ (L.getD j eG).1 (lu (L.getD j eG)),v.oneCell'=true)(K:w.grownBy z (some b)):CR w b n L q len (i+1) (j+1) (jr (i*10) (bZ (L.getD j eG).1 (lu (L.getD j eG))) cs) z:=by
 have e:L.take (j+1)=L.take j++[L.getD j eG]:=by
  rw[mR,fA H,qaa,fA H];rfl
 have I:(L.take (j+1)).filter q=(L.take j).filter q++[L.getD j eG]:=by rw[e,qa2,List.filter_cons_of_pos hq,qaj]
 have F:i*10+(bZ (L.getD j eG).1 (lu (L.getD j eG))).length<=cs.length:=by rw[h.len];simp;omega
 have l10:(bZ (L.getD j eG).1 (lu (L.getD j eG))).length=10:=rfl;refine⟨hB,by rw[yt];exact h.len,?_,?_,yu _ _ _ h.one h1,by rw[I,E8,h.num];rfl,K⟩
 ·rw[pJ _ _ _ F,show(i+1)*10=i*10+(bZ (L.getD j eG).1 (lu (L.getD j eG))).length by rw[l10];omega,dV _ _ _ F,h.done,I,tC];simp[l6]
 ·have hd:=congrArg (List.drop 10) h.av;rw[qal,Aw H]at hd
  have G:(cs.take (n*10)).drop ((j+1)*10)=l6 (L.drop (j+1)):=by rw[show(j+1)*10=j*10+10 by omega,hd];rfl
  rw[<-G,uS,pJ _ _ _ (by rw[sQ,l10];omega),lC _ _ _ _ (by rw[sQ,l10];omega) (by rw[l10];omega)]
theorem CR.below{w:World}{b n:Nat}{L:List FV}{q:FV->Bool}{len i j:Nat}{cs:aI}{y z:World}(h:CR w b n L q len i j cs y)(hb:aD y z):CR w b n L q len i j cs z:=
 ⟨bI hb h.blk,h.len,h.done,h.av,h.one,h.num,h.gr.andThen (fF hb) (fun j F=>by cases F)⟩
theorem CS:∀(L:List FV) (j k:Nat),j<L.length->k<10->(l6 L)[j*10+k]?=(bZ (L.getD j eG).1 (lu (L.getD j eG)))[k]?
 |[],_,_,h,_=>by simp at h
 |x::t,0,k,_,hk=>by
  show(bZ x.1 (lu x)++l6 t)[0*10+k]?=_;rw[M4 (by simpa using hk)];simp only[Nat.zero_mul,qa9];rfl
 |x::t,j+1,k,h,hk=>by
  show(bZ x.1 (lu x)++l6 t)[(j+1)*10+k]?=_;rw[List.getElem?_append_right (by simp;omega),show(j+1)*10+k-(bZ x.1 (lu x)).length=j*10+k by simp;omega];exact CS t j k (by simpa using h) hk
theorem Mw(P:FV->Bool)(L:List FV):(uR P L= -1/\L.filter (fun x=> !P x)=L)\/∃i:Nat,uR P L=(i:Int)/\i<L.length/\P (L.getD i eG)=true/\(L.take i).filter (fun x=> !P x)=L.take i:=by
 unfold uR;cases h:L.any P
 ·refine .inl ⟨by simp,ZH.2 fun x F=>?_⟩;have:=List.any_eq_false.1 h x F;simpa using this
 ·rw[if_pos rfl];have hi:L.findIdx P<L.length:=List.findIdx_lt_length_of_exists (by obtain⟨x,F,hp⟩:=SF.1 h;exact⟨x,F,hp⟩);refine .inr ⟨_,rfl,hi,?_,ZH.2 fun x F=>?_⟩
  ·rw[mR,fA hi];exact List.findIdx_getElem
  ·obtain⟨j,G,rfl⟩:=qa1 F;rw[sQ]at G;rw[List.getElem_take];have:=List.not_of_lt_findIdx (p:=P) (xs:=L) (i:=j) (by omega);simpa using this
theorem CU(f:Fr)(rv:Value)(h:rv.oneCell'=true):∀v∈bZ f rv,v.oneCell'=true:=by
 intro v F;simp only[List.mem_cons,List.not_mem_nil,or_false]at F
 rcases F with rfl|rfl|rfl|rfl|rfl|rfl|rfl|rfl|rfl|rfl
 all_goals first|rfl|exact h
theorem qJ(g:Nat)(p k:Array Value)(P:FV->Bool)(b n c:Nat)(L:List FV)(cs:aI)(w:World)(eg:∀args w,(callFunc g args).run prog w=.ok (.enter g args) w)(hn:L.length=n)(hl:n<=100000)(xd:n<=c)(hB:aA w b 65 cs)(h9:n*10<=cs.length)(ht:cs.take (n*10)=l6 L)(h1:∀v∈cs,v.oneCell'=true)(hw:∀j,j<L.length->∀W:World,w.grownBy W (some b)->Calls prog g (p.push (bR (L.getD j eG).1 (lu (L.getD j eG)))++k) W fun e W'=>e=.returned (.bool (P (L.getD j eG)))/\aD W W'):
  Calls prog 151 #[aS b n c,.func (.func g) p k] w fun e w'=>∃G,e=.returned (aS b (L.filter fun x=> !P x).length c)/\aA w' b 65 G/\G.length=cs.length/\G.take ((L.filter fun x=> !P x).length*10)=l6 (L.filter fun x=> !P x)/\(∀v∈G,v.oneCell'=true)/\w.grownBy w' (some b):=by
 have hk:=hB.lt
 have hF:sO w (some (aj b 0)) L:=fun j Z=>⟨b,0,rfl,fun i hi=>by
  rw[hB.cell,<-CS L j i Z hi,<-ht,qa3,if_pos (by omega),qa9]⟩
 have HI:=au (yh g p k P (some (aj b 0)) L c w eg (by omega) hF (fun j Z W hb=>hw j Z W ((fF hb).but _)));rw[hn]at HI;have hu:=hB
 rcases Mw P L with⟨e1,e2⟩|⟨i0,e1,hi0,hp0,hf0⟩
 ·rw[e1]at HI;rw[e2,hn]
  have HF:Hid (∀w2,aD w w2->aA w2 b 65 cs/\cs.take (n*10)=l6 L/\(∀v∈cs,v.oneCell'=true)/\w.grownBy w2 (some b)):=fun w2 V=>⟨bI V hB,ht,h1,(fF V).but _⟩
  clear hB ht h1 hw hF hu e2;go_enter func151,ntmps151
  go_wp2_with (first
   |(go_at_call 190;refine HI.out.mono ?_;rintro e w2 ⟨rfl,V⟩)
   |go_in)
  go_ret;obtain⟨a1,a2,a3,a4⟩:=HF.out _ V;exact⟨cs,rfl,a1,rfl,a2,a3,a4⟩
 ·rw[e1]at HI
  have ha:CR w b n L (fun x=> !P x) cs.length i0 (i0+1) cs w:=by
   have D:CR w b n L (fun x=> !P x) cs.length i0 i0 cs w:=by
    refine⟨hB,rfl,?_,?_,h1,by rw[hf0,sQ];omega,⟨rfl,rfl,rfl,fB _,fun _ _ _=>rfl⟩⟩
    ·rw[hf0];have e:=congrArg (List.take (i0*10)) ht;rw[List.take_take,Nat.min_eq_left (by omega)]at e;rw[e]
     have e3:l6 L=l6 (L.take i0)++l6 (L.drop i0):=by rw[<-tC,WJ]
     rw[e3,List.take_append_of_le_length (by rw[qh,sQ];omega),WA (by rw[qh,sQ];omega)]
    ·rw[ht]
     have e3:l6 L=l6 (L.take i0)++l6 (L.drop i0):=by rw[<-tC,WJ]
     rw[e3,List.drop_append_of_le_length (by rw[qh,sQ];omega),List.drop_of_length_le (by rw[qh,sQ];omega),KG]
   exact D.skip hi0 (by rw[hp0];rfl) hB D.gr
  have HD:=au ha;have HW:=au hw
  have hy:i0<n:=by omega
  have ho:((i0:Int)== -1)=false:=by rw[beq_eq_false_iff_ne];omega
  clear ha hB ht h1 hw hF hu hf0 hp0;go_enter func151,ntmps151
  go_wp2_with (first
   |(go_at_call 190;refine HI.out.mono ?_;rintro e w2 ⟨rfl,V⟩)
   |go_in)
  go_loopw [5,6] (fun s5 s6 wr=>∃(i j:Nat) (G:aI),i<j/\j<=n/\s5=(iZ i)/\s6=(iZ j)/\Hid (CR w b n L (fun x=> !P x) cs.length i j G wr)) (fun _ s6 _=>n-(intOf s6).toNat)
  case atStart=>exact⟨i0,i0+1,cs,by omega,by omega,rfl,by simp,(HD.out.below V:CR _ _ _ _ _ _ _ _ _ _)⟩
  case round=>
   obtain⟨i,j,G,he,xa,rfl,rfl,I⟩:=hrel
   by_cases hf:j<n
   ·have hm:(j:Int)<(n:Int):=by omega
    have c0:=I.out.cell (by omega) 0 (by omega);have c1:=I.out.cell (by omega) 1 (by omega);have c2:=I.out.cell (by omega) 2 (by omega);have c3:=I.out.cell (by omega) 3 (by omega);have c4:=I.out.cell (by omega) 4 (by omega);have c5:=I.out.cell (by omega) 5 (by omega);have c6:=I.out.cell (by omega) 6 (by omega);have c7:=I.out.cell (by omega) 7 (by omega);have c8:=I.out.cell (by omega) 8 (by omega);have c9:=I.out.cell (by omega) 9 (by omega);obtain⟨W3,K⟩:∃W3,W3=wr.alloc (.cells (bZ (L.getD j eG).1 (lu (L.getD j eG))).toArray 65):=⟨_,rfl⟩
    have h0:aD wr W3:=by rw[K];exact(tL _ wr).alloc (fB _) _
    have h7:aA W3 wr.heap.size 65 (bZ (L.getD j eG).1 (lu (L.getD j eG))):=by rw[K];exact aA.new wr 65 _
    have hc:=HW.out j (by omega) W3 (I.out.gr.andThen (fF h0) (fun j Z=>by cases Z));have h8:=au h0;have H1:Hid (∀v∈bZ (L.getD j eG).1 (lu (L.getD j eG)),v.oneCell'=true):=CU _ _ rfl;cases hp:P (L.getD j eG)
    ·rw[hp]at hc
     have HK:Hid (∀z,aA z b 65 (jr (i*10) (bZ (L.getD j eG).1 (lu (L.getD j eG))) G)->w.grownBy z (some b)->CR w b n L (fun x=> !P x) cs.length (i+1) (j+1) (jr (i*10) (bZ (L.getD j eG).1 (lu (L.getD j eG))) G) z):=fun z h2 h3=>I.out.keep h9 hf he (by omega) (by rw[hp];rfl) h2 H1.out h3
     have h6:=I.out.below h0
     have H:∀x,x<10->∃v,G[i*10+x]?=some v:=fun x hx=>⟨_,fA (by rw[I.out.len];omega)⟩
     obtain⟨t0,q0⟩:=H 0 (by omega);obtain⟨t1,q1⟩:=H 1 (by omega);obtain⟨t2,q2⟩:=H 2 (by omega);obtain⟨t3,q3⟩:=H 3 (by omega);obtain⟨t4,q4⟩:=H 4 (by omega);obtain⟨t5,q5⟩:=H 5 (by omega);obtain⟨t6,q6⟩:=H 6 (by omega);obtain⟨t7,q7⟩:=H 7 (by omega);obtain⟨t8,q8⟩:=H 8 (by omega);obtain⟨t9,q9⟩:=H 9 (by omega);have Lc:=au h6.blk;have vH:=au h7;have HG:=au h6.gr
     have xe:(i:Int)<(n:Int):=by omega
     have hr:¬(wr.heap.size=b):=fun e=>by have:=I.out.blk.lt;omega
     have hv:Hid (∀z,aA z b 65 G->∀j',z.cell? (aj b j')=G[j']?):=fun z hz j'=>hz.cell j'
     clear hp H1 h0 h7 h6 H;generalize L.getD j eG=F at c0 c1 c2 c3 c4 c5 c6 c7 c8 c9 hc K HK vH;obtain⟨F,r1,r2,r3⟩:=F;unfold bR at hc;simp only[lu,uj,tT,Ui]at c0 c1 c2 c3 c4 c5 c6 c7 c8 c9 hc K HK vH q0
     go_wp2_with (first
      |(go_at_fn g;rw[<-K];refine hc.mono ?_;rintro e w3 ⟨rfl,h4⟩;have U:=bI h4 Lc.out;have bx:=bI h4 vH.out;have y0:w3.cell? (aj b (i*10))=some t0:=(U.cell _).trans q0;have y1:w3.cell? (aj b (i*10+1))=some t1:=(U.cell _).trans q1;have y2:w3.cell? (aj b (i*10+2))=some t2:=(U.cell _).trans q2;have y3:w3.cell? (aj b (i*10+3))=some t3:=(U.cell _).trans q3;have y4:w3.cell? (aj b (i*10+4))=some t4:=(U.cell _).trans q4;have y5:w3.cell? (aj b (i*10+5))=some t5:=(U.cell _).trans q5;have y6:w3.cell? (aj b (i*10+6))=some t6:=(U.cell _).trans q6;have y7:w3.cell? (aj b (i*10+7))=some t7:=(U.cell _).trans q7;have y8:w3.cell? (aj b (i*10+8))=some t8:=(U.cell _).trans q8;have y9:w3.cell? (aj b (i*10+9))=some t9:=(U.cell _).trans q9;have fz:=U.frozen;have x0:=bx.cell 0;have x1:=bx.cell 1;have x2:=bx.cell 2;have x3:=bx.cell 3;have x4:=bx.cell 4;have x5:=bx.cell 5;have x6:=bx.cell 6;have x7:=bx.cell 7;have x8:=bx.cell 8;have x9:=bx.cell 9;simp only[uj,tT]at x0 x1 x2 x3 x4 x5 x6 x7 x8 x9;replace U:=au U;replace bx:=au bx)
      |go_in)
     have hT:=jD b (bZ F (.slice r1 r2 r3)) (i*10) w3;refine⟨⟨i+1,j+1,_,by omega,by omega,by simp,by simp,(HK.out (kr b (i*10) (bZ F (.slice r1 r2 r3)) w3) (kQ _ _ _ _ U.out) ((HG.out.andThen (fF h4) (fun j Z=>by cases Z)).andThen (row':=some b) ⟨hT.os,hT.tape,hT.output,by rw[hT.size];exact fB _,fun x _ hx=>hT.block x (fun e=>hx (by rw[e]))⟩ (fun j Z=>.inr (by rw[Z]))):CR _ _ _ _ _ _ _ _ _ _)⟩,by simp[intOf];omega⟩
    ·rw[hp]at hc
     have HK:Hid (∀z,aD wr z->CR w b n L (fun x=> !P x) cs.length i (j+1) G z):=fun z h2=>I.out.skip (by omega) (by rw[hp];rfl) (bI h2 I.out.blk) (I.out.gr.andThen (fF h2) (fun j Z=>by cases Z))
     clear hp H1 h7 h0;generalize L.getD j eG=F at c0 c1 c2 c3 c4 c5 c6 c7 c8 c9 hc K;obtain⟨F,r1,r2,r3⟩:=F;unfold bR at hc;simp only[lu,uj,tT,Ui]at c0 c1 c2 c3 c4 c5 c6 c7 c8 c9 hc K
     go_wp2_with (first
      |(go_at_fn g;rw[<-K];refine hc.mono ?_;rintro e w3 ⟨rfl,h4⟩)
      |go_in)
     go_roundw
     case rel=>exact⟨i,j+1,G,by omega,by omega,rfl,by simp,(HK.out _ (h8.out.trans (h4.mono h8.out.size)):CR _ _ _ _ _ _ _ _ _ _)⟩
     case measure=>simp[intOf];omega
   ·obtain rfl:j=n:=by omega
    have hS:=I.out;have h5:(nI gU.cells (j-i)).toList.length=(j-i)*10:=lS.hz _
    have hg:∀ty cc,(Builtin.clear_ #[54] ty #[.slice (some (aj b (i*10))) (j-i) cc]).run prog wr=.ok (.tuple #[]) (put wr b (splice G (i*10) (nI gU.cells (j-i)).toList)):=fun ty cc=>
     dG (P:=prog) (o:=i*10) (n:=j-i) (c:=cc) 54 65 ty _ lS.ht (fun w=>by kernel_rfl) hS.blk (by omega) (by rw[h5,hS.len];omega) (lS.h1 _)
    have ef:L.filter (fun x=> !P x)=(L.take j).filter (fun x=> !P x):=by rw[WA (by omega)]
    have XF:=hS.num;rw[<-ef]at XF
    have HF:Hid (∃O,O=splice G (i*10) (nI gU.cells (j-i)).toList/\aA (put wr b (splice G (i*10) (nI gU.cells (j-i)).toList)) b 65 O/\O.length=cs.length/\O.take (i*10)=l6 (L.filter fun x=> !P x)/\(∀v∈O,v.oneCell'=true)/\w.grownBy (put wr b (splice G (i*10) (nI gU.cells (j-i)).toList)) (some b)):=by
     refine⟨_,rfl,hS.blk.put _,by rw[aN _ _ _ (by rw[h5,hS.len];omega)];exact hS.len,?_,aW hS.one (lS.h1 _),hS.gr.andThen (bC wr b _) (fun j Z=>.inr (by rw[Z]))⟩;rw[dH _ _ _ _ (by rw[h5,hS.len];omega) (fB _),hS.done,ef]
    have HN:=au XF;generalize splice G (i*10) (nI gU.cells (j-i)).toList=X at hg HF;clear ef XF h5 hS
    have k1:(i:Int)<=(j:Int):=by omega
    have k2:(i:Int)<=(c:Int):=by omega
    have k3:(j:Int)<=(c:Int):=by omega
    have k4:i<=j:=by omega
    have k5:i<=c:=by omega
    go_wp2;go_ret;obtain⟨O,_,a1,a2,a3,a4,a5⟩:=HF.out;rw[HN.out];exact⟨O,rfl,a1,a2,a3,a4,a5⟩
end Go.Proofs.YtphbledmopchnaaGreatDoor.Sd
namespace Go.Proofs.YtphbledmopchnaaGreatDoor.Sd
open St Tryz
theorem IW(m n:Nat)(h:m<=n):(Num.bytes m).length<=(Num.bytes n).length:=by
 rw[Num.eH,Num.eH];refine Nat.pow_le_pow_right (by decide) ?_;unfold Num.code
 repeat' split
 all_goals omega
theorem tN(f:Fr)(h:f.kind=4):(aG f).length=1+(Num.bytes f.stream.toNat).length+(Num.bytes f.offset).length+(Num.bytes f.data.size).length+f.data.size:=by
 have e:aX f.kind=[(1,0),(2,0),(3,279),(4,0)]:=by rw[h];rfl
 unfold aG;rw[e];have:f.data.data.toList.length=f.data.size:=rfl;simp only[List.map,qag,List.length_nil,bE,qa0,List.getD_cons_zero,aR,fieldAt,E8,KG];simp;omega
theorem IX{k lo:Nat}{g:Fr}{b:List UInt8}{room:Int}(h:kI (nX k lo) b room=some g):((aG g).length:Int)<=room:=by
 unfold kI at h;split at h
 ·cases h
 ·rename_i hr;have F:=(Option.some.inj h).symm;have H:=tN (nX k lo) rfl;have I:(nX k lo).data.size=0:=rfl;have K:(Num.bytes 0).length=1:=rfl;rw[I,K]at H;obtain⟨r,G⟩:∃r,r=(room-((aG (nX k lo)).length:Int)).toNat:=⟨_,rfl⟩;simp only[<-G]at F;obtain⟨m,U⟩:∃m,m=min (min b.length r) (r-((Num.bytes (min b.length r)).length-1)):=⟨_,rfl⟩;rw[<-U]at F
  have hs:g.data.size=m:=by
   rw[F];show(List.take m b).toArray.size=m;rw[List.size_toArray,sQ];omega
  have O:=tN g (by rw[F];rfl);rw[hs,show g.stream=(nX k lo).stream by rw[F],show g.offset=(nX k lo).offset by rw[F]]at O;have V:=IW m (min b.length r) (by omega);have X:=dQ (min b.length r)
  have Z:m=0->(Num.bytes m).length=1:=fun h=>by rw[h];rfl
  omega
theorem Qj(g:Fr)(x:Bool)(h:g.kind=4):(aG {g with fin:=x}).length=(aG g).length:=by
 exact(tN {g with fin:=x} h).trans (tN g h).symm
def Dn:aP->Prop
 |[]=>True
 |r::t=>r.1<=r.2/\r.2<=aZ/\(∀x∈t,x.2+1<r.1)/\Dn t
theorem Dn.take:∀{l:aP} (n:Nat),Dn l->Dn (l.take n)
 |[],n,h=>by simpa using h
 |_::_,0,_=>trivial
 |r::t,n+1,h=>⟨h.1,h.2.1,fun x F=>h.2.2.1 x (List.mem_of_mem_take F),Dn.take n h.2.2.2⟩
theorem Dn.drop:∀{l:aP} (n:Nat),Dn l->Dn (l.drop n)
 |[],n,h=>by simpa using h
 |_::_,0,h=>h
 |_::t,n+1,h=>Dn.drop (l:=t) n h.2.2.2
theorem Dn.app:∀{l:aP} (r:Nat×Nat),Dn l->r.1<=r.2->r.2<=aZ->(∀x∈l,r.2+1<x.1)->Dn (l++[r])
 |[],r,_,h1,h2,_=>⟨h1,h2,fun x F=>by simp at F,trivial⟩
 |a::t,r,h,h1,h2,h3=>⟨h.1,h.2.1,fun x F=>by
   rcases List.mem_append.1 F with F|F
   ·exact h.2.2.1 x F
   ·rw[qa4.1 F];exact h3 a (by simp),Dn.app r h.2.2.2 h1 h2 fun x F=>h3 x (by simp[F])⟩
theorem Dn.rev:∀{l:aP},Rg.Sorted l->(∀r∈l,r.2<=aZ)->Dn l.reverse
 |[],_,_=>trivial
 |r::t,h,hb=>by
  rw[List.reverse_cons]
  exact Dn.app r (Dn.rev h.2.2 fun x F=>hb x (by simp[F])) h.1 (hb r (by simp)) fun x F=>h.2.1 x (List.mem_reverse.1 F)
theorem Dn.at:∀{l:aP},Dn l->∀i,i<l.length->oG l i=true
 |[],_,_,h=>by simp at h
 |r::t,h,0,_=>by
  unfold oG;simp[h.1,h.2.1]
 |r::t,h,i+1,hi=>by
  have F:=Dn.at h.2.2.2 i (by simpa using hi);unfold oG at F ⊢;simp only[R3,decide_eq_true_eq,Bool.or_eq_true,qa0,Nat.add_sub_cancel]at F ⊢;refine⟨F.1,.inr ?_⟩
  cases i with
  |zero=>
   refine h.2.2.1 _ ?_;rw[mR,fA (by simpa using hi)];exact qae _
  |succ i=>
   rcases F.2 with e|e
   ·cases e
   ·simpa using e
theorem Dn.snd{l:aP}(h:Dn l)(F:l≠[]):mX l=true:=by
 unfold mX;rw[R3];refine⟨List.all_eq_true.2 fun i hi=>h.at i (List.mem_range.1 hi),decide_eq_true ?_⟩
 cases l with
 |nil=>exact absurd rfl F
 |cons a t=>simp
theorem za(av:aP)(room:Int):∀n,cB av room n≠0->((aG (dR (av.take (cB av room n)))).length:Int)<=room
 |0,h=>absurd rfl h
 |n+1,h=>by
  by_cases F:((aG (dR (av.take (n+1)))).length:Int)<=room
  ·have e:cB av room (n+1)=n+1:=by unfold cB;rw[if_pos F]
   rw[e];exact F
  ·have e:cB av room (n+1)=cB av room n:=by rw[cB,if_neg F]
   rw[e]at h ⊢;exact za av room n h
theorem snd_mk(f:Fr)(G:1<=f.kind/\f.kind<=8)(F:f.offset<=aZ/\f.reliable<=aZ/\f.limit<=aZ/\f.id<=aZ/\f.deadline<=aZ)(hs:0<=f.stream/\f.stream<8)(ht:jK f=true):snd f=true:=by
 unfold snd lM;rw[ht,decide_eq_true G,decide_eq_true hs,decide_eq_true F.1,decide_eq_true F.2.1,decide_eq_true F.2.2.1,decide_eq_true F.2.2.2.1,decide_eq_true F.2.2.2.2];rfl
theorem Ql(kind:Int)(k x:Nat)(G:kind=5\/kind=6)(H:k<8)(F:x<=aZ):snd (iT kind k x)=true:=by
 have z:0<=aZ:=qab _
 have hs:0<=(k:Int)/\(k:Int)<8:=by omega
 rcases G with rfl|rfl
 ·exact snd_mk _ (by show(1:Int)<=5/\(5:Int)<=8;decide) ⟨z,z,F,z,z⟩ hs rfl
 ·exact snd_mk _ (by show(1:Int)<=6/\(6:Int)<=8;decide) ⟨z,z,F,z,z⟩ hs rfl
theorem ze{A A':Side}(X:dD A)(hb:∀k,(A.out k).bytes.length<=2048)(av bH:aP)(u:Nat)(room:Int)(f:Fr)(hu:u<48)(hl:Dn av)(G:A.waits av u=true)(h:A.frame av u room=some (f,A',bH)):((aG f).length:Int)<=room/\snd f=true/\Dn bH/\(f.kind=2↔u=0)/\(f.kind=2\/f.kind=4\/f.kind=5\/f.kind=6):=by
 unfold Side.frame at h;unfold Side.waits at G
 by_cases u0:u=0
 ·rw[if_pos u0]at h;split at h
  ·cases h
  ·rename_i I;have e:=Option.some.inj h;have K:dR (av.take (cB av room av.length))=f:=congrArg wz e;have el:av.drop (cB av room av.length)=bH:=congrArg (fun x=>x.2.2) e;subst K el;refine⟨za av room _ I,?_,hl.drop _,⟨fun _=>u0,fun _=>rfl⟩,.inl rfl⟩
   have Z:av.take (cB av room av.length)≠[]:=by
    cases av with
    |nil=>exact absurd rfl I
    |cons a t=>
     intro O;rw[List.take_eq_nil_iff]at O
     rcases O with O|O
     ·exact I O
     ·cases O
   have:=(hl.take (cB av room av.length)).snd Z;unfold snd lM jK dR;simp[this]
 ·rw[if_neg u0]at h G;simp only[R3]at G;replace G:=G.2
  have hq:A.cO=0:=by unfold Side.cO;rw[X.q]
  by_cases u8:u=8
  ·rw[if_pos u8]at h;obtain⟨⟨f1,g1⟩,F,e⟩:=Kt.1 h;have K:f1=f:=congrArg wz e;have el:av=bH:=congrArg (fun x=>x.2.2) e;subst K el;unfold Gn.next at F;split at F
   ·cases F
   ·rename_i hr;have H:iT 5 0 (A.gr.lim A.free)=f1:=congrArg wz (Option.some.inj F);rw[H]at hr;refine⟨by omega,?_,hl,⟨fun x=>?_,fun x=>absurd x u0⟩,.inr (.inr (.inl (by rw[<-H];rfl)))⟩
    ·rw[<-H];exact Ql 5 0 _ (.inl rfl) (by decide) (qah _ _)
    ·rw[<-H]at x;cases x
  ·rw[if_neg u8]at h G
   by_cases u24:u<24
   ·rw[if_pos u24]at h;obtain⟨⟨f1,g1⟩,F,e⟩:=Kt.1 h;have K:f1=f:=congrArg wz e;have el:av=bH:=congrArg (fun x=>x.2.2) e;subst K el;unfold Gn.next at F;split at F
    ·cases F
    ·rename_i hr;have H:iT 6 (u-16) ((A.inn (u-16)).gr.lim (A.inn (u-16)).free)=f1:=congrArg wz (Option.some.inj F);rw[H]at hr;refine⟨by omega,?_,hl,⟨fun x=>?_,fun x=>absurd x u0⟩,.inr (.inr (.inr (by rw[<-H];rfl)))⟩
     ·rw[<-H];exact Ql 6 _ _ (.inr rfl) (by omega) (qah _ _)
     ·rw[<-H]at x;cases x
   ·rw[if_neg u24]at h G
    by_cases u32:u<32
    ·rw[if_pos u32]at G;unfold Nt.waits at G;rw[(X.wr _).given]at G;cases G
    ·rw[if_neg u32]at h G
     by_cases V:u=32
     ·rw[if_pos V]at G;rw[X.q]at G;simp at G
     ·rw[if_neg V]at h G;obtain⟨⟨f1,o1⟩,F,e⟩:=Kt.1 h;have K:f1=f:=congrArg wz e;have el:av=bH:=congrArg (fun x=>x.2.2) e;subst K el;obtain⟨n1,n2,n3,_⟩:=wX (X.wr _) G F
      have h0:o1.bytes.length<=2048:=by
       have:=(wX (X.wr _) G F).2.2.2.2.2.2.2.1;rw[this];exact hb _
      refine⟨?_,?_,hl,⟨fun x=>?_,fun x=>absurd x u0⟩,.inr (.inl n1)⟩
      ·unfold Ot.next at F;simp only at F;split at F
       ·cases F
       ·rename_i g U;split at F
        ·cases F
        ·have H:=congrArg wz (Option.some.inj F);simp only at H;rw[<-H,Qj _ _ (by obtain⟨n,_,I⟩:=sI U;rw[I];rfl)];exact IX U
      ·obtain⟨g,U,hs⟩:∃g:Fr,f1=g/\g.reliable=0/\g.limit=0/\g.id=0/\g.deadline=0:=by
        unfold Ot.next at F;simp only at F;split at F
        ·cases F
        ·rename_i g U;split at F
         ·cases F
         ·have H:=congrArg wz (Option.some.inj F);simp only at H;obtain⟨n,_,I⟩:=sI U;exact⟨_,H.symm,by rw[I];rfl,by rw[I];rfl,by rw[I];rfl,by rw[I];rfl⟩
       subst U;have b1:=n3.b;have b2:aJ f1=f1.offset+f1.data.size:=rfl;have z:0<=aZ:=qab _
       have hM:2048<=aZ:=by decide
       refine snd_mk f1 (by rw[n1];decide) ⟨by omega,by rw[hs.1];exact z,by rw[hs.2.1];exact z,by rw[hs.2.2.1];exact z,by rw[hs.2.2.2];exact z⟩ (by rw[n2];omega) ?_;unfold jK;rw[n1,if_neg (by decide),if_neg (by decide),if_pos rfl];exact decide_eq_true (by omega)
      ·rw[n1]at x;cases x
end Go.Proofs.YtphbledmopchnaaGreatDoor.Sd
namespace Go.Proofs.YtphbledmopchnaaGreatDoor.Sd
open Go.RowKit Go.Lib Mm Tryz
def QV(S k:Nat)(kd:Int):Value:=
 if kd=4 then .iface 282 (ay S (4+27*k))else if kd=3 then .iface 335 (ay S (6+27*k))else if kd=6 then .iface 336 (ay S (18+27*k))else .iface 336 (ay S 221)
theorem E_(S o:Nat)(w:World):Calls prog 242 #[ay S o] w fun e w'=>e=.returned (ay S o)/\w'=w:=by
 go_enter func242,ntmps242;go_wp2;go_ret;exact⟨rfl,rfl⟩
theorem vw(S k:Nat)(U:k<8)(f:Fr)(hs:f.stream=(k:Int))(w:World):
  Calls prog 198 #[ay S 0,bR f nZ] w fun e w'=>e=.returned (QV S k f.kind)/\aD w w':=by
 unfold bR;rw[hs];clear hs;generalize f.kind=kd;generalize f.offset=f2;generalize f.reliable=f3;generalize f.limit=f4;generalize f.fin=f5;generalize f.id=f6;generalize f.deadline=f7;generalize f.data=f8;obtain⟨W,F⟩:∃W,W=w.alloc (.cells #[iZ kd,iZ k,uZ f2,uZ f3,uZ f4,.bool f5,uZ f6,uZ f7,.string f8,nZ] 65):=⟨_,rfl⟩
 have hb:aD w W:=by rw[F];exact(tL _ w).alloc (fB _) _
 have G:Hid (∀q,aD w (W.drewN q)):=fun q=>⟨hb.os,hb.tape,hb.output,hb.size,hb.block⟩
 have k1:W.cell? (aj w.heap.size 1)=some (iZ k):=by rw[F];exact(aA.new w 65 [iZ kd,iZ k,uZ f2,uZ f3,uZ f4,.bool f5,uZ f6,uZ f7,.string f8,nZ]).cell 1
 have O:(k:Int)<8:=by omega
 by_cases I:kd=4
 ·subst I;go_enter func198,ntmps198
  go_wp2_with fail
  rw[<-F];clear F
  go_quiet (fail)
  go_wp2;go_ret;refine⟨?_,G.out _⟩;show Am (.iface 282 (ay S (4+k*27)))=.returned (QV S k 4);unfold QV;rw[if_pos rfl,qa5]
 ·by_cases H:kd=3
  ·subst H;go_enter func198,ntmps198
   go_wp2_with fail
   rw[<-F];clear F
   go_quiet ((go_at_call 241;exact Av (AZ _ _ _)))
   go_wp2;go_ret;refine⟨?_,G.out _⟩;show Am (.iface 335 (ay S (4+k*27+2)))=.returned (QV S k 3);unfold QV;rw[if_neg (by decide),if_pos rfl,qa5,show 4+27*k+2=6+27*k by omega]
  ·by_cases K:kd=6
   ·subst K;go_enter func198,ntmps198
    go_wp2_with fail
    rw[<-F];clear F
    go_quiet ((go_at_call 242;exact Av (E_ _ _ _)))
    go_wp2;go_ret;refine⟨?_,G.out _⟩;show Am (.iface 336 (ay S (4+k*27+14)))=.returned (QV S k 6);unfold QV;rw[if_neg (by decide),if_neg (by decide),if_pos rfl,qa5,show 4+27*k+14=18+27*k by omega]
   ·go_enter func198,ntmps198;go_wp2;go_ret;refine⟨?_,by rw[<-F];exact hb⟩;show Am (.iface 336 (ay S 221))=.returned (QV S k kd);unfold QV;rw[if_neg I,if_neg H,if_neg K]
def Vm(S k:Nat):aI:=[.iface 282 (ay S (4+k*27)),.iface 335 (ay S (4+k*27+2)),.iface 336 (ay S (4+k*27+14))]
def Tk(S:Nat):Nat->aI
 |0=>[.iface 336 (ay S 221)]
 |k+1=>Tk S k++Vm S k
theorem xg(S:Nat):∀k,(Tk S k).length=1+3*k
 |0=>rfl
 |k+1=>by show(Tk S k++Vm S k).length=_;rw[E8,xg S k];simp[Vm];omega
theorem Nr(n:Nat):(nI (qam).cells n).toList.length=n:=by simp[nI,qaq]
theorem Ns(n:Nat):∀v∈(nI (qam).cells n).toList,v.oneCell'=true:=by
 intro v F;simp[nI,qaq]at F;obtain⟨i,_,rfl⟩:=F
 have:i % 1=0:=by omega
 rw[this];rfl
theorem qau:DC 291 294 .nilIface 1 16:=⟨by kernel_rfl,by kernel_rfl,fun n=>by rw[Nr];omega,Ns,by omega⟩
theorem Q_(S:Nat)(w:World):
  Calls prog 196 #[ay S 0] w fun e w'=>∃v',e=.returned v'/\bK 294 1 w' v' 25 (Tk S 8)/\YtphbledmopchnaaGreatDoor.Own w.heap.size v'/\aD w w':=by
 obtain⟨O,F⟩:∃O,O=w.alloc (.cells #[.iface 336 (ay S 221)] 294):=⟨_,rfl⟩
 have H0:Hid (bK 294 1 O (aS w.heap.size 1 1) (1+3*0) (Tk S 0)/\YtphbledmopchnaaGreatDoor.Own w.heap.size (aS w.heap.size 1 1)/\aD w O):=by
  rw[F];exact⟨.inr ⟨w.heap.size,1,_,rfl,aA.new w 294 [.iface 336 (ay S 221)],rfl,fB _,by omega,rfl,rfl,fun v U=>by rw[qa4.1 U];rfl⟩,fun k hk=>by simp[Lb]at hk;omega,(tL _ w).alloc (fB _) _⟩
 go_enter func196,ntmps196;go_wp2;rw[<-F];clear F
 go_loopw [3,11] (fun s3 H wr=>∃k:Nat,k<=8/\H=(iZ k)/\Hid (bK 294 1 wr s3 (1+3*k) (Tk S k)/\YtphbledmopchnaaGreatDoor.Own w.heap.size s3/\aD w wr)) (fun _ H _=>8-(intOf H).toNat)
 case atStart=>exact⟨0,by omega,rfl,H0.out⟩
 case round=>
  obtain⟨k,hk,rfl,V⟩:=hrel
  by_cases h5:k<8
  ·have h4:(k:Int)<8:=by omega
   obtain⟨Z,hO,hb⟩:=V.out;obtain⟨W6,I⟩:∃W6,W6=wr.drew.alloc (.cells (Vm S k).toArray 294):=⟨_,rfl⟩
   have G:aD wr W6:=by rw[I];exact(tL _ wr).drew.alloc (fB _) _
   have B6:aA W6 wr.heap.size 294 (Vm S k):=by rw[I];exact aA.new wr.drew 294 _
   have h0:W6.heap.size=wr.heap.size+1:=by rw[I,Ur];rfl
   obtain⟨v',W7,Vn,K,X⟩:=fE qau (Z.of_heap (w':=W6) (fun b hb=>G.block b (Z.lt b hb))) (aj wr.heap.size 0) 3 3 (Vm S k) rfl (by omega) (fun v U=>by simp[Vm]at U;rcases U with rfl|rfl|rfl<;>rfl) (fun j y hy=>by
    have e:(aj wr.heap.size 0).add j=(aj wr.heap.size j):=by rw[Addr.add_lit,qa9]
    rw[e,B6.cell,hy]) (by omega)
   have HF:Hid (bK 294 1 W7 v' (1+3*(k+1)) (Tk S (k+1))/\YtphbledmopchnaaGreatDoor.Own w.heap.size v'/\aD w W7):=
    ⟨by rw[show 1+3*(k+1)=1+3*k+3 by omega];exact K,X.own hO (by have:=hb.size;omega),hb.trans ((G.mono hb.size).trans (X.below hO (by have:=hb.size;omega)))⟩
   have h2:∀args w,(callFunc 241 args).run prog w=.ok (.enter 241 args) w:=enters_of func241 (by kernel_rfl) rfl;have h3:∀args w,(callFunc 242 args).run prog w=.ok (.enter 242 args) w:=enters_of func242 (by kernel_rfl) rfl;unfold Vm at I;subst I;clear Z hO hb G B6 h0 K X V;go_wp2;generalize 4+k*27=o1 at *
   have HN:=fun y=>AZ S o1 y
   have HM:=fun y=>E_ S (o1+14) y
   go_region_held3 (fun _=>True) (trivial) ((first|(refine dB _ (by rfl) _ _ _ _ (by rfl) _ _ (by rfl) (by rfl) _ _ (Vn _) ?_)|(refine rE _ (by rfl) 241 _ _ (by rfl) (ay S o1) (by rfl) h2 (HN _) ?_;rintro e y ⟨rfl,rfl⟩;refine⟨_,rfl,?_⟩)|(refine rE _ (by rfl) 242 _ _ (by rfl) (ay S (o1+14)) (by rfl) h3 (HM _) ?_;rintro e y ⟨rfl,rfl⟩;refine⟨_,rfl,?_⟩)))
   all_goals(
    go_wp2;go_roundw
    case rel=>exact⟨k+1,by omega,by simp,HF.out⟩
    case measure=>simp[intOf];omega)
  ·obtain rfl:k=8:=by omega
   go_wp2;go_ret;exact⟨_,rfl,V.out⟩
