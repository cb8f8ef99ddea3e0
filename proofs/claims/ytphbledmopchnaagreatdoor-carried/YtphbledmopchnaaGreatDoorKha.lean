import Derived.Test.YtphbledmopchnaaGreatDoorKgd
open Go.RowKit.Below renaming refl->mR
open List renaming getD_eq_getElem?_getD->tL,getElem?_eq_getElem->tT,mem_of_getElem?->wz,foldl_append->Bu,take_add_one->CK,length_take->DJ,take_length->Gl
open Nat renaming le_refl->jK,zero_add->Lb
open Prod renaming fst->nI
set_option maxHeartbeats 4000000
set_option maxRecDepth 100000
namespace Go.Proofs.YtphbledmopchnaaGreatDoor.Sd
open Go.RowKit Go.Lib Mm Tryz
theorem kQ.push{aI:Own}{s:Nat}{w0:World}{S bw bl bi ab:Nat}{D:Nat->Src}{p:Nat}{own own':Own}{w w':World}{M:Side}{left:List (Nat×Nat)}{Q later:List Nat}{L:List FV}{v v' vl vt:Value}(h:kQ aI s w0 S bw bl bi ab D p own w M left Q later L v vl vt)(u:Nat)(H:PU own s w S bw bl bi ab D u)(hq:vD own' (s+45) D w' p v' (aZ Q u))(K:Kp [s+45,s+45+1] own own' w w'):
  kQ aI s w0 S bw bl bi ab D p own' w' M left (aZ Q u) later L v' vl vt:=by
 have G:Kp (Tb s) own own' w w':=K.mono fun x F=>fB.2 (by simp at F;omega)
 have I:Kp (Tg s) own own' w w':=K.mono fun x F=>jZ.2 (by simp at F;omega)
 exact⟨hq,fun j O=>(Lp.push h.z h.qs u H j O).kp G,fun u H=>(h.ls u H).kp G,h.z.kp G,h.env.kp K (by simp;omega) (by simp) (by simp),h.fr.kp K (by simp),fun x F=>(h.fv x F).kp K (by simp),h.la.kp K (by simp),h.kp.trans I,h.nl⟩
theorem kQ.done{aI:Own}{s:Nat}{w0:World}{S bw bl bi ab:Nat}{D:Nat->Src}{p:Nat}{own:Own}{w:World}{M:Side}{left:List (Nat×Nat)}{Q later:List Nat}{L:List FV}{v vl vt:Value}(h:kQ aI s w0 S bw bl bi ab D p own w M left Q later L v vl vt):kQ aI s w0 S bw bl bi ab D p own w M left Q [] L v vl (.slice none 0 0):=
 ⟨h.hq,h.qs,(fun u F=>by cases F),h.z,h.env,h.fr,h.fv,.inl ⟨rfl,rfl,rfl⟩,h.kp,h.nl⟩
theorem iX:∀(m l:List Nat),(m.foldl aZ l).length=l.length+m.length
 |[],l=>rfl
 |u::t,l=>by show(t.foldl aZ (aZ l u)).length=_;rw[iX t,iW];simp;omega
def yw(aI:Own)(s:Nat)(w0:World)(S bw bl bi ab:Nat)(D:Nat->Src)(p:Nat)(P:Side->List (Nat×Nat)->Prop)(X:Side×List (Nat×Nat)×List Nat×List Fr)(e:Ending)(w':World):Prop:=
 ∃own' v' vl vt L,e=.returned vl/\L.map nI=X.2.2.2/\kQ aI s w0 S bw bl bi ab D p own' w' X.1 X.2.1 X.2.2.1 [] L v' vl vt/\P X.1 X.2.1
theorem PN{aI:Own}{s:Nat}{S bw bl bi ab:Nat}{D:Nat->Src}{p:Nat}{v:Value}(P:Side->List (Nat×Nat)->Prop)(w0:World)(M0:Side)(Aj:List (Nat×Nat))(Q0:List Nat)(rY:Int)(hd:∀u:Nat,(D u).u=(u:Int))(yp:0<s)(h:kQ aI s w0 S bw bl bi ab D p aI w0 M0 Aj Q0 [] [] v (.slice none 0 0) (.slice none 0 0))(hr:0<=rY/\rY<=1000)(hQ:Q0.length<=500)(y0:P M0 Aj)(xp:∀M left,P M left->Wk M/\uw left=true)(xr:∀M left u room f M' left',P M left->u<48->M.waits left u=true->M.frame left u room=some (f,M',left')->P M' left'/\((aB f).length:Int)<=room/\0<(aB f).length/\snd f=true/\iT f):
  Calls prog 156 #[.pointer (some ⟨p,0,none⟩),.int .i64 rY] w0 fun e w'=>yw aI s w0 S bw bl bi ab D p P (fill M0 Aj Q0 rY) e w':=by
 obtain⟨X,hX⟩:∃X,X=fill M0 Aj Q0 rY:=⟨_,rfl⟩;rw[<-hX];have HX:Hid (cB (Q0.length+rY.toNat+1) M0 Aj Q0 [] rY []=X):=hX.symm;have HH:=hid h;have qB:=hid xp;have pJ:=hid xr;have HD:=hid hd;have y7:=hid y0;have HR:=hid hr;clear hX h xp xr hd y0 hr;go_enter func156,ntmps156;go_wp2
 go_loopg [1,5,6] (Q0.length+rY.toNat) (fun kx s1 s5 s6 wr=>∃(room:Int) (own:Own) (M:Side) (left:List (Nat×Nat)) (Q later:List Nat) (L:List FV) (v':Value),s1=.int .i64 room/\
  Hid (kQ aI s w0 S bw bl bi ab D p own wr M left Q later L v' s5 s6/\P M left/\0<=room/\room<=1000/\Q.length+later.length<=500/\L.length<=1000-room.toNat/\∃n,Q.length+room.toNat<n/\cB n M left Q later room (L.map nI)=X)/\Hid (Q.length+room.toNat<=kx))
 case atStart=>exact⟨rY,aI,M0,Aj,Q0,[],[],v,rfl,(⟨HH.out,y7.out,HR.out.1,HR.out.2,by simpa using hQ,by simp,_,Nat.lt_succ_self _,HX.out⟩:_/\_),jK _⟩
 case round=>
  obtain⟨room,own,M,left,Q,later,L,v',rfl,HF,HK⟩:=hrel;obtain⟨FsQ,Rm,hj,hm,Ak,VA,n,hf,rZ⟩:=HF.out
  cases Q with
  |nil=>
   obtain⟨qa,qc,rfl,_,_⟩:=FsQ.hq.sr.shape;have x0:wr.cell? ⟨p,0,none⟩=some (.slice qa 0 qc):=FsQ.hq.pb.cell 0;have HL:=hid (vM qa 0 qc wr)
   have hc:(M,left,later.foldl aZ [],L.map nI)=X:=by
    rw[<-rZ]
    cases n with
    |zero=>omega
    |succ n=>rfl
   obtain⟨la,lc,rfl,_,_⟩:=FsQ.la.shape;have MS:=hid FsQ;have m_:=hid hc
   have ye:later.length<=500:=by omega
   clear FsQ hc
   go_wp2_with (first
    |(go_at_call 208;refine HL.out.mono ?_;rintro e w' ⟨rfl,rfl⟩)
    |go_in)
   go_loopw [57] (fun hn xm=>∃k:Nat,k<=later.length/\hn=.int .i64 k/\Hid (∃aL v2,kQ aI s w0 S bw bl bi ab D p aL xm M left ((later.take k).foldl aZ []) later L v2 u5 (.slice la later.length lc))) (fun hn _=>later.length-(intOf hn).toNat)
   case atStart=>exact⟨0,Nat.zero_le _,rfl,own,_,MS.out⟩
   case round=>
    obtain⟨k,hk,rfl,HI⟩:=hrel
    by_cases xj:k<later.length
    ·have xz:(k:Int)<(later.length:Int):=by omega
     obtain⟨aL,v2,F2⟩:=HI.out;obtain⟨u,hu⟩:∃u,u=later.getD k 0:=⟨_,rfl⟩
     have eu:later[k]?=some u:=by rw[hu,tL,tT xj];rfl
     obtain⟨q0,q1,q2,q3⟩:=jS D later k u eu;obtain⟨gg,e1,_,_,c0,_⟩:=F2.la.cell _ _ q0;subst e1;obtain⟨g1,e1,_,_,c1,_⟩:=F2.la.cell _ _ q1;cases e1;obtain⟨g1,e1,_,_,c2,_⟩:=F2.la.cell _ _ q2;cases e1;obtain⟨g1,e1,_,_,c3,_⟩:=F2.la.cell _ _ q3;cases e1;obtain⟨W3,F⟩:∃W3,W3=wr.alloc (.cells #[.int .i64 (D u).u,.func (D u).f1 (D u).p1 (D u).k1,.func (D u).f2 (D u).p2 (D u).k2,.bool (D u).y] 304):=⟨_,rfl⟩
     have h8:Below wr.heap.size wr W3:=by rw[F];exact(mR _ wr).alloc (jK _) _
     have F3:=F2.new (Kp.below h8)
     have Ak:((later.take k).foldl aZ []).length<1000:=by rw[iX,DJ];omega
     have HA:=hid (vO aL (s+45) D HD.out W3 p v2 _ u Ak F3.hq);have x5:=hid F3;have HU:Hid (PU aL s W3 S bw bl bi ab D u):=F3.ls u (wz eu)
     have HT:Hid ((later.take (k+1)).foldl aZ []=aZ ((later.take k).foldl aZ []) u):=by
      rw[CK,eu,Bu];rfl
     generalize ((later.take k).foldl aZ [])=QK at HA x5 HT Ak;generalize (D u).u=d0 at c0 F HA;generalize (D u).f1=d1 at c1 F HA;generalize (D u).p1=d2 at c1 F HA;generalize (D u).k1=d3 at c1 F HA;generalize (D u).f2=d4 at c2 F HA;generalize (D u).p2=d5 at c2 F HA;generalize (D u).k2=d6 at c2 F HA;generalize (D u).y=d7 at c3 F HA;clear F2 F3 q0 q1 q2 q3 eu hu h8 HI
     go_wp2_with (first
      |(go_at_call 199;rw[<-F];refine HA.out.mono ?_;rintro e w4 ⟨rfl,HQ⟩)
      |go_in)
     go_roundw
     case rel=>
      obtain⟨rT,v4,xl,K4⟩:=HQ.out;exact⟨k+1,by omega,by simp,rT,v4,by rw[HT.out];exact x5.out.push u HU.out xl K4⟩
     case measure=>simp[intOf];omega
    ·obtain rfl:k=later.length:=by omega
     obtain⟨aL,v2,F2⟩:=HI.out;rw[Gl]at F2;have xe:Hid (yw aI s w0 S bw bl bi ab D p P X (.returned u5) wr):=⟨aL,v2,u5,.slice none 0 0,L,rfl,by rw[<-m_.out],by rw[<-m_.out];exact F2.done,by rw[<-m_.out];exact Rm⟩;clear F2 HI;go_wp2;go_ret;exact xe.out
  |cons u Q=>
   obtain⟨g,c,rfl,hp,x0,x1,x2,x3,x4⟩:=FsQ.head;have HL:=hid (vM (some ⟨g,0,none⟩) (Q.length+1) c wr);have he:=FsQ.qs u (by simp);obtain⟨n1,n2,IV,ho,RQ,ym,x9,x8⟩:=he.fn;obtain⟨hv,PO⟩:=qB.out M left Rm;have ey:(D u).y=yields u:=he.1.1;rw[IV]at x2;rw[ho]at x3;rw[ey]at x4;obtain⟨W3,F⟩:∃W3,W3=wr.alloc (.cells #[.int .i64 (D u).u,.func (.func n1) (D u).p1 (D u).k1,.func (.func n2) (D u).p2 (D u).k2,.bool (yields u)] 304):=⟨_,rfl⟩
   have h8:Below wr.heap.size wr W3:=by rw[F];exact(mR _ wr).alloc (jK _) _
   have B7:ak W3 wr.heap.size 304 [.int .i64 (D u).u,.func (.func n1) (D u).p1 (D u).k1,.func (.func n2) (D u).p2 (D u).k2,.bool (yields u)]:=by rw[F];exact ak.new wr 304 _
   have yf:wr.heap.size<W3.heap.size:=by rw[F];simp
   have K3:Kp [] own (loc own wr.heap.size) wr W3:=(qo own wr).trans (Kp.below h8);have F3:=FsQ.new K3
   have h0:Calls prog n1 ((D u).p1++(D u).k1) W3 fun e w'=>e=.returned (.bool (M.waits left u))/\Below W3.heap.size W3 w':=x9 _ W3 M left (K3.mono (by simp)) F3.env hv
   have y4:loc own wr.heap.size wr.heap.size=0:=eT _ _ _ (jK _);obtain⟨m,rfl⟩:∃m,n=m+1:=⟨n-1,by omega⟩;have y9:u<48:=he.2
   have Z8:(0:Int)<((Q.length+1:Nat):Int):=by omega
   cases h7:M.waits left u
   ·rw[h7]at h0
    have U:cB m M left (iQ (u::Q)) later room (L.map nI)=X:=by
     rw[<-rZ]
     conv=>rhs;unfold cB
     simp only[h7];rfl
    have Cg:Hid (∀V,Below W3.heap.size W3 V->Calls prog 209 #[.iface 250 (.pointer (some ⟨p,0,none⟩))] V fun e w'=>DU e/\Hid (∃v2,kQ aI s w0 S bw bl bi ab D p (loc own wr.heap.size) w' M left (iQ (u::Q)) later L v2 u5 u6)):=fun V H=>by
     have F4:=F3.new (Kp.below H);obtain⟨g',c',e',Na⟩:=F4.hq.hp (by simp);refine(DV _ (s+45) D HD.out V p g' c' (u::Q) Q.length rfl (by simp at Ak;omega) Na).mono ?_;rintro e w' ⟨i1,i2,i3⟩;exact⟨i1,_,F4.pop i2.hq i3⟩
    have x7:=hid U;have HB:=hid (And.intro Rm (And.intro hj (And.intro hm (And.intro Ak (And.intro VA hf)))));generalize (D u).u=d0 at x1 F B7;generalize (D u).p1=d2 at x2 F B7 h0;generalize (D u).k1=d3 at x2 F B7 h0;generalize (D u).p2=d5 at x3 F B7;generalize (D u).k2=d6 at x3 F B7;clear FsQ F3 K3 Rm hj hm Ak VA hf rZ he x9 x8 U HF hp h7 hv PO ey IV ho h8
    go_wp2_with (first
     |(go_at_call 208;refine HL.out.mono ?_;rintro e w' ⟨rfl,rfl⟩)
     |(go_at_fn n1;rw[<-F];refine h0.mono ?_;rintro e V ⟨rfl,H⟩)
     |(go_at_call 209;refine(Cg.out V H).mono ?_;rintro e w4 ⟨⟨vv,rfl⟩,y6⟩)
     |go_in)
    go_roundg (Q.length+room.toNat)
    case measure=>have:=HK.out;simp at this;omega
    case rel=>
     obtain⟨h1,h2,h3,h4,h5,h6⟩:=HB.out;obtain⟨v2,F5⟩:=y6.out
     have e1:(iQ (u::Q)).length=Q.length:=by rw[yt];simp
     have xf:(u::Q).length=Q.length+1:=rfl;exact⟨room,_,M,left,iQ (u::Q),later,L,v2,rfl,(⟨F5,h1,h2,h3,by omega,h5,m,by omega,x7.out⟩:_/\_),(by rw[e1];exact jK _:(iQ (u::Q)).length+room.toNat<=Q.length+room.toNat)⟩
   ·rw[h7]at h0
    have hg:∀V,Below W3.heap.size W3 V->Calls prog n2 ((D u).p2.push (.int .i64 room)++(D u).k2) V fun e w'=>iJ (loc own wr.heap.size) s V S bw bl bi ab M left (M.frame left u room) e w':=fun V H=>
     x8 _ V M left room ((K3.mono (by simp)).trans (Kp.below H)) (F3.env.below H) hv (by show(M.waits left u&&uw left)=true;rw[h7,PO];rfl) (by omega)
    cases ha:M.frame left u room with
    |some r=>
     obtain⟨f,M',left'⟩:=r;rw[ha]at hg;obtain⟨xo,hZ,xt,y1,Yk⟩:=pJ.out M left u room f M' left' Rm y9 h7 ha
     have U:cB m M' left' (u::Q) later (room-((aB f).length:Int)) (L.map nI++[f])=X:=by
      rw[<-rZ]
      conv=>rhs;unfold cB
      simp only[h7,if_true,ha]
     have zm:Hid (∀V,Below W3.heap.size W3 V->Calls prog n2 ((D u).p2.push (.int .i64 room)++(D u).k2) V fun e w'=>∃G z2 z3 z4 O,e=.returned (.tuple #[bJ G (.slice z2 z3 z4),.bool true])/\Hid (kQ aI s w0 S bw bl bi ab D p O w' M' left' (u::Q) later L (.slice (some ⟨g,0,none⟩) (Q.length+1) c) u5 u6/\MO O s w' (G,z2,z3,z4)/\G=f)):=fun V H=>by
      refine(hg V H).mono ?_;rintro e w' ⟨x,b,O,rfl,hb,K5,E5,hx⟩;have xi:b=true:=hb;subst xi;obtain⟨q1,q2⟩:=hx _ rfl;exact⟨x.1,x.2.1,x.2.2.1,x.2.2.2,O,rfl,(F3.new (Kp.below H)).nxt K5 E5,q2,q1⟩
     have yx:Hid (∀I G z2 z3 z4 O,(kQ aI s w0 S bw bl bi ab D p O I M' left' (u::Q) later L (.slice (some ⟨g,0,none⟩) (Q.length+1) c) u5 u6/\MO O s I (G,z2,z3,z4)/\G=f)->∃a6 c6 w6,(∀ty,(Builtin.append_ #[54,54] ty #[u5,.slice (some ⟨I.heap.size+1,0,none⟩) 1 1]).run prog ((I.alloc (.cells (bX G (.slice z2 z3 z4)).toArray 65)).alloc (.cells (bX G (.slice z2 z3 z4)).toArray 65))=.ok (.slice a6 (L.length+1) c6) w6)/\ak w6 I.heap.size 65 (bX G (.slice z2 z3 z4))/\
       Calls prog 210 #[bJ G (.slice z2 z3 z4)] w6 fun e w'=>e=.returned (.int .i64 ((aB f).length:Int))/\Hid (∃bR x,x.1=f/\kQ aI s w0 S bw bl bi ab D p bR w' M' left' (u::Q) later (L++[x]) (.slice (some ⟨g,0,none⟩) (Q.length+1) c) (.slice a6 (L.length+1) c6) u6)):=by
      rintro I G z2 z3 z4 O ⟨F5,xy,rfl⟩;obtain⟨W5,qD⟩:∃W5,W5=(I.alloc (.cells (bX G (.slice z2 z3 z4)).toArray 65)).alloc (.cells (bX G (.slice z2 z3 z4)).toArray 65):=⟨_,rfl⟩
      have h9:Below I.heap.size I W5:=by rw[qD];exact((mR _ I).alloc (jK _) _).alloc (by simp) _
      have b8:ak W5 I.heap.size 65 (bX G (.slice z2 z3 z4)):=by rw[qD];exact(ak.new I 65 _).alloc _
      have b9:ak W5 (I.heap.size+1) 65 (bX G (.slice z2 z3 z4)):=by
       rw[qD];have:=ak.new (I.alloc (.cells (bX G (.slice z2 z3 z4)).toArray 65)) 65 (bX G (.slice z2 z3 z4));rwa[World.size_alloc]at this
      have yq:I.heap.size<W5.heap.size:=by rw[qD];simp;omega
      have K5:Kp [] O (loc O I.heap.size) I W5:=(qo O I).trans (Kp.below h9);have F6:=F5.new K5;have Yl:=xy.kp K5 (by simp)
      obtain⟨v',w6,bR,run,hG,K6⟩:=bU A9 F6.fr ⟨I.heap.size+1,0,none⟩ 1 1 (bX G (.slice z2 z3 z4)) rfl (I_ _ _ rfl) (fun j y hy=>by
       have e:(⟨I.heap.size+1,0,none⟩:Addr).add j=⟨I.heap.size+1,j,none⟩:=by rw[Addr.add_lit,Lb]
       rw[e,b9.cell,hy]) (by omega)
      obtain⟨a6,c6,rfl,_,_⟩:=hG.shape;rw[qD]at run;have F7:=F6.app (G,z2,z3,z4) Yl K6 hG;have yk:z3=G.ranges.length:=xy.len;have WW:=Yl.kp K6 (by simp);refine⟨a6,c6,w6,run,aK b8 K6 (by rw[eT _ _ _ (jK _)];simp),?_⟩;have hsz:=qW G z2 z4 w6 ⟨y1,Yk,WW.rng,WW.cap,fun y hy=>(WW.blk y hy).1,by omega⟩;rw[<-yk]at hsz;refine hsz.mono ?_;rintro e w' ⟨rfl,ya⟩;exact⟨rfl,bR,(G,z2,z3,z4),rfl,F7.new (Kp.below ya)⟩
     have x7:=hid U;have HB:=hid (And.intro xo (And.intro hj (And.intro hm (And.intro Ak (And.intro VA hf)))));generalize (aB f).length=Z at *
     have yr:IntKind.i64.wrap (room-(Z:Int))=room-(Z:Int):=by rw[IntKind.wrap_i64];omega
     have xv:Hid ((Z:Int)<=room/\0<Z):=⟨hZ,xt⟩;unfold bJ at zm yx;unfold bX at yx;generalize (D u).u=d0 at x1 F B7;generalize (D u).p1=d2 at x2 F B7 h0;generalize (D u).k1=d3 at x2 F B7 h0;generalize (D u).p2=d5 at x3 F B7 zm;generalize (D u).k2=d6 at x3 F B7 zm;clear FsQ F3 K3 Rm hj hm Ak VA hf rZ he x9 x8 U HF hp h7 hv PO ey IV ho h8 hg ha xo hZ xt y1 Yk
     go_wp2_with (first
      |(go_at_call 208;refine HL.out.mono ?_;rintro e w' ⟨rfl,PS⟩;replace PS:=PS.symm;subst PS)
      |(go_at_fn n1;rw[<-F];refine h0.mono ?_;rintro e V ⟨rfl,H⟩;have y2:V.cell? ⟨wr.heap.size,2,none⟩=some (.func (.func n2) d5 d6):=(bV H B7).cell 2)
      |(go_at_fn n2;refine(zm.out V H).mono ?_;rintro e I ⟨G,z2,z3,z4,O,rfl,x6⟩;obtain⟨a6,c6,w6,PV,b6,Te⟩:=yx.out I G z2 z3 z4 O x6.out;obtain⟨t0,t1,t2,t3,t4,t5,t6,t7,t8,t9,tf⟩:=aA b6;clear b6)
      |(at_builtin;refine Lib.wpList_append_run _ rfl _ _ _ _ rfl _ _ rfl rfl _ _ (PV _) ?_)
      |(go_at_call 210;refine Te.mono ?_;rintro e w7 ⟨rfl,xd⟩)
      |go_in)
     go_roundg (Q.length+1+(room-(Z:Int)).toNat)
     case measure=>have:=HK.out;have h2:=xv.out;simp at this;omega
     case rel=>
      obtain⟨h1,h2,h3,h4,h5,h6⟩:=HB.out;obtain⟨bR,x,hx,F8⟩:=xd.out;have hz:=xv.out;have xf:(u::Q).length=Q.length+1:=rfl;exact⟨room-(Z:Int),bR,M',left',u::Q,later,L++[x],_,rfl,(⟨F8,h1,by omega,by omega,by omega,by simp;omega,m,by omega,by rw[List.map_append];simp only[List.map_cons,List.map_nil,hx];exact x7.out⟩:_/\_),(jK _:(u::Q).length+(room-(Z:Int)).toNat<=Q.length+1+(room-(Z:Int)).toNat)⟩
    |none=>
     rw[ha]at hg
     have zm:Hid (∀V,Below W3.heap.size W3 V->Calls prog n2 ((D u).p2.push (.int .i64 room)++(D u).k2) V fun e w'=>∃G z2 z3 z4 O,e=.returned (.tuple #[bJ G (.slice z2 z3 z4),.bool false])/\ak w' wr.heap.size 304 [.int .i64 (D u).u,.func (.func n1) (D u).p1 (D u).k1,.func (.func n2) (D u).p2 (D u).k2,.bool (yields u)]/\Hid (kQ aI s w0 S bw bl bi ab D p O w' M left (u::Q) later L (.slice (some ⟨g,0,none⟩) (Q.length+1) c) u5 u6/\O wr.heap.size=0)):=fun V H=>by
      refine(hg V H).mono ?_;rintro e w' ⟨x,b,O,rfl,hb,K5,E5,hx⟩;have xi:b=false:=hb;subst xi;refine⟨x.1,x.2.1,x.2.2.1,x.2.2.2,O,rfl,aK (bV H B7) K5 (by rw[y4];exact fun e=>by have:=qm.1 e;omega),(F3.new (Kp.below H)).nxt K5 E5,by rw[K5.ext _ (Nat.lt_of_lt_of_le yf H.size),y4]⟩
     have WX:[.int .i64 (D u).u,.func (.func n1) (D u).p1 (D u).k1,.func (.func n2) (D u).p2 (D u).k2,.bool (yields u)]=fI (D u):=by simp only[fI,IV,ho,ey]
     cases hw:yields u
     ·have hc:(M,left,later.foldl aZ (u::Q),L.map nI)=X:=by
       rw[<-rZ]
       conv=>rhs;unfold cB
       simp only[h7,if_true,ha,hw];rfl
      have Zr:Hid (∀I O o,(kQ aI s w0 S bw bl bi ab D p O I M left (u::Q) later L (.slice (some ⟨g,0,none⟩) (Q.length+1) c) u5 u6/\O wr.heap.size=0)->kQ aI s w0 S bw bl bi ab D p O (I.alloc o) M left (u::Q) later L (.slice (some ⟨g,0,none⟩) (Q.length+1) c) u5 u6):=fun I O o h=>h.1.new (Kp.below ((mR _ I).alloc (jK _) _))
      rw[hw]at F B7 x4 zm;unfold bJ at zm;obtain⟨la,lc,yi,_,_⟩:=FsQ.la.shape;subst yi;have m_:=hid hc
      have ye:later.length<=500:=by omega
      have yn:Q.length+1+later.length<=500:=by simp at Ak;omega
      have y8:=hid Rm;generalize (D u).u=d0 at x1 F B7 zm;generalize (D u).p1=d2 at x2 F B7 h0 zm;generalize (D u).k1=d3 at x2 F B7 h0 zm;generalize (D u).p2=d5 at x3 F B7 zm;generalize (D u).k2=d6 at x3 F B7 zm;clear FsQ F3 K3 Rm hj hm Ak VA hf rZ he x9 x8 hc HF hp h7 hv PO ey IV ho h8 hg ha hw WX
      go_wp2_with (first
       |(go_at_call 208;refine HL.out.mono ?_;rintro e w' ⟨rfl,PS⟩;replace PS:=PS.symm;subst PS)
       |(go_at_fn n1;rw[<-F];refine h0.mono ?_;rintro e V ⟨rfl,H⟩;have y2:V.cell? ⟨wr.heap.size,2,none⟩=some (.func (.func n2) d5 d6):=(bV H B7).cell 2)
       |(go_at_fn n2;refine(zm.out V H).mono ?_;rintro e I ⟨G,z2,z3,z4,O,rfl,h9,x6⟩;have y3:(I.alloc (.cells #[.int .i64 G.kind,.int .i64 G.stream,.int .u64 G.offset,.int .u64 G.reliable,.int .u64 G.limit,.bool G.fin,.int .u64 G.id,.int .u64 G.deadline,.string G.data,.slice z2 z3 z4] 65)).cell? ⟨wr.heap.size,3,none⟩=some (.bool false):=(h9.alloc _).cell 3;have MS:=hid (Zr.out I O (.cells #[.int .i64 G.kind,.int .i64 G.stream,.int .u64 G.offset,.int .u64 G.reliable,.int .u64 G.limit,.bool G.fin,.int .u64 G.id,.int .u64 G.deadline,.string G.data,.slice z2 z3 z4] 65) x6.out);clear h9)
       |go_in)
      go_loopw [57] (fun hn xm=>∃k:Nat,k<=later.length/\hn=.int .i64 k/\Hid (∃aL v2,kQ aI s w0 S bw bl bi ab D p aL xm M left ((later.take k).foldl aZ (u::Q)) later L v2 u5 (.slice la later.length lc))) (fun hn _=>later.length-(intOf hn).toNat)
      case atStart=>exact⟨0,Nat.zero_le _,rfl,O,_,MS.out⟩
      case round=>
       obtain⟨k,hk,rfl,HI⟩:=hrel
       by_cases xj:k<later.length
       ·have xz:(k:Int)<(later.length:Int):=by omega
        obtain⟨aL,v2,F2⟩:=HI.out;obtain⟨uu,hu⟩:∃uu,uu=later.getD k 0:=⟨_,rfl⟩
        have eu:later[k]?=some uu:=by rw[hu,tL,tT xj];rfl
        obtain⟨q0,q1,q2,q3⟩:=jS D later k uu eu;obtain⟨gg,e1,_,_,c0,_⟩:=F2.la.cell _ _ q0;subst e1;obtain⟨g1,e1,_,_,c1,_⟩:=F2.la.cell _ _ q1;cases e1;obtain⟨g1,e1,_,_,c2,_⟩:=F2.la.cell _ _ q2;cases e1;obtain⟨g1,e1,_,_,c3,_⟩:=F2.la.cell _ _ q3;cases e1;obtain⟨W3,F⟩:∃W3,W3=wr.alloc (.cells #[.int .i64 (D uu).u,.func (D uu).f1 (D uu).p1 (D uu).k1,.func (D uu).f2 (D uu).p2 (D uu).k2,.bool (D uu).y] 304):=⟨_,rfl⟩
        have h8:Below wr.heap.size wr W3:=by rw[F];exact(mR _ wr).alloc (jK _) _
        have F3:=F2.new (Kp.below h8)
        have Ak:((later.take k).foldl aZ (u::Q)).length<1000:=by rw[iX,DJ];have xf:(u::Q).length=Q.length+1:=rfl;omega
        have HA:=hid (vO aL (s+45) D HD.out W3 p v2 _ uu Ak F3.hq);have x5:=hid F3;have HU:Hid (PU aL s W3 S bw bl bi ab D uu):=F3.ls uu (wz eu)
        have HT:Hid ((later.take (k+1)).foldl aZ (u::Q)=aZ ((later.take k).foldl aZ (u::Q)) uu):=by
         rw[CK,eu,Bu];rfl
        generalize ((later.take k).foldl aZ (u::Q))=QK at HA x5 HT Ak;generalize (D uu).u=d0 at c0 F HA;generalize (D uu).f1=d1 at c1 F HA;generalize (D uu).p1=d2 at c1 F HA;generalize (D uu).k1=d3 at c1 F HA;generalize (D uu).f2=d4 at c2 F HA;generalize (D uu).p2=d5 at c2 F HA;generalize (D uu).k2=d6 at c2 F HA;generalize (D uu).y=d7 at c3 F HA;clear F2 F3 q0 q1 q2 q3 eu hu h8 HI
        go_wp2_with (first
         |(go_at_call 199;rw[<-F];refine HA.out.mono ?_;rintro e w4 ⟨rfl,HQ⟩)
         |go_in)
        go_roundw
        case rel=>
         obtain⟨rT,v4,xl,K4⟩:=HQ.out;exact⟨k+1,by omega,by simp,rT,v4,by rw[HT.out];exact x5.out.push uu HU.out xl K4⟩
        case measure=>simp[intOf];omega
       ·obtain rfl:k=later.length:=by omega
        obtain⟨aL,v2,F2⟩:=HI.out;rw[Gl]at F2;have xe:Hid (yw aI s w0 S bw bl bi ab D p P X (.returned u5) wr):=⟨aL,v2,u5,.slice none 0 0,L,rfl,by rw[<-m_.out],by rw[<-m_.out];exact F2.done,by rw[<-m_.out];exact y8.out⟩;clear F2 HI;go_wp2;go_ret;exact xe.out
     ·have U:cB m M left (iQ (u::Q)) (later++[u]) room (L.map nI)=X:=by
       rw[<-rZ]
       conv=>rhs;unfold cB
       simp only[h7,if_true,ha,hw]
      have Cg:Hid (∀I O o,(kQ aI s w0 S bw bl bi ab D p O I M left (u::Q) later L (.slice (some ⟨g,0,none⟩) (Q.length+1) c) u5 u6/\O wr.heap.size=0)->ak I wr.heap.size 304 [.int .i64 (D u).u,.func (.func n1) (D u).p1 (D u).k1,.func (.func n2) (D u).p2 (D u).k2,.bool (yields u)]->Calls prog 209 #[.iface 250 (.pointer (some ⟨p,0,none⟩))] (I.alloc o) fun e w'=>DU e/\ak w' wr.heap.size 304 [.int .i64 (D u).u,.func (.func n1) (D u).p1 (D u).k1,.func (.func n2) (D u).p2 (D u).k2,.bool (yields u)]/\Hid (∃v2,kQ aI s w0 S bw bl bi ab D p O w' M left (iQ (u::Q)) later L v2 u5 u6/\PU O s w' S bw bl bi ab D u)):=by
       rintro I O o ⟨F5,o5⟩ yd;have xx:Below I.heap.size I (I.alloc o):=(mR _ I).alloc (jK _) _;have F6:=F5.new (Kp.below xx);obtain⟨g',c',e',Na⟩:=F6.hq.hp (by simp);refine(DV _ (s+45) D HD.out (I.alloc o) p g' c' (u::Q) Q.length rfl (by simp at Ak;omega) Na).mono ?_;rintro e w' ⟨i1,i2,i3⟩;exact⟨i1,aK (bV xx yd) i3 (by rw[o5];simp),_,F6.pop i2.hq i3,(F6.qs u (by simp)).kp (i3.mono fun x hx=>fB.2 (by simp at hx;omega))⟩
      have yx:Hid (∀w5 O v2,kQ aI s w0 S bw bl bi ab D p O w5 M left (iQ (u::Q)) later L v2 u5 u6->PU O s w5 S bw bl bi ab D u->∃a6 c6 w6,(∀ty,(Builtin.append_ #[300,300] ty #[u6,.slice (some ⟨w5.heap.size,0,none⟩) 1 1]).run prog (w5.alloc (.cells #[.int .i64 (D u).u,.func (.func n1) (D u).p1 (D u).k1,.func (.func n2) (D u).p2 (D u).k2,.bool (yields u)] 304))=.ok (.slice a6 (later.length+1) c6) w6)/\Hid (∃bR,kQ aI s w0 S bw bl bi ab D p bR w6 M left (iQ (u::Q)) (later++[u]) L v2 u5 (.slice a6 (later.length+1) c6))):=by
       intro w5 O v2 F5 Zt;obtain⟨W5,qD⟩:∃W5,W5=w5.alloc (.cells #[.int .i64 (D u).u,.func (.func n1) (D u).p1 (D u).k1,.func (.func n2) (D u).p2 (D u).k2,.bool (yields u)] 304):=⟨_,rfl⟩
       have h9:Below w5.heap.size w5 W5:=by rw[qD];exact(mR _ w5).alloc (jK _) _
       have b9:ak W5 w5.heap.size 304 (fI (D u)):=by rw[qD,<-WX];exact ak.new w5 304 _
       have F6:=F5.new (Kp.below (own:=O) h9)
       obtain⟨v',w6,bR,run,hG,K6⟩:=bU Yf F6.la ⟨w5.heap.size,0,none⟩ 1 1 (fI (D u)) rfl (wZ _) (fun j y hy=>by
        have e:(⟨w5.heap.size,0,none⟩:Addr).add j=⟨w5.heap.size,j,none⟩:=by rw[Addr.add_lit,Lb]
        rw[e,b9.cell,hy]) (by omega)
       obtain⟨a6,c6,rfl,_,_⟩:=hG.shape;rw[qD]at run;exact⟨a6,c6,w6,run,bR,F6.lat u (Zt.kp (Kp.below h9)) K6 hG⟩
      have x7:=hid U;have HB:=hid (And.intro Rm (And.intro hj (And.intro hm (And.intro Ak (And.intro VA hf)))));rw[hw]at F B7 x4 zm Cg yx;unfold bJ at zm;generalize (D u).u=d0 at x1 F B7 zm Cg yx;generalize (D u).p1=d2 at x2 F B7 h0 zm Cg yx;generalize (D u).k1=d3 at x2 F B7 h0 zm Cg yx;generalize (D u).p2=d5 at x3 F B7 zm Cg yx;generalize (D u).k2=d6 at x3 F B7 zm Cg yx;clear FsQ F3 K3 Rm hj hm Ak VA hf rZ he x9 x8 U HF hp h7 hv PO ey IV ho h8 hg ha hw WX
      go_wp2_with (first
       |(go_at_call 208;refine HL.out.mono ?_;rintro e w' ⟨rfl,PS⟩;replace PS:=PS.symm;subst PS)
       |(go_at_fn n1;rw[<-F];refine h0.mono ?_;rintro e V ⟨rfl,H⟩;have y2:V.cell? ⟨wr.heap.size,2,none⟩=some (.func (.func n2) d5 d6):=(bV H B7).cell 2)
       |(go_at_fn n2;refine(zm.out V H).mono ?_;rintro e I ⟨G,z2,z3,z4,O,rfl,h9,x6⟩;have y3:(I.alloc (.cells #[.int .i64 G.kind,.int .i64 G.stream,.int .u64 G.offset,.int .u64 G.reliable,.int .u64 G.limit,.bool G.fin,.int .u64 G.id,.int .u64 G.deadline,.string G.data,.slice z2 z3 z4] 65)).cell? ⟨wr.heap.size,3,none⟩=some (.bool true):=(h9.alloc _).cell 3;have y5:=hid h9;clear h9)
       |(go_at_call 209;refine(Cg.out I O _ x6.out y5.out).mono ?_;rintro e w5 ⟨⟨vv,rfl⟩,xa,xn⟩;have k0:w5.cell? ⟨wr.heap.size,0,none⟩=some (.int .i64 d0):=xa.cell 0;have k1:w5.cell? ⟨wr.heap.size,1,none⟩=some (.func (.func n1) d2 d3):=xa.cell 1;have k2:w5.cell? ⟨wr.heap.size,2,none⟩=some (.func (.func n2) d5 d6):=xa.cell 2;have k3:w5.cell? ⟨wr.heap.size,3,none⟩=some (.bool true):=xa.cell 3;obtain⟨v2,F6,Ym⟩:=xn.out;obtain⟨a6,c6,w6,PV,xd⟩:=yx.out w5 O v2 F6 Ym;clear xa F6 Ym xn)
       |(at_builtin;refine Lib.wpList_append_run _ rfl _ _ _ _ rfl _ _ rfl rfl _ _ (PV _) ?_)
       |go_in)
      go_roundg (Q.length+room.toNat)
      case measure=>have:=HK.out;simp at this;omega
      case rel=>
       obtain⟨h1,h2,h3,h4,h5,h6⟩:=HB.out;obtain⟨bR,F8⟩:=xd.out
       have e1:(iQ (u::Q)).length=Q.length:=by rw[yt];simp
       have xf:(u::Q).length=Q.length+1:=rfl;exact⟨room,bR,M,left,iQ (u::Q),later++[u],L,v2,rfl,(⟨F8,h1,h2,h3,by simp;omega,h5,m,by omega,x7.out⟩:_/\_),(by rw[e1];exact jK _:(iQ (u::Q)).length+room.toNat<=Q.length+room.toNat)⟩
end Go.Proofs.YtphbledmopchnaaGreatDoor.Sd
