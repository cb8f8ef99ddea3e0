import Derived.Test.YtphbledmopchnaaGreatDoorUfe
open Go.RowKit.Below renaming refl->mR,heap_setCell->He
open Bool renaming and_eq_true->sQ
open List renaming getD_eq_getElem?_getD->fA,length_take->nI,mem_append->tT,mem_of_getElem?->uj,mem_singleton->Am,getElem?_eq_getElem->Av,getElem?_take_of_lt->Aw,length_drop->DT,length_append->Kt,foldl_append->KG,take_add_one->Lb,all_eq_true->M4,take_length->R3,mem_range->Ui
open Nat renaming le_refl->fB,lt_of_lt_of_le->tL,succ_pos->WJ,zero_add->YF
open Prod renaming fst->wz
set_option maxHeartbeats 4000000
set_option maxRecDepth 100000
namespace Go.Proofs.YtphbledmopchnaaGreatDoor.Sd
open Go.RowKit Go.Lib Mm Tryz
theorem wO.below{oZ:Own}{t:Nat}{D:Nat->Src}{w w':World}{p:Nat}{v:Value}{Q:List Nat}(h:wO oZ t D w p v Q)(hb:aD w w'):wO oZ t D w' p v Q:=
 ⟨h.op,h.pb.of_heap (hb.block _ h.pb.lt),h.sr.kp (T:=[]) (Kp.below hb) (by simp)⟩
theorem w_(oZ:Own)(t:Nat)(D:Nat->Src)(I:∀u:Nat,(D u).u=(u:Int))(w:World)(p:Nat)(v:Value)(Q:List Nat)(u:Nat)(hl:Q.length<1000)(h:wO oZ t D w p v Q):
  Calls prog 199 #[ay p 0,.agg #[(iZ (D u).u),.func (D u).f1 (D u).p1 (D u).k1,.func (D u).f2 (D u).p2 (D u).k2,.bool (D u).y]] w fun e w'=>e=.returned (.tuple #[])/\Hid (∃aC v',wO aC t D w' p v' (bG Q u)/\Kp [t,t+1] oZ aC w w'):=by
 obtain⟨W,G⟩:∃W,W=w.alloc (.cells (gH (D u)).toArray 304):=⟨_,rfl⟩
 have F:aD w W:=by rw[G];exact(mR _ w).alloc (fB _) _
 have H:Hid (Calls prog 244 #[.iface 250 (ay p 0),.iface 304 (.agg #[(iZ (D u).u),.func (D u).f1 (D u).p1 (D u).k1,.func (D u).f2 (D u).p2 (D u).k2,.bool (D u).y])] W fun e w'=>e=.returned (.tuple #[])/\Hid (∃aC v',wO aC t D w' p v' (bG Q u)/\Kp [t,t+1] oZ aC w w')):=by
  refine(Ml oZ t D I W p v Q u hl (h.below F)).mono ?_;rintro e w' ⟨rfl,aC,v',h1,O⟩;exact⟨rfl,aC,v',h1,(Kp.below F).trans O⟩
 clear I h hl F;unfold gH at G;generalize D u=s at *;go_enter func199,ntmps199
 go_wp2_with fail
 rw[<-G];refine H.out.mono ?_;rintro e y ⟨rfl,K⟩;clear H G
 go_wp2_with fail
 go_end0;exact⟨rfl,K⟩
section
def u_(av:aP):Bool:=(List.range av.length).all (oG av)&&decide (av.length<=100)
theorem UW{av:aP}(h:u_ av=true)(n:Nat)(H:0<n)(I:n<=av.length):mX (av.take n)=true:=by
 unfold u_ at h;rw[sQ]at h;unfold mX;rw[sQ]
 have hl:(av.take n).length=n:=by rw[nI];omega
 refine⟨M4.2 fun i hi=>?_,decide_eq_true (by omega)⟩;rw[hl]at hi;have F:=Ui.1 hi;have:=M4.1 h.1 i (Ui.2 (by omega))
 have g:∀j,j<n->(av.take n).getD j (0,0)=av.getD j (0,0):=fun j G=>by
  rw[fA,fA,Aw G]
 unfold oG at this ⊢;rw[g i F,g (i-1) (by omega)];exact this
theorem Df{w:World}{rb off:Nat}{av:aP}(h:fV w (some (aj rb off)) av)(n:Nat):fV w (some (aj rb off)) (av.take n):=fun j I=>by
 rw[nI]at I;obtain⟨b,o,h1,F,G,H⟩:=h j (by omega)
 have g:(av.take n).getD j (0,0)=av.getD j (0,0):=by rw[fA,fA,Aw (by omega)]
 exact⟨b,o,h1,by rw[g];exact F,by rw[g];exact G,by rw[g];exact H⟩
theorem Qa{w:World}{rb off:Nat}{av:aP}(h:fV w (some (aj rb off)) av)(n:Nat):fV w (some (aj rb (off+n*2))) (av.drop n):=fun j I=>by
 rw[DT]at I;obtain⟨b,o,h1,F,G,H⟩:=h (n+j) (by omega);simp only[Option.some.injEq,Addr.mk.injEq,and_true]at h1;obtain⟨rfl,rfl⟩:=h1
 have g:(av.drop n).getD j (0,0)=av.getD (n+j) (0,0):=by rw[fA,fA,List.getElem?_drop]
 rw[g];refine⟨rb,off+n*2,rfl,?_,?_,H⟩
 ·rw[show off+n*2+j*2=off+(n+j)*2 by omega];exact F
 ·rw[show off+n*2+j*2=off+(n+j)*2 by omega];exact G
theorem Qb{av:aP}(F:u_ av=true){w:World}{rb off:Nat}(H:fV w (some (aj rb off)) av)(hb:rb<w.heap.size)(n:Nat)(I:0<n)(X:n<=av.length):
  Calls prog 210 #[.agg #[iZ 2,iZ 0,uZ 0,uZ 0,uZ 0,.bool false,uZ 0,uZ 0,.string ⟨#[]⟩,.slice (some (aj rb off)) n n]] w fun e w'=>e=.returned (iZ ((aG (dR (av.take n))).length:Int))/\aD w w':=by
 have hl:(av.take n).length=n:=by rw[nI];omega
 have Y8:av.length<=100:=by
  unfold u_ at F;rw[sQ]at F;exact of_decide_eq_true F.2
 have hs:snd (dR (av.take n))=true:=by
  have:=UW F n I X;unfold snd lM jK dR;simp[this]
 have G:(aG (dR (av.take n))).length<=1000000:=by
  have h1:=IQ (dR (av.take n));have K:(dR (av.take n)).data.size=0:=rfl;have O:(dR (av.take n)).ranges.length=n:=hl;rw[K,O]at h1;omega
 have:=oV (dR (av.take n)) (some (aj rb off)) n w ⟨hs,⟨by show(av.take n).length<=_;omega,by show 0<=_;omega,by show(-9223372036854775808:Int)<=2/\(2:Int)<=_;omega,by show(-9223372036854775808:Int)<=0/\(0:Int)<=_;omega,by show(0:Nat)<_/\(0:Nat)<_/\(0:Nat)<_/\(0:Nat)<_/\(0:Nat)<_;omega,fun j V=>by obtain⟨_,_,_,_,_,U⟩:=Df H n j V;exact U⟩,Df H n,by show(av.take n).length<=n;omega,(fun x Z=>by cases Z;exact hb),G⟩
 have e:bR (dR (av.take n)) (.slice (some (aj rb off)) (dR (av.take n)).ranges.length n)=.agg #[iZ 2,iZ 0,uZ 0,uZ 0,uZ 0,.bool false,uZ 0,uZ 0,.string ⟨#[]⟩,.slice (some (aj rb off)) n n]:=by
  show Value.agg _=Value.agg _;rw[show(dR (av.take n)).ranges.length=n from hl];rfl
 rw[e]at this;exact this
section
variable {oZ:Own} {s:Nat} {w0:World} {S bw bl bi ab:Nat}
theorem IU(av:aP)(room:Int)(n:Nat):cB av room (n+1)=if((aG (dR (av.take (n+1)))).length:Int)<=room then n+1 else cB av room n:=rfl
theorem ML:nQ oZ s w0 S bw bl bi ab 247 #[ay ab 0] #[] (fun _ av=>decide (0<av.length)&&u_ av) fun M av room=>if cB av room av.length=0 then none else some (dR (av.take (cB av room av.length)),M,av.drop (cB av room av.length)):=by
 intro aC w M av room K hE hW xa xn;rw[sQ]at xa;obtain⟨hy,h7⟩:=xa;have h0:=of_decide_eq_true hy;have xi:=hE;obtain⟨l,vc,hS,hA⟩:=xi;obtain⟨xd,v,hv,hr⟩:=hA
 rcases hr with⟨_,h2⟩|⟨rb,off,c,rfl,hlc,hc,hrb,orb,XO⟩
 ·rw[h2]at h0;exact absurd h0 (by simp)
 have hw:=hS.s0;obtain⟨W,h5⟩:∃W,W=w.alloc (.cells ko.toArray 65):=⟨_,rfl⟩
 have I:aD w W:=by rw[h5];exact(mR _ w).alloc (fB _) _
 have ho:aA W w.heap.size 65 ko:=by rw[h5];exact aA.new w 65 _
 have hsz:w.heap.size<W.heap.size:=by rw[h5];simp
 have Y9:=hv.lt;obtain⟨L,hL⟩:∃L,L=av.length:=⟨_,rfl⟩
 have O:Hid (∀n W',0<n->n<=L->aD w W'->Calls prog 210 #[.agg #[iZ 2,iZ 0,uZ 0,uZ 0,uZ 0,.bool false,uZ 0,uZ 0,.string ⟨#[]⟩,.slice (some (aj rb off)) n n]] W' fun e w'=>e=.returned (iZ ((aG (dR (av.take n))).length:Int))/\aD W' w'):=fun n W' a b hb=>Qb h7 (XO.below hb) (tL hrb hb.size) n a (by omega)
 have F:Hid (∀W',aD W W'->W'.cell? (aj ab 0)=some (.slice (some (aj rb off)) L c)/\W'.frozen? (aj ab 0)=false/\aA W' w.heap.size 65 ko/\aD w W'):=fun W' hb=>by
  have b1:=bI hb (bI I hv);exact⟨by rw[hL];exact b1.cell 0,b1.frozen 0,bI hb ho,I.trans (hb.mono I.size)⟩
 show Calls prog 247 #[ay ab 0,iZ room] w fun e w'=>gP aC s w S bw bl bi ab M av (if cB av room av.length=0 then none else some (dR (av.take (cB av room av.length)),M,av.drop (cB av room av.length))) e w'
 rw[<-hL]
 have UG:Hid (∀wr U,aD W wr->je w.heap.size wr U->cB av room L=0->gP aC s w S bw bl bi ab M av (if cB av room L=0 then none else some (dR (av.take (cB av room L)),M,av.drop (cB av room L))) (.returned (.tuple #[bR dS nZ,.bool false])) U):=fun wr U hb ht xe=>by
  rw[if_pos xe];have hg:Env (loc aC w.heap.size) s wr S bw bl bi ab M av:=((hE.kp (pz aC w) (by simp) (by simp) (by simp)).below I).below hb;exact gP.wrap (x:=eG) (dx:=loc aC w.heap.size) hw I hsz rfl (Kp.below hb) hg (fun z hz=>by cases hz) ht
 have h9:Hid (∀n wr U v',0<n->n<=L->cB av room L=n->aD W wr->(v'=.slice (some (aj rb (off+n*2))) (L-n) (c-n)\/c=n/\v'=.slice (some (aj rb off)) (L-n) 0)->je w.heap.size (wr.setCell (aj ab 0) v') U->gP aC s w S bw bl bi ab M av (if cB av room L=0 then none else some (dR (av.take (cB av room L)),M,av.drop (cB av room L))) (.returned (.tuple #[(.agg #[iZ 2,iZ 0,uZ 0,uZ 0,uZ 0,.bool false,uZ 0,uZ 0,.string ⟨#[]⟩,.slice (some (aj rb off)) n n]),.bool true])) U):=fun n wr U v' h1 h2 h3 hb h8 ht=>by
  rw[if_neg (by omega),h3];have hk:aD w wr:=I.trans (hb.mono I.size)
  have Y_:(loc aC w.heap.size) ab=s+48:=by rw[fM _ _ _ Y9];exact xd
  have Qc:(loc aC w.heap.size) rb=s+49:=by rw[fM _ _ _ hrb];exact orb
  have Ks:Kp [s+48] (loc aC w.heap.size) (loc aC w.heap.size) wr (wr.setCell (aj ab 0) v'):=Kp.set _ wr _ _ [s+48] (by show(loc aC w.heap.size) ab∈_;rw[Y_];simp);have xj:bT (loc aC w.heap.size) s wr S l M bw bl bi vc:=(hS.loc I).below hb;have Za:rb<wr.heap.size:=tL hrb hk.size;have WS:=XO.below hk
  have hg:Env (loc aC w.heap.size) s (wr.setCell (aj ab 0) v') S bw bl bi ab M (av.drop n):=by
   refine⟨l,vc,xj.kp Ks (fun x h1 h2 e=>by simp at e;omega),Y_,_,(bI hk hv).setCell 0 _,?_⟩
   rcases h8 with h8|⟨xt,h8⟩
   ·exact .inr ⟨rb,off+n*2,c-n,by rw[h8,DT,hL],by rw[DT];omega,by omega,by simp;omega,Qc,Il (Qa WS n) Ks Za (by rw[Qc];simp)⟩
   ·have hu:av.drop n=[]:=List.drop_of_length_le (by omega);rw[hu];exact .inr ⟨rb,off,0,by rw[h8,show L-n=0 by omega];rfl,fB _,by omega,by simp;omega,Qc,fun j hj=>absurd hj (Nat.not_lt_zero _)⟩
  have hl:(av.take n).length=n:=by rw[nI];omega
  refine gP.wrap (r:=some (dR (av.take n),M,av.drop n)) (x:=(dR (av.take n),some (aj rb off),n,n)) (dx:=loc aC w.heap.size) hw I hsz rfl ((Kp.below hb).trans (Ks.mono fun x hx=>pq.2 (.inr (.inl (by simpa using hx))))) hg (fun z hz=>?_) ht;cases hz;refine⟨rfl,hl.symm,by show(av.take n).length<=n;omega,Il (Df WS n) Ks Za (by rw[Qc];simp),fun a ha=>?_,fun xm=>absurd rfl xm⟩;cases ha;exact⟨by simp;omega,Qc,rfl⟩
 generalize hX:(if cB av room L=0 then none else some (dR (av.take (cB av room L)),M,av.drop (cB av room L)))=X at *;clear hX
 have xv:L<=c:=by omega
 have xx:L<=1000000000:=by
  unfold u_ at h7;rw[sQ]at h7;have:=of_decide_eq_true h7.2;omega
 have xr:0<L:=by omega
 clear hE hS hW hv XO xd orb h7 hy h0 K ho hlc hrb hsz;clear hL;unfold ko at h5;subst h5;go_enter func247,ntmps247;obtain⟨z0,z1,z2,z3⟩:=F.out _ (mR _ _);go_wp2
 go_loopw [6] (fun s6 wr=>∃n:Nat,n<=L/\s6=(iZ n)/\Hid (cB av room n=cB av room L/\Below (w.alloc (.cells #[iZ 0,iZ 0,uZ 0,uZ 0,uZ 0,.bool false,uZ 0,uZ 0,.string ⟨#[]⟩,nZ] 65)).heap.size (w.alloc (.cells #[iZ 0,iZ 0,uZ 0,uZ 0,uZ 0,.bool false,uZ 0,uZ 0,.string ⟨#[]⟩,nZ] 65)) wr)) (fun s6 _=>(intOf s6).toNat)
 case atStart=>exact⟨L,fB _,rfl,(⟨rfl,mR _ _⟩:_/\_)⟩
 case round=>
  obtain⟨n,hn,rfl,HI⟩:=hrel;have he:=F.out wr HI.out.2
  cases n with
  |zero=>
   obtain⟨y0,y1,y2,y3,y4,y5,y6,y7,y8,y9,yf⟩:=aH he.2.2.1;have qB:=au he.2.2.1;clear z0 z1 z2 z3 he;go_wp2;rw[dI];have iB:=dh qB.out (iZ 0) (iZ 0) (uZ 0) (uZ 0) (uZ 0) (.bool false) (uZ 0) (uZ 0) (.string ⟨#[]⟩) nZ;have lX:=dw wr w.heap.size (iZ 0) (iZ 0) (uZ 0) (uZ 0) (uZ 0) (.bool false) (uZ 0) (uZ 0) (.string ⟨#[]⟩) nZ;generalize iA wr w.heap.size (iZ 0) (iZ 0) (uZ 0) (uZ 0) (uZ 0) (.bool false) (uZ 0) (uZ 0) (.string ⟨#[]⟩) nZ=U at *;obtain⟨a0,a1,a2,a3,a4,a5,a6,a7,a8,a9,_⟩:=aH iB;exact bodyPost_ret (v:=.tuple #[bR dS nZ,.bool false]) (by simp[results,results247,go_sem,a0,a1,a2,a3,a4,a5,a6,a7,a8,a9,bR,dS]) rfl (UG.out wr U HI.out.2 lX HI.out.1.symm)
  |succ m=>
   obtain⟨q0,q1,q2,q3⟩:=he;obtain⟨W3,h6⟩:∃W3,W3=wr.alloc (.cells #[iZ 2,iZ 0,uZ 0,uZ 0,uZ 0,.bool false,uZ 0,uZ 0,.string ⟨#[]⟩,.slice (some (aj rb off)) (m+1) (m+1)] 65):=⟨_,rfl⟩
   have hm:aD wr W3:=by rw[h6];exact(mR _ wr).alloc (fB _) _
   have XP:=HI.out.2.trans (hm.mono HI.out.2.size)
   have MF:aA W3 wr.heap.size 65 [iZ 2,iZ 0,uZ 0,uZ 0,uZ 0,.bool false,uZ 0,uZ 0,.string ⟨#[]⟩,.slice (some (aj rb off)) (m+1) (m+1)]:=by rw[h6];exact aA.new wr 65 _
   have hsz:=O.out (m+1) W3 (by omega) hn (F.out W3 XP).2.2.2;have G:=au (And.intro XP MF)
   have k1:((m:Int)+1)<=(c:Int):=by omega
   have k2:m+1<=c:=by omega
   have k3:(0:Int)<(m:Int)+1:=by omega
   have k4:((m:Int)+1)<=(L:Int):=by omega
   have k5:m+1<=L:=hn
   have k6:(L:Int)<=(c:Int):=by omega
   have V:=IU av room m;generalize (aG (dR (av.take (m+1)))).length=Z at *;clear z0 z1 z2 z3 hm XP MF q2 q3
   by_cases hz:(Z:Int)<=room
   ·rw[if_pos hz]at V;have hf:=au V;clear V
    have xo:¬(wr.heap.size=ab):=fun e=>by have h1:=HI.out.2.size;simp at h1;omega
    have xz:¬(ab=wr.heap.size):=fun e=>xo e.symm
    have Zb:w.heap.size≠ab:=by omega
    have ya:¬(w.heap.size=ab):=by omega
    have ye:¬(ab=w.heap.size):=by omega
    have xp:¬(wr.heap.size=w.heap.size):=fun e=>by have h1:=HI.out.2.size;simp at h1;omega
    have yd:¬(w.heap.size=wr.heap.size):=fun e=>xp e.symm
    have f1:cB av room L=m+1:=by rw[<-HI.out.1];exact hf.out
    by_cases xl:c=m+1
    ·subst xl
     go_wp2_with (first
      |(go_at_call 210;rw[<-h6];refine hsz.mono ?_;rintro e w2 ⟨rfl,H⟩;obtain⟨p0,p1,p2,p3⟩:=F.out w2 (G.out.1.trans (H.mono G.out.1.size));obtain⟨y0,y1,y2,y3,y4,y5,y6,y7,y8,y9,yf⟩:=aH p2;have qB:=au p2;obtain⟨x0,x1,x2,x3,x4,x5,x6,x7,x8,x9,xf⟩:=aH (bI H G.out.2);clear p2)
      |go_in)
     rw[dI];have h4:aA (w2.setCell (aj ab 0) (.slice (some (aj rb off)) 0 0)) w.heap.size 65 ko:=qB.out.of_heap (He _ _ _ _ Zb);have iB:=dh h4 (iZ 2) (iZ 0) (uZ 0) (uZ 0) (uZ 0) (.bool false) (uZ 0) (uZ 0) (.string ⟨#[]⟩) (.slice (some (aj rb off)) (m+1) (m+1));have lX:=dw (w2.setCell (aj ab 0) (.slice (some (aj rb off)) 0 0)) w.heap.size (iZ 2) (iZ 0) (uZ 0) (uZ 0) (uZ 0) (.bool false) (uZ 0) (uZ 0) (.string ⟨#[]⟩) (.slice (some (aj rb off)) (m+1) (m+1));generalize iA (w2.setCell (aj ab 0) (.slice (some (aj rb off)) 0 0)) w.heap.size (iZ 2) (iZ 0) (uZ 0) (uZ 0) (uZ 0) (.bool false) (uZ 0) (uZ 0) (.string ⟨#[]⟩) (.slice (some (aj rb off)) (m+1) (m+1))=U at *;obtain⟨a0,a1,a2,a3,a4,a5,a6,a7,a8,a9,_⟩:=aH iB;have f3:=h9.out (m+1) w2 U (.slice (some (aj rb off)) 0 0) (WJ _) hn f1 (G.out.1.trans (H.mono G.out.1.size)) (.inr ⟨rfl,by rw[show L-(m+1)=0 by omega]⟩) lX;clear iB lX h4 h9 UG F O
     (try simp only[Exit.inBlock,Exit.then])
     exact bodyPost_ret (v:=.tuple #[(.agg #[iZ 2,iZ 0,uZ 0,uZ 0,uZ 0,.bool false,uZ 0,uZ 0,.string ⟨#[]⟩,.slice (some (aj rb off)) (m+1) (m+1)]),.bool true]) (by simp[results,results247,go_sem,a0,a1,a2,a3,a4,a5,a6,a7,a8,a9]) rfl f3
    ·skip
     go_wp2_with (first
      |(go_at_call 210;rw[<-h6];refine hsz.mono ?_;rintro e w2 ⟨rfl,H⟩;obtain⟨p0,p1,p2,p3⟩:=F.out w2 (G.out.1.trans (H.mono G.out.1.size));obtain⟨y0,y1,y2,y3,y4,y5,y6,y7,y8,y9,yf⟩:=aH p2;have qB:=au p2;obtain⟨x0,x1,x2,x3,x4,x5,x6,x7,x8,x9,xf⟩:=aH (bI H G.out.2);clear p2)
      |go_in)
     rw[dI];have h4:aA (w2.setCell (aj ab 0) (.slice (some (aj rb (off+(m+1)*2))) (L-(m+1)) (c-(m+1)))) w.heap.size 65 ko:=qB.out.of_heap (He _ _ _ _ Zb);have iB:=dh h4 (iZ 2) (iZ 0) (uZ 0) (uZ 0) (uZ 0) (.bool false) (uZ 0) (uZ 0) (.string ⟨#[]⟩) (.slice (some (aj rb off)) (m+1) (m+1));have lX:=dw (w2.setCell (aj ab 0) (.slice (some (aj rb (off+(m+1)*2))) (L-(m+1)) (c-(m+1)))) w.heap.size (iZ 2) (iZ 0) (uZ 0) (uZ 0) (uZ 0) (.bool false) (uZ 0) (uZ 0) (.string ⟨#[]⟩) (.slice (some (aj rb off)) (m+1) (m+1));generalize iA (w2.setCell (aj ab 0) (.slice (some (aj rb (off+(m+1)*2))) (L-(m+1)) (c-(m+1)))) w.heap.size (iZ 2) (iZ 0) (uZ 0) (uZ 0) (uZ 0) (.bool false) (uZ 0) (uZ 0) (.string ⟨#[]⟩) (.slice (some (aj rb off)) (m+1) (m+1))=U at *;obtain⟨a0,a1,a2,a3,a4,a5,a6,a7,a8,a9,_⟩:=aH iB;have f3:=h9.out (m+1) w2 U (.slice (some (aj rb (off+(m+1)*2))) (L-(m+1)) (c-(m+1))) (WJ _) hn f1 (G.out.1.trans (H.mono G.out.1.size)) (.inl rfl) lX;clear iB lX h4 h9 UG F O
     (try simp only[Exit.inBlock,Exit.then])
     exact bodyPost_ret (v:=.tuple #[(.agg #[iZ 2,iZ 0,uZ 0,uZ 0,uZ 0,.bool false,uZ 0,uZ 0,.string ⟨#[]⟩,.slice (some (aj rb off)) (m+1) (m+1)]),.bool true]) (by simp[results,results247,go_sem,a0,a1,a2,a3,a4,a5,a6,a7,a8,a9]) rfl f3
   ·rw[if_neg hz]at V;have hf:=au V;clear V;have xy:¬((Z:Int)<=room):=hz
    go_wp2_with (first
     |(go_at_call 210;rw[<-h6];refine hsz.mono ?_;rintro e w2 ⟨rfl,H⟩)
     |go_in)
    go_roundw
    case rel=>exact⟨m,by omega,by simp,(⟨by rw[<-HI.out.1];exact hf.out.symm,G.out.1.trans (H.mono G.out.1.size)⟩:_/\_)⟩
    case measure=>simp[intOf]
end

end
def Lp(P:Nat->Prop)(l:List Nat):Prop:=∀x∈l,P x
theorem Lp.getD{P:Nat->Prop}(F:P 0){l:List Nat}(h:Lp P l)(j:Nat):P (l.getD j 0):=by
 rw[fA]
 cases G:l[j]? with
 |none=>exact F
 |some v=>exact h v (uj G)
theorem Lp.set{P:Nat->Prop}{l:List Nat}(h:Lp P l)(i v:Nat)(G:P v):Lp P (l.set i v):=fun x F=>by
 rcases List.mem_or_eq_of_mem_set F with F|F
 ·exact h x F
 ·rw[F];exact G
theorem Lp.sw{P:Nat->Prop}(F:P 0){l:List Nat}(h:Lp P l)(i j:Nat):Lp P (sw l i j):=(h.set i _ (h.getD F j)).set j _ (h.getD F i)
theorem Lp.down{P:Nat->Prop}(F:P 0):∀(k:Nat) {l:List Nat} (i n:Nat),Lp P l->Lp P (iC k l i n)
 |0,_,_,_,h=>h
 |k+1,l,i,n,h=>by
  unfold iC;generalize (if 2*i+2<n/\l.getD (2*i+2) 0<l.getD (2*i+1) 0 then 2*i+2 else 2*i+1)=j;split
  ·exact h
  ·simp only;split
   ·exact Lp.down F k _ _ (h.sw F _ _)
   ·exact h
theorem Lp.up{P:Nat->Prop}(F:P 0):∀(k:Nat) {l:List Nat} (i:Nat),Lp P l->Lp P (xM k l i)
 |0,_,_,h=>h
 |k+1,l,i,h=>by
  unfold xM;split
  ·exact h
  ·exact Lp.up F k _ (h.sw F _ _)
theorem Lp.pop{P:Nat->Prop}(F:P 0){l:List Nat}(h:Lp P l):Lp P (jg l):=fun x G=>Lp.down F _ _ _ (h.sw F _ _) x (List.mem_of_mem_take G)
theorem Lp.app{P:Nat->Prop}{l m:List Nat}(h:Lp P l)(g:Lp P m):Lp P (l++m):=fun x F=>(tT.1 F).elim (h x) (g x)
theorem Lp.one{P:Nat->Prop}{u:Nat}(h:P u):Lp P [u]:=fun x F=>by rw[Am.1 F];exact h
theorem Lp.push{P:Nat->Prop}(F:P 0){l:List Nat}(h:Lp P l)(u:Nat)(G:P u):Lp P (bG l u):=Lp.up F _ _ (h.app (Lp.one G))
theorem jw(l:List Nat)(u:Nat):(bG l u).length=l.length+1:=by unfold bG;rw[Kg];simp
theorem yU(l:List Nat):(jg l).length=l.length-1:=by unfold jg;rw[nI,uT,jP];omega
def mV(oZ:Own)(s:Nat)(w:World)(S bw bl bi ab:Nat)(D:Nat->Src)(u:Nat):Prop:=
 (D u).y=yields u/\iy oZ s w S bw bl bi ab (D u) (fun M av=>M.waits av u) (fun M av=>M.waits av u&&u_ av) (fun M av room=>M.frame av u room)
theorem mV.kp{oZ F:Own}{s:Nat}{w w1:World}{S bw bl bi ab:Nat}{D:Nat->Src}{u:Nat}(h:mV oZ s w S bw bl bi ab D u)(K:Kp (Tb s) oZ F w w1):mV F s w1 S bw bl bi ab D u:=⟨h.1,h.2.kp K⟩
structure QsM (oZ:Own) (s:Nat) (w:World) (S bw bl bi ab:Nat) (D:Nat->Src) (p:Nat) (v:Value) (Q:List Nat):Prop where
 hd:∀u:Nat,(D u).u=(u:Int)
 hq:wO oZ (s+45) D w p v Q
 hs:Lp (mV oZ s w S bw bl bi ab D) Q
theorem QsM.kp{oZ F:Own}{s:Nat}{w w1:World}{S bw bl bi ab:Nat}{D:Nat->Src}{p:Nat}{v:Value}{Q:List Nat}{T:List Nat}(h:QsM oZ s w S bw bl bi ab D p v Q)(K:Kp T oZ F w w1)(H:∀x∈T,x∈Tb s)(h1:s+45∉T)(G:s+46∉T):QsM F s w1 S bw bl bi ab D p v Q:=
 ⟨h.hd,⟨by rw[K.ext p h.hq.pb.lt,h.hq.op],aO h.hq.pb K (by rw[h.hq.op];exact G),h.hq.sr.kp K h1⟩,fun u I=>(h.hs u I).kp (K.mono H)⟩
theorem yV(D F:Nat->Src):∀(Q:List Nat),(∀u∈Q,D u=F u)->qC D Q=qC F Q
 |[],_=>rfl
 |x::t,h=>by show gH (D x)++qC D t=gH (F x)++qC F t;rw[h x (by simp),yV D F t fun u G=>h u (by simp[G])]
theorem XQ{oZ:Own}{s:Nat}{S bw bl bi ab:Nat}{D:Nat->Src}{p:Nat}{v:Value}{Q:List Nat}(w:World)(h:QsM oZ s w S bw bl bi ab D p v Q)(x:Src)(u:Nat)(hu:x.u=(u:Int))(hy:x.y=yields u)(hn:u∉Q)(hl:Q.length<1000)(hx:iy oZ s w S bw bl bi ab x (fun M av=>M.waits av u) (fun M av=>M.waits av u&&u_ av) (fun M av room=>M.frame av u room))(H:u=0\/0∈Q):
  Calls prog 199 #[ay p 0,jE x] w fun e w'=>e=.returned (.tuple #[])/\∃aC F v',QsM aC s w' S bw bl bi ab F p v' (bG Q u)/\Kp [s+45,s+46] oZ aC w w':=by
 obtain⟨F,I⟩:∃F:Nat->Src,F=fun j=>if j=u then x else D j:=⟨_,rfl⟩
 have V:F u=x:=by rw[I];exact if_pos rfl
 have en:∀j,j≠u->F j=D j:=fun j G=>by rw[I];exact if_neg G
 have U:∀j:Nat,(F j).u=(j:Int):=fun j=>by
  by_cases G:j=u
  ·rw[G,V];exact hu
  ·rw[en j G];exact h.hd j
 have X:wO oZ (s+45) F w p v Q:=⟨h.hq.op,h.hq.pb,by rw[yV F D Q fun j G=>en j (fun e=>hn (e▸G))];exact h.hq.sr⟩
 have hU:∀j∈Q,mV oZ s w S bw bl bi ab F j:=fun j G=>by
  have:=h.hs j G;unfold mV at this ⊢;rw[en j (fun e=>hn (e▸G))];exact this
 have O:mV oZ s w S bw bl bi ab F u:=by
  unfold mV;rw[V];exact⟨hy,hx⟩
 have:=w_ oZ (s+45) F U w p v Q u hl X;rw[V]at this;refine this.mono ?_;rintro e w' ⟨rfl,aC,v',Z,K⟩;have K':Kp [s+45,s+46] oZ aC w w':=K
 have KT:Kp (Tb s) oZ aC w w':=K'.mono fun z hz=>f_.2 (by simp at hz;omega)
 refine⟨rfl,aC,F,v',⟨U,Z,fun j G=>mV.kp ?_ KT⟩,K'⟩
 exact Lp.push (P:=mV oZ s w S bw bl bi ab F) (by
  rcases H with H|H
  ·rw[<-H];exact O
  ·exact hU 0 H) hU u O j G
def PU(oZ:Own)(s:Nat)(w:World)(S bw bl bi ab:Nat)(D:Nat->Src)(u:Nat):Prop:=mV oZ s w S bw bl bi ab D u/\u<48
theorem PU.kp{oZ F:Own}{s:Nat}{w w1:World}{S bw bl bi ab:Nat}{D:Nat->Src}{u:Nat}(h:PU oZ s w S bw bl bi ab D u)(K:Kp (Tb s) oZ F w w1):PU F s w1 S bw bl bi ab D u:=⟨h.1.kp K,h.2⟩
def Tg(s:Nat):List Nat:=List.range' s 47++[s+48,s+50,s+51,s+53]
theorem kX{s x:Nat}:x∈Tg s↔(s<=x/\x<s+47)\/x=s+48\/x=s+50\/x=s+51\/x=s+53:=by
 unfold Tg;rw[tT,List.mem_range'];simp only[List.mem_cons,List.not_mem_nil,or_false];refine or_congr ⟨?_,?_⟩ Iff.rfl
 ·rintro⟨i,h,rfl⟩;omega
 ·rintro⟨h1,F⟩;exact⟨x-s,by omega,by omega⟩
theorem WT(s:Nat):∀x∈Tg s,x∈Tb s:=fun x F=>f_.2 (by have:=kX.1 F;omega)
structure l7 (bQ:Own) (s:Nat) (w0:World) (S bw bl bi ab:Nat) (D:Nat->Src) (p:Nat) (oZ:Own) (w:World) (M:Side) (av:aP) (Q later:List Nat) (L:List FV) (v vl vt:Value):Prop where
 hq:wO oZ (s+45) D w p v Q
 qs:Lp (PU oZ s w S bw bl bi ab D) Q
 ls:Lp (PU oZ s w S bw bl bi ab D) later
 z:PU oZ s w S bw bl bi ab D 0
 env:Env oZ s w S bw bl bi ab M av
 fr:GT oZ (s+50) 65 10 w vl L.length (l6 L)
 fv:∀x∈L,LW oZ s w x
 la:GT oZ (s+51) 304 4 w vt later.length (qC D later)
 kp:Kp (Tg s) bQ oZ w0 w
 nl:L=[]->vl=nZ
theorem LW.kp{oZ aC:Own}{s:Nat}{w w':World}{x:FV}{T:List Nat}(h:LW oZ s w x)(K:Kp T oZ aC w w')(V:s+49∉T):LW aC s w' x:=by
 refine⟨h.len,h.cap,fun j Z=>?_,fun a X=>?_,h.nil⟩
 ·obtain⟨b,o,H,I,O,U⟩:=h.rng j Z;obtain⟨F,G,_⟩:=h.blk _ H;have e:=K.blk b F (by rw[G];exact V);exact⟨b,o,H,cell_of I e,cell_of O e,U⟩
 ·obtain⟨F,G,q3⟩:=h.blk a X;exact⟨tL F K.size,by rw[K.ext _ F,G],q3⟩
theorem wO.kp{oZ aC:Own}{t:Nat}{D:Nat->Src}{w w':World}{p:Nat}{v:Value}{Q:List Nat}{T:List Nat}(h:wO oZ t D w p v Q)(K:Kp T oZ aC w w')(h1:t∉T)(F:t+1∉T):wO aC t D w' p v Q:=
 ⟨by rw[K.ext p h.pb.lt,h.op],aO h.pb K (by rw[h.op];exact F),h.sr.kp K h1⟩
theorem l7.new{bQ:Own}{s:Nat}{w0:World}{S bw bl bi ab:Nat}{D:Nat->Src}{p:Nat}{oZ aC:Own}{w w':World}{M:Side}{av:aP}{Q later:List Nat}{L:List FV}{v vl vt:Value}(h:l7 bQ s w0 S bw bl bi ab D p oZ w M av Q later L v vl vt)(K:Kp [] oZ aC w w'):l7 bQ s w0 S bw bl bi ab D p aC w' M av Q later L v vl vt:=
 ⟨h.hq.kp K (by simp) (by simp),fun u F=>(h.qs u F).kp (K.mono (by simp)),fun u F=>(h.ls u F).kp (K.mono (by simp)),h.z.kp (K.mono (by simp)),h.env.kp K (by simp) (by simp) (by simp),h.fr.kp K (by simp),fun x G=>(h.fv x G).kp K (by simp),h.la.kp K (by simp),h.kp.trans (K.mono (by simp)),h.nl⟩
theorem l7.pop{bQ:Own}{s:Nat}{w0:World}{S bw bl bi ab:Nat}{D:Nat->Src}{p:Nat}{oZ:Own}{w w':World}{M:Side}{av:aP}{Q later:List Nat}{L:List FV}{v v' vl vt:Value}(h:l7 bQ s w0 S bw bl bi ab D p oZ w M av Q later L v vl vt)(hq:wO oZ (s+45) D w' p v' (jg Q))(K:Kp [s+45,s+45+1] oZ oZ w w'):
  l7 bQ s w0 S bw bl bi ab D p oZ w' M av (jg Q) later L v' vl vt:=by
 have G:Kp (Tb s) oZ oZ w w':=K.mono fun x F=>f_.2 (by simp at F;omega)
 have I:Kp (Tg s) oZ oZ w w':=K.mono fun x F=>kX.2 (by simp at F;omega)
 exact⟨hq,fun u H=>(Lp.pop h.z h.qs u H).kp G,fun u H=>(h.ls u H).kp G,h.z.kp G,h.env.kp K (by simp;omega) (by simp) (by simp),h.fr.kp K (by simp),fun x F=>(h.fv x F).kp K (by simp),h.la.kp K (by simp),h.kp.trans I,h.nl⟩
theorem l7.nxt{bQ:Own}{s:Nat}{w0:World}{S bw bl bi ab:Nat}{D:Nat->Src}{p:Nat}{oZ aC:Own}{w w':World}{M M':Side}{av bH:aP}{Q later:List Nat}{L:List FV}{v vl vt:Value}(h:l7 bQ s w0 S bw bl bi ab D p oZ w M av Q later L v vl vt)(K:Kp (Tn s) oZ aC w w')(O:Env aC s w' S bw bl bi ab M' bH):
  l7 bQ s w0 S bw bl bi ab D p aC w' M' bH Q later L v vl vt:=by
 have G:Kp (Tb s) oZ aC w w':=K.mono (YR s)
 have I:Kp (Tg s) oZ aC w w':=K.mono fun x F=>kX.2 (by have:=pq.1 F;omega)
 have e:∀x,x∈Tn s->(s<=x/\x<s+45)\/x=s+48\/x=s+53:=fun x F=>pq.1 F
 exact⟨h.hq.kp K (fun x=>by have:=e _ x;omega) (fun x=>by have:=e _ x;omega),fun u H=>(h.qs u H).kp G,fun u H=>(h.ls u H).kp G,h.z.kp G,O,h.fr.kp K (fun x=>by have:=e _ x;omega),fun x F=>(h.fv x F).kp K (fun x=>by have:=e _ x;omega),h.la.kp K (fun x=>by have:=e _ x;omega),h.kp.trans I,h.nl⟩
theorem l7.app{bQ:Own}{s:Nat}{w0:World}{S bw bl bi ab:Nat}{D:Nat->Src}{p:Nat}{oZ aC:Own}{w w':World}{M:Side}{av:aP}{Q later:List Nat}{L:List FV}{v vl H vt:Value}(h:l7 bQ s w0 S bw bl bi ab D p oZ w M av Q later L v vl vt)(x:FV)(F:LW oZ s w x)(K:Kp [s+50] oZ aC w w')(V:GT aC (s+50) 65 10 w' H (L.length+1) (l6 L++bZ x.1 (lu x))):
  l7 bQ s w0 S bw bl bi ab D p aC w' M av Q later (L++[x]) v H vt:=by
 have I:Kp (Tb s) oZ aC w w':=K.mono fun x F=>f_.2 (by simp at F;omega)
 have U:Kp (Tg s) oZ aC w w':=K.mono fun x F=>kX.2 (by simp at F;omega)
 refine⟨h.hq.kp K (by simp) (by simp),fun u O=>(h.qs u O).kp I,fun u O=>(h.ls u O).kp I,h.z.kp I,h.env.kp K (by simp;omega) (by simp) (by simp),?_,fun y G=>?_,h.la.kp K (by simp),h.kp.trans U,fun e=>absurd e (by simp)⟩
 ·rw[tC,Kt];simpa[l6]using V
 ·rcases tT.1 G with G|G
  ·exact(h.fv y G).kp K (by simp)
  ·rw[Am.1 G];exact F.kp K (by simp)
theorem l7.lat{bQ:Own}{s:Nat}{w0:World}{S bw bl bi ab:Nat}{D:Nat->Src}{p:Nat}{oZ aC:Own}{w w':World}{M:Side}{av:aP}{Q later:List Nat}{L:List FV}{v vl vt G:Value}(h:l7 bQ s w0 S bw bl bi ab D p oZ w M av Q later L v vl vt)(u:Nat)(I:PU oZ s w S bw bl bi ab D u)(K:Kp [s+51] oZ aC w w')(V:GT aC (s+51) 304 4 w' G (later.length+1) (qC D later++gH (D u))):
  l7 bQ s w0 S bw bl bi ab D p aC w' M av Q (later++[u]) L v vl G:=by
 have H:Kp (Tb s) oZ aC w w':=K.mono fun x O=>f_.2 (by simp at O;omega)
 have U:Kp (Tg s) oZ aC w w':=K.mono fun x O=>kX.2 (by simp at O;omega)
 refine⟨h.hq.kp K (by simp) (by simp),fun u I=>(h.qs u I).kp H,fun j F=>?_,h.z.kp H,h.env.kp K (by simp;omega) (by simp) (by simp),h.fr.kp K (by simp),fun y X=>(h.fv y X).kp K (by simp),?_,h.kp.trans U,h.nl⟩
 ·rcases tT.1 F with F|F
  ·exact(h.ls j F).kp H
  ·rw[Am.1 F];exact I.kp H
 ·rw[uU,Kt];exact V
theorem PU.fn{oZ:Own}{s:Nat}{w:World}{S bw bl bi ab:Nat}{D:Nat->Src}{u:Nat}(h:PU oZ s w S bw bl bi ab D u):∃n1 n2,(D u).f1=.func n1/\(D u).f2=.func n2/\(∀args w,(callFunc n1 args).run prog w=.ok (.enter n1 args) w)/\(∀args w,(callFunc n2 args).run prog w=.ok (.enter n2 args) w)/\
  lI oZ s w S bw bl bi ab n1 (D u).p1 (D u).k1 (fun M av=>M.waits av u)/\nQ oZ s w S bw bl bi ab n2 (D u).p2 (D u).k2 (fun M av=>M.waits av u&&u_ av) (fun M av room=>M.frame av u room):=h.1.2.fn
theorem l7.head{bQ:Own}{s:Nat}{w0:World}{S bw bl bi ab:Nat}{D:Nat->Src}{p:Nat}{oZ:Own}{w:World}{M:Side}{av:aP}{u:Nat}{Q later:List Nat}{L:List FV}{v vl vt:Value}(h:l7 bQ s w0 S bw bl bi ab D p oZ w M av (u::Q) later L v vl vt):
  ∃g c,v=(aS g (Q.length+1) c)/\sP oZ (s+45) D w p g c (u::Q)/\w.cell? (aj p 0)=some (aS g (Q.length+1) c)/\
   w.cell? (aj g 0)=some (iZ (D u).u)/\w.cell? (aj g 1)=some (.func (D u).f1 (D u).p1 (D u).k1)/\w.cell? (aj g 2)=some (.func (D u).f2 (D u).p2 (D u).k2)/\w.cell? (aj g 3)=some (.bool (D u).y):=by
 obtain⟨g,c,rfl,hp⟩:=h.hq.hp (by simp);obtain⟨q0,H,I,K⟩:=kR D (u::Q) 0 u rfl
 have F:∀k x,(qC D (u::Q))[k]?=some x->w.cell? (aj g k)=some x:=fun k x G=>by
  obtain⟨g',e,_,_,r,_⟩:=hp.sr.2.cell k x G;cases e;exact r
 exact⟨g,c,rfl,hp,hp.pb.cell 0,F _ _ (by simpa using q0),F _ _ (by simpa using H),F _ _ (by simpa using I),F _ _ (by simpa using K)⟩
theorem l7.push{bQ:Own}{s:Nat}{w0:World}{S bw bl bi ab:Nat}{D:Nat->Src}{p:Nat}{oZ aC:Own}{w w':World}{M:Side}{av:aP}{Q later:List Nat}{L:List FV}{v v' vl vt:Value}(h:l7 bQ s w0 S bw bl bi ab D p oZ w M av Q later L v vl vt)(u:Nat)(H:PU oZ s w S bw bl bi ab D u)(hq:wO aC (s+45) D w' p v' (bG Q u))(K:Kp [s+45,s+45+1] oZ aC w w'):
  l7 bQ s w0 S bw bl bi ab D p aC w' M av (bG Q u) later L v' vl vt:=by
 have G:Kp (Tb s) oZ aC w w':=K.mono fun x F=>f_.2 (by simp at F;omega)
 have I:Kp (Tg s) oZ aC w w':=K.mono fun x F=>kX.2 (by simp at F;omega)
 exact⟨hq,fun j O=>(Lp.push h.z h.qs u H j O).kp G,fun u H=>(h.ls u H).kp G,h.z.kp G,h.env.kp K (by simp;omega) (by simp) (by simp),h.fr.kp K (by simp),fun x F=>(h.fv x F).kp K (by simp),h.la.kp K (by simp),h.kp.trans I,h.nl⟩
theorem l7.done{bQ:Own}{s:Nat}{w0:World}{S bw bl bi ab:Nat}{D:Nat->Src}{p:Nat}{oZ:Own}{w:World}{M:Side}{av:aP}{Q later:List Nat}{L:List FV}{v vl vt:Value}(h:l7 bQ s w0 S bw bl bi ab D p oZ w M av Q later L v vl vt):l7 bQ s w0 S bw bl bi ab D p oZ w M av Q [] L v vl nZ:=
 ⟨h.hq,h.qs,(fun u F=>by cases F),h.z,h.env,h.fr,h.fv,.inl ⟨rfl,rfl,rfl⟩,h.kp,h.nl⟩
theorem jy:∀(m l:List Nat),(m.foldl bG l).length=l.length+m.length
 |[],l=>rfl
 |u::t,l=>by show(t.foldl bG (bG l u)).length=_;rw[jy t,jw];simp;omega
def yX(bQ:Own)(s:Nat)(w0:World)(S bw bl bi ab:Nat)(D:Nat->Src)(p:Nat)(P:Side->aP->Prop)(X:Side×aP×List Nat×List Fr)(e:Ending)(w':World):Prop:=
 ∃aC v' vl vt L,e=.returned vl/\L.map wz=X.2.2.2/\l7 bQ s w0 S bw bl bi ab D p aC w' X.1 X.2.1 X.2.2.1 [] L v' vl vt/\P X.1 X.2.1
theorem Qd{bQ:Own}{s:Nat}{S bw bl bi ab:Nat}{D:Nat->Src}{p:Nat}{v:Value}(P:Side->aP->Prop)(w0:World)(M0:Side)(Bq:aP)(Q0:List Nat)(tH:Int)(hd:∀u:Nat,(D u).u=(u:Int))(ys:0<s)(h:l7 bQ s w0 S bw bl bi ab D p bQ w0 M0 Bq Q0 [] [] v nZ nZ)(hr:0<=tH/\tH<=1000)(hQ:Q0.length<=500)(y0:P M0 Bq)(xp:∀M av,P M av->Wk M/\u_ av=true)(xr:∀M av u room f M' bH,P M av->u<48->M.waits av u=true->M.frame av u room=some (f,M',bH)->P M' bH/\((aG f).length:Int)<=room/\0<(aG f).length/\snd f=true/\jl f):
  Calls prog 156 #[ay p 0,iZ tH] w0 fun e w'=>yX bQ s w0 S bw bl bi ab D p P (fill M0 Bq Q0 tH) e w':=by
 obtain⟨X,hX⟩:∃X,X=fill M0 Bq Q0 tH:=⟨_,rfl⟩;rw[<-hX];have HX:Hid (bO (Q0.length+tH.toNat+1) M0 Bq Q0 [] tH []=X):=hX.symm;have HH:=au h;have rP:=au xp;have qQ:=au xr;have HD:=au hd;have y8:=au y0;have HR:=au hr;clear hX h xp xr hd y0 hr;go_enter func156,ntmps156;go_wp2
 go_loopg [1,5,6] (Q0.length+tH.toNat) (fun kx s1 s5 s6 wr=>∃(room:Int) (oZ:Own) (M:Side) (av:aP) (Q later:List Nat) (L:List FV) (v':Value),s1=(iZ room)/\
  Hid (l7 bQ s w0 S bw bl bi ab D p oZ wr M av Q later L v' s5 s6/\P M av/\0<=room/\room<=1000/\Q.length+later.length<=500/\L.length<=1000-room.toNat/\∃n,Q.length+room.toNat<n/\bO n M av Q later room (L.map wz)=X)/\Hid (Q.length+room.toNat<=kx))
 case atStart=>exact⟨tH,bQ,M0,Bq,Q0,[],[],v,rfl,(⟨HH.out,y8.out,HR.out.1,HR.out.2,by simpa using hQ,by simp,_,Nat.lt_succ_self _,HX.out⟩:_/\_),fB _⟩
 case round=>
  obtain⟨room,oZ,M,av,Q,later,L,v',rfl,HF,HK⟩:=hrel;obtain⟨Fs,Tf,hj,hm,zS,hc,n,hf,tJ⟩:=HF.out
  cases Q with
  |nil=>
   obtain⟨qa,qc,rfl,_,_⟩:=Fs.hq.sr.shape;have x0:wr.cell? (aj p 0)=some (.slice qa 0 qc):=Fs.hq.pb.cell 0;have HL:=au (w9 qa 0 qc wr)
   have ha:(M,av,later.foldl bG [],L.map wz)=X:=by
    rw[<-tJ]
    cases n with
    |zero=>omega
    |succ n=>rfl
   obtain⟨la,lc,rfl,_,_⟩:=Fs.la.shape;have N_:=au Fs;have oo:=au ha
   have yf:later.length<=500:=by omega
   clear Fs ha
   go_wp2_with (first
    |(go_at_call 208;refine HL.out.mono ?_;rintro e w' ⟨rfl,rfl⟩)
    |go_in)
   go_loopw [57] (fun hn xm=>∃k:Nat,k<=later.length/\hn=(iZ k)/\Hid (∃dx v2,l7 bQ s w0 S bw bl bi ab D p dx xm M av ((later.take k).foldl bG []) later L v2 u5 (.slice la later.length lc))) (fun hn _=>later.length-(intOf hn).toNat)
   case atStart=>exact⟨0,Nat.zero_le _,rfl,oZ,_,N_.out⟩
   case round=>
    obtain⟨k,hk,rfl,HI⟩:=hrel
    by_cases xj:k<later.length
    ·have xz:(k:Int)<(later.length:Int):=by omega
     obtain⟨dx,v2,F2⟩:=HI.out;obtain⟨u,hu⟩:∃u,u=later.getD k 0:=⟨_,rfl⟩
     have eu:later[k]?=some u:=by rw[hu,fA,Av xj];rfl
     obtain⟨q0,q1,q2,q3⟩:=kR D later k u eu;obtain⟨gg,e1,_,_,c0,_⟩:=F2.la.cell _ _ q0;subst e1;obtain⟨g1,e1,_,_,c1,_⟩:=F2.la.cell _ _ q1;cases e1;obtain⟨g1,e1,_,_,c2,_⟩:=F2.la.cell _ _ q2;cases e1;obtain⟨g1,e1,_,_,c3,_⟩:=F2.la.cell _ _ q3;cases e1;obtain⟨W3,F⟩:∃W3,W3=wr.alloc (.cells #[(iZ (D u).u),.func (D u).f1 (D u).p1 (D u).k1,.func (D u).f2 (D u).p2 (D u).k2,.bool (D u).y] 304):=⟨_,rfl⟩
     have h7:aD wr W3:=by rw[F];exact(mR _ wr).alloc (fB _) _
     have F3:=F2.new (Kp.below h7)
     have zS:((later.take k).foldl bG []).length<1000:=by rw[jy,nI];omega
     have HA:=au (w_ dx (s+45) D HD.out W3 p v2 _ u zS F3.hq);have x5:=au F3;have HU:Hid (PU dx s W3 S bw bl bi ab D u):=F3.ls u (uj eu)
     have HT:Hid ((later.take (k+1)).foldl bG []=bG ((later.take k).foldl bG []) u):=by
      rw[Lb,eu,KG];rfl
     generalize ((later.take k).foldl bG [])=QK at HA x5 HT zS;generalize (D u).u=d0 at c0 F HA;generalize (D u).f1=d1 at c1 F HA;generalize (D u).p1=d2 at c1 F HA;generalize (D u).k1=d3 at c1 F HA;generalize (D u).f2=d4 at c2 F HA;generalize (D u).p2=d5 at c2 F HA;generalize (D u).k2=d6 at c2 F HA;generalize (D u).y=d7 at c3 F HA;clear F2 F3 q0 q1 q2 q3 eu hu h7 HI
     go_wp2_with (first
      |(go_at_call 199;rw[<-F];refine HA.out.mono ?_;rintro e w4 ⟨rfl,HQ⟩)
      |go_in)
     go_roundw
     case rel=>
      obtain⟨Kl,v4,xl,K4⟩:=HQ.out;exact⟨k+1,by omega,by simp,Kl,v4,by rw[HT.out];exact x5.out.push u HU.out xl K4⟩
     case measure=>simp[intOf];omega
    ·obtain rfl:k=later.length:=by omega
     obtain⟨dx,v2,F2⟩:=HI.out;rw[R3]at F2;have xe:Hid (yX bQ s w0 S bw bl bi ab D p P X (.returned u5) wr):=⟨dx,v2,u5,nZ,L,rfl,by rw[<-oo.out],by rw[<-oo.out];exact F2.done,by rw[<-oo.out];exact Tf⟩;clear F2 HI;go_wp2;go_ret;exact xe.out
  |cons u Q=>
   obtain⟨g,c,rfl,hp,x0,x1,x2,x3,x4⟩:=Fs.head;have HL:=au (w9 (some (aj g 0)) (Q.length+1) c wr);have he:=Fs.qs u (by simp);obtain⟨n1,n2,JQ,ho,T9,yq,x9,x8⟩:=he.fn;obtain⟨hv,Qe⟩:=rP.out M av Tf;have ey:(D u).y=yields u:=he.1.1;rw[JQ]at x2;rw[ho]at x3;rw[ey]at x4;obtain⟨W3,F⟩:∃W3,W3=wr.alloc (.cells #[(iZ (D u).u),.func (.func n1) (D u).p1 (D u).k1,.func (.func n2) (D u).p2 (D u).k2,.bool (yields u)] 304):=⟨_,rfl⟩
   have h7:aD wr W3:=by rw[F];exact(mR _ wr).alloc (fB _) _
   have B7:aA W3 wr.heap.size 304 [(iZ (D u).u),.func (.func n1) (D u).p1 (D u).k1,.func (.func n2) (D u).p2 (D u).k2,.bool (yields u)]:=by rw[F];exact aA.new wr 304 _
   have yi:wr.heap.size<W3.heap.size:=by rw[F];simp
   have K3:Kp [] oZ (loc oZ wr.heap.size) wr W3:=(pz oZ wr).trans (Kp.below h7);have F3:=Fs.new K3
   have U:Calls prog n1 ((D u).p1++(D u).k1) W3 fun e w'=>e=.returned (.bool (M.waits av u))/\aD W3 w':=x9 _ W3 M av (K3.mono (by simp)) F3.env hv
   have y5:loc oZ wr.heap.size wr.heap.size=0:=fD _ _ _ (fB _);obtain⟨m,rfl⟩:∃m,n=m+1:=⟨n-1,by omega⟩;have ya:u<48:=he.2
   have yz:(0:Int)<((Q.length+1:Nat):Int):=by omega
   cases h0:M.waits av u
   ·rw[h0]at U
    have O:bO m M av (jg (u::Q)) later room (L.map wz)=X:=by
     rw[<-tJ]
     conv=>rhs;unfold bO
     simp only[h0];rfl
    have Dg:Hid (∀w2,aD W3 w2->Calls prog 209 #[.iface 250 (ay p 0)] w2 fun e w'=>Ez e/\Hid (∃v2,l7 bQ s w0 S bw bl bi ab D p (loc oZ wr.heap.size) w' M av (jg (u::Q)) later L v2 u5 u6)):=fun w2 H=>by
     have F4:=F3.new (Kp.below H);obtain⟨g',c',e',Ow⟩:=F4.hq.hp (by simp);refine(EA _ (s+45) D HD.out w2 p g' c' (u::Q) Q.length rfl (by simp at zS;omega) Ow).mono ?_;rintro e w' ⟨i1,i2,i3⟩;exact⟨i1,_,F4.pop i2.hq i3⟩
    have x7:=au O;have HB:=au (And.intro Tf (And.intro hj (And.intro hm (And.intro zS (And.intro hc hf)))));generalize (D u).u=d0 at x1 F B7;generalize (D u).p1=d2 at x2 F B7 U;generalize (D u).k1=d3 at x2 F B7 U;generalize (D u).p2=d5 at x3 F B7;generalize (D u).k2=d6 at x3 F B7;clear Fs F3 K3 Tf hj hm zS hc hf tJ he x9 x8 O HF hp h0 hv Qe ey JQ ho h7
    go_wp2_with (first
     |(go_at_call 208;refine HL.out.mono ?_;rintro e w' ⟨rfl,rfl⟩)
     |(go_at_fn n1;rw[<-F];refine U.mono ?_;rintro e w2 ⟨rfl,H⟩)
     |(go_at_call 209;refine(Dg.out w2 H).mono ?_;rintro e w4 ⟨⟨vv,rfl⟩,y7⟩)
     |go_in)
    go_roundg (Q.length+room.toNat)
    case measure=>have:=HK.out;simp at this;omega
    case rel=>
     obtain⟨h1,h2,h3,h4,h5,h6⟩:=HB.out;obtain⟨v2,F5⟩:=y7.out
     have e1:(jg (u::Q)).length=Q.length:=by rw[yU];simp
     have xf:(u::Q).length=Q.length+1:=rfl;exact⟨room,_,M,av,jg (u::Q),later,L,v2,rfl,(⟨F5,h1,h2,h3,by omega,h5,m,by omega,x7.out⟩:_/\_),(by rw[e1];exact fB _:(jg (u::Q)).length+room.toNat<=Q.length+room.toNat)⟩
   ·rw[h0]at U
    have hg:∀w2,aD W3 w2->Calls prog n2 ((D u).p2.push (iZ room)++(D u).k2) w2 fun e w'=>gP (loc oZ wr.heap.size) s w2 S bw bl bi ab M av (M.frame av u room) e w':=fun w2 H=>
     x8 _ w2 M av room ((K3.mono (by simp)).trans (Kp.below H)) (F3.env.below H) hv (by show(M.waits av u&&u_ av)=true;rw[h0,Qe];rfl) (by omega)
    cases h9:M.frame av u room with
    |some r=>
     obtain⟨f,M',bH⟩:=r;rw[h9]at hg;obtain⟨xo,hZ,xt,y4,Zc⟩:=qQ.out M av u room f M' bH Tf ya h0 h9
     have O:bO m M' bH (u::Q) later (room-((aG f).length:Int)) (L.map wz++[f])=X:=by
      rw[<-tJ]
      conv=>rhs;unfold bO
      simp only[h0,if_true,h9]
     have Ah:Hid (∀w2,aD W3 w2->Calls prog n2 ((D u).p2.push (iZ room)++(D u).k2) w2 fun e w'=>∃G V z3 z4 K,e=.returned (.tuple #[bR G (.slice V z3 z4),.bool true])/\Hid (l7 bQ s w0 S bw bl bi ab D p K w' M' bH (u::Q) later L (aS g (Q.length+1) c) u5 u6/\LW K s w' (G,V,z3,z4)/\G=f)):=fun w2 H=>by
      refine(hg w2 H).mono ?_;rintro e w' ⟨x,b,K,rfl,hb,K5,E5,hx⟩;have xi:b=true:=hb;subst xi;obtain⟨q1,q2⟩:=hx _ rfl;exact⟨x.1,x.2.1,x.2.2.1,x.2.2.2,K,rfl,(F3.new (Kp.below H)).nxt K5 E5,q2,q1⟩
     have yY:Hid (∀I G V z3 z4 K,(l7 bQ s w0 S bw bl bi ab D p K I M' bH (u::Q) later L (aS g (Q.length+1) c) u5 u6/\LW K s I (G,V,z3,z4)/\G=f)->∃a6 c6 w6,(∀ty,(Builtin.append_ #[54,54] ty #[u5,(aS (I.heap.size+1) 1 1)]).run prog ((I.alloc (.cells (bZ G (.slice V z3 z4)).toArray 65)).alloc (.cells (bZ G (.slice V z3 z4)).toArray 65))=.ok (.slice a6 (L.length+1) c6) w6)/\aA w6 I.heap.size 65 (bZ G (.slice V z3 z4))/\
       Calls prog 210 #[bR G (.slice V z3 z4)] w6 fun e w'=>e=.returned (iZ ((aG f).length:Int))/\Hid (∃gq x,x.1=f/\l7 bQ s w0 S bw bl bi ab D p gq w' M' bH (u::Q) later (L++[x]) (aS g (Q.length+1) c) (.slice a6 (L.length+1) c6) u6)):=by
      rintro I G V z3 z4 K ⟨F5,xy,rfl⟩;obtain⟨W5,rQ⟩:∃W5,W5=(I.alloc (.cells (bZ G (.slice V z3 z4)).toArray 65)).alloc (.cells (bZ G (.slice V z3 z4)).toArray 65):=⟨_,rfl⟩
      have h8:aD I W5:=by rw[rQ];exact((mR _ I).alloc (fB _) _).alloc (by simp) _
      have b8:aA W5 I.heap.size 65 (bZ G (.slice V z3 z4)):=by rw[rQ];exact(aA.new I 65 _).alloc _
      have b9:aA W5 (I.heap.size+1) 65 (bZ G (.slice V z3 z4)):=by
       rw[rQ];have:=aA.new (I.alloc (.cells (bZ G (.slice V z3 z4)).toArray 65)) 65 (bZ G (.slice V z3 z4));rwa[World.size_alloc]at this
      have yv:I.heap.size<W5.heap.size:=by rw[rQ];simp;omega
      have K5:Kp [] K (loc K I.heap.size) I W5:=(pz K I).trans (Kp.below h8);have F6:=F5.new K5;have Zd:=xy.kp K5 (by simp)
      obtain⟨v',w6,gq,run,hG,K6⟩:=bW lS F6.fr (aj (I.heap.size+1) 0) 1 1 (bZ G (.slice V z3 z4)) rfl (CU _ _ rfl) (fun j y hy=>by
       have e:(aj (I.heap.size+1) 0).add j=(aj (I.heap.size+1) j):=by rw[Addr.add_lit,YF]
       rw[e,b9.cell,hy]) (by omega)
      obtain⟨a6,c6,rfl,_,_⟩:=hG.shape;rw[rQ]at run;have F7:=F6.app (G,V,z3,z4) Zd K6 hG;have ym:z3=G.ranges.length:=xy.len;have XR:=Zd.kp K6 (by simp);refine⟨a6,c6,w6,run,aO b8 K6 (by rw[fD _ _ _ (fB _)];simp),?_⟩;have hsz:=oV G V z4 w6 ⟨y4,Zc,XR.rng,XR.cap,fun y hy=>(XR.blk y hy).1,by omega⟩;rw[<-ym]at hsz;refine hsz.mono ?_;rintro e w' ⟨rfl,yd⟩;exact⟨rfl,gq,(G,V,z3,z4),rfl,F7.new (Kp.below yd)⟩
     have x7:=au O;have HB:=au (And.intro xo (And.intro hj (And.intro hm (And.intro zS (And.intro hc hf)))));generalize (aG f).length=Z at *
     have yy:IntKind.i64.wrap (room-(Z:Int))=room-(Z:Int):=by rw[IntKind.wrap_i64];omega
     have xv:Hid ((Z:Int)<=room/\0<Z):=⟨hZ,xt⟩;unfold bR at Ah yY;unfold bZ at yY;generalize (D u).u=d0 at x1 F B7;generalize (D u).p1=d2 at x2 F B7 U;generalize (D u).k1=d3 at x2 F B7 U;generalize (D u).p2=d5 at x3 F B7 Ah;generalize (D u).k2=d6 at x3 F B7 Ah;clear Fs F3 K3 Tf hj hm zS hc hf tJ he x9 x8 O HF hp h0 hv Qe ey JQ ho h7 hg h9 xo hZ xt y4 Zc
     go_wp2_with (first
      |(go_at_call 208;refine HL.out.mono ?_;rintro e w' ⟨rfl,Qf⟩;replace Qf:=Qf.symm;subst Qf)
      |(go_at_fn n1;rw[<-F];refine U.mono ?_;rintro e w2 ⟨rfl,H⟩;have y2:w2.cell? (aj wr.heap.size 2)=some (.func (.func n2) d5 d6):=(bI H B7).cell 2)
      |(go_at_fn n2;refine(Ah.out w2 H).mono ?_;rintro e I ⟨G,V,z3,z4,K,rfl,x6⟩;obtain⟨a6,c6,w6,Qg,b6,UY⟩:=yY.out I G V z3 z4 K x6.out;obtain⟨t0,t1,t2,t3,t4,t5,t6,t7,t8,t9,tf⟩:=aH b6;clear b6)
      |(at_builtin;refine Lib.wpList_append_run _ rfl _ _ _ _ rfl _ _ rfl rfl _ _ (Qg _) ?_)
      |(go_at_call 210;refine UY.mono ?_;rintro e w7 ⟨rfl,xd⟩)
      |go_in)
     go_roundg (Q.length+1+(room-(Z:Int)).toNat)
     case measure=>have:=HK.out;have h2:=xv.out;simp at this;omega
     case rel=>
      obtain⟨h1,h2,h3,h4,h5,h6⟩:=HB.out;obtain⟨gq,x,hx,F8⟩:=xd.out;have hz:=xv.out;have xf:(u::Q).length=Q.length+1:=rfl;exact⟨room-(Z:Int),gq,M',bH,u::Q,later,L++[x],_,rfl,(⟨F8,h1,by omega,by omega,by omega,by simp;omega,m,by omega,by rw[List.map_append];simp only[List.map_cons,List.map_nil,hx];exact x7.out⟩:_/\_),(fB _:(u::Q).length+(room-(Z:Int)).toNat<=Q.length+1+(room-(Z:Int)).toNat)⟩
    |none=>
     rw[h9]at hg
     have Ah:Hid (∀w2,aD W3 w2->Calls prog n2 ((D u).p2.push (iZ room)++(D u).k2) w2 fun e w'=>∃G V z3 z4 K,e=.returned (.tuple #[bR G (.slice V z3 z4),.bool false])/\aA w' wr.heap.size 304 [(iZ (D u).u),.func (.func n1) (D u).p1 (D u).k1,.func (.func n2) (D u).p2 (D u).k2,.bool (yields u)]/\Hid (l7 bQ s w0 S bw bl bi ab D p K w' M av (u::Q) later L (aS g (Q.length+1) c) u5 u6/\K wr.heap.size=0)):=fun w2 H=>by
      refine(hg w2 H).mono ?_;rintro e w' ⟨x,b,K,rfl,hb,K5,E5,hx⟩;have xi:b=false:=hb;subst xi;refine⟨x.1,x.2.1,x.2.2.1,x.2.2.2,K,rfl,aO (bI H B7) K5 (by rw[y5];exact fun e=>by have:=pq.1 e;omega),(F3.new (Kp.below H)).nxt K5 E5,by rw[K5.ext _ (tL yi H.size),y5]⟩
     have XT:[(iZ (D u).u),.func (.func n1) (D u).p1 (D u).k1,.func (.func n2) (D u).p2 (D u).k2,.bool (yields u)]=gH (D u):=by simp only[gH,JQ,ho,ey]
     cases hw:yields u
     ·have ha:(M,av,later.foldl bG (u::Q),L.map wz)=X:=by
       rw[<-tJ]
       conv=>rhs;unfold bO
       simp only[h0,if_true,h9,hw];rfl
      have yn:Hid (∀I K o,(l7 bQ s w0 S bw bl bi ab D p K I M av (u::Q) later L (aS g (Q.length+1) c) u5 u6/\K wr.heap.size=0)->l7 bQ s w0 S bw bl bi ab D p K (I.alloc o) M av (u::Q) later L (aS g (Q.length+1) c) u5 u6):=fun I K o h=>h.1.new (Kp.below ((mR _ I).alloc (fB _) _))
      rw[hw]at F B7 x4 Ah;unfold bR at Ah;obtain⟨la,lc,yk,_,_⟩:=Fs.la.shape;subst yk;have oo:=au ha
      have yf:later.length<=500:=by omega
      have yr:Q.length+1+later.length<=500:=by simp at zS;omega
      have y9:=au Tf;generalize (D u).u=d0 at x1 F B7 Ah;generalize (D u).p1=d2 at x2 F B7 U Ah;generalize (D u).k1=d3 at x2 F B7 U Ah;generalize (D u).p2=d5 at x3 F B7 Ah;generalize (D u).k2=d6 at x3 F B7 Ah;clear Fs F3 K3 Tf hj hm zS hc hf tJ he x9 x8 ha HF hp h0 hv Qe ey JQ ho h7 hg h9 hw XT
      go_wp2_with (first
       |(go_at_call 208;refine HL.out.mono ?_;rintro e w' ⟨rfl,Qf⟩;replace Qf:=Qf.symm;subst Qf)
       |(go_at_fn n1;rw[<-F];refine U.mono ?_;rintro e w2 ⟨rfl,H⟩;have y2:w2.cell? (aj wr.heap.size 2)=some (.func (.func n2) d5 d6):=(bI H B7).cell 2)
       |(go_at_fn n2;refine(Ah.out w2 H).mono ?_;rintro e I ⟨G,V,z3,z4,K,rfl,h8,x6⟩;have y3:(I.alloc (.cells #[iZ G.kind,iZ G.stream,uZ G.offset,uZ G.reliable,uZ G.limit,.bool G.fin,uZ G.id,uZ G.deadline,.string G.data,.slice V z3 z4] 65)).cell? (aj wr.heap.size 3)=some (.bool false):=(h8.alloc _).cell 3;have N_:=au (yn.out I K (.cells #[iZ G.kind,iZ G.stream,uZ G.offset,uZ G.reliable,uZ G.limit,.bool G.fin,uZ G.id,uZ G.deadline,.string G.data,.slice V z3 z4] 65) x6.out);clear h8)
       |go_in)
      go_loopw [57] (fun hn xm=>∃k:Nat,k<=later.length/\hn=(iZ k)/\Hid (∃dx v2,l7 bQ s w0 S bw bl bi ab D p dx xm M av ((later.take k).foldl bG (u::Q)) later L v2 u5 (.slice la later.length lc))) (fun hn _=>later.length-(intOf hn).toNat)
      case atStart=>exact⟨0,Nat.zero_le _,rfl,K,_,N_.out⟩
      case round=>
       obtain⟨k,hk,rfl,HI⟩:=hrel
       by_cases xj:k<later.length
       ·have xz:(k:Int)<(later.length:Int):=by omega
        obtain⟨dx,v2,F2⟩:=HI.out;obtain⟨uu,hu⟩:∃uu,uu=later.getD k 0:=⟨_,rfl⟩
        have eu:later[k]?=some uu:=by rw[hu,fA,Av xj];rfl
        obtain⟨q0,q1,q2,q3⟩:=kR D later k uu eu;obtain⟨gg,e1,_,_,c0,_⟩:=F2.la.cell _ _ q0;subst e1;obtain⟨g1,e1,_,_,c1,_⟩:=F2.la.cell _ _ q1;cases e1;obtain⟨g1,e1,_,_,c2,_⟩:=F2.la.cell _ _ q2;cases e1;obtain⟨g1,e1,_,_,c3,_⟩:=F2.la.cell _ _ q3;cases e1;obtain⟨W3,F⟩:∃W3,W3=wr.alloc (.cells #[(iZ (D uu).u),.func (D uu).f1 (D uu).p1 (D uu).k1,.func (D uu).f2 (D uu).p2 (D uu).k2,.bool (D uu).y] 304):=⟨_,rfl⟩
        have h7:aD wr W3:=by rw[F];exact(mR _ wr).alloc (fB _) _
        have F3:=F2.new (Kp.below h7)
        have zS:((later.take k).foldl bG (u::Q)).length<1000:=by rw[jy,nI];have xf:(u::Q).length=Q.length+1:=rfl;omega
        have HA:=au (w_ dx (s+45) D HD.out W3 p v2 _ uu zS F3.hq);have x5:=au F3;have HU:Hid (PU dx s W3 S bw bl bi ab D uu):=F3.ls uu (uj eu)
        have HT:Hid ((later.take (k+1)).foldl bG (u::Q)=bG ((later.take k).foldl bG (u::Q)) uu):=by
         rw[Lb,eu,KG];rfl
        generalize ((later.take k).foldl bG (u::Q))=QK at HA x5 HT zS;generalize (D uu).u=d0 at c0 F HA;generalize (D uu).f1=d1 at c1 F HA;generalize (D uu).p1=d2 at c1 F HA;generalize (D uu).k1=d3 at c1 F HA;generalize (D uu).f2=d4 at c2 F HA;generalize (D uu).p2=d5 at c2 F HA;generalize (D uu).k2=d6 at c2 F HA;generalize (D uu).y=d7 at c3 F HA;clear F2 F3 q0 q1 q2 q3 eu hu h7 HI
        go_wp2_with (first
         |(go_at_call 199;rw[<-F];refine HA.out.mono ?_;rintro e w4 ⟨rfl,HQ⟩)
         |go_in)
        go_roundw
        case rel=>
         obtain⟨Kl,v4,xl,K4⟩:=HQ.out;exact⟨k+1,by omega,by simp,Kl,v4,by rw[HT.out];exact x5.out.push uu HU.out xl K4⟩
        case measure=>simp[intOf];omega
       ·obtain rfl:k=later.length:=by omega
        obtain⟨dx,v2,F2⟩:=HI.out;rw[R3]at F2;have xe:Hid (yX bQ s w0 S bw bl bi ab D p P X (.returned u5) wr):=⟨dx,v2,u5,nZ,L,rfl,by rw[<-oo.out],by rw[<-oo.out];exact F2.done,by rw[<-oo.out];exact y9.out⟩;clear F2 HI;go_wp2;go_ret;exact xe.out
     ·have O:bO m M av (jg (u::Q)) (later++[u]) room (L.map wz)=X:=by
       rw[<-tJ]
       conv=>rhs;unfold bO
       simp only[h0,if_true,h9,hw]
      have Dg:Hid (∀I K o,(l7 bQ s w0 S bw bl bi ab D p K I M av (u::Q) later L (aS g (Q.length+1) c) u5 u6/\K wr.heap.size=0)->aA I wr.heap.size 304 [(iZ (D u).u),.func (.func n1) (D u).p1 (D u).k1,.func (.func n2) (D u).p2 (D u).k2,.bool (yields u)]->Calls prog 209 #[.iface 250 (ay p 0)] (I.alloc o) fun e w'=>Ez e/\aA w' wr.heap.size 304 [(iZ (D u).u),.func (.func n1) (D u).p1 (D u).k1,.func (.func n2) (D u).p2 (D u).k2,.bool (yields u)]/\Hid (∃v2,l7 bQ s w0 S bw bl bi ab D p K w' M av (jg (u::Q)) later L v2 u5 u6/\PU K s w' S bw bl bi ab D u)):=by
       rintro I K o ⟨F5,o5⟩ ye;have xx:aD I (I.alloc o):=(mR _ I).alloc (fB _) _;have F6:=F5.new (Kp.below xx);obtain⟨g',c',e',Ow⟩:=F6.hq.hp (by simp);refine(EA _ (s+45) D HD.out (I.alloc o) p g' c' (u::Q) Q.length rfl (by simp at zS;omega) Ow).mono ?_;rintro e w' ⟨i1,i2,i3⟩;exact⟨i1,aO (bI xx ye) i3 (by rw[o5];simp),_,F6.pop i2.hq i3,(F6.qs u (by simp)).kp (i3.mono fun x hx=>f_.2 (by simp at hx;omega))⟩
      have yY:Hid (∀w5 K v2,l7 bQ s w0 S bw bl bi ab D p K w5 M av (jg (u::Q)) later L v2 u5 u6->PU K s w5 S bw bl bi ab D u->∃a6 c6 w6,(∀ty,(Builtin.append_ #[300,300] ty #[u6,aS w5.heap.size 1 1]).run prog (w5.alloc (.cells #[(iZ (D u).u),.func (.func n1) (D u).p1 (D u).k1,.func (.func n2) (D u).p2 (D u).k2,.bool (yields u)] 304))=.ok (.slice a6 (later.length+1) c6) w6)/\Hid (∃gq,l7 bQ s w0 S bw bl bi ab D p gq w6 M av (jg (u::Q)) (later++[u]) L v2 u5 (.slice a6 (later.length+1) c6))):=by
       intro w5 K v2 F5 yp;obtain⟨W5,rQ⟩:∃W5,W5=w5.alloc (.cells #[(iZ (D u).u),.func (.func n1) (D u).p1 (D u).k1,.func (.func n2) (D u).p2 (D u).k2,.bool (yields u)] 304):=⟨_,rfl⟩
       have h8:aD w5 W5:=by rw[rQ];exact(mR _ w5).alloc (fB _) _
       have b9:aA W5 w5.heap.size 304 (gH (D u)):=by rw[rQ,<-XT];exact aA.new w5 304 _
       have F6:=F5.new (Kp.below (oZ:=K) h8)
       obtain⟨v',w6,gq,run,hG,K6⟩:=bW Y2 F6.la (aj w5.heap.size 0) 1 1 (gH (D u)) rfl (yw _) (fun j y hy=>by
        have e:(aj w5.heap.size 0).add j=(aj w5.heap.size j):=by rw[Addr.add_lit,YF]
        rw[e,b9.cell,hy]) (by omega)
       obtain⟨a6,c6,rfl,_,_⟩:=hG.shape;rw[rQ]at run;exact⟨a6,c6,w6,run,gq,F6.lat u (yp.kp (Kp.below h8)) K6 hG⟩
      have x7:=au O;have HB:=au (And.intro Tf (And.intro hj (And.intro hm (And.intro zS (And.intro hc hf)))));rw[hw]at F B7 x4 Ah Dg yY;unfold bR at Ah;generalize (D u).u=d0 at x1 F B7 Ah Dg yY;generalize (D u).p1=d2 at x2 F B7 U Ah Dg yY;generalize (D u).k1=d3 at x2 F B7 U Ah Dg yY;generalize (D u).p2=d5 at x3 F B7 Ah Dg yY;generalize (D u).k2=d6 at x3 F B7 Ah Dg yY;clear Fs F3 K3 Tf hj hm zS hc hf tJ he x9 x8 O HF hp h0 hv Qe ey JQ ho h7 hg h9 hw XT
      go_wp2_with (first
       |(go_at_call 208;refine HL.out.mono ?_;rintro e w' ⟨rfl,Qf⟩;replace Qf:=Qf.symm;subst Qf)
       |(go_at_fn n1;rw[<-F];refine U.mono ?_;rintro e w2 ⟨rfl,H⟩;have y2:w2.cell? (aj wr.heap.size 2)=some (.func (.func n2) d5 d6):=(bI H B7).cell 2)
       |(go_at_fn n2;refine(Ah.out w2 H).mono ?_;rintro e I ⟨G,V,z3,z4,K,rfl,h8,x6⟩;have y3:(I.alloc (.cells #[iZ G.kind,iZ G.stream,uZ G.offset,uZ G.reliable,uZ G.limit,.bool G.fin,uZ G.id,uZ G.deadline,.string G.data,.slice V z3 z4] 65)).cell? (aj wr.heap.size 3)=some (.bool true):=(h8.alloc _).cell 3;have y6:=au h8;clear h8)
       |(go_at_call 209;refine(Dg.out I K _ x6.out y6.out).mono ?_;rintro e w5 ⟨⟨vv,rfl⟩,xa,xn⟩;have k0:w5.cell? (aj wr.heap.size 0)=some (iZ d0):=xa.cell 0;have k1:w5.cell? (aj wr.heap.size 1)=some (.func (.func n1) d2 d3):=xa.cell 1;have k2:w5.cell? (aj wr.heap.size 2)=some (.func (.func n2) d5 d6):=xa.cell 2;have k3:w5.cell? (aj wr.heap.size 3)=some (.bool true):=xa.cell 3;obtain⟨v2,F6,Ze⟩:=xn.out;obtain⟨a6,c6,w6,Qg,xd⟩:=yY.out w5 K v2 F6 Ze;clear xa F6 Ze xn)
       |(at_builtin;refine Lib.wpList_append_run _ rfl _ _ _ _ rfl _ _ rfl rfl _ _ (Qg _) ?_)
       |go_in)
      go_roundg (Q.length+room.toNat)
      case measure=>have:=HK.out;simp at this;omega
      case rel=>
       obtain⟨h1,h2,h3,h4,h5,h6⟩:=HB.out;obtain⟨gq,F8⟩:=xd.out
       have e1:(jg (u::Q)).length=Q.length:=by rw[yU];simp
       have xf:(u::Q).length=Q.length+1:=rfl;exact⟨room,gq,M,av,jg (u::Q),later++[u],L,v2,rfl,(⟨F8,h1,h2,h3,by simp;omega,h5,m,by omega,x7.out⟩:_/\_),(by rw[e1];exact fB _:(jg (u::Q)).length+room.toNat<=Q.length+room.toNat)⟩
