import Derived.Test.YtphbledmopchnaaGreatDoorKgc
open Go.RowKit.Below renaming refl->uj,heap_setCell->Kt
open Bool renaming and_eq_true->mR
open List renaming getD_eq_getElem?_getD->jK,length_take->nI,mem_append->wz,length_append->Bu,mem_singleton->CK,getElem?_take_of_lt->DJ,length_drop->Gl,all_eq_true->Lb,mem_range->M4
open Nat renaming lt_of_lt_of_le->tL,le_refl->tT,succ_pos->Si
set_option maxHeartbeats 2000000
set_option maxRecDepth 100000
namespace Go.Proofs.YtphbledmopchnaaGreatDoor.Sd
open Go.RowKit Go.Lib Mm Tryz
def Hu:Value:=.agg #[.int .i64 0,.nilFunc,.nilFunc,.bool false]
theorem Yf:Df 300 304 Hu 4 32:=⟨by kernel_rfl,by kernel_rfl,fun n=>by simp[Hu,Builtin.zeroCells,Value.cells],fun n v F=>by
 simp[Hu,Builtin.zeroCells,Value.cells]at F;obtain⟨i,_,rfl⟩:=F
 have:i % 4=0\/i % 4=1\/i % 4=2\/i % 4=3:=by omega
 rcases this with h|h|h|h<;>rw[h]<;>rfl,by omega⟩
structure vD (own:Own) (t:Nat) (D:Nat->Src) (w:World) (p:Nat) (v:Value) (Q:List Nat):Prop where
 op:own p=t+1
 pb:ak w p 300 [v]
 sr:GT own t 304 4 w v Q.length (qC D Q)
theorem uq(D:Nat->Src):∀(Q:List Nat) (u:Nat),qC D (Q++[u])=qC D Q++fI (D u)
 |[],u=>by simp[qC]
 |x::Q,u=>by show fI (D x)++qC D (Q++[u])=(fI (D x)++qC D Q)++fI (D u);rw[uq D Q u,List.append_assoc]
theorem PE(own:Own)(t:Nat)(D:Nat->Src)(w:World)(p:Nat)(v:Value)(Q:List Nat)(u:Nat)(hl:Q.length<=1000)(h:vD own t D w p v Q):
  Calls prog 377 #[.pointer (some ⟨p,0,none⟩),.iface 304 (.agg #[.int .i64 (D u).u,.func (D u).f1 (D u).p1 (D u).k1,.func (D u).f2 (D u).p2 (D u).k2,.bool (D u).y])] w fun e w'=>e=.returned (.tuple #[])/\Hid (∃own' v',vD own' t D w' p v' (Q++[u])/\Kp [t,t+1] own own' w w'):=by
 obtain⟨a,c,rfl,_,_⟩:=h.sr.shape;have hp:w.cell? ⟨p,0,none⟩=some (.slice a Q.length c):=h.pb.cell 0;have U:=h.pb.lt;obtain⟨W,hW⟩:∃W,W=(w.alloc (.cells (fI (D u)).toArray 304)).drew:=⟨_,rfl⟩
 have hb:ak W w.heap.size 304 (fI (D u)):=by rw[hW];exact ak.new w 304 _
 have G:Below w.heap.size w W:=by
  rw[hW];have F:=(uj w.heap.size w).alloc (tT _) (.cells (fI (D u)).toArray 304);exact⟨F.os,F.tape,F.output,F.size,F.block⟩
 obtain⟨v',w',own',run,hG,Z⟩:=bU Yf (h.sr.kp (T:=[]) (Kp.below G) (by simp)) ⟨w.heap.size,0,none⟩ 1 1 (fI (D u)) (by simp) (wZ _) (fun j x hx=>by
  have e:(⟨w.heap.size,0,none⟩:Addr).add j=⟨w.heap.size,j,none⟩:=by simp[Addr.add];omega
  rw[e,hb.cell,hx]) (by omega)
 have I:=aK (h.pb.of_heap (G.block _ U)) Z (by rw[h.op];simp);obtain⟨V,X,rfl,_,_⟩:=hG.shape;have y0:=I.cell 0;have yf:=I.frozen 0;simp only[List.getElem?_cons_zero]at y0
 have H:own' p=t+1:=by rw[Z.ext _ (tL U G.size),h.op]
 have O:Kp [t+1] own' own' w' (w'.setCell ⟨p,0,none⟩ (.slice V (Q.length+1) X)):=((jD.refl p w').set 0 _).kpt (by rw[H];simp)
 have HF:Hid (∃own' h0,vD own' t D (w'.setCell ⟨p,0,none⟩ (.slice V (Q.length+1) X)) p h0 (Q++[u])/\Kp [t,t+1] own own' w (w'.setCell ⟨p,0,none⟩ (.slice V (Q.length+1) X))):=by
  refine⟨own',.slice V (Q.length+1) X,⟨H,I.setCell 0 _,?_⟩,(((Kp.below G).trans (Z.mono (by simp))).trans (O.mono (by simp)))⟩;rw[uq,Bu];exact hG.kp O (by simp)
 have h2:∀w',(Instr.typeAssert (.iface 304 (.agg #[.int .i64 (D u).u,.func (D u).f1 (D u).p1 (D u).k1,.func (D u).f2 (D u).p2 (D u).k2,.bool (D u).y])) 20 304 false).run prog w'=.ok (.agg #[.int .i64 (D u).u,.func (D u).f1 (D u).p1 (D u).k1,.func (D u).f2 (D u).p2 (D u).k2,.bool (D u).y]) w':=fun _=>by kernel_rfl
 rw[hW]at run;clear hG Z I H O hb G hW h hl;go_enter func377,ntmps377
 go_wp2_with fail
 go_region_law (refine fT _ (by rfl) _ _ _ _ (by rfl) _ _ (by rfl) (by rfl) _ _ (run _) ?_)
 all_goals go_wp2_with fail
 all_goals go_end0
 all_goals exact⟨rfl,HF⟩
theorem vD.hp{own:Own}{t:Nat}{D:Nat->Src}{w:World}{p:Nat}{v:Value}{Q:List Nat}(h:vD own t D w p v Q)(F:0<Q.length):∃g c,v=.slice (some ⟨g,0,none⟩) Q.length c/\rM own t D w p g c Q:=by
 have hs:=h.sr
 rcases hs with⟨_,G,_⟩|⟨g,cap,cs,rfl,ho,h3⟩
 ·omega
 ·exact⟨g,cap,rfl,h.op,h.pb,ho,h.sr⟩
theorem rM.hq{own:Own}{t:Nat}{D:Nat->Src}{w:World}{p g c:Nat}{Q:List Nat}(h:rM own t D w p g c Q):vD own t D w p (.slice (some ⟨g,0,none⟩) Q.length c) Q:=⟨h.op,h.pb,h.sr.2⟩
theorem Jv:∀(k:Nat) (l:List Nat) (j:Nat),(wo k l j).length=l.length
 |0,_,_=>rfl
 |k+1,l,j=>by
  simp only[wo];split
  ·rfl
  ·rw[Jv k,jo]
theorem Me(own:Own)(t:Nat)(D:Nat->Src)(hD:∀u:Nat,(D u).u=(u:Int))(w:World)(p:Nat)(v:Value)(Q:List Nat)(u:Nat)(hl:Q.length<1000)(h:vD own t D w p v Q):
  Calls prog 244 #[.iface 250 (.pointer (some ⟨p,0,none⟩)),.iface 304 (.agg #[.int .i64 (D u).u,.func (D u).f1 (D u).p1 (D u).k1,.func (D u).f2 (D u).p2 (D u).k2,.bool (D u).y])] w fun e w'=>e=.returned (.tuple #[])/\Hid (∃own' v',vD own' t D w' p v' (aZ Q u)/\Kp [t,t+1] own own' w w'):=by
 have U:=hid (PE own t D w p v Q u (by omega) h);obtain⟨n,hn⟩:∃n,n=Q.length:=⟨_,rfl⟩;have O:=hid (And.intro hn hl)
 have h7:n<1000:=by omega
 have h6:=Wz p
 have g1:(n:Int)+1-1=(n:Int):=by omega
 clear hn hl h;generalize (.agg #[.int .i64 (D u).u,.func (D u).f1 (D u).p1 (D u).k1,.func (D u).f2 (D u).p2 (D u).k2,.bool (D u).y]:Value)=xv at *;go_enter func244,ntmps244
 go_wp2_with fail
 refine U.out.mono ?_;rintro e y ⟨rfl,X⟩;obtain⟨Z,v1,h1,h2⟩:=X.out;obtain⟨g,c,rfl,H⟩:=h1.hp (by simp)
 have F:(Q++[u]).length=n+1:=by have:=O.out.1;simp;omega
 have hp:y.cell? ⟨p,0,none⟩=some (.slice (some ⟨g,0,none⟩) (n+1) c):=by rw[H.pb.cell,<-F];rfl
 have h0:=Vq p y _ _ _ hp;have Vr:=hid (vM (some ⟨g,0,none⟩) (n+1) c y);have V:=hid (SV Z t D hD y p g c (Q++[u]) n (by omega) (by omega) H);have I:=hid h2
 have G:Hid (aZ Q u=wo (n+1) (Q++[u]) n):=by unfold Hid aZ;rw[<-O.out.1]
 clear h1 h2 H hp F X U hD
 go_wp2_with fail
 refine Vr.out.mono ?_;rintro e z ⟨rfl,rfl⟩
 go_wp2_with fail
 refine V.out.mono ?_;rintro e z2 ⟨rfl,h4,h5⟩
 have HF:Hid (∃own' v',vD own' t D z2 p v' (aZ Q u)/\Kp [t,t+1] own own' w z2):=by
  rw[G.out];exact⟨Z,_,h4.hq,I.out.trans (h5.mono (by simp))⟩
 clear h4 h5 V I G
 go_wp2_with fail
 go_end0;exact⟨rfl,HF⟩
theorem vD.below{own:Own}{t:Nat}{D:Nat->Src}{w w':World}{p:Nat}{v:Value}{Q:List Nat}(h:vD own t D w p v Q)(hb:Below w.heap.size w w'):vD own t D w' p v Q:=
 ⟨h.op,h.pb.of_heap (hb.block _ h.pb.lt),h.sr.kp (T:=[]) (Kp.below hb) (by simp)⟩
theorem vO(own:Own)(t:Nat)(D:Nat->Src)(I:∀u:Nat,(D u).u=(u:Int))(w:World)(p:Nat)(v:Value)(Q:List Nat)(u:Nat)(hl:Q.length<1000)(h:vD own t D w p v Q):
  Calls prog 199 #[.pointer (some ⟨p,0,none⟩),.agg #[.int .i64 (D u).u,.func (D u).f1 (D u).p1 (D u).k1,.func (D u).f2 (D u).p2 (D u).k2,.bool (D u).y]] w fun e w'=>e=.returned (.tuple #[])/\Hid (∃own' v',vD own' t D w' p v' (aZ Q u)/\Kp [t,t+1] own own' w w'):=by
 obtain⟨W,G⟩:∃W,W=w.alloc (.cells (fI (D u)).toArray 304):=⟨_,rfl⟩
 have F:Below w.heap.size w W:=by rw[G];exact(uj _ w).alloc (tT _) _
 have H:Hid (Calls prog 244 #[.iface 250 (.pointer (some ⟨p,0,none⟩)),.iface 304 (.agg #[.int .i64 (D u).u,.func (D u).f1 (D u).p1 (D u).k1,.func (D u).f2 (D u).p2 (D u).k2,.bool (D u).y])] W fun e w'=>e=.returned (.tuple #[])/\Hid (∃own' v',vD own' t D w' p v' (aZ Q u)/\Kp [t,t+1] own own' w w')):=by
  refine(Me own t D I W p v Q u hl (h.below F)).mono ?_;rintro e w' ⟨rfl,own',v',h1,U⟩;exact⟨rfl,own',v',h1,(Kp.below F).trans U⟩
 clear I h hl F;unfold fI at G;generalize D u=s at *;go_enter func199,ntmps199
 go_wp2_with fail
 rw[<-G];refine H.out.mono ?_;rintro e y ⟨rfl,O⟩;clear H G
 go_wp2_with fail
 go_end0;exact⟨rfl,O⟩
section
def uw(left:List (Nat×Nat)):Bool:=(List.range left.length).all (nD left)&&decide (left.length<=100)
theorem Uj{left:List (Nat×Nat)}(h:uw left=true)(n:Nat)(H:0<n)(I:n<=left.length):lU (left.take n)=true:=by
 unfold uw at h;rw[mR]at h;unfold lU;rw[mR]
 have hl:(left.take n).length=n:=by rw[nI];omega
 refine⟨Lb.2 fun i hi=>?_,decide_eq_true (by omega)⟩;rw[hl]at hi;have F:=M4.1 hi;have:=Lb.1 h.1 i (M4.2 (by omega))
 have g:∀j,j<n->(left.take n).getD j (0,0)=left.getD j (0,0):=fun j G=>by
  rw[jK,jK,DJ G]
 unfold nD at this ⊢;rw[g i F,g (i-1) (by omega)];exact this
theorem Ce{w:World}{rb off:Nat}{left:List (Nat×Nat)}(h:fq w (some ⟨rb,off,none⟩) left)(n:Nat):fq w (some ⟨rb,off,none⟩) (left.take n):=fun j I=>by
 rw[nI]at I;obtain⟨b,o,h1,F,G,H⟩:=h j (by omega)
 have g:(left.take n).getD j (0,0)=left.getD j (0,0):=by rw[jK,jK,DJ (by omega)]
 exact⟨b,o,h1,by rw[g];exact F,by rw[g];exact G,by rw[g];exact H⟩
theorem PG{w:World}{rb off:Nat}{left:List (Nat×Nat)}(h:fq w (some ⟨rb,off,none⟩) left)(n:Nat):fq w (some ⟨rb,off+n*2,none⟩) (left.drop n):=fun j I=>by
 rw[Gl]at I;obtain⟨b,o,h1,F,G,H⟩:=h (n+j) (by omega);simp only[Option.some.injEq,Addr.mk.injEq,and_true]at h1;obtain⟨rfl,rfl⟩:=h1
 have g:(left.drop n).getD j (0,0)=left.getD (n+j) (0,0):=by rw[jK,jK,List.getElem?_drop]
 rw[g];refine⟨rb,off+n*2,rfl,?_,?_,H⟩
 ·rw[show off+n*2+j*2=off+(n+j)*2 by omega];exact F
 ·rw[show off+n*2+j*2=off+(n+j)*2 by omega];exact G
theorem PI{left:List (Nat×Nat)}(F:uw left=true){w:World}{rb off:Nat}(H:fq w (some ⟨rb,off,none⟩) left)(hb:rb<w.heap.size)(n:Nat)(I:0<n)(Z:n<=left.length):
  Calls prog 210 #[.agg #[.int .i64 2,.int .i64 0,.int .u64 0,.int .u64 0,.int .u64 0,.bool false,.int .u64 0,.int .u64 0,.string ⟨#[]⟩,.slice (some ⟨rb,off,none⟩) n n]] w fun e w'=>e=.returned (.int .i64 ((aB (cZ (left.take n))).length:Int))/\Below w.heap.size w w':=by
 have hl:(left.take n).length=n:=by rw[nI];omega
 have Ya:left.length<=100:=by
  unfold uw at F;rw[mR]at F;exact of_decide_eq_true F.2
 have hs:snd (cZ (left.take n))=true:=by
  have:=Uj F n I Z;unfold snd kG jf cZ;simp[this]
 have G:(aB (cZ (left.take n))).length<=1000000:=by
  have h1:=Ia (cZ (left.take n));have O:(cZ (left.take n)).data.size=0:=rfl;have U:(cZ (left.take n)).ranges.length=n:=hl;rw[O,U]at h1;omega
 have:=qW (cZ (left.take n)) (some ⟨rb,off,none⟩) n w ⟨hs,⟨by show(left.take n).length<=_;omega,by show 0<=_;omega,by show(-9223372036854775808:Int)<=2/\(2:Int)<=_;omega,by show(-9223372036854775808:Int)<=0/\(0:Int)<=_;omega,by show(0:Nat)<_/\(0:Nat)<_/\(0:Nat)<_/\(0:Nat)<_/\(0:Nat)<_;omega,fun j X=>by obtain⟨_,_,_,_,_,V⟩:=Ce H n j X;exact V⟩,Ce H n,by show(left.take n).length<=n;omega,(fun x hx=>by cases hx;exact hb),G⟩
 have e:bJ (cZ (left.take n)) (.slice (some ⟨rb,off,none⟩) (cZ (left.take n)).ranges.length n)=.agg #[.int .i64 2,.int .i64 0,.int .u64 0,.int .u64 0,.int .u64 0,.bool false,.int .u64 0,.int .u64 0,.string ⟨#[]⟩,.slice (some ⟨rb,off,none⟩) n n]:=by
  show Value.agg _=Value.agg _;rw[show(cZ (left.take n)).ranges.length=n from hl];rfl
 rw[e]at this;exact this
section
variable {own:Own} {s:Nat} {w0:World} {S bw bl bi ab:Nat}
theorem Ib(left:List (Nat×Nat))(room:Int)(n:Nat):bN left room (n+1)=if((aB (cZ (left.take (n+1)))).length:Int)<=room then n+1 else bN left room n:=rfl
theorem Mh:iO own s w0 S bw bl bi ab 247 #[.pointer (some ⟨ab,0,none⟩)] #[] (fun _ left=>decide (0<left.length)&&uw left) fun M left room=>if bN left room left.length=0 then none else some (cZ (left.take (bN left room left.length)),M,left.drop (bN left room left.length)):=by
 intro own' w M left room K hE hW xd xo;rw[mR]at xd;obtain⟨xa,h7⟩:=xd;have h0:=of_decide_eq_true xa;have xj:=hE;obtain⟨l,vc,hS,hA⟩:=xj;obtain⟨xe,v,hv,hr⟩:=hA
 rcases hr with⟨_,h2⟩|⟨rb,off,c,rfl,hlc,hc,hrb,orb,WT⟩
 ·rw[h2]at h0;exact absurd h0 (by simp)
 have hy:=hS.s0;obtain⟨W,h5⟩:∃W,W=w.alloc (.cells kD.toArray 65):=⟨_,rfl⟩
 have I:Below w.heap.size w W:=by rw[h5];exact(uj _ w).alloc (tT _) _
 have hu:ak W w.heap.size 65 kD:=by rw[h5];exact ak.new w 65 _
 have hsz:w.heap.size<W.heap.size:=by rw[h5];simp
 have Yg:=hv.lt;obtain⟨L,hL⟩:∃L,L=left.length:=⟨_,rfl⟩
 have O:Hid (∀n W',0<n->n<=L->Below w.heap.size w W'->Calls prog 210 #[.agg #[.int .i64 2,.int .i64 0,.int .u64 0,.int .u64 0,.int .u64 0,.bool false,.int .u64 0,.int .u64 0,.string ⟨#[]⟩,.slice (some ⟨rb,off,none⟩) n n]] W' fun e w'=>e=.returned (.int .i64 ((aB (cZ (left.take n))).length:Int))/\Below W'.heap.size W' w'):=fun n W' a b hb=>PI h7 (WT.below hb) (tL hrb hb.size) n a (by omega)
 have F:Hid (∀W',Below W.heap.size W W'->W'.cell? ⟨ab,0,none⟩=some (.slice (some ⟨rb,off,none⟩) L c)/\W'.frozen? ⟨ab,0,none⟩=false/\ak W' w.heap.size 65 kD/\Below w.heap.size w W'):=fun W' hb=>by
  have b1:=bV hb (bV I hv);exact⟨by rw[hL];exact b1.cell 0,b1.frozen 0,bV hb hu,I.trans (hb.mono I.size)⟩
 show Calls prog 247 #[.pointer (some ⟨ab,0,none⟩),.int .i64 room] w fun e w'=>iJ own' s w S bw bl bi ab M left (if bN left room left.length=0 then none else some (cZ (left.take (bN left room left.length)),M,left.drop (bN left room left.length))) e w'
 rw[<-hL]
 have hf:Hid (∀wr U,Below W.heap.size W wr->jD w.heap.size wr U->bN left room L=0->iJ own' s w S bw bl bi ab M left (if bN left room L=0 then none else some (cZ (left.take (bN left room L)),M,left.drop (bN left room L))) (.returned (.tuple #[bJ dW (.slice none 0 0),.bool false])) U):=fun wr U hb ht xi=>by
  rw[if_pos xi];have hk:Env (loc own' w.heap.size) s wr S bw bl bi ab M left:=((hE.kp (qo own' w) (by simp) (by simp) (by simp)).below I).below hb;exact iJ.wrap (x:=dM) (aL:=loc own' w.heap.size) hy I hsz rfl (Kp.below hb) hk (fun z hz=>by cases hz) ht
 have h9:Hid (∀n wr U v',0<n->n<=L->bN left room L=n->Below W.heap.size W wr->(v'=.slice (some ⟨rb,off+n*2,none⟩) (L-n) (c-n)\/c=n/\v'=.slice (some ⟨rb,off,none⟩) (L-n) 0)->jD w.heap.size (wr.setCell ⟨ab,0,none⟩ v') U->iJ own' s w S bw bl bi ab M left (if bN left room L=0 then none else some (cZ (left.take (bN left room L)),M,left.drop (bN left room L))) (.returned (.tuple #[(.agg #[.int .i64 2,.int .i64 0,.int .u64 0,.int .u64 0,.int .u64 0,.bool false,.int .u64 0,.int .u64 0,.string ⟨#[]⟩,.slice (some ⟨rb,off,none⟩) n n]),.bool true])) U):=fun n wr U v' h1 h2 h3 hb h8 ht=>by
  rw[if_neg (by omega),h3];have hm:Below w.heap.size w wr:=I.trans (hb.mono I.size)
  have Yh:(loc own' w.heap.size) ab=s+48:=by rw[fH _ _ _ Yg];exact xe
  have PL:(loc own' w.heap.size) rb=s+49:=by rw[fH _ _ _ hrb];exact orb
  have Ks:Kp [s+48] (loc own' w.heap.size) (loc own' w.heap.size) wr (wr.setCell ⟨ab,0,none⟩ v'):=Kp.set _ wr _ _ [s+48] (by show(loc own' w.heap.size) ab∈_;rw[Yh];simp);have xl:bM (loc own' w.heap.size) s wr S l M bw bl bi vc:=(hS.loc I).below hb;have Yi:rb<wr.heap.size:=tL hrb hm.size;have Vx:=WT.below hm
  have hk:Env (loc own' w.heap.size) s (wr.setCell ⟨ab,0,none⟩ v') S bw bl bi ab M (left.drop n):=by
   refine⟨l,vc,xl.kp Ks (fun x h1 h2 e=>by simp at e;omega),Yh,_,(bV hm hv).setCell 0 _,?_⟩
   rcases h8 with h8|⟨xr,h8⟩
   ·exact .inr ⟨rb,off+n*2,c-n,by rw[h8,Gl,hL],by rw[Gl];omega,by omega,by simp;omega,PL,GH (PG Vx n) Ks Yi (by rw[PL];simp)⟩
   ·have hw:left.drop n=[]:=List.drop_of_length_le (by omega);rw[hw];exact .inr ⟨rb,off,0,by rw[h8,show L-n=0 by omega];rfl,tT _,by omega,by simp;omega,PL,fun j hj=>absurd hj (Nat.not_lt_zero _)⟩
  have hl:(left.take n).length=n:=by rw[nI];omega
  refine iJ.wrap (r:=some (cZ (left.take n),M,left.drop n)) (x:=(cZ (left.take n),some ⟨rb,off,none⟩,n,n)) (aL:=loc own' w.heap.size) hy I hsz rfl ((Kp.below hb).trans (Ks.mono fun x hx=>qm.2 (.inr (by simpa using hx)))) hk (fun z hz=>?_) ht;cases hz;refine⟨rfl,hl.symm,by show(left.take n).length<=n;omega,GH (Ce Vx n) Ks Yi (by rw[PL];simp),fun a ha=>?_,fun xn=>absurd rfl xn⟩;cases ha;exact⟨by simp;omega,PL,rfl⟩
 generalize hX:(if bN left room L=0 then none else some (cZ (left.take (bN left room L)),M,left.drop (bN left room L)))=X at *;clear hX
 have xt:L<=c:=by omega
 have xv:L<=1000000000:=by
  unfold uw at h7;rw[mR]at h7;have:=of_decide_eq_true h7.2;omega
 have xp:0<L:=by omega
 clear hE hS hW hv WT xe orb h7 xa h0 K hu hlc hrb hsz;clear hL;unfold kD at h5;subst h5;go_enter func247,ntmps247;obtain⟨z0,z1,z2,z3⟩:=F.out _ (uj _ _);go_wp2
 go_loopw [6] (fun s6 wr=>∃n:Nat,n<=L/\s6=.int .i64 n/\Hid (bN left room n=bN left room L/\Below (w.alloc (.cells #[.int .i64 0,.int .i64 0,.int .u64 0,.int .u64 0,.int .u64 0,.bool false,.int .u64 0,.int .u64 0,.string ⟨#[]⟩,.slice none 0 0] 65)).heap.size (w.alloc (.cells #[.int .i64 0,.int .i64 0,.int .u64 0,.int .u64 0,.int .u64 0,.bool false,.int .u64 0,.int .u64 0,.string ⟨#[]⟩,.slice none 0 0] 65)) wr)) (fun s6 _=>(intOf s6).toNat)
 case atStart=>exact⟨L,tT _,rfl,(⟨rfl,uj _ _⟩:_/\_)⟩
 case round=>
  obtain⟨n,hn,rfl,HI⟩:=hrel;have he:=F.out wr HI.out.2
  cases n with
  |zero=>
   obtain⟨y0,y1,y2,y3,y4,y5,y6,y7,y8,y9,yf⟩:=aA he.2.2.1;have qX:=hid he.2.2.1;clear z0 z1 z2 z3 he;go_wp2;rw[dw];have gU:=bY qX.out (.int .i64 0) (.int .i64 0) (.int .u64 0) (.int .u64 0) (.int .u64 0) (.bool false) (.int .u64 0) (.int .u64 0) (.string ⟨#[]⟩) (.slice none 0 0);have l7:=bZ wr w.heap.size (.int .i64 0) (.int .i64 0) (.int .u64 0) (.int .u64 0) (.int .u64 0) (.bool false) (.int .u64 0) (.int .u64 0) (.string ⟨#[]⟩) (.slice none 0 0);generalize gZ wr w.heap.size (.int .i64 0) (.int .i64 0) (.int .u64 0) (.int .u64 0) (.int .u64 0) (.bool false) (.int .u64 0) (.int .u64 0) (.string ⟨#[]⟩) (.slice none 0 0)=U at *;obtain⟨a0,a1,a2,a3,a4,a5,a6,a7,a8,a9,_⟩:=aA gU;exact bodyPost_ret (v:=.tuple #[bJ dW (.slice none 0 0),.bool false]) (by simp[results,results247,go_sem,a0,a1,a2,a3,a4,a5,a6,a7,a8,a9,bJ,dW]) rfl (hf.out wr U HI.out.2 l7 HI.out.1.symm)
  |succ m=>
   obtain⟨q0,q1,q2,q3⟩:=he;obtain⟨W3,h6⟩:∃W3,W3=wr.alloc (.cells #[.int .i64 2,.int .i64 0,.int .u64 0,.int .u64 0,.int .u64 0,.bool false,.int .u64 0,.int .u64 0,.string ⟨#[]⟩,.slice (some ⟨rb,off,none⟩) (m+1) (m+1)] 65):=⟨_,rfl⟩
   have ho:Below wr.heap.size wr W3:=by rw[h6];exact(uj _ wr).alloc (tT _) _
   have WU:=HI.out.2.trans (ho.mono HI.out.2.size)
   have LA:ak W3 wr.heap.size 65 [.int .i64 2,.int .i64 0,.int .u64 0,.int .u64 0,.int .u64 0,.bool false,.int .u64 0,.int .u64 0,.string ⟨#[]⟩,.slice (some ⟨rb,off,none⟩) (m+1) (m+1)]:=by rw[h6];exact ak.new wr 65 _
   have hsz:=O.out (m+1) W3 (by omega) hn (F.out W3 WU).2.2.2;have G:=hid (And.intro WU LA)
   have k1:((m:Int)+1)<=(c:Int):=by omega
   have k2:m+1<=c:=by omega
   have k3:(0:Int)<(m:Int)+1:=by omega
   have k4:((m:Int)+1)<=(L:Int):=by omega
   have k5:m+1<=L:=hn
   have k6:(L:Int)<=(c:Int):=by omega
   have V:=Ib left room m;generalize (aB (cZ (left.take (m+1)))).length=Z at *;clear z0 z1 z2 z3 ho WU LA q2 q3
   by_cases hz:(Z:Int)<=room
   ·rw[if_pos hz]at V;have hg:=hid V;clear V
    have Zp:¬(wr.heap.size=ab):=fun e=>by have h1:=HI.out.2.size;simp at h1;omega
    have Z5:¬(ab=wr.heap.size):=fun e=>Zp e.symm
    have Yj:w.heap.size≠ab:=by omega
    have Z6:¬(w.heap.size=ab):=by omega
    have xy:¬(ab=w.heap.size):=by omega
    have Zq:¬(wr.heap.size=w.heap.size):=fun e=>by have h1:=HI.out.2.size;simp at h1;omega
    have Z7:¬(w.heap.size=wr.heap.size):=fun e=>Zq e.symm
    have f1:bN left room L=m+1:=by rw[<-HI.out.1];exact hg.out
    by_cases xm:c=m+1
    ·subst xm
     go_wp2_with (first
      |(go_at_call 210;rw[<-h6];refine hsz.mono ?_;rintro e w2 ⟨rfl,H⟩;obtain⟨p0,p1,p2,p3⟩:=F.out w2 (G.out.1.trans (H.mono G.out.1.size));obtain⟨y0,y1,y2,y3,y4,y5,y6,y7,y8,y9,yf⟩:=aA p2;have qX:=hid p2;obtain⟨x0,x1,x2,x3,x4,x5,x6,x7,x8,x9,xf⟩:=aA (bV H G.out.2);clear p2)
      |go_in)
     rw[dw];have h4:ak (w2.setCell ⟨ab,0,none⟩ (.slice (some ⟨rb,off,none⟩) 0 0)) w.heap.size 65 kD:=qX.out.of_heap (Kt _ _ _ _ Yj);have gU:=bY h4 (.int .i64 2) (.int .i64 0) (.int .u64 0) (.int .u64 0) (.int .u64 0) (.bool false) (.int .u64 0) (.int .u64 0) (.string ⟨#[]⟩) (.slice (some ⟨rb,off,none⟩) (m+1) (m+1));have l7:=bZ (w2.setCell ⟨ab,0,none⟩ (.slice (some ⟨rb,off,none⟩) 0 0)) w.heap.size (.int .i64 2) (.int .i64 0) (.int .u64 0) (.int .u64 0) (.int .u64 0) (.bool false) (.int .u64 0) (.int .u64 0) (.string ⟨#[]⟩) (.slice (some ⟨rb,off,none⟩) (m+1) (m+1));generalize gZ (w2.setCell ⟨ab,0,none⟩ (.slice (some ⟨rb,off,none⟩) 0 0)) w.heap.size (.int .i64 2) (.int .i64 0) (.int .u64 0) (.int .u64 0) (.int .u64 0) (.bool false) (.int .u64 0) (.int .u64 0) (.string ⟨#[]⟩) (.slice (some ⟨rb,off,none⟩) (m+1) (m+1))=U at *;obtain⟨a0,a1,a2,a3,a4,a5,a6,a7,a8,a9,_⟩:=aA gU;have f3:=h9.out (m+1) w2 U (.slice (some ⟨rb,off,none⟩) 0 0) (Si _) hn f1 (G.out.1.trans (H.mono G.out.1.size)) (.inr ⟨rfl,by rw[show L-(m+1)=0 by omega]⟩) l7;clear gU l7 h4 h9 hf F O
     (try simp only[Exit.inBlock,Exit.then])
     exact bodyPost_ret (v:=.tuple #[(.agg #[.int .i64 2,.int .i64 0,.int .u64 0,.int .u64 0,.int .u64 0,.bool false,.int .u64 0,.int .u64 0,.string ⟨#[]⟩,.slice (some ⟨rb,off,none⟩) (m+1) (m+1)]),.bool true]) (by simp[results,results247,go_sem,a0,a1,a2,a3,a4,a5,a6,a7,a8,a9]) rfl f3
    ·skip
     go_wp2_with (first
      |(go_at_call 210;rw[<-h6];refine hsz.mono ?_;rintro e w2 ⟨rfl,H⟩;obtain⟨p0,p1,p2,p3⟩:=F.out w2 (G.out.1.trans (H.mono G.out.1.size));obtain⟨y0,y1,y2,y3,y4,y5,y6,y7,y8,y9,yf⟩:=aA p2;have qX:=hid p2;obtain⟨x0,x1,x2,x3,x4,x5,x6,x7,x8,x9,xf⟩:=aA (bV H G.out.2);clear p2)
      |go_in)
     rw[dw];have h4:ak (w2.setCell ⟨ab,0,none⟩ (.slice (some ⟨rb,off+(m+1)*2,none⟩) (L-(m+1)) (c-(m+1)))) w.heap.size 65 kD:=qX.out.of_heap (Kt _ _ _ _ Yj);have gU:=bY h4 (.int .i64 2) (.int .i64 0) (.int .u64 0) (.int .u64 0) (.int .u64 0) (.bool false) (.int .u64 0) (.int .u64 0) (.string ⟨#[]⟩) (.slice (some ⟨rb,off,none⟩) (m+1) (m+1));have l7:=bZ (w2.setCell ⟨ab,0,none⟩ (.slice (some ⟨rb,off+(m+1)*2,none⟩) (L-(m+1)) (c-(m+1)))) w.heap.size (.int .i64 2) (.int .i64 0) (.int .u64 0) (.int .u64 0) (.int .u64 0) (.bool false) (.int .u64 0) (.int .u64 0) (.string ⟨#[]⟩) (.slice (some ⟨rb,off,none⟩) (m+1) (m+1));generalize gZ (w2.setCell ⟨ab,0,none⟩ (.slice (some ⟨rb,off+(m+1)*2,none⟩) (L-(m+1)) (c-(m+1)))) w.heap.size (.int .i64 2) (.int .i64 0) (.int .u64 0) (.int .u64 0) (.int .u64 0) (.bool false) (.int .u64 0) (.int .u64 0) (.string ⟨#[]⟩) (.slice (some ⟨rb,off,none⟩) (m+1) (m+1))=U at *;obtain⟨a0,a1,a2,a3,a4,a5,a6,a7,a8,a9,_⟩:=aA gU;have f3:=h9.out (m+1) w2 U (.slice (some ⟨rb,off+(m+1)*2,none⟩) (L-(m+1)) (c-(m+1))) (Si _) hn f1 (G.out.1.trans (H.mono G.out.1.size)) (.inl rfl) l7;clear gU l7 h4 h9 hf F O
     (try simp only[Exit.inBlock,Exit.then])
     exact bodyPost_ret (v:=.tuple #[(.agg #[.int .i64 2,.int .i64 0,.int .u64 0,.int .u64 0,.int .u64 0,.bool false,.int .u64 0,.int .u64 0,.string ⟨#[]⟩,.slice (some ⟨rb,off,none⟩) (m+1) (m+1)]),.bool true]) (by simp[results,results247,go_sem,a0,a1,a2,a3,a4,a5,a6,a7,a8,a9]) rfl f3
   ·rw[if_neg hz]at V;have hg:=hid V;clear V;have xx:¬((Z:Int)<=room):=hz
    go_wp2_with (first
     |(go_at_call 210;rw[<-h6];refine hsz.mono ?_;rintro e w2 ⟨rfl,H⟩)
     |go_in)
    go_roundw
    case rel=>exact⟨m,by omega,by simp,(⟨by rw[<-HI.out.1];exact hg.out.symm,G.out.1.trans (H.mono G.out.1.size)⟩:_/\_)⟩
    case measure=>simp[intOf]
end

end
def Lp(P:Nat->Prop)(l:List Nat):Prop:=∀x∈l,P x
theorem Lp.getD{P:Nat->Prop}(F:P 0){l:List Nat}(h:Lp P l)(j:Nat):P (l.getD j 0):=by
 rw[jK]
 cases G:l[j]? with
 |none=>exact F
 |some v=>exact h v (List.mem_of_getElem? G)
theorem Lp.set{P:Nat->Prop}{l:List Nat}(h:Lp P l)(i v:Nat)(G:P v):Lp P (l.set i v):=fun x F=>by
 rcases List.mem_or_eq_of_mem_set F with F|F
 ·exact h x F
 ·rw[F];exact G
theorem Lp.sw{P:Nat->Prop}(F:P 0){l:List Nat}(h:Lp P l)(i j:Nat):Lp P (sw l i j):=(h.set i _ (h.getD F j)).set j _ (h.getD F i)
theorem Lp.down{P:Nat->Prop}(F:P 0):∀(k:Nat) {l:List Nat} (i n:Nat),Lp P l->Lp P (gK k l i n)
 |0,_,_,_,h=>h
 |k+1,l,i,n,h=>by
  unfold gK;generalize (if 2*i+2<n/\l.getD (2*i+2) 0<l.getD (2*i+1) 0 then 2*i+2 else 2*i+1)=j;split
  ·exact h
  ·simp only;split
   ·exact Lp.down F k _ _ (h.sw F _ _)
   ·exact h
theorem Lp.up{P:Nat->Prop}(F:P 0):∀(k:Nat) {l:List Nat} (i:Nat),Lp P l->Lp P (wo k l i)
 |0,_,_,h=>h
 |k+1,l,i,h=>by
  unfold wo;split
  ·exact h
  ·exact Lp.up F k _ (h.sw F _ _)
theorem Lp.pop{P:Nat->Prop}(F:P 0){l:List Nat}(h:Lp P l):Lp P (iQ l):=fun x G=>Lp.down F _ _ _ (h.sw F _ _) x (List.mem_of_mem_take G)
theorem Lp.app{P:Nat->Prop}{l m:List Nat}(h:Lp P l)(g:Lp P m):Lp P (l++m):=fun x F=>(wz.1 F).elim (h x) (g x)
theorem Lp.one{P:Nat->Prop}{u:Nat}(h:P u):Lp P [u]:=fun x F=>by rw[CK.1 F];exact h
theorem Lp.push{P:Nat->Prop}(F:P 0){l:List Nat}(h:Lp P l)(u:Nat)(G:P u):Lp P (aZ l u):=Lp.up F _ _ (h.app (Lp.one G))
theorem iW(l:List Nat)(u:Nat):(aZ l u).length=l.length+1:=by unfold aZ;rw[Jv];simp
theorem yt(l:List Nat):(iQ l).length=l.length-1:=by unfold iQ;rw[nI,tX,jo];omega
def lK(own:Own)(s:Nat)(w:World)(S bw bl bi ab:Nat)(D:Nat->Src)(u:Nat):Prop:=
 (D u).y=yields u/\fU own s w S bw bl bi ab (D u) (fun M left=>M.waits left u) (fun M left=>M.waits left u&&uw left) (fun M left room=>M.frame left u room)
theorem lK.kp{own F:Own}{s:Nat}{w w1:World}{S bw bl bi ab:Nat}{D:Nat->Src}{u:Nat}(h:lK own s w S bw bl bi ab D u)(K:Kp (Tb s) own F w w1):lK F s w1 S bw bl bi ab D u:=⟨h.1,h.2.kp K⟩
structure Vy (own:Own) (s:Nat) (w:World) (S bw bl bi ab:Nat) (D:Nat->Src) (p:Nat) (v:Value) (Q:List Nat):Prop where
 hd:∀u:Nat,(D u).u=(u:Int)
 hq:vD own (s+45) D w p v Q
 hs:Lp (lK own s w S bw bl bi ab D) Q
theorem Vy.kp{own F:Own}{s:Nat}{w w1:World}{S bw bl bi ab:Nat}{D:Nat->Src}{p:Nat}{v:Value}{Q:List Nat}{T:List Nat}(h:Vy own s w S bw bl bi ab D p v Q)(K:Kp T own F w w1)(H:∀x∈T,x∈Tb s)(h1:s+45∉T)(G:s+46∉T):Vy F s w1 S bw bl bi ab D p v Q:=
 ⟨h.hd,⟨by rw[K.ext p h.hq.pb.lt,h.hq.op],aK h.hq.pb K (by rw[h.hq.op];exact G),h.hq.sr.kp K h1⟩,fun u I=>(h.hs u I).kp (K.mono H)⟩
theorem yu(D F:Nat->Src):∀(Q:List Nat),(∀u∈Q,D u=F u)->qC D Q=qC F Q
 |[],_=>rfl
 |x::t,h=>by show fI (D x)++qC D t=fI (F x)++qC F t;rw[h x (by simp),yu D F t fun u G=>h u (by simp[G])]
theorem WV{own:Own}{s:Nat}{S bw bl bi ab:Nat}{D:Nat->Src}{p:Nat}{v:Value}{Q:List Nat}(w:World)(h:Vy own s w S bw bl bi ab D p v Q)(x:Src)(u:Nat)(hu:x.u=(u:Int))(hy:x.y=yields u)(hn:u∉Q)(hl:Q.length<1000)(hx:fU own s w S bw bl bi ab x (fun M left=>M.waits left u) (fun M left=>M.waits left u&&uw left) (fun M left room=>M.frame left u room))(H:u=0\/0∈Q):
  Calls prog 199 #[.pointer (some ⟨p,0,none⟩),jG x] w fun e w'=>e=.returned (.tuple #[])/\∃own' F v',Vy own' s w' S bw bl bi ab F p v' (aZ Q u)/\Kp [s+45,s+46] own own' w w':=by
 obtain⟨F,I⟩:∃F:Nat->Src,F=fun j=>if j=u then x else D j:=⟨_,rfl⟩
 have V:F u=x:=by rw[I];exact if_pos rfl
 have en:∀j,j≠u->F j=D j:=fun j G=>by rw[I];exact if_neg G
 have U:∀j:Nat,(F j).u=(j:Int):=fun j=>by
  by_cases G:j=u
  ·rw[G,V];exact hu
  ·rw[en j G];exact h.hd j
 have X:vD own (s+45) F w p v Q:=⟨h.hq.op,h.hq.pb,by rw[yu F D Q fun j G=>en j (fun e=>hn (e▸G))];exact h.hq.sr⟩
 have hU:∀j∈Q,lK own s w S bw bl bi ab F j:=fun j G=>by
  have:=h.hs j G;unfold lK at this ⊢;rw[en j (fun e=>hn (e▸G))];exact this
 have O:lK own s w S bw bl bi ab F u:=by
  unfold lK;rw[V];exact⟨hy,hx⟩
 have:=vO own (s+45) F U w p v Q u hl X;rw[V]at this;refine this.mono ?_;rintro e w' ⟨rfl,own',v',Z,K⟩;have K':Kp [s+45,s+46] own own' w w':=K
 have KT:Kp (Tb s) own own' w w':=K'.mono fun z hz=>fB.2 (by simp at hz;omega)
 refine⟨rfl,own',F,v',⟨U,Z,fun j G=>lK.kp ?_ KT⟩,K'⟩
 exact Lp.push (P:=lK own s w S bw bl bi ab F) (by
  rcases H with H|H
  ·rw[<-H];exact O
  ·exact hU 0 H) hU u O j G
def PU(own:Own)(s:Nat)(w:World)(S bw bl bi ab:Nat)(D:Nat->Src)(u:Nat):Prop:=lK own s w S bw bl bi ab D u/\u<48
theorem PU.kp{own F:Own}{s:Nat}{w w1:World}{S bw bl bi ab:Nat}{D:Nat->Src}{u:Nat}(h:PU own s w S bw bl bi ab D u)(K:Kp (Tb s) own F w w1):PU F s w1 S bw bl bi ab D u:=⟨h.1.kp K,h.2⟩
def Tg(s:Nat):List Nat:=List.range' s 47++[s+48,s+50,s+51]
theorem jZ{s x:Nat}:x∈Tg s↔(s<=x/\x<s+47)\/x=s+48\/x=s+50\/x=s+51:=by
 unfold Tg;rw[wz,List.mem_range'];simp only[List.mem_cons,List.not_mem_nil,or_false];refine or_congr ⟨?_,?_⟩ Iff.rfl
 ·rintro⟨i,h,rfl⟩;omega
 ·rintro⟨h1,F⟩;exact⟨x-s,by omega,by omega⟩
theorem Vz(s:Nat):∀x∈Tg s,x∈Tb s:=fun x F=>fB.2 (by have:=jZ.1 F;omega)
structure kQ (aI:Own) (s:Nat) (w0:World) (S bw bl bi ab:Nat) (D:Nat->Src) (p:Nat) (own:Own) (w:World) (M:Side) (left:List (Nat×Nat)) (Q later:List Nat) (L:List FV) (v vl vt:Value):Prop where
 hq:vD own (s+45) D w p v Q
 qs:Lp (PU own s w S bw bl bi ab D) Q
 ls:Lp (PU own s w S bw bl bi ab D) later
 z:PU own s w S bw bl bi ab D 0
 env:Env own s w S bw bl bi ab M left
 fr:GT own (s+50) 65 10 w vl L.length (lS L)
 fv:∀x∈L,MO own s w x
 la:GT own (s+51) 304 4 w vt later.length (qC D later)
 kp:Kp (Tg s) aI own w0 w
 nl:L=[]->vl=.slice none 0 0
theorem MO.kp{own own':Own}{s:Nat}{w w':World}{x:FV}{T:List Nat}(h:MO own s w x)(K:Kp T own own' w w')(V:s+49∉T):MO own' s w' x:=by
 refine⟨h.len,h.cap,fun j Z=>?_,fun a X=>?_,h.nil⟩
 ·obtain⟨b,o,H,I,O,U⟩:=h.rng j Z;obtain⟨F,G,_⟩:=h.blk _ H;have e:=K.blk b F (by rw[G];exact V);exact⟨b,o,H,cell_of I e,cell_of O e,U⟩
 ·obtain⟨F,G,q3⟩:=h.blk a X;exact⟨tL F K.size,by rw[K.ext _ F,G],q3⟩
theorem vD.kp{own own':Own}{t:Nat}{D:Nat->Src}{w w':World}{p:Nat}{v:Value}{Q:List Nat}{T:List Nat}(h:vD own t D w p v Q)(K:Kp T own own' w w')(h1:t∉T)(F:t+1∉T):vD own' t D w' p v Q:=
 ⟨by rw[K.ext p h.pb.lt,h.op],aK h.pb K (by rw[h.op];exact F),h.sr.kp K h1⟩
theorem kQ.new{aI:Own}{s:Nat}{w0:World}{S bw bl bi ab:Nat}{D:Nat->Src}{p:Nat}{own own':Own}{w w':World}{M:Side}{left:List (Nat×Nat)}{Q later:List Nat}{L:List FV}{v vl vt:Value}(h:kQ aI s w0 S bw bl bi ab D p own w M left Q later L v vl vt)(K:Kp [] own own' w w'):kQ aI s w0 S bw bl bi ab D p own' w' M left Q later L v vl vt:=
 ⟨h.hq.kp K (by simp) (by simp),fun u F=>(h.qs u F).kp (K.mono (by simp)),fun u F=>(h.ls u F).kp (K.mono (by simp)),h.z.kp (K.mono (by simp)),h.env.kp K (by simp) (by simp) (by simp),h.fr.kp K (by simp),fun x G=>(h.fv x G).kp K (by simp),h.la.kp K (by simp),h.kp.trans (K.mono (by simp)),h.nl⟩
theorem kQ.pop{aI:Own}{s:Nat}{w0:World}{S bw bl bi ab:Nat}{D:Nat->Src}{p:Nat}{own:Own}{w w':World}{M:Side}{left:List (Nat×Nat)}{Q later:List Nat}{L:List FV}{v v' vl vt:Value}(h:kQ aI s w0 S bw bl bi ab D p own w M left Q later L v vl vt)(hq:vD own (s+45) D w' p v' (iQ Q))(K:Kp [s+45,s+45+1] own own w w'):
  kQ aI s w0 S bw bl bi ab D p own w' M left (iQ Q) later L v' vl vt:=by
 have G:Kp (Tb s) own own w w':=K.mono fun x F=>fB.2 (by simp at F;omega)
 have I:Kp (Tg s) own own w w':=K.mono fun x F=>jZ.2 (by simp at F;omega)
 exact⟨hq,fun u H=>(Lp.pop h.z h.qs u H).kp G,fun u H=>(h.ls u H).kp G,h.z.kp G,h.env.kp K (by simp;omega) (by simp) (by simp),h.fr.kp K (by simp),fun x F=>(h.fv x F).kp K (by simp),h.la.kp K (by simp),h.kp.trans I,h.nl⟩
theorem kQ.nxt{aI:Own}{s:Nat}{w0:World}{S bw bl bi ab:Nat}{D:Nat->Src}{p:Nat}{own own':Own}{w w':World}{M M':Side}{left left':List (Nat×Nat)}{Q later:List Nat}{L:List FV}{v vl vt:Value}(h:kQ aI s w0 S bw bl bi ab D p own w M left Q later L v vl vt)(K:Kp (Tn s) own own' w w')(O:Env own' s w' S bw bl bi ab M' left'):
  kQ aI s w0 S bw bl bi ab D p own' w' M' left' Q later L v vl vt:=by
 have G:Kp (Tb s) own own' w w':=K.mono (XU s)
 have I:Kp (Tg s) own own' w w':=K.mono fun x F=>jZ.2 (by have:=qm.1 F;omega)
 have e:∀x,x∈Tn s->(s<=x/\x<s+45)\/x=s+48:=fun x F=>qm.1 F
 exact⟨h.hq.kp K (fun x=>by have:=e _ x;omega) (fun x=>by have:=e _ x;omega),fun u H=>(h.qs u H).kp G,fun u H=>(h.ls u H).kp G,h.z.kp G,O,h.fr.kp K (fun x=>by have:=e _ x;omega),fun x F=>(h.fv x F).kp K (fun x=>by have:=e _ x;omega),h.la.kp K (fun x=>by have:=e _ x;omega),h.kp.trans I,h.nl⟩
theorem kQ.app{aI:Own}{s:Nat}{w0:World}{S bw bl bi ab:Nat}{D:Nat->Src}{p:Nat}{own own':Own}{w w':World}{M:Side}{left:List (Nat×Nat)}{Q later:List Nat}{L:List FV}{v vl H vt:Value}(h:kQ aI s w0 S bw bl bi ab D p own w M left Q later L v vl vt)(x:FV)(F:MO own s w x)(K:Kp [s+50] own own' w w')(V:GT own' (s+50) 65 10 w' H (L.length+1) (lS L++bX x.1 (j5 x))):
  kQ aI s w0 S bw bl bi ab D p own' w' M left Q later (L++[x]) v H vt:=by
 have I:Kp (Tb s) own own' w w':=K.mono fun x F=>fB.2 (by simp at F;omega)
 have U:Kp (Tg s) own own' w w':=K.mono fun x F=>jZ.2 (by simp at F;omega)
 refine⟨h.hq.kp K (by simp) (by simp),fun u O=>(h.qs u O).kp I,fun u O=>(h.ls u O).kp I,h.z.kp I,h.env.kp K (by simp;omega) (by simp) (by simp),?_,fun y G=>?_,h.la.kp K (by simp),h.kp.trans U,fun e=>absurd e (by simp)⟩
 ·rw[rz,Bu];simpa[lS]using V
 ·rcases wz.1 G with G|G
  ·exact(h.fv y G).kp K (by simp)
  ·rw[CK.1 G];exact F.kp K (by simp)
theorem kQ.lat{aI:Own}{s:Nat}{w0:World}{S bw bl bi ab:Nat}{D:Nat->Src}{p:Nat}{own own':Own}{w w':World}{M:Side}{left:List (Nat×Nat)}{Q later:List Nat}{L:List FV}{v vl vt G:Value}(h:kQ aI s w0 S bw bl bi ab D p own w M left Q later L v vl vt)(u:Nat)(I:PU own s w S bw bl bi ab D u)(K:Kp [s+51] own own' w w')(V:GT own' (s+51) 304 4 w' G (later.length+1) (qC D later++fI (D u))):
  kQ aI s w0 S bw bl bi ab D p own' w' M left Q (later++[u]) L v vl G:=by
 have H:Kp (Tb s) own own' w w':=K.mono fun x O=>fB.2 (by simp at O;omega)
 have U:Kp (Tg s) own own' w w':=K.mono fun x O=>jZ.2 (by simp at O;omega)
 refine⟨h.hq.kp K (by simp) (by simp),fun u I=>(h.qs u I).kp H,fun j F=>?_,h.z.kp H,h.env.kp K (by simp;omega) (by simp) (by simp),h.fr.kp K (by simp),fun y X=>(h.fv y X).kp K (by simp),?_,h.kp.trans U,h.nl⟩
 ·rcases wz.1 F with F|F
  ·exact(h.ls j F).kp H
  ·rw[CK.1 F];exact I.kp H
 ·rw[uq,Bu];exact V
theorem PU.fn{own:Own}{s:Nat}{w:World}{S bw bl bi ab:Nat}{D:Nat->Src}{u:Nat}(h:PU own s w S bw bl bi ab D u):∃n1 n2,(D u).f1=.func n1/\(D u).f2=.func n2/\(∀args w,(callFunc n1 args).run prog w=.ok (.enter n1 args) w)/\(∀args w,(callFunc n2 args).run prog w=.ok (.enter n2 args) w)/\
  lH own s w S bw bl bi ab n1 (D u).p1 (D u).k1 (fun M left=>M.waits left u)/\iO own s w S bw bl bi ab n2 (D u).p2 (D u).k2 (fun M left=>M.waits left u&&uw left) (fun M left room=>M.frame left u room):=h.1.2.fn
theorem kQ.head{aI:Own}{s:Nat}{w0:World}{S bw bl bi ab:Nat}{D:Nat->Src}{p:Nat}{own:Own}{w:World}{M:Side}{left:List (Nat×Nat)}{u:Nat}{Q later:List Nat}{L:List FV}{v vl vt:Value}(h:kQ aI s w0 S bw bl bi ab D p own w M left (u::Q) later L v vl vt):
  ∃g c,v=.slice (some ⟨g,0,none⟩) (Q.length+1) c/\rM own (s+45) D w p g c (u::Q)/\w.cell? ⟨p,0,none⟩=some (.slice (some ⟨g,0,none⟩) (Q.length+1) c)/\
   w.cell? ⟨g,0,none⟩=some (.int .i64 (D u).u)/\w.cell? ⟨g,1,none⟩=some (.func (D u).f1 (D u).p1 (D u).k1)/\w.cell? ⟨g,2,none⟩=some (.func (D u).f2 (D u).p2 (D u).k2)/\w.cell? ⟨g,3,none⟩=some (.bool (D u).y):=by
 obtain⟨g,c,rfl,hp⟩:=h.hq.hp (by simp);obtain⟨q0,H,I,O⟩:=jS D (u::Q) 0 u rfl
 have F:∀k x,(qC D (u::Q))[k]?=some x->w.cell? ⟨g,k,none⟩=some x:=fun k x G=>by
  obtain⟨g',e,_,_,r,_⟩:=hp.sr.2.cell k x G;cases e;exact r
 exact⟨g,c,rfl,hp,hp.pb.cell 0,F _ _ (by simpa using q0),F _ _ (by simpa using H),F _ _ (by simpa using I),F _ _ (by simpa using O)⟩
end Go.Proofs.YtphbledmopchnaaGreatDoor.Sd
