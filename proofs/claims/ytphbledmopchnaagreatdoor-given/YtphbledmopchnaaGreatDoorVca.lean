import Derived.Test.YtphbledmopchnaaGreatDoorVbe
import Derived.Sort.MapsRangeIn
open Go.Builtin renaming zeroCells->eB,append_->mE,firstCells->mK
open List renaming getElem?_eq_getElem->fA,take_add_one->mR,takeWhile_cons->nU,range'->nV,mem_range'->tu,replicate->tO
open Prod renaming fst->mI,snd->nI
open Go.RowKit renaming intOf->eT
open Go.Value renaming bool->fB,int->fE,cells->tT
open Go.World renaming putObj_heap_other->l9,putObj_heap_same->nA,alloc_heap_new->nL,size_alloc->qd
set_option maxHeartbeats 4000000
set_option maxRecDepth 100000
open Go renaming World->Wq,Value->Wx,Calls->WA,TypeId->WK,bodyPost_ret->VH,Addr->XK
set_option linter.all false
namespace Go.Proofs.YtphbledmopchnaaGreatDoor.Sd
open Go.RowKit Go.Lib Mm Tryz
variable {M M':av}{S bi bl bw i n s x:Nat}{T:List Nat}{W d w w' w0 y:Wq}{a b v:Wx}{aX oZ:Own}{c:av->bY->Bool}{k p:Array Wx}{l:bM}{nx:av->bY->Int->Option (Fr×av×bY)}
def Nt.st(S o g w l)(a:aS w S TS l)(h:zR l o g):(∀x:Nat,gZ w (w.setCell (aA S (o+2)) (uZ x)) S l (l.set (o+2) (uZ x)) o 4/\zR (l.set (o+2) (uZ x)) o {g with eH:=x})/\(∀x:Nat,gZ w (w.setCell (aA S (o+3)) (uZ x)) S l (l.set (o+3) (uZ x)) o 4/\zR (l.set (o+3) (uZ x)) o {g with aT:=x}):=
 ⟨fun x=>⟨gZ.one a _ _ _ _ aj aj,by rw[ay _ _ _ _ aj,h.c0],by rw[ay _ _ _ _ aj,h.c1],cZ _ _ _ _ h.c2,by rw[ay _ _ _ _ aj,h.c3]⟩,fun x=>⟨gZ.one a _ _ _ _ aj aj,by rw[ay _ _ _ _ aj,h.c0],by rw[ay _ _ _ _ aj,h.c1],by rw[ay _ _ _ _ aj,h.c2],cZ _ _ _ _ h.c3⟩⟩
def qgg(o g)(a:aS w S TS l)(h:zR l o g):bN 395 #[aK S o] w (.tuple #[]) fun d=>∃c,gZ w d S l c o 4/\zR c o g.kY:=by
 have e:w.cell? (aA S (o+2))=some (uZ g.eH):=by rw[a.cell];exact h.c2
 have f2:=a.frozen (o+2);have b:=aG ((Nt.st S o g w l a h).1 18446744073709551615);rw[show((18446744073709551615:Nat):Int)=18446744073709551615 from rfl]at b;clear h a;go_enter func395,ntmps395;go_wp2;go_end0;exact⟨rfl,_,b.out⟩
theorem UU(o g f d)(i:aS w S TS l)(h:zR l o g):bN 342 #[aK S o,eX f d] w (.tuple #[]) fun r=>∃n,gZ w r S l n o 4/\zR n o (g.aw f.aO):=by
 obtain⟨m,t,b⟩:=min2 g.eH f.aO;have p:Hid (g.aw f.aO={g with eH:=m}):=by unfold Hid;rw[b];rfl
 obtain⟨W,c⟩:=bU (w.alloc (.cells (f_ f d).toArray 65));have k:aS W w.heap.size 65 (f_ f d):=by grind [aS.new]
 have a:aS W S TS l:=by rw[c];exact i.alloc _
 have j:bJ w W:=by rw[c];exact(bP _ w).alloc (aI _) _
 have e:=aG ((Nt.st S o g W l a h).1 m);have u:W.cell? (aA w.heap.size 3)=some (uZ f.aO):=k.cell 3;have s:W.cell? (aA S (o+2))=some (uZ g.eH):=by rw[a.cell];exact h.c2
 have f2:=a.frozen (o+2);have q:=aG j;clear h i k a j b;unfold eX;unfold f_ at c;go_enter func342,ntmps342;go_wp2_with fail;rw[<-c];clear c;go_region
 all_goals go_wp2
 all_goals go_end0
 all_goals exact⟨rfl,_,gZ.after q.out e.out.1.drew,by rw[p.out];exact e.out.2⟩
theorem qgh(o g f d)(i:aS w S TS l)(h:zR l o g):bN 394 #[aK S o,eX f d] w (.tuple #[]) fun r=>∃n,gZ w r S l n o 4/\zR n o (g.cm f.aO):=by
 obtain⟨m,t,b⟩:=min2 g.aT f.aO;have p:Hid (g.cm f.aO={g with aT:=m}):=by unfold Hid;rw[b];rfl
 obtain⟨W,c⟩:=bU (w.alloc (.cells (f_ f d).toArray 65));have k:aS W w.heap.size 65 (f_ f d):=by grind [aS.new]
 have a:aS W S TS l:=by rw[c];exact i.alloc _
 have j:bJ w W:=by rw[c];exact(bP _ w).alloc (aI _) _
 have e:=aG ((Nt.st S o g W l a h).2 m);have u:W.cell? (aA w.heap.size 3)=some (uZ f.aO):=k.cell 3;have s:W.cell? (aA S (o+3))=some (uZ g.aT):=by rw[a.cell];exact h.c3
 have f2:=a.frozen (o+3);have q:=aG j;clear h i k a j b;unfold eX;unfold f_ at c;go_enter func394,ntmps394;go_wp2_with fail;rw[<-c];clear c;go_region
 all_goals go_wp2
 all_goals go_end0
 all_goals exact⟨rfl,_,gZ.after q.out e.out.1.drew,by rw[p.out];exact e.out.2⟩
section
def jG(l:List Bool):bM:=l.map .bool
structure zS (l:bM) (o:Nat) (m:dP) (vh vc:Wx):Prop where
 gr:zQ l o m.gr
 c4:l[o+4]?=some (uZ m.aY)
 c5:l[o+5]?=some vh
 c6:l[o+6]?=some vc
 c7:l[o+7]?=some (uZ m.fq)
 c8:l[o+8]?=some (.bool m.cB)
 c9:l[o+9]?=some (uZ m.h_)
 wD:l[o+10]?=some (.bool m.bG)
 zT:l[o+11]?=some (uZ m.rel)
 Aq:l[o+12]?=some (iZ m.state)
def zS.iB{l l' o o' n' m vh vc}(h:zS l o m vh vc)(w:ni l l' o' n')(a:o+13<=o'\/o'+n'<=o):zS l' o m vh vc:=
 ⟨h.gr.iB w aj,by rw[w.2 _ aj,h.c4],by rw[w.2 _ aj,h.c5],by rw[w.2 _ aj,h.c6],by rw[w.2 _ aj,h.c7],by rw[w.2 _ aj,h.c8],by rw[w.2 _ aj,h.c9],by rw[w.2 _ aj,h.wD],by rw[w.2 _ aj,h.zT],by rw[w.2 _ aj,h.Aq]⟩
def IZ(oZ:Own)(t:Nat)(w:Wq)(l:bM)(o:Nat)(m:dP):Prop:=
 ∃vh vc,zS l o m vh vc/\GT oZ t 5 1 w vh m.bO.length (cO m.bO)/\GT oZ (t+1) 4 1 w vc m.aT.length (jG m.aT)
def IZ.kp{oZ aX t w w' l l' o o' n' m T}(h:IZ oZ t w l o m)(K:Kp T oZ aX w w')(f:t∉T)(a:t+1∉T)(g:ni l l' o' n')(e:o+13<=o'\/o'+n'<=o):IZ aX t w' l' o m:=by obtain⟨vh,vc,b,c,d⟩:=h;exact⟨vh,vc,b.iB g e,c.kp K f,d.kp K a⟩
structure Ux (m:dP):Prop where
 gr:m.gr.ahead<=4096/\m.gr.eF<=dH/\m.gr.eH<=dH/\m.gr.aT<=dH
 rd:m.aY<=dH
 hi:m.fq<=dH
 fe:m.h_<=dH
 re:m.rel<=dH
 hl:m.bO.length<=1000000
 cl:m.aT.length=m.bO.length
 st:m.state<=2
def Ux.aP{m}(h:Ux m):m.aP<=dH:=by
 unfold dP.aP;split;.exact h.fe
 .exact h.rd
section
variable (S o:Nat) (m:dP) (vh vc:Wx) (w:Wq) (l:bM) (hB:aS w S TS l) (h:zS l o m vh vc)
 include hB h
def in4:w.cell? (aA S (o+4))=some (uZ m.aY):=by rw[hB.cell];exact h.c4
def in5:w.cell? (aA S (o+5))=some vh:=by rw[hB.cell];exact h.c5
def in6:w.cell? (aA S (o+6))=some vc:=by rw[hB.cell];exact h.c6
def in7:w.cell? (aA S (o+7))=some (uZ m.fq):=by rw[hB.cell];exact h.c7
def in8:w.cell? (aA S (o+8))=some (.bool m.cB):=by rw[hB.cell];exact h.c8
def in9:w.cell? (aA S (o+9))=some (uZ m.h_):=by rw[hB.cell];exact h.c9
def qn5:w.cell? (aA S (o+10))=some (.bool m.bG):=by rw[hB.cell];exact h.wD
def qpo:w.cell? (aA S (o+11))=some (uZ m.rel):=by rw[hB.cell];exact h.zT
def qkj:w.cell? (aA S (o+12))=some (iZ m.state):=by rw[hB.cell];exact h.Aq
def LG:bN 310 #[aK S o] w (uZ m.aP) fun c=>c=w:=by
 have e:=in4 S o m vh vc w l hB h;have f:=in9 S o m vh vc w l hB h;have d:=qkj S o m vh vc w l hB h;have a:Hid (m.aP=if m.state=2 then m.h_ else m.aY):=rfl;generalize m.aP=F at *
 clear h hB;by_cases b:m.state=2;.have g:((m.state:Int)==2)=true:=dZ;rw[dN b]at a;clear b;go_enter func310,ntmps310;go_wp2;go_ret;exact⟨Bc (by rw[a.out]),rfl⟩
 .have g:((m.state:Int)==2)=false:=dZ;rw[b_ b]at a;clear b;go_enter func310,ntmps310;go_wp2;go_ret;exact⟨Bc (by rw[a.out]),rfl⟩
def DT(a:Nat):bN 339 #[aK S o,uZ a] w (uZ ((max m.fq a:Nat):Int)) fun c=>c=w:=by have d:=in7 S o m vh vc w l hB h;obtain⟨x,e,b⟩:=max2 m.fq a;rw[<-b];clear h hB b;go_enter func339,ntmps339;go_wp2;go_ret;exact⟨rfl,rfl⟩
def uo:bN 306 #[aK S o] w (uZ m.wanted) fun f=>f=w:=by
 have d:=in8 S o m vh vc w l hB h;have g:=in9 S o m vh vc w l hB h;have c:=qn5 S o m vh vc w l hB h;have i:=qpo S o m vh vc w l hB h;have a:Hid (m.wanted=if m.bG then m.rel else if m.cB then m.h_ else 4611686018427387903):=rfl;generalize m.wanted=F at *
 clear h hB;cases b:m.bG
 .cases e:m.cB;all_goals
   rw[b]at c a;rw[e]at d a;go_enter func306,ntmps306;go_wp2;go_ret;exact⟨Bc (by rw[a.out];rfl),rfl⟩
 .rw[b]at c a;go_enter func306,ntmps306;go_wp2;go_ret;exact⟨Bc (by rw[a.out];rfl),rfl⟩
def Rm:bN 240 #[aK S o] w (iZ m.iO) fun g=>∃q,g=w.drewN q:=by
 have j:=in4 S o m vh vc w l hB h;have c:=in8 S o m vh vc w l hB h;have i:=qn5 S o m vh vc w l hB h;have b:=aG (fun q=>uo S o m vh vc (w.drewN q) l hB h);have a:Hid (m.iO=if m.cB=false\/m.aY<m.wanted then 0 else if m.bG then 2 else 1):=rfl;generalize m.wanted=W at *
 generalize m.iO=F at *
 clear h hB;cases d:m.cB;.rw[d]at c a;go_enter func240,ntmps240;go_wp2;go_quiet ((go_at_call 306;exact nC (b.out _)));go_wp2;go_ret;exact⟨iC (by rw[a.out];simp),nq,rfl⟩
 .by_cases e:m.aY<W;.rw[d]at c a;rw[dN (.inr e)]at a;go_enter func240,ntmps240;go_wp2;go_quiet ((go_at_call 306;exact nC (b.out _)));go_wp2;go_ret;exact⟨iC (by rw[a.out];rfl),nq,rfl⟩
  .rw[d]at c a;rw[b_ dZ]at a;cases f:m.bG;all_goals
    rw[f]at i a;go_enter func240,ntmps240;go_wp2;go_quiet ((go_at_call 306;exact nC (b.out _)));go_wp2;go_ret;exact⟨iC (by rw[a.out];rfl),nq,rfl⟩
def Ja(f:Ux m):bN 255 #[aK S o] w (.bool m.fF) fun r=>∃q,r=w.drewN q:=by
 have t:=in7 S o m vh vc w l hB h;have n:=in8 S o m vh vc w l hB h;have k:=aG (fun q=>uo S o m vh vc (w.drewN q) l hB h);have j:=aG (fun q g=>LG S o m vh vc ((w.drewN q).drewN g) l hB h);have i:=aG (fun q g=>NZ m.aP ((w.drewN q).drewN g) hB h.gr f.gr.1 f.aP);have d:Hid (m.fF=(!(m.cB&&decide (m.wanted<=m.fq))&&m.gr.aL m.aP)):=rfl;generalize m.wanted=W at *
 generalize m.fF=F at *
 generalize m.gr.aL m.aP=B at *
 generalize m.aP=R at *
 clear h hB f;cases p:m.cB
 .rw[p]at n d;go_enter func255,ntmps255;go_wp2;go_quiet ((go_at_call 306;exact nC (k.out _)));go_wp2_with fail;have b:=aG (j.out nq);have a:=aG (i.out nq);generalize c:w.drewN nq=s at *
  go_quiet ((first|(go_at_call 310;exact nC (b.out _))|(go_at_call 251;exact Calls.quiet_of (a.out _))));go_wp2;go_ret;exact⟨dQ (by rw[d.out];simp),_,by rw[<-c,qj6]⟩
 .by_cases e:W<=m.fq;all_goals
   rw[p]at n d;go_enter func255,ntmps255;go_wp2;go_quiet ((go_at_call 306;exact nC (k.out _)));go_wp2_with fail;have b:=aG (j.out nq);have a:=aG (i.out nq);generalize c:w.drewN nq=s at *
   go_quiet ((first|(go_at_call 310;exact nC (b.out _))|(go_at_call 251;exact Calls.quiet_of (a.out _))));go_wp2;go_ret;exact⟨dQ (by rw[d.out];simp[e]),_,by rw[<-c,qj6]⟩
end

end
theorem WY(o m){U T}(f Q w)(X:aS w S TS l)(h:zS l o m U T)(ho:f.aC<=dH)(hd:f.data.size<=1000000000):bN 295 #[aK S o,eX f Q] w (iZ (m.refuse f:Int)) fun Z=>bJ w Z:=by
 obtain⟨W,e⟩:=bU (w.alloc (.cells (f_ f Q).toArray 65));have Y:aS W w.heap.size 65 (f_ f Q):=by grind [aS.new]
 have N:bJ w W:=by rw[e];exact(bP _ w).alloc (aI _) _
 have iD:W.heap.size=w.heap.size+1:=by rw[e];simp
 have g:=aG (nG f Q W ho hd);obtain⟨x,z,A,B,C,D,F,G,H,I,J⟩:=bF Y;have j:Hid (m.refuse f=if m.cB/\m.h_<bI f\/m.cB/\f.bL/\bI f≠m.h_\/f.bL/\bI f<m.fq then 10 else if m.gr.eF<bI f then 9 else 0):=rfl;have i:Hid (∀y,bJ W y->y.cell? (aA w.heap.size 5)=some (.bool f.bL)/\y.cell? (aA S (o+7))=some (uZ m.fq)/\y.cell? (aA S (o+8))=some (.bool m.cB)/\y.cell? (aA S (o+9))=some (uZ m.h_)/\bJ w y/\bN 296 #[aK S o,(uZ (bI f:Int))] y (.bool (decide (bI f<=m.gr.eF))) fun Z=>Z=y):=fun y hy=>by have c:=N.trans (hy.mono aj);have O:=X.of_heap (c.block _ X.lt);have a:=Y.of_heap (hy.block _ aj);exact⟨a.cell 5,in7 S o m U T y l O h,in8 S o m U T y l O h,in9 S o m U T y l O h,c,JM (bI f) O h.gr⟩
 generalize m.refuse f=R at *
 generalize bI f=E at *
 clear Y N X h ho hd;unfold eX;unfold f_ at e;rcases(Js m.cB).symm with hen|hen
 .have v:=aG hen;rcases(Js f.bL).symm with hfi|hfi
  .have u:=aG hfi;have b:=(show¬(m.cB=true/\m.h_<E\/m.cB=true/\f.bL=true/\E≠m.h_\/f.bL=true/\E<m.fq) by rw[hen,hfi];simp);by_cases s:m.gr.eF<E
   .have n:Hid (R=9):=by unfold Hid;rw[j.out,b_ b,dN s]
    have t:¬(E<=m.gr.eF):=aj;clear j b s hen hfi;go_enter pY,vE;go_wp2_with fail;rw[<-e];refine bK g.out ?_;rintro y a;obtain⟨q,K,p,L,c,d⟩:=i.out y a;rw[v.out]at p;rw[u.out]at q;have k:=aG c;have r:=aG d;clear c d a i g e x z A B C D F G H I J;go_wp2_with fail;refine bK r.out ?_;rintro M rfl;go_wp2;go_ret;exact⟨iC (by rw[n.out];rfl),k.out⟩
   .have n:Hid (R=0):=by unfold Hid;rw[j.out,b_ b,b_ s]
    have t:E<=m.gr.eF:=aj;clear j b s hen hfi;go_enter pY,vE;go_wp2_with fail;rw[<-e];refine bK g.out ?_;rintro y a;obtain⟨q,K,p,L,c,d⟩:=i.out y a;rw[v.out]at p;rw[u.out]at q;have k:=aG c;have r:=aG d;clear c d a i g e x z A B C D F G H I J;go_wp2_with fail;refine bK r.out ?_;rintro M rfl;go_wp2;go_ret;exact⟨iC (by rw[n.out];rfl),k.out⟩
  .have u:=aG hfi;by_cases V:E<m.fq
   .clear hen;have n:Hid (R=10):=by unfold Hid;rw[j.out,dN (.inr (.inr ⟨hfi,V⟩))]
    clear j hfi;go_enter pY,vE;go_wp2_with fail;rw[<-e];refine bK g.out ?_;rintro y a;obtain⟨q,K,p,L,c,d⟩:=i.out y a;rw[v.out]at p;rw[u.out]at q;have k:=aG c;have r:=aG d;clear c d a i g e x z A B C D F G H I J;go_wp2;go_ret;exact⟨iC (by rw[n.out];rfl),k.out⟩
   .have b:=(show¬(m.cB=true/\m.h_<E\/m.cB=true/\f.bL=true/\E≠m.h_\/f.bL=true/\E<m.fq) by rw[hen,hfi];simp;omega);by_cases s:m.gr.eF<E
    .have n:Hid (R=9):=by unfold Hid;rw[j.out,b_ b,dN s]
     have t:¬(E<=m.gr.eF):=aj;clear j b s hen hfi;go_enter pY,vE;go_wp2_with fail;rw[<-e];refine bK g.out ?_;rintro y a;obtain⟨q,K,p,L,c,d⟩:=i.out y a;rw[v.out]at p;rw[u.out]at q;have k:=aG c;have r:=aG d;clear c d a i g e x z A B C D F G H I J;go_wp2_with fail;refine bK r.out ?_;rintro M rfl;go_wp2;go_ret;exact⟨iC (by rw[n.out];rfl),k.out⟩
    .have n:Hid (R=0):=by unfold Hid;rw[j.out,b_ b,b_ s]
     have t:E<=m.gr.eF:=aj;clear j b s hen hfi;go_enter pY,vE;go_wp2_with fail;rw[<-e];refine bK g.out ?_;rintro y a;obtain⟨q,K,p,L,c,d⟩:=i.out y a;rw[v.out]at p;rw[u.out]at q;have k:=aG c;have r:=aG d;clear c d a i g e x z A B C D F G H I J;go_wp2_with fail;refine bK r.out ?_;rintro M rfl;go_wp2;go_ret;exact⟨iC (by rw[n.out];rfl),k.out⟩
 .have v:=aG hen;by_cases h1:m.h_<E
  .have n:Hid (R=10):=by unfold Hid;rw[j.out,dN (.inl ⟨hen,h1⟩)]
   clear j hen;go_enter pY,vE;go_wp2_with fail;rw[<-e];refine bK g.out ?_;rintro y a;obtain⟨q,K,p,L,c,d⟩:=i.out y a;rw[v.out]at p;have k:=aG c;have r:=aG d;clear c d a i g e x z A B C D F G H I J;go_wp2;go_ret;exact⟨iC (by rw[n.out];rfl),k.out⟩
  .rcases(Js f.bL).symm with hfi|hfi
   .have u:=aG hfi;have b:=(show¬(m.cB=true/\m.h_<E\/m.cB=true/\f.bL=true/\E≠m.h_\/f.bL=true/\E<m.fq) by rw[hen,hfi];simp;omega);by_cases s:m.gr.eF<E
    .have n:Hid (R=9):=by unfold Hid;rw[j.out,b_ b,dN s]
     have t:¬(E<=m.gr.eF):=aj;clear j b s hen hfi;go_enter pY,vE;go_wp2_with fail;rw[<-e];refine bK g.out ?_;rintro y a;obtain⟨q,K,p,L,c,d⟩:=i.out y a;rw[v.out]at p;rw[u.out]at q;have k:=aG c;have r:=aG d;clear c d a i g e x z A B C D F G H I J;go_wp2_with fail;refine bK r.out ?_;rintro M rfl;go_wp2;go_ret;exact⟨iC (by rw[n.out];rfl),k.out⟩
    .have n:Hid (R=0):=by unfold Hid;rw[j.out,b_ b,b_ s]
     have t:E<=m.gr.eF:=aj;clear j b s hen hfi;go_enter pY,vE;go_wp2_with fail;rw[<-e];refine bK g.out ?_;rintro y a;obtain⟨q,K,p,L,c,d⟩:=i.out y a;rw[v.out]at p;rw[u.out]at q;have k:=aG c;have r:=aG d;clear c d a i g e x z A B C D F G H I J;go_wp2_with fail;refine bK r.out ?_;rintro M rfl;go_wp2;go_ret;exact⟨iC (by rw[n.out];rfl),k.out⟩
   .have u:=aG hfi;by_cases P:E=m.h_
    .have g2:((E:Int)==(m.h_:Int))=true:=dZ;by_cases V:E<m.fq
     .have n:Hid (R=10):=by unfold Hid;rw[j.out,dN (.inr (.inr ⟨hfi,V⟩))]
      clear j hfi hen P;go_enter pY,vE;go_wp2_with fail;rw[<-e];refine bK g.out ?_;rintro y a;obtain⟨q,K,p,L,c,d⟩:=i.out y a;rw[v.out]at p;rw[u.out]at q;have k:=aG c;have r:=aG d;clear c d a i g e x z A B C D F G H I J;go_wp2;go_ret;exact⟨iC (by rw[n.out];rfl),k.out⟩
     .have b:=(show¬(m.cB=true/\m.h_<E\/m.cB=true/\f.bL=true/\E≠m.h_\/f.bL=true/\E<m.fq) by rw[hen,hfi];simp;omega);by_cases s:m.gr.eF<E
      .have n:Hid (R=9):=by unfold Hid;rw[j.out,b_ b,dN s]
       have t:¬(E<=m.gr.eF):=aj;clear j b s hen hfi P;go_enter pY,vE;go_wp2_with fail;rw[<-e];refine bK g.out ?_;rintro y a;obtain⟨q,K,p,L,c,d⟩:=i.out y a;rw[v.out]at p;rw[u.out]at q;have k:=aG c;have r:=aG d;clear c d a i g e x z A B C D F G H I J;go_wp2_with fail;refine bK r.out ?_;rintro M rfl;go_wp2;go_ret;exact⟨iC (by rw[n.out];rfl),k.out⟩
      .have n:Hid (R=0):=by unfold Hid;rw[j.out,b_ b,b_ s]
       have t:E<=m.gr.eF:=aj;clear j b s hen hfi P;go_enter pY,vE;go_wp2_with fail;rw[<-e];refine bK g.out ?_;rintro y a;obtain⟨q,K,p,L,c,d⟩:=i.out y a;rw[v.out]at p;rw[u.out]at q;have k:=aG c;have r:=aG d;clear c d a i g e x z A B C D F G H I J;go_wp2_with fail;refine bK r.out ?_;rintro M rfl;go_wp2;go_ret;exact⟨iC (by rw[n.out];rfl),k.out⟩
    .have g2:((E:Int)==(m.h_:Int))=false:=dZ;have n:Hid (R=10):=by unfold Hid;rw[j.out,dN (.inr (.inl ⟨hen,hfi,P⟩))]
     clear j hen hfi;go_enter pY,vE;go_wp2_with fail;rw[<-e];refine bK g.out ?_;rintro y a;obtain⟨q,K,p,L,c,d⟩:=i.out y a;rw[v.out]at p;rw[u.out]at q;have k:=aG c;have r:=aG d;clear c d a i g e x z A B C D F G H I J;go_wp2;go_ret;exact⟨iC (by rw[n.out];rfl),k.out⟩
theorem V_{b}(m n c)(hm:1<=m)(W:1<=n)(Y:m+n<=c)(_hc:c<=9223372036854775807)(_hbig:m+n<=1000000)(h:aS w b 5 l)(T:c<=l.length)(D:∀v∈l,v.oneCell'=true):WA prog 303 #[(dB b (m+n) c),iZ 0,iZ n] w fun e J=>
   ∃y,e=.returned (dB b m c)/\aS J b 5 y/\y.length=l.length/\y.take m=(l.take (m+n)).drop n/\(∀v∈y,v.oneCell'=true)/\nP b w J:=by
 have F:((l.take (m+n)).drop n).length=m:=dZ;have p:∀v∈(l.take (m+n)).drop n,v.oneCell'=true:=fun v Z=>D v (tF (yZ Z));have f:∀j v,((l.take (m+n)).drop n)[j]?=some v->l[n+j]?=some v:=fun j v H=>by grind
 have u:(loadCellsFrom (aA b n) 0 (m*1) #[]).run prog w.drew=.ok ((l.take (m+n)).drop n).toArray w.drew:=by have S:=run_firstCells_some (P:=prog) w.drew 1 m (aA b n) m (c-n) ((l.take (m+n)).drop n) aj (fun j v H=>by rw[gT];exact(aS.cell h (n+j)).trans (f j v H));simpa[mK,loadCells]using S
 rw[wL]at u;have x:=
  gU (P:=prog) (w:=w.drew) (o:=0) h _ aj p
 have q:(bC l 0 ((l.take (m+n)).drop n)).length=l.length:=cu _ _ _ aj;have d:(bC l 0 ((l.take (m+n)).drop n)).take m=(l.take (m+n)).drop n:=by grind [jd]
 have g:∀v∈bC l 0 ((l.take (m+n)).drop n),v.oneCell'=true:=dS D p;have a:aS (put w.drew b (bC l 0 ((l.take (m+n)).drop n))) b 5 (bC l 0 ((l.take (m+n)).drop n)):=aS.put (w:=w.drew) h _;generalize bC l 0 ((l.take (m+n)).drop n)=t at x q d g a;generalize (l.take (m+n)).drop n=X at d u x ⊢;have E:=fun ty L=>iE (P:=prog) (o:=m) (n:=n) (c:=L) 60 5 ty _ Bj.ht (fun w=>bZ) a aj (by rw[Bj.hz];omega) (Bj.h1 _);have s:(bC t m (eB (fE .u8 0).cells n).toList).take m=X:=by rw[iF _ _ _ _ (by rw[Bj.hz];omega) (aI _),d]
 have r:(bC t m (eB (fE .u8 0).cells n).toList).length=l.length:=by rw[cu _ _ _ (by rw[Bj.hz];omega),q]
 have i:∀v∈bC t m (eB (fE .u8 0).cells n).toList,v.oneCell'=true:=dS g (Bj.h1 _);generalize bC t m (eB (fE .u8 0).cells n).toList=G at E s r i;have C:Hid _:=s;have z:Hid _:=i;have B:Hid _:=r;have A:Hid (aS (put w.drew b t) b 5 t):=a;have K:Hid (nP b w (put (put w.drew b t) b G)):=⟨rfl,rfl,rfl,by simp[put],fun k I=>by rw[iI _ _ _ _ I,iI _ _ _ _ I];rfl⟩;clear d s i r g q a p f F D T h;have U:m<=c:=aj;have M:(n:Int)<=(m:Int)+(n:Int):=aj;have N:(m:Int)+(n:Int)<=(c:Int):=aj;have O:(n:Int)<=(c:Int):=aj;have Q:¬(c=m):=aj;have R:¬(c=n):=aj;have V:¬((0:Int)=(n:Int)):=aj;have h0:((0:Int)==(n:Int))=false:=dZ;have e1:m+n-m=n:=aj;have e2:m+n-n=m:=aj;go_enter func303,ntmps303;go_wp2;go_region
 go_wp2;go_ret;exact⟨G,rfl,aS.put A.out G,B.out,C.out,z.out,K.out⟩
theorem Wh{b}(m n c)(hm:1<=m)(W:1<=n)(Y:m+n<=c)(_hc:c<=9223372036854775807)(_hbig:m+n<=1000000)(h:aS w b 4 l)(T:c<=l.length)(D:∀v∈l,v.oneCell'=true):WA prog 304 #[(dB b (m+n) c),iZ 0,iZ n] w fun e J=>
   ∃y,e=.returned (dB b m c)/\aS J b 4 y/\y.length=l.length/\y.take m=(l.take (m+n)).drop n/\(∀v∈y,v.oneCell'=true)/\nP b w J:=by
 have F:((l.take (m+n)).drop n).length=m:=dZ;have p:∀v∈(l.take (m+n)).drop n,v.oneCell'=true:=fun v Z=>D v (tF (yZ Z));have f:∀j v,((l.take (m+n)).drop n)[j]?=some v->l[n+j]?=some v:=fun j v H=>by grind
 have u:(loadCellsFrom (aA b n) 0 (m*1) #[]).run prog w.drew=.ok ((l.take (m+n)).drop n).toArray w.drew:=by have S:=run_firstCells_some (P:=prog) w.drew 1 m (aA b n) m (c-n) ((l.take (m+n)).drop n) aj (fun j v H=>by rw[gT];exact(aS.cell h (n+j)).trans (f j v H));simpa[mK,loadCells]using S
 rw[wL]at u;have x:=
  gU (P:=prog) (w:=w.drew) (o:=0) h _ aj p
 have q:(bC l 0 ((l.take (m+n)).drop n)).length=l.length:=cu _ _ _ aj;have d:(bC l 0 ((l.take (m+n)).drop n)).take m=(l.take (m+n)).drop n:=by grind [jd]
 have g:∀v∈bC l 0 ((l.take (m+n)).drop n),v.oneCell'=true:=dS D p;have a:aS (put w.drew b (bC l 0 ((l.take (m+n)).drop n))) b 4 (bC l 0 ((l.take (m+n)).drop n)):=aS.put (w:=w.drew) h _;generalize bC l 0 ((l.take (m+n)).drop n)=t at x q d g a;generalize (l.take (m+n)).drop n=X at d u x ⊢;have E:=fun ty L=>iE (P:=prog) (o:=m) (n:=n) (c:=L) 156 4 ty _ CV.ht (fun w=>bZ) a aj (by rw[CV.hz];omega) (CV.h1 _);have s:(bC t m (eB (fB false).cells n).toList).take m=X:=by rw[iF _ _ _ _ (by rw[CV.hz];omega) (aI _),d]
 have r:(bC t m (eB (fB false).cells n).toList).length=l.length:=by rw[cu _ _ _ (by rw[CV.hz];omega),q]
 have i:∀v∈bC t m (eB (fB false).cells n).toList,v.oneCell'=true:=dS g (CV.h1 _);generalize bC t m (eB (fB false).cells n).toList=G at E s r i;have C:Hid _:=s;have z:Hid _:=i;have B:Hid _:=r;have A:Hid (aS (put w.drew b t) b 4 t):=a;have K:Hid (nP b w (put (put w.drew b t) b G)):=⟨rfl,rfl,rfl,by simp[put],fun k I=>by rw[iI _ _ _ _ I,iI _ _ _ _ I];rfl⟩;clear d s i r g q a p f F D T h;have U:m<=c:=aj;have M:(n:Int)<=(m:Int)+(n:Int):=aj;have N:(m:Int)+(n:Int)<=(c:Int):=aj;have O:(n:Int)<=(c:Int):=aj;have Q:¬(c=m):=aj;have R:¬(c=n):=aj;have V:¬((0:Int)=(n:Int)):=aj;have h0:((0:Int)==(n:Int))=false:=dZ;have e1:m+n-m=n:=aj;have e2:m+n-n=m:=aj;go_enter func304,ntmps304;go_wp2;go_region
 go_wp2;go_ret;exact⟨G,rfl,aS.put A.out G,B.out,C.out,z.out,K.out⟩
theorem Zf{b}(n c)(z:1<=n)(A:n<=c)(h:aS w b 5 l)(x:c<=l.length)(j:∀v∈l,v.oneCell'=true):WA prog 303 #[dB b n c,iZ 0,iZ n] w fun e m=>
   ∃i,e=.returned (dB b 0 c)/\aS m b 5 i/\i.length=l.length/\(∀v∈i,v.oneCell'=true)/\nP b w m:=by
 have g:=fun C q=>iE (P:=prog) (o:=0) (n:=n) (c:=q) 60 5 C _ Bj.ht (fun w=>bZ) (aS.drew h) aj (by rw[Bj.hz];omega) (Bj.h1 _);have d:(bC l 0 (eB (fE .u8 0).cells n).toList).length=l.length:=cu _ _ _ (by rw[Bj.hz];omega);have a:∀v∈bC l 0 (eB (fE .u8 0).cells n).toList,v.oneCell'=true:=dS j (Bj.h1 _);generalize bC l 0 (eB (fE .u8 0).cells n).toList=f at g d a;have p:Hid (aS (put w.drew b f) b 5 f/\f.length=l.length/\(∀v∈f,v.oneCell'=true)/\nP b w (put w.drew b f)):=⟨aS.put (w:=w.drew) h f,d,a,rfl,rfl,rfl,by simp[put],fun k u=>by rw[iI _ _ _ _ u];rfl⟩;clear d a h j x;have s:(n:Int)<=(c:Int):=aj;have y:¬((0:Int)=(n:Int)):=aj;have B:((0:Int)==(n:Int))=false:=dZ;have r:¬(c=0):=aj;by_cases t:c=n;all_goals
  go_enter func303,ntmps303;go_wp2;go_region
  go_wp2;go_ret;exact⟨f,St.t_ rfl (by grind),p.out⟩
theorem Zg{b}(n c)(z:1<=n)(A:n<=c)(h:aS w b 4 l)(x:c<=l.length)(j:∀v∈l,v.oneCell'=true):WA prog 304 #[dB b n c,iZ 0,iZ n] w fun e m=>
   ∃i,e=.returned (dB b 0 c)/\aS m b 4 i/\i.length=l.length/\(∀v∈i,v.oneCell'=true)/\nP b w m:=by
 have g:=fun C q=>iE (P:=prog) (o:=0) (n:=n) (c:=q) 156 4 C _ CV.ht (fun w=>bZ) (aS.drew h) aj (by rw[CV.hz];omega) (CV.h1 _);have d:(bC l 0 (eB (fB false).cells n).toList).length=l.length:=cu _ _ _ (by rw[CV.hz];omega);have a:∀v∈bC l 0 (eB (fB false).cells n).toList,v.oneCell'=true:=dS j (CV.h1 _);generalize bC l 0 (eB (fB false).cells n).toList=f at g d a;have p:Hid (aS (put w.drew b f) b 4 f/\f.length=l.length/\(∀v∈f,v.oneCell'=true)/\nP b w (put w.drew b f)):=⟨aS.put (w:=w.drew) h f,d,a,rfl,rfl,rfl,by simp[put],fun k u=>by rw[iI _ _ _ _ u];rfl⟩;clear d a h j x;have s:(n:Int)<=(c:Int):=aj;have y:¬((0:Int)=(n:Int)):=aj;have B:((0:Int)==(n:Int))=false:=dZ;have r:¬(c=0):=aj;by_cases t:c=n;all_goals
  go_enter func304,ntmps304;go_wp2;go_region
  go_wp2;go_ret;exact⟨f,St.t_ rfl (by grind),p.out⟩
theorem Zh{t}(n)(d:List UInt8)(a c)(z:1<=n)(A:n<=d.length)(E:d.length<=1000000)(h:GT oZ t 5 1 w (.slice a d.length c) d.length (cO d)):WA prog 303 #[.slice a d.length c,iZ 0,iZ n] w fun e f=>∃u v,e=.returned (.slice u (d.length-n) v)/\GT oZ t 5 1 f (.slice u (d.length-n) v) (d.drop n).length (cO (d.drop n))/\Kp [t] oZ oZ w f:=by
 rcases h with⟨D,k,_⟩|⟨g,cap,cs,hv,ho,hB,k,h3,h4,h5,h6,h7⟩;.omega
 .simp at hv;obtain⟨rfl,rfl⟩:=hv;have x:∀f,nP g w f->Kp [t] oZ oZ w f:=fun f j=>⟨j.os,j.tape,j.output,by rw[j.size];grind,fun b _ o=>j.block b (fun e=>o (by grind)),fun _ _=>rfl⟩;have i:(d.drop n).length=d.length-n:=aR;rw[wL]at h6 k;by_cases y:d.length=n
  .have:=Zf n c z aj hB k h7;rw[y];refine this.mono ?_;rintro e f ⟨s,rfl,p,B,q,r⟩;refine⟨_,_,by rw[Co],?_,x f r⟩;rw[i,y,Co];refine .inr ⟨g,c,s,rfl,ho,p,aj,aj,h4,?_,?_,q⟩;.grind [fC]
   .rw[KV,Dz,Yy aj];rfl
  .obtain⟨m,l⟩:∃m,d.length=m+n:=⟨d.length-n,aj⟩;have:=V_ m n c aj z aj h4 aj hB k h7;rw[<-l]at this;refine this.mono ?_;rintro e f ⟨s,rfl,p,B,q,r,C⟩;refine⟨_,_,by rw[show d.length-n=m by omega],?_,x f C⟩;rw[i,show d.length-n=m by omega];refine .inr ⟨g,c,s,rfl,ho,p,aj,aj,h4,?_,?_,r⟩;.grind [fC]
   .rw[wL,q,h6];simp[cO]
theorem Zi(t n)(d:List Bool){a}(c)(A:1<=n)(B:n<=d.length)(G:d.length<=1000000)(h:GT oZ t 4 1 w (.slice a d.length c) d.length (jG d)):WA prog 304 #[.slice a d.length c,iZ 0,iZ n] w fun e f=>∃v x,e=.returned (.slice v (d.length-n) x)/\GT oZ t 4 1 f (.slice v (d.length-n) x) (d.drop n).length (jG (d.drop n))/\Kp [t] oZ oZ w f:=by
 have C:∀l:List Bool,(jG l).length=l.length:=fun l=>by simp[jG]
 rcases h with⟨F,k,_⟩|⟨g,cap,cs,hv,ho,hB,k,h3,h4,h5,h6,h7⟩;.omega
 .simp at hv;obtain⟨rfl,rfl⟩:=hv;have y:∀f,nP g w f->Kp [t] oZ oZ w f:=fun f j=>⟨j.os,j.tape,j.output,by rw[j.size];grind,fun b _ p=>j.block b (fun e=>p (by grind)),fun _ _=>rfl⟩;have i:(d.drop n).length=d.length-n:=aR;rw[wL]at h6 k;by_cases z:d.length=n
  .have:=Zg n c A aj hB k h7;rw[z];refine this.mono ?_;rintro e f ⟨u,rfl,q,D,r,s⟩;refine⟨_,_,by rw[Co],?_,y f s⟩;rw[i,z,Co];refine .inr ⟨g,c,u,rfl,ho,q,aj,aj,h4,?_,?_,r⟩;.grind
   grind
  .obtain⟨m,o⟩:∃m,d.length=m+n:=⟨d.length-n,aj⟩;have:=Wh m n c aj A aj h4 aj hB k h7;rw[<-o]at this;refine this.mono ?_;rintro e f ⟨u,rfl,q,D,r,s,E⟩;refine⟨_,_,by rw[show d.length-n=m by omega],?_,y f E⟩;rw[i,show d.length-n=m by omega];refine .inr ⟨g,c,u,rfl,ho,q,aj,aj,h4,?_,?_,s⟩;.grind
   .rw[wL,r,h6];simp[jG]
theorem Wi{l:List Bool}(c:i<=l.length)(h:∀j,j<i->l.getD j false=true):i<=(l.takeWhile id).length:=by
 induction l generalizing i with
 |nil=>simpa using c
 |cons b t d=>
  cases i with
  |zero=>exact eG _
  |succ i=>have a:b=true:=h 0 aj;subst a;have:=d (i:=i) (by grind) (fun j e=>by grind);simp only[nU,id,if_true,pI];omega
def FW(l:List Bool):(l.takeWhile id).length<=l.length:=(List.takeWhile_prefix _).length_le
theorem RB{l:List Bool}(c:i<l.length)(h:l.getD i false=false):(l.takeWhile id).length<=i:=by
 induction l generalizing i with
 |nil=>simp at c
 |cons b t d=>
  cases i with
  |zero=>have a:b=false:=h;subst a;simp
  |succ i=>
   cases b with
   |false=>simp
   |true=>have:=d (i:=i) (by grind) (by simpa using h);simp only[nU,id,if_true,pI];omega
theorem Wj{t}(b){a}(c)(F:b.length<=1000000)(h:GT oZ t 4 1 w (.slice a b.length c) b.length (jG b)):bN 305 #[.slice a b.length c,.bool false] w (iZ (if(b.takeWhile id).length=b.length then -1 else((b.takeWhile id).length:Int))) fun E=>E=w:=by
 have A:=aG h;have q:=aG (dz (fun i o u=>Wi (l:=b) (i:=i) o u) (fun i o u=>RB (l:=b) (i:=i) o u));have D:=FW b;obtain⟨R,s⟩:=bU (if(b.takeWhile id).length=b.length then -1 else((b.takeWhile id).length:Int):Int);rw[<-s];have x:=aG s;clear h s;generalize (b.takeWhile id).length=T at *
 go_enter func305,ntmps305;go_wp2_with fail;go_loopw [8] (fun v wr=>∃i:Nat,i<=b.length/\v=(iZ i)/\wr=w/\Hid (∀j,j<i->b.getD j false=true)) (fun v _=>b.length-(eT v).toNat);case atStart=>exact⟨0,eG _,rfl,rfl,fun j C=>aj⟩
 case round=>
  obtain⟨i,o,rfl,rfl,k⟩:=hrel;by_cases m:i<b.length
  .have z:(i:Int)<(b.length:Int):=aj;have y:(jG b)[i]?=some (.bool (b.getD i false)):=by simp[jG,m]
   obtain⟨g,rfl,_,G,d,_⟩:=A.out.cell i _ y;clear y;cases n:b.getD i false
   .have B:=q.out.2 i m n;have r:=q.out.1 i aj k.out;have f:Hid (R=(i:Int)):=by unfold Hid;rw[x.out,b_ aj];omega
    rw[n]at d;clear n k B r;go_wp2;go_ret;exact⟨iC (by rw[f.out]),rfl⟩
   .have p:Hid (∀j,j<i+1->b.getD j false=true):=fun j C=>by
     by_cases e:j=i;.grind
     .exact k.out j aj
    rw[n]at d;clear n k;go_wp2_with fail;go_roundw;case rel=>exact⟨i+1,aj,by go_num,by grind,p⟩
    grind [eT]
  .obtain rfl:i=b.length:=aj;have r:=q.out.1 b.length (aI _) k.out;have f:Hid (R= -1):=by unfold Hid;rw[x.out,dN aj]
   clear k r;go_wp2;go_ret;exact⟨iC (by rw[f.out]),rfl⟩
def Zj{o}(t){m k f}(j:aS w S TS l)(h:zS l o m k f)(e:GT oZ t 4 1 w f m.aT.length (jG m.aT))(p:m.aT.length<=1000000):bN 239 #[aK S o] w (iZ m.ready) fun g=>g=w:=by
 have r:=in6 S o m k f w l j h;obtain⟨a,c,rfl,s,_⟩:=e.shape;have d:=aG (Wj m.aT c p e);have i:Hid (m.ready=(m.aT.takeWhile id).length):=rfl;have q:=FW m.aT;generalize m.ready=R at *
 generalize (m.aT.takeWhile id).length=T at *
 clear e h j;by_cases b:T=m.aT.length;.rw[dN b]at d;have n:=aG b;clear b;go_enter func239,ntmps239;go_wp2_with fail;refine bK d.out ?_;rintro g rfl;go_wp2;go_ret;exact⟨iC (by rw[i.out,n.out]),rfl⟩
 .rw[b_ b]at d;clear b;go_enter func239,ntmps239;go_wp2_with fail;refine bK d.out ?_;rintro g rfl;go_wp2;go_ret;exact⟨iC (by rw[i.out]),rfl⟩
def RG(s t:Nat)(oZ:Own)(S o:Nat)(l:bM)(w:Wq)(m':dP)(w':Wq):Prop:=
 ∃b a,Kp [s,t,t+1] oZ b w w'/\aS w' S TS a/\ni l a o 13/\IZ b t w' a o m'
def zQ.set{l o j v g}(h:zQ l o g)(a:j<o\/o+4<=j):zQ (l.set j v) o g:=
 ⟨(ay _ _ _ _ aj).trans h.c0,(ay _ _ _ _ aj).trans h.c1,(ay _ _ _ _ aj).trans h.c2,(ay _ _ _ _ aj).trans h.c3⟩
def Zk{o m}(h:zS l o m b a)(x:Nat):zS (l.set (o+4) (uZ x)) o {m with aY:=x} b a:=
 ⟨h.gr.set aj,cZ _ _ _ _ h.c4,(ay _ _ _ _ aj).trans h.c5,(ay _ _ _ _ aj).trans h.c6,(ay _ _ _ _ aj).trans h.c7,(ay _ _ _ _ aj).trans h.c8,(ay _ _ _ _ aj).trans h.c9,(ay _ _ _ _ aj).trans h.wD,(ay _ _ _ _ aj).trans h.zT,(ay _ _ _ _ aj).trans h.Aq⟩
def FX{o m c}(h:zS l o m c a)(v b):zS (l.set (o+5) v) o {m with bO:=b} v a:=
 ⟨h.gr.set aj,(ay _ _ _ _ aj).trans h.c4,cZ _ _ _ _ h.c5,(ay _ _ _ _ aj).trans h.c6,(ay _ _ _ _ aj).trans h.c7,(ay _ _ _ _ aj).trans h.c8,(ay _ _ _ _ aj).trans h.c9,(ay _ _ _ _ aj).trans h.wD,(ay _ _ _ _ aj).trans h.zT,(ay _ _ _ _ aj).trans h.Aq⟩
def FY{o m c}(h:zS l o m a c)(v b):zS (l.set (o+6) v) o {m with aT:=b} a v:=
 ⟨h.gr.set aj,(ay _ _ _ _ aj).trans h.c4,(ay _ _ _ _ aj).trans h.c5,cZ _ _ _ _ h.c6,(ay _ _ _ _ aj).trans h.c7,(ay _ _ _ _ aj).trans h.c8,(ay _ _ _ _ aj).trans h.c9,(ay _ _ _ _ aj).trans h.wD,(ay _ _ _ _ aj).trans h.zT,(ay _ _ _ _ aj).trans h.Aq⟩
def Zl{o m}(h:zS l o m b a)(x:Nat):zS (l.set (o+7) (uZ x)) o {m with fq:=x} b a:=
 ⟨h.gr.set aj,(ay _ _ _ _ aj).trans h.c4,(ay _ _ _ _ aj).trans h.c5,(ay _ _ _ _ aj).trans h.c6,cZ _ _ _ _ h.c7,(ay _ _ _ _ aj).trans h.c8,(ay _ _ _ _ aj).trans h.c9,(ay _ _ _ _ aj).trans h.wD,(ay _ _ _ _ aj).trans h.zT,(ay _ _ _ _ aj).trans h.Aq⟩
def JW{o m}(h:zS l o m b a)(x):zS (l.set (o+8) (.bool x)) o {m with cB:=x} b a:=
 ⟨h.gr.set aj,(ay _ _ _ _ aj).trans h.c4,(ay _ _ _ _ aj).trans h.c5,(ay _ _ _ _ aj).trans h.c6,(ay _ _ _ _ aj).trans h.c7,cZ _ _ _ _ h.c8,(ay _ _ _ _ aj).trans h.c9,(ay _ _ _ _ aj).trans h.wD,(ay _ _ _ _ aj).trans h.zT,(ay _ _ _ _ aj).trans h.Aq⟩
def Og{o m}(h:zS l o m b a)(x:Nat):zS (l.set (o+9) (uZ x)) o {m with h_:=x} b a:=
 ⟨h.gr.set aj,(ay _ _ _ _ aj).trans h.c4,(ay _ _ _ _ aj).trans h.c5,(ay _ _ _ _ aj).trans h.c6,(ay _ _ _ _ aj).trans h.c7,(ay _ _ _ _ aj).trans h.c8,cZ _ _ _ _ h.c9,(ay _ _ _ _ aj).trans h.wD,(ay _ _ _ _ aj).trans h.zT,(ay _ _ _ _ aj).trans h.Aq⟩
def Wl{o m}(h:zS l o m b a)(x):zS (l.set (o+10) (.bool x)) o {m with bG:=x} b a:=
 ⟨h.gr.set aj,(ay _ _ _ _ aj).trans h.c4,(ay _ _ _ _ aj).trans h.c5,(ay _ _ _ _ aj).trans h.c6,(ay _ _ _ _ aj).trans h.c7,(ay _ _ _ _ aj).trans h.c8,(ay _ _ _ _ aj).trans h.c9,cZ _ _ _ _ h.wD,(ay _ _ _ _ aj).trans h.zT,(ay _ _ _ _ aj).trans h.Aq⟩
def qfl{o m}(h:zS l o m b a)(x:Nat):zS (l.set (o+11) (uZ x)) o {m with rel:=x} b a:=
 ⟨h.gr.set aj,(ay _ _ _ _ aj).trans h.c4,(ay _ _ _ _ aj).trans h.c5,(ay _ _ _ _ aj).trans h.c6,(ay _ _ _ _ aj).trans h.c7,(ay _ _ _ _ aj).trans h.c8,(ay _ _ _ _ aj).trans h.c9,(ay _ _ _ _ aj).trans h.wD,cZ _ _ _ _ h.zT,(ay _ _ _ _ aj).trans h.Aq⟩
def Wm{o m}(h:zS l o m b a)(x:Nat):zS (l.set (o+12) (iZ x)) o {m with state:=x} b a:=
 ⟨h.gr.set aj,(ay _ _ _ _ aj).trans h.c4,(ay _ _ _ _ aj).trans h.c5,(ay _ _ _ _ aj).trans h.c6,(ay _ _ _ _ aj).trans h.c7,(ay _ _ _ _ aj).trans h.c8,(ay _ _ _ _ aj).trans h.c9,(ay _ _ _ _ aj).trans h.wD,(ay _ _ _ _ aj).trans h.zT,cZ _ _ _ _ h.Aq⟩
def IZ.loc{oZ:Own}{t:Nat}{w:Wq}{l:bM}{o:Nat}{m:dP}(h:IZ oZ t w l o m):IZ (loc oZ w.heap.size) t w l o m:=by obtain⟨e,d,a,b,c⟩:=h;exact⟨e,d,a,b.loc,c.loc⟩
structure EG (l:bM) (M:av) (bw bl bi:Nat) (vc:Wx):Prop where
 len:l.length=240
 c0:l[0]?=some (iZ M.aZ)
 c1:l[1]?=some (iZ M.aW)
 c2:l[2]?=some (iZ M.bE)
 c3:l[3]?=some (uZ M.aV)
 uq:l[220]?=some (uZ M.aN)
 gr:zQ l 221 M.gr
 vW:l[225]?=some (iZ 8)
 vX:l[226]?=some (uZ M.aT.fl)
 rZ:l[227]?=some vc
 qo:l[228]?=some (.bool M.bn)
 qI:l[229]?=some (uZ M.next)
 rA:l[230]?=some (.map (some bw))
 uW:l[231]?=some (.map (some bl))
 qp:l[232]?=some (uZ M.named)
 jP:l[233]?=some M.qv
 sW:l[234]?=some (uZ M.least)
 r_:l[235]?=some M.iv
 uw:l[236]?=some (uZ M.dK)
 uX:l[237]?=some (.map (some bi))
 rC:l[238]?=some (iZ M.mY)
 xB:l[239]?=some (.bool M.parted)
theorem EG.iB{l l' M bw bl bi a}(h:EG l M bw bl bi a){o n}(w:ni l l' o n)(b:4<=o)(c:o+n<=220):EG l' M bw bl bi a:=by have e:∀j,j<4\/220<=j->l'[j]?=l[j]?:=fun j d=>w.2 j aj;exact⟨w.1.trans h.len,by rw[e _ aj,h.c0],by rw[e _ aj,h.c1],by rw[e _ aj,h.c2],by rw[e _ aj,h.c3],by grind [cases EG],h.gr.iB w aj,by grind [cases EG],by grind [cases EG],by grind [cases EG],by grind [cases EG],by grind [cases EG],by grind [cases EG],by grind [cases EG],by grind [cases EG],by grind [cases EG],by grind [cases EG],by grind [cases EG],by grind [cases EG],by grind [cases EG],by grind [cases EG],by grind [cases EG]⟩
def T0(s:Nat):List Nat:=(s+53)::(s+54)::(s+55)::nV s 45
theorem fM:x∈T0 s↔(s+53<=x/\x<=s+55)\/(s<=x/\x<s+45):=by grind [T0,tu]
def mP:List Fr->bM
 |[]=>[]
 |f::t=>f_ f nZ++mP t
def Ni(f:Nat->Option XK×Nat)(x:Nat×sS):kL:=(x.1,(f x.1).1,x.2.bQ.length,(f x.1).2,x.2.aV)
def wE(oZ:Own)(t a:Nat)(w:Wq)(b:Nat)(l:List (Nat×sS)):Prop:=
 ∃f,oZ b=t/\oH w b (l.map (Ni f))/\∀x∈l,GT oZ a 65 10 w (.slice (f x.1).1 x.2.bQ.length (f x.1).2) x.2.bQ.length (mP x.2.bQ)
theorem wE.kp{oZ aX t c w w' b l T}(h:wE oZ t c w b l)(K:Kp T oZ aX w w')(j:t∉T)(g:c∉T):wE aX t c w' b l:=by obtain⟨f,d,a,e⟩:=h;exact⟨f,by rw[K.ext b a.lt,d],a.kept (K.cK b a.lt (by grind)),fun x i=>(e x i).kp K g⟩
def Wn:List (Nat×ByteArray)->bM
 |[]=>[]
 |m::t=>[uZ m.1,.string m.2]++Wn t
structure QuM (oZ:Own) (s:Nat) (w:Wq) (bi:Nat) (M:av):Prop where
 q:GT oZ (s+53) 65 10 w M.qv M.aQ.length (mP M.aQ)
 m:GT oZ (s+54) 118 2 w M.iv M.gy.length (Wn M.gy)
 o:oZ bi=s+55
 t:zl w bi M.taken
def QuM.kp{oZ aX s w w' bi M T}(h:QuM oZ s w bi M)(K:Kp T oZ aX w w')(a:s+53∉T)(b:s+54∉T)(c:s+55∉T):QuM aX s w' bi M:=
 ⟨h.q.kp K a,h.m.kp K b,by rw[K.ext bi h.t.lt,h.o],h.t.kept (K.cK bi h.t.lt (by rw[h.o];exact c))⟩
theorem QuM.eq(h:QuM oZ s w bi M)(e:(M'.qv,M'.aQ,M'.iv,M'.gy,M'.taken)=(M.qv,M.aQ,M.iv,M.gy,M.taken)):QuM oZ s w bi M':=by constructor<;>grind [Prod.mk.injEq,cases QuM]
structure gq (oZ:Own) (s:Nat) (w:Wq) (S:Nat) (l:bM) (M:av) (bw bl bi:Nat) (vc:Wx):Prop where
 ow:oZ S=s
 s0:0<s
 cK:aS w S TS l
 cells:EG l M bw bl bi vc
 out:∀k,k<8->EC oZ (s+1+5*k) w S l (4+27*k) (M.out k)
 bH:∀k,k<8->IZ oZ (s+4+5*k) w l (18+27*k) (M.bH k)
 row:pU oZ (s+41) w S vc M.aT.rs
 Ar:wE oZ (s+42) (s+44) w bw M.aM
 bV:wE oZ (s+43) (s+44) w bl M.bV
 qu:QuM oZ s w bi M
 lo:M.outs.length=8
 li:M.ins.length=8
theorem gq.kp{oZ aX s w w' S l M bw bl bi c T}(h:gq oZ s w S l M bw bl bi c)(K:Kp T oZ aX w w')(a:∀x,s<=x->x<s+45\/s+53<=x/\x<=s+55->x∉T):gq aX s w' S l M bw bl bi c:=
 ⟨by rw[K.ext S h.cK.lt,h.ow],h.s0,bW h.cK K (by rw[h.ow];grind),h.cells,fun k b=>(h.out k b).kp K (a _ aj aj) (a _ aj aj) (a _ aj aj) (ni.refl l (4+27*k+14) 0) aj,fun k b=>(h.bH k b).kp K (a _ aj aj) (a _ aj aj) (ni.refl l (18+27*k+13) 0) aj,h.row.kp K (a _ aj aj),h.Ar.kp K (a _ aj aj) (a _ aj aj),h.bV.kp K (a _ aj aj) (a _ aj aj),h.qu.kp K (a _ aj aj) (a _ aj aj) (a _ aj aj),h.lo,h.li⟩
def gq.below{oZ s w w' S l M bw bl bi a}(h:gq oZ s w S l M bw bl bi a)(b:bJ w w'):gq oZ s w' S l M bw bl bi a:=h.kp (Kp.below (T:=[]) b) aR
def je(s:Nat)(oZ:Own)(w:Wq)(S:Nat)(bw bl bi:Nat)(M':av)(w':Wq):Prop:=∃a b c,gq a s w' S b M' bw bl bi c/\Kp (T0 s) oZ a w w'
def je.refl(h:gq oZ s w S l M bw bl bi b)(a:bJ w w'):je s oZ w S bw bl bi M w':=⟨oZ,l,b,h.below a,Kp.below a⟩
theorem gq.dA{oZ s w w' S l M bw bl bi f}(h:gq oZ s w S l M bw bl bi f)(k)(u:k<8)(m)(q:mh s (s+1+5*k) oZ S (4+27*k) l w m w'):je s oZ w S bw bl bi (M.dA k m) w':=by
 obtain⟨g,p,K,i,d,r⟩:=q;have t:∀x,x∈[s,s+1+5*k,s+1+5*k+1,s+1+5*k+1+1]->x=s\/(s+1+5*k<=x/\x<=s+3+5*k):=fun x o=>by grind
 have n:∀j,(M.dA k m).out j=if j=k then m else M.out j:=fun j=>by rw[gL,h.lo];grind
 refine⟨g,p,f,⟨by rw[K.ext S h.cK.lt,h.ow],h.s0,i,?_,fun j a=>?_,fun j a=>?_,h.row.kp K (fun e=>by grind),h.Ar.kp K (fun e=>by grind) (fun e=>by grind),h.bV.kp K (fun e=>by grind) (fun e=>by grind),(h.qu.kp K (fun e=>by grind) (fun e=>by grind) (fun e=>by grind)).eq rfl,(jD _ _ _).trans h.lo,h.li⟩,K.mono fun x o=>fM.2 (by grind)⟩;.have c:=h.cells.iB d aj aj;exact⟨c.len,c.c0,c.c1,c.c2,c.c3,c.uq,c.gr,c.vW,c.vX,c.rZ,c.qo,c.qI,c.rA,c.uW,c.qp,c.jP,c.sW,c.r_,c.uw,c.uX,c.rC,c.xB⟩
 .rw[n];by_cases b:j=k;.grind
  .rw[b_ b];exact(h.out j a).kp K (fun e=>by grind) (fun e=>by grind) (fun e=>by grind) d aj
 .exact(h.bH j a).kp K (fun e=>by grind) (fun e=>by grind) d aj
theorem gq.eZ{oZ s w w' S l M bw bl bi f}(h:gq oZ s w S l M bw bl bi f)(k)(u:k<8)(m)(q:RG s (s+4+5*k) oZ S (18+27*k) l w m w'):je s oZ w S bw bl bi (M.eZ k m) w':=by
 obtain⟨g,p,K,i,d,r⟩:=q;have t:∀x,x∈[s,s+4+5*k,s+4+5*k+1]->x=s\/(s+4+5*k<=x/\x<=s+5+5*k):=fun x o=>by grind
 have n:∀j,(M.eZ k m).bH j=if j=k then m else M.bH j:=fun j=>by rw[fQ,h.li];grind
 refine⟨g,p,f,⟨by rw[K.ext S h.cK.lt,h.ow],h.s0,i,?_,fun j a=>?_,fun j a=>?_,h.row.kp K (fun e=>by grind),h.Ar.kp K (fun e=>by grind) (fun e=>by grind),h.bV.kp K (fun e=>by grind) (fun e=>by grind),(h.qu.kp K (fun e=>by grind) (fun e=>by grind) (fun e=>by grind)).eq rfl,h.lo,(jD _ _ _).trans h.li⟩,K.mono fun x o=>fM.2 (by grind)⟩;.have c:=h.cells.iB d aj aj;exact⟨c.len,c.c0,c.c1,c.c2,c.c3,c.uq,c.gr,c.vW,c.vX,c.rZ,c.qo,c.qI,c.rA,c.uW,c.qp,c.jP,c.sW,c.r_,c.uw,c.uX,c.rC,c.xB⟩
 .exact(h.out j a).kp K (fun e=>by grind) (fun e=>by grind) (fun e=>by grind) d aj
 .rw[n];by_cases b:j=k;.grind
  .rw[b_ b];exact(h.bH j a).kp K (fun e=>by grind) (fun e=>by grind) d aj
theorem gq.cell{l'}(h:gq oZ s w S l M bw bl bi b)(o n)(y:o+n<=4\/220<=o)(q:gZ w w' S l l' o n)(t:EG l' M' bw bl bi b)(c:M'.outs=M.outs)(d:M'.ins=M.ins)(f:M'.aT=M.aT)(g:M'.aM=M.aM)(i:M'.bV=M.bV)(k:M'.qv=M.qv)(m:(M'.aQ,M'.iv,M'.gy,M'.taken)=(M.aQ,M.iv,M.gy,M.taken)):je s oZ w S bw bl bi M' w':=by
 have K:Kp [s] oZ oZ w w':=q.kp h.ow aR;have v:∀x,x∈[s]->x=s:=fun x u=>by grind
 have r:∀j,M'.out j=M.out j:=fun j=>by unfold av.out;rw[c]
 have p:∀j,M'.bH j=M.bH j:=fun j=>by unfold av.bH;rw[d]
 refine⟨oZ,l',b,⟨h.ow,h.s0,q.cK,t,fun j a=>?_,fun j a=>?_,?_,?_,?_,?_,by rw[c];exact h.lo,by rw[d];exact h.li⟩,K.mono fun x u=>fM.2 (by grind)⟩;.rw[r];exact(h.out j a).kp K (fun e=>by grind) (fun e=>by grind) (fun e=>by grind) q.iB aj
 .rw[p];exact(h.bH j a).kp K (fun e=>by grind) (fun e=>by grind) q.iB aj
 .rw[f];exact h.row.kp K (fun e=>by grind)
 .rw[g];exact h.Ar.kp K (fun e=>by grind) (fun e=>by grind)
 .rw[i];exact h.bV.kp K (fun e=>by grind) (fun e=>by grind)
 .exact(h.qu.kp K (fun e=>by grind) (fun e=>by grind) (fun e=>by grind)).eq (by rw[k,m])
theorem WO{α:Type}(d f)(l:List α)(k)(a:k<l.length)(s:Nat):(l.take (k+1)).foldl f s=f ((l.take k).foldl f s) (l.getD k d):=by grind [mR,fA]
theorem UL{L}(w)(h:gq oZ s w S l M bw bl bi L)(v:∀k,(M.bH k).aP<=dH):bN 252 #[aK S 0] w (uZ M.aP) fun e=>e=w:=by
 obtain⟨F,hF⟩:=bU (fun k=>(M.ins.take k).foldl (fun s i=>min (s+i.aP) dH) 0:Nat->Nat);have D:F 0=0:=by rw[hF];rfl
 have f:∀k,k<8->F (k+1)=min (F k+(M.bH k).aP) dH:=fun k b=>by rw[hF];exact WO xk _ M.ins k (by rw[h.li];exact b) 0
 have q:F 8=M.aP:=by rw[hF];show(M.ins.take 8).foldl _ 0=_;rw[wI (by rw[h.li];omega)];rfl
 have c:∀k,k<=8->F k<=dH:=fun k b=>by
  cases k with
  |zero=>rw[D];exact eG _
  |succ k=>rw[f k aj];exact Dy _ _
 rw[<-q];have z:Hid (∀k,k<8->bN 310 #[(aK S (4+k*27+14))] w (uZ ((M.bH k).aP:Int)) fun e=>e=w):=fun k b=>by obtain⟨N,I,E,_⟩:=h.bH k b;have:=LG S (18+27*k) (M.bH k) N I w l h.cK E;rw[show 18+27*k=4+k*27+14 by omega]at this;exact this
 have B:=aG (dz f (dz c v));clear hF f c v q h;go_enter func252,ntmps252;go_wp2;go_loopw [3,5] (fun K g wr=>∃k:Nat,k<=8/\K=(uZ (F k:Int))/\g=(iZ k)/\wr=w) (fun _ g _=>8-(eT g).toNat);case atStart=>grind
 case round=>
  obtain⟨k,b,rfl,rfl,rfl⟩:=hrel;by_cases d:k<8
  .obtain⟨n,o,p⟩:=B.out;have G:=z.out k d;have r:(k:Int)<8:=aj;have j:=o k b;have m:=p k;have C:=n k d;obtain⟨J,u,a⟩:=min2 (F k+(M.bH k).aP) dH;rw[<-a]at C;have P:F k+(M.bH k).aP<18446744073709551616:=by unfold dH at j m;omega
   generalize F k=A at *
   generalize (M.bH k).aP=y at *
   have O:=aG a;unfold dH at u j m;have H:∀x t w,(Builtin.min_ x t #[(uZ ((A:Int)+(y:Int))),uZ 4611686018427387903]).run prog w=.ok (uZ J) w:=fun x t w=>by grind
   clear n o p a u;go_wp2_with (first|(go_at_call 310;refine bK G ?_;rintro e rfl)|go_in);go_roundw;case rel=>grind
   grind [eT]
  .obtain rfl:k=8:=aj;go_wp2;go_ret;exact⟨rfl,rfl⟩
theorem ZC{α:Type}(d)(f:α->Nat)(l:List α)(k)(a:k<l.length):((l.take (k+1)).map f).sum=((l.take k).map f).sum+f (l.getD k d):=by grind [mR,fA]
theorem Ou{α:Type}(f:α->Nat)(l:List α)(k):((l.take k).map f).sum<=(l.map f).sum:=by grind [List.take_append_drop]
theorem J4{B}(w)(h:gq oZ s w S l M bw bl bi B)(g:M.pO<=M.aN)(f:M.aN<=dH):bN 265 #[aK S 0] w (uZ M.aU) fun d=>d=w:=by
 obtain⟨F,hF⟩:=bU (fun k=>M.aN-((M.outs.take k).map Ot.dI).sum:Nat->Nat);have n:F 0=M.aN:=by rw[hF];rfl
 have q:∀k,k<8->F k=F (k+1)+(M.out k).dI:=fun k c=>by rw[hF];have e:=ZC vR Ot.dI M.outs k (by rw[h.lo];exact c);have G:=Ou Ot.dI M.outs (k+1);have H:(M.outs.map Ot.dI).sum=M.pO:=rfl;have I:(M.outs.getD k vR).dI=(M.out k).dI:=rfl;grind
 have o:F 8=M.aU:=by rw[hF];show M.aN-((M.outs.take 8).map Ot.dI).sum=_;rw[wI (by rw[h.lo];omega)];rfl
 have a:∀k,F k<=dH:=fun k=>by grind
 rw[<-o];have K:w.cell? (aA S 220)=some (uZ (F 0:Int)):=by rw[n];exact(h.cK.cell _).trans h.cells.uq
 have t:Hid (∀k,k<8->bN 315 #[(aK S (4+k*27))] w (uZ ((M.out k).dI:Int)) fun d=>d=w):=fun k c=>by obtain⟨N,L,J,x,_⟩:=h.out k c;have:=qfg S (4+27*k) (M.out k).dI w ((h.cK.cell _).trans x.c7);rw[show 4+27*k=4+k*27 by omega]at this;exact this
 have j:=aG (dz q a);clear hF q a o h n g f;go_enter func265,ntmps265;go_wp2;go_loopw [3,9] (fun z i wr=>∃k:Nat,k<=8/\z=(uZ (F k:Int))/\i=(iZ k)/\wr=w) (fun _ i _=>8-(eT i).toNat);case atStart=>grind
 case round=>
  obtain⟨k,c,rfl,rfl,rfl⟩:=hrel;by_cases b:k<8
  .have y:=t.out k b;have p:(k:Int)<8:=aj;have u:=j.out.2 k;have v:=j.out.1 k b;unfold dH at u;have D:0<=(F k:Int)-((M.out k).dI:Int):=aj;have E:(F k:Int)-((M.out k).dI:Int)<18446744073709551616:=aj;have m:(F k:Int)-((M.out k).dI:Int)=(F (k+1):Int):=aj;have r:=aG m;clear v m;generalize F k=A at *
   generalize (M.out k).dI=C at *
   go_wp2_with (first|(go_at_call 315;refine bK y ?_;rintro d rfl)|go_in);go_roundw;case rel=>exact⟨k+1,aj,by rw[r.out],aR,trivial⟩
   grind [eT]
  .obtain rfl:k=8:=aj;go_wp2;go_ret;exact⟨rfl,rfl⟩
theorem ZE{vc}(f r t u)(j:Nat)(D:f.aF=(j:Int))(w)(h:gq oZ s w S l M bw bl bi vc)(B:∀k,(M.bH k).fq<=1000000)(he:bI f<=1000000):bN 297 #[aK S 0,eX f (.slice r t u)] w (uZ (M.xq j (bI f):Int)) fun v=>bJ w v:=by
 obtain⟨F,hF⟩:=bU (fun k=>((List.range k).map fun i=>max (M.bH i).fq (if i=j then bI f else 0)).sum:Nat->Nat);have Q:F 0=0:=by rw[hF];rfl
 have H:∀k,F (k+1)=F k+max (M.bH k).fq (if k=j then bI f else 0):=fun k=>by grind [List.range_succ]
 have R:F 8=M.xq j (bI f):=by rw[hF];rfl
 have p:∀k,F k<=k*1000000:=fun k=>by
  induction k with
  |zero=>rw[Q];omega
  |succ k ih=>
   rw[H];have:=B k;have:max (M.bH k).fq (if k=j then bI f else 0)<=1000000:=by split<;>omega
   omega
 rw[<-R];obtain⟨x,c⟩:=bU (w.alloc (.cells (f_ f (.slice r t u)).toArray 65));have g:bJ w x:=by rw[c];exact(bP _ w).alloc (aI _) _
 have d:aS x w.heap.size 65 (f_ f (.slice r t u)):=by grind [aS.new]
 have z:=aG d;have m:=aG g;have X:Hid (∀k,k<8->∀W y,bJ x W->bN 339 #[(aK S (4+k*27+14)),(uZ ((y:Nat):Int))] W (uZ ((max (M.bH k).fq y:Nat):Int)) fun v=>v=W):=fun k U W y C=>by have P:=(h.below g).below C;obtain⟨vh,lJ,hL,_⟩:=P.bH k U;have:=DT S (18+27*k) (M.bH k) vh lJ W l P.cK hL y;rw[show 18+27*k=4+k*27+14 by omega]at this;exact this
 have Y:Hid (∀W,bN 318 #[.agg #[iZ f.aD,iZ j,uZ f.aC,uZ f.aO,uZ f.aN,.bool f.bL,uZ f.id,uZ f.aJ,.string f.data,.slice r t u]] W (uZ (bI f:Int)) fun v=>bJ W v):=fun W=>by have:=nG f (.slice r t u) W (by grind [bI,dH]) (by unfold bI at he;omega);unfold eX at this;rw[D]at this;exact this
 have J:=aG (dz H (dz p B));clear hF H p R h B;unfold eX;rw[D];unfold f_ at c z d;rw[D]at c z d;generalize bI f=E at *
 clear g d;go_enter func297,ntmps297;go_wp2;rw[<-c];go_loopw [5,8] (fun s5 I wr=>∃k:Nat,k<=8/\s5=(uZ (F k:Int))/\I=(iZ k)/\Hid (bJ x wr)) (fun _ I _=>8-(eT I).toNat);case atStart=>exact⟨0,aj,by rw[Q];rfl,rfl,bP _ _⟩
 case round=>
  obtain⟨k,U,rfl,rfl,e⟩:=hrel;by_cases G:k<8
  .have V:(k:Int)<8:=aj;obtain⟨L,N,O⟩:=J.out;have b1:=N k;have b2:=O k;have K:=L k;have b:=fD e.out z.out;have x0:=b.cell 0;have x1:=b.cell 1;have x2:=b.cell 2;have x3:=b.cell 3;have x4:=b.cell 4;have x5:=b.cell 5;have x6:=b.cell 6;have x7:=b.cell 7;have x8:=b.cell 8;have x9:=b.cell 9;simp only[jh,gN]at x0 x1 x2 x3 x4 x5 x6 x7 x8 x9;have q:max (M.bH k).fq (if k=j then E else 0)<=1000000:=by grind
   have T:=X.out k G;clear L N O b1 b2 b;have b4:F k<=8000000:=fT (J.out.2.1 k);by_cases a:k=j
   .rw[dN a]at K q;have e1:((k:Int)==(j:Int))=true:=by grind
    have Z:=aG a;clear a;generalize (M.bH k).fq=Hh at *
    generalize F k=A at *
    go_wp2_with (first|(go_at_call 318;refine bK (Y.out wr) ?_;rintro w2 n)|(go_at_call 339;refine bK (T w2 E (e.out.trans (n.mono e.out.size))) ?_;rintro w3 rfl)|go_in);go_roundw;case rel=>exact⟨k+1,aj,by grind,aR,e.out.trans (n.mono e.out.size)⟩
    grind [eT]
   .rw[b_ a]at K q;have e1:((k:Int)==(j:Int))=false:=by grind
    have Z:=aG a;clear a;generalize (M.bH k).fq=Hh at *
    generalize F k=A at *
    have o:=T wr 0 e.out;rw[show(((0:Nat)):Int)=0 from rfl]at o;go_wp2_with (first|(go_at_call 339;refine bK o ?_;rintro w3 rfl)|go_in);go_roundw;case rel=>exact⟨k+1,aj,by grind,aR,e.out⟩
    grind [eT]
  .obtain rfl:k=8:=aj;go_wp2;go_ret;exact⟨rfl,m.out.trans (e.out.mono m.out.size)⟩
theorem qF{t e z k aB}(E:LA t e z k aB)(Z:0<k){g}(h:GT oZ g e k w v n l)(m)(hm:0<m)(iD:n+m<=1000000000):∃K x A,(∀r,(mE #[t,3] r #[v,iZ m]).run prog w=.ok K x)/\GT A g e k x K (n+m) (l++(eB z.cells m).toList)/\Kp [g] oZ A w x:=by
 obtain⟨i,S,W,V,Y⟩:=info_parts E.hi;have J:prog.underlying 3=some (.int .i64):=bZ;have D:(n+m)*aB<=140737488355328:=dx (Nat.mul_le_mul iD E.hb) kX;have h0:m*aB<=(n+m)*aB:=EZ _ aj;have O:=h.len;have hk:(n+m)*k=n*k+m*k:=Cw _ _ _;have h9:=E.hz m;have grow:∀base c (a:bM),a=l->c<n+m->(base=none/\a=[]\/∃b:XK,base=some b/\a.length=n*k/\∀j v,a[j]?=some v->w.cell? (b.add j)=some v)->(∀v∈a,v.oneCell'=true)->∃K x A,(∀r,(mE #[t,3] r #[.slice base n c,iZ m]).run prog w=.ok K x)/\GT A g e k x K (n+m) (l++(eB z.cells m).toList)/\Kp [g] oZ A w x:=by
  intro base c a N y H U;have X:(mK i.size n (.slice base n c)).run prog w.drew=.ok a.toArray w.drew:=by
   rcases H with⟨rfl,rfl⟩|⟨b,rfl,hl,hc⟩;.grind [run_firstCells_none]
   .rw[V];exact run_firstCells_some w.drew k n b n c a hl hc
  have f:=fun r=>Lib.run_append_grow_zeros (P:=prog) w t 3 r e i z .i64 .i64 E.ht J S W base n c a X m hm aj y aj (by grind) (by rw[Y];exact growslice_fits y D);have L:=grownCap_ge w (n+m) c e;have q:=grownCap_le_maxLen w (n+m) c e (by unfold maxLen;omega);unfold maxLen at q;have M:a.length=n*k:=by rw[N,O]
  have C:(a.toArray++eB z.cells m++eB z.cells (grownCap w (n+m) c e-(n+m)))=(a++(eB z.cells m).toList++(eB z.cells (grownCap w (n+m) c e-(n+m))).toList).toArray:=by apply YI;simp
  rw[C]at f;refine⟨_,_,zV oZ g w.heap.size (w.heap.size+1),f,.inr ⟨w.heap.size,_,_,rfl,zW _ _ _ _ _ (aI _) aj,aS.new w e _,?_,L,q,by grind,?_,?_⟩,?_⟩
  .rw[lM,lM,E.hz,E.hz,M];have:(grownCap w (n+m) c e-(n+m))*k+(n+m)*k=grownCap w (n+m) c e*k:=by rw[<-Cw];grind
   omega
  .grind
  .intro u p;rcases iJ.1 p with p|p
   .rcases iJ.1 p with p|p;.grind
    .exact E.h1 _ u p
   .exact E.h1 _ u p
  .have d:bJ w (w.drew.alloc (.cells (a++(eB z.cells m).toList++(eB z.cells (grownCap w (n+m) c e-(n+m))).toList).toArray e)):=(bP _ w).drew.alloc (aI _) _;exact⟨d.os,d.tape,d.output,d.size,fun b s _=>d.block b s,fun b s=>uV _ _ _ _ _ s⟩
 rcases h with⟨rfl,rfl,rfl⟩|⟨b,cap,a,rfl,ho,hB,h2,h3,h4,h5,h6,h7⟩;.exact grow none 0 [] rfl aj (.inl ⟨rfl,rfl⟩) (fun v hv=>by simp at hv)
 .by_cases y:n+m<=cap
  .have R:(n+m)*k<=cap*k:=EZ _ y;have I:=gU (P:=prog) (w:=w) (o:=n*k) hB (eB z.cells m).toList aj (E.h1 _);have f:∀r,(mE #[t,3] r #[dB b n cap,iZ m]).run prog w=.ok (dB b (n+m) cap) (put w b (bC a (n*k) (eB z.cells m).toList)):=fun r=>by
    have hw:IntKind.i64.wrap (m:Int)=m:=by rw[qB];omega
    have G:¬((m:Int)<0):=aj;have B:¬(281474976710656<(m:Int)*(i.bytes:Int)):=by grind
    have Q:¬(m*i.size=0):=Nat.mul_ne_zero aj aj;rw[<-V]at I ⊢;simp[mE,run_underlying E.ht,run_underlying J,sizeOf,typeInfo,zeroValue,S,W,asInt,asIntOf,hw,y,G,Q,B,gT,I]
   have h8:=jd a (eB z.cells m).toList (n*k) aj;refine⟨_,_,oZ,f,.inr ⟨b,cap,_,rfl,ho,hB.put _,?_,y,h4,by grind,?_,dS h7 (E.h1 _)⟩,?_⟩;.grind [cu]
   .grind
   .have F:=eU w b (bC a (n*k) (eB z.cells m).toList);exact⟨F.os,F.tape,F.output,F.size,fun j T hn=>F.block j T (fun e=>by grind),fun _ _=>rfl⟩
  .exact grow (some (aA b 0)) cap l rfl aj (.inr ⟨_,rfl,h5,fun j u T=>by rw[gT,gG,hB.cell];grind⟩) (fun u p=>h7 u (by grind))
def ql0(m):(eB (fE .u8 0).cells m).toList=cO (tO m 0):=by
 apply E_;.rw[xW,fC,qjz]
 .intro i a b;have e:i % 1=0:=aj;simp[eB,tT,cO,e]
def ql1(m):(eB (fB false).cells m).toList=jG (tO m false):=by
 apply E_;.rw[JV];simp[jG]
 .intro i a b;have e:i % 1=0:=aj;simp[eB,tT,jG,e]
def G7(x):∃(g:Fr) (b:Bool),lX x=.tuple #[eX g nZ,.bool b]:=by
 cases x with
 |none=>exact⟨jv,false,rfl⟩
 |some g=>exact⟨g,true,rfl⟩
theorem Mr(o m){E D}(k:Nat)(Q:k<8)(n)(A:aS w S TS l)(h:zS l o m E D)(x:Ux m):WA prog 257 #[aK S o,iZ k,iZ n] w fun e j=>
   e=.returned (lX ((m.gr.next 6 k m.aP n).map mI))/\∃c,gZ w j S l c o 4/\zQ c o (((m.gr.next 6 k m.aP n).map nI).getD m.gr):=by
 have u:=A.lt;obtain⟨W,r⟩:=bU (w.alloc (.cells nO.toArray 65));have C:aS W w.heap.size 65 nO:=by grind [aS.new]
 have a:bJ w W:=by rw[r];exact(bP _ w).alloc (aI _) _
 have d:=A.of_heap (a.block _ u);have z:Hid (∀q,bN 310 #[aK S o] (W.drewN q) (uZ m.aP) fun j=>j=W.drewN q):=fun q=>LG S o m E D (W.drewN q) l d h;generalize B:m.gr.next 6 k m.aP n=X at *
 obtain⟨g,b,i⟩:=G7 (X.map mI);have s:Hid (∀q,bN 254 #[aK S o,eX (lV 6 k 0) nZ,uZ m.aP,iZ n] (W.drewN q) (.tuple #[eX g nZ,.bool b]) fun j=>aS j w.heap.size 65 nO/\Hid (∃c,gZ w j S l c o 4/\zQ c o ((X.map nI).getD m.gr))):=fun q=>by
  refine bK (UW 6 (.inr rfl) k Q m.aP n (W.drewN q) d h.gr x.gr.1 x.aP) ?_;rintro j ⟨c,p,t⟩;rw[B]at *
  refine⟨by rw[i],p.other C aj,c,?_,t⟩;exact gZ.after (W:=W.drewN q) ⟨a.os,a.tape,a.output,a.size,a.block⟩ p
 generalize m.aP=V at *
 rw[i];clear i B C a d h x;unfold eX lV at s;unfold nO at r;go_enter func257,ntmps257;go_wp2_with fail;rw[<-r];clear r;go_region_with (first|(go_at_call 310;refine bK (z.out _) ?_;rintro y rfl)|(go_at_call 254;refine bK (s.out _) ?_;rintro y ⟨f,F⟩;obtain⟨Z,y1,y2,y3,y4,y5,y6,y7,y8,y9,yf⟩:=bF f;have U:=aG f;clear f s z));go_wp2_with fail;go_simp;rw[gX];have R:=gD U.out (iZ g.aD) (iZ g.aF) (uZ g.aC) (uZ g.aO) (uZ g.aN) (.bool g.bL) (uZ g.id) (uZ g.aJ) (.string g.data) nZ;have T:=gF y w.heap.size (iZ g.aD) (iZ g.aF) (uZ g.aC) (uZ g.aO) (uZ g.aN) (.bool g.bL) (uZ g.id) (uZ g.aJ) (.string g.data) nZ;generalize kC y w.heap.size (iZ g.aD) (iZ g.aF) (uZ g.aC) (uZ g.aO) (uZ g.aN) (.bool g.bL) (uZ g.id) (uZ g.aJ) (.string g.data) nZ=Y at *
 obtain⟨G,H,I,J,K,L,M,N,O,P,_⟩:=bF R;obtain⟨c,p,t⟩:=F.out;exact VH (v:=.tuple #[eX g nZ,.bool b]) (by simp[results,results257,go_sem,G,H,I,J,K,L,M,N,O,P,eX]) rfl ⟨rfl,c,p.tch T (aI _) aj,t⟩
def Ow(e:Ending):Prop:=∃v,e=.returned v
theorem C8:∀(k) (l) (i n),(lH k l i n).length=l.length
 |0,_,_,_=>rfl
 |k+1,l,i,n=>by
  rw[oM];split;.rfl
  .split;.rw[C8 k,nu]
   .rfl
def UM(D):∀(Q) (n),(qC D Q).take (n*4)=qC D (Q.take n)
 |[],n=>by simp[qC]
 |u::Q,0=>by simp[qC]
 |u::Q,n+1=>by have e:(n+1)*4=(kI (D u)).length+n*4:=dZ;show(kI (D u)++qC D Q).take ((n+1)*4)=kI (D u)++qC D (Q.take n);rw[e,List.take_length_add_append,UM D Q n]
theorem Qr.take{oZ t D w g c Q}(h:Qr oZ t D w g c Q)(n)(e:n<=Q.length):Qr oZ t D w g c (Q.take n):=by
 obtain⟨b,h⟩:=h;refine⟨b,?_⟩;rcases h with⟨a,_⟩|⟨g',cap,cs,a,h2,h3,h4,h5,h6,h7,h8,h9⟩;.cases a
 .simp only[nR,tK,wO,true_and,and_true]at a;obtain⟨rfl,rfl⟩:=a;have d:(Q.take n).length=n:=dZ;refine .inr ⟨g,c,cs,rfl,b,h3,h4,aj,h6,by rw[RL],?_,h9⟩;rw[d,<-UM,<-h8,YG];grind
theorem nP.kpt{R y'}(h:nP R y y')(c:oZ R∈T):Kp T oZ oZ y y':=⟨h.os,h.tape,h.output,by rw[h.size];grind,fun b _ a=>h.block b (fun e=>a (by grind)),fun _ _=>rfl⟩
def Qr.kp{oZ aX t D w w' g c Q T}(h:Qr oZ t D w g c Q)(K:Kp T oZ aX w w')(b:t∉T):Qr aX t D w' g c Q:=by
 refine⟨?_,h.2.kp K b⟩;rcases h.2 with⟨a,_⟩|⟨g',cap,cs,a,_,h3,_⟩;.cases a
 .cases a;rw[K.ext _ h3.lt,h.1]
theorem qfz(oZ t D w p g c Q n)(l:Q.length=n+1)(I:n<=1000)(h:Bv oZ t D w p g c Q):WA prog 376 #[aK p 0] w fun e v=>Ow e/\Bv oZ t D v p g c (Q.take n)/\Kp [t+1] oZ oZ w v:=by
 have J:w.cell? (aA p 0)=some (dB g (n+1) c):=by rw[h.pb.cell,<-l];rfl
 have A:=h.pb.frozen 0;have i:Q[n]?=some (Q.getD n 0):=by grind
 obtain⟨q0,m,q,u⟩:=rF D Q n _ i;have b:∀k x,(qC D Q)[k]?=some x->w.cell? (aA g k)=some x:=fun k x C=>by obtain⟨F,e,_,_,r,_⟩:=h.sr.2.cell k x C;grind
 have L:=b _ _ q0;have M:=b _ _ m;have N:=b _ _ q;have O:=b _ _ u;generalize D (Q.getD n 0)=s at *
 have B:=h.pb.lt;have j:n+1<=c:=by obtain⟨a,E,e,H,_⟩:=h.sr.2.shape;grind
 have y:Hid (∀o,Bv oZ t D ((w.setCell (aA p 0) (dB g n c)).alloc o) p g c (Q.take n)/\Kp [t+1] oZ oZ w ((w.setCell (aA p 0) (dB g n c)).alloc o)):=fun o=>by have z:Kp [t+1] oZ oZ w (w.setCell (aA p 0) (dB g n c)):=((nP.refl p w).set 0 _).kpt (by rw[h.op];simp);have d:=z.iQ ((bP _ _).alloc (aI _) o);have f:(Q.take n).length=n:=dZ;refine⟨⟨h.op,?_,(h.sr.take n aj).kp d aR⟩,d⟩;rw[f];exact(h.pb.setCell 0 _).alloc o
 clear h l i q0 m q u b;have G:(n:Int)+1-1=(n:Int):=aj;have K:¬(p=w.heap.size):=aj;go_enter func376,ntmps376;go_wp2_with fail;go_ret;exact⟨⟨_,rfl⟩,y.out _⟩
def Ox(oZ t D)(H:∀u:Nat,(D u).u=(u:Int))(w p g c Q n)(i:Q.length=n+1)(P:n<1000)(h:Bv oZ t D w p g c Q):WA prog 209 #[.iface 250 (aK p 0)] w fun e a=>Ow e/\Bv oZ t D a p g c (mO Q)/\Kp [t,t+1] oZ oZ w a:=by
 have x:w.cell? (aA p 0)=some (dB g (n+1) c):=by rw[h.pb.cell,<-i];rfl
 have J:=qjd p w _ _ _ x;have L:=RZ p w _ _ _ x;have s:=aG (EI (some (aA g 0)) (n+1) c w);have G:Hid (bN 378 #[(dB g (n+1) c),iZ 0,iZ n] w (.tuple #[]) fun a=>Bv oZ t D a p g c (sw Q 0 n)/\Kp [t] oZ oZ w a):=by have z:=Gf oZ t D w g c Q 0 n aj aj h.sr;rw[i]at z;refine bK z ?_;rintro a ⟨f,d⟩;refine⟨rfl,⟨h.op,?_,f⟩,d⟩;rw[nu];exact bW h.pb d (by rw[h.op];simp)
 have m:Hid (∀y,Bv oZ t D y p g c (sw Q 0 n)->WA prog 270 #[.iface 250 (aK p 0),iZ 0,iZ n] y fun e a=>ZF e/\Bv oZ t D a p g c (lH Q.length (sw Q 0 n) 0 n)/\Kp [t] oZ oZ y a):=fun y l=>WQ oZ t D H y p g c (sw Q 0 n) 0 n (by rw[nu];omega) (by rw[nu];omega) (by rw[nu];omega) l Q.length aj;have E:Hid (∀(y:Wq) (Z:List Nat),Z.length=n+1->Bv oZ t D y p g c Z->WA prog 376 #[aK p 0] y fun e a=>Ow e/\Bv oZ t D a p g c (Z.take n)/\Kp [t+1] oZ oZ y a):=fun y Z I l=>qfz oZ t D y p g c Z n I aj l;have F:Hid (mO Q=(lH Q.length (sw Q 0 n) 0 n).take n):=by unfold Hid mO;rw[i];rfl
 have k:Hid (∀y,Bv oZ t D y p g c (lH Q.length (sw Q 0 n) 0 n)->(lH Q.length (sw Q 0 n) 0 n).length=n+1):=fun y l=>by rw[C8,nu,i]
 have K:=qnf p;generalize lH Q.length (sw Q 0 n) 0 n=Z at *
 have O:(n:Int)+1-1=(n:Int):=aj;have N:=aG i;clear h i x;go_enter func209,ntmps209;go_wp2_with fail;refine bK s.out ?_;rintro y rfl;go_wp2_with fail;refine bK G.out ?_;rintro M ⟨f,d⟩;have o:=aG f;have q:=aG d;clear f d;go_wp2_with fail;refine(m.out M o.out).mono ?_;rintro e A ⟨⟨b,rfl⟩,f,d⟩;have j:=aG f;have r:=aG d;clear f d;go_wp2_with fail;refine(E.out A Z (k.out A j.out) j.out).mono ?_;rintro e B ⟨⟨v,rfl⟩,f,d⟩;have C:Hid (Bv oZ t D B p g c (mO Q)/\Kp [t,t+1] oZ oZ y B):=by rw[F.out];exact⟨f,((q.out.mono aR).trans (r.out.mono aR)).trans (d.mono aR)⟩
 clear f d;go_wp2_with fail;go_ret;exact⟨⟨_,rfl⟩,C.out⟩
def R3{c a rs}(h:j_ w (some (aA c a)) rs)(K:Kp T oZ aX w w')(f:c<w.heap.size)(e:oZ c∉T):j_ w' (some (aA c a)) rs:=fun j l=>by obtain⟨b,o,d,g,i,k⟩:=h j l;simp only[tK,wO,and_true]at d;obtain⟨rfl,rfl⟩:=d;exact⟨c,a,rfl,cell_of g (K.cK c f e),cell_of i (K.cK c f e),k⟩
def RgM(oZ:Own)(t:Nat)(w:Wq)(v:Wx)(rs:bY):Prop:=
 (v=nZ/\rs=[])\/∃b a c,v=.slice (some (aA b a)) rs.length c/\rs.length<=c/\c<=9223372036854775807/\b<w.heap.size/\oZ b=t/\j_ w (some (aA b a)) rs
theorem RgM.kp{t rs}(h:RgM oZ t w v rs)(K:Kp T oZ aX w w')(k:t∉T):RgM aX t w' v rs:=by
 rcases h with h|⟨d,b,c,e,f,g,a,i,j⟩;.exact .inl h
 .exact .inr ⟨d,b,c,e,f,g,gK a K.size,by rw[K.ext d a,i],R3 j K a (by grind)⟩
def AnM(oZ:Own)(s:Nat)(w:Wq)(a:Nat)(b:bY):Prop:=oZ a=s+48/\∃v,aS w a 342 [v]/\RgM oZ (s+49) w v b
theorem AnM.kp{oZ aX s w w' a c T}(h:AnM oZ s w a c)(K:Kp T oZ aX w w')(g:s+48∉T)(f:s+49∉T):AnM aX s w' a c:=by obtain⟨d,v,b,e⟩:=h;exact⟨by rw[K.ext a b.lt,d],v,bW b K (by grind),e.kp K f⟩
def Env(oZ:Own)(s:Nat)(w:Wq)(S bw bl bi b:Nat)(M:av)(a:bY):Prop:=∃l c,gq oZ s w S l M bw bl bi c/\AnM oZ s w b a
def Env.kp{oZ aX s w w' S bw bl bi d M c T}(h:Env oZ s w S bw bl bi d M c)(K:Kp T oZ aX w w')(g:∀x,s<=x->x<s+45\/s+53<=x/\x<=s+55->x∉T)(e:s+48∉T)(f:s+49∉T):Env aX s w' S bw bl bi d M c:=by obtain⟨l,i,a,b⟩:=h;exact⟨l,i,a.kp K g,b.kp K e f⟩
def Env.below{oZ s w w' S bw bl bi b M a}(h:Env oZ s w S bw bl bi b M a)(c:bJ w w'):Env oZ s w' S bw bl bi b M a:=h.kp (Kp.below (T:=[]) c) aR aR aR
structure QF (f:Fr):Prop where
 kd:f.aD=7
 st:f.aF=0
 ok:oz f
 sn:snd f=true
 rs:f.ranges=[]
 ln:(bf f).length<=1000000
structure Wk (M:av):Prop where
 ob:∀k,(M.out k).aB.length<=2048
 oa:∀k,Bh (M.out k).eH
 oc:∀k,Bh (M.out k).aT
 nt:∀k,(M.out k).nt.bG=true->(M.out k).aB.length<=(M.out k).nt.aC/\(M.out k).nt.aC<=2048
 bH:∀k,Ux (M.bH k)
 ga:M.gr.ahead<=4096
 sp:M.pO<=M.aN
 lm:M.aN<=dH
 q:∀f∈M.aQ,QF f
 ql:M.aQ.length<=16
 wl:M.aM.length<100000
theorem Wk.dI{M}(h:Wk M)(d:M.outs.length=8)(k)(c:k<8):(M.out k).dI<=dH:=by
 have a:=h.sp;have b:=h.lm;have:(M.out k).dI<=M.pO:=by
  have:=DJ (M.outs.map Ot.dI) k;have e:(M.outs.map Ot.dI).getD k 0=(M.out k).dI:=by grind [av.out,fA]
  rw[e]at this;exact this
 omega
def Tn(s:Nat):List Nat:=nV s 45++[s+48,s+53,s+54,s+55]
def Tb(s:Nat):List Nat:=(nV s 60).filter fun x=> !decide (x=s+47)&& !decide (x=s+49)
theorem xG:x∈Tn s↔(s<=x/\x<s+45)\/x=s+48\/s+53<=x/\x<=s+55:=by grind [Tn,tu]
theorem ko:x∈Tb s↔(s<=x/\x<s+60)/\x≠s+47/\x≠s+49:=by unfold Tb;grind
def qnh(s):∀x∈Tn s,x∈Tb s:=fun x a=>ko.2 (fT (xG.1 a))
structure WR (oZ:Own) (s:Nat) (w:Wq) (x:FV):Prop where
 len:x.2.2.1=x.1.ranges.length
 cap:x.1.ranges.length<=x.2.2.2
 vF:j_ w x.2.1 x.1.ranges
 cK:∀a,x.2.1=some a->a.block<w.heap.size/\oZ a.block=s+49/\a.spot=none
 nil:x.1.aD≠2->x.2=(none,0,0)
theorem WR.none(oZ s w)(f:Fr)(h:f.ranges=[]):WR oZ s w (f,.none,0,0):=⟨by rw[h];rfl,by grind,fun j c=>by grind,(fun a b=>by cases b),fun _=>rfl⟩
def kr(oZ:Own)(s:Nat)(w:Wq)(S bw bl bi d:Nat)(M:av)(c:bY)(r:Option (Fr×av×bY))(e:Ending)(w':Wq):Prop:=
 ∃(x:FV) (b:Bool) (a:Own),e=.returned (.tuple #[eX x.1 (rW x),.bool b])/\b=r.isSome/\Kp (Tn s) oZ a w w'/\Env a s w' S bw bl bi d ((r.map fun y=>y.2.1).getD M) ((r.map fun y=>y.2.2).getD c)/\∀y,r=some y->x.1=y.1/\WR a s w' x
def sJ(oZ:Own)(s:Nat)(w0:Wq)(S bw bl bi c:Nat)(n:Nat)(p k:Array Wx)(d:av->bY->Bool):Prop:=
 ∀b w M a,Kp (Tb s) oZ b w0 w->Env b s w S bw bl bi c M a->Wk M->WA prog n (p++k) w fun e f=>e=.returned (.bool (d M a))/\bJ w f
def vK(oZ:Own)(s:Nat)(w0:Wq)(S bw bl bi c:Nat)(n:Nat)(p k:Array Wx)(d:av->bY->Bool)(nx:av->bY->Int->Option (Fr×av×bY)):Prop:=
 ∀b w M a (au:Int),Kp (Tb s) oZ b w0 w->Env b s w S bw bl bi c M a->Wk M->d M a=true-> -1000000<=au/\au<=1000000->WA prog n (p.push (iZ au)++k) w fun e f=>kr b s w S bw bl bi c M a (nx M a au) e f
def DW(oZ:Own)(s:Nat)(w0:Wq)(S bw bl bi c:Nat)(n:Nat)(p k:Array Wx)(d:av->bY->Bool)(nx:av->bY->Int->Option (Fr×av×bY)):Prop:=
 ∀b w M a (au:Int),Kp (Tb s) oZ b w0 w->Env b s w S bw bl bi c M a->Wk M->d M a=true->WA prog n (p.push (iZ au)++k) w fun e f=>kr b s w S bw bl bi c M a (nx M a au) e f
def DW.kp{b a}(h:DW oZ s w0 S bw bl bi a n p k c nx)(K:Kp (Tb s) oZ b w0 d):DW b s d S bw bl bi a n p k c nx:=
 fun g w M f i e=>h g w M f i (K.trans e)
def sJ.kp{b a}(h:sJ oZ s w0 S bw bl bi a n p k c)(K:Kp (Tb s) oZ b w0 d):sJ b s d S bw bl bi a n p k c:=
 fun g w M f e=>h g w M f (K.trans e)
def vK.kp{b a}(h:vK oZ s w0 S bw bl bi a n p k c nx)(K:Kp (Tb s) oZ b w0 d):vK b s d S bw bl bi a n p k c nx:=
 fun g w M f i e=>h g w M f i (K.trans e)
structure Bx (oZ:Own) (s:Nat) (w:Wq) (b:Nat) (t:WK) (v:Wx):Prop where
 ow:oZ b=s+47
 cK:aS w b t [v]
theorem Bx.kp{b t}(h:Bx oZ s w b t v)(K:Kp (Tb s) oZ aX w w'):Bx aX s w' b t v:=
 ⟨by rw[K.ext b h.cK.lt,h.ow],bW h.cK K (by rw[h.ow];grind [ko])⟩
def Bx.below{b t}(h:Bx oZ s w b t v)(a:bJ w w'):Bx oZ s w' b t v:=⟨h.ow,fD a h.cK⟩
def Bx.cell{oZ s w b t v}(h:Bx oZ s w b t v):w.cell? (aA b 0)=some v:=h.cK.cell 0
def R4{u i}(j m)(F:∀args w,(callFunc n args).run prog w=.ok (.enter n args) w)(v:Bx oZ s w0 j 128 (aK S 0))(x:Bx oZ s w0 m 28 (.func (.func n) p k))(h:sJ oZ s w0 S bw bl bi u n p k i):sJ oZ s w0 S bw bl bi u 261 #[] #[aK j 0,aK m 0] fun M c=> !M.full&&i M c:=by
 intro D w M c K y o;have z:=h D w M c K y o;obtain⟨l,H,g,E⟩:=y;have J:=(v.kp K).cell;have L:=(x.kp K).cell;have G:=(g.cK.cell _).trans g.cells.rA;obtain⟨f,r,d,t⟩:=g.Ar;have a:=qfm _ d (by rw[mH];have:=o.wl;omega);rw[mH]at a;have b:Hid (bN 262 #[.map (some bw)] w (.bool M.full) fun e=>e=w):=a;have C:=aG z;show bN 261 #[aK j 0,aK m 0] w (.bool (!M.full&&i M c)) fun e=>bJ w e;generalize i M c=B at *
 clear z a d t r g E o h v x K;generalize M.full=A at *
 cases A;.go_enter func261,ntmps261;go_wp2_with (first|(go_at_call 262;refine bK b.out ?_;rintro e rfl)|(go_at_fn n;refine bK C.out ?_;rintro I q)|go_in);go_ret;exact⟨aR,q⟩
 .go_enter func261,ntmps261;go_wp2_with (first|(go_at_call 262;refine bK b.out ?_;rintro e rfl)|go_in);go_ret;exact⟨aR,bP _ _⟩
def xH(oZ w):Kp [] oZ (loc oZ w.heap.size) w w:=⟨rfl,rfl,rfl,aI _,fun _ _ _=>rfl,fun b a=>jW oZ _ b a⟩
theorem qg0{f h}(l:AnM oZ s w i h)(v:0<s)(n:bJ w W)(r:w.heap.size<W.heap.size)(q:je s (loc oZ w.heap.size) W S bw bl bi M' y)(d:nP w.heap.size y f):∃a,Kp (Tn s) oZ a w f/\Env a s f S bw bl bi i M' h:=by
 obtain⟨a,t,u,k,K⟩:=q;have c:=((xH oZ w).mono aR).trans ((Kp.below n).trans K);have m:a w.heap.size∈[0]:=by rw[K.ext _ r,jF _ _ _ (aI _)];simp
 have g:=d.kpt m;have j:Kp (Tn s) oZ a w f:=⟨d.os.trans c.os,d.tape.trans c.tape,d.output.trans c.output,by rw[d.size];exact c.size,fun b o p=>(d.block b aj).trans (c.cK b o (fun e=>p (xG.2 (fT (fM.1 e))))),c.ext⟩;refine⟨a,j,t,u,k.kp g (fun x z _ e=>by grind),?_⟩;have:=l.kp (T:=T0 s) (aX:=a) (w':=y) c (fun e=>fT (fM.1 e)) (fun e=>fT (fM.1 e));exact this.kp g aR aR
def gq.loc(h:gq oZ s w S l M bw bl bi a)(b:bJ w W):gq (loc oZ w.heap.size) s W S l M bw bl bi a:=
 (h.kp (xH oZ w) aR).below b
def qha(w k o r)(h:k<8)(b:o<=dH)(c:r<=o):I_ w (ou k o r) none 0:=by
 have d:(0:Nat)<=dH:=kX;have a:=dx c b;refine Ab w _ ?_ rfl (by show(0:Nat)<=4096;decide) ?_;.simp[snd,rY,oI,ou,b,c,a,d];omega
 .have e:=nK k;have f:=nK o;have g:=nK r;simp[bf,dV,ou,fK,fu,fieldAt];omega
abbrev ntC(k:Nat)(o r:Nat):bM:=[iZ 3,iZ k,uZ o,uZ r,uZ 0,.bool false,uZ 0,uZ 0,.string ⟨#[]⟩,nZ]
theorem qhb(o g)(k:Nat)(h8:k<8)(r j w)(u:aS w S TS l)(h:zR l o g)(ho:g.aC<=dH)(hr:r<=g.aC):WA prog 313 #[aK S o,iZ k,uZ r,iZ j] w fun e s=>
   e=.returned (lX ((g.next k r j).map mI))/\∃q,gZ w s S l q o 4/\zR q o (((g.next k r j).map nI).getD g):=by
 obtain⟨W,c⟩:=bU ((w.alloc (.cells nO.toArray 65)).alloc (.cells (ntC k g.aC r).toArray 65));have A:aS W w.heap.size 65 nO:=by rw[c];exact(aS.new w 65 _).alloc _
 have p:aS W (w.heap.size+1) 65 (ntC k g.aC r):=by rw[c];have:=aS.new (w.alloc (.cells nO.toArray 65)) 65 (ntC k g.aC r);grind [qd]
 have d:bJ w W:=by rw[c];exact((bP _ w).alloc (aI _) _).alloc aR _
 have iD:W.heap.size=w.heap.size+2:=by rw[c];simp
 have m:=u.of_heap (d.block _ u.lt);have E:Hid (bN 210 #[eX (ou k g.aC r) nZ] W (iZ ((bf (ou k g.aC r)).length:Int)) fun s=>bJ w s/\bJ W s):=by refine bK (um _ none 0 W (qha _ k g.aC r h8 ho hr)) ?_;rintro s hb;exact⟨rfl,d.trans (hb.mono aj),hb⟩
 have F:Hid (g.next k r j=if j<((bf (ou k g.aC r)).length:Int)then none else some (ou k g.aC r,g.aw r)):=rfl;have H:Hid (∀z,bJ W z->bN 342 #[aK S o,eX (ou k g.aC r) nZ] z (.tuple #[]) fun s=>∃q,gZ z s S l q o 4/\zR q o (g.aw r)):=fun z hz=>by exact UU o g (ou k g.aC r) nZ (m.of_heap (hz.block _ m.lt)) h
 have c1:w.cell? (aA S (o+1))=some (uZ g.aC):=by rw[u.cell];exact h.c1
 generalize g.next k r j=X at *
 generalize hn:(bf (ou k g.aC r)).length=n at *
 have G5:=u.lt;have HB:=aG (dz u h);obtain⟨x0,x1,x2,x3,x4,x5,x6,x7,x8,x9,xf⟩:=bF p;have J:=aG (dz p (dz A d));clear p A d m u h ho hr hn;unfold eX ou at E H;unfold ntC nO at c;generalize g.aC=I at *
 by_cases C:j<(n:Int)
 .have x:Hid (X=none):=by unfold Hid;rw[F.out,dN C]
  clear F H;go_enter func313,ntmps313;go_wp2_with fail;rw[<-c];refine bK E.out ?_;rintro z ⟨i,a⟩;have f:=J.out.2.1.of_heap (a.block _ aj);obtain⟨y0,y1,y2,y3,y4,y5,y6,y7,y8,y9,yf⟩:=bF f;have G:=aG (dz f i);clear a f i c x0 x1 x2 x3 x4 x5 x6 x7 x8 x9 xf E;go_wp2_with fail;rw[gX];have Z:=gD G.out.1 (iZ 0) (iZ 0) (uZ 0) (uZ 0) (uZ 0) (.bool false) (uZ 0) (uZ 0) (.string ⟨#[]⟩) nZ;have qm:=gF z w.heap.size (iZ 0) (iZ 0) (uZ 0) (uZ 0) (uZ 0) (.bool false) (uZ 0) (uZ 0) (.string ⟨#[]⟩) nZ;generalize kC z w.heap.size (iZ 0) (iZ 0) (uZ 0) (uZ 0) (uZ 0) (.bool false) (uZ 0) (uZ 0) (.string ⟨#[]⟩) nZ=Wf at *
  obtain⟨M,N,O,P,Q,R,T,U,V,Y,_⟩:=bF Z;refine VH (v:=lX (X.map mI)) (by rw[x.out];simp[results,results313,go_sem,M,N,O,P,Q,R,T,U,V,Y,eX,lX,jv]) rfl ⟨rfl,l,(gZ.refl HB.out.1 o 4).iQ (qm.below G.out.2 aj),?_⟩;rw[x.out];exact HB.out.2
 .have x:Hid (X=some (ou k I r,g.aw r)):=by unfold Hid;rw[F.out,b_ C]
  clear F;go_enter func313,ntmps313;go_wp2_with fail;rw[<-c];refine bK E.out ?_;rintro z ⟨i,a⟩;have t:=J.out.1.of_heap (a.block _ aj);have f:=J.out.2.1.of_heap (a.block _ aj);have h2:=a.size;have HA:=aG (H.out z a);obtain⟨v0,v1,v2,v3,v4,v5,v6,v7,v8,v9,vf⟩:=bF t;have G:=aG (dz t (dz f i));clear a t f i c x0 x1 x2 x3 x4 x5 x6 x7 x8 x9 xf E H;go_wp2_with fail;refine bK HA.out ?_;rintro y ⟨q,b,B⟩;obtain⟨t,f,i⟩:=G.out;have D:=b.other t aj;have L:=b.other f aj;obtain⟨x0,x1,x2,x3,x4,x5,x6,x7,x8,x9,xf⟩:=bF D;obtain⟨y0,y1,y2,y3,y4,y5,y6,y7,y8,y9,yf⟩:=bF L;have K:=aG (dz L (dz (gZ.after i b) B));clear b B t f i D L v0 v1 v2 v3 v4 v5 v6 v7 v8 v9 vf;go_wp2_with fail;rw[gX];have Z:=gD K.out.1 (iZ 3) (iZ k) (uZ I) (uZ r) (uZ 0) (.bool false) (uZ 0) (uZ 0) (.string ⟨#[]⟩) nZ;have qm:=gF y w.heap.size (iZ 3) (iZ k) (uZ I) (uZ r) (uZ 0) (.bool false) (uZ 0) (uZ 0) (.string ⟨#[]⟩) nZ;generalize h0:kC y w.heap.size (iZ 3) (iZ k) (uZ I) (uZ r) (uZ 0) (.bool false) (uZ 0) (uZ 0) (.string ⟨#[]⟩) nZ=Wf at *
  obtain⟨M,N,O,P,Q,R,T,U,V,Y,_⟩:=bF Z;refine VH (v:=lX (X.map mI)) (by rw[x.out];simp[results,results313,go_sem,M,N,O,P,Q,R,T,U,V,Y,eX,lX,ou]) rfl ⟨rfl,q,K.out.2.1.tch qm aj aj,?_⟩;rw[x.out];exact K.out.2.2
theorem Jg(o g n c a)(k:Nat)(U:k<8)(s)(D:aS w S TS l)(V:n<=2048)(C:l[o]?=some (.slice a n c))(h:zR l (o+2) g)(G:g.aC<=dH)(H:n<=g.aC):WA prog 260 #[aK S o,iZ k,iZ s] w fun e r=>
   e=.returned (lX ((g.next k n s).map mI))/\∃i,gZ w r S l i (o+2) 4/\zR i (o+2) (((g.next k n s).map nI).getD g):=by
 have A:=D.lt;obtain⟨W,u⟩:=bU (w.alloc (.cells nO.toArray 65));have F:aS W w.heap.size 65 nO:=by grind [aS.new]
 have d:bJ w W:=by rw[u];exact(bP _ w).alloc (aI _) _
 have j:=D.of_heap (d.block _ A);have B:Hid (∀q,bN 188 #[aK S o] (W.drewN q) (uZ n) fun r=>r=W.drewN q):=fun q=>qO S o n c a (W.drewN q) V (by rw[show(W.drewN q).cell? (aA S o)=W.cell? (aA S o)from rfl,j.cell];exact C);generalize E:g.next k n s=X at *
 obtain⟨f,b,p⟩:=G7 (X.map mI);have x:Hid (∀q,bN 313 #[(aK S (o+2)),iZ k,uZ n,iZ s] (W.drewN q) (.tuple #[eX f nZ,.bool b]) fun r=>aS r w.heap.size 65 nO/\Hid (∃i,gZ w r S l i (o+2) 4/\zR i (o+2) ((X.map nI).getD g))):=fun q=>by
  refine bK (qhb (o+2) g k U n s (W.drewN q) j h G H) ?_;rintro r ⟨i,t,z⟩;rw[E]at *
  refine⟨by rw[p],t.other F aj,i,?_,z⟩;exact gZ.after (W:=W.drewN q) ⟨d.os,d.tape,d.output,d.size,d.block⟩ t
 rw[p];clear p E F d j h G H C;unfold eX at x;unfold nO at u;go_enter func260,ntmps260;go_wp2_with fail;rw[<-u];clear u;go_region_with (first|(go_at_call 188;refine bK (B.out _) ?_;rintro y rfl)|(go_at_call 313;refine bK (x.out _) ?_;rintro y ⟨m,I⟩;obtain⟨y0,y1,y2,y3,y4,y5,y6,y7,y8,y9,yf⟩:=bF m;have wu:=aG m;clear m x B));all_goals
  go_wp2_with fail;go_simp;rw[gX];have Y:=gD wu.out (iZ f.aD) (iZ f.aF) (uZ f.aC) (uZ f.aO) (uZ f.aN) (.bool f.bL) (uZ f.id) (uZ f.aJ) (.string f.data) nZ;have Z:=gF y w.heap.size (iZ f.aD) (iZ f.aF) (uZ f.aC) (uZ f.aO) (uZ f.aN) (.bool f.bL) (uZ f.id) (uZ f.aJ) (.string f.data) nZ;generalize kC y w.heap.size (iZ f.aD) (iZ f.aF) (uZ f.aC) (uZ f.aO) (uZ f.aN) (.bool f.bL) (uZ f.id) (uZ f.aJ) (.string f.data) nZ=Wf at *
  obtain⟨J,K,L,M,N,O,P,Q,R,T,_⟩:=bF Y;obtain⟨i,t,z⟩:=I.out;exact VH (v:=.tuple #[eX f nZ,.bool b]) (by simp[results,results260,go_sem,J,K,L,M,N,O,P,Q,R,T,eX]) rfl ⟨rfl,i,t.tch Z (aI _) aj,z⟩
end Go.Proofs.YtphbledmopchnaaGreatDoor.Sd
namespace Go.Proofs.YtphbledmopchnaaGreatDoor.Sd
open Go.RowKit Go.Lib Mm Go.Maps Tryz
section
attribute [local go_sem] zG
def GZ:∀(a) (j i),j<a.length->i<10->(mP a)[j*10+i]?=(f_ (a.getD j jv) nZ)[i]?
 |[],_,_,h,_=>by simp at h
 |f::t,0,i,_,hi=>by show(f_ f nZ++mP t)[0*10+i]?=_;rw[KV,gG,Av (by exact hi)];rfl
 |f::t,j+1,i,h,hi=>by show(f_ f nZ++mP t)[(j+1)*10+i]?=_;have b:(f_ f nZ).length=10:=rfl;rw[Nq aj,b,show(j+1)*10+i-10=j*10+i by omega,GZ t j i (by simpa using h) hi];rfl
theorem Kc:∀(l:List (Nat×sS)) (y),(l.Pairwise fun x z=>x.1≠z.1)->y∈l->l.Perm (y::l.filter fun z=> !decide (z.1=y.1))
 |[],_,_,h=>by cases h
 |a::t,y,hp,h=>by
  obtain⟨f,b⟩:=QB.1 hp;by_cases e:a.1=y.1
  .have c:y=a:=by
    grind
   subst c;rw[List.filter_cons_of_neg aR,Jq.2 fun z g=>by grind]
  .have d:y∈t:=by
    grind
   rw[List.filter_cons_of_pos (by simpa using e)];exact((Kc t y b d).cons a).trans (.swap _ _ _)
def Sb(l m):bQ (l++m)=bQ l++bQ m:=by simp[bQ]
structure Wk1 (f:Nat->Option XK×Nat) (b r t tf tr:Nat) (ls:List (Nat×sS)) (J:Own->List Fr->Wq->Prop) (oZ:Own) (y:Wq) (lp lr:List (Nat×sS)) (pre:List Fr):Prop where
 rg:xu y b r (ls.map (Ni f)) (lr.map (Ni f))
 ob:oZ b=t
 orr:oZ r=tr
 gs:∀x∈ls,GT oZ tf 65 10 y (.slice (f x.1).1 x.2.bQ.length (f x.1).2) x.2.bQ.length (mP x.2.bQ)
 pm:(lp++lr).Perm ls
 j:J oZ pre y
def Wk1.kp{f b r t d e j J oZ aX y y' g i c a T}(h:Wk1 f b r t d e j J oZ y g i c)(K:Kp T oZ aX y y')(k:t∉T)(l:d∉T)(m:e∉T)(n:J aX a y'):Wk1 f b r t d e j J aX y' g i a:=
 ⟨h.rg.kept (K.cK b h.rg.map.lt (by rw[h.ob];exact k)) (K.cK r h.rg.lt (by rw[h.orr];exact m)),by rw[K.ext b h.rg.map.lt,h.ob],by rw[K.ext r h.rg.lt,h.orr],fun x o=>(h.gs x o).kp K l,h.pm,n⟩
def Wk1.aH{f b r t k c j J oZ aX y y' g i a T}(h:Wk1 f b r t k c j J oZ y g i a)(K:Kp T oZ aX y y')(d:t∉T)(e:c∉T):y'.rangeLeft b r=y.rangeLeft b r:=
 gY (K.cK b h.rg.map.lt (by rw[h.ob];exact d)) (K.cK r h.rg.lt (by rw[h.orr];exact e))
theorem qa5(F n)(hF:F.fn 243)(x7:F.round=none)(hn:1<=n)(L bx b t s r Ty o)(x2:∀x∈o,x.2.bQ.length<=1000000)(ht:t∉Ty)(x9:s∉Ty)(ha:r∉Ty)(xj:s≠r)(J:Own->List Fr->Wq->Prop)(hJ:∀oZ R C W Q,J oZ C W->Kp [r] oZ R W Q->J R C Q)(hY:∀oZ C f W,J oZ C W->(∃x∈o,f∈x.2.bQ)->YieldAt F (n-1) prog L #[eX f nZ] W fun e Q=>e=.returned (.bool true)/\∃R,J R (C++[f]) Q/\Kp Ty oZ R W Q)(oZ W)(hb:aS W bx 203 [.map (some b)])(G:wE oZ t s W b o)(h0:J oZ [] W):CallsIn F n prog 243 #[.func (.yield L) #[] #[],aK bx 0] W fun e Q=>(∃v,e=.returned v)/\∃R c,c.Perm o/\J R (bQ c) Q:=by
 obtain⟨f,f1,f2,f3⟩:=G;have x3:o.Pairwise fun x z=>x.1≠z.1:=by have:=f2.keys;rw[QL]at this;exact this
 have k0:W.cell? (aA bx 0)=some (.map (some b)):=hb.cell 0;have HJ:=aG hJ;have HY:=aG hY;have H0:=aG (dz f1 (dz f3 h0));have HM:=aG f2;clear hb f1 f2 f3 h0 hJ hY;refine callsIn_of_wp func243 rfl hF ?_ x7;simp only[ntmps243,E8,pI,vD,Nat.reduceAdd,Nat.reduceSub,Ju,Jt,Cr,Jv,pJ,AA];gi_wp2_with (first|(gi_at_range;refine R_ _ rfl _ rfl b _ rfl HM.out ?_;intro w0 O q x8)|fail);have H1:Hid (∃l,Wk1 f b W.heap.size t s r o J l w0 [] o []):=by obtain⟨l,ho⟩:=bU (fun x=>if x<W.heap.size then oZ x else r:Own);have K:Kp [] oZ l W w0:=⟨q.os,q.tape,q.output,q.size,fun x B _=>q.block x B aR,fun x B=>by grind⟩;exact⟨l,O,by rw[K.ext b HM.out.lt];exact H0.out.1,by grind,fun x B=>(H0.out.2.1 x B).kp K aR,.refl _,HJ.out _ _ _ _ _ H0.out.2.2 (K.mono aR)⟩
 clear O q x8 H0 HM k0;go_frame;gi_loopw [9] (fun _ wr=>∃oZ c D,Hid (Wk1 f b W.heap.size t s r o J oZ wr c D (bQ c))) (fun _ wr=>wr.rangeLeft b W.heap.size)
 case atStart=>obtain⟨l,h1⟩:=H1.out;exact⟨l,[],o,h1⟩
 case round=>
  obtain⟨l,c,D,H2⟩:=hrel;clear H1;have h8:=H2.out.rg;obtain⟨lf,A⟩:=bU (D.map (Ni f));rw[<-A]at h8;have h2:=aG A;clear A;gi_wp2_with (first|(gi_at_next;refine Xh _ rfl _ rfl b W.heap.size _ _ rfl h8 ?_ ?_)|fail)
  .intro h0;rw[h2.out]at h0;gi_wp2;go_end0;have x5:D=[]:=by cases D with
    |nil=>rfl
    |cons a t=>simp at h0
   have h:=H2.out;rw[x5]at h;exact⟨⟨_,rfl⟩,l,c,by simpa using h.pm,h.j⟩
  .intro xn xa xl xc xt X B LK p I k xo h5;have H:=H2.out;obtain A:=h2.out;subst A;obtain⟨y,P,hk⟩:=jH.1 B;simp only[Ni,DF]at hk;obtain⟨rfl,rfl,rfl,rfl,rfl⟩:=hk;have h7:D.Pairwise fun x z=>x.1≠z.1:=by
    have:=(H.pm.pairwise_iff (fun{_ _} e=>qh e)).2 x3;grind
   have hr:=H.pm.mem_iff.1 (iJ.2 (.inr P));have T:=Kc D y h7 P;have G:(D.map (Ni f)).filter (fun z=> !decide (z.1=y.1))=(D.filter fun z=> !decide (z.1=y.1)).map (Ni f):=by rw[zF];rfl
   rw[G]at p;generalize xd:(D.filter fun z=> !decide (z.1=y.1))=m at p T;have hu:((c++[y])++m).Perm o:=by rw[lC];exact((List.Perm.refl c).append T.symm).trans H.pm
   have K1:Kp [r] l l wr X:=⟨k.os,k.tape,k.output,k.size,fun b' hw hn=>k.block b' hw (fun e=>hn (by cases e;rw[H.orr];simp)),fun _ _=>rfl⟩;have x6:s∉[r]:=by grind
   obtain⟨V,E⟩:=bU (X.alloc (.cells #[.slice (f y.1).1 y.2.bQ.length (f y.1).2,uZ y.2.aV] 289));have K3:Kp [] l l X V:=by grind [Kp.alloc]
   have H3:Hid (Wk1 f b W.heap.size t s r o J l V (c++[y]) m (bQ c)):=by
    have a:Wk1 f b W.heap.size t s r o J l X (c++[y]) m (bQ c):=
     ⟨p,by rw[K1.ext b H.rg.map.lt];exact H.ob,H.orr,fun x B=>(H.gs x B).kp K1 x6,hu,HJ.out _ _ _ _ _ H.j K1⟩
    exact a.kp K3 aR aR aR (HJ.out _ _ _ _ _ a.j (K3.mono aR))
   have xi:V.rangeLeft b W.heap.size<wr.rangeLeft b W.heap.size:=by
    rw[(H3.out.aH (y':=V) (Kp.refl [] _ _) aR aR),E];have:(X.alloc (.cells #[.slice (f y.1).1 y.2.bQ.length (f y.1).2,uZ y.2.aV] 289)).rangeLeft b W.heap.size=X.rangeLeft b W.heap.size:=by rw[<-E];exact gY (K3.cK b (gK H.rg.map.lt k.size) aR) (K3.cK _ (gK H.rg.lt k.size) aR)
    grind
   have xp:=x2 y hr;have Z:=aG (dz hr (Eq.refl (bQ (c++[y]))));clear H B p I k hu T xd G h7 P K1 K3;simp only[zM]at h5 ⊢;gi_wp2;rw[<-E];clear E h5;generalize h6:y.2.bQ=d at *
   generalize he:(f y.1).1=xa at *
   generalize hf:(f y.1).2=xc at *
   have u:=aG (dz h6 (dz he hf));clear h6 he hf;gi_loopw [16] (fun U w2=>∃(j:Nat) (M:Own),j<=d.length/\U=(iZ j)/\Hid (Wk1 f b W.heap.size t s r o J M w2 (c++[y]) m (bQ c++d.take j))/\w2.rangeLeft b W.heap.size=V.rangeLeft b W.heap.size) (fun U _=>d.length-(eT U).toNat)
   case atStart=>exact⟨0,l,eG _,rfl,(by rw[Dz,lG];exact H3),rfl⟩
   case round=>
    obtain⟨j,M,hj,rfl,Y,S⟩:=hrel;by_cases I:j<d.length
    .have xe:(j:Int)<(d.length:Int):=aj;have hG:GT M s 65 10 wr (.slice xa d.length xc) d.length (mP d):=by
      have:=Y.out.gs y Z.out.1;rwa[u.out.1,u.out.2.1,u.out.2.2]at this
     obtain⟨g,hg,_,_,x0,_⟩:=hG.cell (j*10+0) _ (GZ d j 0 I aj);have w:∀i x,i<10->(f_ (d.getD j jv) nZ)[i]?=some x->wr.cell? (aA g (j*10+i))=some x:=fun i x hi B=>by obtain⟨g',xm,_,_,h',_⟩:=hG.cell (j*10+i) x ((GZ d j i I hi).trans B);grind
     clear x0 hG;have N:d.getD j jv∈d:=by grind
     have h9:d.take (j+1)=d.take j++[d.getD j jv]:=by grind [mR,fA]
     have UF:=aG (dz h9 N);clear h9 N;generalize d.getD j jv=ff at *
     have c0:=w 0 _ aj rfl;have c1:=w 1 _ aj rfl;have c2:=w 2 _ aj rfl;have c3:=w 3 _ aj rfl;have c4:=w 4 _ aj rfl;have c5:=w 5 _ aj rfl;have c6:=w 6 _ aj rfl;have c7:=w 7 _ aj rfl;have c8:=w 8 _ aj rfl;have c9:=w 9 _ aj rfl;clear w;subst hg;simp only[sN]at c0;obtain⟨W5,BG⟩:=bU (wr.alloc (.cells (f_ ff nZ).toArray 65));have K5:Kp [] M M wr W5:=by grind [Kp.alloc]
     have H5:Hid (Wk1 f b W.heap.size t s r o J M W5 (c++[y]) m (bQ c++d.take j)):=Y.out.kp K5 aR aR aR (HJ.out _ _ _ _ _ Y.out.j (K5.mono aR));have x4:=Y.out.aH K5 aR aR;obtain⟨fn,xf,assign,body,P,hR⟩:=HY.out M _ ff W5 H5.out.j ⟨y,Z.out.1,by rw[u.out.1];exact UF.out.2⟩;rw[BG]at P hR;unfold eX at P;simp only[f_]at P hR;have hv:=aG BG;clear BG K5;gi_wp2;refine hR.mono ?_;rintro e w6 ⟨rfl,qP,h4,K6⟩;have H6:Hid (Wk1 f b W.heap.size t s r o J qP w6 (c++[y]) m (bQ c++d.take (j+1))/\w6.rangeLeft b W.heap.size=V.rangeLeft b W.heap.size):=by
      have h3:Kp Ty M qP W5 w6:=by rw[hv.out];exact K6
      refine⟨H5.out.kp h3 ht x9 ha ?_,?_⟩;.rw[UF.out.1,<-lC];exact h4
      .rw[H5.out.aH h3 ht ha,x4,S]
     clear h4 K6 hR P c0 c1 c2 c3 c4 c5 c6 c7 c8 c9;gi_wp2;go_roundw;case rel=>exact⟨j+1,qP,aj,aR,H6.out.1,H6.out.2⟩
     grind [eT]
    .obtain rfl:j=d.length:=aj;gi_wp2;go_roundw;case rel=>
      refine⟨M,c++[y],m,?_⟩;have h:=Y.out;rw[AJ]at h;have e:bQ (c++[y])=bQ c++d:=by rw[Sb];simp[bQ,u.out.1]
      rw[e];exact h
     grind
end
end Go.Proofs.YtphbledmopchnaaGreatDoor.Sd
namespace Go.Proofs.YtphbledmopchnaaGreatDoor.Sd
open Go.RowKit Go.Lib Mm Tryz
variable {b:Nat}{oZ:Own}{w:Wq}
theorem yD(oZ:Own)(k):∀n,∃t,k<=t/\∀b,b<n->oZ b<t
 |0=>⟨k,aI _,fun _ h=>absurd h (jZ _)⟩
 |n+1=>by obtain⟨t,a,c⟩:=yD oZ k n;refine⟨max t (oZ n+1),aj,fun b d=>?_⟩;grind
def Kp.less{T U aX w'}(h:Kp (U++T) oZ aX w w')(c:∀b,b<w.heap.size->oZ b∉U):Kp T oZ aX w w':=
 ⟨h.os,h.tape,h.output,h.size,fun b a d=>h.cK b a (fun e=>(iJ.1 e).elim (c b a) d),h.ext⟩
theorem vg{n}(H:2<=n){Q a d g p assign body bx}(t tf C u S J){ls qP}(E:Own->List Fr->Wq->Prop)(x5:a.eval g=.func (.func 243) #[] #[aK bx 0])(h8:aS d bx 203 [.map (some b)])(x4:wE qP t tf d b ls)(x3:∀x∈ls,x.2.bQ.length<=1000000)(ht:t∉J)(x6:tf∉J)(x7:C∉J)(xi:u∉J)(xf:S∉J)(hd:tf≠C/\u≠C/\S≠C/\u≠S)(hJ:∀m z j W M,E m j W->Kp [u,C] m z W M->E z j M)(h0:E qP [] d)(hB:∀L m j f W,L<W.heap.size->E m j W->(∃x∈ls,f∈x.2.bQ)->assign.wpIn (Fence.wide.inRound L) (n-1-1) prog
   (Exit.then (fun a₁ w₁=>Kp [] m m W w₁/\∀w₂,(∀k,k≠L->w₂.heap[k]?=w₁.heap[k]?)->w₂.heap.size=w₁.heap.size->E m j w₂->body.wpIn (Fence.wide.inRound L) (n-1-1) prog (fun e _ y=>e=.normal/\∃z,E z (j++[f]) y/\Kp J m z w₂ y) a₁ w₂) (fun _ _ _=>False))
   {tmps:=a.tmps.setIfInBounds p (eX f nZ),defers:=[]} W)(hQ:∀z lp M D,lp.Perm ls->E z (bQ lp) M->d.heap.size<=D->z D=S->M.heap[D]?=some (.deferred (some []))->Q .normal {a with defers:=[{target:=.collected D,args:=#[]}]++a.defers} M):(Code.rangeFunc g #[p] assign body).wpIn Fence.wide n prog Q a d:=by
 refine St.zA (fun ag bd a0 has x0 O=>wpIn_rangeFunc ?_);intro fn _;obtain⟨l,I⟩:∃l:LoopState->Option Code->Loop,l=fun st pe=>{state:=st,pending:=pe,fn:=fn,tmps:=a0.tmps,params:=#[p],assign:=ag,body:=bd,defers:=d.heap.size}:=⟨_,rfl⟩;obtain⟨A,hA⟩:=bU ((d.alloc (.deferred (some []))).alloc (.loop (l .ready none)));have xe:A.heap.size=d.heap.size+2:=by rw[hA];simp
 have U:bJ d A:=by rw[hA];exact((bP _ d).alloc (aI _) _).alloc aR _
 have hv:A.heap[d.heap.size+1]?=some (.loop (l .ready none)):=by grind [nL,qd]
 have hj:A.heap[d.heap.size]?=some (.deferred (some [])):=by grind [Below.heap_alloc,nL]
 obtain⟨B,xd⟩:=bU (fun x=>if x<d.heap.size then qP x else if x=d.heap.size then S else u:Own);have K4:Kp [] qP B d A:=⟨U.os,U.tape,U.output,U.size,fun x hx _=>U.block x hx,fun x hx=>by grind⟩;have oL:B (d.heap.size+1)=u:=by grind
 have oD:B d.heap.size=S:=by grind
 refine⟨d.heap.size+1,[{target:=.collected d.heap.size,args:=#[]}],A,{target:=.fn (.func 243) #[aK bx 0],args:=#[.func (.yield (d.heap.size+1)) #[] #[]]},A,243,#[.func (.yield (d.heap.size+1)) #[] #[],aK bx 0],A,?_,?_,fun _ _=>trivial,?_,fun _=>aj,?_⟩;.rw[hA,I];exact run_enterLoop_outer _ _ _ _ _
 .rw[O];simp[resolve,x5];simp[Deferred.ofValue,Act.eval,go_sem]
 .simp[invoke,go_sem]
 .refine(qa5 Fence.wide (n-1) trivial rfl aj (d.heap.size+1) bx b t tf C J ls x3 ht x6 x7 hd.1
   (fun m j W=>E m j W/\m (d.heap.size+1)=u/\W.heap[d.heap.size+1]?=some (.loop (l .ready none))/\m d.heap.size=S/\W.heap[d.heap.size]?=some (.deferred (some [])))
   (fun m z j W M h K=>?_) (fun m j f W h hf=>?_) B A (h8.of_heap (U.block _ h8.lt)) (x4.kp K4 aR aR) ⟨hJ _ _ _ _ _ h0 (K4.mono aR),oL,hv,oD,hj⟩).mono ?_
  .obtain⟨Y,h2,G,h4,N⟩:=h;have R:=(oF.1 G).1;have lD:=(oF.1 N).1;exact⟨hJ _ _ _ _ _ Y (K.mono aR),by rw[K.ext _ R,h2],(K.cK _ R (by grind)).trans G,by rw[K.ext _ lD,h4],(K.cK _ lD (by grind)).trans N⟩
  .obtain⟨Y,h2,G,h4,N⟩:=h;have R:=(oF.1 G).1;have lD:=(oF.1 N).1;have hy:=run_yield (P:=prog) (args:=#[eX f nZ]) G (by grind);rw[I]at hy;refine⟨fn,a.tmps.setIfInBounds p (eX f nZ),ag,bd,by rw[hy,O];simp,roundIn_of_wpIn trivial ?_⟩;rw[has,x0];refine wpIn_mono (hB (d.heap.size+1) m j f W R Y hf) ?_;intro e a1 T Z;cases e with
   |normal=>
    obtain⟨o,hw⟩:=Z;have xa:=(o.cK _ R aR).trans G;obtain⟨q,hc⟩:∃q,q=T.putObj (d.heap.size+1) (.loop {l .ready none with state:=.busy}):=⟨_,rfl⟩;have x2:(Instr.beginRound (d.heap.size+1)).run prog T=.ok () q:=by grind [run_beginRound]
    have s2:q.heap.size=T.heap.size:=by rw[hc];simp
    have o2:∀k,k≠d.heap.size+1->q.heap[k]?=T.heap[k]?:=fun k s=>by grind [l9]
    have xj:=gK R o.size;have hr:q.heap[d.heap.size+1]?=some (.loop {l .ready none with state:=.busy}):=by grind [nA]
    have V:q.os=T.os/\q.tape=T.tape/\q.output=T.output:=by rw[hc];exact⟨rfl,rfl,rfl⟩
    have K2:Kp [u,C] m m W q:=⟨V.1.trans o.os,V.2.1.trans o.tape,V.2.2.trans o.output,by rw[s2];exact o.size,fun k s H=>by have:k≠d.heap.size+1:=fun e=>H (by grind);rw[o2 k this];exact o.cK k s aR,fun _ _=>rfl⟩;refine⟨q,x2,wpIn_mono (hw q o2 s2 (hJ _ _ _ _ _ Y K2)) ?_⟩;rintro e a6 y ⟨rfl,jY,ho,w⟩;have hg:d.heap.size+1<q.heap.size:=by grind
    have h6:=(w.cK _ hg (by grind)).trans hr;have x9:=run_endRound (P:=prog) none h6;obtain⟨F,h7⟩:=bU (y.putObj (d.heap.size+1) (.loop (l .ready none)));have xl:=(oF.1 h6).1;have o7:∀k,k≠d.heap.size+1->F.heap[k]?=y.heap[k]?:=fun k s=>by grind [l9]
    have s7:F.heap.size=y.heap.size:=by rw[h7];simp
    have X:F.os=y.os/\F.tape=y.tape/\F.output=y.output:=by rw[h7];exact⟨rfl,rfl,rfl⟩
    have hu:F.heap[d.heap.size+1]?=some (.loop (l .ready none)):=by grind [nA]
    have x8:jY (d.heap.size+1)=u:=by rw[w.ext _ hg,h2]
    have he:d.heap.size<q.heap.size:=by grind
    have K7:Kp [u,C] jY jY y F:=⟨X.1,X.2.1,X.2.2,by grind,fun k s H=>o7 k (fun e=>H (by grind)),fun _ _=>rfl⟩;refine⟨.bool true,F,by grind,rfl,jY,⟨hJ _ _ _ _ _ ho K7,x8,hu,by rw[w.ext _ he,h4],?_⟩,?_⟩;.rw[o7 _ aj,w.cK _ he (by grind),o2 _ aj,o.cK _ lD aR,N]
    .refine⟨X.1.trans (w.os.trans (V.1.trans o.os)),X.2.1.trans (w.tape.trans (V.2.1.trans o.tape)),X.2.2.trans (w.output.trans (V.2.2.trans o.output)),by rw[s7];exact dx o.size (by rw[<-s2];exact w.size),fun k s H=>?_,fun k s=>w.ext k (by rw[s2];exact gK s o.size)⟩;by_cases ha:k=d.heap.size+1;.grind
     .rw[o7 k ha,w.cK k (by rw[s2];exact gK s o.size) H,o2 k ha,o.cK k s aR]
   |ret=>exact Z
   |exit i=>exact Z
   |goto i=>exact Z
   |panic c=>exact Z
   |outgrown=>exact Z
  .rintro e W ⟨⟨v,rfl⟩,rP,lp,hp,Y,h2,G,h4,N⟩;have R:=(oF.1 G).1;obtain⟨r,Nk⟩:∃r,r=W.putObj (d.heap.size+1) (.loop {l .ready none with state:=.exhausted}):=⟨_,rfl⟩;have h9:(Instr.endLoop (d.heap.size+1)).run prog W=.ok none r:=by grind [run_endLoop,prog]
   have o4:∀k,k≠d.heap.size+1->r.heap[k]?=W.heap[k]?:=fun k s=>by grind [l9]
   have s4:r.heap.size=W.heap.size:=by rw[Nk];simp
   have e4:r.os=W.os/\r.tape=W.tape/\r.output=W.output:=by rw[Nk];exact⟨rfl,rfl,rfl⟩
   refine⟨none,r,h9,?_⟩;have K5:Kp [u,C] rP rP W r:=⟨e4.1,e4.2.1,e4.2.2,by grind,fun k s H=>o4 k (fun e=>H (by grind)),fun _ _=>rfl⟩;have:=hQ rP lp r d.heap.size hp (hJ _ _ _ _ _ Y K5) (aI _) h4 ((o4 _ aj).trans N);rw[O];exact this
theorem wE.take{t i l}(h:wE oZ t i w b l)(D:i≠t)(G:l.length<100000)(g:Nat)(p k)(A:∀args w,(callFunc g args).run prog w=.ok (.enter g args) w)(m:Nat->Nat->Bool)(u)(E:∀x∈l,∀v,v.2.2.2=x.2.aV->∀W,w.grownBy W (some b)->WA prog g (p++(#[uZ x.1,zM v]++k)) W fun e z=>e=.returned (.bool (m x.1 x.2.aV))/\bJ W z):bN 191 #[.map (some b),.func (.func g) p k] w (.map (some w.heap.size)) fun j=>∃d,wE d t i j b (l.filter fun x=> !m x.1 x.2.aV)/\wE d u i j w.heap.size (l.filter fun x=>m x.1 x.2.aV)/\Kp [t] oZ d w j:=by
 obtain⟨f,B,n,o⟩:=h;refine(qfn g p k (l.map (Ni f)) (fun e=>m e.1 e.2.2.2.2) A n (by grind) (fun x a W c=>?_)).mono ?_;.obtain⟨y,F,rfl⟩:=jH.1 a;exact E y F _ rfl W c
 .rintro e j ⟨rfl,r,s,c⟩;obtain⟨d,H⟩:=bU (fun x=>if x<w.heap.size then oZ x else u:Own);have K:Kp [t] oZ d w j:=⟨c.os,c.tape,c.output,c.size,fun x a C=>c.block x a (fun e=>C (by grind)),fun x a=>by grind⟩;rw[zF]at r s;have q:i∉[t]:=by grind
  refine⟨rfl,d,⟨f,by rw[K.ext b n.lt,B],r,fun x a=>(o x (dY.1 a).1).kp K q⟩,⟨f,by grind,s,fun x a=>(o x (dY.1 a).1).kp K q⟩,K⟩
end Go.Proofs.YtphbledmopchnaaGreatDoor.Sd
namespace Go.Proofs.YtphbledmopchnaaGreatDoor.Sd
open Go.RowKit Go.Lib Mm Go.Maps Tryz
variable {a:kL->Bool}{b r:Nat}{c d l lf:List kL}{w y z:Wq}
structure DlF (w:Wq) (b r:Nat) (l:List kL) (want:kL->Bool) (y:Wq) (cur lf:List kL):Prop where
 rg:xu y b r cur lf
 cur:∀x,x∈cur↔x∈l/\(x∈lf\/want x=false)
 gr:w.grownBy y (some b)
def DlF.done(h:DlF w b r l a y c [])(d:l.Nodup):oH y b (l.filter fun x=> !a x):=by refine h.rg.map.perm (Bl h.rg.map.nodup (d.filter _) fun x=>?_);rw[h.cur,dY];simp
theorem DlF.stay(h:DlF w b r l a y c lf)(x)(i:∀y,y∈l->(y∈d↔y∈lf/\y≠x))(j:a x=false)(f:xu z b r c d)(g:w.grownBy z (some b)):DlF w b r l a z c d:=by refine⟨f,fun e=>?_,g⟩;rw[h.cur];grind
theorem DlF.go(h:DlF w b r l a y c lf)(p:∀e∈l,∀f∈l,e.1=f.1->e=f)(x)(k:x∈lf)(o:∀y,y∈l->(y∈d↔y∈lf/\y≠x))(q:a x=true)(g:xu z b r (c.filter fun e=> !decide (e.1=x.1)) (d.filter fun e=> !decide (e.1=x.1)))(i:w.grownBy z (some b)):DlF w b r l a z (c.filter fun e=> !decide (e.1=x.1)) (d.filter fun e=> !decide (e.1=x.1)):=by
 have m:=((h.cur x).1 (h.rg.sub x k)).1;have j:∀e∈l,((!decide (e.1=x.1))=true↔e≠x):=fun e n=>by grind
 refine⟨g,fun e=>?_,i⟩;rw[dY,dY,h.cur];grind
theorem Je(g:Nat)(p k l)(d:kL->Bool)(eg:∀args w,(callFunc g args).run prog w=.ok (.enter g args) w)(h:oH w b l)(hw:∀x∈l,∀W,w.grownBy W (some b)->WA prog g (p++(#[uZ x.1,zM x.2]++k)) W fun e Z=>e=.returned (.bool (d x))/\bJ W Z):bN 194 #[.map (some b),.func (.func g) p k] w (.tuple #[]) fun V=>oH V b (l.filter fun x=> !d x)/\w.grownBy V (some b):=by
 have T:=h.nodup;have U:=h.lt;go_enter func194,ntmps194;go_wp2_with (first|(at_range;refine qw _ rfl _ rfl b l rfl h ?_;intro w0 F O h2)|go_in);go_frame;go_loopw [4] (fun _ wr=>∃m lf:List kL,Hid (DlF w b w.heap.size l d wr m lf)) (fun _ wr=>wr.rangeLeft b w.heap.size);case atStart=>exact⟨l,l,(⟨F,fun x=>⟨fun s=>⟨s,.inl s⟩,fun s=>s.1⟩,O.but _⟩:DlF w b w.heap.size l d w0 l l)⟩
 case round=>
  obtain⟨m,lf,hrel⟩:=hrel;go_wp2_with (first|(at_next;refine rD _ rfl _ rfl b w.heap.size m lf rfl hrel.out.rg ?_ ?_)|go_in);.intro h0;go_wp2;go_end0;subst h0;exact⟨rfl,hrel.out.done T,hrel.out.gr⟩
  .intro A G J I K X s Y c S P h3 E;have H:=hrel.out;have o:(A,G,J,I,K)∈l:=((H.cur _).1 (H.rg.sub _ s)).1;obtain⟨D,u⟩:=bU (X.alloc (.cells #[.slice G J I,uZ K] 289));have q:X.grownBy D none:=by rw[u];exact ze _ _ _
   have r:w.grownBy D (some b):=(H.gr.andThen P (fun j v=>by grind)).andThen q (fun j v=>by cases v);have C:=hw _ o D r;have L:xu D b w.heap.size m (lf.filter fun y=> !decide (y.1=A)):=c.kept (q.block _ c.map.lt aR) (q.block _ c.lt aR);have t:D.rangeLeft b w.heap.size<wr.rangeLeft b w.heap.size:=by rw[(gY (q.block _ c.map.lt aR) (q.block _ c.lt aR))];exact S
   have i:∀y,y∈l->(y∈(lf.filter fun y=> !decide (y.1=A))↔y∈lf/\y≠(A,G,J,I,K)):=fun y hy=>by rw[dY];refine and_congr_right fun _=>?_;simp only[Jr,decide_eq_false_iff_not];exact⟨fun z e=>z (by rw[e]),fun z e=>z (h.inj hy o e)⟩
   cases n:d (A,G,J,I,K)
   .rw[n]at C;have B:=aG (dz o (dz i (dz n s)));have f:=aG (dz r (dz L t));clear o i n s r L t;simp only[zM]at E C ⊢;go_wp2_with (first|(go_at_fn g;rw[<-u];refine bK C ?_;rintro w2 a)|go_in);go_roundw;case rel=>exact⟨m,_,(H.stay _ B.out.2.1 B.out.2.2.1 (f.out.2.1.kept (a.block _ f.out.2.1.map.lt) (a.block _ f.out.2.1.lt)) (f.out.1.andThen (jM a) (fun j v=>by cases v)):DlF _ _ _ _ _ _ _ _)⟩
    case measure=>rw[gY (a.block _ f.out.2.1.map.lt) (a.block _ f.out.2.1.lt)];exact f.out.2.2
   .rw[n]at C;have B:=aG (dz o (dz i (dz n s)));have f:=aG (dz r (dz L t));clear o i n s r L t;simp only[zM]at E C ⊢;go_wp2_with (first|(go_at_fn g;rw[<-u];refine bK C ?_;rintro w2 a)|(at_delete;refine uy _ rfl _ _ rfl b w.heap.size m _ rfl (f.out.2.1.kept (a.block _ f.out.2.1.map.lt) (a.block _ f.out.2.1.lt)) A rfl Y ?_;intro w4 M R Q;go_frame)|go_in);refine⟨⟨_,_,(H.go (fun e he e' N=>h.inj he N) (A,G,J,I,K) B.out.2.2.2 B.out.2.1 B.out.2.2.1 M ((f.out.1.andThen (jM a) (fun j v=>by cases v)).andThen Q (fun j v=>by grind)):DlF _ _ _ _ _ _ _ _)⟩,?_⟩;refine Cn R ?_;rw[gY (a.block _ f.out.2.1.map.lt) (a.block _ f.out.2.1.lt)];exact f.out.2.2
structure CyF (w:Wq) (b b2 r:Nat) (l d:List kL) (y:Wq) (lf tk:List kL):Prop where
 rg:xu y b2 r l lf
 mp:oH y b tk
 tk:∀x,x∈tk↔x∈d\/(x∈l/\x∉lf)
 gr:w.grownBy y (some b)
theorem qgf{i}(l d)(h:oH w b d)(N:oH w i l)(m:b≠i)(hl:l.length+d.length<100000)(R:∀x∈l,∀y∈d,x.1≠y.1):bN 193 #[.map (some b),.map (some i)] w (.tuple #[]) fun X=>oH X b (d++l)/\oH X i l/\w.grownBy X (some b):=by
 have D:=List.nodup_append.2 ⟨h.nodup,N.nodup,fun x c y F e=>R y F x c (by rw[e])⟩;have z:=h.lt;go_enter func193,ntmps193;go_wp2_with (first|(at_range;refine qw _ rfl _ rfl i l rfl N ?_;intro w0 E A h5)|go_in);go_frame;go_loopw [4] (fun _ wr=>∃lf G:List kL,Hid (CyF w b i w.heap.size l d wr lf G)) (fun _ wr=>wr.rangeLeft i w.heap.size);case atStart=>exact⟨l,d,(⟨E,h.kept (A.block _ z aR),fun x=>⟨fun c=>.inl c,fun c=>c.elim id fun c=>absurd c.1 c.2⟩,A.but _⟩:CyF w b i w.heap.size l d w0 l d)⟩
 case round=>
  obtain⟨lf,G,hrel⟩:=hrel;go_wp2_with (first|(at_next;refine rD _ rfl _ rfl i w.heap.size l lf rfl hrel.out.rg ?_ ?_)|go_in);.intro h0;go_wp2;go_end0;subst h0;refine⟨rfl,hrel.out.mp.perm (Bl hrel.out.mp.nodup D fun x=>?_),hrel.out.rg.map,hrel.out.gr⟩;rw[hrel.out.tk,iJ];simp
  .intro s I K J L Z c LK a V r h6 S;have H:=hrel.out;have n:(s,I,K,J,L)∈l:=H.rg.sub _ c;have U:G.length<1000000:=by
    have:=UA H.mp.nodup D fun x c=>iJ.2 (((H.tk x).1 c).imp id fun h=>h.1);grind
   obtain⟨M,v⟩:=bU (Z.alloc (.cells #[.slice I K J,uZ L] 289));have g:Z.grownBy M none:=by rw[v];exact ze _ _ _
   have B:w.grownBy M (some b):=(H.gr.andThen r (fun j T=>by grind)).andThen g (fun j T=>by cases T);have Y:xu M i w.heap.size l (lf.filter fun y=> !decide (y.1=s)):=a.kept (g.block _ a.map.lt aR) (g.block _ a.lt aR);have u:=H.mp.kept ((g.block _ (gK H.mp.lt r.size) aR).trans (r.block _ H.mp.lt dZ));have C:M.rangeLeft i w.heap.size<wr.rangeLeft i w.heap.size:=by rw[(gY (g.block _ a.map.lt aR) (g.block _ a.lt aR))];exact V
   have q:∀y∈G,y.1≠s:=fun y F e=>by
    rcases(H.tk y).1 F with f|f;.grind
    .exact f.2 (by rw[N.inj f.1 n e];exact c)
   have p:∀y,y∈l->(y∈(lf.filter fun y=> !decide (y.1=s))↔y∈lf/\y≠(s,I,K,J,L)):=fun y F=>by rw[dY];refine and_congr_right fun _=>?_;simp only[Jr,decide_eq_false_iff_not];exact⟨fun m e=>m (by rw[e]),fun m e=>m (N.inj F n e)⟩
   have t:=aG (dz n (dz p q));have o:=aG (dz B (dz Y (dz u C)));clear n p c B Y C u q;simp only[zM]at S ⊢;go_wp2_with (first|(at_mapUpdate;rw[<-v];refine uz _ rfl _ _ _ rfl b G rfl o.out.2.2.1 U (s,I,K,J,L) rfl rfl LK t.out.2.2 ?_;intro w3 Q k;go_frame)|go_in);have P:=o.out.2.1.kept (k.block _ o.out.2.1.map.lt dZ) (k.block _ o.out.2.1.lt dZ);refine⟨⟨_,_,(⟨P,Q,fun e=>?_,o.out.1.andThen k (fun j T=>by grind)⟩:CyF _ _ _ _ _ _ _ _ _)⟩,?_⟩
   .rw[nQ,H.tk];constructor
    .rintro(f|f|f);.rw[f];exact .inr ⟨t.out.1,fun O=>((t.out.2.1 _ t.out.1).1 O).2 rfl⟩
     .exact .inl f
     grind
    .rintro(f|f);.grind
     .by_cases W:e=(s,I,K,J,L);.grind
      .exact .inr (.inr ⟨f.1,fun O=>f.2 ((t.out.2.1 _ f.1).2 ⟨O,W⟩)⟩)
   .rw[gY (k.block _ o.out.2.1.map.lt dZ) (k.block _ o.out.2.1.lt dZ)];exact o.out.2.2.2
end Go.Proofs.YtphbledmopchnaaGreatDoor.Sd
namespace Go.Proofs.YtphbledmopchnaaGreatDoor.Sd
open Go.RowKit Go.Lib Mm Tryz
variable {b t:Nat}{l:List (Nat×sS)}{oZ:Own}{w:Wq}
theorem wE.drop{d}(h:wE oZ t d w b l)(A:d≠t)(g:Nat)(p k)(o:∀args w,(callFunc g args).run prog w=.ok (.enter g args) w)(j:Nat->Nat->Bool)(B:∀x∈l,∀v,v.2.2.2=x.2.aV->∀W,w.grownBy W (some b)->WA prog g (p++(#[uZ x.1,zM v]++k)) W fun e n=>e=.returned (.bool (j x.1 x.2.aV))/\bJ W n):bN 194 #[.map (some b),.func (.func g) p k] w (.tuple #[]) fun i=>wE oZ t d i b (l.filter fun x=> !j x.1 x.2.aV)/\Kp [t] oZ oZ w i:=by
 obtain⟨f,q,r,s⟩:=h;refine(Je g p k (l.map (Ni f)) (fun e=>j e.1 e.2.2.2.2) o r (fun x c W a=>?_)).mono ?_;.obtain⟨y,C,rfl⟩:=jH.1 c;exact B y C _ rfl W a
 .rintro e i ⟨rfl,m,a⟩;have K:Kp [t] oZ oZ w i:=⟨a.os,a.tape,a.output,a.size,fun x c z=>a.block x c (fun e=>z (by grind)),fun x c=>rfl⟩;rw[zF]at m;have u:d∉[t]:=by grind
  exact⟨rfl,⟨f,q,m,fun x c=>(s x (dY.1 c).1).kp K u⟩,K⟩
theorem wE.copy{q g j d}(h:wE oZ t g w b d)(A:wE oZ q g w j l)(D:g≠t)(E:t≠q)(N:l.length+d.length<100000)(k:∀x∈l,∀y∈d,x.1≠y.1):bN 193 #[.map (some b),.map (some j)] w (.tuple #[]) fun i=>wE oZ t g i b (d++l)/\Kp [t] oZ oZ w i:=by
 obtain⟨f,z,H,u⟩:=h;obtain⟨f2,M,I,v⟩:=A;obtain⟨F,hF⟩:=bU (fun n=>if(l.any fun x=>decide (x.1=n))=true then f2 n else f n:Nat->Option XK×Nat);have s:∀x∈l,F x.1=f2 x.1:=fun x a=>by grind
 have r:∀x∈d,F x.1=f x.1:=fun x a=>by grind
 have B:b≠j:=fun e=>E (by grind);refine(qgf (l.map (Ni f2)) (d.map (Ni f)) H I B (by grind) (fun x a y G=>?_)).mono ?_;.obtain⟨J,m,rfl⟩:=jH.1 a;obtain⟨L,o,rfl⟩:=jH.1 G;exact k J m L o
 .rintro e i ⟨rfl,O,_,c⟩;have K:Kp [t] oZ oZ w i:=⟨c.os,c.tape,c.output,c.size,fun x a C=>c.block x a (fun e=>C (by grind)),fun x a=>rfl⟩;have p:g∉[t]:=by grind
  refine⟨rfl,⟨F,z,?_,fun x a=>?_⟩,K⟩;.grind [List.map_congr_left,Ni]
  .rcases iJ.1 a with a|a;.rw[r x a];exact(u x a).kp K p
   .rw[s x a];exact(v x a).kp K p
