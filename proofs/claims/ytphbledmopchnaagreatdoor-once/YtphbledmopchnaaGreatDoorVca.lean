import Derived.Test.YtphbledmopchnaaGreatDoorVbe
import Derived.Sort.MapsRangeIn
open Go.Builtin renaming zeroCells->eB,append_->kg,clear_->mE,firstCells->mK
open List renaming sum_append->mR,takeWhile_cons->nU,range'->nV,replicate->oG
open Prod renaming fst->mI,snd->nI
open Go.RowKit renaming intOf->eT
open Go.Value renaming bool->fA,int->fB,cells->oN
open Go.World renaming putObj_heap_other->fE,putObj_heap_same->nA,alloc_heap_new->nL
set_option maxHeartbeats 4000000
set_option maxRecDepth 100000
open Go renaming World->Wq,Value->WA,Calls->WB,TypeId->Vg,bodyPost_ret->Vl,Addr->V3
set_option linter.all false
namespace Go.Proofs.YtphbledmopchnaaGreatDoor.Sd
open Go.RowKit Go.Lib Mm Tryz
variable {M M':av}{S bi bl bw i n s x:Nat}{T:List Nat}{W d w w' w0 y:Wq}{a b v:WA}{aQ oZ:Own}{c:av->bZ->Bool}{k p:Array WA}{l:bJ}{nx:av->bZ->Int->Option (Fr×av×bZ)}
def Nt.st(S o:Nat)(g:Nt)(w:Wq)(l:bJ)(a:aL w S TS l)(h:wV l o g):(∀x:Nat,f_ w (w.setCell (ay S (o+2)) (uZ x)) S l (l.set (o+2) (uZ x)) o 4/\wV (l.set (o+2) (uZ x)) o {g with gK:=x})/\(∀x:Nat,f_ w (w.setCell (ay S (o+3)) (uZ x)) S l (l.set (o+3) (uZ x)) o 4/\wV (l.set (o+3) (uZ x)) o {g with aP:=x}):=
 ⟨fun x=>⟨f_.one a _ _ _ _ aj aj,by rw[aA _ _ _ _ aj,h.c0],by rw[aA _ _ _ _ aj,h.c1],cB _ _ _ _ h.c2,by rw[aA _ _ _ _ aj,h.c3]⟩,fun x=>⟨f_.one a _ _ _ _ aj aj,by rw[aA _ _ _ _ aj,h.c0],by rw[aA _ _ _ _ aj,h.c1],by rw[aA _ _ _ _ aj,h.c2],cB _ _ _ _ h.c3⟩⟩
def ZB(o:Nat)(g:Nt)(a:aL w S TS l)(h:wV l o g):qH 395 #[aJ S o] w (.tuple #[]) fun d=>∃c,f_ w d S l c o 4/\wV c o g.kV:=by
 have e:w.cell? (ay S (o+2))=some (uZ g.gK):=by rw[a.cell];exact h.c2
 have f2:=a.frozen (o+2);have b:=aF ((Nt.st S o g w l a h).1 18446744073709551615);rw[show((18446744073709551615:Nat):Int)=18446744073709551615 from rfl]at b;clear h a;go_enter func395,ntmps395;go_wp2;go_end0;exact⟨rfl,_,b.out⟩
def PE(o:Nat)(g:Nt)(f:Fr)(d:WA)(i:aL w S TS l)(h:wV l o g):qH 342 #[aJ S o,eF f d] w (.tuple #[]) fun r=>∃n,f_ w r S l n o 4/\wV n o (g.aw f.aN):=by
 obtain⟨m,t,b⟩:=min2 g.gK f.aN;have p:Hid (g.aw f.aN={g with gK:=m}):=by unfold Hid;rw[b];rfl
 obtain⟨W,c⟩:=bT (w.alloc (.cells (fJ f d).toArray 65));have k:aL W w.heap.size 65 (fJ f d):=by rw[c];exact aL.new w 65 _
 have a:aL W S TS l:=by rw[c];exact i.alloc _
 have j:bE w W:=by rw[c];exact(qlw _ w).alloc (qj _) _
 have e:=aF ((Nt.st S o g W l a h).1 m);have u:W.cell? (ay w.heap.size 3)=some (uZ f.aN):=k.cell 3;have s:W.cell? (ay S (o+2))=some (uZ g.gK):=by rw[a.cell];exact h.c2
 have f2:=a.frozen (o+2);have q:=aF j;clear h i k a j b;unfold eF;unfold fJ at c;go_enter func342,ntmps342;go_wp2_with fail;rw[<-c];clear c;go_region
 all_goals go_wp2
 all_goals go_end0
 all_goals exact⟨rfl,_,f_.after q.out e.out.1.drew,by rw[p.out];exact e.out.2⟩
def ZC(o:Nat)(g:Nt)(f:Fr)(d:WA)(i:aL w S TS l)(h:wV l o g):qH 394 #[aJ S o,eF f d] w (.tuple #[]) fun r=>∃n,f_ w r S l n o 4/\wV n o (g.cm f.aN):=by
 obtain⟨m,t,b⟩:=min2 g.aP f.aN;have p:Hid (g.cm f.aN={g with aP:=m}):=by unfold Hid;rw[b];rfl
 obtain⟨W,c⟩:=bT (w.alloc (.cells (fJ f d).toArray 65));have k:aL W w.heap.size 65 (fJ f d):=by rw[c];exact aL.new w 65 _
 have a:aL W S TS l:=by rw[c];exact i.alloc _
 have j:bE w W:=by rw[c];exact(qlw _ w).alloc (qj _) _
 have e:=aF ((Nt.st S o g W l a h).2 m);have u:W.cell? (ay w.heap.size 3)=some (uZ f.aN):=k.cell 3;have s:W.cell? (ay S (o+3))=some (uZ g.aP):=by rw[a.cell];exact h.c3
 have f2:=a.frozen (o+3);have q:=aF j;clear h i k a j b;unfold eF;unfold fJ at c;go_enter func394,ntmps394;go_wp2_with fail;rw[<-c];clear c;go_region
 all_goals go_wp2
 all_goals go_end0
 all_goals exact⟨rfl,_,f_.after q.out e.out.1.drew,by rw[p.out];exact e.out.2⟩
section
def iK(l:List Bool):bJ:=l.map .bool
structure w_ (l:bJ) (o:Nat) (m:eU) (vh vc:WA):Prop where
 gr:wU l o m.gr
 c4:l[o+4]?=some (uZ m.aY)
 c5:l[o+5]?=some vh
 c6:l[o+6]?=some vc
 c7:l[o+7]?=some (uZ m.fF)
 c8:l[o+8]?=some (.bool m.cO)
 c9:l[o+9]?=some (uZ m.gH)
 uh:l[o+10]?=some (.bool m.bN)
 w9:l[o+11]?=some (uZ m.rel)
 xO:l[o+12]?=some (iZ m.state)
def w_.dW{l l':bJ}{o o' n':Nat}{m:eU}{vh vc:WA}(h:w_ l o m vh vc)(w:kR l l' o' n')(a:o+13<=o'\/o'+n'<=o):w_ l' o m vh vc:=
 ⟨h.gr.dW w aj,by rw[w.2 _ aj,h.c4],by rw[w.2 _ aj,h.c5],by rw[w.2 _ aj,h.c6],by rw[w.2 _ aj,h.c7],by rw[w.2 _ aj,h.c8],by rw[w.2 _ aj,h.c9],by rw[w.2 _ aj,h.uh],by rw[w.2 _ aj,h.w9],by rw[w.2 _ aj,h.xO]⟩
def BG(oZ:Own)(t:Nat)(w:Wq)(l:bJ)(o:Nat)(m:eU):Prop:=
 ∃vh vc,w_ l o m vh vc/\GT oZ t 5 1 w vh m.bK.length (bX m.bK)/\GT oZ (t+1) 4 1 w vc m.aP.length (iK m.aP)
def BG.kp{oZ aQ:Own}{t:Nat}{w w':Wq}{l l':bJ}{o o' n':Nat}{m:eU}{T:List Nat}(h:BG oZ t w l o m)(K:Kp T oZ aQ w w')(f:t∉T)(a:t+1∉T)(g:kR l l' o' n')(e:o+13<=o'\/o'+n'<=o):BG aQ t w' l' o m:=by obtain⟨vh,vc,b,c,d⟩:=h;exact⟨vh,vc,b.dW g e,c.kp K f,d.kp K a⟩
structure Mr (m:eU):Prop where
 gr:m.gr.ahead<=4096/\m.gr.dX<=dH/\m.gr.gK<=dH/\m.gr.aP<=dH
 rd:m.aY<=dH
 hi:m.fF<=dH
 fe:m.gH<=dH
 re:m.rel<=dH
 hl:m.bK.length<=1000000
 cl:m.aP.length=m.bK.length
 st:m.state<=2
def Mr.aZ{m:eU}(h:Mr m):m.aZ<=dH:=by
 unfold eU.aZ;split;·exact h.fe
 ·exact h.rd
section
variable (S o:Nat) (m:eU) (vh vc:WA) (w:Wq) (l:bJ) (hB:aL w S TS l) (h:w_ l o m vh vc)
 include hB h
def in4:w.cell? (ay S (o+4))=some (uZ m.aY):=by rw[hB.cell];exact h.c4
def in5:w.cell? (ay S (o+5))=some vh:=by rw[hB.cell];exact h.c5
def in6:w.cell? (ay S (o+6))=some vc:=by rw[hB.cell];exact h.c6
def in7:w.cell? (ay S (o+7))=some (uZ m.fF):=by rw[hB.cell];exact h.c7
def in8:w.cell? (ay S (o+8))=some (.bool m.cO):=by rw[hB.cell];exact h.c8
def in9:w.cell? (ay S (o+9))=some (uZ m.gH):=by rw[hB.cell];exact h.c9
def qge:w.cell? (ay S (o+10))=some (.bool m.bN):=by rw[hB.cell];exact h.uh
def qiu:w.cell? (ay S (o+11))=some (uZ m.rel):=by rw[hB.cell];exact h.w9
def qe3:w.cell? (ay S (o+12))=some (iZ m.state):=by rw[hB.cell];exact h.xO
def GZ:qH 310 #[aJ S o] w (uZ m.aZ) fun c=>c=w:=by
 have d:=in4 S o m vh vc w l hB h;have e:=in9 S o m vh vc w l hB h;have f:=qe3 S o m vh vc w l hB h;have a:Hid (m.aZ=if m.state=2 then m.gH else m.aY):=rfl;generalize m.aZ=F at *
 clear h hB;by_cases b:m.state=2;·have g:((m.state:Int)==2)=true:=rR;rw[bM b]at a;clear b;go_enter func310,ntmps310;go_wp2;go_ret;exact⟨yx (by rw[a.out]),rfl⟩
 ·have g:((m.state:Int)==2)=false:=rR;rw[aV b]at a;clear b;go_enter func310,ntmps310;go_wp2;go_ret;exact⟨yx (by rw[a.out]),rfl⟩
def Av(a:Nat):qH 339 #[aJ S o,uZ a] w (uZ ((max m.fF a:Nat):Int)) fun c=>c=w:=by have d:=in7 S o m vh vc w l hB h;obtain⟨x,e,b⟩:=max2 m.fF a;rw[<-b];clear h hB b;go_enter func339,ntmps339;go_wp2;go_ret;exact⟨rfl,rfl⟩
def rU:qH 306 #[aJ S o] w (uZ m.wanted) fun f=>f=w:=by
 have d:=in8 S o m vh vc w l hB h;have g:=in9 S o m vh vc w l hB h;have c:=qge S o m vh vc w l hB h;have i:=qiu S o m vh vc w l hB h;have a:Hid (m.wanted=if m.bN then m.rel else if m.cO then m.gH else 4611686018427387903):=rfl;generalize m.wanted=F at *
 clear h hB;cases b:m.bN
 ·cases e:m.cO;all_goals
   rw[b]at c a;rw[e]at d a;go_enter func306,ntmps306;go_wp2;go_ret;exact⟨yx (by rw[a.out];rfl),rfl⟩
 ·rw[b]at c a;go_enter func306,ntmps306;go_wp2;go_ret;exact⟨yx (by rw[a.out];rfl),rfl⟩
def Nk:qH 240 #[aJ S o] w (iZ m.iT) fun i=>∃q,i=w.drewN q:=by
 have j:=in4 S o m vh vc w l hB h;have c:=in8 S o m vh vc w l hB h;have g:=qge S o m vh vc w l hB h;have b:=aF (fun q=>rU S o m vh vc (w.drewN q) l hB h);have a:Hid (m.iT=if m.cO=false\/m.aY<m.wanted then 0 else if m.bN then 2 else 1):=rfl;generalize m.wanted=W at *
 generalize m.iT=F at *
 clear h hB;cases d:m.cO;·rw[d]at c a;go_enter func240,ntmps240;go_wp2;go_quiet ((go_at_call 306;exact qn6 (b.out _)));go_wp2;go_ret;exact⟨gL (by rw[a.out];simp),nq,rfl⟩
 ·by_cases e:m.aY<W;·rw[d]at c a;rw[bM (.inr e)]at a;go_enter func240,ntmps240;go_wp2;go_quiet ((go_at_call 306;exact qn6 (b.out _)));go_wp2;go_ret;exact⟨gL (by rw[a.out];rfl),nq,rfl⟩
  ·rw[d]at c a;rw[aV rR]at a;cases f:m.bN;all_goals
    rw[f]at g a;go_enter func240,ntmps240;go_wp2;go_quiet ((go_at_call 306;exact qn6 (b.out _)));go_wp2;go_ret;exact⟨gL (by rw[a.out];rfl),nq,rfl⟩
def EL(f:Mr m):qH 255 #[aJ S o] w (.bool m.iq) fun r=>∃q,r=w.drewN q:=by
 have t:=in7 S o m vh vc w l hB h;have n:=in8 S o m vh vc w l hB h;have k:=aF (fun q=>rU S o m vh vc (w.drewN q) l hB h);have j:=aF (fun q g=>GZ S o m vh vc ((w.drewN q).drewN g) l hB h);have i:=aF (fun q g=>JG m.aZ ((w.drewN q).drewN g) hB h.gr f.gr.1 f.aZ);have c:Hid (m.iq=(!(m.cO&&decide (m.wanted<=m.fF))&&m.gr.bD m.aZ)):=rfl;generalize m.wanted=W at *
 generalize m.iq=F at *
 generalize m.gr.bD m.aZ=B at *
 generalize m.aZ=R at *
 clear h hB f;cases p:m.cO
 ·rw[p]at n c;go_enter func255,ntmps255;go_wp2;go_quiet ((go_at_call 306;exact qn6 (k.out _)));go_wp2_with fail;have a:=aF (j.out nq);have d:=aF (i.out nq);generalize b:w.drewN nq=s at *
  go_quiet ((first|(go_at_call 310;exact qn6 (a.out _))|(go_at_call 251;exact Calls.quiet_of (d.out _))));go_wp2;go_ret;exact⟨dK (by rw[c.out];simp),_,by rw[<-b,qqu]⟩
 ·by_cases e:W<=m.fF;all_goals
   rw[p]at n c;go_enter func255,ntmps255;go_wp2;go_quiet ((go_at_call 306;exact qn6 (k.out _)));go_wp2_with fail;have a:=aF (j.out nq);have d:=aF (i.out nq);generalize b:w.drewN nq=s at *
   go_quiet ((first|(go_at_call 310;exact qn6 (a.out _))|(go_at_call 251;exact Calls.quiet_of (d.out _))));go_wp2;go_ret;exact⟨dK (by rw[c.out];simp[e]),_,by rw[<-b,qqu]⟩
end

end
def Rs(o:Nat)(m:eU){T Q:WA}(f:Fr)(P:WA)(w:Wq)(X:aL w S TS l)(h:w_ l o m T Q)(ho:f.aC<=dH)(hd:f.data.size<=1000000000):qH 295 #[aJ S o,eF f P] w (iZ (m.refuse f:Int)) fun Z=>bE w Z:=by
 obtain⟨W,e⟩:=bT (w.alloc (.cells (fJ f P).toArray 65));have Y:aL W w.heap.size 65 (fJ f P):=by rw[e];exact aL.new w 65 _
 have N:bE w W:=by rw[e];exact(qlw _ w).alloc (qj _) _
 have gT:W.heap.size=w.heap.size+1:=by rw[e];simp
 have g:=aF (lM f P W ho hd);obtain⟨x,z,A,B,C,D,F,G,H,I,J⟩:=bC Y;have j:Hid (m.refuse f=if m.cO/\m.gH<bL f\/m.cO/\f.bG/\bL f≠m.gH\/f.bG/\bL f<m.fF then 10 else if m.gr.dX<bL f then 9 else 0):=rfl;have i:Hid (∀y,bE W y->y.cell? (ay w.heap.size 5)=some (.bool f.bG)/\y.cell? (ay S (o+7))=some (uZ m.fF)/\y.cell? (ay S (o+8))=some (.bool m.cO)/\y.cell? (ay S (o+9))=some (uZ m.gH)/\bE w y/\qH 296 #[aJ S o,(uZ (bL f:Int))] y (.bool (decide (bL f<=m.gr.dX))) fun Z=>Z=y):=fun y hy=>by have c:=N.trans (hy.mono aj);have U:=X.of_heap (c.block _ X.lt);have a:=Y.of_heap (hy.block _ aj);exact⟨a.cell 5,in7 S o m T Q y l U h,in8 S o m T Q y l U h,in9 S o m T Q y l U h,c,Fj (bL f) U h.gr⟩
 generalize m.refuse f=R at *
 generalize bL f=E at *
 clear Y N X h ho hd;unfold eF;unfold fJ at e;rcases(qq2 m.cO).symm with hen|hen
 ·have v:=aF hen;rcases(qq2 f.bG).symm with hfi|hfi
  ·have u:=aF hfi;have b:=(show¬(m.cO=true/\m.gH<E\/m.cO=true/\f.bG=true/\E≠m.gH\/f.bG=true/\E<m.fF) by rw[hen,hfi];simp);by_cases s:m.gr.dX<E
   ·have n:Hid (R=9):=by unfold Hid;rw[j.out,aV b,bM s]
    have t:¬(E<=m.gr.dX):=aj;clear j b s hen hfi;go_enter qnd,qo6;go_wp2_with fail;rw[<-e];refine bH g.out ?_;rintro y a;obtain⟨q,K,p,L,c,d⟩:=i.out y a;rw[v.out]at p;rw[u.out]at q;have k:=aF c;have r:=aF d;clear c d a i g e x z A B C D F G H I J;go_wp2_with fail;refine bH r.out ?_;rintro M rfl;go_wp2;go_ret;exact⟨gL (by rw[n.out];rfl),k.out⟩
   ·have n:Hid (R=0):=by unfold Hid;rw[j.out,aV b,aV s]
    have t:E<=m.gr.dX:=aj;clear j b s hen hfi;go_enter qnd,qo6;go_wp2_with fail;rw[<-e];refine bH g.out ?_;rintro y a;obtain⟨q,K,p,L,c,d⟩:=i.out y a;rw[v.out]at p;rw[u.out]at q;have k:=aF c;have r:=aF d;clear c d a i g e x z A B C D F G H I J;go_wp2_with fail;refine bH r.out ?_;rintro M rfl;go_wp2;go_ret;exact⟨gL (by rw[n.out];rfl),k.out⟩
  ·have u:=aF hfi;by_cases V:E<m.fF
   ·clear hen;have n:Hid (R=10):=by unfold Hid;rw[j.out,bM (.inr (.inr ⟨hfi,V⟩))]
    clear j hfi;go_enter qnd,qo6;go_wp2_with fail;rw[<-e];refine bH g.out ?_;rintro y a;obtain⟨q,K,p,L,c,d⟩:=i.out y a;rw[v.out]at p;rw[u.out]at q;have k:=aF c;have r:=aF d;clear c d a i g e x z A B C D F G H I J;go_wp2;go_ret;exact⟨gL (by rw[n.out];rfl),k.out⟩
   ·have b:=(show¬(m.cO=true/\m.gH<E\/m.cO=true/\f.bG=true/\E≠m.gH\/f.bG=true/\E<m.fF) by rw[hen,hfi];simp;omega);by_cases s:m.gr.dX<E
    ·have n:Hid (R=9):=by unfold Hid;rw[j.out,aV b,bM s]
     have t:¬(E<=m.gr.dX):=aj;clear j b s hen hfi;go_enter qnd,qo6;go_wp2_with fail;rw[<-e];refine bH g.out ?_;rintro y a;obtain⟨q,K,p,L,c,d⟩:=i.out y a;rw[v.out]at p;rw[u.out]at q;have k:=aF c;have r:=aF d;clear c d a i g e x z A B C D F G H I J;go_wp2_with fail;refine bH r.out ?_;rintro M rfl;go_wp2;go_ret;exact⟨gL (by rw[n.out];rfl),k.out⟩
    ·have n:Hid (R=0):=by unfold Hid;rw[j.out,aV b,aV s]
     have t:E<=m.gr.dX:=aj;clear j b s hen hfi;go_enter qnd,qo6;go_wp2_with fail;rw[<-e];refine bH g.out ?_;rintro y a;obtain⟨q,K,p,L,c,d⟩:=i.out y a;rw[v.out]at p;rw[u.out]at q;have k:=aF c;have r:=aF d;clear c d a i g e x z A B C D F G H I J;go_wp2_with fail;refine bH r.out ?_;rintro M rfl;go_wp2;go_ret;exact⟨gL (by rw[n.out];rfl),k.out⟩
 ·have v:=aF hen;by_cases h1:m.gH<E
  ·have n:Hid (R=10):=by unfold Hid;rw[j.out,bM (.inl ⟨hen,h1⟩)]
   clear j hen;go_enter qnd,qo6;go_wp2_with fail;rw[<-e];refine bH g.out ?_;rintro y a;obtain⟨q,K,p,L,c,d⟩:=i.out y a;rw[v.out]at p;have k:=aF c;have r:=aF d;clear c d a i g e x z A B C D F G H I J;go_wp2;go_ret;exact⟨gL (by rw[n.out];rfl),k.out⟩
  ·rcases(qq2 f.bG).symm with hfi|hfi
   ·have u:=aF hfi;have b:=(show¬(m.cO=true/\m.gH<E\/m.cO=true/\f.bG=true/\E≠m.gH\/f.bG=true/\E<m.fF) by rw[hen,hfi];simp;omega);by_cases s:m.gr.dX<E
    ·have n:Hid (R=9):=by unfold Hid;rw[j.out,aV b,bM s]
     have t:¬(E<=m.gr.dX):=aj;clear j b s hen hfi;go_enter qnd,qo6;go_wp2_with fail;rw[<-e];refine bH g.out ?_;rintro y a;obtain⟨q,K,p,L,c,d⟩:=i.out y a;rw[v.out]at p;rw[u.out]at q;have k:=aF c;have r:=aF d;clear c d a i g e x z A B C D F G H I J;go_wp2_with fail;refine bH r.out ?_;rintro M rfl;go_wp2;go_ret;exact⟨gL (by rw[n.out];rfl),k.out⟩
    ·have n:Hid (R=0):=by unfold Hid;rw[j.out,aV b,aV s]
     have t:E<=m.gr.dX:=aj;clear j b s hen hfi;go_enter qnd,qo6;go_wp2_with fail;rw[<-e];refine bH g.out ?_;rintro y a;obtain⟨q,K,p,L,c,d⟩:=i.out y a;rw[v.out]at p;rw[u.out]at q;have k:=aF c;have r:=aF d;clear c d a i g e x z A B C D F G H I J;go_wp2_with fail;refine bH r.out ?_;rintro M rfl;go_wp2;go_ret;exact⟨gL (by rw[n.out];rfl),k.out⟩
   ·have u:=aF hfi;by_cases O:E=m.gH
    ·have g2:((E:Int)==(m.gH:Int))=true:=rR;by_cases V:E<m.fF
     ·have n:Hid (R=10):=by unfold Hid;rw[j.out,bM (.inr (.inr ⟨hfi,V⟩))]
      clear j hfi hen O;go_enter qnd,qo6;go_wp2_with fail;rw[<-e];refine bH g.out ?_;rintro y a;obtain⟨q,K,p,L,c,d⟩:=i.out y a;rw[v.out]at p;rw[u.out]at q;have k:=aF c;have r:=aF d;clear c d a i g e x z A B C D F G H I J;go_wp2;go_ret;exact⟨gL (by rw[n.out];rfl),k.out⟩
     ·have b:=(show¬(m.cO=true/\m.gH<E\/m.cO=true/\f.bG=true/\E≠m.gH\/f.bG=true/\E<m.fF) by rw[hen,hfi];simp;omega);by_cases s:m.gr.dX<E
      ·have n:Hid (R=9):=by unfold Hid;rw[j.out,aV b,bM s]
       have t:¬(E<=m.gr.dX):=aj;clear j b s hen hfi O;go_enter qnd,qo6;go_wp2_with fail;rw[<-e];refine bH g.out ?_;rintro y a;obtain⟨q,K,p,L,c,d⟩:=i.out y a;rw[v.out]at p;rw[u.out]at q;have k:=aF c;have r:=aF d;clear c d a i g e x z A B C D F G H I J;go_wp2_with fail;refine bH r.out ?_;rintro M rfl;go_wp2;go_ret;exact⟨gL (by rw[n.out];rfl),k.out⟩
      ·have n:Hid (R=0):=by unfold Hid;rw[j.out,aV b,aV s]
       have t:E<=m.gr.dX:=aj;clear j b s hen hfi O;go_enter qnd,qo6;go_wp2_with fail;rw[<-e];refine bH g.out ?_;rintro y a;obtain⟨q,K,p,L,c,d⟩:=i.out y a;rw[v.out]at p;rw[u.out]at q;have k:=aF c;have r:=aF d;clear c d a i g e x z A B C D F G H I J;go_wp2_with fail;refine bH r.out ?_;rintro M rfl;go_wp2;go_ret;exact⟨gL (by rw[n.out];rfl),k.out⟩
    ·have g2:((E:Int)==(m.gH:Int))=false:=rR;have n:Hid (R=10):=by unfold Hid;rw[j.out,bM (.inr (.inl ⟨hen,hfi,O⟩))]
     clear j hen hfi;go_enter qnd,qo6;go_wp2_with fail;rw[<-e];refine bH g.out ?_;rintro y a;obtain⟨q,K,p,L,c,d⟩:=i.out y a;rw[v.out]at p;rw[u.out]at q;have k:=aF c;have r:=aF d;clear c d a i g e x z A B C D F G H I J;go_wp2;go_ret;exact⟨gL (by rw[n.out];rfl),k.out⟩
def Rt{b:Nat}(m n c:Nat)(hm:1<=m)(Y:1<=n)(Z:m+n<=c)(_hc:c<=9223372036854775807)(_hbig:m+n<=1000000)(h:aL w b 5 l)(U:c<=l.length)(F:∀v∈l,v.oneCell'=true):WB prog 303 #[(dh b (m+n) c),iZ 0,iZ n] w fun e K=>
   ∃A,e=.returned (dh b m c)/\aL K b 5 A/\A.length=l.length/\A.take m=(l.take (m+n)).drop n/\(∀v∈A,v.oneCell'=true)/\l6 b w K:=by
 have z:((l.take (m+n)).drop n).length=m:=rR;have q:∀v∈(l.take (m+n)).drop n,v.oneCell'=true:=fun v hv=>F v (qn2 (qo2 hv));have g:∀j v,((l.take (m+n)).drop n)[j]?=some v->l[n+j]?=some v:=fun j v u=>by
  rw[qmu,qm6]at u;split at u;·exact u
  ·cases u
 have x:(loadCellsFrom (ay b n) 0 (m*1) #[]).run prog w.drew=.ok ((l.take (m+n)).drop n).toArray w.drew:=by have T:=run_firstCells_some (P:=prog) w.drew 1 m (ay b n) m (c-n) ((l.take (m+n)).drop n) aj (fun j v u=>by rw[qmb];exact(aL.cell h (n+j)).trans (g j v u));simpa[mK,loadCells]using T
 rw[qo7]at x;have y:(storeCells (ay b 0) ((l.take (m+n)).drop n)).run prog w.drew=.ok () (put w.drew b (aU l 0 ((l.take (m+n)).drop n))):=
  fZ (P:=prog) (w:=w.drew) (o:=0) h _ aj q
 have r:(aU l 0 ((l.take (m+n)).drop n)).length=l.length:=bV _ _ _ aj;have f:(aU l 0 ((l.take (m+n)).drop n)).take m=(l.take (m+n)).drop n:=by have:=iI l ((l.take (m+n)).drop n) 0 aj;rw[z]at this;simpa using this
 have i:∀v∈aU l 0 ((l.take (m+n)).drop n),v.oneCell'=true:=dM F q;have d:aL (put w.drew b (aU l 0 ((l.take (m+n)).drop n))) b 5 (aU l 0 ((l.take (m+n)).drop n)):=aL.put (w:=w.drew) h _;generalize aU l 0 ((l.take (m+n)).drop n)=a at y r f i d;generalize (l.take (m+n)).drop n=X at f x y ⊢;have G:∀I E,(mE #[60] I #[.slice (some (ay b m)) n E]).run prog (put w.drew b a)=.ok (.tuple #[]) (put (put w.drew b a) b (aU a m (eB (fB .u8 0).cells n).toList)):=fun I E=>gQ (P:=prog) (o:=m) (n:=n) (c:=E) 60 5 I _ yC.ht (fun w=>bO) d aj (by rw[yC.hz];omega) (yC.h1 _);have t:(aU a m (eB (fB .u8 0).cells n).toList).take m=X:=by rw[gU _ _ _ _ (by rw[yC.hz];omega) (qj _),f]
 have s:(aU a m (eB (fB .u8 0).cells n).toList).length=l.length:=by rw[bV _ _ _ (by rw[yC.hz];omega),r]
 have p:∀v∈aU a m (eB (fB .u8 0).cells n).toList,v.oneCell'=true:=dM i (yC.h1 _);generalize aU a m (eB (fB .u8 0).cells n).toList=H at G t s p;have D:Hid _:=t;have M:Hid _:=p;have C:Hid _:=s;have B:Hid (aL (put w.drew b a) b 5 a):=d;have L:Hid (l6 b w (put (put w.drew b a) b H)):=⟨rfl,rfl,rfl,by simp[put],fun k J=>by rw[gY _ _ _ _ J,gY _ _ _ _ J];rfl⟩;clear f t p s i r d q g z F U h;have V:m<=c:=aj;have N:(n:Int)<=(m:Int)+(n:Int):=aj;have O:(m:Int)+(n:Int)<=(c:Int):=aj;have Q:(n:Int)<=(c:Int):=aj;have R:¬(c=m):=aj;have S:¬(c=n):=aj;have W:¬((0:Int)=(n:Int)):=aj;have h0:((0:Int)==(n:Int))=false:=rR;have e1:m+n-m=n:=aj;have e2:m+n-n=m:=aj;go_enter func303,ntmps303;go_wp2;go_region
 go_wp2;go_ret;exact⟨H,rfl,aL.put B.out H,C.out,D.out,M.out,L.out⟩
def Ru{b:Nat}(m n c:Nat)(hm:1<=m)(Y:1<=n)(Z:m+n<=c)(_hc:c<=9223372036854775807)(_hbig:m+n<=1000000)(h:aL w b 4 l)(U:c<=l.length)(F:∀v∈l,v.oneCell'=true):WB prog 304 #[(dh b (m+n) c),iZ 0,iZ n] w fun e K=>
   ∃A,e=.returned (dh b m c)/\aL K b 4 A/\A.length=l.length/\A.take m=(l.take (m+n)).drop n/\(∀v∈A,v.oneCell'=true)/\l6 b w K:=by
 have z:((l.take (m+n)).drop n).length=m:=rR;have q:∀v∈(l.take (m+n)).drop n,v.oneCell'=true:=fun v hv=>F v (qn2 (qo2 hv));have g:∀j v,((l.take (m+n)).drop n)[j]?=some v->l[n+j]?=some v:=fun j v u=>by
  rw[qmu,qm6]at u;split at u;·exact u
  ·cases u
 have x:(loadCellsFrom (ay b n) 0 (m*1) #[]).run prog w.drew=.ok ((l.take (m+n)).drop n).toArray w.drew:=by have T:=run_firstCells_some (P:=prog) w.drew 1 m (ay b n) m (c-n) ((l.take (m+n)).drop n) aj (fun j v u=>by rw[qmb];exact(aL.cell h (n+j)).trans (g j v u));simpa[mK,loadCells]using T
 rw[qo7]at x;have y:(storeCells (ay b 0) ((l.take (m+n)).drop n)).run prog w.drew=.ok () (put w.drew b (aU l 0 ((l.take (m+n)).drop n))):=
  fZ (P:=prog) (w:=w.drew) (o:=0) h _ aj q
 have r:(aU l 0 ((l.take (m+n)).drop n)).length=l.length:=bV _ _ _ aj;have f:(aU l 0 ((l.take (m+n)).drop n)).take m=(l.take (m+n)).drop n:=by have:=iI l ((l.take (m+n)).drop n) 0 aj;rw[z]at this;simpa using this
 have i:∀v∈aU l 0 ((l.take (m+n)).drop n),v.oneCell'=true:=dM F q;have d:aL (put w.drew b (aU l 0 ((l.take (m+n)).drop n))) b 4 (aU l 0 ((l.take (m+n)).drop n)):=aL.put (w:=w.drew) h _;generalize aU l 0 ((l.take (m+n)).drop n)=a at y r f i d;generalize (l.take (m+n)).drop n=X at f x y ⊢;have G:∀I E,(mE #[156] I #[.slice (some (ay b m)) n E]).run prog (put w.drew b a)=.ok (.tuple #[]) (put (put w.drew b a) b (aU a m (eB (fA false).cells n).toList)):=fun I E=>gQ (P:=prog) (o:=m) (n:=n) (c:=E) 156 4 I _ zM.ht (fun w=>bO) d aj (by rw[zM.hz];omega) (zM.h1 _);have t:(aU a m (eB (fA false).cells n).toList).take m=X:=by rw[gU _ _ _ _ (by rw[zM.hz];omega) (qj _),f]
 have s:(aU a m (eB (fA false).cells n).toList).length=l.length:=by rw[bV _ _ _ (by rw[zM.hz];omega),r]
 have p:∀v∈aU a m (eB (fA false).cells n).toList,v.oneCell'=true:=dM i (zM.h1 _);generalize aU a m (eB (fA false).cells n).toList=H at G t s p;have D:Hid _:=t;have M:Hid _:=p;have C:Hid _:=s;have B:Hid (aL (put w.drew b a) b 4 a):=d;have L:Hid (l6 b w (put (put w.drew b a) b H)):=⟨rfl,rfl,rfl,by simp[put],fun k J=>by rw[gY _ _ _ _ J,gY _ _ _ _ J];rfl⟩;clear f t p s i r d q g z F U h;have V:m<=c:=aj;have N:(n:Int)<=(m:Int)+(n:Int):=aj;have O:(m:Int)+(n:Int)<=(c:Int):=aj;have Q:(n:Int)<=(c:Int):=aj;have R:¬(c=m):=aj;have S:¬(c=n):=aj;have W:¬((0:Int)=(n:Int)):=aj;have h0:((0:Int)==(n:Int))=false:=rR;have e1:m+n-m=n:=aj;have e2:m+n-n=m:=aj;go_enter func304,ntmps304;go_wp2;go_region
 go_wp2;go_ret;exact⟨H,rfl,aL.put B.out H,C.out,D.out,M.out,L.out⟩
def Vw{b:Nat}(n c:Nat)(A:1<=n)(B:n<=c)(h:aL w b 5 l)(y:c<=l.length)(q:∀v∈l,v.oneCell'=true):WB prog 303 #[dh b n c,iZ 0,iZ n] w fun e r=>
   ∃m,e=.returned (dh b 0 c)/\aL r b 5 m/\m.length=l.length/\(∀v∈m,v.oneCell'=true)/\l6 b w r:=by
 have i:∀p g,(mE #[60] p #[dh b n g]).run prog w.drew=.ok (.tuple #[]) (put w.drew b (aU l 0 (eB (fB .u8 0).cells n).toList)):=fun p g=>gQ (P:=prog) (o:=0) (n:=n) (c:=g) 60 5 p _ yC.ht (fun w=>bO) (aL.drew h) aj (by rw[yC.hz];omega) (yC.h1 _);have d:(aU l 0 (eB (fB .u8 0).cells n).toList).length=l.length:=bV _ _ _ (by rw[yC.hz];omega);have a:∀v∈aU l 0 (eB (fB .u8 0).cells n).toList,v.oneCell'=true:=dM q (yC.h1 _);generalize aU l 0 (eB (fB .u8 0).cells n).toList=f at i d a;have s:Hid (aL (put w.drew b f) b 5 f/\f.length=l.length/\(∀v∈f,v.oneCell'=true)/\l6 b w (put w.drew b f)):=⟨aL.put (w:=w.drew) h f,d,a,rfl,rfl,rfl,by simp[put],fun k x=>by rw[gY _ _ _ _ x];rfl⟩;clear d a h q y;have u:(n:Int)<=(c:Int):=aj;have z:¬((0:Int)=(n:Int)):=aj;have C:((0:Int)==(n:Int))=false:=rR;have t:¬(c=0):=aj;by_cases j:c=n;all_goals
  go_enter func303,ntmps303;go_wp2;go_region
  go_wp2;go_ret;exact⟨f,St.rQ rfl (by first|rfl|exact j.symm),s.out⟩
def Vx{b:Nat}(n c:Nat)(A:1<=n)(B:n<=c)(h:aL w b 4 l)(y:c<=l.length)(q:∀v∈l,v.oneCell'=true):WB prog 304 #[dh b n c,iZ 0,iZ n] w fun e r=>
   ∃m,e=.returned (dh b 0 c)/\aL r b 4 m/\m.length=l.length/\(∀v∈m,v.oneCell'=true)/\l6 b w r:=by
 have i:∀p g,(mE #[156] p #[dh b n g]).run prog w.drew=.ok (.tuple #[]) (put w.drew b (aU l 0 (eB (fA false).cells n).toList)):=fun p g=>gQ (P:=prog) (o:=0) (n:=n) (c:=g) 156 4 p _ zM.ht (fun w=>bO) (aL.drew h) aj (by rw[zM.hz];omega) (zM.h1 _);have d:(aU l 0 (eB (fA false).cells n).toList).length=l.length:=bV _ _ _ (by rw[zM.hz];omega);have a:∀v∈aU l 0 (eB (fA false).cells n).toList,v.oneCell'=true:=dM q (zM.h1 _);generalize aU l 0 (eB (fA false).cells n).toList=f at i d a;have s:Hid (aL (put w.drew b f) b 4 f/\f.length=l.length/\(∀v∈f,v.oneCell'=true)/\l6 b w (put w.drew b f)):=⟨aL.put (w:=w.drew) h f,d,a,rfl,rfl,rfl,by simp[put],fun k x=>by rw[gY _ _ _ _ x];rfl⟩;clear d a h q y;have u:(n:Int)<=(c:Int):=aj;have z:¬((0:Int)=(n:Int)):=aj;have C:((0:Int)==(n:Int))=false:=rR;have t:¬(c=0):=aj;by_cases j:c=n;all_goals
  go_enter func304,ntmps304;go_wp2;go_region
  go_wp2;go_ret;exact⟨f,St.rQ rfl (by first|rfl|exact j.symm),s.out⟩
def Vy{t:Nat}(n:Nat)(d:List UInt8)(a:Option V3)(c:Nat)(z:1<=n)(A:n<=d.length)(E:d.length<=1000000)(h:GT oZ t 5 1 w (.slice a d.length c) d.length (bX d)):WB prog 303 #[.slice a d.length c,iZ 0,iZ n] w fun e f=>∃u v,e=.returned (.slice u (d.length-n) v)/\GT oZ t 5 1 f (.slice u (d.length-n) v) (d.drop n).length (bX (d.drop n))/\Kp [t] oZ oZ w f:=by
 rcases h with⟨D,k,_⟩|⟨g,cap,cs,hv,ho,hB,k,h3,h4,h5,h6,h7⟩;·omega
 ·simp at hv;obtain⟨rfl,rfl⟩:=hv;have x:∀f,l6 g w f->Kp [t] oZ oZ w f:=fun f j=>⟨j.os,j.tape,j.output,by rw[j.size];exact qj _,fun b _ o=>j.block b (fun e=>o (by rw[e,ho];simp)),fun _ _=>rfl⟩;have i:(d.drop n).length=d.length-n:=aM;rw[qo7]at h6 k;by_cases y:d.length=n
  ·have:=Vw n c z aj hB k h7;rw[y];refine this.mono ?_;rintro e f ⟨s,rfl,p,B,q,r⟩;refine⟨_,_,by rw[qnk],?_,x f r⟩;rw[i,y,qnk];refine .inr ⟨g,c,s,rfl,ho,p,aj,aj,h4,?_,?_,q⟩;·rw[dN,i];omega
   ·rw[qpg,qop,qnj aj];rfl
  ·obtain⟨m,l⟩:∃m,d.length=m+n:=⟨d.length-n,aj⟩;have:=Rt m n c aj z aj h4 aj hB k h7;rw[<-l]at this;refine this.mono ?_;rintro e f ⟨s,rfl,p,B,q,r,C⟩;refine⟨_,_,by rw[show d.length-n=m by omega],?_,x f C⟩;rw[i,show d.length-n=m by omega];refine .inr ⟨g,c,s,rfl,ho,p,aj,aj,h4,?_,?_,r⟩;·rw[dN,i];omega
   ·rw[qo7,q,h6];simp[bX]
def Vz(t n:Nat)(d:List Bool){a:Option V3}(c:Nat)(B:1<=n)(C:n<=d.length)(G:d.length<=1000000)(h:GT oZ t 4 1 w (.slice a d.length c) d.length (iK d)):WB prog 304 #[.slice a d.length c,iZ 0,iZ n] w fun e f=>∃x y,e=.returned (.slice x (d.length-n) y)/\GT oZ t 4 1 f (.slice x (d.length-n) y) (d.drop n).length (iK (d.drop n))/\Kp [t] oZ oZ w f:=by
 have j:∀l:List Bool,(iK l).length=l.length:=fun l=>by simp[iK]
 rcases h with⟨F,o,_⟩|⟨g,cap,cs,hv,ho,hB,o,h3,h4,h5,h6,h7⟩;·omega
 ·simp at hv;obtain⟨rfl,rfl⟩:=hv;have z:∀f,l6 g w f->Kp [t] oZ oZ w f:=fun f k=>⟨k.os,k.tape,k.output,by rw[k.size];exact qj _,fun b _ q=>k.block b (fun e=>q (by rw[e,ho];simp)),fun _ _=>rfl⟩;have i:(d.drop n).length=d.length-n:=aM;rw[qo7]at h6 o;by_cases A:d.length=n
  ·have:=Vx n c B aj hB o h7;rw[A];refine this.mono ?_;rintro e f ⟨v,rfl,r,D,s,u⟩;refine⟨_,_,by rw[qnk],?_,z f u⟩;rw[i,A,qnk];refine .inr ⟨g,c,v,rfl,ho,r,aj,aj,h4,?_,?_,s⟩;·rw[j,i];omega
   ·rw[qpg,qop,qnj aj];rfl
  ·obtain⟨m,p⟩:∃m,d.length=m+n:=⟨d.length-n,aj⟩;have:=Ru m n c aj B aj h4 aj hB o h7;rw[<-p]at this;refine this.mono ?_;rintro e f ⟨v,rfl,r,D,s,u,E⟩;refine⟨_,_,by rw[show d.length-n=m by omega],?_,z f E⟩;rw[i,show d.length-n=m by omega];refine .inr ⟨g,c,v,rfl,ho,r,aj,aj,h4,?_,?_,u⟩;·rw[j,i];omega
   ·rw[qo7,s,h6];simp[iK]
def Rv{l:List Bool}(a:i<=l.length)(h:∀j,j<i->l.getD j false=true):i<=(l.takeWhile id).length:=by
 induction l generalizing i with
 |nil=>simpa using a
 |cons b t d=>
  cases i with
  |zero=>exact qm2 _
  |succ i=>have c:b=true:=h 0 aj;subst c;have:=d (i:=i) (by simpa using a) (fun j e=>by simpa using h (j+1) aj);simp only[nU,id,if_true,qmp];omega
def Cz(l:List Bool):(l.takeWhile id).length<=l.length:=(List.takeWhile_prefix _).length_le
def Nv{l:List Bool}(a:i<l.length)(h:l.getD i false=false):(l.takeWhile id).length<=i:=by
 induction l generalizing i with
 |nil=>simp at a
 |cons b t d=>
  cases i with
  |zero=>have c:b=false:=h;subst c;simp
  |succ i=>
   cases b with
   |false=>simp
   |true=>have:=d (i:=i) (by simpa using a) (by simpa using h);simp only[nU,id,if_true,qmp];omega
def Rw{t:Nat}(b:List Bool){a:Option V3}(c:Nat)(F:b.length<=1000000)(h:GT oZ t 4 1 w (.slice a b.length c) b.length (iK b)):qH 305 #[.slice a b.length c,.bool false] w (iZ (if(b.takeWhile id).length=b.length then -1 else((b.takeWhile id).length:Int))) fun E=>E=w:=by
 have A:=aF h;have q:=aF (dw (fun i o u=>Rv (l:=b) (i:=i) o u) (fun i o u=>Nv (l:=b) (i:=i) o u));have D:=Cz b;obtain⟨R,s⟩:=bT (if(b.takeWhile id).length=b.length then -1 else((b.takeWhile id).length:Int):Int);rw[<-s];have x:=aF s;clear h s;generalize (b.takeWhile id).length=T at *
 go_enter func305,ntmps305;go_wp2_with fail;go_loopw [8] (fun v wr=>∃i:Nat,i<=b.length/\v=(iZ i)/\wr=w/\Hid (∀j,j<i->b.getD j false=true)) (fun v _=>b.length-(eT v).toNat);case atStart=>exact⟨0,qm2 _,rfl,rfl,fun j C=>aj⟩
 case round=>
  obtain⟨i,o,rfl,rfl,k⟩:=hrel;by_cases n:i<b.length
  ·have z:(i:Int)<(b.length:Int):=aj;have y:(iK b)[i]?=some (.bool (b.getD i false)):=by simp[iK,n]
   obtain⟨g,rfl,_,G,d,_⟩:=A.out.cell i _ y;clear y;cases m:b.getD i false
   ·have B:=q.out.2 i n m;have r:=q.out.1 i aj k.out;have f:Hid (R=(i:Int)):=by unfold Hid;rw[x.out,aV aj];omega
    rw[m]at d;clear m k B r;go_wp2;go_ret;exact⟨gL (by rw[f.out]),rfl⟩
   ·have p:Hid (∀j,j<i+1->b.getD j false=true):=fun j C=>by
     by_cases e:j=i;·rw[e];exact m
     ·exact k.out j aj
    rw[m]at d;clear m k;go_wp2_with fail;go_roundw;case rel=>exact⟨i+1,aj,by go_num,by first|rfl|trivial,p⟩
    case measure=>simp[eT];omega
  ·obtain rfl:i=b.length:=aj;have r:=q.out.1 b.length (qj _) k.out;have f:Hid (R= -1):=by unfold Hid;rw[x.out,bM aj]
   clear k r;go_wp2;go_ret;exact⟨gL (by rw[f.out]),rfl⟩
def VA{o:Nat}(t:Nat){m:eU}{k f:WA}(j:aL w S TS l)(h:w_ l o m k f)(e:GT oZ t 4 1 w f m.aP.length (iK m.aP))(p:m.aP.length<=1000000):qH 239 #[aJ S o] w (iZ m.ready) fun g=>g=w:=by
 have r:=in6 S o m k f w l j h;obtain⟨a,c,rfl,s,_⟩:=e.shape;have d:=aF (Rw m.aP c p e);have i:Hid (m.ready=(m.aP.takeWhile id).length):=rfl;have q:=Cz m.aP;generalize m.ready=R at *
 generalize (m.aP.takeWhile id).length=T at *
 clear e h j;by_cases b:T=m.aP.length;·rw[bM b]at d;have n:=aF b;clear b;go_enter func239,ntmps239;go_wp2_with fail;refine bH d.out ?_;rintro g rfl;go_wp2;go_ret;exact⟨gL (by rw[i.out,n.out]),rfl⟩
 ·rw[aV b]at d;clear b;go_enter func239,ntmps239;go_wp2_with fail;refine bH d.out ?_;rintro g rfl;go_wp2;go_ret;exact⟨gL (by rw[i.out]),rfl⟩
def FB(s t:Nat)(oZ:Own)(S o:Nat)(l:bJ)(w:Wq)(m':eU)(w':Wq):Prop:=
 ∃b a,Kp [s,t,t+1] oZ b w w'/\aL w' S TS a/\kR l a o 13/\BG b t w' a o m'
def wU.set{l:bJ}{o j:Nat}{v:WA}{g:Gn}(h:wU l o g)(a:j<o\/o+4<=j):wU (l.set j v) o g:=
 ⟨(aA _ _ _ _ aj).trans h.c0,(aA _ _ _ _ aj).trans h.c1,(aA _ _ _ _ aj).trans h.c2,(aA _ _ _ _ aj).trans h.c3⟩
def VB{o:Nat}{m:eU}(h:w_ l o m b a)(x:Nat):w_ (l.set (o+4) (uZ x)) o {m with aY:=x} b a:=
 ⟨h.gr.set aj,cB _ _ _ _ h.c4,(aA _ _ _ _ aj).trans h.c5,(aA _ _ _ _ aj).trans h.c6,(aA _ _ _ _ aj).trans h.c7,(aA _ _ _ _ aj).trans h.c8,(aA _ _ _ _ aj).trans h.c9,(aA _ _ _ _ aj).trans h.uh,(aA _ _ _ _ aj).trans h.w9,(aA _ _ _ _ aj).trans h.xO⟩
def CB{o:Nat}{m:eU}{c:WA}(h:w_ l o m c a)(v:WA)(b:List UInt8):w_ (l.set (o+5) v) o {m with bK:=b} v a:=
 ⟨h.gr.set aj,(aA _ _ _ _ aj).trans h.c4,cB _ _ _ _ h.c5,(aA _ _ _ _ aj).trans h.c6,(aA _ _ _ _ aj).trans h.c7,(aA _ _ _ _ aj).trans h.c8,(aA _ _ _ _ aj).trans h.c9,(aA _ _ _ _ aj).trans h.uh,(aA _ _ _ _ aj).trans h.w9,(aA _ _ _ _ aj).trans h.xO⟩
def CF{o:Nat}{m:eU}{c:WA}(h:w_ l o m a c)(v:WA)(b:List Bool):w_ (l.set (o+6) v) o {m with aP:=b} a v:=
 ⟨h.gr.set aj,(aA _ _ _ _ aj).trans h.c4,(aA _ _ _ _ aj).trans h.c5,cB _ _ _ _ h.c6,(aA _ _ _ _ aj).trans h.c7,(aA _ _ _ _ aj).trans h.c8,(aA _ _ _ _ aj).trans h.c9,(aA _ _ _ _ aj).trans h.uh,(aA _ _ _ _ aj).trans h.w9,(aA _ _ _ _ aj).trans h.xO⟩
def VD{o:Nat}{m:eU}(h:w_ l o m b a)(x:Nat):w_ (l.set (o+7) (uZ x)) o {m with fF:=x} b a:=
 ⟨h.gr.set aj,(aA _ _ _ _ aj).trans h.c4,(aA _ _ _ _ aj).trans h.c5,(aA _ _ _ _ aj).trans h.c6,cB _ _ _ _ h.c7,(aA _ _ _ _ aj).trans h.c8,(aA _ _ _ _ aj).trans h.c9,(aA _ _ _ _ aj).trans h.uh,(aA _ _ _ _ aj).trans h.w9,(aA _ _ _ _ aj).trans h.xO⟩
def FC{o:Nat}{m:eU}(h:w_ l o m b a)(x:Bool):w_ (l.set (o+8) (.bool x)) o {m with cO:=x} b a:=
 ⟨h.gr.set aj,(aA _ _ _ _ aj).trans h.c4,(aA _ _ _ _ aj).trans h.c5,(aA _ _ _ _ aj).trans h.c6,(aA _ _ _ _ aj).trans h.c7,cB _ _ _ _ h.c8,(aA _ _ _ _ aj).trans h.c9,(aA _ _ _ _ aj).trans h.uh,(aA _ _ _ _ aj).trans h.w9,(aA _ _ _ _ aj).trans h.xO⟩
def J4{o:Nat}{m:eU}(h:w_ l o m b a)(x:Nat):w_ (l.set (o+9) (uZ x)) o {m with gH:=x} b a:=
 ⟨h.gr.set aj,(aA _ _ _ _ aj).trans h.c4,(aA _ _ _ _ aj).trans h.c5,(aA _ _ _ _ aj).trans h.c6,(aA _ _ _ _ aj).trans h.c7,(aA _ _ _ _ aj).trans h.c8,cB _ _ _ _ h.c9,(aA _ _ _ _ aj).trans h.uh,(aA _ _ _ _ aj).trans h.w9,(aA _ _ _ _ aj).trans h.xO⟩
def Rx{o:Nat}{m:eU}(h:w_ l o m b a)(x:Bool):w_ (l.set (o+10) (.bool x)) o {m with bN:=x} b a:=
 ⟨h.gr.set aj,(aA _ _ _ _ aj).trans h.c4,(aA _ _ _ _ aj).trans h.c5,(aA _ _ _ _ aj).trans h.c6,(aA _ _ _ _ aj).trans h.c7,(aA _ _ _ _ aj).trans h.c8,(aA _ _ _ _ aj).trans h.c9,cB _ _ _ _ h.uh,(aA _ _ _ _ aj).trans h.w9,(aA _ _ _ _ aj).trans h.xO⟩
def ZI{o:Nat}{m:eU}(h:w_ l o m b a)(x:Nat):w_ (l.set (o+11) (uZ x)) o {m with rel:=x} b a:=
 ⟨h.gr.set aj,(aA _ _ _ _ aj).trans h.c4,(aA _ _ _ _ aj).trans h.c5,(aA _ _ _ _ aj).trans h.c6,(aA _ _ _ _ aj).trans h.c7,(aA _ _ _ _ aj).trans h.c8,(aA _ _ _ _ aj).trans h.c9,(aA _ _ _ _ aj).trans h.uh,cB _ _ _ _ h.w9,(aA _ _ _ _ aj).trans h.xO⟩
def Ry{o:Nat}{m:eU}(h:w_ l o m b a)(x:Nat):w_ (l.set (o+12) (iZ x)) o {m with state:=x} b a:=
 ⟨h.gr.set aj,(aA _ _ _ _ aj).trans h.c4,(aA _ _ _ _ aj).trans h.c5,(aA _ _ _ _ aj).trans h.c6,(aA _ _ _ _ aj).trans h.c7,(aA _ _ _ _ aj).trans h.c8,(aA _ _ _ _ aj).trans h.c9,(aA _ _ _ _ aj).trans h.uh,(aA _ _ _ _ aj).trans h.w9,cB _ _ _ _ h.xO⟩
def BG.loc{oZ:Own}{t:Nat}{w:Wq}{l:bJ}{o:Nat}{m:eU}(h:BG oZ t w l o m):BG (loc oZ w.heap.size) t w l o m:=by obtain⟨e,d,a,b,c⟩:=h;exact⟨e,d,a,b.loc,c.loc⟩
structure SdL (l:bJ) (M:av) (bw bl bi:Nat) (vc:WA):Prop where
 len:l.length=240
 c0:l[0]?=some (iZ M.bF)
 c1:l[1]?=some (iZ M.aO)
 c2:l[2]?=some (iZ M.bn)
 c3:l[3]?=some (uZ M.aW)
 qU:l[220]?=some (uZ M.aT)
 gr:wU l 221 M.gr
 sP:l[225]?=some (iZ 8)
 sQ:l[226]?=some (uZ M.aP.fl)
 pQ:l[227]?=some vc
 nH:l[228]?=some (.bool M.bI)
 n_:l[229]?=some (uZ M.next)
 oM:l[230]?=some (.map (some bw))
 rV:l[231]?=some (.map (some bl))
 nJ:l[232]?=some (uZ M.named)
 jd:l[233]?=some M.qv
 qA:l[234]?=some (uZ M.least)
 pR:l[235]?=some M.iv
 qV:l[236]?=some (uZ M.bW)
 rW:l[237]?=some (.map (some bi))
 oO:l[238]?=some (iZ M.kW)
 tY:l[239]?=some (.bool M.parted)
def SdL.dW{l l':bJ}{M:av}{bw bl bi:Nat}{a:WA}(h:SdL l M bw bl bi a){o n:Nat}(w:kR l l' o n)(b:4<=o)(c:o+n<=220):SdL l' M bw bl bi a:=by have e:∀j,j<4\/220<=j->l'[j]?=l[j]?:=fun j d=>w.2 j aj;exact⟨w.1.trans h.len,by rw[e _ aj,h.c0],by rw[e _ aj,h.c1],by rw[e _ aj,h.c2],by rw[e _ aj,h.c3],by rw[e _ aj,h.qU],h.gr.dW w aj,by rw[e _ aj,h.sP],by rw[e _ aj,h.sQ],by rw[e _ aj,h.pQ],by rw[e _ aj,h.nH],by rw[e _ aj,h.n_],by rw[e _ aj,h.oM],by rw[e _ aj,h.rV],by rw[e _ aj,h.nJ],by rw[e _ aj,h.jd],by rw[e _ aj,h.qA],by rw[e _ aj,h.pR],by rw[e _ aj,h.qV],by rw[e _ aj,h.rW],by rw[e _ aj,h.oO],by rw[e _ aj,h.tY]⟩
def T0(s:Nat):List Nat:=(s+53)::(s+54)::(s+55)::nV s 45
def fC:x∈T0 s↔(s+53<=x/\x<=s+55)\/(s<=x/\x<s+45):=by
 unfold T0;rw[qme,qme,qme,qot];constructor
 ·rintro(h|h|h|⟨i,h,rfl⟩);·exact .inl aj
  ·exact .inl aj
  ·exact .inl aj
  ·exact .inr aj
 ·rintro(h|⟨c,d⟩)
  ·by_cases a:x=s+53;·exact .inl a
   ·by_cases b:x=s+54;·exact .inr (.inl b)
    ·exact .inr (.inr (.inl aj))
  ·exact .inr (.inr (.inr ⟨x-s,aj,aj⟩))
def kY:List Fr->bJ
 |[]=>[]
 |f::t=>fJ f nZ++kY t
def Eu(f:Nat->Option V3×Nat)(x:Nat×ru):jQ:=(x.1,(f x.1).1,x.2.cZ.length,(f x.1).2,x.2.aW)
def um(oZ:Own)(t a:Nat)(w:Wq)(b:Nat)(l:List (Nat×ru)):Prop:=
 ∃f,oZ b=t/\mD w b (l.map (Eu f))/\∀x∈l,GT oZ a 65 10 w (.slice (f x.1).1 x.2.cZ.length (f x.1).2) x.2.cZ.length (kY x.2.cZ)
def um.kp{oZ aQ:Own}{t c:Nat}{w w':Wq}{b:Nat}{l:List (Nat×ru)}{T:List Nat}(h:um oZ t c w b l)(K:Kp T oZ aQ w w')(i:t∉T)(g:c∉T):um aQ t c w' b l:=by obtain⟨f,d,a,e⟩:=h;exact⟨f,by rw[K.ext b a.lt,d],a.kept (K.bY b a.lt (by rw[d];exact i)),fun x j=>(e x j).kp K g⟩
def Rz:List (Nat×ByteArray)->bJ
 |[]=>[]
 |m::t=>[uZ m.1,.string m.2]++Rz t
structure QuM (oZ:Own) (s:Nat) (w:Wq) (bi:Nat) (M:av):Prop where
 q:GT oZ (s+53) 65 10 w M.qv M.aK.length (kY M.aK)
 m:GT oZ (s+54) 118 2 w M.iv M.eP.length (Rz M.eP)
 o:oZ bi=s+55
 t:xM w bi M.taken
def QuM.kp{oZ aQ:Own}{s:Nat}{w w':Wq}{bi:Nat}{M:av}{T:List Nat}(h:QuM oZ s w bi M)(K:Kp T oZ aQ w w')(a:s+53∉T)(b:s+54∉T)(c:s+55∉T):QuM aQ s w' bi M:=
 ⟨h.q.kp K a,h.m.kp K b,by rw[K.ext bi h.t.lt,h.o],h.t.kept (K.bY bi h.t.lt (by rw[h.o];exact c))⟩
def QuM.eq(h:QuM oZ s w bi M)(e:(M'.qv,M'.aK,M'.iv,M'.eP,M'.taken)=(M.qv,M.aK,M.iv,M.eP,M.taken)):QuM oZ s w bi M':=by simp only[qob]at e;obtain⟨a,b,c,d,f⟩:=e;exact⟨by rw[a,b];exact h.q,by rw[c,d];exact h.m,h.o,by rw[f];exact h.t⟩
structure fH (oZ:Own) (s:Nat) (w:Wq) (S:Nat) (l:bJ) (M:av) (bw bl bi:Nat) (vc:WA):Prop where
 ow:oZ S=s
 s0:0<s
 bY:aL w S TS l
 cells:SdL l M bw bl bi vc
 out:∀k,k<8->Bo oZ (s+1+5*k) w S l (4+27*k) (M.out k)
 cK:∀k,k<8->BG oZ (s+4+5*k) w l (18+27*k) (M.cK k)
 row:nG oZ (s+41) w S vc M.aP.rs
 Ay:um oZ (s+42) (s+44) w bw M.bf
 b_:um oZ (s+43) (s+44) w bl M.b_
 qu:QuM oZ s w bi M
 lo:M.outs.length=8
 li:M.ins.length=8
def fH.kp{oZ aQ:Own}{s:Nat}{w w':Wq}{S:Nat}{l:bJ}{M:av}{bw bl bi:Nat}{c:WA}{T:List Nat}(h:fH oZ s w S l M bw bl bi c)(K:Kp T oZ aQ w w')(a:∀x,s<=x->x<s+45\/s+53<=x/\x<=s+55->x∉T):fH aQ s w' S l M bw bl bi c:=
 ⟨by rw[K.ext S h.bY.lt,h.ow],h.s0,bU h.bY K (by rw[h.ow];exact a _ aj aj),h.cells,fun k b=>(h.out k b).kp K (a _ aj aj) (a _ aj aj) (a _ aj aj) (kR.refl l (4+27*k+14) 0) aj,fun k b=>(h.cK k b).kp K (a _ aj aj) (a _ aj aj) (kR.refl l (18+27*k+13) 0) aj,h.row.kp K (a _ aj aj),h.Ay.kp K (a _ aj aj) (a _ aj aj),h.b_.kp K (a _ aj aj) (a _ aj aj),h.qu.kp K (a _ aj aj) (a _ aj aj) (a _ aj aj),h.lo,h.li⟩
def fH.below{oZ:Own}{s:Nat}{w w':Wq}{S:Nat}{l:bJ}{M:av}{bw bl bi:Nat}{a:WA}(h:fH oZ s w S l M bw bl bi a)(b:bE w w'):fH oZ s w' S l M bw bl bi a:=h.kp (Kp.below (T:=[]) b) aM
def iE(s:Nat)(oZ:Own)(w:Wq)(S:Nat)(bw bl bi:Nat)(M':av)(w':Wq):Prop:=∃a c b,fH a s w' S c M' bw bl bi b/\Kp (T0 s) oZ a w w'
def iE.refl(h:fH oZ s w S l M bw bl bi b)(a:bE w w'):iE s oZ w S bw bl bi M w':=⟨oZ,l,b,h.below a,Kp.below a⟩
def fH.dD{oZ:Own}{s:Nat}{w w':Wq}{S:Nat}{l:bJ}{M:av}{bw bl bi:Nat}{i:WA}(h:fH oZ s w S l M bw bl bi i)(k:Nat)(r:k<8)(m:Ot)(q:jU s (s+1+5*k) oZ S (4+27*k) l w m w'):iE s oZ w S bw bl bi (M.dD k m) w':=by
 obtain⟨n,u,K,o,g,p⟩:=q;have a:∀x,x∈[s,s+1+5*k,s+1+5*k+1,s+1+5*k+1+1]->x=s\/(s+1+5*k<=x/\x<=s+3+5*k):=fun x f=>by simp only[qme,qoc,or_false]at f;omega
 have t:∀j,(M.dD k m).out j=if j=k then m else M.out j:=fun j=>by
  rw[kD,h.lo];by_cases b:j=k;·rw[bM ⟨b,r⟩,bM b]
  ·rw[aV (fun x=>b x.1),aV b]
 refine⟨n,u,i,⟨by rw[K.ext S h.bY.lt,h.ow],h.s0,o,?_,fun j b=>?_,fun j b=>?_,h.row.kp K (fun e=>bR (a _ e)),h.Ay.kp K (fun e=>bR (a _ e)) (fun e=>bR (a _ e)),h.b_.kp K (fun e=>bR (a _ e)) (fun e=>bR (a _ e)),(h.qu.kp K (fun e=>bR (a _ e)) (fun e=>bR (a _ e)) (fun e=>bR (a _ e))).eq rfl,(jB _ _ _).trans h.lo,h.li⟩,K.mono fun x f=>fC.2 (bR (a x f))⟩;·have c:=h.cells.dW g aj aj;exact⟨c.len,c.c0,c.c1,c.c2,c.c3,c.qU,c.gr,c.sP,c.sQ,c.pQ,c.nH,c.n_,c.oM,c.rV,c.nJ,c.jd,c.qA,c.pR,c.qV,c.rW,c.oO,c.tY⟩
 ·rw[t];by_cases d:j=k;·subst d;rw[bM rfl];exact p
  ·rw[aV d];exact(h.out j b).kp K (fun e=>bR (a _ e)) (fun e=>bR (a _ e)) (fun e=>bR (a _ e)) g aj
 ·exact(h.cK j b).kp K (fun e=>bR (a _ e)) (fun e=>bR (a _ e)) g aj
def fH.fT{oZ:Own}{s:Nat}{w w':Wq}{S:Nat}{l:bJ}{M:av}{bw bl bi:Nat}{i:WA}(h:fH oZ s w S l M bw bl bi i)(k:Nat)(r:k<8)(m:eU)(q:FB s (s+4+5*k) oZ S (18+27*k) l w m w'):iE s oZ w S bw bl bi (M.fT k m) w':=by
 obtain⟨n,u,K,o,g,p⟩:=q;have a:∀x,x∈[s,s+4+5*k,s+4+5*k+1]->x=s\/(s+4+5*k<=x/\x<=s+5+5*k):=fun x f=>by simp only[qme,qoc,or_false]at f;omega
 have t:∀j,(M.fT k m).cK j=if j=k then m else M.cK j:=fun j=>by
  rw[jT,h.li];by_cases b:j=k;·rw[bM ⟨b,r⟩,bM b]
  ·rw[aV (fun x=>b x.1),aV b]
 refine⟨n,u,i,⟨by rw[K.ext S h.bY.lt,h.ow],h.s0,o,?_,fun j b=>?_,fun j b=>?_,h.row.kp K (fun e=>bR (a _ e)),h.Ay.kp K (fun e=>bR (a _ e)) (fun e=>bR (a _ e)),h.b_.kp K (fun e=>bR (a _ e)) (fun e=>bR (a _ e)),(h.qu.kp K (fun e=>bR (a _ e)) (fun e=>bR (a _ e)) (fun e=>bR (a _ e))).eq rfl,h.lo,(jB _ _ _).trans h.li⟩,K.mono fun x f=>fC.2 (bR (a x f))⟩;·have c:=h.cells.dW g aj aj;exact⟨c.len,c.c0,c.c1,c.c2,c.c3,c.qU,c.gr,c.sP,c.sQ,c.pQ,c.nH,c.n_,c.oM,c.rV,c.nJ,c.jd,c.qA,c.pR,c.qV,c.rW,c.oO,c.tY⟩
 ·exact(h.out j b).kp K (fun e=>bR (a _ e)) (fun e=>bR (a _ e)) (fun e=>bR (a _ e)) g aj
 ·rw[t];by_cases d:j=k;·subst d;rw[bM rfl];exact p
  ·rw[aV d];exact(h.cK j b).kp K (fun e=>bR (a _ e)) (fun e=>bR (a _ e)) g aj
def fH.cell{l':bJ}{d:WA}(h:fH oZ s w S l M bw bl bi d)(o n:Nat)(y:o+n<=4\/220<=o)(q:f_ w w' S l l' o n)(v:SdL l' M' bw bl bi d)(f:M'.outs=M.outs)(g:M'.ins=M.ins)(i:M'.aP=M.aP)(k:M'.bf=M.bf)(m:M'.b_=M.b_)(p:M'.qv=M.qv)(r:(M'.aK,M'.iv,M'.eP,M'.taken)=(M.aK,M.iv,M.eP,M.taken)):iE s oZ w S bw bl bi M' w':=by
 have K:Kp [s] oZ oZ w w':=q.kp h.ow aM;have a:∀x,x∈[s]->x=s:=fun x c=>by simpa using c
 have u:∀j,M'.out j=M.out j:=fun j=>by unfold av.out;rw[f]
 have t:∀j,M'.cK j=M.cK j:=fun j=>by unfold av.cK;rw[g]
 refine⟨oZ,l',d,⟨h.ow,h.s0,q.bY,v,fun j b=>?_,fun j b=>?_,?_,?_,?_,?_,by rw[f];exact h.lo,by rw[g];exact h.li⟩,K.mono fun x c=>fC.2 (bR (a x c))⟩;·rw[u];exact(h.out j b).kp K (fun e=>bR (a _ e)) (fun e=>bR (a _ e)) (fun e=>bR (a _ e)) q.dW aj
 ·rw[t];exact(h.cK j b).kp K (fun e=>bR (a _ e)) (fun e=>bR (a _ e)) q.dW aj
 ·rw[i];exact h.row.kp K (fun e=>bR (a _ e))
 ·rw[k];exact h.Ay.kp K (fun e=>bR (a _ e)) (fun e=>bR (a _ e))
 ·rw[m];exact h.b_.kp K (fun e=>bR (a _ e)) (fun e=>bR (a _ e))
 ·exact(h.qu.kp K (fun e=>bR (a _ e)) (fun e=>bR (a _ e)) (fun e=>bR (a _ e))).eq (by rw[p,r])
def RO{α:Type}(d:α)(f:Nat->α->Nat)(l:List α)(k:Nat)(a:k<l.length)(s:Nat):(l.take (k+1)).foldl f s=f ((l.take k).foldl f s) (l.getD k d):=by rw[qnh,qm3 a,qnt,qly,qm3 a];rfl
def PN{L:WA}(w:Wq)(h:fH oZ s w S l M bw bl bi L)(z:∀k,(M.cK k).aZ<=dH):qH 252 #[aJ S 0] w (uZ M.aZ) fun e=>e=w:=by
 obtain⟨F,hF⟩:=bT (fun k=>(M.ins.take k).foldl (fun s i=>min (s+i.aZ) dH) 0:Nat->Nat);have v:F 0=0:=by rw[hF];rfl
 have g:∀k,k<8->F (k+1)=min (F k+(M.cK k).aZ) dH:=fun k b=>by rw[hF];exact RO zF _ M.ins k (by rw[h.li];exact b) 0
 have x:F 8=M.aZ:=by rw[hF];show(M.ins.take 8).foldl _ 0=_;rw[qmo (by rw[h.li];omega)];rfl
 have c:∀k,k<=8->F k<=dH:=fun k b=>by
  cases k with
  |zero=>rw[v];exact qm2 _
  |succ k=>rw[g k aj];exact qo9 _ _
 rw[<-x];have C:Hid (∀k,k<8->qH 310 #[(aJ S (4+k*27+14))] w (uZ ((M.cK k).aZ:Int)) fun e=>e=w):=fun k b=>by obtain⟨N,I,E,_⟩:=h.cK k b;have:=GZ S (18+27*k) (M.cK k) N I w l h.bY E;rw[show 18+27*k=4+k*27+14 by omega]at this;exact this
 have D:=aF (dw g (dw c z));clear hF g c z x h;go_enter func252,ntmps252;go_wp2;go_loopw [3,5] (fun K j wr=>∃k:Nat,k<=8/\K=(uZ (F k:Int))/\j=(iZ k)/\wr=w) (fun _ j _=>8-(eT j).toNat);case atStart=>exact⟨0,aj,by rw[v];rfl,rfl,rfl⟩
 case round=>
  obtain⟨k,b,rfl,rfl,rfl⟩:=hrel;by_cases d:k<8
  ·obtain⟨q,r,u⟩:=D.out;have G:=C.out k d;have y:(k:Int)<8:=aj;have n:=r k b;have o:=u k;have p:=q k d;obtain⟨J,f,a⟩:=min2 (F k+(M.cK k).aZ) dH;rw[<-a]at p;have P:F k+(M.cK k).aZ<18446744073709551616:=by unfold dH at n o;omega
   generalize F k=A at *
   generalize (M.cK k).aZ=B at *
   have O:=aF a;unfold dH at f n o;have H:∀m t w,(Builtin.min_ m t #[(uZ ((A:Int)+(B:Int))),uZ 4611686018427387903]).run prog w=.ok (uZ J) w:=fun m t w=>by have:=f m t w;rw[qpy]at this;exact this
   clear q r u a f;go_wp2_with (first|(go_at_call 310;refine bH G ?_;rintro e rfl)|go_in);go_roundw;case rel=>exact⟨k+1,aj,by rw[p],aM,trivial⟩
   case measure=>simp[eT];omega
  ·obtain rfl:k=8:=aj;go_wp2;go_ret;exact⟨rfl,rfl⟩
def VN{α:Type}(d:α)(f:α->Nat)(l:List α)(k:Nat)(a:k<l.length):((l.take (k+1)).map f).sum=((l.take k).map f).sum+f (l.getD k d):=by rw[qnh,qm3 a,qnb,mR,qly,qm3 a];simp
def J_{α:Type}(f:α->Nat)(l:List α)(k:Nat):((l.take k).map f).sum<=(l.map f).sum:=by
 conv=>rhs;rw[<-qq9 k l]
 rw[qnb,mR];omega
def FI{B:WA}(w:Wq)(h:fH oZ s w S l M bw bl bi B)(g:M.tu<=M.aT)(f:M.aT<=dH):qH 265 #[aJ S 0] w (uZ M.aR) fun d=>d=w:=by
 obtain⟨F,hF⟩:=bT (fun k=>M.aT-((M.outs.take k).map Ot.dB).sum:Nat->Nat);have n:F 0=M.aT:=by rw[hF];rfl
 have q:∀k,k<8->F k=F (k+1)+(M.out k).dB:=fun k c=>by rw[hF];have e:=VN Aj Ot.dB M.outs k (by rw[h.lo];exact c);have G:=J_ Ot.dB M.outs (k+1);have H:(M.outs.map Ot.dB).sum=M.tu:=rfl;have I:(M.outs.getD k Aj).dB=(M.out k).dB:=rfl;show M.aT-((M.outs.take k).map Ot.dB).sum=M.aT-((M.outs.take (k+1)).map Ot.dB).sum+_;omega
 have o:F 8=M.aR:=by rw[hF];show M.aT-((M.outs.take 8).map Ot.dB).sum=_;rw[qmo (by rw[h.lo];omega)];rfl
 have a:∀k,F k<=dH:=fun k=>by rw[hF];show M.aT-_<=dH;omega
 rw[<-o];have K:w.cell? (ay S 220)=some (uZ (F 0:Int)):=by rw[n];exact(h.bY.cell _).trans h.cells.qU
 have t:Hid (∀k,k<8->qH 315 #[(aJ S (4+k*27))] w (uZ ((M.out k).dB:Int)) fun d=>d=w):=fun k c=>by obtain⟨N,L,J,x,_⟩:=h.out k c;have:=Zz S (4+27*k) (M.out k).dB w ((h.bY.cell _).trans x.c7);rw[show 4+27*k=4+k*27 by omega]at this;exact this
 have j:=aF (dw q a);clear hF q a o h n g f;go_enter func265,ntmps265;go_wp2;go_loopw [3,9] (fun z i wr=>∃k:Nat,k<=8/\z=(uZ (F k:Int))/\i=(iZ k)/\wr=w) (fun _ i _=>8-(eT i).toNat);case atStart=>exact⟨0,aj,rfl,rfl,rfl⟩
 case round=>
  obtain⟨k,c,rfl,rfl,rfl⟩:=hrel;by_cases b:k<8
  ·have y:=t.out k b;have p:(k:Int)<8:=aj;have u:=j.out.2 k;have v:=j.out.1 k b;unfold dH at u;have D:0<=(F k:Int)-((M.out k).dB:Int):=aj;have E:(F k:Int)-((M.out k).dB:Int)<18446744073709551616:=aj;have m:(F k:Int)-((M.out k).dB:Int)=(F (k+1):Int):=aj;have r:=aF m;clear v m;generalize F k=A at *
   generalize (M.out k).dB=C at *
   go_wp2_with (first|(go_at_call 315;refine bH y ?_;rintro d rfl)|go_in);go_roundw;case rel=>exact⟨k+1,aj,by rw[r.out],aM,trivial⟩
   case measure=>simp[eT];omega
  ·obtain rfl:k=8:=aj;go_wp2;go_ret;exact⟨rfl,rfl⟩
def VO{vc:WA}(f:Fr)(r:Option V3)(t u:Nat)(j:Nat)(G:f.aG=(j:Int))(w:Wq)(h:fH oZ s w S l M bw bl bi vc)(C:∀k,(M.cK k).fF<=1000000)(U:bL f<=1000000):qH 297 #[aJ S 0,eF f (.slice r t u)] w (uZ (M.uH j (bL f):Int)) fun v=>bE w v:=by
 obtain⟨F,hF⟩:=bT (fun k=>((List.range k).map fun i=>max (M.cK i).fF (if i=j then bL f else 0)).sum:Nat->Nat);have Q:F 0=0:=by rw[hF];rfl
 have I:∀k,F (k+1)=F k+max (M.cK k).fF (if k=j then bL f else 0):=fun k=>by rw[hF];show((List.range (k+1)).map _).sum=_;rw[List.range_succ,qnb,mR];simp
 have R:F 8=M.uH j (bL f):=by rw[hF];rfl
 have p:∀k,F k<=k*1000000:=fun k=>by
  induction k with
  |zero=>rw[Q];omega
  |succ k ih=>
   rw[I];have:=C k;have:max (M.cK k).fF (if k=j then bL f else 0)<=1000000:=by split<;>omega
   omega
 rw[<-R];obtain⟨x,c⟩:=bT (w.alloc (.cells (fJ f (.slice r t u)).toArray 65));have g:bE w x:=by rw[c];exact(qlw _ w).alloc (qj _) _
 have d:aL x w.heap.size 65 (fJ f (.slice r t u)):=by rw[c];exact aL.new w 65 _
 have B:=aF d;have m:=aF g;have Y:Hid (∀k,k<8->∀W z,bE x W->qH 339 #[(aJ S (4+k*27+14)),(uZ ((z:Nat):Int))] W (uZ ((max (M.cK k).fF z:Nat):Int)) fun v=>v=W):=fun k V W z D=>by have P:=(h.below g).below D;obtain⟨vh,jR,hL,_⟩:=P.cK k V;have:=Av S (18+27*k) (M.cK k) vh jR W l P.bY hL z;rw[show 18+27*k=4+k*27+14 by omega]at this;exact this
 have Z:Hid (∀W,qH 318 #[.agg #[iZ f.aD,iZ j,uZ f.aC,uZ f.aN,uZ f.aT,.bool f.bG,uZ f.id,uZ f.aH,.string f.data,.slice r t u]] W (uZ (bL f:Int)) fun v=>bE W v):=fun W=>by have:=lM f (.slice r t u) W (by unfold bL at U;unfold dH;omega) (by unfold bL at U;omega);unfold eF at this;rw[G]at this;exact this
 have K:=aF (dw I (dw p C));clear hF I p R h C;unfold eF;rw[G];unfold fJ at c B d;rw[G]at c B d;generalize bL f=E at *
 clear g d;go_enter func297,ntmps297;go_wp2;rw[<-c];go_loopw [5,8] (fun s5 J wr=>∃k:Nat,k<=8/\s5=(uZ (F k:Int))/\J=(iZ k)/\Hid (bE x wr)) (fun _ J _=>8-(eT J).toNat);case atStart=>exact⟨0,aj,by rw[Q];rfl,rfl,qlw _ _⟩
 case round=>
  obtain⟨k,V,rfl,rfl,e⟩:=hrel;by_cases H:k<8
  ·have X:(k:Int)<8:=aj;obtain⟨L,N,O⟩:=K.out;have b1:=N k;have b2:=O k;have y:=L k;have b:=eY e.out B.out;have x0:=b.cell 0;have x1:=b.cell 1;have x2:=b.cell 2;have x3:=b.cell 3;have x4:=b.cell 4;have x5:=b.cell 5;have x6:=b.cell 6;have x7:=b.cell 7;have x8:=b.cell 8;have x9:=b.cell 9;simp only[qml,qma]at x0 x1 x2 x3 x4 x5 x6 x7 x8 x9;have q:max (M.cK k).fF (if k=j then E else 0)<=1000000:=by split<;>omega
   have T:=Y.out k H;clear L N O b1 b2 b;have b4:F k<=8000000:=bR (K.out.2.1 k);by_cases a:k=j
   ·rw[bM a]at y q;have e1:((k:Int)==(j:Int))=true:=by rw[a];simp
    have HK:=aF a;clear a;generalize (M.cK k).fF=Hh at *
    generalize F k=A at *
    go_wp2_with (first|(go_at_call 318;refine bH (Z.out wr) ?_;rintro w2 n)|(go_at_call 339;refine bH (T w2 E (e.out.trans (n.mono e.out.size))) ?_;rintro w3 rfl)|go_in);go_roundw;case rel=>exact⟨k+1,aj,by rw[y,qpy],aM,e.out.trans (n.mono e.out.size)⟩
    case measure=>simp[eT];omega
   ·rw[aV a]at y q;have e1:((k:Int)==(j:Int))=false:=by rw[beq_eq_false_iff_ne];omega
    have HK:=aF a;clear a;generalize (M.cK k).fF=Hh at *
    generalize F k=A at *
    have o:=T wr 0 e.out;rw[show(((0:Nat)):Int)=0 from rfl]at o;go_wp2_with (first|(go_at_call 339;refine bH o ?_;rintro w3 rfl)|go_in);go_roundw;case rel=>exact⟨k+1,aj,by rw[y,qpy,Nat.max_zero],aM,e.out⟩
    case measure=>simp[eT];omega
  ·obtain rfl:k=8:=aj;go_wp2;go_ret;exact⟨rfl,m.out.trans (e.out.mono m.out.size)⟩
def oH{t e:Vg}{z:WA}{k aB:Nat}(E:GK t e z k aB)(h0:0<k){g:Nat}(h:GT oZ g e k w v n l)(m:Nat)(hm:0<m)(gT:n+m<=1000000000):∃N x B,(∀r,(kg #[t,3] r #[v,iZ m]).run prog w=.ok N x)/\GT B g e k x N (n+m) (l++(eB z.cells m).toList)/\Kp [g] oZ B w x:=by
 obtain⟨i,X,hz,Z,Q⟩:=info_parts E.hi;have M:prog.underlying 3=some (.int .i64):=bO;have F:(n+m)*aB<=140737488355328:=qlz (Nat.mul_le_mul gT E.hb) gP;have h8:m*aB<=(n+m)*aB:=qpo _ aj;have S:=h.len;have hk:(n+m)*k=n*k+m*k:=qpf _ _ _;have V:=E.hz m;have grow:∀base c (a:bJ),a=l->c<n+m->(base=none/\a=[]\/∃b:V3,base=some b/\a.length=n*k/\∀j v,a[j]?=some v->w.cell? (b.add j)=some v)->(∀v∈a,v.oneCell'=true)->∃N x B,(∀r,(kg #[t,3] r #[.slice base n c,iZ m]).run prog w=.ok N x)/\GT B g e k x N (n+m) (l++(eB z.cells m).toList)/\Kp [g] oZ B w x:=by
  intro base c a G A J K;have hO:(mK i.size n (.slice base n c)).run prog w.drew=.ok a.toArray w.drew:=by
   rcases J with⟨rfl,rfl⟩|⟨b,rfl,hl,hc⟩;·exact run_firstCells_none w.drew i.size n n c
   ·rw[Z];exact run_firstCells_some w.drew k n b n c a hl hc
  have p:=fun r=>Lib.run_append_grow_zeros (P:=prog) w t 3 r e i z .i64 .i64 E.ht M X hz base n c a hO m hm aj A aj (by rw[Q];omega) (by rw[Q];exact growslice_fits A F);have O:=grownCap_ge w (n+m) c e;have q:=grownCap_le_maxLen w (n+m) c e (by unfold maxLen;omega);unfold maxLen at q;have R:a.length=n*k:=by rw[G,S]
  have D:(a.toArray++eB z.cells m++eB z.cells (grownCap w (n+m) c e-(n+m)))=(a++(eB z.cells m).toList++(eB z.cells (grownCap w (n+m) c e-(n+m))).toList).toArray:=by apply qox;simp
  rw[D]at p;refine⟨_,_,xq oZ g w.heap.size (w.heap.size+1),p,.inr ⟨w.heap.size,_,_,rfl,xu _ _ _ _ _ (qj _) aj,aL.new w e _,?_,O,q,by rw[qm0];omega,?_,?_⟩,?_⟩
  ·rw[qm0,qm0,E.hz,E.hz,R];have:(grownCap w (n+m) c e-(n+m))*k+(n+m)*k=grownCap w (n+m) c e*k:=by rw[<-qpf];congr 1;omega
   omega
  ·rw[qnz (by rw[qm0];omega),qmo (by rw[qm0];omega),G]
  ·intro u d;rcases qm7.1 d with d|d
   ·rcases qm7.1 d with d|d;·exact K u d
    ·exact E.h1 _ u d
   ·exact E.h1 _ u d
  ·have f:bE w (w.drew.alloc (.cells (a++(eB z.cells m).toList++(eB z.cells (grownCap w (n+m) c e-(n+m))).toList).toArray e)):=(qlw _ w).drew.alloc (qj _) _;exact⟨f.os,f.tape,f.output,f.size,fun b s _=>f.block b s,fun b s=>sO _ _ _ _ _ s⟩
 rcases h with⟨rfl,rfl,rfl⟩|⟨b,cap,a,rfl,ho,hB,h2,h3,h4,h5,h6,h7⟩;·exact grow none 0 [] rfl aj (.inl ⟨rfl,rfl⟩) (fun v hv=>by simp at hv)
 ·by_cases A:n+m<=cap
  ·have W:(n+m)*k<=cap*k:=qpo _ A;have L:=fZ (P:=prog) (w:=w) (o:=n*k) hB (eB z.cells m).toList aj (E.h1 _);have p:∀r,(kg #[t,3] r #[dh b n cap,iZ m]).run prog w=.ok (dh b (n+m) cap) (put w b (aU a (n*k) (eB z.cells m).toList)):=fun r=>by
    have hw:IntKind.i64.wrap (m:Int)=m:=by rw[qnf];omega
    have I:¬((m:Int)<0):=aj;have C:¬(281474976710656<(m:Int)*(i.bytes:Int)):=by rw[Q,<-Int.natCast_mul];omega
    have T:¬(m*i.size=0):=Nat.mul_ne_zero aj aj;rw[<-Z]at L ⊢;simp[kg,run_underlying E.ht,run_underlying M,sizeOf,typeInfo,zeroValue,X,hz,asInt,asIntOf,hw,A,I,T,C,qmb,L]
   have U:=iI a (eB z.cells m).toList (n*k) aj;refine⟨_,_,oZ,p,.inr ⟨b,cap,_,rfl,ho,hB.put _,?_,A,h4,by rw[qm0];omega,?_,dM h7 (E.h1 _)⟩,?_⟩;·rw[bV _ _ _ aj];exact h2
   ·rw[hk,<-V,U,h6]
   ·have H:=dZ w b (aU a (n*k) (eB z.cells m).toList);exact⟨H.os,H.tape,H.output,H.size,fun j y Y=>H.block j y (fun e=>by simp at e;rw[e,ho]at Y;simp at Y),fun _ _=>rfl⟩
  ·exact grow (some (ay b 0)) cap l rfl aj (.inr ⟨_,rfl,h5,fun j u y=>by
    rw[qmb,qm5,hB.cell];rw[<-h6,qm6]at y;split at y;·exact y
    ·cases y⟩) (fun u d=>h7 u (by rw[<-h6]at d;exact qn2 d))
def qe7(m:Nat):(eB (fB .u8 0).cells m).toList=bX (oG m 0):=by
 apply qpx;·rw[u_,dN,qpq]
 ·intro i a b;have e:i % 1=0:=aj;simp[eB,oN,bX,e]
def qe8(m:Nat):(eB (fA false).cells m).toList=iK (oG m false):=by
 apply qpx;·rw[Fy];simp[iK]
 ·intro i a b;have e:i % 1=0:=aj;simp[eB,oN,iK,e]
def CP(x:Option Fr):∃(g:Fr) (b:Bool),kF x=.tuple #[eF g nZ,.bool b]:=by
 cases x with
 |none=>exact⟨iL,false,rfl⟩
 |some g=>exact⟨g,true,rfl⟩
def G8(o:Nat)(m:eU){E D:WA}(k:Nat)(Q:k<8)(n:Int)(A:aL w S TS l)(h:w_ l o m E D)(x:Mr m):WB prog 257 #[aJ S o,iZ k,iZ n] w fun e j=>
   e=.returned (kF ((m.gr.next 6 k m.aZ n).map mI))/\∃c,f_ w j S l c o 4/\wU c o (((m.gr.next 6 k m.aZ n).map nI).getD m.gr):=by
 have u:=A.lt;obtain⟨W,p⟩:=bT (w.alloc (.cells lY.toArray 65));have C:aL W w.heap.size 65 lY:=by rw[p];exact aL.new w 65 _
 have a:bE w W:=by rw[p];exact(qlw _ w).alloc (qj _) _
 have d:=A.of_heap (a.block _ u);have z:Hid (∀q,qH 310 #[aJ S o] (W.drewN q) (uZ m.aZ) fun j=>j=W.drewN q):=fun q=>GZ S o m E D (W.drewN q) l d h;generalize B:m.gr.next 6 k m.aZ n=X at *
 obtain⟨g,b,i⟩:=CP (X.map mI);have s:Hid (∀q,qH 254 #[aJ S o,eF (lW 6 k 0) nZ,uZ m.aZ,iZ n] (W.drewN q) (.tuple #[eF g nZ,.bool b]) fun j=>aL j w.heap.size 65 lY/\Hid (∃c,f_ w j S l c o 4/\wU c o ((X.map nI).getD m.gr))):=fun q=>by
  refine bH (PD 6 (.inr rfl) k Q m.aZ n (W.drewN q) d h.gr x.gr.1 x.aZ) ?_;rintro j ⟨c,r,t⟩;rw[B]at *
  refine⟨by rw[i],r.other C aj,c,?_,t⟩;exact f_.after (W:=W.drewN q) ⟨a.os,a.tape,a.output,a.size,a.block⟩ r
 generalize m.aZ=V at *
 rw[i];clear i B C a d h x;unfold eF lW at s;unfold lY at p;go_enter func257,ntmps257;go_wp2_with fail;rw[<-p];clear p;go_region_with (first|(go_at_call 310;refine bH (z.out _) ?_;rintro y rfl)|(go_at_call 254;refine bH (s.out _) ?_;rintro y ⟨f,F⟩;obtain⟨Z,y1,y2,y3,y4,y5,y6,y7,y8,y9,yf⟩:=bC f;have U:=aF f;clear f s z));go_wp2_with fail;go_simp;rw[gq];have R:=fK U.out (iZ g.aD) (iZ g.aG) (uZ g.aC) (uZ g.aN) (uZ g.aT) (.bool g.bG) (uZ g.id) (uZ g.aH) (.string g.data) nZ;have T:=fM y w.heap.size (iZ g.aD) (iZ g.aG) (uZ g.aC) (uZ g.aN) (uZ g.aT) (.bool g.bG) (uZ g.id) (uZ g.aH) (.string g.data) nZ;generalize jI y w.heap.size (iZ g.aD) (iZ g.aG) (uZ g.aC) (uZ g.aN) (uZ g.aT) (.bool g.bG) (uZ g.id) (uZ g.aH) (.string g.data) nZ=Y at *
 obtain⟨G,H,I,J,K,L,M,N,O,P,_⟩:=bC R;obtain⟨c,r,t⟩:=F.out;exact Vl (v:=.tuple #[eF g nZ,.bool b]) (by simp[results,results257,go_sem,G,H,I,J,K,L,M,N,O,P,eF]) rfl ⟨rfl,c,r.tch T (qj _) aj,t⟩
def Kk(e:Ending):Prop:=∃v,e=.returned v
def zT:∀(k:Nat) (l:List Nat) (i n:Nat),(kX k l i n).length=l.length
 |0,_,_,_=>rfl
 |k+1,l,i,n=>by
  rw[mV];split;·rfl
  ·split;·rw[zT k,oq]
   ·rfl
def PZ(D:Nat->Src):∀(Q:List Nat) (n:Nat),(qC D Q).take (n*4)=qC D (Q.take n)
 |[],n=>by simp[qC]
 |u::Q,0=>by simp[qC]
 |u::Q,n+1=>by have e:(n+1)*4=(jP (D u)).length+n*4:=rR;show(jP (D u)++qC D Q).take ((n+1)*4)=jP (D u)++qC D (Q.take n);rw[e,List.take_length_add_append,PZ D Q n]
def Mt.take{oZ:Own}{t:Nat}{D:Nat->Src}{w:Wq}{g c:Nat}{Q:List Nat}(h:Mt oZ t D w g c Q)(n:Nat)(e:n<=Q.length):Mt oZ t D w g c (Q.take n):=by
 obtain⟨b,h⟩:=h;refine⟨b,?_⟩;rcases h with⟨a,_⟩|⟨g',cap,cs,a,h2,h3,h4,h5,h6,h7,h8,h9⟩;·cases a
 ·simp only[qn4,qng,qnw,true_and,and_true]at a;obtain⟨rfl,rfl⟩:=a;have d:(Q.take n).length=n:=rR;refine .inr ⟨g,c,cs,rfl,b,h3,h4,aj,h6,by rw[NI],?_,h9⟩;rw[d,<-PZ,<-h8,qpe];congr 1
  omega
def l6.kpt{R:Nat}{y':Wq}(h:l6 R y y')(a:oZ R∈T):Kp T oZ oZ y y':=⟨h.os,h.tape,h.output,by rw[h.size];exact qj _,fun b _ c=>h.block b (fun e=>c (by rw[e];exact a)),fun _ _=>rfl⟩
def Mt.kp{oZ aQ:Own}{t:Nat}{D:Nat->Src}{w w':Wq}{g c:Nat}{Q:List Nat}{T:List Nat}(h:Mt oZ t D w g c Q)(K:Kp T oZ aQ w w')(b:t∉T):Mt aQ t D w' g c Q:=by
 refine⟨?_,h.2.kp K b⟩;rcases h.2 with⟨a,_⟩|⟨g',cap,cs,a,_,h3,_⟩;·cases a
 ·cases a;rw[K.ext _ h3.lt,h.1]
def Z4(oZ:Own)(t:Nat)(D:Nat->Src)(w:Wq)(p g c:Nat)(Q:List Nat)(n:Nat)(l:Q.length=n+1)(I:n<=1000)(h:yH oZ t D w p g c Q):WB prog 376 #[aJ p 0] w fun e v=>Kk e/\yH oZ t D v p g c (Q.take n)/\Kp [t+1] oZ oZ w v:=by
 have J:w.cell? (ay p 0)=some (dh g (n+1) c):=by rw[h.pb.cell,<-l];rfl
 have A:=h.pb.frozen 0;have i:Q[n]?=some (Q.getD n 0):=by rw[qly,qm3 aj];rfl
 obtain⟨q0,m,q,u⟩:=pV D Q n _ i;have b:∀k x,(qC D Q)[k]?=some x->w.cell? (ay g k)=some x:=fun k x C=>by obtain⟨F,e,_,_,r,_⟩:=h.sr.2.cell k x C;cases e;exact r
 have L:=b _ _ q0;have M:=b _ _ m;have N:=b _ _ q;have O:=b _ _ u;generalize D (Q.getD n 0)=s at *
 have B:=h.pb.lt;have j:n+1<=c:=by obtain⟨a,E,e,H,_⟩:=h.sr.2.shape;cases e;omega
 have y:Hid (∀o,yH oZ t D ((w.setCell (ay p 0) (dh g n c)).alloc o) p g c (Q.take n)/\Kp [t+1] oZ oZ w ((w.setCell (ay p 0) (dh g n c)).alloc o)):=fun o=>by have z:Kp [t+1] oZ oZ w (w.setCell (ay p 0) (dh g n c)):=((l6.refl p w).set 0 _).kpt (by rw[h.op];simp);have d:=z.iA ((qlw _ _).alloc (qj _) o);have f:(Q.take n).length=n:=rR;refine⟨⟨h.op,?_,(h.sr.take n aj).kp d aM⟩,d⟩;rw[f];exact(h.pb.setCell 0 _).alloc o
 clear h l i q0 m q u b;have G:(n:Int)+1-1=(n:Int):=aj;have K:¬(p=w.heap.size):=aj;go_enter func376,ntmps376;go_wp2_with fail;go_ret;exact⟨⟨_,rfl⟩,y.out _⟩
def Kl(oZ:Own)(t:Nat)(D:Nat->Src)(H:∀u:Nat,(D u).u=(u:Int))(w:Wq)(p g c:Nat)(Q:List Nat)(n:Nat)(i:Q.length=n+1)(P:n<1000)(h:yH oZ t D w p g c Q):WB prog 209 #[.iface 250 (aJ p 0)] w fun e a=>Kk e/\yH oZ t D a p g c (mo Q)/\Kp [t,t+1] oZ oZ w a:=by
 have x:w.cell? (ay p 0)=some (dh g (n+1) c):=by rw[h.pb.cell,<-i];rfl
 have J:=qd5 p w _ _ _ x;have L:=NK p w _ _ _ x;have s:=aF (BK (some (ay g 0)) (n+1) c w);have G:Hid (qH 378 #[(dh g (n+1) c),iZ 0,iZ n] w (.tuple #[]) fun a=>yH oZ t D a p g c (sw Q 0 n)/\Kp [t] oZ oZ w a):=by have z:=CX oZ t D w g c Q 0 n aj aj h.sr;rw[i]at z;refine bH z ?_;rintro a ⟨f,d⟩;refine⟨rfl,⟨h.op,?_,f⟩,d⟩;rw[oq];exact bU h.pb d (by rw[h.op];simp)
 have m:Hid (∀y,yH oZ t D y p g c (sw Q 0 n)->WB prog 270 #[.iface 250 (aJ p 0),iZ 0,iZ n] y fun e a=>VZ e/\yH oZ t D a p g c (kX Q.length (sw Q 0 n) 0 n)/\Kp [t] oZ oZ y a):=fun y l=>RS oZ t D H y p g c (sw Q 0 n) 0 n (by rw[oq];omega) (by rw[oq];omega) (by rw[oq];omega) l Q.length aj;have E:Hid (∀(y:Wq) (Z:List Nat),Z.length=n+1->yH oZ t D y p g c Z->WB prog 376 #[aJ p 0] y fun e a=>Kk e/\yH oZ t D a p g c (Z.take n)/\Kp [t+1] oZ oZ y a):=fun y Z I l=>Z4 oZ t D y p g c Z n I aj l;have F:Hid (mo Q=(kX Q.length (sw Q 0 n) 0 n).take n):=by unfold Hid mo;rw[i];rfl
 have k:Hid (∀y,yH oZ t D y p g c (kX Q.length (sw Q 0 n) 0 n)->(kX Q.length (sw Q 0 n) 0 n).length=n+1):=fun y l=>by rw[zT,oq,i]
 have K:=qgf p;generalize kX Q.length (sw Q 0 n) 0 n=Z at *
 have O:(n:Int)+1-1=(n:Int):=aj;have N:=aF i;clear h i x;go_enter func209,ntmps209;go_wp2_with fail;refine bH s.out ?_;rintro y rfl;go_wp2_with fail;refine bH G.out ?_;rintro M ⟨f,d⟩;have o:=aF f;have q:=aF d;clear f d;go_wp2_with fail;refine(m.out M o.out).mono ?_;rintro e A ⟨⟨b,rfl⟩,f,d⟩;have j:=aF f;have r:=aF d;clear f d;go_wp2_with fail;refine(E.out A Z (k.out A j.out) j.out).mono ?_;rintro e B ⟨⟨v,rfl⟩,f,d⟩;have C:Hid (yH oZ t D B p g c (mo Q)/\Kp [t,t+1] oZ oZ y B):=by rw[F.out];exact⟨f,((q.out.mono aM).trans (r.out.mono aM)).trans (d.mono aM)⟩
 clear f d;go_wp2_with fail;go_ret;exact⟨⟨_,rfl⟩,C.out⟩
def NV{c a:Nat}{rs:bZ}(h:jA w (some (ay c a)) rs)(K:Kp T oZ aQ w w')(f:c<w.heap.size)(e:oZ c∉T):jA w' (some (ay c a)) rs:=fun j l=>by obtain⟨b,o,d,g,i,k⟩:=h j l;simp only[qng,qnw,and_true]at d;obtain⟨rfl,rfl⟩:=d;exact⟨c,a,rfl,cell_of g (K.bY c f e),cell_of i (K.bY c f e),k⟩
def RgM(oZ:Own)(t:Nat)(w:Wq)(v:WA)(rs:bZ):Prop:=
 (v=nZ/\rs=[])\/∃b a c,v=.slice (some (ay b a)) rs.length c/\rs.length<=c/\c<=9223372036854775807/\b<w.heap.size/\oZ b=t/\jA w (some (ay b a)) rs
def RgM.kp{t:Nat}{rs:bZ}(h:RgM oZ t w v rs)(K:Kp T oZ aQ w w')(k:t∉T):RgM aQ t w' v rs:=by
 rcases h with h|⟨e,b,c,f,g,i,a,d,j⟩;·exact .inl h
 ·exact .inr ⟨e,b,c,f,g,i,qm9 a K.size,by rw[K.ext e a,d],NV j K a (by rw[d];exact k)⟩
def AnM(oZ:Own)(s:Nat)(w:Wq)(a:Nat)(b:bZ):Prop:=oZ a=s+48/\∃v,aL w a 342 [v]/\RgM oZ (s+49) w v b
def AnM.kp{oZ aQ:Own}{s:Nat}{w w':Wq}{a:Nat}{d:bZ}{T:List Nat}(h:AnM oZ s w a d)(K:Kp T oZ aQ w w')(f:s+48∉T)(g:s+49∉T):AnM aQ s w' a d:=by obtain⟨b,v,c,e⟩:=h;exact⟨by rw[K.ext a c.lt,b],v,bU c K (by rw[b];exact f),e.kp K g⟩
def Env(oZ:Own)(s:Nat)(w:Wq)(S bw bl bi b:Nat)(M:av)(a:bZ):Prop:=∃l c,fH oZ s w S l M bw bl bi c/\AnM oZ s w b a
def Env.kp{oZ aQ:Own}{s:Nat}{w w':Wq}{S bw bl bi d:Nat}{M:av}{c:bZ}{T:List Nat}(h:Env oZ s w S bw bl bi d M c)(K:Kp T oZ aQ w w')(g:∀x,s<=x->x<s+45\/s+53<=x/\x<=s+55->x∉T)(e:s+48∉T)(f:s+49∉T):Env aQ s w' S bw bl bi d M c:=by obtain⟨l,i,a,b⟩:=h;exact⟨l,i,a.kp K g,b.kp K e f⟩
def Env.below{oZ:Own}{s:Nat}{w w':Wq}{S bw bl bi b:Nat}{M:av}{a:bZ}(h:Env oZ s w S bw bl bi b M a)(c:bE w w'):Env oZ s w' S bw bl bi b M a:=h.kp (Kp.below (T:=[]) c) aM aM aM
structure QF (f:Fr):Prop where
 kd:f.aD=7
 st:f.aG=0
 ok:lX f
 sn:snd f=true
 rs:f.ranges=[]
 ln:(aX f).length<=1000000
structure Wk (M:av):Prop where
 ob:∀k,(M.out k).aB.length<=2048
 oa:∀k,zK (M.out k).gK
 oc:∀k,zK (M.out k).aP
 nt:∀k,(M.out k).nt.bN=true->(M.out k).aB.length<=(M.out k).nt.aC/\(M.out k).nt.aC<=2048
 cK:∀k,Mr (M.cK k)
 ga:M.gr.ahead<=4096
 sp:M.tu<=M.aT
 lm:M.aT<=dH
 q:∀f∈M.aK,QF f
 ql:M.aK.length<=16
 wl:M.bf.length<100000
def Wk.dB{M:av}(h:Wk M)(d:M.outs.length=8)(k:Nat)(c:k<8):(M.out k).dB<=dH:=by
 have a:=h.sp;have b:=h.lm;have:(M.out k).dB<=M.tu:=by
  have:=Al (M.outs.map Ot.dB) k;have e:(M.outs.map Ot.dB).getD k 0=(M.out k).dB:=by unfold av.out;rw[qly,qly,qn8,qm3 aj];rfl
  rw[e]at this;exact this
 omega
def Tn(s:Nat):List Nat:=nV s 45++[s+48,s+53,s+54,s+55]
def Tb(s:Nat):List Nat:=(nV s 60).filter fun x=> !decide (x=s+47)&& !decide (x=s+49)
def uN:x∈Tn s↔(s<=x/\x<s+45)\/x=s+48\/s+53<=x/\x<=s+55:=by
 unfold Tn;rw[qm7,qot];simp only[qme,qoc,or_false];constructor
 ·rintro(⟨i,h,rfl⟩|h);·left;omega
  ·right;omega
 ·rintro(⟨a,b⟩|h);·exact .inl ⟨x-s,aj,aj⟩
  ·exact .inr aj
def jD:x∈Tb s↔(s<=x/\x<s+60)/\x≠s+47/\x≠s+49:=by
 unfold Tb;rw[qm4,qot];simp only[qmg,qok,decide_eq_false_iff_not];refine and_congr ⟨?_,?_⟩ Iff.rfl;·rintro⟨i,h,rfl⟩;omega
 ·rintro⟨a,b⟩;exact⟨x-s,aj,aj⟩
def qgp(s:Nat):∀x∈Tn s,x∈Tb s:=fun x a=>jD.2 (bR (uN.1 a))
structure R_ (oZ:Own) (s:Nat) (w:Wq) (x:FV):Prop where
 len:x.2.2.1=x.1.ranges.length
 cap:x.1.ranges.length<=x.2.2.2
 qO:jA w x.2.1 x.1.ranges
 bY:∀a,x.2.1=some a->a.block<w.heap.size/\oZ a.block=s+49/\a.spot=none
 nil:x.1.aD≠2->x.2=(none,0,0)
def R_.none(oZ:Own)(s:Nat)(w:Wq)(f:Fr)(h:f.ranges=[]):R_ oZ s w (f,.none,0,0):=⟨by rw[h];rfl,by rw[h];exact qj _,fun j b=>by rw[h]at b;exact absurd b (qmy _),(fun a c=>by cases c),fun _=>rfl⟩
def jE(oZ:Own)(s:Nat)(w:Wq)(S bw bl bi d:Nat)(M:av)(c:bZ)(r:Option (Fr×av×bZ))(e:Ending)(w':Wq):Prop:=
 ∃(x:FV) (b:Bool) (a:Own),e=.returned (.tuple #[eF x.1 (qx x),.bool b])/\b=r.isSome/\Kp (Tn s) oZ a w w'/\Env a s w' S bw bl bi d ((r.map fun y=>y.2.1).getD M) ((r.map fun y=>y.2.2).getD c)/\∀y,r=some y->x.1=y.1/\R_ a s w' x
def qJ(oZ:Own)(s:Nat)(w0:Wq)(S bw bl bi c:Nat)(n:Nat)(p k:Array WA)(d:av->bZ->Bool):Prop:=
 ∀b w M a,Kp (Tb s) oZ b w0 w->Env b s w S bw bl bi c M a->Wk M->WB prog n (p++k) w fun e f=>e=.returned (.bool (d M a))/\bE w f
def tK(oZ:Own)(s:Nat)(w0:Wq)(S bw bl bi c:Nat)(n:Nat)(p k:Array WA)(d:av->bZ->Bool)(nx:av->bZ->Int->Option (Fr×av×bZ)):Prop:=
 ∀b w M a (au:Int),Kp (Tb s) oZ b w0 w->Env b s w S bw bl bi c M a->Wk M->d M a=true-> -1000000<=au/\au<=1000000->WB prog n (p.push (iZ au)++k) w fun e f=>jE b s w S bw bl bi c M a (nx M a au) e f
def Az(oZ:Own)(s:Nat)(w0:Wq)(S bw bl bi c:Nat)(n:Nat)(p k:Array WA)(d:av->bZ->Bool)(nx:av->bZ->Int->Option (Fr×av×bZ)):Prop:=
 ∀b w M a (au:Int),Kp (Tb s) oZ b w0 w->Env b s w S bw bl bi c M a->Wk M->d M a=true->WB prog n (p.push (iZ au)++k) w fun e f=>jE b s w S bw bl bi c M a (nx M a au) e f
def Az.kp{b:Own}{a:Nat}(h:Az oZ s w0 S bw bl bi a n p k c nx)(K:Kp (Tb s) oZ b w0 d):Az b s d S bw bl bi a n p k c nx:=
 fun g w M f i e=>h g w M f i (K.trans e)
def qJ.kp{b:Own}{a:Nat}(h:qJ oZ s w0 S bw bl bi a n p k c)(K:Kp (Tb s) oZ b w0 d):qJ b s d S bw bl bi a n p k c:=
 fun g w M f e=>h g w M f (K.trans e)
def tK.kp{b:Own}{a:Nat}(h:tK oZ s w0 S bw bl bi a n p k c nx)(K:Kp (Tb s) oZ b w0 d):tK b s d S bw bl bi a n p k c nx:=
 fun g w M f i e=>h g w M f i (K.trans e)
structure Bx (oZ:Own) (s:Nat) (w:Wq) (b:Nat) (t:Vg) (v:WA):Prop where
 ow:oZ b=s+47
 bY:aL w b t [v]
def Bx.kp{b:Nat}{t:Vg}(h:Bx oZ s w b t v)(K:Kp (Tb s) oZ aQ w w'):Bx aQ s w' b t v:=
 ⟨by rw[K.ext b h.bY.lt,h.ow],bU h.bY K (by rw[h.ow];exact fun e=>(jD.1 e).2.1 rfl)⟩
def Bx.below{b:Nat}{t:Vg}(h:Bx oZ s w b t v)(a:bE w w'):Bx oZ s w' b t v:=⟨h.ow,eY a h.bY⟩
def Bx.cell{oZ:Own}{s:Nat}{w:Wq}{b:Nat}{t:Vg}{v:WA}(h:Bx oZ s w b t v):w.cell? (ay b 0)=some v:=h.bY.cell 0
def NW{u:Nat}{g:av->bZ->Bool}(i j:Nat)(F:∀args w,(callFunc n args).run prog w=.ok (.enter n args) w)(v:Bx oZ s w0 i 128 (aJ S 0))(x:Bx oZ s w0 j 28 (.func (.func n) p k))(h:qJ oZ s w0 S bw bl bi u n p k g):qJ oZ s w0 S bw bl bi u 261 #[] #[aJ i 0,aJ j 0] fun M b=> !M.full&&g M b:=by
 intro D w M b K y m;have z:=h D w M b K y m;obtain⟨l,H,e,E⟩:=y;have J:=(v.kp K).cell;have L:=(x.kp K).cell;have G:w.cell? (ay S 230)=some (.map (some bw)):=(e.bY.cell _).trans e.cells.oM;obtain⟨f,q,c,r⟩:=e.Ay;have a:=Zr _ c (by rw[qmc];have:=m.wl;omega);rw[qmc]at a;have t:Hid (qH 262 #[.map (some bw)] w (.bool M.full) fun d=>d=w):=a;have C:=aF z;show qH 261 #[aJ i 0,aJ j 0] w (.bool (!M.full&&g M b)) fun d=>bE w d;generalize g M b=B at *
 clear z a c r q e E m h v x K;generalize M.full=A at *
 cases A;·go_enter func261,ntmps261;go_wp2_with (first|(go_at_call 262;refine bH t.out ?_;rintro d rfl)|(go_at_fn n;refine bH C.out ?_;rintro I o)|go_in);go_ret;exact⟨aM,o⟩
 ·go_enter func261,ntmps261;go_wp2_with (first|(go_at_call 262;refine bH t.out ?_;rintro d rfl)|go_in);go_ret;exact⟨aM,qlw _ _⟩
def uO(oZ:Own)(w:Wq):Kp [] oZ (loc oZ w.heap.size) w w:=⟨rfl,rfl,rfl,qj _,fun _ _ _=>rfl,fun b a=>jo oZ _ b a⟩
def Z7{f:Wq}{h:bZ}(m:AnM oZ s w i h)(v:0<s)(o:bE w W)(k:w.heap.size<W.heap.size)(q:iE s (loc oZ w.heap.size) W S bw bl bi M' y)(d:l6 w.heap.size y f):∃a,Kp (Tn s) oZ a w f/\Env a s f S bw bl bi i M' h:=by
 obtain⟨a,u,t,l,K⟩:=q;have c:Kp (T0 s) oZ a w y:=((uO oZ w).mono aM).trans ((Kp.below o).trans K);have n:a w.heap.size∈[0]:=by rw[K.ext _ k,iY _ _ _ (qj _)];simp
 have g:Kp [0] a a y f:=d.kpt n;have j:Kp (Tn s) oZ a w f:=⟨d.os.trans c.os,d.tape.trans c.tape,d.output.trans c.output,by rw[d.size];exact c.size,fun b p r=>(d.block b aj).trans (c.bY b p (fun e=>r (uN.2 (bR (fC.1 e))))),c.ext⟩;refine⟨a,j,u,t,l.kp g (fun x z _ e=>by simp at e;omega),?_⟩;have:=m.kp (T:=T0 s) (aQ:=a) (w':=y) c (fun e=>bR (fC.1 e)) (fun e=>bR (fC.1 e));exact this.kp g aM aM
def fH.loc(h:fH oZ s w S l M bw bl bi a)(b:bE w W):fH (loc oZ w.heap.size) s W S l M bw bl bi a:=
 (h.kp (uO oZ w) aM).below b
def Z9(w:Wq)(k o r:Nat)(h:k<8)(b:o<=dH)(c:r<=o):EJ w (nD k o r) none 0:=by
 have d:(0:Nat)<=dH:=gP;have a:r<=dH:=qlz c b;refine wZ w _ ?_ rfl (by show(0:Nat)<=4096;decide) ?_;·simp[snd,qy,ny,nD,b,c,a,d];omega
 ·have e:=lK k;have f:=lK o;have g:=lK r;simp[aX,dz,nD,dR,dx,fieldAt];omega
abbrev ntC(k:Nat)(o r:Nat):bJ:=[iZ 3,iZ k,uZ o,uZ r,uZ 0,.bool false,uZ 0,uZ 0,.string ⟨#[]⟩,nZ]
def Z_(o:Nat)(g:Nt)(k:Nat)(h8:k<8)(r:Nat)(j:Int)(w:Wq)(u:aL w S TS l)(h:wV l o g)(ho:g.aC<=dH)(hr:r<=g.aC):WB prog 313 #[aJ S o,iZ k,uZ r,iZ j] w fun e s=>
   e=.returned (kF ((g.next k r j).map mI))/\∃q,f_ w s S l q o 4/\wV q o (((g.next k r j).map nI).getD g):=by
 obtain⟨W,c⟩:=bT ((w.alloc (.cells lY.toArray 65)).alloc (.cells (ntC k g.aC r).toArray 65));have A:aL W w.heap.size 65 lY:=by rw[c];exact(aL.new w 65 _).alloc _
 have p:aL W (w.heap.size+1) 65 (ntC k g.aC r):=by rw[c];have:=aL.new (w.alloc (.cells lY.toArray 65)) 65 (ntC k g.aC r);rwa[qmx]at this
 have d:bE w W:=by rw[c];exact((qlw _ w).alloc (qj _) _).alloc aM _
 have gT:W.heap.size=w.heap.size+2:=by rw[c];simp
 have m:aL W S TS l:=u.of_heap (d.block _ u.lt);have D:Hid (qH 210 #[eF (nD k g.aC r) nZ] W (iZ ((aX (nD k g.aC r)).length:Int)) fun s=>bE w s/\bE W s):=by refine bH (rT _ none 0 W (Z9 _ k g.aC r h8 ho hr)) ?_;rintro s hb;exact⟨rfl,d.trans (hb.mono aj),hb⟩
 have H:Hid (g.next k r j=if j<((aX (nD k g.aC r)).length:Int)then none else some (nD k g.aC r,g.aw r)):=rfl;have F:Hid (∀z,bE W z->qH 342 #[aJ S o,eF (nD k g.aC r) nZ] z (.tuple #[]) fun s=>∃q,f_ z s S l q o 4/\wV q o (g.aw r)):=fun z hz=>by exact PE o g (nD k g.aC r) nZ (m.of_heap (hz.block _ m.lt)) h
 have c1:w.cell? (ay S (o+1))=some (uZ g.aC):=by rw[u.cell];exact h.c1
 generalize g.next k r j=X at *
 generalize hn:(aX (nD k g.aC r)).length=n at *
 have Ct:=u.lt;have HB:=aF (dw u h);obtain⟨x0,x1,x2,x3,x4,x5,x6,x7,x8,x9,xf⟩:=bC p;have I:=aF (dw p (dw A d));clear p A d m u h ho hr hn;unfold eF nD at D F;unfold ntC lY at c;generalize g.aC=G at *
 by_cases C:j<(n:Int)
 ·have x:Hid (X=none):=by unfold Hid;rw[H.out,bM C]
  clear H F;go_enter func313,ntmps313;go_wp2_with fail;rw[<-c];refine bH D.out ?_;rintro z ⟨i,a⟩;have f:=I.out.2.1.of_heap (a.block _ aj);obtain⟨y0,y1,y2,y3,y4,y5,y6,y7,y8,y9,yf⟩:=bC f;have E:=aF (dw f i);clear a f i c x0 x1 x2 x3 x4 x5 x6 x7 x8 x9 xf D;go_wp2_with fail;rw[gq];have Y:=fK E.out.1 (iZ 0) (iZ 0) (uZ 0) (uZ 0) (uZ 0) (.bool false) (uZ 0) (uZ 0) (.string ⟨#[]⟩) nZ;have Z:=fM z w.heap.size (iZ 0) (iZ 0) (uZ 0) (uZ 0) (uZ 0) (.bool false) (uZ 0) (uZ 0) (.string ⟨#[]⟩) nZ;generalize jI z w.heap.size (iZ 0) (iZ 0) (uZ 0) (uZ 0) (uZ 0) (.bool false) (uZ 0) (uZ 0) (.string ⟨#[]⟩) nZ=Wf at *
  obtain⟨L,M,N,O,P,Q,R,T,U,V,_⟩:=bC Y;refine Vl (v:=kF (X.map mI)) (by rw[x.out];simp[results,results313,go_sem,L,M,N,O,P,Q,R,T,U,V,eF,kF,iL]) rfl ⟨rfl,l,(f_.refl HB.out.1 o 4).iA (Z.below E.out.2 aj),?_⟩;rw[x.out];exact HB.out.2
 ·have x:Hid (X=some (nD k G r,g.aw r)):=by unfold Hid;rw[H.out,aV C]
  clear H;go_enter func313,ntmps313;go_wp2_with fail;rw[<-c];refine bH D.out ?_;rintro z ⟨i,a⟩;have t:=I.out.1.of_heap (a.block _ aj);have f:=I.out.2.1.of_heap (a.block _ aj);have h2:=a.size;have HA:=aF (F.out z a);obtain⟨v0,v1,v2,v3,v4,v5,v6,v7,v8,v9,vf⟩:=bC t;have E:=aF (dw t (dw f i));clear a t f i c x0 x1 x2 x3 x4 x5 x6 x7 x8 x9 xf D F;go_wp2_with fail;refine bH HA.out ?_;rintro y ⟨q,b,B⟩;obtain⟨t,f,i⟩:=E.out;have Vn:=b.other t aj;have K:=b.other f aj;obtain⟨x0,x1,x2,x3,x4,x5,x6,x7,x8,x9,xf⟩:=bC Vn;obtain⟨y0,y1,y2,y3,y4,y5,y6,y7,y8,y9,yf⟩:=bC K;have J:=aF (dw K (dw (f_.after i b) B));clear b B t f i Vn K v0 v1 v2 v3 v4 v5 v6 v7 v8 v9 vf;go_wp2_with fail;rw[gq];have Y:=fK J.out.1 (iZ 3) (iZ k) (uZ G) (uZ r) (uZ 0) (.bool false) (uZ 0) (uZ 0) (.string ⟨#[]⟩) nZ;have Z:=fM y w.heap.size (iZ 3) (iZ k) (uZ G) (uZ r) (uZ 0) (.bool false) (uZ 0) (uZ 0) (.string ⟨#[]⟩) nZ;generalize h0:jI y w.heap.size (iZ 3) (iZ k) (uZ G) (uZ r) (uZ 0) (.bool false) (uZ 0) (uZ 0) (.string ⟨#[]⟩) nZ=Wf at *
  obtain⟨L,M,N,O,P,Q,R,T,U,V,_⟩:=bC Y;refine Vl (v:=kF (X.map mI)) (by rw[x.out];simp[results,results313,go_sem,L,M,N,O,P,Q,R,T,U,V,eF,kF,nD]) rfl ⟨rfl,q,J.out.2.1.tch Z aj aj,?_⟩;rw[x.out];exact J.out.2.2
def EO(o:Nat)(g:Nt)(n c:Nat)(a:Option V3)(k:Nat)(U:k<8)(s:Int)(D:aL w S TS l)(V:n<=2048)(C:l[o]?=some (.slice a n c))(h:wV l (o+2) g)(G:g.aC<=dH)(H:n<=g.aC):WB prog 260 #[aJ S o,iZ k,iZ s] w fun e r=>
   e=.returned (kF ((g.next k n s).map mI))/\∃i,f_ w r S l i (o+2) 4/\wV i (o+2) (((g.next k n s).map nI).getD g):=by
 have A:=D.lt;obtain⟨W,t⟩:=bT (w.alloc (.cells lY.toArray 65));have F:aL W w.heap.size 65 lY:=by rw[t];exact aL.new w 65 _
 have d:bE w W:=by rw[t];exact(qlw _ w).alloc (qj _) _
 have j:=D.of_heap (d.block _ A);have B:Hid (∀q,qH 188 #[aJ S o] (W.drewN q) (uZ n) fun r=>r=W.drewN q):=fun q=>o_ S o n c a (W.drewN q) V (by rw[show(W.drewN q).cell? (ay S o)=W.cell? (ay S o)from rfl,j.cell];exact C);generalize E:g.next k n s=X at *
 obtain⟨f,b,p⟩:=CP (X.map mI);have x:Hid (∀q,qH 313 #[(aJ S (o+2)),iZ k,uZ n,iZ s] (W.drewN q) (.tuple #[eF f nZ,.bool b]) fun r=>aL r w.heap.size 65 lY/\Hid (∃i,f_ w r S l i (o+2) 4/\wV i (o+2) ((X.map nI).getD g))):=fun q=>by
  refine bH (Z_ (o+2) g k U n s (W.drewN q) j h G H) ?_;rintro r ⟨i,u,z⟩;rw[E]at *
  refine⟨by rw[p],u.other F aj,i,?_,z⟩;exact f_.after (W:=W.drewN q) ⟨d.os,d.tape,d.output,d.size,d.block⟩ u
 rw[p];clear p E F d j h G H C;unfold eF at x;unfold lY at t;go_enter func260,ntmps260;go_wp2_with fail;rw[<-t];clear t;go_region_with (first|(go_at_call 188;refine bH (B.out _) ?_;rintro y rfl)|(go_at_call 313;refine bH (x.out _) ?_;rintro y ⟨m,I⟩;obtain⟨y0,y1,y2,y3,y4,y5,y6,y7,y8,y9,yf⟩:=bC m;have ug:=aF m;clear m x B));all_goals
  go_wp2_with fail;go_simp;rw[gq];have Y:=fK ug.out (iZ f.aD) (iZ f.aG) (uZ f.aC) (uZ f.aN) (uZ f.aT) (.bool f.bG) (uZ f.id) (uZ f.aH) (.string f.data) nZ;have Z:=fM y w.heap.size (iZ f.aD) (iZ f.aG) (uZ f.aC) (uZ f.aN) (uZ f.aT) (.bool f.bG) (uZ f.id) (uZ f.aH) (.string f.data) nZ;generalize jI y w.heap.size (iZ f.aD) (iZ f.aG) (uZ f.aC) (uZ f.aN) (uZ f.aT) (.bool f.bG) (uZ f.id) (uZ f.aH) (.string f.data) nZ=Wf at *
  obtain⟨J,K,L,M,N,O,P,Q,R,T,_⟩:=bC Y;obtain⟨i,u,z⟩:=I.out;exact Vl (v:=.tuple #[eF f nZ,.bool b]) (by simp[results,results260,go_sem,J,K,L,M,N,O,P,Q,R,T,eF]) rfl ⟨rfl,i,u.tch Z (qj _) aj,z⟩
end Go.Proofs.YtphbledmopchnaaGreatDoor.Sd
namespace Go.Proofs.YtphbledmopchnaaGreatDoor.Sd
open Go.RowKit Go.Lib Mm Go.Maps Tryz
section
attribute [local go_sem] qou
def DN:∀(a:List Fr) (j i:Nat),j<a.length->i<10->(kY a)[j*10+i]?=(fJ (a.getD j iL) nZ)[i]?
 |[],_,_,h,_=>by simp at h
 |f::t,0,i,_,hi=>by show(fJ f nZ++kY t)[0*10+i]?=_;rw[qpg,qm5,qmw (by exact hi)];rfl
 |f::t,j+1,i,h,hi=>by show(fJ f nZ++kY t)[(j+1)*10+i]?=_;have b:(fJ f nZ).length=10:=rfl;rw[qn0 aj,b,show(j+1)*10+i-10=j*10+i by omega,DN t j i (by simpa using h) hi];rfl
def Gc:∀(l:List (Nat×ru)) (y:Nat×ru),(l.Pairwise fun x z=>x.1≠z.1)->y∈l->l.Perm (y::l.filter fun z=> !decide (z.1=y.1))
 |[],_,_,h=>by cases h
 |a::t,y,hp,h=>by
  obtain⟨b,c⟩:=qpu.1 hp;by_cases e:a.1=y.1
  ·have d:y=a:=by
    rcases qme.1 h with h|h;·exact h
    ·exact absurd e (b y h)
   subst d;rw[List.filter_cons_of_neg aM,qo4.2 fun z g=>by simpa using fun e=>b z g e.symm]
  ·have f:y∈t:=by
    rcases qme.1 h with h|h;·exact absurd (by rw[h]) e
    ·exact h
   rw[List.filter_cons_of_pos (by simpa using e)];exact((Gc t y c f).cons a).trans (.swap _ _ _)
def Oh(l m:List (Nat×ru)):cZ (l++m)=cZ l++cZ m:=by simp[cZ]
structure UH (f:Nat->Option V3×Nat) (b r t tf tr:Nat) (ls:List (Nat×ru)) (J:Own->List Fr->Wq->Prop) (oZ:Own) (y:Wq) (lp lr:List (Nat×ru)) (pre:List Fr):Prop where
 rg:tV y b r (ls.map (Eu f)) (lr.map (Eu f))
 ob:oZ b=t
 orr:oZ r=tr
 gs:∀x∈ls,GT oZ tf 65 10 y (.slice (f x.1).1 x.2.cZ.length (f x.1).2) x.2.cZ.length (kY x.2.cZ)
 pm:(lp++lr).Perm ls
 j:J oZ pre y
def UH.kp{f:Nat->Option V3×Nat}{b r t d e:Nat}{j:List (Nat×ru)}{J:Own->List Fr->Wq->Prop}{oZ aQ:Own}{y y':Wq}{g i:List (Nat×ru)}{c a:List Fr}{T:List Nat}(h:UH f b r t d e j J oZ y g i c)(K:Kp T oZ aQ y y')(k:t∉T)(l:d∉T)(m:e∉T)(n:J aQ a y'):UH f b r t d e j J aQ y' g i a:=
 ⟨h.rg.kept (K.bY b h.rg.map.lt (by rw[h.ob];exact k)) (K.bY r h.rg.lt (by rw[h.orr];exact m)),by rw[K.ext b h.rg.map.lt,h.ob],by rw[K.ext r h.rg.lt,h.orr],fun x o=>(h.gs x o).kp K l,h.pm,n⟩
def UH.aI{f:Nat->Option V3×Nat}{b r t k c:Nat}{j:List (Nat×ru)}{J:Own->List Fr->Wq->Prop}{oZ aQ:Own}{y y':Wq}{g i:List (Nat×ru)}{a:List Fr}{T:List Nat}(h:UH f b r t k c j J oZ y g i a)(K:Kp T oZ aQ y y')(d:t∉T)(e:c∉T):y'.rangeLeft b r=y.rangeLeft b r:=
 gu (K.bY b h.rg.map.lt (by rw[h.ob];exact d)) (K.bY r h.rg.lt (by rw[h.orr];exact e))
def Xt(F:Fence)(n:Nat)(hF:F.fn 243)(x7:F.round=none)(hn:1<=n)(L bx b t w s:Nat)(Ty:List Nat)(m:List (Nat×ru))(x2:∀x∈m,x.2.cZ.length<=1000000)(ht:t∉Ty)(x9:w∉Ty)(ha:s∉Ty)(x1:w≠s)(J:Own->List Fr->Wq->Prop)(hJ:∀oZ S G W R,J oZ G W->Kp [s] oZ S W R->J S G R)(hY:∀oZ G f W,J oZ G W->(∃x∈m,f∈x.2.cZ)->YieldAt F (n-1) prog L #[eF f nZ] W fun e R=>e=.returned (.bool true)/\∃S,J S (G++[f]) R/\Kp Ty oZ S W R)(oZ:Own)(W:Wq)(hb:aL W bx 203 [.map (some b)])(N:um oZ t w W b m)(h0:J oZ [] W):CallsIn F n prog 243 #[.func (.yield L) #[] #[],aJ bx 0] W fun e R=>(∃v,e=.returned v)/\∃S c,c.Perm m/\J S (cZ c) R:=by
 obtain⟨f,f1,f2,f3⟩:=N;have x3:m.Pairwise fun x z=>x.1≠z.1:=by have:=f2.keys;rw[qqg]at this;exact this
 have k0:W.cell? (ay bx 0)=some (.map (some b)):=hb.cell 0;have HJ:=aF hJ;have HY:=aF hY;have H0:=aF (dw f1 (dw f3 h0));have HM:=aF f2;clear hb f1 f2 f3 h0 hJ hY;refine callsIn_of_wp func243 rfl hF ?_ x7;simp only[ntmps243,qp1,qmp,qnc,Nat.reduceAdd,Nat.reduceSub,qq4,qq3,qp5,qq5,qmq,qom];gi_wp2_with (first|(gi_at_range;refine Og _ rfl _ rfl b _ rfl HM.out ?_;intro w0 P r x8)|fail);have H1:Hid (∃o,UH f b W.heap.size t w s m J o w0 [] m []):=by obtain⟨o,ho⟩:=bT (fun x=>if x<W.heap.size then oZ x else s:Own);have K:Kp [] oZ o W w0:=⟨r.os,r.tape,r.output,r.size,fun x u _=>r.block x u aM,fun x u=>by rw[ho];exact bM u⟩;exact⟨o,P,by rw[K.ext b HM.out.lt];exact H0.out.1,by rw[ho];exact aV (qoh _),fun x u=>(H0.out.2.1 x u).kp K aM,.refl _,HJ.out _ _ _ _ _ H0.out.2.2 (K.mono aM)⟩
 clear P r x8 H0 HM k0;go_frame;gi_loopw [9] (fun _ wr=>∃oZ c I,Hid (UH f b W.heap.size t w s m J oZ wr c I (cZ c))) (fun _ wr=>wr.rangeLeft b W.heap.size)
 case atStart=>obtain⟨o,h1⟩:=H1.out;exact⟨o,[],m,h1⟩
 case round=>
  obtain⟨o,c,I,H2⟩:=hrel;clear H1;have h8:=H2.out.rg;obtain⟨lf,E⟩:=bT (I.map (Eu f));rw[<-E]at h8;have Z:=aF E;clear E;gi_wp2_with (first|(gi_at_next;refine Tj _ rfl _ rfl b W.heap.size _ _ rfl h8 ?_ ?_)|fail)
  ·intro h0;rw[Z.out]at h0;gi_wp2;go_end0;have x5:I=[]:=by cases I with
    |nil=>rfl
    |cons a t=>simp at h0
   have h:=H2.out;rw[x5]at h;exact⟨⟨_,rfl⟩,o,c,by simpa using h.pm,h.j⟩
  ·intro xn xa xl xc xt X u GN q l k xi h4;have H:=H2.out;obtain E:=Z.out;subst E;obtain⟨y,Q,hk⟩:=qmk.1 u;simp only[Eu,qob]at hk;obtain⟨rfl,rfl,rfl,rfl,rfl⟩:=hk;have h7:I.Pairwise fun x z=>x.1≠z.1:=by
    have:=(H.pm.pairwise_iff (fun{_ _} e=>qna e)).2 x3;exact(qpr.1 this).2.1
   have hm:y∈m:=H.pm.mem_iff.1 (qm7.2 (.inr Q));have T:=Gc I y h7 Q;have N:(I.map (Eu f)).filter (fun z=> !decide (z.1=y.1))=(I.filter fun z=> !decide (z.1=y.1)).map (Eu f):=by rw[qoe];rfl
   rw[N]at q;generalize xd:(I.filter fun z=> !decide (z.1=y.1))=p at q T;have hr:((c++[y])++p).Perm m:=by rw[qmh];exact((List.Perm.refl c).append T.symm).trans H.pm
   have K1:Kp [s] o o wr X:=⟨k.os,k.tape,k.output,k.size,fun b' hw hn=>k.block b' hw (fun e=>hn (by cases e;rw[H.orr];simp)),fun _ _=>rfl⟩;have x6:w∉[s]:=by simpa using x1
   obtain⟨V,B⟩:=bT (X.alloc (.cells #[.slice (f y.1).1 y.2.cZ.length (f y.1).2,uZ y.2.aW] 289));have K3:Kp [] o o X V:=by rw[B];exact Kp.alloc _ _ _ _
   have H3:Hid (UH f b W.heap.size t w s m J o V (c++[y]) p (cZ c)):=by
    have a:UH f b W.heap.size t w s m J o X (c++[y]) p (cZ c):=
     ⟨q,by rw[K1.ext b H.rg.map.lt];exact H.ob,H.orr,fun x u=>(H.gs x u).kp K1 x6,hr,HJ.out _ _ _ _ _ H.j K1⟩
    exact a.kp K3 aM aM aM (HJ.out _ _ _ _ _ a.j (K3.mono aM))
   have hv:V.rangeLeft b W.heap.size<wr.rangeLeft b W.heap.size:=by
    rw[(H3.out.aI (y':=V) (Kp.refl [] _ _) aM aM),B];have:(X.alloc (.cells #[.slice (f y.1).1 y.2.cZ.length (f y.1).2,uZ y.2.aW] 289)).rangeLeft b W.heap.size=X.rangeLeft b W.heap.size:=by rw[<-B];exact gu (K3.bY b (qm9 H.rg.map.lt k.size) aM) (K3.bY _ (qm9 H.rg.lt k.size) aM)
    rw[this];exact l
   have xj:=x2 y hm;have UD:=aF (dw hm (Eq.refl (cZ (c++[y]))));clear H u q l k hr T xd N h7 Q K1 K3;simp only[wX]at h4 ⊢;gi_wp2;rw[<-B];clear B h4;generalize h5:y.2.cZ=d at *
   generalize he:(f y.1).1=xa at *
   generalize hf:(f y.1).2=xc at *
   have A:=aF (dw h5 (dw he hf));clear h5 he hf;gi_loopw [16] (fun U w2=>∃(j:Nat) (M:Own),j<=d.length/\U=(iZ j)/\Hid (UH f b W.heap.size t w s m J M w2 (c++[y]) p (cZ c++d.take j))/\w2.rangeLeft b W.heap.size=V.rangeLeft b W.heap.size) (fun U _=>d.length-(eT U).toNat)
   case atStart=>exact⟨0,o,qm2 _,rfl,(by rw[qop,qmv];exact H3),rfl⟩
   case round=>
    obtain⟨j,M,hj,rfl,Y,D⟩:=hrel;by_cases l:j<d.length
    ·have xe:(j:Int)<(d.length:Int):=aj;have hG:GT M w 65 10 wr (.slice xa d.length xc) d.length (kY d):=by
      have:=Y.out.gs y UD.out.1;rwa[A.out.1,A.out.2.1,A.out.2.2]at this
     obtain⟨g,hg,_,_,x0,_⟩:=hG.cell (j*10+0) _ (DN d j 0 l aj);have C:∀i x,i<10->(fJ (d.getD j iL) nZ)[i]?=some x->wr.cell? (ay g (j*10+i))=some x:=fun i x hi u=>by
      obtain⟨g',h6,_,_,h',_⟩:=hG.cell (j*10+i) x ((DN d j i l hi).trans u);rw[hg]at h6;have:g=g':=by simpa using h6
      rw[this];exact h'
     clear x0 hG;have O:d.getD j iL∈d:=by rw[qly,qm3 l];exact qmz l
     have h9:d.take (j+1)=d.take j++[d.getD j iL]:=by rw[qnh,qly,qm3 l];rfl
     have P5:=aF (dw h9 O);clear h9 O;generalize d.getD j iL=ff at *
     have c0:=C 0 _ aj rfl;have c1:=C 1 _ aj rfl;have c2:=C 2 _ aj rfl;have c3:=C 3 _ aj rfl;have c4:=C 4 _ aj rfl;have c5:=C 5 _ aj rfl;have c6:=C 6 _ aj rfl;have c7:=C 7 _ aj rfl;have c8:=C 8 _ aj rfl;have c9:=C 9 _ aj rfl;clear C;subst hg;simp only[qnl]at c0;obtain⟨W5,xP⟩:=bT (wr.alloc (.cells (fJ ff nZ).toArray 65));have K5:Kp [] M M wr W5:=by rw[xP];exact Kp.alloc _ _ _ _
     have H5:Hid (UH f b W.heap.size t w s m J M W5 (c++[y]) p (cZ c++d.take j)):=Y.out.kp K5 aM aM aM (HJ.out _ _ _ _ _ Y.out.j (K5.mono aM));have x4:=Y.out.aI K5 aM aM;obtain⟨fn,xf,assign,body,Q,hR⟩:=HY.out M _ ff W5 H5.out.j ⟨y,UD.out.1,by rw[A.out.1];exact P5.out.2⟩;rw[xP]at Q hR;unfold eF at Q;simp only[fJ]at Q hR;have hu:=aF xP;clear xP K5;gi_wp2;refine hR.mono ?_;rintro e w6 ⟨rfl,nP,h3,K6⟩;have H6:Hid (UH f b W.heap.size t w s m J nP w6 (c++[y]) p (cZ c++d.take (j+1))/\w6.rangeLeft b W.heap.size=V.rangeLeft b W.heap.size):=by
      have h2:Kp Ty M nP W5 w6:=by rw[hu.out];exact K6
      refine⟨H5.out.kp h2 ht x9 ha ?_,?_⟩;·rw[P5.out.1,<-qmh];exact h3
      ·rw[H5.out.aI h2 ht ha,x4,D]
     clear h3 K6 hR Q c0 c1 c2 c3 c4 c5 c6 c7 c8 c9;gi_wp2;go_roundw;case rel=>exact⟨j+1,nP,aj,aM,H6.out.1,H6.out.2⟩
     case measure=>simp[eT];omega
    ·obtain rfl:j=d.length:=aj;gi_wp2;go_roundw;case rel=>
      refine⟨M,c++[y],p,?_⟩;have h:=Y.out;rw[qp2]at h;have e:cZ (c++[y])=cZ c++d:=by rw[Oh];simp[cZ,A.out.1]
      rw[e];exact h
     case measure=>rw[D];exact hv
end
end Go.Proofs.YtphbledmopchnaaGreatDoor.Sd
namespace Go.Proofs.YtphbledmopchnaaGreatDoor.Sd
open Go.RowKit Go.Lib Mm Tryz
variable {b:Nat}{oZ:Own}{w:Wq}
def vM(oZ:Own)(k:Nat):∀n,∃t,k<=t/\∀b,b<n->oZ b<t
 |0=>⟨k,qj _,fun _ h=>absurd h (qmy _)⟩
 |n+1=>by
  obtain⟨t,c,a⟩:=vM oZ k n;refine⟨max t (oZ n+1),aj,fun b d=>?_⟩;by_cases e:b=n;·subst e;omega
  ·have:=a b aj;omega
def Kp.less{T U:List Nat}{aQ:Own}{w':Wq}(h:Kp (U++T) oZ aQ w w')(c:∀b,b<w.heap.size->oZ b∉U):Kp T oZ aQ w w':=
 ⟨h.os,h.tape,h.output,h.size,fun b a d=>h.bY b a (fun e=>(qm7.1 e).elim (c b a) d),h.ext⟩
def sZ{n:Nat}(J:2<=n){Q:Exit->Act->Wq->Prop}{a:Act}{d:Wq}{g:Operand}{p:Tmp}{assign body:Code}{bx:Nat}(t tf F y Z:Nat)(N:List Nat){ls:List (Nat×ru)}{nP:Own}(G:Own->List Fr->Wq->Prop)(x4:a.eval g=.func (.func 243) #[] #[aJ bx 0])(h8:aL d bx 203 [.map (some b)])(x3:um nP t tf d b ls)(x2:∀x∈ls,x.2.cZ.length<=1000000)(ht:t∉N)(x7:tf∉N)(x8:F∉N)(x6:y∉N)(x5:Z∉N)(hd:tf≠F/\y≠F/\Z≠F/\y≠Z)(hJ:∀o E l W O,G o l W->Kp [y,F] o E W O->G E l O)(h0:G nP [] d)(hB:∀L o l f W,L<W.heap.size->G o l W->(∃x∈ls,f∈x.2.cZ)->assign.wpIn (Fence.wide.inRound L) (n-1-1) prog
   (Exit.then (fun a₁ w₁=>Kp [] o o W w₁/\∀w₂,(∀k,k≠L->w₂.heap[k]?=w₁.heap[k]?)->w₂.heap.size=w₁.heap.size->G o l w₂->body.wpIn (Fence.wide.inRound L) (n-1-1) prog (fun e _ B=>e=.normal/\∃E,G E (l++[f]) B/\Kp N o E w₂ B) a₁ w₂) (fun _ _ _=>False))
   {tmps:=a.tmps.setIfInBounds p (eF f nZ),defers:=[]} W)(hQ:∀E lp O D,lp.Perm ls->G E (cZ lp) O->d.heap.size<=D->E D=Z->O.heap[D]?=some (.deferred (some []))->Q .normal {a with defers:=[{target:=.collected D,args:=#[]}]++a.defers} O):(Code.rangeFunc g #[p] assign body).wpIn Fence.wide n prog Q a d:=by
 refine St.wI (fun ag bd a0 has x0 T=>wpIn_rangeFunc ?_);intro fn _;obtain⟨m,j⟩:∃m:LoopState->Option Code->Loop,m=fun st pe=>{state:=st,pending:=pe,fn:=fn,tmps:=a0.tmps,params:=#[p],assign:=ag,body:=bd,defers:=d.heap.size}:=⟨_,rfl⟩;obtain⟨A,hA⟩:=bT ((d.alloc (.deferred (some []))).alloc (.loop (m .ready none)));have xa:A.heap.size=d.heap.size+2:=by rw[hA];simp
 have Te:bE d A:=by rw[hA];exact((qlw _ d).alloc (qj _) _).alloc aM _
 have hv:A.heap[d.heap.size+1]?=some (.loop (m .ready none)):=by rw[hA];have:=nL (d.alloc (.deferred (some []))) (.loop (m .ready none));rwa[qmx]at this
 have hm:A.heap[d.heap.size]?=some (.deferred (some [])):=by rw[hA];exact(qmr _ _ _ aM).trans (nL d _)
 obtain⟨UE,V⟩:=bT (fun x=>if x<d.heap.size then nP x else if x=d.heap.size then Z else y:Own);have K4:Kp [] nP UE d A:=⟨Te.os,Te.tape,Te.output,Te.size,fun x hx _=>Te.block x hx,fun x hx=>by rw[V];exact bM hx⟩;have oL:UE (d.heap.size+1)=y:=by rw[V];simp only;rw[aV aj,aV aj]
 have oD:UE d.heap.size=Z:=by rw[V];simp only;rw[aV aj,bM trivial]
 refine⟨d.heap.size+1,[{target:=.collected d.heap.size,args:=#[]}],A,{target:=.fn (.func 243) #[aJ bx 0],args:=#[.func (.yield (d.heap.size+1)) #[] #[]]},A,243,#[.func (.yield (d.heap.size+1)) #[] #[],aJ bx 0],A,?_,?_,fun _ _=>trivial,?_,fun _=>aj,?_⟩;·rw[hA,j];exact run_enterLoop_outer _ _ _ _ _
 ·rw[T];simp[resolve,x4];simp[Deferred.ofValue,Act.eval,go_sem]
 ·simp[invoke,go_sem]
 ·refine(Xt Fence.wide (n-1) trivial rfl aj (d.heap.size+1) bx b t tf F N ls x2 ht x7 x8 hd.1
   (fun o l W=>G o l W/\o (d.heap.size+1)=y/\W.heap[d.heap.size+1]?=some (.loop (m .ready none))/\o d.heap.size=Z/\W.heap[d.heap.size]?=some (.deferred (some [])))
   (fun o E l W O h K=>?_) (fun o l f W h hf=>?_) UE A (h8.of_heap (Te.block _ h8.lt)) (x3.kp K4 aM aM) ⟨hJ _ _ _ _ _ h0 (K4.mono aM),oL,hv,oD,hm⟩).mono ?_
  ·obtain⟨h1,I,C,R,S⟩:=h;have X:=(qmt.1 C).1;have lD:=(qmt.1 S).1;exact⟨hJ _ _ _ _ _ h1 (K.mono aM),by rw[K.ext _ X,I],(K.bY _ X (by rw[I];simpa using hd.2.1)).trans C,by rw[K.ext _ lD,R],(K.bY _ lD (by rw[R];simpa using hd.2.2.1)).trans S⟩
  ·obtain⟨h1,I,C,R,S⟩:=h;have X:=(qmt.1 C).1;have lD:=(qmt.1 S).1;have hy:=run_yield (P:=prog) (args:=#[eF f nZ]) C (by rw[j];rfl);rw[j]at hy;refine⟨fn,a.tmps.setIfInBounds p (eF f nZ),ag,bd,by rw[hy,T];simp,roundIn_of_wpIn trivial ?_⟩;rw[has,x0];refine wpIn_mono (hB (d.heap.size+1) o l f W X h1 hf) ?_;intro e a1 M hh;cases e with
   |normal=>
    obtain⟨q,hw⟩:=hh;have hr:=(q.bY _ X aM).trans C;obtain⟨s,w⟩:∃s,s=M.putObj (d.heap.size+1) (.loop {m .ready none with state:=.busy}):=⟨_,rfl⟩;have x1:(Instr.beginRound (d.heap.size+1)).run prog M=.ok () s:=by rw[w];exact run_beginRound hr (by rw[j])
    have Y:s.heap.size=M.heap.size:=by rw[w];simp
    have o2:∀k,k≠d.heap.size+1->s.heap[k]?=M.heap[k]?:=fun k r=>by rw[w];exact fE r
    have he:d.heap.size+1<M.heap.size:=qm9 X q.size;have hu:s.heap[d.heap.size+1]?=some (.loop {m .ready none with state:=.busy}):=by rw[w];exact nA he
    have e2:s.os=M.os/\s.tape=M.tape/\s.output=M.output:=by rw[w];exact⟨rfl,rfl,rfl⟩
    have K2:Kp [y,F] o o W s:=⟨e2.1.trans q.os,e2.2.1.trans q.tape,e2.2.2.trans q.output,by rw[Y];exact q.size,fun k r J=>by have:k≠d.heap.size+1:=fun e=>J (by rw[e,I];simp);rw[o2 k this];exact q.bY k r aM,fun _ _=>rfl⟩;refine⟨s,x1,wpIn_mono (hw s o2 Y (hJ _ _ _ _ _ h1 K2)) ?_⟩;rintro e a6 B ⟨rfl,jl,ho,z⟩;have hg:d.heap.size+1<s.heap.size:=by rw[Y];exact he
    have h6:=(z.bY _ hg (by rw[I];exact x6)).trans hu;have ha:=run_endRound (P:=prog) none h6;obtain⟨H,UG⟩:=bT (B.putObj (d.heap.size+1) (.loop (m .ready none)));have x9:=(qmt.1 h6).1;have o7:∀k,k≠d.heap.size+1->H.heap[k]?=B.heap[k]?:=fun k r=>by rw[UG];exact fE r
    have s7:H.heap.size=B.heap.size:=by rw[UG];simp
    have e7:H.os=B.os/\H.tape=B.tape/\H.output=B.output:=by rw[UG];exact⟨rfl,rfl,rfl⟩
    have h7:H.heap[d.heap.size+1]?=some (.loop (m .ready none)):=by rw[UG];exact nA x9
    have hj:jl (d.heap.size+1)=y:=by rw[z.ext _ hg,I]
    have hc:d.heap.size<s.heap.size:=by rw[Y];exact qm9 lD q.size
    have K7:Kp [y,F] jl jl B H:=⟨e7.1,e7.2.1,e7.2.2,by rw[s7];exact qj _,fun k r J=>o7 k (fun e=>J (by rw[e,hj];simp)),fun _ _=>rfl⟩;refine⟨.bool true,H,by rw[ha,UG,j];rfl,rfl,jl,⟨hJ _ _ _ _ _ ho K7,hj,h7,by rw[z.ext _ hc,R],?_⟩,?_⟩;·rw[o7 _ aj,z.bY _ hc (by rw[R];exact x5),o2 _ aj,q.bY _ lD aM,S]
    ·refine⟨e7.1.trans (z.os.trans (e2.1.trans q.os)),e7.2.1.trans (z.tape.trans (e2.2.1.trans q.tape)),e7.2.2.trans (z.output.trans (e2.2.2.trans q.output)),by rw[s7];exact qlz q.size (by rw[<-Y];exact z.size),fun k r J=>?_,fun k r=>z.ext k (by rw[Y];exact qm9 r q.size)⟩;by_cases U:k=d.heap.size+1;·rw[U,h7,C]
     ·rw[o7 k U,z.bY k (by rw[Y];exact qm9 r q.size) J,o2 k U,q.bY k r aM]
   |ret=>exact hh
   |exit i=>exact hh
   |goto i=>exact hh
   |panic c=>exact hh
   |outgrown=>exact hh
  ·rintro e W ⟨⟨v,rfl⟩,oI,lp,hp,h1,I,C,R,S⟩;have X:=(qmt.1 C).1;obtain⟨u,Ew⟩:∃u,u=W.putObj (d.heap.size+1) (.loop {m .ready none with state:=.exhausted}):=⟨_,rfl⟩;have h9:(Instr.endLoop (d.heap.size+1)).run prog W=.ok none u:=by
    have:=run_endLoop (P:=prog) C (by rw[j];simp);rw[Ew];rw[j]at this ⊢;exact this
   have o4:∀k,k≠d.heap.size+1->u.heap[k]?=W.heap[k]?:=fun k r=>by rw[Ew];exact fE r
   have s4:u.heap.size=W.heap.size:=by rw[Ew];simp
   have e4:u.os=W.os/\u.tape=W.tape/\u.output=W.output:=by rw[Ew];exact⟨rfl,rfl,rfl⟩
   refine⟨none,u,h9,?_⟩;have K5:Kp [y,F] oI oI W u:=⟨e4.1,e4.2.1,e4.2.2,by rw[s4];exact qj _,fun k r J=>o4 k (fun e=>J (by rw[e,I];simp)),fun _ _=>rfl⟩;have:=hQ oI lp u d.heap.size hp (hJ _ _ _ _ _ h1 K5) (qj _) R ((o4 _ aj).trans S);rw[T];exact this
def um.take{t i:Nat}{l:List (Nat×ru)}(h:um oZ t i w b l)(n:i≠t)(E:l.length<100000)(g:Nat)(p k:Array WA)(D:∀args w,(callFunc g args).run prog w=.ok (.enter g args) w)(m:Nat->Nat->Bool)(B:Nat)(G:∀x∈l,∀v:Option V3×Nat×Nat×Nat,v.2.2.2=x.2.aW->∀W:Wq,w.grownBy W (some b)->WB prog g (p++(#[uZ x.1,wX v]++k)) W fun e C=>e=.returned (.bool (m x.1 x.2.aW))/\bE W C):qH 191 #[.map (some b),.func (.func g) p k] w (.map (some w.heap.size)) fun j=>∃d,um d t i j b (l.filter fun x=> !m x.1 x.2.aW)/\um d B i j w.heap.size (l.filter fun x=>m x.1 x.2.aW)/\Kp [t] oZ d w j:=by
 obtain⟨f,o,q,r⟩:=h;refine(Zt g p k (l.map (Eu f)) (fun e=>m e.1 e.2.2.2.2) D q (by rw[qmc];exact E) (fun x a W c=>?_)).mono ?_;·obtain⟨y,H,rfl⟩:=qmk.1 a;exact G y H _ rfl W c
 ·rintro e j ⟨rfl,z,A,c⟩;obtain⟨d,u⟩:=bT (fun x=>if x<w.heap.size then oZ x else B:Own);have K:Kp [t] oZ d w j:=⟨c.os,c.tape,c.output,c.size,fun x a F=>c.block x a (fun e=>F (by cases e;rw[o];simp)),fun x a=>by rw[u];exact bM a⟩;rw[qoe]at z A;have s:i∉[t]:=by simpa using n
  refine⟨rfl,d,⟨f,by rw[K.ext b q.lt,o],z,fun x a=>(r x (qm4.1 a).1).kp K s⟩,⟨f,by rw[u];exact aV (qoh _),A,fun x a=>(r x (qm4.1 a).1).kp K s⟩,K⟩
end Go.Proofs.YtphbledmopchnaaGreatDoor.Sd
namespace Go.Proofs.YtphbledmopchnaaGreatDoor.Sd
open Go.RowKit Go.Lib Mm Go.Maps Tryz
variable {a:jQ->Bool}{b r:Nat}{c d l lf:List jQ}{w y z:Wq}
structure UK (w:Wq) (b r:Nat) (l:List jQ) (want:jQ->Bool) (y:Wq) (cur lf:List jQ):Prop where
 rg:tV y b r cur lf
 cur:∀x,x∈cur↔x∈l/\(x∈lf\/want x=false)
 gr:w.grownBy y (some b)
def UK.done(h:UK w b r l a y c [])(d:l.Nodup):mD y b (l.filter fun x=> !a x):=by refine h.rg.map.perm (yA h.rg.map.nodup (d.filter _) fun x=>?_);rw[h.cur,qm4];simp
def UK.stay(h:UK w b r l a y c lf)(x:jQ)(j:∀y,y∈l->(y∈d↔y∈lf/\y≠x))(m:a x=false)(g:tV z b r c d)(k:w.grownBy z (some b)):UK w b r l a z c d:=by
 refine⟨g,fun e=>?_,k⟩;rw[h.cur];refine and_congr_right fun i=>?_;rw[j e i];by_cases f:e=x;·rw[f];simp[m]
 ·simp[f]
def UK.go{j:List jQ}(h:UK w b r l a y d lf)(A:∀e∈l,∀o∈l,e.1=o.1->e=o)(x:jQ)(C:x∈lf)(q:∀y,y∈l->(y∈j↔y∈lf/\y≠x))(B:a x=true)(t:tV z b r (d.filter fun e=> !decide (e.1=x.1)) (j.filter fun e=> !decide (e.1=x.1)))(v:w.grownBy z (some b)):UK w b r l a z (d.filter fun e=> !decide (e.1=x.1)) (j.filter fun e=> !decide (e.1=x.1)):=by
 have n:x∈l:=((h.cur x).1 (h.rg.sub x C)).1;have i:∀e∈l,((!decide (e.1=x.1))=true↔e≠x):=fun e u=>by simp only[qok,decide_eq_false_iff_not];exact⟨fun m g=>m (by rw[g]),fun m g=>m (A e u x n g)⟩
 refine⟨t,fun e=>?_,v⟩;rw[qm4,qm4,h.cur];constructor;·rintro⟨⟨c,k⟩,p⟩;refine⟨c,k.imp (fun f=>⟨(q e c).2 ⟨f,(i e c).1 p⟩,p⟩) id⟩
 ·rintro⟨c,k⟩;rcases k with⟨f,s⟩|f;·exact⟨⟨c,.inl ((q e c).1 f).1⟩,s⟩
  ·refine⟨⟨c,.inr f⟩,(i e c).2 fun g=>?_⟩;rw[g,B]at f;cases f
def ES(g:Nat)(p k:Array WA)(l:List jQ)(d:jQ->Bool)(eg:∀args w,(callFunc g args).run prog w=.ok (.enter g args) w)(h:mD w b l)(hw:∀x∈l,∀W:Wq,w.grownBy W (some b)->WB prog g (p++(#[uZ x.1,wX x.2]++k)) W fun e Z=>e=.returned (.bool (d x))/\bE W Z):qH 194 #[.map (some b),.func (.func g) p k] w (.tuple #[]) fun V=>mD V b (l.filter fun x=> !d x)/\w.grownBy V (some b):=by
 have T:=h.nodup;have U:=h.lt;go_enter func194,ntmps194;go_wp2_with (first|(at_range;refine nS _ rfl _ rfl b l rfl h ?_;intro w0 F O h2)|go_in);go_frame;go_loopw [4] (fun _ wr=>∃m lf:List jQ,Hid (UK w b w.heap.size l d wr m lf)) (fun _ wr=>wr.rangeLeft b w.heap.size);case atStart=>exact⟨l,l,(⟨F,fun x=>⟨fun s=>⟨s,.inl s⟩,fun s=>s.1⟩,O.but _⟩:UK w b w.heap.size l d w0 l l)⟩
 case round=>
  obtain⟨m,lf,hrel⟩:=hrel;go_wp2_with (first|(at_next;refine pK _ rfl _ rfl b w.heap.size m lf rfl hrel.out.rg ?_ ?_)|go_in);·intro h0;go_wp2;go_end0;subst h0;exact⟨rfl,hrel.out.done T,hrel.out.gr⟩
  ·intro A G J I K X s Y c S P h3 E;have H:=hrel.out;have o:(A,G,J,I,K)∈l:=((H.cur _).1 (H.rg.sub _ s)).1;obtain⟨D,v⟩:=bT (X.alloc (.cells #[.slice G J I,uZ K] 289));have q:X.grownBy D none:=by rw[v];exact qol _ _ _
   have r:w.grownBy D (some b):=(H.gr.andThen P (fun j t=>by cases t;exact .inl (qj _))).andThen q (fun j t=>by cases t);have C:=hw _ o D r;have L:tV D b w.heap.size m (lf.filter fun y=> !decide (y.1=A)):=c.kept (q.block _ c.map.lt aM) (q.block _ c.lt aM);have u:D.rangeLeft b w.heap.size<wr.rangeLeft b w.heap.size:=by rw[(gu (q.block _ c.map.lt aM) (q.block _ c.lt aM))];exact S
   have i:∀y,y∈l->(y∈(lf.filter fun y=> !decide (y.1=A))↔y∈lf/\y≠(A,G,J,I,K)):=fun y hy=>by rw[qm4];refine and_congr_right fun _=>?_;simp only[qok,decide_eq_false_iff_not];exact⟨fun z e=>z (by rw[e]),fun z e=>z (h.inj hy o e)⟩
   cases n:d (A,G,J,I,K)
   ·rw[n]at C;have B:=aF (dw o (dw i (dw n s)));have f:=aF (dw r (dw L u));clear o i n s r L u;simp only[wX]at E C ⊢;go_wp2_with (first|(go_at_fn g;rw[<-v];refine bH C ?_;rintro w2 a)|go_in);go_roundw;case rel=>exact⟨m,_,(H.stay _ B.out.2.1 B.out.2.2.1 (f.out.2.1.kept (a.block _ f.out.2.1.map.lt) (a.block _ f.out.2.1.lt)) (f.out.1.andThen (jg a) (fun j t=>by cases t)):UK _ _ _ _ _ _ _ _)⟩
    case measure=>rw[gu (a.block _ f.out.2.1.map.lt) (a.block _ f.out.2.1.lt)];exact f.out.2.2
   ·rw[n]at C;have B:=aF (dw o (dw i (dw n s)));have f:=aF (dw r (dw L u));clear o i n s r L u;simp only[wX]at E C ⊢;go_wp2_with (first|(go_at_fn g;rw[<-v];refine bH C ?_;rintro w2 a)|(at_delete;refine rO _ rfl _ _ rfl b w.heap.size m _ rfl (f.out.2.1.kept (a.block _ f.out.2.1.map.lt) (a.block _ f.out.2.1.lt)) A rfl Y ?_;intro w4 M R Q;go_frame)|go_in);refine⟨⟨_,_,(H.go (fun e he e' N=>h.inj he N) (A,G,J,I,K) B.out.2.2.2 B.out.2.1 B.out.2.2.1 M ((f.out.1.andThen (jg a) (fun j t=>by cases t)).andThen Q (fun j t=>by cases t;exact .inr rfl)):UK _ _ _ _ _ _ _ _)⟩,?_⟩;refine qoq R ?_;rw[gu (a.block _ f.out.2.1.map.lt) (a.block _ f.out.2.1.lt)];exact f.out.2.2
structure CyF (w:Wq) (b b2 r:Nat) (l d:List jQ) (y:Wq) (lf tk:List jQ):Prop where
 rg:tV y b2 r l lf
 mp:mD y b tk
 tk:∀x,x∈tk↔x∈d\/(x∈l/\x∉lf)
 gr:w.grownBy y (some b)
def qal{i:Nat}(l d:List jQ)(h:mD w b d)(R:mD w i l)(n:b≠i)(hl:l.length+d.length<100000)(D:∀x∈l,∀y∈d,x.1≠y.1):qH 193 #[.map (some b),.map (some i)] w (.tuple #[]) fun X=>mD X b (d++l)/\mD X i l/\w.grownBy X (some b):=by
 have J:(d++l).Nodup:=List.nodup_append.2 ⟨h.nodup,R.nodup,fun x f y M e=>D y M x f (by rw[e])⟩;have C:=h.lt;go_enter func193,ntmps193;go_wp2_with (first|(at_range;refine nS _ rfl _ rfl i l rfl R ?_;intro w0 K E h5)|go_in);go_frame;go_loopw [4] (fun _ wr=>∃lf u:List jQ,Hid (CyF w b i w.heap.size l d wr lf u)) (fun _ wr=>wr.rangeLeft i w.heap.size);case atStart=>exact⟨l,d,(⟨K,h.kept (E.block _ C aM),fun x=>⟨fun f=>.inl f,fun f=>f.elim id fun f=>absurd f.1 f.2⟩,E.but _⟩:CyF w b i w.heap.size l d w0 l d)⟩
 case round=>
  obtain⟨lf,u,hrel⟩:=hrel;go_wp2_with (first|(at_next;refine pK _ rfl _ rfl i w.heap.size l lf rfl hrel.out.rg ?_ ?_)|go_in);·intro h0;go_wp2;go_end0;subst h0;refine⟨rfl,hrel.out.mp.perm (yA hrel.out.mp.nodup J fun x=>?_),hrel.out.rg.map,hrel.out.gr⟩;rw[hrel.out.tk,qm7];simp
  ·intro s N P O Q Z f GN c W r h6 U;have H:=hrel.out;have m:(s,N,P,O,Q)∈l:=H.rg.sub _ f;have V:u.length<1000000:=by
    have:=Pw H.mp.nodup J fun x f=>qm7.2 (((H.tk x).1 f).imp id fun h=>h.1);rw[qm0]at this;omega
   obtain⟨v,B⟩:=bT (Z.alloc (.cells #[.slice N P O,uZ Q] 289));have g:Z.grownBy v none:=by rw[B];exact qol _ _ _
   have F:w.grownBy v (some b):=(H.gr.andThen r (fun j G=>by cases G;exact .inl (qj _))).andThen g (fun j G=>by cases G);have Y:tV v i w.heap.size l (lf.filter fun y=> !decide (y.1=s)):=c.kept (g.block _ c.map.lt aM) (g.block _ c.lt aM);have A:mD v b u:=H.mp.kept ((g.block _ (qm9 H.mp.lt r.size) aM).trans (r.block _ H.mp.lt rR));have I:v.rangeLeft i w.heap.size<wr.rangeLeft i w.heap.size:=by rw[(gu (g.block _ c.map.lt aM) (g.block _ c.lt aM))];exact W
   have q:∀y∈u,y.1≠s:=fun y M e=>by
    rcases(H.tk y).1 M with a|a;·exact D _ m y a e.symm
    ·exact a.2 (by rw[R.inj a.1 m e];exact f)
   have p:∀y,y∈l->(y∈(lf.filter fun y=> !decide (y.1=s))↔y∈lf/\y≠(s,N,P,O,Q)):=fun y M=>by rw[qm4];refine and_congr_right fun _=>?_;simp only[qok,decide_eq_false_iff_not];exact⟨fun n e=>n (by rw[e]),fun n e=>n (R.inj M m e)⟩
   have t:=aF (dw m (dw p q));have o:=aF (dw F (dw Y (dw A I)));clear m p f F Y I A q;simp only[wX]at U ⊢;go_wp2_with (first|(at_mapUpdate;rw[<-B];refine rP _ rfl _ _ _ rfl b u rfl o.out.2.2.1 V (s,N,P,O,Q) rfl rfl GN t.out.2.2 ?_;intro w3 T k;go_frame)|go_in);have S:=o.out.2.1.kept (k.block _ o.out.2.1.map.lt rR) (k.block _ o.out.2.1.lt rR);refine⟨⟨_,_,(⟨S,T,fun e=>?_,o.out.1.andThen k (fun j G=>by cases G;exact .inr rfl)⟩:CyF _ _ _ _ _ _ _ _ _)⟩,?_⟩
   ·rw[qme,H.tk];constructor
    ·rintro(a|a|a);·rw[a];exact .inr ⟨t.out.1,fun z=>((t.out.2.1 _ t.out.1).1 z).2 rfl⟩
     ·exact .inl a
     ·exact .inr ⟨a.1,fun z=>a.2 ((t.out.2.1 _ a.1).1 z).1⟩
    ·rintro(a|a);·exact .inr (.inl a)
     ·by_cases L:e=(s,N,P,O,Q);·exact .inl L
      ·exact .inr (.inr ⟨a.1,fun z=>a.2 ((t.out.2.1 _ a.1).2 ⟨z,L⟩)⟩)
   ·rw[gu (k.block _ o.out.2.1.map.lt rR) (k.block _ o.out.2.1.lt rR)];exact o.out.2.2.2
end Go.Proofs.YtphbledmopchnaaGreatDoor.Sd
namespace Go.Proofs.YtphbledmopchnaaGreatDoor.Sd
open Go.RowKit Go.Lib Mm Tryz
variable {b t:Nat}{l:List (Nat×ru)}{oZ:Own}{w:Wq}
def um.drop{d:Nat}(h:um oZ t d w b l)(j:d≠t)(g:Nat)(p k:Array WA)(r:∀args w,(callFunc g args).run prog w=.ok (.enter g args) w)(m:Nat->Nat->Bool)(B:∀x∈l,∀v:Option V3×Nat×Nat×Nat,v.2.2.2=x.2.aW->∀W:Wq,w.grownBy W (some b)->WB prog g (p++(#[uZ x.1,wX v]++k)) W fun e q=>e=.returned (.bool (m x.1 x.2.aW))/\bE W q):qH 194 #[.map (some b),.func (.func g) p k] w (.tuple #[]) fun i=>um oZ t d i b (l.filter fun x=> !m x.1 x.2.aW)/\Kp [t] oZ oZ w i:=by
 obtain⟨f,n,s,u⟩:=h;refine(ES g p k (l.map (Eu f)) (fun e=>m e.1 e.2.2.2.2) r s (fun x c W a=>?_)).mono ?_;·obtain⟨y,C,rfl⟩:=qmk.1 c;exact B y C _ rfl W a
 ·rintro e i ⟨rfl,o,a⟩;have K:Kp [t] oZ oZ w i:=⟨a.os,a.tape,a.output,a.size,fun x c A=>a.block x c (fun e=>A (by cases e;rw[n];simp)),fun x c=>rfl⟩;rw[qoe]at o;have z:d∉[t]:=by simpa using j
  exact⟨rfl,⟨f,n,o,fun x c=>(u x (qm4.1 c).1).kp K z⟩,K⟩
def um.copy{A j:Nat}{m:Nat}{d:List (Nat×ru)}(h:um oZ t j w b d)(D:um oZ A j w m l)(p:j≠t)(J:t≠A)(H:l.length+d.length<100000)(c:∀x∈l,∀y∈d,x.1≠y.1):qH 193 #[.map (some b),.map (some m)] w (.tuple #[]) fun k=>um oZ t j k b (d++l)/\Kp [t] oZ oZ w k:=by
 obtain⟨f,o,L,B⟩:=h;obtain⟨f2,E,M,C⟩:=D;obtain⟨F,hF⟩:=bT (fun n=>if(l.any fun x=>decide (x.1=n))=true then f2 n else f n:Nat->Option V3×Nat);have v:∀x∈l,F x.1=f2 x.1:=fun x a=>by rw[hF];exact bM (qo5.2 ⟨x,a,aM⟩)
 have u:∀x∈d,F x.1=f x.1:=fun x a=>by rw[hF];refine aV (fun e=>?_);obtain⟨y,r,e⟩:=qo5.1 e;exact c y r x a (by simpa using e)
 have G:b≠m:=fun e=>J (by rw[<-o,<-E,e]);refine(qal (l.map (Eu f2)) (d.map (Eu f)) L M G (by rw[qmc,qmc];exact H) (fun x a y r=>?_)).mono ?_;·obtain⟨O,q,rfl⟩:=qmk.1 a;obtain⟨P,s,rfl⟩:=qmk.1 r;exact c O q P s
 ·rintro e k ⟨rfl,N,_,i⟩;have K:Kp [t] oZ oZ w k:=⟨i.os,i.tape,i.output,i.size,fun x a I=>i.block x a (fun e=>I (by cases e;rw[o];simp)),fun x a=>rfl⟩;have z:j∉[t]:=by simpa using p
  refine⟨rfl,⟨F,o,?_,fun x a=>?_⟩,K⟩;·rw[qnb,qps (g:=Eu f) (fun x a=>by unfold Eu;rw[u x a]),qps (l:=l) (g:=Eu f2) (fun x a=>by unfold Eu;rw[v x a])];exact N
  ·rcases qm7.1 a with a|a;·rw[u x a];exact(B x a).kp K z
   ·rw[v x a];exact(C x a).kp K z
