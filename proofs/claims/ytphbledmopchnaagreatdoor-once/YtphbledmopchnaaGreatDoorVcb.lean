import Derived.Test.YtphbledmopchnaaGreatDoorVca
import Derived.BigRegionIn
import Derived.Shelf.AbstractIn
import Derived.Stop.RegionWithIn
import Derived.Sort.AtCall
import Derived.Deep.MidRow
open Go.Value renaming ownBlock->eT,int->fA
open Go.World renaming alloc_heap_new->eB
set_option maxHeartbeats 8000000
set_option maxRecDepth 100000
open Go renaming World->Wq,Value->WA,Calls->WB,undef->Vh
set_option linter.all false
namespace Go.Proofs.YtphbledmopchnaaGreatDoor.Sd
open Go.RowKit Go.Lib Mm Tryz
variable {A:Array WA}{M:av}{S b bi bl bw o s t:Nat}{Y w y z:Wq}{i:WA}{l:bJ}{m:eU}{oZ:Own}
def ZJ(S o:Nat)(w:Wq):qH 238 #[aJ S o,iZ 0] w nZ fun a=>a=w:=by go_enter func238,ntmps238;go_wp2;go_ret;exact⟨rfl,rfl⟩
def VE(m:eU):m.cut 0=m:=by cases m;simp[eU.cut]
def ZK{m':eU}(k:aL w S TS l)(e:oZ S=s)(q:s<t)(n:BG oZ t w l o m)(j:Nat)(v:WA)(p:o<=j)(d:j<o+13)(h:∀c b,w_ l o m c b->w_ (l.set j v) o m' c b)(g:m'.bK=m.bK)(i:m'.aP=m.aP):FB s t oZ S o l w m' (w.setCell (ay S j) v):=by
 have a:=f_.one k j v o 13 p d;obtain⟨c,b,r,u,x⟩:=n;have f:=a.kp e (T:=[s]) aM;refine⟨oZ,_,a.kp e aM,a.bY,a.dW,c,b,h _ _ r,?_,?_⟩;·rw[g];exact u.kp f rR
 ·rw[i];exact x.kp f rR
def VF{v v':WA}{a b:Int}(h:v=v')(c:a=b):Ending.returned (.tuple #[v,iZ a])=.returned (.tuple #[v',iZ b]):=by rw[h,c]
def vD(S:Nat)(y:Nat)(w:Wq)(c:w.cell? (ay S 238)=some (iZ y)):qH 137 #[aJ S 0] w (.bool (decide (y=0))) fun a=>a=w:=by go_enter func137,ntmps137;go_wp2;go_ret;refine⟨congrArg (fun b=>Ending.returned (.bool b)) ?_,rfl⟩;rw[qpn];simp
def vE(n a b:Int)(w:Wq):qH 185 #[iZ n,iZ a,iZ b] w (.bool (decide (a<=n/\n<=b))) fun e=>e=w:=by
 by_cases c:a<=n
 ·by_cases d:n<=b;·rw[decide_eq_true (show a<=n/\n<=b from⟨c,d⟩)];go_enter func185,ntmps185;go_wp2;go_ret;exact⟨rfl,rfl⟩
  ·rw[decide_eq_false (show¬(a<=n/\n<=b)from fun h=>d h.2)];go_enter func185,ntmps185;go_wp2;go_ret;exact⟨rfl,rfl⟩
 ·rw[decide_eq_false (show¬(a<=n/\n<=b)from fun h=>c h.1)];go_enter func185,ntmps185;go_wp2;go_ret;exact⟨rfl,rfl⟩
def vF(S k:Nat)(e:k<8)(w:Wq)(c:w.cell? (ay S 238)=some (iZ ((0:Nat):Int))):qH 146 #[aJ S 0,iZ k] w (.tuple #[(aJ S (4+27*k)),.nilIface]) fun a=>a=w:=by have d:=aF (vD S 0 w c);have b:=aF (vE (k:Int) 0 7 w);rw[decide_eq_true (show(0:Int)<=(k:Int)/\(k:Int)<=7 by omega)]at b;go_enter func146,ntmps146;go_wp2_with (first|(go_at_call 137;refine bH d.out ?_;rintro a rfl)|(go_at_call 185;refine bH b.out ?_;rintro a rfl)|go_in);go_ret2;rw[qni 27 k];exact⟨rfl,rfl⟩
def fH.open{b:WA}(h:fH oZ s w S l M bw bl bi b)(a:M.kW=0):w.cell? (ay S 238)=some (iZ ((0:Nat):Int)):=by rw[h.bY.cell,h.cells.oO,a]
def ZM{r:WA}(k:Nat)(i:k<8){b:List UInt8}(a:Addr)(c:Nat)(h:fH oZ s w S l M bw bl bi r)(p:M.kW=0)(n:(M.out k).aB.length<=2048)(g:dG w (some a) b)(f:b.length<=1000000000):qH 108 #[aJ S 0,iZ k,.slice (some a) b.length c] w (lH ((M.out k).send b).2) fun d=>iE s oZ w S bw bl bi (M.dD k ((M.out k).send b).1) d:=by have m:=aF (vF S k i w (h.open p));have j:=aF ((ZH s (s+1+5*k) (4+27*k) (M.out k) a c h.bY h.ow aj (h.out k i) n g f).mono fun e d (q:_/\_)=>(⟨q.1,h.dD k i _ q.2⟩:e=.returned (lH ((M.out k).send b).2)/\iE s oZ w S bw bl bi (M.dD k ((M.out k).send b).1) d));go_enter func108,ntmps108;go_wp2_with (first|(go_at_call 146;refine bH m.out ?_;rintro d rfl)|(go_at_call 147;refine bH j.out ?_;rintro d o)|go_in);go_ret;exact⟨rfl,o⟩
def RF(k:Nat)(b:k<8)(h:fH oZ s w S l M bw bl bi i)(g:M.kW=0):qH 109 #[aJ S 0,iZ k] w (lH (M.out k).finish.2) fun a=>iE s oZ w S bw bl bi (M.dD k (M.out k).finish.1) a:=by have d:=aF (vF S k b w (h.open g));have c:=aF ((Rp s (s+1+5*k) (4+27*k) (M.out k) h.bY h.ow aj (h.out k b)).mono fun e a (q:_/\_)=>(⟨q.1,h.dD k b _ q.2⟩:e=.returned (lH (M.out k).finish.2)/\iE s oZ w S bw bl bi (M.dD k (M.out k).finish.1) a));go_enter func109,ntmps109;go_wp2_with (first|(go_at_call 146;refine bH d.out ?_;rintro a rfl)|(go_at_call 148;refine bH c.out ?_;rintro a f)|go_in);go_ret;exact⟨rfl,f⟩
def Ab(s t:Nat)(oZ:Own)(S o:Nat)(l:bJ)(w:Wq)(m':eU)(w':Wq)(v:WA):Prop:=
 ∃a c,Kp [s,t,t+1] oZ a w w'/\aL w' S TS c/\kR l c o 13/\BG a t w' c o m'/\∀b,v.ownBlock=some b->a b=0
def Ab.drewN{s t:Nat}{oZ:Own}{S o:Nat}{l:bJ}{w w':Wq}{m:eU}{v:WA}(h:Ab s t oZ S o l w m w' v)(q:Nat):Ab s t oZ S o l w m (w'.drewN q) v:=by obtain⟨b,a,c,d,e,f,g⟩:=h;exact⟨b,a,c.drewN q,d,e,f.kp (Kp.below (w':=w'.drewN q) (T:=[]) ⟨rfl,rfl,rfl,qj _,fun _ _=>rfl⟩) aM aM (kR.refl a (o+13) 0) aj,g⟩
def XR(s:Nat)(oZ:Own)(w:Wq)(S:Nat)(bw bl bi:Nat)(M':av)(w':Wq)(v:WA):Prop:=∃a d c,fH a s w' S d M' bw bl bi c/\Kp (T0 s) oZ a w w'/\∀b,v.ownBlock=some b->a b=0
def qbb(s:Nat)(n:Nat)(hB:aL w S TS l)(hS:oZ S=s)(x9:0<s)(xa:s<t)(hO:BG oZ t w l o m)(h6:1<=n)(hn:n<=m.bK.length)(h3:m.aP.length=m.bK.length)(hl:m.bK.length<=1000000)(hr:m.aY+n<=dH):WB prog 238 #[aJ S o,iZ n] w fun e w'=>∃a c,e=.returned (.slice a n c)/\dY 5 1 w' (.slice a n c) n (bX (m.bK.take n))/\lQ w.heap.size (.slice a n c)/\Ab s t oZ S o l w (m.cut n) w' (.slice a n c):=by
 obtain⟨ow,f⟩:=bT (loc oZ w.heap.size);have p:ow S=s:=by rw[f,jo _ _ _ hB.lt,hS]
 have hw:BG ow t w l o m:=by rw[f];exact hO.loc
 obtain⟨vh,vc,F,k2,U⟩:=hw;obtain⟨ah,Y,rfl,x1,_⟩:=k2.shape;obtain⟨ac,cc,rfl,x0,_⟩:=U.shape;have x5:=hB.lt;obtain⟨i5,h5,h9,N,h0⟩:=info_parts Jp;have M:=run_makeSlice (P:=prog) w 60 5 i5 _ u29 h5 h9 .i64 .i64 (n:Int) (n:Int) aj (Int.le_refl _) (by rw[N];omega) (by rw[h0];omega) aj;obtain⟨ZA,K⟩:=bT (madeCells (fA .u8 0).cells ((n:Int).toNat*i5.size));have ha:ZA.toList.length=n:=by rw[K,qpp,size_madeCells,N];omega
 rw[<-K]at M;obtain⟨H,A⟩:=bT (w.alloc (.cells ZA 5));rw[<-A]at M;simp only[qp6]at M;have L:aL H w.heap.size 5 ZA.toList:=by rw[A];exact aL.new w 5 _
 have nY:bE w H:=by rw[A];exact(qlw _ w).alloc (qj _) _
 have x6:H.heap.size=w.heap.size+1:=by rw[A];simp
 have I:=hB.of_heap (nY.block _ x5);have he:=k2.kp (Kp.below (T:=[]) nY) aM;obtain⟨g,hg⟩:∃g,ah=some (ay g 0):=by
  rcases k2 with⟨h1,h2,_⟩|⟨g,cap,cs,hv,_⟩;·omega
  ·simp at hv;exact⟨g,hv.1⟩
 subst hg;have h4:=fun ty=>jK (P:=prog) (w:=H) 60 60 ty 5 (g:=w.heap.size) (o:=0) (dLen:=n) (dCap:=n) L (ay g 0) m.bK.length Y 1 n (bX (m.bK.take n)) u29 bO (by show min m.bK.length n=n;omega) (by rw[dN];simp;omega) (fun j v hj=>by
  rw[qmb,qm5];obtain⟨g',x2,_,_,hc,_⟩:=he.cell j v (by
   have x3:(bX m.bK)[j]?=some v:=by
    have:(bX (m.bK.take n))=(bX m.bK).take n:=by simp[bX]
    rw[this,qm6]at hj;split at hj;·exact hj
    ·cases hj
   exact x3)
  cases x2;exact hc) (by rw[ha,dN];simp;omega) (iJ _)
 have h7:aU ZA.toList 0 (bX (m.bK.take n))=bX (m.bK.take n):=by
  have x4:(bX (m.bK.take n)).length=n:=by rw[dN];simp;omega
  unfold aU;rw[qop,x4,qnj aj];simp
 rw[h7]at h4;obtain⟨W2,B⟩:=bT (put H w.heap.size (bX (m.bK.take n)));have W:aL W2 w.heap.size 5 (bX (m.bK.take n)):=by rw[B];exact L.put _
 have E:l6 w.heap.size H W2:=by rw[B];exact⟨rfl,rfl,rfl,by simp[put],fun k hk=>gY _ _ _ _ hk⟩
 have d:=E.below nY (qj _);have r:=I.of_heap (E.block _ aj);have hm:=k2.kp (Kp.below (T:=[]) d) aM;have ho:=U.kp (Kp.below (T:=[]) d) aM;rw[<-B]at h4;have d5:H.cell? (ay S (o+5))=some (dh g m.bK.length Y):=by rw[I.cell];exact F.c5
 have e5:W2.cell? (ay S (o+5))=some (dh g m.bK.length Y):=by rw[r.cell];exact F.c5
 have HD:=aF (Vy n m.bK (some (ay g 0)) Y h6 hn hl hm);have HK:=aF (dw r (dw F (dw ho (dw W d))));have HH:=aF (dw p f);have D:ow w.heap.size=0:=by rw[f,iY _ _ _ (qj _)]
 have xd:W2.heap.size=w.heap.size+1:=by rw[E.size,x6]
 have g1:((n:Int)==0)=false:=rR;have g2:(0:Int)<=(n:Int):=aj;clear F k2 U he hm ho hB I r L W nY d E h7 hO p f B x1 x0 ha h5 h9 N h0 K A;have BJ:=aF h3;clear h3;go_enter func238,ntmps238;go_wp2_with fail;refine HD.out.mono ?_;rintro e y ⟨a1,c1,rfl,u,i⟩;obtain⟨r,F,U,W,d⟩:=HK.out;obtain⟨p,f⟩:=HH.out;have yD:=bU r i (by rw[p];simp;omega);have X:=bU W i (by rw[D];simp;omega);have hf:=U.kp i aM;have d5:y.cell? (ay S (o+5))=some (dh g m.bK.length Y):=by rw[yD.cell];exact F.c5
 have d6:y.cell? (ay S (o+6))=some (.slice ac m.aP.length cc):=by rw[yD.cell];exact F.c6
 have f5:=yD.frozen (o+5);have G:=f_.one yD (o+5) (.slice a1 (m.bK.length-n) c1) o 13 aj aj;obtain⟨Y1,J⟩:=bT (y.setCell (ay S (o+5)) (.slice a1 (m.bK.length-n) c1));rw[<-J]at G;have q:=G.kp p (T:=[s]) aM;have V:=aF (Vz (t+1) n m.aP cc h6 (by rw[BJ.out];exact hn) (by rw[BJ.out];exact hl) (hf.kp q rR));have Vf:=aF (dw G (dw (u.kp q rR) (dw (bU X q (by rw[D];simp;omega)) (dw i q))));clear r U W yD X hf u i G q e5 HD;go_wp2_with fail;rw[<-J];clear J d5 d6 f5;refine V.out.mono ?_;rintro e z ⟨Q,R,rfl,Z,x⟩;obtain⟨G,u,X,i,q⟩:=Vf.out;have lC:=bU G.bY x (by rw[p];simp;omega);have hu:=bU X x (by rw[D];simp);have i1:=CB F (.slice a1 (m.bK.length-n) c1) (m.bK.drop n);have d6:z.cell? (ay S (o+6))=some (.slice ac m.aP.length cc):=by rw[lC.cell];exact i1.c6
 have d4:z.cell? (ay S (o+4))=some (uZ m.aY):=by rw[lC.cell];exact i1.c4
 have ff:=fun j=>lC.frozen j;have HF:Hid (dY 5 1 ((z.setCell (ay S (o+6)) (.slice Q (m.aP.length-n) R)).setCell (ay S (o+4)) (uZ ((m.aY+n:Nat):Int))) (dh w.heap.size n n) n (bX (m.bK.take n))/\lQ w.heap.size (dh w.heap.size n n)/\Ab s t oZ S o l w (m.cut n) ((z.setCell (ay S (o+6)) (.slice Q (m.aP.length-n) R)).setCell (ay S (o+4)) (uZ ((m.aY+n:Nat):Int))) (dh w.heap.size n n)):=by
  have h8:=f_.one lC (o+6) (.slice Q (m.aP.length-n) R) o 13 aj aj;have O:=h8.trans (f_.one h8.bY (o+4) (uZ ((m.aY+n:Nat):Int)) o 13 aj aj);have C:=O.kp p (T:=[s]) aM;have hx:=bU hu C (by rw[D];simp;omega);refine⟨.inr ⟨w.heap.size,n,_,rfl,hx,by rw[dN,qm8];omega,qj _,aj,by rw[dN,qm8];omega,by rw[qo7];exact qmo (by rw[dN,qm8];omega),iJ _⟩,fun k hk=>by simp[eT]at hk;omega,?_⟩;have hK:Kp [s,t,t+1] ow ow w ((z.setCell (ay S (o+6)) (.slice Q (m.aP.length-n) R)).setCell (ay S (o+4)) (uZ ((m.aY+n:Nat):Int))):=
   ((((Kp.below d).trans (i.mono aM)).trans (q.mono aM)).trans (x.mono aM)).trans (C.mono aM)
  rw[f]at hK;refine⟨_,_,hK.j_,O.bY,G.dW.trans O.dW,⟨.slice a1 (m.bK.length-n) c1,.slice Q (m.aP.length-n) R,VB (CF i1 (.slice Q (m.aP.length-n) R) (m.aP.drop n)) (m.aY+n),?_,?_⟩,fun b hb=>by simp[eT]at hb;rw[<-hb];exact iY _ _ _ (qj _)⟩;·have:=(u.kp x aM).kp C rR;rw[f]at this;exact this
  ·have:=Z.kp C rR;rw[f]at this;exact this
 rw[show((m.aY+n:Nat):Int)=(m.aY:Int)+(n:Int) by omega]at HF;have x7:m.aY+n<18446744073709551616:=by unfold dH at hr;omega
 have x8:n<18446744073709551616:=aj;clear G u X i q lC hu i1 Z x F d Vf V p f HH HK hr;go_wp2;go_ret;exact⟨_,_,rfl,HF.out⟩
def XV(s t:Nat)(oZ:Own)(S o n:Nat)(m:eU)(l:bJ)(w:Wq)(i:aL w S TS l)(q:oZ S=s)(f:0<s)(g:s<t)(j:BG oZ t w l o m)(x:n<=m.bK.length)(d:m.aP.length=m.bK.length)(v:m.bK.length<=1000000)(y:m.aY+n<=dH):WB prog 238 #[aJ S o,iZ n] w fun e h=>∃a c,e=.returned (.slice a n c)/\dY 5 1 h (.slice a n c) n (bX (m.bK.take n))/\lQ w.heap.size (.slice a n c)/\Ab s t oZ S o l w (m.cut n) h (.slice a n c):=by
 by_cases p:n=0;·subst p;refine bH (ZJ S o w) ?_;rintro h rfl;exact⟨none,0,rfl,.inl ⟨rfl,rfl,by simp[bX]⟩,fun k u=>by simp[eT]at u,by rw[VE];exact⟨oZ,l,Kp.refl _ _ _,i,kR.refl _ _ _,j,fun b r=>by simp[eT]at r⟩⟩
 ·exact qbb s n i q f g j aj x d v y
def XW(s t:Nat)(o:Nat)(d:Int)(m:eU)(O:aL w S TS l)(hS:oZ S=s)(h5:0<s)(I:s<t)(hO:BG oZ t w l o m)(C:Mr m)(hr:m.aY+m.bK.length<=dH):WB prog 184 #[aJ S o,iZ d] w fun e w'=>∃a c,e=.returned (.tuple #[.slice a (m.rd d).1.length c,(iZ ((m.rd d).2.state:Int))])/\dY 5 1 w' (.slice a (m.rd d).1.length c) (m.rd d).1.length (bX (m.rd d).1)/\lQ w.heap.size (.slice a (m.rd d).1.length c)/\Ab s t oZ S o l w (m.rd d).2 w' (.slice a (m.rd d).1.length c):=by
 have Y:=O.lt;obtain⟨x,u,k1,k2,k3⟩:=hO;have j:=aF (VA (t+1) O k1 k3 (by rw[C.cl];exact C.hl));have h0:m.ready<=m.bK.length:=by rw[<-C.cl];exact Cz m.aP
 obtain⟨n,hn⟩:=bT (min m.ready (max d 0).toNat);obtain⟨x1,h9,h6⟩:=qd1 d 0;obtain⟨x2,ha,h7⟩:=Pp (m.ready:Int) x1;obtain rfl:x2=(n:Int):=aj;have H:(m.bK.take n).length=n:=rR;have zo:Hid ((m.rd d).1=m.bK.take n):=by unfold Hid;rw[hn];rfl
 have f:Hid ((m.rd d).2={m.cut n with state:=if(m.cut n).state=0 then(m.cut n).iT else(m.cut n).state}):=by unfold Hid;rw[hn];rfl
 generalize m.rd d=X at *
 rw[zo.out,H];have K:=aF (XV s t oZ S o n m l w O hS h5 I ⟨x,u,k1,k2,k3⟩ aj C.cl C.hl aj);have g:Hid ((m.cut n).state=m.state):=rfl;generalize m.cut n=M at *
 generalize m.ready=RD at *
 clear hn h6 h7 h0 O k1 k2 k3 hr C;by_cases F:m.state=0
 ·rw[g.out,bM F]at f;go_enter func184,ntmps184;go_wp2_with fail;refine bH j.out ?_;rintro y rfl;go_wp2_with fail;refine K.out.mono ?_;rintro e z ⟨a,c,rfl,B,hF,L,r,A,k,G,N,J⟩;obtain⟨x,u,p,Q,U⟩:=N;have i:z.cell? (ay S (o+12))=some (iZ M.state):=qe3 S o M x u z r k p;rw[g.out,F]at i;have E:=aF (Nk S o M x u z r k p);have HK:Hid (∀q,Ab s t oZ S o l y {M with state:=M.iT} ((z.drewN q).setCell (ay S (o+12)) (iZ M.iT)) (.slice a n c)/\dY 5 1 ((z.drewN q).setCell (ay S (o+12)) (iZ M.iT)) (.slice a n c) n (bX (m.bK.take n))):=fun q=>by
   have W:L S=s:=by rw[A.ext _ Y,hS]
   have V:BG L t (z.drewN q) r o M:=BG.kp ⟨x,u,p,Q,U⟩ (Kp.below (w':=z.drewN q) (T:=[]) ⟨rfl,rfl,rfl,qj _,fun _ _=>rfl⟩) aM aM (kR.refl r (o+13) 0) aj;obtain⟨gy,l2,g1,g2,g3,g4⟩:=ZK (w:=z.drewN q) k W I V (o+12) (iZ M.iT) aj aj (m':={M with state:=M.iT}) (fun _ _ h=>Ry h _) rfl rfl;exact⟨⟨gy,l2,(A.drewN q).trans g1,g2,G.trans g3,g4,fun b P=>by rw[g1.ext b (B.lt b P),J b P]⟩,B.of_heap (fun b P=>qmd _ _ _ _ (by have:=hF b P;simp;omega))⟩
  have f12:=k.frozen (o+12);have HF:=aF hF;clear A k G p Q U B hF F J;generalize M.iT=R at *
  go_wp2_with fail;refine bH E.out ?_;rintro v ⟨q,rfl⟩;have D:=aF (HK.out q);have h8:(z.drewN q).cell? (ay S (o+12))=some (iZ 0):=i;have ef:(z.drewN q).frozen? (ay S (o+12))=false:=f12;generalize z.drewN q=Z at *
  clear i f12 E HK K j;go_wp2_with fail;go_quiet (fail);go_wp2;go_ret2;refine⟨a,c,VF rfl (by rw[f.out]),?_,HF.out,?_⟩;·exact dY.of_heap D.out.2 (fun _ _=>rfl)
  ·rw[f.out];exact Ab.drewN D.out.1 _
 ·rw[g.out,aV F]at f;have yG:((m.state:Int)==0)=false:=rR;have HM:Hid (({M with state:=m.state}:eU)=M):=by unfold Hid;rw[<-g.out]
  go_enter func184,ntmps184;go_wp2_with fail;refine bH j.out ?_;rintro y rfl;go_wp2_with fail;refine K.out.mono ?_;rintro e z ⟨a,c,rfl,B,hF,hQ⟩;obtain⟨L,r,A,k,G,N,J⟩:=hQ;have HQ:Hid (Ab s t oZ S o l y M z (.slice a n c)):=⟨L,r,A,k,G,N,J⟩;obtain⟨x,u,p,Q,U⟩:=N;have i:z.cell? (ay S (o+12))=some (iZ M.state):=qe3 S o M x u z r k p;rw[g.out]at i;have HG:=aF (dw B hF);clear A k G p Q U B hF F K j J;go_wp2_with fail;go_quiet (fail);go_wp2;go_ret2;refine⟨a,c,VF rfl (by rw[f.out]),?_,HG.out.2,?_⟩;·exact dY.of_heap HG.out.1 (fun _ _=>rfl)
  ·rw[f.out,HM.out];exact Ab.drewN HQ.out _
def fH.qho{w':Wq}(h:fH oZ s w S l M bw bl bi i)(k:Nat)(r:k<8)(m:eU)(v:WA)(q:Ab s (s+4+5*k) oZ S (18+27*k) l w m w' v):XR s oZ w S bw bl bi (M.fT k m) w' v:=by
 obtain⟨n,y,K,o,g,p,u⟩:=q;have a:∀x,x∈[s,s+4+5*k,s+4+5*k+1]->x=s\/(s+4+5*k<=x/\x<=s+5+5*k):=fun x f=>by simp only[qme,qoc,or_false]at f;omega
 have t:∀j,(M.fT k m).cK j=if j=k then m else M.cK j:=fun j=>by
  rw[jT,h.li];by_cases b:j=k;·rw[bM ⟨b,r⟩,bM b]
  ·rw[aV (fun x=>b x.1),aV b]
 refine⟨n,y,i,⟨by rw[K.ext S h.bY.lt,h.ow],h.s0,o,?_,fun j b=>?_,fun j b=>?_,h.row.kp K (fun e=>bR (a _ e)),h.Ay.kp K (fun e=>bR (a _ e)) (fun e=>bR (a _ e)),h.b_.kp K (fun e=>bR (a _ e)) (fun e=>bR (a _ e)),(h.qu.kp K (fun e=>bR (a _ e)) (fun e=>bR (a _ e)) (fun e=>bR (a _ e))).eq rfl,h.lo,(jB _ _ _).trans h.li⟩,K.mono fun x f=>fC.2 (bR (a x f)),u⟩;·have c:=h.cells.dW g aj aj;exact⟨c.len,c.c0,c.c1,c.c2,c.c3,c.qU,c.gr,c.sP,c.sQ,c.pQ,c.nH,c.n_,c.oM,c.rV,c.nJ,c.jd,c.qA,c.pR,c.qV,c.rW,c.oO,c.tY⟩
 ·exact(h.out j b).kp K (fun e=>bR (a _ e)) (fun e=>bR (a _ e)) (fun e=>bR (a _ e)) g aj
 ·rw[t];by_cases d:j=k;·subst d;rw[bM rfl];exact p
  ·rw[aV d];exact(h.cK j b).kp K (fun e=>bR (a _ e)) (fun e=>bR (a _ e)) g aj
def XY{x:WA}(k:Nat)(j:k<8)(b:Int)(h:fH oZ s w S l M bw bl bi x)(t:M.kW=0)(u:Mr (M.cK k))(r:(M.cK k).aY+(M.cK k).bK.length<=dH):WB prog 140 #[aJ S 0,iZ k,iZ b] w fun e d=>∃a c,e=.returned (.tuple #[.slice a ((M.cK k).rd b).1.length c,(iZ (((M.cK k).rd b).2.state:Int)),.nilIface])/\dY 5 1 d (.slice a ((M.cK k).rd b).1.length c) ((M.cK k).rd b).1.length (bX ((M.cK k).rd b).1)/\lQ w.heap.size (.slice a ((M.cK k).rd b).1.length c)/\XR s oZ w S bw bl bi (M.fT k ((M.cK k).rd b).2) d (.slice a ((M.cK k).rd b).1.length c):=by
 have m:=aF (vF S k j w (h.open t));have f:18+27*k=4+27*k+14:=aj;have g:=XW s (s+4+5*k) (18+27*k) b (M.cK k) h.bY h.ow h.s0 aj (h.cK k j) u r;rw[f]at g;have i:∀d v,Ab s (s+4+5*k) oZ S (4+27*k+14) l w ((M.cK k).rd b).2 d v->XR s oZ w S bw bl bi (M.fT k ((M.cK k).rd b).2) d v:=fun d v q=>h.qho k j _ v (by rw[f];exact q);replace g:=aF g;replace i:=aF i;generalize (M.cK k).rd b=X at *
 go_enter func140,ntmps140;go_wp2_with (first|(go_at_call 146;refine bH m.out ?_;rintro d rfl)|(go_at_call 184;refine g.out.mono ?_;rintro e d ⟨a,c,rfl,n,o,p⟩)|go_in);go_ret3
 exact⟨a,c,rfl,n,o,i.out _ _ p⟩
def qlt(w:Wq)(o:Obj):((w.alloc o).alloc (.map #[] 0)).heap[w.heap.size+1]?=some (.map #[] 0):=by have h:=eB (w.alloc o) (.map #[] 0);rw[qmx]at h;exact h
def Uo(w:Wq):WB prog 143 #[] w fun e a=>∃b,e=.returned (.agg #[nZ,.int .u64 0,.map (some b)])/\bE w a/\a.heap[b]?=some (.map #[] 0)/\w.heap.size<=b:=by have c:=@run_makeMap prog;go_enter func143,ntmps143;go_wp2;exact bodyPost_ret (v:=.agg #[nZ,.int .u64 0,.map (some (w.heap.size+1))]) (by simp[results,results143,go_sem]) rfl ⟨_,rfl,((qlw _ w).alloc (qj _) _).alloc aM _,qlt _ _,aj⟩
def YE(d c e:Nat)(k:64<=d/\d<=400)(m:16<=c/\c<=4096)(l:16<=e/\e<=4096)(w:Wq):qH 141 #[.agg #[.int .i64 d,.int .i64 c,.int .i64 e]] w (.bool true) fun b=>bE w b:=by
 have g:Hid (∀y,qH 185 #[.int .i64 d,.int .i64 64,.int .i64 400] y (.bool true) fun b=>b=y):=fun y=>by have:=vE (d:Int) 64 400 y;rwa[decide_eq_true aj]at this
 have i:Hid (∀y,qH 185 #[.int .i64 c,.int .i64 16,.int .i64 4096] y (.bool true) fun b=>b=y):=fun y=>by have:=vE (c:Int) 16 4096 y;rwa[decide_eq_true aj]at this
 have j:Hid (∀y,qH 185 #[.int .i64 e,.int .i64 16,.int .i64 4096] y (.bool true) fun b=>b=y):=fun y=>by have:=vE (e:Int) 16 4096 y;rwa[decide_eq_true aj]at this
 clear k m l;go_enter func141,ntmps141;go_wp2_with (first|(go_at_call_has 185 (fA .i64 d);refine bH (g.out _) ?_;rintro y f;have a:=f.symm;subst a)|(go_at_call_has 185 (fA .i64 c);refine bH (i.out _) ?_;rintro y f;have a:=f.symm;subst a)|(go_at_call_has 185 (fA .i64 e);refine bH (j.out _) ?_;rintro y f;have a:=f.symm;subst a));go_ret;exact⟨rfl,(qlw _ w).alloc (qj _) _⟩
def AZ:∀(a:bJ) (j:Nat) (l:bJ),(mU j a l).length=l.length
 |[],_,_=>rfl
 |v::a,j,l=>by show(mU (j+1) a (l.set j v)).length=_;rw[AZ a,qn3]
def LU:∀(a:bJ) (j:Nat) (l:bJ) (i:Nat),i<l.length->(mU j a l)[i]?=if j<=i/\i<j+a.length then a[i-j]? else l[i]?
 |[],j,l,i,_=>by rw[aV (by simp only[qnc];omega)];rfl
 |v::a,j,l,i,h=>by
  show(mU (j+1) a (l.set j v))[i]?=_;rw[LU a (j+1) (l.set j v) i (by rw[qn3];exact h)];by_cases c:i=j;·subst c;rw[aV aj,bM aM,qo0 h,qnk];rfl
  ·by_cases b:j+1<=i/\i<j+1+a.length;·rw[bM b,bM (by simp only[qmp];omega)];obtain⟨d,e⟩:∃d,i-j=d+1:=⟨i-j-1,aj⟩;rw[e,show i-(j+1)=d by omega];rfl
   ·rw[aV b,aV (by simp only[qmp];omega),qn1 aj]
def Jl(A V:bJ)(j:Nat):bJ:=(List.range 240).map fun i=>if 4<=i/\i<4+27*j then V.getD ((i-4) % 27) (.tuple #[])else A.getD i (.tuple #[])
def qw(A V:bJ)(j:Nat):(Jl A V j).length=240:=by simp[Jl]
def vQ(A V:bJ)(j i:Nat)(h:i<240):(Jl A V j)[i]?=some (if 4<=i/\i<4+27*j then V.getD ((i-4) % 27) (.tuple #[])else A.getD i (.tuple #[])):=by unfold Jl;rw[qn8,List.getElem?_range h];rfl
def YF(A V:bJ)(h:A.length=240):Jl A V 0=A:=by
 refine qon fun i=>?_;by_cases a:i<240;·rw[vQ A V 0 i a,aV aj,qly,qm3 aj];rfl
 ·rw[qn7 (by rw[qw];omega),qn7 aj]
def YG(A V:bJ)(d:V.length=27)(j:Nat)(e:j<8):mU (4+27*j) V (Jl A V j)=Jl A V (j+1):=by
 refine qon fun i=>?_;by_cases a:i<240
 ·rw[LU V _ _ i (by rw[qw];exact a),vQ A V (j+1) i a,vQ A V j i a,d];by_cases b:4+27*j<=i/\i<4+27*j+27;·rw[bM b,bM aj];have:(i-4) % 27=i-(4+27*j):=aj;rw[this,qly,qm3 aj];rfl
  ·rw[aV b];by_cases c:4<=i/\i<4+27*j;·rw[bM c,bM aj]
   ·rw[aV c,aV aj]
 ·rw[qn7 (by rw[AZ,qw];omega),qn7 (by rw[qw];omega)]
def qc9(A V:bJ)(k i:Nat)(c:k<8)(b:i<27)(x:WA)(a:V[i]?=some x):(Jl A V 8)[4+27*k+i]?=some x:=by rw[vQ A V 8 _ aj,bM aj];have:(4+27*k+i-4) % 27=i:=aj;rw[this,qly,a];rfl
def qca(A V:bJ)(i:Nat)(c:i<4\/220<=i)(a:i<240)(x:WA)(b:A[i]?=some x):(Jl A V 8)[i]?=some x:=by rw[vQ A V 8 _ a,aV aj,qly,b];rfl
def qcb(c b a bw bl bi:Nat)(A:Array WA):Prop:=
 A=((((((((((((((((zeroCells210.setIfInBounds 0 (iZ c)).setIfInBounds 1 (iZ b)).setIfInBounds 2 (iZ a)).setIfInBounds 220 (uZ (IntKind.u64.wrap (a:Int)))).setIfInBounds 221 (uZ a)).setIfInBounds 222 (uZ a)).setIfInBounds 223 (uZ 0)).setIfInBounds 224 (uZ a)).setIfInBounds 225 (iZ 8)).setIfInBounds 226 (uZ 0)).setIfInBounds 227 nZ).setIfInBounds 230 (.map (some bw))).setIfInBounds 231 (.map (some bl))).setIfInBounds 235 nZ).setIfInBounds 236 (uZ 0)).setIfInBounds 237 (.map (some bi)))
def qcc:zeroCells210.size=240:=bO
def Uq:zeroCells210[3]?=some (uZ 0):=bO
def LV:zeroCells210[228]?=some (.bool false):=bO
def LW:zeroCells210[229]?=some (uZ 0):=bO
def LY:zeroCells210[232]?=some (uZ 0):=bO
def LZ:zeroCells210[233]?=some nZ:=bO
def L6:zeroCells210[234]?=some (uZ 0):=bO
def L8:zeroCells210[238]?=some (iZ 0):=bO
def L9:zeroCells210[239]?=some (.bool false):=bO
def L_(l k a bw bl bi:Nat)(Z A:Array WA)(n:Int)(g:n=(a:Int))(m:Z.size=240)(o:Z[3]?=some (uZ 0))(b:Z[228]?=some (.bool false))(c:Z[229]?=some (uZ 0))(d:Z[232]?=some (uZ 0))(e:Z[233]?=some nZ)(f:Z[234]?=some (uZ 0))(i:Z[238]?=some (iZ 0))(j:Z[239]?=some (.bool false))(h:A=((((((((((((((((Z.setIfInBounds 0 (iZ l)).setIfInBounds 1 (iZ k)).setIfInBounds 2 (iZ a)).setIfInBounds 220 (uZ n)).setIfInBounds 221 (uZ a)).setIfInBounds 222 (uZ a)).setIfInBounds 223 (uZ 0)).setIfInBounds 224 (uZ a)).setIfInBounds 225 (iZ 8)).setIfInBounds 226 (uZ 0)).setIfInBounds 227 nZ).setIfInBounds 230 (.map (some bw))).setIfInBounds 231 (.map (some bl))).setIfInBounds 235 nZ).setIfInBounds 236 (uZ 0)).setIfInBounds 237 (.map (some bi)))):A.size=240/\A[0]?=some (iZ l)/\A[1]?=some (iZ k)/\A[2]?=some (iZ a)/\A[3]?=some (uZ 0)/\A[220]?=some (uZ a)/\A[221]?=some (uZ a)/\A[222]?=some (uZ a)/\A[223]?=some (uZ 0)/\A[224]?=some (uZ a)/\A[225]?=some (iZ 8)/\A[226]?=some (uZ 0)/\A[227]?=some nZ/\A[228]?=some (.bool false)/\A[229]?=some (uZ 0)/\A[230]?=some (.map (some bw))/\A[231]?=some (.map (some bl))/\A[232]?=some (uZ 0)/\A[233]?=some nZ/\A[234]?=some (uZ 0)/\A[235]?=some nZ/\A[236]?=some (uZ 0)/\A[237]?=some (.map (some bi))/\A[238]?=some (iZ 0)/\A[239]?=some (.bool false):=by
 rw[g]at h;rw[h];refine⟨by simp only[Array.size_setIfInBounds,m],?_,?_,?_,?_,?_,?_,?_,?_,?_,?_,?_,?_,?_,?_,?_,?_,?_,?_,?_,?_,?_,?_,?_,?_⟩;all_goals simp[m]
 ·exact(qmt.1 o).2
 ·exact(qmt.1 b).2
 ·exact(qmt.1 c).2
 ·exact(qmt.1 d).2
 ·exact(qmt.1 e).2
 ·exact(qmt.1 f).2
 ·exact(qmt.1 i).2
 ·exact(qmt.1 j).2
def qcb.cells{c a:Nat}(h:qcb c b a bw bl bi A)(d:a<=4096):A.size=240/\A[0]?=some (iZ c)/\A[1]?=some (iZ b)/\A[2]?=some (iZ a)/\A[3]?=some (uZ 0)/\A[220]?=some (uZ a)/\A[221]?=some (uZ a)/\A[222]?=some (uZ a)/\A[223]?=some (uZ 0)/\A[224]?=some (uZ a)/\A[225]?=some (iZ 8)/\A[226]?=some (uZ 0)/\A[227]?=some nZ/\A[228]?=some (.bool false)/\A[229]?=some (uZ 0)/\A[230]?=some (.map (some bw))/\A[231]?=some (.map (some bl))/\A[232]?=some (uZ 0)/\A[233]?=some nZ/\A[234]?=some (uZ 0)/\A[235]?=some nZ/\A[236]?=some (uZ 0)/\A[237]?=some (.map (some bi))/\A[238]?=some (iZ 0)/\A[239]?=some (.bool false):=
 L_ c b a bw bl bi zeroCells210 A (IntKind.u64.wrap (a:Int)) (by rw[qn5];omega) qcc Uq LV LW LY LZ L6 L8 L9 h
def nG.nil(oZ:Own)(t:Nat)(w:Wq)(S:Nat):nG oZ t w S nZ []:=⟨none,0,rfl,qj _,aj,.inl ⟨rfl,rfl,rfl⟩,fun b a=>by cases a⟩
def GT.nil(oZ:Own)(t:Nat)(e:TypeId)(k:Nat)(w:Wq):GT oZ t e k w nZ 0 []:=.inl ⟨rfl,rfl,rfl⟩
def YH(h:w.heap[b]?=some (.map #[] 0)):mD w b []:=by obtain⟨d,⟨c,a,e,f⟩,g⟩:=mD.made ({w with heap:=#[]}:Wq);refine⟨d,⟨c,a,h.trans ?_,f⟩,g⟩;have:=eB ({w with heap:=#[]}:Wq) (.map #[] 0);exact this.symm.trans e
def qlu(h:w.heap[b]?=some (.map #[] 0)):xM w b []:=by obtain⟨d,⟨c,a,e,f⟩,g⟩:=xM.made ({w with heap:=#[]}:Wq);refine⟨d,⟨c,a,h.trans ?_,f⟩,g⟩;have:=eB ({w with heap:=#[]}:Wq) (.map #[] 0);exact this.symm.trans e
def qfr{r:Nat}(T:qcb t b r bw bl bi A)(W:r<=4096)(V:0<s)(U:aL w S TS (Jl A.toList (oo b++Bp b) 8))(Q:w.heap[bw]?=some (.map #[] 0))(v:w.heap[bl]?=some (.map #[] 0))(R:w.heap[bi]?=some (.map #[] 0))(X:oZ S=s)(Y:oZ bw=s+42)(Z:oZ bl=s+43)(o4:oZ bi=s+55):fH oZ s w S (Jl A.toList (oo b++Bp b) 8) (av.new t b r) bw bl bi nZ:=by
 obtain⟨hz,K,L,M,N,y,z,e,B,C,D,f,h,j,l,E,F,m,n,o,G,p,H,I,J⟩:=T.cells W;have g:∀i x,(i<4\/220<=i)->i<240->A[i]?=some x->(Jl A.toList (oo b++Bp b) 8)[i]?=some x:=fun i x u v d=>qca _ _ i u v x (by rw[Array.getElem?_toList];exact d);have q:∀k i x,k<8->i<27->(oo b++Bp b)[i]?=some x->(Jl A.toList (oo b++Bp b) 8)[4+27*k+i]?=some x:=fun k i x a u d=>qc9 _ _ k i a u x d;have P:∀k,k<8->(av.new t b r).out k=Ot.new b:=fun k a=>by show(List.replicate 8 (Ot.new b)).getD k Aj=_;rw[qly,qpm,bM a];rfl
 have O:∀k,k<8->(av.new t b r).cK k=eU.new b:=fun k a=>by show(List.replicate 8 (eU.new b)).getD k zF=_;rw[qly,qpm,bM a];rfl
 refine⟨X,V,U,⟨qw _ _ _,g _ _ aj aj K,g _ _ aj aj L,g _ _ aj aj M,g _ _ aj aj N,g _ _ aj aj y,⟨g _ _ aj aj z,g _ _ aj aj e,g _ _ aj aj B,g _ _ aj aj C⟩,g _ _ aj aj D,g _ _ aj aj f,g _ _ aj aj h,g _ _ aj aj j,g _ _ aj aj l,g _ _ aj aj E,g _ _ aj aj F,g _ _ aj aj m,g _ _ aj aj n,g _ _ aj aj o,g _ _ aj aj G,g _ _ aj aj p,g _ _ aj aj H,g _ _ aj aj I,g _ _ aj aj J⟩,fun k a=>?_,fun k a=>?_,nG.nil _ _ _ _,⟨fun _=>(none,0),Y,YH Q,fun x d=>by cases d⟩,⟨fun _=>(none,0),Z,YH v,fun x d=>by cases d⟩,⟨GT.nil _ _ _ _ _,GT.nil _ _ _ _ _,o4,qlu R⟩,by simp[av.new],by simp[av.new]⟩;·rw[P k a];refine⟨nZ,nZ,nZ,⟨q k 0 _ a aj rfl,q k 1 _ a aj rfl,⟨q k 2 _ a aj rfl,q k 3 _ a aj rfl,q k 4 _ a aj rfl,q k 5 _ a aj rfl⟩,q k 6 _ a aj rfl,q k 7 _ a aj rfl,q k 8 _ a aj rfl,q k 9 _ a aj rfl,q k 10 _ a aj rfl,q k 11 _ a aj rfl,q k 12 _ a aj rfl,q k 13 _ a aj rfl⟩,GT.nil _ _ _ _ _,nG.nil _ _ _ _,nG.nil _ _ _ _⟩
 ·rw[O k a];have c:∀i x,i<13->(oo b++Bp b)[14+i]?=some x->(Jl A.toList (oo b++Bp b) 8)[18+27*k+i]?=some x:=fun i x u d=>by
   rw[show 18+27*k+i=4+27*k+(14+i) by omega];exact q k (14+i) x a aj d
  exact⟨nZ,nZ,⟨⟨c 0 _ aj rfl,c 1 _ aj rfl,c 2 _ aj rfl,c 3 _ aj rfl⟩,c 4 _ aj rfl,c 5 _ aj rfl,c 6 _ aj rfl,c 7 _ aj rfl,c 8 _ aj rfl,c 9 _ aj rfl,c 10 _ aj rfl,c 11 _ aj rfl,c 12 _ aj rfl⟩,GT.nil _ _ _ _ _,GT.nil _ _ _ _ _⟩
section
def qcd{c:Code}{K:Act->Wq->Prop}{Q':Exit->Act->Wq->Prop}{a:Act}(act:Nat->Nat->Nat->Nat->Array WA->Act)(R:Nat->Nat->Nat->Nat->Array WA->Wq->Prop)(h:c.wp prog (Exit.then (fun m l=>∃d f g j k,m=act d f g j k/\R d f g j k l) fun _ _ _=>False) a w)(o:∀d f g j k l,R d f g j k l->K (act d f g j k) l):c.wp prog (Exit.then K Q') a w:=
 wp_mono h fun e m l b=>by
  cases e with
  |normal=>obtain⟨d,f,g,j,k,rfl,n⟩:=b;exact o _ _ _ _ _ _ n
  |ret=>exact b.elim
  |exit i=>exact b.elim
  |goto i=>exact b.elim
  |panic c=>exact b.elim
  |outgrown=>exact b.elim
def pz(h:bE z y):bE z y.drew:=⟨h.os,h.tape,h.output,h.size,h.block⟩
def pF(o:Obj)(h:bE z y):bE z (y.alloc o):=h.alloc h.size o
def YI(z:Wq)(h:Below (z.alloc (.map #[] 0)).heap.size (z.alloc (.map #[] 0)) Y):Y.heap[z.heap.size]?=some (.map #[] 0):=(h.block _ aM).trans (eB z _)
def qce(z:Wq)(o:Obj)(h:Below ((z.alloc o).alloc (.map #[] 0)).heap.size ((z.alloc o).alloc (.map #[] 0)) Y):Y.heap[z.heap.size+1]?=some (.map #[] 0):=by have:=YI (z.alloc o) h;rwa[qmx]at this
def qlv(h:y.heap[b]?=some (.map #[] 0))(a:bE y Y):Y.heap[b]?=some (.map #[] 0):=(a.block b (qmt.1 h).1).trans h
def qkj(c b d:Nat)(a:Wq)(S bw bl bi:Nat)(A:Array WA)(w':Wq):Prop:=
 ∃Y,w'=Y.alloc (.cells A 210)/\S=Y.heap.size/\qcb c b d bw bl bi A/\bE a Y/\Y.heap[bw]?=some (.map #[] 0)/\Y.heap[bl]?=some (.map #[] 0)/\bw≠bl/\a.heap.size<=bw/\a.heap.size<=bl/\Y.heap[bi]?=some (.map #[] 0)/\bi≠bw/\bi≠bl/\a.heap.size<=bi
def qi1(c b a d:Nat)(S bw bl bi:Nat)(A:Array WA):Act:={tmps:=#[.agg #[iZ c,iZ b,iZ a],aJ d 0,.pointer none,.nilIface,aJ S 0,Vh,.agg #[iZ c,iZ b,iZ a],.bool true,.bool false,Vh,.agg #[iZ c,iZ b,iZ a],aJ d 2,iZ a,(uZ (IntKind.u64.wrap (a:Int))),aJ d 2,iZ a,.agg #[uZ a,uZ a,uZ 0,uZ a],.agg #[iZ 8,uZ 0,nZ],.map (some bw),.map (some bl),.agg #[nZ,uZ 0,.map (some bi)],.agg A,aJ S 0,Vh,Vh,Vh,Vh,Vh,Vh,Vh,Vh,Vh,Vh,Vh,Vh,Vh,Vh,Vh,Vh,Vh],defers:=[]}
def wK(R:Nat):∀(a:bJ) (j:Nat) (y:Wq),y.setCells R j a=oQ R j a y
 |[],_,_=>rfl
 |v::a,j,y=>by show(y.setCell (ay R j) v).setCells R (j+1) a=oQ R (j+1) a (y.setCell (ay R j) v);exact wK R a (j+1) _
def qcf(y:Wq)(S o a:Nat)(h:y.there S o 27):(storeVar 200 (ay S o) (.agg #[nZ,.bool false,.bool false,uZ 0,uZ 0,uZ 0,uZ a,uZ 0,iZ 2049,uZ 0,nZ,iZ 2049,uZ 0,nZ,uZ a,uZ a,uZ 0,uZ a,uZ 0,nZ,nZ,uZ 0,.bool false,uZ 0,.bool false,uZ 0,iZ 0])).run prog y=.ok () (oQ S o (oo a++Bp a) y):=by rw[<-wK];exact run_storeVar_mid y S o 200 (oo a++Bp a).toArray h bO (by simp[Value.oneCell'])
attribute [-go_sem] storeVar
def qfs(oZ:Own)(s:Nat)(hs:0<s)(m a f:Nat)(hm:64<=m/\m<=400)(hw:16<=a/\a<=4096)(ht:16<=f/\f<=4096)(w:Wq):WB prog 107 #[.agg #[iZ m,iZ a,iZ f]] w fun e w'=>∃S bw q p J l vc,e=.returned (.tuple #[aJ S 0,.nilIface])/\fH J s w' S l (av.new m a f) bw q p vc/\Kp [] oZ J w w':=by
 have hr:=@run_makeMap prog;have X:=aF (fun y=>YE m a f hm hw ht y);have HG:Hid (∀y,qH 142 #[iZ f] y (.agg #[uZ f,uZ f,uZ 0,uZ f]) fun D=>∀z:Wq,bE z y->bE z D):=fun y=>(FK f ht.2 y).mono fun e D hh=>⟨hh.1,fun z L=>L.trans (hh.2.mono L.size)⟩;have HS:Hid (∀y,qH 126 #[iZ 8] y (.agg #[iZ 8,uZ 0,nZ]) fun D=>∀z:Wq,bE z y->bE z D):=fun y=>(PX 8 y).mono fun e D hh=>⟨hh.1,fun z L=>L.trans (hh.2.mono L.size)⟩;have HI:Hid (∀y,WB prog 143 #[] y fun e D=>∃b,e=.returned (.agg #[nZ,uZ 0,.map (some b)])/\(∀z:Wq,bE z y->bE z D)/\D.heap[b]?=some (.map #[] 0)/\y.heap.size<=b/\b<D.heap.size):=fun y=>(Uo y).mono fun e D ⟨b,h1,h2,h3,h4⟩=>⟨b,h1,fun z L=>L.trans (h2.mono L.size),h3,h4,(qmt.1 h3).1⟩;obtain⟨W0,F⟩:=bT (w.alloc (.cells #[iZ m,iZ a,iZ f] 45));have R:aL W0 w.heap.size 45 [iZ m,iZ a,iZ f]:=by rw[F];exact aL.new w 45 _
 have Ct:w.heap.size<W0.heap.size:=R.lt;have Q:bE w W0:=by rw[F];exact(qlw _ w).alloc (qj _) _
 go_enter func107,ntmps107;go_wp2_with (go_at_call 141;rw[<-F];refine bH (X.out W0) ?_;rintro u c);have t:=R.of_heap (c.block _ Ct);have d:w.heap.size<u.heap.size:=t.lt;have c0:u.cell? (ay w.heap.size 0)=some (iZ m):=t.cell 0;have c1:u.cell? (ay w.heap.size 1)=some (iZ a):=t.cell 1;have c2:u.cell? (ay w.heap.size 2)=some (iZ f):=t.cell 2;have HC:Hid (∀y:Wq,bE u y->y.cell? (ay w.heap.size 0)=some (iZ m)/\y.cell? (ay w.heap.size 1)=some (iZ a)/\y.cell? (ay w.heap.size 2)=some (iZ f)/\w.heap.size<y.heap.size):=fun y r=>⟨cell_of c0 (r.block _ d),cell_of c1 (r.block _ d),cell_of c2 (r.block _ d),qm9 d r.size⟩;have Rn:=aF (dw t (Q.trans (c.mono Q.size)));clear R t X F Q c;have h9:bE u u:=qlw _ _;refine qcd (qi1 m a f w.heap.size) (qkj m a f u) ?_ (fun S bw q p A w2 hR=>?_)
 ·go_region_held3 (fun y=>y.cell? (ay w.heap.size 0)=some (iZ m)/\y.cell? (ay w.heap.size 1)=some (iZ a)/\y.cell? (ay w.heap.size 2)=some (iZ f)/\w.heap.size<y.heap.size) ((go_keep<;>(first|omega|(rw[qmx];omega))))
   ((first|(go_at_call 142;refine bH (HG.out _) ?_;rintro C r;have g:bE u C:=r _ (by repeat(first|assumption|refine pF _ ?_|refine pz ?_));have gT:=g.size;have B:=(r _ (qlw _ _)).size;(try simp at B);obtain⟨d0,d1,d2,d3⟩:=HC.out C g)|(go_at_call 126;refine bH (HS.out _) ?_;rintro C r;have g:bE u C:=r _ (by repeat(first|assumption|refine pF _ ?_|refine pz ?_));have gT:=g.size;have B:=(r _ (qlw _ _)).size;(try simp at B);obtain⟨d0,d1,d2,d3⟩:=HC.out C g)|(go_at_call 143;refine(HI.out _).mono ?_;rintro e C ⟨b,rfl,r,hf,h8,hg⟩;(try simp at h8);have g:bE u C:=r _ (by repeat(first|assumption|refine pF _ ?_|refine pz ?_));have gT:=g.size;have B:=(r _ (qlw _ _)).size;(try simp at B);obtain⟨d0,d1,d2,d3⟩:=HC.out C g)))
  all_goals refine⟨_,_,_,_,_,rfl,_,rfl,(by first|rfl|simp),rfl,(by repeat(first|assumption|refine pF _ ?_|refine pz ?_)),?_,?_,?_,?_,?_,?_,?_,?_,?_⟩
  all_goals first
   |omega
   |exact YI _ (by repeat(first|exact qlw _ _|assumption|refine pF _ ?_|refine pz ?_|refine(by assumption:∀z:Wq,bE z _->bE z _) _ ?_))
   |exact qlv asZ (by repeat(first|exact qlw _ _|assumption|refine pF _ ?_|refine pz ?_|refine(by assumption:∀z:Wq,bE z _->bE z _) _ ?_))
   |exact qce _ (.map #[] 0) (by repeat(first|exact qlw _ _|assumption|refine pF _ ?_|refine pz ?_|refine(by assumption:∀z:Wq,bE z _->bE z _) _ ?_))
 ·obtain⟨Y,rfl,rfl,hA,J5,m1,m2,H,l1,l2,m3,n1,n2,l3⟩:=hR;have h0:A.size=240:=(hA.cells ht.2).1;have HO:=aF (fun y=>ZW a hw.2 y);have HN:=aF (fun y=>qee a hw.2 y);have hV:(oo a++Bp a).length=27:=rfl;obtain⟨V,P⟩:=bT (Y.alloc (.cells A 210));have Z:Hid (aL V Y.heap.size TS (Jl A.toList (oo a++Bp a) 0)/\V.heap[bw]?=some (.map #[] 0)/\V.heap[q]?=some (.map #[] 0)/\aL V w.heap.size 45 [iZ m,iZ a,iZ f]/\bE w V/\w.heap.size<Y.heap.size/\bw<Y.heap.size/\q<Y.heap.size/\p<Y.heap.size/\V.heap[p]?=some (.map #[] 0)):=by
   have b1:bw<Y.heap.size:=(qmt.1 m1).1;have b2:q<Y.heap.size:=(qmt.1 m2).1;have b4:p<Y.heap.size:=(qmt.1 m3).1;have b3:w.heap.size<Y.heap.size:=qm9 d J5.size;rw[YF _ _ (by rw[qpp];exact h0),P];refine⟨by have:=aL.new Y 210 A.toList;rwa[Array.toArray_toList]at this,(qmr _ _ _ b1).trans m1,(qmr _ _ _ b2).trans m2,(Rn.out.1.of_heap (J5.block _ d)).of_heap (qmr _ _ _ b3),?_,b3,b1,b2,b4,(qmr _ _ _ b4).trans m3⟩;have:=Rn.out.2.trans (J5.mono (qoo d));exact this.alloc (qoo b3) _
  unfold qi1;rw[<-P];have qP:=aF (dw hA (dw H (dw l1 (dw l2 (dw d (dw n1 (dw n2 l3)))))));clear P hA J5 m1 m2 H l1 l2 m3 n1 n2 l3 h9 c0 c1 c2 h0;generalize Y.heap.size=S at *
  go_wp2;go_loopw [23] (fun U wr=>∃j:Nat,j<=8/\U=(iZ j)/\Hid (aL wr S TS (Jl A.toList (oo a++Bp a) j)/\wr.heap[bw]?=some (.map #[] 0)/\wr.heap[q]?=some (.map #[] 0)/\aL wr w.heap.size 45 [iZ m,iZ a,iZ f]/\bE w wr/\w.heap.size<S/\bw<S/\q<S/\p<S/\wr.heap[p]?=some (.map #[] 0))) (fun U _=>8-(RowKit.intOf U).toNat);case atStart=>exact⟨0,aj,rfl,Z⟩
  case round=>
   obtain⟨j,hj,rfl,I⟩:=hrel;clear Z;by_cases ha:j<8
   ·have he:(j:Int)<8:=aj;have c1:wr.cell? (ay w.heap.size 1)=some (iZ a):=I.out.2.2.2.1.cell 1;have h5:w.heap.size<wr.heap.size:=I.out.2.2.2.1.lt;have t_:S<wr.heap.size:=I.out.1.lt;go_wp2;have h7:S≠w.heap.size:=bR I.out.2.2.2.2.2.1;have TJ:∀(o:Nat) (vs:bJ) (y:Wq),(oQ S o vs y).cell? (ay w.heap.size 1)=y.cell? (ay w.heap.size 1):=fun o vs y=>by
     have:=(nK S vs o y).block w.heap.size (qna h7);unfold World.cell?;simp only[this]
    go_region_held3 (fun y=>y.cell? (ay w.heap.size 1)=some (iZ a)) (go_keep)
     ((first|(go_at_call 144;refine bH (HO.out _) ?_;rintro C c;have d1:C.cell? (ay w.heap.size 1)=some (iZ a):=cell_of c1 (c.block _ (by simpa using h5)))|(go_at_call 145;refine bH (HN.out _) ?_;rintro N G;have d2:N.cell? (ay w.heap.size 1)=some (iZ a):=cell_of d1 (G.block _ (qm9 (by simpa using h5) c.size));have E:aL N S TS (Jl A.toList (oo a++Bp a) j):=(I.out.1.of_heap (c.block _ (by simpa using t_))).of_heap (G.block _ (qm9 (by simpa using t_) c.size));have hc:=qcf N S (4+j*27) a (fun i hi=>⟨by rw[E.cell,vQ _ _ j _ aj];rfl,E.frozen _⟩);have W:=aF E;clear E)))
    obtain⟨O,xP⟩:=bT (oQ S (4+j*27) (oo a++Bp a) N);have h6:Hid (aL O S TS (Jl A.toList (oo a++Bp a) (j+1))/\O.heap[bw]?=some (.map #[] 0)/\O.heap[q]?=some (.map #[] 0)/\aL O w.heap.size 45 [iZ m,iZ a,iZ f]/\bE w O/\w.heap.size<S/\bw<S/\q<S/\p<S/\O.heap[p]?=some (.map #[] 0)):=by
     obtain⟨r1,r2,r3,r4,M,r6,r7,r8,r9,T⟩:=I.out;have tc:=nK S (oo a++Bp a) (4+j*27) N;have K:bE wr C:=⟨c.os,c.tape,c.output,c.size,c.block⟩;have hy:bE wr N:=K.trans (G.mono K.size);rw[<-xP]at tc;have n:∀k,k<wr.heap.size->k≠S->O.heap[k]?=wr.heap[k]?:=fun k hk hn=>(tc.block k hn).trans (hy.block k hk);refine⟨?_,(n bw aj aj).trans r2,(n q aj aj).trans r3,r4.of_heap (n _ aj aj),?_,r6,r7,r8,r9,(n p aj aj).trans T⟩;·rw[<-YG _ _ hV j ha,show 4+27*j=4+j*27 by omega,xP];exact pU _ _ N _ W.out
     ·exact tc.below (M.trans (hy.mono M.size)) aj
    change Exit.inBlock _ _ _ _ (oQ S (4+j*27) (oo a++Bp a) N);rw[<-xP];clear xP c G hc W I d1 d2 TJ c1;go_wp2;go_roundw;case rel=>exact⟨j+1,aj,aM,h6⟩
    case measure=>simp[RowKit.intOf];omega
   ·obtain rfl:j=8:=aj;go_wp2;refine bodyPost_ret (v:=.tuple #[aJ S 0,.nilIface]) (by simp[results,results107,go_sem]) rfl ?_;obtain⟨r1,r2,r3,r4,M,r6,r7,r8,r9,T⟩:=I.out;obtain⟨hA,H,l1,l2,d,n1,n2,l3⟩:=qP.out;obtain⟨J,ho⟩:=bT (fun x=>if x<w.heap.size then oZ x else if x=S then s else if x=bw then s+42 else if x=q then s+43 else if x=p then s+55 else 0:Own);have o1:J S=s:=by rw[ho];simp only;rw[aV aj,bM trivial]
    have o2:J bw=s+42:=by rw[ho];simp only;rw[aV aj,aV aj,bM trivial]
    have o3:J q=s+43:=by rw[ho];simp only;rw[aV aj,aV aj,aV (qna H),bM trivial]
    have o4:J p=s+55:=by rw[ho];simp only;rw[aV aj,aV aj,aV n1,aV n2,bM trivial]
    exact⟨S,bw,q,p,J,_,_,rfl,qfr hA ht.2 hs r1 r2 r3 T o1 o2 o3 o4,⟨M.os,M.tape,M.output,M.size,fun x hx _=>M.block x hx,fun x hx=>by rw[ho];exact bM hx⟩⟩
