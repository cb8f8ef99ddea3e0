import Derived.Test.YtphbledmopchnaaGreatDoorVca
import Derived.BigRegionIn
import Derived.Shelf.AbstractIn
import Derived.Stop.RegionWithIn
import Derived.Sort.AtCall
import Derived.Deep.MidRow
open List renaming length_take->fA,getElem?_eq_none->fB,replicate->mI
open Go.Value renaming ownBlock->eT,int->fE
open Go.World renaming alloc_heap_new->eB,size_alloc->l9
set_option maxHeartbeats 8000000
set_option maxRecDepth 100000
open Go renaming World->Wq,Value->Wx,Calls->WA,undef->VG
set_option linter.all false
namespace Go.Proofs.YtphbledmopchnaaGreatDoor.Sd
open Go.RowKit Go.Lib Mm Tryz
variable {A:Array Wx}{M:av}{S a b bi bl bw o s t:Nat}{Y w y z:Wq}{l:bM}{m:dP}{oZ:Own}
def qft(S o:Nat)(w:Wq):bN 238 #[aK S o,iZ 0] w nZ fun a=>a=w:=by go_enter func238,ntmps238;go_wp2;go_ret;exact⟨rfl,rfl⟩
def Zz(m:dP):m.cut 0=m:=by cases m;simp[dP.cut]
def qfu{m':dP}(k:aS w S TS l)(e:oZ S=s)(q:s<t)(n:IZ oZ t w l o m)(j:Nat)(v:Wx)(p:o<=j)(d:j<o+13)(h:∀c b,zS l o m c b->zS (l.set j v) o m' c b)(g:m'.bO=m.bO)(i:m'.aT=m.aT):RG s t oZ S o l w m' (w.setCell (aA S j) v):=by
 have a:=gZ.one k j v o 13 p d;obtain⟨c,b,r,u,x⟩:=n;have f:=a.kp e (T:=[s]) aR;refine⟨oZ,_,a.kp e aR,a.cK,a.iB,c,b,h _ _ r,?_,?_⟩;.rw[g];exact u.kp f dZ
 .rw[i];exact x.kp f dZ
def ZB{v v':Wx}{a b:Int}(h:v=v')(c:a=b):Ending.returned (.tuple #[v,iZ a])=.returned (.tuple #[v',iZ b]):=by rw[h,c]
theorem yw(S:Nat)(y:Nat)(w:Wq)(c:w.cell? (aA S 238)=some (iZ y)):bN 137 #[aK S 0] w (.bool (decide (y=0))) fun a=>a=w:=by go_enter func137,ntmps137;go_wp2;go_ret;refine⟨congrArg (fun b=>Ending.returned (.bool b)) ?_,rfl⟩;grind
def yx(n a b:Int)(w:Wq):bN 185 #[iZ n,iZ a,iZ b] w (.bool (decide (a<=n/\n<=b))) fun e=>e=w:=by
 by_cases c:a<=n
 .by_cases d:n<=b;.rw[decide_eq_true (show a<=n/\n<=b from⟨c,d⟩)];go_enter func185,ntmps185;go_wp2;go_ret;exact⟨rfl,rfl⟩
  .rw[decide_eq_false (show¬(a<=n/\n<=b)from fun h=>d h.2)];go_enter func185,ntmps185;go_wp2;go_ret;exact⟨rfl,rfl⟩
 .rw[decide_eq_false (show¬(a<=n/\n<=b)from fun h=>c h.1)];go_enter func185,ntmps185;go_wp2;go_ret;exact⟨rfl,rfl⟩
def yA(S k:Nat)(e:k<8)(w:Wq)(c:w.cell? (aA S 238)=some (iZ ((0:Nat):Int))):bN 146 #[aK S 0,iZ k] w (.tuple #[(aK S (4+27*k)),.nilIface]) fun a=>a=w:=by have d:=aG (yw S 0 w c);have b:=aG (yx (k:Int) 0 7 w);rw[decide_eq_true (show(0:Int)<=(k:Int)/\(k:Int)<=7 by omega)]at b;go_enter func146,ntmps146;go_wp2_with (first|(go_at_call 137;refine bK d.out ?_;rintro a rfl)|(go_at_call 185;refine bK b.out ?_;rintro a rfl)|go_in);go_ret2;rw[Ns 27 k];exact⟨rfl,rfl⟩
def gq.open{b:Wx}(h:gq oZ s w S l M bw bl bi b)(a:M.mY=0):w.cell? (aA S 238)=some (iZ ((0:Nat):Int)):=by rw[h.cK.cell,h.cells.rC,a]
def qfv{r:Wx}(k:Nat)(i:k<8){b:List UInt8}(a:Addr)(c:Nat)(h:gq oZ s w S l M bw bl bi r)(p:M.mY=0)(n:(M.out k).aB.length<=2048)(g:dX w (some a) b)(f:b.length<=1000000000):bN 108 #[aK S 0,iZ k,.slice (some a) b.length c] w (nk ((M.out k).send b).2) fun d=>je s oZ w S bw bl bi (M.dA k ((M.out k).send b).1) d:=by have m:=aG (yA S k i w (h.open p));have j:=aG ((qfk s (s+1+5*k) (4+27*k) (M.out k) a c h.cK h.ow aj (h.out k i) n g f).mono fun e d (q:_/\_)=>(⟨q.1,h.dA k i _ q.2⟩:e=.returned (nk ((M.out k).send b).2)/\je s oZ w S bw bl bi (M.dA k ((M.out k).send b).1) d));go_enter func108,ntmps108;go_wp2_with (first|(go_at_call 146;refine bK m.out ?_;rintro d rfl)|(go_at_call 147;refine bK j.out ?_;rintro d o)|go_in);go_ret;exact⟨rfl,o⟩
def WM{i:Wx}(k:Nat)(b:k<8)(h:gq oZ s w S l M bw bl bi i)(g:M.mY=0):bN 109 #[aK S 0,iZ k] w (nk (M.out k).finish.2) fun a=>je s oZ w S bw bl bi (M.dA k (M.out k).finish.1) a:=by have d:=aG (yA S k b w (h.open g));have c:=aG ((V8 s (s+1+5*k) (4+27*k) (M.out k) h.cK h.ow aj (h.out k b)).mono fun e a (q:_/\_)=>(⟨q.1,h.dA k b _ q.2⟩:e=.returned (nk (M.out k).finish.2)/\je s oZ w S bw bl bi (M.dA k (M.out k).finish.1) a));go_enter func109,ntmps109;go_wp2_with (first|(go_at_call 146;refine bK d.out ?_;rintro a rfl)|(go_at_call 148;refine bK c.out ?_;rintro a f)|go_in);go_ret;exact⟨rfl,f⟩
def Dk(s t:Nat)(oZ:Own)(S o:Nat)(l:bM)(w:Wq)(m':dP)(w':Wq)(v:Wx):Prop:=
 ∃a c,Kp [s,t,t+1] oZ a w w'/\aS w' S TS c/\ni l c o 13/\IZ a t w' c o m'/\∀b,v.ownBlock=some b->a b=0
def Dk.drewN{s t:Nat}{oZ:Own}{S o:Nat}{l:bM}{w w':Wq}{m:dP}{v:Wx}(h:Dk s t oZ S o l w m w' v)(q:Nat):Dk s t oZ S o l w m (w'.drewN q) v:=by obtain⟨b,a,c,d,e,f,g⟩:=h;exact⟨b,a,c.drewN q,d,e,f.kp (Kp.below (w':=w'.drewN q) (T:=[]) ⟨rfl,rfl,rfl,aI _,fun _ _=>rfl⟩) aR aR (ni.refl a (o+13) 0) aj,g⟩
def qb4(s:Nat)(oZ:Own)(w:Wq)(S:Nat)(bw bl bi:Nat)(M':av)(w':Wq)(v:Wx):Prop:=∃a c d,gq a s w' S c M' bw bl bi d/\Kp (T0 s) oZ a w w'/\∀b,v.ownBlock=some b->a b=0
theorem qh8(s:Nat)(n:Nat)(hB:aS w S TS l)(hS:oZ S=s)(xd:0<s)(xe:s<t)(hO:IZ oZ t w l o m)(h5:1<=n)(hn:n<=m.bO.length)(h0:m.aT.length=m.bO.length)(hl:m.bO.length<=1000000)(hr:m.aY+n<=dH):WA prog 238 #[aK S o,iZ n] w fun e w'=>∃a c,e=.returned (.slice a n c)/\fO 5 1 w' (.slice a n c) n (cO (m.bO.take n))/\nH w.heap.size (.slice a n c)/\Dk s t oZ S o l w (m.cut n) w' (.slice a n c):=by
 obtain⟨ow,f⟩:=bU (loc oZ w.heap.size);have r:ow S=s:=by rw[f,jW _ _ _ hB.lt,hS]
 have hu:IZ ow t w l o m:=by rw[f];exact hO.loc
 obtain⟨vh,vc,G,k2,R⟩:=hu;obtain⟨ah,X,rfl,x2,_⟩:=k2.shape;obtain⟨ac,cc,rfl,x0,_⟩:=R.shape;have x3:=hB.lt;obtain⟨i5,h4,h8,x5,hw⟩:=info_parts Ny;have M:=run_makeSlice (P:=prog) w 60 5 i5 _ u29 h4 h8 .i64 .i64 (n:Int) (n:Int) aj (Int.le_refl _) (by grind) (by grind) aj;obtain⟨ZA,Z⟩:=bU (madeCells (fE .u8 0).cells ((n:Int).toNat*i5.size));have x6:ZA.toList.length=n:=by grind [Array.length_toList,size_madeCells]
 rw[<-Z]at M;obtain⟨I,A⟩:=bU (w.alloc (.cells ZA 5));rw[<-A]at M;simp only[Ct]at M;have L:aS I w.heap.size 5 ZA.toList:=by rw[A];exact aS.new w 5 _
 have qy:bJ w I:=by rw[A];exact(bP _ w).alloc (aI _) _
 have x4:I.heap.size=w.heap.size+1:=by rw[A];simp
 have J:=hB.of_heap (qy.block _ x3);have h9:=k2.kp (Kp.below (T:=[]) qy) aR;obtain⟨g,hg⟩:∃g,ah=some (aA g 0):=by
  rcases k2 with⟨h1,h2,_⟩|⟨g,cap,cs,hv,_⟩;.omega
  grind
 subst hg;have h3:=fun ty=>kE (P:=prog) (w:=I) 60 60 ty 5 (g:=w.heap.size) (o:=0) (dLen:=n) (dCap:=n) L (aA g 0) m.bO.length X 1 n (cO (m.bO.take n)) u29 bZ (by grind) (by grind [fC]) (fun j v hj=>by rw[gT,gG];obtain⟨g',x7,_,_,hc,_⟩:=h9.cell j v (by grind [cO]);grind) (by grind [fC]) (jT _);have h6:bC ZA.toList 0 (cO (m.bO.take n))=cO (m.bO.take n):=by grind [cO,fC,bC,List.drop_of_length_le]
 rw[h6]at h3;obtain⟨W2,D⟩:=bU (put I w.heap.size (cO (m.bO.take n)));have B:aS W2 w.heap.size 5 (cO (m.bO.take n)):=by rw[D];exact L.put _
 have F:nP w.heap.size I W2:=by rw[D];exact⟨rfl,rfl,rfl,by simp[put],fun k hk=>iI _ _ _ _ hk⟩
 have d:=F.below qy (aI _);have q:=J.of_heap (F.block _ aj);have he:=k2.kp (Kp.below (T:=[]) d) aR;have hf:=R.kp (Kp.below (T:=[]) d) aR;rw[<-D]at h3;have d5:I.cell? (aA S (o+5))=some (dB g m.bO.length X):=by rw[J.cell];exact G.c5
 have e5:W2.cell? (aA S (o+5))=some (dB g m.bO.length X):=by rw[q.cell];exact G.c5
 have HD:=aG (Zh n m.bO (some (aA g 0)) X h5 hn hl he);have HK:=aG (dz q (dz G (dz hf (dz B d))));have HH:=aG (dz r f);have x8:ow w.heap.size=0:=by rw[f,jF _ _ _ (aI _)]
 have xf:W2.heap.size=w.heap.size+1:=by rw[F.size,x4]
 have g1:((n:Int)==0)=false:=dZ;have g2:(0:Int)<=(n:Int):=aj;clear G k2 R h9 he hf hB J q L B qy d F h6 hO r f D x2 x0 x6 h4 h8 x5 hw Z A;have EK:=aG h0;clear h0;go_enter func238,ntmps238;go_wp2_with fail;refine HD.out.mono ?_;rintro e y ⟨a1,c1,rfl,u,i⟩;obtain⟨q,G,R,B,d⟩:=HK.out;obtain⟨r,f⟩:=HH.out;have U:=bW q i (by grind);have C:=bW B i (by grind);have ha:=R.kp i aR;have d5:y.cell? (aA S (o+5))=some (dB g m.bO.length X):=by rw[U.cell];exact G.c5
 have d6:y.cell? (aA S (o+6))=some (.slice ac m.aT.length cc):=by rw[U.cell];exact G.c6
 have f5:=U.frozen (o+5);have H:=gZ.one U (o+5) (.slice a1 (m.bO.length-n) c1) o 13 aj aj;obtain⟨Y1,K⟩:=bU (y.setCell (aA S (o+5)) (.slice a1 (m.bO.length-n) c1));rw[<-K]at H;have p:=H.kp r (T:=[s]) aR;have V:=aG (Zi (t+1) n m.aT cc h5 (by rw[EK.out];exact hn) (by rw[EK.out];exact hl) (ha.kp p dZ));have W:=aG (dz H (dz (u.kp p dZ) (dz (bW C p (by grind)) (dz i p))));clear q R B U C ha u i H p e5 HD;go_wp2_with fail;rw[<-K];clear K d5 d6 f5;refine V.out.mono ?_;rintro e z ⟨O,Q,rfl,Y,x⟩;obtain⟨H,u,C,i,p⟩:=W.out;have mX:=bW H.cK x (by grind);have ho:=bW C x (by grind);have i1:=FX G (.slice a1 (m.bO.length-n) c1) (m.bO.drop n);have d6:z.cell? (aA S (o+6))=some (.slice ac m.aT.length cc):=by rw[mX.cell];exact i1.c6
 have d4:z.cell? (aA S (o+4))=some (uZ m.aY):=by rw[mX.cell];exact i1.c4
 have ff:=fun j=>mX.frozen j;have HF:Hid (fO 5 1 ((z.setCell (aA S (o+6)) (.slice O (m.aT.length-n) Q)).setCell (aA S (o+4)) (uZ ((m.aY+n:Nat):Int))) (dB w.heap.size n n) n (cO (m.bO.take n))/\nH w.heap.size (dB w.heap.size n n)/\Dk s t oZ S o l w (m.cut n) ((z.setCell (aA S (o+6)) (.slice O (m.aT.length-n) Q)).setCell (aA S (o+4)) (uZ ((m.aY+n:Nat):Int))) (dB w.heap.size n n)):=by
  have h7:=gZ.one mX (o+6) (.slice O (m.aT.length-n) Q) o 13 aj aj;have N:=h7.trans (gZ.one h7.cK (o+4) (uZ ((m.aY+n:Nat):Int)) o 13 aj aj);have E:=N.kp r (T:=[s]) aR;have hx:=bW ho E (by grind);refine⟨.inr ⟨w.heap.size,n,_,rfl,hx,by grind [fC,fA],aI _,aj,by grind [fC,fA],by rw[wL];grind [List.take_of_length_le,fC,fA],jT _⟩,fun k hk=>by simp[eT]at hk;omega,?_⟩;have hK:Kp [s,t,t+1] ow ow w ((z.setCell (aA S (o+6)) (.slice O (m.aT.length-n) Q)).setCell (aA S (o+4)) (uZ ((m.aY+n:Nat):Int))):=
   ((((Kp.below d).trans (i.mono aR)).trans (p.mono aR)).trans (x.mono aR)).trans (E.mono aR)
  rw[f]at hK;refine⟨_,_,hK.lI,N.cK,H.iB.trans N.iB,⟨.slice a1 (m.bO.length-n) c1,.slice O (m.aT.length-n) Q,Zk (FY i1 (.slice O (m.aT.length-n) Q) (m.aT.drop n)) (m.aY+n),?_,?_⟩,fun b hb=>by simp[eT]at hb;rw[<-hb];exact jF _ _ _ (aI _)⟩;.have:=(u.kp x aR).kp E dZ;rw[f]at this;exact this
  .have:=Y.kp E dZ;rw[f]at this;exact this
 rw[show((m.aY+n:Nat):Int)=(m.aY:Int)+(n:Int) by omega]at HF;have x9:m.aY+n<18446744073709551616:=by unfold dH at hr;omega
 have xa:n<18446744073709551616:=aj;clear H u C i p mX ho i1 Y x G d W V r f HH HK hr;go_wp2;go_ret;exact⟨_,_,rfl,HF.out⟩
def qb7(s t:Nat)(oZ:Own)(S o n:Nat)(m:dP)(l:bM)(w:Wq)(i:aS w S TS l)(q:oZ S=s)(f:0<s)(g:s<t)(j:IZ oZ t w l o m)(x:n<=m.bO.length)(d:m.aT.length=m.bO.length)(v:m.bO.length<=1000000)(y:m.aY+n<=dH):WA prog 238 #[aK S o,iZ n] w fun e h=>∃a c,e=.returned (.slice a n c)/\fO 5 1 h (.slice a n c) n (cO (m.bO.take n))/\nH w.heap.size (.slice a n c)/\Dk s t oZ S o l w (m.cut n) h (.slice a n c):=by
 by_cases p:n=0;.subst p;refine bK (qft S o w) ?_;rintro h rfl;exact⟨none,0,rfl,.inl ⟨rfl,rfl,by simp[cO]⟩,fun k u=>by simp[eT]at u,by rw[Zz];exact⟨oZ,l,Kp.refl _ _ _,i,ni.refl _ _ _,j,fun b r=>by simp[eT]at r⟩⟩
 .exact qh8 s n i q f g j aj x d v y
theorem qb8(s t:Nat)(o:Nat)(d:Int)(m:dP)(N:aS w S TS l)(hS:oZ S=s)(h5:0<s)(I:s<t)(hO:IZ oZ t w l o m)(C:Ux m)(hr:m.aY+m.bO.length<=dH):WA prog 184 #[aK S o,iZ d] w fun e w'=>∃a c,e=.returned (.tuple #[.slice a (m.rd d).1.length c,(iZ ((m.rd d).2.state:Int))])/\fO 5 1 w' (.slice a (m.rd d).1.length c) (m.rd d).1.length (cO (m.rd d).1)/\nH w.heap.size (.slice a (m.rd d).1.length c)/\Dk s t oZ S o l w (m.rd d).2 w' (.slice a (m.rd d).1.length c):=by
 have Y:=N.lt;obtain⟨u,r,k1,k2,k3⟩:=hO;have j:=aG (Zj (t+1) N k1 k3 (by rw[C.cl];exact C.hl));have h0:m.ready<=m.bO.length:=by rw[<-C.cl];exact FW m.aT
 obtain⟨n,hn⟩:=bU (min m.ready (max d 0).toNat);obtain⟨x1,h9,h6⟩:=qj9 d 0;obtain⟨x2,ha,h7⟩:=Uu (m.ready:Int) x1;obtain rfl:x2=(n:Int):=aj;have H:(m.bO.take n).length=n:=dZ;have Ci:Hid ((m.rd d).1=m.bO.take n):=by unfold Hid;rw[hn];rfl
 have f:Hid ((m.rd d).2={m.cut n with state:=if(m.cut n).state=0 then(m.cut n).iO else(m.cut n).state}):=by unfold Hid;rw[hn];rfl
 generalize m.rd d=X at *
 rw[Ci.out,H];have K:=aG (qb7 s t oZ S o n m l w N hS h5 I ⟨u,r,k1,k2,k3⟩ aj C.cl C.hl aj);have g:Hid ((m.cut n).state=m.state):=rfl;generalize m.cut n=M at *
 generalize m.ready=RD at *
 clear hn h6 h7 h0 N k1 k2 k3 hr C;by_cases F:m.state=0
 .rw[g.out,dN F]at f;go_enter func184,ntmps184;go_wp2_with fail;refine bK j.out ?_;rintro y rfl;go_wp2_with fail;refine K.out.mono ?_;rintro e z ⟨a,c,rfl,A,hF,Q,B,x,k,G,L,J⟩;obtain⟨u,r,p,O,P⟩:=L;have i:=qkj S o M u r z B k p;rw[g.out,F]at i;have E:=aG (Rm S o M u r z B k p);have HK:Hid (∀q,Dk s t oZ S o l y {M with state:=M.iO} ((z.drewN q).setCell (aA S (o+12)) (iZ M.iO)) (.slice a n c)/\fO 5 1 ((z.drewN q).setCell (aA S (o+12)) (iZ M.iO)) (.slice a n c) n (cO (m.bO.take n))):=fun q=>by
   have V:Q S=s:=by rw[x.ext _ Y,hS]
   have U:=IZ.kp ⟨u,r,p,O,P⟩ (Kp.below (w':=z.drewN q) (T:=[]) ⟨rfl,rfl,rfl,aI _,fun _ _=>rfl⟩) aR aR (ni.refl B (o+13) 0) aj;obtain⟨iA,l2,g1,g2,g3,g4⟩:=qfu (w:=z.drewN q) k V I U (o+12) (iZ M.iO) aj aj (m':={M with state:=M.iO}) (fun _ _ h=>Wm h _) rfl rfl;exact⟨⟨iA,l2,(x.drewN q).trans g1,g2,G.trans g3,g4,fun b W=>by rw[g1.ext b (A.lt b W),J b W]⟩,A.of_heap (fun b W=>jg _ _ _ _ (by grind))⟩
  have f12:=k.frozen (o+12);have HF:=aG hF;clear x k G p O P A hF F J;generalize M.iO=R at *
  go_wp2_with fail;refine bK E.out ?_;rintro v ⟨q,rfl⟩;have D:=aG (HK.out q);have h8:(z.drewN q).cell? (aA S (o+12))=some (iZ 0):=i;have ef:(z.drewN q).frozen? (aA S (o+12))=false:=f12;generalize z.drewN q=Z at *
  clear i f12 E HK K j;go_wp2_with fail;go_quiet (fail);go_wp2;go_ret2;refine⟨a,c,ZB rfl (by rw[f.out]),?_,HF.out,?_⟩;.exact fO.of_heap D.out.2 (fun _ _=>rfl)
  .rw[f.out];exact Dk.drewN D.out.1 _
 .rw[g.out,b_ F]at f;have BD:((m.state:Int)==0)=false:=dZ;have HM:Hid (({M with state:=m.state}:dP)=M):=by unfold Hid;rw[<-g.out]
  go_enter func184,ntmps184;go_wp2_with fail;refine bK j.out ?_;rintro y rfl;go_wp2_with fail;refine K.out.mono ?_;rintro e z ⟨a,c,rfl,A,hF,hQ⟩;obtain⟨Q,B,x,k,G,L,J⟩:=hQ;have HQ:Hid (Dk s t oZ S o l y M z (.slice a n c)):=⟨Q,B,x,k,G,L,J⟩;obtain⟨u,r,p,O,P⟩:=L;have i:=qkj S o M u r z B k p;rw[g.out]at i;have HG:=aG (dz A hF);clear x k G p O P A hF F K j J;go_wp2_with fail;go_quiet (fail);go_wp2;go_ret2;refine⟨a,c,ZB rfl (by rw[f.out]),?_,HG.out.2,?_⟩;.exact fO.of_heap HG.out.1 (fun _ _=>rfl)
  .rw[f.out,HM.out];exact Dk.drewN HQ.out _
theorem gq.qo3{w':Wq}{f:Wx}(h:gq oZ s w S l M bw bl bi f)(k:Nat)(y:k<8)(m:dP)(v:Wx)(q:Dk s (s+4+5*k) oZ S (18+27*k) l w m w' v):qb4 s oZ w S bw bl bi (M.eZ k m) w' v:=by
 obtain⟨g,r,K,i,d,t,p⟩:=q;have u:∀x,x∈[s,s+4+5*k,s+4+5*k+1]->x=s\/(s+4+5*k<=x/\x<=s+5+5*k):=fun x o=>by grind
 have n:∀j,(M.eZ k m).bH j=if j=k then m else M.bH j:=fun j=>by rw[fQ,h.li];grind
 refine⟨g,r,f,⟨by rw[K.ext S h.cK.lt,h.ow],h.s0,i,?_,fun j a=>?_,fun j a=>?_,h.row.kp K (fun e=>by grind),h.Ar.kp K (fun e=>by grind) (fun e=>by grind),h.bV.kp K (fun e=>by grind) (fun e=>by grind),(h.qu.kp K (fun e=>by grind) (fun e=>by grind) (fun e=>by grind)).eq rfl,h.lo,(jD _ _ _).trans h.li⟩,K.mono fun x o=>fM.2 (by grind),p⟩;.have c:=h.cells.iB d aj aj;exact⟨c.len,c.c0,c.c1,c.c2,c.c3,c.uq,c.gr,c.vW,c.vX,c.rZ,c.qo,c.qI,c.rA,c.uW,c.qp,c.jP,c.sW,c.r_,c.uw,c.uX,c.rC,c.xB⟩
 .exact(h.out j a).kp K (fun e=>by grind) (fun e=>by grind) (fun e=>by grind) d aj
 .rw[n];by_cases b:j=k;.grind
  .rw[b_ b];exact(h.bH j a).kp K (fun e=>by grind) (fun e=>by grind) d aj
theorem qb9{x:Wx}(k:Nat)(j:k<8)(b:Int)(h:gq oZ s w S l M bw bl bi x)(t:M.mY=0)(u:Ux (M.bH k))(r:(M.bH k).aY+(M.bH k).bO.length<=dH):WA prog 140 #[aK S 0,iZ k,iZ b] w fun e d=>∃a c,e=.returned (.tuple #[.slice a ((M.bH k).rd b).1.length c,(iZ (((M.bH k).rd b).2.state:Int)),.nilIface])/\fO 5 1 d (.slice a ((M.bH k).rd b).1.length c) ((M.bH k).rd b).1.length (cO ((M.bH k).rd b).1)/\nH w.heap.size (.slice a ((M.bH k).rd b).1.length c)/\qb4 s oZ w S bw bl bi (M.eZ k ((M.bH k).rd b).2) d (.slice a ((M.bH k).rd b).1.length c):=by
 have m:=aG (yA S k j w (h.open t));have i:18+27*k=4+27*k+14:=aj;have f:=qb8 s (s+4+5*k) (18+27*k) b (M.bH k) h.cK h.ow h.s0 aj (h.bH k j) u r;rw[i]at f;have g:∀d v,Dk s (s+4+5*k) oZ S (4+27*k+14) l w ((M.bH k).rd b).2 d v->qb4 s oZ w S bw bl bi (M.eZ k ((M.bH k).rd b).2) d v:=fun d v q=>h.qo3 k j _ v (by grind);replace f:=aG f;replace g:=aG g;generalize (M.bH k).rd b=X at *
 go_enter func140,ntmps140;go_wp2_with (first|(go_at_call 146;refine bK m.out ?_;rintro d rfl)|(go_at_call 184;refine f.out.mono ?_;rintro e d ⟨a,c,rfl,n,o,p⟩)|go_in);go_ret3
 exact⟨a,c,rfl,n,o,g.out _ _ p⟩
theorem qih(w:Wq)(o:Obj):((w.alloc o).alloc (.map #[] 0)).heap[w.heap.size+1]?=some (.map #[] 0):=by grind [eB,l9]
def Yn(w:Wq):WA prog 143 #[] w fun e a=>∃b,e=.returned (.agg #[nZ,.int .u64 0,.map (some b)])/\bJ w a/\a.heap[b]?=some (.map #[] 0)/\w.heap.size<=b:=by have c:=@run_makeMap prog;go_enter func143,ntmps143;go_wp2;exact bodyPost_ret (v:=.agg #[nZ,.int .u64 0,.map (some (w.heap.size+1))]) (by simp[results,results143,go_sem]) rfl ⟨_,rfl,((bP _ w).alloc (aI _) _).alloc aR _,qih _ _,aj⟩
def qdh(d c e:Nat)(k:64<=d/\d<=400)(m:16<=c/\c<=4096)(l:16<=e/\e<=4096)(w:Wq):bN 141 #[.agg #[.int .i64 d,.int .i64 c,.int .i64 e]] w (.bool true) fun b=>bJ w b:=by
 have g:Hid (∀y,bN 185 #[.int .i64 d,.int .i64 64,.int .i64 400] y (.bool true) fun b=>b=y):=fun y=>by have:=yx (d:Int) 64 400 y;rwa[decide_eq_true aj]at this
 have i:Hid (∀y,bN 185 #[.int .i64 c,.int .i64 16,.int .i64 4096] y (.bool true) fun b=>b=y):=fun y=>by have:=yx (c:Int) 16 4096 y;rwa[decide_eq_true aj]at this
 have j:Hid (∀y,bN 185 #[.int .i64 e,.int .i64 16,.int .i64 4096] y (.bool true) fun b=>b=y):=fun y=>by have:=yx (e:Int) 16 4096 y;rwa[decide_eq_true aj]at this
 clear k m l;go_enter func141,ntmps141;go_wp2_with (first|(go_at_call_has 185 (fE .i64 d);refine bK (g.out _) ?_;rintro y f;have a:=f.symm;subst a)|(go_at_call_has 185 (fE .i64 c);refine bK (i.out _) ?_;rintro y f;have a:=f.symm;subst a)|(go_at_call_has 185 (fE .i64 e);refine bK (j.out _) ?_;rintro y f;have a:=f.symm;subst a));go_ret;exact⟨rfl,(bP _ w).alloc (aI _) _⟩
theorem Ef:∀(a:bM) (j:Nat) (l:bM),(oK j a l).length=l.length
 |[],_,_=>rfl
 |v::a,j,l=>by show(oK (j+1) a (l.set j v)).length=_;rw[Ef a,yV]
theorem P5:∀(a:bM) (j:Nat) (l:bM) (i:Nat),i<l.length->(oK j a l)[i]?=if j<=i/\i<j+a.length then a[i-j]? else l[i]?
 |[],j,l,i,_=>by rw[b_ (by grind)];rfl
 |v::a,j,l,i,h=>by show(oK (j+1) a (l.set j v))[i]?=_;rw[P5 a (j+1) (l.set j v) i (by grind)];grind
def P6(A V:bM)(j:Nat):bM:=(List.range 240).map fun i=>if 4<=i/\i<4+27*j then V.getD ((i-4) % 27) (.tuple #[])else A.getD i (.tuple #[])
theorem Ak(A V:bM)(j:Nat):(P6 A V j).length=240:=by simp[P6]
theorem Cc(A V:bM)(j i:Nat)(h:i<240):(P6 A V j)[i]?=some (if 4<=i/\i<4+27*j then V.getD ((i-4) % 27) (.tuple #[])else A.getD i (.tuple #[])):=by unfold P6;simp_all
theorem qdi(A V:bM)(h:A.length=240):P6 A V 0=A:=by
 refine zh fun i=>?_;by_cases a:i<240;.rw[Cc A V 0 i a,b_ aj,mZ,wH aj];rfl
 grind [fB,Ak]
theorem qdj(A V:bM)(a:V.length=27)(j:Nat)(b:j<8):oK (4+27*j) V (P6 A V j)=P6 A V (j+1):=by refine zh fun i=>?_;grind [P5,Ak,Cc,fB,Ef]
theorem qii(A V:bM)(k i:Nat)(b:k<8)(a:i<27)(x:Wx)(c:V[i]?=some x):(P6 A V 8)[4+27*k+i]?=some x:=by rw[Cc A V 8 _ aj,dN aj];grind
def qij(A V:bM)(i:Nat)(c:i<4\/220<=i)(a:i<240)(x:Wx)(b:A[i]?=some x):(P6 A V 8)[i]?=some x:=by rw[Cc A V 8 _ a,b_ aj,mZ,b];rfl
def qik(c b a bw bl bi:Nat)(A:Array Wx):Prop:=
 A=((((((((((((((((zeroCells210.setIfInBounds 0 (iZ c)).setIfInBounds 1 (iZ b)).setIfInBounds 2 (iZ a)).setIfInBounds 220 (uZ (IntKind.u64.wrap (a:Int)))).setIfInBounds 221 (uZ a)).setIfInBounds 222 (uZ a)).setIfInBounds 223 (uZ 0)).setIfInBounds 224 (uZ a)).setIfInBounds 225 (iZ 8)).setIfInBounds 226 (uZ 0)).setIfInBounds 227 nZ).setIfInBounds 230 (.map (some bw))).setIfInBounds 231 (.map (some bl))).setIfInBounds 235 nZ).setIfInBounds 236 (uZ 0)).setIfInBounds 237 (.map (some bi)))
def qil:zeroCells210.size=240:=bZ
def Yo:zeroCells210[3]?=some (uZ 0):=bZ
def P7:zeroCells210[228]?=some (.bool false):=bZ
def P8:zeroCells210[229]?=some (uZ 0):=bZ
def P9:zeroCells210[232]?=some (uZ 0):=bZ
def P_:zeroCells210[233]?=some nZ:=bZ
def Qa:zeroCells210[234]?=some (uZ 0):=bZ
def Qb:zeroCells210[238]?=some (iZ 0):=bZ
def Qc:zeroCells210[239]?=some (.bool false):=bZ
def Qd(c b a bw bl bi:Nat)(Z A:Array Wx)(d:Int)(k:d=(a:Int))(n:Z.size=240)(o:Z[3]?=some (uZ 0))(e:Z[228]?=some (.bool false))(f:Z[229]?=some (uZ 0))(g:Z[232]?=some (uZ 0))(i:Z[233]?=some nZ)(j:Z[234]?=some (uZ 0))(l:Z[238]?=some (iZ 0))(m:Z[239]?=some (.bool false))(h:A=((((((((((((((((Z.setIfInBounds 0 (iZ c)).setIfInBounds 1 (iZ b)).setIfInBounds 2 (iZ a)).setIfInBounds 220 (uZ d)).setIfInBounds 221 (uZ a)).setIfInBounds 222 (uZ a)).setIfInBounds 223 (uZ 0)).setIfInBounds 224 (uZ a)).setIfInBounds 225 (iZ 8)).setIfInBounds 226 (uZ 0)).setIfInBounds 227 nZ).setIfInBounds 230 (.map (some bw))).setIfInBounds 231 (.map (some bl))).setIfInBounds 235 nZ).setIfInBounds 236 (uZ 0)).setIfInBounds 237 (.map (some bi)))):A.size=240/\A[0]?=some (iZ c)/\A[1]?=some (iZ b)/\A[2]?=some (iZ a)/\A[3]?=some (uZ 0)/\A[220]?=some (uZ a)/\A[221]?=some (uZ a)/\A[222]?=some (uZ a)/\A[223]?=some (uZ 0)/\A[224]?=some (uZ a)/\A[225]?=some (iZ 8)/\A[226]?=some (uZ 0)/\A[227]?=some nZ/\A[228]?=some (.bool false)/\A[229]?=some (uZ 0)/\A[230]?=some (.map (some bw))/\A[231]?=some (.map (some bl))/\A[232]?=some (uZ 0)/\A[233]?=some nZ/\A[234]?=some (uZ 0)/\A[235]?=some nZ/\A[236]?=some (uZ 0)/\A[237]?=some (.map (some bi))/\A[238]?=some (iZ 0)/\A[239]?=some (.bool false):=by simp_all
def qik.cells{c:Nat}(h:qik c b a bw bl bi A)(d:a<=4096):A.size=240/\A[0]?=some (iZ c)/\A[1]?=some (iZ b)/\A[2]?=some (iZ a)/\A[3]?=some (uZ 0)/\A[220]?=some (uZ a)/\A[221]?=some (uZ a)/\A[222]?=some (uZ a)/\A[223]?=some (uZ 0)/\A[224]?=some (uZ a)/\A[225]?=some (iZ 8)/\A[226]?=some (uZ 0)/\A[227]?=some nZ/\A[228]?=some (.bool false)/\A[229]?=some (uZ 0)/\A[230]?=some (.map (some bw))/\A[231]?=some (.map (some bl))/\A[232]?=some (uZ 0)/\A[233]?=some nZ/\A[234]?=some (uZ 0)/\A[235]?=some nZ/\A[236]?=some (uZ 0)/\A[237]?=some (.map (some bi))/\A[238]?=some (iZ 0)/\A[239]?=some (.bool false):=
 Qd c b a bw bl bi zeroCells210 A (IntKind.u64.wrap (a:Int)) (by rw[vC];omega) qil Yo P7 P8 P9 P_ Qa Qb Qc h
def pU.nil(oZ:Own)(t:Nat)(w:Wq)(S:Nat):pU oZ t w S nZ []:=⟨none,0,rfl,aI _,aj,.inl ⟨rfl,rfl,rfl⟩,fun b a=>by cases a⟩
def GT.nil(oZ:Own)(t:Nat)(e:TypeId)(k:Nat)(w:Wq):GT oZ t e k w nZ 0 []:=.inl ⟨rfl,rfl,rfl⟩
theorem qdk(h:w.heap[b]?=some (.map #[] 0)):oH w b []:=by obtain⟨d,⟨c,a,g,e⟩,f⟩:=oH.made ({w with heap:=#[]}:Wq);refine⟨d,⟨c,a,h.trans ?_,e⟩,f⟩;grind [eB]
theorem qmd(h:w.heap[b]?=some (.map #[] 0)):zl w b []:=by obtain⟨d,⟨c,a,g,e⟩,f⟩:=zl.made ({w with heap:=#[]}:Wq);refine⟨d,⟨c,a,h.trans ?_,e⟩,f⟩;grind [eB]
theorem qme{r:Nat}(T:qik t a r bw bl bi A)(W:r<=4096)(V:0<s)(U:aS w S TS (P6 A.toList (qK a++EH a) 8))(Q:w.heap[bw]?=some (.map #[] 0))(v:w.heap[bl]?=some (.map #[] 0))(R:w.heap[bi]?=some (.map #[] 0))(X:oZ S=s)(Y:oZ bw=s+42)(Z:oZ bl=s+43)(o4:oZ bi=s+55):gq oZ s w S (P6 A.toList (qK a++EH a) 8) (av.new t a r) bw bl bi nZ:=by
 obtain⟨hz,K,L,M,N,y,z,e,B,C,D,f,h,j,l,E,F,m,n,o,G,p,H,I,J⟩:=T.cells W;have g:∀i x,(i<4\/220<=i)->i<240->A[i]?=some x->(P6 A.toList (qK a++EH a) 8)[i]?=some x:=fun i x u v d=>qij _ _ i u v x (by grind);have q:∀k i x,k<8->i<27->(qK a++EH a)[i]?=some x->(P6 A.toList (qK a++EH a) 8)[4+27*k+i]?=some x:=fun k i x b u d=>qii _ _ k i b u x d;have P:∀k,k<8->(av.new t a r).out k=Ot.new a:=fun k b=>by show(mI 8 (Ot.new a)).getD k vR=_;grind
 have O:∀k,k<8->(av.new t a r).bH k=dP.new a:=fun k b=>by show(mI 8 (dP.new a)).getD k xk=_;grind
 refine⟨X,V,U,⟨Ak _ _ _,g _ _ aj aj K,g _ _ aj aj L,g _ _ aj aj M,g _ _ aj aj N,g _ _ aj aj y,⟨g _ _ aj aj z,g _ _ aj aj e,g _ _ aj aj B,g _ _ aj aj C⟩,g _ _ aj aj D,g _ _ aj aj f,g _ _ aj aj h,g _ _ aj aj j,g _ _ aj aj l,g _ _ aj aj E,g _ _ aj aj F,g _ _ aj aj m,g _ _ aj aj n,g _ _ aj aj o,g _ _ aj aj G,g _ _ aj aj p,g _ _ aj aj H,g _ _ aj aj I,g _ _ aj aj J⟩,fun k b=>?_,fun k b=>?_,pU.nil _ _ _ _,⟨fun _=>(none,0),Y,qdk Q,fun x d=>by cases d⟩,⟨fun _=>(none,0),Z,qdk v,fun x d=>by cases d⟩,⟨GT.nil _ _ _ _ _,GT.nil _ _ _ _ _,o4,qmd R⟩,by simp[av.new],by simp[av.new]⟩;.rw[P k b];refine⟨nZ,nZ,nZ,⟨q k 0 _ b aj rfl,q k 1 _ b aj rfl,⟨q k 2 _ b aj rfl,q k 3 _ b aj rfl,q k 4 _ b aj rfl,q k 5 _ b aj rfl⟩,q k 6 _ b aj rfl,q k 7 _ b aj rfl,q k 8 _ b aj rfl,q k 9 _ b aj rfl,q k 10 _ b aj rfl,q k 11 _ b aj rfl,q k 12 _ b aj rfl,q k 13 _ b aj rfl⟩,GT.nil _ _ _ _ _,pU.nil _ _ _ _,pU.nil _ _ _ _⟩
 .rw[O k b];have c:∀i x,i<13->(qK a++EH a)[14+i]?=some x->(P6 A.toList (qK a++EH a) 8)[18+27*k+i]?=some x:=fun i x u d=>by
   rw[show 18+27*k+i=4+27*k+(14+i) by omega];exact q k (14+i) x b aj d
  exact⟨nZ,nZ,⟨⟨c 0 _ aj rfl,c 1 _ aj rfl,c 2 _ aj rfl,c 3 _ aj rfl⟩,c 4 _ aj rfl,c 5 _ aj rfl,c 6 _ aj rfl,c 7 _ aj rfl,c 8 _ aj rfl,c 9 _ aj rfl,c 10 _ aj rfl,c 11 _ aj rfl,c 12 _ aj rfl⟩,GT.nil _ _ _ _ _,GT.nil _ _ _ _ _⟩
section
def qim{c:Code}{K:Act->Wq->Prop}{n:Exit->Act->Wq->Prop}{a:Act}(act:Nat->Nat->Nat->Nat->Array Wx->Act)(R:Nat->Nat->Nat->Nat->Array Wx->Wq->Prop)(h:c.wp prog (Exit.then (fun m l=>∃d f g j k,m=act d f g j k/\R d f g j k l) fun _ _ _=>False) a w)(p:∀d f g j k l,R d f g j k l->K (act d f g j k) l):c.wp prog (Exit.then K n) a w:=
 wp_mono h fun e m l b=>by
  cases e with
  |normal=>obtain⟨d,f,g,j,k,rfl,o⟩:=b;exact p _ _ _ _ _ _ o
  |ret=>exact b.elim
  |exit i=>exact b.elim
  |goto i=>exact b.elim
  |panic c=>exact b.elim
  |outgrown=>exact b.elim
def o9(h:bJ z y):bJ z y.drew:=⟨h.os,h.tape,h.output,h.size,h.block⟩
def o_(o:Obj)(h:bJ z y):bJ z (y.alloc o):=h.alloc h.size o
theorem qdl(z:Wq)(h:Below (z.alloc (.map #[] 0)).heap.size (z.alloc (.map #[] 0)) Y):Y.heap[z.heap.size]?=some (.map #[] 0):=(h.block _ aR).trans (eB z _)
theorem qin(z:Wq)(o:Obj)(h:Below ((z.alloc o).alloc (.map #[] 0)).heap.size ((z.alloc o).alloc (.map #[] 0)) Y):Y.heap[z.heap.size+1]?=some (.map #[] 0):=by grind [qdl,l9]
def qmf(h:y.heap[b]?=some (.map #[] 0))(a:bJ y Y):Y.heap[b]?=some (.map #[] 0):=(a.block b (oF.1 h).1).trans h
def qrf(c b d:Nat)(a:Wq)(S bw bl bi:Nat)(A:Array Wx)(w':Wq):Prop:=
 ∃Y,w'=Y.alloc (.cells A 210)/\S=Y.heap.size/\qik c b d bw bl bi A/\bJ a Y/\Y.heap[bw]?=some (.map #[] 0)/\Y.heap[bl]?=some (.map #[] 0)/\bw≠bl/\a.heap.size<=bw/\a.heap.size<=bl/\Y.heap[bi]?=some (.map #[] 0)/\bi≠bw/\bi≠bl/\a.heap.size<=bi
def qoy(c b a d:Nat)(S bw bl bi:Nat)(A:Array Wx):Act:={tmps:=#[.agg #[iZ c,iZ b,iZ a],aK d 0,.pointer none,.nilIface,aK S 0,VG,.agg #[iZ c,iZ b,iZ a],.bool true,.bool false,VG,.agg #[iZ c,iZ b,iZ a],aK d 2,iZ a,(uZ (IntKind.u64.wrap (a:Int))),aK d 2,iZ a,.agg #[uZ a,uZ a,uZ 0,uZ a],.agg #[iZ 8,uZ 0,nZ],.map (some bw),.map (some bl),.agg #[nZ,uZ 0,.map (some bi)],.agg A,aK S 0,VG,VG,VG,VG,VG,VG,VG,VG,VG,VG,VG,VG,VG,VG,VG,VG,VG],defers:=[]}
def zD(R:Nat):∀(a:bM) (j:Nat) (y:Wq),y.setCells R j a=qJ R j a y
 |[],_,_=>rfl
 |v::a,j,y=>by show(y.setCell (aA R j) v).setCells R (j+1) a=qJ R (j+1) a (y.setCell (aA R j) v);exact zD R a (j+1) _
def qio(y:Wq)(S o a:Nat)(h:y.there S o 27):(storeVar 200 (aA S o) (.agg #[nZ,.bool false,.bool false,uZ 0,uZ 0,uZ 0,uZ a,uZ 0,iZ 2049,uZ 0,nZ,iZ 2049,uZ 0,nZ,uZ a,uZ a,uZ 0,uZ a,uZ 0,nZ,nZ,uZ 0,.bool false,uZ 0,.bool false,uZ 0,iZ 0])).run prog y=.ok () (qJ S o (qK a++EH a) y):=by rw[<-zD];exact run_storeVar_mid y S o 200 (qK a++EH a).toArray h bZ (by simp[Value.oneCell'])
attribute [-go_sem] storeVar
theorem qmg(oZ:Own)(s:Nat)(hs:0<s)(m a f:Nat)(hm:64<=m/\m<=400)(hw:16<=a/\a<=4096)(ht:16<=f/\f<=4096)(w:Wq):WA prog 107 #[.agg #[iZ m,iZ a,iZ f]] w fun e w'=>∃S bw t r H l vc,e=.returned (.tuple #[aK S 0,.nilIface])/\gq H s w' S l (av.new m a f) bw t r vc/\Kp [] oZ H w w':=by
 have hv:=@run_makeMap prog;have W:=aG (fun y=>qdh m a f hm hw ht y);have HG:Hid (∀y,bN 142 #[iZ f] y (.agg #[uZ f,uZ f,uZ 0,uZ f]) fun C=>∀z:Wq,bJ z y->bJ z C):=fun y=>(JY f ht.2 y).mono fun e C hh=>⟨hh.1,fun z J=>J.trans (hh.2.mono J.size)⟩;have HS:Hid (∀y,bN 126 #[iZ 8] y (.agg #[iZ 8,uZ 0,nZ]) fun C=>∀z:Wq,bJ z y->bJ z C):=fun y=>(UD 8 y).mono fun e C hh=>⟨hh.1,fun z J=>J.trans (hh.2.mono J.size)⟩;have HI:Hid (∀y,WA prog 143 #[] y fun e C=>∃b,e=.returned (.agg #[nZ,uZ 0,.map (some b)])/\(∀z:Wq,bJ z y->bJ z C)/\C.heap[b]?=some (.map #[] 0)/\y.heap.size<=b/\b<C.heap.size):=fun y=>(Yn y).mono fun e C ⟨b,h1,h2,h3,h4⟩=>⟨b,h1,fun z J=>J.trans (h2.mono J.size),h3,h4,(oF.1 h3).1⟩;obtain⟨W0,L⟩:=bU (w.alloc (.cells #[iZ m,iZ a,iZ f] 45));have O:aS W0 w.heap.size 45 [iZ m,iZ a,iZ f]:=by grind [aS.new]
 have G5:=O.lt;have N:bJ w W0:=by rw[L];exact(bP _ w).alloc (aI _) _
 go_enter func107,ntmps107;go_wp2_with (go_at_call 141;rw[<-L];refine bK (W.out W0) ?_;rintro B c);have q:=O.of_heap (c.block _ G5);have d:=q.lt;have c0:B.cell? (aA w.heap.size 0)=some (iZ m):=q.cell 0;have X:B.cell? (aA w.heap.size 1)=some (iZ a):=q.cell 1;have c2:B.cell? (aA w.heap.size 2)=some (iZ f):=q.cell 2;have HC:Hid (∀y:Wq,bJ B y->y.cell? (aA w.heap.size 0)=some (iZ m)/\y.cell? (aA w.heap.size 1)=some (iZ a)/\y.cell? (aA w.heap.size 2)=some (iZ f)/\w.heap.size<y.heap.size):=fun y p=>⟨cell_of c0 (p.block _ d),cell_of X (p.block _ d),cell_of c2 (p.block _ d),gK d p.size⟩;have V6:=aG (dz q (N.trans (c.mono N.size)));clear O q W L N c;have h8:bJ B B:=bP _ _;refine qim (qoy m a f w.heap.size) (qrf m a f B) ?_ (fun S bw t r A w2 hR=>?_)
 .go_region_held3 (fun y=>y.cell? (aA w.heap.size 0)=some (iZ m)/\y.cell? (aA w.heap.size 1)=some (iZ a)/\y.cell? (aA w.heap.size 2)=some (iZ f)/\w.heap.size<y.heap.size) ((go_keep<;>(first|omega|(rw[yU];omega))))
   ((first|(go_at_call 142;refine bK (HG.out _) ?_;rintro D p;have g:bJ B D:=p _ (by repeat(first|assumption|refine o_ _ ?_|refine o9 ?_));have iD:=g.size;have u:=(p _ (bP _ _)).size;(try simp at u);obtain⟨d0,Z,d2,d3⟩:=HC.out D g)|(go_at_call 126;refine bK (HS.out _) ?_;rintro D p;have g:bJ B D:=p _ (by repeat(first|assumption|refine o_ _ ?_|refine o9 ?_));have iD:=g.size;have u:=(p _ (bP _ _)).size;(try simp at u);obtain⟨d0,Z,d2,d3⟩:=HC.out D g)|(go_at_call 143;refine(HI.out _).mono ?_;rintro e D ⟨b,rfl,p,hr,h7,hu⟩;(try simp at h7);have g:bJ B D:=p _ (by repeat(first|assumption|refine o_ _ ?_|refine o9 ?_));have iD:=g.size;have u:=(p _ (bP _ _)).size;(try simp at u);obtain⟨d0,Z,d2,d3⟩:=HC.out D g)))
  all_goals refine⟨_,_,_,_,_,rfl,_,rfl,(by first|rfl|simp),rfl,(by repeat(first|assumption|refine o_ _ ?_|refine o9 ?_)),?_,?_,?_,?_,?_,?_,?_,?_,?_⟩
  all_goals first
   |omega
   |exact qdl _ (by repeat(first|exact bP _ _|assumption|refine o_ _ ?_|refine o9 ?_|refine(by assumption:∀z:Wq,bJ z _->bJ z _) _ ?_))
   |exact qmf Nc (by repeat(first|exact bP _ _|assumption|refine o_ _ ?_|refine o9 ?_|refine(by assumption:∀z:Wq,bJ z _->bJ z _) _ ?_))
   |exact qin _ (.map #[] 0) (by repeat(first|exact bP _ _|assumption|refine o_ _ ?_|refine o9 ?_|refine(by assumption:∀z:Wq,bJ z _->bJ z _) _ ?_))
 .obtain⟨Y,rfl,rfl,hA,OI,m1,m2,P,l1,l2,m3,n1,n2,l3⟩:=hR;have ha:=(hA.cells ht.2).1;have HO:=aG (fun y=>qfp a hw.2 y);have HN:=aG (fun y=>qks a hw.2 y);have hV:(qK a++EH a).length=27:=rfl;obtain⟨T,M⟩:=bU (Y.alloc (.cells A 210));have h5:Hid (aS T Y.heap.size TS (P6 A.toList (qK a++EH a) 0)/\T.heap[bw]?=some (.map #[] 0)/\T.heap[t]?=some (.map #[] 0)/\aS T w.heap.size 45 [iZ m,iZ a,iZ f]/\bJ w T/\w.heap.size<Y.heap.size/\bw<Y.heap.size/\t<Y.heap.size/\r<Y.heap.size/\T.heap[r]?=some (.map #[] 0)):=by
   have b1:=(oF.1 m1).1;have b2:=(oF.1 m2).1;have b4:=(oF.1 m3).1;have b3:=gK d OI.size;rw[qdi _ _ (by grind),M];refine⟨by have:=aS.new Y 210 A.toList;rwa[Array.toArray_toList]at this,(mJ _ _ _ b1).trans m1,(mJ _ _ _ b2).trans m2,(V6.out.1.of_heap (OI.block _ d)).of_heap (mJ _ _ _ b3),?_,b3,b1,b2,b4,(mJ _ _ _ b4).trans m3⟩;have:=V6.out.2.trans (OI.mono (AB d));exact this.alloc (AB b3) _
  unfold qoy;rw[<-M];have ug:=aG (dz hA (dz P (dz l1 (dz l2 (dz d (dz n1 (dz n2 l3)))))));clear M hA OI m1 m2 P l1 l2 m3 n1 n2 l3 h8 c0 X c2 ha;generalize Y.heap.size=S at *
  go_wp2;go_loopw [23] (fun R wr=>∃j:Nat,j<=8/\R=(iZ j)/\Hid (aS wr S TS (P6 A.toList (qK a++EH a) j)/\wr.heap[bw]?=some (.map #[] 0)/\wr.heap[t]?=some (.map #[] 0)/\aS wr w.heap.size 45 [iZ m,iZ a,iZ f]/\bJ w wr/\w.heap.size<S/\bw<S/\t<S/\r<S/\wr.heap[r]?=some (.map #[] 0))) (fun R _=>8-(RowKit.intOf R).toNat);case atStart=>grind
  case round=>
   obtain⟨j,hj,rfl,G⟩:=hrel;clear h5;by_cases h9:j<8
   .have hf:(j:Int)<8:=aj;have X:wr.cell? (aA w.heap.size 1)=some (iZ a):=G.out.2.2.2.1.cell 1;have h0:=G.out.2.2.2.1.lt;have vZ:=G.out.1.lt;go_wp2;have h6:S≠w.heap.size:=fT G.out.2.2.2.2.2.1;have he:∀(o:Nat) (vs:bM) (y:Wq),(qJ S o vs y).cell? (aA w.heap.size 1)=y.cell? (aA w.heap.size 1):=fun o vs y=>by
     have:=(pV S vs o y).block w.heap.size (qh h6);unfold World.cell?;grind
    go_region_held3 (fun y=>y.cell? (aA w.heap.size 1)=some (iZ a)) (go_keep)
     ((first|(go_at_call 144;refine bK (HO.out _) ?_;rintro D c;have Z:=cell_of X (c.block _ (by simpa using h0)))|(go_at_call 145;refine bK (HN.out _) ?_;rintro y2 F;have d2:=cell_of Z (F.block _ (gK (by simpa using h0) c.size));have E:=(G.out.1.of_heap (c.block _ (by simpa using vZ))).of_heap (F.block _ (gK (by simpa using vZ) c.size));have hc:=qio y2 S (4+j*27) a (fun i hi=>⟨by rw[E.cell,Cc _ _ j _ aj];rfl,E.frozen _⟩);have V:=aG E;clear E)))
    obtain⟨U,BG⟩:=bU (qJ S (4+j*27) (qK a++EH a) y2);have hg:Hid (aS U S TS (P6 A.toList (qK a++EH a) (j+1))/\U.heap[bw]?=some (.map #[] 0)/\U.heap[t]?=some (.map #[] 0)/\aS U w.heap.size 45 [iZ m,iZ a,iZ f]/\bJ w U/\w.heap.size<S/\bw<S/\t<S/\r<S/\U.heap[r]?=some (.map #[] 0)):=by
     obtain⟨r1,r2,r3,r4,K,r6,r7,r8,r9,Q⟩:=G.out;have tc:=pV S (qK a++EH a) (4+j*27) y2;have I:bJ wr D:=⟨c.os,c.tape,c.output,c.size,c.block⟩;have hy:=I.trans (F.mono I.size);rw[<-BG]at tc;have n:=fun k hk hn=>(tc.block k hn).trans (hy.block k hk);refine⟨?_,(n bw aj aj).trans r2,(n t aj aj).trans r3,r4.of_heap (n _ aj aj),?_,r6,r7,r8,r9,(n r aj aj).trans Q⟩;.rw[<-qdj _ _ hV j h9,show 4+27*j=4+j*27 by omega,BG];exact rE _ _ y2 _ V.out
     .exact tc.below (K.trans (hy.mono K.size)) aj
    change Exit.inBlock _ _ _ _ (qJ S (4+j*27) (qK a++EH a) y2);rw[<-BG];clear BG c F hc V G Z d2 he X;go_wp2;go_roundw;case rel=>grind
    grind [RowKit.intOf]
   .obtain rfl:j=8:=aj;go_wp2;refine bodyPost_ret (v:=.tuple #[aK S 0,.nilIface]) (by simp[results,results107,go_sem]) rfl ?_;obtain⟨r1,r2,r3,r4,K,r6,r7,r8,r9,Q⟩:=G.out;obtain⟨hA,P,l1,l2,d,n1,n2,l3⟩:=ug.out;obtain⟨H,ho⟩:=bU (fun x=>if x<w.heap.size then oZ x else if x=S then s else if x=bw then s+42 else if x=t then s+43 else if x=r then s+55 else 0:Own);have o1:H S=s:=by grind
    have o2:H bw=s+42:=by grind
    have o3:H t=s+43:=by grind
    have o4:H r=s+55:=by grind
    exact⟨S,bw,t,r,H,_,_,rfl,qme hA ht.2 hs r1 r2 r3 Q o1 o2 o3 o4,⟨K.os,K.tape,K.output,K.size,fun x hx _=>K.block x hx,fun x hx=>by grind⟩⟩
