import Derived.Test.YtphbledmopchnaaGreatDoorVcb
import Derived.Test.YtphbledmopchnaaGreatDoorVdb
open Go.Builtin renaming zeroCells->fA,append_->fE
open Prod renaming fst->eB
open Go.RowKit renaming intOf->eT
open Go.World renaming size_alloc->fB
set_option maxHeartbeats 4000000
set_option maxRecDepth 100000
open Go renaming World->Wq,Value->Wx,Calls->WA,undef->VG
set_option linter.all false
namespace Go.Proofs.YtphbledmopchnaaGreatDoor.Sd
open Go.RowKit Go.Lib Mm Tryz
variable {D:Nat->Src}{L:List FV}{M:av}{Q:List Nat}{S ab bi bl bw c n p s u:Nat}{aH:bY}{args:Array Wx}{b:List UInt8}{f g:av->bY->Bool}{fH oZ:Own}{nx:av->bY->Int->Option (Fr×av×bY)}{v:Wx}{vs:bM}{w w0:Wq}{x:Src}{y:Bool}
theorem Td{D F G}(w)(h:XV oZ s w S bw bl bi D x F G nx):WA prog 201 #[aK S 0,qL x] w fun e u=>∃c o,e=.returned (qL c)/\Kp [] oZ o w u/\c.u=x.u/\c.y=true/\mF o s u S bw bl bi D c (fun M n=> !M.full&&F M n) G (fun M n z=>nx M n (z-M.jc)):=by
 obtain⟨n1,n2,P,Q,R,U,V,X⟩:=h.fn;obtain⟨I,A⟩:=bU (.func (.func 248) #[] #[(aK (w.heap.size+1+1+1) 0),aK w.heap.size 0]:Wx);obtain⟨W,B⟩:=bU (((((w.alloc (.cells #[aK S 0] 128)).alloc (.cells #[iZ x.u,.func x.f1 x.p1 x.k1,I,.bool true] 304)).alloc (.cells #[iZ 0,.nilFunc,.nilFunc,.bool false] 304)).alloc (.cells #[.func x.f2 x.p2 x.k2] 302)));have N:aS W w.heap.size 128 [aK S 0]:=by rw[B];exact((aS.new w 128 _).alloc _).alloc _ |>.alloc _
 have B2:aS W (w.heap.size+1+1) 304 [iZ 0,.nilFunc,.nilFunc,.bool false]:=by rw[B];have:=(aS.new ((w.alloc (.cells #[aK S 0] 128)).alloc (.cells #[iZ x.u,.func x.f1 x.p1 x.k1,I,.bool true] 304)) 304 [iZ 0,.nilFunc,.nilFunc,.bool false]).alloc (.cells #[.func x.f2 x.p2 x.k2] 302);grind [fB]
 have H:aS W (w.heap.size+1+1+1) 302 [.func x.f2 x.p2 x.k2]:=by grind [aS.new,fB]
 have r:bJ w W:=by rw[B];exact((((bP _ w).alloc (aI _) _).alloc aR _).alloc dZ _).alloc dZ _
 have iD:W.heap.size=w.heap.size+4:=by rw[B];simp
 obtain⟨p,L⟩:=bU (fun b=>if b<w.heap.size then oZ b else if b=w.heap.size+2 then s+52 else s+47:Own);have C:Kp [] oZ p w W:=⟨r.os,r.tape,r.output,r.size,fun b g _=>r.block b g,fun b g=>by grind⟩;have Z:p w.heap.size=s+47:=by grind
 have o2:p (w.heap.size+1+1)=s+52:=by grind
 have o3:p (w.heap.size+1+1+1)=s+47:=by grind
 rw[Q]at H;have Y:mF p s W S bw bl bi D ⟨x.u,x.f1,x.p1,x.k1,.func 248,#[],#[(aK (w.heap.size+1+1+1) 0),aK w.heap.size 0],true⟩ F G (fun M n z=>nx M n (z-M.jc)):=
  ⟨n1,248,P,rfl,R,enters_of func248 bZ rfl,V.kp (C.mono aR),qg1 _ _ U ⟨o3,H⟩ ⟨Z,N⟩ (X.kp (C.mono aR))⟩
 have HC:Hid (WA prog 205 #[aK S 0,.agg #[iZ x.u,.func x.f1 x.p1 x.k1,I,.bool true]] W fun e u=>∃d f1 k i f2 l j f,e=.returned (.agg #[iZ d,.func f1 k i,.func f2 l j,.bool f])/\aS u (w.heap.size+1+1) 304 [iZ 0,.nilFunc,.nilFunc,.bool false]/\Hid (d=x.u/\f=true/\∀m,nP (w.heap.size+1+1) u m->∃o,Kp [] oZ o w m/\mF o s m S bw bl bi D ⟨d,f1,k,i,f2,l,j,f⟩ (fun M n=> !M.full&&F M n) G (fun M n z=>nx M n (z-M.jc)))):=by
  have:=zB W Y;rw[A];refine this.mono ?_;rintro e u ⟨c,rfl,g,hu,hy,K⟩;refine⟨c.u,c.f1,c.p1,c.k1,c.f2,c.p2,c.k2,c.y,rfl,fD g B2,hu,hy,fun m t=>⟨JZ p s W.heap.size,?_,?_⟩⟩;.have q:=C.trans (Ic (oZ:=p) (s:=s) g);exact⟨t.os.trans q.os,t.tape.trans q.tape,t.output.trans q.output,by rw[t.size];exact q.size,fun b J hn=>(t.block b aj).trans (q.cK b J hn),q.ext⟩
  .refine K.kp (t.kpt (T:=Tb s) ?_);grind [LV,ko]
 clear Y C Z o2 o3 L P Q R U V X h N H r;go_enter func201,ntmps201;go_wp2_with (first|(go_at_call 205;rw[<-A,<-B];refine HC.out.mono ?_;rintro e y ⟨d,f1,k,i,f2,l,j,f,rfl,a,HP⟩;have y0:=a.cell 0;have y1:=a.cell 1;have y2:=a.cell 2;have y3:=a.cell 3;simp only[jh,gN]at y0 y1 y2 y3;have yf:=a.frozen)|go_in);have hT:=pV (w.heap.size+1+1) [iZ d,.func f1 k i,.func f2 l j,.bool f] 0 y;have E:=rE [iZ d,.func f1 k i,.func f2 l j,.bool f] 0 y _ a;have O:qJ (w.heap.size+1+1) 0 [iZ d,.func f1 k i,.func f2 l j,.bool f] y=(((y.setCell (aA (w.heap.size+1+1) 0) (iZ d)).setCell (aA (w.heap.size+1+1) 1) (.func f1 k i)).setCell (aA (w.heap.size+1+1) 2) (.func f2 l j)).setCell (aA (w.heap.size+1+1) 3) (.bool f):=rfl;rw[<-O];clear O;generalize qJ (w.heap.size+1+1) 0 [iZ d,.func f1 k i,.func f2 l j,.bool f] y=m at *
 have a0:m.cell? (aA (w.heap.size+1+1) 0)=some (iZ d):=E.cell 0;have a1:m.cell? (aA (w.heap.size+1+1) 1)=some (.func f1 k i):=E.cell 1;have a2:m.cell? (aA (w.heap.size+1+1) 2)=some (.func f2 l j):=E.cell 2;have a3:m.cell? (aA (w.heap.size+1+1) 3)=some (.bool f):=E.cell 3;obtain⟨q1,q2,q3⟩:=HP.out;obtain⟨o,q4,q5⟩:=q3 m hT;exact bodyPost_ret (v:=.agg #[iZ d,.func f1 k i,.func f2 l j,.bool f]) (by simp[results,results201,go_sem,a0,a1,a2,a3]) rfl ⟨⟨d,f1,k,i,f2,l,j,f⟩,o,rfl,q4,q1,q2,q5⟩
theorem tC.push{fH s w0 S bw bl bi c D p oZ aX w w' M f Q a L v v' g i}(h:tC fH s w0 S bw bl bi c D p oZ w M f Q a L v g i)(u)(d:PU oZ s w S bw bl bi c D u)(m:Er aX (s+45) D w' p v' (eY Q u))(K:Kp [s+45,s+45+1] oZ aX w w'):tC fH s w0 S bw bl bi c D p aX w' M f (eY Q u) a L v' g i:=by have b:Kp (Tb s) oZ aX w w':=K.mono fun x e=>ko.2 (by grind);have k:Kp (Tg s) oZ aX w w':=K.mono fun x e=>rT.2 (by grind);exact⟨m,fun j l=>(Lp.push h.z h.qs u d j l).kp b,fun u d=>(h.ls u d).kp b,h.z.kp b,h.env.kp K dZ aR aR,h.fr.kp K aR,fun x e=>(h.fv x e).kp K aR,h.la.kp K aR,h.kp.trans k,h.nl⟩
def tC.done{b a d f}(h:tC fH s w0 S bw bl bi c D p oZ w M b Q a L v d f):tC fH s w0 S bw bl bi c D p oZ w M b Q [] L v d nZ:=
 ⟨h.hq,h.qs,(fun u e=>by cases e),h.z,h.env,h.fr,h.fv,.inl ⟨rfl,rfl,rfl⟩,h.kp,h.nl⟩
theorem oQ:∀(m l:List Nat),(m.foldl eY l).length=l.length+m.length
 |[],l=>rfl
 |u::t,l=>by show(t.foldl eY (eY l u)).length=_;rw[oQ t,qR];simp;omega
def Ih(fH:Own)(s:Nat)(w0:Wq)(S bw bl bi c:Nat)(D:Nat->Src)(p:Nat)(P:av->bY->Prop)(X:av×bY×List Nat×List Fr)(e:Ending)(w':Wq):Prop:=
 ∃b d a f L,e=.returned a/\L.map eB=X.2.2.2/\tC fH s w0 S bw bl bi c D p b w' X.1 X.2.1 X.2.2.1 [] L d a f/\P X.1 X.2.1
theorem qbe{N}(P w0 M0 Km Q0 BN)(hd:∀u,(D u).u=(u:Int))(z9:0<s)(h:tC fH s w0 S bw bl bi N D p fH w0 M0 Km Q0 [] [] v nZ nZ)(hr:0<=BN/\BN<=1000)(hQ:Q0.length<=500)(y7:P M0 Km)(xy:∀M t,P M t->Wk M/\Dm t=true)(xz:∀M t u z f M' dh,P M t->u<48->M.aL t u=true->M.frame t u z=some (f,M',dh)->P M' dh/\((bf f).length:Int)<=z/\0<(bf f).length/\snd f=true/\oz f):WA prog 156 #[aK p 0,iZ BN] w0 fun e E=>Ih fH s w0 S bw bl bi N D p P (fill M0 Km Q0 BN) e E:=by
 obtain⟨X,hX⟩:=bU (fill M0 Km Q0 BN);rw[<-hX];have HX:Hid (fV (Q0.length+BN.toNat+1) M0 Km Q0 [] BN []=X):=hX.symm;have HH:=aG h;have Ap:=aG xy;have zK:=aG xz;have HD:=aG hd;have yk:=aG y7;have HR:=aG hr;clear hX h xy xz hd y7 hr;go_enter func156,ntmps156;go_wp2;go_loopg [1,5,6] (Q0.length+BN.toNat) (fun kx s1 s5 s6 wr=>∃(z:Int) (oZ:Own) (M:av) (t:bY) (Q a:List Nat) (L:List FV) (v':Wx),s1=(iZ z)/\Hid (tC fH s w0 S bw bl bi N D p oZ wr M t Q a L v' s5 s6/\P M t/\0<=z/\z<=1000/\Q.length+a.length<=500/\L.length<=1000-z.toNat/\∃n,Q.length+z.toNat<n/\fV n M t Q a z (L.map eB)=X)/\Hid (Q.length+z.toNat<=kx));case atStart=>exact⟨BN,fH,M0,Km,Q0,[],[],v,rfl,(⟨HH.out,yk.out,HR.out.1,HR.out.2,by grind,aR,_,YD _,HX.out⟩:_/\_),aI _⟩
 case round=>
  obtain⟨z,oZ,M,t,Q,a,L,v',rfl,HF,HK⟩:=hrel;obtain⟨Fs,h0,hf,hg,zy,h9,n,hc,BO⟩:=HF.out;cases Q with
  |nil=>
   obtain⟨qa,qc,rfl,_,_⟩:=Fs.hq.sr.shape;have x0:wr.cell? (aA p 0)=some (.slice qa 0 qc):=Fs.hq.pb.cell 0;have HL:=aG (EI qa 0 qc wr);have h8:(M,t,a.foldl eY [],L.map eB)=X:=by
    rw[<-BO];cases n with
    |zero=>omega
    |succ n=>rfl
   obtain⟨la,lc,rfl,_,_⟩:=Fs.la.shape;have xe:=aG Fs;have vY:=aG h8;have yr:a.length<=500:=aj;clear Fs h8;go_wp2_with (first|(go_at_call 208;refine bK HL.out ?_;rintro E rfl)|go_in);go_loopw [57] (fun hj xv=>∃k:Nat,k<=a.length/\hj=(iZ k)/\Hid (∃iA K,tC fH s w0 S bw bl bi N D p iA xv M t ((a.take k).foldl eY []) a L K u5 (.slice la a.length lc))) (fun hj _=>a.length-(eT hj).toNat);case atStart=>exact⟨0,eG _,rfl,oZ,_,xe.out⟩
   case round=>
    obtain⟨k,hk,rfl,HI⟩:=hrel;by_cases xl:k<a.length
    .have y6:(k:Int)<(a.length:Int):=aj;obtain⟨iA,K,W⟩:=HI.out;obtain⟨u,hu⟩:=bU (a.getD k 0);have eu:a[k]?=some u:=by rw[hu,mZ,wH xl];rfl
     obtain⟨q0,q1,q2,q3⟩:=rF D a k u eu;obtain⟨gg,e1,_,_,c0,_⟩:=W.la.cell _ _ q0;subst e1;obtain⟨g1,e1,_,_,c1,_⟩:=W.la.cell _ _ q1;cases e1;obtain⟨g1,e1,_,_,c2,_⟩:=W.la.cell _ _ q2;cases e1;obtain⟨g1,e1,_,_,c3,_⟩:=W.la.cell _ _ q3;cases e1;obtain⟨W3,d⟩:=bU (wr.alloc (.cells #[(iZ (D u).u),.func (D u).f1 (D u).p1 (D u).k1,.func (D u).f2 (D u).p2 (D u).k2,.bool (D u).y] 304));have O:bJ wr W3:=by rw[d];exact(bP _ wr).alloc (aI _) _
     have F3:=W.new (Kp.below O);have zy:((a.take k).foldl eY []).length<1000:=by rw[oQ,Au];omega
     have Y:=aG (EN iA (s+45) D HD.out W3 p K _ u zy F3.hq);have hw:=aG F3;have HU:Hid (PU iA s W3 S bw bl bi N D u):=F3.ls u (Cx eu);have HT:Hid ((a.take (k+1)).foldl eY []=eY ((a.take k).foldl eY []) u):=by rw[Ua,eu,EY];rfl
     generalize ((a.take k).foldl eY [])=QK at Y hw HT zy;generalize (D u).u=d0 at c0 d Y;generalize (D u).f1=d1 at c1 d Y;generalize (D u).p1=d2 at c1 d Y;generalize (D u).k1=d3 at c1 d Y;generalize (D u).f2=d4 at c2 d Y;generalize (D u).p2=d5 at c2 d Y;generalize (D u).k2=d6 at c2 d Y;generalize (D u).y=d7 at c3 d Y;clear W F3 q0 q1 q2 q3 eu hu O HI;go_wp2_with (first|(go_at_call 199;rw[<-d];refine bK Y.out ?_;rintro w4 HQ)|go_in);go_roundw;case rel=>obtain⟨xo,v4,xn,K4⟩:=HQ.out;exact⟨k+1,aj,aR,xo,v4,by rw[HT.out];exact hw.out.push u HU.out xn K4⟩
     case measure=>simp[eT];omega
    .obtain rfl:k=a.length:=aj;obtain⟨iA,K,W⟩:=HI.out;rw[AJ]at W;have xf:Hid (Ih fH s w0 S bw bl bi N D p P X (.returned u5) wr):=⟨iA,K,u5,nZ,L,rfl,by rw[<-vY.out],by rw[<-vY.out];exact W.done,by rw[<-vY.out];exact h0⟩;clear W HI;go_wp2;go_ret;exact xf.out
  |cons u Q=>
   obtain⟨g,c,rfl,hp,x0,x1,x2,x3,x4⟩:=Fs.head;have HL:=aG (EI (some (aA g 0)) (Q.length+1) c wr);have ha:=Fs.qs u aR;obtain⟨n1,n2,Uo,hn,z6,z7,x8,x7⟩:=ha.fn;obtain⟨ho,xa⟩:=Ap.out M t h0;have ey:=ha.1.1;rw[Uo]at x2;rw[hn]at x3;rw[ey]at x4;obtain⟨W3,d⟩:=bU (wr.alloc (.cells #[(iZ (D u).u),.func (.func n1) (D u).p1 (D u).k1,.func (.func n2) (D u).p2 (D u).k2,.bool (kZ u)] 304));have O:bJ wr W3:=by rw[d];exact(bP _ wr).alloc (aI _) _
   have I:aS W3 wr.heap.size 304 [(iZ (D u).u),.func (.func n1) (D u).p1 (D u).k1,.func (.func n2) (D u).p2 (D u).k2,.bool (kZ u)]:=by rw[d];exact aS.new wr 304 _
   have ys:wr.heap.size<W3.heap.size:=by rw[d];simp
   have K3:=(xH oZ wr).trans (Kp.below O);have F3:=Fs.new K3;have C:WA prog n1 ((D u).p1++(D u).k1) W3 fun e E=>e=.returned (.bool (M.aL t u))/\bJ W3 E:=x8 _ W3 M t (K3.mono aR) F3.env ho;have y9:loc oZ wr.heap.size wr.heap.size=0:=jF _ _ _ (aI _);obtain⟨m,rfl⟩:∃m,n=m+1:=⟨n-1,aj⟩;have yn:=ha.2;have zd:(0:Int)<((Q.length+1:Nat):Int):=aj;cases J:M.aL t u
   .rw[J]at C;have A:fV m M t (mO (u::Q)) a z (L.map eB)=X:=by
     rw[<-BO];conv=>rhs;unfold fV
     simp only[J];rfl
    have ML:Hid (∀B,bJ W3 B->WA prog 209 #[.iface 250 (aK p 0)] B fun e E=>Ow e/\Hid (∃K,tC fH s w0 S bw bl bi N D p (loc oZ wr.heap.size) E M t (mO (u::Q)) a L K u5 u6)):=fun B l=>by have F4:=F3.new (Kp.below l);obtain⟨g',c',e',xm⟩:=F4.hq.hp aR;refine(Ox _ (s+45) D HD.out B p g' c' (u::Q) Q.length rfl (by simp at zy;omega) xm).mono ?_;rintro e E ⟨i1,i2,i3⟩;exact⟨i1,_,F4.pop i2.hq i3⟩
    have x6:=aG A;have HB:=aG (dz h0 (dz hf (dz hg (dz zy (dz h9 hc)))));generalize (D u).u=d0 at x1 d I;generalize (D u).p1=d2 at x2 d I C;generalize (D u).k1=d3 at x2 d I C;generalize (D u).p2=d5 at x3 d I;generalize (D u).k2=d6 at x3 d I;clear Fs F3 K3 h0 hf hg zy h9 hc BO ha x8 x7 A HF hp J ho xa ey Uo hn O;go_wp2_with (first|(go_at_call 208;refine bK HL.out ?_;rintro E rfl)|(go_at_fn n1;rw[<-d];refine bK C ?_;rintro B l)|(go_at_call 209;refine(ML.out B l).mono ?_;rintro e w4 ⟨⟨vv,rfl⟩,yi⟩)|go_in);go_roundg (Q.length+z.toNat);case measure=>have:=HK.out;simp at this;omega
    case rel=>
     obtain⟨h1,h2,h3,h4,h5,h6⟩:=HB.out;obtain⟨K,F5⟩:=yi.out;have e1:(mO (u::Q)).length=Q.length:=by rw[BM];simp
     have xi:(u::Q).length=Q.length+1:=rfl;exact⟨z,_,M,t,mO (u::Q),a,L,K,rfl,(⟨F5,h1,h2,h3,aj,h5,m,aj,x6.out⟩:_/\_),(by grind:(mO (u::Q)).length+z.toNat<=Q.length+z.toNat)⟩
   .rw[J]at C;have he:∀B,bJ W3 B->WA prog n2 ((D u).p2.push (iZ z)++(D u).k2) B fun e E=>kr (loc oZ wr.heap.size) s B S bw bl bi N M t (M.frame t u z) e E:=fun B l=>x7 _ B M t z ((K3.mono aR).trans (Kp.below l)) (F3.env.below l) ho (by show(M.aL t u&&Dm t)=true;rw[J,xa];rfl) aj;cases h7:M.frame t u z with
    |some r=>
     obtain⟨f,M',dh⟩:=r;rw[h7]at he;obtain⟨xx,hZ,y0,y8,ya⟩:=zK.out M t u z f M' dh h0 yn J h7;have A:fV m M' dh (u::Q) a (z-((bf f).length:Int)) (L.map eB++[f])=X:=by
      rw[<-BO];conv=>rhs;unfold fV
      simp only[J,if_true,h7]
     have V:Hid (∀B,bJ W3 B->WA prog n2 ((D u).p2.push (iZ z)++(D u).k2) B fun e E=>∃i F G H w,e=.returned (.tuple #[eX i (.slice F G H),.bool true])/\Hid (tC fH s w0 S bw bl bi N D p w E M' dh (u::Q) a L (dB g (Q.length+1) c) u5 u6/\WR w s E (i,F,G,H)/\i=f)):=fun B l=>by refine(he B l).mono ?_;rintro e E ⟨x,b,w,rfl,hb,K5,E5,hx⟩;have xj:b=true:=hb;subst xj;obtain⟨q1,q2⟩:=hx _ rfl;exact⟨x.1,x.2.1,x.2.2.1,x.2.2.2,w,rfl,(F3.new (Kp.below l)).nxt K5 E5,q2,q1⟩
     have Ii:Hid (∀q i F G H w,(tC fH s w0 S bw bl bi N D p w q M' dh (u::Q) a L (dB g (Q.length+1) c) u5 u6/\WR w s q (i,F,G,H)/\i=f)->∃a6 c6 w6,(∀ty,(fE #[54,54] ty #[u5,(dB (q.heap.size+1) 1 1)]).run prog ((q.alloc (.cells (f_ i (.slice F G H)).toArray 65)).alloc (.cells (f_ i (.slice F G H)).toArray 65))=.ok (.slice a6 (L.length+1) c6) w6)/\aS w6 q.heap.size 65 (f_ i (.slice F G H))/\bN 210 #[eX i (.slice F G H)] w6 (iZ ((bf f).length:Int)) fun E=>Hid (∃jY x,x.1=f/\tC fH s w0 S bw bl bi N D p jY E M' dh (u::Q) a (L++[x]) (dB g (Q.length+1) c) (.slice a6 (L.length+1) c6) u6)):=by
      rintro q i F G H w ⟨F5,y5,rfl⟩;obtain⟨W5,BG⟩:=bU ((q.alloc (.cells (f_ i (.slice F G H)).toArray 65)).alloc (.cells (f_ i (.slice F G H)).toArray 65));have R:bJ q W5:=by rw[BG];exact((bP _ q).alloc (aI _) _).alloc aR _
      have b8:aS W5 q.heap.size 65 (f_ i (.slice F G H)):=by rw[BG];exact(aS.new q 65 _).alloc _
      have b9:aS W5 (q.heap.size+1) 65 (f_ i (.slice F G H)):=by rw[BG];have:=aS.new (q.alloc (.cells (f_ i (.slice F G H)).toArray 65)) 65 (f_ i (.slice F G H));rwa[yU]at this
      have zb:q.heap.size<W5.heap.size:=by rw[BG];simp;omega
      have K5:=(xH w q).trans (Kp.below R);have F6:=F5.new K5;have yd:=y5.kp K5 aR;obtain⟨v',w6,jY,run,hG,K6⟩:=gI sU F6.fr (aA (q.heap.size+1) 0) 1 1 (f_ i (.slice F G H)) rfl (LQ _ _ rfl) (fun j y hy=>by
       have e:(aA (q.heap.size+1) 0).add j=(aA (q.heap.size+1) j):=by rw[gT,gG]
       rw[e,b9.cell,hy]) aj
      obtain⟨a6,c6,rfl,_,_⟩:=hG.shape;rw[BG]at run;have F7:=F6.app (i,F,G,H) yd K6 hG;have yy:G=i.ranges.length:=y5.len;have xr:=yd.kp K6 aR;refine⟨a6,c6,w6,run,bW b8 K6 (by rw[jF _ _ _ (aI _)];simp),?_⟩;have iD:=um i F H w6 ⟨y8,ya,xr.vF,xr.cap,fun y hy=>(xr.cK y hy).1,aj⟩;rw[<-yy]at iD;refine bK iD ?_;rintro E yp;exact⟨rfl,jY,(i,F,G,H),rfl,F7.new (Kp.below yp)⟩
     have x6:=aG A;have HB:=aG (dz xx (dz hf (dz hg (dz zy (dz h9 hc)))));generalize (bf f).length=Z at *
     have zc:IntKind.i64.wrap (z-(Z:Int))=z-(Z:Int):=by rw[qB];omega
     have y1:Hid ((Z:Int)<=z/\0<Z):=⟨hZ,y0⟩;unfold eX at V Ii;unfold f_ at Ii;generalize (D u).u=d0 at x1 d I;generalize (D u).p1=d2 at x2 d I C;generalize (D u).k1=d3 at x2 d I C;generalize (D u).p2=d5 at x3 d I V;generalize (D u).k2=d6 at x3 d I V;clear Fs F3 K3 h0 hf hg zy h9 hc BO ha x8 x7 A HF hp J ho xa ey Uo hn O he h7 xx hZ y0 y8 ya;go_wp2_with (first|(go_at_call 208;refine bK HL.out ?_;rintro E T;replace T:=T.symm;subst T)|(go_at_fn n1;rw[<-d];refine bK C ?_;rintro B l;have y2:B.cell? (aA wr.heap.size 2)=some (.func (.func n2) d5 d6):=(fD l I).cell 2)|(go_at_fn n2;refine(V.out B l).mono ?_;rintro e q ⟨i,F,G,H,w,rfl,x5⟩;obtain⟨a6,c6,w6,xp,b6,yz⟩:=Ii.out q i F G H w x5.out;obtain⟨t0,t1,t2,t3,t4,t5,t6,t7,t8,t9,tf⟩:=bF b6;clear b6)|(at_builtin;refine ji _ rfl _ _ _ _ rfl _ _ rfl rfl _ _ (xp _) ?_)|(go_at_call 210;refine bK yz ?_;rintro w7 xd)|go_in);go_roundg (Q.length+1+(z-(Z:Int)).toNat);case measure=>have:=HK.out;have h2:=y1.out;simp at this;omega
     case rel=>obtain⟨h1,h2,h3,h4,h5,h6⟩:=HB.out;obtain⟨jY,x,hx,F8⟩:=xd.out;have hz:=y1.out;have xi:(u::Q).length=Q.length+1:=rfl;exact⟨z-(Z:Int),jY,M',dh,u::Q,a,L++[x],_,rfl,(⟨F8,h1,aj,aj,aj,dZ,m,aj,by rw[Dv];simp only[KQ,List.map_nil,hx];exact x6.out⟩:_/\_),(aI _:(u::Q).length+(z-(Z:Int)).toNat<=Q.length+1+(z-(Z:Int)).toNat)⟩
    |none=>
     rw[h7]at he;have V:Hid (∀B,bJ W3 B->WA prog n2 ((D u).p2.push (iZ z)++(D u).k2) B fun e E=>∃i F G H w,e=.returned (.tuple #[eX i (.slice F G H),.bool false])/\aS E wr.heap.size 304 [(iZ (D u).u),.func (.func n1) (D u).p1 (D u).k1,.func (.func n2) (D u).p2 (D u).k2,.bool (kZ u)]/\Hid (tC fH s w0 S bw bl bi N D p w E M t (u::Q) a L (dB g (Q.length+1) c) u5 u6/\w wr.heap.size=0)):=fun B l=>by refine(he B l).mono ?_;rintro e E ⟨x,b,w,rfl,hb,K5,E5,hx⟩;have xj:b=false:=hb;subst xj;refine⟨x.1,x.2.1,x.2.2.1,x.2.2.2,w,rfl,bW (fD l I) K5 (by rw[y9];exact fun e=>fT (xG.1 e)),(F3.new (Kp.below l)).nxt K5 E5,by rw[K5.ext _ (gK ys l.size),y9]⟩
     have xt:[(iZ (D u).u),.func (.func n1) (D u).p1 (D u).k1,.func (.func n2) (D u).p2 (D u).k2,.bool (kZ u)]=kI (D u):=by simp only[kI,Uo,hn,ey]
     cases hv:kZ u
     .have h8:(M,t,a.foldl eY (u::Q),L.map eB)=X:=by
       rw[<-BO];conv=>rhs;unfold fV
       simp only[J,if_true,h7,hv];rfl
      have z0:Hid (∀q w o,(tC fH s w0 S bw bl bi N D p w q M t (u::Q) a L (dB g (Q.length+1) c) u5 u6/\w wr.heap.size=0)->tC fH s w0 S bw bl bi N D p w (q.alloc o) M t (u::Q) a L (dB g (Q.length+1) c) u5 u6):=fun q w o h=>h.1.new (Kp.below ((bP _ q).alloc (aI _) _));rw[hv]at d I x4 V;unfold eX at V;obtain⟨la,lc,yv,_,_⟩:=Fs.la.shape;subst yv;have vY:=aG h8;have yr:a.length<=500:=aj;have z8:Q.length+1+a.length<=500:=by simp at zy;omega
      have ym:=aG h0;generalize (D u).u=d0 at x1 d I V;generalize (D u).p1=d2 at x2 d I C V;generalize (D u).k1=d3 at x2 d I C V;generalize (D u).p2=d5 at x3 d I V;generalize (D u).k2=d6 at x3 d I V;clear Fs F3 K3 h0 hf hg zy h9 hc BO ha x8 x7 h8 HF hp J ho xa ey Uo hn O he h7 hv xt;go_wp2_with (first|(go_at_call 208;refine bK HL.out ?_;rintro E T;replace T:=T.symm;subst T)|(go_at_fn n1;rw[<-d];refine bK C ?_;rintro B l;have y2:B.cell? (aA wr.heap.size 2)=some (.func (.func n2) d5 d6):=(fD l I).cell 2)|(go_at_fn n2;refine(V.out B l).mono ?_;rintro e q ⟨i,F,G,H,w,rfl,R,x5⟩;have y3:(q.alloc (.cells #[iZ i.aD,iZ i.aF,uZ i.aC,uZ i.aO,uZ i.aN,.bool i.bL,uZ i.id,uZ i.aJ,.string i.data,.slice F G H] 65)).cell? (aA wr.heap.size 3)=some (.bool false):=(R.alloc _).cell 3;have xe:=aG (z0.out q w (.cells #[iZ i.aD,iZ i.aF,uZ i.aC,uZ i.aO,uZ i.aN,.bool i.bL,uZ i.id,uZ i.aJ,.string i.data,.slice F G H] 65) x5.out);clear R)|go_in);go_loopw [57] (fun hj xv=>∃k:Nat,k<=a.length/\hj=(iZ k)/\Hid (∃iA K,tC fH s w0 S bw bl bi N D p iA xv M t ((a.take k).foldl eY (u::Q)) a L K u5 (.slice la a.length lc))) (fun hj _=>a.length-(eT hj).toNat);case atStart=>exact⟨0,eG _,rfl,w,_,xe.out⟩
      case round=>
       obtain⟨k,hk,rfl,HI⟩:=hrel;by_cases xl:k<a.length
       .have y6:(k:Int)<(a.length:Int):=aj;obtain⟨iA,K,W⟩:=HI.out;obtain⟨U,hu⟩:=bU (a.getD k 0);have eu:a[k]?=some U:=by rw[hu,mZ,wH xl];rfl
        obtain⟨q0,q1,q2,q3⟩:=rF D a k U eu;obtain⟨gg,e1,_,_,c0,_⟩:=W.la.cell _ _ q0;subst e1;obtain⟨g1,e1,_,_,c1,_⟩:=W.la.cell _ _ q1;cases e1;obtain⟨g1,e1,_,_,c2,_⟩:=W.la.cell _ _ q2;cases e1;obtain⟨g1,e1,_,_,c3,_⟩:=W.la.cell _ _ q3;cases e1;obtain⟨W3,d⟩:=bU (wr.alloc (.cells #[(iZ (D U).u),.func (D U).f1 (D U).p1 (D U).k1,.func (D U).f2 (D U).p2 (D U).k2,.bool (D U).y] 304));have O:bJ wr W3:=by rw[d];exact(bP _ wr).alloc (aI _) _
        have F3:=W.new (Kp.below O);have zy:((a.take k).foldl eY (u::Q)).length<1000:=by rw[oQ,Au];have xi:(u::Q).length=Q.length+1:=rfl;omega
        have Y:=aG (EN iA (s+45) D HD.out W3 p K _ U zy F3.hq);have hw:=aG F3;have HU:Hid (PU iA s W3 S bw bl bi N D U):=F3.ls U (Cx eu);have HT:Hid ((a.take (k+1)).foldl eY (u::Q)=eY ((a.take k).foldl eY (u::Q)) U):=by rw[Ua,eu,EY];rfl
        generalize ((a.take k).foldl eY (u::Q))=QK at Y hw HT zy;generalize (D U).u=d0 at c0 d Y;generalize (D U).f1=d1 at c1 d Y;generalize (D U).p1=d2 at c1 d Y;generalize (D U).k1=d3 at c1 d Y;generalize (D U).f2=d4 at c2 d Y;generalize (D U).p2=d5 at c2 d Y;generalize (D U).k2=d6 at c2 d Y;generalize (D U).y=d7 at c3 d Y;clear W F3 q0 q1 q2 q3 eu hu O HI;go_wp2_with (first|(go_at_call 199;rw[<-d];refine bK Y.out ?_;rintro w4 HQ)|go_in);go_roundw;case rel=>obtain⟨xo,v4,xn,K4⟩:=HQ.out;exact⟨k+1,aj,aR,xo,v4,by rw[HT.out];exact hw.out.push U HU.out xn K4⟩
        case measure=>simp[eT];omega
       .obtain rfl:k=a.length:=aj;obtain⟨iA,K,W⟩:=HI.out;rw[AJ]at W;have xf:Hid (Ih fH s w0 S bw bl bi N D p P X (.returned u5) wr):=⟨iA,K,u5,nZ,L,rfl,by rw[<-vY.out],by rw[<-vY.out];exact W.done,by rw[<-vY.out];exact ym.out⟩;clear W HI;go_wp2;go_ret;exact xf.out
     .have A:fV m M t (mO (u::Q)) (a++[u]) z (L.map eB)=X:=by
       rw[<-BO];conv=>rhs;unfold fV
       simp only[J,if_true,h7,hv]
      have ML:Hid (∀q w o,(tC fH s w0 S bw bl bi N D p w q M t (u::Q) a L (dB g (Q.length+1) c) u5 u6/\w wr.heap.size=0)->aS q wr.heap.size 304 [(iZ (D u).u),.func (.func n1) (D u).p1 (D u).k1,.func (.func n2) (D u).p2 (D u).k2,.bool (kZ u)]->WA prog 209 #[.iface 250 (aK p 0)] (q.alloc o) fun e E=>Ow e/\aS E wr.heap.size 304 [(iZ (D u).u),.func (.func n1) (D u).p1 (D u).k1,.func (.func n2) (D u).p2 (D u).k2,.bool (kZ u)]/\Hid (∃K,tC fH s w0 S bw bl bi N D p w E M t (mO (u::Q)) a L K u5 u6/\PU w s E S bw bl bi N D u)):=by rintro q w o ⟨F5,o5⟩ yq;have y4:bJ q (q.alloc o):=(bP _ q).alloc (aI _) _;have F6:=F5.new (Kp.below y4);obtain⟨g',c',e',xm⟩:=F6.hq.hp aR;refine(Ox _ (s+45) D HD.out (q.alloc o) p g' c' (u::Q) Q.length rfl (by simp at zy;omega) xm).mono ?_;rintro e E ⟨i1,i2,i3⟩;exact⟨i1,bW (fD y4 yq) i3 (by rw[o5];simp),_,F6.pop i2.hq i3,(F6.qs u aR).kp (i3.mono fun x hx=>ko.2 (by simp at hx;omega))⟩
      have Ii:Hid (∀w5 w K,tC fH s w0 S bw bl bi N D p w w5 M t (mO (u::Q)) a L K u5 u6->PU w s w5 S bw bl bi N D u->∃a6 c6 w6,(∀ty,(fE #[300,300] ty #[u6,dB w5.heap.size 1 1]).run prog (w5.alloc (.cells #[(iZ (D u).u),.func (.func n1) (D u).p1 (D u).k1,.func (.func n2) (D u).p2 (D u).k2,.bool (kZ u)] 304))=.ok (.slice a6 (a.length+1) c6) w6)/\Hid (∃jY,tC fH s w0 S bw bl bi N D p jY w6 M t (mO (u::Q)) (a++[u]) L K u5 (.slice a6 (a.length+1) c6))):=by
       intro w5 w K F5 z5;obtain⟨W5,BG⟩:=bU (w5.alloc (.cells #[(iZ (D u).u),.func (.func n1) (D u).p1 (D u).k1,.func (.func n2) (D u).p2 (D u).k2,.bool (kZ u)] 304));have R:bJ w5 W5:=by rw[BG];exact(bP _ w5).alloc (aI _) _
       have b9:aS W5 w5.heap.size 304 (kI (D u)):=by rw[BG,<-xt];exact aS.new w5 304 _
       have F6:=F5.new (Kp.below (oZ:=w) R);obtain⟨v',w6,jY,run,hG,K6⟩:=gI qo4 F6.la (aA w5.heap.size 0) 1 1 (kI (D u)) rfl (Gc _) (fun j y hy=>by
        have e:(aA w5.heap.size 0).add j=(aA w5.heap.size j):=by rw[gT,gG]
        rw[e,b9.cell,hy]) aj
       obtain⟨a6,c6,rfl,_,_⟩:=hG.shape;rw[BG]at run;exact⟨a6,c6,w6,run,jY,F6.lat u (z5.kp (Kp.below R)) K6 hG⟩
      have x6:=aG A;have HB:=aG (dz h0 (dz hf (dz hg (dz zy (dz h9 hc)))));rw[hv]at d I x4 V ML Ii;unfold eX at V;generalize (D u).u=d0 at x1 d I V ML Ii;generalize (D u).p1=d2 at x2 d I C V ML Ii;generalize (D u).k1=d3 at x2 d I C V ML Ii;generalize (D u).p2=d5 at x3 d I V ML Ii;generalize (D u).k2=d6 at x3 d I V ML Ii;clear Fs F3 K3 h0 hf hg zy h9 hc BO ha x8 x7 A HF hp J ho xa ey Uo hn O he h7 hv xt;go_wp2_with (first|(go_at_call 208;refine bK HL.out ?_;rintro E T;replace T:=T.symm;subst T)|(go_at_fn n1;rw[<-d];refine bK C ?_;rintro B l;have y2:B.cell? (aA wr.heap.size 2)=some (.func (.func n2) d5 d6):=(fD l I).cell 2)|(go_at_fn n2;refine(V.out B l).mono ?_;rintro e q ⟨i,F,G,H,w,rfl,R,x5⟩;have y3:(q.alloc (.cells #[iZ i.aD,iZ i.aF,uZ i.aC,uZ i.aO,uZ i.aN,.bool i.bL,uZ i.id,uZ i.aJ,.string i.data,.slice F G H] 65)).cell? (aA wr.heap.size 3)=some (.bool true):=(R.alloc _).cell 3;have yf:=aG R;clear R)|(go_at_call 209;refine(ML.out q w _ x5.out yf.out).mono ?_;rintro e w5 ⟨⟨vv,rfl⟩,x9,xw⟩;have k0:w5.cell? (aA wr.heap.size 0)=some (iZ d0):=x9.cell 0;have k1:w5.cell? (aA wr.heap.size 1)=some (.func (.func n1) d2 d3):=x9.cell 1;have k2:w5.cell? (aA wr.heap.size 2)=some (.func (.func n2) d5 d6):=x9.cell 2;have k3:w5.cell? (aA wr.heap.size 3)=some (.bool true):=x9.cell 3;obtain⟨K,F6,ye⟩:=xw.out;obtain⟨a6,c6,w6,xp,xd⟩:=Ii.out w5 w K F6 ye;clear x9 F6 ye xw)|(at_builtin;refine ji _ rfl _ _ _ _ rfl _ _ rfl rfl _ _ (xp _) ?_)|go_in);go_roundg (Q.length+z.toNat);case measure=>have:=HK.out;simp at this;omega
      case rel=>
       obtain⟨h1,h2,h3,h4,h5,h6⟩:=HB.out;obtain⟨jY,F8⟩:=xd.out;have e1:(mO (u::Q)).length=Q.length:=by rw[BM];simp
       have xi:(u::Q).length=Q.length+1:=rfl;exact⟨z,jY,M,t,mO (u::Q),a++[u],L,K,rfl,(⟨F8,h1,h2,h3,dZ,h5,m,aj,x6.out⟩:_/\_),(by grind:(mO (u::Q)).length+z.toNat<=Q.length+z.toNat)⟩
section
theorem mF.to{c d}(h:mF oZ s w S bw bl bi ab x c d nx)(u)(q:∀M aH,c M aH=M.aL aH u)(y:∀M aH,M.aL aH u=true->Dm aH=true->d M aH=true)(o:∀M aH a,Wk M->M.frame aH u a=nx M aH a):mF oZ s w S bw bl bi ab x (fun M aH=>M.aL aH u) (fun M aH=>M.aL aH u&&Dm aH) (fun M aH a=>M.frame aH u a):=by
 obtain⟨r,t,g,i,j,k,l,m⟩:=h.fn;refine⟨r,t,g,i,j,k,?_,m.mono (fun M aH e=>?_) (fun M aH a b _=>o M aH a b)⟩;.intro f v M aH K n b;have:=l f v M aH K n b;rw[q M aH]at this;exact this
 grind
theorem OV(h:mF oZ s w S bw bl bi ab x (fun M _=> !M.full&&M.gr.aL M.aP) (fun M _=>M.gr.aL M.aP) (fun M aH a=>(M.gr.next 5 0 M.aP (a-M.jc)).map fun x=>(x.1,{M with gr:=x.2},aH))):mF oZ s w S bw bl bi ab x (fun M aH=>M.aL aH 8) (fun M aH=>M.aL aH 8&&Dm aH) (fun M aH a=>M.frame aH 8 a):=
 h.to 8 (fun M aH=>rfl) (fun M aH e _=>by
  have b:(!M.full&&M.gr.aL M.aP)=true:=e;grind) (fun M aH a c=>by
  rfl)
theorem Jh(k)(f:k<8)(h:mF oZ s w S bw bl bi ab x (fun M _=> !M.full&&(M.bH k).fF) (fun M _=>(M.bH k).fF) (fun M aH a=>((M.bH k).gr.next 6 k (M.bH k).aP (a-M.jc)).map fun x=>(x.1,M.eZ k {M.bH k with gr:=x.2},aH))):mF oZ s w S bw bl bi ab x (fun M aH=>M.aL aH (16+k)) (fun M aH=>M.aL aH (16+k)&&Dm aH) (fun M aH a=>M.frame aH (16+k) a):=by
 have c:16+k-16=k:=aj;have b:∀(M:av) (aH:bY),M.aL aH (16+k)=(!M.full&&(M.bH k).fF):=fun M aH=>by unfold av.aL;grind
 refine h.to (16+k) (fun M aH=>(b M aH).symm) (fun M aH e _=>?_) (fun M aH a d=>?_);.grind
 .unfold av.frame;grind
theorem OW(k)(f:k<8)(h:mF oZ s w S bw bl bi ab x (fun M _=> !M.full&&(M.out k).nt.aL (M.out k).aB.length) (fun M _=>(M.out k).nt.aL (M.out k).aB.length) (fun M aH a=>((M.out k).nt.next k (M.out k).aB.length (a-M.jc)).map fun x=>(x.1,M.dA k {M.out k with nt:=x.2},aH))):mF oZ s w S bw bl bi ab x (fun M aH=>M.aL aH (24+k)) (fun M aH=>M.aL aH (24+k)&&Dm aH) (fun M aH a=>M.frame aH (24+k) a):=by
 have c:24+k-24=k:=aj;have b:∀(M:av) (aH:bY),M.aL aH (24+k)=(!M.full&&(M.out k).nt.aL (M.out k).aB.length):=fun M aH=>by unfold av.aL;grind
 refine h.to (24+k) (fun M aH=>(b M aH).symm) (fun M aH e _=>?_) (fun M aH a d=>?_);.grind
 .unfold av.frame;grind
theorem qbh(k)(h:mF oZ s w S bw bl bi ab x (fun M _=> !M.full&&(M.out k).aL M.aU) (fun M _=>(M.out k).aL M.aU) (fun M aH a=>((M.out k).next k a M.aU).map fun x=>(x.1,M.dA k x.2,aH))):mF oZ s w S bw bl bi ab x (fun M aH=>M.aL aH (40+k)) (fun M aH=>M.aL aH (40+k)&&Dm aH) (fun M aH a=>M.frame aH (40+k) a):=by
 have c:40+k-40=k:=aj;have b:∀(M:av) (aH:bY),M.aL aH (40+k)=(!M.full&&(M.out k).aL M.aU):=fun M aH=>by unfold av.aL;grind
 refine h.to (40+k) (fun M aH=>(b M aH).symm) (fun M aH e _=>?_) (fun M aH a _=>?_);.grind
 .unfold av.frame;grind
theorem XY(h:mF oZ s w S bw bl bi ab x (fun M _=> !M.full&&decide (0<M.aQ.length)) (fun M _=>decide (0<M.aQ.length)) (fun M aH a=>if a<M.jc then none else M.aQ.head?.map fun f=>(f,{M with aQ:=M.aQ.tail,qv:=qtl M.qv},aH))):mF oZ s w S bw bl bi ab x (fun M aH=>M.aL aH 32) (fun M aH=>M.aL aH 32&&Dm aH) (fun M aH a=>M.frame aH 32 a):=
 h.to 32 (fun M aH=>rfl) (fun M aH e _=>by have b:(!M.full&&decide (0<M.aQ.length))=true:=e;grind) (fun M aH a c=>rfl)
structure U6 (oZ:Own) (s:Nat) (w:Wq) (S bw bl bi ab:Nat) (D:Nat->Src) (p:Nat) (v:Wx) (Q:List Nat) (M:av) (aH:bY):Prop where
 qs:QsM oZ s w S bw bl bi ab D p v Q
 z:uI oZ s w S bw bl bi ab D 0
 env:Env oZ s w S bw bl bi ab M aH
def U6.new{a b}(h:U6 oZ s w S bw bl bi ab D p v Q M aH)(K:Kp [] oZ a w b):U6 a s b S bw bl bi ab D p v Q M aH:=
 ⟨h.qs.kp K aR aR aR,h.z.kp (K.mono aR),h.env.kp K aR aR aR⟩
theorem qlp(w)(h:U6 oZ s w S bw bl bi ab D p v Q M aH)(x)(u:Nat)(E:x.u=(u:Int))(G:x.y=kZ u)(B:u∉Q)(C:u≠0)(A:Q.length<1000)(F:mF oZ s w S bw bl bi ab x (fun M aH=>M.aL aH u) (fun M aH=>M.aL aH u&&Dm aH) (fun M aH q=>M.frame aH u q)):bN 199 #[aK p 0,qL x] w (.tuple #[]) fun g=>∃c a n,U6 c s g S bw bl bi ab a p n (eY Q u) M aH/\Kp [s+45,s+46] oZ c w g:=by
 obtain⟨a,t⟩:=bU (fun j=>if j=u then x else D j:Nat->Src);have r:a u=x:=by grind
 have en:∀j,j≠u->a j=D j:=fun j b=>by grind
 have f:∀j:Nat,(a j).u=(j:Int):=fun j=>by
  by_cases b:j=u;.grind
  .rw[en j b];exact h.qs.hd j
 have l:Er oZ (s+45) a w p v Q:=⟨h.qs.hq.op,h.qs.hq.pb,by rw[Ig a D Q fun j b=>en j (fun e=>B (e▸b))];exact h.qs.hq.sr⟩;have y:∀j∈Q,uI oZ s w S bw bl bi ab a j:=fun j b=>by have:=h.qs.hs j b;grind [uI]
 have d:uI oZ s w S bw bl bi ab a 0:=by have:=h.z;grind [uI]
 have k:uI oZ s w S bw bl bi ab a u:=by grind [uI]
 have:=EN oZ (s+45) a f w p v Q u A l;rw[r]at this;refine bK this ?_;rintro g ⟨c,n,m,K⟩;have i:=K;have o:Kp (Tb s) oZ c w g:=i.mono fun z H=>ko.2 (by grind);exact⟨rfl,c,a,n,⟨⟨f,m,fun j b=>uI.kp (Lp.push (P:=uI oZ s w S bw bl bi ab a) d y u k j b) o⟩,d.kp o,h.env.kp i dZ aR aR⟩,i⟩
section
variable (fH:Own) (s:Nat) (w0:Wq) (S bw bl bi ab p:Nat) (M:av) (aH:bY)
def Qk(w:Wq)(Q:List Nat):Prop:=∃a D v,U6 a s w S bw bl bi ab D p v Q M aH/\Kp (Tb s) fH a w0 w
def Rk(w:Wq)(Q:List Nat)(x:Src)(u:Nat)(y:Bool)(b c:av->bY->Bool)(nx:av->bY->Int->Option (Fr×av×bY)):Prop:=
 ∃a D v,U6 a s w S bw bl bi ab D p v Q M aH/\Kp (Tb s) fH a w0 w/\mF a s w S bw bl bi ab x b c nx/\x.u=(u:Int)/\x.y=y
def RkI(w:Wq)(Q:List Nat)(x:Src)(u:Nat)(b c:av->bY->Bool)(nx:av->bY->Int->Option (Fr×av×bY)):Prop:=
 ∃a D v,U6 a s w S bw bl bi ab D p v Q M aH/\Kp (Tb s) fH a w0 w/\XV a s w S bw bl bi ab x b c nx/\x.u=(u:Int)
end

section
variable {fH:Own} {s:Nat} {w0:Wq} {S bw bl bi ab p:Nat} {M:av} {aH:bY}
def Qk.mk(h:Qk fH s w0 S bw bl bi ab p M aH w Q)(j:∀c,WA prog n args w fun e b=>∃a,e=.returned (qL a)/\bJ w b/\a.u=(u:Int)/\a.y=false/\mF (JZ c s w.heap.size) s b S bw bl bi ab a f g nx):WA prog n args w fun e b=>∃a,e=.returned (qL a)/\Hid (Rk fH s w0 S bw bl bi ab p M aH b Q a u false f g nx):=by obtain⟨c,D,v,k,K⟩:=h;refine(j c).mono ?_;rintro e b ⟨a,rfl,i,l,o,m⟩;have d:Kp [] c (JZ c s w.heap.size) w b:=Ic i;exact⟨a,rfl,_,D,v,k.new d,K.trans (d.mono aR),m,l,o⟩
def Qk.mkI(h:Qk fH s w0 S bw bl bi ab p M aH w Q)(j:∀c,WA prog n args w fun e b=>∃a,e=.returned (qL a)/\bJ w b/\a.u=(u:Int)/\a.y=false/\XV (JZ c s w.heap.size) s b S bw bl bi ab a f g nx):WA prog n args w fun e b=>∃a,e=.returned (qL a)/\Hid (RkI fH s w0 S bw bl bi ab p M aH b Q a u f g nx):=by obtain⟨c,D,v,k,K⟩:=h;refine(j c).mono ?_;rintro e b ⟨a,rfl,i,l,_,m⟩;have d:Kp [] c (JZ c s w.heap.size) w b:=Ic i;exact⟨a,rfl,_,D,v,k.new d,K.trans (d.mono aR),m,l⟩
def RkI.beside{j}(h:RkI fH s w0 S bw bl bi ab p M aH w Q x u g j nx):WA prog 201 #[aK S 0,qL x] w fun e i=>∃a,e=.returned (qL a)/\Hid (Rk fH s w0 S bw bl bi ab p M aH i Q a u true (fun M aH=> !M.full&&g M aH) j (fun M aH l=>nx M aH (l-M.jc))):=by obtain⟨q,D,v,m,K,o,n⟩:=h;refine(Td w o).mono ?_;rintro e i ⟨a,k,rfl,f,b,d,c⟩;exact⟨a,rfl,k,D,v,m.new f,K.trans (f.mono aR),c,by rw[b,n],d⟩
def Rk.au{i k}(h:Rk fH s w0 S bw bl bi ab p M aH w Q x u y i k nx):WA prog 205 #[aK S 0,qL x] w fun e f=>∃a,e=.returned (qL a)/\Hid (Rk fH s w0 S bw bl bi ab p M aH f Q a u y (fun M aH=> !M.full&&i M aH) k nx):=by obtain⟨j,D,v,m,K,o,n,q⟩:=h;refine(zB w o).mono ?_;rintro e f ⟨a,rfl,l,b,d,c⟩;have g:Kp [] j (JZ j s w.heap.size) w f:=Ic l;exact⟨a,rfl,_,D,v,m.new g,K.trans (g.mono aR),c,by rw[b,n],by rw[d,q]⟩
theorem Rk.add{e}(h:Rk fH s w0 S bw bl bi ab p M aH w Q x u y e g nx)(A:y=kZ u)(n:u∉Q)(c:u≠0)(m:Q.length<1000)(q:∀a,mF a s w S bw bl bi ab x e g nx->mF a s w S bw bl bi ab x (fun M aH=>M.aL aH u) (fun M aH=>M.aL aH u&&Dm aH) (fun M aH l=>M.frame aH u l)):bN 199 #[aK p 0,qL x] w (.tuple #[]) fun f=>Hid (Qk fH s w0 S bw bl bi ab p M aH f (eY Q u)):=by obtain⟨a,D,v,o,K,t,r,d⟩:=h;refine bK (qlp w o x u r (by rw[d,A]) n c m (q a t)) ?_;rintro f ⟨k,i,B,b,j⟩;exact⟨rfl,k,i,B,b,K.trans (j.mono fun z C=>ko.2 (by grind))⟩
end


def qk(k:Nat):List Nat:=(List.range k).foldl (fun q k=>eY (eY (eY q (16+k)) (24+k)) (40+k)) (eY (eY [] 0) 8)
theorem MN(k):qk (k+1)=eY (eY (eY (qk k) (16+k)) (24+k)) (40+k):=by grind [qk,List.range_succ]
def Pq(k x:Nat):Prop:=x=0\/x=8\/(16<=x/\x<16+k)\/(24<=x/\x<24+k)\/(40<=x/\x<40+k)
theorem OX:∀k,Lp (Pq k) (qk k)
 |0=>by have z:Pq 0 0:=.inl rfl;exact Lp.push (P:=Pq 0) z (Lp.push (P:=Pq 0) z (l:=[]) (fun x a=>by cases a) 0 z) 8 (.inr (.inl rfl))
 |k+1=>by
  rw[MN];have h:Lp (Pq (k+1)) (qk k):=fun x a=>by have:=OX k x a;unfold Pq at *;omega
  grind [Pq,Lp.push]
theorem Ij:∀k,(qk k).length=2+3*k
 |0=>rfl
 |k+1=>by rw[MN,qR,qR,qR,Ij k];omega
theorem U7{P}(b:P 0){l}(h:Lp P l)(u v)(d:¬P v)(c:u≠v):v∉eY l u:=fun a=>by have:=Lp.push (P:=fun x=>P x\/x=u) (.inl b) (fun x a=>.inl (h x a)) u (.inr rfl) v a;grind
end
def U9(oZ:Own)(s:Nat)(W:Wq)(S bw bl bi:Nat)(M:av)(a:bY)(e:Ending)(w':Wq):Prop:=
 ∃x c,e=.returned (qL x)/\Hid (∃b,Kp [s] oZ b W w'/\Env b s w' S bw bl bi c M a/\mF b s w' S bw bl bi c x (fun M a=>M.aL a 0) (fun M a=>M.aL a 0&&Dm a) (fun M a d=>M.frame a 0 d)/\x.u=0/\x.y=false)
def qlr(u:Nat):Src:=⟨(u:Int),.func 0,#[],#[],.func 0,#[],#[],false⟩
theorem Te{l}(M'){vc}(c)(h:gq oZ s w S l M bw bl bi vc)(n:∀oZ W,gq oZ s W S l M bw bl bi vc->WA prog 200 #[aK S 0] W fun e f=>U9 oZ s W S bw bl bi M' c e f):WA prog 155 #[aK S 0] w fun e f=>∃p,e=.returned (aK p 0)/\∃a d D v,U6 d s f S bw bl bi a D p v q0 M' c/\Kp (Tb s) oZ d w f:=by
 obtain⟨i,C⟩:=bU ((w.alloc (.cells #[] 304)).alloc (.cells #[dB w.heap.size 0 0] 300));have j:bJ w i:=by rw[C];exact((bP _ w).alloc (aI _) _).alloc aR _
 have B0:aS i w.heap.size 304 []:=by rw[C];exact(aS.new w 304 []).alloc _
 have N:aS i (w.heap.size+1) 300 [dB w.heap.size 0 0]:=by grind [aS.new,fB]
 obtain⟨m,h0⟩:=bU (fun b=>if b<w.heap.size then oZ b else if b=w.heap.size then s+45 else s+46:Own);have o0:m w.heap.size=s+45:=by grind
 have O:m (w.heap.size+1)=s+46:=by grind
 have V:Kp [] oZ m w i:=⟨j.os,j.tape,j.output,j.size,fun b hb _=>j.block b hb,fun b hb=>by grind⟩;have H:Er m (s+45) qlr i (w.heap.size+1) (dB w.heap.size 0 0) []:=⟨O,N,.inr ⟨w.heap.size,0,[],rfl,o0,B0,aR,aI _,aj,rfl,rfl,fun v hv=>by cases hv⟩⟩;have HA:Hid (WA prog 200 #[aK S 0] i fun e f=>∃x a,e=.returned (qL x)/\Hid (∃d,Kp [s] m d i f/\Env d s f S bw bl bi a M' c/\QsM d s f S bw bl bi a qlr (w.heap.size+1) (dB w.heap.size 0 0) []/\mF d s f S bw bl bi a x (fun M c=>M.aL c 0) (fun M c=>M.aL c 0&&Dm c) (fun M c Y=>M.frame c 0 Y)/\x.u=0/\x.y=false)):=by refine(n m i (h.kp V aR)).mono ?_;rintro e f ⟨x,a,rfl,d,E,Z,g,J,hy⟩;refine⟨x,a,rfl,d,E,Z,⟨fun u=>rfl,⟨by rw[E.ext _ N.lt,O],bW N E (by rw[O];simp),H.sr.kp E aR⟩,fun u J=>by cases J⟩,g,J,hy⟩
 have R:Hid (∀(r:Wq) (x:Src) (a:Nat),(∃d,Kp [s] m d i r/\Env d s r S bw bl bi a M' c/\QsM d s r S bw bl bi a qlr (w.heap.size+1) (dB w.heap.size 0 0) []/\mF d s r S bw bl bi a x (fun M c=>M.aL c 0) (fun M c=>M.aL c 0&&Dm c) (fun M c Y=>M.frame c 0 Y)/\x.u=0/\x.y=false)->bN 199 #[(aK (w.heap.size+1) 0),qL x] r (.tuple #[]) fun f=>Hid (Qk m s i S bw bl bi a (w.heap.size+1) M' c f (eY [] 0))):=by rintro r x a ⟨d,E,Z,hq,g,J,hy⟩;refine bK (qlm r hq x 0 J hy aR aR g (.inl rfl)) ?_;rintro f ⟨iA,D2,v2,I,K2⟩;exact⟨rfl,iA,D2,v2,⟨I,I.hs 0 kX,Z.kp K2 dZ aR aR⟩,(E.mono fun z hz=>ko.2 (by grind)).trans (K2.mono fun z hz=>ko.2 (by grind))⟩
 have vY:Hid (∀f a,Qk m s i S bw bl bi a (w.heap.size+1) M' c f q0->∃a d D v,U6 d s f S bw bl bi a D (w.heap.size+1) v q0 M' c/\Kp (Tb s) oZ d w f):=by rintro f a ⟨d,D,v,hq,K⟩;exact⟨a,d,D,v,hq,(V.mono aR).trans K⟩
 clear n h H V o0 O h0 B0 N j;go_enter func155,ntmps155;go_wp2_with (first|(go_at_call 200;rw[<-C];refine HA.out.mono ?_;rintro e r ⟨x,a,rfl,U⟩;have t:=aG (R.out r x a U.out))|(go_at_call 199;refine bK t.out ?_;rintro w2 T)|(go_at_call 202;refine(T.out.mkI (u:=8) (fun oZ=>SX (oZ:=oZ) w2)).mono ?_;rintro e w3 ⟨x3,rfl,A⟩)|(go_at_call 201;refine(RkI.beside A.out).mono ?_;rintro e w4 ⟨x4,rfl,B⟩)|(go_at_call 199;refine bK (Rk.add B.out rfl kX kX kX (fun oZ g=>OV g)) ?_;rintro w5 y)|go_in);go_loopw [17] (fun X wr=>∃k:Nat,k<=8/\X=(iZ k)/\Hid (Qk m s i S bw bl bi a (w.heap.size+1) M' c wr (qk k))) (fun X _=>8-(eT X).toNat);case atStart=>exact⟨0,aj,rfl,y.out⟩
 case round=>
  obtain⟨k,hk,rfl,HI⟩:=hrel;by_cases o:k<8
  .have h2:(k:Int)<8:=aj;have n1:16+k∉qk k:=fun e=>by have:=OX k _ e;unfold Pq at this;omega
   have n2:24+k∉eY (qk k) (16+k):=U7 (P:=Pq k) (.inl rfl) (OX k) _ _ (by unfold Pq;omega) aj;have n3:40+k∉eY (eY (qk k) (16+k)) (24+k):=U7 (P:=fun x=>Pq k x\/x=16+k) (.inl (.inl rfl)) (Lp.push (.inl (.inl rfl)) (fun x g=>.inl (OX k x g)) _ (.inr rfl)) _ _ (by unfold Pq;omega) aj;have l1:(qk k).length<1000:=by rw[Ij];omega
   have l2:(eY (qk k) (16+k)).length<1000:=by rw[qR,Ij];omega
   have l3:(eY (eY (qk k) (16+k)) (24+k)).length<1000:=by grind [qR,Ij]
   have q:=aG (dz n1 (dz n2 (dz n3 (dz l1 (dz l2 l3)))));have y1:Hid (true=kZ (16+k)/\true=kZ (24+k)/\false=kZ (40+k)):=by
    unfold kZ;refine⟨?_,?_,?_⟩;.grind
    .grind
    grind
   clear n1 n2 n3 l1 l2 l3 y B A T U t;go_wp2_with (first|(go_at_call 203;refine(HI.out.mkI (u:=16+k) (fun oZ=>MG (oZ:=oZ) k o wr)).mono ?_;rintro e v1 ⟨z1,rfl,F⟩)|(go_at_call 201;refine(RkI.beside F.out).mono ?_;rintro e v2 ⟨z2,rfl,G⟩;clear F)|(go_at_call 199;refine bK (Rk.add G.out y1.out.1 q.out.1 aj q.out.2.2.2.1 (fun oZ g=>Jh k o g)) ?_;rintro v3 Q;clear G)|(go_at_call 204;refine(Q.out.mkI (u:=24+k) (fun oZ=>SY (oZ:=oZ) k o v3)).mono ?_;rintro e v4 ⟨z4,rfl,H4⟩)|(go_at_call 201;refine(RkI.beside H4.out).mono ?_;rintro e v5 ⟨z5,rfl,H5⟩;clear H4)|(go_at_call 199;refine bK (Rk.add H5.out y1.out.2.1 q.out.2.1 aj q.out.2.2.2.2.1 (fun oZ g=>OW k o g)) ?_;rintro v6 H6;clear H5)|(go_at_call 206;refine(H6.out.mk (u:=40+k) (fun oZ=>mk_data (oZ:=oZ) k o v6)).mono ?_;rintro e v7 ⟨z7,rfl,H7⟩)|(go_at_call 205;refine(Rk.au H7.out).mono ?_;rintro e v8 ⟨z8,rfl,H8⟩;clear H7)|(go_at_call 199;refine bK (Rk.add H8.out y1.out.2.2 q.out.2.2.1 aj q.out.2.2.2.2.2 (fun oZ g=>qbh k g)) ?_;rintro v9 H9;clear H8)|go_in);go_roundw;case rel=>exact⟨k+1,aj,aR,(by rw[MN];exact H9.out:Qk m s i S bw bl bi a (w.heap.size+1) M' c _ (qk (k+1)))⟩
   grind [eT]
  .obtain rfl:k=8:=aj;have n32:32∉qk 8:=fun e=>by have:=OX 8 _ e;unfold Pq at this;omega
   have L:(qk 8).length<1000:=by rw[Ij];omega
   have q:=aG (dz n32 L);clear n32 L y B A T U t;go_wp2_with (first|(go_at_call 207;refine(HI.out.mk (u:=32) (fun oZ=>MI (oZ:=oZ) wr)).mono ?_;rintro e v1 ⟨z1,rfl,F⟩)|(go_at_call 205;refine(Rk.au F.out).mono ?_;rintro e v2 ⟨z2,rfl,G⟩;clear F)|(go_at_call 199;refine bK (Rk.add G.out rfl q.out.1 kX q.out.2 (fun oZ g=>XY g)) ?_;rintro v3 Q;clear G)|go_in);go_ret;exact⟨w.heap.size+1,rfl,vY.out _ a Q.out⟩
def Dj(vs:bM):Prop:=∀i j,i<j->j<vs.length->∀k,(vs.getD i VG).ownBlock=some k->(vs.getD j VG).ownBlock≠some k
def PsM(oZ:Own)(s:Nat)(w:Wq)(vs:bM)(a:List (List UInt8)):Prop:=
 vs.length=a.length/\(∀j,j<vs.length->nT w (vs.getD j VG) (a.getD j [])/\∀k,(vs.getD j VG).ownBlock=some k->oZ k=s+47/\k<w.heap.size)/\Dj vs
theorem PsM.kp{aX w' b T}(h:PsM oZ s w vs b)(K:Kp T oZ aX w w')(l:s+47∉T):PsM aX s w' vs b:=by
 refine⟨h.1,fun j m=>?_,h.2.2⟩;obtain⟨a,c⟩:=h.2.1 j m;refine⟨?_,fun k n=>⟨by grind [cases Kp],gK (c k n).2 K.size⟩⟩;rcases a with a|⟨g,cap,d,e,i,f⟩;.exact .inl a
 .exact .inr ⟨g,cap,d,e,bW i K (by rw[(c g (by rw[e];rfl)).1];exact l),f⟩
theorem PsM.add{c}(h:PsM oZ s w vs c)(v b)(n:nT w v b)(p:∀k,v.ownBlock=some k->oZ k=s+47/\k<w.heap.size)(o:∀k,v.ownBlock=some k->∀j,j<vs.length->(vs.getD j VG).ownBlock≠some k):PsM oZ s w (vs++[v]) (c++[b]):=by
 refine⟨by grind [List.length_append,PsM],fun j f=>?_,fun i j d f k g=>?_⟩;rotate_left
 .have m:i<vs.length:=by grind
  rw[mZ,Av m,<-mZ]at g;by_cases a:j<vs.length;.rw[mZ,Av a,<-mZ];exact h.2.2 i j d a k g
  grind
 rw[lM]at f;by_cases a:j<vs.length;.grind [List.getElem?_append_left,PsM]
 .have e:j=vs.length:=by grind
  subst e;rw[mZ,Nq (aI _),mZ (l:=c++[b]),h.1,Nq (aI _)];grind
theorem tC.Uj{y u f F l t}(h:tC fH s w0 S bw bl bi y D p oZ w M u Q f L v (.slice l n t) F)(r:∀x∈L,oz x.1)(G:0<L.length):n=L.length/\Rd 10 w (.slice l L.length t) L.length (vI L)/\Bn w l L/\ru w l (L.map eB) (fun j=>(L.getD j jw).2.1) (fun j=>(L.getD j jw).2.2.2)/\(∀x,l=some x->oZ x.block=s+50)/\(∀j x,(L.getD j jw).2.1=some x->oZ x.block=s+49):=by
 have q:=h.fr;rcases q with⟨o,A,_⟩|⟨g,cap,cs,o,A,h3,h4,h5,h6,h7,h8,h9⟩;.omega
 .simp only[nR]at o;obtain⟨rfl,rfl,rfl⟩:=o;have a:∀j k,j<L.length->k<10->w.cell? (aA g (0+j*10+k))=(f_ (L.getD j jw).1 (rW (L.getD j jw)))[k]?:=fun j k b E=>by rw[h3.cell,<-LP L j k b E,<-h8,pG,dN aj,gG]
  have B:Bn w (some (aA g 0)) L:=fun j b=>⟨g,0,rfl,fun i C=>a j i b C⟩;refine⟨rfl,h.fr.rd,B,fun j b=>?_,fun x c=>by grind,fun j x c=>?_⟩
  .rw[mH]at b;have c:L.getD j jw∈L:=by grind
   have hF:=h.fv _ c;have m:=r _ c;have e:(L.map eB).getD j jv=(L.getD j jw).1:=by grind
   have z:w.cell? (aA g (0+j*10+9))=some (.slice (L.getD j jw).2.1 (L.getD j jw).1.ranges.length (L.getD j jw).2.2.2):=by rw[a j 9 b aj];show some (rW (L.getD j jw))=_;unfold rW;rw[hF.len]
   refine⟨g,0,rfl,?_,?_,fun x d=>(hF.cK x d).1⟩;.rw[e];exact⟨a j 0 b aj,a j 1 b aj,a j 2 b aj,a j 3 b aj,a j 4 b aj,a j 5 b aj,a j 6 b aj,a j 7 b aj,a j 8 b aj,z,hF.vF,m.Fj,m.Fp,m.k0,m.s0,m.u0⟩
   .rw[e];exact hF.cap
  .by_cases b:j<L.length
   .have d:L.getD j jw∈L:=by grind
    exact((h.fv _ d).cK x c).2.1
   .rw[mZ,qmv aj]at c;cases c
theorem BP:∀(n) (M) (b) (Q a) (c) (l),Lq Q->Lq a->Lq (fV n M b Q a c l).2.2.1/\(fV n M b Q a c l).2.2.1.length<=Q.length+a.length
 |0,M,b,Q,a,c,l,h1,h2=>⟨Lq.oO _ h1 h2,by show(a.foldl eY Q).length<=_;rw[oQ];grind⟩
 |n+1,M,b,[],a,c,l,h1,h2=>⟨Lq.oO _ h1 h2,by show(a.foldl eY []).length<=_;rw[oQ];grind⟩
 |n+1,M,b,u::Q,a,c,l,h1,h2=>by
  have i:(mO (u::Q)).length=Q.length:=by rw[BM];simp
  unfold fV;by_cases d:M.aL b u=true
  .simp only[d,if_true];cases hF:M.frame b u c with
   |none=>
    simp only;split;.have:=BP n M b (mO (u::Q)) (a++[u]) c l h1.pop (h2.app fun x h=>by rw[sD.1 h];exact h1 u aR);grind
    .grind [Lq.oO,Lq,eY,oQ]
   |some x=>obtain⟨f,e,g⟩:=x;exact BP n e g (u::Q) a _ _ h1 h2
  .simp only[d];have:=BP n M b (mO (u::Q)) a c l h1.pop h2;grind
def U6.fis{b}(h:U6 oZ s w S bw bl bi c D p v Q M b)(d:Lq Q):tC oZ s w S bw bl bi c D p oZ w M b Q [] [] v nZ nZ:=
 ⟨h.qs.hq,fun u a=>⟨h.qs.hs u a,d u a⟩,(fun u a=>by cases a),⟨h.z,aj⟩,h.env,.inl ⟨rfl,rfl,rfl⟩,(fun x e=>by cases e),.inl ⟨rfl,rfl,rfl⟩,Kp.refl _ _ _,fun _=>rfl⟩
def XZ(n):(fA (Value.slice none 0 0).cells n).toList.length=n:=by simp[fA,Value.cells]
def X0(n):∀v∈(fA (Value.slice none 0 0).cells n).toList,v.oneCell'=true:=by intro v a;simp[fA,Value.cells]at a;obtain⟨i,_,rfl⟩:=a;have:i % 1=0:=aj;rw[this];rfl
def qqs:LA 131 60 nZ 1 24:=⟨bZ,bZ,fun n=>by rw[XZ];omega,X0,aj⟩
def pkB(l:List (Nat×List Fr)):List (List UInt8):=l.map fun x=>bT x.1 x.2
structure Qv (Es:Own) (s:Nat) (wW:Wq) (S bw bl bi ab:Nat) (D:Nat->Src) (p:Nat) (oZ:Own) (w:Wq) (M:av) (aH:bY) (Q:List Nat) (vl:Wx) (vs:bM) (pk:List (Nat×List Fr)):Prop where
 qz:∃v,U6 oZ s w S bw bl bi ab D p v Q M aH
 lq:Lq Q
 ql:Q.length<=500
 gd:Gd oZ w
 li:GT oZ (s+52) 60 1 w vl vs.length vs
 ps:PsM oZ s w vs (pkB pk)
 kp:Kp (Tb s) Es oZ wW w
structure PkP (P:av->bY->Prop) (μ:av->bY->Nat):Prop where
 wk:∀M aH,P M aH->Wk M/\Dm aH=true
 fr:∀M aH u au f M' dh,P M aH->u<48->M.aL aH u=true->M.frame aH u au=some (f,M',dh)->P M' dh/\((bf f).length:Int)<=au/\0<(bf f).length/\snd f=true/\oz f
 nm:∀M aH,P M aH->M.aZ<=400/\M.next<4611686018427387903/\0<=M.au/\M.au<=1000/\∀x∈M.aM,x.1<M.next
 pk:∀M aH Q,P M aH->Lq Q->(fill M aH Q M.au).2.2.2≠[]->P ((fill M aH Q M.au).1.eO (fill M aH Q M.au).2.2.2) (fill M aH Q M.au).2.1/\μ ((fill M aH Q M.au).1.eO (fill M aH Q M.au).2.2.2) (fill M aH Q M.au).2.1<μ M aH/\
  vT M.next (fill M aH Q M.au).2.2.2=true/\(gM M.next (fill M aH Q M.au).2.2.2).length<=1000000000/\(fill M aH Q M.au).2.2.2.length<=1000/\∀f∈(fill M aH Q M.au).2.2.2,oz f
def Qv.fill{g s q S bw bl bi d D p oZ w M a Q n vs j P}{μ}(h:Qv g s q S bw bl bi d D p oZ w M a Q n vs j)(f:P M a)(b:PkP P μ):WA prog 156 #[aK p 0,iZ M.au] w fun e o=>Ih oZ s w S bw bl bi d D p P (Sd.fill M a Q M.au) e o:=by obtain⟨v,c⟩:=h.qz;obtain⟨_,_,k,m,_⟩:=b.nm M a f;obtain⟨l,r,i,_⟩:=c.env;exact qbe P w M a Q M.au c.qs.hd i.s0 (c.fis h.lq) ⟨k,m⟩ h.ql f b.wk b.fr
def qhe(h:nT w v b):v.oneCell'=true:=by rcases h with⟨rfl,_⟩|⟨g,cap,cs,rfl,_⟩<;>rfl
def qlq(h:nT w v b):∀k,v.ownBlock=some k->k<w.heap.size:=by
 rcases h with⟨rfl,_⟩|⟨g,cap,cs,rfl,hB,_⟩;.intro k a;cases a
 .intro k a;simp[Value.ownBlock]at a;rw[<-a];exact hB.lt
theorem Qv.eO{Es s wW S bw bl bi B D p oZ w Z M a Q vl vs pk P}{μ}(h:Qv Es s wW S bw bl bi B D p oZ w M a Q vl vs pk)(hp:P M a)(H:PkP P μ)(N:(Sd.fill M a Q M.au).2.2.2≠[])(fl)(hf:Ih oZ s w S bw bl bi B D p P (Sd.fill M a Q M.au) (.returned fl) Z):WA prog 158 #[aK S 0,fl] Z fun e y=>∃v,e=.returned v/\Hid (v.oneCell'=true/\∃q,Qv Es s wW S bw bl bi B D p q y ((Sd.fill M a Q M.au).1.eO (Sd.fill M a Q M.au).2.2.2) (Sd.fill M a Q M.au).2.1 (Sd.fill M a Q M.au).2.2.1 vl vs pk/\nT y v (bT M.next (Sd.fill M a Q M.au).2.2.2)/\∀k,v.ownBlock=some k->q k=s+47/\k<y.heap.size/\∀j,j<vs.length->(vs.getD j VG).ownBlock≠some k):=by
 obtain⟨c1,c2,c3,c4,c5,c6⟩:=H.pk M a Q hp h.lq N;have O:(Sd.fill M a Q M.au).1.next=M.next:=rO _ a Q [] M.au []
 have zy:=BP (Q.length+M.au.toNat+1) M a Q [] M.au [] h.lq (fun x d=>by cases d);have V:Sd.fill M a Q M.au=fV (Q.length+M.au.toNat+1) M a Q [] M.au []:=rfl;rw[<-V]at zy;generalize Sd.fill M a Q M.au=X at *
 obtain⟨M2,r,Q2,fs⟩:=X;simp only at *
 obtain⟨iA,v2,h0,vt,L,e0,G,F,f⟩:=hf;cases e0;simp only at G F f;obtain⟨fa,fc,rfl,_,_⟩:=F.fr.shape;have o:0<L.length:=by grind
 have h2:L.length=fs.length:=by grind
 obtain⟨_,W,J,I,R,T⟩:=F.Uj (fun x d=>c6 x.1 (by grind)) o;obtain⟨l,vc,i,hA⟩:=F.env;obtain⟨_,d2,_,_,d5⟩:=H.nm M2 r f;obtain⟨hW,_⟩:=H.wk M2 r f;have n:=h.gd.kp F.kp (fun e=>hwZ (rT.1 e) i.s0);have hc:=Wv L fc _ _ i n d2 d5 hW.wl o aj W J I (fun x d ha=>(F.fv x d).nil (fun e=>by grind [LU])) (fun x d e=>by have:=R x d;rw[e,i.ow]at this;omega) (fun j x d e=>by have:=T j x d;rw[e,i.ow]at this;omega) (by grind) (by grind);refine hc.mono ?_;rintro e y ⟨v,rfl,b,c,q,l3,Y,m,g,U⟩;rw[G,O]at b;rw[G]at m;have A:Kp (Tb s) iA q Z y:=g.mono fun z hz=>ko.2 (by grind);have e2:∀z,z∈[s,s+42]->z=s\/z=s+42:=fun z hz=>by grind
 have E:s+52∉Tg s:=fun e=>fT (rT.1 e);have C:s+47∉Tb s:=fun e=>fT (ko.1 e);have t:=(F.kp.mono (qji s)).trans A;refine⟨v,rfl,qhe b,q,⟨⟨v2,⟨⟨?_,F.hq.kp g (fun z=>by grind) (fun z=>by grind),fun u hu=>((F.qs u hu).1.kp A)⟩,F.z.1.kp A,⟨l3,Y,m,hA.kp g (fun z=>by grind) (fun z=>by grind)⟩⟩⟩,zy.1,?_,n.kp g (fun z=>hwZ (e2 _ z) i.s0),(h.li.kp F.kp E).kp g (fun z=>by grind),h.ps.kp t C,h.kp.trans t⟩,b,fun k K=>⟨U k K,qlq b k K,fun j hj e=>by have:=(h.ps.2.1 j hj).2 k e;have:=c k K;have:=F.kp.size;omega⟩⟩;.obtain⟨v,hq⟩:=h.qz;exact hq.qs.hd
 .have:=zy.2;have:=h.ql;grind
end Go.Proofs.YtphbledmopchnaaGreatDoor.Sd
namespace Go.Proofs.YtphbledmopchnaaGreatDoor.Sd
open St Tryz
variable {A A' B M:av}
def oU{o o':Ot}{k i d f}(h:o.next k i d=some (f,o')):o'=({o with dI:=max o.dI (bI f)}:Ot).aw f/\f.aN=0/\f.aO=0/\f.id=0/\f.aJ=0/\f.ranges=[]:=by
 unfold Ot.next at h;simp only at h;split at h;.cases h
 .rename_i g j;split at h;.cases h
  .have e:=lF h;have b:({g with bL:=o.iH (bI g)}:Fr)=f:=congrArg eB e;have c:=congrArg Prod.snd e;simp only at c;obtain⟨n,_,a⟩:=A9 j;refine⟨?_,?_⟩;.rw[<-c,<-b];rfl
   .rw[<-b,a];exact⟨rfl,rfl,rfl,rfl,rfl⟩
structure FrG (f:Fr):Prop where
 sn:snd f=true
 ok:oz f
 kd:f.aD=2\/f.aD=7\/Qt f
 sz:0<(bf f).length
theorem D7(a):∀k,0<k->0<(a.getD 0 []).length->0<(fK a k).length
 |0,h,_=>absurd h (KP _)
 |1,_,h=>by simpa[fK]using h
 |k+2,_,h=>by have:=D7 a (k+1) aj h;grind [fK,List.length_append]
theorem lZ(f):0<(bf f).length:=by grind [bf,D7,dV,fu]
theorem qbi(B:fG A)(d:Bd A)(b n u s f)(L:u<48)(H:Dn b)(T:b.length<=8)(i:A.aL b u=true)(h:A.frame b u s=some (f,A',n)):Bd A'/\FrG f/\A'.aM=A.aM/\A'.next=A.next/\A'.aZ=A.aZ/\A'.aV=A.aV/\(f.aD=2/\n.length<b.length\/f.aD≠2/\n=b/\A.aM.length<12):=by
 obtain⟨_,f2,_,_,_⟩:=Aa B b n u s f L H i h;have z:0<18446744073709551616:=kX;have y:dH<18446744073709551616:=kX;unfold av.frame at h;unfold av.aL at i;by_cases u0:u=0
 .rw[dN u0]at h;split at h;.cases h
  .rename_i V;have e:=lF h;have l:iT (b.take (gV b s b.length))=f:=congrArg eB e;have k:A=A':=congrArg (fun x=>x.2.1) e;have o:b.drop (gV b s b.length)=n:=congrArg (fun x=>x.2.2) e;subst k;refine⟨d,⟨f2,?_,.inl (by grind),lZ f⟩,rfl,rfl,rfl,rfl,.inl ⟨by grind,?_⟩⟩;.rw[<-l];exact⟨by grind [iT,List.length_take],eG _,by grind,by grind [iT],⟨z,z,z,z,z⟩,fun j r=>by have C:=(H.take (gV b s b.length)).at j r;unfold vP at C;simp only[iY]at C;have P:=of_decide_eq_true C.1.1;have Q:=of_decide_eq_true C.1.2;grind [iT]⟩
   grind
 .rw[b_ u0]at h i;simp only[iY,Jr]at i;have a:A.aM.length<12:=by grind [av.full,of_decide_eq_false]
  replace i:=i.2;by_cases u8:u=8
  .rw[dN u8]at h;obtain⟨⟨f1,E⟩,m,e⟩:=jE.1 h;have l:f1=f:=congrArg eB e;have k:{A with gr:=E}=A':=congrArg (fun x=>x.2.1) e;have o:b=n:=congrArg (fun x=>x.2.2) e;obtain⟨p,D⟩:=pR m;have c:A.gr.jI A.aP<=dH:=Dy _ _;rw[l]at p;subst k;refine⟨d.uG _ ?_,⟨f2,?_,.inr (.inr ?_),lZ f⟩,rfl,rfl,rfl,rfl,.inr ⟨by grind,o.symm,a⟩⟩;.rw[D];exact R9.aw (g:={A.gr with eF:=A.gr.jI A.aP}) ⟨d.g.1,c,d.g.2.2⟩ _ c
   .rw[p];exact⟨eG _,eG _,by grind,by grind [lV],⟨z,z,Cn c y,z,z⟩,fun j r=>absurd r (jZ _)⟩
   .rw[p];exact⟨by grind [lV],(fun h=>by cases h),c,eG _,.inr (.inl rfl)⟩
  .rw[b_ u8]at h i;by_cases u24:u<24
   .rw[dN u24]at h;obtain⟨⟨f1,E⟩,m,e⟩:=jE.1 h;have l:f1=f:=congrArg eB e;have k:A.eZ (u-16) {A.bH (u-16)with gr:=E}=A':=congrArg (fun x=>x.2.1) e;have o:b=n:=congrArg (fun x=>x.2.2) e;obtain⟨p,D⟩:=pR m;have c:(A.bH (u-16)).gr.jI (A.bH (u-16)).aP<=dH:=Dy _ _;rw[l]at p;subst k;have G:u-16<8:=aj;refine⟨d.eZ _ _ ((d.i _).gr' _ ?_),⟨f2,?_,.inr (.inr ?_),lZ f⟩,rfl,rfl,rfl,rfl,.inr ⟨by grind,o.symm,a⟩⟩;.rw[D];exact R9.aw (g:={(A.bH (u-16)).gr with eF:=(A.bH (u-16)).gr.jI (A.bH (u-16)).aP}) ⟨(d.i _).g.1,c,(d.i _).g.2.2⟩ _ c
    .rw[p];exact⟨eG _,eG _,by grind,by grind [lV],⟨z,z,Cn c y,z,z⟩,fun j r=>absurd r (jZ _)⟩
    .rw[p];exact⟨by grind [lV],(fun h=>by cases h),c,eG _,.inr (.inr (.inl rfl))⟩
   .rw[b_ u24]at h i;by_cases u32:u<32
    .rw[dN u32]at h i;obtain⟨⟨f1,I⟩,m,e⟩:=jE.1 h;have l:f1=f:=congrArg eB e;have k:A.dA (u-24) {A.out (u-24)with nt:=I}=A':=congrArg (fun x=>x.2.1) e;have o:b=n:=congrArg (fun x=>x.2.2) e;unfold Nt.aL at i;simp only[iY]at i;have w:=B.wr (u-24);have z2:=w.sz;obtain⟨_,R,S⟩:=w.gv i.1;have G:u-24<8:=aj;subst l k;unfold Nt.next at m;split at m;.cases m
     .have p:ou (u-24) (A.out (u-24)).nt.aC (A.out (u-24)).aB.length=f1:=congrArg eB (lF m);subst p;have U:2048<=dH:=kX;refine⟨d.dA _ _ ⟨(d.o _).b,(d.o _).a,(d.o _).c⟩,⟨f2,?_,.inr (.inr ⟨?_,(fun h=>by cases h),eG _,?_,.inr (.inr (.inr rfl))⟩),lZ _⟩,rfl,rfl,rfl,rfl,.inr ⟨by simp[ou],o.symm,a⟩⟩;.exact⟨eG _,eG _,by grind,by grind [ou],⟨by grind [ou],by grind [ou],z,z,z⟩,fun j r=>absurd r (jZ _)⟩
      .grind [ou]
      grind [ou]
    .rw[b_ u32]at h i;by_cases t:u=32
     .rw[dN t]at h i;split at h;.cases h
      .obtain⟨g,K,e⟩:=jE.1 h;have l:g=f:=congrArg eB e;have k:{A with aQ:=A.aQ.tail,qv:=qtl A.qv}=A':=congrArg (fun x=>x.2.1) e;have o:b=n:=congrArg (fun x=>x.2.2) e;subst l k;have q:=B.q g (List.mem_of_mem_head? K);exact⟨d.q _ _ A.least,⟨f2,q.ok,.inr (.inl q.kd),lZ g⟩,rfl,rfl,rfl,rfl,.inr ⟨by grind,o.symm,a⟩⟩
     .rw[b_ t]at h i;obtain⟨⟨f1,N⟩,m,e⟩:=jE.1 h;have l:f1=f:=congrArg eB e;have k:A.dA (u-40) N=A':=congrArg (fun x=>x.2.1) e;have o:b=n:=congrArg (fun x=>x.2.2) e;subst l k;obtain⟨I,W,J,M,_⟩:=yg (B.wr _) i m;obtain⟨O,X,Y,Z,q5,q6⟩:=oU m;have v:bI f1<=2048:=dx J.b M.sz;have F:vV f1:=⟨by grind [bI],v,J.ne⟩;have G:u-40<8:=aj;refine⟨d.dA _ _ ?_,⟨f2,?_,.inr (.inr ?_),lZ f1⟩,rfl,rfl,rfl,rfl,.inr ⟨by grind,o.symm,a⟩⟩;.rw[O];exact⟨(d.o _).b,xL (d.o _).a F,(d.o _).c⟩
      .exact⟨by grind,F.d,by grind,by grind,⟨fT F.o,by grind,by grind,by grind,by grind⟩,fun j r=>by grind⟩
      constructor<;>grind [cases vV]
theorem MO(d:fG A)(j:dL A B)(k:dL B A)(m:Bd A)(a b u c f)(e:u<48)(i:Dn a)(l:a.length<=8)(n:∀r∈a,r.2<B.next)(g:A.aL a u=true)(h:A.frame a u c=some (f,A',b)):(fG A'/\dL A' B/\dL B A'/\Bd A')/\Dn b/\(∀r∈b,r.2<B.next)/\((bf f).length:Int)<=c/\FrG f/\A'.aM=A.aM/\A'.next=A.next/\A'.aZ=A.aZ/\(f.aD=2/\b.length<a.length\/f.aD≠2/\b=a/\A.aM.length<12):=by obtain⟨s,_,z⟩:=NJ d j k a b u c f e n g h;obtain⟨x,_,y,_,_⟩:=Aa d a b u c f e i g h;obtain⟨o,p,q,t,v,_,w⟩:=qbi d m a b u c f e i l g h;grind [cases rV,cases Bd,Dn,cases FrG]
def Kn(l:List Fr):Nat:=(l.map fun f=>(bf f).length).sum
structure FlB (B A:av) (aH:bY) (au:Int) (l:List Fr) (x:av×bY×List Nat×List Fr) (m:List Fr):Prop where
 loc:fG x.1
 ab:dL x.1 B
 ba:dL B x.1
 bd:Bd x.1
 dn:Dn x.2.1
 ln:x.2.1.length<=aH.length
 hi:∀r∈x.2.1,r.2<B.next
 q:Lq x.2.2.1
 eq:x.2.2.2=l++m
 fs:∀f∈m,FrG f
 sz:(Kn m:Int)<=au
 wy:x.1.aM=A.aM
 mt:x.1.aZ=A.aZ
 wf:fZ m=true->A.aM.length<12
 ac:m≠[]->fZ m=false->x.2.1.length<aH.length
theorem qU:∀(n) {A B} (aH) (Q later) (au) (l),fG A->dL A B->dL B A->Bd A->Dn aH->aH.length<=8->(∀r∈aH,r.2<B.next)->Lq Q->Lq later->0<=au->∃m,FlB B A aH au l (fV n A aH Q later au l) m
 |0,A,B,aH,Q,later,au,l,hA,h1,h2,hb,hd,h8,hl,hQ,hL,hr=>⟨[],hA,h1,h2,hb,hd,aI _,hl,Lq.oO _ hQ hL,(lG _).symm,aR,hr,rfl,rfl,by simp[fZ],aR⟩
 |n+1,A,B,aH,[],later,au,l,hA,h1,h2,hb,hd,h8,hl,hQ,hL,hr=>⟨[],hA,h1,h2,hb,hd,aI _,hl,Lq.oO _ hQ hL,(lG _).symm,aR,hr,rfl,rfl,by simp[fZ],aR⟩
 |n+1,A,B,aH,u::Q,later,au,l,hA,h1,h2,hb,hd,h8,hl,hQ,hL,hr=>by
  have k:u<48:=hQ u aR;unfold fV;by_cases c:A.aL aH u=true
  .simp only[c,if_true];cases hF:A.frame aH u au with
   |none=>
    simp only;split;.exact qU n aH _ _ au l hA h1 h2 hb hd h8 hl hQ.pop (hL.app fun x E=>by grind) hr
    .exact⟨[],hA,h1,h2,hb,hd,aI _,hl,Lq.oO _ hQ hL,(lG _).symm,aR,hr,rfl,rfl,by simp[fZ],aR⟩
   |some x=>
    obtain⟨f,v,a⟩:=x;simp only;obtain⟨⟨o,p,q,e⟩,j,s,C,w,h,y,i,z⟩:=MO hA h1 h2 hb aH a u au f k hd h8 hl c hF;have b:a.length<=aH.length:=by grind
    obtain⟨m,t⟩:=qU n a (u::Q) later (au-((bf f).length:Int)) (l++[f]) o p q e j aj s hQ hL aj;refine⟨f::m,t.loc,t.ab,t.ba,t.bd,t.dn,dx t.ln b,t.hi,t.q,by rw[t.eq];simp,fun g D=>?_,?_,t.wy.trans h,t.mt.trans i,fun d=>?_,fun _ d=>?_⟩;.grind [cases FlB]
    .grind [cases FlB,Kn]
    .grind [fZ,cases FlB]
    .grind [fZ,Nat.lt_of_le_of_lt,cases FlB]
  .simp only[c];exact qU n aH _ later au l hA h1 h2 hb hd h8 hl hQ.pop hL hr
theorem Ik(n a):∀k,k<=a.length->(iy n a k).length=(Num.aB n).length+Kn (a.take k)
 |0,_=>by simp[iy,Kn]
 |k+1,h=>by show(iy n a k++bf (a.getD k jv)).length=_;rw[lM,Ik n a k aj,Ua,wH aj];grind [Kn,List.getElem?_eq_getElem]
theorem zC(n a):(gM n a).length=(Num.aB n).length+Kn a:=by unfold gM;rw[Ik n a a.length (aI _),AJ]
theorem U8:∀(l),(∀f∈l,FrG f)->l.length<=Kn l
 |[],_=>eG _
 |f::t,h=>by have b:=U8 t fun g a=>h g (by simp[a]);have c:=(h f aR).sz;grind [Kn,List.length_cons]
def mu(M:av)(a:bY):Nat:=a.length+(12-M.aM.length)
structure PP (B:av) (N:Nat) (M:av) (aH:bY):Prop where
 loc:fG M
 ab:dL M B
 ba:dL B M
 bd:Bd M
 dn:Dn aH
 l8:aH.length<=8
 hi:∀r∈aH,r.2<B.next
 nx:M.next+mu M aH<=N
theorem EO(h:Bd M):0<=M.au/\M.au<=400:=by grind [av.au,kK,cases Bd]
theorem Dn.okl{l}(h:Dn l)(a:l.length<=8):Dm l=true:=by unfold Dm;rw[iY];exact⟨wM.2 fun i b=>h.at i (by grind),decide_eq_true aj⟩
theorem MP{N b Q}(h:PP B N M b)(L:N<dH)(z:Lq Q)(l:(fill M b Q M.au).2.2.2≠[]):PP B N ((fill M b Q M.au).1.eO (fill M b Q M.au).2.2.2) (fill M b Q M.au).2.1/\mu ((fill M b Q M.au).1.eO (fill M b Q M.au).2.2.2) (fill M b Q M.au).2.1<mu M b/\vT M.next (fill M b Q M.au).2.2.2=true/\(gM M.next (fill M b Q M.au).2.2.2).length+4<=M.aZ/\(fill M b Q M.au).2.2.2.length<=400/\(∀f∈(fill M b Q M.au).2.2.2,FrG f):=by
 obtain⟨J,S⟩:=EO h.bd;have j:(fill M b Q M.au).1.next=M.next:=rO _ b Q [] M.au []
 obtain⟨m,t⟩:=qU (Q.length+M.au.toNat+1) b Q [] M.au [] h.loc h.ab h.ba h.bd h.dn h.l8 h.hi z (fun x g=>by simp at g) J;have c:FlB B M b M.au [] (fill M b Q M.au) m:=t;clear t;generalize fill M b Q M.au=x at c j l;obtain⟨A,u,K,a⟩:=x;simp only at c j l ⊢;have v:a=m:=c.eq;subst v;have R:u.length<=b.length:=c.ln;have T:A.aM=M.aM:=c.wy;have E:A.aZ=M.aZ:=c.mt;have P:=GD (A:=A) c.loc c.ab c.ba a;have d:Bd A:=c.bd;have s:mu (A.eO a) u<mu M b:=by
  unfold mu;by_cases k:fZ a=true
  .have n:=c.wf k;have:(A.eO a).aM=A.aM++[(A.next,⟨again a,A.aV⟩)]:=by
    show(if fZ a then _ else _)=_;grind
   grind
  .have G:fZ a=false:=by grind
   have:(A.eO a).aM=A.aM:=by show(if fZ a then _ else _)=_;grind
   grind [cases FlB]
 have O:(Kn a:Int)<=M.au:=c.sz;have D:a.length<=Kn a:=U8 a c.fs;have F:(A.eO a).next=M.next+1:=by show A.next+1=_;rw[j]
 have C:(again a).length<=a.length:=tH _ _;have r:∀f∈again a,Qt f:=fun f o=>by
  obtain⟨p,q⟩:=dY.1 o;rcases(c.fs f p).kd with e|e;.grind
  grind
 have w:=h.nx;have I:dH=4611686018427387903:=rfl;refine⟨⟨P.loc,P.ab,P.ba,?_,c.dn,fT h.l8,c.hi,by grind⟩,s,?_,?_,aj,c.fs⟩
 .refine⟨d.o,d.i,d.g,d.lm,d.mt,fun x g=>?_,fun x g=>(d.ls x g).mono (Nat.le_succ _),?_,?_,d.ll,Nat.le_succ_of_le d.nm,d.cm,fun x g=>?_,d.ib⟩
  .by_cases k:fZ a=true
   .have i:x∈A.aM++[(A.next,(⟨again a,A.aV⟩:sS))]:=by
     have:(A.eO a).aM=A.aM++[(A.next,⟨again a,A.aV⟩)]:=by show(if fZ a then _ else _)=_;grind
     grind
    rcases iJ.1 i with i|i;.exact(d.wy x i).mono (Nat.le_succ _)
    .rw[sD.1 i];exact⟨YD _,by grind,r⟩
   .have:(A.eO a).aM=A.aM:=by
     show(if fZ a then _ else _)=_;grind
    rw[this]at g;exact(d.wy x g).mono (Nat.le_succ _)
  .show(A.bV++(A.eO a).aM).Pairwise _;by_cases k:fZ a=true
   .have:(A.eO a).aM=A.aM++[(A.next,⟨again a,A.aV⟩)]:=by
     show(if fZ a then _ else _)=_;grind
    rw[this,<-lC,Qz];refine⟨d.ky,aR,fun x g y H=>?_⟩;rw[sD.1 H];have:x.1<A.next:=by
     rcases iJ.1 g with g|g;.exact(d.ls x g).1
     .exact(d.wy x g).1
    grind
   .have:(A.eO a).aM=A.aM:=by
     show(if fZ a then _ else _)=_;grind
    rw[this];exact d.ky
  .by_cases k:fZ a=true
   .have n:=c.wf k;have:(A.eO a).aM=A.aM++[(A.next,⟨again a,A.aV⟩)]:=by
     show(if fZ a then _ else _)=_;grind
    grind
   .have:(A.eO a).aM=A.aM:=by
     show(if fZ a then _ else _)=_;grind
    rw[this];exact d.wl
  .show x.2.aV<=A.aV;by_cases k:fZ a=true
   .have i:x∈A.aM++[(A.next,(⟨again a,A.aV⟩:sS))]:=by
     have:(A.eO a).aM=A.aM++[(A.next,⟨again a,A.aV⟩)]:=by show(if fZ a then _ else _)=_;grind
     grind
    grind [cases Bd]
   .have:(A.eO a).aM=A.aM:=by
     show(if fZ a then _ else _)=_;grind
    grind [cases Bd]
 .unfold vT;rw[iY,iY];refine⟨⟨wM.2 fun f o=>(c.fs f o).sn,decide_eq_true aj⟩,decide_eq_true ?_⟩;grind
 grind [zC,av.au]
theorem pkp(B N)(l:N<dH):PkP (PP B N) mu where
 wk:=fun M a h=>⟨h.bd.wk h.loc,h.dn.okl h.l8⟩
 fr:=fun M a u g f E e h o p c=>by
  obtain⟨⟨z,A,C,i⟩,k,D,j,b,F,G,H,I⟩:=MO h.loc h.ab h.ba h.bd a e u g f o h.dn h.l8 h.hi p c;have n:e.length<=a.length:=by grind
  refine⟨⟨z,A,C,i,k,fT h.l8,D,?_⟩,j,b.sz,b.sn,b.ok⟩;have:=h.nx;grind [mu]
 nm:=fun M a h=>by obtain⟨y,L⟩:=EO h.bd;have w:dH=4611686018427387903:=rfl;have:=h.nx;exact⟨h.bd.mt.2,aj,y,aj,fun x q=>(h.bd.wy x q).1⟩
 pk:=fun M a Q h m d=>by obtain⟨r,s,t,J,K,v⟩:=MP h l m d;have:=h.bd.mt;exact⟨r,s,t,aj,aj,fun f c=>(v f c).ok⟩
end Go.Proofs.YtphbledmopchnaaGreatDoor.Sd
namespace Go.Proofs.YtphbledmopchnaaGreatDoor.Sd
open Go.RowKit Go.Lib Mm Tryz
variable {M:av}{S bi bl bw s:Nat}{oZ:Own}{w:Wq}
def Qv.new{a s f S bw bl bi c D p oZ aX w w' M b Q e vs d}(h:Qv a s f S bw bl bi c D p oZ w M b Q e vs d)(K:Kp [] oZ aX w w'):Qv a s f S bw bl bi c D p aX w' M b Q e vs d:=by obtain⟨v,g⟩:=h.qz;exact⟨⟨v,g.new K⟩,h.lq,h.ql,h.gd.kp K aR,h.li.kp K aR,h.ps.kp K aR,h.kp.trans (K.mono aR)⟩
theorem Qv.app{g o m D p aX w' i Q z a vs e}(h:Qv g s o S bw bl bi m D p oZ w M i Q z vs e)(v n c)(r:nT w v (bT n c))(u:∀k,v.ownBlock=some k->oZ k=s+47/\k<w.heap.size)(t:∀k,v.ownBlock=some k->∀j,j<vs.length->(vs.getD j VG).ownBlock≠some k)(K:Kp [s+52] oZ aX w w')(A:GT aX (s+52) 60 1 w' a (vs.length+1) (vs++[v])):Qv g s o S bw bl bi m D p aX w' M i Q a (vs++[v]) (e++[(n,c)]):=by
 obtain⟨y,b⟩:=h.qz;obtain⟨l,E,q,_⟩:=b.env;have B:=q.s0;have d:∀x∈[s+52],x∈Tb s:=fun x C=>ko.2 (by grind);have f:PsM oZ s w (vs++[v]) (pkB (e++[(n,c)])):=by unfold pkB;rw[Dv];exact h.ps.add v _ r u t
 refine⟨⟨y,b.qs.kp K d aR aR,b.z.kp (K.mono d),b.env.kp K dZ aR aR⟩,h.lq,h.ql,h.gd.kp K aR,?_,f.kp K aR,h.kp.trans (K.mono d)⟩;grind
def X3{v b}(h:nT w v b):∃a n c,v=.slice a n c:=by rcases h with⟨rfl,_⟩|⟨g,cap,cs,rfl,_⟩<;>exact⟨_,_,_,rfl⟩
def lf(M:av):bY:=if M.bn then M.aT.rs.reverse else[]
def PkQ(oZ:Own)(s:Nat)(w:Wq)(S bw bl bi:Nat)(f:av->Prop)(P:av->bY->Prop)(e:Ending)(w':Wq):Prop:=
 ∃a d c b h i g,f a/\e=.returned d/\gq b s w' S h (gQ ((lf a).length+14) {a with bn:=false} (lf a) q0 []).1 bw bl bi i/\Gd b w'/\GT b (s+52) 60 1 w' d c.length c/\PsM b s w' c (pkB (gQ ((lf a).length+14) {a with bn:=false} (lf a) q0 []).2)/\Kp (Tb s) oZ b w w'/\P (gQ ((lf a).length+14) {a with bn:=false} (lf a) q0 []).1 g
theorem Tf{l u}(h:gq oZ s w S l M bw bl bi u)(hg:Gd oZ w)(hy:M.mY=0)(R P)(μ)(hP:PkP P μ)(hf:bN 154 #[aK S 0] w (.tuple #[]) fun b=>∃a d x A,R a/\gq d s b S x a bw bl bi A/\Kp (T0 s) oZ d w b)(G:∀oZ W l a u,R a->gq oZ s W S l a bw bl bi u->WA prog 200 #[aK S 0] W fun e b=>U9 oZ s W S bw bl bi {a with bn:=false} (lf a) e b)(hp:∀a,R a->P {a with bn:=false} (lf a)/\μ {a with bn:=false} (lf a)<(lf a).length+14/\(lf a).length<=1000):WA prog 114 #[aK S 0] w fun e b=>PkQ oZ s w S bw bl bi R P e b:=by
 have HO:=aG (yw S M.mY w (by rw[h.cK.cell];exact h.cells.rC));rw[hy]at HO;have HL:Hid (bN 154 #[aK S 0] w (.tuple #[]) fun b=>Hid (∃a,R a/\∃d x A,gq d s b S x a bw bl bi A/\Kp (Tb s) oZ d w b)):=by refine bK hf ?_;rintro b ⟨a,d,x,A,h1,h2,q⟩;exact⟨rfl,a,h1,d,x,A,h2,q.mono fun z hz=>ko.2 (fT (fM.1 hz))⟩
 have HS:Hid (∀w1 a,R a->(∃d x A,gq d s w1 S x a bw bl bi A/\Kp (Tb s) oZ d w w1)->WA prog 155 #[aK S 0] w1 fun e b=>∃p,e=.returned (aK p 0)/\Hid (∃E d D v,U6 d s b S bw bl bi E D p v q0 {a with bn:=false} (lf a)/\Kp (Tb s) oZ d w b)):=by rintro w1 a h1 ⟨d,x,A,h2,q⟩;refine(Te {a with bn:=false} (lf a) h2 (fun oZ W H=>G oZ W x a A h1 H)).mono ?_;rintro e b ⟨p,rfl,E,iA,D,v,h4,h5⟩;exact⟨p,rfl,E,iA,D,v,h4,q.trans h5⟩
 have HG:=aG hg;have HP:=aG hP;have hu:=aG hp;clear h hg hP hp hf G hy;go_enter func114,ntmps114;go_wp2_with (first|(go_at_call 137;refine bK HO.out ?_;rintro b x2;have he:=x2.symm;subst he)|(go_at_call 154;refine bK HL.out ?_;rintro w1 Ur)|(go_at_call 155;obtain⟨a,U,hx⟩:=Ur.out;refine(HS.out w1 a U hx).mono ?_;rintro e w2 ⟨p,rfl,HQ⟩;have h8:=aG U;clear U hx Ur)|go_in);obtain⟨E,iA,D,v,hq,K2⟩:=HQ.out;have x6:0<s:=by obtain⟨l,u,H,_⟩:=hq.env;exact H.s0
 have h0:Qv oZ s w S bw bl bi E D p iA w2 {a with bn:=false} (lf a) q0 nZ [] []:=⟨⟨v,hq⟩,lq0,kX,HG.out.kp K2 (fun z=>fT (ko.1 z)),.inl ⟨rfl,rfl,rfl⟩,⟨rfl,(fun j hj=>by cases hj),fun i j _ hj=>by cases hj⟩,K2⟩;have H0:=aG h0;clear h0 hq HQ;obtain⟨X,hX⟩:∃X,X=gQ ((lf a).length+14) {a with bn:=false} (lf a) q0 []:=⟨_,rfl⟩;have HX:=aG hX;have vY:Hid (∀d x A dh vl B b,gq d s b S x X.1 bw bl bi A->Gd d b->GT d (s+52) 60 1 b vl B.length B->PsM d s b B (pkB X.2)->Kp (Tb s) oZ d w b->P X.1 dh->PkQ oZ s w S bw bl bi R P (.returned vl) b):=by intro d x A dh vl B b g1 g2 g3 g4 g5 g6;rw[hX]at g1 g4 g6;exact⟨a,vl,B,d,x,A,dh,h8.out,rfl,g1,g2,g3,g4,g5,g6⟩
 obtain⟨a1,a2,a3⟩:=hu.out a h8.out;have HA:=aG (dz a1 (dz a2 a3));clear a1 a2 a3 hX K2;go_loopg [4] (μ {a with bn:=false} (lf a)) (fun kx s4 wr=>∃(I:Own) (M:av) (c:bY) (Q:List Nat) (B:bM) (pk:List (Nat×List Fr)),Hid (Qv oZ s w S bw bl bi E D p I wr M c Q s4 B pk/\P M c/\∃n,μ M c<n/\pk.length+n<=2000/\gQ n M c Q pk=X)/\Hid (μ M c<=kx));case atStart=>exact⟨iA,{a with bn:=false},lf a,q0,[],[],(⟨H0.out,HA.out.1,(lf a).length+14,HA.out.2.1,by have:=HA.out.2.2;simp;omega,HX.out.symm⟩:_/\_),aI _⟩
 case round=>
  obtain⟨I,M,c,Q,B,pk,HI,HK⟩:=hrel;obtain⟨I4,t,n,hn,hl,o⟩:=HI.out;obtain⟨e1,e2,e3,e4,_⟩:=HP.out.nm M c t;obtain⟨v0,Y⟩:=I4.qz;obtain⟨sl,x8,H,_⟩:=Y.env;have c0:wr.cell? (aA S 0)=some (iZ M.aZ):=by rw[H.cK.cell];exact H.cells.c0
  have qI:wr.cell? (aA S 229)=some (uZ M.next):=by rw[H.cK.cell];exact H.cells.qI
  have HR:Hid (bN 157 #[iZ M.aZ,uZ M.next] wr.drew (iZ ((M.aZ:Int)-((Num.aB M.next).length:Int)-4)) fun b=>bJ wr b):=by refine bK (Y3 M.aZ M.next wr.drew e1 aj) ?_;rintro b hb;exact⟨rfl,hb.os,hb.tape,hb.output,hb.size,hb.block⟩
  obtain⟨m,rfl⟩:∃m,n=m+1:=⟨n-1,aj⟩;unfold gQ at o;by_cases N:(fill M c Q M.au).2.2.2=[]
  .rw[dN N]at o;have HF:Hid (∀f,bJ wr f->bN 156 #[aK p 0,(iZ ((M.aZ:Int)-((Num.aB M.next).length:Int)-4))] f nZ fun b=>Hid (PkQ oZ s w S bw bl bi R P (.returned u4) b)):=fun f r=>by
    have q:=I4.new (Kp.below r);refine(q.fill t HP.out).mono ?_;rintro e b ⟨Z,v4,vl,vt,L,rfl,hL,F,O⟩;have hv:L=[]:=by grind [List.map_eq_nil_iff]
    obtain⟨l5,x4,ha,_⟩:=F.env;have hw:(fill M c Q M.au).1=X.1:=by rw[<-o]
    rw[hw]at ha O;refine⟨by rw[F.nl hv],vY.out Z l5 x4 _ u4 B b ha (q.gd.kp F.kp fun z=>fT (rT.1 z)) (q.li.kp F.kp fun z=>fT (rT.1 z)) ?_ (q.kp.trans (F.kp.mono (qji s))) O⟩;rw[<-o];exact q.ps.kp F.kp fun z=>fT (rT.1 z)
   have q1:=FT;clear I4 t o Y H HI;go_wp2_with fail;go_region_with (first|(go_at_call 157;refine bK HR.out ?_;rintro f r)|(go_at_call 156;refine bK (HF.out f r) ?_;rintro w4 HE));all_goals(go_wp2;go_ret;exact HE.out)
  .rw[b_ N]at o;obtain⟨b1,b2,b3,b4,b5,b6⟩:=HP.out.pk M c Q t I4.lq N;have HF:Hid (∀f,bJ wr f->WA prog 156 #[aK p 0,(iZ ((M.aZ:Int)-((Num.aB M.next).length:Int)-4))] f fun e b=>∃g fn fc,e=.returned (dB g fn fc)/\Hid (∃I,Qv oZ s w S bw bl bi E D p I f M c Q u4 B pk/\Ih I s f S bw bl bi E D p P (Sd.fill M c Q M.au) (.returned (dB g fn fc)) b)):=fun f r=>by
    have q:=I4.new (Kp.below r);refine(q.fill t HP.out).mono ?_;intro e b hQ;obtain⟨Z,v4,vl,vt,L,rfl,hL,F,O⟩:=hQ;have x5:0<L.length:=by grind
    have x0:=F.fr;rcases x0 with⟨_,h2,_⟩|⟨g,cap,cs,rfl,_⟩;.omega
    .exact⟨g,_,cap,rfl,I,q,Z,v4,_,vt,L,rfl,hL,F,O⟩
   have hr:Hid (∀f w4 fl,(∃I,Qv oZ s w S bw bl bi E D p I f M c Q u4 B pk/\Ih I s f S bw bl bi E D p P (Sd.fill M c Q M.au) (.returned fl) w4)->WA prog 158 #[aK S 0,fl] w4 fun e C=>∃J K u,e=.returned (.slice J K u)/\Hid (∃v6 w6 jY,(∀ty,(fE #[131,131] ty #[u4,dB C.heap.size 1 1]).run prog (C.alloc (.cells #[.slice J K u] 60))=.ok v6 w6)/\Qv oZ s w S bw bl bi E D p jY w6 ((Sd.fill M c Q M.au).1.eO (Sd.fill M c Q M.au).2.2.2) (Sd.fill M c Q M.au).2.1 (Sd.fill M c Q M.au).2.2.1 v6 (B++[.slice J K u]) (pk++[(M.next,(Sd.fill M c Q M.au).2.2.2)]))):=by
    rintro f w4 fl ⟨I,q,h4⟩;refine(q.eO t HP.out N fl h4).mono ?_;rintro e C ⟨v,rfl,_,rP,h5,T,V⟩;obtain⟨J,K,u,rfl⟩:=X3 T;refine⟨J,K,u,rfl,?_⟩;have hc:bJ C (C.alloc (.cells #[.slice J K u] 60)):=(bP _ C).alloc (aI _) _;have B5:aS (C.alloc (.cells #[.slice J K u] 60)) C.heap.size 60 [.slice J K u]:=aS.new C 60 _;have h6:=h5.new (Kp.below hc);have x7:B.length<=2000:=by have:=h6.ps.1;grind [pkB,List.length_map]
    obtain⟨v6,w6,jY,run,hG,K6⟩:=gI qqs h6.li (aA C.heap.size 0) 1 1 [.slice J K u] rfl (fun z hz=>by grind) (fun j y hy=>by
     have e:(aA C.heap.size 0).add j=(aA C.heap.size j):=by rw[gT,gG]
     rw[e,B5.cell,hy]) aj
    exact⟨v6,w6,jY,run,h6.app _ _ _ (T.alloc _) (fun k hk=>⟨(V k hk).1,gK (V k hk).2.1 hc.size⟩) (fun k hk=>(V k hk).2.2) K6 hG⟩
   have HB:=aG (dz b1 (dz b2 (dz hn (dz hl o))));clear I4 t o Y H HI b1 b2 b3 b4 b5 b6;go_wp2_with fail;go_region_with (first|(go_at_call 157;refine bK HR.out ?_;rintro f r)|(go_at_call 156;refine(HF.out f r).mono ?_;rintro e w4 ⟨fg,fn,fc,rfl,HE⟩));all_goals(
    have q2:=DV w4 (aA fg 0) fn fc;go_wp2_with (first|(go_at_call 158;refine(hr.out f w4 _ HE.out).mono ?_;rintro e C ⟨J,K,u,rfl,h7⟩;obtain⟨v6,w6,jY,x3,h9⟩:=h7.out;have ho:=aG h9;clear h7 h9)|(at_builtin;refine ji _ rfl _ _ _ _ rfl _ _ rfl rfl _ _ (x3 _) ?_)|go_in);go_roundg (μ ((fill M c Q M.au).1.eO (fill M c Q M.au).2.2.2) (fill M c Q M.au).2.1);case measure=>have h1:=HK.out;have h2:=HB.out.2.1;omega
    case rel=>obtain⟨h1,h2,q,h4,h5⟩:=HB.out;exact⟨jY,_,_,_,_,_,(⟨ho.out,h1,m,aj,by grind,h5⟩:_/\_),(aI _:μ ((fill M c Q M.au).1.eO (fill M c Q M.au).2.2.2) (fill M c Q M.au).2.1<=_)⟩)
