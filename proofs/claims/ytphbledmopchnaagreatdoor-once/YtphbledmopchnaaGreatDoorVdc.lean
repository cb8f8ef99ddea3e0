import Derived.Test.YtphbledmopchnaaGreatDoorVdb
import Derived.Test.YtphbledmopchnaaGreatDoorVcb
open Go.Builtin renaming zeroCells->fA,append_->fB
open Prod renaming fst->eB
open Go.RowKit renaming intOf->eT
set_option maxHeartbeats 4000000
set_option maxRecDepth 100000
open Go renaming World->Wq,Value->WA,Calls->WB,undef->Vh
set_option linter.all false
namespace Go.Proofs.YtphbledmopchnaaGreatDoor.Sd
open Go.RowKit Go.Lib Mm Tryz
variable {D:Nat->Src}{L:List FV}{M:av}{Q:List Nat}{S ab bi bl bw c n p s u:Nat}{aI:bZ}{args:Array WA}{b:List UInt8}{d:List (List UInt8)}{eZ oZ:Own}{f g i:av->bZ->Bool}{nx:av->bZ->Int->Option (Fr×av×bZ)}{v:WA}{vs:bJ}{w w0:Wq}{x:Src}{y:Bool}
def N7{F:Nat}{H I:av->bZ->Bool}(w:Wq)(h:Ii oZ s w S bw bl bi F x H I nx):WB prog 201 #[aJ S 0,nM x] w fun e A=>∃d p,e=.returned (nM d)/\Kp [] oZ p w A/\d.u=x.u/\d.y=true/\kM p s A S bw bl bi F d (fun M o=> !M.full&&H M o) I (fun M o B=>nx M o (B-M.gZ)):=by
 obtain⟨n1,n2,P,Q,R,U,V,X⟩:=h.fn;obtain⟨D,C⟩:=bT (.func (.func 248) #[] #[(aJ (w.heap.size+1+1+1) 0),aJ w.heap.size 0]:WA);obtain⟨W,t⟩:=bT (((((w.alloc (.cells #[aJ S 0] 128)).alloc (.cells #[iZ x.u,.func x.f1 x.p1 x.k1,D,.bool true] 304)).alloc (.cells #[iZ 0,.nilFunc,.nilFunc,.bool false] 304)).alloc (.cells #[.func x.f2 x.p2 x.k2] 302)));have N:aL W w.heap.size 128 [aJ S 0]:=by rw[t];exact((aL.new w 128 _).alloc _).alloc _ |>.alloc _
 have B2:aL W (w.heap.size+1+1) 304 [iZ 0,.nilFunc,.nilFunc,.bool false]:=by rw[t];have:=(aL.new ((w.alloc (.cells #[aJ S 0] 128)).alloc (.cells #[iZ x.u,.func x.f1 x.p1 x.k1,D,.bool true] 304)) 304 [iZ 0,.nilFunc,.nilFunc,.bool false]).alloc (.cells #[.func x.f2 x.p2 x.k2] 302);simpa only[qmx]using this
 have J:aL W (w.heap.size+1+1+1) 302 [.func x.f2 x.p2 x.k2]:=by rw[t];have:=aL.new (((w.alloc (.cells #[aJ S 0] 128)).alloc (.cells #[iZ x.u,.func x.f1 x.p1 x.k1,D,.bool true] 304)).alloc (.cells #[iZ 0,.nilFunc,.nilFunc,.bool false] 304)) 302 [.func x.f2 x.p2 x.k2];simpa only[qmx]using this
 have u:bE w W:=by rw[t];exact((((qlw _ w).alloc (qj _) _).alloc aM _).alloc rR _).alloc rR _
 have gT:W.heap.size=w.heap.size+4:=by rw[t];simp
 obtain⟨q,i⟩:=bT (fun b=>if b<w.heap.size then oZ b else if b=w.heap.size+2 then s+52 else s+47:Own);have E:Kp [] oZ q w W:=⟨u.os,u.tape,u.output,u.size,fun b a _=>u.block b a,fun b a=>by rw[i];exact bM a⟩;have Z:q w.heap.size=s+47:=by rw[i];simp
 have o2:q (w.heap.size+1+1)=s+52:=by rw[i];show(if w.heap.size+1+1<w.heap.size then oZ _ else if w.heap.size+1+1=w.heap.size+2 then s+52 else s+47)=_;rw[aV aj,bM rfl]
 have o3:q (w.heap.size+1+1+1)=s+47:=by rw[i];show(if w.heap.size+1+1+1<w.heap.size then oZ _ else if w.heap.size+1+1+1=w.heap.size+2 then s+52 else s+47)=_;rw[aV aj,aV aj]
 rw[Q]at J;have Y:kM q s W S bw bl bi F ⟨x.u,x.f1,x.p1,x.k1,.func 248,#[],#[(aJ (w.heap.size+1+1+1) 0),aJ w.heap.size 0],true⟩ H I (fun M o B=>nx M o (B-M.gZ)):=
  ⟨n1,248,P,rfl,R,enters_of func248 bO rfl,V.kp (E.mono aM),qa5 _ _ U ⟨o3,J⟩ ⟨Z,N⟩ (X.kp (E.mono aM))⟩
 have HC:Hid (WB prog 205 #[aJ S 0,.agg #[iZ x.u,.func x.f1 x.p1 x.k1,D,.bool true]] W fun e A=>∃f f1 l j f2 m k g,e=.returned (.agg #[iZ f,.func f1 l j,.func f2 m k,.bool g])/\aL A (w.heap.size+1+1) 304 [iZ 0,.nilFunc,.nilFunc,.bool false]/\Hid (f=x.u/\g=true/\∀n,l6 (w.heap.size+1+1) A n->∃p,Kp [] oZ p w n/\kM p s n S bw bl bi F ⟨f,f1,l,j,f2,m,k,g⟩ (fun M o=> !M.full&&H M o) I (fun M o B=>nx M o (B-M.gZ)))):=by
  have:=wD W Y;rw[C];refine this.mono ?_;rintro e A ⟨d,rfl,a,hu,hy,L⟩;refine⟨d.u,d.f1,d.p1,d.k1,d.f2,d.p2,d.k2,d.y,rfl,eY a B2,hu,hy,fun n z=>⟨FP q s W.heap.size,?_,?_⟩⟩;·have r:=E.trans (Dm (oZ:=q) (s:=s) a);exact⟨z.os.trans r.os,z.tape.trans r.tape,z.output.trans r.output,by rw[z.size];exact r.size,fun b K hn=>(z.block b aj).trans (r.bY b K hn),r.ext⟩
  ·refine L.kp (z.kpt (T:=Tb s) ?_);rw[Ih _ _ _ _ aj,o2];exact jD.2 aj
 clear Y E Z o2 o3 i P Q R U V X h N J u;go_enter func201,ntmps201;go_wp2_with (first|(go_at_call 205;rw[<-C,<-t];refine HC.out.mono ?_;rintro e y ⟨f,f1,l,j,f2,m,k,g,rfl,c,HP⟩;have y0:=c.cell 0;have y1:=c.cell 1;have y2:=c.cell 2;have y3:=c.cell 3;simp only[qml,qma]at y0 y1 y2 y3;have yf:=c.frozen)|go_in);have hT:=nK (w.heap.size+1+1) [iZ f,.func f1 l j,.func f2 m k,.bool g] 0 y;have G:=pU [iZ f,.func f1 l j,.func f2 m k,.bool g] 0 y _ c;have O:oQ (w.heap.size+1+1) 0 [iZ f,.func f1 l j,.func f2 m k,.bool g] y=(((y.setCell (ay (w.heap.size+1+1) 0) (iZ f)).setCell (ay (w.heap.size+1+1) 1) (.func f1 l j)).setCell (ay (w.heap.size+1+1) 2) (.func f2 m k)).setCell (ay (w.heap.size+1+1) 3) (.bool g):=rfl;rw[<-O];clear O;generalize oQ (w.heap.size+1+1) 0 [iZ f,.func f1 l j,.func f2 m k,.bool g] y=n at *
 have a0:n.cell? (ay (w.heap.size+1+1) 0)=some (iZ f):=G.cell 0;have a1:n.cell? (ay (w.heap.size+1+1) 1)=some (.func f1 l j):=G.cell 1;have a2:n.cell? (ay (w.heap.size+1+1) 2)=some (.func f2 m k):=G.cell 2;have a3:n.cell? (ay (w.heap.size+1+1) 3)=some (.bool g):=G.cell 3;obtain⟨q1,q2,q3⟩:=HP.out;obtain⟨p,q4,q5⟩:=q3 n hT;exact bodyPost_ret (v:=.agg #[iZ f,.func f1 l j,.func f2 m k,.bool g]) (by simp[results,results201,go_sem,a0,a1,a2,a3]) rfl ⟨⟨f,f1,l,j,f2,m,k,g⟩,p,rfl,q4,q1,q2,q5⟩
def rA.push{eZ:Own}{s:Nat}{w0:Wq}{S bw bl bi d:Nat}{D:Nat->Src}{p:Nat}{oZ aQ:Own}{w w':Wq}{M:av}{f:bZ}{Q a:List Nat}{L:List FV}{v v' g i:WA}(h:rA eZ s w0 S bw bl bi d D p oZ w M f Q a L v g i)(u:Nat)(e:PU oZ s w S bw bl bi d D u)(m:Bq aQ (s+45) D w' p v' (eX Q u))(K:Kp [s+45,s+45+1] oZ aQ w w'):rA eZ s w0 S bw bl bi d D p aQ w' M f (eX Q u) a L v' g i:=by have c:Kp (Tb s) oZ aQ w w':=K.mono fun x b=>jD.2 (by simp at b;omega);have k:Kp (Tg s) oZ aQ w w':=K.mono fun x b=>qm.2 (by simp at b;omega);exact⟨m,fun j l=>(Lp.push h.z h.qs u e j l).kp c,fun u e=>(h.ls u e).kp c,h.z.kp c,h.env.kp K rR aM aM,h.fr.kp K aM,fun x b=>(h.fv x b).kp K aM,h.la.kp K aM,h.kp.trans k,h.nl⟩
def rA.done{b:bZ}{a:List Nat}{d f:WA}(h:rA eZ s w0 S bw bl bi c D p oZ w M b Q a L v d f):rA eZ s w0 S bw bl bi c D p oZ w M b Q [] L v d nZ:=
 ⟨h.hq,h.qs,(fun u e=>by cases e),h.z,h.env,h.fr,h.fv,.inl ⟨rfl,rfl,rfl⟩,h.kp,h.nl⟩
def mX:∀(m l:List Nat),(m.foldl eX l).length=l.length+m.length
 |[],l=>rfl
 |u::t,l=>by show(t.foldl eX (eX l u)).length=_;rw[mX t,mW];simp;omega
def Dt(eZ:Own)(s:Nat)(w0:Wq)(S bw bl bi c:Nat)(D:Nat->Src)(p:Nat)(P:av->bZ->Prop)(X:av×bZ×List Nat×List Fr)(e:Ending)(w':Wq):Prop:=
 ∃b d a f L,e=.returned a/\L.map eB=X.2.2.2/\rA eZ s w0 S bw bl bi c D p b w' X.1 X.2.1 X.2.2.1 [] L d a f/\P X.1 X.2.1
def WG{N:Nat}(P:av->bZ->Prop)(w0:Wq)(M0:av)(FW:bZ)(Q0:List Nat)(yQ:Int)(hd:∀u:Nat,(D u).u=(u:Int))(yy:0<s)(h:rA eZ s w0 S bw bl bi N D p eZ w0 M0 FW Q0 [] [] v nZ nZ)(hr:0<=yQ/\yQ<=1000)(hQ:Q0.length<=500)(xz:P M0 FW)(xo:∀M w,P M w->Wk M/\zY w=true)(xp:∀M w u z f M' dV,P M w->u<48->M.bD w u=true->M.frame w u z=some (f,M',dV)->P M' dV/\((aX f).length:Int)<=z/\0<(aX f).length/\snd f=true/\lX f):WB prog 156 #[aJ p 0,iZ yQ] w0 fun e E=>Dt eZ s w0 S bw bl bi N D p P (fill M0 FW Q0 yQ) e E:=by
 obtain⟨X,hX⟩:=bT (fill M0 FW Q0 yQ);rw[<-hX];have HX:Hid (dU (Q0.length+yQ.toNat+1) M0 FW Q0 [] yQ []=X):=hX.symm;have HH:=aF h;have xL:=aF xo;have wO:=aF xp;have HD:=aF hd;have y9:=aF xz;have HR:=aF hr;clear hX h xo xp hd xz hr;go_enter func156,ntmps156;go_wp2;go_loopg [1,5,6] (Q0.length+yQ.toNat) (fun kx s1 s5 s6 wr=>∃(z:Int) (oZ:Own) (M:av) (w:bZ) (Q a:List Nat) (L:List FV) (v':WA),s1=(iZ z)/\Hid (rA eZ s w0 S bw bl bi N D p oZ wr M w Q a L v' s5 s6/\P M w/\0<=z/\z<=1000/\Q.length+a.length<=500/\L.length<=1000-z.toNat/\∃n,Q.length+z.toNat<n/\dU n M w Q a z (L.map eB)=X)/\Hid (Q.length+z.toNat<=kx));case atStart=>exact⟨yQ,eZ,M0,FW,Q0,[],[],v,rfl,(⟨HH.out,y9.out,HR.out.1,HR.out.2,by simpa using hQ,aM,_,qp9 _,HX.out⟩:_/\_),qj _⟩
 case round=>
  obtain⟨z,oZ,M,w,Q,a,L,v',rfl,HF,HK⟩:=hrel;obtain⟨Fs,W,he,hf,wE,h8,n,ha,yR⟩:=HF.out;cases Q with
  |nil=>
   obtain⟨qa,qc,rfl,_,_⟩:=Fs.hq.sr.shape;have x0:wr.cell? (ay p 0)=some (.slice qa 0 qc):=Fs.hq.pb.cell 0;have HL:=aF (BK qa 0 qc wr);have h7:(M,w,a.foldl eX [],L.map eB)=X:=by
    rw[<-yR];cases n with
    |zero=>omega
    |succ n=>rfl
   obtain⟨la,lc,rfl,_,_⟩:=Fs.la.shape;have UD:=aF Fs;have tZ:=aF h7;have yg:a.length<=500:=aj;clear Fs h7;go_wp2_with (first|(go_at_call 208;refine bH HL.out ?_;rintro E rfl)|go_in);go_loopw [57] (fun hg xl=>∃k:Nat,k<=a.length/\hg=(iZ k)/\Hid (∃gy K,rA eZ s w0 S bw bl bi N D p gy xl M w ((a.take k).foldl eX []) a L K u5 (.slice la a.length lc))) (fun hg _=>a.length-(eT hg).toNat);case atStart=>exact⟨0,qm2 _,rfl,oZ,_,UD.out⟩
   case round=>
    obtain⟨k,hk,rfl,HI⟩:=hrel;by_cases xe:k<a.length
    ·have xy:(k:Int)<(a.length:Int):=aj;obtain⟨gy,K,U⟩:=HI.out;obtain⟨u,hu⟩:=bT (a.getD k 0);have eu:a[k]?=some u:=by rw[hu,qly,qm3 xe];rfl
     obtain⟨q0,q1,q2,q3⟩:=pV D a k u eu;obtain⟨gg,e1,_,_,c0,_⟩:=U.la.cell _ _ q0;subst e1;obtain⟨g1,e1,_,_,c1,_⟩:=U.la.cell _ _ q1;cases e1;obtain⟨g1,e1,_,_,c2,_⟩:=U.la.cell _ _ q2;cases e1;obtain⟨g1,e1,_,_,c3,_⟩:=U.la.cell _ _ q3;cases e1;obtain⟨W3,d⟩:=bT (wr.alloc (.cells #[(iZ (D u).u),.func (D u).f1 (D u).p1 (D u).k1,.func (D u).f2 (D u).p2 (D u).k2,.bool (D u).y] 304));have O:bE wr W3:=by rw[d];exact(qlw _ wr).alloc (qj _) _
     have F3:=U.new (Kp.below O);have wE:((a.take k).foldl eX []).length<1000:=by rw[mX,qm8];omega
     have V:=aF (BL gy (s+45) D HD.out W3 p K _ u wE F3.hq);have ho:=aF F3;have HU:Hid (PU gy s W3 S bw bl bi N D u):=F3.ls u (qqb eu);have HT:Hid ((a.take (k+1)).foldl eX []=eX ((a.take k).foldl eX []) u):=by rw[qnh,eu,qnt];rfl
     generalize ((a.take k).foldl eX [])=QK at V ho HT wE;generalize (D u).u=d0 at c0 d V;generalize (D u).f1=d1 at c1 d V;generalize (D u).p1=d2 at c1 d V;generalize (D u).k1=d3 at c1 d V;generalize (D u).f2=d4 at c2 d V;generalize (D u).p2=d5 at c2 d V;generalize (D u).k2=d6 at c2 d V;generalize (D u).y=d7 at c3 d V;clear U F3 q0 q1 q2 q3 eu hu O HI;go_wp2_with (first|(go_at_call 199;rw[<-d];refine bH V.out ?_;rintro w4 HQ)|go_in);go_roundw;case rel=>obtain⟨UE,v4,xf,K4⟩:=HQ.out;exact⟨k+1,aj,aM,UE,v4,by rw[HT.out];exact ho.out.push u HU.out xf K4⟩
     case measure=>simp[eT];omega
    ·obtain rfl:k=a.length:=aj;obtain⟨gy,K,U⟩:=HI.out;rw[qp2]at U;have x9:Hid (Dt eZ s w0 S bw bl bi N D p P X (.returned u5) wr):=⟨gy,K,u5,nZ,L,rfl,by rw[<-tZ.out],by rw[<-tZ.out];exact U.done,by rw[<-tZ.out];exact W⟩;clear U HI;go_wp2;go_ret;exact x9.out
  |cons u Q=>
   obtain⟨g,c,rfl,hp,x0,x1,x2,x3,x4⟩:=Fs.head;have HL:=aF (BK (some (ay g 0)) (Q.length+1) c wr);have h9:=Fs.qs u aM;obtain⟨n1,n2,Po,hj,yr,ys,x6,x5⟩:=h9.fn;obtain⟨hm,WH⟩:=xL.out M w W;have ey:(D u).y=jN u:=h9.1.1;rw[Po]at x2;rw[hj]at x3;rw[ey]at x4;obtain⟨W3,d⟩:=bT (wr.alloc (.cells #[(iZ (D u).u),.func (.func n1) (D u).p1 (D u).k1,.func (.func n2) (D u).p2 (D u).k2,.bool (jN u)] 304));have O:bE wr W3:=by rw[d];exact(qlw _ wr).alloc (qj _) _
   have I:aL W3 wr.heap.size 304 [(iZ (D u).u),.func (.func n1) (D u).p1 (D u).k1,.func (.func n2) (D u).p2 (D u).k2,.bool (jN u)]:=by rw[d];exact aL.new wr 304 _
   have yi:wr.heap.size<W3.heap.size:=by rw[d];simp
   have K3:Kp [] oZ (loc oZ wr.heap.size) wr W3:=(uO oZ wr).trans (Kp.below O);have F3:=Fs.new K3;have C:WB prog n1 ((D u).p1++(D u).k1) W3 fun e E=>e=.returned (.bool (M.bD w u))/\bE W3 E:=x6 _ W3 M w (K3.mono aM) F3.env hm;have y1:loc oZ wr.heap.size wr.heap.size=0:=iY _ _ _ (qj _);obtain⟨m,rfl⟩:∃m,n=m+1:=⟨n-1,aj⟩;have yd:u<48:=h9.2;have z5:(0:Int)<((Q.length+1:Nat):Int):=aj;cases J:M.bD w u
   ·rw[J]at C;have A:dU m M w (mo (u::Q)) a z (L.map eB)=X:=by
     rw[<-yR];conv=>rhs;unfold dU
     simp only[J];rfl
    have Ip:Hid (∀B,bE W3 B->WB prog 209 #[.iface 250 (aJ p 0)] B fun e E=>Kk e/\Hid (∃K,rA eZ s w0 S bw bl bi N D p (loc oZ wr.heap.size) E M w (mo (u::Q)) a L K u5 u6)):=fun B l=>by have F4:=F3.new (Kp.below l);obtain⟨g',c',e',U3⟩:=F4.hq.hp aM;refine(Kl _ (s+45) D HD.out B p g' c' (u::Q) Q.length rfl (by simp at wE;omega) U3).mono ?_;rintro e E ⟨i1,i2,i3⟩;exact⟨i1,_,F4.pop i2.hq i3⟩
    have hw:=aF A;have HB:=aF (dw W (dw he (dw hf (dw wE (dw h8 ha)))));generalize (D u).u=d0 at x1 d I;generalize (D u).p1=d2 at x2 d I C;generalize (D u).k1=d3 at x2 d I C;generalize (D u).p2=d5 at x3 d I;generalize (D u).k2=d6 at x3 d I;clear Fs F3 K3 W he hf wE h8 ha yR h9 x6 x5 A HF hp J hm WH ey Po hj O;go_wp2_with (first|(go_at_call 208;refine bH HL.out ?_;rintro E rfl)|(go_at_fn n1;rw[<-d];refine bH C ?_;rintro B l)|(go_at_call 209;refine(Ip.out B l).mono ?_;rintro e w4 ⟨⟨vv,rfl⟩,y8⟩)|go_in);go_roundg (Q.length+z.toNat);case measure=>have:=HK.out;simp at this;omega
    case rel=>
     obtain⟨h1,h2,h3,h4,h5,h6⟩:=HB.out;obtain⟨K,F5⟩:=y8.out;have e1:(mo (u::Q)).length=Q.length:=by rw[Dq];simp
     have xa:(u::Q).length=Q.length+1:=rfl;exact⟨z,_,M,w,mo (u::Q),a,L,K,rfl,(⟨F5,h1,h2,h3,aj,h5,m,aj,hw.out⟩:_/\_),(by rw[e1];exact qj _:(mo (u::Q)).length+z.toNat<=Q.length+z.toNat)⟩
   ·rw[J]at C;have hc:∀B,bE W3 B->WB prog n2 ((D u).p2.push (iZ z)++(D u).k2) B fun e E=>jE (loc oZ wr.heap.size) s B S bw bl bi N M w (M.frame w u z) e E:=fun B l=>x5 _ B M w z ((K3.mono aM).trans (Kp.below l)) (F3.env.below l) hm (by show(M.bD w u&&zY w)=true;rw[J,WH];rfl) aj;cases h0:M.frame w u z with
    |some r=>
     obtain⟨f,M',dV⟩:=r;rw[h0]at hc;obtain⟨xn,hZ,xr,y0,y4⟩:=wO.out M w u z f M' dV W yd J h0;have A:dU m M' dV (u::Q) a (z-((aX f).length:Int)) (L.map eB++[f])=X:=by
      rw[<-yR];conv=>rhs;unfold dU
      simp only[J,if_true,h0]
     have Y:Hid (∀B,bE W3 B->WB prog n2 ((D u).p2.push (iZ z)++(D u).k2) B fun e E=>∃i F G H t,e=.returned (.tuple #[eF i (.slice F G H),.bool true])/\Hid (rA eZ s w0 S bw bl bi N D p t E M' dV (u::Q) a L (dh g (Q.length+1) c) u5 u6/\R_ t s E (i,F,G,H)/\i=f)):=fun B l=>by refine(hc B l).mono ?_;rintro e E ⟨x,b,t,rfl,hb,K5,E5,hx⟩;have xd:b=true:=hb;subst xd;obtain⟨q1,q2⟩:=hx _ rfl;exact⟨x.1,x.2.1,x.2.2.1,x.2.2.2,t,rfl,(F3.new (Kp.below l)).nxt K5 E5,q2,q1⟩
     have Du:Hid (∀q i F G H t,(rA eZ s w0 S bw bl bi N D p t q M' dV (u::Q) a L (dh g (Q.length+1) c) u5 u6/\R_ t s q (i,F,G,H)/\i=f)->∃a6 c6 w6,(∀ty,(fB #[54,54] ty #[u5,(dh (q.heap.size+1) 1 1)]).run prog ((q.alloc (.cells (fJ i (.slice F G H)).toArray 65)).alloc (.cells (fJ i (.slice F G H)).toArray 65))=.ok (.slice a6 (L.length+1) c6) w6)/\aL w6 q.heap.size 65 (fJ i (.slice F G H))/\qH 210 #[eF i (.slice F G H)] w6 (iZ ((aX f).length:Int)) fun E=>Hid (∃jl x,x.1=f/\rA eZ s w0 S bw bl bi N D p jl E M' dV (u::Q) a (L++[x]) (dh g (Q.length+1) c) (.slice a6 (L.length+1) c6) u6)):=by
      rintro q i F G H t ⟨F5,xx,rfl⟩;obtain⟨W5,xP⟩:=bT ((q.alloc (.cells (fJ i (.slice F G H)).toArray 65)).alloc (.cells (fJ i (.slice F G H)).toArray 65));have R:bE q W5:=by rw[xP];exact((qlw _ q).alloc (qj _) _).alloc aM _
      have b8:aL W5 q.heap.size 65 (fJ i (.slice F G H)):=by rw[xP];exact(aL.new q 65 _).alloc _
      have b9:aL W5 (q.heap.size+1) 65 (fJ i (.slice F G H)):=by rw[xP];have:=aL.new (q.alloc (.cells (fJ i (.slice F G H)).toArray 65)) 65 (fJ i (.slice F G H));rwa[qmx]at this
      have yz:q.heap.size<W5.heap.size:=by rw[xP];simp;omega
      have K5:Kp [] t (loc t q.heap.size) q W5:=(uO t q).trans (Kp.below R);have F6:=F5.new K5;have y5:=xx.kp K5 aM;obtain⟨v',w6,jl,run,hG,K6⟩:=fO qR F6.fr (ay (q.heap.size+1) 0) 1 1 (fJ i (.slice F G H)) rfl (Ie _ _ rfl) (fun j y hy=>by
       have e:(ay (q.heap.size+1) 0).add j=(ay (q.heap.size+1) j):=by rw[qmb,qm5]
       rw[e,b9.cell,hy]) aj
      obtain⟨a6,c6,rfl,_,_⟩:=hG.shape;rw[xP]at run;have F7:=F6.app (i,F,G,H) y5 K6 hG;have ym:G=i.ranges.length:=xx.len;have xi:=y5.kp K6 aM;refine⟨a6,c6,w6,run,bU b8 K6 (by rw[iY _ _ _ (qj _)];simp),?_⟩;have gT:=rT i F H w6 ⟨y0,y4,xi.qO,xi.cap,fun y hy=>(xi.bY y hy).1,aj⟩;rw[<-ym]at gT;refine bH gT ?_;rintro E ye;exact⟨rfl,jl,(i,F,G,H),rfl,F7.new (Kp.below ye)⟩
     have hw:=aF A;have HB:=aF (dw xn (dw he (dw hf (dw wE (dw h8 ha)))));generalize (aX f).length=Z at *
     have z0:IntKind.i64.wrap (z-(Z:Int))=z-(Z:Int):=by rw[qnf];omega
     have xt:Hid ((Z:Int)<=z/\0<Z):=⟨hZ,xr⟩;unfold eF at Y Du;unfold fJ at Du;generalize (D u).u=d0 at x1 d I;generalize (D u).p1=d2 at x2 d I C;generalize (D u).k1=d3 at x2 d I C;generalize (D u).p2=d5 at x3 d I Y;generalize (D u).k2=d6 at x3 d I Y;clear Fs F3 K3 W he hf wE h8 ha yR h9 x6 x5 A HF hp J hm WH ey Po hj O hc h0 xn hZ xr y0 y4;go_wp2_with (first|(go_at_call 208;refine bH HL.out ?_;rintro E WI;replace WI:=WI.symm;subst WI)|(go_at_fn n1;rw[<-d];refine bH C ?_;rintro B l;have y2:B.cell? (ay wr.heap.size 2)=some (.func (.func n2) d5 d6):=(eY l I).cell 2)|(go_at_fn n2;refine(Y.out B l).mono ?_;rintro e q ⟨i,F,G,H,t,rfl,hv⟩;obtain⟨a6,c6,w6,WJ,b6,yn⟩:=Du.out q i F G H t hv.out;obtain⟨t0,t1,t2,t3,t4,t5,t6,t7,t8,t9,tf⟩:=bC b6;clear b6)|(at_builtin;refine qmm _ rfl _ _ _ _ rfl _ _ rfl rfl _ _ (WJ _) ?_)|(go_at_call 210;refine bH yn ?_;rintro w7 x8)|go_in);go_roundg (Q.length+1+(z-(Z:Int)).toNat);case measure=>have:=HK.out;have h2:=xt.out;simp at this;omega
     case rel=>obtain⟨h1,h2,h3,h4,h5,h6⟩:=HB.out;obtain⟨jl,x,hx,F8⟩:=x8.out;have hz:=xt.out;have xa:(u::Q).length=Q.length+1:=rfl;exact⟨z-(Z:Int),jl,M',dV,u::Q,a,L++[x],_,rfl,(⟨F8,h1,aj,aj,aj,rR,m,aj,by rw[qnb];simp only[qov,List.map_nil,hx];exact hw.out⟩:_/\_),(qj _:(u::Q).length+(z-(Z:Int)).toNat<=Q.length+1+(z-(Z:Int)).toNat)⟩
    |none=>
     rw[h0]at hc;have Y:Hid (∀B,bE W3 B->WB prog n2 ((D u).p2.push (iZ z)++(D u).k2) B fun e E=>∃i F G H t,e=.returned (.tuple #[eF i (.slice F G H),.bool false])/\aL E wr.heap.size 304 [(iZ (D u).u),.func (.func n1) (D u).p1 (D u).k1,.func (.func n2) (D u).p2 (D u).k2,.bool (jN u)]/\Hid (rA eZ s w0 S bw bl bi N D p t E M w (u::Q) a L (dh g (Q.length+1) c) u5 u6/\t wr.heap.size=0)):=fun B l=>by refine(hc B l).mono ?_;rintro e E ⟨x,b,t,rfl,hb,K5,E5,hx⟩;have xd:b=false:=hb;subst xd;refine⟨x.1,x.2.1,x.2.2.1,x.2.2.2,t,rfl,bU (eY l I) K5 (by rw[y1];exact fun e=>bR (uN.1 e)),(F3.new (Kp.below l)).nxt K5 E5,by rw[K5.ext _ (qm9 yi l.size),y1]⟩
     have xj:[(iZ (D u).u),.func (.func n1) (D u).p1 (D u).k1,.func (.func n2) (D u).p2 (D u).k2,.bool (jN u)]=jP (D u):=by simp only[jP,Po,hj,ey]
     cases hn:jN u
     ·have h7:(M,w,a.foldl eX (u::Q),L.map eB)=X:=by
       rw[<-yR];conv=>rhs;unfold dU
       simp only[J,if_true,h0,hn];rfl
      have yp:Hid (∀q t o,(rA eZ s w0 S bw bl bi N D p t q M w (u::Q) a L (dh g (Q.length+1) c) u5 u6/\t wr.heap.size=0)->rA eZ s w0 S bw bl bi N D p t (q.alloc o) M w (u::Q) a L (dh g (Q.length+1) c) u5 u6):=fun q t o h=>h.1.new (Kp.below ((qlw _ q).alloc (qj _) _));rw[hn]at d I x4 Y;unfold eF at Y;obtain⟨la,lc,yk,_,_⟩:=Fs.la.shape;subst yk;have tZ:=aF h7;have yg:a.length<=500:=aj;have yv:Q.length+1+a.length<=500:=by simp at wE;omega
      have ya:=aF W;generalize (D u).u=d0 at x1 d I Y;generalize (D u).p1=d2 at x2 d I C Y;generalize (D u).k1=d3 at x2 d I C Y;generalize (D u).p2=d5 at x3 d I Y;generalize (D u).k2=d6 at x3 d I Y;clear Fs F3 K3 W he hf wE h8 ha yR h9 x6 x5 h7 HF hp J hm WH ey Po hj O hc h0 hn xj;go_wp2_with (first|(go_at_call 208;refine bH HL.out ?_;rintro E WI;replace WI:=WI.symm;subst WI)|(go_at_fn n1;rw[<-d];refine bH C ?_;rintro B l;have y2:B.cell? (ay wr.heap.size 2)=some (.func (.func n2) d5 d6):=(eY l I).cell 2)|(go_at_fn n2;refine(Y.out B l).mono ?_;rintro e q ⟨i,F,G,H,t,rfl,R,hv⟩;have y3:(q.alloc (.cells #[iZ i.aD,iZ i.aG,uZ i.aC,uZ i.aN,uZ i.aT,.bool i.bG,uZ i.id,uZ i.aH,.string i.data,.slice F G H] 65)).cell? (ay wr.heap.size 3)=some (.bool false):=(R.alloc _).cell 3;have UD:=aF (yp.out q t (.cells #[iZ i.aD,iZ i.aG,uZ i.aC,uZ i.aN,uZ i.aT,.bool i.bG,uZ i.id,uZ i.aH,.string i.data,.slice F G H] 65) hv.out);clear R)|go_in);go_loopw [57] (fun hg xl=>∃k:Nat,k<=a.length/\hg=(iZ k)/\Hid (∃gy K,rA eZ s w0 S bw bl bi N D p gy xl M w ((a.take k).foldl eX (u::Q)) a L K u5 (.slice la a.length lc))) (fun hg _=>a.length-(eT hg).toNat);case atStart=>exact⟨0,qm2 _,rfl,t,_,UD.out⟩
      case round=>
       obtain⟨k,hk,rfl,HI⟩:=hrel;by_cases xe:k<a.length
       ·have xy:(k:Int)<(a.length:Int):=aj;obtain⟨gy,K,U⟩:=HI.out;obtain⟨T,hu⟩:=bT (a.getD k 0);have eu:a[k]?=some T:=by rw[hu,qly,qm3 xe];rfl
        obtain⟨q0,q1,q2,q3⟩:=pV D a k T eu;obtain⟨gg,e1,_,_,c0,_⟩:=U.la.cell _ _ q0;subst e1;obtain⟨g1,e1,_,_,c1,_⟩:=U.la.cell _ _ q1;cases e1;obtain⟨g1,e1,_,_,c2,_⟩:=U.la.cell _ _ q2;cases e1;obtain⟨g1,e1,_,_,c3,_⟩:=U.la.cell _ _ q3;cases e1;obtain⟨W3,d⟩:=bT (wr.alloc (.cells #[(iZ (D T).u),.func (D T).f1 (D T).p1 (D T).k1,.func (D T).f2 (D T).p2 (D T).k2,.bool (D T).y] 304));have O:bE wr W3:=by rw[d];exact(qlw _ wr).alloc (qj _) _
        have F3:=U.new (Kp.below O);have wE:((a.take k).foldl eX (u::Q)).length<1000:=by rw[mX,qm8];have xa:(u::Q).length=Q.length+1:=rfl;omega
        have V:=aF (BL gy (s+45) D HD.out W3 p K _ T wE F3.hq);have ho:=aF F3;have HU:Hid (PU gy s W3 S bw bl bi N D T):=F3.ls T (qqb eu);have HT:Hid ((a.take (k+1)).foldl eX (u::Q)=eX ((a.take k).foldl eX (u::Q)) T):=by rw[qnh,eu,qnt];rfl
        generalize ((a.take k).foldl eX (u::Q))=QK at V ho HT wE;generalize (D T).u=d0 at c0 d V;generalize (D T).f1=d1 at c1 d V;generalize (D T).p1=d2 at c1 d V;generalize (D T).k1=d3 at c1 d V;generalize (D T).f2=d4 at c2 d V;generalize (D T).p2=d5 at c2 d V;generalize (D T).k2=d6 at c2 d V;generalize (D T).y=d7 at c3 d V;clear U F3 q0 q1 q2 q3 eu hu O HI;go_wp2_with (first|(go_at_call 199;rw[<-d];refine bH V.out ?_;rintro w4 HQ)|go_in);go_roundw;case rel=>obtain⟨UE,v4,xf,K4⟩:=HQ.out;exact⟨k+1,aj,aM,UE,v4,by rw[HT.out];exact ho.out.push T HU.out xf K4⟩
        case measure=>simp[eT];omega
       ·obtain rfl:k=a.length:=aj;obtain⟨gy,K,U⟩:=HI.out;rw[qp2]at U;have x9:Hid (Dt eZ s w0 S bw bl bi N D p P X (.returned u5) wr):=⟨gy,K,u5,nZ,L,rfl,by rw[<-tZ.out],by rw[<-tZ.out];exact U.done,by rw[<-tZ.out];exact ya.out⟩;clear U HI;go_wp2;go_ret;exact x9.out
     ·have A:dU m M w (mo (u::Q)) (a++[u]) z (L.map eB)=X:=by
       rw[<-yR];conv=>rhs;unfold dU
       simp only[J,if_true,h0,hn]
      have Ip:Hid (∀q t o,(rA eZ s w0 S bw bl bi N D p t q M w (u::Q) a L (dh g (Q.length+1) c) u5 u6/\t wr.heap.size=0)->aL q wr.heap.size 304 [(iZ (D u).u),.func (.func n1) (D u).p1 (D u).k1,.func (.func n2) (D u).p2 (D u).k2,.bool (jN u)]->WB prog 209 #[.iface 250 (aJ p 0)] (q.alloc o) fun e E=>Kk e/\aL E wr.heap.size 304 [(iZ (D u).u),.func (.func n1) (D u).p1 (D u).k1,.func (.func n2) (D u).p2 (D u).k2,.bool (jN u)]/\Hid (∃K,rA eZ s w0 S bw bl bi N D p t E M w (mo (u::Q)) a L K u5 u6/\PU t s E S bw bl bi N D u)):=by rintro q t o ⟨F5,o5⟩ yf;have xv:bE q (q.alloc o):=(qlw _ q).alloc (qj _) _;have F6:=F5.new (Kp.below xv);obtain⟨g',c',e',U3⟩:=F6.hq.hp aM;refine(Kl _ (s+45) D HD.out (q.alloc o) p g' c' (u::Q) Q.length rfl (by simp at wE;omega) U3).mono ?_;rintro e E ⟨i1,i2,i3⟩;exact⟨i1,bU (eY xv yf) i3 (by rw[o5];simp),_,F6.pop i2.hq i3,(F6.qs u aM).kp (i3.mono fun x hx=>jD.2 (by simp at hx;omega))⟩
      have Du:Hid (∀w5 t K,rA eZ s w0 S bw bl bi N D p t w5 M w (mo (u::Q)) a L K u5 u6->PU t s w5 S bw bl bi N D u->∃a6 c6 w6,(∀ty,(fB #[300,300] ty #[u6,dh w5.heap.size 1 1]).run prog (w5.alloc (.cells #[(iZ (D u).u),.func (.func n1) (D u).p1 (D u).k1,.func (.func n2) (D u).p2 (D u).k2,.bool (jN u)] 304))=.ok (.slice a6 (a.length+1) c6) w6)/\Hid (∃jl,rA eZ s w0 S bw bl bi N D p jl w6 M w (mo (u::Q)) (a++[u]) L K u5 (.slice a6 (a.length+1) c6))):=by
       intro w5 t K F5 yq;obtain⟨W5,xP⟩:=bT (w5.alloc (.cells #[(iZ (D u).u),.func (.func n1) (D u).p1 (D u).k1,.func (.func n2) (D u).p2 (D u).k2,.bool (jN u)] 304));have R:bE w5 W5:=by rw[xP];exact(qlw _ w5).alloc (qj _) _
       have b9:aL W5 w5.heap.size 304 (jP (D u)):=by rw[xP,<-xj];exact aL.new w5 304 _
       have F6:=F5.new (Kp.below (oZ:=t) R);obtain⟨v',w6,jl,run,hG,K6⟩:=fO qgo F6.la (ay w5.heap.size 0) 1 1 (jP (D u)) rfl (CW _) (fun j y hy=>by
        have e:(ay w5.heap.size 0).add j=(ay w5.heap.size j):=by rw[qmb,qm5]
        rw[e,b9.cell,hy]) aj
       obtain⟨a6,c6,rfl,_,_⟩:=hG.shape;rw[xP]at run;exact⟨a6,c6,w6,run,jl,F6.lat u (yq.kp (Kp.below R)) K6 hG⟩
      have hw:=aF A;have HB:=aF (dw W (dw he (dw hf (dw wE (dw h8 ha)))));rw[hn]at d I x4 Y Ip Du;unfold eF at Y;generalize (D u).u=d0 at x1 d I Y Ip Du;generalize (D u).p1=d2 at x2 d I C Y Ip Du;generalize (D u).k1=d3 at x2 d I C Y Ip Du;generalize (D u).p2=d5 at x3 d I Y Ip Du;generalize (D u).k2=d6 at x3 d I Y Ip Du;clear Fs F3 K3 W he hf wE h8 ha yR h9 x6 x5 A HF hp J hm WH ey Po hj O hc h0 hn xj;go_wp2_with (first|(go_at_call 208;refine bH HL.out ?_;rintro E WI;replace WI:=WI.symm;subst WI)|(go_at_fn n1;rw[<-d];refine bH C ?_;rintro B l;have y2:B.cell? (ay wr.heap.size 2)=some (.func (.func n2) d5 d6):=(eY l I).cell 2)|(go_at_fn n2;refine(Y.out B l).mono ?_;rintro e q ⟨i,F,G,H,t,rfl,R,hv⟩;have y3:(q.alloc (.cells #[iZ i.aD,iZ i.aG,uZ i.aC,uZ i.aN,uZ i.aT,.bool i.bG,uZ i.id,uZ i.aH,.string i.data,.slice F G H] 65)).cell? (ay wr.heap.size 3)=some (.bool true):=(R.alloc _).cell 3;have y7:=aF R;clear R)|(go_at_call 209;refine(Ip.out q t _ hv.out y7.out).mono ?_;rintro e w5 ⟨⟨vv,rfl⟩,x7,xm⟩;have k0:w5.cell? (ay wr.heap.size 0)=some (iZ d0):=x7.cell 0;have k1:w5.cell? (ay wr.heap.size 1)=some (.func (.func n1) d2 d3):=x7.cell 1;have k2:w5.cell? (ay wr.heap.size 2)=some (.func (.func n2) d5 d6):=x7.cell 2;have k3:w5.cell? (ay wr.heap.size 3)=some (.bool true):=x7.cell 3;obtain⟨K,F6,y6⟩:=xm.out;obtain⟨a6,c6,w6,WJ,x8⟩:=Du.out w5 t K F6 y6;clear x7 F6 y6 xm)|(at_builtin;refine qmm _ rfl _ _ _ _ rfl _ _ rfl rfl _ _ (WJ _) ?_)|go_in);go_roundg (Q.length+z.toNat);case measure=>have:=HK.out;simp at this;omega
      case rel=>
       obtain⟨h1,h2,h3,h4,h5,h6⟩:=HB.out;obtain⟨jl,F8⟩:=x8.out;have e1:(mo (u::Q)).length=Q.length:=by rw[Dq];simp
       have xa:(u::Q).length=Q.length+1:=rfl;exact⟨z,jl,M,w,mo (u::Q),a++[u],L,K,rfl,(⟨F8,h1,h2,h3,rR,h5,m,aj,hw.out⟩:_/\_),(by rw[e1];exact qj _:(mo (u::Q)).length+z.toNat<=Q.length+z.toNat)⟩
section
def kM.to{c d:av->bZ->Bool}(h:kM oZ s w S bw bl bi ab x c d nx)(u:Nat)(r:∀M aI,c M aI=M.bD aI u)(o:∀M aI,M.bD aI u=true->zY aI=true->d M aI=true)(q:∀M aI a,Wk M->M.frame aI u a=nx M aI a):kM oZ s w S bw bl bi ab x (fun M aI=>M.bD aI u) (fun M aI=>M.bD aI u&&zY aI) (fun M aI a=>M.frame aI u a):=by
 obtain⟨t,v,g,i,j,k,l,m⟩:=h.fn;refine⟨t,v,g,i,j,k,?_,m.mono (fun M aI e=>?_) (fun M aI a b _=>q M aI a b)⟩;·intro f y M aI K n b;have:=l f y M aI K n b;rw[r M aI]at this;exact this
 ·rw[qmg]at e;exact o M aI e.1 e.2
def Kw(h:kM oZ s w S bw bl bi ab x (fun M _=> !M.full&&M.gr.bD M.aZ) (fun M _=>M.gr.bD M.aZ) (fun M aI a=>(M.gr.next 5 0 M.aZ (a-M.gZ)).map fun x=>(x.1,{M with gr:=x.2},aI))):kM oZ s w S bw bl bi ab x (fun M aI=>M.bD aI 8) (fun M aI=>M.bD aI 8&&zY aI) (fun M aI a=>M.frame aI 8 a):=
 h.to 8 (fun M aI=>rfl) (fun M aI e _=>by
  have b:(!M.full&&M.gr.bD M.aZ)=true:=e;rw[qmg]at b;exact b.2) (fun M aI a c=>by
  rfl)
def EP(k:Nat)(f:k<8)(h:kM oZ s w S bw bl bi ab x (fun M _=> !M.full&&(M.cK k).iq) (fun M _=>(M.cK k).iq) (fun M aI a=>((M.cK k).gr.next 6 k (M.cK k).aZ (a-M.gZ)).map fun x=>(x.1,M.fT k {M.cK k with gr:=x.2},aI))):kM oZ s w S bw bl bi ab x (fun M aI=>M.bD aI (16+k)) (fun M aI=>M.bD aI (16+k)&&zY aI) (fun M aI a=>M.frame aI (16+k) a):=by
 have b:16+k-16=k:=aj;have c:∀(M:av) (aI:bZ),M.bD aI (16+k)=(!M.full&&(M.cK k).iq):=fun M aI=>by unfold av.bD;rw[aV aj,aV aj,bM aj,b]
 refine h.to (16+k) (fun M aI=>(c M aI).symm) (fun M aI e _=>?_) (fun M aI a d=>?_);·rw[c,qmg]at e;exact e.2
 ·unfold av.frame;rw[aV aj,aV aj,bM aj,b]
def Ky(k:Nat)(f:k<8)(h:kM oZ s w S bw bl bi ab x (fun M _=> !M.full&&(M.out k).nt.bD (M.out k).aB.length) (fun M _=>(M.out k).nt.bD (M.out k).aB.length) (fun M aI a=>((M.out k).nt.next k (M.out k).aB.length (a-M.gZ)).map fun x=>(x.1,M.dD k {M.out k with nt:=x.2},aI))):kM oZ s w S bw bl bi ab x (fun M aI=>M.bD aI (24+k)) (fun M aI=>M.bD aI (24+k)&&zY aI) (fun M aI a=>M.frame aI (24+k) a):=by
 have b:24+k-24=k:=aj;have c:∀(M:av) (aI:bZ),M.bD aI (24+k)=(!M.full&&(M.out k).nt.bD (M.out k).aB.length):=fun M aI=>by unfold av.bD;rw[aV aj,aV aj,aV aj,bM aj,b]
 refine h.to (24+k) (fun M aI=>(c M aI).symm) (fun M aI e _=>?_) (fun M aI a d=>?_);·rw[c,qmg]at e;exact e.2
 ·unfold av.frame;rw[aV aj,aV aj,aV aj,bM aj,b]
def WK(k:Nat)(h:kM oZ s w S bw bl bi ab x (fun M _=> !M.full&&(M.out k).bD M.aR) (fun M _=>(M.out k).bD M.aR) (fun M aI a=>((M.out k).next k a M.aR).map fun x=>(x.1,M.dD k x.2,aI))):kM oZ s w S bw bl bi ab x (fun M aI=>M.bD aI (40+k)) (fun M aI=>M.bD aI (40+k)&&zY aI) (fun M aI a=>M.frame aI (40+k) a):=by
 have b:40+k-40=k:=aj;have c:∀(M:av) (aI:bZ),M.bD aI (40+k)=(!M.full&&(M.out k).bD M.aR):=fun M aI=>by unfold av.bD;rw[aV aj,aV aj,aV aj,aV aj,aV aj,b]
 refine h.to (40+k) (fun M aI=>(c M aI).symm) (fun M aI e _=>?_) (fun M aI a _=>?_);·rw[c,qmg]at e;exact e.2
 ·unfold av.frame;rw[aV aj,aV aj,aV aj,aV aj,aV aj,b]
def SN(h:kM oZ s w S bw bl bi ab x (fun M _=> !M.full&&decide (0<M.aK.length)) (fun M _=>decide (0<M.aK.length)) (fun M aI a=>if a<M.gZ then none else M.aK.head?.map fun f=>(f,{M with aK:=M.aK.tail,qv:=Et M.qv},aI))):kM oZ s w S bw bl bi ab x (fun M aI=>M.bD aI 32) (fun M aI=>M.bD aI 32&&zY aI) (fun M aI a=>M.frame aI 32 a):=
 h.to 32 (fun M aI=>rfl) (fun M aI e _=>by have b:(!M.full&&decide (0<M.aK.length))=true:=e;rw[qmg]at b;exact b.2) (fun M aI a c=>rfl)
structure P_ (oZ:Own) (s:Nat) (w:Wq) (S bw bl bi ab:Nat) (D:Nat->Src) (p:Nat) (v:WA) (Q:List Nat) (M:av) (aI:bZ):Prop where
 qs:QsM oZ s w S bw bl bi ab D p v Q
 z:r_ oZ s w S bw bl bi ab D 0
 env:Env oZ s w S bw bl bi ab M aI
def P_.new{a:Own}{b:Wq}(h:P_ oZ s w S bw bl bi ab D p v Q M aI)(K:Kp [] oZ a w b):P_ a s b S bw bl bi ab D p v Q M aI:=
 ⟨h.qs.kp K aM aM aM,h.z.kp (K.mono aM),h.env.kp K aM aM aM⟩
def qet(w:Wq)(h:P_ oZ s w S bw bl bi ab D p v Q M aI)(x:Src)(u:Nat)(E:x.u=(u:Int))(G:x.y=jN u)(y:u∉Q)(q:u≠0)(C:Q.length<1000)(F:kM oZ s w S bw bl bi ab x (fun M aI=>M.bD aI u) (fun M aI=>M.bD aI u&&zY aI) (fun M aI A=>M.frame aI u A)):qH 199 #[aJ p 0,nM x] w (.tuple #[]) fun i=>∃c a r,P_ c s i S bw bl bi ab a p r (eX Q u) M aI/\Kp [s+45,s+46] oZ c w i:=by
 obtain⟨a,d⟩:=bT (fun j=>if j=u then x else D j:Nat->Src);have l:a u=x:=by rw[d];exact bM rfl
 have en:∀j,j≠u->a j=D j:=fun j b=>by rw[d];exact aV b
 have g:∀j:Nat,(a j).u=(j:Int):=fun j=>by
  by_cases b:j=u;·rw[b,l];exact E
  ·rw[en j b];exact h.qs.hd j
 have n:Bq oZ (s+45) a w p v Q:=⟨h.qs.hq.op,h.qs.hq.pb,by rw[Dr a D Q fun j b=>en j (fun e=>y (e▸b))];exact h.qs.hq.sr⟩;have B:∀j∈Q,r_ oZ s w S bw bl bi ab a j:=fun j b=>by have:=h.qs.hs j b;unfold r_ at this ⊢;rw[en j (fun e=>y (e▸b))];exact this
 have f:r_ oZ s w S bw bl bi ab a 0:=by have:=h.z;unfold r_ at this ⊢;rw[en 0 (fun e=>q e.symm)];exact this
 have m:r_ oZ s w S bw bl bi ab a u:=by unfold r_;rw[l];exact⟨G,F⟩
 have:=BL oZ (s+45) a g w p v Q u C n;rw[l]at this;refine bH this ?_;rintro i ⟨c,r,o,K⟩;have k:Kp [s+45,s+46] oZ c w i:=K;have t:Kp (Tb s) oZ c w i:=k.mono fun z H=>jD.2 (by simp at H;omega);exact⟨rfl,c,a,r,⟨⟨g,o,fun j b=>r_.kp (Lp.push (P:=r_ oZ s w S bw bl bi ab a) f B u m j b) t⟩,f.kp t,h.env.kp k rR aM aM⟩,k⟩
section
variable (eZ:Own) (s:Nat) (w0:Wq) (S bw bl bi ab p:Nat) (M:av) (aI:bZ)
def Qk(w:Wq)(Q:List Nat):Prop:=∃a D v,P_ a s w S bw bl bi ab D p v Q M aI/\Kp (Tb s) eZ a w0 w
def Rk(w:Wq)(Q:List Nat)(x:Src)(u:Nat)(y:Bool)(b c:av->bZ->Bool)(nx:av->bZ->Int->Option (Fr×av×bZ)):Prop:=
 ∃a D v,P_ a s w S bw bl bi ab D p v Q M aI/\Kp (Tb s) eZ a w0 w/\kM a s w S bw bl bi ab x b c nx/\x.u=(u:Int)/\x.y=y
def RkI(w:Wq)(Q:List Nat)(x:Src)(u:Nat)(b c:av->bZ->Bool)(nx:av->bZ->Int->Option (Fr×av×bZ)):Prop:=
 ∃a D v,P_ a s w S bw bl bi ab D p v Q M aI/\Kp (Tb s) eZ a w0 w/\Ii a s w S bw bl bi ab x b c nx/\x.u=(u:Int)
end

section
variable {eZ:Own} {s:Nat} {w0:Wq} {S bw bl bi ab p:Nat} {M:av} {aI:bZ}
def Qk.mk(h:Qk eZ s w0 S bw bl bi ab p M aI w Q)(j:∀c,WB prog n args w fun e b=>∃a,e=.returned (nM a)/\bE w b/\a.u=(u:Int)/\a.y=false/\kM (FP c s w.heap.size) s b S bw bl bi ab a f g nx):WB prog n args w fun e b=>∃a,e=.returned (nM a)/\Hid (Rk eZ s w0 S bw bl bi ab p M aI b Q a u false f g nx):=by obtain⟨c,D,v,k,K⟩:=h;refine(j c).mono ?_;rintro e b ⟨a,rfl,i,l,o,m⟩;have d:Kp [] c (FP c s w.heap.size) w b:=Dm i;exact⟨a,rfl,_,D,v,k.new d,K.trans (d.mono aM),m,l,o⟩
def Qk.mkI(h:Qk eZ s w0 S bw bl bi ab p M aI w Q)(j:∀c,WB prog n args w fun e b=>∃a,e=.returned (nM a)/\bE w b/\a.u=(u:Int)/\a.y=false/\Ii (FP c s w.heap.size) s b S bw bl bi ab a f g nx):WB prog n args w fun e b=>∃a,e=.returned (nM a)/\Hid (RkI eZ s w0 S bw bl bi ab p M aI b Q a u f g nx):=by obtain⟨c,D,v,k,K⟩:=h;refine(j c).mono ?_;rintro e b ⟨a,rfl,i,l,_,m⟩;have d:Kp [] c (FP c s w.heap.size) w b:=Dm i;exact⟨a,rfl,_,D,v,k.new d,K.trans (d.mono aM),m,l⟩
def RkI.beside(h:RkI eZ s w0 S bw bl bi ab p M aI w Q x u g i nx):WB prog 201 #[aJ S 0,nM x] w fun e j=>∃a,e=.returned (nM a)/\Hid (Rk eZ s w0 S bw bl bi ab p M aI j Q a u true (fun M aI=> !M.full&&g M aI) i (fun M aI l=>nx M aI (l-M.gZ))):=by obtain⟨q,D,v,m,K,o,n⟩:=h;refine(N7 w o).mono ?_;rintro e j ⟨a,k,rfl,f,b,d,c⟩;exact⟨a,rfl,k,D,v,m.new f,K.trans (f.mono aM),c,by rw[b,n],d⟩
def Rk.au{k:av->bZ->Bool}(h:Rk eZ s w0 S bw bl bi ab p M aI w Q x u y i k nx):WB prog 205 #[aJ S 0,nM x] w fun e f=>∃a,e=.returned (nM a)/\Hid (Rk eZ s w0 S bw bl bi ab p M aI f Q a u y (fun M aI=> !M.full&&i M aI) k nx):=by obtain⟨j,D,v,m,K,o,n,q⟩:=h;refine(wD w o).mono ?_;rintro e f ⟨a,rfl,l,b,d,c⟩;have g:Kp [] j (FP j s w.heap.size) w f:=Dm l;exact⟨a,rfl,_,D,v,m.new g,K.trans (g.mono aM),c,by rw[b,n],by rw[d,q]⟩
def Rk.add{e:av->bZ->Bool}(h:Rk eZ s w0 S bw bl bi ab p M aI w Q x u y e f nx)(A:y=jN u)(n:u∉Q)(c:u≠0)(m:Q.length<1000)(q:∀a,kM a s w S bw bl bi ab x e f nx->kM a s w S bw bl bi ab x (fun M aI=>M.bD aI u) (fun M aI=>M.bD aI u&&zY aI) (fun M aI l=>M.frame aI u l)):qH 199 #[aJ p 0,nM x] w (.tuple #[]) fun g=>Hid (Qk eZ s w0 S bw bl bi ab p M aI g (eX Q u)):=by obtain⟨a,D,v,o,K,t,r,d⟩:=h;refine bH (qet w o x u r (by rw[d,A]) n c m (q a t)) ?_;rintro g ⟨k,i,C,b,j⟩;exact⟨rfl,k,i,C,b,K.trans (j.mono fun z B=>jD.2 (by simp at B;omega))⟩
end


def qk(k:Nat):List Nat:=(List.range k).foldl (fun q k=>eX (eX (eX q (16+k)) (24+k)) (40+k)) (eX (eX [] 0) 8)
def Iq(k:Nat):qk (k+1)=eX (eX (eX (qk k) (16+k)) (24+k)) (40+k):=by unfold qk;rw[List.range_succ,qnt];rfl
def Pq(k x:Nat):Prop:=x=0\/x=8\/(16<=x/\x<16+k)\/(24<=x/\x<24+k)\/(40<=x/\x<40+k)
def KC:∀k,Lp (Pq k) (qk k)
 |0=>by have z:Pq 0 0:=.inl rfl;exact Lp.push (P:=Pq 0) z (Lp.push (P:=Pq 0) z (l:=[]) (fun x a=>by cases a) 0 z) 8 (.inr (.inl rfl))
 |k+1=>by
  rw[Iq];have h:Lp (Pq (k+1)) (qk k):=fun x a=>by have:=KC k x a;unfold Pq at *;omega
  have z:Pq (k+1) 0:=.inl rfl;exact Lp.push z (Lp.push z (Lp.push z h _ (by unfold Pq;omega)) _ (by unfold Pq;omega)) _ (by unfold Pq;omega)
def Dv:∀k,(qk k).length=2+3*k
 |0=>rfl
 |k+1=>by rw[Iq,mW,mW,mW,Dv k];omega
def Qa{P:Nat->Prop}(c:P 0){l:List Nat}(h:Lp P l)(u v:Nat)(d:¬P v)(a:u≠v):v∉eX l u:=fun b=>by
 have:=Lp.push (P:=fun x=>P x\/x=u) (.inl c) (fun x b=>.inl (h x b)) u (.inr rfl) v b;rcases this with h1|h1;·exact d h1
 ·exact a h1.symm
end
def Qb(oZ:Own)(s:Nat)(W:Wq)(S bw bl bi:Nat)(M:av)(a:bZ)(e:Ending)(w':Wq):Prop:=
 ∃x c,e=.returned (nM x)/\Hid (∃b,Kp [s] oZ b W w'/\Env b s w' S bw bl bi c M a/\kM b s w' S bw bl bi c x (fun M a=>M.bD a 0) (fun M a=>M.bD a 0&&zY a) (fun M a d=>M.frame a 0 d)/\x.u=0/\x.y=false)
def qeu(u:Nat):Src:=⟨(u:Int),.func 0,#[],#[],.func 0,#[],#[],false⟩
def Ob{l:bJ}(M':av){vc:WA}(c:bZ)(h:fH oZ s w S l M bw bl bi vc)(n:∀oZ W,fH oZ s W S l M bw bl bi vc->WB prog 200 #[aJ S 0] W fun e f=>Qb oZ s W S bw bl bi M' c e f):WB prog 155 #[aJ S 0] w fun e f=>∃p,e=.returned (aJ p 0)/\∃a d D v,P_ d s f S bw bl bi a D p v q0 M' c/\Kp (Tb s) oZ d w f:=by
 obtain⟨i,r⟩:=bT ((w.alloc (.cells #[] 304)).alloc (.cells #[dh w.heap.size 0 0] 300));have j:bE w i:=by rw[r];exact((qlw _ w).alloc (qj _) _).alloc aM _
 have B0:aL i w.heap.size 304 []:=by rw[r];exact(aL.new w 304 []).alloc _
 have N:aL i (w.heap.size+1) 300 [dh w.heap.size 0 0]:=by rw[r];have:=aL.new (w.alloc (.cells #[] 304)) 300 [dh w.heap.size 0 0];rwa[qmx]at this
 obtain⟨m,t⟩:=bT (fun b=>if b<w.heap.size then oZ b else if b=w.heap.size then s+45 else s+46:Own);have o0:m w.heap.size=s+45:=by rw[t];show(if w.heap.size<w.heap.size then _ else if w.heap.size=w.heap.size then s+45 else s+46)=_;rw[aV aj,bM rfl]
 have O:m (w.heap.size+1)=s+46:=by rw[t];show(if w.heap.size+1<w.heap.size then _ else if w.heap.size+1=w.heap.size then s+45 else s+46)=_;rw[aV aj,aV aj]
 have V:Kp [] oZ m w i:=⟨j.os,j.tape,j.output,j.size,fun b hb _=>j.block b hb,fun b hb=>by rw[t];exact bM hb⟩;have H:Bq m (s+45) qeu i (w.heap.size+1) (dh w.heap.size 0 0) []:=⟨O,N,.inr ⟨w.heap.size,0,[],rfl,o0,B0,aM,qj _,aj,rfl,rfl,fun v hv=>by cases hv⟩⟩;have HA:Hid (WB prog 200 #[aJ S 0] i fun e f=>∃x a,e=.returned (nM x)/\Hid (∃d,Kp [s] m d i f/\Env d s f S bw bl bi a M' c/\QsM d s f S bw bl bi a qeu (w.heap.size+1) (dh w.heap.size 0 0) []/\kM d s f S bw bl bi a x (fun M c=>M.bD c 0) (fun M c=>M.bD c 0&&zY c) (fun M c Z=>M.frame c 0 Z)/\x.u=0/\x.y=false)):=by refine(n m i (h.kp V aM)).mono ?_;rintro e f ⟨x,a,rfl,d,E,hE,g,J,hy⟩;refine⟨x,a,rfl,d,E,hE,⟨fun u=>rfl,⟨by rw[E.ext _ N.lt,O],bU N E (by rw[O];simp),H.sr.kp E aM⟩,fun u J=>by cases J⟩,g,J,hy⟩
 have R:Hid (∀(y:Wq) (x:Src) (a:Nat),(∃d,Kp [s] m d i y/\Env d s y S bw bl bi a M' c/\QsM d s y S bw bl bi a qeu (w.heap.size+1) (dh w.heap.size 0 0) []/\kM d s y S bw bl bi a x (fun M c=>M.bD c 0) (fun M c=>M.bD c 0&&zY c) (fun M c Z=>M.frame c 0 Z)/\x.u=0/\x.y=false)->qH 199 #[(aJ (w.heap.size+1) 0),nM x] y (.tuple #[]) fun f=>Hid (Qk m s i S bw bl bi a (w.heap.size+1) M' c f (eX [] 0))):=by rintro y x a ⟨d,E,hE,hq,g,J,hy⟩;refine bH (qeq y hq x 0 J hy aM aM g (.inl rfl)) ?_;rintro f ⟨gy,D2,v2,I,K2⟩;exact⟨rfl,gy,D2,v2,⟨I,I.hs 0 gP,hE.kp K2 rR aM aM⟩,(E.mono fun z hz=>jD.2 (by simp at hz;omega)).trans (K2.mono fun z hz=>jD.2 (by simp at hz;omega))⟩
 have tZ:Hid (∀f a,Qk m s i S bw bl bi a (w.heap.size+1) M' c f q0->∃a d D v,P_ d s f S bw bl bi a D (w.heap.size+1) v q0 M' c/\Kp (Tb s) oZ d w f):=by rintro f a ⟨d,D,v,hq,K⟩;exact⟨a,d,D,v,hq,(V.mono aM).trans K⟩
 clear n h H V o0 O t B0 N j;go_enter func155,ntmps155;go_wp2_with (first|(go_at_call 200;rw[<-r];refine HA.out.mono ?_;rintro e y ⟨x,a,rfl,U⟩;have Y:=aF (R.out y x a U.out))|(go_at_call 199;refine bH Y.out ?_;rintro w2 T)|(go_at_call 202;refine(T.out.mkI (u:=8) (fun oZ=>NY (oZ:=oZ) w2)).mono ?_;rintro e w3 ⟨x3,rfl,B⟩)|(go_at_call 201;refine(RkI.beside B.out).mono ?_;rintro e w4 ⟨x4,rfl,C⟩)|(go_at_call 199;refine bH (Rk.add C.out rfl gP gP gP (fun oZ g=>Kw g)) ?_;rintro w5 A)|go_in);go_loopw [17] (fun X wr=>∃k:Nat,k<=8/\X=(iZ k)/\Hid (Qk m s i S bw bl bi a (w.heap.size+1) M' c wr (qk k))) (fun X _=>8-(eT X).toNat);case atStart=>exact⟨0,aj,rfl,A.out⟩
 case round=>
  obtain⟨k,hk,rfl,HI⟩:=hrel;by_cases o:k<8
  ·have h0:(k:Int)<8:=aj;have n1:16+k∉qk k:=fun e=>by have:=KC k _ e;unfold Pq at this;omega
   have n2:24+k∉eX (qk k) (16+k):=Qa (P:=Pq k) (.inl rfl) (KC k) _ _ (by unfold Pq;omega) aj;have n3:40+k∉eX (eX (qk k) (16+k)) (24+k):=Qa (P:=fun x=>Pq k x\/x=16+k) (.inl (.inl rfl)) (Lp.push (.inl (.inl rfl)) (fun x g=>.inl (KC k x g)) _ (.inr rfl)) _ _ (by unfold Pq;omega) aj;have l1:(qk k).length<1000:=by rw[Dv];omega
   have l2:(eX (qk k) (16+k)).length<1000:=by rw[mW,Dv];omega
   have l3:(eX (eX (qk k) (16+k)) (24+k)).length<1000:=by rw[mW,mW,Dv];omega
   have q:=aF (dw n1 (dw n2 (dw n3 (dw l1 (dw l2 l3)))));have y1:Hid (true=jN (16+k)/\true=jN (24+k)/\false=jN (40+k)):=by
    unfold jN;refine⟨?_,?_,?_⟩;·rw[decide_eq_true aj,decide_eq_true aj];rfl
    ·rw[decide_eq_true aj,decide_eq_true aj];rfl
    ·rw[decide_eq_true aj,decide_eq_false aj];rfl
   clear n1 n2 n3 l1 l2 l3 A C B T U Y;go_wp2_with (first|(go_at_call 203;refine(HI.out.mkI (u:=16+k) (fun oZ=>Ij (oZ:=oZ) k o wr)).mono ?_;rintro e v1 ⟨z1,rfl,F⟩)|(go_at_call 201;refine(RkI.beside F.out).mono ?_;rintro e v2 ⟨z2,rfl,G⟩;clear F)|(go_at_call 199;refine bH (Rk.add G.out y1.out.1 q.out.1 aj q.out.2.2.2.1 (fun oZ g=>EP k o g)) ?_;rintro v3 Q;clear G)|(go_at_call 204;refine(Q.out.mkI (u:=24+k) (fun oZ=>NZ (oZ:=oZ) k o v3)).mono ?_;rintro e v4 ⟨z4,rfl,H4⟩)|(go_at_call 201;refine(RkI.beside H4.out).mono ?_;rintro e v5 ⟨z5,rfl,H5⟩;clear H4)|(go_at_call 199;refine bH (Rk.add H5.out y1.out.2.1 q.out.2.1 aj q.out.2.2.2.2.1 (fun oZ g=>Ky k o g)) ?_;rintro v6 H6;clear H5)|(go_at_call 206;refine(H6.out.mk (u:=40+k) (fun oZ=>mk_data (oZ:=oZ) k o v6)).mono ?_;rintro e v7 ⟨z7,rfl,H7⟩)|(go_at_call 205;refine(Rk.au H7.out).mono ?_;rintro e v8 ⟨z8,rfl,H8⟩;clear H7)|(go_at_call 199;refine bH (Rk.add H8.out y1.out.2.2 q.out.2.2.1 aj q.out.2.2.2.2.2 (fun oZ g=>WK k g)) ?_;rintro v9 H9;clear H8)|go_in);go_roundw;case rel=>exact⟨k+1,aj,aM,(by rw[Iq];exact H9.out:Qk m s i S bw bl bi a (w.heap.size+1) M' c _ (qk (k+1)))⟩
   case measure=>simp[eT];omega
  ·obtain rfl:k=8:=aj;have n32:32∉qk 8:=fun e=>by have:=KC 8 _ e;unfold Pq at this;omega
   have L:(qk 8).length<1000:=by rw[Dv];omega
   have q:=aF (dw n32 L);clear n32 L A C B T U Y;go_wp2_with (first|(go_at_call 207;refine(HI.out.mk (u:=32) (fun oZ=>Ik (oZ:=oZ) wr)).mono ?_;rintro e v1 ⟨z1,rfl,F⟩)|(go_at_call 205;refine(Rk.au F.out).mono ?_;rintro e v2 ⟨z2,rfl,G⟩;clear F)|(go_at_call 199;refine bH (Rk.add G.out rfl q.out.1 gP q.out.2 (fun oZ g=>SN g)) ?_;rintro v3 Q;clear G)|go_in);go_ret;exact⟨w.heap.size+1,rfl,tZ.out _ a Q.out⟩
def Dj(vs:bJ):Prop:=∀i j,i<j->j<vs.length->∀k,(vs.getD i Vh).ownBlock=some k->(vs.getD j Vh).ownBlock≠some k
def WL(oZ:Own)(s:Nat)(w:Wq)(vs:bJ)(a:List (List UInt8)):Prop:=
 vs.length=a.length/\(∀j,j<vs.length->lG w (vs.getD j Vh) (a.getD j [])/\∀k,(vs.getD j Vh).ownBlock=some k->oZ k=s+47/\k<w.heap.size)/\Dj vs
def WL.kp{aQ:Own}{w':Wq}{T:List Nat}(h:WL oZ s w vs d)(K:Kp T oZ aQ w w')(m:s+47∉T):WL aQ s w' vs d:=by
 refine⟨h.1,fun j n=>?_,h.2.2⟩;obtain⟨b,a⟩:=h.2.1 j n;refine⟨?_,fun k c=>⟨by rw[K.ext k (a k c).2,(a k c).1],qm9 (a k c).2 K.size⟩⟩;rcases b with b|⟨g,cap,f,e,l,i⟩;·exact .inl b
 ·exact .inr ⟨g,cap,f,e,bU l K (by rw[(a g (by rw[e];rfl)).1];exact m),i⟩
def WL.add(h:WL oZ s w vs d)(v:WA)(b:List UInt8)(n:lG w v b)(p:∀k,v.ownBlock=some k->oZ k=s+47/\k<w.heap.size)(o:∀k,v.ownBlock=some k->∀j,j<vs.length->(vs.getD j Vh).ownBlock≠some k):WL oZ s w (vs++[v]) (d++[b]):=by
 refine⟨by rw[qm0,qm0,h.1];rfl,fun j c=>?_,fun i j f c k g=>?_⟩;rotate_left
 ·have m:i<vs.length:=by rw[qm0]at c;simp at c;omega
  rw[qly,qmw m,<-qly]at g;by_cases a:j<vs.length;·rw[qly,qmw a,<-qly];exact h.2.2 i j f a k g
  ·have e:j=vs.length:=by rw[qm0]at c;simp at c;omega
   subst e;rw[qly,qn0 (qj _)];simp only[qnk,qml,qpw];exact fun e=>o k e i m g
 rw[qm0]at c;by_cases a:j<vs.length;·rw[qly,qmw a,<-qly,qly (l:=d++[b]),qmw (by rw[<-h.1];exact a),<-qly];exact h.2.1 j a
 ·have e:j=vs.length:=by simp at c;omega
  subst e;rw[qly,qn0 (qj _),qly (l:=d++[b]),h.1,qn0 (qj _)];simp only[qnk,qml,qpw];exact⟨n,p⟩
def rA.O_{z:Nat}{y:bZ}{f:List Nat}{F:WA}{l:Option Addr}{t:Nat}(h:rA eZ s w0 S bw bl bi z D p oZ w M y Q f L v (.slice l n t) F)(r:∀x∈L,lX x.1)(G:0<L.length):n=L.length/\Rd 10 w (.slice l L.length t) L.length (rz L)/\yE w l L/\nC w l (L.map eB) (fun j=>(L.getD j iP).2.1) (fun j=>(L.getD j iP).2.2.2)/\(∀x,l=some x->oZ x.block=s+50)/\(∀j x,(L.getD j iP).2.1=some x->oZ x.block=s+49):=by
 have q:=h.fr;rcases q with⟨o,u,_⟩|⟨g,cap,cs,o,u,h3,h4,h5,h6,h7,h8,h9⟩;·omega
 ·simp only[qn4]at o;obtain⟨rfl,rfl,rfl⟩:=o;have a:∀j k,j<L.length->k<10->w.cell? (ay g (0+j*10+k))=(fJ (L.getD j iP).1 (qx (L.getD j iP)))[k]?:=fun j k b E=>by rw[h3.cell,<-Ic L j k b E,<-h8,qm6,bM aj,qm5]
  have B:yE w (some (ay g 0)) L:=fun j b=>⟨g,0,rfl,fun i C=>a j i b C⟩;refine⟨rfl,h.fr.rd,B,fun j b=>?_,fun x c=>by cases c;exact u,fun j x c=>?_⟩
  ·rw[qmc]at b;have c:L.getD j iP∈L:=by rw[qly,qm3 b];exact qmz _
   have hF:=h.fv _ c;have m:=r _ c;have e:(L.map eB).getD j iL=(L.getD j iP).1:=by rw[qly,qly,qn8,qm3 b];rfl
   have A:w.cell? (ay g (0+j*10+9))=some (.slice (L.getD j iP).2.1 (L.getD j iP).1.ranges.length (L.getD j iP).2.2.2):=by rw[a j 9 b aj];show some (qx (L.getD j iP))=_;unfold qx;rw[hF.len]
   refine⟨g,0,rfl,?_,?_,fun x d=>(hF.bY x d).1⟩;·rw[e];exact⟨a j 0 b aj,a j 1 b aj,a j 2 b aj,a j 3 b aj,a j 4 b aj,a j 5 b aj,a j 6 b aj,a j 7 b aj,a j 8 b aj,A,hF.qO,m.Bb,m.Bc,m.k0,m.s0,m.u0⟩
   ·rw[e];exact hF.cap
  ·by_cases b:j<L.length
   ·have d:L.getD j iP∈L:=by rw[qly,qm3 b];exact qmz _
    exact((h.fv _ d).bY x c).2.1
   ·rw[qly,qn7 aj]at c;cases c
def yT:∀(n:Nat) (M:av) (b:bZ) (Q a:List Nat) (c:Int) (l:List Fr),Lq Q->Lq a->Lq (dU n M b Q a c l).2.2.1/\(dU n M b Q a c l).2.2.1.length<=Q.length+a.length
 |0,M,b,Q,a,c,l,h1,h2=>⟨Lq.qW _ h1 h2,by show(a.foldl eX Q).length<=_;rw[mX];exact qj _⟩
 |n+1,M,b,[],a,c,l,h1,h2=>⟨Lq.qW _ h1 h2,by show(a.foldl eX []).length<=_;rw[mX];exact qj _⟩
 |n+1,M,b,u::Q,a,c,l,h1,h2=>by
  have d:(mo (u::Q)).length=Q.length:=by rw[Dq];simp
  unfold dU;by_cases e:M.bD b u=true
  ·simp only[e,if_true];cases hF:M.frame b u c with
   |none=>
    simp only;split;·have:=yT n M b (mo (u::Q)) (a++[u]) c l h1.pop (h2.app fun x i=>by rw[qmi.1 i];exact h1 u aM);refine⟨this.1,qlz this.2 ?_⟩;rw[d,qm0];simp;omega
    ·exact⟨Lq.qW _ h1 h2,by show(a.foldl eX (u::Q)).length<=_;rw[mX];exact qj _⟩
   |some x=>obtain⟨f,g,h⟩:=x;exact yT n g h (u::Q) a _ _ h1 h2
  ·simp only[e];have:=yT n M b (mo (u::Q)) a c l h1.pop h2;refine⟨this.1,qlz this.2 ?_⟩;rw[d,qmp];omega
def P_.fis{b:bZ}(h:P_ oZ s w S bw bl bi c D p v Q M b)(d:Lq Q):rA oZ s w S bw bl bi c D p oZ w M b Q [] [] v nZ nZ:=
 ⟨h.qs.hq,fun u a=>⟨h.qs.hs u a,d u a⟩,(fun u a=>by cases a),⟨h.z,aj⟩,h.env,.inl ⟨rfl,rfl,rfl⟩,(fun x e=>by cases e),.inl ⟨rfl,rfl,rfl⟩,Kp.refl _ _ _,fun _=>rfl⟩
def SQ(n:Nat):(fA (Value.slice none 0 0).cells n).toList.length=n:=by simp[fA,Value.cells]
def SV(n:Nat):∀v∈(fA (Value.slice none 0 0).cells n).toList,v.oneCell'=true:=by intro v a;simp[fA,Value.cells]at a;obtain⟨i,_,rfl⟩:=a;have:i % 1=0:=aj;rw[this];rfl
def qjf:GK 131 60 nZ 1 24:=⟨bO,bO,fun n=>by rw[SQ];omega,SV,aj⟩
def pkB(l:List (Nat×List Fr)):List (List UInt8):=l.map fun x=>bP x.1 x.2
structure Mv (Bv:Own) (s:Nat) (wW:Wq) (S bw bl bi ab:Nat) (D:Nat->Src) (p:Nat) (oZ:Own) (w:Wq) (M:av) (aI:bZ) (Q:List Nat) (vl:WA) (vs:bJ) (pk:List (Nat×List Fr)):Prop where
 qz:∃v,P_ oZ s w S bw bl bi ab D p v Q M aI
 lq:Lq Q
 ql:Q.length<=500
 gd:Gd oZ w
 li:GT oZ (s+52) 60 1 w vl vs.length vs
 ps:WL oZ s w vs (pkB pk)
 kp:Kp (Tb s) Bv oZ wW w
structure PkP (P:av->bZ->Prop) (μ:av->bZ->Nat):Prop where
 wk:∀M aI,P M aI->Wk M/\zY aI=true
 fr:∀M aI u au f M' dV,P M aI->u<48->M.bD aI u=true->M.frame aI u au=some (f,M',dV)->P M' dV/\((aX f).length:Int)<=au/\0<(aX f).length/\snd f=true/\lX f
 nm:∀M aI,P M aI->M.bF<=400/\M.next<4611686018427387903/\0<=M.au/\M.au<=1000/\∀x∈M.bf,x.1<M.next
 pk:∀M aI Q,P M aI->Lq Q->(fill M aI Q M.au).2.2.2≠[]->P ((fill M aI Q M.au).1.dO (fill M aI Q M.au).2.2.2) (fill M aI Q M.au).2.1/\μ ((fill M aI Q M.au).1.dO (fill M aI Q M.au).2.2.2) (fill M aI Q M.au).2.1<μ M aI/\
  rG M.next (fill M aI Q M.au).2.2.2=true/\(fQ M.next (fill M aI Q M.au).2.2.2).length<=1000000000/\(fill M aI Q M.au).2.2.2.length<=1000/\∀f∈(fill M aI Q M.au).2.2.2,lX f
def Mv.fill{g:Own}{s:Nat}{q:Wq}{S bw bl bi d:Nat}{D:Nat->Src}{p:Nat}{oZ:Own}{w:Wq}{M:av}{a:bZ}{Q:List Nat}{n:WA}{vs:bJ}{j:List (Nat×List Fr)}{P:av->bZ->Prop}{μ:av->bZ->Nat}(h:Mv g s q S bw bl bi d D p oZ w M a Q n vs j)(f:P M a)(b:PkP P μ):WB prog 156 #[aJ p 0,iZ M.au] w fun e o=>Dt oZ s w S bw bl bi d D p P (Sd.fill M a Q M.au) e o:=by obtain⟨v,c⟩:=h.qz;obtain⟨_,_,k,m,_⟩:=b.nm M a f;obtain⟨l,r,i,_⟩:=c.env;exact WG P w M a Q M.au c.qs.hd i.s0 (c.fis h.lq) ⟨k,m⟩ h.ql f b.wk b.fr
def qaa(h:lG w v b):v.oneCell'=true:=by rcases h with⟨rfl,_⟩|⟨g,cap,cs,rfl,_⟩<;>rfl
def qev(h:lG w v b):∀k,v.ownBlock=some k->k<w.heap.size:=by
 rcases h with⟨rfl,_⟩|⟨g,cap,cs,rfl,hB,_⟩;·intro k a;cases a
 ·intro k a;simp[Value.ownBlock]at a;rw[<-a];exact hB.lt
def Mv.dO{Bv:Own}{s:Nat}{wW:Wq}{S bw bl bi K:Nat}{D:Nat->Src}{p:Nat}{oZ:Own}{w I:Wq}{M:av}{b:bZ}{Q:List Nat}{vl:WA}{vs:bJ}{pk:List (Nat×List Fr)}{P:av->bZ->Prop}{μ:av->bZ->Nat}(h:Mv Bv s wW S bw bl bi K D p oZ w M b Q vl vs pk)(hp:P M b)(R:PkP P μ)(E:(Sd.fill M b Q M.au).2.2.2≠[])(fl:WA)(hf:Dt oZ s w S bw bl bi K D p P (Sd.fill M b Q M.au) (.returned fl) I):WB prog 158 #[aJ S 0,fl] I fun e q=>∃v,e=.returned v/\Hid (v.oneCell'=true/\∃o,Mv Bv s wW S bw bl bi K D p o q ((Sd.fill M b Q M.au).1.dO (Sd.fill M b Q M.au).2.2.2) (Sd.fill M b Q M.au).2.1 (Sd.fill M b Q M.au).2.2.1 vl vs pk/\lG q v (bP M.next (Sd.fill M b Q M.au).2.2.2)/\∀k,v.ownBlock=some k->o k=s+47/\k<q.heap.size/\∀j,j<vs.length->(vs.getD j Vh).ownBlock≠some k):=by
 obtain⟨c1,c2,c3,c4,c5,c6⟩:=R.pk M b Q hp h.lq E;have i:(Sd.fill M b Q M.au).1.next=M.next:=uJ _ b Q [] M.au []
 have wE:=yT (Q.length+M.au.toNat+1) M b Q [] M.au [] h.lq (fun x f=>by cases f);have h2:Sd.fill M b Q M.au=dU (Q.length+M.au.toNat+1) M b Q [] M.au []:=rfl;rw[<-h2]at wE;generalize Sd.fill M b Q M.au=X at *
 obtain⟨M2,G,Q2,fs⟩:=X;simp only at *
 obtain⟨gy,v2,h5,vt,L,e0,g,F,m⟩:=hf;cases e0;simp only at g F m;obtain⟨fa,fc,rfl,_,_⟩:=F.fr.shape;have C:0<L.length:=by
  cases L with
  |nil=>exact absurd g.symm E
  |cons a t=>simp
 have h6:L.length=fs.length:=by rw[<-g,qmc]
 obtain⟨_,h3,V,U,Y,Z⟩:=F.O_ (fun x f=>c6 x.1 (by rw[<-g];exact qqc f)) C;obtain⟨l,vc,y,hA⟩:=F.env;obtain⟨_,d2,_,_,d5⟩:=R.nm M2 G m;obtain⟨hW,_⟩:=R.wk M2 G m;have B:Gd gy I:=h.gd.kp F.kp (fun e=>hwZ (qm.1 e) y.s0);have hc:=SK L fc _ _ y B d2 d5 hW.wl C aj h3 V U (fun x f T=>(F.fv x f).nil (fun e=>by unfold Ig at T;rw[e]at T;simp at T)) (fun x f e=>by have:=Y x f;rw[e,y.ow]at this;omega) (fun j x f e=>by have:=Z j x f;rw[e,y.ow]at this;omega) (by rw[g,i];exact c3) (by rw[g,i];exact c4);refine hc.mono ?_;rintro e q ⟨v,rfl,c,d,o,l3,h4,A,r,h0⟩;rw[g,i]at c;rw[g]at A;have J:Kp (Tb s) gy o I q:=r.mono fun z hz=>jD.2 (by simp at hz;omega);have n:∀z,z∈[s,s+42]->z=s\/z=s+42:=fun z hz=>by simpa using hz
 have O:s+52∉Tg s:=fun e=>bR (qm.1 e);have N:s+47∉Tb s:=fun e=>bR (jD.1 e);have H:Kp (Tb s) oZ o w q:=(F.kp.mono (qdb s)).trans J;refine⟨v,rfl,qaa c,o,⟨⟨v2,⟨⟨?_,F.hq.kp r (fun z=>bR (n _ z)) (fun z=>bR (n _ z)),fun u hu=>((F.qs u hu).1.kp J)⟩,F.z.1.kp J,⟨l3,h4,A,hA.kp r (fun z=>bR (n _ z)) (fun z=>bR (n _ z))⟩⟩⟩,wE.1,?_,B.kp r (fun z=>hwZ (n _ z) y.s0),(h.li.kp F.kp O).kp r (fun z=>bR (n _ z)),h.ps.kp H N,h.kp.trans H⟩,c,fun k W=>⟨h0 k W,qev c k W,fun j hj e=>by have:=(h.ps.2.1 j hj).2 k e;have:=d k W;have:=F.kp.size;omega⟩⟩;·obtain⟨v,hq⟩:=h.qz;exact hq.qs.hd
 ·have:=wE.2;have:=h.ql;simp at *
  omega
end Go.Proofs.YtphbledmopchnaaGreatDoor.Sd
namespace Go.Proofs.YtphbledmopchnaaGreatDoor.Sd
open St Tryz
variable {A A' B M:av}
def zZ{o o':Ot}{k:Nat}{i:Int}{d:Nat}{f:Fr}(h:o.next k i d=some (f,o')):o'=({o with dB:=max o.dB (bL f)}:Ot).aw f/\f.aT=0/\f.aN=0/\f.id=0/\f.aH=0/\f.ranges=[]:=by
 unfold Ot.next at h;simp only at h;split at h;·cases h
 ·rename_i g j;split at h;·cases h
  ·have e:=qmn h;have b:({g with bG:=o.iR (bL g)}:Fr)=f:=congrArg eB e;have c:=congrArg Prod.snd e;simp only at c;obtain⟨n,_,a⟩:=yt j;refine⟨?_,?_⟩;·rw[<-c,<-b];rfl
   ·rw[<-b,a];exact⟨rfl,rfl,rfl,rfl,rfl⟩
structure FrG (f:Fr):Prop where
 sn:snd f=true
 ok:lX f
 kd:f.aD=2\/f.aD=7\/UF f
 sz:0<(aX f).length
def AA(a:List (List UInt8)):∀k,0<k->0<(a.getD 0 []).length->0<(dR a k).length
 |0,h,_=>absurd h (qoh _)
 |1,_,h=>by simpa[dR]using h
 |k+2,_,h=>by have:=AA a (k+1) aj h;show 0<(dR a (k+1)++_).length;rw[qm0];omega
def lU(f:Fr):0<(aX f).length:=by
 unfold aX;refine AA _ _ ?_ ?_
 ·unfold dz;repeat' split
  all_goals decide
 ·unfold dz;repeat' split
  all_goals simp[dx]
def WR(B:gM A)(d:Bd A)(b dV:bZ)(u:Nat)(s:Int)(f:Fr)(Q:u<48)(H:Dn b)(h8:b.length<=8)(i:A.bD b u=true)(h:A.frame b u s=some (f,A',dV)):Bd A'/\FrG f/\A'.bf=A.bf/\A'.next=A.next/\A'.bF=A.bF/\A'.aW=A.aW/\(f.aD=2/\dV.length<b.length\/f.aD≠2/\dV=b/\A.bf.length<12):=by
 obtain⟨_,f2,_,_,_⟩:=Dy B b dV u s f Q H i h;have z:0<18446744073709551616:=gP;have v:dH<18446744073709551616:=gP;unfold av.frame at h;unfold av.bD at i;by_cases u0:u=0
 ·rw[bM u0]at h;split at h;·cases h
  ·rename_i P;have e:=qmn h;have k:dS (b.take (fP b s b.length))=f:=congrArg eB e;have m:A=A':=congrArg (fun x=>x.2.1) e;have n:b.drop (fP b s b.length)=dV:=congrArg (fun x=>x.2.2) e;subst m;refine⟨d,⟨f2,?_,.inl (by rw[<-k];rfl),lU f⟩,rfl,rfl,rfl,rfl,.inl ⟨by rw[<-k];rfl,?_⟩⟩;·rw[<-k];exact⟨by simp only[dS,qm8];omega,qm2 _,by simp only[dS];omega,by simp only[dS];omega,⟨z,z,z,z,z⟩,fun j p=>by have C:=(H.take (fP b s b.length)).at j p;unfold uz at C;simp only[qmg]at C;have W:=of_decide_eq_true C.1.1;have X:=of_decide_eq_true C.1.2;exact⟨by simp only[dS];omega,by simp only[dS];omega⟩⟩
   ·rw[<-n,qms];have h0:b.length≠0:=fun N=>P (by
     have:b=[]:=qn9.1 N;rw[this];rfl)
    omega
 ·rw[aV u0]at h i;simp only[qmg,qok]at i;have a:A.bf.length<12:=by
   have:=i.1;unfold av.full at this;have:=of_decide_eq_false this;omega
  replace i:=i.2;by_cases u8:u=8
  ·rw[bM u8]at h;obtain⟨⟨f1,F⟩,o,e⟩:=qmj.1 h;have k:f1=f:=congrArg eB e;have m:{A with gr:=F}=A':=congrArg (fun x=>x.2.1) e;have n:b=dV:=congrArg (fun x=>x.2.2) e;obtain⟨l,E⟩:=rM o;have c:A.gr.jS A.aZ<=dH:=qo9 _ _;rw[k]at l;subst m;refine⟨d.sj _ ?_,⟨f2,?_,.inr (.inr ?_),lU f⟩,rfl,rfl,rfl,rfl,.inr ⟨by rw[l];simp[lW],n.symm,a⟩⟩;·rw[E];exact Od.aw (g:={A.gr with dX:=A.gr.jS A.aZ}) ⟨d.g.1,c,d.g.2.2⟩ _ c
   ·rw[l];exact⟨qm2 _,qm2 _,by simp only[lW];omega,by simp only[lW];omega,⟨z,z,qoq c v,z,z⟩,fun j p=>absurd p (qmy _)⟩
   ·rw[l];exact⟨by simp only[lW];omega,(fun h=>by cases h),c,qm2 _,.inr (.inl rfl)⟩
  ·rw[aV u8]at h i;by_cases u24:u<24
   ·rw[bM u24]at h;obtain⟨⟨f1,F⟩,o,e⟩:=qmj.1 h;have k:f1=f:=congrArg eB e;have m:A.fT (u-16) {A.cK (u-16)with gr:=F}=A':=congrArg (fun x=>x.2.1) e;have n:b=dV:=congrArg (fun x=>x.2.2) e;obtain⟨l,E⟩:=rM o;have c:(A.cK (u-16)).gr.jS (A.cK (u-16)).aZ<=dH:=qo9 _ _;rw[k]at l;subst m;have G:u-16<8:=aj;refine⟨d.fT _ _ ((d.i _).gr' _ ?_),⟨f2,?_,.inr (.inr ?_),lU f⟩,rfl,rfl,rfl,rfl,.inr ⟨by rw[l];simp[lW],n.symm,a⟩⟩;·rw[E];exact Od.aw (g:={(A.cK (u-16)).gr with dX:=(A.cK (u-16)).gr.jS (A.cK (u-16)).aZ}) ⟨(d.i _).g.1,c,(d.i _).g.2.2⟩ _ c
    ·rw[l];exact⟨qm2 _,qm2 _,by simp only[lW];omega,by simp only[lW];omega,⟨z,z,qoq c v,z,z⟩,fun j p=>absurd p (qmy _)⟩
    ·rw[l];exact⟨by simp only[lW];omega,(fun h=>by cases h),c,qm2 _,.inr (.inr (.inl rfl))⟩
   ·rw[aV u24]at h i;by_cases u32:u<32
    ·rw[bM u32]at h i;obtain⟨⟨f1,y⟩,o,e⟩:=qmj.1 h;have k:f1=f:=congrArg eB e;have m:A.dD (u-24) {A.out (u-24)with nt:=y}=A':=congrArg (fun x=>x.2.1) e;have n:b=dV:=congrArg (fun x=>x.2.2) e;unfold Nt.bD at i;simp only[qmg]at i;have w:=B.wr (u-24);have z2:=w.sz;obtain⟨_,Y,Z⟩:=w.gv i.1;have G:u-24<8:=aj;subst k m;unfold Nt.next at o;split at o;·cases o
     ·have l:nD (u-24) (A.out (u-24)).nt.aC (A.out (u-24)).aB.length=f1:=congrArg eB (qmn o);subst l;have hM:2048<=dH:=gP;refine⟨d.dD _ _ ⟨(d.o _).b,(d.o _).a,(d.o _).c⟩,⟨f2,?_,.inr (.inr ⟨?_,(fun h=>by cases h),qm2 _,?_,.inr (.inr (.inr rfl))⟩),lU _⟩,rfl,rfl,rfl,rfl,.inr ⟨by simp[nD],n.symm,a⟩⟩;·exact⟨qm2 _,qm2 _,by simp only[nD];omega,by simp only[nD];omega,⟨by simp only[nD];omega,by simp only[nD];omega,z,z,z⟩,fun j p=>absurd p (qmy _)⟩
      ·simp only[nD];omega
      ·simp only[nD];omega
    ·rw[aV u32]at h i;by_cases t:u=32
     ·rw[bM t]at h i;split at h;·cases h
      ·obtain⟨g,O,e⟩:=qmj.1 h;have k:g=f:=congrArg eB e;have m:{A with aK:=A.aK.tail,qv:=Et A.qv}=A':=congrArg (fun x=>x.2.1) e;have n:b=dV:=congrArg (fun x=>x.2.2) e;subst k m;have q:=B.q g (List.mem_of_mem_head? O);exact⟨d.q _ _ A.least,⟨f2,q.ok,.inr (.inl q.kd),lU g⟩,rfl,rfl,rfl,rfl,.inr ⟨by rw[q.kd];decide,n.symm,a⟩⟩
     ·rw[aV t]at h i;obtain⟨⟨f1,S⟩,o,e⟩:=qmj.1 h;have k:f1=f:=congrArg eB e;have m:A.dD (u-40) S=A':=congrArg (fun x=>x.2.1) e;have n:b=dV:=congrArg (fun x=>x.2.2) e;subst k m;obtain⟨y,I,J,R,_⟩:=BF (B.wr _) i o;obtain⟨T,K,L,U,V,M⟩:=zZ o;have r:bL f1<=2048:=qlz J.b R.sz;have D:xk f1:=⟨by unfold bL at r;omega,r,J.ne⟩;have G:u-40<8:=aj;refine⟨d.dD _ _ ?_,⟨f2,?_,.inr (.inr ?_),lU f1⟩,rfl,rfl,rfl,rfl,.inr ⟨by rw[y];decide,n.symm,a⟩⟩;·rw[T];exact⟨(d.o _).b,yV (d.o _).a D,(d.o _).c⟩
      ·exact⟨by rw[M];exact qm2 _,D.d,by rw[y];omega,by rw[I];omega,⟨bR D.o,by rw[L];exact z,by rw[K];exact z,by rw[U];exact z,by rw[V];exact z⟩,fun j p=>by rw[M]at p;exact absurd p (qmy _)⟩
      ·exact⟨by rw[I];omega,fun _=>D,by rw[K];exact qm2 _,by rw[L];exact qm2 _,.inl y⟩
def Qd(c:gM A)(q:eH A B)(t:eH B A)(w:Bd A)(a dV:bZ)(u:Nat)(b:Int)(f:Fr)(d:u<48)(g:Dn a)(v:a.length<=8)(x:∀r∈a,r.2<B.next)(e:A.bD a u=true)(h:A.frame a u b=some (f,A',dV)):(gM A'/\eH A' B/\eH B A'/\Bd A')/\Dn dV/\(∀r∈dV,r.2<B.next)/\((aX f).length:Int)<=b/\FrG f/\A'.bf=A.bf/\A'.next=A.next/\A'.bF=A.bF/\(f.aD=2/\dV.length<a.length\/f.aD≠2/\dV=a/\A.bf.length<12):=by obtain⟨s,_,y⟩:=JE c q t a dV u b f d x e h;obtain⟨o,_,p,_,_⟩:=Dy c a dV u b f d g e h;obtain⟨i,j,k,l,m,_,n⟩:=WR c w a dV u b f d g v e h;exact⟨⟨s.loc,s.ab,s.ba,i⟩,p,y,o,j,k,l,m,n⟩
def Qe(l:List Fr):Nat:=(l.map fun f=>(aX f).length).sum
structure FlB (B A:av) (aI:bZ) (au:Int) (l:List Fr) (x:av×bZ×List Nat×List Fr) (m:List Fr):Prop where
 loc:gM x.1
 ab:eH x.1 B
 ba:eH B x.1
 bd:Bd x.1
 dn:Dn x.2.1
 ln:x.2.1.length<=aI.length
 hi:∀r∈x.2.1,r.2<B.next
 q:Lq x.2.2.1
 eq:x.2.2.2=l++m
 fs:∀f∈m,FrG f
 sz:(Qe m:Int)<=au
 wy:x.1.bf=A.bf
 mt:x.1.bF=A.bF
 wf:fD m=true->A.bf.length<12
 ac:m≠[]->fD m=false->x.2.1.length<aI.length
def su:∀(n:Nat) {A B:av} (aI:bZ) (Q later:List Nat) (au:Int) (l:List Fr),gM A->eH A B->eH B A->Bd A->Dn aI->aI.length<=8->(∀r∈aI,r.2<B.next)->Lq Q->Lq later->0<=au->∃m,FlB B A aI au l (dU n A aI Q later au l) m
 |0,A,B,aI,Q,later,au,l,hA,h1,h2,hb,hd,h8,hl,hQ,hL,hr=>⟨[],hA,h1,h2,hb,hd,qj _,hl,Lq.qW _ hQ hL,(qmv _).symm,aM,hr,rfl,rfl,by simp[fD],aM⟩
 |n+1,A,B,aI,[],later,au,l,hA,h1,h2,hb,hd,h8,hl,hQ,hL,hr=>⟨[],hA,h1,h2,hb,hd,qj _,hl,Lq.qW _ hQ hL,(qmv _).symm,aM,hr,rfl,rfl,by simp[fD],aM⟩
 |n+1,A,B,aI,u::Q,later,au,l,hA,h1,h2,hb,hd,h8,hl,hQ,hL,hr=>by
  have k:u<48:=hQ u aM;unfold dU;by_cases i:A.bD aI u=true
  ·simp only[i,if_true];cases hF:A.frame aI u au with
   |none=>
    simp only;split;·exact su n aI _ _ au l hA h1 h2 hb hd h8 hl hQ.pop (hL.app fun x w=>by rw[qmi.1 w];exact k) hr
    ·exact⟨[],hA,h1,h2,hb,hd,qj _,hl,Lq.qW _ hQ hL,(qmv _).symm,aM,hr,rfl,rfl,by simp[fD],aM⟩
   |some x=>
    obtain⟨f,E,d⟩:=x;simp only;obtain⟨⟨y,z,C,o⟩,s,D,G,p,j,F,q,c⟩:=Qd hA h1 h2 hb aI d u au f k hd h8 hl i hF;have e:d.length<=aI.length:=by rcases c with⟨_,h⟩|⟨_,h,_⟩;omega;rw[h];exact qj _
    obtain⟨m,t⟩:=su n d (u::Q) later (au-((aX f).length:Int)) (l++[f]) y z C o s aj D hQ hL aj;refine⟨f::m,t.loc,t.ab,t.ba,t.bd,t.dn,qlz t.ln e,t.hi,t.q,by rw[t.eq];simp,fun g b=>?_,?_,t.wy.trans j,t.mt.trans q,fun a=>?_,fun _ a=>?_⟩
    ·rcases qme.1 b with b|b;·rw[b];exact p
     ·exact t.fs g b
    ·have:=t.sz;unfold Qe at this ⊢;simp only[qov,qq0];omega
    ·rcases c with⟨h,_⟩|⟨_,_,h⟩
     ·have:fD m=true:=by
       unfold fD at a ⊢;simpa[h]using a
      have:=t.wf this;rwa[j]at this
     ·exact h
    ·have v:f.aD=2:=by
      unfold fD at a;simp only[List.any_cons,Bool.or_eq_false_iff]at a;have:=of_decide_eq_false a.1;exact Decidable.not_not.1 this
     rcases c with⟨_,h⟩|⟨h,_⟩;·exact qoq t.ln h
     ·exact absurd v h
  ·simp only[i];exact su n aI _ later au l hA h1 h2 hb hd h8 hl hQ.pop hL hr
def DC(n:Nat)(a:List Fr):∀k,k<=a.length->(gF n a k).length=(Num.aB n).length+Qe (a.take k)
 |0,_=>by simp[gF,Qe]
 |k+1,h=>by show(gF n a k++aX (a.getD k iL)).length=_;rw[qm0,DC n a k aj,qnh,qm3 aj];unfold Qe;rw[qnb,List.sum_append,qly,qm3 aj];simp;omega
def wH(n:Nat)(a:List Fr):(fQ n a).length=(Num.aB n).length+Qe a:=by unfold fQ;rw[DC n a a.length (qj _),qp2]
def Qf:∀(l:List Fr),(∀f∈l,FrG f)->l.length<=Qe l
 |[],_=>qm2 _
 |f::t,h=>by have a:=Qf t fun g b=>h g (by simp[b]);have c:=(h f aM).sz;unfold Qe at a ⊢;simp only[qov,qq0,qmp];omega
def mu(M:av)(a:bZ):Nat:=a.length+(12-M.bf.length)
structure PP (B:av) (N:Nat) (M:av) (aI:bZ):Prop where
 loc:gM M
 ab:eH M B
 ba:eH B M
 bd:Bd M
 dn:Dn aI
 l8:aI.length<=8
 hi:∀r∈aI,r.2<B.next
 nx:M.next+mu M aI<=N
def Iw(h:Bd M):0<=M.au/\M.au<=400:=by unfold av.au;have:=gJ M.next;have:=h.mt;omega
def Dn.okl{l:bZ}(h:Dn l)(b:l.length<=8):zY l=true:=by unfold zY;rw[qmg];exact⟨qod.2 fun i a=>h.at i (by simpa using a),decide_eq_true aj⟩
def WS{N:Nat}{c:bZ}{Q:List Nat}(h:PP B N M c)(S:N<dH)(F:Lq Q)(k:(fill M c Q M.au).2.2.2≠[]):PP B N ((fill M c Q M.au).1.dO (fill M c Q M.au).2.2.2) (fill M c Q M.au).2.1/\mu ((fill M c Q M.au).1.dO (fill M c Q M.au).2.2.2) (fill M c Q M.au).2.1<mu M c/\rG M.next (fill M c Q M.au).2.2.2=true/\(fQ M.next (fill M c Q M.au).2.2.2).length+4<=M.bF/\(fill M c Q M.au).2.2.2.length<=400/\(∀f∈(fill M c Q M.au).2.2.2,FrG f):=by
 obtain⟨L,U⟩:=Iw h.bd;have l:(fill M c Q M.au).1.next=M.next:=uJ _ c Q [] M.au []
 obtain⟨m,t⟩:=su (Q.length+M.au.toNat+1) c Q [] M.au [] h.loc h.ab h.ba h.bd h.dn h.l8 h.hi F (fun x j=>by simp at j) L;have d:FlB B M c M.au [] (fill M c Q M.au) m:=t;clear t;generalize fill M c Q M.au=x at d l k;obtain⟨A,n,O,a⟩:=x;simp only at d l k ⊢;have C:a=m:=d.eq;subst C;have T:n.length<=c.length:=d.ln;have z:A.bf=M.bf:=d.wy;have I:A.bF=M.bF:=d.mt;have P:=CJ (A:=A) d.loc d.ab d.ba a;have g:Bd A:=d.bd;have u:mu (A.dO a) n<mu M c:=by
  unfold mu;by_cases i:fD a=true
  ·have o:=d.wf i;have:(A.dO a).bf=A.bf++[(A.next,⟨again a,A.aW⟩)]:=by
    show(if fD a then _ else _)=_;rw[bM i]
   rw[this,qm0,z];simp only[qmp,qnc];omega
  ·have w:fD a=false:=by simpa using i
   have:(A.dO a).bf=A.bf:=by show(if fD a then _ else _)=_;rw[aV i]
   have R:n.length<c.length:=d.ac k w;rw[this,z];omega
 have D:(Qe a:Int)<=M.au:=d.sz;have H:a.length<=Qe a:=Qf a d.fs;have v:(A.dO a).next=M.next+1:=by show A.next+1=_;rw[l]
 have G:(again a).length<=a.length:=qo1 _ _;have s:∀f∈again a,UF f:=fun f r=>by
  obtain⟨p,q⟩:=qm4.1 r;rcases(d.fs f p).kd with e|e;·rw[e]at q;simp at q
  ·rcases e with e|e;·rw[e]at q;simp at q
   ·exact e
 have E:=h.nx;have K:dH=4611686018427387903:=rfl;refine⟨⟨P.loc,P.ab,P.ba,?_,d.dn,bR h.l8,d.hi,by rw[v];omega⟩,u,?_,?_,aj,d.fs⟩
 ·refine⟨g.o,g.i,g.g,g.lm,g.mt,fun x j=>?_,fun x j=>(g.ls x j).mono (Nat.le_succ _),?_,?_,g.ll,Nat.le_succ_of_le g.nm,g.cm,fun x j=>?_,g.ib⟩
  ·by_cases i:fD a=true
   ·have b:x∈A.bf++[(A.next,(⟨again a,A.aW⟩:ru))]:=by
     have:(A.dO a).bf=A.bf++[(A.next,⟨again a,A.aW⟩)]:=by show(if fD a then _ else _)=_;rw[bM i]
     rwa[this]at j
    rcases qm7.1 b with b|b;·exact(g.wy x b).mono (Nat.le_succ _)
    ·rw[qmi.1 b];exact⟨qp9 _,by show(again a).length<=400;omega,s⟩
   ·have:(A.dO a).bf=A.bf:=by
     show(if fD a then _ else _)=_;rw[aV i]
    rw[this]at j;exact(g.wy x j).mono (Nat.le_succ _)
  ·show(A.b_++(A.dO a).bf).Pairwise _;by_cases i:fD a=true
   ·have:(A.dO a).bf=A.bf++[(A.next,⟨again a,A.aW⟩)]:=by
     show(if fD a then _ else _)=_;rw[bM i]
    rw[this,<-qmh,qpr];refine⟨g.ky,aM,fun x j y J=>?_⟩;rw[qmi.1 J];have:x.1<A.next:=by
     rcases qm7.1 j with j|j;·exact(g.ls x j).1
     ·exact(g.wy x j).1
    show x.1≠A.next;omega
   ·have:(A.dO a).bf=A.bf:=by
     show(if fD a then _ else _)=_;rw[aV i]
    rw[this];exact g.ky
  ·by_cases i:fD a=true
   ·have o:=d.wf i;have:(A.dO a).bf=A.bf++[(A.next,⟨again a,A.aW⟩)]:=by
     show(if fD a then _ else _)=_;rw[bM i]
    rw[this,qm0,z];simp only[qmp,qnc];omega
   ·have:(A.dO a).bf=A.bf:=by
     show(if fD a then _ else _)=_;rw[aV i]
    rw[this];exact g.wl
  ·show x.2.aW<=A.aW;by_cases i:fD a=true
   ·have b:x∈A.bf++[(A.next,(⟨again a,A.aW⟩:ru))]:=by
     have:(A.dO a).bf=A.bf++[(A.next,⟨again a,A.aW⟩)]:=by show(if fD a then _ else _)=_;rw[bM i]
     rwa[this]at j
    rcases qm7.1 b with b|b;·exact g.tk x b
    ·rw[qmi.1 b];exact qj _
   ·have:(A.dO a).bf=A.bf:=by
     show(if fD a then _ else _)=_;rw[aV i]
    rw[this]at j;exact g.tk x j
 ·unfold rG;rw[qmg,qmg];refine⟨⟨qod.2 fun f r=>(d.fs f r).sn,decide_eq_true aj⟩,decide_eq_true ?_⟩;cases a with
  |nil=>exact absurd rfl k
  |cons f t=>simp
 ·rw[wH];unfold av.au at D;omega
def pkp(B:av)(N:Nat)(o:N<dH):PkP (PP B N) mu where
 wk:=fun M a h=>⟨h.bd.wk h.loc,h.dn.okl h.l8⟩
 fr:=fun M a u g f H e h r s c=>by
  obtain⟨⟨D,E,F,i⟩,n,G,m,b,j,k,I,l⟩:=Qd h.loc h.ab h.ba h.bd a e u g f r h.dn h.l8 h.hi s c;have q:e.length<=a.length:=by rcases l with⟨_,h⟩|⟨_,h,_⟩;omega;rw[h];exact qj _
  refine⟨⟨D,E,F,i,n,bR h.l8,G,?_⟩,m,b.sz,b.sn,b.ok⟩;have:=h.nx;unfold mu at this ⊢;rw[k,j];omega
 nm:=fun M a h=>by obtain⟨C,L⟩:=Iw h.bd;have A:dH=4611686018427387903:=rfl;have:=h.nx;exact⟨h.bd.mt.2,aj,C,aj,fun x t=>(h.bd.wy x t).1⟩
 pk:=fun M a Q h p d=>by obtain⟨v,w,y,J,K,z⟩:=WS h o p d;have:=h.bd.mt;exact⟨v,w,y,aj,aj,fun f c=>(z f c).ok⟩
end Go.Proofs.YtphbledmopchnaaGreatDoor.Sd
namespace Go.Proofs.YtphbledmopchnaaGreatDoor.Sd
open Go.RowKit Go.Lib Mm Tryz
variable {M:av}{S bi bl bw s:Nat}{oZ:Own}{w:Wq}
def Mv.new{a:Own}{s:Nat}{f:Wq}{S bw bl bi c:Nat}{D:Nat->Src}{p:Nat}{oZ aQ:Own}{w w':Wq}{M:av}{b:bZ}{Q:List Nat}{e:WA}{vs:bJ}{d:List (Nat×List Fr)}(h:Mv a s f S bw bl bi c D p oZ w M b Q e vs d)(K:Kp [] oZ aQ w w'):Mv a s f S bw bl bi c D p aQ w' M b Q e vs d:=by obtain⟨v,g⟩:=h.qz;exact⟨⟨v,g.new K⟩,h.lq,h.ql,h.gd.kp K aM,h.li.kp K aM,h.ps.kp K aM,h.kp.trans (K.mono aM)⟩
def Mv.app{g:Own}{o:Wq}{m:Nat}{D:Nat->Src}{p:Nat}{aQ:Own}{w':Wq}{i:bZ}{Q:List Nat}{B a:WA}{vs:bJ}{e:List (Nat×List Fr)}(h:Mv g s o S bw bl bi m D p oZ w M i Q B vs e)(v:WA)(n:Nat)(c:List Fr)(t:lG w v (bP n c))(y:∀k,v.ownBlock=some k->oZ k=s+47/\k<w.heap.size)(u:∀k,v.ownBlock=some k->∀j,j<vs.length->(vs.getD j Vh).ownBlock≠some k)(K:Kp [s+52] oZ aQ w w')(q:GT aQ (s+52) 60 1 w' a (vs.length+1) (vs++[v])):Mv g s o S bw bl bi m D p aQ w' M i Q a (vs++[v]) (e++[(n,c)]):=by
 obtain⟨A,b⟩:=h.qz;obtain⟨l,E,r,_⟩:=b.env;have C:=r.s0;have d:∀x∈[s+52],x∈Tb s:=fun x z=>jD.2 (by simp at z;omega);have f:WL oZ s w (vs++[v]) (pkB (e++[(n,c)])):=by unfold pkB;rw[qnb];exact h.ps.add v _ t y u
 refine⟨⟨A,b.qs.kp K d aM aM,b.z.kp (K.mono d),b.env.kp K rR aM aM⟩,h.lq,h.ql,h.gd.kp K aM,?_,f.kp K aM,h.kp.trans (K.mono d)⟩;rw[qm0];exact q
def S_{v:WA}{b:List UInt8}(h:lG w v b):∃a n c,v=.slice a n c:=by rcases h with⟨rfl,_⟩|⟨g,cap,cs,rfl,_⟩<;>exact⟨_,_,_,rfl⟩
def lf(M:av):bZ:=if M.bI then M.aP.rs.reverse else[]
def PkQ(oZ:Own)(s:Nat)(w:Wq)(S bw bl bi:Nat)(f:av->Prop)(P:av->bZ->Prop)(e:Ending)(w':Wq):Prop:=
 ∃a d c b i h g,f a/\e=.returned d/\fH b s w' S i (fI ((lf a).length+14) {a with bI:=false} (lf a) q0 []).1 bw bl bi h/\Gd b w'/\GT b (s+52) 60 1 w' d c.length c/\WL b s w' c (pkB (fI ((lf a).length+14) {a with bI:=false} (lf a) q0 []).2)/\Kp (Tb s) oZ b w w'/\P (fI ((lf a).length+14) {a with bI:=false} (lf a) q0 []).1 g
def Oe{l:bJ}{A:WA}(h:fH oZ s w S l M bw bl bi A)(hg:Gd oZ w)(hy:M.kW=0)(U:av->Prop)(P:av->bZ->Prop)(μ:av->bZ->Nat)(hP:PkP P μ)(hm:qH 154 #[aJ S 0] w (.tuple #[]) fun c=>∃b f E C,U b/\fH f s c S E b bw bl bi C/\Kp (T0 s) oZ f w c)(J:∀oZ W l b A,U b->fH oZ s W S l b bw bl bi A->WB prog 200 #[aJ S 0] W fun e c=>Qb oZ s W S bw bl bi {b with bI:=false} (lf b) e c)(hp:∀b,U b->P {b with bI:=false} (lf b)/\μ {b with bI:=false} (lf b)<(lf b).length+14/\(lf b).length<=1000):WB prog 114 #[aJ S 0] w fun e c=>PkQ oZ s w S bw bl bi U P e c:=by
 have HO:=aF (vD S M.kW w (by rw[h.bY.cell];exact h.cells.oO));rw[hy]at HO;have HL:Hid (qH 154 #[aJ S 0] w (.tuple #[]) fun c=>Hid (∃b,U b/\∃f E C,fH f s c S E b bw bl bi C/\Kp (Tb s) oZ f w c)):=by refine bH hm ?_;rintro c ⟨b,f,E,C,h1,h2,r⟩;exact⟨rfl,b,h1,f,E,C,h2,r.mono fun z hz=>jD.2 (bR (fC.1 hz))⟩
 have HS:Hid (∀w1 b,U b->(∃f E C,fH f s w1 S E b bw bl bi C/\Kp (Tb s) oZ f w w1)->WB prog 155 #[aJ S 0] w1 fun e c=>∃p,e=.returned (aJ p 0)/\Hid (∃I f D v,P_ f s c S bw bl bi I D p v q0 {b with bI:=false} (lf b)/\Kp (Tb s) oZ f w c)):=by rintro w1 b h1 ⟨f,E,C,h2,r⟩;refine(Ob {b with bI:=false} (lf b) h2 (fun oZ W K=>J oZ W E b C h1 K)).mono ?_;rintro e c ⟨p,rfl,I,gy,D,v,h4,h5⟩;exact⟨p,rfl,I,gy,D,v,h4,r.trans h5⟩
 have HG:=aF hg;have HP:=aF hP;have hu:=aF hp;clear h hg hP hp hm J hy;go_enter func114,ntmps114;go_wp2_with (first|(go_at_call 137;refine bH HO.out ?_;rintro c x1;have hf:=x1.symm;subst hf)|(go_at_call 154;refine bH HL.out ?_;rintro w1 Pz)|(go_at_call 155;obtain⟨b,Y,hx⟩:=Pz.out;refine(HS.out w1 b Y hx).mono ?_;rintro e w2 ⟨p,rfl,HQ⟩;have h9:=aF Y;clear Y hx Pz)|go_in);obtain⟨I,gy,D,v,hq,K2⟩:=HQ.out;have x4:0<s:=by obtain⟨l,A,K,_⟩:=hq.env;exact K.s0
 have h0:Mv oZ s w S bw bl bi I D p gy w2 {b with bI:=false} (lf b) q0 nZ [] []:=⟨⟨v,hq⟩,lq0,gP,HG.out.kp K2 (fun z=>bR (jD.1 z)),.inl ⟨rfl,rfl,rfl⟩,⟨rfl,(fun j hj=>by cases hj),fun i j _ hj=>by cases hj⟩,K2⟩;have H0:=aF h0;clear h0 hq HQ;obtain⟨X,hX⟩:∃X,X=fI ((lf b).length+14) {b with bI:=false} (lf b) q0 []:=⟨_,rfl⟩;have HX:=aF hX;have tZ:Hid (∀f E C dV vl G c,fH f s c S E X.1 bw bl bi C->Gd f c->GT f (s+52) 60 1 c vl G.length G->WL f s c G (pkB X.2)->Kp (Tb s) oZ f w c->P X.1 dV->PkQ oZ s w S bw bl bi U P (.returned vl) c):=by intro f E C dV vl G c g1 g2 g3 g4 g5 g6;rw[hX]at g1 g4 g6;exact⟨b,vl,G,f,E,C,dV,h9.out,rfl,g1,g2,g3,g4,g5,g6⟩
 obtain⟨a1,a2,a3⟩:=hu.out b h9.out;have HA:=aF (dw a1 (dw a2 a3));clear a1 a2 a3 hX K2;go_loopg [4] (μ {b with bI:=false} (lf b)) (fun kx s4 wr=>∃(N:Own) (M:av) (d:bZ) (Q:List Nat) (G:bJ) (pk:List (Nat×List Fr)),Hid (Mv oZ s w S bw bl bi I D p N wr M d Q s4 G pk/\P M d/\∃n,μ M d<n/\pk.length+n<=2000/\fI n M d Q pk=X)/\Hid (μ M d<=kx));case atStart=>exact⟨gy,{b with bI:=false},lf b,q0,[],[],(⟨H0.out,HA.out.1,(lf b).length+14,HA.out.2.1,by have:=HA.out.2.2;simp;omega,HX.out.symm⟩:_/\_),qj _⟩
 case round=>
  obtain⟨N,M,d,Q,G,pk,HI,HK⟩:=hrel;obtain⟨Ev,x,n,hn,hl,q⟩:=HI.out;obtain⟨e1,e2,e3,e4,_⟩:=HP.out.nm M d x;obtain⟨v0,h7⟩:=Ev.qz;obtain⟨sl,x6,K,_⟩:=h7.env;have c0:wr.cell? (ay S 0)=some (iZ M.bF):=by rw[K.bY.cell];exact K.cells.c0
  have n_:wr.cell? (ay S 229)=some (uZ M.next):=by rw[K.bY.cell];exact K.cells.n_
  have HR:Hid (qH 157 #[iZ M.bF,uZ M.next] wr.drew (iZ ((M.bF:Int)-((Num.aB M.next).length:Int)-4)) fun c=>bE wr c):=by refine bH (Vj M.bF M.next wr.drew e1 aj) ?_;rintro c hb;exact⟨rfl,hb.os,hb.tape,hb.output,hb.size,hb.block⟩
  obtain⟨m,rfl⟩:∃m,n=m+1:=⟨n-1,aj⟩;unfold fI at q;by_cases B:(fill M d Q M.au).2.2.2=[]
  ·rw[bM B]at q;have HF:Hid (∀o,bE wr o->qH 156 #[aJ p 0,(iZ ((M.bF:Int)-((Num.aB M.next).length:Int)-4))] o nZ fun c=>Hid (PkQ oZ s w S bw bl bi U P (.returned u4) c)):=fun o u=>by
    have r:=Ev.new (Kp.below u);refine(r.fill x HP.out).mono ?_;rintro e c ⟨UE,v4,vl,vt,L,rfl,hL,F,T⟩;have hv:L=[]:=by rw[B]at hL;exact List.map_eq_nil_iff.1 hL
    obtain⟨l5,x2,hc,_⟩:=F.env;have hw:(fill M d Q M.au).1=X.1:=by rw[<-q]
    rw[hw]at hc T;refine⟨by rw[F.nl hv],tZ.out UE l5 x2 _ u4 G c hc (r.gd.kp F.kp fun z=>bR (qm.1 z)) (r.li.kp F.kp fun z=>bR (qm.1 z)) ?_ (r.kp.trans (F.kp.mono (qdb s))) T⟩;rw[<-q];exact r.ps.kp F.kp fun z=>bR (qm.1 z)
   have q1:=Cx;clear Ev x q h7 K HI;go_wp2_with fail;go_region_with (first|(go_at_call 157;refine bH HR.out ?_;rintro o u)|(go_at_call 156;refine bH (HF.out o u) ?_;rintro w4 HE));all_goals(go_wp2;go_ret;exact HE.out)
  ·rw[aV B]at q;obtain⟨b1,b2,b3,b4,b5,b6⟩:=HP.out.pk M d Q x Ev.lq B;have HF:Hid (∀o,bE wr o->WB prog 156 #[aJ p 0,(iZ ((M.bF:Int)-((Num.aB M.next).length:Int)-4))] o fun e c=>∃g fn fc,e=.returned (dh g fn fc)/\Hid (∃N,Mv oZ s w S bw bl bi I D p N o M d Q u4 G pk/\Dt N s o S bw bl bi I D p P (Sd.fill M d Q M.au) (.returned (dh g fn fc)) c)):=fun o u=>by
    have r:=Ev.new (Kp.below u);refine(r.fill x HP.out).mono ?_;intro e c hQ;obtain⟨UE,v4,vl,vt,L,rfl,hL,F,T⟩:=hQ;have x3:0<L.length:=by
     cases L with
     |nil=>exact absurd hL.symm B
     |cons a t=>simp
    have x0:=F.fr;rcases x0 with⟨_,h2,_⟩|⟨g,cap,cs,rfl,_⟩;·omega
    ·exact⟨g,_,cap,rfl,N,r,UE,v4,_,vt,L,rfl,hL,F,T⟩
   have hr:Hid (∀o w4 fl,(∃N,Mv oZ s w S bw bl bi I D p N o M d Q u4 G pk/\Dt N s o S bw bl bi I D p P (Sd.fill M d Q M.au) (.returned fl) w4)->WB prog 158 #[aJ S 0,fl] w4 fun e H=>∃O R A,e=.returned (.slice O R A)/\Hid (∃v6 w6 jl,(∀ty,(fB #[131,131] ty #[u4,dh H.heap.size 1 1]).run prog (H.alloc (.cells #[.slice O R A] 60))=.ok v6 w6)/\Mv oZ s w S bw bl bi I D p jl w6 ((Sd.fill M d Q M.au).1.dO (Sd.fill M d Q M.au).2.2.2) (Sd.fill M d Q M.au).2.1 (Sd.fill M d Q M.au).2.2.1 v6 (G++[.slice O R A]) (pk++[(M.next,(Sd.fill M d Q M.au).2.2.2)]))):=by
    rintro o w4 fl ⟨N,r,h4⟩;refine(r.dO x HP.out B fl h4).mono ?_;rintro e H ⟨v,rfl,_,oI,h5,V,Z⟩;obtain⟨O,R,A,rfl⟩:=S_ V;refine⟨O,R,A,rfl,?_⟩;have he:bE H (H.alloc (.cells #[.slice O R A] 60)):=(qlw _ H).alloc (qj _) _;have B5:aL (H.alloc (.cells #[.slice O R A] 60)) H.heap.size 60 [.slice O R A]:=aL.new H 60 _;have h6:=h5.new (Kp.below he);have x5:G.length<=2000:=by have:=h6.ps.1;unfold pkB at this;rw[qmc]at this;omega
    obtain⟨v6,w6,jl,run,hG,K6⟩:=fO qjf h6.li (ay H.heap.size 0) 1 1 [.slice O R A] rfl (fun z hz=>by rw[qmi.1 hz];rfl) (fun j y hy=>by
     have e:(ay H.heap.size 0).add j=(ay H.heap.size j):=by rw[qmb,qm5]
     rw[e,B5.cell,hy]) aj
    exact⟨v6,w6,jl,run,h6.app _ _ _ (V.alloc _) (fun k hk=>⟨(Z k hk).1,qm9 (Z k hk).2.1 he.size⟩) (fun k hk=>(Z k hk).2.2) K6 hG⟩
   have HB:=aF (dw b1 (dw b2 (dw hn (dw hl q))));clear Ev x q h7 K HI b1 b2 b3 b4 b5 b6;go_wp2_with fail;go_region_with (first|(go_at_call 157;refine bH HR.out ?_;rintro o u)|(go_at_call 156;refine(HF.out o u).mono ?_;rintro e w4 ⟨fg,fn,fc,rfl,HE⟩));all_goals(
    have q2:=Aw w4 (ay fg 0) fn fc;go_wp2_with (first|(go_at_call 158;refine(hr.out o w4 _ HE.out).mono ?_;rintro e H ⟨O,R,A,rfl,h8⟩;obtain⟨v6,w6,jl,WJ,ha⟩:=h8.out;have ho:=aF ha;clear h8 ha)|(at_builtin;refine qmm _ rfl _ _ _ _ rfl _ _ rfl rfl _ _ (WJ _) ?_)|go_in);go_roundg (μ ((fill M d Q M.au).1.dO (fill M d Q M.au).2.2.2) (fill M d Q M.au).2.1);case measure=>have h1:=HK.out;have h2:=HB.out.2.1;omega
    case rel=>obtain⟨h1,h2,r,h4,h5⟩:=HB.out;exact⟨jl,_,_,_,_,_,(⟨ho.out,h1,m,aj,by rw[qm0];simp;omega,h5⟩:_/\_),(qj _:μ ((fill M d Q M.au).1.dO (fill M d Q M.au).2.2.2) (fill M d Q M.au).2.1<=_)⟩)
def Qn:Nat->List Nat
 |0=>q0
 |j+1=>mo (Qn j)
def EA:List Nat:=[0,8,16,17,18,19,20,21,22,23,24,25,26,27,28,29,30,31,32,40,41,42,43,44,45,46,47]
def qfg:∀j:Fin 27,(Qn j.val).head?=some (EA.getD j.val 0):=by decide +kernel
def QB(j:Nat)(h:j<27):∃t,Qn j=EA.getD j 0::t:=by
 have:=qfg ⟨j,h⟩;cases e:Qn j with
 |nil=>simp only[e]at this;cases this
 |cons a t=>simp only[e,List.head?_cons,qng]at this;exact⟨t,by rw[this]⟩
def qfh:Qn 27=[]:=by decide +kernel
def Ue{o o':Ot}{k:Nat}{d:Int}{c:Nat}{f:Fr}(h:o.next k d c=some (f,o')):f.aD=4/\f.aG=(k:Int)/\o'.nt=o.nt:=by
 have e:=(zZ h).1;refine⟨?_,?_,by rw[e];rfl⟩;all_goals
  unfold Ot.next at h;simp only at h;split at h;·cases h
  ·rename_i g a;split at h;·cases h
   ·have b:=congrArg eB (qmn h);simp only at b;unfold pI at a;split at a;·cases a
    ·have i:=qmn a;rw[<-b,<-i];rfl
