import Derived.Test.YtphbledmopchnaaGreatDoorVec
open Go.Builtin renaming append_->eT
open Go.RowKit renaming intOf->eB
set_option maxHeartbeats 8000000
set_option maxRecDepth 100000
open Go renaming World->Wq,Value->Wx,Calls->WA
set_option linter.all false
namespace Go.Proofs.YtphbledmopchnaaGreatDoor.Sd
open Go.RowKit Go.Lib Mm Tryz
variable {M:av}{c d f i:Nat}{n n':Net}{oZ:Own}{w w' wr:Wq}{x:Wx}
section
def Fs(oZ:Own)(w:Wq)(a:Ad)(B:Nat)(P:Net->Prop)(w':Wq):Prop:=∃n,P n/\dU a.aZ n/\qV n B/\Gk B n/\ny oZ w a n w'
section
variable {oZ:Own} {w wr:Wq} {a:Ad} {B:Nat} {P Q:Net->Prop}
def Fs.imp(h:Fs oZ w a B P wr)(b:∀n,P n->Q n):Fs oZ w a B Q wr:=by obtain⟨n,p,q⟩:=h;exact⟨n,b n p,q⟩
theorem qif(h:Fs oZ w a (B+1) P wr)(f:a.aZ<=400)(m:∀n,P n->n.dJ=[]):bN 22 #[aK a.N 0,.agg #[iZ 5,iZ 0,iZ 0,iZ 0,.string ⟨#[]⟩]] wr (.bool true) fun k=>Hid (Fs oZ w a B (fun j=>∃n b c,P n/\j=n.jK b c) k):=by
 obtain⟨n,p,t,d,⟨l,z,r⟩,o,A,q,K⟩:=h;have g:mW 0:=by unfold mW;omega
 have e:=m n p;refine bK (Vs q t aj r ⟨fun i s=>fT (d.1 i s),fT d.2⟩ f (by grind) 0 0 0 g g g ⟨#[]⟩) ?_;rintro k ⟨j,b,c,u,y,v,x⟩;obtain rfl:=v e;exact⟨rfl,n.jK b c,⟨n,b,c,p,rfl⟩,u.p,II d b c,⟨l+1,aj,y⟩,x.then K⟩
def PZ(h:Fs oZ w a (B+1) P wr)(j:a.aZ<=400)(i:Nat)(c:i<2)(v:∀n,P n->n.dJ.length<=1000):bN 23 #[aK a.N 0,iZ i] wr (.bool true) fun t=>Hid (Fs oZ w a B (fun s=>∃n,P n/\∃M b,(n.x i).jA M b/\s=n.vO i M b/\s.dJ.length<=n.dJ.length+24) t):=by obtain⟨n,p,g,m,⟨u,E,q⟩,o,F,y,K⟩:=h;have z:=v n p;refine(Pd y g m.to i c j aj (fun M b r x C f A k=>((q.dg i c).q f (g.late i c r x C f A k)).2)).mono ?_;rintro e t ⟨rfl,M,b,l,d,D⟩;refine⟨rfl,n.vO i M b,⟨n,p,M,b,l,rfl,?_⟩,Tw g i c d,qcc m i d (B_ l),⟨u,aj,q.vO g i c l d.w⟩,D.then K⟩;show(n.dJ++(vN b).map _).length<=_;rw[lM,mH];unfold vN;rw[mH];have:=d.next;have:=d.top;omega
def qig(h:Fs oZ w a B P wr)(i k:Nat)(c:i<2)(m:k<8):bN 31 #[aK a.N 0,iZ i,iZ k,iZ 4096] wr (.bool true) fun d=>Hid (Fs oZ w a B (fun q=>∃n,P n/\RdK ((n.x (1-i)).out k) ((n.x i).bH k) 4096/\q=rdN n i k) d):=by obtain⟨n,p,b,j,⟨f,e,l⟩,o,s,g,K⟩:=h;refine bK (Ve g b i k 4096 c m aj) ?_;rintro d r;exact⟨rfl,_,⟨n,p,qcb ((b.loc (1-i) aj).wr k) ((b.mU i c).rd k) 4096,rfl⟩,jq b _ c _ (Fx (b.loc _ c) (b.loc _ aj) (b.two _ c) (b.mU _ c) _ _) (Mk (b.bd _ c) _ _) rfl rfl,j.dM _ rfl rfl,⟨f,e,l.dM i ⟨rfl,rfl,rfl,rfl,rfl⟩ rfl⟩,r.then K⟩
theorem qdf(h:Fs oZ w a B P wr):∃c e d,wr.cell? (aA a.N 8)=some (.slice c e d)/\wr.frozen? (aA a.N 8)=false/\Hid (∃n,P n/\e=n.dJ.length/\PY oZ w a n.dJ (.slice c e d) B {n with dJ:=[]} (wr.setCell (aA a.N 8) nZ)):=by obtain⟨n,p,m,k,⟨i,g,l⟩,o,r,b,K⟩:=h;obtain⟨_,_,_,_,_,j,_⟩:=b.cells;obtain⟨c,d,rfl⟩:=iX b.bg;have f:Kp [200] o o wr (wr.setCell (aA a.N 8) nZ):=Kp.set o wr _ _ _ (by rw[b.qA.2];simp);exact⟨c,_,d,j,b.qA.1.frozen 8,n,p,rfl,⟨o,_,b.qbx [] (.inl ⟨rfl,rfl,rfl⟩),K.trans (f.mono fun x q=>lu.2 (by grind)),b.bg.kp f aR⟩,m,⟨i,g,l⟩,k,rfl⟩
theorem PY.fs{l q}(h:PY oZ w a l q B n wr)(p:P n):Fs oZ w a B P wr:=by
 obtain⟨o,m,i,j,r⟩:=h.ex;have c:dU a.aZ n:=by
  have:=h.p.sub [] (fun y d=>by cases d) n.now;have e:n={n with dJ:=[]}:=by have:=h.b0;cases n;simp_all
  grind
 obtain⟨f,g,k⟩:=h.g;have b:iP f n:=by
  have:=k.sub [] (fun y d=>by cases d);have e:n={n with dJ:=[]}:=by have:=h.b0;cases n;simp_all
  grind
 exact⟨n,p,c,h.nb,⟨f,g,b⟩,o,m,i,j⟩
end

def qdg(c i j)(e:c / 8=i)(f:c % 8=j){d b}(h:ReR c d b)(p:RdK ((b.x (1-i)).out j) ((b.x i).bH j) 4096):ReR (c+1) d (rdN b i j):=by subst e f;exact⟨b,h,p,rfl⟩
def RoC(n c:Net):Prop:=∃d e b,FlR 2 (n.jK d e) b/\CmR b.dJ b.dJ.length {b with dJ:=[]} c
theorem MZ{a vb}(h:dW oZ w a n vb (ends n))(hp:dU a.aZ n)(T B0)(hT:T<=100000)(hg:Gk (3*T+B0) n)(hb:qV n (3*T+B0))(J:a.aZ<=400):bN 18 #[aK a.N 0,iZ T] w (.bool true) fun w'=>Fs oZ w a B0 (Aj T {n with dJ:=[]}) w':=by
 have s:Hid (Fs oZ w a (3*T+B0) (fun b=>b=n) w):=⟨n,rfl,hp,hb,hg,oZ,vb,h,Kp.refl _ _ _⟩;obtain⟨a0,r,c0,c8,z8,H⟩:=qdf s.out;obtain⟨w1,hc⟩:∃w1,w.setCell (aA a.N 8) nZ=w1:=⟨_,rfl⟩;rw[hc]at H;have H0:Hid (Fs oZ w a (3*(T-0)+B0) (fun b=>Aj 0 {n with dJ:=[]} b/\b.dJ=[]) w1):=by obtain⟨c,rfl,_,h1⟩:=H.out;exact h1.fs ⟨rfl,rfl⟩
 clear h hp hg hb s H;go_enter func18,ntmps18;go_wp2;go_loopw [5] (fun s5 wr=>∃t:Nat,t<=T/\s5=(iZ t)/\Hid (Fs oZ w a (3*(T-t)+B0) (fun b=>Aj t {n with dJ:=[]} b/\b.dJ=[]) wr)) (fun s5 _=>T-(eB s5).toNat);case atStart=>grind
 case round=>
  obtain⟨t,ht,rfl,e⟩:=hrel;clear H0 c8 z8 hc;by_cases x6:t<T
  .have hw:(t:Int)<(T:Int):=aj;obtain⟨B,hB⟩:=bU (3*(T-(t+1))+B0);have HB:=aG hB;have e3:3*(T-t)+B0=B+2+1:=aj;have A:=aG (qif (P:=fun b=>Aj t {n with dJ:=[]} b/\b.dJ=[]) (by have:=e.out;rw[e3]at this;exact this) J (fun n h=>h.2));clear e e3 hB;go_wp2_with (go_at_call 22;refine bK A.out ?_;rintro w2 C);clear A;have X:Hid (Fs oZ w a (B+2-0) (fun b=>∃c l m,Aj t {n with dJ:=[]} c/\FlR 0 (c.jK l m) b/\b.dJ.length<=24*0) w2):=C.out.imp (by
    rintro b ⟨c,l,m,⟨u,v⟩,rfl⟩;exact⟨c,l,m,u,rfl,by show c.dJ.length<=_;rw[v];simp⟩)
   clear C;go_loopw [6,7] (fun S s7 wr=>S=.bool true/\∃i:Nat,i<=2/\s7=(iZ i)/\Hid (Fs oZ w a (B+2-i) (fun b=>∃c l m,Aj t {n with dJ:=[]} c/\FlR i (c.jK l m) b/\b.dJ.length<=24*i) wr)) (fun _ s7 _=>2-(eB s7).toNat);case atStart=>exact⟨rfl,0,aj,rfl,X⟩
   case round=>
    obtain⟨rfl,i,hi,rfl,e⟩:=hrel;clear X;by_cases I:i<2
    .have hv:(i:Int)<2:=aj;have e2:B+2-i=B+2-(i+1)+1:=aj;have A:=aG (PZ (P:=fun b=>∃c l m,Aj t {n with dJ:=[]} c/\FlR i (c.jK l m) b/\b.dJ.length<=24*i) (by have:=e.out;rw[e2]at this;exact this) J i I (fun n h=>by obtain⟨_,_,_,_,_,q⟩:=h;omega));clear e e2;go_wp2_with (go_at_call 23;refine bK A.out ?_;rintro w2 C);clear A;have s:Hid (Fs oZ w a (B+2-(i+1)) (fun b=>∃c l m,Aj t {n with dJ:=[]} c/\FlR (i+1) (c.jK l m) b/\b.dJ.length<=24*(i+1)) w2):=C.out.imp (by
      rintro b ⟨f,⟨c,l,m,u,v,U⟩,M,pk,p4,p5,p6⟩;exact⟨c,l,m,u,⟨f,v,M,pk,p4,p5⟩,aj⟩)
     clear C;go_roundw;case rel=>exact⟨rfl,i+1,aj,aR,s⟩
     case measure=>simp[eB];omega
    .obtain rfl:i=2:=aj;obtain⟨a0,r,c0,c8,z8,H⟩:=qdf e.out;obtain⟨w3,he⟩:∃w3,wr.setCell (aA a.N 8) nZ=w3:=⟨_,rfl⟩;rw[he,show B+2-2=B by omega]at H;obtain⟨f,⟨c,l,m,u,v,U⟩,h9,h8⟩:=H.out;have Ap:=aG (dz u v);have Z:=aG h9;have x7:r<=48:=aj;have W:Hid (∃d,CmR f.dJ 0 {f with dJ:=[]} d/\PY oZ w a f.dJ (.slice a0 r c0) B d w3):=⟨_,rfl,h8⟩;clear H u v U h9 h8 e;simp only[show((2:Nat):Int)=2 from rfl];go_wp2;clear c8 z8 he;go_loopw [6,10] (fun S N wr=>S=.bool true/\∃k:Nat,k<=r/\N=(iZ k)/\Hid (∃d,CmR f.dJ k {f with dJ:=[]} d/\PY oZ w a f.dJ (.slice a0 r c0) B d wr)) (fun _ N _=>r-(eB N).toNat);case atStart=>exact⟨rfl,0,eG _,rfl,W⟩
     case round=>
      obtain⟨rfl,k,hk,rfl,e⟩:=hrel;clear W;by_cases x5:k<r
      .have x8:(k:Int)<(r:Int):=aj;obtain⟨d,q1,E⟩:=e.out;have z:k<f.dJ.length:=fT Z.out;obtain⟨g,cg,ev,d0,d1⟩:=E.at k z;obtain⟨o,hf⟩:=E.mem k z;have K:=fun w' hb=>qid (E.below (w':=w') hb) J k z;obtain⟨y,L⟩:=bU (f.dJ.getD k (0,0,[]));simp only[nR]at ev;obtain⟨rfl,hz,rfl⟩:=ev;clear hz;obtain⟨i,p⟩:=bU y.1;obtain⟨D,x⟩:=bU (⟨(bT y.2.1 y.2.2).toArray⟩:ByteArray);unfold sV at d1 K;rw[<-L]at d0 d1 o hf;rw[<-p]at d0 o;rw[<-x]at d1;obtain⟨x0,x1⟩:=E.xc i o;have h3:Hid (bN 29 #[(aK (a.C i) 0),.string D] wr.drew (.tuple #[iZ 0,(iZ (-1))]) fun F=>(F.cell? (aA a.N 0)=some (dB a.xb 2 a.xc)/\F.cell? (aA a.xb i)=some (aK (a.C i) 0)/\F.cell? (aA g (k*2))=some (iZ i)/\F.cell? (aA g (k*2+1))=some (.string D))/\Hid (∃M,CmR f.dJ (k+1) {f with dJ:=[]} ((d.dM i M).iW i)/\DlM oZ w a f.dJ (dB g r c0) B d i M F)):=by
        have h5:=K wr.drew ⟨rfl,rfl,rfl,aI _,fun _ _=>rfl⟩;rw[<-L,<-p,<-x]at h5;refine bK h5 ?_;rintro F ⟨M,r1,V⟩;obtain⟨g',hx,h7,h4,G⟩:=V.at k z;simp only[nR,tK,wO]at h7;obtain⟨⟨rfl,_,_⟩,_,_⟩:=h7;unfold sV at G;rw[<-L,<-p]at h4;rw[<-L,<-x]at G;refine⟨rfl,⟨(V.xc i o).1,(V.xc i o).2,h4,G⟩,M,⟨d,q1,M,?_,?_⟩,V⟩;.rw[<-L,<-p];exact r1
        .rw[<-L,<-p]
       have x2:(0:Int)<=(i:Int):=aj;have x3:(i:Int)<2:=aj;have x4:(0:Int)<=(k:Int):=aj;clear K L p x hf q1 E e;go_wp2;go_region_held3 (fun y=>y.cell? (aA a.N 0)=some (dB a.xb 2 a.xc)/\y.cell? (aA a.xb i)=some (aK (a.C i) 0)/\y.cell? (aA g (k*2))=some (iZ i)/\y.cell? (aA g (k*2+1))=some (.string D)) (first|assumption|go_keep) ((first|(go_at_call 29;refine bK h3.out ?_;rintro F ⟨hr,ha⟩)))
       obtain⟨_,_,s0,_⟩:=hr;have ho:Hid (bN 30 #[aK a.N 0,iZ i] F (.bool true) fun w6=>Hid (∃n4,CmR f.dJ (k+1) {f with dJ:=[]} n4/\PY oZ w a f.dJ (dB g r c0) B n4 w6)):=by obtain⟨M,r1,r2⟩:=ha.out;refine bK (qie r2 o) ?_;rintro w6 V;exact⟨rfl,_,r1,V⟩
       clear ha d0 d1 x0 x1 h3;go_wp2_with (go_at_call 30;refine bK ho.out ?_;rintro w6 h6);go_roundw;case rel=>exact⟨rfl,k+1,aj,aR,h6⟩
       case measure=>simp[eB];omega
      .obtain rfl:k=r:=aj;have h0:Hid (Fs oZ w a B (fun b=>∃c d,Aj t {n with dJ:=[]} c/\RoC c d/\ReR (8*0) d b/\b.dJ=[]) wr):=by
        obtain⟨d,q1,E⟩:=e.out;have hn:=Z.out;rw[hn]at q1;exact E.fs ⟨c,d,Ap.out.1,⟨l,m,f,Ap.out.2,q1⟩,rfl,E.b0⟩
       clear e;go_wp2;go_loopw [6,14] (fun S O wr=>S=.bool true/\∃i:Nat,i<=2/\O=(iZ i)/\Hid (Fs oZ w a B (fun b=>∃c d,Aj t {n with dJ:=[]} c/\RoC c d/\ReR (8*i) d b/\b.dJ=[]) wr)) (fun _ O _=>2-(eB O).toNat);case atStart=>exact⟨rfl,0,aj,rfl,h0⟩
       case round=>
        obtain⟨rfl,i,hi,rfl,e⟩:=hrel;clear h0;by_cases I:i<2
        .have hv:(i:Int)<2:=aj;have Y:Hid (Fs oZ w a B (fun b=>∃c d,Aj t {n with dJ:=[]} c/\RoC c d/\ReR (8*i+0) d b/\b.dJ=[]) wr):=e.out;clear e;go_wp2;go_loopw [6,15] (fun S R wr=>S=.bool true/\∃k:Nat,k<=8/\R=(iZ k)/\Hid (Fs oZ w a B (fun b=>∃c d,Aj t {n with dJ:=[]} c/\RoC c d/\ReR (8*i+k) d b/\b.dJ=[]) wr)) (fun _ R _=>8-(eB R).toNat);case atStart=>exact⟨rfl,0,aj,rfl,Y⟩
         case round=>
          obtain⟨rfl,j,hj,rfl,e⟩:=hrel;clear Y;by_cases hu:j<8
          .have x9:(j:Int)<8:=aj;have A:=aG (qig e.out i j I hu);clear e;go_wp2_with (go_at_call 31;refine bK A.out ?_;rintro w2 C);clear A;have s:Hid (Fs oZ w a B (fun b=>∃c d,Aj t {n with dJ:=[]} c/\RoC c d/\ReR (8*i+(j+1)) d b/\b.dJ=[]) w2):=C.out.imp (by
            rintro b ⟨n4,⟨c,d,u,v,U,p4⟩,p5,rfl⟩;exact⟨c,d,u,v,qdg (8*i+j) i j aj aj U p5,p4⟩)
           clear C;go_roundw;case rel=>exact⟨rfl,j+1,aj,aR,s⟩
           case measure=>simp[eB];omega
          .obtain rfl:j=8:=aj;have s:Hid (Fs oZ w a B (fun b=>∃c d,Aj t {n with dJ:=[]} c/\RoC c d/\ReR (8*(i+1)) d b/\b.dJ=[]) wr):=e.out;clear e;go_wp2;go_roundw;case rel=>exact⟨rfl,i+1,aj,aR,s⟩
           case measure=>simp[eB];omega
        .obtain rfl:i=2:=aj;have s:Hid (Fs oZ w a (3*(T-(t+1))+B0) (fun b=>Aj (t+1) {n with dJ:=[]} b/\b.dJ=[]) wr):=by
          rw[<-HB.out];exact e.out.imp (by rintro b ⟨c,d,u,⟨l,m,f,v,p5⟩,U,p4⟩;exact⟨⟨c,u,l,m,f,v,d,p5,U⟩,p4⟩)
         clear e;go_wp2;go_roundw;case rel=>exact⟨t+1,aj,aR,s⟩
         case measure=>simp[eB];omega
  .obtain rfl:t=T:=aj;have HE:Hid (Fs oZ w a B0 (Aj t {n with dJ:=[]}) wr):=by
    have:=e.out;rw[Co,Nat.mul_zero,gG]at this;exact this.imp fun n h=>h.1
   go_wp2;go_ret;exact⟨rfl,HE.out⟩
end
def NwC(oZ:Own)(s:Nat)(w:Wq)(c b d:Nat)(C:Nat)(w':Wq):Prop:=
 ∃S bw f e a l g,gq a s w' S l (av.new c b d) bw f e g/\aS w' C 187 [aK S 0]/\a C=0/\w.heap.size<=C/\Kp [] oZ a w w'
def NwC.below{oZ s w c b d C w' f}(h:NwC oZ s w c b d C w')(a:bJ w' f):NwC oZ s w c b d C f:=by obtain⟨S,bw,j,i,g,l,p,k,e,m,n,o⟩:=h;exact⟨S,bw,j,i,g,l,p,k.below a,e.of_heap (a.block _ e.lt),m,n,o.iQ a⟩
def qmh(oZ s)(A:0<s)(f c g:Nat)(r:64<=f/\f<=400)(u:16<=c/\c<=4096)(t:16<=g/\g<=4096)(w):WA prog 59 #[.agg #[iZ f,iZ c,iZ g]] w fun e B=>∃C,e=.returned (.tuple #[aK C 0,.nilIface])/\NwC oZ s w f c g C B:=by
 obtain⟨W,q⟩:=bU (w.alloc (.cells #[iZ f,iZ c,iZ g] 45));have o:bJ w W:=by rw[q];exact(bP _ w).alloc (aI _) _
 have y:=aG (qmg oZ s A f c g r u t W);have z:Hid (∀a S bw j i d l m,gq d s a S l (av.new f c g) bw j i m->Kp [] oZ d W a->NwC oZ s w f c g a.heap.size (a.alloc (.cells #[aK S 0] 187))):=fun a S bw j i d l m n k=>by have b:bJ a (a.alloc (.cells #[aK S 0] 187)):=(bP _ a).alloc (aI _) _;have K:Kp [] d (loc d a.heap.size) a (a.alloc (.cells #[aK S 0] 187)):=⟨b.os,b.tape,b.output,b.size,fun x p _=>b.block x p,fun x p=>jW _ _ _ p⟩;exact⟨S,bw,j,i,loc d a.heap.size,l,m,n.kp K aR,aS.new a 187 [aK S 0],jF _ _ _ (aI _),dx o.size k.size,((Kp.below o).trans k).trans K⟩
 clear r u t o;go_enter func59,ntmps59;go_wp2_with (go_at_call 107;rw[<-q];refine y.out.mono ?_;rintro e a ⟨S,bw,j,i,d,l,m,rfl,n,k⟩;have v:=aG (z.out a S bw j i d l m n k);clear n k);go_ret2;exact⟨_,rfl,v.out⟩
def qmi(oZ s)(B:0<s)(b a c:Nat)(m:64<=b/\b<=400)(o:16<=a/\a<=4096)(n:16<=c/\c<=4096)(w):WA prog 33 #[.agg #[iZ b,iZ a,iZ c]] w fun e g=>∃C,e=.returned (.tuple #[aK C 0,iZ 0])/\NwC oZ s w b a c C g:=by
 obtain⟨W,k⟩:=bU (w.alloc (.cells #[iZ b,iZ a,iZ c] 45));have f:bJ w W:=by rw[k];exact(bP _ w).alloc (aI _) _
 have r:Hid (WA prog 59 #[.agg #[iZ b,iZ a,iZ c]] W fun e g=>∃C,e=.returned (.tuple #[aK C 0,.nilIface])/\NwC oZ s w b a c C g):=by refine(qmh oZ s B b a c m o n W).mono ?_;rintro e g ⟨C,rfl,S,bw,x,v,u,l,D,i,j,y,z,A⟩;exact⟨C,rfl,S,bw,x,v,u,l,D,i,j,y,dx f.size z,(Kp.below f).trans A⟩
 have t:Hid (∀C d,NwC oZ s w b a c C d->bN 60 #[.nilIface] d (iZ 0) fun p=>NwC oZ s w b a c C p):=fun C d h=>by refine bK (yF .nilIface 0 (-1) d _ (BK d)) ?_;rintro g f;exact⟨rfl,h.below f⟩
 clear m o n f;go_enter func33,ntmps33;go_wp2_with (first|(go_at_call 59;rw[<-k];refine r.out.mono ?_;rintro e d ⟨C,rfl,i⟩;have q:=aG i;clear i)|(go_at_call 60;refine bK (t.out C d q.out) ?_;rintro p j));go_ret2;exact⟨_,rfl,j⟩
section
def sty:Nat->TypeId|0=>39|1=>40|2=>41|_=>42
def ety:Nat->TypeId|0=>83|1=>78|2=>49|_=>43
def tg(f:Nat):Nat:=if 2<=f then 199+f else 180+f
def pos(f:Nat):Nat:=if f=4 then 9 else f
def sU(f)(c:f<5):∃z b,LA (sty f) (ety f) z 1 b:=by
 rcases(show f=0\/f=1\/f=2\/f=3\/f=4 by omega)with rfl|rfl|rfl|rfl|rfl;.exact⟨.pointer none,8,TJ bZ bZ rfl rfl aj⟩
 .exact⟨nZ,24,TJ bZ bZ rfl rfl aj⟩
 .exact⟨nZ,24,TJ bZ bZ rfl rfl aj⟩
 .exact⟨uZ 0,8,TJ bZ bZ rfl rfl aj⟩
 .exact⟨uZ 0,8,TJ bZ bZ rfl rfl aj⟩
def qrg:LA 78 77 (.pointer none) 1 8:=TJ bZ bZ rfl rfl aj
def M5:bM:=[.string ⟨#[]⟩,.bool false,.bool false,iZ 0,iZ 0,iZ 0]
def nt0(a:Ad)(v:Nat->Wx):bM:=[v 0,v 1,v 2,v 3,uZ 0,iZ a.aZ,iZ a.iB,iZ a.vM,nZ,v 4]
structure ES (fH:Own) (w0:Wq) (a:Ad) (c7 i m k:Nat) (v:Nat->Wx) (l:Nat->bM) (v12:Wx) (IJ:bM) (oZ:Own) (w:Wq):Prop where
 qA:aS w a.N 48 (nt0 a v)/\oZ a.N=200
 cf:aS w c7 45 [iZ a.aZ,iZ a.iB,iZ a.vM]/\oZ c7=0
 gt:∀f,f<5->GT oZ (tg f) (ety f) 1 w (v f) (l f).length (l f)
 gi:GT oZ (184+i) 77 1 w v12 k IJ
 gl:∀k',k'<k->IJ[k']?=some (aK (a.e i k') 0)
 el:∀j k',j<i->k'<8->w.cell? (aA (a.el j) k')=some (aK (a.e j k') 0)/\oZ (a.el j)=184+j
 en:∀j k',(j<i/\k'<8\/j=i/\k'<k)->aS w (a.e j k') 80 M5/\oZ (a.e j k')=210+8*j+k'
 sd:∀j,j<m->∃l vc,gq oZ (60*(j+1)) w (a.S j) l (av.new a.aZ a.iB a.vM) (a.bw j) (a.bl j) (a.bi j) vc
 cn:∀j,j<m->w.cell? (aA (a.C j) 0)=some (aK (a.S j) 0)/\oZ (a.C j)=0
 px:∀j,j<(l 0).length->(l 0)[j]?=some (aK (a.C j) 0)
 pe:∀j,j<(l 1).length->(l 1)[j]?=some (dB (a.el j) 8 (a.Ji j))
 pg:∀j,j<(l 2).length->(l 2)[j]?=some nZ
 pc:∀j,j<(l 4).length->(l 4)[j]?=some (uZ 0)
 pn:∀j,j<(l 3).length->(l 3)[j]?=some (uZ 0)
 gd:Gd oZ w
 er:iM w
 o0:oZ 0=0
 kp:Kp TN fH oZ w0 w
 im:i<=2/\m<=2/\k<=8/\(i=2->k=0)
section
variable {fH oZ aX:Own} {w0 w w':Wq} {a:Ad} {c7 i m k:Nat} {v:Nat->Wx} {l:Nat->bM} {v12:Wx} {IJ:bM} {T:List Nat}
structure BuT (oZ aX:Own) (w w':Wq) (T:List Nat) (a:Ad) (c7 i m k:Nat):Prop where
 cf:aS w' c7 45 [iZ a.aZ,iZ a.iB,iZ a.vM]/\aX c7=0
 el:∀j k',j<i->k'<8->w'.cell? (aA (a.el j) k')=some (aK (a.e j k') 0)/\aX (a.el j)=184+j
 en:∀j k',(j<i/\k'<8\/j=i/\k'<k)->aS w' (a.e j k') 80 M5/\aX (a.e j k')=210+8*j+k'
 sd:∀j,j<m->∃l vc,gq aX (60*(j+1)) w' (a.S j) l (av.new a.aZ a.iB a.vM) (a.bw j) (a.bl j) (a.bi j) vc
 cn:∀j,j<m->w'.cell? (aA (a.C j) 0)=some (aK (a.S j) 0)/\aX (a.C j)=0
 gd:Gd aX w'
 er:iM w'
 o0:aX 0=0
theorem ES.rest(h:ES fH w0 a c7 i m k v l v12 IJ oZ w)(K:Kp T oZ aX w w')(u:∀x∈T,180<=x/\(x<184\/x=184+i\/(200<=x/\x<=203)\/226<=x)):BuT oZ aX w w' T a c7 i m k:=by
 have f:0∉T:=fun e=>by grind
 have n:=h.im;refine⟨⟨bW h.cf.1 K (by rw[h.cf.2];exact f),by rw[K.ext _ h.cf.1.lt];exact h.cf.2⟩,fun j d c o=>?_,fun j d g=>?_,fun j c=>?_,fun j c=>?_,h.gd.kp K f,?_,?_⟩;.obtain⟨p,q⟩:=h.el j d c o;have b:a.el j<w.heap.size:=iq w (aA (a.el j) d) (by rw[p]);exact⟨cell_of p (K.cK _ b (by grind)),by rw[K.ext _ b];exact q⟩
 .obtain⟨p,q⟩:=h.en j d g;exact⟨bW p K (by grind),by rw[K.ext _ p.lt];exact q⟩
 .obtain⟨s,t,p⟩:=h.sd j c;exact⟨s,t,p.kp K fun x y r e=>by grind⟩
 .obtain⟨p,q⟩:=h.cn j c;have b:a.C j<w.heap.size:=iq w (aA (a.C j) 0) (by rw[p]);exact⟨cell_of p (K.cK _ b (by grind)),by rw[K.ext _ b];exact q⟩
 .exact cell_of h.er (K.cK 0 (fT h.gd.sz) (by rw[h.o0];exact f))
 .rw[K.ext 0 (fT h.gd.sz)];exact h.o0
def ES.kp'(h:ES fH w0 a c7 i m k v l v12 IJ oZ w)(K:Kp [] oZ aX w w'):ES fH w0 a c7 i m k v l v12 IJ aX w':=by have r:=h.rest K aR;exact⟨⟨bW h.qA.1 K aR,by rw[K.ext _ h.qA.1.lt];exact h.qA.2⟩,r.cf,fun f b=>(h.gt f b).kp K aR,h.gi.kp K aR,h.gl,r.el,r.en,r.sd,r.cn,h.px,h.pe,h.pg,h.pc,h.pn,r.gd,r.er,r.o0,h.kp.trans (K.mono aR),h.im⟩
theorem qoz{g}(b:f<5)(c:g<5)(h:g≠f):tg g∉[tg f]:=by grind [tg]
theorem qdm(f)(b:f<5):180<=tg f/\(tg f<184\/(201<=tg f/\tg f<=203)):=by unfold tg;grind
def qip(a v f)(b:f<5)(x):(nt0 a v).set (pos f) x=nt0 a (fun g=>if g=f then x else v g):=by rcases(show f=0\/f=1\/f=2\/f=3\/f=4 by omega)with rfl|rfl|rfl|rfl|rfl<;>rfl
def qdn(a v f)(b:f<5):(nt0 a v)[pos f]?=some (v f):=by rcases(show f=0\/f=1\/f=2\/f=3\/f=4 by omega)with rfl|rfl|rfl|rfl|rfl<;>rfl
theorem ES.app(h:ES fH w0 a c7 i m k v l v12 IJ oZ w)(f)(B:f<5)(u)(hu:u.oneCell'=true)(Z:(l f).length<=10)(V:f=0->u=(aK (a.C (l 0).length) 0))(Y:f=1->u=(dB (a.el (l 1).length) 8 (a.Ji (l 1).length)))(J:f=2->u=nZ)(X:3<=f->u=(uZ 0)):∃C L D o M s d n,v f=.slice C L D/\(∀Q,(eT #[sty f,sty f] Q #[.slice C L D,dB w.heap.size 1 1]).run prog (w.alloc (.cells #[u] (ety f)))=.ok (.slice o M s) d)/\d.cell? (aA a.N (pos f))=some (.slice C L D)/\d.frozen? (aA a.N (pos f))=false/\ES fH w0 a c7 i m k (fun g=>if g=f then .slice o M s else v g) (fun g=>if g=f then l f++[u]else l g) v12 IJ n (d.setCell (aA a.N (pos f)) (.slice o M s)):=by
 obtain⟨z,b,E⟩:=sU f B;have R:=aS.new w (ety f) [u];have G:bJ w (w.alloc (.cells #[u] (ety f))):=(bP _ w).alloc (aI _) _;have F:=h.kp' (Kp.below (T:=[]) (oZ:=oZ) G);obtain⟨C,D,O⟩:=iX (h.gt f B);obtain⟨v6,d,n,run,P,I⟩:=gI E (F.gt f B) (aA w.heap.size 0) 1 1 [u] rfl (fun z hz=>by grind) (fun t y W=>by
  have e:(aA w.heap.size 0).add t=(aA w.heap.size t):=by rw[gT,gG]
  rw[e,R.cell,W]) aj
 obtain⟨o,s,rfl⟩:=iX P;have U:=qdm f B;have A:=bW F.qA.1 I (by rw[F.qA.2];simp;omega);have K:n a.N=200:=by rw[I.ext _ F.qA.1.lt];exact F.qA.2
 have N:Kp [200] n n d (d.setCell (aA a.N (pos f)) (.slice o ((l f).length+1) s)):=Kp.set n d _ _ _ (by grind);have H:Kp [tg f,200] oZ n w (d.setCell (aA a.N (pos f)) (.slice o ((l f).length+1) s)):=(Kp.below G).trans ((I.mono aR).trans (N.mono aR));have r:=h.rest H dZ;have S:=h.im;have key:∀(g j:Nat),j<(if g=f then l f++[u]else l g).length->(j<(l g).length/\(if g=f then l f++[u]else l g)[j]?=(l g)[j]?)\/(g=f/\j=(l f).length/\(if g=f then l f++[u]else l g)[j]?=some u):=fun g j c=>by grind
 refine⟨C,_,D,o,_,s,d,n,O,fun Q=>by grind,by rw[A.cell,qdn a v f B,O],A.frozen _,⟨⟨?_,K⟩,r.cf,fun g J=>?_,h.gi.kp H dZ,h.gl,r.el,r.en,r.sd,r.cn,?_,?_,?_,?_,?_,r.gd,r.er,r.o0,h.kp.trans (H.mono fun x V=>lu.2 (by grind)),h.im⟩⟩;.rw[<-qip a v f B];exact A.setCell (pos f) _
 .by_cases e:g=f;.subst e;simp only[if_true,lM,qk4];exact P.kp N dZ
  .simp only[b_ e];have:=qdm g J;exact(h.gt g J).kp H (by grind [qoz])
 .intro j c;rcases key 0 j c with⟨p,q⟩|⟨p,q,r⟩;.rw[q];exact h.px j p
  grind
 .intro j c;rcases key 1 j c with⟨p,q⟩|⟨p,q,r⟩;.rw[q];exact h.pe j p
  grind
 .intro j c;rcases key 2 j c with⟨p,q⟩|⟨p,q,r⟩;.rw[q];exact h.pg j p
  grind
 .intro j c;rcases key 4 j c with⟨p,q⟩|⟨p,q,r⟩;.rw[q];exact h.pc j p
  grind
 .intro j c;rcases key 3 j c with⟨p,q⟩|⟨p,q,r⟩;.rw[q];exact h.pn j p
  grind
end

end
section
section
variable {fH oZ aX:Own} {w0 w w':Wq} {a:Ad} {c7 i m k:Nat} {v:Nat->Wx} {l:Nat->bM} {v12:Wx} {IJ:bM}
def Ad.side(a:Ad)(m C S bw bl bi:Nat):Ad:={a with C:=fun j=>if j=m then C else a.C j,S:=fun j=>if j=m then S else a.S j,bw:=fun j=>if j=m then bw else a.bw j,bl:=fun j=>if j=m then bl else a.bl j,bi:=fun j=>if j=m then bi else a.bi j}
theorem ES.side(h:ES fH w0 a c7 i m k v l v12 IJ oZ w)(B:m<2)(A:(l 0).length=m){C}(r:NwC oZ (60*(m+1)) w a.aZ a.iB a.vM C w'):∃S bw d c aX,ES fH w0 (a.side m C S bw d c) c7 i (m+1) k v l v12 IJ aX w':=by
 obtain⟨S,bw,d,c,aX,u,x,y,n,o,z,q⟩:=r;have g:=h.kp' q;have b:=g.im;refine⟨S,bw,d,c,aX,g.qA,g.cf,g.gt,g.gi,g.gl,g.el,g.en,fun j f=>?_,fun j f=>?_,fun j f=>?_,g.pe,g.pg,g.pc,g.pn,g.gd,g.er,g.o0,g.kp,b.1,aj,b.2.2⟩
 .by_cases e:j=m;.subst e;refine⟨u,x,?_⟩;unfold Ad.side;grind
  .obtain⟨s,t,p⟩:=g.sd j aj;refine⟨s,t,?_⟩;unfold Ad.side;grind
 .unfold Ad.side;by_cases e:j=m;.simp only[dN e];exact⟨n.cell 0,o⟩
  .simp only[b_ e];exact g.cn j aj
 .unfold Ad.side;have e:j≠m:=aj;simp only[b_ e];exact g.px j f
def Ad.Yp(a:Ad)(i k b:Nat):Ad:={a with e:=fun j c=>if j=i/\c=k then b else a.e j c}
theorem ES.Yp(h:ES fH w0 a c7 i m k v l v12 IJ oZ w)(hk:k<8)(hi:i<2):∃C E D F B A,v12=.slice C k E/\(∀O,(eT #[78,78] O #[.slice C k E,(dB (w.heap.size+1) 1 1)]).run prog ((w.alloc (.cells M5.toArray 80)).alloc (.cells #[aK w.heap.size 0] 77))=.ok (.slice D (k+1) F) B)/\ES fH w0 (a.Yp i k w.heap.size) c7 i m (k+1) v l (.slice D (k+1) F) (IJ++[aK w.heap.size 0]) A B:=by
 obtain⟨C,E,U⟩:=iX h.gi;obtain⟨d,q⟩:=bU (w.alloc (.cells M5.toArray 80));obtain⟨G,h0⟩:=bU (fun x=>if x=w.heap.size then 210+8*i+k else oZ x:Own);have c:bJ w d:=by rw[q];exact(bP _ w).alloc (aI _) _
 have N:d.heap.size=w.heap.size+1:=by rw[q];simp
 have R:Kp [] oZ G w d:=⟨c.os,c.tape,c.output,c.size,fun b M _=>c.block b M,fun b M=>by grind⟩;have V:=h.kp' R;have K:aS d w.heap.size 80 M5:=by rw[q];exact aS.new w 80 M5
 have oB:G w.heap.size=210+8*i+k:=by grind
 obtain⟨P,I⟩:=bU (d.alloc (.cells [aK w.heap.size 0].toArray 77));have p:bJ d P:=by rw[I];exact(bP _ d).alloc (aI _) _
 have Q:aS P d.heap.size 77 [aK w.heap.size 0]:=by grind [aS.new]
 have n:=V.kp' (Kp.below (T:=[]) (oZ:=G) p);obtain⟨v6,B,A,run,L,o⟩:=gI qrg n.gi (aA d.heap.size 0) 1 1 [aK w.heap.size 0] rfl (fun z hz=>by rw[sD.1 hz];rfl) (fun t y hy=>by
  have e:(aA d.heap.size 0).add t=(aA d.heap.size t):=by rw[gT,gG]
  rw[e,Q.cell,hy]) aj
 obtain⟨D,F,rfl⟩:=iX L;have r:=n.rest o dZ;have H:=bW n.qA.1 o (by rw[n.qA.2];simp;omega);have J:A a.N=200:=by rw[o.ext _ n.qA.1.lt];exact n.qA.2
 have s:=h.im;have B6:aS B w.heap.size 80 M5:=bW (K.of_heap (p.block _ K.lt)) o (by grind);have h2:A w.heap.size=210+8*i+k:=by rw[o.ext _ (fT p.size)];exact oB
 have Z:IJ.length=k:=fT h.gi.len;refine⟨C,E,D,F,B,A,U,fun O=>by grind,?_⟩;refine⟨⟨H,J⟩,r.cf,fun f W=>(n.gt f W).kp o (by grind [qdm]),L,fun g u=>?_,fun j g X u=>?_,fun j g Y=>?_,r.sd,r.cn,h.px,h.pe,h.pg,h.pc,h.pn,r.gd,r.er,r.o0,n.kp.trans (o.mono fun x hx=>lu.2 (by grind)),s.1,s.2.1,aj,fun e=>aj⟩
 .show _=some (Value.pointer (some (aA (if i=i/\g=k then w.heap.size else a.e i g) 0)));by_cases e:g=k;.grind
  .rw[b_ (fun h=>e h.2),Av aj];exact h.gl g aj
 .unfold Ad.Yp;have S:¬(j=i/\g=k):=fun h=>aj;simp only[b_ S];exact r.el j g X u
 .unfold Ad.Yp;by_cases e:j=i/\g=k;.grind
  .simp only[b_ e];exact r.en j g aj
def Ad.elp(a:Ad)(i g c:Nat):Ad:={a with el:=fun j=>if j=i then g else a.el j,Ji:=fun j=>if j=i then c else a.Ji j}
theorem ES.close(h:ES fH w0 a c7 i m 8 v l v12 IJ oZ w)(p:i<2)(q:(l 1).length=i):∃g c,v12=(dB g 8 c)/\ES fH w0 (a.elp i g c) c7 (i+1) m 0 v l nZ [] oZ w:=by
 rcases h.gi with⟨_,e,_⟩|⟨g,cap,cs,ev,ho,hB,hc1,hc2,hc3,hc4,hc5,_⟩;.cases e
 have f:=h.im;refine⟨g,cap,ev,h.qA,h.cf,h.gt,.inl ⟨rfl,rfl,rfl⟩,fun d b=>aj,fun j d n b=>?_,fun j d o=>h.en j d aj,h.sd,h.cn,h.px,fun j n=>?_,h.pg,h.pc,h.pn,h.gd,h.er,h.o0,h.kp,aj,f.2.1,aj,fun _=>rfl⟩
 .unfold Ad.elp;by_cases e:j=i;.subst e;simp only[if_true];refine⟨?_,ho⟩;rw[hB.cell];have:=h.gl d b;grind
  .simp only[b_ e];exact h.el j d aj b
 .unfold Ad.elp;have e:j≠i:=aj;simp only[b_ e];exact h.pe j n
theorem Qe{t e n l}(h:GT oZ t e 1 w x n l)(o:0<n):∃g c,x=(dB g n c)/\oZ g=t/\(∀j y,l[j]?=some y->w.cell? (aA g j)=some y)/\∃r,aS w g e (l++r):=by
 rcases h with⟨_,e,_⟩|⟨g,cap,cs,rfl,ho,hB,hc1,hc2,hc3,hc4,hc5,_⟩;.omega
 have b:cs=l++cs.drop (n*1):=by grind [List.take_append_drop]
 rw[b]at hB;refine⟨g,cap,rfl,ho,fun j y d=>?_,_,hB⟩;have f:=(T9.1 d).1;rw[hB.cell,Av f,d]
theorem qdo(b c d j k)(e:k<8):M5=ends (Net.new b c d) j k:=by rcases(show k=0\/k=1\/k=2\/k=3\/k=4\/k=5\/k=6\/k=7 by omega)with rfl|rfl|rfl|rfl|rfl|rfl|rfl|rfl<;>rfl
def TL{l:bM}{y}(c:l[0]?=some x)(d:l[1]?=some y)(e:l.length=2):l=[x,y]:=by
 match l,e with
 |[a,b],_=>simp at c d;rw[c,d]
theorem ES.done(h:ES fH w0 a c7 2 2 0 v l v12 IJ oZ w)(c:∀f,f<5->(l f).length=2):∃d U,d.N=a.N/\d.aZ=a.aZ/\(d.iB=a.iB/\d.vM=a.vM)/\dW oZ w d (Net.new a.aZ a.iB a.vM) U (ends (Net.new a.aZ a.iB a.vM)):=by
 have G:=fun f K=>h.gt f K;obtain⟨g,u,B,M,f0,_⟩:=Qe (h.gt 0 aj) (by grind);obtain⟨n,x,C,N,f1,_⟩:=Qe (h.gt 1 aj) (by grind);obtain⟨H,y,D,O,f2,R,r⟩:=Qe (h.gt 2 aj) (by grind);obtain⟨I,z,E,P,f3,S,s⟩:=Qe (h.gt 3 aj) (by grind);obtain⟨J,A,F,Q,f4,T,t⟩:=Qe (h.gt 4 aj) (by grind);have o:=h.qA.1;unfold nt0 at o;rw[B,C,D,E,F,c 0 aj,c 1 aj,c 2 aj,c 3 aj,c 4 aj]at o;refine⟨{a with xb:=g,xc:=u,eb:=n,ec:=x,gb:=H,gc:=y,nb:=I,nc:=z,cb:=J,cc:=A},nZ,rfl,rfl,⟨rfl,rfl⟩,⟨o,h.qA.2⟩,fun i b=>⟨f0 i _ (h.px i (by grind)),?_⟩,fun i b=>⟨f1 i _ (h.pe i (by grind)),?_⟩,fun i k b e=>⟨(h.el i k b e).1,?_⟩,fun i k b e=>?_,⟨⟨R,?_⟩,O⟩,fun i b=>⟨[],.inl ⟨rfl,rfl,rfl⟩,rfl,List.nodup_nil,fun j L=>absurd L (jZ j)⟩,⟨⟨S,?_⟩,P⟩,⟨⟨T,?_⟩,Q⟩,.inl ⟨rfl,rfl,rfl⟩,fun i b=>h.sd i b,fun i b=>h.cn i b,h.gd,h.er,h.o0⟩;.show 180<=oZ g/\oZ g<200;rw[M];decide
 .show 180<=oZ n/\oZ n<200;rw[N];decide
 .show 180<=oZ (a.el i)/\oZ (a.el i)<200;rw[(h.el i k b e).2];omega
 .obtain⟨p,q⟩:=h.en i k (.inl ⟨b,e⟩);grind [qdo]
 .rw[TL (h.pg 0 (by grind)) (h.pg 1 (by grind)) (c 2 aj)]at r;exact r
 .rw[TL (h.pn 0 (by grind)) (h.pn 1 (by grind)) (c 3 aj)]at s;exact s
 .rw[TL (h.pc 0 (by grind)) (h.pc 1 (by grind)) (c 4 aj)]at t;exact t
end

end
section
section
variable {fH oZ:Own} {w0 w:Wq} {a:Ad} {c7 i m k:Nat} {v:Nat->Wx} {l:Nat->bM} {v12:Wx} {IJ:bM}
theorem ES.app'(h:ES fH w0 a c7 i m k v l v12 IJ oZ w)(N)(D:a.N=N)(f p s e:Nat)(x:f<5)(H:pos f=p)(I:sty f=s)(F:ety f=e)(u)(J:u.oneCell'=true)(G:(l f).length<=10)(K:f=0->u=(aK (a.C (l 0).length) 0))(C:f=1->u=(dB (a.el (l 1).length) 8 (a.Ji (l 1).length)))(y:f=2->u=nZ)(E:3<=f->u=(uZ 0)):∃c j d n q o b W r M t,w.cell? (aA N p)=some (.slice c j d)/\(∀L,(eT #[s,s] L #[.slice c j d,dB w.heap.size 1 1]).run prog (w.alloc (.cells #[u] e))=.ok (.slice n q o) b)/\b.cell? (aA N p)=some (.slice c j d)/\b.frozen? (aA N p)=false/\b.setCell (aA N p) (.slice n q o)=W/\Hid (ES fH w0 a c7 i m k M t v12 IJ r W)/\Hid ((t f).length=(l f).length+1/\∀g,g≠f->t g=l g):=by subst H I F D;obtain⟨c,j,d,n,q,o,b,r,A,run,z,f6,B⟩:=h.app f x u J G K C y E;refine⟨c,j,d,n,q,o,b,_,r,_,_,by rw[h.qA.1.cell,qdn a v f x,A],run,z,f6,rfl,B,aR,fun g y=>?_⟩;grind
end

def NwN(w:Wq)(b d c:Nat)(p:Wx)(w':Wq):Prop:=∃a oZ e,p=(aK a.N 0)/\a.aZ=b/\dW oZ w' a (Net.new b d c) e (ends (Net.new b d c))/\Kp TN (fun _=>0) oZ w w'/\a.iB=d/\a.vM=c
structure BuL (w0:Wq) (N mt wi tt c7 i:Nat) (w:Wq):Prop where
 ex:∃a v l oZ,a.N=N/\a.aZ=mt/\a.iB=wi/\a.vM=tt/\ES (fun _=>0) w0 a c7 i i 0 v l nZ [] oZ w/\∀f,f<5->(l f).length=i
def BuK(w0:Wq)(N b d c c7 i k:Nat)(v12:Wx)(w:Wq):Prop:=∃a v l IJ oZ,a.N=N/\a.aZ=b/\a.iB=d/\a.vM=c/\ES (fun _=>0) w0 a c7 i (i+1) k v l v12 IJ oZ w/\(l 0).length=i+1/\∀f,f≠0->f<5->(l f).length=i
theorem qiq(w g o h)(D:iM w)(E:mM w)(C:2<=w.heap.size):BuL w (w.heap.size+1) g o h w.heap.size 0 ((w.alloc (.cells #[iZ g,iZ o,iZ h] 45)).alloc (.cells #[nZ,nZ,nZ,nZ,uZ 0,iZ g,iZ o,iZ h,nZ,nZ] 48)):=by
 obtain⟨n,e⟩:=bU (w.alloc (.cells [iZ g,iZ o,iZ h].toArray 45));have p:bJ w n:=by rw[e];exact(bP _ w).alloc (aI _) _
 have y:aS n w.heap.size 45 [iZ g,iZ o,iZ h]:=by grind [aS.new]
 have t:n.heap.size=w.heap.size+1:=by rw[e];simp
 let a:Ad:=⟨w.heap.size+1,0,0,0,0,0,0,0,0,0,0,fun _=>0,fun _=>0,fun _ _=>0,fun _=>0,fun _=>0,fun _=>0,fun _=>0,fun _=>0,g,o,h⟩
 obtain⟨u,s⟩:=bU (n.alloc (.cells (nt0 a (fun _=>nZ)).toArray 48));have q:bJ n u:=by rw[s];exact(bP _ n).alloc (aI _) _
 have z:aS u n.heap.size 48 (nt0 a (fun _=>nZ)):=by grind [aS.new]
 rw[t]at z;have d:=p.trans (q.mono p.size);have key:BuL w (w.heap.size+1) g o h w.heap.size 0 u:=by
  refine⟨a,fun _=>nZ,fun _=>[],fun x=>if x=w.heap.size+1 then 200 else 0,rfl,rfl,rfl,rfl,⟨⟨z,dN rfl⟩,⟨y.of_heap (q.block _ y.lt),b_ aj⟩,fun f F=>.inl ⟨rfl,rfl,rfl⟩,.inl ⟨rfl,rfl,rfl⟩,fun B A=>aj,fun j B c _=>aj,fun j B c=>aj,fun j c=>aj,fun j c=>aj,fun j c=>by simp at c,fun j c=>by simp at c,fun j c=>by simp at c,fun j c=>by simp at c,fun j c=>by simp at c,?_,?_,b_ aj,?_,aj,aj,aj,fun _=>rfl⟩,fun f F=>rfl⟩;.exact⟨fun k A=>cell_of (E k A) (d.block 1 aj),b_ aj,dx C d.size⟩
  .exact cell_of D (d.block 0 aj)
  .exact⟨d.os,d.tape,d.output,d.size,fun b r _=>d.block b r,fun b r=>b_ aj⟩
 rw[s,e]at key;exact key
theorem Qg(F H G)(hm:mW F)(hw:mW H)(ht:mW G)(w)(hE:iM w)(hT:mM w)(M:2<=w.heap.size):WA prog 21 #[iZ F,iZ H,iZ G] w fun e w'=>∃p,e=.returned p/\NwN w (64+dw F 337) (16+dw H 300) (16+dw G 600) p w':=by
 have l1:=dR F 337 aj;have l2:=dR H 300 aj;have l3:=dR G 600 aj;obtain⟨X,T⟩:=bU (64+dw F 337);obtain⟨wi,V⟩:=bU (16+dw H 300);obtain⟨tt,U⟩:=bU (16+dw G 600);rw[<-T,<-V,<-U];have u:=aG (qiq w X wi tt hE hT M);have q1:(64:Int)+((dw F 337:Nat):Int)=(X:Int):=aj;have q2:(16:Int)+((dw H 300:Nat):Int)=(wi:Int):=aj;have q3:(16:Int)+((dw G 600:Nat):Int)=(tt:Int):=aj;have b1:X<=400:=aj;have b2:wi<=400:=aj;have b3:tt<=700:=aj;have b4:64<=X/\16<=wi/\16<=tt:=aj;have HB:=aG b4;clear hE hT M T V U b4;go_enter func21,ntmps21;go_wp2_with (go_at_call 32;refine(jm _ _ Nc kX _).mono ?_;rintro ee z ⟨rfl,ho⟩;subst ho);generalize hN:z.heap.size+1=N at *
 generalize he:z.heap.size=c7 at *
 clear hN he q1 q2 q3 l1 l2 l3;go_loopw [9] (fun s9 wr=>∃i:Nat,i<=2/\s9=(iZ i)/\Hid (BuL z N X wi tt c7 i wr)) (fun s9 _=>2-(eB s9).toNat);case atStart=>grind
 case round=>
  obtain⟨i,hi,rfl,HR⟩:=hrel;clear u;by_cases B:i<2
  .have hv:(i:Int)<2:=aj;obtain⟨a,v,l,oZ,Q,rfl,rfl,rfl,t,R⟩:=HR.out.ex;have I:=aG Q;clear Q;have c0:=t.cf.1.cell 0;have c1:=t.cf.1.cell 1;have c2:=t.cf.1.cell 2;simp only[jh,gN]at c0 c1 c2;have u:=aG R;have H0:=aG t;have hb:=HB.out;have HN:=aG (qmi oZ (60*(i+1)) aj a.aZ a.iB a.vM aj aj aj wr);clear R t hb HR;go_wp2_with (first
    |(
      go_at_call 33;refine HN.out.mono ?_;rintro e w3 ⟨C,rfl,hn⟩;obtain⟨S,bw,bl,bi,qP,O⟩:=H0.out.side B (u.out 0 aj) hn;obtain⟨a0,n0,k0,a2,n2,k2,w6,W,jY,v',l',d3,run,d6,f6,hW,P,A⟩:=O.app' N I.out 0 0 39 83 aj rfl rfl rfl (aK C 0) rfl (by rw[u.out 0 aj];omega) (fun _=>by rw[u.out 0 aj];unfold Ad.side;simp) (fun e=>aj) (fun e=>aj) (fun e=>aj);clear hn O)
    |(at_builtin;refine ji _ rfl _ _ _ _ rfl _ _ rfl rfl _ _ (run _) ?_))
   have J:Hid (BuK z N a.aZ a.iB a.vM c7 i 0 nZ W):=⟨a.side i C S bw bl bi,v',l',[],jY,I.out,rfl,rfl,rfl,P.out,by rw[A.out.1,u.out 0 aj],fun f hf hg=>by rw[A.out.2 f hf];exact u.out f hg⟩;clear P A hW d6 f6 d3 run H0 u HN c0 c1 c2;go_loopw [12,13] (fun hu E wr=>∃k:Nat,k<=8/\E=(iZ k)/\Hid (BuK z N a.aZ a.iB a.vM c7 i k hu wr)) (fun _ E _=>8-(eB E).toNat);case atStart=>exact⟨0,aj,rfl,J⟩
   case round=>
    obtain⟨k,hk,rfl,s⟩:=hrel;clear J;by_cases hj:k<8
    .have xe:(k:Int)<8:=aj;obtain⟨a1,v1,l1,IJ,fP,d,x,y,K,L,j,b⟩:=s.out;obtain⟨a0,c0,a2,c2,w7,hr,ev,run,h7⟩:=L.Yp hj B;have hc:Hid (BuK z N a.aZ a.iB a.vM c7 i (k+1) (.slice a2 (k+1) c2) w7):=⟨a1.Yp i k wr.heap.size,v1,l1,_,hr,d,x,y,K,h7,j,b⟩;subst ev;unfold M5 at run;clear d x y K L h7 j b s;go_wp2_with (first|(at_builtin;refine ji _ rfl _ _ _ _ rfl _ _ rfl rfl _ _ (run _) ?_)|go_in);go_roundw;case rel=>exact⟨k+1,aj,aR,hc⟩
     case measure=>simp[eB];omega
    .obtain rfl:k=8:=aj;obtain⟨a1,v1,l1,IJ,fP,d,x,y,K,L,j,b⟩:=s.out;obtain⟨g,c,ev,M⟩:=L.close B (b 1 aj aj);obtain⟨x0,x1,x2,y0,y1,y2,z0,W1,o1,v2,l2,d1,qx,t1,f1,hx,O,q3⟩:=M.app' N d 1 1 40 78 aj rfl rfl rfl (dB g 8 c) rfl (by rw[b 1 aj aj];omega) (fun e=>aj) (fun _=>by rw[b 1 aj aj];unfold Ad.elp;simp) (fun e=>aj) (fun e=>aj);obtain⟨Y,n⟩:=q3.out;have r2:(l2 2).length=i:=by rw[n 2 aj];exact b 2 aj aj
     obtain⟨x3,x4,x5,y3,y4,y5,z1,W2,o2,v3,l3,d2,C9,t2,f2,hy,h4,q4⟩:=O.out.app' N d 2 2 41 49 aj rfl rfl rfl nZ rfl aj (fun e=>aj) (fun e=>aj) (fun _=>rfl) (fun e=>aj);obtain⟨Z,o⟩:=q4.out;have r3:(l3 3).length=i:=by rw[o 3 aj,n 3 aj];exact b 3 aj aj
     obtain⟨x6,x7,x8,y6,y7,y8,z2,W3,o3,v4,l4,d3,D,t3,f3,xd,h5,q5⟩:=h4.out.app' N d 3 3 42 43 aj rfl rfl rfl (uZ 0) rfl aj (fun e=>aj) (fun e=>aj) (fun e=>aj) (fun _=>rfl);obtain⟨h8,q⟩:=q5.out;have r4:(l4 4).length=i:=by rw[q 4 aj,o 4 aj,n 4 aj];exact b 4 aj aj
     obtain⟨x9,xa,xb,y9,ya,yb,z3,W4,o4,v5,l5,d4,ha,t4,f4,Nk,P,q6⟩:=h5.out.app' N d 4 9 42 43 aj rfl rfl rfl (uZ 0) rfl aj (fun e=>aj) (fun e=>aj) (fun e=>aj) (fun _=>rfl);obtain⟨h9,r⟩:=q6.out;have HE:Hid (BuL z N a.aZ a.iB a.vM c7 (i+1) W4):=⟨a1.elp i g c,v5,l5,o4,d,x,y,K,P.out,fun f hf=>by
      rcases(show f=0\/f=1\/f=2\/f=3\/f=4 by omega)with rfl|rfl|rfl|rfl|rfl;.rw[r 0 aj,q 0 aj,o 0 aj,n 0 aj];exact j
      .rw[r 1 aj,q 1 aj,o 1 aj,Y,b 1 aj aj]
      .rw[r 2 aj,q 2 aj,Z,r2]
      .rw[r 3 aj,h8,r3]
      .rw[h9,r4]⟩
     subst ev;clear L M O h4 h5 P q3 q4 q5 q6 Y n Z o h8 q h9 r r2 r3 r4 j b d x y K s;go_wp2_with (first|(at_builtin;refine ji _ rfl _ _ _ _ rfl _ _ rfl rfl _ _ (qx _) ?_;clear qx;(try have qx:=C9);(try clear C9);(try have C9:=D);(try clear D);(try have D:=ha);(try clear ha))|go_in);go_roundw;case rel=>exact⟨i+1,aj,aR,HE⟩
     case measure=>simp[eB];omega
  .obtain rfl:i=2:=aj;obtain⟨a,v,l,oZ,rfl,rfl,rfl,rfl,t,R⟩:=HR.out.ex;obtain⟨a',vb,d,x,y,hM⟩:=t.done R;have HE:Hid (NwN z a.aZ a.iB a.vM (aK a.N 0) wr):=⟨a',oZ,vb,by rw[d],x,hM,t.kp,y⟩;clear t R hM d x y HR;go_wp2;go_ret;exact⟨_,rfl,HE.out⟩
end
def Wd(n:Net):Prop:=((n.x 1).bH 3).aY=22/\((n.x 1).bH 3).state=1
theorem M6(h:Wd n)(i)(s:Sm (n.x i) M):Wd (n.dM i M):=by grind [Wd,dD,cases Sm,gu]
def qdp:∀(i) {n n'},Wd n->FlR i n n'->Wd n'
 |0,n,n',h,e=>by cases e;exact h
 |i+1,n,n',h,e=>by obtain⟨a,e,M,b,r,rfl⟩:=e;have:=M6 (qdp i h e) i (BR r);exact this
def qdq(l):∀(j) {n n'},Wd n->CmR l j n n'->Wd n'
 |0,n,n',h,e=>by cases e;exact h
 |j+1,n,n',h,e=>by obtain⟨c,e,M,r,rfl⟩:=e;have a:=M6 (qdq l j h e) _ (Iq r);have b:=M6 a (l.getD j (0,0,[])).1 (TB _);exact b
theorem qdr(h:Wd n)(i k)(p:RdK ((n.x (1-i)).out k) ((n.x i).bH k) 4096):Wd (rdN n i k):=by grind [Wd,rdN,dD,fQ,cases RdK,gu]
def qds:∀(c) {n n'},Wd n->ReR c n n'->Wd n'
 |0,n,n',h,e=>by cases e;exact h
 |c+1,n,n',h,e=>by obtain⟨a,e,p,rfl⟩:=e;exact qdr (qds c h e) _ _ p
def qmk(h:Wd n)(r:RoR n n'):Wd n':=by obtain⟨g,i,c,d,j,e,f⟩:=r;have a:Wd (n.jK g i):=h;have b:=qdp 2 a d;exact qds 16 (qdq _ _ (show Wd {c with dJ:=[]}from b) e) f
theorem qjp(I):∀(c) {n n'},(n.x 1).bH 3=I->(n.x 1).ins.length=8->ReR c n n'->(n'.x 1).ins.length=8/\(c<=11->(n'.x 1).bH 3=I)/\(11<c->((I.rd (4096:Nat)).2.aY=22/\(I.rd (4096:Nat)).2.state=1)->Wd n')
 |0,n,n',h,hl,e=>by cases e;grind
 |c+1,n,n',h,hl,e=>by
  obtain⟨g,e,p,rfl⟩:=e;obtain⟨i,b,j⟩:=qjp I c h hl e;refine⟨?_,fun f=>?_,fun f d=>?_⟩
  .unfold rdN;by_cases a:(1:Nat)=c / 8;.rw[<-a,dD];show(md _ _ _).length=8;rw[jD];exact i
   grind [gu]
  .have:=b aj;unfold rdN;by_cases a:(1:Nat)=c / 8;.rw[<-a,dD,fQ,b_ aj];exact this
   grind [gu]
  .by_cases e:c=11;.subst e;have:=b aj;show Wd (rdN g 1 3);unfold Wd rdN;rw[dD,fQ,dN ⟨rfl,aj⟩,this];exact d
   grind [qdr]
theorem KL{M' a}(b:M.aM=[])(c:M.bn=false)(h:M.jA M' a):gQ 14 {M with bn:=false} [] q0 []=(M',a):=by grind [av.jA,av.kD,lf]
def wS:ByteArray:=⟨#[115,111,109,101,32,98,121,116,101,115,32,111,102,32,97,32,115,116,114,101,97,109]⟩
def wN:Net:=((Net.new 64 116 116).qG 0 3 wS).TG 0 3
def wA(a b:Wx):av×List (Nat×List Fr):=gQ 14 {((wN.jK a b).x 0)with bn:=false} [] q0 []
def wB(a b:Wx):av×List (Nat×List Fr):=gQ 14 {((wN.jK a b).x 1)with bn:=false} [] q0 []
def wF:Fr:=⟨4,3,0,0,0,true,0,0,wS,[]⟩
def wC(a b:Wx):av:={(wB a b).1 with aT:=(wB a b).1.aT.add 8 0 0,bn:=(wB a b).1.bn||fZ [norm wF]}
theorem qp1(a b):(wA a b).2=[(0,[wF])]:=bZ
theorem qp2(a b):(wB a b).2=[]:=bZ
def qp3(a b):(wB a b).1.aT.has 0=false:=bZ
theorem M7(a b):((wC a b).take (norm wF)).2=0/\(norm wF).aD=4/\((wC a b).take (norm wF)).1.ins.length=8:=⟨bZ,bZ,bZ⟩
def qri(a b):(((((wC a b).take (norm wF)).1.bH 3).rd (4096:Nat)).2.aY=22/\((((wC a b).take (norm wF)).1.bH 3).rd (4096:Nat)).2.state=1):=⟨bZ,bZ⟩
theorem Vu(n:Net)(i M):((n.dM i M).iW i).x i=M.emp:=by show(if i=i then(if i=i then M else n.x i).emp else _)=_;grind
def qir(M:av)(k):M.emp.bH k=M.bH k:=rfl
def qis(M:av):M.emp.ins=M.ins:=rfl
theorem qit(r:RoR wN n'):Wd n':=by
 obtain⟨a,b,S,⟨R,⟨H,v,e,d,N,rfl⟩,n,f,O,rfl⟩,I,q,s⟩:=r;have g:H=wN.jK a b:=v;subst g;have y:=KL (M:=(wN.jK a b).x 0) bZ bZ N;have z:=KL (M:=((wN.jK a b).vO 0 e d).x 1) bZ bZ O;have Q:wA a b=(e,d):=y;have C:wB a b=(n,f):=z;have K:d=[(0,[wF])]:=by grind [qp1]
 have L:f=[]:=by grind [qp2]
 have G:n=(wB a b).1:=by rw[C]
 subst K L G;have E:(((wN.jK a b).vO 0 e [(0,[wF])]).vO 1 (wB a b).1 []).dJ=[(1,0,[norm wF])]:=rfl;rw[E]at q;obtain⟨J,x,M,F,j⟩:=q;have h:J={(((wN.jK a b).vO 0 e [(0,[wF])]).vO 1 (wB a b).1 [])with dJ:=[]}:=x;subst h;obtain⟨X,o⟩:=bU (((wC a b).take (norm wF)).1);have k:I=(Net.dM {(((wN.jK a b).vO 0 e [(0,[wF])]).vO 1 (wB a b).1 [])with dJ:=[]} 1 M).iW 1:=j;have m:(wB a b).1.jJ 0 [norm wF] M 0:=F;unfold av.jJ at m;rw[qp3 a b,b_ kX]at m;obtain⟨u,w,P,t⟩:=m;have c:(wC a b).gH (norm wF) u w:=P;unfold av.gH at c;rw[b_ (by grind [M7]),b_ (by grind [M7])]at c;have B:=(congrArg Prod.fst c).trans o.symm;have A:=(congrArg Prod.snd c).trans (M7 a b).1;rw[dN A]at t;have i:=t.1;have p:=(M7 a b).2.2;have l:=qri a b;rw[<-o]at p l;have D:=i.trans B;rw[k,D]at s;have:=qjp (X.bH 3) 16 (by rw[Vu,qir]) (by rw[Vu,qis];exact p) s;grind
theorem qjq:∀(t) {n'},Aj (t+1) wN n'->Wd n'
 |0,n',h=>by grind [Aj,qit]
 |t+1,n',h=>by obtain⟨a,e,r⟩:=h;exact qmk (qjq t e) r
def IK(K:Kp TN (fun _=>0) oZ w w'):bJ w w':=
 ⟨K.os,K.tape,K.output,K.size,fun b a=>K.cK b a qjo⟩
def M8(n:Nat)(h:n<=1000):mW (n:Int):=by unfold mW;omega
def qdt(a b c B)(h:B<=1000000):qV (Net.new a b c) B:=⟨fun i _=>by show 0+24*(B+1)<dH/\0+B<_;unfold dH;omega,by show 0+B<_;omega⟩
theorem qdu(w)(P:iM w)(S:mM w)(i:2<=w.heap.size):bN 15 #[] w (.bool true) fun x=>bJ w x:=by
 have H:mW 0:=M8 0 aj;have U:mW 3:=M8 3 aj;have u:mW 100:=M8 100 aj;have K:Hid (WA prog 21 #[iZ 0,iZ 100,iZ 100] w fun e x=>∃N,e=.returned (aK N 0)/\Hid (∃a g B,a.N=N/\a.aZ=64/\dW g x a (Net.new 64 116 116) B (ends (Net.new 64 116 116))/\Kp TN (fun _=>0) g w x)):=by refine(Qg 0 100 100 H u u w P S i).mono ?_;rintro e x ⟨p,rfl,a,g,B,rfl,E,y,i,_⟩;exact⟨a.N,rfl,a,g,B,rfl,E,y,i⟩
 clear P S i;go_enter func15,ntmps15;go_wp2_with (go_at_call 21;refine K.out.mono ?_;rintro e k ⟨N,rfl,y⟩);obtain⟨a,g,B,rfl,Z,R,Q⟩:=y.out;clear y K;have b:dU a.aZ (Net.new 64 116 116):=by grind [O1]
 have I:dw 0 2=0:=rfl;have J:dw 3 8=3:=rfl;have c:dU a.aZ ((Net.new 64 116 116).qG 0 3 wS):=jq b 0 aj _ (NH (b.loc 0 aj) (b.two 0 aj) (b.mU 0 aj) _ _) (UR (b.bd 0 aj) _ _) rfl rfl;have r:dU a.aZ wN:=jq c 0 aj _ (Fw (c.loc 0 aj) (c.two 0 aj) (c.mU 0 aj) _) (J_ (c.bd 0 aj) _) rfl rfl;have C:Hid (bN 22 #[aK a.N 0,.agg #[iZ 1,iZ 0,iZ 3,iZ 0,.string wS]] k (.bool true) fun m=>Hid (ny g k a ((Net.new 64 116 116).qG 0 3 wS) m)):=by have:=Vo R b 0 3 0 H U wS kX;rw[I,J]at this;exact this
 have W:Hid (∀m,ny g k a ((Net.new 64 116 116).qG 0 3 wS) m->bN 22 #[aK a.N 0,.agg #[iZ 2,iZ 0,iZ 3,iZ 0,.string ⟨#[]⟩]] m (.bool true) fun l=>Hid (ny g k a wN l)):=fun m i=>by obtain⟨o,v,n,j⟩:=i;have:=KJ n c 0 3 0 H U ⟨#[]⟩;rw[I,J]at this;refine bK this ?_;rintro l q;exact⟨rfl,q.then j⟩
 have X:Hid (∀l,ny g k a wN l->bN 18 #[aK a.N 0,iZ 4] l (.bool true) fun d=>Hid (∃f,Wd f/\ny g k a f d)):=fun l n=>by obtain⟨o,v,j,z⟩:=n;have F:qV ((Net.new 64 116 116).qG 0 3 wS) 12:=qV.dM (qdt 64 116 116 12 aj) 0 (M:=((Net.new 64 116 116).x 0).dA 3 ((((Net.new 64 116 116).x 0).out 3).send wS.data.toList).1) rfl rfl;have A:qV wN 12:=qV.dM F 0 (M:=((((Net.new 64 116 116).qG 0 3 wS).x 0).dA 3 ((((Net.new 64 116 116).qG 0 3 wS).x 0).out 3).finish.1)) rfl rfl;have G:iP 0 ((Net.new 64 116 116).qG 0 3 wS):=iP.dM (Pw 64 116 116) 0 (M:=((Net.new 64 116 116).x 0).dA 3 ((((Net.new 64 116 116).x 0).out 3).send wS.data.toList).1) ⟨rfl,rfl,rfl,rfl,rfl⟩ rfl;have hg:iP 0 wN:=iP.dM G 0 (M:=((((Net.new 64 116 116).qG 0 3 wS).x 0).dA 3 ((((Net.new 64 116 116).qG 0 3 wS).x 0).out 3).finish.1)) ⟨rfl,rfl,rfl,rfl,rfl⟩ rfl;refine bK (MZ j r 4 0 aj ⟨0,aj,hg⟩ A aj) ?_;rintro d ⟨f,p,_,_,_,q⟩;exact⟨rfl,f,qjq 3 p,q.then z⟩
 have V:Hid (∀f d,Wd f->ny g k a f d->d.cell? (aA a.N 1)=some (dB a.eb 2 a.ec)/\d.cell? (aA a.eb 0)=some (dB (a.el 0) 8 (a.Ji 0))/\d.cell? (aA (a.el 0) 3)=some (aK (a.e 0 3) 0)/\d.cell? (aA (a.e 0 3) 4)=some (iZ 22)/\d.cell? (aA (a.e 0 3) 5)=some (iZ 1)/\bJ w d):=fun f d s j=>by
  obtain⟨o,v,z,h6⟩:=j;obtain⟨_,L,_⟩:=z.cells;obtain⟨E,Y,O⟩:=z.Ky 0 3 aj aj;refine⟨L,E,Y,?_,?_,IK (Q.trans h6)⟩;.rw[O];show some (Value.int .i64 (((f.x 1).bH 3).aY:Int))=_;rw[s.1];rfl
  .rw[O];show some (Value.int .i64 (((f.x 1).bH 3).state:Int))=_;rw[s.2];rfl
 have t:wS=⟨#[115,111,109,101,32,98,121,116,101,115,32,111,102,32,97,32,115,116,114,101,97,109]⟩:=rfl;rw[t]at C;clear R Q b c r I J t;go_wp2_with (first|(go_at_call 22;refine bK C.out ?_;rintro m i;clear C)|(go_at_call 22;refine bK (W.out _ i.out) ?_;rintro l n)|(go_at_call 18;refine bK (X.out _ n.out) ?_;rintro d j;obtain⟨f,s,T⟩:=j.out;obtain⟨L,c2,c3,c4,c5,A⟩:=V.out f d s T;have D:=aG A;clear A s T j));go_ret;exact⟨rfl,D.out⟩
structure StR where
 K:Int
 Sd:Int
 A:Int
 B:Int
 S:ByteArray
def MS:StR:=⟨0,0,0,0,⟨#[]⟩⟩
structure qml (w:Wq) (b off:Nat) (s:StR):Prop where
 c0:w.cell? (aA b off)=some (iZ s.K)
 c1:w.cell? (aA b (off+1))=some (iZ s.Sd)
 c2:w.cell? (aA b (off+2))=some (iZ s.A)
 c3:w.cell? (aA b (off+3))=some (iZ s.B)
 c4:w.cell? (aA b (off+4))=some (.string s.S)
 i1:mW s.Sd
 i2:mW s.A
 i3:mW s.B
 ls:s.S.size<=140737488351232
def StW(w:Wq)(d:Option Addr)(c:List StR):Prop:=∀j,j<c.length->∃b a,d=some (aA b a)/\qml w b (a+j*5) (c.getD j MS)
def StW.below{d f}(h:StW w d f)(i:bJ w w'):StW w' d f:=fun j k=>by obtain⟨b,c,e,s⟩:=h j k;have a:b<w.heap.size:=iq w (aA b _) (by rw[s.c0]);have g:=i.block b a;exact⟨b,c,e,cell_of s.c0 g,cell_of s.c1 g,cell_of s.c2 g,cell_of s.c3 g,cell_of s.c4 g,s.i1,s.i2,s.i3,s.ls⟩
def SmQ(a:List StR)(w:Wq)(e:Ending)(w':Wq):Prop:=∃b:Bool,e=.returned (.bool b)/\(b=true->a.length<=8192/\∀j,j<a.length->(a.getD j MS).S.size<=8192)/\w'=w
def TM{a e}(b)(c:e=.returned (.bool b))(d:b=true->a.length<=8192/\∀j,j<a.length->(a.getD j MS).S.size<=8192)(f:w'=w):SmQ a w e w':=⟨b,c,d,f⟩
theorem qdv{r}(a E)(o:StW w r a)(x:a.length<=140737488351232):WA prog 14 #[.slice r a.length E] w fun e H=>SmQ a w e H:=by
 have t:=aG o;obtain⟨m,f⟩:=bU a.length;have l:=aG f;rw[<-f]at x ⊢;clear o f;go_enter func14,ntmps14;go_wp2;go_loopw [3,4] (fun G k wr=>∃i n:Nat,i<=m/\k=(iZ i)/\G=(iZ n)/\m<=n/\n<=281474976710656/\Hid (wr=w/\∀j,j<i->(a.getD j MS).S.size<=n)) (fun _ k _=>m-(eB k).toNat);case atStart=>exact⟨0,m,eG _,rfl,rfl,aI _,aj,rfl,fun j p=>aj⟩
 case round=>
  obtain⟨i,n,I,rfl,rfl,B,C,c⟩:=hrel;by_cases z:i<m
  .have q:(i:Int)<(m:Int):=aj;by_cases A:n<=8192
   .have d:(n:Int)<=8192:=aj;obtain⟨b,F,rfl,g⟩:=t.out i (fT l.out);have v:=g.c4;rw[<-c.out.1]at v;have y:=g.ls;have u:Hid (wr=w/\∀j,j<i+1->(a.getD j MS).S.size<=n+(a.getD i MS).S.size):=⟨c.out.1,fun j p=>by
     by_cases e:j=i;.rw[e];omega
     .have:=c.out.2 j aj;omega⟩
    clear g c;generalize (a.getD i MS).S=D at *
    go_wp2;go_roundw;case rel=>exact⟨i+1,n+D.size,aj,aR,aR,aj,aj,u⟩
    grind [eB]
   .have d:¬((n:Int)<=8192):=aj;go_wp2;go_ret;exact TM false rfl (fun h=>by cases h) c.out.1
  .obtain rfl:i=m:=aj;by_cases A:n<=8192
   .have d:(n:Int)<=8192:=aj;have s:Hid (a.length<=8192/\∀j,j<a.length->(a.getD j MS).S.size<=8192):=by
     have:=l.out;exact⟨aj,fun j p=>fT (c.out.2 j aj)⟩
    go_wp2;go_ret;exact TM true rfl (fun _=>s.out) c.out.1
   .have d:¬((n:Int)<=8192):=aj;go_wp2;go_ret;exact TM false rfl (fun h=>by cases h) c.out.1
def PyS(oZ:Own)(w c:Wq)(a:Ad)(e d b i:Nat)(wr:Wq):Prop:=∃n,dU a.aZ n/\iP i n/\qV n (100000-i)/\n.dJ.length<=24*i/\ny oZ c a n wr/\(a.aZ=e/\a.iB=d/\a.vM=b)/\Kp TN (fun _=>0) oZ w c/\NL d b n/\∀j,j<2->(n.x j).next<=24*i
def PyS.below{e a}(h:PyS oZ w e a c f d i wr):bJ w wr:=by obtain⟨n,_,_,_,_,⟨o,j,g,b⟩,_,K,_⟩:=h;exact IK (K.trans b)
theorem qiu{f a k}(h:PyS oZ w f a c k d i wr)(F:i<8192)(y:c<=400)(s:StR)(A:mW s.Sd)(B:mW s.A)(C:mW s.B)(E:s.S.size<=8192):bN 22 #[aK a.N 0,.agg #[iZ s.K,iZ s.Sd,iZ s.A,iZ s.B,.string s.S]] wr (.bool true) fun e=>Hid (PyS oZ w f a c k d (i+1) e):=by obtain⟨n,p,g,b,l,⟨o,G,t,u⟩,m,K,z,x⟩:=h;rw[show 100000-i=100000-(i+1)+1 by omega]at b;refine bK (qic t p aj g _ b aj aj s.K s.Sd s.A s.B A B C s.S aj) ?_;rintro e ⟨D,q,r⟩;exact⟨rfl,D,q.p,q.g,q.nb,fT q.bl,r.then u,m,K,q.li _ _ z,fun j v=>by have:=q.nx j v;grind⟩
def PyQ(w:Wq)(b g d m:Nat)(e:Ending)(w':Wq):Prop:=∃N,e=.returned (.tuple #[aK N 0,.bool true])/\Hid (∃a c f,a.N=N/\PyS c w f a b g d m w')
theorem qdw{oa}(l oc n q o)(hm:mW n)(hw:mW q)(ht:mW o)(hO:StW w oa l)(hl:l.length<=8192)(hS:∀j,j<l.length->(l.getD j MS).S.size<=8192)(Z:iM w)(hT:mM w)(y:2<=w.heap.size):WA prog 16 #[.slice oa l.length oc,nZ,iZ n,iZ q,iZ o] w fun e u=>PyQ w (64+dw n 337) (16+dw q 300) (16+dw o 600) l.length e u:=by
 have l1:=dR n 337 aj;have l2:=dR q 300 aj;have l3:=dR o 600 aj;obtain⟨z,d⟩:=bU (64+dw n 337);have L:z<=400:=aj;obtain⟨Q,g⟩:=bU (16+dw q 300);obtain⟨P,f⟩:=bU (16+dw o 600);rw[<-d,<-g,<-f];have T:Hid (WA prog 21 #[iZ n,iZ q,iZ o] w fun e u=>∃N,e=.returned (aK N 0)/\Hid (∃a k,a.N=N/\PyS k w u a z Q P 0 u)):=by refine(Qg n q o hm hw ht w Z hT y).mono ?_;rintro e u ⟨p,rfl,a,k,vb,rfl,W,X,g2,x⟩;rw[<-d,<-g,<-f]at X;rw[<-d]at W;rw[<-g,<-f]at x;exact⟨a.N,rfl,a,k,rfl,_,by grind [O1],Pw _ _ _,qdt _ _ _ _ aj,eG _,⟨k,vb,X,Kp.refl _ _ _⟩,⟨W,x⟩,g2,qm5 _ _ _,fun _ _=>aI _⟩
 have HO:=aG hO;have HS:=aG hS;obtain⟨m,r⟩:=bU l.length;have U:=aG r;rw[<-r]at hl ⊢;clear hO hS r Z hT y d g f l1 l2 l3;go_enter func16,ntmps16;go_wp2_with (go_at_call 21;refine T.out.mono ?_;rintro e C ⟨N,rfl,Y⟩);obtain⟨a,k,rfl,hP⟩:=Y.out;have HP:=aG hP;clear hP Y T;go_loopw [13] (fun t wr=>∃i:Nat,i<=m/\t=(iZ i)/\Hid (PyS k w C a z Q P i wr)) (fun t _=>m-(eB t).toNat);case atStart=>grind
 case round=>
  obtain⟨i,hi,rfl,v⟩:=hrel;clear HP;by_cases h3:i<m
  .have h0:(i:Int)<(m:Int):=aj;obtain⟨b,h4,e',c⟩:=(HO.out.below v.out.below) i (fT U.out);subst e';obtain⟨s,E⟩:=bU (l.getD i MS);have D:Hid (s.S.size<=8192):=by rw[E];exact HS.out i (fT U.out)
   rw[<-E]at c;clear E;obtain⟨K,Sd,A,B,S⟩:=s;have HF:=aG (qiu v.out aj L ⟨K,Sd,A,B,S⟩ c.i1 c.i2 c.i3 D.out);have F:=c.c0;have G:=c.c1;have H:=c.c2;have I:=c.c3;have J:=c.c4;simp only at F G H I J;clear c v;go_wp2;go_loopw [14,15] (fun M O R=>M=.bool false/\O=(iZ 0)/\R=wr) (fun _ _ _=>0);case atStart=>exact⟨rfl,rfl,rfl⟩
   case round=>
    obtain⟨rfl,rfl,x⟩:=hrel;subst x;go_wp2_with (go_at_call 22;refine bK HF.out ?_;rintro w2 y);go_roundw;case rel=>exact⟨i+1,aj,aR,y⟩
    case measure=>simp[eB];omega
  .obtain rfl:i=m:=aj;have HE:Hid (∃V k C,V.N=a.N/\PyS k w C V z Q P i wr):=⟨a,k,C,rfl,v.out⟩;go_wp2;go_ret2;exact⟨_,rfl,HE⟩
