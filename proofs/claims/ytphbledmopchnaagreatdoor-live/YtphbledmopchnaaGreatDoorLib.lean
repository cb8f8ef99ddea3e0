import Derived.Test.YtphbledmopchnaaGreatDoorLia
open Go.RowKit renaming intOf->eB
set_option maxHeartbeats 8000000
set_option maxRecDepth 100000
namespace Go.Proofs.YtphbledmopchnaaGreatDoor.Sd
open Go.RowKit Go.Lib Mm Tryz
section
def Fs(oZ:Own)(w:World)(a:Ad)(B:Nat)(P:Net->Prop)(w':World):Prop:=∃n,P n/\fH a.bG n/\qo n B/\nR oZ w a n w'
section
variable {oZ:Own} {w wr:World} {a:Ad} {B:Nat} {P Q:Net->Prop}
theorem Fs.imp(h:Fs oZ w a B P wr)(hi:∀n,P n->Q n):Fs oZ w a B Q wr:=by obtain⟨n,p,q⟩:=h;exact⟨n,hi n p,q⟩
theorem ZB(h:Fs oZ w a (B+1) P wr)(c:a.bG<=400)(f:∀n,P n->n.dN=[]):Calls prog 22 #[aI a.N 0,.agg #[iZ 5,iZ 0,iZ 0,iZ 0,.string ⟨#[]⟩]] wr fun e w'=>e=.returned (.bool true)/\Hid (Fs oZ w a B (fun n'=>∃n,P n/\n'=n.iF) w'):=by
 obtain⟨n,p,hp,hb,o,vb,g,K⟩:=h;have d:nO 0:=by unfold nO;omega
 have b:=f n p;refine bN (O0 g hp ⟨fun i hi=>bV (hb.1 i hi),bV hb.2⟩ c (by rw[b];simp) 0 0 0 d d d ⟨#[]⟩) ?_;rintro w' ⟨n',j,k,l⟩;obtain rfl:=k b;exact⟨rfl,n.iF,⟨n,p,rfl⟩,j.p,Dz hb,l.then K⟩
theorem Kv(h:Fs oZ w a (B+1) P wr)(c:a.bG<=400)(i:Nat)(hi:i<2)(f:∀n,P n->n.dN.length<=1000):Calls prog 23 #[aI a.N 0,iZ i] wr fun e w'=>e=.returned (.bool true)/\Hid (Fs oZ w a B (fun n'=>∃n,P n/\∃M pk,(n.x i).jS M pk/\n'=n.yG i M pk/\n'.dN.length<=n.dN.length+24) w'):=by obtain⟨n,p,hp,hb,o,vb,g,K⟩:=h;have j:=f n p;refine bN (Kh g hp hb.to i hi c aj) ?_;rintro w' ⟨M,pk,d,b,k⟩;refine⟨rfl,n.yG i M pk,⟨n,p,M,pk,d,rfl,?_⟩,Ia hp i hi b,Wn hb i b (Du d),k.then K⟩;show(n.dN++(uq pk).map _).length<=_;rw[List.length_append,List.length_map];unfold uq;rw[List.length_map];have:=b.next;have:=b.top;omega
theorem ZC(h:Fs oZ w a B P wr)(i k:Nat)(hi:i<2)(c:k<8):Calls prog 31 #[aI a.N 0,iZ i,iZ k,iZ 4096] wr fun e w'=>e=.returned (.bool true)/\Hid (Fs oZ w a B (fun n'=>∃n,P n/\RdK ((n.x (1-i)).out k) ((n.x i).bF k) 4096/\n'=rdN n i k) w'):=by obtain⟨n,p,hp,hb,o,vb,b,K⟩:=h;refine bN (OU b hp i k 4096 hi c aj) ?_;rintro w' d;exact⟨rfl,_,⟨n,p,Wm ((hp.jT i hi).rd k) 4096,rfl⟩,jF hp _ hi _ (BJ (hp.loc _ hi) (hp.two _ hi) (hp.jT _ hi) _ _) (GJ (hp.bd _ hi) _ _) rfl rfl,hb.dY _ rfl rfl,d.then K⟩
theorem WK(h:Fs oZ w a B P wr):∃c n0 c0,wr.cell? (aB a.N 8)=some (.slice c n0 c0)/\wr.frozen? (aB a.N 8)=false/\Hid (∃n,P n/\n0=n.dN.length/\FK oZ w a n.dN (.slice c n0 c0) B {n with dN:=[]} (wr.setCell (aB a.N 8) nZ)):=by obtain⟨n,p,hp,hb,o,vb,b,K⟩:=h;obtain⟨_,_,_,_,_,c8,_⟩:=b.cells;obtain⟨c,c0,rfl⟩:=jk b.bg;have d:Kp [200] o o wr (wr.setCell (aB a.N 8) nZ):=Kp.set o wr _ _ _ (by rw[b.oP.2];simp);exact⟨c,_,c0,c8,b.oP.1.frozen 8,n,p,rfl,⟨o,_,b.Wi [] (.inl ⟨rfl,rfl,rfl⟩),K.trans (d.mono fun x e=>lC.2 (by simp at e;omega)),b.bg.kp d aP⟩,hp,hb,rfl⟩
theorem FK.fs{l:List (Nat×Nat×List Fr)}{vl:Value}{n:Net}(h:FK oZ w a l vl B n wr)(p:P n):Fs oZ w a B P wr:=by
 obtain⟨o,vb,h1,c,f⟩:=h.ex;have b:fH a.bG n:=by
  have:=h.p.sub [] (fun y d=>by cases d) n.now;have e:n={n with dN:=[]}:=by have:=h.b0;cases n;simp_all
  rw[e];exact this
 exact⟨n,p,b,h.nb,o,vb,h1,c⟩
end

theorem WL(c i j:Nat)(h1:c / 8=i)(b:c % 8=j){n3 n4:Net}(h:O3 c n3 n4)(p:RdK ((n4.x (1-i)).out j) ((n4.x i).bF j) 4096):O3 (c+1) n3 (rdN n4 i j):=by subst h1 b;exact⟨n4,h,p,rfl⟩
def RoC(n n3:Net):Prop:=∃n2,FlR 2 n.iF n2/\CmR n2.dN n2.dN.length {n2 with dN:=[]} n3
theorem Ic{oZ:Own}{w:World}{a:Ad}{n:Net}{vb:Value}(h:fu oZ w a n vb (ends n))(hp:fH a.bG n)(T:Nat)(hT:T<=1000000)(hb:qo n (3*T))(z:a.bG<=400):Calls prog 18 #[aI a.N 0,iZ T] w fun e w'=>e=.returned (.bool true)/\Fs oZ w a 0 (zG T {n with dN:=[]}) w':=by
 have f:Hid (Fs oZ w a (3*T) (fun n'=>n'=n) w):=⟨n,rfl,hp,hb,oZ,vb,h,Kp.refl _ _ _⟩;obtain⟨a0,n0,c0,c8,z8,x⟩:=WK f.out;obtain⟨w1,Y⟩:∃w1,w.setCell (aB a.N 8) nZ=w1:=⟨_,rfl⟩;rw[Y]at x;have H0:Hid (Fs oZ w a (3*(T-0)) (fun n'=>zG 0 {n with dN:=[]} n'/\n'.dN=[]) w1):=by obtain⟨n1,rfl,_,h1⟩:=x.out;exact h1.fs ⟨rfl,rfl⟩
 clear h hp hb f x;go_enter func18,ntmps18;go_wp2;go_loopw [5] (fun s5 wr=>∃t:Nat,t<=T/\s5=(iZ t)/\Hid (Fs oZ w a (3*(T-t)) (fun n'=>zG t {n with dN:=[]} n'/\n'.dN=[]) wr)) (fun s5 _=>T-(eB s5).toNat);case atStart=>exact⟨0,Nat.zero_le _,rfl,H0⟩
 case round=>
  obtain⟨t,ht,rfl,b⟩:=hrel;clear H0 c8 z8 Y;by_cases hm:t<T
  ·have h9:(t:Int)<(T:Int):=aj;obtain⟨B,hB⟩:=bZ (3*(T-(t+1)));have HB:=aG hB;have e3:3*(T-t)=B+2+1:=aj;have o:=aG (ZB (P:=fun n'=>zG t {n with dN:=[]} n'/\n'.dN=[]) (by have:=b.out;rw[e3]at this;exact this) z (fun n h=>h.2));clear b e3 hB;go_wp2_with (go_at_call 22;refine bN o.out ?_;rintro w2 p);clear o;have K:Hid (Fs oZ w a (B+2-0) (fun n'=>∃n1,zG t {n with dN:=[]} n1/\FlR 0 n1.iF n'/\n'.dN.length<=24*0) w2):=p.out.imp (by
    rintro n' ⟨n1,⟨p1,p2⟩,rfl⟩;exact⟨n1,p1,rfl,by show n1.dN.length<=_;rw[p2];simp⟩)
   clear p;go_loopw [6,7] (fun G s7 wr=>G=.bool true/\∃i:Nat,i<=2/\s7=(iZ i)/\Hid (Fs oZ w a (B+2-i) (fun n'=>∃n1,zG t {n with dN:=[]} n1/\FlR i n1.iF n'/\n'.dN.length<=24*i) wr)) (fun _ s7 _=>2-(eB s7).toNat);case atStart=>exact⟨rfl,0,aj,rfl,K⟩
   case round=>
    obtain⟨rfl,i,hi,rfl,b⟩:=hrel;clear K;by_cases Nn:i<2
    ·have h8:(i:Int)<2:=aj;have e2:B+2-i=B+2-(i+1)+1:=aj;have o:=aG (Kv (P:=fun n'=>∃n1,zG t {n with dN:=[]} n1/\FlR i n1.iF n'/\n'.dN.length<=24*i) (by have:=b.out;rw[e2]at this;exact this) z i Nn (fun n h=>by obtain⟨_,_,_,q⟩:=h;omega));clear b e2;go_wp2_with (go_at_call 23;refine bN o.out ?_;rintro w2 p);clear o;have f:Hid (Fs oZ w a (B+2-(i+1)) (fun n'=>∃n1,zG t {n with dN:=[]} n1/\FlR (i+1) n1.iF n'/\n'.dN.length<=24*(i+1)) w2):=p.out.imp (by
      rintro n' ⟨n2,⟨n1,p1,p2,H⟩,M,pk,p4,p5,p6⟩;exact⟨n1,p1,⟨n2,p2,M,pk,p4,p5⟩,aj⟩)
     clear p;go_roundw;case rel=>exact⟨rfl,i+1,aj,aP,f⟩
     case measure=>simp[eB];omega
    ·obtain rfl:i=2:=aj;obtain⟨a0,n0,c0,c8,z8,x⟩:=WK b.out;obtain⟨w3,Z⟩:∃w3,wr.setCell (aB a.N 8) nZ=w3:=⟨_,rfl⟩;rw[Z,show B+2-2=B by omega]at x;obtain⟨n2,⟨n1,p1,p2,H⟩,W,V⟩:=x.out;have wM:=aG (dB p1 p2);have N:=aG W;have ho:n0<=48:=aj;have J:Hid (∃n3,CmR n2.dN 0 {n2 with dN:=[]} n3/\FK oZ w a n2.dN (.slice a0 n0 c0) B n3 w3):=⟨_,rfl,V⟩;clear x p1 p2 H W V b;simp only[show((2:Nat):Int)=2 from rfl];go_wp2;clear c8 z8 Z;go_loopw [6,10] (fun G C wr=>G=.bool true/\∃k:Nat,k<=n0/\C=(iZ k)/\Hid (∃n3,CmR n2.dN k {n2 with dN:=[]} n3/\FK oZ w a n2.dN (.slice a0 n0 c0) B n3 wr)) (fun _ C _=>n0-(eB C).toNat);case atStart=>exact⟨rfl,0,Nat.zero_le _,rfl,J⟩
     case round=>
      obtain⟨rfl,k,hk,rfl,b⟩:=hrel;clear J;by_cases hg:k<n0
      ·have Zn:(k:Int)<(n0:Int):=aj;obtain⟨n3,q1,s⟩:=b.out;have m:k<n2.dN.length:=bV N.out;obtain⟨g,cg,ev,d0,d1⟩:=s.at k m;obtain⟨c,h0⟩:=s.mem k m;have A:=fun w' hb=>Zy (s.below (w':=w') hb) z k m;obtain⟨y,r⟩:=bZ (n2.dN.getD k (0,0,[]));simp only[Value.slice.injEq]at ev;obtain⟨rfl,hz,rfl⟩:=ev;clear hz;obtain⟨i,d⟩:=bZ y.1;obtain⟨D,l⟩:=bZ (⟨(bT y.2.1 y.2.2).toArray⟩:ByteArray);unfold sV at d1 A;rw[<-r]at d0 d1 c h0;rw[<-d]at d0 c;rw[<-l]at d1;obtain⟨x0,x1⟩:=s.xc i c;have R:Hid (Calls prog 29 #[(aI (a.C i) 0),.string D] wr.drew fun e u=>e=.returned (.tuple #[iZ 0,(iZ (-1))])/\(u.cell? (aB a.N 0)=some (dP a.xb 2 a.xc)/\u.cell? (aB a.xb i)=some (aI (a.C i) 0)/\u.cell? (aB g (k*2))=some (iZ i)/\u.cell? (aB g (k*2+1))=some (.string D))/\Hid (∃n4,CmR n2.dN (k+1) {n2 with dN:=[]} n4/\FK oZ w a n2.dN (dP g n0 c0) B n4 u)):=by
        have h5:=A wr.drew ⟨rfl,rfl,rfl,Nat.le_refl _,fun _ _=>rfl⟩;rw[<-r,<-d,<-l]at h5;refine bN h5 ?_;rintro u ⟨M,r1,r2,I⟩;obtain⟨g',ha,U,S,v⟩:=I.at k m;simp only[Value.slice.injEq,Option.some.injEq,Addr.mk.injEq]at U;obtain⟨⟨rfl,_,_⟩,_,_⟩:=U;unfold sV at v;rw[<-r,<-d]at S;rw[<-r,<-l]at v;refine⟨rfl,⟨(I.xc i c).1,(I.xc i c).2,S,v⟩,_,⟨n3,q1,?_,M,?_,rfl⟩,?_⟩;·rw[<-r];exact r2
        ·rw[<-r,<-d];exact r1
        ·rw[<-r,<-d];exact I
       have hc:(0:Int)<=(i:Int):=aj;have he:(i:Int)<2:=aj;have hf:(0:Int)<=(k:Int):=aj;clear A r d l h0 q1 s b;go_wp2;go_region_held3 (fun y=>y.cell? (aB a.N 0)=some (dP a.xb 2 a.xc)/\y.cell? (aB a.xb i)=some (aI (a.C i) 0)/\y.cell? (aB g (k*2))=some (iZ i)/\y.cell? (aB g (k*2+1))=some (.string D)) (first|assumption|go_keep) ((first|(go_at_call 29;refine bN R.out ?_;rintro u ⟨h4,X⟩)))
       obtain⟨_,_,s0,_⟩:=h4;have h3:Hid (Calls prog 30 #[aI a.N 0,iZ i] u fun e w6=>e=.returned (.bool true)/\Hid (∃n4,CmR n2.dN (k+1) {n2 with dN:=[]} n4/\FK oZ w a n2.dN (dP g n0 c0) B n4 w6)):=by obtain⟨n4,r1,r2⟩:=X.out;refine bN (Zz r2 i c) ?_;rintro w6 I;exact⟨rfl,n4,r1,I⟩
       clear X d0 d1 x0 x1 R;go_wp2_with (go_at_call 30;refine bN h3.out ?_;rintro w6 h6);go_roundw;case rel=>exact⟨rfl,k+1,aj,aP,h6⟩
       case measure=>simp[eB];omega
      ·obtain rfl:k=n0:=aj;have O:Hid (Fs oZ w a B (fun n'=>∃n1 n3,zG t {n with dN:=[]} n1/\RoC n1 n3/\O3 (8*0) n3 n'/\n'.dN=[]) wr):=by
        obtain⟨n3,q1,s⟩:=b.out;have hn:=N.out;rw[hn]at q1;exact s.fs ⟨n1,n3,wM.out.1,⟨n2,wM.out.2,q1⟩,rfl,s.b0⟩
       clear b;go_wp2;go_loopw [6,14] (fun G E wr=>G=.bool true/\∃i:Nat,i<=2/\E=(iZ i)/\Hid (Fs oZ w a B (fun n'=>∃n1 n3,zG t {n with dN:=[]} n1/\RoC n1 n3/\O3 (8*i) n3 n'/\n'.dN=[]) wr)) (fun _ E _=>2-(eB E).toNat);case atStart=>exact⟨rfl,0,aj,rfl,O⟩
       case round=>
        obtain⟨rfl,i,hi,rfl,b⟩:=hrel;clear O;by_cases Nn:i<2
        ·have h8:(i:Int)<2:=aj;have L:Hid (Fs oZ w a B (fun n'=>∃n1 n3,zG t {n with dN:=[]} n1/\RoC n1 n3/\O3 (8*i+0) n3 n'/\n'.dN=[]) wr):=b.out;clear b;go_wp2;go_loopw [6,15] (fun G F wr=>G=.bool true/\∃k:Nat,k<=8/\F=(iZ k)/\Hid (Fs oZ w a B (fun n'=>∃n1 n3,zG t {n with dN:=[]} n1/\RoC n1 n3/\O3 (8*i+k) n3 n'/\n'.dN=[]) wr)) (fun _ F _=>8-(eB F).toNat);case atStart=>exact⟨rfl,0,aj,rfl,L⟩
         case round=>
          obtain⟨rfl,j,hj,rfl,b⟩:=hrel;clear L;by_cases h7:j<8
          ·have hr:(j:Int)<8:=aj;have o:=aG (ZC b.out i j Nn h7);clear b;go_wp2_with (go_at_call 31;refine bN o.out ?_;rintro w2 p);clear o;have f:Hid (Fs oZ w a B (fun n'=>∃n1 n3,zG t {n with dN:=[]} n1/\RoC n1 n3/\O3 (8*i+(j+1)) n3 n'/\n'.dN=[]) w2):=p.out.imp (by
            rintro n' ⟨n4,⟨n1,n3,p1,p2,H,p4⟩,p5,rfl⟩;exact⟨n1,n3,p1,p2,WL (8*i+j) i j aj aj H p5,p4⟩)
           clear p;go_roundw;case rel=>exact⟨rfl,j+1,aj,aP,f⟩
           case measure=>simp[eB];omega
          ·obtain rfl:j=8:=aj;have f:Hid (Fs oZ w a B (fun n'=>∃n1 n3,zG t {n with dN:=[]} n1/\RoC n1 n3/\O3 (8*(i+1)) n3 n'/\n'.dN=[]) wr):=b.out;clear b;go_wp2;go_roundw;case rel=>exact⟨rfl,i+1,aj,aP,f⟩
           case measure=>simp[eB];omega
        ·obtain rfl:i=2:=aj;have f:Hid (Fs oZ w a (3*(T-(t+1))) (fun n'=>zG (t+1) {n with dN:=[]} n'/\n'.dN=[]) wr):=by
          rw[<-HB.out];exact b.out.imp (by rintro n' ⟨n1,n3,p1,⟨n2,p2,p5⟩,H,p4⟩;exact⟨⟨n1,p1,n2,p2,n3,p5,H⟩,p4⟩)
         clear b;go_wp2;go_roundw;case rel=>exact⟨t+1,aj,aP,f⟩
         case measure=>simp[eB];omega
  ·obtain rfl:t=T:=aj;have HE:Hid (Fs oZ w a 0 (zG t {n with dN:=[]}) wr):=by
    have:=b.out;rw[Nat.sub_self]at this;exact this.imp fun n h=>h.1
   go_wp2;go_ret;exact⟨rfl,HE.out⟩
