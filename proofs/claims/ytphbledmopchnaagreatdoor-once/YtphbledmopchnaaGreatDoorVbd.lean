import Derived.Laws.IdiomStrings
import Derived.Defers
import Derived.Recover
import Derived.Test.YtphbledmopchnaaGreatDoorVae
import Derived.Deep.CutRange
import Derived.Deep.RegionHeld3
open Go.Builtin renaming append_->eT
open Go.RowKit renaming intOf->eB
open UInt8 renaming toNat->fA
set_option maxHeartbeats 4000000
set_option maxRecDepth 100000
open Go renaming World->Wq,Value->WA,Calls->WB,bodyPost_ret->Vl,Addr->V3
set_option linter.all false
namespace Go.Proofs.YtphbledmopchnaaGreatDoor
open Go.RowKit Go.Lib Go.Shelf Mm Tryz
variable {B B0 D a c d e f g i j k m n p t:Nat}{E:Prop}{K:Act->Wq->Prop}{P:Program}{Q:Exit->Act->Wq->Prop}{b:Array Oper}{body l:List UInt8}{o:Oper}{s y:WA}{v w w' wr:Wq}
structure iM (w:Wq) (rb yb yo cap:Nat) (body:List UInt8) (p bg:Nat):Prop where
 bY:aL w rb 257 [.slice (some (ay yb yo)) body.length cap,iZ p,iZ bg]
 bts:dG w (some (ay yb yo)) body
 le:p<=body.length
 au:body.length<cap
 cap:cap<=9223372036854775807
 ne:rb≠yb
structure f_ (rb:Nat) (w w':Wq):Prop where
 os:w'.os=w.os
 tape:w'.tape=w.tape
 output:w'.output=w.output
 size:w'.heap.size=w.heap.size
 block:∀k,k≠rb->w'.heap[k]?=w.heap[k]?
def f_.refl(a:Nat)(w:Wq):f_ a w w:=⟨rfl,rfl,rfl,rfl,fun _ _=>rfl⟩
def f_.trans{d:Nat}{a b c:Wq}(h:f_ d a b)(k:f_ d b c):f_ d a c:=
 ⟨k.os.trans h.os,k.tape.trans h.tape,k.output.trans h.output,k.size.trans h.size,fun i e=>(k.block i e).trans (h.block i e)⟩
def f_.set(a o q:Nat)(v:WA)(w:Wq):f_ a w ((w.setCell (ay a o) v).drewN q):=
 ⟨rfl,rfl,rfl,aM,fun k b=>qmd _ _ _ _ b⟩
def dG.of{a:Option V3}(h:dG w a l)(e:∀x:V3,a=some x->w'.heap[x.block]?=w.heap[x.block]?):dG w' a l:=fun j g=>by obtain⟨b,c,d,f⟩:=h j g;exact⟨b,c,d,cell_of f (e (ay b c) d)⟩
def iM.set{b cap:Nat}(h:iM w b e f cap body p c)(a q:Nat)(g:a<=body.length):iM ((w.setCell (ay b 1) (iZ a)).drewN q) b e f cap body a c:=
 ⟨(h.bY.setCell 1 _).of_heap rfl,h.bts.of (fun x d=>by simp at d;subst d;exact qmd _ _ _ _ (qna h.ne)),g,h.au,h.cap,h.ne⟩
def iM.of{w w':Wq}{a b e cap:Nat}{body:List UInt8}{p c:Nat}(h:iM w a b e cap body p c)(f:w'.heap[a]?=w.heap[a]?)(g:w'.heap[b]?=w.heap[b]?):iM w' a b e cap body p c:=
 ⟨h.bY.of_heap f,h.bts.of (fun x d=>by simp at d;subst d;exact g),h.le,h.au,h.cap,h.ne⟩
def iM.drewN{w:Wq}{b c d cap:Nat}{body:List UInt8}{p a:Nat}(h:iM w b c d cap body p a)(q:Nat):iM (w.drewN q) b c d cap body p a:=h.of rfl rfl
def f_.drewN(a q:Nat)(w:Wq):f_ a w (w.drewN q):=⟨rfl,rfl,rfl,rfl,fun _ _=>rfl⟩
def iM.byte{cap:Nat}(h:iM w k c d cap body p e)(j:Nat)(g:j<body.length):w.cell? (ay c (d+j))=some (.int .u8 ((body[j].toNat:Nat):Int)):=by obtain⟨b,i,a,f⟩:=h.bts j g;simp at a;obtain⟨rfl,rfl⟩:=a;exact f
def rX{b cap:Nat}(p n:Nat)(h:iM w a b c cap body p f)(q:p+n<=body.length):qH 214 #[aJ a 0,uZ n] w (.slice (some (ay b (c+p))) n (cap-p)) fun l=>iM l a b c cap body (p+n) f/\f_ a w l:=by
 have F:w.cell? (ay a 0)=some (.slice (some (ay b c)) body.length cap):=h.bY.cell 0;have G:w.cell? (ay a 1)=some (iZ p):=h.bY.cell 1;have H:=h.bY.frozen 1;have e:=h.au;have i:=h.cap;have u:(body.length:Int)-(p:Int)=((body.length-p:Nat):Int):=aj;have v:¬(body.length-p<n):=aj;have x:(p:Int)+(n:Int)=((p+n:Nat):Int):=aj;have y:((body.length-p:Nat):Int)<9223372036854775808:=aj;have z:(n:Int)<9223372036854775808:=aj;have A:((p+n:Nat):Int)<9223372036854775808:=aj;have B:(p:Int)<=((p+n:Nat):Int):=aj;have C:((p+n:Nat):Int)<=(cap:Int):=aj;have D:¬(cap=p):=aj;have E:(p+n)-p=n:=aj;have o:=aF (fun r s=>(h.drewN r).set (p+n) s q);clear h;generalize k:p+n=m at *
 generalize g:body.length=N at *
 generalize j:N-p=d at *
 have t:=aF (dw k (dw g j));clear k g j;go_enter func214,ntmps214;go_wp2_with fail;go_quiet (fail);go_wp2_with fail;go_quiet (fail);go_wp2;go_ret;exact⟨rfl,o.out _ _,(f_.drewN a _ w).trans (f_.set a 1 _ _ _)⟩
def rY{cap:Nat}(h:iM w a e f cap body p c)(m:p<body.length):qH 213 #[aJ a 0] w (.int .u8 ((body[p].toNat:Nat):Int)) fun b=>iM b a e f cap body (p+1) c/\f_ a w b:=by have l:=aF (rX p 1 h aj);have g:=aF (fun b (h':iM b a e f cap body (p+1) c)=>h'.byte p m);clear h;generalize body[p].toNat=X at g;go_enter func213,ntmps213;go_wp2_with fail;refine bH l.out ?_;rintro n ⟨d,i⟩;have o:=g.out n d;have j:=aF d;have k:=aF i;clear d i;go_wp2;go_ret;exact⟨rfl,j.out,k.out⟩
def FL{b cap:Nat}(h:iM w a b c cap body p e):qH 162 #[aJ a 0] w (.bool (decide (p=body.length))) fun f=>∃q,f=w.drewN q:=by
 have g:w.cell? (ay a 0)=some (.slice (some (ay b c)) body.length cap):=h.bY.cell 0;have i:w.cell? (ay a 1)=some (iZ p):=h.bY.cell 1;have d:Hid (((p:Int)==(body.length:Int))=decide (p=body.length)):=by unfold Hid;rw[qpn,beq_iff_eq,decide_eq_true_iff];omega
 clear h;go_enter func162,ntmps162;go_wp2_with fail;go_quiet (fail);go_wp2;go_ret;exact⟨dK d.out,nq,rfl⟩
def C9(r:WA)(n a:Nat)(w:Wq)(h:a<=n)(g:n<18446744073709551616):qH 346 #[r,uZ n,uZ a] w (uZ ((n-a:Nat):Int)) fun b=>b=w:=by
 have c:¬((n:Int)<(a:Int)):=aj;have e:(n:Int)-(a:Int)=((n-a:Nat):Int):=aj;have f:((n-a:Nat):Int)<18446744073709551616:=aj;generalize n-a=d at *
 go_enter func346,ntmps346;go_wp2;go_ret;exact⟨rfl,rfl⟩
def He(T X:Nat)(b:T<72057594037927936)(a:X<256):bits .or .u64 ((T:Int)*256) (X:Int)=((T*256+X:Nat):Int):=by have h:=u64_or_nat (T*256) X aj aj;rw[Nat.or_comm,zx X T 8 a,Nat.add_comm]at h;rw[<-h];simp
def yJ(l:List UInt8)(a k:Nat)(h:k<l.length):Num.val a (l.take (k+1))=Num.val a (l.take k)*256+(l[k]).toNat:=by rw[qqs h,Jq]
def V4{cap:Nat}{s:Nat}(h:iM w f t i cap body p s)(hp:p+1<=body.length)(R:(body[p]'aj).toNat / 64=0):qH 161 #[aJ f 0] w (uZ ((Num.val ((body[p]'aj).toNat % 64) ((body.drop (p+1)).take 0):Nat):Int)) fun g=>iM g f t i cap body (p+1) s/\f_ f w g:=by
 have W:=aF (rY h aj);have P:=aF (fun g (h':iM g f t i cap body (p+1) s)=>rX (p+1) 0 h' aj);have L:=aF (fun g (h':iM g f t i cap body (p+1+0) s) j (G:j<0)=>h'.byte (p+1+j) aj);have hX:=Crc.oz (body[p]'aj);generalize (body[p]'aj).toNat=X at *
 have e1:bits .and .u8 (X:Int) 63=((X % 64:Nat):Int):=by have D:X&&& 63=X % 64:=qqt X 6;rw[<-D];exact u8_and_nat X 63 aj aj
 have e2:(X:Int) / 64=0:=aj;have e3:((X % 64:Nat):Int)<64:=aj;obtain⟨a,b⟩:=bT ((body.drop (p+1)).take 0);have q:a.length=0:=by rw[b,qm8,qms];omega
 have y:Hid (∀j (G:j<0),∃x T:Nat,x<256/\body[p+1+j]?.map fA=some x/\T=Num.val (X % 64) (a.take j)/\T<72057594037927936/\Num.val (X % 64) (a.take (j+1))=T*256+x):=fun j G=>by
  refine⟨(a[j]'aj).toNat,_,Crc.oz _,?_,rfl,?_,yJ a _ j aj⟩
  ·have:a[j]?=body[p+1+j]?:=by rw[b,qm6,bM G,qmu]
   rw[<-this,qm3 aj];rfl
  ·have:=zy (a.take j) (X % 64) 1 aj;have S:(a.take j).length=j:=rR;rw[S]at this;have h7:(256:Nat) ^ (1+j)<=256 ^ 7:=qpk gP aj;omega
 have N:Hid (Num.val (X % 64) (a.take 0)=Num.val (X % 64) a):=by unfold Hid;rw[qmo aj]
 have A:Hid (Num.val (X % 64) (a.take 0)=X % 64):=rfl;rw[<-b];clear R h b q;generalize X % 64=C at *
 go_enter func161,ntmps161;go_wp2_with fail;refine bH W.out ?_;rintro Z ⟨K,l⟩;have z:=aF (P.out Z K);have Y:=aF l;clear K l;go_wp2_with fail;refine bH z.out ?_;rintro J ⟨c,m⟩;have u:=aF c;have v:=aF (Y.out.trans m);have O:=aF (L.out J c);clear c m;go_wp2_with fail;go_loopw [4,19] (fun V B wr=>∃k:Nat,k<=0/\B=(iZ k)/\V=(uZ (Num.val C (a.take k):Nat))/\wr=J) (fun _ B _=>0-(eB B).toNat);case atStart=>exact⟨0,qm2 _,rfl,by rw[A.out],rfl⟩
 case round=>
  obtain⟨k,hk,rfl,rfl,rfl⟩:=hrel;by_cases r:k<0
  ·have I:(k:Int)<0:=aj;obtain⟨x,T,U,d,H,E,e⟩:=y.out k r;have F:=O.out k r;have o:((body[p+1+k]'aj).toNat:Nat)=x:=by
    rw[qm3 aj]at d;simpa using d
   rw[o,show i+(p+1+k)=i+(p+1)+k by omega]at F;have Q:=He T x E U;obtain⟨T',n⟩:=bT (T*256+x);rw[<-n]at Q e;rw[<-H];have M:=aF e;clear e n o d H;go_wp2_with fail;go_roundw;case rel=>exact⟨k+1,aj,by go_num,by rw[M.out],trivial⟩
   case measure=>simp[eB];omega
  ·obtain rfl:k=0:=aj;rw[N.out];go_wp2;go_ret;exact⟨rfl,u.out,v.out⟩
def V5{cap:Nat}{s:Nat}(h:iM w f t i cap body p s)(hp:p+2<=body.length)(R:(body[p]'aj).toNat / 64=1):qH 161 #[aJ f 0] w (uZ ((Num.val ((body[p]'aj).toNat % 64) ((body.drop (p+1)).take 1):Nat):Int)) fun g=>iM g f t i cap body (p+2) s/\f_ f w g:=by
 have W:=aF (rY h aj);have P:=aF (fun g (h':iM g f t i cap body (p+1) s)=>rX (p+1) 1 h' aj);have L:=aF (fun g (h':iM g f t i cap body (p+1+1) s) j (G:j<1)=>h'.byte (p+1+j) aj);have hX:=Crc.oz (body[p]'aj);generalize (body[p]'aj).toNat=X at *
 have e1:bits .and .u8 (X:Int) 63=((X % 64:Nat):Int):=by have D:X&&& 63=X % 64:=qqt X 6;rw[<-D];exact u8_and_nat X 63 aj aj
 have e2:(X:Int) / 64=1:=aj;have e3:((X % 64:Nat):Int)<64:=aj;obtain⟨a,b⟩:=bT ((body.drop (p+1)).take 1);have q:a.length=1:=by rw[b,qm8,qms];omega
 have y:Hid (∀j (G:j<1),∃x T:Nat,x<256/\body[p+1+j]?.map fA=some x/\T=Num.val (X % 64) (a.take j)/\T<72057594037927936/\Num.val (X % 64) (a.take (j+1))=T*256+x):=fun j G=>by
  refine⟨(a[j]'aj).toNat,_,Crc.oz _,?_,rfl,?_,yJ a _ j aj⟩
  ·have:a[j]?=body[p+1+j]?:=by rw[b,qm6,bM G,qmu]
   rw[<-this,qm3 aj];rfl
  ·have:=zy (a.take j) (X % 64) 1 aj;have S:(a.take j).length=j:=rR;rw[S]at this;have h7:(256:Nat) ^ (1+j)<=256 ^ 7:=qpk gP aj;omega
 have N:Hid (Num.val (X % 64) (a.take 1)=Num.val (X % 64) a):=by unfold Hid;rw[qmo aj]
 have A:Hid (Num.val (X % 64) (a.take 0)=X % 64):=rfl;rw[<-b];clear R h b q;generalize X % 64=C at *
 go_enter func161,ntmps161;go_wp2_with fail;refine bH W.out ?_;rintro Z ⟨K,l⟩;have z:=aF (P.out Z K);have Y:=aF l;clear K l;go_wp2_with fail;refine bH z.out ?_;rintro J ⟨c,m⟩;have u:=aF c;have v:=aF (Y.out.trans m);have O:=aF (L.out J c);clear c m;go_wp2_with fail;go_loopw [4,19] (fun V B wr=>∃k:Nat,k<=1/\B=(iZ k)/\V=(uZ (Num.val C (a.take k):Nat))/\wr=J) (fun _ B _=>1-(eB B).toNat);case atStart=>exact⟨0,qm2 _,rfl,by rw[A.out],rfl⟩
 case round=>
  obtain⟨k,hk,rfl,rfl,rfl⟩:=hrel;by_cases r:k<1
  ·have I:(k:Int)<1:=aj;obtain⟨x,T,U,d,H,E,e⟩:=y.out k r;have F:=O.out k r;have o:((body[p+1+k]'aj).toNat:Nat)=x:=by
    rw[qm3 aj]at d;simpa using d
   rw[o,show i+(p+1+k)=i+(p+1)+k by omega]at F;have Q:=He T x E U;obtain⟨T',n⟩:=bT (T*256+x);rw[<-n]at Q e;rw[<-H];have M:=aF e;clear e n o d H;go_wp2_with fail;go_roundw;case rel=>exact⟨k+1,aj,by go_num,by rw[M.out],trivial⟩
   case measure=>simp[eB];omega
  ·obtain rfl:k=1:=aj;rw[N.out];go_wp2;go_ret;exact⟨rfl,u.out,v.out⟩
def V6{cap:Nat}{s:Nat}(h:iM w f t i cap body p s)(hp:p+4<=body.length)(R:(body[p]'aj).toNat / 64=2):qH 161 #[aJ f 0] w (uZ ((Num.val ((body[p]'aj).toNat % 64) ((body.drop (p+1)).take 3):Nat):Int)) fun g=>iM g f t i cap body (p+4) s/\f_ f w g:=by
 have W:=aF (rY h aj);have P:=aF (fun g (h':iM g f t i cap body (p+1) s)=>rX (p+1) 3 h' aj);have L:=aF (fun g (h':iM g f t i cap body (p+1+3) s) j (G:j<3)=>h'.byte (p+1+j) aj);have hX:=Crc.oz (body[p]'aj);generalize (body[p]'aj).toNat=X at *
 have e1:bits .and .u8 (X:Int) 63=((X % 64:Nat):Int):=by have D:X&&& 63=X % 64:=qqt X 6;rw[<-D];exact u8_and_nat X 63 aj aj
 have e2:(X:Int) / 64=2:=aj;have e3:((X % 64:Nat):Int)<64:=aj;obtain⟨a,b⟩:=bT ((body.drop (p+1)).take 3);have q:a.length=3:=by rw[b,qm8,qms];omega
 have y:Hid (∀j (G:j<3),∃x T:Nat,x<256/\body[p+1+j]?.map fA=some x/\T=Num.val (X % 64) (a.take j)/\T<72057594037927936/\Num.val (X % 64) (a.take (j+1))=T*256+x):=fun j G=>by
  refine⟨(a[j]'aj).toNat,_,Crc.oz _,?_,rfl,?_,yJ a _ j aj⟩
  ·have:a[j]?=body[p+1+j]?:=by rw[b,qm6,bM G,qmu]
   rw[<-this,qm3 aj];rfl
  ·have:=zy (a.take j) (X % 64) 1 aj;have S:(a.take j).length=j:=rR;rw[S]at this;have h7:(256:Nat) ^ (1+j)<=256 ^ 7:=qpk gP aj;omega
 have N:Hid (Num.val (X % 64) (a.take 3)=Num.val (X % 64) a):=by unfold Hid;rw[qmo aj]
 have A:Hid (Num.val (X % 64) (a.take 0)=X % 64):=rfl;rw[<-b];clear R h b q;generalize X % 64=C at *
 go_enter func161,ntmps161;go_wp2_with fail;refine bH W.out ?_;rintro Z ⟨K,l⟩;have z:=aF (P.out Z K);have Y:=aF l;clear K l;go_wp2_with fail;refine bH z.out ?_;rintro J ⟨c,m⟩;have u:=aF c;have v:=aF (Y.out.trans m);have O:=aF (L.out J c);clear c m;go_wp2_with fail;go_loopw [4,19] (fun V B wr=>∃k:Nat,k<=3/\B=(iZ k)/\V=(uZ (Num.val C (a.take k):Nat))/\wr=J) (fun _ B _=>3-(eB B).toNat);case atStart=>exact⟨0,qm2 _,rfl,by rw[A.out],rfl⟩
 case round=>
  obtain⟨k,hk,rfl,rfl,rfl⟩:=hrel;by_cases r:k<3
  ·have I:(k:Int)<3:=aj;obtain⟨x,T,U,d,H,E,e⟩:=y.out k r;have F:=O.out k r;have o:((body[p+1+k]'aj).toNat:Nat)=x:=by
    rw[qm3 aj]at d;simpa using d
   rw[o,show i+(p+1+k)=i+(p+1)+k by omega]at F;have Q:=He T x E U;obtain⟨T',n⟩:=bT (T*256+x);rw[<-n]at Q e;rw[<-H];have M:=aF e;clear e n o d H;go_wp2_with fail;go_roundw;case rel=>exact⟨k+1,aj,by go_num,by rw[M.out],trivial⟩
   case measure=>simp[eB];omega
  ·obtain rfl:k=3:=aj;rw[N.out];go_wp2;go_ret;exact⟨rfl,u.out,v.out⟩
def V7{cap:Nat}{s:Nat}(h:iM w f t i cap body p s)(hp:p+8<=body.length)(R:(body[p]'aj).toNat / 64=3):qH 161 #[aJ f 0] w (uZ ((Num.val ((body[p]'aj).toNat % 64) ((body.drop (p+1)).take 7):Nat):Int)) fun g=>iM g f t i cap body (p+8) s/\f_ f w g:=by
 have W:=aF (rY h aj);have P:=aF (fun g (h':iM g f t i cap body (p+1) s)=>rX (p+1) 7 h' aj);have L:=aF (fun g (h':iM g f t i cap body (p+1+7) s) j (G:j<7)=>h'.byte (p+1+j) aj);have hX:=Crc.oz (body[p]'aj);generalize (body[p]'aj).toNat=X at *
 have e1:bits .and .u8 (X:Int) 63=((X % 64:Nat):Int):=by have D:X&&& 63=X % 64:=qqt X 6;rw[<-D];exact u8_and_nat X 63 aj aj
 have e2:(X:Int) / 64=3:=aj;have e3:((X % 64:Nat):Int)<64:=aj;obtain⟨a,b⟩:=bT ((body.drop (p+1)).take 7);have q:a.length=7:=by rw[b,qm8,qms];omega
 have y:Hid (∀j (G:j<7),∃x T:Nat,x<256/\body[p+1+j]?.map fA=some x/\T=Num.val (X % 64) (a.take j)/\T<72057594037927936/\Num.val (X % 64) (a.take (j+1))=T*256+x):=fun j G=>by
  refine⟨(a[j]'aj).toNat,_,Crc.oz _,?_,rfl,?_,yJ a _ j aj⟩
  ·have:a[j]?=body[p+1+j]?:=by rw[b,qm6,bM G,qmu]
   rw[<-this,qm3 aj];rfl
  ·have:=zy (a.take j) (X % 64) 1 aj;have S:(a.take j).length=j:=rR;rw[S]at this;have h7:(256:Nat) ^ (1+j)<=256 ^ 7:=qpk gP aj;omega
 have N:Hid (Num.val (X % 64) (a.take 7)=Num.val (X % 64) a):=by unfold Hid;rw[qmo aj]
 have A:Hid (Num.val (X % 64) (a.take 0)=X % 64):=rfl;rw[<-b];clear R h b q;generalize X % 64=C at *
 go_enter func161,ntmps161;go_wp2_with fail;refine bH W.out ?_;rintro Z ⟨K,l⟩;have z:=aF (P.out Z K);have Y:=aF l;clear K l;go_wp2_with fail;refine bH z.out ?_;rintro J ⟨c,m⟩;have u:=aF c;have v:=aF (Y.out.trans m);have O:=aF (L.out J c);clear c m;go_wp2_with fail;go_loopw [4,19] (fun V B wr=>∃k:Nat,k<=7/\B=(iZ k)/\V=(uZ (Num.val C (a.take k):Nat))/\wr=J) (fun _ B _=>7-(eB B).toNat);case atStart=>exact⟨0,qm2 _,rfl,by rw[A.out],rfl⟩
 case round=>
  obtain⟨k,hk,rfl,rfl,rfl⟩:=hrel;by_cases r:k<7
  ·have I:(k:Int)<7:=aj;obtain⟨x,T,U,d,H,E,e⟩:=y.out k r;have F:=O.out k r;have o:((body[p+1+k]'aj).toNat:Nat)=x:=by
    rw[qm3 aj]at d;simpa using d
   rw[o,show i+(p+1+k)=i+(p+1)+k by omega]at F;have Q:=He T x E U;obtain⟨T',n⟩:=bT (T*256+x);rw[<-n]at Q e;rw[<-H];have M:=aF e;clear e n o d H;go_wp2_with fail;go_roundw;case rel=>exact⟨k+1,aj,by go_num,by rw[M.out],trivial⟩
   case measure=>simp[eB];omega
  ·obtain rfl:k=7:=aj;rw[N.out];go_wp2;go_ret;exact⟨rfl,u.out,v.out⟩
def jh{s cap:Nat}(k:Nat)(n:Nat)(rest:List UInt8)(h:iM w k s t cap body p m)(z:n<4611686018427387904)(o:body.drop p=Num.aB n++rest):qH 161 #[aJ k 0] w (uZ n) fun r=>iM r k s t cap body (p+(Num.aB n).length) m/\f_ k w r:=by
 have b:=Num.MI n z rest;rw[<-o]at b;have q:0<(Num.aB n).length:=by rw[Num.iQ];exact Nat.pow_pos gP
 have x:(body.drop p).length=(Num.aB n).length+rest.length:=by rw[o,qm0]
 have y:(body.drop p).length=body.length-p:=qms;have A:p<body.length:=aj;have u:body.drop p=body[p]::body.drop (p+1):=qnq A;rw[u,Num.EW]at b;have v:(body.drop (p+1)).length=body.length-(p+1):=qms;generalize a:(body[p]).toNat=X at b;have l:=Crc.oz body[p];rw[a]at l;by_cases j:(body.drop (p+1)).length<2 ^ (X / 64)-1;·rw[bM j]at b;cases b
 ·rw[aV j]at b;simp only[qng,qob]at b;obtain⟨c,d⟩:=b;have f:((body.drop (p+1)).drop (2 ^ (X / 64)-1)).length=rest.length:=by rw[d]
  rw[qms]at f;have i:X / 64=0\/X / 64=1\/X / 64=2\/X / 64=3:=aj;have g:(Num.aB n).length=2 ^ (X / 64):=by rcases i with e|e|e|e<;>rw[e]at j f ⊢<;>simp at j f ⊢<;>omega
  rw[g];rcases i with e|e|e|e;·rw[e]at c g ⊢;have:=V4 h aj (by rw[a];exact e);rw[a,c]at this;exact this
  ·rw[e]at c g ⊢;have:=V5 h aj (by rw[a];exact e);rw[a,c]at this;exact this
  ·rw[e]at c g ⊢;have:=V6 h aj (by rw[a];exact e);rw[a,c]at this;exact this
  ·rw[e]at c g ⊢;have:=V7 h aj (by rw[a];exact e);rw[a,c]at this;exact this
structure RP (B0 B1 rb fb yb yo cap:Nat) (body:List UInt8) (w:Wq) (p bg:Nat) (cur:Fr) (v9:WA):Prop where
 rd:iM w rb yb yo cap body p bg
 sH:aL w fb 65 (iX cur v9)
 qO:dY 170 2 w v9 cur.ranges.length (bQ cur.ranges)
 own:Own B1 v9
 h01:B0<=B1
 hB:B1<=w.heap.size
 rbl:rb<B0
 fbl:fb<B0
 ybl:yb<B0
 rf:rb≠fb
 fy:fb≠yb
structure vH (B1 rb fb:Nat) (w w':Wq):Prop where
 os:w'.os=w.os
 tape:w'.tape=w.tape
 output:w'.output=w.output
 size:w.heap.size<=w'.heap.size
 block:∀k,k<B1->k≠rb->k≠fb->w'.heap[k]?=w.heap[k]?
def vH.refl(a c b:Nat)(w:Wq):vH a c b w w:=⟨rfl,rfl,rfl,qj _,fun _ _ _ _=>rfl⟩
def vH.trans{d f e:Nat}{a b c:Wq}(h:vH d f e a b)(k:vH d f e b c):vH d f e a c:=
 ⟨k.os.trans h.os,k.tape.trans h.tape,k.output.trans h.output,qlz h.size k.size,fun i g j l=>(k.block i g j l).trans (h.block i g j l)⟩
def f_.two(h:f_ a w w')(b c:Nat):vH b a c w w':=⟨h.os,h.tape,h.output,Nat.le_of_eq h.size.symm,fun k _ d _=>h.block k d⟩
def vH.Bj(b c a o:Nat)(v:WA)(w:Wq):vH b c a w (w.setCell (ay a o) v):=⟨rfl,rfl,rfl,aM,fun k _ _ h=>qmd _ _ _ _ h⟩
def vH.fG{b:Nat}{f:Wq}(h:vH a e b w w')(d:ED B0 a f w)(j:e<B0)(i:b<B0):ED B0 a f w':=
 ⟨qlz d.1 h.size,fun k g c=>(h.block k c aj aj).trans (d.2 k g c)⟩
def RP.step{cap:Nat}{a:Fr}{l:WA}(h:RP B0 i c j f g cap body w p d a l)(n:iM w' c f g cap body k d)(e:f_ c w w'):RP B0 i c j f g cap body w' k d a l:=
 ⟨n,h.sH.of_heap (e.block _ (qna h.rf)),h.qO.of_heap (fun b m=>e.block b (by have:=h.own b m;have:=h.rbl;have:=h.h01;omega)),h.own,h.h01,by rw[e.size];exact h.hB,h.rbl,h.fbl,h.ybl,h.rf,h.fy⟩
def RP.Bj{cap:Nat}{a cur':Fr}{c:WA}(h:RP B0 e g d i j cap body w p f a c)(o:Nat)(x:WA)(l:(iX a c).set o x=iX cur' c)(m:cur'.ranges=a.ranges):RP B0 e g d i j cap body (w.setCell (ay d o) x) p f cur' c:=
 ⟨h.rd.of (qmd _ _ _ _ h.rf) (qmd _ _ _ _ (qna h.fy)),by rw[<-l];exact h.sH.setCell o x,by rw[m];exact h.qO.of_heap (fun b k=>qmd _ _ _ _ (by have:=h.own b k;have:=h.fbl;have:=h.h01;simp;omega)),h.own,h.h01,by simp;exact h.hB,h.rbl,h.fbl,h.ybl,h.rf,h.fy⟩
def iU(f:Fr)(b:Nat×Nat)(a:Fr):Fr:=
 if b.1=0 then a else if b.1=1 then{a with bG:=f.bG}else if b.1=2 then{a with aG:=f.aG}
 else if b.1=3 then(if b.2=279 then{a with aC:=f.aC}else if b.2=280 then{a with aN:=f.aN}else if b.2=283 then{a with aT:=f.aT}else if b.2=284 then{a with id:=f.id}else{a with aH:=f.aH})
 else if b.1=4 then{a with data:=f.data}else{a with ranges:=f.ranges}
def Rd(B0 b:Nat)(q:Wq)(n:WA)(i:List UInt8)(upd:Fr->Fr)(d c k l cap:Nat)(body:List UInt8)(f:Nat):Prop:=
 ∃g h,n=.func (.func g) #[] h/\(∀args w,(callFunc g args).run prog w=.ok (.enter g args) w)/\∀w p a o rest,ED B0 b q w->RP B0 b d c k l cap body w p f a o->a.ranges=[]->body.drop p=i++rest->WB prog g (#[aJ d 0,aJ c 0]++h) w fun e j=>e=.returned (.tuple #[])/\∃m,RP B0 b d c k l cap body j (p+i.length) f (upd a) m/\vH b d c w j
def zU{rest:List UInt8}{x:UInt8}(h:body.drop p=[x]++rest):∃a:p<body.length,body[p]=x:=by
 have b:(body.drop p).length=1+rest.length:=by rw[h];simp;omega
 rw[qms]at b;have a:p<body.length:=aj;refine⟨a,?_⟩;rw[qnq a]at h;exact(List.cons.inj h).1
def kJ{a b:List UInt8}(h:body.drop p=a++b):body.drop (p+a.length)=b:=by rw[<-List.drop_drop,h,qof];rfl
def V8{q:Wq}(x:UInt8)(n e r s cap:Nat)(body:List UInt8)(l:Nat):Rd B0 d q (.func (.func 322) #[] #[]) [x] (fun a=>a) n e r s cap body l:=by refine⟨322,_,rfl,enters_of func322 bO rfl,fun w p a o rest _ b _ g=>?_⟩;obtain⟨m,t⟩:=zU g;have i:=aF (rY b.rd m);have k:=aF b;clear b g;go_enter func322,ntmps322;go_wp2_with fail;refine bH i.out ?_;rintro u ⟨f,c⟩;have j:=aF (dw (k.out.step f c) (c.two d e));clear f c;go_wp2;go_end0;exact⟨rfl,o,j.out⟩
def Hg{t:Wq}(bG:Bool)(l c v x cap:Nat)(body:List UInt8)(r:Nat):Rd B0 e t (.func (.func 332) #[] #[]) [if bG then 9 else 8] (fun b=>{b with bG:=bG}) l c v x cap body r:=by
 refine⟨332,_,rfl,enters_of func332 bO rfl,fun w p b q rest _ k _ n=>?_⟩;obtain⟨s,o⟩:=zU n;have i:=aF (rY k.rd s);rw[o]at i;have m:=aF k;clear k n o;cases bG;·go_enter func332,ntmps332;go_wp2_with fail;refine bH i.out ?_;rintro g ⟨f,d⟩;have a:=m.out.step f d;have u:g.cell? (ay c 5)=some (.bool b.bG):=a.sH.cell 5;have y:=a.sH.frozen 5;have j:=aF (dw (a.Bj 5 (.bool false) (cur':={b with bG:=false}) rfl rfl) ((d.two e c).trans (vH.Bj e l c 5 (.bool false) g)));clear f d a;go_wp2;go_end0;exact⟨rfl,q,j.out⟩
 ·go_enter func332,ntmps332;go_wp2_with fail;refine bH i.out ?_;rintro g ⟨f,d⟩;have a:=m.out.step f d;have u:g.cell? (ay c 5)=some (.bool b.bG):=a.sH.cell 5;have y:=a.sH.frozen 5;have j:=aF (dw (a.Bj 5 (.bool true) (cur':={b with bG:=true}) rfl rfl) ((d.two e c).trans (vH.Bj e l c 5 (.bool true) g)));clear f d a;go_wp2;go_end0;exact⟨rfl,q,j.out⟩
def RU(s:Int)(c:0<=s)(j:s<8)(k d x y cap:Nat)(body:List UInt8)(t:Nat):Rd B0 e v (.func (.func 328) #[] #[]) (Num.aB s.toNat) (fun a=>{a with aG:=s}) k d x y cap body t:=by refine⟨328,_,rfl,enters_of func328 bO rfl,fun w p a u rest _ f _ i=>?_⟩;obtain⟨n,rfl⟩:=Int.eq_ofNat_of_zero_le c;rw[qp6]at i ⊢;have o:=aF (jh k n rest f.rd aj i);have r:=aF f;have z:¬((8:Int)<=(n:Int)):=aj;have A:(n:Int)<8:=aj;clear f i c j;go_enter func328,ntmps328;go_wp2_with fail;refine bH o.out ?_;rintro m ⟨l,g⟩;have b:=r.out.step l g;have B:m.cell? (ay d 1)=some (iZ a.aG):=b.sH.cell 1;have C:=b.sH.frozen 1;have q:=aF (dw (b.Bj 1 (iZ n) (cur':={a with aG:=(n:Int)}) rfl rfl) ((g.two e d).trans (vH.Bj e k d 1 (iZ n) m)));clear l g b;go_wp2;go_end0;exact⟨rfl,u,q.out⟩
def rZ{l:Nat}{G:Wq}(o q i n:Nat)(upd:Fr->Fr)(v m P Q cap:Nat)(body:List UInt8)(K:Nat)(L:B0<=o)(M:o<l)(E:G.cell? (ay o 0)=some (.func (.func q) #[] #[]))(S:∀args w,(callFunc q args).run prog w=.ok (.enter q args) w)(j:∀b w,WB prog q #[aJ b 0] w fun e F=>e=.returned (aJ b i)/\F=w)(B:∀a f,∃k:Int,(iX a f)[i]?=some (uZ k))(D:∀a f,(iX a f).set i (uZ n)=iX (upd a) f/\(upd a).ranges=a.ranges)(C:n<=dH):Rd B0 l G (.func (.func 330) #[] #[aJ o 0]) (Num.aB n) upd v m P Q cap body K:=by refine⟨330,_,rfl,enters_of func330 bO rfl,fun w p a f rest y s _ A=>?_⟩;have R:=y.cell L M E;have H:=aF (jh v n rest s.rd (by unfold dH at C;omega) A);have J:=aF s;have r:=aF (j m w);have x:=aF (D a f);obtain⟨k,d⟩:=B a f;have g:=aF d;clear s A y j B D C E d;go_enter func330,ntmps330;go_wp2_with fail;refine bH r.out ?_;rintro F u;subst u;go_wp2_with fail;refine bH H.out ?_;rintro N ⟨z,t⟩;have c:=J.out.step z t;have O:=c.sH.cell i;rw[g.out]at O;have T:=c.sH.frozen i;have I:=aF (dw (c.Bj i (uZ n) x.out.1 x.out.2) ((t.two l m).trans (vH.Bj l v m i (uZ n) N)));clear z t c;go_wp2;go_end0;exact⟨rfl,f,I.out⟩
def ba_eq(d:ByteArray):(⟨d.data.toList.toArray⟩:ByteArray)=d:=by cases d;simp
def Z5{Q:Wq}(d:ByteArray)(X:d.size<=1000000000)(o e y z cap:Nat)(body:List UInt8)(E:Nat):Rd B0 m Q (.func (.func 334) #[] #[]) (Num.aB d.size++d.data.toList) (fun b=>{b with data:=d}) o e y z cap body E:=by
 refine⟨334,_,rfl,enters_of func334 bO rfl,fun w p b H rest _ B _ r=>?_⟩;rw[qmh]at r;have l:=kJ r;have a:d.data.toList.length=d.size:=by rw[qpp];rfl
 have g:p+(Num.aB d.size).length+d.size<=body.length:=by
  have A:(body.drop (p+(Num.aB d.size).length)).length=d.size+rest.length:=by rw[l,qm0,a]
  rw[qms]at A;have O:(body.drop p).length=(Num.aB d.size).length+(d.size+rest.length):=by rw[r,qm0,qm0,a]
  rw[qms]at O;have V:=B.rd.le;have W:0<(Num.aB d.size).length:=by rw[Num.iQ];exact Nat.pow_pos gP
  omega
 have I:=aF (jh o d.size _ B.rd aj r);have K:=aF B;have q:=aF g;have s:∀j (G:j<d.size),body[p+(Num.aB d.size).length+j]?=some (d.data.toList[j]'aj):=fun j G=>by
  have:(body.drop (p+(Num.aB d.size).length))[j]?=(d.data.toList++rest)[j]?:=by rw[l]
  rw[qmu,qmw aj]at this;rw[this];exact qm3 _
 have t:∀v,iM v o y z cap body (p+(Num.aB d.size).length+d.size) E->∀c,(convert 60 9 (.slice (some (ay y (z+(p+(Num.aB d.size).length)))) d.size c)).run prog v=.ok (.string d) v:=fun v N c=>by have:=run_convert_bytes_back (P:=prog) v 60 9 5 (ay y (z+(p+(Num.aB d.size).length))) c d.data.toList u29 bO u9 (fun j G=>by rw[qmb,qpz];have A:=s j aj;have u:p+(Num.aB d.size).length+j<body.length:=aj;rw[N.byte _ u];rw[qm3 u]at A;rw[qmn A]);rw[a,ba_eq]at this;exact this
 have C:=aF t;have F:Hid ((Num.aB d.size++d.data.toList).length=(Num.aB d.size).length+d.size):=by unfold Hid;rw[qm0,a]
 have T:(d.size:Int)<=1000000000:=aj;clear B r l g s t a;generalize (Num.aB d.size).length=L at *
 generalize U:d.size=n at *
 go_enter func334,ntmps334;go_wp2_with fail;refine bH I.out ?_;rintro Y ⟨i,k⟩;have M:=aF (rX (p+L) n i q.out);have R:=aF (K.out.step i k);have D:=aF (k.two m e);clear i k;go_wp2_with fail;refine bH M.out ?_;rintro x ⟨i,k⟩;have f:=R.out.step i k;have S:=C.out x i;have Z:x.cell? (ay e 8)=some (.string b.data):=f.sH.cell 8;have z8:=f.sH.frozen 8;have J:Hid (RP B0 m o e y z cap body (x.setCell (ay e 8) (.string d)) (p+(L+n)) E {b with data:=d} H/\vH m o e w (x.setCell (ay e 8) (.string d))):=by rw[<-qpz];exact dw (f.Bj 8 (.string d) rfl rfl) ((D.out.trans (k.two m e)).trans (vH.Bj m o e 8 (.string d) x))
 clear i k f;go_wp2;go_end0;rw[F.out];exact⟨rfl,H,J.out⟩
def P6{s H cap:Nat}{F:Nat}{a:Fr}{A:WA}(h:RP B0 s B i D H cap body w p F a A)(o l n m:Nat)(Q:a.ranges.length=n)(P:n+1=m)(X:n<=1000000000):∃q r e,(∀U,(eT #[63,63] U #[A,dh w.heap.size 1 1]).run prog (w.alloc (.cells #[uZ o,uZ l] 170))=.ok (.slice q m r) e)/\aL e i 65 (iX a A)/\RP B0 s B i D H cap body (e.setCell (ay i 9) (.slice q m r)) p F {a with ranges:=a.ranges++[(o,l)]} (.slice q m r)/\vH s B i w (e.setCell (ay i 9) (.slice q m r)):=by
 subst Q;subst P;obtain⟨t,f⟩:=bT (w.alloc (.cells #[uZ o,uZ l] 170));have R:t.heap.size=w.heap.size+1:=by rw[f];simp
 have c:bE w t:=by rw[f];exact(qlw _ _).alloc (qj _) _
 have M:aL t w.heap.size 170 [uZ o,uZ l]:=by rw[f];exact aL.new w 170 _
 rw[<-f];have C:dY 170 2 t A a.ranges.length (bQ a.ranges):=h.qO.of_heap (fun b y=>c.block b (h.qO.lt b y));obtain⟨Y,e,z,G,E⟩:=je M5 C (ay w.heap.size 0) 1 1 (bQ [(o,l)]) rfl aj (mQ _) (fun j u S=>by rw[qmb,qm5,M.cell];exact S) aj;obtain⟨q,r,T,_⟩:=G.shape;subst T;have L:=h.hB;have d:Below s t e:=E.below h.own aj;have x:=E.own h.own aj;have W:=h.h01;have I:=h.fbl;have J:=h.rbl;have K:=h.ybl;have V:=d.size;have g:∀b,b<s->e.heap[b]?=w.heap[b]?:=fun b y=>by rw[d.block b y,c.block b aj]
 have v:aL e i 65 (iX a A):=h.sH.of_heap (g i aj);refine⟨q,r,e,z,v,⟨?_,?_,?_,x,h.h01,rR,J,I,K,h.rf,h.fy⟩,?_⟩;·exact(h.rd.of (g B aj) (g D aj)).of (qmd _ _ _ _ h.rf) (qmd _ _ _ _ (qna h.fy))
 ·exact v.setCell 9 _
 ·show dY 170 2 _ _ (a.ranges++[(o,l)]).length (bQ (a.ranges++[(o,l)]));rw[qm0,jW];exact G.of_heap (fun b y=>qmd _ _ _ _ (by have:=x b y;simp;omega))
 ·refine⟨d.os.trans c.os,d.tape.trans c.tape,d.output.trans c.output,rR,fun k O _ N=>?_⟩;rw[qmd _ _ _ _ N];exact g k O
def yK(rs:bZ)(k:Nat):∀N,k<=N->∃s,jc rs N=jc rs k++s
 |0,h=>⟨[],by obtain rfl:k=0:=aj;simp⟩
 |N+1,h=>by
  by_cases e:k=N+1;·exact⟨[],by rw[e];simp⟩
  ·obtain⟨s,a⟩:=yK rs k N aj;exact⟨s++_,by rw[jc,a,qmh]⟩
def kK(rs:bZ)(N k:Nat):List UInt8:=(jc rs N).drop (jc rs k).length
def yL(rs:bZ)(N:Nat):kK rs N 0=jc rs N:=rfl
def Km(rs:bZ)(N:Nat):kK rs N N=[]:=by unfold kK;exact qnj (qj _)
def Hl(rs:bZ)(N k:Nat)(h:k<N):kK rs N k=Num.aB ((rs.getD k (0,0)).1-(rs.getD (k+1) (0,0)).2-2)++(Num.aB ((rs.getD (k+1) (0,0)).2-(rs.getD (k+1) (0,0)).1)++kK rs N (k+1)):=by
 obtain⟨s,a⟩:=yK rs (k+1) N aj;have b:(jc rs N).drop (jc rs (k+1)).length=s:=by rw[a];exact qof rfl
 have c:jc rs N=jc rs k++(Num.aB ((rs.getD k (0,0)).1-(rs.getD (k+1) (0,0)).2-2)++(Num.aB ((rs.getD (k+1) (0,0)).2-(rs.getD (k+1) (0,0)).1)++s)):=by rw[a,jc];simp only[qmh]
 unfold kK;rw[b,c];exact qof rfl
def FM(rs:bZ)(k:Nat)(h:k<rs.length):rs.take k++[((rs.getD k (0,0)).1,(rs.getD k (0,0)).2)]=rs.take (k+1):=by rw[qqs h,qly,qm3 h];rfl
def RX{y:Nat}{w1:Wq}(rs:bZ)(hR:sG rs=true)(x8:rs.length<=1000000000)(l a U V cap:Nat)(body:List UInt8)(T:Nat):Rd B0 y w1 (.func (.func 326) #[] #[]) (gV rs) (fun q=>{q with ranges:=rs}) l a U V cap body T:=by
 refine⟨326,_,rfl,enters_of func326 bO rfl,fun w p q B rest _ hP P hb=>?_⟩;obtain⟨E,K⟩:=O7 hR;obtain⟨N,hN⟩:∃N,rs.length=N+1:=⟨rs.length-1,aj⟩;have L:body.drop p=Num.aB (rs.getD 0 (0,0)).2++(Num.aB N++(Num.aB ((rs.getD 0 (0,0)).2-(rs.getD 0 (0,0)).1)++(kK rs N 0++rest))):=by rw[hb,yL];unfold gV kH;rw[hN,qp4];simp only[qmh]
 have hj:(gV rs).length=(Num.aB (rs.getD 0 (0,0)).2).length+(Num.aB N).length+(Num.aB ((rs.getD 0 (0,0)).2-(rs.getD 0 (0,0)).1)).length+(jc rs N).length:=by unfold gV kH;rw[hN,qp4];simp only[qm0];omega
 obtain⟨q1,q2,_⟩:=K 0 E;have M:=kJ L;have O:=kJ M;have h8:=kJ O;have n:=aF (jh l _ _ hP.rd (by unfold dH at q2;omega) L);have W:=aF (fun w' (h':iM w' l U V cap body _ T)=>jh l _ _ h' aj M);have h0:=aF (fun w' (h':iM w' l U V cap body _ T)=>jh l _ _ h' (by unfold dH at q2;omega) O);have X:=aF K;have Z:=aF hj;have Y:=aF h8;have HP:=aF hP;have ha:(rs.getD 0 (0,0)).2-((rs.getD 0 (0,0)).2-(rs.getD 0 (0,0)).1)=(rs.getD 0 (0,0)).1:=aj;have HL:=aF (fun(r:WA) (w:Wq)=>C9 r (rs.getD 0 (0,0)).2 ((rs.getD 0 (0,0)).2-(rs.getD 0 (0,0)).1) w aj (by unfold dH at q2;omega));rw[ha]at HL;have h6:Hid ([((rs.getD 0 (0,0)).1,(rs.getD 0 (0,0)).2)]=rs.take 1):=FM rs 0 E;clear hP hb L M O h8 K hj hR ha;generalize h7:(rs.getD 0 (0,0)).1=hg at *
 generalize hw:(rs.getD 0 (0,0)).2=A at *
 generalize hv:A-hg=d0 at *
 have wM:=aF h7;clear h7 hw hv;go_enter func326,ntmps326;go_wp2_with fail;refine bH n.out ?_;rintro x1 ⟨S,c⟩;have m:=aF (W.out x1 S);have xL:=aF (HP.out.step S c);have vV:=aF (c.two y a);clear S c n W HP;go_wp2_with fail;refine bH m.out ?_;rintro x2 ⟨I,J⟩;have Uz:=aF (h0.out x2 I);have wO:=aF (xL.out.step I J);have h3:=aF (vV.out.trans (J.two y a));clear I J m xL h0 vV;go_wp2_with fail;refine bH Uz.out ?_;rintro x3 ⟨Jb,e⟩;have v:=aF (wO.out.step Jb e);have o:=aF (h3.out.trans (e.two y a));clear Jb e Uz wO h3;go_wp2_with fail;refine bH (HL.out _ _) ?_;rintro x4 hy;subst hy;obtain⟨a',c',W2,oh,b,G,s⟩:=P6 v.out hg A 0 1 (by rw[P];rfl) rfl aj;have hf:x4.cell? (ay a 9)=some B:=v.out.sH.cell 9;obtain⟨a9,c9,u,_⟩:=v.out.qO.shape;rw[show q.ranges.length=0 by rw[P];rfl]at u;subst u;have k9:W2.cell? (ay a 9)=some (.slice a9 0 c9):=b.cell 9;have z9:=b.frozen 9;rw[P,qmq,h6.out]at G;have Ja:=aF G;have h4:=aF (o.out.trans s);have h9:a<x4.heap.size:=v.out.sH.lt;clear b G s v o HL;go_wp2_with (at_builtin;refine qmm _ rfl _ _ _ _ rfl _ _ rfl rfl _ _ (oh _) ?_);clear oh hf k9 z9 h9;have PS:=aF (fun k (hk:k<N)=>Hl rs N k hk);have tZ:=aF (Km rs N);have h2:Hid (p+(Num.aB A).length+(Num.aB N).length+(Num.aB d0).length+(kK rs N 0).length=p+(gV rs).length):=by unfold Hid;rw[Z.out,yL];omega
 generalize p+(Num.aB A).length+(Num.aB N).length+(Num.aB d0).length=p0 at *
 go_loopw [4,5,6] (fun s4 s5 s6 wr=>∃k:Nat,k<=N/\s5=(uZ ((N-k:Nat):Int))/\s6=(uZ (((rs.getD k (0,0)).1:Nat):Int))/\(∃x:Nat,s4=(uZ x))/\Hid (∃z B,RP B0 y l a U V cap body wr z T {q with ranges:=rs.take (k+1)} B/\vH y l a w wr/\body.drop z=kK rs N k++rest/\z+(kK rs N k).length=p+(gV rs).length)) (fun _ s5 _ _=>(eB s5).toNat);case atStart=>exact⟨0,qm2 _,rfl,by rw[wM.out],⟨_,rfl⟩,p0,_,Ja.out,h4.out,Y.out,h2.out⟩
 case round=>
  clear Ja h4 Y h2 Z wM h6;obtain⟨k,hk,rfl,rfl,⟨xh,rfl⟩,HI⟩:=hrel;by_cases hx:k<N
  ·obtain⟨z,B,F,V9,f,i⟩:=HI.out;rw[PS.out k hx]at f i;rw[qmh,qmh]at f;obtain⟨o1,o2,o3⟩:=X.out (k+1) aj;have o4:=o3 aj;rw[qp4]at o4;obtain⟨o5,o6,_⟩:=X.out k aj;have he:=FM rs (k+1) aj;have D:(rs.take (k+1)).length=k+1:=rR;unfold dH at o2 o6;generalize (rs.getD k (0,0)).1=R at *
   generalize x6:(rs.getD (k+1) (0,0)).2=j at *
   generalize hm:(rs.getD (k+1) (0,0)).1=Q at *
   generalize hG:R-j-2=g at *
   generalize hD:j-Q=d at *
   have n:=aF (jh l g _ F.rd aj f);have t:=kJ f;have W:=aF (fun w' (h':iM w' l U V cap body _ T)=>jh l d _ h' aj t);have hn:=kJ t;have Pz:=aF (fun(r:WA) (w:Wq)=>C9 r R (g+2) w aj aj);rw[show R-(g+2)=j by omega]at Pz;have H:=aF (fun(r:WA) (w:Wq)=>C9 r j d w aj aj);rw[show j-d=Q by omega]at H;have ho:z+(Num.aB g).length+(Num.aB d).length+(kK rs N (k+1)).length=p+(gV rs).length:=by rw[qm0,qm0]at i;omega
   have O8:=aF F;have h5:=aF V9;have HB:=aF (dw hn ho);have P5:=aF he;have C:=aF D;have wM:=aF hm;have g0:0<N-k:=aj;have g1:(g:Int)+2=((g+2:Nat):Int):=aj;have g2:((g+2:Nat):Int)<18446744073709551616:=aj;have g3:((N-k:Nat):Int)-1=((N-(k+1):Nat):Int):=aj;have g4:((N-(k+1):Nat):Int)<18446744073709551616:=aj;have HM:Hid (N-(k+1)<N-k):=by unfold Hid;omega
   generalize g+2=x7 at *
   generalize hc:N-(k+1)=n1 at *
   have hr:=aF hc;clear hc;generalize N-k=n0 at *
   clear F V9 f t hn i ho he D x6 hm hG hD HI o1 o2 o3 o4 o5 o6;go_wp2_with fail;refine bH n.out ?_;rintro y1 ⟨S,c⟩;have m:=aF (W.out y1 S);have xL:=aF (O8.out.step S c);have vV:=aF (h5.out.trans (c.two y a));clear S c n W O8 h5;go_wp2_with fail;refine bH (Pz.out _ _) ?_;rintro y2 x0;subst x0;go_wp2_with fail;refine bH m.out ?_;rintro y3 ⟨Jb,e⟩;have v:=aF (xL.out.step Jb e);have o:=aF (vV.out.trans (e.two y a));clear Jb e m xL vV;go_wp2_with fail;refine bH (H.out _ _) ?_;rintro y4 x5;subst x5;obtain⟨a',c',W2,oh,b,G,s⟩:=P6 v.out Q j (k+1) (k+2) C.out rfl aj;have hf:y4.cell? (ay a 9)=some B:=v.out.sH.cell 9;obtain⟨a9,c9,u,_⟩:=v.out.qO.shape;rw[C.out]at u;subst u;have k9:W2.cell? (ay a 9)=some (.slice a9 (k+1) c9):=b.cell 9;have z9:=b.frozen 9;simp only[P5.out]at G;have hu:Hid (∃z B,RP B0 y l a U V cap body (W2.setCell (ay a 9) (.slice a' (k+2) c')) z T {q with ranges:=rs.take (k+1+1)} B/\vH y l a w (W2.setCell (ay a 9) (.slice a' (k+2) c'))/\body.drop z=kK rs N (k+1)++rest/\z+(kK rs N (k+1)).length=p+(gV rs).length):=⟨_,_,G,o.out.trans s,HB.out.1,HB.out.2⟩;have h9:a<y4.heap.size:=v.out.sH.lt;clear b G s v o Pz H;go_wp2_with (at_builtin;refine qmm _ rfl _ _ _ _ rfl _ _ rfl rfl _ _ (oh _) ?_);go_roundw;case rel=>exact⟨k+1,aj,by rw[hr.out],by rw[wM.out],⟨_,rfl⟩,hu⟩
   case measure=>simp[eB];exact HM.out
  ·obtain rfl:k=N:=aj;obtain⟨z,B,F,V9,f,i⟩:=HI.out;rw[tZ.out,qnc,qnl]at i;rw[<-hN,qp2,i]at F;have HF:=aF (dw F V9);clear F V9 f i HI;have g0:((k-k:Nat):Int)=0:=aj;go_wp2;go_end0;exact⟨rfl,B,HF.out⟩
def RP.alloc{B0 c f e i j cap:Nat}{body:List UInt8}{w:Wq}{p d:Nat}{a:Fr}{g:WA}(h:RP B0 c f e i j cap body w p d a g)(o:Obj):RP B0 c f e i j cap body (w.alloc o) p d a g:=by have k:=h.h01;have r:=h.hB;have l:=h.rbl;have m:=h.fbl;have n:=h.ybl;exact⟨h.rd.of (qmr _ _ _ aj) (qmr _ _ _ aj),h.sH.alloc o,h.qO.of_heap (fun b q=>qmr _ _ _ (h.qO.lt b q)),h.own,k,rR,l,m,n,h.rf,h.fy⟩
def vH.alloc(a c b:Nat)(w:Wq)(o:Obj)(h:a<=w.heap.size):vH a c b w (w.alloc o):=⟨rfl,rfl,rfl,aM,fun k d _ _=>qmr _ _ _ aj⟩
def yM(a:Nat->Fr->Fr):Nat->Fr->Fr
 |0,cur=>cur
 |k+1,cur=>a k (yM a k cur)
def uL(a:List (List UInt8))(k:Nat):∀N,k<=N->∃s,dR a N=dR a k++s
 |0,h=>⟨[],by obtain rfl:k=0:=aj;simp⟩
 |N+1,h=>by
  by_cases e:k=N+1;·exact⟨[],by rw[e];simp⟩
  ·obtain⟨s,b⟩:=uL a k N aj;exact⟨s++_,by rw[dR,b,qmh]⟩
def iB(a:List (List UInt8))(N k:Nat):List UInt8:=(dR a N).drop (dR a k).length
def pW(a:List (List UInt8))(N:Nat):iB a N 0=dR a N:=rfl
def EM(a:List (List UInt8))(N:Nat):iB a N N=[]:=by unfold iB;exact qnj (qj _)
def uM(a:List (List UInt8))(N k:Nat)(h:k<N):iB a N k=a.getD k []++iB a N (k+1):=by
 obtain⟨s,b⟩:=uL a (k+1) N aj;have c:(dR a N).drop (dR a (k+1)).length=s:=by rw[b];exact qof rfl
 have d:dR a N=dR a k++(a.getD k []++s):=by rw[b,dR];simp only[qmh]
 unfold iB;rw[c,d];exact qof rfl
def NN(Y D a:Nat)(fw fr:Nat->WA)(i:List (List UInt8))(u:Nat->Fr->Fr)(r m F G cap:Nat)(body:List UInt8)(C:Nat)(h9:a<=100)(O:B0<=Y)(P:Y<c)(R:B0<=D)(S:D<c)(Q:v.cell? (ay Y 0)=some (dh D a a))(o:∀j,j<a->v.cell? (ay D (j*2))=some (fw j)/\v.cell? (ay D (j*2+1))=some (fr j))(N:∀j,j<a->∃g X,fw j=.func (.func g) #[] X)(U:∀b,b.ranges=[]->∀j,j<a->(yM u j b).ranges=[])(T:∀j,j<a->Rd B0 c v (fr j) (i.getD j []) (u j) r m F G cap body C):Rd B0 c v (.func (.func 324) #[] #[aJ Y 0]) (dR i a) (yM u a) r m F G cap body C:=by
 refine⟨324,_,rfl,enters_of func324 bO rfl,fun w p b s rest t hP L hb=>?_⟩;have cp:=t.cell O P Q;have I:Hid (∃f s,ED B0 c v w/\RP B0 c r m F G cap body w f C (yM u 0 b) s/\vH c r m w w/\body.drop f=iB i a 0++rest/\f+(iB i a 0).length=p+(dR i a).length):=⟨p,s,t,hP,vH.refl _ _ _ _,by rw[pW];exact hb,by rw[pW]⟩;have HC:=aF o;have Z:=aF N;have h3:=aF T;have W:=aF (dw R S);have h5:=aF (U b L);have h4:=aF (fun k (hk:k<a)=>uM i a k hk);have tZ:=aF (EM i a);clear hP hb o N T Q O P R S U L t;go_enter func324,ntmps324;go_wp2_with fail;go_loopw [9] (fun s9 wr=>∃k:Nat,k<=a/\s9=(iZ k)/\Hid (∃f s,ED B0 c v wr/\RP B0 c r m F G cap body wr f C (yM u k b) s/\vH c r m w wr/\body.drop f=iB i a k++rest/\f+(iB i a k).length=p+(dR i a).length)) (fun s9 _=>a-(eB s9).toNat);case atStart=>exact⟨0,qm2 _,rfl,I.out⟩
 case round=>
  clear I;obtain⟨k,hk,rfl,V⟩:=hrel;by_cases q:k<a
  ·have h7:(k:Int)<(a:Int):=aj;obtain⟨f,s,t,A,K,d,e⟩:=V.out;rw[h4.out k q]at d e;rw[qmh]at d;obtain⟨q1,q2⟩:=HC.out k q;have t1:=t.cell W.out.1 W.out.2 q1;have t2:=t.cell W.out.1 W.out.2 q2;obtain⟨g,X,M,eg,hW⟩:=h3.out k q;obtain⟨g2,QX,z⟩:=Z.out k q;rw[M]at t2;rw[z]at t1;have h6:=A.hB;have B:ED B0 c v (wr.alloc (.cells #[.func (.func g2) #[] QX,.func (.func g) #[] X] 318)):=⟨rR,fun j h0 h1=>by rw[qmr _ _ _ aj];exact t.2 j h0 h1⟩;have hc:=hW _ f (yM u k b) s _ B (A.alloc _) (h5.out k q) d;have x:=kJ d;have hn:∀E J,RP B0 c r m F G cap body E (f+(i.getD k []).length) C (u k (yM u k b)) J->vH c r m (wr.alloc (.cells #[.func (.func g2) #[] QX,.func (.func g) #[] X] 318)) E->∃f s,ED B0 c v E/\RP B0 c r m F G cap body E f C (yM u (k+1) b) s/\vH c r m w E/\body.drop f=iB i a (k+1)++rest/\f+(iB i a (k+1)).length=p+(dR i a).length:=fun E J l n=>⟨_,J,n.fG B l.rbl l.fbl,l,(K.trans (vH.alloc c r m wr _ h6)).trans n,x,by rw[qm0]at e;omega⟩;have HN:=aF hn;have H:=aF hc;have h8:D<wr.heap.size:=qmf _ _ t1;clear M z hc hW q1 q2 hn t A K d x e B V;go_wp2_with fail;refine bH H.out ?_;rintro y ⟨J,l,n⟩;have h2:=aF (HN.out y J l n);clear l n HN H;go_wp2_with fail;go_roundw;case rel=>exact⟨k+1,aj,by go_num,h2⟩
   case measure=>simp[eB];omega
  ·obtain rfl:k=a:=aj;obtain⟨f,s,t,A,K,d,e⟩:=V.out;rw[tZ.out,qnc,qnl]at e;rw[e]at A;have HF:=aF (dw A K);clear t A K d e V;go_wp2;go_end0;exact⟨rfl,s,HF.out⟩
def P7{x:Wq}{c:Nat×Nat}{z:WA}(A:jL B0 x c z y)(f:Fr)(p:Fit f)(t:Ju f c)(C:f.data.size<=1000000000)(v:f.ranges.length<=1000000000)(k i l m cap:Nat)(body:List UInt8)(g:Nat):Rd B0 x.heap.size x y (dx f c) (iU f c) k i l m cap body g:=by
 unfold dx;rcases A with⟨h,q,o,_,j⟩|⟨h,_,j⟩|⟨h,_,j⟩|⟨h,q,o,_,j⟩|⟨h,_,j⟩|⟨h,_,j⟩
 ·have e:iU f c=fun a=>a:=by funext a;unfold iU;rw[bM h]
  rw[bM h,j,e];exact V8 _ k i l m cap body g
 ·have e:iU f c=fun a=>{a with bG:=f.bG}:=by funext a;unfold iU;rw[aV aj,bM h]
  rw[aV aj,bM h,j,e];exact Hg f.bG k i l m cap body g
 ·have e:iU f c=fun a=>{a with aG:=f.aG}:=by funext a;unfold iU;rw[aV aj,aV aj,bM h]
  rw[aV aj,aV aj,bM h,j,e];exact RU f.aG p.s0 p.s8 k i l m cap body g
 ·have r:∀a,iU f c a=(if c.2=279 then{a with aC:=f.aC}else if c.2=280 then{a with aN:=f.aN}else if c.2=283 then{a with aT:=f.aT}else if c.2=284 then{a with id:=f.id}else{a with aH:=f.aH}):=fun a=>by
   unfold iU;rw[aV aj,aV aj,aV aj,bM h]
  rw[aV aj,aV aj,aV aj,bM h,j];have u:c.2=279\/c.2=280\/c.2=283\/c.2=284\/c.2=285:=by
   rcases t with e|e|e|e|e|e;·omega
   ·omega
   ·omega
   ·exact e.2
   ·omega
   ·omega
  have s:=qmf _ _ o.2;have d:=o.2;rcases u with e|e|e|e|e;·rw[e]at d ⊢;exact rZ q 279 2 f.aC _ k i l m cap body g o.1 s d (enters_of func279 bO rfl) (fun b w=>by have:=Cb b 0 w;simpa using this) (fun a n=>⟨_,rfl⟩) (fun a n=>by rw[r,e];exact⟨rfl,rfl⟩) p.n0
  ·rw[e]at d ⊢;exact rZ q 280 3 f.aN _ k i l m cap body g o.1 s d (enters_of func280 bO rfl) (fun b w=>by have:=xX b 0 w;simpa using this) (fun a n=>⟨_,rfl⟩) (fun a n=>by rw[r,e];exact⟨rfl,rfl⟩) p.n1
  ·rw[e]at d ⊢;exact rZ q 283 4 f.aT _ k i l m cap body g o.1 s d (enters_of func283 bO rfl) (fun b w=>by have:=Fb b 0 w;simpa using this) (fun a n=>⟨_,rfl⟩) (fun a n=>by rw[r,e];exact⟨rfl,rfl⟩) p.n2
  ·rw[e]at d ⊢;exact rZ q 284 6 f.id _ k i l m cap body g o.1 s d (enters_of func284 bO rfl) (fun b w=>by have:=U5 b 0 w;simpa using this) (fun a n=>⟨_,rfl⟩) (fun a n=>by rw[r,e];exact⟨rfl,rfl⟩) p.n3
  ·rw[e]at d ⊢;exact rZ q 285 7 f.aH _ k i l m cap body g o.1 s d (enters_of func285 bO rfl) (fun b w=>by have:=xY b 0 w;simpa using this) (fun a n=>⟨_,rfl⟩) (fun a n=>by rw[r,e];exact⟨rfl,rfl⟩) p.n4
 ·have e:iU f c=fun a=>{a with data:=f.data}:=by funext a;unfold iU;rw[aV aj,aV aj,aV aj,aV aj,bM h]
  rw[aV aj,aV aj,aV aj,aV aj,bM h,j,e];exact Z5 f.data C k i l m cap body g
 ·have e:iU f c=fun a=>{a with ranges:=f.ranges}:=by funext a;unfold iU;rw[aV aj,aV aj,aV aj,aV aj,aV aj]
  rw[aV aj,aV aj,aV aj,aV aj,aV aj,j,e];have B:sG f.ranges=true:=by
   rcases t with e|e|e|e|e|e;·omega
   ·omega
   ·omega
   ·omega
   ·omega
   ·exact e.2
  exact RX f.ranges B v k i l m cap body g
def C_(f:Fr)(a:bZ)(k:Nat)(b:Fr):Fr:=yM (fun j=>iU f (a.getD j (0,0))) k b
def Kn(f:Fr)(b:Nat×Nat)(a:Fr)(h:b.1<=4):(iU f b a).ranges=a.ranges:=by
 unfold iU;repeat' split
 all_goals first|rfl|omega
def Da(f:Fr)(a:bZ)(b:Fr)(c:b.ranges=[])(h:∀j,j+1<a.length->(a.getD j (0,0)).1<=4):∀k,k<a.length->(C_ f a k b).ranges=[]
 |0,_=>c
 |k+1,hk=>by show(iU f (a.getD k (0,0)) (C_ f a k b)).ranges=[];rw[Kn _ _ _ (h k hk)];exact Da f a b c h k aj
def RY(k:Int):∀j,j+1<(dz k).length->((dz k).getD j (0,0)).1<=4:=by
 unfold dz;repeat' split
 all_goals
  intro j a;match j,a with
  |0,a=>first|decide|exact absurd a gP
  |1,a=>first|decide|exact absurd a gP
  |2,a=>first|decide|exact absurd a gP
  |m+3,a=>exact absurd a aM
def Z6{g:Wq}{D:WA}(f:Fr)(x:Jv B0 g f.aD D y)(h:snd f=true)(B:f.data.size<=1000000000)(n:f.ranges.length<=1000000000)(s r t u cap:Nat)(body:List UInt8)(q:Nat):Rd B0 g.heap.size g y (aX f) (C_ f (dz f.aD) (dz f.aD).length) s r t u cap body q:=by
 obtain⟨C,_⟩:=sI f h;rcases x with⟨e,F⟩|⟨_,x⟩
 ·have:=P7 F f C (.inl ⟨rfl,gP⟩) B n s r t u cap body q;have G:aX f=dx f (0,1):=by
   unfold aX;rw[e,show dz 1=[(0,1)]from rfl];rfl
  have J:C_ f (dz f.aD) (dz f.aD).length=iU f (0,1):=by rw[e,show dz 1=[(0,1)]from rfl];rfl
  rw[G,J];exact this
 ·obtain⟨K,o,_,rfl,w,I,i⟩:=x;have m:=(xZ f.aD).1;have k:∃d p:Nat->WA,∀j,j<(dz f.aD).length->g.cell? (ay o (j*2))=some (d j)/\g.cell? (ay o (j*2+1))=some (p j)/\jL B0 g ((dz f.aD).getD j (0,0)) (d j) (p j):=by
   refine⟨fun j=>(g.cell? (ay o (j*2))).getD undef,fun j=>(g.cell? (ay o (j*2+1))).getD undef,fun j b=>?_⟩;obtain⟨a,c,z,A,E⟩:=i j b;refine⟨by simp[z],by simp[A],?_⟩;simpa[z,A]using E
  obtain⟨d,p,hF⟩:=k;have l:∀j,j<(dz f.aD).length->(dz f.aD).getD j (0,0)∈dz f.aD:=fun j b=>by rw[qly,qm3 b];exact qmz _
  refine NN K o (dz f.aD).length d p ((dz f.aD).map (dx f)) (fun j=>iU f ((dz f.aD).getD j (0,0))) s r t u cap body q (xZ _).2 w.1 (qmf _ _ w.2) I (qmf _ _ (hF 0 m).1) w.2 (fun j b=>⟨(hF j b).1,(hF j b).2.1⟩) (fun j b=>?_) (fun v H j b=>Da f _ v H (RY _) j b) (fun j b=>?_);·obtain⟨_,_,_,_,h,_⟩:=(hF j b).2.2.shape;exact⟨_,_,h⟩
  ·have:=P7 (hF j b).2.2 f C (Pb f h _ (l j b)) B n s r t u cap body q;have e:((dz f.aD).map (dx f)).getD j []=dx f ((dz f.aD).getD j (0,0)):=by simp[b]
   rw[e];exact this
def Ho(k:Int):Fr:=⟨k,0,0,0,0,false,0,0,⟨#[]⟩,[]⟩
def norm(f:Fr):Fr:=C_ f (dz f.aD) (dz f.aD).length (Ho f.aD)
def pX{f:Fr}(h:snd f=true):f.aD=1\/f.aD=2\/f.aD=3\/f.aD=4\/f.aD=5\/f.aD=6\/f.aD=7\/f.aD=8:=by obtain⟨_,a,b,_⟩:=sI f h;omega
def norm_eq(f:Fr)(h:snd f=true):norm f=
  (if f.aD=1 then Ho 1 else if f.aD=2 then{Ho 2 with ranges:=f.ranges}else if f.aD=3 then{Ho 3 with aG:=f.aG,aC:=f.aC,aN:=f.aN}else if f.aD=4 then{Ho 4 with bG:=f.bG,aG:=f.aG,aC:=f.aC,data:=f.data}
  else if f.aD=5 then{Ho 5 with aT:=f.aT}else if f.aD=6 then{Ho 6 with aG:=f.aG,aT:=f.aT}else if f.aD=7 then{Ho 7 with id:=f.id,aH:=f.aH,data:=f.data}else{Ho 8 with aT:=f.aT}):=by
 unfold norm;rcases pX h with e|e|e|e|e|e|e|e<;>rw[e]<;>rfl
def kL(f:Fr)(h:snd f=true):(norm f).aD=f.aD:=by rw[norm_eq f h];rcases pX h with e|e|e|e|e|e|e|e<;>rw[e]<;>rfl
def Db(f:Fr)(h:snd f=true):snd (norm f)=true:=by
 obtain⟨⟨c,d,g,i,b,j,k⟩,_,_,a⟩:=sI f h;rw[norm_eq f h];unfold ny at a;rcases pX h with e|e|e|e|e|e|e|e;·rw[e];rfl
 ·rw[e]at a ⊢;simp only[show((2:Int)=1)=False by decide,if_true,if_false]at a ⊢;unfold snd qy ny;simp[Ho,a]
 ·rw[e]at a ⊢;simp only[show((3:Int)=1)=False by decide,show((3:Int)=2)=False by decide,if_true,if_false]at a ⊢;unfold snd qy ny;simp[Ho,c,d,g,i];exact of_decide_eq_true a
 ·rw[e]at a ⊢;simp only[show((4:Int)=1)=False by decide,show((4:Int)=2)=False by decide,show((4:Int)=3)=False by decide,if_true,if_false]at a ⊢;unfold snd qy ny;simp[Ho,c,d,g];exact of_decide_eq_true a
 ·rw[e];simp only[show((5:Int)=1)=False by decide,show((5:Int)=2)=False by decide,show((5:Int)=3)=False by decide,show((5:Int)=4)=False by decide,if_true,if_false];unfold snd qy ny;simp[Ho,b]
 ·rw[e];simp only[show((6:Int)=1)=False by decide,show((6:Int)=2)=False by decide,show((6:Int)=3)=False by decide,show((6:Int)=4)=False by decide,show((6:Int)=5)=False by decide,if_true,if_false];unfold snd qy ny;simp[Ho,b,c,d]
 ·rw[e];simp only[show((7:Int)=1)=False by decide,show((7:Int)=2)=False by decide,show((7:Int)=3)=False by decide,show((7:Int)=4)=False by decide,show((7:Int)=5)=False by decide,show((7:Int)=6)=False by decide,if_true,if_false];unfold snd qy ny;simp[Ho,j,k]
 ·rw[e];simp only[show((8:Int)=1)=False by decide,show((8:Int)=2)=False by decide,show((8:Int)=3)=False by decide,show((8:Int)=4)=False by decide,show((8:Int)=5)=False by decide,show((8:Int)=6)=False by decide,show((8:Int)=7)=False by decide,if_false];unfold snd qy ny;simp[Ho,b]
def NP(f:Fr)(h:snd f=true):aX (norm f)=aX f:=by unfold aX;rw[kL f h,norm_eq f h];rcases pX h with e|e|e|e|e|e|e|e<;>rw[e]<;>rfl
def P8(f:Fr)(h:snd f=true)(d:lX f):lX (norm f):=by
 obtain⟨i,c,k,b,⟨u1,u2,u3,u4,u5⟩,g⟩:=d;rw[norm_eq f h];have z:(0:Nat)<18446744073709551616:=gP;rcases pX h with e|e|e|e|e|e|e|e<;>rw[e]
 ·show lX ⟨1,0,0,0,0,false,0,0,⟨#[]⟩,[]⟩;exact⟨qm2 _,qm2 _,⟨(by decide:(-9223372036854775808:Int)<=1),(by decide:(1:Int)<=9223372036854775807)⟩,⟨(by decide:(-9223372036854775808:Int)<=0),(by decide:(0:Int)<=9223372036854775807)⟩,⟨z,z,z,z,z⟩,fun j a=>absurd a (qmy _)⟩
 ·show lX ⟨2,0,0,0,0,false,0,0,⟨#[]⟩,f.ranges⟩;exact⟨i,qm2 _,⟨(by decide:(-9223372036854775808:Int)<=2),(by decide:(2:Int)<=9223372036854775807)⟩,⟨(by decide:(-9223372036854775808:Int)<=0),(by decide:(0:Int)<=9223372036854775807)⟩,⟨z,z,z,z,z⟩,g⟩
 ·show lX ⟨3,f.aG,f.aC,f.aN,0,false,0,0,⟨#[]⟩,[]⟩;exact⟨qm2 _,qm2 _,⟨(by decide:(-9223372036854775808:Int)<=3),(by decide:(3:Int)<=9223372036854775807)⟩,b,⟨u1,u2,z,z,z⟩,fun j a=>absurd a (qmy _)⟩
 ·show lX ⟨4,f.aG,f.aC,0,0,f.bG,0,0,f.data,[]⟩;exact⟨qm2 _,c,⟨(by decide:(-9223372036854775808:Int)<=4),(by decide:(4:Int)<=9223372036854775807)⟩,b,⟨u1,z,z,z,z⟩,fun j a=>absurd a (qmy _)⟩
 ·show lX ⟨5,0,0,0,f.aT,false,0,0,⟨#[]⟩,[]⟩;exact⟨qm2 _,qm2 _,⟨(by decide:(-9223372036854775808:Int)<=5),(by decide:(5:Int)<=9223372036854775807)⟩,⟨(by decide:(-9223372036854775808:Int)<=0),(by decide:(0:Int)<=9223372036854775807)⟩,⟨z,z,u3,z,z⟩,fun j a=>absurd a (qmy _)⟩
 ·show lX ⟨6,f.aG,0,0,f.aT,false,0,0,⟨#[]⟩,[]⟩;exact⟨qm2 _,qm2 _,⟨(by decide:(-9223372036854775808:Int)<=6),(by decide:(6:Int)<=9223372036854775807)⟩,b,⟨z,z,u3,z,z⟩,fun j a=>absurd a (qmy _)⟩
 ·show lX ⟨7,0,0,0,0,false,f.id,f.aH,f.data,[]⟩;exact⟨qm2 _,c,⟨(by decide:(-9223372036854775808:Int)<=7),(by decide:(7:Int)<=9223372036854775807)⟩,⟨(by decide:(-9223372036854775808:Int)<=0),(by decide:(0:Int)<=9223372036854775807)⟩,⟨z,z,z,u4,u5⟩,fun j a=>absurd a (qmy _)⟩
 ·show lX ⟨8,0,0,0,f.aT,false,0,0,⟨#[]⟩,[]⟩;exact⟨qm2 _,qm2 _,⟨(by decide:(-9223372036854775808:Int)<=8),(by decide:(8:Int)<=9223372036854775807)⟩,⟨(by decide:(-9223372036854775808:Int)<=0),(by decide:(0:Int)<=9223372036854775807)⟩,⟨z,z,u3,z,z⟩,fun j a=>absurd a (qmy _)⟩
def V_(w:Wq):qH 215 #[.int .u8 1] w (iZ 1) fun a=>a=w:=by go_enter qny,qnx;go_wp2;go_ret;exact⟨rfl,rfl⟩
def Wh(w:Wq):qH 215 #[.int .u8 2] w (iZ 2) fun a=>a=w:=by go_enter qny,qnx;go_wp2;go_ret;exact⟨rfl,rfl⟩
def RZ(w:Wq):qH 215 #[.int .u8 36] w (iZ 3) fun a=>a=w:=by go_enter qny,qnx;go_wp2;go_ret;exact⟨rfl,rfl⟩
def Wi(w:Wq):qH 215 #[.int .u8 8] w (iZ 4) fun a=>a=w:=by go_enter qny,qnx;go_wp2;go_ret;exact⟨rfl,rfl⟩
def Wj(w:Wq):qH 215 #[.int .u8 9] w (iZ 4) fun a=>a=w:=by go_enter qny,qnx;go_wp2;go_ret;exact⟨rfl,rfl⟩
def R3(w:Wq):qH 215 #[.int .u8 16] w (iZ 5) fun a=>a=w:=by go_enter qny,qnx;go_wp2;go_ret;exact⟨rfl,rfl⟩
def R4(w:Wq):qH 215 #[.int .u8 17] w (iZ 6) fun a=>a=w:=by go_enter qny,qnx;go_wp2;go_ret;exact⟨rfl,rfl⟩
def R5(w:Wq):qH 215 #[.int .u8 48] w (iZ 7) fun a=>a=w:=by go_enter qny,qnx;go_wp2;go_ret;exact⟨rfl,rfl⟩
def R6(w:Wq):qH 215 #[.int .u8 28] w (iZ 8) fun a=>a=w:=by go_enter qny,qnx;go_wp2;go_ret;exact⟨rfl,rfl⟩
def Dc(f:Fr)(h:snd f=true):∃x t,aX f=x::t/\∀w,qH 215 #[.int .u8 ((x.toNat:Nat):Int)] w (iZ f.aD) fun d=>d=w:=by
 have a:∀(l:List (List UInt8)) n,dR l (n+1)=l.getD 0 []++iB l (n+1) 1:=fun l n=>by have:=uM l (n+1) 0 aj;rw[pW]at this;exact this
 unfold aX;rcases pX h with e|e|e|e|e|e|e|e<;>rw[e]
 ·exact⟨1,[],rfl,V_⟩
 ·exact⟨2,_,a _ 1,Wh⟩
 ·exact⟨36,_,a _ 3,RZ⟩
 ·cases c:f.bG
  ·refine⟨8,iB ((dz 4).map (dx f)) 4 1,?_,Wi⟩;have:=a ((dz 4).map (dx f)) 3;have b:((dz 4).map (dx f)).getD 0 []=[8]:=by
    show dx f (1,0)=[8];unfold dx;rw[c];rfl
   rw[b]at this;exact this
  ·refine⟨9,iB ((dz 4).map (dx f)) 4 1,?_,Wj⟩;have:=a ((dz 4).map (dx f)) 3;have b:((dz 4).map (dx f)).getD 0 []=[9]:=by
    show dx f (1,0)=[9];unfold dx;rw[c];rfl
   rw[b]at this;exact this
 ·exact⟨16,_,a _ 1,R3⟩
 ·exact⟨17,_,a _ 2,R4⟩
 ·exact⟨48,_,a _ 3,R5⟩
 ·exact⟨28,_,a _ 1,R6⟩
def NQ(p q:V3)(w:Wq):CallsD prog 160 #[.pointer (some p),.pointer (some q)] .returning w fun e d f=>e=.returned (.tuple #[])/\d=.returning/\f=w:=by have a:∀w:Wq,(binOp BinOp.eql 20 .nilIface .nilIface).run prog w=.ok (.bool true) w:=fun _=>bO;refine callsD_of_wpS func160 rfl fun b g c=>?_;apply wpS_seq;apply wpS_region;simp[wpOpsS,go_sem,recoverD,c,ntmps160,Exit.thenS];refine wpS_of_wp ?_;simp[Array.replicate];go_wp2;cases b;simp_all[bodyPostS,results,results160]
def qei(w:Wq)(a:V3)(v:WA):(w.setCell a v).os=w.os:=rfl
def Wl(w:Wq)(a:V3)(v:WA):(w.setCell a v).tape=w.tape:=rfl
def NR(w:Wq)(a:V3)(v:WA):(w.setCell a v).output=w.output:=rfl
def Wm(w:Wq)(a:V3)(v:WA):(w.setCell a v).heap.size=w.heap.size:=aM
def GY{f:Fr}{b:Option V3}(hF:aL w g 65 (iX f (.slice b f.ranges.length c)))(h:dY 170 2 w (.slice b f.ranges.length c) f.ranges.length (bQ f.ranges))(a:lX f):nQ w g 0 f b c:=
 ⟨hF.cell 0,hF.cell 1,hF.cell 2,hF.cell 3,hF.cell 4,hF.cell 5,hF.cell 6,hF.cell 7,hF.cell 8,hF.cell 9,fun i j=>by obtain⟨n,o⟩:=wT _ i j;obtain⟨k,d,l,_⟩:=h.cell rfl _ _ n;obtain⟨p,e,m,_⟩:=h.cell rfl _ _ o;rw[d]at e;cases e;exact⟨k,0,d,by rw[qm5];exact l,by rw[qm5];exact m,a.r0 i j⟩,a.Bb,a.Bc,a.k0,a.s0,a.u0⟩
def R7(f:Fr)(hs:snd f=true)(ok:lX f){s C cap:Nat}(a:Nat){bg:Nat}(rest:List UInt8)(h:iM w a s C cap body p bg)(I:body.drop p=aX f++rest)(hj:a<w.heap.size)(hm:s<w.heap.size):WB prog 164 #[aJ a 0] w fun e w'=>∃G,e=.returned (.agg (iX (norm f) G).toArray)/\dY 170 2 w' G (norm f).ranges.length (bQ (norm f).ranges)/\Own (w.heap.size+1) G/\iM w' a s C cap body (p+(aX f).length) p/\vH w.heap.size a a w w':=by
 obtain⟨F,hF⟩:∃F,norm f=F:=⟨_,rfl⟩;have L:Hid (norm f=F/\snd F=true/\lX F):=⟨hF,by rw[<-hF];exact Db f hs,by rw[<-hF];exact P8 f hs ok⟩;rw[hF];clear hF;obtain⟨x,t,K,hK⟩:=Dc f hs;have h5:body.drop p=[x]++(t++rest):=by rw[I,K];rfl
 obtain⟨hp,O⟩:=zU h5;have h6:=h.byte p hp;rw[O]at h6;have x0:w.cell? (ay a 0)=some (.slice (some (ay s C)) body.length cap):=h.bY.cell 0;have x1:w.cell? (ay a 1)=some (iZ p):=h.bY.cell 1;have x2:w.cell? (ay a 2)=some (iZ bg):=h.bY.cell 2;have z2:=h.bY.frozen 2;have hw:=h.ne;have hy:(p:Int)<(body.length:Int):=aj;have HK:=aF hK;have HH:=aF h;have HB:=aF I;have xW:=aF O;clear hK h I h5 K O;go_enter func164,ntmps164;go_upto_region 2 with fail;generalize hW:(w.setCell (ay a 2) (iZ p)).alloc (.cells #[iZ 0,iZ 0,uZ 0,uZ 0,uZ 0,.bool false,uZ 0,uZ 0,.string ⟨#[]⟩,nZ] 65)=W;have u:W.heap.size=w.heap.size+1:=by rw[<-hW];simp
 have B:iM W a s C cap body p p:=by have h:=HH.out;rw[<-hW];have h2:iM (w.setCell (ay a 2) (iZ p)) a s C cap body p p:=⟨h.bY.setCell 2 _,h.bts.of (fun x K=>by simp at K;subst K;exact qmd _ _ _ _ (qna h.ne)),h.le,h.au,h.cap,h.ne⟩;exact h2.of (qmr _ _ _ (by simpa using hj)) (qmr _ _ _ (by simpa using hm))
 have N:aL W w.heap.size 65 [iZ 0,iZ 0,uZ 0,uZ 0,uZ 0,.bool false,uZ 0,uZ 0,.string ⟨#[]⟩,nZ]:=by rw[<-hW];have:=aL.new (w.setCell (ay a 2) (iZ p)) 65 [iZ 0,iZ 0,uZ 0,uZ 0,uZ 0,.bool false,uZ 0,uZ 0,.string ⟨#[]⟩,nZ];simpa using this
 have m:vH w.heap.size a a w W:=by rw[<-hW];exact⟨rfl,rfl,rfl,aM,fun k q D _=>by rw[qmr _ _ _ (by simpa using q),qmd _ _ _ _ D]⟩
 have k0:W.cell? (ay a 0)=some (.slice (some (ay s C)) body.length cap):=B.bY.cell 0;have k1:W.cell? (ay a 1)=some (iZ p):=B.bY.cell 1;have kb:=B.byte p hp;rw[xW.out]at kb;have l1:a<W.heap.size:=aj;have l2:s<W.heap.size:=aj;have HW:=aF (dw u (dw B (dw N m)));clear hW u B N m x0 x1 x2 z2 h6 HH;go_cut [3]from 11 to 22 (fun s3 wx=>s3=(aJ W.heap.size 0)/\wx.heap=(W.alloc (.cells #[iZ f.aD,iZ 0,uZ 0,uZ 0,uZ 0,.bool false,uZ 0,uZ 0,.string ⟨#[]⟩,nZ] 65)).heap/\wx.os=W.os/\wx.tape=W.tape/\wx.output=W.output);case first=>go_region_with (go_at_call 215;refine bH (HK.out _) ?_;rintro w4 R;subst R);all_goals((try go_wp2_with fail);go_meet;exact⟨rfl,rfl,rfl,rfl,rfl⟩)
 case rest=>
  obtain⟨rfl,hh,ho,ht,o⟩:=hcut;obtain⟨u,B,N,m⟩:=HW.out;have E:wc.heap.size=W.heap.size+1:=by rw[hh];simp
  have l:∀b,b<W.heap.size->wc.heap[b]?=W.heap[b]?:=fun b I=>by rw[hh];exact qmr _ _ _ I
  have hF:aL wc W.heap.size 65 (iX (Ho f.aD) nZ):=(aL.new W 65 (iX (Ho f.aD) nZ)).of_heap (by rw[hh];rfl);have y0:wc.cell? (ay W.heap.size 0)=some (iZ f.aD):=hF.cell 0;obtain⟨_,P,xK,_⟩:=sI f hs;have M:=aF (BZ f.aD wc);rw[decide_eq_true (p:=1<=f.aD/\f.aD<=8) ⟨P,xK⟩]at M;have MS:=aF (sJ f.aD P xK wc);have h7:∀(A:Wq) (fw fr:WA),Jv (wc.heap.size+1) A f.aD fw fr->bE wc A->∃g U,fr=.func (.func g) #[] U/\(∀args w,(callFunc g args).run prog w=.ok (.enter g args) w)/\WB prog g (#[aJ a 0,aJ W.heap.size 0]++U) A fun e y=>e=.returned (.tuple #[])/\∃G,RP (wc.heap.size+1) A.heap.size a W.heap.size s C cap body y (p+(aX f).length) p (F) G/\vH A.heap.size a W.heap.size A y:=by
   intro A fw fr V c;obtain⟨g,U,D,h2,h3⟩:=Z6 f V hs ok.Bc ok.Bb a W.heap.size s C cap body p;have gT:wc.heap.size+1<=A.heap.size:=by
    rcases V with⟨_,r⟩|⟨_,pb,qb,_,_,hB,_⟩
    ·rcases r with⟨_,xb,K,_⟩|⟨h,_⟩|⟨h,_⟩|⟨h,_⟩|⟨h,_⟩|⟨h,_⟩
     ·have:=qmf _ _ K.2;have:=K.1;simp at *
      omega
     all_goals simp at h
    ·have:=qmf _ _ hB.2;have:=hB.1;simp at *
     omega
   refine⟨g,U,D,h2,?_⟩;refine(h3 A p (Ho f.aD) nZ rest ⟨qj _,fun _ _ _=>rfl⟩ ⟨?_,hF.of_heap (c.block _ aj),dY.nil _ _ _,Own.nil _,gT,qj _,aj,aj,aj,aj,aj⟩ rfl HB.out).mono ?_;·exact B.of (by rw[c.block _ aj,l _ l1]) (by rw[c.block _ aj,l _ l2])
   ·rintro e y ⟨he,G,r,hS⟩;have h4:RP (wc.heap.size+1) A.heap.size a W.heap.size s C cap body y (p+(aX f).length) p (norm f) G:=r;rw[L.out.1]at h4;exact⟨he,G,h4,hS⟩
  have Z:=aF h7;have h9:=aF (dw E (dw l (dw ho (dw ht o))));clear h7 hh ho ht o u B N m E l hF P xK k0 k1 kb;go_wp2_with fail;refine bH M.out ?_;rintro w4 R;subst R;go_wp2_with fail;refine MS.out.mono ?_;rintro e A ⟨fw,fr,rfl,V,c⟩;obtain⟨g1,ha,_,_,hf,_⟩:=V.shape;subst hf;obtain⟨g,U,hc,eg,hC⟩:=Z.out A _ fr V c;subst hc;have HC:=aF hC;have h8:=aF c;have hu:=qin g1 g ha U;clear hC V c Z MS M y0;go_wp2_with fail;refine bH HC.out ?_;rintro y ⟨G,r,hS⟩;obtain⟨X,Y,hv,_⟩:=r.qO.shape;subst hv;have h0:nQ y W.heap.size 0 (F) X Y:=GY r.sH r.qO L.out.2.2;have Zk:=aF (uD 0 (F) X Y h0);rw[L.out.2.1]at Zk;have HP:=aF r;have T:=aF hS;clear r hS h0 HC;go_wp2_with fail;refine bH Zk.out ?_;rintro S n;obtain⟨E,l,ho,ht,o⟩:=h9.out;obtain⟨u,B,N,m⟩:=HW.out;have c:=h8.out;have hg:=c.size;have hn:=T.out.size;have j:=HP.out.sH.of_heap (n.block _ aj);have Q:∀k,k<W.heap.size->k≠a->S.heap[k]?=W.heap[k]?:=fun k q D=>by rw[n.block k aj,T.out.block k aj D aj,c.block k aj,l k q]
  have z:=N.of_heap (Q w.heap.size aj aj);have n0:=j.cell 0;have n1:=j.cell 1;have n2:=j.cell 2;have n3:=j.cell 3;have n4:=j.cell 4;have n5:=j.cell 5;have n6:=j.cell 6;have n7:=j.cell 7;have n8:=j.cell 8;have n9:=j.cell 9;have d:=aF (show∀i:Nat,S.frozen? (ay w.heap.size i)=false from fun i=>z.frozen i);have r0:=z.cell 0;have r1:=z.cell 1;have r2:=z.cell 2;have r3:=z.cell 3;have r4:=z.cell 4;have r5:=z.cell 5;have r6:=z.cell 6;have r7:=z.cell 7;have r8:=z.cell 8;have r9:=z.cell 9;have z0:=d.out 0;have z1:=d.out 1;have z2:=d.out 2;have z3:=d.out 3;have z4:=d.out 4;have z5:=d.out 5;have z6:=d.out 6;have z7:=d.out 7;have z8:=d.out 8;have z9:=d.out 9;simp only[iX,qml,qma]at n0 n1 n2 n3 n4 n5 n6 n7 n8 n9 r0 r1 r2 r3 r4 r5 r6 r7 r8 r9;have hr:¬(W.heap.size=w.heap.size):=aj;have J:∀H:Wq,H.os=S.os->H.tape=S.tape->H.output=S.output->H.heap.size=S.heap.size->(∀k,k≠w.heap.size->H.heap[k]?=S.heap[k]?)->dY 170 2 H (.slice X (F).ranges.length Y) (F).ranges.length (bQ (F).ranges)/\Own (w.heap.size+1) (.slice X (F).ranges.length Y)/\iM H a s C cap body (p+(aX f).length) p/\vH w.heap.size a a w H:=fun H e1 e2 e3 e4 e5=>by
   have r:=HP.out;refine⟨r.qO.of_heap (fun b I=>?_),r.own.mono aj,r.rd.of ?_ ?_,?_⟩;·have:=r.own b I;rw[e5 b aj,n.block b (r.qO.lt b I)]
   ·rw[e5 a aj,n.block a aj]
   ·rw[e5 s aj,n.block s aj]
   ·refine⟨?_,?_,?_,by rw[e4];have:=n.size;omega,fun k q D _=>?_⟩;·rw[e1,n.os,T.out.os,c.os,ho,m.os]
    ·rw[e2,n.tape,T.out.tape,c.tape,ht,m.tape]
    ·rw[e3,n.output,T.out.output,c.output,o,m.output]
    ·rw[e5 k aj,Q k aj D,m.block k q D D]
  have mh:=aF J;clear J E l ho ht o u B N m c hg hn j Q z n d HP T;go_wp2_with fail;exact Vl (v:=.agg #[(iZ (F).aD),(iZ (F).aG),(uZ ((F).aC:Int)),(uZ ((F).aN:Int)),(uZ ((F).aT:Int)),.bool (F).bG,(uZ ((F).id:Int)),(uZ ((F).aH:Int)),.string (F).data,.slice X (F).ranges.length Y]) (by simp[results,results164,go_sem,r0,r1,r2,r3,r4,r5,r6,r7,r8,r9]) rfl ⟨.slice X (F).ranges.length Y,rfl,mh.out _ (by simp only[qei]) (by simp only[Wl]) (by simp only[NR]) (by simp only[Wm]) (fun k q=>by rw[qmd _ _ _ _ q,qmd _ _ _ _ q,qmd _ _ _ _ q,qmd _ _ _ _ q,qmd _ _ _ _ q,qmd _ _ _ _ q,qmd _ _ _ _ q,qmd _ _ _ _ q,qmd _ _ _ _ q,qmd _ _ _ _ q])⟩
structure PK (w:Wq) (yb yo cap:Nat) (body:List UInt8) (n:Nat) (fs:List Fr) (wr:Wq) (v9:Nat->WA) (k:Nat) (s:WA) (p bg:Nat):Prop where
 box:aL wr w.heap.size 56 [uZ n,s]
 err:aL wr (w.heap.size+1) 94 [.nilIface]
 rd:iM wr (w.heap.size+2) yb yo cap body p bg
 cp:yw (w.heap.size+3) wr s fs v9 k
 gT:w.heap.size+3<=wr.heap.size
 bel:Below w.heap.size w wr
 yl:yb<w.heap.size
def PK.frame{cap:Nat}{i:List Fr}{y:Wq}{r:Nat->WA}(h:PK w f g cap body n i wr r k s p t)(c:vH wr.heap.size (w.heap.size+2) (w.heap.size+2) wr y)(v:iM y (w.heap.size+2) f g cap body m e):PK w f g cap body n i y r k s m e:=by
 have A:=h.gT;have a:∀b,b<wr.heap.size->b≠w.heap.size+2->y.heap[b]?=wr.heap[b]?:=fun b u l=>c.block b u l l;refine⟨h.box.of_heap (a _ aj aj),h.err.of_heap (a _ aj aj),v,⟨h.cp.buf.of_heap (fun b d=>a b (h.cp.buf.lt b d) (bR (h.cp.own b d))),h.cp.own,fun j x=>?_⟩,bR c.size,?_,h.yl⟩;·obtain⟨o,q,z⟩:=h.cp.qO j x;exact⟨o.of_heap (fun b d=>a b (o.lt b d) (bR (q b d))),q,z⟩
 ·exact h.bel.trans ⟨c.os,c.tape,c.output,c.size,fun b d=>a b aj aj⟩
def PK.app{Q R cap:Nat}{m:List Fr}{y:Wq}{z:Nat->WA}{M:Nat}(h:PK w Q R cap body n m y z k s p M)(hk:k<m.length)(hl:m.length<=1000000000)(F:Fr)(hF:m.getD k iL=F)(g:Option V3)(i:Nat)(H:dY 170 2 y (.slice g F.ranges.length i) F.ranges.length (bQ F.ranges))(N:Own (w.heap.size+3) (.slice g F.ranges.length i))(B:∀b,(Value.slice g F.ranges.length i).ownBlock=some b->s.ownBlock≠some b):∃v x f,(∀Z,(eT #[54,54] Z #[s,dh y.heap.size 1 1]).run prog (y.alloc (.cells #[iZ F.aD,iZ F.aG,uZ F.aC,uZ F.aN,uZ F.aT,.bool F.bG,uZ F.id,uZ F.aH,.string F.data,.slice g F.ranges.length i] 65))=.ok (.slice v (k+1) x) f)/\aL f w.heap.size 56 [uZ n,s]/\PK w Q R cap body n m (f.setCell (ay w.heap.size 1) (.slice v (k+1) x)) (fun j=>if j=k then .slice g F.ranges.length i else z j) (k+1) (.slice v (k+1) x) p M:=by
 have gT:=h.gT;have I:=h.yl;obtain⟨q,E⟩:=bT (y.alloc (.cells #[iZ F.aD,iZ F.aG,uZ F.aC,uZ F.aN,uZ F.aT,.bool F.bG,uZ F.id,uZ F.aH,.string F.data,.slice g F.ranges.length i] 65));have V:q.heap.size=y.heap.size+1:=by rw[E];simp
 have d:Below y.heap.size y q:=by rw[E];exact(qlw _ _).alloc (qj _) _
 have G:aL q y.heap.size 65 (iX F (.slice g F.ranges.length i)):=by rw[E];exact aL.new y 65 _
 rw[<-E];have J:dY 65 10 q s k (qF m z k):=h.cp.buf.of_heap (fun b a=>d.block b (h.cp.buf.lt b a));obtain⟨h0,f,C,L,t⟩:=je qR J (ay y.heap.size 0) 1 1 (iX F (.slice g F.ranges.length i)) (by simp[iX]) aj (M6 F _ _ _) (fun j u X=>by rw[qmb,qm5,G.cell];exact X) aj;obtain⟨v,x,Y,_⟩:=L.shape;subst Y;have r:Below (w.heap.size+3) q f:=t.below h.cp.own aj;have A:=t.own h.cp.own aj;have o:∀b,b<w.heap.size+3->f.heap[b]?=y.heap[b]?:=fun b a=>by rw[r.block b a,d.block b aj]
 have D:=h.box.of_heap (o w.heap.size aj);have c:∀b,b≠w.heap.size->(f.setCell (ay w.heap.size 1) (.slice v (k+1) x)).heap[b]?=f.heap[b]?:=fun b a=>qmd _ _ _ _ a;have W:=r.size;refine⟨v,x,f,C,D,⟨D.setCell 1 _,h.err.of_heap (by rw[c _ aj,o _ aj]),h.rd.of (by rw[c _ aj,o _ aj]) (by rw[c _ aj,o _ aj]),⟨?_,A,fun j U=>?_⟩,rR,?_,I⟩⟩
 ·have e:qF m (fun j=>if j=k then .slice g F.ranges.length i else z j) (k+1)=qF m z k++iX F (.slice g F.ranges.length i):=by
   rw[qF,hF,Am m _ z k (fun j U=>by rw[aV aj]),bM rfl]
  rw[e];exact L.of_heap (fun b a=>c b (bR (A b a)))
 ·by_cases e:j=k
  ·subst e;simp only[if_true];rw[hF];refine⟨H.of_heap (fun b a=>?_),N,fun b a l=>?_⟩;·have:=N b a;have:=H.lt b a;rw[c b aj,t.1.block b aj (fun e=>B b a e.symm),d.block b this]
   ·have:=H.lt b a;rcases t.2 b l with l|l;·exact B b a l
    ·omega
  ·simp only[aV e];obtain⟨K,O,P⟩:=h.cp.qO j aj;refine⟨K.of_heap (fun b a=>?_),O,fun b a l=>?_⟩;·have:=O b a;have:=K.lt b a;rw[c b aj,t.1.block b aj (fun e=>P b a e.symm),d.block b this]
   ·have:=K.lt b a;rcases t.2 b l with l|l;·exact P b a l
    ·omega
 ·have S:Below w.heap.size y q:=d.mono aj;have T:Below w.heap.size q f:=r.mono aj;exact h.bel.trans ((S.trans T).setCell (p:=(ay w.heap.size 1)) (qj _) _)
def qY(n:Nat)(a:List Fr)(k:Nat):∀N,k<=N->∃s,gF n a N=gF n a k++s
 |0,h=>⟨[],by obtain rfl:k=0:=aj;simp⟩
 |N+1,h=>by
  by_cases e:k=N+1;·exact⟨[],by rw[e];simp⟩
  ·obtain⟨s,b⟩:=qY n a k N aj;exact⟨s++_,by rw[gF,b,qmh]⟩
def iN(n:Nat)(a:List Fr)(N k:Nat):List UInt8:=(gF n a N).drop (gF n a k).length
def Hr(n:Nat)(a:List Fr)(N:Nat):iN n a N N=[]:=by unfold iN;exact qnj (qj _)
def EN(n:Nat)(a:List Fr)(N:Nat):gF n a N=Num.aB n++iN n a N 0:=by obtain⟨s,b⟩:=qY n a 0 N aj;unfold iN;rw[b,qof rfl];rfl
def wo(n:Nat)(a:List Fr)(N k:Nat)(h:k<N):iN n a N k=aX (a.getD k iL)++iN n a N (k+1):=by
 obtain⟨s,b⟩:=qY n a (k+1) N aj;have c:(gF n a N).drop (gF n a (k+1)).length=s:=by rw[b];exact qof rfl
 have d:gF n a N=gF n a k++(aX (a.getD k iL)++s):=by rw[b,gF];simp only[qmh]
 unfold iN;rw[c,d];exact qof rfl
def getD_map(a:List Fr)(k:Nat)(h:k<a.length):(a.map norm).getD k iL=norm (a.getD k iL):=by rw[qly,qly,qn8,qm3 h];rfl
def PK.same{cap:Nat}{c:List Fr}{W:Wq}{d:Nat->WA}{b:Nat}(h:PK w e f cap body n c wr d k s p b)(a:W.heap=wr.heap)(g:W.os=wr.os)(i:W.tape=wr.tape)(j:W.output=wr.output):PK w e f cap body n c W d k s p b:=
 h.frame ⟨g,i,j,by rw[a];exact qj _,fun _ _ _ _=>by rw[a]⟩ (h.rd.of (by rw[a]) (by rw[a]))
def R8{E cap:Nat}{a:List Fr}{x:Nat->WA}{m:Option V3}{o q:Nat}(h:PK w D E cap body n (a.map norm) wr x k (.slice m k o) p q)(u:k<a.length)(N:a.length<=1000000000)(C:snd (a.getD k iL)=true/\lX (a.getD k iL))(t:body.drop p=iN n a a.length k)(F:Fr)(hF:norm (a.getD k iL)=F)(W:Wq)(G:W.heap=wr.heap)(H:W.os=wr.os)(I:W.tape=wr.tape)(J:W.output=wr.output):WB prog 164 #[(aJ (w.heap.size+2) 0)] W fun e y=>∃j l d f c,e=.returned (.agg #[iZ F.aD,iZ F.aG,uZ F.aC,uZ F.aN,uZ F.aT,.bool F.bG,uZ F.id,uZ F.aH,.string F.data,.slice j F.ranges.length l])/\y.cell? (ay w.heap.size 1)=some (.slice m k o)/\w.heap.size<y.heap.size/\(∀R,(eT #[54,54] R #[.slice m k o,dh y.heap.size 1 1]).run prog (y.alloc (.cells #[iZ F.aD,iZ F.aG,uZ F.aC,uZ F.aN,uZ F.aT,.bool F.bG,uZ F.id,uZ F.aH,.string F.data,.slice j F.ranges.length l] 65))=.ok (.slice d (k+1) f) c)/\c.cell? (ay w.heap.size 1)=some (.slice m k o)/\c.frozen? (ay w.heap.size 1)=false/\Hid (∃x p q,PK w D E cap body n (a.map norm) (c.setCell (ay w.heap.size 1) (.slice d (k+1) f)) x (k+1) (.slice d (k+1) f) p q/\body.drop p=iN n a a.length (k+1)):=by
 have g:=h.same G H I J;have T:=g.gT;have P:=g.yl;rw[wo n a a.length k u]at t;have z:=R7 (a.getD k iL) C.1 C.2 (w.heap.size+2) _ g.rd t aj aj;rw[hF]at z;refine z.mono ?_;rintro e y ⟨S,rfl,A,B,L,M⟩;obtain⟨j,l,O,_⟩:=A.shape;subst O;have v:=g.frame M L;have r:(a.map norm).getD k iL=F:=by rw[getD_map a k u,hF]
 obtain⟨d,f,c,Q,i,K⟩:=v.app (by simpa using u) (by simpa using N) F r j l A (fun b s=>bR (B b s)) (fun b s e=>hwZ (B b s) (g.cp.buf.lt b e));exact⟨j,l,d,f,c,rfl,v.box.cell 1,bR v.gT,Q,i.cell 1,i.frozen 1,_,_,_,K,kJ t⟩
def gD(w:Wq){a:Act}(c:o.guard=none)(s x:Operand)(t d:TypeId)(f:o.op=.call {callee:=.builtin .append,args:=#[s,x],argTypes:=#[t,d]})(vs e:WA)(i:a.eval s=vs)(k:a.eval x=e)(v':WA)(w':Wq)(g:(eT #[t,d] o.type #[vs,e]).run P w=.ok v' w')(h:K (a.put o.dst v') w'):if Region.wanted o (yielded b a.tmps)=true then Oper.wp P o a w K Q else E:=by
 have j:Region.wanted o (yielded b a.tmps)=true:=by simp[Region.wanted,c]
 rw[bM j];exact Lib.wp_append_run w s x t d f vs e i k v' w' g h
def xC(w:Wq){a:Act}(c:o.guard=none)(g:Nat)(x:Operand)(t:TypeId)(m:o.op=.call {callee:=.value (.func g),args:=#[x],argTypes:=#[t]})(d:WA)(q:a.eval x=d)(k:∀args w,(callFunc g args).run P w=.ok (.enter g args) w){R:Ending->Wq->Prop}(f:WB P g #[d] w R)(h:∀e y,R e y->∃v,e=.returned v/\K (a.put o.dst v) y):if Region.wanted o (yielded b a.tmps)=true then Oper.wp P o a w K Q else E:=by
 have p:Region.wanted o (yielded b a.tmps)=true:=by simp[Region.wanted,c]
 rw[bM p];have l:a.eval (.func g)=.func (.func g) #[] #[]:=rfl;have n:(execOp a.eval o).run P w=.ok (.enter g #[d]) w:=by unfold execOp;simp only[m,resolve,List.map_toArray,qov,List.map_nil,q,l];simp[Deferred.ofValue,invoke,k]
 unfold Oper.wp;rw[n,Oper.upon_enter];refine f.mono ?_;intro e y j;obtain⟨v,rfl,i⟩:=h e y j;exact i
def Ko(P:Nat)(w:Wq):Nat:=match w.cell? (ay P 1)with
 |some (.slice _ n _)=>n
 |_=>0
def Df(n:Nat)(a:List Fr)(hn:n<4611686018427387904)(hs:∀j,j<a.length->snd (a.getD j iL)=true/\lX (a.getD j iL))(h6:0<a.length)(hl:a.length<=1000000000)(i u cap:Nat)(l:body=fQ n a)(w:Wq)(v:dG w (some (ay i u)) body)(o:body.length<cap)(G:cap<=9223372036854775807)(h8:i<w.heap.size):WB prog 116 #[.slice (some (ay i u)) body.length cap] w fun e w'=>∃s D,e=.returned (.tuple #[.agg #[uZ n,s],.nilIface])/\yw (w.heap.size+3) w' s (a.map norm) D a.length/\Below w.heap.size w w':=by
 have ho:∀(fn:Fn) (first cap:Array WA) (w:Wq),(Instr.makeFunc fn first cap).run prog w=.ok (.func fn first cap) w:=fun _ _ _ _=>rfl;obtain⟨P,d⟩:=bT (((w.alloc (.cells #[uZ 0,nZ] 56)).alloc (.cells #[.nilIface] 94)).alloc (.cells #[.slice (some (ay i u)) body.length cap,iZ 0,iZ 0] 257));have hm:P.heap.size=w.heap.size+3:=by rw[d];simp
 have M:Below w.heap.size w P:=by rw[d];exact(((qlw _ w).alloc (qj _) _).alloc aM _).alloc rR _
 have hA0:aL P w.heap.size 56 [uZ 0,nZ]:=by rw[d];exact((aL.new w 56 _).alloc _).alloc _
 have X:aL P (w.heap.size+1) 94 [.nilIface]:=by rw[d];have:=(aL.new (w.alloc (.cells #[uZ 0,nZ] 56)) 94 [.nilIface]).alloc (.cells #[.slice (some (ay i u)) body.length cap,iZ 0,iZ 0] 257);simpa using this
 have Z:iM P (w.heap.size+2) i u cap body 0 0:=by refine⟨?_,v.of (fun x hx=>by simp at hx;subst hx;exact M.block _ h8),qm2 _,o,G,aj⟩;rw[d];have:=aL.new ((w.alloc (.cells #[uZ 0,nZ] 56)).alloc (.cells #[.nilIface] 94)) 257 [.slice (some (ay i u)) body.length cap,(iZ ((0:Nat):Int)),(iZ ((0:Nat):Int))];simpa using this
 have N:body.drop 0=Num.aB n++iN n a a.length 0:=by rw[List.drop_zero,l];exact EN n a a.length
 have HN:=aF (jh (w.heap.size+2) n _ Z hn N);have h4:=kJ N;have Y:∀g,iM g (w.heap.size+2) i u cap body (0+(Num.aB n).length) 0->f_ (w.heap.size+2) P g->g.cell? (ay w.heap.size 0)=some (uZ 0)/\g.frozen? (ay w.heap.size 0)=false/\PK w i u cap body n (a.map norm) (g.setCell (ay w.heap.size 0) (uZ n)) (fun _=>.bool false) 0 nZ (0+(Num.aB n).length) 0:=fun g V E=>by have hA1:=hA0.of_heap (E.block _ aj);have r:∀b,b≠w.heap.size->(g.setCell (ay w.heap.size 0) (uZ n)).heap[b]?=g.heap[b]?:=fun b v=>qmd _ _ _ _ v;have hg:Below w.heap.size w g:=M.trans ⟨E.os,E.tape,E.output,Nat.le_of_eq E.size.symm,fun b v=>E.block b aj⟩;refine⟨hA1.cell 0,hA1.frozen 0,hA1.setCell 0 _,(X.of_heap (E.block _ aj)).of_heap (r _ aj),V.of (r _ aj) (r _ aj),⟨dY.nil _ _ _,Own.nil _,fun j hj=>absurd hj (qmy _)⟩,?_,hg.setCell (p:=(ay w.heap.size 0)) (qj _) _,h8⟩;have:=E.size;simp;omega
 have h5:∀k p,k<a.length->body.drop p=iN n a a.length k->p<body.length/\decide (p=body.length)=false:=fun k p hk m=>by
  rw[wo n a a.length k hk]at m;obtain⟨x,t,hx,_⟩:=Dc _ (hs k hk).1;have V:(body.drop p).length=(aX (a.getD k iL)).length+(iN n a a.length (k+1)).length:=by rw[m,qm0]
  rw[qms,hx,qmp]at V;exact⟨aj,rR⟩
 have h9:∀p,p<=body.length->body.drop p=iN n a a.length a.length->decide (p=body.length)=true:=fun p hp m=>by
  rw[Hr]at m;have V:(body.drop p).length=0:=by rw[m];rfl
  rw[qms]at V;simp;omega
 have U:=aF Y;have I:=aF h4;have K:=aF h5;have ha:=aF h9;have HS:=aF hs;clear Y h4 h5 h9 N Z X hA0 M hm hs v l o G;go_enter_defers func116,ntmps116
 go_wp2_with fail;rw[<-d];clear d;refine bH HN.out ?_;rintro g ⟨zo,h0⟩;obtain⟨x0,z0,L⟩:=U.out g zo h0;have T:=aF L;have J:=aF (FL L.rd);rw[(K.out 0 _ h6 I.out).2]at J;clear L zo h0 HN U;go_wp2_with fail;refine bH J.out ?_;rintro w2 ⟨q,rfl⟩;have S:Hid (∃D B C p Q,PK w i u cap body n (a.map norm) (((g.setCell (ay w.heap.size 0) (uZ n))).drewN q) D 0 (.slice B 0 C) p Q/\body.drop p=iN n a a.length 0):=⟨_,_,_,_,_,T.out.same rfl rfl rfl rfl,I.out⟩;clear T I J x0 z0;generalize ((g.setCell (ay w.heap.size 0) (uZ n))).drewN q=w3 at *
 go_wp2_with fail;go_loopw [25] (fun _ wr=>∃k:Nat,k<=a.length/\Hid (∃D B C p Q,PK w i u cap body n (a.map norm) wr D k (.slice B k C) p Q/\body.drop p=iN n a a.length k)) (fun _ wr=>a.length-Ko w.heap.size wr);case atStart=>exact⟨0,qm2 _,S.out⟩
 case round=>
  clear S;obtain⟨k,hk,HI⟩:=hrel;obtain⟨D,B,C,p,Q,A,m⟩:=HI.out;have x1:wr.cell? (ay w.heap.size 1)=some (.slice B k C):=A.box.cell 1;have HM:Hid (Ko w.heap.size wr=k):=by unfold Hid Ko;rw[x1]
  have zL:=aF (FL A.rd);by_cases O:k<a.length
  ·rw[(K.out k p O m).2]at zL;obtain⟨F,hF⟩:∃F,norm (a.getD k iL)=F:=⟨_,rfl⟩;have HC:=aF (fun W e1 e2 e3 e4=>R8 A O hl (HS.out k O) m F hF W e1 e2 e3 e4);clear A m hF HI ha K HS;go_wp2_with fail;refine bH zL.out ?_;rintro w4 ⟨q4,rfl⟩;go_upto_region 7 with fail;have hf:∀args w,(callFunc 164 args).run prog w=.ok (.enter 164 args) w:=enters_of func164 bO rfl;refine wp_region_noPanic ?_;go_region_law (first|(refine xC _ (by rfl) 164 _ _ (by rfl) _ (by rfl) hf (HC.out _ (by rfl) (by rfl) (by rfl) (by rfl)) ?_;rintro e y ⟨ra,rc,a',c',W5,rfl,t1,t2,oh,t3,t4,R⟩;refine⟨_,rfl,?_⟩)|(refine gD _ (by rfl) _ _ _ _ (by rfl) _ _ (by rfl) (by rfl) _ _ (oh _) ?_))
   all_goals(
    refine NoPanic.normal ?_;have NA:Hid (Ko w.heap.size (W5.setCell (ay w.heap.size 1) (.slice a' (k+1) c'))=k+1):=by unfold Hid Ko;rw[World.cell?_setCell_same' _ _ _ (by rw[t3];rfl)]
    obtain⟨Q9,p',he,c,h3⟩:=R.out;have hc:Hid (∃D B C p Q,PK w i u cap body n (a.map norm) (W5.setCell (ay w.heap.size 1) (.slice a' (k+1) c')) D (k+1) (.slice B (k+1) C) p Q/\body.drop p=iN n a a.length (k+1)):=⟨Q9,_,_,p',he,c,h3⟩;clear c h3 R oh t1 t2 t3 t4;go_wp2_with fail;go_roundw;case rel=>exact⟨k+1,aj,hc⟩
    case measure=>rw[HM.out,NA.out];omega)
  ·obtain rfl:k=a.length:=aj;rw[ha.out p A.rd.le m]at zL;have hA:=A.box;have hE:=A.err;have H:∀q (x y z:WA),yw (w.heap.size+3) ((((wr.drewN q).setCell (ay w.heap.size 0) x).setCell (ay w.heap.size 1) y).setCell (ay (w.heap.size+1) 0) z) (.slice B a.length C) (a.map norm) D a.length/\Below w.heap.size w ((((wr.drewN q).setCell (ay w.heap.size 0) x).setCell (ay w.heap.size 1) y).setCell (ay (w.heap.size+1) 0) z):=fun q x y z=>by
    have c:=A.same (W:=wr.drewN q) rfl rfl rfl rfl;have h7:∀b,w.heap.size+3<=b->((((wr.drewN q).setCell (ay w.heap.size 0) x).setCell (ay w.heap.size 1) y).setCell (ay (w.heap.size+1) 0) z).heap[b]?=(wr.drewN q).heap[b]?:=fun b v=>by rw[qmd _ _ _ _ rR,qmd _ _ _ _ rR,qmd _ _ _ _ rR]
    refine⟨⟨c.cp.buf.of_heap (fun b v=>h7 b (c.cp.own b v)),c.cp.own,fun j hj=>?_⟩,((c.bel.setCell (p:=(ay w.heap.size 0)) (qj _) _).setCell (p:=(ay w.heap.size 1)) (qj _) _).setCell (p:=(ay (w.heap.size+1) 0)) aM _⟩;obtain⟨r1,r2,r3⟩:=c.cp.qO j hj;exact⟨r1.of_heap (fun b v=>h7 b (r2 b v)),r2,r3⟩
   have a0:wr.cell? (ay w.heap.size 0)=some (uZ n):=hA.cell 0;have b0:wr.cell? (ay (w.heap.size+1) 0)=some .nilIface:=hE.cell 0;have z0:=hA.frozen 0;have z1:=hA.frozen 1;have z2:=hE.frozen 0;have mh:=aF H;clear H A m hA hE HI HM;go_wp2_with fail;refine bH zL.out ?_;rintro w4 ⟨q4,rfl⟩;go_wp2_with fail;refine leaves_cons (f:=160) (args:=#[aJ w.heap.size 0,(aJ (w.heap.size+1) 0)]) aM (by simp[go_sem]) ?_;refine(NQ (ay w.heap.size 0) (ay (w.heap.size+1) 0) _).mono ?_;rintro e u' hr ⟨rfl,rfl,rfl⟩;obtain⟨f1,f2⟩:=mh.out q4 (uZ n) (.slice B a.length C) .nilIface;simp[Leaves,settle,results,results116,go_sem,a0,x1,b0];exact⟨⟨_,f1⟩,f2⟩
def yw.mono{A B:Nat}{w:Wq}{s:WA}{a:List Fr}{c:Nat->WA}{k:Nat}(h:yw B w s a c k)(b:A<=B):yw A w s a c k:=
 ⟨h.buf,h.own.mono b,fun j d=>by obtain⟨e,f,g⟩:=h.qO j d;exact⟨e,f.mono b,g⟩⟩
def yw.of{c:List Fr}{g:Nat->WA}(h:yw B w s c g k)(e:∀b,B<=b->b<w.heap.size->w'.heap[b]?=w.heap[b]?):yw B w' s c g k:=
 ⟨h.buf.of_heap (fun b a=>e b (h.own b a) (h.buf.lt b a)),h.own,fun j i=>by obtain⟨d,f,l⟩:=h.qO j i;exact⟨d.of_heap (fun b a=>e b (f b a) (d.lt b a)),f,l⟩⟩
def pY(c:Bool)(n:Nat)(b:List Fr)(B:Nat)(w:Wq)(s a:WA):Prop:=
 if c then a=.nilIface/\∃d,yw B w s (b.map norm) d b.length else n=0/\s=nZ/\a=.iface 57 (iZ 7)
def pY.shape{d:Bool}{n:Nat}{e:List Fr}{B:Nat}{w:Wq}{s b:WA}(h:pY d n e B w s b):∃a m c,s=.slice a m c:=by
 unfold pY at h;cases d;·rw[aV gP]at h;exact⟨_,_,_,h.2.1⟩
 ·rw[bM rfl]at h;obtain⟨_,i,f⟩:=h;obtain⟨a,c,g,_⟩:=f.buf.shape;exact⟨_,_,_,g⟩
def pY.qen{b:Bool}{c:List Fr}{a:WA}(h:pY b n c B w s a):a=.nilIface\/a=.iface 57 (iZ 7):=by
 unfold pY at h;cases b;·rw[aV gP]at h;exact .inr h.2.2
 ·rw[bM rfl]at h;exact .inl h.1
def pY.of{c:Bool}{n:Nat}{d:List Fr}{A B:Nat}{w w':Wq}{s a:WA}(h:pY c n d B w s a)(g:A<=B)(e:∀b,B<=b->b<w.heap.size->w'.heap[b]?=w.heap[b]?):pY c n d A w' s a:=by
 unfold pY at h ⊢;cases c;·exact h
 ·rw[bM rfl]at h ⊢;obtain⟨f,j,i⟩:=h;exact⟨f,j,(i.of e).mono g⟩
def qZ(c:Bool)(n:Nat)(a:List Fr)(l:List UInt8):Prop:=
 if c then n<4611686018427387904/\(∀j,j<a.length->snd (a.getD j iL)=true/\lX (a.getD j iL))/\0<a.length/\a.length<=1000000000/\l=bP n a
 else n=0/\∃body b,l=body++b/\b.length=4/\Num.val 0 b≠Crc.sum body
def sU(l:List UInt8):Num.val 0 (iV l)=Crc.sum l:=by unfold iV;rw[Num.MG,qpg,qm5];exact Nat.mod_eq_of_lt (qm9 (Crc.sum_lt l) gP)
def qh(m:Bool)(n:Nat)(f:List Fr)(k B cap:Nat)(g:qZ m n f l)(hb:dG w (some (ay k B)) l)(I:l.length<=1000000000)(Z:l.length<=cap)(H:cap<=9223372036854775807)(h5:k<w.heap.size)(hT:kU w)(U:2<=w.heap.size):WB prog 69 #[.slice (some (ay k B)) l.length cap] w fun e D=>∃s E,e=.returned (.tuple #[.agg #[uZ n,s],E])/\pY m n f (w.heap.size+1) D s E/\Below w.heap.size w D:=by
 have W:∃body o,l=body++o/\o.length=4/\decide (Num.val 0 o=Crc.sum body)=m/\(m=true->body=fQ n f):=by
  unfold qZ at g;cases m;·rw[aV gP]at g;obtain⟨_,body,o,F,U,N⟩:=g;exact⟨body,o,F,U,by simp[N],fun h=>by cases h⟩
  ·rw[bM rfl]at g;exact⟨fQ n f,iV (fQ n f),g.2.2.2.2,Num.jy 4 _,by rw[sU];simp,fun _=>rfl⟩
 obtain⟨body,o,V,A,Y,G⟩:=W;have J:l.length=body.length+4:=by rw[V,qm0,A]
 obtain⟨d,i⟩:=bT (w.alloc (.cells #[uZ 0,nZ] 56));have c:d.heap.size=w.heap.size+1:=by rw[i];simp
 have a:Below w.heap.size w d:=by rw[i];exact(qlw _ w).alloc (qj _) _
 have hA0:aL d w.heap.size 56 [uZ 0,nZ]:=by rw[i];exact aL.new w 56 _
 have u:dG d (some (ay k B)) (body++o):=by rw[<-V];exact hb.of (fun x hx=>by simp at hx;subst hx;exact a.block _ h5)
 have HC:=aF (MK k B body o cap aj A aj u (hT.below a U));rw[Y,<-J]at HC;have j:dG d (some (ay k B)) body:=by have:=u.cut body.length;rwa[List.take_left' rfl]at this
 have r:Hid (m=true->∀q,WB prog 116 #[.slice (some (ay k B)) body.length cap] (d.drewN q) fun e D=>∃s K,e=.returned (.tuple #[.agg #[uZ n,s],.nilIface])/\yw (w.heap.size+4) D s (f.map norm) K f.length/\Below (w.heap.size+1) d D):=fun O q=>by unfold qZ at g;rw[bM O]at g;obtain⟨d1,d2,d3,d4,_⟩:=g;have:=Df n f d1 d2 d3 d4 k B cap (G O) (d.drewN q) j aj H (by show k<d.heap.size;omega);refine this.mono ?_;rintro e D ⟨s,K,F,N,C⟩;have e1:(d.drewN q).heap.size=w.heap.size+1:=c;rw[e1]at N C;exact⟨s,K,F,N,C.os,C.tape,C.output,C.size,C.block⟩
 have M:=aF (dw c (dw a hA0));have HN:Hid (m=false->n=0):=fun O=>by unfold qZ at g;rw[aV (by rw[O];decide)]at g;exact g.1
 clear g hb I V u j c a hA0 G J hT A;generalize l.length=L at *
 go_enter func69,ntmps69;go_wp2_with fail;rw[<-i];clear i;refine bH HC.out ?_;rintro w1 ⟨q,rfl⟩;obtain⟨c,a,hA0⟩:=M.out;cases m
 ·have X:=HN.out rfl;subst X;have S:d.cell? (ay w.heap.size 0)=some (uZ 0):=hA0.cell 0;have T:d.cell? (ay w.heap.size 1)=some nZ:=hA0.cell 1;have z0:=hA0.frozen 0;have z1:=hA0.frozen 1;have Q:Hid (Below w.heap.size w (((d.drewN q).setCell (ay w.heap.size 0) (uZ 0)).setCell (ay w.heap.size 1) nZ)):=by
   have F:Below w.heap.size w (d.drewN q):=⟨a.os,a.tape,a.output,a.size,a.block⟩;exact(F.setCell (p:=(ay w.heap.size 0)) (qj _) _).setCell (p:=(ay w.heap.size 1)) (qj _) _
  clear c a hA0 M r;go_wp2;exact Vl (v:=.tuple #[.agg #[(uZ ((0:Nat):Int)),nZ],.iface 57 (iZ 7)]) (by simp[results,results69,go_sem,S,T]) rfl ⟨_,_,rfl,⟨rfl,rfl,rfl⟩,Q.out⟩
 ·have R:=aF (r.out rfl q);clear c a hA0 r;go_wp2_with fail;refine R.out.mono ?_;rintro e P ⟨s,K,rfl,t,z⟩;obtain⟨sa,sc,hs,_⟩:=t.buf.shape;subst hs;obtain⟨c,a,hA0⟩:=M.out;have hA2:=hA0.of_heap (z.block _ aj);have S:P.cell? (ay w.heap.size 0)=some (uZ 0):=hA2.cell 0;have T:P.cell? (ay w.heap.size 1)=some nZ:=hA2.cell 1;have z0:=hA2.frozen 0;have z1:=hA2.frozen 1;have Q:Hid (∀x y:WA,pY true n f (w.heap.size+1) ((P.setCell (ay w.heap.size 0) x).setCell (ay w.heap.size 1) y) (.slice sa f.length sc) .nilIface/\Below w.heap.size w ((P.setCell (ay w.heap.size 0) x).setCell (ay w.heap.size 1) y)):=fun x y=>by
   refine⟨⟨rfl,K,(t.of (fun b h0 _=>?_)).mono aj⟩,((a.trans (z.mono aj)).setCell (p:=(ay w.heap.size 0)) (qj _) _).setCell (p:=(ay w.heap.size 1)) (qj _) _⟩;rw[qmd _ _ _ _ rR,qmd _ _ _ _ rR]
  clear c a hA0 M t z hA2;go_wp2;obtain⟨f1,f2⟩:=Q.out (uZ n) (.slice sa f.length sc);exact Vl (v:=.tuple #[.agg #[uZ n,.slice sa f.length sc],.nilIface]) (by simp[results,results69,go_sem,S,T]) rfl ⟨_,_,rfl,f1,f2⟩
def Il(o:Bool)(n:Nat)(m:List Fr)(r D cap:Nat)(F:qZ o n m l)(H:dG w (some (ay r D)) l)(k:l.length<=1000000000)(i:l.length<=cap)(j:cap<=9223372036854775807)(z:r<w.heap.size)(G:kU w)(P:2<=w.heap.size):WB prog 41 #[.slice (some (ay r D)) l.length cap] w fun e J=>∃s c,e=.returned (.tuple #[.agg #[uZ n,s],c])/\pY o n m (w.heap.size+1) J s c/\Below w.heap.size w J:=by
 obtain⟨t,d⟩:=bT (w.alloc (.cells #[uZ 0,nZ] 56));have f:t.heap.size=w.heap.size+1:=by rw[d];simp
 have a:Below w.heap.size w t:=by rw[d];exact(qlw _ w).alloc (qj _) _
 have hA0:aL t w.heap.size 56 [uZ 0,nZ]:=by rw[d];exact aL.new w 56 _
 have K:=aF (qh o n m r D cap F (H.of (fun x I=>by simp at I;subst I;exact a.block _ z)) k i j aj (G.below a P) aj);have E:=aF (dw f (dw a hA0));clear F H f a hA0 G;generalize l.length=L at *
 go_enter func41,ntmps41;go_wp2_with fail;rw[<-d];clear d;refine K.out.mono ?_;rintro e q ⟨s,c,rfl,u,g⟩;obtain⟨A,C,B,Q⟩:=u.shape;subst Q;obtain⟨f,a,hA0⟩:=E.out;have hA2:=hA0.of_heap (g.block _ aj);have N:q.cell? (ay w.heap.size 0)=some (uZ 0):=hA2.cell 0;have O:q.cell? (ay w.heap.size 1)=some nZ:=hA2.cell 1;have S:=hA2.frozen 0;have T:=hA2.frozen 1;have M:Hid (∀x y:WA,pY o n m (w.heap.size+1) ((q.setCell (ay w.heap.size 0) x).setCell (ay w.heap.size 1) y) (.slice A C B) c/\Below w.heap.size w ((q.setCell (ay w.heap.size 0) x).setCell (ay w.heap.size 1) y)):=fun x y=>by refine⟨u.of aj (fun b R _=>?_),((a.trans (g.mono aj)).setCell (p:=(ay w.heap.size 0)) (qj _) _).setCell (p:=(ay w.heap.size 1)) (qj _) _⟩;rw[qmd _ _ _ _ rR,qmd _ _ _ _ rR]
 clear f a hA0 E u g hA2;go_wp2;obtain⟨f1,f2⟩:=M.out (uZ n) (.slice A C B);exact Vl (v:=.tuple #[.agg #[uZ n,.slice A C B],c]) (by simp[results,results41,go_sem,N,O]) rfl ⟨_,_,rfl,f1,f2⟩
def Br(N:Bool)(n:Nat)(S:List Fr)(yb yo cap:Nat)(hD:qZ N n S l)(R:dG w (some (ay yb yo)) l)(h8:l.length<=1000000000)(H:0<l.length)(ho:yb<w.heap.size)(hT:kU w)(hE:g_ w)(h2:2<=w.heap.size)(ev:Int)(h6:ev=if N then 0 else 7):WB prog 24 #[.slice (some (ay yb yo)) l.length cap] w fun e w'=>∃s o,e=.returned (.tuple #[.agg #[uZ n,s],iZ ev,(iZ (-1))])/\pY N n S w.heap.size w' s o/\Below w.heap.size w w':=by
 have hg:=aF h6;clear h6;obtain⟨I,E⟩:=bT (w.alloc (.cells #[uZ 0,nZ] 56));have i:I.heap.size=w.heap.size+1:=by rw[E];simp
 have W:Below w.heap.size w I:=by rw[E];exact(qlw _ w).alloc (qj _) _
 have hA0:aL I w.heap.size 56 [uZ 0,nZ]:=by rw[E];exact aL.new w 56 _
 have he:dG I (some (ay yb yo)) l:=R.of (fun x hx=>by simp at hx;subst hx;exact W.block _ ho);obtain⟨v1,O,oh,h4,U⟩:=mg (lG.nil I) (ay yb yo) l.length cap l rfl H (fun j u hu=>by
  have hj:j<l.length:=by have:=(qo8.1 hu).1;rwa[dN]at this
  obtain⟨b,x1,ha,hc⟩:=he j hj;simp at ha;obtain⟨rfl,rfl⟩:=ha;rw[qmb,hc,<-hu];simp[bX,hj]) rR
 rw[qmq]at h4;have Co:Own I.heap.size v1:=U.own (Own.nil _) (qj _);have X:Below I.heap.size I O:=U.below (Own.nil _) (qj _);rcases h4 with⟨_,hn⟩|⟨g,c1,cs,rfl,a,hcl,hc2,hc3,hc4,BN⟩;·rw[hn]at H;simp at H
 ·have f:I.heap.size<=g:=Co g rfl;have c:=a.lt;have nY:Below w.heap.size w O:=W.trans (X.mono aj);have uK:dG O (some (ay g 0)) l:=fun j hj=>by
   refine⟨g,0,rfl,?_⟩;rw[a.cell,qm5];have:(cs.take l.length)[j]?=(bX l)[j]?:=by rw[hc4]
   rw[qm6,bM hj]at this;rw[this];simp[bX,hj]
  have HC:=aF (Il N n S g 0 c1 hD uK h8 hc2 hc3 c (hT.below nY h2) aj);have HW:=aF (dw i (dw nY (dw (hA0.of_heap (X.block _ aj)) (dw a (dw f c)))));have hm:Hid (l.length<=cs.length):=by unfold Hid;omega
  have HE:=aF hE;clear hD R i W hA0 he X nY uK Co U a hcl hc2 hc3 hc4 BN hT hE f c;generalize l.length=L at *
  go_enter func24,ntmps24;go_wp2_with (at_builtin;rw[<-E];refine qmm _ rfl _ _ _ _ rfl _ _ rfl rfl _ _ (oh _) ?_);clear E;refine HC.out.mono ?_;rintro e D ⟨s,o,rfl,q,K⟩;obtain⟨A,C,B,hs⟩:=q.shape;subst hs;have hw:=q.qen;obtain⟨i,nY,hA1,a,f,c⟩:=HW.out;obtain⟨J,F⟩:=bT (D.alloc (.cells #[uZ n,.slice A C B] 56));have t:J.heap.size=D.heap.size+1:=by rw[F];simp
  have M:Below D.heap.size D J:=by rw[F];exact(qlw _ _).alloc (qj _) _
  have h5:aL J D.heap.size 56 [uZ n,.slice A C B]:=by rw[F];exact aL.new D 56 _
  have d:=K.size;have T:∀k,k<O.heap.size->J.heap[k]?=O.heap[k]?:=fun k hk=>by rw[M.block k aj,K.block k hk]
  have h3:Hid (aL J g 5 cs/\pY N n S (O.heap.size+1) J (.slice A C B) o/\Below w.heap.size w J/\aL J w.heap.size 56 [uZ 0,nZ]/\aL J D.heap.size 56 [uZ n,.slice A C B]):=by refine⟨a.of_heap (T g c),q.of (qj _) (fun b _ R=>M.block b R),(nY.trans (K.mono aj)).trans (M.mono aj),hA1.of_heap (T _ aj),h5⟩
  have vW:=aF (dw t (dw d (dw i (dw f c))));clear q K i nY hA1 a f c t M h5 d T HW HC oh;go_wp2_with fail;rw[<-F];clear F;go_loopw [20] (fun Z wr=>∃k:Nat,k<=L/\Z=(iZ k)/\Hid (∃r,r.length=cs.length/\aL wr g 5 r/\pY N n S (O.heap.size+1) wr (.slice A C B) o/\Below w.heap.size w wr/\aL wr w.heap.size 56 [uZ 0,nZ]/\aL wr D.heap.size 56 [uZ n,.slice A C B])) (fun Z _=>L-(eB Z).toNat);case atStart=>exact⟨0,qm2 _,rfl,cs,rfl,h3.out⟩
  case round=>
   clear h3;obtain⟨k,hk,rfl,HI⟩:=hrel;obtain⟨r,Y,a,q,m,P,Q⟩:=HI.out;obtain⟨t,d,i,f,c⟩:=vW.out;have h7:=hm.out;by_cases hy:k<L
   ·have hv:(k:Int)<(L:Int):=aj;have t1:=a.cell k;rw[qm3 aj]at t1;generalize r[k]'aj=x2 at t1;have z1:=a.frozen k;have z:∀b,b≠g->∀v,(wr.setCell (ay g k) v).heap[b]?=wr.heap[b]?:=fun b R v=>qmd _ _ _ _ R;have HN:Hid (∀v,∃r,r.length=cs.length/\aL (wr.setCell (ay g k) v) g 5 r/\pY N n S (O.heap.size+1) (wr.setCell (ay g k) v) (.slice A C B) o/\Below w.heap.size w (wr.setCell (ay g k) v)/\aL (wr.setCell (ay g k) v) w.heap.size 56 [uZ 0,nZ]/\aL (wr.setCell (ay g k) v) D.heap.size 56 [uZ n,.slice A C B]):=fun v=>⟨_,by rw[qn3];exact Y,a.setCell k v,q.of (qj _) (fun b h0 _=>z b aj v),m.setCell (p:=(ay g k)) rR v,P.of_heap (z _ aj v),Q.of_heap (z _ aj v)⟩;clear Y a q m P Q t d i f c z HI h7;go_wp2_with fail;go_roundw;case rel=>exact⟨k+1,aj,by go_num,HN.out _⟩
    case measure=>simp[eB];omega
   ·obtain rfl:k=L:=aj;have hf:g_ wr:=cell_of HE.out (m.block 0 aj);have h9:qH 42 #[o] wr (.tuple #[iZ ev,(iZ (-1))]) fun w'=>Below wr.heap.size wr w':=by
     rw[hg.out];unfold pY at q;cases N;·rw[aV gP]at q;rw[q.2.2];exact pJ 7 eql7 wr hf
     ·rw[bM rfl]at q;rw[q.1];exact yu wr
    have hr:=aF h9;have HR:=aF (dw a (dw q (dw m (dw P Q))));clear h9 hf Y a q m P Q t d i f c HI h7;go_wp2_with fail;refine bH hr.out ?_;rintro w5 G;obtain⟨a,q,m,P,Q⟩:=HR.out;obtain⟨t,d,i,f,c⟩:=vW.out;have hA5:=P.of_heap (G.block _ P.lt);have V:=Q.of_heap (G.block _ Q.lt);have a0:w5.cell? (ay w.heap.size 0)=some (uZ 0):=hA5.cell 0;have a1:w5.cell? (ay w.heap.size 1)=some nZ:=hA5.cell 1;have p0:w5.cell? (ay D.heap.size 0)=some (uZ n):=V.cell 0;have p1:w5.cell? (ay D.heap.size 1)=some (.slice A C B):=V.cell 1;have z0:=hA5.frozen 0;have z1:=hA5.frozen 1;have x0:¬(D.heap.size=w.heap.size):=aj;have HF:Hid (∀x y:WA,pY N n S w.heap.size ((w5.setCell (ay w.heap.size 0) x).setCell (ay w.heap.size 1) y) (.slice A C B) o/\Below w.heap.size w ((w5.setCell (ay w.heap.size 0) x).setCell (ay w.heap.size 1) y)):=fun x y=>by refine⟨q.of aj (fun b h0 R=>?_),((m.trans (G.mono m.size)).setCell (p:=(ay w.heap.size 0)) (qj _) _).setCell (p:=(ay w.heap.size 1)) (qj _) _⟩;rw[qmd _ _ _ _ rR,qmd _ _ _ _ rR,G.block b R]
    clear a q m P Q t d i f c hA5 V G;go_wp2_with fail;obtain⟨f1,f2⟩:=HF.out (uZ n) (.slice A C B);exact Vl (v:=.tuple #[.agg #[uZ n,.slice A C B],iZ ev,(iZ (-1))]) (by simp[results,results24,go_sem,a0,a1]) rfl ⟨_,o,rfl,f1,f2⟩
end Go.Proofs.YtphbledmopchnaaGreatDoor
namespace Go.Proofs.YtphbledmopchnaaGreatDoor
open Go.RowKit Go.Lib Mm Tryz
def val_inj:∀(l c:List UInt8) (a b:Nat),l.length=c.length->Num.val a l=Num.val b c->a=b/\l=c
 |[],[],_,_,_,h=>⟨h,rfl⟩
 |[],_::_,_,_,hl,_=>by simp at hl
 |_::_,[],_,_,hl,_=>by simp at hl
 |x::t,y::u,a,b,hl,h=>by obtain⟨f,d⟩:=val_inj t u (a*256+x.toNat) (b*256+y.toNat) (by simpa using hl) h;have g:=x.toNat_lt;have i:=y.toNat_lt;have e:x.toNat=y.toNat:=aj;exact⟨aj,by rw[UInt8.toNat_inj.1 e,d]⟩
def yP(l:List UInt8):(iV l).length=4:=by unfold iV;exact Num.jy _ _
def sW(n:Nat)(a:List Fr):(bP n a).length=(fQ n a).length+4:=by unfold bP;rw[qm0,yP]
def N8(n:Nat)(d:List Fr)(j:Nat)(y:UInt8)(e:j<(bP n d).length)(b:(bP n d)[j]≠y):qZ false 0 [] ((bP n d).set j y):=by
 unfold qZ;rw[aV gP];refine⟨rfl,?_⟩;unfold bP at e b ⊢;generalize fQ n d=B at e b ⊢;have a:=yP B;by_cases h:j<B.length
 ·refine⟨B.set j y,iV B,by rw[List.set_append_left _ _ h],a,?_⟩;rw[sU];rw[List.getElem_append_left h]at b;have i:B=B.take j++B[j]::B.drop (j+1):=aM;have k:B.set j y=B.take j++y::B.drop (j+1):=by rw[List.set_eq_take_append_cons_drop,bM h]
  have c:=Crc.MF (B.take j) (B.drop (j+1)) B[j] y b;rw[<-i,<-k]at c;exact c
 ·rw[qm0,a]at e;refine⟨B,(iV B).set (j-B.length) y,by rw[List.set_append_right _ _ aj],by rw[qn3];exact a,?_⟩;intro f;rw[<-sU B]at f;have l:=(val_inj _ _ 0 0 aM f).2;rw[List.getElem_append_right aj]at b;have g:((iV B).set (j-B.length) y)[j-B.length]?=some y:=qo0 aj;rw[l,qm3 aj]at g;exact b (qmn g)
def Kv(rs:bZ):(gV rs).length<=24+16*rs.length:=by unfold gV kH;rw[qm0,qm0,qm0];have a:=gJ (rs.getD 0 (0,0)).2;have b:=gJ (rs.length-1);have c:=gJ ((rs.getD 0 (0,0)).2-(rs.getD 0 (0,0)).1);have d:=Js rs (rs.length-1);omega
def Im(f:Fr)(a:Nat×Nat):(dx f a).length<=24+f.data.size+16*f.ranges.length:=by
 have c:=gJ f.aG.toNat;have d:=gJ (fieldAt f a.2);have e:=gJ f.data.size;have g:=Kv f.ranges;have b:f.data.data.toList.length=f.data.size:=qpp;unfold dx;split;·simp only[qqa];omega
 ·split;·simp only[qqa];omega
  ·split;·omega
   ·split;·omega
    ·split;·rw[qm0,b];omega
     ·omega
def Dp(f:Fr)(a:bZ):∀k,(dR (a.map (dx f)) k).length<=k*(24+f.data.size+16*f.ranges.length)
 |0=>by simp[dR]
 |k+1=>by
  have:=Dp f a k;rw[dR,qm0,Nat.succ_mul];have h:((a.map (dx f)).getD k []).length<=24+f.data.size+16*f.ranges.length:=by
   rw[qly,qn8];cases a[k]? with
   |none=>simp
   |some t=>exact Im f t
  omega
def qa7(k:Int):(dz k).length<=4:=by
 unfold dz;repeat' split
 all_goals simp
def N_(f:Fr):(aX f).length<=96+64*(f.data.size+f.ranges.length):=by unfold aX;have b:=Dp f (dz f.aD) (dz f.aD).length;have a:=qa7 f.aD;have c:(dz f.aD).length*(24+f.data.size+16*f.ranges.length)<=4*(24+f.data.size+16*f.ranges.length):=qpo _ a;omega
def cu(c:Int)(n:Nat):Nat:=if c<0 then(-(c+1)).toNat % n else c.toNat % n
def FQ(c:Int)(m:Nat)(h:c<0): -(c+1).tmod (m:Int)=(cu c m:Nat):=by unfold cu;rw[bM h,<-Int.neg_tmod,Int.tmod_eq_emod_of_nonneg aj,Int.natCast_emod,qqd aj]
def FT(c:Int)(m:Nat)(h:0<=c):c % (m:Int)=(cu c m:Nat):=by unfold cu;rw[aV aj,Int.natCast_emod,qqd h]
def dL(c:Int)(m:Nat)(h:0<m):cu c m<m:=by unfold cu;split<;>exact Nat.mod_lt _ h
def iO(c:Int)(m:Nat)(g: -9223372036854775808<=c)(b:c<=9223372036854775807)(d:0<m)(e:m<=9000000000)(w:Wq):qH 50 #[iZ c,iZ m] w (iZ (cu c m:Nat)) fun f=>f=w:=by
 have i:=aF (dL c m d);by_cases h:c<0;·have a:=aF (FQ c m h);go_enter func50,ntmps50;go_wp2;go_ret;exact⟨l9 a.out,rfl⟩
 ·have a:=aF (FT c m aj);go_enter func50,ntmps50;go_wp2;go_ret;exact⟨l9 a.out,rfl⟩
end Go.Proofs.YtphbledmopchnaaGreatDoor
namespace Go.Proofs.YtphbledmopchnaaGreatDoor
open Go.RowKit Go.Lib Go.Shelf Mm Tryz
def D5{n:Nat}{a:List Fr}(h:rG n a=true):(∀i,i<a.length->snd (a.getD i iL)=true)/\n<=dH/\0<a.length:=by unfold rG at h;rw[qmg,qmg]at h;exact⟨(yc a).1 h.1.1,of_decide_eq_true h.1.2,of_decide_eq_true h.2⟩
def Gh(n:Nat)(a:List Fr)(b:∀i,i<a.length->snd (a.getD i iL)=true):∀k,k<=a.length->gF n (a.map norm) k=gF n a k
 |0,_=>rfl
 |k+1,h=>by rw[gF,gF,Gh n a b k aj,getD_map a k aj,NP _ (b k aj)]
def XO(n:Nat)(a:List Fr)(g:rG n a=true):rG n (a.map norm)=true/\fQ n (a.map norm)=fQ n a/\bP n (a.map norm)=bP n a:=by
 obtain⟨c,e,f⟩:=D5 g;have d:fQ n (a.map norm)=fQ n a:=by unfold fQ;rw[qmc];exact Gh n a c _ (qj _)
 refine⟨?_,d,by unfold bP;rw[d]⟩;unfold rG;rw[qmg,qmg];refine⟨⟨(yc _).2 (fun i b=>?_),decide_eq_true e⟩,decide_eq_true (by rw[qmc];exact f)⟩;rw[qmc]at b;rw[getD_map a i b];exact Db _ (c i b)
