import Derived.Test.YtphbledmopchnaaGreatDoorVae
import Derived.Laws.IdiomStrings
import Derived.Defers
import Derived.Recover
import Derived.Deep.CutRange
import Derived.Deep.RegionHeld3
open Go.RowKit.Below renaming heap_setCell->fB,heap_alloc->mI
open Go.Builtin renaming append_->l9
open List renaming append_assoc->eT,length_append->fA,length_drop->fE,drop_left'->mK
open Go.RowKit renaming intOf->eB
open UInt8 renaming toNat->mE
set_option maxHeartbeats 4000000
set_option maxRecDepth 100000
open Go renaming World->Wq,Value->Wx,Calls->WA,bodyPost_ret->VH,Addr->XK
set_option linter.all false
namespace Go.Proofs.YtphbledmopchnaaGreatDoor
open Go.RowKit Go.Lib Go.Shelf Mm Tryz
variable {B B0 C D a c d e f g i j k n p r z:Nat}{E:Prop}{K:Act->Wq->Prop}{P:Program}{Q:Exit->Act->Wq->Prop}{b:Array Oper}{body l:List UInt8}{o:Oper}{s x:Wx}{v w w' wr y:Wq}
structure jk (w:Wq) (rb yb yo cap:Nat) (body:List UInt8) (p bg:Nat):Prop where
 cK:aS w rb 257 [.slice (some (aA yb yo)) body.length cap,iZ p,iZ bg]
 bts:dX w (some (aA yb yo)) body
 le:p<=body.length
 au:body.length<cap
 cap:cap<=9223372036854775807
 ne:rb≠yb
structure gZ (rb:Nat) (w w':Wq):Prop where
 os:w'.os=w.os
 tape:w'.tape=w.tape
 output:w'.output=w.output
 size:w'.heap.size=w.heap.size
 block:∀k,k≠rb->w'.heap[k]?=w.heap[k]?
def gZ.refl(a w):gZ a w w:=⟨rfl,rfl,rfl,rfl,fun _ _=>rfl⟩
def gZ.trans{d a b c}(h:gZ d a b)(k:gZ d b c):gZ d a c:=
 ⟨k.os.trans h.os,k.tape.trans h.tape,k.output.trans h.output,k.size.trans h.size,fun i e=>(k.block i e).trans (h.block i e)⟩
def gZ.set(a o q v w):gZ a w ((w.setCell (aA a o) v).drewN q):=
 ⟨rfl,rfl,rfl,aR,fun k b=>jg _ _ _ _ b⟩
theorem dX.of{a}(h:dX w a l)(e:∀x,a=some x->w'.heap[x.block]?=w.heap[x.block]?):dX w' a l:=fun j c=>by obtain⟨b,d,f,g⟩:=h j c;grind [cell_of]
def jk.set{b cap}(h:jk w b e f cap body p c)(a q)(g:a<=body.length):jk ((w.setCell (aA b 1) (iZ a)).drewN q) b e f cap body a c:=
 ⟨(h.cK.setCell 1 _).of_heap rfl,h.bts.of (fun x d=>by simp at d;subst d;exact jg _ _ _ _ (qh h.ne)),g,h.au,h.cap,h.ne⟩
theorem jk.of{w w' a b d cap body p c}(h:jk w a b d cap body p c)(e:w'.heap[a]?=w.heap[a]?)(f:w'.heap[b]?=w.heap[b]?):jk w' a b d cap body p c:=
 ⟨h.cK.of_heap e,h.bts.of (fun x g=>by grind),h.le,h.au,h.cap,h.ne⟩
def jk.drewN{w b c d cap body p a}(h:jk w b c d cap body p a)(q):jk (w.drewN q) b c d cap body p a:=h.of rfl rfl
def gZ.drewN(a q w):gZ a w (w.drewN q):=⟨rfl,rfl,rfl,rfl,fun _ _=>rfl⟩
theorem jk.byte{cap}(h:jk w g a c cap body p d)(j e):w.cell? (aA a (c+j))=some (.int .u8 ((body[j].toNat:Nat):Int)):=by obtain⟨b,f,i,k⟩:=h.bts j e;grind
def uD{b cap}(p n)(h:jk w a b c cap body p f)(q:p+n<=body.length):bN 214 #[aK a 0,uZ n] w (.slice (some (aA b (c+p))) n (cap-p)) fun l=>jk l a b c cap body (p+n) f/\gZ a w l:=by
 have F:w.cell? (aA a 0)=some (.slice (some (aA b c)) body.length cap):=h.cK.cell 0;have G:w.cell? (aA a 1)=some (iZ p):=h.cK.cell 1;have H:=h.cK.frozen 1;have e:=h.au;have i:=h.cap;have u:(body.length:Int)-(p:Int)=((body.length-p:Nat):Int):=aj;have v:¬(body.length-p<n):=aj;have x:(p:Int)+(n:Int)=((p+n:Nat):Int):=aj;have y:((body.length-p:Nat):Int)<9223372036854775808:=aj;have z:(n:Int)<9223372036854775808:=aj;have A:((p+n:Nat):Int)<9223372036854775808:=aj;have B:(p:Int)<=((p+n:Nat):Int):=aj;have C:((p+n:Nat):Int)<=(cap:Int):=aj;have D:¬(cap=p):=aj;have E:(p+n)-p=n:=aj;have o:=aG (fun r s=>(h.drewN r).set (p+n) s q);clear h;generalize k:p+n=m at *
 generalize g:body.length=N at *
 generalize j:N-p=d at *
 have t:=aG (dz k (dz g j));clear k g j;go_enter func214,ntmps214;go_wp2_with fail;go_quiet (fail);go_wp2_with fail;go_quiet (fail);go_wp2;go_ret;exact⟨rfl,o.out _ _,(gZ.drewN a _ w).trans (gZ.set a 1 _ _ _)⟩
def uE{cap}(h:jk w a e f cap body p c)(m):bN 213 #[aK a 0] w (.int .u8 ((body[p].toNat:Nat):Int)) fun b=>jk b a e f cap body (p+1) c/\gZ a w b:=by have l:=aG (uD p 1 h aj);have g:=aG (fun b (h':jk b a e f cap body (p+1) c)=>h'.byte p m);clear h;generalize body[p].toNat=X at g;go_enter func213,ntmps213;go_wp2_with fail;refine bK l.out ?_;rintro n ⟨d,i⟩;have o:=g.out n d;have j:=aG d;have k:=aG i;clear d i;go_wp2;go_ret;exact⟨rfl,j.out,k.out⟩
theorem J2{b cap}(h:jk w a b c cap body p e):bN 162 #[aK a 0] w (.bool (decide (p=body.length))) fun f=>∃q,f=w.drewN q:=by
 have g:w.cell? (aA a 0)=some (.slice (some (aA b c)) body.length cap):=h.cK.cell 0;have i:w.cell? (aA a 1)=some (iZ p):=h.cK.cell 1;have d:Hid (((p:Int)==(body.length:Int))=decide (p=body.length)):=by unfold Hid;grind
 clear h;go_enter func162,ntmps162;go_wp2_with fail;go_quiet (fail);go_wp2;go_ret;exact⟨dQ d.out,nq,rfl⟩
def Gg(r)(n a:Nat)(w)(h:a<=n)(g:n<18446744073709551616):bN 346 #[r,uZ n,uZ a] w (uZ ((n-a:Nat):Int)) fun b=>b=w:=by
 have c:¬((n:Int)<(a:Int)):=aj;have e:(n:Int)-(a:Int)=((n-a:Nat):Int):=aj;have f:((n-a:Nat):Int)<18446744073709551616:=aj;generalize n-a=d at *
 go_enter func346,ntmps346;go_wp2;go_ret;exact⟨rfl,rfl⟩
theorem LW(T X:Nat)(b:T<72057594037927936)(a:X<256):bits .or .u64 ((T:Int)*256) (X:Int)=((T*256+X:Nat):Int):=by have h:=u64_or_nat (T*256) X aj aj;rw[Nat.or_comm,CG X T 8 a,Nat.add_comm]at h;grind
def Gh(l:List UInt8)(a k h):Num.val a (l.take (k+1))=Num.val a (l.take k)*256+(l[k]).toNat:=by rw[qmw h,NT]
theorem Zn{s cap}(h:jk w d s f cap body p r)(hp:p+1<=body.length)(S:(body[p]'aj).toNat / 64=0):bN 161 #[aK d 0] w (uZ ((Num.val ((body[p]'aj).toNat % 64) ((body.drop (p+1)).take 0):Nat):Int)) fun e=>jk e d s f cap body (p+1) r/\gZ d w e:=by
 have Y:=aG (uE h aj);have P:=aG (fun e (h':jk e d s f cap body (p+1) r)=>uD (p+1) 0 h' aj);have L:=aG (fun e (h':jk e d s f cap body (p+1+0) r) j (H:j<0)=>h'.byte (p+1+j) aj);have hX:=Crc.qX (body[p]'aj);generalize (body[p]'aj).toNat=X at *
 have e1:bits .and .u8 (X:Int) 63=((X % 64:Nat):Int):=by have R:X&&& 63=X % 64:=Ub X 6;grind [u8_and_nat]
 have e2:(X:Int) / 64=0:=aj;have e3:((X % 64:Nat):Int)<64:=aj;obtain⟨c,q⟩:=bU ((body.drop (p+1)).take 0);have n:c.length=0:=by grind
 have v:Hid (∀j (H:j<0),∃x T:Nat,x<256/\body[p+1+j]?.map mE=some x/\T=Num.val (X % 64) (c.take j)/\T<72057594037927936/\Num.val (X % 64) (c.take (j+1))=T*256+x):=fun j H=>by grind
 have N:Hid (Num.val (X % 64) (c.take 0)=Num.val (X % 64) c):=by unfold Hid;grind
 have z:Hid (Num.val (X % 64) (c.take 0)=X % 64):=rfl;rw[<-q];clear S h q n;generalize X % 64=B at *
 go_enter func161,ntmps161;go_wp2_with fail;refine bK Y.out ?_;rintro W ⟨F,g⟩;have y:=aG (P.out W F);have K:=aG g;clear F g;go_wp2_with fail;refine bK y.out ?_;rintro J ⟨a,i⟩;have t:=aG a;have u:=aG (K.out.trans i);have O:=aG (L.out J a);clear a i;go_wp2_with fail;go_loopw [4,19] (fun V A wr=>∃k:Nat,k<=0/\A=(iZ k)/\V=(uZ (Num.val B (c.take k):Nat))/\wr=J) (fun _ A _=>0-(eB A).toNat);case atStart=>exact⟨0,eG _,rfl,by rw[z.out],rfl⟩
 case round=>
  obtain⟨k,hk,rfl,rfl,rfl⟩:=hrel;by_cases o:k<0
  .have I:(k:Int)<0:=aj;obtain⟨x,T,U,D,G,C,b⟩:=v.out k o;have E:=O.out k o;have m:((body[p+1+k]'aj).toNat:Nat)=x:=by grind
   rw[m,show f+(p+1+k)=f+(p+1)+k by omega]at E;have Q:=LW T x C U;obtain⟨Z,l⟩:=bU (T*256+x);rw[<-l]at Q b;rw[<-G];have M:=aG b;clear b l m D G;go_wp2_with fail;go_roundw;case rel=>exact⟨k+1,aj,by go_num,by rw[M.out],trivial⟩
   grind
  .obtain rfl:k=0:=aj;rw[N.out];go_wp2;go_ret;exact⟨rfl,t.out,u.out⟩
theorem Zo{s cap}(h:jk w d s f cap body p r)(hp:p+2<=body.length)(S:(body[p]'aj).toNat / 64=1):bN 161 #[aK d 0] w (uZ ((Num.val ((body[p]'aj).toNat % 64) ((body.drop (p+1)).take 1):Nat):Int)) fun e=>jk e d s f cap body (p+2) r/\gZ d w e:=by
 have Y:=aG (uE h aj);have P:=aG (fun e (h':jk e d s f cap body (p+1) r)=>uD (p+1) 1 h' aj);have L:=aG (fun e (h':jk e d s f cap body (p+1+1) r) j (H:j<1)=>h'.byte (p+1+j) aj);have hX:=Crc.qX (body[p]'aj);generalize (body[p]'aj).toNat=X at *
 have e1:bits .and .u8 (X:Int) 63=((X % 64:Nat):Int):=by have R:X&&& 63=X % 64:=Ub X 6;grind [u8_and_nat]
 have e2:(X:Int) / 64=1:=aj;have e3:((X % 64:Nat):Int)<64:=aj;obtain⟨a,q⟩:=bU ((body.drop (p+1)).take 1);have n:a.length=1:=by grind
 have v:Hid (∀j (H:j<1),∃x T:Nat,x<256/\body[p+1+j]?.map mE=some x/\T=Num.val (X % 64) (a.take j)/\T<72057594037927936/\Num.val (X % 64) (a.take (j+1))=T*256+x):=fun j H=>by
  refine⟨(a[j]'aj).toNat,_,Crc.qX _,?_,rfl,?_,Gh a _ j aj⟩;.grind
  .have:=FH (a.take j) (X % 64) 1 aj;grind
 have N:Hid (Num.val (X % 64) (a.take 1)=Num.val (X % 64) a):=by unfold Hid;grind
 have z:Hid (Num.val (X % 64) (a.take 0)=X % 64):=rfl;rw[<-q];clear S h q n;generalize X % 64=B at *
 go_enter func161,ntmps161;go_wp2_with fail;refine bK Y.out ?_;rintro W ⟨F,g⟩;have y:=aG (P.out W F);have K:=aG g;clear F g;go_wp2_with fail;refine bK y.out ?_;rintro J ⟨b,i⟩;have t:=aG b;have u:=aG (K.out.trans i);have O:=aG (L.out J b);clear b i;go_wp2_with fail;go_loopw [4,19] (fun V A wr=>∃k:Nat,k<=1/\A=(iZ k)/\V=(uZ (Num.val B (a.take k):Nat))/\wr=J) (fun _ A _=>1-(eB A).toNat);case atStart=>exact⟨0,eG _,rfl,by rw[z.out],rfl⟩
 case round=>
  obtain⟨k,hk,rfl,rfl,rfl⟩:=hrel;by_cases o:k<1
  .have I:(k:Int)<1:=aj;obtain⟨x,T,U,D,G,C,c⟩:=v.out k o;have E:=O.out k o;have m:((body[p+1+k]'aj).toNat:Nat)=x:=by grind
   rw[m,show f+(p+1+k)=f+(p+1)+k by omega]at E;have Q:=LW T x C U;obtain⟨Z,l⟩:=bU (T*256+x);rw[<-l]at Q c;rw[<-G];have M:=aG c;clear c l m D G;go_wp2_with fail;go_roundw;case rel=>exact⟨k+1,aj,by go_num,by rw[M.out],trivial⟩
   case measure=>simp[eB];omega
  .obtain rfl:k=1:=aj;rw[N.out];go_wp2;go_ret;exact⟨rfl,t.out,u.out⟩
theorem Zp{s cap}(h:jk w d s f cap body p r)(hp:p+4<=body.length)(S:(body[p]'aj).toNat / 64=2):bN 161 #[aK d 0] w (uZ ((Num.val ((body[p]'aj).toNat % 64) ((body.drop (p+1)).take 3):Nat):Int)) fun e=>jk e d s f cap body (p+4) r/\gZ d w e:=by
 have Z:=aG (uE h aj);have P:=aG (fun e (h':jk e d s f cap body (p+1) r)=>uD (p+1) 3 h' aj);have L:=aG (fun e (h':jk e d s f cap body (p+1+3) r) j (H:j<3)=>h'.byte (p+1+j) aj);have hX:=Crc.qX (body[p]'aj);generalize (body[p]'aj).toNat=X at *
 have e1:bits .and .u8 (X:Int) 63=((X % 64:Nat):Int):=by have R:X&&& 63=X % 64:=Ub X 6;grind [u8_and_nat]
 have e2:(X:Int) / 64=2:=aj;have e3:((X % 64:Nat):Int)<64:=aj;obtain⟨a,q⟩:=bU ((body.drop (p+1)).take 3);have n:a.length=3:=by grind
 have v:Hid (∀j (H:j<3),∃x T:Nat,x<256/\body[p+1+j]?.map mE=some x/\T=Num.val (X % 64) (a.take j)/\T<72057594037927936/\Num.val (X % 64) (a.take (j+1))=T*256+x):=fun j H=>by
  refine⟨(a[j]'aj).toNat,_,Crc.qX _,?_,rfl,?_,Gh a _ j aj⟩;.grind
  .have:=FH (a.take j) (X % 64) 1 aj;have U:(a.take j).length=j:=dZ;rw[U]at this;have h7:(256:Nat) ^ (1+j)<=256 ^ 7:=Yz kX aj;omega
 have N:Hid (Num.val (X % 64) (a.take 3)=Num.val (X % 64) a):=by unfold Hid;grind
 have z:Hid (Num.val (X % 64) (a.take 0)=X % 64):=rfl;rw[<-q];clear S h q n;generalize X % 64=B at *
 go_enter func161,ntmps161;go_wp2_with fail;refine bK Z.out ?_;rintro Y ⟨F,g⟩;have y:=aG (P.out Y F);have K:=aG g;clear F g;go_wp2_with fail;refine bK y.out ?_;rintro J ⟨b,i⟩;have t:=aG b;have u:=aG (K.out.trans i);have O:=aG (L.out J b);clear b i;go_wp2_with fail;go_loopw [4,19] (fun W A wr=>∃k:Nat,k<=3/\A=(iZ k)/\W=(uZ (Num.val B (a.take k):Nat))/\wr=J) (fun _ A _=>3-(eB A).toNat);case atStart=>exact⟨0,eG _,rfl,by rw[z.out],rfl⟩
 case round=>
  obtain⟨k,hk,rfl,rfl,rfl⟩:=hrel;by_cases o:k<3
  .have I:(k:Int)<3:=aj;obtain⟨x,T,V,D,G,C,c⟩:=v.out k o;have E:=O.out k o;have m:((body[p+1+k]'aj).toNat:Nat)=x:=by grind
   rw[m,show f+(p+1+k)=f+(p+1)+k by omega]at E;have Q:=LW T x C V;obtain⟨T',l⟩:=bU (T*256+x);rw[<-l]at Q c;rw[<-G];have M:=aG c;clear c l m D G;go_wp2_with fail;go_roundw;case rel=>exact⟨k+1,aj,by go_num,by rw[M.out],trivial⟩
   case measure=>simp[eB];omega
  .obtain rfl:k=3:=aj;rw[N.out];go_wp2;go_ret;exact⟨rfl,t.out,u.out⟩
theorem Zq{s cap}(h:jk w d s f cap body p r)(hp:p+8<=body.length)(S:(body[p]'aj).toNat / 64=3):bN 161 #[aK d 0] w (uZ ((Num.val ((body[p]'aj).toNat % 64) ((body.drop (p+1)).take 7):Nat):Int)) fun e=>jk e d s f cap body (p+8) r/\gZ d w e:=by
 have Z:=aG (uE h aj);have P:=aG (fun e (h':jk e d s f cap body (p+1) r)=>uD (p+1) 7 h' aj);have L:=aG (fun e (h':jk e d s f cap body (p+1+7) r) j (H:j<7)=>h'.byte (p+1+j) aj);have hX:=Crc.qX (body[p]'aj);generalize (body[p]'aj).toNat=X at *
 have e1:bits .and .u8 (X:Int) 63=((X % 64:Nat):Int):=by have R:X&&& 63=X % 64:=Ub X 6;grind [u8_and_nat]
 have e2:(X:Int) / 64=3:=aj;have e3:((X % 64:Nat):Int)<64:=aj;obtain⟨a,q⟩:=bU ((body.drop (p+1)).take 7);have n:a.length=7:=by grind
 have v:Hid (∀j (H:j<7),∃x T:Nat,x<256/\body[p+1+j]?.map mE=some x/\T=Num.val (X % 64) (a.take j)/\T<72057594037927936/\Num.val (X % 64) (a.take (j+1))=T*256+x):=fun j H=>by
  refine⟨(a[j]'aj).toNat,_,Crc.qX _,?_,rfl,?_,Gh a _ j aj⟩;.grind
  .have:=FH (a.take j) (X % 64) 1 aj;have U:(a.take j).length=j:=dZ;rw[U]at this;have h7:(256:Nat) ^ (1+j)<=256 ^ 7:=Yz kX aj;omega
 have N:Hid (Num.val (X % 64) (a.take 7)=Num.val (X % 64) a):=by unfold Hid;grind
 have z:Hid (Num.val (X % 64) (a.take 0)=X % 64):=rfl;rw[<-q];clear S h q n;generalize X % 64=B at *
 go_enter func161,ntmps161;go_wp2_with fail;refine bK Z.out ?_;rintro Y ⟨F,g⟩;have y:=aG (P.out Y F);have K:=aG g;clear F g;go_wp2_with fail;refine bK y.out ?_;rintro J ⟨b,i⟩;have t:=aG b;have u:=aG (K.out.trans i);have O:=aG (L.out J b);clear b i;go_wp2_with fail;go_loopw [4,19] (fun W A wr=>∃k:Nat,k<=7/\A=(iZ k)/\W=(uZ (Num.val B (a.take k):Nat))/\wr=J) (fun _ A _=>7-(eB A).toNat);case atStart=>exact⟨0,eG _,rfl,by rw[z.out],rfl⟩
 case round=>
  obtain⟨k,hk,rfl,rfl,rfl⟩:=hrel;by_cases o:k<7
  .have I:(k:Int)<7:=aj;obtain⟨x,T,V,D,G,C,c⟩:=v.out k o;have E:=O.out k o;have m:((body[p+1+k]'aj).toNat:Nat)=x:=by grind
   rw[m,show f+(p+1+k)=f+(p+1)+k by omega]at E;have Q:=LW T x C V;obtain⟨T',l⟩:=bU (T*256+x);rw[<-l]at Q c;rw[<-G];have M:=aG c;clear c l m D G;go_wp2_with fail;go_roundw;case rel=>exact⟨k+1,aj,by go_num,by rw[M.out],trivial⟩
   case measure=>simp[eB];omega
  .obtain rfl:k=7:=aj;rw[N.out];go_wp2;go_ret;exact⟨rfl,t.out,u.out⟩
theorem jQ{s cap}(g){l}(n rest)(h:jk w g r s cap body p l)(z:n<4611686018427387904)(t:body.drop p=Num.aB n++rest):bN 161 #[aK g 0] w (uZ n) fun q=>jk q g r s cap body (p+(Num.aB n).length) l/\gZ g w q:=by
 have a:=Num.QS n z rest;rw[<-t]at a;have m:0<(Num.aB n).length:=by grind [Num.jr,Nat.pow_pos]
 have x:(body.drop p).length=(Num.aB n).length+rest.length:=by grind
 have y:(body.drop p).length=body.length-p:=Jo;have A:p<body.length:=aj;have u:=Jp A;rw[u,Num.Jw]at a;have v:(body.drop (p+1)).length=body.length-(p+1):=Jo;generalize f:(body[p]).toNat=X at a;have i:=Crc.qX body[p];rw[f]at i;by_cases o:(body.drop (p+1)).length<2 ^ (X / 64)-1;.rw[dN o]at a;cases a
 .rw[b_ o]at a;simp only[tK,DF]at a;obtain⟨b,c⟩:=a;have k:((body.drop (p+1)).drop (2 ^ (X / 64)-1)).length=rest.length:=by rw[c]
  rw[Jo]at k;have j:X / 64=0\/X / 64=1\/X / 64=2\/X / 64=3:=aj;have d:(Num.aB n).length=2 ^ (X / 64):=by grind
  rw[d];rcases j with e|e|e|e;.rw[e]at b d ⊢;have:=Zn h aj (by grind);rw[f,b]at this;exact this
  .rw[e]at b d ⊢;have:=Zo h aj (by grind);rw[f,b]at this;exact this
  .rw[e]at b d ⊢;have:=Zp h aj (by grind);rw[f,b]at this;exact this
  .rw[e]at b d ⊢;have:=Zq h aj (by grind);rw[f,b]at this;exact this
structure RP (B0 B1 rb fb yb yo cap:Nat) (body:List UInt8) (w:Wq) (p bg:Nat) (cur:Fr) (v9:Wx):Prop where
 rd:jk w rb yb yo cap body p bg
 wY:aS w fb 65 (jV cur v9)
 vF:fO 170 2 w v9 cur.ranges.length (bX cur.ranges)
 own:Own B1 v9
 h01:B0<=B1
 hB:B1<=w.heap.size
 rbl:rb<B0
 fbl:fb<B0
 ybl:yb<B0
 rf:rb≠fb
 fy:fb≠yb
structure yu (B1 rb fb:Nat) (w w':Wq):Prop where
 os:w'.os=w.os
 tape:w'.tape=w.tape
 output:w'.output=w.output
 size:w.heap.size<=w'.heap.size
 block:∀k,k<B1->k≠rb->k≠fb->w'.heap[k]?=w.heap[k]?
def yu.refl(a c b w):yu a c b w w:=⟨rfl,rfl,rfl,aI _,fun _ _ _ _=>rfl⟩
def yu.trans{d f e a b c}(h:yu d f e a b)(k:yu d f e b c):yu d f e a c:=
 ⟨k.os.trans h.os,k.tape.trans h.tape,k.output.trans h.output,dx h.size k.size,fun i g j l=>(k.block i g j l).trans (h.block i g j l)⟩
def gZ.two(h:gZ a w w')(b c):yu b a c w w':=⟨h.os,h.tape,h.output,Nat.le_of_eq h.size.symm,fun k _ d _=>h.block k d⟩
def yu.Gj(b c a o v w):yu b c a w (w.setCell (aA a o) v):=⟨rfl,rfl,rfl,aR,fun k _ _ h=>jg _ _ _ _ h⟩
def yu.fU{b f}(h:yu a e b w w')(d:I7 B0 a f w)(j:e<B0)(i:b<B0):I7 B0 a f w':=
 ⟨dx d.1 h.size,fun k g c=>(h.block k c aj aj).trans (d.2 k g c)⟩
def RP.step{cap a l}(h:RP B0 i c j f g cap body w p d a l)(n:jk w' c f g cap body k d)(e:gZ c w w'):RP B0 i c j f g cap body w' k d a l:=
 ⟨n,h.wY.of_heap (e.block _ (qh h.rf)),h.vF.of_heap (fun b m=>e.block b (by have:=h.own b m;have:=h.rbl;have:=h.h01;omega)),h.own,h.h01,by rw[e.size];exact h.hB,h.rbl,h.fbl,h.ybl,h.rf,h.fy⟩
def RP.Gj{cap a cur' c}(h:RP B0 e g d i j cap body w p f a c)(o x)(l:(jV a c).set o x=jV cur' c)(m:cur'.ranges=a.ranges):RP B0 e g d i j cap body (w.setCell (aA d o) x) p f cur' c:=
 ⟨h.rd.of (jg _ _ _ _ h.rf) (jg _ _ _ _ (qh h.fy)),by rw[<-l];exact h.wY.setCell o x,by rw[m];exact h.vF.of_heap (fun b k=>jg _ _ _ _ (by have:=h.own b k;have:=h.fbl;have:=h.h01;simp;omega)),h.own,h.h01,by simp;exact h.hB,h.rbl,h.fbl,h.ybl,h.rf,h.fy⟩
def jy(f:Fr)(b:Nat×Nat)(a:Fr):Fr:=
 if b.1=0 then a else if b.1=1 then{a with bL:=f.bL}else if b.1=2 then{a with aF:=f.aF}
 else if b.1=3 then(if b.2=279 then{a with aC:=f.aC}else if b.2=280 then{a with aO:=f.aO}else if b.2=283 then{a with aN:=f.aN}else if b.2=284 then{a with id:=f.id}else{a with aJ:=f.aJ})
 else if b.1=4 then{a with data:=f.data}else{a with ranges:=f.ranges}
def Rd(B0 b:Nat)(q:Wq)(n:Wx)(i:List UInt8)(upd:Fr->Fr)(d c k l cap:Nat)(body:List UInt8)(f:Nat):Prop:=
 ∃g h,n=.func (.func g) #[] h/\(∀args w,(callFunc g args).run prog w=.ok (.enter g args) w)/\∀w p a o rest,I7 B0 b q w->RP B0 b d c k l cap body w p f a o->a.ranges=[]->body.drop p=i++rest->WA prog g (#[aK d 0,aK c 0]++h) w fun e j=>e=.returned (.tuple #[])/\∃m,RP B0 b d c k l cap body j (p+i.length) f (upd a) m/\yu b d c w j
theorem CY{rest x}(h:body.drop p=[x]++rest):∃a,body[p]=x:=by grind [fE,List.drop_eq_getElem_cons,List.cons.inj]
def mq{a b}(h:body.drop p=a++b):body.drop (p+a.length)=b:=by rw[<-List.drop_drop,h,YB];rfl
theorem Zr{q}(x n e r s cap body l):Rd B0 d q (.func (.func 322) #[] #[]) [x] (fun a=>a) n e r s cap body l:=by refine⟨322,_,rfl,enters_of func322 bZ rfl,fun w p a o rest _ b _ g=>?_⟩;obtain⟨m,t⟩:=CY g;have i:=aG (uE b.rd m);have k:=aG b;clear b g;go_enter func322,ntmps322;go_wp2_with fail;refine bK i.out ?_;rintro u ⟨f,c⟩;have j:=aG (dz (k.out.step f c) (c.two d e));clear f c;go_wp2;go_end0;exact⟨rfl,o,j.out⟩
def LZ{t}(bL:Bool)(l c v x cap body r):Rd B0 e t (.func (.func 332) #[] #[]) [if bL then 9 else 8] (fun b=>{b with bL:=bL}) l c v x cap body r:=by
 refine⟨332,_,rfl,enters_of func332 bZ rfl,fun w p b q rest _ k _ n=>?_⟩;obtain⟨s,o⟩:=CY n;have i:=aG (uE k.rd s);rw[o]at i;have m:=aG k;clear k n o;cases bL;.go_enter func332,ntmps332;go_wp2_with fail;refine bK i.out ?_;rintro g ⟨f,d⟩;have a:=m.out.step f d;have u:g.cell? (aA c 5)=some (.bool b.bL):=a.wY.cell 5;have y:=a.wY.frozen 5;have j:=aG (dz (a.Gj 5 (.bool false) (cur':={b with bL:=false}) rfl rfl) ((d.two e c).trans (yu.Gj e l c 5 (.bool false) g)));clear f d a;go_wp2;go_end0;exact⟨rfl,q,j.out⟩
 .go_enter func332,ntmps332;go_wp2_with fail;refine bK i.out ?_;rintro g ⟨f,d⟩;have a:=m.out.step f d;have u:g.cell? (aA c 5)=some (.bool b.bL):=a.wY.cell 5;have y:=a.wY.frozen 5;have j:=aG (dz (a.Gj 5 (.bool true) (cur':={b with bL:=true}) rfl rfl) ((d.two e c).trans (yu.Gj e l c 5 (.bool true) g)));clear f d a;go_wp2;go_end0;exact⟨rfl,q,j.out⟩
def Ww(s)(c:0<=s)(j:s<8)(k d x y cap body t):Rd B0 e v (.func (.func 328) #[] #[]) (Num.aB s.toNat) (fun a=>{a with aF:=s}) k d x y cap body t:=by refine⟨328,_,rfl,enters_of func328 bZ rfl,fun w p a u rest _ f _ i=>?_⟩;obtain⟨n,rfl⟩:=Int.eq_ofNat_of_zero_le c;rw[Ct]at i ⊢;have o:=aG (jQ k n rest f.rd aj i);have r:=aG f;have z:¬((8:Int)<=(n:Int)):=aj;have A:(n:Int)<8:=aj;clear f i c j;go_enter func328,ntmps328;go_wp2_with fail;refine bK o.out ?_;rintro m ⟨l,g⟩;have b:=r.out.step l g;have B:m.cell? (aA d 1)=some (iZ a.aF):=b.wY.cell 1;have C:=b.wY.frozen 1;have q:=aG (dz (b.Gj 1 (iZ n) (cur':={a with aF:=(n:Int)}) rfl rfl) ((g.two e d).trans (yu.Gj e k d 1 (iZ n) m)));clear l g b;go_wp2;go_end0;exact⟨rfl,u,q.out⟩
def uF{l G}(o q i n:Nat)(upd v m P Q cap body K)(L:B0<=o)(M:o<l)(E:G.cell? (aA o 0)=some (.func (.func q) #[] #[]))(S:∀args w,(callFunc q args).run prog w=.ok (.enter q args) w)(j:∀b w,WA prog q #[aK b 0] w fun e F=>e=.returned (aK b i)/\F=w)(B:∀a f,∃k,(jV a f)[i]?=some (uZ k))(D:∀a f,(jV a f).set i (uZ n)=jV (upd a) f/\(upd a).ranges=a.ranges)(C:n<=dH):Rd B0 l G (.func (.func 330) #[] #[aK o 0]) (Num.aB n) upd v m P Q cap body K:=by refine⟨330,_,rfl,enters_of func330 bZ rfl,fun w p a f rest y s _ A=>?_⟩;have R:=y.cell L M E;have H:=aG (jQ v n rest s.rd (by unfold dH at C;omega) A);have J:=aG s;have r:=aG (j m w);have x:=aG (D a f);obtain⟨k,d⟩:=B a f;have g:=aG d;clear s A y j B D C E d;go_enter func330,ntmps330;go_wp2_with fail;refine bK r.out ?_;rintro F u;subst u;go_wp2_with fail;refine bK H.out ?_;rintro N ⟨z,t⟩;have c:=J.out.step z t;have O:=c.wY.cell i;rw[g.out]at O;have T:=c.wY.frozen i;have I:=aG (dz (c.Gj i (uZ n) x.out.1 x.out.2) ((t.two l m).trans (yu.Gj l v m i (uZ n) N)));clear z t c;go_wp2;go_end0;exact⟨rfl,f,I.out⟩
def ba_eq(d):(⟨d.data.toList.toArray⟩:ByteArray)=d:=by cases d;simp
theorem qfr{N}(d)(T:d.size<=1000000000)(l b v x cap body B):Rd B0 k N (.func (.func 334) #[] #[]) (Num.aB d.size++d.data.toList) (fun a=>{a with data:=d}) l b v x cap body B:=by
 refine⟨334,_,rfl,enters_of func334 bZ rfl,fun w p a G rest _ C _ y=>?_⟩;rw[lC]at y;have o:=mq y;have s:d.data.toList.length=d.size:=by rw[Nu];rfl
 have f:p+(Num.aB d.size).length+d.size<=body.length:=by grind [Num.aB,fA,fE,Num.jr,Nat.pow_pos]
 have H:=aG (jQ l d.size _ C.rd aj y);have J:=aG C;have m:=aG f;have q:∀j (F:j<d.size),body[p+(Num.aB d.size).length+j]?=some (d.data.toList[j]'aj):=fun j F=>by
  have:(body.drop (p+(Num.aB d.size).length))[j]?=(d.data.toList++rest)[j]?:=by rw[o]
  grind
 have r:∀t,jk t l v x cap body (p+(Num.aB d.size).length+d.size) B->∀c,(convert 60 9 (.slice (some (aA v (x+(p+(Num.aB d.size).length)))) d.size c)).run prog t=.ok (.string d) t:=fun t M c=>by have:=run_convert_bytes_back (P:=prog) t 60 9 5 (aA v (x+(p+(Num.aB d.size).length))) c d.data.toList u29 bZ u9 (fun j F=>by rw[gT,KW];have S:=q j aj;have D:p+(Num.aB d.size).length+j<body.length:=aj;rw[M.byte _ D];grind);rw[s,ba_eq]at this;exact this
 have z:=aG r;have E:Hid ((Num.aB d.size++d.data.toList).length=(Num.aB d.size).length+d.size):=by unfold Hid;grind
 have R:(d.size:Int)<=1000000000:=aj;clear C y o f q r s;generalize (Num.aB d.size).length=L at *
 generalize U:d.size=n at *
 go_enter func334,ntmps334;go_wp2_with fail;refine bK H.out ?_;rintro V ⟨g,i⟩;have K:=aG (uD (p+L) n g m.out);have O:=aG (J.out.step g i);have A:=aG (i.two k b);clear g i;go_wp2_with fail;refine bK K.out ?_;rintro u ⟨g,i⟩;have e:=O.out.step g i;have Q:=z.out u g;have W:u.cell? (aA b 8)=some (.string a.data):=e.wY.cell 8;have X:=e.wY.frozen 8;have I:Hid (RP B0 k l b v x cap body (u.setCell (aA b 8) (.string d)) (p+(L+n)) B {a with data:=d} G/\yu k l b w (u.setCell (aA b 8) (.string d))):=by rw[<-KW];exact dz (e.Gj 8 (.string d) rfl rfl) ((A.out.trans (i.two k b)).trans (yu.Gj k l b 8 (.string d) u))
 clear g i e;go_wp2;go_end0;rw[E.out];exact⟨rfl,G,I.out⟩
theorem UG{y H cap F a C}(h:RP B0 y z f D H cap body w p F a C)(o i n m:Nat)(O:a.ranges.length=n)(N:n+1=m)(W:n<=1000000000):∃q r e,(∀S,(l9 #[63,63] S #[C,dB w.heap.size 1 1]).run prog (w.alloc (.cells #[uZ o,uZ i] 170))=.ok (.slice q m r) e)/\aS e f 65 (jV a C)/\RP B0 y z f D H cap body (e.setCell (aA f 9) (.slice q m r)) p F {a with ranges:=a.ranges++[(o,i)]} (.slice q m r)/\yu y z f w (e.setCell (aA f 9) (.slice q m r)):=by
 subst O;subst N;obtain⟨A,g⟩:=bU (w.alloc (.cells #[uZ o,uZ i] 170));have P:A.heap.size=w.heap.size+1:=by rw[g];simp
 have c:bJ w A:=by rw[g];exact(bP _ _).alloc (aI _) _
 have M:aS A w.heap.size 170 [uZ o,uZ i]:=by grind [aS.new]
 rw[<-g];have B:=h.vF.of_heap (fun b v=>c.block b (h.vF.lt b v));obtain⟨Y,e,x,G,E⟩:=jL Rl B (aA w.heap.size 0) 1 1 (bX [(o,i)]) rfl aj (oJ _) (fun j u Q=>by rw[gT,gG,M.cell];exact Q) aj;obtain⟨q,r,R,_⟩:=G.shape;subst R;have L:=h.hB;have d:=E.below h.own aj;have t:=E.own h.own aj;have T:=h.h01;have I:=h.fbl;have J:=h.rbl;have K:=h.ybl;have X:=d.size;have l:∀b,b<y->e.heap[b]?=w.heap[b]?:=fun b v=>by rw[d.block b v,c.block b aj]
 have s:=h.wY.of_heap (l f aj);refine⟨q,r,e,x,s,⟨?_,?_,?_,t,h.h01,dZ,J,I,K,h.rf,h.fy⟩,?_⟩;.exact(h.rd.of (l z aj) (l D aj)).of (jg _ _ _ _ h.rf) (jg _ _ _ _ (qh h.fy))
 .exact s.setCell 9 _
 .show fO 170 2 _ _ (a.ranges++[(o,i)]).length (bX (a.ranges++[(o,i)]));rw[lM,kV];exact G.of_heap (fun b v=>jg _ _ _ _ (by have:=t b v;simp;omega))
 .refine⟨d.os.trans c.os,d.tape.trans c.tape,d.output.trans c.output,dZ,fun k V _ U=>?_⟩;grind [fB]
theorem Bp(rs k):∀N,k<=N->∃s,kg rs N=kg rs k++s
 |0,h=>⟨[],by grind⟩
 |N+1,h=>by
  by_cases e:k=N+1;.exact⟨[],by rw[e];simp⟩
  .obtain⟨s,a⟩:=Bp rs k N aj;grind [kg,eT]
def mD(rs:bY)(N k:Nat):List UInt8:=(kg rs N).drop (kg rs k).length
theorem Bq(rs N):mD rs N 0=kg rs N:=rfl
theorem Om(rs N):mD rs N N=[]:=by unfold mD;grind
theorem L6(rs N k)(h:k<N):mD rs N k=Num.aB ((rs.getD k (0,0)).1-(rs.getD (k+1) (0,0)).2-2)++(Num.aB ((rs.getD (k+1) (0,0)).2-(rs.getD (k+1) (0,0)).1)++mD rs N (k+1)):=by obtain⟨s,a⟩:=Bp rs (k+1) N aj;grind [kg,mK,Num.aB,eT,mD]
theorem J3(rs:bY)(k)(h:k<rs.length):rs.take k++[((rs.getD k (0,0)).1,(rs.getD k (0,0)).2)]=rs.take (k+1):=by grind [List.take_succ_eq_append_getElem,List.getElem?_eq_getElem]
theorem Wy{w1}(rs)(hR:tN rs=true)(xe:rs.length<=1000000000)(l a V W cap body U):Rd B0 z w1 (.func (.func 326) #[] #[]) (iG rs) (fun s=>{s with ranges:=rs}) l a V W cap body U:=by
 refine⟨326,_,rfl,enters_of func326 bZ rfl,fun w p s C rest _ hP R hb=>?_⟩;obtain⟨F,M⟩:=Ue hR;obtain⟨N,hN⟩:∃N,rs.length=N+1:=⟨rs.length-1,aj⟩;have O:body.drop p=Num.aB (rs.getD 0 (0,0)).2++(Num.aB N++(Num.aB ((rs.getD 0 (0,0)).2-(rs.getD 0 (0,0)).1)++(mD rs N 0++rest))):=by grind [Bq,iG,l6,Nat.add_sub_cancel,eT]
 have hr:(iG rs).length=(Num.aB (rs.getD 0 (0,0)).2).length+(Num.aB N).length+(Num.aB ((rs.getD 0 (0,0)).2-(rs.getD 0 (0,0)).1)).length+(kg rs N).length:=by unfold iG l6;grind
 obtain⟨q1,q2,_⟩:=M 0 F;have P:=mq O;have Q:=mq P;have hc:=mq Q;have o:=aG (jQ l _ _ hP.rd (by unfold dH at q2;omega) O);have Le:=aG (fun w' (h':jk w' l V W cap body _ U)=>jQ l _ _ h' aj P);have h4:=aG (fun w' (h':jk w' l V W cap body _ U)=>jQ l _ _ h' (by unfold dH at q2;omega) Q);have h0:=aG M;have h3:=aG hr;have h2:=aG hc;have HP:=aG hP;have hf:(rs.getD 0 (0,0)).2-((rs.getD 0 (0,0)).2-(rs.getD 0 (0,0)).1)=(rs.getD 0 (0,0)).1:=aj;have HL:=aG (fun(r:Wx) (w:Wq)=>Gg r (rs.getD 0 (0,0)).2 ((rs.getD 0 (0,0)).2-(rs.getD 0 (0,0)).1) w aj (by unfold dH at q2;omega));rw[hf]at HL;have h9:Hid ([((rs.getD 0 (0,0)).1,(rs.getD 0 (0,0)).2)]=rs.take 1):=J3 rs 0 F;clear hP hb O P Q hc M hr hR hf;generalize ha:(rs.getD 0 (0,0)).1=ho at *
 generalize x5:(rs.getD 0 (0,0)).2=B at *
 generalize x0:B-ho=d0 at *
 have Ey:=aG ha;clear ha x5 x0;go_enter func326,ntmps326;go_wp2_with fail;refine bK o.out ?_;rintro x1 ⟨G,c⟩;have n:=aG (Le.out x1 G);have Y:=aG (HP.out.step G c);have X:=aG (c.two z a);clear G c o Le HP;go_wp2_with fail;refine bK n.out ?_;rintro x2 ⟨K,L⟩;have Z:=aG (h4.out x2 K);have zK:=aG (Y.out.step K L);have h6:=aG (X.out.trans (L.two z a));clear K L n Y h4 X;go_wp2_with fail;refine bK Z.out ?_;rintro x3 ⟨Nj,e⟩;have m:=aG (zK.out.step Nj e);have q:=aG (h6.out.trans (e.two z a));clear Nj e Z zK h6;go_wp2_with fail;refine bK (HL.out _ _) ?_;rintro x4 x7;subst x7;obtain⟨a',c',W2,qx,b,J,t⟩:=UG m.out ho B 0 1 (by rw[R];rfl) rfl aj;have hn:x4.cell? (aA a 9)=some C:=m.out.wY.cell 9;obtain⟨a9,c9,y,_⟩:=m.out.vF.shape;rw[show s.ranges.length=0 by rw[R];rfl]at y;subst y;have k9:W2.cell? (aA a 9)=some (.slice a9 0 c9):=b.cell 9;have z9:=b.frozen 9;rw[R,pJ,h9.out]at J;have Nf:=aG J;have h7:=aG (q.out.trans t);have he:=m.out.wY.lt;clear b J t m q HL;go_wp2_with (at_builtin;refine ji _ rfl _ _ _ _ rfl _ _ rfl rfl _ _ (qx _) ?_);clear qx hn k9 z9 he;have UH:=aG (fun k (hk:k<N)=>L6 rs N k hk);have vY:=aG (Om rs N);have h5:Hid (p+(Num.aB B).length+(Num.aB N).length+(Num.aB d0).length+(mD rs N 0).length=p+(iG rs).length):=by unfold Hid;rw[h3.out,Bq];omega
 generalize p+(Num.aB B).length+(Num.aB N).length+(Num.aB d0).length=p0 at *
 go_loopw [4,5,6] (fun s4 s5 s6 wr=>∃k:Nat,k<=N/\s5=(uZ ((N-k:Nat):Int))/\s6=(uZ (((rs.getD k (0,0)).1:Nat):Int))/\(∃x:Nat,s4=(uZ x))/\Hid (∃A C,RP B0 z l a V W cap body wr A U {s with ranges:=rs.take (k+1)} C/\yu z l a w wr/\body.drop A=mD rs N k++rest/\A+(mD rs N k).length=p+(iG rs).length)) (fun _ s5 _ _=>(eB s5).toNat);case atStart=>exact⟨0,eG _,rfl,by rw[Ey.out],⟨_,rfl⟩,p0,_,Nf.out,h7.out,h2.out,h5.out⟩
 case round=>
  clear Nf h7 h2 h5 h3 Ey h9;obtain⟨k,hk,rfl,rfl,⟨xh,rfl⟩,HI⟩:=hrel;by_cases x6:k<N
  .obtain⟨A,C,I,u,f,j⟩:=HI.out;rw[UH.out k x6]at f j;rw[lC,lC]at f;obtain⟨o1,o2,o3⟩:=h0.out (k+1) aj;have o4:=o3 aj;rw[KO]at o4;obtain⟨o5,o6,_⟩:=h0.out k aj;have hj:=J3 rs (k+1) aj;have E:(rs.take (k+1)).length=k+1:=dZ;unfold dH at o2 o6;generalize (rs.getD k (0,0)).1=T at *
   generalize xa:(rs.getD (k+1) (0,0)).2=i at *
   generalize hu:(rs.getD (k+1) (0,0)).1=S at *
   generalize hG:T-i-2=g at *
   generalize hD:i-S=d at *
   have o:=aG (jQ l g _ I.rd aj f);have v:=mq f;have Le:=aG (fun w' (h':jk w' l V W cap body _ U)=>jQ l d _ h' aj v);have hv:=mq v;have Ur:=aG (fun(r:Wx) (w:Wq)=>Gg r T (g+2) w aj aj);rw[show T-(g+2)=i by omega]at Ur;have H:=aG (fun(r:Wx) (w:Wq)=>Gg r i d w aj aj);rw[show i-d=S by omega]at H;have hw:A+(Num.aB g).length+(Num.aB d).length+(mD rs N (k+1)).length=p+(iG rs).length:=by grind
   have Uf:=aG I;have h8:=aG u;have HB:=aG (dz hv hw);have UF:=aG hj;have D:=aG E;have Ey:=aG hu;have g0:0<N-k:=aj;have g1:(g:Int)+2=((g+2:Nat):Int):=aj;have g2:((g+2:Nat):Int)<18446744073709551616:=aj;have g3:((N-k:Nat):Int)-1=((N-(k+1):Nat):Int):=aj;have g4:((N-(k+1):Nat):Int)<18446744073709551616:=aj;have HM:Hid (N-(k+1)<N-k):=by unfold Hid;omega
   generalize g+2=xd at *
   generalize hg:N-(k+1)=n1 at *
   have hx:=aG hg;clear hg;generalize N-k=n0 at *
   clear I u f v hv j hw hj E xa hu hG hD HI o1 o2 o3 o4 o5 o6;go_wp2_with fail;refine bK o.out ?_;rintro y1 ⟨G,c⟩;have n:=aG (Le.out y1 G);have Y:=aG (Uf.out.step G c);have X:=aG (h8.out.trans (c.two z a));clear G c o Le Uf h8;go_wp2_with fail;refine bK (Ur.out _ _) ?_;rintro y2 x8;subst x8;go_wp2_with fail;refine bK n.out ?_;rintro y3 ⟨Nj,e⟩;have m:=aG (Y.out.step Nj e);have q:=aG (X.out.trans (e.two z a));clear Nj e n Y X;go_wp2_with fail;refine bK (H.out _ _) ?_;rintro y4 x9;subst x9;obtain⟨a',c',W2,qx,b,J,t⟩:=UG m.out S i (k+1) (k+2) D.out rfl aj;have hn:y4.cell? (aA a 9)=some C:=m.out.wY.cell 9;obtain⟨a9,c9,y,_⟩:=m.out.vF.shape;rw[D.out]at y;subst y;have k9:W2.cell? (aA a 9)=some (.slice a9 (k+1) c9):=b.cell 9;have z9:=b.frozen 9;simp only[UF.out]at J;have hy:Hid (∃A C,RP B0 z l a V W cap body (W2.setCell (aA a 9) (.slice a' (k+2) c')) A U {s with ranges:=rs.take (k+1+1)} C/\yu z l a w (W2.setCell (aA a 9) (.slice a' (k+2) c'))/\body.drop A=mD rs N (k+1)++rest/\A+(mD rs N (k+1)).length=p+(iG rs).length):=⟨_,_,J,q.out.trans t,HB.out.1,HB.out.2⟩;have he:=m.out.wY.lt;clear b J t m q Ur H;go_wp2_with (at_builtin;refine ji _ rfl _ _ _ _ rfl _ _ rfl rfl _ _ (qx _) ?_);go_roundw;case rel=>exact⟨k+1,aj,by rw[hx.out],by rw[Ey.out],⟨_,rfl⟩,hy⟩
   case measure=>simp[eB];exact HM.out
  .obtain rfl:k=N:=aj;obtain⟨A,C,I,u,f,j⟩:=HI.out;rw[vY.out,vD,sN]at j;rw[<-hN,AJ,j]at I;have HF:=aG (dz I u);clear I u f j HI;have g0:((k-k:Nat):Int)=0:=aj;go_wp2;go_end0;exact⟨rfl,C,HF.out⟩
def RP.alloc{B0 c f e i j cap body w p d a g}(h:RP B0 c f e i j cap body w p d a g)(o):RP B0 c f e i j cap body (w.alloc o) p d a g:=by have k:=h.h01;have r:=h.hB;have l:=h.rbl;have m:=h.fbl;have n:=h.ybl;exact⟨h.rd.of (mJ _ _ _ aj) (mJ _ _ _ aj),h.wY.alloc o,h.vF.of_heap (fun b q=>mJ _ _ _ (h.vF.lt b q)),h.own,k,dZ,l,m,n,h.rf,h.fy⟩
def yu.alloc(a c b w o)(h:a<=w.heap.size):yu a c b w (w.alloc o):=⟨rfl,rfl,rfl,aR,fun k d _ _=>mJ _ _ _ aj⟩
def Br(a:Nat->Fr->Fr):Nat->Fr->Fr
 |0,cur=>cur
 |k+1,cur=>a k (Br a k cur)
theorem xD(a k):∀N,k<=N->∃s,fK a N=fK a k++s
 |0,h=>⟨[],by grind⟩
 |N+1,h=>by
  by_cases e:k=N+1;.exact⟨[],by rw[e];simp⟩
  .obtain⟨s,b⟩:=xD a k N aj;grind [fK,eT]
def iR(a:List (List UInt8))(N k:Nat):List UInt8:=(fK a N).drop (fK a k).length
theorem rG(a N):iR a N 0=fK a N:=rfl
theorem Jb(a N):iR a N N=[]:=by unfold iR;grind
theorem xE(a N k)(h:k<N):iR a N k=a.getD k []++iR a N (k+1):=by obtain⟨s,b⟩:=xD a (k+1) N aj;grind [fK,mK,eT,iR]
theorem RQ{x}(X E a)(fw fr:Nat->Wx)(f v s m G H cap body D)(h9:a<=100)(N:B0<=X)(O:X<c)(Q:B0<=E)(R:E<c)(P:x.cell? (aA X 0)=some (dB E a a))(q:∀j,j<a->x.cell? (aA E (j*2))=some (fw j)/\x.cell? (aA E (j*2+1))=some (fr j))(M:∀j,j<a->∃g W,fw j=.func (.func g) #[] W)(T:∀b,b.ranges=[]->∀j,j<a->(Br v j b).ranges=[])(S:∀j,j<a->Rd B0 c x (fr j) (f.getD j []) (v j) s m G H cap body D):Rd B0 c x (.func (.func 324) #[] #[aK X 0]) (fK f a) (Br v a) s m G H cap body D:=by
 refine⟨324,_,rfl,enters_of func324 bZ rfl,fun w p b t rest u hP K hb=>?_⟩;have cp:=u.cell N O P;have h2:Hid (∃e t,I7 B0 c x w/\RP B0 c s m G H cap body w e D (Br v 0 b) t/\yu c s m w w/\body.drop e=iR f a 0++rest/\e+(iR f a 0).length=p+(fK f a).length):=⟨p,t,u,hP,yu.refl _ _ _ _,by grind [rG],by rw[rG]⟩;have HC:=aG q;have Y:=aG M;have h3:=aG S;have V:=aG (dz Q R);have h5:=aG (T b K);have h4:=aG (fun k (hk:k<a)=>xE f a k hk);have vY:=aG (Jb f a);clear hP hb q M S P N O Q R T K u;go_enter func324,ntmps324;go_wp2_with fail;go_loopw [9] (fun s9 wr=>∃k:Nat,k<=a/\s9=(iZ k)/\Hid (∃e t,I7 B0 c x wr/\RP B0 c s m G H cap body wr e D (Br v k b) t/\yu c s m w wr/\body.drop e=iR f a k++rest/\e+(iR f a k).length=p+(fK f a).length)) (fun s9 _=>a-(eB s9).toNat);case atStart=>grind
 case round=>
  clear h2;obtain⟨k,hk,rfl,U⟩:=hrel;by_cases r:k<a
  .have h7:(k:Int)<(a:Int):=aj;obtain⟨e,t,u,B,o,d,l⟩:=U.out;rw[h4.out k r]at d l;rw[lC]at d;obtain⟨q1,q2⟩:=HC.out k r;have t1:=u.cell V.out.1 V.out.2 q1;have t2:=u.cell V.out.1 V.out.2 q2;obtain⟨g,W,L,eg,hW⟩:=h3.out k r;obtain⟨g2,VK,A⟩:=Y.out k r;rw[L]at t2;rw[A]at t1;have h6:=B.hB;have C:I7 B0 c x (wr.alloc (.cells #[.func (.func g2) #[] VK,.func (.func g) #[] W] 318)):=⟨dZ,fun j h0 h1=>by rw[mJ _ _ _ aj];exact u.2 j h0 h1⟩;have hc:=hW _ e (Br v k b) t _ C (B.alloc _) (h5.out k r) d;have z:=mq d;have hn:∀F J,RP B0 c s m G H cap body F (e+(f.getD k []).length) D (v k (Br v k b)) J->yu c s m (wr.alloc (.cells #[.func (.func g2) #[] VK,.func (.func g) #[] W] 318)) F->∃e t,I7 B0 c x F/\RP B0 c s m G H cap body F e D (Br v (k+1) b) t/\yu c s m w F/\body.drop e=iR f a (k+1)++rest/\e+(iR f a (k+1)).length=p+(fK f a).length:=fun F J i n=>⟨_,J,n.fU C i.rbl i.fbl,i,(o.trans (yu.alloc c s m wr _ h6)).trans n,z,by grind⟩;have HN:=aG hn;have I:=aG hc;have h8:E<wr.heap.size:=iq _ _ t1;clear L A hc hW q1 q2 hn u B o d z l C U;go_wp2_with fail;refine bK I.out ?_;rintro y ⟨J,i,n⟩;have Z:=aG (HN.out y J i n);clear i n HN I;go_wp2_with fail;go_roundw;case rel=>exact⟨k+1,aj,by go_num,Z⟩
   case measure=>simp[eB];omega
  .obtain rfl:k=a:=aj;obtain⟨e,t,u,B,o,d,l⟩:=U.out;rw[vY.out,vD,sN]at l;rw[l]at B;have HF:=aG (dz B o);clear u B o d l U;go_wp2;go_end0;exact⟨rfl,t,HF.out⟩
theorem UJ{c y}(z:kF B0 v c y x)(f)(p:Fit f)(t:ND f c)(C:f.data.size<=1000000000)(A:f.ranges.length<=1000000000)(m k n o cap body j):Rd B0 v.heap.size v x (fu f c) (jy f c) m k n o cap body j:=by
 unfold fu;rcases z with⟨h,q,l,_,g⟩|⟨h,_,g⟩|⟨h,_,g⟩|⟨h,q,l,_,g⟩|⟨h,_,g⟩|⟨h,_,g⟩
 .have e:jy f c=fun a=>a:=by funext a;unfold jy;rw[dN h]
  rw[dN h,g,e];grind [Zr]
 .have e:jy f c=fun a=>{a with bL:=f.bL}:=by funext a;unfold jy;grind
  rw[b_ aj,dN h,g,e];exact LZ f.bL m k n o cap body j
 .have e:jy f c=fun a=>{a with aF:=f.aF}:=by funext a;unfold jy;grind
  rw[b_ aj,b_ aj,dN h,g,e];exact Ww f.aF p.s0 p.s8 m k n o cap body j
 .have r:∀a,jy f c a=(if c.2=279 then{a with aC:=f.aC}else if c.2=280 then{a with aO:=f.aO}else if c.2=283 then{a with aN:=f.aN}else if c.2=284 then{a with id:=f.id}else{a with aJ:=f.aJ}):=fun a=>by
   unfold jy;grind
  rw[b_ aj,b_ aj,b_ aj,dN h,g];have u:c.2=279\/c.2=280\/c.2=283\/c.2=284\/c.2=285:=by
   rcases t with e|e|e|e|e|e;.omega
   .omega
   .omega
   .exact e.2
   .omega
   .omega
  have s:=iq _ _ l.2;have d:=l.2;rcases u with e|e|e|e|e;.rw[e]at d ⊢;exact uF q 279 2 f.aC _ m k n o cap body j l.1 s d (enters_of func279 bZ rfl) (fun b w=>by have:=Fv b 0 w;simpa using this) (fun a i=>⟨_,rfl⟩) (fun a i=>by rw[r,e];exact⟨rfl,rfl⟩) p.n0
  .rw[e]at d ⊢;exact uF q 280 3 f.aO _ m k n o cap body j l.1 s d (enters_of func280 bZ rfl) (fun b w=>by have:=AV b 0 w;simpa using this) (fun a i=>⟨_,rfl⟩) (fun a i=>by rw[r,e];exact⟨rfl,rfl⟩) p.n1
  .rw[e]at d ⊢;exact uF q 283 4 f.aN _ m k n o cap body j l.1 s d (enters_of func283 bZ rfl) (fun b w=>by have:=JG b 0 w;simpa using this) (fun a i=>⟨_,rfl⟩) (fun a i=>by rw[r,e];exact⟨rfl,rfl⟩) p.n2
  .rw[e]at d ⊢;exact uF q 284 6 f.id _ m k n o cap body j l.1 s d (enters_of func284 bZ rfl) (fun b w=>by have:=YS b 0 w;simpa using this) (fun a i=>⟨_,rfl⟩) (fun a i=>by rw[r,e];exact⟨rfl,rfl⟩) p.n3
  .rw[e]at d ⊢;exact uF q 285 7 f.aJ _ m k n o cap body j l.1 s d (enters_of func285 bZ rfl) (fun b w=>by have:=AX b 0 w;simpa using this) (fun a i=>⟨_,rfl⟩) (fun a i=>by rw[r,e];exact⟨rfl,rfl⟩) p.n4
 .have e:jy f c=fun a=>{a with data:=f.data}:=by funext a;unfold jy;grind
  rw[b_ aj,b_ aj,b_ aj,b_ aj,dN h,g,e];grind [qfr]
 .have e:jy f c=fun a=>{a with ranges:=f.ranges}:=by funext a;unfold jy;grind
  rw[b_ aj,b_ aj,b_ aj,b_ aj,b_ aj,g,e];have B:tN f.ranges=true:=by
   rcases t with e|e|e|e|e|e;.omega
   .omega
   .omega
   .omega
   .omega
   .exact e.2
  grind [Wy]
def Gl(f:Fr)(a:bY)(k:Nat)(b:Fr):Fr:=Br (fun j=>jy f (a.getD j (0,0))) k b
theorem Oo(f b a)(h:b.1<=4):(jy f b a).ranges=a.ranges:=by grind [jy]
def Gp(f a)(b:Fr)(c:b.ranges=[])(h:∀j,j+1<a.length->(a.getD j (0,0)).1<=4):∀k,k<a.length->(Gl f a k b).ranges=[]
 |0,_=>c
 |k+1,hk=>by show(jy f (a.getD k (0,0)) (Gl f a k b)).ranges=[];rw[Oo _ _ _ (h k hk)];exact Gp f a b c h k aj
theorem Wz(k):∀j,j+1<(dV k).length->((dV k).getD j (0,0)).1<=4:=by grind [dV]
theorem qfs{c v}(f)(p:NU B0 c f.aD x v)(h:snd f=true)(A:f.data.size<=1000000000)(r:f.ranges.length<=1000000000)(s n t u cap body l):Rd B0 c.heap.size c v (bf f) (Gl f (dV f.aD) (dV f.aD).length) s n t u cap body l:=by
 obtain⟨B,_⟩:=uO f h;rcases p with⟨e,y⟩|⟨_,p⟩
 .have:=UJ y f B (.inl ⟨rfl,kX⟩) A r s n t u cap body l;have E:bf f=fu f (0,1):=by
   unfold bf;rw[e,show dV 1=[(0,1)]from rfl];rfl
  have F:Gl f (dV f.aD) (dV f.aD).length=jy f (0,1):=by rw[e,show dV 1=[(0,1)]from rfl];rfl
  grind
 .obtain⟨D,i,_,rfl,o,C,q⟩:=p;have g:=(A_ f.aD).1;have d:∃a k:Nat->Wx,∀j,j<(dV f.aD).length->c.cell? (aA i (j*2))=some (a j)/\c.cell? (aA i (j*2+1))=some (k j)/\kF B0 c ((dV f.aD).getD j (0,0)) (a j) (k j):=by
   refine⟨fun j=>(c.cell? (aA i (j*2))).getD undef,fun j=>(c.cell? (aA i (j*2+1))).getD undef,fun j b=>?_⟩;grind
  obtain⟨a,k,hF⟩:=d;have w:∀j,j<(dV f.aD).length->(dV f.aD).getD j (0,0)∈dV f.aD:=fun j b=>by grind
  refine RQ D i (dV f.aD).length a k ((dV f.aD).map (fu f)) (fun j=>jy f ((dV f.aD).getD j (0,0))) s n t u cap body l (A_ _).2 o.1 (iq _ _ o.2) C (iq _ _ (hF 0 g).1) o.2 (fun j b=>⟨(hF j b).1,(hF j b).2.1⟩) (fun j b=>?_) (fun m z j b=>Gp f _ m z (Wz _) j b) (fun j b=>?_);.obtain⟨_,_,_,_,h,_⟩:=(hF j b).2.2.shape;grind
  grind [UJ,Us,dV,fu]
def L8(k:Int):Fr:=⟨k,0,0,0,0,false,0,0,⟨#[]⟩,[]⟩
def norm(f:Fr):Fr:=Gl f (dV f.aD) (dV f.aD).length (L8 f.aD)
theorem rH{f}(h:snd f=true):f.aD=1\/f.aD=2\/f.aD=3\/f.aD=4\/f.aD=5\/f.aD=6\/f.aD=7\/f.aD=8:=by obtain⟨_,a,b,_⟩:=uO f h;omega
def norm_eq(f)(h:snd f=true):norm f=
  (if f.aD=1 then L8 1 else if f.aD=2 then{L8 2 with ranges:=f.ranges}else if f.aD=3 then{L8 3 with aF:=f.aF,aC:=f.aC,aO:=f.aO}else if f.aD=4 then{L8 4 with bL:=f.bL,aF:=f.aF,aC:=f.aC,data:=f.data}
  else if f.aD=5 then{L8 5 with aN:=f.aN}else if f.aD=6 then{L8 6 with aF:=f.aF,aN:=f.aN}else if f.aD=7 then{L8 7 with id:=f.id,aJ:=f.aJ,data:=f.data}else{L8 8 with aN:=f.aN}):=by
 unfold norm;rcases rH h with e|e|e|e|e|e|e|e<;>rw[e]<;>rfl
theorem nJ(f)(h:snd f=true):(norm f).aD=f.aD:=by rw[norm_eq f h];rcases rH h with e|e|e|e|e|e|e|e<;>rw[e]<;>rfl
theorem Gq(f)(h:snd f=true):snd (norm f)=true:=by
 obtain⟨⟨c,d,g,i,b,j,k⟩,_,_,a⟩:=uO f h;rw[norm_eq f h];unfold oI at a;rcases rH h with e|e|e|e|e|e|e|e;.rw[e];rfl
 .rw[e]at a ⊢;simp only[show((2:Int)=1)=False by decide,if_true,if_false]at a ⊢;unfold snd rY oI;simp[L8,a]
 .rw[e]at a ⊢;simp only[show((3:Int)=1)=False by decide,show((3:Int)=2)=False by decide,if_true,if_false]at a ⊢;unfold snd rY oI;simp[L8,c,d,g,i];grind
 .rw[e]at a ⊢;simp only[show((4:Int)=1)=False by decide,show((4:Int)=2)=False by decide,show((4:Int)=3)=False by decide,if_true,if_false]at a ⊢;unfold snd rY oI;simp[L8,c,d,g];grind
 .rw[e];simp only[show((5:Int)=1)=False by decide,show((5:Int)=2)=False by decide,show((5:Int)=3)=False by decide,show((5:Int)=4)=False by decide,if_true,if_false];unfold snd rY oI;simp[L8,b]
 .rw[e];simp only[show((6:Int)=1)=False by decide,show((6:Int)=2)=False by decide,show((6:Int)=3)=False by decide,show((6:Int)=4)=False by decide,show((6:Int)=5)=False by decide,if_true,if_false];unfold snd rY oI;simp[L8,b,c,d]
 .rw[e];simp only[show((7:Int)=1)=False by decide,show((7:Int)=2)=False by decide,show((7:Int)=3)=False by decide,show((7:Int)=4)=False by decide,show((7:Int)=5)=False by decide,show((7:Int)=6)=False by decide,if_true,if_false];unfold snd rY oI;simp[L8,j,k]
 .rw[e];simp only[show((8:Int)=1)=False by decide,show((8:Int)=2)=False by decide,show((8:Int)=3)=False by decide,show((8:Int)=4)=False by decide,show((8:Int)=5)=False by decide,show((8:Int)=6)=False by decide,show((8:Int)=7)=False by decide,if_false];unfold snd rY oI;simp[L8,b]
def RS(f)(h:snd f=true):bf (norm f)=bf f:=by unfold bf;rw[nJ f h,norm_eq f h];rcases rH h with e|e|e|e|e|e|e|e<;>rw[e]<;>rfl
theorem UK(f)(h:snd f=true)(d:oz f):oz (norm f):=by
 obtain⟨i,c,k,b,⟨u1,u2,u3,u4,u5⟩,g⟩:=d;rw[norm_eq f h];have z:(0:Nat)<18446744073709551616:=kX;rcases rH h with e|e|e|e|e|e|e|e<;>rw[e]
 .show oz ⟨1,0,0,0,0,false,0,0,⟨#[]⟩,[]⟩;exact⟨eG _,eG _,⟨(by decide:(-9223372036854775808:Int)<=1),(by decide:(1:Int)<=9223372036854775807)⟩,⟨(by decide:(-9223372036854775808:Int)<=0),(by decide:(0:Int)<=9223372036854775807)⟩,⟨z,z,z,z,z⟩,fun j a=>absurd a (jZ _)⟩
 .show oz ⟨2,0,0,0,0,false,0,0,⟨#[]⟩,f.ranges⟩;exact⟨i,eG _,⟨(by decide:(-9223372036854775808:Int)<=2),(by decide:(2:Int)<=9223372036854775807)⟩,⟨(by decide:(-9223372036854775808:Int)<=0),(by decide:(0:Int)<=9223372036854775807)⟩,⟨z,z,z,z,z⟩,g⟩
 .show oz ⟨3,f.aF,f.aC,f.aO,0,false,0,0,⟨#[]⟩,[]⟩;exact⟨eG _,eG _,⟨(by decide:(-9223372036854775808:Int)<=3),(by decide:(3:Int)<=9223372036854775807)⟩,b,⟨u1,u2,z,z,z⟩,fun j a=>absurd a (jZ _)⟩
 .show oz ⟨4,f.aF,f.aC,0,0,f.bL,0,0,f.data,[]⟩;exact⟨eG _,c,⟨(by decide:(-9223372036854775808:Int)<=4),(by decide:(4:Int)<=9223372036854775807)⟩,b,⟨u1,z,z,z,z⟩,fun j a=>absurd a (jZ _)⟩
 .show oz ⟨5,0,0,0,f.aN,false,0,0,⟨#[]⟩,[]⟩;exact⟨eG _,eG _,⟨(by decide:(-9223372036854775808:Int)<=5),(by decide:(5:Int)<=9223372036854775807)⟩,⟨(by decide:(-9223372036854775808:Int)<=0),(by decide:(0:Int)<=9223372036854775807)⟩,⟨z,z,u3,z,z⟩,fun j a=>absurd a (jZ _)⟩
 .show oz ⟨6,f.aF,0,0,f.aN,false,0,0,⟨#[]⟩,[]⟩;exact⟨eG _,eG _,⟨(by decide:(-9223372036854775808:Int)<=6),(by decide:(6:Int)<=9223372036854775807)⟩,b,⟨z,z,u3,z,z⟩,fun j a=>absurd a (jZ _)⟩
 .show oz ⟨7,0,0,0,0,false,f.id,f.aJ,f.data,[]⟩;exact⟨eG _,c,⟨(by decide:(-9223372036854775808:Int)<=7),(by decide:(7:Int)<=9223372036854775807)⟩,⟨(by decide:(-9223372036854775808:Int)<=0),(by decide:(0:Int)<=9223372036854775807)⟩,⟨z,z,z,u4,u5⟩,fun j a=>absurd a (jZ _)⟩
 .show oz ⟨8,0,0,0,f.aN,false,0,0,⟨#[]⟩,[]⟩;exact⟨eG _,eG _,⟨(by decide:(-9223372036854775808:Int)<=8),(by decide:(8:Int)<=9223372036854775807)⟩,⟨(by decide:(-9223372036854775808:Int)<=0),(by decide:(0:Int)<=9223372036854775807)⟩,⟨z,z,u3,z,z⟩,fun j a=>absurd a (jZ _)⟩
def Zt(w):bN 215 #[.int .u8 1] w (iZ 1) fun a=>a=w:=by go_enter uM,uL;go_wp2;go_ret;exact⟨rfl,rfl⟩
def Zu(w):bN 215 #[.int .u8 2] w (iZ 2) fun a=>a=w:=by go_enter uM,uL;go_wp2;go_ret;exact⟨rfl,rfl⟩
def WC(w):bN 215 #[.int .u8 36] w (iZ 3) fun a=>a=w:=by go_enter uM,uL;go_wp2;go_ret;exact⟨rfl,rfl⟩
def Zv(w):bN 215 #[.int .u8 8] w (iZ 4) fun a=>a=w:=by go_enter uM,uL;go_wp2;go_ret;exact⟨rfl,rfl⟩
def Zw(w):bN 215 #[.int .u8 9] w (iZ 4) fun a=>a=w:=by go_enter uM,uL;go_wp2;go_ret;exact⟨rfl,rfl⟩
def WE(w):bN 215 #[.int .u8 16] w (iZ 5) fun a=>a=w:=by go_enter uM,uL;go_wp2;go_ret;exact⟨rfl,rfl⟩
def WG(w):bN 215 #[.int .u8 17] w (iZ 6) fun a=>a=w:=by go_enter uM,uL;go_wp2;go_ret;exact⟨rfl,rfl⟩
def WH(w):bN 215 #[.int .u8 48] w (iZ 7) fun a=>a=w:=by go_enter uM,uL;go_wp2;go_ret;exact⟨rfl,rfl⟩
def WI(w):bN 215 #[.int .u8 28] w (iZ 8) fun a=>a=w:=by go_enter uM,uL;go_wp2;go_ret;exact⟨rfl,rfl⟩
theorem Gs(f)(h:snd f=true):∃x t,bf f=x::t/\∀w,bN 215 #[.int .u8 ((x.toNat:Nat):Int)] w (iZ f.aD) fun b=>b=w:=by
 have a:∀(l:List (List UInt8)) n,fK l (n+1)=l.getD 0 []++iR l (n+1) 1:=fun l n=>by have:=xE l (n+1) 0 aj;grind [rG]
 unfold bf;rcases rH h with e|e|e|e|e|e|e|e<;>rw[e]
 .exact⟨1,[],rfl,Zt⟩
 .exact⟨2,_,a _ 1,Zu⟩
 .exact⟨36,_,a _ 3,WC⟩
 .cases c:f.bL;.refine⟨8,iR ((dV 4).map (fu f)) 4 1,?_,Zv⟩;grind [dV,fu]
  .refine⟨9,iR ((dV 4).map (fu f)) 4 1,?_,Zw⟩;grind [dV,fu]
 .exact⟨16,_,a _ 1,WE⟩
 .exact⟨17,_,a _ 2,WG⟩
 .exact⟨48,_,a _ 3,WH⟩
 .exact⟨28,_,a _ 1,WI⟩
def RN(p q w):CallsD prog 160 #[.pointer (some p),.pointer (some q)] .returning w fun e d f=>e=.returned (.tuple #[])/\d=.returning/\f=w:=by have a:∀w:Wq,(binOp BinOp.eql 20 .nilIface .nilIface).run prog w=.ok (.bool true) w:=fun _=>bZ;refine callsD_of_wpS func160 rfl fun b g c=>?_;apply wpS_seq;apply wpS_region;simp[wpOpsS,go_sem,recoverD,c,ntmps160,Exit.thenS];refine wpS_of_wp ?_;simp[Array.replicate];go_wp2;cases b;simp_all[bodyPostS,results,results160]
def qkv(w:Wq)(a v):(w.setCell a v).os=w.os:=rfl
def Zx(w:Wq)(a v):(w.setCell a v).tape=w.tape:=rfl
def RU(w:Wq)(a v):(w.setCell a v).output=w.output:=rfl
def Zy(w:Wq)(a v):(w.setCell a v).heap.size=w.heap.size:=aR
theorem LD{f b}(hF:aS w g 65 (jV f (.slice b f.ranges.length c)))(h:fO 170 2 w (.slice b f.ranges.length c) f.ranges.length (bX f.ranges))(a:oz f):rX w g 0 f b c:=
 ⟨hF.cell 0,hF.cell 1,hF.cell 2,hF.cell 3,hF.cell 4,hF.cell 5,hF.cell 6,hF.cell 7,hF.cell 8,hF.cell 9,fun i j=>by obtain⟨l,m⟩:=zP _ i j;obtain⟨k,d,o,_⟩:=h.cell rfl _ _ l;obtain⟨n,e,p,_⟩:=h.cell rfl _ _ m;rw[d]at e;cases e;exact⟨k,0,d,by grind,by grind,a.r0 i j⟩,a.Fj,a.Fp,a.k0,a.s0,a.u0⟩
theorem WJ(f)(hs:snd f=true)(ok:oz f){s cap}(a){bg}(rest)(h:jk w a s C cap body p bg)(V:body.drop p=bf f++rest)(hj:a<w.heap.size)(hn:s<w.heap.size):WA prog 164 #[aK a 0] w fun e w'=>∃I,e=.returned (.agg (jV (norm f) I).toArray)/\fO 170 2 w' I (norm f).ranges.length (bX (norm f).ranges)/\Own (w.heap.size+1) I/\jk w' a s C cap body (p+(bf f).length) p/\yu w.heap.size a a w w':=by
 obtain⟨F,hF⟩:∃F,norm f=F:=⟨_,rfl⟩;have J:Hid (norm f=F/\snd F=true/\oz F):=⟨hF,by grind [Gq],by grind [UK]⟩;rw[hF];clear hF;obtain⟨x,t,Q,hK⟩:=Gs f hs;have h0:body.drop p=[x]++(t++rest):=by grind
 obtain⟨hp,M⟩:=CY h0;have h4:=h.byte p hp;rw[M]at h4;have x0:w.cell? (aA a 0)=some (.slice (some (aA s C)) body.length cap):=h.cK.cell 0;have x1:w.cell? (aA a 1)=some (iZ p):=h.cK.cell 1;have x2:w.cell? (aA a 2)=some (iZ bg):=h.cK.cell 2;have z2:=h.cK.frozen 2;have hy:=h.ne;have x3:(p:Int)<(body.length:Int):=aj;have HK:=aG hK;have HH:=aG h;have HB:=aG V;have AU:=aG M;clear hK h V h0 Q M;go_enter func164,ntmps164;go_upto_region 2 with fail;generalize hW:(w.setCell (aA a 2) (iZ p)).alloc (.cells #[iZ 0,iZ 0,uZ 0,uZ 0,uZ 0,.bool false,uZ 0,uZ 0,.string ⟨#[]⟩,nZ] 65)=W;have u:W.heap.size=w.heap.size+1:=by rw[<-hW];simp
 have B:jk W a s C cap body p p:=by have h:=HH.out;rw[<-hW];have h2:jk (w.setCell (aA a 2) (iZ p)) a s C cap body p p:=⟨h.cK.setCell 2 _,h.bts.of (fun x Q=>by simp at Q;subst Q;exact jg _ _ _ _ (qh h.ne)),h.le,h.au,h.cap,h.ne⟩;exact h2.of (mJ _ _ _ (by simpa using hj)) (mJ _ _ _ (by simpa using hn))
 have L:aS W w.heap.size 65 [iZ 0,iZ 0,uZ 0,uZ 0,uZ 0,.bool false,uZ 0,uZ 0,.string ⟨#[]⟩,nZ]:=by rw[<-hW];have:=aS.new (w.setCell (aA a 2) (iZ p)) 65 [iZ 0,iZ 0,uZ 0,uZ 0,uZ 0,.bool false,uZ 0,uZ 0,.string ⟨#[]⟩,nZ];simpa using this
 have m:yu w.heap.size a a w W:=by rw[<-hW];exact⟨rfl,rfl,rfl,aR,fun k r G _=>by grind [mI,fB]⟩
 have k0:W.cell? (aA a 0)=some (.slice (some (aA s C)) body.length cap):=B.cK.cell 0;have k1:W.cell? (aA a 1)=some (iZ p):=B.cK.cell 1;have kb:=B.byte p hp;rw[AU.out]at kb;have l1:a<W.heap.size:=aj;have l2:s<W.heap.size:=aj;have HW:=aG (dz u (dz B (dz L m)));clear hW u B L m x0 x1 x2 z2 h4 HH;go_cut [3]from 11 to 22 (fun s3 wx=>s3=(aK W.heap.size 0)/\wx.heap=(W.alloc (.cells #[iZ f.aD,iZ 0,uZ 0,uZ 0,uZ 0,.bool false,uZ 0,uZ 0,.string ⟨#[]⟩,nZ] 65)).heap/\wx.os=W.os/\wx.tape=W.tape/\wx.output=W.output);case first=>go_region_with (go_at_call 215;refine bK (HK.out _) ?_;rintro w4 P;subst P);all_goals((try go_wp2_with fail);go_meet;exact⟨rfl,rfl,rfl,rfl,rfl⟩)
 case rest=>
  obtain⟨rfl,hh,ho,ht,o⟩:=hcut;obtain⟨u,B,L,m⟩:=HW.out;have D:wc.heap.size=W.heap.size+1:=by rw[hh];simp
  have l:∀b,b<W.heap.size->wc.heap[b]?=W.heap[b]?:=fun b V=>by grind [mI]
  have hF:=(aS.new W 65 (jV (L8 f.aD) nZ)).of_heap (by rw[hh];rfl);have y0:wc.cell? (aA W.heap.size 0)=some (iZ f.aD):=hF.cell 0;obtain⟨_,N,Ao,_⟩:=uO f hs;have K:=aG (Fh f.aD wc);rw[decide_eq_true (p:=1<=f.aD/\f.aD<=8) ⟨N,Ao⟩]at K;have Rh:=aG (uS f.aD N Ao wc);have h6:∀(A:Wq) (fw Y:Wx),NU (wc.heap.size+1) A f.aD fw Y->bJ wc A->∃g T,Y=.func (.func g) #[] T/\(∀args w,(callFunc g args).run prog w=.ok (.enter g args) w)/\WA prog g (#[aK a 0,aK W.heap.size 0]++T) A fun e y=>e=.returned (.tuple #[])/\∃I,RP (wc.heap.size+1) A.heap.size a W.heap.size s C cap body y (p+(bf f).length) p (F) I/\yu A.heap.size a W.heap.size A y:=by
   intro A fw Y U c;obtain⟨g,T,G,h2,h3⟩:=qfs f U hs ok.Fp ok.Fj a W.heap.size s C cap body p;have iD:wc.heap.size+1<=A.heap.size:=by
    rcases U with⟨_,q⟩|⟨_,pb,qb,_,_,hB,_⟩
    .rcases q with⟨_,xb,Q,_⟩|⟨h,_⟩|⟨h,_⟩|⟨h,_⟩|⟨h,_⟩|⟨h,_⟩;.have:=iq _ _ Q.2;have:=Q.1;grind
     all_goals simp at h
    .have:=iq _ _ hB.2;have:=hB.1;grind
   refine⟨g,T,G,h2,?_⟩;refine(h3 A p (L8 f.aD) nZ rest ⟨aI _,fun _ _ _=>rfl⟩ ⟨?_,hF.of_heap (c.block _ aj),fO.nil _ _ _,Own.nil _,iD,aI _,aj,aj,aj,aj,aj⟩ rfl HB.out).mono ?_;.exact B.of (by rw[c.block _ aj,l _ l1]) (by rw[c.block _ aj,l _ l2])
   .rintro e y ⟨he,I,q,hS⟩;have ha:RP (wc.heap.size+1) A.heap.size a W.heap.size s C cap body y (p+(bf f).length) p (norm f) I:=q;rw[J.out.1]at ha;grind
  have X:=aG h6;have h8:=aG (dz D (dz l (dz ho (dz ht o))));clear h6 hh ho ht o u B L m D l hF N Ao k0 k1 kb;go_wp2_with fail;refine bK K.out ?_;rintro w4 P;subst P;go_wp2_with fail;refine Rh.out.mono ?_;rintro e A ⟨fw,Y,rfl,U,c⟩;obtain⟨g1,h9,_,_,hf,_⟩:=U.shape;subst hf;obtain⟨g,T,hc,eg,hC⟩:=X.out A _ Y U c;subst hc;have HC:=aG hC;have h7:=aG c;have hw:=qpk g1 g h9 T;clear hC U c X Rh K y0;go_wp2_with fail;refine bK HC.out ?_;rintro y ⟨I,q,hS⟩;obtain⟨ra,rc,hv,_⟩:=q.vF.shape;subst hv;have Z:=LD q.wY q.vF J.out.2.2;have h5:=aG (wX 0 (F) ra rc Z);rw[J.out.2.1]at h5;have HP:=aG q;have S:=aG hS;clear q hS Z HC;go_wp2_with fail;refine bK h5.out ?_;rintro R n;obtain⟨D,l,ho,ht,o⟩:=h8.out;obtain⟨u,B,L,m⟩:=HW.out;have c:=h7.out;have hg:=c.size;have hr:=S.out.size;have j:=HP.out.wY.of_heap (n.block _ aj);have O:∀k,k<W.heap.size->k≠a->R.heap[k]?=W.heap[k]?:=fun k r G=>by rw[n.block k aj,S.out.block k aj G aj,c.block k aj,l k r]
  have z:=L.of_heap (O w.heap.size aj aj);have n0:=j.cell 0;have n1:=j.cell 1;have n2:=j.cell 2;have n3:=j.cell 3;have n4:=j.cell 4;have n5:=j.cell 5;have n6:=j.cell 6;have n7:=j.cell 7;have n8:=j.cell 8;have n9:=j.cell 9;have d:=aG (show∀i:Nat,R.frozen? (aA w.heap.size i)=false from fun i=>z.frozen i);have r0:=z.cell 0;have r1:=z.cell 1;have r2:=z.cell 2;have r3:=z.cell 3;have r4:=z.cell 4;have r5:=z.cell 5;have r6:=z.cell 6;have r7:=z.cell 7;have r8:=z.cell 8;have r9:=z.cell 9;have z0:=d.out 0;have z1:=d.out 1;have z2:=d.out 2;have z3:=d.out 3;have z4:=d.out 4;have z5:=d.out 5;have z6:=d.out 6;have z7:=d.out 7;have z8:=d.out 8;have z9:=d.out 9;simp only[jV,jh,gN]at n0 n1 n2 n3 n4 n5 n6 n7 n8 n9 r0 r1 r2 r3 r4 r5 r6 r7 r8 r9;have hu:¬(W.heap.size=w.heap.size):=aj;have H:∀E:Wq,E.os=R.os->E.tape=R.tape->E.output=R.output->E.heap.size=R.heap.size->(∀k,k≠w.heap.size->E.heap[k]?=R.heap[k]?)->fO 170 2 E (.slice ra (F).ranges.length rc) (F).ranges.length (bX (F).ranges)/\Own (w.heap.size+1) (.slice ra (F).ranges.length rc)/\jk E a s C cap body (p+(bf f).length) p/\yu w.heap.size a a w E:=fun E e1 e2 e3 e4 e5=>by
   have q:=HP.out;refine⟨q.vF.of_heap (fun b V=>?_),q.own.mono aj,q.rd.of ?_ ?_,?_⟩;.have:=q.own b V;rw[e5 b aj,n.block b (q.vF.lt b V)]
   .rw[e5 a aj,n.block a aj]
   .rw[e5 s aj,n.block s aj]
   .refine⟨?_,?_,?_,by rw[e4];have:=n.size;omega,fun k r G _=>?_⟩;.rw[e1,n.os,S.out.os,c.os,ho,m.os]
    .rw[e2,n.tape,S.out.tape,c.tape,ht,m.tape]
    .rw[e3,n.output,S.out.output,c.output,o,m.output]
    .rw[e5 k aj,O k aj G,m.block k r G G]
  have oh:=aG H;clear H D l ho ht o u B L m c hg hr j O z n d HP S;go_wp2_with fail;exact VH (v:=.agg #[(iZ (F).aD),(iZ (F).aF),(uZ ((F).aC:Int)),(uZ ((F).aO:Int)),(uZ ((F).aN:Int)),.bool (F).bL,(uZ ((F).id:Int)),(uZ ((F).aJ:Int)),.string (F).data,.slice ra (F).ranges.length rc]) (by simp[results,results164,go_sem,r0,r1,r2,r3,r4,r5,r6,r7,r8,r9]) rfl ⟨.slice ra (F).ranges.length rc,rfl,oh.out _ (by simp only[qkv]) (by simp only[Zx]) (by simp only[RU]) (by simp only[Zy]) (fun k r=>by rw[jg _ _ _ _ r,jg _ _ _ _ r,jg _ _ _ _ r,jg _ _ _ _ r,jg _ _ _ _ r,jg _ _ _ _ r,jg _ _ _ _ r,jg _ _ _ _ r,jg _ _ _ _ r,jg _ _ _ _ r])⟩
structure PK (w:Wq) (yb yo cap:Nat) (body:List UInt8) (n:Nat) (fs:List Fr) (wr:Wq) (v9:Nat->Wx) (k:Nat) (s:Wx) (p bg:Nat):Prop where
 box:aS wr w.heap.size 56 [uZ n,s]
 err:aS wr (w.heap.size+1) 94 [.nilIface]
 rd:jk wr (w.heap.size+2) yb yo cap body p bg
 cp:Bb (w.heap.size+3) wr s fs v9 k
 iD:w.heap.size+3<=wr.heap.size
 bel:Below w.heap.size w wr
 yl:yb<w.heap.size
def PK.frame{cap i r t m}(h:PK w f g cap body n i wr r k s p t)(c:yu wr.heap.size (w.heap.size+2) (w.heap.size+2) wr y)(v:jk y (w.heap.size+2) f g cap body m e):PK w f g cap body n i y r k s m e:=by
 have A:=h.iD;have a:=fun b u l=>c.block b u l l;refine⟨h.box.of_heap (a _ aj aj),h.err.of_heap (a _ aj aj),v,⟨h.cp.buf.of_heap (fun b d=>a b (h.cp.buf.lt b d) (fT (h.cp.own b d))),h.cp.own,fun j x=>?_⟩,fT c.size,?_,h.yl⟩;.obtain⟨o,q,z⟩:=h.cp.vF j x;exact⟨o.of_heap (fun b d=>a b (o.lt b d) (fT (q b d))),q,z⟩
 .exact h.bel.trans ⟨c.os,c.tape,c.output,c.size,fun b d=>a b aj aj⟩
theorem PK.app{P Q cap l B M}(h:PK w P Q cap body n l y B k s p M)(hk:k<l.length)(hl:l.length<=1000000000)(F)(hF:l.getD k jv=F)(f g)(E:fO 170 2 y (.slice f F.ranges.length g) F.ranges.length (bX F.ranges))(N:Own (w.heap.size+3) (.slice f F.ranges.length g))(G:∀b,(Value.slice f F.ranges.length g).ownBlock=some b->s.ownBlock≠some b):∃r t i,(∀Z,(l9 #[54,54] Z #[s,dB y.heap.size 1 1]).run prog (y.alloc (.cells #[iZ F.aD,iZ F.aF,uZ F.aC,uZ F.aO,uZ F.aN,.bool F.bL,uZ F.id,uZ F.aJ,.string F.data,.slice f F.ranges.length g] 65))=.ok (.slice r (k+1) t) i)/\aS i w.heap.size 56 [uZ n,s]/\PK w P Q cap body n l (i.setCell (aA w.heap.size 1) (.slice r (k+1) t)) (fun j=>if j=k then .slice f F.ranges.length g else B j) (k+1) (.slice r (k+1) t) p M:=by
 have iD:=h.iD;have I:=h.yl;obtain⟨v,C⟩:=bU (y.alloc (.cells #[iZ F.aD,iZ F.aF,uZ F.aC,uZ F.aO,uZ F.aN,.bool F.bL,uZ F.id,uZ F.aJ,.string F.data,.slice f F.ranges.length g] 65));have U:v.heap.size=y.heap.size+1:=by rw[C];simp
 have c:Below y.heap.size y v:=by rw[C];exact(bP _ _).alloc (aI _) _
 have D:aS v y.heap.size 65 (jV F (.slice f F.ranges.length g)):=by rw[C];exact aS.new y 65 _
 rw[<-C];have J:=h.cp.buf.of_heap (fun b a=>c.block b (h.cp.buf.lt b a));obtain⟨h0,i,z,L,q⟩:=jL sU J (aA y.heap.size 0) 1 1 (jV F (.slice f F.ranges.length g)) (by simp[jV]) aj (RJ F _ _ _) (fun j u W=>by rw[gT,gG,D.cell];exact W) aj;obtain⟨r,t,X,_⟩:=L.shape;subst X;have o:=q.below h.cp.own aj;have x:=q.own h.cp.own aj;have H:∀b,b<w.heap.size+3->i.heap[b]?=y.heap[b]?:=fun b a=>by rw[o.block b a,c.block b aj]
 have A:=h.box.of_heap (H w.heap.size aj);have d:∀b,b≠w.heap.size->(i.setCell (aA w.heap.size 1) (.slice r (k+1) t)).heap[b]?=i.heap[b]?:=fun b a=>jg _ _ _ _ a;have V:=o.size;refine⟨r,t,i,z,A,⟨A.setCell 1 _,h.err.of_heap (by grind),h.rd.of (by grind) (by grind),⟨?_,x,fun j T=>?_⟩,dZ,?_,I⟩⟩
 .have e:uh l (fun j=>if j=k then .slice f F.ranges.length g else B j) (k+1)=uh l B k++jV F (.slice f F.ranges.length g):=by
   rw[uh,hF,DR l _ B k (fun j T=>by grind),dN rfl]
  rw[e];exact L.of_heap (fun b a=>d b (fT (x b a)))
 .by_cases e:j=k
  .subst e;simp only[if_true];rw[hF];refine⟨E.of_heap (fun b a=>?_),N,fun b a m=>?_⟩;.have:=N b a;have:=E.lt b a;rw[d b aj,q.1.block b aj (fun e=>G b a e.symm),c.block b this]
   .have:=E.lt b a;rcases q.2 b m with m|m;.grind
    .omega
  .simp only[b_ e];obtain⟨K,O,Y⟩:=h.cp.vF j aj;refine⟨K.of_heap (fun b a=>?_),O,fun b a m=>?_⟩;.have:=O b a;have:=K.lt b a;rw[d b aj,q.1.block b aj (fun e=>Y b a e.symm),c.block b this]
   .have:=K.lt b a;rcases q.2 b m with m|m;.grind
    .omega
 .have R:Below w.heap.size y v:=c.mono aj;have S:Below w.heap.size v i:=o.mono aj;exact h.bel.trans ((R.trans S).setCell (p:=(aA w.heap.size 1)) (aI _) _)
theorem sZ(n a k):∀N,k<=N->∃s,iy n a N=iy n a k++s
 |0,h=>⟨[],by grind⟩
 |N+1,h=>by
  by_cases e:k=N+1;.exact⟨[],by rw[e];simp⟩
  .obtain⟨s,b⟩:=sZ n a k N aj;grind [iy,eT]
def jl(n:Nat)(a:List Fr)(N k:Nat):List UInt8:=(iy n a N).drop (iy n a k).length
theorem L9(n a N):jl n a N N=[]:=by unfold jl;grind
def Jc(n a N):iy n a N=Num.aB n++jl n a N 0:=by obtain⟨s,b⟩:=sZ n a 0 N aj;unfold jl;rw[b,YB rfl];rfl
theorem zu(n a N k)(h:k<N):jl n a N k=bf (a.getD k jv)++jl n a N (k+1):=by
 obtain⟨s,c⟩:=sZ n a (k+1) N aj;have b:(iy n a N).drop (iy n a (k+1)).length=s:=by grind
 grind [iy,bf,jv,eT,jl]
theorem getD_map(a:List Fr)(k)(h:k<a.length):(a.map norm).getD k jv=norm (a.getD k jv):=by grind
theorem PK.same{cap c W d b}(h:PK w e f cap body n c wr d k s p b)(a:W.heap=wr.heap)(g:W.os=wr.os)(i:W.tape=wr.tape)(j:W.output=wr.output):PK w e f cap body n c W d k s p b:=
 h.frame ⟨g,i,j,by grind,fun _ _ _ _=>by rw[a]⟩ (h.rd.of (by rw[a]) (by rw[a]))
theorem WL{cap a v m o q}(h:PK w C D cap body n (a.map norm) wr v k (.slice m k o) p q)(M:k<a.length)(S:a.length<=1000000000)(B:snd (a.getD k jv)=true/\oz (a.getD k jv))(t:body.drop p=jl n a a.length k)(F)(hF:norm (a.getD k jv)=F)(W)(E:W.heap=wr.heap)(G:W.os=wr.os)(H:W.tape=wr.tape)(I:W.output=wr.output):WA prog 164 #[(aK (w.heap.size+2) 0)] W fun e y=>∃j l d f c,e=.returned (.agg #[iZ F.aD,iZ F.aF,uZ F.aC,uZ F.aO,uZ F.aN,.bool F.bL,uZ F.id,uZ F.aJ,.string F.data,.slice j F.ranges.length l])/\y.cell? (aA w.heap.size 1)=some (.slice m k o)/\w.heap.size<y.heap.size/\(∀Q,(l9 #[54,54] Q #[.slice m k o,dB y.heap.size 1 1]).run prog (y.alloc (.cells #[iZ F.aD,iZ F.aF,uZ F.aC,uZ F.aO,uZ F.aN,.bool F.bL,uZ F.id,uZ F.aJ,.string F.data,.slice j F.ranges.length l] 65))=.ok (.slice d (k+1) f) c)/\c.cell? (aA w.heap.size 1)=some (.slice m k o)/\c.frozen? (aA w.heap.size 1)=false/\Hid (∃v p q,PK w C D cap body n (a.map norm) (c.setCell (aA w.heap.size 1) (.slice d (k+1) f)) v (k+1) (.slice d (k+1) f) p q/\body.drop p=jl n a a.length (k+1)):=by
 have g:=h.same E G H I;have T:=g.iD;have O:=g.yl;rw[zu n a a.length k M]at t;have x:=WJ (a.getD k jv) B.1 B.2 (w.heap.size+2) _ g.rd t aj aj;rw[hF]at x;refine x.mono ?_;rintro e y ⟨R,rfl,z,A,K,L⟩;obtain⟨j,l,N,_⟩:=z.shape;subst N;have u:=g.frame L K;have r:(a.map norm).getD k jv=F:=by grind
 obtain⟨d,f,c,P,i,J⟩:=u.app (by grind) (by grind) F r j l z (fun b s=>fT (A b s)) (fun b s e=>hwZ (A b s) (g.cp.buf.lt b e));exact⟨j,l,d,f,c,rfl,u.box.cell 1,fT u.iD,P,i.cell 1,i.frozen 1,_,_,_,J,mq t⟩
def iL(w){a}(c:o.guard=none)(s x t d)(f:o.op=.call {callee:=.builtin .append,args:=#[s,x],argTypes:=#[t,d]})(vs e)(i:a.eval s=vs)(k:a.eval x=e)(v' w')(g:(l9 #[t,d] o.type #[vs,e]).run P w=.ok v' w')(h:K (a.put o.dst v') w'):if Region.wanted o (yielded b a.tmps)=true then Oper.wp P o a w K Q else E:=by
 have j:Region.wanted o (yielded b a.tmps)=true:=by simp[Region.wanted,c]
 rw[dN j];exact Lib.wp_append_run w s x t d f vs e i k v' w' g h
theorem zY(w){a}(c:o.guard=none)(g:Nat)(x t)(k:o.op=.call {callee:=.value (.func g),args:=#[x],argTypes:=#[t]})(d)(n:a.eval x=d)(i:∀args w,(callFunc g args).run P w=.ok (.enter g args) w){R}(f:WA P g #[d] w R)(h:∀e y,R e y->∃v,e=.returned v/\K (a.put o.dst v) y):if Region.wanted o (yielded b a.tmps)=true then Oper.wp P o a w K Q else E:=by
 have m:Region.wanted o (yielded b a.tmps)=true:=by simp[Region.wanted,c]
 rw[dN m];have j:a.eval (.func g)=.func (.func g) #[] #[]:=rfl;have l:(execOp a.eval o).run P w=.ok (.enter g #[d]) w:=by unfold execOp;simp only[k,resolve,List.map_toArray,KQ,List.map_nil,n,j];simp[Deferred.ofValue,invoke,i]
 unfold Oper.wp;rw[l,Oper.upon_enter];refine f.mono ?_;grind
def Oq(P:Nat)(w:Wq):Nat:=match w.cell? (aA P 1)with
 |some (.slice _ n _)=>n
 |_=>0
theorem Gt(n a)(hn:n<4611686018427387904)(hs:∀j,j<a.length->snd (a.getD j jv)=true/\oz (a.getD j jv))(h5:0<a.length)(hl:a.length<=1000000000)(i r cap)(l:body=gM n a)(w)(u:dX w (some (aA i r)) body)(m:body.length<cap)(E:cap<=9223372036854775807)(h7:i<w.heap.size):WA prog 116 #[.slice (some (aA i r)) body.length cap] w fun e w'=>∃s C,e=.returned (.tuple #[.agg #[uZ n,s],.nilIface])/\Bb (w.heap.size+3) w' s (a.map norm) C a.length/\Below w.heap.size w w':=by
 have ho:∀(fn:Fn) (first cap:Array Wx) (w:Wq),(Instr.makeFunc fn first cap).run prog w=.ok (.func fn first cap) w:=fun _ _ _ _=>rfl;obtain⟨P,d⟩:=bU (((w.alloc (.cells #[uZ 0,nZ] 56)).alloc (.cells #[.nilIface] 94)).alloc (.cells #[.slice (some (aA i r)) body.length cap,iZ 0,iZ 0] 257));have hg:P.heap.size=w.heap.size+3:=by rw[d];simp
 have M:Below w.heap.size w P:=by rw[d];exact(((bP _ w).alloc (aI _) _).alloc aR _).alloc dZ _
 have hA0:aS P w.heap.size 56 [uZ 0,nZ]:=by rw[d];exact((aS.new w 56 _).alloc _).alloc _
 have V:aS P (w.heap.size+1) 94 [.nilIface]:=by rw[d];have:=(aS.new (w.alloc (.cells #[uZ 0,nZ] 56)) 94 [.nilIface]).alloc (.cells #[.slice (some (aA i r)) body.length cap,iZ 0,iZ 0] 257);simpa using this
 have Y:jk P (w.heap.size+2) i r cap body 0 0:=by refine⟨?_,u.of (fun x hx=>by simp at hx;subst hx;exact M.block _ h7),eG _,m,E,aj⟩;rw[d];have:=aS.new ((w.alloc (.cells #[uZ 0,nZ] 56)).alloc (.cells #[.nilIface] 94)) 257 [.slice (some (aA i r)) body.length cap,(iZ ((0:Nat):Int)),(iZ ((0:Nat):Int))];simpa using this
 have N:body.drop 0=Num.aB n++jl n a a.length 0:=by rw[List.drop_zero,l];exact Jc n a a.length
 have HN:=aG (jQ (w.heap.size+2) n _ Y hn N);have h3:=mq N;have X:∀g,jk g (w.heap.size+2) i r cap body (0+(Num.aB n).length) 0->gZ (w.heap.size+2) P g->g.cell? (aA w.heap.size 0)=some (uZ 0)/\g.frozen? (aA w.heap.size 0)=false/\PK w i r cap body n (a.map norm) (g.setCell (aA w.heap.size 0) (uZ n)) (fun _=>.bool false) 0 nZ (0+(Num.aB n).length) 0:=fun g h1 D=>by have hA1:=hA0.of_heap (D.block _ aj);have o:∀b,b≠w.heap.size->(g.setCell (aA w.heap.size 0) (uZ n)).heap[b]?=g.heap[b]?:=fun b u=>jg _ _ _ _ u;have hf:=M.trans ⟨D.os,D.tape,D.output,Nat.le_of_eq D.size.symm,fun b u=>D.block b aj⟩;refine⟨hA1.cell 0,hA1.frozen 0,hA1.setCell 0 _,(V.of_heap (D.block _ aj)).of_heap (o _ aj),h1.of (o _ aj) (o _ aj),⟨fO.nil _ _ _,Own.nil _,fun j hj=>absurd hj (jZ _)⟩,?_,hf.setCell (p:=(aA w.heap.size 0)) (aI _) _,h7⟩;have:=D.size;simp;omega
 have h4:∀k p,k<a.length->body.drop p=jl n a a.length k->p<body.length/\decide (p=body.length)=false:=fun k p hk G=>by rw[zu n a a.length k hk]at G;obtain⟨x,t,hx,_⟩:=Gs _ (hs k hk).1;grind [bf,jv,jl,fA,fE]
 have h8:∀p,p<=body.length->body.drop p=jl n a a.length a.length->decide (p=body.length)=true:=fun p hp G=>by grind [L9,fE]
 have U:=aG X;have I:=aG h3;have K:=aG h4;have h9:=aG h8;have HS:=aG hs;clear X h3 h4 h8 N Y V hA0 M hg hs u l m E;go_enter_defers func116,ntmps116
 go_wp2_with fail;rw[<-d];clear d;refine bK HN.out ?_;rintro g ⟨Ci,Z⟩;obtain⟨x0,z0,L⟩:=U.out g Ci Z;have T:=aG L;have J:=aG (J2 L.rd);rw[(K.out 0 _ h5 I.out).2]at J;clear L Ci Z HN U;go_wp2_with fail;refine bK J.out ?_;rintro w2 ⟨q,rfl⟩;have S:Hid (∃C A B p Q,PK w i r cap body n (a.map norm) (((g.setCell (aA w.heap.size 0) (uZ n))).drewN q) C 0 (.slice A 0 B) p Q/\body.drop p=jl n a a.length 0):=⟨_,_,_,_,_,T.out.same rfl rfl rfl rfl,I.out⟩;clear T I J x0 z0;generalize ((g.setCell (aA w.heap.size 0) (uZ n))).drewN q=w3 at *
 go_wp2_with fail;go_loopw [25] (fun _ wr=>∃k:Nat,k<=a.length/\Hid (∃C A B p Q,PK w i r cap body n (a.map norm) wr C k (.slice A k B) p Q/\body.drop p=jl n a a.length k)) (fun _ wr=>a.length-Oq w.heap.size wr);case atStart=>exact⟨0,eG _,S.out⟩
 case round=>
  clear S;obtain⟨k,hk,HI⟩:=hrel;obtain⟨C,A,B,p,Q,v,G⟩:=HI.out;have x1:wr.cell? (aA w.heap.size 1)=some (.slice A k B):=v.box.cell 1;have HM:Hid (Oq w.heap.size wr=k):=by unfold Hid Oq;rw[x1]
  have CU:=aG (J2 v.rd);by_cases O:k<a.length
  .rw[(K.out k p O G).2]at CU;obtain⟨F,hF⟩:∃F,norm (a.getD k jv)=F:=⟨_,rfl⟩;have HC:=aG (fun W e1 e2 e3 e4=>WL v O hl (HS.out k O) G F hF W e1 e2 e3 e4);clear v G hF HI h9 K HS;go_wp2_with fail;refine bK CU.out ?_;rintro w4 ⟨q4,rfl⟩;go_upto_region 7 with fail;have he:∀args w,(callFunc 164 args).run prog w=.ok (.enter 164 args) w:=enters_of func164 bZ rfl;refine wp_region_noPanic ?_;go_region_law (first|(refine zY _ (by rfl) 164 _ _ (by rfl) _ (by rfl) he (HC.out _ (by rfl) (by rfl) (by rfl) (by rfl)) ?_;rintro e y ⟨ra,rc,a',c',W5,rfl,t1,t2,qx,t3,t4,R⟩;refine⟨_,rfl,?_⟩)|(refine iL _ (by rfl) _ _ _ _ (by rfl) _ _ (by rfl) (by rfl) _ _ (qx _) ?_))
   all_goals(
    refine NoPanic.normal ?_;have RX:Hid (Oq w.heap.size (W5.setCell (aA w.heap.size 1) (.slice a' (k+1) c'))=k+1):=by unfold Hid Oq;grind [World.cell?_setCell_same']
    obtain⟨VT,p',hc,c,h0⟩:=R.out;have ha:Hid (∃C A B p Q,PK w i r cap body n (a.map norm) (W5.setCell (aA w.heap.size 1) (.slice a' (k+1) c')) C (k+1) (.slice A (k+1) B) p Q/\body.drop p=jl n a a.length (k+1)):=⟨VT,_,_,p',hc,c,h0⟩;clear c h0 R qx t1 t2 t3 t4;go_wp2_with fail;go_roundw;case rel=>exact⟨k+1,aj,ha⟩
    case measure=>rw[HM.out,RX.out];omega)
  .obtain rfl:k=a.length:=aj;rw[h9.out p v.rd.le G]at CU;have hA:=v.box;have hE:=v.err;have H:∀q (x y z:Wx),Bb (w.heap.size+3) ((((wr.drewN q).setCell (aA w.heap.size 0) x).setCell (aA w.heap.size 1) y).setCell (aA (w.heap.size+1) 0) z) (.slice A a.length B) (a.map norm) C a.length/\Below w.heap.size w ((((wr.drewN q).setCell (aA w.heap.size 0) x).setCell (aA w.heap.size 1) y).setCell (aA (w.heap.size+1) 0) z):=fun q x y z=>by
    have c:=v.same (W:=wr.drewN q) rfl rfl rfl rfl;have h6:∀b,w.heap.size+3<=b->((((wr.drewN q).setCell (aA w.heap.size 0) x).setCell (aA w.heap.size 1) y).setCell (aA (w.heap.size+1) 0) z).heap[b]?=(wr.drewN q).heap[b]?:=fun b u=>by rw[jg _ _ _ _ dZ,jg _ _ _ _ dZ,jg _ _ _ _ dZ]
    refine⟨⟨c.cp.buf.of_heap (fun b u=>h6 b (c.cp.own b u)),c.cp.own,fun j hj=>?_⟩,((c.bel.setCell (p:=(aA w.heap.size 0)) (aI _) _).setCell (p:=(aA w.heap.size 1)) (aI _) _).setCell (p:=(aA (w.heap.size+1) 0)) aR _⟩;obtain⟨r1,r2,r3⟩:=c.cp.vF j hj;exact⟨r1.of_heap (fun b u=>h6 b (r2 b u)),r2,r3⟩
   have a0:wr.cell? (aA w.heap.size 0)=some (uZ n):=hA.cell 0;have b0:wr.cell? (aA (w.heap.size+1) 0)=some .nilIface:=hE.cell 0;have z0:=hA.frozen 0;have z1:=hA.frozen 1;have z2:=hE.frozen 0;have oh:=aG H;clear H v G hA hE HI HM;go_wp2_with fail;refine bK CU.out ?_;rintro w4 ⟨q4,rfl⟩;go_wp2_with fail;refine leaves_cons (f:=160) (args:=#[aK w.heap.size 0,(aK (w.heap.size+1) 0)]) aR (by simp[go_sem]) ?_;refine(RN (aA w.heap.size 0) (aA (w.heap.size+1) 0) _).mono ?_;rintro e u' hr ⟨rfl,rfl,rfl⟩;obtain⟨f1,f2⟩:=oh.out q4 (uZ n) (.slice A a.length B) .nilIface;simp[Leaves,settle,results,results116,go_sem,a0,x1,b0];grind
def Bb.mono{A B w s a c k}(h:Bb B w s a c k)(b:A<=B):Bb A w s a c k:=
 ⟨h.buf,h.own.mono b,fun j d=>by obtain⟨e,f,g⟩:=h.vF j d;exact⟨e,f.mono b,g⟩⟩
def Bb.of{c g}(h:Bb B w s c g k)(e:∀b,B<=b->b<w.heap.size->w'.heap[b]?=w.heap[b]?):Bb B w' s c g k:=
 ⟨h.buf.of_heap (fun b a=>e b (h.own b a) (h.buf.lt b a)),h.own,fun j i=>by obtain⟨d,f,l⟩:=h.vF j i;exact⟨d.of_heap (fun b a=>e b (f b a) (d.lt b a)),f,l⟩⟩
def rJ(c:Bool)(n:Nat)(b:List Fr)(B:Nat)(w:Wq)(s a:Wx):Prop:=
 if c then a=.nilIface/\∃d,Bb B w s (b.map norm) d b.length else n=0/\s=nZ/\a=.iface 57 (iZ 7)
theorem rJ.shape{d n e B w s b}(h:rJ d n e B w s b):∃a m c,s=.slice a m c:=by
 unfold rJ at h;cases d;.grind
 .rw[dN rfl]at h;obtain⟨_,i,f⟩:=h;obtain⟨a,c,g,_⟩:=f.buf.shape;grind
theorem rJ.qkw{c b a}(h:rJ c n b B w s a):a=.nilIface\/a=.iface 57 (iZ 7):=by unfold rJ at h;grind
def rJ.of{c n d A B w w' s a}(h:rJ c n d B w s a)(g:A<=B)(e:∀b,B<=b->b<w.heap.size->w'.heap[b]?=w.heap[b]?):rJ c n d A w' s a:=by
 unfold rJ at h ⊢;cases c;.exact h
 .rw[dN rfl]at h ⊢;obtain⟨f,j,i⟩:=h;exact⟨f,j,(i.of e).mono g⟩
def sj(c:Bool)(n:Nat)(a:List Fr)(l:List UInt8):Prop:=
 if c then n<4611686018427387904/\(∀j,j<a.length->snd (a.getD j jv)=true/\oz (a.getD j jv))/\0<a.length/\a.length<=1000000000/\l=bT n a
 else n=0/\∃body b,l=body++b/\b.length=4/\Num.val 0 b≠Crc.sum body
theorem uY(l):Num.val 0 (jO l)=Crc.sum l:=by unfold jO;rw[Num.QO,KV,gG];grind [Nat.mod_eq_of_lt,Nat.lt_of_lt_of_le,Crc.sum_lt]
theorem rM(m n f j z cap)(k:sj m n f l)(hb:dX w (some (aA j z)) l)(G:l.length<=1000000000)(W:l.length<=cap)(F:cap<=9223372036854775807)(X:j<w.heap.size)(hT:mM w)(h2:2<=w.heap.size):WA prog 69 #[.slice (some (aA j z)) l.length cap] w fun e C=>∃s D,e=.returned (.tuple #[.agg #[uZ n,s],D])/\rJ m n f (w.heap.size+1) C s D/\Below w.heap.size w C:=by
 have S:∃body B,l=body++B/\B.length=4/\decide (Num.val 0 B=Crc.sum body)=m/\(m=true->body=gM n f):=by
  unfold sj at k;cases m;.grind
  .rw[dN rfl]at k;exact⟨gM n f,jO (gM n f),k.2.2.2.2,Num.kR 4 _,by rw[uY];simp,fun _=>rfl⟩
 obtain⟨body,B,hl,I,V,E⟩:=S;have H:l.length=body.length+4:=by grind
 obtain⟨d,i⟩:=bU (w.alloc (.cells #[uZ 0,nZ] 56));have c:d.heap.size=w.heap.size+1:=by rw[i];simp
 have a:Below w.heap.size w d:=by rw[i];exact(bP _ w).alloc (aI _) _
 have hA0:aS d w.heap.size 56 [uZ 0,nZ]:=by grind [aS.new]
 have t:dX d (some (aA j z)) (body++B):=by rw[<-hl];exact hb.of (fun x hx=>by simp at hx;subst hx;exact a.block _ X)
 have HC:=aG (Ra j z body B cap aj I aj t (hT.below a h2));rw[V,<-H]at HC;have g:dX d (some (aA j z)) body:=by have:=t.cut body.length;grind
 have o:Hid (m=true->∀q,WA prog 116 #[.slice (some (aA j z)) body.length cap] (d.drewN q) fun e C=>∃s J,e=.returned (.tuple #[.agg #[uZ n,s],.nilIface])/\Bb (w.heap.size+4) C s (f.map norm) J f.length/\Below (w.heap.size+1) d C):=fun U q=>by unfold sj at k;rw[dN U]at k;obtain⟨d1,d2,d3,d4,_⟩:=k;have:=Gt n f d1 d2 d3 d4 j z cap (E U) (d.drewN q) g aj F (by show j<d.heap.size;omega);refine this.mono ?_;rintro e C ⟨s,J,R,h3,A⟩;have e1:(d.drewN q).heap.size=w.heap.size+1:=c;rw[e1]at h3 A;exact⟨s,J,R,h3,A.os,A.tape,A.output,A.size,A.block⟩
 have K:=aG (dz c (dz a hA0));have HN:Hid (m=false->n=0):=fun U=>by unfold sj at k;grind
 clear k hb G hl t g c a hA0 E H hT I;generalize l.length=L at *
 go_enter func69,ntmps69;go_wp2_with fail;rw[<-i];clear i;refine bK HC.out ?_;rintro w1 ⟨q,rfl⟩;obtain⟨c,a,hA0⟩:=K.out;cases m
 .have T:=HN.out rfl;subst T;have P:d.cell? (aA w.heap.size 0)=some (uZ 0):=hA0.cell 0;have Q:d.cell? (aA w.heap.size 1)=some nZ:=hA0.cell 1;have z0:=hA0.frozen 0;have z1:=hA0.frozen 1;have N:Hid (Below w.heap.size w (((d.drewN q).setCell (aA w.heap.size 0) (uZ 0)).setCell (aA w.heap.size 1) nZ)):=by
   have R:Below w.heap.size w (d.drewN q):=⟨a.os,a.tape,a.output,a.size,a.block⟩;exact(R.setCell (p:=(aA w.heap.size 0)) (aI _) _).setCell (p:=(aA w.heap.size 1)) (aI _) _
  clear c a hA0 K o;go_wp2;exact VH (v:=.tuple #[.agg #[(uZ ((0:Nat):Int)),nZ],.iface 57 (iZ 7)]) (by simp[results,results69,go_sem,P,Q]) rfl ⟨_,_,rfl,⟨rfl,rfl,rfl⟩,N.out⟩
 .have O:=aG (o.out rfl q);clear c a hA0 o;go_wp2_with fail;refine O.out.mono ?_;rintro e M ⟨s,J,rfl,r,u⟩;obtain⟨Y,Z,hs,_⟩:=r.buf.shape;subst hs;obtain⟨c,a,hA0⟩:=K.out;have hA2:=hA0.of_heap (u.block _ aj);have P:M.cell? (aA w.heap.size 0)=some (uZ 0):=hA2.cell 0;have Q:M.cell? (aA w.heap.size 1)=some nZ:=hA2.cell 1;have z0:=hA2.frozen 0;have z1:=hA2.frozen 1;have N:Hid (∀x y:Wx,rJ true n f (w.heap.size+1) ((M.setCell (aA w.heap.size 0) x).setCell (aA w.heap.size 1) y) (.slice Y f.length Z) .nilIface/\Below w.heap.size w ((M.setCell (aA w.heap.size 0) x).setCell (aA w.heap.size 1) y)):=fun x y=>by
   refine⟨⟨rfl,J,(r.of (fun b h0 _=>?_)).mono aj⟩,((a.trans (u.mono aj)).setCell (p:=(aA w.heap.size 0)) (aI _) _).setCell (p:=(aA w.heap.size 1)) (aI _) _⟩;grind [fB]
  clear c a hA0 K r u hA2;go_wp2;obtain⟨f1,f2⟩:=N.out (uZ n) (.slice Y f.length Z);exact VH (v:=.tuple #[.agg #[uZ n,.slice Y f.length Z],.nilIface]) (by simp[results,results69,go_sem,P,Q]) rfl ⟨_,_,rfl,f1,f2⟩
theorem L_(o n m r D cap)(F:sj o n m l)(H:dX w (some (aA r D)) l)(k:l.length<=1000000000)(i:l.length<=cap)(j:cap<=9223372036854775807)(z:r<w.heap.size)(G:mM w)(P:2<=w.heap.size):WA prog 41 #[.slice (some (aA r D)) l.length cap] w fun e J=>∃s c,e=.returned (.tuple #[.agg #[uZ n,s],c])/\rJ o n m (w.heap.size+1) J s c/\Below w.heap.size w J:=by
 obtain⟨t,d⟩:=bU (w.alloc (.cells #[uZ 0,nZ] 56));have f:t.heap.size=w.heap.size+1:=by rw[d];simp
 have a:Below w.heap.size w t:=by rw[d];exact(bP _ w).alloc (aI _) _
 have hA0:aS t w.heap.size 56 [uZ 0,nZ]:=by grind [aS.new]
 have K:=aG (rM o n m r D cap F (H.of (fun x I=>by simp at I;subst I;exact a.block _ z)) k i j aj (G.below a P) aj);have E:=aG (dz f (dz a hA0));clear F H f a hA0 G;generalize l.length=L at *
 go_enter func41,ntmps41;go_wp2_with fail;rw[<-d];clear d;refine K.out.mono ?_;rintro e q ⟨s,c,rfl,u,g⟩;obtain⟨A,C,B,Q⟩:=u.shape;subst Q;obtain⟨f,a,hA0⟩:=E.out;have hA2:=hA0.of_heap (g.block _ aj);have N:q.cell? (aA w.heap.size 0)=some (uZ 0):=hA2.cell 0;have O:q.cell? (aA w.heap.size 1)=some nZ:=hA2.cell 1;have S:=hA2.frozen 0;have T:=hA2.frozen 1;have M:Hid (∀x y:Wx,rJ o n m (w.heap.size+1) ((q.setCell (aA w.heap.size 0) x).setCell (aA w.heap.size 1) y) (.slice A C B) c/\Below w.heap.size w ((q.setCell (aA w.heap.size 0) x).setCell (aA w.heap.size 1) y)):=fun x y=>by refine⟨u.of aj (fun b R _=>?_),((a.trans (g.mono aj)).setCell (p:=(aA w.heap.size 0)) (aI _) _).setCell (p:=(aA w.heap.size 1)) (aI _) _⟩;grind [fB]
 clear f a hA0 E u g hA2;go_wp2;obtain⟨f1,f2⟩:=M.out (uZ n) (.slice A C B);exact VH (v:=.tuple #[.agg #[uZ n,.slice A C B],c]) (by simp[results,results41,go_sem,N,O]) rfl ⟨_,_,rfl,f1,f2⟩
theorem Et(M n Q yb yo cap)(hD:sj M n Q l)(P:dX w (some (aA yb yo)) l)(h9:l.length<=1000000000)(E:0<l.length)(hv:yb<w.heap.size)(hT:mM w)(hE:iM w)(h2:2<=w.heap.size)(ev)(h6:ev=if M then 0 else 7):WA prog 24 #[.slice (some (aA yb yo)) l.length cap] w fun e w'=>∃s o,e=.returned (.tuple #[.agg #[uZ n,s],iZ ev,(iZ (-1))])/\rJ M n Q w.heap.size w' s o/\Below w.heap.size w w':=by
 have hn:=aG h6;clear h6;obtain⟨W0,H⟩:=bU (w.alloc (.cells #[uZ 0,nZ] 56));have i:W0.heap.size=w.heap.size+1:=by rw[H];simp
 have U:Below w.heap.size w W0:=by rw[H];exact(bP _ w).alloc (aI _) _
 have hA0:aS W0 w.heap.size 56 [uZ 0,nZ]:=by grind [aS.new]
 have hf:=P.of (fun x hx=>by simp at hx;subst hx;exact U.block _ hv);obtain⟨v1,X,qx,h4,S⟩:=nW (nT.nil W0) (aA yb yo) l.length cap l rfl E (fun j u hu=>by
  have hj:j<l.length:=by grind [List.getElem?_eq_some_iff,fC]
  obtain⟨b,x4,ha,hc⟩:=hf j hj;grind [Addr.add_lit,cO]) dZ
 rw[pJ]at h4;have FC:=S.own (Own.nil _) (aI _);have V:=S.below (Own.nil _) (aI _);rcases h4 with⟨_,hr⟩|⟨g,c1,cs,rfl,a,hcl,hc2,hc3,hc4,hc5⟩;.rw[hr]at E;simp at E
 .have f:=FC g rfl;have c:=a.lt;have Y:=U.trans (V.mono aj);have xJ:dX X (some (aA g 0)) l:=fun j hj=>by
   refine⟨g,0,rfl,?_⟩;rw[a.cell,gG];have:(cs.take l.length)[j]?=(cO l)[j]?:=by rw[hc4]
   rw[pG,dN hj]at this;grind [cO]
  have HC:=aG (L_ M n Q g 0 c1 hD xJ h9 hc2 hc3 c (hT.below Y h2) aj);have HW:=aG (dz i (dz Y (dz (hA0.of_heap (V.block _ aj)) (dz a (dz f c)))));have ho:Hid (l.length<=cs.length):=by unfold Hid;omega
  have HE:=aG hE;clear hD P i U hA0 hf V Y xJ FC S a hcl hc2 hc3 hc4 hc5 hT hE f c;generalize l.length=L at *
  go_enter func24,ntmps24;go_wp2_with (at_builtin;rw[<-H];refine ji _ rfl _ _ _ _ rfl _ _ rfl rfl _ _ (qx _) ?_);clear H;refine HC.out.mono ?_;rintro e F ⟨s,o,rfl,q,J⟩;obtain⟨A,C,B,hs⟩:=q.shape;subst hs;have x0:=q.qkw;obtain⟨i,Y,hA1,a,f,c⟩:=HW.out;obtain⟨G,I⟩:=bU (F.alloc (.cells #[uZ n,.slice A C B] 56));have t:G.heap.size=F.heap.size+1:=by rw[I];simp
  have K:Below F.heap.size F G:=by rw[I];exact(bP _ _).alloc (aI _) _
  have h5:aS G F.heap.size 56 [uZ n,.slice A C B]:=by grind [aS.new]
  have d:=J.size;have R:∀k,k<X.heap.size->G.heap[k]?=X.heap[k]?:=fun k hk=>by rw[K.block k aj,J.block k hk]
  have h3:Hid (aS G g 5 cs/\rJ M n Q (X.heap.size+1) G (.slice A C B) o/\Below w.heap.size w G/\aS G w.heap.size 56 [uZ 0,nZ]/\aS G F.heap.size 56 [uZ n,.slice A C B]):=by refine⟨a.of_heap (R g c),q.of (aI _) (fun b _ P=>K.block b P),(Y.trans (J.mono aj)).trans (K.mono aj),hA1.of_heap (R _ aj),h5⟩
  have zk:=aG (dz t (dz d (dz i (dz f c))));clear q J i Y hA1 a f c t K h5 d R HW HC qx;go_wp2_with fail;rw[<-I];clear I;go_loopw [20] (fun W wr=>∃k:Nat,k<=L/\W=(iZ k)/\Hid (∃r,r.length=cs.length/\aS wr g 5 r/\rJ M n Q (X.heap.size+1) wr (.slice A C B) o/\Below w.heap.size w wr/\aS wr w.heap.size 56 [uZ 0,nZ]/\aS wr F.heap.size 56 [uZ n,.slice A C B])) (fun W _=>L-(eB W).toNat);case atStart=>exact⟨0,eG _,rfl,cs,rfl,h3.out⟩
  case round=>
   clear h3;obtain⟨k,hk,rfl,HI⟩:=hrel;obtain⟨r,h7,a,q,m,N,O⟩:=HI.out;obtain⟨t,d,i,f,c⟩:=zk.out;have h8:=ho.out;by_cases x2:k<L
   .have hy:(k:Int)<(L:Int):=aj;have t1:=a.cell k;rw[wH aj]at t1;generalize r[k]'aj=x5 at t1;have z1:=a.frozen k;have z:∀b,b≠g->∀v,(wr.setCell (aA g k) v).heap[b]?=wr.heap[b]?:=fun b P v=>jg _ _ _ _ P;have HN:Hid (∀v,∃r,r.length=cs.length/\aS (wr.setCell (aA g k) v) g 5 r/\rJ M n Q (X.heap.size+1) (wr.setCell (aA g k) v) (.slice A C B) o/\Below w.heap.size w (wr.setCell (aA g k) v)/\aS (wr.setCell (aA g k) v) w.heap.size 56 [uZ 0,nZ]/\aS (wr.setCell (aA g k) v) F.heap.size 56 [uZ n,.slice A C B]):=fun v=>⟨_,by grind,a.setCell k v,q.of (aI _) (fun b h0 _=>z b aj v),m.setCell (p:=(aA g k)) dZ v,N.of_heap (z _ aj v),O.of_heap (z _ aj v)⟩;clear h7 a q m N O t d i f c z HI h8;go_wp2_with fail;go_roundw;case rel=>exact⟨k+1,aj,by go_num,HN.out _⟩
    case measure=>simp[eB];omega
   .obtain rfl:k=L:=aj;have hg:iM wr:=cell_of HE.out (m.block 0 aj);have he:bN 42 #[o] wr (.tuple #[iZ ev,(iZ (-1))]) fun w'=>Below wr.heap.size wr w':=by
     rw[hn.out];unfold rJ at q;cases M;.rw[b_ kX]at q;rw[q.2.2];exact rQ 7 eql7 wr hg
     .rw[dN rfl]at q;rw[q.1];exact BK wr
    have hw:=aG he;have HR:=aG (dz a (dz q (dz m (dz N O))));clear he hg h7 a q m N O t d i f c HI h8;go_wp2_with fail;refine bK hw.out ?_;rintro Z D;obtain⟨a,q,m,N,O⟩:=HR.out;obtain⟨t,d,i,f,c⟩:=zk.out;have hA5:=N.of_heap (D.block _ N.lt);have T:=O.of_heap (D.block _ O.lt);have a0:Z.cell? (aA w.heap.size 0)=some (uZ 0):=hA5.cell 0;have a1:Z.cell? (aA w.heap.size 1)=some nZ:=hA5.cell 1;have p0:Z.cell? (aA F.heap.size 0)=some (uZ n):=T.cell 0;have p1:Z.cell? (aA F.heap.size 1)=some (.slice A C B):=T.cell 1;have z0:=hA5.frozen 0;have z1:=hA5.frozen 1;have x3:¬(F.heap.size=w.heap.size):=aj;have HF:Hid (∀x y:Wx,rJ M n Q w.heap.size ((Z.setCell (aA w.heap.size 0) x).setCell (aA w.heap.size 1) y) (.slice A C B) o/\Below w.heap.size w ((Z.setCell (aA w.heap.size 0) x).setCell (aA w.heap.size 1) y)):=fun x y=>by refine⟨q.of aj (fun b h0 P=>?_),((m.trans (D.mono m.size)).setCell (p:=(aA w.heap.size 0)) (aI _) _).setCell (p:=(aA w.heap.size 1)) (aI _) _⟩;rw[jg _ _ _ _ dZ,jg _ _ _ _ dZ,D.block b P]
    clear a q m N O t d i f c hA5 T D;go_wp2_with fail;obtain⟨f1,f2⟩:=HF.out (uZ n) (.slice A C B);exact VH (v:=.tuple #[.agg #[uZ n,.slice A C B],iZ ev,(iZ (-1))]) (by simp[results,results24,go_sem,a0,a1]) rfl ⟨_,o,rfl,f1,f2⟩
end Go.Proofs.YtphbledmopchnaaGreatDoor
namespace Go.Proofs.YtphbledmopchnaaGreatDoor
open Go.RowKit Go.Lib Mm Tryz
theorem val_inj:∀(l c) (a b),l.length=c.length->Num.val a l=Num.val b c->a=b/\l=c
 |[],[],_,_,_,h=>⟨h,rfl⟩
 |[],_::_,_,_,hl,_=>by simp at hl
 |_::_,[],_,_,hl,_=>by simp at hl
 |x::t,y::u,a,b,hl,h=>by obtain⟨d,e⟩:=val_inj t u (a*256+x.toNat) (b*256+y.toNat) (by grind) h;have f:=x.toNat_lt;have g:=y.toNat_lt;grind [UInt8.toNat_inj]
theorem BL(l):(jO l).length=4:=by grind [jO,Num.kR]
theorem vo(n a):(bT n a).length=(gM n a).length+4:=by grind [bT,fA,BL]
theorem S_(n b j y c)(d:(bT n b)[j]≠y):sj false 0 [] ((bT n b).set j y):=by
 unfold sj;rw[b_ kX];refine⟨rfl,?_⟩;unfold bT at c d ⊢;generalize gM n b=B at c d ⊢;have a:=BL B;by_cases h:j<B.length
 .refine⟨B.set j y,jO B,by grind,a,?_⟩;rw[uY];rw[List.getElem_append_left h]at d;have e:B=B.take j++B[j]::B.drop (j+1):=aR;have f:B.set j y=B.take j++y::B.drop (j+1):=by grind
  grind [Crc.QN]
 .rw[lM,a]at c;grind [jO,List.set_append_right,List.length_set,uY,val_inj]
theorem OU(rs):(iG rs).length<=24+16*rs.length:=by grind [iG,l6,fA,kK,NA]
theorem MJ(f a):(fu f a).length<=24+f.data.size+16*f.ranges.length:=by have b:=kK f.aF.toNat;have c:=kK (fieldAt f a.2);have d:=kK f.data.size;have e:=OU f.ranges;have g:f.data.data.toList.length=f.data.size:=Nu;grind [fu,List.length_singleton,fA]
theorem Ie(f)(a:bY):∀k,(fK (a.map (fu f)) k).length<=k*(24+f.data.size+16*f.ranges.length)
 |0=>by simp[fK]
 |k+1=>by have:=Ie f a k;rw[fK,lM,Nat.succ_mul];grind [fu,MJ]
theorem qhc(k):(dV k).length<=4:=by grind [dV]
theorem Ta(f):(bf f).length<=96+64*(f.data.size+f.ranges.length):=by grind [bf,Ie,dV,qhc,Nat.mul_le_mul_right]
def dw(c:Int)(n:Nat):Nat:=if c<0 then(-(c+1)).toNat % n else c.toNat % n
def Kk(c m)(h:c<0): -(c+1).tmod (m:Int)=(dw c m:Nat):=by unfold dw;rw[dN h,<-Int.neg_tmod,Int.tmod_eq_emod_of_nonneg aj,Int.natCast_emod,YL aj]
theorem Kl(c)(m:Nat)(h:0<=c):c % (m:Int)=(dw c m:Nat):=by unfold dw;grind
def dR(c m)(h:0<m):dw c m<m:=by unfold dw;split<;>exact Nat.mod_lt _ h
def jm(c)(m:Nat)(g: -9223372036854775808<=c)(b:c<=9223372036854775807)(d:0<m)(e:m<=9000000000)(w):bN 50 #[iZ c,iZ m] w (iZ (dw c m:Nat)) fun f=>f=w:=by
 have i:=aG (dR c m d);by_cases h:c<0;.have a:=aG (Kk c m h);go_enter func50,ntmps50;go_wp2;go_ret;exact⟨nS a.out,rfl⟩
 .have a:=aG (Kl c m aj);go_enter func50,ntmps50;go_wp2;go_ret;exact⟨nS a.out,rfl⟩
end Go.Proofs.YtphbledmopchnaaGreatDoor
namespace Go.Proofs.YtphbledmopchnaaGreatDoor
open Go.RowKit Go.Lib Go.Shelf Mm Tryz
theorem Ir{n a}(h:vT n a=true):(∀i,i<a.length->snd (a.getD i jv)=true)/\n<=dH/\0<a.length:=by unfold vT at h;grind
def Kr(n a)(b:∀i,i<a.length->snd (a.getD i jv)=true):∀k,k<=a.length->iy n (a.map norm) k=iy n a k
 |0,_=>rfl
 |k+1,h=>by rw[iy,iy,Kr n a b k aj,getD_map a k aj,RS _ (b k aj)]
theorem qbr(n a)(d:vT n a=true):vT n (a.map norm)=true/\gM n (a.map norm)=gM n a/\bT n (a.map norm)=bT n a:=by
 obtain⟨c,e,f⟩:=Ir d;have b:gM n (a.map norm)=gM n a:=by unfold gM;rw[mH];exact Kr n a c _ (aI _)
 refine⟨?_,b,by unfold bT;rw[b]⟩;unfold vT;rw[iY,iY];grind [FJ,decide_eq_true,List.length_map,getD_map,Gq]
