import Derived.Test.YtphbledmopchnaaGreatDoorLad
import Derived.Laws.IdiomStrings
open Go.RowKit.Below renaming heap_setCell->eT,heap_alloc->nI
open List renaming getElem?_eq_getElem->eB,length_append->j3,length_drop->lg,append_assoc->mE,getElem?_drop->mY,take_of_length_le->nA,drop_left'->nU,getElem?_take->nV,length_take->o8,take_succ_eq_append_getElem->qx,getD_eq_getElem?_getD->qA,drop_eq_getElem_cons->rX,drop_of_length_le->sF,length_nil->tT
open Nat renaming and_two_pow_sub_one_eq_mod->mK,pow_le_pow_right->nP,zero_le->og,add_sub_cancel->qy,le_refl->tK,add_assoc->uj,add_zero->xB,le_trans->xQ
open Go.RowKit renaming intOf->mI
open UInt8 renaming toNat->tL
open Go.World renaming block_lt_of_cell?->mR
set_option maxHeartbeats 1000000
set_option maxRecDepth 100000
namespace Go.Proofs.YtphbledmopchnaaGreatDoor
open Go.RowKit Go.Lib Go.Shelf Mm Tryz
structure gZ (w:World) (rb yb yo cap:Nat) (body:List UInt8) (p bg:Nat):Prop where
 cZ:aS w rb 257 [.slice (some (aB yb yo)) body.length cap,iZ p,iZ bg]
 bts:dV w (some (aB yb yo)) body
 le:p<=body.length
 au:body.length<cap
 cap:cap<=9223372036854775807
 ne:rb≠yb
structure gM (rb:Nat) (w w':World):Prop where
 os:w'.os=w.os
 tape:w'.tape=w.tape
 output:w'.output=w.output
 size:w'.heap.size=w.heap.size
 block:∀k,k≠rb->w'.heap[k]?=w.heap[k]?
theorem gM.refl(rb:Nat)(w:World):gM rb w w:=⟨rfl,rfl,rfl,rfl,fun _ _=>rfl⟩
theorem gM.trans{rb:Nat}{a b c:World}(h:gM rb a b)(k:gM rb b c):gM rb a c:=
 ⟨k.os.trans h.os,k.tape.trans h.tape,k.output.trans h.output,k.size.trans h.size,fun i hi=>(k.block i hi).trans (h.block i hi)⟩
theorem gM.set(rb o q:Nat)(v:Value)(w:World):gM rb w ((w.setCell (aB rb o) v).drewN q):=
 ⟨rfl,rfl,rfl,aP,fun k a=>eT _ _ _ _ a⟩
theorem dV.of{w w':World}{a:Option Addr}{l:List UInt8}(h:dV w a l)(e:∀x:Addr,a=some x->w'.heap[x.block]?=w.heap[x.block]?):dV w' a l:=fun j f=>by obtain⟨b,off,c,d⟩:=h j f;exact⟨b,off,c,cell_of d (e (aB b off) c)⟩
theorem gZ.set{w:World}{rb yb yo cap:Nat}{body:List UInt8}{p bg:Nat}(h:gZ w rb yb yo cap body p bg)(a q:Nat)(hp:a<=body.length):gZ ((w.setCell (aB rb 1) (iZ a)).drewN q) rb yb yo cap body a bg:=
 ⟨(h.cZ.setCell 1 _).of_heap rfl,h.bts.of (fun x b=>by simp at b;subst b;exact eT _ _ _ _ (Ne.symm h.ne)),hp,h.au,h.cap,h.ne⟩
theorem gZ.of{w w':World}{rb yb yo cap:Nat}{body:List UInt8}{p bg:Nat}(h:gZ w rb yb yo cap body p bg)(b:w'.heap[rb]?=w.heap[rb]?)(c:w'.heap[yb]?=w.heap[yb]?):gZ w' rb yb yo cap body p bg:=
 ⟨h.cZ.of_heap b,h.bts.of (fun x a=>by simp at a;subst a;exact c),h.le,h.au,h.cap,h.ne⟩
theorem gZ.drewN{w:World}{rb yb yo cap:Nat}{body:List UInt8}{p bg:Nat}(h:gZ w rb yb yo cap body p bg)(q:Nat):gZ (w.drewN q) rb yb yo cap body p bg:=h.of rfl rfl
theorem gM.drewN(rb q:Nat)(w:World):gM rb w (w.drewN q):=⟨rfl,rfl,rfl,rfl,fun _ _=>rfl⟩
theorem gZ.byte{w:World}{rb yb yo cap:Nat}{body:List UInt8}{p bg:Nat}(h:gZ w rb yb yo cap body p bg)(j:Nat)(d:j<body.length):w.cell? (aB yb (yo+j))=some (.int .u8 ((body[j].toNat:Nat):Int)):=by obtain⟨b,off,a,c⟩:=h.bts j d;simp at a;obtain⟨rfl,rfl⟩:=a;exact c
theorem qF(rb yb yo cap:Nat)(body:List UInt8)(p bg n:Nat)(w:World)(h:gZ w rb yb yo cap body p bg)(i:p+n<=body.length):Calls prog 214 #[aI rb 0,uZ n] w fun e w'=>e=.returned (.slice (some (aB yb (yo+p))) n (cap-p))/\gZ w' rb yb yo cap body (p+n) bg/\gM rb w w':=by
 have A:w.cell? (aB rb 0)=some (.slice (some (aB yb yo)) body.length cap):=h.cZ.cell 0;have B:w.cell? (aB rb 1)=some (iZ p):=h.cZ.cell 1;have C:=h.cZ.frozen 1;have a:=h.au;have c:=h.cap;have o:(body.length:Int)-(p:Int)=((body.length-p:Nat):Int):=aj;have q:¬(body.length-p<n):=aj;have r:(p:Int)+(n:Int)=((p+n:Nat):Int):=aj;have s:((body.length-p:Nat):Int)<9223372036854775808:=aj;have t:(n:Int)<9223372036854775808:=aj;have u:((p+n:Nat):Int)<9223372036854775808:=aj;have v:(p:Int)<=((p+n:Nat):Int):=aj;have x:((p+n:Nat):Int)<=(cap:Int):=aj;have y:¬(cap=p):=aj;have z:(p+n)-p=n:=aj;have g:=aG (fun j k=>(h.drewN j).set (p+n) k i);clear h;generalize f:p+n=m at *
 generalize b:body.length=N at *
 generalize hd:N-p=d at *
 have l:=aG (dB f (dB b hd));clear f b hd;go_enter func214,ntmps214;go_wp2_with fail;go_quiet (fail);go_wp2_with fail;go_quiet (fail);go_wp2;go_ret;exact⟨rfl,g.out _ _,(gM.drewN rb _ w).trans (gM.set rb 1 _ _ _)⟩
theorem qG(rb yb yo cap:Nat)(body:List UInt8)(p bg:Nat)(w:World)(h:gZ w rb yb yo cap body p bg)(hp:p<body.length):Calls prog 213 #[aI rb 0] w fun e w'=>e=.returned (.int .u8 ((body[p].toNat:Nat):Int))/\gZ w' rb yb yo cap body (p+1) bg/\gM rb w w':=by have g:=aG (qF rb yb yo cap body p bg 1 w h aj);have b:=aG (fun w' (h':gZ w' rb yb yo cap body (p+1) bg)=>h'.byte p hp);clear h;generalize body[p].toNat=X at b;go_enter func213,ntmps213;go_wp2_with fail;refine bN g.out ?_;rintro w1 ⟨a,c⟩;have c0:=b.out w1 a;have d:=aG a;have f:=aG c;clear a c;go_wp2;go_ret;exact⟨rfl,d.out,f.out⟩
theorem EO(rb yb yo cap:Nat)(body:List UInt8)(p bg:Nat)(w:World)(h:gZ w rb yb yo cap body p bg):Calls prog 162 #[aI rb 0] w fun e w'=>e=.returned (.bool (decide (p=body.length)))/\∃q,w'=w.drewN q:=by
 have b:w.cell? (aB rb 0)=some (.slice (some (aB yb yo)) body.length cap):=h.cZ.cell 0;have c:w.cell? (aB rb 1)=some (iZ p):=h.cZ.cell 1;have a:Hid (((p:Int)==(body.length:Int))=decide (p=body.length)):=by unfold Hid;rw[Bool.eq_iff_iff,beq_iff_eq,decide_eq_true_iff];omega
 clear h;go_enter func162,ntmps162;go_wp2_with fail;go_quiet (fail);go_wp2;go_ret;exact⟨dI a.out,nq,rfl⟩
theorem Ch(r:Value)(n a:Nat)(w:World)(h:a<=n)(g:n<18446744073709551616):Calls prog 346 #[r,uZ n,uZ a] w fun e w'=>e=.returned (uZ ((n-a:Nat):Int))/\w'=w:=by
 have b:¬((n:Int)<(a:Int)):=aj;have c:(n:Int)-(a:Int)=((n-a:Nat):Int):=aj;have f:((n-a:Nat):Int)<18446744073709551616:=aj;generalize n-a=d at *
 go_enter func346,ntmps346;go_wp2;go_ret;exact⟨rfl,rfl⟩
theorem Gs(T X:Nat)(b:T<72057594037927936)(a:X<256):bits .or .u64 ((T:Int)*256) (X:Int)=((T*256+X:Nat):Int):=by have h:=u64_or_nat (T*256) X aj aj;rw[Nat.or_comm,yK X T 8 a,Nat.add_comm]at h;rw[<-h];simp
theorem xG(l:List UInt8)(a k:Nat)(h:k<l.length):Num.val a (l.take (k+1))=Num.val a (l.take k)*256+(l[k]).toNat:=by rw[qx h,I5]
theorem Un(rb yb yo cap:Nat)(body:List UInt8)(p bg:Nat)(w:World)(h:gZ w rb yb yo cap body p bg)(hp:p+1<=body.length)(N:(body[p]'aj).toNat / 64=0):Calls prog 161 #[aI rb 0] w fun e w'=>e=.returned (uZ ((Num.val ((body[p]'aj).toNat % 64) ((body.drop (p+1)).take 0):Nat):Int))/\gZ w' rb yb yo cap body (p+1) bg/\gM rb w w':=by
 have R:=aG (qG rb yb yo cap body p bg w h aj);have L:=aG (fun w' (h':gZ w' rb yb yo cap body (p+1) bg)=>qF rb yb yo cap body (p+1) bg 0 w' h' aj);have H:=aG (fun w' (h':gZ w' rb yb yo cap body (p+1+0) bg) j (C:j<0)=>h'.byte (p+1+j) aj);have Z:=Crc.mX (body[p]'aj);generalize (body[p]'aj).toNat=X at *
 have U:bits .and .u8 (X:Int) 63=((X % 64:Nat):Int):=by have z:X&&& 63=X % 64:=mK X 6;rw[<-z];exact u8_and_nat X 63 aj aj
 have V:(X:Int) / 64=0:=aj;have W:((X % 64:Nat):Int)<64:=aj;obtain⟨a,b⟩:=bZ ((body.drop (p+1)).take 0);have n:a.length=0:=by rw[b,o8,lg];omega
 have t:Hid (∀j (C:j<0),∃x T:Nat,x<256/\body[p+1+j]?.map tL=some x/\T=Num.val (X % 64) (a.take j)/\T<72057594037927936/\Num.val (X % 64) (a.take (j+1))=T*256+x):=fun j C=>by
  refine⟨(a[j]'aj).toNat,_,Crc.mX _,?_,rfl,?_,xG a _ j aj⟩
  ·have:a[j]?=body[p+1+j]?:=by rw[b,nV,bK C,mY]
   rw[<-this,eB aj];rfl
  ·have:=yS (a.take j) (X % 64) 1 aj;have hl:(a.take j).length=j:=by simp;omega
   rw[hl]at this;have Y:(256:Nat) ^ (1+j)<=256 ^ 7:=nP iO aj;omega
 have J:Hid (Num.val (X % 64) (a.take 0)=Num.val (X % 64) a):=by unfold Hid;rw[nA aj]
 have v:Hid (Num.val (X % 64) (a.take 0)=X % 64):=rfl;rw[<-b];clear N h b n;generalize X % 64=y at *
 go_enter func161,ntmps161;go_wp2_with fail;refine bN R.out ?_;rintro w1 ⟨G,g⟩;have u:=aG (L.out w1 G);have Q:=aG g;clear G g;go_wp2_with fail;refine bN u.out ?_;rintro F ⟨c,i⟩;have r:=aG c;have s:=aG (Q.out.trans i);have K:=aG (H.out F c);clear c i;go_wp2_with fail;go_loopw [4,19] (fun P q wr=>∃k:Nat,k<=0/\q=(iZ k)/\P=(uZ (Num.val y (a.take k):Nat))/\wr=F) (fun _ q _=>0-(mI q).toNat);case atStart=>exact⟨0,og _,rfl,by rw[v.out],rfl⟩
 case round=>
  obtain⟨k,hk,rfl,rfl,rfl⟩:=hrel;by_cases o:k<0
  ·have E:(k:Int)<0:=aj;obtain⟨x,T,O,d,D,A,f⟩:=t.out k o;have B:=K.out k o;have m:((body[p+1+k]'aj).toNat:Nat)=x:=by
    rw[eB aj]at d;simpa using d
   rw[m,show yo+(p+1+k)=yo+(p+1)+k by omega]at B;have M:=Gs T x A O;obtain⟨S,l⟩:=bZ (T*256+x);rw[<-l]at M f;rw[<-D];have I:=aG f;clear f l m d D;go_wp2_with fail;go_roundw;case rel=>exact⟨k+1,aj,by go_num,by rw[I.out],trivial⟩
   case measure=>simp[mI];omega
  ·obtain rfl:k=0:=aj;rw[J.out];go_wp2;go_ret;exact⟨rfl,r.out,s.out⟩
theorem Uo(rb yb yo cap:Nat)(body:List UInt8)(p bg:Nat)(w:World)(h:gZ w rb yb yo cap body p bg)(hp:p+2<=body.length)(N:(body[p]'aj).toNat / 64=1):Calls prog 161 #[aI rb 0] w fun e w'=>e=.returned (uZ ((Num.val ((body[p]'aj).toNat % 64) ((body.drop (p+1)).take 1):Nat):Int))/\gZ w' rb yb yo cap body (p+2) bg/\gM rb w w':=by
 have R:=aG (qG rb yb yo cap body p bg w h aj);have L:=aG (fun w' (h':gZ w' rb yb yo cap body (p+1) bg)=>qF rb yb yo cap body (p+1) bg 1 w' h' aj);have H:=aG (fun w' (h':gZ w' rb yb yo cap body (p+1+1) bg) j (C:j<1)=>h'.byte (p+1+j) aj);have Z:=Crc.mX (body[p]'aj);generalize (body[p]'aj).toNat=X at *
 have U:bits .and .u8 (X:Int) 63=((X % 64:Nat):Int):=by have z:X&&& 63=X % 64:=mK X 6;rw[<-z];exact u8_and_nat X 63 aj aj
 have V:(X:Int) / 64=1:=aj;have W:((X % 64:Nat):Int)<64:=aj;obtain⟨a,b⟩:=bZ ((body.drop (p+1)).take 1);have n:a.length=1:=by rw[b,o8,lg];omega
 have t:Hid (∀j (C:j<1),∃x T:Nat,x<256/\body[p+1+j]?.map tL=some x/\T=Num.val (X % 64) (a.take j)/\T<72057594037927936/\Num.val (X % 64) (a.take (j+1))=T*256+x):=fun j C=>by
  refine⟨(a[j]'aj).toNat,_,Crc.mX _,?_,rfl,?_,xG a _ j aj⟩
  ·have:a[j]?=body[p+1+j]?:=by rw[b,nV,bK C,mY]
   rw[<-this,eB aj];rfl
  ·have:=yS (a.take j) (X % 64) 1 aj;have hl:(a.take j).length=j:=by simp;omega
   rw[hl]at this;have Y:(256:Nat) ^ (1+j)<=256 ^ 7:=nP iO aj;omega
 have J:Hid (Num.val (X % 64) (a.take 1)=Num.val (X % 64) a):=by unfold Hid;rw[nA aj]
 have v:Hid (Num.val (X % 64) (a.take 0)=X % 64):=rfl;rw[<-b];clear N h b n;generalize X % 64=y at *
 go_enter func161,ntmps161;go_wp2_with fail;refine bN R.out ?_;rintro w1 ⟨G,g⟩;have u:=aG (L.out w1 G);have Q:=aG g;clear G g;go_wp2_with fail;refine bN u.out ?_;rintro F ⟨c,i⟩;have r:=aG c;have s:=aG (Q.out.trans i);have K:=aG (H.out F c);clear c i;go_wp2_with fail;go_loopw [4,19] (fun P q wr=>∃k:Nat,k<=1/\q=(iZ k)/\P=(uZ (Num.val y (a.take k):Nat))/\wr=F) (fun _ q _=>1-(mI q).toNat);case atStart=>exact⟨0,og _,rfl,by rw[v.out],rfl⟩
 case round=>
  obtain⟨k,hk,rfl,rfl,rfl⟩:=hrel;by_cases o:k<1
  ·have E:(k:Int)<1:=aj;obtain⟨x,T,O,d,D,A,f⟩:=t.out k o;have B:=K.out k o;have m:((body[p+1+k]'aj).toNat:Nat)=x:=by
    rw[eB aj]at d;simpa using d
   rw[m,show yo+(p+1+k)=yo+(p+1)+k by omega]at B;have M:=Gs T x A O;obtain⟨S,l⟩:=bZ (T*256+x);rw[<-l]at M f;rw[<-D];have I:=aG f;clear f l m d D;go_wp2_with fail;go_roundw;case rel=>exact⟨k+1,aj,by go_num,by rw[I.out],trivial⟩
   case measure=>simp[mI];omega
  ·obtain rfl:k=1:=aj;rw[J.out];go_wp2;go_ret;exact⟨rfl,r.out,s.out⟩
theorem Uq(rb yb yo cap:Nat)(body:List UInt8)(p bg:Nat)(w:World)(h:gZ w rb yb yo cap body p bg)(hp:p+4<=body.length)(N:(body[p]'aj).toNat / 64=2):Calls prog 161 #[aI rb 0] w fun e w'=>e=.returned (uZ ((Num.val ((body[p]'aj).toNat % 64) ((body.drop (p+1)).take 3):Nat):Int))/\gZ w' rb yb yo cap body (p+4) bg/\gM rb w w':=by
 have R:=aG (qG rb yb yo cap body p bg w h aj);have L:=aG (fun w' (h':gZ w' rb yb yo cap body (p+1) bg)=>qF rb yb yo cap body (p+1) bg 3 w' h' aj);have H:=aG (fun w' (h':gZ w' rb yb yo cap body (p+1+3) bg) j (C:j<3)=>h'.byte (p+1+j) aj);have Z:=Crc.mX (body[p]'aj);generalize (body[p]'aj).toNat=X at *
 have U:bits .and .u8 (X:Int) 63=((X % 64:Nat):Int):=by have z:X&&& 63=X % 64:=mK X 6;rw[<-z];exact u8_and_nat X 63 aj aj
 have V:(X:Int) / 64=2:=aj;have W:((X % 64:Nat):Int)<64:=aj;obtain⟨a,b⟩:=bZ ((body.drop (p+1)).take 3);have n:a.length=3:=by rw[b,o8,lg];omega
 have t:Hid (∀j (C:j<3),∃x T:Nat,x<256/\body[p+1+j]?.map tL=some x/\T=Num.val (X % 64) (a.take j)/\T<72057594037927936/\Num.val (X % 64) (a.take (j+1))=T*256+x):=fun j C=>by
  refine⟨(a[j]'aj).toNat,_,Crc.mX _,?_,rfl,?_,xG a _ j aj⟩
  ·have:a[j]?=body[p+1+j]?:=by rw[b,nV,bK C,mY]
   rw[<-this,eB aj];rfl
  ·have:=yS (a.take j) (X % 64) 1 aj;have hl:(a.take j).length=j:=by simp;omega
   rw[hl]at this;have Y:(256:Nat) ^ (1+j)<=256 ^ 7:=nP iO aj;omega
 have J:Hid (Num.val (X % 64) (a.take 3)=Num.val (X % 64) a):=by unfold Hid;rw[nA aj]
 have v:Hid (Num.val (X % 64) (a.take 0)=X % 64):=rfl;rw[<-b];clear N h b n;generalize X % 64=y at *
 go_enter func161,ntmps161;go_wp2_with fail;refine bN R.out ?_;rintro w1 ⟨G,g⟩;have u:=aG (L.out w1 G);have Q:=aG g;clear G g;go_wp2_with fail;refine bN u.out ?_;rintro F ⟨c,i⟩;have r:=aG c;have s:=aG (Q.out.trans i);have K:=aG (H.out F c);clear c i;go_wp2_with fail;go_loopw [4,19] (fun P q wr=>∃k:Nat,k<=3/\q=(iZ k)/\P=(uZ (Num.val y (a.take k):Nat))/\wr=F) (fun _ q _=>3-(mI q).toNat);case atStart=>exact⟨0,og _,rfl,by rw[v.out],rfl⟩
 case round=>
  obtain⟨k,hk,rfl,rfl,rfl⟩:=hrel;by_cases o:k<3
  ·have E:(k:Int)<3:=aj;obtain⟨x,T,O,d,D,A,f⟩:=t.out k o;have B:=K.out k o;have m:((body[p+1+k]'aj).toNat:Nat)=x:=by
    rw[eB aj]at d;simpa using d
   rw[m,show yo+(p+1+k)=yo+(p+1)+k by omega]at B;have M:=Gs T x A O;obtain⟨S,l⟩:=bZ (T*256+x);rw[<-l]at M f;rw[<-D];have I:=aG f;clear f l m d D;go_wp2_with fail;go_roundw;case rel=>exact⟨k+1,aj,by go_num,by rw[I.out],trivial⟩
   case measure=>simp[mI];omega
  ·obtain rfl:k=3:=aj;rw[J.out];go_wp2;go_ret;exact⟨rfl,r.out,s.out⟩
theorem Ur(rb yb yo cap:Nat)(body:List UInt8)(p bg:Nat)(w:World)(h:gZ w rb yb yo cap body p bg)(hp:p+8<=body.length)(N:(body[p]'aj).toNat / 64=3):Calls prog 161 #[aI rb 0] w fun e w'=>e=.returned (uZ ((Num.val ((body[p]'aj).toNat % 64) ((body.drop (p+1)).take 7):Nat):Int))/\gZ w' rb yb yo cap body (p+8) bg/\gM rb w w':=by
 have R:=aG (qG rb yb yo cap body p bg w h aj);have L:=aG (fun w' (h':gZ w' rb yb yo cap body (p+1) bg)=>qF rb yb yo cap body (p+1) bg 7 w' h' aj);have H:=aG (fun w' (h':gZ w' rb yb yo cap body (p+1+7) bg) j (C:j<7)=>h'.byte (p+1+j) aj);have Z:=Crc.mX (body[p]'aj);generalize (body[p]'aj).toNat=X at *
 have U:bits .and .u8 (X:Int) 63=((X % 64:Nat):Int):=by have z:X&&& 63=X % 64:=mK X 6;rw[<-z];exact u8_and_nat X 63 aj aj
 have V:(X:Int) / 64=3:=aj;have W:((X % 64:Nat):Int)<64:=aj;obtain⟨a,b⟩:=bZ ((body.drop (p+1)).take 7);have n:a.length=7:=by rw[b,o8,lg];omega
 have t:Hid (∀j (C:j<7),∃x T:Nat,x<256/\body[p+1+j]?.map tL=some x/\T=Num.val (X % 64) (a.take j)/\T<72057594037927936/\Num.val (X % 64) (a.take (j+1))=T*256+x):=fun j C=>by
  refine⟨(a[j]'aj).toNat,_,Crc.mX _,?_,rfl,?_,xG a _ j aj⟩
  ·have:a[j]?=body[p+1+j]?:=by rw[b,nV,bK C,mY]
   rw[<-this,eB aj];rfl
  ·have:=yS (a.take j) (X % 64) 1 aj;have hl:(a.take j).length=j:=by simp;omega
   rw[hl]at this;have Y:(256:Nat) ^ (1+j)<=256 ^ 7:=nP iO aj;omega
 have J:Hid (Num.val (X % 64) (a.take 7)=Num.val (X % 64) a):=by unfold Hid;rw[nA aj]
 have v:Hid (Num.val (X % 64) (a.take 0)=X % 64):=rfl;rw[<-b];clear N h b n;generalize X % 64=y at *
 go_enter func161,ntmps161;go_wp2_with fail;refine bN R.out ?_;rintro w1 ⟨G,g⟩;have u:=aG (L.out w1 G);have Q:=aG g;clear G g;go_wp2_with fail;refine bN u.out ?_;rintro F ⟨c,i⟩;have r:=aG c;have s:=aG (Q.out.trans i);have K:=aG (H.out F c);clear c i;go_wp2_with fail;go_loopw [4,19] (fun P q wr=>∃k:Nat,k<=7/\q=(iZ k)/\P=(uZ (Num.val y (a.take k):Nat))/\wr=F) (fun _ q _=>7-(mI q).toNat);case atStart=>exact⟨0,og _,rfl,by rw[v.out],rfl⟩
 case round=>
  obtain⟨k,hk,rfl,rfl,rfl⟩:=hrel;by_cases o:k<7
  ·have E:(k:Int)<7:=aj;obtain⟨x,T,O,d,D,A,f⟩:=t.out k o;have B:=K.out k o;have m:((body[p+1+k]'aj).toNat:Nat)=x:=by
    rw[eB aj]at d;simpa using d
   rw[m,show yo+(p+1+k)=yo+(p+1)+k by omega]at B;have M:=Gs T x A O;obtain⟨S,l⟩:=bZ (T*256+x);rw[<-l]at M f;rw[<-D];have I:=aG f;clear f l m d D;go_wp2_with fail;go_roundw;case rel=>exact⟨k+1,aj,by go_num,by rw[I.out],trivial⟩
   case measure=>simp[mI];omega
  ·obtain rfl:k=7:=aj;rw[J.out];go_wp2;go_ret;exact⟨rfl,r.out,s.out⟩
theorem iU(rb yb yo cap:Nat)(body:List UInt8)(p bg n:Nat)(rest:List UInt8)(w:World)(h:gZ w rb yb yo cap body p bg)(q:n<4611686018427387904)(hb:body.drop p=Num.ay n++rest):Calls prog 161 #[aI rb 0] w fun e w'=>e=.returned (uZ n)/\gZ w' rb yb yo cap body (p+(Num.ay n).length) bg/\gM rb w w':=by
 have b:=Num.Lj n q rest;rw[<-hb]at b;have k:0<(Num.ay n).length:=by rw[Num.gy];exact Nat.pow_pos iO
 have m:(body.drop p).length=(Num.ay n).length+rest.length:=by rw[hb,j3]
 have o:(body.drop p).length=body.length-p:=lg;have hp:p<body.length:=aj;have hd:body.drop p=body[p]::body.drop (p+1):=rX hp;rw[hd,Num.Ep]at b;have l:(body.drop (p+1)).length=body.length-(p+1):=lg;generalize a:(body[p]).toNat=X at b;have j:=Crc.mX body[p];rw[a]at j;by_cases hs:(body.drop (p+1)).length<2 ^ (X / 64)-1;·rw[bK hs]at b;cases b
 ·rw[aU hs]at b;simp only[Option.some.injEq,Prod.mk.injEq]at b;obtain⟨c,d⟩:=b;have f:((body.drop (p+1)).drop (2 ^ (X / 64)-1)).length=rest.length:=by rw[d]
  rw[lg]at f;have i:X / 64=0\/X / 64=1\/X / 64=2\/X / 64=3:=aj;have g:(Num.ay n).length=2 ^ (X / 64):=by rcases i with e|e|e|e<;>rw[e]at hs f ⊢<;>simp at hs f ⊢<;>omega
  rw[g];rcases i with e|e|e|e;·rw[e]at c g ⊢;have:=Un rb yb yo cap body p bg w h aj (by rw[a];exact e);rw[a,c]at this;exact this
  ·rw[e]at c g ⊢;have:=Uo rb yb yo cap body p bg w h aj (by rw[a];exact e);rw[a,c]at this;exact this
  ·rw[e]at c g ⊢;have:=Uq rb yb yo cap body p bg w h aj (by rw[a];exact e);rw[a,c]at this;exact this
  ·rw[e]at c g ⊢;have:=Ur rb yb yo cap body p bg w h aj (by rw[a];exact e);rw[a,c]at this;exact this
structure RP (B0 B1 rb fb yb yo cap:Nat) (body:List UInt8) (w:World) (p bg:Nat) (cur:Fr) (v9:Value):Prop where
 rd:gZ w rb yb yo cap body p bg
 sS:aS w fb 65 (iL cur v9)
 rT:eX 170 2 w v9 cur.ranges.length (bQ cur.ranges)
 own:Own B1 v9
 h01:B0<=B1
 hB:B1<=w.heap.size
 rbl:rb<B0
 fbl:fb<B0
 ybl:yb<B0
 rf:rb≠fb
 fy:fb≠yb
structure uQ (B1 rb fb:Nat) (w w':World):Prop where
 os:w'.os=w.os
 tape:w'.tape=w.tape
 output:w'.output=w.output
 size:w.heap.size<=w'.heap.size
 block:∀k,k<B1->k≠rb->k≠fb->w'.heap[k]?=w.heap[k]?
theorem uQ.refl(B1 rb fb:Nat)(w:World):uQ B1 rb fb w w:=⟨rfl,rfl,rfl,tK _,fun _ _ _ _=>rfl⟩
theorem uQ.trans{B1 rb fb:Nat}{a b c:World}(h:uQ B1 rb fb a b)(k:uQ B1 rb fb b c):uQ B1 rb fb a c:=
 ⟨k.os.trans h.os,k.tape.trans h.tape,k.output.trans h.output,xQ h.size k.size,fun i d h1 e=>(k.block i d h1 e).trans (h.block i d h1 e)⟩
theorem gM.two{rb:Nat}{w w':World}(h:gM rb w w')(B1 fb:Nat):uQ B1 rb fb w w':=⟨h.os,h.tape,h.output,Nat.le_of_eq h.size.symm,fun k _ h1 _=>h.block k h1⟩
theorem uQ.Ci(B1 rb fb o:Nat)(v:Value)(w:World):uQ B1 rb fb w (w.setCell (aB fb o) v):=⟨rfl,rfl,rfl,aP,fun k _ _ h=>eT _ _ _ _ h⟩
theorem uQ.yN{B0 B1 rb fb:Nat}{w1 w w':World}(h:uQ B1 rb fb w w')(a:D6 B0 B1 w1 w)(d:rb<B0)(c:fb<B0):D6 B0 B1 w1 w':=
 ⟨xQ a.1 h.size,fun k b h1=>(h.block k h1 aj aj).trans (a.2 k b h1)⟩
theorem RP.step{B0 B1 rb fb yb yo cap:Nat}{body:List UInt8}{w w':World}{p a bg:Nat}{cur:Fr}{v9:Value}(h:RP B0 B1 rb fb yb yo cap body w p bg cur v9)(c:gZ w' rb yb yo cap body a bg)(hs:gM rb w w'):RP B0 B1 rb fb yb yo cap body w' a bg cur v9:=
 ⟨c,h.sS.of_heap (hs.block _ (Ne.symm h.rf)),h.rT.of_heap (fun b hb=>hs.block b (by have:=h.own b hb;have:=h.rbl;have:=h.h01;omega)),h.own,h.h01,by rw[hs.size];exact h.hB,h.rbl,h.fbl,h.ybl,h.rf,h.fy⟩
theorem RP.Ci{B0 B1 rb fb yb yo cap:Nat}{body:List UInt8}{w:World}{p bg:Nat}{cur cur':Fr}{v9:Value}(h:RP B0 B1 rb fb yb yo cap body w p bg cur v9)(o:Nat)(x:Value)(a:(iL cur v9).set o x=iL cur' v9)(c:cur'.ranges=cur.ranges):RP B0 B1 rb fb yb yo cap body (w.setCell (aB fb o) x) p bg cur' v9:=
 ⟨h.rd.of (eT _ _ _ _ h.rf) (eT _ _ _ _ (Ne.symm h.fy)),by rw[<-a];exact h.sS.setCell o x,by rw[c];exact h.rT.of_heap (fun b hb=>eT _ _ _ _ (by have:=h.own b hb;have:=h.fbl;have:=h.h01;simp;omega)),h.own,h.h01,by simp;exact h.hB,h.rbl,h.fbl,h.ybl,h.rf,h.fy⟩
def iy(f:Fr)(a:Nat×Nat)(cur:Fr):Fr:=
 if a.1=0 then cur else if a.1=1 then{cur with bn:=f.bn}else if a.1=2 then{cur with aH:=f.aH}
 else if a.1=3 then(if a.2=279 then{cur with aD:=f.aD}else if a.2=280 then{cur with aV:=f.aV}else if a.2=283 then{cur with aL:=f.aL}else if a.2=284 then{cur with id:=f.id}else{cur with aW:=f.aW})
 else if a.1=4 then{cur with data:=f.data}else{cur with ranges:=f.ranges}
def Rd(B0 B1:Nat)(w1:World)(fv:Value)(sp:List UInt8)(upd:Fr->Fr)(rb fb yb yo cap:Nat)(body:List UInt8)(bg:Nat):Prop:=
 ∃g cb,fv=.func (.func g) #[] cb/\(∀args w,(callFunc g args).run prog w=.ok (.enter g args) w)/\∀w p cur v9 rest,D6 B0 B1 w1 w->RP B0 B1 rb fb yb yo cap body w p bg cur v9->cur.ranges=[]->body.drop p=sp++rest->Calls prog g (#[aI rb 0,aI fb 0]++cb) w fun e w'=>e=.returned (.tuple #[])/\∃a,RP B0 B1 rb fb yb yo cap body w' (p+sp.length) bg (upd cur) a/\uQ B1 rb fb w w'
theorem zh{body rest:List UInt8}{p:Nat}{x:UInt8}(h:body.drop p=[x]++rest):∃hp:p<body.length,body[p]=x:=by
 have hl:(body.drop p).length=1+rest.length:=by rw[h];simp;omega
 rw[lg]at hl;have hp:p<body.length:=aj;refine⟨hp,?_⟩;rw[rX hp]at h;exact(List.cons.inj h).1
theorem jW{body a b:List UInt8}{p:Nat}(h:body.drop p=a++b):body.drop (p+a.length)=b:=by rw[<-List.drop_drop,h,nU];rfl
theorem Us{B0 B1:Nat}{w1:World}(x:UInt8)(rb fb yb yo cap:Nat)(body:List UInt8)(bg:Nat):Rd B0 B1 w1 (.func (.func 322) #[] #[]) [x] (fun cur=>cur) rb fb yb yo cap body bg:=by refine⟨322,_,rfl,enters_of func322 bH rfl,fun w p cur v9 rest _ a _ hb=>?_⟩;obtain⟨hp,g⟩:=zh hb;have d:=aG (qG rb yb yo cap body p bg w a.rd hp);have f:=aG a;clear a hb;go_enter func322,ntmps322;go_wp2_with fail;refine bN d.out ?_;rintro h ⟨c,b⟩;have e:=aG (dB (f.out.step c b) (b.two B1 fb));clear c b;go_wp2;go_end0;exact⟨rfl,v9,e.out⟩
theorem Gu{B0 B1:Nat}{w1:World}(bn:Bool)(rb fb yb yo cap:Nat)(body:List UInt8)(bg:Nat):Rd B0 B1 w1 (.func (.func 332) #[] #[]) [if bn then 9 else 8] (fun cur=>{cur with bn:=bn}) rb fb yb yo cap body bg:=by
 refine⟨332,_,rfl,enters_of func332 bH rfl,fun w p cur v9 rest _ g _ hb=>?_⟩;obtain⟨hp,i⟩:=zh hb;have e:=aG (qG rb yb yo cap body p bg w g.rd hp);rw[i]at e;have h:=aG g;clear g hb i;cases bn;·go_enter func332,ntmps332;go_wp2_with fail;refine bN e.out ?_;rintro d ⟨c,b⟩;have a:=h.out.step c b;have j:d.cell? (aB fb 5)=some (.bool cur.bn):=a.sS.cell 5;have k:=a.sS.frozen 5;have f:=aG (dB (a.Ci 5 (.bool false) (cur':={cur with bn:=false}) rfl rfl) ((b.two B1 fb).trans (uQ.Ci B1 rb fb 5 (.bool false) d)));clear c b a;go_wp2;go_end0;exact⟨rfl,v9,f.out⟩
 ·go_enter func332,ntmps332;go_wp2_with fail;refine bN e.out ?_;rintro d ⟨c,b⟩;have a:=h.out.step c b;have j:d.cell? (aB fb 5)=some (.bool cur.bn):=a.sS.cell 5;have k:=a.sS.frozen 5;have f:=aG (dB (a.Ci 5 (.bool true) (cur':={cur with bn:=true}) rfl rfl) ((b.two B1 fb).trans (uQ.Ci B1 rb fb 5 (.bool true) d)));clear c b a;go_wp2;go_end0;exact⟨rfl,v9,f.out⟩
theorem Qg{B0 B1:Nat}{w1:World}(s:Int)(b:0<=s)(e:s<8)(rb fb yb yo cap:Nat)(body:List UInt8)(bg:Nat):Rd B0 B1 w1 (.func (.func 328) #[] #[]) (Num.ay s.toNat) (fun cur=>{cur with aH:=s}) rb fb yb yo cap body bg:=by refine⟨328,_,rfl,enters_of func328 bH rfl,fun w p cur v9 rest _ c _ hb=>?_⟩;obtain⟨n,rfl⟩:=Int.eq_ofNat_of_zero_le b;rw[Int.toNat_natCast]at hb ⊢;have h:=aG (iU rb yb yo cap body p bg n rest w c.rd aj hb);have j:=aG c;have k:¬((8:Int)<=(n:Int)):=aj;have l:(n:Int)<8:=aj;clear c hb b e;go_enter func328,ntmps328;go_wp2_with fail;refine bN h.out ?_;rintro g ⟨f,d⟩;have a:=j.out.step f d;have m:g.cell? (aB fb 1)=some (iZ cur.aH):=a.sS.cell 1;have o:=a.sS.frozen 1;have i:=aG (dB (a.Ci 1 (iZ n) (cur':={cur with aH:=(n:Int)}) rfl rfl) ((d.two B1 fb).trans (uQ.Ci B1 rb fb 1 (iZ n) g)));clear f d a;go_wp2;go_end0;exact⟨rfl,v9,i.out⟩
theorem qH{B0 B1:Nat}{w1:World}(pb g i n:Nat)(upd:Fr->Fr)(rb fb yb yo cap:Nat)(body:List UInt8)(bg:Nat)(z:B0<=pb)(h1:pb<B1)(u:w1.cell? (aB pb 0)=some (.func (.func g) #[] #[]))(C:∀args w,(callFunc g args).run prog w=.ok (.enter g args) w)(d:∀b w,Calls prog g #[aI b 0] w fun e w'=>e=.returned (aI b i)/\w'=w)(r:∀cur v9,∃f:Int,(iL cur v9)[i]?=some (uZ f))(t:∀cur v9,(iL cur v9).set i (uZ n)=iL (upd cur) v9/\(upd cur).ranges=cur.ranges)(s:n<=dK):Rd B0 B1 w1 (.func (.func 330) #[] #[aI pb 0]) (Num.ay n) upd rb fb yb yo cap body bg:=by refine⟨330,_,rfl,enters_of func330 bH rfl,fun w p cur v9 rest o j _ hb=>?_⟩;have cc:=o.cell z h1 u;have v:=aG (iU rb yb yo cap body p bg n rest w j.rd (by unfold dK at s;omega) hb);have y:=aG j;have h:=aG (d fb w);have m:=aG (t cur v9);obtain⟨f,hold⟩:=r cur v9;have c:=aG hold;clear j hb o d r t s u hold;go_enter func330,ntmps330;go_wp2_with fail;refine bN h.out ?_;rintro w' l;subst l;go_wp2_with fail;refine bN v.out ?_;rintro A ⟨q,k⟩;have a:=y.out.step q k;have B:=a.sS.cell i;rw[c.out]at B;have D:=a.sS.frozen i;have x:=aG (dB (a.Ci i (uZ n) m.out.1 m.out.2) ((k.two B1 fb).trans (uQ.Ci B1 rb fb i (uZ n) A)));clear q k a;go_wp2;go_end0;exact⟨rfl,v9,x.out⟩
theorem ba_eq(d:ByteArray):(⟨d.data.toList.toArray⟩:ByteArray)=d:=by cases d;simp
theorem Yi{B0 B1:Nat}{w1:World}(d:ByteArray)(hd:d.size<=1000000000)(rb fb yb yo cap:Nat)(body:List UInt8)(bg:Nat):Rd B0 B1 w1 (.func (.func 334) #[] #[]) (Num.ay d.size++d.data.toList) (fun cur=>{cur with data:=d}) rb fb yb yo cap body bg:=by
 refine⟨334,_,rfl,enters_of func334 bH rfl,fun w p cur v9 rest _ q _ hb=>?_⟩;rw[mE]at hb;have h:=jW hb;have a:d.data.toList.length=d.size:=by rw[Array.length_toList];rfl
 have e:p+(Num.ay d.size).length+d.size<=body.length:=by
  have h1:(body.drop (p+(Num.ay d.size).length)).length=d.size+rest.length:=by rw[h,j3,a]
  rw[lg]at h1;have B:(body.drop p).length=(Num.ay d.size).length+(d.size+rest.length):=by rw[hb,j3,j3,a]
  rw[lg]at B;have G:=q.rd.le;have H:0<(Num.ay d.size).length:=by rw[Num.gy];exact Nat.pow_pos iO
  omega
 have v:=aG (iU rb yb yo cap body p bg d.size _ w q.rd aj hb);have y:=aG q;have i:=aG e;have k:∀j (u:j<d.size),body[p+(Num.ay d.size).length+j]?=some (d.data.toList[j]'aj):=fun j u=>by
  have:(body.drop (p+(Num.ay d.size).length))[j]?=(d.data.toList++rest)[j]?:=by rw[h]
  rw[mY,List.getElem?_append_left aj]at this;rw[this];exact eB _
 have l:∀w',gZ w' rb yb yo cap body (p+(Num.ay d.size).length+d.size) bg->∀c,(convert 60 9 (.slice (some (aB yb (yo+(p+(Num.ay d.size).length)))) d.size c)).run prog w'=.ok (.string d) w':=fun w' A c=>by have:=run_convert_bytes_back (P:=prog) w' 60 9 5 (aB yb (yo+(p+(Num.ay d.size).length))) c d.data.toList u29 bH u9 (fun j u=>by rw[Addr.add_lit,uj];have h1:=k j aj;have m:p+(Num.ay d.size).length+j<body.length:=aj;rw[A.byte _ m];rw[eB m]at h1;rw[Option.some.inj h1]);rw[a,ba_eq]at this;exact this
 have r:=aG l;have t:Hid ((Num.ay d.size++d.data.toList).length=(Num.ay d.size).length+d.size):=by unfold Hid;rw[j3,a]
 have F:(d.size:Int)<=1000000000:=aj;clear q hb h e k l a;generalize (Num.ay d.size).length=L at *
 generalize gQ:d.size=n at *
 go_enter func334,ntmps334;go_wp2_with fail;refine bN v.out ?_;rintro D ⟨f,g⟩;have z:=aG (qF rb yb yo cap body (p+L) bg n D f i.out);have C:=aG (y.out.step f g);have s:=aG (g.two B1 fb);clear f g;go_wp2_with fail;refine bN z.out ?_;rintro o ⟨f,g⟩;have b:=C.out.step f g;have E:=r.out o f;have I:o.cell? (aB fb 8)=some (.string cur.data):=b.sS.cell 8;have J:=b.sS.frozen 8;have x:Hid (RP B0 B1 rb fb yb yo cap body (o.setCell (aB fb 8) (.string d)) (p+(L+n)) bg {cur with data:=d} v9/\uQ B1 rb fb w (o.setCell (aB fb 8) (.string d))):=by rw[<-uj];exact dB (b.Ci 8 (.string d) rfl rfl) ((s.out.trans (g.two B1 fb)).trans (uQ.Ci B1 rb fb 8 (.string d) o))
 clear f g b;go_wp2;go_end0;rw[t.out];exact⟨rfl,v9,x.out⟩
theorem Oj{B0 B1 rb fb yb yo cap:Nat}{body:List UInt8}{w:World}{p bg:Nat}{cur:Fr}{v9:Value}(h:RP B0 B1 rb fb yb yo cap body w p bg cur v9)(lo hi n m:Nat)(E:cur.ranges.length=n)(D:n+1=m)(hl:n<=1000000000):∃g c' d,(∀I,(Builtin.append_ #[63,63] I #[v9,dP w.heap.size 1 1]).run prog (w.alloc (.cells #[uZ lo,uZ hi] 170))=.ok (.slice g m c') d)/\aS d fb 65 (iL cur v9)/\RP B0 B1 rb fb yb yo cap body (d.setCell (aB fb 9) (.slice g m c')) p bg {cur with ranges:=cur.ranges++[(lo,hi)]} (.slice g m c')/\uQ B1 rb fb w (d.setCell (aB fb 9) (.slice g m c')):=by
 subst E;subst D;obtain⟨i,e⟩:=bZ (w.alloc (.cells #[uZ lo,uZ hi] 170));have F:i.heap.size=w.heap.size+1:=by rw[e];simp
 have a:bJ w i:=by rw[e];exact(Below.refl _ _).alloc (tK _) _
 have A:aS i w.heap.size 170 [uZ lo,uZ hi]:=by rw[e];exact aS.new w 170 _
 rw[<-e];have r:eX 170 2 i v9 cur.ranges.length (bQ cur.ranges):=h.rT.of_heap (fun b hb=>a.block b (h.rT.lt b hb));obtain⟨v',d,q,t,s⟩:=iQ LQ r (aB w.heap.size 0) 1 1 (bQ [(lo,hi)]) rfl aj (lK _) (fun j u G=>by rw[Addr.add_lit,Nat.zero_add,A.cell];exact G) aj;obtain⟨g,c',H,_⟩:=t.shape;subst H;have z:=h.hB;have c:Below B1 i d:=s.below h.own aj;have o:=s.own h.own aj;have h1:=h.h01;have v:=h.fbl;have x:=h.rbl;have y:=h.ybl;have gQ:=c.size;have f:∀b,b<B1->d.heap[b]?=w.heap[b]?:=fun b hb=>by rw[c.block b hb,a.block b aj]
 have l:aS d fb 65 (iL cur v9):=h.sS.of_heap (f fb aj);refine⟨g,c',d,q,l,⟨?_,?_,?_,o,h.h01,by simp;omega,x,v,y,h.rf,h.fy⟩,?_⟩;·exact(h.rd.of (f rb aj) (f yb aj)).of (eT _ _ _ _ h.rf) (eT _ _ _ _ (Ne.symm h.fy))
 ·exact l.setCell 9 _
 ·show eX 170 2 _ _ (cur.ranges++[(lo,hi)]).length (bQ (cur.ranges++[(lo,hi)]));rw[j3,jH];exact t.of_heap (fun b hb=>eT _ _ _ _ (by have:=o b hb;simp;omega))
 ·refine⟨c.os.trans a.os,c.tape.trans a.tape,c.output.trans a.output,by simp;omega,fun k C _ B=>?_⟩;rw[eT _ _ _ _ B];exact f k C
theorem xH(rs:bW)(k:Nat):∀N,k<=N->∃s,iI rs N=iI rs k++s
 |0,h=>⟨[],by obtain rfl:k=0:=aj;simp⟩
 |N+1,h=>by
  by_cases e:k=N+1;·exact⟨[],by rw[e];simp⟩
  ·obtain⟨s,hs⟩:=xH rs k N aj;exact⟨s++_,by rw[iI,hs,mE]⟩
def jX(rs:bW)(N k:Nat):List UInt8:=(iI rs N).drop (iI rs k).length
theorem xI(rs:bW)(N:Nat):jX rs N 0=iI rs N:=rfl
theorem Jo(rs:bW)(N:Nat):jX rs N N=[]:=by unfold jX;exact sF (tK _)
theorem Gv(rs:bW)(N k:Nat)(h:k<N):jX rs N k=Num.ay ((rs.getD k (0,0)).1-(rs.getD (k+1) (0,0)).2-2)++(Num.ay ((rs.getD (k+1) (0,0)).2-(rs.getD (k+1) (0,0)).1)++jX rs N (k+1)):=by
 obtain⟨s,hs⟩:=xH rs (k+1) N aj;have a:(iI rs N).drop (iI rs (k+1)).length=s:=by rw[hs];exact nU rfl
 have hB:iI rs N=iI rs k++(Num.ay ((rs.getD k (0,0)).1-(rs.getD (k+1) (0,0)).2-2)++(Num.ay ((rs.getD (k+1) (0,0)).2-(rs.getD (k+1) (0,0)).1)++s)):=by rw[hs,iI];simp only[mE]
 unfold jX;rw[a,hB];exact nU rfl
theorem EP(rs:bW)(k:Nat)(h:k<rs.length):rs.take k++[((rs.getD k (0,0)).1,(rs.getD k (0,0)).2)]=rs.take (k+1):=by rw[qx h,qA,eB h];rfl
theorem Qi{B0 B1:Nat}{w1:World}(rs:bW)(hR:qp rs=true)(hv:rs.length<=1000000000)(rb fb yb yo cap:Nat)(body:List UInt8)(bg:Nat):Rd B0 B1 w1 (.func (.func 326) #[] #[]) (gK rs) (fun cur=>{cur with ranges:=rs}) rb fb yb yo cap body bg:=by
 refine⟨326,_,rfl,enters_of func326 bH rfl,fun w p cur v9 rest _ hP H hb=>?_⟩;obtain⟨v,D⟩:=NN hR;obtain⟨N,hN⟩:∃N,rs.length=N+1:=⟨rs.length-1,aj⟩;have E:body.drop p=Num.ay (rs.getD 0 (0,0)).2++(Num.ay N++(Num.ay ((rs.getD 0 (0,0)).2-(rs.getD 0 (0,0)).1)++(jX rs N 0++rest))):=by rw[hb,xI];unfold gK jV;rw[hN,qy];simp only[mE]
 have Z7:(gK rs).length=(Num.ay (rs.getD 0 (0,0)).2).length+(Num.ay N).length+(Num.ay ((rs.getD 0 (0,0)).2-(rs.getD 0 (0,0)).1)).length+(iI rs N).length:=by unfold gK jV;rw[hN,qy];simp only[j3];omega
 obtain⟨q1,q2,_⟩:=D 0 v;have F:=jW E;have G:=jW F;have h0:=jW G;have j:=aG (iU rb yb yo cap body p bg _ _ w hP.rd (by unfold dK at q2;omega) E);have V:=aG (fun w' (h':gZ w' rb yb yo cap body _ bg)=>iU rb yb yo cap body _ bg _ _ w' h' aj F);have P:=aG (fun w' (h':gZ w' rb yb yo cap body _ bg)=>iU rb yb yo cap body _ bg _ _ w' h' (by unfold dK at q2;omega) G);have L:=aG D;have O:=aG Z7;have M:=aG h0;have HP:=aG hP;have h3:(rs.getD 0 (0,0)).2-((rs.getD 0 (0,0)).2-(rs.getD 0 (0,0)).1)=(rs.getD 0 (0,0)).1:=aj;have HL:=aG (fun(r:Value) (w:World)=>Ch r (rs.getD 0 (0,0)).2 ((rs.getD 0 (0,0)).2-(rs.getD 0 (0,0)).1) w aj (by unfold dK at q2;omega));rw[h3]at HL;have U:Hid ([((rs.getD 0 (0,0)).1,(rs.getD 0 (0,0)).2)]=rs.take 1):=EP rs 0 v;clear hP hb E F G h0 D Z7 hR h3;generalize Z:(rs.getD 0 (0,0)).1=h7 at *
 generalize hg:(rs.getD 0 (0,0)).2=s at *
 generalize hf:s-h7=d0 at *
 have vQ:=aG Z;clear Z hg hf;go_enter func326,ntmps326;go_wp2_with fail;refine bN j.out ?_;rintro x1 ⟨K,b⟩;have i:=aG (V.out x1 K);have wM:=aG (HP.out.step K b);have wT:=aG (b.two B1 fb);clear K b j V HP;go_wp2_with fail;refine bN i.out ?_;rintro x2 ⟨B,C⟩;have SG:=aG (P.out x2 B);have vR:=aG (wM.out.step B C);have R:=aG (wT.out.trans (C.two B1 fb));clear B C i wM P wT;go_wp2_with fail;refine bN SG.out ?_;rintro x3 ⟨W,c⟩;have q:=aG (vR.out.step W c);have l:=aG (R.out.trans (c.two B1 fb));clear W c SG vR R;go_wp2_with fail;refine bN (HL.out _ _) ?_;rintro x4 hm;subst hm;obtain⟨a',c',Y,mU,a,z,m⟩:=Oj q.out h7 s 0 1 (by rw[H];rfl) rfl aj;have h6:x4.cell? (aB fb 9)=some v9:=q.out.sS.cell 9;obtain⟨a9,c9,o,_⟩:=q.out.rT.shape;rw[show cur.ranges.length=0 by rw[H];rfl]at o;subst o;have k9:Y.cell? (aB fb 9)=some (.slice a9 0 c9):=a.cell 9;have z9:=a.frozen 9;rw[H,List.nil_append,U.out]at z;have Io:=aG z;have S:=aG (l.out.trans m);have h2:fb<x4.heap.size:=q.out.sS.lt;clear a z m q l HL;go_wp2_with (at_builtin;refine Lib.wpList_append_run _ rfl _ _ _ _ rfl _ _ rfl rfl _ _ (mU _) ?_);clear mU h6 k9 z9 h2;have Ol:=aG (fun k (hk:k<N)=>Gv rs N k hk);have sJ:=aG (Jo rs N);have Q:Hid (p+(Num.ay s).length+(Num.ay N).length+(Num.ay d0).length+(jX rs N 0).length=p+(gK rs).length):=by unfold Hid;rw[O.out,xI];omega
 generalize p+(Num.ay s).length+(Num.ay N).length+(Num.ay d0).length=p0 at *
 go_loopw [4,5,6] (fun s4 s5 s6 wr=>∃k:Nat,k<=N/\s5=(uZ ((N-k:Nat):Int))/\s6=(uZ (((rs.getD k (0,0)).1:Nat):Int))/\(∃x:Nat,s4=(uZ x))/\Hid (∃pk v9,RP B0 B1 rb fb yb yo cap body wr pk bg {cur with ranges:=rs.take (k+1)} v9/\uQ B1 rb fb w wr/\body.drop pk=jX rs N k++rest/\pk+(jX rs N k).length=p+(gK rs).length)) (fun _ s5 _ _=>(mI s5).toNat);case atStart=>exact⟨0,og _,rfl,by rw[vQ.out],⟨_,rfl⟩,p0,_,Io.out,S.out,M.out,Q.out⟩
 case round=>
  clear Io S M Q O vQ U;obtain⟨k,hk,rfl,rfl,⟨xh,rfl⟩,HI⟩:=hrel;by_cases hj:k<N
  ·obtain⟨pk,v9,y,X,e,f⟩:=HI.out;rw[Ol.out k hj]at e f;rw[mE,mE]at e;obtain⟨o1,o2,o3⟩:=L.out (k+1) aj;have o4:=o3 aj;rw[qy]at o4;obtain⟨o5,o6,_⟩:=L.out k aj;have h5:=EP rs (k+1) aj;have u:(rs.take (k+1)).length=k+1:=by simp;omega
   unfold dK at o2 o6;generalize (rs.getD k (0,0)).1=J at *
   generalize hr:(rs.getD (k+1) (0,0)).2=h at *
   generalize h8:(rs.getD (k+1) (0,0)).1=I at *
   generalize hG:J-h-2=g at *
   generalize hD:h-I=d at *
   have j:=aG (iU rb yb yo cap body pk bg g _ wr y.rd aj e);have n:=jW e;have V:=aG (fun w' (h':gZ w' rb yb yo cap body _ bg)=>iU rb yb yo cap body _ bg d _ w' h' aj n);have h9:=jW n;have NZ:=aG (fun(r:Value) (w:World)=>Ch r J (g+2) w aj aj);rw[show J-(g+2)=h by omega]at NZ;have A:=aG (fun(r:Value) (w:World)=>Ch r h d w aj aj);rw[show h-d=I by omega]at A;have ha:pk+(Num.ay g).length+(Num.ay d).length+(jX rs N (k+1)).length=p+(gK rs).length:=by rw[j3,j3]at f;omega
   have NP:=aG y;have T:=aG X;have HB:=aG (dB h9 ha);have Oi:=aG h5;have t:=aG u;have vQ:=aG h8;have g0:0<N-k:=aj;have g1:(g:Int)+2=((g+2:Nat):Int):=aj;have g2:((g+2:Nat):Int)<18446744073709551616:=aj;have g3:((N-k:Nat):Int)-1=((N-(k+1):Nat):Int):=aj;have g4:((N-(k+1):Nat):Int)<18446744073709551616:=aj;have HM:Hid (N-(k+1)<N-k):=by unfold Hid;omega
   generalize g+2=hu at *
   generalize h4:N-(k+1)=n1 at *
   have hc:=aG h4;clear h4;generalize N-k=n0 at *
   clear y X e n h9 f ha h5 u hr h8 hG hD HI o1 o2 o3 o4 o5 o6;go_wp2_with fail;refine bN j.out ?_;rintro y1 ⟨K,b⟩;have i:=aG (V.out y1 K);have wM:=aG (NP.out.step K b);have wT:=aG (T.out.trans (b.two B1 fb));clear K b j V NP T;go_wp2_with fail;refine bN (NZ.out _ _) ?_;rintro y2 hn;subst hn;go_wp2_with fail;refine bN i.out ?_;rintro y3 ⟨W,c⟩;have q:=aG (wM.out.step W c);have l:=aG (wT.out.trans (c.two B1 fb));clear W c i wM wT;go_wp2_with fail;refine bN (A.out _ _) ?_;rintro y4 ho;subst ho;obtain⟨a',c',Y,mU,a,z,m⟩:=Oj q.out I h (k+1) (k+2) t.out rfl aj;have h6:y4.cell? (aB fb 9)=some v9:=q.out.sS.cell 9;obtain⟨a9,c9,o,_⟩:=q.out.rT.shape;rw[t.out]at o;subst o;have k9:Y.cell? (aB fb 9)=some (.slice a9 (k+1) c9):=a.cell 9;have z9:=a.frozen 9;simp only[Oi.out]at z;have he:Hid (∃pk v9,RP B0 B1 rb fb yb yo cap body (Y.setCell (aB fb 9) (.slice a' (k+2) c')) pk bg {cur with ranges:=rs.take (k+1+1)} v9/\uQ B1 rb fb w (Y.setCell (aB fb 9) (.slice a' (k+2) c'))/\body.drop pk=jX rs N (k+1)++rest/\pk+(jX rs N (k+1)).length=p+(gK rs).length):=⟨_,_,z,l.out.trans m,HB.out.1,HB.out.2⟩;have h2:fb<y4.heap.size:=q.out.sS.lt;clear a z m q l NZ A;go_wp2_with (at_builtin;refine Lib.wpList_append_run _ rfl _ _ _ _ rfl _ _ rfl rfl _ _ (mU _) ?_);go_roundw;case rel=>exact⟨k+1,aj,by rw[hc.out],by rw[vQ.out],⟨_,rfl⟩,he⟩
   case measure=>simp[mI];exact HM.out
  ·obtain rfl:k=N:=aj;obtain⟨pk,v9,y,X,e,f⟩:=HI.out;rw[sJ.out,tT,xB]at f;rw[<-hN,List.take_length,f]at y;have HF:=aG (dB y X);clear y X e f HI;have g0:((k-k:Nat):Int)=0:=aj;go_wp2;go_end0;exact⟨rfl,v9,HF.out⟩
theorem RP.alloc{B0 B1 rb fb yb yo cap:Nat}{body:List UInt8}{w:World}{p bg:Nat}{cur:Fr}{v9:Value}(h:RP B0 B1 rb fb yb yo cap body w p bg cur v9)(o:Obj):RP B0 B1 rb fb yb yo cap body (w.alloc o) p bg cur v9:=by have h1:=h.h01;have e:=h.hB;have a:=h.rbl;have c:=h.fbl;have d:=h.ybl;exact⟨h.rd.of (nI _ _ _ aj) (nI _ _ _ aj),h.sS.alloc o,h.rT.of_heap (fun b hb=>nI _ _ _ (h.rT.lt b hb)),h.own,h1,by simp;omega,a,c,d,h.rf,h.fy⟩
theorem uQ.alloc(B1 rb fb:Nat)(w:World)(o:Obj)(h:B1<=w.heap.size):uQ B1 rb fb w (w.alloc o):=⟨rfl,rfl,rfl,aP,fun k a _ _=>nI _ _ _ aj⟩
def xJ(a:Nat->Fr->Fr):Nat->Fr->Fr
 |0,cur=>cur
 |k+1,cur=>a k (xJ a k cur)
theorem tX(ps:List (List UInt8))(k:Nat):∀N,k<=N->∃s,eF ps N=eF ps k++s
 |0,h=>⟨[],by obtain rfl:k=0:=aj;simp⟩
 |N+1,h=>by
  by_cases e:k=N+1;·exact⟨[],by rw[e];simp⟩
  ·obtain⟨s,hs⟩:=tX ps k N aj;exact⟨s++_,by rw[eF,hs,mE]⟩
def gP(ps:List (List UInt8))(N k:Nat):List UInt8:=(eF ps N).drop (eF ps k).length
theorem oC(ps:List (List UInt8))(N:Nat):gP ps N 0=eF ps N:=rfl
theorem Ee(ps:List (List UInt8))(N:Nat):gP ps N N=[]:=by unfold gP;exact sF (tK _)
theorem tY(ps:List (List UInt8))(N k:Nat)(h:k<N):gP ps N k=ps.getD k []++gP ps N (k+1):=by
 obtain⟨s,hs⟩:=tX ps (k+1) N aj;have a:(eF ps N).drop (eF ps (k+1)).length=s:=by rw[hs];exact nU rfl
 have hB:eF ps N=eF ps k++(ps.getD k []++s):=by rw[hs,eF];simp only[mE]
 unfold gP;rw[a,hB];exact nU rfl
theorem Mk{B0 B1:Nat}{w1:World}(pb r a:Nat)(T fr:Nat->Value)(ps:List (List UInt8))(l:Nat->Fr->Fr)(rb fb yb yo cap:Nat)(body:List UInt8)(bg:Nat)(h3:a<=100)(B:B0<=pb)(C:pb<B1)(E:B0<=r)(F:r<B1)(D:w1.cell? (aB pb 0)=some (dP r a a))(f:∀j,j<a->w1.cell? (aB r (j*2))=some (T j)/\w1.cell? (aB r (j*2+1))=some (fr j))(A:∀j,j<a->∃g cb,T j=.func (.func g) #[] cb)(H:∀cur,cur.ranges=[]->∀j,j<a->(xJ l j cur).ranges=[])(G:∀j,j<a->Rd B0 B1 w1 (fr j) (ps.getD j []) (l j) rb fb yb yo cap body bg):Rd B0 B1 w1 (.func (.func 324) #[] #[aI pb 0]) (eF ps a) (xJ l a) rb fb yb yo cap body bg:=by
 refine⟨324,_,rfl,enters_of func324 bH rfl,fun w p cur v9 rest i V x hb=>?_⟩;have cp:=i.cell B C D;have t:Hid (∃pk v9,D6 B0 B1 w1 w/\RP B0 B1 rb fb yb yo cap body w pk bg (xJ l 0 cur) v9/\uQ B1 rb fb w w/\body.drop pk=gP ps a 0++rest/\pk+(gP ps a 0).length=p+(eF ps a).length):=⟨p,v9,i,V,uQ.refl _ _ _ _,by rw[oC];exact hb,by rw[oC]⟩;have HC:=aG f;have K:=aG A;have M:=aG G;have J:=aG (dB E F);have O:=aG (H cur x);have N:=aG (fun k (Y:k<a)=>tY ps a k Y);have sJ:=aG (Ee ps a);clear V hb f A G D B C E F H x i;go_enter func324,ntmps324;go_wp2_with fail;go_loopw [9] (fun Q wr=>∃k:Nat,k<=a/\Q=(iZ k)/\Hid (∃pk v9,D6 B0 B1 w1 wr/\RP B0 B1 rb fb yb yo cap body wr pk bg (xJ l k cur) v9/\uQ B1 rb fb w wr/\body.drop pk=gP ps a k++rest/\pk+(gP ps a k).length=p+(eF ps a).length)) (fun Q _=>a-(mI Q).toNat);case atStart=>exact⟨0,og _,rfl,t.out⟩
 case round=>
  clear t;obtain⟨k,Y,rfl,I⟩:=hrel;by_cases h:k<a
  ·have Z:(k:Int)<(a:Int):=aj;obtain⟨pk,v9,i,o,v,b,c⟩:=I.out;rw[N.out k h]at b c;rw[mE]at b;obtain⟨q1,q2⟩:=HC.out k h;have t1:=i.cell J.out.1 J.out.2 q1;have t2:=i.cell J.out.1 J.out.2 q2;obtain⟨g,cb,z,eg,W⟩:=M.out k h;obtain⟨U,S,n⟩:=K.out k h;rw[z]at t2;rw[n]at t1;have P:=o.hB;have q:D6 B0 B1 w1 (wr.alloc (.cells #[.func (.func U) #[] S,.func (.func g) #[] cb] 318)):=⟨by simp;omega,fun j h0 h1=>by rw[nI _ _ _ aj];exact i.2 j h0 h1⟩;have X:=W _ pk (xJ l k cur) v9 _ q (o.alloc _) (O.out k h) b;have m:=jW b;have hn:∀w' u,RP B0 B1 rb fb yb yo cap body w' (pk+(ps.getD k []).length) bg (l k (xJ l k cur)) u->uQ B1 rb fb (wr.alloc (.cells #[.func (.func U) #[] S,.func (.func g) #[] cb] 318)) w'->∃pk v9,D6 B0 B1 w1 w'/\RP B0 B1 rb fb yb yo cap body w' pk bg (xJ l (k+1) cur) v9/\uQ B1 rb fb w w'/\body.drop pk=gP ps a (k+1)++rest/\pk+(gP ps a (k+1)).length=p+(eF ps a).length:=fun w' u d e=>⟨_,u,e.yN q d.rbl d.fbl,d,(v.trans (uQ.alloc B1 rb fb wr _ P)).trans e,m,by rw[j3]at c;omega⟩;have R:=aG hn;have s:=aG X;have h2:r<wr.heap.size:=mR _ _ t1;clear z n X W q1 q2 hn i o v b m c q I;go_wp2_with fail;refine bN s.out ?_;rintro y ⟨u,d,e⟩;have L:=aG (R.out y u d e);clear d e R s;go_wp2_with fail;go_roundw;case rel=>exact⟨k+1,aj,by go_num,L⟩
   case measure=>simp[mI];omega
  ·obtain rfl:k=a:=aj;obtain⟨pk,v9,i,o,v,b,c⟩:=I.out;rw[sJ.out,tT,xB]at c;rw[c]at o;have HF:=aG (dB o v);clear i o v b c I;go_wp2;go_end0;exact⟨rfl,v9,HF.out⟩
theorem Om{B0:Nat}{w1:World}{a:Nat×Nat}{n fr:Value}(o:jo B0 w1 a n fr)(f:Fr)(i:Fit f)(k:IL f a)(hd:f.data.size<=1000000000)(m:f.ranges.length<=1000000000)(rb fb yb yo cap:Nat)(body:List UInt8)(bg:Nat):Rd B0 w1.heap.size w1 fr (dH f a) (iy f a) rb fb yb yo cap body bg:=by
 unfold dH;rcases o with⟨h,xb,g,_,d⟩|⟨h,_,d⟩|⟨h,_,d⟩|⟨h,xb,g,_,d⟩|⟨h,_,d⟩|⟨h,_,d⟩
 ·have e:iy f a=fun cur=>cur:=by funext cur;unfold iy;rw[bK h]
  rw[bK h,d,e];exact Us _ rb fb yb yo cap body bg
 ·have e:iy f a=fun cur=>{cur with bn:=f.bn}:=by funext cur;unfold iy;rw[aU aj,bK h]
  rw[aU aj,bK h,d,e];exact Gu f.bn rb fb yb yo cap body bg
 ·have e:iy f a=fun cur=>{cur with aH:=f.aH}:=by funext cur;unfold iy;rw[aU aj,aU aj,bK h]
  rw[aU aj,aU aj,bK h,d,e];exact Qg f.aH i.s0 i.s8 rb fb yb yo cap body bg
 ·have j:∀cur,iy f a cur=(if a.2=279 then{cur with aD:=f.aD}else if a.2=280 then{cur with aV:=f.aV}else if a.2=283 then{cur with aL:=f.aL}else if a.2=284 then{cur with id:=f.id}else{cur with aW:=f.aW}):=fun cur=>by
   unfold iy;rw[aU aj,aU aj,aU aj,bK h]
  rw[aU aj,aU aj,aU aj,bK h,d];have l:a.2=279\/a.2=280\/a.2=283\/a.2=284\/a.2=285:=by
   rcases k with e|e|e|e|e|e;·omega
   ·omega
   ·omega
   ·exact e.2
   ·omega
   ·omega
  have hl:=mR _ _ g.2;have c:=g.2;rcases l with e|e|e|e|e;·rw[e]at c ⊢;exact qH xb 279 2 f.aD _ rb fb yb yo cap body bg g.1 hl c (enters_of func279 bH rfl) (fun b w=>by have:=BG b 0 w;simpa using this) (fun cur v9=>⟨_,rfl⟩) (fun cur v9=>by rw[j,e];exact⟨rfl,rfl⟩) i.n0
  ·rw[e]at c ⊢;exact qH xb 280 3 f.aV _ rb fb yb yo cap body bg g.1 hl c (enters_of func280 bH rfl) (fun b w=>by have:=wV b 0 w;simpa using this) (fun cur v9=>⟨_,rfl⟩) (fun cur v9=>by rw[j,e];exact⟨rfl,rfl⟩) i.n1
  ·rw[e]at c ⊢;exact qH xb 283 4 f.aL _ rb fb yb yo cap body bg g.1 hl c (enters_of func283 bH rfl) (fun b w=>by have:=Ez b 0 w;simpa using this) (fun cur v9=>⟨_,rfl⟩) (fun cur v9=>by rw[j,e];exact⟨rfl,rfl⟩) i.n2
  ·rw[e]at c ⊢;exact qH xb 284 6 f.id _ rb fb yb yo cap body bg g.1 hl c (enters_of func284 bH rfl) (fun b w=>by have:=Tv b 0 w;simpa using this) (fun cur v9=>⟨_,rfl⟩) (fun cur v9=>by rw[j,e];exact⟨rfl,rfl⟩) i.n3
  ·rw[e]at c ⊢;exact qH xb 285 7 f.aW _ rb fb yb yo cap body bg g.1 hl c (enters_of func285 bH rfl) (fun b w=>by have:=wX b 0 w;simpa using this) (fun cur v9=>⟨_,rfl⟩) (fun cur v9=>by rw[j,e];exact⟨rfl,rfl⟩) i.n4
 ·have e:iy f a=fun cur=>{cur with data:=f.data}:=by funext cur;unfold iy;rw[aU aj,aU aj,aU aj,aU aj,bK h]
  rw[aU aj,aU aj,aU aj,aU aj,bK h,d,e];exact Yi f.data hd rb fb yb yo cap body bg
 ·have e:iy f a=fun cur=>{cur with ranges:=f.ranges}:=by funext cur;unfold iy;rw[aU aj,aU aj,aU aj,aU aj,aU aj]
  rw[aU aj,aU aj,aU aj,aU aj,aU aj,d,e];have p:qp f.ranges=true:=by
   rcases k with e|e|e|e|e|e;·omega
   ·omega
   ·omega
   ·omega
   ·omega
   ·exact e.2
  exact Qi f.ranges p m rb fb yb yo cap body bg
def Cj(f:Fr)(a:bW)(k:Nat)(cur:Fr):Fr:=xJ (fun j=>iy f (a.getD j (0,0))) k cur
theorem Jp(f:Fr)(a:Nat×Nat)(cur:Fr)(h:a.1<=4):(iy f a cur).ranges=cur.ranges:=by
 unfold iy;repeat' split
 all_goals first|rfl|omega
theorem Cm(f:Fr)(a:bW)(cur:Fr)(b:cur.ranges=[])(h:∀j,j+1<a.length->(a.getD j (0,0)).1<=4):∀k,k<a.length->(Cj f a k cur).ranges=[]
 |0,_=>b
 |k+1,hk=>by show(iy f (a.getD k (0,0)) (Cj f a k cur)).ranges=[];rw[Jp _ _ _ (h k hk)];exact Cm f a cur b h k aj
theorem Qj(k:Int):∀j,j+1<(dJ k).length->((dJ k).getD j (0,0)).1<=4:=by
 unfold dJ;repeat' split
 all_goals
  intro j a;match j,a with
  |0,a=>first|decide|exact absurd a iO
  |1,a=>first|decide|exact absurd a iO
  |2,a=>first|decide|exact absurd a iO
  |m+3,a=>exact absurd a aP
theorem Yj{B0:Nat}{w1:World}{r fr:Value}(f:Fr)(o:I6 B0 w1 f.aC r fr)(h:snd f=true)(hd:f.data.size<=1000000000)(m:f.ranges.length<=1000000000)(rb fb yb yo cap:Nat)(body:List UInt8)(bg:Nat):Rd B0 w1.heap.size w1 fr (bD f) (Cj f (dJ f.aC) (dJ f.aC).length) rb fb yb yo cap body bg:=by
 obtain⟨q,_⟩:=qU f h;rcases o with⟨e,t⟩|⟨_,o⟩
 ·have:=Om t f q (.inl ⟨rfl,iO⟩) hd m rb fb yb yo cap body bg;have hb:bD f=dH f (0,1):=by
   unfold bD;rw[e,show dJ 1=[(0,1)]from rfl];rfl
  have hs:Cj f (dJ f.aC) (dJ f.aC).length=iy f (0,1):=by rw[e,show dJ 1=[(0,1)]from rfl];rfl
  rw[hb,hs];exact this
 ·obtain⟨pb,n,_,rfl,hB,hq,g⟩:=o;have l:=(w_ f.aC).1;have i:∃d NR:Nat->Value,∀j,j<(dJ f.aC).length->w1.cell? (aB n (j*2))=some (d j)/\w1.cell? (aB n (j*2+1))=some (NR j)/\jo B0 w1 ((dJ f.aC).getD j (0,0)) (d j) (NR j):=by
   refine⟨fun j=>(w1.cell? (aB n (j*2))).getD undef,fun j=>(w1.cell? (aB n (j*2+1))).getD undef,fun j b=>?_⟩;obtain⟨a,c,h1,p,s⟩:=g j b;refine⟨by simp[h1],by simp[p],?_⟩;simpa[h1,p]using s
  obtain⟨d,NR,hF⟩:=i;have k:∀j,j<(dJ f.aC).length->(dJ f.aC).getD j (0,0)∈dJ f.aC:=fun j b=>by rw[qA,eB b];exact List.getElem_mem _
  refine Mk pb n (dJ f.aC).length d NR ((dJ f.aC).map (dH f)) (fun j=>iy f ((dJ f.aC).getD j (0,0))) rb fb yb yo cap body bg (w_ _).2 hB.1 (mR _ _ hB.2) hq (mR _ _ (hF 0 l).1) hB.2 (fun j b=>⟨(hF j b).1,(hF j b).2.1⟩) (fun j b=>?_) (fun cur u j b=>Cm f _ cur u (Qj _) j b) (fun j b=>?_);·obtain⟨_,_,_,_,h,_⟩:=(hF j b).2.2.shape;exact⟨_,_,h⟩
  ·have:=Om (hF j b).2.2 f q (N7 f h _ (k j b)) hd m rb fb yb yo cap body bg;have e:((dJ f.aC).map (dH f)).getD j []=dH f ((dJ f.aC).getD j (0,0)):=by simp[b]
   rw[e];exact this
