import Derived.Test.YtphbledmopchnaaGreatDoorUae
import Derived.Laws.IdiomStrings
open Go.RowKit.Below renaming heap_setCell->fB,heap_alloc->Am
open List renaming getElem?_eq_getElem->fA,length_append->mR,length_drop->nI,append_assoc->sQ,getElem?_drop->uj,take_of_length_le->wz,drop_left'->Aw,getElem?_take->DT,length_take->He,take_succ_eq_append_getElem->Kt,getD_eq_getElem?_getD->Lb,drop_eq_getElem_cons->M4,drop_of_length_le->R3,length_nil->WA
open Nat renaming and_two_pow_sub_one_eq_mod->tL,pow_le_pow_right->Av,zero_le->E8,add_sub_cancel->KG,le_refl->SF,add_assoc->WJ,add_zero->ZH,le_trans->qa0
open UInt8 renaming toNat->Ui
open Go.World renaming block_lt_of_cell?->tT
set_option maxHeartbeats 1000000
set_option maxRecDepth 100000
namespace Go.Proofs.YtphbledmopchnaaGreatDoor
open Go.RowKit Go.Lib Go.Shelf Mm Tryz
structure dY (w:World) (rb yb yo cap:Nat) (body:List UInt8) (p bg:Nat):Prop where
 blk:aA w rb 257 [.slice (some (aj yb yo)) body.length cap,iZ p,iZ bg]
 bts:BytesAt w (some (aj yb yo)) body
 le:p<=body.length
 room:body.length<cap
 cap:cap<=9223372036854775807
 ne:rb≠yb
structure dL (rb:Nat) (w w':World):Prop where
 os:w'.os=w.os
 tape:w'.tape=w.tape
 output:w'.output=w.output
 size:w'.heap.size=w.heap.size
 block:∀k,k≠rb->w'.heap[k]?=w.heap[k]?
theorem dL.refl(rb:Nat)(w:World):dL rb w w:=⟨rfl,rfl,rfl,rfl,fun _ _=>rfl⟩
theorem dL.trans{rb:Nat}{a b c:World}(h:dL rb a b)(k:dL rb b c):dL rb a c:=
 ⟨k.os.trans h.os,k.tape.trans h.tape,k.output.trans h.output,k.size.trans h.size,fun i hi=>(k.block i hi).trans (h.block i hi)⟩
theorem dL.set(rb o q:Nat)(v:Value)(w:World):dL rb w ((w.setCell (aj rb o) v).drewN q):=
 ⟨rfl,rfl,rfl,by simp,fun k F=>fB _ _ _ _ F⟩
theorem BytesAt.of{w w':World}{a:Option Addr}{l:List UInt8}(h:BytesAt w a l)(e:∀x:Addr,a=some x->w'.heap[x.block]?=w.heap[x.block]?):BytesAt w' a l:=fun j H=>by
 obtain⟨b,off,F,G⟩:=h j H;exact⟨b,off,F,cell_of G (e (aj b off) F)⟩
theorem dY.set{w:World}{rb yb yo cap:Nat}{body:List UInt8}{p bg:Nat}(h:dY w rb yb yo cap body p bg)(F q:Nat)(hp:F<=body.length):dY ((w.setCell (aj rb 1) (iZ F)).drewN q) rb yb yo cap body F bg:=
 ⟨(h.blk.setCell 1 _).of_heap rfl,h.bts.of (fun x G=>by simp at G;subst G;exact fB _ _ _ _ (Ne.symm h.ne)),hp,h.room,h.cap,h.ne⟩
theorem dY.of{w w':World}{rb yb yo cap:Nat}{body:List UInt8}{p bg:Nat}(h:dY w rb yb yo cap body p bg)(G:w'.heap[rb]?=w.heap[rb]?)(H:w'.heap[yb]?=w.heap[yb]?):dY w' rb yb yo cap body p bg:=
 ⟨h.blk.of_heap G,h.bts.of (fun x F=>by simp at F;subst F;exact H),h.le,h.room,h.cap,h.ne⟩
theorem dY.drewN{w:World}{rb yb yo cap:Nat}{body:List UInt8}{p bg:Nat}(h:dY w rb yb yo cap body p bg)(q:Nat):dY (w.drewN q) rb yb yo cap body p bg:=h.of rfl rfl
theorem dL.drewN(rb q:Nat)(w:World):dL rb w (w.drewN q):=⟨rfl,rfl,rfl,rfl,fun _ _=>rfl⟩
theorem dY.byte{w:World}{rb yb yo cap:Nat}{body:List UInt8}{p bg:Nat}(h:dY w rb yb yo cap body p bg)(j:Nat)(H:j<body.length):w.cell? (aj yb (yo+j))=some (.int .u8 ((body[j].toNat:Nat):Int)):=by
 obtain⟨b,off,F,G⟩:=h.bts j H;simp at F;obtain⟨rfl,rfl⟩:=F;exact G
theorem mM(rb yb yo cap:Nat)(body:List UInt8)(p bg n:Nat)(w:World)(h:dY w rb yb yo cap body p bg)(O:p+n<=body.length):
  Calls prog 214 #[ay rb 0,uZ n] w fun e w'=>e=.returned (.slice (some (aj yb (yo+p))) n (cap-p))/\dY w' rb yb yo cap body (p+n) bg/\dL rb w w':=by
 have x0:w.cell? (aj rb 0)=some (.slice (some (aj yb yo)) body.length cap):=h.blk.cell 0;have x1:w.cell? (aj rb 1)=some (iZ p):=h.blk.cell 1;have z1:=h.blk.frozen 1;have F:=h.room;have H:=h.cap
 have Z:(body.length:Int)-(p:Int)=((body.length-p:Nat):Int):=by omega
 have e2:¬(body.length-p<n):=by omega
 have e3:(p:Int)+(n:Int)=((p+n:Nat):Int):=by omega
 have g1:((body.length-p:Nat):Int)<9223372036854775808:=by omega
 have g2:(n:Int)<9223372036854775808:=by omega
 have g3:((p+n:Nat):Int)<9223372036854775808:=by omega
 have g4:(p:Int)<=((p+n:Nat):Int):=by omega
 have g5:((p+n:Nat):Int)<=(cap:Int):=by omega
 have g6:¬(cap=p):=by omega
 have g7:(p+n)-p=n:=by omega
 have K:=au (fun U V=>(h.drewN U).set (p+n) V O);clear h;generalize I:p+n=m at *;generalize G:body.length=N at *;generalize hd:N-p=d at *;have X:=au (And.intro I (And.intro G hd));clear I G hd;go_enter func214,ntmps214
 go_wp2_with fail
 go_quiet (fail)
 go_wp2_with fail
 go_quiet (fail)
 go_wp2;go_ret;exact⟨rfl,K.out _ _,(dL.drewN rb _ w).trans (dL.set rb 1 _ _ _)⟩
theorem mO(rb yb yo cap:Nat)(body:List UInt8)(p bg:Nat)(w:World)(h:dY w rb yb yo cap body p bg)(hp:p<body.length):
  Calls prog 213 #[ay rb 0] w fun e w'=>e=.returned (.int .u8 ((body[p].toNat:Nat):Int))/\dY w' rb yb yo cap body (p+1) bg/\dL rb w w':=by
 have O:=au (mM rb yb yo cap body p bg 1 w h (by omega));have G:=au (fun w' (h':dY w' rb yb yo cap body (p+1) bg)=>h'.byte p hp);clear h;generalize body[p].toNat=X at G;go_enter func213,ntmps213
 go_wp2_with fail
 refine O.out.mono ?_;rintro e w1 ⟨rfl,F,H⟩;have c0:=G.out w1 F;have I:=au F;have K:=au H;clear F H;go_wp2;go_ret;exact⟨rfl,I.out,K.out⟩
theorem Bg(rb yb yo cap:Nat)(body:List UInt8)(p bg:Nat)(w:World)(h:dY w rb yb yo cap body p bg):
  Calls prog 162 #[ay rb 0] w fun e w'=>e=.returned (.bool (decide (p=body.length)))/\∃q,w'=w.drewN q:=by
 have G:w.cell? (aj rb 0)=some (.slice (some (aj yb yo)) body.length cap):=h.blk.cell 0;have x1:w.cell? (aj rb 1)=some (iZ p):=h.blk.cell 1
 have F:Hid (((p:Int)==(body.length:Int))=decide (p=body.length)):=by
  unfold Hid;rw[Bool.eq_iff_iff,beq_iff_eq,decide_eq_true_iff];omega
 clear h;go_enter func162,ntmps162
 go_wp2_with fail
 go_quiet (fail)
 go_wp2;go_ret;exact⟨aV F.out,nq,rfl⟩
theorem yC(r:Value)(n F:Nat)(w:World)(h:F<=n)(K:n<18446744073709551616):
  Calls prog 346 #[r,uZ n,uZ F] w fun e w'=>e=.returned (uZ ((n-F:Nat):Int))/\w'=w:=by
 have G:¬((n:Int)<(F:Int)):=by omega
 have H:(n:Int)-(F:Int)=((n-F:Nat):Int):=by omega
 have I:((n-F:Nat):Int)<18446744073709551616:=by omega
 generalize n-F=d at *;go_enter func346,ntmps346;go_wp2;go_ret;exact⟨rfl,rfl⟩
theorem CB(T X:Nat)(G:T<72057594037927936)(F:X<256):bits .or .u64 ((T:Int)*256) (X:Int)=((T*256+X:Nat):Int):=by
 have h:=u64_or_nat (T*256) X (by omega) (by omega);rw[Nat.or_comm,uy X T 8 F,Nat.add_comm]at h;rw[<-h];simp
theorem sW(l:List UInt8)(a k:Nat)(h:k<l.length):Num.val a (l.take (k+1))=Num.val a (l.take k)*256+(l[k]).toNat:=by
 rw[Kt h,DY]
theorem Pt(rb yb yo cap:Nat)(body:List UInt8)(p bg:Nat)(w:World)(h:dY w rb yb yo cap body p bg)(hp:p+1<=body.length)(hc:(body[p]'(by omega)).toNat / 64=0):
  Calls prog 161 #[ay rb 0] w fun e w'=>e=.returned (uZ ((Num.val ((body[p]'(by omega)).toNat % 64) ((body.drop (p+1)).take 0):Nat):Int))/\dY w' rb yb yo cap body (p+1) bg/\dL rb w w':=by
 have qB:=au (mO rb yb yo cap body p bg w h (by omega));have J8:=au (fun w' (h':dY w' rb yb yo cap body (p+1) bg)=>mM rb yb yo cap body (p+1) bg 0 w' h' (by omega));have Ac:=au (fun w' (h':dY w' rb yb yo cap body (p+1+0) bg) j (hj:j<0)=>h'.byte (p+1+j) (by omega));have hX:=Crc.jU (body[p]'(by omega));generalize (body[p]'(by omega)).toNat=X at *
 have e1:bits .and .u8 (X:Int) 63=((X % 64:Nat):Int):=by
  have ha:X&&& 63=X % 64:=tL X 6;rw[<-ha];exact u8_and_nat X 63 (by omega) (by omega)
 have e2:(X:Int) / 64=0:=by omega
 have e3:((X % 64:Nat):Int)<64:=by omega
 obtain⟨F,G⟩:∃F,F=(body.drop (p+1)).take 0:=⟨_,rfl⟩
 have h0:F.length=0:=by rw[G,He,nI];omega
 have h5:Hid (∀j (hj:j<0),∃x T:Nat,x<256/\body[p+1+j]?.map Ui=some x/\T=Num.val (X % 64) (F.take j)/\T<72057594037927936/\Num.val (X % 64) (F.take (j+1))=T*256+x):=fun j hj=>by
  refine⟨(F[j]'(by omega)).toNat,_,Crc.jU _,?_,rfl,?_,sW F _ j (by omega)⟩
  ·have:F[j]?=body[p+1+j]?:=by rw[G,DT,if_pos hj,uj]
   rw[<-this,fA (by omega)];rfl
  ·have:=uI (F.take j) (X % 64) 1 (by omega)
   have hl:(F.take j).length=j:=by simp;omega
   rw[hl]at this;have h7:(256:Nat) ^ (1+j)<=256 ^ 7:=Av (by decide) (by omega);omega
 have HV:Hid (Num.val (X % 64) (F.take 0)=Num.val (X % 64) F):=by unfold Hid;rw[wz (by omega)]
 have h8:Hid (Num.val (X % 64) (F.take 0)=X % 64):=rfl;rw[<-G];clear hc h G h0;generalize X % 64=h9 at *;go_enter func161,ntmps161
 go_wp2_with fail
 refine qB.out.mono ?_;rintro e w1 ⟨rfl,uh,O⟩;have h6:=au (J8.out w1 uh);have rW:=au O;clear uh O
 go_wp2_with fail
 refine h6.out.mono ?_;rintro e w2 ⟨rfl,H,U⟩;have h3:=au H;have h4:=au (rW.out.trans U);have Iq:=au (Ac.out w2 H);clear H U
 go_wp2_with fail
 go_loopw [4,19] (fun s4 CF wr=>∃k:Nat,k<=0/\CF=(iZ k)/\s4=(uZ (Num.val h9 (F.take k):Nat))/\wr=w2) (fun _ CF _=>0-(intOf CF).toNat)
 case atStart=>exact⟨0,E8 _,rfl,by rw[h8.out],rfl⟩
 case round=>
  obtain⟨k,hk,rfl,rfl,rfl⟩:=hrel
  by_cases h2:k<0
  ·have hg:(k:Int)<0:=by omega
   obtain⟨x,T,hx,I,hT,he,K⟩:=h5.out k h2;have hf:=Iq.out k h2
   have Z:((body[p+1+k]'(by omega)).toNat:Nat)=x:=by
    rw[fA (by omega)]at I;simpa using I
   rw[Z,show yo+(p+1+k)=yo+(p+1)+k by omega]at hf;have e5:=CB T x he hx;obtain⟨T',V⟩:∃T',T'=T*256+x:=⟨_,rfl⟩;rw[<-V]at e5 K;rw[<-hT];have HS:=au K;clear K V Z I hT
   go_wp2_with fail
   go_roundw
   case rel=>exact⟨k+1,by omega,by go_num,by rw[HS.out],trivial⟩
   case measure=>simp[intOf];omega
  ·obtain rfl:k=0:=by omega
   rw[HV.out];go_wp2;go_ret;exact⟨rfl,h3.out,h4.out⟩
theorem Pv(rb yb yo cap:Nat)(body:List UInt8)(p bg:Nat)(w:World)(h:dY w rb yb yo cap body p bg)(hp:p+2<=body.length)(hc:(body[p]'(by omega)).toNat / 64=1):
  Calls prog 161 #[ay rb 0] w fun e w'=>e=.returned (uZ ((Num.val ((body[p]'(by omega)).toNat % 64) ((body.drop (p+1)).take 1):Nat):Int))/\dY w' rb yb yo cap body (p+2) bg/\dL rb w w':=by
 have qB:=au (mO rb yb yo cap body p bg w h (by omega));have J8:=au (fun w' (h':dY w' rb yb yo cap body (p+1) bg)=>mM rb yb yo cap body (p+1) bg 1 w' h' (by omega));have Ac:=au (fun w' (h':dY w' rb yb yo cap body (p+1+1) bg) j (hj:j<1)=>h'.byte (p+1+j) (by omega));have hX:=Crc.jU (body[p]'(by omega));generalize (body[p]'(by omega)).toNat=X at *
 have e1:bits .and .u8 (X:Int) 63=((X % 64:Nat):Int):=by
  have ha:X&&& 63=X % 64:=tL X 6;rw[<-ha];exact u8_and_nat X 63 (by omega) (by omega)
 have e2:(X:Int) / 64=1:=by omega
 have e3:((X % 64:Nat):Int)<64:=by omega
 obtain⟨F,G⟩:∃F,F=(body.drop (p+1)).take 1:=⟨_,rfl⟩
 have h0:F.length=1:=by rw[G,He,nI];omega
 have h5:Hid (∀j (hj:j<1),∃x T:Nat,x<256/\body[p+1+j]?.map Ui=some x/\T=Num.val (X % 64) (F.take j)/\T<72057594037927936/\Num.val (X % 64) (F.take (j+1))=T*256+x):=fun j hj=>by
  refine⟨(F[j]'(by omega)).toNat,_,Crc.jU _,?_,rfl,?_,sW F _ j (by omega)⟩
  ·have:F[j]?=body[p+1+j]?:=by rw[G,DT,if_pos hj,uj]
   rw[<-this,fA (by omega)];rfl
  ·have:=uI (F.take j) (X % 64) 1 (by omega)
   have hl:(F.take j).length=j:=by simp;omega
   rw[hl]at this;have h7:(256:Nat) ^ (1+j)<=256 ^ 7:=Av (by decide) (by omega);omega
 have HV:Hid (Num.val (X % 64) (F.take 1)=Num.val (X % 64) F):=by unfold Hid;rw[wz (by omega)]
 have h8:Hid (Num.val (X % 64) (F.take 0)=X % 64):=rfl;rw[<-G];clear hc h G h0;generalize X % 64=h9 at *;go_enter func161,ntmps161
 go_wp2_with fail
 refine qB.out.mono ?_;rintro e w1 ⟨rfl,uh,O⟩;have h6:=au (J8.out w1 uh);have rW:=au O;clear uh O
 go_wp2_with fail
 refine h6.out.mono ?_;rintro e w2 ⟨rfl,H,U⟩;have h3:=au H;have h4:=au (rW.out.trans U);have Iq:=au (Ac.out w2 H);clear H U
 go_wp2_with fail
 go_loopw [4,19] (fun s4 CF wr=>∃k:Nat,k<=1/\CF=(iZ k)/\s4=(uZ (Num.val h9 (F.take k):Nat))/\wr=w2) (fun _ CF _=>1-(intOf CF).toNat)
 case atStart=>exact⟨0,E8 _,rfl,by rw[h8.out],rfl⟩
 case round=>
  obtain⟨k,hk,rfl,rfl,rfl⟩:=hrel
  by_cases h2:k<1
  ·have hg:(k:Int)<1:=by omega
   obtain⟨x,T,hx,I,hT,he,K⟩:=h5.out k h2;have hf:=Iq.out k h2
   have Z:((body[p+1+k]'(by omega)).toNat:Nat)=x:=by
    rw[fA (by omega)]at I;simpa using I
   rw[Z,show yo+(p+1+k)=yo+(p+1)+k by omega]at hf;have e5:=CB T x he hx;obtain⟨T',V⟩:∃T',T'=T*256+x:=⟨_,rfl⟩;rw[<-V]at e5 K;rw[<-hT];have HS:=au K;clear K V Z I hT
   go_wp2_with fail
   go_roundw
   case rel=>exact⟨k+1,by omega,by go_num,by rw[HS.out],trivial⟩
   case measure=>simp[intOf];omega
  ·obtain rfl:k=1:=by omega
   rw[HV.out];go_wp2;go_ret;exact⟨rfl,h3.out,h4.out⟩
theorem Pw(rb yb yo cap:Nat)(body:List UInt8)(p bg:Nat)(w:World)(h:dY w rb yb yo cap body p bg)(hp:p+4<=body.length)(hc:(body[p]'(by omega)).toNat / 64=2):
  Calls prog 161 #[ay rb 0] w fun e w'=>e=.returned (uZ ((Num.val ((body[p]'(by omega)).toNat % 64) ((body.drop (p+1)).take 3):Nat):Int))/\dY w' rb yb yo cap body (p+4) bg/\dL rb w w':=by
 have qB:=au (mO rb yb yo cap body p bg w h (by omega));have J8:=au (fun w' (h':dY w' rb yb yo cap body (p+1) bg)=>mM rb yb yo cap body (p+1) bg 3 w' h' (by omega));have Ac:=au (fun w' (h':dY w' rb yb yo cap body (p+1+3) bg) j (hj:j<3)=>h'.byte (p+1+j) (by omega));have hX:=Crc.jU (body[p]'(by omega));generalize (body[p]'(by omega)).toNat=X at *
 have e1:bits .and .u8 (X:Int) 63=((X % 64:Nat):Int):=by
  have ha:X&&& 63=X % 64:=tL X 6;rw[<-ha];exact u8_and_nat X 63 (by omega) (by omega)
 have e2:(X:Int) / 64=2:=by omega
 have e3:((X % 64:Nat):Int)<64:=by omega
 obtain⟨F,G⟩:∃F,F=(body.drop (p+1)).take 3:=⟨_,rfl⟩
 have h0:F.length=3:=by rw[G,He,nI];omega
 have h5:Hid (∀j (hj:j<3),∃x T:Nat,x<256/\body[p+1+j]?.map Ui=some x/\T=Num.val (X % 64) (F.take j)/\T<72057594037927936/\Num.val (X % 64) (F.take (j+1))=T*256+x):=fun j hj=>by
  refine⟨(F[j]'(by omega)).toNat,_,Crc.jU _,?_,rfl,?_,sW F _ j (by omega)⟩
  ·have:F[j]?=body[p+1+j]?:=by rw[G,DT,if_pos hj,uj]
   rw[<-this,fA (by omega)];rfl
  ·have:=uI (F.take j) (X % 64) 1 (by omega)
   have hl:(F.take j).length=j:=by simp;omega
   rw[hl]at this;have h7:(256:Nat) ^ (1+j)<=256 ^ 7:=Av (by decide) (by omega);omega
 have HV:Hid (Num.val (X % 64) (F.take 3)=Num.val (X % 64) F):=by unfold Hid;rw[wz (by omega)]
 have h8:Hid (Num.val (X % 64) (F.take 0)=X % 64):=rfl;rw[<-G];clear hc h G h0;generalize X % 64=h9 at *;go_enter func161,ntmps161
 go_wp2_with fail
 refine qB.out.mono ?_;rintro e w1 ⟨rfl,uh,O⟩;have h6:=au (J8.out w1 uh);have rW:=au O;clear uh O
 go_wp2_with fail
 refine h6.out.mono ?_;rintro e w2 ⟨rfl,H,U⟩;have h3:=au H;have h4:=au (rW.out.trans U);have Iq:=au (Ac.out w2 H);clear H U
 go_wp2_with fail
 go_loopw [4,19] (fun s4 CF wr=>∃k:Nat,k<=3/\CF=(iZ k)/\s4=(uZ (Num.val h9 (F.take k):Nat))/\wr=w2) (fun _ CF _=>3-(intOf CF).toNat)
 case atStart=>exact⟨0,E8 _,rfl,by rw[h8.out],rfl⟩
 case round=>
  obtain⟨k,hk,rfl,rfl,rfl⟩:=hrel
  by_cases h2:k<3
  ·have hg:(k:Int)<3:=by omega
   obtain⟨x,T,hx,I,hT,he,K⟩:=h5.out k h2;have hf:=Iq.out k h2
   have Z:((body[p+1+k]'(by omega)).toNat:Nat)=x:=by
    rw[fA (by omega)]at I;simpa using I
   rw[Z,show yo+(p+1+k)=yo+(p+1)+k by omega]at hf;have e5:=CB T x he hx;obtain⟨T',V⟩:∃T',T'=T*256+x:=⟨_,rfl⟩;rw[<-V]at e5 K;rw[<-hT];have HS:=au K;clear K V Z I hT
   go_wp2_with fail
   go_roundw
   case rel=>exact⟨k+1,by omega,by go_num,by rw[HS.out],trivial⟩
   case measure=>simp[intOf];omega
  ·obtain rfl:k=3:=by omega
   rw[HV.out];go_wp2;go_ret;exact⟨rfl,h3.out,h4.out⟩
theorem Px(rb yb yo cap:Nat)(body:List UInt8)(p bg:Nat)(w:World)(h:dY w rb yb yo cap body p bg)(hp:p+8<=body.length)(hc:(body[p]'(by omega)).toNat / 64=3):
  Calls prog 161 #[ay rb 0] w fun e w'=>e=.returned (uZ ((Num.val ((body[p]'(by omega)).toNat % 64) ((body.drop (p+1)).take 7):Nat):Int))/\dY w' rb yb yo cap body (p+8) bg/\dL rb w w':=by
 have qB:=au (mO rb yb yo cap body p bg w h (by omega));have J8:=au (fun w' (h':dY w' rb yb yo cap body (p+1) bg)=>mM rb yb yo cap body (p+1) bg 7 w' h' (by omega));have Ac:=au (fun w' (h':dY w' rb yb yo cap body (p+1+7) bg) j (hj:j<7)=>h'.byte (p+1+j) (by omega));have hX:=Crc.jU (body[p]'(by omega));generalize (body[p]'(by omega)).toNat=X at *
 have e1:bits .and .u8 (X:Int) 63=((X % 64:Nat):Int):=by
  have ha:X&&& 63=X % 64:=tL X 6;rw[<-ha];exact u8_and_nat X 63 (by omega) (by omega)
 have e2:(X:Int) / 64=3:=by omega
 have e3:((X % 64:Nat):Int)<64:=by omega
 obtain⟨F,G⟩:∃F,F=(body.drop (p+1)).take 7:=⟨_,rfl⟩
 have h0:F.length=7:=by rw[G,He,nI];omega
 have h5:Hid (∀j (hj:j<7),∃x T:Nat,x<256/\body[p+1+j]?.map Ui=some x/\T=Num.val (X % 64) (F.take j)/\T<72057594037927936/\Num.val (X % 64) (F.take (j+1))=T*256+x):=fun j hj=>by
  refine⟨(F[j]'(by omega)).toNat,_,Crc.jU _,?_,rfl,?_,sW F _ j (by omega)⟩
  ·have:F[j]?=body[p+1+j]?:=by rw[G,DT,if_pos hj,uj]
   rw[<-this,fA (by omega)];rfl
  ·have:=uI (F.take j) (X % 64) 1 (by omega)
   have hl:(F.take j).length=j:=by simp;omega
   rw[hl]at this;have h7:(256:Nat) ^ (1+j)<=256 ^ 7:=Av (by decide) (by omega);omega
 have HV:Hid (Num.val (X % 64) (F.take 7)=Num.val (X % 64) F):=by unfold Hid;rw[wz (by omega)]
 have h8:Hid (Num.val (X % 64) (F.take 0)=X % 64):=rfl;rw[<-G];clear hc h G h0;generalize X % 64=h9 at *;go_enter func161,ntmps161
 go_wp2_with fail
 refine qB.out.mono ?_;rintro e w1 ⟨rfl,uh,O⟩;have h6:=au (J8.out w1 uh);have rW:=au O;clear uh O
 go_wp2_with fail
 refine h6.out.mono ?_;rintro e w2 ⟨rfl,H,U⟩;have h3:=au H;have h4:=au (rW.out.trans U);have Iq:=au (Ac.out w2 H);clear H U
 go_wp2_with fail
 go_loopw [4,19] (fun s4 CF wr=>∃k:Nat,k<=7/\CF=(iZ k)/\s4=(uZ (Num.val h9 (F.take k):Nat))/\wr=w2) (fun _ CF _=>7-(intOf CF).toNat)
 case atStart=>exact⟨0,E8 _,rfl,by rw[h8.out],rfl⟩
 case round=>
  obtain⟨k,hk,rfl,rfl,rfl⟩:=hrel
  by_cases h2:k<7
  ·have hg:(k:Int)<7:=by omega
   obtain⟨x,T,hx,I,hT,he,K⟩:=h5.out k h2;have hf:=Iq.out k h2
   have Z:((body[p+1+k]'(by omega)).toNat:Nat)=x:=by
    rw[fA (by omega)]at I;simpa using I
   rw[Z,show yo+(p+1+k)=yo+(p+1)+k by omega]at hf;have e5:=CB T x he hx;obtain⟨T',V⟩:∃T',T'=T*256+x:=⟨_,rfl⟩;rw[<-V]at e5 K;rw[<-hT];have HS:=au K;clear K V Z I hT
   go_wp2_with fail
   go_roundw
   case rel=>exact⟨k+1,by omega,by go_num,by rw[HS.out],trivial⟩
   case measure=>simp[intOf];omega
  ·obtain rfl:k=7:=by omega
   rw[HV.out];go_wp2;go_ret;exact⟨rfl,h3.out,h4.out⟩
theorem fH(rb yb yo cap:Nat)(body:List UInt8)(p bg n:Nat)(rest:List UInt8)(w:World)(h:dY w rb yb yo cap body p bg)(hn:n<4611686018427387904)(hb:body.drop p=Num.bytes n++rest):
  Calls prog 161 #[ay rb 0] w fun e w'=>e=.returned (uZ n)/\dY w' rb yb yo cap body (p+(Num.bytes n).length) bg/\dL rb w w':=by
 have G:=Num.GJ n hn rest;rw[<-hb]at G
 have Z:0<(Num.bytes n).length:=by rw[Num.eH];exact Nat.pow_pos (by decide)
 have h2:(body.drop p).length=(Num.bytes n).length+rest.length:=by rw[hb,mR]
 have h3:(body.drop p).length=body.length-p:=nI
 have hp:p<body.length:=by omega
 have hd:body.drop p=body[p]::body.drop (p+1):=M4 hp;rw[hd,Num.Ao]at G;have h0:(body.drop (p+1)).length=body.length-(p+1):=nI;generalize F:(body[p]).toNat=X at G;have V:=Crc.jU body[p];rw[F]at V
 by_cases hs:(body.drop (p+1)).length<2 ^ (X / 64)-1
 ·rw[if_pos hs]at G;cases G
 ·rw[if_neg hs]at G;simp only[Option.some.injEq,Prod.mk.injEq]at G;obtain⟨H,I⟩:=G
  have K:((body.drop (p+1)).drop (2 ^ (X / 64)-1)).length=rest.length:=by rw[I]
  rw[nI]at K
  have U:X / 64=0\/X / 64=1\/X / 64=2\/X / 64=3:=by omega
  have O:(Num.bytes n).length=2 ^ (X / 64):=by
   rcases U with e|e|e|e<;>rw[e]at hs K ⊢<;>simp at hs K ⊢<;>omega
  rw[O]
  rcases U with e|e|e|e
  ·rw[e]at H O ⊢;have:=Pt rb yb yo cap body p bg w h (by omega) (by rw[F];exact e);rw[F,H]at this;exact this
  ·rw[e]at H O ⊢;have:=Pv rb yb yo cap body p bg w h (by omega) (by rw[F];exact e);rw[F,H]at this;exact this
  ·rw[e]at H O ⊢;have:=Pw rb yb yo cap body p bg w h (by omega) (by rw[F];exact e);rw[F,H]at this;exact this
  ·rw[e]at H O ⊢;have:=Px rb yb yo cap body p bg w h (by omega) (by rw[F];exact e);rw[F,H]at this;exact this
structure RP (B0 B1 rb fb yb yo cap:Nat) (body:List UInt8) (w:World) (p bg:Nat) (cur:Fr) (v9:Value):Prop where
 rd:dY w rb yb yo cap body p bg
 oI:aA w fb 65 (fu cur v9)
 rng:bK 170 2 w v9 cur.ranges.length (aL cur.ranges)
 own:Own B1 v9
 h01:B0<=B1
 hB:B1<=w.heap.size
 rbl:rb<B0
 fbl:fb<B0
 ybl:yb<B0
 rf:rb≠fb
 fy:fb≠yb
structure qg (B1 rb fb:Nat) (w w':World):Prop where
 os:w'.os=w.os
 tape:w'.tape=w.tape
 output:w'.output=w.output
 size:w.heap.size<=w'.heap.size
 block:∀k,k<B1->k≠rb->k≠fb->w'.heap[k]?=w.heap[k]?
theorem qg.refl(B1 rb fb:Nat)(w:World):qg B1 rb fb w w:=⟨rfl,rfl,rfl,SF _,fun _ _ _ _=>rfl⟩
theorem qg.trans{B1 rb fb:Nat}{a b c:World}(h:qg B1 rb fb a b)(k:qg B1 rb fb b c):qg B1 rb fb a c:=
 ⟨k.os.trans h.os,k.tape.trans h.tape,k.output.trans h.output,qa0 h.size k.size,fun i F h1 G=>(k.block i F h1 G).trans (h.block i F h1 G)⟩
theorem dL.two{rb:Nat}{w w':World}(h:dL rb w w')(B1 fb:Nat):qg B1 rb fb w w':=⟨h.os,h.tape,h.output,Nat.le_of_eq h.size.symm,fun k _ h1 _=>h.block k h1⟩
theorem qg.yD(B1 rb fb o:Nat)(v:Value)(w:World):qg B1 rb fb w (w.setCell (aj fb o) v):=⟨rfl,rfl,rfl,by simp,fun k _ _ h=>fB _ _ _ _ h⟩
theorem qg.keep{B0 B1 rb fb:Nat}{w1 w w':World}(h:qg B1 rb fb w w')(F:Keep B0 B1 w1 w)(I:rb<B0)(H:fb<B0):Keep B0 B1 w1 w':=
 ⟨qa0 F.1 h.size,fun k G h1=>(h.block k h1 (by omega) (by omega)).trans (F.2 k G h1)⟩
theorem RP.step{B0 B1 rb fb yb yo cap:Nat}{body:List UInt8}{w w':World}{p F bg:Nat}{cur:Fr}{v9:Value}(h:RP B0 B1 rb fb yb yo cap body w p bg cur v9)(G:dY w' rb yb yo cap body F bg)(hs:dL rb w w'):RP B0 B1 rb fb yb yo cap body w' F bg cur v9:=
 ⟨G,h.oI.of_heap (hs.block _ (Ne.symm h.rf)),h.rng.of_heap (fun b hb=>hs.block b (by have:=h.own b hb;have:=h.rbl;have:=h.h01;omega)),h.own,h.h01,by rw[hs.size];exact h.hB,h.rbl,h.fbl,h.ybl,h.rf,h.fy⟩
theorem RP.yD{B0 B1 rb fb yb yo cap:Nat}{body:List UInt8}{w:World}{p bg:Nat}{cur cur':Fr}{v9:Value}(h:RP B0 B1 rb fb yb yo cap body w p bg cur v9)(o:Nat)(x:Value)(F:(fu cur v9).set o x=fu cur' v9)(G:cur'.ranges=cur.ranges):RP B0 B1 rb fb yb yo cap body (w.setCell (aj fb o) x) p bg cur' v9:=
 ⟨h.rd.of (fB _ _ _ _ h.rf) (fB _ _ _ _ (Ne.symm h.fy)),by rw[<-F];exact h.oI.setCell o x,by rw[G];exact h.rng.of_heap (fun b hb=>fB _ _ _ _ (by have:=h.own b hb;have:=h.fbl;have:=h.h01;simp;omega)),h.own,h.h01,by simp;exact h.hB,h.rbl,h.fbl,h.ybl,h.rf,h.fy⟩
def eT(f:Fr)(F:Nat×Nat)(cur:Fr):Fr:=
 if F.1=0 then cur else if F.1=1 then{cur with fin:=f.fin}else if F.1=2 then{cur with stream:=f.stream}
 else if F.1=3 then(if F.2=279 then{cur with offset:=f.offset}else if F.2=280 then{cur with reliable:=f.reliable}else if F.2=283 then{cur with limit:=f.limit}else if F.2=284 then{cur with id:=f.id}else{cur with deadline:=f.deadline})
 else if F.1=4 then{cur with data:=f.data}else{cur with ranges:=f.ranges}
def Rd(B0 B1:Nat)(w1:World)(fv:Value)(sp:List UInt8)(upd:Fr->Fr)(rb fb yb yo cap:Nat)(body:List UInt8)(bg:Nat):Prop:=
 ∃g cb,fv=.func (.func g) #[] cb/\(∀args w,(callFunc g args).run prog w=.ok (.enter g args) w)/\
  ∀w p cur v9 rest,Keep B0 B1 w1 w->RP B0 B1 rb fb yb yo cap body w p bg cur v9->cur.ranges=[]->body.drop p=sp++rest->
   Calls prog g (#[ay rb 0,ay fb 0]++cb) w fun e w'=>e=.returned (.tuple #[])/\∃F,RP B0 B1 rb fb yb yo cap body w' (p+sp.length) bg (upd cur) F/\qg B1 rb fb w w'
theorem drop_byte{body rest:List UInt8}{p:Nat}{x:UInt8}(h:body.drop p=[x]++rest):∃hp:p<body.length,body[p]=x:=by
 have hl:(body.drop p).length=1+rest.length:=by rw[h];simp;omega
 rw[nI]at hl
 have hp:p<body.length:=by omega
 refine⟨hp,?_⟩;rw[M4 hp]at h;exact(List.cons.inj h).1
theorem ig{body a b:List UInt8}{p:Nat}(h:body.drop p=a++b):body.drop (p+a.length)=b:=by
 rw[<-List.drop_drop,h,Aw];rfl
theorem Py{B0 B1:Nat}{w1:World}(x:UInt8)(rb fb yb yo cap:Nat)(body:List UInt8)(bg:Nat):
  Rd B0 B1 w1 (.func (.func 322) #[] #[]) [x] (fun cur=>cur) rb fb yb yo cap body bg:=by
 refine⟨322,_,rfl,enters_of func322 (by kernel_rfl) rfl,fun w p cur v9 rest _ F _ hb=>?_⟩;obtain⟨hp,U⟩:=drop_byte hb;have I:=au (mO rb yb yo cap body p bg w F.rd hp);have O:=au F;clear F hb;go_enter func322,ntmps322
 go_wp2_with fail
 refine I.out.mono ?_;rintro e w2 ⟨rfl,H,G⟩;have K:=au (And.intro (O.out.step H G) (G.two B1 fb));clear H G;go_wp2;go_end0;exact⟨rfl,v9,K.out⟩
theorem CG{B0 B1:Nat}{w1:World}(fin:Bool)(rb fb yb yo cap:Nat)(body:List UInt8)(bg:Nat):
  Rd B0 B1 w1 (.func (.func 332) #[] #[]) [if fin then 9 else 8] (fun cur=>{cur with fin:=fin}) rb fb yb yo cap body bg:=by
 refine⟨332,_,rfl,enters_of func332 (by kernel_rfl) rfl,fun w p cur v9 rest _ O _ hb=>?_⟩;obtain⟨hp,V⟩:=drop_byte hb;have I:=au (mO rb yb yo cap body p bg w O.rd hp);rw[V]at I;have U:=au O;clear O hb V;cases fin
 ·go_enter func332,ntmps332
  go_wp2_with fail
  refine I.out.mono ?_;rintro e w2 ⟨rfl,H,G⟩;have F:=U.out.step H G;have X:w2.cell? (aj fb 5)=some (.bool cur.fin):=F.oI.cell 5;have Z:=F.oI.frozen 5;have K:=au (And.intro (F.yD 5 (.bool false) (cur':={cur with fin:=false}) rfl rfl) ((G.two B1 fb).trans (qg.yD B1 rb fb 5 (.bool false) w2)));clear H G F;go_wp2;go_end0;exact⟨rfl,v9,K.out⟩
 ·go_enter func332,ntmps332
  go_wp2_with fail
  refine I.out.mono ?_;rintro e w2 ⟨rfl,H,G⟩;have F:=U.out.step H G;have X:w2.cell? (aj fb 5)=some (.bool cur.fin):=F.oI.cell 5;have Z:=F.oI.frozen 5;have K:=au (And.intro (F.yD 5 (.bool true) (cur':={cur with fin:=true}) rfl rfl) ((G.two B1 fb).trans (qg.yD B1 rb fb 5 (.bool true) w2)));clear H G F;go_wp2;go_end0;exact⟨rfl,v9,K.out⟩
theorem L6{B0 B1:Nat}{w1:World}(s:Int)(G:0<=s)(K:s<8)(rb fb yb yo cap:Nat)(body:List UInt8)(bg:Nat):
  Rd B0 B1 w1 (.func (.func 328) #[] #[]) (Num.bytes s.toNat) (fun cur=>{cur with stream:=s}) rb fb yb yo cap body bg:=by
 refine⟨328,_,rfl,enters_of func328 (by kernel_rfl) rfl,fun w p cur v9 rest _ H _ hb=>?_⟩;obtain⟨n,rfl⟩:=Int.eq_ofNat_of_zero_le G;rw[Int.toNat_natCast]at hb ⊢;have U:=au (fH rb yb yo cap body p bg n rest w H.rd (by omega) hb);have X:=au H
 have Z:¬((8:Int)<=(n:Int)):=by omega
 have g2:(n:Int)<8:=by omega
 clear H hb G K;go_enter func328,ntmps328
 go_wp2_with fail
 refine U.out.mono ?_;rintro e w2 ⟨rfl,O,I⟩;have F:=X.out.step O I;have x1:w2.cell? (aj fb 1)=some (iZ cur.stream):=F.oI.cell 1;have z1:=F.oI.frozen 1;have V:=au (And.intro (F.yD 1 (iZ n) (cur':={cur with stream:=(n:Int)}) rfl rfl) ((I.two B1 fb).trans (qg.yD B1 rb fb 1 (iZ n) w2)));clear O I F;go_wp2;go_end0;exact⟨rfl,v9,V.out⟩
theorem mP{B0 B1:Nat}{w1:World}(pb K i n:Nat)(upd:Fr->Fr)(rb fb yb yo cap:Nat)(body:List UInt8)(bg:Nat)(h0:B0<=pb)(h1:pb<B1)(hx:w1.cell? (aj pb 0)=some (.func (.func K) #[] #[]))(he:∀args w,(callFunc K args).run prog w=.ok (.enter K args) w)(H:∀b w,Calls prog K #[ay b 0] w fun e w'=>e=.returned (ay b i)/\w'=w)(hc:∀cur v9,∃I:Int,(fu cur v9)[i]?=some (uZ I))(hu:∀cur v9,(fu cur v9).set i (uZ n)=fu (upd cur) v9/\(upd cur).ranges=cur.ranges)(hn:n<=aZ):
  Rd B0 B1 w1 (.func (.func 330) #[] #[ay pb 0]) (Num.bytes n) upd rb fb yb yo cap body bg:=by
 refine⟨330,_,rfl,enters_of func330 (by kernel_rfl) rfl,fun w p cur v9 rest hK U _ hb=>?_⟩;have cc:=hK.cell h0 h1 hx;have HB:=au (fH rb yb yo cap body p bg n rest w U.rd (by unfold aZ at hn;omega) hb);have HP:=au U;have O:=au (H fb w);have Z:=au (hu cur v9);obtain⟨I,hold⟩:=hc cur v9;have G:=au hold;clear U hb hK H hc hu hn hx hold;go_enter func330,ntmps330
 go_wp2_with fail
 refine O.out.mono ?_;rintro e w' ⟨rfl,X⟩;subst X
 go_wp2_with fail
 refine HB.out.mono ?_;rintro e w2 ⟨rfl,hR,V⟩;have F:=HP.out.step hR V;have x1:=F.oI.cell i;rw[G.out]at x1;have z1:=F.oI.frozen i;have HF:=au (And.intro (F.yD i (uZ n) Z.out.1 Z.out.2) ((V.two B1 fb).trans (qg.yD B1 rb fb i (uZ n) w2)));clear hR V F;go_wp2;go_end0;exact⟨rfl,v9,HF.out⟩
theorem ba_eq(d:ByteArray):(⟨d.data.toList.toArray⟩:ByteArray)=d:=by
 cases d;simp
theorem UC{B0 B1:Nat}{w1:World}(d:ByteArray)(hd:d.size<=1000000000)(rb fb yb yo cap:Nat)(body:List UInt8)(bg:Nat):
  Rd B0 B1 w1 (.func (.func 334) #[] #[]) (Num.bytes d.size++d.data.toList) (fun cur=>{cur with data:=d}) rb fb yb yo cap body bg:=by
 refine⟨334,_,rfl,enters_of func334 (by kernel_rfl) rfl,fun w p cur v9 rest _ hP _ hb=>?_⟩;rw[sQ]at hb;have O:=ig hb
 have F:d.data.toList.length=d.size:=by rw[Array.length_toList];rfl
 have H:p+(Num.bytes d.size).length+d.size<=body.length:=by
  have h1:(body.drop (p+(Num.bytes d.size).length)).length=d.size+rest.length:=by rw[O,mR,F]
  rw[nI]at h1
  have h2:(body.drop p).length=(Num.bytes d.size).length+(d.size+rest.length):=by rw[hb,mR,mR,F]
  rw[nI]at h2;have h3:=hP.rd.le
  have h4:0<(Num.bytes d.size).length:=by rw[Num.eH];exact Nat.pow_pos (by decide)
  omega
 have HB:=au (fH rb yb yo cap body p bg d.size _ w hP.rd (by omega) hb);have HP:=au hP;have U:=au H
 have V:∀j (hj:j<d.size),body[p+(Num.bytes d.size).length+j]?=some (d.data.toList[j]'(by omega)):=fun j hj=>by
  have:(body.drop (p+(Num.bytes d.size).length))[j]?=(d.data.toList++rest)[j]?:=by rw[O]
  rw[uj,List.getElem?_append_left (by omega)]at this;rw[this];exact fA _
 have X:∀w',dY w' rb yb yo cap body (p+(Num.bytes d.size).length+d.size) bg->∀c,(convert 60 9 (.slice (some (aj yb (yo+(p+(Num.bytes d.size).length)))) d.size c)).run prog w'=.ok (.string d) w':=fun w' h' c=>by
  have:=run_convert_bytes_back (P:=prog) w' 60 9 5 (aj yb (yo+(p+(Num.bytes d.size).length))) c d.data.toList u29 (by kernel_rfl) u9 (fun j hj=>by
   rw[Addr.add_lit,WJ];have h1:=V j (by omega)
   have Z:p+(Num.bytes d.size).length+j<body.length:=by omega
   rw[h'.byte _ Z];rw[fA Z]at h1
   rw[Option.some.inj h1])
  rw[F,ba_eq]at this;exact this
 have h0:=au X
 have h6:Hid ((Num.bytes d.size++d.data.toList).length=(Num.bytes d.size).length+d.size):=by unfold Hid;rw[mR,F]
 have g1:(d.size:Int)<=1000000000:=by omega
 clear hP hb O H V X F;generalize (Num.bytes d.size).length=L at *;generalize hsz:d.size=n at *;go_enter func334,ntmps334
 go_wp2_with fail
 refine HB.out.mono ?_;rintro e w2 ⟨rfl,I,K⟩;have HT:=au (mM rb yb yo cap body (p+L) bg n w2 I U.out);have qQ:=au (HP.out.step I K);have h5:=au (K.two B1 fb);clear I K
 go_wp2_with fail
 refine HT.out.mono ?_;rintro e w3 ⟨rfl,I,K⟩;have G:=qQ.out.step I K;have cv:=h0.out w3 I;have x8:w3.cell? (aj fb 8)=some (.string cur.data):=G.oI.cell 8;have z8:=G.oI.frozen 8
 have HF:Hid (RP B0 B1 rb fb yb yo cap body (w3.setCell (aj fb 8) (.string d)) (p+(L+n)) bg {cur with data:=d} v9/\qg B1 rb fb w (w3.setCell (aj fb 8) (.string d))):=by
  rw[<-WJ];exact And.intro (G.yD 8 (.string d) rfl rfl) ((h5.out.trans (K.two B1 fb)).trans (qg.yD B1 rb fb 8 (.string d) w3))
 clear I K G;go_wp2;go_end0;rw[h6.out];exact⟨rfl,v9,HF.out⟩
theorem J9{B0 B1 rb fb yb yo cap:Nat}{body:List UInt8}{w:World}{p bg:Nat}{cur:Fr}{v9:Value}(h:RP B0 B1 rb fb yb yo cap body w p bg cur v9)(lo hi n m:Nat)(hn:cur.ranges.length=n)(hm:n+1=m)(hl:n<=1000000000):
  ∃U V H,(∀ty,(Builtin.append_ #[63,63] ty #[v9,aS w.heap.size 1 1]).run prog (w.alloc (.cells #[uZ lo,uZ hi] 170))=.ok (.slice U m V) H)/\
   aA H fb 65 (fu cur v9)/\RP B0 B1 rb fb yb yo cap body (H.setCell (aj fb 9) (.slice U m V)) p bg {cur with ranges:=cur.ranges++[(lo,hi)]} (.slice U m V)/\qg B1 rb fb w (H.setCell (aj fb 9) (.slice U m V)):=by
 subst hn;subst hm;obtain⟨O,I⟩:∃O,O=w.alloc (.cells #[uZ lo,uZ hi] 170):=⟨_,rfl⟩
 have h7:O.heap.size=w.heap.size+1:=by rw[I];simp
 have F:aD w O:=by rw[I];exact(Below.refl _ _).alloc (SF _) _
 have hN:aA O w.heap.size 170 [uZ lo,uZ hi]:=by rw[I];exact aA.new w 170 _
 rw[<-I];have h5:bK 170 2 O v9 cur.ranges.length (aL cur.ranges):=h.rng.of_heap (fun b hb=>F.block b (h.rng.lt b hb));obtain⟨v',H,h0,hG,L8⟩:=fE G7 h5 (aj w.heap.size 0) 1 1 (aL [(lo,hi)]) rfl (by omega) (jq _) (fun j u hu=>by rw[Addr.add_lit,Nat.zero_add,hN.cell];exact hu) (by omega);obtain⟨U,V,hv,_⟩:=hG.shape;subst hv;have h6:=h.hB;have G:Below B1 O H:=L8.below h.own (by omega);have Z:=L8.own h.own (by omega);have h1:=h.h01;have h2:=h.fbl;have h3:=h.rbl;have h4:=h.ybl;have hsz:=G.size
 have K:∀b,b<B1->H.heap[b]?=w.heap[b]?:=fun b hb=>by rw[G.block b hb,F.block b (by omega)]
 have X:aA H fb 65 (fu cur v9):=h.oI.of_heap (K fb (by omega));refine⟨U,V,H,h0,X,⟨?_,?_,?_,Z,h.h01,by simp;omega,h3,h2,h4,h.rf,h.fy⟩,?_⟩
 ·exact(h.rd.of (K rb (by omega)) (K yb (by omega))).of (fB _ _ _ _ h.rf) (fB _ _ _ _ (Ne.symm h.fy))
 ·exact X.setCell 9 _
 ·show bK 170 2 _ _ (cur.ranges++[(lo,hi)]).length (aL (cur.ranges++[(lo,hi)]));rw[mR,gT];exact hG.of_heap (fun b hb=>fB _ _ _ _ (by have:=Z b hb;simp;omega))
 ·refine⟨G.os.trans F.os,G.tape.trans F.tape,G.output.trans F.output,by simp;omega,fun k hk _ hf=>?_⟩;rw[fB _ _ _ _ hf];exact K k hk
theorem sZ(rs:aP)(k:Nat):∀N,k<=N->∃s,fG rs N=fG rs k++s
 |0,h=>⟨[],by
   obtain rfl:k=0:=by omega
   simp⟩
 |N+1,h=>by
  by_cases e:k=N+1
  ·exact⟨[],by rw[e];simp⟩
  ·obtain⟨s,hs⟩:=sZ rs k N (by omega);exact⟨s++_,by rw[fG,hs,sQ]⟩
def iq(rs:aP)(N k:Nat):List UInt8:=(fG rs N).drop (fG rs k).length
theorem tq(rs:aP)(N:Nat):iq rs N 0=fG rs N:=rfl
theorem EK(rs:aP)(N:Nat):iq rs N N=[]:=by unfold iq;exact R3 (SF _)
theorem CJ(rs:aP)(N k:Nat)(h:k<N):iq rs N k=Num.bytes ((rs.getD k (0,0)).1-(rs.getD (k+1) (0,0)).2-2)++(Num.bytes ((rs.getD (k+1) (0,0)).2-(rs.getD (k+1) (0,0)).1)++iq rs N (k+1)):=by
 obtain⟨s,hs⟩:=sZ rs (k+1) N (by omega)
 have F:(fG rs N).drop (fG rs (k+1)).length=s:=by rw[hs];exact Aw rfl
 have hB:fG rs N=fG rs k++(Num.bytes ((rs.getD k (0,0)).1-(rs.getD (k+1) (0,0)).2-2)++(Num.bytes ((rs.getD (k+1) (0,0)).2-(rs.getD (k+1) (0,0)).1)++s)):=by
  rw[hs,fG];simp only[sQ]
 unfold iq;rw[F,hB];exact Aw rfl
theorem Bh(rs:aP)(k:Nat)(h:k<rs.length):rs.take k++[((rs.getD k (0,0)).1,(rs.getD k (0,0)).2)]=rs.take (k+1):=by
 rw[Kt h,Lb,fA h];rfl
theorem L9{B0 B1:Nat}{w1:World}(rs:aP)(hR:mX rs=true)(xo:rs.length<=1000000000)(rb fb yb yo cap:Nat)(body:List UInt8)(bg:Nat):
  Rd B0 B1 w1 (.func (.func 326) #[] #[]) (dP rs) (fun cur=>{cur with ranges:=rs}) rb fb yb yo cap body bg:=by
 refine⟨326,_,rfl,enters_of func326 (by kernel_rfl) rfl,fun w p cur v9 rest _ hP he hb=>?_⟩;obtain⟨h4,h8⟩:=JD hR;obtain⟨N,hN⟩:∃N,rs.length=N+1:=⟨rs.length-1,by omega⟩
 have h9:body.drop p=Num.bytes (rs.getD 0 (0,0)).2++(Num.bytes N++(Num.bytes ((rs.getD 0 (0,0)).2-(rs.getD 0 (0,0)).1)++(iq rs N 0++rest))):=by
  rw[hb,tq];unfold dP iJ;rw[hN,KG];simp only[sQ]
 have WO:(dP rs).length=(Num.bytes (rs.getD 0 (0,0)).2).length+(Num.bytes N).length+(Num.bytes ((rs.getD 0 (0,0)).2-(rs.getD 0 (0,0)).1)).length+(fG rs N).length:=by
  unfold dP iJ;rw[hN,KG];simp only[mR];omega
 obtain⟨q1,q2,_⟩:=h8 0 h4;have ha:=ig h9;have hc:=ig ha;have x0:=ig hc;have U:=au (fH rb yb yo cap body p bg _ _ w hP.rd (by unfold aZ at q2;omega) h9);have DV:=au (fun w' (h':dY w' rb yb yo cap body _ bg)=>fH rb yb yo cap body _ bg _ _ w' h' (by omega) ha);have ho:=au (fun w' (h':dY w' rb yb yo cap body _ bg)=>fH rb yb yo cap body _ bg _ _ w' h' (by unfold aZ at q2;omega) hc);have hj:=au h8;have hn:=au WO;have hm:=au x0;have HP:=au hP
 have x6:(rs.getD 0 (0,0)).2-((rs.getD 0 (0,0)).2-(rs.getD 0 (0,0)).1)=(rs.getD 0 (0,0)).1:=by omega
 have HL:=au (fun(r:Value) (w:World)=>yC r (rs.getD 0 (0,0)).2 ((rs.getD 0 (0,0)).2-(rs.getD 0 (0,0)).1) w (by omega) (by unfold aZ at q2;omega));rw[x6]at HL;have hx:Hid ([((rs.getD 0 (0,0)).1,(rs.getD 0 (0,0)).2)]=rs.take 1):=Bh rs 0 h4;clear hP hb h9 ha hc x0 h8 WO hR x6;generalize hy:(rs.getD 0 (0,0)).1=TF at *;generalize xe:(rs.getD 0 (0,0)).2=h0 at *;generalize xd:h0-TF=d0 at *;have qP:=au hy;clear hy xe xd;go_enter func326,ntmps326
 go_wp2_with fail
 refine U.out.mono ?_;rintro e x1 ⟨rfl,uh,G⟩;have O:=au (DV.out x1 uh);have rP:=au (HP.out.step uh G);have rW:=au (G.two B1 fb);clear uh G U DV HP
 go_wp2_with fail
 refine O.out.mono ?_;rintro e x2 ⟨rfl,h6,h7⟩;have NZ:=au (ho.out x2 h6);have qQ:=au (rP.out.step h6 h7);have hu:=au (rW.out.trans (h7.two B1 fb));clear h6 h7 O rP ho rW
 go_wp2_with fail
 refine NZ.out.mono ?_;rintro e x3 ⟨rfl,DF,S_⟩;have uE:=au (qQ.out.step DF S_);have V:=au (hu.out.trans (S_.two B1 fb));clear DF S_ NZ qQ hu
 go_wp2_with fail
 refine(HL.out _ _).mono ?_;rintro e x4 ⟨rfl,xi⟩;subst xi;obtain⟨a',c',W2,jQ,F,Ay,UD⟩:=J9 uE.out TF h0 0 1 (by rw[he];rfl) rfl (by omega);have x9:x4.cell? (aj fb 9)=some v9:=uE.out.oI.cell 9;obtain⟨a9,c9,Z,_⟩:=uE.out.rng.shape;rw[show cur.ranges.length=0 by rw[he];rfl]at Z;subst Z;have k9:W2.cell? (aj fb 9)=some (.slice a9 0 c9):=F.cell 9;have z9:=F.frozen 9;rw[he,List.nil_append,hx.out]at Ay;have Dz:=au Ay;have hv:=au (V.out.trans UD);have x5:fb<x4.heap.size:=uE.out.oI.lt;clear F Ay UD uE V HL
 go_wp2_with (at_builtin;refine Lib.wpList_append_run _ rfl _ _ _ _ rfl _ _ rfl rfl _ _ (jQ _) ?_)
 clear jQ x9 k9 z9 x5;have J_:=au (fun k (hk:k<N)=>CJ rs N k hk);have oo:=au (EK rs N)
 have hr:Hid (p+(Num.bytes h0).length+(Num.bytes N).length+(Num.bytes d0).length+(iq rs N 0).length=p+(dP rs).length):=by
  unfold Hid;rw[hn.out,tq];omega
 generalize p+(Num.bytes h0).length+(Num.bytes N).length+(Num.bytes d0).length=p0 at *
 go_loopw [4,5,6] (fun s4 s5 s6 wr=>∃k:Nat,k<=N/\s5=(uZ ((N-k:Nat):Int))/\s6=(uZ (((rs.getD k (0,0)).1:Nat):Int))/\(∃x:Nat,s4=(uZ x))/\Hid (∃pk v9,RP B0 B1 rb fb yb yo cap body wr pk bg {cur with ranges:=rs.take (k+1)} v9/\qg B1 rb fb w wr/\body.drop pk=iq rs N k++rest/\pk+(iq rs N k).length=p+(dP rs).length)) (fun _ s5 _ _=>(intOf s5).toNat)
 case atStart=>exact⟨0,E8 _,rfl,by rw[qP.out],⟨_,rfl⟩,p0,_,Dz.out,hv.out,hm.out,hr.out⟩
 case round=>
  clear Dz hv hm hr hn qP hx;obtain⟨k,hk,rfl,rfl,⟨xh,rfl⟩,HI⟩:=hrel
  by_cases xf:k<N
  ·obtain⟨pk,v9,zR,Pz,H,I⟩:=HI.out;rw[J_.out k xf]at H I;rw[sQ,sQ]at H;obtain⟨o1,o2,o3⟩:=hj.out (k+1) (by omega);have o4:=o3 (by omega);rw[KG]at o4;obtain⟨o5,o6,_⟩:=hj.out k (by omega);have x8:=Bh rs (k+1) (by omega)
   have h3:(rs.take (k+1)).length=k+1:=by simp;omega
   unfold aZ at o2 o6;generalize (rs.getD k (0,0)).1=hg at *;generalize xm:(rs.getD (k+1) (0,0)).2=K at *;generalize YT:(rs.getD (k+1) (0,0)).1=hf at *;generalize hG:hg-K-2=g at *;generalize hD:K-hf=d at *;have U:=au (fH rb yb yo cap body pk bg g _ wr zR.rd (by omega) H);have X:=ig H;have DV:=au (fun w' (h':dY w' rb yb yo cap body _ bg)=>fH rb yb yo cap body _ bg d _ w' h' (by omega) X);have YU:=ig X;have JZ:=au (fun(r:Value) (w:World)=>yC r hg (g+2) w (by omega) (by omega));rw[show hg-(g+2)=K by omega]at JZ;have h5:=au (fun(r:Value) (w:World)=>yC r K d w (by omega) (by omega));rw[show K-d=hf by omega]at h5
   have YV:pk+(Num.bytes g).length+(Num.bytes d).length+(iq rs N (k+1)).length=p+(dP rs).length:=by
    rw[mR,mR]at I;omega
   have JE:=au zR;have hw:=au Pz;have HB:=au (And.intro YU YV);have J8:=au x8;have h2:=au h3;have qP:=au YT
   have g0:0<N-k:=by omega
   have g1:(g:Int)+2=((g+2:Nat):Int):=by omega
   have g2:((g+2:Nat):Int)<18446744073709551616:=by omega
   have g3:((N-k:Nat):Int)-1=((N-(k+1):Nat):Int):=by omega
   have g4:((N-(k+1):Nat):Int)<18446744073709551616:=by omega
   have HM:Hid (N-(k+1)<N-k):=by unfold Hid;omega
   generalize g+2=xn at *;generalize x7:N-(k+1)=n1 at *;have xa:=au x7;clear x7;generalize N-k=n0 at *;clear zR Pz H X YU I YV x8 h3 xm YT hG hD HI o1 o2 o3 o4 o5 o6
   go_wp2_with fail
   refine U.out.mono ?_;rintro e y1 ⟨rfl,uh,G⟩;have O:=au (DV.out y1 uh);have rP:=au (JE.out.step uh G);have rW:=au (hw.out.trans (G.two B1 fb));clear uh G U DV JE hw
   go_wp2_with fail
   refine(JZ.out _ _).mono ?_;rintro e y2 ⟨rfl,xj⟩;subst xj
   go_wp2_with fail
   refine O.out.mono ?_;rintro e y3 ⟨rfl,DF,S_⟩;have uE:=au (rP.out.step DF S_);have V:=au (rW.out.trans (S_.two B1 fb));clear DF S_ O rP rW
   go_wp2_with fail
   refine(h5.out _ _).mono ?_;rintro e y4 ⟨rfl,xl⟩;subst xl;obtain⟨a',c',W2,jQ,F,Ay,UD⟩:=J9 uE.out hf K (k+1) (k+2) h2.out rfl (by omega);have x9:y4.cell? (aj fb 9)=some v9:=uE.out.oI.cell 9;obtain⟨a9,c9,Z,_⟩:=uE.out.rng.shape;rw[h2.out]at Z;subst Z;have k9:W2.cell? (aj fb 9)=some (.slice a9 (k+1) c9):=F.cell 9;have z9:=F.frozen 9;simp only[J8.out]at Ay;have SQ:Hid (∃pk v9,RP B0 B1 rb fb yb yo cap body (W2.setCell (aj fb 9) (.slice a' (k+2) c')) pk bg {cur with ranges:=rs.take (k+1+1)} v9/\qg B1 rb fb w (W2.setCell (aj fb 9) (.slice a' (k+2) c'))/\body.drop pk=iq rs N (k+1)++rest/\pk+(iq rs N (k+1)).length=p+(dP rs).length):=⟨_,_,Ay,V.out.trans UD,HB.out.1,HB.out.2⟩;have x5:fb<y4.heap.size:=uE.out.oI.lt;clear F Ay UD uE V JZ h5
   go_wp2_with (at_builtin;refine Lib.wpList_append_run _ rfl _ _ _ _ rfl _ _ rfl rfl _ _ (jQ _) ?_)
   go_roundw
   case rel=>exact⟨k+1,by omega,by rw[xa.out],by rw[qP.out],⟨_,rfl⟩,SQ⟩
   case measure=>simp[intOf];exact HM.out
  ·obtain rfl:k=N:=by omega
   obtain⟨pk,v9,zR,Pz,H,I⟩:=HI.out;rw[oo.out,WA,ZH]at I;rw[<-hN,List.take_length,I]at zR;have HF:=au (And.intro zR Pz);clear zR Pz H I HI
   have g0:((k-k:Nat):Int)=0:=by omega
   go_wp2;go_end0;exact⟨rfl,v9,HF.out⟩
theorem RP.alloc{B0 B1 rb fb yb yo cap:Nat}{body:List UInt8}{w:World}{p bg:Nat}{cur:Fr}{v9:Value}(h:RP B0 B1 rb fb yb yo cap body w p bg cur v9)(o:Obj):RP B0 B1 rb fb yb yo cap body (w.alloc o) p bg cur v9:=by
 have h1:=h.h01;have I:=h.hB;have F:=h.rbl;have G:=h.fbl;have H:=h.ybl;exact⟨h.rd.of (Am _ _ _ (by omega)) (Am _ _ _ (by omega)),h.oI.alloc o,h.rng.of_heap (fun b hb=>Am _ _ _ (h.rng.lt b hb)),h.own,h1,by simp;omega,F,G,H,h.rf,h.fy⟩
theorem qg.alloc(B1 rb fb:Nat)(w:World)(o:Obj)(h:B1<=w.heap.size):qg B1 rb fb w (w.alloc o):=⟨rfl,rfl,rfl,by simp,fun k F _ _=>Am _ _ _ (by omega)⟩
def tu(F:Nat->Fr->Fr):Nat->Fr->Fr
 |0,cur=>cur
 |k+1,cur=>F k (tu F k cur)
theorem pF(ps:List (List UInt8))(k:Nat):∀N,k<=N->∃s,bE ps N=bE ps k++s
 |0,h=>⟨[],by
   obtain rfl:k=0:=by omega
   simp⟩
 |N+1,h=>by
  by_cases e:k=N+1
  ·exact⟨[],by rw[e];simp⟩
  ·obtain⟨s,hs⟩:=pF ps k N (by omega);exact⟨s++_,by rw[bE,hs,sQ]⟩
def dO(ps:List (List UInt8))(N k:Nat):List UInt8:=(bE ps N).drop (bE ps k).length
theorem kS(ps:List (List UInt8))(N:Nat):dO ps N 0=bE ps N:=rfl
theorem Ae(ps:List (List UInt8))(N:Nat):dO ps N N=[]:=by unfold dO;exact R3 (SF _)
theorem pG(ps:List (List UInt8))(N k:Nat)(h:k<N):dO ps N k=ps.getD k []++dO ps N (k+1):=by
 obtain⟨s,hs⟩:=pF ps (k+1) N (by omega)
 have F:(bE ps N).drop (bE ps (k+1)).length=s:=by rw[hs];exact Aw rfl
 have hB:bE ps N=bE ps k++(ps.getD k []++s):=by
  rw[hs,bE];simp only[sQ]
 unfold dO;rw[F,hB];exact Aw rfl
theorem Ir{B0 B1:Nat}{w1:World}(pb qb F:Nat)(fw fr:Nat->Value)(ps:List (List UInt8))(X:Nat->Fr->Fr)(rb fb yb yo cap:Nat)(body:List UInt8)(bg:Nat)(hy:F<=100)(h9:B0<=pb)(ha:pb<B1)(hf:B0<=qb)(hg:qb<B1)(he:w1.cell? (aj pb 0)=some (aS qb F F))(O:∀j,j<F->w1.cell? (aj qb (j*2))=some (fw j)/\w1.cell? (aj qb (j*2+1))=some (fr j))(h8:∀j,j<F->∃g cb,fw j=.func (.func g) #[] cb)(hm:∀cur,cur.ranges=[]->∀j,j<F->(tu X j cur).ranges=[])(hj:∀j,j<F->Rd B0 B1 w1 (fr j) (ps.getD j []) (X j) rb fb yb yo cap body bg):
  Rd B0 B1 w1 (.func (.func 324) #[] #[ay pb 0]) (bE ps F) (tu X F) rb fb yb yo cap body bg:=by
 refine⟨324,_,rfl,enters_of func324 (by kernel_rfl) rfl,fun w p cur v9 rest V hP h6 hb=>?_⟩;have cp:=V.cell h9 ha he;have h5:Hid (∃pk v9,Keep B0 B1 w1 w/\RP B0 B1 rb fb yb yo cap body w pk bg (tu X 0 cur) v9/\qg B1 rb fb w w/\body.drop pk=dO ps F 0++rest/\pk+(dO ps F 0).length=p+(bE ps F).length):=⟨p,v9,V,hP,qg.refl _ _ _ _,by rw[kS];exact hb,by rw[kS]⟩;have HC:=au O;have ho:=au h8;have UE:=au hj;have HQ:=au (And.intro hf hg);have hu:=au (hm cur h6);have hr:=au (fun k (hk:k<F)=>pG ps F k hk);have oo:=au (Ae ps F);clear hP hb O h8 hj he h9 ha hf hg hm h6 V;go_enter func324,ntmps324
 go_wp2_with fail
 go_loopw [9] (fun s9 wr=>∃k:Nat,k<=F/\s9=(iZ k)/\Hid (∃pk v9,Keep B0 B1 w1 wr/\RP B0 B1 rb fb yb yo cap body wr pk bg (tu X k cur) v9/\qg B1 rb fb w wr/\body.drop pk=dO ps F k++rest/\pk+(dO ps F k).length=p+(bE ps F).length)) (fun s9 _=>F-(intOf s9).toNat)
 case atStart=>exact⟨0,E8 _,rfl,h5.out⟩
 case round=>
  clear h5;obtain⟨k,hk,rfl,HI⟩:=hrel
  by_cases U:k<F
  ·have hw:(k:Int)<(F:Int):=by omega
   obtain⟨pk,v9,V,zR,Pz,G,H⟩:=HI.out;rw[hr.out k U]at G H;rw[sQ]at G;obtain⟨q1,q2⟩:=HC.out k U;have t1:=V.cell HQ.out.1 HQ.out.2 q1;have t2:=V.cell HQ.out.1 HQ.out.2 q2;obtain⟨g,cb,h7,eg,hW⟩:=UE.out k U;obtain⟨g2,KZ,h2⟩:=ho.out k U;rw[h7]at t2;rw[h2]at t1;have hv:=zR.hB;have h3:Keep B0 B1 w1 (wr.alloc (.cells #[.func (.func g2) #[] KZ,.func (.func g) #[] cb] 318)):=⟨by simp;omega,fun j h0 h1=>by rw[Am _ _ _ (by omega)];exact V.2 j h0 h1⟩;have hc:=hW _ pk (tu X k cur) v9 _ h3 (zR.alloc _) (hu.out k U) G;have Z:=ig G
   have hn:∀w' Ld,RP B0 B1 rb fb yb yo cap body w' (pk+(ps.getD k []).length) bg (X k (tu X k cur)) Ld->qg B1 rb fb (wr.alloc (.cells #[.func (.func g2) #[] KZ,.func (.func g) #[] cb] 318)) w'->
     ∃pk v9,Keep B0 B1 w1 w'/\RP B0 B1 rb fb yb yo cap body w' pk bg (tu X (k+1) cur) v9/\qg B1 rb fb w w'/\body.drop pk=dO ps F (k+1)++rest/\pk+(dO ps F (k+1)).length=p+(bE ps F).length:=fun w' Ld I K=>
    ⟨_,Ld,K.keep h3 I.rbl I.fbl,I,(Pz.trans (qg.alloc B1 rb fb wr _ hv)).trans K,Z,by rw[mR]at H;omega⟩
   have HN:=au hn;have h4:=au hc;have hx:qb<wr.heap.size:=tT _ _ t1;clear h7 h2 hc hW q1 q2 hn V zR Pz G Z H h3 HI
   go_wp2_with fail
   refine h4.out.mono ?_;rintro e y ⟨rfl,Ld,I,K⟩;have SQ:=au (HN.out y Ld I K);clear I K HN h4
   go_wp2_with fail
   go_roundw
   case rel=>exact⟨k+1,by omega,by go_num,SQ⟩
   case measure=>simp[intOf];omega
  ·obtain rfl:k=F:=by omega
   obtain⟨pk,v9,V,zR,Pz,G,H⟩:=HI.out;rw[oo.out,WA,ZH]at H;rw[H]at zR;have HF:=au (And.intro zR Pz);clear V zR Pz G H HI;go_wp2;go_end0;exact⟨rfl,v9,HF.out⟩
theorem Kc{B0:Nat}{w1:World}{F:Nat×Nat}{Z fr:Value}(hP:gD B0 w1 F Z fr)(f:Fr)(K:Fit f)(U:DX f F)(hd:f.data.size<=1000000000)(X:f.ranges.length<=1000000000)(rb fb yb yo cap:Nat)(body:List UInt8)(bg:Nat):
  Rd B0 w1.heap.size w1 fr (aR f F) (eT f F) rb fb yb yo cap body bg:=by
 unfold aR
 rcases hP with⟨h,xb,I,_,H⟩|⟨h,_,H⟩|⟨h,_,H⟩|⟨h,xb,I,_,H⟩|⟨h,_,H⟩|⟨h,_,H⟩
 ·have e:eT f F=fun cur=>cur:=by funext cur;unfold eT;rw[if_pos h]
  rw[if_pos h,H,e];exact Py _ rb fb yb yo cap body bg
 ·have e:eT f F=fun cur=>{cur with fin:=f.fin}:=by funext cur;unfold eT;rw[if_neg (by omega),if_pos h]
  rw[if_neg (by omega),if_pos h,H,e];exact CG f.fin rb fb yb yo cap body bg
 ·have e:eT f F=fun cur=>{cur with stream:=f.stream}:=by funext cur;unfold eT;rw[if_neg (by omega),if_neg (by omega),if_pos h]
  rw[if_neg (by omega),if_neg (by omega),if_pos h,H,e];exact L6 f.stream K.s0 K.s8 rb fb yb yo cap body bg
 ·have O:∀cur,eT f F cur=(if F.2=279 then{cur with offset:=f.offset}else if F.2=280 then{cur with reliable:=f.reliable}else if F.2=283 then{cur with limit:=f.limit}else if F.2=284 then{cur with id:=f.id}else{cur with deadline:=f.deadline}):=fun cur=>by
   unfold eT;rw[if_neg (by omega),if_neg (by omega),if_neg (by omega),if_pos h]
  rw[if_neg (by omega),if_neg (by omega),if_neg (by omega),if_pos h,H]
  have V:F.2=279\/F.2=280\/F.2=283\/F.2=284\/F.2=285:=by
   rcases U with e|e|e|e|e|e
   ·omega
   ·omega
   ·omega
   ·exact e.2
   ·omega
   ·omega
  have hl:=tT _ _ I.2;have G:=I.2
  rcases V with e|e|e|e|e
  ·rw[e]at G ⊢;exact mP xb 279 2 f.offset _ rb fb yb yo cap body bg I.1 hl G (enters_of func279 (by kernel_rfl) rfl) (fun b w=>by have:=xJ b 0 w;simpa using this) (fun cur v9=>⟨_,rfl⟩) (fun cur v9=>by rw[O,e];exact⟨rfl,rfl⟩) K.n0
  ·rw[e]at G ⊢;exact mP xb 280 3 f.reliable _ rb fb yb yo cap body bg I.1 hl G (enters_of func280 (by kernel_rfl) rfl) (fun b w=>by have:=rY b 0 w;simpa using this) (fun cur v9=>⟨_,rfl⟩) (fun cur v9=>by rw[O,e];exact⟨rfl,rfl⟩) K.n1
  ·rw[e]at G ⊢;exact mP xb 283 4 f.limit _ rb fb yb yo cap body bg I.1 hl G (enters_of func283 (by kernel_rfl) rfl) (fun b w=>by have:=Az b 0 w;simpa using this) (fun cur v9=>⟨_,rfl⟩) (fun cur v9=>by rw[O,e];exact⟨rfl,rfl⟩) K.n2
  ·rw[e]at G ⊢;exact mP xb 284 6 f.id _ rb fb yb yo cap body bg I.1 hl G (enters_of func284 (by kernel_rfl) rfl) (fun b w=>by have:=Oy b 0 w;simpa using this) (fun cur v9=>⟨_,rfl⟩) (fun cur v9=>by rw[O,e];exact⟨rfl,rfl⟩) K.n3
  ·rw[e]at G ⊢;exact mP xb 285 7 f.deadline _ rb fb yb yo cap body bg I.1 hl G (enters_of func285 (by kernel_rfl) rfl) (fun b w=>by have:=rZ b 0 w;simpa using this) (fun cur v9=>⟨_,rfl⟩) (fun cur v9=>by rw[O,e];exact⟨rfl,rfl⟩) K.n4
 ·have e:eT f F=fun cur=>{cur with data:=f.data}:=by funext cur;unfold eT;rw[if_neg (by omega),if_neg (by omega),if_neg (by omega),if_neg (by omega),if_pos h]
  rw[if_neg (by omega),if_neg (by omega),if_neg (by omega),if_neg (by omega),if_pos h,H,e];exact UC f.data hd rb fb yb yo cap body bg
 ·have e:eT f F=fun cur=>{cur with ranges:=f.ranges}:=by funext cur;unfold eT;rw[if_neg (by omega),if_neg (by omega),if_neg (by omega),if_neg (by omega),if_neg (by omega)]
  rw[if_neg (by omega),if_neg (by omega),if_neg (by omega),if_neg (by omega),if_neg (by omega),H,e]
  have hR:mX f.ranges=true:=by
   rcases U with e|e|e|e|e|e
   ·omega
   ·omega
   ·omega
   ·omega
   ·omega
   ·exact e.2
  exact L9 f.ranges hR X rb fb yb yo cap body bg
def yE(f:Fr)(F:aP)(k:Nat)(cur:Fr):Fr:=tu (fun j=>eT f (F.getD j (0,0))) k cur
theorem EL(f:Fr)(F:Nat×Nat)(cur:Fr)(h:F.1<=4):(eT f F cur).ranges=cur.ranges:=by
 unfold eT
 repeat' split
 all_goals first|rfl|omega
theorem yF(f:Fr)(F:aP)(cur:Fr)(G:cur.ranges=[])(h:∀j,j+1<F.length->(F.getD j (0,0)).1<=4):∀k,k<F.length->(yE f F k cur).ranges=[]
 |0,_=>G
 |k+1,hk=>by
  show(eT f (F.getD k (0,0)) (yE f F k cur)).ranges=[];rw[EL _ _ _ (h k hk)];exact yF f F cur G h k (by omega)
theorem L_(k:Int):∀j,j+1<(aX k).length->((aX k).getD j (0,0)).1<=4:=by
 unfold aX
 repeat' split
 all_goals
  intro j F
  match j,F with
  |0,F=>first|decide|exact absurd F (by decide)
  |1,F=>first|decide|exact absurd F (by decide)
  |2,F=>first|decide|exact absurd F (by decide)
  |m+3,F=>exact absurd F (by simp)
theorem UF{B0:Nat}{w1:World}{fw fr:Value}(f:Fr)(V:DZ B0 w1 f.kind fw fr)(h:snd f=true)(hd:f.data.size<=1000000000)(U:f.ranges.length<=1000000000)(rb fb yb yo cap:Nat)(body:List UInt8)(bg:Nat):
  Rd B0 w1.heap.size w1 fr (aG f) (yE f (aX f.kind) (aX f.kind).length) rb fb yb yo cap body bg:=by
 obtain⟨Z,_⟩:=mY f h
 rcases V with⟨e,hP⟩|⟨_,V⟩
 ·have:=Kc hP f Z (.inl ⟨rfl,by decide⟩) hd U rb fb yb yo cap body bg
  have hb:aG f=aR f (0,1):=by
   unfold aG;rw[e,show aX 1=[(0,1)]from rfl];rfl
  have hs:yE f (aX f.kind) (aX f.kind).length=eT f (0,1):=by
   rw[e,show aX 1=[(0,1)]from rfl];rfl
  rw[hb,hs];exact this
 ·obtain⟨pb,qb,_,rfl,hB,hq,H⟩:=V;have O:=(sD f.kind).1
  have I:∃G JG:Nat->Value,∀j,j<(aX f.kind).length->w1.cell? (aj qb (j*2))=some (G j)/\w1.cell? (aj qb (j*2+1))=some (JG j)/\gD B0 w1 ((aX f.kind).getD j (0,0)) (G j) (JG j):=by
   refine⟨fun j=>(w1.cell? (aj qb (j*2))).getD undef,fun j=>(w1.cell? (aj qb (j*2+1))).getD undef,fun j F=>?_⟩;obtain⟨a,c,h1,X,h3⟩:=H j F;refine⟨by simp[h1],by simp[X],?_⟩;simpa[h1,X]using h3
  obtain⟨G,JG,hF⟩:=I
  have K:∀j,j<(aX f.kind).length->(aX f.kind).getD j (0,0)∈aX f.kind:=fun j F=>by
   rw[Lb,fA F];exact List.getElem_mem _
  refine Ir pb qb (aX f.kind).length G JG ((aX f.kind).map (aR f)) (fun j=>eT f ((aX f.kind).getD j (0,0))) rb fb yb yo cap body bg (sD _).2 hB.1 (tT _ _ hB.2) hq (tT _ _ (hF 0 O).1) hB.2 (fun j F=>⟨(hF j F).1,(hF j F).2.1⟩) (fun j F=>?_) (fun cur hc j F=>yF f _ cur hc (L_ _) j F) (fun j F=>?_)
  ·obtain⟨_,_,_,_,h,_⟩:=(hF j F).2.2.shape;exact⟨_,_,h⟩
  ·have:=Kc (hF j F).2.2 f Z (JI f h _ (K j F)) hd U rb fb yb yo cap body bg
   have e:((aX f.kind).map (aR f)).getD j []=aR f ((aX f.kind).getD j (0,0)):=by
    simp[F]
   rw[e];exact this
