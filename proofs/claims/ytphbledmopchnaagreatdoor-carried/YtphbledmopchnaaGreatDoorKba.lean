import Derived.Test.YtphbledmopchnaaGreatDoorKac
import Derived.Laws.IdiomStrings
open Go.RowKit.Below renaming heap_setCell->mR,heap_alloc->DJ
open List renaming getElem?_eq_getElem->jK,length_append->nI,length_drop->tL,append_assoc->tT,getElem?_drop->Bu,take_of_length_le->CK,drop_left'->Kt,getElem?_take->KG,length_take->M4,take_succ_eq_append_getElem->R3,getD_eq_getElem?_getD->Vh,drop_eq_getElem_cons->Vp,drop_of_length_le->Xw,length_nil->qa1
open Nat renaming and_two_pow_sub_one_eq_mod->uj,pow_le_pow_right->Gl,zero_le->Lb,add_sub_cancel->Si,le_refl->ZE,add_assoc->qa2,add_zero->qa4,le_trans->qa5
open UInt8 renaming toNat->Z9
open Go.World renaming block_lt_of_cell?->wz
set_option maxHeartbeats 1000000
set_option maxRecDepth 100000
namespace Go.Proofs.YtphbledmopchnaaGreatDoor
open Go.RowKit Go.Lib Go.Shelf Mm Tryz
structure dG (w:World) (rb yb yo cap:Nat) (body:List UInt8) (p bg:Nat):Prop where
 blk:ak w rb 257 [.slice (some ⟨yb,yo,none⟩) body.length cap,.int .i64 p,.int .i64 bg]
 bts:BytesAt w (some ⟨yb,yo,none⟩) body
 le:p<=body.length
 room:body.length<cap
 cap:cap<=9223372036854775807
 ne:rb≠yb
structure cu (rb:Nat) (w w':World):Prop where
 os:w'.os=w.os
 tape:w'.tape=w.tape
 output:w'.output=w.output
 size:w'.heap.size=w.heap.size
 block:∀k,k≠rb->w'.heap[k]?=w.heap[k]?
theorem cu.refl(rb:Nat)(w:World):cu rb w w:=⟨rfl,rfl,rfl,rfl,fun _ _=>rfl⟩
theorem cu.trans{rb:Nat}{a b c:World}(h:cu rb a b)(k:cu rb b c):cu rb a c:=
 ⟨k.os.trans h.os,k.tape.trans h.tape,k.output.trans h.output,k.size.trans h.size,fun i hi=>(k.block i hi).trans (h.block i hi)⟩
theorem cu.set(rb o q:Nat)(v:Value)(w:World):cu rb w ((w.setCell ⟨rb,o,none⟩ v).drewN q):=
 ⟨rfl,rfl,rfl,by simp,fun k F=>mR _ _ _ _ F⟩
theorem BytesAt.of{w w':World}{a:Option Addr}{l:List UInt8}(h:BytesAt w a l)(e:∀x:Addr,a=some x->w'.heap[x.block]?=w.heap[x.block]?):BytesAt w' a l:=fun j H=>by
 obtain⟨b,off,F,G⟩:=h j H;exact⟨b,off,F,cell_of G (e ⟨b,off,none⟩ F)⟩
theorem dG.set{w:World}{rb yb yo cap:Nat}{body:List UInt8}{p bg:Nat}(h:dG w rb yb yo cap body p bg)(F q:Nat)(hp:F<=body.length):dG ((w.setCell ⟨rb,1,none⟩ (.int .i64 F)).drewN q) rb yb yo cap body F bg:=
 ⟨(h.blk.setCell 1 _).of_heap rfl,h.bts.of (fun x G=>by simp at G;subst G;exact mR _ _ _ _ (Ne.symm h.ne)),hp,h.room,h.cap,h.ne⟩
theorem dG.of{w w':World}{rb yb yo cap:Nat}{body:List UInt8}{p bg:Nat}(h:dG w rb yb yo cap body p bg)(G:w'.heap[rb]?=w.heap[rb]?)(H:w'.heap[yb]?=w.heap[yb]?):dG w' rb yb yo cap body p bg:=
 ⟨h.blk.of_heap G,h.bts.of (fun x F=>by simp at F;subst F;exact H),h.le,h.room,h.cap,h.ne⟩
theorem dG.drewN{w:World}{rb yb yo cap:Nat}{body:List UInt8}{p bg:Nat}(h:dG w rb yb yo cap body p bg)(q:Nat):dG (w.drewN q) rb yb yo cap body p bg:=h.of rfl rfl
theorem cu.drewN(rb q:Nat)(w:World):cu rb w (w.drewN q):=⟨rfl,rfl,rfl,rfl,fun _ _=>rfl⟩
theorem dG.byte{w:World}{rb yb yo cap:Nat}{body:List UInt8}{p bg:Nat}(h:dG w rb yb yo cap body p bg)(j:Nat)(H:j<body.length):w.cell? ⟨yb,yo+j,none⟩=some (.int .u8 ((body[j].toNat:Nat):Int)):=by
 obtain⟨b,off,F,G⟩:=h.bts j H;simp at F;obtain⟨rfl,rfl⟩:=F;exact G
theorem lu(rb yb yo cap:Nat)(body:List UInt8)(p bg n:Nat)(w:World)(h:dG w rb yb yo cap body p bg)(U:p+n<=body.length):
  Calls prog 214 #[.pointer (some ⟨rb,0,none⟩),.int .u64 n] w fun e w'=>e=.returned (.slice (some ⟨yb,yo+p,none⟩) n (cap-p))/\dG w' rb yb yo cap body (p+n) bg/\cu rb w w':=by
 have x0:w.cell? ⟨rb,0,none⟩=some (.slice (some ⟨yb,yo,none⟩) body.length cap):=h.blk.cell 0;have x1:w.cell? ⟨rb,1,none⟩=some (.int .i64 p):=h.blk.cell 1;have z1:=h.blk.frozen 1;have F:=h.room;have H:=h.cap
 have e1:(body.length:Int)-(p:Int)=((body.length-p:Nat):Int):=by omega
 have e2:¬(body.length-p<n):=by omega
 have e3:(p:Int)+(n:Int)=((p+n:Nat):Int):=by omega
 have g1:((body.length-p:Nat):Int)<9223372036854775808:=by omega
 have g2:(n:Int)<9223372036854775808:=by omega
 have g3:((p+n:Nat):Int)<9223372036854775808:=by omega
 have g4:(p:Int)<=((p+n:Nat):Int):=by omega
 have g5:((p+n:Nat):Int)<=(cap:Int):=by omega
 have g6:¬(cap=p):=by omega
 have g7:(p+n)-p=n:=by omega
 have O:=hid (fun V X=>(h.drewN V).set (p+n) X U);clear h;generalize I:p+n=m at *;generalize G:body.length=N at *;generalize hd:N-p=d at *;have Z:=hid (And.intro I (And.intro G hd));clear I G hd;go_enter func214,ntmps214
 go_wp2_with fail
 go_quiet (fail)
 go_wp2_with fail
 go_quiet (fail)
 go_wp2;go_ret;exact⟨rfl,O.out _ _,(cu.drewN rb _ w).trans (cu.set rb 1 _ _ _)⟩
theorem lC(rb yb yo cap:Nat)(body:List UInt8)(p bg:Nat)(w:World)(h:dG w rb yb yo cap body p bg)(hp:p<body.length):
  Calls prog 213 #[.pointer (some ⟨rb,0,none⟩)] w fun e w'=>e=.returned (.int .u8 ((body[p].toNat:Nat):Int))/\dG w' rb yb yo cap body (p+1) bg/\cu rb w w':=by
 have U:=hid (lu rb yb yo cap body p bg 1 w h (by omega));have G:=hid (fun w' (h':dG w' rb yb yo cap body (p+1) bg)=>h'.byte p hp);clear h;generalize body[p].toNat=X at G;go_enter func213,ntmps213
 go_wp2_with fail
 refine U.out.mono ?_;rintro e w1 ⟨rfl,F,H⟩;have c0:=G.out w1 F;have I:=hid F;have O:=hid H;clear F H;go_wp2;go_ret;exact⟨rfl,I.out,O.out⟩
theorem zS(rb yb yo cap:Nat)(body:List UInt8)(p bg:Nat)(w:World)(h:dG w rb yb yo cap body p bg):
  Calls prog 162 #[.pointer (some ⟨rb,0,none⟩)] w fun e w'=>e=.returned (.bool (decide (p=body.length)))/\∃q,w'=w.drewN q:=by
 have G:w.cell? ⟨rb,0,none⟩=some (.slice (some ⟨yb,yo,none⟩) body.length cap):=h.blk.cell 0;have H:w.cell? ⟨rb,1,none⟩=some (.int .i64 p):=h.blk.cell 1
 have F:Hid (((p:Int)==(body.length:Int))=decide (p=body.length)):=by
  unfold Hid;rw[Bool.eq_iff_iff,beq_iff_eq,decide_eq_true_iff];omega
 clear h;go_enter func162,ntmps162
 go_wp2_with fail
 go_quiet (fail)
 go_wp2;go_ret;exact⟨aP F.out,nq,rfl⟩
theorem w_(r:Value)(n F:Nat)(w:World)(h:F<=n)(O:n<18446744073709551616):
  Calls prog 346 #[r,.int .u64 n,.int .u64 F] w fun e w'=>e=.returned (.int .u64 ((n-F:Nat):Int))/\w'=w:=by
 have G:¬((n:Int)<(F:Int)):=by omega
 have H:(n:Int)-(F:Int)=((n-F:Nat):Int):=by omega
 have I:((n-F:Nat):Int)<18446744073709551616:=by omega
 generalize n-F=d at *;go_enter func346,ntmps346;go_wp2;go_ret;exact⟨rfl,rfl⟩
theorem Bn(T X:Nat)(G:T<72057594037927936)(F:X<256):bits .or .u64 ((T:Int)*256) (X:Int)=((T*256+X:Nat):Int):=by
 have h:=u64_or_nat (T*256) X (by omega) (by omega);rw[Nat.or_comm,sJ X T 8 F,Nat.add_comm]at h;rw[<-h];simp
theorem rA(l:List UInt8)(a k:Nat)(h:k<l.length):Num.val a (l.take (k+1))=Num.val a (l.take k)*256+(l[k]).toNat:=by
 rw[R3 h,C_]
theorem NZ(rb yb yo cap:Nat)(body:List UInt8)(p bg:Nat)(w:World)(h:dG w rb yb yo cap body p bg)(hp:p+1<=body.length)(hc:(body[p]'(by omega)).toNat / 64=0):
  Calls prog 161 #[.pointer (some ⟨rb,0,none⟩)] w fun e w'=>e=.returned (.int .u64 ((Num.val ((body[p]'(by omega)).toNat % 64) ((body.drop (p+1)).take 0):Nat):Int))/\dG w' rb yb yo cap body (p+1) bg/\cu rb w w':=by
 have qX:=hid (lC rb yb yo cap body p bg w h (by omega));have Ja:=hid (fun w' (h':dG w' rb yb yo cap body (p+1) bg)=>lu rb yb yo cap body (p+1) bg 0 w' h' (by omega));have za:=hid (fun w' (h':dG w' rb yb yo cap body (p+1+0) bg) j (hj:j<0)=>h'.byte (p+1+j) (by omega));have hX:=Crc.jv (body[p]'(by omega));generalize (body[p]'(by omega)).toNat=X at *
 have e1:bits .and .u8 (X:Int) 63=((X % 64:Nat):Int):=by
  have he:X&&& 63=X % 64:=uj X 6;rw[<-he];exact u8_and_nat X 63 (by omega) (by omega)
 have e2:(X:Int) / 64=0:=by omega
 have e3:((X % 64:Nat):Int)<64:=by omega
 obtain⟨F,G⟩:∃F,F=(body.drop (p+1)).take 0:=⟨_,rfl⟩
 have h2:F.length=0:=by rw[G,M4,tL];omega
 have h6:Hid (∀j (hj:j<0),∃x T:Nat,x<256/\body[p+1+j]?.map Z9=some x/\T=Num.val (X % 64) (F.take j)/\T<72057594037927936/\Num.val (X % 64) (F.take (j+1))=T*256+x):=fun j hj=>by
  refine⟨(F[j]'(by omega)).toNat,_,Crc.jv _,?_,rfl,?_,rA F _ j (by omega)⟩
  ·have:F[j]?=body[p+1+j]?:=by rw[G,KG,if_pos hj,Bu]
   rw[<-this,jK (by omega)];rfl
  ·have:=sU (F.take j) (X % 64) 1 (by omega)
   have hl:(F.take j).length=j:=by simp;omega
   rw[hl]at this;have h7:(256:Nat) ^ (1+j)<=256 ^ 7:=Gl (by decide) (by omega);omega
 have HV:Hid (Num.val (X % 64) (F.take 0)=Num.val (X % 64) F):=by unfold Hid;rw[CK (by omega)]
 have h9:Hid (Num.val (X % 64) (F.take 0)=X % 64):=rfl;rw[<-G];clear hc h G h2;generalize X % 64=ha at *;go_enter func161,ntmps161
 go_wp2_with fail
 refine qX.out.mono ?_;rintro e w1 ⟨rfl,sG,U⟩;have h8:=hid (Ja.out w1 sG);have qI:=hid U;clear sG U
 go_wp2_with fail
 refine h8.out.mono ?_;rintro e w2 ⟨rfl,H,V⟩;have h4:=hid H;have h5:=hid (qI.out.trans V);have Gt:=hid (za.out w2 H);clear H V
 go_wp2_with fail
 go_loopw [4,19] (fun s4 Bo wr=>∃k:Nat,k<=0/\Bo=.int .i64 k/\s4=.int .u64 (Num.val ha (F.take k):Nat)/\wr=w2) (fun _ Bo _=>0-(intOf Bo).toNat)
 case atStart=>exact⟨0,Lb _,rfl,by rw[h9.out],rfl⟩
 case round=>
  obtain⟨k,hk,rfl,rfl,rfl⟩:=hrel
  by_cases h3:k<0
  ·have hg:(k:Int)<0:=by omega
   obtain⟨x,T,hx,I,hT,Vb,O⟩:=h6.out k h3;have hf:=Gt.out k h3
   have h0:((body[p+1+k]'(by omega)).toNat:Nat)=x:=by
    rw[jK (by omega)]at I;simpa using I
   rw[h0,show yo+(p+1+k)=yo+(p+1)+k by omega]at hf;have e5:=Bn T x Vb hx;obtain⟨T',Z⟩:∃T',T'=T*256+x:=⟨_,rfl⟩;rw[<-Z]at e5 O;rw[<-hT];have HS:=hid O;clear O Z h0 I hT
   go_wp2_with fail
   go_roundw
   case rel=>exact⟨k+1,by omega,by go_num,by rw[HS.out],trivial⟩
   case measure=>simp[intOf];omega
  ·obtain rfl:k=0:=by omega
   rw[HV.out];go_wp2;go_ret;exact⟨rfl,h4.out,h5.out⟩
theorem N7(rb yb yo cap:Nat)(body:List UInt8)(p bg:Nat)(w:World)(h:dG w rb yb yo cap body p bg)(hp:p+2<=body.length)(hc:(body[p]'(by omega)).toNat / 64=1):
  Calls prog 161 #[.pointer (some ⟨rb,0,none⟩)] w fun e w'=>e=.returned (.int .u64 ((Num.val ((body[p]'(by omega)).toNat % 64) ((body.drop (p+1)).take 1):Nat):Int))/\dG w' rb yb yo cap body (p+2) bg/\cu rb w w':=by
 have qX:=hid (lC rb yb yo cap body p bg w h (by omega));have Ja:=hid (fun w' (h':dG w' rb yb yo cap body (p+1) bg)=>lu rb yb yo cap body (p+1) bg 1 w' h' (by omega));have za:=hid (fun w' (h':dG w' rb yb yo cap body (p+1+1) bg) j (hj:j<1)=>h'.byte (p+1+j) (by omega));have hX:=Crc.jv (body[p]'(by omega));generalize (body[p]'(by omega)).toNat=X at *
 have e1:bits .and .u8 (X:Int) 63=((X % 64:Nat):Int):=by
  have he:X&&& 63=X % 64:=uj X 6;rw[<-he];exact u8_and_nat X 63 (by omega) (by omega)
 have e2:(X:Int) / 64=1:=by omega
 have e3:((X % 64:Nat):Int)<64:=by omega
 obtain⟨F,G⟩:∃F,F=(body.drop (p+1)).take 1:=⟨_,rfl⟩
 have h2:F.length=1:=by rw[G,M4,tL];omega
 have h6:Hid (∀j (hj:j<1),∃x T:Nat,x<256/\body[p+1+j]?.map Z9=some x/\T=Num.val (X % 64) (F.take j)/\T<72057594037927936/\Num.val (X % 64) (F.take (j+1))=T*256+x):=fun j hj=>by
  refine⟨(F[j]'(by omega)).toNat,_,Crc.jv _,?_,rfl,?_,rA F _ j (by omega)⟩
  ·have:F[j]?=body[p+1+j]?:=by rw[G,KG,if_pos hj,Bu]
   rw[<-this,jK (by omega)];rfl
  ·have:=sU (F.take j) (X % 64) 1 (by omega)
   have hl:(F.take j).length=j:=by simp;omega
   rw[hl]at this;have h7:(256:Nat) ^ (1+j)<=256 ^ 7:=Gl (by decide) (by omega);omega
 have HV:Hid (Num.val (X % 64) (F.take 1)=Num.val (X % 64) F):=by unfold Hid;rw[CK (by omega)]
 have h9:Hid (Num.val (X % 64) (F.take 0)=X % 64):=rfl;rw[<-G];clear hc h G h2;generalize X % 64=ha at *;go_enter func161,ntmps161
 go_wp2_with fail
 refine qX.out.mono ?_;rintro e w1 ⟨rfl,sG,U⟩;have h8:=hid (Ja.out w1 sG);have qI:=hid U;clear sG U
 go_wp2_with fail
 refine h8.out.mono ?_;rintro e w2 ⟨rfl,H,V⟩;have h4:=hid H;have h5:=hid (qI.out.trans V);have Gt:=hid (za.out w2 H);clear H V
 go_wp2_with fail
 go_loopw [4,19] (fun s4 Bo wr=>∃k:Nat,k<=1/\Bo=.int .i64 k/\s4=.int .u64 (Num.val ha (F.take k):Nat)/\wr=w2) (fun _ Bo _=>1-(intOf Bo).toNat)
 case atStart=>exact⟨0,Lb _,rfl,by rw[h9.out],rfl⟩
 case round=>
  obtain⟨k,hk,rfl,rfl,rfl⟩:=hrel
  by_cases h3:k<1
  ·have hg:(k:Int)<1:=by omega
   obtain⟨x,T,hx,I,hT,Vb,O⟩:=h6.out k h3;have hf:=Gt.out k h3
   have h0:((body[p+1+k]'(by omega)).toNat:Nat)=x:=by
    rw[jK (by omega)]at I;simpa using I
   rw[h0,show yo+(p+1+k)=yo+(p+1)+k by omega]at hf;have e5:=Bn T x Vb hx;obtain⟨T',Z⟩:∃T',T'=T*256+x:=⟨_,rfl⟩;rw[<-Z]at e5 O;rw[<-hT];have HS:=hid O;clear O Z h0 I hT
   go_wp2_with fail
   go_roundw
   case rel=>exact⟨k+1,by omega,by go_num,by rw[HS.out],trivial⟩
   case measure=>simp[intOf];omega
  ·obtain rfl:k=1:=by omega
   rw[HV.out];go_wp2;go_ret;exact⟨rfl,h4.out,h5.out⟩
theorem N8(rb yb yo cap:Nat)(body:List UInt8)(p bg:Nat)(w:World)(h:dG w rb yb yo cap body p bg)(hp:p+4<=body.length)(hc:(body[p]'(by omega)).toNat / 64=2):
  Calls prog 161 #[.pointer (some ⟨rb,0,none⟩)] w fun e w'=>e=.returned (.int .u64 ((Num.val ((body[p]'(by omega)).toNat % 64) ((body.drop (p+1)).take 3):Nat):Int))/\dG w' rb yb yo cap body (p+4) bg/\cu rb w w':=by
 have qX:=hid (lC rb yb yo cap body p bg w h (by omega));have Ja:=hid (fun w' (h':dG w' rb yb yo cap body (p+1) bg)=>lu rb yb yo cap body (p+1) bg 3 w' h' (by omega));have za:=hid (fun w' (h':dG w' rb yb yo cap body (p+1+3) bg) j (hj:j<3)=>h'.byte (p+1+j) (by omega));have hX:=Crc.jv (body[p]'(by omega));generalize (body[p]'(by omega)).toNat=X at *
 have e1:bits .and .u8 (X:Int) 63=((X % 64:Nat):Int):=by
  have he:X&&& 63=X % 64:=uj X 6;rw[<-he];exact u8_and_nat X 63 (by omega) (by omega)
 have e2:(X:Int) / 64=2:=by omega
 have e3:((X % 64:Nat):Int)<64:=by omega
 obtain⟨F,G⟩:∃F,F=(body.drop (p+1)).take 3:=⟨_,rfl⟩
 have h2:F.length=3:=by rw[G,M4,tL];omega
 have h6:Hid (∀j (hj:j<3),∃x T:Nat,x<256/\body[p+1+j]?.map Z9=some x/\T=Num.val (X % 64) (F.take j)/\T<72057594037927936/\Num.val (X % 64) (F.take (j+1))=T*256+x):=fun j hj=>by
  refine⟨(F[j]'(by omega)).toNat,_,Crc.jv _,?_,rfl,?_,rA F _ j (by omega)⟩
  ·have:F[j]?=body[p+1+j]?:=by rw[G,KG,if_pos hj,Bu]
   rw[<-this,jK (by omega)];rfl
  ·have:=sU (F.take j) (X % 64) 1 (by omega)
   have hl:(F.take j).length=j:=by simp;omega
   rw[hl]at this;have h7:(256:Nat) ^ (1+j)<=256 ^ 7:=Gl (by decide) (by omega);omega
 have HV:Hid (Num.val (X % 64) (F.take 3)=Num.val (X % 64) F):=by unfold Hid;rw[CK (by omega)]
 have h9:Hid (Num.val (X % 64) (F.take 0)=X % 64):=rfl;rw[<-G];clear hc h G h2;generalize X % 64=ha at *;go_enter func161,ntmps161
 go_wp2_with fail
 refine qX.out.mono ?_;rintro e w1 ⟨rfl,sG,U⟩;have h8:=hid (Ja.out w1 sG);have qI:=hid U;clear sG U
 go_wp2_with fail
 refine h8.out.mono ?_;rintro e w2 ⟨rfl,H,V⟩;have h4:=hid H;have h5:=hid (qI.out.trans V);have Gt:=hid (za.out w2 H);clear H V
 go_wp2_with fail
 go_loopw [4,19] (fun s4 Bo wr=>∃k:Nat,k<=3/\Bo=.int .i64 k/\s4=.int .u64 (Num.val ha (F.take k):Nat)/\wr=w2) (fun _ Bo _=>3-(intOf Bo).toNat)
 case atStart=>exact⟨0,Lb _,rfl,by rw[h9.out],rfl⟩
 case round=>
  obtain⟨k,hk,rfl,rfl,rfl⟩:=hrel
  by_cases h3:k<3
  ·have hg:(k:Int)<3:=by omega
   obtain⟨x,T,hx,I,hT,Vb,O⟩:=h6.out k h3;have hf:=Gt.out k h3
   have h0:((body[p+1+k]'(by omega)).toNat:Nat)=x:=by
    rw[jK (by omega)]at I;simpa using I
   rw[h0,show yo+(p+1+k)=yo+(p+1)+k by omega]at hf;have e5:=Bn T x Vb hx;obtain⟨T',Z⟩:∃T',T'=T*256+x:=⟨_,rfl⟩;rw[<-Z]at e5 O;rw[<-hT];have HS:=hid O;clear O Z h0 I hT
   go_wp2_with fail
   go_roundw
   case rel=>exact⟨k+1,by omega,by go_num,by rw[HS.out],trivial⟩
   case measure=>simp[intOf];omega
  ·obtain rfl:k=3:=by omega
   rw[HV.out];go_wp2;go_ret;exact⟨rfl,h4.out,h5.out⟩
theorem N_(rb yb yo cap:Nat)(body:List UInt8)(p bg:Nat)(w:World)(h:dG w rb yb yo cap body p bg)(hp:p+8<=body.length)(hc:(body[p]'(by omega)).toNat / 64=3):
  Calls prog 161 #[.pointer (some ⟨rb,0,none⟩)] w fun e w'=>e=.returned (.int .u64 ((Num.val ((body[p]'(by omega)).toNat % 64) ((body.drop (p+1)).take 7):Nat):Int))/\dG w' rb yb yo cap body (p+8) bg/\cu rb w w':=by
 have qX:=hid (lC rb yb yo cap body p bg w h (by omega));have Ja:=hid (fun w' (h':dG w' rb yb yo cap body (p+1) bg)=>lu rb yb yo cap body (p+1) bg 7 w' h' (by omega));have za:=hid (fun w' (h':dG w' rb yb yo cap body (p+1+7) bg) j (hj:j<7)=>h'.byte (p+1+j) (by omega));have hX:=Crc.jv (body[p]'(by omega));generalize (body[p]'(by omega)).toNat=X at *
 have e1:bits .and .u8 (X:Int) 63=((X % 64:Nat):Int):=by
  have he:X&&& 63=X % 64:=uj X 6;rw[<-he];exact u8_and_nat X 63 (by omega) (by omega)
 have e2:(X:Int) / 64=3:=by omega
 have e3:((X % 64:Nat):Int)<64:=by omega
 obtain⟨F,G⟩:∃F,F=(body.drop (p+1)).take 7:=⟨_,rfl⟩
 have h2:F.length=7:=by rw[G,M4,tL];omega
 have h6:Hid (∀j (hj:j<7),∃x T:Nat,x<256/\body[p+1+j]?.map Z9=some x/\T=Num.val (X % 64) (F.take j)/\T<72057594037927936/\Num.val (X % 64) (F.take (j+1))=T*256+x):=fun j hj=>by
  refine⟨(F[j]'(by omega)).toNat,_,Crc.jv _,?_,rfl,?_,rA F _ j (by omega)⟩
  ·have:F[j]?=body[p+1+j]?:=by rw[G,KG,if_pos hj,Bu]
   rw[<-this,jK (by omega)];rfl
  ·have:=sU (F.take j) (X % 64) 1 (by omega)
   have hl:(F.take j).length=j:=by simp;omega
   rw[hl]at this;have h7:(256:Nat) ^ (1+j)<=256 ^ 7:=Gl (by decide) (by omega);omega
 have HV:Hid (Num.val (X % 64) (F.take 7)=Num.val (X % 64) F):=by unfold Hid;rw[CK (by omega)]
 have h9:Hid (Num.val (X % 64) (F.take 0)=X % 64):=rfl;rw[<-G];clear hc h G h2;generalize X % 64=ha at *;go_enter func161,ntmps161
 go_wp2_with fail
 refine qX.out.mono ?_;rintro e w1 ⟨rfl,sG,U⟩;have h8:=hid (Ja.out w1 sG);have qI:=hid U;clear sG U
 go_wp2_with fail
 refine h8.out.mono ?_;rintro e w2 ⟨rfl,H,V⟩;have h4:=hid H;have h5:=hid (qI.out.trans V);have Gt:=hid (za.out w2 H);clear H V
 go_wp2_with fail
 go_loopw [4,19] (fun s4 Bo wr=>∃k:Nat,k<=7/\Bo=.int .i64 k/\s4=.int .u64 (Num.val ha (F.take k):Nat)/\wr=w2) (fun _ Bo _=>7-(intOf Bo).toNat)
 case atStart=>exact⟨0,Lb _,rfl,by rw[h9.out],rfl⟩
 case round=>
  obtain⟨k,hk,rfl,rfl,rfl⟩:=hrel
  by_cases h3:k<7
  ·have hg:(k:Int)<7:=by omega
   obtain⟨x,T,hx,I,hT,Vb,O⟩:=h6.out k h3;have hf:=Gt.out k h3
   have h0:((body[p+1+k]'(by omega)).toNat:Nat)=x:=by
    rw[jK (by omega)]at I;simpa using I
   rw[h0,show yo+(p+1+k)=yo+(p+1)+k by omega]at hf;have e5:=Bn T x Vb hx;obtain⟨T',Z⟩:∃T',T'=T*256+x:=⟨_,rfl⟩;rw[<-Z]at e5 O;rw[<-hT];have HS:=hid O;clear O Z h0 I hT
   go_wp2_with fail
   go_roundw
   case rel=>exact⟨k+1,by omega,by go_num,by rw[HS.out],trivial⟩
   case measure=>simp[intOf];omega
  ·obtain rfl:k=7:=by omega
   rw[HV.out];go_wp2;go_ret;exact⟨rfl,h4.out,h5.out⟩
theorem eG(rb yb yo cap:Nat)(body:List UInt8)(p bg n:Nat)(rest:List UInt8)(w:World)(h:dG w rb yb yo cap body p bg)(hn:n<4611686018427387904)(hb:body.drop p=Num.bytes n++rest):
  Calls prog 161 #[.pointer (some ⟨rb,0,none⟩)] w fun e w'=>e=.returned (.int .u64 n)/\dG w' rb yb yo cap body (p+(Num.bytes n).length) bg/\cu rb w w':=by
 have G:=Num.Fy n hn rest;rw[<-hb]at G
 have h0:0<(Num.bytes n).length:=by rw[Num.dJ];exact Nat.pow_pos (by decide)
 have h3:(body.drop p).length=(Num.bytes n).length+rest.length:=by rw[hb,nI]
 have h4:(body.drop p).length=body.length-p:=tL
 have hp:p<body.length:=by omega
 have hd:body.drop p=body[p]::body.drop (p+1):=Vp hp;rw[hd,Num.zo]at G;have h2:(body.drop (p+1)).length=body.length-(p+1):=tL;generalize F:(body[p]).toNat=X at G;have Z:=Crc.jv body[p];rw[F]at Z
 by_cases hs:(body.drop (p+1)).length<2 ^ (X / 64)-1
 ·rw[if_pos hs]at G;cases G
 ·rw[if_neg hs]at G;simp only[Option.some.injEq,Prod.mk.injEq]at G;obtain⟨H,I⟩:=G
  have O:((body.drop (p+1)).drop (2 ^ (X / 64)-1)).length=rest.length:=by rw[I]
  rw[tL]at O
  have V:X / 64=0\/X / 64=1\/X / 64=2\/X / 64=3:=by omega
  have U:(Num.bytes n).length=2 ^ (X / 64):=by
   rcases V with e|e|e|e<;>rw[e]at hs O ⊢<;>simp at hs O ⊢<;>omega
  rw[U]
  rcases V with e|e|e|e
  ·rw[e]at H U ⊢;have:=NZ rb yb yo cap body p bg w h (by omega) (by rw[F];exact e);rw[F,H]at this;exact this
  ·rw[e]at H U ⊢;have:=N7 rb yb yo cap body p bg w h (by omega) (by rw[F];exact e);rw[F,H]at this;exact this
  ·rw[e]at H U ⊢;have:=N8 rb yb yo cap body p bg w h (by omega) (by rw[F];exact e);rw[F,H]at this;exact this
  ·rw[e]at H U ⊢;have:=N_ rb yb yo cap body p bg w h (by omega) (by rw[F];exact e);rw[F,H]at this;exact this
structure RP (B0 B1 rb fb yb yo cap:Nat) (body:List UInt8) (w:World) (p bg:Nat) (cur:Fr) (v9:Value):Prop where
 rd:dG w rb yb yo cap body p bg
 nG:ak w fb 65 (dU cur v9)
 rng:bn 170 2 w v9 cur.ranges.length (aC cur.ranges)
 own:Own B1 v9
 h01:B0<=B1
 hB:B1<=w.heap.size
 rbl:rb<B0
 fbl:fb<B0
 ybl:yb<B0
 rf:rb≠fb
 fy:fb≠yb
structure oC (B1 rb fb:Nat) (w w':World):Prop where
 os:w'.os=w.os
 tape:w'.tape=w.tape
 output:w'.output=w.output
 size:w.heap.size<=w'.heap.size
 block:∀k,k<B1->k≠rb->k≠fb->w'.heap[k]?=w.heap[k]?
theorem oC.refl(B1 rb fb:Nat)(w:World):oC B1 rb fb w w:=⟨rfl,rfl,rfl,ZE _,fun _ _ _ _=>rfl⟩
theorem oC.trans{B1 rb fb:Nat}{a b c:World}(h:oC B1 rb fb a b)(k:oC B1 rb fb b c):oC B1 rb fb a c:=
 ⟨k.os.trans h.os,k.tape.trans h.tape,k.output.trans h.output,qa5 h.size k.size,fun i F h1 G=>(k.block i F h1 G).trans (h.block i F h1 G)⟩
theorem cu.two{rb:Nat}{w w':World}(h:cu rb w w')(B1 fb:Nat):oC B1 rb fb w w':=⟨h.os,h.tape,h.output,Nat.le_of_eq h.size.symm,fun k _ h1 _=>h.block k h1⟩
theorem oC.xg(B1 rb fb o:Nat)(v:Value)(w:World):oC B1 rb fb w (w.setCell ⟨fb,o,none⟩ v):=⟨rfl,rfl,rfl,by simp,fun k _ _ h=>mR _ _ _ _ h⟩
theorem oC.keep{B0 B1 rb fb:Nat}{w1 w w':World}(h:oC B1 rb fb w w')(F:Keep B0 B1 w1 w)(I:rb<B0)(H:fb<B0):Keep B0 B1 w1 w':=
 ⟨qa5 F.1 h.size,fun k G h1=>(h.block k h1 (by omega) (by omega)).trans (F.2 k G h1)⟩
theorem RP.step{B0 B1 rb fb yb yo cap:Nat}{body:List UInt8}{w w':World}{p F bg:Nat}{cur:Fr}{v9:Value}(h:RP B0 B1 rb fb yb yo cap body w p bg cur v9)(G:dG w' rb yb yo cap body F bg)(hs:cu rb w w'):RP B0 B1 rb fb yb yo cap body w' F bg cur v9:=
 ⟨G,h.nG.of_heap (hs.block _ (Ne.symm h.rf)),h.rng.of_heap (fun b hb=>hs.block b (by have:=h.own b hb;have:=h.rbl;have:=h.h01;omega)),h.own,h.h01,by rw[hs.size];exact h.hB,h.rbl,h.fbl,h.ybl,h.rf,h.fy⟩
theorem RP.xg{B0 B1 rb fb yb yo cap:Nat}{body:List UInt8}{w:World}{p bg:Nat}{cur cur':Fr}{v9:Value}(h:RP B0 B1 rb fb yb yo cap body w p bg cur v9)(o:Nat)(x:Value)(F:(dU cur v9).set o x=dU cur' v9)(G:cur'.ranges=cur.ranges):RP B0 B1 rb fb yb yo cap body (w.setCell ⟨fb,o,none⟩ x) p bg cur' v9:=
 ⟨h.rd.of (mR _ _ _ _ h.rf) (mR _ _ _ _ (Ne.symm h.fy)),by rw[<-F];exact h.nG.setCell o x,by rw[G];exact h.rng.of_heap (fun b hb=>mR _ _ _ _ (by have:=h.own b hb;have:=h.fbl;have:=h.h01;simp;omega)),h.own,h.h01,by simp;exact h.hB,h.rbl,h.fbl,h.ybl,h.rf,h.fy⟩
def dN(f:Fr)(F:Nat×Nat)(cur:Fr):Fr:=
 if F.1=0 then cur else if F.1=1 then{cur with fin:=f.fin}else if F.1=2 then{cur with stream:=f.stream}
 else if F.1=3 then(if F.2=279 then{cur with offset:=f.offset}else if F.2=280 then{cur with reliable:=f.reliable}else if F.2=283 then{cur with limit:=f.limit}else if F.2=284 then{cur with id:=f.id}else{cur with deadline:=f.deadline})
 else if F.1=4 then{cur with data:=f.data}else{cur with ranges:=f.ranges}
def Rd(B0 B1:Nat)(w1:World)(fv:Value)(sp:List UInt8)(upd:Fr->Fr)(rb fb yb yo cap:Nat)(body:List UInt8)(bg:Nat):Prop:=
 ∃g cb,fv=.func (.func g) #[] cb/\(∀args w,(callFunc g args).run prog w=.ok (.enter g args) w)/\
  ∀w p cur v9 rest,Keep B0 B1 w1 w->RP B0 B1 rb fb yb yo cap body w p bg cur v9->cur.ranges=[]->body.drop p=sp++rest->
   Calls prog g (#[.pointer (some ⟨rb,0,none⟩),.pointer (some ⟨fb,0,none⟩)]++cb) w fun e w'=>e=.returned (.tuple #[])/\∃F,RP B0 B1 rb fb yb yo cap body w' (p+sp.length) bg (upd cur) F/\oC B1 rb fb w w'
theorem drop_byte{body rest:List UInt8}{p:Nat}{x:UInt8}(h:body.drop p=[x]++rest):∃hp:p<body.length,body[p]=x:=by
 have hl:(body.drop p).length=1+rest.length:=by rw[h];simp;omega
 rw[tL]at hl
 have hp:p<body.length:=by omega
 refine⟨hp,?_⟩;rw[Vp hp]at h;exact(List.cons.inj h).1
theorem gH{body a b:List UInt8}{p:Nat}(h:body.drop p=a++b):body.drop (p+a.length)=b:=by
 rw[<-List.drop_drop,h,Kt];rfl
theorem Oa{B0 B1:Nat}{w1:World}(x:UInt8)(rb fb yb yo cap:Nat)(body:List UInt8)(bg:Nat):
  Rd B0 B1 w1 (.func (.func 322) #[] #[]) [x] (fun cur=>cur) rb fb yb yo cap body bg:=by
 refine⟨322,_,rfl,enters_of func322 (by kernel_rfl) rfl,fun w p cur v9 rest _ F _ hb=>?_⟩;obtain⟨hp,V⟩:=drop_byte hb;have I:=hid (lC rb yb yo cap body p bg w F.rd hp);have U:=hid F;clear F hb;go_enter func322,ntmps322
 go_wp2_with fail
 refine I.out.mono ?_;rintro e X ⟨rfl,H,G⟩;have O:=hid (And.intro (U.out.step H G) (G.two B1 fb));clear H G;go_wp2;go_end0;exact⟨rfl,v9,O.out⟩
theorem Bp{B0 B1:Nat}{w1:World}(fin:Bool)(rb fb yb yo cap:Nat)(body:List UInt8)(bg:Nat):
  Rd B0 B1 w1 (.func (.func 332) #[] #[]) [if fin then 9 else 8] (fun cur=>{cur with fin:=fin}) rb fb yb yo cap body bg:=by
 refine⟨332,_,rfl,enters_of func332 (by kernel_rfl) rfl,fun w p cur v9 rest _ V _ hb=>?_⟩;obtain⟨hp,Z⟩:=drop_byte hb;have O:=hid (lC rb yb yo cap body p bg w V.rd hp);rw[Z]at O;have X:=hid V;clear V hb Z;cases fin
 ·go_enter func332,ntmps332
  go_wp2_with fail
  refine O.out.mono ?_;rintro e I ⟨rfl,H,G⟩;have F:=X.out.step H G;have x5:I.cell? ⟨fb,5,none⟩=some (.bool cur.fin):=F.nG.cell 5;have z5:=F.nG.frozen 5;have U:=hid (And.intro (F.xg 5 (.bool false) (cur':={cur with fin:=false}) rfl rfl) ((G.two B1 fb).trans (oC.xg B1 rb fb 5 (.bool false) I)));clear H G F;go_wp2;go_end0;exact⟨rfl,v9,U.out⟩
 ·go_enter func332,ntmps332
  go_wp2_with fail
  refine O.out.mono ?_;rintro e I ⟨rfl,H,G⟩;have F:=X.out.step H G;have x5:I.cell? ⟨fb,5,none⟩=some (.bool cur.fin):=F.nG.cell 5;have z5:=F.nG.frozen 5;have U:=hid (And.intro (F.xg 5 (.bool true) (cur':={cur with fin:=true}) rfl rfl) ((G.two B1 fb).trans (oC.xg B1 rb fb 5 (.bool true) I)));clear H G F;go_wp2;go_end0;exact⟨rfl,v9,U.out⟩
theorem KD{B0 B1:Nat}{w1:World}(s:Int)(G:0<=s)(O:s<8)(rb fb yb yo cap:Nat)(body:List UInt8)(bg:Nat):
  Rd B0 B1 w1 (.func (.func 328) #[] #[]) (Num.bytes s.toNat) (fun cur=>{cur with stream:=s}) rb fb yb yo cap body bg:=by
 refine⟨328,_,rfl,enters_of func328 (by kernel_rfl) rfl,fun w p cur v9 rest _ H _ hb=>?_⟩;obtain⟨n,rfl⟩:=Int.eq_ofNat_of_zero_le G;rw[Int.toNat_natCast]at hb ⊢;have X:=hid (eG rb yb yo cap body p bg n rest w H.rd (by omega) hb);have HP:=hid H
 have g1:¬((8:Int)<=(n:Int)):=by omega
 have g2:(n:Int)<8:=by omega
 clear H hb G O;go_enter func328,ntmps328
 go_wp2_with fail
 refine X.out.mono ?_;rintro e V ⟨rfl,U,I⟩;have F:=HP.out.step U I;have x1:V.cell? ⟨fb,1,none⟩=some (.int .i64 cur.stream):=F.nG.cell 1;have z1:=F.nG.frozen 1;have Z:=hid (And.intro (F.xg 1 (.int .i64 n) (cur':={cur with stream:=(n:Int)}) rfl rfl) ((I.two B1 fb).trans (oC.xg B1 rb fb 1 (.int .i64 n) V)));clear U I F;go_wp2;go_end0;exact⟨rfl,v9,Z.out⟩
theorem lF{B0 B1:Nat}{w1:World}(pb O i n:Nat)(upd:Fr->Fr)(rb fb yb yo cap:Nat)(body:List UInt8)(bg:Nat)(h0:B0<=pb)(h1:pb<B1)(hx:w1.cell? ⟨pb,0,none⟩=some (.func (.func O) #[] #[]))(he:∀args w,(callFunc O args).run prog w=.ok (.enter O args) w)(H:∀b w,Calls prog O #[.pointer (some ⟨b,0,none⟩)] w fun e w'=>e=.returned (.pointer (some ⟨b,i,none⟩))/\w'=w)(hc:∀cur v9,∃I:Int,(dU cur v9)[i]?=some (.int .u64 I))(hu:∀cur v9,(dU cur v9).set i (.int .u64 n)=dU (upd cur) v9/\(upd cur).ranges=cur.ranges)(hn:n<=aU):
  Rd B0 B1 w1 (.func (.func 330) #[] #[.pointer (some ⟨pb,0,none⟩)]) (Num.bytes n) upd rb fb yb yo cap body bg:=by
 refine⟨330,_,rfl,enters_of func330 (by kernel_rfl) rfl,fun w p cur v9 rest hK V _ hb=>?_⟩;have cc:=hK.cell h0 h1 hx;have HB:=hid (eG rb yb yo cap body p bg n rest w V.rd (by unfold aU at hn;omega) hb);have HP:=hid V;have U:=hid (H fb w);have HU:=hid (hu cur v9);obtain⟨I,hold⟩:=hc cur v9;have G:=hid hold;clear V hb hK H hc hu hn hx hold;go_enter func330,ntmps330
 go_wp2_with fail
 refine U.out.mono ?_;rintro e w' ⟨rfl,Z⟩;subst Z
 go_wp2_with fail
 refine HB.out.mono ?_;rintro e w2 ⟨rfl,hR,X⟩;have F:=HP.out.step hR X;have x1:=F.nG.cell i;rw[G.out]at x1;have z1:=F.nG.frozen i;have HF:=hid (And.intro (F.xg i (.int .u64 n) HU.out.1 HU.out.2) ((X.two B1 fb).trans (oC.xg B1 rb fb i (.int .u64 n) w2)));clear hR X F;go_wp2;go_end0;exact⟨rfl,v9,HF.out⟩
theorem ba_eq(d:ByteArray):(⟨d.data.toList.toArray⟩:ByteArray)=d:=by
 cases d;simp
theorem Sn{B0 B1:Nat}{w1:World}(d:ByteArray)(hd:d.size<=1000000000)(rb fb yb yo cap:Nat)(body:List UInt8)(bg:Nat):
  Rd B0 B1 w1 (.func (.func 334) #[] #[]) (Num.bytes d.size++d.data.toList) (fun cur=>{cur with data:=d}) rb fb yb yo cap body bg:=by
 refine⟨334,_,rfl,enters_of func334 (by kernel_rfl) rfl,fun w p cur v9 rest _ hP _ hb=>?_⟩;rw[tT]at hb;have U:=gH hb
 have F:d.data.toList.length=d.size:=by rw[Array.length_toList];rfl
 have H:p+(Num.bytes d.size).length+d.size<=body.length:=by
  have h1:(body.drop (p+(Num.bytes d.size).length)).length=d.size+rest.length:=by rw[U,nI,F]
  rw[tL]at h1
  have h2:(body.drop p).length=(Num.bytes d.size).length+(d.size+rest.length):=by rw[hb,nI,nI,F]
  rw[tL]at h2;have h3:=hP.rd.le
  have h4:0<(Num.bytes d.size).length:=by rw[Num.dJ];exact Nat.pow_pos (by decide)
  omega
 have HB:=hid (eG rb yb yo cap body p bg d.size _ w hP.rd (by omega) hb);have HP:=hid hP;have V:=hid H
 have X:∀j (hj:j<d.size),body[p+(Num.bytes d.size).length+j]?=some (d.data.toList[j]'(by omega)):=fun j hj=>by
  have:(body.drop (p+(Num.bytes d.size).length))[j]?=(d.data.toList++rest)[j]?:=by rw[U]
  rw[Bu,List.getElem?_append_left (by omega)]at this;rw[this];exact jK _
 have Z:∀w',dG w' rb yb yo cap body (p+(Num.bytes d.size).length+d.size) bg->∀c,(convert 60 9 (.slice (some ⟨yb,yo+(p+(Num.bytes d.size).length),none⟩) d.size c)).run prog w'=.ok (.string d) w':=fun w' h' c=>by
  have:=run_convert_bytes_back (P:=prog) w' 60 9 5 ⟨yb,yo+(p+(Num.bytes d.size).length),none⟩ c d.data.toList u29 (by kernel_rfl) u9 (fun j hj=>by
   rw[Addr.add_lit,qa2];have h1:=X j (by omega)
   have h0:p+(Num.bytes d.size).length+j<body.length:=by omega
   rw[h'.byte _ h0];rw[jK h0]at h1
   rw[Option.some.inj h1])
  rw[F,ba_eq]at this;exact this
 have h5:=hid Z
 have Y6:Hid ((Num.bytes d.size++d.data.toList).length=(Num.bytes d.size).length+d.size):=by unfold Hid;rw[nI,F]
 have g1:(d.size:Int)<=1000000000:=by omega
 clear hP hb U H X Z F;generalize (Num.bytes d.size).length=L at *;generalize hsz:d.size=n at *;go_enter func334,ntmps334
 go_wp2_with fail
 refine HB.out.mono ?_;rintro e w2 ⟨rfl,I,O⟩;have HT:=hid (lu rb yb yo cap body (p+L) bg n w2 I V.out);have pJ:=hid (HP.out.step I O);have h6:=hid (O.two B1 fb);clear I O
 go_wp2_with fail
 refine HT.out.mono ?_;rintro e w3 ⟨rfl,I,O⟩;have G:=pJ.out.step I O;have cv:=h5.out w3 I;have x8:w3.cell? ⟨fb,8,none⟩=some (.string cur.data):=G.nG.cell 8;have z8:=G.nG.frozen 8
 have HF:Hid (RP B0 B1 rb fb yb yo cap body (w3.setCell ⟨fb,8,none⟩ (.string d)) (p+(L+n)) bg {cur with data:=d} v9/\oC B1 rb fb w (w3.setCell ⟨fb,8,none⟩ (.string d))):=by
  rw[<-qa2];exact And.intro (G.xg 8 (.string d) rfl rfl) ((h6.out.trans (O.two B1 fb)).trans (oC.xg B1 rb fb 8 (.string d) w3))
 clear I O G;go_wp2;go_end0;rw[Y6.out];exact⟨rfl,v9,HF.out⟩
theorem Jb{B0 B1 rb fb yb yo cap:Nat}{body:List UInt8}{w:World}{p bg:Nat}{cur:Fr}{v9:Value}(h:RP B0 B1 rb fb yb yo cap body w p bg cur v9)(lo hi n m:Nat)(hn:cur.ranges.length=n)(hm:n+1=m)(hl:n<=1000000000):
  ∃V X H,(∀ty,(Builtin.append_ #[63,63] ty #[v9,.slice (some ⟨w.heap.size,0,none⟩) 1 1]).run prog (w.alloc (.cells #[.int .u64 lo,.int .u64 hi] 170))=.ok (.slice V m X) H)/\
   ak H fb 65 (dU cur v9)/\RP B0 B1 rb fb yb yo cap body (H.setCell ⟨fb,9,none⟩ (.slice V m X)) p bg {cur with ranges:=cur.ranges++[(lo,hi)]} (.slice V m X)/\oC B1 rb fb w (H.setCell ⟨fb,9,none⟩ (.slice V m X)):=by
 subst hn;subst hm;obtain⟨U,I⟩:∃U,U=w.alloc (.cells #[.int .u64 lo,.int .u64 hi] 170):=⟨_,rfl⟩
 have h8:U.heap.size=w.heap.size+1:=by rw[I];simp
 have F:Below w.heap.size w U:=by rw[I];exact(Below.refl _ _).alloc (ZE _) _
 have hN:ak U w.heap.size 170 [.int .u64 lo,.int .u64 hi]:=by rw[I];exact ak.new w 170 _
 rw[<-I];have h6:bn 170 2 U v9 cur.ranges.length (aC cur.ranges):=h.rng.of_heap (fun b hb=>F.block b (h.rng.lt b hb));obtain⟨v',H,h5,hG,KE⟩:=dY FX h6 ⟨w.heap.size,0,none⟩ 1 1 (aC [(lo,hi)]) rfl (by omega) (iR _) (fun j u hu=>by rw[Addr.add_lit,Nat.zero_add,hN.cell];exact hu) (by omega);obtain⟨V,X,hv,_⟩:=hG.shape;subst hv;have h7:=h.hB;have G:Below B1 U H:=KE.below h.own (by omega);have h0:=KE.own h.own (by omega);have h1:=h.h01;have h2:=h.fbl;have h3:=h.rbl;have h4:=h.ybl;have hsz:=G.size
 have O:∀b,b<B1->H.heap[b]?=w.heap[b]?:=fun b hb=>by rw[G.block b hb,F.block b (by omega)]
 have Z:ak H fb 65 (dU cur v9):=h.nG.of_heap (O fb (by omega));refine⟨V,X,H,h5,Z,⟨?_,?_,?_,h0,h.h01,by simp;omega,h3,h2,h4,h.rf,h.fy⟩,?_⟩
 ·exact(h.rd.of (O rb (by omega)) (O yb (by omega))).of (mR _ _ _ _ h.rf) (mR _ _ _ _ (Ne.symm h.fy))
 ·exact Z.setCell 9 _
 ·show bn 170 2 _ _ (cur.ranges++[(lo,hi)]).length (aC (cur.ranges++[(lo,hi)]));rw[nI,f_];exact hG.of_heap (fun b hb=>mR _ _ _ _ (by have:=h0 b hb;simp;omega))
 ·refine⟨G.os.trans F.os,G.tape.trans F.tape,G.output.trans F.output,by simp;omega,fun k hk _ hf=>?_⟩;rw[mR _ _ _ _ hf];exact O k hk
theorem rC(rs:List (Nat×Nat))(k:Nat):∀N,k<=N->∃s,dZ rs N=dZ rs k++s
 |0,h=>⟨[],by
   obtain rfl:k=0:=by omega
   simp⟩
 |N+1,h=>by
  by_cases e:k=N+1
  ·exact⟨[],by rw[e];simp⟩
  ·obtain⟨s,hs⟩:=rC rs k N (by omega);exact⟨s++_,by rw[dZ,hs,tT]⟩
def gI(rs:List (Nat×Nat))(N k:Nat):List UInt8:=(dZ rs N).drop (dZ rs k).length
theorem rD(rs:List (Nat×Nat))(N:Nat):gI rs N 0=dZ rs N:=rfl
theorem Dy(rs:List (Nat×Nat))(N:Nat):gI rs N N=[]:=by unfold gI;exact Xw (ZE _)
theorem Bq(rs:List (Nat×Nat))(N k:Nat)(h:k<N):gI rs N k=Num.bytes ((rs.getD k (0,0)).1-(rs.getD (k+1) (0,0)).2-2)++(Num.bytes ((rs.getD (k+1) (0,0)).2-(rs.getD (k+1) (0,0)).1)++gI rs N (k+1)):=by
 obtain⟨s,hs⟩:=rC rs (k+1) N (by omega)
 have F:(dZ rs N).drop (dZ rs (k+1)).length=s:=by rw[hs];exact Kt rfl
 have hB:dZ rs N=dZ rs k++(Num.bytes ((rs.getD k (0,0)).1-(rs.getD (k+1) (0,0)).2-2)++(Num.bytes ((rs.getD (k+1) (0,0)).2-(rs.getD (k+1) (0,0)).1)++s)):=by
  rw[hs,dZ];simp only[tT]
 unfold gI;rw[F,hB];exact Kt rfl
theorem zT(rs:List (Nat×Nat))(k:Nat)(h:k<rs.length):rs.take k++[((rs.getD k (0,0)).1,(rs.getD k (0,0)).2)]=rs.take (k+1):=by
 rw[R3 h,Vh,jK h];rfl
theorem KF{B0 B1:Nat}{w1:World}(rs:List (Nat×Nat))(hR:lU rs=true)(xn:rs.length<=1000000000)(rb fb yb yo cap:Nat)(body:List UInt8)(bg:Nat):
  Rd B0 B1 w1 (.func (.func 326) #[] #[]) (cO rs) (fun cur=>{cur with ranges:=rs}) rb fb yb yo cap body bg:=by
 refine⟨326,_,rfl,enters_of func326 (by kernel_rfl) rfl,fun w p cur v9 rest _ hP hf hb=>?_⟩;obtain⟨h5,h9⟩:=IC hR;obtain⟨N,hN⟩:∃N,rs.length=N+1:=⟨rs.length-1,by omega⟩
 have ha:body.drop p=Num.bytes (rs.getD 0 (0,0)).2++(Num.bytes N++(Num.bytes ((rs.getD 0 (0,0)).2-(rs.getD 0 (0,0)).1)++(gI rs N 0++rest))):=by
  rw[hb,rD];unfold cO gT;rw[hN,Si];simp only[tT]
 have Vi:(cO rs).length=(Num.bytes (rs.getD 0 (0,0)).2).length+(Num.bytes N).length+(Num.bytes ((rs.getD 0 (0,0)).2-(rs.getD 0 (0,0)).1)).length+(dZ rs N).length:=by
  unfold cO gT;rw[hN,Si];simp only[nI];omega
 obtain⟨q1,q2,_⟩:=h9 0 h5;have hc:=gH ha;have he:=gH hc;have x0:=gH he;have V:=hid (eG rb yb yo cap body p bg _ _ w hP.rd (by unfold aU at q2;omega) ha);have CP:=hid (fun w' (h':dG w' rb yb yo cap body _ bg)=>eG rb yb yo cap body _ bg _ _ w' h' (by omega) hc);have U9:=hid (fun w' (h':dG w' rb yb yo cap body _ bg)=>eG rb yb yo cap body _ bg _ _ w' h' (by unfold aU at q2;omega) he);have hm:=hid h9;have ho:=hid Vi;have hn:=hid x0;have HP:=hid hP
 have x6:(rs.getD 0 (0,0)).2-((rs.getD 0 (0,0)).2-(rs.getD 0 (0,0)).1)=(rs.getD 0 (0,0)).1:=by omega
 have HL:=hid (fun(r:Value) (w:World)=>w_ r (rs.getD 0 (0,0)).2 ((rs.getD 0 (0,0)).2-(rs.getD 0 (0,0)).1) w (by omega) (by unfold aU at q2;omega));rw[x6]at HL;have hx:Hid ([((rs.getD 0 (0,0)).1,(rs.getD 0 (0,0)).2)]=rs.take 1):=zT rs 0 h5;clear hP hb ha hc he x0 h9 Vi hR x6;generalize hy:(rs.getD 0 (0,0)).1=Ry at *;generalize xe:(rs.getD 0 (0,0)).2=h2 at *;generalize xd:h2-Ry=d0 at *;have pI:=hid hy;clear hy xe xd;go_enter func326,ntmps326
 go_wp2_with fail
 refine V.out.mono ?_;rintro e x1 ⟨rfl,sG,G⟩;have U:=hid (CP.out x1 sG);have qB:=hid (HP.out.step sG G);have qI:=hid (G.two B1 fb);clear sG G V CP HP
 go_wp2_with fail
 refine U.out.mono ?_;rintro e x2 ⟨rfl,h7,h8⟩;have ML:=hid (U9.out x2 h7);have pJ:=hid (qB.out.step h7 h8);have hu:=hid (qI.out.trans (h8.two B1 fb));clear h7 h8 U qB U9 qI
 go_wp2_with fail
 refine ML.out.mono ?_;rintro e x3 ⟨rfl,Cw,Q_⟩;have sN:=hid (pJ.out.step Cw Q_);have X:=hid (hu.out.trans (Q_.two B1 fb));clear Cw Q_ ML pJ hu
 go_wp2_with fail
 refine(HL.out _ _).mono ?_;rintro e x4 ⟨rfl,xi⟩;subst xi;obtain⟨a',c',W2,jm,F,zB,Sq⟩:=Jb sN.out Ry h2 0 1 (by rw[hf];rfl) rfl (by omega);have x9:x4.cell? ⟨fb,9,none⟩=some v9:=sN.out.nG.cell 9;obtain⟨a9,c9,h0,_⟩:=sN.out.rng.shape;rw[show cur.ranges.length=0 by rw[hf];rfl]at h0;subst h0;have k9:W2.cell? ⟨fb,9,none⟩=some (.slice a9 0 c9):=F.cell 9;have z9:=F.frozen 9;rw[hf,List.nil_append,hx.out]at zB;have Cu:=hid zB;have hv:=hid (X.out.trans Sq);have x5:fb<x4.heap.size:=sN.out.nG.lt;clear F zB Sq sN X HL
 go_wp2_with (at_builtin;refine Lib.wpList_append_run _ rfl _ _ _ _ rfl _ _ rfl rfl _ _ (jm _) ?_)
 clear jm x9 k9 z9 x5;have Jc:=hid (fun k (hk:k<N)=>Bq rs N k hk);have m_:=hid (Dy rs N)
 have hr:Hid (p+(Num.bytes h2).length+(Num.bytes N).length+(Num.bytes d0).length+(gI rs N 0).length=p+(cO rs).length):=by
  unfold Hid;rw[ho.out,rD];omega
 generalize p+(Num.bytes h2).length+(Num.bytes N).length+(Num.bytes d0).length=p0 at *
 go_loopw [4,5,6] (fun s4 s5 s6 wr=>∃k:Nat,k<=N/\s5=.int .u64 ((N-k:Nat):Int)/\s6=.int .u64 (((rs.getD k (0,0)).1:Nat):Int)/\(∃x:Nat,s4=.int .u64 x)/\Hid (∃pk v9,RP B0 B1 rb fb yb yo cap body wr pk bg {cur with ranges:=rs.take (k+1)} v9/\oC B1 rb fb w wr/\body.drop pk=gI rs N k++rest/\pk+(gI rs N k).length=p+(cO rs).length)) (fun _ s5 _ _=>(intOf s5).toNat)
 case atStart=>exact⟨0,Lb _,rfl,by rw[pI.out],⟨_,rfl⟩,p0,_,Cu.out,hv.out,hn.out,hr.out⟩
 case round=>
  clear Cu hv hn hr ho pI hx;obtain⟨k,hk,rfl,rfl,⟨xh,rfl⟩,HI⟩:=hrel
  by_cases xf:k<N
  ·obtain⟨pk,v9,yM,Ob,H,I⟩:=HI.out;rw[Jc.out k xf]at H I;rw[tT,tT]at H;obtain⟨o1,o2,o3⟩:=hm.out (k+1) (by omega);have o4:=o3 (by omega);rw[Si]at o4;obtain⟨o5,o6,_⟩:=hm.out k (by omega);have x8:=zT rs (k+1) (by omega)
   have h4:(rs.take (k+1)).length=k+1:=by simp;omega
   unfold aU at o2 o6;generalize (rs.getD k (0,0)).1=hj at *;generalize Y7:(rs.getD (k+1) (0,0)).2=O at *;generalize XJ:(rs.getD (k+1) (0,0)).1=hg at *;generalize hG:hj-O-2=g at *;generalize hD:O-hg=d at *;have V:=hid (eG rb yb yo cap body pk bg g _ wr yM.rd (by omega) H);have Z:=gH H;have CP:=hid (fun w' (h':dG w' rb yb yo cap body _ bg)=>eG rb yb yo cap body _ bg d _ w' h' (by omega) Z);have XK:=gH Z;have IW:=hid (fun(r:Value) (w:World)=>w_ r hj (g+2) w (by omega) (by omega));rw[show hj-(g+2)=O by omega]at IW;have h6:=hid (fun(r:Value) (w:World)=>w_ r O d w (by omega) (by omega));rw[show O-d=hg by omega]at h6
   have XL:pk+(Num.bytes g).length+(Num.bytes d).length+(gI rs N (k+1)).length=p+(cO rs).length:=by
    rw[nI,nI]at I;omega
   have IE:=hid yM;have hw:=hid Ob;have HB:=hid (And.intro XK XL);have Ja:=hid x8;have h3:=hid h4;have pI:=hid XJ
   have g0:0<N-k:=by omega
   have g1:(g:Int)+2=((g+2:Nat):Int):=by omega
   have g2:((g+2:Nat):Int)<18446744073709551616:=by omega
   have g3:((N-k:Nat):Int)-1=((N-(k+1):Nat):Int):=by omega
   have g4:((N-(k+1):Nat):Int)<18446744073709551616:=by omega
   have HM:Hid (N-(k+1)<N-k):=by unfold Hid;omega
   generalize g+2=xm at *;generalize x7:N-(k+1)=n1 at *;have xa:=hid x7;clear x7;generalize N-k=n0 at *;clear yM Ob H Z XK I XL x8 h4 Y7 XJ hG hD HI o1 o2 o3 o4 o5 o6
   go_wp2_with fail
   refine V.out.mono ?_;rintro e y1 ⟨rfl,sG,G⟩;have U:=hid (CP.out y1 sG);have qB:=hid (IE.out.step sG G);have qI:=hid (hw.out.trans (G.two B1 fb));clear sG G V CP IE hw
   go_wp2_with fail
   refine(IW.out _ _).mono ?_;rintro e y2 ⟨rfl,xj⟩;subst xj
   go_wp2_with fail
   refine U.out.mono ?_;rintro e y3 ⟨rfl,Cw,Q_⟩;have sN:=hid (qB.out.step Cw Q_);have X:=hid (qI.out.trans (Q_.two B1 fb));clear Cw Q_ U qB qI
   go_wp2_with fail
   refine(h6.out _ _).mono ?_;rintro e y4 ⟨rfl,xl⟩;subst xl;obtain⟨a',c',W2,jm,F,zB,Sq⟩:=Jb sN.out hg O (k+1) (k+2) h3.out rfl (by omega);have x9:y4.cell? ⟨fb,9,none⟩=some v9:=sN.out.nG.cell 9;obtain⟨a9,c9,h0,_⟩:=sN.out.rng.shape;rw[h3.out]at h0;subst h0;have k9:W2.cell? ⟨fb,9,none⟩=some (.slice a9 (k+1) c9):=F.cell 9;have z9:=F.frozen 9;simp only[Ja.out]at zB;have Q7:Hid (∃pk v9,RP B0 B1 rb fb yb yo cap body (W2.setCell ⟨fb,9,none⟩ (.slice a' (k+2) c')) pk bg {cur with ranges:=rs.take (k+1+1)} v9/\oC B1 rb fb w (W2.setCell ⟨fb,9,none⟩ (.slice a' (k+2) c'))/\body.drop pk=gI rs N (k+1)++rest/\pk+(gI rs N (k+1)).length=p+(cO rs).length):=⟨_,_,zB,X.out.trans Sq,HB.out.1,HB.out.2⟩;have x5:fb<y4.heap.size:=sN.out.nG.lt;clear F zB Sq sN X IW h6
   go_wp2_with (at_builtin;refine Lib.wpList_append_run _ rfl _ _ _ _ rfl _ _ rfl rfl _ _ (jm _) ?_)
   go_roundw
   case rel=>exact⟨k+1,by omega,by rw[xa.out],by rw[pI.out],⟨_,rfl⟩,Q7⟩
   case measure=>simp[intOf];exact HM.out
  ·obtain rfl:k=N:=by omega
   obtain⟨pk,v9,yM,Ob,H,I⟩:=HI.out;rw[m_.out,qa1,qa4]at I;rw[<-hN,List.take_length,I]at yM;have HF:=hid (And.intro yM Ob);clear yM Ob H I HI
   have g0:((k-k:Nat):Int)=0:=by omega
   go_wp2;go_end0;exact⟨rfl,v9,HF.out⟩
theorem RP.alloc{B0 B1 rb fb yb yo cap:Nat}{body:List UInt8}{w:World}{p bg:Nat}{cur:Fr}{v9:Value}(h:RP B0 B1 rb fb yb yo cap body w p bg cur v9)(o:Obj):RP B0 B1 rb fb yb yo cap body (w.alloc o) p bg cur v9:=by
 have h1:=h.h01;have I:=h.hB;have F:=h.rbl;have G:=h.fbl;have H:=h.ybl;exact⟨h.rd.of (DJ _ _ _ (by omega)) (DJ _ _ _ (by omega)),h.nG.alloc o,h.rng.of_heap (fun b hb=>DJ _ _ _ (h.rng.lt b hb)),h.own,h1,by simp;omega,F,G,H,h.rf,h.fy⟩
theorem oC.alloc(B1 rb fb:Nat)(w:World)(o:Obj)(h:B1<=w.heap.size):oC B1 rb fb w (w.alloc o):=⟨rfl,rfl,rfl,by simp,fun k F _ _=>DJ _ _ _ (by omega)⟩
def rE(F:Nat->Fr->Fr):Nat->Fr->Fr
 |0,cur=>cur
 |k+1,cur=>F k (rE F k cur)
theorem nR(ps:List (List UInt8))(k:Nat):∀N,k<=N->∃s,aX ps N=aX ps k++s
 |0,h=>⟨[],by
   obtain rfl:k=0:=by omega
   simp⟩
 |N+1,h=>by
  by_cases e:k=N+1
  ·exact⟨[],by rw[e];simp⟩
  ·obtain⟨s,hs⟩:=nR ps k N (by omega);exact⟨s++_,by rw[aX,hs,tT]⟩
def cK(ps:List (List UInt8))(N k:Nat):List UInt8:=(aX ps N).drop (aX ps k).length
theorem jT(ps:List (List UInt8))(N:Nat):cK ps N 0=aX ps N:=rfl
theorem ze(ps:List (List UInt8))(N:Nat):cK ps N N=[]:=by unfold cK;exact Xw (ZE _)
theorem nS(ps:List (List UInt8))(N k:Nat)(h:k<N):cK ps N k=ps.getD k []++cK ps N (k+1):=by
 obtain⟨s,hs⟩:=nR ps (k+1) N (by omega)
 have F:(aX ps N).drop (aX ps (k+1)).length=s:=by rw[hs];exact Kt rfl
 have hB:aX ps N=aX ps k++(ps.getD k []++s):=by
  rw[hs,aX];simp only[tT]
 unfold cK;rw[F,hB];exact Kt rfl
theorem Gu{B0 B1:Nat}{w1:World}(pb qb F:Nat)(fw fr:Nat->Value)(ps:List (List UInt8))(Z:Nat->Fr->Fr)(rb fb yb yo cap:Nat)(body:List UInt8)(bg:Nat)(x0:F<=100)(ha:B0<=pb)(he:pb<B1)(hg:B0<=qb)(hj:qb<B1)(hf:w1.cell? ⟨pb,0,none⟩=some (.slice (some ⟨qb,0,none⟩) F F))(U:∀j,j<F->w1.cell? ⟨qb,j*2,none⟩=some (fw j)/\w1.cell? ⟨qb,j*2+1,none⟩=some (fr j))(h9:∀j,j<F->∃g cb,fw j=.func (.func g) #[] cb)(ho:∀cur,cur.ranges=[]->∀j,j<F->(rE Z j cur).ranges=[])(hm:∀j,j<F->Rd B0 B1 w1 (fr j) (ps.getD j []) (Z j) rb fb yb yo cap body bg):
  Rd B0 B1 w1 (.func (.func 324) #[] #[.pointer (some ⟨pb,0,none⟩)]) (aX ps F) (rE Z F) rb fb yb yo cap body bg:=by
 refine⟨324,_,rfl,enters_of func324 (by kernel_rfl) rfl,fun w p cur v9 rest X hP h7 hb=>?_⟩;have cp:=X.cell ha he hf;have h6:Hid (∃pk v9,Keep B0 B1 w1 w/\RP B0 B1 rb fb yb yo cap body w pk bg (rE Z 0 cur) v9/\oC B1 rb fb w w/\body.drop pk=cK ps F 0++rest/\pk+(cK ps F 0).length=p+(aX ps F).length):=⟨p,v9,X,hP,oC.refl _ _ _ _,by rw[jT];exact hb,by rw[jT]⟩;have HC:=hid U;have hr:=hid h9;have Sr:=hid hm;have HQ:=hid (And.intro hg hj);have hv:=hid (ho cur h7);have hu:=hid (fun k (hk:k<F)=>nS ps F k hk);have m_:=hid (ze ps F);clear hP hb U h9 hm hf ha he hg hj ho h7 X;go_enter func324,ntmps324
 go_wp2_with fail
 go_loopw [9] (fun s9 wr=>∃k:Nat,k<=F/\s9=.int .i64 k/\Hid (∃pk v9,Keep B0 B1 w1 wr/\RP B0 B1 rb fb yb yo cap body wr pk bg (rE Z k cur) v9/\oC B1 rb fb w wr/\body.drop pk=cK ps F k++rest/\pk+(cK ps F k).length=p+(aX ps F).length)) (fun s9 _=>F-(intOf s9).toNat)
 case atStart=>exact⟨0,Lb _,rfl,h6.out⟩
 case round=>
  clear h6;obtain⟨k,hk,rfl,HI⟩:=hrel
  by_cases V:k<F
  ·have hx:(k:Int)<(F:Int):=by omega
   obtain⟨pk,v9,X,yM,Ob,G,H⟩:=HI.out;rw[hu.out k V]at G H;rw[tT]at G;obtain⟨q1,q2⟩:=HC.out k V;have t1:=X.cell HQ.out.1 HQ.out.2 q1;have t2:=X.cell HQ.out.1 HQ.out.2 q2;obtain⟨g,cb,h8,eg,hW⟩:=Sr.out k V;obtain⟨g2,J3,h3⟩:=hr.out k V;rw[h8]at t2;rw[h3]at t1;have hw:=yM.hB;have h4:Keep B0 B1 w1 (wr.alloc (.cells #[.func (.func g2) #[] J3,.func (.func g) #[] cb] 318)):=⟨by simp;omega,fun j h0 h1=>by rw[DJ _ _ _ (by omega)];exact X.2 j h0 h1⟩;have hc:=hW _ pk (rE Z k cur) v9 _ h4 (yM.alloc _) (hv.out k V) G;have h2:=gH G
   have hn:∀w' J7,RP B0 B1 rb fb yb yo cap body w' (pk+(ps.getD k []).length) bg (Z k (rE Z k cur)) J7->oC B1 rb fb (wr.alloc (.cells #[.func (.func g2) #[] J3,.func (.func g) #[] cb] 318)) w'->
     ∃pk v9,Keep B0 B1 w1 w'/\RP B0 B1 rb fb yb yo cap body w' pk bg (rE Z (k+1) cur) v9/\oC B1 rb fb w w'/\body.drop pk=cK ps F (k+1)++rest/\pk+(cK ps F (k+1)).length=p+(aX ps F).length:=fun w' J7 I O=>
    ⟨_,J7,O.keep h4 I.rbl I.fbl,I,(Ob.trans (oC.alloc B1 rb fb wr _ hw)).trans O,h2,by rw[nI]at H;omega⟩
   have HN:=hid hn;have h5:=hid hc;have hy:qb<wr.heap.size:=wz _ _ t1;clear h8 h3 hc hW q1 q2 hn X yM Ob G h2 H h4 HI
   go_wp2_with fail
   refine h5.out.mono ?_;rintro e y ⟨rfl,J7,I,O⟩;have Q7:=hid (HN.out y J7 I O);clear I O HN h5
   go_wp2_with fail
   go_roundw
   case rel=>exact⟨k+1,by omega,by go_num,Q7⟩
   case measure=>simp[intOf];omega
  ·obtain rfl:k=F:=by omega
   obtain⟨pk,v9,X,yM,Ob,G,H⟩:=HI.out;rw[m_.out,qa1,qa4]at H;rw[H]at yM;have HF:=hid (And.intro yM Ob);clear X yM Ob G H HI;go_wp2;go_end0;exact⟨rfl,v9,HF.out⟩
theorem Jd{B0:Nat}{w1:World}{F:Nat×Nat}{fw fr:Value}(hP:fF B0 w1 F fw fr)(f:Fr)(O:Fit f)(V:CR f F)(hd:f.data.size<=1000000000)(Z:f.ranges.length<=1000000000)(rb fb yb yo cap:Nat)(body:List UInt8)(bg:Nat):
  Rd B0 w1.heap.size w1 fr (aO f F) (dN f F) rb fb yb yo cap body bg:=by
 unfold aO
 rcases hP with⟨h,xb,I,_,H⟩|⟨h,_,H⟩|⟨h,_,H⟩|⟨h,xb,I,_,H⟩|⟨h,_,H⟩|⟨h,_,H⟩
 ·have e:dN f F=fun cur=>cur:=by funext cur;unfold dN;rw[if_pos h]
  rw[if_pos h,H,e];exact Oa _ rb fb yb yo cap body bg
 ·have e:dN f F=fun cur=>{cur with fin:=f.fin}:=by funext cur;unfold dN;rw[if_neg (by omega),if_pos h]
  rw[if_neg (by omega),if_pos h,H,e];exact Bp f.fin rb fb yb yo cap body bg
 ·have e:dN f F=fun cur=>{cur with stream:=f.stream}:=by funext cur;unfold dN;rw[if_neg (by omega),if_neg (by omega),if_pos h]
  rw[if_neg (by omega),if_neg (by omega),if_pos h,H,e];exact KD f.stream O.s0 O.s8 rb fb yb yo cap body bg
 ·have U:∀cur,dN f F cur=(if F.2=279 then{cur with offset:=f.offset}else if F.2=280 then{cur with reliable:=f.reliable}else if F.2=283 then{cur with limit:=f.limit}else if F.2=284 then{cur with id:=f.id}else{cur with deadline:=f.deadline}):=fun cur=>by
   unfold dN;rw[if_neg (by omega),if_neg (by omega),if_neg (by omega),if_pos h]
  rw[if_neg (by omega),if_neg (by omega),if_neg (by omega),if_pos h,H]
  have X:F.2=279\/F.2=280\/F.2=283\/F.2=284\/F.2=285:=by
   rcases V with e|e|e|e|e|e
   ·omega
   ·omega
   ·omega
   ·exact e.2
   ·omega
   ·omega
  have hl:=wz _ _ I.2;have G:=I.2
  rcases X with e|e|e|e|e
  ·rw[e]at G ⊢;exact lF xb 279 2 f.offset _ rb fb yb yo cap body bg I.1 hl G (enters_of func279 (by kernel_rfl) rfl) (fun b w=>by have:=wm b 0 w;simpa using this) (fun cur v9=>⟨_,rfl⟩) (fun cur v9=>by rw[U,e];exact⟨rfl,rfl⟩) O.n0
  ·rw[e]at G ⊢;exact lF xb 280 3 f.reliable _ rb fb yb yo cap body bg I.1 hl G (enters_of func280 (by kernel_rfl) rfl) (fun b w=>by have:=qK b 0 w;simpa using this) (fun cur v9=>⟨_,rfl⟩) (fun cur v9=>by rw[U,e];exact⟨rfl,rfl⟩) O.n1
  ·rw[e]at G ⊢;exact lF xb 283 4 f.limit _ rb fb yb yo cap body bg I.1 hl G (enters_of func283 (by kernel_rfl) rfl) (fun b w=>by have:=zC b 0 w;simpa using this) (fun cur v9=>⟨_,rfl⟩) (fun cur v9=>by rw[U,e];exact⟨rfl,rfl⟩) O.n2
  ·rw[e]at G ⊢;exact lF xb 284 6 f.id _ rb fb yb yo cap body bg I.1 hl G (enters_of func284 (by kernel_rfl) rfl) (fun b w=>by have:=Nc b 0 w;simpa using this) (fun cur v9=>⟨_,rfl⟩) (fun cur v9=>by rw[U,e];exact⟨rfl,rfl⟩) O.n3
  ·rw[e]at G ⊢;exact lF xb 285 7 f.deadline _ rb fb yb yo cap body bg I.1 hl G (enters_of func285 (by kernel_rfl) rfl) (fun b w=>by have:=qL b 0 w;simpa using this) (fun cur v9=>⟨_,rfl⟩) (fun cur v9=>by rw[U,e];exact⟨rfl,rfl⟩) O.n4
 ·have e:dN f F=fun cur=>{cur with data:=f.data}:=by funext cur;unfold dN;rw[if_neg (by omega),if_neg (by omega),if_neg (by omega),if_neg (by omega),if_pos h]
  rw[if_neg (by omega),if_neg (by omega),if_neg (by omega),if_neg (by omega),if_pos h,H,e];exact Sn f.data hd rb fb yb yo cap body bg
 ·have e:dN f F=fun cur=>{cur with ranges:=f.ranges}:=by funext cur;unfold dN;rw[if_neg (by omega),if_neg (by omega),if_neg (by omega),if_neg (by omega),if_neg (by omega)]
  rw[if_neg (by omega),if_neg (by omega),if_neg (by omega),if_neg (by omega),if_neg (by omega),H,e]
  have hR:lU f.ranges=true:=by
   rcases V with e|e|e|e|e|e
   ·omega
   ·omega
   ·omega
   ·omega
   ·omega
   ·exact e.2
  exact KF f.ranges hR Z rb fb yb yo cap body bg
def xk(f:Fr)(F:List (Nat×Nat))(k:Nat)(cur:Fr):Fr:=rE (fun j=>dN f (F.getD j (0,0))) k cur
theorem Dz(f:Fr)(F:Nat×Nat)(cur:Fr)(h:F.1<=4):(dN f F cur).ranges=cur.ranges:=by
 unfold dN
 repeat' split
 all_goals first|rfl|omega
theorem xq(f:Fr)(F:List (Nat×Nat))(cur:Fr)(G:cur.ranges=[])(h:∀j,j+1<F.length->(F.getD j (0,0)).1<=4):∀k,k<F.length->(xk f F k cur).ranges=[]
 |0,_=>G
 |k+1,hk=>by
  show(dN f (F.getD k (0,0)) (xk f F k cur)).ranges=[];rw[Dz _ _ _ (h k hk)];exact xq f F cur G h k (by omega)
theorem KH(k:Int):∀j,j+1<(aQ k).length->((aQ k).getD j (0,0)).1<=4:=by
 unfold aQ
 repeat' split
 all_goals
  intro j F
  match j,F with
  |0,F=>first|decide|exact absurd F (by decide)
  |1,F=>first|decide|exact absurd F (by decide)
  |2,F=>first|decide|exact absurd F (by decide)
  |m+3,F=>exact absurd F (by simp)
theorem Sv{B0:Nat}{w1:World}{fw fr:Value}(f:Fr)(Z:Da B0 w1 f.kind fw fr)(h:snd f=true)(hd:f.data.size<=1000000000)(V:f.ranges.length<=1000000000)(rb fb yb yo cap:Nat)(body:List UInt8)(bg:Nat):
  Rd B0 w1.heap.size w1 fr (aB f) (xk f (aQ f.kind) (aQ f.kind).length) rb fb yb yo cap body bg:=by
 obtain⟨hf,_⟩:=lV f h
 rcases Z with⟨e,hP⟩|⟨_,Z⟩
 ·have:=Jd hP f hf (.inl ⟨rfl,by decide⟩) hd V rb fb yb yo cap body bg
  have hb:aB f=aO f (0,1):=by
   unfold aB;rw[e,show aQ 1=[(0,1)]from rfl];rfl
  have hs:xk f (aQ f.kind) (aQ f.kind).length=dN f (0,1):=by
   rw[e,show aQ 1=[(0,1)]from rfl];rfl
  rw[hb,hs];exact this
 ·obtain⟨pb,X,_,rfl,hB,hq,H⟩:=Z;have U:=(qP f.kind).1
  have I:∃G II:Nat->Value,∀j,j<(aQ f.kind).length->w1.cell? ⟨X,j*2,none⟩=some (G j)/\w1.cell? ⟨X,j*2+1,none⟩=some (II j)/\fF B0 w1 ((aQ f.kind).getD j (0,0)) (G j) (II j):=by
   refine⟨fun j=>(w1.cell? ⟨X,j*2,none⟩).getD undef,fun j=>(w1.cell? ⟨X,j*2+1,none⟩).getD undef,fun j F=>?_⟩;obtain⟨a,c,h1,h2,h3⟩:=H j F;refine⟨by simp[h1],by simp[h2],?_⟩;simpa[h1,h2]using h3
  obtain⟨G,II,hF⟩:=I
  have O:∀j,j<(aQ f.kind).length->(aQ f.kind).getD j (0,0)∈aQ f.kind:=fun j F=>by
   rw[Vh,jK F];exact List.getElem_mem _
  refine Gu pb X (aQ f.kind).length G II ((aQ f.kind).map (aO f)) (fun j=>dN f ((aQ f.kind).getD j (0,0))) rb fb yb yo cap body bg (qP _).2 hB.1 (wz _ _ hB.2) hq (wz _ _ (hF 0 U).1) hB.2 (fun j F=>⟨(hF j F).1,(hF j F).2.1⟩) (fun j F=>?_) (fun cur hc j F=>xq f _ cur hc (KH _) j F) (fun j F=>?_)
  ·obtain⟨_,_,_,_,h,_⟩:=(hF j F).2.2.shape;exact⟨_,_,h⟩
  ·have:=Jd (hF j F).2.2 f hf (IX f h _ (O j F)) hd V rb fb yb yo cap body bg
   have e:((aQ f.kind).map (aO f)).getD j []=aO f ((aQ f.kind).getD j (0,0)):=by
    simp[F]
   rw[e];exact this
end Go.Proofs.YtphbledmopchnaaGreatDoor
