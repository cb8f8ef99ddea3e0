import Derived.Test.YtphbledmopchnaaGreatDoorUaa
open Go.RowKit.Below renaming heap_alloc->tL,refl->M4
open Bool renaming and_eq_true->E8,eq_iff_iff->He
open Go.Builtin renaming zeroCells->Aw,append_->Kt,max_->Lb
open Go.Lib renaming wpList_append_run->fB
open List renaming length_append->fA,take_of_length_le->tT,getElem?_take->Av,mem_append->KG
open Nat renaming zero_add->nI,le_refl->sQ,pow_le_pow_right->uj,mul_one->DT
open Go.World renaming block_lt_of_cell?->mR
set_option maxHeartbeats 1000000
set_option maxRecDepth 100000
namespace Go.Proofs.YtphbledmopchnaaGreatDoor
open Go.RowKit Go.Lib Mm Tryz
theorem Buf.bytes{w:World}{v:Value}{l:List UInt8}(h:Buf w v l):∃a c,v=.slice a l.length c/\BytesAt w a l:=by
 rcases h with⟨rfl,rfl⟩|⟨g,cap,cs,rfl,hB,h2,h3,h4,h5,h6⟩
 ·exact⟨none,0,rfl,fun j F=>by simp at F⟩
 ·refine⟨_,cap,rfl,fun j F=>⟨g,0,rfl,?_⟩⟩;rw[hB.cell,nI]
  have:(cs.take l.length)[j]?=(aQ l)[j]?:=by rw[h5]
  rw[Av,if_pos F]at this;rw[this];simp[aQ,F]
def fq(l:List UInt8):List UInt8:=Num.be 4 (Crc.sum l)
theorem xK(l:List UInt8)(F G H I:Nat)(h1:F=Crc.sum l / 16777216 % 256)(K:G=Crc.sum l / 65536 % 256)(O:H=Crc.sum l / 256 % 256)(U:I=Crc.sum l % 256):
  aQ (fq l)=[.int .u8 F,.int .u8 G,.int .u8 H,.int .u8 I]:=by
 subst h1;subst K;subst O;subst U;simp[fq,Num.be,aQ]
theorem zX(v:Value)(l:List UInt8)(w:World)(hb:Buf w v l)(ht:TabAt w)(hl:l.length<=1000000000):
  Calls prog 220 #[v] w fun e w'=>∃v',e=.returned v'/\Buf w' v' (l++fq l)/\Gr w w' v v':=by
 obtain⟨a,c,hv,H⟩:=hb.bytes;have hs:=JB a l c w hl H ht;rw[<-hv]at hs;have h0:=Crc.sum_lt l;obtain⟨O,h1⟩:∃q,q=Crc.sum l / 16777216 % 256:=⟨_,rfl⟩;obtain⟨U,Z⟩:∃q,q=Crc.sum l / 65536 % 256:=⟨_,rfl⟩;obtain⟨V,h3⟩:∃q,q=Crc.sum l / 256 % 256:=⟨_,rfl⟩;obtain⟨X,h4⟩:∃q,q=Crc.sum l % 256:=⟨_,rfl⟩;have K:=xK l O U V X h1 Z h3 h4
 obtain⟨v',w',I,F,G⟩:=iY (hb.alloc (.cells #[.int .u8 O,.int .u8 U,.int .u8 V,.int .u8 X] 5)) (aj w.heap.size 0) 4 4 (fq l) (Num.fT 4 _) (by omega) (fun i u hu=>by
  rw[K]at hu;rw[Addr.add_lit,nI,(aA.new w 5 [.int .u8 O,.int .u8 U,.int .u8 V,.int .u8 X]).cell]
  exact hu) (by omega)
 generalize Crc.sum l=S at hs h0 h1 Z h3 h4
 have e1:(S:Int) / 16777216=(O:Int):=by omega
 have e2:(S:Int) / 65536 % 256=(U:Int):=by omega
 have e3:(S:Int) / 256 % 256=(V:Int):=by omega
 have e4:(S:Int) % 256=(X:Int):=by omega
 have HS:=au hs;have KV:=au F;have KW:=au (G.alloc _);clear h1 Z h3 h4 hs K F G hb ht H hv;go_enter func220,ntmps220
 go_wp2_with fail
 refine HS.out.mono ?_;rintro e w1 ⟨rfl,h5⟩;subst h5
 go_wp2_with (at_builtin;refine fB _ rfl _ _ _ _ rfl _ _ rfl rfl _ _ (I _) ?_)
 go_ret;exact⟨v',rfl,KV.out,KW.out⟩
theorem BytesAt.cut{w:World}{a:Option Addr}{l:List UInt8}(h:BytesAt w a l)(n:Nat):BytesAt w a (l.take n):=fun j H=>by
 obtain⟨b,off,F,G⟩:=h j (by simp at H;omega);exact⟨b,off,F,by rw[G];simp⟩
theorem Xf{x:Value}{a b:Bool}(h:a=b):Ending.returned (.tuple #[x,.bool a])=.returned (.tuple #[x,.bool b]):=by rw[h]
theorem DY(a:Nat)(l:List UInt8)(x:UInt8):Num.val a (l++[x])=Num.val a l*256+x.toNat:=by
 unfold Num.val;rw[List.foldl_append];rfl
theorem uI:∀(l:List UInt8) (a k:Nat),a<256 ^ k->Num.val a l<256 ^ (k+l.length)
 |[],a,k,h=>by simpa[Num.val]using h
 |x::t,a,k,h=>by
  have F:=Crc.jU x;have:=uI t (a*256+x.toNat) (k+1) (by rw[Nat.pow_succ];omega);rw[List.length_cons,show k+(t.length+1)=k+1+t.length by omega];exact this
theorem Xg(T X:Nat)(G:T<16777216)(F:X<256):bits .or .u32 ((T:Int)*256) (X:Int)=((T*256+X:Nat):Int):=by
 have h:=u32_or_nat (T*256) X (by omega) (by omega);rw[Nat.or_comm,uy X T 8 F,Nat.add_comm]at h;rw[<-h];simp
theorem GX(b off:Nat)(body F:List UInt8)(c:Nat)(w:World)(hl:body.length<=1000000000)(h4:F.length=4)(hc:body.length+4<=c)(hb:BytesAt w (some (aj b off)) (body++F))(ht:TabAt w):
  Calls prog 115 #[.slice (some (aj b off)) (body.length+4) c] w fun e w'=>e=.returned (.tuple #[.slice (some (aj b off)) body.length c,.bool (decide (Num.val 0 F=Crc.sum body))])/\∃q,w'=w.drewN q:=by
 have I:BytesAt w (some (aj b off)) body:=by
  have:=hb.cut body.length;rwa[List.take_left']at this;rfl
 have hs:=fun q=>JB (some (aj b off)) body c (w.drewN q) hl I ht
 have Z:∀k,k<4->w.cell? (aj b (off+body.length+k))=some (.int .u8 (((F.getD k 0).toNat:Nat):Int)):=fun k hk=>by
  obtain⟨b',h9,ha,h5⟩:=hb (body.length+k) (by simp;omega);simp at ha;obtain⟨rfl,rfl⟩:=ha;rw[Nat.add_assoc,h5];simp[hk,h4]
 have V:∀k,k<4->Num.val 0 (F.take (k+1))=Num.val 0 (F.take k)*256+(F.getD k 0).toNat/\Num.val 0 (F.take k)<16777216:=fun k hk=>by
  refine⟨?_,?_⟩
  ·rw[List.take_succ_eq_append_getElem (by omega),DY];simp[hk,h4]
  ·have:=uI (F.take k) 0 0 (by decide)
   have h7:(F.take k).length=k:=by simp;omega
   rw[h7,nI]at this
   exact Nat.lt_of_lt_of_le this (by
    have:(256:Nat) ^ k<=256 ^ 3:=uj (by decide) (by omega)
    omega)
 have h2:=au V
 have h3:Hid (Num.val 0 (F.take 4)=Num.val 0 F):=by rw[tT (by omega)];rfl
 clear V;have HS:=au hs;have HT:=au Z;have H4:=au h4
 have i1:(0:Int)<=(body.length:Int):=by omega
 generalize body.length=n at *
 have i2:(n:Int)<=(n:Int)+4:=by omega
 have i3:¬(c=n):=by omega
 clear hs Z hb I ht h4 H4;go_enter func115,ntmps115
 go_wp2_with fail
 go_loop [5,17] (fun s5 GY=>∃k:Nat,k<=4/\GY=(iZ k)/\s5=.int .u32 (Num.val 0 (F.take k):Nat)) (fun _ GY=>4-(intOf GY).toNat)
 case atStart=>exact⟨0,Nat.zero_le _,rfl,rfl⟩
 case round=>
  obtain⟨k,hk,rfl,rfl⟩:=hrel
  by_cases O:k<4
  ·have h8:(k:Int)<4:=by omega
   have h6:=HT.out k O;obtain⟨G,U⟩:=h2.out k O;have hX:=Crc.jU (F.getD k 0);generalize (F.getD k 0).toNat=X at h6 G hX;generalize Num.val 0 (F.take k)=T at G U;have e1:=Xg T X U hX;obtain⟨T',H⟩:∃T',T'=T*256+X:=⟨_,rfl⟩;rw[<-H]at e1 G;have rW:=au G;clear G H;go_wp2
   go_round
   case rel=>exact⟨k+1,by omega,by go_num,by rw[rW.out]⟩
   case measure=>simp[intOf];omega
  ·obtain rfl:k=4:=by omega
   rw[h3.out]
   have K:(((Num.val 0 F:Nat):Int)==((Crc.sum body:Nat):Int))=decide (Num.val 0 F=Crc.sum body):=by
    rw[He,beq_iff_eq,decide_eq_true_iff];omega
   have h0:=au K;clear K
   have i4:(n:Int)<=(c:Int):=by omega
   go_wp2_with fail
   go_quiet ((go_at_call 159;exact Calls.quiet_of_same (HS.out _)))
   go_wp2;go_ret2;exact⟨Xf h0.out,nq,rfl⟩
structure Fr where
 kind:Int
 stream:Int
 offset:Nat
 reliable:Nat
 limit:Nat
 fin:Bool
 id:Nat
 deadline:Nat
 data:ByteArray
 ranges:aP
structure kG (w:World) (b off:Nat) (f:Fr) (ra:Option Addr) (rc:Nat):Prop where
 c0:w.cell? (aj b off)=some (iZ f.kind)
 c1:w.cell? (aj b (off+1))=some (iZ f.stream)
 c2:w.cell? (aj b (off+2))=some (uZ f.offset)
 c3:w.cell? (aj b (off+3))=some (uZ f.reliable)
 c4:w.cell? (aj b (off+4))=some (uZ f.limit)
 c5:w.cell? (aj b (off+5))=some (.bool f.fin)
 c6:w.cell? (aj b (off+6))=some (uZ f.id)
 c7:w.cell? (aj b (off+7))=some (uZ f.deadline)
 c8:w.cell? (aj b (off+8))=some (.string f.data)
 c9:w.cell? (aj b (off+9))=some (.slice ra f.ranges.length rc)
 rng:fV w ra f.ranges
 rlen:f.ranges.length<=1000000000
 xG:f.data.size<=1000000000
 k0: -9223372036854775808<=f.kind/\f.kind<=9223372036854775807
 s0: -9223372036854775808<=f.stream/\f.stream<=9223372036854775807
 u0:f.offset<18446744073709551616/\f.reliable<18446744073709551616/\f.limit<18446744073709551616/\f.id<18446744073709551616/\f.deadline<18446744073709551616
theorem kG.below{w w':World}{b off:Nat}{f:Fr}{ra:Option Addr}{rc:Nat}(h:kG w b off f ra rc)(hb:aD w w'):kG w' b off f ra rc:=by
 have hl:=mR _ _ h.c0
 have e:∀o,w'.cell? (aj b o)=w.cell? (aj b o):=fun o=>hb.cell (p:=(aj b o)) hl
 exact⟨by rw[e,h.c0],by rw[e,h.c1],by rw[e,h.c2],by rw[e,h.c3],by rw[e,h.c4],by rw[e,h.c5],by rw[e,h.c6],by rw[e,h.c7],by rw[e,h.c8],by rw[e,h.c9],h.rng.below hb,h.rlen,h.xG,h.k0,h.s0,h.u0⟩
theorem kG.drewN{w:World}{b off:Nat}{f:Fr}{ra:Option Addr}{rc:Nat}(h:kG w b off f ra rc)(q:Nat):kG (w.drewN q) b off f ra rc:=h.below ⟨rfl,rfl,rfl,sQ _,fun _ _=>rfl⟩
def lM(f:Fr):Bool:=decide (f.offset<=aZ)&&decide (f.reliable<=aZ)&&decide (f.limit<=aZ)&&decide (f.id<=aZ)&&decide (f.deadline<=aZ)
def jK(f:Fr):Bool:=
 if f.kind=2 then mX f.ranges else if f.kind=3 then decide (f.reliable<=f.offset)else if f.kind=4 then decide (f.data.size+f.offset<=aZ)else true
def snd(f:Fr):Bool:=decide (1<=f.kind/\f.kind<=8)&&lM f&&decide (0<=f.stream/\f.stream<8)&&jK f
theorem Z4(a b c d e:Nat):∃F:Nat,(∀G t w,(Lb G t #[uZ a,uZ b,uZ c,uZ d,uZ e]).run prog w=.ok (uZ F) w)/\∀B,F<=B↔a<=B/\b<=B/\c<=B/\d<=B/\e<=B:=by
 refine⟨max (max (max (max a b) c) d) e,fun G t w=>?_,fun B=>by simp only[Nat.max_le,and_assoc]⟩;simp only[Lb,List.foldlM_cons,List.foldlM_nil,Builtin.max2];simp only[Sem.run_bind,Sem.run_pure,Result.andThen_ok]
 congr 2
 split<;>(try split)<;>(try split)<;>(try split)<;>omega
theorem uD(b off:Nat)(f:Fr)(ra:Option Addr)(rc:Nat)(w:World)(h:kG w b off f ra rc):
  Calls prog 286 #[ay b off] w fun e w'=>e=.returned (.bool (lM f))/\∃q,w'=w.drewN q:=by
 have K:Hid (lM f=(decide (f.offset<=aZ)&&decide (f.reliable<=aZ)&&decide (f.limit<=aZ)&&decide (f.id<=aZ)&&decide (f.deadline<=aZ))):=rfl;have c2:=h.c2;have c3:=h.c3;have c4:=h.c4;have c6:=h.c6;have c7:=h.c7;obtain⟨u1,u2,u3,u4,u5⟩:=h.u0;obtain⟨X,V,O⟩:=Z4 f.offset f.reliable f.limit f.id f.deadline
 have U:Hid (lM f=decide ((X:Int)<=4611686018427387903)):=by
  rw[K.out,He];have:=O 4611686018427387903;simp only[E8];constructor
  ·rintro⟨⟨⟨⟨F,a2⟩,G⟩,H⟩,I⟩;have:=this.2 ⟨of_decide_eq_true F,of_decide_eq_true a2,of_decide_eq_true G,of_decide_eq_true H,of_decide_eq_true I⟩;exact decide_eq_true (by omega)
  ·intro a;have Z:=of_decide_eq_true a;obtain⟨F,a2,G,H,I⟩:=this.1 (by omega);exact⟨⟨⟨⟨decide_eq_true F,decide_eq_true a2⟩,decide_eq_true G⟩,decide_eq_true H⟩,decide_eq_true I⟩
 clear h K O;go_enter func286,ntmps286
 go_wp2_with fail
 go_quiet (fail)
 go_wp2;go_ret;exact⟨aV U.out.symm,nq,rfl⟩
theorem rV(b off:Nat)(f:Fr)(ra:Option Addr)(rc:Nat)(w:World)(h:kG w b off f ra rc)(U:f.offset<=aZ):
  Calls prog 288 #[ay b off] w fun e w'=>e=.returned (.bool (jK f))/\aD w w':=by
 have G:Hid (jK f=if f.kind=2 then mX f.ranges else if f.kind=3 then decide (f.reliable<=f.offset)else if f.kind=4 then decide (f.data.size+f.offset<=aZ)else true):=rfl;have V:=wE ra f.ranges rc w h.rlen h.rng;have O:=au V;clear V;have c0:=h.c0;have c2:=h.c2;have c3:=h.c3;have c8:=h.c8;have c9:=h.c9;have hd:=h.xG;obtain⟨u1,u2,u3,u4,u5⟩:=h.u0;clear h
 by_cases F:f.kind=2
 ·have I:Hid (jK f=mX f.ranges):=by rw[G.out,if_pos F];rfl
  have g2:(f.kind==2)=true:=by simp[F]
  clear G F;go_enter func288,ntmps288
  go_wp2_with fail
  refine O.out.mono ?_;rintro e w' ⟨rfl,hb⟩;have X:=au hb;clear hb;go_wp2;go_ret;exact⟨aV I.out.symm,X.out⟩
 ·have g2:(f.kind==2)=false:=by simp[F]
  by_cases H:f.kind=3
  ·have I:Hid (jK f=decide (f.reliable<=f.offset)):=by rw[G.out,if_neg F,if_pos H];rfl
   have g3:(f.kind==3)=true:=by simp[H]
   clear G F H O;go_enter func288,ntmps288
   go_wp2_with fail
   go_quiet (fail)
   go_wp2;go_ret;exact⟨aV (by rw[I.out,decide_eq_decide]),rfl,rfl,rfl,sQ _,fun _ _=>rfl⟩
  ·have g3:(f.kind==3)=false:=by simp[H]
   by_cases K:f.kind=4
   ·have I:Hid (jK f=decide (f.data.size+f.offset<=aZ)):=by rw[G.out,if_neg F,if_neg H,if_pos K];rfl
    have g4:(f.kind==4)=true:=by simp[K]
    have e1:IntKind.u64.wrap (4611686018427387903-(f.offset:Int))=4611686018427387903-(f.offset:Int):=by rw[IntKind.wrap_u64];unfold aZ at U;omega
    have e2:IntKind.u64.wrap ((f.data.size:Nat):Int)=((f.data.size:Nat):Int):=by rw[IntKind.wrap_u64];omega
    have Z:=au U;clear G F H K O U;go_enter func288,ntmps288
    go_wp2_with fail
    go_quiet (fail)
    go_wp2;go_ret;exact⟨aV (by rw[I.out,decide_eq_decide];have:=Z.out;unfold aZ at *;omega),rfl,rfl,rfl,sQ _,fun _ _=>rfl⟩
   ·have I:Hid (jK f=true):=by rw[G.out,if_neg F,if_neg H,if_neg K];rfl
    have g4:(f.kind==4)=false:=by simp[K]
    clear G F H K O;go_enter func288,ntmps288;go_wp2;go_ret;exact⟨aV I.out.symm,M4 _ _⟩
theorem oH(b off:Nat)(f:Fr)(ra:Option Addr)(rc:Nat)(w:World)(h:kG w b off f ra rc):
  Calls prog 218 #[ay b off] w fun e w'=>e=.returned (.bool (snd f))/\aD w w':=by
 have G:Hid (snd f=(decide (1<=f.kind/\f.kind<=8)&&lM f&&decide (0<=f.stream/\f.stream<8)&&jK f)):=rfl;have c0:=h.c0;have c1:=h.c1;have V:=au (fun wx=>xE f.kind wx);have HS:=au (fun wx=>Cb f.stream wx);have Xb:=au (uD b off f ra rc w h);have HT:=au (fun q X=>rV b off f ra rc (w.drewN q) (h.drewN q) X)
 have U:lM f=true->f.offset<=aZ:=fun hx=>by
  unfold lM at hx;simp only[E8,decide_eq_true_eq]at hx;exact hx.1.1.1.1
 have O:=au U;clear h U;generalize decide (1<=f.kind/\f.kind<=8)=B1 at *;generalize lM f=B2 at *;generalize decide (0<=f.stream/\f.stream<8)=B3 at *;generalize jK f=B4 at *;cases B1
 ·have H:Hid (snd f=false):=by rw[G.out];rfl
  clear G;go_enter func218,ntmps218
  go_wp2_with fail
  refine(V.out _).mono ?_;rintro e w1 ⟨rfl,F⟩;subst F;go_wp2;go_ret;exact⟨aV H.out.symm,M4 _ _⟩
 ·cases B2
  ·have H:Hid (snd f=false):=by rw[G.out];rfl
   clear G;go_enter func218,ntmps218
   go_wp2_with fail
   refine(V.out _).mono ?_;rintro e w1 ⟨rfl,F⟩;subst F
   go_wp2_with fail
   refine Xb.out.mono ?_;rintro e w2 ⟨rfl,q,rfl⟩;go_wp2;go_ret;exact⟨aV H.out.symm,rfl,rfl,rfl,sQ _,fun _ _=>rfl⟩
  ·cases B3
   ·have H:Hid (snd f=false):=by rw[G.out];rfl
    clear G;go_enter func218,ntmps218
    go_wp2_with fail
    refine(V.out _).mono ?_;rintro e w1 ⟨rfl,F⟩;subst F
    go_wp2_with fail
    refine Xb.out.mono ?_;rintro e w2 ⟨rfl,q,rfl⟩
    go_wp2_with fail
    refine(HS.out _).mono ?_;rintro e w3 ⟨rfl,I⟩;subst I;go_wp2;go_ret;exact⟨aV H.out.symm,rfl,rfl,rfl,sQ _,fun _ _=>rfl⟩
   ·have H:Hid (snd f=B4):=by rw[G.out];rfl
    have X:=O.out rfl;have Z:=au (fun q=>HT.out q X);clear G O HT X;go_enter func218,ntmps218
    go_wp2_with fail
    refine(V.out _).mono ?_;rintro e w1 ⟨rfl,F⟩;subst F
    go_wp2_with fail
    refine Xb.out.mono ?_;rintro e w2 ⟨rfl,q,rfl⟩
    go_wp2_with fail
    refine(HS.out _).mono ?_;rintro e w3 ⟨rfl,I⟩;subst I
    go_wp2_with fail
    refine(Z.out q).mono ?_;rintro e w4 ⟨rfl,hb⟩;have K:=au hb;clear hb;go_wp2;go_ret;exact⟨aV H.out.symm,K.out.os,K.out.tape,K.out.output,K.out.size,K.out.block⟩
end Go.Proofs.YtphbledmopchnaaGreatDoor
namespace Go.Proofs.YtphbledmopchnaaGreatDoor
open Go.RowKit Go.Lib Go.Shelf Mm Tryz
def Keep(B0 B1:Nat)(w1 w:World):Prop:=B1<=w.heap.size/\∀k,B0<=k->k<B1->w.heap[k]?=w1.heap[k]?
structure zV (B0 B1:Nat) (w1 w:World) (v:Value) (l:List UInt8) (b off:Nat) (f:Fr) (ra:Option Addr) (rc:Nat):Prop where
 keep:Keep B0 B1 w1 w
 buf:Buf w v l
 out:∀k,v.ownBlock=some k->k<B0\/B1<=k
 oI:kG w b off f ra rc
 nb:v.ownBlock≠some b
 nr:∀x,ra=some x->v.ownBlock≠some x.block
 rl:∀x,ra=some x->x.block<w.heap.size
theorem cell_of{w w':World}{a:Addr}{v:Value}(h:w.cell? a=some v)(e:w'.heap[a.block]?=w.heap[a.block]?):w'.cell? a=some v:=by rw[World.cell?_of_block e];exact h
theorem fV.of{w w':World}{a:Option Addr}{rs:aP}(h:fV w a rs)(e:∀x:Addr,a=some x->x.block<w.heap.size->w'.heap[x.block]?=w.heap[x.block]?):fV w' a rs:=fun j K=>by
 obtain⟨b,off,G,h1,H,I⟩:=h j K;have hl:=mR _ _ h1;have F:=e _ G hl;exact⟨b,off,G,cell_of h1 F,cell_of H F,I⟩
theorem kG.of{w w':World}{b off:Nat}{f:Fr}{ra:Option Addr}{rc:Nat}(h:kG w b off f ra rc)(e:w'.heap[b]?=w.heap[b]?)(er:∀x:Addr,ra=some x->x.block<w.heap.size->w'.heap[x.block]?=w.heap[x.block]?):kG w' b off f ra rc:=
 ⟨cell_of h.c0 e,cell_of h.c1 e,cell_of h.c2 e,cell_of h.c3 e,cell_of h.c4 e,cell_of h.c5 e,cell_of h.c6 e,cell_of h.c7 e,cell_of h.c8 e,cell_of h.c9 e,h.rng.of er,h.rlen,h.xG,h.k0,h.s0,h.u0⟩
theorem zV.next{B0 B1:Nat}{w1 w w':World}{v v':Value}{l l':List UInt8}{b off:Nat}{f:Fr}{ra:Option Addr}{rc:Nat}(h:zV B0 B1 w1 w v l b off f ra rc)(hB:Buf w' v' l')(F:Gr w w' v v'):zV B0 B1 w1 w' v' l' b off f ra rc:=by
 have H:=mR _ _ h.oI.c0;have hsz:=F.1.size;have O:=h.keep.1;refine⟨⟨Nat.le_trans O hsz,fun k K h1=>(F.1.block k (by omega) (fun e=>by rcases h.out k e.symm with e'|e'<;>omega)).trans (h.keep.2 k K h1)⟩,hB,?_,?_,?_,?_,fun x G=>by have:=h.rl x G;omega⟩
 ·intro k I
  rcases F.2 k I with e|e
  ·exact h.out k e
  ·exact .inr (by omega)
 ·exact h.oI.of (F.1.block b H (fun e=>h.nb e.symm)) (fun x G hl=>F.1.block _ hl (fun e=>h.nr x G e.symm))
 ·intro e
  rcases F.2 b e with e'|e'
  ·exact h.nb e'
  ·have U:b<w.heap.size:=H;omega
 ·intro x G e;have hl:=h.rl x G
  rcases F.2 _ e with e'|e'
  ·exact h.nr x G e'
  ·omega
theorem zV.alloc{B0 B1:Nat}{w1 w:World}{v:Value}{l:List UInt8}{b off:Nat}{f:Fr}{ra:Option Addr}{rc:Nat}(h:zV B0 B1 w1 w v l b off f ra rc)(o:Obj):zV B0 B1 w1 (w.alloc o) v l b off f ra rc:=by
 have F:=mR _ _ h.oI.c0;have I:=h.keep.1;exact⟨⟨by simp;omega,fun k G h1=>(tL w o k (by omega)).trans (h.keep.2 k G h1)⟩,h.buf.alloc o,h.out,h.oI.of (tL w o b F) (fun x _ hl=>tL w o _ hl),h.nb,h.nr,fun x H=>by have:=h.rl x H;simp;omega⟩
def Wr(B0 B1:Nat)(w1:World)(fv:Value)(sp:List UInt8)(b off:Nat)(f:Fr)(ra:Option Addr)(rc:Nat):Prop:=
 ∃g cb,fv=.func (.func g) #[] cb/\(∀args w,(callFunc g args).run prog w=.ok (.enter g args) w)/\
  ∀w v l,zV B0 B1 w1 w v l b off f ra rc->l.length+sp.length<=35184372088832->
   Calls prog g (#[v,ay b off]++cb) w fun e w'=>∃v',e=.returned v'/\Buf w' v' (l++sp)/\Gr w w' v v'
theorem Keep.cell{B0 B1:Nat}{w1 w:World}(h:Keep B0 B1 w1 w){k o:Nat}{v:Value}(F:B0<=k)(h1:k<B1)(G:w1.cell? (aj k o)=some v):w.cell? (aj k o)=some v:=cell_of G (h.2 k F h1)
theorem oJ{w:World}{v:Value}{l:List UInt8}(h:Buf w v l)(x:UInt8)(c:Int)(I:c=((x.toNat:Nat):Int))(hl:l.length<=35184372088832):
  ∃v' w',(∀ty,(Kt #[60,60] ty #[v,aS w.heap.size 1 1]).run prog (w.alloc (.cells #[.int .u8 c] 5))=.ok v' w')/\Buf w' v' (l++[x])/\Gr w w' v v':=by
 obtain⟨v',w',h1,G,H⟩:=iY (h.alloc (.cells #[.int .u8 c] 5)) (aj w.heap.size 0) 1 1 [x] rfl (by omega) (fun i u F=>by
  match i,F with
  |0,F=>
   simp[aQ]at F;rw[Addr.add_lit,nI,(aA.new w 5 [.int .u8 c]).cell,<-F,I];rfl
  |i+1,F=>simp[aQ]at F) (by omega)
 exact⟨v',w',h1,G,H.alloc _⟩
theorem Ou{B0 B1:Nat}{w1:World}(xb:Nat)(x:UInt8)(b off:Nat)(f:Fr)(ra:Option Addr)(rc:Nat)(O:B0<=xb)(h1:xb<B1)(H:w1.cell? (aj xb 0)=some (.int .u8 ((x.toNat:Nat):Int))):
  Wr B0 B1 w1 (.func (.func 321) #[] #[ay xb 0]) [x] b off f ra rc:=by
 refine⟨321,_,rfl,enters_of func321 (by kernel_rfl) rfl,fun w v l hp hl=>?_⟩;have U:=hp.keep.cell O h1 H;obtain⟨v',w',F,hB,G⟩:=oJ hp.buf x ((x.toNat:Nat):Int) rfl (by simp at hl;omega);have I:=au hB;have K:=au G;generalize ((x.toNat:Nat):Int)=X at U F;clear hB G hp hl H;go_enter func321,ntmps321
 go_wp2_with (at_builtin;refine fB _ rfl _ _ _ _ rfl _ _ rfl rfl _ _ (F _) ?_)
 go_ret;exact⟨v',rfl,I.out,K.out⟩
theorem Cc{B0 B1:Nat}{w1:World}(b off:Nat)(f:Fr)(ra:Option Addr)(rc:Nat):
  Wr B0 B1 w1 (.func (.func 331) #[] #[]) [if f.fin then 9 else 8] b off f ra rc:=by
 refine⟨331,_,rfl,enters_of func331 (by kernel_rfl) rfl,fun w v l hp hl=>?_⟩;have c5:=hp.oI.c5;obtain⟨v',w',F,hB,K⟩:=oJ hp.buf (if f.fin then 9 else 8) (if f.fin then 9 else 8) (by cases f.fin<;>rfl) (by simp at hl;omega);have G:=au hB;have I:=au K;clear hB K hp hl;cases H:f.fin
 ·rw[H]at c5 F;go_enter func331,ntmps331
  go_wp2_with (at_builtin;refine fB _ rfl _ _ _ _ rfl _ _ rfl rfl _ _ (F _) ?_)
  go_ret;rw[H]at G;exact⟨v',rfl,G.out,I.out⟩
 ·rw[H]at c5 F;go_enter func331,ntmps331
  go_wp2_with (at_builtin;refine fB _ rfl _ _ _ _ rfl _ _ rfl rfl _ _ (F _) ?_)
  go_ret;rw[H]at G;exact⟨v',rfl,G.out,I.out⟩
theorem KX{B0 B1:Nat}{w1:World}(b off:Nat)(f:Fr)(ra:Option Addr)(rc:Nat)(F:0<=f.stream)(H:f.stream<8):
  Wr B0 B1 w1 (.func (.func 327) #[] #[]) (Num.bytes f.stream.toNat) b off f ra rc:=by
 refine⟨327,_,rfl,enters_of func327 (by kernel_rfl) rfl,fun w v l hp hl=>?_⟩;have c1:=hp.oI.c1;have G:=bJ v l f.stream.toNat w hp.buf (by omega) (by omega);obtain⟨s,hs⟩:=Int.eq_ofNat_of_zero_le F;rw[hs]at c1;rw[hs,Int.toNat_natCast]at G ⊢
 have V:(s:Int)<8:=by omega
 have K:=au G;clear G hp hl hs F H;go_enter func327,ntmps327
 go_wp2_with fail
 refine K.out.mono ?_;rintro e w' ⟨v',rfl,hB,I⟩;have O:=au hB;have U:=au I;clear hB I;go_wp2;go_ret;exact⟨v',rfl,O.out,U.out⟩
theorem l9{B0 B1:Nat}{w1:World}(pb G i n:Nat)(b off:Nat)(f:Fr)(ra:Option Addr)(rc:Nat)(h0:B0<=pb)(h1:pb<B1)(U:w1.cell? (aj pb 0)=some (.func (.func G) #[] #[]))(he:∀args w,(callFunc G args).run prog w=.ok (.enter G args) w)(F:∀w,Calls prog G #[ay b off] w fun e w'=>e=.returned (ay b (off+i))/\w'=w)(K:∀w,kG w b off f ra rc->w.cell? (aj b (off+i))=some (uZ n))(O:n<=aZ):
  Wr B0 B1 w1 (.func (.func 329) #[] #[ay pb 0]) (Num.bytes n) b off f ra rc:=by
 refine⟨329,_,rfl,enters_of func329 (by kernel_rfl) rfl,fun w v l hp hl=>?_⟩;have cc:=hp.keep.cell h0 h1 U;have cn:=K w hp.oI;have V:=au (bJ v l n w hp.buf (by unfold aZ at O;omega) (by omega));have HP:=au (F w);clear F hp hl K O U;go_enter func329,ntmps329
 go_wp2_with fail
 refine HP.out.mono ?_;rintro e w' ⟨rfl,H⟩;subst H
 go_wp2_with fail
 refine V.out.mono ?_;rintro e w2 ⟨v',rfl,hB,I⟩;have X:=au hB;have Z:=au I;clear hB I;go_wp2;go_ret;exact⟨v',rfl,X.out,Z.out⟩
theorem xH{w:World}{v:Value}{l:List UInt8}(h:Buf w v l)(h0:0<l.length)(s:ByteArray)(hsz:l.length+s.size<=70368744177664):
  ∃v' w',(∀ty,(Kt #[60,9] ty #[v,.string s]).run prog w=.ok v' w')/\Buf w' v' (l++s.data.toList)/\Gr w w' v v':=by
 obtain⟨i,hi,hz,hs,hb⟩:=info_parts info5
 have hS:Src prog i.size 9 (.string s) s.size (byteCells s) w:=by rw[hs];exact Src.ofString w u9 s
 have O:(byteCells s).length=s.size:=byteCells_length s;have H:byteCells s=aQ s.data.toList:=rfl
 have F:s.data.toList.length=s.size:=by rw[Array.length_toList];rfl
 rcases h with⟨_,rfl⟩|⟨g,cap,cs,rfl,hB,h2,h3,h4,h5,h6⟩
 ·simp at h0
 ·by_cases hr:l.length+s.size<=cap
  ·have G:=fun ty=>run_append_room_src (P:=prog) (w:=w) 60 9 ty 5 i u29 hi g 0 l.length cap _ s.size (byteCells s) hS hr (fun j U=>by rw[hB.cell,hs];simp;omega) (fun j _=>hB.frozen _)
   have V:=dV cs (byteCells s) (0+l.length*i.size) (by rw[hs];omega);rw[rU hB _ (by rw[hs];omega) (by rw[H];exact dW _)]at G;refine⟨_,_,G,.inr ⟨g,cap,_,by rw[fA,F],hB.put _,?_,by rw[fA,F];exact hr,h4,?_,aW h6 (by rw[H];exact dW _)⟩,bC w g _,fun k Z=>.inl Z⟩
   ·rw[aN _ _ _ (by rw[hs];omega),h2]
   ·rw[O,hs,DT,nI]at V;rw[fA,F,hs,DT,nI,V,gQ,h5,H]
  ·have hO:(Builtin.firstCells i.size l.length (aS g l.length cap)).run prog w.drew=.ok (aQ l).toArray w.drew:=by
    rw[hs]
    exact run_firstCells_some w.drew 1 l.length (aj g 0) l.length cap (aQ l) (by rw[aY,DT]) (fun j u U=>by
     rw[Addr.add_lit,nI];show w.cell? _=_;rw[hB.cell];rw[<-h5,Av]at U;split at U
     ·exact U
     ·cases U)
   have G:=fun ty=>run_append_grow_src (P:=prog) (w:=w) 60 9 ty 5 i (.int .u8 0) u29 hi hz (some (aj g 0)) l.length cap (aQ l) hO _ s.size (byteCells s) hS (by omega) (by omega) (by rw[hb];exact growslice_fits (by omega) (by omega))
   have X:=grownCap_ge w (l.length+s.size) cap 5;have K:=grownCap_le_maxLen w (l.length+s.size) cap 5 (by unfold maxLen;omega);unfold maxLen at K
   have eB:((aQ l++byteCells s).toArray++Aw (Value.int .u8 0).cells (grownCap w (l.length+s.size) cap 5-(l.length+s.size)))=(aQ l++byteCells s++(Aw (Value.int .u8 0).cells (grownCap w (l.length+s.size) cap 5-(l.length+s.size))).toList).toArray:=by
    apply Array.ext';simp
   rw[eB]at G;refine⟨_,_,G,.inr ⟨w.heap.size,_,_,by rw[fA,F],aA.new w 5 _,?_,by rw[fA,F];exact X,K,?_,?_⟩,bM (fJ w _) (World.grownBy_alloc w.drew _ _),?_⟩
   ·rw[fA,fA,pU,O,aY];omega
   ·rw[fA,F,List.take_append_of_le_length (by rw[fA,aY];omega),tT (by rw[fA,aY];omega),gQ,H]
   ·intro u I
    rcases KG.1 I with I|I
    ·rcases KG.1 I with I|I
     ·exact dW l u I
     ·rw[H]at I;exact dW _ u I
    ·exact uw _ u I
   ·intro k Z;simp[Value.ownBlock]at Z;exact .inr (by omega)
theorem TD{B0 B1:Nat}{w1:World}(b off:Nat)(f:Fr)(ra:Option Addr)(rc:Nat):
  Wr B0 B1 w1 (.func (.func 333) #[] #[]) (Num.bytes f.data.size++f.data.data.toList) b off f ra rc:=by
 refine⟨333,_,rfl,enters_of func333 (by kernel_rfl) rfl,fun w v l hp hl=>?_⟩;have c8:=hp.oI.c8;have hd:=hp.oI.xG;have HA:=au (bJ v l f.data.size w hp.buf (by omega) (by omega));have G:=Num.eH f.data.size
 have O:0<(Num.bytes f.data.size).length:=by rw[G];exact Nat.pow_pos (by decide)
 have Z:(Num.bytes f.data.size).length<=8:=by
  rw[G];have:=Num.Jz f.data.size;have:2 ^ Num.code f.data.size<=2 ^ 3:=uj (by decide) this;omega
 have h0:f.data.data.toList.length=f.data.size:=by rw[Array.length_toList];rfl
 have K:=fun w' v' hB H=>(hp.next (w':=w') (v':=v') (l':=l++Num.bytes f.data.size) hB H).oI.c8
 have wG:=au K
 have V:=fun w' v' (hB:Buf w' v' (l++Num.bytes f.data.size))=>xH hB (by rw[fA];omega) f.data (by rw[fA]at hl ⊢;omega)
 have X:=au V;clear K V hp hl G O Z h0;go_enter func333,ntmps333
 go_wp2_with fail
 refine HA.out.mono ?_;rintro e w2 ⟨v',rfl,hB,H⟩;have h2:=wG.out w2 v' hB H;obtain⟨v3,w3,U,F,I⟩:=X.out w2 v' hB;rw[List.append_assoc]at F;have HB:=au F;have HG:=au (H.trans I);clear hB H F I
 go_wp2_with (at_builtin;refine fB _ rfl _ _ _ _ rfl _ _ rfl rfl _ _ (U _) ?_)
 go_ret;exact⟨v3,rfl,HB.out,HG.out⟩
