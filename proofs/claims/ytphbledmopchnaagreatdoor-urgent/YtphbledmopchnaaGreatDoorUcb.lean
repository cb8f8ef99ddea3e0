import Derived.Test.YtphbledmopchnaaGreatDoorUba
import Derived.Test.YtphbledmopchnaaGreatDoorUbc
import Derived.Defers
import Derived.Recover
import Derived.Deep.CutRange
import Derived.Deep.RegionWith
import Derived.Deep.RegionHeld3
import Derived.Deep.RegionLaw
open Go.RowKit.Below renaming heap_setCell->fA,refl->tL,heap_alloc->Am
open Bool renaming and_eq_true->Av
open Go.Builtin renaming append_->E8
open Int renaming toNat_of_nonneg->Lb,natCast_emod->SF
open List renaming length_append->nI,getD_eq_getElem?_getD->tT,getElem?_eq_getElem->uj,drop_left'->He,length_map->Kt,length_singleton->KG,append_assoc->M4,getElem?_map->R3,length_drop->Ui,length_set->Ur
open Nat renaming le_refl->fB,zero_le->mR,not_lt_zero->sQ,zero_add->Aw
open Go.World renaming block_lt_of_cell?->wz,cell?_setCell_same'->DT
set_option maxHeartbeats 4000000
set_option maxRecDepth 100000
namespace Go.Proofs.YtphbledmopchnaaGreatDoor
open Go.RowKit Go.Lib Go.Shelf Mm Tryz
theorem tZ(w:World):Calls prog 42 #[.nilIface] w fun e w'=>e=.returned (.tuple #[iZ 0,(iZ (-1))])/\aD w w':=by
 go_enter func42,ntmps42;go_wp2;go_ret2;exact⟨rfl,((tL _ w).alloc (fB _) _).alloc (by simp) _⟩
theorem nK(x:Int)(h5:∀w,(binOp .eql 94 (.iface 57 (iZ x)) (.iface 57 (iZ x))).run prog w=.ok (.bool true) w)(w:World)(hg:eF w):
  Calls prog 42 #[.iface 57 (iZ x)] w fun e w'=>e=.returned (.tuple #[iZ x,(iZ (-1))])/\aD w w':=by
 obtain⟨G,I⟩:∃G,G=(w.alloc (.cells #[.pointer none] 133)).alloc (.cells #[iZ 0] 57):=⟨_,rfl⟩
 have hs:G.heap.size=w.heap.size+2:=by rw[I];simp
 have hb:aD w G:=by rw[I];exact((tL _ w).alloc (fB _) _).alloc (by simp) _
 have h0:0<w.heap.size:=wz _ _ hg;have X:eF G:=cell_of hg (hb.block 0 h0)
 have hB:aA G (w.heap.size+1) 57 [iZ 0]:=by rw[I];have:=aA.new (w.alloc (.cells #[.pointer none] 133)) 57 [iZ 0];simpa using this
 have HM:=au (Vy x (aj w.heap.size 0) G X);obtain⟨H,O⟩:∃H,H=(((G.alloc (.cells #[ay w.heap.size 0] 135)).alloc (.cells #[ay 2 135,ay G.heap.size 0,uZ 150] 217)).alloc (.cells #[ay 2 135,ay G.heap.size 0,uZ 150] 217)):=⟨_,rfl⟩
 have F:aD G H:=by rw[O];exact(((tL _ G).alloc (fB _) _).alloc (by simp) _).alloc (by simp;omega) _
 have K:aA H (w.heap.size+1) 57 [iZ 0]:=hB.of_heap (F.block _ (by omega));have h3:eF H:=cell_of X (F.block 0 (by omega));have HH:=au (X9 x (aj (w.heap.size+1) 0) (iZ 0) H h3 (K.cell 0) (K.frozen 0));have HI:=au (fun w=>Vx x w h5);obtain⟨Z,U⟩:∃Z,Z=((((H.alloc (.cells #[(ay (w.heap.size+1) 0)] 139)).alloc (.cells #[ay 2 139,ay H.heap.size 0,uZ 150] 217)).alloc (.cells #[ay 2 139,ay H.heap.size 0,uZ 150] 217)).alloc (.cells #[iZ x] 57)):=⟨_,rfl⟩
 have V:aD H Z:=by rw[U];exact((((tL _ H).alloc (fB _) _).alloc (by simp) _).alloc (by simp;omega) _).alloc (by simp;omega) _
 have h2:aA Z (w.heap.size+1) 57 [iZ 0]:=K.of_heap (V.block _ (by have:=F.size;omega));have k1:(Z.setCell (aj (w.heap.size+1) 0) (iZ x)).cell? (aj (w.heap.size+1) 0)=some (iZ x):=DT _ _ _ (by rw[h2.cell 0];rfl);have HF:Hid (aD w (Z.setCell (aj (w.heap.size+1) 0) (iZ x))):=(((hb.trans (F.mono (by omega))).trans (V.mono (by have:=F.size;omega))).setCell (p:=(aj (w.heap.size+1) 0)) (by simp) _);rw[<-O]at HM;rw[<-U]at HH;have h4:=au I;clear I O U hs hb hg X hB F K h3 V h2;go_enter func42,ntmps42
 go_wp2_with fail
 rw[<-h4.out];refine HM.out.mono ?_;rintro e w2 ⟨rfl,h6⟩;subst h6
 go_wp2_with fail
 refine HH.out.mono ?_;rintro e w3 ⟨rfl,h7⟩;subst h7
 go_wp2_with fail
 refine(HI.out _).mono ?_;rintro e w4 ⟨rfl,h8⟩;subst h8;go_wp2;go_ret2;exact⟨rfl,HF.out⟩
theorem vC(v:Value)(x at_:Int)(w:World)(P:World->Prop)(h:Calls prog 42 #[v] w fun e w'=>e=.returned (.tuple #[iZ x,iZ at_])/\P w'):
  Calls prog 60 #[v] w fun e w'=>e=.returned (iZ x)/\P w':=by
 have H:=au h;clear h;go_enter func60,ntmps60
 go_wp2_with fail
 refine H.out.mono ?_;rintro e w2 ⟨rfl,F⟩;have G:=au F;clear F;go_wp2;go_ret;exact⟨rfl,G.out⟩
theorem Own.mono{A B:Nat}{v:Value}(h:Own B v)(F:A<=B):Own A v:=fun k G=>Nat.le_trans F (h k G)
theorem Ih(f:Fr)(a:Option Addr)(n c:Nat):∀v∈fu f (.slice a n c),v.oneCell'=true:=by
 intro v F;simp[fu]at F
 rcases F with h|h|h|h|h|h|h|h|h|h<;>subst h<;>rfl
def Uq(w:World)(fa:Option Addr)(fs:List Fr)(ra:Nat->Option Addr)(rc:Nat->Nat):Prop:=
 ∀j,j<fs.length->∃b off,fa=some (aj b off)/\kG w b (off+j*10) (fs.getD j dS) (ra j) (rc j)
theorem jB.weak{w:World}{fa:Option Addr}{fs:List Fr}{ra:Nat->Option Addr}{rc:Nat->Nat}(h:jB w fa fs ra rc):Uq w fa fs ra rc:=fun j G=>by
 obtain⟨b,off,F,h1,_⟩:=h j G;exact⟨b,off,F,h1⟩
def CK(k:Int):Fr:=⟨k,0,0,0,0,false,0,0,⟨#[]⟩,[]⟩
def norm(f:Fr):Fr:=yE f (aX f.kind) (aX f.kind).length (CK f.kind)
theorem kU{f:Fr}(h:snd f=true):f.kind=1\/f.kind=2\/f.kind=3\/f.kind=4\/f.kind=5\/f.kind=6\/f.kind=7\/f.kind=8:=by
 obtain⟨_,h1,F,_⟩:=mY f h;omega
theorem norm_eq(f:Fr)(h:snd f=true):norm f=
  (if f.kind=1 then CK 1 else if f.kind=2 then{CK 2 with ranges:=f.ranges}else if f.kind=3 then{CK 3 with stream:=f.stream,offset:=f.offset,reliable:=f.reliable}else if f.kind=4 then{CK 4 with fin:=f.fin,stream:=f.stream,offset:=f.offset,data:=f.data}
  else if f.kind=5 then{CK 5 with limit:=f.limit}else if f.kind=6 then{CK 6 with stream:=f.stream,limit:=f.limit}else if f.kind=7 then{CK 7 with id:=f.id,deadline:=f.deadline,data:=f.data}else{CK 8 with limit:=f.limit}):=by
 unfold norm
 rcases kU h with e|e|e|e|e|e|e|e<;>rw[e]<;>rfl
theorem mQ(f:Fr)(h:snd f=true):(norm f).kind=f.kind:=by
 rw[norm_eq f h]
 rcases kU h with e|e|e|e|e|e|e|e<;>rw[e]<;>rfl
theorem yG(f:Fr)(h:snd f=true):snd (norm f)=true:=by
 obtain⟨⟨s0,s8,n0,n1,n2,n3,n4⟩,_,_,F⟩:=mY f h;rw[norm_eq f h];unfold jK at F
 rcases kU h with e|e|e|e|e|e|e|e
 ·rw[e];rfl
 ·rw[e]at F ⊢;simp only[show((2:Int)=1)=False by decide,if_true,if_false]at F ⊢;unfold snd lM jK;simp[CK,F]
 ·rw[e]at F ⊢;simp only[show((3:Int)=1)=False by decide,show((3:Int)=2)=False by decide,if_true,if_false]at F ⊢;unfold snd lM jK;simp[CK,s0,s8,n0,n1];exact of_decide_eq_true F
 ·rw[e]at F ⊢;simp only[show((4:Int)=1)=False by decide,show((4:Int)=2)=False by decide,show((4:Int)=3)=False by decide,if_true,if_false]at F ⊢;unfold snd lM jK;simp[CK,s0,s8,n0];exact of_decide_eq_true F
 ·rw[e];simp only[show((5:Int)=1)=False by decide,show((5:Int)=2)=False by decide,show((5:Int)=3)=False by decide,show((5:Int)=4)=False by decide,if_true,if_false];unfold snd lM jK;simp[CK,n2]
 ·rw[e];simp only[show((6:Int)=1)=False by decide,show((6:Int)=2)=False by decide,show((6:Int)=3)=False by decide,show((6:Int)=4)=False by decide,show((6:Int)=5)=False by decide,if_true,if_false];unfold snd lM jK;simp[CK,n2,s0,s8]
 ·rw[e];simp only[show((7:Int)=1)=False by decide,show((7:Int)=2)=False by decide,show((7:Int)=3)=False by decide,show((7:Int)=4)=False by decide,show((7:Int)=5)=False by decide,show((7:Int)=6)=False by decide,if_true,if_false];unfold snd lM jK;simp[CK,n3,n4]
 ·rw[e];simp only[show((8:Int)=1)=False by decide,show((8:Int)=2)=False by decide,show((8:Int)=3)=False by decide,show((8:Int)=4)=False by decide,show((8:Int)=5)=False by decide,show((8:Int)=6)=False by decide,show((8:Int)=7)=False by decide,if_false];unfold snd lM jK;simp[CK,n2]
theorem Iu(f:Fr)(h:snd f=true):aG (norm f)=aG f:=by
 unfold aG;rw[mQ f h,norm_eq f h]
 rcases kU h with e|e|e|e|e|e|e|e<;>rw[e]<;>rfl
theorem Ke(f:Fr)(h:snd f=true)(ok:jl f):jl (norm f):=by
 obtain⟨H,G,k0,s0,⟨u1,u2,u3,u4,u5⟩,r0⟩:=ok;rw[norm_eq f h]
 have z:(0:Nat)<18446744073709551616:=by decide
 rcases kU h with e|e|e|e|e|e|e|e<;>rw[e]
 ·show jl ⟨1,0,0,0,0,false,0,0,⟨#[]⟩,[]⟩;exact⟨mR _,mR _,⟨(by decide:(-9223372036854775808:Int)<=1),(by decide:(1:Int)<=9223372036854775807)⟩,⟨(by decide:(-9223372036854775808:Int)<=0),(by decide:(0:Int)<=9223372036854775807)⟩,⟨z,z,z,z,z⟩,fun j F=>absurd F (sQ _)⟩
 ·show jl ⟨2,0,0,0,0,false,0,0,⟨#[]⟩,f.ranges⟩;exact⟨H,mR _,⟨(by decide:(-9223372036854775808:Int)<=2),(by decide:(2:Int)<=9223372036854775807)⟩,⟨(by decide:(-9223372036854775808:Int)<=0),(by decide:(0:Int)<=9223372036854775807)⟩,⟨z,z,z,z,z⟩,r0⟩
 ·show jl ⟨3,f.stream,f.offset,f.reliable,0,false,0,0,⟨#[]⟩,[]⟩;exact⟨mR _,mR _,⟨(by decide:(-9223372036854775808:Int)<=3),(by decide:(3:Int)<=9223372036854775807)⟩,s0,⟨u1,u2,z,z,z⟩,fun j F=>absurd F (sQ _)⟩
 ·show jl ⟨4,f.stream,f.offset,0,0,f.fin,0,0,f.data,[]⟩;exact⟨mR _,G,⟨(by decide:(-9223372036854775808:Int)<=4),(by decide:(4:Int)<=9223372036854775807)⟩,s0,⟨u1,z,z,z,z⟩,fun j F=>absurd F (sQ _)⟩
 ·show jl ⟨5,0,0,0,f.limit,false,0,0,⟨#[]⟩,[]⟩;exact⟨mR _,mR _,⟨(by decide:(-9223372036854775808:Int)<=5),(by decide:(5:Int)<=9223372036854775807)⟩,⟨(by decide:(-9223372036854775808:Int)<=0),(by decide:(0:Int)<=9223372036854775807)⟩,⟨z,z,u3,z,z⟩,fun j F=>absurd F (sQ _)⟩
 ·show jl ⟨6,f.stream,0,0,f.limit,false,0,0,⟨#[]⟩,[]⟩;exact⟨mR _,mR _,⟨(by decide:(-9223372036854775808:Int)<=6),(by decide:(6:Int)<=9223372036854775807)⟩,s0,⟨z,z,u3,z,z⟩,fun j F=>absurd F (sQ _)⟩
 ·show jl ⟨7,0,0,0,0,false,f.id,f.deadline,f.data,[]⟩;exact⟨mR _,G,⟨(by decide:(-9223372036854775808:Int)<=7),(by decide:(7:Int)<=9223372036854775807)⟩,⟨(by decide:(-9223372036854775808:Int)<=0),(by decide:(0:Int)<=9223372036854775807)⟩,⟨z,z,z,u4,u5⟩,fun j F=>absurd F (sQ _)⟩
 ·show jl ⟨8,0,0,0,f.limit,false,0,0,⟨#[]⟩,[]⟩;exact⟨mR _,mR _,⟨(by decide:(-9223372036854775808:Int)<=8),(by decide:(8:Int)<=9223372036854775807)⟩,⟨(by decide:(-9223372036854775808:Int)<=0),(by decide:(0:Int)<=9223372036854775807)⟩,⟨z,z,u3,z,z⟩,fun j F=>absurd F (sQ _)⟩
theorem PD(w:World):Calls prog 215 #[.int .u8 1] w fun e w'=>e=.returned (iZ 1)/\w'=w:=by
 go_enter func215,ntmps215;go_wp2;go_ret;exact⟨rfl,rfl⟩
theorem PE(w:World):Calls prog 215 #[.int .u8 2] w fun e w'=>e=.returned (iZ 2)/\w'=w:=by
 go_enter func215,ntmps215;go_wp2;go_ret;exact⟨rfl,rfl⟩
theorem Ma(w:World):Calls prog 215 #[.int .u8 36] w fun e w'=>e=.returned (iZ 3)/\w'=w:=by
 go_enter func215,ntmps215;go_wp2;go_ret;exact⟨rfl,rfl⟩
theorem PG(w:World):Calls prog 215 #[.int .u8 8] w fun e w'=>e=.returned (iZ 4)/\w'=w:=by
 go_enter func215,ntmps215;go_wp2;go_ret;exact⟨rfl,rfl⟩
theorem PI(w:World):Calls prog 215 #[.int .u8 9] w fun e w'=>e=.returned (iZ 4)/\w'=w:=by
 go_enter func215,ntmps215;go_wp2;go_ret;exact⟨rfl,rfl⟩
theorem Mc(w:World):Calls prog 215 #[.int .u8 16] w fun e w'=>e=.returned (iZ 5)/\w'=w:=by
 go_enter func215,ntmps215;go_wp2;go_ret;exact⟨rfl,rfl⟩
theorem Md(w:World):Calls prog 215 #[.int .u8 17] w fun e w'=>e=.returned (iZ 6)/\w'=w:=by
 go_enter func215,ntmps215;go_wp2;go_ret;exact⟨rfl,rfl⟩
theorem Me(w:World):Calls prog 215 #[.int .u8 48] w fun e w'=>e=.returned (iZ 7)/\w'=w:=by
 go_enter func215,ntmps215;go_wp2;go_ret;exact⟨rfl,rfl⟩
theorem Mf(w:World):Calls prog 215 #[.int .u8 28] w fun e w'=>e=.returned (iZ 8)/\w'=w:=by
 go_enter func215,ntmps215;go_wp2;go_ret;exact⟨rfl,rfl⟩
theorem yH(f:Fr)(h:snd f=true):∃x t,aG f=x::t/\∀w,Calls prog 215 #[.int .u8 ((x.toNat:Nat):Int)] w fun e w'=>e=.returned (iZ f.kind)/\w'=w:=by
 have hd:∀(l:List (List UInt8)) n,bE l (n+1)=l.getD 0 []++dO l (n+1) 1:=fun l n=>by
  have:=pG l (n+1) 0 (by omega);rw[kS]at this;exact this
 unfold aG
 rcases kU h with e|e|e|e|e|e|e|e<;>rw[e]
 ·exact⟨1,[],rfl,PD⟩
 ·exact⟨2,_,hd _ 1,PE⟩
 ·exact⟨36,_,hd _ 3,Ma⟩
 ·cases G:f.fin
  ·refine⟨8,dO ((aX 4).map (aR f)) 4 1,?_,PG⟩;have:=hd ((aX 4).map (aR f)) 3
   have F:((aX 4).map (aR f)).getD 0 []=[8]:=by
    show aR f (1,0)=[8];unfold aR;rw[G];rfl
   rw[F]at this;exact this
  ·refine⟨9,dO ((aX 4).map (aR f)) 4 1,?_,PI⟩;have:=hd ((aX 4).map (aR f)) 3
   have F:((aX 4).map (aR f)).getD 0 []=[9]:=by
    show aR f (1,0)=[9];unfold aR;rw[G];rfl
   rw[F]at this;exact this
 ·exact⟨16,_,hd _ 1,Mc⟩
 ·exact⟨17,_,hd _ 2,Md⟩
 ·exact⟨48,_,hd _ 3,Me⟩
 ·exact⟨28,_,hd _ 1,Mf⟩
theorem Ip(p q:Addr)(w:World):
  CallsD prog 160 #[.pointer (some p),.pointer (some q)] .returning w fun e I w'=>e=.returned (.tuple #[])/\I=.returning/\w'=w:=by
 have F:∀w:World,(binOp BinOp.eql 20 .nilIface .nilIface).run prog w=.ok (.bool true) w:=fun _=>by kernel_rfl
 refine callsD_of_wpS func160 rfl fun G cs H=>?_
 apply wpS_seq;apply wpS_region;simp[wpOpsS,go_sem,recoverD,H,ntmps160,Exit.thenS];refine wpS_of_wp ?_;simp[Array.replicate];go_wp2;cases G;simp_all[bodyPostS,results,results160]
theorem XE(w:World)(a:Addr)(v:Value):(w.setCell a v).os=w.os:=rfl
theorem PL(w:World)(a:Addr)(v:Value):(w.setCell a v).tape=w.tape:=rfl
theorem Iw(w:World)(a:Addr)(v:Value):(w.setCell a v).output=w.output:=rfl
theorem PN(w:World)(a:Addr)(v:Value):(w.setCell a v).heap.size=w.heap.size:=by simp
theorem Cr{w:World}{fb:Nat}{f:Fr}{ra:Option Addr}{rc:Nat}(hF:aA w fb 65 (fu f (.slice ra f.ranges.length rc)))(H:bK 170 2 w (.slice ra f.ranges.length rc) f.ranges.length (aL f.ranges))(ok:jl f):kG w fb 0 f ra rc:=
 ⟨hF.cell 0,hF.cell 1,hF.cell 2,hF.cell 3,hF.cell 4,hF.cell 5,hF.cell 6,hF.cell 7,hF.cell 8,hF.cell 9,fun i hi=>by
  obtain⟨U,V⟩:=qU _ i hi;obtain⟨I,F,K,_⟩:=H.cell rfl _ _ U;obtain⟨b2,G,O,_⟩:=H.cell rfl _ _ V;rw[F]at G;cases G
  exact⟨I,0,F,by rw[Aw];exact K,by rw[Aw];exact O,ok.r0 i hi⟩,ok.rlen,ok.xG,ok.k0,ok.s0,ok.u0⟩
theorem Mg(f:Fr)(hs:snd f=true)(ok:jl f)(rb yb yo cap:Nat)(body:List UInt8)(p bg:Nat)(rest:List UInt8)(w:World)(h:dY w rb yb yo cap body p bg)(hb:body.drop p=aG f++rest)(x3:rb<w.heap.size)(x4:yb<w.heap.size):
  Calls prog 164 #[ay rb 0] w fun e w'=>∃v9,e=.returned (.agg (fu (norm f) v9).toArray)/\bK 170 2 w' v9 (norm f).ranges.length (aL (norm f).ranges)/\Own (w.heap.size+1) v9/\dY w' rb yb yo cap body (p+(aG f).length) p/\qg w.heap.size rb rb w w':=by
 obtain⟨F,hF⟩:∃F,norm f=F:=⟨_,rfl⟩;have h5:Hid (norm f=F/\snd F=true/\jl F):=⟨hF,by rw[<-hF];exact yG f hs,by rw[<-hF];exact Ke f hs ok⟩;rw[hF];clear hF;obtain⟨x,t,hx,hK⟩:=yH f hs
 have hg:body.drop p=[x]++(t++rest):=by rw[hb,hx];rfl
 obtain⟨hp,h7⟩:=drop_byte hg;have hj:=h.byte p hp;rw[h7]at hj;have x0:w.cell? (aj rb 0)=some (.slice (some (aj yb yo)) body.length cap):=h.blk.cell 0;have x1:w.cell? (aj rb 1)=some (iZ p):=h.blk.cell 1;have x2:w.cell? (aj rb 2)=some (iZ bg):=h.blk.cell 2;have z2:=h.blk.frozen 2;have x8:=h.ne
 have x9:(p:Int)<(body.length:Int):=by omega
 have HK:=au hK;have HH:=au h;have HB:=au hb;have vH:=au h7;clear hK h hb hg hx h7;go_enter func164,ntmps164
 go_upto_region 2 with fail
 generalize hW:(w.setCell (aj rb 2) (iZ p)).alloc (.cells #[iZ 0,iZ 0,uZ 0,uZ 0,uZ 0,.bool false,uZ 0,uZ 0,.string ⟨#[]⟩,nZ] 65)=W
 have Z:W.heap.size=w.heap.size+1:=by rw[<-hW];simp
 have Mh:dY W rb yb yo cap body p p:=by
  have h:=HH.out;rw[<-hW];have h2:dY (w.setCell (aj rb 2) (iZ p)) rb yb yo cap body p p:=⟨h.blk.setCell 2 _,h.bts.of (fun x hx=>by simp at hx;subst hx;exact fA _ _ _ _ (Ne.symm h.ne)),h.le,h.room,h.cap,h.ne⟩;exact h2.of (Am _ _ _ (by simpa using x3)) (Am _ _ _ (by simpa using x4))
 have Iy:aA W w.heap.size 65 [iZ 0,iZ 0,uZ 0,uZ 0,uZ 0,.bool false,uZ 0,uZ 0,.string ⟨#[]⟩,nZ]:=by
  rw[<-hW];have:=aA.new (w.setCell (aj rb 2) (iZ p)) 65 [iZ 0,iZ 0,uZ 0,uZ 0,uZ 0,.bool false,uZ 0,uZ 0,.string ⟨#[]⟩,nZ];simpa using this
 have K:qg w.heap.size rb rb w W:=by
  rw[<-hW];exact⟨rfl,rfl,rfl,by simp,fun k V h1 _=>by rw[Am _ _ _ (by simpa using V),fA _ _ _ _ h1]⟩
 have k0:W.cell? (aj rb 0)=some (.slice (some (aj yb yo)) body.length cap):=Mh.blk.cell 0;have k1:W.cell? (aj rb 1)=some (iZ p):=Mh.blk.cell 1;have kb:=Mh.byte p hp;rw[vH.out]at kb
 have l1:rb<W.heap.size:=by omega
 have l2:yb<W.heap.size:=by omega
 have HW:=au (And.intro Z (And.intro Mh (And.intro Iy K)));clear hW Z Mh Iy K x0 x1 x2 z2 hj HH
 go_cut [3]from 11 to 22 (fun s3 wx=>s3=(ay W.heap.size 0)/\wx.heap=(W.alloc (.cells #[iZ f.kind,iZ 0,uZ 0,uZ 0,uZ 0,.bool false,uZ 0,uZ 0,.string ⟨#[]⟩,nZ] 65)).heap/\wx.os=W.os/\wx.tape=W.tape/\wx.output=W.output)
 case first=>
  go_region_with (go_at_call 215;refine(HK.out _).mono ?_;rintro e w4 ⟨rfl,ha⟩;subst ha)
  all_goals((try go_wp2_with fail);go_meet;exact⟨rfl,rfl,rfl,rfl,rfl⟩)
 case rest=>
  obtain⟨rfl,hh,ho,ht,U⟩:=hcut;obtain⟨Z,Mh,Iy,K⟩:=HW.out
  have h0:wc.heap.size=W.heap.size+1:=by rw[hh];simp
  have hold:∀b,b<W.heap.size->wc.heap[b]?=W.heap[b]?:=fun b hb=>by rw[hh];exact Am _ _ _ hb
  have hF:aA wc W.heap.size 65 (fu (CK f.kind) nZ):=(aA.new W 65 (fu (CK f.kind) nZ)).of_heap (by rw[hh];rfl);have y0:wc.cell? (aj W.heap.size 0)=some (iZ f.kind):=hF.cell 0;obtain⟨_,h8,uz,_⟩:=mY f hs;have h6:=au (xE f.kind wc);rw[decide_eq_true (p:=1<=f.kind/\f.kind<=8) ⟨h8,uz⟩]at h6;have G5:=au (ni f.kind h8 uz wc)
  have YW:∀(wl:World) (fw fr:Value),DZ (wc.heap.size+1) wl f.kind fw fr->aD wc wl->
    ∃g cb,fr=.func (.func g) #[] cb/\(∀args w,(callFunc g args).run prog w=.ok (.enter g args) w)/\
     Calls prog g (#[ay rb 0,ay W.heap.size 0]++cb) wl fun e y=>e=.returned (.tuple #[])/\∃v9,RP (wc.heap.size+1) wl.heap.size rb W.heap.size yb yo cap body y (p+(aG f).length) p (F) v9/\qg wl.heap.size rb W.heap.size wl y:=by
   intro wl fw fr hL G;obtain⟨g,cb,h1,h2,h3⟩:=UF f hL hs ok.xG ok.rlen rb W.heap.size yb yo cap body p
   have hsz:wc.heap.size+1<=wl.heap.size:=by
    rcases hL with⟨_,X⟩|⟨_,pb,qb,_,_,hB,_⟩
    ·rcases X with⟨_,xb,hx,_⟩|⟨h,_⟩|⟨h,_⟩|⟨h,_⟩|⟨h,_⟩|⟨h,_⟩
     ·have:=wz _ _ hx.2;have:=hx.1;simp at *;omega
     all_goals simp at h
    ·have:=wz _ _ hB.2;have:=hB.1;simp at *;omega
   refine⟨g,cb,h1,h2,?_⟩;refine(h3 wl p (CK f.kind) nZ rest ⟨fB _,fun _ _ _=>rfl⟩ ⟨?_,hF.of_heap (G.block _ (by omega)),bK.nil _ _ _,Own.nil _,hsz,fB _,by omega,by omega,by omega,by omega,by omega⟩ rfl HB.out).mono ?_
   ·exact Mh.of (by rw[G.block _ (by omega),hold _ l1]) (by rw[G.block _ (by omega),hold _ l2])
   ·rintro e y ⟨he,v9,X,hS⟩;have hf:RP (wc.heap.size+1) wl.heap.size rb W.heap.size yb yo cap body y (p+(aG f).length) p (norm f) v9:=X;rw[h5.out.1]at hf;exact⟨he,v9,hf,hS⟩
  have UE:=au YW;have hn:=au (And.intro h0 (And.intro hold (And.intro ho (And.intro ht U))));clear YW hh ho ht U Z Mh Iy K h0 hold hF h8 uz k0 k1 kb
  go_wp2_with fail
  refine h6.out.mono ?_;rintro e w4 ⟨rfl,ha⟩;subst ha
  go_wp2_with fail
  refine G5.out.mono ?_;rintro e wl ⟨fw,fr,rfl,hL,G⟩;obtain⟨g1,hr,_,_,hw,_⟩:=hL.shape;subst hw;obtain⟨g,cb,hu,eg,hC⟩:=UE.out wl _ fr hL G;subst hu;have HC:=au hC;have hm:=au G;have x7:=Z9 g1 g hr cb;clear hC hL G UE G5 h6 y0
  go_wp2_with fail
  refine HC.out.mono ?_;rintro e y ⟨rfl,v9,X,hS⟩;obtain⟨ra,rc,hv,_⟩:=X.rng.shape;subst hv;have hc:kG y W.heap.size 0 (F) ra rc:=Cr X.oI X.rng h5.out.2.2;have TU:=au (oH W.heap.size 0 (F) ra rc y hc);rw[h5.out.2.1]at TU;have HP:=au X;have HS:=au hS;clear X hS hc HC
  go_wp2_with fail
  refine TU.out.mono ?_;rintro e y2 ⟨rfl,O⟩;obtain⟨h0,hold,ho,ht,U⟩:=hn.out;obtain⟨Z,Mh,Iy,K⟩:=HW.out;have G:=hm.out;have hy:=G.size;have x5:=HS.out.size;have I:=HP.out.oI.of_heap (O.block _ (by omega))
  have h9:∀k,k<W.heap.size->k≠rb->y2.heap[k]?=W.heap[k]?:=fun k V h1=>by
   rw[O.block k (by omega),HS.out.block k (by omega) h1 (by omega),G.block k (by omega),hold k V]
  have nR:=Iy.of_heap (h9 w.heap.size (by omega) (by omega));have n0:=I.cell 0;have n1:=I.cell 1;have n2:=I.cell 2;have n3:=I.cell 3;have n4:=I.cell 4;have n5:=I.cell 5;have n6:=I.cell 6;have n7:=I.cell 7;have n8:=I.cell 8;have n9:=I.cell 9;have H:=au (show∀i:Nat,y2.frozen? (aj w.heap.size i)=false from fun i=>nR.frozen i);have r0:=nR.cell 0;have r1:=nR.cell 1;have r2:=nR.cell 2;have r3:=nR.cell 3;have r4:=nR.cell 4;have r5:=nR.cell 5;have r6:=nR.cell 6;have r7:=nR.cell 7;have r8:=nR.cell 8;have r9:=nR.cell 9;have z0:=H.out 0;have z1:=H.out 1;have z2:=H.out 2;have z3:=H.out 3;have z4:=H.out 4;have z5:=H.out 5;have z6:=H.out 6;have z7:=H.out 7;have z8:=H.out 8;have z9:=H.out 9;simp only[fu,List.getElem?_cons_zero,List.getElem?_cons_succ]at n0 n1 n2 n3 n4 n5 n6 n7 n8 n9 r0 r1 r2 r3 r4 r5 r6 r7 r8 r9
  have x6:¬(W.heap.size=w.heap.size):=by omega
  have h4:∀y3:World,y3.os=y2.os->y3.tape=y2.tape->y3.output=y2.output->y3.heap.size=y2.heap.size->(∀k,k≠w.heap.size->y3.heap[k]?=y2.heap[k]?)->
    bK 170 2 y3 (.slice ra (F).ranges.length rc) (F).ranges.length (aL (F).ranges)/\Own (w.heap.size+1) (.slice ra (F).ranges.length rc)/\dY y3 rb yb yo cap body (p+(aG f).length) p/\qg w.heap.size rb rb w y3:=fun y3 e1 e2 e3 e4 e5=>by
   have X:=HP.out;refine⟨X.rng.of_heap (fun b hb=>?_),X.own.mono (by omega),X.rd.of ?_ ?_,?_⟩
   ·have:=X.own b hb;rw[e5 b (by omega),O.block b (X.rng.lt b hb)]
   ·rw[e5 rb (by omega),O.block rb (by omega)]
   ·rw[e5 yb (by omega),O.block yb (by omega)]
   ·refine⟨?_,?_,?_,by rw[e4];have:=O.size;omega,fun k V h1 _=>?_⟩
    ·rw[e1,O.os,HS.out.os,G.os,ho,K.os]
    ·rw[e2,O.tape,HS.out.tape,G.tape,ht,K.tape]
    ·rw[e3,O.output,HS.out.output,G.output,U,K.output]
    ·rw[e5 k (by omega),h9 k (by omega) h1,K.block k V h1 h1]
  have jd:=au h4;clear h4 h0 hold ho ht U Z Mh Iy K G hy x5 I h9 nR O H HP HS
  go_wp2_with fail
  exact bodyPost_ret (v:=.agg #[(iZ (F).kind),(iZ (F).stream),(uZ ((F).offset:Int)),(uZ ((F).reliable:Int)),(uZ ((F).limit:Int)),.bool (F).fin,(uZ ((F).id:Int)),(uZ ((F).deadline:Int)),.string (F).data,.slice ra (F).ranges.length rc]) (by simp[results,results164,go_sem,r0,r1,r2,r3,r4,r5,r6,r7,r8,r9]) rfl ⟨.slice ra (F).ranges.length rc,rfl,jd.out _ (by simp only[XE]) (by simp only[PL]) (by simp only[Iw]) (by simp only[PN]) (fun k V=>by rw[fA _ _ _ _ V,fA _ _ _ _ V,fA _ _ _ _ V,fA _ _ _ _ V,fA _ _ _ _ V,fA _ _ _ _ V,fA _ _ _ _ V,fA _ _ _ _ V,fA _ _ _ _ V,fA _ _ _ _ V])⟩
structure PK (w:World) (yb yo cap:Nat) (body:List UInt8) (n:Nat) (fs:List Fr) (wr:World) (v9:Nat->Value) (k:Nat) (s:Value) (p bg:Nat):Prop where
 box:aA wr w.heap.size 56 [uZ n,s]
 err:aA wr (w.heap.size+1) 94 [.nilIface]
 rd:dY wr (w.heap.size+2) yb yo cap body p bg
 cp:sH (w.heap.size+3) wr s fs v9 k
 hsz:w.heap.size+3<=wr.heap.size
 PO:Below w.heap.size w wr
 yl:yb<w.heap.size
theorem PK.frame{w:World}{yb yo cap:Nat}{body:List UInt8}{n:Nat}{fs:List Fr}{wr y:World}{v9:Nat->Value}{k:Nat}{s:Value}{p bg K H:Nat}(h:PK w yb yo cap body n fs wr v9 k s p bg)(G:qg wr.heap.size (w.heap.size+2) (w.heap.size+2) wr y)(V:dY y (w.heap.size+2) yb yo cap body K H):PK w yb yo cap body n fs y v9 k s K H:=by
 have hsz:=h.hsz
 have F:∀b,b<wr.heap.size->b≠w.heap.size+2->y.heap[b]?=wr.heap[b]?:=fun b h1 I=>G.block b h1 I I
 refine⟨h.box.of_heap (F _ (by omega) (by omega)),h.err.of_heap (F _ (by omega) (by omega)),V,⟨h.cp.buf.of_heap (fun b hb=>F b (h.cp.buf.lt b hb) (by have:=h.cp.own b hb;omega)),h.cp.own,fun j X=>?_⟩,by have:=G.size;omega,?_,h.yl⟩
 ·obtain⟨O,U,Z⟩:=h.cp.rng j X;exact⟨O.of_heap (fun b hb=>F b (O.lt b hb) (by have:=U b hb;omega)),U,Z⟩
 ·exact h.PO.trans ⟨G.os,G.tape,G.output,G.size,fun b hb=>F b (by omega) (by omega)⟩
theorem PK.app{w:World}{yb yo cap:Nat}{body:List UInt8}{n:Nat}{fs:List Fr}{y:World}{v9:Nat->Value}{k:Nat}{s:Value}{p bg:Nat}(h:PK w yb yo cap body n fs y v9 k s p bg)(hk:k<fs.length)(hl:fs.length<=1000000000)(F:Fr)(hF:fs.getD k dS=F)(ra:Option Addr)(rc:Nat)(hG:bK 170 2 y (.slice ra F.ranges.length rc) F.ranges.length (aL F.ranges))(hO:Own (w.heap.size+3) (.slice ra F.ranges.length rc))(h0:∀b,(Value.slice ra F.ranges.length rc).ownBlock=some b->s.ownBlock≠some b):
  ∃Z c' I,(∀ty,(E8 #[54,54] ty #[s,aS y.heap.size 1 1]).run prog (y.alloc (.cells #[iZ F.kind,iZ F.stream,uZ F.offset,uZ F.reliable,uZ F.limit,.bool F.fin,uZ F.id,uZ F.deadline,.string F.data,.slice ra F.ranges.length rc] 65))=.ok (.slice Z (k+1) c') I)/\
   aA I w.heap.size 56 [uZ n,s]/\PK w yb yo cap body n fs (I.setCell (aj w.heap.size 1) (.slice Z (k+1) c')) (fun j=>if j=k then .slice ra F.ranges.length rc else v9 j) (k+1) (.slice Z (k+1) c') p bg:=by
 have hsz:=h.hsz;have h6:=h.yl;obtain⟨K,um⟩:∃K,K=y.alloc (.cells #[iZ F.kind,iZ F.stream,uZ F.offset,uZ F.reliable,uZ F.limit,.bool F.fin,uZ F.id,uZ F.deadline,.string F.data,.slice ra F.ranges.length rc] 65):=⟨_,rfl⟩
 have h7:K.heap.size=y.heap.size+1:=by rw[um];simp
 have H:Below y.heap.size y K:=by rw[um];exact(tL _ _).alloc (fB _) _
 have h3:aA K y.heap.size 65 (fu F (.slice ra F.ranges.length rc)):=by rw[um];exact aA.new y 65 _
 rw[<-um];have YX:bK 65 10 K s k (lF fs v9 k):=h.cp.buf.of_heap (fun b hb=>H.block b (h.cp.buf.lt b hb));obtain⟨h9,I,h2,DI,X⟩:=fE lS YX (aj y.heap.size 0) 1 1 (fu F (.slice ra F.ranges.length rc)) (by simp[fu]) (by omega) (Ih F _ _ _) (fun j u hu=>by rw[Addr.add_lit,Aw,h3.cell];exact hu) (by omega);obtain⟨Z,c',hv,_⟩:=DI.shape;subst hv;have V:Below (w.heap.size+3) K I:=X.below h.cp.own (by omega);have Ta:=X.own h.cp.own (by omega)
 have U:∀b,b<w.heap.size+3->I.heap[b]?=y.heap[b]?:=fun b hb=>by rw[V.block b hb,H.block b (by omega)]
 have WQ:=h.box.of_heap (U w.heap.size (by omega))
 have G:∀b,b≠w.heap.size->(I.setCell (aj w.heap.size 1) (.slice Z (k+1) c')).heap[b]?=I.heap[b]?:=fun b hb=>fA _ _ _ _ hb
 have h8:=V.size;refine⟨Z,c',I,h2,WQ,⟨WQ.setCell 1 _,h.err.of_heap (by rw[G _ (by omega),U _ (by omega)]),h.rd.of (by rw[G _ (by omega),U _ (by omega)]) (by rw[G _ (by omega),U _ (by omega)]),⟨?_,Ta,fun j hj=>?_⟩,by simp;omega,?_,h6⟩⟩
 ·have e:lF fs (fun j=>if j=k then .slice ra F.ranges.length rc else v9 j) (k+1)=lF fs v9 k++fu F (.slice ra F.ranges.length rc):=by
   rw[lF,hF,vK fs _ v9 k (fun j hj=>by rw[if_neg (by omega)]),if_pos rfl]
  rw[e];exact DI.of_heap (fun b hb=>G b (by have:=Ta b hb;omega))
 ·by_cases e:j=k
  ·subst e;simp only[if_true];rw[hF];refine⟨hG.of_heap (fun b hb=>?_),hO,fun b hb O=>?_⟩
   ·have:=hO b hb;have:=hG.lt b hb;rw[G b (by omega),X.1.block b (by omega) (fun e=>h0 b hb e.symm),H.block b this]
   ·have:=hG.lt b hb
    rcases X.2 b O with O|O
    ·exact h0 b hb O
    ·omega
  ·simp only[if_neg e];obtain⟨r1,r2,r3⟩:=h.cp.rng j (by omega);refine⟨r1.of_heap (fun b hb=>?_),r2,fun b hb O=>?_⟩
   ·have:=r2 b hb;have:=r1.lt b hb;rw[G b (by omega),X.1.block b (by omega) (fun e=>r3 b hb e.symm),H.block b this]
   ·have:=r1.lt b hb
    rcases X.2 b O with O|O
    ·exact r3 b hb O
    ·omega
 ·have h4:Below w.heap.size y K:=H.mono (by omega);have h5:Below w.heap.size K I:=V.mono (by omega);exact h.PO.trans ((h4.trans h5).setCell (p:=(aj w.heap.size 1)) (fB _) _)
theorem lY(n:Nat)(fs:List Fr)(k:Nat):∀N,k<=N->∃s,cZ n fs N=cZ n fs k++s
 |0,h=>⟨[],by
   obtain rfl:k=0:=by omega
   simp⟩
 |N+1,h=>by
  by_cases e:k=N+1
  ·exact⟨[],by rw[e];simp⟩
  ·obtain⟨s,hs⟩:=lY n fs k N (by omega);exact⟨s++_,by rw[cZ,hs,M4]⟩
def dZ(n:Nat)(fs:List Fr)(N k:Nat):List UInt8:=(cZ n fs N).drop (cZ n fs k).length
theorem CO(n:Nat)(fs:List Fr)(N:Nat):dZ n fs N N=[]:=by unfold dZ;exact List.drop_of_length_le (fB _)
theorem Af(n:Nat)(fs:List Fr)(N:Nat):cZ n fs N=Num.bytes n++dZ n fs N 0:=by
 obtain⟨s,hs⟩:=lY n fs 0 N (by omega);unfold dZ;rw[hs,He rfl];rfl
theorem qI(n:Nat)(fs:List Fr)(N k:Nat)(h:k<N):dZ n fs N k=aG (fs.getD k dS)++dZ n fs N (k+1):=by
 obtain⟨s,hs⟩:=lY n fs (k+1) N (by omega)
 have F:(cZ n fs N).drop (cZ n fs (k+1)).length=s:=by rw[hs];exact He rfl
 have hB:cZ n fs N=cZ n fs k++(aG (fs.getD k dS)++s):=by
  rw[hs,cZ];simp only[M4]
 unfold dZ;rw[F,hB];exact He rfl
theorem getD_map(fs:List Fr)(k:Nat)(h:k<fs.length):(fs.map norm).getD k dS=norm (fs.getD k dS):=by
 rw[tT,tT,R3,uj h];rfl
theorem PK.same{w:World}{yb yo cap:Nat}{body:List UInt8}{n:Nat}{fs:List Fr}{wr W:World}{v9:Nat->Value}{k:Nat}{s:Value}{p bg:Nat}(h:PK w yb yo cap body n fs wr v9 k s p bg)(F:W.heap=wr.heap)(G:W.os=wr.os)(H:W.tape=wr.tape)(I:W.output=wr.output):PK w yb yo cap body n fs W v9 k s p bg:=
 h.frame ⟨G,H,I,by rw[F];exact fB _,fun _ _ _ _=>by rw[F]⟩ (h.rd.of (by rw[F]) (by rw[F]))
theorem Mi{w:World}{yb yo cap:Nat}{body:List UInt8}{n:Nat}{fs:List Fr}{wr:World}{v9:Nat->Value}{k:Nat}{sa:Option Addr}{sc p bg:Nat}(h:PK w yb yo cap body n (fs.map norm) wr v9 k (.slice sa k sc) p bg)(V:k<fs.length)(hl:fs.length<=1000000000)(hs:snd (fs.getD k dS)=true/\jl (fs.getD k dS))(hd:body.drop p=dZ n fs fs.length k)(F:Fr)(hF:norm (fs.getD k dS)=F)(W:World)(e1:W.heap=wr.heap)(e2:W.os=wr.os)(e3:W.tape=wr.tape)(e4:W.output=wr.output):
  Calls prog 164 #[(ay (w.heap.size+2) 0)] W fun e y=>∃ra rc H I G,e=.returned (.agg #[iZ F.kind,iZ F.stream,uZ F.offset,uZ F.reliable,uZ F.limit,.bool F.fin,uZ F.id,uZ F.deadline,.string F.data,.slice ra F.ranges.length rc])/\
   y.cell? (aj w.heap.size 1)=some (.slice sa k sc)/\w.heap.size<y.heap.size/\
   (∀ty,(E8 #[54,54] ty #[.slice sa k sc,aS y.heap.size 1 1]).run prog (y.alloc (.cells #[iZ F.kind,iZ F.stream,uZ F.offset,uZ F.reliable,uZ F.limit,.bool F.fin,uZ F.id,uZ F.deadline,.string F.data,.slice ra F.ranges.length rc] 65))=.ok (.slice H (k+1) I) G)/\
   G.cell? (aj w.heap.size 1)=some (.slice sa k sc)/\G.frozen? (aj w.heap.size 1)=false/\
   Hid (∃v9 p bg,PK w yb yo cap body n (fs.map norm) (G.setCell (aj w.heap.size 1) (.slice H (k+1) I)) v9 (k+1) (.slice H (k+1) I) p bg/\body.drop p=dZ n fs fs.length (k+1)):=by
 have K:=h.same e1 e2 e3 e4;have hsz:=K.hsz;have h0:=K.yl;rw[qI n fs fs.length k V]at hd;have Z:=Mg (fs.getD k dS) hs.1 hs.2 (w.heap.size+2) yb yo cap body p bg _ W K.rd hd (by omega) (by omega);rw[hF]at Z;refine Z.mono ?_;rintro e y ⟨h2,rfl,hG,hO,hR,hS⟩;obtain⟨ra,rc,hv,_⟩:=hG.shape;subst hv;have X:=K.frame hS hR
 have U:(fs.map norm).getD k dS=F:=by rw[getD_map fs k V,hF]
 obtain⟨H,I,G,jQ,O,hP⟩:=X.app (by simpa using V) (by simpa using hl) F U ra rc hG (fun b hb=>by have:=hO b hb;omega) (fun b hb e=>by have:=hO b hb;have:=K.cp.buf.lt b e;omega);exact⟨ra,rc,H,I,G,rfl,X.box.cell 1,by have:=X.hsz;omega,jQ,O.cell 1,O.frozen 1,_,_,_,hP,ig hd⟩
theorem dB{P:Program}(w:World){F:Array Oper}{o:Oper}{a:Act}{K:Act->World->Prop}{Q:Exit->Act->World->Prop}{E:Prop}(G:o.guard=none)(s x:Operand)(t H:TypeId)(O:o.op=.call {callee:=.builtin .append,args:=#[s,x],argTypes:=#[t,H]})(vs I:Value)(hs:a.eval s=vs)(X:a.eval x=I)(v':Value)(w':World)(U:(E8 #[t,H] o.type #[vs,I]).run P w=.ok v' w')(h:K (a.put o.dst v') w'):
  if Region.wanted o (yielded F a.tmps)=true then Oper.wp P o a w K Q else E:=by
 have V:Region.wanted o (yielded F a.tmps)=true:=by simp[Region.wanted,G]
 rw[if_pos V];exact Lib.wp_append_run w s x t H O vs I hs X v' w' U h
theorem rE{P:Program}(w:World){F:Array Oper}{o:Oper}{a:Act}{K:Act->World->Prop}{Q:Exit->Act->World->Prop}{E:Prop}(G:o.guard=none)(g:Nat)(x:Operand)(t:TypeId)(Z:o.op=.call {callee:=.value (.func g),args:=#[x],argTypes:=#[t]})(H:Value)(hx:a.eval x=H)(V:∀args w,(callFunc g args).run P w=.ok (.enter g args) w){R:Ending->World->Prop}(I:Calls P g #[H] w R)(h:∀e y,R e y->∃v,e=.returned v/\K (a.put o.dst v) y):
  if Region.wanted o (yielded F a.tmps)=true then Oper.wp P o a w K Q else E:=by
 have hw:Region.wanted o (yielded F a.tmps)=true:=by simp[Region.wanted,G]
 rw[if_pos hw];have X:a.eval (.func g)=.func (.func g) #[] #[]:=rfl
 have hr:(execOp a.eval o).run P w=.ok (.enter g #[H]) w:=by
  unfold execOp;simp only[Z,resolve,List.map_toArray,List.map_cons,List.map_nil,hx,X];simp[Deferred.ofValue,invoke,V]
 unfold Oper.wp;rw[hr,Oper.upon_enter];refine I.mono ?_;intro e y U;obtain⟨v,rfl,O⟩:=h e y U;exact O
def EM(P:Nat)(w:World):Nat:=match w.cell? (aj P 1)with
 |some (.slice _ n _)=>n
 |_=>0
theorem yI(n:Nat)(fs:List Fr)(hn:n<4611686018427387904)(hs:∀j,j<fs.length->snd (fs.getD j dS)=true/\jl (fs.getD j dS))(hv:0<fs.length)(hl:fs.length<=1000000000)(yb yo cap:Nat)(body:List UInt8)(I:body=bV n fs)(w:World)(hb:BytesAt w (some (aj yb yo)) body)(K:body.length<cap)(Z:cap<=9223372036854775807)(hy:yb<w.heap.size):
  Calls prog 116 #[.slice (some (aj yb yo)) body.length cap] w fun e w'=>∃s v9,e=.returned (.tuple #[.agg #[uZ n,s],.nilIface])/\sH (w.heap.size+3) w' s (fs.map norm) v9 fs.length/\Below w.heap.size w w':=by
 have Mk:∀(fn:Fn) (first cap:Array Value) (w:World),(Instr.makeFunc fn first cap).run prog w=.ok (.func fn first cap) w:=fun _ _ _ _=>rfl
 obtain⟨U,H⟩:∃U,U=((w.alloc (.cells #[uZ 0,nZ] 56)).alloc (.cells #[.nilIface] 94)).alloc (.cells #[.slice (some (aj yb yo)) body.length cap,iZ 0,iZ 0] 257):=⟨_,rfl⟩
 have x7:U.heap.size=w.heap.size+3:=by rw[H];simp
 have h6:Below w.heap.size w U:=by rw[H];exact(((tL _ w).alloc (fB _) _).alloc (by simp) _).alloc (by simp;omega) _
 have hA0:aA U w.heap.size 56 [uZ 0,nZ]:=by rw[H];exact((aA.new w 56 _).alloc _).alloc _
 have he:aA U (w.heap.size+1) 94 [.nilIface]:=by
  rw[H];have:=(aA.new (w.alloc (.cells #[uZ 0,nZ] 56)) 94 [.nilIface]).alloc (.cells #[.slice (some (aj yb yo)) body.length cap,iZ 0,iZ 0] 257);simpa using this
 have hg:dY U (w.heap.size+2) yb yo cap body 0 0:=by
  refine⟨?_,hb.of (fun x hx=>by simp at hx;subst hx;exact h6.block _ hy),mR _,K,Z,by omega⟩;rw[H];have:=aA.new ((w.alloc (.cells #[uZ 0,nZ] 56)).alloc (.cells #[.nilIface] 94)) 257 [.slice (some (aj yb yo)) body.length cap,(iZ ((0:Nat):Int)),(iZ ((0:Nat):Int))];simpa using this
 have h7:body.drop 0=Num.bytes n++dZ n fs fs.length 0:=by
  rw[List.drop_zero,I];exact Af n fs fs.length
 have HN:=au (fH (w.heap.size+2) yb yo cap body 0 0 n _ U hg hn h7);have hr:=ig h7
 have hf:∀w1,dY w1 (w.heap.size+2) yb yo cap body (0+(Num.bytes n).length) 0->dL (w.heap.size+2) U w1->w1.cell? (aj w.heap.size 0)=some (uZ 0)/\w1.frozen? (aj w.heap.size 0)=false/\PK w yb yo cap body n (fs.map norm) (w1.setCell (aj w.heap.size 0) (uZ n)) (fun _=>.bool false) 0 nZ (0+(Num.bytes n).length) 0:=fun w1 h1 X=>by
  have hA1:=hA0.of_heap (X.block _ (by omega))
  have O:∀b,b≠w.heap.size->(w1.setCell (aj w.heap.size 0) (uZ n)).heap[b]?=w1.heap[b]?:=fun b hb=>fA _ _ _ _ hb
  have x6:Below w.heap.size w w1:=h6.trans ⟨X.os,X.tape,X.output,Nat.le_of_eq X.size.symm,fun b hb=>X.block b (by omega)⟩;refine⟨hA1.cell 0,hA1.frozen 0,hA1.setCell 0 _,(he.of_heap (X.block _ (by omega))).of_heap (O _ (by omega)),h1.of (O _ (by omega)) (O _ (by omega)),⟨bK.nil _ _ _,Own.nil _,fun j hj=>absurd hj (sQ _)⟩,?_,x6.setCell (p:=(aj w.heap.size 0)) (fB _) _,hy⟩;have:=X.size;simp;omega
 have hu:∀k p,k<fs.length->body.drop p=dZ n fs fs.length k->p<body.length/\decide (p=body.length)=false:=fun k p hk hd=>by
  rw[qI n fs fs.length k hk]at hd;obtain⟨x,t,hx,_⟩:=yH _ (hs k hk).1
  have h1:(body.drop p).length=(aG (fs.getD k dS)).length+(dZ n fs fs.length (k+1)).length:=by rw[hd,nI]
  rw[Ui,hx,List.length_cons]at h1;exact⟨by omega,by simp;omega⟩
 have YZ:∀p,p<=body.length->body.drop p=dZ n fs fs.length fs.length->decide (p=body.length)=true:=fun p hp hd=>by
  rw[CO]at hd
  have h1:(body.drop p).length=0:=by rw[hd];rfl
  rw[Ui]at h1;simp;omega
 have hc:=au hf;have h3:=au hr;have h4:=au hu;have Y0:=au YZ;have HS:=au hs;clear hf hr hu YZ h7 hg he hA0 h6 x7 hs hb I K Z
 go_enter_defers func116,ntmps116
 go_wp2_with fail
 rw[<-H];clear H;refine HN.out.mono ?_;rintro e w1 ⟨rfl,uh,hm⟩;obtain⟨x0,z0,h5⟩:=hc.out w1 uh hm;have ha:=au h5;have UG:=au (Bg _ _ _ _ _ _ _ _ h5.rd);rw[(h4.out 0 _ hv h3.out).2]at UG;clear h5 uh hm HN hc
 go_wp2_with fail
 refine UG.out.mono ?_;rintro e w2 ⟨rfl,q,rfl⟩;have h9:Hid (∃v9 sa sc p bg,PK w yb yo cap body n (fs.map norm) (((w1.setCell (aj w.heap.size 0) (uZ n))).drewN q) v9 0 (.slice sa 0 sc) p bg/\body.drop p=dZ n fs fs.length 0):=⟨_,_,_,_,_,ha.out.same rfl rfl rfl rfl,h3.out⟩;clear ha h3 UG x0 z0;generalize ((w1.setCell (aj w.heap.size 0) (uZ n))).drewN q=w3 at *
 go_wp2_with fail
 go_loopw [25] (fun _ wr=>∃k:Nat,k<=fs.length/\Hid (∃v9 sa sc p bg,PK w yb yo cap body n (fs.map norm) wr v9 k (.slice sa k sc) p bg/\body.drop p=dZ n fs fs.length k)) (fun _ wr=>fs.length-EM w.heap.size wr)
 case atStart=>exact⟨0,mR _,h9.out⟩
 case round=>
  clear h9;obtain⟨k,hk,HI⟩:=hrel;obtain⟨v9,sa,sc,p,bg,V,hd⟩:=HI.out;have x1:wr.cell? (aj w.heap.size 1)=some (.slice sa k sc):=V.box.cell 1
  have HM:Hid (EM w.heap.size wr=k):=by unfold Hid EM;rw[x1]
  have uO:=au (Bg _ _ _ _ _ _ _ _ V.rd)
  by_cases h8:k<fs.length
  ·rw[(h4.out k p h8 hd).2]at uO;obtain⟨F,hF⟩:∃F,norm (fs.getD k dS)=F:=⟨_,rfl⟩;have HC:=au (fun W e1 e2 e3 e4=>Mi V h8 hl (HS.out k h8) hd F hF W e1 e2 e3 e4);clear V hd hF HI Y0 h4 HS
   go_wp2_with fail
   refine uO.out.mono ?_;rintro e w4 ⟨rfl,q4,rfl⟩
   go_upto_region 7 with fail
   have x5:∀args w,(callFunc 164 args).run prog w=.ok (.enter 164 args) w:=enters_of func164 (by kernel_rfl) rfl;refine wp_region_noPanic ?_
   go_region_law (first|(refine rE _ (by rfl) 164 _ _ (by rfl) _ (by rfl) x5 (HC.out _ (by rfl) (by rfl) (by rfl) (by rfl)) ?_;rintro e y ⟨ra,rc,a',c',W5,rfl,t1,t2,jQ,t3,t4,SQ⟩;refine⟨_,rfl,?_⟩)|(refine dB _ (by rfl) _ _ _ _ (by rfl) _ _ (by rfl) (by rfl) _ _ (jQ _) ?_))
   all_goals(
    refine NoPanic.normal ?_
    have EN:Hid (EM w.heap.size (W5.setCell (aj w.heap.size 1) (.slice a' (k+1) c'))=k+1):=by unfold Hid EM;rw[DT _ _ _ (by rw[t3];rfl)]
    obtain⟨Ld,p',x4,G,ho⟩:=SQ.out;have x3:Hid (∃v9 sa sc p bg,PK w yb yo cap body n (fs.map norm) (W5.setCell (aj w.heap.size 1) (.slice a' (k+1) c')) v9 (k+1) (.slice sa (k+1) sc) p bg/\body.drop p=dZ n fs fs.length (k+1)):=⟨Ld,_,_,p',x4,G,ho⟩;clear G ho SQ jQ t1 t2 t3 t4
    go_wp2_with fail
    go_roundw
    case rel=>exact⟨k+1,by omega,x3⟩
    case measure=>rw[HM.out,EN.out];omega)
  ·obtain rfl:k=fs.length:=by omega
   rw[Y0.out p V.rd.le hd]at uO;have hA:=V.box;have hE:=V.err
   have h0:∀q (x y z:Value),sH (w.heap.size+3) ((((wr.drewN q).setCell (aj w.heap.size 0) x).setCell (aj w.heap.size 1) y).setCell (aj (w.heap.size+1) 0) z) (.slice sa fs.length sc) (fs.map norm) v9 fs.length/\Below w.heap.size w ((((wr.drewN q).setCell (aj w.heap.size 0) x).setCell (aj w.heap.size 1) y).setCell (aj (w.heap.size+1) 0) z):=fun q x y z=>by
    have G:=V.same (W:=wr.drewN q) rfl rfl rfl rfl
    have hw:∀b,w.heap.size+3<=b->((((wr.drewN q).setCell (aj w.heap.size 0) x).setCell (aj w.heap.size 1) y).setCell (aj (w.heap.size+1) 0) z).heap[b]?=(wr.drewN q).heap[b]?:=fun b hb=>by
     rw[fA _ _ _ _ (by simp;omega),fA _ _ _ _ (by simp;omega),fA _ _ _ _ (by simp;omega)]
    refine⟨⟨G.cp.buf.of_heap (fun b hb=>hw b (G.cp.own b hb)),G.cp.own,fun j hj=>?_⟩,((G.PO.setCell (p:=(aj w.heap.size 0)) (fB _) _).setCell (p:=(aj w.heap.size 1)) (fB _) _).setCell (p:=(aj (w.heap.size+1) 0)) (by simp) _⟩;obtain⟨r1,r2,r3⟩:=G.cp.rng j hj;exact⟨r1.of_heap (fun b hb=>hw b (r2 b hb)),r2,r3⟩
   have a0:wr.cell? (aj w.heap.size 0)=some (uZ n):=hA.cell 0;have b0:wr.cell? (aj (w.heap.size+1) 0)=some .nilIface:=hE.cell 0;have z0:=hA.frozen 0;have z1:=hA.frozen 1;have z2:=hE.frozen 0;have jd:=au h0;clear h0 V hd hA hE HI HM
   go_wp2_with fail
   refine uO.out.mono ?_;rintro e w4 ⟨rfl,q4,rfl⟩
   go_wp2_with fail
   refine leaves_cons (f:=160) (args:=#[ay w.heap.size 0,(ay (w.heap.size+1) 0)]) (by simp) (by simp[go_sem]) ?_;refine(Ip (aj w.heap.size 0) (aj (w.heap.size+1) 0) _).mono ?_;rintro e u' x8 ⟨rfl,rfl,rfl⟩;obtain⟨f1,f2⟩:=jd.out q4 (uZ n) (.slice sa fs.length sc) .nilIface;simp[Leaves,settle,results,results116,go_sem,a0,x1,b0];exact⟨⟨_,f1⟩,f2⟩
theorem sH.mono{A B:Nat}{w:World}{s:Value}{fs:List Fr}{v9:Nat->Value}{k:Nat}(h:sH B w s fs v9 k)(F:A<=B):sH A w s fs v9 k:=
 ⟨h.buf,h.own.mono F,fun j G=>by obtain⟨H,I,K⟩:=h.rng j G;exact⟨H,I.mono F,K⟩⟩
theorem sH.of{B:Nat}{w w':World}{s:Value}{fs:List Fr}{v9:Nat->Value}{k:Nat}(h:sH B w s fs v9 k)(e:∀b,B<=b->b<w.heap.size->w'.heap[b]?=w.heap[b]?):sH B w' s fs v9 k:=
 ⟨h.buf.of_heap (fun b hb=>e b (h.own b hb) (h.buf.lt b hb)),h.own,fun j H=>by obtain⟨F,G,I⟩:=h.rng j H;exact⟨F.of_heap (fun b hb=>e b (G b hb) (F.lt b hb)),G,I⟩⟩
def kV(ok:Bool)(n:Nat)(fs:List Fr)(B:Nat)(w:World)(s err:Value):Prop:=
 if ok then err=.nilIface/\∃v9,sH B w s (fs.map norm) v9 fs.length else n=0/\s=nZ/\err=.iface 57 (iZ 7)
theorem kV.shape{ok:Bool}{n:Nat}{fs:List Fr}{B:Nat}{w:World}{s err:Value}(h:kV ok n fs B w s err):∃a m c,s=.slice a m c:=by
 unfold kV at h;cases ok
 ·rw[if_neg (by decide)]at h;exact⟨_,_,_,h.2.1⟩
 ·rw[if_pos rfl]at h;obtain⟨_,v9,F⟩:=h;obtain⟨a,c,hs,_⟩:=F.buf.shape;exact⟨_,_,_,hs⟩
theorem kV.XM{ok:Bool}{n:Nat}{fs:List Fr}{B:Nat}{w:World}{s err:Value}(h:kV ok n fs B w s err):err=.nilIface\/err=.iface 57 (iZ 7):=by
 unfold kV at h;cases ok
 ·rw[if_neg (by decide)]at h;exact .inr h.2.2
 ·rw[if_pos rfl]at h;exact .inl h.1
theorem kV.of{ok:Bool}{n:Nat}{fs:List Fr}{A B:Nat}{w w':World}{s err:Value}(h:kV ok n fs B w s err)(F:A<=B)(e:∀b,B<=b->b<w.heap.size->w'.heap[b]?=w.heap[b]?):kV ok n fs A w' s err:=by
 unfold kV at h ⊢;cases ok
 ·exact h
 ·rw[if_pos rfl]at h ⊢;obtain⟨h1,v9,G⟩:=h;exact⟨h1,v9,(G.of e).mono F⟩
def lZ(ok:Bool)(n:Nat)(fs:List Fr)(l:List UInt8):Prop:=
 if ok then n<4611686018427387904/\(∀j,j<fs.length->snd (fs.getD j dS)=true/\jl (fs.getD j dS))/\0<fs.length/\fs.length<=1000000000/\l=aK n fs
 else n=0/\∃body F,l=body++F/\F.length=4/\Num.val 0 F≠Crc.sum body
theorem nE(l:List UInt8):Num.val 0 (fq l)=Crc.sum l:=by
 unfold fq;rw[Num.GI,Nat.zero_mul,Aw];exact Nat.mod_eq_of_lt (Nat.lt_of_lt_of_le (Crc.sum_lt l) (by decide))
theorem kW(ok:Bool)(n:Nat)(fs:List Fr)(yb yo cap:Nat)(l:List UInt8)(w:World)(I:lZ ok n fs l)(hb:BytesAt w (some (aj yb yo)) l)(h9:l.length<=1000000000)(hj:l.length<=cap)(h8:cap<=9223372036854775807)(hk:yb<w.heap.size)(hT:TabAt w)(h2:2<=w.heap.size):
  Calls prog 69 #[.slice (some (aj yb yo)) l.length cap] w fun e w'=>∃s err,e=.returned (.tuple #[.agg #[uZ n,s],err])/\kV ok n fs (w.heap.size+1) w' s err/\Below w.heap.size w w':=by
 have he:∃body U,l=body++U/\U.length=4/\decide (Num.val 0 U=Crc.sum body)=ok/\(ok=true->body=bV n fs):=by
  unfold lZ at I;cases ok
  ·rw[if_neg (by decide)]at I;obtain⟨_,body,U,h1,h2,h3⟩:=I;exact⟨body,U,h1,h2,by simp[h3],fun h=>by cases h⟩
  ·rw[if_pos rfl]at I;exact⟨bV n fs,fq (bV n fs),I.2.2.2.2,Num.fT 4 _,by rw[nE];simp,fun _=>rfl⟩
 obtain⟨body,U,hl,h6,hg,h7⟩:=he
 have ha:l.length=body.length+4:=by rw[hl,nI,h6]
 obtain⟨G,K⟩:∃G,G=w.alloc (.cells #[uZ 0,nZ] 56):=⟨_,rfl⟩
 have H:G.heap.size=w.heap.size+1:=by rw[K];simp
 have F:Below w.heap.size w G:=by rw[K];exact(tL _ w).alloc (fB _) _
 have hA0:aA G w.heap.size 56 [uZ 0,nZ]:=by rw[K];exact aA.new w 56 _
 have Z:BytesAt G (some (aj yb yo)) (body++U):=by rw[<-hl];exact hb.of (fun x hx=>by simp at hx;subst hx;exact F.block _ hk)
 have HC:=au (GX yb yo body U cap G (by omega) h6 (by omega) Z (hT.below F h2));rw[hg,<-ha]at HC
 have O:BytesAt G (some (aj yb yo)) body:=by
  have:=Z.cut body.length;rwa[List.take_left' rfl]at this
 have V:Hid (ok=true->∀q,Calls prog 116 #[.slice (some (aj yb yo)) body.length cap] (G.drewN q) fun e w'=>∃s v9,e=.returned (.tuple #[.agg #[uZ n,s],.nilIface])/\sH (w.heap.size+4) w' s (fs.map norm) v9 fs.length/\Below (w.heap.size+1) G w'):=fun ho q=>by
  unfold lZ at I;rw[if_pos ho]at I;obtain⟨d1,d2,d3,d4,_⟩:=I;have:=yI n fs d1 d2 d3 d4 yb yo cap body (h7 ho) (G.drewN q) O (by omega) h8 (by show yb<G.heap.size;omega);refine this.mono ?_;rintro e w' ⟨s,v9,h1,h3,h4⟩;have e1:(G.drewN q).heap.size=w.heap.size+1:=H;rw[e1]at h3 h4;exact⟨s,v9,h1,h3,h4.os,h4.tape,h4.output,h4.size,h4.block⟩
 have HW:=au (And.intro H (And.intro F hA0))
 have HN:Hid (ok=false->n=0):=fun ho=>by
  unfold lZ at I;rw[if_neg (by rw[ho];decide)]at I;exact I.1
 clear I hb h9 hl Z O H F hA0 h7 ha hT h6;generalize l.length=L at *;go_enter func69,ntmps69
 go_wp2_with fail
 rw[<-K];clear K;refine HC.out.mono ?_;rintro e w1 ⟨rfl,q,rfl⟩;obtain⟨H,F,hA0⟩:=HW.out;cases ok
 ·have hf:=HN.out rfl;subst hf;have a0:G.cell? (aj w.heap.size 0)=some (uZ 0):=hA0.cell 0;have a1:G.cell? (aj w.heap.size 1)=some nZ:=hA0.cell 1;have z0:=hA0.frozen 0;have z1:=hA0.frozen 1
  have HF:Hid (Below w.heap.size w (((G.drewN q).setCell (aj w.heap.size 0) (uZ 0)).setCell (aj w.heap.size 1) nZ)):=by
   have h1:Below w.heap.size w (G.drewN q):=⟨F.os,F.tape,F.output,F.size,F.block⟩;exact(h1.setCell (p:=(aj w.heap.size 0)) (fB _) _).setCell (p:=(aj w.heap.size 1)) (fB _) _
  clear H F hA0 HW V;go_wp2;exact bodyPost_ret (v:=.tuple #[.agg #[(uZ ((0:Nat):Int)),nZ],.iface 57 (iZ 7)]) (by simp[results,results69,go_sem,a0,a1]) rfl ⟨_,_,rfl,⟨rfl,rfl,rfl⟩,HF.out⟩
 ·have hc:=au (V.out rfl q);clear H F hA0 V
  go_wp2_with fail
  refine hc.out.mono ?_;rintro e w2 ⟨s,v9,rfl,X,h5⟩;obtain⟨sa,sc,hs,_⟩:=X.buf.shape;subst hs;obtain⟨H,F,hA0⟩:=HW.out;have hA2:=hA0.of_heap (h5.block _ (by omega));have a0:w2.cell? (aj w.heap.size 0)=some (uZ 0):=hA2.cell 0;have a1:w2.cell? (aj w.heap.size 1)=some nZ:=hA2.cell 1;have z0:=hA2.frozen 0;have z1:=hA2.frozen 1
  have HF:Hid (∀x y:Value,kV true n fs (w.heap.size+1) ((w2.setCell (aj w.heap.size 0) x).setCell (aj w.heap.size 1) y) (.slice sa fs.length sc) .nilIface/\Below w.heap.size w ((w2.setCell (aj w.heap.size 0) x).setCell (aj w.heap.size 1) y)):=fun x y=>by
   refine⟨⟨rfl,v9,(X.of (fun b h0 _=>?_)).mono (by omega)⟩,((F.trans (h5.mono (by omega))).setCell (p:=(aj w.heap.size 0)) (fB _) _).setCell (p:=(aj w.heap.size 1)) (fB _) _⟩;rw[fA _ _ _ _ (by simp;omega),fA _ _ _ _ (by simp;omega)]
  clear H F hA0 HW X h5 hA2;go_wp2;obtain⟨f1,f2⟩:=HF.out (uZ n) (.slice sa fs.length sc);exact bodyPost_ret (v:=.tuple #[.agg #[uZ n,.slice sa fs.length sc],.nilIface]) (by simp[results,results69,go_sem,a0,a1]) rfl ⟨_,_,rfl,f1,f2⟩
theorem Db(ok:Bool)(n:Nat)(fs:List Fr)(yb yo cap:Nat)(l:List UInt8)(w:World)(hD:lZ ok n fs l)(hb:BytesAt w (some (aj yb yo)) l)(V:l.length<=1000000000)(K:l.length<=cap)(U:cap<=9223372036854775807)(Z:yb<w.heap.size)(hT:TabAt w)(h2:2<=w.heap.size):
  Calls prog 41 #[.slice (some (aj yb yo)) l.length cap] w fun e w'=>∃s err,e=.returned (.tuple #[.agg #[uZ n,s],err])/\kV ok n fs (w.heap.size+1) w' s err/\Below w.heap.size w w':=by
 obtain⟨O,G⟩:∃O,O=w.alloc (.cells #[uZ 0,nZ] 56):=⟨_,rfl⟩
 have H:O.heap.size=w.heap.size+1:=by rw[G];simp
 have F:Below w.heap.size w O:=by rw[G];exact(tL _ w).alloc (fB _) _
 have hA0:aA O w.heap.size 56 [uZ 0,nZ]:=by rw[G];exact aA.new w 56 _
 have HC:=au (kW ok n fs yb yo cap l O hD (hb.of (fun x hx=>by simp at hx;subst hx;exact F.block _ Z)) V K U (by omega) (hT.below F h2) (by omega));have HW:=au (And.intro H (And.intro F hA0));clear hD hb H F hA0 hT;generalize l.length=L at *;go_enter func41,ntmps41
 go_wp2_with fail
 rw[<-G];clear G;refine HC.out.mono ?_;rintro e w2 ⟨s,err,rfl,X,I⟩;obtain⟨sa,sn,sc,hs⟩:=X.shape;subst hs;obtain⟨H,F,hA0⟩:=HW.out;have hA2:=hA0.of_heap (I.block _ (by omega));have a0:w2.cell? (aj w.heap.size 0)=some (uZ 0):=hA2.cell 0;have a1:w2.cell? (aj w.heap.size 1)=some nZ:=hA2.cell 1;have z0:=hA2.frozen 0;have z1:=hA2.frozen 1
 have HF:Hid (∀x y:Value,kV ok n fs (w.heap.size+1) ((w2.setCell (aj w.heap.size 0) x).setCell (aj w.heap.size 1) y) (.slice sa sn sc) err/\Below w.heap.size w ((w2.setCell (aj w.heap.size 0) x).setCell (aj w.heap.size 1) y)):=fun x y=>by
  refine⟨X.of (by omega) (fun b h0 _=>?_),((F.trans (I.mono (by omega))).setCell (p:=(aj w.heap.size 0)) (fB _) _).setCell (p:=(aj w.heap.size 1)) (fB _) _⟩;rw[fA _ _ _ _ (by simp;omega),fA _ _ _ _ (by simp;omega)]
 clear H F hA0 HW X I hA2;go_wp2;obtain⟨f1,f2⟩:=HF.out (uZ n) (.slice sa sn sc);exact bodyPost_ret (v:=.tuple #[.agg #[uZ n,.slice sa sn sc],err]) (by simp[results,results41,go_sem,a0,a1]) rfl ⟨_,_,rfl,f1,f2⟩
theorem wQ(ok:Bool)(n:Nat)(fs:List Fr)(yb yo cap:Nat)(l:List UInt8)(w:World)(hD:lZ ok n fs l)(hb:BytesAt w (some (aj yb yo)) l)(x3:l.length<=1000000000)(h6:0<l.length)(x7:yb<w.heap.size)(hT:TabAt w)(hE:eF w)(h2:2<=w.heap.size)(ev:Int)(hy:ev=if ok then 0 else 7):
  Calls prog 24 #[.slice (some (aj yb yo)) l.length cap] w fun e w'=>∃s err,e=.returned (.tuple #[.agg #[uZ n,s],iZ ev,(iZ (-1))])/\kV ok n fs w.heap.size w' s err/\Below w.heap.size w w':=by
 have x4:=au hy;clear hy;obtain⟨W0,h3⟩:∃W0,W0=w.alloc (.cells #[uZ 0,nZ] 56):=⟨_,rfl⟩
 have K:W0.heap.size=w.heap.size+1:=by rw[h3];simp
 have hg:Below w.heap.size w W0:=by rw[h3];exact(tL _ w).alloc (fB _) _
 have hA0:aA W0 w.heap.size 56 [uZ 0,nZ]:=by rw[h3];exact aA.new w 56 _
 have Zx:BytesAt W0 (some (aj yb yo)) l:=hb.of (fun x hx=>by simp at hx;subst hx;exact hg.block _ x7)
 obtain⟨v1,W1,jQ,hv,he⟩:=iY (Buf.nil W0) (aj yb yo) l.length cap l rfl h6 (fun j u hu=>by
  have hj:j<l.length:=by
   have:=(List.getElem?_eq_some_iff.1 hu).1;rwa[aY]at this
  obtain⟨b,off,ha,hc⟩:=Zx j hj;simp at ha;obtain⟨rfl,rfl⟩:=ha;rw[Addr.add_lit,hc,<-hu]
  simp[aQ,hj]) (by simp;omega)
 rw[List.nil_append]at hv;have wJ:Own W0.heap.size v1:=he.own (Own.nil _) (fB _);have hm:Below W0.heap.size W0 W1:=he.below (Own.nil _) (fB _)
 rcases hv with⟨_,x6⟩|⟨g,c1,cs,rfl,F,hcl,hc2,hc3,hc4,Fp⟩
 ·rw[x6]at h6;simp at h6
 ·have I:W0.heap.size<=g:=wJ g rfl;have G:=F.lt;have jS:Below w.heap.size w W1:=hg.trans (hm.mono (by omega))
  have pK:BytesAt W1 (some (aj g 0)) l:=fun j hj=>by
   refine⟨g,0,rfl,?_⟩;rw[F.cell,Aw]
   have:(cs.take l.length)[j]?=(aQ l)[j]?:=by rw[hc4]
   rw[List.getElem?_take,if_pos hj]at this;rw[this];simp[aQ,hj]
  have HC:=au (Db ok n fs g 0 c1 l W1 hD pK x3 hc2 hc3 G (hT.below jS h2) (by omega));have HW:=au (And.intro K (And.intro jS (And.intro (hA0.of_heap (hm.block _ (by omega))) (And.intro F (And.intro I G)))))
  have x5:Hid (l.length<=cs.length):=by unfold Hid;omega
  have HE:=au hE;clear hD hb K hg hA0 Zx hm jS pK wJ he F hcl hc2 hc3 hc4 Fp hT hE I G;generalize l.length=L at *;go_enter func24,ntmps24
  go_wp2_with (at_builtin;rw[<-h3];refine Lib.wpList_append_run _ rfl _ _ _ _ rfl _ _ rfl rfl _ _ (jQ _) ?_)
  clear h3;refine HC.out.mono ?_;rintro e w2 ⟨s,err,rfl,U,h7⟩;obtain⟨sa,sn,sc,hs⟩:=U.shape;subst hs;have x9:=U.XM;obtain⟨K,jS,hA1,F,I,G⟩:=HW.out;obtain⟨W3,h4⟩:∃W3,W3=w2.alloc (.cells #[uZ n,.slice sa sn sc] 56):=⟨_,rfl⟩
  have X:W3.heap.size=w2.heap.size+1:=by rw[h4];simp
  have h8:Below w2.heap.size w2 W3:=by rw[h4];exact(tL _ _).alloc (fB _) _
  have hw:aA W3 w2.heap.size 56 [uZ n,.slice sa sn sc]:=by rw[h4];exact aA.new w2 56 _
  have H:=h7.size
  have h9:∀k,k<W1.heap.size->W3.heap[k]?=W1.heap[k]?:=fun k hk=>by rw[h8.block k (by omega),h7.block k hk]
  have hr:Hid (aA W3 g 5 cs/\kV ok n fs (W1.heap.size+1) W3 (.slice sa sn sc) err/\Below w.heap.size w W3/\aA W3 w.heap.size 56 [uZ 0,nZ]/\aA W3 w2.heap.size 56 [uZ n,.slice sa sn sc]):=by
   refine⟨F.of_heap (h9 g G),U.of (fB _) (fun b _ hb=>h8.block b hb),(jS.trans (h7.mono (by omega))).trans (h8.mono (by omega)),hA1.of_heap (h9 _ (by omega)),hw⟩
  have vI:=au (And.intro X (And.intro H (And.intro K (And.intro I G))));clear U h7 K jS hA1 F I G X h8 hw H h9 HW HC jQ
  go_wp2_with fail
  rw[<-h4];clear h4
  go_loopw [20] (fun ho wr=>∃k:Nat,k<=L/\ho=(iZ k)/\Hid (∃V,V.length=cs.length/\aA wr g 5 V/\kV ok n fs (W1.heap.size+1) wr (.slice sa sn sc) err/\Below w.heap.size w wr/\aA wr w.heap.size 56 [uZ 0,nZ]/\aA wr w2.heap.size 56 [uZ n,.slice sa sn sc])) (fun ho _=>L-(intOf ho).toNat)
  case atStart=>exact⟨0,mR _,rfl,cs,rfl,hr.out⟩
  case round=>
   clear hr;obtain⟨k,hk,rfl,HI⟩:=hrel;obtain⟨V,hn,F,U,O,hA,hP⟩:=HI.out;obtain⟨X,H,K,I,G⟩:=vI.out;have x0:=x5.out
   by_cases xa:k<L
   ·have x8:(k:Int)<(L:Int):=by omega
    have t1:=F.cell k;rw[uj (by omega)]at t1;generalize V[k]'(by omega)=xe at t1;have z1:=F.frozen k
    have Z:∀b,b≠g->∀v,(wr.setCell (aj g k) v).heap[b]?=wr.heap[b]?:=fun b hb v=>fA _ _ _ _ hb
    have HN:Hid (∀v,∃V,V.length=cs.length/\aA (wr.setCell (aj g k) v) g 5 V/\kV ok n fs (W1.heap.size+1) (wr.setCell (aj g k) v) (.slice sa sn sc) err/\Below w.heap.size w (wr.setCell (aj g k) v)/\aA (wr.setCell (aj g k) v) w.heap.size 56 [uZ 0,nZ]/\aA (wr.setCell (aj g k) v) w2.heap.size 56 [uZ n,.slice sa sn sc]):=fun v=>
     ⟨_,by rw[Ur];exact hn,F.setCell k v,U.of (fB _) (fun b h0 _=>Z b (by omega) v),O.setCell (p:=(aj g k)) (by simp;omega) v,hA.of_heap (Z _ (by omega) v),hP.of_heap (Z _ (by omega) v)⟩
    clear hn F U O hA hP X H K I G Z HI x0
    go_wp2_with fail
    go_roundw
    case rel=>exact⟨k+1,by omega,by go_num,HN.out _⟩
    case measure=>simp[intOf];omega
   ·obtain rfl:k=L:=by omega
    have Zy:eF wr:=cell_of HE.out (O.block 0 (by omega))
    have WY:Calls prog 42 #[err] wr fun e w'=>e=.returned (.tuple #[iZ ev,(iZ (-1))])/\Below wr.heap.size wr w':=by
     rw[x4.out];unfold kV at U;cases ok
     ·rw[if_neg (by decide)]at U;rw[U.2.2];exact nK 7 eql7 wr Zy
     ·rw[if_pos rfl]at U;rw[U.1];exact tZ wr
    have Zz:=au WY;have HR:=au (And.intro F (And.intro U (And.intro O (And.intro hA hP))));clear WY Zy hn F U O hA hP X H K I G HI x0
    go_wp2_with fail
    refine Zz.out.mono ?_;rintro e w5 ⟨rfl,h5⟩;obtain⟨F,U,O,hA,hP⟩:=HR.out;obtain⟨X,H,K,I,G⟩:=vI.out;have hA5:=hA.of_heap (h5.block _ hA.lt);have hf:=hP.of_heap (h5.block _ hP.lt);have a0:w5.cell? (aj w.heap.size 0)=some (uZ 0):=hA5.cell 0;have a1:w5.cell? (aj w.heap.size 1)=some nZ:=hA5.cell 1;have p0:w5.cell? (aj w2.heap.size 0)=some (uZ n):=hf.cell 0;have p1:w5.cell? (aj w2.heap.size 1)=some (.slice sa sn sc):=hf.cell 1;have z0:=hA5.frozen 0;have z1:=hA5.frozen 1
    have xd:¬(w2.heap.size=w.heap.size):=by omega
    have HF:Hid (∀x y:Value,kV ok n fs w.heap.size ((w5.setCell (aj w.heap.size 0) x).setCell (aj w.heap.size 1) y) (.slice sa sn sc) err/\Below w.heap.size w ((w5.setCell (aj w.heap.size 0) x).setCell (aj w.heap.size 1) y)):=fun x y=>by
     refine⟨U.of (by omega) (fun b h0 hb=>?_),((O.trans (h5.mono O.size)).setCell (p:=(aj w.heap.size 0)) (fB _) _).setCell (p:=(aj w.heap.size 1)) (fB _) _⟩;rw[fA _ _ _ _ (by simp;omega),fA _ _ _ _ (by simp;omega),h5.block b hb]
    clear F U O hA hP X H K I G hA5 hf h5
    go_wp2_with fail
    obtain⟨f1,f2⟩:=HF.out (uZ n) (.slice sa sn sc);exact bodyPost_ret (v:=.tuple #[.agg #[uZ n,.slice sa sn sc],iZ ev,(iZ (-1))]) (by simp[results,results24,go_sem,a0,a1]) rfl ⟨_,err,rfl,f1,f2⟩
end Go.Proofs.YtphbledmopchnaaGreatDoor
namespace Go.Proofs.YtphbledmopchnaaGreatDoor
open Go.RowKit Go.Lib Mm Tryz
theorem val_inj:∀(l l':List UInt8) (a b:Nat),l.length=l'.length->Num.val a l=Num.val b l'->a=b/\l=l'
 |[],[],_,_,_,h=>⟨h,rfl⟩
 |[],_::_,_,_,hl,_=>by simp at hl
 |_::_,[],_,_,hl,_=>by simp at hl
 |x::t,y::u,a,b,hl,h=>by
  obtain⟨h1,F⟩:=val_inj t u (a*256+x.toNat) (b*256+y.toNat) (by simpa using hl) h;have G:=x.toNat_lt;have H:=y.toNat_lt
  have e:x.toNat=y.toNat:=by omega
  exact⟨by omega,by rw[UInt8.toNat_inj.1 e,F]⟩
theorem tF(l:List UInt8):(fq l).length=4:=by
 unfold fq;exact Num.fT _ _
theorem nG(n:Nat)(fs:List Fr):(aK n fs).length=(bV n fs).length+4:=by
 unfold aK;rw[nI,tF]
theorem IL(n:Nat)(fs:List Fr)(j:Nat)(y:UInt8)(I:j<(aK n fs).length)(F:(aK n fs)[j]≠y):lZ false 0 [] ((aK n fs).set j y):=by
 unfold lZ;rw[if_neg (by decide)];refine⟨rfl,?_⟩;unfold aK at I F ⊢;generalize bV n fs=B at I F ⊢;have H:=tF B
 by_cases h:j<B.length
 ·refine⟨B.set j y,fq B,by rw[List.set_append_left _ _ h],H,?_⟩;rw[nE];rw[List.getElem_append_left h]at F
  have O:B=B.take j++B[j]::B.drop (j+1):=by simp
  have U:B.set j y=B.take j++y::B.drop (j+1):=by rw[List.set_eq_take_append_cons_drop,if_pos h]
  have G:=Crc.GH (B.take j) (B.drop (j+1)) B[j] y F;rw[<-O,<-U]at G;exact G
 ·rw[nI,H]at I;refine⟨B,(fq B).set (j-B.length) y,by rw[List.set_append_right _ _ (by omega)],by rw[Ur];exact H,?_⟩;intro K;rw[<-nE B]at K;have hq:=(val_inj _ _ 0 0 (by simp) K).2;rw[List.getElem_append_right (by omega)]at F;have g:((fq B).set (j-B.length) y)[j-B.length]?=some y:=List.getElem?_set_self (by omega);rw[hq,uj (by omega)]at g;exact F (Option.some.inj g)
theorem ES(rs:aP):(dP rs).length<=24+16*rs.length:=by
 unfold dP iJ;rw[nI,nI,nI];have h1:=dQ (rs.getD 0 (0,0)).2;have F:=dQ (rs.length-1);have G:=dQ ((rs.getD 0 (0,0)).2-(rs.getD 0 (0,0)).1);have H:=DU rs (rs.length-1);omega
theorem Dc(f:Fr)(F:Nat×Nat):(aR f F).length<=24+f.data.size+16*f.ranges.length:=by
 have h1:=dQ f.stream.toNat;have H:=dQ (fieldAt f F.2);have I:=dQ f.data.size;have K:=ES f.ranges;have G:f.data.data.toList.length=f.data.size:=Array.length_toList;unfold aR;split
 ·simp only[KG];omega
 ·split
  ·simp only[KG];omega
  ·split
   ·omega
   ·split
    ·omega
    ·split
     ·rw[nI,G];omega
     ·omega
theorem yT(f:Fr)(F:aP):∀k,(bE (F.map (aR f)) k).length<=k*(24+f.data.size+16*f.ranges.length)
 |0=>by simp[bE]
 |k+1=>by
  have:=yT f F k;rw[bE,nI,Nat.succ_mul]
  have h:((F.map (aR f)).getD k []).length<=24+f.data.size+16*f.ranges.length:=by
   rw[tT,R3]
   cases F[k]? with
   |none=>simp
   |some t=>exact Dc f t
  omega
theorem UU(k:Int):(aX k).length<=4:=by
 unfold aX
 repeat' split
 all_goals simp
theorem IQ(f:Fr):(aG f).length<=96+64*(f.data.size+f.ranges.length):=by
 unfold aG;have h1:=yT f (aX f.kind) (aX f.kind).length;have F:=UU f.kind;have G:(aX f.kind).length*(24+f.data.size+16*f.ranges.length)<=4*(24+f.data.size+16*f.ranges.length):=Nat.mul_le_mul_right _ F;omega
def bX(c:Int)(n:Nat):Nat:=if c<0 then(-(c+1)).toNat % n else c.toNat % n
theorem Bo(c:Int)(m:Nat)(h:c<0): -(c+1).tmod (m:Int)=(bX c m:Nat):=by
 unfold bX;rw[if_pos h,<-Int.neg_tmod,Int.tmod_eq_emod_of_nonneg (by omega),SF,Lb (by omega)]
theorem Bp(c:Int)(m:Nat)(h:0<=c):c % (m:Int)=(bX c m:Nat):=by
 unfold bX;rw[if_neg (by omega),SF,Lb h]
theorem fI(c:Int)(m:Nat)(h:0<m):bX c m<m:=by
 unfold bX;split<;>exact Nat.mod_lt _ h
theorem iH(c:Int)(m:Nat)(K: -9223372036854775808<=c)(G:c<=9223372036854775807)(H:0<m)(I:m<=9000000000)(w:World):
  Calls prog 50 #[iZ c,iZ m] w fun e w'=>e=.returned (iZ (bX c m:Nat))/\w'=w:=by
 have hl:=au (fI c m H)
 by_cases h:c<0
 ·have F:=au (Bo c m h);go_enter func50,ntmps50;go_wp2;go_ret;exact⟨iX F.out,rfl⟩
 ·have F:=au (Bp c m (by omega));go_enter func50,ntmps50;go_wp2;go_ret;exact⟨iX F.out,rfl⟩
end Go.Proofs.YtphbledmopchnaaGreatDoor
namespace Go.Proofs.YtphbledmopchnaaGreatDoor
open Go.RowKit Go.Lib Go.Shelf Mm Tryz
theorem zJ{n:Nat}{fs:List Fr}(h:nY n fs=true):(∀i,i<fs.length->snd (fs.getD i dS)=true)/\n<=aZ/\0<fs.length:=by
 unfold nY at h;rw[Av,Av]at h;exact⟨(sF fs).1 h.1.1,of_decide_eq_true h.1.2,of_decide_eq_true h.2⟩
theorem BH(n:Nat)(fs:List Fr)(hs:∀i,i<fs.length->snd (fs.getD i dS)=true):∀k,k<=fs.length->cZ n (fs.map norm) k=cZ n fs k
 |0,_=>rfl
 |k+1,h=>by
  rw[cZ,cZ,BH n fs hs k (by omega),getD_map fs k (by omega),Iu _ (hs k (by omega))]
theorem RG(n:Nat)(fs:List Fr)(hs:nY n fs=true):nY n (fs.map norm)=true/\bV n (fs.map norm)=bV n fs/\aK n (fs.map norm)=aK n fs:=by
 obtain⟨h1,F,G⟩:=zJ hs
 have hb:bV n (fs.map norm)=bV n fs:=by
  unfold bV;rw[Kt];exact BH n fs h1 _ (fB _)
 refine⟨?_,hb,by unfold aK;rw[hb]⟩;unfold nY;rw[Av,Av];refine⟨⟨(sF _).2 (fun i hi=>?_),decide_eq_true F⟩,decide_eq_true (by rw[Kt];exact G)⟩;rw[Kt]at hi;rw[getD_map fs i hi];exact yG _ (h1 i hi)
