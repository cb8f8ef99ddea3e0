import Derived.Test.YtphbledmopchnaaGreatDoorKad
import Derived.Test.YtphbledmopchnaaGreatDoorKba
import Derived.Deep.CutRange
import Derived.Deep.RegionWith
import Derived.Defers
import Derived.Recover
open Go.RowKit.Below renaming heap_setCell->jK,heap_alloc->tL
open List renaming getD_eq_getElem?_getD->uj,drop_left'->Bu,append_assoc->DJ
open Nat renaming zero_le->mR,not_lt_zero->nI,le_refl->tT,zero_add->CK
set_option maxHeartbeats 4000000
set_option maxRecDepth 100000
namespace Go.Proofs.YtphbledmopchnaaGreatDoor
open Go.RowKit Go.Lib Go.Shelf Mm Tryz
theorem Own.mono{A B:Nat}{v:Value}(h:Own B v)(F:A<=B):Own A v:=fun k G=>Nat.le_trans F (h k G)
theorem Gp(f:Fr)(a:Option Addr)(n c:Nat):∀v∈dU f (.slice a n c),v.oneCell'=true:=by
 intro v F;simp[dU]at F
 rcases F with h|h|h|h|h|h|h|h|h|h<;>subst h<;>rfl
def Sg(w:World)(fa:Option Addr)(fs:List Fr)(ra:Nat->Option Addr)(rc:Nat->Nat):Prop:=
 ∀j,j<fs.length->∃b off,fa=some ⟨b,off,none⟩/\jN w b (off+j*10) (fs.getD j dW) (ra j) (rc j)
theorem iZ.weak{w:World}{fa:Option Addr}{fs:List Fr}{ra:Nat->Option Addr}{rc:Nat->Nat}(h:iZ w fa fs ra rc):Sg w fa fs ra rc:=fun j G=>by
 obtain⟨b,off,F,h1,_⟩:=h j G;exact⟨b,off,F,h1⟩
def Br(k:Int):Fr:=⟨k,0,0,0,0,false,0,0,⟨#[]⟩,[]⟩
def norm(f:Fr):Fr:=xk f (aQ f.kind) (aQ f.kind).length (Br f.kind)
theorem jU{f:Fr}(h:snd f=true):f.kind=1\/f.kind=2\/f.kind=3\/f.kind=4\/f.kind=5\/f.kind=6\/f.kind=7\/f.kind=8:=by
 obtain⟨_,h1,F,_⟩:=lV f h;omega
theorem norm_eq(f:Fr)(h:snd f=true):norm f=
  (if f.kind=1 then Br 1 else if f.kind=2 then{Br 2 with ranges:=f.ranges}else if f.kind=3 then{Br 3 with stream:=f.stream,offset:=f.offset,reliable:=f.reliable}else if f.kind=4 then{Br 4 with fin:=f.fin,stream:=f.stream,offset:=f.offset,data:=f.data}
  else if f.kind=5 then{Br 5 with limit:=f.limit}else if f.kind=6 then{Br 6 with stream:=f.stream,limit:=f.limit}else if f.kind=7 then{Br 7 with id:=f.id,deadline:=f.deadline,data:=f.data}else{Br 8 with limit:=f.limit}):=by
 unfold norm
 rcases jU h with e|e|e|e|e|e|e|e<;>rw[e]<;>rfl
theorem zU(f:Fr)(h:snd f=true):(norm f).kind=f.kind:=by
 rw[norm_eq f h]
 rcases jU h with e|e|e|e|e|e|e|e<;>rw[e]<;>rfl
theorem xu(f:Fr)(h:snd f=true):snd (norm f)=true:=by
 obtain⟨⟨s0,s8,n0,n1,n2,n3,n4⟩,_,_,F⟩:=lV f h;rw[norm_eq f h];unfold jf at F
 rcases jU h with e|e|e|e|e|e|e|e
 ·rw[e];rfl
 ·rw[e]at F ⊢;simp only[show((2:Int)=1)=False by decide,if_true,if_false]at F ⊢;unfold snd kG jf;simp[Br,F]
 ·rw[e]at F ⊢;simp only[show((3:Int)=1)=False by decide,show((3:Int)=2)=False by decide,if_true,if_false]at F ⊢;unfold snd kG jf;simp[Br,s0,s8,n0,n1];exact of_decide_eq_true F
 ·rw[e]at F ⊢;simp only[show((4:Int)=1)=False by decide,show((4:Int)=2)=False by decide,show((4:Int)=3)=False by decide,if_true,if_false]at F ⊢;unfold snd kG jf;simp[Br,s0,s8,n0];exact of_decide_eq_true F
 ·rw[e];simp only[show((5:Int)=1)=False by decide,show((5:Int)=2)=False by decide,show((5:Int)=3)=False by decide,show((5:Int)=4)=False by decide,if_true,if_false];unfold snd kG jf;simp[Br,n2]
 ·rw[e];simp only[show((6:Int)=1)=False by decide,show((6:Int)=2)=False by decide,show((6:Int)=3)=False by decide,show((6:Int)=4)=False by decide,show((6:Int)=5)=False by decide,if_true,if_false];unfold snd kG jf;simp[Br,n2,s0,s8]
 ·rw[e];simp only[show((7:Int)=1)=False by decide,show((7:Int)=2)=False by decide,show((7:Int)=3)=False by decide,show((7:Int)=4)=False by decide,show((7:Int)=5)=False by decide,show((7:Int)=6)=False by decide,if_true,if_false];unfold snd kG jf;simp[Br,n3,n4]
 ·rw[e];simp only[show((8:Int)=1)=False by decide,show((8:Int)=2)=False by decide,show((8:Int)=3)=False by decide,show((8:Int)=4)=False by decide,show((8:Int)=5)=False by decide,show((8:Int)=6)=False by decide,show((8:Int)=7)=False by decide,if_false];unfold snd kG jf;simp[Br,n2]
theorem Gv(f:Fr)(h:snd f=true):aB (norm f)=aB f:=by
 unfold aB;rw[zU f h,norm_eq f h]
 rcases jU h with e|e|e|e|e|e|e|e<;>rw[e]<;>rfl
theorem Je(f:Fr)(h:snd f=true)(ok:iT f):iT (norm f):=by
 obtain⟨H,G,k0,s0,⟨u1,u2,u3,u4,u5⟩,r0⟩:=ok;rw[norm_eq f h]
 have z:(0:Nat)<18446744073709551616:=by decide
 rcases jU h with e|e|e|e|e|e|e|e<;>rw[e]
 ·show iT ⟨1,0,0,0,0,false,0,0,⟨#[]⟩,[]⟩;exact⟨mR _,mR _,⟨(by decide:(-9223372036854775808:Int)<=1),(by decide:(1:Int)<=9223372036854775807)⟩,⟨(by decide:(-9223372036854775808:Int)<=0),(by decide:(0:Int)<=9223372036854775807)⟩,⟨z,z,z,z,z⟩,fun j F=>absurd F (nI _)⟩
 ·show iT ⟨2,0,0,0,0,false,0,0,⟨#[]⟩,f.ranges⟩;exact⟨H,mR _,⟨(by decide:(-9223372036854775808:Int)<=2),(by decide:(2:Int)<=9223372036854775807)⟩,⟨(by decide:(-9223372036854775808:Int)<=0),(by decide:(0:Int)<=9223372036854775807)⟩,⟨z,z,z,z,z⟩,r0⟩
 ·show iT ⟨3,f.stream,f.offset,f.reliable,0,false,0,0,⟨#[]⟩,[]⟩;exact⟨mR _,mR _,⟨(by decide:(-9223372036854775808:Int)<=3),(by decide:(3:Int)<=9223372036854775807)⟩,s0,⟨u1,u2,z,z,z⟩,fun j F=>absurd F (nI _)⟩
 ·show iT ⟨4,f.stream,f.offset,0,0,f.fin,0,0,f.data,[]⟩;exact⟨mR _,G,⟨(by decide:(-9223372036854775808:Int)<=4),(by decide:(4:Int)<=9223372036854775807)⟩,s0,⟨u1,z,z,z,z⟩,fun j F=>absurd F (nI _)⟩
 ·show iT ⟨5,0,0,0,f.limit,false,0,0,⟨#[]⟩,[]⟩;exact⟨mR _,mR _,⟨(by decide:(-9223372036854775808:Int)<=5),(by decide:(5:Int)<=9223372036854775807)⟩,⟨(by decide:(-9223372036854775808:Int)<=0),(by decide:(0:Int)<=9223372036854775807)⟩,⟨z,z,u3,z,z⟩,fun j F=>absurd F (nI _)⟩
 ·show iT ⟨6,f.stream,0,0,f.limit,false,0,0,⟨#[]⟩,[]⟩;exact⟨mR _,mR _,⟨(by decide:(-9223372036854775808:Int)<=6),(by decide:(6:Int)<=9223372036854775807)⟩,s0,⟨z,z,u3,z,z⟩,fun j F=>absurd F (nI _)⟩
 ·show iT ⟨7,0,0,0,0,false,f.id,f.deadline,f.data,[]⟩;exact⟨mR _,G,⟨(by decide:(-9223372036854775808:Int)<=7),(by decide:(7:Int)<=9223372036854775807)⟩,⟨(by decide:(-9223372036854775808:Int)<=0),(by decide:(0:Int)<=9223372036854775807)⟩,⟨z,z,z,u4,u5⟩,fun j F=>absurd F (nI _)⟩
 ·show iT ⟨8,0,0,0,f.limit,false,0,0,⟨#[]⟩,[]⟩;exact⟨mR _,mR _,⟨(by decide:(-9223372036854775808:Int)<=8),(by decide:(8:Int)<=9223372036854775807)⟩,⟨(by decide:(-9223372036854775808:Int)<=0),(by decide:(0:Int)<=9223372036854775807)⟩,⟨z,z,u3,z,z⟩,fun j F=>absurd F (nI _)⟩
theorem Oc(w:World):Calls prog 215 #[.int .u8 1] w fun e w'=>e=.returned (.int .i64 1)/\w'=w:=by
 go_enter func215,ntmps215;go_wp2;go_ret;exact⟨rfl,rfl⟩
theorem Od(w:World):Calls prog 215 #[.int .u8 2] w fun e w'=>e=.returned (.int .i64 2)/\w'=w:=by
 go_enter func215,ntmps215;go_wp2;go_ret;exact⟨rfl,rfl⟩
theorem KI(w:World):Calls prog 215 #[.int .u8 36] w fun e w'=>e=.returned (.int .i64 3)/\w'=w:=by
 go_enter func215,ntmps215;go_wp2;go_ret;exact⟨rfl,rfl⟩
theorem Oe(w:World):Calls prog 215 #[.int .u8 8] w fun e w'=>e=.returned (.int .i64 4)/\w'=w:=by
 go_enter func215,ntmps215;go_wp2;go_ret;exact⟨rfl,rfl⟩
theorem Og(w:World):Calls prog 215 #[.int .u8 9] w fun e w'=>e=.returned (.int .i64 4)/\w'=w:=by
 go_enter func215,ntmps215;go_wp2;go_ret;exact⟨rfl,rfl⟩
theorem KJ(w:World):Calls prog 215 #[.int .u8 16] w fun e w'=>e=.returned (.int .i64 5)/\w'=w:=by
 go_enter func215,ntmps215;go_wp2;go_ret;exact⟨rfl,rfl⟩
theorem KL(w:World):Calls prog 215 #[.int .u8 17] w fun e w'=>e=.returned (.int .i64 6)/\w'=w:=by
 go_enter func215,ntmps215;go_wp2;go_ret;exact⟨rfl,rfl⟩
theorem KM(w:World):Calls prog 215 #[.int .u8 48] w fun e w'=>e=.returned (.int .i64 7)/\w'=w:=by
 go_enter func215,ntmps215;go_wp2;go_ret;exact⟨rfl,rfl⟩
theorem KN(w:World):Calls prog 215 #[.int .u8 28] w fun e w'=>e=.returned (.int .i64 8)/\w'=w:=by
 go_enter func215,ntmps215;go_wp2;go_ret;exact⟨rfl,rfl⟩
theorem xw(f:Fr)(h:snd f=true):∃x t,aB f=x::t/\∀w,Calls prog 215 #[.int .u8 ((x.toNat:Nat):Int)] w fun e w'=>e=.returned (.int .i64 f.kind)/\w'=w:=by
 have hd:∀(l:List (List UInt8)) n,aX l (n+1)=l.getD 0 []++cK l (n+1) 1:=fun l n=>by
  have:=nS l (n+1) 0 (by omega);rw[jT]at this;exact this
 unfold aB
 rcases jU h with e|e|e|e|e|e|e|e<;>rw[e]
 ·exact⟨1,[],rfl,Oc⟩
 ·exact⟨2,_,hd _ 1,Od⟩
 ·exact⟨36,_,hd _ 3,KI⟩
 ·cases G:f.fin
  ·refine⟨8,cK ((aQ 4).map (aO f)) 4 1,?_,Oe⟩;have:=hd ((aQ 4).map (aO f)) 3
   have F:((aQ 4).map (aO f)).getD 0 []=[8]:=by
    show aO f (1,0)=[8];unfold aO;rw[G];rfl
   rw[F]at this;exact this
  ·refine⟨9,cK ((aQ 4).map (aO f)) 4 1,?_,Og⟩;have:=hd ((aQ 4).map (aO f)) 3
   have F:((aQ 4).map (aO f)).getD 0 []=[9]:=by
    show aO f (1,0)=[9];unfold aO;rw[G];rfl
   rw[F]at this;exact this
 ·exact⟨16,_,hd _ 1,KJ⟩
 ·exact⟨17,_,hd _ 2,KL⟩
 ·exact⟨48,_,hd _ 3,KM⟩
 ·exact⟨28,_,hd _ 1,KN⟩
theorem Ws(w:World)(a:Addr)(v:Value):(w.setCell a v).os=w.os:=rfl
theorem Oh(w:World)(a:Addr)(v:Value):(w.setCell a v).tape=w.tape:=rfl
theorem Gw(w:World)(a:Addr)(v:Value):(w.setCell a v).output=w.output:=rfl
theorem Oi(w:World)(a:Addr)(v:Value):(w.setCell a v).heap.size=w.heap.size:=by simp
theorem Ba{w:World}{fb:Nat}{f:Fr}{ra:Option Addr}{rc:Nat}(hF:ak w fb 65 (dU f (.slice ra f.ranges.length rc)))(H:bn 170 2 w (.slice ra f.ranges.length rc) f.ranges.length (aC f.ranges))(ok:iT f):jN w fb 0 f ra rc:=
 ⟨hF.cell 0,hF.cell 1,hF.cell 2,hF.cell 3,hF.cell 4,hF.cell 5,hF.cell 6,hF.cell 7,hF.cell 8,hF.cell 9,fun i hi=>by
  obtain⟨V,X⟩:=pR _ i hi;obtain⟨I,F,O,_⟩:=H.cell rfl _ _ V;obtain⟨b2,G,U,_⟩:=H.cell rfl _ _ X;rw[F]at G;cases G
  exact⟨I,0,F,by rw[CK];exact O,by rw[CK];exact U,ok.r0 i hi⟩,ok.rlen,ok.vX,ok.k0,ok.s0,ok.u0⟩
theorem KO(f:Fr)(hs:snd f=true)(ok:iT f)(rb yb yo cap:Nat)(body:List UInt8)(p bg:Nat)(rest:List UInt8)(w:World)(h:dG w rb yb yo cap body p bg)(hb:body.drop p=aB f++rest)(x4:rb<w.heap.size)(x5:yb<w.heap.size):
  Calls prog 164 #[.pointer (some ⟨rb,0,none⟩)] w fun e w'=>∃v9,e=.returned (.agg (dU (norm f) v9).toArray)/\bn 170 2 w' v9 (norm f).ranges.length (aC (norm f).ranges)/\Own (w.heap.size+1) v9/\dG w' rb yb yo cap body (p+(aB f).length) p/\oC w.heap.size rb rb w w':=by
 obtain⟨F,hF⟩:∃F,norm f=F:=⟨_,rfl⟩;have h6:Hid (norm f=F/\snd F=true/\iT F):=⟨hF,by rw[<-hF];exact xu f hs,by rw[<-hF];exact Je f hs ok⟩;rw[hF];clear hF;obtain⟨x,t,hx,hK⟩:=xw f hs
 have hj:body.drop p=[x]++(t++rest):=by rw[hb,hx];rfl
 obtain⟨hp,h8⟩:=drop_byte hj;have hm:=h.byte p hp;rw[h8]at hm;have x0:w.cell? ⟨rb,0,none⟩=some (.slice (some ⟨yb,yo,none⟩) body.length cap):=h.blk.cell 0;have x1:w.cell? ⟨rb,1,none⟩=some (.int .i64 p):=h.blk.cell 1;have x2:w.cell? ⟨rb,2,none⟩=some (.int .i64 bg):=h.blk.cell 2;have z2:=h.blk.frozen 2;have x9:=h.ne
 have xa:(p:Int)<(body.length:Int):=by omega
 have HK:=hid hK;have HH:=hid h;have HB:=hid hb;have uE:=hid h8;clear hK h hb hj hx h8;go_enter func164,ntmps164
 go_upto_region 2 with fail
 generalize hW:(w.setCell ⟨rb,2,none⟩ (.int .i64 p)).alloc (.cells #[.int .i64 0,.int .i64 0,.int .u64 0,.int .u64 0,.int .u64 0,.bool false,.int .u64 0,.int .u64 0,.string ⟨#[]⟩,.slice none 0 0] 65)=W
 have h0:W.heap.size=w.heap.size+1:=by rw[<-hW];simp
 have KP:dG W rb yb yo cap body p p:=by
  have h:=HH.out;rw[<-hW];have h2:dG (w.setCell ⟨rb,2,none⟩ (.int .i64 p)) rb yb yo cap body p p:=⟨h.blk.setCell 2 _,h.bts.of (fun x hx=>by simp at hx;subst hx;exact jK _ _ _ _ (Ne.symm h.ne)),h.le,h.room,h.cap,h.ne⟩;exact h2.of (tL _ _ _ (by simpa using x4)) (tL _ _ _ (by simpa using x5))
 have Gx:ak W w.heap.size 65 [.int .i64 0,.int .i64 0,.int .u64 0,.int .u64 0,.int .u64 0,.bool false,.int .u64 0,.int .u64 0,.string ⟨#[]⟩,.slice none 0 0]:=by
  rw[<-hW];have:=ak.new (w.setCell ⟨rb,2,none⟩ (.int .i64 p)) 65 [.int .i64 0,.int .i64 0,.int .u64 0,.int .u64 0,.int .u64 0,.bool false,.int .u64 0,.int .u64 0,.string ⟨#[]⟩,.slice none 0 0];simpa using this
 have O:oC w.heap.size rb rb w W:=by
  rw[<-hW];exact⟨rfl,rfl,rfl,by simp,fun k X h1 _=>by rw[tL _ _ _ (by simpa using X),jK _ _ _ _ h1]⟩
 have k0:W.cell? ⟨rb,0,none⟩=some (.slice (some ⟨yb,yo,none⟩) body.length cap):=KP.blk.cell 0;have k1:W.cell? ⟨rb,1,none⟩=some (.int .i64 p):=KP.blk.cell 1;have kb:=KP.byte p hp;rw[uE.out]at kb
 have l1:rb<W.heap.size:=by omega
 have l2:yb<W.heap.size:=by omega
 have HW:=hid (And.intro h0 (And.intro KP (And.intro Gx O)));clear hW h0 KP Gx O x0 x1 x2 z2 hm HH
 go_cut [3]from 11 to 22 (fun s3 wx=>s3=.pointer (some ⟨W.heap.size,0,none⟩)/\wx.heap=(W.alloc (.cells #[.int .i64 f.kind,.int .i64 0,.int .u64 0,.int .u64 0,.int .u64 0,.bool false,.int .u64 0,.int .u64 0,.string ⟨#[]⟩,.slice none 0 0] 65)).heap/\wx.os=W.os/\wx.tape=W.tape/\wx.output=W.output)
 case first=>
  go_region_with (go_at_call 215;refine(HK.out _).mono ?_;rintro e w4 ⟨rfl,hc⟩;subst hc)
  all_goals((try go_wp2_with fail);go_meet;exact⟨rfl,rfl,rfl,rfl,rfl⟩)
 case rest=>
  obtain⟨rfl,hh,ho,ht,V⟩:=hcut;obtain⟨h0,KP,Gx,O⟩:=HW.out
  have h4:wc.heap.size=W.heap.size+1:=by rw[hh];simp
  have hold:∀b,b<W.heap.size->wc.heap[b]?=W.heap[b]?:=fun b hb=>by rw[hh];exact tL _ _ _ hb
  have hF:ak wc W.heap.size 65 (dU (Br f.kind) (.slice none 0 0)):=(ak.new W 65 (dU (Br f.kind) (.slice none 0 0))).of_heap (by rw[hh];rfl);have y0:wc.cell? ⟨W.heap.size,0,none⟩=some (.int .i64 f.kind):=hF.cell 0;obtain⟨_,h9,sK,_⟩:=lV f hs;have h7:=hid (vW f.kind wc);rw[decide_eq_true (p:=1<=f.kind/\f.kind<=8) ⟨h9,sK⟩]at h7;have FW:=hid (lZ f.kind h9 sK wc)
  have XM:∀(wl:World) (fw fr:Value),Da (wc.heap.size+1) wl f.kind fw fr->Below wc.heap.size wc wl->
    ∃g cb,fr=.func (.func g) #[] cb/\(∀args w,(callFunc g args).run prog w=.ok (.enter g args) w)/\
     Calls prog g (#[.pointer (some ⟨rb,0,none⟩),.pointer (some ⟨W.heap.size,0,none⟩)]++cb) wl fun e y=>e=.returned (.tuple #[])/\∃v9,RP (wc.heap.size+1) wl.heap.size rb W.heap.size yb yo cap body y (p+(aB f).length) p (F) v9/\oC wl.heap.size rb W.heap.size wl y:=by
   intro wl fw fr hL G;obtain⟨g,cb,h1,h2,h3⟩:=Sv f hL hs ok.vX ok.rlen rb W.heap.size yb yo cap body p
   have hsz:wc.heap.size+1<=wl.heap.size:=by
    rcases hL with⟨_,Z⟩|⟨_,pb,qb,_,_,hB,_⟩
    ·rcases Z with⟨_,xb,hx,_⟩|⟨h,_⟩|⟨h,_⟩|⟨h,_⟩|⟨h,_⟩|⟨h,_⟩
     ·have:=World.block_lt_of_cell? _ _ hx.2;have:=hx.1;simp at *;omega
     all_goals simp at h
    ·have:=World.block_lt_of_cell? _ _ hB.2;have:=hB.1;simp at *;omega
   refine⟨g,cb,h1,h2,?_⟩;refine(h3 wl p (Br f.kind) (.slice none 0 0) rest ⟨tT _,fun _ _ _=>rfl⟩ ⟨?_,hF.of_heap (G.block _ (by omega)),bn.nil _ _ _,Own.nil _,hsz,tT _,by omega,by omega,by omega,by omega,by omega⟩ rfl HB.out).mono ?_
   ·exact KP.of (by rw[G.block _ (by omega),hold _ l1]) (by rw[G.block _ (by omega),hold _ l2])
   ·rintro e y ⟨he,v9,Z,hS⟩;have hg:RP (wc.heap.size+1) wl.heap.size rb W.heap.size yb yo cap body y (p+(aB f).length) p (norm f) v9:=Z;rw[h6.out.1]at hg;exact⟨he,v9,hg,hS⟩
  have Sr:=hid XM;have hr:=hid (And.intro h4 (And.intro hold (And.intro ho (And.intro ht V))));clear XM hh ho ht V h0 KP Gx O h4 hold hF h9 sK k0 k1 kb
  go_wp2_with fail
  refine h7.out.mono ?_;rintro e w4 ⟨rfl,hc⟩;subst hc
  go_wp2_with fail
  refine FW.out.mono ?_;rintro e wl ⟨fw,fr,rfl,hL,G⟩;obtain⟨g1,hu,_,_,hy,_⟩:=hL.shape;subst hy;obtain⟨g,cb,hw,eg,hC⟩:=Sr.out wl _ fr hL G;subst hw;have HC:=hid hC;have hn:=hid G;have x8:=YR g1 g hu cb;clear hC hL G Sr FW h7 y0
  go_wp2_with fail
  refine HC.out.mono ?_;rintro e y ⟨rfl,v9,Z,hS⟩;obtain⟨ra,rc,hv,_⟩:=Z.rng.shape;subst hv;have hf:jN y W.heap.size 0 (F) ra rc:=Ba Z.nG Z.rng h6.out.2.2;have RX:=hid (nE W.heap.size 0 (F) ra rc y hf);rw[h6.out.2.1]at RX;have HP:=hid Z;have HS:=hid hS;clear Z hS hf HC
  go_wp2_with fail
  refine RX.out.mono ?_;rintro e y2 ⟨rfl,U⟩;obtain⟨h4,hold,ho,ht,V⟩:=hr.out;obtain⟨h0,KP,Gx,O⟩:=HW.out;have G:=hn.out;have x3:=G.size;have x6:=HS.out.size;have I:=HP.out.nG.of_heap (U.block _ (by omega))
  have ha:∀k,k<W.heap.size->k≠rb->y2.heap[k]?=W.heap[k]?:=fun k X h1=>by
   rw[U.block k (by omega),HS.out.block k (by omega) h1 (by omega),G.block k (by omega),hold k X]
  have mM:=Gx.of_heap (ha w.heap.size (by omega) (by omega));have n0:=I.cell 0;have n1:=I.cell 1;have n2:=I.cell 2;have n3:=I.cell 3;have n4:=I.cell 4;have n5:=I.cell 5;have n6:=I.cell 6;have n7:=I.cell 7;have n8:=I.cell 8;have n9:=I.cell 9;have H:=hid (show∀i:Nat,y2.frozen? ⟨w.heap.size,i,none⟩=false from fun i=>mM.frozen i);have r0:=mM.cell 0;have r1:=mM.cell 1;have r2:=mM.cell 2;have r3:=mM.cell 3;have r4:=mM.cell 4;have r5:=mM.cell 5;have r6:=mM.cell 6;have r7:=mM.cell 7;have r8:=mM.cell 8;have r9:=mM.cell 9;have z0:=H.out 0;have z1:=H.out 1;have z2:=H.out 2;have z3:=H.out 3;have z4:=H.out 4;have z5:=H.out 5;have z6:=H.out 6;have z7:=H.out 7;have z8:=H.out 8;have z9:=H.out 9;simp only[dU,List.getElem?_cons_zero,List.getElem?_cons_succ]at n0 n1 n2 n3 n4 n5 n6 n7 n8 n9 r0 r1 r2 r3 r4 r5 r6 r7 r8 r9
  have x7:¬(W.heap.size=w.heap.size):=by omega
  have h5:∀y3:World,y3.os=y2.os->y3.tape=y2.tape->y3.output=y2.output->y3.heap.size=y2.heap.size->(∀k,k≠w.heap.size->y3.heap[k]?=y2.heap[k]?)->
    bn 170 2 y3 (.slice ra (F).ranges.length rc) (F).ranges.length (aC (F).ranges)/\Own (w.heap.size+1) (.slice ra (F).ranges.length rc)/\dG y3 rb yb yo cap body (p+(aB f).length) p/\oC w.heap.size rb rb w y3:=fun y3 e1 e2 e3 e4 e5=>by
   have Z:=HP.out;refine⟨Z.rng.of_heap (fun b hb=>?_),Z.own.mono (by omega),Z.rd.of ?_ ?_,?_⟩
   ·have:=Z.own b hb;rw[e5 b (by omega),U.block b (Z.rng.lt b hb)]
   ·rw[e5 rb (by omega),U.block rb (by omega)]
   ·rw[e5 yb (by omega),U.block yb (by omega)]
   ·refine⟨?_,?_,?_,by rw[e4];have:=U.size;omega,fun k X h1 _=>?_⟩
    ·rw[e1,U.os,HS.out.os,G.os,ho,O.os]
    ·rw[e2,U.tape,HS.out.tape,G.tape,ht,O.tape]
    ·rw[e3,U.output,HS.out.output,G.output,V,O.output]
    ·rw[e5 k (by omega),ha k (by omega) h1,O.block k X h1 h1]
  have iG:=hid h5;clear h5 h4 hold ho ht V h0 KP Gx O G x3 x6 I ha mM U H HP HS
  go_wp2_with fail
  exact bodyPost_ret (v:=.agg #[.int .i64 (F).kind,.int .i64 (F).stream,.int .u64 ((F).offset:Int),.int .u64 ((F).reliable:Int),.int .u64 ((F).limit:Int),.bool (F).fin,.int .u64 ((F).id:Int),.int .u64 ((F).deadline:Int),.string (F).data,.slice ra (F).ranges.length rc]) (by simp[results,results164,go_sem,r0,r1,r2,r3,r4,r5,r6,r7,r8,r9]) rfl ⟨.slice ra (F).ranges.length rc,rfl,iG.out _ (by simp only[Ws]) (by simp only[Oh]) (by simp only[Gw]) (by simp only[Oi]) (fun k X=>by rw[jK _ _ _ _ X,jK _ _ _ _ X,jK _ _ _ _ X,jK _ _ _ _ X,jK _ _ _ _ X,jK _ _ _ _ X,jK _ _ _ _ X,jK _ _ _ _ X,jK _ _ _ _ X,jK _ _ _ _ X])⟩
structure PK (w:World) (yb yo cap:Nat) (body:List UInt8) (n:Nat) (fs:List Fr) (wr:World) (v9:Nat->Value) (k:Nat) (s:Value) (p bg:Nat):Prop where
 box:ak wr w.heap.size 56 [.int .u64 n,s]
 err:ak wr (w.heap.size+1) 94 [.nilIface]
 rd:dG wr (w.heap.size+2) yb yo cap body p bg
 cp:qU (w.heap.size+3) wr s fs v9 k
 hsz:w.heap.size+3<=wr.heap.size
 bel:Below w.heap.size w wr
 yl:yb<w.heap.size
theorem PK.frame{w:World}{yb yo cap:Nat}{body:List UInt8}{n:Nat}{fs:List Fr}{wr y:World}{v9:Nat->Value}{k:Nat}{s:Value}{p bg O H:Nat}(h:PK w yb yo cap body n fs wr v9 k s p bg)(G:oC wr.heap.size (w.heap.size+2) (w.heap.size+2) wr y)(X:dG y (w.heap.size+2) yb yo cap body O H):PK w yb yo cap body n fs y v9 k s O H:=by
 have hsz:=h.hsz
 have F:∀b,b<wr.heap.size->b≠w.heap.size+2->y.heap[b]?=wr.heap[b]?:=fun b h1 I=>G.block b h1 I I
 refine⟨h.box.of_heap (F _ (by omega) (by omega)),h.err.of_heap (F _ (by omega) (by omega)),X,⟨h.cp.buf.of_heap (fun b hb=>F b (h.cp.buf.lt b hb) (by have:=h.cp.own b hb;omega)),h.cp.own,fun j Z=>?_⟩,by have:=G.size;omega,?_,h.yl⟩
 ·obtain⟨U,V,r3⟩:=h.cp.rng j Z;exact⟨U.of_heap (fun b hb=>F b (U.lt b hb) (by have:=V b hb;omega)),V,r3⟩
 ·exact h.bel.trans ⟨G.os,G.tape,G.output,G.size,fun b hb=>F b (by omega) (by omega)⟩
theorem PK.app{w:World}{yb yo cap:Nat}{body:List UInt8}{n:Nat}{fs:List Fr}{y:World}{v9:Nat->Value}{k:Nat}{s:Value}{p bg:Nat}(h:PK w yb yo cap body n fs y v9 k s p bg)(hk:k<fs.length)(hl:fs.length<=1000000000)(F:Fr)(hF:fs.getD k dW=F)(ra:Option Addr)(rc:Nat)(hG:bn 170 2 y (.slice ra F.ranges.length rc) F.ranges.length (aC F.ranges))(hO:Own (w.heap.size+3) (.slice ra F.ranges.length rc))(h0:∀b,(Value.slice ra F.ranges.length rc).ownBlock=some b->s.ownBlock≠some b):
  ∃a' c' I,(∀ty,(Builtin.append_ #[54,54] ty #[s,.slice (some ⟨y.heap.size,0,none⟩) 1 1]).run prog (y.alloc (.cells #[.int .i64 F.kind,.int .i64 F.stream,.int .u64 F.offset,.int .u64 F.reliable,.int .u64 F.limit,.bool F.fin,.int .u64 F.id,.int .u64 F.deadline,.string F.data,.slice ra F.ranges.length rc] 65))=.ok (.slice a' (k+1) c') I)/\
   ak I w.heap.size 56 [.int .u64 n,s]/\PK w yb yo cap body n fs (I.setCell ⟨w.heap.size,1,none⟩ (.slice a' (k+1) c')) (fun j=>if j=k then .slice ra F.ranges.length rc else v9 j) (k+1) (.slice a' (k+1) c') p bg:=by
 have hsz:=h.hsz;have h6:=h.yl;obtain⟨O,yN⟩:∃O,O=y.alloc (.cells #[.int .i64 F.kind,.int .i64 F.stream,.int .u64 F.offset,.int .u64 F.reliable,.int .u64 F.limit,.bool F.fin,.int .u64 F.id,.int .u64 F.deadline,.string F.data,.slice ra F.ranges.length rc] 65):=⟨_,rfl⟩
 have h7:O.heap.size=y.heap.size+1:=by rw[yN];simp
 have H:Below y.heap.size y O:=by rw[yN];exact(Below.refl _ _).alloc (tT _) _
 have h3:ak O y.heap.size 65 (dU F (.slice ra F.ranges.length rc)):=by rw[yN];exact ak.new y 65 _
 rw[<-yN];have XO:bn 65 10 O s k (kC fs v9 k):=h.cp.buf.of_heap (fun b hb=>H.block b (h.cp.buf.lt b hb));obtain⟨h9,I,h2,Cv,Z⟩:=dY A9 XO ⟨y.heap.size,0,none⟩ 1 1 (dU F (.slice ra F.ranges.length rc)) (by simp[dU]) (by omega) (Gp F _ _ _) (fun j u hu=>by rw[Addr.add_lit,CK,h3.cell];exact hu) (by omega);obtain⟨a',c',hv,_⟩:=Cv.shape;subst hv;have X:Below (w.heap.size+3) O I:=Z.below h.cp.own (by omega);have Ra:=Z.own h.cp.own (by omega)
 have V:∀b,b<w.heap.size+3->I.heap[b]?=y.heap[b]?:=fun b hb=>by rw[X.block b hb,H.block b (by omega)]
 have Vj:=h.box.of_heap (V w.heap.size (by omega))
 have G:∀b,b≠w.heap.size->(I.setCell ⟨w.heap.size,1,none⟩ (.slice a' (k+1) c')).heap[b]?=I.heap[b]?:=fun b hb=>jK _ _ _ _ hb
 have h8:=X.size;refine⟨a',c',I,h2,Vj,⟨Vj.setCell 1 _,h.err.of_heap (by rw[G _ (by omega),V _ (by omega)]),h.rd.of (by rw[G _ (by omega),V _ (by omega)]) (by rw[G _ (by omega),V _ (by omega)]),⟨?_,Ra,fun j hj=>?_⟩,by simp;omega,?_,h6⟩⟩
 ·have e:kC fs (fun j=>if j=k then .slice ra F.ranges.length rc else v9 j) (k+1)=kC fs v9 k++dU F (.slice ra F.ranges.length rc):=by
   rw[kC,hF,uM fs _ v9 k (fun j hj=>by rw[if_neg (by omega)]),if_pos rfl]
  rw[e];exact Cv.of_heap (fun b hb=>G b (by have:=Ra b hb;omega))
 ·by_cases e:j=k
  ·subst e;simp only[if_true];rw[hF];refine⟨hG.of_heap (fun b hb=>?_),hO,fun b hb U=>?_⟩
   ·have:=hO b hb;have:=hG.lt b hb;rw[G b (by omega),Z.1.block b (by omega) (fun e=>h0 b hb e.symm),H.block b this]
   ·have:=hG.lt b hb
    rcases Z.2 b U with U|U
    ·exact h0 b hb U
    ·omega
  ·simp only[if_neg e];obtain⟨r1,r2,r3⟩:=h.cp.rng j (by omega);refine⟨r1.of_heap (fun b hb=>?_),r2,fun b hb U=>?_⟩
   ·have:=r2 b hb;have:=r1.lt b hb;rw[G b (by omega),Z.1.block b (by omega) (fun e=>r3 b hb e.symm),H.block b this]
   ·have:=r1.lt b hb
    rcases Z.2 b U with U|U
    ·exact r3 b hb U
    ·omega
 ·have h4:Below w.heap.size y O:=H.mono (by omega);have h5:Below w.heap.size O I:=X.mono (by omega);exact h.bel.trans ((h4.trans h5).setCell (p:=⟨w.heap.size,1,none⟩) (tT _) _)
theorem kK(n:Nat)(fs:List Fr)(k:Nat):∀N,k<=N->∃s,bQ n fs N=bQ n fs k++s
 |0,h=>⟨[],by
   obtain rfl:k=0:=by omega
   simp⟩
 |N+1,h=>by
  by_cases e:k=N+1
  ·exact⟨[],by rw[e];simp⟩
  ·obtain⟨s,hs⟩:=kK n fs k N (by omega);exact⟨s++_,by rw[bQ,hs,DJ]⟩
def dH(n:Nat)(fs:List Fr)(N k:Nat):List UInt8:=(bQ n fs N).drop (bQ n fs k).length
theorem Bv(n:Nat)(fs:List Fr)(N:Nat):dH n fs N N=[]:=by unfold dH;exact List.drop_of_length_le (tT _)
theorem zh(n:Nat)(fs:List Fr)(N:Nat):bQ n fs N=Num.bytes n++dH n fs N 0:=by
 obtain⟨s,hs⟩:=kK n fs 0 N (by omega);unfold dH;rw[hs,Bu rfl];rfl
theorem oZ(n:Nat)(fs:List Fr)(N k:Nat)(h:k<N):dH n fs N k=aB (fs.getD k dW)++dH n fs N (k+1):=by
 obtain⟨s,hs⟩:=kK n fs (k+1) N (by omega)
 have F:(bQ n fs N).drop (bQ n fs (k+1)).length=s:=by rw[hs];exact Bu rfl
 have hB:bQ n fs N=bQ n fs k++(aB (fs.getD k dW)++s):=by
  rw[hs,bQ];simp only[DJ]
 unfold dH;rw[F,hB];exact Bu rfl
theorem getD_map(fs:List Fr)(k:Nat)(h:k<fs.length):(fs.map norm).getD k dW=norm (fs.getD k dW):=by
 rw[uj,uj,List.getElem?_map,List.getElem?_eq_getElem h];rfl
end Go.Proofs.YtphbledmopchnaaGreatDoor
