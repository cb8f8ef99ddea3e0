import Derived.Test.YtphbledmopchnaaGreatDoorKaa
import Derived.Deep.Upon
import Derived.LaidEql
import Derived.RowKitTokens
import Derived.Stop.Asserts
open Go.Addr renaming add_lit->M4
open Go.RowKit.Below renaming heap_alloc->Lb
open Bool renaming and_eq_true->ZE
open Go.Builtin renaming zeroCells->tT,append_->wz,firstCells->qa2
open Go.Lib renaming wpList_append_run->nI
open List renaming length_append->jK,take_of_length_le->tL,append_assoc->uj,append_nil->CK,getElem?_take->Gl,mem_append->Kt,take_append_of_le_length->KG,take_zero->Vh
open Nat renaming zero_add->Bu,pow_le_pow_right->R3,le_refl->Vp,mul_one->Xw,pow_mul->Z9,le_trans->qa3,lt_of_lt_of_le->qa4,zero_le->qa6,add_comm->qa7
open Go.Value renaming ownBlock->DJ,cells->qa0,int->qa5
open Go.World renaming block_lt_of_cell?->mR,grownBy_alloc->Si
set_option maxHeartbeats 1000000
set_option maxRecDepth 1000000
namespace Go.Proofs.YtphbledmopchnaaGreatDoor
open Go.RowKit Go.Lib Mm Tryz
theorem u29:prog.underlying 60=some (.slice 5):=by kernel_rfl
theorem u9:prog.underlying 9=some .string:=by kernel_rfl
theorem info5:(prog.info? 5).map (fun i=>(i.zero,i.size,i.bytes))=some (some (.int .u8 0),1,1):=by kernel_rfl
def aJ(l:List UInt8):List Value:=l.map fun b=>.int .u8 ((b.toNat:Nat):Int)
theorem aR(l:List UInt8):(aJ l).length=l.length:=by simp[aJ]
theorem fZ(a b:List UInt8):aJ (a++b)=aJ a++aJ b:=by simp[aJ]
theorem dB(l:List UInt8):∀v∈aJ l,v.oneCell'=true:=by
 intro v F;obtain⟨_,_,rfl⟩:=List.mem_map.1 F;rfl
theorem nZ(n:Nat):(tT (qa5 .u8 0).cells n).toList.length=n:=by simp[tT,qa0]
theorem sI(n:Nat):∀v∈(tT (qa5 .u8 0).cells n).toList,v.oneCell'=true:=by
 intro v F;simp[tT,qa0]at F;obtain⟨i,_,rfl⟩:=F
 have:i % 1=0:=by omega
 rw[this];rfl
def Buf(w:World)(v:Value)(l:List UInt8):Prop:=
 v=.slice none 0 0/\l=[]\/∃g cap cs,v=.slice (some ⟨g,0,none⟩) l.length cap/\ak w g 5 cs/\cs.length=cap/\l.length<=cap/\cap<=9223372036854775807/\cs.take l.length=aJ l/\∀v∈cs,v.oneCell'=true
def Gr(w w':World)(v v':Value):Prop:=w.grownBy w' v.ownBlock/\∀k,v'.ownBlock=some k->v.ownBlock=some k\/w.heap.size<=k
theorem Gr.refl(w:World)(v:Value):Gr w w v v:=⟨FB w _,fun _ h=>.inl h⟩
theorem Gr.trans{a b c:World}{u v x:Value}(h:Gr a b u v)(k:Gr b c v x):Gr a c u x:=
 ⟨⟨k.1.os.trans h.1.os,k.1.tape.trans h.1.tape,k.1.output.trans h.1.output,qa3 h.1.size k.1.size,fun i hi F=>(k.1.block i (qa4 hi h.1.size) (fun e=>by
   rcases h.2 i e.symm with e'|e'
   ·exact F e'.symm
   ·omega)).trans (h.1.block i hi F)⟩,
 fun i hi=>by
  have hsz:=h.1.size
  rcases k.2 i hi with e|e
  ·exact h.2 i e
  ·exact .inr (by omega)⟩
theorem Gr.alloc{w w':World}{v v':Value}(o:Obj)(h:Gr (w.alloc o) w' v v'):Gr w w' v v':=
 ⟨⟨h.1.os,h.1.tape,h.1.output,by have:=h.1.size;simp at this;omega,fun i hi F=>by rw[h.1.block i (by simp;omega) F,Lb _ _ _ hi]⟩,
 fun i hi=>by
  rcases h.2 i hi with e|e
  ·exact .inl e
  ·simp at e;exact .inr (by omega)⟩
theorem Buf.lt{w:World}{v:Value}{l:List UInt8}(h:Buf w v l):∀k,v.ownBlock=some k->k<w.heap.size:=by
 intro k F
 rcases h with⟨rfl,_⟩|⟨g,cap,cs,rfl,hB,_⟩
 ·simp[DJ]at F
 ·simp[DJ]at F;subst F;exact hB.lt
theorem Buf.of_heap{w w':World}{v:Value}{l:List UInt8}(h:Buf w v l)(e:∀k,v.ownBlock=some k->w'.heap[k]?=w.heap[k]?):Buf w' v l:=by
 rcases h with h|⟨g,cap,cs,rfl,hB,F⟩
 ·exact .inl h
 ·exact .inr ⟨g,cap,cs,rfl,hB.of_heap (e g rfl),F⟩
theorem Buf.alloc{w:World}{v:Value}{l:List UInt8}(h:Buf w v l)(o:Obj):Buf (w.alloc o) v l:=h.of_heap (fun k F=>Lb w o k (h.lt k F))
theorem Buf.nil(w:World):Buf w (.slice none 0 0) []:=.inl ⟨rfl,rfl⟩
theorem iB{w:World}{v:Value}{l:List UInt8}(h:Buf w v l)(a:Addr)(m mc:Nat)(F:List UInt8)(V:F.length=m)(h0:0<m)(I:∀j u,(aJ F)[j]?=some u->w.cell? (a.add j)=some u)(hsz:l.length+m<=70368744177664):
  ∃v' w',(∀X,(wz #[60,60] X #[v,.slice (some a) m mc]).run prog w=.ok v' w')/\Buf w' v' (l++F)/\Gr w w' v v':=by
 have Z:=aR F
 have grow:∀base n c (cs:List Value),n=l.length->cs=aJ l->c<n+m->(base=none/\cs=[]\/∃b:Addr,base=some b/\cs.length=n*1/\∀j v,cs[j]?=some v->w.cell? (b.add j)=some v)->∃v' w',(∀X,(wz #[60,60] X #[.slice base n c,.slice (some a) m mc]).run prog w=.ok v' w')/\Buf w' v' (l++F)/\Gr w w' (.slice base n c) v':=by
  intro base n c cs hn U hr hold
  have O:=fun X=>eX (P:=prog) (w:=w) 60 60 X 5 _ 1 1 u29 u29 info5 (base:=base) (n:=n) (c:=c) (m:=m) (mc:=mc) (cs:=cs) hold a (vs:=aJ F) (by omega) I (dB F) hr (by omega) (by omega)
  have h8:=grownCap_ge w (n+m) c 5;have H:=grownCap_le_maxLen w (n+m) c 5 (by unfold maxLen;omega);unfold maxLen at H
  have h9:cs.length=n:=by rw[U,aR,hn]
  refine⟨_,_,O,.inr ⟨w.heap.size,_,_,by rw[jK,V,<-hn],ak.new w 5 _,?_,by rw[jK,V,<-hn];exact h8,H,?_,?_⟩,bC (eH w _) (Si w.drew _ _),?_⟩
  ·rw[jK,jK,nZ,Z];omega
  ·rw[jK,V,fZ,KG (by rw[jK];omega),tL (by rw[jK];omega),U]
  ·intro u G
   rcases Kt.1 G with G|G
   ·rcases Kt.1 G with G|G
    ·rw[U]at G;exact dB l u G
    ·exact dB F u G
   ·exact sI _ u G
  ·intro k hk;simp[DJ]at hk;exact .inr (by omega)
 rcases h with⟨rfl,rfl⟩|⟨g,cap,cs,rfl,hB,h2,h3,h4,h5,h6⟩
 ·exact grow none 0 0 [] rfl rfl (by omega) (.inl ⟨rfl,rfl⟩)
 ·by_cases hr:l.length+m<=cap
  ·have O:=fun X=>bS (P:=prog) (w:=w) 60 60 X 5 _ 1 1 u29 u29 info5 (n:=l.length) (c:=cap) (m:=m) (mc:=mc) hB a (vs:=aJ F) (by omega) I (dB F) hr (by omega)
   have h7:=dR cs (aJ F) (l.length*1) (by omega);refine⟨_,_,O,.inr ⟨g,cap,_,by rw[jK,V],hB.put _,?_,by rw[jK,V];exact hr,h4,?_,aS h6 (dB F)⟩,aT w g _,fun k hk=>.inl hk⟩
   ·rw[aG _ _ _ (by omega),h2]
   ·rw[Z,V,Xw]at h7;rw[jK,V,Xw,h7,fZ,h5]
  ·exact grow (some ⟨g,0,none⟩) l.length cap (aJ l) rfl rfl (by omega) (.inr ⟨_,rfl,by rw[aR];omega,fun j u hj=>by
    rw[M4,Bu,hB.cell];rw[<-h5,Gl]at hj;split at hj
    ·exact hj
    ·cases hj⟩)
theorem sJ(n c k:Nat)(h:n<2 ^ k):n|||(c*2 ^ k)=n+c*2 ^ k:=by
 rw[Nat.or_comm,Nat.mul_comm,<-Nat.two_pow_add_eq_or_of_lt h,qa7]
theorem M7:∀(K N j m:Nat),K=j+m+1->(Num.be K N).take (j+1)=(Num.be K N).take j++[UInt8.ofNat (N / 256 ^ m % 256)]
 |0,_,_,_,h=>by omega
 |K+1,N,0,m,h=>by
  obtain rfl:K=m:=by omega
  simp[Num.be]
 |K+1,N,j+1,m,h=>by
  have:=M7 K N j m (by omega);simp[Num.be,this]
theorem n_{w wr:World}{v s0:Value}{l:List UInt8}{K N j m:Nat}(U:K=j+m+1)(hB:Buf wr s0 (l++(Num.be K N).take j))(O:Gr w wr v s0)(hl:l.length<=35184372088832)(Z:K<=8)(c:Int)(V:c=((N / 256 ^ m % 256:Nat):Int)):
  ∃v' w',(∀X,(wz #[60,60] X #[s0,.slice (some ⟨wr.heap.size,0,none⟩) 1 1]).run prog (wr.alloc (.cells #[.int .u8 c] 5))=.ok v' w')/\Buf w' v' (l++(Num.be K N).take (j+1))/\Gr w w' v v':=by
 have G:(l++(Num.be K N).take j).length<=l.length+8:=by simp[Num.eY];omega
 obtain⟨v',w',h1,H,I⟩:=iB (hB.alloc (.cells #[.int .u8 c] 5)) ⟨wr.heap.size,0,none⟩ 1 1 [UInt8.ofNat (N / 256 ^ m % 256)] rfl (by omega) (fun i u F=>by
  match i,F with
  |0,F=>
   simp[aJ]at F;rw[M4,Bu,(ak.new wr 5 [.int .u8 c]).cell,<-F,V];simp
  |i+1,F=>simp[aJ]at F) (by omega)
 refine⟨v',w',h1,?_,O.trans (I.alloc _)⟩;rw[M7 K N j m U,<-uj];exact H
theorem bf(v:Value)(l:List UInt8)(n:Nat)(w:World)(hb:Buf w v l)(hn:n<4611686018427387904)(hl:l.length<=35184372088832):
  Calls prog 211 #[v,.int .u64 n] w fun e w'=>∃v',e=.returned v'/\Buf w' v' (l++Num.bytes n)/\Gr w w' v v':=by
 have h6:=vV n w;have HC:=hid h6;clear h6;have h0:Hid (Num.bytes n=Num.be (2 ^ Num.code n) (n+Num.code n*2 ^ (8*2 ^ Num.code n-2))):=rfl
 have h4:Num.code n=0/\n<64\/Num.code n=1/\n<16384\/Num.code n=2/\n<1073741824\/Num.code n=3:=by
  unfold Num.code;split<;>(try split)<;>(try split)<;>omega
 have HB:=hid hb;clear hb;go_enter func211,ntmps211
 go_wp2_with fail
 refine HC.out.mono ?_;rintro e w1 ⟨rfl,h7⟩;subst h7
 rcases h4 with⟨hc,h2⟩|⟨hc,h2⟩|⟨hc,h2⟩|hc
 ·have h3:bits .or .u64 (n:Int) 0=((n+0:Nat):Int):=by
   have:=u64_or_nat n 0 (by omega) (by omega);rw[show(0:Nat)=0*2 ^ 6 from rfl,sJ n 0 6 h2]at this;exact this
  have H:Num.bytes n=Num.be 1 (n+0):=by rw[h0.out,hc]
  rw[hc];obtain⟨N,hN⟩:∃N,N=n+0:=⟨_,rfl⟩;rw[<-hN]at h3 H;have VL:=hid H;clear hN h0 h2 hc H
  go_wp2_with fail
  go_loopw [0,6] (fun s0 s6 wr=>∃j m t:Nat,1=j+m/\s6=.int .i64 t/\Hid (t=8*m)/\Hid (Buf wr s0 (l++(Num.be 1 N).take j))/\Hid (Gr w1 wr v s0)) (fun _ s6 _=>(intOf s6).toNat)
  case atStart=>exact⟨0,1,8,rfl,rfl,rfl,by rw[Vh,CK];exact HB.out,Gr.refl w1 v⟩
  case round=>
   obtain⟨j,m,t,G,rfl,Ht,vH,FC⟩:=hrel
   cases m with
   |zero=>
    have h5:t=0:=Ht.out;subst h5
    have HF:Hid (Buf wr u0 (l++Num.bytes n)):=by
     have:=vH.out;rw[tL (by rw[Num.eY];omega),<-VL.out]at this;exact this
    clear vH G;go_wp2;go_ret;exact⟨_,rfl,HF.out,FC.out⟩
   |succ m=>
    have ht:t=8*m+8:=by have:=Ht.out;omega
    obtain⟨F,I⟩:∃F,F=8*m:=⟨_,rfl⟩
    have e1:(t:Int)-8=(F:Int):=by omega
    have g1:(0:Int)<(t:Int):=by omega
    have g2:(F:Int)<64:=by omega
    have g4:(t:Int)<=64:=by omega
    have e2:min F 64=F:=by omega
    obtain⟨Q,hQ⟩:∃Q,Q=N / 256 ^ m:=⟨_,rfl⟩;obtain⟨cc,V⟩:∃cc,cc=Q % 256:=⟨_,rfl⟩
    have X:2 ^ F=256 ^ m:=by rw[I,Z9]
    have e3:(N:Int) / 2 ^ F=(Q:Int):=by
     rw[hQ,<-X];simp
    have e4:(Q:Int) % 256=(cc:Int):=by omega
    obtain⟨v',w',Z,O,U⟩:=n_ (w:=w1) (v:=v) (l:=l) (N:=N) (m:=m) G vH.out FC.out hl (by omega) (cc:Int) (by rw[V,hQ]);have JX:=hid O;have JY:=hid U;have M8:=hid I;have VN:=hid (show F<t by omega);have HJ:=hid G;clear G ht I hQ V X O U vH FC Ht
    go_wp2_with (at_builtin;refine nI _ rfl _ _ _ _ rfl _ _ rfl rfl _ _ (Z _) ?_)
    go_roundw
    case rel=>first|exact⟨j+1,m,F,by have:=HJ.out;omega,rfl,M8,JX,JY⟩|((repeat apply Exists.intro);exact⟨⟨j+1,m,F,by have:=HJ.out;omega,rfl,M8,JX,JY⟩,rfl⟩)
    case measure=>simp[intOf];exact VN.out
 ·have h3:bits .or .u64 (n:Int) 16384=((n+16384:Nat):Int):=by
   have:=u64_or_nat n 16384 (by omega) (by omega);rw[show(16384:Nat)=1*2 ^ 14 from rfl,sJ n 1 14 h2]at this;exact this
  have H:Num.bytes n=Num.be 2 (n+16384):=by rw[h0.out,hc]
  rw[hc];obtain⟨N,hN⟩:∃N,N=n+16384:=⟨_,rfl⟩;rw[<-hN]at h3 H;have VL:=hid H;clear hN h0 h2 hc H
  go_wp2_with fail
  go_loopw [0,6] (fun s0 s6 wr=>∃j m t:Nat,2=j+m/\s6=.int .i64 t/\Hid (t=8*m)/\Hid (Buf wr s0 (l++(Num.be 2 N).take j))/\Hid (Gr w1 wr v s0)) (fun _ s6 _=>(intOf s6).toNat)
  case atStart=>exact⟨0,2,16,rfl,rfl,rfl,by rw[Vh,CK];exact HB.out,Gr.refl w1 v⟩
  case round=>
   obtain⟨j,m,t,G,rfl,Ht,vH,FC⟩:=hrel
   cases m with
   |zero=>
    have h5:t=0:=Ht.out;subst h5
    have HF:Hid (Buf wr u0 (l++Num.bytes n)):=by
     have:=vH.out;rw[tL (by rw[Num.eY];omega),<-VL.out]at this;exact this
    clear vH G;go_wp2;go_ret;exact⟨_,rfl,HF.out,FC.out⟩
   |succ m=>
    have ht:t=8*m+8:=by have:=Ht.out;omega
    obtain⟨F,I⟩:∃F,F=8*m:=⟨_,rfl⟩
    have e1:(t:Int)-8=(F:Int):=by omega
    have g1:(0:Int)<(t:Int):=by omega
    have g2:(F:Int)<64:=by omega
    have g4:(t:Int)<=64:=by omega
    have e2:min F 64=F:=by omega
    obtain⟨Q,hQ⟩:∃Q,Q=N / 256 ^ m:=⟨_,rfl⟩;obtain⟨cc,V⟩:∃cc,cc=Q % 256:=⟨_,rfl⟩
    have X:2 ^ F=256 ^ m:=by rw[I,Z9]
    have e3:(N:Int) / 2 ^ F=(Q:Int):=by
     rw[hQ,<-X];simp
    have e4:(Q:Int) % 256=(cc:Int):=by omega
    obtain⟨v',w',Z,O,U⟩:=n_ (w:=w1) (v:=v) (l:=l) (N:=N) (m:=m) G vH.out FC.out hl (by omega) (cc:Int) (by rw[V,hQ]);have JX:=hid O;have JY:=hid U;have M8:=hid I;have VN:=hid (show F<t by omega);have HJ:=hid G;clear G ht I hQ V X O U vH FC Ht
    go_wp2_with (at_builtin;refine nI _ rfl _ _ _ _ rfl _ _ rfl rfl _ _ (Z _) ?_)
    go_roundw
    case rel=>first|exact⟨j+1,m,F,by have:=HJ.out;omega,rfl,M8,JX,JY⟩|((repeat apply Exists.intro);exact⟨⟨j+1,m,F,by have:=HJ.out;omega,rfl,M8,JX,JY⟩,rfl⟩)
    case measure=>simp[intOf];exact VN.out
 ·have h3:bits .or .u64 (n:Int) 2147483648=((n+2147483648:Nat):Int):=by
   have:=u64_or_nat n 2147483648 (by omega) (by omega);rw[show(2147483648:Nat)=2*2 ^ 30 from rfl,sJ n 2 30 h2]at this;exact this
  have H:Num.bytes n=Num.be 4 (n+2147483648):=by rw[h0.out,hc]
  rw[hc];obtain⟨N,hN⟩:∃N,N=n+2147483648:=⟨_,rfl⟩;rw[<-hN]at h3 H;have VL:=hid H;clear hN h0 h2 hc H
  go_wp2_with fail
  go_loopw [0,6] (fun s0 s6 wr=>∃j m t:Nat,4=j+m/\s6=.int .i64 t/\Hid (t=8*m)/\Hid (Buf wr s0 (l++(Num.be 4 N).take j))/\Hid (Gr w1 wr v s0)) (fun _ s6 _=>(intOf s6).toNat)
  case atStart=>exact⟨0,4,32,rfl,rfl,rfl,by rw[Vh,CK];exact HB.out,Gr.refl w1 v⟩
  case round=>
   obtain⟨j,m,t,G,rfl,Ht,vH,FC⟩:=hrel
   cases m with
   |zero=>
    have h5:t=0:=Ht.out;subst h5
    have HF:Hid (Buf wr u0 (l++Num.bytes n)):=by
     have:=vH.out;rw[tL (by rw[Num.eY];omega),<-VL.out]at this;exact this
    clear vH G;go_wp2;go_ret;exact⟨_,rfl,HF.out,FC.out⟩
   |succ m=>
    have ht:t=8*m+8:=by have:=Ht.out;omega
    obtain⟨F,I⟩:∃F,F=8*m:=⟨_,rfl⟩
    have e1:(t:Int)-8=(F:Int):=by omega
    have g1:(0:Int)<(t:Int):=by omega
    have g2:(F:Int)<64:=by omega
    have g4:(t:Int)<=64:=by omega
    have e2:min F 64=F:=by omega
    obtain⟨Q,hQ⟩:∃Q,Q=N / 256 ^ m:=⟨_,rfl⟩;obtain⟨cc,V⟩:∃cc,cc=Q % 256:=⟨_,rfl⟩
    have X:2 ^ F=256 ^ m:=by rw[I,Z9]
    have e3:(N:Int) / 2 ^ F=(Q:Int):=by
     rw[hQ,<-X];simp
    have e4:(Q:Int) % 256=(cc:Int):=by omega
    obtain⟨v',w',Z,O,U⟩:=n_ (w:=w1) (v:=v) (l:=l) (N:=N) (m:=m) G vH.out FC.out hl (by omega) (cc:Int) (by rw[V,hQ]);have JX:=hid O;have JY:=hid U;have M8:=hid I;have VN:=hid (show F<t by omega);have HJ:=hid G;clear G ht I hQ V X O U vH FC Ht
    go_wp2_with (at_builtin;refine nI _ rfl _ _ _ _ rfl _ _ rfl rfl _ _ (Z _) ?_)
    go_roundw
    case rel=>first|exact⟨j+1,m,F,by have:=HJ.out;omega,rfl,M8,JX,JY⟩|((repeat apply Exists.intro);exact⟨⟨j+1,m,F,by have:=HJ.out;omega,rfl,M8,JX,JY⟩,rfl⟩)
    case measure=>simp[intOf];exact VN.out
 ·have h3:bits .or .u64 (n:Int) 13835058055282163712=((n+13835058055282163712:Nat):Int):=by
   have:=u64_or_nat n 13835058055282163712 (by omega) (by omega);rw[show(13835058055282163712:Nat)=3*2 ^ 62 from rfl,sJ n 3 62 hn]at this;exact this
  have H:Num.bytes n=Num.be 8 (n+13835058055282163712):=by rw[h0.out,hc]
  rw[hc];obtain⟨N,hN⟩:∃N,N=n+13835058055282163712:=⟨_,rfl⟩;rw[<-hN]at h3 H;have VL:=hid H;clear hN h0 hc H
  go_wp2_with fail
  go_loopw [0,6] (fun s0 s6 wr=>∃j m t:Nat,8=j+m/\s6=.int .i64 t/\Hid (t=8*m)/\Hid (Buf wr s0 (l++(Num.be 8 N).take j))/\Hid (Gr w1 wr v s0)) (fun _ s6 _=>(intOf s6).toNat)
  case atStart=>exact⟨0,8,64,rfl,rfl,rfl,by rw[Vh,CK];exact HB.out,Gr.refl w1 v⟩
  case round=>
   obtain⟨j,m,t,G,rfl,Ht,vH,FC⟩:=hrel
   cases m with
   |zero=>
    have h5:t=0:=Ht.out;subst h5
    have HF:Hid (Buf wr u0 (l++Num.bytes n)):=by
     have:=vH.out;rw[tL (by rw[Num.eY];omega),<-VL.out]at this;exact this
    clear vH G;go_wp2;go_ret;exact⟨_,rfl,HF.out,FC.out⟩
   |succ m=>
    have ht:t=8*m+8:=by have:=Ht.out;omega
    obtain⟨F,I⟩:∃F,F=8*m:=⟨_,rfl⟩
    have e1:(t:Int)-8=(F:Int):=by omega
    have g1:(0:Int)<(t:Int):=by omega
    have g2:(F:Int)<64:=by omega
    have g4:(t:Int)<=64:=by omega
    have e2:min F 64=F:=by omega
    obtain⟨Q,hQ⟩:∃Q,Q=N / 256 ^ m:=⟨_,rfl⟩;obtain⟨cc,V⟩:∃cc,cc=Q % 256:=⟨_,rfl⟩
    have X:2 ^ F=256 ^ m:=by rw[I,Z9]
    have e3:(N:Int) / 2 ^ F=(Q:Int):=by
     rw[hQ,<-X];simp
    have e4:(Q:Int) % 256=(cc:Int):=by omega
    obtain⟨v',w',Z,O,U⟩:=n_ (w:=w1) (v:=v) (l:=l) (N:=N) (m:=m) G vH.out FC.out hl (by omega) (cc:Int) (by rw[V,hQ]);have JX:=hid O;have JY:=hid U;have M8:=hid I;have VN:=hid (show F<t by omega);have HJ:=hid G;clear G ht I hQ V X O U vH FC Ht
    go_wp2_with (at_builtin;refine nI _ rfl _ _ _ _ rfl _ _ rfl rfl _ _ (Z _) ?_)
    go_roundw
    case rel=>first|exact⟨j+1,m,F,by have:=HJ.out;omega,rfl,M8,JX,JY⟩|((repeat apply Exists.intro);exact⟨⟨j+1,m,F,by have:=HJ.out;omega,rfl,M8,JX,JY⟩,rfl⟩)
    case measure=>simp[intOf];exact VN.out
theorem Buf.bytes{w:World}{v:Value}{l:List UInt8}(h:Buf w v l):∃a c,v=.slice a l.length c/\BytesAt w a l:=by
 rcases h with⟨rfl,rfl⟩|⟨g,cap,cs,rfl,hB,h2,h3,h4,h5,h6⟩
 ·exact⟨none,0,rfl,fun j F=>by simp at F⟩
 ·refine⟨_,cap,rfl,fun j F=>⟨g,0,rfl,?_⟩⟩;rw[hB.cell,Bu]
  have:(cs.take l.length)[j]?=(aJ l)[j]?:=by rw[h5]
  rw[Gl,if_pos F]at this;rw[this];simp[aJ,F]
def dS(l:List UInt8):List UInt8:=Num.be 4 (Crc.sum l)
theorem wI(l:List UInt8)(F G H I:Nat)(h1:F=Crc.sum l / 16777216 % 256)(O:G=Crc.sum l / 65536 % 256)(U:H=Crc.sum l / 256 % 256)(V:I=Crc.sum l % 256):
  aJ (dS l)=[.int .u8 F,.int .u8 G,.int .u8 H,.int .u8 I]:=by
 subst h1;subst O;subst U;subst V;simp[dS,Num.be,aJ]
theorem yU(v:Value)(l:List UInt8)(w:World)(hb:Buf w v l)(ht:TabAt w)(hl:l.length<=1000000000):
  Calls prog 220 #[v] w fun e w'=>∃v',e=.returned v'/\Buf w' v' (l++dS l)/\Gr w w' v v':=by
 obtain⟨a,c,hv,H⟩:=hb.bytes;have hs:=IB a l c w hl H ht;rw[<-hv]at hs;have h0:=Crc.sum_lt l;obtain⟨U,h1⟩:∃q,q=Crc.sum l / 16777216 % 256:=⟨_,rfl⟩;obtain⟨V,h2⟩:∃q,q=Crc.sum l / 65536 % 256:=⟨_,rfl⟩;obtain⟨X,h3⟩:∃q,q=Crc.sum l / 256 % 256:=⟨_,rfl⟩;obtain⟨Z,h4⟩:∃q,q=Crc.sum l % 256:=⟨_,rfl⟩;have O:=wI l U V X Z h1 h2 h3 h4
 obtain⟨v',w',I,F,G⟩:=iB (hb.alloc (.cells #[.int .u8 U,.int .u8 V,.int .u8 X,.int .u8 Z] 5)) ⟨w.heap.size,0,none⟩ 4 4 (dS l) (Num.eY 4 _) (by omega) (fun i u hu=>by
  rw[O]at hu;rw[M4,Bu,(ak.new w 5 [.int .u8 U,.int .u8 V,.int .u8 X,.int .u8 Z]).cell]
  exact hu) (by omega)
 generalize Crc.sum l=S at hs h0 h1 h2 h3 h4
 have e1:(S:Int) / 16777216=(U:Int):=by omega
 have e2:(S:Int) / 65536 % 256=(V:Int):=by omega
 have e3:(S:Int) / 256 % 256=(X:Int):=by omega
 have e4:(S:Int) % 256=(Z:Int):=by omega
 have HS:=hid hs;have JX:=hid F;have JY:=hid (G.alloc _);clear h1 h2 h3 h4 hs O F G hb ht H hv;go_enter func220,ntmps220
 go_wp2_with fail
 refine HS.out.mono ?_;rintro e w1 ⟨rfl,h5⟩;subst h5
 go_wp2_with (at_builtin;refine nI _ rfl _ _ _ _ rfl _ _ rfl rfl _ _ (I _) ?_)
 go_ret;exact⟨v',rfl,JX.out,JY.out⟩
theorem BytesAt.cut{w:World}{a:Option Addr}{l:List UInt8}(h:BytesAt w a l)(n:Nat):BytesAt w a (l.take n):=fun j H=>by
 obtain⟨b,off,F,G⟩:=h j (by simp at H;omega);exact⟨b,off,F,by rw[G];simp⟩
theorem VZ{x:Value}{a b:Bool}(h:a=b):Ending.returned (.tuple #[x,.bool a])=.returned (.tuple #[x,.bool b]):=by rw[h]
theorem C_(a:Nat)(l:List UInt8)(x:UInt8):Num.val a (l++[x])=Num.val a l*256+x.toNat:=by
 unfold Num.val;rw[List.foldl_append];rfl
theorem sU:∀(l:List UInt8) (a k:Nat),a<256 ^ k->Num.val a l<256 ^ (k+l.length)
 |[],a,k,h=>by simpa[Num.val]using h
 |x::t,a,k,h=>by
  have F:=Crc.jv x;have:=sU t (a*256+x.toNat) (k+1) (by rw[Nat.pow_succ];omega);rw[List.length_cons,show k+(t.length+1)=k+1+t.length by omega];exact this
theorem V3(T X:Nat)(G:T<16777216)(F:X<256):bits .or .u32 ((T:Int)*256) (X:Int)=((T*256+X:Nat):Int):=by
 have h:=u32_or_nat (T*256) X (by omega) (by omega);rw[Nat.or_comm,sJ X T 8 F,qa7]at h;rw[<-h];simp
theorem FP(b off:Nat)(body F:List UInt8)(c:Nat)(w:World)(hl:body.length<=1000000000)(h4:F.length=4)(hc:body.length+4<=c)(hb:BytesAt w (some ⟨b,off,none⟩) (body++F))(ht:TabAt w):
  Calls prog 115 #[.slice (some ⟨b,off,none⟩) (body.length+4) c] w fun e w'=>e=.returned (.tuple #[.slice (some ⟨b,off,none⟩) body.length c,.bool (decide (Num.val 0 F=Crc.sum body))])/\∃q,w'=w.drewN q:=by
 have I:BytesAt w (some ⟨b,off,none⟩) body:=by
  have:=hb.cut body.length;rwa[List.take_left']at this;rfl
 have hs:=fun q=>IB (some ⟨b,off,none⟩) body c (w.drewN q) hl I ht
 have h0:∀k,k<4->w.cell? ⟨b,off+body.length+k,none⟩=some (.int .u8 (((F.getD k 0).toNat:Nat):Int)):=fun k hk=>by
  obtain⟨b',he,ha,h6⟩:=hb (body.length+k) (by simp;omega);simp at ha;obtain⟨rfl,rfl⟩:=ha;rw[Nat.add_assoc,h6];simp[hk,h4]
 have Z:∀k,k<4->Num.val 0 (F.take (k+1))=Num.val 0 (F.take k)*256+(F.getD k 0).toNat/\Num.val 0 (F.take k)<16777216:=fun k hk=>by
  refine⟨?_,?_⟩
  ·rw[List.take_succ_eq_append_getElem (by omega),C_];simp[hk,h4]
  ·have:=sU (F.take k) 0 0 (by decide)
   have h8:(F.take k).length=k:=by simp;omega
   rw[h8,Bu]at this
   exact qa4 this (by
    have:(256:Nat) ^ k<=256 ^ 3:=R3 (by decide) (by omega)
    omega)
 have h3:=hid Z
 have h5:Hid (Num.val 0 (F.take 4)=Num.val 0 F):=by rw[tL (by omega)];rfl
 clear Z;have HS:=hid hs;have HT:=hid h0;have H4:=hid h4
 have i1:(0:Int)<=(body.length:Int):=by omega
 generalize body.length=n at *
 have i2:(n:Int)<=(n:Int)+4:=by omega
 have i3:¬(c=n):=by omega
 clear hs h0 hb I ht h4 H4;go_enter func115,ntmps115
 go_wp2_with fail
 go_loop [5,17] (fun s5 FQ=>∃k:Nat,k<=4/\FQ=.int .i64 k/\s5=.int .u32 (Num.val 0 (F.take k):Nat)) (fun _ FQ=>4-(intOf FQ).toNat)
 case atStart=>exact⟨0,qa6 _,rfl,rfl⟩
 case round=>
  obtain⟨k,hk,rfl,rfl⟩:=hrel
  by_cases U:k<4
  ·have h9:(k:Int)<4:=by omega
   have h7:=HT.out k U;obtain⟨G,V⟩:=h3.out k U;have hX:=Crc.jv (F.getD k 0);generalize (F.getD k 0).toNat=X at h7 G hX;generalize Num.val 0 (F.take k)=T at G V;have e1:=V3 T X V hX;obtain⟨T',H⟩:∃T',T'=T*256+X:=⟨_,rfl⟩;rw[<-H]at e1 G;have qI:=hid G;clear G H;go_wp2
   go_round
   case rel=>exact⟨k+1,by omega,by go_num,by rw[qI.out]⟩
   case measure=>simp[intOf];omega
  ·obtain rfl:k=4:=by omega
   rw[h5.out]
   have O:(((Num.val 0 F:Nat):Int)==((Crc.sum body:Nat):Int))=decide (Num.val 0 F=Crc.sum body):=by
    rw[Bool.eq_iff_iff,beq_iff_eq,decide_eq_true_iff];omega
   have h2:=hid O;clear O
   have i4:(n:Int)<=(c:Int):=by omega
   go_wp2_with fail
   go_quiet ((go_at_call 159;exact Calls.quiet_of_same (HS.out _)))
   go_wp2;go_ret2;exact⟨VZ h2.out,nq,rfl⟩
end Go.Proofs.YtphbledmopchnaaGreatDoor
namespace Go.Proofs.YtphbledmopchnaaGreatDoor
open Go.RowKit Go.Lib Go.Shelf Mm Tryz
def Keep(B0 B1:Nat)(w1 w:World):Prop:=B1<=w.heap.size/\∀k,B0<=k->k<B1->w.heap[k]?=w1.heap[k]?
structure yR (B0 B1:Nat) (w1 w:World) (v:Value) (l:List UInt8) (b off:Nat) (f:Fr) (ra:Option Addr) (rc:Nat):Prop where
 keep:Keep B0 B1 w1 w
 buf:Buf w v l
 out:∀k,v.ownBlock=some k->k<B0\/B1<=k
 nG:jN w b off f ra rc
 nb:v.ownBlock≠some b
 nr:∀x,ra=some x->v.ownBlock≠some x.block
 rl:∀x,ra=some x->x.block<w.heap.size
theorem cell_of{w w':World}{a:Addr}{v:Value}(h:w.cell? a=some v)(e:w'.heap[a.block]?=w.heap[a.block]?):w'.cell? a=some v:=by rw[World.cell?_of_block e];exact h
theorem fq.of{w w':World}{a:Option Addr}{rs:List (Nat×Nat)}(h:fq w a rs)(e:∀x:Addr,a=some x->x.block<w.heap.size->w'.heap[x.block]?=w.heap[x.block]?):fq w' a rs:=fun j O=>by
 obtain⟨b,off,G,h1,H,I⟩:=h j O;have hl:=mR _ _ h1;have F:=e _ G hl;exact⟨b,off,G,cell_of h1 F,cell_of H F,I⟩
theorem jN.of{w w':World}{b off:Nat}{f:Fr}{ra:Option Addr}{rc:Nat}(h:jN w b off f ra rc)(e:w'.heap[b]?=w.heap[b]?)(er:∀x:Addr,ra=some x->x.block<w.heap.size->w'.heap[x.block]?=w.heap[x.block]?):jN w' b off f ra rc:=
 ⟨cell_of h.c0 e,cell_of h.c1 e,cell_of h.c2 e,cell_of h.c3 e,cell_of h.c4 e,cell_of h.c5 e,cell_of h.c6 e,cell_of h.c7 e,cell_of h.c8 e,cell_of h.c9 e,h.rng.of er,h.rlen,h.vX,h.k0,h.s0,h.u0⟩
theorem yR.next{B0 B1:Nat}{w1 w w':World}{v v':Value}{l l':List UInt8}{b off:Nat}{f:Fr}{ra:Option Addr}{rc:Nat}(h:yR B0 B1 w1 w v l b off f ra rc)(hB:Buf w' v' l')(F:Gr w w' v v'):yR B0 B1 w1 w' v' l' b off f ra rc:=by
 have H:=mR _ _ h.nG.c0;have hsz:=F.1.size;have U:=h.keep.1;refine⟨⟨qa3 U hsz,fun k O h1=>(F.1.block k (by omega) (fun e=>by rcases h.out k e.symm with e'|e'<;>omega)).trans (h.keep.2 k O h1)⟩,hB,?_,?_,?_,?_,fun x G=>by have:=h.rl x G;omega⟩
 ·intro k I
  rcases F.2 k I with e|e
  ·exact h.out k e
  ·exact .inr (by omega)
 ·exact h.nG.of (F.1.block b H (fun e=>h.nb e.symm)) (fun x G hl=>F.1.block _ hl (fun e=>h.nr x G e.symm))
 ·intro e
  rcases F.2 b e with e'|e'
  ·exact h.nb e'
  ·have V:b<w.heap.size:=H;omega
 ·intro x G e;have hl:=h.rl x G
  rcases F.2 _ e with e'|e'
  ·exact h.nr x G e'
  ·omega
theorem yR.alloc{B0 B1:Nat}{w1 w:World}{v:Value}{l:List UInt8}{b off:Nat}{f:Fr}{ra:Option Addr}{rc:Nat}(h:yR B0 B1 w1 w v l b off f ra rc)(o:Obj):yR B0 B1 w1 (w.alloc o) v l b off f ra rc:=by
 have F:=mR _ _ h.nG.c0;have I:=h.keep.1;exact⟨⟨by simp;omega,fun k G h1=>(Lb w o k (by omega)).trans (h.keep.2 k G h1)⟩,h.buf.alloc o,h.out,h.nG.of (Lb w o b F) (fun x _ hl=>Lb w o _ hl),h.nb,h.nr,fun x H=>by have:=h.rl x H;simp;omega⟩
def Wr(B0 B1:Nat)(w1:World)(fv:Value)(sp:List UInt8)(b off:Nat)(f:Fr)(ra:Option Addr)(rc:Nat):Prop:=
 ∃g cb,fv=.func (.func g) #[] cb/\(∀args w,(callFunc g args).run prog w=.ok (.enter g args) w)/\
  ∀w v l,yR B0 B1 w1 w v l b off f ra rc->l.length+sp.length<=35184372088832->
   Calls prog g (#[v,.pointer (some ⟨b,off,none⟩)]++cb) w fun e w'=>∃v',e=.returned v'/\Buf w' v' (l++sp)/\Gr w w' v v'
theorem Keep.cell{B0 B1:Nat}{w1 w:World}(h:Keep B0 B1 w1 w){k o:Nat}{v:Value}(F:B0<=k)(h1:k<B1)(G:w1.cell? ⟨k,o,none⟩=some v):w.cell? ⟨k,o,none⟩=some v:=cell_of G (h.2 k F h1)
theorem nH{w:World}{v:Value}{l:List UInt8}(h:Buf w v l)(x:UInt8)(c:Int)(I:c=((x.toNat:Nat):Int))(hl:l.length<=35184372088832):
  ∃v' w',(∀O,(wz #[60,60] O #[v,.slice (some ⟨w.heap.size,0,none⟩) 1 1]).run prog (w.alloc (.cells #[.int .u8 c] 5))=.ok v' w')/\Buf w' v' (l++[x])/\Gr w w' v v':=by
 obtain⟨v',w',h1,G,H⟩:=iB (h.alloc (.cells #[.int .u8 c] 5)) ⟨w.heap.size,0,none⟩ 1 1 [x] rfl (by omega) (fun i u F=>by
  match i,F with
  |0,F=>
   simp[aJ]at F;rw[M4,Bu,(ak.new w 5 [.int .u8 c]).cell,<-F,I];rfl
  |i+1,F=>simp[aJ]at F) (by omega)
 exact⟨v',w',h1,G,H.alloc _⟩
theorem M9{B0 B1:Nat}{w1:World}(xb:Nat)(x:UInt8)(b off:Nat)(f:Fr)(ra:Option Addr)(rc:Nat)(U:B0<=xb)(h1:xb<B1)(H:w1.cell? ⟨xb,0,none⟩=some (.int .u8 ((x.toNat:Nat):Int))):
  Wr B0 B1 w1 (.func (.func 321) #[] #[.pointer (some ⟨xb,0,none⟩)]) [x] b off f ra rc:=by
 refine⟨321,_,rfl,enters_of func321 (by kernel_rfl) rfl,fun w v l hp hl=>?_⟩;have V:=hp.keep.cell U h1 H;obtain⟨v',w',F,hB,G⟩:=nH hp.buf x ((x.toNat:Nat):Int) rfl (by simp at hl;omega);have I:=hid hB;have O:=hid G;generalize ((x.toNat:Nat):Int)=X at V F;clear hB G hp hl H;go_enter func321,ntmps321
 go_wp2_with (at_builtin;refine nI _ rfl _ _ _ _ rfl _ _ rfl rfl _ _ (F _) ?_)
 go_ret;exact⟨v',rfl,I.out,O.out⟩
theorem AR{B0 B1:Nat}{w1:World}(b off:Nat)(f:Fr)(ra:Option Addr)(rc:Nat):
  Wr B0 B1 w1 (.func (.func 331) #[] #[]) [if f.fin then 9 else 8] b off f ra rc:=by
 refine⟨331,_,rfl,enters_of func331 (by kernel_rfl) rfl,fun w v l hp hl=>?_⟩;have c5:=hp.nG.c5;obtain⟨v',w',F,hB,O⟩:=nH hp.buf (if f.fin then 9 else 8) (if f.fin then 9 else 8) (by cases f.fin<;>rfl) (by simp at hl;omega);have G:=hid hB;have I:=hid O;clear hB O hp hl;cases H:f.fin
 ·rw[H]at c5 F;go_enter func331,ntmps331
  go_wp2_with (at_builtin;refine nI _ rfl _ _ _ _ rfl _ _ rfl rfl _ _ (F _) ?_)
  go_ret;rw[H]at G;exact⟨v',rfl,G.out,I.out⟩
 ·rw[H]at c5 F;go_enter func331,ntmps331
  go_wp2_with (at_builtin;refine nI _ rfl _ _ _ _ rfl _ _ rfl rfl _ _ (F _) ?_)
  go_ret;rw[H]at G;exact⟨v',rfl,G.out,I.out⟩
theorem JZ{B0 B1:Nat}{w1:World}(b off:Nat)(f:Fr)(ra:Option Addr)(rc:Nat)(F:0<=f.stream)(H:f.stream<8):
  Wr B0 B1 w1 (.func (.func 327) #[] #[]) (Num.bytes f.stream.toNat) b off f ra rc:=by
 refine⟨327,_,rfl,enters_of func327 (by kernel_rfl) rfl,fun w v l hp hl=>?_⟩;have c1:=hp.nG.c1;have G:=bf v l f.stream.toNat w hp.buf (by omega) (by omega);obtain⟨s,hs⟩:=Int.eq_ofNat_of_zero_le F;rw[hs]at c1;rw[hs,Int.toNat_natCast]at G ⊢
 have X:(s:Int)<8:=by omega
 have O:=hid G;clear G hp hl hs F H;go_enter func327,ntmps327
 go_wp2_with fail
 refine O.out.mono ?_;rintro e w' ⟨v',rfl,hB,I⟩;have U:=hid hB;have V:=hid I;clear hB I;go_wp2;go_ret;exact⟨v',rfl,U.out,V.out⟩
theorem kR{B0 B1:Nat}{w1:World}(pb G i n:Nat)(b off:Nat)(f:Fr)(ra:Option Addr)(rc:Nat)(h0:B0<=pb)(h1:pb<B1)(V:w1.cell? ⟨pb,0,none⟩=some (.func (.func G) #[] #[]))(he:∀args w,(callFunc G args).run prog w=.ok (.enter G args) w)(F:∀w,Calls prog G #[.pointer (some ⟨b,off,none⟩)] w fun e w'=>e=.returned (.pointer (some ⟨b,off+i,none⟩))/\w'=w)(O:∀w,jN w b off f ra rc->w.cell? ⟨b,off+i,none⟩=some (.int .u64 n))(U:n<=aU):
  Wr B0 B1 w1 (.func (.func 329) #[] #[.pointer (some ⟨pb,0,none⟩)]) (Num.bytes n) b off f ra rc:=by
 refine⟨329,_,rfl,enters_of func329 (by kernel_rfl) rfl,fun w v l hp hl=>?_⟩;have cc:=hp.keep.cell h0 h1 V;have cn:=O w hp.nG;have X:=hid (bf v l n w hp.buf (by unfold aU at U;omega) (by omega));have HP:=hid (F w);clear F hp hl O U V;go_enter func329,ntmps329
 go_wp2_with fail
 refine HP.out.mono ?_;rintro e w' ⟨rfl,H⟩;subst H
 go_wp2_with fail
 refine X.out.mono ?_;rintro e w2 ⟨v',rfl,hB,I⟩;have Z:=hid hB;have HG:=hid I;clear hB I;go_wp2;go_ret;exact⟨v',rfl,Z.out,HG.out⟩
theorem vY{w:World}{v:Value}{l:List UInt8}(h:Buf w v l)(h7:0<l.length)(s:ByteArray)(hsz:l.length+s.size<=70368744177664):
  ∃v' w',(∀Z,(wz #[60,9] Z #[v,.string s]).run prog w=.ok v' w')/\Buf w' v' (l++s.data.toList)/\Gr w w' v v':=by
 obtain⟨i,hi,hz,hs,hb⟩:=info_parts info5
 have hS:Src prog i.size 9 (.string s) s.size (byteCells s) w:=by rw[hs];exact Src.ofString w u9 s
 have U:(byteCells s).length=s.size:=byteCells_length s;have H:byteCells s=aJ s.data.toList:=rfl
 have F:s.data.toList.length=s.size:=by rw[Array.length_toList];rfl
 rcases h with⟨_,rfl⟩|⟨g,cap,cs,rfl,hB,h2,h3,h4,h5,h6⟩
 ·simp at h7
 ·by_cases hr:l.length+s.size<=cap
  ·have G:=fun Z=>run_append_room_src (P:=prog) (w:=w) 60 9 Z 5 i u29 hi g 0 l.length cap _ s.size (byteCells s) hS hr (fun j V=>by rw[hB.cell,hs];simp;omega) (fun j _=>hB.frozen _)
   have X:=dR cs (byteCells s) (0+l.length*i.size) (by rw[hs];omega);rw[qG hB _ (by rw[hs];omega) (by rw[H];exact dB _)]at G;refine⟨_,_,G,.inr ⟨g,cap,_,by rw[jK,F],hB.put _,?_,by rw[jK,F];exact hr,h4,?_,aS h6 (by rw[H];exact dB _)⟩,aT w g _,fun k hk=>.inl hk⟩
   ·rw[aG _ _ _ (by rw[hs];omega),h2]
   ·rw[U,hs,Xw,Bu]at X;rw[jK,F,hs,Xw,Bu,X,fZ,h5,H]
  ·have hO:(qa2 i.size l.length (.slice (some ⟨g,0,none⟩) l.length cap)).run prog w.drew=.ok (aJ l).toArray w.drew:=by
    rw[hs]
    exact run_firstCells_some w.drew 1 l.length ⟨g,0,none⟩ l.length cap (aJ l) (by rw[aR,Xw]) (fun j u V=>by
     rw[M4,Bu];show w.cell? _=_;rw[hB.cell];rw[<-h5,Gl]at V;split at V
     ·exact V
     ·cases V)
   have G:=fun Z=>run_append_grow_src (P:=prog) (w:=w) 60 9 Z 5 i (.int .u8 0) u29 hi hz (some ⟨g,0,none⟩) l.length cap (aJ l) hO _ s.size (byteCells s) hS (by omega) (by omega) (by rw[hb];exact growslice_fits (by omega) (by omega))
   have h0:=grownCap_ge w (l.length+s.size) cap 5;have O:=grownCap_le_maxLen w (l.length+s.size) cap 5 (by unfold maxLen;omega);unfold maxLen at O
   have eB:((aJ l++byteCells s).toArray++tT (qa5 .u8 0).cells (grownCap w (l.length+s.size) cap 5-(l.length+s.size)))=(aJ l++byteCells s++(tT (qa5 .u8 0).cells (grownCap w (l.length+s.size) cap 5-(l.length+s.size))).toList).toArray:=by
    apply Array.ext';simp
   rw[eB]at G;refine⟨_,_,G,.inr ⟨w.heap.size,_,_,by rw[jK,F],ak.new w 5 _,?_,by rw[jK,F];exact h0,O,?_,?_⟩,bC (eH w _) (Si w.drew _ _),?_⟩
   ·rw[jK,jK,nZ,U,aR];omega
   ·rw[jK,F,KG (by rw[jK,aR];omega),tL (by rw[jK,aR];omega),fZ,H]
   ·intro u I
    rcases Kt.1 I with I|I
    ·rcases Kt.1 I with I|I
     ·exact dB l u I
     ·rw[H]at I;exact dB _ u I
    ·exact sI _ u I
   ·intro k hk;simp[DJ]at hk;exact .inr (by omega)
theorem Rx{B0 B1:Nat}{w1:World}(b off:Nat)(f:Fr)(ra:Option Addr)(rc:Nat):
  Wr B0 B1 w1 (.func (.func 333) #[] #[]) (Num.bytes f.data.size++f.data.data.toList) b off f ra rc:=by
 refine⟨333,_,rfl,enters_of func333 (by kernel_rfl) rfl,fun w v l hp hl=>?_⟩;have c8:=hp.nG.c8;have hd:=hp.nG.vX;have HA:=hid (bf v l f.data.size w hp.buf (by omega) (by omega));have G:=Num.dJ f.data.size
 have U:0<(Num.bytes f.data.size).length:=by rw[G];exact Nat.pow_pos (by decide)
 have h0:(Num.bytes f.data.size).length<=8:=by
  rw[G];have:=Num.Iz f.data.size;have:2 ^ Num.code f.data.size<=2 ^ 3:=R3 (by decide) this;omega
 have h2:f.data.data.toList.length=f.data.size:=by rw[Array.length_toList];rfl
 have O:=fun w' v' hB H=>(hp.next (w':=w') (v':=v') (l':=l++Num.bytes f.data.size) hB H).nG.c8
 have vZ:=hid O
 have X:=fun w' v' (hB:Buf w' v' (l++Num.bytes f.data.size))=>vY hB (by rw[jK];omega) f.data (by rw[jK]at hl ⊢;omega)
 have Z:=hid X;clear O X hp hl G U h0 h2;go_enter func333,ntmps333
 go_wp2_with fail
 refine HA.out.mono ?_;rintro e w2 ⟨v',rfl,hB,H⟩;have h3:=vZ.out w2 v' hB H;obtain⟨v3,w3,V,F,I⟩:=Z.out w2 v' hB;rw[uj]at F;have HB:=hid F;have HG:=hid (H.trans I);clear hB H F I
 go_wp2_with (at_builtin;refine nI _ rfl _ _ _ _ rfl _ _ rfl rfl _ _ (V _) ?_)
 go_ret;exact⟨v3,rfl,HB.out,HG.out⟩
def dZ(rs:List (Nat×Nat)):Nat->List UInt8
 |0=>[]
 |k+1=>dZ rs k++(Num.bytes ((rs.getD k (0,0)).1-(rs.getD (k+1) (0,0)).2-2)++Num.bytes ((rs.getD (k+1) (0,0)).2-(rs.getD (k+1) (0,0)).1))
def gT(rs:List (Nat×Nat)):List UInt8:=
 Num.bytes (rs.getD 0 (0,0)).2++(Num.bytes (rs.length-1)++Num.bytes ((rs.getD 0 (0,0)).2-(rs.getD 0 (0,0)).1))
def cO(rs:List (Nat×Nat)):List UInt8:=gT rs++dZ rs (rs.length-1)
theorem eF(n:Nat):(Num.bytes n).length<=8:=by
 rw[Num.dJ];have:2 ^ Num.code n<=2 ^ 3:=R3 (by decide) (Num.Iz n);omega
theorem CO(rs:List (Nat×Nat)):∀k,(dZ rs k).length<=16*k
 |0=>by simp[dZ]
 |k+1=>by
  have h:=CO rs k;have h1:=eF ((rs.getD k (0,0)).1-(rs.getD (k+1) (0,0)).2-2);have F:=eF ((rs.getD (k+1) (0,0)).2-(rs.getD (k+1) (0,0)).1);rw[dZ,jK,jK];omega
theorem Gr.cell{w w':World}{v v':Value}(h:Gr w w' v v'){k o:Nat}{x:Value}(G:w.cell? ⟨k,o,none⟩=some x)(F:v.ownBlock≠some k):w'.cell? ⟨k,o,none⟩=some x:=
 cell_of G (h.1.block k (mR _ _ G) (fun e=>F e.symm))
theorem IC{rs:List (Nat×Nat)}(h:lU rs=true):0<rs.length/\∀k,k<rs.length->(rs.getD k (0,0)).1<=(rs.getD k (0,0)).2/\(rs.getD k (0,0)).2<=aU/\(0<k->(rs.getD k (0,0)).2+1<(rs.getD (k-1) (0,0)).1):=by
 unfold lU at h;rw[ZE,List.all_eq_true]at h;refine⟨of_decide_eq_true h.2,fun k F=>?_⟩;have:=h.1 k (by simpa using F);unfold nD at this;rw[ZE,ZE,Bool.or_eq_true]at this;refine⟨of_decide_eq_true this.1.1,of_decide_eq_true this.1.2,fun G=>?_⟩
 rcases this.2 with e|e
 ·have:=of_decide_eq_true e;omega
 ·exact of_decide_eq_true e
theorem wh(rs:List (Nat×Nat)):∀(m k:Nat),k<=m->(dZ rs k).length<=(dZ rs m).length
 |0,k,h=>by
   obtain rfl:k=0:=by omega
   exact Vp _
 |m+1,k,h=>by
  by_cases e:k=m+1
  ·rw[e];exact Vp _
  ·have:=wh rs m k (by omega);rw[dZ,jK];omega
theorem M_{rs:List (Nat×Nat)}(F:∀k,k<rs.length->(rs.getD k (0,0)).1<=(rs.getD k (0,0)).2/\(rs.getD k (0,0)).2<=aU/\(0<k->(rs.getD k (0,0)).2+1<(rs.getD (k-1) (0,0)).1))(k:Nat)(U:k+1<rs.length):
  ∃ga gb:Nat,ga=(rs.getD k (0,0)).1-(rs.getD (k+1) (0,0)).2-2/\gb=(rs.getD (k+1) (0,0)).2-(rs.getD (k+1) (0,0)).1/\
   (((rs.getD k (0,0)).1:Nat):Int)-(((rs.getD (k+1) (0,0)).2:Nat):Int)=(((rs.getD k (0,0)).1-(rs.getD (k+1) (0,0)).2:Nat):Int)/\
   (((rs.getD k (0,0)).1-(rs.getD (k+1) (0,0)).2:Nat):Int)-2=(ga:Int)/\
   (((rs.getD (k+1) (0,0)).2:Nat):Int)-(((rs.getD (k+1) (0,0)).1:Nat):Int)=(gb:Int)/\ga<4611686018427387904/\gb<4611686018427387904/\IntKind.u64.wrap ((((rs.getD k (0,0)).1-(rs.getD (k+1) (0,0)).2:Nat)):Int)=((((rs.getD k (0,0)).1-(rs.getD (k+1) (0,0)).2:Nat)):Int)/\IntKind.u64.wrap (ga:Int)=(ga:Int)/\IntKind.u64.wrap (gb:Int)=(gb:Int):=by
 obtain⟨o1,G,H⟩:=F (k+1) (by omega);have I:=H (by omega);rw[Nat.add_sub_cancel]at I;obtain⟨V,O,_⟩:=F k (by omega);unfold aU at G O;exact⟨_,_,rfl,rfl,by omega,by omega,by omega,by omega,by omega,by rw[IntKind.wrap_u64];omega,by rw[IntKind.wrap_u64];omega,by rw[IntKind.wrap_u64];omega⟩
theorem J2{B0 B1:Nat}{w1:World}(b off:Nat)(f:Fr)(ra:Option Addr)(rc:Nat)(hR:lU f.ranges=true)(xx:f.ranges.length<=rc):
  Wr B0 B1 w1 (.func (.func 325) #[] #[]) (cO f.ranges) b off f ra rc:=by
 refine⟨325,_,rfl,enters_of func325 (by kernel_rfl) rfl,fun w v l hp hl=>?_⟩;obtain⟨hj,hv⟩:=IC hR;have xy:=hp.nG.rlen;have hf:=wh f.ranges (f.ranges.length-1)
 have xf:l.length+((gT f.ranges).length+(dZ f.ranges (f.ranges.length-1)).length)<=35184372088832:=by
  unfold cO at hl;rw[jK]at hl;exact hl
 obtain⟨rb,ro,ho,r1,r2,_,_⟩:=hp.nG.rng 0 hj;rw[Nat.zero_mul,Nat.add_zero]at r1 r2;have y6:rb<w.heap.size:=mR _ _ r1;have xl:=hp.nr _ ho;have c9:=hp.nG.c9;rw[ho]at c9;obtain⟨q1,q2,_⟩:=hv 0 hj;have xn:=hp.buf.lt;have xm:=hp.alloc (.cells #[.int .u64 ((f.ranges.getD 0 (0,0)).1:Int),.int .u64 ((f.ranges.getD 0 (0,0)).2:Int)] 170);have xd:(w.alloc (.cells #[.int .u64 ((f.ranges.getD 0 (0,0)).1:Int),.int .u64 ((f.ranges.getD 0 (0,0)).2:Int)] 170)).cell? ⟨w.heap.size,0,none⟩=some (.int .u64 ((f.ranges.getD 0 (0,0)).1:Int)):=(ak.new w 170 [.int .u64 ((f.ranges.getD 0 (0,0)).1:Int),.int .u64 ((f.ranges.getD 0 (0,0)).2:Int)]).cell 0;have xe:(w.alloc (.cells #[.int .u64 ((f.ranges.getD 0 (0,0)).1:Int),.int .u64 ((f.ranges.getD 0 (0,0)).2:Int)] 170)).cell? ⟨w.heap.size,1,none⟩=some (.int .u64 ((f.ranges.getD 0 (0,0)).2:Int)):=(ak.new w 170 [.int .u64 ((f.ranges.getD 0 (0,0)).1:Int),.int .u64 ((f.ranges.getD 0 (0,0)).2:Int)]).cell 1;have hc:Hid (gT f.ranges=Num.bytes (f.ranges.getD 0 (0,0)).2++(Num.bytes (f.ranges.length-1)++Num.bytes ((f.ranges.getD 0 (0,0)).2-(f.ranges.getD 0 (0,0)).1))):=rfl
 have xt:l.length+24<=35184372088832+24:=by omega
 have qB:=hid xm;have HK:=hid (And.intro xd xe);have x5:=hid xn;have h5:=hid xf;have zw:=hid hf;have hx:=hid hv;have x4:=hid ho;have h9:=hc;have FD:Hid (cO f.ranges=gT f.ranges++dZ f.ranges (f.ranges.length-1)):=rfl;have xp:=hid xl;have HP:=hid hp;generalize xj:(f.ranges.getD 0 (0,0)).1=Ry at *;generalize xr:(f.ranges.getD 0 (0,0)).2=O at *;have pI:=hid xj
 have g1:(1:Int)<=((f.ranges.length:Nat):Int):=by omega
 have g2:((f.ranges.length:Nat):Int)<=(rc:Int):=by omega
 clear hp xm xd xe xn xf hl hf hv hc hR ho xl xj xr xt;have y3:b<w.heap.size:=mR _ _ c9;obtain⟨d0,x8⟩:∃d0,d0=O-Ry:=⟨_,rfl⟩
 have ed:(O:Int)-(Ry:Int)=(d0:Int):=by omega
 have y7:d0<=O:=by omega
 have hy:=hid x8;have h2:=hid (bf v l O _ qB.out.buf (by unfold aU at q2;omega) (by have:=h5.out;omega))
 have x6:∀(x1:World) (v1:Value),Buf x1 v1 (l++Num.bytes O)->Gr (w.alloc (.cells #[.int .u64 Ry,.int .u64 O] 170)) x1 v v1->
   yR B0 B1 w1 x1 v1 (l++Num.bytes O) b off f ra rc/\x1.cell? ⟨w.heap.size,0,none⟩=some (.int .u64 Ry)/\x1.cell? ⟨w.heap.size,1,none⟩=some (.int .u64 O)/\v1.ownBlock≠some w.heap.size:=fun x1 v1 hB hG=>by
  have h7:v.ownBlock≠some w.heap.size:=fun e=>by have:=x5.out _ e;omega
  refine⟨qB.out.next hB hG,hG.cell HK.out.1 h7,hG.cell HK.out.2 h7,fun e=>?_⟩
  rcases hG.2 _ e with e'|e'
  ·exact h7 e'
  ·simp at e';omega
 have qI:=hid x6;clear x6 x8 HK qB x5 xp
 by_cases x7:rc=1
 ·have hn:f.ranges.length=1:=by omega
  subst x7
  have VR:Hid (gT f.ranges=Num.bytes O++(Num.bytes 0++Num.bytes (O-Ry))):=by rw[h9.out,hn];rfl
  have Rz:Hid (cO f.ranges=gT f.ranges):=by rw[FD.out,hn];exact CK _
  rw[hn]at c9;clear h9 FD g1 g2 xy hj xx hn zw hx x4;go_enter func325,ntmps325
  go_wp2_with fail
  refine h2.out.mono ?_;rintro e x1 ⟨v1,rfl,H,G⟩;obtain⟨h0,a0,a1,hg⟩:=qI.out x1 v1 H G;have Z:=hid (bf v1 _ 0 x1 H (by omega) (by have:=h5.out;rw[VR.out]at this;simp only[jK]at this ⊢;omega));have MK:=hid G;have pJ:=hid h0;have CP:=hid hg;clear H G h0 hg h2 qI
  go_wp2_with fail
  refine Z.out.mono ?_;rintro e x2 ⟨v2,rfl,U,F⟩;have b0:=F.cell a0 CP.out;have b1:=F.cell a1 CP.out;have X:=pJ.out.next U F
  have VT:v2.ownBlock≠some w.heap.size:=fun e=>by
   rcases F.2 _ e with e'|e'
   ·exact CP.out e'
   ·have:=mR _ _ a0;simp at this;omega
  have ML:=hid (bf v2 _ d0 x2 U (by unfold aU at q2;omega) (by have:=h5.out;rw[VR.out]at this;simp only[jK]at this ⊢;omega));have h3:=hid (MK.out.trans F);have sN:=hid X;have U9:=hid VT;clear U F X VT Z MK pJ CP a0 a1
  go_wp2_with fail
  refine ML.out.mono ?_;rintro e x3 ⟨v3,rfl,ha,V⟩;have d1:=V.cell b0 U9.out;have Na:=sN.out.next ha V;rw[uj,uj,hy.out,<-VR.out]at Na;have hu:=hid (h3.out.trans V);have Cu:=hid Na;clear ha V Na ML h3 sN U9 b0 b1
  go_wp2_with fail
  go_loopw [0,7,41] (fun s0 s7 hm wr=>hm=.int .i64 0/\s0=v3/\wr=x3) (fun _ _ _ _=>0)
  case atStart=>exact⟨rfl,rfl,rfl⟩
  case round=>
   obtain⟨rfl,rfl,rfl⟩:=hrel;have I:=Cu.out.buf;rw[<-Rz.out]at I;have HF:=hid I;clear I Cu;go_wp2;go_ret;exact⟨_,rfl,HF.out,hu.out.alloc _⟩
 ·have g3:¬(rc=1):=x7;go_enter func325,ntmps325
  go_wp2_with fail
  refine h2.out.mono ?_;rintro e x1 ⟨v1,rfl,H,G⟩;obtain⟨h0,a0,a1,hg⟩:=qI.out x1 v1 H G;have Z:=hid (bf v1 _ (f.ranges.length-1) x1 H (by omega) (by have:=h5.out;rw[h9.out]at this;simp only[jK]at this ⊢;omega));have MK:=hid G;have pJ:=hid h0;have CP:=hid hg;clear H G h0 hg h2 qI
  go_wp2_with fail
  refine Z.out.mono ?_;rintro e x2 ⟨v2,rfl,U,F⟩;have b0:=F.cell a0 CP.out;have b1:=F.cell a1 CP.out;have X:=pJ.out.next U F
  have VT:v2.ownBlock≠some w.heap.size:=fun e=>by
   rcases F.2 _ e with e'|e'
   ·exact CP.out e'
   ·have:=mR _ _ a0;simp at this;omega
  have ML:=hid (bf v2 _ d0 x2 U (by unfold aU at q2;omega) (by have:=h5.out;rw[h9.out]at this;simp only[jK]at this ⊢;omega));have h3:=hid (MK.out.trans F);have sN:=hid X;have U9:=hid VT;clear U F X VT Z MK pJ CP a0 a1
  go_wp2_with fail
  refine ML.out.mono ?_;rintro e x3 ⟨v3,rfl,ha,V⟩;have d1:=V.cell b0 U9.out;have Na:=sN.out.next ha V;rw[uj,uj,hy.out,<-h9.out]at Na;have hu:=hid (h3.out.trans V);have Cu:=hid Na;clear ha V Na ML h3 sN U9 b0 b1
  go_wp2_with fail
  go_loopw [0,7,41] (fun s0 s7 hm wr=>∃k:Nat,k<=f.ranges.length-1/\hm=.int .i64 k/\s7=.int .u64 ((f.ranges.getD k (0,0)).1:Nat)/\Hid (yR B0 B1 w1 wr s0 ((l++gT f.ranges)++dZ f.ranges k) b off f ra rc)/\Hid (Gr (w.alloc (.cells #[.int .u64 Ry,.int .u64 O] 170)) wr v s0)) (fun _ _ hm _=>f.ranges.length-1-(intOf hm).toNat)
  case atStart=>exact⟨0,qa6 _,rfl,by rw[pI.out],by rw[dZ,CK];exact Cu.out,hu.out⟩
  case round=>
   obtain⟨k,hk,rfl,rfl,IE,x0⟩:=hrel
   by_cases y4:k<f.ranges.length-1
   ·obtain⟨y8,y9,VU,t1,t2,z1,z2⟩:=IE.out.nG.rng (k+1) (by omega);rw[x4.out]at VU;simp at VU;obtain⟨rfl,rfl⟩:=VU;rw[show ro+(k+1)*2=ro+2+k*2 by omega]at t1 t2;obtain⟨ga,gb,x9,xa,e1,e2,e3,Xx,Xy,e4,e5,e6⟩:=M_ hx.out k (by omega);have h4:Hid (dZ f.ranges (k+1)=dZ f.ranges k++(Num.bytes ((f.ranges.getD k (0,0)).1-(f.ranges.getD (k+1) (0,0)).2-2)++Num.bytes ((f.ranges.getD (k+1) (0,0)).2-(f.ranges.getD (k+1) (0,0)).1))):=rfl;rw[<-x9,<-xa]at h4;have he:=zw.out (k+1) (by omega);rw[h4.out]at he;simp only[jK]at he;have xv:=h5.out;clear x9 xa;generalize (f.ranges.getD k (0,0)).1=y5 at e1 e2 e4 ⊢;generalize (f.ranges.getD (k+1) (0,0)).2=h6 at t2 z2 e1 e2 e3 e4;generalize hZ:(f.ranges.getD (k+1) (0,0)).1=h8 at t1 z1 e3;clear z1 z2;have hw:=IE.out.alloc (.cells #[.int .u64 h8,.int .u64 h6] 170);have n0:(wr.alloc (.cells #[.int .u64 h8,.int .u64 h6] 170)).cell? ⟨wr.heap.size,0,none⟩=some (.int .u64 h8):=(ak.new wr 170 [.int .u64 h8,.int .u64 h6]).cell 0;have n1:(wr.alloc (.cells #[.int .u64 h8,.int .u64 h6] 170)).cell? ⟨wr.heap.size,1,none⟩=some (.int .u64 h6):=(ak.new wr 170 [.int .u64 h8,.int .u64 h6]).cell 1
    have h7:u0.ownBlock≠some wr.heap.size:=fun e=>by have:=IE.out.buf.lt _ e;omega
    have h2:=hid (bf u0 _ ga _ hw.buf Xx (by simp only[jK];omega))
    have xi:(((l++gT f.ranges)++dZ f.ranges k)++Num.bytes ga).length<=35184372088832:=by simp only[jK];omega
    have xo:=hid xi;have YN:=hid Xy;have HW:=hid hw;have Xz:=hid (And.intro n0 (And.intro n1 h7));have HZ:=hid hZ
    have y0:(k:Int)<((f.ranges.length-1:Nat):Int):=by omega
    have xz:rb<wr.heap.size:=mR _ _ t1;clear hZ hw n0 n1 h7 xi Xy Xx he xv
    go_wp2_with fail
    refine h2.out.mono ?_;rintro e y1 ⟨s1,rfl,H,G⟩;obtain⟨m0,m1,hr⟩:=Xz.out;have p0:=G.cell m0 hr;have p1:=G.cell m1 hr;have h0:=HW.out.next H G;have Z:=hid (bf s1 _ gb y1 H YN.out xo.out);have MK:=hid (x0.out.trans (G.alloc _));have pJ:=hid h0
    have XA:s1.ownBlock≠some wr.heap.size:=fun e=>by
     rcases G.2 _ e with e'|e'
     ·exact hr e'
     ·simp at e';omega
    have YO:=hid XA;clear m0 m1 hr H G h0 h2 HW Xz XA
    go_wp2_with fail
    refine Z.out.mono ?_;rintro e y2 ⟨s2,rfl,U,F⟩;have p2:=F.cell p0 YO.out;have X:=pJ.out.next U F;rw[uj,uj,<-h4.out]at X;have h3:=hid (MK.out.trans F);have sN:=hid X;clear U F X Z MK pJ p0 p1
    go_wp2_with fail
    go_roundw
    case rel=>exact⟨k+1,by omega,by go_num,by rw[HZ.out],sN,h3⟩
    case measure=>simp[intOf];omega
   ·obtain rfl:k=f.ranges.length-1:=by omega
    have I:=IE.out.buf;rw[uj,<-FD.out]at I;have HF:=hid I;clear I IE;go_wp2;go_ret;exact⟨_,rfl,HF.out,x0.out.alloc _⟩
def aX(ps:List (List UInt8)):Nat->List UInt8
 |0=>[]
 |k+1=>aX ps k++ps.getD k []
theorem qJ(ps:List (List UInt8)):∀(m k:Nat),k<=m->(aX ps k).length<=(aX ps m).length
 |0,k,h=>by
   obtain rfl:k=0:=by omega
   exact Vp _
 |m+1,k,h=>by
  by_cases e:k=m+1
  ·rw[e];exact Vp _
  ·have:=qJ ps m k (by omega);rw[aX,jK];omega
theorem FE{B0 B1:Nat}{w1:World}(pb X F:Nat)(fw fr:Nat->Value)(ps:List (List UInt8))(b off:Nat)(f:Fr)(ra:Option Addr)(rc:Nat)(hn:F<=100)(h4:B0<=pb)(h5:pb<B1)(h7:B0<=X)(h8:X<B1)(h6:w1.cell? ⟨pb,0,none⟩=some (.slice (some ⟨X,0,none⟩) F F))(G:∀j,j<F->w1.cell? ⟨X,j*2,none⟩=some (fw j)/\w1.cell? ⟨X,j*2+1,none⟩=some (fr j))(h2:∀j,j<F->∃g cb,fr j=.func (.func g) #[] cb)(ha:∀j,j<F->Wr B0 B1 w1 (fw j) (ps.getD j []) b off f ra rc):
  Wr B0 B1 w1 (.func (.func 323) #[] #[.pointer (some ⟨pb,0,none⟩)]) (aX ps F) b off f ra rc:=by
 refine⟨323,_,rfl,enters_of func323 (by kernel_rfl) rfl,fun w v l hp hl=>?_⟩;have cp:=hp.keep.cell h4 h5 h6;have HP:=hid hp;have zw:=hid (qJ ps F);have HL:=hid hl;have HC:=hid G;have he:=hid h2;have U_:=hid ha;have HQ:=hid (And.intro h7 h8);clear hp hl G h2 ha h6 h4 h5 h7 h8;go_enter func323,ntmps323
 go_wp2_with fail
 go_loopw [0,10] (fun s0 V wr=>∃k:Nat,k<=F/\V=.int .i64 k/\Hid (yR B0 B1 w1 wr s0 (l++aX ps k) b off f ra rc)/\Hid (Gr w wr v s0)) (fun _ V _=>F-(intOf V).toNat)
 case atStart=>exact⟨0,qa6 _,rfl,by rw[aX,CK];exact HP.out,Gr.refl w v⟩
 case round=>
  obtain⟨k,hk,rfl,IE,h0⟩:=hrel
  by_cases O:k<F
  ·have hj:(k:Int)<(F:Int):=by omega
   obtain⟨q1,q2⟩:=HC.out k O;have t1:=IE.out.keep.cell HQ.out.1 HQ.out.2 q1;have t2:=IE.out.keep.cell HQ.out.1 HQ.out.2 q2;obtain⟨g,cb,h3,eg,hW⟩:=U_.out k O;obtain⟨g2,J3,H⟩:=he.out k O;rw[h3]at t1;rw[H]at t2;have hw:=IE.out.alloc (.cells #[.func (.func g) #[] cb,.func (.func g2) #[] J3] 318);have I:=zw.out (k+1) (by omega);have hg:=HL.out;have h9:Hid (aX ps (k+1)=aX ps k++ps.getD k []):=rfl;rw[h9.out,jK]at I;have hc:=hW _ _ _ hw (by rw[jK];omega);have Z:=hid hc;have HW:=hid hw;have hm:X<wr.heap.size:=mR _ _ t1;clear h3 H hw I hg hc hW q1 q2
   go_wp2_with fail
   refine Z.out.mono ?_;rintro e y ⟨s1,rfl,hB,hG⟩;have U:=HW.out.next hB hG;rw[uj,<-h9.out]at U;have pJ:=hid U;have hf:=hid (h0.out.trans (hG.alloc _));clear hB hG U Z HW
   go_wp2_with fail
   go_roundw
   case rel=>exact⟨k+1,by omega,by go_num,pJ,hf⟩
   case measure=>simp[intOf];omega
  ·obtain rfl:k=F:=by omega
   have HF:=hid IE.out.buf;clear IE;go_wp2;go_ret;exact⟨_,rfl,HF.out,h0.out⟩
structure Df (t e:TypeId) (z:Value) (k bytes:Nat):Prop where
 ht:prog.underlying t=some (.slice e)
 hi:(prog.info? e).map (fun i=>(i.zero,i.size,i.bytes))=some (some z,k,bytes)
 hz:∀n,(tT z.cells n).toList.length=n*k
 h1:∀n,∀v∈(tT z.cells n).toList,v.oneCell'=true
 hb:bytes<=104
def l6:Value:=.agg #[.int .i64 0,.int .i64 0,.int .u64 0,.int .u64 0,.int .u64 0,.bool false,.int .u64 0,.int .u64 0,.string ⟨#[]⟩,.slice none 0 0]
def V6:Value:=.agg #[.int .u64 0,.int .u64 0]
theorem FX:Df 63 170 V6 2 16:=⟨by kernel_rfl,by kernel_rfl,dA,eZ,by omega⟩
theorem A9:Df 54 65 l6 10 104:=⟨by kernel_rfl,by kernel_rfl,fun n=>by simp[l6,tT,qa0],fun n v F=>by
 simp[l6,tT,qa0]at F;obtain⟨i,_,rfl⟩:=F
 have:i % 10=0\/i % 10=1\/i % 10=2\/i % 10=3\/i % 10=4\/i % 10=5\/i % 10=6\/i % 10=7\/i % 10=8\/i % 10=9:=by omega
 rcases this with h|h|h|h|h|h|h|h|h|h<;>rw[h]<;>rfl,by omega⟩
def bn(e:TypeId)(k:Nat)(w:World)(v:Value)(n:Nat)(l:List Value):Prop:=
 v=.slice none 0 0/\n=0/\l=[]\/∃g cap cs,v=.slice (some ⟨g,0,none⟩) n cap/\ak w g e cs/\cs.length=cap*k/\n<=cap/\cap<=9223372036854775807/\l.length=n*k/\cs.take (n*k)=l/\∀v∈cs,v.oneCell'=true
theorem bn.len{e:TypeId}{k:Nat}{w:World}{v:Value}{n:Nat}{l:List Value}(h:bn e k w v n l):l.length=n*k:=by
 rcases h with⟨_,rfl,rfl⟩|⟨g,cap,cs,_,_,_,_,_,h,_⟩
 ·simp
 ·exact h
theorem bn.lt{e:TypeId}{k:Nat}{w:World}{v:Value}{n:Nat}{l:List Value}(h:bn e k w v n l):∀b,v.ownBlock=some b->b<w.heap.size:=by
 intro b hb
 rcases h with⟨rfl,_⟩|⟨g,cap,cs,rfl,hB,_⟩
 ·simp[DJ]at hb
 ·simp[DJ]at hb;subst hb;exact hB.lt
theorem bn.of_heap{e:TypeId}{k:Nat}{w w':World}{v:Value}{n:Nat}{l:List Value}(h:bn e k w v n l)(G:∀b,v.ownBlock=some b->w'.heap[b]?=w.heap[b]?):bn e k w' v n l:=by
 rcases h with h|⟨g,cap,cs,rfl,hB,F⟩
 ·exact .inl h
 ·exact .inr ⟨g,cap,cs,rfl,hB.of_heap (G g rfl),F⟩
theorem bn.nil(e:TypeId)(k:Nat)(w:World):bn e k w (.slice none 0 0) 0 []:=.inl ⟨rfl,rfl,rfl⟩
theorem bn.shape{e:TypeId}{k:Nat}{w:World}{v:Value}{n:Nat}{l:List Value}(h:bn e k w v n l):∃a c,v=.slice a n c/\n<=c:=by
 rcases h with⟨rfl,rfl,_⟩|⟨g,cap,cs,rfl,_,_,h,_⟩
 ·exact⟨_,_,rfl,Vp _⟩
 ·exact⟨_,_,rfl,h⟩
theorem bn.cell{e:TypeId}{k:Nat}{w:World}{v:Value}{n:Nat}{l:List Value}(h:bn e k w v n l){a:Option Addr}{c:Nat}(G:v=.slice a n c)(j:Nat)(x:Value)(F:l[j]?=some x):∃g,a=some ⟨g,0,none⟩/\w.cell? ⟨g,j,none⟩=some x/\w.frozen? ⟨g,j,none⟩=false:=by
 rcases h with⟨_,rfl,rfl⟩|⟨g,cap,cs,rfl,hB,_,_,_,h4,h5,_⟩
 ·simp at F
 ·simp at G;refine⟨g,G.1.symm,?_,hB.frozen j⟩;rw[hB.cell];rw[<-h5,Gl]at F;split at F
  ·exact F
  ·cases F
theorem dY{t e:TypeId}{z:Value}{k bytes:Nat}(E:Df t e z k bytes){w:World}{v:Value}{n:Nat}{l:List Value}(h:bn e k w v n l)(a:Addr)(m mc:Nat)(I:List Value)(hm:I.length=m*k)(h0:0<m)(h1:∀v∈I,v.oneCell'=true)(H:∀j u,I[j]?=some u->w.cell? (a.add j)=some u)(hsz:n+m<=1000000000000):
  ∃v' w',(∀U,(wz #[t,t] U #[v,.slice (some a) m mc]).run prog w=.ok v' w')/\bn e k w' v' (n+m) (l++I)/\Gr w w' v v':=by
 have V:(n+m)*bytes<=140737488355328:=qa3 (Nat.mul_le_mul hsz E.hb) (by decide);have ha:=h.len;have hk:(n+m)*k=n*k+m*k:=Nat.add_mul _ _ _
 have grow:∀base c (cs:List Value),cs=l->c<n+m->(base=none/\cs=[]\/∃b:Addr,base=some b/\cs.length=n*k/\∀j v,cs[j]?=some v->w.cell? (b.add j)=some v)->(∀v∈cs,v.oneCell'=true)->∃v' w',(∀U,(wz #[t,t] U #[.slice base n c,.slice (some a) m mc]).run prog w=.ok v' w')/\bn e k w' v' (n+m) (l++I)/\Gr w w' (.slice base n c) v':=by
  intro base c cs X hr hold Z
  have O:=fun U=>eX (P:=prog) (w:=w) t t U e _ k bytes E.ht E.ht E.hi (base:=base) (n:=n) (c:=c) (m:=m) (mc:=mc) (cs:=cs) hold a (vs:=I) hm H h1 hr V (by omega)
  have h8:=grownCap_ge w (n+m) c e;have G:=grownCap_le_maxLen w (n+m) c e (by unfold maxLen;omega);unfold maxLen at G
  have h9:cs.length=n*k:=by rw[X,ha]
  refine⟨_,_,O,.inr ⟨w.heap.size,_,_,rfl,ak.new w e _,?_,h8,G,by rw[jK];omega,?_,?_⟩,bC (eH w _) (Si w.drew _ _),?_⟩
  ·rw[jK,jK,E.hz,h9,hm]
   have:(grownCap w (n+m) c e-(n+m))*k+(n+m)*k=grownCap w (n+m) c e*k:=by rw[<-Nat.add_mul];congr 1;omega
   omega
  ·rw[KG (by rw[jK];omega),tL (by rw[jK];omega),X]
  ·intro u F
   rcases Kt.1 F with F|F
   ·rcases Kt.1 F with F|F
    ·exact Z u F
    ·exact h1 u F
   ·exact E.h1 _ u F
  ·intro b hb;simp[DJ]at hb;exact .inr (by omega)
 rcases h with⟨rfl,rfl,rfl⟩|⟨g,cap,cs,rfl,hB,h2,h3,h4,h5,h6,h7⟩
 ·exact grow none 0 [] rfl (by omega) (.inl ⟨rfl,rfl⟩) (fun v hv=>by simp at hv)
 ·by_cases hr:n+m<=cap
  ·have he:(n+m)*k<=cap*k:=Nat.mul_le_mul_right _ hr
   have O:=fun U=>bS (P:=prog) (w:=w) t t U e _ k bytes E.ht E.ht E.hi (n:=n) (c:=cap) (m:=m) (mc:=mc) hB a (vs:=I) hm H h1 hr (by omega)
   have hc:=dR cs I (n*k) (by omega);refine⟨_,_,O,.inr ⟨g,cap,_,rfl,hB.put _,?_,hr,h4,by rw[jK];omega,?_,aS h7 h1⟩,aT w g _,fun b hb=>.inl hb⟩
   ·rw[aG _ _ _ (by omega),h2]
   ·rw[hk,<-hm,hc,h6]
  ·exact grow (some ⟨g,0,none⟩) cap l rfl (by omega) (.inr ⟨_,rfl,h5,fun j u hj=>by
    rw[M4,Bu,hB.cell];rw[<-h6,Gl]at hj;split at hj
    ·exact hj
    ·cases hj⟩) (fun u F=>h7 u (by rw[<-h6]at F;exact List.mem_of_mem_take F))
theorem vo{t e:TypeId}{z:Value}{k bytes:Nat}(E:Df t e z k bytes)(w:World)(a:Option Addr)(c:Nat)(H:TypeId):
  (wz #[t,t] H #[.slice none 0 0,.slice a 0 c]).run prog w=.ok (.slice none 0 0) w:=by
 obtain⟨i,hi,hz,hs,_⟩:=info_parts E.hi
 have F:(qa2 i.size 0 (.slice a 0 c)).run prog w=.ok #[] w:=by
  cases a with
  |none=>exact run_firstCells_none w i.size 0 0 c
  |some b=>exact run_firstCells_some w i.size 0 b 0 c [] (by simp) (fun j v G=>by simp at G)
 simp[wz,run_underlying E.ht,sizeOf,typeInfo,hi,Builtin.lenOf,F]
end Go.Proofs.YtphbledmopchnaaGreatDoor
