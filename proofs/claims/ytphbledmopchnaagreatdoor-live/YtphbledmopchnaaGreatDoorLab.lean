import Derived.Test.YtphbledmopchnaaGreatDoorLaa
import Derived.Shelf.Abstract
import Derived.Laws.EntriesVeiled
import Derived.Deep.Upon
import Derived.LaidEql
import Derived.RowKitTokens
import Derived.Stop.Asserts
open Go.Addr renaming add_lit->qy
open Go.RowKit.Below renaming heap_alloc->o8,refl->CZ
open Bool renaming and_eq_true->qx,eq_iff_iff->Bf
open Go.Builtin renaming zeroCells->mE,append_->mR,firstCells->uj,max_->Bu
open Go.Lib renaming wpList_append_run->j3
open List renaming length_append->eB,take_of_length_le->lg,append_assoc->mI,append_nil->nI,getElem?_take->nU,mem_append->nV,take_append_of_le_length->og,take_zero->sF
open Nat renaming zero_add->mY,le_refl->nA,pow_le_pow_right->qA,mul_one->tK,pow_mul->tL,le_trans->wz,lt_of_lt_of_le->xB,zero_le->yP,add_comm->Cr
open Go.RowKit renaming intOf->mK
open Go.Value renaming ownBlock->nP,cells->tO,int->xQ
open Go.World renaming block_lt_of_cell?->eT,grownBy_alloc->rX
set_option maxHeartbeats 1000000
set_option maxRecDepth 1000000
namespace Go.Proofs.YtphbledmopchnaaGreatDoor
open Go.RowKit Go.Lib Mm Tryz
theorem u29:prog.underlying 60=some (.slice 5):=bH
theorem u9:prog.underlying 9=some .string:=bH
theorem IE:(prog.info? 5).map (fun i=>(i.zero,i.size,i.bytes))=some (some (.int .u8 0),1,1):=bH
def cB(l:List UInt8):bO:=l.map fun b=>.int .u8 ((b.toNat:Nat):Int)
theorem dM(l:List UInt8):(cB l).length=l.length:=by simp[cB]
theorem jG(a b:List UInt8):cB (a++b)=cB a++cB b:=by simp[cB]
theorem gY(l:List UInt8):∀v∈cB l,v.oneCell'=true:=by intro v a;obtain⟨_,_,rfl⟩:=List.mem_map.1 a;rfl
theorem uG(n:Nat):(mE (xQ .u8 0).cells n).toList.length=n:=by simp[mE,tO]
theorem yJ(n:Nat):∀v∈(mE (xQ .u8 0).cells n).toList,v.oneCell'=true:=by intro v a;simp[mE,tO]at a;obtain⟨i,_,rfl⟩:=a;have:i % 1=0:=aj;rw[this];rfl
def kL(w:World)(v:Value)(l:List UInt8):Prop:=
 v=nZ/\l=[]\/∃g cap cs,v=(dP g l.length cap)/\aS w g 5 cs/\cs.length=cap/\l.length<=cap/\cap<=9223372036854775807/\cs.take l.length=cB l/\∀v∈cs,v.oneCell'=true
def Gr(w w':World)(v v':Value):Prop:=w.grownBy w' v.ownBlock/\∀k,v'.ownBlock=some k->v.ownBlock=some k\/w.heap.size<=k
theorem Gr.refl(w:World)(v:Value):Gr w w v v:=⟨Lm w _,fun _ h=>.inl h⟩
theorem Gr.trans{a b c:World}{u v x:Value}(h:Gr a b u v)(k:Gr b c v x):Gr a c u x:=
 ⟨⟨k.1.os.trans h.1.os,k.1.tape.trans h.1.tape,k.1.output.trans h.1.output,wz h.1.size k.1.size,fun i hi d=>(k.1.block i (xB hi h.1.size) (fun e=>by
   rcases h.2 i e.symm with e'|e';·exact d e'.symm
   ·omega)).trans (h.1.block i hi d)⟩,fun i hi=>by
  have gQ:=h.1.size;rcases k.2 i hi with e|e;·exact h.2 i e
  ·exact .inr aj⟩
theorem Gr.alloc{w w':World}{v v':Value}(o:Obj)(h:Gr (w.alloc o) w' v v'):Gr w w' v v':=
 ⟨⟨h.1.os,h.1.tape,h.1.output,by have:=h.1.size;simp at this;omega,fun i hi a=>by rw[h.1.block i (by simp;omega) a,o8 _ _ _ hi]⟩,fun i hi=>by
  rcases h.2 i hi with e|e;·exact .inl e
  ·simp at e;exact .inr aj⟩
theorem kL.lt{w:World}{v:Value}{l:List UInt8}(h:kL w v l):∀k,v.ownBlock=some k->k<w.heap.size:=by
 intro k a;rcases h with⟨rfl,_⟩|⟨g,cap,cs,rfl,hB,_⟩;·simp[nP]at a
 ·simp[nP]at a;subst a;exact hB.lt
theorem kL.of_heap{w w':World}{v:Value}{l:List UInt8}(h:kL w v l)(e:∀k,v.ownBlock=some k->w'.heap[k]?=w.heap[k]?):kL w' v l:=by
 rcases h with h|⟨g,cap,cs,rfl,hB,a⟩;·exact .inl h
 ·exact .inr ⟨g,cap,cs,rfl,hB.of_heap (e g rfl),a⟩
theorem kL.alloc{w:World}{v:Value}{l:List UInt8}(h:kL w v l)(o:Obj):kL (w.alloc o) v l:=h.of_heap (fun k a=>o8 w o k (h.lt k a))
theorem kL.nil(w:World):kL w nZ []:=.inl ⟨rfl,rfl⟩
theorem kM{w:World}{v:Value}{l:List UInt8}(h:kL w v l)(a:Addr)(m mc:Nat)(d:List UInt8)(q:d.length=m)(D:0<m)(i:∀j u,(cB d)[j]?=some u->w.cell? (a.add j)=some u)(gQ:l.length+m<=70368744177664):∃v' w',(∀r,(mR #[60,60] r #[v,.slice (some a) m mc]).run prog w=.ok v' w')/\kL w' v' (l++d)/\Gr w w' v v':=by
 have s:=dM d;have grow:∀base n c (cs:bO),n=l.length->cs=cB l->c<n+m->(base=none/\cs=[]\/∃b:Addr,base=some b/\cs.length=n*1/\∀j v,cs[j]?=some v->w.cell? (b.add j)=some v)->∃v' w',(∀r,(mR #[60,60] r #[.slice base n c,.slice (some a) m mc]).run prog w=.ok v' w')/\kL w' v' (l++d)/\Gr w w' (.slice base n c) v':=by
  intro base n c cs B p y hold;have o:=fun r=>jd (P:=prog) (w:=w) 60 60 r 5 _ 1 1 u29 u29 IE (base:=base) (n:=n) (c:=c) (m:=m) (mc:=mc) (cs:=cs) hold a (vs:=cB d) aj i (gY d) y aj aj;have z:=grownCap_ge w (n+m) c 5;have f:=grownCap_le_maxLen w (n+m) c 5 (by unfold maxLen;omega);unfold maxLen at f;have C:cs.length=n:=by rw[p,dM,B]
  refine⟨_,_,o,.inr ⟨w.heap.size,_,_,by rw[eB,q,<-B],aS.new w 5 _,?_,by rw[eB,q,<-B];exact z,f,?_,?_⟩,eY (iV w _) (rX w.drew _ _),?_⟩;·rw[eB,eB,uG,s];omega
  ·rw[eB,q,jG,og (by rw[eB];omega),lg (by rw[eB];omega),p]
  ·intro u e;rcases nV.1 e with e|e
   ·rcases nV.1 e with e|e;·rw[p]at e;exact gY l u e
    ·exact gY d u e
   ·exact yJ _ u e
  ·intro k A;simp[nP]at A;exact .inr aj
 rcases h with⟨rfl,rfl⟩|⟨g,cap,cs,rfl,hB,h2,h3,h4,h5,h6⟩;·exact grow none 0 0 [] rfl rfl aj (.inl ⟨rfl,rfl⟩)
 ·by_cases y:l.length+m<=cap
  ·have o:=fun r=>fZ (P:=prog) (w:=w) 60 60 r 5 _ 1 1 u29 u29 IE (n:=l.length) (c:=cap) (m:=m) (mc:=mc) hB a (vs:=cB d) aj i (gY d) y aj;have t:=iH cs (cB d) (l.length*1) aj;refine⟨_,_,o,.inr ⟨g,cap,_,by rw[eB,q],hB.put _,?_,by rw[eB,q];exact y,h4,?_,dR h6 (gY d)⟩,dU w g _,fun k A=>.inl A⟩;·rw[bY _ _ _ aj,h2]
   ·rw[s,q,tK]at t;rw[eB,q,tK,t,jG,h5]
  ·exact grow (some (aB g 0)) l.length cap (cB l) rfl rfl aj (.inr ⟨_,rfl,by rw[dM];omega,fun j u x=>by
    rw[qy,mY,hB.cell];rw[<-h5,nU]at x;split at x;·exact x
    ·cases x⟩)
theorem yK(n c k:Nat)(h:n<2 ^ k):n|||(c*2 ^ k)=n+c*2 ^ k:=by rw[Nat.or_comm,Nat.mul_comm,<-Nat.two_pow_add_eq_or_of_lt h,Cr]
theorem Td:∀(K N j m:Nat),K=j+m+1->(Num.be K N).take (j+1)=(Num.be K N).take j++[UInt8.ofNat (N / 256 ^ m % 256)]
 |0,_,_,_,h=>aj
 |K+1,N,0,m,h=>by obtain rfl:K=m:=aj;simp[Num.be]
 |K+1,N,j+1,m,h=>by have:=Td K N j m aj;simp[Num.be,this]
theorem uH{w wr:World}{v s0:Value}{l:List UInt8}{K N j m:Nat}(g:K=j+m+1)(hB:kL wr s0 (l++(Num.be K N).take j))(f:Gr w wr v s0)(hl:l.length<=35184372088832)(n:K<=8)(c:Int)(h:c=((N / 256 ^ m % 256:Nat):Int)):∃v' w',(∀k,(mR #[60,60] k #[s0,dP wr.heap.size 1 1]).run prog (wr.alloc (.cells #[.int .u8 c] 5))=.ok v' w')/\kL w' v' (l++(Num.be K N).take (j+1))/\Gr w w' v v':=by
 have b:(l++(Num.be K N).take j).length<=l.length+8:=by simp[Num.je];omega
 obtain⟨v',w',h1,d,e⟩:=kM (hB.alloc (.cells #[.int .u8 c] 5)) (aB wr.heap.size 0) 1 1 [UInt8.ofNat (N / 256 ^ m % 256)] rfl aj (fun i u a=>by
  match i,a with
  |0,a=>simp[cB]at a;rw[qy,mY,(aS.new wr 5 [.int .u8 c]).cell,<-a,h];simp
  |i+1,a=>simp[cB]at a) aj
 refine⟨v',w',h1,?_,f.trans (e.alloc _)⟩;rw[Td K N j m g,<-mI];exact d
theorem eU(v:Value)(l:List UInt8)(n:Nat)(w:World)(hb:kL w v l)(X:n<4611686018427387904)(hl:l.length<=35184372088832):Calls prog 211 #[v,uZ n] w fun e w'=>∃v',e=.returned v'/\kL w' v' (l++Num.ay n)/\Gr w w' v v':=by
 have J:=Bq n w;have V:=aG J;clear J;have p:Hid (Num.ay n=Num.be (2 ^ Num.code n) (n+Num.code n*2 ^ (8*2 ^ Num.code n-2))):=rfl;have W:Num.code n=0/\n<64\/Num.code n=1/\n<16384\/Num.code n=2/\n<1073741824\/Num.code n=3:=by unfold Num.code;split<;>(try split)<;>(try split)<;>omega
 have K:=aG hb;clear hb;go_enter func211,ntmps211;go_wp2_with fail;refine bN V.out ?_;rintro w1 U;subst U;rcases W with⟨z,q⟩|⟨z,q⟩|⟨z,q⟩|z
 ·have A:bits .or .u64 (n:Int) 0=((n+0:Nat):Int):=by
   have:=u64_or_nat n 0 aj aj;rw[show(0:Nat)=0*2 ^ 6 from rfl,yK n 0 6 q]at this;exact this
  have c:Num.ay n=Num.be 1 (n+0):=by rw[p.out,z]
  rw[z];obtain⟨N,H⟩:=bZ (n+0);rw[<-H]at A c;have r:=aG c;clear H p q z c;go_wp2_with fail;go_loopw [0,6] (fun s0 C wr=>∃j m t:Nat,1=j+m/\C=(iZ t)/\Hid (t=8*m)/\Hid (kL wr s0 (l++(Num.be 1 N).take j))/\Hid (Gr w1 wr v s0)) (fun _ C _=>(mK C).toNat);case atStart=>exact⟨0,1,8,rfl,rfl,rfl,by rw[sF,nI];exact K.out,Gr.refl w1 v⟩
  case round=>
   obtain⟨j,m,t,a,rfl,u,o,x⟩:=hrel;cases m with
   |zero=>
    have B:t=0:=u.out;subst B;have I:Hid (kL wr u0 (l++Num.ay n)):=by have:=o.out;rw[lg (by rw[Num.je];omega),<-r.out]at this;exact this
    clear o a;go_wp2;go_ret;exact⟨_,rfl,I.out,x.out⟩
   |succ m=>
    have ht:t=8*m+8:=bV u.out;obtain⟨b,d⟩:=bZ (8*m);have L:(t:Int)-8=(b:Int):=aj;have R:(0:Int)<(t:Int):=aj;have S:(b:Int)<64:=aj;have T:(t:Int)<=64:=aj;have M:min b 64=b:=aj;obtain⟨Q,y⟩:=bZ (N / 256 ^ m);obtain⟨cc,h⟩:=bZ (Q % 256);have i:2 ^ b=256 ^ m:=by rw[d,tL]
    have O:(N:Int) / 2 ^ b=(Q:Int):=by rw[y,<-i];simp
    have P:(Q:Int) % 256=(cc:Int):=aj;obtain⟨v',w',k,f,g⟩:=uH (w:=w1) (v:=v) (l:=l) (N:=N) (m:=m) a o.out x.out hl aj (cc:Int) (by rw[h,y]);have E:=aG f;have F:=aG g;have G:=aG d;have s:=aG (show b<t by omega);have D:=aG a;clear a ht d y h i f g o x u;go_wp2_with (at_builtin;refine j3 _ rfl _ _ _ _ rfl _ _ rfl rfl _ _ (k _) ?_);go_roundw;case rel=>first|exact⟨j+1,m,b,bV D.out,rfl,G,E,F⟩|((repeat apply Exists.intro);exact⟨⟨j+1,m,b,bV D.out,rfl,G,E,F⟩,rfl⟩)
    case measure=>simp[mK];exact s.out
 ·have A:bits .or .u64 (n:Int) 16384=((n+16384:Nat):Int):=by
   have:=u64_or_nat n 16384 aj aj;rw[show(16384:Nat)=1*2 ^ 14 from rfl,yK n 1 14 q]at this;exact this
  have c:Num.ay n=Num.be 2 (n+16384):=by rw[p.out,z]
  rw[z];obtain⟨N,H⟩:=bZ (n+16384);rw[<-H]at A c;have r:=aG c;clear H p q z c;go_wp2_with fail;go_loopw [0,6] (fun s0 C wr=>∃j m t:Nat,2=j+m/\C=(iZ t)/\Hid (t=8*m)/\Hid (kL wr s0 (l++(Num.be 2 N).take j))/\Hid (Gr w1 wr v s0)) (fun _ C _=>(mK C).toNat);case atStart=>exact⟨0,2,16,rfl,rfl,rfl,by rw[sF,nI];exact K.out,Gr.refl w1 v⟩
  case round=>
   obtain⟨j,m,t,a,rfl,u,o,x⟩:=hrel;cases m with
   |zero=>
    have B:t=0:=u.out;subst B;have I:Hid (kL wr u0 (l++Num.ay n)):=by have:=o.out;rw[lg (by rw[Num.je];omega),<-r.out]at this;exact this
    clear o a;go_wp2;go_ret;exact⟨_,rfl,I.out,x.out⟩
   |succ m=>
    have ht:t=8*m+8:=bV u.out;obtain⟨b,d⟩:=bZ (8*m);have L:(t:Int)-8=(b:Int):=aj;have R:(0:Int)<(t:Int):=aj;have S:(b:Int)<64:=aj;have T:(t:Int)<=64:=aj;have M:min b 64=b:=aj;obtain⟨Q,y⟩:=bZ (N / 256 ^ m);obtain⟨cc,h⟩:=bZ (Q % 256);have i:2 ^ b=256 ^ m:=by rw[d,tL]
    have O:(N:Int) / 2 ^ b=(Q:Int):=by rw[y,<-i];simp
    have P:(Q:Int) % 256=(cc:Int):=aj;obtain⟨v',w',k,f,g⟩:=uH (w:=w1) (v:=v) (l:=l) (N:=N) (m:=m) a o.out x.out hl aj (cc:Int) (by rw[h,y]);have E:=aG f;have F:=aG g;have G:=aG d;have s:=aG (show b<t by omega);have D:=aG a;clear a ht d y h i f g o x u;go_wp2_with (at_builtin;refine j3 _ rfl _ _ _ _ rfl _ _ rfl rfl _ _ (k _) ?_);go_roundw;case rel=>first|exact⟨j+1,m,b,bV D.out,rfl,G,E,F⟩|((repeat apply Exists.intro);exact⟨⟨j+1,m,b,bV D.out,rfl,G,E,F⟩,rfl⟩)
    case measure=>simp[mK];exact s.out
 ·have A:bits .or .u64 (n:Int) 2147483648=((n+2147483648:Nat):Int):=by
   have:=u64_or_nat n 2147483648 aj aj;rw[show(2147483648:Nat)=2*2 ^ 30 from rfl,yK n 2 30 q]at this;exact this
  have c:Num.ay n=Num.be 4 (n+2147483648):=by rw[p.out,z]
  rw[z];obtain⟨N,H⟩:=bZ (n+2147483648);rw[<-H]at A c;have r:=aG c;clear H p q z c;go_wp2_with fail;go_loopw [0,6] (fun s0 C wr=>∃j m t:Nat,4=j+m/\C=(iZ t)/\Hid (t=8*m)/\Hid (kL wr s0 (l++(Num.be 4 N).take j))/\Hid (Gr w1 wr v s0)) (fun _ C _=>(mK C).toNat);case atStart=>exact⟨0,4,32,rfl,rfl,rfl,by rw[sF,nI];exact K.out,Gr.refl w1 v⟩
  case round=>
   obtain⟨j,m,t,a,rfl,u,o,x⟩:=hrel;cases m with
   |zero=>
    have B:t=0:=u.out;subst B;have I:Hid (kL wr u0 (l++Num.ay n)):=by have:=o.out;rw[lg (by rw[Num.je];omega),<-r.out]at this;exact this
    clear o a;go_wp2;go_ret;exact⟨_,rfl,I.out,x.out⟩
   |succ m=>
    have ht:t=8*m+8:=bV u.out;obtain⟨b,d⟩:=bZ (8*m);have L:(t:Int)-8=(b:Int):=aj;have R:(0:Int)<(t:Int):=aj;have S:(b:Int)<64:=aj;have T:(t:Int)<=64:=aj;have M:min b 64=b:=aj;obtain⟨Q,y⟩:=bZ (N / 256 ^ m);obtain⟨cc,h⟩:=bZ (Q % 256);have i:2 ^ b=256 ^ m:=by rw[d,tL]
    have O:(N:Int) / 2 ^ b=(Q:Int):=by rw[y,<-i];simp
    have P:(Q:Int) % 256=(cc:Int):=aj;obtain⟨v',w',k,f,g⟩:=uH (w:=w1) (v:=v) (l:=l) (N:=N) (m:=m) a o.out x.out hl aj (cc:Int) (by rw[h,y]);have E:=aG f;have F:=aG g;have G:=aG d;have s:=aG (show b<t by omega);have D:=aG a;clear a ht d y h i f g o x u;go_wp2_with (at_builtin;refine j3 _ rfl _ _ _ _ rfl _ _ rfl rfl _ _ (k _) ?_);go_roundw;case rel=>first|exact⟨j+1,m,b,bV D.out,rfl,G,E,F⟩|((repeat apply Exists.intro);exact⟨⟨j+1,m,b,bV D.out,rfl,G,E,F⟩,rfl⟩)
    case measure=>simp[mK];exact s.out
 ·have A:bits .or .u64 (n:Int) 13835058055282163712=((n+13835058055282163712:Nat):Int):=by
   have:=u64_or_nat n 13835058055282163712 aj aj;rw[show(13835058055282163712:Nat)=3*2 ^ 62 from rfl,yK n 3 62 X]at this;exact this
  have c:Num.ay n=Num.be 8 (n+13835058055282163712):=by rw[p.out,z]
  rw[z];obtain⟨N,H⟩:=bZ (n+13835058055282163712);rw[<-H]at A c;have r:=aG c;clear H p z c;go_wp2_with fail;go_loopw [0,6] (fun s0 C wr=>∃j m t:Nat,8=j+m/\C=(iZ t)/\Hid (t=8*m)/\Hid (kL wr s0 (l++(Num.be 8 N).take j))/\Hid (Gr w1 wr v s0)) (fun _ C _=>(mK C).toNat);case atStart=>exact⟨0,8,64,rfl,rfl,rfl,by rw[sF,nI];exact K.out,Gr.refl w1 v⟩
  case round=>
   obtain⟨j,m,t,a,rfl,u,o,x⟩:=hrel;cases m with
   |zero=>
    have B:t=0:=u.out;subst B;have I:Hid (kL wr u0 (l++Num.ay n)):=by have:=o.out;rw[lg (by rw[Num.je];omega),<-r.out]at this;exact this
    clear o a;go_wp2;go_ret;exact⟨_,rfl,I.out,x.out⟩
   |succ m=>
    have ht:t=8*m+8:=bV u.out;obtain⟨b,d⟩:=bZ (8*m);have L:(t:Int)-8=(b:Int):=aj;have R:(0:Int)<(t:Int):=aj;have S:(b:Int)<64:=aj;have T:(t:Int)<=64:=aj;have M:min b 64=b:=aj;obtain⟨Q,y⟩:=bZ (N / 256 ^ m);obtain⟨cc,h⟩:=bZ (Q % 256);have i:2 ^ b=256 ^ m:=by rw[d,tL]
    have O:(N:Int) / 2 ^ b=(Q:Int):=by rw[y,<-i];simp
    have P:(Q:Int) % 256=(cc:Int):=aj;obtain⟨v',w',k,f,g⟩:=uH (w:=w1) (v:=v) (l:=l) (N:=N) (m:=m) a o.out x.out hl aj (cc:Int) (by rw[h,y]);have E:=aG f;have F:=aG g;have G:=aG d;have s:=aG (show b<t by omega);have D:=aG a;clear a ht d y h i f g o x u;go_wp2_with (at_builtin;refine j3 _ rfl _ _ _ _ rfl _ _ rfl rfl _ _ (k _) ?_);go_roundw;case rel=>first|exact⟨j+1,m,b,bV D.out,rfl,G,E,F⟩|((repeat apply Exists.intro);exact⟨⟨j+1,m,b,bV D.out,rfl,G,E,F⟩,rfl⟩)
    case measure=>simp[mK];exact s.out
theorem kL.ay{w:World}{v:Value}{l:List UInt8}(h:kL w v l):∃a c,v=.slice a l.length c/\dV w a l:=by
 rcases h with⟨rfl,rfl⟩|⟨g,cap,cs,rfl,hB,h2,h3,h4,h5,h6⟩;·exact⟨none,0,rfl,fun j b=>by simp at b⟩
 ·refine⟨_,cap,rfl,fun j b=>⟨g,0,rfl,?_⟩⟩;rw[hB.cell,mY];have:(cs.take l.length)[j]?=(cB l)[j]?:=by rw[h5]
  rw[nU,bK b]at this;rw[this];simp[cB,b]
def iK(l:List UInt8):List UInt8:=Num.be 4 (Crc.sum l)
theorem BL(l:List UInt8)(a b c d:Nat)(h1:a=Crc.sum l / 16777216 % 256)(e:b=Crc.sum l / 65536 % 256)(f:c=Crc.sum l / 256 % 256)(g:d=Crc.sum l % 256):cB (iK l)=[.int .u8 a,.int .u8 b,.int .u8 c,.int .u8 d]:=by subst h1;subst e;subst f;subst g;simp[iK,Num.be,cB]
theorem D9(v:Value)(l:List UInt8)(w:World)(hb:kL w v l)(ht:j4 w)(hl:l.length<=1000000000):Calls prog 220 #[v] w fun e w'=>∃v',e=.returned v'/\kL w' v' (l++iK l)/\Gr w w' v v':=by obtain⟨a,c,x,f⟩:=hb.ay;have hs:=NM a l c w hl f ht;rw[<-x]at hs;have r:=Crc.sum_lt l;obtain⟨j,h1⟩:=bZ (Crc.sum l / 16777216 % 256);obtain⟨k,o⟩:=bZ (Crc.sum l / 65536 % 256);obtain⟨m,p⟩:=bZ (Crc.sum l / 256 % 256);obtain⟨n,q⟩:=bZ (Crc.sum l % 256);have h:=BL l j k m n h1 o p q;obtain⟨v',w',g,b,d⟩:=kM (hb.alloc (.cells #[.int .u8 j,.int .u8 k,.int .u8 m,.int .u8 n] 5)) (aB w.heap.size 0) 4 4 (iK l) (Num.je 4 _) aj (fun i u t=>by rw[h]at t;rw[qy,mY,(aS.new w 5 [.int .u8 j,.int .u8 k,.int .u8 m,.int .u8 n]).cell];exact t) aj;generalize Crc.sum l=S at hs r h1 o p q;have B:(S:Int) / 16777216=(j:Int):=aj;have C:(S:Int) / 65536 % 256=(k:Int):=aj;have D:(S:Int) / 256 % 256=(m:Int):=aj;have E:(S:Int) % 256=(n:Int):=aj;have y:=aG hs;have z:=aG b;have A:=aG (d.alloc _);clear h1 o p q hs h b d hb ht f x;go_enter func220,ntmps220;go_wp2_with fail;refine bN y.out ?_;rintro w1 s;subst s;go_wp2_with (at_builtin;refine j3 _ rfl _ _ _ _ rfl _ _ rfl rfl _ _ (g _) ?_);go_ret;exact⟨v',rfl,z.out,A.out⟩
theorem dV.cut{w:World}{a:Option Addr}{l:List UInt8}(h:dV w a l)(n:Nat):dV w a (l.take n):=fun j e=>by obtain⟨b,off,c,d⟩:=h j (by simp at e;omega);exact⟨b,off,c,by rw[d];simp⟩
theorem qao{x:Value}{a b:Bool}(h:a=b):Ending.returned (.tuple #[x,.bool a])=.returned (.tuple #[x,.bool b]):=by rw[h]
theorem I5(a:Nat)(l:List UInt8)(x:UInt8):Num.val a (l++[x])=Num.val a l*256+x.toNat:=by unfold Num.val;rw[List.foldl_append];rfl
theorem yS:∀(l:List UInt8) (a k:Nat),a<256 ^ k->Num.val a l<256 ^ (k+l.length)
 |[],a,k,h=>by simpa[Num.val]using h
 |x::t,a,k,h=>by have b:=Crc.mX x;have:=yS t (a*256+x.toNat) (k+1) (by rw[Nat.pow_succ];omega);rw[List.length_cons,show k+(t.length+1)=k+1+t.length by omega];exact this
theorem qap(T X:Nat)(b:T<16777216)(a:X<256):bits .or .u32 ((T:Int)*256) (X:Int)=((T*256+X:Nat):Int):=by have h:=u32_or_nat (T*256) X aj aj;rw[Nat.or_comm,yK X T 8 a,Cr]at h;rw[<-h];simp
theorem LJ(b off:Nat)(body a:List UInt8)(c:Nat)(w:World)(hl:body.length<=1000000000)(o:a.length=4)(L:body.length+4<=c)(hb:dV w (some (aB b off)) (body++a))(ht:j4 w):Calls prog 115 #[.slice (some (aB b off)) (body.length+4) c] w fun e w'=>e=.returned (.tuple #[.slice (some (aB b off)) body.length c,.bool (decide (Num.val 0 a=Crc.sum body))])/\∃q,w'=w.drewN q:=by
 have g:dV w (some (aB b off)) body:=by have:=hb.cut body.length;rwa[List.take_left']at this;rfl
 have hs:=fun q=>NM (some (aB b off)) body c (w.drewN q) hl g ht;have m:∀k,k<4->w.cell? (aB b (off+body.length+k))=some (.int .u8 (((a.getD k 0).toNat:Nat):Int)):=fun k p=>by obtain⟨K,C,A,v⟩:=hb (body.length+k) (by simp;omega);simp at A;obtain⟨rfl,rfl⟩:=A;rw[Nat.add_assoc,v];simp[p,o]
 have l:∀k,k<4->Num.val 0 (a.take (k+1))=Num.val 0 (a.take k)*256+(a.getD k 0).toNat/\Num.val 0 (a.take k)<16777216:=fun k p=>by
  refine⟨?_,?_⟩;·rw[List.take_succ_eq_append_getElem aj,I5];simp[p,o]
  ·have:=yS (a.take k) 0 0 iO;have y:(a.take k).length=k:=by simp;omega
   rw[y,mY]at this;exact xB this (by have:(256:Nat) ^ k<=256 ^ 3:=qA iO aj;omega)
 have s:=aG l;have t:Hid (Num.val 0 (a.take 4)=Num.val 0 a):=by rw[lg aj];rfl
 clear l;have E:=aG hs;have F:=aG m;have D:=aG o;have i1:(0:Int)<=(body.length:Int):=aj;generalize body.length=n at *
 have i2:(n:Int)<=(n:Int)+4:=aj;have i3:¬(c=n):=aj;clear hs m hb g ht o D;go_enter func115,ntmps115;go_wp2_with fail;go_loop [5,17] (fun H u=>∃k:Nat,k<=4/\u=(iZ k)/\H=.int .u32 (Num.val 0 (a.take k):Nat)) (fun _ u=>4-(mK u).toNat)
 case atStart=>exact⟨0,yP _,rfl,rfl⟩
 case round=>
  obtain⟨k,p,rfl,rfl⟩:=hrel;by_cases i:k<4
  ·have B:(k:Int)<4:=aj;have x:=F.out k i;obtain⟨d,j⟩:=s.out k i;have z:=Crc.mX (a.getD k 0);generalize (a.getD k 0).toNat=X at x d z;generalize Num.val 0 (a.take k)=T at d j;have G:=qap T X j z;obtain⟨J,f⟩:=bZ (T*256+X);rw[<-f]at G d;have I:=aG d;clear d f;go_wp2;go_round
   case rel=>exact⟨k+1,aj,by go_num,by rw[I.out]⟩
   case measure=>simp[mK];omega
  ·obtain rfl:k=4:=aj;rw[t.out];have h:(((Num.val 0 a:Nat):Int)==((Crc.sum body:Nat):Int))=decide (Num.val 0 a=Crc.sum body):=by rw[Bf,beq_iff_eq,decide_eq_true_iff];omega
   have r:=aG h;clear h;have M:(n:Int)<=(c:Int):=aj;go_wp2_with fail;go_quiet ((go_at_call 159;exact Calls.quiet_of_same (E.out _)));go_wp2;go_ret2;exact⟨qao r.out,nq,rfl⟩
structure Fr where
 aC:Int
 aH:Int
 aD:Nat
 aV:Nat
 aL:Nat
 bn:Bool
 id:Nat
 aW:Nat
 data:ByteArray
 ranges:bW
structure nX (w:World) (b off:Nat) (f:Fr) (ra:Option Addr) (rc:Nat):Prop where
 c0:w.cell? (aB b off)=some (iZ f.aC)
 c1:w.cell? (aB b (off+1))=some (iZ f.aH)
 c2:w.cell? (aB b (off+2))=some (uZ f.aD)
 c3:w.cell? (aB b (off+3))=some (uZ f.aV)
 c4:w.cell? (aB b (off+4))=some (uZ f.aL)
 c5:w.cell? (aB b (off+5))=some (.bool f.bn)
 c6:w.cell? (aB b (off+6))=some (uZ f.id)
 c7:w.cell? (aB b (off+7))=some (uZ f.aW)
 c8:w.cell? (aB b (off+8))=some (.string f.data)
 c9:w.cell? (aB b (off+9))=some (.slice ra f.ranges.length rc)
 rT:jg w ra f.ranges
 Bv:f.ranges.length<=1000000000
 Bw:f.data.size<=1000000000
 k0: -9223372036854775808<=f.aC/\f.aC<=9223372036854775807
 s0: -9223372036854775808<=f.aH/\f.aH<=9223372036854775807
 u0:f.aD<18446744073709551616/\f.aV<18446744073709551616/\f.aL<18446744073709551616/\f.id<18446744073709551616/\f.aW<18446744073709551616
theorem nX.below{w w':World}{b off:Nat}{f:Fr}{ra:Option Addr}{rc:Nat}(h:nX w b off f ra rc)(hb:bJ w w'):nX w' b off f ra rc:=by have hl:=eT _ _ h.c0;have e:∀o,w'.cell? (aB b o)=w.cell? (aB b o):=fun o=>hb.cell (p:=(aB b o)) hl;exact⟨by rw[e,h.c0],by rw[e,h.c1],by rw[e,h.c2],by rw[e,h.c3],by rw[e,h.c4],by rw[e,h.c5],by rw[e,h.c6],by rw[e,h.c7],by rw[e,h.c8],by rw[e,h.c9],h.rT.below hb,h.Bv,h.Bw,h.k0,h.s0,h.u0⟩
theorem nX.drewN{w:World}{b off:Nat}{f:Fr}{ra:Option Addr}{rc:Nat}(h:nX w b off f ra rc)(q:Nat):nX (w.drewN q) b off f ra rc:=h.below ⟨rfl,rfl,rfl,nA _,fun _ _=>rfl⟩
def pQ(f:Fr):Bool:=decide (f.aD<=dK)&&decide (f.aV<=dK)&&decide (f.aL<=dK)&&decide (f.id<=dK)&&decide (f.aW<=dK)
def l7(f:Fr):Bool:=
 if f.aC=2 then qp f.ranges else if f.aC=3 then decide (f.aV<=f.aD)else if f.aC=4 then decide (f.data.size+f.aD<=dK)else true
def snd(f:Fr):Bool:=decide (1<=f.aC/\f.aC<=8)&&pQ f&&decide (0<=f.aH/\f.aH<8)&&l7 f
theorem qfm(a b c d e:Nat):∃f:Nat,(∀g t w,(Bu g t #[uZ a,uZ b,uZ c,uZ d,uZ e]).run prog w=.ok (uZ f) w)/\∀B,f<=B↔a<=B/\b<=B/\c<=B/\d<=B/\e<=B:=by
 refine⟨max (max (max (max a b) c) d) e,fun g t w=>?_,fun B=>by simp only[Nat.max_le,and_assoc]⟩;simp only[Bu,List.foldlM_cons,List.foldlM_nil,Builtin.max2];simp only[Sem.run_bind,Sem.run_pure,Result.andThen_ok];congr 2
 split<;>(try split)<;>(try split)<;>(try split)<;>omega
theorem yM(b off:Nat)(f:Fr)(ra:Option Addr)(rc:Nat)(w:World)(h:nX w b off f ra rc):Calls prog 286 #[aI b off] w fun e w'=>e=.returned (.bool (pQ f))/\∃q,w'=w.drewN q:=by
 have l:Hid (pQ f=(decide (f.aD<=dK)&&decide (f.aV<=dK)&&decide (f.aL<=dK)&&decide (f.id<=dK)&&decide (f.aW<=dK))):=rfl;have c2:=h.c2;have c3:=h.c3;have c4:=h.c4;have c6:=h.c6;have c7:=h.c7;obtain⟨u1,u2,u3,u4,u5⟩:=h.u0;obtain⟨o,n,c⟩:=qfm f.aD f.aV f.aL f.id f.aW;have m:Hid (pQ f=decide ((o:Int)<=4611686018427387903)):=by
  rw[l.out,Bf];have:=c 4611686018427387903;simp only[qx];constructor;·rintro⟨⟨⟨⟨d,g⟩,i⟩,j⟩,k⟩;have:=this.2 ⟨of_decide_eq_true d,of_decide_eq_true g,of_decide_eq_true i,of_decide_eq_true j,of_decide_eq_true k⟩;exact decide_eq_true aj
  ·intro a;have p:=of_decide_eq_true a;obtain⟨d,g,i,j,k⟩:=this.1 aj;exact⟨⟨⟨⟨decide_eq_true d,decide_eq_true g⟩,decide_eq_true i⟩,decide_eq_true j⟩,decide_eq_true k⟩
 clear h l c;go_enter func286,ntmps286;go_wp2_with fail;go_quiet (fail);go_wp2;go_ret;exact⟨dI m.out.symm,nq,rfl⟩
theorem wR(b off:Nat)(f:Fr)(ra:Option Addr)(rc:Nat)(w:World)(h:nX w b off f ra rc)(k:f.aD<=dK):Calls prog 288 #[aI b off] w fun e w'=>e=.returned (.bool (l7 f))/\bJ w w':=by
 have c:Hid (l7 f=if f.aC=2 then qp f.ranges else if f.aC=3 then decide (f.aV<=f.aD)else if f.aC=4 then decide (f.data.size+f.aD<=dK)else true):=rfl;have l:=Aq ra f.ranges rc w h.Bv h.rT;have j:=aG l;clear l;have c0:=h.c0;have c2:=h.c2;have c3:=h.c3;have c8:=h.c8;have c9:=h.c9;have hd:=h.Bw;obtain⟨u1,u2,u3,u4,u5⟩:=h.u0;clear h;by_cases a:f.aC=2
 ·have g:Hid (l7 f=qp f.ranges):=by rw[c.out,bK a];rfl
  have o:(f.aC==2)=true:=by simp[a]
  clear c a;go_enter func288,ntmps288;go_wp2_with fail;refine bN j.out ?_;rintro w' hb;have m:=aG hb;clear hb;go_wp2;go_ret;exact⟨dI g.out.symm,m.out⟩
 ·have o:(f.aC==2)=false:=by simp[a]
  by_cases d:f.aC=3
  ·have g:Hid (l7 f=decide (f.aV<=f.aD)):=by rw[c.out,aU a,bK d];rfl
   have p:(f.aC==3)=true:=by simp[d]
   clear c a d j;go_enter func288,ntmps288;go_wp2_with fail;go_quiet (fail);go_wp2;go_ret;exact⟨dI (by rw[g.out,decide_eq_decide]),rfl,rfl,rfl,nA _,fun _ _=>rfl⟩
  ·have p:(f.aC==3)=false:=by simp[d]
   by_cases i:f.aC=4
   ·have g:Hid (l7 f=decide (f.data.size+f.aD<=dK)):=by rw[c.out,aU a,aU d,bK i];rfl
    have q:(f.aC==4)=true:=by simp[i]
    have r:IntKind.u64.wrap (4611686018427387903-(f.aD:Int))=4611686018427387903-(f.aD:Int):=by rw[IntKind.wrap_u64];unfold dK at k;omega
    have s:IntKind.u64.wrap ((f.data.size:Nat):Int)=((f.data.size:Nat):Int):=by rw[IntKind.wrap_u64];omega
    have n:=aG k;clear c a d i j k;go_enter func288,ntmps288;go_wp2_with fail;go_quiet (fail);go_wp2;go_ret;exact⟨dI (by rw[g.out,decide_eq_decide];have:=n.out;unfold dK at *;omega),rfl,rfl,rfl,nA _,fun _ _=>rfl⟩
   ·have g:Hid (l7 f=true):=by rw[c.out,aU a,aU d,aU i];rfl
    have q:(f.aC==4)=false:=by simp[i]
    clear c a d i j;go_enter func288,ntmps288;go_wp2;go_ret;exact⟨dI g.out.symm,CZ _ _⟩
theorem sQ(b off:Nat)(f:Fr)(ra:Option Addr)(rc:Nat)(w:World)(h:nX w b off f ra rc):Calls prog 218 #[aI b off] w fun e w'=>e=.returned (.bool (snd f))/\bJ w w':=by
 have c:Hid (snd f=(decide (1<=f.aC/\f.aC<=8)&&pQ f&&decide (0<=f.aH/\f.aH<8)&&l7 f)):=rfl;have c0:=h.c0;have c1:=h.c1;have m:=aG (fun r=>Br f.aC r);have s:=aG (fun r=>FT f.aH r);have i:=aG (yM b off f ra rc w h);have t:=aG (fun q n=>wR b off f ra rc (w.drewN q) (h.drewN q) n);have l:pQ f=true->f.aD<=dK:=fun p=>by unfold pQ at p;simp only[qx,decide_eq_true_eq]at p;exact p.1.1.1.1
 have k:=aG l;clear h l;generalize decide (1<=f.aC/\f.aC<=8)=B1 at *
 generalize pQ f=v at *
 generalize decide (0<=f.aH/\f.aH<8)=x at *
 generalize l7 f=y at *
 cases B1
 ·have d:Hid (snd f=false):=by rw[c.out];rfl
  clear c;go_enter func218,ntmps218;go_wp2_with fail;refine bN (m.out _) ?_;rintro w1 a;subst a;go_wp2;go_ret;exact⟨dI d.out.symm,CZ _ _⟩
 ·cases v
  ·have d:Hid (snd f=false):=by rw[c.out];rfl
   clear c;go_enter func218,ntmps218;go_wp2_with fail;refine bN (m.out _) ?_;rintro w1 a;subst a;go_wp2_with fail;refine bN i.out ?_;rintro u ⟨q,rfl⟩;go_wp2;go_ret;exact⟨dI d.out.symm,rfl,rfl,rfl,nA _,fun _ _=>rfl⟩
  ·cases x
   ·have d:Hid (snd f=false):=by rw[c.out];rfl
    clear c;go_enter func218,ntmps218;go_wp2_with fail;refine bN (m.out _) ?_;rintro w1 a;subst a;go_wp2_with fail;refine bN i.out ?_;rintro u ⟨q,rfl⟩;go_wp2_with fail;refine bN (s.out _) ?_;rintro z g;subst g;go_wp2;go_ret;exact⟨dI d.out.symm,rfl,rfl,rfl,nA _,fun _ _=>rfl⟩
   ·have d:Hid (snd f=y):=by rw[c.out];rfl
    have n:=k.out rfl;have o:=aG (fun q=>t.out q n);clear c k t n;go_enter func218,ntmps218;go_wp2_with fail;refine bN (m.out _) ?_;rintro w1 a;subst a;go_wp2_with fail;refine bN i.out ?_;rintro u ⟨q,rfl⟩;go_wp2_with fail;refine bN (s.out _) ?_;rintro z g;subst g;go_wp2_with fail;refine bN (o.out q) ?_;rintro A hb;have j:=aG hb;clear hb;go_wp2;go_ret;exact⟨dI d.out.symm,j.out.os,j.out.tape,j.out.output,j.out.size,j.out.block⟩
end Go.Proofs.YtphbledmopchnaaGreatDoor
namespace Go.Proofs.YtphbledmopchnaaGreatDoor
open Go.RowKit Go.Lib Go.Shelf Mm Tryz
def D6(B0 B1:Nat)(w1 w:World):Prop:=B1<=w.heap.size/\∀k,B0<=k->k<B1->w.heap[k]?=w1.heap[k]?
structure D7 (B0 B1:Nat) (w1 w:World) (v:Value) (l:List UInt8) (b off:Nat) (f:Fr) (ra:Option Addr) (rc:Nat):Prop where
 yN:D6 B0 B1 w1 w
 buf:kL w v l
 out:∀k,v.ownBlock=some k->k<B0\/B1<=k
 sS:nX w b off f ra rc
 nb:v.ownBlock≠some b
 nr:∀x,ra=some x->v.ownBlock≠some x.block
 rl:∀x,ra=some x->x.block<w.heap.size
theorem cell_of{w w':World}{a:Addr}{v:Value}(h:w.cell? a=some v)(e:w'.heap[a.block]?=w.heap[a.block]?):w'.cell? a=some v:=by rw[World.cell?_of_block e];exact h
theorem jg.of{w w':World}{a:Option Addr}{rs:bW}(h:jg w a rs)(e:∀x:Addr,a=some x->x.block<w.heap.size->w'.heap[x.block]?=w.heap[x.block]?):jg w' a rs:=fun j i=>by obtain⟨b,off,d,h1,f,g⟩:=h j i;have hl:=eT _ _ h1;have c:=e _ d hl;exact⟨b,off,d,cell_of h1 c,cell_of f c,g⟩
theorem nX.of{w w':World}{b off:Nat}{f:Fr}{ra:Option Addr}{rc:Nat}(h:nX w b off f ra rc)(e:w'.heap[b]?=w.heap[b]?)(er:∀x:Addr,ra=some x->x.block<w.heap.size->w'.heap[x.block]?=w.heap[x.block]?):nX w' b off f ra rc:=
 ⟨cell_of h.c0 e,cell_of h.c1 e,cell_of h.c2 e,cell_of h.c3 e,cell_of h.c4 e,cell_of h.c5 e,cell_of h.c6 e,cell_of h.c7 e,cell_of h.c8 e,cell_of h.c9 e,h.rT.of er,h.Bv,h.Bw,h.k0,h.s0,h.u0⟩
theorem D7.next{B0 B1:Nat}{w1 w w':World}{v v':Value}{l l':List UInt8}{b off:Nat}{f:Fr}{ra:Option Addr}{rc:Nat}(h:D7 B0 B1 w1 w v l b off f ra rc)(hB:kL w' v' l')(a:Gr w w' v v'):D7 B0 B1 w1 w' v' l' b off f ra rc:=by
 have d:=eT _ _ h.sS.c0;have gQ:=a.1.size;have j:=h.yN.1;refine⟨⟨wz j gQ,fun k i h1=>(a.1.block k aj (fun e=>by rcases h.out k e.symm with e'|e'<;>omega)).trans (h.yN.2 k i h1)⟩,hB,?_,?_,?_,?_,fun x c=>bV (h.rl x c)⟩
 ·intro k g;rcases a.2 k g with e|e;·exact h.out k e
  ·exact .inr aj
 ·exact h.sS.of (a.1.block b d (fun e=>h.nb e.symm)) (fun x c hl=>a.1.block _ hl (fun e=>h.nr x c e.symm))
 ·intro e;rcases a.2 b e with e'|e';·exact h.nb e'
  ·have m:b<w.heap.size:=d;omega
 ·intro x c e;have hl:=h.rl x c;rcases a.2 _ e with e'|e';·exact h.nr x c e'
  ·omega
theorem D7.alloc{B0 B1:Nat}{w1 w:World}{v:Value}{l:List UInt8}{b off:Nat}{f:Fr}{ra:Option Addr}{rc:Nat}(h:D7 B0 B1 w1 w v l b off f ra rc)(o:Obj):D7 B0 B1 w1 (w.alloc o) v l b off f ra rc:=by have a:=eT _ _ h.sS.c0;have e:=h.yN.1;exact⟨⟨by simp;omega,fun k c h1=>(o8 w o k aj).trans (h.yN.2 k c h1)⟩,h.buf.alloc o,h.out,h.sS.of (o8 w o b a) (fun x _ hl=>o8 w o _ hl),h.nb,h.nr,fun x d=>by have:=h.rl x d;simp;omega⟩
def Wr(B0 B1:Nat)(w1:World)(fv:Value)(sp:List UInt8)(b off:Nat)(f:Fr)(ra:Option Addr)(rc:Nat):Prop:=
 ∃g cb,fv=.func (.func g) #[] cb/\(∀args w,(callFunc g args).run prog w=.ok (.enter g args) w)/\∀w v l,D7 B0 B1 w1 w v l b off f ra rc->l.length+sp.length<=35184372088832->Calls prog g (#[v,aI b off]++cb) w fun e w'=>∃v',e=.returned v'/\kL w' v' (l++sp)/\Gr w w' v v'
theorem D6.cell{B0 B1:Nat}{w1 w:World}(h:D6 B0 B1 w1 w){k o:Nat}{v:Value}(a:B0<=k)(h1:k<B1)(b:w1.cell? (aB k o)=some v):w.cell? (aB k o)=some v:=cell_of b (h.2 k a h1)
theorem sU{w:World}{v:Value}{l:List UInt8}(h:kL w v l)(x:UInt8)(c:Int)(e:c=((x.toNat:Nat):Int))(hl:l.length<=35184372088832):∃v' w',(∀f,(mR #[60,60] f #[v,dP w.heap.size 1 1]).run prog (w.alloc (.cells #[.int .u8 c] 5))=.ok v' w')/\kL w' v' (l++[x])/\Gr w w' v v':=by
 obtain⟨v',w',h1,b,d⟩:=kM (h.alloc (.cells #[.int .u8 c] 5)) (aB w.heap.size 0) 1 1 [x] rfl aj (fun i u a=>by
  match i,a with
  |0,a=>simp[cB]at a;rw[qy,mY,(aS.new w 5 [.int .u8 c]).cell,<-a,e];rfl
  |i+1,a=>simp[cB]at a) aj
 exact⟨v',w',h1,b,d.alloc _⟩
theorem Tf{B0 B1:Nat}{w1:World}(xb:Nat)(x:UInt8)(b off:Nat)(f:Fr)(ra:Option Addr)(rc:Nat)(h:B0<=xb)(h1:xb<B1)(d:w1.cell? (aB xb 0)=some (.int .u8 ((x.toNat:Nat):Int))):Wr B0 B1 w1 (.func (.func 321) #[] #[aI xb 0]) [x] b off f ra rc:=by refine⟨321,_,rfl,enters_of func321 bH rfl,fun w v l hp hl=>?_⟩;have i:=hp.yN.cell h h1 d;obtain⟨v',w',a,hB,c⟩:=sU hp.buf x ((x.toNat:Nat):Int) rfl (by simp at hl;omega);have e:=aG hB;have g:=aG c;generalize ((x.toNat:Nat):Int)=X at i a;clear hB c hp hl d;go_enter func321,ntmps321;go_wp2_with (at_builtin;refine j3 _ rfl _ _ _ _ rfl _ _ rfl rfl _ _ (a _) ?_);go_ret;exact⟨v',rfl,e.out,g.out⟩
theorem FW{B0 B1:Nat}{w1:World}(b off:Nat)(f:Fr)(ra:Option Addr)(rc:Nat):Wr B0 B1 w1 (.func (.func 331) #[] #[]) [if f.bn then 9 else 8] b off f ra rc:=by
 refine⟨331,_,rfl,enters_of func331 bH rfl,fun w v l hp hl=>?_⟩;have c5:=hp.sS.c5;obtain⟨v',w',a,hB,g⟩:=sU hp.buf (if f.bn then 9 else 8) (if f.bn then 9 else 8) (by cases f.bn<;>rfl) (by simp at hl;omega);have c:=aG hB;have e:=aG g;clear hB g hp hl;cases d:f.bn;·rw[d]at c5 a;go_enter func331,ntmps331;go_wp2_with (at_builtin;refine j3 _ rfl _ _ _ _ rfl _ _ rfl rfl _ _ (a _) ?_);go_ret;rw[d]at c;exact⟨v',rfl,c.out,e.out⟩
 ·rw[d]at c5 a;go_enter func331,ntmps331;go_wp2_with (at_builtin;refine j3 _ rfl _ _ _ _ rfl _ _ rfl rfl _ _ (a _) ?_);go_ret;rw[d]at c;exact⟨v',rfl,c.out,e.out⟩
theorem Pm{B0 B1:Nat}{w1:World}(b off:Nat)(f:Fr)(ra:Option Addr)(rc:Nat)(a:0<=f.aH)(d:f.aH<8):Wr B0 B1 w1 (.func (.func 327) #[] #[]) (Num.ay f.aH.toNat) b off f ra rc:=by refine⟨327,_,rfl,enters_of func327 bH rfl,fun w v l hp hl=>?_⟩;have c1:=hp.sS.c1;have c:=eU v l f.aH.toNat w hp.buf aj aj;obtain⟨s,hs⟩:=Int.eq_ofNat_of_zero_le a;rw[hs]at c1;rw[hs,Int.toNat_natCast]at c ⊢;have k:(s:Int)<8:=aj;have h:=aG c;clear c hp hl hs a d;go_enter func327,ntmps327;go_wp2_with fail;refine h.out.mono ?_;rintro e w' ⟨v',rfl,hB,g⟩;have i:=aG hB;have j:=aG g;clear hB g;go_wp2;go_ret;exact⟨v',rfl,i.out,j.out⟩
theorem qw{B0 B1:Nat}{w1:World}(pb c i n:Nat)(b off:Nat)(f:Fr)(ra:Option Addr)(rc:Nat)(r:B0<=pb)(h1:pb<B1)(k:w1.cell? (aB pb 0)=some (.func (.func c) #[] #[]))(s:∀args w,(callFunc c args).run prog w=.ok (.enter c args) w)(a:∀w,Calls prog c #[aI b off] w fun e w'=>e=.returned (aI b (off+i))/\w'=w)(h:∀w,nX w b off f ra rc->w.cell? (aB b (off+i))=some (uZ n))(j:n<=dK):Wr B0 B1 w1 (.func (.func 329) #[] #[aI pb 0]) (Num.ay n) b off f ra rc:=by refine⟨329,_,rfl,enters_of func329 bH rfl,fun w v l hp hl=>?_⟩;have cc:=hp.yN.cell r h1 k;have cn:=h w hp.sS;have m:=aG (eU v l n w hp.buf (by unfold dK at j;omega) aj);have q:=aG (a w);clear a hp hl h j k;go_enter func329,ntmps329;go_wp2_with fail;refine bN q.out ?_;rintro w' d;subst d;go_wp2_with fail;refine m.out.mono ?_;rintro e t ⟨v',rfl,hB,g⟩;have o:=aG hB;have p:=aG g;clear hB g;go_wp2;go_ret;exact⟨v',rfl,o.out,p.out⟩
theorem Bz{w:World}{v:Value}{l:List UInt8}(h:kL w v l)(r:0<l.length)(s:ByteArray)(gQ:l.length+s.size<=70368744177664):∃v' w',(∀o,(mR #[60,9] o #[v,.string s]).run prog w=.ok v' w')/\kL w' v' (l++s.data.toList)/\Gr w w' v v':=by
 obtain⟨i,hi,hz,hs,hb⟩:=info_parts IE;have t:Src prog i.size 9 (.string s) s.size (byteCells s) w:=by rw[hs];exact Src.ofString w u9 s
 have f:(byteCells s).length=s.size:=byteCells_length s;have c:byteCells s=cB s.data.toList:=rfl;have a:s.data.toList.length=s.size:=by rw[Array.length_toList];rfl
 rcases h with⟨_,rfl⟩|⟨g,cap,cs,rfl,hB,h2,h3,h4,h5,h6⟩;·simp at r
 ·by_cases x:l.length+s.size<=cap
  ·have b:=fun o=>run_append_room_src (P:=prog) (w:=w) 60 9 o 5 i u29 hi g 0 l.length cap _ s.size (byteCells s) t x (fun j m=>by rw[hB.cell,hs];simp;omega) (fun j _=>hB.frozen _);have n:=iH cs (byteCells s) (0+l.length*i.size) (by rw[hs];omega);rw[wQ hB _ (by rw[hs];omega) (by rw[c];exact gY _)]at b;refine⟨_,_,b,.inr ⟨g,cap,_,by rw[eB,a],hB.put _,?_,by rw[eB,a];exact x,h4,?_,dR h6 (by rw[c];exact gY _)⟩,dU w g _,fun k q=>.inl q⟩;·rw[bY _ _ _ (by rw[hs];omega),h2]
   ·rw[f,hs,tK,mY]at n;rw[eB,a,hs,tK,mY,n,jG,h5,c]
  ·have z:(uj i.size l.length (dP g l.length cap)).run prog w.drew=.ok (cB l).toArray w.drew:=by
    rw[hs];exact run_firstCells_some w.drew 1 l.length (aB g 0) l.length cap (cB l) (by rw[dM,tK]) (fun j u m=>by
     rw[qy,mY];show w.cell? _=_;rw[hB.cell];rw[<-h5,nU]at m;split at m;·exact m
     ·cases m)
   have b:=fun o=>run_append_grow_src (P:=prog) (w:=w) 60 9 o 5 i (.int .u8 0) u29 hi hz (some (aB g 0)) l.length cap (cB l) z _ s.size (byteCells s) t aj aj (by rw[hb];exact growslice_fits aj aj);have p:=grownCap_ge w (l.length+s.size) cap 5;have e:=grownCap_le_maxLen w (l.length+s.size) cap 5 (by unfold maxLen;omega);unfold maxLen at e;have y:((cB l++byteCells s).toArray++mE (xQ .u8 0).cells (grownCap w (l.length+s.size) cap 5-(l.length+s.size)))=(cB l++byteCells s++(mE (xQ .u8 0).cells (grownCap w (l.length+s.size) cap 5-(l.length+s.size))).toList).toArray:=by apply Array.ext';simp
   rw[y]at b;refine⟨_,_,b,.inr ⟨w.heap.size,_,_,by rw[eB,a],aS.new w 5 _,?_,by rw[eB,a];exact p,e,?_,?_⟩,eY (iV w _) (rX w.drew _ _),?_⟩;·rw[eB,eB,uG,f,dM];omega
   ·rw[eB,a,og (by rw[eB,dM];omega),lg (by rw[eB,dM];omega),jG,c]
   ·intro u d;rcases nV.1 d with d|d
    ·rcases nV.1 d with d|d;·exact gY l u d
     ·rw[c]at d;exact gY _ u d
    ·exact yJ _ u d
   ·intro k q;simp[nP]at q;exact .inr aj
theorem XJ{B0 B1:Nat}{w1:World}(b off:Nat)(f:Fr)(ra:Option Addr)(rc:Nat):Wr B0 B1 w1 (.func (.func 333) #[] #[]) (Num.ay f.data.size++f.data.data.toList) b off f ra rc:=by
 refine⟨333,_,rfl,enters_of func333 bH rfl,fun w v l hp hl=>?_⟩;have c8:=hp.sS.c8;have hd:=hp.sS.Bw;have r:=aG (eU v l f.data.size w hp.buf aj aj);have c:=Num.gy f.data.size;have i:0<(Num.ay f.data.size).length:=by rw[c];exact Nat.pow_pos iO
 have n:(Num.ay f.data.size).length<=8:=by rw[c];have:=Num.NK f.data.size;have:2 ^ Num.code f.data.size<=2 ^ 3:=qA iO this;omega
 have o:f.data.data.toList.length=f.data.size:=by rw[Array.length_toList];rfl
 have h:=fun w' v' hB d=>(hp.next (w':=w') (v':=v') (l':=l++Num.ay f.data.size) hB d).sS.c8;have q:=aG h;have k:=fun w' v' (hB:kL w' v' (l++Num.ay f.data.size))=>Bz hB (by rw[eB];omega) f.data (by rw[eB]at hl ⊢;omega);have m:=aG k;clear h k hp hl c i n o;go_enter func333,ntmps333;go_wp2_with fail;refine r.out.mono ?_;rintro e p ⟨v',rfl,hB,d⟩;have u:=q.out p v' hB d;obtain⟨v3,x,j,a,g⟩:=m.out p v' hB;rw[mI]at a;have s:=aG a;have t:=aG (d.trans g);clear hB d a g;go_wp2_with (at_builtin;refine j3 _ rfl _ _ _ _ rfl _ _ rfl rfl _ _ (j _) ?_);go_ret;exact⟨v3,rfl,s.out,t.out⟩
def iI(rs:bW):Nat->List UInt8
 |0=>[]
 |k+1=>iI rs k++(Num.ay ((rs.getD k (0,0)).1-(rs.getD (k+1) (0,0)).2-2)++Num.ay ((rs.getD (k+1) (0,0)).2-(rs.getD (k+1) (0,0)).1))
def jV(rs:bW):List UInt8:=
 Num.ay (rs.getD 0 (0,0)).2++(Num.ay (rs.length-1)++Num.ay ((rs.getD 0 (0,0)).2-(rs.getD 0 (0,0)).1))
def gK(rs:bW):List UInt8:=jV rs++iI rs (rs.length-1)
theorem iR(n:Nat):(Num.ay n).length<=8:=by rw[Num.gy];have:2 ^ Num.code n<=2 ^ 3:=qA iO (Num.NK n);omega
theorem II(rs:bW):∀k,(iI rs k).length<=16*k
 |0=>by simp[iI]
 |k+1=>by have h:=II rs k;have h1:=iR ((rs.getD k (0,0)).1-(rs.getD (k+1) (0,0)).2-2);have a:=iR ((rs.getD (k+1) (0,0)).2-(rs.getD (k+1) (0,0)).1);rw[iI,eB,eB];omega
theorem Gr.cell{w w':World}{v v':Value}(h:Gr w w' v v'){k o:Nat}{x:Value}(b:w.cell? (aB k o)=some x)(a:v.ownBlock≠some k):w'.cell? (aB k o)=some x:=
 cell_of b (h.1.block k (eT _ _ b) (fun e=>a e.symm))
theorem NN{rs:bW}(h:qp rs=true):0<rs.length/\∀k,k<rs.length->(rs.getD k (0,0)).1<=(rs.getD k (0,0)).2/\(rs.getD k (0,0)).2<=dK/\(0<k->(rs.getD k (0,0)).2+1<(rs.getD (k-1) (0,0)).1):=by
 unfold qp at h;rw[qx,List.all_eq_true]at h;refine⟨of_decide_eq_true h.2,fun k a=>?_⟩;have:=h.1 k (by simpa using a);unfold sj at this;rw[qx,qx,Bool.or_eq_true]at this;refine⟨of_decide_eq_true this.1.1,of_decide_eq_true this.1.2,fun b=>?_⟩;rcases this.2 with e|e;·have:=of_decide_eq_true e;omega
 ·exact of_decide_eq_true e
theorem BF(rs:bW):∀(m k:Nat),k<=m->(iI rs k).length<=(iI rs m).length
 |0,k,h=>by obtain rfl:k=0:=aj;exact nA _
 |m+1,k,h=>by
  by_cases e:k=m+1;·rw[e];exact nA _
  ·have:=BF rs m k aj;rw[iI,eB];omega
theorem Ti{rs:bW}(a:∀k,k<rs.length->(rs.getD k (0,0)).1<=(rs.getD k (0,0)).2/\(rs.getD k (0,0)).2<=dK/\(0<k->(rs.getD k (0,0)).2+1<(rs.getD (k-1) (0,0)).1))(k:Nat)(f:k+1<rs.length):∃ga gb:Nat,ga=(rs.getD k (0,0)).1-(rs.getD (k+1) (0,0)).2-2/\gb=(rs.getD (k+1) (0,0)).2-(rs.getD (k+1) (0,0)).1/\(((rs.getD k (0,0)).1:Nat):Int)-(((rs.getD (k+1) (0,0)).2:Nat):Int)=(((rs.getD k (0,0)).1-(rs.getD (k+1) (0,0)).2:Nat):Int)/\(((rs.getD k (0,0)).1-(rs.getD (k+1) (0,0)).2:Nat):Int)-2=(ga:Int)/\(((rs.getD (k+1) (0,0)).2:Nat):Int)-(((rs.getD (k+1) (0,0)).1:Nat):Int)=(gb:Int)/\ga<4611686018427387904/\gb<4611686018427387904/\IntKind.u64.wrap ((((rs.getD k (0,0)).1-(rs.getD (k+1) (0,0)).2:Nat)):Int)=((((rs.getD k (0,0)).1-(rs.getD (k+1) (0,0)).2:Nat)):Int)/\IntKind.u64.wrap (ga:Int)=(ga:Int)/\IntKind.u64.wrap (gb:Int)=(gb:Int):=by obtain⟨o1,b,c⟩:=a (k+1) aj;have d:=c aj;rw[Nat.add_sub_cancel]at d;obtain⟨g,e,_⟩:=a k aj;unfold dK at b e;exact⟨_,_,rfl,rfl,aj,aj,aj,aj,aj,by rw[IntKind.wrap_u64];omega,by rw[IntKind.wrap_u64];omega,by rw[IntKind.wrap_u64];omega⟩
theorem Pn{B0 B1:Nat}{w1:World}(b off:Nat)(f:Fr)(ra:Option Addr)(rc:Nat)(hR:qp f.ranges=true)(x5:f.ranges.length<=rc):Wr B0 B1 w1 (.func (.func 325) #[] #[]) (gK f.ranges) b off f ra rc:=by
 refine⟨325,_,rfl,enters_of func325 bH rfl,fun w v l hp hl=>?_⟩;obtain⟨I,U⟩:=NN hR;have x6:=hp.sS.Bv;have F:=BF f.ranges (f.ranges.length-1);have hc:l.length+((jV f.ranges).length+(iI f.ranges (f.ranges.length-1)).length)<=35184372088832:=by unfold gK at hl;rw[eB]at hl;exact hl
 obtain⟨rb,ro,N,r1,r2,_,_⟩:=hp.sS.rT 0 I;rw[Nat.zero_mul,Nat.add_zero]at r1 r2;have xi:rb<w.heap.size:=eT _ _ r1;have hg:=hp.nr _ N;have c9:=hp.sS.c9;rw[N]at c9;obtain⟨q1,q2,_⟩:=U 0 I;have hm:=hp.buf.lt;have hj:=hp.alloc (.cells #[(uZ ((f.ranges.getD 0 (0,0)).1:Int)),(uZ ((f.ranges.getD 0 (0,0)).2:Int))] 170);have h9:(w.alloc (.cells #[(uZ ((f.ranges.getD 0 (0,0)).1:Int)),(uZ ((f.ranges.getD 0 (0,0)).2:Int))] 170)).cell? (aB w.heap.size 0)=some (uZ ((f.ranges.getD 0 (0,0)).1:Int)):=(aS.new w 170 [(uZ ((f.ranges.getD 0 (0,0)).1:Int)),(uZ ((f.ranges.getD 0 (0,0)).2:Int))]).cell 0;have ha:(w.alloc (.cells #[(uZ ((f.ranges.getD 0 (0,0)).1:Int)),(uZ ((f.ranges.getD 0 (0,0)).2:Int))] 170)).cell? (aB w.heap.size 1)=some (uZ ((f.ranges.getD 0 (0,0)).2:Int)):=(aS.new w 170 [(uZ ((f.ranges.getD 0 (0,0)).1:Int)),(uZ ((f.ranges.getD 0 (0,0)).2:Int))]).cell 1;have D:Hid (jV f.ranges=Num.ay (f.ranges.getD 0 (0,0)).2++(Num.ay (f.ranges.length-1)++Num.ay ((f.ranges.getD 0 (0,0)).2-(f.ranges.getD 0 (0,0)).1))):=rfl;have x0:l.length+24<=35184372088832+24:=aj;have wM:=aG hj;have HK:=aG (dB h9 ha);have h3:=aG hm;have s:=aG hc;have Et:=aG F;have Y:=aG U;have h2:=aG N;have A:=D;have Ls:Hid (gK f.ranges=jV f.ranges++iI f.ranges (f.ranges.length-1)):=rfl;have hx:=aG hg;have HP:=aG hp;generalize hf:(f.ranges.getD 0 (0,0)).1=y at *
 generalize hy:(f.ranges.getD 0 (0,0)).2=h at *
 have vQ:=aG hf;have g1:(1:Int)<=((f.ranges.length:Nat):Int):=aj;have g2:((f.ranges.length:Nat):Int)<=(rc:Int):=aj;clear hp hj h9 ha hm hc hl F U D hR N hg hf hy x0;have xd:b<w.heap.size:=eT _ _ c9;obtain⟨d0,h6⟩:=bZ (h-y);have ed:(h:Int)-(y:Int)=(d0:Int):=aj;have xj:d0<=h:=aj;have Z:=aG h6;have p:=aG (eU v l h _ wM.out.buf (by unfold dK at q2;omega) (bV s.out));have h4:∀(z:World) (K:Value),kL z K (l++Num.ay h)->Gr (w.alloc (.cells #[uZ y,uZ h] 170)) z v K->D7 B0 B1 w1 z K (l++Num.ay h) b off f ra rc/\z.cell? (aB w.heap.size 0)=some (uZ y)/\z.cell? (aB w.heap.size 1)=some (uZ h)/\K.ownBlock≠some w.heap.size:=fun z K hB hG=>by
  have u:v.ownBlock≠some w.heap.size:=fun e=>bV (h3.out _ e);refine⟨wM.out.next hB hG,hG.cell HK.out.1 u,hG.cell HK.out.2 u,fun e=>?_⟩;rcases hG.2 _ e with e'|e';·exact u e'
  ·simp at e';omega
 have wT:=aG h4;clear h4 h6 HK wM h3 hx;by_cases h5:rc=1
 ·have M:f.ranges.length=1:=aj;subst h5;have V:Hid (jV f.ranges=Num.ay h++(Num.ay 0++Num.ay (h-y))):=by rw[A.out,M];rfl
  have XK:Hid (gK f.ranges=jV f.ranges):=by rw[Ls.out,M];exact nI _
  rw[M]at c9;clear A Ls g1 g2 x6 I x5 M Et Y h2;go_enter func325,ntmps325;go_wp2_with fail;refine p.out.mono ?_;rintro e z ⟨K,rfl,d,c⟩;obtain⟨o,T,a1,G⟩:=wT.out z K d c;have n:=aG (eU K _ 0 z d aj (by have:=s.out;rw[V.out]at this;simp only[eB]at this ⊢;omega));have P:=aG c;have Q:=aG o;have L:=aG G;clear d c o G p wT;go_wp2_with fail;refine n.out.mono ?_;rintro e x2 ⟨v2,rfl,i,a⟩;have b0:=a.cell T L.out;have b1:=a.cell a1 L.out;have m:=Q.out.next i a;have H:v2.ownBlock≠some w.heap.size:=fun e=>by
   rcases a.2 _ e with e'|e';·exact L.out e'
   ·have:=eT _ _ T;simp at this;omega
  have SG:=aG (eU v2 _ d0 x2 i (by unfold dK at q2;omega) (by have:=s.out;rw[V.out]at this;simp only[eB]at this ⊢;omega));have q:=aG (P.out.trans a);have X:=aG m;have B:=aG H;clear i a m H n P Q L T a1;go_wp2_with fail;refine SG.out.mono ?_;rintro e x3 ⟨v3,rfl,C,j⟩;have d1:=j.cell b0 B.out;have S:=X.out.next C j;rw[mI,mI,Z.out,<-V.out]at S;have R:=aG (q.out.trans j);have Io:=aG S;clear C j S SG q X B b0 b1;go_wp2_with fail;go_loopw [0,7,41] (fun s0 s7 J wr=>J=(iZ 0)/\s0=v3/\wr=x3) (fun _ _ _ _=>0);case atStart=>exact⟨rfl,rfl,rfl⟩
  case round=>obtain⟨rfl,rfl,rfl⟩:=hrel;have g:=Io.out.buf;rw[<-XK.out]at g;have HF:=aG g;clear g Io;go_wp2;go_ret;exact⟨_,rfl,HF.out,R.out.alloc _⟩
 ·have g3:¬(rc=1):=h5;go_enter func325,ntmps325;go_wp2_with fail;refine p.out.mono ?_;rintro e z ⟨K,rfl,d,c⟩;obtain⟨o,T,a1,G⟩:=wT.out z K d c;have n:=aG (eU K _ (f.ranges.length-1) z d aj (by have:=s.out;rw[A.out]at this;simp only[eB]at this ⊢;omega));have P:=aG c;have Q:=aG o;have L:=aG G;clear d c o G p wT;go_wp2_with fail;refine n.out.mono ?_;rintro e x2 ⟨v2,rfl,i,a⟩;have b0:=a.cell T L.out;have b1:=a.cell a1 L.out;have m:=Q.out.next i a;have H:v2.ownBlock≠some w.heap.size:=fun e=>by
   rcases a.2 _ e with e'|e';·exact L.out e'
   ·have:=eT _ _ T;simp at this;omega
  have SG:=aG (eU v2 _ d0 x2 i (by unfold dK at q2;omega) (by have:=s.out;rw[A.out]at this;simp only[eB]at this ⊢;omega));have q:=aG (P.out.trans a);have X:=aG m;have B:=aG H;clear i a m H n P Q L T a1;go_wp2_with fail;refine SG.out.mono ?_;rintro e x3 ⟨v3,rfl,C,j⟩;have d1:=j.cell b0 B.out;have S:=X.out.next C j;rw[mI,mI,Z.out,<-A.out]at S;have R:=aG (q.out.trans j);have Io:=aG S;clear C j S SG q X B b0 b1;go_wp2_with fail;go_loopw [0,7,41] (fun s0 s7 J wr=>∃k:Nat,k<=f.ranges.length-1/\J=(iZ k)/\s7=(uZ ((f.ranges.getD k (0,0)).1:Nat))/\Hid (D7 B0 B1 w1 wr s0 ((l++jV f.ranges)++iI f.ranges k) b off f ra rc)/\Hid (Gr (w.alloc (.cells #[uZ y,uZ h] 170)) wr v s0)) (fun _ _ J _=>f.ranges.length-1-(mK J).toNat);case atStart=>exact⟨0,yP _,rfl,by rw[vQ.out],by rw[iI,nI];exact Io.out,R.out⟩
  case round=>
   obtain⟨k,hk,rfl,rfl,NP,h0⟩:=hrel;by_cases xe:k<f.ranges.length-1
   ·obtain⟨xk,xl,W,t1,t2,z1,z2⟩:=NP.out.sS.rT (k+1) aj;rw[h2.out]at W;simp at W;obtain⟨rfl,rfl⟩:=W;rw[show ro+(k+1)*2=ro+2+k*2 by omega]at t1 t2;obtain⟨ga,gb,h7,h8,e1,e2,e3,hn,ho,e4,e5,e6⟩:=Ti Y.out k aj;have r:Hid (iI f.ranges (k+1)=iI f.ranges k++(Num.ay ((f.ranges.getD k (0,0)).1-(f.ranges.getD (k+1) (0,0)).2-2)++Num.ay ((f.ranges.getD (k+1) (0,0)).2-(f.ranges.getD (k+1) (0,0)).1))):=rfl;rw[<-h7,<-h8]at r;have E:=Et.out (k+1) aj;rw[r.out]at E;simp only[eB]at E;have x4:=s.out;clear h7 h8;generalize (f.ranges.getD k (0,0)).1=xf at e1 e2 e4 ⊢;generalize (f.ranges.getD (k+1) (0,0)).2=t at t2 z2 e1 e2 e3 e4;generalize hZ:(f.ranges.getD (k+1) (0,0)).1=x at t1 z1 e3;clear z1 z2;have hw:=NP.out.alloc (.cells #[uZ x,uZ t] 170);have n0:(wr.alloc (.cells #[uZ x,uZ t] 170)).cell? (aB wr.heap.size 0)=some (uZ x):=(aS.new wr 170 [uZ x,uZ t]).cell 0;have n1:(wr.alloc (.cells #[uZ x,uZ t] 170)).cell? (aB wr.heap.size 1)=some (uZ t):=(aS.new wr 170 [uZ x,uZ t]).cell 1;have u:u0.ownBlock≠some wr.heap.size:=fun e=>bV (NP.out.buf.lt _ e);have p:=aG (eU u0 _ ga _ hw.buf hn (by simp only[eB];omega));have he:(((l++jV f.ranges)++iI f.ranges k)++Num.ay ga).length<=35184372088832:=by simp only[eB];omega
    have hv:=aG he;have x7:=aG ho;have HW:=aG hw;have hr:=aG (dB n0 (dB n1 u));have HZ:=aG hZ;have xa:(k:Int)<((f.ranges.length-1:Nat):Int):=aj;have x9:rb<wr.heap.size:=eT _ _ t1;clear hZ hw n0 n1 u he ho hn E x4;go_wp2_with fail;refine p.out.mono ?_;rintro e y1 ⟨s1,rfl,d,c⟩;obtain⟨m0,m1,O⟩:=hr.out;have p0:=c.cell m0 O;have p1:=c.cell m1 O;have o:=HW.out.next d c;have n:=aG (eU s1 _ gb y1 d x7.out hv.out);have P:=aG (h0.out.trans (c.alloc _));have Q:=aG o;have hu:s1.ownBlock≠some wr.heap.size:=fun e=>by
     rcases c.2 _ e with e'|e';·exact O e'
     ·simp at e';omega
    have x8:=aG hu;clear m0 m1 O d c o p HW hr hu;go_wp2_with fail;refine n.out.mono ?_;rintro e y2 ⟨s2,rfl,i,a⟩;have p2:=a.cell p0 x8.out;have m:=Q.out.next i a;rw[mI,mI,<-r.out]at m;have q:=aG (P.out.trans a);have X:=aG m;clear i a m n P Q p0 p1;go_wp2_with fail;go_roundw;case rel=>exact⟨k+1,aj,by go_num,by rw[HZ.out],X,q⟩
    case measure=>simp[mK];omega
   ·obtain rfl:k=f.ranges.length-1:=aj;have g:=NP.out.buf;rw[mI,<-Ls.out]at g;have HF:=aG g;clear g NP;go_wp2;go_ret;exact⟨_,rfl,HF.out,h0.out.alloc _⟩
def eF(ps:List (List UInt8)):Nat->List UInt8
 |0=>[]
 |k+1=>eF ps k++ps.getD k []
theorem wU(ps:List (List UInt8)):∀(m k:Nat),k<=m->(eF ps k).length<=(eF ps m).length
 |0,k,h=>by obtain rfl:k=0:=aj;exact nA _
 |m+1,k,h=>by
  by_cases e:k=m+1;·rw[e];exact nA _
  ·have:=wU ps m k aj;rw[eF,eB];omega
theorem Lu{B0 B1:Nat}{w1:World}(pb o a:Nat)(M fr:Nat->Value)(ps:List (List UInt8))(b off:Nat)(f:Fr)(ra:Option Addr)(rc:Nat)(h2:a<=100)(u:B0<=pb)(x:pb<B1)(A:B0<=o)(B:o<B1)(z:w1.cell? (aB pb 0)=some (dP o a a))(c:∀j,j<a->w1.cell? (aB o (j*2))=some (M j)/\w1.cell? (aB o (j*2+1))=some (fr j))(s:∀j,j<a->∃g cb,fr j=.func (.func g) #[] cb)(D:∀j,j<a->Wr B0 B1 w1 (M j) (ps.getD j []) b off f ra rc):Wr B0 B1 w1 (.func (.func 323) #[] #[aI pb 0]) (eF ps a) b off f ra rc:=by
 refine⟨323,_,rfl,enters_of func323 bH rfl,fun w v l hp hl=>?_⟩;have cp:=hp.yN.cell u x z;have X:=aG hp;have T:=aG (wU ps a);have W:=aG hl;have U:=aG c;have F:=aG s;have H:=aG D;have E:=aG (dB A B);clear hp hl c s D z u x A B;go_enter func323,ntmps323;go_wp2_with fail;go_loopw [0,10] (fun s0 n wr=>∃k:Nat,k<=a/\n=(iZ k)/\Hid (D7 B0 B1 w1 wr s0 (l++eF ps k) b off f ra rc)/\Hid (Gr w wr v s0)) (fun _ n _=>a-(mK n).toNat);case atStart=>exact⟨0,yP _,rfl,by rw[eF,nI];exact X.out,Gr.refl w v⟩
 case round=>
  obtain⟨k,hk,rfl,r,q⟩:=hrel;by_cases i:k<a
  ·have P:(k:Int)<(a:Int):=aj;obtain⟨Q,R⟩:=U.out k i;have S:=r.out.yN.cell E.out.1 E.out.2 Q;have t2:=r.out.yN.cell E.out.1 E.out.2 R;obtain⟨g,cb,t,eg,N⟩:=H.out k i;obtain⟨Z,Y,d⟩:=F.out k i;rw[t]at S;rw[d]at t2;have K:=r.out.alloc (.cells #[.func (.func g) #[] cb,.func (.func Z) #[] Y] 318);have h:=T.out (k+1) aj;have J:=W.out;have C:Hid (eF ps (k+1)=eF ps k++ps.getD k []):=rfl;rw[C.out,eB]at h;have O:=N _ _ _ K (by rw[eB];omega);have p:=aG O;have L:=aG K;have h0:o<wr.heap.size:=eT _ _ S;clear t d K h J O N Q R;go_wp2_with fail;refine p.out.mono ?_;rintro e y ⟨s1,rfl,hB,I⟩;have m:=L.out.next hB I;rw[mI,<-C.out]at m;have vR:=aG m;have G:=aG (q.out.trans (I.alloc _));clear hB I m p L;go_wp2_with fail;go_roundw;case rel=>exact⟨k+1,aj,by go_num,vR,G⟩
   case measure=>simp[mK];omega
  ·obtain rfl:k=a:=aj;have V:=aG r.out.buf;clear r;go_wp2;go_ret;exact⟨_,rfl,V.out,q.out⟩
structure I9 (t e:TypeId) (z:Value) (k ay:Nat):Prop where
 ht:prog.underlying t=some (.slice e)
 hi:(prog.info? e).map (fun i=>(i.zero,i.size,i.bytes))=some (some z,k,ay)
 hz:∀n,(mE z.cells n).toList.length=n*k
 h1:∀n,∀v∈(mE z.cells n).toList,v.oneCell'=true
 hb:ay<=104
def qY:Value:=.agg #[iZ 0,iZ 0,uZ 0,uZ 0,uZ 0,.bool false,uZ 0,uZ 0,.string ⟨#[]⟩,nZ]
def qas:Value:=.agg #[uZ 0,uZ 0]
theorem LQ:I9 63 170 qas 2 16:=⟨bH,bH,gX,jf,aj⟩
theorem Gc:I9 54 65 qY 10 104:=⟨bH,bH,fun n=>by simp[qY,mE,tO],fun n v a=>by simp[qY,mE,tO]at a;obtain⟨i,_,rfl⟩:=a;have:i % 10=0\/i % 10=1\/i % 10=2\/i % 10=3\/i % 10=4\/i % 10=5\/i % 10=6\/i % 10=7\/i % 10=8\/i % 10=9:=aj;rcases this with h|h|h|h|h|h|h|h|h|h<;>rw[h]<;>rfl,aj⟩
def eX(e:TypeId)(k:Nat)(w:World)(v:Value)(n:Nat)(l:bO):Prop:=
 v=nZ/\n=0/\l=[]\/∃g cap cs,v=(dP g n cap)/\aS w g e cs/\cs.length=cap*k/\n<=cap/\cap<=9223372036854775807/\l.length=n*k/\cs.take (n*k)=l/\∀v∈cs,v.oneCell'=true
theorem eX.len{e:TypeId}{k:Nat}{w:World}{v:Value}{n:Nat}{l:bO}(h:eX e k w v n l):l.length=n*k:=by
 rcases h with⟨_,rfl,rfl⟩|⟨g,cap,cs,_,_,_,_,_,h,_⟩;·simp
 ·exact h
theorem eX.lt{e:TypeId}{k:Nat}{w:World}{v:Value}{n:Nat}{l:bO}(h:eX e k w v n l):∀b,v.ownBlock=some b->b<w.heap.size:=by
 intro b hb;rcases h with⟨rfl,_⟩|⟨g,cap,cs,rfl,hB,_⟩;·simp[nP]at hb
 ·simp[nP]at hb;subst hb;exact hB.lt
theorem eX.of_heap{e:TypeId}{k:Nat}{w w':World}{v:Value}{n:Nat}{l:bO}(h:eX e k w v n l)(c:∀b,v.ownBlock=some b->w'.heap[b]?=w.heap[b]?):eX e k w' v n l:=by
 rcases h with h|⟨g,cap,cs,rfl,hB,a⟩;·exact .inl h
 ·exact .inr ⟨g,cap,cs,rfl,hB.of_heap (c g rfl),a⟩
theorem eX.nil(e:TypeId)(k:Nat)(w:World):eX e k w nZ 0 []:=.inl ⟨rfl,rfl,rfl⟩
theorem eX.shape{e:TypeId}{k:Nat}{w:World}{v:Value}{n:Nat}{l:bO}(h:eX e k w v n l):∃a c,v=.slice a n c/\n<=c:=by
 rcases h with⟨rfl,rfl,_⟩|⟨g,cap,cs,rfl,_,_,h,_⟩;·exact⟨_,_,rfl,nA _⟩
 ·exact⟨_,_,rfl,h⟩
theorem eX.cell{e:TypeId}{k:Nat}{w:World}{v:Value}{n:Nat}{l:bO}(h:eX e k w v n l){a:Option Addr}{c:Nat}(d:v=.slice a n c)(j:Nat)(x:Value)(b:l[j]?=some x):∃g,a=some (aB g 0)/\w.cell? (aB g j)=some x/\w.frozen? (aB g j)=false:=by
 rcases h with⟨_,rfl,rfl⟩|⟨g,cap,cs,rfl,hB,_,_,_,h4,h5,_⟩;·simp at b
 ·simp at d;refine⟨g,d.1.symm,?_,hB.frozen j⟩;rw[hB.cell];rw[<-h5,nU]at b;split at b;·exact b
  ·cases b
theorem iQ{t e:TypeId}{z:Value}{k ay:Nat}(E:I9 t e z k ay){w:World}{v:Value}{n:Nat}{l:bO}(h:eX e k w v n l)(a:Addr)(m mc:Nat)(o:bO)(B:o.length=m*k)(K:0<m)(h1:∀v∈o,v.oneCell'=true)(i:∀j u,o[j]?=some u->w.cell? (a.add j)=some u)(gQ:n+m<=1000000000000):∃v' w',(∀q,(mR #[t,t] q #[v,.slice (some a) m mc]).run prog w=.ok v' w')/\eX e k w' v' (n+m) (l++o)/\Gr w w' v v':=by
 have r:(n+m)*ay<=140737488355328:=wz (Nat.mul_le_mul gQ E.hb) iO;have F:=h.len;have I:(n+m)*k=n*k+m*k:=Nat.add_mul _ _ _;have grow:∀base c (cs:bO),cs=l->c<n+m->(base=none/\cs=[]\/∃b:Addr,base=some b/\cs.length=n*k/\∀j v,cs[j]?=some v->w.cell? (b.add j)=some v)->(∀v∈cs,v.oneCell'=true)->∃v' w',(∀q,(mR #[t,t] q #[.slice base n c,.slice (some a) m mc]).run prog w=.ok v' w')/\eX e k w' v' (n+m) (l++o)/\Gr w w' (.slice base n c) v':=by
  intro base c cs s y hold x;have p:=fun q=>jd (P:=prog) (w:=w) t t q e _ k ay E.ht E.ht E.hi (base:=base) (n:=n) (c:=c) (m:=m) (mc:=mc) (cs:=cs) hold a (vs:=o) B i h1 y r aj;have C:=grownCap_ge w (n+m) c e;have f:=grownCap_le_maxLen w (n+m) c e (by unfold maxLen;omega);unfold maxLen at f;have D:cs.length=n*k:=by rw[s,F]
  refine⟨_,_,p,.inr ⟨w.heap.size,_,_,rfl,aS.new w e _,?_,C,f,by rw[eB];omega,?_,?_⟩,eY (iV w _) (rX w.drew _ _),?_⟩
  ·rw[eB,eB,E.hz,D,B];have:(grownCap w (n+m) c e-(n+m))*k+(n+m)*k=grownCap w (n+m) c e*k:=by rw[<-Nat.add_mul];congr 1;omega
   omega
  ·rw[og (by rw[eB];omega),lg (by rw[eB];omega),s]
  ·intro u d;rcases nV.1 d with d|d
   ·rcases nV.1 d with d|d;·exact x u d
    ·exact h1 u d
   ·exact E.h1 _ u d
  ·intro b hb;simp[nP]at hb;exact .inr aj
 rcases h with⟨rfl,rfl,rfl⟩|⟨g,cap,cs,rfl,hB,h2,h3,h4,h5,h6,h7⟩;·exact grow none 0 [] rfl aj (.inl ⟨rfl,rfl⟩) (fun v J=>by simp at J)
 ·by_cases y:n+m<=cap
  ·have H:(n+m)*k<=cap*k:=Nat.mul_le_mul_right _ y;have p:=fun q=>fZ (P:=prog) (w:=w) t t q e _ k ay E.ht E.ht E.hi (n:=n) (c:=cap) (m:=m) (mc:=mc) hB a (vs:=o) B i h1 y aj;have G:=iH cs o (n*k) aj;refine⟨_,_,p,.inr ⟨g,cap,_,rfl,hB.put _,?_,y,h4,by rw[eB];omega,?_,dR h7 h1⟩,dU w g _,fun b hb=>.inl hb⟩;·rw[bY _ _ _ aj,h2]
   ·rw[I,<-B,G,h6]
  ·exact grow (some (aB g 0)) cap l rfl aj (.inr ⟨_,rfl,h5,fun j u A=>by
    rw[qy,mY,hB.cell];rw[<-h6,nU]at A;split at A;·exact A
    ·cases A⟩) (fun u d=>h7 u (by rw[<-h6]at d;exact List.mem_of_mem_take d))
theorem Aw{t e:TypeId}{z:Value}{k ay:Nat}(E:I9 t e z k ay)(w:World)(a:Option Addr)(c:Nat)(g:TypeId):(mR #[t,t] g #[nZ,.slice a 0 c]).run prog w=.ok nZ w:=by
 obtain⟨i,hi,hz,hs,_⟩:=info_parts E.hi;have d:(uj i.size 0 (.slice a 0 c)).run prog w=.ok #[] w:=by
  cases a with
  |none=>exact run_firstCells_none w i.size 0 0 c
  |some b=>exact run_firstCells_some w i.size 0 b 0 c [] aP (fun j v f=>by simp at f)
 simp[mR,run_underlying E.ht,sizeOf,typeInfo,hi,Builtin.lenOf,d]
