import Derived.Test.YtphbledmopchnaaGreatDoorLde
open Go.Builtin renaming zeroCells->eT,append_->nP
open List renaming replicate->eB,length_append->j3,getD_eq_getElem?_getD->lg,getElem?_replicate->mI,length_replicate->mK,length_drop->nI,replicate_zero->nV,ext_getElem->og,append_nil->o8,mem_append->qx,map_set->qA
open Nat renaming zero_le->mE,le_trans->mR,le_refl->nA,mul_le_mul_right->nU
open Go.RowKit renaming intOf->mY
set_option maxHeartbeats 4000000
set_option maxRecDepth 100000
namespace Go.Proofs.YtphbledmopchnaaGreatDoor.Sd
open Go.RowKit Go.Lib Mm Tryz
theorem nk{t e:TypeId}{z:Value}{k ay:Nat}(E:I9 t e z k ay)(U:0<k){oZ:Own}{g:Nat}{w:World}{v:Value}{n:Nat}{l:bO}(h:GT oZ g e k w v n l)(m:Nat)(V:0<m)(gQ:n+m<=1000000000):∃v' w' aY,(∀q,(nP #[t,3] q #[v,iZ m]).run prog w=.ok v' w')/\GT aY g e k w' v' (n+m) (l++(eT z.cells m).toList)/\Kp [g] oZ aY w w':=by
 obtain⟨i,hi,hz,hs,hb⟩:=info_parts E.hi;have I:prog.underlying 3=some (.int .i64):=bH;have B:(n+m)*ay<=140737488355328:=mR (Nat.mul_le_mul gQ E.hb) iO;have W:m*ay<=(n+m)*ay:=nU _ aj;have L:=h.len;have T:(n+m)*k=n*k+m*k:=Nat.add_mul _ _ _;have O:=E.hz m;have grow:∀base c (cs:bO),cs=l->c<n+m->(base=none/\cs=[]\/∃b:Addr,base=some b/\cs.length=n*k/\∀j v,cs[j]?=some v->w.cell? (b.add j)=some v)->(∀v∈cs,v.oneCell'=true)->∃v' w' aY,(∀q,(nP #[t,3] q #[.slice base n c,iZ m]).run prog w=.ok v' w')/\GT aY g e k w' v' (n+m) (l++(eT z.cells m).toList)/\Kp [g] oZ aY w w':=by
  intro base c cs C x hold G;have S:(Builtin.firstCells i.size n (.slice base n c)).run prog w.drew=.ok cs.toArray w.drew:=by
   rcases hold with⟨rfl,rfl⟩|⟨b,rfl,hl,hc⟩;·exact run_firstCells_none w.drew i.size n n c
   ·rw[hs];exact run_firstCells_some w.drew k n b n c cs hl hc
  have f:=fun q=>Lib.run_append_grow_zeros (P:=prog) w t 3 q e i z .i64 .i64 E.ht I hi hz base n c cs S m V aj x aj (by rw[hb];omega) (by rw[hb];exact growslice_fits x B);have J:=grownCap_ge w (n+m) c e;have p:=grownCap_le_maxLen w (n+m) c e (by unfold maxLen;omega);unfold maxLen at p;have K:cs.length=n*k:=by rw[C,L]
  have A:(cs.toArray++eT z.cells m++eT z.cells (grownCap w (n+m) c e-(n+m)))=(cs++(eT z.cells m).toList++(eT z.cells (grownCap w (n+m) c e-(n+m))).toList).toArray:=by apply Array.ext';simp
  rw[A]at f;refine⟨_,_,wm oZ g w.heap.size (w.heap.size+1),f,.inr ⟨w.heap.size,_,_,rfl,wo _ _ _ _ _ (nA _) aj,aS.new w e _,?_,J,p,by rw[j3];omega,?_,?_⟩,?_⟩
  ·rw[j3,j3,E.hz,E.hz,K];have:(grownCap w (n+m) c e-(n+m))*k+(n+m)*k=grownCap w (n+m) c e*k:=by rw[<-Nat.add_mul];congr 1;omega
   omega
  ·rw[List.take_append_of_le_length (by rw[j3];omega),List.take_of_length_le (by rw[j3];omega),C]
  ·intro u a;rcases qx.1 a with a|a
   ·rcases qx.1 a with a|a;·exact G u a
    ·exact E.h1 _ u a
   ·exact E.h1 _ u a
  ·have d:bJ w (w.drew.alloc (.cells (cs++(eT z.cells m).toList++(eT z.cells (grownCap w (n+m) c e-(n+m))).toList).toArray e)):=(Below.refl _ w).drew.alloc (nA _) _;exact⟨d.os,d.tape,d.output,d.size,fun b r _=>d.block b r,fun b r=>rA _ _ _ _ _ r⟩
 rcases h with⟨rfl,rfl,rfl⟩|⟨b,cap,cs,rfl,ho,hB,h2,h3,h4,h5,h6,h7⟩;·exact grow none 0 [] rfl aj (.inl ⟨rfl,rfl⟩) (fun v X=>by simp at X)
 ·by_cases x:n+m<=cap
  ·have Q:(n+m)*k<=cap*k:=nU _ x;have H:=gD (P:=prog) (w:=w) (o:=n*k) hB (eT z.cells m).toList aj (E.h1 _);have f:∀q,(nP #[t,3] q #[dP b n cap,iZ m]).run prog w=.ok (dP b (n+m) cap) (put w b (aZ cs (n*k) (eT z.cells m).toList)):=fun q=>by
    have Y:IntKind.i64.wrap (m:Int)=m:=by rw[IntKind.wrap_i64];omega
    have F:¬((m:Int)<0):=aj;have y:¬(281474976710656<(m:Int)*(i.bytes:Int)):=by rw[hb,<-Int.natCast_mul];omega
    have M:¬(m*i.size=0):=Nat.mul_ne_zero aj aj;rw[<-hs]at H ⊢;simp[nP,run_underlying E.ht,run_underlying I,sizeOf,typeInfo,zeroValue,hi,hz,asInt,asIntOf,Y,x,F,M,y,Addr.add_lit,H]
   have N:=iH cs (eT z.cells m).toList (n*k) aj;refine⟨_,_,oZ,f,.inr ⟨b,cap,_,rfl,ho,hB.put _,?_,x,h4,by rw[j3];omega,?_,dR h7 (E.h1 _)⟩,?_⟩;·rw[bY _ _ _ aj];exact h2
   ·rw[T,<-O,N,h6]
   ·have D:=dU w b (aZ cs (n*k) (eT z.cells m).toList);exact⟨D.os,D.tape,D.output,D.size,fun j s R=>D.block j s (fun e=>by simp at e;rw[e,ho]at R;simp at R),fun _ _=>rfl⟩
  ·exact grow (some (aB b 0)) cap l rfl aj (.inr ⟨_,rfl,h5,fun j u s=>by
    rw[Addr.add_lit,Nat.zero_add,hB.cell];rw[<-h6,List.getElem?_take]at s;split at s;·exact s
    ·cases s⟩) (fun u a=>h7 u (by rw[<-h6]at a;exact List.mem_of_mem_take a))
theorem qba(m:Nat):(eT (Value.int .u8 0).cells m).toList=cB (eB m 0):=by
 apply og;·rw[uG,dM,mK]
 ·intro i h1 a;have e:i % 1=0:=aj;simp[eT,Value.cells,cB,e]
theorem qbb(m:Nat):(eT (Value.bool false).cells m).toList=iY (eB m false):=by
 apply og;·rw[EK];simp[iY]
 ·intro i h1 a;have e:i % 1=0:=aj;simp[eT,Value.cells,iY,e]
theorem pY:∀(a b:List UInt8) (i:Nat) (h:List UInt8) (c:List Bool),dS (a++b) i h c=dS b (i+a.length) (dS a i h c).1 (dS a i h c).2
 |[],b,i,h,c=>by simp[dS]
 |x::t,b,i,h,c=>by
  simp only[List.cons_append,dS,List.length_cons];split;·rw[pY t b,show i+1+t.length=i+(t.length+1) by omega]
  ·rw[pY t b,show i+1+t.length=i+(t.length+1) by omega]
theorem wE:∀(d:List UInt8) (i:Nat) (h:List UInt8) (c:List Bool),(dS d i h c).1.length=h.length/\(dS d i h c).2.length=c.length
 |[],_,_,_=>⟨rfl,rfl⟩
 |x::t,i,h,c=>by
  simp only[dS];split;·exact wE t _ _ _
  ·have:=wE t (i+1) (h.set i x) (c.set i true);simpa using this
theorem Js(d:List UInt8)(k f:Nat)(h:List UInt8)(c:List Bool)(a:k<d.length):dS (d.take (k+1)) f h c=if(dS (d.take k) f h c).2.getD (f+k) false then dS (d.take k) f h c else((dS (d.take k) f h c).1.set (f+k) d[k],(dS (d.take k) f h c).2.set (f+k) true):=by
 have e:d.take (k+1)=d.take k++[d[k]]:=aP;have hl:(d.take k).length=k:=by simp;omega
 rw[e,pY,hl];simp only[dS]
theorem GT.qbc{oZ:Own}{t:Nat}{e:TypeId}{w:World}{a:Option Addr}{n c:Nat}{l:bO}(h:GT oZ t e 1 w (.slice a n c) n l)(j:Nat)(f:j<n)(x:Value)(d:x.oneCell'=true):∃g,a=some (aB g 0)/\oZ g=t/\g<w.heap.size/\GT oZ t e 1 (w.setCell (aB g j) x) (.slice a n c) n (l.set j x):=by
 rcases h with⟨_,rfl,_⟩|⟨g,cap,cs,b,ho,hB,h2,h3,h4,h5,h6,h7⟩;·omega
 ·simp at b;obtain⟨rfl,rfl⟩:=b;refine⟨g,rfl,ho,hB.lt,.inr ⟨g,c,cs.set j x,rfl,ho,hB.setCell j x,by simpa using h2,h3,h4,by simpa using h5,?_,?_⟩⟩;·rw[<-h6,List.take_set]
  ·intro v b;rcases List.mem_or_eq_of_mem_set b with h|h;·exact h7 v h
   ·rw[h];exact d
structure rY (oZ:Own) (s t S o:Nat) (l:bO) (w0:World) (ah:Option Addr) (ch:Nat) (ac:Option Addr) (cc L:Nat) (h:List UInt8) (c:List Bool) (wr:World):Prop where
 kp:Kp [t,t+1] oZ oZ w0 wr
 cZ:aS wr S TS l
 gh:GT oZ t 5 1 wr (.slice ah L ch) L (cB h)
 gc:GT oZ (t+1) 4 1 wr (.slice ac L cc) L (iY c)
 lh:h.length=L
 lc:c.length=L
theorem vJ(oZ:Own)(s t S o:Nat)(l:bO)(w0:World)(ah:Option Addr)(ch:Nat)(ac:Option Addr)(cc L:Nat)(h:List UInt8)(c:List Bool)(wr:World)(H:rY oZ s t S o l w0 ah ch ac cc L h c wr)(k:oZ S=s)(w:s<t)(j:Nat)(m:j<L)(x:UInt8):∃g g',ah=some (aB g 0)/\ac=some (aB g' 0)/\g≠g'/\g<wr.heap.size/\g'<wr.heap.size/\g≠S/\g'≠S/\rY oZ s t S o l w0 ah ch ac cc L (h.set j x) (c.set j true) ((wr.setCell (aB g j) (.int .u8 ((x.toNat:Nat):Int))).setCell (aB g' j) (.bool true)):=by
 obtain⟨g,v,q,y,r⟩:=H.gh.qbc j m (.int .u8 ((x.toNat:Nat):Int)) rfl;obtain⟨g',f,d,p,_⟩:=H.gc.qbc j m (.bool true) rfl;have n:g≠g':=fun e=>by rw[e,d]at q;omega
 have a:Kp [t] oZ oZ wr (wr.setCell (aB g j) (.int .u8 ((x.toNat:Nat):Int))):=Kp.set oZ wr _ _ _ (by simp[q]);obtain⟨z,i,_,_,u⟩:=(H.gc.kp a aP).qbc j m (.bool true) rfl;rw[f]at i;cases i;have b:Kp [t+1] oZ oZ (wr.setCell (aB g j) (.int .u8 ((x.toNat:Nat):Int))) ((wr.setCell (aB g j) (.int .u8 ((x.toNat:Nat):Int))).setCell (aB g' j) (.bool true)):=Kp.set oZ _ _ _ _ (by simp[d]);refine⟨g,g',v,f,n,y,p,fun e=>by rw[e,k]at q;omega,fun e=>by rw[e,k]at d;omega,?_⟩;refine⟨(H.kp.trans (a.mono aP)).trans (b.mono aP),cO (cO H.cZ a (by rw[k];simp;omega)) b (by rw[k];simp;omega),?_,?_,by simp[H.lh],by simp[H.lc]⟩
 ·have:=r.kp b aP;have e:cB (h.set j x)=(cB h).set j (.int .u8 ((x.toNat:Nat):Int)):=by simp[cB,qA]
  rw[e];exact this
 ·have e:iY (c.set j true)=(iY c).set j (.bool true):=by simp[iY,qA]
  rw[e];exact u
theorem rY.cellC{oZ:Own}{s t S o:Nat}{l:bO}{w0:World}{ah:Option Addr}{ch:Nat}{ac:Option Addr}{cc L:Nat}{h:List UInt8}{c:List Bool}{wr:World}(H:rY oZ s t S o l w0 ah ch ac cc L h c wr)(j:Nat)(e:j<L):∃g',ac=some (aB g' 0)/\wr.cell? (aB g' j)=some (.bool (c.getD j false))/\wr.frozen? (aB g' j)=false:=by
 have a:j<c.length:=by rw[H.lc];exact e
 obtain⟨g',h1,_,_,b,d⟩:=H.gc.cell j (.bool (c.getD j false)) (by simp[iY,a]);exact⟨g',h1,b,d⟩
theorem rY.Z9{oZ:Own}{s t S o:Nat}{l:bO}{w0:World}{ah:Option Addr}{ch:Nat}{ac:Option Addr}{cc L:Nat}{h:List UInt8}{c:List Bool}{wr:World}(H:rY oZ s t S o l w0 ah ch ac cc L h c wr)(j:Nat)(e:j<L):∃g v,ah=some (aB g 0)/\wr.cell? (aB g j)=some v/\wr.frozen? (aB g j)=false:=by
 have a:j<h.length:=by rw[H.lh];exact e
 obtain⟨g',h1,_,_,b,d⟩:=H.gh.cell j (.int .u8 ((h[j].toNat:Nat):Int)) (by simp[cB,a]);exact⟨g',_,h1,b,d⟩
theorem Ou(s t:Nat)(oZ:Own)(S o off:Nat)(D:ByteArray)(m:eH)(l:bO)(w:World)(hB:aS w S TS l)(hS:oZ S=s)(hr:s<t)(hO:EG oZ t w l o m)(h5:m.aM.length=m.bU.length)(hl:m.bU.length<=1000000)(P:m.aR<=off)(x4:off<=dK)(x7:off-m.aR+D.size<=1000000):Calls prog 340 #[aI S o,uZ off,.string D] w fun e w'=>e=.returned (.tuple #[])/\Uh s t oZ S o l w (m.hold off D.data.toList) w':=by
 obtain⟨vh,vc,k1,k2,k3⟩:=hO;obtain⟨v,x,rfl,_,_⟩:=k2.shape;obtain⟨z,p,rfl,_,_⟩:=k3.shape;have x3:=hB.lt;unfold dK at x4;obtain⟨f,hf⟩:=bZ (off-m.aR);have hj:((f:Nat):Int)=(off:Int)-(m.aR:Int):=aj;have N:D.data.toList.length=D.size:=Array.length_toList;obtain⟨dn,h6⟩:=bZ D.size;obtain⟨X,hX⟩:=bZ (dS D.data.toList f (m.bU++eB (f+dn-m.bU.length) 0) (m.aM++eB (f+dn-m.bU.length) false));have HX:Hid (m.hold off D.data.toList={m with bU:=X.1,aM:=X.2}):=by unfold Hid;rw[hX,hf,h6];unfold eH.hold;rw[N]
 generalize m.hold off D.data.toList=MH at *
 have c4:=in4 S o m _ _ w l hB k1;have c5:=in5 S o m _ _ w l hB k1;have c6:=in6 S o m _ _ w l hB k1;have Ol:Hid (∀(h:List UInt8) (c:List Bool) (k:Nat) (hk:k<D.size),dS (D.data.toList.take (k+1)) f h c=if(dS (D.data.toList.take k) f h c).2.getD (f+k) false then dS (D.data.toList.take k) f h c else((dS (D.data.toList.take k) f h c).1.set (f+k) D[k],(dS (D.data.toList.take k) f h c).2.set (f+k) true)):=fun h c k hk=>by have:=Js D.data.toList k f h c (by rw[N];exact hk);rw[Array.getElem_toList]at this;exact this
 have hc:=aG (dB hf P);have Z_:Hid (D.data.toList.take D.size=D.data.toList):=by unfold Hid;rw[<-N,List.take_length]
 have g0:0<=(off:Int)-(m.aR:Int):=aj;have g1:(off:Int)-(m.aR:Int)<18446744073709551616:=aj;have g2:(off:Int)-(m.aR:Int)<9223372036854775808:=aj;have g3:(off:Int)-(m.aR:Int)+(D.size:Int)<9223372036854775808:=aj;have g4: -9223372036854775808<=(off:Int)-(m.aR:Int)+(D.size:Int):=aj;have g5:(off:Int)-(m.aR:Int)+(D.size:Int)-(m.bU.length:Int)<9223372036854775808:=aj;have g6: -9223372036854775808<=(off:Int)-(m.aR:Int)+(D.size:Int)-(m.bU.length:Int):=aj;have Ed:=aG h5;by_cases O:m.bU.length<f+dn
 ·obtain⟨d,ho⟩:=bZ (f+dn-m.bU.length);have g7:(0:Int)<(off:Int)-(m.aR:Int)+(D.size:Int)-(m.bU.length:Int):=aj;have hn:((d:Nat):Int)=(off:Int)-(m.aR:Int)+(D.size:Int)-(m.bU.length:Int):=aj;obtain⟨v1,w1,eZ,mU,G1,K1⟩:=nk yX aj k2 d aj aj;obtain⟨U,c1,rfl,_,_⟩:=G1.shape;have G:=cO hB K1 (by rw[hS];simp;omega);have Y:eZ S=s:=by rw[K1.ext _ x3,hS]
  have R:=gM.one G (o+5) (.slice U (m.bU.length+d) c1) o 13 aj aj;have Z:=R.kp Y (T:=[s]) aP;obtain⟨v2,w2,gu,zk,G2,K2⟩:=nk Az aj ((k3.kp K1 aP).kp Z (by simp;omega)) d aj aj;obtain⟨V,c2,rfl,_,_⟩:=G2.shape;have W:=cO R.cZ K2 (by rw[Y];simp;omega);have K:gu S=s:=by rw[K2.ext _ R.cZ.lt,Y]
  have h2:=gM.one W (o+6) (.slice V (m.aM.length+d) c2) o 13 aj aj;have h0:=h2.kp K (T:=[s]) aP;have i2:=Jj (Ji k1 (.slice U (m.bU.length+d) c1) (m.bU++eB d 0)) (.slice V (m.aM.length+d) c2) (m.aM++eB d false);have Q1:=(G1.kp Z (by simp;omega)).kp K2 aP;have Q2:=Q1.kp h0 (by simp;omega);have Q3:=G2.kp h0 (by simp;omega);rw[qba,<-jG]at Q2;have eo:iY m.aM++(eT (Value.bool false).cells d).toList=iY (m.aM++eB d false):=by rw[qbb];simp[iY]
  rw[eo]at Q3;have KK:Kp [s,t,t+1] oZ gu w (w2.setCell (aB S (o+6)) (.slice V (m.aM.length+d) c2)):=(((K1.mono aP).trans (Z.mono aP)).trans (K2.mono aP)).trans (h0.mono aP);have b:=R.gN.trans h2.gN;obtain⟨l2,h9⟩:=bZ ((l.set (o+5) (.slice U (m.bU.length+d) c1)).set (o+6) (.slice V (m.aM.length+d) c2));rw[<-h9]at b i2;have n:=h2.cZ;rw[<-h9]at n;have x5:w1.cell? (aB S (o+5))=some (.slice v m.bU.length x):=by rw[G.cell];exact k1.c5
  have x6:w1.cell? (aB S (o+6))=some (.slice z m.aM.length p):=by rw[G.cell];exact k1.c6
  have xf:=G.frozen (o+5);have y6:w2.cell? (aB S (o+6))=some (.slice z m.aM.length p):=by rw[W.cell,aA _ _ _ _ aj];exact k1.c6
  have yf:=W.frozen (o+6);obtain⟨w3,Q⟩:=bZ (w2.setCell (aB S (o+6)) (.slice V (m.aM.length+d) c2));rw[<-Q]at n Q2 Q3 KK;rw[Ed.out]at Q3 i2 Q y6 x6 zk;have SH:Hid (rY gu s t S o l2 w3 U c1 V c2 (m.bU.length+d) (m.bU++eB d 0) (m.aM++eB d false) w3):=⟨Kp.refl _ _ _,n,Q2,Q3,aP,by simp[Ed.out]⟩;have C:=aG (dB KK (dB b (dB i2 K)));have he:X=dS D.data.toList f (m.bU++eB d 0) (m.aM++eB d false):=by rw[hX,ho]
  have E:=aG he;obtain⟨L,hL⟩:=bZ (m.bU.length+d);rw[<-hL]at SH mU zk Q i2;have u:=aG i2;rw[hn]at mU zk;have hx:f+D.size<=L:=aj;have hy:L<=1000001:=aj;have run:=mU;clear hf hj h6 N;clear mU h5 hn hB k1 k2 k3 G1 G2 K1 K2 G W R h2 Z h0 Y K i2 Q1 Q2 Q3 KK b n h9 he hX ho hL eo;go_enter func340,ntmps340;go_wp2_with (at_builtin;refine Lib.wpList_append_run _ rfl _ _ _ _ rfl _ _ rfl rfl _ _ (run _) ?_;clear run;have run:=zk);obtain⟨r,J⟩:=bZ (m.bU++eB d 0);obtain⟨q,I⟩:=bZ (m.aM++eB d false);rw[<-J,<-I]at E SH;clear J I run zk x5 x6 xf y6 yf c4 c5 c6 g7 O;go_loopw [48] (fun y wr=>∃k:Nat,k<=D.size/\y=(iZ k)/\Hid (rY gu s t S o l2 w3 U c1 V c2 L (dS (D.data.toList.take k) f r q).1 (dS (D.data.toList.take k) f r q).2 wr)) (fun y _=>D.size-(mY y).toNat);case atStart=>exact⟨0,mE _,rfl,by unfold Hid;rw[<-Q];exact SH.out⟩
  case round=>
   clear Q SH;obtain⟨k,hk,rfl,a⟩:=hrel;by_cases h8:k<D.size
   ·have hm:(k:Int)<(D.size:Int):=aj;have B:=Ol.out r q k h8;obtain⟨Hk,j⟩:=bZ ((dS (D.data.toList.take k) f r q).1);obtain⟨Ck,F⟩:=bZ ((dS (D.data.toList.take k) f r q).2);rw[<-j,<-F]at a;have e5:wr.cell? (aB S (o+5))=some (.slice U L c1):=by rw[a.out.cZ.cell];exact u.out.c5
    have e6:wr.cell? (aB S (o+6))=some (.slice V L c2):=by rw[a.out.cZ.cell];exact u.out.c6
    obtain⟨g',h7,M,x0⟩:=a.out.cellC (f+k) aj;obtain⟨hf,P⟩:=hc.out;have i1:0<=(off:Int)-(m.aR:Int)+(k:Int):=aj;have i2:(off:Int)-(m.aR:Int)+(k:Int)<(L:Int):=aj;have i3:((off:Int)-(m.aR:Int)+(k:Int)).toNat=f+k:=aj;have i4:(off:Int)-(m.aR:Int)+(k:Int)<9223372036854775808:=aj;have i5: -9223372036854775808<=(off:Int)-(m.aR:Int)+(k:Int):=aj;clear hf P;subst h7;cases A:Ck.getD (f+k) false
    ·rw[A]at M;rw[<-F,A,<-j]at B;obtain⟨g,vv,hg,x1,x2⟩:=a.out.Z9 (f+k) aj;obtain⟨g2,hw,q1,q2,q3,q4,q5,q6,q7,HN⟩:=vJ gu s t S o l2 w3 U c1 _ c2 L Hk Ck wr a.out C.out.2.2.2 hr (f+k) aj D[k];subst hg;cases q1;cases q2;have h4:=aG HN;have i:=aG B;have n1:¬(g=g'):=q3;have n2:¬(g'=g):=fun e=>q3 e.symm;have n3:¬(S=g):=fun e=>q6 e.symm;have n4:¬(S=g'):=fun e=>q7 e.symm;clear HN B a q3 q6 q7 A;go_wp2_with fail;go_region
     all_goals go_wp2_with fail
     all_goals
      refine⟨⟨k+1,aj,by go_num,?_⟩,?_⟩;·unfold Hid;rw[i.out];have H:=h4.out;exact⟨⟨H.kp.os,H.kp.tape,H.kp.output,H.kp.size,H.kp.cZ,H.kp.ext⟩,H.cZ,H.gh.kp (Kp.below (T:=[]) ⟨rfl,rfl,rfl,nA _,fun _ _=>rfl⟩) aP,H.gc.kp (Kp.below (T:=[]) ⟨rfl,rfl,rfl,nA _,fun _ _=>rfl⟩) aP,H.lh,H.lc⟩
      ·simp[mY];omega
    ·rw[A]at M;rw[<-F,A]at B;have i:=aG B;have BD:Hid (rY gu s t S o l2 w3 U c1 (some (aB g' 0)) c2 L (dS (D.data.toList.take (k+1)) f r q).1 (dS (D.data.toList.take (k+1)) f r q).2 wr):=by
      unfold Hid;rw[i.out,bK rfl,<-j,<-F];exact a.out
     clear B i a j F A;go_wp2_with fail;go_roundw;case rel=>exact⟨k+1,aj,by go_num,BD⟩
     case measure=>simp[mY];omega
   ·obtain rfl:k=D.size:=aj;rw[Z_.out,<-E.out]at a;have kV:Hid (Uh s t oZ S o l w MH wr):=by
     obtain⟨KK,b,i2,K⟩:=C.out;have H:=a.out;refine⟨gu,l2,KK.trans (H.kp.mono aP),H.cZ,b,.slice U L c1,.slice V L c2,?_,?_,?_⟩;·rw[HX.out];have:=u.out;exact⟨this.gr,this.c4,this.c5,this.c6,this.c7,this.c8,this.c9,this.vY,this.zU,this.zV⟩
     ·rw[HX.out];show GT _ _ _ _ _ _ X.1.length _;rw[H.lh];exact H.gh
     ·rw[HX.out];show GT _ _ _ _ _ _ X.2.length _;rw[H.lc];exact H.gc
    clear a;go_wp2;go_end0;exact⟨rfl,kV.out⟩
 ·have g7:(off:Int)-(m.aR:Int)+(D.size:Int)-(m.bU.length:Int)<=0:=aj;have hu:f+dn-m.bU.length=0:=aj;rw[hu,nV,o8,nV,o8]at hX;obtain⟨L,hL⟩:=bZ m.bU.length;have h3:=k3;have ha:=k2;have i2:=k1;rw[Ed.out]at h3 c6 i2;rw[<-hL]at ha h3 c5 c6 i2;have SH:Hid (rY oZ s t S o l w v x z p L m.bU m.aM w):=⟨Kp.refl _ _ _,hB,ha,h3,hL.symm,by rw[Ed.out,hL]⟩;have u:=aG i2;have C:=aG (dB (Kp.refl [s,t,t+1] oZ w) (dB (kW.refl l o 13) (dB i2 hS)));have E:=aG hX;have hx:f+D.size<=L:=aj;have hy:L<=1000001:=aj;obtain⟨r,J⟩:=bZ m.bU;obtain⟨q,I⟩:=bZ m.aM;rw[<-J,<-I]at E SH;rw[<-hL]at g5 g6 g7;clear hf hj h6 N hu O hX h5 hB k1 k2 k3 ha h3 i2 hL J I;go_enter func340,ntmps340;go_wp2_with fail;clear c4 c5 c6;go_loopw [48] (fun y wr=>∃k:Nat,k<=D.size/\y=(iZ k)/\Hid (rY oZ s t S o l w v x z p L (dS (D.data.toList.take k) f r q).1 (dS (D.data.toList.take k) f r q).2 wr)) (fun y _=>D.size-(mY y).toNat);case atStart=>exact⟨0,mE _,rfl,SH⟩
  case round=>
   clear SH;obtain⟨k,hk,rfl,a⟩:=hrel;by_cases h8:k<D.size
   ·have hm:(k:Int)<(D.size:Int):=aj;have B:=Ol.out r q k h8;obtain⟨Hk,j⟩:=bZ ((dS (D.data.toList.take k) f r q).1);obtain⟨Ck,F⟩:=bZ ((dS (D.data.toList.take k) f r q).2);rw[<-j,<-F]at a;have e5:wr.cell? (aB S (o+5))=some (.slice v L x):=by rw[a.out.cZ.cell];exact u.out.c5
    have e6:wr.cell? (aB S (o+6))=some (.slice z L p):=by rw[a.out.cZ.cell];exact u.out.c6
    obtain⟨g',h7,M,x0⟩:=a.out.cellC (f+k) aj;obtain⟨hf,P⟩:=hc.out;have i1:0<=(off:Int)-(m.aR:Int)+(k:Int):=aj;have i2:(off:Int)-(m.aR:Int)+(k:Int)<(L:Int):=aj;have i3:((off:Int)-(m.aR:Int)+(k:Int)).toNat=f+k:=aj;have i4:(off:Int)-(m.aR:Int)+(k:Int)<9223372036854775808:=aj;have i5: -9223372036854775808<=(off:Int)-(m.aR:Int)+(k:Int):=aj;clear hf P;subst h7;cases A:Ck.getD (f+k) false
    ·rw[A]at M;rw[<-F,A,<-j]at B;obtain⟨g,vv,hg,x1,x2⟩:=a.out.Z9 (f+k) aj;obtain⟨g2,hw,q1,q2,q3,q4,q5,q6,q7,HN⟩:=vJ oZ s t S o l w v x _ p L Hk Ck wr a.out C.out.2.2.2 hr (f+k) aj D[k];subst hg;cases q1;cases q2;have h4:=aG HN;have i:=aG B;have n1:¬(g=g'):=q3;have n2:¬(g'=g):=fun e=>q3 e.symm;have n3:¬(S=g):=fun e=>q6 e.symm;have n4:¬(S=g'):=fun e=>q7 e.symm;clear HN B a q3 q6 q7 A;go_wp2_with fail;go_region
     all_goals go_wp2_with fail
     all_goals
      refine⟨⟨k+1,aj,by go_num,?_⟩,?_⟩;·unfold Hid;rw[i.out];have H:=h4.out;exact⟨⟨H.kp.os,H.kp.tape,H.kp.output,H.kp.size,H.kp.cZ,H.kp.ext⟩,H.cZ,H.gh.kp (Kp.below (T:=[]) ⟨rfl,rfl,rfl,nA _,fun _ _=>rfl⟩) aP,H.gc.kp (Kp.below (T:=[]) ⟨rfl,rfl,rfl,nA _,fun _ _=>rfl⟩) aP,H.lh,H.lc⟩
      ·simp[mY];omega
    ·rw[A]at M;rw[<-F,A]at B;have i:=aG B;have BD:Hid (rY oZ s t S o l w v x (some (aB g' 0)) p L (dS (D.data.toList.take (k+1)) f r q).1 (dS (D.data.toList.take (k+1)) f r q).2 wr):=by
      unfold Hid;rw[i.out,bK rfl,<-j,<-F];exact a.out
     clear B i a j F A;go_wp2_with fail;go_roundw;case rel=>exact⟨k+1,aj,by go_num,BD⟩
     case measure=>simp[mY];omega
   ·obtain rfl:k=D.size:=aj;rw[Z_.out,<-E.out]at a;have kV:Hid (Uh s t oZ S o l w MH wr):=by
     obtain⟨KK,b,i2,K⟩:=C.out;have H:=a.out;refine⟨oZ,l,KK.trans (H.kp.mono aP),H.cZ,b,.slice v L x,.slice z L p,?_,?_,?_⟩;·rw[HX.out];have:=u.out;exact⟨this.gr,this.c4,this.c5,this.c6,this.c7,this.c8,this.c9,this.vY,this.zU,this.zV⟩
     ·rw[HX.out];show GT _ _ _ _ _ _ X.1.length _;rw[H.lh];exact H.gh
     ·rw[HX.out];show GT _ _ _ _ _ _ X.2.length _;rw[H.lc];exact H.gc
    clear a;go_wp2;go_end0;exact⟨rfl,kV.out⟩
end Go.Proofs.YtphbledmopchnaaGreatDoor.Sd
namespace Go.Proofs.YtphbledmopchnaaGreatDoor.Sd
open St Tryz
theorem Ba{c:NS}(h:CmB c)(n:Nat)(e:n<=dK):CmB (c.add 8 n n):=by
 unfold NS.add Rg.add;by_cases h1:n<max n c.fl;·rw[bK h1];exact h
 ·rw[aU h1];have d:max n c.fl<=n:=aj;have s:=Rg.nY c.rs (max n c.fl) n d h.so;have hi:=Rg.sZ c.rs (max n c.fl) n dK e h.hi;have hl:=Rg.qV c.rs (max n c.fl) n;have g:=h.ln;by_cases b:8<(Rg.ins (max n c.fl) n c.rs).length;·rw[bK b];refine⟨s.tail,fun r f=>hi r (List.mem_of_mem_tail f),by simp only[List.length_tail];omega,?_⟩;have a:0<(Rg.ins (max n c.fl) n c.rs).length:=aj;have:=hi _ (List.getElem_mem a);show((Rg.ins (max n c.fl) n c.rs).getD 0 (0,0)).2+1<=dK+1;rw[lg,List.getElem?_eq_getElem a];exact Nat.succ_le_succ this
  ·rw[aU b];exact⟨s,hi,by show(Rg.ins (max n c.fl) n c.rs).length<=8;omega,h.fl⟩
theorem UU{i:eH}(h:Eh i)(lo:Nat)(d:List UInt8)(h1:i.aR<=lo)(e:lo+d.length<=2048):Eh (i.hold lo d):=by
 have hl:=h.l;have c:=h.c;obtain⟨a,b⟩:=wE d (lo-i.aR) (i.bU++eB (lo-i.aR+d.length-i.bU.length) 0) (i.aM++eB (lo-i.aR+d.length-i.bU.length) false);refine⟨h.g,h.r,h.h,h.f,h.e,?_,?_,h.s⟩;·show i.aR+(dS d (lo-i.aR) (i.bU++eB (lo-i.aR+d.length-i.bU.length) 0) (i.aM++eB (lo-i.aR+d.length-i.bU.length) false)).1.length<=2048;rw[a,j3,mK];omega
 ·show(dS d (lo-i.aR) (i.bU++eB (lo-i.aR+d.length-i.bU.length) 0) (i.aM++eB (lo-i.aR+d.length-i.bU.length) false)).2.length=(dS d (lo-i.aR) (i.bU++eB (lo-i.aR+d.length-i.bU.length) 0) (i.aM++eB (lo-i.aR+d.length-i.bU.length) false)).1.length;rw[a,b,j3,j3,mK,mK,c]
theorem UW{i:eH}(h:Eh i)(f:Fr)(a:bC f<=2048):Eh (i.take f):=by
 have h1:Eh {i with fF:=max i.fF (bC f),bM:=i.bM||f.bn,fU:=if f.bn then bC f else i.fU}:=
  ⟨h.g,h.r,Nat.max_le.2 ⟨h.h,a⟩,(by show(if f.bn=true then bC f else i.fU)<=2048;split;exact a;exact h.f),h.e,h.l,h.c,h.s⟩
 have key:∀j:eH,Eh j->Eh (if max f.aD j.aR<min (bC f) j.wanted then j.hold (max f.aD j.aR) ((f.data.data.toList.take (min (bC f) j.wanted-f.aD)).drop (max f.aD j.aR-f.aD))else j):=fun j b=>by
  split;·refine UU b _ _ (Nat.le_max_right _ _) ?_;rw[nI,List.length_take];omega
  ·exact b
 exact key _ h1
theorem qbj{i:eH}(h:Eh i)(bf:Int):Eh (i.rd bf).2:=by
 have hl:=h.l;have a:=h.c;have b:min i.ready (max bf 0).toNat<=i.bU.length:=by
  have:i.ready<=i.aM.length:=by unfold eH.ready;exact(List.takeWhile_sublist _).length_le
  omega
 unfold eH.rd;simp only;refine⟨h.g,?_,h.h,h.f,h.e,?_,?_,?_⟩;·show i.aR+_<=2048;omega
 ·show i.aR+min i.ready (max bf 0).toNat+(i.bU.drop (min i.ready (max bf 0).toNat)).length<=2048;rw[nI];omega
 ·show(i.aM.drop _).length=(i.bU.drop _).length;rw[nI,nI,a]
 ·show(if(i.cut _).state=0 then(i.cut _).h_ else(i.cut _).state)<=2;split
  ·unfold eH.h_;repeat' split
   all_goals decide
  ·exact h.s
def av.iN(M:av)(f:Fr)(M1:av)(e:Nat):Prop:=
 if f.aC=2 then(if M.next<=(f.ranges.getD 0 (0,0)).2 then M1=M/\e=11 else M.nu f.ranges M1/\e=0)else(M1,e)=M.take f
def kZ:av->List Fr->av->Nat->Prop
 |M,[],M1,e=>M1=M/\e=0
 |M,f::t,M1,e=>∃b a,M.iN f b a/\if a=0 then kZ b t M1 e else M1={b with mJ:=a}/\e=a
def av.jc(M:av)(n:Nat)(fs:List Fr)(M1:av)(e:Nat):Prop:=
 if M.aM.has n then M1=M/\e=0 else kZ {M with aM:=M.aM.add 8 n n,aT:=M.aT||eO fs} fs M1 e
theorem xU{A B A':av}{e:Nat}(j:fE A)(hB:fE B)(h1:dO A B)(i:dO B A)(a:Bd A)(g:Bd B)(f:Fr)(c:lJ B A f)(h:A.iN f A' e):e=0/\tu A B A'/\Bd A'/\A'.next=A.next/\A'.bG=A.bG:=by
 unfold av.iN at h;have d:∀(l:List Fr) (M:av),(l.foldl av.dx M).next=M.next/\(l.foldl av.dx M).bG=M.bG:=fun l=>by
  induction l with
  |nil=>exact fun M=>⟨rfl,rfl⟩
  |cons f t k=>
   intro M;have hb:(M.dx f).next=M.next/\(M.dx f).bG=M.bG:=by
    unfold av.dx;repeat' split
    all_goals exact⟨rfl,rfl⟩
   exact⟨(k _).1.trans hb.1,(k _).2.trans hb.2⟩
 by_cases k2:f.aC=2
 ·rw[bK k2]at h;have o:(f.ranges.getD 0 (0,0)).2<A.next:=by
   rcases c with⟨_,_,h⟩|⟨h,_⟩|⟨h,_⟩|⟨h,_⟩;·exact h
   ·rw[k2]at h;cases h
   ·rw[k2]at h;cases h
   ·rw[k2]at h;cases h
  rw[aU aj]at h;obtain⟨h,rfl⟩:=h;refine⟨rfl,QB j h1 i _ h,UR a o h,?_⟩;obtain⟨lp,lq,_,_,rfl⟩:=h;exact d _ _
 ·rw[aU k2]at h;obtain⟨p,q⟩:=A_ j hB h1 i f c;have m:A'=(A.take f).1:=congrArg Prod.fst h;have n:e=(A.take f).2:=congrArg Prod.snd h;rw[m,n];refine⟨p,q,?_⟩;unfold av.take;rw[aU k2];rcases c with⟨b,_⟩|⟨b,hs,hs8,hd⟩|⟨b,hl⟩|⟨b,hs,hs8,hl⟩;·exact absurd b k2
  ·rw[bK b];split;·exact⟨a,rfl,rfl⟩
   ·split;·exact⟨a,rfl,rfl⟩
    ·exact⟨a.eG _ _ (UW (a.i _) f (mR hd.b (g.o _).b)),rfl,rfl⟩
  ·have:f.aL<=dK:=mR hl g.g.2.1;rw[aU (by rw[b];decide),aU (by rw[b];decide),aU (by rw[b];decide),aU (by rw[b];decide),bK b];exact⟨⟨a.o,a.i,a.g,Nat.max_le.2 ⟨a.lm,this⟩,a.mt,a.wy,a.ls,a.ky,a.wl,a.ll,a.nm,a.cm,a.tk⟩,rfl,rfl⟩
  ·rw[aU (by rw[b];decide),aU (by rw[b];decide),aU (by rw[b];decide),aU (by rw[b];decide),aU (by rw[b];decide),bK b];exact⟨a.dD _ _ ⟨(a.o _).b,(a.o _).a,(a.o _).c⟩,rfl,rfl⟩
theorem zZ:∀(fs:List Fr) {A B A':av} {e:Nat},fE A->fE B->dO A B->dO B A->Bd A->Bd B->(∀f∈fs,lJ B A f)->kZ A fs A' e->e=0/\tu A B A'/\Bd A'/\A'.next=A.next/\A'.bG=A.bG
 |[],A,B,A',e,hA,hB,h1,h2,bA,bB,_,h=>by obtain⟨rfl,rfl⟩:=h;exact⟨rfl,kg hA h1 h2,bA,rfl,rfl⟩
 |f::t,A,B,A',e,hA,hB,h1,h2,bA,bB,hf,h=>by obtain⟨j,k,r,h⟩:=h;obtain⟨rfl,s,b,n,m⟩:=xU hA hB h1 h2 bA bB f (hf f aP) r;rw[bK rfl]at h;obtain⟨a,i,b2,n2,d⟩:=zZ t s.loc hB s.ab s.ba b bB (fun g c=>(hf g (by simp[c])).mono (Au.refl _) s.le) h;exact⟨a,s.trans i,b2,n2.trans n,d.trans m⟩
theorem xV{A B A':av}{e:Nat}(c:fE A)(hB:fE B)(h1:dO A B)(b:dO B A)(a:Bd A)(d:Bd B)(n:Nat)(fs:List Fr)(l:n<B.next)(p:B.next<=dK)(j:∀f∈fs,lJ B A f)(h:A.jc n fs A' e):e=0/\tu A B A'/\Bd A'/\A'.next=A.next/\A'.bG=A.bG:=by
 unfold av.jc at h;split at h;·obtain⟨rfl,rfl⟩:=h;exact⟨rfl,kg c h1 b,a,rfl,rfl⟩
 ·have s:=xO c h1 b n l (A.aT||eO fs);obtain⟨i,o,b2,n2,m⟩:=zZ fs s.loc hB s.ab s.ba (A:={A with aM:=A.aM.add 8 n n,aT:=A.aT||eO fs})
   ⟨a.o,a.i,a.g,a.lm,a.mt,a.wy,a.ls,a.ky,a.wl,a.ll,a.nm,Ba a.cm n aj,a.tk⟩ d (fun g k=>(j g k).mono (Au.refl _) s.le) h
  exact⟨i,s.trans o,b2,n2,m⟩
theorem Oy{A:av}(h:Bd A)(k:Nat)(b:List UInt8):Bd (A.dD k ((A.out k).send b).1):=by
 refine h.dD _ _ ?_;unfold Ot.send;split;·exact h.o k
 ·split;·exact h.o k
  ·rename_i a;exact⟨by show((A.out k).ay++b).length<=2048;rw[j3];omega,(h.o k).a,(h.o k).c⟩
theorem EY{A:av}(h:Bd A)(k:Nat):Bd (A.dD k (A.out k).finish.1):=by
 refine h.dD _ _ ?_;unfold Ot.finish;split;·exact h.o k
 ·exact⟨(h.o k).b,(h.o k).a,(h.o k).c⟩
theorem Cy{A:av}(h:Bd A):Bd A.iD:=⟨h.o,h.i,h.g,h.lm,h.mt,h.wy,h.ls,h.ky,h.wl,h.ll,h.nm,h.cm,fun x a=>Nat.le_succ_of_le (h.tk x a)⟩
theorem GJ{A:av}(h:Bd A)(k:Nat)(bf:Int):Bd (A.eG k ((A.bF k).rd bf).2):=h.eG _ _ (qbj (h.i k) bf)
theorem qbk(bG aO aX:Nat)(e:64<=bG/\bG<=400)(f:aO<=4096)(ht:aX<=4096):Bd (av.new bG aO aX):=by
 have d:vw ⟨0,[]⟩:=⟨rfl,trivial,fun r c=>by cases c⟩;refine⟨fun k=>?_,fun k=>?_,⟨ht,mR ht iO,mE _,mR ht iO⟩,mR ht iO,e,(fun x b=>by cases b),(fun x b=>by cases b),List.Pairwise.nil,mE _,mE _,mE _,⟨trivial,(fun r c=>by cases c),mE _,mE _⟩,(fun x b=>by cases b)⟩
 ·show OtB ((eB 8 (Ot.new aO)).getD k rV);by_cases a:k<8;·rw[lg,mI,bK a];exact⟨mE _,d,d⟩
  ·rw[lg,mI,aU a];exact qdu
 ·show Eh ((eB 8 (eH.new aO)).getD k sK);by_cases a:k<8;·rw[lg,mI,bK a];exact GI _ f
  ·rw[lg,mI,aU a];exact GI 0 iO
