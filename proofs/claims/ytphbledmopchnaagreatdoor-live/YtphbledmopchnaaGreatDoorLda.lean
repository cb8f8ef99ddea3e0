import Derived.Test.YtphbledmopchnaaGreatDoorLcd
import Derived.Test.YtphbledmopchnaaGreatDoorLce
open Go.RowKit.Below renaming refl->mE
open Go.Builtin renaming zeroCells->eT,min_->mR
open Go.Calls renaming quiet_of_same->eB
open Go.Ending renaming returned->j3
open Nat renaming le_refl->lg,mul_comm->mI
set_option maxHeartbeats 1000000
set_option maxRecDepth 100000
namespace Go.Proofs.YtphbledmopchnaaGreatDoor.Sd
open Go.RowKit Go.Lib Mm Tryz
def mh(oZ:Own)(t:Nat)(w:World)(S:Nat)(va:Value)(rs:bW):Prop:=
 ∃base c,va=.slice base rs.length c/\rs.length<=c/\c<=9223372036854775807/\St.jB w S base c rs/\∀b,base.map (·.block)=some b->oZ b=t
theorem mh.kp{oZ aY:Own}{t:Nat}{w w':World}{S:Nat}{va:Value}{rs:bW}{T:List Nat}(h:mh oZ t w S va rs)(K:Kp T oZ aY w w')(j:t∉T):mh aY t w' S va rs:=by
 obtain⟨base,c,h1,g,i,d,f⟩:=h;have hb:∀b,base.map (·.block)=some b->b<w.heap.size:=fun b hb=>(St.oh d b hb).2;exact⟨base,c,h1,g,i,d.of_heap (fun b a=>by
  have e:base.map (·.block)=some b:=by rw[a];rfl
  exact K.cZ b (hb b e) (by rw[f b e];exact j)),fun b e=>by rw[K.ext b (hb b e),f b e]⟩
structure L8 (l:bO) (o:Nat) (m:Ot) (vb va vc:Value):Prop where
 c0:l[o]?=some vb
 c1:l[o+1]?=some (.bool m.bn)
 nt:D_ l (o+2) m.nt
 c6:l[o+6]?=some (uZ m.aL)
 c7:l[o+7]?=some (uZ m.dw)
 c8:l[o+8]?=some (iZ 2049)
 c9:l[o+9]?=some (uZ m.cK.fl)
 vY:l[o+10]?=some va
 zU:l[o+11]?=some (iZ 2049)
 zV:l[o+12]?=some (uZ m.aM.fl)
 c13:l[o+13]?=some vc
theorem L8.gN{l l':bO}{o o' n':Nat}{m:Ot}{vb va vc:Value}(h:L8 l o m vb va vc)(w:kW l l' o' n')(hd:o+14<=o'\/o'+n'<=o):L8 l' o m vb va vc:=
 ⟨by rw[w.2 _ aj,h.c0],by rw[w.2 _ aj,h.c1],h.nt.gN w aj,by rw[w.2 _ aj,h.c6],by rw[w.2 _ aj,h.c7],by rw[w.2 _ aj,h.c8],by rw[w.2 _ aj,h.c9],by rw[w.2 _ aj,h.vY],by rw[w.2 _ aj,h.zU],by rw[w.2 _ aj,h.zV],by rw[w.2 _ aj,h.c13]⟩
def BP(oZ:Own)(t:Nat)(w:World)(S:Nat)(l:bO)(o:Nat)(m:Ot):Prop:=
 ∃vb va vc,L8 l o m vb va vc/\GT oZ t 5 1 w vb m.ay.length (cB m.ay)/\mh oZ (t+1) w S va m.cK.rs/\mh oZ (t+2) w S vc m.aM.rs
theorem BP.kp{oZ aY:Own}{t:Nat}{w w':World}{S:Nat}{l l':bO}{o o' n':Nat}{m:Ot}{T:List Nat}(h:BP oZ t w S l o m)(K:Kp T oZ aY w w')(f:t∉T)(a:t+1∉T)(b:t+2∉T)(wi:kW l l' o' n')(hd:o+14<=o'\/o'+n'<=o):BP aY t w' S l' o m:=by obtain⟨vb,va,vc,h1,c,d,e⟩:=h;exact⟨vb,va,vc,h1.gN wi hd,c.kp K f,d.kp K a,e.kp K b⟩
theorem uO(S o n c:Nat)(a:Option Addr)(w:World)(b:n<=2048)(c0:w.cell? (aB S o)=some (.slice a n c)):Calls prog 188 #[aI S o] w fun e w'=>e=.returned (uZ n)/\w'=w:=by have h1:n<18446744073709551616:=aj;go_enter func188,ntmps188;go_wp2;go_ret;exact⟨rfl,rfl⟩
theorem EI(S o:Nat)(f g:Bool)(w:World)(c1:w.cell? (aB S (o+1))=some (.bool f))(c2:w.cell? (aB S (o+2))=some (.bool g)):Calls prog 186 #[aI S o] w fun e w'=>e=.returned (.bool (f||g))/\w'=w:=by
 cases f;all_goals
  go_enter func186,ntmps186;go_wp2;go_ret;exact⟨dI aP,rfl⟩
theorem X8(S o x:Nat)(w:World)(c7:w.cell? (aB S (o+7))=some (uZ x)):Calls prog 315 #[aI S o] w fun e w'=>e=.returned (uZ x)/\w'=w:=by go_enter func315,ntmps315;go_wp2;go_ret;exact⟨rfl,rfl⟩
theorem EJ(S o:Nat)(w:World):Calls prog 241 #[aI S o] w fun e w'=>e=.returned (aI S (o+2))/\w'=w:=by go_enter func241,ntmps241;go_wp2;go_ret;exact⟨rfl,rfl⟩
theorem yU(S o n c b:Nat)(a:Option Addr)(f g:Bool)(w:World)(h:n<=2048)(c0:w.cell? (aB S o)=some (.slice a n c))(c1:w.cell? (aB S (o+1))=some (.bool f))(c2:w.cell? (aB S (o+2))=some (.bool g)):Calls prog 317 #[aI S o,uZ b] w fun e w'=>e=.returned (.bool (f&& !g&&decide (b=n)))/\w'=w:=by
 have d:=aG (uO S o n c a w h c0);clear c0;cases f;·go_enter func317,ntmps317;go_wp2;go_ret;exact⟨rfl,rfl⟩
 ·cases g;·go_enter func317,ntmps317;go_wp2_with (go_at_call 188;refine bN d.out ?_;rintro w' rfl);go_ret;exact⟨dI (by rw[Bool.eq_iff_iff];simp<;>omega),rfl⟩
  ·go_enter func317,ntmps317;go_wp2;go_ret;exact⟨rfl,rfl⟩
theorem kG(f:Fr)(rv:Value)(w:World)(d:f.aD<=dK)(hd:f.data.size<=1000000000):Calls prog 318 #[fM f rv] w fun e w'=>e=.returned (uZ (bC f:Int))/\bJ w w':=by
 obtain⟨W,b⟩:=bZ (w.alloc (.cells (gG f rv).toArray 65));have hb:aS W w.heap.size 65 (gG f rv):=by rw[b];exact aS.new w 65 _
 have a:bJ w W:=by rw[b];exact(mE _ w).alloc (lg _) _
 have c2:W.cell? (aB w.heap.size 2)=some (uZ f.aD):=hb.cell 2;have c8:W.cell? (aB w.heap.size 8)=some (.string f.data):=hb.cell 8;have g:=aG a;have c:((bC f:Nat):Int)=(f.aD:Int)+(f.data.size:Int):=by unfold bC;omega
 unfold dK at d;have h1:f.aD+f.data.size<18446744073709551616:=aj;have h:f.data.size<18446744073709551616:=aj;rw[c];clear c d hd a hb;unfold fM;unfold gG at b;go_enter func318,ntmps318;go_wp2_with fail;rw[<-b];go_wp2;go_ret;exact⟨rfl,g.out⟩
theorem qfw(a b c:Nat):∃m:Nat,(∀d t w,(mR d t #[uZ a,uZ b,uZ c]).run prog w=.ok (uZ m) w)/\m=min (min a b) c:=by
 refine⟨min (min a b) c,fun d t w=>?_,rfl⟩;simp only[mR,List.foldlM_cons,List.foldlM_nil,Builtin.min2];simp only[Sem.run_bind,Sem.run_pure,Result.andThen_ok];congr 2
 split<;>(try split)<;>omega
theorem TU(S o n c iB dw aN:Nat)(a:Option Addr)(w:World)(g:n<=2048)(hs:dw+aN<18446744073709551616)(c0:w.cell? (aB S o)=some (.slice a n c))(c6:w.cell? (aB S (o+6))=some (uZ iB))(c7:w.cell? (aB S (o+7))=some (uZ dw)):Calls prog 343 #[aI S o,uZ aN] w fun e w'=>e=.returned (uZ ((min (min n iB) (dw+aN):Nat):Int))/\∃q,w'=w.drewN q:=by have d:=aG (fun q=>uO S o n c a (w.drewN q) g c0);obtain⟨m,f,b⟩:=qfw n iB (dw+aN);rw[<-b];rw[Int.natCast_add]at f;clear c0 b;go_enter func343,ntmps343;go_wp2;go_quiet ((go_at_call 188;exact eB (d.out _)));go_wp2;go_ret;exact⟨rfl,nq,rfl⟩
theorem TV(S o:Nat)(n:Nt)(r:Nat)(w:World)(l:bO)(hB:aS w S TS l)(h:D_ l o n):Calls prog 312 #[aI S o,uZ r] w fun e w'=>e=.returned (.bool (n.aK r))/\∃q,w'=w.drewN q:=by
 have c0:w.cell? (aB S o)=some (.bool n.bX):=by rw[hB.cell];exact h.c0
 have c2:w.cell? (aB S (o+2))=some (uZ n.cK):=by rw[hB.cell];exact h.c2
 have c3:w.cell? (aB S (o+3))=some (uZ n.aM):=by rw[hB.cell];exact h.c3
 obtain⟨m,d,a⟩:=min2 n.cK n.aM;have b:Hid (n.aK r=(n.bX&&decide (r<m))):=by unfold Hid;rw[a];rfl
 generalize n.aK r=B at *
 clear h hB a;cases c:n.bX;all_goals
  rw[c]at c0 b;go_enter func312,ntmps312;go_wp2;go_quiet (fail);go_wp2;go_ret;exact⟨dI (by rw[b.out];simp),nq,rfl⟩
theorem BQ(S o:Nat)(n:Nt)(k c:Nat)(a:Option Addr)(w:World)(l:bO)(hB:aS w S TS l)(f:k<=2048)(c0:l[o]?=some (.slice a k c))(h:D_ l (o+2) n):Calls prog 258 #[aI S o] w fun e w'=>e=.returned (.bool (n.aK k))/\∃q,w'=w.drewN q:=by have b:=aG (fun q=>uO S o k c a (w.drewN q) f (by rw[show(w.drewN q).cell? (aB S o)=w.cell? (aB S o)from rfl,hB.cell];exact c0));have d:=aG (fun q=>TV S (o+2) n k (w.drewN q) l hB h);clear h hB;go_enter func258,ntmps258;go_wp2;go_quiet ((first|(go_at_call 188;exact eB (b.out _))|(go_at_call 312;exact Calls.quiet_of (d.out _))));go_wp2;go_ret;exact⟨rfl,nq,rfl⟩
def U9(S k:Nat)(kd:Int):Value:=
 if kd=4 then .iface 282 (aI S (4+27*k))else if kd=3 then .iface 335 (aI S (6+27*k))else if kd=6 then .iface 336 (aI S (18+27*k))else .iface 336 (aI S 221)
theorem JF(S o:Nat)(w:World):Calls prog 242 #[aI S o] w fun e w'=>e=.returned (aI S o)/\w'=w:=by go_enter func242,ntmps242;go_wp2;go_ret;exact⟨rfl,rfl⟩
theorem zn(S k:Nat)(i:k<8)(f:Fr)(hs:f.aH=(k:Int))(w:World):Calls prog 198 #[aI S 0,fM f nZ] w fun e w'=>e=.returned (U9 S k f.aC)/\bJ w w':=by
 unfold fM;rw[hs];clear hs;generalize f.aC=kd;generalize f.aD=f2;generalize f.aV=f3;generalize f.aL=f4;generalize f.bn=f5;generalize f.id=f6;generalize f.aW=f7;generalize f.data=f8;obtain⟨W,a⟩:=bZ (w.alloc (.cells #[iZ kd,iZ k,uZ f2,uZ f3,uZ f4,.bool f5,uZ f6,uZ f7,.string f8,nZ] 65));have hb:bJ w W:=by rw[a];exact(mE _ w).alloc (lg _) _
 have b:Hid (∀q,bJ w (W.drewN q)):=fun q=>⟨hb.os,hb.tape,hb.output,hb.size,hb.block⟩;have k1:W.cell? (aB w.heap.size 1)=some (iZ k):=by rw[a];exact(aS.new w 65 [iZ kd,iZ k,uZ f2,uZ f3,uZ f4,.bool f5,uZ f6,uZ f7,.string f8,nZ]).cell 1
 have h:(k:Int)<8:=aj;by_cases d:kd=4;·subst d;go_enter func198,ntmps198;go_wp2_with fail;rw[<-a];clear a;go_quiet (fail);go_wp2;go_ret;refine⟨?_,b.out _⟩;show j3 (.iface 282 (aI S (4+k*27)))=.returned (U9 S k 4);unfold U9;rw[bK rfl,mI]
 ·by_cases c:kd=3;·subst c;go_enter func198,ntmps198;go_wp2_with fail;rw[<-a];clear a;go_quiet ((go_at_call 241;exact eB (EJ _ _ _)));go_wp2;go_ret;refine⟨?_,b.out _⟩;show j3 (.iface 335 (aI S (4+k*27+2)))=.returned (U9 S k 3);unfold U9;rw[aU iO,bK rfl,mI,show 4+27*k+2=6+27*k by omega]
  ·by_cases g:kd=6;·subst g;go_enter func198,ntmps198;go_wp2_with fail;rw[<-a];clear a;go_quiet ((go_at_call 242;exact eB (JF _ _ _)));go_wp2;go_ret;refine⟨?_,b.out _⟩;show j3 (.iface 336 (aI S (4+k*27+14)))=.returned (U9 S k 6);unfold U9;rw[aU iO,aU iO,bK rfl,mI,show 4+27*k+14=18+27*k by omega]
   ·go_enter func198,ntmps198;go_wp2;go_ret;refine⟨?_,by rw[<-a];exact hb⟩;show j3 (.iface 336 (aI S 221))=.returned (U9 S k kd);unfold U9;rw[aU d,aU c,aU g]
def bk3(S k:Nat):bO:=[.iface 282 (aI S (4+k*27)),.iface 335 (aI S (4+k*27+2)),.iface 336 (aI S (4+k*27+14))]
def bks(S:Nat):Nat->bO
 |0=>[.iface 336 (aI S 221)]
 |k+1=>bks S k++bk3 S k
theorem Bb(S:Nat):∀k,(bks S k).length=1+3*k
 |0=>rfl
 |k+1=>by show(bks S k++bk3 S k).length=_;rw[List.length_append,Bb S k];simp[bk3];omega
theorem Rl(n:Nat):(eT (Value.nilIface).cells n).toList.length=n:=by simp[eT,Value.cells]
theorem Rm(n:Nat):∀v∈(eT (Value.nilIface).cells n).toList,v.oneCell'=true:=by intro v a;simp[eT,Value.cells]at a;obtain⟨i,_,rfl⟩:=a;have:i % 1=0:=aj;rw[this];rfl
theorem qgd:I9 291 294 .nilIface 1 16:=⟨bH,bH,fun n=>by rw[Rl];omega,Rm,aj⟩
theorem Vo(S:Nat)(w:World):Calls prog 196 #[aI S 0] w fun e w'=>∃v',e=.returned v'/\eX 294 1 w' v' 25 (bks S 8)/\YtphbledmopchnaaGreatDoor.Own w.heap.size v'/\bJ w w':=by
 obtain⟨s,a⟩:=bZ (w.alloc (.cells #[.iface 336 (aI S 221)] 294));have A:Hid (eX 294 1 s (dP w.heap.size 1 1) (1+3*0) (bks S 0)/\YtphbledmopchnaaGreatDoor.Own w.heap.size (dP w.heap.size 1 1)/\bJ w s):=by rw[a];exact⟨.inr ⟨w.heap.size,1,_,rfl,aS.new w 294 [.iface 336 (aI S 221)],rfl,lg _,aj,rfl,rfl,fun v h=>by rw[List.mem_singleton.1 h];rfl⟩,fun k u=>by simp[Value.ownBlock]at u;omega,(mE _ w).alloc (lg _) _⟩
 go_enter func196,ntmps196;go_wp2;rw[<-a];clear a;go_loopw [3,11] (fun z d wr=>∃k:Nat,k<=8/\d=(iZ k)/\Hid (eX 294 1 wr z (1+3*k) (bks S k)/\YtphbledmopchnaaGreatDoor.Own w.heap.size z/\bJ w wr)) (fun _ d _=>8-(RowKit.intOf d).toNat);case atStart=>exact⟨0,aj,rfl,A.out⟩
 case round=>
  obtain⟨k,u,rfl,i⟩:=hrel;by_cases F:k<8
  ·have x:(k:Int)<8:=aj;obtain⟨m,n,hb⟩:=i.out;obtain⟨W6,f⟩:=bZ (wr.drew.alloc (.cells (bk3 S k).toArray 294));have c:bJ wr W6:=by rw[f];exact(mE _ wr).drew.alloc (lg _) _
   have r:aS W6 wr.heap.size 294 (bk3 S k):=by rw[f];exact aS.new wr.drew 294 _
   have o:W6.heap.size=wr.heap.size+1:=by rw[f,World.size_alloc];rfl
   obtain⟨v',t,E,g,l⟩:=iQ qgd (m.of_heap (w':=W6) (fun b hb=>c.block b (m.lt b hb))) (aB wr.heap.size 0) 3 3 (bk3 S k) rfl aj (fun v h=>by simp[bk3]at h;rcases h with rfl|rfl|rfl<;>rfl) (fun j y G=>by
    have e:(aB wr.heap.size 0).add j=(aB wr.heap.size j):=by rw[Addr.add_lit,Nat.zero_add]
    rw[e,r.cell,G]) aj
   have B:Hid (eX 294 1 t v' (1+3*(k+1)) (bks S (k+1))/\YtphbledmopchnaaGreatDoor.Own w.heap.size v'/\bJ w t):=
    ⟨by rw[show 1+3*(k+1)=1+3*k+3 by omega];exact g,l.own n (bV hb.size),hb.trans ((c.mono hb.size).trans (l.below n (bV hb.size)))⟩
   have p:∀args w,(callFunc 241 args).run prog w=.ok (.enter 241 args) w:=enters_of func241 bH rfl;have q:∀args w,(callFunc 242 args).run prog w=.ok (.enter 242 args) w:=enters_of func242 bH rfl;unfold bk3 at f;subst f;clear m n hb c r o g l i;go_wp2;generalize 4+k*27=o1 at *
   have D:=fun y=>EJ S o1 y;have C:=fun y=>JF S (o1+14) y;go_region_held3 (fun _=>True) (trivial) ((first|(refine jD _ (by rfl) _ _ _ _ (by rfl) _ _ (by rfl) (by rfl) _ _ (E _) ?_)|(refine wD _ (by rfl) 241 _ _ (by rfl) (aI S o1) (by rfl) p (D _) ?_;rintro e y ⟨rfl,rfl⟩;refine⟨_,rfl,?_⟩)|(refine wD _ (by rfl) 242 _ _ (by rfl) (aI S (o1+14)) (by rfl) q (C _) ?_;rintro e y ⟨rfl,rfl⟩;refine⟨_,rfl,?_⟩)))
   all_goals(
    go_wp2;go_roundw;case rel=>exact⟨k+1,aj,aP,B.out⟩
    case measure=>simp[RowKit.intOf];omega)
  ·obtain rfl:k=8:=aj;go_wp2;go_ret;exact⟨_,rfl,i.out⟩
