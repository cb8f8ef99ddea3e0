import Derived.Test.YtphbledmopchnaaGreatDoorVcd
import Derived.Test.YtphbledmopchnaaGreatDoorVce
import Derived.Shelf.AbstractIn
import Derived.Stop.RegionWithIn
import Derived.BigRegionIn
open List renaming filter_eq_self->eT
open Go.World renaming putObj_heap_other->eB
set_option maxHeartbeats 4000000
set_option maxRecDepth 100000
open Go renaming World->Wq,Calls->WA,undef->VG
set_option linter.all false
namespace Go.Proofs.YtphbledmopchnaaGreatDoor.Sd
open Go.RowKit Go.Lib Mm Tryz
variable {F:Fence}{K:Act->Wq->Prop}{M M':av}{S bi bl bw n s:Nat}{W w y:Wq}{a:Act}{c:Code}{i j oZ:Own}{l:bM}{v vc:Value}
section
attribute [local go_sem] zG
def Ki{d}(h:c.wpIn F n prog (Exit.then K fun _ _ _=>False) a w):c.wpIn F n prog (Exit.then K d) a w:=
 wpIn_mono h fun e f g b=>by
  cases e with
  |normal=>exact b
  |ret=>exact b.elim
  |exit i=>exact b.elim
  |goto i=>exact b.elim
  |panic c=>exact b.elim
  |outgrown=>exact b.elim
def wpIn_cut{g}(act)(R:Wq->Prop)(h:c.wpIn F n prog (Exit.then (fun f d=>f=act/\R d) fun _ _ _=>False) a w)(k:∀d,R d->K act d):c.wpIn F n prog (Exit.then K g) a w:=
 wpIn_mono h fun e f d b=>by
  cases e with
  |normal=>obtain⟨rfl,j⟩:=b;exact k _ j
  |ret=>exact b.elim
  |exit i=>exact b.elim
  |goto i=>exact b.elim
  |panic c=>exact b.elim
  |outgrown=>exact b.elim
def LS(oZ:Own)(s:Nat)(w:Wq)(S bw bl bi tb:Nat)(M':av)(y:Wq):Prop:=
 ∃a c b,gq a s y S c M' bw bl bi b/\a w.heap.size=tb/\aS y w.heap.size 128 [aK S 0]/\Kp (T0 s) oZ a w y
def LB(oZ:Own)(s:Nat)(w:Wq)(S bw bl bi tb:Nat)(v:Value)(M':av)(y:Wq):Prop:=
 ∃a c b,gq a s y S c M' bw bl bi b/\a w.heap.size=tb/\aS y w.heap.size 128 [aK S 0]/\Kp (T0 s) oZ a w y/\GT a tb 294 1 y v 25 (bks S 8)
section
variable {oZ:Own} {s:Nat} {w:Wq} {S bw bl bi tb:Nat} {M':av} {y:Wq}
def LS.cells(h:LS oZ s w S bw bl bi tb M' y):y.cell? (aA w.heap.size 0)=some (aK S 0)/\y.cell? (aA S 230)=some (.map (some bw))/\y.cell? (aA S 231)=some (.map (some bl)):=by obtain⟨o,c,d,a,_,b,_⟩:=h;exact⟨b.cell 0,by rw[a.cK.cell];exact a.cells.rA,by rw[a.cK.cell];exact a.cells.uW⟩
def LB.ls(h:LB oZ s w S bw bl bi tb v M' y):LS oZ s w S bw bl bi tb M' y:=by obtain⟨o,e,f,a,b,c,d,_⟩:=h;exact⟨o,e,f,a,b,c,d⟩
theorem qgp(h:LS oZ s w S bw bl bi tb M' y)(t:s+100<=tb)(d:∀x∈M'.bV,x.1+64<18446744073709551616):bN 194 #[.map (some bl),.func (.func 195) #[] #[aK w.heap.size 0]] y (.tuple #[]) fun j=>LS oZ s w S bw bl bi tb {M' with aM:=M'.aM,bV:=M'.bV.filter fun x=> !decide (x.1+64<M'.next)} j:=by
 obtain⟨o,u,z,a,k,c,l⟩:=h;have r:S≠bl:=fun e=>by obtain⟨f,f1,_⟩:=a.bV;have:=a.ow;grind
 have q:w.heap.size≠bl:=fun e=>by obtain⟨f,f1,_⟩:=a.bV;grind
 refine(a.bV.drop aj 195 #[] #[aK w.heap.size 0] (enters_of func195 bZ rfl) (fun n _=>decide (n+64<M'.next)) (fun x i v A W g=>?_)).mono ?_;.have m:=g.block S a.cK.lt (by grind);have p:=g.block _ c.lt (by grind);exact qlb S w.heap.size x.1 M'.next v W ((c.of_heap p).cell 0) (by rw[(a.cK.of_heap m).cell];exact a.cells.qI) (d x i)
 .rintro e j ⟨rfl,f1,b⟩;exact⟨rfl,o,u,z,a.ways b aR _ _ (a.Ar.kp b aR aR) f1,k,bW c b (by grind),l.trans (b.mono fun x i=>fM.2 (by grind))⟩
theorem qap(h:LS oZ s w S bw bl bi tb M' y):WA prog 196 #[aK S 0] y fun e f=>∃a c,e=.returned (.slice a 25 c)/\LB oZ s w S bw bl bi tb (.slice a 25 c) M' f:=by obtain⟨o,r,t,l,u,m,n⟩:=h;refine(qak S y).mono ?_;rintro e f ⟨v,rfl,g,p,b⟩;obtain⟨a,c,rfl,_⟩:=g.shape;obtain⟨j,d⟩:=bU (fun x=>if x<y.heap.size then o x else tb:Own);have K:Kp [] o j y f:=⟨b.os,b.tape,b.output,b.size,fun x i _=>b.block x i,fun x i=>by grind⟩;exact⟨a,c,rfl,j,r,t,l.kp K aR,by grind,bW m K aR,n.trans (K.mono aR),GT.VU g fun k q=>by rw[d];exact b_ (fT (p k q))⟩
theorem qgq{j}(h:LB oZ s w S bw bl bi tb v (M'.xM j) y)(m:j<25)(p:s+100<=tb)(l:∀k,(M'.out k).aT.rs.length<=1000000):WA prog (lN j) #[lP S j] y fun e b=>e=.returned (.tuple #[])/\LB oZ s w S bw bl bi tb v (M'.xM (j+1)) b:=by obtain⟨o,u,x,d,f,a,g,i⟩:=h;refine(qan d j m (fun k=>by rw[He];exact l k)).mono ?_;rintro e b ⟨rfl,r,q,t,c,K⟩;have n:tb∉T0 s:=fun e=>fT (fM.1 e);exact⟨rfl,r,q,t,c,by rw[K.ext _ a.lt,f],bW a K (by grind),g.trans K,i.kp K n⟩
end

def JA(oZ:Own)(s:Nat)(w:Wq)(S bw bl bi tb:Nat)(g:av->Fr->av)(c:av)(aX:Own)(a:List Fr)(W:Wq):Prop:=
 (∃d b,gq aX s W S d (a.foldl g c) bw bl bi b)/\aX w.heap.size=tb/\aS W w.heap.size 128 [aK S 0]/\Kp ([tb+3,tb+2]++T0 s) oZ aX w W/\Bd (a.foldl g c)
theorem JA.kp{oZ s w S bw bl bi tb g d}(o:s+100<=tb)(i iA c W f)(h:JA oZ s w S bw bl bi tb g d i c W)(K:Kp [tb+3,tb+2] i iA W f):JA oZ s w S bw bl bi tb g d iA c f:=by obtain⟨⟨q,r,l⟩,j,k,m,n⟩:=h;exact⟨⟨q,r,l.kp K (fun x a b e=>by grind)⟩,by rw[K.ext _ k.lt,j],bW k K (by rw[j];simp),m.trans (K.mono fun x p=>Az _ p),n⟩
def OM(a):∀args w,(callFunc (BI a) args).run prog w=.ok (.enter (BI a) args) w:=by
 unfold BI;split;.exact enters_of func319 bZ rfl
 .split;.exact enters_of func342 bZ rfl
  .exact enters_of func311 bZ rfl
def nM{L f args R}(h:WA prog f args w R):CallsIn (Fence.wide.inRound L) n prog f args w R:=callsIn_wide.2 h
def OO(j):∀args w,(callFunc (lN j) args).run prog w=.ok (.enter (lN j) args) w:=by
 unfold lN;split;.exact enters_of func392 bZ rfl
 .split;.exact enters_of func395 bZ rfl
  .exact enters_of func397 bZ rfl
theorem qgr(h:gq oZ s w S l M bw bl bi vc)(r:Bd M)(zd:M.aV<18446744073709551616)(zb:M.next<=dH):bN 154 #[aK S 0] w (.tuple #[]) fun w'=>∃M1,M.kD M1/\je s oZ w S bw bl bi M1 w':=by
 obtain⟨tb,p,z⟩:=yD oZ (s+100) w.heap.size;have zz:=h.s0;obtain⟨R,h6⟩:=bU (w.alloc (.cells #[aK S 0] 128));have H:bJ w R:=by rw[h6];exact(bP _ w).alloc (aI _) _
 have yk:R.heap.size=w.heap.size+1:=by rw[h6];simp
 obtain⟨fH,zc⟩:=bU (fun x=>if x<w.heap.size then oZ x else tb:Own);have P:Kp [] oZ fH w R:=⟨H.os,H.tape,H.output,H.size,fun x d _=>H.block x d,fun x d=>by grind⟩;have u:=h.kp P aR;have c:aS R w.heap.size 128 [aK S 0]:=by grind [aS.new]
 have V:fH w.heap.size=tb:=by grind
 have zw:S≠bw:=fun e=>by obtain⟨f,f1,_⟩:=u.Ar;have:=u.ow;grind
 have HT:Hid (∀q,bN 191 #[.map (some bw),.func (.func 192) #[aK S 0] #[]] (R.drewN q) (.map (some (w.heap.size+1))) fun w'=>Hid (∃i,wE i (s+42) (s+44) w' bw (M.aM.filter fun x=> !M.g_ x)/\wE i (tb+1) (s+44) w' (w.heap.size+1) (M.aM.filter M.g_)/\Kp [s+42] fH i R w')):=fun q=>by
  have Hq:gq fH s (R.drewN q) S l M bw bl bi vc:=u.below ⟨rfl,rfl,rfl,aI _,fun _ _=>rfl⟩;refine(Hq.Ar.take aj (fT r.wl) 192 #[aK S 0] #[] (enters_of func192 bZ rfl) (fun n t=>decide (6<=M.aV-t)||decide (n+3<M.named)) (tb+1) (fun x d v hv W hg=>?_)).mono ?_
  .have yd:=hg.block S Hq.cK.lt (by grind);have c3:W.cell? (aA S 3)=some (uZ M.aV):=by rw[(Hq.cK.of_heap yd).cell];exact Hq.cells.c3
   have qp:W.cell? (aA S 232)=some (uZ M.named):=by rw[(Hq.cK.of_heap yd).cell];exact Hq.cells.qp
   have wa:=r.tk x d;have wb:=(r.wy x d).1;have:=XH S M.aV M.named x.1 v W c3 qp (by grind) zd (by unfold dH at zb;omega);rw[hv]at this;exact this
  .rintro e w' ⟨he,i,E,X,F⟩;have e9:(R.drewN q).heap.size=w.heap.size+1:=yk;rw[e9]at he X;exact⟨he,i,E,X,⟨F.os,F.tape,F.output,F.size,F.cK,F.ext⟩⟩
 have cw:R.cell? (aA S 230)=some (.map (some bw)):=by rw[u.cK.cell];exact u.cells.rA
 have cb:R.cell? (aA w.heap.size 0)=some (aK S 0):=c.cell 0;have Ol:=u.cK.lt;have zv:∀(fn:Fn) (first cap:Array Value) (w:Wq),(Instr.makeFunc fn first cap).run prog w=.ok (.func fn first cap) w:=fun _ _ _ _=>rfl;have ug:=aG (dz h (dz r (dz u (dz c (dz V (dz P (dz z p)))))));clear h r u c V P z p zc H;refine(callsIn_wide (n:=10)).1 ?_;refine callsIn_of_wp_marks func154 rfl trivial ?_ rfl;simp only[ntmps154,E8,pI,vD,Nat.reduceAdd,Nat.reduceSub,Ju,Jt,Cr,Jv,pJ,AA];gi_wp2;rw[<-h6];clear h6;refine wpIn_cut {tmps:=#[aK S 0,aK w.heap.size 0,.map (some (w.heap.size+1)),VG,VG,VG,aK S 0,aK S 0,aK S 230,.map (some bw),aK S 0,.func (.func 192) #[aK S 0] #[],.map (some (w.heap.size+1)),VG,VG,VG,VG,VG,VG,VG,VG,VG,VG,VG,VG,VG,VG,VG,VG,VG,VG,VG,VG,VG,VG,VG,VG,VG,VG,VG,VG,VG,VG,VG,VG,VG,VG,VG,VG],defers:=[]}
  (fun C=>Hid (∃i,wE i (s+42) (s+44) C bw (M.aM.filter fun x=> !M.g_ x)/\wE i (tb+1) (s+44) C (w.heap.size+1) (M.aM.filter M.g_)/\Kp [s+42] fH i R C)) ?_ (fun C H1=>?_)
 .gi_region_with (refine⟨trivial,?_⟩;gi_at_call 191;refine(callsIn_wide.2 (HT.out _)).mono ?_;rintro e C ⟨rfl,H1⟩)
  all_goals exact⟨rfl,H1⟩
 obtain⟨A,hA⟩:=bU (M.aM.filter fun x=> !M.g_ x);obtain⟨B,hB⟩:=bU (M.aM.filter M.g_);rw[<-hA,<-hB]at H1;have Q:=aG (dz hA hB);clear hA hB HT;have H2:Hid (∃i,gq i s C S l {M with aM:=A,bV:=M.bV} bw bl bi vc/\wE i (tb+1) (s+44) C (w.heap.size+1) B/\i w.heap.size=tb/\aS C w.heap.size 128 [aK S 0]/\Kp (T0 s) oZ i w C):=by obtain⟨i,g1,g2,Z⟩:=H1.out;obtain⟨h,r,u,c,V,P,z,p⟩:=ug.out;refine⟨i,u.ways Z aR A M.bV g1 (u.bV.kp Z aR aR),g2,by rw[Z.ext _ c.lt,V],bW c Z (by grind),(P.mono aR).trans (Z.mono fun x d=>fM.2 (by grind))⟩
 have yi:∀ty,(Builtin.len_ #[203] ty #[.map (some (w.heap.size+1))]).run prog C=.ok (iZ B.length) C:=by obtain⟨i,_,⟨f,_,m,_⟩,_⟩:=H2.out;have:=m.len;grind
 clear H1 cw cb;cases T:B with
 |nil=>
  rw[T]at yi;have h9:=aG T;clear T;have HE:Hid (∃M1,M.kD M1/\je s oZ w S bw bl bi M1 C):=by
   obtain⟨i,E,X,F,h4,Y⟩:=H2.out;have zy:M.aM.any M.g_=false:=by
    rw[Bool.eq_false_iff];intro he;obtain⟨x,d,hl⟩:=za.1 he;have:x∈B:=by rw[Q.out.2];grind
    rw[h9.out]at this;cases this
   refine⟨M,by unfold av.kD;rw[b_ (by grind)],i,l,vc,?_,Y⟩;have z4:A=M.aM:=by rw[Q.out.1];grind [eT,List.any_eq_false]
   rw[z4]at E;exact E
  gi_wp2;exact⟨_,results_none rfl _ _ _,rfl,HE.out⟩
 |cons b0 Bt=>
  have zn:¬(B.length:Int)=0:=by grind
  have h9:=aG T;clear T;have O:Hid (s+100<=tb/\(∀x∈M.bV++B,x.1+64<18446744073709551616)/\∀k,(M.out k).aT.rs.length<=1000000):=by
   obtain⟨h,r,u,c,V,P,z,p⟩:=ug.out;refine⟨p,fun x d=>?_,fun k=>fT ((r.o k).c.len)⟩;have:x.1<M.next:=by
    rcases iJ.1 d with d|d;.exact(r.ls x d).1
    .rw[Q.out.2]at d;exact(r.wy x (dY.1 d).1).1
   grind [dH]
  obtain⟨yy,_,z1⟩:C.cell? (aA w.heap.size 0)=some (aK S 0)/\C.cell? (aA S 230)=some (.map (some bw))/\C.cell? (aA S 231)=some (.map (some bl)):=by obtain⟨i,E,_,F,h4,Y⟩:=H2.out;exact LS.cells (oZ:=oZ) (s:=s) (tb:=tb) (bi:=bi) (M':={M with aM:=A,bV:=M.bV}) ⟨i,l,vc,E,F,h4,Y⟩
  have HC:Hid (bN 193 #[.map (some bl),.map (some (w.heap.size+1))] C (.tuple #[]) fun G=>LS oZ s w S bw bl bi tb {M with aM:=A,bV:=M.bV++B} G):=by
   obtain⟨i,E,X,F,h4,Y⟩:=H2.out;obtain⟨h,r,u,c,V,P,z,p⟩:=ug.out;have zt:B.length<=12:=by rw[Q.out.2];exact dx (tH _ _) r.wl
   refine(E.bV.copy X aj aj (by have:=r.ll;grind) (fun x d y hy=>?_)).mono ?_;.rw[Q.out.2]at d;exact qh ((Qz.1 r.ky).2.2 y hy x (dY.1 d).1)
   .rintro e G ⟨rfl,f1,Z⟩;exact⟨rfl,i,l,vc,E.ways Z aR A (M.bV++B) (E.Ar.kp Z aR aR) f1,F,bW h4 Z (by grind),Y.trans (Z.mono fun x d=>fM.2 (by grind))⟩
  obtain⟨M3,xd⟩:∃M3,M3={M with aM:=A,bV:=(M.bV++B).filter fun x=> !decide (x.1+64<M.next)}:=⟨_,rfl⟩;have HD:Hid (∀G,LS oZ s w S bw bl bi tb {M with aM:=A,bV:=M.bV++B} G->bN 194 #[.map (some bl),.func (.func 195) #[] #[aK w.heap.size 0]] G (.tuple #[]) fun w3=>LS oZ s w S bw bl bi tb M3 w3):=fun G X=>by rw[xd];exact qgp X O.out.1 O.out.2.1
  have h0:=aG xd;clear xd;gi_wp2_with (first|(refine⟨trivial,?_⟩;gi_at_call 193;refine(callsIn_wide.2 HC.out).mono ?_;rintro e G ⟨rfl,hw⟩;obtain⟨VK,_,z2⟩:=hw.cells;have xr:=aG hw;clear hw)|(refine⟨trivial,?_⟩;gi_at_call 194;refine(callsIn_wide.2 (HD.out _ xr.out)).mono ?_;rintro e w3 ⟨rfl,xa⟩;obtain⟨yz,_,_⟩:=xa.cells;have xt:=aG xa;clear xa)|(refine⟨trivial,?_⟩;gi_at_call 196;refine(callsIn_wide.2 (qap xt.out)).mono ?_;rintro e w4 ⟨a4,c4,rfl,xz⟩;have xv:=aG xz;clear xz));have yq:Hid (∀k,(M3.out k).aT.rs.length<=1000000):=by rw[h0.out];exact O.out.2.2
  have yr:Hid (LB oZ s w S bw bl bi tb (.slice a4 25 c4) (M3.xM 0) w4):=xv;clear xv xr xt HC HD yy z1 VK z2 yz yi;gi_loopw [31] (fun xo wr=>∃j:Nat,j<=25/\xo=(iZ j)/\Hid (LB oZ s w S bw bl bi tb (.slice a4 25 c4) (M3.xM j) wr)) (fun xo _=>25-(RowKit.intOf xo).toNat)
  case atStart=>grind
  case round=>
   obtain⟨j,hj,rfl,N⟩:=hrel;clear yr;by_cases z8:j<25
   .have zj:(j:Int)<25:=aj;have xj:∃g,a4=some (aA g 0)/\wr.cell? (aA g j)=some (.iface (lT j) (lP S j)):=by
     obtain⟨o,l1,v1,E,X,F,h4,Y⟩:=N.out;obtain⟨g,hg,_,_,hc,_⟩:=Y.cell j _ (qam S 8 j aj);grind
    obtain⟨g,hg,hc⟩:=xj;subst hg;have z9:=qgo S j;have z6:=OO j;have EK:=aG (qgq N.out z8 O.out.1 yq.out);generalize lT j=tj at *
    generalize lP S j=pj at *
    generalize lN j=nj at *
    gi_wp2_with (refine⟨trivial,?_⟩;gi_at_fn nj;refine(callsIn_wide.2 EK.out).mono ?_;rintro e w5 ⟨rfl,ya⟩;have zk:=aG ya;clear ya);grind [RowKit.intOf]
   .obtain rfl:j=25:=aj;obtain⟨z0,z3,_⟩:=N.out.ls.cells;have ys:Hid (M3.xM 25=M.lY):=by
     obtain⟨h,r,u,c,V,P,z,p⟩:=ug.out;have e:=XG M3 (by rw[h0.out];exact u.lo) (by rw[h0.out];exact u.li);show M3.xM 25=M.lY;rw[e,h0.out,Q.out.1,Q.out.2];rfl
    gi_wp2_with (refine⟨trivial,?_⟩;gi_at_call 197;refine(callsIn_wide.2 (Dg bw wr)).mono ?_;rintro e w7 ⟨rfl,ym⟩;have ha:=aG ym;clear ym);have HJ:Hid (∃xm,JA oZ s w S bw bl bi tb av.iU M.lY xm [] w7/\wE xm (s+42) (s+44) w7 bw A/\aS w7 wr.heap.size 203 [.map (some bw)]):=by
     obtain⟨o,l1,v1,E,X,F,h4,Y⟩:=N.out;obtain⟨h,r,u,c,V,P,z,p⟩:=ug.out;rw[ys.out]at E;have K:Kp [] o o wr w7:=by rw[ha.out];exact Kp.alloc _ _ _ _
     have xw:=E.kp K aR;refine⟨o,⟨⟨l1,v1,xw⟩,X,bW F K aR,(h4.trans (K.mono aR)).mono fun x d=>yY _ d,GX r⟩,?_,by rw[ha.out];exact aS.new wr 203 _⟩;have:=xw.Ar;rw[Q.out.1];exact this
    clear N z0 z3 ha;have xp:Hid (∀x∈A,x.2.bQ.length<=1000000/\∀f∈x.2.bQ,Qt f):=by obtain⟨h,r,u,c,V,P,z,p⟩:=ug.out;intro x d;rw[Q.out.1]at d;have:=r.wy x (dY.1 d).1;exact⟨fT this.2.1,this.2.2⟩
    obtain⟨xm,hu,ho,xe⟩:=HJ.out;have J:∀x,s+41<=x->x∉T1 s:=fun x d e=>fT (Ae.1 e);refine vg aj (s+42) (s+44) (tb+2) (tb+3) (tb+4) (T1 s) (JA oZ s w S bw bl bi tb av.iU M.lY) rfl xe ho (fun x d=>(xp.out x d).1) (J _ aj) (J _ aj) (J _ (fT O.out.1)) (J _ (fT O.out.1)) (J _ (fT O.out.1)) (fT O.out.1) (JA.kp O.out.1) hu ?_ ?_
    .intro L Hg xn f W zp xx hf;obtain⟨x,d,z7⟩:=hf;have Nl:=(xp.out x d).2 f z7;obtain⟨k,hk⟩:∃k:Nat,f.aF=(k:Int):=⟨f.aF.toNat,fT Nl.st⟩;have Ao:k<8:=fT Nl.st;have zr:=xx.2.2.1.lt;have ye:=Sr S k f.aD;have yp:Hid (∀y,bN 198 #[aK S 0,eX f nZ] y (.iface (bkT f.aD) (I5 S k f.aD)) fun y'=>bJ y y'):=fun y=>by rw[<-ye];exact Df S k Ao f hk y
     have Sc:Hid (∀Hl y,JA oZ s w S bw bl bi tb av.iU M.lY Hl xn y->WA prog (BI f.aD) #[I5 S k f.aD,eX f nZ] y fun e y'=>e=.returned (.tuple #[])/\∃aX,JA oZ s w S bw bl bi tb av.iU M.lY aX (xn++[f]) y'/\Kp (T1 s) Hl aX y y'):=fun Hl y hy=>by obtain⟨⟨l1,v1,g1⟩,g2,g3,g4,g5⟩:=hy;refine(qai g1 f k Ao hk nZ (fun h4=>⟨(g5.o k).a,Nl.dt h4⟩)).mono ?_;rintro e y' ⟨rfl,o2,l2,v2,a1,a2⟩;have hn:tb∉T1 s:=J _ (fT O.out.1);refine⟨rfl,o2,⟨⟨l2,v2,by grind⟩,by rw[a2.ext _ g3.lt,g2],bW g3 a2 (by grind),g4.trans (a2.mono fun x d=>yY _ (qag d)),by grind [GQ]⟩,a2⟩
     have z9:=qgm S k f.aD;have z6:=OM f.aD;obtain⟨Wa,h7⟩:=bU (W.alloc (.cells (f_ f nZ).toArray 65));have xl:aS Wa W.heap.size 65 (f_ f nZ):=by grind [aS.new]
     have Ka:Kp [] Hg Hg W Wa:=by grind [Kp.alloc]
     have w8:Wa.heap.size=W.heap.size+1:=by rw[h7];simp
     generalize bkT f.aD=kT at *
     generalize I5 S k f.aD=kP at *
     generalize BI f.aD=kN at *
     clear ye hk;unfold eX at *
     unfold f_ at h7 xl;gi_wp2;rw[<-h7];clear h7;refine⟨Ka,fun G o2 s2 hr=>?_⟩;have h8:=xl.of_heap (o2 W.heap.size aj);have VK:G.cell? (aA w.heap.size 0)=some (aK S 0):=hr.2.2.1.cell 0;have zf:Hid (∀y,bJ G y->WA prog kN #[kP,.agg #[iZ f.aD,iZ f.aF,uZ f.aC,uZ f.aO,uZ f.aN,.bool f.bL,uZ f.id,uZ f.aJ,.string f.data,nZ]] y fun e y'=>e=.returned (.tuple #[])/\∃aX,JA oZ s w S bw bl bi tb av.iU M.lY aX (xn++[f]) y'/\Kp (T1 s) Hg aX G y'):=fun y hy=>by have K:Kp [] Hg Hg G y:=Kp.below hy;refine(Sc.out Hg y (JA.kp O.out.1 _ _ _ _ _ hr (K.mono aR))).mono ?_;rintro e y' ⟨rfl,o',a1,a2⟩;exact⟨rfl,o',a1,(K.mono aR).trans a2⟩
     have yv:=aG h8;have zg:=h8.lt;obtain⟨x0,x1,x2,x3,x4,x5,x6,x7,x8,x9,xf⟩:=bF h8;have oh:Hid (∀w5,bJ G w5->aS w5 W.heap.size 65 [iZ f.aD,iZ f.aF,uZ f.aC,uZ f.aO,uZ f.aN,.bool f.bL,uZ f.id,uZ f.aJ,.string f.data,nZ]):=fun w5 Y=>yv.out.of_heap (Y.block _ zg);clear h8 xl hr xx o2 Sc Ka hu ho xe HJ;gi_wp2;gi_region_with (first|(refine⟨trivial,?_⟩;gi_at_call 198;refine(nM (yp.out _)).mono ?_;rintro e w5 ⟨rfl,I⟩;have xi:bJ G w5:=⟨I.os,I.tape,I.output,I.size,I.block⟩;clear I;obtain⟨y0,y1,y2,y3,y4,y5,y6,y7,y8,y9,yf⟩:=bF (oh.out w5 xi);have yn:=aG xi;clear xi)|(refine⟨trivial,?_⟩;gi_at_fn kN;refine(nM (zf.out _ yn.out)).mono ?_;rintro e w6 ⟨rfl,hE⟩;have HE:=aG hE;clear hE))
     all_goals exact⟨rfl,HE.out⟩
    .intro Hl lp W' D hp xy hD oD z5;have HE:Hid (∃M1,M.kD M1/\je s oZ w S bw bl bi M1 (W'.putObj D (.deferred none))):=by
      obtain⟨h,r,u,c,V,P,z,p⟩:=ug.out;obtain⟨⟨l1,v1,g1⟩,g2,g3,g4,g5⟩:=xy;have K9:Kp [tb+4] Hl Hl W' (W'.putObj D (.deferred none)):=⟨rfl,rfl,rfl,aR,fun k hk hn=>eB (fun e=>hn (by grind)),fun _ _=>rfl⟩;refine⟨_,?_,Hl,l1,v1,g1.kp K9 (fun x a b e=>by grind),?_⟩
      .unfold av.kD;have:M.aM.any M.g_=true:=by
        have hm:b0∈B:=by rw[h9.out];simp
        rw[Q.out.2]at hm;grind
       rw[dN this];exact⟨lp,by rw[<-Q.out.1];exact hp,rfl⟩
      .refine Kp.less (U:=[tb+4]++[tb+3,tb+2]) ?_ (fun b' zs e=>by grind);rw[lC];exact(g4.mono fun x d=>yY _ d).trans (K9.mono fun x d=>Az _ d)
     clear xy HJ hu ho xe;gi_wp2;refine⟨aR,.inl ⟨_,_,rfl,run_takeDeferred z5,?_⟩⟩;exact⟨_,results_none rfl _ _ _,rfl,HE.out⟩
end
section
def Ho(X:av)(f):(X.gJ f).aM=X.aM/\(X.gJ f).bV=X.bV:=by
 unfold av.gJ;repeat' split
 all_goals exact⟨rfl,rfl⟩
theorem vk:∀(l:List Fr) (X),(l.foldl av.gJ X).aM=X.aM/\(l.foldl av.gJ X).bV=X.bV
 |[],_=>⟨rfl,rfl⟩
 |f::t,X=>⟨(vk t _).1.trans (Ho X f).1,(vk t _).2.trans (Ho X f).2⟩
def Sy(X:av)(f a b):({X with aM:=a,bV:=b}:av).gJ f={X.gJ f with aM:=a,bV:=b}:=by
 unfold av.gJ;repeat' split
 all_goals rfl
def Hr(a b):∀(l:List Fr) (X),l.foldl av.gJ {X with aM:=a,bV:=b}={l.foldl av.gJ X with aM:=a,bV:=b}
 |[],_=>rfl
 |f::t,X=>by show t.foldl av.gJ (({X with aM:=a,bV:=b}:av).gJ f)=_;rw[Sy,Hr a b t];rfl
def DY(b):∀args w,(callFunc (iW b) args).run prog w=.ok (.enter (iW b) args) w:=by
 unfold iW;split;.exact enters_of func391 bZ rfl
 .split;.exact enters_of func394 bZ rfl
  .exact enters_of func396 bZ rfl
structure LX (w:Wq) (s tb bw bl:Nat) (a:Option Addr) (c:Nat) (rs:bY) (q:Option Nat) (Ds:List Nat) (aX:Own) (W:Wq):Prop where
 b3:aX (w.heap.size+1)=tb/\aS W (w.heap.size+1) 63 [.slice a rs.length c]
 rg:j_ W a rs
 ra:∀x,a=some x->x.block<W.heap.size/\aX x.block∉T0 s/\aX x.block<tb
 bq:∀k,q=some k->aX k=tb/\aS W k 203 [.map (some bw),.map (some bl)]
 ds:∀D∈Ds,w.heap.size<=D/\aX D=tb+4/\W.heap[D]?=some (.deferred (some []))
theorem LX.kp{tb a c rs q Ds iA i T}(h:LX w s tb bw bl a c rs q Ds j W)(r:s+100<=tb)(K:Kp T j iA W i)(u:∀t∈T,t∈T0 s\/tb<t/\t≠tb+4):LX w s tb bw bl a c rs q Ds iA i:=by
 have p:tb∉T:=fun e=>by grind [fM]
 have v:tb+4∉T:=fun e=>by grind [fM]
 refine⟨⟨by rw[K.ext _ h.b3.2.lt,h.b3.1],bW h.b3.2 K (by rw[h.b3.1];exact p)⟩,h.rg.of fun x g f=>K.cK _ f (fun e=>?_),fun x g=>?_,fun k o=>?_,fun D n=>?_⟩;.obtain⟨_,b,l⟩:=h.ra x g;grind
 .obtain⟨d,b,l⟩:=h.ra x g;exact⟨gK d K.size,by rw[K.ext _ d];exact b,by rw[K.ext _ d];exact l⟩
 .obtain⟨d,b⟩:=h.bq k o;exact⟨by rw[K.ext _ b.lt,d],bW b K (by grind)⟩
 .obtain⟨m,d,b⟩:=h.ds D n;have f:=(oF.1 b).1;exact⟨m,by rw[K.ext _ f,d],(K.cK _ f (by grind)).trans b⟩
section
variable {oZ:Own} {s:Nat} {w:Wq} {S bw bl bi tb:Nat} {a:Option Addr} {c:Nat} {rs:bY} {q:Option Nat} {Ds:List Nat}
def JL(oZ:Own)(s:Nat)(w:Wq)(S bw bl bi tb:Nat)(a:Option Addr)(c:Nat)(rs:bY)(q:Option Nat)(Ds:List Nat)(d:av)(aX:Own)(b:List Fr)(W:Wq):Prop:=
 JA oZ s w S bw bl bi tb av.gJ d aX b W/\LX w s tb bw bl a c rs q Ds aX W
theorem JL.kp{e}(b:s+100<=tb)(g iA d W f)(h:JL oZ s w S bw bl bi tb a c rs q Ds e g d W)(K:Kp [tb+3,tb+2] g iA W f):JL oZ s w S bw bl bi tb a c rs q Ds e iA d f:=
 ⟨JA.kp b _ _ _ _ _ h.1 K,h.2.kp b K fun t i=>by grind⟩
theorem U2{l d}(g:s+100<=tb)(f)(r:Qt f)(k:Nat)(p:k<8)(C:f.aF=(k:Int))(h:JL oZ s w S bw bl bi tb a c rs q Ds l j d y):WA prog (iW f.aD) #[I5 S k f.aD,eX f nZ] y fun e i=>e=.returned (.tuple #[])/\∃m,JL oZ s w S bw bl bi tb a c rs q Ds l m (d++[f]) i/\Kp (T1 s) j m y i:=by obtain⟨⟨⟨K,L,u⟩,v,n,z,o⟩,A⟩:=h;refine bK (qaj u f k p C nZ (fun B=>⟨(o.o k).a,(o.o k).c,r.dt B⟩)) ?_;rintro i ⟨G,F,H,I,b⟩;have J:tb∉T1 s:=fun e=>fT (Ae.1 e);exact⟨rfl,G,⟨⟨⟨F,H,by grind⟩,by rw[b.ext _ n.lt,v],bW n b (by grind),z.trans (b.mono fun x E=>yY _ (qag E)),by grind [GR]⟩,A.kp g b fun t D=>.inl (qag D)⟩,b⟩
def U3(h:Bd M)(p r):Bd {M with aM:=M.aM.filter p,bV:=M.bV.filter r}:=
 ⟨h.o,h.i,h.g,h.lm,h.mt,fun x b=>h.wy x (dY.1 b).1,fun x b=>h.ls x (dY.1 b).1,h.ky.sublist (wP.append wP),dx (tH _ _) h.wl,dx (tH _ _) h.ll,h.nm,h.cm,fun x b=>h.tk x (dY.1 b).1,h.ib⟩
theorem OP{f}(h:LX w s tb bw bl a c rs q Ds f y)(b)(k:f b∈T0 s)(m:s+100<=tb)(l:rs.length<=1000000)(g:y.grownBy W (some b))(n:Nat)(v):bN 337 #[uZ n,zM v,(aK (w.heap.size+1) 0)] W (.bool (names rs n)) fun i=>bJ W i:=by have j:=h.b3.2.of_heap (g.block _ h.b3.2.lt (by simp only[ne_eq,tK];intro e;rw[<-e,h.b3.1]at k;grind [fM]));refine qao (w.heap.size+1) n a rs c v W (j.cell 0) (h.rg.of fun x o d=>g.block _ d (by simp only[ne_eq,tK];intro e;exact(h.ra x o).2.1 (by grind))) l
theorem qas(h:JL oZ s w S bw bl bi tb a c rs q Ds M' i [] y)(d:s+100<=tb)(A:rs.length<=1000000):bN 191 #[.map (some bw),.func (.func 337) #[] #[(aK (w.heap.size+1) 0)]] y (.map (some y.heap.size)) fun j=>∃g,JL oZ s w S bw bl bi tb a c rs q Ds {M' with aM:=M'.aM.filter fun x=> !names rs x.1,bV:=M'.bV} g [] j/\wE g (tb+1) (s+44) j y.heap.size (M'.aM.filter fun x=>names rs x.1):=by
 obtain⟨⟨⟨m,o,b⟩,p,k,r,e⟩,l⟩:=h;have b:gq i s y S m M' bw bl bi o:=b;have e:Bd M':=e;have u:i bw=s+42:=by obtain⟨f,f1,_⟩:=b.Ar;exact f1
 refine bK (b.Ar.take aj (fT e.wl) 337 #[] #[(aK (w.heap.size+1) 0)] (enters_of func337 bZ rfl) (fun n _=>names rs n) (tb+1) (fun x B v D W z=>OP l bw (by grind [fM]) d A z x.1 v)) ?_;rintro j ⟨g,f1,f2,K⟩;refine⟨rfl,g,⟨⟨⟨m,o,b.ways K aR _ _ f1 (b.bV.kp K aR aR)⟩,by rw[K.ext _ k.lt,p],bW k K (by grind),r.trans (K.mono fun x B=>yY _ (fM.2 (by grind))),?_⟩,l.kp d K fun t C=>.inl (fM.2 (by grind))⟩,f2⟩;have:=U3 e (fun x=> !names rs x.1) (fun _=>true);grind [eT]
theorem qat(h:JL oZ s w S bw bl bi tb a c rs q Ds M' i [] y)(d:s+100<=tb)(A:rs.length<=1000000):bN 191 #[.map (some bl),.func (.func 337) #[] #[(aK (w.heap.size+1) 0)]] y (.map (some y.heap.size)) fun j=>∃g,JL oZ s w S bw bl bi tb a c rs q Ds {M' with aM:=M'.aM,bV:=M'.bV.filter fun x=> !names rs x.1} g [] j/\wE g (tb+1) (s+44) j y.heap.size (M'.bV.filter fun x=>names rs x.1):=by
 obtain⟨⟨⟨m,o,b⟩,p,k,r,e⟩,l⟩:=h;have b:gq i s y S m M' bw bl bi o:=b;have e:Bd M':=e;have u:i bl=s+43:=by obtain⟨f,f1,_⟩:=b.bV;exact f1
 refine bK (b.bV.take aj (fT e.ll) 337 #[] #[(aK (w.heap.size+1) 0)] (enters_of func337 bZ rfl) (fun n _=>names rs n) (tb+1) (fun x B v D W z=>OP l bl (by grind [fM]) d A z x.1 v)) ?_;rintro j ⟨g,f1,f2,K⟩;refine⟨rfl,g,⟨⟨⟨m,o,b.ways K aR _ _ (b.Ar.kp K aR aR) f1⟩,by rw[K.ext _ k.lt,p],bW k K (by grind),r.trans (K.mono fun x B=>yY _ (fM.2 (by grind))),?_⟩,l.kp d K fun t C=>.inl (fM.2 (by grind))⟩,f2⟩;have:=U3 e (fun _=>true) (fun x=> !names rs x.1);grind [eT]
end

end
section
attribute [local go_sem] zG
def gq.nam{w' l' b}(h:gq oZ s w S l M bw bl bi b)(n:Nat)(q:gZ w w' S l l' 232 1)(a:l'[232]?=some (uZ n)):je s oZ w S bw bl bi {M with named:=n} w':=by have c:=h.cells;have e:∀j,j≠232->l'[j]?=l[j]?:=fun j d=>q.iB.2 j aj;exact h.cell 232 1 aj q ⟨q.iB.1.trans c.len,(e _ aj).trans c.c0,(e _ aj).trans c.c1,(e _ aj).trans c.c2,(e _ aj).trans c.c3,(e _ aj).trans c.uq,c.gr.iB q.iB aj,(e _ aj).trans c.vW,(e _ aj).trans c.vX,(e _ aj).trans c.rZ,(e _ aj).trans c.qo,(e _ aj).trans c.qI,(e _ aj).trans c.rA,(e _ aj).trans c.uW,a,(e _ aj).trans c.jP,(e _ aj).trans c.sW,(e _ aj).trans c.r_,(e _ aj).trans c.uw,(e _ aj).trans c.uX,(e _ aj).trans c.rC,(e _ aj).trans c.xB⟩ rfl rfl rfl rfl rfl rfl rfl
theorem qgs(w)(h:gq oZ s w S l M bw bl bi vc)(r:Bd M)(a c rs)(hr:j_ w a rs)(z7:0<rs.length)(yq:rs.length<=1000000)(z8:∀x,a=some x->oZ x.block∉T0 s)(yp:(rs.getD 0 (0,0)).2<M.next)(h6:M.next<=dH):bN 294 #[aK S 0,.slice a rs.length c] w (.tuple #[]) fun w'=>∃M1,M.uH rs M1/\je s oZ w S bw bl bi M1 w':=by
 obtain⟨d,o,h4⟩:=yD oZ (s+100) w.heap.size;have zs:=h.s0;obtain⟨p,u,rfl,q0,q1,q2,q3⟩:=hr 0 z7;obtain⟨W0,ha⟩:=bU (w.alloc (.cells #[aK S 0] 128));obtain⟨Z,hc⟩:=bU (W0.alloc (.cells #[.slice (some (aA p u)) rs.length c] 63));have zf:W0.heap.size=w.heap.size+1:=by rw[ha];simp
 have zg:Z.heap.size=w.heap.size+2:=by rw[hc];simp;omega
 have F:bJ w Z:=by rw[hc,ha];exact((bP _ w).alloc (aI _) _).alloc aR _
 obtain⟨fP,z5⟩:=bU (fun x=>if x<w.heap.size then oZ x else d:Own);have K1:Kp [] oZ fP w Z:=⟨F.os,F.tape,F.output,F.size,fun x j _=>F.block x j,fun x j=>by grind⟩;have x2:aS Z w.heap.size 128 [aK S 0]:=by grind [aS,aS.new,Below.heap_alloc]
 have x3:aS Z (w.heap.size+1) 63 [.slice (some (aA p u)) rs.length c]:=by grind [aS.new]
 have z9:p<w.heap.size:=iq w _ (by rw[q0]);have H1:=h.kp K1 aR;obtain⟨N,hN,J⟩:=max2 M.named ((rs.getD 0 (0,0)).2+1);obtain⟨i,xt⟩:=bU ((Z.setCell (aA S 232) (uZ N)).drew);have HJ:Hid (∃iA,JL oZ s w S bw bl bi d (some (aA p u)) c rs none [] {M with named:=N} iA [] i):=by
  obtain⟨V,l2,v2,a0,a2⟩:=H1.nam N (gZ.one H1.cK 232 (uZ N) 232 1 (aI _) aj) (cZ l 232 _ _ H1.cells.qp);have Kd:Kp [] V V (Z.setCell (aA S 232) (uZ N)) i:=by rw[xt];exact⟨rfl,rfl,rfl,aI _,fun _ _ _=>rfl,fun _ _=>rfl⟩
  have a1:=a0.kp Kd aR;have o0:fP w.heap.size=d:=by grind
  have o1:fP (w.heap.size+1)=d:=by grind
  have hn:d∉T0 s:=fun e=>fT (fM.1 e);have Ac:fP p∉T0 s/\fP p<d:=by grind
  have K2:=a2.trans (Kd.mono aR);refine⟨V,⟨⟨l2,v2,a1⟩,by rw[K2.ext _ x2.lt,o0],bW x2 K2 (by grind),((K1.mono aR).trans K2).mono fun x j=>yY _ j,?_⟩,⟨⟨by rw[K2.ext _ x3.lt,o1],bW x3 K2 (by grind)⟩,?_,fun x j=>?_,aR,aR⟩⟩;.exact⟨r.o,r.i,r.g,r.lm,r.mt,r.wy,r.ls,r.ky,r.wl,r.ll,by show N<=M.next;rw[J];exact uN.2 ⟨r.nm,yp⟩,r.cm,r.tk,r.ib⟩
  .exact(hr.below F).of fun x j hl=>by cases j;exact K2.cK _ hl Ac.1
  .cases j;have l1:p<Z.heap.size:=aj;exact⟨gK l1 K2.size,by rw[K2.ext _ l1];exact Ac.1,by rw[K2.ext _ l1];exact Ac.2⟩
 have d2:Z.cell? (aA w.heap.size 0)=some (aK S 0):=x2.cell 0;have d3:Z.cell? (aA (w.heap.size+1) 0)=some (.slice (some (aA p u)) rs.length c):=x3.cell 0;have dn:Z.cell? (aA S 232)=some (uZ M.named):=by rw[H1.cK.cell];exact H1.cells.qp
 have dr:Z.cell? (aA p (u+1))=some (uZ ((rs.getD 0 (0,0)).2:Int)):=cell_of q1 (F.block _ z9);have df:=H1.cK.frozen 232;have zv:(0:Int)<(rs.length:Int):=aj;have hw:IntKind.u64.wrap (((rs.getD 0 (0,0)).2:Int)+1)=(((rs.getD 0 (0,0)).2+1:Nat):Int):=by grind [IntKind.wrap_u64,dH]
 have zp:∀(fn:Fn) (first cap:Array Value) (w:Wq),(Instr.makeFunc fn first cap).run prog w=.ok (.func fn first cap) w:=fun _ _ _ _=>rfl;have ug:=aG (dz r (dz J (dz h4 (dz o h6))));clear h r H1 x2 x3 K1 z5 F hr z8 yp h6 J h4 q0 q1 q2 q3;generalize (rs.getD 0 (0,0)).2=hi at dr hw hN;generalize hi+1=zn at hw hN;refine(callsIn_wide (n:=10)).1 ?_;refine callsIn_of_wp_marks func294 rfl trivial ?_ rfl;simp only[ntmps294,E8,pI,vD,Nat.reduceAdd,Nat.reduceSub,Ju,Jt,Cr,Jv,pJ,AA];gi_wp2;rw[<-ha,<-hc];clear ha hc;refine Ki ?_;gi_region
 rw[<-xt];clear xt d2 d3 dn dr df;obtain⟨e2,e3,ew,el⟩:i.cell? (aA w.heap.size 0)=some (aK S 0)/\i.cell? (aA (w.heap.size+1) 0)=some (.slice (some (aA p u)) rs.length c)/\i.cell? (aA S 230)=some (.map (some bw))/\i.cell? (aA S 231)=some (.map (some bl)):=by obtain⟨V,⟨⟨l1,v1,E⟩,g2,g3,g4,g5⟩,T⟩:=HJ.out;exact⟨g3.cell 0,T.b3.2.cell 0,by rw[E.cK.cell];exact E.cells.rA,by rw[E.cK.cell];exact E.cells.uW⟩
 gi_wp2;refine Ki ?_;gi_region
 obtain⟨W3,he⟩:=bU ((i.alloc (.cells #[.map (some bw),.map (some bl)] 203)).drew);rw[<-he];have h7:Hid (∃qP,JL oZ s w S bw bl bi d (some (aA p u)) c rs (some i.heap.size) [] {M with named:=N} qP [] W3):=by
  obtain⟨V,E,T⟩:=HJ.out;have h2:bJ i W3:=by rw[he];have hz:=(bP i.heap.size i).alloc (aI _) (.cells #[.map (some bw),.map (some bl)] 203);exact⟨hz.os,hz.tape,hz.output,hz.size,hz.block⟩
  obtain⟨o3,zr⟩:=bU (fun x=>if x<i.heap.size then V x else d:Own);have K:Kp [] V o3 i W3:=⟨h2.os,h2.tape,h2.output,h2.size,fun x j _=>h2.block x j,fun x j=>by grind⟩;have h8:=T.kp o K aR;refine⟨o3,JA.kp o _ _ _ _ _ E (K.mono aR),h8.b3,h8.rg,h8.ra,fun k hk=>?_,h8.ds⟩;cases hk;refine⟨by grind,?_⟩;rw[he];exact aS.new i 203 [.map (some bw),.map (some bl)]
 clear he HJ e2 e3 ew el;have z6:W3.cell? (aA i.heap.size 0)=some (.map (some bw)):=by obtain⟨o3,E,T⟩:=h7.out;exact(T.bq _ rfl).2.cell 0
 have xx:W3.cell? (aA i.heap.size 1)=some (.map (some bl)):=by obtain⟨o3,E,T⟩:=h7.out;exact(T.bq _ rfl).2.cell 1
 obtain⟨M2,xp⟩:∃M2:av,M2={M with named:=N,aM:=M.aM.filter fun x=> !names rs x.1}:=⟨_,rfl⟩;obtain⟨A,hA⟩:=bU (M.aM.filter fun x=>names rs x.1);have yk:Hid (bN 191 #[.map (some bw),.func (.func 337) #[] #[(aK (w.heap.size+1) 0)]] W3 (.map (some W3.heap.size)) fun q=>Hid (∃iA,JL oZ s w S bw bl bi d (some (aA p u)) c rs (some i.heap.size) [] M2 iA [] q/\wE iA (d+1) (s+44) q W3.heap.size A)):=by obtain⟨o3,g⟩:=h7.out;rw[xp,hA];exact qas g o yq
 have xi:=aG (dz xp hA);have xa:Hid (∀x∈A,x.2.bQ.length<=1000000/\∀f∈x.2.bQ,Qt f):=by obtain⟨r,J,h4,_,h6⟩:=ug.out;intro x j;rw[hA]at j;have:=r.wy x (dY.1 j).1;exact⟨fT this.2.1,this.2.2⟩
 clear xp hA h7;have t:∀x,s+41<=x->x∉T1 s:=fun x j e=>fT (Ae.1 e);gi_wp2;refine wpIn_loop_rounds 3 ?_;rw[roundsIn_succ];gi_wp2_with (first|(refine⟨trivial,?_⟩;gi_at_call 191;refine(callsIn_wide.2 yk.out).mono ?_;rintro e w4 ⟨rfl,H4⟩)|(refine⟨trivial,?_⟩;gi_at_call 197;refine(callsIn_wide.2 (Dg W3.heap.size w4)).mono ?_;rintro e C ⟨rfl,yr⟩;have xj:=aG yr;clear yr));have xd:Hid (∃rP,JL oZ s w S bw bl bi d (some (aA p u)) c rs (some i.heap.size) [] M2 rP [] C/\wE rP (d+1) (s+44) C W3.heap.size A/\aS C w4.heap.size 203 [.map (some W3.heap.size)]):=by
  obtain⟨o4,E,g2⟩:=H4.out;have K:Kp [] o4 o4 w4 C:=by rw[xj.out];exact Kp.alloc _ _ _ _
  exact⟨o4,JL.kp o _ _ _ _ _ E (K.mono aR),g2.kp K aR aR,by rw[xj.out];exact aS.new w4 203 _⟩
 clear yk H4 xj z6 xx;obtain⟨rP,h9,xn,xv⟩:=xd.out;refine vg aj (d+1) (s+44) (d+2) (d+3) (d+4) (T1 s) (JL oZ s w S bw bl bi d (some (aA p u)) c rs (some i.heap.size) [] M2) rfl xv xn (fun x j=>(xa.out x j).1) (t _ aj) (t _ aj) (t _ aj) (t _ aj) (t _ aj) aj (JL.kp o) h9 ?_ ?_
 .intro L H Q f W z1 h0 hf;obtain⟨x,j,xw⟩:=hf;have Nl:=(xa.out x j).2 f xw;obtain⟨k,hk⟩:∃k:Nat,f.aF=(k:Int):=⟨f.aF.toNat,fT Nl.st⟩;have Ao:k<8:=fT Nl.st;have z2:=h0.1.2.2.1.lt;have h3:=Sr S k f.aD;have hv:Hid (∀y,bN 198 #[aK S 0,eX f nZ] y (.iface (bkT f.aD) (I5 S k f.aD)) fun q=>bJ y q):=fun y=>by rw[<-h3];exact Df S k Ao f hk y
  have Sc:Hid (∀Y y,JL oZ s w S bw bl bi d (some (aA p u)) c rs (some i.heap.size) [] M2 Y Q y->WA prog (iW f.aD) #[I5 S k f.aD,eX f nZ] y fun e q=>e=.returned (.tuple #[])/\∃aX,JL oZ s w S bw bl bi d (some (aA p u)) c rs (some i.heap.size) [] M2 aX (Q++[f]) q/\Kp (T1 s) Y aX y q):=fun Y y hy=>U2 o f Nl k Ao hk hy;have z4:=U0 S k f.aD;have z3:=DY f.aD;obtain⟨Wa,v⟩:=bU (W.alloc (.cells (f_ f nZ).toArray 65));have P:aS Wa W.heap.size 65 (f_ f nZ):=by grind [aS.new]
  have Ka:Kp [] H H W Wa:=by grind [Kp.alloc]
  have zb:Wa.heap.size=W.heap.size+1:=by rw[v];simp
  generalize bkT f.aD=kT at *
  generalize I5 S k f.aD=kP at *
  generalize iW f.aD=kN at *
  clear h3 hk;unfold eX at *
  unfold f_ at v P;gi_wp2;rw[<-v];clear v;refine⟨Ka,fun X V s2 I=>?_⟩;have z:=P.of_heap (V W.heap.size aj);have VK:X.cell? (aA w.heap.size 0)=some (aK S 0):=I.1.2.2.1.cell 0;have xy:Hid (∀y,bJ X y->WA prog kN #[kP,.agg #[iZ f.aD,iZ f.aF,uZ f.aC,uZ f.aO,uZ f.aN,.bool f.bL,uZ f.id,uZ f.aJ,.string f.data,nZ]] y fun e q=>e=.returned (.tuple #[])/\∃aX,JL oZ s w S bw bl bi d (some (aA p u)) c rs (some i.heap.size) [] M2 aX (Q++[f]) q/\Kp (T1 s) H aX X q):=fun y hy=>by have K:Kp [] H H X y:=Kp.below hy;refine(Sc.out H y (JL.kp o _ _ _ _ _ I (K.mono aR))).mono ?_;rintro e q ⟨rfl,o',a1,a2⟩;exact⟨rfl,o',a1,(K.mono aR).trans a2⟩
  have xm:=aG z;have xz:=z.lt;obtain⟨x0,x1,x2,x3,x4,x5,x6,x7,x8,x9,xf⟩:=bF z;have oh:Hid (∀C,bJ X C->aS C W.heap.size 65 [iZ f.aD,iZ f.aF,uZ f.aC,uZ f.aO,uZ f.aN,.bool f.bL,uZ f.id,uZ f.aJ,.string f.data,nZ]):=fun C h5=>xm.out.of_heap (h5.block _ xz);clear z P I h0 V Sc Ka h9 xn xv xd;gi_wp2;gi_region_with (first|(refine⟨trivial,?_⟩;gi_at_call 198;refine(nM (hv.out _)).mono ?_;rintro e C ⟨rfl,m⟩;have O:bJ X C:=⟨m.os,m.tape,m.output,m.size,m.block⟩;clear m;obtain⟨y0,y1,y2,y3,y4,y5,y6,y7,y8,y9,yf⟩:=bF (oh.out C O);have hu:=aG O;clear O)|(refine⟨trivial,?_⟩;gi_at_fn kN;refine(nM (xy.out _ hu.out)).mono ?_;rintro e w6 ⟨rfl,hE⟩;have HE:=aG hE;clear hE))
  all_goals exact⟨rfl,HE.out⟩
 .intro jY lp W6 G hp yn hD oD z0;obtain⟨R,hg⟩:=bU ((bQ lp).foldl av.gJ M2);have xe:Hid (JL oZ s w S bw bl bi d (some (aA p u)) c rs (some i.heap.size) [G] R jY [] W6):=by
   obtain⟨⟨E,g2,g3,g4,g5⟩,T⟩:=yn;rw[<-hg]at E g5;refine⟨⟨E,g2,g3,g4,g5⟩,T.b3,T.rg,T.ra,T.bq,fun D yy=>?_⟩;rw[sD.1 yy];have:=h9.1.2.2.1.lt;grind
  have hj:Hid (R=(bQ lp).foldl av.gJ M2/\lp.Perm A/\R.bV=M.bV/\R.aM=M2.aM):=by
   refine⟨hg,hp,?_,?_⟩;.rw[hg,(vk _ _).2,xi.out.1]
   grind [vk]
  clear yn hg hp h9 xn xv xd oD z0;have xx:W6.cell? (aA i.heap.size 1)=some (.map (some bl)):=(xe.out.2.bq _ rfl).2.cell 1;obtain⟨M3,xr⟩:∃M3:av,M3={R with aM:=R.aM,bV:=M.bV.filter fun x=> !names rs x.1}:=⟨_,rfl⟩;obtain⟨B,hB⟩:=bU (M.bV.filter fun x=>names rs x.1);have ym:Hid (bN 191 #[.map (some bl),.func (.func 337) #[] #[(aK (w.heap.size+1) 0)]] W6 (.map (some W6.heap.size)) fun q=>Hid (∃iA,JL oZ s w S bw bl bi d (some (aA p u)) c rs (some i.heap.size) [G] M3 iA [] q/\wE iA (d+1) (s+44) q W6.heap.size B)):=by have:=qat xe.out o yq;rw[hj.out.2.2.1,<-xr,<-hB]at this;exact this
  have yi:=aG (dz xr hB);have yv:Hid (∀x∈B,x.2.bQ.length<=1000000/\∀f∈x.2.bQ,Qt f):=by obtain⟨r,J,h4,_,h6⟩:=ug.out;intro x j;rw[hB]at j;have:=r.ls x (dY.1 j).1;exact⟨fT this.2.1,this.2.2⟩
  clear xr hB xe xa;gi_wp2;rw[roundsIn_succ];gi_wp2_with (first|(refine⟨trivial,?_⟩;gi_at_call 191;refine(callsIn_wide.2 ym.out).mono ?_;rintro e w7 ⟨rfl,H7⟩)|(refine⟨trivial,?_⟩;gi_at_call 197;refine(callsIn_wide.2 (Dg W6.heap.size w7)).mono ?_;rintro e w8 ⟨rfl,ys⟩;have xl:=aG ys;clear ys));have ya:Hid (∃H,JL oZ s w S bw bl bi d (some (aA p u)) c rs (some i.heap.size) [G] M3 H [] w8/\wE H (d+1) (s+44) w8 W6.heap.size B/\aS w8 w7.heap.size 203 [.map (some W6.heap.size)]):=by
   obtain⟨o4,E,g2⟩:=H7.out;have K:Kp [] o4 o4 w7 w8:=by rw[xl.out];exact Kp.alloc _ _ _ _
   exact⟨o4,JL.kp o _ _ _ _ _ E (K.mono aR),g2.kp K aR aR,by rw[xl.out];exact aS.new w7 203 _⟩
  clear ym H7 xl xx;obtain⟨zw,ho,yd,ye⟩:=ya.out;refine vg aj (d+1) (s+44) (d+2) (d+3) (d+4) (T1 s) (JL oZ s w S bw bl bi d (some (aA p u)) c rs (some i.heap.size) [G] M3) rfl ye yd (fun x j=>(yv.out x j).1) (t _ aj) (t _ aj) (t _ aj) (t _ aj) (t _ aj) aj (JL.kp o) ho ?_ ?_
  .intro L H Q f W z1 h0 hf;obtain⟨x,j,xw⟩:=hf;have Nl:=(yv.out x j).2 f xw;obtain⟨k,hk⟩:∃k:Nat,f.aF=(k:Int):=⟨f.aF.toNat,fT Nl.st⟩;have Ao:k<8:=fT Nl.st;have z2:=h0.1.2.2.1.lt;have h3:=Sr S k f.aD;have hv:Hid (∀y,bN 198 #[aK S 0,eX f nZ] y (.iface (bkT f.aD) (I5 S k f.aD)) fun q=>bJ y q):=fun y=>by rw[<-h3];exact Df S k Ao f hk y
   have Sc:Hid (∀Y y,JL oZ s w S bw bl bi d (some (aA p u)) c rs (some i.heap.size) [G] M3 Y Q y->WA prog (iW f.aD) #[I5 S k f.aD,eX f nZ] y fun e q=>e=.returned (.tuple #[])/\∃aX,JL oZ s w S bw bl bi d (some (aA p u)) c rs (some i.heap.size) [G] M3 aX (Q++[f]) q/\Kp (T1 s) Y aX y q):=fun Y y hy=>U2 o f Nl k Ao hk hy;have z4:=U0 S k f.aD;have z3:=DY f.aD;obtain⟨Wa,v⟩:=bU (W.alloc (.cells (f_ f nZ).toArray 65));have P:aS Wa W.heap.size 65 (f_ f nZ):=by grind [aS.new]
   have Ka:Kp [] H H W Wa:=by grind [Kp.alloc]
   have zb:Wa.heap.size=W.heap.size+1:=by rw[v];simp
   generalize bkT f.aD=kT at *
   generalize I5 S k f.aD=kP at *
   generalize iW f.aD=kN at *
   clear h3 hk;unfold eX at *
   unfold f_ at v P;gi_wp2;rw[<-v];clear v;refine⟨Ka,fun X V s2 I=>?_⟩;have z:=P.of_heap (V W.heap.size aj);have VK:X.cell? (aA w.heap.size 0)=some (aK S 0):=I.1.2.2.1.cell 0;have xy:Hid (∀y,bJ X y->WA prog kN #[kP,.agg #[iZ f.aD,iZ f.aF,uZ f.aC,uZ f.aO,uZ f.aN,.bool f.bL,uZ f.id,uZ f.aJ,.string f.data,nZ]] y fun e q=>e=.returned (.tuple #[])/\∃aX,JL oZ s w S bw bl bi d (some (aA p u)) c rs (some i.heap.size) [G] M3 aX (Q++[f]) q/\Kp (T1 s) H aX X q):=fun y hy=>by have K:Kp [] H H X y:=Kp.below hy;refine(Sc.out H y (JL.kp o _ _ _ _ _ I (K.mono aR))).mono ?_;rintro e q ⟨rfl,o',a1,a2⟩;exact⟨rfl,o',a1,(K.mono aR).trans a2⟩
   have xm:=aG z;have xz:=z.lt;obtain⟨x0,x1,x2,x3,x4,x5,x6,x7,x8,x9,xf⟩:=bF z;have oh:Hid (∀C,bJ X C->aS C W.heap.size 65 [iZ f.aD,iZ f.aF,uZ f.aC,uZ f.aO,uZ f.aN,.bool f.bL,uZ f.id,uZ f.aJ,.string f.data,nZ]):=fun C h5=>xm.out.of_heap (h5.block _ xz);clear z P I h0 V Sc Ka ho yd ye ya;gi_wp2;gi_region_with (first|(refine⟨trivial,?_⟩;gi_at_call 198;refine(nM (hv.out _)).mono ?_;rintro e C ⟨rfl,m⟩;have O:bJ X C:=⟨m.os,m.tape,m.output,m.size,m.block⟩;clear m;obtain⟨y0,y1,y2,y3,y4,y5,y6,y7,y8,y9,yf⟩:=bF (oh.out C O);have hu:=aG O;clear O)|(refine⟨trivial,?_⟩;gi_at_fn kN;refine(nM (xy.out _ hu.out)).mono ?_;rintro e w6 ⟨rfl,hE⟩;have HE:=aG hE;clear hE))
   all_goals exact⟨rfl,HE.out⟩
  .intro Y lq W9 D2 hq xo zj zt zc;have yz:G<D2/\W9.heap[G]?=some (.deferred (some []))/\Y G=d+4/\w.heap.size<=G:=by
    obtain⟨a1,a2,a3⟩:=xo.2.ds G aR;obtain⟨b1,b2,b3⟩:=ho.2.ds G aR;grind
   have zd:(W9.putObj D2 (.deferred none)).heap[G]?=some (.deferred (some [])):=by grind [eB]
   have HE:Hid (∃M1,M.uH rs M1/\je s oZ w S bw bl bi M1 ((W9.putObj D2 (.deferred none)).putObj G (.deferred none))):=by
    obtain⟨r,J,h4,_,h6⟩:=ug.out;obtain⟨⟨⟨l1,v1,E⟩,g2,g3,g4,g5⟩,T⟩:=xo;have K9:Kp [d+4] Y Y W9 ((W9.putObj D2 (.deferred none)).putObj G (.deferred none)):=⟨rfl,rfl,rfl,aR,fun k hk hn=>by grind [eB],fun _ _=>rfl⟩;refine⟨_,?_,Y,l1,v1,E.kp K9 (fun x a b e=>by grind),?_⟩
    .refine⟨lp,lq,by rw[<-xi.out.2];exact hj.out.2.1,by rw[<-yi.out.2];exact hq,?_⟩;rw[EY];congr 1
     rw[yi.out.1,hj.out.2.2.2,hj.out.1,<-Hr,xi.out.1,J];rfl
    .refine Kp.less (U:=[d+4]++[d+3,d+2]) ?_ (fun b' zk e=>by grind);rw[lC];exact(g4.mono fun x j=>yY _ j).trans (K9.mono fun x j=>Az _ j)
   clear xo ya ho yd ye yz;gi_wp2;rw[roundsIn_succ];gi_wp2;refine⟨aR,.inl ⟨_,_,rfl,run_takeDeferred zc,?_⟩⟩;refine⟨aR,.inl ⟨_,_,rfl,run_takeDeferred zd,?_⟩⟩;exact⟨_,results_none rfl _ _ _,rfl,HE.out⟩
