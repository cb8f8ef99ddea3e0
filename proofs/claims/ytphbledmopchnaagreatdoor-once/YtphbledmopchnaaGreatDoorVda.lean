import Derived.Test.YtphbledmopchnaaGreatDoorVcd
import Derived.Test.YtphbledmopchnaaGreatDoorVce
import Derived.Shelf.AbstractIn
import Derived.Stop.RegionWithIn
import Derived.BigRegionIn
open Go.World renaming putObj_heap_other->eB
set_option maxHeartbeats 4000000
set_option maxRecDepth 100000
open Go renaming World->Wq,Calls->WB,undef->Vh
set_option linter.all false
namespace Go.Proofs.YtphbledmopchnaaGreatDoor.Sd
open Go.RowKit Go.Lib Mm Tryz
variable {F:Fence}{K:Act->Wq->Prop}{M M':av}{Q':Exit->Act->Wq->Prop}{S bi bl bw n s:Nat}{W w y:Wq}{a:Act}{c:Code}{i oZ:Own}{l:bJ}{v vc:Value}
section
attribute [local go_sem] qou
def Gf(h:c.wpIn F n prog (Exit.then K fun _ _ _=>False) a w):c.wpIn F n prog (Exit.then K Q') a w:=
 wpIn_mono h fun e d f b=>by
  cases e with
  |normal=>exact b
  |ret=>exact b.elim
  |exit i=>exact b.elim
  |goto i=>exact b.elim
  |panic c=>exact b.elim
  |outgrown=>exact b.elim
def wpIn_cut(act:Act)(R:Wq->Prop)(h:c.wpIn F n prog (Exit.then (fun f d=>f=act/\R d) fun _ _ _=>False) a w)(j:∀d,R d->K act d):c.wpIn F n prog (Exit.then K Q') a w:=
 wpIn_mono h fun e f d b=>by
  cases e with
  |normal=>obtain⟨rfl,g⟩:=b;exact j _ g
  |ret=>exact b.elim
  |exit i=>exact b.elim
  |goto i=>exact b.elim
  |panic c=>exact b.elim
  |outgrown=>exact b.elim
def LS(oZ:Own)(s:Nat)(w:Wq)(S bw bl bi tb:Nat)(M':av)(y:Wq):Prop:=
 ∃a c b,fH a s y S c M' bw bl bi b/\a w.heap.size=tb/\aL y w.heap.size 128 [aJ S 0]/\Kp (T0 s) oZ a w y
def LB(oZ:Own)(s:Nat)(w:Wq)(S bw bl bi tb:Nat)(v:Value)(M':av)(y:Wq):Prop:=
 ∃a c b,fH a s y S c M' bw bl bi b/\a w.heap.size=tb/\aL y w.heap.size 128 [aJ S 0]/\Kp (T0 s) oZ a w y/\GT a tb 294 1 y v 25 (bks S 8)
section
variable {oZ:Own} {s:Nat} {w:Wq} {S bw bl bi tb:Nat} {M':av} {y:Wq}
def LS.cells(h:LS oZ s w S bw bl bi tb M' y):y.cell? (ay w.heap.size 0)=some (aJ S 0)/\y.cell? (ay S 230)=some (.map (some bw))/\y.cell? (ay S 231)=some (.map (some bl)):=by obtain⟨o,c,d,a,_,b,_⟩:=h;exact⟨b.cell 0,by rw[a.bY.cell];exact a.cells.oM,by rw[a.bY.cell];exact a.cells.rV⟩
def LB.ls(h:LB oZ s w S bw bl bi tb v M' y):LS oZ s w S bw bl bi tb M' y:=by obtain⟨o,e,f,a,b,c,d,_⟩:=h;exact⟨o,e,f,a,b,c,d⟩
def qan(h:LS oZ s w S bw bl bi tb M' y)(t:s+100<=tb)(g:∀x∈M'.b_,x.1+64<18446744073709551616):qH 194 #[.map (some bl),.func (.func 195) #[] #[aJ w.heap.size 0]] y (.tuple #[]) fun m=>LS oZ s w S bw bl bi tb {M' with bf:=M'.bf,b_:=M'.b_.filter fun x=> !decide (x.1+64<M'.next)} m:=by
 obtain⟨o,u,z,a,c,d,p⟩:=h;have j:S≠bl:=fun e=>by obtain⟨f,f1,_⟩:=a.b_;have:=a.ow;rw[e,f1]at this;omega
 have i:w.heap.size≠bl:=fun e=>by obtain⟨f,f1,_⟩:=a.b_;rw[e,f1]at c;omega
 refine(a.b_.drop aj 195 #[] #[aJ w.heap.size 0] (enters_of func195 bO rfl) (fun n _=>decide (n+64<M'.next)) (fun x k v A W l=>?_)).mono ?_;·have q:W.heap[S]?=y.heap[S]?:=l.block S a.bY.lt (by simp;exact j);have r:W.heap[w.heap.size]?=y.heap[w.heap.size]?:=l.block _ d.lt (by simp;exact i);exact qf0 S w.heap.size x.1 M'.next v W ((d.of_heap r).cell 0) (by rw[(a.bY.of_heap q).cell];exact a.cells.n_) (g x k)
 ·rintro e m ⟨rfl,f1,b⟩;exact⟨rfl,o,u,z,a.ways b aM _ _ (a.Ay.kp b aM aM) f1,c,bU d b (by rw[c];simp;omega),p.trans (b.mono fun x k=>fC.2 (by simp at k;omega))⟩
def XB(h:LS oZ s w S bw bl bi tb M' y):WB prog 196 #[aJ S 0] y fun e i=>∃a c,e=.returned (.slice a 25 c)/\LB oZ s w S bw bl bi tb (.slice a 25 c) M' i:=by obtain⟨o,t,u,m,n,j,p⟩:=h;refine(Wt S y).mono ?_;rintro e i ⟨v,rfl,g,q,b⟩;obtain⟨a,c,rfl,_⟩:=g.shape;obtain⟨l,d⟩:=bT (fun x=>if x<y.heap.size then o x else tb:Own);have K:Kp [] o l y i:=⟨b.os,b.tape,b.output,b.size,fun x f _=>b.block x f,fun x f=>by rw[d];exact bM f⟩;exact⟨a,c,rfl,l,t,u,m.kp K aM,by rw[K.ext _ j.lt,n],bU j K aM,p.trans (K.mono aM),GT.Q_ g fun k r=>by rw[d];exact aV (bR (q k r))⟩
def qao{j:Nat}(h:LB oZ s w S bw bl bi tb v (M'.uR j) y)(n:j<25)(p:s+100<=tb)(m:∀k,(M'.out k).aP.rs.length<=1000000):WB prog (lN j) #[lP S j] y fun e d=>e=.returned (.tuple #[])/\LB oZ s w S bw bl bi tb v (M'.uR (j+1)) d:=by obtain⟨o,u,x,g,a,b,i,l⟩:=h;refine(Xz g j n (fun k=>by rw[DR];exact m k)).mono ?_;rintro e d ⟨rfl,r,q,t,f,K⟩;have c:tb∉T0 s:=fun e=>bR (fC.1 e);exact⟨rfl,r,q,t,f,by rw[K.ext _ b.lt,a],bU b K (by rw[a];exact c),i.trans K,l.kp K c⟩
end

def JA(oZ:Own)(s:Nat)(w:Wq)(S bw bl bi tb:Nat)(g:av->Fr->av)(b:av)(aQ:Own)(a:List Fr)(W:Wq):Prop:=
 (∃d c,fH aQ s W S d (a.foldl g b) bw bl bi c)/\aQ w.heap.size=tb/\aL W w.heap.size 128 [aJ S 0]/\Kp ([tb+3,tb+2]++T0 s) oZ aQ w W/\Bd (a.foldl g b)
def JA.kp{oZ:Own}{s:Nat}{w:Wq}{S bw bl bi tb:Nat}{g:av->Fr->av}{d:av}(o:s+100<=tb)(i gy:Own)(c:List Fr)(W f:Wq)(h:JA oZ s w S bw bl bi tb g d i c W)(K:Kp [tb+3,tb+2] i gy W f):JA oZ s w S bw bl bi tb g d gy c f:=by obtain⟨⟨q,r,l⟩,j,k,m,n⟩:=h;exact⟨⟨q,r,l.kp K (fun x a b e=>by simp at e;omega)⟩,by rw[K.ext _ k.lt,j],bU k K (by rw[j];simp),m.trans (K.mono fun x p=>qnr _ p),n⟩
def KQ(a:Int):∀args w,(callFunc (yZ a) args).run prog w=.ok (.enter (yZ a) args) w:=by
 unfold yZ;split;·exact enters_of func319 bO rfl
 ·split;·exact enters_of func342 bO rfl
  ·exact enters_of func311 bO rfl
def lV{L:Nat}{f:FuncId}{args:Array Value}{R:Ending->Wq->Prop}(h:WB prog f args w R):CallsIn (Fence.wide.inRound L) n prog f args w R:=callsIn_wide.2 h
def KR(j:Nat):∀args w,(callFunc (lN j) args).run prog w=.ok (.enter (lN j) args) w:=by
 unfold lN;split;·exact enters_of func392 bO rfl
 ·split;·exact enters_of func395 bO rfl
  ·exact enters_of func397 bO rfl
def qap(h:fH oZ s w S l M bw bl bi vc)(u:Bd M)(zf:M.aW<18446744073709551616)(ym:M.next<=dH):qH 154 #[aJ S 0] w (.tuple #[]) fun w'=>∃M1,M.lS M1/\iE s oZ w S bw bl bi M1 w':=by
 obtain⟨tb,r,p⟩:=vM oZ (s+100) w.heap.size;have zr:=h.s0;obtain⟨H,Y⟩:=bT (w.alloc (.cells #[aJ S 0] 128));have N:bE w H:=by rw[Y];exact(qlw _ w).alloc (qj _) _
 have yn:H.heap.size=w.heap.size+1:=by rw[Y];simp
 obtain⟨eZ,xi⟩:=bT (fun x=>if x<w.heap.size then oZ x else tb:Own);have V:Kp [] oZ eZ w H:=⟨N.os,N.tape,N.output,N.size,fun x c _=>N.block x c,fun x c=>by rw[xi];exact bM c⟩;have z:fH eZ s H S l M bw bl bi vc:=h.kp V aM;have d:aL H w.heap.size 128 [aJ S 0]:=by rw[Y];exact aL.new w 128 _
 have Q:eZ w.heap.size=tb:=by rw[xi];exact aV (qoh _)
 have zd:S≠bw:=fun e=>by obtain⟨f,f1,_⟩:=z.Ay;have:=z.ow;rw[e,f1]at this;omega
 have HT:Hid (∀q,qH 191 #[.map (some bw),.func (.func 192) #[aJ S 0] #[]] (H.drewN q) (.map (some (w.heap.size+1))) fun w'=>Hid (∃i,um i (s+42) (s+44) w' bw (M.bf.filter fun x=> !M.iy x)/\um i (tb+1) (s+44) w' (w.heap.size+1) (M.bf.filter M.iy)/\Kp [s+42] eZ i H w')):=fun q=>by
  have Hq:fH eZ s (H.drewN q) S l M bw bl bi vc:=z.below ⟨rfl,rfl,rfl,qj _,fun _ _=>rfl⟩;refine(Hq.Ay.take aj (bR u.wl) 192 #[aJ S 0] #[] (enters_of func192 bO rfl) (fun n t=>decide (6<=M.aW-t)||decide (n+3<M.named)) (tb+1) (fun x c v hv W hg=>?_)).mono ?_
  ·have ye:W.heap[S]?=(H.drewN q).heap[S]?:=hg.block S Hq.bY.lt (by simp;exact fun e=>zd e);have c3:W.cell? (ay S 3)=some (uZ M.aW):=by rw[(Hq.bY.of_heap ye).cell];exact Hq.cells.c3
   have nJ:W.cell? (ay S 232)=some (uZ M.named):=by rw[(Hq.bY.of_heap ye).cell];exact Hq.cells.nJ
   have zg:=u.tk x c;have zt:=(u.wy x c).1;have:=TF S M.aW M.named x.1 v W c3 nJ (by rw[hv];exact zg) zf (by unfold dH at ym;omega);rw[hv]at this;exact this
  ·rintro e w' ⟨he,i,G,Z,E⟩;have e9:(H.drewN q).heap.size=w.heap.size+1:=yn;rw[e9]at he Z;exact⟨he,i,G,Z,⟨E.os,E.tape,E.output,E.size,E.bY,E.ext⟩⟩
 have cw:H.cell? (ay S 230)=some (.map (some bw)):=by rw[z.bY.cell];exact z.cells.oM
 have cb:H.cell? (ay w.heap.size 0)=some (aJ S 0):=d.cell 0;have Ku:=z.bY.lt;have zp:∀(fn:Fn) (first cap:Array Value) (w:Wq),(Instr.makeFunc fn first cap).run prog w=.ok (.func fn first cap) w:=fun _ _ _ _=>rfl;have qP:=aF (dw h (dw u (dw z (dw d (dw Q (dw V (dw p r)))))));clear h u z d Q V p r xi N;refine(callsIn_wide (n:=10)).1 ?_;refine callsIn_of_wp_marks func154 rfl trivial ?_ rfl;simp only[ntmps154,qp1,qmp,qnc,Nat.reduceAdd,Nat.reduceSub,qq4,qq3,qp5,qq5,qmq,qom];gi_wp2;rw[<-Y];clear Y;refine wpIn_cut {tmps:=#[aJ S 0,aJ w.heap.size 0,.map (some (w.heap.size+1)),Vh,Vh,Vh,aJ S 0,aJ S 0,aJ S 230,.map (some bw),aJ S 0,.func (.func 192) #[aJ S 0] #[],.map (some (w.heap.size+1)),Vh,Vh,Vh,Vh,Vh,Vh,Vh,Vh,Vh,Vh,Vh,Vh,Vh,Vh,Vh,Vh,Vh,Vh,Vh,Vh,Vh,Vh,Vh,Vh,Vh,Vh,Vh,Vh,Vh,Vh,Vh,Vh,Vh,Vh,Vh,Vh],defers:=[]}
  (fun C=>Hid (∃i,um i (s+42) (s+44) C bw (M.bf.filter fun x=> !M.iy x)/\um i (tb+1) (s+44) C (w.heap.size+1) (M.bf.filter M.iy)/\Kp [s+42] eZ i H C)) ?_ (fun C H1=>?_)
 ·gi_region_with (refine⟨trivial,?_⟩;gi_at_call 191;refine(callsIn_wide.2 (HT.out _)).mono ?_;rintro e C ⟨rfl,H1⟩)
  all_goals exact⟨rfl,H1⟩
 obtain⟨A,hA⟩:=bT (M.bf.filter fun x=> !M.iy x);obtain⟨B,hB⟩:=bT (M.bf.filter M.iy);rw[<-hA,<-hB]at H1;have X:=aF (dw hA hB);clear hA hB HT;have H2:Hid (∃i,fH i s C S l {M with bf:=A,b_:=M.b_} bw bl bi vc/\um i (tb+1) (s+44) C (w.heap.size+1) B/\i w.heap.size=tb/\aL C w.heap.size 128 [aJ S 0]/\Kp (T0 s) oZ i w C):=by obtain⟨i,g1,g2,k1⟩:=H1.out;obtain⟨h,u,z,d,Q,V,p,r⟩:=qP.out;refine⟨i,z.ways k1 aM A M.b_ g1 (z.b_.kp k1 aM aM),g2,by rw[k1.ext _ d.lt,Q],bU d k1 (by rw[Q];simp;omega),(V.mono aM).trans (k1.mono fun x c=>fC.2 (by simp at c;omega))⟩
 have yi:∀ty,(Builtin.len_ #[203] ty #[.map (some (w.heap.size+1))]).run prog C=.ok (iZ B.length) C:=by obtain⟨i,_,⟨f,_,m,_⟩,_⟩:=H2.out;have:=m.len;rw[qmc]at this;exact this
 clear H1 cw cb;cases I:B with
 |nil=>
  rw[I]at yi;have h7:=aF I;clear I;have HE:Hid (∃M1,M.lS M1/\iE s oZ w S bw bl bi M1 C):=by
   obtain⟨i,G,Z,E,h4,h5⟩:=H2.out;have yk:M.bf.any M.iy=false:=by
    rw[Bool.eq_false_iff];intro he;obtain⟨x,c,hl⟩:=qo5.1 he;have:x∈B:=by rw[X.out.2];exact qm4.2 ⟨c,hl⟩
    rw[h7.out]at this;cases this
   refine⟨M,by unfold av.lS;rw[aV (by rw[yk];simp)],i,l,vc,?_,h5⟩;have z6:A=M.bf:=by rw[X.out.1];refine qo4.2 fun x c=>?_;have:=List.any_eq_false.1 yk x c;simpa using this
   rw[z6]at G;exact G
  gi_wp2;exact⟨_,results_none rfl _ _ _,rfl,HE.out⟩
 |cons b0 Bt=>
  have zl:¬(B.length:Int)=0:=by rw[I];simp;omega
  have h7:=aF I;clear I;have T:Hid (s+100<=tb/\(∀x∈M.b_++B,x.1+64<18446744073709551616)/\∀k,(M.out k).aP.rs.length<=1000000):=by
   obtain⟨h,u,z,d,Q,V,p,r⟩:=qP.out;refine⟨r,fun x c=>?_,fun k=>bR ((u.o k).c.len)⟩;have:x.1<M.next:=by
    rcases qm7.1 c with c|c;·exact(u.ls x c).1
    ·rw[X.out.2]at c;exact(u.wy x (qm4.1 c).1).1
   unfold dH at ym;omega
  obtain⟨z0,_,z3⟩:C.cell? (ay w.heap.size 0)=some (aJ S 0)/\C.cell? (ay S 230)=some (.map (some bw))/\C.cell? (ay S 231)=some (.map (some bl)):=by obtain⟨i,G,_,E,h4,h5⟩:=H2.out;exact LS.cells (oZ:=oZ) (s:=s) (tb:=tb) (bi:=bi) (M':={M with bf:=A,b_:=M.b_}) ⟨i,l,vc,G,E,h4,h5⟩
  have HC:Hid (qH 193 #[.map (some bl),.map (some (w.heap.size+1))] C (.tuple #[]) fun F=>LS oZ s w S bw bl bi tb {M with bf:=A,b_:=M.b_++B} F):=by
   obtain⟨i,G,Z,E,h4,h5⟩:=H2.out;obtain⟨h,u,z,d,Q,V,p,r⟩:=qP.out;have zo:B.length<=12:=by rw[X.out.2];exact qlz (qo1 _ _) u.wl
   refine(G.b_.copy Z aj aj (by have:=u.ll;show B.length+M.b_.length<100000;omega) (fun x c y hy=>?_)).mono ?_;·rw[X.out.2]at c;exact qna ((qpr.1 u.ky).2.2 y hy x (qm4.1 c).1)
   ·rintro e F ⟨rfl,f1,k1⟩;exact⟨rfl,i,l,vc,G.ways k1 aM A (M.b_++B) (G.Ay.kp k1 aM aM) f1,E,bU h4 k1 (by rw[E];simp;omega),h5.trans (k1.mono fun x c=>fC.2 (by simp at c;omega))⟩
  obtain⟨M3,hw⟩:∃M3,M3={M with bf:=A,b_:=(M.b_++B).filter fun x=> !decide (x.1+64<M.next)}:=⟨_,rfl⟩;have HD:Hid (∀F,LS oZ s w S bw bl bi tb {M with bf:=A,b_:=M.b_++B} F->qH 194 #[.map (some bl),.func (.func 195) #[] #[aJ w.heap.size 0]] F (.tuple #[]) fun w3=>LS oZ s w S bw bl bi tb M3 w3):=fun F Z=>by rw[hw];exact qan Z T.out.1 T.out.2.1
  have h0:=aF hw;clear hw;gi_wp2_with (first|(refine⟨trivial,?_⟩;gi_at_call 193;refine(callsIn_wide.2 HC.out).mono ?_;rintro e F ⟨rfl,hr⟩;obtain⟨QX,_,z4⟩:=hr.cells;have xp:=aF hr;clear hr)|(refine⟨trivial,?_⟩;gi_at_call 194;refine(callsIn_wide.2 (HD.out _ xp.out)).mono ?_;rintro e w3 ⟨rfl,hu⟩;obtain⟨z1,_,_⟩:=hu.cells;have xr:=aF hu;clear hu)|(refine⟨trivial,?_⟩;gi_at_call 196;refine(callsIn_wide.2 (XB xr.out)).mono ?_;rintro e w4 ⟨a4,c4,rfl,ya⟩;have xt:=aF ya;clear ya));have ys:Hid (∀k,(M3.out k).aP.rs.length<=1000000):=by rw[h0.out];exact T.out.2.2
  have xv:Hid (LB oZ s w S bw bl bi tb (.slice a4 25 c4) (M3.uR 0) w4):=xt;clear xt xp xr HC HD z0 z3 QX z4 z1 yi;gi_loopw [31] (fun xn wr=>∃j:Nat,j<=25/\xn=(iZ j)/\Hid (LB oZ s w S bw bl bi tb (.slice a4 25 c4) (M3.uR j) wr)) (fun xn _=>25-(RowKit.intOf xn).toNat)
  case atStart=>exact⟨0,aj,rfl,xv⟩
  case round=>
   obtain⟨j,hj,rfl,R⟩:=hrel;clear xv;by_cases zb:j<25
   ·have zj:(j:Int)<25:=aj;have xe:∃g,a4=some (ay g 0)/\wr.cell? (ay g j)=some (.iface (lT j) (lP S j)):=by
     obtain⟨o,l1,v1,G,Z,E,h4,h5⟩:=R.out;obtain⟨g,hg,_,_,hc,_⟩:=h5.cell j _ (Xy S 8 j aj);exact⟨g,hg,hc⟩
    obtain⟨g,hg,hc⟩:=xe;subst hg;have zc:=qam S j;have z9:=KR j;have BJ:=aF (qao R.out zb T.out.1 ys.out);generalize lT j=tj at *
    generalize lP S j=pj at *
    generalize lN j=nj at *
    gi_wp2_with (refine⟨trivial,?_⟩;gi_at_fn nj;refine(callsIn_wide.2 BJ.out).mono ?_;rintro e w5 ⟨rfl,yd⟩;have yv:=aF yd;clear yd);go_roundw;case rel=>exact⟨j+1,aj,aM,yv⟩
    case measure=>simp[RowKit.intOf];omega
   ·obtain rfl:j=25:=aj;obtain⟨z2,z5,_⟩:=R.out.ls.cells;have yy:Hid (M3.uR 25=M.wG):=by
     obtain⟨h,u,z,d,Q,V,p,r⟩:=qP.out;have e:=TD M3 (by rw[h0.out];exact z.lo) (by rw[h0.out];exact z.li);show M3.uR 25=M.wG;rw[e,h0.out,X.out.1,X.out.2];rfl
    gi_wp2_with (refine⟨trivial,?_⟩;gi_at_call 197;refine(callsIn_wide.2 (zX bw wr)).mono ?_;rintro e w7 ⟨rfl,yp⟩;have h8:=aF yp;clear yp);have HJ:Hid (∃xl,JA oZ s w S bw bl bi tb av.jq M.wG xl [] w7/\um xl (s+42) (s+44) w7 bw A/\aL w7 wr.heap.size 203 [.map (some bw)]):=by
     obtain⟨o,l1,v1,G,Z,E,h4,h5⟩:=R.out;obtain⟨h,u,z,d,Q,V,p,r⟩:=qP.out;rw[yy.out]at G;have K:Kp [] o o wr w7:=by rw[h8.out];exact Kp.alloc _ _ _ _
     have xx:=G.kp K aM;refine⟨o,⟨⟨l1,v1,xx⟩,Z,bU E K aM,(h4.trans (K.mono aM)).mono fun x c=>qne _ c,KH u⟩,?_,by rw[h8.out];exact aL.new wr 203 _⟩;have:=xx.Ay;rw[X.out.1];exact this
    clear R z2 z5 h8;have xo:Hid (∀x∈A,x.2.cZ.length<=1000000/\∀f∈x.2.cZ,UF f):=by obtain⟨h,u,z,d,Q,V,p,r⟩:=qP.out;intro x c;rw[X.out.1]at c;have:=u.wy x (qm4.1 c).1;exact⟨bR this.2.1,this.2.2⟩
    obtain⟨xl,ho,h9,xa⟩:=HJ.out;have P:∀x,s+41<=x->x∉T1 s:=fun x c e=>bR (xI.1 e);refine sZ aj (s+42) (s+44) (tb+2) (tb+3) (tb+4) (T1 s) (JA oZ s w S bw bl bi tb av.jq M.wG) rfl xa h9 (fun x c=>(xo.out x c).1) (P _ aj) (P _ aj) (P _ (bR T.out.1)) (P _ (bR T.out.1)) (P _ (bR T.out.1)) (bR T.out.1) (JA.kp T.out.1) ho ?_ ?_
    ·intro L DU xm f W zm xy hf;obtain⟨x,c,za⟩:=hf;have IE:=(xo.out x c).2 f za;obtain⟨k,hk⟩:∃k:Nat,f.aG=(k:Int):=⟨f.aG.toNat,bR IE.st⟩;have xK:k<8:=bR IE.st;have zn:w.heap.size<W.heap.size:=xy.2.2.1.lt;have yg:=Oi S k f.aD;have yr:Hid (∀y,qH 198 #[aJ S 0,eF f nZ] y (.iface (UJ f.aD) (Ez S k f.aD)) fun y'=>bE y y'):=fun y=>by rw[<-yg];exact zW S k xK f hk y
     have Ni:Hid (∀DV y,JA oZ s w S bw bl bi tb av.jq M.wG DV xm y->WB prog (yZ f.aD) #[Ez S k f.aD,eF f nZ] y fun e y'=>e=.returned (.tuple #[])/\∃aQ,JA oZ s w S bw bl bi tb av.jq M.wG aQ (xm++[f]) y'/\Kp (T1 s) DV aQ y y'):=fun DV y hy=>by obtain⟨⟨l1,v1,g1⟩,g2,g3,g4,g5⟩:=hy;refine(Xv g1 f k xK hk nZ (fun h4=>⟨(g5.o k).a,IE.dt h4⟩)).mono ?_;rintro e y' ⟨rfl,o2,l2,v2,a1,a2⟩;have hn:tb∉T1 s:=P _ (bR T.out.1);refine⟨rfl,o2,⟨⟨l2,v2,by rw[qnt];exact a1⟩,by rw[a2.ext _ g3.lt,g2],bU g3 a2 (by rw[g2];exact hn),g4.trans (a2.mono fun x c=>qne _ (Qo c)),by rw[qnt];exact KD g5 f IE⟩,a2⟩
     have zc:=qak S k f.aD;have z9:=KQ f.aD;obtain⟨Wa,J⟩:=bT (W.alloc (.cells (fJ f nZ).toArray 65));have xj:aL Wa W.heap.size 65 (fJ f nZ):=by rw[J];exact aL.new W 65 _
     have Ka:Kp [] DU DU W Wa:=by rw[J];exact Kp.alloc _ _ _ _
     have zs:Wa.heap.size=W.heap.size+1:=by rw[J];simp
     generalize UJ f.aD=kT at *
     generalize Ez S k f.aD=kP at *
     generalize yZ f.aD=kN at *
     clear yg hk;unfold eF at *
     unfold fJ at J xj;gi_wp2;rw[<-J];clear J;refine⟨Ka,fun F o2 s2 ha=>?_⟩;have h6:=xj.of_heap (o2 W.heap.size aj);have QX:F.cell? (ay w.heap.size 0)=some (aJ S 0):=ha.2.2.1.cell 0;have XC:Hid (∀y,bE F y->WB prog kN #[kP,.agg #[iZ f.aD,iZ f.aG,uZ f.aC,uZ f.aN,uZ f.aT,.bool f.bG,uZ f.id,uZ f.aH,.string f.data,nZ]] y fun e y'=>e=.returned (.tuple #[])/\∃aQ,JA oZ s w S bw bl bi tb av.jq M.wG aQ (xm++[f]) y'/\Kp (T1 s) DU aQ F y'):=fun y hy=>by have K:Kp [] DU DU F y:=Kp.below hy;refine(Ni.out DU y (JA.kp T.out.1 _ _ _ _ _ ha (K.mono aM))).mono ?_;rintro e y' ⟨rfl,o',a1,a2⟩;exact⟨rfl,o',a1,(K.mono aM).trans a2⟩
     have yz:=aF h6;have XD:W.heap.size<F.heap.size:=h6.lt;obtain⟨x0,x1,x2,x3,x4,x5,x6,x7,x8,x9,xf⟩:=bC h6;have mh:Hid (∀w5,bE F w5->aL w5 W.heap.size 65 [iZ f.aD,iZ f.aG,uZ f.aC,uZ f.aN,uZ f.aT,.bool f.bG,uZ f.id,uZ f.aH,.string f.data,nZ]):=fun w5 h5=>yz.out.of_heap (h5.block _ XD);clear h6 xj ha xy o2 Ni Ka ho h9 xa HJ;gi_wp2;gi_region_with (first|(refine⟨trivial,?_⟩;gi_at_call 198;refine(lV (yr.out _)).mono ?_;rintro e w5 ⟨rfl,O⟩;have xd:bE F w5:=⟨O.os,O.tape,O.output,O.size,O.block⟩;clear O;obtain⟨y0,y1,y2,y3,y4,y5,y6,y7,y8,y9,yf⟩:=bC (mh.out w5 xd);have yq:=aF xd;clear xd)|(refine⟨trivial,?_⟩;gi_at_fn kN;refine(lV (XC.out _ yq.out)).mono ?_;rintro e w6 ⟨rfl,hE⟩;have HE:=aF hE;clear hE))
     all_goals exact⟨rfl,HE.out⟩
    ·intro DV lp W' D hp xz hD oD z7;have HE:Hid (∃M1,M.lS M1/\iE s oZ w S bw bl bi M1 (W'.putObj D (.deferred none))):=by
      obtain⟨h,u,z,d,Q,V,p,r⟩:=qP.out;obtain⟨⟨l1,v1,g1⟩,g2,g3,g4,g5⟩:=xz;have K9:Kp [tb+4] DV DV W' (W'.putObj D (.deferred none)):=⟨rfl,rfl,rfl,aM,fun k hk hn=>eB (fun e=>hn (by rw[e,oD];simp)),fun _ _=>rfl⟩;refine⟨_,?_,DV,l1,v1,g1.kp K9 (fun x a b e=>by simp at e;omega),?_⟩
      ·unfold av.lS;have:M.bf.any M.iy=true:=by
        have hm:b0∈B:=by rw[h7.out];simp
        rw[X.out.2]at hm;exact qo5.2 ⟨b0,(qm4.1 hm).1,(qm4.1 hm).2⟩
       rw[bM this];exact⟨lp,by rw[<-X.out.1];exact hp,rfl⟩
      ·refine Kp.less (U:=[tb+4]++[tb+3,tb+2]) ?_ (fun b' z8 e=>by have:=p b' z8;simp at e;omega);rw[qmh];exact(g4.mono fun x c=>qne _ c).trans (K9.mono fun x c=>qnr _ c)
     clear xz HJ ho h9 xa;gi_wp2;refine⟨aM,.inl ⟨_,_,rfl,run_takeDeferred z7,?_⟩⟩;exact⟨_,results_none rfl _ _ _,rfl,HE.out⟩
end
section
def DW(X:av)(f:Fr):(X.gN f).bf=X.bf/\(X.gN f).b_=X.b_:=by
 unfold av.gN;repeat' split
 all_goals exact⟨rfl,rfl⟩
def tq:∀(l:List Fr) (X:av),(l.foldl av.gN X).bf=X.bf/\(l.foldl av.gN X).b_=X.b_
 |[],_=>⟨rfl,rfl⟩
 |f::t,X=>⟨(tq t _).1.trans (DW X f).1,(tq t _).2.trans (DW X f).2⟩
def Om(X:av)(f:Fr)(a b:List (Nat×ru)):({X with bf:=a,b_:=b}:av).gN f={X.gN f with bf:=a,b_:=b}:=by
 unfold av.gN;repeat' split
 all_goals rfl
def DX(a b:List (Nat×ru)):∀(l:List Fr) (X:av),l.foldl av.gN {X with bf:=a,b_:=b}={l.foldl av.gN X with bf:=a,b_:=b}
 |[],_=>rfl
 |f::t,X=>by show t.foldl av.gN (({X with bf:=a,b_:=b}:av).gN f)=_;rw[Om,DX a b t];rfl
def AO(b:Int):∀args w,(callFunc (iD b) args).run prog w=.ok (.enter (iD b) args) w:=by
 unfold iD;split;·exact enters_of func391 bO rfl
 ·split;·exact enters_of func394 bO rfl
  ·exact enters_of func396 bO rfl
structure LX (w:Wq) (s tb bw bl:Nat) (a:Option Addr) (c:Nat) (rs:bZ) (q:Option Nat) (Ds:List Nat) (aQ:Own) (W:Wq):Prop where
 b3:aQ (w.heap.size+1)=tb/\aL W (w.heap.size+1) 63 [.slice a rs.length c]
 rg:jA W a rs
 ra:∀x,a=some x->x.block<W.heap.size/\aQ x.block∉T0 s/\aQ x.block<tb
 bq:∀k,q=some k->aQ k=tb/\aL W k 203 [.map (some bw),.map (some bl)]
 ds:∀D∈Ds,w.heap.size<=D/\aQ D=tb+4/\W.heap[D]?=some (.deferred (some []))
def LX.kp{tb:Nat}{a:Option Addr}{c:Nat}{rs:bZ}{q:Option Nat}{Ds:List Nat}{l gy:Own}{j:Wq}{T:List Nat}(h:LX w s tb bw bl a c rs q Ds l W)(v:s+100<=tb)(K:Kp T l gy W j)(g:∀t∈T,t∈T0 s\/tb<t/\t≠tb+4):LX w s tb bw bl a c rs q Ds gy j:=by
 have n:tb∉T:=fun e=>by
  rcases g _ e with e|e;·have:=fC.1 e;omega
  ·omega
 have r:tb+4∉T:=fun e=>by
  rcases g _ e with e|e;·have:=fC.1 e;omega
  ·omega
 refine⟨⟨by rw[K.ext _ h.b3.2.lt,h.b3.1],bU h.b3.2 K (by rw[h.b3.1];exact n)⟩,h.rg.of fun x i f=>K.bY _ f (fun e=>?_),fun x i=>?_,fun k u=>?_,fun D p=>?_⟩
 ·obtain⟨_,d,m⟩:=h.ra x i;rcases g _ e with e|e;·exact d e
  ·omega
 ·obtain⟨b,d,m⟩:=h.ra x i;exact⟨qm9 b K.size,by rw[K.ext _ b];exact d,by rw[K.ext _ b];exact m⟩
 ·obtain⟨b,d⟩:=h.bq k u;exact⟨by rw[K.ext _ d.lt,b],bU d K (by rw[b];exact n)⟩
 ·obtain⟨o,b,d⟩:=h.ds D p;have f:=(qmt.1 d).1;exact⟨o,by rw[K.ext _ f,b],(K.bY _ f (by rw[b];exact r)).trans d⟩
section
variable {oZ:Own} {s:Nat} {w:Wq} {S bw bl bi tb:Nat} {a:Option Addr} {c:Nat} {rs:bZ} {q:Option Nat} {Ds:List Nat}
def JL(oZ:Own)(s:Nat)(w:Wq)(S bw bl bi tb:Nat)(a:Option Addr)(c:Nat)(rs:bZ)(q:Option Nat)(Ds:List Nat)(d:av)(aQ:Own)(b:List Fr)(W:Wq):Prop:=
 JA oZ s w S bw bl bi tb av.gN d aQ b W/\LX w s tb bw bl a c rs q Ds aQ W
def JL.kp{e:av}(b:s+100<=tb)(g gy:Own)(d:List Fr)(W f:Wq)(h:JL oZ s w S bw bl bi tb a c rs q Ds e g d W)(K:Kp [tb+3,tb+2] g gy W f):JL oZ s w S bw bl bi tb a c rs q Ds e gy d f:=
 ⟨JA.kp b _ _ _ _ _ h.1 K,h.2.kp b K fun t i=>by simp at i;omega⟩
def Qq{n:av}{l:Own}{d:List Fr}(i:s+100<=tb)(f:Fr)(m:UF f)(k:Nat)(J:k<8)(C:f.aG=(k:Int))(h:JL oZ s w S bw bl bi tb a c rs q Ds n l d y):WB prog (iD f.aD) #[Ez S k f.aD,eF f nZ] y fun e j=>e=.returned (.tuple #[])/\∃o,JL oZ s w S bw bl bi tb a c rs q Ds n o (d++[f]) j/\Kp (T1 s) l o y j:=by obtain⟨⟨⟨K,L,v⟩,p,r,z,g⟩,A⟩:=h;refine bH (Xw v f k J C nZ (fun B=>⟨(g.o k).a,(g.o k).c,m.dt B⟩)) ?_;rintro j ⟨H,G,I,u,b⟩;have D:tb∉T1 s:=fun e=>bR (xI.1 e);exact⟨rfl,H,⟨⟨⟨G,I,by rw[qnt];exact u⟩,by rw[b.ext _ r.lt,p],bU r b (by rw[p];exact D),z.trans (b.mono fun x F=>qne _ (Qo F)),by rw[qnt];exact KE g f m⟩,A.kp i b fun t E=>.inl (Qo E)⟩,b⟩
def Qr(h:Bd M)(p r:Nat×ru->Bool):Bd {M with bf:=M.bf.filter p,b_:=M.b_.filter r}:=
 ⟨h.o,h.i,h.g,h.lm,h.mt,fun x b=>h.wy x (qm4.1 b).1,fun x b=>h.ls x (qm4.1 b).1,h.ky.sublist (qp7.append qp7),qlz (qo1 _ _) h.wl,qlz (qo1 _ _) h.ll,h.nm,h.cm,fun x b=>h.tk x (qm4.1 b).1,h.ib⟩
def KS{g:Own}(h:LX w s tb bw bl a c rs q Ds g y)(b:Nat)(d:g b∈T0 s)(m:s+100<=tb)(l:rs.length<=1000000)(i:y.grownBy W (some b))(n:Nat)(v:Option Addr×Nat×Nat×Nat):qH 337 #[uZ n,wX v,(aJ (w.heap.size+1) 0)] W (.bool (names rs n)) fun j=>bE W j:=by have k:aL W (w.heap.size+1) 63 [.slice a rs.length c]:=h.b3.2.of_heap (i.block _ h.b3.2.lt (by simp only[ne_eq,qng];intro e;rw[<-e,h.b3.1]at d;have:=fC.1 d;omega));refine XA (w.heap.size+1) n a rs c v W (k.cell 0) (h.rg.of fun x o f=>i.block _ f (by simp only[ne_eq,qng];intro e;exact(h.ra x o).2.1 (by rw[e];exact d))) l
def XE(h:JL oZ s w S bw bl bi tb a c rs q Ds M' i [] y)(d:s+100<=tb)(B:rs.length<=1000000):qH 191 #[.map (some bw),.func (.func 337) #[] #[(aJ (w.heap.size+1) 0)]] y (.map (some y.heap.size)) fun k=>∃g,JL oZ s w S bw bl bi tb a c rs q Ds {M' with bf:=M'.bf.filter fun x=> !names rs x.1,b_:=M'.b_} g [] k/\um g (tb+1) (s+44) k y.heap.size (M'.bf.filter fun x=>names rs x.1):=by
 obtain⟨⟨⟨r,u,b⟩,l,m,z,e⟩,o⟩:=h;have b:fH i s y S r M' bw bl bi u:=b;have e:Bd M':=e;have j:i bw=s+42:=by obtain⟨f,f1,_⟩:=b.Ay;exact f1
 refine bH (b.Ay.take aj (bR e.wl) 337 #[] #[(aJ (w.heap.size+1) 0)] (enters_of func337 bO rfl) (fun n _=>names rs n) (tb+1) (fun x p v D W A=>KS o bw (by rw[j];exact fC.2 aj) d B A x.1 v)) ?_;rintro k ⟨g,f1,f2,K⟩;refine⟨rfl,g,⟨⟨⟨r,u,b.ways K aM _ _ f1 (b.b_.kp K aM aM)⟩,by rw[K.ext _ m.lt,l],bU m K (by rw[l];simp;omega),z.trans (K.mono fun x p=>qne _ (fC.2 (by simp at p;omega))),?_⟩,o.kp d K fun t C=>.inl (fC.2 (by simp at C;omega))⟩,f2⟩;have:=Qr e (fun x=> !names rs x.1) (fun _=>true);rw[qo4.2 (fun _ _=>rfl)]at this;exact this
def XF(h:JL oZ s w S bw bl bi tb a c rs q Ds M' i [] y)(d:s+100<=tb)(B:rs.length<=1000000):qH 191 #[.map (some bl),.func (.func 337) #[] #[(aJ (w.heap.size+1) 0)]] y (.map (some y.heap.size)) fun k=>∃g,JL oZ s w S bw bl bi tb a c rs q Ds {M' with bf:=M'.bf,b_:=M'.b_.filter fun x=> !names rs x.1} g [] k/\um g (tb+1) (s+44) k y.heap.size (M'.b_.filter fun x=>names rs x.1):=by
 obtain⟨⟨⟨r,u,b⟩,l,m,z,e⟩,o⟩:=h;have b:fH i s y S r M' bw bl bi u:=b;have e:Bd M':=e;have j:i bl=s+43:=by obtain⟨f,f1,_⟩:=b.b_;exact f1
 refine bH (b.b_.take aj (bR e.ll) 337 #[] #[(aJ (w.heap.size+1) 0)] (enters_of func337 bO rfl) (fun n _=>names rs n) (tb+1) (fun x p v D W A=>KS o bl (by rw[j];exact fC.2 aj) d B A x.1 v)) ?_;rintro k ⟨g,f1,f2,K⟩;refine⟨rfl,g,⟨⟨⟨r,u,b.ways K aM _ _ (b.Ay.kp K aM aM) f1⟩,by rw[K.ext _ m.lt,l],bU m K (by rw[l];simp;omega),z.trans (K.mono fun x p=>qne _ (fC.2 (by simp at p;omega))),?_⟩,o.kp d K fun t C=>.inl (fC.2 (by simp at C;omega))⟩,f2⟩;have:=Qr e (fun _=>true) (fun x=> !names rs x.1);rw[qo4.2 (fun _ _=>rfl)]at this;exact this
end

end
section
attribute [local go_sem] qou
def fH.nam{w':Wq}{l':bJ}{b:Value}(h:fH oZ s w S l M bw bl bi b)(n:Nat)(q:f_ w w' S l l' 232 1)(a:l'[232]?=some (uZ n)):iE s oZ w S bw bl bi {M with named:=n} w':=by have c:=h.cells;have e:∀j,j≠232->l'[j]?=l[j]?:=fun j d=>q.dW.2 j aj;exact h.cell 232 1 aj q ⟨q.dW.1.trans c.len,(e _ aj).trans c.c0,(e _ aj).trans c.c1,(e _ aj).trans c.c2,(e _ aj).trans c.c3,(e _ aj).trans c.qU,c.gr.dW q.dW aj,(e _ aj).trans c.sP,(e _ aj).trans c.sQ,(e _ aj).trans c.pQ,(e _ aj).trans c.nH,(e _ aj).trans c.n_,(e _ aj).trans c.oM,(e _ aj).trans c.rV,a,(e _ aj).trans c.jd,(e _ aj).trans c.qA,(e _ aj).trans c.pR,(e _ aj).trans c.qV,(e _ aj).trans c.rW,(e _ aj).trans c.oO,(e _ aj).trans c.tY⟩ rfl rfl rfl rfl rfl rfl rfl
def qaq(w:Wq)(h:fH oZ s w S l M bw bl bi vc)(t:Bd M)(a:Option Addr)(c:Nat)(rs:bZ)(hr:jA w a rs)(z7:0<rs.length)(yr:rs.length<=1000000)(yq:∀x,a=some x->oZ x.block∉T0 s)(yn:(rs.getD 0 (0,0)).2<M.next)(h2:M.next<=dH):qH 294 #[aJ S 0,.slice a rs.length c] w (.tuple #[]) fun w'=>∃M1,M.tN rs M1/\iE s oZ w S bw bl bi M1 w':=by
 obtain⟨d,p,P⟩:=vM oZ (s+100) w.heap.size;have zj:=h.s0;obtain⟨q,v,rfl,q0,q1,q2,q3⟩:=hr 0 z7;obtain⟨W0,h4⟩:=bT (w.alloc (.cells #[aJ S 0] 128));obtain⟨Y,h0⟩:=bT (W0.alloc (.cells #[.slice (some (ay q v)) rs.length c] 63));have ys:W0.heap.size=w.heap.size+1:=by rw[h4];simp
 have zc:Y.heap.size=w.heap.size+2:=by rw[h0];simp;omega
 have F:bE w Y:=by rw[h0,h4];exact((qlw _ w).alloc (qj _) _).alloc aM _
 obtain⟨eG,he⟩:=bT (fun x=>if x<w.heap.size then oZ x else d:Own);have K1:Kp [] oZ eG w Y:=⟨F.os,F.tape,F.output,F.size,fun x i _=>F.block x i,fun x i=>by rw[he];exact bM i⟩;have x2:aL Y w.heap.size 128 [aJ S 0]:=by
  have:aL W0 w.heap.size 128 [aJ S 0]:=by rw[h4];exact aL.new w 128 _
  exact this.of_heap (by rw[h0];exact qmr _ _ _ aj)
 have x3:aL Y (w.heap.size+1) 63 [.slice (some (ay q v)) rs.length c]:=by rw[h0,<-ys];exact aL.new W0 63 _
 have xy:q<w.heap.size:=qmf w _ (by rw[q0]);have H1:=h.kp K1 aM;obtain⟨N,hN,J⟩:=max2 M.named ((rs.getD 0 (0,0)).2+1);obtain⟨j,xr⟩:=bT ((Y.setCell (ay S 232) (uZ N)).drew);have HJ:Hid (∃gy,JL oZ s w S bw bl bi d (some (ay q v)) c rs none [] {M with named:=N} gy [] j):=by
  obtain⟨V,l2,v2,a0,a2⟩:=H1.nam N (f_.one H1.bY 232 (uZ N) 232 1 (qj _) aj) (cB l 232 _ _ H1.cells.nJ);have Kd:Kp [] V V (Y.setCell (ay S 232) (uZ N)) j:=by rw[xr];exact⟨rfl,rfl,rfl,qj _,fun _ _ _=>rfl,fun _ _=>rfl⟩
  have a1:=a0.kp Kd aM;have o0:eG w.heap.size=d:=by rw[he];exact aV (qoh _)
  have o1:eG (w.heap.size+1)=d:=by rw[he];exact aV aj
  have hn:d∉T0 s:=fun e=>bR (fC.1 e);have xA:eG q∉T0 s/\eG q<d:=by rw[K1.ext q xy];exact⟨yq _ rfl,P q xy⟩
  have K2:Kp (T0 s) eG V Y j:=a2.trans (Kd.mono aM);refine⟨V,⟨⟨l2,v2,a1⟩,by rw[K2.ext _ x2.lt,o0],bU x2 K2 (by rw[o0];exact hn),((K1.mono aM).trans K2).mono fun x i=>qne _ i,?_⟩,⟨⟨by rw[K2.ext _ x3.lt,o1],bU x3 K2 (by rw[o1];exact hn)⟩,?_,fun x i=>?_,aM,aM⟩⟩;·exact⟨t.o,t.i,t.g,t.lm,t.mt,t.wy,t.ls,t.ky,t.wl,t.ll,by show N<=M.next;rw[J];exact qp0.2 ⟨t.nm,yn⟩,t.cm,t.tk,t.ib⟩
  ·exact(hr.below F).of fun x i hl=>by cases i;exact K2.bY _ hl xA.1
  ·cases i;have l1:q<Y.heap.size:=aj;exact⟨qm9 l1 K2.size,by rw[K2.ext _ l1];exact xA.1,by rw[K2.ext _ l1];exact xA.2⟩
 have d2:Y.cell? (ay w.heap.size 0)=some (aJ S 0):=x2.cell 0;have d3:Y.cell? (ay (w.heap.size+1) 0)=some (.slice (some (ay q v)) rs.length c):=x3.cell 0;have dn:Y.cell? (ay S 232)=some (uZ M.named):=by rw[H1.bY.cell];exact H1.cells.nJ
 have dr:Y.cell? (ay q (v+1))=some (uZ ((rs.getD 0 (0,0)).2:Int)):=cell_of q1 (F.block _ xy);have df:=H1.bY.frozen 232;have zm:(0:Int)<(rs.length:Int):=aj;have hw:IntKind.u64.wrap (((rs.getD 0 (0,0)).2:Int)+1)=(((rs.getD 0 (0,0)).2+1:Nat):Int):=by rw[qn5];unfold dH at h2;omega
 have zg:∀(fn:Fn) (first cap:Array Value) (w:Wq),(Instr.makeFunc fn first cap).run prog w=.ok (.func fn first cap) w:=fun _ _ _ _=>rfl;have qP:=aF (dw t (dw J (dw P (dw p h2))));clear h t H1 x2 x3 K1 he F hr yq yn h2 J P q0 q1 q2 q3;generalize (rs.getD 0 (0,0)).2=hi at dr hw hN;generalize hi+1=zf at hw hN;refine(callsIn_wide (n:=10)).1 ?_;refine callsIn_of_wp_marks func294 rfl trivial ?_ rfl;simp only[ntmps294,qp1,qmp,qnc,Nat.reduceAdd,Nat.reduceSub,qq4,qq3,qp5,qq5,qmq,qom];gi_wp2;rw[<-h4,<-h0];clear h4 h0;refine Gf ?_;gi_region
 rw[<-xr];clear xr d2 d3 dn dr df;obtain⟨e2,e3,ew,el⟩:j.cell? (ay w.heap.size 0)=some (aJ S 0)/\j.cell? (ay (w.heap.size+1) 0)=some (.slice (some (ay q v)) rs.length c)/\j.cell? (ay S 230)=some (.map (some bw))/\j.cell? (ay S 231)=some (.map (some bl)):=by obtain⟨V,⟨⟨l1,v1,E⟩,g2,g3,g4,g5⟩,Z⟩:=HJ.out;exact⟨g3.cell 0,Z.b3.2.cell 0,by rw[E.bY.cell];exact E.cells.oM,by rw[E.bY.cell];exact E.cells.rV⟩
 gi_wp2;refine Gf ?_;gi_region
 obtain⟨W3,hc⟩:=bT ((j.alloc (.cells #[.map (some bw),.map (some bl)] 203)).drew);rw[<-hc];have h8:Hid (∃nP,JL oZ s w S bw bl bi d (some (ay q v)) c rs (some j.heap.size) [] {M with named:=N} nP [] W3):=by
  obtain⟨V,E,Z⟩:=HJ.out;have h6:bE j W3:=by rw[hc];have hz:=(qlw j.heap.size j).alloc (qj _) (.cells #[.map (some bw),.map (some bl)] 203);exact⟨hz.os,hz.tape,hz.output,hz.size,hz.block⟩
  obtain⟨o3,yp⟩:=bT (fun x=>if x<j.heap.size then V x else d:Own);have K:Kp [] V o3 j W3:=⟨h6.os,h6.tape,h6.output,h6.size,fun x i _=>h6.block x i,fun x i=>by rw[yp];exact bM i⟩;have h9:=Z.kp p K aM;refine⟨o3,JA.kp p _ _ _ _ _ E (K.mono aM),h9.b3,h9.rg,h9.ra,fun k hk=>?_,h9.ds⟩;cases hk;refine⟨by rw[yp];exact aV (qoh _),?_⟩;rw[hc];exact aL.new j 203 [.map (some bw),.map (some bl)]
 clear hc HJ e2 e3 ew el;have z6:W3.cell? (ay j.heap.size 0)=some (.map (some bw)):=by obtain⟨o3,E,Z⟩:=h8.out;exact(Z.bq _ rfl).2.cell 0
 have xx:W3.cell? (ay j.heap.size 1)=some (.map (some bl)):=by obtain⟨o3,E,Z⟩:=h8.out;exact(Z.bq _ rfl).2.cell 1
 obtain⟨M2,xo⟩:∃M2:av,M2={M with named:=N,bf:=M.bf.filter fun x=> !names rs x.1}:=⟨_,rfl⟩;obtain⟨A,hA⟩:=bT (M.bf.filter fun x=>names rs x.1);have yg:Hid (qH 191 #[.map (some bw),.func (.func 337) #[] #[(aJ (w.heap.size+1) 0)]] W3 (.map (some W3.heap.size)) fun r=>Hid (∃gy,JL oZ s w S bw bl bi d (some (ay q v)) c rs (some j.heap.size) [] M2 gy [] r/\um gy (d+1) (s+44) r W3.heap.size A)):=by obtain⟨o3,g⟩:=h8.out;rw[xo,hA];exact XE g p yr
 have xd:=aF (dw xo hA);have hu:Hid (∀x∈A,x.2.cZ.length<=1000000/\∀f∈x.2.cZ,UF f):=by obtain⟨t,J,P,_,h2⟩:=qP.out;intro x i;rw[hA]at i;have:=t.wy x (qm4.1 i).1;exact⟨bR this.2.1,this.2.2⟩
 clear xo hA h8;have u:∀x,s+41<=x->x∉T1 s:=fun x i e=>bR (xI.1 e);gi_wp2;refine wpIn_loop_rounds 3 ?_;rw[roundsIn_succ];gi_wp2_with (first|(refine⟨trivial,?_⟩;gi_at_call 191;refine(callsIn_wide.2 yg.out).mono ?_;rintro e w4 ⟨rfl,H4⟩)|(refine⟨trivial,?_⟩;gi_at_call 197;refine(callsIn_wide.2 (zX W3.heap.size w4)).mono ?_;rintro e C ⟨rfl,yv⟩;have xe:=aF yv;clear yv));have hv:Hid (∃oI,JL oZ s w S bw bl bi d (some (ay q v)) c rs (some j.heap.size) [] M2 oI [] C/\um oI (d+1) (s+44) C W3.heap.size A/\aL C w4.heap.size 203 [.map (some W3.heap.size)]):=by
  obtain⟨o4,E,g2⟩:=H4.out;have K:Kp [] o4 o4 w4 C:=by rw[xe.out];exact Kp.alloc _ _ _ _
  exact⟨o4,JL.kp p _ _ _ _ _ E (K.mono aM),g2.kp K aM aM,by rw[xe.out];exact aL.new w4 203 _⟩
 clear yg H4 xe z6 xx;obtain⟨oI,ha,xm,xt⟩:=hv.out;refine sZ aj (d+1) (s+44) (d+2) (d+3) (d+4) (T1 s) (JL oZ s w S bw bl bi d (some (ay q v)) c rs (some j.heap.size) [] M2) rfl xt xm (fun x i=>(hu.out x i).1) (u _ aj) (u _ aj) (u _ aj) (u _ aj) (u _ aj) aj (JL.kp p) ha ?_ ?_
 ·intro L H R f W z1 h3 hf;obtain⟨x,i,xv⟩:=hf;have IE:=(hu.out x i).2 f xv;obtain⟨k,hk⟩:∃k:Nat,f.aG=(k:Int):=⟨f.aG.toNat,bR IE.st⟩;have xK:k<8:=bR IE.st;have z2:w.heap.size<W.heap.size:=h3.1.2.2.1.lt;have h7:=Oi S k f.aD;have ho:Hid (∀y,qH 198 #[aJ S 0,eF f nZ] y (.iface (UJ f.aD) (Ez S k f.aD)) fun r=>bE y r):=fun y=>by rw[<-h7];exact zW S k xK f hk y
  have Ni:Hid (∀DV y,JL oZ s w S bw bl bi d (some (ay q v)) c rs (some j.heap.size) [] M2 DV R y->WB prog (iD f.aD) #[Ez S k f.aD,eF f nZ] y fun e r=>e=.returned (.tuple #[])/\∃aQ,JL oZ s w S bw bl bi d (some (ay q v)) c rs (some j.heap.size) [] M2 aQ (R++[f]) r/\Kp (T1 s) DV aQ y r):=fun DV y hy=>Qq p f IE k xK hk hy;have z5:=Qm S k f.aD;have z4:=AO f.aD;obtain⟨Wa,m⟩:=bT (W.alloc (.cells (fJ f nZ).toArray 65));have Q:aL Wa W.heap.size 65 (fJ f nZ):=by rw[m];exact aL.new W 65 _
  have Ka:Kp [] H H W Wa:=by rw[m];exact Kp.alloc _ _ _ _
  have z8:Wa.heap.size=W.heap.size+1:=by rw[m];simp
  generalize UJ f.aD=kT at *
  generalize Ez S k f.aD=kP at *
  generalize iD f.aD=kN at *
  clear h7 hk;unfold eF at *
  unfold fJ at m Q;gi_wp2;rw[<-m];clear m;refine⟨Ka,fun T V s2 I=>?_⟩;have z:=Q.of_heap (V W.heap.size aj);have QX:T.cell? (ay w.heap.size 0)=some (aJ S 0):=I.1.2.2.1.cell 0;have XC:Hid (∀y,bE T y->WB prog kN #[kP,.agg #[iZ f.aD,iZ f.aG,uZ f.aC,uZ f.aN,uZ f.aT,.bool f.bG,uZ f.id,uZ f.aH,.string f.data,nZ]] y fun e r=>e=.returned (.tuple #[])/\∃aQ,JL oZ s w S bw bl bi d (some (ay q v)) c rs (some j.heap.size) [] M2 aQ (R++[f]) r/\Kp (T1 s) H aQ T r):=fun y hy=>by have K:Kp [] H H T y:=Kp.below hy;refine(Ni.out H y (JL.kp p _ _ _ _ _ I (K.mono aM))).mono ?_;rintro e r ⟨rfl,o',a1,a2⟩;exact⟨rfl,o',a1,(K.mono aM).trans a2⟩
  have xj:=aF z;have XD:W.heap.size<T.heap.size:=z.lt;obtain⟨x0,x1,x2,x3,x4,x5,x6,x7,x8,x9,xf⟩:=bC z;have mh:Hid (∀C,bE T C->aL C W.heap.size 65 [iZ f.aD,iZ f.aG,uZ f.aC,uZ f.aN,uZ f.aT,.bool f.bG,uZ f.id,uZ f.aH,.string f.data,nZ]):=fun C h5=>xj.out.of_heap (h5.block _ XD);clear z Q I h3 V Ni Ka ha xm xt hv;gi_wp2;gi_region_with (first|(refine⟨trivial,?_⟩;gi_at_call 198;refine(lV (ho.out _)).mono ?_;rintro e C ⟨rfl,o⟩;have O:bE T C:=⟨o.os,o.tape,o.output,o.size,o.block⟩;clear o;obtain⟨y0,y1,y2,y3,y4,y5,y6,y7,y8,y9,yf⟩:=bC (mh.out C O);have hm:=aF O;clear O)|(refine⟨trivial,?_⟩;gi_at_fn kN;refine(lV (XC.out _ hm.out)).mono ?_;rintro e w6 ⟨rfl,hE⟩;have HE:=aF hE;clear hE))
  all_goals exact⟨rfl,HE.out⟩
 ·intro jl lp W6 G hp ym hD oD yk;obtain⟨X,XG⟩:=bT ((cZ lp).foldl av.gN M2);have xa:Hid (JL oZ s w S bw bl bi d (some (ay q v)) c rs (some j.heap.size) [G] X jl [] W6):=by
   obtain⟨⟨E,g2,g3,g4,g5⟩,Z⟩:=ym;rw[<-XG]at E g5;refine⟨⟨E,g2,g3,g4,g5⟩,Z.b3,Z.rg,Z.ra,Z.bq,fun D z0=>?_⟩;rw[qmi.1 z0];have:w.heap.size<C.heap.size:=ha.1.2.2.1.lt;exact⟨aj,oD,yk⟩
  have hg:Hid (X=(cZ lp).foldl av.gN M2/\lp.Perm A/\X.b_=M.b_/\X.bf=M2.bf):=by
   refine⟨XG,hp,?_,?_⟩;·rw[XG,(tq _ _).2,xd.out.1]
   ·rw[XG,(tq _ _).1]
  clear ym XG hp ha xm xt hv oD yk;have xx:W6.cell? (ay j.heap.size 1)=some (.map (some bl)):=(xa.out.2.bq _ rfl).2.cell 1;obtain⟨M3,xp⟩:∃M3:av,M3={X with bf:=X.bf,b_:=M.b_.filter fun x=> !names rs x.1}:=⟨_,rfl⟩;obtain⟨B,hB⟩:=bT (M.b_.filter fun x=>names rs x.1);have yi:Hid (qH 191 #[.map (some bl),.func (.func 337) #[] #[(aJ (w.heap.size+1) 0)]] W6 (.map (some W6.heap.size)) fun r=>Hid (∃gy,JL oZ s w S bw bl bi d (some (ay q v)) c rs (some j.heap.size) [G] M3 gy [] r/\um gy (d+1) (s+44) r W6.heap.size B)):=by have:=XF xa.out p yr;rw[hg.out.2.2.1,<-xp,<-hB]at this;exact this
  have ye:=aF (dw xp hB);have yz:Hid (∀x∈B,x.2.cZ.length<=1000000/\∀f∈x.2.cZ,UF f):=by obtain⟨t,J,P,_,h2⟩:=qP.out;intro x i;rw[hB]at i;have:=t.ls x (qm4.1 i).1;exact⟨bR this.2.1,this.2.2⟩
  clear xp hB xa hu;gi_wp2;rw[roundsIn_succ];gi_wp2_with (first|(refine⟨trivial,?_⟩;gi_at_call 191;refine(callsIn_wide.2 yi.out).mono ?_;rintro e w7 ⟨rfl,H7⟩)|(refine⟨trivial,?_⟩;gi_at_call 197;refine(callsIn_wide.2 (zX W6.heap.size w7)).mono ?_;rintro e w8 ⟨rfl,yy⟩;have xi:=aF yy;clear yy));have xz:Hid (∃H,JL oZ s w S bw bl bi d (some (ay q v)) c rs (some j.heap.size) [G] M3 H [] w8/\um H (d+1) (s+44) w8 W6.heap.size B/\aL w8 w7.heap.size 203 [.map (some W6.heap.size)]):=by
   obtain⟨o4,E,g2⟩:=H7.out;have K:Kp [] o4 o4 w7 w8:=by rw[xi.out];exact Kp.alloc _ _ _ _
   exact⟨o4,JL.kp p _ _ _ _ _ E (K.mono aM),g2.kp K aM aM,by rw[xi.out];exact aL.new w7 203 _⟩
  clear yi H7 xi xx;obtain⟨zl,hj,ya,yd⟩:=xz.out;refine sZ aj (d+1) (s+44) (d+2) (d+3) (d+4) (T1 s) (JL oZ s w S bw bl bi d (some (ay q v)) c rs (some j.heap.size) [G] M3) rfl yd ya (fun x i=>(yz.out x i).1) (u _ aj) (u _ aj) (u _ aj) (u _ aj) (u _ aj) aj (JL.kp p) hj ?_ ?_
  ·intro L H R f W z1 h3 hf;obtain⟨x,i,xv⟩:=hf;have IE:=(yz.out x i).2 f xv;obtain⟨k,hk⟩:∃k:Nat,f.aG=(k:Int):=⟨f.aG.toNat,bR IE.st⟩;have xK:k<8:=bR IE.st;have z2:w.heap.size<W.heap.size:=h3.1.2.2.1.lt;have h7:=Oi S k f.aD;have ho:Hid (∀y,qH 198 #[aJ S 0,eF f nZ] y (.iface (UJ f.aD) (Ez S k f.aD)) fun r=>bE y r):=fun y=>by rw[<-h7];exact zW S k xK f hk y
   have Ni:Hid (∀DV y,JL oZ s w S bw bl bi d (some (ay q v)) c rs (some j.heap.size) [G] M3 DV R y->WB prog (iD f.aD) #[Ez S k f.aD,eF f nZ] y fun e r=>e=.returned (.tuple #[])/\∃aQ,JL oZ s w S bw bl bi d (some (ay q v)) c rs (some j.heap.size) [G] M3 aQ (R++[f]) r/\Kp (T1 s) DV aQ y r):=fun DV y hy=>Qq p f IE k xK hk hy;have z5:=Qm S k f.aD;have z4:=AO f.aD;obtain⟨Wa,m⟩:=bT (W.alloc (.cells (fJ f nZ).toArray 65));have Q:aL Wa W.heap.size 65 (fJ f nZ):=by rw[m];exact aL.new W 65 _
   have Ka:Kp [] H H W Wa:=by rw[m];exact Kp.alloc _ _ _ _
   have z8:Wa.heap.size=W.heap.size+1:=by rw[m];simp
   generalize UJ f.aD=kT at *
   generalize Ez S k f.aD=kP at *
   generalize iD f.aD=kN at *
   clear h7 hk;unfold eF at *
   unfold fJ at m Q;gi_wp2;rw[<-m];clear m;refine⟨Ka,fun T V s2 I=>?_⟩;have z:=Q.of_heap (V W.heap.size aj);have QX:T.cell? (ay w.heap.size 0)=some (aJ S 0):=I.1.2.2.1.cell 0;have XC:Hid (∀y,bE T y->WB prog kN #[kP,.agg #[iZ f.aD,iZ f.aG,uZ f.aC,uZ f.aN,uZ f.aT,.bool f.bG,uZ f.id,uZ f.aH,.string f.data,nZ]] y fun e r=>e=.returned (.tuple #[])/\∃aQ,JL oZ s w S bw bl bi d (some (ay q v)) c rs (some j.heap.size) [G] M3 aQ (R++[f]) r/\Kp (T1 s) H aQ T r):=fun y hy=>by have K:Kp [] H H T y:=Kp.below hy;refine(Ni.out H y (JL.kp p _ _ _ _ _ I (K.mono aM))).mono ?_;rintro e r ⟨rfl,o',a1,a2⟩;exact⟨rfl,o',a1,(K.mono aM).trans a2⟩
   have xj:=aF z;have XD:W.heap.size<T.heap.size:=z.lt;obtain⟨x0,x1,x2,x3,x4,x5,x6,x7,x8,x9,xf⟩:=bC z;have mh:Hid (∀C,bE T C->aL C W.heap.size 65 [iZ f.aD,iZ f.aG,uZ f.aC,uZ f.aN,uZ f.aT,.bool f.bG,uZ f.id,uZ f.aH,.string f.data,nZ]):=fun C h5=>xj.out.of_heap (h5.block _ XD);clear z Q I h3 V Ni Ka hj ya yd xz;gi_wp2;gi_region_with (first|(refine⟨trivial,?_⟩;gi_at_call 198;refine(lV (ho.out _)).mono ?_;rintro e C ⟨rfl,o⟩;have O:bE T C:=⟨o.os,o.tape,o.output,o.size,o.block⟩;clear o;obtain⟨y0,y1,y2,y3,y4,y5,y6,y7,y8,y9,yf⟩:=bC (mh.out C O);have hm:=aF O;clear O)|(refine⟨trivial,?_⟩;gi_at_fn kN;refine(lV (XC.out _ hm.out)).mono ?_;rintro e w6 ⟨rfl,hE⟩;have HE:=aF hE;clear hE))
   all_goals exact⟨rfl,HE.out⟩
  ·intro DV lq W9 D2 hq xn zd z9 za;have xl:G<D2/\W9.heap[G]?=some (.deferred (some []))/\DV G=d+4/\w.heap.size<=G:=by
    obtain⟨a1,a2,a3⟩:=xn.2.ds G aM;obtain⟨b1,b2,b3⟩:=hj.2.ds G aM;have:=(qmt.1 b3).1;exact⟨aj,a3,a2,a1⟩
   have zb:(W9.putObj D2 (.deferred none)).heap[G]?=some (.deferred (some [])):=by rw[eB aj];exact xl.2.1
   have HE:Hid (∃M1,M.tN rs M1/\iE s oZ w S bw bl bi M1 ((W9.putObj D2 (.deferred none)).putObj G (.deferred none))):=by
    obtain⟨t,J,P,_,h2⟩:=qP.out;obtain⟨⟨⟨l1,v1,E⟩,g2,g3,g4,g5⟩,Z⟩:=xn;have K9:Kp [d+4] DV DV W9 ((W9.putObj D2 (.deferred none)).putObj G (.deferred none)):=⟨rfl,rfl,rfl,aM,fun k hk hn=>by rw[eB (fun e=>hn (by rw[e,xl.2.2.1];simp)),eB (fun e=>hn (by rw[e,z9];simp))],fun _ _=>rfl⟩;refine⟨_,?_,DV,l1,v1,E.kp K9 (fun x a b e=>by simp at e;omega),?_⟩
    ·refine⟨lp,lq,by rw[<-xd.out.2];exact hg.out.2.1,by rw[<-ye.out.2];exact hq,?_⟩;rw[qnt];congr 1
     rw[ye.out.1,hg.out.2.2.2,hg.out.1,<-DX,xd.out.1,J];rfl
    ·refine Kp.less (U:=[d+4]++[d+3,d+2]) ?_ (fun b' z3 e=>by have:=P b' z3;simp at e;omega);rw[qmh];exact(g4.mono fun x i=>qne _ i).trans (K9.mono fun x i=>qnr _ i)
   clear xn xz hj ya yd xl;gi_wp2;rw[roundsIn_succ];gi_wp2;refine⟨aM,.inl ⟨_,_,rfl,run_takeDeferred za,?_⟩⟩;refine⟨aM,.inl ⟨_,_,rfl,run_takeDeferred zb,?_⟩⟩;exact⟨_,results_none rfl _ _ _,rfl,HE.out⟩
