import Derived.Test.YtphbledmopchnaaGreatDoorLfa
open List renaming mem_filter->eB,mem_append_right->eT,foldl_append->j3,length_filter_le->lg,filter_eq_self->mE,mem_append_left->mI,any_eq_true->mY
set_option maxHeartbeats 4000000
set_option maxRecDepth 100000
namespace Go.Proofs.YtphbledmopchnaaGreatDoor.Sd
open Go.RowKit Go.Lib Mm Tryz
section
attribute [local go_sem] Oper.semAt_some
theorem E9{F:Fence}{n:Nat}{c:Code}{K:Act->World->Prop}{d:Exit->Act->World->Prop}{a:Act}{w:World}(h:c.wpIn F n prog (Exit.then K fun _ _ _=>False) a w):c.wpIn F n prog (Exit.then K d) a w:=
 wpIn_mono h fun e f w' b=>by
  cases e with
  |normal=>exact b
  |ret=>exact b.elim
  |exit i=>exact b.elim
  |goto i=>exact b.elim
  |panic c=>exact b.elim
  |outgrown=>exact b.elim
theorem wpIn_cut{F:Fence}{n:Nat}{c:Code}{K:Act->World->Prop}{f:Exit->Act->World->Prop}{a:Act}{w:World}(act:Act)(R:World->Prop)(h:c.wpIn F n prog (Exit.then (fun d w'=>d=act/\R w') fun _ _ _=>False) a w)(j:∀w',R w'->K act w'):c.wpIn F n prog (Exit.then K f) a w:=
 wpIn_mono h fun e d w' b=>by
  cases e with
  |normal=>obtain⟨rfl,g⟩:=b;exact j _ g
  |ret=>exact b.elim
  |exit i=>exact b.elim
  |goto i=>exact b.elim
  |panic c=>exact b.elim
  |outgrown=>exact b.elim
def LS(oZ:Own)(s:Nat)(w:World)(S bw bl bi tb:Nat)(M':av)(y:World):Prop:=
 ∃a l1 b,fP a s y S l1 M' bw bl bi b/\a w.heap.size=tb/\aS y w.heap.size 128 [aI S 0]/\Kp (T0 s) oZ a w y
def LB(oZ:Own)(s:Nat)(w:World)(S bw bl bi tb:Nat)(v:Value)(M':av)(y:World):Prop:=
 ∃a l1 b,fP a s y S l1 M' bw bl bi b/\a w.heap.size=tb/\aS y w.heap.size 128 [aI S 0]/\Kp (T0 s) oZ a w y/\GT a tb 294 1 y v 25 (bks S 8)
section
variable {oZ:Own} {s:Nat} {w:World} {S bw bl bi tb:Nat} {M':av} {y:World}
theorem LS.cells(h:LS oZ s w S bw bl bi tb M' y):y.cell? (aB w.heap.size 0)=some (aI S 0)/\y.cell? (aB S 230)=some (.map (some bw))/\y.cell? (aB S 231)=some (.map (some bl)):=by obtain⟨o,l1,b,h1,_,a,_⟩:=h;exact⟨a.cell 0,by rw[h1.cZ.cell];exact h1.cells.oQ,by rw[h1.cZ.cell];exact h1.cells.sG⟩
theorem LB.ls{v:Value}(h:LB oZ s w S bw bl bi tb v M' y):LS oZ s w S bw bl bi tb M' y:=by obtain⟨o,l1,d,h1,a,b,c,_⟩:=h;exact⟨o,l1,d,h1,a,b,c⟩
theorem YR(h:LS oZ s w S bw bl bi tb M' y)(p:s+100<=tb)(c:∀x∈M'.bP,x.1+64<18446744073709551616):Calls prog 194 #[.map (some bl),.func (.func 195) #[] #[aI w.heap.size 0]] y fun e y'=>e=.returned (.tuple #[])/\LS oZ s w S bw bl bi tb {M' with aJ:=M'.aJ,bP:=M'.bP.filter fun x=> !decide (x.1+64<M'.next)} y':=by
 obtain⟨o,l1,q,h1,a,b,k⟩:=h;have g:S≠bl:=fun e=>by obtain⟨f,f1,_⟩:=h1.bP;have:=h1.ow;rw[e,f1]at this;omega
 have d:w.heap.size≠bl:=fun e=>by obtain⟨f,f1,_⟩:=h1.bP;rw[e,f1]at a;omega
 refine(h1.bP.drop aj 195 #[] #[aI w.heap.size 0] (enters_of func195 bH rfl) (fun n _=>decide (n+64<M'.next)) (fun x i v r W j=>?_)).mono ?_;·have l:W.heap[S]?=y.heap[S]?:=j.block S h1.cZ.lt (by simp;exact g);have m:W.heap[w.heap.size]?=y.heap[w.heap.size]?:=j.block _ b.lt (by simp;exact d);exact qbq S w.heap.size x.1 M'.next v W ((b.of_heap m).cell 0) (by rw[(h1.cZ.of_heap l).cell];exact h1.cells.oo) (c x i)
 ·rintro e y' ⟨rfl,f1,k1⟩;exact⟨rfl,o,l1,q,h1.ways k1 aP _ _ (h1.sI.kp k1 aP aP) f1,a,cO b k1 (by rw[a];simp;omega),k.trans (k1.mono fun x i=>fG.2 (by simp at i;omega))⟩
theorem Vt(h:LS oZ s w S bw bl bi tb M' y):Calls prog 196 #[aI S 0] y fun e y'=>∃a c,e=.returned (.slice a 25 c)/\LB oZ s w S bw bl bi tb (.slice a 25 c) M' y':=by obtain⟨o,l1,p,h1,j,f,l⟩:=h;refine(Vo S y).mono ?_;rintro e y' ⟨v,rfl,g,m,hb⟩;obtain⟨a,c,rfl,_⟩:=g.shape;obtain⟨i,b⟩:=bZ (fun x=>if x<y.heap.size then o x else tb:Own);have K:Kp [] o i y y':=⟨hb.os,hb.tape,hb.output,hb.size,fun x d _=>hb.block x d,fun x d=>by rw[b];exact bK d⟩;exact⟨a,c,rfl,i,l1,p,h1.kp K aP,by rw[K.ext _ f.lt,j],cO f K aP,l.trans (K.mono aP),GT.X5 g fun k n=>by rw[b];exact aU (bV (m k n))⟩
theorem YS{v:Value}{j:Nat}(h:LB oZ s w S bw bl bi tb v (M'.uh j) y)(l:j<25)(m:s+100<=tb)(i:∀k,(M'.out k).aM.rs.length<=1000000):Calls prog (lN j) #[lP S j] y fun e y'=>e=.returned (.tuple #[])/\LB oZ s w S bw bl bi tb v (M'.uh (j+1)) y':=by obtain⟨o,l1,q,h1,a,b,f,g⟩:=h;refine(Vr y h1 j l (fun k=>by rw[CO];exact i k)).mono ?_;rintro e y' ⟨rfl,n,l2,p,d,K⟩;have c:tb∉T0 s:=fun e=>bV (fG.1 e);exact⟨rfl,n,l2,p,d,by rw[K.ext _ b.lt,a],cO b K (by rw[a];exact c),f.trans K,g.kp K c⟩
end

def JA(oZ:Own)(s:Nat)(w:World)(S bw bl bi tb:Nat)(g:av->Fr->av)(a:av)(aY:Own)(pre:List Fr)(W:World):Prop:=
 (∃l1 b,fP aY s W S l1 (pre.foldl g a) bw bl bi b)/\aY w.heap.size=tb/\aS W w.heap.size 128 [aI S 0]/\Kp ([tb+3,tb+2]++T0 s) oZ aY w W/\Bd (pre.foldl g a)
theorem JA.kp{oZ:Own}{s:Nat}{w:World}{S bw bl bi tb:Nat}{g:av->Fr->av}{c:av}(m:s+100<=tb)(f gu:Own)(pre:List Fr)(W d:World)(h:JA oZ s w S bw bl bi tb g c f pre W)(K:Kp [tb+3,tb+2] f gu W d):JA oZ s w S bw bl bi tb g c gu pre d:=by obtain⟨⟨l1,o,h1⟩,i,j,k,l⟩:=h;exact⟨⟨l1,o,h1.kp K (fun x a b e=>by simp at e;omega)⟩,by rw[K.ext _ j.lt,i],cO j K (by rw[i];simp),k.trans (K.mono fun x n=>mI _ n),l⟩
theorem JJ(kd:Int):∀args w,(callFunc (xW kd) args).run prog w=.ok (.enter (xW kd) args) w:=by
 unfold xW;split;·exact enters_of func319 bH rfl
 ·split;·exact enters_of func342 bH rfl
  ·exact enters_of func311 bH rfl
theorem kH{L n:Nat}{f:FuncId}{args:Array Value}{w:World}{R:Ending->World->Prop}(h:Calls prog f args w R):CallsIn (Fence.wide.inRound L) n prog f args w R:=callsIn_wide.2 h
theorem JK(j:Nat):∀args w,(callFunc (lN j) args).run prog w=.ok (.enter (lN j) args) w:=by
 unfold lN;split;·exact enters_of func392 bH rfl
 ·split;·exact enters_of func395 bH rfl
  ·exact enters_of func397 bH rfl
theorem YT(oZ:Own)(s:Nat)(S:Nat)(l:bO)(M:av)(bw bl bi:Nat)(vc:Value)(w:World)(h:fP oZ s w S l M bw bl bi vc)(hb:Bd M)(zd:M.bE<18446744073709551616)(yi:M.next<=dK):Calls prog 154 #[aI S 0] w fun e w'=>e=.returned (.tuple #[])/\∃M1,M.gU M1/\jC s oZ w S bw bl bi M1 w':=by
 obtain⟨tb,r,p⟩:=uT oZ (s+100) w.heap.size;have zt:=h.s0;obtain⟨E,T⟩:=bZ (w.alloc (.cells #[aI S 0] 128));have H:bJ w E:=by rw[T];exact(Below.refl _ w).alloc (Nat.le_refl _) _
 have yk:E.heap.size=w.heap.size+1:=by rw[T];simp
 obtain⟨fJ,xi⟩:=bZ (fun x=>if x<w.heap.size then oZ x else tb:Own);have Q:Kp [] oZ fJ w E:=⟨H.os,H.tape,H.output,H.size,fun x c _=>H.block x c,fun x c=>by rw[xi];exact bK c⟩;have u:fP fJ s E S l M bw bl bi vc:=h.kp Q aP;have d:aS E w.heap.size 128 [aI S 0]:=by rw[T];exact aS.new w 128 _
 have N:fJ w.heap.size=tb:=by rw[xi];exact aU (Nat.lt_irrefl _)
 have zc:S≠bw:=fun e=>by obtain⟨f,f1,_⟩:=u.sI;have:=u.ow;rw[e,f1]at this;omega
 have HT:Hid (∀q,Calls prog 191 #[.map (some bw),.func (.func 192) #[aI S 0] #[]] (E.drewN q) fun e w'=>e=.returned (.map (some (w.heap.size+1)))/\Hid (∃i,sM i (s+42) (s+44) w' bw (M.aJ.filter fun x=> !M.gF x)/\sM i (tb+1) (s+44) w' (w.heap.size+1) (M.aJ.filter M.gF)/\Kp [s+42] fJ i E w')):=fun q=>by
  have Hq:fP fJ s (E.drewN q) S l M bw bl bi vc:=u.below ⟨rfl,rfl,rfl,Nat.le_refl _,fun _ _=>rfl⟩;refine(Hq.sI.take aj (bV hb.wl) 192 #[aI S 0] #[] (enters_of func192 bH rfl) (fun n t=>decide (6<=M.bE-t)||decide (n+3<M.named)) (tb+1) (fun x c v hv W hg=>?_)).mono ?_
  ·have ya:W.heap[S]?=(E.drewN q).heap[S]?:=hg.block S Hq.cZ.lt (by simp;exact fun e=>zc e);have c3:W.cell? (aB S 3)=some (uZ M.bE):=by rw[(Hq.cZ.of_heap ya).cell];exact Hq.cells.c3
   have nH:W.cell? (aB S 232)=some (uZ M.named):=by rw[(Hq.cZ.of_heap ya).cell];exact Hq.cells.nH
   have zf:=hb.tk x c;have zv:=(hb.wy x c).1;have:=Rp S M.bE M.named x.1 v W c3 nH (by rw[hv];exact zf) zd (by unfold dK at yi;omega);rw[hv]at this;exact this
  ·rintro e w' ⟨he,i,h1,V,z⟩;have e9:(E.drewN q).heap.size=w.heap.size+1:=yk;rw[e9]at he V;exact⟨he,i,h1,V,⟨z.os,z.tape,z.output,z.size,z.cZ,z.ext⟩⟩
 have cw:E.cell? (aB S 230)=some (.map (some bw)):=by rw[u.cZ.cell];exact u.cells.oQ
 have cb:E.cell? (aB w.heap.size 0)=some (aI S 0):=d.cell 0;have Um:=u.cZ.lt;have zs:∀(fn:Fn) (first cap:Array Value) (w:World),(Instr.makeFunc fn first cap).run prog w=.ok (.func fn first cap) w:=fun _ _ _ _=>rfl;have pU:=aG (dB h (dB hb (dB u (dB d (dB N (dB Q (dB p r)))))));clear h hb u d N Q p r xi H;refine(callsIn_wide (n:=10)).1 ?_;refine callsIn_of_wp_marks func154 rfl trivial ?_ rfl;simp only[ntmps154,List.size_toArray,List.length_cons,List.length_nil,Nat.reduceAdd,Nat.reduceSub,Array.replicate_succ,Array.replicate_zero,List.push_toArray,List.append_toArray,List.nil_append,List.cons_append];gi_wp2;rw[<-T];clear T;refine wpIn_cut {tmps:=#[aI S 0,aI w.heap.size 0,.map (some (w.heap.size+1)),undef,undef,undef,aI S 0,aI S 0,aI S 230,.map (some bw),aI S 0,.func (.func 192) #[aI S 0] #[],.map (some (w.heap.size+1)),undef,undef,undef,undef,undef,undef,undef,undef,undef,undef,undef,undef,undef,undef,undef,undef,undef,undef,undef,undef,undef,undef,undef,undef,undef,undef,undef,undef,undef,undef,undef,undef,undef,undef,undef,undef],defers:=[]}
  (fun w1=>Hid (∃i,sM i (s+42) (s+44) w1 bw (M.aJ.filter fun x=> !M.gF x)/\sM i (tb+1) (s+44) w1 (w.heap.size+1) (M.aJ.filter M.gF)/\Kp [s+42] fJ i E w1)) ?_ (fun w1 H1=>?_)
 ·gi_region_with (refine⟨trivial,?_⟩;gi_at_call 191;refine(callsIn_wide.2 (HT.out _)).mono ?_;rintro e w1 ⟨rfl,H1⟩)
  all_goals exact⟨rfl,H1⟩
 obtain⟨A,hA⟩:=bZ (M.aJ.filter fun x=> !M.gF x);obtain⟨B,hB⟩:=bZ (M.aJ.filter M.gF);rw[<-hA,<-hB]at H1;have R:=aG (dB hA hB);clear hA hB HT;have H2:Hid (∃i,fP i s w1 S l {M with aJ:=A,bP:=M.bP} bw bl bi vc/\sM i (tb+1) (s+44) w1 (w.heap.size+1) B/\i w.heap.size=tb/\aS w1 w.heap.size 128 [aI S 0]/\Kp (T0 s) oZ i w w1):=by obtain⟨i,g1,g2,k1⟩:=H1.out;obtain⟨h,hb,u,d,N,Q,p,r⟩:=pU.out;refine⟨i,u.ways k1 aP A M.bP g1 (u.bP.kp k1 aP aP),g2,by rw[k1.ext _ d.lt,N],cO d k1 (by rw[N];simp;omega),(Q.mono aP).trans (k1.mono fun x c=>fG.2 (by simp at c;omega))⟩
 have ye:∀ty,(Builtin.len_ #[203] ty #[.map (some (w.heap.size+1))]).run prog w1=.ok (iZ B.length) w1:=by obtain⟨i,_,⟨f,_,m,_⟩,_⟩:=H2.out;have:=m.len;rw[List.length_map]at this;exact this
 clear H1 cw cb;cases F:B with
 |nil=>
  rw[F]at ye;have h7:=aG F;clear F;have HE:Hid (∃M1,M.gU M1/\jC s oZ w S bw bl bi M1 w1):=by
   obtain⟨i,h1,V,z,h4,X⟩:=H2.out;have yg:M.aJ.any M.gF=false:=by
    rw[Bool.eq_false_iff];intro he;obtain⟨x,c,hl⟩:=mY.1 he;have:x∈B:=by rw[R.out.2];exact eB.2 ⟨c,hl⟩
    rw[h7.out]at this;cases this
   refine⟨M,by unfold av.gU;rw[aU (by rw[yg];simp)],i,l,vc,?_,X⟩;have z4:A=M.aJ:=by rw[R.out.1];refine mE.2 fun x c=>?_;have:=List.any_eq_false.1 yg x c;simpa using this
   rw[z4]at h1;exact h1
  gi_wp2;exact⟨_,results_none rfl _ _ _,rfl,HE.out⟩
 |cons b0 Bt=>
  have zj:¬(B.length:Int)=0:=by rw[F];simp;omega
  have h7:=aG F;clear F;have P:Hid (s+100<=tb/\(∀x∈M.bP++B,x.1+64<18446744073709551616)/\∀k,(M.out k).aM.rs.length<=1000000):=by
   obtain⟨h,hb,u,d,N,Q,p,r⟩:=pU.out;refine⟨r,fun x c=>?_,fun k=>bV ((hb.o k).c.len)⟩;have:x.1<M.next:=by
    rcases List.mem_append.1 c with c|c;·exact(hb.ls x c).1
    ·rw[R.out.2]at c;exact(hb.wy x (eB.1 c).1).1
   unfold dK at yi;omega
  obtain⟨yy,_,z1⟩:w1.cell? (aB w.heap.size 0)=some (aI S 0)/\w1.cell? (aB S 230)=some (.map (some bw))/\w1.cell? (aB S 231)=some (.map (some bl)):=by obtain⟨i,h1,_,z,h4,X⟩:=H2.out;exact LS.cells (oZ:=oZ) (s:=s) (tb:=tb) (bi:=bi) (M':={M with aJ:=A,bP:=M.bP}) ⟨i,l,vc,h1,z,h4,X⟩
  have HC:Hid (Calls prog 193 #[.map (some bl),.map (some (w.heap.size+1))] w1 fun e C=>e=.returned (.tuple #[])/\LS oZ s w S bw bl bi tb {M with aJ:=A,bP:=M.bP++B} C):=by
   obtain⟨i,h1,V,z,h4,X⟩:=H2.out;obtain⟨h,hb,u,d,N,Q,p,r⟩:=pU.out;have zr:B.length<=12:=by rw[R.out.2];exact Nat.le_trans (lg _ _) hb.wl
   refine(h1.bP.copy V aj aj (by have:=hb.ll;show B.length+M.bP.length<100000;omega) (fun x c y hy=>?_)).mono ?_;·rw[R.out.2]at c;exact Ne.symm ((List.pairwise_append.1 hb.ky).2.2 y hy x (eB.1 c).1)
   ·rintro e C ⟨rfl,f1,k1⟩;exact⟨rfl,i,l,vc,h1.ways k1 aP A (M.bP++B) (h1.sI.kp k1 aP aP) f1,z,cO h4 k1 (by rw[z];simp;omega),X.trans (k1.mono fun x c=>fG.2 (by simp at c;omega))⟩
  obtain⟨Z,hw⟩:∃Z,Z={M with aJ:=A,bP:=(M.bP++B).filter fun x=> !decide (x.1+64<M.next)}:=⟨_,rfl⟩;have HD:Hid (∀C,LS oZ s w S bw bl bi tb {M with aJ:=A,bP:=M.bP++B} C->Calls prog 194 #[.map (some bl),.func (.func 195) #[] #[aI w.heap.size 0]] C fun e w3=>e=.returned (.tuple #[])/\LS oZ s w S bw bl bi tb Z w3):=fun C V=>by rw[hw];exact YR V P.out.1 P.out.2.1
  have Y:=aG hw;clear hw;gi_wp2_with (first|(refine⟨trivial,?_⟩;gi_at_call 193;refine(callsIn_wide.2 HC.out).mono ?_;rintro e C ⟨rfl,hr⟩;obtain⟨Po,_,z2⟩:=hr.cells;have xn:=aG hr;clear hr)|(refine⟨trivial,?_⟩;gi_at_call 194;refine(callsIn_wide.2 (HD.out _ xn.out)).mono ?_;rintro e w3 ⟨rfl,hu⟩;obtain⟨yz,_,_⟩:=hu.cells;have xo:=aG hu;clear hu)|(refine⟨trivial,?_⟩;gi_at_call 196;refine(callsIn_wide.2 (Vt xo.out)).mono ?_;rintro e w4 ⟨a4,c4,rfl,xy⟩;have xp:=aG xy;clear xy));have yq:Hid (∀k,(Z.out k).aM.rs.length<=1000000):=by rw[Y.out];exact P.out.2.2
  have xr:Hid (LB oZ s w S bw bl bi tb (.slice a4 25 c4) (Z.uh 0) w4):=xp;clear xp xn xo HC HD yy z1 Po z2 yz ye;gi_loopw [31] (fun xk wr=>∃j:Nat,j<=25/\xk=(iZ j)/\Hid (LB oZ s w S bw bl bi tb (.slice a4 25 c4) (Z.uh j) wr)) (fun xk _=>25-(RowKit.intOf xk).toNat)
  case atStart=>exact⟨0,aj,rfl,xr⟩
  case round=>
   obtain⟨j,hj,rfl,O⟩:=hrel;clear xr;by_cases z9:j<25
   ·have zg:(j:Int)<25:=aj;have xe:∃g,a4=some (aB g 0)/\wr.cell? (aB g j)=some (.iface (lT j) (lP S j)):=by
     obtain⟨o,l1,v1,h1,V,z,h4,X⟩:=O.out;obtain⟨g,hg,_,_,hc,_⟩:=X.cell j _ (Vq S 8 j aj);exact⟨g,hg,hc⟩
    obtain⟨g,hg,hc⟩:=xe;subst hg;have zb:=YQ S j;have z7:=JK j;have Ed:=aG (YS O.out z9 P.out.1 yq.out);generalize lT j=tj at *
    generalize lP S j=pj at *
    generalize lN j=nj at *
    gi_wp2_with (refine⟨trivial,?_⟩;gi_at_fn nj;refine(callsIn_wide.2 Ed.out).mono ?_;rintro e w5 ⟨rfl,xz⟩;have yr:=aG xz;clear xz);go_roundw;case rel=>exact⟨j+1,aj,aP,yr⟩
    case measure=>simp[RowKit.intOf];omega
   ·obtain rfl:j=25:=aj;obtain⟨z0,z3,_⟩:=O.out.ls.cells;have ys:Hid (Z.uh 25=M.mD):=by
     obtain⟨h,hb,u,d,N,Q,p,r⟩:=pU.out;have e:=Ro Z (by rw[Y.out];exact u.lo) (by rw[Y.out];exact u.li);show Z.uh 25=M.mD;rw[e,Y.out,R.out.1,R.out.2];rfl
    gi_wp2_with (refine⟨trivial,?_⟩;gi_at_call 197;refine(callsIn_wide.2 (zo bw wr)).mono ?_;rintro e w7 ⟨rfl,ym⟩;have h8:=aG ym;clear ym);have HJ:Hid (∃h6,JA oZ s w S bw bl bi tb av.eP M.mD h6 [] w7/\sM h6 (s+42) (s+44) w7 bw A/\aS w7 wr.heap.size 203 [.map (some bw)]):=by
     obtain⟨o,l1,v1,h1,V,z,h4,X⟩:=O.out;obtain⟨h,hb,u,d,N,Q,p,r⟩:=pU.out;rw[ys.out]at h1;have K:Kp [] o o wr w7:=by rw[h8.out];exact Kp.alloc _ _ _ _
     have xt:=h1.kp K aP;refine⟨o,⟨⟨l1,v1,xt⟩,V,cO z K aP,(h4.trans (K.mono aP)).mono fun x c=>eT _ c,Cx hb⟩,?_,by rw[h8.out];exact aS.new wr 203 _⟩;have:=xt.sI;rw[R.out.1];exact this
    clear O z0 z3 h8;have xm:Hid (∀x∈A,x.2.bI.length<=1000000/\∀f∈x.2.bI,EX f):=by obtain⟨h,hb,u,d,N,Q,p,r⟩:=pU.out;intro x c;rw[R.out.1]at c;have:=hb.wy x (eB.1 c).1;exact⟨bV this.2.1,this.2.2⟩
    obtain⟨h6,ho,h9,xa⟩:=HJ.out;have J:∀x,s+41<=x->x∉T1 s:=fun x c e=>bV (wK.1 e);refine rF aj wr.heap.size bw (s+42) (s+44) (tb+2) (tb+3) (tb+4) (T1 s) A h6 (JA oZ s w S bw bl bi tb av.eP M.mD) rfl xa h9 (fun x c=>(xm.out x c).1) (J _ aj) (J _ aj) (J _ (bV P.out.1)) (J _ (bV P.out.1)) (J _ (bV P.out.1)) (bV P.out.1) (JA.kp P.out.1) ho ?_ ?_
    ·intro L CQ pre f W zk xv hf;obtain⟨x,c,z8⟩:=hf;have GY:=(xm.out x c).2 f z8;obtain⟨k,hk⟩:∃k:Nat,f.aH=(k:Int):=⟨f.aH.toNat,bV GY.st⟩;have yL:k<8:=bV GY.st;have zp:w.heap.size<W.heap.size:=xv.2.2.1.lt;have yd:=MN S k f.aC;have yp:Hid (∀y,Calls prog 198 #[aI S 0,fM f nZ] y fun e y'=>e=.returned (.iface (SX f.aC) (DY S k f.aC))/\bJ y y'):=fun y=>by rw[<-yd];exact zn S k yL f hk y
     have xl:Hid (∀CR y,JA oZ s w S bw bl bi tb av.eP M.mD CR pre y->Calls prog (xW f.aC) #[DY S k f.aC,fM f nZ] y fun e y'=>e=.returned (.tuple #[])/\∃aY,JA oZ s w S bw bl bi tb av.eP M.mD aY (pre++[f]) y'/\Kp (T1 s) CR aY y y'):=fun CR y hy=>by obtain⟨⟨l1,v1,g1⟩,g2,g3,g4,g5⟩:=hy;refine(Vm y g1 f k yL hk nZ (fun h4=>⟨(g5.o k).a,GY.dt h4⟩)).mono ?_;rintro e y' ⟨rfl,o2,l2,v2,a1,a2⟩;have hn:tb∉T1 s:=J _ (bV P.out.1);refine⟨rfl,o2,⟨⟨l2,v2,by rw[j3];exact a1⟩,by rw[a2.ext _ g3.lt,g2],cO g3 a2 (by rw[g2];exact hn),g4.trans (a2.mono fun x c=>eT _ (Vk c)),by rw[j3];exact Cw g5 f GY⟩,a2⟩
     have zb:=YO S k f.aC;have z7:=JJ f.aC;obtain⟨Wa,G⟩:=bZ (W.alloc (.cells (gG f nZ).toArray 65));have xj:aS Wa W.heap.size 65 (gG f nZ):=by rw[G];exact aS.new W 65 _
     have Ka:Kp [] CQ CQ W Wa:=by rw[G];exact Kp.alloc _ _ _ _
     have zu:Wa.heap.size=W.heap.size+1:=by rw[G];simp
     generalize SX f.aC=kT at *
     generalize DY S k f.aC=kP at *
     generalize xW f.aC=kN at *
     clear yd hk;unfold fM at *
     unfold gG at G xj;gi_wp2;rw[<-G];clear G;refine⟨Ka,fun C o2 s2 ha=>?_⟩;have h0:=xj.of_heap (o2 W.heap.size aj);have Po:C.cell? (aB w.heap.size 0)=some (aI S 0):=ha.2.2.1.cell 0;have Vu:Hid (∀y,bJ C y->Calls prog kN #[kP,.agg #[iZ f.aC,iZ f.aH,uZ f.aD,uZ f.aV,uZ f.aL,.bool f.bn,uZ f.id,uZ f.aW,.string f.data,nZ]] y fun e y'=>e=.returned (.tuple #[])/\∃aY,JA oZ s w S bw bl bi tb av.eP M.mD aY (pre++[f]) y'/\Kp (T1 s) CQ aY C y'):=fun y hy=>by have K:Kp [] CQ CQ C y:=Kp.below hy;refine(xl.out CQ y (JA.kp P.out.1 _ _ _ _ _ ha (K.mono aP))).mono ?_;rintro e y' ⟨rfl,o',a1,a2⟩;exact⟨rfl,o',a1,(K.mono aP).trans a2⟩
     have yv:=aG h0;have Vv:W.heap.size<C.heap.size:=h0.lt;obtain⟨x0,x1,x2,x3,x4,x5,x6,x7,x8,x9,xf⟩:=bL h0;have kV:Hid (∀w5,bJ C w5->aS w5 W.heap.size 65 [iZ f.aC,iZ f.aH,uZ f.aD,uZ f.aV,uZ f.aL,.bool f.bn,uZ f.id,uZ f.aW,.string f.data,nZ]):=fun w5 X=>yv.out.of_heap (X.block _ Vv);clear h0 xj ha xv o2 xl Ka ho h9 xa HJ;gi_wp2;gi_region_with (first|(refine⟨trivial,?_⟩;gi_at_call 198;refine(kH (yp.out _)).mono ?_;rintro e w5 ⟨rfl,I⟩;have xd:bJ C w5:=⟨I.os,I.tape,I.output,I.size,I.block⟩;clear I;obtain⟨y0,y1,y2,y3,y4,y5,y6,y7,y8,y9,yf⟩:=bL (kV.out w5 xd);have yn:=aG xd;clear xd)|(refine⟨trivial,?_⟩;gi_at_fn kN;refine(kH (Vu.out _ yn.out)).mono ?_;rintro e w6 ⟨rfl,hE⟩;have HE:=aG hE;clear hE))
     all_goals exact⟨rfl,HE.out⟩
    ·intro CR lp W' D hp xx hD oD z5;have HE:Hid (∃M1,M.gU M1/\jC s oZ w S bw bl bi M1 (W'.putObj D (.deferred none))):=by
      obtain⟨h,hb,u,d,N,Q,p,r⟩:=pU.out;obtain⟨⟨l1,v1,g1⟩,g2,g3,g4,g5⟩:=xx;have K9:Kp [tb+4] CR CR W' (W'.putObj D (.deferred none)):=⟨rfl,rfl,rfl,aP,fun k hk hn=>World.putObj_heap_other (fun e=>hn (by rw[e,oD];simp)),fun _ _=>rfl⟩;refine⟨_,?_,CR,l1,v1,g1.kp K9 (fun x a b e=>by simp at e;omega),?_⟩
      ·unfold av.gU;have:M.aJ.any M.gF=true:=by
        have hm:b0∈B:=by rw[h7.out];simp
        rw[R.out.2]at hm;exact mY.2 ⟨b0,(eB.1 hm).1,(eB.1 hm).2⟩
       rw[bK this];exact⟨lp,by rw[<-R.out.1];exact hp,rfl⟩
      ·refine Kp.less (U:=[tb+4]++[tb+3,tb+2]) ?_ (fun b' z6 e=>by have:=p b' z6;simp at e;omega);rw[List.append_assoc];exact(g4.mono fun x c=>eT _ c).trans (K9.mono fun x c=>mI _ c)
     clear xx HJ ho h9 xa;gi_wp2;refine⟨aP,.inl ⟨_,_,rfl,run_takeDeferred z5,?_⟩⟩;exact⟨_,results_none rfl _ _ _,rfl,HE.out⟩
end
section
theorem CS(X:av)(f:Fr):(X.dx f).aJ=X.aJ/\(X.dx f).bP=X.bP:=by
 unfold av.dx;repeat' split
 all_goals exact⟨rfl,rfl⟩
theorem rG:∀(l:List Fr) (X:av),(l.foldl av.dx X).aJ=X.aJ/\(l.foldl av.dx X).bP=X.bP
 |[],_=>⟨rfl,rfl⟩
 |f::t,X=>⟨(rG t _).1.trans (CS X f).1,(rG t _).2.trans (CS X f).2⟩
theorem MQ(X:av)(f:Fr)(a b:List (Nat×pz)):({X with aJ:=a,bP:=b}:av).dx f={X.dx f with aJ:=a,bP:=b}:=by
 unfold av.dx;repeat' split
 all_goals rfl
theorem CU(a b:List (Nat×pz)):∀(l:List Fr) (X:av),l.foldl av.dx {X with aJ:=a,bP:=b}={l.foldl av.dx X with aJ:=a,bP:=b}
 |[],_=>rfl
 |f::t,X=>by show t.foldl av.dx (({X with aJ:=a,bP:=b}:av).dx f)=_;rw[MQ,CU a b t];rfl
theorem z_(kd:Int):∀args w,(callFunc (r_ kd) args).run prog w=.ok (.enter (r_ kd) args) w:=by
 unfold r_;split;·exact enters_of func391 bH rfl
 ·split;·exact enters_of func394 bH rfl
  ·exact enters_of func396 bH rfl
structure LX (w:World) (s tb bw bl:Nat) (a:Option Addr) (c:Nat) (rs:bW) (q:Option Nat) (Ds:List Nat) (aY:Own) (W:World):Prop where
 b3:aY (w.heap.size+1)=tb/\aS W (w.heap.size+1) 63 [.slice a rs.length c]
 rg:jg W a rs
 ra:∀x,a=some x->x.block<W.heap.size/\aY x.block∉T0 s/\aY x.block<tb
 bq:∀k,q=some k->aY k=tb/\aS W k 203 [.map (some bw),.map (some bl)]
 ds:∀D∈Ds,w.heap.size<=D/\aY D=tb+4/\W.heap[D]?=some (.deferred (some []))
theorem LX.kp{w:World}{s tb bw bl:Nat}{a:Option Addr}{c:Nat}{rs:bW}{q:Option Nat}{Ds:List Nat}{i gu:Own}{W g:World}{T:List Nat}(h:LX w s tb bw bl a c rs q Ds i W)(p:s+100<=tb)(K:Kp T i gu W g)(d:∀t∈T,t∈T0 s\/tb<t/\t≠tb+4):LX w s tb bw bl a c rs q Ds gu g:=by
 have l:tb∉T:=fun e=>by
  rcases d _ e with e|e;·have:=fG.1 e;omega
  ·omega
 have hd:tb+4∉T:=fun e=>by
  rcases d _ e with e|e;·have:=fG.1 e;omega
  ·omega
 refine⟨⟨by rw[K.ext _ h.b3.2.lt,h.b3.1],cO h.b3.2 K (by rw[h.b3.1];exact l)⟩,h.rg.of fun x f hl=>K.cZ _ hl (fun e=>?_),fun x f=>?_,fun k o=>?_,fun D n=>?_⟩
 ·obtain⟨_,b,j⟩:=h.ra x f;rcases d _ e with e|e;·exact b e
  ·omega
 ·obtain⟨h1,b,j⟩:=h.ra x f;exact⟨Nat.lt_of_lt_of_le h1 K.size,by rw[K.ext _ h1];exact b,by rw[K.ext _ h1];exact j⟩
 ·obtain⟨h1,b⟩:=h.bq k o;exact⟨by rw[K.ext _ b.lt,h1],cO b K (by rw[h1];exact l)⟩
 ·obtain⟨m,h1,b⟩:=h.ds D n;have hl:=(Array.getElem?_eq_some_iff.1 b).1;exact⟨m,by rw[K.ext _ hl,h1],(K.cZ _ hl (by rw[h1];exact hd)).trans b⟩
section
variable {oZ:Own} {s:Nat} {w:World} {S bw bl bi tb:Nat} {a:Option Addr} {c:Nat} {rs:bW} {q:Option Nat} {Ds:List Nat}
def JL(oZ:Own)(s:Nat)(w:World)(S bw bl bi tb:Nat)(a:Option Addr)(c:Nat)(rs:bW)(q:Option Nat)(Ds:List Nat)(b:av)(aY:Own)(pre:List Fr)(W:World):Prop:=
 JA oZ s w S bw bl bi tb av.dx b aY pre W/\LX w s tb bw bl a c rs q Ds aY W
theorem JL.kp{d:av}(b:s+100<=tb)(f gu:Own)(pre:List Fr)(W e:World)(h:JL oZ s w S bw bl bi tb a c rs q Ds d f pre W)(K:Kp [tb+3,tb+2] f gu W e):JL oZ s w S bw bl bi tb a c rs q Ds d gu pre e:=
 ⟨JA.kp b _ _ _ _ _ h.1 K,h.2.kp b K fun t ht=>by simp at ht;omega⟩
theorem OD{l:av}{i:Own}{pre:List Fr}{y:World}(g:s+100<=tb)(f:Fr)(j:EX f)(k:Nat)(E:k<8)(z:f.aH=(k:Int))(h:JL oZ s w S bw bl bi tb a c rs q Ds l i pre y):Calls prog (r_ f.aC) #[DY S k f.aC,fM f nZ] y fun e y'=>e=.returned (.tuple #[])/\∃aY,JL oZ s w S bw bl bi tb a c rs q Ds l aY (pre++[f]) y'/\Kp (T1 s) i aY y y':=by obtain⟨⟨⟨l1,F,p⟩,m,n,r,d⟩,u⟩:=h;refine bN (Vn y p f k E z nZ (fun v=>⟨(d.o k).a,(d.o k).c,j.dt v⟩)) ?_;rintro y' ⟨C,l2,D,o,b⟩;have A:tb∉T1 s:=fun e=>bV (wK.1 e);exact⟨rfl,C,⟨⟨⟨l2,D,by rw[j3];exact o⟩,by rw[b.ext _ n.lt,m],cO n b (by rw[m];exact A),r.trans (b.mono fun x B=>eT _ (Vk B)),by rw[j3];exact xR d f j⟩,u.kp g b fun t ht=>.inl (Vk ht)⟩,b⟩
theorem OE{M:av}(h:Bd M)(p r:Nat×pz->Bool):Bd {M with aJ:=M.aJ.filter p,bP:=M.bP.filter r}:=
 ⟨h.o,h.i,h.g,h.lm,h.mt,fun x b=>h.wy x (eB.1 b).1,fun x b=>h.ls x (eB.1 b).1,h.ky.sublist (List.filter_sublist.append List.filter_sublist),Nat.le_trans (lg _ _) h.wl,Nat.le_trans (lg _ _) h.ll,h.nm,h.cm,fun x b=>h.tk x (eB.1 b).1⟩
theorem JM{f:Own}{y W:World}(h:LX w s tb bw bl a c rs q Ds f y)(b:Nat)(hb:f b∈T0 s)(k:s+100<=tb)(hl:rs.length<=1000000)(g:y.grownBy W (some b))(n:Nat)(v:Option Addr×Nat×Nat×Nat):Calls prog 337 #[uZ n,vT v,(aI (w.heap.size+1) 0)] W fun e i=>e=.returned (.bool (names rs n))/\bJ W i:=by have j:aS W (w.heap.size+1) 63 [.slice a rs.length c]:=h.b3.2.of_heap (g.block _ h.b3.2.lt (by simp only[ne_eq,Option.some.injEq];intro e;rw[<-e,h.b3.1]at hb;have:=fG.1 hb;omega));refine Vs (w.heap.size+1) n a rs c v W (j.cell 0) (h.rg.of fun x l d=>g.block _ d (by simp only[ne_eq,Option.some.injEq];intro e;exact(h.ra x l).2.1 (by rw[e];exact hb))) hl
theorem Vw{M':av}{i:Own}{y:World}(h:JL oZ s w S bw bl bi tb a c rs q Ds M' i [] y)(d:s+100<=tb)(hl:rs.length<=1000000):Calls prog 191 #[.map (some bw),.func (.func 337) #[] #[(aI (w.heap.size+1) 0)]] y fun e y'=>e=.returned (.map (some y.heap.size))/\∃gu,JL oZ s w S bw bl bi tb a c rs q Ds {M' with aJ:=M'.aJ.filter fun x=> !names rs x.1,bP:=M'.bP} gu [] y'/\sM gu (tb+1) (s+44) y' y.heap.size (M'.aJ.filter fun x=>names rs x.1):=by
 obtain⟨⟨⟨l1,p,b⟩,k,l,r,g⟩,m⟩:=h;have b:fP i s y S l1 M' bw bl bi p:=b;have g:Bd M':=g;have j:i bw=s+42:=by obtain⟨f,f1,_⟩:=b.sI;exact f1
 refine bN (b.sI.take aj (bV g.wl) 337 #[] #[(aI (w.heap.size+1) 0)] (enters_of func337 bH rfl) (fun n _=>names rs n) (tb+1) (fun x o v z W u=>JM m bw (by rw[j];exact fG.2 aj) d hl u x.1 v)) ?_;rintro y' ⟨gu,f1,f2,K⟩;refine⟨rfl,gu,⟨⟨⟨l1,p,b.ways K aP _ _ f1 (b.bP.kp K aP aP)⟩,by rw[K.ext _ l.lt,k],cO l K (by rw[k];simp;omega),r.trans (K.mono fun x o=>eT _ (fG.2 (by simp at o;omega))),?_⟩,m.kp d K fun t ht=>.inl (fG.2 (by simp at ht;omega))⟩,f2⟩;have:=OE g (fun x=> !names rs x.1) (fun _=>true);rw[mE.2 (fun _ _=>rfl)]at this;exact this
theorem Vx{M':av}{i:Own}{y:World}(h:JL oZ s w S bw bl bi tb a c rs q Ds M' i [] y)(d:s+100<=tb)(hl:rs.length<=1000000):Calls prog 191 #[.map (some bl),.func (.func 337) #[] #[(aI (w.heap.size+1) 0)]] y fun e y'=>e=.returned (.map (some y.heap.size))/\∃gu,JL oZ s w S bw bl bi tb a c rs q Ds {M' with aJ:=M'.aJ,bP:=M'.bP.filter fun x=> !names rs x.1} gu [] y'/\sM gu (tb+1) (s+44) y' y.heap.size (M'.bP.filter fun x=>names rs x.1):=by
 obtain⟨⟨⟨l1,p,b⟩,k,l,r,g⟩,m⟩:=h;have b:fP i s y S l1 M' bw bl bi p:=b;have g:Bd M':=g;have j:i bl=s+43:=by obtain⟨f,f1,_⟩:=b.bP;exact f1
 refine bN (b.bP.take aj (bV g.ll) 337 #[] #[(aI (w.heap.size+1) 0)] (enters_of func337 bH rfl) (fun n _=>names rs n) (tb+1) (fun x o v z W u=>JM m bl (by rw[j];exact fG.2 aj) d hl u x.1 v)) ?_;rintro y' ⟨gu,f1,f2,K⟩;refine⟨rfl,gu,⟨⟨⟨l1,p,b.ways K aP _ _ (b.sI.kp K aP aP) f1⟩,by rw[K.ext _ l.lt,k],cO l K (by rw[k];simp;omega),r.trans (K.mono fun x o=>eT _ (fG.2 (by simp at o;omega))),?_⟩,m.kp d K fun t ht=>.inl (fG.2 (by simp at ht;omega))⟩,f2⟩;have:=OE g (fun _=>true) (fun x=> !names rs x.1);rw[mE.2 (fun _ _=>rfl)]at this;exact this
end

