import Derived.Test.YtphbledmopchnaaGreatDoorLdb
open Go.Addr renaming add_lit->nU
open Go.RowKit.Below renaming refl->mI
open Go.Builtin renaming zeroCells->eB,clear_->nV,append_->o8,firstCells->rX
open Go.Calls renaming quiet_of_same->j3,quiet_of->tT
open Go.Lib renaming wpList_append_run->nP
open List renaming length_append->lg,getElem?_take->mK,mem_of_mem_take->mY,drop_of_length_le->qx,mem_of_mem_drop->qy,takeWhile_cons->qA,getElem?_drop->sF,length_cons->tL,mem_append->tO,take_zero->uj
open Nat renaming le_refl->eT,mul_one->nI,sub_self->og,zero_add->wz,zero_mul->xB
open Go.Value renaming bool->mE,int->mR,ownBlock->nA,cells->yP
set_option maxHeartbeats 2000000
set_option maxRecDepth 100000
namespace Go.Proofs.YtphbledmopchnaaGreatDoor.Sd
open Go.RowKit Go.Lib Mm Tryz
section
def iY(l:List Bool):bO:=l.map .bool
structure zT (l:bO) (o:Nat) (m:eH) (vh vc:Value):Prop where
 gr:vX l o m.gr
 c4:l[o+4]?=some (uZ m.aR)
 c5:l[o+5]?=some vh
 c6:l[o+6]?=some vc
 c7:l[o+7]?=some (uZ m.fF)
 c8:l[o+8]?=some (.bool m.bM)
 c9:l[o+9]?=some (uZ m.fU)
 vY:l[o+10]?=some (.bool m.bX)
 zU:l[o+11]?=some (uZ m.rel)
 zV:l[o+12]?=some (iZ m.state)
theorem zT.gN{l l':bO}{o o' n':Nat}{m:eH}{vh vc:Value}(h:zT l o m vh vc)(w:kW l l' o' n')(hd:o+13<=o'\/o'+n'<=o):zT l' o m vh vc:=
 ⟨h.gr.gN w aj,by rw[w.2 _ aj,h.c4],by rw[w.2 _ aj,h.c5],by rw[w.2 _ aj,h.c6],by rw[w.2 _ aj,h.c7],by rw[w.2 _ aj,h.c8],by rw[w.2 _ aj,h.c9],by rw[w.2 _ aj,h.vY],by rw[w.2 _ aj,h.zU],by rw[w.2 _ aj,h.zV]⟩
def EG(oZ:Own)(t:Nat)(w:World)(l:bO)(o:Nat)(m:eH):Prop:=
 ∃vh vc,zT l o m vh vc/\GT oZ t 5 1 w vh m.bU.length (cB m.bU)/\GT oZ (t+1) 4 1 w vc m.aM.length (iY m.aM)
theorem EG.kp{oZ aY:Own}{t:Nat}{w w':World}{l l':bO}{o o' n':Nat}{m:eH}{T:List Nat}(h:EG oZ t w l o m)(K:Kp T oZ aY w w')(d:t∉T)(a:t+1∉T)(wi:kW l l' o' n')(hd:o+13<=o'\/o'+n'<=o):EG aY t w' l' o m:=by obtain⟨vh,vc,h1,b,c⟩:=h;exact⟨vh,vc,h1.gN wi hd,b.kp K d,c.kp K a⟩
structure OkI (m:eH):Prop where
 gr:m.gr.ahead<=4096/\m.gr.dW<=dK/\m.gr.cK<=dK/\m.gr.aM<=dK
 rd:m.aR<=dK
 hi:m.fF<=dK
 fe:m.fU<=dK
 re:m.rel<=dK
 hl:m.bU.length<=1000000
 cl:m.aM.length=m.bU.length
 st:m.state<=2
theorem OkI.aQ{m:eH}(h:OkI m):m.aQ<=dK:=by
 unfold eH.aQ;split;·exact h.fe
 ·exact h.rd
section
variable (S o:Nat) (m:eH) (vh vc:Value) (w:World) (l:bO) (hB:aS w S TS l) (h:zT l o m vh vc)
 include hB h
theorem in4:w.cell? (aB S (o+4))=some (uZ m.aR):=by rw[hB.cell];exact h.c4
theorem in5:w.cell? (aB S (o+5))=some vh:=by rw[hB.cell];exact h.c5
theorem in6:w.cell? (aB S (o+6))=some vc:=by rw[hB.cell];exact h.c6
theorem in7:w.cell? (aB S (o+7))=some (uZ m.fF):=by rw[hB.cell];exact h.c7
theorem in8:w.cell? (aB S (o+8))=some (.bool m.bM):=by rw[hB.cell];exact h.c8
theorem in9:w.cell? (aB S (o+9))=some (uZ m.fU):=by rw[hB.cell];exact h.c9
theorem qdg:w.cell? (aB S (o+10))=some (.bool m.bX):=by rw[hB.cell];exact h.vY
theorem qfv:w.cell? (aB S (o+11))=some (uZ m.rel):=by rw[hB.cell];exact h.zU
theorem qat:w.cell? (aB S (o+12))=some (iZ m.state):=by rw[hB.cell];exact h.zV
theorem Gh:Calls prog 310 #[aI S o] w fun e w'=>e=.returned (uZ m.aQ)/\w'=w:=by
 have c4:=in4 S o m vh vc w l hB h;have c9:=in9 S o m vh vc w l hB h;have zV:=qat S o m vh vc w l hB h;have a:Hid (m.aQ=if m.state=2 then m.fU else m.aR):=rfl;generalize m.aQ=F at *
 clear h hB;by_cases hs:m.state=2
 ·have g:((m.state:Int)==2)=true:=by simp;omega
  rw[bK hs]at a;clear hs;go_enter func310,ntmps310;go_wp2;go_ret;exact⟨xu (by rw[a.out]),rfl⟩
 ·have g:((m.state:Int)==2)=false:=by simp;omega
  rw[aU hs]at a;clear hs;go_enter func310,ntmps310;go_wp2;go_ret;exact⟨xu (by rw[a.out]),rfl⟩
theorem zW(a:Nat):Calls prog 339 #[aI S o,uZ a] w fun e w'=>e=.returned (uZ ((max m.fF a:Nat):Int))/\w'=w:=by have c7:=in7 S o m vh vc w l hB h;obtain⟨x,c,b⟩:=max2 m.fF a;rw[<-b];clear h hB b;go_enter func339,ntmps339;go_wp2;go_ret;exact⟨rfl,rfl⟩
theorem yT:Calls prog 306 #[aI S o] w fun e w'=>e=.returned (uZ m.wanted)/\w'=w:=by
 have c8:=in8 S o m vh vc w l hB h;have c9:=in9 S o m vh vc w l hB h;have vY:=qdg S o m vh vc w l hB h;have zU:=qfv S o m vh vc w l hB h;have a:Hid (m.wanted=if m.bX then m.rel else if m.bM then m.fU else 4611686018427387903):=rfl;generalize m.wanted=F at *
 clear h hB;cases b:m.bX
 ·cases c:m.bM;all_goals
   rw[b]at vY a;rw[c]at c8 a;go_enter func306,ntmps306;go_wp2;go_ret;exact⟨xu (by rw[a.out];rfl),rfl⟩
 ·rw[b]at vY a;go_enter func306,ntmps306;go_wp2;go_ret;exact⟨xu (by rw[a.out];rfl),rfl⟩
theorem LU:Calls prog 240 #[aI S o] w fun e w'=>e=.returned (iZ m.h_)/\∃q,w'=w.drewN q:=by
 have c4:=in4 S o m vh vc w l hB h;have c8:=in8 S o m vh vc w l hB h;have vY:=qdg S o m vh vc w l hB h;have b:=aG (fun q=>yT S o m vh vc (w.drewN q) l hB h);have a:Hid (m.h_=if m.bM=false\/m.aR<m.wanted then 0 else if m.bX then 2 else 1):=rfl;generalize m.wanted=W at *
 generalize m.h_=F at *
 clear h hB;cases c:m.bM;·rw[c]at c8 a;go_enter func240,ntmps240;go_wp2;go_quiet ((go_at_call 306;exact j3 (b.out _)));go_wp2;go_ret;exact⟨ig (by rw[a.out];simp),nq,rfl⟩
 ·by_cases d:m.aR<W;·rw[c]at c8 a;rw[bK (.inr d)]at a;go_enter func240,ntmps240;go_wp2;go_quiet ((go_at_call 306;exact j3 (b.out _)));go_wp2;go_ret;exact⟨ig (by rw[a.out];rfl),nq,rfl⟩
  ·rw[c]at c8 a;rw[aU (by simp;omega)]at a;cases f:m.bX;all_goals
    rw[f]at vY a;go_enter func240,ntmps240;go_wp2;go_quiet ((go_at_call 306;exact j3 (b.out _)));go_wp2;go_ret;exact⟨ig (by rw[a.out];rfl),nq,rfl⟩
theorem Eb(ok:OkI m):Calls prog 255 #[aI S o] w fun e w'=>e=.returned (.bool m.dh)/\∃q,w'=w.drewN q:=by
 have c7:=in7 S o m vh vc w l hB h;have c8:=in8 S o m vh vc w l hB h;have k:=aG (fun q=>yT S o m vh vc (w.drewN q) l hB h);have j:=aG (fun q g=>Gh S o m vh vc ((w.drewN q).drewN g) l hB h);have i:=aG (fun q g=>Ja S o m.gr m.aQ ((w.drewN q).drewN g) l hB h.gr ok.gr.1 ok.aQ);have c:Hid (m.dh=(!(m.bM&&decide (m.wanted<=m.fF))&&m.gr.aK m.aQ)):=rfl;generalize m.wanted=W at *
 generalize m.dh=F at *
 generalize m.gr.aK m.aQ=B at *
 generalize m.aQ=R at *
 clear h hB ok;cases n:m.bM
 ·rw[n]at c8 c;go_enter func255,ntmps255;go_wp2;go_quiet ((go_at_call 306;exact j3 (k.out _)));go_wp2_with fail;have a:=aG (j.out nq);have d:=aG (i.out nq);generalize b:w.drewN nq=w1 at *
  go_quiet ((first|(go_at_call 310;exact j3 (a.out _))|(go_at_call 251;exact tT (d.out _))));go_wp2;go_ret;exact⟨dI (by rw[c.out];simp),_,by rw[<-b,World.drewN_drewN]⟩
 ·by_cases f:W<=m.fF;all_goals
   rw[n]at c8 c;go_enter func255,ntmps255;go_wp2;go_quiet ((go_at_call 306;exact j3 (k.out _)));go_wp2_with fail;have a:=aG (j.out nq);have d:=aG (i.out nq);generalize b:w.drewN nq=w1 at *
   go_quiet ((first|(go_at_call 310;exact j3 (a.out _))|(go_at_call 251;exact tT (d.out _))));go_wp2;go_ret;exact⟨dI (by rw[c.out];simp[f]),_,by rw[<-b,World.drewN_drewN]⟩
end

end
def wm(oZ:Own)(t a b:Nat):Own:=fun k=>if a<=k/\k<b then t else oZ k
theorem rA(oZ:Own)(t a b k:Nat)(h:k<a):wm oZ t a b k=oZ k:=aU aj
theorem wo(oZ:Own)(t a b k:Nat)(h:a<=k)(c:k<b):wm oZ t a b k=t:=bK ⟨h,c⟩
theorem gq{t e:TypeId}{z:Value}{k ay:Nat}(E:I9 t e z k ay){oZ:Own}{g:Nat}{w:World}{v:Value}{n:Nat}{l:bO}(h:GT oZ g e k w v n l)(a:Addr)(m mc:Nat)(f:bO)(B:f.length=m*k)(h1:∀v∈f,v.oneCell'=true)(p:∀j u,f[j]?=some u->w.cell? (a.add j)=some u)(gQ:n+m<=1000000000000):∃v' w' aY,(∀i,(o8 #[t,t] i #[v,.slice (some a) m mc]).run prog w=.ok v' w')/\GT aY g e k w' v' (n+m) (l++f)/\Kp [g] oZ aY w w':=by
 have x:(n+m)*ay<=140737488355328:=Nat.le_trans (Nat.mul_le_mul gQ E.hb) iO;have H:=h.len;have M:(n+m)*k=n*k+m*k:=Nat.add_mul _ _ _;have grow:∀base c (cs:bO),cs=l->c<n+m->(base=none/\cs=[]\/∃b:Addr,base=some b/\cs.length=n*k/\∀j v,cs[j]?=some v->w.cell? (b.add j)=some v)->(∀v∈cs,v.oneCell'=true)->∃v' w' aY,(∀i,(o8 #[t,t] i #[.slice base n c,.slice (some a) m mc]).run prog w=.ok v' w')/\GT aY g e k w' v' (n+m) (l++f)/\Kp [g] oZ aY w w':=by
  intro base c cs y D hold C;have q:=fun i=>jd (P:=prog) (w:=w) t t i e _ k ay E.ht E.ht E.hi (base:=base) (n:=n) (c:=c) (m:=m) (mc:=mc) (cs:=cs) hold a (vs:=f) B p h1 D x aj;have F:=grownCap_ge w (n+m) c e;have o:=grownCap_le_maxLen w (n+m) c e (by unfold maxLen;omega);unfold maxLen at o;have G:cs.length=n*k:=by rw[y,H]
  refine⟨_,_,wm oZ g w.heap.size (w.heap.size+1),q,.inr ⟨w.heap.size,_,_,rfl,wo _ _ _ _ _ (eT _) aj,aS.new w e _,?_,F,o,by rw[lg];omega,?_,?_⟩,?_⟩
  ·rw[lg,lg,E.hz,G,B];have:(grownCap w (n+m) c e-(n+m))*k+(n+m)*k=grownCap w (n+m) c e*k:=by rw[<-Nat.add_mul];congr 1;omega
   omega
  ·rw[List.take_append_of_le_length (by rw[lg];omega),List.take_of_length_le (by rw[lg];omega),y]
  ·intro u d;rcases tO.1 d with d|d
   ·rcases tO.1 d with d|d;·exact C u d
    ·exact h1 u d
   ·exact E.h1 _ u d
  ·have hb:bJ w (w.drew.alloc (.cells (cs++f++(eB z.cells (grownCap w (n+m) c e-(n+m))).toList).toArray e)):=(mI _ w).drew.alloc (eT _) _;exact⟨hb.os,hb.tape,hb.output,hb.size,fun b r _=>hb.block b r,fun b r=>rA _ _ _ _ _ r⟩
 rcases h with⟨rfl,rfl,rfl⟩|⟨b,cap,cs,rfl,ho,hB,h2,h3,h4,h5,h6,h7⟩
 ·by_cases L:m=0
  ·subst L;obtain rfl:f=[]:=by simpa using B
   exact⟨_,_,oZ,fun i=>Aw E w (some a) mc i,.inl ⟨rfl,rfl,rfl⟩,Kp.refl _ _ _⟩
  ·exact grow none 0 [] rfl aj (.inl ⟨rfl,rfl⟩) (fun v N=>by simp at N)
 ·by_cases D:n+m<=cap
  ·have J:(n+m)*k<=cap*k:=Nat.mul_le_mul_right _ D;have q:=fun i=>fZ (P:=prog) (w:=w) t t i e _ k ay E.ht E.ht E.hi (n:=n) (c:=cap) (m:=m) (mc:=mc) hB a (vs:=f) B p h1 D aj;have I:=iH cs f (n*k) aj;refine⟨_,_,oZ,q,.inr ⟨b,cap,_,rfl,ho,hB.put _,?_,D,h4,by rw[lg];omega,?_,dR h7 h1⟩,?_⟩;·rw[bY _ _ _ aj];exact h2
   ·rw[M,<-B,I,h6]
   ·have A:=dU w b (aZ cs (n*k) f);exact⟨A.os,A.tape,A.output,A.size,fun j s K=>A.block j s (fun e=>by simp at e;rw[e,ho]at K;simp at K),fun _ _=>rfl⟩
  ·exact grow (some (aB b 0)) cap l rfl aj (.inr ⟨_,rfl,h5,fun j u s=>by
    rw[nU,wz,hB.cell];rw[<-h6,mK]at s;split at s;·exact s
    ·cases s⟩) (fun u d=>h7 u (by rw[<-h6]at d;exact mY d))
theorem yX:I9 60 5 (.int .u8 0) 1 1:=⟨u29,IE,fun n=>by rw[uG];omega,yJ,aj⟩
theorem Yb(s t:Nat)(oZ:Own)(S o:Nat)(m:Ot)(bs:List UInt8)(a:Addr)(c:Nat)(l:bO)(w:World)(hB:aS w S TS l)(I:oZ S=s)(Q:s<t)(n:BP oZ t w S l o m)(hl:m.ay.length<=2048)(g:dV w (some a) bs)(_hbl:bs.length<=1000000000):Calls prog 147 #[aI S o,.slice (some a) bs.length c] w fun e w'=>e=.returned (rz (m.send bs).2)/\ko s t oZ S o l w (m.send bs).1 w':=by
 obtain⟨K,c1,va,vc,k1,J,k2,x,y,L,M,N,A,C⟩:=n.open hB;have z:=aG (EI S o m.bn m.nt.bX w M N);have F:=aG (ko.refl (s:=s) hB n (mI _ w));have i:Hid (m.send bs=if(m.bn||m.nt.bX)then(m,4)else if 2048<m.ay.length+bs.length then(m,3)else({m with ay:=m.ay++bs},0)):=rfl;have U: -9223372036854775808<=2048-(m.ay.length:Int):=aj;have V:2048-(m.ay.length:Int)<9223372036854775808:=aj;generalize m.send bs=X at *
 generalize (m.bn||m.nt.bX)=B at *
 cases B with
 |true=>clear n hB k1 k2 x y L A C g;go_enter func147,ntmps147;go_wp2_with fail;refine bN z.out ?_;rintro w' rfl;go_wp2;go_ret;exact⟨by rw[i.out];rfl,by rw[i.out];exact F.out⟩
 |false=>
  by_cases d:2048<m.ay.length+bs.length;·have D:2048-(m.ay.length:Int)<(bs.length:Int):=aj;rw[bK d]at i;clear n hB k1 k2 x y A C g d;go_enter func147,ntmps147;go_wp2_with fail;refine bN z.out ?_;rintro w' rfl;go_wp2;go_ret;exact⟨by rw[i.out];rfl,by rw[i.out];exact F.out⟩
  ·have D:¬(2048-(m.ay.length:Int)<(bs.length:Int)):=aj;rw[aU d]at i;obtain⟨v',w1,H,q,v,k⟩:=gq yX k2 a bs.length c (cB bs) (by rw[dM];omega) (gY bs) (fun j u E=>by
    have p:j<bs.length:=by have:=(List.getElem?_eq_some_iff.1 E).1;rwa[dM]at this
    obtain⟨b,off,P,J⟩:=g j p;cases P;rw[nU,J];simp[cB,p]at E;rw[<-E]) aj
   obtain⟨G,c2,rfl,_,_⟩:=v.shape;rw[<-jG]at v;have r:oZ S∉[t]:=by rw[I];simp;omega
   have f:=cO hB k r;have O:Hid (ko s t oZ S o l w {m with ay:=m.ay++bs} (w1.setCell (aB S o) (.slice G (m.ay.length+bs.length) c2))):=by have h1:=gM.one f o (.slice G (m.ay.length+bs.length) c2) o 14 aj aj;have h:=h1.kp (s:=s) (oZ:=H) (by rw[k.ext _ hB.lt,I]) (T:=[s]) aP;refine⟨H,_,(k.mono aP).trans (h.mono aP),h1.cZ,h1.gN,_,va,vc,PW k1 _ _,?_,(x.kp k aP).kp h (by simp;omega),(y.kp k aP).kp h (by simp;omega)⟩;have:=v.kp h (by simp;omega);show GT _ _ _ _ _ _ (m.ay++bs).length _;rw[lg];exact this
   have R:w1.cell? (aB S o)=some (.slice K m.ay.length c1):=by rw[f.cell];exact k1.c0
   have f0:=f.frozen o;clear n hB k1 k2 x y A C g d v k f r;go_enter func147,ntmps147;go_wp2_with fail;refine bN z.out ?_;rintro w' rfl;go_wp2_with (at_builtin;refine nP _ rfl _ _ _ _ rfl _ _ rfl rfl _ _ (q _) ?_);go_wp2;go_ret;exact⟨by rw[i.out];rfl,by rw[i.out];exact O.out⟩
abbrev ni(B:Nat)(v:Value):Prop:=Go.Proofs.YtphbledmopchnaaGreatDoor.Own B v
def Rd(k:Nat)(w:World)(v:Value)(n:Nat)(l:bO):Prop:=
 v=nZ/\n=0/\l=[]\/∃g cap,v=(dP g n cap)/\g<w.heap.size/\l.length=n*k/\(∀j u,l[j]?=some u->w.cell? (aB g j)=some u)/\∀u∈l,u.oneCell'=true
theorem Rd.below{k:Nat}{w w':World}{v:Value}{n:Nat}{l:bO}(h:Rd k w v n l)(hb:bJ w w'):Rd k w' v n l:=by
 rcases h with h|⟨g,cap,h1,a,b,c,d⟩;·exact .inl h
 ·exact .inr ⟨g,cap,h1,Nat.lt_of_lt_of_le a hb.size,b,fun j u e=>(hb.cell (p:=(aB g j)) a).trans (c j u e),d⟩
theorem GT.rd{oZ:Own}{t:Nat}{e:TypeId}{k:Nat}{w:World}{v:Value}{n:Nat}{l:bO}(h:GT oZ t e k w v n l):Rd k w v n l:=by
 rcases h with h|⟨g,cap,cs,h1,m,b,o,p,q,f,c,i⟩;·exact .inl h
 ·refine .inr ⟨g,cap,h1,b.lt,f,fun j u a=>?_,fun u d=>i u (by rw[<-c]at d;exact mY d)⟩;rw[b.cell];rw[<-c,mK]at a;split at a;·exact a
  ·cases a
theorem mh.rd{oZ:Own}{t:Nat}{w:World}{S:Nat}{va:Value}{rs:bW}(h:mh oZ t w S va rs):Rd 2 w va rs.length (St.bQ rs):=by
 obtain⟨base,c,rfl,e,f,d,g⟩:=h;rcases d with⟨rfl,rfl,rfl⟩|⟨b,l,rfl,_,hB,hl,ht,h1⟩;·exact .inl ⟨rfl,rfl,rfl⟩
 ·refine .inr ⟨b,c,rfl,hB.lt,by rw[St.l6];omega,fun j u a=>?_,St.lK rs⟩;rw[hB.cell];rw[<-ht,mK]at a;split at a;·exact a
  ·cases a
theorem EK(n:Nat):(eB (mE false).cells n).toList.length=n:=by simp[eB,yP]
theorem PY(n:Nat):∀v∈(eB (mE false).cells n).toList,v.oneCell'=true:=by intro v a;simp[eB,yP]at a;obtain⟨i,_,rfl⟩:=a;have:i % 1=0:=aj;rw[this];rfl
theorem Az:I9 156 4 (.bool false) 1 1:=⟨bH,bH,fun n=>by rw[EK];omega,PY,aj⟩
theorem EL{t e:TypeId}{z:Value}{k ay:Nat}(E:I9 t e z k ay)(w:World)(g n cap:Nat)(l:bO)(I:g<w.heap.size)(hl:l.length=n*k)(H:∀j u,l[j]?=some u->w.cell? (aB g j)=some u)(h1:∀u∈l,u.oneCell'=true)(L:n<=1000000):∃o c' i,(∀C,(o8 #[t,t] C #[dP w.heap.size 0 0,dP g n cap]).run prog (w.alloc (.cells #[] e))=.ok (.slice o n c') i)/\eX e k i (.slice o n c') n l/\ni w.heap.size (.slice o n c')/\bJ w i:=by
 obtain⟨a,b⟩:=bZ (w.alloc (.cells #[] e));rw[<-b];have f:aS a w.heap.size e []:=by rw[b];exact aS.new w e []
 have d:bJ w a:=by rw[b];exact(mI _ w).alloc (eT _) _
 have J:a.heap.size=w.heap.size+1:=by rw[b];simp
 have h:∀j u,l[j]?=some u->a.cell? ((aB g 0).add j)=some u:=fun j u B=>by rw[nU,wz,d.cell (p:=(aB g j)) I];exact H j u B
 have F:ni w.heap.size (dP w.heap.size 0 0):=fun k x=>by simp[nA]at x;omega
 by_cases G:n=0
 ·subst G;obtain rfl:l=[]:=by simpa using hl
  have A:=fun C=>fZ (P:=prog) (w:=a) t t C e _ k ay E.ht E.ht E.hi (n:=0) (c:=0) (m:=0) (mc:=cap) f (aB g 0) (vs:=[]) aP (fun j v B=>by simp at B) (fun v s=>by cases s) (eT _) aP;refine⟨_,_,_,A,.inr ⟨w.heap.size,0,_,rfl,f.put _,by rw[bY _ _ _ aP];simp,eT _,aj,aP,aP,fun v s=>by simp[aZ]at s⟩,fun k x=>by simp[nA]at x;omega,?_⟩;exact d.trans (⟨(dU a w.heap.size _).os,(dU a w.heap.size _).tape,(dU a w.heap.size _).output,(dU a w.heap.size _).size,fun k x=>iG a _ k _ aj⟩:Below w.heap.size a _)
 ·have r:eX e k a (dP w.heap.size 0 0) 0 []:=.inr ⟨w.heap.size,0,[],rfl,f,aP,eT _,aj,aP,aP,fun v s=>by cases s⟩;obtain⟨v',i,K,y,D⟩:=iQ E r (aB g 0) n cap l hl aj h1 h aj;have q:eX e k i v' n l:=by simpa using y
  obtain⟨o,c',rfl,_⟩:=q.shape;exact⟨o,c',i,K,q,D.own F aj,d.trans (D.below F aj)⟩
theorem L9(w:World):(binOp BinOp.eql 63 nZ nZ).run prog w=.ok (.bool true) w:=bH
theorem Jh(w:World)(a:Addr)(n c:Nat):(binOp BinOp.eql 63 (.slice (some a) n c) nZ).run prog w=.ok (.bool false) w:=bH
theorem L_(v:Value)(n:Nat)(l:bO)(w:World)(h:Rd 2 w v n l)(f:n<=1000000):Calls prog 228 #[v] w fun e w'=>∃a c,e=.returned (.slice a n c)/\eX 170 2 w' (.slice a n c) n l/\ni w.heap.size (.slice a n c)/\bJ w w':=by
 rcases h with⟨rfl,rfl,rfl⟩|⟨g,cap,rfl,h2,h3,h4,h5⟩;·have i:=L9 w;go_enter func228,ntmps228;go_wp2;go_ret;exact⟨none,0,rfl,.inl ⟨rfl,rfl,rfl⟩,fun k d=>by simp[nA]at d,mI _ _⟩
 ·have i:=Jh w (aB g 0) n cap;obtain⟨o,c',m,j,hF⟩:=EL LQ w g n cap l h2 h3 h4 h5 f;have b:=aG hF;clear hF h2 h3 h4 h5;go_enter func228,ntmps228;go_wp2_with (at_builtin;refine nP _ rfl _ _ _ _ rfl _ _ rfl rfl _ _ (j _) ?_);go_ret;exact⟨_,_,rfl,b.out⟩
theorem BX(w:World):(binOp BinOp.eql 54 nZ nZ).run prog w=.ok (.bool true) w:=bH
theorem zY(w:World)(a:Addr)(n c:Nat):(binOp BinOp.eql 54 (.slice (some a) n c) nZ).run prog w=.ok (.bool false) w:=bH
theorem Ma(v:Value)(n:Nat)(l:bO)(w:World)(h:Rd 10 w v n l)(f:n<=1000000):Calls prog 272 #[v] w fun e w'=>∃a c,e=.returned (.slice a n c)/\eX 65 10 w' (.slice a n c) n l/\ni w.heap.size (.slice a n c)/\bJ w w':=by
 rcases h with⟨rfl,rfl,rfl⟩|⟨g,cap,rfl,h2,h3,h4,h5⟩;·have i:=BX w;go_enter func272,ntmps272;go_wp2;go_ret;exact⟨none,0,rfl,.inl ⟨rfl,rfl,rfl⟩,fun k d=>by simp[nA]at d,mI _ _⟩
 ·have i:=zY w (aB g 0) n cap;obtain⟨o,c',m,j,hF⟩:=EL Gc w g n cap l h2 h3 h4 h5 f;have b:=aG hF;clear hF h2 h3 h4 h5;go_enter func272,ntmps272;go_wp2_with (at_builtin;refine nP _ rfl _ _ _ _ rfl _ _ rfl rfl _ _ (j _) ?_);go_ret;exact⟨_,_,rfl,b.out⟩
theorem PZ(b m n c:Nat)(l:bO)(w:World)(W:1<=m)(Q:1<=n)(R:m+n<=c)(_hc:c<=9223372036854775807)(_hbig:m+n<=1000000)(h:aS w b 5 l)(hl:c<=l.length)(h1:∀v∈l,v.oneCell'=true):Calls prog 303 #[(dP b (m+n) c),iZ 0,iZ n] w fun e w'=>
   ∃l',e=.returned (dP b m c)/\aS w' b 5 l'/\l'.length=l.length/\l'.take m=(l.take (m+n)).drop n/\(∀v∈l',v.oneCell'=true)/\nE b w w':=by
 have y:((l.take (m+n)).drop n).length=m:=by simp;omega
 have p:∀v∈(l.take (m+n)).drop n,v.oneCell'=true:=fun v S=>h1 v (mY (qy S));have f:∀j v,((l.take (m+n)).drop n)[j]?=some v->l[n+j]?=some v:=fun j v t=>by
  rw[sF,mK]at t;split at t;·exact t
  ·cases t
 have u:(loadCellsFrom (aB b n) 0 (m*1) #[]).run prog w.drew=.ok ((l.take (m+n)).drop n).toArray w.drew:=by have M:=run_firstCells_some (P:=prog) w.drew 1 m (aB b n) m (c-n) ((l.take (m+n)).drop n) aj (fun j v t=>by rw[nU];exact(aS.cell h (n+j)).trans (f j v t));simpa[rX,loadCells]using M
 rw[nI]at u;have x:(storeCells (aB b 0) ((l.take (m+n)).drop n)).run prog w.drew=.ok () (put w.drew b (aZ l 0 ((l.take (m+n)).drop n))):=
  gD (P:=prog) (w:=w.drew) (o:=0) h _ aj p
 have q:(aZ l 0 ((l.take (m+n)).drop n)).length=l.length:=bY _ _ _ aj;have d:(aZ l 0 ((l.take (m+n)).drop n)).take m=(l.take (m+n)).drop n:=by have:=iH l ((l.take (m+n)).drop n) 0 aj;rw[y]at this;simpa using this
 have g:∀v∈aZ l 0 ((l.take (m+n)).drop n),v.oneCell'=true:=dR h1 p;have a:aS (put w.drew b (aZ l 0 ((l.take (m+n)).drop n))) b 5 (aZ l 0 ((l.take (m+n)).drop n)):=aS.put (w:=w.drew) h _;generalize aZ l 0 ((l.take (m+n)).drop n)=l1 at x q d g a;generalize (l.take (m+n)).drop n=X at d u x ⊢;have D:∀E cc,(nV #[60] E #[.slice (some (aB b m)) n cc]).run prog (put w.drew b l1)=.ok (.tuple #[]) (put (put w.drew b l1) b (aZ l1 m (eB (mR .u8 0).cells n).toList)):=fun E cc=>iA (P:=prog) (o:=m) (n:=n) (c:=cc) 60 5 E _ yX.ht (fun w=>bH) a aj (by rw[yX.hz];omega) (yX.h1 _);have s:(aZ l1 m (eB (mR .u8 0).cells n).toList).take m=X:=by rw[gV _ _ _ _ (by rw[yX.hz];omega) (eT _),d]
 have r:(aZ l1 m (eB (mR .u8 0).cells n).toList).length=l.length:=by rw[bY _ _ _ (by rw[yX.hz];omega),q]
 have i:∀v∈aZ l1 m (eB (mR .u8 0).cells n).toList,v.oneCell'=true:=dR g (yX.h1 _);generalize aZ l1 m (eB (mR .u8 0).cells n).toList=l2 at D s r i;have C:Hid _:=s;have z:Hid _:=i;have B:Hid _:=r;have A:Hid (aS (put w.drew b l1) b 5 l1):=a;have G:Hid (nE b w (put (put w.drew b l1) b l2)):=⟨rfl,rfl,rfl,by simp[put],fun k F=>by rw[iG _ _ _ _ F,iG _ _ _ _ F];rfl⟩;clear d s i r g q a p f y h1 hl h;have N:m<=c:=aj;have H:(n:Int)<=(m:Int)+(n:Int):=aj;have I:(m:Int)+(n:Int)<=(c:Int):=aj;have J:(n:Int)<=(c:Int):=aj;have K:¬(c=m):=aj;have L:¬(c=n):=aj;have O:¬((0:Int)=(n:Int)):=aj;have T:((0:Int)==(n:Int))=false:=by simp;omega
 have U:m+n-m=n:=aj;have V:m+n-n=m:=aj;go_enter func303,ntmps303;go_wp2;go_region
 go_wp2;go_ret;exact⟨l2,rfl,aS.put A.out l2,B.out,C.out,z.out,G.out⟩
theorem P5(b m n c:Nat)(l:bO)(w:World)(W:1<=m)(Q:1<=n)(R:m+n<=c)(_hc:c<=9223372036854775807)(_hbig:m+n<=1000000)(h:aS w b 4 l)(hl:c<=l.length)(h1:∀v∈l,v.oneCell'=true):Calls prog 304 #[(dP b (m+n) c),iZ 0,iZ n] w fun e w'=>
   ∃l',e=.returned (dP b m c)/\aS w' b 4 l'/\l'.length=l.length/\l'.take m=(l.take (m+n)).drop n/\(∀v∈l',v.oneCell'=true)/\nE b w w':=by
 have y:((l.take (m+n)).drop n).length=m:=by simp;omega
 have p:∀v∈(l.take (m+n)).drop n,v.oneCell'=true:=fun v S=>h1 v (mY (qy S));have f:∀j v,((l.take (m+n)).drop n)[j]?=some v->l[n+j]?=some v:=fun j v t=>by
  rw[sF,mK]at t;split at t;·exact t
  ·cases t
 have u:(loadCellsFrom (aB b n) 0 (m*1) #[]).run prog w.drew=.ok ((l.take (m+n)).drop n).toArray w.drew:=by have M:=run_firstCells_some (P:=prog) w.drew 1 m (aB b n) m (c-n) ((l.take (m+n)).drop n) aj (fun j v t=>by rw[nU];exact(aS.cell h (n+j)).trans (f j v t));simpa[rX,loadCells]using M
 rw[nI]at u;have x:(storeCells (aB b 0) ((l.take (m+n)).drop n)).run prog w.drew=.ok () (put w.drew b (aZ l 0 ((l.take (m+n)).drop n))):=
  gD (P:=prog) (w:=w.drew) (o:=0) h _ aj p
 have q:(aZ l 0 ((l.take (m+n)).drop n)).length=l.length:=bY _ _ _ aj;have d:(aZ l 0 ((l.take (m+n)).drop n)).take m=(l.take (m+n)).drop n:=by have:=iH l ((l.take (m+n)).drop n) 0 aj;rw[y]at this;simpa using this
 have g:∀v∈aZ l 0 ((l.take (m+n)).drop n),v.oneCell'=true:=dR h1 p;have a:aS (put w.drew b (aZ l 0 ((l.take (m+n)).drop n))) b 4 (aZ l 0 ((l.take (m+n)).drop n)):=aS.put (w:=w.drew) h _;generalize aZ l 0 ((l.take (m+n)).drop n)=l1 at x q d g a;generalize (l.take (m+n)).drop n=X at d u x ⊢;have D:∀E cc,(nV #[156] E #[.slice (some (aB b m)) n cc]).run prog (put w.drew b l1)=.ok (.tuple #[]) (put (put w.drew b l1) b (aZ l1 m (eB (mE false).cells n).toList)):=fun E cc=>iA (P:=prog) (o:=m) (n:=n) (c:=cc) 156 4 E _ Az.ht (fun w=>bH) a aj (by rw[Az.hz];omega) (Az.h1 _);have s:(aZ l1 m (eB (mE false).cells n).toList).take m=X:=by rw[gV _ _ _ _ (by rw[Az.hz];omega) (eT _),d]
 have r:(aZ l1 m (eB (mE false).cells n).toList).length=l.length:=by rw[bY _ _ _ (by rw[Az.hz];omega),q]
 have i:∀v∈aZ l1 m (eB (mE false).cells n).toList,v.oneCell'=true:=dR g (Az.h1 _);generalize aZ l1 m (eB (mE false).cells n).toList=l2 at D s r i;have C:Hid _:=s;have z:Hid _:=i;have B:Hid _:=r;have A:Hid (aS (put w.drew b l1) b 4 l1):=a;have G:Hid (nE b w (put (put w.drew b l1) b l2)):=⟨rfl,rfl,rfl,by simp[put],fun k F=>by rw[iG _ _ _ _ F,iG _ _ _ _ F];rfl⟩;clear d s i r g q a p f y h1 hl h;have N:m<=c:=aj;have H:(n:Int)<=(m:Int)+(n:Int):=aj;have I:(m:Int)+(n:Int)<=(c:Int):=aj;have J:(n:Int)<=(c:Int):=aj;have K:¬(c=m):=aj;have L:¬(c=n):=aj;have O:¬((0:Int)=(n:Int)):=aj;have T:((0:Int)==(n:Int))=false:=by simp;omega
 have U:m+n-m=n:=aj;have V:m+n-n=m:=aj;go_enter func304,ntmps304;go_wp2;go_region
 go_wp2;go_ret;exact⟨l2,rfl,aS.put A.out l2,B.out,C.out,z.out,G.out⟩
theorem Uc(b n c:Nat)(l:bO)(w:World)(s:1<=n)(t:n<=c)(h:aS w b 5 l)(hl:c<=l.length)(h1:∀v∈l,v.oneCell'=true):Calls prog 303 #[dP b n c,iZ 0,iZ n] w fun e w'=>
   ∃l',e=.returned (dP b 0 c)/\aS w' b 5 l'/\l'.length=l.length/\(∀v∈l',v.oneCell'=true)/\nE b w w':=by
 have f:∀i cc,(nV #[60] i #[dP b n cc]).run prog w.drew=.ok (.tuple #[]) (put w.drew b (aZ l 0 (eB (mR .u8 0).cells n).toList)):=fun i cc=>iA (P:=prog) (o:=0) (n:=n) (c:=cc) 60 5 i _ yX.ht (fun w=>bH) (aS.drew h) aj (by rw[yX.hz];omega) (yX.h1 _);have d:(aZ l 0 (eB (mR .u8 0).cells n).toList).length=l.length:=bY _ _ _ (by rw[yX.hz];omega);have a:∀v∈aZ l 0 (eB (mR .u8 0).cells n).toList,v.oneCell'=true:=dR h1 (yX.h1 _);generalize aZ l 0 (eB (mR .u8 0).cells n).toList=l2 at f d a;have j:Hid (aS (put w.drew b l2) b 5 l2/\l2.length=l.length/\(∀v∈l2,v.oneCell'=true)/\nE b w (put w.drew b l2)):=⟨aS.put (w:=w.drew) h l2,d,a,rfl,rfl,rfl,by simp[put],fun k q=>by rw[iG _ _ _ _ q];rfl⟩;clear d a h h1 hl;have p:(n:Int)<=(c:Int):=aj;have r:¬((0:Int)=(n:Int)):=aj;have u:((0:Int)==(n:Int))=false:=by simp;omega
 have m:¬(c=0):=aj;by_cases g:c=n;all_goals
  go_enter func303,ntmps303;go_wp2;go_region
  go_wp2;go_ret;exact⟨l2,St.uL rfl (by first|rfl|exact g.symm),j.out⟩
theorem Ud(b n c:Nat)(l:bO)(w:World)(s:1<=n)(t:n<=c)(h:aS w b 4 l)(hl:c<=l.length)(h1:∀v∈l,v.oneCell'=true):Calls prog 304 #[dP b n c,iZ 0,iZ n] w fun e w'=>
   ∃l',e=.returned (dP b 0 c)/\aS w' b 4 l'/\l'.length=l.length/\(∀v∈l',v.oneCell'=true)/\nE b w w':=by
 have f:∀i cc,(nV #[156] i #[dP b n cc]).run prog w.drew=.ok (.tuple #[]) (put w.drew b (aZ l 0 (eB (mE false).cells n).toList)):=fun i cc=>iA (P:=prog) (o:=0) (n:=n) (c:=cc) 156 4 i _ Az.ht (fun w=>bH) (aS.drew h) aj (by rw[Az.hz];omega) (Az.h1 _);have d:(aZ l 0 (eB (mE false).cells n).toList).length=l.length:=bY _ _ _ (by rw[Az.hz];omega);have a:∀v∈aZ l 0 (eB (mE false).cells n).toList,v.oneCell'=true:=dR h1 (Az.h1 _);generalize aZ l 0 (eB (mE false).cells n).toList=l2 at f d a;have j:Hid (aS (put w.drew b l2) b 4 l2/\l2.length=l.length/\(∀v∈l2,v.oneCell'=true)/\nE b w (put w.drew b l2)):=⟨aS.put (w:=w.drew) h l2,d,a,rfl,rfl,rfl,by simp[put],fun k q=>by rw[iG _ _ _ _ q];rfl⟩;clear d a h h1 hl;have p:(n:Int)<=(c:Int):=aj;have r:¬((0:Int)=(n:Int)):=aj;have u:((0:Int)==(n:Int))=false:=by simp;omega
 have m:¬(c=0):=aj;by_cases g:c=n;all_goals
  go_enter func304,ntmps304;go_wp2;go_region
  go_wp2;go_ret;exact⟨l2,St.uL rfl (by first|rfl|exact g.symm),j.out⟩
theorem Ue(oZ:Own)(t n:Nat)(bs:List UInt8)(a:Option Addr)(c:Nat)(w:World)(r:1<=n)(s:n<=bs.length)(hb:bs.length<=1000000)(h:GT oZ t 5 1 w (.slice a bs.length c) bs.length (cB bs)):Calls prog 303 #[.slice a bs.length c,iZ 0,iZ n] w fun e w'=>∃o c',e=.returned (.slice o (bs.length-n) c')/\GT oZ t 5 1 w' (.slice o (bs.length-n) c') (bs.drop n).length (cB (bs.drop n))/\Kp [t] oZ oZ w w':=by
 rcases h with⟨h1,f,_⟩|⟨g,cap,cs,hv,ho,hB,f,h3,h4,h5,h6,h7⟩;·omega
 ·simp at hv;obtain⟨rfl,rfl⟩:=hv;have p:∀w',nE g w w'->Kp [t] oZ oZ w w':=fun w' ht=>⟨ht.os,ht.tape,ht.output,by rw[ht.size];exact eT _,fun b _ j=>ht.block b (fun e=>j (by rw[e,ho];simp)),fun _ _=>rfl⟩;have d:(bs.drop n).length=bs.length-n:=aP;rw[nI]at h6 f;by_cases q:bs.length=n
  ·have:=Uc g n c cs w r aj hB f h7;rw[q];refine this.mono ?_;rintro e w' ⟨l',rfl,k1,k2,k,l⟩;refine⟨_,_,by rw[og],?_,p w' l⟩;rw[d,q,og];refine .inr ⟨g,c,l',rfl,ho,k1,aj,aj,h4,?_,?_,k⟩;·rw[dM,d];omega
   ·rw[xB,uj,qx aj];rfl
  ·obtain⟨m,i⟩:∃m,bs.length=m+n:=⟨bs.length-n,aj⟩;have:=PZ g m n c cs w aj r aj h4 aj hB f h7;rw[<-i]at this;refine this.mono ?_;rintro e w' ⟨l',rfl,k1,k2,k,l,u⟩;refine⟨_,_,by rw[show bs.length-n=m by omega],?_,p w' u⟩;rw[d,show bs.length-n=m by omega];refine .inr ⟨g,c,l',rfl,ho,k1,aj,aj,h4,?_,?_,l⟩;·rw[dM,d];omega
   ·rw[nI,k,h6];simp[cB]
theorem Uf(oZ:Own)(t n:Nat)(bs:List Bool)(a:Option Addr)(c:Nat)(w:World)(u:1<=n)(v:n<=bs.length)(hb:bs.length<=1000000)(h:GT oZ t 4 1 w (.slice a bs.length c) bs.length (iY bs)):Calls prog 304 #[.slice a bs.length c,iZ 0,iZ n] w fun e w'=>∃q c',e=.returned (.slice q (bs.length-n) c')/\GT oZ t 4 1 w' (.slice q (bs.length-n) c') (bs.drop n).length (iY (bs.drop n))/\Kp [t] oZ oZ w w':=by
 have f:∀l:List Bool,(iY l).length=l.length:=fun l=>by simp[iY]
 rcases h with⟨h1,i,_⟩|⟨g,cap,cs,hv,ho,hB,i,h3,h4,h5,h6,h7⟩;·omega
 ·simp at hv;obtain⟨rfl,rfl⟩:=hv;have r:∀w',nE g w w'->Kp [t] oZ oZ w w':=fun w' ht=>⟨ht.os,ht.tape,ht.output,by rw[ht.size];exact eT _,fun b _ k=>ht.block b (fun e=>k (by rw[e,ho];simp)),fun _ _=>rfl⟩;have d:(bs.drop n).length=bs.length-n:=aP;rw[nI]at h6 i;by_cases s:bs.length=n
  ·have:=Ud g n c cs w u aj hB i h7;rw[s];refine this.mono ?_;rintro e w' ⟨l',rfl,k1,k2,o,p⟩;refine⟨_,_,by rw[og],?_,r w' p⟩;rw[d,s,og];refine .inr ⟨g,c,l',rfl,ho,k1,aj,aj,h4,?_,?_,o⟩;·rw[f,d];omega
   ·rw[xB,uj,qx aj];rfl
  ·obtain⟨m,j⟩:∃m,bs.length=m+n:=⟨bs.length-n,aj⟩;have:=P5 g m n c cs w aj u aj h4 aj hB i h7;rw[<-j]at this;refine this.mono ?_;rintro e w' ⟨l',rfl,k1,k2,o,p,x⟩;refine⟨_,_,by rw[show bs.length-n=m by omega],?_,r w' x⟩;rw[d,show bs.length-n=m by omega];refine .inr ⟨g,c,l',rfl,ho,k1,aj,aj,h4,?_,?_,p⟩;·rw[f,d];omega
   ·rw[nI,o,h6];simp[iY]
theorem P6{l:List Bool}{i:Nat}(hi:i<=l.length)(h:∀j,j<i->l.getD j false=true):i<=(l.takeWhile id).length:=by
 induction l generalizing i with
 |nil=>simpa using hi
 |cons b t c=>
  cases i with
  |zero=>exact Nat.zero_le _
  |succ i=>have a:b=true:=h 0 aj;subst a;have:=c (i:=i) (by simpa using hi) (fun j d=>by simpa using h (j+1) aj);simp only[qA,id,if_true,tL];omega
theorem BZ(l:List Bool):(l.takeWhile id).length<=l.length:=(List.takeWhile_prefix _).length_le
theorem Mc{l:List Bool}{i:Nat}(hi:i<l.length)(h:l.getD i false=false):(l.takeWhile id).length<=i:=by
 induction l generalizing i with
 |nil=>simp at hi
 |cons b t c=>
  cases i with
  |zero=>have a:b=false:=h;subst a;simp
  |succ i=>
   cases b with
   |false=>simp
   |true=>have:=c (i:=i) (by simpa using hi) (by simpa using h);simp only[qA,id,if_true,tL];omega
theorem P7(oZ:Own)(t:Nat)(bs:List Bool)(a:Option Addr)(c:Nat)(w:World)(hb:bs.length<=1000000)(h:GT oZ t 4 1 w (.slice a bs.length c) bs.length (iY bs)):Calls prog 305 #[.slice a bs.length c,.bool false] w fun e w'=>e=.returned (iZ (if(bs.takeWhile id).length=bs.length then -1 else((bs.takeWhile id).length:Int)))/\w'=w:=by
 have x:=aG h;have o:=aG (dB (fun i hi r=>P6 (l:=bs) (i:=i) hi r) (fun i hi r=>Mc (l:=bs) (i:=i) hi r));have z:=BZ bs;obtain⟨R,q⟩:=bZ (if(bs.takeWhile id).length=bs.length then -1 else((bs.takeWhile id).length:Int):Int);rw[<-q];have s:=aG q;clear h q;generalize (bs.takeWhile id).length=T at *
 go_enter func305,ntmps305;go_wp2_with fail;go_loopw [8] (fun s8 wr=>∃i:Nat,i<=bs.length/\s8=(iZ i)/\wr=w/\Hid (∀j,j<i->bs.getD j false=true)) (fun s8 _=>bs.length-(RowKit.intOf s8).toNat);case atStart=>exact⟨0,Nat.zero_le _,rfl,rfl,fun j y=>aj⟩
 case round=>
  obtain⟨i,hi,rfl,rfl,f⟩:=hrel;by_cases m:i<bs.length
  ·have v:(i:Int)<(bs.length:Int):=aj;have u:(iY bs)[i]?=some (.bool (bs.getD i false)):=by simp[iY,m]
   obtain⟨g,rfl,_,A,b,_⟩:=x.out.cell i _ u;clear u;cases k:bs.getD i false
   ·have h1:=o.out.2 i m k;have p:=o.out.1 i aj f.out;have d:Hid (R=(i:Int)):=by unfold Hid;rw[s.out,aU aj];omega
    rw[k]at b;clear k f h1 p;go_wp2;go_ret;exact⟨ig (by rw[d.out]),rfl⟩
   ·have n:Hid (∀j,j<i+1->bs.getD j false=true):=fun j y=>by
     by_cases e:j=i;·rw[e];exact k
     ·exact f.out j aj
    rw[k]at b;clear k f;go_wp2_with fail;go_roundw;case rel=>exact⟨i+1,aj,by go_num,by first|rfl|trivial,n⟩
    case measure=>simp[RowKit.intOf];omega
  ·obtain rfl:i=bs.length:=aj;have p:=o.out.1 bs.length (eT _) f.out;have d:Hid (R= -1):=by unfold Hid;rw[s.out,bK aj]
   clear f p;go_wp2;go_ret;exact⟨ig (by rw[d.out]),rfl⟩
theorem Ug(oZ:Own)(t S o:Nat)(m:eH)(vh vc:Value)(l:bO)(w:World)(hB:aS w S TS l)(h:zT l o m vh vc)(f:GT oZ t 4 1 w vc m.aM.length (iY m.aM))(hl:m.aM.length<=1000000):Calls prog 239 #[aI S o] w fun e w'=>e=.returned (iZ m.ready)/\w'=w:=by
 have c6:=in6 S o m vh vc w l hB h;obtain⟨a,c,rfl,k,_⟩:=f.shape;have d:=aG (P7 oZ t m.aM a c w hl f);have g:Hid (m.ready=(m.aM.takeWhile id).length):=rfl;have j:=BZ m.aM;generalize m.ready=R at *
 generalize (m.aM.takeWhile id).length=T at *
 clear f h hB;by_cases b:T=m.aM.length;·rw[bK b]at d;have i:=aG b;clear b;go_enter func239,ntmps239;go_wp2_with fail;refine bN d.out ?_;rintro w' rfl;go_wp2;go_ret;exact⟨ig (by rw[g.out,i.out]),rfl⟩
 ·rw[aU b]at d;clear b;go_enter func239,ntmps239;go_wp2_with fail;refine bN d.out ?_;rintro w' rfl;go_wp2;go_ret;exact⟨ig (by rw[g.out]),rfl⟩
def Uh(s t:Nat)(oZ:Own)(S o:Nat)(l:bO)(w:World)(m':eH)(w':World):Prop:=
 ∃aY l',Kp [s,t,t+1] oZ aY w w'/\aS w' S TS l'/\kW l l' o 13/\EG aY t w' l' o m'
theorem vX.set{l:bO}{o j:Nat}{v:Value}{g:Gn}(h:vX l o g)(a:j<o\/o+4<=j):vX (l.set j v) o g:=
 ⟨(aA _ _ _ _ aj).trans h.c0,(aA _ _ _ _ aj).trans h.c1,(aA _ _ _ _ aj).trans h.c2,(aA _ _ _ _ aj).trans h.c3⟩
theorem Ui{l:bO}{o:Nat}{m:eH}{vh vc:Value}(h:zT l o m vh vc)(x:Nat):zT (l.set (o+4) (uZ x)) o {m with aR:=x} vh vc:=
 ⟨h.gr.set aj,dG _ _ _ _ h.c4,(aA _ _ _ _ aj).trans h.c5,(aA _ _ _ _ aj).trans h.c6,(aA _ _ _ _ aj).trans h.c7,(aA _ _ _ _ aj).trans h.c8,(aA _ _ _ _ aj).trans h.c9,(aA _ _ _ _ aj).trans h.vY,(aA _ _ _ _ aj).trans h.zU,(aA _ _ _ _ aj).trans h.zV⟩
theorem Ji{l:bO}{o:Nat}{m:eH}{vh vc:Value}(h:zT l o m vh vc)(v:Value)(bs:List UInt8):zT (l.set (o+5) v) o {m with bU:=bs} v vc:=
 ⟨h.gr.set aj,(aA _ _ _ _ aj).trans h.c4,dG _ _ _ _ h.c5,(aA _ _ _ _ aj).trans h.c6,(aA _ _ _ _ aj).trans h.c7,(aA _ _ _ _ aj).trans h.c8,(aA _ _ _ _ aj).trans h.c9,(aA _ _ _ _ aj).trans h.vY,(aA _ _ _ _ aj).trans h.zU,(aA _ _ _ _ aj).trans h.zV⟩
theorem Jj{l:bO}{o:Nat}{m:eH}{vh vc:Value}(h:zT l o m vh vc)(v:Value)(bs:List Bool):zT (l.set (o+6) v) o {m with aM:=bs} vh v:=
 ⟨h.gr.set aj,(aA _ _ _ _ aj).trans h.c4,(aA _ _ _ _ aj).trans h.c5,dG _ _ _ _ h.c6,(aA _ _ _ _ aj).trans h.c7,(aA _ _ _ _ aj).trans h.c8,(aA _ _ _ _ aj).trans h.c9,(aA _ _ _ _ aj).trans h.vY,(aA _ _ _ _ aj).trans h.zU,(aA _ _ _ _ aj).trans h.zV⟩
theorem Uj{l:bO}{o:Nat}{m:eH}{vh vc:Value}(h:zT l o m vh vc)(x:Nat):zT (l.set (o+7) (uZ x)) o {m with fF:=x} vh vc:=
 ⟨h.gr.set aj,(aA _ _ _ _ aj).trans h.c4,(aA _ _ _ _ aj).trans h.c5,(aA _ _ _ _ aj).trans h.c6,dG _ _ _ _ h.c7,(aA _ _ _ _ aj).trans h.c8,(aA _ _ _ _ aj).trans h.c9,(aA _ _ _ _ aj).trans h.vY,(aA _ _ _ _ aj).trans h.zU,(aA _ _ _ _ aj).trans h.zV⟩
theorem P8{l:bO}{o:Nat}{m:eH}{vh vc:Value}(h:zT l o m vh vc)(x:Bool):zT (l.set (o+8) (.bool x)) o {m with bM:=x} vh vc:=
 ⟨h.gr.set aj,(aA _ _ _ _ aj).trans h.c4,(aA _ _ _ _ aj).trans h.c5,(aA _ _ _ _ aj).trans h.c6,(aA _ _ _ _ aj).trans h.c7,dG _ _ _ _ h.c8,(aA _ _ _ _ aj).trans h.c9,(aA _ _ _ _ aj).trans h.vY,(aA _ _ _ _ aj).trans h.zU,(aA _ _ _ _ aj).trans h.zV⟩
theorem Uk{l:bO}{o:Nat}{m:eH}{vh vc:Value}(h:zT l o m vh vc)(x:Nat):zT (l.set (o+9) (uZ x)) o {m with fU:=x} vh vc:=
 ⟨h.gr.set aj,(aA _ _ _ _ aj).trans h.c4,(aA _ _ _ _ aj).trans h.c5,(aA _ _ _ _ aj).trans h.c6,(aA _ _ _ _ aj).trans h.c7,(aA _ _ _ _ aj).trans h.c8,dG _ _ _ _ h.c9,(aA _ _ _ _ aj).trans h.vY,(aA _ _ _ _ aj).trans h.zU,(aA _ _ _ _ aj).trans h.zV⟩
theorem P9{l:bO}{o:Nat}{m:eH}{vh vc:Value}(h:zT l o m vh vc)(x:Nat):zT (l.set (o+12) (iZ x)) o {m with state:=x} vh vc:=
 ⟨h.gr.set aj,(aA _ _ _ _ aj).trans h.c4,(aA _ _ _ _ aj).trans h.c5,(aA _ _ _ _ aj).trans h.c6,(aA _ _ _ _ aj).trans h.c7,(aA _ _ _ _ aj).trans h.c8,(aA _ _ _ _ aj).trans h.c9,(aA _ _ _ _ aj).trans h.vY,(aA _ _ _ _ aj).trans h.zU,dG _ _ _ _ h.zV⟩
theorem MG(x:Option Fr):∃(g:Fr) (b:Bool),kX x=.tuple #[fM g nZ,.bool b]:=by
 cases x with
 |none=>exact⟨iM,false,rfl⟩
 |some g=>exact⟨g,true,rfl⟩
theorem GN(S o:Nat)(m:eH)(vh vc:Value)(k:Nat)(H:k<8)(au:Int)(w:World)(l:bO)(hB:aS w S TS l)(h:zT l o m vh vc)(ok:OkI m):Calls prog 257 #[aI S o,iZ k,iZ au] w fun e w'=>
   e=.returned (kX ((m.gr.next 6 k m.aQ au).map Prod.fst))/\∃l',gM w w' S l l' o 4/\vX l' o (((m.gr.next 6 k m.aQ au).map Prod.snd).getD m.gr):=by
 have p:=hB.lt;obtain⟨W,i⟩:=bZ (w.alloc (.cells pJ.toArray 65));have hb:aS W w.heap.size 65 pJ:=by rw[i];exact aS.new w 65 _
 have a:bJ w W:=by rw[i];exact(mI _ w).alloc (eT _) _
 have c:=hB.of_heap (a.block _ p);have r:Hid (∀q,Calls prog 310 #[aI S o] (W.drewN q) fun e w'=>e=.returned (uZ m.aQ)/\w'=W.drewN q):=fun q=>Gh S o m vh vc (W.drewN q) l c h;generalize s:m.gr.next 6 k m.aQ au=X at *
 obtain⟨g,b,f⟩:=MG (X.map Prod.fst);have j:Hid (∀q,Calls prog 254 #[aI S o,fM (jO 6 k 0) nZ,uZ m.aQ,iZ au] (W.drewN q) fun e w'=>e=.returned (.tuple #[fM g nZ,.bool b])/\aS w' w.heap.size 65 pJ/\Hid (∃l',gM w w' S l l' o 4/\vX l' o ((X.map Prod.snd).getD m.gr))):=fun q=>by
  refine bN (Oz S o m.gr 6 (.inr rfl) k H m.aQ au (W.drewN q) l c h.gr ok.gr.1 ok.aQ) ?_;rintro w' ⟨l',h1,n⟩;rw[s]at *
  refine⟨by rw[f],h1.other hb aj,l',?_,n⟩;exact gM.after (W:=W.drewN q) ⟨a.os,a.tape,a.output,a.size,a.block⟩ h1
 generalize m.aQ=L at *
 rw[f];clear f s hb a c h ok;unfold fM jO at j;unfold pJ at i;go_enter func257,ntmps257;go_wp2_with fail;rw[<-i];clear i;go_region_with (first|(go_at_call 310;refine bN (r.out _) ?_;rintro y rfl)|(go_at_call 254;refine bN (j.out _) ?_;rintro y ⟨d,t⟩;obtain⟨N,O,P,Q,R,T,U,V,Y,Z,yf⟩:=bL d;have K:=aG d;clear d j r));go_wp2_with fail;go_simp;rw[gT];have I:=gI K.out (iZ g.aC) (iZ g.aH) (uZ g.aD) (uZ g.aV) (uZ g.aL) (.bool g.bn) (uZ g.id) (uZ g.aW) (.string g.data) nZ;have J:=gJ y w.heap.size (iZ g.aC) (iZ g.aH) (uZ g.aD) (uZ g.aV) (uZ g.aL) (.bool g.bn) (uZ g.id) (uZ g.aW) (.string g.data) nZ;generalize kF y w.heap.size (iZ g.aC) (iZ g.aH) (uZ g.aD) (uZ g.aV) (uZ g.aL) (.bool g.bn) (uZ g.id) (uZ g.aW) (.string g.data) nZ=M at *
 obtain⟨u,x,z,A,B,C,D,E,F,G,_⟩:=bL I;obtain⟨l',h1,n⟩:=t.out;exact bodyPost_ret (v:=.tuple #[fM g nZ,.bool b]) (by simp[results,results257,go_sem,u,x,z,A,B,C,D,E,F,G,fM]) rfl ⟨rfl,l',h1.tch J (eT _) aj,n⟩
def A9(f:Fr):Bool:=decide (f.aC=2)||decide (f.aC=7)||decide (f.aC=8)
theorem qb6(f:Fr)(rv:Value)(w:World):Calls prog 273 #[fM f rv] w fun e w'=>e=.returned (.bool (A9 f))/\bJ w w':=by
 unfold A9 fM;by_cases a:f.aC=2
 ·have d:(f.aC==(2:Int))=true:=by simp[a]
  rw[decide_eq_true a];go_enter func273,ntmps273;go_wp2;go_ret;exact⟨rfl,(mI _ w).alloc (eT _) _⟩
 ·have d:(f.aC==(2:Int))=false:=by simp[a]
  rw[decide_eq_false a];by_cases b:f.aC=7
  ·have g:(f.aC==(7:Int))=true:=by simp[b]
   rw[decide_eq_true b];go_enter func273,ntmps273;go_wp2;go_ret;exact⟨rfl,(mI _ w).alloc (eT _) _⟩
  ·have g:(f.aC==(7:Int))=false:=by simp[b]
   rw[decide_eq_false b];by_cases c:f.aC=8
   ·have h:(f.aC==(8:Int))=true:=by simp[c]
    rw[decide_eq_true c];go_enter func273,ntmps273;go_wp2;go_ret;exact⟨rfl,(mI _ w).alloc (eT _) _⟩
   ·have h:(f.aC==(8:Int))=false:=by simp[c]
    rw[decide_eq_false c];go_enter func273,ntmps273;go_wp2;go_ret;exact⟨rfl,(mI _ w).alloc (eT _) _⟩
theorem eX.some{e:TypeId}{k:Nat}{w:World}{a:Option Addr}{n c:Nat}{l:bO}(h:eX e k w (.slice a n c) n l)(d:0<n):∃g cs,a=some (aB g 0)/\aS w g e cs/\cs.length=c*k/\n<=c/\c<=9223372036854775807/\cs.take (n*k)=l/\∀v∈cs,v.oneCell'=true:=by
 rcases h with⟨_,b,_⟩|⟨g,cap,cs,h1,h2,h3,h4,h5,_,h7,h8⟩;·omega
 ·simp only[Value.slice.injEq,true_and]at h1;obtain⟨rfl,rfl⟩:=h1;exact⟨g,cs,rfl,h2,h3,h4,h5,h7,h8⟩
theorem Qd(fa:Option Addr)(L:List FV)(l:Nat)(w:World)(hl:L.length<=100000)(C:0<L.length)(hF:Rd 10 w (.slice fa L.length l) L.length (qR L)):Calls prog 212 #[.slice fa L.length l] w fun e w'=>∃a c,e=.returned (.slice a (L.filter fun x=> !A9 x.1).length c)/\eX 65 10 w' (.slice a (L.filter fun x=> !A9 x.1).length c) (L.filter fun x=> !A9 x.1).length (qR (L.filter fun x=> !A9 x.1))/\ni w.heap.size (.slice a (L.filter fun x=> !A9 x.1).length c)/\bJ w w':=by
 have o:=aG (Ma _ _ _ w hF aj);have J:(L.filter fun x=> !A9 x.1).length<=L.length:=List.length_filter_le _ _;have p:Hid (∀(b c:Nat) (cs:bO) (W:World),L.length<=c->aS W b 65 cs->L.length*10<=cs.length->cs.take (L.length*10)=qR L->(∀v∈cs,v.oneCell'=true)->Calls prog 151 #[dP b L.length c,.func (.func 273) #[] #[]] W fun e w'=>∃d,e=.returned (dP b (L.filter fun x=> !A9 x.1).length c)/\aS w' b 65 d/\d.length=cs.length/\d.take ((L.filter fun x=> !A9 x.1).length*10)=qR (L.filter fun x=> !A9 x.1)/\(∀v∈d,v.oneCell'=true)/\W.grownBy w' (some b)):=fun b c cs W h1 D E F G=>Ec 273 #[] #[] (fun x=>A9 x.1) b L.length c L cs W (enters_of func273 bH rfl) rfl hl h1 D E F G (fun j _ W=>qb6 _ _ W);have i:=uP (L.filter fun x=> !A9 x.1);generalize (L.filter fun x=> !A9 x.1)=K at *
 generalize L.length=n at *
 clear hF;go_enter func212,ntmps212;go_wp2_with (first|(go_at_call 272;refine o.out.mono ?_;rintro e w1 ⟨a,c,rfl,H,I,h⟩;obtain⟨g,cs,rfl,u,m,y,z,A,B⟩:=eX.some H C)|(go_at_call 151;refine(p.out g c cs w1 y u (by rw[m];omega) A B).mono ?_;rintro e P ⟨d,rfl,q,r,s,t,f⟩)|go_in);go_ret;have M:w.heap.size<=g:=I g rfl;refine⟨_,c,rfl,.inr ⟨g,c,d,rfl,q,by rw[r,m],aj,z,i,s,t⟩,fun x N=>?_,h.trans ⟨f.os,f.tape,f.output,f.size,fun k O=>f.block k (bV h.size) (fun e=>by cases e;omega)⟩⟩;simp[nA]at N;omega
