import Derived.Test.YtphbledmopchnaaGreatDoorLfb
open List renaming mem_append_right->j3,mem_filter->lg
open Nat renaming le_refl->eT,lt_irrefl->mE
open Go.World renaming putObj_heap_other->eB
set_option maxHeartbeats 4000000
set_option maxRecDepth 100000
namespace Go.Proofs.YtphbledmopchnaaGreatDoor.Sd
open Go.RowKit Go.Lib Mm Tryz
section
attribute [local go_sem] Oper.semAt_some
theorem fP.nam{oZ:Own}{s:Nat}{w w':World}{S:Nat}{l l':bO}{M:av}{bw bl bi:Nat}{vc:Value}(h:fP oZ s w S l M bw bl bi vc)(n:Nat)(q:gM w w' S l l' 232 1)(a:l'[232]?=some (uZ n)):jC s oZ w S bw bl bi {M with named:=n} w':=by have c:=h.cells;have e:∀j,j≠232->l'[j]?=l[j]?:=fun j b=>q.gN.2 j aj;exact h.cell 232 1 aj q ⟨q.gN.1.trans c.len,(e _ aj).trans c.c0,(e _ aj).trans c.c1,(e _ aj).trans c.c2,(e _ aj).trans c.c3,(e _ aj).trans c.rC,c.gr.gN q.gN aj,(e _ aj).trans c.tN,(e _ aj).trans c.tQ,(e _ aj).trans c.pV,(e _ aj).trans c.nG,(e _ aj).trans c.oo,(e _ aj).trans c.oQ,(e _ aj).trans c.sG,a,(e _ aj).trans c.pW,(e _ aj).trans c.vB,(e _ aj).trans c.sH,(e _ aj).trans c.vC,(e _ aj).trans c.vD,(e _ aj).trans c.oU,(e _ aj).trans c.vE⟩ rfl rfl rfl rfl rfl
theorem YU(oZ:Own)(s:Nat)(S:Nat)(l:bO)(M:av)(bw bl bi:Nat)(vc:Value)(w:World)(h:fP oZ s w S l M bw bl bi vc)(hb:Bd M)(a:Option Addr)(c:Nat)(rs:bW)(hr:jg w a rs)(z2:0<rs.length)(yk:rs.length<=1000000)(yi:∀x,a=some x->oZ x.block∉T0 s)(ye:(rs.getD 0 (0,0)).2<M.next)(V:M.next<=dK):Calls prog 294 #[aI S 0,.slice a rs.length c] w fun e w'=>e=.returned (.tuple #[])/\∃M1,M.nu rs M1/\jC s oZ w S bw bl bi M1 w':=by
 obtain⟨tb,o,H⟩:=uT oZ (s+100) w.heap.size;have zd:=h.s0;obtain⟨rb,q,rfl,q0,q1,q2,q3⟩:=hr 0 z2;obtain⟨W0,h2⟩:=bZ (w.alloc (.cells #[aI S 0] 128));obtain⟨Q,T⟩:=bZ (W0.alloc (.cells #[.slice (some (aB rb q)) rs.length c] 63));have ym:W0.heap.size=w.heap.size+1:=by rw[h2];simp
 have z8:Q.heap.size=w.heap.size+2:=by rw[T];simp;omega
 have v:bJ w Q:=by rw[T,h2];exact((Below.refl _ w).alloc (eT _) _).alloc aP _
 obtain⟨eZ,ha⟩:=bZ (fun x=>if x<w.heap.size then oZ x else tb:Own);have K1:Kp [] oZ eZ w Q:=⟨v.os,v.tape,v.output,v.size,fun x d _=>v.block x d,fun x d=>by rw[ha];exact bK d⟩;have x2:aS Q w.heap.size 128 [aI S 0]:=by
  have:aS W0 w.heap.size 128 [aI S 0]:=by rw[h2];exact aS.new w 128 _
  exact this.of_heap (by rw[T];exact Below.heap_alloc _ _ _ aj)
 have x3:aS Q (w.heap.size+1) 63 [.slice (some (aB rb q)) rs.length c]:=by rw[T,<-ym];exact aS.new W0 63 _
 have xp:rb<w.heap.size:=World.block_lt_of_cell? w _ (by rw[q0]);have H1:=h.kp K1 aP;obtain⟨N,hN,F⟩:=max2 M.named ((rs.getD 0 (0,0)).2+1);obtain⟨i,xl⟩:=bZ ((Q.setCell (aB S 232) (uZ N)).drew);have HJ:Hid (∃gu,JL oZ s w S bw bl bi tb (some (aB rb q)) c rs none [] {M with named:=N} gu [] i):=by
  obtain⟨O,l2,v2,a0,a2⟩:=H1.nam N (gM.one H1.cZ 232 (uZ N) 232 1 (eT _) aj) (dG l 232 _ _ H1.cells.nH);have Kd:Kp [] O O (Q.setCell (aB S 232) (uZ N)) i:=by rw[xl];exact⟨rfl,rfl,rfl,eT _,fun _ _ _=>rfl,fun _ _=>rfl⟩
  have a1:=a0.kp Kd aP;have o0:eZ w.heap.size=tb:=by rw[ha];exact aU (mE _)
  have o1:eZ (w.heap.size+1)=tb:=by rw[ha];exact aU aj
  have hn:tb∉T0 s:=fun e=>bV (fG.1 e);have wJ:eZ rb∉T0 s/\eZ rb<tb:=by rw[K1.ext rb xp];exact⟨yi _ rfl,H rb xp⟩
  have K2:Kp (T0 s) eZ O Q i:=a2.trans (Kd.mono aP);refine⟨O,⟨⟨l2,v2,a1⟩,by rw[K2.ext _ x2.lt,o0],cO x2 K2 (by rw[o0];exact hn),((K1.mono aP).trans K2).mono fun x d=>j3 _ d,?_⟩,⟨⟨by rw[K2.ext _ x3.lt,o1],cO x3 K2 (by rw[o1];exact hn)⟩,?_,fun x d=>?_,aP,aP⟩⟩;·exact⟨hb.o,hb.i,hb.g,hb.lm,hb.mt,hb.wy,hb.ls,hb.ky,hb.wl,hb.ll,by show N<=M.next;rw[F];exact Nat.max_le.2 ⟨hb.nm,ye⟩,hb.cm,hb.tk⟩
  ·exact(hr.below v).of fun x d hl=>by cases d;exact K2.cZ _ hl wJ.1
  ·cases d;have l1:rb<Q.heap.size:=aj;exact⟨Nat.lt_of_lt_of_le l1 K2.size,by rw[K2.ext _ l1];exact wJ.1,by rw[K2.ext _ l1];exact wJ.2⟩
 have d2:Q.cell? (aB w.heap.size 0)=some (aI S 0):=x2.cell 0;have d3:Q.cell? (aB (w.heap.size+1) 0)=some (.slice (some (aB rb q)) rs.length c):=x3.cell 0;have dn:Q.cell? (aB S 232)=some (uZ M.named):=by rw[H1.cZ.cell];exact H1.cells.nH
 have dr:Q.cell? (aB rb (q+1))=some (uZ ((rs.getD 0 (0,0)).2:Int)):=cell_of q1 (v.block _ xp);have df:=H1.cZ.frozen 232;have zf:(0:Int)<(rs.length:Int):=aj;have hw:IntKind.u64.wrap (((rs.getD 0 (0,0)).2:Int)+1)=(((rs.getD 0 (0,0)).2+1:Nat):Int):=by rw[IntKind.wrap_u64];unfold dK at V;omega
 have zc:∀(fn:Fn) (first cap:Array Value) (w:World),(Instr.makeFunc fn first cap).run prog w=.ok (.func fn first cap) w:=fun _ _ _ _=>rfl;have pU:=aG (dB hb (dB F (dB H (dB o V))));clear h hb H1 x2 x3 K1 ha v hr yi ye V F H q0 q1 q2 q3;generalize (rs.getD 0 (0,0)).2=hi at dr hw hN;generalize hi+1=zb at hw hN;refine(callsIn_wide (n:=10)).1 ?_;refine callsIn_of_wp_marks func294 rfl trivial ?_ rfl;simp only[ntmps294,List.size_toArray,List.length_cons,List.length_nil,Nat.reduceAdd,Nat.reduceSub,Array.replicate_succ,Array.replicate_zero,List.push_toArray,List.append_toArray,List.nil_append,List.cons_append];gi_wp2;rw[<-h2,<-T];clear h2 T;refine E9 ?_;gi_region
 rw[<-xl];clear xl d2 d3 dn dr df;obtain⟨e2,e3,ew,el⟩:i.cell? (aB w.heap.size 0)=some (aI S 0)/\i.cell? (aB (w.heap.size+1) 0)=some (.slice (some (aB rb q)) rs.length c)/\i.cell? (aB S 230)=some (.map (some bw))/\i.cell? (aB S 231)=some (.map (some bl)):=by obtain⟨O,⟨⟨l1,v1,u⟩,g2,g3,g4,g5⟩,R⟩:=HJ.out;exact⟨g3.cell 0,R.b3.2.cell 0,by rw[u.cZ.cell];exact u.cells.oQ,by rw[u.cZ.cell];exact u.cells.sG⟩
 gi_wp2;refine E9 ?_;gi_region
 obtain⟨Y,h9⟩:=bZ ((i.alloc (.cells #[.map (some bw),.map (some bl)] 203)).drew);rw[<-h9];have h6:Hid (∃wh,JL oZ s w S bw bl bi tb (some (aB rb q)) c rs (some i.heap.size) [] {M with named:=N} wh [] Y):=by
  obtain⟨O,u,R⟩:=HJ.out;have h3:bJ i Y:=by rw[h9];have hz:=(Below.refl i.heap.size i).alloc (eT _) (.cells #[.map (some bw),.map (some bl)] 203);exact⟨hz.os,hz.tape,hz.output,hz.size,hz.block⟩
  obtain⟨o3,yg⟩:=bZ (fun x=>if x<i.heap.size then O x else tb:Own);have K:Kp [] O o3 i Y:=⟨h3.os,h3.tape,h3.output,h3.size,fun x d _=>h3.block x d,fun x d=>by rw[yg];exact bK d⟩;have h7:=R.kp o K aP;refine⟨o3,JA.kp o _ _ _ _ _ u (K.mono aP),h7.b3,h7.rg,h7.ra,fun k hk=>?_,h7.ds⟩;cases hk;refine⟨by rw[yg];exact aU (mE _),?_⟩;rw[h9];exact aS.new i 203 [.map (some bw),.map (some bl)]
 clear h9 HJ e2 e3 ew el;have z1:Y.cell? (aB i.heap.size 0)=some (.map (some bw)):=by obtain⟨o3,u,R⟩:=h6.out;exact(R.bq _ rfl).2.cell 0
 have xo:Y.cell? (aB i.heap.size 1)=some (.map (some bl)):=by obtain⟨o3,u,R⟩:=h6.out;exact(R.bq _ rfl).2.cell 1
 obtain⟨M2,xj⟩:∃M2:av,M2={M with named:=N,aJ:=M.aJ.filter fun x=> !names rs x.1}:=⟨_,rfl⟩;obtain⟨A,hA⟩:=bZ (M.aJ.filter fun x=>names rs x.1);have xy:Hid (Calls prog 191 #[.map (some bw),.func (.func 337) #[] #[(aI (w.heap.size+1) 0)]] Y fun e y'=>e=.returned (.map (some Y.heap.size))/\Hid (∃gu,JL oZ s w S bw bl bi tb (some (aB rb q)) c rs (some i.heap.size) [] M2 gu [] y'/\sM gu (tb+1) (s+44) y' Y.heap.size A)):=by obtain⟨o3,g⟩:=h6.out;rw[xj,hA];exact Vw g o yk
 have ho:=aG (dB xj hA);have hg:Hid (∀x∈A,x.2.bI.length<=1000000/\∀f∈x.2.bI,EX f):=by obtain⟨hb,F,H,_,V⟩:=pU.out;intro x d;rw[hA]at d;have:=hb.wy x (lg.1 d).1;exact⟨bV this.2.1,this.2.2⟩
 clear xj hA h6;have p:∀x,s+41<=x->x∉T1 s:=fun x d e=>bV (wK.1 e);gi_wp2;refine wpIn_loop_rounds 3 ?_;rw[roundsIn_succ];gi_wp2_with (first|(refine⟨trivial,?_⟩;gi_at_call 191;refine(callsIn_wide.2 xy.out).mono ?_;rintro e w4 ⟨rfl,H4⟩)|(refine⟨trivial,?_⟩;gi_at_call 197;refine(callsIn_wide.2 (zo Y.heap.size w4)).mono ?_;rintro e t ⟨rfl,yn⟩;have hu:=aG yn;clear yn));have hj:Hid (∃ny,JL oZ s w S bw bl bi tb (some (aB rb q)) c rs (some i.heap.size) [] M2 ny [] t/\sM ny (tb+1) (s+44) t Y.heap.size A/\aS t w4.heap.size 203 [.map (some Y.heap.size)]):=by
  obtain⟨o4,u,g2⟩:=H4.out;have K:Kp [] o4 o4 w4 t:=by rw[hu.out];exact Kp.alloc _ _ _ _
  exact⟨o4,JL.kp o _ _ _ _ _ u (K.mono aP),g2.kp K aP aP,by rw[hu.out];exact aS.new w4 203 _⟩
 clear xy H4 hu z1 xo;obtain⟨ny,h8,xe,xm⟩:=hj.out;refine rF aj w4.heap.size Y.heap.size (tb+1) (s+44) (tb+2) (tb+3) (tb+4) (T1 s) A ny (JL oZ s w S bw bl bi tb (some (aB rb q)) c rs (some i.heap.size) [] M2) rfl xm xe (fun x d=>(hg.out x d).1) (p _ aj) (p _ aj) (p _ aj) (p _ aj) (p _ aj) aj (JL.kp o) h8 ?_ ?_
 ·intro L z pre f W ys h0 hf;obtain⟨x,d,xn⟩:=hf;have GY:=(hg.out x d).2 f xn;obtain⟨k,hk⟩:∃k:Nat,f.aH=(k:Int):=⟨f.aH.toNat,bV GY.st⟩;have yL:k<8:=bV GY.st;have yv:w.heap.size<W.heap.size:=h0.1.2.2.1.lt;have h4:=MN S k f.aC;have he:Hid (∀y,Calls prog 198 #[aI S 0,fM f nZ] y fun e y'=>e=.returned (.iface (SX f.aC) (DY S k f.aC))/\bJ y y'):=fun y=>by rw[<-h4];exact zn S k yL f hk y
  have Z:Hid (∀X y,JL oZ s w S bw bl bi tb (some (aB rb q)) c rs (some i.heap.size) [] M2 X pre y->Calls prog (r_ f.aC) #[DY S k f.aC,fM f nZ] y fun e y'=>e=.returned (.tuple #[])/\∃aY,JL oZ s w S bw bl bi tb (some (aB rb q)) c rs (some i.heap.size) [] M2 aY (pre++[f]) y'/\Kp (T1 s) X aY y y'):=fun X y hy=>OD o f GY k yL hk hy;have z0:=OC S k f.aC;have yz:=z_ f.aC;obtain⟨Wa,j⟩:=bZ (W.alloc (.cells (gG f nZ).toArray 65));have I:aS Wa W.heap.size 65 (gG f nZ):=by rw[j];exact aS.new W 65 _
  have Ka:Kp [] z z W Wa:=by rw[j];exact Kp.alloc _ _ _ _
  have z3:Wa.heap.size=W.heap.size+1:=by rw[j];simp
  generalize SX f.aC=kT at *
  generalize DY S k f.aC=kP at *
  generalize r_ f.aC=kN at *
  clear h4 hk;unfold fM at *
  unfold gG at j I;gi_wp2;rw[<-j];clear j;refine⟨Ka,fun J O s2 E=>?_⟩;have r:=I.of_heap (O W.heap.size aj);have Po:J.cell? (aB w.heap.size 0)=some (aI S 0):=E.1.2.2.1.cell 0;have Vu:Hid (∀y,bJ J y->Calls prog kN #[kP,.agg #[iZ f.aC,iZ f.aH,uZ f.aD,uZ f.aV,uZ f.aL,.bool f.bn,uZ f.id,uZ f.aW,.string f.data,nZ]] y fun e y'=>e=.returned (.tuple #[])/\∃aY,JL oZ s w S bw bl bi tb (some (aB rb q)) c rs (some i.heap.size) [] M2 aY (pre++[f]) y'/\Kp (T1 s) z aY J y'):=fun y hy=>by have K:Kp [] z z J y:=Kp.below hy;refine(Z.out z y (JL.kp o _ _ _ _ _ E (K.mono aP))).mono ?_;rintro e y' ⟨rfl,o',a1,a2⟩;exact⟨rfl,o',a1,(K.mono aP).trans a2⟩
  have xa:=aG r;have Vv:W.heap.size<J.heap.size:=r.lt;obtain⟨x0,x1,x2,x3,x4,x5,x6,x7,x8,x9,xf⟩:=bL r;have kV:Hid (∀t,bJ J t->aS t W.heap.size 65 [iZ f.aC,iZ f.aH,uZ f.aD,uZ f.aV,uZ f.aL,.bool f.bn,uZ f.id,uZ f.aW,.string f.data,nZ]):=fun t h5=>xa.out.of_heap (h5.block _ Vv);clear r I E h0 O Z Ka h8 xe xm hj;gi_wp2;gi_region_with (first|(refine⟨trivial,?_⟩;gi_at_call 198;refine(kH (he.out _)).mono ?_;rintro e t ⟨rfl,m⟩;have G:bJ J t:=⟨m.os,m.tape,m.output,m.size,m.block⟩;clear m;obtain⟨y0,y1,y2,y3,y4,y5,y6,y7,y8,y9,yf⟩:=bL (kV.out t G);have hc:=aG G;clear G)|(refine⟨trivial,?_⟩;gi_at_fn kN;refine(kH (Vu.out _ hc.out)).mono ?_;rintro e w6 ⟨rfl,hE⟩;have HE:=aG hE;clear hE))
  all_goals exact⟨rfl,HE.out⟩
 ·intro jZ lp W6 C hp yd hD oD ya;obtain⟨P,Vy⟩:=bZ ((bI lp).foldl av.dx M2);have hm:Hid (JL oZ s w S bw bl bi tb (some (aB rb q)) c rs (some i.heap.size) [C] P jZ [] W6):=by
   obtain⟨⟨u,g2,g3,g4,g5⟩,R⟩:=yd;rw[<-Vy]at u g5;refine⟨⟨u,g2,g3,g4,g5⟩,R.b3,R.rg,R.ra,R.bq,fun D yr=>?_⟩;rw[List.mem_singleton.1 yr];have:w.heap.size<t.heap.size:=h8.1.2.2.1.lt;exact⟨aj,oD,ya⟩
  have YV:Hid (P=(bI lp).foldl av.dx M2/\lp.Perm A/\P.bP=M.bP/\P.aJ=M2.aJ):=by
   refine⟨Vy,hp,?_,?_⟩;·rw[Vy,(rG _ _).2,ho.out.1]
   ·rw[Vy,(rG _ _).1]
  clear yd Vy hp h8 xe xm hj oD ya;have xo:W6.cell? (aB i.heap.size 1)=some (.map (some bl)):=(hm.out.2.bq _ rfl).2.cell 1;obtain⟨M3,xk⟩:∃M3:av,M3={P with aJ:=P.aJ,bP:=M.bP.filter fun x=> !names rs x.1}:=⟨_,rfl⟩;obtain⟨B,hB⟩:=bZ (M.bP.filter fun x=>names rs x.1);have xz:Hid (Calls prog 191 #[.map (some bl),.func (.func 337) #[] #[(aI (w.heap.size+1) 0)]] W6 fun e y'=>e=.returned (.map (some W6.heap.size))/\Hid (∃gu,JL oZ s w S bw bl bi tb (some (aB rb q)) c rs (some i.heap.size) [C] M3 gu [] y'/\sM gu (tb+1) (s+44) y' W6.heap.size B)):=by have:=Vx hm.out o yk;rw[YV.out.2.2.1,<-xk,<-hB]at this;exact this
  have xx:=aG (dB xk hB);have yq:Hid (∀x∈B,x.2.bI.length<=1000000/\∀f∈x.2.bI,EX f):=by obtain⟨hb,F,H,_,V⟩:=pU.out;intro x d;rw[hB]at d;have:=hb.ls x (lg.1 d).1;exact⟨bV this.2.1,this.2.2⟩
  clear xk hB hm hg;gi_wp2;rw[roundsIn_succ];gi_wp2_with (first|(refine⟨trivial,?_⟩;gi_at_call 191;refine(callsIn_wide.2 xz.out).mono ?_;rintro e w7 ⟨rfl,H7⟩)|(refine⟨trivial,?_⟩;gi_at_call 197;refine(callsIn_wide.2 (zo W6.heap.size w7)).mono ?_;rintro e w8 ⟨rfl,yp⟩;have hv:=aG yp;clear yp));have xr:Hid (∃z,JL oZ s w S bw bl bi tb (some (aB rb q)) c rs (some i.heap.size) [C] M3 z [] w8/\sM z (tb+1) (s+44) w8 W6.heap.size B/\aS w8 w7.heap.size 203 [.map (some W6.heap.size)]):=by
   obtain⟨o4,u,g2⟩:=H7.out;have K:Kp [] o4 o4 w7 w8:=by rw[hv.out];exact Kp.alloc _ _ _ _
   exact⟨o4,JL.kp o _ _ _ _ _ u (K.mono aP),g2.kp K aP aP,by rw[hv.out];exact aS.new w7 203 _⟩
  clear xz H7 hv xo;obtain⟨z5,YW,xt,xv⟩:=xr.out;refine rF aj w7.heap.size W6.heap.size (tb+1) (s+44) (tb+2) (tb+3) (tb+4) (T1 s) B z5 (JL oZ s w S bw bl bi tb (some (aB rb q)) c rs (some i.heap.size) [C] M3) rfl xv xt (fun x d=>(yq.out x d).1) (p _ aj) (p _ aj) (p _ aj) (p _ aj) (p _ aj) aj (JL.kp o) YW ?_ ?_
  ·intro L z pre f W ys h0 hf;obtain⟨x,d,xn⟩:=hf;have GY:=(yq.out x d).2 f xn;obtain⟨k,hk⟩:∃k:Nat,f.aH=(k:Int):=⟨f.aH.toNat,bV GY.st⟩;have yL:k<8:=bV GY.st;have yv:w.heap.size<W.heap.size:=h0.1.2.2.1.lt;have h4:=MN S k f.aC;have he:Hid (∀y,Calls prog 198 #[aI S 0,fM f nZ] y fun e y'=>e=.returned (.iface (SX f.aC) (DY S k f.aC))/\bJ y y'):=fun y=>by rw[<-h4];exact zn S k yL f hk y
   have Z:Hid (∀X y,JL oZ s w S bw bl bi tb (some (aB rb q)) c rs (some i.heap.size) [C] M3 X pre y->Calls prog (r_ f.aC) #[DY S k f.aC,fM f nZ] y fun e y'=>e=.returned (.tuple #[])/\∃aY,JL oZ s w S bw bl bi tb (some (aB rb q)) c rs (some i.heap.size) [C] M3 aY (pre++[f]) y'/\Kp (T1 s) X aY y y'):=fun X y hy=>OD o f GY k yL hk hy;have z0:=OC S k f.aC;have yz:=z_ f.aC;obtain⟨Wa,j⟩:=bZ (W.alloc (.cells (gG f nZ).toArray 65));have I:aS Wa W.heap.size 65 (gG f nZ):=by rw[j];exact aS.new W 65 _
   have Ka:Kp [] z z W Wa:=by rw[j];exact Kp.alloc _ _ _ _
   have z3:Wa.heap.size=W.heap.size+1:=by rw[j];simp
   generalize SX f.aC=kT at *
   generalize DY S k f.aC=kP at *
   generalize r_ f.aC=kN at *
   clear h4 hk;unfold fM at *
   unfold gG at j I;gi_wp2;rw[<-j];clear j;refine⟨Ka,fun J O s2 E=>?_⟩;have r:=I.of_heap (O W.heap.size aj);have Po:J.cell? (aB w.heap.size 0)=some (aI S 0):=E.1.2.2.1.cell 0;have Vu:Hid (∀y,bJ J y->Calls prog kN #[kP,.agg #[iZ f.aC,iZ f.aH,uZ f.aD,uZ f.aV,uZ f.aL,.bool f.bn,uZ f.id,uZ f.aW,.string f.data,nZ]] y fun e y'=>e=.returned (.tuple #[])/\∃aY,JL oZ s w S bw bl bi tb (some (aB rb q)) c rs (some i.heap.size) [C] M3 aY (pre++[f]) y'/\Kp (T1 s) z aY J y'):=fun y hy=>by have K:Kp [] z z J y:=Kp.below hy;refine(Z.out z y (JL.kp o _ _ _ _ _ E (K.mono aP))).mono ?_;rintro e y' ⟨rfl,o',a1,a2⟩;exact⟨rfl,o',a1,(K.mono aP).trans a2⟩
   have xa:=aG r;have Vv:W.heap.size<J.heap.size:=r.lt;obtain⟨x0,x1,x2,x3,x4,x5,x6,x7,x8,x9,xf⟩:=bL r;have kV:Hid (∀t,bJ J t->aS t W.heap.size 65 [iZ f.aC,iZ f.aH,uZ f.aD,uZ f.aV,uZ f.aL,.bool f.bn,uZ f.id,uZ f.aW,.string f.data,nZ]):=fun t h5=>xa.out.of_heap (h5.block _ Vv);clear r I E h0 O Z Ka YW xt xv xr;gi_wp2;gi_region_with (first|(refine⟨trivial,?_⟩;gi_at_call 198;refine(kH (he.out _)).mono ?_;rintro e t ⟨rfl,m⟩;have G:bJ J t:=⟨m.os,m.tape,m.output,m.size,m.block⟩;clear m;obtain⟨y0,y1,y2,y3,y4,y5,y6,y7,y8,y9,yf⟩:=bL (kV.out t G);have hc:=aG G;clear G)|(refine⟨trivial,?_⟩;gi_at_fn kN;refine(kH (Vu.out _ hc.out)).mono ?_;rintro e w6 ⟨rfl,hE⟩;have HE:=aG hE;clear hE))
   all_goals exact⟨rfl,HE.out⟩
  ·intro X lq W9 D2 hq xi z9 z4 z6;have xd:C<D2/\W9.heap[C]?=some (.deferred (some []))/\X C=tb+4/\w.heap.size<=C:=by
    obtain⟨a1,a2,a3⟩:=xi.2.ds C aP;obtain⟨b1,b2,b3⟩:=YW.2.ds C aP;have:=(Array.getElem?_eq_some_iff.1 b3).1;exact⟨aj,a3,a2,a1⟩
   have z7:(W9.putObj D2 (.deferred none)).heap[C]?=some (.deferred (some [])):=by rw[eB aj];exact xd.2.1
   have HE:Hid (∃M1,M.nu rs M1/\jC s oZ w S bw bl bi M1 ((W9.putObj D2 (.deferred none)).putObj C (.deferred none))):=by
    obtain⟨hb,F,H,_,V⟩:=pU.out;obtain⟨⟨⟨l1,v1,u⟩,g2,g3,g4,g5⟩,R⟩:=xi;have K9:Kp [tb+4] X X W9 ((W9.putObj D2 (.deferred none)).putObj C (.deferred none)):=⟨rfl,rfl,rfl,aP,fun k hk hn=>by rw[eB (fun e=>hn (by rw[e,xd.2.2.1];simp)),eB (fun e=>hn (by rw[e,z4];simp))],fun _ _=>rfl⟩;refine⟨_,?_,X,l1,v1,u.kp K9 (fun x a b e=>by simp at e;omega),?_⟩
    ·refine⟨lp,lq,by rw[<-ho.out.2];exact YV.out.2.1,by rw[<-xx.out.2];exact hq,?_⟩;rw[List.foldl_append];congr 1
     rw[xx.out.1,YV.out.2.2.2,YV.out.1,<-CU,ho.out.1,F];rfl
    ·refine Kp.less (U:=[tb+4]++[tb+3,tb+2]) ?_ (fun b' yy e=>by have:=H b' yy;simp at e;omega);rw[List.append_assoc];exact(g4.mono fun x d=>j3 _ d).trans (K9.mono fun x d=>List.mem_append_left _ d)
   clear xi xr YW xt xv xd;gi_wp2;rw[roundsIn_succ];gi_wp2;refine⟨aP,.inl ⟨_,_,rfl,run_takeDeferred z6,?_⟩⟩;refine⟨aP,.inl ⟨_,_,rfl,run_takeDeferred z7,?_⟩⟩;exact⟨_,results_none rfl _ _ _,rfl,HE.out⟩
