import Derived.Test.YtphbledmopchnaaGreatDoorUga
open List renaming mem_append_right->mR,mem_filter->nI
open Nat renaming le_refl->fB,lt_irrefl->sQ
open Go.World renaming putObj_heap_other->fA
set_option maxHeartbeats 4000000
set_option maxRecDepth 100000
namespace Go.Proofs.YtphbledmopchnaaGreatDoor.Sd
open Go.RowKit Go.Lib Mm Tryz
section
attribute [local go_sem] Oper.semAt_some
theorem bT.nam{oZ:Own}{s:Nat}{w w':World}{S:Nat}{l l':aI}{M:Side}{bw bl bi:Nat}{vc:Value}(h:bT oZ s w S l M bw bl bi vc)(n:Nat)(q:dL w w' S l l' 232 1)(F:l'[232]?=some (uZ n)):fP s oZ w S bw bl bi {M with named:=n} w':=by
 have c:=h.cells
 have e:∀j,j≠232->l'[j]?=l[j]?:=fun j G=>q.win.2 j (by omega)
 exact h.cell 232 1 (by omega) q ⟨q.win.1.trans c.len,(e _ (by omega)).trans c.c0,(e _ (by omega)).trans c.c1,(e _ (by omega)).trans c.c2,(e _ (by omega)).trans c.c3,(e _ (by omega)).trans c.mH,c.gr.win q.win (by omega),
  (e _ (by omega)).trans c.oh,(e _ (by omega)).trans c.c226,(e _ (by omega)).trans c.c227,(e _ (by omega)).trans c.c228,(e _ (by omega)).trans c.c229,(e _ (by omega)).trans c.kL,(e _ (by omega)).trans c.nC,F,(e _ (by omega)).trans c.c233,
  (e _ (by omega)).trans c.c234,(e _ (by omega)).trans c.nD,(e _ (by omega)).trans c.c236,(e _ (by omega)).trans c.o9,(e _ (by omega)).trans c.kM,(e _ (by omega)).trans c.o_⟩ rfl rfl rfl rfl rfl rfl rfl
theorem Vs(oZ:Own)(s:Nat)(S:Nat)(l:aI)(M:Side)(bw bl bi:Nat)(vc:Value)(w:World)(h:bT oZ s w S l M bw bl bi vc)(hb:Bd M)(a:Option Addr)(c:Nat)(rs:aP)(hr:fV w a rs)(z9:0<rs.length)(yy:rs.length<=1000000)(yv:∀x,a=some x->oZ x.block∉T0 s)(yr:(rs.getD 0 (0,0)).2<M.next)(ha:M.next<=aZ):
  Calls prog 294 #[ay S 0,.slice a rs.length c] w fun e w'=>e=.returned (.tuple #[])/\∃M1,M.sU rs M1/\fP s oZ w S bw bl bi M1 w':=by
 obtain⟨tb,O,h7⟩:=qp oZ (s+100) w.heap.size;have zo:=h.s0;obtain⟨rb,X,rfl,q0,q1,q2,q3⟩:=hr 0 z9;obtain⟨W0,he⟩:∃W0,W0=w.alloc (.cells #[ay S 0] 128):=⟨_,rfl⟩;obtain⟨W1,h9⟩:∃W1,W1=W0.alloc (.cells #[.slice (some (aj rb X)) rs.length c] 63):=⟨_,rfl⟩
 have yz:W0.heap.size=w.heap.size+1:=by rw[he];simp
 have zg:W1.heap.size=w.heap.size+2:=by rw[h9];simp;omega
 have h2:aD w W1:=by rw[h9,he];exact((Below.refl _ w).alloc (fB _) _).alloc (by simp) _
 obtain⟨bD,xa⟩:∃bD:Own,bD=fun x=>if x<w.heap.size then oZ x else tb:=⟨_,rfl⟩
 have K1:Kp [] oZ bD w W1:=⟨h2.os,h2.tape,h2.output,h2.size,fun x G _=>h2.block x G,fun x G=>by rw[xa];exact if_pos G⟩
 have x2:aA W1 w.heap.size 128 [ay S 0]:=by
  have:aA W0 w.heap.size 128 [ay S 0]:=by rw[he];exact aA.new w 128 _
  exact this.of_heap (by rw[h9];exact Below.heap_alloc _ _ _ (by omega))
 have x3:aA W1 (w.heap.size+1) 63 [.slice (some (aj rb X)) rs.length c]:=by rw[h9,<-yz];exact aA.new W0 63 _
 have yi:rb<w.heap.size:=World.block_lt_of_cell? w _ (by rw[q0]);have H1:=h.kp K1 (by simp);obtain⟨N,hN,h4⟩:=max2 M.named ((rs.getD 0 (0,0)).2+1);obtain⟨F,xz⟩:∃F,F=(W1.setCell (aj S 232) (uZ N)).drew:=⟨_,rfl⟩
 have HJ:Hid (∃dx,JL oZ s w S bw bl bi tb (some (aj rb X)) c rs none [] {M with named:=N} dx [] F):=by
  obtain⟨o2,l2,v2,a0,a2⟩:=H1.nam N (dL.one H1.blk 232 (uZ N) 232 1 (fB _) (by omega)) (aU l 232 _ _ H1.cells.c232)
  have Kd:Kp [] o2 o2 (W1.setCell (aj S 232) (uZ N)) F:=by rw[xz];exact⟨rfl,rfl,rfl,fB _,fun _ _ _=>rfl,fun _ _=>rfl⟩
  have a1:=a0.kp Kd (by simp)
  have o0:bD w.heap.size=tb:=by rw[xa];exact if_neg (sQ _)
  have o1:bD (w.heap.size+1)=tb:=by rw[xa];exact if_neg (by omega)
  have hn:tb∉T0 s:=fun e=>by have:=bN.1 e;omega
  have rG:bD rb∉T0 s/\bD rb<tb:=by rw[K1.ext rb yi];exact⟨yv _ rfl,h7 rb yi⟩
  have K2:Kp (T0 s) bD o2 W1 F:=a2.trans (Kd.mono (by simp));refine⟨o2,⟨⟨l2,v2,a1⟩,by rw[K2.ext _ x2.lt,o0],aO x2 K2 (by rw[o0];exact hn),((K1.mono (by simp)).trans K2).mono fun x G=>mR _ G,?_⟩,⟨⟨by rw[K2.ext _ x3.lt,o1],aO x3 K2 (by rw[o1];exact hn)⟩,?_,fun x G=>?_,by simp,by simp⟩⟩
  ·exact⟨hb.o,hb.i,hb.g,hb.lm,hb.mt,hb.wy,hb.ls,hb.ky,hb.wl,hb.ll,by show N<=M.next;rw[h4];exact Nat.max_le.2 ⟨hb.nm,yr⟩,hb.cm,hb.tk⟩
  ·exact(hr.below h2).of fun x G hl=>by cases G;exact K2.blk _ hl rG.1
  ·cases G
   have l1:rb<W1.heap.size:=by omega
   exact⟨Nat.lt_of_lt_of_le l1 K2.size,by rw[K2.ext _ l1];exact rG.1,by rw[K2.ext _ l1];exact rG.2⟩
 have d2:W1.cell? (aj w.heap.size 0)=some (ay S 0):=x2.cell 0;have d3:W1.cell? (aj (w.heap.size+1) 0)=some (.slice (some (aj rb X)) rs.length c):=x3.cell 0
 have dn:W1.cell? (aj S 232)=some (uZ M.named):=by rw[H1.blk.cell];exact H1.cells.c232
 have dr:W1.cell? (aj rb (X+1))=some (uZ ((rs.getD 0 (0,0)).2:Int)):=cell_of q1 (h2.block _ yi);have df:=H1.blk.frozen 232
 have zp:(0:Int)<(rs.length:Int):=by omega
 have hw:IntKind.u64.wrap (((rs.getD 0 (0,0)).2:Int)+1)=(((rs.getD 0 (0,0)).2+1:Nat):Int):=by
  rw[IntKind.wrap_u64];unfold aZ at ha;omega
 have Mk:∀(fn:Fn) (first cap:Array Value) (w:World),(Instr.makeFunc fn first cap).run prog w=.ok (.func fn first cap) w:=fun _ _ _ _=>rfl
 have lQ:=au (And.intro hb (And.intro h4 (And.intro h7 (And.intro O ha))));clear h hb H1 x2 x3 K1 xa h2 hr yv yr ha h4 h7 q0 q1 q2 q3;generalize (rs.getD 0 (0,0)).2=hi at dr hw hN;generalize hi+1=zn at hw hN;refine(callsIn_wide (n:=10)).1 ?_;refine callsIn_of_wp_marks func294 rfl trivial ?_ rfl;simp only[ntmps294,List.size_toArray,List.length_cons,List.length_nil,Nat.reduceAdd,Nat.reduceSub,Array.replicate_succ,Array.replicate_zero,List.push_toArray,List.append_toArray,List.nil_append,List.cons_append]
 gi_wp2
 rw[<-he,<-h9];clear he h9;refine BD ?_
 gi_region
 rw[<-xz];clear xz d2 d3 dn dr df
 obtain⟨e2,e3,ew,el⟩:F.cell? (aj w.heap.size 0)=some (ay S 0)/\F.cell? (aj (w.heap.size+1) 0)=some (.slice (some (aj rb X)) rs.length c)/\F.cell? (aj S 230)=some (.map (some bw))/\F.cell? (aj S 231)=some (.map (some bl)):=by
  obtain⟨o2,⟨⟨l1,v1,g1⟩,g2,g3,g4,g5⟩,g6⟩:=HJ.out;exact⟨g3.cell 0,g6.b3.2.cell 0,by rw[g1.blk.cell];exact g1.cells.kL,by rw[g1.blk.cell];exact g1.cells.nC⟩
 gi_wp2
 refine BD ?_
 gi_region
 obtain⟨W3,hv⟩:∃W3,W3=(F.alloc (.cells #[.map (some bw),.map (some bl)] 203)).drew:=⟨_,rfl⟩;rw[<-hv]
 have hm:Hid (∃nP,JL oZ s w S bw bl bi tb (some (aj rb X)) c rs (some F.heap.size) [] {M with named:=N} nP [] W3):=by
  obtain⟨o2,g1,g6⟩:=HJ.out
  have hg:aD F W3:=by
   rw[hv];have hz:=(Below.refl F.heap.size F).alloc (fB _) (.cells #[.map (some bw),.map (some bl)] 203);exact⟨hz.os,hz.tape,hz.output,hz.size,hz.block⟩
  obtain⟨o3,ys⟩:∃o3:Own,o3=fun x=>if x<F.heap.size then o2 x else tb:=⟨_,rfl⟩
  have K:Kp [] o2 o3 F W3:=⟨hg.os,hg.tape,hg.output,hg.size,fun x G _=>hg.block x G,fun x G=>by rw[ys];exact if_pos G⟩;have ho:=g6.kp O K (by simp);refine⟨o3,JA.kp O _ _ _ _ _ g1 (K.mono (by simp)),ho.b3,ho.rg,ho.ra,fun k hk=>?_,ho.ds⟩;cases hk;refine⟨by rw[ys];exact if_neg (sQ _),?_⟩;rw[hv];exact aA.new F 203 [.map (some bw),.map (some bl)]
 clear hv HJ e2 e3 ew el
 have z8:W3.cell? (aj F.heap.size 0)=some (.map (some bw)):=by
  obtain⟨o3,g1,g6⟩:=hm.out;exact(g6.bq _ rfl).2.cell 0
 have ye:W3.cell? (aj F.heap.size 1)=some (.map (some bl)):=by
  obtain⟨o3,g1,g6⟩:=hm.out;exact(g6.bq _ rfl).2.cell 1
 obtain⟨M2,xx⟩:∃M2:Side,M2={M with named:=N,aF:=M.aF.filter fun x=> !names rs x.1}:=⟨_,rfl⟩
 obtain⟨A,hA⟩:∃A,A=M.aF.filter fun x=>names rs x.1:=⟨_,rfl⟩
 have ym:Hid (Calls prog 191 #[.map (some bw),.func (.func 337) #[] #[(ay (w.heap.size+1) 0)]] W3 fun e y'=>e=.returned (.map (some W3.heap.size))/\Hid (∃dx,JL oZ s w S bw bl bi tb (some (aj rb X)) c rs (some F.heap.size) [] M2 dx [] y'/\oq dx (tb+1) (s+44) y' W3.heap.size A)):=by
  obtain⟨o3,g⟩:=hm.out;rw[xx,hA];exact Rm g O yy
 have xm:=au (And.intro xx hA)
 have xi:Hid (∀x∈A,x.2.frames.length<=1000000/\∀f∈x.2.frames,N8 f):=by
  obtain⟨hb,h4,h7,_,ha⟩:=lQ.out;intro x G;rw[hA]at G;have:=hb.wy x (nI.1 G).1;exact⟨by have:=this.2.1;omega,this.2.2⟩
 clear xx hA hm
 have V:∀x,s+41<=x->x∉T1 s:=fun x G e=>by have:=rJ.1 e;omega
 gi_wp2
 refine wpIn_loop_rounds 3 ?_;rw[roundsIn_succ]
 gi_wp2_with (first
  |(refine⟨trivial,?_⟩;gi_at_call 191;refine(callsIn_wide.2 ym.out).mono ?_;rintro e w4 ⟨rfl,H4⟩)
  |(refine⟨trivial,?_⟩;gi_at_call 197;refine(callsIn_wide.2 (vB W3.heap.size w4)).mono ?_;rintro e w5 ⟨rfl,z0⟩;have xn:=au z0;clear z0))
 have xj:Hid (∃jY,JL oZ s w S bw bl bi tb (some (aj rb X)) c rs (some F.heap.size) [] M2 jY [] w5/\oq jY (tb+1) (s+44) w5 W3.heap.size A/\aA w5 w4.heap.size 203 [.map (some W3.heap.size)]):=by
  obtain⟨o4,g1,g2⟩:=H4.out
  have K:Kp [] o4 o4 w4 w5:=by rw[xn.out];exact Kp.alloc _ _ _ _
  exact⟨o4,JL.kp O _ _ _ _ _ g1 (K.mono (by simp)),g2.kp K (by simp) (by simp),by rw[xn.out];exact aA.new w4 203 _⟩
 clear ym H4 xn z8 ye;obtain⟨jY,hu,xt,ya⟩:=xj.out;refine nH (by omega) w4.heap.size W3.heap.size (tb+1) (s+44) (tb+2) (tb+3) (tb+4) (T1 s) A jY (JL oZ s w S bw bl bi tb (some (aj rb X)) c rs (some F.heap.size) [] M2) rfl ya xt (fun x G=>(xi.out x G).1) (V _ (by omega)) (V _ (by omega)) (V _ (by omega)) (V _ (by omega)) (V _ (by omega)) (by omega) (JL.kp O) hu ?_ ?_
 ·intro L zx pre f W z3 hc hf;obtain⟨x,G,yd⟩:=hf;have Dp:=(xi.out x G).2 f yd;obtain⟨k,hk⟩:∃k:Nat,f.stream=(k:Int):=⟨f.stream.toNat,by have:=Dp.st;omega⟩
  have uz:k<8:=by have:=Dp.st;omega
  have z4:w.heap.size<W.heap.size:=hc.1.2.2.1.lt;have hj:=I8 S k f.kind
  have xe:Hid (∀y,Calls prog 198 #[ay S 0,bR f nZ] y fun e y'=>e=.returned (.iface (Od f.kind) (zT S k f.kind))/\aD y y'):=fun y=>by
   rw[<-hj];exact vw S k uz f hk y
  have Tc:Hid (∀zy y,JL oZ s w S bw bl bi tb (some (aj rb X)) c rs (some F.heap.size) [] M2 zy pre y->Calls prog (nT f.kind) #[zT S k f.kind,bR f nZ] y fun e y'=>e=.returned (.tuple #[])/\∃aC,JL oZ s w S bw bl bi tb (some (aj rb X)) c rs (some F.heap.size) [] M2 aC (pre++[f]) y'/\Kp (T1 s) zy aC y y'):=fun zy y hy=>Kz O f Dp k uz hk hy
  have z7:=Ky S k f.kind;have z6:=vX f.kind;obtain⟨Wa,H⟩:∃Wa,Wa=W.alloc (.cells (bZ f nZ).toArray 65):=⟨_,rfl⟩
  have h8:aA Wa W.heap.size 65 (bZ f nZ):=by rw[H];exact aA.new W 65 _
  have Ka:Kp [] zx zx W Wa:=by rw[H];exact Kp.alloc _ _ _ _
  have zb:Wa.heap.size=W.heap.size+1:=by rw[H];simp
  generalize Od f.kind=kT at *;generalize zT S k f.kind=kP at *;generalize nT f.kind=kN at *;clear hj hk;unfold bR at *;unfold bZ at H h8
  gi_wp2
  rw[<-H];clear H;refine⟨Ka,fun w2 o2 s2 h3=>?_⟩;have Z:=h8.of_heap (o2 W.heap.size (by omega));have KZ:w2.cell? (aj w.heap.size 0)=some (ay S 0):=h3.1.2.2.1.cell 0
  have Rj:Hid (∀y,aD w2 y->Calls prog kN #[kP,.agg #[iZ f.kind,iZ f.stream,uZ f.offset,uZ f.reliable,uZ f.limit,.bool f.fin,uZ f.id,uZ f.deadline,.string f.data,nZ]] y fun e y'=>e=.returned (.tuple #[])/\∃aC,JL oZ s w S bw bl bi tb (some (aj rb X)) c rs (some F.heap.size) [] M2 aC (pre++[f]) y'/\Kp (T1 s) zx aC w2 y'):=fun y hy=>by
   have K:Kp [] zx zx w2 y:=Kp.below hy;refine(Tc.out zx y (JL.kp O _ _ _ _ _ h3 (K.mono (by simp)))).mono ?_;rintro e y' ⟨rfl,o',a1,a2⟩;exact⟨rfl,o',a1,(K.mono (by simp)).trans a2⟩
  have xp:=au Z;have Rl:W.heap.size<w2.heap.size:=Z.lt;obtain⟨x0,x1,x2,x3,x4,x5,x6,x7,x8,x9,xf⟩:=aH Z
  have jd:Hid (∀w5,aD w2 w5->aA w5 W.heap.size 65 [iZ f.kind,iZ f.stream,uZ f.offset,uZ f.reliable,uZ f.limit,.bool f.fin,uZ f.id,uZ f.deadline,.string f.data,nZ]):=fun w5 h5=>xp.out.of_heap (h5.block _ Rl)
  clear Z h8 h3 hc o2 Tc Ka hu xt ya xj
  gi_wp2
  gi_region_with (first|(refine⟨trivial,?_⟩;gi_at_call 198;refine(iR (xe.out _)).mono ?_;rintro e w5 ⟨rfl,I⟩;have h6:aD w2 w5:=⟨I.os,I.tape,I.output,I.size,I.block⟩;clear I;obtain⟨y0,y1,y2,y3,y4,y5,y6,y7,y8,y9,yf⟩:=aH (jd.out w5 h6);have xd:=au h6;clear h6)|(refine⟨trivial,?_⟩;gi_at_fn kN;refine(iR (Rj.out _ xd.out)).mono ?_;rintro e w6 ⟨rfl,hE⟩;have HE:=au hE;clear hE))
  all_goals exact⟨rfl,HE.out⟩
 ·intro gq lp W6 D1 hp yq hD oD yp;obtain⟨h0,Ro⟩:∃h0,h0=(frames lp).foldl Side.bookC M2:=⟨_,rfl⟩
  have xl:Hid (JL oZ s w S bw bl bi tb (some (aj rb X)) c rs (some F.heap.size) [D1] h0 gq [] W6):=by
   obtain⟨⟨g1,g2,g3,g4,g5⟩,g6⟩:=yq;rw[<-Ro]at g1 g5;refine⟨⟨g1,g2,g3,g4,g5⟩,g6.b3,g6.rg,g6.ra,g6.bq,fun D z2=>?_⟩;rw[List.mem_singleton.1 z2];have:w.heap.size<w5.heap.size:=hu.1.2.2.1.lt;exact⟨by omega,oD,yp⟩
  have Vt:Hid (h0=(frames lp).foldl Side.bookC M2/\lp.Perm A/\h0.lost=M.lost/\h0.aF=M2.aF):=by
   refine⟨Ro,hp,?_,?_⟩
   ·rw[Ro,(nJ _ _).2,xm.out.1]
   ·rw[Ro,(nJ _ _).1]
  clear yq Ro hp hu xt ya xj oD yp;have ye:W6.cell? (aj F.heap.size 1)=some (.map (some bl)):=(xl.out.2.bq _ rfl).2.cell 1;obtain⟨M3,xy⟩:∃M3:Side,M3={h0 with aF:=h0.aF,lost:=M.lost.filter fun x=> !names rs x.1}:=⟨_,rfl⟩
  obtain⟨B,hB⟩:∃B,B=M.lost.filter fun x=>names rs x.1:=⟨_,rfl⟩
  have yn:Hid (Calls prog 191 #[.map (some bl),.func (.func 337) #[] #[(ay (w.heap.size+1) 0)]] W6 fun e y'=>e=.returned (.map (some W6.heap.size))/\Hid (∃dx,JL oZ s w S bw bl bi tb (some (aj rb X)) c rs (some F.heap.size) [D1] M3 dx [] y'/\oq dx (tb+1) (s+44) y' W6.heap.size B)):=by
   have:=Rn xl.out O yy;rw[Vt.out.2.2.1,<-xy,<-hB]at this;exact this
  have yk:=au (And.intro xy hB)
  have Zp:Hid (∀x∈B,x.2.frames.length<=1000000/\∀f∈x.2.frames,N8 f):=by
   obtain⟨hb,h4,h7,_,ha⟩:=lQ.out;intro x G;rw[hB]at G;have:=hb.ls x (nI.1 G).1;exact⟨by have:=this.2.1;omega,this.2.2⟩
  clear xy hB xl xi
  gi_wp2
  rw[roundsIn_succ]
  gi_wp2_with (first
   |(refine⟨trivial,?_⟩;gi_at_call 191;refine(callsIn_wide.2 yn.out).mono ?_;rintro e w7 ⟨rfl,H7⟩)
   |(refine⟨trivial,?_⟩;gi_at_call 197;refine(callsIn_wide.2 (vB W6.heap.size w7)).mono ?_;rintro e w8 ⟨rfl,z1⟩;have xo:=au z1;clear z1))
  have X6:Hid (∃zx,JL oZ s w S bw bl bi tb (some (aj rb X)) c rs (some F.heap.size) [D1] M3 zx [] w8/\oq zx (tb+1) (s+44) w8 W6.heap.size B/\aA w8 w7.heap.size 203 [.map (some W6.heap.size)]):=by
   obtain⟨o4,g1,g2⟩:=H7.out
   have K:Kp [] o4 o4 w7 w8:=by rw[xo.out];exact Kp.alloc _ _ _ _
   exact⟨o4,JL.kp O _ _ _ _ _ g1 (K.mono (by simp)),g2.kp K (by simp) (by simp),by rw[xo.out];exact aA.new w7 203 _⟩
  clear yn H7 xo ye;obtain⟨Zq,Vu,X7,X8⟩:=X6.out;refine nH (by omega) w7.heap.size W6.heap.size (tb+1) (s+44) (tb+2) (tb+3) (tb+4) (T1 s) B Zq (JL oZ s w S bw bl bi tb (some (aj rb X)) c rs (some F.heap.size) [D1] M3) rfl X8 X7 (fun x G=>(Zp.out x G).1) (V _ (by omega)) (V _ (by omega)) (V _ (by omega)) (V _ (by omega)) (V _ (by omega)) (by omega) (JL.kp O) Vu ?_ ?_
  ·intro L zx pre f W z3 hc hf;obtain⟨x,G,yd⟩:=hf;have Dp:=(Zp.out x G).2 f yd;obtain⟨k,hk⟩:∃k:Nat,f.stream=(k:Int):=⟨f.stream.toNat,by have:=Dp.st;omega⟩
   have uz:k<8:=by have:=Dp.st;omega
   have z4:w.heap.size<W.heap.size:=hc.1.2.2.1.lt;have hj:=I8 S k f.kind
   have xe:Hid (∀y,Calls prog 198 #[ay S 0,bR f nZ] y fun e y'=>e=.returned (.iface (Od f.kind) (zT S k f.kind))/\aD y y'):=fun y=>by
    rw[<-hj];exact vw S k uz f hk y
   have Tc:Hid (∀zy y,JL oZ s w S bw bl bi tb (some (aj rb X)) c rs (some F.heap.size) [D1] M3 zy pre y->Calls prog (nT f.kind) #[zT S k f.kind,bR f nZ] y fun e y'=>e=.returned (.tuple #[])/\∃aC,JL oZ s w S bw bl bi tb (some (aj rb X)) c rs (some F.heap.size) [D1] M3 aC (pre++[f]) y'/\Kp (T1 s) zy aC y y'):=fun zy y hy=>Kz O f Dp k uz hk hy
   have z7:=Ky S k f.kind;have z6:=vX f.kind;obtain⟨Wa,H⟩:∃Wa,Wa=W.alloc (.cells (bZ f nZ).toArray 65):=⟨_,rfl⟩
   have h8:aA Wa W.heap.size 65 (bZ f nZ):=by rw[H];exact aA.new W 65 _
   have Ka:Kp [] zx zx W Wa:=by rw[H];exact Kp.alloc _ _ _ _
   have zb:Wa.heap.size=W.heap.size+1:=by rw[H];simp
   generalize Od f.kind=kT at *;generalize zT S k f.kind=kP at *;generalize nT f.kind=kN at *;clear hj hk;unfold bR at *;unfold bZ at H h8
   gi_wp2
   rw[<-H];clear H;refine⟨Ka,fun w2 o2 s2 h3=>?_⟩;have Z:=h8.of_heap (o2 W.heap.size (by omega));have KZ:w2.cell? (aj w.heap.size 0)=some (ay S 0):=h3.1.2.2.1.cell 0
   have Rj:Hid (∀y,aD w2 y->Calls prog kN #[kP,.agg #[iZ f.kind,iZ f.stream,uZ f.offset,uZ f.reliable,uZ f.limit,.bool f.fin,uZ f.id,uZ f.deadline,.string f.data,nZ]] y fun e y'=>e=.returned (.tuple #[])/\∃aC,JL oZ s w S bw bl bi tb (some (aj rb X)) c rs (some F.heap.size) [D1] M3 aC (pre++[f]) y'/\Kp (T1 s) zx aC w2 y'):=fun y hy=>by
    have K:Kp [] zx zx w2 y:=Kp.below hy;refine(Tc.out zx y (JL.kp O _ _ _ _ _ h3 (K.mono (by simp)))).mono ?_;rintro e y' ⟨rfl,o',a1,a2⟩;exact⟨rfl,o',a1,(K.mono (by simp)).trans a2⟩
   have xp:=au Z;have Rl:W.heap.size<w2.heap.size:=Z.lt;obtain⟨x0,x1,x2,x3,x4,x5,x6,x7,x8,x9,xf⟩:=aH Z
   have jd:Hid (∀w5,aD w2 w5->aA w5 W.heap.size 65 [iZ f.kind,iZ f.stream,uZ f.offset,uZ f.reliable,uZ f.limit,.bool f.fin,uZ f.id,uZ f.deadline,.string f.data,nZ]):=fun w5 h5=>xp.out.of_heap (h5.block _ Rl)
   clear Z h8 h3 hc o2 Tc Ka Vu X7 X8 X6
   gi_wp2
   gi_region_with (first|(refine⟨trivial,?_⟩;gi_at_call 198;refine(iR (xe.out _)).mono ?_;rintro e w5 ⟨rfl,I⟩;have h6:aD w2 w5:=⟨I.os,I.tape,I.output,I.size,I.block⟩;clear I;obtain⟨y0,y1,y2,y3,y4,y5,y6,y7,y8,y9,yf⟩:=aH (jd.out w5 h6);have xd:=au h6;clear h6)|(refine⟨trivial,?_⟩;gi_at_fn kN;refine(iR (Rj.out _ xd.out)).mono ?_;rintro e w6 ⟨rfl,hE⟩;have HE:=au hE;clear hE))
   all_goals exact⟨rfl,HE.out⟩
  ·intro zy lq W9 D2 hq xv zj zc zd
   have xr:D1<D2/\W9.heap[D1]?=some (.deferred (some []))/\zy D1=tb+4/\w.heap.size<=D1:=by
    obtain⟨a1,a2,a3⟩:=xv.2.ds D1 (by simp);obtain⟨b1,b2,b3⟩:=Vu.2.ds D1 (by simp);have:=(Array.getElem?_eq_some_iff.1 b3).1;exact⟨by omega,a3,a2,a1⟩
   have zf:(W9.putObj D2 (.deferred none)).heap[D1]?=some (.deferred (some [])):=by rw[fA (by omega)];exact xr.2.1
   have HE:Hid (∃M1,M.sU rs M1/\fP s oZ w S bw bl bi M1 ((W9.putObj D2 (.deferred none)).putObj D1 (.deferred none))):=by
    obtain⟨hb,h4,h7,_,ha⟩:=lQ.out;obtain⟨⟨⟨l1,v1,g1⟩,g2,g3,g4,g5⟩,g6⟩:=xv
    have K9:Kp [tb+4] zy zy W9 ((W9.putObj D2 (.deferred none)).putObj D1 (.deferred none)):=⟨rfl,rfl,rfl,by simp,fun k hk hn=>by
     rw[fA (fun e=>hn (by rw[e,xr.2.2.1];simp)),fA (fun e=>hn (by rw[e,zc];simp))],fun _ _=>rfl⟩
    refine⟨_,?_,zy,l1,v1,g1.kp K9 (fun x a b e=>by simp at e;omega),?_⟩
    ·refine⟨lp,lq,by rw[<-xm.out.2];exact Vt.out.2.1,by rw[<-yk.out.2];exact hq,?_⟩;rw[List.foldl_append]
     congr 1
     rw[yk.out.1,Vt.out.2.2.2,Vt.out.1,<-zB,xm.out.1,h4];rfl
    ·refine Kp.less (U:=[tb+4]++[tb+3,tb+2]) ?_ (fun b' z5 e=>by have:=h7 b' z5;simp at e;omega);rw[List.append_assoc];exact(g4.mono fun x G=>mR _ G).trans (K9.mono fun x G=>List.mem_append_left _ G)
   clear xv X6 Vu X7 X8 xr
   gi_wp2
   rw[roundsIn_succ]
   gi_wp2
   refine⟨by simp,.inl ⟨_,_,rfl,run_takeDeferred zd,?_⟩⟩;refine⟨by simp,.inl ⟨_,_,rfl,run_takeDeferred zf,?_⟩⟩;exact⟨_,results_none rfl _ _ _,rfl,HE.out⟩
