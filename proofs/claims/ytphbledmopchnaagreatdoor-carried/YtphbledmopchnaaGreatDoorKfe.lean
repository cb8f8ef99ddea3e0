import Derived.Test.YtphbledmopchnaaGreatDoorKfd
import Derived.BigRegionIn
open List renaming mem_append_right->nI,mem_filter->tL
open Nat renaming le_refl->mR,lt_irrefl->tT
open Go.World renaming putObj_heap_other->jK
set_option maxHeartbeats 4000000
set_option maxRecDepth 100000
namespace Go.Proofs.YtphbledmopchnaaGreatDoor.Sd
open Go.RowKit Go.Lib Mm Tryz
section
attribute [local go_sem] Oper.semAt_some
theorem bM.nam{own:Own}{s:Nat}{w w':World}{S:Nat}{l l':List Value}{M:Side}{bw bl bi:Nat}{vc:Value}(h:bM own s w S l M bw bl bi vc)(n:Nat)(q:cu w w' S l l' 232 1)(F:l'[232]?=some (.int .u64 n)):fQ s own w S bw bl bi {M with named:=n} w':=by
 have c:=h.cells
 have e:∀j,j≠232->l'[j]?=l[j]?:=fun j G=>q.win.2 j (by omega)
 exact h.cell 232 1 (by omega) q ⟨q.win.1.trans c.len,by rw[e _ (by omega)];exact c.c0,by rw[e _ (by omega)];exact c.c1,by rw[e _ (by omega)];exact c.c2,by rw[e _ (by omega)];exact c.c3,by rw[e _ (by omega)];exact c.mh,c.gr.win q.win (by omega),
  by rw[e _ (by omega)];exact c.nP,by rw[e _ (by omega)];exact c.c226,by rw[e _ (by omega)];exact c.c227,by rw[e _ (by omega)];exact c.c228,by rw[e _ (by omega)];exact c.c229,by rw[e _ (by omega)];exact c.j6,by rw[e _ (by omega)];exact c.mY,F,by rw[e _ (by omega)];exact c.c233,
  by rw[e _ (by omega)];exact c.c234,by rw[e _ (by omega)];exact c.mZ,by rw[e _ (by omega)];exact c.c236,by rw[e _ (by omega)];exact c.oO,by rw[e _ (by omega)];exact c.j_,by rw[e _ (by omega)];exact c.oP⟩ rfl rfl rfl rfl rfl
theorem TP(own:Own)(s:Nat)(S:Nat)(l:List Value)(M:Side)(bw bl bi:Nat)(vc:Value)(w:World)(h:bM own s w S l M bw bl bi vc)(hb:Bd M)(a:Option Addr)(c:Nat)(rs:List (Nat×Nat))(hr:fq w a rs)(z7:0<rs.length)(yv:rs.length<=1000000)(ys:∀x,a=some x->own x.block∉T0 s)(yq:(rs.getD 0 (0,0)).2<M.next)(ha:M.next<=aU):
  Calls prog 294 #[.pointer (some ⟨S,0,none⟩),.slice a rs.length c] w fun e w'=>e=.returned (.tuple #[])/\∃M1,M.rR rs M1/\fQ s own w S bw bl bi M1 w':=by
 obtain⟨tb,O,h7⟩:=oH own (s+100) w.heap.size;have zf:=h.s0;obtain⟨rb,Z,rfl,q0,q1,q2,q3⟩:=hr 0 z7;obtain⟨W0,hc⟩:∃W0,W0=w.alloc (.cells #[.pointer (some ⟨S,0,none⟩)] 128):=⟨_,rfl⟩;obtain⟨W1,h9⟩:∃W1,W1=W0.alloc (.cells #[.slice (some ⟨rb,Z,none⟩) rs.length c] 63):=⟨_,rfl⟩
 have yx:W0.heap.size=w.heap.size+1:=by rw[hc];simp
 have za:W1.heap.size=w.heap.size+2:=by rw[h9];simp;omega
 have h2:Below w.heap.size w W1:=by rw[h9,hc];exact((Below.refl _ w).alloc (mR _) _).alloc (by simp) _
 obtain⟨aF,hv⟩:∃aF:Own,aF=fun x=>if x<w.heap.size then own x else tb:=⟨_,rfl⟩
 have K1:Kp [] own aF w W1:=⟨h2.os,h2.tape,h2.output,h2.size,fun x G _=>h2.block x G,fun x G=>by rw[hv];exact if_pos G⟩
 have x2:ak W1 w.heap.size 128 [.pointer (some ⟨S,0,none⟩)]:=by
  have:ak W0 w.heap.size 128 [.pointer (some ⟨S,0,none⟩)]:=by rw[hc];exact ak.new w 128 _
  exact this.of_heap (by rw[h9];exact Below.heap_alloc _ _ _ (by omega))
 have x3:ak W1 (w.heap.size+1) 63 [.slice (some ⟨rb,Z,none⟩) rs.length c]:=by rw[h9,<-yx];exact ak.new W0 63 _
 have ye:rb<w.heap.size:=World.block_lt_of_cell? w _ (by rw[q0]);have H1:=h.kp K1 (by simp);obtain⟨N,hN,h4⟩:=max2 M.named ((rs.getD 0 (0,0)).2+1);obtain⟨F,xy⟩:∃F,F=(W1.setCell ⟨S,232,none⟩ (.int .u64 N)).drew:=⟨_,rfl⟩
 have HJ:Hid (∃aL,JL own s w S bw bl bi tb (some ⟨rb,Z,none⟩) c rs none [] {M with named:=N} aL [] F):=by
  obtain⟨o2,l2,v2,a0,a2⟩:=H1.nam N (cu.one H1.blk 232 (.int .u64 N) 232 1 (mR _) (by omega)) (aN l 232 _ _ H1.cells.c232)
  have Kd:Kp [] o2 o2 (W1.setCell ⟨S,232,none⟩ (.int .u64 N)) F:=by rw[xy];exact⟨rfl,rfl,rfl,mR _,fun _ _ _=>rfl,fun _ _=>rfl⟩
  have a1:=a0.kp Kd (by simp)
  have o0:aF w.heap.size=tb:=by rw[hv];exact if_neg (tT _)
  have o1:aF (w.heap.size+1)=tb:=by rw[hv];exact if_neg (by omega)
  have hn:tb∉T0 s:=fun e=>by have:=bG.1 e;omega
  have qw:aF rb∉T0 s/\aF rb<tb:=by rw[K1.ext rb ye];exact⟨ys _ rfl,h7 rb ye⟩
  have K2:Kp (T0 s) aF o2 W1 F:=a2.trans (Kd.mono (by simp));refine⟨o2,⟨⟨l2,v2,a1⟩,by rw[K2.ext _ x2.lt,o0],aK x2 K2 (by rw[o0];exact hn),((K1.mono (by simp)).trans K2).mono fun x G=>nI _ G,?_⟩,⟨⟨by rw[K2.ext _ x3.lt,o1],aK x3 K2 (by rw[o1];exact hn)⟩,?_,fun x G=>?_,by simp,by simp⟩⟩
  ·exact⟨hb.o,hb.i,hb.g,hb.lm,hb.mt,hb.wy,hb.ls,hb.ky,hb.wl,hb.ll,by show N<=M.next;rw[h4];exact Nat.max_le.2 ⟨hb.nm,yq⟩,hb.cm,hb.tk⟩
  ·exact(hr.below h2).of fun x G hl=>by cases G;exact K2.blk _ hl qw.1
  ·cases G
   have l1:rb<W1.heap.size:=by omega
   exact⟨Nat.lt_of_lt_of_le l1 K2.size,by rw[K2.ext _ l1];exact qw.1,by rw[K2.ext _ l1];exact qw.2⟩
 have d2:W1.cell? ⟨w.heap.size,0,none⟩=some (.pointer (some ⟨S,0,none⟩)):=x2.cell 0;have d3:W1.cell? ⟨w.heap.size+1,0,none⟩=some (.slice (some ⟨rb,Z,none⟩) rs.length c):=x3.cell 0
 have dn:W1.cell? ⟨S,232,none⟩=some (.int .u64 M.named):=by rw[H1.blk.cell];exact H1.cells.c232
 have dr:W1.cell? ⟨rb,Z+1,none⟩=some (.int .u64 ((rs.getD 0 (0,0)).2:Int)):=cell_of q1 (h2.block _ ye);have df:=H1.blk.frozen 232
 have Zh:(0:Int)<(rs.length:Int):=by omega
 have hw:IntKind.u64.wrap (((rs.getD 0 (0,0)).2:Int)+1)=(((rs.getD 0 (0,0)).2+1:Nat):Int):=by
  rw[IntKind.wrap_u64];unfold aU at ha;omega
 have zd:∀(fn:Fn) (first cap:Array Value) (w:World),(Instr.makeFunc fn first cap).run prog w=.ok (.func fn first cap) w:=fun _ _ _ _=>rfl
 have kJ:=hid (And.intro hb (And.intro h4 (And.intro h7 (And.intro O ha))));clear h hb H1 x2 x3 K1 hv h2 hr ys yq ha h4 h7 q0 q1 q2 q3;generalize (rs.getD 0 (0,0)).2=hi at dr hw hN;generalize hi+1=zc at hw hN;refine(callsIn_wide (n:=10)).1 ?_;refine callsIn_of_wp_marks func294 rfl trivial ?_ rfl;simp only[ntmps294,List.size_toArray,List.length_cons,List.length_nil,Nat.reduceAdd,Nat.reduceSub,Array.replicate_succ,Array.replicate_zero,List.push_toArray,List.append_toArray,List.nil_append,List.cons_append]
 gi_wp2
 rw[<-hc,<-h9];clear hc h9;refine Af ?_
 gi_region
 rw[<-xy];clear xy d2 d3 dn dr df
 obtain⟨e2,e3,ew,el⟩:F.cell? ⟨w.heap.size,0,none⟩=some (.pointer (some ⟨S,0,none⟩))/\F.cell? ⟨w.heap.size+1,0,none⟩=some (.slice (some ⟨rb,Z,none⟩) rs.length c)/\F.cell? ⟨S,230,none⟩=some (.map (some bw))/\F.cell? ⟨S,231,none⟩=some (.map (some bl)):=by
  obtain⟨o2,⟨⟨l1,v1,g1⟩,g2,g3,g4,g5⟩,g6⟩:=HJ.out;exact⟨g3.cell 0,g6.b3.2.cell 0,by rw[g1.blk.cell];exact g1.cells.j6,by rw[g1.blk.cell];exact g1.cells.mY⟩
 gi_wp2
 refine Af ?_
 gi_region
 obtain⟨W3,hu⟩:∃W3,W3=(F.alloc (.cells #[.map (some bw),.map (some bl)] 203)).drew:=⟨_,rfl⟩;rw[<-hu]
 have hj:Hid (∃gV,JL own s w S bw bl bi tb (some ⟨rb,Z,none⟩) c rs (some F.heap.size) [] {M with named:=N} gV [] W3):=by
  obtain⟨o2,g1,g6⟩:=HJ.out
  have he:Below F.heap.size F W3:=by
   rw[hu];have hz:=(Below.refl F.heap.size F).alloc (mR _) (.cells #[.map (some bw),.map (some bl)] 203);exact⟨hz.os,hz.tape,hz.output,hz.size,hz.block⟩
  obtain⟨o3,yr⟩:∃o3:Own,o3=fun x=>if x<F.heap.size then o2 x else tb:=⟨_,rfl⟩
  have K:Kp [] o2 o3 F W3:=⟨he.os,he.tape,he.output,he.size,fun x G _=>he.block x G,fun x G=>by rw[yr];exact if_pos G⟩;have hm:=g6.kp O K (by simp);refine⟨o3,JA.kp O _ _ _ _ _ g1 (K.mono (by simp)),hm.b3,hm.rg,hm.ra,fun k hk=>?_,hm.ds⟩;cases hk;refine⟨by rw[yr];exact if_neg (tT _),?_⟩;rw[hu];exact ak.new F 203 [.map (some bw),.map (some bl)]
 clear hu HJ e2 e3 ew el
 have z6:W3.cell? ⟨F.heap.size,0,none⟩=some (.map (some bw)):=by
  obtain⟨o3,g1,g6⟩:=hj.out;exact(g6.bq _ rfl).2.cell 0
 have yd:W3.cell? ⟨F.heap.size,1,none⟩=some (.map (some bl)):=by
  obtain⟨o3,g1,g6⟩:=hj.out;exact(g6.bq _ rfl).2.cell 1
 obtain⟨M2,xv⟩:∃M2:Side,M2={M with named:=N,ay:=M.ay.filter fun x=> !names rs x.1}:=⟨_,rfl⟩
 obtain⟨A,hA⟩:∃A,A=M.ay.filter fun x=>names rs x.1:=⟨_,rfl⟩
 have yk:Hid (Calls prog 191 #[.map (some bw),.func (.func 337) #[] #[.pointer (some ⟨w.heap.size+1,0,none⟩)]] W3 fun e y'=>e=.returned (.map (some W3.heap.size))/\Hid (∃aL,JL own s w S bw bl bi tb (some ⟨rb,Z,none⟩) c rs (some F.heap.size) [] M2 aL [] y'/\nk aL (tb+1) (s+44) y' W3.heap.size A)):=by
  obtain⟨o3,g⟩:=hj.out;rw[xv,hA];exact Pn g O yv
 have xl:=hid (And.intro xv hA)
 have xe:Hid (∀x∈A,x.2.frames.length<=1000000/\∀f∈x.2.frames,MP f):=by
  obtain⟨hb,h4,h7,_,ha⟩:=kJ.out;intro x G;rw[hA]at G;have:=hb.wy x (tL.1 G).1;exact⟨by have:=this.2.1;omega,this.2.2⟩
 clear xv hA hj
 have V:∀x,s+41<=x->x∉T1 s:=fun x G e=>by have:=qx.1 e;omega
 gi_wp2
 refine wpIn_loop_rounds 3 ?_;rw[roundsIn_succ]
 gi_wp2_with (first
  |(refine⟨trivial,?_⟩;gi_at_call 191;refine(callsIn_wide.2 yk.out).mono ?_;rintro e w4 ⟨rfl,H4⟩)
  |(refine⟨trivial,?_⟩;gi_at_call 197;refine(callsIn_wide.2 (tZ W3.heap.size w4)).mono ?_;rintro e w5 ⟨rfl,yy⟩;have xm:=hid yy;clear yy))
 have xi:Hid (∃dI,JL own s w S bw bl bi tb (some ⟨rb,Z,none⟩) c rs (some F.heap.size) [] M2 dI [] w5/\nk dI (tb+1) (s+44) w5 W3.heap.size A/\ak w5 w4.heap.size 203 [.map (some W3.heap.size)]):=by
  obtain⟨o4,g1,g2⟩:=H4.out
  have K:Kp [] o4 o4 w4 w5:=by rw[xm.out];exact Kp.alloc _ _ _ _
  exact⟨o4,JL.kp O _ _ _ _ _ g1 (K.mono (by simp)),g2.kp K (by simp) (by simp),by rw[xm.out];exact ak.new w4 203 _⟩
 clear yk H4 xm z6 yd;obtain⟨dI,ho,xr,xz⟩:=xi.out;refine mq (by omega) w4.heap.size W3.heap.size (tb+1) (s+44) (tb+2) (tb+3) (tb+4) (T1 s) A dI (JL own s w S bw bl bi tb (some ⟨rb,Z,none⟩) c rs (some F.heap.size) [] M2) rfl xz xr (fun x G=>(xe.out x G).1) (V _ (by omega)) (V _ (by omega)) (V _ (by omega)) (V _ (by omega)) (V _ (by omega)) (by omega) (JL.kp O) ho ?_ ?_
 ·intro L jX pre f W z1 Vv hf;obtain⟨x,G,ya⟩:=hf;have BQ:=(xe.out x G).2 f ya;obtain⟨k,hk⟩:∃k:Nat,f.stream=(k:Int):=⟨f.stream.toNat,by have:=BQ.st;omega⟩
  have sK:k<8:=by have:=BQ.st;omega
  have z2:w.heap.size<W.heap.size:=Vv.1.2.2.1.lt;have hg:=GX S k f.kind
  have xd:Hid (∀y,Calls prog 198 #[.pointer (some ⟨S,0,none⟩),bJ f (.slice none 0 0)] y fun e y'=>e=.returned (.iface (MV f.kind) (yP S k f.kind))/\Below y.heap.size y y'):=fun y=>by
   rw[<-hg];exact tY S k sK f hk y
  have Ri:Hid (∀jY y,JL own s w S bw bl bi tb (some ⟨rb,Z,none⟩) c rs (some F.heap.size) [] M2 jY pre y->Calls prog (mP f.kind) #[yP S k f.kind,bJ f (.slice none 0 0)] y fun e y'=>e=.returned (.tuple #[])/\∃own',JL own s w S bw bl bi tb (some ⟨rb,Z,none⟩) c rs (some F.heap.size) [] M2 own' (pre++[f]) y'/\Kp (T1 s) jY own' y y'):=fun jY y hy=>Jt O f BQ k sK hk hy
  have z5:=Js S k f.kind;have z4:=uS f.kind;obtain⟨Wa,H⟩:∃Wa,Wa=W.alloc (.cells (bX f (.slice none 0 0)).toArray 65):=⟨_,rfl⟩
  have h8:ak Wa W.heap.size 65 (bX f (.slice none 0 0)):=by rw[H];exact ak.new W 65 _
  have Ka:Kp [] jX jX W Wa:=by rw[H];exact Kp.alloc _ _ _ _
  have z8:Wa.heap.size=W.heap.size+1:=by rw[H];simp
  generalize MV f.kind=kT at *;generalize yP S k f.kind=kP at *;generalize mP f.kind=kN at *;clear hg hk;unfold bJ at *;unfold bX at H h8
  gi_wp2
  rw[<-H];clear H;refine⟨Ka,fun X o2 s2 h3=>?_⟩;have h0:=h8.of_heap (o2 W.heap.size (by omega));have J3:X.cell? ⟨w.heap.size,0,none⟩=some (.pointer (some ⟨S,0,none⟩)):=h3.1.2.2.1.cell 0
  have Pk:Hid (∀y,Below X.heap.size X y->Calls prog kN #[kP,.agg #[.int .i64 f.kind,.int .i64 f.stream,.int .u64 f.offset,.int .u64 f.reliable,.int .u64 f.limit,.bool f.fin,.int .u64 f.id,.int .u64 f.deadline,.string f.data,.slice none 0 0]] y fun e y'=>e=.returned (.tuple #[])/\∃own',JL own s w S bw bl bi tb (some ⟨rb,Z,none⟩) c rs (some F.heap.size) [] M2 own' (pre++[f]) y'/\Kp (T1 s) jX own' X y'):=fun y hy=>by
   have K:Kp [] jX jX X y:=Kp.below hy;refine(Ri.out jX y (JL.kp O _ _ _ _ _ h3 (K.mono (by simp)))).mono ?_;rintro e y' ⟨rfl,o',a1,a2⟩;exact⟨rfl,o',a1,(K.mono (by simp)).trans a2⟩
  have xo:=hid h0;have Pm:W.heap.size<X.heap.size:=h0.lt;obtain⟨x0,x1,x2,x3,x4,x5,x6,x7,x8,x9,xf⟩:=aA h0
  have iG:Hid (∀w5,Below X.heap.size X w5->ak w5 W.heap.size 65 [.int .i64 f.kind,.int .i64 f.stream,.int .u64 f.offset,.int .u64 f.reliable,.int .u64 f.limit,.bool f.fin,.int .u64 f.id,.int .u64 f.deadline,.string f.data,.slice none 0 0]):=fun w5 h5=>xo.out.of_heap (h5.block _ Pm)
  clear h0 h8 h3 Vv o2 Ri Ka ho xr xz xi
  gi_wp2
  gi_region_with (first|(refine⟨trivial,?_⟩;gi_at_call 198;refine(ig (xd.out _)).mono ?_;rintro e w5 ⟨rfl,I⟩;have h6:Below X.heap.size X w5:=⟨I.os,I.tape,I.output,I.size,I.block⟩;clear I;obtain⟨y0,y1,y2,y3,y4,y5,y6,y7,y8,y9,yf⟩:=aA (iG.out w5 h6);have xa:=hid h6;clear h6)|(refine⟨trivial,?_⟩;gi_at_fn kN;refine(ig (Pk.out _ xa.out)).mono ?_;rintro e w6 ⟨rfl,hE⟩;have HE:=hid hE;clear hE))
  all_goals exact⟨rfl,HE.out⟩
 ·intro bR lp W6 D1 hp yp hD oD yn;obtain⟨Vw,Pp⟩:∃Vw,Vw=(frames lp).foldl Side.bookC M2:=⟨_,rfl⟩
  have xj:Hid (JL own s w S bw bl bi tb (some ⟨rb,Z,none⟩) c rs (some F.heap.size) [D1] Vw bR [] W6):=by
   obtain⟨⟨g1,g2,g3,g4,g5⟩,g6⟩:=yp;rw[<-Pp]at g1 g5;refine⟨⟨g1,g2,g3,g4,g5⟩,g6.b3,g6.rg,g6.ra,g6.bq,fun D z0=>?_⟩;rw[List.mem_singleton.1 z0];have:w.heap.size<w5.heap.size:=ho.1.2.2.1.lt;exact⟨by omega,oD,yn⟩
  have TQ:Hid (Vw=(frames lp).foldl Side.bookC M2/\lp.Perm A/\Vw.lost=M.lost/\Vw.ay=M2.ay):=by
   refine⟨Pp,hp,?_,?_⟩
   ·rw[Pp,(mD _ _).2,xl.out.1]
   ·rw[Pp,(mD _ _).1]
  clear yp Pp hp ho xr xz xi oD yn;have yd:W6.cell? ⟨F.heap.size,1,none⟩=some (.map (some bl)):=(xj.out.2.bq _ rfl).2.cell 1;obtain⟨M3,xx⟩:∃M3:Side,M3={Vw with ay:=Vw.ay,lost:=M.lost.filter fun x=> !names rs x.1}:=⟨_,rfl⟩
  obtain⟨B,hB⟩:∃B,B=M.lost.filter fun x=>names rs x.1:=⟨_,rfl⟩
  have ym:Hid (Calls prog 191 #[.map (some bl),.func (.func 337) #[] #[.pointer (some ⟨w.heap.size+1,0,none⟩)]] W6 fun e y'=>e=.returned (.map (some W6.heap.size))/\Hid (∃aL,JL own s w S bw bl bi tb (some ⟨rb,Z,none⟩) c rs (some F.heap.size) [D1] M3 aL [] y'/\nk aL (tb+1) (s+44) y' W6.heap.size B)):=by
   have:=Po xj.out O yv;rw[TQ.out.2.2.1,<-xx,<-hB]at this;exact this
  have yi:=hid (And.intro xx hB)
  have X8:Hid (∀x∈B,x.2.frames.length<=1000000/\∀f∈x.2.frames,MP f):=by
   obtain⟨hb,h4,h7,_,ha⟩:=kJ.out;intro x G;rw[hB]at G;have:=hb.ls x (tL.1 G).1;exact⟨by have:=this.2.1;omega,this.2.2⟩
  clear xx hB xj xe
  gi_wp2
  rw[roundsIn_succ]
  gi_wp2_with (first
   |(refine⟨trivial,?_⟩;gi_at_call 191;refine(callsIn_wide.2 ym.out).mono ?_;rintro e w7 ⟨rfl,H7⟩)
   |(refine⟨trivial,?_⟩;gi_at_call 197;refine(callsIn_wide.2 (tZ W6.heap.size w7)).mono ?_;rintro e w8 ⟨rfl,yz⟩;have xn:=hid yz;clear yz))
  have WO:Hid (∃jX,JL own s w S bw bl bi tb (some ⟨rb,Z,none⟩) c rs (some F.heap.size) [D1] M3 jX [] w8/\nk jX (tb+1) (s+44) w8 W6.heap.size B/\ak w8 w7.heap.size 203 [.map (some W6.heap.size)]):=by
   obtain⟨o4,g1,g2⟩:=H7.out
   have K:Kp [] o4 o4 w7 w8:=by rw[xn.out];exact Kp.alloc _ _ _ _
   exact⟨o4,JL.kp O _ _ _ _ _ g1 (K.mono (by simp)),g2.kp K (by simp) (by simp),by rw[xn.out];exact ak.new w7 203 _⟩
  clear ym H7 xn yd;obtain⟨X9,TR,WQ,WR⟩:=WO.out;refine mq (by omega) w7.heap.size W6.heap.size (tb+1) (s+44) (tb+2) (tb+3) (tb+4) (T1 s) B X9 (JL own s w S bw bl bi tb (some ⟨rb,Z,none⟩) c rs (some F.heap.size) [D1] M3) rfl WR WQ (fun x G=>(X8.out x G).1) (V _ (by omega)) (V _ (by omega)) (V _ (by omega)) (V _ (by omega)) (V _ (by omega)) (by omega) (JL.kp O) TR ?_ ?_
  ·intro L jX pre f W z1 Vv hf;obtain⟨x,G,ya⟩:=hf;have BQ:=(X8.out x G).2 f ya;obtain⟨k,hk⟩:∃k:Nat,f.stream=(k:Int):=⟨f.stream.toNat,by have:=BQ.st;omega⟩
   have sK:k<8:=by have:=BQ.st;omega
   have z2:w.heap.size<W.heap.size:=Vv.1.2.2.1.lt;have hg:=GX S k f.kind
   have xd:Hid (∀y,Calls prog 198 #[.pointer (some ⟨S,0,none⟩),bJ f (.slice none 0 0)] y fun e y'=>e=.returned (.iface (MV f.kind) (yP S k f.kind))/\Below y.heap.size y y'):=fun y=>by
    rw[<-hg];exact tY S k sK f hk y
   have Ri:Hid (∀jY y,JL own s w S bw bl bi tb (some ⟨rb,Z,none⟩) c rs (some F.heap.size) [D1] M3 jY pre y->Calls prog (mP f.kind) #[yP S k f.kind,bJ f (.slice none 0 0)] y fun e y'=>e=.returned (.tuple #[])/\∃own',JL own s w S bw bl bi tb (some ⟨rb,Z,none⟩) c rs (some F.heap.size) [D1] M3 own' (pre++[f]) y'/\Kp (T1 s) jY own' y y'):=fun jY y hy=>Jt O f BQ k sK hk hy
   have z5:=Js S k f.kind;have z4:=uS f.kind;obtain⟨Wa,H⟩:∃Wa,Wa=W.alloc (.cells (bX f (.slice none 0 0)).toArray 65):=⟨_,rfl⟩
   have h8:ak Wa W.heap.size 65 (bX f (.slice none 0 0)):=by rw[H];exact ak.new W 65 _
   have Ka:Kp [] jX jX W Wa:=by rw[H];exact Kp.alloc _ _ _ _
   have z8:Wa.heap.size=W.heap.size+1:=by rw[H];simp
   generalize MV f.kind=kT at *;generalize yP S k f.kind=kP at *;generalize mP f.kind=kN at *;clear hg hk;unfold bJ at *;unfold bX at H h8
   gi_wp2
   rw[<-H];clear H;refine⟨Ka,fun X o2 s2 h3=>?_⟩;have h0:=h8.of_heap (o2 W.heap.size (by omega));have J3:X.cell? ⟨w.heap.size,0,none⟩=some (.pointer (some ⟨S,0,none⟩)):=h3.1.2.2.1.cell 0
   have Pk:Hid (∀y,Below X.heap.size X y->Calls prog kN #[kP,.agg #[.int .i64 f.kind,.int .i64 f.stream,.int .u64 f.offset,.int .u64 f.reliable,.int .u64 f.limit,.bool f.fin,.int .u64 f.id,.int .u64 f.deadline,.string f.data,.slice none 0 0]] y fun e y'=>e=.returned (.tuple #[])/\∃own',JL own s w S bw bl bi tb (some ⟨rb,Z,none⟩) c rs (some F.heap.size) [D1] M3 own' (pre++[f]) y'/\Kp (T1 s) jX own' X y'):=fun y hy=>by
    have K:Kp [] jX jX X y:=Kp.below hy;refine(Ri.out jX y (JL.kp O _ _ _ _ _ h3 (K.mono (by simp)))).mono ?_;rintro e y' ⟨rfl,o',a1,a2⟩;exact⟨rfl,o',a1,(K.mono (by simp)).trans a2⟩
   have xo:=hid h0;have Pm:W.heap.size<X.heap.size:=h0.lt;obtain⟨x0,x1,x2,x3,x4,x5,x6,x7,x8,x9,xf⟩:=aA h0
   have iG:Hid (∀w5,Below X.heap.size X w5->ak w5 W.heap.size 65 [.int .i64 f.kind,.int .i64 f.stream,.int .u64 f.offset,.int .u64 f.reliable,.int .u64 f.limit,.bool f.fin,.int .u64 f.id,.int .u64 f.deadline,.string f.data,.slice none 0 0]):=fun w5 h5=>xo.out.of_heap (h5.block _ Pm)
   clear h0 h8 h3 Vv o2 Ri Ka TR WQ WR WO
   gi_wp2
   gi_region_with (first|(refine⟨trivial,?_⟩;gi_at_call 198;refine(ig (xd.out _)).mono ?_;rintro e w5 ⟨rfl,I⟩;have h6:Below X.heap.size X w5:=⟨I.os,I.tape,I.output,I.size,I.block⟩;clear I;obtain⟨y0,y1,y2,y3,y4,y5,y6,y7,y8,y9,yf⟩:=aA (iG.out w5 h6);have xa:=hid h6;clear h6)|(refine⟨trivial,?_⟩;gi_at_fn kN;refine(ig (Pk.out _ xa.out)).mono ?_;rintro e w6 ⟨rfl,hE⟩;have HE:=hid hE;clear hE))
   all_goals exact⟨rfl,HE.out⟩
  ·intro jY lq W9 D2 hq xt zb z9 Zi
   have xp:D1<D2/\W9.heap[D1]?=some (.deferred (some []))/\jY D1=tb+4/\w.heap.size<=D1:=by
    obtain⟨a1,a2,a3⟩:=xt.2.ds D1 (by simp);obtain⟨b1,b2,b3⟩:=TR.2.ds D1 (by simp);have:=(Array.getElem?_eq_some_iff.1 b3).1;exact⟨by omega,a3,a2,a1⟩
   have Zj:(W9.putObj D2 (.deferred none)).heap[D1]?=some (.deferred (some [])):=by rw[jK (by omega)];exact xp.2.1
   have HE:Hid (∃M1,M.rR rs M1/\fQ s own w S bw bl bi M1 ((W9.putObj D2 (.deferred none)).putObj D1 (.deferred none))):=by
    obtain⟨hb,h4,h7,_,ha⟩:=kJ.out;obtain⟨⟨⟨l1,v1,g1⟩,g2,g3,g4,g5⟩,g6⟩:=xt
    have K9:Kp [tb+4] jY jY W9 ((W9.putObj D2 (.deferred none)).putObj D1 (.deferred none)):=⟨rfl,rfl,rfl,by simp,fun k hk hn=>by
     rw[jK (fun e=>hn (by rw[e,xp.2.2.1];simp)),jK (fun e=>hn (by rw[e,z9];simp))],fun _ _=>rfl⟩
    refine⟨_,?_,jY,l1,v1,g1.kp K9 (fun x a b e=>by simp at e;omega),?_⟩
    ·refine⟨lp,lq,by rw[<-xl.out.2];exact TQ.out.2.1,by rw[<-yi.out.2];exact hq,?_⟩;rw[List.foldl_append]
     congr 1
     rw[yi.out.1,TQ.out.2.2.2,TQ.out.1,<-xU,xl.out.1,h4];rfl
    ·refine Kp.less (U:=[tb+4]++[tb+3,tb+2]) ?_ (fun b' z3 e=>by have:=h7 b' z3;simp at e;omega);rw[List.append_assoc];exact(g4.mono fun x G=>nI _ G).trans (K9.mono fun x G=>List.mem_append_left _ G)
   clear xt WO TR WQ WR xp
   gi_wp2
   rw[roundsIn_succ]
   gi_wp2
   refine⟨by simp,.inl ⟨_,_,rfl,run_takeDeferred Zi,?_⟩⟩;refine⟨by simp,.inl ⟨_,_,rfl,run_takeDeferred Zj,?_⟩⟩;exact⟨_,results_none rfl _ _ _,rfl,HE.out⟩
end
end Go.Proofs.YtphbledmopchnaaGreatDoor.Sd
