import Derived.Test.YtphbledmopchnaaGreatDoorUfd
import Derived.Test.YtphbledmopchnaaGreatDoorUfa
open List renaming mem_filter->fA,mem_append_right->fB,foldl_append->mR,length_filter_le->nI,filter_eq_self->sQ,mem_append_left->tL,any_eq_true->wz
set_option maxHeartbeats 4000000
set_option maxRecDepth 100000
namespace Go.Proofs.YtphbledmopchnaaGreatDoor.Sd
open Go.RowKit Go.Lib Mm Tryz
section
attribute [local go_sem] Oper.semAt_some
theorem BD{F:Fence}{n:Nat}{c:Code}{K:Act->World->Prop}{H:Exit->Act->World->Prop}{a:Act}{w:World}(h:c.wpIn F n prog (Exit.then K fun _ _ _=>False) a w):c.wpIn F n prog (Exit.then K H) a w:=
 wpIn_mono h fun e I w' G=>by
  cases e with
  |normal=>exact G
  |ret=>exact G.elim
  |exit i=>exact G.elim
  |goto i=>exact G.elim
  |panic c=>exact G.elim
  |outgrown=>exact G.elim
theorem wpIn_cut{F:Fence}{n:Nat}{c:Code}{K:Act->World->Prop}{I:Exit->Act->World->Prop}{a:Act}{w:World}(act:Act)(R:World->Prop)(h:c.wpIn F n prog (Exit.then (fun H w'=>H=act/\R w') fun _ _ _=>False) a w)(U:∀w',R w'->K act w'):c.wpIn F n prog (Exit.then K I) a w:=
 wpIn_mono h fun e H w' G=>by
  cases e with
  |normal=>obtain⟨rfl,O⟩:=G;exact U _ O
  |ret=>exact G.elim
  |exit i=>exact G.elim
  |goto i=>exact G.elim
  |panic c=>exact G.elim
  |outgrown=>exact G.elim
def LS(oZ:Own)(s:Nat)(w:World)(S bw bl bi tb:Nat)(M':Side)(y:World):Prop:=
 ∃F l1 G,bT F s y S l1 M' bw bl bi G/\F w.heap.size=tb/\aA y w.heap.size 128 [ay S 0]/\Kp (T0 s) oZ F w y
def LB(oZ:Own)(s:Nat)(w:World)(S bw bl bi tb:Nat)(v:Value)(M':Side)(y:World):Prop:=
 ∃F l1 G,bT F s y S l1 M' bw bl bi G/\F w.heap.size=tb/\aA y w.heap.size 128 [ay S 0]/\Kp (T0 s) oZ F w y/\GT F tb 294 1 y v 25 (Tk S 8)
section
variable {oZ:Own} {s:Nat} {w:World} {S bw bl bi tb:Nat} {M':Side} {y:World}
theorem LS.cells(h:LS oZ s w S bw bl bi tb M' y):y.cell? (aj w.heap.size 0)=some (ay S 0)/\y.cell? (aj S 230)=some (.map (some bw))/\y.cell? (aj S 231)=some (.map (some bl)):=by
 obtain⟨o,l1,G,h1,_,F,_⟩:=h;exact⟨F.cell 0,by rw[h1.blk.cell];exact h1.cells.kL,by rw[h1.blk.cell];exact h1.cells.nC⟩
theorem LB.ls{v:Value}(h:LB oZ s w S bw bl bi tb v M' y):LS oZ s w S bw bl bi tb M' y:=by
 obtain⟨o,l1,I,h1,F,G,H,_⟩:=h;exact⟨o,l1,I,h1,F,G,H⟩
theorem Vp(h:LS oZ s w S bw bl bi tb M' y)(h0:s+100<=tb)(H:∀x∈M'.lost,x.1+64<18446744073709551616):
  Calls prog 194 #[.map (some bl),.func (.func 195) #[] #[ay w.heap.size 0]] y fun e y'=>e=.returned (.tuple #[])/\LS oZ s w S bw bl bi tb {M' with aF:=M'.aF,lost:=M'.lost.filter fun x=> !decide (x.1+64<M'.next)} y':=by
 obtain⟨o,l1,v1,h1,F,G,V⟩:=h
 have K:S≠bl:=fun e=>by
  obtain⟨f,f1,_⟩:=h1.lost;have:=h1.ow;rw[e,f1]at this;omega
 have I:w.heap.size≠bl:=fun e=>by
  obtain⟨f,f1,_⟩:=h1.lost;rw[e,f1]at F;omega
 refine(h1.lost.drop (by omega) 195 #[] #[ay w.heap.size 0] (enters_of func195 (by kernel_rfl) rfl) (fun n _=>decide (n+64<M'.next)) (fun x O v hv W U=>?_)).mono ?_
 ·have X:W.heap[S]?=y.heap[S]?:=U.block S h1.blk.lt (by simp;exact K);have Z:W.heap[w.heap.size]?=y.heap[w.heap.size]?:=U.block _ G.lt (by simp;exact I);exact X5 S w.heap.size x.1 M'.next v W ((G.of_heap Z).cell 0) (by rw[(h1.blk.of_heap X).cell];exact h1.cells.c229) (H x O)
 ·rintro e y' ⟨rfl,f1,k1⟩;exact⟨rfl,o,l1,v1,h1.ways k1 (by simp) _ _ (h1.way.kp k1 (by simp) (by simp)) f1,F,aO G k1 (by rw[F];simp;omega),V.trans (k1.mono fun x O=>bN.2 (by simp at O;omega))⟩
theorem Ri(h:LS oZ s w S bw bl bi tb M' y):Calls prog 196 #[ay S 0] y fun e y'=>∃a c,e=.returned (.slice a 25 c)/\LB oZ s w S bw bl bi tb (.slice a 25 c) M' y':=by
 obtain⟨o,l1,Z,h1,O,I,U⟩:=h;refine(Q_ S y).mono ?_;rintro e y' ⟨v,rfl,g,V,hb⟩;obtain⟨a,c,rfl,_⟩:=g.shape
 obtain⟨G,F⟩:∃G:Own,G=fun x=>if x<y.heap.size then o x else tb:=⟨_,rfl⟩
 have K:Kp [] o G y y':=⟨hb.os,hb.tape,hb.output,hb.size,fun x H _=>hb.block x H,fun x H=>by rw[F];exact if_pos H⟩;exact⟨a,c,rfl,G,l1,Z,h1.kp K (by simp),by rw[K.ext _ I.lt,O],aO I K (by simp),U.trans (K.mono (by simp)),GT.TW g fun k X=>by rw[F];exact if_neg (by have:=V k X;omega)⟩
theorem Vq{v:Value}{j:Nat}(h:LB oZ s w S bw bl bi tb v (M'.pQ j) y)(X:j<25)(Z:s+100<=tb)(V:∀k,(M'.out k).came.rs.length<=1000000):
  Calls prog (lN j) #[lP S j] y fun e y'=>e=.returned (.tuple #[])/\LB oZ s w S bw bl bi tb v (M'.pQ (j+1)) y':=by
 obtain⟨o,l1,v1,h1,F,G,O,U⟩:=h;refine(Rf y h1 j X (fun k=>by rw[zu];exact V k)).mono ?_;rintro e y' ⟨rfl,o2,l2,v2,I,K⟩
 have H:tb∉T0 s:=fun e=>by have:=bN.1 e;omega
 exact⟨rfl,o2,l2,v2,I,by rw[K.ext _ G.lt,F],aO G K (by rw[F];exact H),O.trans K,U.kp K H⟩
end

def JA(oZ:Own)(s:Nat)(w:World)(S bw bl bi tb:Nat)(g:Side->Fr->Side)(F:Side)(aC:Own)(pre:List Fr)(W:World):Prop:=
 (∃l1 G,bT aC s W S l1 (pre.foldl g F) bw bl bi G)/\aC w.heap.size=tb/\aA W w.heap.size 128 [ay S 0]/\Kp ([tb+3,tb+2]++T0 s) oZ aC w W/\Bd (pre.foldl g F)
theorem JA.kp{oZ:Own}{s:Nat}{w:World}{S bw bl bi tb:Nat}{g:Side->Fr->Side}{F:Side}(X:s+100<=tb)(H dx:Own)(pre:List Fr)(W G:World)(h:JA oZ s w S bw bl bi tb g F H pre W)(K:Kp [tb+3,tb+2] H dx W G):JA oZ s w S bw bl bi tb g F dx pre G:=by
 obtain⟨⟨l1,v1,h1⟩,I,O,U,V⟩:=h;exact⟨⟨l1,v1,h1.kp K (fun x a b e=>by simp at e;omega)⟩,by rw[K.ext _ O.lt,I],aO O K (by rw[I];simp),U.trans (K.mono fun x Z=>tL _ Z),V⟩
theorem Fb(kd:Int):∀args w,(callFunc (tY kd) args).run prog w=.ok (.enter (tY kd) args) w:=by
 unfold tY;split
 ·exact enters_of func319 (by kernel_rfl) rfl
 ·split
  ·exact enters_of func342 (by kernel_rfl) rfl
  ·exact enters_of func311 (by kernel_rfl) rfl
theorem iR{L n:Nat}{f:FuncId}{args:Array Value}{w:World}{R:Ending->World->Prop}(h:Calls prog f args w R):CallsIn (Fence.wide.inRound L) n prog f args w R:=callsIn_wide.2 h
theorem Fe(j:Nat):∀args w,(callFunc (lN j) args).run prog w=.ok (.enter (lN j) args) w:=by
 unfold lN;split
 ·exact enters_of func392 (by kernel_rfl) rfl
 ·split
  ·exact enters_of func395 (by kernel_rfl) rfl
  ·exact enters_of func397 (by kernel_rfl) rfl
theorem Vr(oZ:Own)(s:Nat)(S:Nat)(l:aI)(M:Side)(bw bl bi:Nat)(vc:Value)(w:World)(h:bT oZ s w S l M bw bl bi vc)(hb:Bd M)(zt:M.tick<18446744073709551616)(yy:M.next<=aZ):
  Calls prog 154 #[ay S 0] w fun e w'=>e=.returned (.tuple #[])/\∃M1,M.iG M1/\fP s oZ w S bw bl bi M1 w':=by
 obtain⟨tb,O,I⟩:=qp oZ (s+100) w.heap.size;have wd:=h.s0;obtain⟨X,ho⟩:∃X,X=w.alloc (.cells #[ay S 0] 128):=⟨_,rfl⟩
 have h7:aD w X:=by rw[ho];exact(Below.refl _ w).alloc (Nat.le_refl _) _
 have yz:X.heap.size=w.heap.size+1:=by rw[ho];simp
 obtain⟨bQ,xt⟩:∃bQ:Own,bQ=fun x=>if x<w.heap.size then oZ x else tb:=⟨_,rfl⟩
 have K0:Kp [] oZ bQ w X:=⟨h7.os,h7.tape,h7.output,h7.size,fun x F _=>h7.block x F,fun x F=>by rw[xt];exact if_pos F⟩;have V:bT bQ s X S l M bw bl bi vc:=h.kp K0 (by simp)
 have G:aA X w.heap.size 128 [ay S 0]:=by rw[ho];exact aA.new w 128 _
 have zw:bQ w.heap.size=tb:=by rw[xt];exact if_neg (Nat.lt_irrefl _)
 have zs:S≠bw:=fun e=>by
  obtain⟨f,f1,_⟩:=V.way;have:=V.ow;rw[e,f1]at this;omega
 have HT:Hid (∀q,Calls prog 191 #[.map (some bw),.func (.func 192) #[ay S 0] #[]] (X.drewN q) fun e w'=>e=.returned (.map (some (w.heap.size+1)))/\Hid (∃H,oq H (s+42) (s+44) w' bw (M.aF.filter fun x=> !M.dN x)/\oq H (tb+1) (s+44) w' (w.heap.size+1) (M.aF.filter M.dN)/\Kp [s+42] bQ H X w')):=fun q=>by
  have Hq:bT bQ s (X.drewN q) S l M bw bl bi vc:=V.below ⟨rfl,rfl,rfl,Nat.le_refl _,fun _ _=>rfl⟩;refine(Hq.way.take (by omega) (by have:=hb.wl;omega) 192 #[ay S 0] #[] (enters_of func192 (by kernel_rfl) rfl) (fun n t=>decide (6<=M.tick-t)||decide (n+3<M.named)) (tb+1) (fun x F v hv W hg=>?_)).mono ?_
  ·have yq:W.heap[S]?=(X.drewN q).heap[S]?:=hg.block S Hq.blk.lt (by simp;exact fun e=>zs e)
   have c3:W.cell? (aj S 3)=some (uZ M.tick):=by rw[(Hq.blk.of_heap yq).cell];exact Hq.cells.c3
   have c232:W.cell? (aj S 232)=some (uZ M.named):=by rw[(Hq.blk.of_heap yq).cell];exact Hq.cells.c232
   have zv:=hb.tk x F;have wg:=(hb.wy x F).1;have:=Nv S M.tick M.named x.1 v W c3 c232 (by rw[hv];exact zv) zt (by unfold aZ at yy;omega);rw[hv]at this;exact this
  ·rintro e w' ⟨he,H,h1,h2,Z⟩;have e9:(X.drewN q).heap.size=w.heap.size+1:=yz;rw[e9]at he h2;exact⟨he,H,h1,h2,⟨Z.os,Z.tape,Z.output,Z.size,Z.blk,Z.ext⟩⟩
 have cw:X.cell? (aj S 230)=some (.map (some bw)):=by rw[V.blk.cell];exact V.cells.kL
 have cb:X.cell? (aj w.heap.size 0)=some (ay S 0):=G.cell 0;have P5:=V.blk.lt
 have Mk:∀(fn:Fn) (first cap:Array Value) (w:World),(Instr.makeFunc fn first cap).run prog w=.ok (.func fn first cap) w:=fun _ _ _ _=>rfl
 have lQ:=au (And.intro h (And.intro hb (And.intro V (And.intro G (And.intro zw (And.intro K0 (And.intro I O)))))));clear h hb V G zw K0 I O xt h7;refine(callsIn_wide (n:=10)).1 ?_;refine callsIn_of_wp_marks func154 rfl trivial ?_ rfl;simp only[ntmps154,List.size_toArray,List.length_cons,List.length_nil,Nat.reduceAdd,Nat.reduceSub,Array.replicate_succ,Array.replicate_zero,List.push_toArray,List.append_toArray,List.nil_append,List.cons_append]
 gi_wp2
 rw[<-ho];clear ho
 refine wpIn_cut {tmps:=#[ay S 0,ay w.heap.size 0,.map (some (w.heap.size+1)),undef,undef,undef,ay S 0,ay S 0,ay S 230,.map (some bw),ay S 0,.func (.func 192) #[ay S 0] #[],.map (some (w.heap.size+1)),undef,undef,undef,undef,undef,undef,undef,undef,undef,undef,undef,undef,undef,undef,undef,undef,undef,undef,undef,undef,undef,undef,undef,undef,undef,undef,undef,undef,undef,undef,undef,undef,undef,undef,undef,undef],defers:=[]}
  (fun w1=>Hid (∃H,oq H (s+42) (s+44) w1 bw (M.aF.filter fun x=> !M.dN x)/\oq H (tb+1) (s+44) w1 (w.heap.size+1) (M.aF.filter M.dN)/\Kp [s+42] bQ H X w1)) ?_ (fun w1 H1=>?_)
 ·gi_region_with (refine⟨trivial,?_⟩;gi_at_call 191;refine(callsIn_wide.2 (HT.out _)).mono ?_;rintro e w1 ⟨rfl,H1⟩)
  all_goals exact⟨rfl,H1⟩
 obtain⟨A,hA⟩:∃A,A=M.aF.filter fun x=> !M.dN x:=⟨_,rfl⟩
 obtain⟨B,hB⟩:∃B,B=M.aF.filter M.dN:=⟨_,rfl⟩;rw[<-hA,<-hB]at H1;have J4:=au (And.intro hA hB);clear hA hB HT
 have H2:Hid (∃H,bT H s w1 S l {M with aF:=A,lost:=M.lost} bw bl bi vc/\oq H (tb+1) (s+44) w1 (w.heap.size+1) B/\H w.heap.size=tb/\aA w1 w.heap.size 128 [ay S 0]/\Kp (T0 s) oZ H w w1):=by
  obtain⟨H,g1,g2,k1⟩:=H1.out;obtain⟨h,hb,V,G,zw,K0,I,O⟩:=lQ.out;refine⟨H,V.ways k1 (by simp) A M.lost g1 (V.lost.kp k1 (by simp) (by simp)),g2,by rw[k1.ext _ G.lt,zw],aO G k1 (by rw[zw];simp;omega),(K0.mono (by simp)).trans (k1.mono fun x F=>bN.2 (by simp at F;omega))⟩
 have ys:∀ty,(Builtin.len_ #[203] ty #[.map (some (w.heap.size+1))]).run prog w1=.ok (iZ B.length) w1:=by
  obtain⟨H,_,⟨f,_,m,_⟩,_⟩:=H2.out;have:=m.len;rw[List.length_map]at this;exact this
 clear H1 cw cb
 cases h0:B with
 |nil=>
  rw[h0]at ys;have xa:=au h0;clear h0
  have HE:Hid (∃M1,M.iG M1/\fP s oZ w S bw bl bi M1 w1):=by
   obtain⟨H,h1,h2,Z,h4,h5⟩:=H2.out
   have yv:M.aF.any M.dN=false:=by
    rw[Bool.eq_false_iff];intro he;obtain⟨x,F,hl⟩:=wz.1 he
    have:x∈B:=by rw[J4.out.2];exact fA.2 ⟨F,hl⟩
    rw[xa.out]at this;cases this
   refine⟨M,by unfold Side.iG;rw[if_neg (by rw[yv];simp)],H,l,vc,?_,h5⟩
   have zf:A=M.aF:=by
    rw[J4.out.1]
    refine sQ.2 fun x F=>?_
    have:=List.any_eq_false.1 yv x F;simpa using this
   rw[zf]at h1;exact h1
  gi_wp2
  exact⟨_,results_none rfl _ _ _,rfl,HE.out⟩
 |cons b0 Bt=>
  have w8:¬(B.length:Int)=0:=by rw[h0];simp;omega
  have xa:=au h0;clear h0
  have HM:Hid (s+100<=tb/\(∀x∈M.lost++B,x.1+64<18446744073709551616)/\∀k,(M.out k).came.rs.length<=1000000):=by
   obtain⟨h,hb,V,G,zw,K0,I,O⟩:=lQ.out;refine⟨O,fun x F=>?_,fun k=>by have:=(hb.o k).c.len;omega⟩
   have:x.1<M.next:=by
    rcases List.mem_append.1 F with F|F
    ·exact(hb.ls x F).1
    ·rw[J4.out.2]at F;exact(hb.wy x (fA.1 F).1).1
   unfold aZ at yy;omega
  obtain⟨z7,_,zb⟩:w1.cell? (aj w.heap.size 0)=some (ay S 0)/\w1.cell? (aj S 230)=some (.map (some bw))/\w1.cell? (aj S 231)=some (.map (some bl)):=by
   obtain⟨H,h1,_,Z,h4,h5⟩:=H2.out;exact LS.cells (oZ:=oZ) (s:=s) (tb:=tb) (bi:=bi) (M':={M with aF:=A,lost:=M.lost}) ⟨H,l,vc,h1,Z,h4,h5⟩
  have HC:Hid (Calls prog 193 #[.map (some bl),.map (some (w.heap.size+1))] w1 fun e w2=>e=.returned (.tuple #[])/\LS oZ s w S bw bl bi tb {M with aF:=A,lost:=M.lost++B} w2):=by
   obtain⟨H,h1,h2,Z,h4,h5⟩:=H2.out;obtain⟨h,hb,V,G,zw,K0,I,O⟩:=lQ.out
   have wc:B.length<=12:=by rw[J4.out.2];exact Nat.le_trans (nI _ _) hb.wl
   refine(h1.lost.copy h2 (by omega) (by omega) (by have:=hb.ll;show B.length+M.lost.length<100000;omega) (fun x F y hy=>?_)).mono ?_
   ·rw[J4.out.2]at F;exact Ne.symm ((List.pairwise_append.1 hb.ky).2.2 y hy x (fA.1 F).1)
   ·rintro e w2 ⟨rfl,f1,k1⟩;exact⟨rfl,H,l,vc,h1.ways k1 (by simp) A (M.lost++B) (h1.way.kp k1 (by simp) (by simp)) f1,Z,aO h4 k1 (by rw[Z];simp;omega),h5.trans (k1.mono fun x F=>bN.2 (by simp at F;omega))⟩
  obtain⟨M3,xn⟩:∃M3,M3={M with aF:=A,lost:=(M.lost++B).filter fun x=> !decide (x.1+64<M.next)}:=⟨_,rfl⟩
  have HD:Hid (∀w2,LS oZ s w S bw bl bi tb {M with aF:=A,lost:=M.lost++B} w2->Calls prog 194 #[.map (some bl),.func (.func 195) #[] #[ay w.heap.size 0]] w2 fun e w3=>e=.returned (.tuple #[])/\LS oZ s w S bw bl bi tb M3 w3):=fun w2 h2=>by
   rw[xn];exact Vp h2 HM.out.1 HM.out.2.1
  have hr:=au xn;clear xn
  gi_wp2_with (first
   |(refine⟨trivial,?_⟩;gi_at_call 193;refine(callsIn_wide.2 HC.out).mono ?_;rintro e w2 ⟨rfl,xl⟩;obtain⟨KZ,_,zc⟩:=xl.cells;have xz:=au xl;clear xl)
   |(refine⟨trivial,?_⟩;gi_at_call 194;refine(callsIn_wide.2 (HD.out _ xz.out)).mono ?_;rintro e w3 ⟨rfl,xm⟩;obtain⟨z8,_,_⟩:=xm.cells;have ya:=au xm;clear xm)
   |(refine⟨trivial,?_⟩;gi_at_call 196;refine(callsIn_wide.2 (Ri ya.out)).mono ?_;rintro e w4 ⟨a4,c4,rfl,yn⟩;have yd:=au yn;clear yn))
  have z3:Hid (∀k,(M3.out k).came.rs.length<=1000000):=by rw[hr.out];exact HM.out.2.2
  have ye:Hid (LB oZ s w S bw bl bi tb (.slice a4 25 c4) (M3.pQ 0) w4):=yd;clear yd xz ya HC HD z7 zb KZ zc z8 ys
  gi_loopw [31] (fun xx wr=>∃j:Nat,j<=25/\xx=(iZ j)/\Hid (LB oZ s w S bw bl bi tb (.slice a4 25 c4) (M3.pQ j) wr)) (fun xx _=>25-(intOf xx).toNat)
  case atStart=>exact⟨0,by omega,rfl,ye⟩
  case round=>
   obtain⟨j,hj,rfl,ha⟩:=hrel;clear ye
   by_cases zp:j<25
   ·have zz:(j:Int)<25:=by omega
    have xr:∃g,a4=some (aj g 0)/\wr.cell? (aj g j)=some (.iface (lT j) (lP S j)):=by
     obtain⟨o,l1,v1,h1,h2,Z,h4,h5⟩:=ha.out;obtain⟨g,hg,_,_,hc,_⟩:=h5.cell j _ (Rb S 8 j (by omega));exact⟨g,hg,hc⟩
    obtain⟨g,hg,hc⟩:=xr;subst hg;have zr:=Vo S j;have zn:=Fe j;have Ac:=au (Vq ha.out zp HM.out.1 z3.out);generalize lT j=tj at *;generalize lP S j=pj at *;generalize lN j=nj at *
    gi_wp2_with (refine⟨trivial,?_⟩;gi_at_fn nj;refine(callsIn_wide.2 Ac.out).mono ?_;rintro e w5 ⟨rfl,yp⟩;have z4:=au yp;clear yp)
    go_roundw
    case rel=>exact⟨j+1,by omega,by simp,z4⟩
    case measure=>simp[intOf];omega
   ·obtain rfl:j=25:=by omega
    obtain⟨z9,zd,_⟩:=ha.out.ls.cells
    have z5:Hid (M3.pQ 25=M.qH):=by
     obtain⟨h,hb,V,G,zw,K0,I,O⟩:=lQ.out;have e:=Nu M3 (by rw[hr.out];exact V.lo) (by rw[hr.out];exact V.li);show M3.pQ 25=M.qH;rw[e,hr.out,J4.out.1,J4.out.2];rfl
    gi_wp2_with (refine⟨trivial,?_⟩;gi_at_call 197;refine(callsIn_wide.2 (vB bw wr)).mono ?_;rintro e w7 ⟨rfl,z0⟩;have xd:=au z0;clear z0)
    have HJ:Hid (∃hw,JA oZ s w S bw bl bi tb Side.dM M.qH hw [] w7/\oq hw (s+42) (s+44) w7 bw A/\aA w7 wr.heap.size 203 [.map (some bw)]):=by
     obtain⟨o,l1,v1,h1,h2,Z,h4,h5⟩:=ha.out;obtain⟨h,hb,V,G,zw,K0,I,O⟩:=lQ.out;rw[z5.out]at h1
     have K:Kp [] o o wr w7:=by rw[xd.out];exact Kp.alloc _ _ _ _
     have yi:=h1.kp K (by simp);refine⟨o,⟨⟨l1,v1,yi⟩,h2,aO Z K (by simp),(h4.trans (K.mono (by simp))).mono fun x F=>fB _ F,EF hb⟩,?_,by rw[xd.out];exact aA.new wr 203 _⟩;have:=yi.way;rw[J4.out.1];exact this
    clear ha z9 zd xd
    have xy:Hid (∀x∈A,x.2.frames.length<=1000000/\∀f∈x.2.frames,N8 f):=by
     obtain⟨h,hb,V,G,zw,K0,I,O⟩:=lQ.out;intro x F;rw[J4.out.1]at F;have:=hb.wy x (fA.1 F).1;exact⟨by have:=this.2.1;omega,this.2.2⟩
    obtain⟨hw,xj,xe,xo⟩:=HJ.out
    have h9:∀x,s+41<=x->x∉T1 s:=fun x F e=>by have:=rJ.1 e;omega
    refine nH (by omega) wr.heap.size bw (s+42) (s+44) (tb+2) (tb+3) (tb+4) (T1 s) A hw (JA oZ s w S bw bl bi tb Side.dM M.qH) rfl xo xe (fun x F=>(xy.out x F).1) (h9 _ (by omega)) (h9 _ (by omega)) (h9 _ (by have:=HM.out.1;omega)) (h9 _ (by have:=HM.out.1;omega)) (h9 _ (by have:=HM.out.1;omega)) (by have:=HM.out.1;omega) (JA.kp HM.out.1) xj ?_ ?_
    ·intro L zx pre f W wa yk hf;obtain⟨x,F,zo⟩:=hf;have Dp:=(xy.out x F).2 f zo;obtain⟨k,hk⟩:∃k:Nat,f.stream=(k:Int):=⟨f.stream.toNat,by have:=Dp.st;omega⟩
     have uz:k<8:=by have:=Dp.st;omega
     have wb:w.heap.size<W.heap.size:=yk.2.2.1.lt;have yr:=I8 S k f.kind
     have z2:Hid (∀y,Calls prog 198 #[ay S 0,bR f nZ] y fun e y'=>e=.returned (.iface (Od f.kind) (zT S k f.kind))/\aD y y'):=fun y=>by
      rw[<-yr];exact vw S k uz f hk y
     have Tc:Hid (∀zy y,JA oZ s w S bw bl bi tb Side.dM M.qH zy pre y->Calls prog (tY f.kind) #[zT S k f.kind,bR f nZ] y fun e y'=>e=.returned (.tuple #[])/\∃aC,JA oZ s w S bw bl bi tb Side.dM M.qH aC (pre++[f]) y'/\Kp (T1 s) zy aC y y'):=fun zy y hy=>by
      obtain⟨⟨l1,v1,g1⟩,g2,g3,g4,g5⟩:=hy;refine(Q8 y g1 f k uz hk nZ (fun h4=>⟨(g5.o k).a,Dp.dt h4⟩)).mono ?_;rintro e y' ⟨rfl,o2,l2,v2,a1,a2⟩;have hn:tb∉T1 s:=h9 _ (by have:=HM.out.1;omega);refine⟨rfl,o2,⟨⟨l2,v2,by rw[mR];exact a1⟩,by rw[a2.ext _ g3.lt,g2],aO g3 a2 (by rw[g2];exact hn),g4.trans (a2.mono fun x F=>fB _ (Q6 F)),by rw[mR];exact EB g5 f Dp⟩,a2⟩
     have zr:=Vl S k f.kind;have zn:=Fb f.kind;obtain⟨Wa,h6⟩:∃Wa,Wa=W.alloc (.cells (bZ f nZ).toArray 65):=⟨_,rfl⟩
     have xv:aA Wa W.heap.size 65 (bZ f nZ):=by rw[h6];exact aA.new W 65 _
     have Ka:Kp [] zx zx W Wa:=by rw[h6];exact Kp.alloc _ _ _ _
     have we:Wa.heap.size=W.heap.size+1:=by rw[h6];simp
     generalize Od f.kind=kT at *;generalize zT S k f.kind=kP at *;generalize tY f.kind=kN at *;clear yr hk;unfold bR at *;unfold bZ at h6 xv
     gi_wp2
     rw[<-h6];clear h6;refine⟨Ka,fun w2 o2 s2 xi=>?_⟩;have hu:=xv.of_heap (o2 W.heap.size (by omega));have KZ:w2.cell? (aj w.heap.size 0)=some (ay S 0):=xi.2.2.1.cell 0
     have Rj:Hid (∀y,aD w2 y->Calls prog kN #[kP,.agg #[iZ f.kind,iZ f.stream,uZ f.offset,uZ f.reliable,uZ f.limit,.bool f.fin,uZ f.id,uZ f.deadline,.string f.data,nZ]] y fun e y'=>e=.returned (.tuple #[])/\∃aC,JA oZ s w S bw bl bi tb Side.dM M.qH aC (pre++[f]) y'/\Kp (T1 s) zx aC w2 y'):=fun y hy=>by
      have K:Kp [] zx zx w2 y:=Kp.below hy;refine(Tc.out zx y (JA.kp HM.out.1 _ _ _ _ _ xi (K.mono (by simp)))).mono ?_;rintro e y' ⟨rfl,o',a1,a2⟩;exact⟨rfl,o',a1,(K.mono (by simp)).trans a2⟩
     have z6:=au hu;have Rl:W.heap.size<w2.heap.size:=hu.lt;obtain⟨x0,x1,x2,x3,x4,x5,x6,x7,x8,x9,xf⟩:=aH hu
     have jd:Hid (∀w5,aD w2 w5->aA w5 W.heap.size 65 [iZ f.kind,iZ f.stream,uZ f.offset,uZ f.reliable,uZ f.limit,.bool f.fin,uZ f.id,uZ f.deadline,.string f.data,nZ]):=fun w5 h5=>z6.out.of_heap (h5.block _ Rl)
     clear hu xv xi yk o2 Tc Ka xj xe xo HJ
     gi_wp2
     gi_region_with (first|(refine⟨trivial,?_⟩;gi_at_call 198;refine(iR (z2.out _)).mono ?_;rintro e w5 ⟨rfl,h8⟩;have xp:aD w2 w5:=⟨h8.os,h8.tape,h8.output,h8.size,h8.block⟩;clear h8;obtain⟨y0,y1,y2,y3,y4,y5,y6,y7,y8,y9,yf⟩:=aH (jd.out w5 xp);have z1:=au xp;clear xp)|(refine⟨trivial,?_⟩;gi_at_fn kN;refine(iR (Rj.out _ z1.out)).mono ?_;rintro e w6 ⟨rfl,hE⟩;have HE:=au hE;clear hE))
     all_goals exact⟨rfl,HE.out⟩
    ·intro zy lp W' D hp ym hD oD zg
     have HE:Hid (∃M1,M.iG M1/\fP s oZ w S bw bl bi M1 (W'.putObj D (.deferred none))):=by
      obtain⟨h,hb,V,G,zw,K0,I,O⟩:=lQ.out;obtain⟨⟨l1,v1,g1⟩,g2,g3,g4,g5⟩:=ym;have K9:Kp [tb+4] zy zy W' (W'.putObj D (.deferred none)):=⟨rfl,rfl,rfl,by simp,fun k hk hn=>World.putObj_heap_other (fun e=>hn (by rw[e,oD];simp)),fun _ _=>rfl⟩;refine⟨_,?_,zy,l1,v1,g1.kp K9 (fun x a b e=>by simp at e;omega),?_⟩
      ·unfold Side.iG
       have:M.aF.any M.dN=true:=by
        have hm:b0∈B:=by rw[xa.out];simp
        rw[J4.out.2]at hm;exact wz.2 ⟨b0,(fA.1 hm).1,(fA.1 hm).2⟩
       rw[if_pos this];exact⟨lp,by rw[<-J4.out.1];exact hp,rfl⟩
      ·refine Kp.less (U:=[tb+4]++[tb+3,tb+2]) ?_ (fun b' zj e=>by have:=I b' zj;simp at e;omega);rw[List.append_assoc];exact(g4.mono fun x F=>fB _ F).trans (K9.mono fun x F=>tL _ F)
     clear ym HJ xj xe xo
     gi_wp2
     refine⟨by simp,.inl ⟨_,_,rfl,run_takeDeferred zg,?_⟩⟩;exact⟨_,results_none rfl _ _ _,rfl,HE.out⟩
end
section
theorem zA(X:Side)(f:Fr):(X.bookC f).aF=X.aF/\(X.bookC f).lost=X.lost:=by
 unfold Side.bookC
 repeat' split
 all_goals exact⟨rfl,rfl⟩
theorem nJ:∀(l:List Fr) (X:Side),(l.foldl Side.bookC X).aF=X.aF/\(l.foldl Side.bookC X).lost=X.lost
 |[],_=>⟨rfl,rfl⟩
 |f::t,X=>⟨(nJ t _).1.trans (zA X f).1,(nJ t _).2.trans (zA X f).2⟩
theorem Ja(X:Side)(f:Fr)(a b:List (Nat×m_)):({X with aF:=a,lost:=b}:Side).bookC f={X.bookC f with aF:=a,lost:=b}:=by
 unfold Side.bookC
 repeat' split
 all_goals rfl
theorem zB(a b:List (Nat×m_)):∀(l:List Fr) (X:Side),l.foldl Side.bookC {X with aF:=a,lost:=b}={l.foldl Side.bookC X with aF:=a,lost:=b}
 |[],_=>rfl
 |f::t,X=>by
  show t.foldl Side.bookC (({X with aF:=a,lost:=b}:Side).bookC f)=_;rw[Ja,zB a b t];rfl
theorem vX(kd:Int):∀args w,(callFunc (nT kd) args).run prog w=.ok (.enter (nT kd) args) w:=by
 unfold nT;split
 ·exact enters_of func391 (by kernel_rfl) rfl
 ·split
  ·exact enters_of func394 (by kernel_rfl) rfl
  ·exact enters_of func396 (by kernel_rfl) rfl
structure LX (w:World) (s tb bw bl:Nat) (a:Option Addr) (c:Nat) (rs:aP) (q:Option Nat) (Ds:List Nat) (aC:Own) (W:World):Prop where
 b3:aC (w.heap.size+1)=tb/\aA W (w.heap.size+1) 63 [.slice a rs.length c]
 rg:fV W a rs
 ra:∀x,a=some x->x.block<W.heap.size/\aC x.block∉T0 s/\aC x.block<tb
 bq:∀k,q=some k->aC k=tb/\aA W k 203 [.map (some bw),.map (some bl)]
 ds:∀D∈Ds,w.heap.size<=D/\aC D=tb+4/\W.heap[D]?=some (.deferred (some []))
theorem LX.kp{w:World}{s tb bw bl:Nat}{a:Option Addr}{c:Nat}{rs:aP}{q:Option Nat}{Ds:List Nat}{O dx:Own}{W I:World}{T:List Nat}(h:LX w s tb bw bl a c rs q Ds O W)(h4:s+100<=tb)(K:Kp T O dx W I)(G:∀t∈T,t∈T0 s\/tb<t/\t≠tb+4):LX w s tb bw bl a c rs q Ds dx I:=by
 have V:tb∉T:=fun e=>by
  rcases G _ e with e|e
  ·have:=bN.1 e;omega
  ·omega
 have hd:tb+4∉T:=fun e=>by
  rcases G _ e with e|e
  ·have:=bN.1 e;omega
  ·omega
 refine⟨⟨by rw[K.ext _ h.b3.2.lt,h.b3.1],aO h.b3.2 K (by rw[h.b3.1];exact V)⟩,h.rg.of fun x H hl=>K.blk _ hl (fun e=>?_),fun x H=>?_,fun k hk=>?_,fun D Z=>?_⟩
 ·obtain⟨_,F,U⟩:=h.ra x H
  rcases G _ e with e|e
  ·exact F e
  ·omega
 ·obtain⟨h1,F,U⟩:=h.ra x H;exact⟨Nat.lt_of_lt_of_le h1 K.size,by rw[K.ext _ h1];exact F,by rw[K.ext _ h1];exact U⟩
 ·obtain⟨h1,F⟩:=h.bq k hk;exact⟨by rw[K.ext _ F.lt,h1],aO F K (by rw[h1];exact V)⟩
 ·obtain⟨X,h1,F⟩:=h.ds D Z;have hl:=(Array.getElem?_eq_some_iff.1 F).1;exact⟨X,by rw[K.ext _ hl,h1],(K.blk _ hl (by rw[h1];exact hd)).trans F⟩
section
variable {oZ:Own} {s:Nat} {w:World} {S bw bl bi tb:Nat} {a:Option Addr} {c:Nat} {rs:aP} {q:Option Nat} {Ds:List Nat}
def JL(oZ:Own)(s:Nat)(w:World)(S bw bl bi tb:Nat)(a:Option Addr)(c:Nat)(rs:aP)(q:Option Nat)(Ds:List Nat)(F:Side)(aC:Own)(pre:List Fr)(W:World):Prop:=
 JA oZ s w S bw bl bi tb Side.bookC F aC pre W/\LX w s tb bw bl a c rs q Ds aC W
theorem JL.kp{G:Side}(F:s+100<=tb)(I dx:Own)(pre:List Fr)(W H:World)(h:JL oZ s w S bw bl bi tb a c rs q Ds G I pre W)(K:Kp [tb+3,tb+2] I dx W H):JL oZ s w S bw bl bi tb a c rs q Ds G dx pre H:=
 ⟨JA.kp F _ _ _ _ _ h.1 K,h.2.kp F K fun t ht=>by simp at ht;omega⟩
theorem Kz{I:Side}{U:Own}{pre:List Fr}{y:World}(G:s+100<=tb)(f:Fr)(H:N8 f)(k:Nat)(uz:k<8)(hk:f.stream=(k:Int))(h:JL oZ s w S bw bl bi tb a c rs q Ds I U pre y):
  Calls prog (nT f.kind) #[zT S k f.kind,bR f nZ] y fun e y'=>e=.returned (.tuple #[])/\∃aC,JL oZ s w S bw bl bi tb a c rs q Ds I aC (pre++[f]) y'/\Kp (T1 s) U aC y y':=by
 obtain⟨⟨⟨l1,v1,X⟩,K,O,Z,F⟩,g6⟩:=h;refine(Q9 y X f k uz hk nZ (fun h4=>⟨(F.o k).a,(F.o k).c,H.dt h4⟩)).mono ?_;rintro e y' ⟨rfl,o2,l2,v2,V,a2⟩
 have hn:tb∉T1 s:=fun e=>by have:=rJ.1 e;omega
 exact⟨rfl,o2,⟨⟨⟨l2,v2,by rw[mR];exact V⟩,by rw[a2.ext _ O.lt,K],aO O a2 (by rw[K];exact hn),Z.trans (a2.mono fun x hx=>fB _ (Q6 hx)),by rw[mR];exact EC F f H⟩,g6.kp G a2 fun t ht=>.inl (Q6 ht)⟩,a2⟩
theorem KC{M:Side}(h:Bd M)(p r:Nat×m_->Bool):Bd {M with aF:=M.aF.filter p,lost:=M.lost.filter r}:=
 ⟨h.o,h.i,h.g,h.lm,h.mt,fun x F=>h.wy x (fA.1 F).1,fun x F=>h.ls x (fA.1 F).1,h.ky.sublist (List.filter_sublist.append List.filter_sublist),Nat.le_trans (nI _ _) h.wl,Nat.le_trans (nI _ _) h.ll,h.nm,h.cm,fun x F=>h.tk x (fA.1 F).1⟩
theorem Fg{G:Own}{y W:World}(h:LX w s tb bw bl a c rs q Ds G y)(b:Nat)(hb:G b∈T0 s)(O:s+100<=tb)(hl:rs.length<=1000000)(H:y.grownBy W (some b))(n:Nat)(v:Option Addr×Nat×Nat×Nat):
  Calls prog 337 #[uZ n,qX v,(ay (w.heap.size+1) 0)] W fun e I=>e=.returned (.bool (names rs n))/\aD W I:=by
 have K:aA W (w.heap.size+1) 63 [.slice a rs.length c]:=h.b3.2.of_heap (H.block _ h.b3.2.lt (by
  simp only[ne_eq,Option.some.injEq];intro e;rw[<-e,h.b3.1]at hb;have:=bN.1 hb
  omega))
 refine Rh (w.heap.size+1) n a rs c v W (K.cell 0) (h.rg.of fun x U F=>H.block _ F (by
  simp only[ne_eq,Option.some.injEq];intro e
  exact(h.ra x U).2.1 (by rw[e];exact hb))) hl
theorem Rm{M':Side}{I:Own}{y:World}(h:JL oZ s w S bw bl bi tb a c rs q Ds M' I [] y)(G:s+100<=tb)(hl:rs.length<=1000000):
  Calls prog 191 #[.map (some bw),.func (.func 337) #[] #[(ay (w.heap.size+1) 0)]] y fun e y'=>e=.returned (.map (some y.heap.size))/\∃dx,JL oZ s w S bw bl bi tb a c rs q Ds {M' with aF:=M'.aF.filter fun x=> !names rs x.1,lost:=M'.lost} dx [] y'/\oq dx (tb+1) (s+44) y' y.heap.size (M'.aF.filter fun x=>names rs x.1):=by
 obtain⟨⟨⟨l1,v1,F⟩,U,V,g4,H⟩,X⟩:=h;have F:bT I s y S l1 M' bw bl bi v1:=F;have H:Bd M':=H
 have O:I bw=s+42:=by obtain⟨f,f1,_⟩:=F.way;exact f1
 refine(F.way.take (by omega) (by have:=H.wl;omega) 337 #[] #[(ay (w.heap.size+1) 0)] (enters_of func337 (by kernel_rfl) rfl) (fun n _=>names rs n) (tb+1) (fun x Z v hv W hg=>Fg X bw (by rw[O];exact bN.2 (by omega)) G hl hg x.1 v)).mono ?_;rintro e y' ⟨rfl,dx,f1,f2,K⟩;refine⟨rfl,dx,⟨⟨⟨l1,v1,F.ways K (by simp) _ _ f1 (F.lost.kp K (by simp) (by simp))⟩,by rw[K.ext _ V.lt,U],aO V K (by rw[U];simp;omega),g4.trans (K.mono fun x Z=>fB _ (bN.2 (by simp at Z;omega))),?_⟩,X.kp G K fun t ht=>.inl (bN.2 (by simp at ht;omega))⟩,f2⟩;have:=KC H (fun x=> !names rs x.1) (fun _=>true);rw[sQ.2 (fun _ _=>rfl)]at this;exact this
theorem Rn{M':Side}{I:Own}{y:World}(h:JL oZ s w S bw bl bi tb a c rs q Ds M' I [] y)(G:s+100<=tb)(hl:rs.length<=1000000):
  Calls prog 191 #[.map (some bl),.func (.func 337) #[] #[(ay (w.heap.size+1) 0)]] y fun e y'=>e=.returned (.map (some y.heap.size))/\∃dx,JL oZ s w S bw bl bi tb a c rs q Ds {M' with aF:=M'.aF,lost:=M'.lost.filter fun x=> !names rs x.1} dx [] y'/\oq dx (tb+1) (s+44) y' y.heap.size (M'.lost.filter fun x=>names rs x.1):=by
 obtain⟨⟨⟨l1,v1,F⟩,U,V,g4,H⟩,X⟩:=h;have F:bT I s y S l1 M' bw bl bi v1:=F;have H:Bd M':=H
 have O:I bl=s+43:=by obtain⟨f,f1,_⟩:=F.lost;exact f1
 refine(F.lost.take (by omega) (by have:=H.ll;omega) 337 #[] #[(ay (w.heap.size+1) 0)] (enters_of func337 (by kernel_rfl) rfl) (fun n _=>names rs n) (tb+1) (fun x Z v hv W hg=>Fg X bl (by rw[O];exact bN.2 (by omega)) G hl hg x.1 v)).mono ?_;rintro e y' ⟨rfl,dx,f1,f2,K⟩;refine⟨rfl,dx,⟨⟨⟨l1,v1,F.ways K (by simp) _ _ (F.way.kp K (by simp) (by simp)) f1⟩,by rw[K.ext _ V.lt,U],aO V K (by rw[U];simp;omega),g4.trans (K.mono fun x Z=>fB _ (bN.2 (by simp at Z;omega))),?_⟩,X.kp G K fun t ht=>.inl (bN.2 (by simp at ht;omega))⟩,f2⟩;have:=KC H (fun _=>true) (fun x=> !names rs x.1);rw[sQ.2 (fun _ _=>rfl)]at this;exact this
end

