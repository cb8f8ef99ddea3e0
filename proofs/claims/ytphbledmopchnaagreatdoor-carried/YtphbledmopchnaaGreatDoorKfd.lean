import Derived.Test.YtphbledmopchnaaGreatDoorKeb
import Derived.Test.YtphbledmopchnaaGreatDoorKfc
import Derived.Shelf.AbstractIn
import Derived.Stop.RegionWithIn
open List renaming mem_filter->jK,mem_append_right->mR,foldl_append->nI,length_filter_le->tL,filter_eq_self->tT,mem_append_left->uj,any_eq_true->CK
set_option maxHeartbeats 4000000
set_option maxRecDepth 100000
namespace Go.Proofs.YtphbledmopchnaaGreatDoor.Sd
open Go.RowKit Go.Lib Mm Tryz
section
attribute [local go_sem] Oper.semAt_some
theorem Af{F:Fence}{n:Nat}{c:Code}{K:Act->World->Prop}{H:Exit->Act->World->Prop}{a:Act}{w:World}(h:c.wpIn F n prog (Exit.then K fun _ _ _=>False) a w):c.wpIn F n prog (Exit.then K H) a w:=
 wpIn_mono h fun e I w' G=>by
  cases e with
  |normal=>exact G
  |ret=>exact G.elim
  |exit i=>exact G.elim
  |goto i=>exact G.elim
  |panic c=>exact G.elim
  |outgrown=>exact G.elim
theorem wpIn_cut{F:Fence}{n:Nat}{c:Code}{K:Act->World->Prop}{I:Exit->Act->World->Prop}{a:Act}{w:World}(act:Act)(R:World->Prop)(h:c.wpIn F n prog (Exit.then (fun H w'=>H=act/\R w') fun _ _ _=>False) a w)(U:∀w',R w'->K act w'):c.wpIn F n prog (Exit.then K I) a w:=
 wpIn_mono h fun e H w' G=>by
  cases e with
  |normal=>obtain⟨rfl,O⟩:=G;exact U _ O
  |ret=>exact G.elim
  |exit i=>exact G.elim
  |goto i=>exact G.elim
  |panic c=>exact G.elim
  |outgrown=>exact G.elim
def LS(own:Own)(s:Nat)(w:World)(S bw bl bi tb:Nat)(M':Side)(y:World):Prop:=
 ∃F l1 G,bM F s y S l1 M' bw bl bi G/\F w.heap.size=tb/\ak y w.heap.size 128 [.pointer (some ⟨S,0,none⟩)]/\Kp (T0 s) own F w y
def LB(own:Own)(s:Nat)(w:World)(S bw bl bi tb:Nat)(v:Value)(M':Side)(y:World):Prop:=
 ∃F l1 G,bM F s y S l1 M' bw bl bi G/\F w.heap.size=tb/\ak y w.heap.size 128 [.pointer (some ⟨S,0,none⟩)]/\Kp (T0 s) own F w y/\GT F tb 294 1 y v 25 (Rl S 8)
section
variable {own:Own} {s:Nat} {w:World} {S bw bl bi tb:Nat} {M':Side} {y:World}
theorem LS.cells(h:LS own s w S bw bl bi tb M' y):y.cell? ⟨w.heap.size,0,none⟩=some (.pointer (some ⟨S,0,none⟩))/\y.cell? ⟨S,230,none⟩=some (.map (some bw))/\y.cell? ⟨S,231,none⟩=some (.map (some bl)):=by
 obtain⟨o,l1,G,h1,_,F,_⟩:=h;exact⟨F.cell 0,by rw[h1.blk.cell];exact h1.cells.j6,by rw[h1.blk.cell];exact h1.cells.mY⟩
theorem LB.ls{v:Value}(h:LB own s w S bw bl bi tb v M' y):LS own s w S bw bl bi tb M' y:=by
 obtain⟨o,l1,I,h1,F,G,H,_⟩:=h;exact⟨o,l1,I,h1,F,G,H⟩
theorem TK(h:LS own s w S bw bl bi tb M' y)(h0:s+100<=tb)(H:∀x∈M'.lost,x.1+64<18446744073709551616):
  Calls prog 194 #[.map (some bl),.func (.func 195) #[] #[.pointer (some ⟨w.heap.size,0,none⟩)]] y fun e y'=>e=.returned (.tuple #[])/\LS own s w S bw bl bi tb {M' with ay:=M'.ay,lost:=M'.lost.filter fun x=> !decide (x.1+64<M'.next)} y':=by
 obtain⟨o,l1,v1,h1,F,G,X⟩:=h
 have O:S≠bl:=fun e=>by
  obtain⟨f,f1,_⟩:=h1.lost;have:=h1.ow;rw[e,f1]at this;omega
 have I:w.heap.size≠bl:=fun e=>by
  obtain⟨f,f1,_⟩:=h1.lost;rw[e,f1]at F;omega
 refine(h1.lost.drop (by omega) 195 #[] #[.pointer (some ⟨w.heap.size,0,none⟩)] (enters_of func195 (by kernel_rfl) rfl) (fun n _=>decide (n+64<M'.next)) (fun x U v hv W V=>?_)).mono ?_
 ·have Z:W.heap[S]?=y.heap[S]?:=V.block S h1.blk.lt (by simp;exact O);have hX:W.heap[w.heap.size]?=y.heap[w.heap.size]?:=V.block _ G.lt (by simp;exact I);exact WM S w.heap.size x.1 M'.next v W ((G.of_heap hX).cell 0) (by rw[(h1.blk.of_heap Z).cell];exact h1.cells.c229) (H x U)
 ·rintro e y' ⟨rfl,f1,k1⟩;exact⟨rfl,o,l1,v1,h1.ways k1 (by simp) _ _ (h1.way.kp k1 (by simp) (by simp)) f1,F,aK G k1 (by rw[F];simp;omega),X.trans (k1.mono fun x U=>bG.2 (by simp at U;omega))⟩
theorem Pj(h:LS own s w S bw bl bi tb M' y):Calls prog 196 #[.pointer (some ⟨S,0,none⟩)] y fun e y'=>∃a c,e=.returned (.slice a 25 c)/\LB own s w S bw bl bi tb (.slice a 25 c) M' y':=by
 obtain⟨o,l1,Z,h1,O,I,U⟩:=h;refine(Pd S y).mono ?_;rintro e y' ⟨v,rfl,g,V,hb⟩;obtain⟨a,c,rfl,_⟩:=g.shape
 obtain⟨G,F⟩:∃G:Own,G=fun x=>if x<y.heap.size then o x else tb:=⟨_,rfl⟩
 have K:Kp [] o G y y':=⟨hb.os,hb.tape,hb.output,hb.size,fun x H _=>hb.block x H,fun x H=>by rw[F];exact if_pos H⟩;exact⟨a,c,rfl,G,l1,Z,h1.kp K (by simp),by rw[K.ext _ I.lt,O],aK I K (by simp),U.trans (K.mono (by simp)),GT.RZ g fun k X=>by rw[F];exact if_neg (by have:=V k X;omega)⟩
theorem TL{v:Value}{j:Nat}(h:LB own s w S bw bl bi tb v (M'.nX j) y)(X:j<25)(Z:s+100<=tb)(V:∀k,(M'.out k).came.rs.length<=1000000):
  Calls prog (lN j) #[lP S j] y fun e y'=>e=.returned (.tuple #[])/\LB own s w S bw bl bi tb v (M'.nX (j+1)) y':=by
 obtain⟨o,l1,v1,h1,F,G,O,U⟩:=h;refine(Pg y h1 j X (fun k=>by rw[xP];exact V k)).mono ?_;rintro e y' ⟨rfl,o2,l2,v2,I,K⟩
 have H:tb∉T0 s:=fun e=>by have:=bG.1 e;omega
 exact⟨rfl,o2,l2,v2,I,by rw[K.ext _ G.lt,F],aK G K (by rw[F];exact H),O.trans K,U.kp K H⟩
end

def JA(own:Own)(s:Nat)(w:World)(S bw bl bi tb:Nat)(g:Side->Fr->Side)(F:Side)(own':Own)(pre:List Fr)(W:World):Prop:=
 (∃l1 G,bM own' s W S l1 (pre.foldl g F) bw bl bi G)/\own' w.heap.size=tb/\ak W w.heap.size 128 [.pointer (some ⟨S,0,none⟩)]/\Kp ([tb+3,tb+2]++T0 s) own own' w W/\Bd (pre.foldl g F)
theorem JA.kp{own:Own}{s:Nat}{w:World}{S bw bl bi tb:Nat}{g:Side->Fr->Side}{F:Side}(X:s+100<=tb)(H aL:Own)(pre:List Fr)(W G:World)(h:JA own s w S bw bl bi tb g F H pre W)(K:Kp [tb+3,tb+2] H aL W G):JA own s w S bw bl bi tb g F aL pre G:=by
 obtain⟨⟨l1,v1,h1⟩,I,O,U,V⟩:=h;exact⟨⟨l1,v1,h1.kp K (fun x a b e=>by simp at e;omega)⟩,by rw[K.ext _ O.lt,I],aK O K (by rw[I];simp),U.trans (K.mono fun x Z=>uj _ Z),V⟩
theorem Eb(kd:Int):∀args w,(callFunc (rU kd) args).run prog w=.ok (.enter (rU kd) args) w:=by
 unfold rU;split
 ·exact enters_of func319 (by kernel_rfl) rfl
 ·split
  ·exact enters_of func342 (by kernel_rfl) rfl
  ·exact enters_of func311 (by kernel_rfl) rfl
theorem ig{L n:Nat}{f:FuncId}{args:Array Value}{w:World}{R:Ending->World->Prop}(h:Calls prog f args w R):CallsIn (Fence.wide.inRound L) n prog f args w R:=callsIn_wide.2 h
theorem Ec(j:Nat):∀args w,(callFunc (lN j) args).run prog w=.ok (.enter (lN j) args) w:=by
 unfold lN;split
 ·exact enters_of func392 (by kernel_rfl) rfl
 ·split
  ·exact enters_of func395 (by kernel_rfl) rfl
  ·exact enters_of func397 (by kernel_rfl) rfl
theorem TM(own:Own)(s:Nat)(S:Nat)(l:List Value)(M:Side)(bw bl bi:Nat)(vc:Value)(w:World)(h:bM own s w S l M bw bl bi vc)(hb:Bd M)(zp:M.tick<18446744073709551616)(ys:M.next<=aU):
  Calls prog 154 #[.pointer (some ⟨S,0,none⟩)] w fun e w'=>e=.returned (.tuple #[])/\∃M1,M.je M1/\fQ s own w S bw bl bi M1 w':=by
 obtain⟨tb,O,I⟩:=oH own (s+100) w.heap.size;have zz:=h.s0;obtain⟨Z,ho⟩:∃Z,Z=w.alloc (.cells #[.pointer (some ⟨S,0,none⟩)] 128):=⟨_,rfl⟩
 have h7:Below w.heap.size w Z:=by rw[ho];exact(Below.refl _ w).alloc (Nat.le_refl _) _
 have yv:Z.heap.size=w.heap.size+1:=by rw[ho];simp
 obtain⟨aI,xr⟩:∃aI:Own,aI=fun x=>if x<w.heap.size then own x else tb:=⟨_,rfl⟩
 have K0:Kp [] own aI w Z:=⟨h7.os,h7.tape,h7.output,h7.size,fun x F _=>h7.block x F,fun x F=>by rw[xr];exact if_pos F⟩;have V:bM aI s Z S l M bw bl bi vc:=h.kp K0 (by simp)
 have G:ak Z w.heap.size 128 [.pointer (some ⟨S,0,none⟩)]:=by rw[ho];exact ak.new w 128 _
 have xQ:aI w.heap.size=tb:=by rw[xr];exact if_neg (Nat.lt_irrefl _)
 have zm:S≠bw:=fun e=>by
  obtain⟨f,f1,_⟩:=V.way;have:=V.ow;rw[e,f1]at this;omega
 have HT:Hid (∀q,Calls prog 191 #[.map (some bw),.func (.func 192) #[.pointer (some ⟨S,0,none⟩)] #[]] (Z.drewN q) fun e w'=>e=.returned (.map (some (w.heap.size+1)))/\Hid (∃H,nk H (s+42) (s+44) w' bw (M.ay.filter fun x=> !M.dF x)/\nk H (tb+1) (s+44) w' (w.heap.size+1) (M.ay.filter M.dF)/\Kp [s+42] aI H Z w')):=fun q=>by
  have Hq:bM aI s (Z.drewN q) S l M bw bl bi vc:=V.below ⟨rfl,rfl,rfl,Nat.le_refl _,fun _ _=>rfl⟩;refine(Hq.way.take (by omega) (by have:=hb.wl;omega) 192 #[.pointer (some ⟨S,0,none⟩)] #[] (enters_of func192 (by kernel_rfl) rfl) (fun n t=>decide (6<=M.tick-t)||decide (n+3<M.named)) (tb+1) (fun x F v hv W hg=>?_)).mono ?_
  ·have yn:W.heap[S]?=(Z.drewN q).heap[S]?:=hg.block S Hq.blk.lt (by simp;exact fun e=>zm e)
   have c3:W.cell? ⟨S,3,none⟩=some (.int .u64 M.tick):=by rw[(Hq.blk.of_heap yn).cell];exact Hq.cells.c3
   have c232:W.cell? ⟨S,232,none⟩=some (.int .u64 M.named):=by rw[(Hq.blk.of_heap yn).cell];exact Hq.cells.c232
   have zr:=hb.tk x F;have wa:=(hb.wy x F).1;have:=L6 S M.tick M.named x.1 v W c3 c232 (by rw[hv];exact zr) zp (by unfold aU at ys;omega);rw[hv]at this;exact this
  ·rintro e w' ⟨he,H,h1,h2,h3⟩;have e9:(Z.drewN q).heap.size=w.heap.size+1:=yv;rw[e9]at he h2;exact⟨he,H,h1,h2,⟨h3.os,h3.tape,h3.output,h3.size,h3.blk,h3.ext⟩⟩
 have cw:Z.cell? ⟨S,230,none⟩=some (.map (some bw)):=by rw[V.blk.cell];exact V.cells.j6
 have cb:Z.cell? ⟨w.heap.size,0,none⟩=some (.pointer (some ⟨S,0,none⟩)):=G.cell 0;have NY:=V.blk.lt
 have zy:∀(fn:Fn) (first cap:Array Value) (w:World),(Instr.makeFunc fn first cap).run prog w=.ok (.func fn first cap) w:=fun _ _ _ _=>rfl
 have kJ:=hid (And.intro h (And.intro hb (And.intro V (And.intro G (And.intro xQ (And.intro K0 (And.intro I O)))))));clear h hb V G xQ K0 I O xr h7;refine(callsIn_wide (n:=10)).1 ?_;refine callsIn_of_wp_marks func154 rfl trivial ?_ rfl;simp only[ntmps154,List.size_toArray,List.length_cons,List.length_nil,Nat.reduceAdd,Nat.reduceSub,Array.replicate_succ,Array.replicate_zero,List.push_toArray,List.append_toArray,List.nil_append,List.cons_append]
 gi_wp2
 rw[<-ho];clear ho
 refine wpIn_cut {tmps:=#[.pointer (some ⟨S,0,none⟩),.pointer (some ⟨w.heap.size,0,none⟩),.map (some (w.heap.size+1)),undef,undef,undef,.pointer (some ⟨S,0,none⟩),.pointer (some ⟨S,0,none⟩),.pointer (some ⟨S,230,none⟩),.map (some bw),.pointer (some ⟨S,0,none⟩),.func (.func 192) #[.pointer (some ⟨S,0,none⟩)] #[],.map (some (w.heap.size+1)),undef,undef,undef,undef,undef,undef,undef,undef,undef,undef,undef,undef,undef,undef,undef,undef,undef,undef,undef,undef,undef,undef,undef,undef,undef,undef,undef,undef,undef,undef,undef,undef,undef,undef,undef,undef],defers:=[]}
  (fun w1=>Hid (∃H,nk H (s+42) (s+44) w1 bw (M.ay.filter fun x=> !M.dF x)/\nk H (tb+1) (s+44) w1 (w.heap.size+1) (M.ay.filter M.dF)/\Kp [s+42] aI H Z w1)) ?_ (fun w1 H1=>?_)
 ·gi_region_with (refine⟨trivial,?_⟩;gi_at_call 191;refine(callsIn_wide.2 (HT.out _)).mono ?_;rintro e w1 ⟨rfl,H1⟩)
  all_goals exact⟨rfl,H1⟩
 obtain⟨A,hA⟩:∃A,A=M.ay.filter fun x=> !M.dF x:=⟨_,rfl⟩
 obtain⟨B,hB⟩:∃B,B=M.ay.filter M.dF:=⟨_,rfl⟩;rw[<-hA,<-hB]at H1;have I9:=hid (And.intro hA hB);clear hA hB HT
 have H2:Hid (∃H,bM H s w1 S l {M with ay:=A,lost:=M.lost} bw bl bi vc/\nk H (tb+1) (s+44) w1 (w.heap.size+1) B/\H w.heap.size=tb/\ak w1 w.heap.size 128 [.pointer (some ⟨S,0,none⟩)]/\Kp (T0 s) own H w w1):=by
  obtain⟨H,g1,g2,k1⟩:=H1.out;obtain⟨h,hb,V,G,xQ,K0,I,O⟩:=kJ.out;refine⟨H,V.ways k1 (by simp) A M.lost g1 (V.lost.kp k1 (by simp) (by simp)),g2,by rw[k1.ext _ G.lt,xQ],aK G k1 (by rw[xQ];simp;omega),(K0.mono (by simp)).trans (k1.mono fun x F=>bG.2 (by simp at F;omega))⟩
 have yq:∀ty,(Builtin.len_ #[203] ty #[.map (some (w.heap.size+1))]).run prog w1=.ok (.int .i64 B.length) w1:=by
  obtain⟨H,_,⟨f,_,m,_⟩,_⟩:=H2.out;have:=m.len;rw[List.length_map]at this;exact this
 clear H1 cw cb
 cases h0:B with
 |nil=>
  rw[h0]at yq;have hw:=hid h0;clear h0
  have HE:Hid (∃M1,M.je M1/\fQ s own w S bw bl bi M1 w1):=by
   obtain⟨H,h1,h2,h3,h4,h5⟩:=H2.out
   have yr:M.ay.any M.dF=false:=by
    rw[Bool.eq_false_iff];intro he;obtain⟨x,F,hl⟩:=CK.1 he
    have:x∈B:=by rw[I9.out.2];exact jK.2 ⟨F,hl⟩
    rw[hw.out]at this;cases this
   refine⟨M,by unfold Side.je;rw[if_neg (by rw[yr];simp)],H,l,vc,?_,h5⟩
   have zb:A=M.ay:=by
    rw[I9.out.1]
    refine tT.2 fun x F=>?_
    have:=List.any_eq_false.1 yr x F;simpa using this
   rw[zb]at h1;exact h1
  gi_wp2
  exact⟨_,results_none rfl _ _ _,rfl,HE.out⟩
 |cons b0 Bt=>
  have zt:¬(B.length:Int)=0:=by rw[h0];simp;omega
  have hw:=hid h0;clear h0
  have HM:Hid (s+100<=tb/\(∀x∈M.lost++B,x.1+64<18446744073709551616)/\∀k,(M.out k).came.rs.length<=1000000):=by
   obtain⟨h,hb,V,G,xQ,K0,I,O⟩:=kJ.out;refine⟨O,fun x F=>?_,fun k=>by have:=(hb.o k).c.len;omega⟩
   have:x.1<M.next:=by
    rcases List.mem_append.1 F with F|F
    ·exact(hb.ls x F).1
    ·rw[I9.out.2]at F;exact(hb.wy x (jK.1 F).1).1
   unfold aU at ys;omega
  obtain⟨z4,_,z7⟩:w1.cell? ⟨w.heap.size,0,none⟩=some (.pointer (some ⟨S,0,none⟩))/\w1.cell? ⟨S,230,none⟩=some (.map (some bw))/\w1.cell? ⟨S,231,none⟩=some (.map (some bl)):=by
   obtain⟨H,h1,_,h3,h4,h5⟩:=H2.out;exact LS.cells (own:=own) (s:=s) (tb:=tb) (bi:=bi) (M':={M with ay:=A,lost:=M.lost}) ⟨H,l,vc,h1,h3,h4,h5⟩
  have HC:Hid (Calls prog 193 #[.map (some bl),.map (some (w.heap.size+1))] w1 fun e X=>e=.returned (.tuple #[])/\LS own s w S bw bl bi tb {M with ay:=A,lost:=M.lost++B} X):=by
   obtain⟨H,h1,h2,h3,h4,h5⟩:=H2.out;obtain⟨h,hb,V,G,xQ,K0,I,O⟩:=kJ.out
   have zw:B.length<=12:=by rw[I9.out.2];exact Nat.le_trans (tL _ _) hb.wl
   refine(h1.lost.copy h2 (by omega) (by omega) (by have:=hb.ll;show B.length+M.lost.length<100000;omega) (fun x F y hy=>?_)).mono ?_
   ·rw[I9.out.2]at F;exact Ne.symm ((List.pairwise_append.1 hb.ky).2.2 y hy x (jK.1 F).1)
   ·rintro e X ⟨rfl,f1,k1⟩;exact⟨rfl,H,l,vc,h1.ways k1 (by simp) A (M.lost++B) (h1.way.kp k1 (by simp) (by simp)) f1,h3,aK h4 k1 (by rw[h3];simp;omega),h5.trans (k1.mono fun x F=>bG.2 (by simp at F;omega))⟩
  obtain⟨M3,xm⟩:∃M3,M3={M with ay:=A,lost:=(M.lost++B).filter fun x=> !decide (x.1+64<M.next)}:=⟨_,rfl⟩
  have HD:Hid (∀X,LS own s w S bw bl bi tb {M with ay:=A,lost:=M.lost++B} X->Calls prog 194 #[.map (some bl),.func (.func 195) #[] #[.pointer (some ⟨w.heap.size,0,none⟩)]] X fun e w3=>e=.returned (.tuple #[])/\LS own s w S bw bl bi tb M3 w3):=fun X h2=>by
   rw[xm];exact TK h2 HM.out.1 HM.out.2.1
  have hr:=hid xm;clear xm
  gi_wp2_with (first
   |(refine⟨trivial,?_⟩;gi_at_call 193;refine(callsIn_wide.2 HC.out).mono ?_;rintro e X ⟨rfl,xj⟩;obtain⟨J3,_,z8⟩:=xj.cells;have xy:=hid xj;clear xj)
   |(refine⟨trivial,?_⟩;gi_at_call 194;refine(callsIn_wide.2 (HD.out _ xy.out)).mono ?_;rintro e w3 ⟨rfl,xl⟩;obtain⟨z5,_,_⟩:=xl.cells;have xz:=hid xl;clear xl)
   |(refine⟨trivial,?_⟩;gi_at_call 196;refine(callsIn_wide.2 (Pj xz.out)).mono ?_;rintro e w4 ⟨a4,c4,rfl,yk⟩;have ya:=hid yk;clear yk))
  have z0:Hid (∀k,(M3.out k).came.rs.length<=1000000):=by rw[hr.out];exact HM.out.2.2
  have yd:Hid (LB own s w S bw bl bi tb (.slice a4 25 c4) (M3.nX 0) w4):=ya;clear ya xy xz HC HD z4 z7 J3 z8 z5 yq
  gi_loopw [31] (fun xv wr=>∃j:Nat,j<=25/\xv=.int .i64 j/\Hid (LB own s w S bw bl bi tb (.slice a4 25 c4) (M3.nX j) wr)) (fun xv _=>25-(intOf xv).toNat)
  case atStart=>exact⟨0,by omega,rfl,yd⟩
  case round=>
   obtain⟨j,hj,rfl,ha⟩:=hrel;clear yd
   by_cases zj:j<25
   ·have zs:(j:Int)<25:=by omega
    have xp:∃g,a4=some ⟨g,0,none⟩/\wr.cell? ⟨g,j,none⟩=some (.iface (lT j) (lP S j)):=by
     obtain⟨o,l1,v1,h1,h2,h3,h4,h5⟩:=ha.out;obtain⟨g,hg,_,_,hc,_⟩:=h5.cell j _ (Pf S 8 j (by omega));exact⟨g,hg,hc⟩
    obtain⟨g,hg,hc⟩:=xp;subst hg;have zl:=TJ S j;have zf:=Ec j;have za:=hid (TL ha.out zj HM.out.1 z0.out);generalize lT j=tj at *;generalize lP S j=pj at *;generalize lN j=nj at *
    gi_wp2_with (refine⟨trivial,?_⟩;gi_at_fn nj;refine(callsIn_wide.2 za.out).mono ?_;rintro e w5 ⟨rfl,ym⟩;have z1:=hid ym;clear ym)
    go_roundw
    case rel=>exact⟨j+1,by omega,by simp,z1⟩
    case measure=>simp[intOf];omega
   ·obtain rfl:j=25:=by omega
    obtain⟨z6,z9,_⟩:=ha.out.ls.cells
    have z2:Hid (M3.nX 25=M.rQ):=by
     obtain⟨h,hb,V,G,xQ,K0,I,O⟩:=kJ.out;have e:=LZ M3 (by rw[hr.out];exact V.lo) (by rw[hr.out];exact V.li);show M3.nX 25=M.rQ;rw[e,hr.out,I9.out.1,I9.out.2];rfl
    gi_wp2_with (refine⟨trivial,?_⟩;gi_at_call 197;refine(callsIn_wide.2 (tZ bw wr)).mono ?_;rintro e w7 ⟨rfl,yx⟩;have xa:=hid yx;clear yx)
    have HJ:Hid (∃L9,JA own s w S bw bl bi tb Side.fD M.rQ L9 [] w7/\nk L9 (s+42) (s+44) w7 bw A/\ak w7 wr.heap.size 203 [.map (some bw)]):=by
     obtain⟨o,l1,v1,h1,h2,h3,h4,h5⟩:=ha.out;obtain⟨h,hb,V,G,xQ,K0,I,O⟩:=kJ.out;rw[z2.out]at h1
     have K:Kp [] o o wr w7:=by rw[xa.out];exact Kp.alloc _ _ _ _
     have ye:=h1.kp K (by simp);refine⟨o,⟨⟨l1,v1,ye⟩,h2,aK h3 K (by simp),(h4.trans (K.mono (by simp))).mono fun x F=>mR _ F,DZ hb⟩,?_,by rw[xa.out];exact ak.new wr 203 _⟩;have:=ye.way;rw[I9.out.1];exact this
    clear ha z6 z9 xa
    have xx:Hid (∀x∈A,x.2.frames.length<=1000000/\∀f∈x.2.frames,MP f):=by
     obtain⟨h,hb,V,G,xQ,K0,I,O⟩:=kJ.out;intro x F;rw[I9.out.1]at F;have:=hb.wy x (jK.1 F).1;exact⟨by have:=this.2.1;omega,this.2.2⟩
    obtain⟨L9,xi,xd,xn⟩:=HJ.out
    have h9:∀x,s+41<=x->x∉T1 s:=fun x F e=>by have:=qx.1 e;omega
    refine mq (by omega) wr.heap.size bw (s+42) (s+44) (tb+2) (tb+3) (tb+4) (T1 s) A L9 (JA own s w S bw bl bi tb Side.fD M.rQ) rfl xn xd (fun x F=>(xx.out x F).1) (h9 _ (by omega)) (h9 _ (by omega)) (h9 _ (by have:=HM.out.1;omega)) (h9 _ (by have:=HM.out.1;omega)) (h9 _ (by have:=HM.out.1;omega)) (by have:=HM.out.1;omega) (JA.kp HM.out.1) xi ?_ ?_
    ·intro L jX pre f W zu Vv hf;obtain⟨x,F,zg⟩:=hf;have BQ:=(xx.out x F).2 f zg;obtain⟨k,hk⟩:∃k:Nat,f.stream=(k:Int):=⟨f.stream.toNat,by have:=BQ.st;omega⟩
     have sK:k<8:=by have:=BQ.st;omega
     have zv:w.heap.size<W.heap.size:=Vv.2.2.1.lt;have yp:=GX S k f.kind
     have yz:Hid (∀y,Calls prog 198 #[.pointer (some ⟨S,0,none⟩),bJ f (.slice none 0 0)] y fun e y'=>e=.returned (.iface (MV f.kind) (yP S k f.kind))/\Below y.heap.size y y'):=fun y=>by
      rw[<-yp];exact tY S k sK f hk y
     have Ri:Hid (∀jY y,JA own s w S bw bl bi tb Side.fD M.rQ jY pre y->Calls prog (rU f.kind) #[yP S k f.kind,bJ f (.slice none 0 0)] y fun e y'=>e=.returned (.tuple #[])/\∃own',JA own s w S bw bl bi tb Side.fD M.rQ own' (pre++[f]) y'/\Kp (T1 s) jY own' y y'):=fun jY y hy=>by
      obtain⟨⟨l1,v1,g1⟩,g2,g3,g4,g5⟩:=hy;refine(O_ y g1 f k sK hk (.slice none 0 0) (fun h4=>⟨(g5.o k).a,BQ.dt h4⟩)).mono ?_;rintro e y' ⟨rfl,o2,l2,v2,a1,a2⟩;have hn:tb∉T1 s:=h9 _ (by have:=HM.out.1;omega);refine⟨rfl,o2,⟨⟨l2,v2,by rw[nI];exact a1⟩,by rw[a2.ext _ g3.lt,g2],aK g3 a2 (by rw[g2];exact hn),g4.trans (a2.mono fun x F=>mR _ (O8 F)),by rw[nI];exact DW g5 f BQ⟩,a2⟩
     have zl:=TG S k f.kind;have zf:=Eb f.kind;obtain⟨Wa,h6⟩:∃Wa,Wa=W.alloc (.cells (bX f (.slice none 0 0)).toArray 65):=⟨_,rfl⟩
     have xt:ak Wa W.heap.size 65 (bX f (.slice none 0 0)):=by rw[h6];exact ak.new W 65 _
     have Ka:Kp [] jX jX W Wa:=by rw[h6];exact Kp.alloc _ _ _ _
     have w8:Wa.heap.size=W.heap.size+1:=by rw[h6];simp
     generalize MV f.kind=kT at *;generalize yP S k f.kind=kP at *;generalize rU f.kind=kN at *;clear yp hk;unfold bJ at *;unfold bX at h6 xt
     gi_wp2
     rw[<-h6];clear h6;refine⟨Ka,fun X o2 s2 xe=>?_⟩;have hu:=xt.of_heap (o2 W.heap.size (by omega));have J3:X.cell? ⟨w.heap.size,0,none⟩=some (.pointer (some ⟨S,0,none⟩)):=xe.2.2.1.cell 0
     have Pk:Hid (∀y,Below X.heap.size X y->Calls prog kN #[kP,.agg #[.int .i64 f.kind,.int .i64 f.stream,.int .u64 f.offset,.int .u64 f.reliable,.int .u64 f.limit,.bool f.fin,.int .u64 f.id,.int .u64 f.deadline,.string f.data,.slice none 0 0]] y fun e y'=>e=.returned (.tuple #[])/\∃own',JA own s w S bw bl bi tb Side.fD M.rQ own' (pre++[f]) y'/\Kp (T1 s) jX own' X y'):=fun y hy=>by
      have K:Kp [] jX jX X y:=Kp.below hy;refine(Ri.out jX y (JA.kp HM.out.1 _ _ _ _ _ xe (K.mono (by simp)))).mono ?_;rintro e y' ⟨rfl,o',a1,a2⟩;exact⟨rfl,o',a1,(K.mono (by simp)).trans a2⟩
     have z3:=hid hu;have Pm:W.heap.size<X.heap.size:=hu.lt;obtain⟨x0,x1,x2,x3,x4,x5,x6,x7,x8,x9,xf⟩:=aA hu
     have iG:Hid (∀w5,Below X.heap.size X w5->ak w5 W.heap.size 65 [.int .i64 f.kind,.int .i64 f.stream,.int .u64 f.offset,.int .u64 f.reliable,.int .u64 f.limit,.bool f.fin,.int .u64 f.id,.int .u64 f.deadline,.string f.data,.slice none 0 0]):=fun w5 h5=>z3.out.of_heap (h5.block _ Pm)
     clear hu xt xe Vv o2 Ri Ka xi xd xn HJ
     gi_wp2
     gi_region_with (first|(refine⟨trivial,?_⟩;gi_at_call 198;refine(ig (yz.out _)).mono ?_;rintro e w5 ⟨rfl,h8⟩;have xo:Below X.heap.size X w5:=⟨h8.os,h8.tape,h8.output,h8.size,h8.block⟩;clear h8;obtain⟨y0,y1,y2,y3,y4,y5,y6,y7,y8,y9,yf⟩:=aA (iG.out w5 xo);have yy:=hid xo;clear xo)|(refine⟨trivial,?_⟩;gi_at_fn kN;refine(ig (Pk.out _ yy.out)).mono ?_;rintro e w6 ⟨rfl,hE⟩;have HE:=hid hE;clear hE))
     all_goals exact⟨rfl,HE.out⟩
    ·intro jY lp W' D hp yi hD oD zc
     have HE:Hid (∃M1,M.je M1/\fQ s own w S bw bl bi M1 (W'.putObj D (.deferred none))):=by
      obtain⟨h,hb,V,G,xQ,K0,I,O⟩:=kJ.out;obtain⟨⟨l1,v1,g1⟩,g2,g3,g4,g5⟩:=yi;have K9:Kp [tb+4] jY jY W' (W'.putObj D (.deferred none)):=⟨rfl,rfl,rfl,by simp,fun k hk hn=>World.putObj_heap_other (fun e=>hn (by rw[e,oD];simp)),fun _ _=>rfl⟩;refine⟨_,?_,jY,l1,v1,g1.kp K9 (fun x a b e=>by simp at e;omega),?_⟩
      ·unfold Side.je
       have:M.ay.any M.dF=true:=by
        have hm:b0∈B:=by rw[hw.out];simp
        rw[I9.out.2]at hm;exact CK.2 ⟨b0,(jK.1 hm).1,(jK.1 hm).2⟩
       rw[if_pos this];exact⟨lp,by rw[<-I9.out.1];exact hp,rfl⟩
      ·refine Kp.less (U:=[tb+4]++[tb+3,tb+2]) ?_ (fun b' zd e=>by have:=I b' zd;simp at e;omega);rw[List.append_assoc];exact(g4.mono fun x F=>mR _ F).trans (K9.mono fun x F=>uj _ F)
     clear yi HJ xi xd xn
     gi_wp2
     refine⟨by simp,.inl ⟨_,_,rfl,run_takeDeferred zc,?_⟩⟩;exact⟨_,results_none rfl _ _ _,rfl,HE.out⟩
end
section
theorem xR(X:Side)(f:Fr):(X.bookC f).ay=X.ay/\(X.bookC f).lost=X.lost:=by
 unfold Side.bookC
 repeat' split
 all_goals exact⟨rfl,rfl⟩
theorem mD:∀(l:List Fr) (X:Side),(l.foldl Side.bookC X).ay=X.ay/\(l.foldl Side.bookC X).lost=X.lost
 |[],_=>⟨rfl,rfl⟩
 |f::t,X=>⟨(mD t _).1.trans (xR X f).1,(mD t _).2.trans (xR X f).2⟩
theorem G5(X:Side)(f:Fr)(a b:List (Nat×lX)):({X with ay:=a,lost:=b}:Side).bookC f={X.bookC f with ay:=a,lost:=b}:=by
 unfold Side.bookC
 repeat' split
 all_goals rfl
theorem xU(a b:List (Nat×lX)):∀(l:List Fr) (X:Side),l.foldl Side.bookC {X with ay:=a,lost:=b}={l.foldl Side.bookC X with ay:=a,lost:=b}
 |[],_=>rfl
 |f::t,X=>by
  show t.foldl Side.bookC (({X with ay:=a,lost:=b}:Side).bookC f)=_;rw[G5,xU a b t];rfl
theorem uS(kd:Int):∀args w,(callFunc (mP kd) args).run prog w=.ok (.enter (mP kd) args) w:=by
 unfold mP;split
 ·exact enters_of func391 (by kernel_rfl) rfl
 ·split
  ·exact enters_of func394 (by kernel_rfl) rfl
  ·exact enters_of func396 (by kernel_rfl) rfl
structure LX (w:World) (s tb bw bl:Nat) (a:Option Addr) (c:Nat) (rs:List (Nat×Nat)) (q:Option Nat) (Ds:List Nat) (own':Own) (W:World):Prop where
 b3:own' (w.heap.size+1)=tb/\ak W (w.heap.size+1) 63 [.slice a rs.length c]
 rg:fq W a rs
 ra:∀x,a=some x->x.block<W.heap.size/\own' x.block∉T0 s/\own' x.block<tb
 bq:∀k,q=some k->own' k=tb/\ak W k 203 [.map (some bw),.map (some bl)]
 ds:∀D∈Ds,w.heap.size<=D/\own' D=tb+4/\W.heap[D]?=some (.deferred (some []))
theorem LX.kp{w:World}{s tb bw bl:Nat}{a:Option Addr}{c:Nat}{rs:List (Nat×Nat)}{q:Option Nat}{Ds:List Nat}{O aL:Own}{W I:World}{T:List Nat}(h:LX w s tb bw bl a c rs q Ds O W)(h4:s+100<=tb)(K:Kp T O aL W I)(G:∀t∈T,t∈T0 s\/tb<t/\t≠tb+4):LX w s tb bw bl a c rs q Ds aL I:=by
 have V:tb∉T:=fun e=>by
  rcases G _ e with e|e
  ·have:=bG.1 e;omega
  ·omega
 have hd:tb+4∉T:=fun e=>by
  rcases G _ e with e|e
  ·have:=bG.1 e;omega
  ·omega
 refine⟨⟨by rw[K.ext _ h.b3.2.lt,h.b3.1],aK h.b3.2 K (by rw[h.b3.1];exact V)⟩,h.rg.of fun x H hl=>K.blk _ hl (fun e=>?_),fun x H=>?_,fun k hk=>?_,fun D Z=>?_⟩
 ·obtain⟨_,F,U⟩:=h.ra x H
  rcases G _ e with e|e
  ·exact F e
  ·omega
 ·obtain⟨h1,F,U⟩:=h.ra x H;exact⟨Nat.lt_of_lt_of_le h1 K.size,by rw[K.ext _ h1];exact F,by rw[K.ext _ h1];exact U⟩
 ·obtain⟨h1,F⟩:=h.bq k hk;exact⟨by rw[K.ext _ F.lt,h1],aK F K (by rw[h1];exact V)⟩
 ·obtain⟨X,h1,F⟩:=h.ds D Z;have hl:=(Array.getElem?_eq_some_iff.1 F).1;exact⟨X,by rw[K.ext _ hl,h1],(K.blk _ hl (by rw[h1];exact hd)).trans F⟩
section
variable {own:Own} {s:Nat} {w:World} {S bw bl bi tb:Nat} {a:Option Addr} {c:Nat} {rs:List (Nat×Nat)} {q:Option Nat} {Ds:List Nat}
def JL(own:Own)(s:Nat)(w:World)(S bw bl bi tb:Nat)(a:Option Addr)(c:Nat)(rs:List (Nat×Nat))(q:Option Nat)(Ds:List Nat)(F:Side)(own':Own)(pre:List Fr)(W:World):Prop:=
 JA own s w S bw bl bi tb Side.bookC F own' pre W/\LX w s tb bw bl a c rs q Ds own' W
theorem JL.kp{G:Side}(F:s+100<=tb)(I aL:Own)(pre:List Fr)(W H:World)(h:JL own s w S bw bl bi tb a c rs q Ds G I pre W)(K:Kp [tb+3,tb+2] I aL W H):JL own s w S bw bl bi tb a c rs q Ds G aL pre H:=
 ⟨JA.kp F _ _ _ _ _ h.1 K,h.2.kp F K fun t ht=>by simp at ht;omega⟩
theorem Jt{O:Side}{X:Own}{pre:List Fr}{y:World}(H:s+100<=tb)(f:Fr)(I:MP f)(k:Nat)(sK:k<8)(hk:f.stream=(k:Int))(h:JL own s w S bw bl bi tb a c rs q Ds O X pre y):
  Calls prog (mP f.kind) #[yP S k f.kind,bJ f (.slice none 0 0)] y fun e y'=>e=.returned (.tuple #[])/\∃own',JL own s w S bw bl bi tb a c rs q Ds O own' (pre++[f]) y'/\Kp (T1 s) X own' y y':=by
 obtain⟨⟨⟨l1,v1,g1⟩,U,V,g4,G⟩,g6⟩:=h;refine(Pb y g1 f k sK hk (.slice none 0 0) (fun h4=>⟨(G.o k).a,(G.o k).c,I.dt h4⟩)).mono ?_;rintro e y' ⟨rfl,o2,l2,v2,Z,F⟩
 have hn:tb∉T1 s:=fun e=>by have:=qx.1 e;omega
 exact⟨rfl,o2,⟨⟨⟨l2,v2,by rw[nI];exact Z⟩,by rw[F.ext _ V.lt,U],aK V F (by rw[U];exact hn),g4.trans (F.mono fun x hx=>mR _ (O8 hx)),by rw[nI];exact DX G f I⟩,g6.kp H F fun t ht=>.inl (O8 ht)⟩,F⟩
theorem Ju{M:Side}(h:Bd M)(p r:Nat×lX->Bool):Bd {M with ay:=M.ay.filter p,lost:=M.lost.filter r}:=
 ⟨h.o,h.i,h.g,h.lm,h.mt,fun x F=>h.wy x (jK.1 F).1,fun x F=>h.ls x (jK.1 F).1,h.ky.sublist (List.filter_sublist.append List.filter_sublist),Nat.le_trans (tL _ _) h.wl,Nat.le_trans (tL _ _) h.ll,h.nm,h.cm,fun x F=>h.tk x (jK.1 F).1⟩
theorem Ed{G:Own}{y W:World}(h:LX w s tb bw bl a c rs q Ds G y)(b:Nat)(hb:G b∈T0 s)(U:s+100<=tb)(hl:rs.length<=1000000)(H:y.grownBy W (some b))(n:Nat)(v:Option Addr×Nat×Nat×Nat):
  Calls prog 337 #[.int .u64 n,pK v,.pointer (some ⟨w.heap.size+1,0,none⟩)] W fun e I=>e=.returned (.bool (names rs n))/\Below W.heap.size W I:=by
 have O:ak W (w.heap.size+1) 63 [.slice a rs.length c]:=h.b3.2.of_heap (H.block _ h.b3.2.lt (by
  simp only[ne_eq,Option.some.injEq];intro e;rw[<-e,h.b3.1]at hb;have:=bG.1 hb
  omega))
 refine Ph (w.heap.size+1) n a rs c v W (O.cell 0) (h.rg.of fun x V F=>H.block _ F (by
  simp only[ne_eq,Option.some.injEq];intro e
  exact(h.ra x V).2.1 (by rw[e];exact hb))) hl
theorem Pn{M':Side}{I:Own}{y:World}(h:JL own s w S bw bl bi tb a c rs q Ds M' I [] y)(G:s+100<=tb)(hl:rs.length<=1000000):
  Calls prog 191 #[.map (some bw),.func (.func 337) #[] #[.pointer (some ⟨w.heap.size+1,0,none⟩)]] y fun e y'=>e=.returned (.map (some y.heap.size))/\∃aL,JL own s w S bw bl bi tb a c rs q Ds {M' with ay:=M'.ay.filter fun x=> !names rs x.1,lost:=M'.lost} aL [] y'/\nk aL (tb+1) (s+44) y' y.heap.size (M'.ay.filter fun x=>names rs x.1):=by
 obtain⟨⟨⟨l1,v1,F⟩,U,V,g4,H⟩,X⟩:=h;have F:bM I s y S l1 M' bw bl bi v1:=F;have H:Bd M':=H
 have O:I bw=s+42:=by obtain⟨f,f1,_⟩:=F.way;exact f1
 refine(F.way.take (by omega) (by have:=H.wl;omega) 337 #[] #[.pointer (some ⟨w.heap.size+1,0,none⟩)] (enters_of func337 (by kernel_rfl) rfl) (fun n _=>names rs n) (tb+1) (fun x Z v hv W hg=>Ed X bw (by rw[O];exact bG.2 (by omega)) G hl hg x.1 v)).mono ?_;rintro e y' ⟨rfl,aL,f1,f2,K⟩;refine⟨rfl,aL,⟨⟨⟨l1,v1,F.ways K (by simp) _ _ f1 (F.lost.kp K (by simp) (by simp))⟩,by rw[K.ext _ V.lt,U],aK V K (by rw[U];simp;omega),g4.trans (K.mono fun x Z=>mR _ (bG.2 (by simp at Z;omega))),?_⟩,X.kp G K fun t ht=>.inl (bG.2 (by simp at ht;omega))⟩,f2⟩;have:=Ju H (fun x=> !names rs x.1) (fun _=>true);rw[tT.2 (fun _ _=>rfl)]at this;exact this
theorem Po{M':Side}{I:Own}{y:World}(h:JL own s w S bw bl bi tb a c rs q Ds M' I [] y)(G:s+100<=tb)(hl:rs.length<=1000000):
  Calls prog 191 #[.map (some bl),.func (.func 337) #[] #[.pointer (some ⟨w.heap.size+1,0,none⟩)]] y fun e y'=>e=.returned (.map (some y.heap.size))/\∃aL,JL own s w S bw bl bi tb a c rs q Ds {M' with ay:=M'.ay,lost:=M'.lost.filter fun x=> !names rs x.1} aL [] y'/\nk aL (tb+1) (s+44) y' y.heap.size (M'.lost.filter fun x=>names rs x.1):=by
 obtain⟨⟨⟨l1,v1,F⟩,U,V,g4,H⟩,X⟩:=h;have F:bM I s y S l1 M' bw bl bi v1:=F;have H:Bd M':=H
 have O:I bl=s+43:=by obtain⟨f,f1,_⟩:=F.lost;exact f1
 refine(F.lost.take (by omega) (by have:=H.ll;omega) 337 #[] #[.pointer (some ⟨w.heap.size+1,0,none⟩)] (enters_of func337 (by kernel_rfl) rfl) (fun n _=>names rs n) (tb+1) (fun x Z v hv W hg=>Ed X bl (by rw[O];exact bG.2 (by omega)) G hl hg x.1 v)).mono ?_;rintro e y' ⟨rfl,aL,f1,f2,K⟩;refine⟨rfl,aL,⟨⟨⟨l1,v1,F.ways K (by simp) _ _ (F.way.kp K (by simp) (by simp)) f1⟩,by rw[K.ext _ V.lt,U],aK V K (by rw[U];simp;omega),g4.trans (K.mono fun x Z=>mR _ (bG.2 (by simp at Z;omega))),?_⟩,X.kp G K fun t ht=>.inl (bG.2 (by simp at ht;omega))⟩,f2⟩;have:=Ju H (fun _=>true) (fun x=> !names rs x.1);rw[tT.2 (fun _ _=>rfl)]at this;exact this
end

end
end Go.Proofs.YtphbledmopchnaaGreatDoor.Sd
