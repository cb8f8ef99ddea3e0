import Derived.Test.YtphbledmopchnaaGreatDoorKhd
open List renaming getElem?_eq_getElem->jK,getD_eq_getElem?_getD->mR,setIfInBounds_toArray->nI,getElem?_cons_succ->tL,getElem?_cons_zero->tT,getElem?_map->CK
open Go.World renaming block_lt_of_cell?->uj,cell?_alloc_lt->wz
set_option maxHeartbeats 4000000
set_option maxRecDepth 100000
namespace Go.Proofs.YtphbledmopchnaaGreatDoor.Sd
open Go.RowKit Go.Lib Mm Tryz
theorem bE.Zz{own:Own}{w:World}{a:Ad}{n:Net}{vb:Value}{E:Nat->Nat->List Value}(h:bE own w a n vb E)(i:Nat)(hi:i<2):w.cell? ⟨a.cb,i,none⟩=some (.int .u64 (n.cnt i:Int))/\w.frozen? ⟨a.cb,i,none⟩=false:=by
 obtain⟨⟨r,hB⟩,_⟩:=h.ct;refine⟨?_,hB.frozen i⟩;rw[hB.cell]
 rcases(show i=0\/i=1 by omega)with rfl|rfl<;>rfl
theorem Io{own:Own}{t:Nat}{w:World}{x:Value}{n:Nat}{l:List Value}(h:GT own t 9 1 w x n l)(j:Nat)(G:j<n)(v:Value)(F:l[j]?=some v):∃g c,x=.slice (some ⟨g,0,none⟩) n c/\w.cell? ⟨g,j,none⟩=some v/\g<w.heap.size/\own g=t:=by
 rcases h with⟨_,e,_⟩|⟨g,cap,cs,rfl,ho,hB,hc1,hc2,hc3,hc4,Et,_⟩
 ·omega
 ·refine⟨g,cap,rfl,?_,hB.lt,ho⟩;rw[hB.cell];rw[<-Et,List.getElem?_take,if_pos (by omega)]at F;exact F
theorem EH.cells{aI own:Own}{w0 w:World}{a:Ad}{n:Net}{E:Nat->Nat->List Value}{i j c:Nat}{Y:List (Nat×List Fr)}{x:Value}(h:EH aI w0 a n E i Y x j c own w)(hi:i<2):
  w.cell? ⟨a.N,4,none⟩=some (.int .u64 n.now)/\w.cell? ⟨a.N,5,none⟩=some (.int .i64 a.aH)/\w.cell? ⟨a.N,9,none⟩=some (.slice (some ⟨a.cb,0,none⟩) 2 a.cc)/\w.cell? ⟨a.cb,i,none⟩=some (.int .u64 ((n.cnt i+c:Nat):Int))/\w.frozen? ⟨a.cb,i,none⟩=false/\TabAt w/\dP w/\2<=w.heap.size:=by
 obtain⟨vb,h1⟩:=h.nt;obtain⟨_,_,_,c4,c5,_,c9⟩:=h1.cells;obtain⟨F,G⟩:=h1.Zz i hi;have e:(nj n i Y j c).cnt i=n.cnt i+c:=if_pos rfl;rw[e]at F;have:=h1.gd.sz;exact⟨c4,c5,c9,F,G,h1.gd.tab,h1.er,by omega⟩
theorem Ux(aI:Own)(w0:World)(a:Ad)(E:Nat->Nat->List Value)(i:Nat)(hi:i<2)(y8:a.aH<=400)(JI:World->Prop)(c0:w0.cell? ⟨a.N,0,none⟩=some (.slice (some ⟨a.xb,0,none⟩) 2 a.xc))(x1:w0.cell? ⟨a.xb,i,none⟩=some (.pointer (some ⟨a.C i,0,none⟩)))(HC:Calls prog 40 #[.pointer (some ⟨a.C i,0,none⟩)] w0 fun e w1=>∃sa nx sc,e=.returned (.slice sa nx sc)/\Hid (∃n Y aF,nx=Y.length/\n.bD.length+Y.length<=100000000000/\n.cnt i+Y.length<4611686018427387904/\(∀j,j<Y.length->FlY a.aH (n.cnt i) j (Y.getD j (0,[])))/\EH aI w0 a n E i Y (.slice sa nx sc) 0 0 aF w1/\∀aL w2,EH aI w0 a n E i Y (.slice sa nx sc) Y.length Y.length aL w2->JI w2)):
  Calls prog 23 #[.pointer (some ⟨a.N,0,none⟩),.int .i64 i] w0 fun e w'=>e=.returned (.bool true)/\JI w':=by
 have Jj:=hid HC;clear HC
 have y5:(i:Int)<2:=by omega
 go_enter func23,ntmps23
 go_wp2_with (go_at_call 40;refine Jj.out.mono ?_;rintro e w1 ⟨sa,nx,sc,rfl,H1⟩)
 clear Jj;obtain⟨n,Y,aF,hn,hb,hc,hY,hI,hF⟩:=H1.out;have HN:=hid hn;have HB:=hid hb;have HK:=hid hc;have HY:=hid hY;have HI:=hid hI;have HF:=hid hF
 have y9:nx<9223372036854775807:=by omega
 clear hn hb hc hY hI hF H1
 go_loopw [6] (fun s6 wr=>∃j:Nat,j<=nx/\s6=.int .i64 j/\Hid (∃aL,EH aI w0 a n E i Y (.slice sa nx sc) j j aL wr)) (fun s6 _=>nx-(intOf s6).toNat)
 case atStart=>exact⟨0,Nat.zero_le _,rfl,aF,HI.out⟩
 case round=>
  obtain⟨j,hj,rfl,HR⟩:=hrel
  by_cases hf:j<nx
  ·have y2:(j:Int)<(nx:Int):=by omega
   obtain⟨aL,hP⟩:=HR.out
   have V:j<Y.length:=by have:=HN.out;omega
   have hy:=HY.out j V;obtain⟨y,ey⟩:∃y,y=Y.getD j (0,[]):=⟨_,rfl⟩
   have X:(Y.map fun y=>sV (aD y.1 y.2))[j]?=some (sV (aD y.1 y.2)):=by
    rw[ey,CK,jK V,mR,jK V];rfl
   rw[<-ey]at hy;have hr:=hP.st;rw[<-HN.out]at hr;obtain⟨g,cg,eg,d0,hg,_⟩:=Io hr j hf _ X;simp only[Value.slice.injEq]at eg;obtain⟨rfl,_,rfl⟩:=eg;obtain⟨D,hD⟩:∃D:ByteArray,D=⟨(aD y.1 y.2).toArray⟩:=⟨_,rfl⟩
   have x4:D.data.toList=aD y.1 y.2:=by rw[hD]
   have xo:D.size=(aD y.1 y.2).length:=by rw[hD];exact(iL _).2
   unfold sV at d0;rw[<-hD]at d0;have hsz:=hy.sz;have xz:=hy.ps;obtain⟨cp,W,xt,y0,y1,h9,x8,xm⟩:=nY wr D (by omega);obtain⟨p4,p5,p9,pc,pf,pT,pE,p2⟩:=hP.cells hi;have x6:=hP.below h9;obtain⟨_,_,_,_,_,qT,qE,q2⟩:=x6.cells hi;have he:=Mw y D wr.heap.size cp W (by rw[x4];exact hy.dec) hy.nm x8 (by omega) (by omega) xm.lt qT qE q2;obtain⟨Z,ha⟩:∃Z,Z=n.cnt i+j:=⟨_,rfl⟩;have ho:=hy.no;rw[<-ha]at ho pc;rw[ho]at he;have HD:=hid he
   have yf:Z<4611686018427387904:=by have:=HK.out;omega
   have xl:=hy.ne;have xj:=hy.ln;have hx:=hid hy.kd;have HP:=hid hP;have Kh:=hid h9
   have y3:D.size<=a.aH:=by omega
   obtain⟨fs,x9⟩:∃fs,fs=y.2:=⟨_,rfl⟩;rw[<-x9]at HD xl xj hx;have hw:=hid ha;have xn:=hid (And.intro ey hD);obtain⟨m,hm⟩:∃m,m=fs.length:=⟨_,rfl⟩;rw[<-hm]at HD xl xj;have HM:=hid hm;clear hm x9 ha ey hD he ho hP x6 h9 x8 xm qT qE q2 pT pE p2 hr X hy HR x4 xo hsz xz HI
   go_wp2_with (go_at_call 24;refine HD.out.mono ?_;rintro e w2 ⟨Uy,O,rfl,h8,I⟩;have h3:=hid h8;have Nw:=hid I;clear h8 I)
   obtain⟨W4,yN⟩:∃W4,W4=w2.alloc (.cells #[.int .u64 Z,.slice Uy m O] 56):=⟨_,rfl⟩;obtain⟨pb,h0⟩:∃pb,pb=w2.heap.size:=⟨_,rfl⟩
   have h6:Below wr.heap.size wr W4:=by
    rw[yN];have h1:=Kh.out;have h2:=h3.out;exact h1.trans ((h2.mono h1.size).alloc (Nat.le_trans h1.size h2.size) _)
   have zB:=HP.out.below h6
   have B5:ak W4 pb 56 [.int .u64 Z,.slice Uy m O]:=by rw[yN,h0];exact ak.new w2 56 _
   have xe:Rp wr.heap.size W4 Uy fs:=by
    rw[yN];have:=Nw.out.below ((Below.refl w2.heap.size w2).alloc (Nat.le_refl _) (.cells #[.int .u64 Z,.slice Uy m O] 56))
    exact fun j hj=>by
     obtain⟨b,off,e,h1,h2⟩:=this j hj;exact⟨b,off,e,Nat.le_trans Kh.out.size h1,h2⟩
   rw[<-yN,<-h0]
   have ya:wr.heap.size<=pb:=by rw[h0];exact Nat.le_trans Kh.out.size h3.out.size
   have xr:a.cb<wr.heap.size:=uj wr ⟨a.cb,i,none⟩ (by rw[pc]);clear yN h0 h3 Nw Kh xt p4 p5 p9 pf pc HD;obtain⟨q4,q5,q9,qc,qf,_,_,_⟩:=zB.cells hi;have d4:W4.cell? ⟨g,j,none⟩=some (.string D):=cell_of d0 (h6.block g hg);have b0:=B5.cell 0;have b1:=B5.cell 1;simp only[tT,tL]at b0 b1;rw[<-hw.out]at qc;have Cu:=hid (And.intro zB (And.intro B5 (And.intro xe h6)));clear zB B5 xe d0
   have g1:¬((a.aH:Int)<(D.size:Int)):=by omega
   have g2:¬((m:Int)=0):=by omega
   go_quiet (fail)
   go_wp2;obtain⟨W5,qD⟩:∃W5,W5=(W4.drewN nq).setCell ⟨a.cb,i,none⟩ (.int .u64 ((Z:Int)+1)):=⟨_,rfl⟩
   have x5:EH aI w0 a n E i Y (.slice (some ⟨g,0,none⟩) nx sc) j (j+1) aL W5:=by
    have:=(Cu.out.1.below (b_ W4 nq)).count hi;rw[<-hw.out]at this;rw[qD];exact this
   have B5:ak W5 pb 56 [.int .u64 Z,.slice Uy m O]:=by
    rw[qD];have h1:ak (W4.drewN nq) pb 56 [.int .u64 Z,.slice Uy m O]:=Cu.out.2.1;exact h1.of_heap (Below.heap_setCell _ _ _ _ (by show pb≠a.cb;omega))
   have xf:Rp wr.heap.size W5 Uy fs:=by
    rw[qD];exact(Cu.out.2.2.1.below (b_ W4 nq)).set _ _ xr
   rw[<-qD];have H5:=hid (And.intro x5 (And.intro B5 xf));clear qD x5 B5 xf Cu q4 q5 q9 qc qf d4 b0 b1 g1 g2
   go_loopw [10] (fun hu hv=>∃k:Nat,k<=m/\hu=.int .i64 k/\Hid (EH aI w0 a n E i Y (.slice (some ⟨g,0,none⟩) nx sc) j (j+1) aL hv/\ak hv pb 56 [.int .u64 Z,.slice Uy m O]/\Rp wr.heap.size hv Uy fs)) (fun hu _=>m-(intOf hu).toNat)
   case atStart=>exact⟨0,Nat.zero_le _,rfl,H5⟩
   case round=>
    obtain⟨k,hk,rfl,x2⟩:=hrel;clear H5;obtain⟨U,B2,I⟩:=x2.out;have b1:=B2.cell 1;simp only[tT,tL]at b1
    by_cases y7:k<m
    ·have Yx:(k:Int)<(m:Int):=by omega
     have xi:k<fs.length:=by have:=HM.out;omega
     obtain⟨b,off,rfl,y4,h8⟩:=I k xi;have y6:=hx.out (fs.getD k dW) (by rw[mR,jK xi];exact List.getElem_mem _);generalize (fs.getD k dW).kind=kd at *
     have g1:¬(kd=7):=by omega
     have HS:=hid (fun q=>(And.intro (U.below (b_ wr q)) (And.intro (show ak (wr.drewN q) pb 56 [.int .u64 Z,.slice (some ⟨b,off,none⟩) m O]from B2) (I.below (b_ wr q)))));clear U B2 I;go_wp2
     go_quiet (fail)
     go_wp2;go_roundw
     case rel=>exact⟨k+1,by omega,by simp,HS.out nq⟩
     case measure=>simp[intOf];omega
    ·obtain rfl:k=m:=by omega
     go_wp2;have Xh:=U.st;rw[<-HN.out]at Xh;obtain⟨ey,eD⟩:=xn.out
     have X:(Y.map fun y=>sV (aD y.1 y.2))[j]?=some (.string D):=by
      rw[CK,jK V,eD,ey,mR,jK V];rfl
     obtain⟨g2,c2,e2,d1,xv,xy⟩:=Io Xh j hf _ X;simp only[Value.slice.injEq,Option.some.injEq,Addr.mk.injEq]at e2;obtain⟨⟨rfl,_,_⟩,_,rfl⟩:=e2
     have xp:a.N≠g:=by
      obtain⟨vb,xx⟩:=U.nt;intro e;have:=xx.net.2;rw[e,xy]at this;exact absurd this (by decide)
     have x7:EH aI w0 a n E i Y (.slice (some ⟨g,0,none⟩) nx sc) j (j+1) aL wr.drew:=U.below ⟨rfl,rfl,rfl,Nat.le_refl _,fun _ _=>rfl⟩;obtain⟨a0,n0,c0,a2,n2,c2,w6,bR,d8,run,⟨v6,d6⟩,f6,h7⟩:=x7.push V HB.out
     have eV:sV (aD (Y.getD j (0,[])).1 (Y.getD j (0,[])).2)=.string D:=by rw[eD,ey];rfl
     rw[eV]at run;obtain⟨i1,xa⟩:∃i1,i1=1-i:=⟨_,rfl⟩
     have xd:(1:Int)-(i:Int)=(i1:Int):=by omega
     rw[<-xa]at run
     have yd:IntKind.i64.wrap (1-(i:Int))=(i1:Int):=by rw[xd];rw[IntKind.wrap_i64];omega
     have p8:wr.cell? ⟨a.N,8,none⟩=some (.slice a0 n0 c0):=d8;have TI:∀ty,(Builtin.append_ #[46,46] ty #[.slice a0 n0 c0,.slice (some ⟨wr.heap.size,0,none⟩) 1 1]).run prog ((wr.alloc (.cells #[.int .i64 i1,.string D] 62)).drew)=.ok (.slice a2 n2 c2) w6:=run
     have h5:(w6.setCell ⟨a.N,8,none⟩ (.slice a2 n2 c2)).cell? ⟨g,j,none⟩=some (.string D):=by
      have Yy:=h7.st;rw[<-HN.out]at Yy;obtain⟨g3,c3,e3,d3,_⟩:=Io Yy j hf _ X;simp only[Value.slice.injEq,Option.some.injEq,Addr.mk.injEq]at e3;obtain⟨⟨rfl,_,_⟩,_,rfl⟩:=e3;exact d3
     have x3:w6.cell? ⟨g,j,none⟩=some (.string D):=by rw[<-h5];exact(World.cell?_setCell_far _ _ _ _ xp).symm
     have x0:=hid h7;have h4:((wr.alloc (.cells #[.int .i64 i1,.string D] 62)).drew).cell? ⟨g,j,none⟩=some (.string D):=(wz _ _ _ xv).trans d1;have ye:(wr.alloc (.cells #[.int .i64 i1,.string D] 62)).cell? ⟨a.N,8,none⟩=some (.slice a0 n0 c0):=(wz _ _ _ (uj wr ⟨a.N,8,none⟩ (by rw[p8]))).trans p8;clear h7 x7 run eV ey eD xa xd X Xh d8 U B2 I b1 x2;refine wp_region_held_drew (S:=fun y=>y.cell? ⟨g,j,none⟩=some (.string D)) (by kernel_rfl) (by simpa using d1) (fun G=>?_);refine wpAnyH_take (i:=0) (oi:=_) (v:=?_) rfl (by kernel_rfl) (by kernel_rfl) (by kernel_rfl) (fun _ _ _ h=>h) (Or.inl ⟨by rfl,?_⟩) (by assumption) ?_
     rotate_left
     ·(intro w F;(try dsimp only at F);go_simp;try with_reducible rfl)
     refine wpAnyH_take (i:=1) (oi:=_) (v:=?_) rfl (by kernel_rfl) (by kernel_rfl) (by kernel_rfl) (fun _ _ _ h=>h) (Or.inl ⟨by rfl,?_⟩) (by assumption) ?_
     rotate_left
     ·(intro w F;(try dsimp only at F);go_simp;try with_reducible rfl)
     refine wpAnyH_take (i:=2) (oi:=_) (v:=?_) rfl (by kernel_rfl) (by kernel_rfl) (by kernel_rfl) (fun _ _ _ h=>h) (Or.inl ⟨by rfl,?_⟩) (by assumption) ?_
     rotate_left
     ·(intro w F;(try dsimp only at F);go_simp;try with_reducible rfl)
     refine wpAnyH_take (i:=3) (oi:=_) (v:=?_) rfl (by kernel_rfl) (by kernel_rfl) (by kernel_rfl) (fun _ _ _ h=>h) (Or.inl ⟨by rfl,?_⟩) (by assumption) ?_
     rotate_left
     ·(intro w F;(try dsimp only at F);go_simp;try with_reducible rfl)
     refine wpAnyH_take (i:=5) (oi:=_) (v:=?_) rfl (by kernel_rfl) (by kernel_rfl) (by kernel_rfl) (fun _ _ _ h=>h) (Or.inl ⟨by rfl,?_⟩) (by assumption) ?_
     rotate_left
     ·(intro w F;(try dsimp only at F);go_simp;try with_reducible rfl)
     refine wpAnyH_take (i:=6) (oi:=_) (v:=?_) rfl (by kernel_rfl) (by kernel_rfl) (by kernel_rfl) (fun _ _ _ h=>h) (Or.inl ⟨by rfl,?_⟩) (by assumption) ?_
     rotate_left
     ·(intro w F;(try dsimp only at F);go_simp;try with_reducible rfl)
     refine wpAnyH_take (i:=7) (oi:=_) (v:=?_) rfl (by kernel_rfl) (by kernel_rfl) (by kernel_rfl) (fun _ _ _ h=>h) (Or.inl ⟨by rfl,?_⟩) (by assumption) ?_
     rotate_left
     ·(intro w F;(try dsimp only at F);go_simp;try with_reducible rfl)
     refine wpAnyH_take (i:=8) (oi:=_) (v:=?_) rfl (by kernel_rfl) (by kernel_rfl) (by kernel_rfl) (fun _ _ _ h=>h) (Or.inl ⟨by rfl,?_⟩) (by assumption) ?_
     rotate_left
     ·(intro w F;(try dsimp only at F);go_simp;try with_reducible rfl)
     refine wpAnyH_take (i:=9) (oi:=_) (v:=?_) rfl (by kernel_rfl) (by kernel_rfl) (by kernel_rfl) (fun _ _ _ h=>h) (Or.inl ⟨by rfl,?_⟩) (by assumption) ?_
     rotate_left
     ·(intro w F;(try dsimp only at F);go_simp;try with_reducible rfl)
     refine wpAnyH_take (i:=10) (oi:=_) (v:=?_) rfl (by kernel_rfl) (by kernel_rfl) (by kernel_rfl) (fun _ _ _ h=>h) (Or.inl ⟨by rfl,?_⟩) (by assumption) ?_
     rotate_left
     ·(intro w F;(try dsimp only at F);go_simp;try with_reducible rfl)
     refine wpAnyH_take (i:=11) (oi:=_) (v:=?_) rfl (by kernel_rfl) (by kernel_rfl) (by kernel_rfl) (fun _ _ _ h=>h) (Or.inl ⟨by rfl,?_⟩) (by assumption) ?_
     rotate_left
     ·(intro w F;(try dsimp only at F);go_simp;try with_reducible rfl)
     simp only[Act.put,nI];refine wpAnyH_ready (rs:=[4,12]) (by kernel_rfl) (by simp) ?_;refine AllReadyH.cons (o:=_) rfl (fun K H=>?_) (AllReadyH.cons (o:=_) rfl (fun K H=>?_) AllReadyH.nil)
     ·go_simp;refine H.out _ _ (by simpa using d1) (fun G=>?_);clear H K;refine wpAnyH_ready (rs:=[12]) (by kernel_rfl) (by simp) ?_;refine AllReadyH.cons (o:=_) rfl (fun K H=>?_) AllReadyH.nil;go_simp;refine H.out _ _ h4 (fun G=>?_);clear H K;refine wpAnyH_ready (rs:=[13]) (by kernel_rfl) (by simp) ?_;refine AllReadyH.cons (o:=_) rfl (fun K H=>?_) AllReadyH.nil;refine fT _ (by rfl) _ _ _ _ (by rfl) _ _ (by rfl) (by rfl) _ _ (TI _) ?_;refine H.out _ _ x3 (fun G=>?_);clear H K;refine wpAnyH_take (i:=14) (oi:=_) (v:=?_) rfl (by kernel_rfl) (by kernel_rfl) (by kernel_rfl) (fun _ _ _ h=>h) (Or.inl ⟨by rfl,?_⟩) (by assumption) ?_
      rotate_left
      ·(intro w F;(try dsimp only at F);go_simp;try with_reducible rfl)
      refine wpAnyH_take (i:=15) (oi:=_) (v:=?_) rfl (by kernel_rfl) (by kernel_rfl) (by kernel_rfl) (fun _ _ _ h=>h) (Or.inl ⟨by rfl,?_⟩) (by assumption) ?_
      rotate_left
      ·(intro w F;(try dsimp only at F);go_simp;try with_reducible rfl)
      simp only[Act.put,nI];refine wpAnyH_ready (rs:=[16]) (by kernel_rfl) (by simp) ?_;refine AllReadyH.cons (o:=_) rfl (fun K H=>?_) AllReadyH.nil;go_simp;refine H.out _ _ h5 (fun G=>?_);clear H K;refine wpAnyH_done (by kernel_rfl) ?_ _;go_wp2;go_roundw
      case rel=>exact⟨j+1,by omega,by simp,bR,x0.out⟩
      case measure=>simp[intOf];omega
     ·go_simp;refine H.out _ _ h4 (fun G=>?_);clear H K;refine wpAnyH_ready (rs:=[4]) (by kernel_rfl) (by simp) ?_;refine AllReadyH.cons (o:=_) rfl (fun K H=>?_) AllReadyH.nil;go_simp;refine H.out _ _ h4 (fun G=>?_);clear H K;refine wpAnyH_ready (rs:=[13]) (by kernel_rfl) (by simp) ?_;refine AllReadyH.cons (o:=_) rfl (fun K H=>?_) AllReadyH.nil;refine fT _ (by rfl) _ _ _ _ (by rfl) _ _ (by rfl) (by rfl) _ _ (TI _) ?_;refine H.out _ _ x3 (fun G=>?_);clear H K;refine wpAnyH_take (i:=14) (oi:=_) (v:=?_) rfl (by kernel_rfl) (by kernel_rfl) (by kernel_rfl) (fun _ _ _ h=>h) (Or.inl ⟨by rfl,?_⟩) (by assumption) ?_
      rotate_left
      ·(intro w F;(try dsimp only at F);go_simp;try with_reducible rfl)
      refine wpAnyH_take (i:=15) (oi:=_) (v:=?_) rfl (by kernel_rfl) (by kernel_rfl) (by kernel_rfl) (fun _ _ _ h=>h) (Or.inl ⟨by rfl,?_⟩) (by assumption) ?_
      rotate_left
      ·(intro w F;(try dsimp only at F);go_simp;try with_reducible rfl)
      simp only[Act.put,nI];refine wpAnyH_ready (rs:=[16]) (by kernel_rfl) (by simp) ?_;refine AllReadyH.cons (o:=_) rfl (fun K H=>?_) AllReadyH.nil;go_simp;refine H.out _ _ h5 (fun G=>?_);clear H K;refine wpAnyH_done (by kernel_rfl) ?_ _;go_wp2;go_roundw
      case rel=>exact⟨j+1,by omega,by simp,bR,x0.out⟩
      case measure=>simp[intOf];omega
  ·obtain rfl:j=nx:=by omega
   have HE:=hid (HF.out);go_wp2;go_ret;obtain⟨aL,hP⟩:=HR.out;have hn:=HN.out;exact⟨rfl,HE.out aL _ (by rw[<-hn];exact hP)⟩
theorem Uz(n:Net)(i:Nat)(Y:List (Nat×List Fr)):nj n i Y 0 0=n:=by
 have e:(fun t=>if t=i then n.cnt i+0 else n.cnt t)=n.cnt:=funext fun t=>by
  split
  ·rename_i h;rw[h];rfl
  ·rfl
 unfold nj;rw[e,List.take_zero,List.map_nil,List.append_nil]
theorem EI{own:Own}{w:World}{a:Ad}{n:Net}{vb:Value}(h:bE own w a n vb (ends n))(hp:dx a.aH n)(hb:ni n 0)(i:Nat)(hi:i<2)(I:a.aH<=400)(hl:n.bD.length<=10000000000):
  Calls prog 23 #[.pointer (some ⟨a.N,0,none⟩),.int .i64 i] w fun e w'=>e=.returned (.bool true)/\∃M pk,(n.x i).mQ M pk/\Rn (n.x i) (n.x (1-i)) M pk/\mU own w a (n.JM i M pk) w':=by
 obtain⟨c0,_⟩:=h.cells;have h0:=(hb.1 i hi).1;refine Ux own w a (ends n) i hi I (fun w'=>∃M pk,(n.x i).mQ M pk/\Rn (n.x i) (n.x (1-i)) M pk/\mU own w a (n.JM i M pk) w') c0 (h.xs i hi).1 ?_;refine(Im h hp hb i hi).mono ?_;rintro e w1 ⟨x,rfl,X,M,pk,G,hN,V,Z⟩;obtain⟨sa,sc,rfl⟩:=fV V;have o:=Er (hp.loc i hi) (hp.two i hi) (hp.two' i hi) (hp.bd i hi) (by omega) G
 have F:(Ay pk).length=pk.length:=by unfold Ay;rw[List.length_map]
 have h3:pk.length<=24:=by have:=o.next;have:=o.top;omega
 have H:(n.bK i M).cnt i=(n.x i).next:=hp.ct i hi;have hM:aU=4611686018427387903:=rfl;refine⟨sa,_,sc,rfl,n.bK i M,Ay pk,X,F.symm,?_,?_,?_,⟨⟨vb,?_⟩,?_,?_⟩,?_⟩
 ·show n.bD.length+_<=_;omega
 ·rw[H];omega
 ·intro j hj;rw[H];exact Xf o (hp.mt i hi) j hj
 ·rw[Uz];exact hN
 ·rw[Mx o,F];exact V
 ·exact Z.mono fun x hx=>iM.2 (by rcases yF.1 hx with h|h<;>omega)
 ·intro aL w2 hF;obtain⟨O,U⟩:=hF.nt;rw[Xg hp i hi o]at U;exact⟨M,pk,G,o,aL,O,U.Co fun j k _ _=>oK (Es G) j k,hF.kp⟩
end Go.Proofs.YtphbledmopchnaaGreatDoor.Sd
