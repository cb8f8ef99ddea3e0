import Derived.Test.YtphbledmopchnaaGreatDoorUhd
open List renaming getElem?_eq_getElem->fA,getD_eq_getElem?_getD->fB,setIfInBounds_toArray->mR,getElem?_cons_succ->nI,getElem?_cons_zero->sQ,getElem?_map->uj
open Go.World renaming block_lt_of_cell?->tL,cell?_alloc_lt->tT
set_option maxHeartbeats 4000000
set_option maxRecDepth 100000
namespace Go.Proofs.YtphbledmopchnaaGreatDoor.Sd
open Go.RowKit Go.Lib Mm Tryz
theorem bL.qbi{oZ:Own}{w:World}{a:Ad}{n:Net}{vb:Value}{E:Nat->Nat->aI}(h:bL oZ w a n vb E)(i:Nat)(hi:i<2):w.cell? (aj a.cb i)=some (uZ (n.cnt i:Int))/\w.frozen? (aj a.cb i)=false:=by
 obtain⟨⟨r,hB⟩,_⟩:=h.ct;refine⟨?_,hB.frozen i⟩;rw[hB.cell]
 rcases(show i=0\/i=1 by omega)with rfl|rfl<;>rfl
theorem Jt{oZ:Own}{t:Nat}{w:World}{x:Value}{n:Nat}{l:aI}(h:GT oZ t 9 1 w x n l)(j:Nat)(G:j<n)(v:Value)(F:l[j]?=some v):∃g c,x=(aS g n c)/\w.cell? (aj g j)=some v/\g<w.heap.size/\oZ g=t:=by
 rcases h with⟨_,e,_⟩|⟨g,cap,cs,rfl,ho,hB,hc1,hc2,hc3,hc4,Fp,_⟩
 ·omega
 ·refine⟨g,cap,rfl,?_,hB.lt,ho⟩;rw[hB.cell];rw[<-Fp,List.getElem?_take,if_pos (by omega)]at F;exact F
theorem FH.cells{bQ oZ:Own}{w0 w:World}{a:Ad}{n:Net}{E:Nat->Nat->aI}{i j c:Nat}{Y:List (Nat×List Fr)}{x:Value}(h:FH bQ w0 a n E i Y x j c oZ w)(hi:i<2):
  w.cell? (aj a.N 4)=some (uZ n.now)/\w.cell? (aj a.N 5)=some (iZ a.aM)/\w.cell? (aj a.N 9)=some (aS a.cb 2 a.cc)/\w.cell? (aj a.cb i)=some (uZ ((n.cnt i+c:Nat):Int))/\w.frozen? (aj a.cb i)=false/\TabAt w/\eF w/\2<=w.heap.size:=by
 obtain⟨vb,h1⟩:=h.nt;obtain⟨_,_,_,c4,c5,_,c9⟩:=h1.cells;obtain⟨F,G⟩:=h1.qbi i hi;have e:(nj n i Y j c).cnt i=n.cnt i+c:=if_pos rfl;rw[e]at F;have:=h1.gd.sz;exact⟨c4,c5,c9,F,G,h1.gd.tab,h1.er,by omega⟩
theorem Wh(bQ:Own)(w0:World)(a:Ad)(E:Nat->Nat->aI)(i:Nat)(hi:i<2)(yi:a.aM<=400)(wR:World->Prop)(c0:w0.cell? (aj a.N 0)=some (aS a.xb 2 a.xc))(x1:w0.cell? (aj a.xb i)=some (ay (a.C i) 0))(HC:Calls prog 40 #[(ay (a.C i) 0)] w0 fun e w1=>∃sa nx sc,e=.returned (.slice sa nx sc)/\Hid (∃n Y bD,nx=Y.length/\n.bP.length+Y.length<=100000000000/\n.cnt i+Y.length<4611686018427387904/\(∀j,j<Y.length->FlY a.aM n.now (n.cnt i) j (Y.getD j (0,[])))/\FH bQ w0 a n E i Y (.slice sa nx sc) 0 0 bD w1/\∀dx w2,FH bQ w0 a n E i Y (.slice sa nx sc) Y.length Y.length dx w2->wR w2)):
  Calls prog 23 #[ay a.N 0,iZ i] w0 fun e w'=>e=.returned (.bool true)/\wR w':=by
 have Cx:=au HC;clear HC
 have yd:(i:Int)<2:=by omega
 go_enter func23,ntmps23
 go_wp2_with (go_at_call 40;refine Cx.out.mono ?_;rintro e w1 ⟨sa,nx,sc,rfl,H1⟩)
 clear Cx;obtain⟨n,Y,bD,hn,hb,hc,hY,hI,hF⟩:=H1.out;have HN:=au hn;have HB:=au hb;have HK:=au hc;have HY:=au hY;have HI:=au hI;have HF:=au hF
 have yk:nx<9223372036854775807:=by omega
 clear hn hb hc hY hI hF H1
 go_loopw [6] (fun s6 wr=>∃j:Nat,j<=nx/\s6=(iZ j)/\Hid (∃dx,FH bQ w0 a n E i Y (.slice sa nx sc) j j dx wr)) (fun s6 _=>nx-(intOf s6).toNat)
 case atStart=>exact⟨0,Nat.zero_le _,rfl,bD,HI.out⟩
 case round=>
  obtain⟨j,hj,rfl,HR⟩:=hrel
  by_cases hr:j<nx
  ·have y8:(j:Int)<(nx:Int):=by omega
   obtain⟨dx,hP⟩:=HR.out
   have O:j<Y.length:=by have:=HN.out;omega
   have Z:=HY.out j O;obtain⟨y,ey⟩:∃y,y=Y.getD j (0,[]):=⟨_,rfl⟩
   have U:(Y.map fun y=>sV (aK y.1 y.2))[j]?=some (sV (aK y.1 y.2)):=by
    rw[ey,uj,fA O,fB,fA O];rfl
   rw[<-ey]at Z;have hv:=hP.st;rw[<-HN.out]at hv;obtain⟨g,cg,eg,d0,hg,_⟩:=Jt hv j hr _ U;simp only[Value.slice.injEq]at eg;obtain⟨rfl,_,rfl⟩:=eg;obtain⟨D,hD⟩:∃D:ByteArray,D=⟨(aK y.1 y.2).toArray⟩:=⟨_,rfl⟩
   have x7:D.data.toList=aK y.1 y.2:=by rw[hD]
   have xt:D.size=(aK y.1 y.2).length:=by rw[hD];exact(iI _).2
   unfold sV at d0;rw[<-hD]at d0;have hsz:=Z.c.sz;have y5:=Z.c.ps;obtain⟨cp,W,xz,y6,y7,ha,xd,xp⟩:=jH wr D (by omega);obtain⟨p4,p5,p9,pc,pf,pT,pE,p2⟩:=hP.cells hi;have x9:=hP.below ha;obtain⟨_,_,_,_,_,qT,qE,q2⟩:=x9.cells hi;have hf:=BM y D wr.heap.size cp W (by rw[x7];exact Z.c.dec) Z.c.nm xd (by omega) (by omega) xp.lt qT qE q2;obtain⟨V,he⟩:∃V,V=n.cnt i+j:=⟨_,rfl⟩;have hu:=Z.no;rw[<-he]at hu pc;rw[hu]at hf;have HD:=au hf
   have yq:V<4611686018427387904:=by have:=HK.out;omega
   have xo:=Z.ne;have xn:=Z.c.ln;have x3:=au Z.kd;have HP:=au hP;have Lu:=au ha
   have y9:D.size<=a.aM:=by omega
   obtain⟨fs,xe⟩:∃fs,fs=y.2:=⟨_,rfl⟩;rw[<-xe]at HD xo xn x3;have x0:=au he;have xr:=au (And.intro ey hD);obtain⟨m,hm⟩:∃m,m=fs.length:=⟨_,rfl⟩;rw[<-hm]at HD xo xn;have HM:=au hm;clear hm xe he ey hD hf hu hP x9 ha xd xp qT qE q2 pT pE p2 hv U Z HR x7 xt hsz y5 HI
   go_wp2_with (go_at_call 24;refine HD.out.mono ?_;rintro e w2 ⟨Ju,Oh,rfl,h0,I⟩;have h4:=au h0;have OX:=au I;clear h0 I)
   obtain⟨X,um⟩:∃X,X=w2.alloc (.cells #[uZ V,.slice Ju m Oh] 56):=⟨_,rfl⟩;obtain⟨pb,h3⟩:∃pb,pb=w2.heap.size:=⟨_,rfl⟩
   have h7:aD wr X:=by
    rw[um];have h1:=Lu.out;have h2:=h4.out;exact h1.trans ((h2.mono h1.size).alloc (Nat.le_trans h1.size h2.size) _)
   have Ay:=HP.out.below h7
   have B5:aA X pb 56 [uZ V,.slice Ju m Oh]:=by rw[um,h3];exact aA.new w2 56 _
   have xj:GD wr.heap.size X Ju fs:=by
    rw[um];have:=OX.out.below ((Below.refl w2.heap.size w2).alloc (Nat.le_refl _) (.cells #[uZ V,.slice Ju m Oh] 56))
    exact this.heap Lu.out.size fun _ _ _=>rfl
   rw[<-um,<-h3]
   have ym:wr.heap.size<=pb:=by rw[h3];exact Nat.le_trans Lu.out.size h4.out.size
   have xy:a.cb<wr.heap.size:=tL wr (aj a.cb i) (by rw[pc]);clear um h3 h4 OX Lu xz p4 p5 p9 pf pc HD;obtain⟨q4,q5,q9,qc,qf,_,_,_⟩:=Ay.cells hi;have d4:X.cell? (aj g j)=some (.string D):=cell_of d0 (h7.block g hg);have b0:=B5.cell 0;have b1:=B5.cell 1;simp only[sQ,nI]at b0 b1;rw[<-x0.out]at qc;have Dz:=au (And.intro Ay (And.intro B5 (And.intro xj h7)));clear Ay B5 xj d0
   have g1:¬((a.aM:Int)<(D.size:Int)):=by omega
   have g2:¬((m:Int)=0):=by omega
   go_quiet (fail)
   go_wp2;obtain⟨W5,rQ⟩:∃W5,W5=(X.drewN nq).setCell (aj a.cb i) (uZ ((V:Int)+1)):=⟨_,rfl⟩
   have x8:FH bQ w0 a n E i Y (aS g nx sc) j (j+1) dx W5:=by
    have:=(Dz.out.1.below (dF X nq)).count hi;rw[<-x0.out]at this;rw[rQ];exact this
   have B5:aA W5 pb 56 [uZ V,.slice Ju m Oh]:=by
    rw[rQ];have h1:aA (X.drewN nq) pb 56 [uZ V,.slice Ju m Oh]:=Dz.out.2.1;exact h1.of_heap (Below.heap_setCell _ _ _ _ (by show pb≠a.cb;omega))
   have xl:GD wr.heap.size W5 Ju fs:=by
    rw[rQ];exact(Dz.out.2.2.1.below (dF X nq)).set _ _ xy
   rw[<-rQ];have H5:=au (And.intro x8 (And.intro B5 xl));clear rQ x8 B5 xl Dz q4 q5 q9 qc qf d4 b0 b1 g1 g2
   go_loopw [10] (fun hw hx=>∃k:Nat,k<=m/\hw=(iZ k)/\Hid (FH bQ w0 a n E i Y (aS g nx sc) j (j+1) dx hx/\aA hx pb 56 [uZ V,.slice Ju m Oh]/\GD wr.heap.size hx Ju fs)) (fun hw _=>m-(intOf hw).toNat)
   case atStart=>exact⟨0,Nat.zero_le _,rfl,H5⟩
   case round=>
    obtain⟨k,hk,rfl,x5⟩:=hrel;clear H5;obtain⟨H,B2,I⟩:=x5.out;have b1:=B2.cell 1;simp only[sQ,nI]at b1
    by_cases yf:k<m
    ·have ZO:(k:Int)<(m:Int):=by omega
     have xm:k<fs.length:=by have:=HM.out;omega
     obtain⟨b,off,ra,rn,rc,rfl,ya,h9⟩:=I k xm;have h0:=h9 0 (by omega);have xx:=h9 7 (by omega);simp only[sQ,nI,Nat.add_zero]at h0 xx;clear h9;obtain⟨z4,_⟩:=H.cells hi;have ho:=x3.out (fs.getD k dS) (by rw[fB,fA xm];exact List.getElem_mem _);generalize (fs.getD k dS).kind=kd at *;generalize (fs.getD k dS).deadline=dl at *;have HS:=au (fun q=>(And.intro (H.below (dF wr q)) (And.intro (show aA (wr.drewN q) pb 56 [uZ V,.slice (some (aj b off)) m Oh]from B2) (I.below (dF wr q)))));clear H B2 I;go_wp2
     by_cases g1:kd=7
     ·subst g1
      have ye:¬((dl:Int)<(n.now:Int)):=by have:=ho rfl;omega
      clear ho
      go_quiet (fail)
      go_wp2;go_roundw
      case rel=>exact⟨k+1,by omega,by simp,HS.out nq⟩
      case measure=>simp[intOf];omega
     ·clear ho
      go_quiet (fail)
      go_wp2;go_roundw
      case rel=>exact⟨k+1,by omega,by simp,HS.out nq⟩
      case measure=>simp[intOf];omega
    ·obtain rfl:k=m:=by omega
     go_wp2;have Yt:=H.st;rw[<-HN.out]at Yt;obtain⟨ey,eD⟩:=xr.out
     have U:(Y.map fun y=>sV (aK y.1 y.2))[j]?=some (.string D):=by
      rw[uj,fA O,eD,ey,fB,fA O];rfl
     obtain⟨g2,c2,e2,d1,y0,y4⟩:=Jt Yt j hr _ U;simp only[Value.slice.injEq,Option.some.injEq,Addr.mk.injEq]at e2;obtain⟨⟨rfl,_,_⟩,_,rfl⟩:=e2
     have xv:a.N≠g:=by
      obtain⟨vb,y3⟩:=H.nt;intro e;have:=y3.net.2;rw[e,y4]at this;exact absurd this (by decide)
     have xa:FH bQ w0 a n E i Y (aS g nx sc) j (j+1) dx wr.drew:=H.below ⟨rfl,rfl,rfl,Nat.le_refl _,fun _ _=>rfl⟩;obtain⟨a0,n0,c0,a2,n2,c2,w6,gq,d8,run,⟨v6,d6⟩,f6,h8⟩:=xa.push O HB.out
     have eV:sV (aK (Y.getD j (0,[])).1 (Y.getD j (0,[])).2)=.string D:=by rw[eD,ey];rfl
     rw[eV]at run;obtain⟨i1,xf⟩:∃i1,i1=1-i:=⟨_,rfl⟩
     have xi:(1:Int)-(i:Int)=(i1:Int):=by omega
     rw[<-xf]at run
     have yn:IntKind.i64.wrap (1-(i:Int))=(i1:Int):=by rw[xi];rw[IntKind.wrap_i64];omega
     have p8:wr.cell? (aj a.N 8)=some (.slice a0 n0 c0):=d8;have Vn:∀ty,(Builtin.append_ #[46,46] ty #[.slice a0 n0 c0,aS wr.heap.size 1 1]).run prog ((wr.alloc (.cells #[iZ i1,.string D] 62)).drew)=.ok (.slice a2 n2 c2) w6:=run
     have h6:(w6.setCell (aj a.N 8) (.slice a2 n2 c2)).cell? (aj g j)=some (.string D):=by
      have ZP:=h8.st;rw[<-HN.out]at ZP;obtain⟨g3,c3,e3,d3,_⟩:=Jt ZP j hr _ U;simp only[Value.slice.injEq,Option.some.injEq,Addr.mk.injEq]at e3;obtain⟨⟨rfl,_,_⟩,_,rfl⟩:=e3;exact d3
     have x6:w6.cell? (aj g j)=some (.string D):=by rw[<-h6];exact(World.cell?_setCell_far _ _ _ _ xv).symm
     have x4:=au h8;have h5:((wr.alloc (.cells #[iZ i1,.string D] 62)).drew).cell? (aj g j)=some (.string D):=(tT _ _ _ y0).trans d1;have yp:(wr.alloc (.cells #[iZ i1,.string D] 62)).cell? (aj a.N 8)=some (.slice a0 n0 c0):=(tT _ _ _ (tL wr (aj a.N 8) (by rw[p8]))).trans p8;clear h8 xa run eV ey eD xf xi U Yt d8 H B2 I b1 x5;refine wp_region_held_drew (S:=fun y=>y.cell? (aj g j)=some (.string D)) (by kernel_rfl) (by simpa using d1) (fun F=>?_);refine iV 0 rfl ?_;refine iV 1 rfl ?_;refine iV 2 rfl ?_;refine iV 3 rfl ?_;refine iV 5 rfl ?_;refine iV 6 rfl ?_;refine iV 7 rfl ?_;refine iV 8 rfl ?_;refine iV 9 rfl ?_;refine iV 10 rfl ?_;refine iV 11 rfl ?_;simp only[Act.put,mR];refine wpAnyH_ready (rs:=[4,12]) (by kernel_rfl) (by simp) ?_;refine AllReadyH.cons (o:=_) rfl (fun K G=>?_) (AllReadyH.cons (o:=_) rfl (fun K G=>?_) AllReadyH.nil)
     ·go_simp;refine G.out _ _ (by simpa using d1) (fun F=>?_);clear G K
      refine BN 12 rfl fun K G=>?_
      go_simp;refine G.out _ _ h5 (fun F=>?_);clear G K
      refine BN 13 rfl fun K G=>?_
      refine dB _ (by rfl) _ _ _ _ (by rfl) _ _ (by rfl) (by rfl) _ _ (Vn _) ?_;refine G.out _ _ x6 (fun F=>?_);clear G K;refine iV 14 rfl ?_;refine iV 15 rfl ?_;simp only[Act.put,mR]
      refine BN 16 rfl fun K G=>?_
      go_simp;refine G.out _ _ h6 (fun F=>?_);clear G K;refine wpAnyH_done (by kernel_rfl) ?_ _;go_wp2;go_roundw
      case rel=>exact⟨j+1,by omega,by simp,gq,x4.out⟩
      case measure=>simp[intOf];omega
     ·go_simp;refine G.out _ _ h5 (fun F=>?_);clear G K
      refine BN 4 rfl fun K G=>?_
      go_simp;refine G.out _ _ h5 (fun F=>?_);clear G K
      refine BN 13 rfl fun K G=>?_
      refine dB _ (by rfl) _ _ _ _ (by rfl) _ _ (by rfl) (by rfl) _ _ (Vn _) ?_;refine G.out _ _ x6 (fun F=>?_);clear G K;refine iV 14 rfl ?_;refine iV 15 rfl ?_;simp only[Act.put,mR]
      refine BN 16 rfl fun K G=>?_
      go_simp;refine G.out _ _ h6 (fun F=>?_);clear G K;refine wpAnyH_done (by kernel_rfl) ?_ _;go_wp2;go_roundw
      case rel=>exact⟨j+1,by omega,by simp,gq,x4.out⟩
      case measure=>simp[intOf];omega
  ·obtain rfl:j=nx:=by omega
   have HE:=au (HF.out);go_wp2;go_ret;obtain⟨dx,hP⟩:=HR.out;have hn:=HN.out;exact⟨rfl,HE.out dx _ (by rw[<-hn];exact hP)⟩
