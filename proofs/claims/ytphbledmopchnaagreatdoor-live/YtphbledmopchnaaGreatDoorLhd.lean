import Derived.Test.YtphbledmopchnaaGreatDoorLhc
open List renaming getElem?_eq_getElem->eB,getD_eq_getElem?_getD->eT,setIfInBounds_toArray->j3,getElem?_cons_succ->mE,getElem?_cons_zero->mI,getElem?_map->nA
open Go.RowKit renaming intOf->lg
open Go.World renaming block_lt_of_cell?->mK,cell?_alloc_lt->mR
set_option maxHeartbeats 4000000
set_option maxRecDepth 100000
namespace Go.Proofs.YtphbledmopchnaaGreatDoor.Sd
open Go.RowKit Go.Lib Mm Tryz
theorem fu.qgx{oZ:Own}{w:World}{a:Ad}{n:Net}{vb:Value}{E:Nat->Nat->bO}(h:fu oZ w a n vb E)(i:Nat)(hi:i<2):w.cell? (aB a.cb i)=some (uZ (n.jP i:Int))/\w.frozen? (aB a.cb i)=false:=by obtain⟨⟨r,hB⟩,_⟩:=h.ct;refine⟨?_,hB.frozen i⟩;rw[hB.cell];rcases(show i=0\/i=1 by omega)with rfl|rfl<;>rfl
theorem Nr{oZ:Own}{t:Nat}{w:World}{x:Value}{n:Nat}{l:bO}(h:GT oZ t 9 1 w x n l)(j:Nat)(b:j<n)(v:Value)(a:l[j]?=some v):∃g c,x=(dP g n c)/\w.cell? (aB g j)=some v/\g<w.heap.size/\oZ g=t:=by
 rcases h with⟨_,e,_⟩|⟨g,cap,cs,rfl,ho,hB,hc1,hc2,hc3,hc4,JY,_⟩;·omega
 ·refine⟨g,cap,rfl,?_,hB.lt,ho⟩;rw[hB.cell];rw[<-JY,List.getElem?_take,bK aj]at a;exact a
theorem Kg.cells{fJ oZ:Own}{w0 w:World}{a:Ad}{n:Net}{E:Nat->Nat->bO}{i j c:Nat}{Y:List (Nat×List Fr)}{x:Value}(h:Kg fJ w0 a n E i Y x j c oZ w)(hi:i<2):w.cell? (aB a.N 4)=some (uZ n.now)/\w.cell? (aB a.N 5)=some (iZ a.bG)/\w.cell? (aB a.N 9)=some (dP a.cb 2 a.cc)/\w.cell? (aB a.cb i)=some (uZ ((n.jP i+c:Nat):Int))/\w.frozen? (aB a.cb i)=false/\j4 w/\iE w/\2<=w.heap.size:=by obtain⟨vb,h1⟩:=h.nt;obtain⟨_,_,_,c4,c5,_,c9⟩:=h1.cells;obtain⟨b,d⟩:=h1.qgx i hi;have e:(nj n i Y j c).jP i=n.jP i+c:=bK rfl;rw[e]at b;have:=h1.gd.sz;exact⟨c4,c5,c9,b,d,h1.gd.tab,h1.er,aj⟩
theorem Zm(fJ:Own)(w0:World)(a:Ad)(E:Nat->Nat->bO)(i:Nat)(hi:i<2)(xt:a.bG<=400)(OT:World->Prop)(c0:w0.cell? (aB a.N 0)=some (dP a.xb 2 a.xc))(x1:w0.cell? (aB a.xb i)=some (aI (a.C i) 0))(HC:Calls prog 40 #[(aI (a.C i) 0)] w0 fun e w1=>∃sa nx F,e=.returned (.slice sa nx F)/\Hid (∃n Y eZ,nx=Y.length/\n.dN.length+Y.length<=100000000000/\n.jP i+Y.length<4611686018427387904/\(∀j,j<Y.length->FlY a.bG (n.jP i) j (Y.getD j (0,[])))/\Kg fJ w0 a n E i Y (.slice sa nx F) 0 0 eZ w1/\∀gu G,Kg fJ w0 a n E i Y (.slice sa nx F) Y.length Y.length gu G->OT G)):Calls prog 23 #[aI a.N 0,iZ i] w0 fun e w'=>e=.returned (.bool true)/\OT w':=by
 have Ow:=aG HC;clear HC;have xo:(i:Int)<2:=aj;go_enter func23,ntmps23;go_wp2_with (go_at_call 40;refine Ow.out.mono ?_;rintro e w1 ⟨sa,nx,F,rfl,H1⟩);clear Ow;obtain⟨n,Y,eZ,hn,hb,hc,hY,hI,hF⟩:=H1.out;have HN:=aG hn;have HB:=aG hb;have HK:=aG hc;have HY:=aG hY;have HI:=aG hI;have HF:=aG hF;have xv:nx<9223372036854775807:=aj;clear hn hb hc hY hI hF H1;go_loopw [6] (fun s6 wr=>∃j:Nat,j<=nx/\s6=(iZ j)/\Hid (∃gu,Kg fJ w0 a n E i Y (.slice sa nx F) j j gu wr)) (fun s6 _=>nx-(lg s6).toNat);case atStart=>exact⟨0,Nat.zero_le _,rfl,eZ,HI.out⟩
 case round=>
  obtain⟨j,hj,rfl,HR⟩:=hrel;by_cases U:j<nx
  ·have xl:(j:Int)<(nx:Int):=aj;obtain⟨gu,N⟩:=HR.out;have t:j<Y.length:=bV HN.out;have x:=HY.out j t;obtain⟨y,C⟩:=bZ (Y.getD j (0,[]));have u:(Y.map fun y=>sV (bT y.1 y.2))[j]?=some (sV (bT y.1 y.2)):=by rw[C,nA,eB t,eT,eB t];rfl
   rw[<-C]at x;have X:=N.st;rw[<-HN.out]at X;obtain⟨g,cg,eg,d0,hg,_⟩:=Nr X j U _ u;simp only[Value.slice.injEq]at eg;obtain⟨rfl,_,rfl⟩:=eg;obtain⟨D,hD⟩:=bZ (⟨(bT y.1 y.2).toArray⟩:ByteArray);have h9:D.data.toList=bT y.1 y.2:=by rw[hD]
   have x7:D.size=(bT y.1 y.2).length:=by rw[hD];exact(jU _).2
   unfold sV at d0;rw[<-hD]at d0;have gQ:=x.sz;have xi:=x.ps;obtain⟨cp,W,xa,xj,xk,Q,ho,x4⟩:=um wr D aj;obtain⟨p4,p5,p9,pc,pf,pT,pE,p2⟩:=N.cells hi;have he:=N.below Q;obtain⟨_,_,_,_,_,qT,qE,q2⟩:=he.cells hi;have T:=RS y D wr.heap.size cp W (by rw[h9];exact x.dec) x.nm ho aj aj x4.lt qT qE q2;obtain⟨z,R⟩:=bZ (n.jP i+j);have V:=x.no;rw[<-R]at V pc;rw[V]at T;have HD:=aG T;have y0:z<4611686018427387904:=bV HK.out;have x3:=x.ne;have x2:=x.ln;have h5:=aG x.kd;have HP:=aG N;have PN:=aG Q;have xm:D.size<=a.bG:=aj;obtain⟨fs,hr⟩:=bZ y.2;rw[<-hr]at HD x3 x2 h5;have h4:=aG R;have x6:=aG (dB C hD);obtain⟨m,hm⟩:=bZ fs.length;rw[<-hm]at HD x3 x2;have HM:=aG hm;clear hm hr R C hD T V N he Q ho x4 qT qE q2 pT pE p2 X u x HR h9 x7 gQ xi HI;go_wp2_with (go_at_call 24;refine HD.out.mono ?_;rintro e G ⟨l,r,rfl,P,p⟩;have I:=aG P;have TR:=aG p;clear P p);obtain⟨B,DW⟩:=bZ (G.alloc (.cells #[uZ z,.slice l m r] 56));obtain⟨pb,A⟩:=bZ G.heap.size;have M:bJ wr B:=by rw[DW];have h1:=PN.out;have h2:=I.out;exact h1.trans ((h2.mono h1.size).alloc (Nat.le_trans h1.size h2.size) _)
   have Ey:=HP.out.below M;have H:aS B pb 56 [uZ z,.slice l m r]:=by rw[DW,A];exact aS.new G 56 _
   have hw:KdW wr.heap.size B l fs:=by rw[DW];have:=TR.out.below ((Below.refl G.heap.size G).alloc (Nat.le_refl _) (.cells #[uZ z,.slice l m r] 56));exact fun j hj=>by obtain⟨b,off,e,h1,h2⟩:=this j hj;exact⟨b,off,e,Nat.le_trans PN.out.size h1,h2⟩
   rw[<-DW,<-A];have xx:wr.heap.size<=pb:=by rw[A];exact Nat.le_trans PN.out.size I.out.size
   have x9:a.cb<wr.heap.size:=mK wr (aB a.cb i) (by rw[pc]);clear DW A I TR PN xa p4 p5 p9 pf pc HD;obtain⟨q4,q5,q9,qc,qf,_,_,_⟩:=Ey.cells hi;have d4:B.cell? (aB g j)=some (.string D):=cell_of d0 (M.block g hg);have b0:=H.cell 0;have b1:=H.cell 1;simp only[mI,mE]at b0 b1;rw[<-h4.out]at qc;have Io:=aG (dB Ey (dB H (dB hw M)));clear Ey H hw d0;have g1:¬((a.bG:Int)<(D.size:Int)):=aj;have g2:¬((m:Int)=0):=aj;go_quiet (fail);go_wp2;obtain⟨W5,wO⟩:=bZ ((B.drewN nq).setCell (aB a.cb i) (uZ ((z:Int)+1)));have ha:Kg fJ w0 a n E i Y (dP g nx F) j (j+1) gu W5:=by have:=(Io.out.1.below (f_ B nq)).count hi;rw[<-h4.out]at this;rw[wO];exact this
   have H:aS W5 pb 56 [uZ z,.slice l m r]:=by rw[wO];have h1:aS (B.drewN nq) pb 56 [uZ z,.slice l m r]:=Io.out.2.1;exact h1.of_heap (Below.heap_setCell _ _ _ _ (by show pb≠a.cb;omega))
   have hx:KdW wr.heap.size W5 l fs:=by rw[wO];exact(Io.out.2.2.1.below (f_ B nq)).set _ _ x9
   rw[<-wO];have H5:=aG (dB ha (dB H hx));clear wO ha H hx Io q4 q5 q9 qc qf d4 b0 b1 g1 g2;go_loopw [10] (fun h0 h3=>∃k:Nat,k<=m/\h0=(iZ k)/\Hid (Kg fJ w0 a n E i Y (dP g nx F) j (j+1) gu h3/\aS h3 pb 56 [uZ z,.slice l m r]/\KdW wr.heap.size h3 l fs)) (fun h0 _=>m-(lg h0).toNat);case atStart=>exact⟨0,Nat.zero_le _,rfl,H5⟩
   case round=>
    obtain⟨k,hk,rfl,h7⟩:=hrel;clear H5;obtain⟨s,B2,p⟩:=h7.out;have b1:=B2.cell 1;simp only[mI,mE]at b1;by_cases xr:k<m
    ·have Zn:(k:Int)<(m:Int):=aj;have x0:k<fs.length:=bV HM.out;obtain⟨b,off,rfl,xn,P⟩:=p k x0;have xp:=h5.out (fs.getD k iM) (by rw[eT,eB x0];exact List.getElem_mem _);generalize (fs.getD k iM).aC=kd at *
     have g1:¬(kd=7):=aj;have HS:=aG (fun q=>(dB (s.below (f_ wr q)) (dB (show aS (wr.drewN q) pb 56 [uZ z,.slice (some (aB b off)) m r]from B2) (p.below (f_ wr q)))));clear s B2 p;go_wp2;go_quiet (fail);go_wp2;go_roundw;case rel=>exact⟨k+1,aj,aP,HS.out nq⟩
     case measure=>simp[lg];omega
    ·obtain rfl:k=m:=aj;go_wp2;have Z:=s.st;rw[<-HN.out]at Z;obtain⟨C,eD⟩:=x6.out;have u:(Y.map fun y=>sV (bT y.1 y.2))[j]?=some (.string D):=by rw[nA,eB t,eD,C,eT,eB t];rfl
     obtain⟨g2,c2,e2,d1,xd,xf⟩:=Nr Z j U _ u;simp only[Value.slice.injEq,Option.some.injEq,Addr.mk.injEq]at e2;obtain⟨⟨rfl,_,_⟩,_,rfl⟩:=e2;have x8:a.N≠g:=by obtain⟨vb,xe⟩:=s.nt;intro e;have:=xe.oP.2;rw[e,xf]at this;exact absurd this iO
     have hf:Kg fJ w0 a n E i Y (dP g nx F) j (j+1) gu wr.drew:=s.below ⟨rfl,rfl,rfl,Nat.le_refl _,fun _ _=>rfl⟩;obtain⟨a0,n0,c0,a2,n2,c2,w6,jZ,d8,run,⟨v6,d6⟩,f6,O⟩:=hf.push t HB.out;have eV:sV (bT (Y.getD j (0,[])).1 (Y.getD j (0,[])).2)=.string D:=by rw[eD,C];rfl
     rw[eV]at run;obtain⟨i1,hu⟩:=bZ (1-i);have hv:(1:Int)-(i:Int)=(i1:Int):=aj;rw[<-hu]at run;have xy:IntKind.i64.wrap (1-(i:Int))=(i1:Int):=by rw[hv];rw[IntKind.wrap_i64];omega
     have p8:wr.cell? (aB a.N 8)=some (.slice a0 n0 c0):=d8;have YP:∀ty,(Builtin.append_ #[46,46] ty #[.slice a0 n0 c0,dP wr.heap.size 1 1]).run prog ((wr.alloc (.cells #[iZ i1,.string D] 62)).drew)=.ok (.slice a2 n2 c2) w6:=run;have L:(w6.setCell (aB a.N 8) (.slice a2 n2 c2)).cell? (aB g j)=some (.string D):=by have x5:=O.st;rw[<-HN.out]at x5;obtain⟨g3,c3,e3,d3,_⟩:=Nr x5 j U _ u;simp only[Value.slice.injEq,Option.some.injEq,Addr.mk.injEq]at e3;obtain⟨⟨rfl,_,_⟩,_,rfl⟩:=e3;exact d3
     have h8:w6.cell? (aB g j)=some (.string D):=by rw[<-L];exact(World.cell?_setCell_far _ _ _ _ x8).symm
     have h6:=aG O;have J:((wr.alloc (.cells #[iZ i1,.string D] 62)).drew).cell? (aB g j)=some (.string D):=(mR _ _ _ xd).trans d1;have xz:(wr.alloc (.cells #[iZ i1,.string D] 62)).cell? (aB a.N 8)=some (.slice a0 n0 c0):=(mR _ _ _ (mK wr (aB a.N 8) (by rw[p8]))).trans p8;clear O hf run eV C eD hu hv u Z d8 s B2 p b1 h7;refine wp_region_held_drew (S:=fun y=>y.cell? (aB g j)=some (.string D)) bH (by simpa using d1) (fun d=>?_);refine wpAnyH_take (i:=0) (oi:=_) (v:=?_) rfl bH bH bH (fun _ _ _ h=>h) (Or.inl ⟨by rfl,?_⟩) (by assumption) ?_;rotate_left;·(intro w c;(try dsimp only at c);go_simp;try with_reducible rfl)
     refine wpAnyH_take (i:=1) (oi:=_) (v:=?_) rfl bH bH bH (fun _ _ _ h=>h) (Or.inl ⟨by rfl,?_⟩) (by assumption) ?_;rotate_left;·(intro w c;(try dsimp only at c);go_simp;try with_reducible rfl)
     refine wpAnyH_take (i:=2) (oi:=_) (v:=?_) rfl bH bH bH (fun _ _ _ h=>h) (Or.inl ⟨by rfl,?_⟩) (by assumption) ?_;rotate_left;·(intro w c;(try dsimp only at c);go_simp;try with_reducible rfl)
     refine wpAnyH_take (i:=3) (oi:=_) (v:=?_) rfl bH bH bH (fun _ _ _ h=>h) (Or.inl ⟨by rfl,?_⟩) (by assumption) ?_;rotate_left;·(intro w c;(try dsimp only at c);go_simp;try with_reducible rfl)
     refine wpAnyH_take (i:=5) (oi:=_) (v:=?_) rfl bH bH bH (fun _ _ _ h=>h) (Or.inl ⟨by rfl,?_⟩) (by assumption) ?_;rotate_left;·(intro w c;(try dsimp only at c);go_simp;try with_reducible rfl)
     refine wpAnyH_take (i:=6) (oi:=_) (v:=?_) rfl bH bH bH (fun _ _ _ h=>h) (Or.inl ⟨by rfl,?_⟩) (by assumption) ?_;rotate_left;·(intro w c;(try dsimp only at c);go_simp;try with_reducible rfl)
     refine wpAnyH_take (i:=7) (oi:=_) (v:=?_) rfl bH bH bH (fun _ _ _ h=>h) (Or.inl ⟨by rfl,?_⟩) (by assumption) ?_;rotate_left;·(intro w c;(try dsimp only at c);go_simp;try with_reducible rfl)
     refine wpAnyH_take (i:=8) (oi:=_) (v:=?_) rfl bH bH bH (fun _ _ _ h=>h) (Or.inl ⟨by rfl,?_⟩) (by assumption) ?_;rotate_left;·(intro w c;(try dsimp only at c);go_simp;try with_reducible rfl)
     refine wpAnyH_take (i:=9) (oi:=_) (v:=?_) rfl bH bH bH (fun _ _ _ h=>h) (Or.inl ⟨by rfl,?_⟩) (by assumption) ?_;rotate_left;·(intro w c;(try dsimp only at c);go_simp;try with_reducible rfl)
     refine wpAnyH_take (i:=10) (oi:=_) (v:=?_) rfl bH bH bH (fun _ _ _ h=>h) (Or.inl ⟨by rfl,?_⟩) (by assumption) ?_;rotate_left;·(intro w c;(try dsimp only at c);go_simp;try with_reducible rfl)
     refine wpAnyH_take (i:=11) (oi:=_) (v:=?_) rfl bH bH bH (fun _ _ _ h=>h) (Or.inl ⟨by rfl,?_⟩) (by assumption) ?_;rotate_left;·(intro w c;(try dsimp only at c);go_simp;try with_reducible rfl)
     simp only[Act.put,j3];refine wpAnyH_ready (rs:=[4,12]) bH aP ?_;refine AllReadyH.cons (o:=_) rfl (fun K f=>?_) (AllReadyH.cons (o:=_) rfl (fun K f=>?_) AllReadyH.nil)
     ·go_simp;refine f.out _ _ (by simpa using d1) (fun d=>?_);clear f K;refine wpAnyH_ready (rs:=[12]) bH aP ?_;refine AllReadyH.cons (o:=_) rfl (fun K f=>?_) AllReadyH.nil;go_simp;refine f.out _ _ J (fun d=>?_);clear f K;refine wpAnyH_ready (rs:=[13]) bH aP ?_;refine AllReadyH.cons (o:=_) rfl (fun K f=>?_) AllReadyH.nil;refine jD _ (by rfl) _ _ _ _ (by rfl) _ _ (by rfl) (by rfl) _ _ (YP _) ?_;refine f.out _ _ h8 (fun d=>?_);clear f K;refine wpAnyH_take (i:=14) (oi:=_) (v:=?_) rfl bH bH bH (fun _ _ _ h=>h) (Or.inl ⟨by rfl,?_⟩) (by assumption) ?_;rotate_left;·(intro w c;(try dsimp only at c);go_simp;try with_reducible rfl)
      refine wpAnyH_take (i:=15) (oi:=_) (v:=?_) rfl bH bH bH (fun _ _ _ h=>h) (Or.inl ⟨by rfl,?_⟩) (by assumption) ?_;rotate_left;·(intro w c;(try dsimp only at c);go_simp;try with_reducible rfl)
      simp only[Act.put,j3];refine wpAnyH_ready (rs:=[16]) bH aP ?_;refine AllReadyH.cons (o:=_) rfl (fun K f=>?_) AllReadyH.nil;go_simp;refine f.out _ _ L (fun d=>?_);clear f K;refine wpAnyH_done bH ?_ _;go_wp2;go_roundw;case rel=>exact⟨j+1,aj,aP,jZ,h6.out⟩
      case measure=>simp[lg];omega
     ·go_simp;refine f.out _ _ J (fun d=>?_);clear f K;refine wpAnyH_ready (rs:=[4]) bH aP ?_;refine AllReadyH.cons (o:=_) rfl (fun K f=>?_) AllReadyH.nil;go_simp;refine f.out _ _ J (fun d=>?_);clear f K;refine wpAnyH_ready (rs:=[13]) bH aP ?_;refine AllReadyH.cons (o:=_) rfl (fun K f=>?_) AllReadyH.nil;refine jD _ (by rfl) _ _ _ _ (by rfl) _ _ (by rfl) (by rfl) _ _ (YP _) ?_;refine f.out _ _ h8 (fun d=>?_);clear f K;refine wpAnyH_take (i:=14) (oi:=_) (v:=?_) rfl bH bH bH (fun _ _ _ h=>h) (Or.inl ⟨by rfl,?_⟩) (by assumption) ?_;rotate_left;·(intro w c;(try dsimp only at c);go_simp;try with_reducible rfl)
      refine wpAnyH_take (i:=15) (oi:=_) (v:=?_) rfl bH bH bH (fun _ _ _ h=>h) (Or.inl ⟨by rfl,?_⟩) (by assumption) ?_;rotate_left;·(intro w c;(try dsimp only at c);go_simp;try with_reducible rfl)
      simp only[Act.put,j3];refine wpAnyH_ready (rs:=[16]) bH aP ?_;refine AllReadyH.cons (o:=_) rfl (fun K f=>?_) AllReadyH.nil;go_simp;refine f.out _ _ L (fun d=>?_);clear f K;refine wpAnyH_done bH ?_ _;go_wp2;go_roundw;case rel=>exact⟨j+1,aj,aP,jZ,h6.out⟩
      case measure=>simp[lg];omega
  ·obtain rfl:j=nx:=aj;have HE:=aG (HF.out);go_wp2;go_ret;obtain⟨gu,N⟩:=HR.out;have hn:=HN.out;exact⟨rfl,HE.out gu _ (by rw[<-hn];exact N)⟩
theorem Zo(n:Net)(i:Nat)(Y:List (Nat×List Fr)):nj n i Y 0 0=n:=by
 have e:(fun t=>if t=i then n.jP i+0 else n.jP t)=n.jP:=funext fun t=>by
  split;·rename_i h;rw[h];rfl
  ·rfl
 unfold nj;rw[e,List.take_zero,List.map_nil,List.append_nil]
theorem Kh{oZ:Own}{w:World}{a:Ad}{n:Net}{vb:Value}(h:fu oZ w a n vb (ends n))(hp:fH a.bG n)(hb:qo n 0)(i:Nat)(hi:i<2)(f:a.bG<=400)(hl:n.dN.length<=10000000000):Calls prog 23 #[aI a.N 0,iZ i] w fun e w'=>e=.returned (.bool true)/\∃M pk,(n.x i).jS M pk/\VY (n.x i) (n.x (1-i)) M pk/\nR oZ w a (n.yG i M pk) w':=by
 obtain⟨c0,_⟩:=h.cells;have s:=(hb.1 i hi).1;refine Zm oZ w a (ends n) i hi f (fun w'=>∃M pk,(n.x i).jS M pk/\VY (n.x i) (n.x (1-i)) M pk/\nR oZ w a (n.yG i M pk) w') c0 (h.xs i hi).1 ?_;refine(Nq h hp hb i hi).mono ?_;rintro e w1 ⟨x,rfl,p,M,pk,c,r,m,q⟩;obtain⟨y,z,rfl⟩:=jk m;have o:=mG (hp.loc i hi) (hp.two i hi) (hp.jT i hi) (hp.bd i hi) aj c;have b:(uq pk).length=pk.length:=by unfold uq;rw[List.length_map]
 have v:pk.length<=24:=FN o.next o.top;have d:(n.dY i M).jP i=(n.x i).next:=hp.ct i hi
 have A:dK=4611686018427387903:=rfl;refine⟨y,_,z,rfl,n.dY i M,uq pk,p,b.symm,?_,?_,?_,⟨⟨vb,?_⟩,?_,?_⟩,?_⟩;·show n.dN.length+_<=_;omega
 ·rw[d];omega
 ·intro j t;rw[d];exact qce o (hp.mt i hi) j t
 ·rw[Zo];exact r
 ·rw[RU o,b];exact m
 ·exact q.mono fun x u=>lC.2 (by rcases Dp.1 u with h|h<;>omega)
 ·intro gu B hF;obtain⟨g,l⟩:=hF.nt;rw[qcf hp i hi o]at l;exact⟨M,pk,c,o,gu,g,l.H_ fun j k _ _=>uW (Dl c) j k,hF.kp⟩
