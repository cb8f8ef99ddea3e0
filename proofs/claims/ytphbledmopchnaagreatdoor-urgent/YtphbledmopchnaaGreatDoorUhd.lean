import Derived.Test.YtphbledmopchnaaGreatDoorUhc
open Go.RowKit.Below renaming refl->Am
open ByteArray renaming data_append->tL,data_extract->wz
open List renaming getElem?_eq_getElem->fA,getElem?_cons_succ->fB,getElem?_cons_zero->mR,getD_eq_getElem?_getD->sQ,getElem_mem->tT,length_map->uj,getElem?_drop->Av,length_append->Aw,mem_map->DT
open Nat renaming le_refl->nI,le_trans->Kt
set_option maxHeartbeats 4000000
set_option maxRecDepth 100000
namespace Go.Proofs.YtphbledmopchnaaGreatDoor.Sd
open Go.RowKit Go.Lib Mm Tryz
section
def GD(B:Nat)(w:World)(sa:Option Addr)(fs:List Fr):Prop:=∀j,j<fs.length->∃b off ra F rc,sa=some (aj b off)/\B<=b/\∀i,i<10->w.cell? (aj b (off+j*10+i))=(bZ (fs.getD j dS) (.slice ra F rc))[i]?
theorem GD.heap{B F:Nat}{w w':World}{sa:Option Addr}{fs:List Fr}(h:GD B w sa fs)(hB:F<=B)(hb:∀b,B<=b->b<w.heap.size->w'.heap[b]?=w.heap[b]?):GD F w' sa fs:=fun j I=>by
 obtain⟨b,off,ra,H,rc,e,h1,G⟩:=h j I;have:=hb b h1 (World.block_lt_of_cell? w (aj b _) (by rw[G 0 (by omega)];rfl))
 exact⟨b,off,ra,H,rc,e,Kt hB h1,fun i hi=>by
  have hl:i<(bZ (fs.getD j dS) (.slice ra H rc)).length:=hi;rw[fA hl]
  exact cell_of (by rw[G i hi,fA hl]) this⟩
theorem GD.below{B:Nat}{w w':World}{sa:Option Addr}{fs:List Fr}(h:GD B w sa fs)(hb:aD w w'):GD B w' sa fs:=h.heap (nI _) fun b _ hl=>hb.block b hl
theorem GD.set{B:Nat}{w:World}{sa:Option Addr}{fs:List Fr}(h:GD B w sa fs)(x:Addr)(v:Value)(F:x.block<B):GD B (w.setCell x v) sa fs:=h.heap (nI _) fun b h1 _=>Below.heap_setCell _ _ _ _ (by show b≠x.block;omega)
theorem BM(y:Nat×List Fr)(D:ByteArray)(g cap:Nat)(w:World)(hd:lZ true y.1 y.2 D.data.toList)(hn:y.2.map norm=y.2)(hb:BytesAt w (some (aj g 0)) D.data.toList)(hl:D.size<=1000000)(h0:0<D.size)(hg:g<w.heap.size)(Z:TabAt w)(V:eF w)(U:2<=w.heap.size):
  Calls prog 24 #[aS g D.size cap] w fun e w'=>∃sa sc,e=.returned (.tuple #[.agg #[uZ y.1,.slice sa y.2.length sc],iZ 0,(iZ (-1))])/\aD w w'/\GD w.heap.size w' sa y.2:=by
 have O:D.data.toList.length=D.size:=by simp
 have:=wQ true y.1 y.2 g 0 cap D.data.toList w hd hb (by omega) (by omega) hg Z V U 0 rfl;rw[O]at this;refine this.mono ?_;rintro e w' ⟨s,err,rfl,H,hb⟩;unfold kV at H;rw[if_pos rfl]at H;obtain⟨_,v9,G⟩:=H;rw[hn]at G;unfold lZ at hd;rw[if_pos rfl]at hd;obtain⟨sa,sc,K,hF⟩:=G.JG (fun j I=>(hd.2.1 j I).2);subst K;have X:=G.own;refine⟨sa,sc,rfl,hb,fun j I=>?_⟩;obtain⟨b,off,e,F⟩:=hF.weak j I;subst e
 exact⟨b,off,_,_,_,rfl,X b rfl,fun i hi=>by
  rcases(show i=0\/i=1\/i=2\/i=3\/i=4\/i=5\/i=6\/i=7\/i=8\/i=9 by omega)with rfl|rfl|rfl|rfl|rfl|rfl|rfl|rfl|rfl|rfl
  ·exact F.c0
  ·exact F.c1
  ·exact F.c2
  ·exact F.c3
  ·exact F.c4
  ·exact F.c5
  ·exact F.c6
  ·exact F.c7
  ·exact F.c8
  ·exact F.c9⟩
def nj(n:Net)(i:Nat)(Y:List (Nat×List Fr))(j c:Nat):Net:={n with bP:=n.bP++(Y.take j).map (fun y=>(1-i,y)),cnt:=fun t=>if t=i then n.cnt i+c else n.cnt t}
structure FH (bQ:Own) (w0:World) (a:Ad) (n:Net) (E:Nat->Nat->aI) (i:Nat) (Y:List (Nat×List Fr)) (x:Value) (j c:Nat) (oZ:Own) (w:World):Prop where
 nt:∃vb,bL oZ w a (nj n i Y j c) vb E
 st:GT oZ 229 9 1 w x Y.length (Y.map fun y=>sV (aK y.1 y.2))
 kp:Kp TN bQ oZ w0 w
section
variable {bQ oZ:Own} {w0 w w':World} {a:Ad} {n:Net} {E:Nat->Nat->aI} {i j c:Nat} {Y:List (Nat×List Fr)} {x:Value}
theorem FH.below(h:FH bQ w0 a n E i Y x j c oZ w)(hb:aD w w'):FH bQ w0 a n E i Y x j c oZ w':=by
 obtain⟨vb,h1⟩:=h.nt;exact⟨⟨vb,h1.below hb⟩,h.st.kp (Kp.below (T:=[]) hb) (by simp),h.kp.trans (Kp.below hb)⟩
theorem FH.count(h:FH bQ w0 a n E i Y x j c oZ w)(hi:i<2):FH bQ w0 a n E i Y x j (c+1) oZ (w.setCell (aj a.cb i) (uZ ((n.cnt i+c+1:Nat):Int))):=by
 obtain⟨vb,h1⟩:=h.nt;have g:=h1.ZE i hi (n.cnt i+c+1);have K:Kp [203] oZ oZ w (w.setCell (aj a.cb i) (uZ ((n.cnt i+c+1:Nat):Int))):=Kp.set oZ w _ _ _ (by rw[h1.ct.2];simp);refine⟨⟨vb,?_⟩,h.st.kp K (by simp),h.kp.trans (K.mono fun x F=>iK.2 (by simp at F;omega))⟩
 have e:(fun t=>if t=i then n.cnt i+c+1 else(nj n i Y j c).cnt t)=(nj n i Y j (c+1)).cnt:=funext fun t=>by
  show _=if t=i then n.cnt i+(c+1)else n.cnt t
  by_cases e:t=i
  ·rw[if_pos e,if_pos e];omega
  ·rw[if_neg e,if_neg e];exact if_neg e
 rw[e]at g;exact g
theorem FH.push(h:FH bQ w0 a n E i Y x j c oZ w)(hj:j<Y.length)(hl:n.bP.length+Y.length<=100000000000):
  ∃H n0 c0 a2 n2 c2 w6 F,w.cell? (aj a.N 8)=some (.slice H n0 c0)/\(∀ty,(Builtin.append_ #[46,46] ty #[.slice H n0 c0,aS w.heap.size 1 1]).run prog (w.alloc (.cells #[(iZ ((1-i:Nat):Int)),sV (aK (Y.getD j (0,[])).1 (Y.getD j (0,[])).2)] 62))=.ok (.slice a2 n2 c2) w6)/\
   (∃v,w6.cell? (aj a.N 8)=some v)/\w6.frozen? (aj a.N 8)=false/\FH bQ w0 a n E i Y x (j+1) c F (w6.setCell (aj a.N 8) (.slice a2 n2 c2)):=by
 obtain⟨vb,h1⟩:=h.nt;obtain⟨V,O⟩:∃V,V=[Value.int .i64 ((1-i:Nat):Int),sV (aK (Y.getD j (0,[])).1 (Y.getD j (0,[])).2)]:=⟨_,rfl⟩;have B5:aA (w.alloc (.cells V.toArray 62)) w.heap.size 62 V:=aA.new w 62 V;have I:aD w (w.alloc (.cells V.toArray 62)):=(Am _ w).alloc (nI _) _;have K:=h1.below I;obtain⟨H,c0,rfl⟩:=fC h1.bg
 obtain⟨v6,w6,F,run,hG,U⟩:=bW RN K.bg (aj w.heap.size 0) 1 1 V (by rw[O];rfl) (fun z hz=>by
  rw[O]at hz;simp[sV]at hz
  rcases hz with rfl|rfl<;>rfl) (fun t y hy=>by
  have e:(aj w.heap.size 0).add t=(aj w.heap.size t):=by rw[Addr.add_lit,Nat.zero_add]
  rw[e,B5.cell,hy]) (by unfold nj;rw[Aw,uj,List.length_take];omega)
 obtain⟨a2,c2,rfl⟩:=fC hG;obtain⟨_,_,_,_,_,c8,_⟩:=h1.cells;have X:aA w6 a.N 48 (VO a (nj n i Y j c).now (.slice H (nj n i Y j c).bP.length c0)):=K.rO U (by simp)
 have h2:F a.N=200:=by rw[U.ext _ K.net.1.lt];exact K.net.2
 have K7:Kp [200] F F w6 (w6.setCell (aj a.N 8) (.slice a2 ((nj n i Y j c).bP.length+1) c2)):=Kp.set F w6 _ _ _ (by rw[h2];simp);have G:Kp [204,200] oZ F w (w6.setCell (aj a.N 8) (.slice a2 ((nj n i Y j c).bP.length+1) c2)):=(Kp.below I).trans ((U.mono (by simp)).trans (K7.mono (by simp)))
 have eb:(nj n i Y (j+1) c).bP=(nj n i Y j c).bP++[(1-i,Y.getD j (0,[]))]:=by
  unfold nj;simp only;rw[List.take_add_one,fA hj,List.map_append,sQ,fA hj,List.append_assoc];rfl
 have d8:w6.cell? (aj a.N 8)=some (.slice H (nj n i Y j c).bP.length c0):=by rw[X.cell];rfl
 refine⟨H,_,c0,a2,_,c2,w6,F,c8,fun ty=>by have:=run ty;rw[O]at this;exact this,⟨_,d8⟩,X.frozen 8,⟨.slice a2 ((nj n i Y j c).bP.length+1) c2,?_⟩,h.st.kp G (by simp),h.kp.trans (G.mono fun x hx=>iK.2 (by simp at hx;omega))⟩;refine h1.turn G (by simp) (by simp) (X.setCell 8 _) (fun i' k' Z h0=>h1.wo G i' k' Z h0 (by simp;omega)) (h1.zM G (by simp)) ?_ (fun i hi=>h1.wu G i hi fun x hx=>.inr (by simp at hx;omega));rw[eb,FD,Aw];have:=hG.kp K7 (by simp);rw[O]at this;exact this
end

end
theorem iV{P:Program}{F:Array Oper}{Q:Exit->Act->World->Prop}{md:Region.Mode}{S:World->Prop}{G:Nat}{listed:Array Bool}{a:Act}{w:World}(i:Nat){oi:Oper}{v:Value}(hi:F[i]?=some oi)(h:wpAnyH P md F Q S G (listed.setIfInBounds i true) (a.put oi.dst v) w)(U:YieldsIf P F S oi v a:=by exact Or.inl ⟨by rfl,by(intro w h;(try dsimp only at h);go_simp;try with_reducible rfl)⟩)(hs:Region.noSelect F=true:=by kernel_rfl)(K:Region.free md F listed i=true:=by kernel_rfl)(O:(Region.ready md F listed).contains i=true:=by kernel_rfl)(H:∀c a w,Q (.panic c) (a.put oi.dst v) w->Q (.panic c) a w:=by exact fun _ _ _ h=>h)(I:S w:=by assumption):wpAnyH P md F Q S (G+1) listed a w:=wpAnyH_take hi hs K O H U I h
theorem BN{P:Program}{F:Array Oper}{Q:Exit->Act->World->Prop}{md:Region.Mode}{S:World->Prop}{G:Nat}{listed:Array Bool}{a:Act}{w:World}(i:Nat){o:Oper}(I:F[i]?=some o)(h:∀H:Act->World->Prop,Shut (∀a w,S w->(S w->wpAnyH P md F Q S G (listed.setIfInBounds i true) a w)->H a w)->if Region.wanted o (yielded F a.tmps)=true then Oper.wp P o a w H Q else H (a.put o.dst undef) w)(K:Region.ready md F listed=[i]:=by kernel_rfl):wpAnyH P md F Q S (G+1) listed a w:=wpAnyH_ready K (by simp) (.cons I h .nil)
theorem rR.to{n:Net}{B:Nat}(h:rR n B):rR n 0:=⟨fun i hi=>by have:=h.1 i hi;omega,by have:=h.2;omega⟩
theorem rR.bY{n:Net}{B:Nat}(h:rR n B)(i:Nat){M:Side}(h1:M.next=(n.x i).next)(G:M.tick=(n.x i).tick):rR (n.bY i M) B:=⟨fun j F=>by
 by_cases e:j=i
 ·rw[e,b_,h1,G];rw[e]at F;exact h.1 i F
 ·rw[eU _ _ _ _ e];exact h.1 j F,h.2⟩
theorem jI{aM:Nat}{n:Net}(h:eY aM n)(i:Nat)(hi:i<2)(M:Side)(s:Stp (n.x i) (n.x (1-i)) M)(b:Bd M)(m:M.aM=(n.x i).aM)(F:M.next=(n.x i).next):eY aM (n.bY i M):=
 h.set i hi M s b m n.cnt fun j G=>by
  split
  ·rename_i e;rw[e,F];exact h.ct i hi
  ·rfl
def vE(pk:List (Nat×List Fr)):List (Nat×List Fr):=pk.map fun y=>(y.1,y.2.map norm)
def Net.KL(n:Net)(i:Nat)(M:Side)(pk:List (Nat×List Fr)):Net:=
 {n.bY i M with bP:=n.bP++(vE pk).map (fun y=>(1-i,y)),cnt:=fun t=>if t=i then M.next else n.cnt t}
theorem Ye{aM:Nat}{n:Net}(hp:eY aM n)(i:Nat)(hi:i<2){M:Side}{pk:List (Nat×List Fr)}(o:PkO (n.x i) (n.x (1-i)) M pk):eY aM (n.KL i M pk):=by
 have g:=hp.set i hi M o.Ub o.bd o.mt (fun t=>if t=i then M.next else n.cnt t) (fun j _=>rfl);refine g.add _ (fun y I=>?_);obtain⟨z,hz,rfl⟩:=DT.1 I;obtain⟨x,H,rfl⟩:=DT.1 hz;obtain⟨f,lt,fr⟩:=o.ok x H;refine⟨by show 1-i<2;omega,?_⟩
 have F:(n.bY i M).x (1-(1-i))=M:=by rw[show 1-(1-i)=i by omega];exact b_ n i M
 have G:(n.bY i M).x (1-i)=n.x (1-i):=eU _ _ _ _ (by omega);show Fq aM ((n.bY i M).x (1-(1-i))) ((n.bY i M).x (1-i)) (x.1,x.2.map norm);rw[F,G];rw[hp.mt i hi]at f;exact VL f lt fr
theorem Yf{n:Net}{B:Nat}(h:rR n (B+1))(i:Nat){M:Side}{pk:List (Nat×List Fr)}{A:Side}(o:PkO (n.x i) A M pk)(t:M.tick=(n.x i).tick):rR (n.KL i M pk) B:=⟨fun j F=>by
 show((n.bY i M).x j).next+_<_/\((n.bY i M).x j).tick+B<_
 by_cases e:j=i
 ·rw[e,b_,t];rw[e]at F;have:=h.1 i F;have:=o.top;omega
 ·rw[eU _ _ _ _ e];have:=h.1 j F
  omega,by have:=h.2;show n.now+B<_;omega⟩
structure FlY (aM now c0:Nat) (j:Nat) (y:Nat×List Fr):Prop where
 c:PkC aM y
 no:y.1=c0+j
 ne:0<y.2.length
 kd:∀f∈y.2,f.kind=7->now<=f.deadline
theorem Yg{aM now:Nat}{A M:Side}{pk:List (Nat×List Fr)}(o:PkW A M pk)(U:A.aM=aM)(O:∀x∈pk,∀f∈x.2,f.kind=7->now<=f.deadline)(j:Nat)(K:j<(vE pk).length):FlY aM now A.next j ((vE pk).getD j (0,[])):=by
 have F:j<pk.length:=by simpa[vE]using K
 have H:pk.getD j (0,[])=pk[j]:=by rw[sQ,fA F];rfl
 have e:(vE pk).getD j (0,[])=((pk[j]).1,(pk[j]).2.map norm):=by
  unfold vE;rw[sQ,List.getElem?_map,fA F];rfl
 obtain⟨f,lt⟩:=o.ok _ (tT F);have n:=o.nm j F;rw[H]at n;rw[U]at f;obtain⟨b,_⟩:=xq f;rw[e];refine⟨b,n,by show 0<((pk[j]).2.map norm).length;rw[uj];exact List.length_pos_iff.2 f.ne,fun g I k=>?_⟩;obtain⟨g',G,rfl⟩:=DT.1 I;have sn:=(f.fs g' G).sn;rw[mQ g' sn]at k;rw[norm_eq g' sn,if_neg (by omega),if_neg (by omega),if_neg (by omega),if_neg (by omega),if_neg (by omega),if_neg (by omega),if_pos k];exact O _ (tT F) g' G k
theorem NJ{A M:Side}{pk:List (Nat×List Fr)}(o:PkW A M pk):(vE pk).map (fun y=>sV (aK y.1 y.2))=pk.map fun y=>sV (aK y.1 y.2):=by
 unfold vE;rw[List.map_map]
 refine List.map_congr_left fun x F=>?_
 show sV (aK x.1 (x.2.map norm))=_;rw[(xq (o.ok x F).1).2]
theorem Yh{n:Net}(i:Nat)(F:n.cnt i=(n.x i).next){M:Side}{pk:List (Nat×List Fr)}(o:PkW (n.x i) M pk):nj (n.bY i M) i (vE pk) (vE pk).length (vE pk).length=n.KL i M pk:=by
 have e:(fun t=>if t=i then(n.bY i M).cnt i+(vE pk).length else(n.bY i M).cnt t)=fun t=>if t=i then M.next else n.cnt t:=funext fun t=>by
  split
  ·show n.cnt i+_=_;rw[F,o.next];unfold vE;rw[uj]
  ·rfl
 unfold nj Net.KL;rw[e,List.take_length];rfl
theorem nM{n:Net}{i:Nat}{M:Side}(s:Sm (n.x i) M)(j k:Nat):ends n j k=ends (n.bY i M) j k:=by
 have h1:((n.bY i M).x j).out k={(((n.bY i M).x j).out k)with}:=rfl;unfold ends Jl
 have a:(((n.bY i M).x j).out k).bytes=((n.x j).out k).bytes/\(((n.bY i M).x j).out k).fin=((n.x j).out k).fin:=by
  by_cases e:j=i
  ·rw[e,b_];exact s.o k
  ·rw[eU _ _ _ _ e];exact⟨rfl,rfl⟩
 have b:(((n.bY i M).x (1-j)).inn k).read=((n.x (1-j)).inn k).read/\(((n.bY i M).x (1-j)).inn k).state=((n.x (1-j)).inn k).state:=by
  by_cases e:1-j=i
  ·rw[e,b_];exact s.i k
  ·rw[eU _ _ _ _ e];exact⟨rfl,rfl⟩
 rw[a.1,a.2,b.1,b.2]
section
theorem nL.jm{oZ:Own}{w w':World}{a:Ad}{n:Net}(h:nL (loc oZ w.heap.size) w a n w'):nL oZ w a n w':=by
 obtain⟨o,vb,h1,F⟩:=h;exact⟨o,vb,h1,F.jm⟩
theorem bL.loc{oZ:Own}{w:World}{a:Ad}{n:Net}{vb:Value}{E:Nat->Nat->aI}(h:bL oZ w a n vb E):bL (Sd.loc oZ w.heap.size) w a n vb E:=
 h.kp (T:=[]) ⟨rfl,rfl,rfl,nI _,fun _ _ _=>rfl,fun b hb=>fM oZ _ b hb⟩ (by simp)
structure kC (bQ:Own) (w0:World) (a:Ad) (L:List (Nat×TypeId×aI)) (n:Net) (w:World):Prop where
 ex:∃o vb,bL o w a n vb (ends n)/\Kp TN bQ o w0 w/\(∀x∈L,aA w x.1 x.2.1 x.2.2/\o x.1=0)/\(∀b,w.heap.size<=b->o b=0)
section
variable {bQ:Own} {w0 w w':World} {a:Ad} {L:List (Nat×TypeId×aI)} {n:Net}
theorem kC.ntf(h:kC bQ w0 a L n w):nL bQ w0 a n w:=by
 obtain⟨o,vb,h1,F,_⟩:=h.ex;exact⟨o,vb,h1,F⟩
theorem WZ:0∉TN:=fun e=>by have:=iK.1 e;omega
theorem kC.go{n':Net}{o o':Own}{G:Value}(O:Kp TN bQ o w0 w)(U:∀x∈L,aA w x.1 x.2.1 x.2.2/\o x.1=0)(I:bL o' w' a n' G (ends n'))(F:Kp TN o o' w w'):kC bQ w0 a L n' w':=by
 have K:Kp [] o' (Sd.loc o' w'.heap.size) w' w':=⟨rfl,rfl,rfl,nI _,fun _ _ _=>rfl,fun b hb=>fM o' _ b hb⟩;refine⟨_,G,I.loc,O.trans (F.trans (K.mono (by simp))),fun x V=>?_,fun b hb=>fD _ _ _ hb⟩;obtain⟨p,q⟩:=U x V;have H:=aO p F (by rw[q];exact WZ);exact⟨H,by rw[fM _ _ _ H.lt,F.ext _ p.lt];exact q⟩
theorem kC.below(h:kC bQ w0 a L n w)(hb:aD w w'):kC bQ w0 a L n w':=by
 obtain⟨o,vb,h1,F,G,_⟩:=h.ex;exact kC.go F G (h1.below hb) (Kp.below hb)
theorem kC.alloc(h:kC bQ w0 a L n w)(t:TypeId)(l:aI):kC bQ w0 a ((w.heap.size,t,l)::L) n (w.alloc (.cells l.toArray t)):=by
 obtain⟨o,vb,h1,O,H,I⟩:=h.ex;have hb:aD w (w.alloc (.cells l.toArray t)):=(Am _ w).alloc (nI _) _;have K:Kp [] o o w (w.alloc (.cells l.toArray t)):=Kp.below hb;refine⟨o,vb,h1.below hb,O.trans (Kp.below hb),fun x F=>?_,fun b G=>I b (Kt hb.size G)⟩
 rcases List.mem_cons.1 F with rfl|F
 ·exact⟨aA.new w t l,I _ (nI _)⟩
 ·exact⟨aO (H x F).1 K (by simp),(H x F).2⟩
theorem BO{oZ:Own}{vb:Value}(h:bL oZ w a n vb (ends n)):kC (Sd.loc oZ w.heap.size) w a [] n w:=
 ⟨_,vb,h.loc,Kp.refl _ _ _,fun x F=>(by cases F),fun b hb=>fD _ _ _ hb⟩
theorem kC.cell(h:kC bQ w0 a L n w){b:Nat}{t:TypeId}{l:aI}(G:(b,t,l)∈L)(j:Nat):w.cell? (aj b j)=l[j]?:=by
 obtain⟨o,vb,h1,H,F,I⟩:=h.ex;exact(F _ G).1.cell j
theorem kC.xc(h:kC bQ w0 a L n w)(i:Nat)(hi:i<2):w.cell? (aj a.N 0)=some (aS a.xb 2 a.xc)/\w.cell? (aj a.xb i)=some (ay (a.C i) 0):=by
 obtain⟨o,vb,h1,F,G,H⟩:=h.ex;exact⟨h1.cells.1,(h1.xs i hi).1⟩
theorem kC.qbc(h:kC bQ w0 a L n w):∃H c0,w.cell? (aj a.N 8)=some (.slice H n.bP.length c0)/\∀k,k<n.bP.length->∃g,H=some (aj g 0)/\w.cell? (aj g (k*2))=some (iZ ((n.bP.getD k (0,0,[])).1:Int))/\w.cell? (aj g (k*2+1))=some (sV (aK (n.bP.getD k (0,0,[])).2.1 (n.bP.getD k (0,0,[])).2.2)):=by
 obtain⟨o,vb,h1,U,V,X⟩:=h.ex;obtain⟨_,_,_,_,_,c8,_⟩:=h1.cells;obtain⟨H,c0,rfl⟩:=fC h1.bg;refine⟨H,c0,c8,fun k I=>?_⟩
 rcases h1.bg with⟨_,e,_⟩|⟨g,cap,cs,ev,ho,hB,hc1,hc2,hc3,hc4,Fp,_⟩
 ·omega
 simp only[Value.slice.injEq]at ev;have hd:(gI n.bP).drop (k*2)=gI (n.bP.drop k):=(qx n.bP k).symm
 have G:n.bP.drop k=n.bP.getD k (0,0,[])::n.bP.drop (k+1):=by
  rw[List.drop_eq_getElem_cons I,sQ,fA I];rfl
 have F:∀j v,j<n.bP.length*2->(gI n.bP)[j]?=some v->w.cell? (aj g j)=some v:=fun j v O K=>by
  rw[hB.cell];rw[<-Fp,List.getElem?_take,if_pos O]at K;exact K
 refine⟨g,ev.1,F _ _ (by omega) ?_,F _ _ (by omega) ?_⟩
 ·have:((gI n.bP).drop (k*2))[0]?=(gI n.bP)[k*2]?:=by rw[Av];rfl
  rw[<-this,hd,G];rfl
 ·have:((gI n.bP).drop (k*2))[1]?=(gI n.bP)[k*2+1]?:=by rw[Av]
  rw[<-this,hd,G];rfl
theorem pR(i:Nat)(hi:i<2):∀x∈T0 (60*(i+1)),x∈TN:=fun x F=>iK.2 (by have:=bN.1 F;omega)
theorem KM(h:kC bQ w0 a L n w)(k:Nat)(K:k<n.bP.length)(hl:n.bP.length<=1000000000):
  Calls prog 67 #[ay a.N 0,iZ k] w fun e w'=>e=.returned (.tuple #[])/\kC bQ w0 a L {n with bP:=n.bP.eraseIdx k} w':=by
 obtain⟨o,vb,h1,H,I,_⟩:=h.ex;refine(VU h1 k K hl).mono ?_;rintro e w' ⟨rfl,U,o',F,G⟩;exact⟨rfl,kC.go H I (n':={n with bP:=n.bP.eraseIdx k}) F (G.mono fun x O=>iK.2 (by simp at O;omega))⟩
theorem VX(h:kC bQ w0 a L n w)(hp:eY a.aM n)(hb:rR n 0)(G:a.aM<=400)(i:Nat)(hi:i<2)(y:Nat×List Fr)(I:Fq a.aM (n.x (1-i)) (n.x i) y):
  Calls prog 29 #[(ay (a.C i) 0),sV (aK y.1 y.2)] w fun e w'=>e=.returned (.tuple #[iZ 0,(iZ (-1))])/\∃F,(n.x i).iQ y.1 y.2 F 0/\kC bQ w0 a L (n.bY i F) w':=by
 obtain⟨o,vb,h1,U,V,_⟩:=h.ex;refine(KH h1 hp hb i hi y I G).mono ?_;rintro e w' ⟨rfl,F,H,o',K,O⟩;have s:=zI (fun f X=>by rcases(I.fr f X).kd with e|e|e|e<;>omega) H;exact⟨rfl,F,H,kC.go U V (K.Al fun j k _ _=>nM s j k) (O.mono (pR i hi))⟩
theorem Yi(h:kC bQ w0 a L n w)(hp:eY a.aM n)(i:Nat)(hi:i<2)(l:List UInt8)(hl:l.length<=1000000)(K:lZ false 0 [] l):
  Calls prog 29 #[(ay (a.C i) 0),sV l] w fun e w'=>e=.returned (.tuple #[iZ 7,(iZ (-1))])/\kC bQ w0 a L n w':=by
 obtain⟨o,vb,h1,H,I,_⟩:=h.ex;refine(FB h1 hp i hi l hl K).mono ?_;rintro e w' ⟨rfl,o',F,G⟩;exact⟨rfl,kC.go H I F (G.mono (pR i hi))⟩
theorem KN(h:kC bQ w0 a L n w)(i:Nat)(hi:i<2):
  Calls prog 30 #[ay a.N 0,iZ i] w fun e w'=>e=.returned (.bool true)/\kC bQ w0 a L n w':=by
 obtain⟨o,vb,h1,H,I,_⟩:=h.ex;refine(KI h1 i hi).mono ?_;rintro e w' ⟨rfl,o',F,G⟩;exact⟨rfl,kC.go H I F (G.mono (pR i hi))⟩
structure KO (aM:Nat) (n n':Net):Prop where
 p:eY aM n'
 nx:∀i,i<2->(n'.x i).next=(n.x i).next/\(n'.x i).tick=(n.x i).tick
 now:n'.now=n.now
 bl:n'.bP.length<=n.bP.length
theorem t_{aM:Nat}(h:eY aM n):KO aM n n:=⟨h,fun _ _=>⟨rfl,rfl⟩,rfl,nI _⟩
theorem FI{aM:Nat}(h:eY aM n)(k:Nat):KO aM n {n with bP:=n.bP.eraseIdx k}:=
 ⟨h.sub (n.bP.eraseIdx k) (fun _ F=>List.mem_of_mem_eraseIdx F) n.now,fun _ _=>⟨rfl,rfl⟩,rfl,by show(n.bP.eraseIdx k).length<=_;rw[List.length_eraseIdx];split<;>omega⟩
theorem RQ{aM:Nat}{n1:Net}(h:KO aM n n1)(hb:rR n1 0)(i:Nat)(hi:i<2)(y:Nat×List Fr)(I:Fq aM (n1.x (1-i)) (n1.x i) y){F:Side}{e:Nat}(H:(n1.x i).iQ y.1 y.2 F e):KO aM n (n1.bY i F):=by
 have K:=(hb.1 (1-i) (by omega)).1;obtain⟨_,s,b,nx,mt⟩:=EI (h.p.loc i hi) (h.p.loc (1-i) (by omega)) (h.p.two i hi) (h.p.two' i hi) (h.p.bd i hi) (h.p.bd (1-i) (by omega)) y.1 y.2 I.lt (by omega) I.fr H;refine⟨jI h.p i hi F s b mt nx,fun j G=>?_,h.now,h.bl⟩
 by_cases e:j=i
 ·rw[e,b_,nx,EZ H];rw[e]at G;exact h.nx i G
 ·rw[eU _ _ _ _ e];exact h.nx j G
theorem KO.nb{aM B:Nat}{n':Net}(h:KO aM n n')(hb:rR n B):rR n' B:=
 ⟨fun i hi=>by rw[(h.nx i hi).1,(h.nx i hi).2];exact hb.1 i hi,by rw[h.now];exact hb.2⟩
end
theorem VY(x b:UInt8)(hb:b≠0):x≠x ^^^ b:=fun h=>by
 have F:=congrArg UInt8.toNat h;rw[UInt8.toNat_xor]at F;have G:=Crc.xB (show x.toNat ^^^ 0=x.toNat ^^^ b.toNat by rw[Nat.xor_zero];exact F);exact hb (UInt8.toNat_inj.1 G.symm)
def spD(D:ByteArray)(q:Nat)(x:UInt8):ByteArray:=D.extract 0 q++⟨#[x]⟩++D.extract (q+1) D.size
theorem RS(l:List UInt8)(q:Nat)(hq:q<l.length)(x:UInt8):spD ⟨l.toArray⟩ q x=⟨(l.set q x).toArray⟩:=by
 unfold spD
 ext1
 rw[tL,tL,wz,wz];apply Array.toList_inj.1;have hs:(⟨l.toArray⟩:ByteArray).size=l.length:=(iI l).2;rw[hs,List.set_eq_take_append_cons_drop,if_pos hq];simp;exact List.take_of_length_le (by rw[List.length_drop];omega)
theorem NK(n:Nat)(fs:List Fr)(D:ByteArray)(G:D=⟨(aK n fs).toArray⟩)(q:Nat)(hq:q<D.size)(b:UInt8)(hb:b≠0):∃l,.string (spD D q (D[q] ^^^ b))=sV l/\l.length=D.size/\lZ false 0 [] l:=by
 subst G;have hs:(⟨(aK n fs).toArray⟩:ByteArray).size=(aK n fs).length:=(iI _).2
 have F:q<(aK n fs).length:=by rw[<-hs];exact hq
 refine⟨(aK n fs).set q ((aK n fs)[q] ^^^ b),?_,by rw[List.length_set,hs],IL n fs q _ F (VY _ _ hb)⟩;have e:(⟨(aK n fs).toArray⟩:ByteArray)[q]=(aK n fs)[q]:=rfl;rw[e,RS _ q F];rfl
theorem Jo(w:World)(x b:UInt8)(X:Int)(F:X=(b.toNat:Int)):(convert 60 9 (aS w.heap.size 1 1)).run prog ((w.alloc (.cells #[.int .u8 (bits .xor .u8 (x.toNat:Int) X)] 5)).drew)=.ok (.string ⟨#[x ^^^ b]⟩) ((w.alloc (.cells #[.int .u8 (bits .xor .u8 (x.toNat:Int) X)] 5)).drew):=by
 have e:bits .xor .u8 (x.toNat:Int) X=((x ^^^ b).toNat:Int):=by
  rw[F,u8_xor_nat _ _ x.toNat_lt b.toNat_lt,UInt8.toNat_xor]
 rw[e]
 have:=run_convert_bytes_back (P:=prog) ((w.alloc (.cells #[.int .u8 ((x ^^^ b).toNat:Int)] 5)).drew) 60 9 5 (aj w.heap.size 0) 1 [x ^^^ b] u29 (by kernel_rfl) u9 (fun j G=>by
  obtain rfl:j=0:=by simpa using G
  have:=(aA.new w 5 [.int .u8 ((x ^^^ b).toNat:Int)]).cell 0
  exact this)
 exact this
end
section
section
variable {oZ:Own} {w:World} {a:Ad} {n:Net} {vb:Value}
def nW(K Sd A B:Int)(S:ByteArray):aI:=[iZ K,iZ Sd,iZ A,iZ B,.string S]
def nN(x:Int):Prop:= -9223372036854775808<=x/\x<=9223372036854775807
theorem RU(h:bL oZ w a n vb (ends n))(hp:eY a.aM n)(hb:rR n 0)(xn:a.aM<=400)(hl:n.bP.length<=1000000000)(K Sd A B:Int)(S:ByteArray)(hA:nN A)(hB:nN B):
  Calls prog 39 #[ay a.N 0,.agg #[iZ K,iZ Sd,iZ A,iZ B,.string S]] w fun e w'=>e=.returned (.bool true)/\∃n',KO a.aM n n'/\(n.bP=[]->n'=n)/\nL oZ w a n' w':=by
 have H0:=BO h;have H1:=H0.alloc 37 (nW K Sd A B S);obtain⟨a0,c0,p8,VZ⟩:=H1.qbc;have HP:=au hp;have HB:=au hb;have HA:=au hA;have wU:=au hB;have ZF:=au VZ;obtain⟨m,hm⟩:∃m,m=n.bP.length:=⟨_,rfl⟩;rw[<-hm]at p8 hl;have HM:=au hm;obtain⟨w1,hj⟩:∃w1,w1=w.alloc (.cells (nW K Sd A B S).toArray 37):=⟨_,rfl⟩;rw[<-hj]at p8 H1;have b0:=H1.cell (.head _) 0;have b2:=H1.cell (.head _) 2;have b3:=H1.cell (.head _) 3;have b4:=H1.cell (.head _) 4;simp only[nW,mR,fB]at b0 b2 b3 b4;have ha:=au H1;clear H0 H1 h hp hb hA hB VZ hm;go_enter func39,ntmps39;have FJ:w.alloc (.cells #[iZ K,iZ Sd,iZ A,iZ B,.string S] 37)=w1:=hj.symm;clear hj
 by_cases h0:m=0
 ·subst h0;go_wp2;go_ret;exact⟨rfl,n,t_ HP.out,fun _=>rfl,ha.out.ntf.jm⟩
 have xp:¬((m:Int)=0):=by omega
 obtain⟨k,hk⟩:∃k,k=bX A m:=⟨_,rfl⟩
 have xt:k<m:=by rw[hk];exact fI A m (by omega)
 have xf:Hid (∀w,Calls prog 32 #[iZ A,iZ m] w fun e w'=>e=.returned (iZ k)/\w'=w):=fun w=>by
  rw[hk];exact xu A m HA.out.1 HA.out.2 (by omega) (by omega) w
 obtain⟨g,rfl,d0,d1⟩:=ZF.out k (by have:=HM.out;omega);obtain⟨y,hy⟩:∃y,y=n.bP.getD k (0,0,[]):=⟨_,rfl⟩;rw[<-hy]at d0 d1
 have I:y∈n.bP:=by
  have:k<n.bP.length:=by have:=HM.out;omega
  rw[hy,sQ,fA this];exact tT _
 obtain⟨G,xa⟩:=HP.out.bP y I;have hf:=au xa
 have hc:Hid (n.bP≠[]):=fun e=>by rw[e]at I;cases I
 have xx:=au I;obtain⟨i,hi⟩:∃i,i=y.1:=⟨_,rfl⟩;obtain⟨D,hD⟩:∃D:ByteArray,D=⟨(aK y.2.1 y.2.2).toArray⟩:=⟨_,rfl⟩;unfold sV at d1;rw[<-hi]at d0 G;rw[<-hD]at d1;have HI:=au hi;have HD:=au hD;rw[show w.alloc (.cells (nW K Sd A B S).toArray 37)=w1 from FJ]at d0 d1;clear hi hD hy xa I hk ZF;go_wp2;clear FJ
 go_quiet ((go_at_call 32;exact Calls.quiet_of_same (xf.out _)))
 obtain⟨w2,V⟩:∃w2,w2=w1.drewN nq:=⟨_,rfl⟩
 have e8:w2.cell? (aj a.N 8)=some (aS g m c0):=by rw[V];exact p8
 have c0:w2.cell? (aj g (k*2))=some (iZ i):=by rw[V];exact d0
 have c1:w2.cell? (aj g (k*2+1))=some (.string D):=by rw[V];exact d1
 have X:=(ha.out.below (dF w1 nq)).alloc 62 [iZ i,.string D];rw[<-V]at X ⊢;obtain⟨w3,hn⟩:∃w3,w3=w2.alloc (.cells [iZ i,.string D].toArray 62):=⟨_,rfl⟩;obtain⟨fb,Dp⟩:∃fb,fb=w2.heap.size:=⟨_,rfl⟩;rw[<-hn,<-Dp]at X;have f0:=X.cell (.head _) 0;have f1:=X.cell (.head _) 1;have e0:=X.cell (.tail _ (.head _)) 0;have e3:=X.cell (.tail _ (.head _)) 3;have e4:=X.cell (.tail _ (.head _)) 4;obtain⟨x0,x1⟩:=X.xc i G;simp only[nW,mR,fB]at f0 f1 e0 e3 e4;have QG:w2.alloc (.cells #[iZ i,.string D] 62)=w3:=hn.symm;have xy:w2.heap.size=fb:=Dp.symm;have Uy:=au X;clear V b0 b2 b3 b4 p8 d0 d1 ha hn Dp X
 by_cases k8:K=8
 ·subst k8;have h9:=au (KM Uy.out k (by have:=HM.out;omega) (by have:=HM.out;omega))
  go_wp2_with (go_at_call 67;refine h9.out.mono ?_;rintro e H ⟨rfl,h4⟩)
  go_ret;exact⟨rfl,_,FI HP.out k,fun e=>absurd e hc.out,h4.ntf.jm⟩
 by_cases k7:K=7
 ·subst k7;obtain⟨q,hq⟩:∃q,q=bX B 2:=⟨_,rfl⟩
  have Yj:Hid (∀w,Calls prog 32 #[iZ B,iZ 2] w fun e w'=>e=.returned (iZ q)/\w'=w):=fun w=>by
   rw[hq];exact xu B 2 wU.out.1 wU.out.2 (by omega) (by omega) w
  clear hq
  have HY:Hid (∀n1 H,kC (loc oZ w.heap.size) w a [(fb,62,[iZ i,.string D]),(w.heap.size,37,nW 7 Sd A B S)] n1 H->KO a.aM n n1->Fq a.aM (n1.x (1-i)) (n1.x i) y.2->
    Calls prog 29 #[(ay (a.C i) 0),.string D] H fun e O=>e=.returned (.tuple #[iZ 0,(iZ (-1))])/\∃n2,KO a.aM n n2/\kC (loc oZ w.heap.size) w a [(fb,62,[iZ i,.string D]),(w.heap.size,37,nW 7 Sd A B S)] n2 O):=fun n1 H h1 Z h3=>by
   have:=VX h1 Z.p (Z.nb HB.out) xn i G y.2 h3;unfold sV at this;rw[<-HD.out]at this;refine this.mono ?_;rintro e O ⟨rfl,M1,r,h5⟩;exact⟨rfl,_,RQ Z (Z.nb HB.out) i G y.2 h3 r,h5⟩
  have hr:Hid (Fq a.aM (n.x (1-i)) (n.x i) y.2):=by rw[HI.out];exact hf.out
  have h9:=au (KM Uy.out k (by have:=HM.out;omega) (by have:=HM.out;omega))
  have x6:q=0\/¬((q:Int)=0):=by omega
  rcases x6 with rfl|x6
  all_goals go_wp2_with (first|(go_at_call 32;refine(Yj.out _).mono ?_;rintro e H ⟨rfl,ho⟩;subst ho)|(go_at_call 67;refine h9.out.mono ?_;rintro e H ⟨rfl,h4⟩))
  all_goals(
   obtain⟨n1,H4,HO,xd⟩:∃n1,Hid (kC (loc oZ w.heap.size) w a [(fb,62,[iZ i,.string D]),(w.heap.size,37,nW 7 Sd A B S)] n1 H)/\Hid (KO a.aM n n1)/\Hid (Fq a.aM (n1.x (1-i)) (n1.x i) y.2):=(by first|exact⟨_,h4,FI HP.out k,hr.out⟩|exact⟨n,Uy.out,t_ HP.out,hr.out⟩);clear f0 f1 e0 e3 e4 x0 x1 Uy QG
   (try clear h4))
  all_goals(
   have f0:=H4.out.cell (.head _) 0;have f1:=H4.out.cell (.head _) 1;obtain⟨x0,x1⟩:=H4.out.xc i G;simp only[mR,fB]at f0 f1
   have he:Hid (Calls prog 29 #[(ay (a.C i) 0),.string D] H.drew fun e O=>e=.returned (.tuple #[iZ 0,(iZ (-1))])/\(O.cell? (aj a.N 0)=some (aS a.xb 2 a.xc)/\O.cell? (aj a.xb i)=some (ay (a.C i) 0)/\O.cell? (aj fb 0)=some (iZ i)/\O.cell? (aj fb 1)=some (.string D))/\Hid (∃n2,KO a.aM n n2/\kC (loc oZ w.heap.size) w a [(fb,62,[iZ i,.string D]),(w.heap.size,37,nW 7 Sd A B S)] n2 O)):=by
    refine(HY.out n1 H.drew (H4.out.below ⟨rfl,rfl,rfl,nI _,fun _ _=>rfl⟩) HO.out xd.out).mono ?_;rintro e O ⟨rfl,n2,h6,h7⟩;exact⟨rfl,⟨(h7.xc i G).1,(h7.xc i G).2,h7.cell (.head _) 0,h7.cell (.head _) 1⟩,n2,h6,h7⟩
   have xl:(0:Int)<=(i:Int):=by omega
   have xm:(i:Int)<2:=by omega
   go_region_held3 (fun y=>y.cell? (aj a.N 0)=some (aS a.xb 2 a.xc)/\y.cell? (aj a.xb i)=some (ay (a.C i) 0)/\y.cell? (aj fb 0)=some (iZ i)/\y.cell? (aj fb 1)=some (.string D)) (first|assumption|go_keep) ((first|(go_at_call 29;refine he.out.mono ?_;rintro e O ⟨rfl,xi,x7⟩)))
   obtain⟨_,_,s0,_⟩:=xi;obtain⟨n2,x3,hv⟩:=x7.out;have xe:=au x3;have h8:=au (KN hv i G);clear x3 hv x7 f0 f1 x0 x1
   go_wp2_with (go_at_call 30;refine h8.out.mono ?_;rintro e w6 ⟨rfl,h6⟩;have H6:=au h6;clear h6)
   go_ret
   exact⟨rfl,n2,xe.out,fun e=>absurd e hc.out,H6.out.ntf.jm⟩)
 by_cases k9:K=9
 ·subst k9
  have hx:D.size=(aK y.2.1 y.2.2).length:=by rw[HD.out];exact(iI _).2
  have hw:0<D.size:=by rw[hx];exact hf.out.ps
  have xr:D.size<=400:=by have:=hf.out.sz;omega
  obtain⟨q,hq⟩:∃q,q=bX B D.size:=⟨_,rfl⟩
  have xo:q<D.size:=by rw[hq];exact fI B D.size hw
  have Yj:Hid (∀w,Calls prog 32 #[iZ B,iZ D.size] w fun e w'=>e=.returned (iZ q)/\w'=w):=fun w=>by
   rw[hq];exact xu B D.size wU.out.1 wU.out.2 hw (by omega) w
  clear hq hx
  have hu:Hid (∀(b:UInt8) H,b≠0->kC (loc oZ w.heap.size) w a [(fb,62,[iZ i,.string D]),(w.heap.size,37,nW 9 Sd A B S)] n H->
    Calls prog 29 #[(ay (a.C i) 0),.string (D.extract 0 q++⟨#[D[q] ^^^ b]⟩++D.extract (q+1) D.size)] H fun e y=>e=.returned (.tuple #[iZ 7,(iZ (-1))])/\(y.cell? (aj a.N 0)=some (aS a.xb 2 a.xc)/\y.cell? (aj a.xb i)=some (ay (a.C i) 0)/\y.cell? (aj fb 0)=some (iZ i)/\y.cell? (aj fb 1)=some (.string D))/\Hid (kC (loc oZ w.heap.size) w a [(fb,62,[iZ i,.string D]),(w.heap.size,37,nW 9 Sd A B S)] n y)):=fun b H hb h4=>by
   obtain⟨l,h1,Z,h3⟩:=NK _ _ D HD.out q xo b hb;unfold spD at h1;rw[h1];refine(Yi h4 HP.out i G l (by omega) h3).mono ?_;rintro e O ⟨rfl,h5⟩;exact⟨rfl,⟨(h5.xc i G).1,(h5.xc i G).2,h5.cell (.head _) 0,h5.cell (.head _) 1⟩,h5⟩
  have g4:(q:Int)+1<=(D.size:Int):=by omega
  have g1:(0:Int)<=(q:Int):=by omega
  have g2:(q:Int)<=(D.size:Int):=by omega
  have g3:(q:Int)<(D.size:Int):=by omega
  have g7:(0:Int)<=(q:Int)+1:=by omega
  have xv:IntKind.i64.wrap ((q:Int)+1)=(q:Int)+1:=by rw[IntKind.wrap_i64];omega
  have xl:(0:Int)<=(i:Int):=by omega
  have xm:(i:Int)<2:=by omega
  go_wp2_with (go_at_call 32;refine(Yj.out _).mono ?_;rintro e H ⟨rfl,ho⟩;subst ho)
  all_goals(first
   |(rw[show Value.int .u8 1=Value.int .u8 (((1:UInt8).toNat:Nat):Int)from rfl];have hg:(1:UInt8)≠0:=(by decide);generalize (1:UInt8)=b at hg ⊢)
   |(have Z:((S[0].toNat:Int) != 0)=true:=(by assumption);have hg:S[0]≠0:=(fun e=>by rw[e]at Z;exact absurd Z (by decide));clear Z;generalize S[0]=b at *))
  all_goals(
   refine wp_region_noPanic ?_;refine wp_region_held_drew (S:=fun y=>y.cell? (aj fb 1)=some (.string D)) (by kernel_rfl) (by simpa using f1) (fun U=>?_);refine wpAnyH_take (i:=0) (oi:=_) (v:=?_) rfl (by kernel_rfl) (by kernel_rfl) (by kernel_rfl) (fun _ _ _ h=>h) (Or.inl ⟨by rfl,?_⟩) (by assumption) ?_
   rotate_left
   ·(intro w F;(try dsimp only at F);go_simp;try with_reducible rfl)
   refine wpAnyH_take (i:=1) (oi:=_) (v:=?_) rfl (by kernel_rfl) (by kernel_rfl) (by kernel_rfl) (fun _ _ _ h=>h) (Or.inl ⟨by rfl,?_⟩) (by assumption) ?_
   rotate_left
   ·(intro w F;(try dsimp only at F);go_simp;try with_reducible rfl)
   refine wpAnyH_take (i:=2) (oi:=_) (v:=?_) rfl (by kernel_rfl) (by kernel_rfl) (by kernel_rfl) (fun _ _ _ h=>h) (Or.inl ⟨by rfl,?_⟩) (by assumption) ?_
   rotate_left
   ·(intro w F;(try dsimp only at F);go_simp;try with_reducible rfl)
   refine wpAnyH_take (i:=3) (oi:=_) (v:=?_) rfl (by kernel_rfl) (by kernel_rfl) (by kernel_rfl) (fun _ _ _ h=>h) (Or.inl ⟨by rfl,?_⟩) (by assumption) ?_
   rotate_left
   ·(intro w F;(try dsimp only at F);go_simp;try with_reducible rfl)
   refine wpAnyH_take (i:=4) (oi:=_) (v:=?_) rfl (by kernel_rfl) (by kernel_rfl) (by kernel_rfl) (fun _ _ _ h=>h) (Or.inl ⟨by rfl,?_⟩) (by assumption) ?_
   rotate_left
   ·(intro w F;(try dsimp only at F);go_simp;try with_reducible rfl)
   refine wpAnyH_take (i:=5) (oi:=_) (v:=?_) rfl (by kernel_rfl) (by kernel_rfl) (by kernel_rfl) (fun _ _ _ h=>h) (Or.inl ⟨by rfl,?_⟩) (by assumption) ?_
   rotate_left
   ·(intro w F;(try dsimp only at F);go_simp;try with_reducible rfl)
   refine wpAnyH_take (i:=6) (oi:=_) (v:=?_) rfl (by kernel_rfl) (by kernel_rfl) (by kernel_rfl) (fun _ _ _ h=>h) (Or.inl ⟨by rfl,?_⟩) (by assumption) ?_
   rotate_left
   ·(intro w F;(try dsimp only at F);go_simp;try with_reducible rfl)
   refine wpAnyH_take (i:=7) (oi:=_) (v:=?_) rfl (by kernel_rfl) (by kernel_rfl) (by kernel_rfl) (fun _ _ _ h=>h) (Or.inl ⟨by rfl,?_⟩) (by assumption) ?_
   rotate_left
   ·(intro w F;(try dsimp only at F);go_simp;try with_reducible rfl)
   refine wpAnyH_take (i:=8) (oi:=_) (v:=?_) rfl (by kernel_rfl) (by kernel_rfl) (by kernel_rfl) (fun _ _ _ h=>h) (Or.inl ⟨by rfl,?_⟩) (by assumption) ?_
   rotate_left
   ·(intro w F;(try dsimp only at F);go_simp;try with_reducible rfl)
   refine wpAnyH_take (i:=9) (oi:=_) (v:=?_) rfl (by kernel_rfl) (by kernel_rfl) (by kernel_rfl) (fun _ _ _ h=>h) (Or.inl ⟨by rfl,?_⟩) (by assumption) ?_
   rotate_left
   ·(intro w F;(try dsimp only at F);go_simp;try with_reducible rfl)
   refine wpAnyH_take (i:=13) (oi:=_) (v:=?_) rfl (by kernel_rfl) (by kernel_rfl) (by kernel_rfl) (fun _ _ _ h=>h) (Or.inl ⟨by rfl,?_⟩) (by assumption) ?_
   rotate_left
   ·(intro w F;(try dsimp only at F);go_simp;try with_reducible rfl)
   refine wpAnyH_take (i:=14) (oi:=_) (v:=?_) rfl (by kernel_rfl) (by kernel_rfl) (by kernel_rfl) (fun _ _ _ h=>h) (Or.inl ⟨by rfl,?_⟩) (by assumption) ?_
   rotate_left
   ·(intro w F;(try dsimp only at F);go_simp;try with_reducible rfl)
   refine wpAnyH_take (i:=15) (oi:=_) (v:=?_) rfl (by kernel_rfl) (by kernel_rfl) (by kernel_rfl) (fun _ _ _ h=>h) (Or.inl ⟨by rfl,?_⟩) (by assumption) ?_
   rotate_left
   ·(intro w F;(try dsimp only at F);go_simp;try with_reducible rfl)
   refine wpAnyH_take (i:=16) (oi:=_) (v:=?_) rfl (by kernel_rfl) (by kernel_rfl) (by kernel_rfl) (fun _ _ _ h=>h) (Or.inl ⟨by rfl,?_⟩) (by assumption) ?_
   rotate_left
   ·(intro w F;(try dsimp only at F);go_simp;try with_reducible rfl)
   refine wpAnyH_take (i:=17) (oi:=_) (v:=?_) rfl (by kernel_rfl) (by kernel_rfl) (by kernel_rfl) (fun _ _ _ h=>h) (Or.inl ⟨by rfl,?_⟩) (by assumption) ?_
   rotate_left
   ·(intro w F;(try dsimp only at F);go_simp;try with_reducible rfl)
   simp only[Act.put,List.setIfInBounds_toArray];refine wpAnyH_ready (rs:=[10]) (by kernel_rfl) (by simp) ?_;refine AllReadyH.cons (o:=_) rfl (fun K hK=>?_) AllReadyH.nil;go_simp;have x5:=Jo H D[q] b _ rfl;have x4:aD H ((H.alloc (.cells #[.int .u8 (bits .xor .u8 (D[q].toNat:Int) (b.toNat:Int))] 5)).drew):=((Am _ H).alloc (nI _) _).drew;have H5:=au (Uy.out.below x4);have f5:=H5.out.cell (.head _) 1;simp only[mR,fB]at f5;obtain⟨O,x9⟩:∃O,O=(H.alloc (.cells #[.int .u8 (bits .xor .u8 (D[q].toNat:Int) (b.toNat:Int))] 5)).drew:=⟨_,rfl⟩;rw[<-x9]at x5 f5 H5 ⊢;refine hK.out _ _ f5 (fun U=>?_);clear hK K x4 x9;refine wpAnyH_ready (rs:=[11]) (by kernel_rfl) (by simp) ?_;refine AllReadyH.cons (o:=_) rfl (fun K hK=>?_) AllReadyH.nil;go_simp;refine hK.out _ _ f5 (fun U=>?_);clear hK K x5;refine wpAnyH_take (i:=12) (oi:=_) (v:=?_) rfl (by kernel_rfl) (by kernel_rfl) (by kernel_rfl) (fun _ _ _ h=>h) (Or.inl ⟨by rfl,?_⟩) (by assumption) ?_
   rotate_left
   ·(intro w F;(try dsimp only at F);go_simp;rw[if_neg (by omega)])
   refine wpAnyH_take (i:=18) (oi:=_) (v:=?_) rfl (by kernel_rfl) (by kernel_rfl) (by kernel_rfl) (fun _ _ _ h=>h) (Or.inl ⟨by rfl,?_⟩) (by assumption) ?_
   rotate_left
   ·(intro w F;(try dsimp only at F);go_simp;rw[if_neg (by omega)])
   refine wpAnyH_take (i:=19) (oi:=_) (v:=?_) rfl (by kernel_rfl) (by kernel_rfl) (by kernel_rfl) (fun _ _ _ h=>h) (Or.inl ⟨by rfl,?_⟩) (by assumption) ?_
   rotate_left
   ·(intro w F;(try dsimp only at F);go_simp;try with_reducible rfl)
   refine wpAnyH_done (by kernel_rfl) ?_ _;refine NoPanic.normal ?_;clear f0 f1 e0 e3 e4 x0 x1 Uy;have f0:=H5.out.cell (.head _) 0;have f1:=H5.out.cell (.head _) 1;obtain⟨x0,x1⟩:=H5.out.xc i G;simp only[mR,fB]at f0 f1;have he:=au (hu.out b O.drew hg (H5.out.below ⟨rfl,rfl,rfl,nI _,fun _ _=>rfl⟩));clear f5 hu;go_wp2;generalize D.extract 0 q++⟨#[D[q] ^^^ b]⟩++D.extract (q+1) D.size=D2 at *
   go_region_held3 (fun y=>y.cell? (aj a.N 0)=some (aS a.xb 2 a.xc)/\y.cell? (aj a.xb i)=some (ay (a.C i) 0)/\y.cell? (aj fb 0)=some (iZ i)/\y.cell? (aj fb 1)=some (.string D)) (first|assumption|go_keep) ((first|(go_at_call 29;refine he.out.mono ?_;rintro e w6 ⟨rfl,xj,x8⟩)))
   obtain⟨_,_,s0,_⟩:=xj;have h8:=au (KN x8.out i G);clear x8 f0 f1 x0 x1
   go_wp2_with (go_at_call 30;refine h8.out.mono ?_;rintro e w7 ⟨rfl,h7⟩;have H7:=au h7;clear h7)
   go_ret
   exact⟨rfl,n,t_ HP.out,fun e=>absurd e hc.out,H7.out.ntf.jm⟩)
 go_wp2;go_ret;exact⟨rfl,n,t_ HP.out,fun _=>rfl,Uy.out.ntf.jm⟩
end

end
section
theorem iH(c x:Int)(h:nN c)(F:0<x/\x<=1000)(w:World):Calls prog 32 #[iZ c,iZ x] w fun e w'=>e=.returned (iZ (bX c x.toNat:Nat))/\w'=w:=by
 have:=xu c x.toNat h.1 h.2 (by omega) (by omega) w;rwa[Int.toNat_of_nonneg (by omega)]at this
theorem Yk(N xb xc eb ec el Fy e C i k:Nat)(hi:i<2)(hk:k<8)(Sd A B:Int)(h5:nN Sd)(hA:nN A)(pi:i=bX Sd 2)(pk:k=bX A 8)(S G:ByteArray)(_hS:S.size<=1000000)(h4:G.size<=2048)(fin:Bool)(code:Nat)(w w1:World)(R wR:World->Prop)(K:w1=w.alloc (.cells (nW 1 Sd A B S).toArray 37))(c0:w1.cell? (aj N 0)=some (aS xb 2 xc))(c1:w1.cell? (aj N 1)=some (aS eb 2 ec))(x1:w1.cell? (aj xb i)=some (ay C 0))(e1:w1.cell? (aj eb i)=some (aS el 8 Fy))(e2:w1.cell? (aj el k)=some (ay e 0))(HC:Calls prog 34 #[ay C 0,iZ k,.string S] w1 fun x w2=>x=.returned (iZ code)/\R w2)(hR:∀w2,R w2->w2.cell? (aj e 0)=some (.string G)/\w2.frozen? (aj e 0)=false/\w2.cell? (aj e 1)=some (.bool fin)/\w2.cell? (aj e 2)=some (.bool false)/\w2.cell? (aj w.heap.size 4)=some (.string S)/\e≠w.heap.size)(X:code=if fin then 4 else if 2048<G.size+S.size then 3 else 0)(U:code≠0->∀w2 q,R w2->wR (w2.drewN q))(V:code=0->∀w2 q q2,R w2->wR (((w2.drewN q).setCell (aj e 0) (.string (G++S))).drewN q2)):
  Calls prog 22 #[ay N 0,.agg #[iZ 1,iZ Sd,iZ A,iZ B,.string S]] w fun e w'=>e=.returned (.bool true)/\wR w':=by
 have p1:bX Sd 2=i:=pi.symm;have p2:bX A 8=k:=pk.symm
 have B1:aA w1 w.heap.size 37 (nW 1 Sd A B S):=by rw[K];exact aA.new w 37 _
 have b0:=B1.cell 0;have b1:=B1.cell 1;have b2:=B1.cell 2;have b4:=B1.cell 4;simp only[nW,mR,fB]at b0 b1 b2 b4;have Cx:=au HC;have HR:=au hR;have Td:=au U;have h0:=au V;have I:=au X;have FJ:w.alloc (.cells #[iZ 1,iZ Sd,iZ A,iZ B,.string S] 37)=w1:=K.symm
 have h6:(i:Int)<2:=by omega
 have h7:(k:Int)<8:=by omega
 clear HC hR U V X K B1 pi pk;go_enter func22,ntmps22
 go_wp2_with (first
  |(go_at_call 32;refine(iH _ _ (by assumption) (by decide) _).mono ?_;rintro ee w4 ⟨rfl,h3⟩;subst h3)
  |(go_at_call 34;refine Cx.out.mono ?_;rintro ee w2 ⟨rfl,hr⟩;have Z:=au hr;clear hr))
 obtain⟨f0,z0,f1,f2,f4,h8⟩:=HR.out w2 Z.out;clear c0 c1 x1 e1 e2 b0 b1 b2 b4 Cx
 cases fin with
 |true=>
  obtain rfl:code=4:=I.out;have O:=au (fun q=>Td.out (by decide) w2 q Z.out)
  by_cases hg:(2048:Int)-(G.size:Int)<(S.size:Int)
  ·go_quiet (fail)
   go_wp2;go_ret;exact⟨rfl,O.out nq⟩
  ·go_quiet (fail)
   go_wp2;go_ret;exact⟨rfl,O.out nq⟩
 |false=>
  by_cases hg:2048<G.size+S.size
  ·obtain rfl:code=3:=by have:=I.out;rw[if_neg (by decide),if_pos hg]at this;exact this
   have O:=au (fun q=>Td.out (by decide) w2 q Z.out)
   have h2:(2048:Int)-(G.size:Int)<(S.size:Int):=by omega
   go_quiet (fail)
   go_wp2;go_ret;exact⟨rfl,O.out nq⟩
  ·obtain rfl:code=0:=by have:=I.out;rw[if_neg (by decide),if_neg hg]at this;exact this
   have h2:¬((2048:Int)-(G.size:Int)<(S.size:Int)):=by omega
   go_quiet (fail)
   obtain⟨H,F⟩:∃H,H=w2.drewN nq:=⟨_,rfl⟩
   have g0:H.cell? (aj e 0)=some (.string G):=by rw[F];exact f0
   have gz:H.frozen? (aj e 0)=false:=by rw[F];exact z0
   have g1:H.cell? (aj e 1)=some (.bool false):=by rw[F];exact f1
   have g2:H.cell? (aj e 2)=some (.bool false):=by rw[F];exact f2
   have g4:H.cell? (aj w.heap.size 4)=some (.string S):=by rw[F];exact f4
   have O:Hid (wR ((H.setCell (aj e 0) (.string (G++S))).drew)):=by rw[F];exact h0.out rfl w2 nq 1 Z.out
   rw[<-F];clear F f0 z0 f1 f2 f4;go_wp2
   go_region
   all_goals(go_wp2;go_ret;exact⟨rfl,O.out⟩)
theorem RV(N xb xc eb ec el Fy e C i k:Nat)(hi:i<2)(hk:k<8)(Sd A B:Int)(h0:nN Sd)(hA:nN A)(pi:i=bX Sd 2)(pk:k=bX A 8)(S:ByteArray)(fin:Bool)(code:Nat)(w w1:World)(R wR:World->Prop)(G:w1=w.alloc (.cells (nW 2 Sd A B S).toArray 37))(c0:w1.cell? (aj N 0)=some (aS xb 2 xc))(c1:w1.cell? (aj N 1)=some (aS eb 2 ec))(x1:w1.cell? (aj xb i)=some (ay C 0))(e1:w1.cell? (aj eb i)=some (aS el 8 Fy))(e2:w1.cell? (aj el k)=some (ay e 0))(HC:Calls prog 35 #[ay C 0,iZ k] w1 fun x w2=>x=.returned (iZ code)/\R w2)(hR:∀w2,R w2->w2.frozen? (aj e 1)=false/\w2.cell? (aj e 1)=some (.bool fin)/\w2.cell? (aj e 2)=some (.bool false))(U:code=if fin then 4 else 0)(K:code≠0->∀w2,R w2->wR w2)(O:code=0->∀w2,R w2->wR (w2.setCell (aj e 1) (.bool true))):
  Calls prog 22 #[ay N 0,.agg #[iZ 2,iZ Sd,iZ A,iZ B,.string S]] w fun e w'=>e=.returned (.bool true)/\wR w':=by
 have p1:bX Sd 2=i:=pi.symm;have p2:bX A 8=k:=pk.symm
 have B1:aA w1 w.heap.size 37 (nW 2 Sd A B S):=by rw[G];exact aA.new w 37 _
 have b0:=B1.cell 0;have b1:=B1.cell 1;have b2:=B1.cell 2;simp only[nW,mR,fB]at b0 b1 b2;have Cx:=au HC;have HR:=au hR;have Td:=au K;have X:=au O;have I:=au U;have FJ:w.alloc (.cells #[iZ 2,iZ Sd,iZ A,iZ B,.string S] 37)=w1:=G.symm
 have h2:(i:Int)<2:=by omega
 have h3:(k:Int)<8:=by omega
 clear HC hR K O U G B1 pi pk
 cases fin with
 |true=>
  obtain rfl:code=4:=I.out;go_enter func22,ntmps22
  go_wp2_with (first
   |(go_at_call 32;refine(iH _ _ (by assumption) (by decide) _).mono ?_;rintro Z w4 ⟨rfl,H⟩;subst H)
   |(go_at_call 35;refine Cx.out.mono ?_;rintro Z w2 ⟨rfl,F⟩;obtain⟨z0,f1,f2⟩:=HR.out w2 F;have V:=au (Td.out (by decide) w2 F);clear F))
  go_ret;exact⟨rfl,V.out⟩
 |false=>
  obtain rfl:code=0:=I.out;go_enter func22,ntmps22
  go_wp2_with (first
   |(go_at_call 32;refine(iH _ _ (by assumption) (by decide) _).mono ?_;rintro Z w4 ⟨rfl,H⟩;subst H)
   |(go_at_call 35;refine Cx.out.mono ?_;rintro Z w2 ⟨rfl,F⟩;obtain⟨z0,f1,f2⟩:=HR.out w2 F;have V:=au (X.out (by simp) w2 F);clear F))
  go_ret;exact⟨rfl,V.out⟩
theorem BP(n:Net)(i k:Nat)(o:Ot)(hi:i<2)(I:k<(n.x i).outs.length)(F k':Nat)(H:F<2):ends (n.bY i ((n.x i).bf k o)) F k'=if F=i/\k'=k then Jl o ((n.x (1-i)).inn k)else ends n F k':=by
 unfold ends
 by_cases e:F=i
 ·subst e;rw[b_,eU _ _ _ _ (by omega),gK]
  by_cases G:k'=k
  ·rw[if_pos ⟨G,I⟩,if_pos ⟨rfl,G⟩,G]
  ·rw[if_neg (fun h=>G h.1),if_neg (fun h=>G h.2)]
 ·rw[if_neg (fun h=>e h.1),eU _ _ _ _ e,show 1-F=i by omega,b_];rfl
def Net.jJ(n:Net)(i k:Nat)(S:ByteArray):Net:=n.bY i ((n.x i).bf k (((n.x i).out k).send S.data.toList).1)
def Net.Jp(n:Net)(i k:Nat):Net:=n.bY i ((n.x i).bf k ((n.x i).out k).finish.1)
section
variable {oZ:Own} {w:World} {a:Ad} {n:Net} {vb:Value}
theorem KP(h:bL oZ w a n vb (ends n))(hp:eY a.aM n)(Sd A B:Int)(h3:nN Sd)(hA:nN A)(S:ByteArray)(hS:S.size<=1000000):
  Calls prog 22 #[ay a.N 0,.agg #[iZ 1,iZ Sd,iZ A,iZ B,.string S]] w fun e w'=>e=.returned (.bool true)/\nL oZ w a (n.jJ (bX Sd 2) (bX A 8) S) w':=by
 obtain⟨i,pi⟩:∃i,i=bX Sd 2:=⟨_,rfl⟩;obtain⟨k,pk⟩:∃k,k=bX A 8:=⟨_,rfl⟩
 have hi:i<2:=by rw[pi];exact fI Sd 2 (by omega)
 have H:k<8:=by rw[pk];exact fI A 8 (by omega)
 rw[<-pi,<-pk];obtain⟨w1,K⟩:∃w1,w1=w.alloc (.cells (nW 1 Sd A B S).toArray 37):=⟨_,rfl⟩
 have X:aD w w1:=by rw[K];exact(Am _ w).alloc (nI _) _
 have B1:aA w1 w.heap.size 37 (nW 1 Sd A B S):=by rw[K];exact aA.new w 37 _
 have G:=h.loc.below X;have ob:loc oZ w.heap.size w.heap.size=0:=fD _ _ _ (nI _);have K1:Kp TN (loc oZ w.heap.size) (loc oZ w.heap.size) w w1:=Kp.below X;obtain⟨c0,c1,_⟩:=G.cells;obtain⟨e1,e2,_⟩:=G.KJ i k hi H;have h9:a.e i k<w.heap.size:=(h.en i k hi H).1.lt
 have h6:k<(n.x i).outs.length:=by rw[(hp.loc i hi).lo];exact H
 have Z:=((hp.loc i hi).wr k).given;obtain⟨o,I⟩:∃o,o=(n.x i).out k:=⟨_,rfl⟩
 have h7:o.bytes.length<=2048:=by rw[I];exact((hp.bd i hi).o k).b
 have FK:ends n i k=Jl o ((n.x (1-i)).inn k):=by rw[I];rfl
 rw[<-I]at Z
 have h4:o.closed=o.fin:=by unfold Ot.closed;rw[Z,Bool.or_false]
 have h0:(⟨o.bytes.toArray⟩:ByteArray).size=o.bytes.length:=(iI _).2
 have uV:S.data.toList.length=S.size:=by simp
 refine Yk a.N a.xb a.xc a.eb a.ec (a.el i) (a.Fy i) (a.e i k) (a.C i) i k hi H Sd A B h3 hA pi pk S ⟨o.bytes.toArray⟩ hS (by omega) o.fin (o.send S.data.toList).2 w w1
  (fun w2=>NH (loc oZ w.heap.size) w1 a vb (ends n) (T0 (60*(i+1))) (n.jJ i k S) w2) (nL oZ w a (n.jJ i k S)) K c0 c1 (G.xs i hi).1 e1 e2 (by rw[I];exact VR G hp i k hi H S (by omega)) ?_ ?_ ?_ ?_
 ·rintro w2 ⟨U,O,V⟩;have B:=(O.en i k hi H).1;rw[FK]at B;exact⟨B.cell 0,B.frozen 0,B.cell 1,B.cell 2,(aO B1 V (by rw[ob];exact fun e=>by have:=bN.1 e;omega)).cell 4,by omega⟩
 ·unfold Ot.send;rw[h4,h0];cases o.fin<;>simp[uV];split<;>rfl
 ·rintro F w2 q ⟨U,O,V⟩
  have e:(o.send S.data.toList).1=o:=by
   unfold Ot.send at F ⊢;split
   ·rfl
   ·split
    ·rfl
    ·rename_i h1 G;rw[if_neg h1,if_neg G]at F;exact absurd rfl F
  have s:Sm (n.x i) ((n.x i).bf k (((n.x i).out k).send S.data.toList).1):=by rw[<-I,e];exact ku _ _ _ (by rw[I]) (by rw[I])
  have g3:=(O.below (dF w2 q)).Al (E':=ends (n.jJ i k S)) (fun j k' _ _=>nM s j k');exact nL.jm ⟨U,vb,g3,K1.trans ((V.mono (pR i hi)).trans (Kp.below (dF w2 q)))⟩
 ·rintro F w2 q q2 ⟨U,O,V⟩
  have e:(o.send S.data.toList).1={o with bytes:=o.bytes++S.data.toList}:=by
   unfold Ot.send at F ⊢;split
   ·rename_i h1;rw[if_pos h1]at F;cases F
   ·split
    ·rename_i h1 G;rw[if_neg h1,if_pos G]at F;cases F
    ·rfl
  have oe:=(O.en i k hi H).2;have g3:=((O.below (dF w2 q)).VP i k hi H 0 (.string (⟨o.bytes.toArray⟩++S))).below (dF _ q2)
  have g4:=g3.Al (E':=ends (n.jJ i k S)) (fun i' k' h5 h8=>by
   unfold Net.jJ;rw[BP n i k _ hi h6 i' k' h5,FK,<-I,e];split
   ·unfold Jl
    have:(⟨o.bytes.toArray⟩++S:ByteArray)=⟨(o.bytes++S.data.toList).toArray⟩:=by
     ext1;rw[tL];simp
    rw[this];rfl
   ·rfl)
  exact nL.jm ⟨U,vb,g4,K1.trans ((V.mono (pR i hi)).trans ((Kp.below (dF w2 q)).trans ((Kp.set U _ (aj (a.e i k) 0) _ TN (by show U (a.e i k)∈TN;rw[oe];exact iK.2 (by omega))).trans (Kp.below (dF _ q2)))))⟩
end

