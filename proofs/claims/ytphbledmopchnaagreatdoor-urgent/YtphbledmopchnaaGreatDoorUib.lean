import Derived.Test.YtphbledmopchnaaGreatDoorUhd
open Go.Act renaming put->mR
open List renaming setIfInBounds_toArray->fA
open Go.World renaming block_lt_of_cell?->fB,cell?_setCell_far->nI,cell?_alloc_lt->sQ
set_option maxHeartbeats 4000000
set_option maxRecDepth 100000
namespace Go.Proofs.YtphbledmopchnaaGreatDoor.Sd
open Go.RowKit Go.Lib Mm Tryz
section
section
variable {oZ aC:Own} {w w':World} {a:Ad} {n:Net} {vb:Value} {E:Nat->Nat->aI}
theorem bL.Le(h:bL oZ w a n vb E)(K:Kp [201,202,205] oZ aC w w')(gv:Value)(gl nx:Nat)(gs:∃g r,aA w' a.gb 49 (gv::g::r))(gt:∃l,GT aC 205 52 1 w' gv gl l)(ns:∃g r,aA w' a.nb 43 ((uZ nx)::g::r)):bL aC w' a {n with gv:=gv,gl:=gl,nx:=nx} vb E:=by
 have hs:=h.gd.sz
 have H:∀x∈[201,202,205],¬(180<=x/\x<200):=by simp
 refine⟨⟨h.rO K (by simp),by rw[K.ext _ h.net.1.lt];exact h.net.2⟩,fun i hi=>(h.xs i hi).kp K H,fun i hi=>(h.es i hi).kp K H,fun i k hi F=>(h.el i k hi F).kp K H,fun i k hi F=>⟨h.wo K i k hi F (by simp;omega),by rw[K.ext _ (h.en i k hi F).1.lt];exact(h.en i k hi F).2⟩,⟨gs,?_⟩,gt,⟨ns,?_⟩,⟨h.zM K (by simp),?_⟩,h.bg.kp K (by simp),fun i hi=>h.wu K i hi fun x I=>.inr (by simp at I;omega),fun i hi=>?_,h.gd.kp K (by simp),?_,by rw[K.ext 0 (by omega)];exact h.o0⟩
 ·obtain⟨⟨g,r,hB⟩,o⟩:=h.gs;rw[K.ext _ hB.lt];exact o
 ·obtain⟨⟨g,r,hB⟩,o⟩:=h.ns;rw[K.ext _ hB.lt];exact o
 ·obtain⟨⟨r,hB⟩,o⟩:=h.ct;rw[K.ext _ hB.lt];exact o
 ·obtain⟨p,q⟩:=h.cn i hi;have G:a.C i<w.heap.size:=fB w (aj (a.C i) 0) (by rw[p]);exact⟨cell_of p (K.blk _ G (by rw[q];simp)),by rw[K.ext _ G];exact q⟩
 ·exact cell_of h.er (K.blk 0 (by omega) (by rw[h.o0];simp))
theorem FQ(h:bL oZ w a n vb E)(id dl:Nat)(data:ByteArray)(U:(n.x 0).why=0)(h1:id<4611686018427387903)(F:dl<=4611686018427387903)(G:(n.x 0).least<=id)(O:64<=(n.x 0).aM/\(n.x 0).aM<=400)(H:data.size+40<=(n.x 0).aM)(I:(n.x 0).queue.length<16)(hq:∀f∈(n.x 0).queue,(n.x 0).tick<=f.deadline)(hd:(n.x 0).tick<=dl):
  Calls prog 64 #[(ay (a.C 0) 0),uZ id,uZ dl,.string data] w fun e w'=>e=.returned (iZ 0)/\Hid (∃v,NH oZ w a vb E (T0 (60*(0+1))) (n.bY 0 ((n.x 0).dg (uo id dl data) v)) w'):=by
 obtain⟨l,vc,K⟩:=h.sd 0 (by omega);refine(FP oZ _ (a.C 0) (a.S 0) l _ _ _ _ vc id dl data w K (h.cn 0 (by omega)).1 U h1 F G O H I hq hd h.er (h.no0 0)).mono ?_;rintro e w' ⟨rfl,v,q⟩;exact⟨rfl,v,h.sdq 0 (by omega) _ q⟩
end


structure DgR (N gb gc nb nc bx nx dl:Nat) (S:ByteArray) (wR:World->Prop) (w2:World):Prop where
 c2:w2.cell? (aj N 2)=some (aS gb 2 gc)
 c3:w2.cell? (aj N 3)=some (aS nb 2 nc)
 n0:w2.cell? (aj nb 0)=some (uZ nx)
 b3:w2.cell? (aj bx 3)=some (iZ 0)
 b4:w2.cell? (aj bx 4)=some (.string S)
 ap:∃ga gn gp a2 n2 c2 w6,w2.cell? (aj gb 0)=some (.slice ga gn gp)/\
  (∀ty,(Builtin.append_ #[49,49] ty #[.slice ga gn gp,(aS (w2.heap.size+1) 1 1)]).run prog (((w2.alloc (.cells #[uZ nx,uZ dl,.string S,.bool false] 51)).alloc (.cells #[ay w2.heap.size 0] 52)).drew)=.ok (.slice a2 n2 c2) w6)/\
  w6.cell? (aj gb 0)=some (.slice ga gn gp)/\w6.frozen? (aj gb 0)=false/\w6.cell? (aj N 2)=some (aS gb 2 gc)/\w6.cell? (aj N 3)=some (aS nb 2 nc)/\w6.cell? (aj nb 0)=some (uZ nx)/\w6.frozen? (aj nb 0)=false/\w6.cell? (aj bx 3)=some (iZ 0)/\w6.cell? (aj bx 4)=some (.string S)/\
  gb≠N/\gb≠nb/\gb≠bx/\nb≠N/\nb≠bx/\∀q,wR (((w6.setCell (aj gb 0) (.slice a2 n2 c2)).setCell (aj nb 0) (uZ ((nx:Int)+1))).drewN q)
theorem Jr(N xb xc gb gc nb nc C:Nat)(now nx aM:Nat)(S:ByteArray)(h1:S.size+40<=aM)(h2:aM<=400)(h3:now<4611686018427387000)(h4:nx<4611686018427387000)(w w1:World)(wR:World->Prop)(V:w1=w.alloc (.cells (nW 4 0 5 0 S).toArray 37))(c0:w1.cell? (aj N 0)=some (aS xb 2 xc))(c3:w1.cell? (aj N 3)=some (aS nb 2 nc))(c4:w1.cell? (aj N 4)=some (uZ now))(c5:w1.cell? (aj N 5)=some (iZ aM))(x0:w1.cell? (aj xb 0)=some (ay C 0))(n0:w1.cell? (aj nb 0)=some (uZ nx))(HC:∀y,aD w1 y->Calls prog 64 #[ay C 0,uZ nx,(uZ ((now:Int)+5)),.string S] y fun e w2=>e=.returned (iZ 0)/\(w2.cell? (aj N 0)=some (aS xb 2 xc)/\w2.cell? (aj xb 0)=some (ay C 0)/\w2.cell? (aj N 3)=some (aS nb 2 nc)/\w2.cell? (aj nb 0)=some (uZ nx)/\w2.cell? (aj w.heap.size 4)=some (.string S))/\Hid (DgR N gb gc nb nc w.heap.size nx (now+5) S wR w2)):
  Calls prog 37 #[ay N 0,iZ 0,.agg #[iZ 4,iZ 0,iZ 5,iZ 0,.string S]] w fun e w'=>e=.returned (.bool true)/\wR w':=by
 have p5:bX 5 9=5:=by decide
 have p0:bX 0 3=0:=by decide
 have B1:aA w1 w.heap.size 37 (nW 4 0 5 0 S):=by rw[V];exact aA.new w 37 _
 have b2:=B1.cell 2;have b3:=B1.cell 3;have b4:=B1.cell 4;simp only[nW,List.getElem?_cons_zero,List.getElem?_cons_succ]at b2 b3 b4
 have Cx:=au fun q=>HC (w1.drewN q) (dF w1 q)
 have FJ:w.alloc (.cells #[iZ 4,iZ 0,iZ 5,iZ 0,.string S] 37)=w1:=V.symm
 have g1:IntKind.i64.wrap ((aM:Int)-40)=(aM:Int)-40:=by rw[IntKind.wrap_i64];omega
 have g2:¬((aM:Int)-40<(S.size:Int)):=by omega
 have v5:IntKind.u64.wrap 5=5:=by rw[IntKind.wrap_u64];omega
 have v6:IntKind.u64.wrap ((now:Int)+5)=(now:Int)+5:=by rw[IntKind.wrap_u64];omega
 have v1:IntKind.u64.wrap ((nx:Int)+1)=(nx:Int)+1:=by rw[IntKind.wrap_u64];omega
 have v0:IntKind.u64.wrap 0=0:=by rw[IntKind.wrap_u64];omega
 have i5:nN 5:=by unfold nN;omega
 have i0:nN 0:=by unfold nN;omega
 clear HC V B1;go_enter func37,ntmps37;go_wp2;clear FJ
 go_quiet (fail)
 go_wp2
 go_region_held3 (fun y=>y.cell? (aj N 4)=some (uZ now)/\y.cell? (aj w.heap.size 2)=some (iZ 5)) (first|assumption|go_keep) ((first|(go_at_call 32;refine(iH _ _ (by assumption) (by decide) _).mono ?_;rintro ee w4 ⟨rfl,H⟩;subst H)))
 go_wp2
 go_region_held3 (fun y=>y.cell? (aj N 0)=some (aS xb 2 xc)/\y.cell? (aj xb 0)=some (ay C 0)/\y.cell? (aj N 3)=some (aS nb 2 nc)/\y.cell? (aj nb 0)=some (uZ nx)/\y.cell? (aj w.heap.size 4)=some (.string S)) (first|assumption|go_keep) ((first|(go_at_call 64;refine(Cx.out _).mono ?_;rintro ee w2 ⟨rfl,h6,HR⟩)))
 clear Cx c0 c3 c4 c5 x0 n0 b2 b3 b4 h6;obtain⟨r2,r3,rn,h8,I,ga,gn,gp,a2,n2,c2,w6,k0,run,k1,k2,k3,k4,k5,k6,k7,k8,O,h0,ZI,h7,h5,hP⟩:=HR.out;have HP:=au hP;clear hP HR;have lN:=fB w2 (aj N 2) (by rw[r2]);have lb:=fB w2 (aj nb 0) (by rw[rn]);have lx:=fB w2 (aj w.heap.size 3) (by rw[h8]);have lg:=fB w2 (aj gb 0) (by rw[k0]);simp only at lN lb lx lg
 have U:∀b j v,b<w2.heap.size->w2.cell? (aj b j)=some v->(w2.alloc (.cells #[uZ nx,(uZ ((now:Int)+5)),.string S,.bool false] 51)).cell? (aj b j)=some v:=fun b j v hb h=>(sQ _ _ _ hb).trans h
 have X:∀b j v,b<w2.heap.size->w2.cell? (aj b j)=some v->((w2.alloc (.cells #[uZ nx,(uZ ((now:Int)+5)),.string S,.bool false] 51)).alloc (.cells #[ay w2.heap.size 0] 52)).cell? (aj b j)=some v:=fun b j v hb h=>(sQ _ _ _ (by simp;omega)).trans (U b j v hb h)
 have f7:∀b j v,gb≠b->w6.cell? (aj b j)=some v->(w6.setCell (aj gb 0) (.slice a2 n2 c2)).cell? (aj b j)=some v:=fun b j v hb h=>by rw[nI _ _ _ _ hb];exact h
 have sA:=And.intro (U N 2 _ lN r2) (And.intro (U N 3 _ lN r3) (And.intro (U nb 0 _ lb rn) (U w.heap.size 4 _ lx I)));have sB:=And.intro (X N 2 _ lN r2) (And.intro (X N 3 _ lN r3) (And.intro (X nb 0 _ lb rn) (X w.heap.size 4 _ lx I)));have s6:=And.intro k3 (And.intro k4 (And.intro k5 k8));have s7:=And.intro (f7 N 2 _ O k3) (And.intro (f7 N 3 _ O k4) (And.intro (f7 nb 0 _ h0 k5) (f7 w.heap.size 4 _ ZI k8)));have gA:=U gb 0 _ lg k0;have gB:=X gb 0 _ lg k0;have SA:=au sA;have S2:=au (And.intro r2 (And.intro r3 (And.intro rn I)));have SB:=au sB;have S6:=au s6;have Z:=au s7;have b7:=f7 w.heap.size 3 _ ZI k7;have S8:=au (And.intro s7.2.1 b7)
 have f9:∀b j v,nb≠b->(w6.setCell (aj gb 0) (.slice a2 n2 c2)).cell? (aj b j)=some v->((w6.setCell (aj gb 0) (.slice a2 n2 c2)).setCell (aj nb 0) (uZ ((nx:Int)+1))).cell? (aj b j)=some v:=fun b j v hb h=>by rw[nI _ _ _ _ hb];exact h
 have S9:=au (And.intro (f9 N 3 _ h7 s7.2.1) (f9 w.heap.size 3 _ h5 b7))
 have zf:(w6.setCell (aj gb 0) (.slice a2 n2 c2)).frozen? (aj nb 0)=false:=by rw[World.frozen?_setCell];exact k6
 clear U X f7 f9 sA sB s6 s7 b7;go_wp2;refine wp_region_held_drew (S:=fun y=>y.cell? (aj N 2)=some (aS gb 2 gc)/\y.cell? (aj N 3)=some (aS nb 2 nc)/\y.cell? (aj nb 0)=some (uZ nx)/\y.cell? (aj w.heap.size 4)=some (.string S)) (by kernel_rfl) S2.out (fun F=>?_);refine iV 0 rfl ?_;refine iV 1 rfl ?_;refine iV 2 rfl ?_;refine iV 3 rfl ?_;refine iV 4 rfl ?_;refine iV 5 rfl ?_;refine iV 6 rfl ?_;refine iV 7 rfl ?_;refine iV 8 rfl ?_;refine iV 9 rfl ?_;refine iV 10 rfl ?_;refine iV 12 rfl ?_;refine iV 13 rfl ?_;refine iV 14 rfl ?_;refine iV 15 rfl ?_;refine iV 16 rfl ?_;refine iV 17 rfl ?_;refine iV 18 rfl ?_;refine iV 19 rfl ?_;refine iV 20 rfl ?_;refine iV 21 rfl ?_;refine iV 22 rfl ?_;simp only[mR,fA];refine wpAnyH_ready (rs:=[11,23]) (by kernel_rfl) (by simp) ?_;refine AllReadyH.cons (o:=_) rfl (fun K G=>?_) (AllReadyH.cons (o:=_) rfl (fun K G=>?_) AllReadyH.nil)
 focus
  go_simp;refine G.out _ _ (S2.out) (fun F=>?_);clear G K
  refine BN 23 rfl fun K G=>?_
  go_simp;refine G.out _ _ (SA.out) (fun F=>?_);clear G K
  refine BN 24 rfl fun K G=>?_
  go_simp;refine G.out _ _ (SB.out) (fun F=>?_);clear G K
  refine BN 25 rfl fun K G=>?_
  refine dB _ (by rfl) _ _ _ _ (by rfl) _ _ (by rfl) (by rfl) _ _ (run _) ?_;refine G.out _ _ (S6.out) (fun F=>?_);clear G K;refine iV 26 rfl ?_;simp only[mR,fA]
  refine BN 27 rfl fun K G=>?_
  go_simp;refine G.out _ _ (Z.out) (fun F=>?_);clear G K;refine wpAnyH_done (by kernel_rfl) ?_ _
 rotate_left
 focus
  go_simp;refine G.out _ _ (SA.out) (fun F=>?_);clear G K;refine wpAnyH_ready (rs:=[11,24]) (by kernel_rfl) (by simp) ?_;refine AllReadyH.cons (o:=_) rfl (fun K G=>?_) (AllReadyH.cons (o:=_) rfl (fun K G=>?_) AllReadyH.nil)
  focus
   go_simp;refine G.out _ _ (SA.out) (fun F=>?_);clear G K
   refine BN 24 rfl fun K G=>?_
   go_simp;refine G.out _ _ (SB.out) (fun F=>?_);clear G K
   refine BN 25 rfl fun K G=>?_
   refine dB _ (by rfl) _ _ _ _ (by rfl) _ _ (by rfl) (by rfl) _ _ (run _) ?_;refine G.out _ _ (S6.out) (fun F=>?_);clear G K;refine iV 26 rfl ?_;simp only[mR,fA]
   refine BN 27 rfl fun K G=>?_
   go_simp;refine G.out _ _ (Z.out) (fun F=>?_);clear G K;refine wpAnyH_done (by kernel_rfl) ?_ _
  rotate_left
  focus
   go_simp;refine G.out _ _ (SB.out) (fun F=>?_);clear G K
   refine BN 11 rfl fun K G=>?_
   go_simp;refine G.out _ _ (SB.out) (fun F=>?_);clear G K
   refine BN 25 rfl fun K G=>?_
   refine dB _ (by rfl) _ _ _ _ (by rfl) _ _ (by rfl) (by rfl) _ _ (run _) ?_;refine G.out _ _ (S6.out) (fun F=>?_);clear G K;refine iV 26 rfl ?_;simp only[mR,fA]
   refine BN 27 rfl fun K G=>?_
   go_simp;refine G.out _ _ (Z.out) (fun F=>?_);clear G K;refine wpAnyH_done (by kernel_rfl) ?_ _
 all_goals(
  clear k0 r2 r3 rn I gA gB SA SB S6 S2 run k1 k2 k3 k4 k5;obtain⟨z2,z3,zn,_⟩:=Z.out;clear Z;go_wp2;refine wp_region_held_drew (S:=fun y=>y.cell? (aj N 3)=some (aS nb 2 nc)/\y.cell? (aj w.heap.size 3)=some (iZ 0)) (by kernel_rfl) S8.out (fun F=>?_);refine iV 0 rfl ?_;refine iV 1 rfl ?_;refine iV 2 rfl ?_;refine iV 3 rfl ?_;refine iV 4 rfl ?_;refine iV 5 rfl ?_;refine iV 6 rfl ?_;refine iV 7 rfl ?_;refine iV 8 rfl ?_;refine iV 9 rfl ?_;refine iV 10 rfl ?_;refine iV 13 rfl ?_;refine iV 14 rfl ?_;simp only[mR,fA];refine wpAnyH_ready (rs:=[11,15]) (by kernel_rfl) (by simp) ?_;refine AllReadyH.cons (o:=_) rfl (fun K G=>?_) (AllReadyH.cons (o:=_) rfl (fun K G=>?_) AllReadyH.nil)
  focus
   go_simp;refine G.out _ _ (S8.out) (fun F=>?_);clear G K;refine iV 12 rfl ?_;simp only[mR,fA]
   refine BN 15 rfl fun K G=>?_
   go_simp
   go_at_call 32
   refine(iH _ _ i0 (by decide) _).mono ?_;rintro ee w4 ⟨rfl,H⟩;subst H
   go_wp2_with fail
   refine G.out _ _ (S8.out) (fun F=>?_);clear G K;refine iV 16 rfl ?_;refine iV 17 rfl ?_;refine iV 18 rfl ?_;simp only[mR,fA]
   refine BN 19 rfl fun K G=>?_
   go_simp;refine G.out _ _ (S9.out) (fun F=>?_);clear G K;refine wpAnyH_done (by kernel_rfl) ?_ _
  rotate_left
  focus
   go_simp
   go_at_call 32
   refine(iH _ _ i0 (by decide) _).mono ?_;rintro ee w4 ⟨rfl,H⟩;subst H
   go_wp2_with fail
   refine G.out _ _ (S8.out) (fun F=>?_);clear G K;refine iV 16 rfl ?_;simp only[mR,fA]
   refine BN 11 rfl fun K G=>?_
   go_simp;refine G.out _ _ (S8.out) (fun F=>?_);clear G K;refine iV 12 rfl ?_;refine iV 17 rfl ?_;refine iV 18 rfl ?_;simp only[mR,fA]
   refine BN 19 rfl fun K G=>?_
   go_simp;refine G.out _ _ (S9.out) (fun F=>?_);clear G K;refine wpAnyH_done (by kernel_rfl) ?_ _
  all_goals(
   go_wp2;go_ret
   exact⟨rfl,HP.out _⟩))
