import Derived.Test.YtphbledmopchnaaGreatDoorUdd
open Nat renaming le_refl->fA
set_option maxHeartbeats 1000000
set_option maxRecDepth 100000
namespace Go.Proofs.YtphbledmopchnaaGreatDoor.Sd
open Go.RowKit Go.Lib Mm Tryz
theorem QW{w:World}{S:Nat}{v:Value}{rs:aP}(h:bK 170 2 w v rs.length (St.aL rs))(G:∀b,v.ownBlock=some b->b≠S):
  ∃base c,v=.slice base rs.length c/\rs.length<=c/\c<=9223372036854775807/\St.gN w S base c rs/\∀b,base.map (·.block)=some b->v.ownBlock=some b:=by
 rcases h with⟨rfl,h1,F⟩|⟨g,cap,cs,rfl,hB,F,h3,h4,h5,h6,h7⟩
 ·have:rs=[]:=List.length_eq_zero_iff.1 h1;subst this;exact⟨none,0,rfl,fA _,by omega,.inl ⟨rfl,rfl,rfl⟩,fun b hb=>by cases hb⟩
 ·refine⟨_,_,rfl,h3,h4,.inr ⟨g,cs,rfl,G g rfl,hB,by omega,?_,h7⟩,fun b hb=>by simp at hb;rw[<-hb];rfl⟩;rw[Nat.mul_comm 2,h6]
theorem Ng(t:Nat)(oZ:Own)(S so:Nat)(l:aI)(most:Int)(fl:Nat)(rs:aP)(va:Value)(w:World)(hB:aA w S TS l)(c0:l[so]?=some (iZ most))(c1:l[so+1]?=some (uZ fl))(c2:l[so+2]?=some va)(hR:jC oZ t w S va rs)(hn:rs.length<=1000000):
  Calls prog 393 #[ay S so] w fun e w'=>∃v',e=.returned (.agg #[iZ most,uZ fl,v'])/\bK 170 2 w' v' rs.length (St.aL rs)/\jX w.heap.size v'/\aD w w':=by
 have Mh:=hR.rd;obtain⟨base,c,rfl,h2,h3,h4,h5⟩:=hR;obtain⟨W,hW⟩:∃W,W=w.alloc (.cells #[iZ 0,uZ 0,nZ] 192):=⟨_,rfl⟩
 have hb:aA W w.heap.size 192 [iZ 0,uZ 0,nZ]:=by rw[hW];exact aA.new w 192 _
 have F:aD w W:=by rw[hW];exact(Below.refl _ w).alloc (fA _) _
 have hsz:W.heap.size=w.heap.size+1:=by rw[hW];simp
 have G:=hB.of_heap (F.block _ hB.lt)
 have k0:W.cell? (aj S so)=some (iZ most):=by rw[G.cell];exact c0
 have k1:W.cell? (aj S (so+1))=some (uZ fl):=by rw[G.cell];exact c1
 have k2:W.cell? (aj S (so+2))=some (.slice base rs.length c):=by rw[G.cell];exact c2
 have HC:Hid (∀q,Calls prog 228 #[.slice base rs.length c] (W.drewN q) fun e y=>∃v':Value,e=.returned v'/\(∃a c,v'=.slice a rs.length c)/\y.cell? (aj S so)=some (iZ most)/\y.cell? (aj S (so+1))=some (uZ fl)/\y.cell? (aj S (so+2))=some (.slice base rs.length c)/\y.cell? (aj w.heap.size 0)=some (iZ 0)/\y.cell? (aj w.heap.size 1)=some (uZ 0)/\y.cell? (aj w.heap.size 2)=some nZ/\(∀j,y.frozen? (aj w.heap.size j)=false)/\
   Hid (aA y w.heap.size 192 [iZ 0,uZ 0,nZ]/\bK 170 2 y v' rs.length (St.aL rs)/\jX (w.heap.size+1) v'/\aD w y)):=fun q=>by
  refine(Ic _ rs.length (St.aL rs) (W.drewN q) (Mh.below ⟨F.os,F.tape,F.output,F.size,F.block⟩) hn).mono ?_;rintro e y ⟨I,K,rfl,g1,g2,Z⟩;have O:aD W y:=⟨Z.os,Z.tape,Z.output,Z.size,Z.block⟩;have X:=hb.of_heap (O.block _ (by omega));have UN:=G.of_heap (O.block _ G.lt);refine⟨_,rfl,⟨I,K,rfl⟩,by rw[UN.cell];exact c0,by rw[UN.cell];exact c1,by rw[UN.cell];exact c2,X.cell 0,X.cell 1,X.cell 2,fun j=>X.frozen j,X,g1,fun k hk=>by have h1:=g2 k hk;have h2:(W.drewN q).heap.size=W.heap.size:=rfl;omega,F.trans (O.mono (by omega))⟩
 have x0:W.cell? (aj w.heap.size 0)=some (iZ 0):=hb.cell 0;have x1:W.cell? (aj w.heap.size 1)=some (uZ 0):=hb.cell 1;have x2:W.cell? (aj w.heap.size 2)=some nZ:=hb.cell 2;have xf:=hb.frozen;clear hB hb F G h4 h5 c0 c1 c2 Mh;go_enter func393,ntmps393
 go_wp2_with fail
 rw[<-hW];clear hW
 go_region_with (go_at_call 228;refine(HC.out _).mono ?_;rintro e y ⟨v',rfl,⟨I,K,rfl⟩,j0,j1,j2,y0,y1,y2,yf,V⟩;clear HC x0 x1 x2 xf k0 k1 k2)
 all_goals go_wp2_with fail
 all_goals
  have H:=((V.out.1.setCell 0 (iZ most)).setCell 1 (uZ fl)).setCell 2 (.slice I rs.length K);have U:=(((je.refl w.heap.size y).set 0 (iZ most)).set 1 (uZ fl)).set 2 (.slice I rs.length K);generalize ((y.setCell (aj w.heap.size 0) (iZ most)).setCell (aj w.heap.size 1) (uZ fl)).setCell (aj w.heap.size 2) (.slice I rs.length K)=Wf at H U ⊢;have z0:Wf.cell? (aj w.heap.size 0)=some (iZ most):=H.cell 0;have z1:Wf.cell? (aj w.heap.size 1)=some (uZ fl):=H.cell 1;have z2:Wf.cell? (aj w.heap.size 2)=some (.slice I rs.length K):=H.cell 2
  exact bodyPost_ret (v:=.agg #[iZ most,uZ fl,.slice I rs.length K]) (by simp[results,results393,go_sem,z0,z1,z2]) rfl
   ⟨_,rfl,V.out.2.1.of_heap (fun b hb=>U.block b (by have:=V.out.2.2.1 b hb;omega)),fun k hk=>by have:=V.out.2.2.1 k hk;omega,U.below V.out.2.2.2 (fA _)⟩
theorem Vk(s t:Nat)(oZ:Own)(S o:Nat)(m:Ot)(l:aI)(w:World)(hB:aA w S TS l)(hS:oZ S=s)(h5:s<t)(hO:xW oZ t w S l o m)(h3:m.came.rs.length<=1000000):
  Calls prog 392 #[ay S o] w fun e w'=>e=.returned (.tuple #[])/\iF s t oZ S o l w m.lose w':=by
 obtain⟨vb,va,vc,k1,k2,V,K⟩:=hO;have HC:=au (Ng (t+2) oZ S (o+11) l 2049 m.came.fl m.came.rs vc w hB k1.c11 k1.c12 k1.c13 K h3);have HO:=au (And.intro hB (And.intro k1 (And.intro k2 (And.intro V K))));clear k1 k2 V K hB;go_enter func392,ntmps392
 go_wp2_with fail
 refine HC.out.mono ?_;rintro e y ⟨v',rfl,X,Z,H⟩;obtain⟨hB,k1,k2,V,K⟩:=HO.out;have G:=hB.of_heap (H.block _ hB.lt);obtain⟨O,U,rfl,_⟩:=X.shape
 have d8:y.cell? (aj S (o+8))=some (iZ 2049):=by rw[G.cell];exact k1.c8
 have d9:y.cell? (aj S (o+9))=some (uZ m.away.fl):=by rw[G.cell];exact k1.c9
 have h4:y.cell? (aj S (o+10))=some va:=by rw[G.cell];exact k1.c10
 have df:=fun j=>G.frozen j
 have HF:Hid (iF s t oZ S o l w m.lose (((y.setCell (aj S (o+8)) (iZ 2049)).setCell (aj S (o+9)) (uZ m.came.fl)).setCell (aj S (o+10)) (.slice O m.came.rs.length U))):=by
  have h1:=((dL.one G (o+8) (iZ 2049) o 14 (by omega) (by omega)).trans (dL.one (G.setCell _ _) (o+9) (uZ m.came.fl) o 14 (by omega) (by omega))).trans (dL.one ((G.setCell _ _).setCell _ _) (o+10) (.slice O m.came.rs.length U) o 14 (by omega) (by omega));have h2:=hB.lt;obtain⟨base,c,e1,e2,e3,e4,e5⟩:=QW (S:=S) X (fun b hb=>by have:=Z b hb;omega);have I:Kp [s] oZ (rz oZ (t+1) w.heap.size y.heap.size) w y:=⟨H.os,H.tape,H.output,H.size,fun b hb _=>H.block b hb,fun b hb=>ny _ _ _ _ _ hb⟩
  have h0:rz oZ (t+1) w.heap.size y.heap.size S=s:=by rw[ny _ _ _ _ _ h2,hS]
  have F:=h1.kp h0 (T:=[s]) (by simp);refine⟨_,_,(I.trans F).mono (by simp),h1.blk,h1.win,vb,.slice O m.came.rs.length U,vc,⟨?_,?_,((k1.nt.set (by omega)).set (by omega)).set (by omega),?_,?_,?_,?_,?_,?_,?_,?_⟩,(k2.kp I (by simp;omega)).kp F (by simp;omega),?_,(K.kp I (by simp;omega)).kp F (by simp;omega)⟩
  ·rw[ak _ _ _ _ (by omega),ak _ _ _ _ (by omega),ak _ _ _ _ (by omega)];exact k1.c0
  ·rw[ak _ _ _ _ (by omega),ak _ _ _ _ (by omega),ak _ _ _ _ (by omega)];exact k1.c1
  ·rw[ak _ _ _ _ (by omega),ak _ _ _ _ (by omega),ak _ _ _ _ (by omega)];exact k1.c6
  ·rw[ak _ _ _ _ (by omega),ak _ _ _ _ (by omega),ak _ _ _ _ (by omega)];exact k1.c7
  ·rw[ak _ _ _ _ (by omega),ak _ _ _ _ (by omega)];exact aU _ _ _ _ k1.c8
  ·rw[ak _ _ _ _ (by omega)];exact aU _ _ _ _ (by rw[ak _ _ _ _ (by omega)];exact k1.c9)
  ·exact aU _ _ _ _ (by rw[ak _ _ _ _ (by omega),ak _ _ _ _ (by omega)];exact k1.c10)
  ·rw[ak _ _ _ _ (by omega),ak _ _ _ _ (by omega),ak _ _ _ _ (by omega)];exact k1.c11
  ·rw[ak _ _ _ _ (by omega),ak _ _ _ _ (by omega),ak _ _ _ _ (by omega)];exact k1.c12
  ·rw[ak _ _ _ _ (by omega),ak _ _ _ _ (by omega),ak _ _ _ _ (by omega)];exact k1.c13
  ·have hr:jC (rz oZ (t+1) w.heap.size y.heap.size) (t+1) y S (.slice O m.came.rs.length U) m.came.rs:=⟨base,c,e1,e2,e3,e4,fun b hb=>rA _ _ _ _ _ (Z b (e5 b hb)) (St.kK e4 b hb).2⟩;exact hr.kp F (by simp;omega)
 clear hB k1 k2 V K G X Z H HO HC;go_wp2;go_end0;exact⟨rfl,HF.out⟩
theorem IB(x:Option Fr):∃(g:Fr) (b:Bool),jk x=.tuple #[bR g nZ,.bool b]:=by
 cases x with
 |none=>exact⟨dS,false,rfl⟩
 |some g=>exact⟨g,true,rfl⟩
theorem CW(S o:Nat)(m:bU)(vh vc:Value)(k:Nat)(h8:k<8)(room:Int)(w:World)(l:aI)(hB:aA w S TS l)(h:vQ l o m vh vc)(ok:SX m):
  Calls prog 257 #[ay S o,iZ k,iZ room] w fun e w'=>
   e=.returned (jk ((m.gr.next 6 k m.free room).map Prod.fst))/\∃l',dL w w' S l l' o 4/\qV l' o (((m.gr.next 6 k m.free room).map Prod.snd).getD m.gr):=by
 have V:=hB.lt;obtain⟨W,K⟩:∃W,W=w.alloc (.cells ko.toArray 65):=⟨_,rfl⟩
 have hb:aA W w.heap.size 65 ko:=by rw[K];exact aA.new w 65 _
 have F:aD w W:=by rw[K];exact(Below.refl _ w).alloc (fA _) _
 have G:=hB.of_heap (F.block _ V)
 have Z:Hid (∀q,Calls prog 310 #[ay S o] (W.drewN q) fun e w'=>e=.returned (uZ m.free)/\w'=W.drewN q):=fun q=>Cu S o m vh vc (W.drewN q) l G h
 generalize hX:m.gr.next 6 k m.free room=X at *;obtain⟨g,b,I⟩:=IB (X.map Prod.fst)
 have O:Hid (∀q,Calls prog 254 #[ay S o,bR (iT 6 k 0) nZ,uZ m.free,iZ room] (W.drewN q) fun e w'=>e=.returned (.tuple #[bR g nZ,.bool b])/\aA w' w.heap.size 65 ko/\Hid (∃l',dL w w' S l l' o 4/\qV l' o ((X.map Prod.snd).getD m.gr))):=fun q=>by
  refine(Ki S o m.gr 6 (.inr rfl) k h8 m.free room (W.drewN q) l G h.gr ok.gr.1 ok.free).mono ?_;rintro e w' ⟨rfl,l',h1,U⟩;rw[hX]at *;refine⟨by rw[I],h1.other hb (by omega),l',?_,U⟩;exact dL.after (W:=W.drewN q) ⟨F.os,F.tape,F.output,F.size,F.block⟩ h1
 generalize m.free=FR at *;rw[I];clear I hX hb F G h ok;unfold bR iT at O;unfold ko at K;go_enter func257,ntmps257
 go_wp2_with fail
 rw[<-K];clear K
 go_region_with (first|(go_at_call 310;refine(Z.out _).mono ?_;rintro e y ⟨rfl,rfl⟩)|(go_at_call 254;refine(O.out _).mono ?_;rintro e y ⟨rfl,H,HP⟩;obtain⟨y0,y1,y2,y3,y4,y5,y6,y7,y8,y9,yf⟩:=aH H;have qB:=au H;clear H O Z))
 go_wp2_with fail
 go_simp;rw[dI];have iB:=dh qB.out (iZ g.kind) (iZ g.stream) (uZ g.offset) (uZ g.reliable) (uZ g.limit) (.bool g.fin) (uZ g.id) (uZ g.deadline) (.string g.data) nZ;have lX:=dw y w.heap.size (iZ g.kind) (iZ g.stream) (uZ g.offset) (uZ g.reliable) (uZ g.limit) (.bool g.fin) (uZ g.id) (uZ g.deadline) (.string g.data) nZ;generalize iA y w.heap.size (iZ g.kind) (iZ g.stream) (uZ g.offset) (uZ g.reliable) (uZ g.limit) (.bool g.fin) (uZ g.id) (uZ g.deadline) (.string g.data) nZ=Wf at *;obtain⟨a0,a1,a2,a3,a4,a5,a6,a7,a8,a9,_⟩:=aH iB;obtain⟨l',h1,U⟩:=HP.out;exact bodyPost_ret (v:=.tuple #[bR g nZ,.bool b]) (by simp[results,results257,go_sem,a0,a1,a2,a3,a4,a5,a6,a7,a8,a9,bR]) rfl ⟨rfl,l',h1.tch lX (fA _) (by omega),U⟩
