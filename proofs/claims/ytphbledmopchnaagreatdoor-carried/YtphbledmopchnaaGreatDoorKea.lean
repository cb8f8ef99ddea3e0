import Derived.Test.YtphbledmopchnaaGreatDoorKdc
set_option maxHeartbeats 1000000
set_option maxRecDepth 100000
namespace Go.Proofs.YtphbledmopchnaaGreatDoor.Sd
open Go.RowKit Go.Lib Mm Tryz
theorem OW{w:World}{S:Nat}{v:Value}{rs:List (Nat×Nat)}(h:bn 170 2 w v rs.length (St.aC rs))(G:∀b,v.ownBlock=some b->b≠S):
  ∃base c,v=.slice base rs.length c/\rs.length<=c/\c<=9223372036854775807/\St.fP w S base c rs/\∀b,base.map (·.block)=some b->v.ownBlock=some b:=by
 rcases h with⟨rfl,h1,F⟩|⟨g,cap,cs,rfl,hB,F,h3,h4,h5,h6,h7⟩
 ·have:rs=[]:=List.length_eq_zero_iff.1 h1;subst this;exact⟨none,0,rfl,Nat.le_refl _,by omega,.inl ⟨rfl,rfl,rfl⟩,fun b hb=>by cases hb⟩
 ·refine⟨_,_,rfl,h3,h4,.inr ⟨g,cs,rfl,G g rfl,hB,by omega,?_,h7⟩,fun b hb=>by simp at hb;rw[<-hb];rfl⟩;rw[Nat.mul_comm 2,h6]
theorem Lu(t:Nat)(own:Own)(S so:Nat)(l:List Value)(most:Int)(fl:Nat)(rs:List (Nat×Nat))(va:Value)(w:World)(hB:ak w S TS l)(c0:l[so]?=some (.int .i64 most))(c1:l[so+1]?=some (.int .u64 fl))(c2:l[so+2]?=some va)(hR:jc own t w S va rs)(hn:rs.length<=1000000):
  Calls prog 393 #[.pointer (some ⟨S,so,none⟩)] w fun e w'=>∃v',e=.returned (.agg #[.int .i64 most,.int .u64 fl,v'])/\bn 170 2 w' v' rs.length (St.aC rs)/\jA w.heap.size v'/\Below w.heap.size w w':=by
 have KP:=hR.rd;obtain⟨base,c,rfl,h2,h3,h4,h5⟩:=hR;obtain⟨W,hW⟩:∃W,W=w.alloc (.cells #[.int .i64 0,.int .u64 0,.slice none 0 0] 192):=⟨_,rfl⟩
 have hb:ak W w.heap.size 192 [.int .i64 0,.int .u64 0,.slice none 0 0]:=by rw[hW];exact ak.new w 192 _
 have F:Below w.heap.size w W:=by rw[hW];exact(Below.refl _ w).alloc (Nat.le_refl _) _
 have hsz:W.heap.size=w.heap.size+1:=by rw[hW];simp
 have G:=hB.of_heap (F.block _ hB.lt)
 have k0:W.cell? ⟨S,so,none⟩=some (.int .i64 most):=by rw[G.cell];exact c0
 have k1:W.cell? ⟨S,so+1,none⟩=some (.int .u64 fl):=by rw[G.cell];exact c1
 have k2:W.cell? ⟨S,so+2,none⟩=some (.slice base rs.length c):=by rw[G.cell];exact c2
 have HC:Hid (∀q,Calls prog 228 #[.slice base rs.length c] (W.drewN q) fun e y=>∃v':Value,e=.returned v'/\(∃a c,v'=.slice a rs.length c)/\y.cell? ⟨S,so,none⟩=some (.int .i64 most)/\y.cell? ⟨S,so+1,none⟩=some (.int .u64 fl)/\y.cell? ⟨S,so+2,none⟩=some (.slice base rs.length c)/\y.cell? ⟨w.heap.size,0,none⟩=some (.int .i64 0)/\y.cell? ⟨w.heap.size,1,none⟩=some (.int .u64 0)/\y.cell? ⟨w.heap.size,2,none⟩=some (.slice none 0 0)/\(∀j,y.frozen? ⟨w.heap.size,j,none⟩=false)/\
   Hid (ak y w.heap.size 192 [.int .i64 0,.int .u64 0,.slice none 0 0]/\bn 170 2 y v' rs.length (St.aC rs)/\jA (w.heap.size+1) v'/\Below w.heap.size w y)):=fun q=>by
  refine(Gh _ rs.length (St.aC rs) (W.drewN q) (KP.below ⟨F.os,F.tape,F.output,F.size,F.block⟩) hn).mono ?_;rintro e y ⟨I,O,rfl,g1,g2,g3⟩;have U:Below W.heap.size W y:=⟨g3.os,g3.tape,g3.output,g3.size,g3.block⟩;have Z:=hb.of_heap (U.block _ (by omega));have Tv:=G.of_heap (U.block _ G.lt);refine⟨_,rfl,⟨I,O,rfl⟩,by rw[Tv.cell];exact c0,by rw[Tv.cell];exact c1,by rw[Tv.cell];exact c2,Z.cell 0,Z.cell 1,Z.cell 2,fun j=>Z.frozen j,Z,g1,fun k hk=>by have h1:=g2 k hk;have h2:(W.drewN q).heap.size=W.heap.size:=rfl;omega,F.trans (U.mono (by omega))⟩
 have x0:W.cell? ⟨w.heap.size,0,none⟩=some (.int .i64 0):=hb.cell 0;have x1:W.cell? ⟨w.heap.size,1,none⟩=some (.int .u64 0):=hb.cell 1;have x2:W.cell? ⟨w.heap.size,2,none⟩=some (.slice none 0 0):=hb.cell 2;have xf:=hb.frozen;clear hB hb F G h4 h5 c0 c1 c2 KP;go_enter func393,ntmps393
 go_wp2_with fail
 rw[<-hW];clear hW
 go_region_with (go_at_call 228;refine(HC.out _).mono ?_;rintro e y ⟨v',rfl,⟨I,O,rfl⟩,j0,j1,j2,y0,y1,y2,yf,X⟩;clear HC x0 x1 x2 xf k0 k1 k2)
 all_goals go_wp2_with fail
 all_goals
  have H:=((X.out.1.setCell 0 (.int .i64 most)).setCell 1 (.int .u64 fl)).setCell 2 (.slice I rs.length O);have V:=(((jD.refl w.heap.size y).set 0 (.int .i64 most)).set 1 (.int .u64 fl)).set 2 (.slice I rs.length O);generalize ((y.setCell ⟨w.heap.size,0,none⟩ (.int .i64 most)).setCell ⟨w.heap.size,1,none⟩ (.int .u64 fl)).setCell ⟨w.heap.size,2,none⟩ (.slice I rs.length O)=Wf at H V ⊢;have z0:Wf.cell? ⟨w.heap.size,0,none⟩=some (.int .i64 most):=H.cell 0;have z1:Wf.cell? ⟨w.heap.size,1,none⟩=some (.int .u64 fl):=H.cell 1;have z2:Wf.cell? ⟨w.heap.size,2,none⟩=some (.slice I rs.length O):=H.cell 2
  exact bodyPost_ret (v:=.agg #[.int .i64 most,.int .u64 fl,.slice I rs.length O]) (by simp[results,results393,go_sem,z0,z1,z2]) rfl
   ⟨_,rfl,X.out.2.1.of_heap (fun b hb=>V.block b (by have:=X.out.2.2.1 b hb;omega)),fun k hk=>by have:=X.out.2.2.1 k hk;omega,V.below X.out.2.2.2 (Nat.le_refl _)⟩
theorem Tw(s t:Nat)(own:Own)(S o:Nat)(m:Ot)(l:List Value)(w:World)(hB:ak w S TS l)(hS:own S=s)(h5:s<t)(hO:wM own t w S l o m)(h3:m.came.rs.length<=1000000):
  Calls prog 392 #[.pointer (some ⟨S,o,none⟩)] w fun e w'=>e=.returned (.tuple #[])/\gP s t own S o l w m.lose w':=by
 obtain⟨vb,va,vc,k1,k2,X,O⟩:=hO;have HC:=hid (Lu (t+2) own S (o+11) l 2049 m.came.fl m.came.rs vc w hB k1.c11 k1.c12 k1.c13 O h3);have HO:=hid (And.intro hB (And.intro k1 (And.intro k2 (And.intro X O))));clear k1 k2 X O hB;go_enter func392,ntmps392
 go_wp2_with fail
 refine HC.out.mono ?_;rintro e y ⟨v',rfl,Z,g2,H⟩;obtain⟨hB,k1,k2,X,O⟩:=HO.out;have G:=hB.of_heap (H.block _ hB.lt);obtain⟨U,V,rfl,_⟩:=Z.shape
 have d8:y.cell? ⟨S,o+8,none⟩=some (.int .i64 2049):=by rw[G.cell];exact k1.c8
 have d9:y.cell? ⟨S,o+9,none⟩=some (.int .u64 m.away.fl):=by rw[G.cell];exact k1.c9
 have h4:y.cell? ⟨S,o+10,none⟩=some va:=by rw[G.cell];exact k1.c10
 have df:=fun j=>G.frozen j
 have HF:Hid (gP s t own S o l w m.lose (((y.setCell ⟨S,o+8,none⟩ (.int .i64 2049)).setCell ⟨S,o+9,none⟩ (.int .u64 m.came.fl)).setCell ⟨S,o+10,none⟩ (.slice U m.came.rs.length V))):=by
  have h1:=((cu.one G (o+8) (.int .i64 2049) o 14 (by omega) (by omega)).trans (cu.one (G.setCell _ _) (o+9) (.int .u64 m.came.fl) o 14 (by omega) (by omega))).trans (cu.one ((G.setCell _ _).setCell _ _) (o+10) (.slice U m.came.rs.length V) o 14 (by omega) (by omega));have h2:=hB.lt;obtain⟨base,c,e1,e2,e3,e4,e5⟩:=OW (S:=S) Z (fun b hb=>by have:=g2 b hb;omega);have I:Kp [s] own (pX own (t+1) w.heap.size y.heap.size) w y:=⟨H.os,H.tape,H.output,H.size,fun b hb _=>H.block b hb,fun b hb=>mg _ _ _ _ _ hb⟩
  have h0:pX own (t+1) w.heap.size y.heap.size S=s:=by rw[mg _ _ _ _ _ h2,hS]
  have F:=h1.kp h0 (T:=[s]) (by simp);refine⟨_,_,(I.trans F).mono (by simp),h1.blk,h1.win,vb,.slice U m.came.rs.length V,vc,⟨?_,?_,((k1.nt.set (by omega)).set (by omega)).set (by omega),?_,?_,?_,?_,?_,?_,?_,?_⟩,(k2.kp I (by simp;omega)).kp F (by simp;omega),?_,(O.kp I (by simp;omega)).kp F (by simp;omega)⟩
  ·rw[aj _ _ _ _ (by omega),aj _ _ _ _ (by omega),aj _ _ _ _ (by omega)];exact k1.c0
  ·rw[aj _ _ _ _ (by omega),aj _ _ _ _ (by omega),aj _ _ _ _ (by omega)];exact k1.c1
  ·rw[aj _ _ _ _ (by omega),aj _ _ _ _ (by omega),aj _ _ _ _ (by omega)];exact k1.c6
  ·rw[aj _ _ _ _ (by omega),aj _ _ _ _ (by omega),aj _ _ _ _ (by omega)];exact k1.c7
  ·rw[aj _ _ _ _ (by omega),aj _ _ _ _ (by omega)];exact aN _ _ _ _ k1.c8
  ·rw[aj _ _ _ _ (by omega)];exact aN _ _ _ _ (by rw[aj _ _ _ _ (by omega)];exact k1.c9)
  ·exact aN _ _ _ _ (by rw[aj _ _ _ _ (by omega),aj _ _ _ _ (by omega)];exact k1.c10)
  ·rw[aj _ _ _ _ (by omega),aj _ _ _ _ (by omega),aj _ _ _ _ (by omega)];exact k1.c11
  ·rw[aj _ _ _ _ (by omega),aj _ _ _ _ (by omega),aj _ _ _ _ (by omega)];exact k1.c12
  ·rw[aj _ _ _ _ (by omega),aj _ _ _ _ (by omega),aj _ _ _ _ (by omega)];exact k1.c13
  ·have hr:jc (pX own (t+1) w.heap.size y.heap.size) (t+1) y S (.slice U m.came.rs.length V) m.came.rs:=⟨base,c,e1,e2,e3,e4,fun b hb=>pY _ _ _ _ _ (g2 b (e5 b hb)) (St.jP e4 b hb).2⟩;exact hr.kp F (by simp;omega)
 clear hB k1 k2 X O G Z g2 H HO HC;go_wp2;go_end0;exact⟨rfl,HF.out⟩
end Go.Proofs.YtphbledmopchnaaGreatDoor.Sd
