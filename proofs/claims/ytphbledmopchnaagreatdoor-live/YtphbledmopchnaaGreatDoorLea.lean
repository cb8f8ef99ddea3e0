import Derived.Test.YtphbledmopchnaaGreatDoorLdc
set_option maxHeartbeats 1000000
set_option maxRecDepth 100000
namespace Go.Proofs.YtphbledmopchnaaGreatDoor.Sd
open Go.RowKit Go.Lib Mm Tryz
theorem U_{w:World}{S:Nat}{v:Value}{rs:bW}(h:eX 170 2 w v rs.length (St.bQ rs))(d:∀b,v.ownBlock=some b->b≠S):∃base c,v=.slice base rs.length c/\rs.length<=c/\c<=9223372036854775807/\St.jB w S base c rs/\∀b,base.map (·.block)=some b->v.ownBlock=some b:=by
 rcases h with⟨rfl,h1,a⟩|⟨g,cap,cs,rfl,hB,a,h3,h4,h5,h6,h7⟩;·have:rs=[]:=List.length_eq_zero_iff.1 h1;subst this;exact⟨none,0,rfl,Nat.le_refl _,aj,.inl ⟨rfl,rfl,rfl⟩,fun b hb=>by cases hb⟩
 ·refine⟨_,_,rfl,h3,h4,.inr ⟨g,cs,rfl,d g rfl,hB,aj,?_,h7⟩,fun b hb=>by simp at hb;rw[<-hb];rfl⟩;rw[Nat.mul_comm 2,h6]
theorem QV(t:Nat)(oZ:Own)(S so:Nat)(l:bO)(bf:Int)(fl:Nat)(rs:bW)(va:Value)(w:World)(hB:aS w S TS l)(c0:l[so]?=some (iZ bf))(c1:l[so+1]?=some (uZ fl))(c2:l[so+2]?=some va)(B:mh oZ t w S va rs)(H:rs.length<=1000000):Calls prog 393 #[aI S so] w fun e w'=>∃v',e=.returned (.agg #[iZ bf,uZ fl,v'])/\eX 170 2 w' v' rs.length (St.bQ rs)/\ni w.heap.size v'/\bJ w w':=by
 have A:=B.rd;obtain⟨base,c,rfl,E,P,F,G⟩:=B;obtain⟨W,s⟩:=bZ (w.alloc (.cells #[iZ 0,uZ 0,nZ] 192));have hb:aS W w.heap.size 192 [iZ 0,uZ 0,nZ]:=by rw[s];exact aS.new w 192 _
 have d:bJ w W:=by rw[s];exact(Below.refl _ w).alloc (Nat.le_refl _) _
 have gQ:W.heap.size=w.heap.size+1:=by rw[s];simp
 have f:=hB.of_heap (d.block _ hB.lt);have k0:W.cell? (aB S so)=some (iZ bf):=by rw[f.cell];exact c0
 have k1:W.cell? (aB S (so+1))=some (uZ fl):=by rw[f.cell];exact c1
 have k2:W.cell? (aB S (so+2))=some (.slice base rs.length c):=by rw[f.cell];exact c2
 have z:Hid (∀q,Calls prog 228 #[.slice base rs.length c] (W.drewN q) fun e y=>∃v':Value,e=.returned v'/\(∃a c,v'=.slice a rs.length c)/\y.cell? (aB S so)=some (iZ bf)/\y.cell? (aB S (so+1))=some (uZ fl)/\y.cell? (aB S (so+2))=some (.slice base rs.length c)/\y.cell? (aB w.heap.size 0)=some (iZ 0)/\y.cell? (aB w.heap.size 1)=some (uZ 0)/\y.cell? (aB w.heap.size 2)=some nZ/\(∀j,y.frozen? (aB w.heap.size j)=false)/\Hid (aS y w.heap.size 192 [iZ 0,uZ 0,nZ]/\eX 170 2 y v' rs.length (St.bQ rs)/\ni (w.heap.size+1) v'/\bJ w y)):=fun q=>by refine(L_ _ rs.length (St.bQ rs) (W.drewN q) (A.below ⟨d.os,d.tape,d.output,d.size,d.block⟩) H).mono ?_;rintro e y ⟨i,c',rfl,C,D,r⟩;have n:bJ W y:=⟨r.os,r.tape,r.output,r.size,r.block⟩;have g:=hb.of_heap (n.block _ aj);have m:=f.of_heap (n.block _ f.lt);refine⟨_,rfl,⟨i,c',rfl⟩,by rw[m.cell];exact c0,by rw[m.cell];exact c1,by rw[m.cell];exact c2,g.cell 0,g.cell 1,g.cell 2,fun j=>g.frozen j,g,C,fun k x=>by have h1:=D k x;have E:(W.drewN q).heap.size=W.heap.size:=rfl;omega,d.trans (n.mono aj)⟩
 have I:W.cell? (aB w.heap.size 0)=some (iZ 0):=hb.cell 0;have J:W.cell? (aB w.heap.size 1)=some (uZ 0):=hb.cell 1;have K:W.cell? (aB w.heap.size 2)=some nZ:=hb.cell 2;have L:=hb.frozen;clear hB hb d f F G c0 c1 c2 A;go_enter func393,ntmps393;go_wp2_with fail;rw[<-s];clear s;go_region_with (go_at_call 228;refine(z.out _).mono ?_;rintro e y ⟨v',rfl,⟨i,c',rfl⟩,Q,R,T,U,V,X,Y,p⟩;clear z I J K L k0 k1 k2);all_goals go_wp2_with fail
 all_goals
  have h:=((p.out.1.setCell 0 (iZ bf)).setCell 1 (uZ fl)).setCell 2 (.slice i rs.length c');have o:=(((nE.refl w.heap.size y).set 0 (iZ bf)).set 1 (uZ fl)).set 2 (.slice i rs.length c');generalize ((y.setCell (aB w.heap.size 0) (iZ bf)).setCell (aB w.heap.size 1) (uZ fl)).setCell (aB w.heap.size 2) (.slice i rs.length c')=u at h o ⊢;have M:u.cell? (aB w.heap.size 0)=some (iZ bf):=h.cell 0;have N:u.cell? (aB w.heap.size 1)=some (uZ fl):=h.cell 1;have O:u.cell? (aB w.heap.size 2)=some (.slice i rs.length c'):=h.cell 2;exact bodyPost_ret (v:=.agg #[iZ bf,uZ fl,.slice i rs.length c']) (by simp[results,results393,go_sem,M,N,O]) rfl
   ⟨_,rfl,p.out.2.1.of_heap (fun b hb=>o.block b (bV (p.out.2.2.1 b hb))),fun k x=>bV (p.out.2.2.1 k x),o.below p.out.2.2.2 (Nat.le_refl _)⟩
theorem YK(s t:Nat)(oZ:Own)(S o:Nat)(m:Ot)(l:bO)(w:World)(hB:aS w S TS l)(H:oZ S=s)(J:s<t)(G:BP oZ t w S l o m)(u:m.aM.rs.length<=1000000):Calls prog 392 #[aI S o] w fun e w'=>e=.returned (.tuple #[])/\ko s t oZ S o l w m.j5 w':=by
 obtain⟨vb,va,vc,k1,k2,k,h⟩:=G;have v:=aG (QV (t+2) oZ S (o+11) l 2049 m.aM.fl m.aM.rs vc w hB k1.zU k1.zV k1.c13 h u);have x:=aG (dB hB (dB k1 (dB k2 (dB k h))));clear k1 k2 k h hB;go_enter func392,ntmps392;go_wp2_with fail;refine v.out.mono ?_;rintro e y ⟨v',rfl,n,p,f⟩;obtain⟨hB,k1,k2,k,h⟩:=x.out;have d:=hB.of_heap (f.block _ hB.lt);obtain⟨i,c',rfl,_⟩:=n.shape;have K:y.cell? (aB S (o+8))=some (iZ 2049):=by rw[d.cell];exact k1.c8
 have L:y.cell? (aB S (o+9))=some (uZ m.cK.fl):=by rw[d.cell];exact k1.c9
 have B:y.cell? (aB S (o+10))=some va:=by rw[d.cell];exact k1.vY
 have M:=fun j=>d.frozen j;have A:Hid (ko s t oZ S o l w m.j5 (((y.setCell (aB S (o+8)) (iZ 2049)).setCell (aB S (o+9)) (uZ m.aM.fl)).setCell (aB S (o+10)) (.slice i m.aM.rs.length c'))):=by
  have h1:=((gM.one d (o+8) (iZ 2049) o 14 aj aj).trans (gM.one (d.setCell _ _) (o+9) (uZ m.aM.fl) o 14 aj aj)).trans (gM.one ((d.setCell _ _).setCell _ _) (o+10) (.slice i m.aM.rs.length c') o 14 aj aj);have r:=hB.lt;obtain⟨base,c,C,D,E,z,F⟩:=U_ (S:=S) n (fun b hb=>bV (p b hb));have g:Kp [s] oZ (wm oZ (t+1) w.heap.size y.heap.size) w y:=⟨f.os,f.tape,f.output,f.size,fun b hb _=>f.block b hb,fun b hb=>rA _ _ _ _ _ hb⟩;have q:wm oZ (t+1) w.heap.size y.heap.size S=s:=by rw[rA _ _ _ _ _ r,H]
  have a:=h1.kp q (T:=[s]) aP;refine⟨_,_,(g.trans a).mono aP,h1.cZ,h1.gN,vb,.slice i m.aM.rs.length c',vc,⟨?_,?_,((k1.nt.set aj).set aj).set aj,?_,?_,?_,?_,?_,?_,?_,?_⟩,(k2.kp g (by simp;omega)).kp a (by simp;omega),?_,(h.kp g (by simp;omega)).kp a (by simp;omega)⟩;·rw[aA _ _ _ _ aj,aA _ _ _ _ aj,aA _ _ _ _ aj];exact k1.c0
  ·rw[aA _ _ _ _ aj,aA _ _ _ _ aj,aA _ _ _ _ aj];exact k1.c1
  ·rw[aA _ _ _ _ aj,aA _ _ _ _ aj,aA _ _ _ _ aj];exact k1.c6
  ·rw[aA _ _ _ _ aj,aA _ _ _ _ aj,aA _ _ _ _ aj];exact k1.c7
  ·rw[aA _ _ _ _ aj,aA _ _ _ _ aj];exact dG _ _ _ _ k1.c8
  ·rw[aA _ _ _ _ aj];exact dG _ _ _ _ (by rw[aA _ _ _ _ aj];exact k1.c9)
  ·exact dG _ _ _ _ (by rw[aA _ _ _ _ aj,aA _ _ _ _ aj];exact k1.vY)
  ·rw[aA _ _ _ _ aj,aA _ _ _ _ aj,aA _ _ _ _ aj];exact k1.zU
  ·rw[aA _ _ _ _ aj,aA _ _ _ _ aj,aA _ _ _ _ aj];exact k1.zV
  ·rw[aA _ _ _ _ aj,aA _ _ _ _ aj,aA _ _ _ _ aj];exact k1.c13
  ·have I:mh (wm oZ (t+1) w.heap.size y.heap.size) (t+1) y S (.slice i m.aM.rs.length c') m.aM.rs:=⟨base,c,C,D,E,z,fun b hb=>wo _ _ _ _ _ (p b (F b hb)) (St.oh z b hb).2⟩;exact I.kp a (by simp;omega)
 clear hB k1 k2 k h d n p f x v;go_wp2;go_end0;exact⟨rfl,A.out⟩
