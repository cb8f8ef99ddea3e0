import Derived.Test.YtphbledmopchnaaGreatDoorVad
set_option maxHeartbeats 20000000
set_option maxRecDepth 100000
namespace Go.Proofs.YtphbledmopchnaaGreatDoor.Sd
open Go.RowKit Go.Lib Mm St Tryz
theorem Rt{j}(m f d){base c}(S T){rs}(l){w}(hS:Rg.gP rs)(hB:Small rs)(hn:rs.length<=1000000)(h4:f<=d)(h9:d<18446744073709551616)(A:uU w j m l S T base rs.length c)(R:mG w j base c rs)(hc:rs.length<=c)(N:c<=9223372036854775807)(h3:Rg.l7 f rs<Rg.jU d rs):Calls prog 168 #[aK j m,.agg #[uZ f,uZ d]] w fun e v=>e=.returned (.tuple #[])/\∃J,LH v j m l S T (Rg.ins f d rs) (some J)/\Kept w v j (base.map (·.block))/\(some J=base.map (·.block)\/w.heap.size<=J):=by
 obtain⟨W,hW⟩:=bU ((w.alloc (.cells #[aK j m] 273)).alloc (.cells #[uZ f,uZ d] 170));have r:aS W w.heap.size 273 [aK j m]:=by rw[hW];exact(aS.new w 273 _).alloc _
 have o:aS W (w.heap.size+1) 170 [uZ f,uZ d]:=by grind [aS.new,World.size_alloc]
 have U:bJ w W:=by rw[hW];exact((bP _ w).alloc (aI _) _).alloc aR _
 have s:=A.of (U.block j A.1.lt);have H:=R.of_heap (fun b z=>U.block b (rz R b (by rw[z];rfl)).2);have s1:=N8 w.heap.size (w.heap.size+1) m f hS hB hn aj (r.cell 0) (o.cell 0) (s.qD) H;have s2:=fun q=>N_ w.heap.size (w.heap.size+1) m d (W.drewN q) hS hB hn aj (r.cell 0) (o.cell 1) (s.qD) H;have h5:=A.qD;have ha:=A.1.lt;have h0:=Rg.Ez d rs;have hm:Rg.Lh f d rs=(min f (rs.getD (Rg.l7 f rs) (0,0)).1,max d (rs.getD (Rg.jU d rs-1) (0,0)).2):=by unfold Rg.Lh;grind
 have O:((Rg.Lh f d rs).1:Int)=min (f:Int) ((rs.getD (Rg.l7 f rs) (0,0)).1:Int):=by grind
 have P:((Rg.Lh f d rs).2:Int)=max (d:Int) ((rs.getD (Rg.jU d rs-1) (0,0)).2:Int):=by grind
 have B:=fun n k W'=>zm m f d S T l n hS hn h4 A R hc N k W';have V:=fun n k h1 h2=>DU (W6:=n) (a:=min (f:Int) ((rs.getD (Rg.l7 f rs) (0,0)).1:Int)) (b:=max (d:Int) ((rs.getD (Rg.jU d rs-1) (0,0)).2:Int)) A (rz R) k h1 h2;rw[O,P]at B;have X:∀q,∃b,base=some (aA b 0)/\b<w.heap.size/\(W.drewN q).cell? (aA b (Rg.l7 f rs*2))=some (uZ ((rs.getD (Rg.l7 f rs) (0,0)).1:Int))/\(W.drewN q).cell? (aA b ((Rg.jU d rs-1)*2+1))=some (uZ ((rs.getD (Rg.jU d rs-1) (0,0)).2:Int)):=fun q=>by
  obtain⟨b,z,_,_,_,Y⟩:=H.sI (i:=Rg.l7 f rs) aj;obtain⟨b2,M,_,_,Z,_⟩:=H.sI (i:=Rg.jU d rs-1) aj;obtain rfl:b2=b:=by rw[z]at M;simpa using M.symm
  exact⟨b2,z,(rz R b2 (by rw[z];rfl)).2,Y,Z⟩
 generalize (rs.getD (Rg.l7 f rs) (0,0)).1=x at B V X;generalize (rs.getD (Rg.jU d rs-1) (0,0)).2=y at B V X;generalize Rg.ins f d rs=he at B ⊢;have AQ:=St.aG s1;have G:=St.aG s2;have HR:=St.aG B;have HK:=St.aG V;have HQ:=St.aG X;have HB:=St.aG (dz r (dz o (dz s U)));clear s1 s2 r o s H R A B V X U hm O P;subst hW;go_enter func168,ntmps168;go_wp2_with fail;refine bK AQ.out ?_;rintro v ⟨q1,rfl⟩;go_wp2_with fail;refine bK (G.out q1) ?_;rintro v ⟨q2,rfl⟩;clear AQ G;have h7:((Rg.l7 f rs:Nat):Int)<((Rg.jU d rs:Nat):Int):=aj;go_wp2_with fail;obtain⟨b,z,h8,Y,Z⟩:=HQ.out (q1+q2);generalize DI:((w.alloc (.cells #[aK j m] 273)).alloc (.cells #[uZ f,uZ d] 170)).drewN (q1+q2)=t at Y Z ⊢;have g:Hid (aS t w.heap.size 273 [aK j m]/\aS t (w.heap.size+1) 170 [uZ f,uZ d]/\uU t j m l S T base rs.length c/\bJ w t):=by rw[<-DI];obtain⟨a1,a2,a3,I⟩:=HB.out;exact⟨a1,a2,a3,I.os,I.tape,I.output,I.size,I.block⟩
 have k0:t.cell? (aA w.heap.size 0)=some (aK j m):=g.out.1.cell 0;have k1:t.cell? (aA (w.heap.size+1) 0)=some (uZ f):=g.out.2.1.cell 0;have k2:t.cell? (aA (w.heap.size+1) 1)=some (uZ d):=g.out.2.1.cell 1;have k3:=g.out.2.2.1.qD;have k6:=g.out.2.1.frozen 0;have k7:=g.out.2.1.frozen 1;clear DI HB HQ h5;subst z;have i1:((Rg.l7 f rs:Nat):Int)<((rs.length:Nat):Int):=aj;have h6:IntKind.i64.wrap (((Rg.jU d rs:Nat):Int)-1)=((Rg.jU d rs:Nat):Int)-1:=by rw[qB];omega
 have i2:((Rg.jU d rs:Nat):Int)-1<((rs.length:Nat):Int):=aj;have i3:0<=((Rg.jU d rs:Nat):Int)-1:=aj;have i4:(((Rg.jU d rs:Nat):Int)-1).toNat=Rg.jU d rs-1:=aj;have n1:¬(b=w.heap.size+1):=aj;have n2:¬(j=w.heap.size+1):=aj;generalize Rg.l7 f rs=F at *
 generalize Rg.jU d rs=E at *
 go_region
 go_wp2_with fail;go_region
 go_wp2_with fail;generalize Q:((t.setCell (aA (w.heap.size+1) 0) (uZ (min (f:Int) (x:Int)))).setCell (aA (w.heap.size+1) 1) (uZ (max (d:Int) (y:Int)))).drew.drew=n;have k:bJ w n:=by rw[<-Q];exact(((g.out.2.2.2.setCell (p:=(aA (w.heap.size+1) 0)) aR _).setCell (p:=(aA (w.heap.size+1) 1)) aR _).drew).drew
 have g1:aS n w.heap.size 273 [aK j m]:=by rw[<-Q];exact((g.out.1.kH (aA (w.heap.size+1) 0) _ aR).kH (aA (w.heap.size+1) 1) _ aR)
 have g2:aS n (w.heap.size+1) 170 [(uZ (min (f:Int) (x:Int))),(uZ (max (d:Int) (y:Int)))]:=by rw[<-Q];exact((g.out.2.1.Q_ 0 (uZ (min (f:Int) (x:Int)))).Q_ 1 (uZ (max (d:Int) (y:Int))))
 have L:=HR.out n k;obtain⟨m0,m1,m2,m3,z1,z2,z3,K⟩:=HK.out n k g1 g2;clear HR HK k g1 g2 Q g k0 k1 k2 k3 Y Z k6 k7 i1 i2 i3 i4 h6 n1 n2 h3 h7 h0;have D:=St.aG (L (n.alloc (.cells #[(uZ (min (f:Int) (x:Int))),(uZ (max (d:Int) (y:Int)))] 170)).drew rfl rfl rfl rfl);have C:=St.aG (fun v=>K (n.alloc (.cells #[(uZ (min (f:Int) (x:Int))),(uZ (max (d:Int) (y:Int)))] 170)).drew v _ rfl);clear L K;generalize min (f:Int) (x:Int)=mn at *
 generalize max (d:Int) (y:Int)=mx at *
 have n5:¬(j=w.heap.size):=aj;have n6:¬(j=w.heap.size+1):=aj;go_region_with (go_at_call 224;refine D.out.mono ?_;rintro e v ⟨J,c',rfl,u,hg⟩;obtain⟨⟨u0,u3,u4⟩,u1,u2⟩:=C.out v hg;have oh:=St.aG u;clear u hg D C);all_goals(go_wp2;go_end0;exact⟨rfl,J,oh.out⟩)
