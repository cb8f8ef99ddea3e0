import Derived.Test.YtphbledmopchnaaGreatDoorVad
set_option maxHeartbeats 20000000
set_option maxRecDepth 100000
namespace Go.Proofs.YtphbledmopchnaaGreatDoor.Sd
open Go.RowKit Go.Lib Mm St Tryz
theorem Rs{g}(k d a){base c}(K L){rs}(l){w}(D:Rg.gP rs)(Z:Small rs)(P:rs.length<=1000000)(z:d<=a)(h0:a<18446744073709551616)(r:uU w g k l K L base rs.length c)(R:mG w g base c rs)(hc:rs.length<=c)(y:c<=9223372036854775807)(N:¬Rg.l7 d rs<Rg.jU a rs):Calls prog 168 #[aK g k,.agg #[uZ d,uZ a]] w fun e n=>e=.returned (.tuple #[])/\∃x,LH n g k l K L (Rg.ins d a rs) (some x)/\Kept w n g (base.map (·.block))/\(some x=base.map (·.block)\/w.heap.size<=x):=by
 obtain⟨W,G⟩:=bU ((w.alloc (.cells #[aK g k] 273)).alloc (.cells #[uZ d,uZ a] 170));have j:aS W w.heap.size 273 [aK g k]:=by rw[G];exact(aS.new w 273 _).alloc _
 have i:aS W (w.heap.size+1) 170 [uZ d,uZ a]:=by grind [aS.new,World.size_alloc]
 have f:bJ w W:=by rw[G];exact((bP _ w).alloc (aI _) _).alloc aR _
 have s:=r.of (f.block g r.1.lt);have I:=R.of_heap (fun b hb=>f.block b (rz R b (by rw[hb];rfl)).2);have s1:=N8 w.heap.size (w.heap.size+1) k d D Z P aj (j.cell 0) (i.cell 0) (s.qD) I;have s2:=fun q=>N_ w.heap.size (w.heap.size+1) k a (W.drewN q) D Z P aj (j.cell 0) (i.cell 1) (s.qD) I;have Q:=r.qD;have h2:=r.1.lt;have T:=Rg.AY z D;have M:=Rg.Ez a rs;have O:Rg.Lh d a rs=(d,a):=by unfold Rg.Lh;grind
 have C:=fun q W'=>zm k d a K L l (W.drewN q) D P z r R hc y ⟨f.os,f.tape,f.output,f.size,f.block⟩ W';have hK:=fun q=>DU (W6:=W.drewN q) r (rz R) ⟨f.os,f.tape,f.output,f.size,f.block⟩ j i;have A:(Rg.Lh d a rs).1=d:=by rw[O]
 have B:(Rg.Lh d a rs).2=a:=by rw[O]
 rw[A,B]at C;generalize Rg.ins d a rs=h3 at C ⊢;have V:=St.aG s1;have v:=St.aG s2;have Y:=St.aG C;have X:=St.aG hK;have HX:=St.aG G;clear s1 s2 j i s I R r C hK f O A B;subst G;go_enter func168,ntmps168;go_wp2_with fail;refine bK V.out ?_;rintro n ⟨H,rfl⟩;go_wp2_with fail;refine bK (v.out H) ?_;rintro n ⟨S,rfl⟩;clear V v;have U:((Rg.jU a rs:Nat):Int)<=((Rg.l7 d rs:Nat):Int):=aj;go_wp2_with fail;have p:=Y.out (H+S);obtain⟨k0,k1,k2,k3,z1,z2,z3,o⟩:=X.out (H+S);clear Y X;generalize DI:((w.alloc (.cells #[aK g k] 273)).alloc (.cells #[uZ d,uZ a] 170)).drewN (H+S)=J at p k0 k1 k2 k3 z1 z2 z3 o ⊢;clear DI N T U M HX Q;generalize Rg.l7 d rs=F at *
 generalize Rg.jU a rs=E at *
 have u:=St.aG (p (J.alloc (.cells #[uZ d,uZ a] 170)).drew rfl rfl rfl rfl);have t:=St.aG (fun n=>o (J.alloc (.cells #[uZ d,uZ a] 170)).drew n _ rfl);clear p o;have n1:¬(g=w.heap.size):=aj;have n2:¬(g=w.heap.size+1):=aj;have n3:¬(w.heap.size=g):=aj;have n4:¬(w.heap.size+1=g):=aj;go_region_with (go_at_call 224;refine u.out.mono ?_;rintro e n ⟨x,c',rfl,m,hg⟩;obtain⟨⟨u0,u3,u4⟩,u1,u2⟩:=t.out n hg;have oh:=St.aG m;clear m hg u t);all_goals(go_wp2;go_end0;exact⟨rfl,x,oh.out⟩)
