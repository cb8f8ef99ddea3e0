import Derived.Test.YtphbledmopchnaaGreatDoorVad
set_option maxHeartbeats 20000000
set_option maxRecDepth 100000
set_option linter.all false
namespace Go.Proofs.YtphbledmopchnaaGreatDoor.Sd
open Go.RowKit Go.Lib Mm St Tryz
def Ng{f:Nat}(i d a:Nat){base:Option Addr}{c:Nat}(D:Int)(G:Nat){rs:bZ}(l:bJ){w:World}(I:Rg.gW rs)(Y:Small rs)(O:rs.length<=1000000)(A:d<=a)(h0:a<18446744073709551616)(r:nW w f i l D G base rs.length c)(R:jJ w f base c rs)(hc:rs.length<=c)(y:c<=9223372036854775807)(z:¬Rg.ku d rs<Rg.iW a rs):Calls prog 168 #[aJ f i,.agg #[uZ d,uZ a]] w fun e n=>e=.returned (.tuple #[])/\∃v,GV n f i l D G (Rg.ins d a rs) (some v)/\Kept w n f (base.map (·.block))/\(some v=base.map (·.block)\/w.heap.size<=v):=by
 obtain⟨W,x⟩:=bT ((w.alloc (.cells #[aJ f i] 273)).alloc (.cells #[uZ d,uZ a] 170));have k:aL W w.heap.size 273 [aJ f i]:=by rw[x];exact(aL.new w 273 _).alloc _
 have j:aL W (w.heap.size+1) 170 [uZ d,uZ a]:=by rw[x];have:=aL.new (w.alloc (.cells #[aJ f i] 273)) 170 [uZ d,uZ a];rwa[qmx]at this
 have g:bE w W:=by rw[x];exact((qlw _ w).alloc (qj _) _).alloc aM _
 have s:nW W f i l D G base rs.length c:=r.of (g.block f r.1.lt);have K:jJ W f base c rs:=R.of_heap (fun b hb=>g.block b (nT R b (by rw[hb];rfl)).2);have s1:=JO w.heap.size (w.heap.size+1) i d I Y O aj (k.cell 0) (j.cell 0) (s.oF) K;have s2:=fun q=>JQ w.heap.size (w.heap.size+1) i a (W.drewN q) I Y O aj (k.cell 0) (j.cell 1) (s.oF) K;have P:w.cell? (ay f (i+2))=some (.slice base rs.length c):=r.oF;have h2:f<w.heap.size:=r.1.lt;have S:=Rg.yh A I;have M:=Rg.BD a rs;have N:Rg.EG d a rs=(d,a):=by unfold Rg.EG;rw[aV z]
 have H:=fun q W'=>vY i d a D G l (W.drewN q) I O A r R hc y ⟨g.os,g.tape,g.output,g.size,g.block⟩ W';have Z:=fun q=>Au (W6:=W.drewN q) r (nT R) ⟨g.os,g.tape,g.output,g.size,g.block⟩ k j;have B:(Rg.EG d a rs).1=d:=by rw[N]
 have C:(Rg.EG d a rs).2=a:=by rw[N]
 rw[B,C]at H;generalize Rg.ins d a rs=h3 at H ⊢;have vV:=St.aF s1;have u:=St.aF s2;have V:=St.aF H;have U:=St.aF Z;have HX:=St.aF x;clear s1 s2 k j s K R r H Z g N B C;subst x;go_enter func168,ntmps168;go_wp2_with fail;refine bH vV.out ?_;rintro n ⟨J,rfl⟩;go_wp2_with fail;refine bH (u.out J) ?_;rintro n ⟨Q,rfl⟩;clear vV u;have T:((Rg.iW a rs:Nat):Int)<=((Rg.ku d rs:Nat):Int):=aj;go_wp2_with fail;have p:=V.out (J+Q);obtain⟨k0,k1,k2,k3,z1,z2,z3,o⟩:=U.out (J+Q);clear V U;generalize Ah:((w.alloc (.cells #[aJ f i] 273)).alloc (.cells #[uZ d,uZ a] 170)).drewN (J+Q)=L at p k0 k1 k2 k3 z1 z2 z3 o ⊢;clear Ah z S T M HX P;generalize Rg.ku d rs=F at *
 generalize Rg.iW a rs=E at *
 have t:=St.aF (p (L.alloc (.cells #[uZ d,uZ a] 170)).drew rfl rfl rfl rfl);have X:=St.aF (fun n=>o (L.alloc (.cells #[uZ d,uZ a] 170)).drew n _ rfl);clear p o;have n1:¬(f=w.heap.size):=aj;have n2:¬(f=w.heap.size+1):=aj;have n3:¬(w.heap.size=f):=aj;have n4:¬(w.heap.size+1=f):=aj;go_region_with (go_at_call 224;refine t.out.mono ?_;rintro e n ⟨v,c',rfl,m,hg⟩;obtain⟨⟨u0,u3,u4⟩,u1,u2⟩:=X.out n hg;have mh:=St.aF m;clear m hg t X);all_goals(go_wp2;go_end0;exact⟨rfl,v,mh.out⟩)
