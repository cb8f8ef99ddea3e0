import Derived.Test.YtphbledmopchnaaGreatDoorUca
set_option maxHeartbeats 20000000
set_option maxRecDepth 100000
namespace Go.Proofs.YtphbledmopchnaaGreatDoor.Sd
open Go.RowKit Go.Lib Mm St Tryz
theorem Hz(sp so lo hi:Nat)(base:Option Addr)(c:Nat)(most:Int)(fl:Nat)(rs:aP)(l:aI)(w:World)(hS:Rg.Sorted rs)(hB:Small rs)(hn:rs.length<=1000000)(h3:lo<=hi)(h8:hi<18446744073709551616)(hs:jN w sp so l most fl base rs.length c)(R:gN w sp base c rs)(hc:rs.length<=c)(h0:c<=9223372036854775807)(h2:¬Rg.gX lo rs<Rg.end' hi rs):
  Calls prog 168 #[ay sp so,.agg #[uZ lo,uZ hi]] w fun e w'=>e=.returned (.tuple #[])/\
   ∃b',Cv w' sp so l most fl (Rg.ins lo hi rs) (some b')/\Kept w w' sp (base.map (·.block))/\(some b'=base.map (·.block)\/w.heap.size<=b'):=by
 obtain⟨W,hW⟩:∃W,W=(w.alloc (.cells #[ay sp so] 273)).alloc (.cells #[uZ lo,uZ hi] 170):=⟨_,rfl⟩
 have I:aA W w.heap.size 273 [ay sp so]:=by rw[hW];exact(aA.new w 273 _).alloc _
 have H:aA W (w.heap.size+1) 170 [uZ lo,uZ hi]:=by
  rw[hW];have:=aA.new (w.alloc (.cells #[ay sp so] 273)) 170 [uZ lo,uZ hi];rwa[World.size_alloc]at this
 have G:aD w W:=by rw[hW];exact((Below.refl _ w).alloc (Nat.le_refl _) _).alloc (by simp) _
 have V:jN W sp so l most fl base rs.length c:=hs.of (G.block sp hs.1.lt);have RW:gN W sp base c rs:=R.of_heap (fun b hb=>G.block b (kK R b (by rw[hb];rfl)).2);have s1:=En w.heap.size (w.heap.size+1) sp so lo base c rs W hS hB hn (by omega) (I.cell 0) (H.cell 0) (V.jW) RW
 have s2:=fun q=>Eo w.heap.size (w.heap.size+1) sp so hi base c rs (W.drewN q) hS hB hn (by omega) (I.cell 0) (H.cell 1) (V.jW) RW
 have h7:w.cell? (aj sp (so+2))=some (.slice base rs.length c):=hs.jW;have h9:sp<w.heap.size:=hs.1.lt;have Xp:=Rg.r_ h3 hS;have h6:=Rg.wV hi rs
 have hm:Rg.zW lo hi rs=(lo,hi):=by unfold Rg.zW;rw[if_neg h2]
 have hR:=fun q W'=>qD sp so lo hi base c most fl rs l w (W.drewN q) hS hn h3 hs R hc h0 ⟨G.os,G.tape,G.output,G.size,G.block⟩ W'
 have hK:=fun q=>vS (W6:=W.drewN q) hs (kK R) ⟨G.os,G.tape,G.output,G.size,G.block⟩ I H
 have h4:(Rg.zW lo hi rs).1=lo:=by rw[hm]
 have h5:(Rg.zW lo hi rs).2=hi:=by rw[hm]
 rw[h4,h5]at hR;generalize Rg.ins lo hi rs=ha at hR ⊢;have rW:=St.au s1;have Z:=St.au s2;have HR:=St.au hR;have HK:=St.au hK;have HX:=St.au hW;clear s1 s2 I H V RW R hs hR hK G hm h4 h5;subst hW;go_enter func168,ntmps168
 go_wp2_with fail
 refine rW.out.mono ?_;rintro e w' ⟨rfl,q1,rfl⟩
 go_wp2_with fail
 refine(Z.out q1).mono ?_;rintro e w' ⟨rfl,q2,rfl⟩;clear rW Z
 have Xq:((Rg.end' hi rs:Nat):Int)<=((Rg.gX lo rs:Nat):Int):=by omega
 go_wp2_with fail
 have U:=HR.out (q1+q2);obtain⟨k0,k1,k2,k3,z1,z2,z3,O⟩:=HK.out (q1+q2);clear HR HK;generalize vG:((w.alloc (.cells #[ay sp so] 273)).alloc (.cells #[uZ lo,uZ hi] 170)).drewN (q1+q2)=W6 at U k0 k1 k2 k3 z1 z2 z3 O ⊢;clear vG h2 Xp Xq h6 HX h7;generalize Rg.gX lo rs=F at *;generalize Rg.end' hi rs=E at *;have X:=St.au (U (W6.alloc (.cells #[uZ lo,uZ hi] 170)).drew rfl rfl rfl rfl);have OX:=St.au (fun w'=>O (W6.alloc (.cells #[uZ lo,uZ hi] 170)).drew w' _ rfl);clear U O
 have n1:¬(sp=w.heap.size):=by omega
 have n2:¬(sp=w.heap.size+1):=by omega
 have n3:¬(w.heap.size=sp):=by omega
 have n4:¬(w.heap.size+1=sp):=by omega
 go_region_with (go_at_call 224;refine X.out.mono ?_;rintro e w' ⟨b',c',rfl,K,hg⟩;obtain⟨⟨u0,u3,u4⟩,u1,u2⟩:=OX.out w' hg;have jd:=St.au K;clear K hg X OX)
 all_goals(go_wp2;go_end0;exact⟨rfl,b',jd.out⟩)
