import Derived.Test.YtphbledmopchnaaGreatDoorUca
set_option maxHeartbeats 20000000
set_option maxRecDepth 100000
namespace Go.Proofs.YtphbledmopchnaaGreatDoor.Sd
open Go.RowKit Go.Lib Mm St Tryz
theorem H_(sp so lo hi:Nat)(base:Option Addr)(c:Nat)(most:Int)(fl:Nat)(rs:aP)(l:aI)(w:World)(hS:Rg.Sorted rs)(hB:Small rs)(hn:rs.length<=1000000)(he:lo<=hi)(ho:hi<18446744073709551616)(hs:jN w sp so l most fl base rs.length c)(R:gN w sp base c rs)(hc:rs.length<=c)(h6:c<=9223372036854775807)(h7:Rg.gX lo rs<Rg.end' hi rs):
  Calls prog 168 #[ay sp so,.agg #[uZ lo,uZ hi]] w fun e w'=>e=.returned (.tuple #[])/\
   ∃b',Cv w' sp so l most fl (Rg.ins lo hi rs) (some b')/\Kept w w' sp (base.map (·.block))/\(some b'=base.map (·.block)\/w.heap.size<=b'):=by
 obtain⟨W,hW⟩:∃W,W=(w.alloc (.cells #[ay sp so] 273)).alloc (.cells #[uZ lo,uZ hi] 170):=⟨_,rfl⟩
 have K:aA W w.heap.size 273 [ay sp so]:=by rw[hW];exact(aA.new w 273 _).alloc _
 have I:aA W (w.heap.size+1) 170 [uZ lo,uZ hi]:=by
  rw[hW];have:=aA.new (w.alloc (.cells #[ay sp so] 273)) 170 [uZ lo,uZ hi];rwa[World.size_alloc]at this
 have hE:aD w W:=by rw[hW];exact((Below.refl _ w).alloc (Nat.le_refl _) _).alloc (by simp) _
 have O:jN W sp so l most fl base rs.length c:=hs.of (hE.block sp hs.1.lt);have RW:gN W sp base c rs:=R.of_heap (fun b hb=>hE.block b (kK R b (by rw[hb];rfl)).2);have s1:=En w.heap.size (w.heap.size+1) sp so lo base c rs W hS hB hn (by omega) (K.cell 0) (I.cell 0) (O.jW) RW
 have s2:=fun q=>Eo w.heap.size (w.heap.size+1) sp so hi base c rs (W.drewN q) hS hB hn (by omega) (K.cell 0) (I.cell 1) (O.jW) RW
 have hf:w.cell? (aj sp (so+2))=some (.slice base rs.length c):=hs.jW;have hr:sp<w.heap.size:=hs.1.lt;have ha:=Rg.wV hi rs
 have hm:Rg.zW lo hi rs=(min lo (rs.getD (Rg.gX lo rs) (0,0)).1,max hi (rs.getD (Rg.end' hi rs-1) (0,0)).2):=by unfold Rg.zW;rw[if_pos h7]
 have h8:((Rg.zW lo hi rs).1:Int)=min (lo:Int) ((rs.getD (Rg.gX lo rs) (0,0)).1:Int):=by rw[hm];simp only[];omega
 have h9:((Rg.zW lo hi rs).2:Int)=max (hi:Int) ((rs.getD (Rg.end' hi rs-1) (0,0)).2:Int):=by rw[hm];simp only[];omega
 have X:=fun W6 V W'=>qD sp so lo hi base c most fl rs l w W6 hS hn he hs R hc h6 V W'
 have hK:=fun W6 V h1 h2=>vS (W6:=W6) (a:=min (lo:Int) ((rs.getD (Rg.gX lo rs) (0,0)).1:Int)) (b:=max (hi:Int) ((rs.getD (Rg.end' hi rs-1) (0,0)).2:Int)) hs (kK R) V h1 h2
 rw[h8,h9]at X
 have hQ:∀q,∃b,base=some (aj b 0)/\b<w.heap.size/\(W.drewN q).cell? (aj b (Rg.gX lo rs*2))=some (uZ ((rs.getD (Rg.gX lo rs) (0,0)).1:Int))/\(W.drewN q).cell? (aj b ((Rg.end' hi rs-1)*2+1))=some (uZ ((rs.getD (Rg.end' hi rs-1) (0,0)).2:Int)):=fun q=>by
  obtain⟨b,hb,_,_,_,k4⟩:=RW.lH (i:=Rg.gX lo rs) (by omega);obtain⟨b2,h5,_,_,k5,_⟩:=RW.lH (i:=Rg.end' hi rs-1) (by omega)
  obtain rfl:b2=b:=by rw[hb]at h5;simpa using h5.symm
  exact⟨b2,hb,(kK R b2 (by rw[hb];rfl)).2,k4,k5⟩
 generalize (rs.getD (Rg.gX lo rs) (0,0)).1=x at X hK hQ;generalize (rs.getD (Rg.end' hi rs-1) (0,0)).2=y at X hK hQ;generalize Rg.ins lo hi rs=hu at X ⊢;have rW:=St.au s1;have h0:=St.au s2;have HR:=St.au X;have HK:=St.au hK;have HQ:=St.au hQ;have HB:=St.au (And.intro K (And.intro I (And.intro O hE)));clear s1 s2 K I O RW R hs X hK hQ hE hm h8 h9;subst hW;go_enter func168,ntmps168
 go_wp2_with fail
 refine rW.out.mono ?_;rintro e w' ⟨rfl,q1,rfl⟩
 go_wp2_with fail
 refine(h0.out q1).mono ?_;rintro e w' ⟨rfl,q2,rfl⟩;clear rW h0
 have Xq:((Rg.gX lo rs:Nat):Int)<((Rg.end' hi rs:Nat):Int):=by omega
 go_wp2_with fail
 obtain⟨b,hb,hk,k4,k5⟩:=HQ.out (q1+q2);generalize vG:((w.alloc (.cells #[ay sp so] 273)).alloc (.cells #[uZ lo,uZ hi] 170)).drewN (q1+q2)=H at k4 k5 ⊢
 have G:Hid (aA H w.heap.size 273 [ay sp so]/\aA H (w.heap.size+1) 170 [uZ lo,uZ hi]/\jN H sp so l most fl base rs.length c/\aD w H):=by
  rw[<-vG];obtain⟨a1,a2,a3,a4⟩:=HB.out;exact⟨a1,a2,a3,a4.os,a4.tape,a4.output,a4.size,a4.block⟩
 have k0:H.cell? (aj w.heap.size 0)=some (ay sp so):=G.out.1.cell 0;have k1:H.cell? (aj (w.heap.size+1) 0)=some (uZ lo):=G.out.2.1.cell 0;have k2:H.cell? (aj (w.heap.size+1) 1)=some (uZ hi):=G.out.2.1.cell 1;have k3:H.cell? (aj sp (so+2))=some (.slice base rs.length c):=G.out.2.2.1.jW;have k6:H.frozen? (aj (w.heap.size+1) 0)=false:=G.out.2.1.frozen 0;have k7:H.frozen? (aj (w.heap.size+1) 1)=false:=G.out.2.1.frozen 1;clear vG HB HQ hf;subst hb
 have i1:((Rg.gX lo rs:Nat):Int)<((rs.length:Nat):Int):=by omega
 have hj:IntKind.i64.wrap (((Rg.end' hi rs:Nat):Int)-1)=((Rg.end' hi rs:Nat):Int)-1:=by rw[IntKind.wrap_i64];omega
 have i2:((Rg.end' hi rs:Nat):Int)-1<((rs.length:Nat):Int):=by omega
 have i3:0<=((Rg.end' hi rs:Nat):Int)-1:=by omega
 have i4:(((Rg.end' hi rs:Nat):Int)-1).toNat=Rg.end' hi rs-1:=by omega
 have n1:¬(b=w.heap.size+1):=by omega
 have n2:¬(sp=w.heap.size+1):=by omega
 generalize Rg.gX lo rs=F at *;generalize Rg.end' hi rs=E at *
 go_region
 go_wp2_with fail
 go_region
 go_wp2_with fail
 generalize Gw:((H.setCell (aj (w.heap.size+1) 0) (uZ (min (lo:Int) (x:Int)))).setCell (aj (w.heap.size+1) 1) (uZ (max (hi:Int) (y:Int)))).drew.drew=W6
 have V:aD w W6:=by
  rw[<-Gw];exact(((G.out.2.2.2.setCell (p:=(aj (w.heap.size+1) 0)) (by simp) _).setCell (p:=(aj (w.heap.size+1) 1)) (by simp) _).drew).drew
 have g1:aA W6 w.heap.size 273 [ay sp so]:=by
  rw[<-Gw];exact((G.out.1.gG (aj (w.heap.size+1) 0) _ (by simp)).gG (aj (w.heap.size+1) 1) _ (by simp))
 have g2:aA W6 (w.heap.size+1) 170 [(uZ (min (lo:Int) (x:Int))),(uZ (max (hi:Int) (y:Int)))]:=by
  rw[<-Gw];exact((G.out.2.1.Ho 0 (uZ (min (lo:Int) (x:Int)))).Ho 1 (uZ (max (hi:Int) (y:Int))))
 have h4:=HR.out W6 V;obtain⟨m0,m1,m2,m3,z1,z2,z3,h3⟩:=HK.out W6 V g1 g2;clear HR HK V g1 g2 Gw G k0 k1 k2 k3 k4 k5 k6 k7 i1 i2 i3 i4 hj n1 n2 h7 Xq ha;have Z:=St.au (h4 (W6.alloc (.cells #[(uZ (min (lo:Int) (x:Int))),(uZ (max (hi:Int) (y:Int)))] 170)).drew rfl rfl rfl rfl);have OX:=St.au (fun w'=>h3 (W6.alloc (.cells #[(uZ (min (lo:Int) (x:Int))),(uZ (max (hi:Int) (y:Int)))] 170)).drew w' _ rfl);clear h4 h3;generalize min (lo:Int) (x:Int)=mn at *;generalize max (hi:Int) (y:Int)=mx at *
 have n5:¬(sp=w.heap.size):=by omega
 have n6:¬(sp=w.heap.size+1):=by omega
 go_region_with (go_at_call 224;refine Z.out.mono ?_;rintro e w' ⟨b',c',rfl,U,hg⟩;obtain⟨⟨u0,u3,u4⟩,u1,u2⟩:=OX.out w' hg;have jd:=St.au U;clear U hg Z OX)
 all_goals(go_wp2;go_end0;exact⟨rfl,b',jd.out⟩)
