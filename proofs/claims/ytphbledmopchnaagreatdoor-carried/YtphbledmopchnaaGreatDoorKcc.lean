import Derived.Test.YtphbledmopchnaaGreatDoorKbd
set_option maxHeartbeats 20000000
set_option maxRecDepth 100000
namespace Go.Proofs.YtphbledmopchnaaGreatDoor.Sd
open Go.RowKit Go.Lib Mm St Tryz
theorem Gc(sp so lo hi:Nat)(base:Option Addr)(c:Nat)(most:Int)(fl:Nat)(rs:List (Nat×Nat))(l:List Value)(w:World)(hS:Rg.Sorted rs)(hB:Small rs)(hn:rs.length<=1000000)(hf:lo<=hi)(hr:hi<18446744073709551616)(hs:jh w sp so l most fl base rs.length c)(R:fP w sp base c rs)(hc:rs.length<=c)(h7:c<=9223372036854775807)(h8:Rg.gB lo rs<Rg.end' hi rs):
  Calls prog 168 #[.pointer (some ⟨sp,so,none⟩),.agg #[.int .u64 lo,.int .u64 hi]] w fun e w'=>e=.returned (.tuple #[])/\
   ∃b',Bc w' sp so l most fl (Rg.ins lo hi rs) (some b')/\Kept w w' sp (base.map (·.block))/\(some b'=base.map (·.block)\/w.heap.size<=b'):=by
 obtain⟨W,hW⟩:∃W,W=(w.alloc (.cells #[.pointer (some ⟨sp,so,none⟩)] 273)).alloc (.cells #[.int .u64 lo,.int .u64 hi] 170):=⟨_,rfl⟩
 have O:ak W w.heap.size 273 [.pointer (some ⟨sp,so,none⟩)]:=by rw[hW];exact(ak.new w 273 _).alloc _
 have I:ak W (w.heap.size+1) 170 [.int .u64 lo,.int .u64 hi]:=by
  rw[hW];have:=ak.new (w.alloc (.cells #[.pointer (some ⟨sp,so,none⟩)] 273)) 170 [.int .u64 lo,.int .u64 hi];rwa[World.size_alloc]at this
 have hE:Below w.heap.size w W:=by rw[hW];exact((Below.refl _ w).alloc (Nat.le_refl _) _).alloc (by simp) _
 have U:jh W sp so l most fl base rs.length c:=hs.of (hE.block sp hs.1.lt);have RW:fP W sp base c rs:=R.of_heap (fun b hb=>hE.block b (jP R b (by rw[hb];rfl)).2);have s1:=Dl w.heap.size (w.heap.size+1) sp so lo base c rs W hS hB hn (by omega) (O.cell 0) (I.cell 0) (U.jy) RW
 have s2:=fun q=>Dm w.heap.size (w.heap.size+1) sp so hi base c rs (W.drewN q) hS hB hn (by omega) (O.cell 0) (I.cell 1) (U.jy) RW
 have hj:w.cell? ⟨sp,so+2,none⟩=some (.slice base rs.length c):=hs.jy;have hu:sp<w.heap.size:=hs.1.lt;have he:=Rg.vI hi rs
 have hm:Rg.yS lo hi rs=(min lo (rs.getD (Rg.gB lo rs) (0,0)).1,max hi (rs.getD (Rg.end' hi rs-1) (0,0)).2):=by unfold Rg.yS;rw[if_pos h8]
 have h9:((Rg.yS lo hi rs).1:Int)=min (lo:Int) ((rs.getD (Rg.gB lo rs) (0,0)).1:Int):=by rw[hm];simp only[];omega
 have ha:((Rg.yS lo hi rs).2:Int)=max (hi:Int) ((rs.getD (Rg.end' hi rs-1) (0,0)).2:Int):=by rw[hm];simp only[];omega
 have Z:=fun W6 X W'=>oU sp so lo hi base c most fl rs l w W6 hS hn hf hs R hc h7 X W'
 have hK:=fun W6 X h1 h2=>uP (W6:=W6) (a:=min (lo:Int) ((rs.getD (Rg.gB lo rs) (0,0)).1:Int)) (b:=max (hi:Int) ((rs.getD (Rg.end' hi rs-1) (0,0)).2:Int)) hs (jP R) X h1 h2
 rw[h9,ha]at Z
 have hQ:∀q,∃b,base=some ⟨b,0,none⟩/\b<w.heap.size/\(W.drewN q).cell? ⟨b,Rg.gB lo rs*2,none⟩=some (.int .u64 ((rs.getD (Rg.gB lo rs) (0,0)).1:Int))/\(W.drewN q).cell? ⟨b,(Rg.end' hi rs-1)*2+1,none⟩=some (.int .u64 ((rs.getD (Rg.end' hi rs-1) (0,0)).2:Int)):=fun q=>by
  obtain⟨b,hb,_,_,_,k4⟩:=RW.ku (i:=Rg.gB lo rs) (by omega);obtain⟨b2,h6,_,_,k5,_⟩:=RW.ku (i:=Rg.end' hi rs-1) (by omega)
  obtain rfl:b2=b:=by rw[hb]at h6;simpa using h6.symm
  exact⟨b2,hb,(jP R b2 (by rw[hb];rfl)).2,k4,k5⟩
 generalize (rs.getD (Rg.gB lo rs) (0,0)).1=x at Z hK hQ;generalize (rs.getD (Rg.end' hi rs-1) (0,0)).2=y at Z hK hQ;generalize Rg.ins lo hi rs=hv at Z ⊢;have qI:=St.hid s1;have h3:=St.hid s2;have HR:=St.hid Z;have HK:=St.hid hK;have HQ:=St.hid hQ;have HB:=St.hid (And.intro O (And.intro I (And.intro U hE)));clear s1 s2 O I U RW R hs Z hK hQ hE hm h9 ha;subst hW;go_enter func168,ntmps168
 go_wp2_with fail
 refine qI.out.mono ?_;rintro e w' ⟨rfl,q1,rfl⟩
 go_wp2_with fail
 refine(h3.out q1).mono ?_;rintro e w' ⟨rfl,q2,rfl⟩;clear qI h3
 have V9:((Rg.gB lo rs:Nat):Int)<((Rg.end' hi rs:Nat):Int):=by omega
 go_wp2_with fail
 obtain⟨b,hb,ho,k4,k5⟩:=HQ.out (q1+q2);generalize uD:((w.alloc (.cells #[.pointer (some ⟨sp,so,none⟩)] 273)).alloc (.cells #[.int .u64 lo,.int .u64 hi] 170)).drewN (q1+q2)=H at k4 k5 ⊢
 have G:Hid (ak H w.heap.size 273 [.pointer (some ⟨sp,so,none⟩)]/\ak H (w.heap.size+1) 170 [.int .u64 lo,.int .u64 hi]/\jh H sp so l most fl base rs.length c/\Below w.heap.size w H):=by
  rw[<-uD];obtain⟨a1,a2,a3,a4⟩:=HB.out;exact⟨a1,a2,a3,a4.os,a4.tape,a4.output,a4.size,a4.block⟩
 have k0:H.cell? ⟨w.heap.size,0,none⟩=some (.pointer (some ⟨sp,so,none⟩)):=G.out.1.cell 0;have k1:H.cell? ⟨w.heap.size+1,0,none⟩=some (.int .u64 lo):=G.out.2.1.cell 0;have k2:H.cell? ⟨w.heap.size+1,1,none⟩=some (.int .u64 hi):=G.out.2.1.cell 1;have k3:H.cell? ⟨sp,so+2,none⟩=some (.slice base rs.length c):=G.out.2.2.1.jy;have k6:H.frozen? ⟨w.heap.size+1,0,none⟩=false:=G.out.2.1.frozen 0;have k7:H.frozen? ⟨w.heap.size+1,1,none⟩=false:=G.out.2.1.frozen 1;clear uD HB HQ hj;subst hb
 have i1:((Rg.gB lo rs:Nat):Int)<((rs.length:Nat):Int):=by omega
 have hk:IntKind.i64.wrap (((Rg.end' hi rs:Nat):Int)-1)=((Rg.end' hi rs:Nat):Int)-1:=by rw[IntKind.wrap_i64];omega
 have i2:((Rg.end' hi rs:Nat):Int)-1<((rs.length:Nat):Int):=by omega
 have i3:0<=((Rg.end' hi rs:Nat):Int)-1:=by omega
 have i4:(((Rg.end' hi rs:Nat):Int)-1).toNat=Rg.end' hi rs-1:=by omega
 have n1:¬(b=w.heap.size+1):=by omega
 have n2:¬(sp=w.heap.size+1):=by omega
 generalize Rg.gB lo rs=F at *;generalize Rg.end' hi rs=E at *
 go_region
 go_wp2_with fail
 go_region
 go_wp2_with fail
 generalize Fj:((H.setCell ⟨w.heap.size+1,0,none⟩ (.int .u64 (min (lo:Int) (x:Int)))).setCell ⟨w.heap.size+1,1,none⟩ (.int .u64 (max (hi:Int) (y:Int)))).drew.drew=W6
 have X:Below w.heap.size w W6:=by
  rw[<-Fj];exact(((G.out.2.2.2.setCell (p:=⟨w.heap.size+1,0,none⟩) (by simp) _).setCell (p:=⟨w.heap.size+1,1,none⟩) (by simp) _).drew).drew
 have g1:ak W6 w.heap.size 273 [.pointer (some ⟨sp,so,none⟩)]:=by
  rw[<-Fj];exact((G.out.1.iF ⟨w.heap.size+1,0,none⟩ _ (by simp)).iF ⟨w.heap.size+1,1,none⟩ _ (by simp))
 have g2:ak W6 (w.heap.size+1) 170 [.int .u64 (min (lo:Int) (x:Int)),.int .u64 (max (hi:Int) (y:Int))]:=by
  rw[<-Fj];exact((G.out.2.1.FN 0 (.int .u64 (min (lo:Int) (x:Int)))).FN 1 (.int .u64 (max (hi:Int) (y:Int))))
 have h5:=HR.out W6 X;obtain⟨m0,m1,m2,m3,z1,z2,z3,h4⟩:=HK.out W6 X g1 g2;clear HR HK X g1 g2 Fj G k0 k1 k2 k3 k4 k5 k6 k7 i1 i2 i3 i4 hk n1 n2 h8 V9 he;have h0:=St.hid (h5 (W6.alloc (.cells #[.int .u64 (min (lo:Int) (x:Int)),.int .u64 (max (hi:Int) (y:Int))] 170)).drew rfl rfl rfl rfl);have Nw:=St.hid (fun w'=>h4 (W6.alloc (.cells #[.int .u64 (min (lo:Int) (x:Int)),.int .u64 (max (hi:Int) (y:Int))] 170)).drew w' _ rfl);clear h5 h4;generalize min (lo:Int) (x:Int)=mn at *;generalize max (hi:Int) (y:Int)=mx at *
 have n5:¬(sp=w.heap.size):=by omega
 have n6:¬(sp=w.heap.size+1):=by omega
 go_region_with (go_at_call 224;refine h0.out.mono ?_;rintro e w' ⟨b',c',rfl,V,hg⟩;obtain⟨⟨u0,u3,u4⟩,u1,u2⟩:=Nw.out w' hg;have iG:=St.hid V;clear V hg h0 Nw)
 all_goals(go_wp2;go_end0;exact⟨rfl,b',iG.out⟩)
end Go.Proofs.YtphbledmopchnaaGreatDoor.Sd
