import Derived.Test.YtphbledmopchnaaGreatDoorKbd
set_option maxHeartbeats 20000000
set_option maxRecDepth 100000
namespace Go.Proofs.YtphbledmopchnaaGreatDoor.Sd
open Go.RowKit Go.Lib Mm St Tryz
theorem Gb(sp so lo hi:Nat)(base:Option Addr)(c:Nat)(most:Int)(fl:Nat)(rs:List (Nat×Nat))(l:List Value)(w:World)(hS:Rg.Sorted rs)(hB:Small rs)(hn:rs.length<=1000000)(h4:lo<=hi)(h9:hi<18446744073709551616)(hs:jh w sp so l most fl base rs.length c)(R:fP w sp base c rs)(hc:rs.length<=c)(h2:c<=9223372036854775807)(h3:¬Rg.gB lo rs<Rg.end' hi rs):
  Calls prog 168 #[.pointer (some ⟨sp,so,none⟩),.agg #[.int .u64 lo,.int .u64 hi]] w fun e w'=>e=.returned (.tuple #[])/\
   ∃b',Bc w' sp so l most fl (Rg.ins lo hi rs) (some b')/\Kept w w' sp (base.map (·.block))/\(some b'=base.map (·.block)\/w.heap.size<=b'):=by
 obtain⟨W,hW⟩:∃W,W=(w.alloc (.cells #[.pointer (some ⟨sp,so,none⟩)] 273)).alloc (.cells #[.int .u64 lo,.int .u64 hi] 170):=⟨_,rfl⟩
 have I:ak W w.heap.size 273 [.pointer (some ⟨sp,so,none⟩)]:=by rw[hW];exact(ak.new w 273 _).alloc _
 have H:ak W (w.heap.size+1) 170 [.int .u64 lo,.int .u64 hi]:=by
  rw[hW];have:=ak.new (w.alloc (.cells #[.pointer (some ⟨sp,so,none⟩)] 273)) 170 [.int .u64 lo,.int .u64 hi];rwa[World.size_alloc]at this
 have G:Below w.heap.size w W:=by rw[hW];exact((Below.refl _ w).alloc (Nat.le_refl _) _).alloc (by simp) _
 have X:jh W sp so l most fl base rs.length c:=hs.of (G.block sp hs.1.lt);have RW:fP W sp base c rs:=R.of_heap (fun b hb=>G.block b (jP R b (by rw[hb];rfl)).2);have s1:=Dl w.heap.size (w.heap.size+1) sp so lo base c rs W hS hB hn (by omega) (I.cell 0) (H.cell 0) (X.jy) RW
 have s2:=fun q=>Dm w.heap.size (w.heap.size+1) sp so hi base c rs (W.drewN q) hS hB hn (by omega) (I.cell 0) (H.cell 1) (X.jy) RW
 have h8:w.cell? ⟨sp,so+2,none⟩=some (.slice base rs.length c):=hs.jy;have ha:sp<w.heap.size:=hs.1.lt;have V8:=Rg.qM h4 hS;have h7:=Rg.vI hi rs
 have hm:Rg.yS lo hi rs=(lo,hi):=by unfold Rg.yS;rw[if_neg h3]
 have hR:=fun q W'=>oU sp so lo hi base c most fl rs l w (W.drewN q) hS hn h4 hs R hc h2 ⟨G.os,G.tape,G.output,G.size,G.block⟩ W'
 have hK:=fun q=>uP (W6:=W.drewN q) hs (jP R) ⟨G.os,G.tape,G.output,G.size,G.block⟩ I H
 have h5:(Rg.yS lo hi rs).1=lo:=by rw[hm]
 have h6:(Rg.yS lo hi rs).2=hi:=by rw[hm]
 rw[h5,h6]at hR;generalize Rg.ins lo hi rs=he at hR ⊢;have qI:=St.hid s1;have h0:=St.hid s2;have HR:=St.hid hR;have HK:=St.hid hK;have HX:=St.hid hW;clear s1 s2 I H X RW R hs hR hK G hm h5 h6;subst hW;go_enter func168,ntmps168
 go_wp2_with fail
 refine qI.out.mono ?_;rintro e w' ⟨rfl,q1,rfl⟩
 go_wp2_with fail
 refine(h0.out q1).mono ?_;rintro e w' ⟨rfl,q2,rfl⟩;clear qI h0
 have V9:((Rg.end' hi rs:Nat):Int)<=((Rg.gB lo rs:Nat):Int):=by omega
 go_wp2_with fail
 have V:=HR.out (q1+q2);obtain⟨k0,k1,k2,k3,z1,z2,z3,U⟩:=HK.out (q1+q2);clear HR HK;generalize uD:((w.alloc (.cells #[.pointer (some ⟨sp,so,none⟩)] 273)).alloc (.cells #[.int .u64 lo,.int .u64 hi] 170)).drewN (q1+q2)=W6 at V k0 k1 k2 k3 z1 z2 z3 U ⊢;clear uD h3 V8 V9 h7 HX h8;generalize Rg.gB lo rs=F at *;generalize Rg.end' hi rs=E at *;have Z:=St.hid (V (W6.alloc (.cells #[.int .u64 lo,.int .u64 hi] 170)).drew rfl rfl rfl rfl);have Nw:=St.hid (fun w'=>U (W6.alloc (.cells #[.int .u64 lo,.int .u64 hi] 170)).drew w' _ rfl);clear V U
 have n1:¬(sp=w.heap.size):=by omega
 have n2:¬(sp=w.heap.size+1):=by omega
 have n3:¬(w.heap.size=sp):=by omega
 have n4:¬(w.heap.size+1=sp):=by omega
 go_region_with (go_at_call 224;refine Z.out.mono ?_;rintro e w' ⟨b',c',rfl,O,hg⟩;obtain⟨⟨u0,u3,u4⟩,u1,u2⟩:=Nw.out w' hg;have iG:=St.hid O;clear O hg Z Nw)
 all_goals(go_wp2;go_end0;exact⟨rfl,b',iG.out⟩)
end Go.Proofs.YtphbledmopchnaaGreatDoor.Sd
