import Derived.Test.YtphbledmopchnaaGreatDoorUde
open Nat renaming le_refl->fA
namespace Go.Proofs.YtphbledmopchnaaGreatDoor.Sd
open Go.RowKit Go.Lib Mm Tryz
section
section
variable {oZ:Own} {s:Nat} {w0:World} {S bw bl bi ab:Nat}
theorem CP(I:Nat)(h1:Bx oZ s w0 I 128 (ay S 0)):lI oZ s w0 S bw bl bi ab 250 #[] #[ay I 0] fun M _=>M.gr.waits M.free:=by
 intro aC w M av K hE O;obtain⟨l,vc,H,Z⟩:=hE;have x1:=(h1.kp K).cell
 have V:Hid (∀q,Calls prog 252 #[ay S 0] (w.drewN q) fun e w'=>e=.returned (uZ M.free)/\w'=w.drewN q):=fun q=>Kh aC s S l M bw bl bi vc (w.drewN q) (H.below (w':=w.drewN q) ⟨rfl,rfl,rfl,fA _,fun _ _=>rfl⟩) (fun k=>(O.inn k).free)
 have G:M.free<=aZ:=by
  unfold Side.free;generalize M.ins=L
  cases U:L.reverse with
  |nil=>rw[List.reverse_eq_nil_iff.1 U];exact Nat.zero_le _
  |cons a t=>
   have:L=t.reverse++[a]:=by rw[<-List.reverse_reverse L,U,List.reverse_cons]
   rw[this,List.foldl_append];exact Nat.min_le_right _ _
 have X:Hid (∀q,Calls prog 251 #[ay S 221,uZ M.free] (w.drewN q) fun e w'=>e=.returned (.bool (M.gr.waits M.free))/\∃n,w'=(w.drewN q).drewN n):=fun q=>Ed S 221 M.gr M.free (w.drewN q) l H.blk H.cells.gr O.ga G
 show Calls prog 250 #[ay I 0] w fun e w'=>e=.returned (.bool (M.gr.waits M.free))/\aD w w'
 generalize M.gr.waits M.free=B at *;generalize M.free=F at *;clear G H Z O K h1;go_enter func250,ntmps250
 go_wp2_with fail
 go_region_with (first|(go_at_call 252;refine(V.out _).mono ?_;rintro e y ⟨rfl,rfl⟩)|(go_at_call 251;refine(X.out _).mono ?_;rintro e y ⟨rfl,nn,rfl⟩))
 all_goals
  go_wp2;go_ret;exact⟨rfl,⟨rfl,rfl,rfl,fA _,fun _ _=>rfl⟩⟩
theorem yJ(k:Nat)(U:k<8):lI oZ s w0 S bw bl bi ab 255 #[(ay S (18+27*k))] #[] fun M _=>(M.inn k).eZ:=by
 intro aC w M av K H O;obtain⟨l,vc,F,V⟩:=H;obtain⟨vh,G,I,_⟩:=F.inn k U;refine(Ab S (18+27*k) (M.inn k) vh G w l F.blk I (O.inn k)).mono ?_;rintro e w' ⟨rfl,q,rfl⟩;exact⟨rfl,⟨rfl,rfl,rfl,fA _,fun _ _=>rfl⟩⟩
theorem CQ(k:Nat)(O:k<8):lI oZ s w0 S bw bl bi ab 258 #[(ay S (4+27*k))] #[] fun M _=>(M.out k).nt.waits (M.out k).bytes.length:=by
 intro aC w M av K H I;obtain⟨l,vc,F,V⟩:=H;obtain⟨a,c,va,U,G,X,_⟩:=(F.out k O).open F.blk;refine(xX S (4+27*k) (M.out k).nt (M.out k).bytes.length c a w l F.blk (I.ob k) G.c0 G.nt).mono ?_;rintro e w' ⟨rfl,q,rfl⟩;exact⟨rfl,⟨rfl,rfl,rfl,fA _,fun _ _=>rfl⟩⟩
theorem pI(w:World)(S:Nat)(a:Option Addr)(n c:Nat)(F:w.cell? (aj S 233)=some (.slice a n c)):Calls prog 268 #[ay S 233] w fun e w'=>e=.returned (.bool (decide (0<n)))/\w'=w:=by
 go_enter func268,ntmps268;go_wp2;go_ret;exact⟨by simp,rfl⟩
theorem Y3{f:Fr}(h:QF f)(w:World):Ct w f none 0:=⟨h.sn,h.ok,fun j F=>by rw[h.rs]at F;exact absurd F (Nat.not_lt_zero _),by rw[h.rs];exact fA _,(fun x G=>by cases G),h.ln⟩
theorem bT.WR{oZ:Own}{s:Nat}{w:World}{S:Nat}{l:aI}{M:Side}{bw bl bi:Nat}{vc:Value}(h:bT oZ s w S l M bw bl bi vc){f:Fr}{t:List Fr}(hq:M.queue=f::t):
  ∃g c cs,M.qv=(aS g (t.length+1) c)/\oZ g=s+53/\aA w g 65 cs/\c*10<=cs.length/\t.length+1<=c/\c<=9223372036854775807/\cs.take ((t.length+1)*10)=bZ f nZ++iU t/\∀v∈cs,v.oneCell'=true:=by
 have:=h.qu;rw[hq]at this
 rcases this with⟨_,e,_⟩|⟨g,cap,cs,h1,h2,h3,h4,h5,h6,h7,h8,h9⟩
 ·simp at e
 ·exact⟨g,cap,cs,h1,h2,h3,h4,h5,h6,h8,h9⟩
theorem PX{w:World}{g:Nat}{cs:aI}{f:Fr}{r:aI}{n:Nat}(hB:aA w g 65 cs)(h:cs.take (n*10)=bZ f nZ++r)(j:Nat)(F:j<10):w.cell? (aj g j)=(bZ f nZ)[j]?:=by
 have hl:(bZ f nZ).length=10:=rfl
 have e:(cs.take (n*10))[j]?=(bZ f nZ)[j]?:=by rw[h,List.getElem?_append_left (by omega)]
 rw[hB.cell,<-e,List.getElem?_take];split
 ·rfl
 ·rename_i h1;rw[List.getElem?_take,if_neg h1,List.getElem?_eq_getElem (by omega)]at e;cases e
theorem yK(oZ:Own)(s:Nat)(S:Nat)(l:aI)(M:Side)(bw bl bi:Nat)(vc:Value)(w:World)(h:bT oZ s w S l M bw bl bi vc)(hq:∀f∈M.queue,QF f):
  Calls prog 249 #[ay S 233] w fun e w'=>e=.returned (iZ M.cO)/\aD w w':=by
 have c233:w.cell? (aj S 233)=some M.qv:=(h.blk.cell _).trans h.cells.c233
 cases F:M.queue with
 |nil=>
  have I:M.cO=0:=by unfold Side.cO;rw[F]
  obtain⟨a,c,G,_⟩:=h.qu.shape;rw[F]at G;rw[G]at c233;rw[I];have K:=au (pI w S a _ c c233);clear G c233 h hq F I;go_enter func249,ntmps249
  go_wp2_with (first
   |(go_at_call 268;refine K.out.mono ?_;rintro e w' ⟨rfl,rfl⟩)
   |go_in)
  go_ret;exact⟨rfl,Below.refl _ _⟩
 |cons f t=>
  have I:M.cO=(aG f).length:=by unfold Side.cO;rw[F]
  obtain⟨g,c,cs,G,_,hB,_,h0,h2,ht,_⟩:=h.WR F;rw[G]at c233;rw[I];have O:=hq f (by rw[F];simp);have K:=au (pI w S _ _ c c233);have H:=au (oV f none 0 w (Y3 O w));rw[O.rs]at H
  have k:=fun j hj=>PX hB ht j hj
  have V:=k 0 (by omega);have y1:=k 1 (by omega);have y2:=k 2 (by omega);have X:=k 3 (by omega);have Z:=k 4 (by omega);have y5:=k 5 (by omega);have y6:=k 6 (by omega);have y7:=k 7 (by omega);have y8:=k 8 (by omega);have y9:=k 9 (by omega);unfold bZ at V y1 y2 X Z y5 y6 y7 y8 y9;unfold bR at H;simp only[List.getElem?_cons_zero,List.getElem?_cons_succ,List.length_nil]at V y1 y2 X Z y5 y6 y7 y8 y9 H;obtain⟨n,U⟩:∃n,n=t.length:=⟨_,rfl⟩;rw[<-U]at c233 K;obtain⟨z,hz⟩:∃z,z=(aG f).length:=⟨_,rfl⟩;rw[<-hz]at H ⊢;clear hz U k G h hq F I O ht hB;go_enter func249,ntmps249
  go_wp2_with (first
   |(go_at_call 268;refine K.out.mono ?_;rintro e w' ⟨rfl,rfl⟩)
   |(go_at_call 210;refine H.out.mono ?_;rintro e w' ⟨rfl,hb⟩)
   |go_in)
  go_ret;exact⟨rfl,hb⟩
theorem yL:lI oZ s w0 S bw bl bi ab 268 #[ay S 233] #[] fun M _=>decide (0<M.queue.length):=by
 intro aC w M av K G O;obtain⟨l,vc,F,I⟩:=G;obtain⟨a,c,H,_⟩:=F.qu.shape;refine(pI w S a _ c (((F.blk.cell _).trans F.cells.c233).trans (by rw[H]))).mono ?_;rintro e w' ⟨rfl,rfl⟩;exact⟨rfl,Below.refl _ _⟩
theorem Mr(k:Nat)(X:k<8)(U b2:Nat)(h1:Bx oZ s w0 U 282 (ay S (4+27*k)))(V:Bx oZ s w0 b2 128 (ay S 0)):
  lI oZ s w0 S bw bl bi ab 263 #[] #[ay U 0,ay b2 0] fun M _=>(M.out k).waits M.aB:=by
 intro aC w M av K hE G;obtain⟨l,vc,O,hA⟩:=hE;have x1:=(h1.kp K).cell;have x2:=(V.kp K).cell;have PY:=G.sent O.lo k X
 have I:(M.out k).sent+M.aB<18446744073709551616:=by
  have:=G.lm;unfold Side.aB;unfold aZ at *;omega
 have Z:Hid (∀q,Calls prog 265 #[ay S 0] (w.drewN q) fun e w'=>e=.returned (uZ M.aB)/\w'=w.drewN q):=fun q=>Bj aC s S l M bw bl bi vc (w.drewN q) (O.below (w':=w.drewN q) ⟨rfl,rfl,rfl,fA _,fun _ _=>rfl⟩) G.sp G.lm
 have HG:Hid (∀q,Calls prog 264 #[(ay S (4+27*k)),uZ M.aB] (w.drewN q) fun e w'=>e=.returned (.bool ((M.out k).waits M.aB))/\aD w w'):=fun q=>by
  have H:=O.below (w':=w.drewN q) ⟨rfl,rfl,rfl,fA _,fun _ _=>rfl⟩;refine(O6 (s+1+5*k) aC S (4+27*k) (M.out k) M.aB l (w.drewN q) H.blk (H.out k X) (G.ob k) I (G.oa k)).mono ?_;rintro e w' ⟨rfl,hb⟩;exact⟨rfl,⟨hb.os,hb.tape,hb.output,hb.size,hb.block⟩⟩
 show Calls prog 263 #[ay U 0,ay b2 0] w fun e w'=>e=.returned (.bool ((M.out k).waits M.aB))/\aD w w'
 generalize (M.out k).waits M.aB=B at *;generalize M.aB=F at *;clear I PY O hA G K h1 V;go_enter func263,ntmps263
 go_wp2_with fail
 go_region_with (first|(go_at_call 265;refine(Z.out _).mono ?_;rintro e y ⟨rfl,rfl⟩)|(go_at_call 264;refine(HG.out _).mono ?_;rintro e y ⟨rfl,hb⟩))
 all_goals
  go_wp2;go_ret;exact⟨rfl,hb⟩
theorem Ms:lI oZ s w0 S bw bl bi ab 246 #[ay ab 0] #[] fun _ av=>decide (0<av.length):=by
 intro aC w M av K O V;obtain⟨l,vc,U,I⟩:=O;obtain⟨_,v,G,F⟩:=I
 obtain⟨a,c,rfl⟩:∃a c,v=.slice a av.length c:=by
  rcases F with⟨h1,H⟩|⟨rb,off,c,h1,_⟩
  ·exact⟨none,0,by rw[h1,H];rfl⟩
  ·exact⟨_,_,h1⟩
 have X:w.cell? (aj ab 0)=some (.slice a av.length c):=G.cell 0
 show Calls prog 246 #[ay ab 0] w fun e w'=>e=.returned (.bool (decide (0<av.length)))/\aD w w'
 generalize av.length=n at *;clear F G U V K;go_enter func246,ntmps246;go_wp2;go_ret;exact⟨congrArg (fun b=>Ending.returned (.bool b)) (decide_eq_decide.2 (by omega)),Below.refl _ _⟩
end

