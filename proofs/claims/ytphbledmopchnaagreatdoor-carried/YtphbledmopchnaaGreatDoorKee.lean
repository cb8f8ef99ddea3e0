import Derived.Test.YtphbledmopchnaaGreatDoorKde
open Nat renaming le_refl->jK
namespace Go.Proofs.YtphbledmopchnaaGreatDoor.Sd
open Go.RowKit Go.Lib Mm Tryz
section
section
variable {own:Own} {s:Nat} {w0:World} {S bw bl bi ab:Nat}
theorem BX(I:Nat)(h1:Bx own s w0 I 128 (.pointer (some ⟨S,0,none⟩))):lH own s w0 S bw bl bi ab 250 #[] #[.pointer (some ⟨I,0,none⟩)] fun M _=>M.gr.waits M.free:=by
 intro own' w M left K hE O;obtain⟨l,vc,H,Z⟩:=hE;have x1:=(h1.kp K).cell
 have V:Hid (∀q,Calls prog 252 #[.pointer (some ⟨S,0,none⟩)] (w.drewN q) fun e w'=>e=.returned (.int .u64 M.free)/\w'=w.drewN q):=fun q=>Jf own' s S l M bw bl bi vc (w.drewN q) (H.below (w':=w.drewN q) ⟨rfl,rfl,rfl,jK _,fun _ _=>rfl⟩) (fun k=>(O.inn k).free)
 have G:M.free<=aU:=by
  unfold Side.free;generalize M.ins=L
  cases U:L.reverse with
  |nil=>rw[List.reverse_eq_nil_iff.1 U];exact Nat.zero_le _
  |cons a t=>
   have:L=t.reverse++[a]:=by rw[<-List.reverse_reverse L,U,List.reverse_cons]
   rw[this,List.foldl_append];exact Nat.min_le_right _ _
 have X:Hid (∀q,Calls prog 251 #[.pointer (some ⟨S,221,none⟩),.int .u64 M.free] (w.drewN q) fun e w'=>e=.returned (.bool (M.gr.waits M.free))/\∃n,w'=(w.drewN q).drewN n):=fun q=>Dh S 221 M.gr M.free (w.drewN q) l H.blk H.cells.gr O.ga G
 show Calls prog 250 #[.pointer (some ⟨I,0,none⟩)] w fun e w'=>e=.returned (.bool (M.gr.waits M.free))/\Below w.heap.size w w'
 generalize M.gr.waits M.free=B at *;generalize M.free=F at *;clear G H Z O K h1;go_enter func250,ntmps250
 go_wp2_with fail
 go_region_with (first|(go_at_call 252;refine(V.out _).mono ?_;rintro e y ⟨rfl,rfl⟩)|(go_at_call 251;refine(X.out _).mono ?_;rintro e y ⟨rfl,nn,rfl⟩))
 all_goals
  go_wp2;go_ret;exact⟨rfl,⟨rfl,rfl,rfl,jK _,fun _ _=>rfl⟩⟩
theorem yg(k:Nat)(U:k<8):lH own s w0 S bw bl bi ab 255 #[.pointer (some ⟨S,18+27*k,none⟩)] #[] fun M _=>(M.inn k).eO:=by
 intro own' w M left K H O;obtain⟨l,vc,F,V⟩:=H;obtain⟨vh,G,I,_⟩:=F.inn k U;refine(yY S (18+27*k) (M.inn k) vh G w l F.blk I (O.inn k)).mono ?_;rintro e w' ⟨rfl,q,rfl⟩;exact⟨rfl,⟨rfl,rfl,rfl,jK _,fun _ _=>rfl⟩⟩
theorem BZ(k:Nat)(O:k<8):lH own s w0 S bw bl bi ab 258 #[.pointer (some ⟨S,4+27*k,none⟩)] #[] fun M _=>(M.out k).nt.waits (M.out k).bytes.length:=by
 intro own' w M left K H I;obtain⟨l,vc,F,V⟩:=H;obtain⟨a,c,va,U,G,X,_⟩:=(F.out k O).open F.blk;refine(wO S (4+27*k) (M.out k).nt (M.out k).bytes.length c a w l F.blk (I.ob k) G.c0 G.nt).mono ?_;rintro e w' ⟨rfl,q,rfl⟩;exact⟨rfl,⟨rfl,rfl,rfl,jK _,fun _ _=>rfl⟩⟩
theorem uW(w:World)(S:Nat)(c:w.cell? ⟨S,233,none⟩=some (.slice none 0 0)):Calls prog 268 #[.pointer (some ⟨S,233,none⟩)] w fun e w'=>e=.returned (.bool false)/\w'=w:=by
 go_enter func268,ntmps268;go_wp2;go_ret;exact⟨rfl,rfl⟩
theorem Hw(w:World)(S:Nat)(c:w.cell? ⟨S,233,none⟩=some (.slice none 0 0)):Calls prog 249 #[.pointer (some ⟨S,233,none⟩)] w fun e w'=>e=.returned (.int .i64 0)/\w'=w:=by
 have F:=hid (uW w S c);go_enter func249,ntmps249
 go_wp2_with (first
  |(go_at_call 268;refine F.out.mono ?_;rintro e w' ⟨rfl,rfl⟩)
  |go_in)
 go_ret;exact⟨rfl,rfl⟩
theorem yh:lH own s w0 S bw bl bi ab 268 #[.pointer (some ⟨S,233,none⟩)] #[] fun M _=>decide (0<M.queue.length):=by
 intro own' w M left K G H;obtain⟨l,vc,F,I⟩:=G;refine(uW w S ((F.blk.cell _).trans F.cells.c233)).mono ?_;rintro e w' ⟨rfl,rfl⟩;refine⟨?_,Below.refl _ _⟩;show Ending.returned (.bool false)=.returned (.bool (decide (0<M.queue.length)));rw[H.q];rfl
theorem Mf(k:Nat)(X:k<8)(U b2:Nat)(h1:Bx own s w0 U 282 (.pointer (some ⟨S,4+27*k,none⟩)))(V:Bx own s w0 b2 128 (.pointer (some ⟨S,0,none⟩))):
  lH own s w0 S bw bl bi ab 263 #[] #[.pointer (some ⟨U,0,none⟩),.pointer (some ⟨b2,0,none⟩)] fun M _=>(M.out k).waits M.au:=by
 intro own' w M left K hE G;obtain⟨l,vc,O,hA⟩:=hE;have x1:=(h1.kp K).cell;have x2:=(V.kp K).cell;have O3:=G.sent O.lo k X
 have I:(M.out k).sent+M.au<18446744073709551616:=by
  have:=G.lm;unfold Side.au;unfold aU at *;omega
 have Z:Hid (∀q,Calls prog 265 #[.pointer (some ⟨S,0,none⟩)] (w.drewN q) fun e w'=>e=.returned (.int .u64 M.au)/\w'=w.drewN q):=fun q=>zW own' s S l M bw bl bi vc (w.drewN q) (O.below (w':=w.drewN q) ⟨rfl,rfl,rfl,jK _,fun _ _=>rfl⟩) G.sp G.lm
 have HG:Hid (∀q,Calls prog 264 #[.pointer (some ⟨S,4+27*k,none⟩),.int .u64 M.au] (w.drewN q) fun e w'=>e=.returned (.bool ((M.out k).waits M.au))/\Below w.heap.size w w'):=fun q=>by
  have H:=O.below (w':=w.drewN q) ⟨rfl,rfl,rfl,jK _,fun _ _=>rfl⟩;refine(NI (s+1+5*k) own' S (4+27*k) (M.out k) M.au l (w.drewN q) H.blk (H.out k X) (G.ob k) I (G.oa k)).mono ?_;rintro e w' ⟨rfl,hb⟩;exact⟨rfl,⟨hb.os,hb.tape,hb.output,hb.size,hb.block⟩⟩
 show Calls prog 263 #[.pointer (some ⟨U,0,none⟩),.pointer (some ⟨b2,0,none⟩)] w fun e w'=>e=.returned (.bool ((M.out k).waits M.au))/\Below w.heap.size w w'
 generalize (M.out k).waits M.au=B at *;generalize M.au=F at *;clear I O3 O hA G K h1 V;go_enter func263,ntmps263
 go_wp2_with fail
 go_region_with (first|(go_at_call 265;refine(Z.out _).mono ?_;rintro e y ⟨rfl,rfl⟩)|(go_at_call 264;refine(HG.out _).mono ?_;rintro e y ⟨rfl,hb⟩))
 all_goals
  go_wp2;go_ret;exact⟨rfl,hb⟩
theorem Mg:lH own s w0 S bw bl bi ab 246 #[.pointer (some ⟨ab,0,none⟩)] #[] fun _ left=>decide (0<left.length):=by
 intro own' w M left K O V;obtain⟨l,vc,U,I⟩:=O;obtain⟨_,v,G,F⟩:=I
 obtain⟨a,c,rfl⟩:∃a c,v=.slice a left.length c:=by
  rcases F with⟨h1,H⟩|⟨rb,off,c,h1,_⟩
  ·exact⟨none,0,by rw[h1,H];rfl⟩
  ·exact⟨_,_,h1⟩
 have X:w.cell? ⟨ab,0,none⟩=some (.slice a left.length c):=G.cell 0
 show Calls prog 246 #[.pointer (some ⟨ab,0,none⟩)] w fun e w'=>e=.returned (.bool (decide (0<left.length)))/\Below w.heap.size w w'
 generalize left.length=n at *;clear F G U V K;go_enter func246,ntmps246;go_wp2;go_ret;exact⟨congrArg (fun b=>Ending.returned (.bool b)) (decide_eq_decide.2 (by omega)),Below.refl _ _⟩
end

end
end Go.Proofs.YtphbledmopchnaaGreatDoor.Sd
