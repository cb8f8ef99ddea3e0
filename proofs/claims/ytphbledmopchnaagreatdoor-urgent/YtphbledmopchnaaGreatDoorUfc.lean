import Derived.Test.YtphbledmopchnaaGreatDoorUde
import Derived.BigRegionIn
import Derived.Shelf.AbstractIn
import Derived.Stop.RegionWithIn
import Derived.Sort.AtCall
open Go.RowKit.Below renaming refl->mR
open Bool renaming eq_false_or_eq_true->fB
open Nat renaming le_refl->fA,le_max_right->sQ,le_max_left->tL,min_le_left->tT,not_lt_zero->uj
set_option maxHeartbeats 4000000
set_option maxRecDepth 100000
namespace Go.Proofs.YtphbledmopchnaaGreatDoor.Sd
open Go.RowKit Go.Lib Mm Tryz
theorem MS(S o:Nat)(m:bU)(vh vc:Value)(f:Fr)(rv:Value)(l:aI)(w:World)(hB:aA w S TS l)(h:vQ l o m vh vc)(ho:f.offset<=aZ)(hd:f.data.size<=1000000000):
  Calls prog 295 #[ay S o,bR f rv] w fun e w'=>e=.returned (iZ (m.refuse f:Int))/\aD w w':=by
 obtain⟨W,K⟩:∃W,W=w.alloc (.cells (bZ f rv).toArray 65):=⟨_,rfl⟩
 have hb:aA W w.heap.size 65 (bZ f rv):=by rw[K];exact aA.new w 65 _
 have h4:aD w W:=by rw[K];exact(mR _ w).alloc (fA _) _
 have hsz:W.heap.size=w.heap.size+1:=by rw[K];simp
 have O:=au (iP f rv W ho hd);obtain⟨x0,x1,x2,x3,x4,x5,x6,x7,x8,x9,xf⟩:=aH hb;have V:Hid (m.refuse f=if m.ended/\m.dX<aJ f\/m.ended/\f.fin/\aJ f≠m.dX\/f.fin/\aJ f<m.high then 10 else if m.gr.told<aJ f then 9 else 0):=rfl
 have U:Hid (∀y,aD W y->y.cell? (aj w.heap.size 5)=some (.bool f.fin)/\y.cell? (aj S (o+7))=some (uZ m.high)/\y.cell? (aj S (o+8))=some (.bool m.ended)/\y.cell? (aj S (o+9))=some (uZ m.dX)/\aD w y/\
   Calls prog 296 #[ay S o,(uZ (aJ f:Int))] y fun e' w'=>e'=.returned (.bool (decide (aJ f<=m.gr.told)))/\w'=y):=fun y hy=>by
  have H:=h4.trans (hy.mono (by omega));have Dk:=hB.of_heap (H.block _ hB.lt);have F:=hb.of_heap (hy.block _ (by omega));exact⟨F.cell 5,in7 S o m vh vc y l Dk h,in8 S o m vh vc y l Dk h,in9 S o m vh vc y l Dk h,H,AR S o m.gr (aJ f) y l Dk h.gr⟩
 generalize m.refuse f=R at *;generalize aJ f=E at *;clear hb h4 hB h ho hd;unfold bR;unfold bZ at K
 rcases(fB m.ended).symm with hen|hen
 ·have uO:=au hen
  rcases(fB f.fin).symm with hfi|hfi
  ·have Bw:=au hfi;have G:=(show¬(m.ended=true/\m.dX<E\/m.ended=true/\f.fin=true/\E≠m.dX\/f.fin=true/\E<m.high) by rw[hen,hfi];simp)
   by_cases ht:m.gr.told<E
   ·have X:Hid (R=9):=by unfold Hid;rw[V.out,if_neg G,if_pos ht]
    have h0:¬(E<=m.gr.told):=by omega
    clear V G ht hen hfi;go_enter func295,ntmps295
    go_wp2_with fail
    rw[<-K];refine O.out.mono ?_;rintro e y ⟨rfl,F⟩;obtain⟨y5,y7,Z,y9,H,I⟩:=U.out y F;rw[uO.out]at Z;rw[Bw.out]at y5;have zo:=au H;have HA:=au I;clear H I F U O K x0 x1 x2 x3 x4 x5 x6 x7 x8 x9 xf
    go_wp2_with fail
    refine HA.out.mono ?_;rintro e y' ⟨rfl,rfl⟩;go_wp2;go_ret;exact⟨eP (by rw[X.out];rfl),zo.out⟩
   ·have X:Hid (R=0):=by unfold Hid;rw[V.out,if_neg G,if_neg ht]
    have h0:E<=m.gr.told:=by omega
    clear V G ht hen hfi;go_enter func295,ntmps295
    go_wp2_with fail
    rw[<-K];refine O.out.mono ?_;rintro e y ⟨rfl,F⟩;obtain⟨y5,y7,Z,y9,H,I⟩:=U.out y F;rw[uO.out]at Z;rw[Bw.out]at y5;have zo:=au H;have HA:=au I;clear H I F U O K x0 x1 x2 x3 x4 x5 x6 x7 x8 x9 xf
    go_wp2_with fail
    refine HA.out.mono ?_;rintro e y' ⟨rfl,rfl⟩;go_wp2;go_ret;exact⟨eP (by rw[X.out];rfl),zo.out⟩
  ·have Bw:=au hfi
   by_cases h3:E<m.high
   ·clear hen
    have X:Hid (R=10):=by unfold Hid;rw[V.out,if_pos (.inr (.inr ⟨hfi,h3⟩))]
    clear V hfi;go_enter func295,ntmps295
    go_wp2_with fail
    rw[<-K];refine O.out.mono ?_;rintro e y ⟨rfl,F⟩;obtain⟨y5,y7,Z,y9,H,I⟩:=U.out y F;rw[uO.out]at Z;rw[Bw.out]at y5;have zo:=au H;have HA:=au I;clear H I F U O K x0 x1 x2 x3 x4 x5 x6 x7 x8 x9 xf;go_wp2;go_ret;exact⟨eP (by rw[X.out];rfl),zo.out⟩
   ·have G:=(show¬(m.ended=true/\m.dX<E\/m.ended=true/\f.fin=true/\E≠m.dX\/f.fin=true/\E<m.high) by rw[hen,hfi];simp;omega)
    by_cases ht:m.gr.told<E
    ·have X:Hid (R=9):=by unfold Hid;rw[V.out,if_neg G,if_pos ht]
     have h0:¬(E<=m.gr.told):=by omega
     clear V G ht hen hfi;go_enter func295,ntmps295
     go_wp2_with fail
     rw[<-K];refine O.out.mono ?_;rintro e y ⟨rfl,F⟩;obtain⟨y5,y7,Z,y9,H,I⟩:=U.out y F;rw[uO.out]at Z;rw[Bw.out]at y5;have zo:=au H;have HA:=au I;clear H I F U O K x0 x1 x2 x3 x4 x5 x6 x7 x8 x9 xf
     go_wp2_with fail
     refine HA.out.mono ?_;rintro e y' ⟨rfl,rfl⟩;go_wp2;go_ret;exact⟨eP (by rw[X.out];rfl),zo.out⟩
    ·have X:Hid (R=0):=by unfold Hid;rw[V.out,if_neg G,if_neg ht]
     have h0:E<=m.gr.told:=by omega
     clear V G ht hen hfi;go_enter func295,ntmps295
     go_wp2_with fail
     rw[<-K];refine O.out.mono ?_;rintro e y ⟨rfl,F⟩;obtain⟨y5,y7,Z,y9,H,I⟩:=U.out y F;rw[uO.out]at Z;rw[Bw.out]at y5;have zo:=au H;have HA:=au I;clear H I F U O K x0 x1 x2 x3 x4 x5 x6 x7 x8 x9 xf
     go_wp2_with fail
     refine HA.out.mono ?_;rintro e y' ⟨rfl,rfl⟩;go_wp2;go_ret;exact⟨eP (by rw[X.out];rfl),zo.out⟩
 ·have uO:=au hen
  by_cases h1:m.dX<E
  ·have X:Hid (R=10):=by unfold Hid;rw[V.out,if_pos (.inl ⟨hen,h1⟩)]
   clear V hen;go_enter func295,ntmps295
   go_wp2_with fail
   rw[<-K];refine O.out.mono ?_;rintro e y ⟨rfl,F⟩;obtain⟨y5,y7,Z,y9,H,I⟩:=U.out y F;rw[uO.out]at Z;have zo:=au H;have HA:=au I;clear H I F U O K x0 x1 x2 x3 x4 x5 x6 x7 x8 x9 xf;go_wp2;go_ret;exact⟨eP (by rw[X.out];rfl),zo.out⟩
  ·rcases(fB f.fin).symm with hfi|hfi
   ·have Bw:=au hfi;have G:=(show¬(m.ended=true/\m.dX<E\/m.ended=true/\f.fin=true/\E≠m.dX\/f.fin=true/\E<m.high) by rw[hen,hfi];simp;omega)
    by_cases ht:m.gr.told<E
    ·have X:Hid (R=9):=by unfold Hid;rw[V.out,if_neg G,if_pos ht]
     have h0:¬(E<=m.gr.told):=by omega
     clear V G ht hen hfi;go_enter func295,ntmps295
     go_wp2_with fail
     rw[<-K];refine O.out.mono ?_;rintro e y ⟨rfl,F⟩;obtain⟨y5,y7,Z,y9,H,I⟩:=U.out y F;rw[uO.out]at Z;rw[Bw.out]at y5;have zo:=au H;have HA:=au I;clear H I F U O K x0 x1 x2 x3 x4 x5 x6 x7 x8 x9 xf
     go_wp2_with fail
     refine HA.out.mono ?_;rintro e y' ⟨rfl,rfl⟩;go_wp2;go_ret;exact⟨eP (by rw[X.out];rfl),zo.out⟩
    ·have X:Hid (R=0):=by unfold Hid;rw[V.out,if_neg G,if_neg ht]
     have h0:E<=m.gr.told:=by omega
     clear V G ht hen hfi;go_enter func295,ntmps295
     go_wp2_with fail
     rw[<-K];refine O.out.mono ?_;rintro e y ⟨rfl,F⟩;obtain⟨y5,y7,Z,y9,H,I⟩:=U.out y F;rw[uO.out]at Z;rw[Bw.out]at y5;have zo:=au H;have HA:=au I;clear H I F U O K x0 x1 x2 x3 x4 x5 x6 x7 x8 x9 xf
     go_wp2_with fail
     refine HA.out.mono ?_;rintro e y' ⟨rfl,rfl⟩;go_wp2;go_ret;exact⟨eP (by rw[X.out];rfl),zo.out⟩
   ·have Bw:=au hfi
    by_cases h2:E=m.dX
    ·have g2:((E:Int)==(m.dX:Int))=true:=by simp;omega
     by_cases h3:E<m.high
     ·have X:Hid (R=10):=by unfold Hid;rw[V.out,if_pos (.inr (.inr ⟨hfi,h3⟩))]
      clear V hfi hen h2;go_enter func295,ntmps295
      go_wp2_with fail
      rw[<-K];refine O.out.mono ?_;rintro e y ⟨rfl,F⟩;obtain⟨y5,y7,Z,y9,H,I⟩:=U.out y F;rw[uO.out]at Z;rw[Bw.out]at y5;have zo:=au H;have HA:=au I;clear H I F U O K x0 x1 x2 x3 x4 x5 x6 x7 x8 x9 xf;go_wp2;go_ret;exact⟨eP (by rw[X.out];rfl),zo.out⟩
     ·have G:=(show¬(m.ended=true/\m.dX<E\/m.ended=true/\f.fin=true/\E≠m.dX\/f.fin=true/\E<m.high) by rw[hen,hfi];simp;omega)
      by_cases ht:m.gr.told<E
      ·have X:Hid (R=9):=by unfold Hid;rw[V.out,if_neg G,if_pos ht]
       have h0:¬(E<=m.gr.told):=by omega
       clear V G ht hen hfi h2;go_enter func295,ntmps295
       go_wp2_with fail
       rw[<-K];refine O.out.mono ?_;rintro e y ⟨rfl,F⟩;obtain⟨y5,y7,Z,y9,H,I⟩:=U.out y F;rw[uO.out]at Z;rw[Bw.out]at y5;have zo:=au H;have HA:=au I;clear H I F U O K x0 x1 x2 x3 x4 x5 x6 x7 x8 x9 xf
       go_wp2_with fail
       refine HA.out.mono ?_;rintro e y' ⟨rfl,rfl⟩;go_wp2;go_ret;exact⟨eP (by rw[X.out];rfl),zo.out⟩
      ·have X:Hid (R=0):=by unfold Hid;rw[V.out,if_neg G,if_neg ht]
       have h0:E<=m.gr.told:=by omega
       clear V G ht hen hfi h2;go_enter func295,ntmps295
       go_wp2_with fail
       rw[<-K];refine O.out.mono ?_;rintro e y ⟨rfl,F⟩;obtain⟨y5,y7,Z,y9,H,I⟩:=U.out y F;rw[uO.out]at Z;rw[Bw.out]at y5;have zo:=au H;have HA:=au I;clear H I F U O K x0 x1 x2 x3 x4 x5 x6 x7 x8 x9 xf
       go_wp2_with fail
       refine HA.out.mono ?_;rintro e y' ⟨rfl,rfl⟩;go_wp2;go_ret;exact⟨eP (by rw[X.out];rfl),zo.out⟩
    ·have g2:((E:Int)==(m.dX:Int))=false:=by simp;omega
     have X:Hid (R=10):=by unfold Hid;rw[V.out,if_pos (.inr (.inl ⟨hen,hfi,h2⟩))]
     clear V hen hfi;go_enter func295,ntmps295
     go_wp2_with fail
     rw[<-K];refine O.out.mono ?_;rintro e y ⟨rfl,F⟩;obtain⟨y5,y7,Z,y9,H,I⟩:=U.out y F;rw[uO.out]at Z;rw[Bw.out]at y5;have zo:=au H;have HA:=au I;clear H I F U O K x0 x1 x2 x3 x4 x5 x6 x7 x8 x9 xf;go_wp2;go_ret;exact⟨eP (by rw[X.out];rfl),zo.out⟩
theorem qj(S:Nat)(y:Nat)(w:World)(c:w.cell? (aj S 238)=some (iZ y)):
  Calls prog 137 #[ay S 0] w fun e w'=>e=.returned (.bool (decide (y=0)))/\w'=w:=by
 go_enter func137,ntmps137;go_wp2;go_ret;refine⟨congrArg (fun b=>Ending.returned (.bool b)) ?_,rfl⟩;rw[Bool.eq_iff_iff];simp
theorem qm(n a b:Int)(w:World):Calls prog 185 #[iZ n,iZ a,iZ b] w fun e w'=>e=.returned (.bool (decide (a<=n/\n<=b)))/\w'=w:=by
 by_cases h1:a<=n
 ·by_cases F:n<=b
  ·rw[decide_eq_true (show a<=n/\n<=b from⟨h1,F⟩)];go_enter func185,ntmps185;go_wp2;go_ret;exact⟨rfl,rfl⟩
  ·rw[decide_eq_false (show¬(a<=n/\n<=b)from fun h=>F h.2)];go_enter func185,ntmps185;go_wp2;go_ret;exact⟨rfl,rfl⟩
 ·rw[decide_eq_false (show¬(a<=n/\n<=b)from fun h=>h1 h.1)];go_enter func185,ntmps185;go_wp2;go_ret;exact⟨rfl,rfl⟩
theorem vk(S k:Nat)(H:k<8)(w:World)(c:w.cell? (aj S 238)=some (iZ ((0:Nat):Int))):
  Calls prog 146 #[ay S 0,iZ k] w fun e w'=>e=.returned (.tuple #[(ay S (4+27*k)),.nilIface])/\w'=w:=by
 have G:=au (qj S 0 w c);have F:=au (qm (k:Int) 0 7 w);rw[decide_eq_true (show(0:Int)<=(k:Int)/\(k:Int)<=7 by omega)]at F;go_enter func146,ntmps146
 go_wp2_with (first
  |(go_at_call 137;refine G.out.mono ?_;rintro e w' ⟨rfl,rfl⟩)
  |(go_at_call 185;refine F.out.mono ?_;rintro e w' ⟨rfl,rfl⟩)
  |go_in)
 go_ret2;rw[Nat.mul_comm 27 k];exact⟨rfl,rfl⟩
theorem bT.open{oZ:Own}{s:Nat}{w:World}{S:Nat}{l:aI}{M:Side}{bw bl bi:Nat}{vc:Value}(h:bT oZ s w S l M bw bl bi vc)(F:M.why=0):w.cell? (aj S 238)=some (iZ ((0:Nat):Int)):=by
 rw[h.blk.cell,h.cells.kM,F]
theorem U4(oZ:Own)(s:Nat)(S:Nat)(l:aI)(M:Side)(bw bl bi:Nat)(vc:Value)(k:Nat)(H:k<8)(bs:List UInt8)(a:Addr)(c:Nat)(w:World)(h:bT oZ s w S l M bw bl bi vc)(O:M.why=0)(hl:(M.out k).bytes.length<=2048)(G:BytesAt w (some a) bs)(F:bs.length<=1000000000):
  Calls prog 108 #[ay S 0,iZ k,.slice (some a) bs.length c] w fun e w'=>e=.returned (nu ((M.out k).send bs).2)/\fP s oZ w S bw bl bi (M.bf k ((M.out k).send bs).1) w':=by
 have K:=au (vk S k H w (h.open O));have I:=au ((Uo s (s+1+5*k) oZ S (4+27*k) (M.out k) bs a c l w h.blk h.ow (by omega) (h.out k H) hl G F).mono fun e w' (q:_/\_)=>(⟨q.1,h.bf k H _ q.2⟩:e=.returned (nu ((M.out k).send bs).2)/\fP s oZ w S bw bl bi (M.bf k ((M.out k).send bs).1) w'));go_enter func108,ntmps108
 go_wp2_with (first
  |(go_at_call 146;refine K.out.mono ?_;rintro e w' ⟨rfl,rfl⟩)
  |(go_at_call 147;refine I.out.mono ?_;rintro e w' ⟨rfl,hq⟩)
  |go_in)
 go_ret;exact⟨rfl,hq⟩
theorem MQ(oZ:Own)(s:Nat)(S:Nat)(l:aI)(M:Side)(bw bl bi:Nat)(vc:Value)(k:Nat)(F:k<8)(w:World)(h:bT oZ s w S l M bw bl bi vc)(I:M.why=0):
  Calls prog 109 #[ay S 0,iZ k] w fun e w'=>e=.returned (nu (M.out k).finish.2)/\fP s oZ w S bw bl bi (M.bf k (M.out k).finish.1) w':=by
 have H:=au (vk S k F w (h.open I));have G:=au ((LC s (s+1+5*k) oZ S (4+27*k) (M.out k) l w h.blk h.ow (by omega) (h.out k F)).mono fun e w' (q:_/\_)=>(⟨q.1,h.bf k F _ q.2⟩:e=.returned (nu (M.out k).finish.2)/\fP s oZ w S bw bl bi (M.bf k (M.out k).finish.1) w'));go_enter func109,ntmps109
 go_wp2_with (first
  |(go_at_call 146;refine H.out.mono ?_;rintro e w' ⟨rfl,rfl⟩)
  |(go_at_call 148;refine G.out.mono ?_;rintro e w' ⟨rfl,hq⟩)
  |go_in)
 go_ret;exact⟨rfl,hq⟩
theorem extract_toList(D:ByteArray)(a b:Nat):(D.extract a b).data.toList=(D.data.toList.take b).drop a:=by
 rw[ByteArray.data_extract,Array.toList_extract,List.extract_eq_drop_take',List.drop_take]
theorem U6(m:bU)(f:Fr):m.take f=(
  if max f.offset m.read<min (aJ f) ({m with high:=max m.high (aJ f),ended:=m.ended||f.fin,dX:=if f.fin then aJ f else m.dX}:bU).wanted then
   ({m with high:=max m.high (aJ f),ended:=m.ended||f.fin,dX:=if f.fin then aJ f else m.dX}:bU).hold (max f.offset m.read) ((f.data.data.toList.take (min (aJ f) ({m with high:=max m.high (aJ f),ended:=m.ended||f.fin,dX:=if f.fin then aJ f else m.dX}:bU).wanted-f.offset)).drop (max f.offset m.read-f.offset))
  else{m with high:=max m.high (aJ f),ended:=m.ended||f.fin,dX:=if f.fin then aJ f else m.dX}):=rfl
structure Gz (ow:Own) (s t S o B:Nat) (f:Fr) (rv:Value) (l0:aI) (w:World) (l:aI) (m:bU) (y:World):Prop where
 kp:Kp [s,t,t+1] ow ow w y
 blk:aA y S TS l
 win:iN l0 l o 13
 inn:AX ow t y l o m
 box:aA y B 65 (bZ f rv)
theorem Gz.below{ow:Own}{s t S o B:Nat}{f:Fr}{rv:Value}{l0:aI}{w:World}{l:aI}{m:bU}{y y':World}(h:Gz ow s t S o B f rv l0 w l m y)(hb:aD y y'):Gz ow s t S o B f rv l0 w l m y':=
 ⟨h.kp.fK hb,h.blk.of_heap (hb.block _ h.blk.lt),h.win,h.inn.kp (Kp.below (T:=[]) hb) (by simp) (by simp) (iN.refl l (o+13) 0) (by omega),h.box.of_heap (hb.block _ h.box.lt)⟩
theorem Gz.cell{ow:Own}{s t S o B:Nat}{f:Fr}{rv:Value}{l0:aI}{w:World}{l:aI}{m m':bU}{y:World}(h:Gz ow s t S o B f rv l0 w l m y)(K:ow S=s)(X:s<t)(hB:ow B=0)(V:0<s)(j:Nat)(v:Value)(U:o<=j)(G:j<o+13)(O:∀vh vc,vQ l o m vh vc->vQ (l.set j v) o m' vh vc)(H:m'.held=m.held)(I:m'.came=m.came):Gz ow s t S o B f rv l0 w (l.set j v) m' (y.setCell (aj S j) v):=by
 have h1:=dL.one h.blk j v o 13 U G;have F:=h1.kp K (T:=[s]) (by simp);obtain⟨vh,vc,k1,k2,Z⟩:=h.inn;refine⟨h.kp.trans (F.mono (by simp)),h1.blk,h.win.trans h1.win,⟨vh,vc,O _ _ k1,?_,?_⟩,aO h.box F (by rw[hB];simp;omega)⟩
 ·rw[H];exact k2.kp F (by simp;omega)
 ·rw[I];exact Z.kp F (by simp;omega)
theorem Gz.drewN{ow:Own}{s t S o B:Nat}{f:Fr}{rv:Value}{l0:aI}{w:World}{l:aI}{m:bU}{y:World}(h:Gz ow s t S o B f rv l0 w l m y)(q:Nat):Gz ow s t S o B f rv l0 w l m (y.drewN q):=h.below ⟨rfl,rfl,rfl,fA _,fun _ _=>rfl⟩
theorem Gz.wanted{ow:Own}{s t S o B:Nat}{f:Fr}{rv:Value}{l0:aI}{w:World}{l:aI}{m:bU}{y:World}(h:Gz ow s t S o B f rv l0 w l m y):Calls prog 306 #[ay S o] y fun e w'=>e=.returned (uZ m.wanted)/\w'=y:=by
 obtain⟨vh,vc,k1,_⟩:=h.inn;exact uL S o m vh vc y l h.blk k1
theorem Gz.read{ow:Own}{s t S o B:Nat}{f:Fr}{rv:Value}{l0:aI}{w:World}{l:aI}{m:bU}{y:World}(h:Gz ow s t S o B f rv l0 w l m y):y.cell? (aj S (o+4))=some (uZ m.read):=by
 obtain⟨vh,vc,k1,_⟩:=h.inn;exact in4 S o m vh vc y l h.blk k1
theorem U7(s t:Nat)(oZ:Own)(S o:Nat)(m:bU)(f:Fr)(rv:Value)(l:aI)(w:World)(hB:aA w S TS l)(hS:oZ S=s)(hx:0<s)(hf:s<t)(hO:AX oZ t w l o m)(ok:SX m)(ho:f.offset<=aZ)(hd:f.data.size<=1000000000)(hE:aJ f<=aZ)(xp:aJ f<=m.read+100000):
  Calls prog 298 #[ay S o,bR f rv] w fun e w'=>e=.returned (.tuple #[])/\Pe s t oZ S o l w (m.take f) w':=by
 have xl:=hB.lt;obtain⟨ow,he⟩:∃ow,ow=loc oZ w.heap.size:=⟨_,rfl⟩
 have h8:ow S=s:=by rw[he,fM _ _ _ xl,hS]
 have hu:ow w.heap.size=0:=by rw[he,fD _ _ _ (fA _)]
 have xi:AX ow t w l o m:=by rw[he];exact hO.loc
 obtain⟨W,hW⟩:∃W,W=w.alloc (.cells (bZ f rv).toArray 65):=⟨_,rfl⟩
 have hb:aA W w.heap.size 65 (bZ f rv):=by rw[hW];exact aA.new w 65 _
 have hk:aD w W:=by rw[hW];exact(mR _ w).alloc (fA _) _
 have T0:Gz ow s t S o w.heap.size f rv l w l m W:=⟨Kp.below hk,hB.of_heap (hk.block _ xl),iN.refl _ _ _,xi.kp (Kp.below (T:=[]) hk) (by simp) (by simp) (iN.refl l (o+13) 0) (by omega),hb⟩;have Te:=au (fun y=>iP f rv y ho hd);obtain⟨x0,x1,x2,x3,x4,x5,x6,x7,x8,x9,xf⟩:=aH hb
 have jd:Hid (∀w' m',m'=m.take f->Pe s t ow S o l w m' w'->Pe s t oZ S o l w (m.take f) w'):=fun w' m' e h=>by
  rw[<-e];rw[he]at h;obtain⟨aC,l',h1,h2⟩:=h;exact⟨aC,l',h1.jm,h2⟩
 have hj:=au (U6 m f);generalize m.take f=MT at *;generalize xe:aJ f=E at *
 have xa:Hid (f.offset+f.data.size=E):=by unfold Hid;rw[<-xe];rfl
 clear xe;have xd:=au T0;clear hb hk T0 xi he hO;unfold bR at *;unfold bZ at hW;go_enter func298,ntmps298
 go_wp2_with fail
 rw[<-hW];clear hW;refine(Te.out W).mono ?_;rintro e y1 ⟨rfl,pK⟩;have T1:=xd.out.below pK;obtain⟨vh,vc,k1,k2,k3⟩:=T1.inn;have hn:=au (vR S o m vh vc y1 l T1.blk k1 E);have c7:=in7 S o m vh vc y1 l T1.blk k1;have f7:=T1.blk.frozen (o+7);have T2:=T1.cell h8 hf hu hx (o+7) (uZ ((max m.high E:Nat):Int)) (by omega) (by omega) (m':={m with high:=max m.high E}) (fun _ _ h=>Pg h _) rfl rfl;generalize max m.high E=HI at *;obtain⟨y2,hg⟩:∃y2,y2=y1.setCell (aj S (o+7)) (uZ HI):=⟨_,rfl⟩;rw[<-hg]at T2;obtain⟨z0,z1,z2,z3,z4,z5,z6,z7,z8,z9,zf⟩:=aH T1.box
 have n1:¬(S=w.heap.size):=by omega
 have n2:¬(w.heap.size=S):=by omega
 have Z:=au T2;clear T1 T2 k1 k2 k3 pK x0 x1 x2 x3 x4 x5 x6 x7 x8 x9 xf xd
 go_wp2_with fail
 refine hn.out.mono ?_;rintro e y ⟨rfl,rfl⟩
 rcases(fB f.fin).symm with hfi|hfi
 ·have t5:y.cell? (aj w.heap.size 5)=some (.bool false):=by rw[<-hfi];exact z5
  have Bw:=au hfi;clear hfi z0 z1 z2 z3 z4 z5 z6 z7 z8 z9 zf
  go_wp2_with fail
  rw[<-hg];clear hg t5 c7 f7 hn;obtain⟨F,G⟩:∃F:bU,F={m with high:=HI}:=⟨_,rfl⟩;have H:=Z;rw[<-G]at H;obtain⟨l3,ha⟩:∃l3,l3=l.set (o+7) (uZ HI):=⟨_,rfl⟩;rw[<-ha]at H;obtain⟨y3,U⟩:∃y3,y3=y2:=⟨_,rfl⟩;rw[<-U];rw[<-U]at H
  have U8:Hid (MT=if max f.offset m.read<min E F.wanted then F.hold (max f.offset m.read) ((f.data.data.toList.take (min E F.wanted-f.offset)).drop (max f.offset m.read-f.offset))else F):=by
   have h:=hj.out;rw[Bw.out]at h;simp only[Bool.or_false,Bool.false_eq_true,if_false]at h;rw[G];exact h
  have X:Hid (F.read=m.read/\F.held=m.held/\F.came=m.came):=by rw[G];exact⟨rfl,rfl,rfl⟩
  clear U ha G Z hj Bw;obtain⟨lo,hw,QD⟩:=max2 f.offset m.read;obtain⟨hi,hv,QE⟩:=min2 E F.wanted;obtain⟨C,hC⟩:∃C:World->Prop,C=Gz ow s t S o w.heap.size f rv l w l3 F:=⟨_,rfl⟩
  have O:Hid (∀v,C v->v.cell? (aj S (o+4))=some (uZ m.read)/\(v.cell? (aj w.heap.size 0)=some (iZ f.kind)/\v.cell? (aj w.heap.size 1)=some (iZ f.stream)/\v.cell? (aj w.heap.size 2)=some (uZ f.offset)/\v.cell? (aj w.heap.size 3)=some (uZ f.reliable)/\v.cell? (aj w.heap.size 4)=some (uZ f.limit)/\v.cell? (aj w.heap.size 5)=some (.bool f.fin)/\v.cell? (aj w.heap.size 6)=some (uZ f.id)/\v.cell? (aj w.heap.size 7)=some (uZ f.deadline)/\v.cell? (aj w.heap.size 8)=some (.string f.data)/\v.cell? (aj w.heap.size 9)=some rv/\∀j,v.frozen? (aj w.heap.size j)=false)):=fun v h=>by
   rw[hC]at h;exact⟨by rw[<-X.out.1];exact h.read,aH h.box⟩
  have h0:Hid (∀v,C v->Calls prog 318 #[.agg #[iZ f.kind,iZ f.stream,uZ f.offset,uZ f.reliable,uZ f.limit,.bool f.fin,uZ f.id,uZ f.deadline,.string f.data,rv]] v fun e V=>e=.returned (uZ E)/\C V):=fun v h=>by
   refine(Te.out v).mono ?_;rintro e v' ⟨rfl,hb⟩;rw[hC]at h ⊢;exact⟨rfl,h.below hb⟩
  have h5:Hid (∀v,C v->Calls prog 306 #[ay S o] v fun e V=>e=.returned (uZ F.wanted)/\C V):=fun v h=>by
   have h':=h;rw[hC]at h';refine h'.wanted.mono ?_;rintro e v' ⟨rfl,rfl⟩;exact⟨rfl,h⟩
  have h7:C (y3.drewN 1):=by rw[hC];exact H.out.drewN 1
  have HC:=au hC;have qP:=au QD;have Lm:=au QE;clear hC QD QE;refine wp_region_quiet (C:=C) (by kernel_rfl) (by kernel_rfl) h7 ?_;dsimp only
  repeat
   refine wpQuiet_step (fun K hK=>?_);go_simp
   first
    |(
      refine hK _ ?_
      clear hK K)
    |(
      apply Exists.intro;refine⟨fun y hy=>?_,hK _ ?_⟩
      (first
       |exact h0.out y hy
       |exact h5.out y hy
       |(
         obtain⟨c4,d0,d1,d2,d3,d4,d5,d6,d7,d8,d9,df⟩:=O.out y hy;go_simp
         rfl)
       |rfl)
      clear hK K)
  refine wpQuiet_nil ?_;intro y5 U9;obtain⟨c4,d0,d1,d2,d3,d4,d5,d6,d7,d8,d9,df⟩:=O.out y5 U9;rw[HC.out]at U9;have I:=au U9;clear U9 HC h0 h5 O h7 hw hv H
  have h6:Hid (f.offset<=lo/\m.read<=lo/\hi<=E/\E=f.offset+f.data.size):=by
   refine⟨?_,?_,?_,?_⟩
   ·rw[qP.out];exact tL _ _
   ·rw[qP.out];exact sQ _ _
   ·rw[Lm.out];exact tT _ _
   ·exact xa.out.symm
  by_cases hc:lo<hi
  ·obtain⟨l1,l2,l4,l5⟩:=h6.out
   have X3:E<=4611686018427387904:=by have:=hE;unfold aZ at this;omega
   obtain⟨D,hD⟩:∃D,D=f.data.extract (lo-f.offset) (hi-f.offset):=⟨_,rfl⟩
   have xn:∀wx,(Instr.slice 9 (.string f.data) (some (uZ ((lo:Int)-(f.offset:Int)))) (some (uZ ((hi:Int)-(f.offset:Int)))) none).run prog wx=.ok (.string D) wx:=fun wx=>by
    rw[run_slice_string wx 9 f.data .u64 .u64 _ _ (by kernel_rfl) (by omega) (by omega) (by omega),hD]
    have e1:((lo:Int)-(f.offset:Int)).toNat=lo-f.offset:=by omega
    have e2:((hi:Int)-(f.offset:Int)).toNat=hi-f.offset:=by omega
    rw[e1,e2]
   have h9:lo-m.read+D.size<=1000000:=by rw[hD,ByteArray.size_extract];omega
   have HH:=au (Kw s t ow S o lo D F l3 y5 I.out.blk h8 hf I.out.inn (by rw[X.out.2.1,X.out.2.2];exact ok.cl) (by rw[X.out.2.1];exact ok.hl) (by rw[X.out.1];exact l2) (by unfold aZ;omega) (by rw[X.out.1];exact h9))
   have hr:Hid (F.hold lo D.data.toList=MT):=by
    have h:=U8.out;rw[<-qP.out,<-Lm.out,if_pos hc]at h;unfold Hid;rw[h,hD,extract_toList]
   have g0:0<=(lo:Int)-(f.offset:Int):=by omega
   have g1:(lo:Int)-(f.offset:Int)<18446744073709551616:=by omega
   have g2:0<=(hi:Int)-(f.offset:Int):=by omega
   have g3:(hi:Int)-(f.offset:Int)<18446744073709551616:=by omega
   clear c4 d0 d1 d3 d4 d5 d6 d7 d9 df l5 X3 l4 l1 l2 hD h9 U8 qP Lm h6
   go_wp2_with fail
   refine HH.out.mono ?_;rintro e y6 ⟨rfl,hQ⟩
   have HQ:Hid (Pe s t oZ S o l w MT y6):=by
    obtain⟨aC,l',h1,h2,h3,h4⟩:=hQ;rw[hr.out]at h4;exact jd.out y6 MT rfl ⟨aC,l',I.out.kp.trans h1,h2,I.out.win.trans h3,h4⟩
   clear HH hQ
   go_wp2_with fail
   go_end0;exact⟨rfl,HQ.out⟩
  ·clear c4 d0 d1 d2 d3 d4 d5 d6 d7 d8 d9 df
   go_wp2_with fail
   go_end0;have h:=U8.out;rw[<-qP.out,<-Lm.out,if_neg hc]at h;exact⟨rfl,jd.out _ _ h.symm ⟨ow,l3,I.out.kp,I.out.blk,I.out.win,I.out.inn⟩⟩
 ·have Bw:=au hfi
  have t5:y.cell? (aj w.heap.size 5)=some (.bool true):=by rw[<-hfi];exact z5
  clear z5;have hm:=au (Te.out y2);rw[hfi]at hm
  have U8:Hid (∀F:bU,F={m with high:=HI,ended:=true,dX:=E}->(MT=if max f.offset m.read<min E F.wanted then F.hold (max f.offset m.read) ((f.data.data.toList.take (min E F.wanted-f.offset)).drop (max f.offset m.read-f.offset))else F)):=fun F G=>by
   have h:=hj.out;rw[hfi]at h;simp only[Bool.or_true,if_true]at h;rw[G];exact h
  clear hfi hj;have xo:y2.cell? (aj w.heap.size 0)=some (iZ f.kind):=(aH Z.out.box).1;obtain⟨x0,x1,x2,x3,x4,x5,x6,x7,x8,x9,xf⟩:=aH Z.out.box;rw[Bw.out]at x5;clear xo
  go_wp2_with fail
  rw[<-hg];refine hm.out.mono ?_;rintro e y4 ⟨rfl,xj⟩;have T3:=Z.out.below xj;obtain⟨xm,gZ,k1,k2,k3⟩:=T3.inn;have c8:=in8 S o _ xm gZ y4 _ T3.blk k1;have c9:=in9 S o _ xm gZ y4 _ T3.blk k1;have f8:=T3.blk.frozen (o+8);have f9:=T3.blk.frozen (o+9);have T4:=T3.cell h8 hf hu hx (o+8) (.bool true) (by omega) (by omega) (m':={m with high:=HI,ended:=true}) (fun _ _ h=>LM h true) rfl rfl;have T5:=T4.cell h8 hf hu hx (o+9) (uZ E) (by omega) (by omega) (m':={m with high:=HI,ended:=true,dX:=E}) (fun _ _ h=>Ph h E) rfl rfl;obtain⟨y3,U⟩:∃y3,y3=(y4.setCell (aj S (o+8)) (.bool true)).setCell (aj S (o+9)) (uZ E):=⟨_,rfl⟩;rw[<-U]at T5;have H:=au T5;clear T3 T4 T5 k1 k2 k3 xj hg c7 f7 hn t5 z0 z1 z2 z3 z4 z6 z7 z8 z9 zf hm Z x0 x1 x2 x3 x4 x5 x6 x7 x8 x9 xf
  go_wp2_with fail
  rw[<-U];clear U c8 c9 f8 f9 Bw;obtain⟨F,G⟩:∃F:bU,F={m with high:=HI,ended:=true,dX:=E}:=⟨_,rfl⟩;rw[<-G]at H;have U8:=au (U8.out F G)
  have X:Hid (F.read=m.read/\F.held=m.held/\F.came=m.came):=by rw[G];exact⟨rfl,rfl,rfl⟩
  clear G;obtain⟨l3,ha⟩:∃l3,l3=((l.set (o+7) (uZ HI)).set (o+8) (.bool true)).set (o+9) (uZ E):=⟨_,rfl⟩;rw[<-ha]at H;clear ha;obtain⟨lo,hw,QD⟩:=max2 f.offset m.read;obtain⟨hi,hv,QE⟩:=min2 E F.wanted;obtain⟨C,hC⟩:∃C:World->Prop,C=Gz ow s t S o w.heap.size f rv l w l3 F:=⟨_,rfl⟩
  have O:Hid (∀v,C v->v.cell? (aj S (o+4))=some (uZ m.read)/\(v.cell? (aj w.heap.size 0)=some (iZ f.kind)/\v.cell? (aj w.heap.size 1)=some (iZ f.stream)/\v.cell? (aj w.heap.size 2)=some (uZ f.offset)/\v.cell? (aj w.heap.size 3)=some (uZ f.reliable)/\v.cell? (aj w.heap.size 4)=some (uZ f.limit)/\v.cell? (aj w.heap.size 5)=some (.bool f.fin)/\v.cell? (aj w.heap.size 6)=some (uZ f.id)/\v.cell? (aj w.heap.size 7)=some (uZ f.deadline)/\v.cell? (aj w.heap.size 8)=some (.string f.data)/\v.cell? (aj w.heap.size 9)=some rv/\∀j,v.frozen? (aj w.heap.size j)=false)):=fun v h=>by
   rw[hC]at h;exact⟨by rw[<-X.out.1];exact h.read,aH h.box⟩
  have h0:Hid (∀v,C v->Calls prog 318 #[.agg #[iZ f.kind,iZ f.stream,uZ f.offset,uZ f.reliable,uZ f.limit,.bool f.fin,uZ f.id,uZ f.deadline,.string f.data,rv]] v fun e V=>e=.returned (uZ E)/\C V):=fun v h=>by
   refine(Te.out v).mono ?_;rintro e v' ⟨rfl,hb⟩;rw[hC]at h ⊢;exact⟨rfl,h.below hb⟩
  have h5:Hid (∀v,C v->Calls prog 306 #[ay S o] v fun e V=>e=.returned (uZ F.wanted)/\C V):=fun v h=>by
   have h':=h;rw[hC]at h';refine h'.wanted.mono ?_;rintro e v' ⟨rfl,rfl⟩;exact⟨rfl,h⟩
  have h7:C (y3.drewN 1):=by rw[hC];exact H.out.drewN 1
  have HC:=au hC;have qP:=au QD;have Lm:=au QE;clear hC QD QE;refine wp_region_quiet (C:=C) (by kernel_rfl) (by kernel_rfl) h7 ?_;dsimp only
  repeat
   refine wpQuiet_step (fun K hK=>?_);go_simp
   first
    |(
      refine hK _ ?_
      clear hK K)
    |(
      apply Exists.intro;refine⟨fun y hy=>?_,hK _ ?_⟩
      (first
       |exact h0.out y hy
       |exact h5.out y hy
       |(
         obtain⟨c4,d0,d1,d2,d3,d4,d5,d6,d7,d8,d9,df⟩:=O.out y hy;go_simp
         rfl)
       |rfl)
      clear hK K)
  refine wpQuiet_nil ?_;intro y5 U9;obtain⟨c4,d0,d1,d2,d3,d4,d5,d6,d7,d8,d9,df⟩:=O.out y5 U9;rw[HC.out]at U9;have I:=au U9;clear U9 HC h0 h5 O h7 hw hv H
  have h6:Hid (f.offset<=lo/\m.read<=lo/\hi<=E/\E=f.offset+f.data.size):=by
   refine⟨?_,?_,?_,?_⟩
   ·rw[qP.out];exact tL _ _
   ·rw[qP.out];exact sQ _ _
   ·rw[Lm.out];exact tT _ _
   ·exact xa.out.symm
  by_cases hc:lo<hi
  ·obtain⟨l1,l2,l4,l5⟩:=h6.out
   have X3:E<=4611686018427387904:=by have:=hE;unfold aZ at this;omega
   obtain⟨D,hD⟩:∃D,D=f.data.extract (lo-f.offset) (hi-f.offset):=⟨_,rfl⟩
   have xn:∀wx,(Instr.slice 9 (.string f.data) (some (uZ ((lo:Int)-(f.offset:Int)))) (some (uZ ((hi:Int)-(f.offset:Int)))) none).run prog wx=.ok (.string D) wx:=fun wx=>by
    rw[run_slice_string wx 9 f.data .u64 .u64 _ _ (by kernel_rfl) (by omega) (by omega) (by omega),hD]
    have e1:((lo:Int)-(f.offset:Int)).toNat=lo-f.offset:=by omega
    have e2:((hi:Int)-(f.offset:Int)).toNat=hi-f.offset:=by omega
    rw[e1,e2]
   have h9:lo-m.read+D.size<=1000000:=by rw[hD,ByteArray.size_extract];omega
   have HH:=au (Kw s t ow S o lo D F l3 y5 I.out.blk h8 hf I.out.inn (by rw[X.out.2.1,X.out.2.2];exact ok.cl) (by rw[X.out.2.1];exact ok.hl) (by rw[X.out.1];exact l2) (by unfold aZ;omega) (by rw[X.out.1];exact h9))
   have hr:Hid (F.hold lo D.data.toList=MT):=by
    have h:=U8.out;rw[<-qP.out,<-Lm.out,if_pos hc]at h;unfold Hid;rw[h,hD,extract_toList]
   have g0:0<=(lo:Int)-(f.offset:Int):=by omega
   have g1:(lo:Int)-(f.offset:Int)<18446744073709551616:=by omega
   have g2:0<=(hi:Int)-(f.offset:Int):=by omega
   have g3:(hi:Int)-(f.offset:Int)<18446744073709551616:=by omega
   clear c4 d0 d1 d3 d4 d5 d6 d7 d9 df l5 X3 l4 l1 l2 hD h9 U8 qP Lm h6
   go_wp2_with fail
   refine HH.out.mono ?_;rintro e y6 ⟨rfl,hQ⟩
   have HQ:Hid (Pe s t oZ S o l w MT y6):=by
    obtain⟨aC,l',h1,h2,h3,h4⟩:=hQ;rw[hr.out]at h4;exact jd.out y6 MT rfl ⟨aC,l',I.out.kp.trans h1,h2,I.out.win.trans h3,h4⟩
   clear HH hQ
   go_wp2_with fail
   go_end0;exact⟨rfl,HQ.out⟩
  ·clear c4 d0 d1 d2 d3 d4 d5 d6 d7 d8 d9 df
   go_wp2_with fail
   go_end0;have h:=U8.out;rw[<-qP.out,<-Lm.out,if_neg hc]at h;exact⟨rfl,jd.out _ _ h.symm ⟨ow,l3,I.out.kp,I.out.blk,I.out.win,I.out.inn⟩⟩
theorem jG{n q:Nat}{w W:World}(h:Below n w W):Below n w (W.drewN q):=⟨h.os,h.tape,h.output,h.size,h.block⟩
theorem pO{q:Nat}{W w:World}(h:Below (W.drewN q).heap.size (W.drewN q) w):aD W w:=⟨h.os,h.tape,h.output,h.size,h.block⟩
theorem E9(oZ:Own)(s:Nat)(S:Nat)(l:aI)(M:Side)(bw bl bi:Nat)(vc:Value)(f:Fr)(Z:Option Addr)(r2 r3:Nat)(k:Nat)(hk:k<8)(hj:f.stream=(k:Int))(h4:f.kind=4)(w:World)(h:bT oZ s w S l M bw bl bi vc)(ok:SX (M.inn k))(hb:∀k,(M.inn k).high<=1000000)(he:aJ f<=100000):
  Calls prog 234 #[ay S 0,bR f (.slice Z r2 r3)] w fun e w'=>e=.returned (iZ ((M.take f).2:Int))/\fP s oZ w S bw bl bi (M.take f).1 w':=by
 have ho:f.offset<=aZ:=by unfold aJ at he;unfold aZ;omega
 have hd:f.data.size<=1000000000:=by unfold aJ at he;omega
 have h7:f.stream.toNat=k:=by omega
 have V:4+k*27+14=18+27*k:=by omega
 obtain⟨W,X⟩:∃W,W=w.alloc (.cells (bZ f (.slice Z r2 r3)).toArray 65):=⟨_,rfl⟩
 have h5:aA W w.heap.size 65 (bZ f (.slice Z r2 r3)):=by rw[X];exact aA.new w 65 _
 have O:aD w W:=by rw[X];exact(mR _ w).alloc (fA _) _
 have hsz:W.heap.size=w.heap.size+1:=by rw[X];simp
 have P5:=h.blk.lt
 have hT:M.take f=(if(M.inn k).refuse f≠0 then(M,(M.inn k).refuse f)else if M.gr.told<M.oO k (aJ f)then(M,9)else(M.dA k ((M.inn k).take f),0)):=by
  unfold Side.take;rw[if_neg (by rw[h4];decide),if_pos h4,h7]
 have HR:Hid (∀q,Calls prog 295 #[(ay S (4+k*27+14)),bR f (.slice Z r2 r3)] (W.drewN q) fun e w'=>e=.returned (iZ ((M.inn k).refuse f:Int))/\aD W w'):=fun q=>by
  have K:=h.below (jG (q:=q) O);obtain⟨vh,gZ,hL,_,_⟩:=K.inn k hk;rw[V]
  exact(MS S (18+27*k) (M.inn k) vh gZ f (.slice Z r2 r3) l (W.drewN q) K.blk hL ho hd).mono fun e w' hh=>⟨hh.1,pO hh.2⟩
 have HH:Hid (∀w1 q,aD W w1->Calls prog 297 #[ay S 0,bR f (.slice Z r2 r3)] (w1.drewN q) fun e w'=>e=.returned (uZ (M.oO k (aJ f):Int))/\aD W w'):=fun w1 q h1=>by
  have K:=h.below (jG (q:=q) (O.trans (h1.mono (by omega))))
  exact(PW oZ s S l M bw bl bi vc f Z r2 r3 k hj (w1.drewN q) K hb (by omega)).mono fun e w' hh=>⟨hh.1,h1.trans ((pO hh.2).mono h1.size)⟩
 have HG:Hid (∀w1,aD W w1->Calls prog 296 #[ay S 221,(uZ (M.oO k (aJ f):Int))] w1 fun e w'=>e=.returned (.bool (decide (M.oO k (aJ f)<=M.gr.told)))/\w'=w1):=fun w1 h1=>by
  have K:=h.below (O.trans (h1.mono (by omega)));exact AR S 221 M.gr (M.oO k (aJ f)) w1 l K.blk K.cells.gr
 have HK:Hid (∀w1,aD W w1->Calls prog 298 #[(ay S (4+k*27+14)),bR f (.slice Z r2 r3)] w1 fun e w'=>e=.returned (.tuple #[])/\fP s oZ w S bw bl bi (M.dA k ((M.inn k).take f)) w'):=fun w1 h1=>by
  have F:=O.trans (h1.mono (by omega));have K:=h.below F;rw[V];refine(U7 s (s+4+5*k) oZ S (18+27*k) (M.inn k) f (.slice Z r2 r3) l w1 K.blk K.ow K.s0 (by omega) (K.inn k hk) ok ho hd (by unfold aZ;omega) (by omega)).mono ?_;rintro e w' ⟨rfl,q⟩;obtain⟨o',l',v',a,b⟩:=K.dA k hk _ q;exact⟨rfl,o',l',v',a,(Kp.below F).trans b⟩
 have HQ:Hid (∀w1,aD W w1->fP s oZ w S bw bl bi M w1):=fun w1 h1=>fP.refl h (O.trans (h1.mono (by omega)))
 have vH:=au h5
 have uz:(k:Int)<8:=by omega
 obtain⟨x0,x1,x2,x3,x4,x5,x6,x7,x8,x9,xf⟩:=aH h5;rw[hT];clear hT O h ok hb he ho hd h5 h7 V h4;generalize (M.inn k).refuse f=R at *;generalize M.oO k (aJ f)=H at *;unfold bR at *;unfold bZ at X vH;generalize f.stream=st at *;subst hj
 by_cases h3:R≠0
 ·rw[if_pos h3]
  have uh:¬(R:Int)=0:=by omega
  go_enter func234,ntmps234;go_wp2;rw[<-X];clear X
  go_quiet (fail)
  go_wp2_with (go_at_call 295;refine(HR.out _).mono ?_;rintro e w1 ⟨rfl,F⟩;have G:=vH.out.of_heap (F.block _ (by omega));obtain⟨y0,y1,y2,y3,y4,y5,y6,y7,y8,y9,yf⟩:=aH G;have U:=au F;clear G F x0 x1 x2 x3 x4 x5 x6 x7 x8 x9 xf HR)
  go_ret;exact⟨rfl,HQ.out _ U.out⟩
 ·rw[if_neg h3]
  obtain rfl:R=0:=by omega
  clear h3
  by_cases hH:M.gr.told<H
  ·rw[if_pos hH];have h2:decide (H<=M.gr.told)=false:=decide_eq_false (by omega);rw[h2]at HG;go_enter func234,ntmps234;go_wp2;rw[<-X];clear X
   go_quiet (fail)
   go_wp2_with (go_at_call 295;refine(HR.out _).mono ?_;rintro e w1 ⟨rfl,F⟩;have G:=vH.out.of_heap (F.block _ (by omega));obtain⟨y0,y1,y2,y3,y4,y5,y6,y7,y8,y9,yf⟩:=aH G;have U:=au F;clear G F x0 x1 x2 x3 x4 x5 x6 x7 x8 x9 xf HR)
   go_region_with (first|(go_at_call 297;refine(HH.out w1 _ U.out).mono ?_;rintro e w2 ⟨rfl,I⟩)|(go_at_call 296;refine(HG.out w2 I).mono ?_;rintro e w3 ⟨rfl,h6⟩;have QG:=h6.symm;subst QG;have G:=vH.out.of_heap (I.block _ (by omega));obtain⟨z0,z1,z2,z3,z4,z5,z6,z7,z8,z9,zf⟩:=aH G;have h0:=au I;clear G I y0 y1 y2 y3 y4 y5 y6 y7 y8 y9 yf))
   all_goals(go_wp2;go_ret;exact⟨rfl,HQ.out _ h0.out⟩)
  ·rw[if_neg hH];have h2:decide (H<=M.gr.told)=true:=decide_eq_true (by omega);rw[h2]at HG;go_enter func234,ntmps234;go_wp2;rw[<-X];clear X
   go_quiet (fail)
   go_wp2_with (go_at_call 295;refine(HR.out _).mono ?_;rintro e w1 ⟨rfl,F⟩;have G:=vH.out.of_heap (F.block _ (by omega));obtain⟨y0,y1,y2,y3,y4,y5,y6,y7,y8,y9,yf⟩:=aH G;have U:=au F;clear G F x0 x1 x2 x3 x4 x5 x6 x7 x8 x9 xf HR)
   go_region_with (first|(go_at_call 297;refine(HH.out w1 _ U.out).mono ?_;rintro e w2 ⟨rfl,I⟩)|(go_at_call 296;refine(HG.out w2 I).mono ?_;rintro e w3 ⟨rfl,h6⟩;have QG:=h6.symm;subst QG;have G:=vH.out.of_heap (I.block _ (by omega));obtain⟨z0,z1,z2,z3,z4,z5,z6,z7,z8,z9,zf⟩:=aH G;have h0:=au I;clear G I y0 y1 y2 y3 y4 y5 y6 y7 y8 y9 yf))
   all_goals(
    go_wp2_with (go_at_call 298;refine(HK.out _ h0.out).mono ?_;rintro e w4 ⟨rfl,HE⟩)
    go_ret
    exact⟨rfl,HE⟩)
theorem tV(l:aI)(j:Nat)(v:Value)(h:l[j]?=some v):l.set j v=l:=by
 refine List.ext_getElem? fun i=>?_
 by_cases e:j=i
 ·subst e;rw[aU l j v v h,h]
 ·rw[ak l j i v e]
theorem I5(g:Nat)(p k:Array Value)(w:World)(K:∀args w,(callFunc g args).run prog w=.ok (.enter g args) w):
  Calls prog 151 #[nZ,.func (.func g) p k] w fun e w'=>e=.returned nZ/\aD w w':=by
 have H:=au (yh g p k (fun _=>false) none [] 0 w K (by decide) (fun j G=>absurd G (uj _)) (fun j G=>absurd G (uj _)));have I:uR (fun _=>false) []= -1:=rfl;rw[I]at H;go_enter func151,ntmps151
 go_wp2_with (go_at_call 190;refine H.out.mono ?_;rintro e w1 ⟨rfl,F⟩)
 go_ret;exact⟨rfl,F⟩
theorem tX(oZ:Own)(s:Nat)(S:Nat)(l:aI)(M:Side)(bw bl bi:Nat)(vc:Value)(tk:Nat)(w:World)(h:bT oZ s w S l M bw bl bi vc)(K:M.qv=nZ):
  Calls prog 113 #[ay S 233,uZ tk] w fun e w'=>e=.returned (.tuple #[])/\fP s oZ w S bw bl bi M w':=by
 have Mk:∀(fn:Fn) (first cap:Array Value) (w:World),(Instr.makeFunc fn first cap).run prog w=.ok (.func fn first cap) w:=fun _ _ _ _=>rfl
 obtain⟨W,U⟩:∃W,W=w.alloc (.cells #[uZ tk] 43):=⟨_,rfl⟩
 have G:aD w W:=by rw[U];exact(mR _ w).alloc (fA _) _
 have O:=h.below G
 have c233:l[233]?=some nZ:=by rw[h.cells.c233,K]
 have c0:w.cell? (aj S 233)=some nZ:=by rw[h.blk.cell];exact c233
 have Z:=h.blk.lt;have V:=au (I5 152 #[] #[ay w.heap.size 0] W (enters_of func152 (by kernel_rfl) rfl))
 have X:Hid (∀w1,aD W w1->w1.frozen? (aj S 233)=false/\w1.cell? (aj S 233)=some nZ/\fP s oZ w S bw bl bi M (w1.setCell (aj S 233) nZ)):=fun w1 h1=>by
  have F:=O.below h1;refine⟨F.blk.frozen 233,by rw[F.blk.cell];exact c233,?_⟩;have q:=dL.one F.blk 233 nZ 233 1 (fA _) (by omega);rw[tV l 233 _ c233]at q;obtain⟨o',l',v',a,b⟩:=F.cell 233 1 (by omega) q F.cells rfl rfl rfl rfl rfl rfl rfl;exact⟨o',l',v',a,(Kp.below (G.trans (h1.mono G.size))).trans b⟩
 clear O G h K c233;go_enter func113,ntmps113
 go_wp2_with (go_at_call 151;rw[<-U];refine V.out.mono ?_;rintro e w1 ⟨rfl,I⟩;obtain⟨f1,f2,H⟩:=X.out w1 I;have H:=au H)
 go_end0;exact⟨rfl,H.out⟩
theorem U_(oZ:Own)(s:Nat)(S:Nat)(l:aI)(M:Side)(bw bl bi:Nat)(vc:Value)(w:World)(h:bT oZ s w S l M bw bl bi vc)(ht:M.tick+1<18446744073709551616)(hq:M.queue=[])(H:M.qv=nZ):
  Calls prog 66 #[ay S 0] w fun e w'=>e=.returned (.tuple #[])/\fP s oZ w S bw bl bi M.ticks w':=by
 have c3:w.cell? (aj S 3)=some (uZ M.tick):=by rw[h.blk.cell];exact h.cells.c3
 have f3:=h.blk.frozen 3
 have Z:IntKind.u64.wrap ((M.tick:Int)+1)=((M.tick+1:Nat):Int):=by
  rw[IntKind.wrap_u64];omega
 obtain⟨W,G⟩:∃W,W=w.setCell (aj S 3) (uZ ((M.tick+1:Nat):Int)):=⟨_,rfl⟩
 have F:Hid (fP s oZ w S bw bl bi M.ticks W):=by
  rw[G];have q:=dL.one h.blk 3 (uZ ((M.tick+1:Nat):Int)) 3 1 (fA _) (by omega);have c:=h.cells
  have e:∀j,j≠3->(l.set 3 (uZ ((M.tick+1:Nat):Int)))[j]?=l[j]?:=fun j U=>ak l 3 j _ (Ne.symm U)
  refine h.cell 3 1 (by omega) q ⟨q.win.1.trans c.len,(e _ (by omega)).trans c.c0,(e _ (by omega)).trans c.c1,(e _ (by omega)).trans c.c2,aU l 3 _ _ c.c3,(e _ (by omega)).trans c.mH,c.gr.win q.win (by omega),
   (e _ (by omega)).trans c.oh,(e _ (by omega)).trans c.c226,(e _ (by omega)).trans c.c227,(e _ (by omega)).trans c.c228,(e _ (by omega)).trans c.c229,(e _ (by omega)).trans c.kL,(e _ (by omega)).trans c.nC,(e _ (by omega)).trans c.c232,(e _ (by omega)).trans c.c233,
   (e _ (by omega)).trans c.c234,(e _ (by omega)).trans c.nD,(e _ (by omega)).trans c.c236,(e _ (by omega)).trans c.o9,(e _ (by omega)).trans c.kM,(e _ (by omega)).trans c.o_⟩ rfl rfl rfl rfl rfl rfl (by show M.queue.filter _=M.queue;rw[hq];rfl)
 have k3:W.cell? (aj S 3)=some (uZ ((M.tick+1:Nat):Int)):=by
  obtain⟨o',l',v',a,b⟩:=F.out;rw[a.blk.cell];exact a.cells.c3
 have I:Hid (∀q,Calls prog 113 #[ay S 233,(uZ ((M.tick+1:Nat):Int))] (W.drewN q) fun e w'=>e=.returned (.tuple #[])/\fP s oZ w S bw bl bi M.ticks w'):=fun q=>by
  obtain⟨o',l',v',a,b⟩:=F.out;have a2:bT o' s (W.drewN q) S l' M.ticks bw bl bi v':=a.below (jG (mR _ W));refine(tX o' s S l' M.ticks bw bl bi v' (M.tick+1) (W.drewN q) a2 H).mono ?_;rintro e w' ⟨rfl,V,l2,X,O,b3⟩;exact⟨rfl,V,l2,X,O,(b.drewN q).trans b3⟩
 clear h F ht hq H;generalize M.tick+1=tk at *;go_enter func66,ntmps66;go_wp2;rw[<-G];clear G
 go_region_with (go_at_call 113;refine(I.out _).mono ?_;rintro e w1 ⟨rfl,K⟩)
 go_end0;exact⟨rfl,K⟩
section
theorem lK(C S:Nat)(w:World)(hc:w.cell? (aj C 0)=some (ay S 0)):
  Calls prog 65 #[ay C 0] w fun e w'=>e=.returned (ay S 0)/\w'=w:=by
 go_enter func65,ntmps65;go_wp2;go_ret;exact⟨rfl,rfl⟩
section
variable (C S:Nat) (w:World) (hc:w.cell? (aj C 0)=some (ay S 0))
 include hc
theorem VD(R:World->Prop)(h:Calls prog 66 #[ay S 0] w fun e w'=>e=.returned (.tuple #[])/\R w'):Calls prog 38 #[ay C 0] w fun e w'=>e=.returned (.tuple #[])/\R w':=by
 have H:=au (lK C S w hc);have G:=au h;clear h hc;go_enter func38,ntmps38
 go_wp2_with (first
  |(go_at_call 65;refine H.out.mono ?_;rintro e w' ⟨rfl,O⟩;have F:=O.symm;subst F)
  |(go_at_call 66;refine G.out.mono ?_;rintro e w' ⟨rfl,K⟩;have I:=au K))
 go_end0;exact⟨rfl,I.out⟩
theorem VE(k:Int)(v:Value)(R:Value->World->Prop)(h:Calls prog 108 #[ay S 0,iZ k,v] w fun e w'=>∃x,e=.returned x/\R x w'):Calls prog 61 #[ay C 0,iZ k,v] w fun e w'=>∃x,e=.returned x/\R x w':=by
 have H:=au (lK C S w hc);have G:=au h;clear h hc;go_enter func61,ntmps61
 go_wp2_with (first
  |(go_at_call 65;refine H.out.mono ?_;rintro e w' ⟨rfl,O⟩;have F:=O.symm;subst F)
  |(go_at_call 108;refine G.out.mono ?_;rintro e w' ⟨x,rfl,K⟩;have I:=au K))
 go_ret;exact⟨_,rfl,I.out⟩
theorem Nz(k:Int)(R:Value->World->Prop)(h:Calls prog 109 #[ay S 0,iZ k] w fun e w'=>∃x,e=.returned x/\R x w'):Calls prog 62 #[ay C 0,iZ k] w fun e w'=>∃x,e=.returned x/\R x w':=by
 have H:=au (lK C S w hc);have G:=au h;clear h hc;go_enter func62,ntmps62
 go_wp2_with (first
  |(go_at_call 65;refine H.out.mono ?_;rintro e w' ⟨rfl,O⟩;have F:=O.symm;subst F)
  |(go_at_call 109;refine G.out.mono ?_;rintro e w' ⟨x,rfl,K⟩;have I:=au K))
 go_ret;exact⟨_,rfl,I.out⟩
theorem Jf(R:Value->World->Prop)(h:Calls prog 114 #[ay S 0] w fun e w'=>∃x,e=.returned x/\R x w'):Calls prog 68 #[ay C 0] w fun e w'=>∃x,e=.returned x/\R x w':=by
 have H:=au (lK C S w hc);have G:=au h;clear h hc;go_enter func68,ntmps68
 go_wp2_with (first
  |(go_at_call 65;refine H.out.mono ?_;rintro e w' ⟨rfl,O⟩;have F:=O.symm;subst F)
  |(go_at_call 114;refine G.out.mono ?_;rintro e w' ⟨x,rfl,K⟩;have I:=au K))
 go_ret;exact⟨_,rfl,I.out⟩
theorem Jg(v:Value)(R:Value->World->Prop)(h:Calls prog 104 #[ay S 0,v] w fun e w'=>∃x,e=.returned x/\R x w'):Calls prog 56 #[ay C 0,v] w fun e w'=>∃x,e=.returned x/\R x w':=by
 have H:=au (lK C S w hc);have G:=au h;clear h hc;go_enter func56,ntmps56
 go_wp2_with (first
  |(go_at_call 65;refine H.out.mono ?_;rintro e w' ⟨rfl,O⟩;have F:=O.symm;subst F)
  |(go_at_call 104;refine G.out.mono ?_;rintro e w' ⟨x,rfl,K⟩;have I:=au K))
 go_ret;exact⟨_,rfl,I.out⟩
theorem VF(k most:Int)(R:Value->Value->Value->World->Prop)(h:Calls prog 140 #[ay S 0,iZ k,iZ most] w fun e w'=>∃x y z,e=.returned (.tuple #[x,y,z])/\R x y z w'):Calls prog 106 #[ay C 0,iZ k,iZ most] w fun e w'=>∃x y z,e=.returned (.tuple #[x,y,z])/\R x y z w':=by
 have H:=au (lK C S w hc);have G:=au h;clear h hc;go_enter func106,ntmps106
 go_wp2_with (first
  |(go_at_call 65;refine H.out.mono ?_;rintro e w' ⟨rfl,O⟩;have F:=O.symm;subst F)
  |(go_at_call 140;refine G.out.mono ?_;rintro e w' ⟨x,y,z,rfl,K⟩;have I:=au K))
 refine bodyPost_ret (v:=.tuple #[x,y,z]) (by simp[results,results106,go_sem]) rfl ?_;exact⟨_,_,_,rfl,I.out⟩
end

theorem Dq(oZ:Own)(s:Nat)(S:Nat)(l:aI)(M:Side)(bw bl bi:Nat)(vc:Value)(w:World)(h:bT oZ s w S l M bw bl bi vc):
  Calls prog 105 #[ay S 0] w fun e w'=>e=.returned nZ/\fP s oZ w S bw bl bi M w':=by
 have c0:w.cell? (aj S 235)=some nZ:=by rw[h.blk.cell];exact h.cells.nD
 have f0:=h.blk.frozen 235
 have F:Hid (fP s oZ w S bw bl bi M (w.setCell (aj S 235) nZ)):=by
  have q:=dL.one h.blk 235 nZ 235 1 (fA _) (by omega);rw[tV l 235 _ h.cells.nD]at q;exact h.cell 235 1 (by omega) q h.cells rfl rfl rfl rfl rfl rfl rfl
 clear h;go_enter func105,ntmps105;go_wp2;go_ret;exact⟨rfl,F.out⟩
theorem Dr(C S:Nat)(w:World)(hc:w.cell? (aj C 0)=some (ay S 0))(R:World->Prop)(h:Calls prog 105 #[ay S 0] w fun e w'=>e=.returned nZ/\R w'):Calls prog 57 #[ay C 0] w fun e w'=>e=.returned nZ/\R w':=by
 have H:=au (lK C S w hc);have G:=au h;clear h hc;go_enter func57,ntmps57
 go_wp2_with (first
  |(go_at_call 65;refine H.out.mono ?_;rintro e w' ⟨rfl,O⟩;have F:=O.symm;subst F)
  |(go_at_call 105;refine G.out.mono ?_;rintro e w' ⟨rfl,K⟩;have I:=au K))
 go_ret;exact⟨rfl,I.out⟩
end
theorem eql3(w:World):(binOp .eql 94 (.iface 57 (iZ 3)) (.iface 57 (iZ 3))).run prog w=.ok (.bool true) w:=by kernel_rfl
theorem eql4(w:World):(binOp .eql 94 (.iface 57 (iZ 4)) (.iface 57 (iZ 4))).run prog w=.ok (.bool true) w:=by kernel_rfl
def Jh(e:Nat):Prop:=e=0\/e=3\/e=4\/e=7
theorem Fh(e:Nat)(G:Jh e)(w:World)(F:eF w):Calls prog 42 #[nu e] w fun r w'=>r=.returned (.tuple #[iZ e,(iZ (-1))])/\aD w w':=by
 rcases G with rfl|rfl|rfl|rfl
 ·exact tZ w
 ·exact nK 3 eql3 w F
 ·exact nK 4 eql4 w F
 ·exact nK 7 eql7 w F
theorem rM(e:Nat)(G:Jh e)(w:World)(F:eF w):Calls prog 60 #[nu e] w fun r w'=>r=.returned (iZ e)/\aD w w':=vC (nu e) e (-1) w _ (Fh e G w F)
theorem VG(o:Ot)(b:List UInt8):Jh (o.send b).2:=by
 unfold Ot.send Jh;split
 ·exact .inr (.inr (.inl rfl))
 ·split
  ·exact .inr (.inl rfl)
  ·exact .inl rfl
theorem NA(o:Ot):Jh o.finish.2:=by
 unfold Ot.finish Jh;split
 ·exact .inr (.inr (.inl rfl))
 ·exact .inl rfl
theorem NC(oZ:Own)(s:Nat)(C S:Nat)(l:aI)(M:Side)(bw bl bi:Nat)(vc:Value)(k:Nat)(hk:k<8)(w:World)(h:bT oZ s w S l M bw bl bi vc)(O:w.cell? (aj C 0)=some (ay S 0))(V:M.why=0)(F:eF w)(K:oZ 0∉T0 s):
  Calls prog 35 #[ay C 0,iZ k] w fun e w'=>e=.returned (iZ ((M.out k).finish.2:Int))/\fP s oZ w S bw bl bi (M.bf k (M.out k).finish.1) w':=by
 have X:Hid (Calls prog 62 #[ay C 0,iZ k] w fun e w'=>∃x,e=.returned x/\x=nu (M.out k).finish.2/\fP s oZ w S bw bl bi (M.bf k (M.out k).finish.1) w'):=
  Nz C S w O k (fun x w'=>x=nu (M.out k).finish.2/\fP s oZ w S bw bl bi (M.bf k (M.out k).finish.1) w') ((MQ oZ s S l M bw bl bi vc k hk w h V).mono fun e w' U=>⟨_,U.1,rfl,U.2⟩)
 have G:0<w.heap.size:=World.block_lt_of_cell? w (aj 0 0) (by unfold eF at F;rw[F])
 have Z:Hid (∀w1,fP s oZ w S bw bl bi (M.bf k (M.out k).finish.1) w1->Calls prog 60 #[nu (M.out k).finish.2] w1 fun r w'=>r=.returned (iZ ((M.out k).finish.2:Int))/\fP s oZ w S bw bl bi (M.bf k (M.out k).finish.1) w'):=fun w1 hq=>by
  obtain⟨o1,l1,v1,g1,I⟩:=hq;refine(rM _ (NA _) w1 (cell_of F (I.blk 0 G K))).mono ?_;rintro e w' ⟨rfl,hb⟩;exact⟨rfl,o1,l1,v1,g1.below hb,I.fK hb⟩
 clear h O V F K;generalize (M.out k).finish.2=en at *;go_enter func35,ntmps35
 go_wp2_with (first
  |(go_at_call 62;refine X.out.mono ?_;rintro e w1 ⟨x,rfl,rfl,hq⟩)
  |(go_at_call 60;refine(Z.out _ hq).mono ?_;rintro e w2 ⟨rfl,H⟩))
 go_ret;exact⟨rfl,H⟩
theorem NT(w:World):Calls prog 143 #[] w fun e w'=>∃b,e=.returned (.agg #[nZ,.int .u64 0,.map (some b)])/\aD w w':=by
 have F:=@run_makeMap prog;go_enter func143,ntmps143;go_wp2;exact bodyPost_ret (v:=.agg #[nZ,.int .u64 0,.map (some (w.heap.size+1))]) (by simp[results,results143,go_sem]) rfl ⟨_,rfl,((mR _ w).alloc (fA _) _).alloc (by simp) _⟩
theorem Sg(aM window total:Nat)(O:64<=aM/\aM<=400)(U:16<=window/\window<=4096)(ht:16<=total/\total<=4096)(w:World):
  Calls prog 141 #[.agg #[.int .i64 aM,.int .i64 window,.int .i64 total]] w fun e w'=>e=.returned (.bool true)/\aD w w':=by
 have H:Hid (∀y,Calls prog 185 #[.int .i64 aM,.int .i64 64,.int .i64 400] y fun e w'=>e=.returned (.bool true)/\w'=y):=fun y=>by
  have:=qm (aM:Int) 64 400 y;rwa[decide_eq_true (by omega)]at this
 have I:Hid (∀y,Calls prog 185 #[.int .i64 window,.int .i64 16,.int .i64 4096] y fun e w'=>e=.returned (.bool true)/\w'=y):=fun y=>by
  have:=qm (window:Int) 16 4096 y;rwa[decide_eq_true (by omega)]at this
 have K:Hid (∀y,Calls prog 185 #[.int .i64 total,.int .i64 16,.int .i64 4096] y fun e w'=>e=.returned (.bool true)/\w'=y):=fun y=>by
  have:=qm (total:Int) 16 4096 y;rwa[decide_eq_true (by omega)]at this
 clear O U ht;go_enter func141,ntmps141
 go_wp2_with (first
  |(go_at_call_has 185 (Value.int .i64 aM);refine(H.out _).mono ?_;rintro e y ⟨rfl,G⟩;have F:=G.symm;subst F)
  |(go_at_call_has 185 (Value.int .i64 window);refine(I.out _).mono ?_;rintro e y ⟨rfl,G⟩;have F:=G.symm;subst F)
  |(go_at_call_has 185 (Value.int .i64 total);refine(K.out _).mono ?_;rintro e y ⟨rfl,G⟩;have F:=G.symm;subst F))
 go_ret;exact⟨rfl,(mR _ w).alloc (fA _) _⟩
