import Derived.Test.YtphbledmopchnaaGreatDoorKdc
open Bool renaming eq_false_or_eq_true->jK
set_option maxHeartbeats 1000000
set_option maxRecDepth 100000
namespace Go.Proofs.YtphbledmopchnaaGreatDoor.Sd
open Go.RowKit Go.Lib Mm Tryz
theorem KS(S o:Nat)(m:bI)(vh vc:Value)(f:Fr)(rv:Value)(l:List Value)(w:World)(hB:ak w S TS l)(h:uN l o m vh vc)(ho:f.offset<=aU)(hd:f.data.size<=1000000000):
  Calls prog 295 #[.pointer (some ⟨S,o,none⟩),bJ f rv] w fun e w'=>e=.returned (.int .i64 (m.refuse f:Int))/\Below w.heap.size w w':=by
 obtain⟨W,O⟩:∃W,W=w.alloc (.cells (bX f rv).toArray 65):=⟨_,rfl⟩
 have hb:ak W w.heap.size 65 (bX f rv):=by rw[O];exact ak.new w 65 _
 have h4:Below w.heap.size w W:=by rw[O];exact(Below.refl _ w).alloc (Nat.le_refl _) _
 have hsz:W.heap.size=w.heap.size+1:=by rw[O];simp
 have U:=hid (g_ f rv W ho hd);obtain⟨x0,x1,x2,x3,x4,x5,x6,x7,x8,x9,xf⟩:=aA hb;have X:Hid (m.refuse f=if m.ended/\m.dD<av f\/m.ended/\f.fin/\av f≠m.dD\/f.fin/\av f<m.high then 10 else if m.gr.told<av f then 9 else 0):=rfl
 have V:Hid (∀y,Below W.heap.size W y->y.cell? ⟨w.heap.size,5,none⟩=some (.bool f.fin)/\y.cell? ⟨S,o+7,none⟩=some (.int .u64 m.high)/\y.cell? ⟨S,o+8,none⟩=some (.bool m.ended)/\y.cell? ⟨S,o+9,none⟩=some (.int .u64 m.dD)/\Below w.heap.size w y/\
   Calls prog 296 #[.pointer (some ⟨S,o,none⟩),.int .u64 (av f:Int)] y fun e' w'=>e'=.returned (.bool (decide (av f<=m.gr.told)))/\w'=y):=fun y hy=>by
  have H:=h4.trans (hy.mono (by omega));have Bz:=hB.of_heap (H.block _ hB.lt);have F:=hb.of_heap (hy.block _ (by omega));exact⟨F.cell 5,in7 S o m vh vc y l Bz h,in8 S o m vh vc y l Bz h,in9 S o m vh vc y l Bz h,H,zJ S o m.gr (av f) y l Bz h.gr⟩
 generalize m.refuse f=R at *;generalize av f=E at *;clear hb h4 hB h ho hd;unfold bJ;unfold bX at O
 rcases(jK m.ended).symm with hen|hen
 ·have tu:=hid hen
  rcases(jK f.fin).symm with hfi|hfi
  ·have zV:=hid hfi;have G:=(show¬(m.ended=true/\m.dD<E\/m.ended=true/\f.fin=true/\E≠m.dD\/f.fin=true/\E<m.high) by rw[hen,hfi];simp)
   by_cases ht:m.gr.told<E
   ·have Z:Hid (R=9):=by unfold Hid;rw[X.out,if_neg G,if_pos ht]
    have h0:¬(E<=m.gr.told):=by omega
    clear X G ht hen hfi;go_enter func295,ntmps295
    go_wp2_with fail
    rw[<-O];refine U.out.mono ?_;rintro e y ⟨rfl,F⟩;obtain⟨y5,y7,y8,y9,H,I⟩:=V.out y F;rw[tu.out]at y8;rw[zV.out]at y5;have xB:=hid H;have HA:=hid I;clear H I F V U O x0 x1 x2 x3 x4 x5 x6 x7 x8 x9 xf
    go_wp2_with fail
    refine HA.out.mono ?_;rintro e y' ⟨rfl,rfl⟩;go_wp2;go_ret;exact⟨dL (by rw[Z.out];rfl),xB.out⟩
   ·have Z:Hid (R=0):=by unfold Hid;rw[X.out,if_neg G,if_neg ht]
    have h0:E<=m.gr.told:=by omega
    clear X G ht hen hfi;go_enter func295,ntmps295
    go_wp2_with fail
    rw[<-O];refine U.out.mono ?_;rintro e y ⟨rfl,F⟩;obtain⟨y5,y7,y8,y9,H,I⟩:=V.out y F;rw[tu.out]at y8;rw[zV.out]at y5;have xB:=hid H;have HA:=hid I;clear H I F V U O x0 x1 x2 x3 x4 x5 x6 x7 x8 x9 xf
    go_wp2_with fail
    refine HA.out.mono ?_;rintro e y' ⟨rfl,rfl⟩;go_wp2;go_ret;exact⟨dL (by rw[Z.out];rfl),xB.out⟩
  ·have zV:=hid hfi
   by_cases h3:E<m.high
   ·clear hen
    have Z:Hid (R=10):=by unfold Hid;rw[X.out,if_pos (.inr (.inr ⟨hfi,h3⟩))]
    clear X hfi;go_enter func295,ntmps295
    go_wp2_with fail
    rw[<-O];refine U.out.mono ?_;rintro e y ⟨rfl,F⟩;obtain⟨y5,y7,y8,y9,H,I⟩:=V.out y F;rw[tu.out]at y8;rw[zV.out]at y5;have xB:=hid H;have HA:=hid I;clear H I F V U O x0 x1 x2 x3 x4 x5 x6 x7 x8 x9 xf;go_wp2;go_ret;exact⟨dL (by rw[Z.out];rfl),xB.out⟩
   ·have G:=(show¬(m.ended=true/\m.dD<E\/m.ended=true/\f.fin=true/\E≠m.dD\/f.fin=true/\E<m.high) by rw[hen,hfi];simp;omega)
    by_cases ht:m.gr.told<E
    ·have Z:Hid (R=9):=by unfold Hid;rw[X.out,if_neg G,if_pos ht]
     have h0:¬(E<=m.gr.told):=by omega
     clear X G ht hen hfi;go_enter func295,ntmps295
     go_wp2_with fail
     rw[<-O];refine U.out.mono ?_;rintro e y ⟨rfl,F⟩;obtain⟨y5,y7,y8,y9,H,I⟩:=V.out y F;rw[tu.out]at y8;rw[zV.out]at y5;have xB:=hid H;have HA:=hid I;clear H I F V U O x0 x1 x2 x3 x4 x5 x6 x7 x8 x9 xf
     go_wp2_with fail
     refine HA.out.mono ?_;rintro e y' ⟨rfl,rfl⟩;go_wp2;go_ret;exact⟨dL (by rw[Z.out];rfl),xB.out⟩
    ·have Z:Hid (R=0):=by unfold Hid;rw[X.out,if_neg G,if_neg ht]
     have h0:E<=m.gr.told:=by omega
     clear X G ht hen hfi;go_enter func295,ntmps295
     go_wp2_with fail
     rw[<-O];refine U.out.mono ?_;rintro e y ⟨rfl,F⟩;obtain⟨y5,y7,y8,y9,H,I⟩:=V.out y F;rw[tu.out]at y8;rw[zV.out]at y5;have xB:=hid H;have HA:=hid I;clear H I F V U O x0 x1 x2 x3 x4 x5 x6 x7 x8 x9 xf
     go_wp2_with fail
     refine HA.out.mono ?_;rintro e y' ⟨rfl,rfl⟩;go_wp2;go_ret;exact⟨dL (by rw[Z.out];rfl),xB.out⟩
 ·have tu:=hid hen
  by_cases h1:m.dD<E
  ·have Z:Hid (R=10):=by unfold Hid;rw[X.out,if_pos (.inl ⟨hen,h1⟩)]
   clear X hen;go_enter func295,ntmps295
   go_wp2_with fail
   rw[<-O];refine U.out.mono ?_;rintro e y ⟨rfl,F⟩;obtain⟨y5,y7,y8,y9,H,I⟩:=V.out y F;rw[tu.out]at y8;have xB:=hid H;have HA:=hid I;clear H I F V U O x0 x1 x2 x3 x4 x5 x6 x7 x8 x9 xf;go_wp2;go_ret;exact⟨dL (by rw[Z.out];rfl),xB.out⟩
  ·rcases(jK f.fin).symm with hfi|hfi
   ·have zV:=hid hfi;have G:=(show¬(m.ended=true/\m.dD<E\/m.ended=true/\f.fin=true/\E≠m.dD\/f.fin=true/\E<m.high) by rw[hen,hfi];simp;omega)
    by_cases ht:m.gr.told<E
    ·have Z:Hid (R=9):=by unfold Hid;rw[X.out,if_neg G,if_pos ht]
     have h0:¬(E<=m.gr.told):=by omega
     clear X G ht hen hfi;go_enter func295,ntmps295
     go_wp2_with fail
     rw[<-O];refine U.out.mono ?_;rintro e y ⟨rfl,F⟩;obtain⟨y5,y7,y8,y9,H,I⟩:=V.out y F;rw[tu.out]at y8;rw[zV.out]at y5;have xB:=hid H;have HA:=hid I;clear H I F V U O x0 x1 x2 x3 x4 x5 x6 x7 x8 x9 xf
     go_wp2_with fail
     refine HA.out.mono ?_;rintro e y' ⟨rfl,rfl⟩;go_wp2;go_ret;exact⟨dL (by rw[Z.out];rfl),xB.out⟩
    ·have Z:Hid (R=0):=by unfold Hid;rw[X.out,if_neg G,if_neg ht]
     have h0:E<=m.gr.told:=by omega
     clear X G ht hen hfi;go_enter func295,ntmps295
     go_wp2_with fail
     rw[<-O];refine U.out.mono ?_;rintro e y ⟨rfl,F⟩;obtain⟨y5,y7,y8,y9,H,I⟩:=V.out y F;rw[tu.out]at y8;rw[zV.out]at y5;have xB:=hid H;have HA:=hid I;clear H I F V U O x0 x1 x2 x3 x4 x5 x6 x7 x8 x9 xf
     go_wp2_with fail
     refine HA.out.mono ?_;rintro e y' ⟨rfl,rfl⟩;go_wp2;go_ret;exact⟨dL (by rw[Z.out];rfl),xB.out⟩
   ·have zV:=hid hfi
    by_cases h2:E=m.dD
    ·have g2:((E:Int)==(m.dD:Int))=true:=by simp;omega
     by_cases h3:E<m.high
     ·have Z:Hid (R=10):=by unfold Hid;rw[X.out,if_pos (.inr (.inr ⟨hfi,h3⟩))]
      clear X hfi hen h2;go_enter func295,ntmps295
      go_wp2_with fail
      rw[<-O];refine U.out.mono ?_;rintro e y ⟨rfl,F⟩;obtain⟨y5,y7,y8,y9,H,I⟩:=V.out y F;rw[tu.out]at y8;rw[zV.out]at y5;have xB:=hid H;have HA:=hid I;clear H I F V U O x0 x1 x2 x3 x4 x5 x6 x7 x8 x9 xf;go_wp2;go_ret;exact⟨dL (by rw[Z.out];rfl),xB.out⟩
     ·have G:=(show¬(m.ended=true/\m.dD<E\/m.ended=true/\f.fin=true/\E≠m.dD\/f.fin=true/\E<m.high) by rw[hen,hfi];simp;omega)
      by_cases ht:m.gr.told<E
      ·have Z:Hid (R=9):=by unfold Hid;rw[X.out,if_neg G,if_pos ht]
       have h0:¬(E<=m.gr.told):=by omega
       clear X G ht hen hfi h2;go_enter func295,ntmps295
       go_wp2_with fail
       rw[<-O];refine U.out.mono ?_;rintro e y ⟨rfl,F⟩;obtain⟨y5,y7,y8,y9,H,I⟩:=V.out y F;rw[tu.out]at y8;rw[zV.out]at y5;have xB:=hid H;have HA:=hid I;clear H I F V U O x0 x1 x2 x3 x4 x5 x6 x7 x8 x9 xf
       go_wp2_with fail
       refine HA.out.mono ?_;rintro e y' ⟨rfl,rfl⟩;go_wp2;go_ret;exact⟨dL (by rw[Z.out];rfl),xB.out⟩
      ·have Z:Hid (R=0):=by unfold Hid;rw[X.out,if_neg G,if_neg ht]
       have h0:E<=m.gr.told:=by omega
       clear X G ht hen hfi h2;go_enter func295,ntmps295
       go_wp2_with fail
       rw[<-O];refine U.out.mono ?_;rintro e y ⟨rfl,F⟩;obtain⟨y5,y7,y8,y9,H,I⟩:=V.out y F;rw[tu.out]at y8;rw[zV.out]at y5;have xB:=hid H;have HA:=hid I;clear H I F V U O x0 x1 x2 x3 x4 x5 x6 x7 x8 x9 xf
       go_wp2_with fail
       refine HA.out.mono ?_;rintro e y' ⟨rfl,rfl⟩;go_wp2;go_ret;exact⟨dL (by rw[Z.out];rfl),xB.out⟩
    ·have g2:((E:Int)==(m.dD:Int))=false:=by simp;omega
     have Z:Hid (R=10):=by unfold Hid;rw[X.out,if_pos (.inr (.inl ⟨hen,hfi,h2⟩))]
     clear X hen hfi;go_enter func295,ntmps295
     go_wp2_with fail
     rw[<-O];refine U.out.mono ?_;rintro e y ⟨rfl,F⟩;obtain⟨y5,y7,y8,y9,H,I⟩:=V.out y F;rw[tu.out]at y8;rw[zV.out]at y5;have xB:=hid H;have HA:=hid I;clear H I F V U O x0 x1 x2 x3 x4 x5 x6 x7 x8 x9 xf;go_wp2;go_ret;exact⟨dL (by rw[Z.out];rfl),xB.out⟩
end Go.Proofs.YtphbledmopchnaaGreatDoor.Sd
