import Derived.Test.YtphbledmopchnaaGreatDoorLdc
open Bool renaming eq_false_or_eq_true->eB
set_option maxHeartbeats 1000000
set_option maxRecDepth 100000
namespace Go.Proofs.YtphbledmopchnaaGreatDoor.Sd
open Go.RowKit Go.Lib Mm Tryz
theorem Qu(S o:Nat)(m:eH)(vh vc:Value)(f:Fr)(rv:Value)(l:bO)(w:World)(hB:aS w S TS l)(h:zT l o m vh vc)(Q:f.aD<=dK)(hd:f.data.size<=1000000000):Calls prog 295 #[aI S o,fM f rv] w fun e w'=>e=.returned (iZ (m.refuse f:Int))/\bJ w w':=by
 obtain⟨W,g⟩:=bZ (w.alloc (.cells (gG f rv).toArray 65));have hb:aS W w.heap.size 65 (gG f rv):=by rw[g];exact aS.new w 65 _
 have M:bJ w W:=by rw[g];exact(Below.refl _ w).alloc (Nat.le_refl _) _
 have gQ:W.heap.size=w.heap.size+1:=by rw[g];simp
 have i:=aG (kG f rv W Q hd);obtain⟨x,z,A,B,C,D,F,G,H,I,J⟩:=bL hb;have k:Hid (m.refuse f=if m.bM/\m.fU<bC f\/m.bM/\f.bn/\bC f≠m.fU\/f.bn/\bC f<m.fF then 10 else if m.gr.dW<bC f then 9 else 0):=rfl;have j:Hid (∀y,bJ W y->y.cell? (aB w.heap.size 5)=some (.bool f.bn)/\y.cell? (aB S (o+7))=some (uZ m.fF)/\y.cell? (aB S (o+8))=some (.bool m.bM)/\y.cell? (aB S (o+9))=some (uZ m.fU)/\bJ w y/\Calls prog 296 #[aI S o,(uZ (bC f:Int))] y fun U w'=>U=.returned (.bool (decide (bC f<=m.gr.dW)))/\w'=y):=fun y T=>by have c:=M.trans (T.mono aj);have N:=hB.of_heap (c.block _ hB.lt);have a:=hb.of_heap (T.block _ aj);exact⟨a.cell 5,in7 S o m vh vc y l N h,in8 S o m vh vc y l N h,in9 S o m vh vc y l N h,c,ED S o m.gr (bC f) y l N h.gr⟩
 generalize m.refuse f=R at *
 generalize bC f=E at *
 clear hb M hB h Q hd;unfold fM;unfold gG at g;rcases(eB m.bM).symm with hen|hen
 ·have v:=aG hen;rcases(eB f.bn).symm with hfi|hfi
  ·have u:=aG hfi;have b:=(show¬(m.bM=true/\m.fU<E\/m.bM=true/\f.bn=true/\E≠m.fU\/f.bn=true/\E<m.fF) by rw[hen,hfi];simp);by_cases ht:m.gr.dW<E
   ·have p:Hid (R=9):=by unfold Hid;rw[k.out,aU b,bK ht]
    have t:¬(E<=m.gr.dW):=aj;clear k b ht hen hfi;go_enter func295,ntmps295;go_wp2_with fail;rw[<-g];refine bN i.out ?_;rintro y a;obtain⟨r,K,q,L,c,d⟩:=j.out y a;rw[v.out]at q;rw[u.out]at r;have n:=aG c;have s:=aG d;clear c d a j i g x z A B C D F G H I J;go_wp2_with fail;refine bN s.out ?_;rintro y' rfl;go_wp2;go_ret;exact⟨ig (by rw[p.out];rfl),n.out⟩
   ·have p:Hid (R=0):=by unfold Hid;rw[k.out,aU b,aU ht]
    have t:E<=m.gr.dW:=aj;clear k b ht hen hfi;go_enter func295,ntmps295;go_wp2_with fail;rw[<-g];refine bN i.out ?_;rintro y a;obtain⟨r,K,q,L,c,d⟩:=j.out y a;rw[v.out]at q;rw[u.out]at r;have n:=aG c;have s:=aG d;clear c d a j i g x z A B C D F G H I J;go_wp2_with fail;refine bN s.out ?_;rintro y' rfl;go_wp2;go_ret;exact⟨ig (by rw[p.out];rfl),n.out⟩
  ·have u:=aG hfi;by_cases P:E<m.fF
   ·clear hen;have p:Hid (R=10):=by unfold Hid;rw[k.out,bK (.inr (.inr ⟨hfi,P⟩))]
    clear k hfi;go_enter func295,ntmps295;go_wp2_with fail;rw[<-g];refine bN i.out ?_;rintro y a;obtain⟨r,K,q,L,c,d⟩:=j.out y a;rw[v.out]at q;rw[u.out]at r;have n:=aG c;have s:=aG d;clear c d a j i g x z A B C D F G H I J;go_wp2;go_ret;exact⟨ig (by rw[p.out];rfl),n.out⟩
   ·have b:=(show¬(m.bM=true/\m.fU<E\/m.bM=true/\f.bn=true/\E≠m.fU\/f.bn=true/\E<m.fF) by rw[hen,hfi];simp;omega);by_cases ht:m.gr.dW<E
    ·have p:Hid (R=9):=by unfold Hid;rw[k.out,aU b,bK ht]
     have t:¬(E<=m.gr.dW):=aj;clear k b ht hen hfi;go_enter func295,ntmps295;go_wp2_with fail;rw[<-g];refine bN i.out ?_;rintro y a;obtain⟨r,K,q,L,c,d⟩:=j.out y a;rw[v.out]at q;rw[u.out]at r;have n:=aG c;have s:=aG d;clear c d a j i g x z A B C D F G H I J;go_wp2_with fail;refine bN s.out ?_;rintro y' rfl;go_wp2;go_ret;exact⟨ig (by rw[p.out];rfl),n.out⟩
    ·have p:Hid (R=0):=by unfold Hid;rw[k.out,aU b,aU ht]
     have t:E<=m.gr.dW:=aj;clear k b ht hen hfi;go_enter func295,ntmps295;go_wp2_with fail;rw[<-g];refine bN i.out ?_;rintro y a;obtain⟨r,K,q,L,c,d⟩:=j.out y a;rw[v.out]at q;rw[u.out]at r;have n:=aG c;have s:=aG d;clear c d a j i g x z A B C D F G H I J;go_wp2_with fail;refine bN s.out ?_;rintro y' rfl;go_wp2;go_ret;exact⟨ig (by rw[p.out];rfl),n.out⟩
 ·have v:=aG hen;by_cases h1:m.fU<E
  ·have p:Hid (R=10):=by unfold Hid;rw[k.out,bK (.inl ⟨hen,h1⟩)]
   clear k hen;go_enter func295,ntmps295;go_wp2_with fail;rw[<-g];refine bN i.out ?_;rintro y a;obtain⟨r,K,q,L,c,d⟩:=j.out y a;rw[v.out]at q;have n:=aG c;have s:=aG d;clear c d a j i g x z A B C D F G H I J;go_wp2;go_ret;exact⟨ig (by rw[p.out];rfl),n.out⟩
  ·rcases(eB f.bn).symm with hfi|hfi
   ·have u:=aG hfi;have b:=(show¬(m.bM=true/\m.fU<E\/m.bM=true/\f.bn=true/\E≠m.fU\/f.bn=true/\E<m.fF) by rw[hen,hfi];simp;omega);by_cases ht:m.gr.dW<E
    ·have p:Hid (R=9):=by unfold Hid;rw[k.out,aU b,bK ht]
     have t:¬(E<=m.gr.dW):=aj;clear k b ht hen hfi;go_enter func295,ntmps295;go_wp2_with fail;rw[<-g];refine bN i.out ?_;rintro y a;obtain⟨r,K,q,L,c,d⟩:=j.out y a;rw[v.out]at q;rw[u.out]at r;have n:=aG c;have s:=aG d;clear c d a j i g x z A B C D F G H I J;go_wp2_with fail;refine bN s.out ?_;rintro y' rfl;go_wp2;go_ret;exact⟨ig (by rw[p.out];rfl),n.out⟩
    ·have p:Hid (R=0):=by unfold Hid;rw[k.out,aU b,aU ht]
     have t:E<=m.gr.dW:=aj;clear k b ht hen hfi;go_enter func295,ntmps295;go_wp2_with fail;rw[<-g];refine bN i.out ?_;rintro y a;obtain⟨r,K,q,L,c,d⟩:=j.out y a;rw[v.out]at q;rw[u.out]at r;have n:=aG c;have s:=aG d;clear c d a j i g x z A B C D F G H I J;go_wp2_with fail;refine bN s.out ?_;rintro y' rfl;go_wp2;go_ret;exact⟨ig (by rw[p.out];rfl),n.out⟩
   ·have u:=aG hfi;by_cases O:E=m.fU
    ·have V:((E:Int)==(m.fU:Int))=true:=by simp;omega
     by_cases P:E<m.fF
     ·have p:Hid (R=10):=by unfold Hid;rw[k.out,bK (.inr (.inr ⟨hfi,P⟩))]
      clear k hfi hen O;go_enter func295,ntmps295;go_wp2_with fail;rw[<-g];refine bN i.out ?_;rintro y a;obtain⟨r,K,q,L,c,d⟩:=j.out y a;rw[v.out]at q;rw[u.out]at r;have n:=aG c;have s:=aG d;clear c d a j i g x z A B C D F G H I J;go_wp2;go_ret;exact⟨ig (by rw[p.out];rfl),n.out⟩
     ·have b:=(show¬(m.bM=true/\m.fU<E\/m.bM=true/\f.bn=true/\E≠m.fU\/f.bn=true/\E<m.fF) by rw[hen,hfi];simp;omega);by_cases ht:m.gr.dW<E
      ·have p:Hid (R=9):=by unfold Hid;rw[k.out,aU b,bK ht]
       have t:¬(E<=m.gr.dW):=aj;clear k b ht hen hfi O;go_enter func295,ntmps295;go_wp2_with fail;rw[<-g];refine bN i.out ?_;rintro y a;obtain⟨r,K,q,L,c,d⟩:=j.out y a;rw[v.out]at q;rw[u.out]at r;have n:=aG c;have s:=aG d;clear c d a j i g x z A B C D F G H I J;go_wp2_with fail;refine bN s.out ?_;rintro y' rfl;go_wp2;go_ret;exact⟨ig (by rw[p.out];rfl),n.out⟩
      ·have p:Hid (R=0):=by unfold Hid;rw[k.out,aU b,aU ht]
       have t:E<=m.gr.dW:=aj;clear k b ht hen hfi O;go_enter func295,ntmps295;go_wp2_with fail;rw[<-g];refine bN i.out ?_;rintro y a;obtain⟨r,K,q,L,c,d⟩:=j.out y a;rw[v.out]at q;rw[u.out]at r;have n:=aG c;have s:=aG d;clear c d a j i g x z A B C D F G H I J;go_wp2_with fail;refine bN s.out ?_;rintro y' rfl;go_wp2;go_ret;exact⟨ig (by rw[p.out];rfl),n.out⟩
    ·have V:((E:Int)==(m.fU:Int))=false:=by simp;omega
     have p:Hid (R=10):=by unfold Hid;rw[k.out,bK (.inr (.inl ⟨hen,hfi,O⟩))]
     clear k hen hfi;go_enter func295,ntmps295;go_wp2_with fail;rw[<-g];refine bN i.out ?_;rintro y a;obtain⟨r,K,q,L,c,d⟩:=j.out y a;rw[v.out]at q;rw[u.out]at r;have n:=aG c;have s:=aG d;clear c d a j i g x z A B C D F G H I J;go_wp2;go_ret;exact⟨ig (by rw[p.out];rfl),n.out⟩
