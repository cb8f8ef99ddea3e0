import Derived.Test.YtphbledmopchnaaGreatDoorUfc
import Derived.Test.YtphbledmopchnaaGreatDoorUfb
import Derived.Deep.MidRow
open Array renaming getElem?_eq_some_iff->mR
open Go.RowKit.Below renaming refl->fB,heap_alloc->nI
open Nat renaming lt_of_lt_of_le->fA,le_of_lt->tL
set_option maxHeartbeats 8000000
set_option maxRecDepth 100000
namespace Go.Proofs.YtphbledmopchnaaGreatDoor.Sd
open Go.RowKit Go.Lib Mm Tryz
section
theorem Wx{c:Code}{K:Act->World->Prop}{U:Exit->Act->World->Prop}{a:Act}{w:World}(act:Nat->Nat->Nat->Nat->Array Value->Act)(R:Nat->Nat->Nat->Nat->Array Value->World->Prop)(h:c.wp prog (Exit.then (fun O w'=>∃x1 x2 G H I,O=act x1 x2 G H I/\R x1 x2 G H I w') fun _ _ _=>False) a w)(X:∀x1 x2 G H I w',R x1 x2 G H I w'->K (act x1 x2 G H I) w'):c.wp prog (Exit.then K U) a w:=
 wp_mono h fun e O w' F=>by
  cases e with
  |normal=>obtain⟨x1,x2,G,H,I,rfl,V⟩:=F;exact X _ _ _ _ _ _ V
  |ret=>exact F.elim
  |exit i=>exact F.elim
  |goto i=>exact F.elim
  |panic c=>exact F.elim
  |outgrown=>exact F.elim
theorem kE{z y:World}(h:aD z y):aD z y.drew:=⟨h.os,h.tape,h.output,h.size,h.block⟩
theorem kF{z y:World}(o:Obj)(h:aD z y):aD z (y.alloc o):=h.alloc h.size o
theorem Sl{Y:World}(z:World)(h:Below (z.alloc (.map #[] 0)).heap.size (z.alloc (.map #[] 0)) Y):Y.heap[z.heap.size]?=some (.map #[] 0):=(h.block _ (by simp)).trans (World.alloc_heap_new z _)
theorem Wy{Y:World}(z:World)(o:Obj)(h:Below ((z.alloc o).alloc (.map #[] 0)).heap.size ((z.alloc o).alloc (.map #[] 0)) Y):Y.heap[z.heap.size+1]?=some (.map #[] 0):=by
 have:=Sl (z.alloc o) h;rwa[World.size_alloc]at this
def qbz(aM window total:Nat)(F:World)(S bw bl bi:Nat)(A:Array Value)(w':World):Prop:=
 ∃Y,w'=Y.alloc (.cells A 210)/\S=Y.heap.size/\Wv aM window total bw bl bi A/\aD F Y/\Y.heap[bw]?=some (.map #[] 0)/\Y.heap[bl]?=some (.map #[] 0)/\bw≠bl/\F.heap.size<=bw/\F.heap.size<=bl
def ZQ(aM window total F:Nat)(S bw bl bi:Nat)(A:Array Value):Act:={tmps:=#[.agg #[iZ aM,iZ window,iZ total],ay F 0,.pointer none,.nilIface,ay S 0,undef,.agg #[iZ aM,iZ window,iZ total],.bool true,.bool false,undef,.agg #[iZ aM,iZ window,iZ total],ay F 2,iZ total,(uZ (IntKind.u64.wrap (total:Int))),ay F 2,iZ total,.agg #[uZ total,uZ total,uZ 0,uZ total],.agg #[iZ 8,uZ 0,nZ],.map (some bw),.map (some bl),.agg #[nZ,uZ 0,.map (some bi)],.agg A,ay S 0,undef,undef,undef,undef,undef,undef,undef,undef,undef,undef,undef,undef,undef,undef,undef,undef,undef],defers:=[]}
theorem qN(R:Nat):∀(vs:aI) (j:Nat) (y:World),y.setCells R j vs=kr R j vs y
 |[],_,_=>rfl
 |v::vs,j,y=>by
  show(y.setCell (aj R j) v).setCells R (j+1) vs=kr R (j+1) vs (y.setCell (aj R j) v);exact qN R vs (j+1) _
theorem Wz(y:World)(S o window:Nat)(h:y.there S o 27):(storeVar 200 (aj S o) (.agg #[nZ,.bool false,.bool false,uZ 0,uZ 0,uZ 0,uZ window,uZ 0,iZ 2049,uZ 0,nZ,iZ 2049,uZ 0,nZ,uZ window,uZ window,uZ 0,uZ window,uZ 0,nZ,nZ,uZ 0,.bool false,uZ 0,.bool false,uZ 0,iZ 0])).run prog y=.ok () (kr S o (jO window++wM window) y):=by
 rw[<-qN];exact run_storeVar_mid y S o 200 (jO window++wM window).toArray h (by kernel_rfl) (by simp[Value.oneCell'])
attribute [-go_sem] storeVar
theorem Yv(oZ:Own)(s:Nat)(hs:0<s)(aM window total:Nat)(hm:64<=aM/\aM<=400)(hw:16<=window/\window<=4096)(ht:16<=total/\total<=4096)(w:World):
  Calls prog 107 #[.agg #[iZ aM,iZ window,iZ total]] w fun e w'=>∃S bw bl bi aC l vc,e=.returned (.tuple #[ay S 0,.nilIface])/\bT aC s w' S l (Side.new aM window total) bw bl bi vc/\Kp [] oZ aC w w'/\∀b,w.heap.size<=b->aC b=s\/aC b=s+42\/aC b=s+43\/aC b=0:=by
 have x4:=@run_makeMap prog;have h9:=au (fun y=>Sg aM window total hm hw ht y)
 have HG:Hid (∀y,Calls prog 142 #[iZ total] y fun e y'=>e=.returned (.agg #[uZ total,uZ total,uZ 0,uZ total])/\∀z:World,aD z y->aD z y'):=fun y=>(Ba total ht.2 y).mono fun e y' hh=>⟨hh.1,fun z hz=>hz.trans (hh.2.mono hz.size)⟩
 have HS:Hid (∀y,Calls prog 126 #[iZ 8] y fun e y'=>e=.returned (.agg #[iZ 8,uZ 0,nZ])/\∀z:World,aD z y->aD z y'):=fun y=>(J3 8 y).mono fun e y' hh=>⟨hh.1,fun z hz=>hz.trans (hh.2.mono hz.size)⟩
 have HI:Hid (∀y,Calls prog 143 #[] y fun e y'=>∃b,e=.returned (.agg #[nZ,uZ 0,.map (some b)])/\∀z:World,aD z y->aD z y'):=fun y=>(NT y).mono fun e y' ⟨b,h1,h2⟩=>⟨b,h1,fun z hz=>hz.trans (h2.mono hz.size)⟩
 obtain⟨W0,X⟩:∃W0,W0=w.alloc (.cells #[iZ aM,iZ window,iZ total] 45):=⟨_,rfl⟩
 have h6:aA W0 w.heap.size 45 [iZ aM,iZ window,iZ total]:=by rw[X];exact aA.new w 45 _
 have Ag:w.heap.size<W0.heap.size:=h6.lt
 have h5:aD w W0:=by rw[X];exact(fB _ w).alloc (Nat.le_refl _) _
 go_enter func107,ntmps107
 go_wp2_with (go_at_call 141;rw[<-X];refine(h9.out W0).mono ?_;rintro e K ⟨rfl,F⟩)
 have I:=h6.of_heap (F.block _ Ag);have G:w.heap.size<K.heap.size:=I.lt;have c0:K.cell? (aj w.heap.size 0)=some (iZ aM):=I.cell 0;have c1:K.cell? (aj w.heap.size 1)=some (iZ window):=I.cell 1;have c2:K.cell? (aj w.heap.size 2)=some (iZ total):=I.cell 2
 have HC:Hid (∀y:World,aD K y->y.cell? (aj w.heap.size 0)=some (iZ aM)/\y.cell? (aj w.heap.size 1)=some (iZ window)/\y.cell? (aj w.heap.size 2)=some (iZ total)/\w.heap.size<y.heap.size):=fun y hb=>
  ⟨cell_of c0 (hb.block _ G),cell_of c1 (hb.block _ G),cell_of c2 (hb.block _ G),fA G hb.size⟩
 have Lv:=au (And.intro I (h5.trans (F.mono h5.size)));clear h6 I h9 X h5 F;have hr:aD K K:=fB _ _;refine Wx (ZQ aM window total w.heap.size) (qbz aM window total K) ?_ (fun S bw bl bi A w2 hR=>?_)
 ·go_region_held3 (fun y=>y.cell? (aj w.heap.size 0)=some (iZ aM)/\y.cell? (aj w.heap.size 1)=some (iZ window)/\y.cell? (aj w.heap.size 2)=some (iZ total)/\w.heap.size<y.heap.size) ((go_keep<;>(first|omega|(rw[World.size_alloc];omega))))
   ((first
    |(go_at_call 142;refine(HG.out _).mono ?_;rintro e y1 ⟨rfl,hb⟩;have H:aD K y1:=hb _ (by repeat(first|assumption|refine kF _ ?_|refine kE ?_));have hsz:=H.size;have U:=(hb _ (fB _ _)).size;(try simp at U);obtain⟨d0,d1,d2,d3⟩:=HC.out y1 H)
    |(go_at_call 126;refine(HS.out _).mono ?_;rintro e y1 ⟨rfl,hb⟩;have H:aD K y1:=hb _ (by repeat(first|assumption|refine kF _ ?_|refine kE ?_));have hsz:=H.size;have U:=(hb _ (fB _ _)).size;(try simp at U);obtain⟨d0,d1,d2,d3⟩:=HC.out y1 H)
    |(go_at_call 143;refine(HI.out _).mono ?_;rintro e y1 ⟨b,rfl,hb⟩;have H:aD K y1:=hb _ (by repeat(first|assumption|refine kF _ ?_|refine kE ?_));have hsz:=H.size;have U:=(hb _ (fB _ _)).size;(try simp at U);obtain⟨d0,d1,d2,d3⟩:=HC.out y1 H)))
  all_goals refine⟨_,_,_,_,_,rfl,_,rfl,(by first|rfl|simp),rfl,(by repeat(first|assumption|refine kF _ ?_|refine kE ?_)),?_,?_,?_,?_,?_⟩
  all_goals first
   |omega
   |exact Sl _ (by repeat(first|exact fB _ _|assumption|refine kF _ ?_|refine kE ?_|refine(by assumption:∀z:World,aD z _->aD z _) _ ?_))
   |exact Wy _ (.map #[] 0) (by repeat(first|exact fB _ _|assumption|refine kF _ ?_|refine kE ?_|refine(by assumption:∀z:World,aD z _->aD z _) _ ?_))
 ·obtain⟨Y,rfl,rfl,hA,Tj,m1,m2,h0,l1,l2⟩:=hR;have hc:A.size=240:=(hA.cells ht.2).1;have HO:=au (fun y=>Us window hw.2 y);have HN:=au (fun y=>Xx window hw.2 y);have hV:(jO window++wM window).length=27:=rfl;obtain⟨W3,h4⟩:∃W3,W3=Y.alloc (.cells A 210):=⟨_,rfl⟩
  have ha:Hid (aA W3 Y.heap.size TS (DL A.toList (jO window++wM window) 0)/\W3.heap[bw]?=some (.map #[] 0)/\W3.heap[bl]?=some (.map #[] 0)/\aA W3 w.heap.size 45 [iZ aM,iZ window,iZ total]/\aD w W3/\w.heap.size<Y.heap.size/\bw<Y.heap.size/\bl<Y.heap.size):=by
   have b1:bw<Y.heap.size:=(mR.1 m1).1;have b2:bl<Y.heap.size:=(mR.1 m2).1;have b3:w.heap.size<Y.heap.size:=fA G Tj.size;rw[Si _ _ (by rw[Array.length_toList];exact hc),h4];refine⟨by have:=aA.new Y 210 A.toList;rwa[Array.toArray_toList]at this,(nI _ _ _ b1).trans m1,(nI _ _ _ b2).trans m2,(Lv.out.1.of_heap (Tj.block _ G)).of_heap (nI _ _ _ b3),?_,b3,b1,b2⟩;have:=Lv.out.2.trans (Tj.mono (tL G));exact this.alloc (tL b3) _
  unfold ZQ;rw[<-h4];have lQ:=au (And.intro hA (And.intro h0 (And.intro l1 (And.intro l2 G))));clear h4 hA Tj m1 m2 h0 l1 l2 hr c0 c1 c2 hc;generalize Y.heap.size=S at *;go_wp2
  go_loopw [23] (fun h7 wr=>∃j:Nat,j<=8/\h7=(iZ j)/\Hid (aA wr S TS (DL A.toList (jO window++wM window) j)/\wr.heap[bw]?=some (.map #[] 0)/\wr.heap[bl]?=some (.map #[] 0)/\aA wr w.heap.size 45 [iZ aM,iZ window,iZ total]/\aD w wr/\w.heap.size<S/\bw<S/\bl<S)) (fun h7 _=>8-(intOf h7).toNat)
  case atStart=>exact⟨0,by omega,rfl,ha⟩
  case round=>
   obtain⟨j,hj,rfl,HR⟩:=hrel;clear ha
   by_cases hu:j<8
   ·have x3:(j:Int)<8:=by omega
    have c1:wr.cell? (aj w.heap.size 1)=some (iZ window):=HR.out.2.2.2.1.cell 1;have he:w.heap.size<wr.heap.size:=HR.out.2.2.2.1.lt;have uV:S<wr.heap.size:=HR.out.1.lt;go_wp2
    have hg:S≠w.heap.size:=by have:=HR.out.2.2.2.2.2.1;omega
    have x0:∀(o:Nat) (vs:aI) (y:World),(kr S o vs y).cell? (aj w.heap.size 1)=y.cell? (aj w.heap.size 1):=fun o vs y=>by
     have:=(jD S vs o y).block w.heap.size (Ne.symm hg);unfold World.cell?;simp only[this]
    go_region_held3 (fun y=>y.cell? (aj w.heap.size 1)=some (iZ window)) (go_keep)
     ((first
      |(go_at_call 144;refine(HO.out _).mono ?_;rintro e y1 ⟨rfl,F⟩;have d1:y1.cell? (aj w.heap.size 1)=some (iZ window):=cell_of c1 (F.block _ (by simpa using he)))
      |(go_at_call 145;refine(HN.out _).mono ?_;rintro e y2 ⟨rfl,Z⟩;have d2:y2.cell? (aj w.heap.size 1)=some (iZ window):=cell_of d1 (Z.block _ (fA (by simpa using he) F.size));have V:aA y2 S TS (DL A.toList (jO window++wM window) j):=(HR.out.1.of_heap (F.block _ (by simpa using uV))).of_heap (Z.block _ (fA (by simpa using uV) F.size));have hv:=Wz y2 S (4+j*27) window (fun i hi=>⟨by rw[V.cell,qy _ _ j _ (by omega)];rfl,V.frozen _⟩);have h8:=au V;clear V)))
    obtain⟨W5,rQ⟩:∃W5,W5=kr S (4+j*27) (jO window++wM window) y2:=⟨_,rfl⟩
    have hf:Hid (aA W5 S TS (DL A.toList (jO window++wM window) (j+1))/\W5.heap[bw]?=some (.map #[] 0)/\W5.heap[bl]?=some (.map #[] 0)/\aA W5 w.heap.size 45 [iZ aM,iZ window,iZ total]/\aD w W5/\w.heap.size<S/\bw<S/\bl<S):=by
     obtain⟨r1,r2,r3,r4,r5,r6,r7,r8⟩:=HR.out;have tc:=jD S (jO window++wM window) (4+j*27) y2;have h3:aD wr y1:=⟨F.os,F.tape,F.output,F.size,F.block⟩;have hy:aD wr y2:=h3.trans (Z.mono h3.size);rw[<-rQ]at tc
     have O:∀k,k<wr.heap.size->k≠S->W5.heap[k]?=wr.heap[k]?:=fun k hk hn=>(tc.block k hn).trans (hy.block k hk)
     refine⟨?_,(O bw (by omega) (by omega)).trans r2,(O bl (by omega) (by omega)).trans r3,r4.of_heap (O _ (by omega) (by omega)),?_,r6,r7,r8⟩
     ·rw[<-Sj _ _ hV j hu,show 4+27*j=4+j*27 by omega,rQ];exact kQ _ _ y2 _ h8.out
     ·exact tc.below (r5.trans (hy.mono r5.size)) (by omega)
    change Exit.inBlock _ _ _ _ (kr S (4+j*27) (jO window++wM window) y2);rw[<-rQ];clear rQ F Z hv h8 HR d1 d2 x0 c1;go_wp2;go_roundw
    case rel=>exact⟨j+1,by omega,by simp,hf⟩
    case measure=>simp[intOf];omega
   ·obtain rfl:j=8:=by omega
    go_wp2;refine bodyPost_ret (v:=.tuple #[ay S 0,.nilIface]) (by simp[results,results107,go_sem]) rfl ?_;obtain⟨r1,r2,r3,r4,r5,r6,r7,r8⟩:=HR.out;obtain⟨hA,h0,l1,l2,G⟩:=lQ.out
    obtain⟨aC,ho⟩:∃aC:Own,aC=fun x=>if x<w.heap.size then oZ x else if x=S then s else if x=bw then s+42 else if x=bl then s+43 else 0:=⟨_,rfl⟩
    have o1:aC S=s:=by rw[ho];simp only;rw[if_neg (by omega),if_pos trivial]
    have o2:aC bw=s+42:=by rw[ho];simp only;rw[if_neg (by omega),if_neg (by omega),if_pos trivial]
    have o3:aC bl=s+43:=by rw[ho];simp only;rw[if_neg (by omega),if_neg (by omega),if_neg (Ne.symm h0),if_pos trivial]
    refine⟨S,bw,bl,bi,aC,_,_,rfl,Yu hA ht.2 hs r1 r2 r3 o1 o2 o3,⟨r5.os,r5.tape,r5.output,r5.size,fun x hx _=>r5.block x hx,fun x hx=>by rw[ho];exact if_pos hx⟩,fun b hb=>?_⟩;rw[ho];simp only;rw[if_neg (by omega)]
    by_cases e1:b=S
    ·rw[if_pos e1];exact .inl rfl
    ·rw[if_neg e1]
     by_cases e2:b=bw
     ·rw[if_pos e2];exact .inr (.inl rfl)
     ·rw[if_neg e2]
      by_cases e3:b=bl
      ·rw[if_pos e3];exact .inr (.inr (.inl rfl))
      ·rw[if_neg e3];exact .inr (.inr (.inr rfl))
