import Derived.Test.YtphbledmopchnaaGreatDoorUab
open Go.RowKit.Below renaming refl->fB,heap_setCell->mR
open Nat renaming le_refl->fA,le_trans->nI
set_option maxHeartbeats 1000000
set_option maxRecDepth 100000
namespace Go.Proofs.YtphbledmopchnaaGreatDoor
open Go.RowKit Go.Lib Go.Shelf Mm Tryz
def K_(B0:Nat)(w:World)(xb:Nat)(v:Value):Prop:=B0<=xb/\w.cell? (aj xb 0)=some v
theorem K_.below{B0:Nat}{w w':World}{xb:Nat}{v:Value}(h:K_ B0 w xb v)(hb:aD w w'):K_ B0 w' xb v:=
 ⟨h.1,(hb.cell (p:=(aj xb 0)) (World.block_lt_of_cell? _ _ h.2)).trans h.2⟩
theorem K_.mono{B0 B1:Nat}{w:World}{xb:Nat}{v:Value}(h:K_ B1 w xb v)(hb:B0<=B1):K_ B0 w xb v:=⟨nI hb h.1,h.2⟩
def gD(B0:Nat)(w:World)(F:Nat×Nat)(G fr:Value):Prop:=
 (F.1=0/\∃xb,K_ B0 w xb (.int .u8 F.2)/\G=.func (.func 321) #[] #[ay xb 0]/\fr=.func (.func 322) #[] #[])\/
 (F.1=1/\G=.func (.func 331) #[] #[]/\fr=.func (.func 332) #[] #[])\/
 (F.1=2/\G=.func (.func 327) #[] #[]/\fr=.func (.func 328) #[] #[])\/
 (F.1=3/\∃xb,K_ B0 w xb (.func (.func F.2) #[] #[])/\G=.func (.func 329) #[] #[ay xb 0]/\fr=.func (.func 330) #[] #[ay xb 0])\/
 (F.1=4/\G=.func (.func 333) #[] #[]/\fr=.func (.func 334) #[] #[])\/
 (F.1=5/\G=.func (.func 325) #[] #[]/\fr=.func (.func 326) #[] #[])
theorem gD.below{B0:Nat}{w w':World}{F:Nat×Nat}{I fr:Value}(h:gD B0 w F I fr)(hb:aD w w'):gD B0 w' F I fr:=by
 rcases h with⟨h,xb,H,G⟩|h|h|⟨h,xb,H,G⟩|h|h
 ·exact .inl ⟨h,xb,H.below hb,G⟩
 ·exact .inr (.inl h)
 ·exact .inr (.inr (.inl h))
 ·exact .inr (.inr (.inr (.inl ⟨h,xb,H.below hb,G⟩)))
 ·exact .inr (.inr (.inr (.inr (.inl h))))
 ·exact .inr (.inr (.inr (.inr (.inr h))))
theorem gD.mono{B0 B1:Nat}{w:World}{F:Nat×Nat}{I fr:Value}(h:gD B1 w F I fr)(hb:B0<=B1):gD B0 w F I fr:=by
 rcases h with⟨h,xb,H,G⟩|h|h|⟨h,xb,H,G⟩|h|h
 ·exact .inl ⟨h,xb,H.mono hb,G⟩
 ·exact .inr (.inl h)
 ·exact .inr (.inr (.inl h))
 ·exact .inr (.inr (.inr (.inl ⟨h,xb,H.mono hb,G⟩)))
 ·exact .inr (.inr (.inr (.inr (.inl h))))
 ·exact .inr (.inr (.inr (.inr (.inr h))))
def Made(w w':World)(F:Nat×Nat)(e:Ending):Prop:=∃G fr,e=.returned (.agg #[G,fr])/\gD w.heap.size w' F G fr/\aD w w'
theorem GU(x:Nat)(w:World):Calls prog 274 #[.int .u8 x] w fun e w'=>Made w w' (0,x) e:=by
 go_enter func274,ntmps274;go_wp2;refine bodyPost_ret (v:=.agg #[.func (.func 321) #[] #[ay w.heap.size 0],.func (.func 322) #[] #[]]) (by simp[results,results274,go_sem]) rfl ⟨_,_,rfl,.inl ⟨rfl,w.heap.size,⟨fA _,?_⟩,rfl,rfl⟩,?_⟩
 ·exact((aA.new w 5 [.int .u8 x]).alloc _).cell 0
 ·exact((fB _ w).alloc (fA _) _).alloc (by simp) _
theorem DW(w:World):Calls prog 276 #[] w fun e w'=>Made w w' (5,0) e:=by
 go_enter func276,ntmps276;go_wp2;exact bodyPost_ret (v:=.agg #[.func (.func 325) #[] #[],.func (.func 326) #[] #[]]) (by simp[results,results276,go_sem]) rfl ⟨_,_,rfl,.inr (.inr (.inr (.inr (.inr ⟨rfl,rfl,rfl⟩)))),(fB _ w).alloc (fA _) _⟩
theorem oK(w:World):Calls prog 277 #[] w fun e w'=>Made w w' (2,0) e:=by
 go_enter func277,ntmps277;go_wp2;exact bodyPost_ret (v:=.agg #[.func (.func 327) #[] #[],.func (.func 328) #[] #[]]) (by simp[results,results277,go_sem]) rfl ⟨_,_,rfl,.inr (.inr (.inl ⟨rfl,rfl,rfl⟩)),(fB _ w).alloc (fA _) _⟩
theorem GV(w:World):Calls prog 281 #[] w fun e w'=>Made w w' (1,0) e:=by
 go_enter func281,ntmps281;go_wp2;exact bodyPost_ret (v:=.agg #[.func (.func 331) #[] #[],.func (.func 332) #[] #[]]) (by simp[results,results281,go_sem]) rfl ⟨_,_,rfl,.inr (.inl ⟨rfl,rfl,rfl⟩),(fB _ w).alloc (fA _) _⟩
theorem Au(w:World):Calls prog 282 #[] w fun e w'=>Made w w' (4,0) e:=by
 go_enter func282,ntmps282;go_wp2;exact bodyPost_ret (v:=.agg #[.func (.func 333) #[] #[],.func (.func 334) #[] #[]]) (by simp[results,results282,go_sem]) rfl ⟨_,_,rfl,.inr (.inr (.inr (.inr (.inl ⟨rfl,rfl,rfl⟩)))),(fB _ w).alloc (fA _) _⟩
theorem gu(F:Nat)(w:World):Calls prog 278 #[.func (.func F) #[] #[]] w fun e w'=>Made w w' (3,F) e:=by
 go_enter func278,ntmps278;go_wp2;refine bodyPost_ret (v:=.agg #[.func (.func 329) #[] #[ay w.heap.size 0],.func (.func 330) #[] #[ay w.heap.size 0]]) (by simp[results,results278,go_sem]) rfl ⟨_,_,rfl,.inr (.inr (.inr (.inl ⟨rfl,w.heap.size,⟨fA _,?_⟩,rfl,rfl⟩))),?_⟩
 ·exact((aA.new w 357 [.func (.func F) #[] #[]]).alloc _).cell 0
 ·exact((fB _ w).alloc (fA _) _).alloc (by simp) _
theorem gF(s:Value)(hs:∃a n c,s=.slice a n c)(w:World):Calls prog 275 #[s] w fun e w'=>∃pb,e=.returned (.agg #[.func (.func 323) #[] #[ay pb 0],.func (.func 324) #[] #[ay pb 0]])/\K_ w.heap.size w' pb s/\aD w w':=by
 obtain⟨a,n,c,rfl⟩:=hs;go_enter func275,ntmps275;go_wp2;refine bodyPost_ret (v:=.agg #[.func (.func 323) #[] #[ay w.heap.size 0],.func (.func 324) #[] #[ay w.heap.size 0]]) (by simp[results,results275,go_sem]) rfl ⟨w.heap.size,rfl,⟨fA _,?_⟩,?_⟩
 ·exact((aA.new w 380 [.slice a n c]).alloc _).cell 0
 ·exact((fB _ w).alloc (fA _) _).alloc (by simp) _
theorem K_.of{B0:Nat}{w w':World}{xb:Nat}{v:Value}(h:K_ B0 w xb v)(e:∀k,B0<=k->w'.heap[k]?=w.heap[k]?):K_ B0 w' xb v:=⟨h.1,cell_of h.2 (e xb h.1)⟩
theorem gD.of{B0:Nat}{w w':World}{F:Nat×Nat}{I fr:Value}(h:gD B0 w F I fr)(e:∀k,B0<=k->w'.heap[k]?=w.heap[k]?):gD B0 w' F I fr:=by
 rcases h with⟨h,xb,H,G⟩|h|h|⟨h,xb,H,G⟩|h|h
 ·exact .inl ⟨h,xb,H.of e,G⟩
 ·exact .inr (.inl h)
 ·exact .inr (.inr (.inl h))
 ·exact .inr (.inr (.inr (.inl ⟨h,xb,H.of e,G⟩)))
 ·exact .inr (.inr (.inr (.inr (.inl h))))
 ·exact .inr (.inr (.inr (.inr (.inr h))))
def Ox(B0:Nat)(w:World)(F:aP)(G fr:Value):Prop:=
 ∃pb qb,G=.func (.func 323) #[] #[ay pb 0]/\fr=.func (.func 324) #[] #[ay pb 0]/\K_ B0 w pb (aS qb F.length F.length)/\B0<=qb/\
  ∀j,j<F.length->∃G fr,w.cell? (aj qb (j*2))=some G/\w.cell? (aj qb (j*2+1))=some fr/\gD B0 w (F.getD j (0,0)) G fr
def Laid(w w':World)(F:aP)(e:Ending):Prop:=∃G fr,e=.returned (.agg #[G,fr])/\Ox (w.heap.size+1) w' F G fr/\aD w w'
theorem iL{w y:World}{Z:Obj}(h:Below (w.heap.size+1) (w.alloc Z) y)(a b:Value):
  aD w ((y.setCell (aj w.heap.size 0) a).setCell (aj w.heap.size 1) b)/\∀k,w.heap.size+1<=k->((y.setCell (aj w.heap.size 0) a).setCell (aj w.heap.size 1) b).heap[k]?=y.heap[k]?:=by
 refine⟨?_,fun k F=>?_⟩
 ·have h1:aD w y:=((fB _ w).alloc (fA _) Z).trans (h.mono (by omega));exact(h1.setCell (p:=(aj w.heap.size 0)) (fA _) a).setCell (p:=(aj w.heap.size 1)) (fA _) b
 ·rw[mR _ _ _ _ (by simp;omega),mR _ _ _ _ (by simp;omega)]
theorem gW(x:Nat)(X:Int)(F:X=(x:Int))(w:World):Calls prog 274 #[.int .u8 X] w fun e w'=>Made w w' (0,x) e:=by
 subst F;exact GU x w
theorem aT{B:Nat}{F y y':World}(h:Below B F y)(hB:B<=F.heap.size)(G:aD y y'):Below B F y':=h.trans (G.mono (nI hB h.size))
theorem iM{w z:World}(h:Below (w.heap.size+1) (w.alloc (.cells #[.nilFunc,.nilFunc] 318)) z):
  z.cell? (aj w.heap.size 0)=some .nilFunc/\z.cell? (aj w.heap.size 1)=some .nilFunc/\z.frozen? (aj w.heap.size 0)=false/\z.frozen? (aj w.heap.size 1)=false:=by
 have hb:aA z w.heap.size 318 [.nilFunc,.nilFunc]:=(aA.new w 318 [.nilFunc,.nilFunc]).of_heap (h.block _ (by omega));exact⟨hb.cell 0,hb.cell 1,hb.frozen 0,hb.frozen 1⟩
theorem TH(w:World):Calls prog 217 #[iZ 2] w fun e w'=>Laid w w' [(0,2),(5,0)] e:=by
 go_enter func217,ntmps217
 go_wp2_with fail
 refine(gW 2 _ rfl _).mono ?_;rintro e y1 ⟨K,I,rfl,V,G⟩;have C1:Hid (Below (w.heap.size+1) (w.alloc (.cells #[.nilFunc,.nilFunc] 318)) y1):=G.mono (by simp);have rP:=au V;have h2:=au G;clear V G
 go_wp2_with fail
 refine(DW _).mono ?_;rintro e y2 ⟨U,O,rfl,X,H⟩;have C2:Hid (Below (w.heap.size+1) (w.alloc (.cells #[.nilFunc,.nilFunc] 318)) y2):=aT C1.out (by simp) H;have qQ:=au X;have h0:=au H;clear X H
 go_wp2_with fail
 refine(gF _ ⟨_,_,_,rfl⟩ _).mono ?_;rintro e z ⟨pb,rfl,mg,Z⟩;have mh:aD y2 (y2.alloc (.cells #[K,I,U,O] 318)):=(fB _ _).alloc (fA _) _;have CA:Below (w.heap.size+1) (w.alloc (.cells #[.nilFunc,.nilFunc] 318)) (y2.alloc (.cells #[K,I,U,O] 318)):=aT C2.out (by simp) mh;have CZ:Below (w.heap.size+1) (w.alloc (.cells #[.nilFunc,.nilFunc] 318)) z:=aT CA (by simp) Z;obtain⟨i0,i1,i2,i3⟩:=iM CZ;have hq:aA z y2.heap.size 318 [K,I,U,O]:=(aA.new y2 318 [K,I,U,O]).of_heap (Z.block _ (by simp));have Q1:=au ((((rP.out.below h0.out).below mh).below Z).mono (B0:=w.heap.size+1) (by simp));have Q2:=au (((qQ.out.below mh).below Z).mono (B0:=w.heap.size+1) (by have:=C1.out.size;simp at this;omega))
 have mo:w.heap.size+1<=y2.heap.size:=by have:=C2.out.size;simp at this;omega
 have vH:=au (mg.mono (B0:=w.heap.size+1) (by simp;omega));have HQ:=au hq;have La:=au CZ;have vI:=au mo;clear mg hq CZ CA mh Z mo
 go_wp2_with fail
 obtain⟨f1,f2⟩:=iL La.out (.func (.func 323) #[] #[ay pb 0]) (.func (.func 324) #[] #[ay pb 0]);refine bodyPost_ret (v:=.agg #[.func (.func 323) #[] #[ay pb 0],.func (.func 324) #[] #[ay pb 0]]) (by simp[results,results217,go_sem,i0,i1]) rfl ⟨_,_,rfl,⟨pb,y2.heap.size,rfl,rfl,vH.out.of f2,vI.out,?_⟩,f1⟩;intro j hj;have F:aA _ y2.heap.size 318 [K,I,U,O]:=HQ.out.of_heap (f2 _ vI.out)
 match j,hj with
 |0,_=>exact⟨K,I,F.cell 0,F.cell 1,Q1.out.of f2⟩
 |1,_=>exact⟨U,O,F.cell 2,F.cell 3,Q2.out.of f2⟩
 |(m+2),hm=>exact absurd hm (by simp)
theorem TI(w:World):Calls prog 217 #[iZ 3] w fun e w'=>Laid w w' [(0,36),(2,0),(3,279),(3,280)] e:=by
 go_enter func217,ntmps217
 go_wp2_with fail
 refine(gW 36 _ rfl _).mono ?_;rintro e y1 ⟨jV,Z,rfl,h2,H⟩;have C1:Hid (Below (w.heap.size+1) (w.alloc (.cells #[.nilFunc,.nilFunc] 318)) y1):=H.mono (by simp);have rP:=au h2;have h6:=au H;clear h2 H
 go_wp2_with fail
 refine(oK _).mono ?_;rintro e y2 ⟨kD,j_,rfl,h3,I⟩;have C2:Hid (Below (w.heap.size+1) (w.alloc (.cells #[.nilFunc,.nilFunc] 318)) y2):=aT C1.out (by simp) I;have qQ:=au h3;have h5:=au I;clear h3 I
 go_wp2_with fail
 refine(gu 279 _).mono ?_;rintro e y3 ⟨uF,ug,rfl,h4,K⟩;have C3:Hid (Below (w.heap.size+1) (w.alloc (.cells #[.nilFunc,.nilFunc] 318)) y3):=aT C2.out (by simp) K;have uE:=au h4;have h0:=au K;clear h4 K
 go_wp2_with fail
 refine(gu 280 _).mono ?_;rintro e G ⟨V,X,rfl,Ay,O⟩;have C4:Hid (Below (w.heap.size+1) (w.alloc (.cells #[.nilFunc,.nilFunc] 318)) G):=aT C3.out (by simp) O;have Dz:=au Ay;have Lc:=au O;clear Ay O
 go_wp2_with fail
 refine(gF _ ⟨_,_,_,rfl⟩ _).mono ?_;rintro e z ⟨pb,rfl,mg,U⟩;have mh:aD G (G.alloc (.cells #[jV,Z,kD,j_,uF,ug,V,X] 318)):=(fB _ _).alloc (fA _) _;have CA:Below (w.heap.size+1) (w.alloc (.cells #[.nilFunc,.nilFunc] 318)) (G.alloc (.cells #[jV,Z,kD,j_,uF,ug,V,X] 318)):=aT C4.out (by simp) mh;have CZ:Below (w.heap.size+1) (w.alloc (.cells #[.nilFunc,.nilFunc] 318)) z:=aT CA (by simp) U;obtain⟨i0,i1,i2,i3⟩:=iM CZ;have hq:aA z G.heap.size 318 [jV,Z,kD,j_,uF,ug,V,X]:=(aA.new G 318 [jV,Z,kD,j_,uF,ug,V,X]).of_heap (U.block _ (by simp));have Q1:=au ((((((rP.out.below h5.out).below h0.out).below Lc.out).below mh).below U).mono (B0:=w.heap.size+1) (by simp));have Q2:=au (((((qQ.out.below h0.out).below Lc.out).below mh).below U).mono (B0:=w.heap.size+1) (by have:=C1.out.size;simp at this;omega));have Q3:=au ((((uE.out.below Lc.out).below mh).below U).mono (B0:=w.heap.size+1) (by have:=C2.out.size;simp at this;omega));have Q4:=au (((Dz.out.below mh).below U).mono (B0:=w.heap.size+1) (by have:=C3.out.size;simp at this;omega))
 have mo:w.heap.size+1<=G.heap.size:=by have:=C4.out.size;simp at this;omega
 have vH:=au (mg.mono (B0:=w.heap.size+1) (by simp;omega));have HQ:=au hq;have La:=au CZ;have vI:=au mo;clear mg hq CZ CA mh U mo
 go_wp2_with fail
 obtain⟨f1,f2⟩:=iL La.out (.func (.func 323) #[] #[ay pb 0]) (.func (.func 324) #[] #[ay pb 0]);refine bodyPost_ret (v:=.agg #[.func (.func 323) #[] #[ay pb 0],.func (.func 324) #[] #[ay pb 0]]) (by simp[results,results217,go_sem,i0,i1]) rfl ⟨_,_,rfl,⟨pb,G.heap.size,rfl,rfl,vH.out.of f2,vI.out,?_⟩,f1⟩;intro j hj;have F:aA _ G.heap.size 318 [jV,Z,kD,j_,uF,ug,V,X]:=HQ.out.of_heap (f2 _ vI.out)
 match j,hj with
 |0,_=>exact⟨jV,Z,F.cell 0,F.cell 1,Q1.out.of f2⟩
 |1,_=>exact⟨kD,j_,F.cell 2,F.cell 3,Q2.out.of f2⟩
 |2,_=>exact⟨uF,ug,F.cell 4,F.cell 5,Q3.out.of f2⟩
 |3,_=>exact⟨V,X,F.cell 6,F.cell 7,Q4.out.of f2⟩
 |(m+4),hm=>exact absurd hm (by simp)
theorem TJ(w:World):Calls prog 217 #[iZ 4] w fun e w'=>Laid w w' [(1,0),(2,0),(3,279),(4,0)] e:=by
 go_enter func217,ntmps217
 go_wp2_with fail
 refine(GV _).mono ?_;rintro e y1 ⟨jV,Z,rfl,h2,H⟩;have C1:Hid (Below (w.heap.size+1) (w.alloc (.cells #[.nilFunc,.nilFunc] 318)) y1):=H.mono (by simp);have rP:=au h2;have h6:=au H;clear h2 H
 go_wp2_with fail
 refine(oK _).mono ?_;rintro e y2 ⟨kD,j_,rfl,h3,I⟩;have C2:Hid (Below (w.heap.size+1) (w.alloc (.cells #[.nilFunc,.nilFunc] 318)) y2):=aT C1.out (by simp) I;have qQ:=au h3;have h5:=au I;clear h3 I
 go_wp2_with fail
 refine(gu 279 _).mono ?_;rintro e y3 ⟨uF,ug,rfl,h4,K⟩;have C3:Hid (Below (w.heap.size+1) (w.alloc (.cells #[.nilFunc,.nilFunc] 318)) y3):=aT C2.out (by simp) K;have uE:=au h4;have h0:=au K;clear h4 K
 go_wp2_with fail
 refine(Au _).mono ?_;rintro e G ⟨V,X,rfl,Ay,O⟩;have C4:Hid (Below (w.heap.size+1) (w.alloc (.cells #[.nilFunc,.nilFunc] 318)) G):=aT C3.out (by simp) O;have Dz:=au Ay;have Lc:=au O;clear Ay O
 go_wp2_with fail
 refine(gF _ ⟨_,_,_,rfl⟩ _).mono ?_;rintro e z ⟨pb,rfl,mg,U⟩;have mh:aD G (G.alloc (.cells #[jV,Z,kD,j_,uF,ug,V,X] 318)):=(fB _ _).alloc (fA _) _;have CA:Below (w.heap.size+1) (w.alloc (.cells #[.nilFunc,.nilFunc] 318)) (G.alloc (.cells #[jV,Z,kD,j_,uF,ug,V,X] 318)):=aT C4.out (by simp) mh;have CZ:Below (w.heap.size+1) (w.alloc (.cells #[.nilFunc,.nilFunc] 318)) z:=aT CA (by simp) U;obtain⟨i0,i1,i2,i3⟩:=iM CZ;have hq:aA z G.heap.size 318 [jV,Z,kD,j_,uF,ug,V,X]:=(aA.new G 318 [jV,Z,kD,j_,uF,ug,V,X]).of_heap (U.block _ (by simp));have Q1:=au ((((((rP.out.below h5.out).below h0.out).below Lc.out).below mh).below U).mono (B0:=w.heap.size+1) (by simp));have Q2:=au (((((qQ.out.below h0.out).below Lc.out).below mh).below U).mono (B0:=w.heap.size+1) (by have:=C1.out.size;simp at this;omega));have Q3:=au ((((uE.out.below Lc.out).below mh).below U).mono (B0:=w.heap.size+1) (by have:=C2.out.size;simp at this;omega));have Q4:=au (((Dz.out.below mh).below U).mono (B0:=w.heap.size+1) (by have:=C3.out.size;simp at this;omega))
 have mo:w.heap.size+1<=G.heap.size:=by have:=C4.out.size;simp at this;omega
 have vH:=au (mg.mono (B0:=w.heap.size+1) (by simp;omega));have HQ:=au hq;have La:=au CZ;have vI:=au mo;clear mg hq CZ CA mh U mo
 go_wp2_with fail
 obtain⟨f1,f2⟩:=iL La.out (.func (.func 323) #[] #[ay pb 0]) (.func (.func 324) #[] #[ay pb 0]);refine bodyPost_ret (v:=.agg #[.func (.func 323) #[] #[ay pb 0],.func (.func 324) #[] #[ay pb 0]]) (by simp[results,results217,go_sem,i0,i1]) rfl ⟨_,_,rfl,⟨pb,G.heap.size,rfl,rfl,vH.out.of f2,vI.out,?_⟩,f1⟩;intro j hj;have F:aA _ G.heap.size 318 [jV,Z,kD,j_,uF,ug,V,X]:=HQ.out.of_heap (f2 _ vI.out)
 match j,hj with
 |0,_=>exact⟨jV,Z,F.cell 0,F.cell 1,Q1.out.of f2⟩
 |1,_=>exact⟨kD,j_,F.cell 2,F.cell 3,Q2.out.of f2⟩
 |2,_=>exact⟨uF,ug,F.cell 4,F.cell 5,Q3.out.of f2⟩
 |3,_=>exact⟨V,X,F.cell 6,F.cell 7,Q4.out.of f2⟩
 |(m+4),hm=>exact absurd hm (by simp)
theorem TK(w:World):Calls prog 217 #[iZ 5] w fun e w'=>Laid w w' [(0,16),(3,283)] e:=by
 go_enter func217,ntmps217
 go_wp2_with fail
 refine(gW 16 _ rfl _).mono ?_;rintro e y1 ⟨K,I,rfl,V,G⟩;have C1:Hid (Below (w.heap.size+1) (w.alloc (.cells #[.nilFunc,.nilFunc] 318)) y1):=G.mono (by simp);have rP:=au V;have h2:=au G;clear V G
 go_wp2_with fail
 refine(gu 283 _).mono ?_;rintro e y2 ⟨U,O,rfl,X,H⟩;have C2:Hid (Below (w.heap.size+1) (w.alloc (.cells #[.nilFunc,.nilFunc] 318)) y2):=aT C1.out (by simp) H;have qQ:=au X;have h0:=au H;clear X H
 go_wp2_with fail
 refine(gF _ ⟨_,_,_,rfl⟩ _).mono ?_;rintro e z ⟨pb,rfl,mg,Z⟩;have mh:aD y2 (y2.alloc (.cells #[K,I,U,O] 318)):=(fB _ _).alloc (fA _) _;have CA:Below (w.heap.size+1) (w.alloc (.cells #[.nilFunc,.nilFunc] 318)) (y2.alloc (.cells #[K,I,U,O] 318)):=aT C2.out (by simp) mh;have CZ:Below (w.heap.size+1) (w.alloc (.cells #[.nilFunc,.nilFunc] 318)) z:=aT CA (by simp) Z;obtain⟨i0,i1,i2,i3⟩:=iM CZ;have hq:aA z y2.heap.size 318 [K,I,U,O]:=(aA.new y2 318 [K,I,U,O]).of_heap (Z.block _ (by simp));have Q1:=au ((((rP.out.below h0.out).below mh).below Z).mono (B0:=w.heap.size+1) (by simp));have Q2:=au (((qQ.out.below mh).below Z).mono (B0:=w.heap.size+1) (by have:=C1.out.size;simp at this;omega))
 have mo:w.heap.size+1<=y2.heap.size:=by have:=C2.out.size;simp at this;omega
 have vH:=au (mg.mono (B0:=w.heap.size+1) (by simp;omega));have HQ:=au hq;have La:=au CZ;have vI:=au mo;clear mg hq CZ CA mh Z mo
 go_wp2_with fail
 obtain⟨f1,f2⟩:=iL La.out (.func (.func 323) #[] #[ay pb 0]) (.func (.func 324) #[] #[ay pb 0]);refine bodyPost_ret (v:=.agg #[.func (.func 323) #[] #[ay pb 0],.func (.func 324) #[] #[ay pb 0]]) (by simp[results,results217,go_sem,i0,i1]) rfl ⟨_,_,rfl,⟨pb,y2.heap.size,rfl,rfl,vH.out.of f2,vI.out,?_⟩,f1⟩;intro j hj;have F:aA _ y2.heap.size 318 [K,I,U,O]:=HQ.out.of_heap (f2 _ vI.out)
 match j,hj with
 |0,_=>exact⟨K,I,F.cell 0,F.cell 1,Q1.out.of f2⟩
 |1,_=>exact⟨U,O,F.cell 2,F.cell 3,Q2.out.of f2⟩
 |(m+2),hm=>exact absurd hm (by simp)
theorem TL(w:World):Calls prog 217 #[iZ 6] w fun e w'=>Laid w w' [(0,17),(2,0),(3,283)] e:=by
 go_enter func217,ntmps217
 go_wp2_with fail
 refine(gW 17 _ rfl _).mono ?_;rintro e y1 ⟨U,O,rfl,h2,H⟩;have C1:Hid (Below (w.heap.size+1) (w.alloc (.cells #[.nilFunc,.nilFunc] 318)) y1):=H.mono (by simp);have rP:=au h2;have h6:=au H;clear h2 H
 go_wp2_with fail
 refine(oK _).mono ?_;rintro e y2 ⟨Z,V,rfl,h3,I⟩;have C2:Hid (Below (w.heap.size+1) (w.alloc (.cells #[.nilFunc,.nilFunc] 318)) y2):=aT C1.out (by simp) I;have qQ:=au h3;have h5:=au I;clear h3 I
 go_wp2_with fail
 refine(gu 283 _).mono ?_;rintro e G ⟨uF,ug,rfl,h4,K⟩;have C3:Hid (Below (w.heap.size+1) (w.alloc (.cells #[.nilFunc,.nilFunc] 318)) G):=aT C2.out (by simp) K;have uE:=au h4;have h0:=au K;clear h4 K
 go_wp2_with fail
 refine(gF _ ⟨_,_,_,rfl⟩ _).mono ?_;rintro e z ⟨pb,rfl,mg,X⟩;have mh:aD G (G.alloc (.cells #[U,O,Z,V,uF,ug] 318)):=(fB _ _).alloc (fA _) _;have CA:Below (w.heap.size+1) (w.alloc (.cells #[.nilFunc,.nilFunc] 318)) (G.alloc (.cells #[U,O,Z,V,uF,ug] 318)):=aT C3.out (by simp) mh;have CZ:Below (w.heap.size+1) (w.alloc (.cells #[.nilFunc,.nilFunc] 318)) z:=aT CA (by simp) X;obtain⟨i0,i1,i2,i3⟩:=iM CZ;have hq:aA z G.heap.size 318 [U,O,Z,V,uF,ug]:=(aA.new G 318 [U,O,Z,V,uF,ug]).of_heap (X.block _ (by simp));have Q1:=au (((((rP.out.below h5.out).below h0.out).below mh).below X).mono (B0:=w.heap.size+1) (by simp));have Q2:=au ((((qQ.out.below h0.out).below mh).below X).mono (B0:=w.heap.size+1) (by have:=C1.out.size;simp at this;omega));have Q3:=au (((uE.out.below mh).below X).mono (B0:=w.heap.size+1) (by have:=C2.out.size;simp at this;omega))
 have mo:w.heap.size+1<=G.heap.size:=by have:=C3.out.size;simp at this;omega
 have vH:=au (mg.mono (B0:=w.heap.size+1) (by simp;omega));have HQ:=au hq;have La:=au CZ;have vI:=au mo;clear mg hq CZ CA mh X mo
 go_wp2_with fail
 obtain⟨f1,f2⟩:=iL La.out (.func (.func 323) #[] #[ay pb 0]) (.func (.func 324) #[] #[ay pb 0]);refine bodyPost_ret (v:=.agg #[.func (.func 323) #[] #[ay pb 0],.func (.func 324) #[] #[ay pb 0]]) (by simp[results,results217,go_sem,i0,i1]) rfl ⟨_,_,rfl,⟨pb,G.heap.size,rfl,rfl,vH.out.of f2,vI.out,?_⟩,f1⟩;intro j hj;have F:aA _ G.heap.size 318 [U,O,Z,V,uF,ug]:=HQ.out.of_heap (f2 _ vI.out)
 match j,hj with
 |0,_=>exact⟨U,O,F.cell 0,F.cell 1,Q1.out.of f2⟩
 |1,_=>exact⟨Z,V,F.cell 2,F.cell 3,Q2.out.of f2⟩
 |2,_=>exact⟨uF,ug,F.cell 4,F.cell 5,Q3.out.of f2⟩
 |(m+3),hm=>exact absurd hm (by simp)
theorem TM(w:World):Calls prog 217 #[iZ 7] w fun e w'=>Laid w w' [(0,48),(3,284),(3,285),(4,0)] e:=by
 go_enter func217,ntmps217
 go_wp2_with fail
 refine(gW 48 _ rfl _).mono ?_;rintro e y1 ⟨jV,Z,rfl,h2,H⟩;have C1:Hid (Below (w.heap.size+1) (w.alloc (.cells #[.nilFunc,.nilFunc] 318)) y1):=H.mono (by simp);have rP:=au h2;have h6:=au H;clear h2 H
 go_wp2_with fail
 refine(gu 284 _).mono ?_;rintro e y2 ⟨kD,j_,rfl,h3,I⟩;have C2:Hid (Below (w.heap.size+1) (w.alloc (.cells #[.nilFunc,.nilFunc] 318)) y2):=aT C1.out (by simp) I;have qQ:=au h3;have h5:=au I;clear h3 I
 go_wp2_with fail
 refine(gu 285 _).mono ?_;rintro e y3 ⟨uF,ug,rfl,h4,K⟩;have C3:Hid (Below (w.heap.size+1) (w.alloc (.cells #[.nilFunc,.nilFunc] 318)) y3):=aT C2.out (by simp) K;have uE:=au h4;have h0:=au K;clear h4 K
 go_wp2_with fail
 refine(Au _).mono ?_;rintro e G ⟨V,X,rfl,Ay,O⟩;have C4:Hid (Below (w.heap.size+1) (w.alloc (.cells #[.nilFunc,.nilFunc] 318)) G):=aT C3.out (by simp) O;have Dz:=au Ay;have Lc:=au O;clear Ay O
 go_wp2_with fail
 refine(gF _ ⟨_,_,_,rfl⟩ _).mono ?_;rintro e z ⟨pb,rfl,mg,U⟩;have mh:aD G (G.alloc (.cells #[jV,Z,kD,j_,uF,ug,V,X] 318)):=(fB _ _).alloc (fA _) _;have CA:Below (w.heap.size+1) (w.alloc (.cells #[.nilFunc,.nilFunc] 318)) (G.alloc (.cells #[jV,Z,kD,j_,uF,ug,V,X] 318)):=aT C4.out (by simp) mh;have CZ:Below (w.heap.size+1) (w.alloc (.cells #[.nilFunc,.nilFunc] 318)) z:=aT CA (by simp) U;obtain⟨i0,i1,i2,i3⟩:=iM CZ;have hq:aA z G.heap.size 318 [jV,Z,kD,j_,uF,ug,V,X]:=(aA.new G 318 [jV,Z,kD,j_,uF,ug,V,X]).of_heap (U.block _ (by simp));have Q1:=au ((((((rP.out.below h5.out).below h0.out).below Lc.out).below mh).below U).mono (B0:=w.heap.size+1) (by simp));have Q2:=au (((((qQ.out.below h0.out).below Lc.out).below mh).below U).mono (B0:=w.heap.size+1) (by have:=C1.out.size;simp at this;omega));have Q3:=au ((((uE.out.below Lc.out).below mh).below U).mono (B0:=w.heap.size+1) (by have:=C2.out.size;simp at this;omega));have Q4:=au (((Dz.out.below mh).below U).mono (B0:=w.heap.size+1) (by have:=C3.out.size;simp at this;omega))
 have mo:w.heap.size+1<=G.heap.size:=by have:=C4.out.size;simp at this;omega
 have vH:=au (mg.mono (B0:=w.heap.size+1) (by simp;omega));have HQ:=au hq;have La:=au CZ;have vI:=au mo;clear mg hq CZ CA mh U mo
 go_wp2_with fail
 obtain⟨f1,f2⟩:=iL La.out (.func (.func 323) #[] #[ay pb 0]) (.func (.func 324) #[] #[ay pb 0]);refine bodyPost_ret (v:=.agg #[.func (.func 323) #[] #[ay pb 0],.func (.func 324) #[] #[ay pb 0]]) (by simp[results,results217,go_sem,i0,i1]) rfl ⟨_,_,rfl,⟨pb,G.heap.size,rfl,rfl,vH.out.of f2,vI.out,?_⟩,f1⟩;intro j hj;have F:aA _ G.heap.size 318 [jV,Z,kD,j_,uF,ug,V,X]:=HQ.out.of_heap (f2 _ vI.out)
 match j,hj with
 |0,_=>exact⟨jV,Z,F.cell 0,F.cell 1,Q1.out.of f2⟩
 |1,_=>exact⟨kD,j_,F.cell 2,F.cell 3,Q2.out.of f2⟩
 |2,_=>exact⟨uF,ug,F.cell 4,F.cell 5,Q3.out.of f2⟩
 |3,_=>exact⟨V,X,F.cell 6,F.cell 7,Q4.out.of f2⟩
 |(m+4),hm=>exact absurd hm (by simp)
theorem TP(w:World):Calls prog 217 #[iZ 8] w fun e w'=>Laid w w' [(0,28),(3,283)] e:=by
 go_enter func217,ntmps217
 go_wp2_with fail
 refine(gW 28 _ rfl _).mono ?_;rintro e y1 ⟨K,I,rfl,V,G⟩;have C1:Hid (Below (w.heap.size+1) (w.alloc (.cells #[.nilFunc,.nilFunc] 318)) y1):=G.mono (by simp);have rP:=au V;have h2:=au G;clear V G
 go_wp2_with fail
 refine(gu 283 _).mono ?_;rintro e y2 ⟨U,O,rfl,X,H⟩;have C2:Hid (Below (w.heap.size+1) (w.alloc (.cells #[.nilFunc,.nilFunc] 318)) y2):=aT C1.out (by simp) H;have qQ:=au X;have h0:=au H;clear X H
 go_wp2_with fail
 refine(gF _ ⟨_,_,_,rfl⟩ _).mono ?_;rintro e z ⟨pb,rfl,mg,Z⟩;have mh:aD y2 (y2.alloc (.cells #[K,I,U,O] 318)):=(fB _ _).alloc (fA _) _;have CA:Below (w.heap.size+1) (w.alloc (.cells #[.nilFunc,.nilFunc] 318)) (y2.alloc (.cells #[K,I,U,O] 318)):=aT C2.out (by simp) mh;have CZ:Below (w.heap.size+1) (w.alloc (.cells #[.nilFunc,.nilFunc] 318)) z:=aT CA (by simp) Z;obtain⟨i0,i1,i2,i3⟩:=iM CZ;have hq:aA z y2.heap.size 318 [K,I,U,O]:=(aA.new y2 318 [K,I,U,O]).of_heap (Z.block _ (by simp));have Q1:=au ((((rP.out.below h0.out).below mh).below Z).mono (B0:=w.heap.size+1) (by simp));have Q2:=au (((qQ.out.below mh).below Z).mono (B0:=w.heap.size+1) (by have:=C1.out.size;simp at this;omega))
 have mo:w.heap.size+1<=y2.heap.size:=by have:=C2.out.size;simp at this;omega
 have vH:=au (mg.mono (B0:=w.heap.size+1) (by simp;omega));have HQ:=au hq;have La:=au CZ;have vI:=au mo;clear mg hq CZ CA mh Z mo
 go_wp2_with fail
 obtain⟨f1,f2⟩:=iL La.out (.func (.func 323) #[] #[ay pb 0]) (.func (.func 324) #[] #[ay pb 0]);refine bodyPost_ret (v:=.agg #[.func (.func 323) #[] #[ay pb 0],.func (.func 324) #[] #[ay pb 0]]) (by simp[results,results217,go_sem,i0,i1]) rfl ⟨_,_,rfl,⟨pb,y2.heap.size,rfl,rfl,vH.out.of f2,vI.out,?_⟩,f1⟩;intro j hj;have F:aA _ y2.heap.size 318 [K,I,U,O]:=HQ.out.of_heap (f2 _ vI.out)
 match j,hj with
 |0,_=>exact⟨K,I,F.cell 0,F.cell 1,Q1.out.of f2⟩
 |1,_=>exact⟨U,O,F.cell 2,F.cell 3,Q2.out.of f2⟩
 |(m+2),hm=>exact absurd hm (by simp)
