import Derived.Test.YtphbledmopchnaaGreatDoorKab
import Derived.Laws.Rows
open Go.RowKit.Below renaming refl->nI,heap_setCell->Gl
open Bool renaming and_eq_true->DJ
open List renaming getElem?_cons_succ->tT,getElem?_cons_zero->uj,getD_eq_getElem?_getD->wz,getElem?_eq_getElem->Bu,length_append->CK,getElem_mem->Kt
open Nat renaming le_refl->jK,zero_add->mR
open Go.World renaming block_lt_of_cell?->tL
set_option maxHeartbeats 1000000
set_option maxRecDepth 100000
namespace Go.Proofs.YtphbledmopchnaaGreatDoor
open Go.RowKit Go.Lib Go.Shelf Mm Tryz
theorem J4.of{B0:Nat}{w w':World}{xb:Nat}{v:Value}(h:J4 B0 w xb v)(e:∀k,B0<=k->w'.heap[k]?=w.heap[k]?):J4 B0 w' xb v:=⟨h.1,cell_of h.2 (e xb h.1)⟩
theorem fF.of{B0:Nat}{w w':World}{F:Nat×Nat}{I fr:Value}(h:fF B0 w F I fr)(e:∀k,B0<=k->w'.heap[k]?=w.heap[k]?):fF B0 w' F I fr:=by
 rcases h with⟨h,xb,H,G⟩|h|h|⟨h,xb,H,G⟩|h|h
 ·exact .inl ⟨h,xb,H.of e,G⟩
 ·exact .inr (.inl h)
 ·exact .inr (.inr (.inl h))
 ·exact .inr (.inr (.inr (.inl ⟨h,xb,H.of e,G⟩)))
 ·exact .inr (.inr (.inr (.inr (.inl h))))
 ·exact .inr (.inr (.inr (.inr (.inr h))))
def Nb(B0:Nat)(w:World)(F:List (Nat×Nat))(G fr:Value):Prop:=
 ∃pb H,G=.func (.func 323) #[] #[.pointer (some ⟨pb,0,none⟩)]/\fr=.func (.func 324) #[] #[.pointer (some ⟨pb,0,none⟩)]/\J4 B0 w pb (.slice (some ⟨H,0,none⟩) F.length F.length)/\B0<=H/\
  ∀j,j<F.length->∃G fr,w.cell? ⟨H,j*2,none⟩=some G/\w.cell? ⟨H,j*2+1,none⟩=some fr/\fF B0 w (F.getD j (0,0)) G fr
def Laid(w w':World)(F:List (Nat×Nat))(e:Ending):Prop:=∃G fr,e=.returned (.agg #[G,fr])/\Nb (w.heap.size+1) w' F G fr/\Below w.heap.size w w'
theorem gW{w y:World}{Z:Obj}(h:Below (w.heap.size+1) (w.alloc Z) y)(a b:Value):
  Below w.heap.size w ((y.setCell ⟨w.heap.size,0,none⟩ a).setCell ⟨w.heap.size,1,none⟩ b)/\∀k,w.heap.size+1<=k->((y.setCell ⟨w.heap.size,0,none⟩ a).setCell ⟨w.heap.size,1,none⟩ b).heap[k]?=y.heap[k]?:=by
 refine⟨?_,fun k F=>?_⟩
 ·have h1:Below w.heap.size w y:=((nI _ w).alloc (jK _) Z).trans (h.mono (by omega));exact(h1.setCell (p:=⟨w.heap.size,0,none⟩) (jK _) a).setCell (p:=⟨w.heap.size,1,none⟩) (jK _) b
 ·rw[Gl _ _ _ _ (by simp;omega),Gl _ _ _ _ (by simp;omega)]
theorem gy(x:Nat)(X:Int)(F:X=(x:Int))(w:World):Calls prog 274 #[.int .u8 X] w fun e w'=>Made w w' (0,x) e:=by
 subst F;exact FH x w
theorem aM{B:Nat}{F y y':World}(h:Below B F y)(hB:B<=F.heap.size)(G:Below y.heap.size y y'):Below B F y':=h.trans (G.mono (Nat.le_trans hB h.size))
theorem gX{w z:World}(h:Below (w.heap.size+1) (w.alloc (.cells #[.nilFunc,.nilFunc] 318)) z):
  z.cell? ⟨w.heap.size,0,none⟩=some .nilFunc/\z.cell? ⟨w.heap.size,1,none⟩=some .nilFunc/\z.frozen? ⟨w.heap.size,0,none⟩=false/\z.frozen? ⟨w.heap.size,1,none⟩=false:=by
 have hb:ak z w.heap.size 318 [.nilFunc,.nilFunc]:=(ak.new w 318 [.nilFunc,.nilFunc]).of_heap (h.block _ (by omega));exact⟨hb.cell 0,hb.cell 1,hb.frozen 0,hb.frozen 1⟩
theorem RA(w:World):Calls prog 217 #[.int .i64 2] w fun e w'=>Laid w w' [(0,2),(5,0)] e:=by
 go_enter func217,ntmps217
 go_wp2_with fail
 refine(gy 2 _ rfl _).mono ?_;rintro e y1 ⟨X,V,rfl,Z,H⟩;have C1:Hid (Below (w.heap.size+1) (w.alloc (.cells #[.nilFunc,.nilFunc] 318)) y1):=H.mono (by simp);have qB:=hid Z;have h3:=hid H;clear Z H
 go_wp2_with fail
 refine(CQ _).mono ?_;rintro e F ⟨U,O,rfl,h0,I⟩;have C2:Hid (Below (w.heap.size+1) (w.alloc (.cells #[.nilFunc,.nilFunc] 318)) F):=aM C1.out (by simp) I;have pJ:=hid h0;have h2:=hid I;clear h0 I
 go_wp2_with fail
 refine(fG _ ⟨_,_,_,rfl⟩ _).mono ?_;rintro e z ⟨pb,rfl,kS,iC⟩;have kU:Below F.heap.size F (F.alloc (.cells #[X,V,U,O] 318)):=(nI _ _).alloc (jK _) _;have CA:Below (w.heap.size+1) (w.alloc (.cells #[.nilFunc,.nilFunc] 318)) (F.alloc (.cells #[X,V,U,O] 318)):=aM C2.out (by simp) kU;have CZ:Below (w.heap.size+1) (w.alloc (.cells #[.nilFunc,.nilFunc] 318)) z:=aM CA (by simp) iC;obtain⟨i0,i1,i2,i3⟩:=gX CZ;have hq:ak z F.heap.size 318 [X,V,U,O]:=(ak.new F 318 [X,V,U,O]).of_heap (iC.block _ (by simp));have Q1:=hid ((((qB.out.below h2.out).below kU).below iC).mono (B0:=w.heap.size+1) (by simp));have Q2:=hid (((pJ.out.below kU).below iC).mono (B0:=w.heap.size+1) (by have:=C1.out.size;simp at this;omega))
 have kV:w.heap.size+1<=F.heap.size:=by have:=C2.out.size;simp at this;omega
 have uE:=hid (kS.mono (B0:=w.heap.size+1) (by simp;omega));have HQ:=hid hq;have J5:=hid CZ;have uF:=hid kV;clear kS hq CZ CA kU iC kV
 go_wp2_with fail
 obtain⟨f1,f2⟩:=gW J5.out (.func (.func 323) #[] #[.pointer (some ⟨pb,0,none⟩)]) (.func (.func 324) #[] #[.pointer (some ⟨pb,0,none⟩)]);refine bodyPost_ret (v:=.agg #[.func (.func 323) #[] #[.pointer (some ⟨pb,0,none⟩)],.func (.func 324) #[] #[.pointer (some ⟨pb,0,none⟩)]]) (by simp[results,results217,go_sem,i0,i1]) rfl ⟨_,_,rfl,⟨pb,F.heap.size,rfl,rfl,uE.out.of f2,uF.out,?_⟩,f1⟩;intro j hj;have G:ak _ F.heap.size 318 [X,V,U,O]:=HQ.out.of_heap (f2 _ uF.out)
 match j,hj with
 |0,_=>exact⟨X,V,G.cell 0,G.cell 1,Q1.out.of f2⟩
 |1,_=>exact⟨U,O,G.cell 2,G.cell 3,Q2.out.of f2⟩
 |(m+2),hm=>exact absurd hm (by simp)
theorem RB(w:World):Calls prog 217 #[.int .i64 3] w fun e w'=>Laid w w' [(0,36),(2,0),(3,279),(3,280)] e:=by
 go_enter func217,ntmps217
 go_wp2_with fail
 refine(gy 36 _ rfl _).mono ?_;rintro e y1 ⟨jw,jg,rfl,h2,H⟩;have C1:Hid (Below (w.heap.size+1) (w.alloc (.cells #[.nilFunc,.nilFunc] 318)) y1):=H.mono (by simp);have qB:=hid h2;have h6:=hid H;clear h2 H
 go_wp2_with fail
 refine(nJ _).mono ?_;rintro e y2 ⟨Z,X,rfl,h3,I⟩;have C2:Hid (Below (w.heap.size+1) (w.alloc (.cells #[.nilFunc,.nilFunc] 318)) y2):=aM C1.out (by simp) I;have pJ:=hid h3;have h5:=hid I;clear h3 I
 go_wp2_with fail
 refine(fC 279 _).mono ?_;rintro e y3 ⟨sO,sD,rfl,h4,O⟩;have C3:Hid (Below (w.heap.size+1) (w.alloc (.cells #[.nilFunc,.nilFunc] 318)) y3):=aM C2.out (by simp) O;have sN:=hid h4;have h0:=hid O;clear h4 O
 go_wp2_with fail
 refine(fC 280 _).mono ?_;rintro e G ⟨zy,zA,rfl,zB,U⟩;have C4:Hid (Below (w.heap.size+1) (w.alloc (.cells #[.nilFunc,.nilFunc] 318)) G):=aM C3.out (by simp) U;have Cu:=hid zB;have J6:=hid U;clear zB U
 go_wp2_with fail
 refine(fG _ ⟨_,_,_,rfl⟩ _).mono ?_;rintro e z ⟨pb,rfl,kS,V⟩;have kU:Below G.heap.size G (G.alloc (.cells #[jw,jg,Z,X,sO,sD,zy,zA] 318)):=(nI _ _).alloc (jK _) _;have CA:Below (w.heap.size+1) (w.alloc (.cells #[.nilFunc,.nilFunc] 318)) (G.alloc (.cells #[jw,jg,Z,X,sO,sD,zy,zA] 318)):=aM C4.out (by simp) kU;have CZ:Below (w.heap.size+1) (w.alloc (.cells #[.nilFunc,.nilFunc] 318)) z:=aM CA (by simp) V;obtain⟨i0,i1,i2,i3⟩:=gX CZ;have hq:ak z G.heap.size 318 [jw,jg,Z,X,sO,sD,zy,zA]:=(ak.new G 318 [jw,jg,Z,X,sO,sD,zy,zA]).of_heap (V.block _ (by simp));have Q1:=hid ((((((qB.out.below h5.out).below h0.out).below J6.out).below kU).below V).mono (B0:=w.heap.size+1) (by simp));have Q2:=hid (((((pJ.out.below h0.out).below J6.out).below kU).below V).mono (B0:=w.heap.size+1) (by have:=C1.out.size;simp at this;omega));have Q3:=hid ((((sN.out.below J6.out).below kU).below V).mono (B0:=w.heap.size+1) (by have:=C2.out.size;simp at this;omega));have Q4:=hid (((Cu.out.below kU).below V).mono (B0:=w.heap.size+1) (by have:=C3.out.size;simp at this;omega))
 have kV:w.heap.size+1<=G.heap.size:=by have:=C4.out.size;simp at this;omega
 have uE:=hid (kS.mono (B0:=w.heap.size+1) (by simp;omega));have HQ:=hid hq;have J5:=hid CZ;have uF:=hid kV;clear kS hq CZ CA kU V kV
 go_wp2_with fail
 obtain⟨f1,f2⟩:=gW J5.out (.func (.func 323) #[] #[.pointer (some ⟨pb,0,none⟩)]) (.func (.func 324) #[] #[.pointer (some ⟨pb,0,none⟩)]);refine bodyPost_ret (v:=.agg #[.func (.func 323) #[] #[.pointer (some ⟨pb,0,none⟩)],.func (.func 324) #[] #[.pointer (some ⟨pb,0,none⟩)]]) (by simp[results,results217,go_sem,i0,i1]) rfl ⟨_,_,rfl,⟨pb,G.heap.size,rfl,rfl,uE.out.of f2,uF.out,?_⟩,f1⟩;intro j hj;have F:ak _ G.heap.size 318 [jw,jg,Z,X,sO,sD,zy,zA]:=HQ.out.of_heap (f2 _ uF.out)
 match j,hj with
 |0,_=>exact⟨jw,jg,F.cell 0,F.cell 1,Q1.out.of f2⟩
 |1,_=>exact⟨Z,X,F.cell 2,F.cell 3,Q2.out.of f2⟩
 |2,_=>exact⟨sO,sD,F.cell 4,F.cell 5,Q3.out.of f2⟩
 |3,_=>exact⟨zy,zA,F.cell 6,F.cell 7,Q4.out.of f2⟩
 |(m+4),hm=>exact absurd hm (by simp)
theorem RF(w:World):Calls prog 217 #[.int .i64 4] w fun e w'=>Laid w w' [(1,0),(2,0),(3,279),(4,0)] e:=by
 go_enter func217,ntmps217
 go_wp2_with fail
 refine(FI _).mono ?_;rintro e y1 ⟨jw,jg,rfl,h2,H⟩;have C1:Hid (Below (w.heap.size+1) (w.alloc (.cells #[.nilFunc,.nilFunc] 318)) y1):=H.mono (by simp);have qB:=hid h2;have h6:=hid H;clear h2 H
 go_wp2_with fail
 refine(nJ _).mono ?_;rintro e y2 ⟨Z,X,rfl,h3,I⟩;have C2:Hid (Below (w.heap.size+1) (w.alloc (.cells #[.nilFunc,.nilFunc] 318)) y2):=aM C1.out (by simp) I;have pJ:=hid h3;have h5:=hid I;clear h3 I
 go_wp2_with fail
 refine(fC 279 _).mono ?_;rintro e y3 ⟨sO,sD,rfl,h4,O⟩;have C3:Hid (Below (w.heap.size+1) (w.alloc (.cells #[.nilFunc,.nilFunc] 318)) y3):=aM C2.out (by simp) O;have sN:=hid h4;have h0:=hid O;clear h4 O
 go_wp2_with fail
 refine(zx _).mono ?_;rintro e G ⟨zy,zA,rfl,zB,U⟩;have C4:Hid (Below (w.heap.size+1) (w.alloc (.cells #[.nilFunc,.nilFunc] 318)) G):=aM C3.out (by simp) U;have Cu:=hid zB;have J6:=hid U;clear zB U
 go_wp2_with fail
 refine(fG _ ⟨_,_,_,rfl⟩ _).mono ?_;rintro e z ⟨pb,rfl,kS,V⟩;have kU:Below G.heap.size G (G.alloc (.cells #[jw,jg,Z,X,sO,sD,zy,zA] 318)):=(nI _ _).alloc (jK _) _;have CA:Below (w.heap.size+1) (w.alloc (.cells #[.nilFunc,.nilFunc] 318)) (G.alloc (.cells #[jw,jg,Z,X,sO,sD,zy,zA] 318)):=aM C4.out (by simp) kU;have CZ:Below (w.heap.size+1) (w.alloc (.cells #[.nilFunc,.nilFunc] 318)) z:=aM CA (by simp) V;obtain⟨i0,i1,i2,i3⟩:=gX CZ;have hq:ak z G.heap.size 318 [jw,jg,Z,X,sO,sD,zy,zA]:=(ak.new G 318 [jw,jg,Z,X,sO,sD,zy,zA]).of_heap (V.block _ (by simp));have Q1:=hid ((((((qB.out.below h5.out).below h0.out).below J6.out).below kU).below V).mono (B0:=w.heap.size+1) (by simp));have Q2:=hid (((((pJ.out.below h0.out).below J6.out).below kU).below V).mono (B0:=w.heap.size+1) (by have:=C1.out.size;simp at this;omega));have Q3:=hid ((((sN.out.below J6.out).below kU).below V).mono (B0:=w.heap.size+1) (by have:=C2.out.size;simp at this;omega));have Q4:=hid (((Cu.out.below kU).below V).mono (B0:=w.heap.size+1) (by have:=C3.out.size;simp at this;omega))
 have kV:w.heap.size+1<=G.heap.size:=by have:=C4.out.size;simp at this;omega
 have uE:=hid (kS.mono (B0:=w.heap.size+1) (by simp;omega));have HQ:=hid hq;have J5:=hid CZ;have uF:=hid kV;clear kS hq CZ CA kU V kV
 go_wp2_with fail
 obtain⟨f1,f2⟩:=gW J5.out (.func (.func 323) #[] #[.pointer (some ⟨pb,0,none⟩)]) (.func (.func 324) #[] #[.pointer (some ⟨pb,0,none⟩)]);refine bodyPost_ret (v:=.agg #[.func (.func 323) #[] #[.pointer (some ⟨pb,0,none⟩)],.func (.func 324) #[] #[.pointer (some ⟨pb,0,none⟩)]]) (by simp[results,results217,go_sem,i0,i1]) rfl ⟨_,_,rfl,⟨pb,G.heap.size,rfl,rfl,uE.out.of f2,uF.out,?_⟩,f1⟩;intro j hj;have F:ak _ G.heap.size 318 [jw,jg,Z,X,sO,sD,zy,zA]:=HQ.out.of_heap (f2 _ uF.out)
 match j,hj with
 |0,_=>exact⟨jw,jg,F.cell 0,F.cell 1,Q1.out.of f2⟩
 |1,_=>exact⟨Z,X,F.cell 2,F.cell 3,Q2.out.of f2⟩
 |2,_=>exact⟨sO,sD,F.cell 4,F.cell 5,Q3.out.of f2⟩
 |3,_=>exact⟨zy,zA,F.cell 6,F.cell 7,Q4.out.of f2⟩
 |(m+4),hm=>exact absurd hm (by simp)
theorem RG(w:World):Calls prog 217 #[.int .i64 5] w fun e w'=>Laid w w' [(0,16),(3,283)] e:=by
 go_enter func217,ntmps217
 go_wp2_with fail
 refine(gy 16 _ rfl _).mono ?_;rintro e y1 ⟨X,V,rfl,Z,H⟩;have C1:Hid (Below (w.heap.size+1) (w.alloc (.cells #[.nilFunc,.nilFunc] 318)) y1):=H.mono (by simp);have qB:=hid Z;have h3:=hid H;clear Z H
 go_wp2_with fail
 refine(fC 283 _).mono ?_;rintro e F ⟨U,O,rfl,h0,I⟩;have C2:Hid (Below (w.heap.size+1) (w.alloc (.cells #[.nilFunc,.nilFunc] 318)) F):=aM C1.out (by simp) I;have pJ:=hid h0;have h2:=hid I;clear h0 I
 go_wp2_with fail
 refine(fG _ ⟨_,_,_,rfl⟩ _).mono ?_;rintro e z ⟨pb,rfl,kS,iC⟩;have kU:Below F.heap.size F (F.alloc (.cells #[X,V,U,O] 318)):=(nI _ _).alloc (jK _) _;have CA:Below (w.heap.size+1) (w.alloc (.cells #[.nilFunc,.nilFunc] 318)) (F.alloc (.cells #[X,V,U,O] 318)):=aM C2.out (by simp) kU;have CZ:Below (w.heap.size+1) (w.alloc (.cells #[.nilFunc,.nilFunc] 318)) z:=aM CA (by simp) iC;obtain⟨i0,i1,i2,i3⟩:=gX CZ;have hq:ak z F.heap.size 318 [X,V,U,O]:=(ak.new F 318 [X,V,U,O]).of_heap (iC.block _ (by simp));have Q1:=hid ((((qB.out.below h2.out).below kU).below iC).mono (B0:=w.heap.size+1) (by simp));have Q2:=hid (((pJ.out.below kU).below iC).mono (B0:=w.heap.size+1) (by have:=C1.out.size;simp at this;omega))
 have kV:w.heap.size+1<=F.heap.size:=by have:=C2.out.size;simp at this;omega
 have uE:=hid (kS.mono (B0:=w.heap.size+1) (by simp;omega));have HQ:=hid hq;have J5:=hid CZ;have uF:=hid kV;clear kS hq CZ CA kU iC kV
 go_wp2_with fail
 obtain⟨f1,f2⟩:=gW J5.out (.func (.func 323) #[] #[.pointer (some ⟨pb,0,none⟩)]) (.func (.func 324) #[] #[.pointer (some ⟨pb,0,none⟩)]);refine bodyPost_ret (v:=.agg #[.func (.func 323) #[] #[.pointer (some ⟨pb,0,none⟩)],.func (.func 324) #[] #[.pointer (some ⟨pb,0,none⟩)]]) (by simp[results,results217,go_sem,i0,i1]) rfl ⟨_,_,rfl,⟨pb,F.heap.size,rfl,rfl,uE.out.of f2,uF.out,?_⟩,f1⟩;intro j hj;have G:ak _ F.heap.size 318 [X,V,U,O]:=HQ.out.of_heap (f2 _ uF.out)
 match j,hj with
 |0,_=>exact⟨X,V,G.cell 0,G.cell 1,Q1.out.of f2⟩
 |1,_=>exact⟨U,O,G.cell 2,G.cell 3,Q2.out.of f2⟩
 |(m+2),hm=>exact absurd hm (by simp)
theorem RH(w:World):Calls prog 217 #[.int .i64 6] w fun e w'=>Laid w w' [(0,17),(2,0),(3,283)] e:=by
 go_enter func217,ntmps217
 go_wp2_with fail
 refine(gy 17 _ rfl _).mono ?_;rintro e y1 ⟨jw,Z,rfl,h2,H⟩;have C1:Hid (Below (w.heap.size+1) (w.alloc (.cells #[.nilFunc,.nilFunc] 318)) y1):=H.mono (by simp);have qB:=hid h2;have h6:=hid H;clear h2 H
 go_wp2_with fail
 refine(nJ _).mono ?_;rintro e y2 ⟨X,V,rfl,h3,I⟩;have C2:Hid (Below (w.heap.size+1) (w.alloc (.cells #[.nilFunc,.nilFunc] 318)) y2):=aM C1.out (by simp) I;have pJ:=hid h3;have h5:=hid I;clear h3 I
 go_wp2_with fail
 refine(fC 283 _).mono ?_;rintro e G ⟨sO,sD,rfl,h4,O⟩;have C3:Hid (Below (w.heap.size+1) (w.alloc (.cells #[.nilFunc,.nilFunc] 318)) G):=aM C2.out (by simp) O;have sN:=hid h4;have h0:=hid O;clear h4 O
 go_wp2_with fail
 refine(fG _ ⟨_,_,_,rfl⟩ _).mono ?_;rintro e z ⟨pb,rfl,kS,U⟩;have kU:Below G.heap.size G (G.alloc (.cells #[jw,Z,X,V,sO,sD] 318)):=(nI _ _).alloc (jK _) _;have CA:Below (w.heap.size+1) (w.alloc (.cells #[.nilFunc,.nilFunc] 318)) (G.alloc (.cells #[jw,Z,X,V,sO,sD] 318)):=aM C3.out (by simp) kU;have CZ:Below (w.heap.size+1) (w.alloc (.cells #[.nilFunc,.nilFunc] 318)) z:=aM CA (by simp) U;obtain⟨i0,i1,i2,i3⟩:=gX CZ;have hq:ak z G.heap.size 318 [jw,Z,X,V,sO,sD]:=(ak.new G 318 [jw,Z,X,V,sO,sD]).of_heap (U.block _ (by simp));have Q1:=hid (((((qB.out.below h5.out).below h0.out).below kU).below U).mono (B0:=w.heap.size+1) (by simp));have Q2:=hid ((((pJ.out.below h0.out).below kU).below U).mono (B0:=w.heap.size+1) (by have:=C1.out.size;simp at this;omega));have Q3:=hid (((sN.out.below kU).below U).mono (B0:=w.heap.size+1) (by have:=C2.out.size;simp at this;omega))
 have kV:w.heap.size+1<=G.heap.size:=by have:=C3.out.size;simp at this;omega
 have uE:=hid (kS.mono (B0:=w.heap.size+1) (by simp;omega));have HQ:=hid hq;have J5:=hid CZ;have uF:=hid kV;clear kS hq CZ CA kU U kV
 go_wp2_with fail
 obtain⟨f1,f2⟩:=gW J5.out (.func (.func 323) #[] #[.pointer (some ⟨pb,0,none⟩)]) (.func (.func 324) #[] #[.pointer (some ⟨pb,0,none⟩)]);refine bodyPost_ret (v:=.agg #[.func (.func 323) #[] #[.pointer (some ⟨pb,0,none⟩)],.func (.func 324) #[] #[.pointer (some ⟨pb,0,none⟩)]]) (by simp[results,results217,go_sem,i0,i1]) rfl ⟨_,_,rfl,⟨pb,G.heap.size,rfl,rfl,uE.out.of f2,uF.out,?_⟩,f1⟩;intro j hj;have F:ak _ G.heap.size 318 [jw,Z,X,V,sO,sD]:=HQ.out.of_heap (f2 _ uF.out)
 match j,hj with
 |0,_=>exact⟨jw,Z,F.cell 0,F.cell 1,Q1.out.of f2⟩
 |1,_=>exact⟨X,V,F.cell 2,F.cell 3,Q2.out.of f2⟩
 |2,_=>exact⟨sO,sD,F.cell 4,F.cell 5,Q3.out.of f2⟩
 |(m+3),hm=>exact absurd hm (by simp)
theorem RI(w:World):Calls prog 217 #[.int .i64 7] w fun e w'=>Laid w w' [(0,48),(3,284),(3,285),(4,0)] e:=by
 go_enter func217,ntmps217
 go_wp2_with fail
 refine(gy 48 _ rfl _).mono ?_;rintro e y1 ⟨jw,jg,rfl,h2,H⟩;have C1:Hid (Below (w.heap.size+1) (w.alloc (.cells #[.nilFunc,.nilFunc] 318)) y1):=H.mono (by simp);have qB:=hid h2;have h6:=hid H;clear h2 H
 go_wp2_with fail
 refine(fC 284 _).mono ?_;rintro e y2 ⟨Z,X,rfl,h3,I⟩;have C2:Hid (Below (w.heap.size+1) (w.alloc (.cells #[.nilFunc,.nilFunc] 318)) y2):=aM C1.out (by simp) I;have pJ:=hid h3;have h5:=hid I;clear h3 I
 go_wp2_with fail
 refine(fC 285 _).mono ?_;rintro e y3 ⟨sO,sD,rfl,h4,O⟩;have C3:Hid (Below (w.heap.size+1) (w.alloc (.cells #[.nilFunc,.nilFunc] 318)) y3):=aM C2.out (by simp) O;have sN:=hid h4;have h0:=hid O;clear h4 O
 go_wp2_with fail
 refine(zx _).mono ?_;rintro e G ⟨zy,zA,rfl,zB,U⟩;have C4:Hid (Below (w.heap.size+1) (w.alloc (.cells #[.nilFunc,.nilFunc] 318)) G):=aM C3.out (by simp) U;have Cu:=hid zB;have J6:=hid U;clear zB U
 go_wp2_with fail
 refine(fG _ ⟨_,_,_,rfl⟩ _).mono ?_;rintro e z ⟨pb,rfl,kS,V⟩;have kU:Below G.heap.size G (G.alloc (.cells #[jw,jg,Z,X,sO,sD,zy,zA] 318)):=(nI _ _).alloc (jK _) _;have CA:Below (w.heap.size+1) (w.alloc (.cells #[.nilFunc,.nilFunc] 318)) (G.alloc (.cells #[jw,jg,Z,X,sO,sD,zy,zA] 318)):=aM C4.out (by simp) kU;have CZ:Below (w.heap.size+1) (w.alloc (.cells #[.nilFunc,.nilFunc] 318)) z:=aM CA (by simp) V;obtain⟨i0,i1,i2,i3⟩:=gX CZ;have hq:ak z G.heap.size 318 [jw,jg,Z,X,sO,sD,zy,zA]:=(ak.new G 318 [jw,jg,Z,X,sO,sD,zy,zA]).of_heap (V.block _ (by simp));have Q1:=hid ((((((qB.out.below h5.out).below h0.out).below J6.out).below kU).below V).mono (B0:=w.heap.size+1) (by simp));have Q2:=hid (((((pJ.out.below h0.out).below J6.out).below kU).below V).mono (B0:=w.heap.size+1) (by have:=C1.out.size;simp at this;omega));have Q3:=hid ((((sN.out.below J6.out).below kU).below V).mono (B0:=w.heap.size+1) (by have:=C2.out.size;simp at this;omega));have Q4:=hid (((Cu.out.below kU).below V).mono (B0:=w.heap.size+1) (by have:=C3.out.size;simp at this;omega))
 have kV:w.heap.size+1<=G.heap.size:=by have:=C4.out.size;simp at this;omega
 have uE:=hid (kS.mono (B0:=w.heap.size+1) (by simp;omega));have HQ:=hid hq;have J5:=hid CZ;have uF:=hid kV;clear kS hq CZ CA kU V kV
 go_wp2_with fail
 obtain⟨f1,f2⟩:=gW J5.out (.func (.func 323) #[] #[.pointer (some ⟨pb,0,none⟩)]) (.func (.func 324) #[] #[.pointer (some ⟨pb,0,none⟩)]);refine bodyPost_ret (v:=.agg #[.func (.func 323) #[] #[.pointer (some ⟨pb,0,none⟩)],.func (.func 324) #[] #[.pointer (some ⟨pb,0,none⟩)]]) (by simp[results,results217,go_sem,i0,i1]) rfl ⟨_,_,rfl,⟨pb,G.heap.size,rfl,rfl,uE.out.of f2,uF.out,?_⟩,f1⟩;intro j hj;have F:ak _ G.heap.size 318 [jw,jg,Z,X,sO,sD,zy,zA]:=HQ.out.of_heap (f2 _ uF.out)
 match j,hj with
 |0,_=>exact⟨jw,jg,F.cell 0,F.cell 1,Q1.out.of f2⟩
 |1,_=>exact⟨Z,X,F.cell 2,F.cell 3,Q2.out.of f2⟩
 |2,_=>exact⟨sO,sD,F.cell 4,F.cell 5,Q3.out.of f2⟩
 |3,_=>exact⟨zy,zA,F.cell 6,F.cell 7,Q4.out.of f2⟩
 |(m+4),hm=>exact absurd hm (by simp)
theorem RJ(w:World):Calls prog 217 #[.int .i64 8] w fun e w'=>Laid w w' [(0,28),(3,283)] e:=by
 go_enter func217,ntmps217
 go_wp2_with fail
 refine(gy 28 _ rfl _).mono ?_;rintro e y1 ⟨X,V,rfl,Z,H⟩;have C1:Hid (Below (w.heap.size+1) (w.alloc (.cells #[.nilFunc,.nilFunc] 318)) y1):=H.mono (by simp);have qB:=hid Z;have h3:=hid H;clear Z H
 go_wp2_with fail
 refine(fC 283 _).mono ?_;rintro e F ⟨U,O,rfl,h0,I⟩;have C2:Hid (Below (w.heap.size+1) (w.alloc (.cells #[.nilFunc,.nilFunc] 318)) F):=aM C1.out (by simp) I;have pJ:=hid h0;have h2:=hid I;clear h0 I
 go_wp2_with fail
 refine(fG _ ⟨_,_,_,rfl⟩ _).mono ?_;rintro e z ⟨pb,rfl,kS,iC⟩;have kU:Below F.heap.size F (F.alloc (.cells #[X,V,U,O] 318)):=(nI _ _).alloc (jK _) _;have CA:Below (w.heap.size+1) (w.alloc (.cells #[.nilFunc,.nilFunc] 318)) (F.alloc (.cells #[X,V,U,O] 318)):=aM C2.out (by simp) kU;have CZ:Below (w.heap.size+1) (w.alloc (.cells #[.nilFunc,.nilFunc] 318)) z:=aM CA (by simp) iC;obtain⟨i0,i1,i2,i3⟩:=gX CZ;have hq:ak z F.heap.size 318 [X,V,U,O]:=(ak.new F 318 [X,V,U,O]).of_heap (iC.block _ (by simp));have Q1:=hid ((((qB.out.below h2.out).below kU).below iC).mono (B0:=w.heap.size+1) (by simp));have Q2:=hid (((pJ.out.below kU).below iC).mono (B0:=w.heap.size+1) (by have:=C1.out.size;simp at this;omega))
 have kV:w.heap.size+1<=F.heap.size:=by have:=C2.out.size;simp at this;omega
 have uE:=hid (kS.mono (B0:=w.heap.size+1) (by simp;omega));have HQ:=hid hq;have J5:=hid CZ;have uF:=hid kV;clear kS hq CZ CA kU iC kV
 go_wp2_with fail
 obtain⟨f1,f2⟩:=gW J5.out (.func (.func 323) #[] #[.pointer (some ⟨pb,0,none⟩)]) (.func (.func 324) #[] #[.pointer (some ⟨pb,0,none⟩)]);refine bodyPost_ret (v:=.agg #[.func (.func 323) #[] #[.pointer (some ⟨pb,0,none⟩)],.func (.func 324) #[] #[.pointer (some ⟨pb,0,none⟩)]]) (by simp[results,results217,go_sem,i0,i1]) rfl ⟨_,_,rfl,⟨pb,F.heap.size,rfl,rfl,uE.out.of f2,uF.out,?_⟩,f1⟩;intro j hj;have G:ak _ F.heap.size 318 [X,V,U,O]:=HQ.out.of_heap (f2 _ uF.out)
 match j,hj with
 |0,_=>exact⟨X,V,G.cell 0,G.cell 1,Q1.out.of f2⟩
 |1,_=>exact⟨U,O,G.cell 2,G.cell 3,Q2.out.of f2⟩
 |(m+2),hm=>exact absurd hm (by simp)
theorem wm(b off:Nat)(w:World):Calls prog 279 #[.pointer (some ⟨b,off,none⟩)] w fun e w'=>e=.returned (.pointer (some ⟨b,off+2,none⟩))/\w'=w:=by
 go_enter func279,ntmps279;go_wp2;go_ret;exact⟨rfl,rfl⟩
theorem qK(b off:Nat)(w:World):Calls prog 280 #[.pointer (some ⟨b,off,none⟩)] w fun e w'=>e=.returned (.pointer (some ⟨b,off+3,none⟩))/\w'=w:=by
 go_enter func280,ntmps280;go_wp2;go_ret;exact⟨rfl,rfl⟩
theorem zC(b off:Nat)(w:World):Calls prog 283 #[.pointer (some ⟨b,off,none⟩)] w fun e w'=>e=.returned (.pointer (some ⟨b,off+4,none⟩))/\w'=w:=by
 go_enter func283,ntmps283;go_wp2;go_ret;exact⟨rfl,rfl⟩
theorem Nc(b off:Nat)(w:World):Calls prog 284 #[.pointer (some ⟨b,off,none⟩)] w fun e w'=>e=.returned (.pointer (some ⟨b,off+6,none⟩))/\w'=w:=by
 go_enter func284,ntmps284;go_wp2;go_ret;exact⟨rfl,rfl⟩
theorem qL(b off:Nat)(w:World):Calls prog 285 #[.pointer (some ⟨b,off,none⟩)] w fun e w'=>e=.returned (.pointer (some ⟨b,off+7,none⟩))/\w'=w:=by
 go_enter func285,ntmps285;go_wp2;go_ret;exact⟨rfl,rfl⟩
def fieldAt(f:Fr)(F:Nat):Nat:=if F=279 then f.offset else if F=280 then f.reliable else if F=283 then f.limit else if F=284 then f.id else f.deadline
def aO(f:Fr)(F:Nat×Nat):List UInt8:=
 if F.1=0 then[UInt8.ofNat F.2]else if F.1=1 then[if f.fin then 9 else 8]else if F.1=2 then Num.bytes f.stream.toNat else if F.1=3 then Num.bytes (fieldAt f F.2)
 else if F.1=4 then Num.bytes f.data.size++f.data.data.toList else cO f.ranges
def aQ(k:Int):List (Nat×Nat):=
 if k=1 then[(0,1)]else if k=2 then[(0,2),(5,0)]else if k=3 then[(0,36),(2,0),(3,279),(3,280)]else if k=4 then[(1,0),(2,0),(3,279),(4,0)]else if k=5 then[(0,16),(3,283)]else if k=6 then[(0,17),(2,0),(3,283)]else if k=7 then[(0,48),(3,284),(3,285),(4,0)]else[(0,28),(3,283)]
def aB(f:Fr):List UInt8:=aX ((aQ f.kind).map (aO f)) (aQ f.kind).length
def CR(f:Fr)(F:Nat×Nat):Prop:=
 (F.1=0/\F.2<256)\/F.1=1\/F.1=2\/(F.1=3/\(F.2=279\/F.2=280\/F.2=283\/F.2=284\/F.2=285))\/F.1=4\/(F.1=5/\lU f.ranges=true)
structure Fit (f:Fr):Prop where
 s0:0<=f.stream
 s8:f.stream<8
 n0:f.offset<=aU
 n1:f.reliable<=aU
 n2:f.limit<=aU
 n3:f.id<=aU
 n4:f.deadline<=aU
theorem lV(f:Fr)(h:snd f=true):Fit f/\1<=f.kind/\f.kind<=8/\jf f=true:=by
 unfold snd kG at h;simp only[DJ]at h;obtain⟨⟨⟨h1,⟨⟨⟨⟨H,I⟩,O⟩,U⟩,V⟩⟩,X⟩,Z⟩:=h;have F:=of_decide_eq_true h1;have G:=of_decide_eq_true X;exact⟨⟨G.1,G.2,of_decide_eq_true H,of_decide_eq_true I,of_decide_eq_true O,of_decide_eq_true U,of_decide_eq_true V⟩,F.1,F.2,Z⟩
theorem IG{B0:Nat}{w1:World}{G:Nat×Nat}{fw fr:Value}(hP:fF B0 w1 G fw fr)(b off:Nat)(f:Fr)(ra:Option Addr)(rc:Nat)(U:Fit f)(V:CR f G)(Z:f.ranges.length<=rc):
  Wr B0 w1.heap.size w1 fw (aO f G) b off f ra rc:=by
 unfold aO
 rcases hP with⟨h,xb,I,H,_⟩|⟨h,H,_⟩|⟨h,H,_⟩|⟨h,xb,I,H,_⟩|⟨h,H,_⟩|⟨h,H,_⟩
 ·rw[if_pos h,H]
  have YP:G.2<256:=by
   rcases V with e|e|e|e|e|e<;>omega
  exact M9 xb (UInt8.ofNat G.2) b off f ra rc I.1 (tL _ _ I.2) (by rw[UInt8.toNat_ofNat_of_lt' YP];exact I.2)
 ·rw[if_neg (by omega),if_pos h,H];exact AR b off f ra rc
 ·rw[if_neg (by omega),if_neg (by omega),if_pos h,H];exact JZ b off f ra rc U.s0 U.s8
 ·rw[if_neg (by omega),if_neg (by omega),if_neg (by omega),if_pos h,H]
  have X:G.2=279\/G.2=280\/G.2=283\/G.2=284\/G.2=285:=by
   rcases V with e|e|e|e|e|e
   ·omega
   ·omega
   ·omega
   ·exact e.2
   ·omega
   ·omega
  have hl:=tL _ _ I.2;have F:=I.2
  rcases X with e|e|e|e|e
  ·rw[e]at F ⊢;exact kR xb 279 2 f.offset b off f ra rc I.1 hl F (enters_of func279 (by kernel_rfl) rfl) (wm b off) (fun w O=>O.c2) U.n0
  ·rw[e]at F ⊢;exact kR xb 280 3 f.reliable b off f ra rc I.1 hl F (enters_of func280 (by kernel_rfl) rfl) (qK b off) (fun w O=>O.c3) U.n1
  ·rw[e]at F ⊢;exact kR xb 283 4 f.limit b off f ra rc I.1 hl F (enters_of func283 (by kernel_rfl) rfl) (zC b off) (fun w O=>O.c4) U.n2
  ·rw[e]at F ⊢;exact kR xb 284 6 f.id b off f ra rc I.1 hl F (enters_of func284 (by kernel_rfl) rfl) (Nc b off) (fun w O=>O.c6) U.n3
  ·rw[e]at F ⊢;exact kR xb 285 7 f.deadline b off f ra rc I.1 hl F (enters_of func285 (by kernel_rfl) rfl) (qL b off) (fun w O=>O.c7) U.n4
 ·rw[if_neg (by omega),if_neg (by omega),if_neg (by omega),if_neg (by omega),if_pos h,H];exact Rx b off f ra rc
 ·rw[if_neg (by omega),if_neg (by omega),if_neg (by omega),if_neg (by omega),if_neg (by omega),H]
  have hR:lU f.ranges=true:=by
   rcases V with e|e|e|e|e|e
   ·omega
   ·omega
   ·omega
   ·omega
   ·omega
   ·exact e.2
  exact J2 b off f ra rc hR Z
theorem VW{B0:Nat}{w1:World}{F:List (Nat×Nat)}{fw fr:Value}(hL:Nb B0 w1 F fw fr)(U:F.length<=100)(b off:Nat)(f:Fr)(ra:Option Addr)(rc:Nat)(hf:Fit f)(h0:∀t∈F,CR f t)(h4:f.ranges.length<=rc)(X:0<F.length):
  Wr B0 w1.heap.size w1 fw (aX (F.map (aO f)) F.length) b off f ra rc:=by
 obtain⟨pb,Z,rfl,_,hB,hq,I⟩:=hL
 have O:∃H II:Nat->Value,∀j,j<F.length->w1.cell? ⟨Z,j*2,none⟩=some (H j)/\w1.cell? ⟨Z,j*2+1,none⟩=some (II j)/\fF B0 w1 (F.getD j (0,0)) (H j) (II j):=by
  refine⟨fun j=>(w1.cell? ⟨Z,j*2,none⟩).getD undef,fun j=>(w1.cell? ⟨Z,j*2+1,none⟩).getD undef,fun j G=>?_⟩;obtain⟨a,c,h1,h2,h3⟩:=I j G;refine⟨by simp[h1],by simp[h2],?_⟩;simpa[h1,h2]using h3
 obtain⟨H,II,hF⟩:=O
 have V:∀j,j<F.length->F.getD j (0,0)∈F:=fun j G=>by
  rw[wz,Bu G];exact Kt _
 refine FE pb Z F.length H II _ b off f ra rc U hB.1 (tL _ _ hB.2) hq (tL _ _ (hF 0 X).1) hB.2 (fun j G=>⟨(hF j G).1,(hF j G).2.1⟩) (fun j G=>?_) (fun j G=>?_)
 ·rcases(hF j G).2.2 with⟨_,xb,_,_,h⟩|⟨_,_,h⟩|⟨_,_,h⟩|⟨_,xb,_,_,h⟩|⟨_,_,h⟩|⟨_,_,h⟩<;>exact⟨_,_,h⟩
 ·have:=IG (hF j G).2.2 b off f ra rc hf (h0 _ (V j G)) h4
  have e:(F.map (aO f)).getD j []=aO f (F.getD j (0,0)):=by
   simp[G]
  rw[e];exact this
def Da(B0:Nat)(w:World)(k:Int)(F fr:Value):Prop:=k=1/\fF B0 w (0,1) F fr\/k≠1/\Nb B0 w (aQ k) F fr
theorem RU(w:World):Calls prog 217 #[.int .i64 1] w fun e w'=>∃X fr,e=.returned (.agg #[X,fr])/\fF (w.heap.size+1) w' (0,1) X fr/\Below w.heap.size w w':=by
 go_enter func217,ntmps217
 go_wp2_with fail
 refine(gy 1 _ rfl _).mono ?_;rintro e y1 ⟨jw,jg,rfl,F,H⟩;have V:Hid (Below (w.heap.size+1) (w.alloc (.cells #[.nilFunc,.nilFunc] 318)) y1):=H.mono (by simp);have qB:=hid (F.mono (B0:=w.heap.size+1) (by simp));obtain⟨Z,i1,i2,i3⟩:=gX V.out
 have I:∃O c1 U c2,jw=.func (.func O) #[] c1/\jg=.func (.func U) #[] c2:=by
  rcases F with⟨_,xb,_,h,G⟩|⟨_,h,G⟩|⟨_,h,G⟩|⟨_,xb,_,h,G⟩|⟨_,h,G⟩|⟨_,h,G⟩<;>exact⟨_,_,_,_,h,G⟩
 obtain⟨O,c1,U,c2,rfl,rfl⟩:=I;clear F H
 go_wp2_with fail
 obtain⟨f1,f2⟩:=gW V.out (.func (.func O) #[] c1) (.func (.func U) #[] c2);exact bodyPost_ret (v:=.agg #[.func (.func O) #[] c1,.func (.func U) #[] c2]) (by simp[results,results217,go_sem,Z,i1]) rfl ⟨_,_,rfl,qB.out.of f2,f1⟩
theorem lZ(k:Int)(h1:1<=k)(I:k<=8)(w:World):Calls prog 217 #[.int .i64 k] w fun e w'=>∃F fr,e=.returned (.agg #[F,fr])/\Da (w.heap.size+1) w' k F fr/\Below w.heap.size w w':=by
 have h:k=1\/k=2\/k=3\/k=4\/k=5\/k=6\/k=7\/k=8:=by omega
 rcases h with rfl|rfl|rfl|rfl|rfl|rfl|rfl|rfl
 ·exact(RU w).mono (fun e w' ⟨F,fr,h1,G,H⟩=>⟨F,fr,h1,.inl ⟨rfl,G⟩,H⟩)
 ·exact(RA w).mono (fun e w' ⟨F,fr,h1,G,H⟩=>⟨F,fr,h1,.inr ⟨by decide,G⟩,H⟩)
 ·exact(RB w).mono (fun e w' ⟨F,fr,h1,G,H⟩=>⟨F,fr,h1,.inr ⟨by decide,G⟩,H⟩)
 ·exact(RF w).mono (fun e w' ⟨F,fr,h1,G,H⟩=>⟨F,fr,h1,.inr ⟨by decide,G⟩,H⟩)
 ·exact(RG w).mono (fun e w' ⟨F,fr,h1,G,H⟩=>⟨F,fr,h1,.inr ⟨by decide,G⟩,H⟩)
 ·exact(RH w).mono (fun e w' ⟨F,fr,h1,G,H⟩=>⟨F,fr,h1,.inr ⟨by decide,G⟩,H⟩)
 ·exact(RI w).mono (fun e w' ⟨F,fr,h1,G,H⟩=>⟨F,fr,h1,.inr ⟨by decide,G⟩,H⟩)
 ·exact(RJ w).mono (fun e w' ⟨F,fr,h1,G,H⟩=>⟨F,fr,h1,.inr ⟨by decide,G⟩,H⟩)
theorem IX(f:Fr)(h:snd f=true):∀t∈aQ f.kind,CR f t:=by
 obtain⟨_,h1,H,F⟩:=lV f h
 have h:f.kind=1\/f.kind=2\/f.kind=3\/f.kind=4\/f.kind=5\/f.kind=6\/f.kind=7\/f.kind=8:=by omega
 intro t ht;unfold CR
 rcases h with e|e|e|e|e|e|e|e
 ·rw[e,show aQ 1=[(0,1)]from rfl]at ht;simp at ht;subst ht;simp
 ·rw[e,show aQ 2=[(0,2),(5,0)]from rfl]at ht
  have G:lU f.ranges=true:=by unfold jf at F;rw[if_pos e]at F;exact F
  simp at ht;rcases ht with rfl|rfl<;>simp[G]
 ·rw[e,show aQ 3=[(0,36),(2,0),(3,279),(3,280)]from rfl]at ht
  simp at ht;rcases ht with rfl|rfl|rfl|rfl<;>simp
 ·rw[e,show aQ 4=[(1,0),(2,0),(3,279),(4,0)]from rfl]at ht
  simp at ht;rcases ht with rfl|rfl|rfl|rfl<;>simp
 ·rw[e,show aQ 5=[(0,16),(3,283)]from rfl]at ht
  simp at ht;rcases ht with rfl|rfl<;>simp
 ·rw[e,show aQ 6=[(0,17),(2,0),(3,283)]from rfl]at ht
  simp at ht;rcases ht with rfl|rfl|rfl<;>simp
 ·rw[e,show aQ 7=[(0,48),(3,284),(3,285),(4,0)]from rfl]at ht
  simp at ht;rcases ht with rfl|rfl|rfl|rfl<;>simp
 ·rw[e,show aQ 8=[(0,28),(3,283)]from rfl]at ht
  simp at ht;rcases ht with rfl|rfl<;>simp
theorem qP(k:Int):0<(aQ k).length/\(aQ k).length<=100:=by
 unfold aQ
 repeat' split
 all_goals exact⟨by decide,by decide⟩
theorem IY{B0:Nat}{w1:World}{H fr:Value}(f:Fr)(G:Da B0 w1 f.kind H fr)(h:snd f=true)(b off:Nat)(ra:Option Addr)(rc:Nat)(F:f.ranges.length<=rc):
  Wr B0 w1.heap.size w1 H (aB f) b off f ra rc:=by
 obtain⟨I,_⟩:=lV f h
 rcases G with⟨e,O⟩|⟨_,G⟩
 ·have:=IG O b off f ra rc I (.inl ⟨rfl,by decide⟩) F
  have hb:aB f=aO f (0,1):=by
   unfold aB;rw[e,show aQ 1=[(0,1)]from rfl];rfl
  rw[hb];exact this
 ·exact VW G (qP _).2 b off f ra rc I (IX f h) F (qP _).1
def dW:Fr:=⟨0,0,0,0,0,false,0,0,⟨#[]⟩,[]⟩
def iZ(w:World)(fa:Option Addr)(fs:List Fr)(ra:Nat->Option Addr)(rc:Nat->Nat):Prop:=
 ∀j,j<fs.length->∃b off,fa=some ⟨b,off,none⟩/\jN w b (off+j*10) (fs.getD j dW) (ra j) (rc j)/\(fs.getD j dW).ranges.length<=rc j/\∀x,ra j=some x->x.block<w.heap.size
theorem iZ.below{w w':World}{fa:Option Addr}{fs:List Fr}{ra:Nat->Option Addr}{rc:Nat->Nat}(h:iZ w fa fs ra rc)(hb:Below w.heap.size w w'):iZ w' fa fs ra rc:=fun j I=>by
 obtain⟨b,off,H,h1,F,G⟩:=h j I;exact⟨b,off,H,h1.below hb,F,fun x O=>Nat.lt_of_lt_of_le (G x O) hb.size⟩
def mW(n:Nat)(fs:List Fr):Bool:=fs.all snd&&decide (n<=aU)&&decide (0<fs.length)
theorem qQ(fs:List Fr):fs.all snd=true↔∀i,i<fs.length->snd (fs.getD i dW)=true:=by
 rw[List.all_eq_true];constructor
 ·intro h i hi;rw[wz,Bu hi];exact h _ (Kt _)
 ·intro h x F;obtain⟨i,hi,rfl⟩:=List.mem_iff_getElem.1 F;have:=h i hi;rwa[wz,Bu hi]at this
theorem vk(n:Nat)(fa:Option Addr)(fs:List Fr)(fc:Nat)(ra:Nat->Option Addr)(rc:Nat->Nat)(w:World)(hl:fs.length<=1000000000)(hn:n<18446744073709551616)(hF:iZ w fa fs ra rc):
  Calls prog 219 #[.agg #[.int .u64 n,.slice fa fs.length fc]] w fun e w'=>e=.returned (.bool (mW n fs))/\Below w.heap.size w w':=by
 have HF:=hid hF;have X:Hid (mW n fs=(fs.all snd&&decide (n<=aU)&&decide (0<fs.length))):=rfl;have kJ:=hid (qQ fs);clear hF;go_enter func219,ntmps219
 go_wp2_with fail
 go_loopw [7] (fun s7 wr=>∃k:Nat,k<=fs.length/\s7=.int .i64 k/\Hid (∀i,i<k->snd (fs.getD i dW)=true)/\Hid (Below (w.heap.size+1) (w.alloc (.cells #[.int .u64 n,.slice fa fs.length fc] 56)) wr)) (fun s7 _=>fs.length-(intOf s7).toNat)
 case atStart=>exact⟨0,Nat.zero_le _,rfl,fun i hi=>absurd hi (Nat.not_lt_zero _),nI _ _⟩
 case round=>
  obtain⟨k,hk,rfl,VO,HB⟩:=hrel;have V4:ak wr w.heap.size 56 [.int .u64 n,.slice fa fs.length fc]:=(ak.new w 56 [.int .u64 n,.slice fa fs.length fc]).of_heap (HB.out.block _ (by omega));have x0:=V4.cell 0;have x1:=V4.cell 1;have H:Hid (Below w.heap.size w wr):=((nI _ w).alloc (jK _) _).trans (HB.out.mono (by omega))
  have hsz:w.heap.size+1<=wr.heap.size:=by have:=HB.out.size;simpa using this
  clear V4;simp only[uj,tT]at x0 x1
  by_cases h0:k<fs.length
  ·have h3:(k:Int)<(fs.length:Int):=by omega
   obtain⟨b,off,ha,pQ,_⟩:=HF.out.below H.out k h0;subst ha;have HC:=hid (nE b (off+k*10) (fs.getD k dW) (ra k) (rc k) wr pQ)
   have F:snd (fs.getD k dW)=true->Hid (∀i,i<k+1->snd (fs.getD i dW)=true):=fun h i hi=>by
    by_cases e:i=k
    ·rw[e];exact h
    ·exact VO.out i (by omega)
   have U:snd (fs.getD k dW)=false->Hid (mW n fs=false):=fun h=>by
    have:fs.all snd=false:=by
     cases hq:fs.all snd
     ·rfl
     ·rw[kJ.out.1 hq k h0]at h;cases h
    rw[X.out,this];rfl
   have HG:=hid F;have G:=hid U;clear F U pQ;generalize snd (fs.getD k dW)=B at HC HG G
   go_wp2_with fail
   refine HC.out.mono ?_;rintro e w2 ⟨rfl,Z⟩;have h2:Hid (Below (w.heap.size+1) (w.alloc (.cells #[.int .u64 n,.slice (some ⟨b,off,none⟩) fs.length fc] 56)) w2):=HB.out.trans (Z.mono (by omega));have YQ:Hid (Below w.heap.size w w2):=H.out.trans (Z.mono (by omega));clear Z;cases B
   ·have HR:=G.out rfl;clear HG G;go_wp2;go_ret;exact⟨aP HR.out.symm,YQ.out⟩
   ·have HR:=HG.out rfl;clear HG G;go_wp2;go_roundw
    case rel=>exact⟨k+1,by omega,by go_num,HR,h2⟩
    case measure=>simp[intOf];omega
  ·obtain rfl:k=fs.length:=by omega
   have O:fs.all snd=true:=kJ.out.2 VO.out
   have HS:Hid (mW n fs=(decide (n<=aU)&&decide (0<fs.length))):=by rw[X.out,O];rfl
   clear O X
   by_cases I:n<=aU
   ·have VT:(n:Int)<=4611686018427387903:=by unfold aU at I;omega
    have V:Hid (mW n fs=decide (0<fs.length)):=by rw[HS.out,decide_eq_true I];rfl
    clear HS;go_wp2;go_ret;exact⟨aP (by rw[V.out,decide_eq_decide]),H.out⟩
   ·have VT:decide ((n:Int)<=4611686018427387903)=false:=by unfold aU at I;simp;omega
    have V:Hid (mW n fs=false):=by rw[HS.out,decide_eq_false I];rfl
    clear HS;go_wp2;go_ret;exact⟨aP V.out.symm,H.out⟩
def bQ(n:Nat)(fs:List Fr):Nat->List UInt8
 |0=>Num.bytes n
 |k+1=>bQ n fs k++aB (fs.getD k dW)
def bH(n:Nat)(fs:List Fr):List UInt8:=bQ n fs fs.length
def aD(n:Nat)(fs:List Fr):List UInt8:=bH n fs++dS (bH n fs)
theorem uL(n:Nat)(fs:List Fr):∀(m k:Nat),k<=m->(bQ n fs k).length<=(bQ n fs m).length
 |0,k,h=>by
   obtain rfl:k=0:=by omega
   exact jK _
 |m+1,k,h=>by
  by_cases e:k=m+1
  ·rw[e];exact jK _
  ·have:=uL n fs m k (by omega);rw[bQ,CK];omega
def Own(B:Nat)(v:Value):Prop:=∀k,v.ownBlock=some k->B<=k
theorem Own.nil(B:Nat):Own B (.slice none 0 0):=fun k F=>by simp[Value.ownBlock]at F
theorem Gr.own{B:Nat}{w w':World}{v v':Value}(h:Gr w w' v v')(G:Own B v)(hB:B<=w.heap.size):Own B v':=fun k F=>by
 rcases h.2 k F with e|e
 ·exact G k e
 ·omega
theorem Gr.below{B:Nat}{w w':World}{v v':Value}(h:Gr w w' v v')(F:Own B v)(hB:B<=w.heap.size):Below B w w':=
 ⟨h.1.os,h.1.tape,h.1.output,h.1.size,fun k G=>h.1.block k (by omega) (fun e=>by have:=F k e.symm;omega)⟩
theorem TabAt.below{B:Nat}{w w':World}(h:TabAt w)(hb:Below B w w')(hB:2<=B):TabAt w':=fun k F=>cell_of (h k F) (hb.block 1 (by omega))
theorem XC(a b:Nat)(c d:Array Value)(w:World):(Instr.field 318 (.agg #[.func (.func a) #[] c,.func (.func b) #[] d]) 0).run prog w=.ok (.func (.func a) #[] c) w:=by kernel_rfl
theorem YR(a b:Nat)(c d:Array Value)(w:World):(Instr.field 318 (.agg #[.func (.func a) #[] c,.func (.func b) #[] d]) 1).run prog w=.ok (.func (.func b) #[] d) w:=by kernel_rfl
theorem fF.shape{B0:Nat}{w:World}{G:Nat×Nat}{H fr:Value}(h:fF B0 w G H fr):∃I c1 O c2,H=.func (.func I) #[] c1/\fr=.func (.func O) #[] c2:=by
 rcases h with⟨_,xb,_,h,F⟩|⟨_,h,F⟩|⟨_,h,F⟩|⟨_,xb,_,h,F⟩|⟨_,h,F⟩|⟨_,h,F⟩<;>exact⟨_,_,_,_,h,F⟩
theorem Da.shape{B0:Nat}{w:World}{k:Int}{F fr:Value}(h:Da B0 w k F fr):∃G c1 H c2,F=.func (.func G) #[] c1/\fr=.func (.func H) #[] c2:=by
 rcases h with⟨_,h⟩|⟨_,pb,qb,h,h2,_⟩
 ·exact h.shape
 ·exact⟨_,_,_,_,h,h2⟩
theorem wJ(n:Nat)(fa:Option Addr)(fs:List Fr)(fc:Nat)(ra:Nat->Option Addr)(rc:Nat->Nat)(w:World)(hl:fs.length<=1000000000)(hF:iZ w fa fs ra rc)(hS:mW n fs=true)(hT:TabAt w)(h2:2<=w.heap.size)(O:(bH n fs).length<=1000000000):
  Calls prog 167 #[.agg #[.int .u64 n,.slice fa fs.length fc]] w fun e w'=>∃v,e=.returned (.tuple #[v,.nilIface])/\Buf w' v (aD n fs)/\Own w.heap.size v/\Below w.heap.size w w':=by
 have V:=hS;unfold mW at V;rw[DJ,DJ]at V;have hn:=of_decide_eq_true V.1.2;have RV:=(qQ fs).1 V.1.1;unfold aU at hn;have HS:=hid (vk n fa fs fc ra rc (w.alloc (.cells #[.int .u64 n,.slice fa fs.length fc] 56)) hl (by omega) (hF.below ((nI _ w).alloc (jK _) _)));rw[hS]at HS;have HF:=hid hF;have RX:=hid RV;have HT:=hid hT;have zw:=hid (uL n fs fs.length);have h5:Hid ((bQ n fs fs.length).length<=1000000000):=O;have Vd:Hid (aD n fs=bQ n fs fs.length++dS (bQ n fs fs.length)):=rfl
 have hm:Hid (∀k,bQ n fs (k+1)=bQ n fs k++aB (fs.getD k dW)):=fun _=>rfl
 have HZ:Hid (bQ n fs 0=Num.bytes n):=rfl
 have hw:n<4611686018427387904:=by omega
 have HN:=hid hw;clear hS V hF RV hT O hn hw;go_enter func167,ntmps167
 go_wp2_with fail
 refine HS.out.mono ?_;rintro e w2 ⟨rfl,h4⟩;obtain⟨I,X⟩:∃I,I=w.alloc (.cells #[.int .u64 n,.slice fa fs.length fc] 56):=⟨_,rfl⟩
 have FT:I.heap.size=w.heap.size+1:=by rw[X];simp
 have nO:ak I w.heap.size 56 [.int .u64 n,.slice fa fs.length fc]:=by rw[X];exact ak.new w 56 _
 have G:Below w.heap.size w I:=by rw[X];exact(nI _ w).alloc (jK _) _
 rw[<-X]at h4;have Z:=nO.of_heap (h4.block _ (by omega));have x0:=Z.cell 0;simp only[uj]at x0;have HA:=hid (bf (.slice none 0 0) [] n w2 (Buf.nil w2) HN.out (by simp));have HW:=hid (And.intro FT (And.intro nO G));have h8:=hid h4;clear h4 Z nO G X FT
 go_wp2_with fail
 refine HA.out.mono ?_;rintro e w3 ⟨v3,rfl,h9,hc⟩;obtain⟨FT,nO,G⟩:=HW.out;have he:Below I.heap.size I w3:=h8.out.trans (hc.below (Own.nil _) h8.out.size);have hr:Own I.heap.size v3:=hc.own (Own.nil _) h8.out.size;rw[List.nil_append,<-HZ.out]at h9;have h0:=nO.of_heap (he.block _ (by omega));have y1:=h0.cell 1;simp only[uj,tT]at y1;have HI:=hid (And.intro h9 (And.intro he hr));clear h9 hc he hr h0 FT nO G x0
 go_wp2_with fail
 go_loopw [4,17] (fun s4 FQ wr=>∃k:Nat,k<=fs.length/\FQ=.int .i64 k/\Hid (Buf wr s4 (bQ n fs k)/\Below I.heap.size I wr/\Own I.heap.size s4)) (fun _ FQ _=>fs.length-(intOf FQ).toNat)
 case atStart=>exact⟨0,Nat.zero_le _,rfl,HI.out⟩
 case round=>
  clear HI y1 HA HS;obtain⟨k,hk,rfl,HI⟩:=hrel
  by_cases hv:k<fs.length
  ·have x6:(k:Int)<(fs.length:Int):=by omega
   obtain⟨hB,hb,hO⟩:=HI.out;obtain⟨FT,nO,G⟩:=HW.out;have Db:Below w.heap.size w wr:=G.trans (hb.mono (by omega));obtain⟨b,off,ha,pQ,hy,hf⟩:=HF.out k hv;have V5:=pQ.below Db;subst ha;have hg:=RX.out k hv;obtain⟨_,hu,sK,_⟩:=lV _ hg;have c0:=V5.c0;have x7:b<w.heap.size:=tL _ _ pQ.c0;have h6:=nO.of_heap (hb.block _ (by omega));have y1:=h6.cell 1;simp only[uj,tT]at y1;have FW:=hid (lZ _ hu sK wr)
   have x1:∀(wl:World) (fw fr:Value),Da (wr.heap.size+1) wl (fs.getD k dW).kind fw fr->Below wr.heap.size wr wl->
     ∃g cb,fw=.func (.func g) #[] cb/\(∀args w,(callFunc g args).run prog w=.ok (.enter g args) w)/\
      Calls prog g (#[u4,.pointer (some ⟨b,off+k*10,none⟩)]++cb) wl fun e w'=>∃v',e=.returned v'/\Buf w' v' (bQ n fs (k+1))/\Below I.heap.size I w'/\Own I.heap.size v':=by
    intro wl fw fr hL qR;obtain⟨g,cb,h1,h2,h3⟩:=IY _ hL hg b (off+k*10) (ra k) (rc k) hy;refine⟨g,cb,h1,h2,?_⟩;have O:=zw.out (k+1) (by omega);have x9:=h5.out;rw[hm.out,CK]at O;have x3:=hb.size;have YS:=qR.size;refine(h3 wl u4 (bQ n fs k) ⟨⟨jK _,fun _ _ _=>rfl⟩,hB.of_heap (fun j hj=>qR.block j (hB.lt j hj)),fun j hj=>.inl (by have:=hB.lt j hj;omega),V5.below qR,fun e=>by have:=hO _ e;omega,fun x hx e=>by have:=hO _ e;have:=hf x hx;omega,fun x hx=>by have:=hf x hx;omega⟩ (by omega)).mono ?_;rintro e w' ⟨v',rfl,U,H⟩;exact⟨v',rfl,by rw[hm.out];exact U,(hb.trans (qR.mono x3)).trans (H.below hO (by omega)),H.own hO (by omega)⟩
   have U_:=hid x1;clear x1 hB hb hO Db pQ V5 hg h6 nO G hu sK hy hf;generalize fs.getD k dW=F at c0 FW U_
   go_wp2_with fail
   refine FW.out.mono ?_;rintro e wl ⟨fw,fr,rfl,hL,qR⟩;obtain⟨_,_,g2,J3,_,x4⟩:=hL.shape;subst x4;obtain⟨g,cb,x5,eg,hC⟩:=U_.out wl fw _ hL qR;subst x5;have HC:=hid hC;have x8:=XC g g2 cb J3;clear hC hL qR U_
   go_wp2_with fail
   refine HC.out.mono ?_;rintro e w' ⟨v',rfl,ho⟩;have Q7:=hid ho;clear ho
   go_wp2_with fail
   go_roundw
   case rel=>exact⟨k+1,by omega,by go_num,Q7⟩
   case measure=>simp[intOf];omega
  ·obtain rfl:k=fs.length:=by omega
   obtain⟨hB,hb,hO⟩:=HI.out;obtain⟨FT,nO,G⟩:=HW.out;have Db:Below w.heap.size w wr:=G.trans (hb.mono (by omega));have x2:=hid (yU u4 _ wr hB (HT.out.below Db h2) h5.out)
   have h7:∀w' v',Buf w' v' (bQ n fs fs.length++dS (bQ n fs fs.length))->Gr wr w' u4 v'->Buf w' v' (aD n fs)/\Own w.heap.size v'/\Below w.heap.size w w':=fun w' v' U H=>by
    have Dc:Own w.heap.size u4:=fun j hj=>by have:=hO j hj;omega
    exact⟨by rw[Vd.out];exact U,H.own Dc Db.size,Db.trans (H.below Dc Db.size)⟩
   have iG:=hid h7;clear h7 hB hb hO Db nO G FT
   go_wp2_with fail
   refine x2.out.mono ?_;rintro e w' ⟨v',rfl,U,H⟩;have HR:=hid (iG.out w' v' U H);clear U H;go_wp2;go_ret2;exact⟨_,rfl,HR.out⟩
def aC:List (Nat×Nat)->List Value
 |[]=>[]
 |r::t=>.int .u64 r.1::.int .u64 r.2::aC t
def dU(f:Fr)(v:Value):List Value:=[.int .i64 f.kind,.int .i64 f.stream,.int .u64 f.offset,.int .u64 f.reliable,.int .u64 f.limit,.bool f.fin,.int .u64 f.id,.int .u64 f.deadline,.string f.data,v]
def kC(fs:List Fr)(v9:Nat->Value):Nat->List Value
 |0=>[]
 |k+1=>kC fs v9 k++dU (fs.getD k dW) (v9 k)
theorem iR:∀rs,∀v∈aC rs,v.oneCell'=true
 |[],v,hv=>by simp[aC]at hv
 |r::t,v,hv=>by
  simp[aC]at hv
  rcases hv with rfl|rfl|hv
  ·rfl
  ·rfl
  ·exact iR t v hv
theorem pR:∀(rs:List (Nat×Nat)) j,j<rs.length->(aC rs)[j*2]?=some (.int .u64 ((rs.getD j (0,0)).1:Int))/\(aC rs)[j*2+1]?=some (.int .u64 ((rs.getD j (0,0)).2:Int))
 |[],j,h=>by simp at h
 |r::t,0,h=>by simp[aC]
 |r::t,j+1,h=>by
  have:=pR t j (by simpa using h);rw[show(j+1)*2=j*2+1+1 by omega];simp only[aC,tT,List.getD_cons_succ];exact this
theorem f_:∀a b,aC (a++b)=aC a++aC b
 |[],b=>rfl
 |r::t,b=>by simp[aC,f_ t b]
theorem zH(fs:List Fr)(v9:Nat->Value):∀k,(kC fs v9 k).length=k*10
 |0=>rfl
 |k+1=>by rw[kC,CK,zH fs v9 k];simp[dU];omega
theorem zI(fs:List Fr)(v9:Nat->Value):∀k j i,j<k->i<10->(kC fs v9 k)[j*10+i]?=(dU (fs.getD j dW) (v9 j))[i]?
 |0,j,i,h,_=>by omega
 |k+1,j,i,h,hi=>by
  have hl:=zH fs v9 k;rw[kC]
  by_cases e:j=k
  ·subst e;rw[List.getElem?_append_right (by omega)]
   congr 1;omega
  ·rw[List.getElem?_append_left (by omega)];exact zI fs v9 k j i (by omega) hi
theorem uM(fs:List Fr)(v9 F:Nat->Value):∀k,(∀j,j<k->v9 j=F j)->kC fs v9 k=kC fs F k
 |0,_=>rfl
 |k+1,h=>by rw[kC,kC,uM fs v9 F k (fun j G=>h j (by omega)),h k (by omega)]
structure iT (f:Fr):Prop where
 rlen:f.ranges.length<=1000000000
 vX:f.data.size<=1000000000
 k0: -9223372036854775808<=f.kind/\f.kind<=9223372036854775807
 s0: -9223372036854775808<=f.stream/\f.stream<=9223372036854775807
 u0:f.offset<18446744073709551616/\f.reliable<18446744073709551616/\f.limit<18446744073709551616/\f.id<18446744073709551616/\f.deadline<18446744073709551616
 r0:∀j,j<f.ranges.length->(f.ranges.getD j (0,0)).1<18446744073709551616/\(f.ranges.getD j (0,0)).2<18446744073709551616
structure qU (B:Nat) (w:World) (s:Value) (fs:List Fr) (v9:Nat->Value) (k:Nat):Prop where
 buf:bn 65 10 w s k (kC fs v9 k)
 own:Own B s
 rng:∀j,j<k->bn 170 2 w (v9 j) (fs.getD j dW).ranges.length (aC (fs.getD j dW).ranges)/\Own B (v9 j)/\∀b,(v9 j).ownBlock=some b->s.ownBlock≠some b
def Np:Value->Option Addr
 |.slice a _ _=>a
 |_=>none
def RY:Value->Nat
 |.slice _ _ c=>c
 |_=>0
theorem qU.II{B:Nat}{w:World}{s:Value}{fs:List Fr}{v9:Nat->Value}(h:qU B w s fs v9 fs.length)(h2:∀j,j<fs.length->iT (fs.getD j dW)):
  ∃fa V,s=.slice fa fs.length V/\iZ w fa fs (fun j=>Np (v9 j)) (fun j=>RY (v9 j)):=by
 obtain⟨fa,V,hs,_⟩:=h.buf.shape;refine⟨fa,V,hs,fun j Z=>?_⟩
 have I:=fun i hi=>zI fs v9 fs.length j i Z hi
 have G:=fun i (hi:i<10) x (U:(dU (fs.getD j dW) (v9 j))[i]?=some x)=>h.buf.cell hs (j*10+i) x (by rw[I i hi];exact U)
 obtain⟨g,X,c0,_⟩:=G 0 (by omega) _ rfl;subst X;obtain⟨g',F,c1,_⟩:=G 1 (by omega) _ rfl;cases F;obtain⟨g',F,c2,_⟩:=G 2 (by omega) _ rfl;cases F;obtain⟨g',F,c3,_⟩:=G 3 (by omega) _ rfl;cases F;obtain⟨g',F,c4,_⟩:=G 4 (by omega) _ rfl;cases F;obtain⟨g',F,c5,_⟩:=G 5 (by omega) _ rfl;cases F;obtain⟨g',F,c6,_⟩:=G 6 (by omega) _ rfl;cases F;obtain⟨g',F,c7,_⟩:=G 7 (by omega) _ rfl;cases F;obtain⟨g',F,c8,_⟩:=G 8 (by omega) _ rfl;cases F;obtain⟨g',F,c9,_⟩:=G 9 (by omega) _ rfl;cases F;obtain⟨O,_,_⟩:=h.rng j Z;obtain⟨ra,rc,H,h0⟩:=O.shape;have ok:=h2 j Z;refine⟨g,0,rfl,⟨by rw[mR];exact c0,by rw[mR];exact c1,by rw[mR];exact c2,by rw[mR];exact c3,by rw[mR];exact c4,by rw[mR];exact c5,by rw[mR];exact c6,by rw[mR];exact c7,by rw[mR];exact c8,?_,?_,ok.rlen,ok.vX,ok.k0,ok.s0,ok.u0⟩,?_,?_⟩
 ·rw[mR,c9];simp only[H,Np,RY]
 ·intro i hi;obtain⟨r1,r2⟩:=pR _ i hi;obtain⟨b1,e1,d1,_⟩:=O.cell H _ _ r1;obtain⟨b2,e2,d2,_⟩:=O.cell H _ _ r2;rw[e1]at e2;cases e2;refine⟨b1,0,by simp only[H];exact e1,by rw[mR];exact d1,by rw[mR];exact d2,ok.r0 i hi⟩
 ·simp only[H];exact h0
 ·intro x U;simp only[H]at U;refine O.lt x.block ?_;have h3:ra=some x:=U;rw[H,h3];rfl
theorem Mm.ak.setCell{w:World}{b:Nat}{t:TypeId}{l:List Value}(h:ak w b t l)(o:Nat)(v:Value):ak (w.setCell ⟨b,o,none⟩ v) b t (l.set o v):=by
 have:=heap_setCell_same w b o l.toArray t v h;unfold ak;rw[this]
 congr 2
 apply Array.ext';simp
end Go.Proofs.YtphbledmopchnaaGreatDoor
