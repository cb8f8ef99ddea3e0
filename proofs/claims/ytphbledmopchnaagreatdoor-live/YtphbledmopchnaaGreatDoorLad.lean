import Derived.Test.YtphbledmopchnaaGreatDoorLab
import Derived.Test.YtphbledmopchnaaGreatDoorLac
import Derived.Laws.Rows
open Go.RowKit.Below renaming refl->j3,heap_setCell->nP
open Bool renaming and_eq_true->nA
open List renaming getElem?_cons_succ->mE,getElem?_cons_zero->mI,getD_eq_getElem?_getD->mK,getElem?_eq_getElem->mR,length_append->mY,getElem_mem->nU
open Nat renaming le_refl->eB,zero_add->eT
open Go.RowKit renaming intOf->nI
open Go.World renaming block_lt_of_cell?->lg
set_option maxHeartbeats 1000000
set_option maxRecDepth 100000
namespace Go.Proofs.YtphbledmopchnaaGreatDoor
open Go.RowKit Go.Lib Go.Shelf Mm Tryz
theorem Pp.of{B0:Nat}{w w':World}{xb:Nat}{v:Value}(h:Pp B0 w xb v)(e:∀k,B0<=k->w'.heap[k]?=w.heap[k]?):Pp B0 w' xb v:=⟨h.1,cell_of h.2 (e xb h.1)⟩
theorem jo.of{B0:Nat}{w w':World}{a:Nat×Nat}{d fr:Value}(h:jo B0 w a d fr)(e:∀k,B0<=k->w'.heap[k]?=w.heap[k]?):jo B0 w' a d fr:=by
 rcases h with⟨h,xb,c,b⟩|h|h|⟨h,xb,c,b⟩|h|h;·exact .inl ⟨h,xb,c.of e,b⟩
 ·exact .inr (.inl h)
 ·exact .inr (.inr (.inl h))
 ·exact .inr (.inr (.inr (.inl ⟨h,xb,c.of e,b⟩)))
 ·exact .inr (.inr (.inr (.inr (.inl h))))
 ·exact .inr (.inr (.inr (.inr (.inr h))))
def Tt(B0:Nat)(w:World)(a:bW)(b fr:Value):Prop:=
 ∃pb c,b=.func (.func 323) #[] #[aI pb 0]/\fr=.func (.func 324) #[] #[aI pb 0]/\Pp B0 w pb (dP c a.length a.length)/\B0<=c/\∀j,j<a.length->∃b fr,w.cell? (aB c (j*2))=some b/\w.cell? (aB c (j*2+1))=some fr/\jo B0 w (a.getD j (0,0)) b fr
def Laid(w w':World)(a:bW)(e:Ending):Prop:=∃b fr,e=.returned (.agg #[b,fr])/\Tt (w.heap.size+1) w' a b fr/\bJ w w'
theorem kC{w y:World}{Z:Obj}(h:Below (w.heap.size+1) (w.alloc Z) y)(a b:Value):bJ w ((y.setCell (aB w.heap.size 0) a).setCell (aB w.heap.size 1) b)/\∀k,w.heap.size+1<=k->((y.setCell (aB w.heap.size 0) a).setCell (aB w.heap.size 1) b).heap[k]?=y.heap[k]?:=by
 refine⟨?_,fun k c=>?_⟩;·have h1:bJ w y:=((j3 _ w).alloc (eB _) Z).trans (h.mono aj);exact(h1.setCell (p:=(aB w.heap.size 0)) (eB _) a).setCell (p:=(aB w.heap.size 1)) (eB _) b
 ·rw[nP _ _ _ _ (by simp;omega),nP _ _ _ _ (by simp;omega)]
theorem jM(x:Nat)(X:Int)(a:X=(x:Int))(w:World):Calls prog 274 #[.int .u8 X] w fun e w'=>Made w w' (0,x) e:=by subst a;exact Lv x w
theorem dF{B:Nat}{a y y':World}(h:Below B a y)(hB:B<=a.heap.size)(b:bJ y y'):Below B a y':=h.trans (b.mono (Nat.le_trans hB h.size))
theorem kD{w z:World}(h:Below (w.heap.size+1) (w.alloc (.cells #[.nilFunc,.nilFunc] 318)) z):z.cell? (aB w.heap.size 0)=some .nilFunc/\z.cell? (aB w.heap.size 1)=some .nilFunc/\z.frozen? (aB w.heap.size 0)=false/\z.frozen? (aB w.heap.size 1)=false:=by have hb:aS z w.heap.size 318 [.nilFunc,.nilFunc]:=(aS.new w 318 [.nilFunc,.nilFunc]).of_heap (h.block _ aj);exact⟨hb.cell 0,hb.cell 1,hb.frozen 0,hb.frozen 1⟩
theorem XL(w:World):Calls prog 217 #[iZ 2] w fun e w'=>Laid w w' [(0,2),(5,0)] e:=by
 go_enter func217,ntmps217;go_wp2_with fail;refine(jM 2 _ rfl _).mono ?_;rintro e I ⟨g,f,rfl,k,c⟩;have r:Hid (Below (w.heap.size+1) (w.alloc (.cells #[.nilFunc,.nilFunc] 318)) I):=c.mono aP;have H:=aG k;have A:=aG c;clear k c;go_wp2_with fail;refine(IK _).mono ?_;rintro e b ⟨i,h,rfl,l,d⟩;have s:Hid (Below (w.heap.size+1) (w.alloc (.cells #[.nilFunc,.nilFunc] 318)) b):=dF r.out aP d;have G:=aG l;have q:=aG d;clear l d;go_wp2_with fail;refine(jq _ ⟨_,_,_,rfl⟩ _).mono ?_;rintro e z ⟨pb,rfl,x,n⟩;have o:bJ b (b.alloc (.cells #[g,f,i,h] 318)):=(j3 _ _).alloc (eB _) _;have t:Below (w.heap.size+1) (w.alloc (.cells #[.nilFunc,.nilFunc] 318)) (b.alloc (.cells #[g,f,i,h] 318)):=dF s.out aP o;have p:Below (w.heap.size+1) (w.alloc (.cells #[.nilFunc,.nilFunc] 318)) z:=dF t aP n;obtain⟨F,i1,i2,i3⟩:=kD p;have hq:aS z b.heap.size 318 [g,f,i,h]:=(aS.new b 318 [g,f,i,h]).of_heap (n.block _ aP);have Q1:=aG ((((H.out.below q.out).below o).below n).mono (B0:=w.heap.size+1) aP);have D:=aG (((G.out.below o).below n).mono (B0:=w.heap.size+1) (by have:=r.out.size;simp at this;omega));have u:w.heap.size+1<=b.heap.size:=by have:=s.out.size;simp at this;omega
 have J:=aG (x.mono (B0:=w.heap.size+1) (by simp;omega));have B:=aG hq;have C:=aG p;have y:=aG u;clear x hq p t o n u;go_wp2_with fail;obtain⟨f1,f2⟩:=kC C.out (.func (.func 323) #[] #[aI pb 0]) (.func (.func 324) #[] #[aI pb 0]);refine bodyPost_ret (v:=.agg #[.func (.func 323) #[] #[aI pb 0],.func (.func 324) #[] #[aI pb 0]]) (by simp[results,results217,go_sem,F,i1]) rfl ⟨_,_,rfl,⟨pb,b.heap.size,rfl,rfl,J.out.of f2,y.out,?_⟩,f1⟩;intro j E;have a:aS _ b.heap.size 318 [g,f,i,h]:=B.out.of_heap (f2 _ y.out);match j,E with
 |0,_=>exact⟨g,f,a.cell 0,a.cell 1,Q1.out.of f2⟩
 |1,_=>exact⟨i,h,a.cell 2,a.cell 3,D.out.of f2⟩
 |(m+2),hm=>exact absurd hm aP
theorem XM(w:World):Calls prog 217 #[iZ 3] w fun e w'=>Laid w w' [(0,36),(2,0),(3,279),(3,280)] e:=by
 go_enter func217,ntmps217;go_wp2_with fail;refine(jM 36 _ rfl _).mono ?_;rintro e X ⟨n,l,rfl,u,c⟩;have D:Hid (Below (w.heap.size+1) (w.alloc (.cells #[.nilFunc,.nilFunc] 318)) X):=c.mono aP;have W:=aG u;have M:=aG c;clear u c;go_wp2_with fail;refine(sW _).mono ?_;rintro e Y ⟨p,o,rfl,x,d⟩;have E:Hid (Below (w.heap.size+1) (w.alloc (.cells #[.nilFunc,.nilFunc] 318)) Y):=dF D.out aP d;have V:=aG x;have B:=aG d;clear x d;go_wp2_with fail;refine(jl 279 _).mono ?_;rintro e Z ⟨s,r,rfl,y,f⟩;have F:Hid (Below (w.heap.size+1) (w.alloc (.cells #[.nilFunc,.nilFunc] 318)) Z):=dF E.out aP f;have yO:=aG y;have t:=aG f;clear y f;go_wp2_with fail;refine(jl 280 _).mono ?_;rintro e b ⟨i,k,rfl,I,g⟩;have G:Hid (Below (w.heap.size+1) (w.alloc (.cells #[.nilFunc,.nilFunc] 318)) b):=dF F.out aP g;have O:=aG I;have C:=aG g;clear I g;go_wp2_with fail;refine(jq _ ⟨_,_,_,rfl⟩ _).mono ?_;rintro e z ⟨pb,rfl,K,h⟩;have q:bJ b (b.alloc (.cells #[n,l,p,o,s,r,i,k] 318)):=(j3 _ _).alloc (eB _) _;have H:Below (w.heap.size+1) (w.alloc (.cells #[.nilFunc,.nilFunc] 318)) (b.alloc (.cells #[n,l,p,o,s,r,i,k] 318)):=dF G.out aP q;have A:Below (w.heap.size+1) (w.alloc (.cells #[.nilFunc,.nilFunc] 318)) z:=dF H aP h;obtain⟨U,i1,i2,i3⟩:=kD A;have hq:aS z b.heap.size 318 [n,l,p,o,s,r,i,k]:=(aS.new b 318 [n,l,p,o,s,r,i,k]).of_heap (h.block _ aP);have Q1:=aG ((((((W.out.below B.out).below t.out).below C.out).below q).below h).mono (B0:=w.heap.size+1) aP);have Q:=aG (((((V.out.below t.out).below C.out).below q).below h).mono (B0:=w.heap.size+1) (by have:=D.out.size;simp at this;omega));have R:=aG ((((yO.out.below C.out).below q).below h).mono (B0:=w.heap.size+1) (by have:=E.out.size;simp at this;omega));have S:=aG (((O.out.below q).below h).mono (B0:=w.heap.size+1) (by have:=F.out.size;simp at this;omega));have J:w.heap.size+1<=b.heap.size:=by have:=G.out.size;simp at this;omega
 have zK:=aG (K.mono (B0:=w.heap.size+1) (by simp;omega));have N:=aG hq;have P:=aG A;have L:=aG J;clear K hq A H q h J;go_wp2_with fail;obtain⟨f1,f2⟩:=kC P.out (.func (.func 323) #[] #[aI pb 0]) (.func (.func 324) #[] #[aI pb 0]);refine bodyPost_ret (v:=.agg #[.func (.func 323) #[] #[aI pb 0],.func (.func 324) #[] #[aI pb 0]]) (by simp[results,results217,go_sem,U,i1]) rfl ⟨_,_,rfl,⟨pb,b.heap.size,rfl,rfl,zK.out.of f2,L.out,?_⟩,f1⟩;intro j T;have a:aS _ b.heap.size 318 [n,l,p,o,s,r,i,k]:=N.out.of_heap (f2 _ L.out);match j,T with
 |0,_=>exact⟨n,l,a.cell 0,a.cell 1,Q1.out.of f2⟩
 |1,_=>exact⟨p,o,a.cell 2,a.cell 3,Q.out.of f2⟩
 |2,_=>exact⟨s,r,a.cell 4,a.cell 5,R.out.of f2⟩
 |3,_=>exact⟨i,k,a.cell 6,a.cell 7,S.out.of f2⟩
 |(m+4),hm=>exact absurd hm aP
theorem XO(w:World):Calls prog 217 #[iZ 4] w fun e w'=>Laid w w' [(1,0),(2,0),(3,279),(4,0)] e:=by
 go_enter func217,ntmps217;go_wp2_with fail;refine(Lx _).mono ?_;rintro e X ⟨n,l,rfl,u,c⟩;have D:Hid (Below (w.heap.size+1) (w.alloc (.cells #[.nilFunc,.nilFunc] 318)) X):=c.mono aP;have W:=aG u;have M:=aG c;clear u c;go_wp2_with fail;refine(sW _).mono ?_;rintro e Y ⟨p,o,rfl,x,d⟩;have E:Hid (Below (w.heap.size+1) (w.alloc (.cells #[.nilFunc,.nilFunc] 318)) Y):=dF D.out aP d;have V:=aG x;have B:=aG d;clear x d;go_wp2_with fail;refine(jl 279 _).mono ?_;rintro e Z ⟨s,r,rfl,y,f⟩;have F:Hid (Below (w.heap.size+1) (w.alloc (.cells #[.nilFunc,.nilFunc] 318)) Z):=dF E.out aP f;have yO:=aG y;have t:=aG f;clear y f;go_wp2_with fail;refine(Eu _).mono ?_;rintro e b ⟨i,k,rfl,I,g⟩;have G:Hid (Below (w.heap.size+1) (w.alloc (.cells #[.nilFunc,.nilFunc] 318)) b):=dF F.out aP g;have O:=aG I;have C:=aG g;clear I g;go_wp2_with fail;refine(jq _ ⟨_,_,_,rfl⟩ _).mono ?_;rintro e z ⟨pb,rfl,K,h⟩;have q:bJ b (b.alloc (.cells #[n,l,p,o,s,r,i,k] 318)):=(j3 _ _).alloc (eB _) _;have H:Below (w.heap.size+1) (w.alloc (.cells #[.nilFunc,.nilFunc] 318)) (b.alloc (.cells #[n,l,p,o,s,r,i,k] 318)):=dF G.out aP q;have A:Below (w.heap.size+1) (w.alloc (.cells #[.nilFunc,.nilFunc] 318)) z:=dF H aP h;obtain⟨U,i1,i2,i3⟩:=kD A;have hq:aS z b.heap.size 318 [n,l,p,o,s,r,i,k]:=(aS.new b 318 [n,l,p,o,s,r,i,k]).of_heap (h.block _ aP);have Q1:=aG ((((((W.out.below B.out).below t.out).below C.out).below q).below h).mono (B0:=w.heap.size+1) aP);have Q:=aG (((((V.out.below t.out).below C.out).below q).below h).mono (B0:=w.heap.size+1) (by have:=D.out.size;simp at this;omega));have R:=aG ((((yO.out.below C.out).below q).below h).mono (B0:=w.heap.size+1) (by have:=E.out.size;simp at this;omega));have S:=aG (((O.out.below q).below h).mono (B0:=w.heap.size+1) (by have:=F.out.size;simp at this;omega));have J:w.heap.size+1<=b.heap.size:=by have:=G.out.size;simp at this;omega
 have zK:=aG (K.mono (B0:=w.heap.size+1) (by simp;omega));have N:=aG hq;have P:=aG A;have L:=aG J;clear K hq A H q h J;go_wp2_with fail;obtain⟨f1,f2⟩:=kC P.out (.func (.func 323) #[] #[aI pb 0]) (.func (.func 324) #[] #[aI pb 0]);refine bodyPost_ret (v:=.agg #[.func (.func 323) #[] #[aI pb 0],.func (.func 324) #[] #[aI pb 0]]) (by simp[results,results217,go_sem,U,i1]) rfl ⟨_,_,rfl,⟨pb,b.heap.size,rfl,rfl,zK.out.of f2,L.out,?_⟩,f1⟩;intro j T;have a:aS _ b.heap.size 318 [n,l,p,o,s,r,i,k]:=N.out.of_heap (f2 _ L.out);match j,T with
 |0,_=>exact⟨n,l,a.cell 0,a.cell 1,Q1.out.of f2⟩
 |1,_=>exact⟨p,o,a.cell 2,a.cell 3,Q.out.of f2⟩
 |2,_=>exact⟨s,r,a.cell 4,a.cell 5,R.out.of f2⟩
 |3,_=>exact⟨i,k,a.cell 6,a.cell 7,S.out.of f2⟩
 |(m+4),hm=>exact absurd hm aP
theorem XP(w:World):Calls prog 217 #[iZ 5] w fun e w'=>Laid w w' [(0,16),(3,283)] e:=by
 go_enter func217,ntmps217;go_wp2_with fail;refine(jM 16 _ rfl _).mono ?_;rintro e I ⟨g,f,rfl,k,c⟩;have r:Hid (Below (w.heap.size+1) (w.alloc (.cells #[.nilFunc,.nilFunc] 318)) I):=c.mono aP;have H:=aG k;have A:=aG c;clear k c;go_wp2_with fail;refine(jl 283 _).mono ?_;rintro e b ⟨i,h,rfl,l,d⟩;have s:Hid (Below (w.heap.size+1) (w.alloc (.cells #[.nilFunc,.nilFunc] 318)) b):=dF r.out aP d;have G:=aG l;have q:=aG d;clear l d;go_wp2_with fail;refine(jq _ ⟨_,_,_,rfl⟩ _).mono ?_;rintro e z ⟨pb,rfl,x,n⟩;have o:bJ b (b.alloc (.cells #[g,f,i,h] 318)):=(j3 _ _).alloc (eB _) _;have t:Below (w.heap.size+1) (w.alloc (.cells #[.nilFunc,.nilFunc] 318)) (b.alloc (.cells #[g,f,i,h] 318)):=dF s.out aP o;have p:Below (w.heap.size+1) (w.alloc (.cells #[.nilFunc,.nilFunc] 318)) z:=dF t aP n;obtain⟨F,i1,i2,i3⟩:=kD p;have hq:aS z b.heap.size 318 [g,f,i,h]:=(aS.new b 318 [g,f,i,h]).of_heap (n.block _ aP);have Q1:=aG ((((H.out.below q.out).below o).below n).mono (B0:=w.heap.size+1) aP);have D:=aG (((G.out.below o).below n).mono (B0:=w.heap.size+1) (by have:=r.out.size;simp at this;omega));have u:w.heap.size+1<=b.heap.size:=by have:=s.out.size;simp at this;omega
 have J:=aG (x.mono (B0:=w.heap.size+1) (by simp;omega));have B:=aG hq;have C:=aG p;have y:=aG u;clear x hq p t o n u;go_wp2_with fail;obtain⟨f1,f2⟩:=kC C.out (.func (.func 323) #[] #[aI pb 0]) (.func (.func 324) #[] #[aI pb 0]);refine bodyPost_ret (v:=.agg #[.func (.func 323) #[] #[aI pb 0],.func (.func 324) #[] #[aI pb 0]]) (by simp[results,results217,go_sem,F,i1]) rfl ⟨_,_,rfl,⟨pb,b.heap.size,rfl,rfl,J.out.of f2,y.out,?_⟩,f1⟩;intro j E;have a:aS _ b.heap.size 318 [g,f,i,h]:=B.out.of_heap (f2 _ y.out);match j,E with
 |0,_=>exact⟨g,f,a.cell 0,a.cell 1,Q1.out.of f2⟩
 |1,_=>exact⟨i,h,a.cell 2,a.cell 3,D.out.of f2⟩
 |(m+2),hm=>exact absurd hm aP
theorem XQ(w:World):Calls prog 217 #[iZ 6] w fun e w'=>Laid w w' [(0,17),(2,0),(3,283)] e:=by
 go_enter func217,ntmps217;go_wp2_with fail;refine(jM 17 _ rfl _).mono ?_;rintro e P ⟨i,h,rfl,q,c⟩;have y:Hid (Below (w.heap.size+1) (w.alloc (.cells #[.nilFunc,.nilFunc] 318)) P):=c.mono aP;have O:=aG q;have G:=aG c;clear q c;go_wp2_with fail;refine(sW _).mono ?_;rintro e Q ⟨l,k,rfl,r,d⟩;have A:Hid (Below (w.heap.size+1) (w.alloc (.cells #[.nilFunc,.nilFunc] 318)) Q):=dF y.out aP d;have N:=aG r;have x:=aG d;clear r d;go_wp2_with fail;refine(jl 283 _).mono ?_;rintro e b ⟨o,n,rfl,s,f⟩;have B:Hid (Below (w.heap.size+1) (w.alloc (.cells #[.nilFunc,.nilFunc] 318)) b):=dF A.out aP f;have R:=aG s;have p:=aG f;clear s f;go_wp2_with fail;refine(jq _ ⟨_,_,_,rfl⟩ _).mono ?_;rintro e z ⟨pb,rfl,E,g⟩;have t:bJ b (b.alloc (.cells #[i,h,l,k,o,n] 318)):=(j3 _ _).alloc (eB _) _;have C:Below (w.heap.size+1) (w.alloc (.cells #[.nilFunc,.nilFunc] 318)) (b.alloc (.cells #[i,h,l,k,o,n] 318)):=dF B.out aP t;have u:Below (w.heap.size+1) (w.alloc (.cells #[.nilFunc,.nilFunc] 318)) z:=dF C aP g;obtain⟨M,i1,i2,i3⟩:=kD u;have hq:aS z b.heap.size 318 [i,h,l,k,o,n]:=(aS.new b 318 [i,h,l,k,o,n]).of_heap (g.block _ aP);have Q1:=aG (((((O.out.below x.out).below p.out).below t).below g).mono (B0:=w.heap.size+1) aP);have J:=aG ((((N.out.below p.out).below t).below g).mono (B0:=w.heap.size+1) (by have:=y.out.size;simp at this;omega));have K:=aG (((R.out.below t).below g).mono (B0:=w.heap.size+1) (by have:=A.out.size;simp at this;omega));have D:w.heap.size+1<=b.heap.size:=by have:=B.out.size;simp at this;omega
 have S:=aG (E.mono (B0:=w.heap.size+1) (by simp;omega));have H:=aG hq;have I:=aG u;have F:=aG D;clear E hq u C t g D;go_wp2_with fail;obtain⟨f1,f2⟩:=kC I.out (.func (.func 323) #[] #[aI pb 0]) (.func (.func 324) #[] #[aI pb 0]);refine bodyPost_ret (v:=.agg #[.func (.func 323) #[] #[aI pb 0],.func (.func 324) #[] #[aI pb 0]]) (by simp[results,results217,go_sem,M,i1]) rfl ⟨_,_,rfl,⟨pb,b.heap.size,rfl,rfl,S.out.of f2,F.out,?_⟩,f1⟩;intro j L;have a:aS _ b.heap.size 318 [i,h,l,k,o,n]:=H.out.of_heap (f2 _ F.out);match j,L with
 |0,_=>exact⟨i,h,a.cell 0,a.cell 1,Q1.out.of f2⟩
 |1,_=>exact⟨l,k,a.cell 2,a.cell 3,J.out.of f2⟩
 |2,_=>exact⟨o,n,a.cell 4,a.cell 5,K.out.of f2⟩
 |(m+3),hm=>exact absurd hm aP
theorem XR(w:World):Calls prog 217 #[iZ 7] w fun e w'=>Laid w w' [(0,48),(3,284),(3,285),(4,0)] e:=by
 go_enter func217,ntmps217;go_wp2_with fail;refine(jM 48 _ rfl _).mono ?_;rintro e X ⟨n,l,rfl,u,c⟩;have D:Hid (Below (w.heap.size+1) (w.alloc (.cells #[.nilFunc,.nilFunc] 318)) X):=c.mono aP;have W:=aG u;have M:=aG c;clear u c;go_wp2_with fail;refine(jl 284 _).mono ?_;rintro e Y ⟨p,o,rfl,x,d⟩;have E:Hid (Below (w.heap.size+1) (w.alloc (.cells #[.nilFunc,.nilFunc] 318)) Y):=dF D.out aP d;have V:=aG x;have B:=aG d;clear x d;go_wp2_with fail;refine(jl 285 _).mono ?_;rintro e Z ⟨s,r,rfl,y,f⟩;have F:Hid (Below (w.heap.size+1) (w.alloc (.cells #[.nilFunc,.nilFunc] 318)) Z):=dF E.out aP f;have yO:=aG y;have t:=aG f;clear y f;go_wp2_with fail;refine(Eu _).mono ?_;rintro e b ⟨i,k,rfl,I,g⟩;have G:Hid (Below (w.heap.size+1) (w.alloc (.cells #[.nilFunc,.nilFunc] 318)) b):=dF F.out aP g;have O:=aG I;have C:=aG g;clear I g;go_wp2_with fail;refine(jq _ ⟨_,_,_,rfl⟩ _).mono ?_;rintro e z ⟨pb,rfl,K,h⟩;have q:bJ b (b.alloc (.cells #[n,l,p,o,s,r,i,k] 318)):=(j3 _ _).alloc (eB _) _;have H:Below (w.heap.size+1) (w.alloc (.cells #[.nilFunc,.nilFunc] 318)) (b.alloc (.cells #[n,l,p,o,s,r,i,k] 318)):=dF G.out aP q;have A:Below (w.heap.size+1) (w.alloc (.cells #[.nilFunc,.nilFunc] 318)) z:=dF H aP h;obtain⟨U,i1,i2,i3⟩:=kD A;have hq:aS z b.heap.size 318 [n,l,p,o,s,r,i,k]:=(aS.new b 318 [n,l,p,o,s,r,i,k]).of_heap (h.block _ aP);have Q1:=aG ((((((W.out.below B.out).below t.out).below C.out).below q).below h).mono (B0:=w.heap.size+1) aP);have Q:=aG (((((V.out.below t.out).below C.out).below q).below h).mono (B0:=w.heap.size+1) (by have:=D.out.size;simp at this;omega));have R:=aG ((((yO.out.below C.out).below q).below h).mono (B0:=w.heap.size+1) (by have:=E.out.size;simp at this;omega));have S:=aG (((O.out.below q).below h).mono (B0:=w.heap.size+1) (by have:=F.out.size;simp at this;omega));have J:w.heap.size+1<=b.heap.size:=by have:=G.out.size;simp at this;omega
 have zK:=aG (K.mono (B0:=w.heap.size+1) (by simp;omega));have N:=aG hq;have P:=aG A;have L:=aG J;clear K hq A H q h J;go_wp2_with fail;obtain⟨f1,f2⟩:=kC P.out (.func (.func 323) #[] #[aI pb 0]) (.func (.func 324) #[] #[aI pb 0]);refine bodyPost_ret (v:=.agg #[.func (.func 323) #[] #[aI pb 0],.func (.func 324) #[] #[aI pb 0]]) (by simp[results,results217,go_sem,U,i1]) rfl ⟨_,_,rfl,⟨pb,b.heap.size,rfl,rfl,zK.out.of f2,L.out,?_⟩,f1⟩;intro j T;have a:aS _ b.heap.size 318 [n,l,p,o,s,r,i,k]:=N.out.of_heap (f2 _ L.out);match j,T with
 |0,_=>exact⟨n,l,a.cell 0,a.cell 1,Q1.out.of f2⟩
 |1,_=>exact⟨p,o,a.cell 2,a.cell 3,Q.out.of f2⟩
 |2,_=>exact⟨s,r,a.cell 4,a.cell 5,R.out.of f2⟩
 |3,_=>exact⟨i,k,a.cell 6,a.cell 7,S.out.of f2⟩
 |(m+4),hm=>exact absurd hm aP
theorem XT(w:World):Calls prog 217 #[iZ 8] w fun e w'=>Laid w w' [(0,28),(3,283)] e:=by
 go_enter func217,ntmps217;go_wp2_with fail;refine(jM 28 _ rfl _).mono ?_;rintro e I ⟨g,f,rfl,k,c⟩;have r:Hid (Below (w.heap.size+1) (w.alloc (.cells #[.nilFunc,.nilFunc] 318)) I):=c.mono aP;have H:=aG k;have A:=aG c;clear k c;go_wp2_with fail;refine(jl 283 _).mono ?_;rintro e b ⟨i,h,rfl,l,d⟩;have s:Hid (Below (w.heap.size+1) (w.alloc (.cells #[.nilFunc,.nilFunc] 318)) b):=dF r.out aP d;have G:=aG l;have q:=aG d;clear l d;go_wp2_with fail;refine(jq _ ⟨_,_,_,rfl⟩ _).mono ?_;rintro e z ⟨pb,rfl,x,n⟩;have o:bJ b (b.alloc (.cells #[g,f,i,h] 318)):=(j3 _ _).alloc (eB _) _;have t:Below (w.heap.size+1) (w.alloc (.cells #[.nilFunc,.nilFunc] 318)) (b.alloc (.cells #[g,f,i,h] 318)):=dF s.out aP o;have p:Below (w.heap.size+1) (w.alloc (.cells #[.nilFunc,.nilFunc] 318)) z:=dF t aP n;obtain⟨F,i1,i2,i3⟩:=kD p;have hq:aS z b.heap.size 318 [g,f,i,h]:=(aS.new b 318 [g,f,i,h]).of_heap (n.block _ aP);have Q1:=aG ((((H.out.below q.out).below o).below n).mono (B0:=w.heap.size+1) aP);have D:=aG (((G.out.below o).below n).mono (B0:=w.heap.size+1) (by have:=r.out.size;simp at this;omega));have u:w.heap.size+1<=b.heap.size:=by have:=s.out.size;simp at this;omega
 have J:=aG (x.mono (B0:=w.heap.size+1) (by simp;omega));have B:=aG hq;have C:=aG p;have y:=aG u;clear x hq p t o n u;go_wp2_with fail;obtain⟨f1,f2⟩:=kC C.out (.func (.func 323) #[] #[aI pb 0]) (.func (.func 324) #[] #[aI pb 0]);refine bodyPost_ret (v:=.agg #[.func (.func 323) #[] #[aI pb 0],.func (.func 324) #[] #[aI pb 0]]) (by simp[results,results217,go_sem,F,i1]) rfl ⟨_,_,rfl,⟨pb,b.heap.size,rfl,rfl,J.out.of f2,y.out,?_⟩,f1⟩;intro j E;have a:aS _ b.heap.size 318 [g,f,i,h]:=B.out.of_heap (f2 _ y.out);match j,E with
 |0,_=>exact⟨g,f,a.cell 0,a.cell 1,Q1.out.of f2⟩
 |1,_=>exact⟨i,h,a.cell 2,a.cell 3,D.out.of f2⟩
 |(m+2),hm=>exact absurd hm aP
theorem BG(b off:Nat)(w:World):Calls prog 279 #[aI b off] w fun e w'=>e=.returned (aI b (off+2))/\w'=w:=by go_enter func279,ntmps279;go_wp2;go_ret;exact⟨rfl,rfl⟩
theorem wV(b off:Nat)(w:World):Calls prog 280 #[aI b off] w fun e w'=>e=.returned (aI b (off+3))/\w'=w:=by go_enter func280,ntmps280;go_wp2;go_ret;exact⟨rfl,rfl⟩
theorem Ez(b off:Nat)(w:World):Calls prog 283 #[aI b off] w fun e w'=>e=.returned (aI b (off+4))/\w'=w:=by go_enter func283,ntmps283;go_wp2;go_ret;exact⟨rfl,rfl⟩
theorem Tv(b off:Nat)(w:World):Calls prog 284 #[aI b off] w fun e w'=>e=.returned (aI b (off+6))/\w'=w:=by go_enter func284,ntmps284;go_wp2;go_ret;exact⟨rfl,rfl⟩
theorem wX(b off:Nat)(w:World):Calls prog 285 #[aI b off] w fun e w'=>e=.returned (aI b (off+7))/\w'=w:=by go_enter func285,ntmps285;go_wp2;go_ret;exact⟨rfl,rfl⟩
def fieldAt(f:Fr)(a:Nat):Nat:=if a=279 then f.aD else if a=280 then f.aV else if a=283 then f.aL else if a=284 then f.id else f.aW
def dH(f:Fr)(a:Nat×Nat):List UInt8:=
 if a.1=0 then[UInt8.ofNat a.2]else if a.1=1 then[if f.bn then 9 else 8]else if a.1=2 then Num.ay f.aH.toNat else if a.1=3 then Num.ay (fieldAt f a.2)
 else if a.1=4 then Num.ay f.data.size++f.data.data.toList else gK f.ranges
def dJ(k:Int):bW:=
 if k=1 then[(0,1)]else if k=2 then[(0,2),(5,0)]else if k=3 then[(0,36),(2,0),(3,279),(3,280)]else if k=4 then[(1,0),(2,0),(3,279),(4,0)]else if k=5 then[(0,16),(3,283)]else if k=6 then[(0,17),(2,0),(3,283)]else if k=7 then[(0,48),(3,284),(3,285),(4,0)]else[(0,28),(3,283)]
def bD(f:Fr):List UInt8:=eF ((dJ f.aC).map (dH f)) (dJ f.aC).length
def IL(f:Fr)(a:Nat×Nat):Prop:=
 (a.1=0/\a.2<256)\/a.1=1\/a.1=2\/(a.1=3/\(a.2=279\/a.2=280\/a.2=283\/a.2=284\/a.2=285))\/a.1=4\/(a.1=5/\qp f.ranges=true)
structure Fit (f:Fr):Prop where
 s0:0<=f.aH
 s8:f.aH<8
 n0:f.aD<=dK
 n1:f.aV<=dK
 n2:f.aL<=dK
 n3:f.id<=dK
 n4:f.aW<=dK
theorem qU(f:Fr)(h:snd f=true):Fit f/\1<=f.aC/\f.aC<=8/\l7 f=true:=by unfold snd pQ at h;simp only[nA]at h;obtain⟨⟨⟨h1,⟨⟨⟨⟨c,d⟩,e⟩,g⟩,i⟩⟩,j⟩,k⟩:=h;have a:=of_decide_eq_true h1;have b:=of_decide_eq_true j;exact⟨⟨b.1,b.2,of_decide_eq_true c,of_decide_eq_true d,of_decide_eq_true e,of_decide_eq_true g,of_decide_eq_true i⟩,a.1,a.2,k⟩
theorem NQ{B0:Nat}{w1:World}{c:Nat×Nat}{o fr:Value}(p:jo B0 w1 c o fr)(b off:Nat)(f:Fr)(ra:Option Addr)(rc:Nat)(j:Fit f)(k:IL f c)(m:f.ranges.length<=rc):Wr B0 w1.heap.size w1 o (dH f c) b off f ra rc:=by
 unfold dH;rcases p with⟨h,xb,g,d,_⟩|⟨h,d,_⟩|⟨h,d,_⟩|⟨h,xb,g,d,_⟩|⟨h,d,_⟩|⟨h,d,_⟩
 ·rw[bK h,d];have n:c.2<256:=by rcases k with e|e|e|e|e|e<;>omega
  exact Tf xb (UInt8.ofNat c.2) b off f ra rc g.1 (lg _ _ g.2) (by rw[UInt8.toNat_ofNat_of_lt' n];exact g.2)
 ·rw[aU aj,bK h,d];exact FW b off f ra rc
 ·rw[aU aj,aU aj,bK h,d];exact Pm b off f ra rc j.s0 j.s8
 ·rw[aU aj,aU aj,aU aj,bK h,d];have l:c.2=279\/c.2=280\/c.2=283\/c.2=284\/c.2=285:=by
   rcases k with e|e|e|e|e|e;·omega
   ·omega
   ·omega
   ·exact e.2
   ·omega
   ·omega
  have hl:=lg _ _ g.2;have a:=g.2;rcases l with e|e|e|e|e;·rw[e]at a ⊢;exact qw xb 279 2 f.aD b off f ra rc g.1 hl a (enters_of func279 bH rfl) (BG b off) (fun w i=>i.c2) j.n0
  ·rw[e]at a ⊢;exact qw xb 280 3 f.aV b off f ra rc g.1 hl a (enters_of func280 bH rfl) (wV b off) (fun w i=>i.c3) j.n1
  ·rw[e]at a ⊢;exact qw xb 283 4 f.aL b off f ra rc g.1 hl a (enters_of func283 bH rfl) (Ez b off) (fun w i=>i.c4) j.n2
  ·rw[e]at a ⊢;exact qw xb 284 6 f.id b off f ra rc g.1 hl a (enters_of func284 bH rfl) (Tv b off) (fun w i=>i.c6) j.n3
  ·rw[e]at a ⊢;exact qw xb 285 7 f.aW b off f ra rc g.1 hl a (enters_of func285 bH rfl) (wX b off) (fun w i=>i.c7) j.n4
 ·rw[aU aj,aU aj,aU aj,aU aj,bK h,d];exact XJ b off f ra rc
 ·rw[aU aj,aU aj,aU aj,aU aj,aU aj,d];have q:qp f.ranges=true:=by
   rcases k with e|e|e|e|e|e;·omega
   ·omega
   ·omega
   ·omega
   ·omega
   ·exact e.2
  exact Pn b off f ra rc q m
theorem qal{B0:Nat}{w1:World}{d:bW}{s fr:Value}(w:Tt B0 w1 d s fr)(m:d.length<=100)(b off:Nat)(f:Fr)(ra:Option Addr)(rc:Nat)(x:Fit f)(q:∀t∈d,IL f t)(r:f.ranges.length<=rc)(o:0<d.length):Wr B0 w1.heap.size w1 s (eF (d.map (dH f)) d.length) b off f ra rc:=by
 obtain⟨pb,p,rfl,_,hB,hq,k⟩:=w;have l:∃i NR:Nat->Value,∀j,j<d.length->w1.cell? (aB p (j*2))=some (i j)/\w1.cell? (aB p (j*2+1))=some (NR j)/\jo B0 w1 (d.getD j (0,0)) (i j) (NR j):=by refine⟨fun j=>(w1.cell? (aB p (j*2))).getD undef,fun j=>(w1.cell? (aB p (j*2+1))).getD undef,fun j g=>?_⟩;obtain⟨a,c,h1,u,v⟩:=k j g;refine⟨by simp[h1],by simp[u],?_⟩;simpa[h1,u]using v
 obtain⟨i,NR,hF⟩:=l;have n:∀j,j<d.length->d.getD j (0,0)∈d:=fun j g=>by rw[mK,mR g];exact nU _
 refine Lu pb p d.length i NR _ b off f ra rc m hB.1 (lg _ _ hB.2) hq (lg _ _ (hF 0 o).1) hB.2 (fun j g=>⟨(hF j g).1,(hF j g).2.1⟩) (fun j g=>?_) (fun j g=>?_);·rcases(hF j g).2.2 with⟨_,xb,_,_,h⟩|⟨_,_,h⟩|⟨_,_,h⟩|⟨_,xb,_,_,h⟩|⟨_,_,h⟩|⟨_,_,h⟩<;>exact⟨_,_,h⟩
 ·have:=NQ (hF j g).2.2 b off f ra rc x (q _ (n j g)) r;have e:(d.map (dH f)).getD j []=dH f (d.getD j (0,0)):=by simp[g]
  rw[e];exact this
def I6(B0:Nat)(w:World)(k:Int)(a fr:Value):Prop:=k=1/\jo B0 w (0,1) a fr\/k≠1/\Tt B0 w (dJ k) a fr
theorem XZ(w:World):Calls prog 217 #[iZ 1] w fun e w'=>∃j fr,e=.returned (.agg #[j,fr])/\jo (w.heap.size+1) w' (0,1) j fr/\bJ w w':=by
 go_enter func217,ntmps217;go_wp2_with fail;refine(jM 1 _ rfl _).mono ?_;rintro e o ⟨m,l,rfl,a,c⟩;have i:Hid (Below (w.heap.size+1) (w.alloc (.cells #[.nilFunc,.nilFunc] 318)) o):=c.mono aP;have n:=aG (a.mono (B0:=w.heap.size+1) aP);obtain⟨k,i1,i2,i3⟩:=kD i.out;have d:∃f c1 g c2,m=.func (.func f) #[] c1/\l=.func (.func g) #[] c2:=by rcases a with⟨_,xb,_,h,b⟩|⟨_,h,b⟩|⟨_,h,b⟩|⟨_,xb,_,h,b⟩|⟨_,h,b⟩|⟨_,h,b⟩<;>exact⟨_,_,_,_,h,b⟩
 obtain⟨f,c1,g,c2,rfl,rfl⟩:=d;clear a c;go_wp2_with fail;obtain⟨f1,f2⟩:=kC i.out (.func (.func f) #[] c1) (.func (.func g) #[] c2);exact bodyPost_ret (v:=.agg #[.func (.func f) #[] c1,.func (.func g) #[] c2]) (by simp[results,results217,go_sem,k,i1]) rfl ⟨_,_,rfl,n.out.of f2,f1⟩
theorem qX(k:Int)(h1:1<=k)(d:k<=8)(w:World):Calls prog 217 #[iZ k] w fun e w'=>∃a fr,e=.returned (.agg #[a,fr])/\I6 (w.heap.size+1) w' k a fr/\bJ w w':=by
 have h:k=1\/k=2\/k=3\/k=4\/k=5\/k=6\/k=7\/k=8:=aj;rcases h with rfl|rfl|rfl|rfl|rfl|rfl|rfl|rfl;·exact(XZ w).mono (fun e w' ⟨a,fr,h1,b,c⟩=>⟨a,fr,h1,.inl ⟨rfl,b⟩,c⟩)
 ·exact(XL w).mono (fun e w' ⟨a,fr,h1,b,c⟩=>⟨a,fr,h1,.inr ⟨iO,b⟩,c⟩)
 ·exact(XM w).mono (fun e w' ⟨a,fr,h1,b,c⟩=>⟨a,fr,h1,.inr ⟨iO,b⟩,c⟩)
 ·exact(XO w).mono (fun e w' ⟨a,fr,h1,b,c⟩=>⟨a,fr,h1,.inr ⟨iO,b⟩,c⟩)
 ·exact(XP w).mono (fun e w' ⟨a,fr,h1,b,c⟩=>⟨a,fr,h1,.inr ⟨iO,b⟩,c⟩)
 ·exact(XQ w).mono (fun e w' ⟨a,fr,h1,b,c⟩=>⟨a,fr,h1,.inr ⟨iO,b⟩,c⟩)
 ·exact(XR w).mono (fun e w' ⟨a,fr,h1,b,c⟩=>⟨a,fr,h1,.inr ⟨iO,b⟩,c⟩)
 ·exact(XT w).mono (fun e w' ⟨a,fr,h1,b,c⟩=>⟨a,fr,h1,.inr ⟨iO,b⟩,c⟩)
theorem N7(f:Fr)(h:snd f=true):∀t∈dJ f.aC,IL f t:=by
 obtain⟨_,h1,c,a⟩:=qU f h;have h:f.aC=1\/f.aC=2\/f.aC=3\/f.aC=4\/f.aC=5\/f.aC=6\/f.aC=7\/f.aC=8:=aj;intro t ht;unfold IL;rcases h with e|e|e|e|e|e|e|e;·rw[e,show dJ 1=[(0,1)]from rfl]at ht;simp at ht;subst ht;simp
 ·rw[e,show dJ 2=[(0,2),(5,0)]from rfl]at ht;have b:qp f.ranges=true:=by unfold l7 at a;rw[bK e]at a;exact a
  simp at ht;rcases ht with rfl|rfl<;>simp[b]
 ·rw[e,show dJ 3=[(0,36),(2,0),(3,279),(3,280)]from rfl]at ht;simp at ht;rcases ht with rfl|rfl|rfl|rfl<;>simp
 ·rw[e,show dJ 4=[(1,0),(2,0),(3,279),(4,0)]from rfl]at ht;simp at ht;rcases ht with rfl|rfl|rfl|rfl<;>simp
 ·rw[e,show dJ 5=[(0,16),(3,283)]from rfl]at ht;simp at ht;rcases ht with rfl|rfl<;>simp
 ·rw[e,show dJ 6=[(0,17),(2,0),(3,283)]from rfl]at ht;simp at ht;rcases ht with rfl|rfl|rfl<;>simp
 ·rw[e,show dJ 7=[(0,48),(3,284),(3,285),(4,0)]from rfl]at ht;simp at ht;rcases ht with rfl|rfl|rfl|rfl<;>simp
 ·rw[e,show dJ 8=[(0,28),(3,283)]from rfl]at ht;simp at ht;rcases ht with rfl|rfl<;>simp
theorem w_(k:Int):0<(dJ k).length/\(dJ k).length<=100:=by
 unfold dJ;repeat' split
 all_goals exact⟨iO,iO⟩
theorem N8{B0:Nat}{w1:World}{d fr:Value}(f:Fr)(c:I6 B0 w1 f.aC d fr)(h:snd f=true)(b off:Nat)(ra:Option Addr)(rc:Nat)(a:f.ranges.length<=rc):Wr B0 w1.heap.size w1 d (bD f) b off f ra rc:=by
 obtain⟨g,_⟩:=qU f h;rcases c with⟨e,i⟩|⟨_,c⟩
 ·have:=NQ i b off f ra rc g (.inl ⟨rfl,iO⟩) a;have hb:bD f=dH f (0,1):=by
   unfold bD;rw[e,show dJ 1=[(0,1)]from rfl];rfl
  rw[hb];exact this
 ·exact qal c (w_ _).2 b off f ra rc g (N7 f h) a (w_ _).1
def iM:Fr:=⟨0,0,0,0,0,false,0,0,⟨#[]⟩,[]⟩
def mg(w:World)(fa:Option Addr)(fs:List Fr)(ra:Nat->Option Addr)(rc:Nat->Nat):Prop:=
 ∀j,j<fs.length->∃b off,fa=some (aB b off)/\nX w b (off+j*10) (fs.getD j iM) (ra j) (rc j)/\(fs.getD j iM).ranges.length<=rc j/\∀x,ra j=some x->x.block<w.heap.size
theorem mg.below{w w':World}{fa:Option Addr}{fs:List Fr}{ra:Nat->Option Addr}{rc:Nat->Nat}(h:mg w fa fs ra rc)(hb:bJ w w'):mg w' fa fs ra rc:=fun j e=>by obtain⟨b,off,d,h1,a,c⟩:=h j e;exact⟨b,off,d,h1.below hb,a,fun x f=>Nat.lt_of_lt_of_le (c x f) hb.size⟩
def sD(n:Nat)(fs:List Fr):Bool:=fs.all snd&&decide (n<=dK)&&decide (0<fs.length)
theorem xg(fs:List Fr):fs.all snd=true↔∀i,i<fs.length->snd (fs.getD i iM)=true:=by
 rw[List.all_eq_true];constructor;·intro h i hi;rw[mK,mR hi];exact h _ (nU _)
 ·intro h x a;obtain⟨i,hi,rfl⟩:=List.mem_iff_getElem.1 a;have:=h i hi;rwa[mK,mR hi]at this
theorem Av(n:Nat)(fa:Option Addr)(fs:List Fr)(r:Nat)(ra:Nat->Option Addr)(rc:Nat->Nat)(w:World)(hl:fs.length<=1000000000)(N:n<18446744073709551616)(hF:mg w fa fs ra rc):Calls prog 219 #[.agg #[uZ n,.slice fa fs.length r]] w fun e w'=>e=.returned (.bool (sD n fs))/\bJ w w':=by
 have I:=aG hF;have m:Hid (sD n fs=(fs.all snd&&decide (n<=dK)&&decide (0<fs.length))):=rfl;have F:=aG (xg fs);clear hF;go_enter func219,ntmps219;go_wp2_with fail;go_loopw [7] (fun C wr=>∃k:Nat,k<=fs.length/\C=(iZ k)/\Hid (∀i,i<k->snd (fs.getD i iM)=true)/\Hid (Below (w.heap.size+1) (w.alloc (.cells #[uZ n,.slice fa fs.length r] 56)) wr)) (fun C _=>fs.length-(nI C).toNat);case atStart=>exact⟨0,Nat.zero_le _,rfl,fun i hi=>absurd hi (Nat.not_lt_zero _),j3 _ _⟩
 case round=>
  obtain⟨k,M,rfl,q,t⟩:=hrel;have p:aS wr w.heap.size 56 [uZ n,.slice fa fs.length r]:=(aS.new w 56 [uZ n,.slice fa fs.length r]).of_heap (t.out.block _ aj);have K:=p.cell 0;have L:=p.cell 1;have d:Hid (bJ w wr):=((j3 _ w).alloc (eB _) _).trans (t.out.mono aj);have gQ:w.heap.size+1<=wr.heap.size:=by have:=t.out.size;simpa using this
  clear p;simp only[mI,mE]at K L;by_cases s:k<fs.length
  ·have E:(k:Int)<(fs.length:Int):=aj;obtain⟨b,off,J,G,_⟩:=I.out.below d.out k s;subst J;have D:=aG (sQ b (off+k*10) (fs.getD k iM) (ra k) (rc k) wr G);have a:snd (fs.getD k iM)=true->Hid (∀i,i<k+1->snd (fs.getD i iM)=true):=fun h i hi=>by
    by_cases e:i=k;·rw[e];exact h
    ·exact q.out i aj
   have j:snd (fs.getD k iM)=false->Hid (sD n fs=false):=fun h=>by
    have:fs.all snd=false:=by
     cases hq:fs.all snd;·rfl
     ·rw[F.out.1 hq k s]at h;cases h
    rw[m.out,this];rfl
   have u:=aG a;have c:=aG j;clear a j G;generalize snd (fs.getD k iM)=B at D u c;go_wp2_with fail;refine bN D.out ?_;rintro H o;have x:Hid (Below (w.heap.size+1) (w.alloc (.cells #[uZ n,.slice (some (aB b off)) fs.length r] 56)) H):=t.out.trans (o.mono aj);have A:Hid (bJ w H):=d.out.trans (o.mono aj);clear o;cases B;·have y:=c.out rfl;clear u c;go_wp2;go_ret;exact⟨dI y.out.symm,A.out⟩
   ·have y:=u.out rfl;clear u c;go_wp2;go_roundw;case rel=>exact⟨k+1,aj,by go_num,y,x⟩
    case measure=>simp[nI];omega
  ·obtain rfl:k=fs.length:=aj;have g:fs.all snd=true:=F.out.2 q.out;have v:Hid (sD n fs=(decide (n<=dK)&&decide (0<fs.length))):=by rw[m.out,g];rfl
   clear g m;by_cases f:n<=dK
   ·have z:(n:Int)<=4611686018427387903:=by unfold dK at f;omega
    have l:Hid (sD n fs=decide (0<fs.length)):=by rw[v.out,decide_eq_true f];rfl
    clear v;go_wp2;go_ret;exact⟨dI (by rw[l.out,decide_eq_decide]),d.out⟩
   ·have z:decide ((n:Int)<=4611686018427387903)=false:=by unfold dK at f;simp;omega
    have l:Hid (sD n fs=false):=by rw[v.out,decide_eq_false f];rfl
    clear v;go_wp2;go_ret;exact⟨dI l.out.symm,d.out⟩
def fV(n:Nat)(fs:List Fr):Nat->List UInt8
 |0=>Num.ay n
 |k+1=>fV n fs k++bD (fs.getD k iM)
def fK(n:Nat)(fs:List Fr):List UInt8:=fV n fs fs.length
def bT(n:Nat)(fs:List Fr):List UInt8:=fK n fs++iK (fK n fs)
theorem zR(n:Nat)(fs:List Fr):∀(m k:Nat),k<=m->(fV n fs k).length<=(fV n fs m).length
 |0,k,h=>by obtain rfl:k=0:=aj;exact eB _
 |m+1,k,h=>by
  by_cases e:k=m+1;·rw[e];exact eB _
  ·have:=zR n fs m k aj;rw[fV,mY];omega
def Own(B:Nat)(v:Value):Prop:=∀k,v.ownBlock=some k->B<=k
theorem Own.nil(B:Nat):Own B nZ:=fun k a=>by simp[Value.ownBlock]at a
theorem Gr.own{B:Nat}{w w':World}{v v':Value}(h:Gr w w' v v')(b:Own B v)(hB:B<=w.heap.size):Own B v':=fun k a=>by
 rcases h.2 k a with e|e;·exact b k e
 ·omega
theorem Gr.below{B:Nat}{w w':World}{v v':Value}(h:Gr w w' v v')(a:Own B v)(hB:B<=w.heap.size):Below B w w':=
 ⟨h.1.os,h.1.tape,h.1.output,h.1.size,fun k b=>h.1.block k aj (fun e=>bV (a k e.symm))⟩
theorem j4.below{B:Nat}{w w':World}(h:j4 w)(hb:Below B w w')(hB:2<=B):j4 w':=fun k a=>cell_of (h k a) (hb.block 1 aj)
theorem qdd(a b:Nat)(c d:Array Value)(w:World):(Instr.field 318 (.agg #[.func (.func a) #[] c,.func (.func b) #[] d]) 0).run prog w=.ok (.func (.func a) #[] c) w:=bH
theorem qfr(a b:Nat)(c d:Array Value)(w:World):(Instr.field 318 (.agg #[.func (.func a) #[] c,.func (.func b) #[] d]) 1).run prog w=.ok (.func (.func b) #[] d) w:=bH
theorem jo.shape{B0:Nat}{w:World}{b:Nat×Nat}{c fr:Value}(h:jo B0 w b c fr):∃d c1 e c2,c=.func (.func d) #[] c1/\fr=.func (.func e) #[] c2:=by rcases h with⟨_,xb,_,h,a⟩|⟨_,h,a⟩|⟨_,h,a⟩|⟨_,xb,_,h,a⟩|⟨_,h,a⟩|⟨_,h,a⟩<;>exact⟨_,_,_,_,h,a⟩
theorem I6.shape{B0:Nat}{w:World}{k:Int}{a fr:Value}(h:I6 B0 w k a fr):∃b c1 c c2,a=.func (.func b) #[] c1/\fr=.func (.func c) #[] c2:=by
 rcases h with⟨_,h⟩|⟨_,pb,qb,h,h2,_⟩;·exact h.shape
 ·exact⟨_,_,_,_,h,h2⟩
theorem BM(n:Nat)(fa:Option Addr)(fs:List Fr)(M:Nat)(ra:Nat->Option Addr)(rc:Nat->Nat)(w:World)(hl:fs.length<=1000000000)(hF:mg w fa fs ra rc)(hS:sD n fs=true)(hT:j4 w)(h2:2<=w.heap.size)(d:(fK n fs).length<=1000000000):Calls prog 167 #[.agg #[uZ n,.slice fa fs.length M]] w fun e w'=>∃v,e=.returned (.tuple #[v,.nilIface])/\kL w' v (bT n fs)/\Own w.heap.size v/\bJ w w':=by
 have h:=hS;unfold sD at h;rw[nA,nA]at h;have hn:=of_decide_eq_true h.1.2;have X0:=(xg fs).1 h.1.1;unfold dK at hn;have HS:=aG (Av n fa fs M ra rc (w.alloc (.cells #[uZ n,.slice fa fs.length M] 56)) hl aj (hF.below ((j3 _ w).alloc (eB _) _)));rw[hS]at HS;have HF:=aG hF;have X3:=aG X0;have HT:=aG hT;have Et:=aG (zR n fs fs.length);have r:Hid ((fV n fs fs.length).length<=1000000000):=d;have h0:Hid (bT n fs=fV n fs fs.length++iK (fV n fs fs.length)):=rfl;have L:Hid (∀k,fV n fs (k+1)=fV n fs k++bD (fs.getD k iM)):=fun _=>rfl;have HZ:Hid (fV n fs 0=Num.ay n):=rfl;have U:n<4611686018427387904:=aj;have HN:=aG U;clear hS h hF X0 hT d hn U;go_enter func167,ntmps167;go_wp2_with fail;refine bN HS.out ?_;rintro w2 q;obtain⟨p,i⟩:=bZ (w.alloc (.cells #[uZ n,.slice fa fs.length M] 56));have B:p.heap.size=w.heap.size+1:=by rw[i];simp
 have o:aS p w.heap.size 56 [uZ n,.slice fa fs.length M]:=by rw[i];exact aS.new w 56 _
 have a:bJ w p:=by rw[i];exact(j3 _ w).alloc (eB _) _
 rw[<-i]at q;have l:=o.of_heap (q.block _ aj);have x0:=l.cell 0;simp only[mI]at x0;have HA:=aG (eU nZ [] n w2 (kL.nil w2) HN.out aP);have HW:=aG (dB B (dB o a));have z:=aG q;clear q l o a i B;go_wp2_with fail;refine HA.out.mono ?_;rintro e w3 ⟨v3,rfl,C,D⟩;obtain⟨B,o,a⟩:=HW.out;have E:bJ p w3:=z.out.trans (D.below (Own.nil _) z.out.size);have Q:Own p.heap.size v3:=D.own (Own.nil _) z.out.size;rw[List.nil_append,<-HZ.out]at C;have m:=o.of_heap (E.block _ aj);have X:=m.cell 1;simp only[mI,mE]at X;have K:=aG (dB C (dB E Q));clear C D E Q m B o a x0;go_wp2_with fail;go_loopw [4,17] (fun s4 LK wr=>∃k:Nat,k<=fs.length/\LK=(iZ k)/\Hid (kL wr s4 (fV n fs k)/\bJ p wr/\Own p.heap.size s4)) (fun _ LK _=>fs.length-(nI LK).toNat);case atStart=>exact⟨0,Nat.zero_le _,rfl,K.out⟩
 case round=>
  clear K X HA HS;obtain⟨k,hk,rfl,K⟩:=hrel;by_cases T:k<fs.length
  ·have h7:(k:Int)<(fs.length:Int):=aj;obtain⟨hB,hb,t⟩:=K.out;obtain⟨B,o,a⟩:=HW.out;have s:bJ w wr:=a.trans (hb.mono aj);obtain⟨b,off,ha,vV,V,G⟩:=HF.out k T;have I:=vV.below s;subst ha;have H:=X3.out k T;obtain⟨_,S,yL,_⟩:=qU _ H;have c0:=I.c0;have h8:b<w.heap.size:=lg _ _ vV.c0;have u:=o.of_heap (hb.block _ aj);have X:=u.cell 1;simp only[mI,mE]at X;have LP:=aG (qX _ S yL wr);have W:∀(wl:World) (N fr:Value),I6 (wr.heap.size+1) wl (fs.getD k iM).aC N fr->bJ wr wl->∃g cb,N=.func (.func g) #[] cb/\(∀args w,(callFunc g args).run prog w=.ok (.enter g args) w)/\Calls prog g (#[u4,(aI b (off+k*10))]++cb) wl fun e w'=>∃v',e=.returned v'/\kL w' v' (fV n fs (k+1))/\bJ p w'/\Own p.heap.size v':=by
    intro wl N fr P J;obtain⟨g,cb,h1,h2,h3⟩:=N8 _ P H b (off+k*10) (ra k) (rc k) V;refine⟨g,cb,h1,h2,?_⟩;have d:=Et.out (k+1) aj;have hc:=r.out;rw[L.out,mY]at d;have h4:=hb.size;have he:=J.size;refine(h3 wl u4 (fV n fs k) ⟨⟨eB _,fun _ _ _=>rfl⟩,hB.of_heap (fun j R=>J.block j (hB.lt j R)),fun j R=>.inl (bV (hB.lt j R)),I.below J,fun e=>bV (t _ e),fun x hx e=>FN (t _ e) (G x hx),fun x hx=>bV (G x hx)⟩ aj).mono ?_;rintro e w' ⟨v',rfl,f,c⟩;exact⟨v',rfl,by rw[L.out];exact f,(hb.trans (J.mono h4)).trans (c.below t aj),c.own t aj⟩
   have A:=aG W;clear W hB hb t s vV I H u o a S yL V G;generalize fs.getD k iM=F at c0 LP A;go_wp2_with fail;refine LP.out.mono ?_;rintro e wl ⟨N,fr,rfl,P,J⟩;obtain⟨_,_,g2,Po,_,h5⟩:=P.shape;subst h5;obtain⟨g,cb,h6,eg,hC⟩:=A.out wl N _ P J;subst h6;have HC:=aG hC;have h9:=qdd g g2 cb Po;clear hC P J A;go_wp2_with fail;refine HC.out.mono ?_;rintro e w' ⟨v',rfl,O⟩;have Z:=aG O;clear O;go_wp2_with fail;go_roundw;case rel=>exact⟨k+1,aj,by go_num,Z⟩
   case measure=>simp[nI];omega
  ·obtain rfl:k=fs.length:=aj;obtain⟨hB,hb,t⟩:=K.out;obtain⟨B,o,a⟩:=HW.out;have s:bJ w wr:=a.trans (hb.mono aj);have Y:=aG (D9 u4 _ wr hB (HT.out.below s h2) r.out);have y:∀w' v',kL w' v' (fV n fs fs.length++iK (fV n fs fs.length))->Gr wr w' u4 v'->kL w' v' (bT n fs)/\Own w.heap.size v'/\bJ w w':=fun w' v' f c=>by
    have I8:Own w.heap.size u4:=fun j R=>bV (t j R);exact⟨by rw[h0.out];exact f,c.own I8 s.size,s.trans (c.below I8 s.size)⟩
   have kV:=aG y;clear y hB hb t s o a B;go_wp2_with fail;refine Y.out.mono ?_;rintro e w' ⟨v',rfl,f,c⟩;have HR:=aG (kV.out w' v' f c);clear f c;go_wp2;go_ret2;exact⟨_,rfl,HR.out⟩
def bQ:bW->bO
 |[]=>[]
 |r::t=>(uZ r.1)::(uZ r.2)::bQ t
def iL(f:Fr)(v:Value):bO:=[iZ f.aC,iZ f.aH,uZ f.aD,uZ f.aV,uZ f.aL,.bool f.bn,uZ f.id,uZ f.aW,.string f.data,v]
def pI(fs:List Fr)(v9:Nat->Value):Nat->bO
 |0=>[]
 |k+1=>pI fs v9 k++iL (fs.getD k iM) (v9 k)
theorem lK:∀rs,∀v∈bQ rs,v.oneCell'=true
 |[],v,hv=>by simp[bQ]at hv
 |r::t,v,hv=>by
  simp[bQ]at hv;rcases hv with rfl|rfl|hv;·rfl
  ·rfl
  ·exact lK t v hv
theorem vW:∀(rs:bW) j,j<rs.length->(bQ rs)[j*2]?=some (uZ ((rs.getD j (0,0)).1:Int))/\(bQ rs)[j*2+1]?=some (uZ ((rs.getD j (0,0)).2:Int))
 |[],j,h=>by simp at h
 |r::t,0,h=>by simp[bQ]
 |r::t,j+1,h=>by have:=vW t j (by simpa using h);rw[show(j+1)*2=j*2+1+1 by omega];simp only[bQ,mE,List.getD_cons_succ];exact this
theorem jH:∀a b,bQ (a++b)=bQ a++bQ b
 |[],b=>rfl
 |r::t,b=>by simp[bQ,jH t b]
theorem EB(fs:List Fr)(v9:Nat->Value):∀k,(pI fs v9 k).length=k*10
 |0=>rfl
 |k+1=>by rw[pI,mY,EB fs v9 k];simp[iL];omega
theorem EC(fs:List Fr)(v9:Nat->Value):∀k j i,j<k->i<10->(pI fs v9 k)[j*10+i]?=(iL (fs.getD j iM) (v9 j))[i]?
 |0,j,i,h,_=>aj
 |k+1,j,i,h,hi=>by
  have hl:=EB fs v9 k;rw[pI];by_cases e:j=k;·subst e;rw[List.getElem?_append_right aj];congr 1;omega
  ·rw[List.getElem?_append_left aj];exact EC fs v9 k j i aj hi
theorem zS(fs:List Fr)(v9 a:Nat->Value):∀k,(∀j,j<k->v9 j=a j)->pI fs v9 k=pI fs a k
 |0,_=>rfl
 |k+1,h=>by rw[pI,pI,zS fs v9 a k (fun j b=>h j aj),h k aj]
structure lM (f:Fr):Prop where
 Bv:f.ranges.length<=1000000000
 Bw:f.data.size<=1000000000
 k0: -9223372036854775808<=f.aC/\f.aC<=9223372036854775807
 s0: -9223372036854775808<=f.aH/\f.aH<=9223372036854775807
 u0:f.aD<18446744073709551616/\f.aV<18446744073709551616/\f.aL<18446744073709551616/\f.id<18446744073709551616/\f.aW<18446744073709551616
 r0:∀j,j<f.ranges.length->(f.ranges.getD j (0,0)).1<18446744073709551616/\(f.ranges.getD j (0,0)).2<18446744073709551616
structure xq (B:Nat) (w:World) (s:Value) (fs:List Fr) (v9:Nat->Value) (k:Nat):Prop where
 buf:eX 65 10 w s k (pI fs v9 k)
 own:Own B s
 rT:∀j,j<k->eX 170 2 w (v9 j) (fs.getD j iM).ranges.length (bQ (fs.getD j iM).ranges)/\Own B (v9 j)/\∀b,(v9 j).ownBlock=some b->s.ownBlock≠some b
def TJ:Value->Option Addr
 |.slice a _ _=>a
 |_=>none
def X4:Value->Nat
 |.slice _ _ c=>c
 |_=>0
theorem xq.NR{B:Nat}{w:World}{s:Value}{fs:List Fr}{v9:Nat->Value}(h:xq B w s fs v9 fs.length)(o:∀j,j<fs.length->lM (fs.getD j iM)):∃fa k,s=.slice fa fs.length k/\mg w fa fs (fun j=>TJ (v9 j)) (fun j=>X4 (v9 j)):=by
 obtain⟨fa,k,hs,_⟩:=h.buf.shape;refine⟨fa,k,hs,fun j m=>?_⟩;have d:=fun i hi=>EC fs v9 fs.length j i m hi;have b:=fun i (hi:i<10) x (f:(iL (fs.getD j iM) (v9 j))[i]?=some x)=>h.buf.cell hs (j*10+i) x (by rw[d i hi];exact f);obtain⟨g,l,c0,_⟩:=b 0 aj _ rfl;subst l;obtain⟨g',a,c1,_⟩:=b 1 aj _ rfl;cases a;obtain⟨g',a,c2,_⟩:=b 2 aj _ rfl;cases a;obtain⟨g',a,c3,_⟩:=b 3 aj _ rfl;cases a;obtain⟨g',a,c4,_⟩:=b 4 aj _ rfl;cases a;obtain⟨g',a,c5,_⟩:=b 5 aj _ rfl;cases a;obtain⟨g',a,c6,_⟩:=b 6 aj _ rfl;cases a;obtain⟨g',a,c7,_⟩:=b 7 aj _ rfl;cases a;obtain⟨g',a,c8,_⟩:=b 8 aj _ rfl;cases a;obtain⟨g',a,c9,_⟩:=b 9 aj _ rfl;cases a;obtain⟨e,_,_⟩:=h.rT j m;obtain⟨ra,rc,c,n⟩:=e.shape;have ok:=o j m;refine⟨g,0,rfl,⟨by rw[eT];exact c0,by rw[eT];exact c1,by rw[eT];exact c2,by rw[eT];exact c3,by rw[eT];exact c4,by rw[eT];exact c5,by rw[eT];exact c6,by rw[eT];exact c7,by rw[eT];exact c8,?_,?_,ok.Bv,ok.Bw,ok.k0,ok.s0,ok.u0⟩,?_,?_⟩;·rw[eT,c9];simp only[c,TJ,X4]
 ·intro i hi;obtain⟨y,z⟩:=vW _ i hi;obtain⟨t,q,u,_⟩:=e.cell c _ _ y;obtain⟨b2,r,v,_⟩:=e.cell c _ _ z;rw[q]at r;cases r;refine⟨t,0,by simp only[c];exact q,by rw[eT];exact u,by rw[eT];exact v,ok.r0 i hi⟩
 ·simp only[c];exact n
 ·intro x f;simp only[c]at f;refine e.lt x.block ?_;have p:ra=some x:=f;rw[c,p];rfl
theorem Mm.aS.setCell{w:World}{b:Nat}{t:TypeId}{l:bO}(h:aS w b t l)(o:Nat)(v:Value):aS (w.setCell (aB b o) v) b t (l.set o v):=by
 have:=heap_setCell_same w b o l.toArray t v h;unfold aS;rw[this];congr 2
 apply Array.ext';simp
