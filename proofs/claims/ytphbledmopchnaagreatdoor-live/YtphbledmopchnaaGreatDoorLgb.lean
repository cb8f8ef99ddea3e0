import Derived.Test.YtphbledmopchnaaGreatDoorLfd
import Derived.Deep.MidRow
open Array renaming getElem?_eq_some_iff->eB
open Go.RowKit.Below renaming refl->mE,heap_alloc->mI
open List renaming getD_eq_getElem?_getD->eT,getElem?_eq_none->j3,getElem?_eq_getElem->mK,getElem?_replicate->mR,ext_getElem?->nA,length_cons->nI,length_set->nU,replicate->nV
open Nat renaming lt_of_lt_of_le->lg,le_of_lt->og
open Go.World renaming alloc_heap_new->mY,size_alloc->nP
set_option maxHeartbeats 8000000
set_option maxRecDepth 100000
namespace Go.Proofs.YtphbledmopchnaaGreatDoor.Sd
open Go.RowKit Go.Lib Mm Tryz
theorem Al:∀(vs:bO) (j:Nat) (l:bO),(lQ j vs l).length=l.length
 |[],_,_=>rfl
 |v::vs,j,l=>by show(lQ (j+1) vs (l.set j v)).length=_;rw[Al vs,nU]
theorem Kw:∀(vs:bO) (j:Nat) (l:bO) (i:Nat),i<l.length->(lQ j vs l)[i]?=if j<=i/\i<j+vs.length then vs[i-j]? else l[i]?
 |[],j,l,i,_=>by rw[aU (by simp only[List.length_nil];omega)];rfl
 |v::vs,j,l,i,h=>by
  show(lQ (j+1) vs (l.set j v))[i]?=_;rw[Kw vs (j+1) (l.set j v) i (by rw[nU];exact h)];by_cases h1:i=j;·subst h1;rw[aU aj,bK aP,List.getElem?_set_self h,Nat.sub_self];rfl
  ·by_cases a:j+1<=i/\i<j+1+vs.length;·rw[bK a,bK (by simp only[nI];omega)];obtain⟨d,hd⟩:∃d,i-j=d+1:=⟨i-j-1,aj⟩;rw[hd,show i-(j+1)=d by omega];rfl
   ·rw[aU a,aU (by simp only[nI];omega),List.getElem?_set_ne aj]
def Iy(A V:bO)(j:Nat):bO:=(List.range 240).map fun i=>if 4<=i/\i<4+27*j then V.getD ((i-4) % 27) (.tuple #[])else A.getD i (.tuple #[])
theorem oN(A V:bO)(j:Nat):(Iy A V j).length=240:=by simp[Iy]
theorem vg(A V:bO)(j i:Nat)(h:i<240):(Iy A V j)[i]?=some (if 4<=i/\i<4+27*j then V.getD ((i-4) % 27) (.tuple #[])else A.getD i (.tuple #[])):=by unfold Iy;rw[List.getElem?_map,List.getElem?_range h];rfl
theorem WO(A V:bO)(h:A.length=240):Iy A V 0=A:=by
 refine nA fun i=>?_;by_cases hi:i<240;·rw[vg A V 0 i hi,aU aj,eT,mK aj];rfl
 ·rw[j3 (by rw[oN];omega),j3 aj]
theorem WQ(A V:bO)(b:V.length=27)(j:Nat)(c:j<8):lQ (4+27*j) V (Iy A V j)=Iy A V (j+1):=by
 refine nA fun i=>?_;by_cases hi:i<240
 ·rw[Kw V _ _ i (by rw[oN];exact hi),vg A V (j+1) i hi,vg A V j i hi,b];by_cases h1:4+27*j<=i/\i<4+27*j+27;·rw[bK h1,bK aj];have:(i-4) % 27=i-(4+27*j):=aj;rw[this,eT,mK aj];rfl
  ·rw[aU h1];by_cases a:4<=i/\i<4+27*j;·rw[bK a,bK aj]
   ·rw[aU a,aU aj]
 ·rw[j3 (by rw[Al,oN];omega),j3 (by rw[oN];omega)]
theorem ZE(A V:bO)(k i:Nat)(b:k<8)(hi:i<27)(x:Value)(a:V[i]?=some x):(Iy A V 8)[4+27*k+i]?=some x:=by rw[vg A V 8 _ aj,bK aj];have:(4+27*k+i-4) % 27=i:=aj;rw[this,eT,a];rfl
theorem ZF(A V:bO)(i:Nat)(hi:i<4\/220<=i)(a:i<240)(x:Value)(b:A[i]?=some x):(Iy A V 8)[i]?=some x:=by rw[vg A V 8 _ a,aU aj,eT,b];rfl
def ZG(bG aO aX bw bl bi:Nat)(A:Array Value):Prop:=
 A=((((((((((((((((zeroCells210.setIfInBounds 0 (iZ bG)).setIfInBounds 1 (iZ aO)).setIfInBounds 2 (iZ aX)).setIfInBounds 220 (uZ (IntKind.u64.wrap (aX:Int)))).setIfInBounds 221 (uZ aX)).setIfInBounds 222 (uZ aX)).setIfInBounds 223 (uZ 0)).setIfInBounds 224 (uZ aX)).setIfInBounds 225 (iZ 8)).setIfInBounds 226 (uZ 0)).setIfInBounds 227 nZ).setIfInBounds 230 (.map (some bw))).setIfInBounds 231 (.map (some bl))).setIfInBounds 235 nZ).setIfInBounds 236 (uZ 0)).setIfInBounds 237 (.map (some bi)))
theorem ZH:zeroCells210.size=240:=bH
theorem Sb:zeroCells210[3]?=some (uZ 0):=bH
theorem Ky:zeroCells210[228]?=some (.bool false):=bH
theorem Kz:zeroCells210[229]?=some (uZ 0):=bH
theorem KA:zeroCells210[232]?=some (uZ 0):=bH
theorem KC:zeroCells210[233]?=some nZ:=bH
theorem KD:zeroCells210[234]?=some (uZ 0):=bH
theorem KE:zeroCells210[238]?=some (iZ 0):=bH
theorem KF:zeroCells210[239]?=some (.bool false):=bH
theorem KH(bG aO aX bw bl bi:Nat)(Z A:Array Value)(j:Int)(f:j=(aX:Int))(hz:Z.size=240)(k:Z[3]?=some (uZ 0))(a:Z[228]?=some (.bool false))(b:Z[229]?=some (uZ 0))(c:Z[232]?=some (uZ 0))(d:Z[233]?=some nZ)(e:Z[234]?=some (uZ 0))(g:Z[238]?=some (iZ 0))(i:Z[239]?=some (.bool false))(h:A=((((((((((((((((Z.setIfInBounds 0 (iZ bG)).setIfInBounds 1 (iZ aO)).setIfInBounds 2 (iZ aX)).setIfInBounds 220 (uZ j)).setIfInBounds 221 (uZ aX)).setIfInBounds 222 (uZ aX)).setIfInBounds 223 (uZ 0)).setIfInBounds 224 (uZ aX)).setIfInBounds 225 (iZ 8)).setIfInBounds 226 (uZ 0)).setIfInBounds 227 nZ).setIfInBounds 230 (.map (some bw))).setIfInBounds 231 (.map (some bl))).setIfInBounds 235 nZ).setIfInBounds 236 (uZ 0)).setIfInBounds 237 (.map (some bi)))):A.size=240/\A[0]?=some (iZ bG)/\A[1]?=some (iZ aO)/\A[2]?=some (iZ aX)/\A[3]?=some (uZ 0)/\A[220]?=some (uZ aX)/\A[221]?=some (uZ aX)/\A[222]?=some (uZ aX)/\A[223]?=some (uZ 0)/\A[224]?=some (uZ aX)/\A[225]?=some (iZ 8)/\A[226]?=some (uZ 0)/\A[227]?=some nZ/\A[228]?=some (.bool false)/\A[229]?=some (uZ 0)/\A[230]?=some (.map (some bw))/\A[231]?=some (.map (some bl))/\A[232]?=some (uZ 0)/\A[233]?=some nZ/\A[234]?=some (uZ 0)/\A[235]?=some nZ/\A[236]?=some (uZ 0)/\A[237]?=some (.map (some bi))/\A[238]?=some (iZ 0)/\A[239]?=some (.bool false):=by
 rw[f]at h;rw[h];refine⟨by simp only[Array.size_setIfInBounds,hz],?_,?_,?_,?_,?_,?_,?_,?_,?_,?_,?_,?_,?_,?_,?_,?_,?_,?_,?_,?_,?_,?_,?_,?_⟩;all_goals simp[hz]
 ·exact(eB.1 k).2
 ·exact(eB.1 a).2
 ·exact(eB.1 b).2
 ·exact(eB.1 c).2
 ·exact(eB.1 d).2
 ·exact(eB.1 e).2
 ·exact(eB.1 g).2
 ·exact(eB.1 i).2
theorem ZG.cells{bG aO aX bw bl bi:Nat}{A:Array Value}(h:ZG bG aO aX bw bl bi A)(ht:aX<=4096):A.size=240/\A[0]?=some (iZ bG)/\A[1]?=some (iZ aO)/\A[2]?=some (iZ aX)/\A[3]?=some (uZ 0)/\A[220]?=some (uZ aX)/\A[221]?=some (uZ aX)/\A[222]?=some (uZ aX)/\A[223]?=some (uZ 0)/\A[224]?=some (uZ aX)/\A[225]?=some (iZ 8)/\A[226]?=some (uZ 0)/\A[227]?=some nZ/\A[228]?=some (.bool false)/\A[229]?=some (uZ 0)/\A[230]?=some (.map (some bw))/\A[231]?=some (.map (some bl))/\A[232]?=some (uZ 0)/\A[233]?=some nZ/\A[234]?=some (uZ 0)/\A[235]?=some nZ/\A[236]?=some (uZ 0)/\A[237]?=some (.map (some bi))/\A[238]?=some (iZ 0)/\A[239]?=some (.bool false):=
 KH bG aO aX bw bl bi zeroCells210 A (IntKind.u64.wrap (aX:Int)) (by rw[IntKind.wrap_u64];omega) ZH Sb Ky Kz KA KC KD KE KF h
theorem mh.nil(oZ:Own)(t:Nat)(w:World)(S:Nat):mh oZ t w S nZ []:=⟨none,0,rfl,Nat.le_refl _,aj,.inl ⟨rfl,rfl,rfl⟩,fun b hb=>by cases hb⟩
theorem GT.nil(oZ:Own)(t:Nat)(e:TypeId)(k:Nat)(w:World):GT oZ t e k w nZ 0 []:=.inl ⟨rfl,rfl,rfl⟩
theorem WR{w:World}{b:Nat}(h:w.heap[b]?=some (.map #[] 0)):kR w b []:=by obtain⟨es,⟨a,c1,c,d⟩,e⟩:=kR.made ({w with heap:=#[]}:World);refine⟨es,⟨a,c1,h.trans ?_,d⟩,e⟩;have:=mY ({w with heap:=#[]}:World) (.map #[] 0);exact this.symm.trans c
theorem qcq{oZ:Own}{s:Nat}{w:World}{S bw bl bi bG aO aX:Nat}{A:Array Value}(M:ZG bG aO aX bw bl bi A)(ht:aX<=4096)(hs:0<s)(hB:aS w S TS (Iy A.toList (mP aO++AA aO) 8))(h1:w.heap[bw]?=some (.map #[] 0))(p:w.heap[bl]?=some (.map #[] 0))(o1:oZ S=s)(N:oZ bw=s+42)(O:oZ bl=s+43):fP oZ s w S (Iy A.toList (mP aO++AA aO) 8) (av.new bG aO aX) bw bl bi nZ:=by
 obtain⟨hz,G,H,I,J,r,t,d,u,v,y,e,f,h,j,z,B,l,m,n,C,o,D,E,F⟩:=M.cells ht;have g:∀i x,(i<4\/220<=i)->i<240->A[i]?=some x->(Iy A.toList (mP aO++AA aO) 8)[i]?=some x:=fun i x hi p c=>ZF _ _ i hi p x (by rw[Array.getElem?_toList];exact c);have q:∀k i x,k<8->i<27->(mP aO++AA aO)[i]?=some x->(Iy A.toList (mP aO++AA aO) 8)[4+27*k+i]?=some x:=fun k i x a hi c=>ZE _ _ k i a hi x c;have L:∀k,k<8->(av.new bG aO aX).out k=Ot.new aO:=fun k a=>by show(nV 8 (Ot.new aO)).getD k rV=_;rw[eT,mR,bK a];rfl
 have K:∀k,k<8->(av.new bG aO aX).bF k=eH.new aO:=fun k a=>by show(nV 8 (eH.new aO)).getD k sK=_;rw[eT,mR,bK a];rfl
 refine⟨o1,hs,hB,⟨oN _ _ _,g _ _ aj aj G,g _ _ aj aj H,g _ _ aj aj I,g _ _ aj aj J,g _ _ aj aj r,⟨g _ _ aj aj t,g _ _ aj aj d,g _ _ aj aj u,g _ _ aj aj v⟩,g _ _ aj aj y,g _ _ aj aj e,g _ _ aj aj f,g _ _ aj aj h,g _ _ aj aj j,g _ _ aj aj z,g _ _ aj aj B,g _ _ aj aj l,g _ _ aj aj m,g _ _ aj aj n,g _ _ aj aj C,g _ _ aj aj o,g _ _ aj aj D,g _ _ aj aj E,g _ _ aj aj F⟩,fun k a=>?_,fun k a=>?_,mh.nil _ _ _ _,⟨fun _=>(none,0),N,WR h1,fun x c=>by cases c⟩,⟨fun _=>(none,0),O,WR p,fun x c=>by cases c⟩,by simp[av.new],by simp[av.new]⟩;·rw[L k a];refine⟨nZ,nZ,nZ,⟨q k 0 _ a aj rfl,q k 1 _ a aj rfl,⟨q k 2 _ a aj rfl,q k 3 _ a aj rfl,q k 4 _ a aj rfl,q k 5 _ a aj rfl⟩,q k 6 _ a aj rfl,q k 7 _ a aj rfl,q k 8 _ a aj rfl,q k 9 _ a aj rfl,q k 10 _ a aj rfl,q k 11 _ a aj rfl,q k 12 _ a aj rfl,q k 13 _ a aj rfl⟩,GT.nil _ _ _ _ _,mh.nil _ _ _ _,mh.nil _ _ _ _⟩
 ·rw[K k a];have b:∀i x,i<13->(mP aO++AA aO)[14+i]?=some x->(Iy A.toList (mP aO++AA aO) 8)[18+27*k+i]?=some x:=fun i x hi c=>by
   rw[show 18+27*k+i=4+27*k+(14+i) by omega];exact q k (14+i) x a aj c
  exact⟨nZ,nZ,⟨⟨b 0 _ aj rfl,b 1 _ aj rfl,b 2 _ aj rfl,b 3 _ aj rfl⟩,b 4 _ aj rfl,b 5 _ aj rfl,b 6 _ aj rfl,b 7 _ aj rfl,b 8 _ aj rfl,b 9 _ aj rfl,b 10 _ aj rfl,b 11 _ aj rfl,b 12 _ aj rfl⟩,GT.nil _ _ _ _ _,GT.nil _ _ _ _ _⟩
section
theorem ZI{c:Code}{K:Act->World->Prop}{m:Exit->Act->World->Prop}{a:Act}{w:World}(act:Nat->Nat->Nat->Nat->Array Value->Act)(R:Nat->Nat->Nat->Nat->Array Value->World->Prop)(h:c.wp prog (Exit.then (fun l w'=>∃d f g j k,l=act d f g j k/\R d f g j k w') fun _ _ _=>False) a w)(o:∀d f g j k w',R d f g j k w'->K (act d f g j k) w'):c.wp prog (Exit.then K m) a w:=
 wp_mono h fun e l w' b=>by
  cases e with
  |normal=>obtain⟨d,f,g,j,k,rfl,n⟩:=b;exact o _ _ _ _ _ _ n
  |ret=>exact b.elim
  |exit i=>exact b.elim
  |goto i=>exact b.elim
  |panic c=>exact b.elim
  |outgrown=>exact b.elim
theorem nS{z y:World}(h:bJ z y):bJ z y.drew:=⟨h.os,h.tape,h.output,h.size,h.block⟩
theorem nT{z y:World}(o:Obj)(h:bJ z y):bJ z (y.alloc o):=h.alloc h.size o
theorem WS{Y:World}(z:World)(h:Below (z.alloc (.map #[] 0)).heap.size (z.alloc (.map #[] 0)) Y):Y.heap[z.heap.size]?=some (.map #[] 0):=(h.block _ aP).trans (mY z _)
theorem ZJ{Y:World}(z:World)(o:Obj)(h:Below ((z.alloc o).alloc (.map #[] 0)).heap.size ((z.alloc o).alloc (.map #[] 0)) Y):Y.heap[z.heap.size+1]?=some (.map #[] 0):=by have:=WS (z.alloc o) h;rwa[nP]at this
def qhe(bG aO aX:Nat)(a:World)(S bw bl bi:Nat)(A:Array Value)(w':World):Prop:=
 ∃Y,w'=Y.alloc (.cells A 210)/\S=Y.heap.size/\ZG bG aO aX bw bl bi A/\bJ a Y/\Y.heap[bw]?=some (.map #[] 0)/\Y.heap[bl]?=some (.map #[] 0)/\bw≠bl/\a.heap.size<=bw/\a.heap.size<=bl
def qf1(bG aO aX a:Nat)(S bw bl bi:Nat)(A:Array Value):Act:={tmps:=#[.agg #[iZ bG,iZ aO,iZ aX],aI a 0,.pointer none,.nilIface,aI S 0,undef,.agg #[iZ bG,iZ aO,iZ aX],.bool true,.bool false,undef,.agg #[iZ bG,iZ aO,iZ aX],aI a 2,iZ aX,(uZ (IntKind.u64.wrap (aX:Int))),aI a 2,iZ aX,.agg #[uZ aX,uZ aX,uZ 0,uZ aX],.agg #[iZ 8,uZ 0,nZ],.map (some bw),.map (some bl),.agg #[nZ,uZ 0,.map (some bi)],.agg A,aI S 0,undef,undef,undef,undef,undef,undef,undef,undef,undef,undef,undef,undef,undef,undef,undef,undef,undef],defers:=[]}
theorem vO(R:Nat):∀(vs:bO) (j:Nat) (y:World),y.setCells R j vs=nJ R j vs y
 |[],_,_=>rfl
 |v::vs,j,y=>by show(y.setCell (aB R j) v).setCells R (j+1) vs=nJ R (j+1) vs (y.setCell (aB R j) v);exact vO R vs (j+1) _
theorem ZK(y:World)(S o aO:Nat)(h:y.there S o 27):(storeVar 200 (aB S o) (.agg #[nZ,.bool false,.bool false,uZ 0,uZ 0,uZ 0,uZ aO,uZ 0,iZ 2049,uZ 0,nZ,iZ 2049,uZ 0,nZ,uZ aO,uZ aO,uZ 0,uZ aO,uZ 0,nZ,nZ,uZ 0,.bool false,uZ 0,.bool false,uZ 0,iZ 0])).run prog y=.ok () (nJ S o (mP aO++AA aO) y):=by rw[<-vO];exact run_storeVar_mid y S o 200 (mP aO++AA aO).toArray h bH (by simp[Value.oneCell'])
attribute [-go_sem] storeVar
theorem qcr(oZ:Own)(s:Nat)(hs:0<s)(bG aO aX:Nat)(hm:64<=bG/\bG<=400)(hw:16<=aO/\aO<=4096)(ht:16<=aX/\aX<=4096)(w:World):Calls prog 107 #[.agg #[iZ bG,iZ aO,iZ aX]] w fun e w'=>∃S bw bl bi aY l vc,e=.returned (.tuple #[aI S 0,.nilIface])/\fP aY s w' S l (av.new bG aO aX) bw bl bi vc/\Kp [] oZ aY w w'/\∀b,w.heap.size<=b->aY b=s\/aY b=s+42\/aY b=s+43\/aY b=0:=by
 have h9:=@run_makeMap prog;have L:=aG (fun y=>WM bG aO aX hm hw ht y);have HG:Hid (∀y,Calls prog 142 #[iZ aX] y fun e y'=>e=.returned (.agg #[uZ aX,uZ aX,uZ 0,uZ aX])/\∀z:World,bJ z y->bJ z y'):=fun y=>(EN aX ht.2 y).mono fun e y' Q=>⟨Q.1,fun z hz=>hz.trans (Q.2.mono hz.size)⟩;have HS:Hid (∀y,Calls prog 126 #[iZ 8] y fun e y'=>e=.returned (.agg #[iZ 8,uZ 0,nZ])/\∀z:World,bJ z y->bJ z y'):=fun y=>(Oe 8 y).mono fun e y' Q=>⟨Q.1,fun z hz=>hz.trans (Q.2.mono hz.size)⟩;have HI:Hid (∀y,Calls prog 143 #[] y fun e y'=>∃b,e=.returned (.agg #[nZ,uZ 0,.map (some b)])/\∀z:World,bJ z y->bJ z y'):=fun y=>(R_ y).mono fun e y' ⟨b,h1,h2⟩=>⟨b,h1,fun z hz=>hz.trans (h2.mono hz.size)⟩;obtain⟨V,q⟩:=bZ (w.alloc (.cells #[iZ bG,iZ aO,iZ aX] 45));have H:aS V w.heap.size 45 [iZ bG,iZ aO,iZ aX]:=by rw[q];exact aS.new w 45 _
 have El:w.heap.size<V.heap.size:=H.lt;have G:bJ w V:=by rw[q];exact(mE _ w).alloc (Nat.le_refl _) _
 go_enter func107,ntmps107;go_wp2_with (go_at_call 141;rw[<-q];refine bN (L.out V) ?_;rintro g a);have f:=H.of_heap (a.block _ El);have c:w.heap.size<g.heap.size:=f.lt;have c0:g.cell? (aB w.heap.size 0)=some (iZ bG):=f.cell 0;have c1:g.cell? (aB w.heap.size 1)=some (iZ aO):=f.cell 1;have c2:g.cell? (aB w.heap.size 2)=some (iZ aX):=f.cell 2;have Z:Hid (∀y:World,bJ g y->y.cell? (aB w.heap.size 0)=some (iZ bG)/\y.cell? (aB w.heap.size 1)=some (iZ aO)/\y.cell? (aB w.heap.size 2)=some (iZ aX)/\w.heap.size<y.heap.size):=fun y hb=>⟨cell_of c0 (hb.block _ c),cell_of c1 (hb.block _ c),cell_of c2 (hb.block _ c),lg c hb.size⟩;have PS:=aG (dB f (G.trans (a.mono G.size)));clear H f L q G a;have h4:bJ g g:=mE _ _;refine ZI (qf1 bG aO aX w.heap.size) (qhe bG aO aX g) ?_ (fun S bw bl bi A w2 hR=>?_)
 ·go_region_held3 (fun y=>y.cell? (aB w.heap.size 0)=some (iZ bG)/\y.cell? (aB w.heap.size 1)=some (iZ aO)/\y.cell? (aB w.heap.size 2)=some (iZ aX)/\w.heap.size<y.heap.size) ((go_keep<;>(first|omega|(rw[nP];omega))))
   ((first|(go_at_call 142;refine bN (HG.out _) ?_;rintro n hb;have d:bJ g n:=hb _ (by repeat(first|assumption|refine nT _ ?_|refine nS ?_));have gQ:=d.size;have m:=(hb _ (mE _ _)).size;(try simp at m);obtain⟨d0,O,W,d3⟩:=Z.out n d)|(go_at_call 126;refine bN (HS.out _) ?_;rintro n hb;have d:bJ g n:=hb _ (by repeat(first|assumption|refine nT _ ?_|refine nS ?_));have gQ:=d.size;have m:=(hb _ (mE _ _)).size;(try simp at m);obtain⟨d0,O,W,d3⟩:=Z.out n d)|(go_at_call 143;refine(HI.out _).mono ?_;rintro e n ⟨b,rfl,hb⟩;have d:bJ g n:=hb _ (by repeat(first|assumption|refine nT _ ?_|refine nS ?_));have gQ:=d.size;have m:=(hb _ (mE _ _)).size;(try simp at m);obtain⟨d0,O,W,d3⟩:=Z.out n d)))
  all_goals refine⟨_,_,_,_,_,rfl,_,rfl,(by first|rfl|simp),rfl,(by repeat(first|assumption|refine nT _ ?_|refine nS ?_)),?_,?_,?_,?_,?_⟩
  all_goals first
   |omega
   |exact WS _ (by repeat(first|exact mE _ _|assumption|refine nT _ ?_|refine nS ?_|refine(by assumption:∀z:World,bJ z _->bJ z _) _ ?_))
   |exact ZJ _ (.map #[] 0) (by repeat(first|exact mE _ _|assumption|refine nT _ ?_|refine nS ?_|refine(by assumption:∀z:World,bJ z _->bJ z _) _ ?_))
 ·obtain⟨Y,rfl,rfl,P,t,m1,m2,u,l1,l2⟩:=hR;have T:A.size=240:=(P.cells ht.2).1;have HO:=aG (fun y=>Yg aO hw.2 y);have HN:=aG (fun y=>qb5 aO hw.2 y);have hV:(mP aO++AA aO).length=27:=rfl;obtain⟨N,F⟩:=bZ (Y.alloc (.cells A 210));have M:Hid (aS N Y.heap.size TS (Iy A.toList (mP aO++AA aO) 0)/\N.heap[bw]?=some (.map #[] 0)/\N.heap[bl]?=some (.map #[] 0)/\aS N w.heap.size 45 [iZ bG,iZ aO,iZ aX]/\bJ w N/\w.heap.size<Y.heap.size/\bw<Y.heap.size/\bl<Y.heap.size):=by
   have b1:bw<Y.heap.size:=(eB.1 m1).1;have b2:bl<Y.heap.size:=(eB.1 m2).1;have b3:w.heap.size<Y.heap.size:=lg c t.size;rw[WO _ _ (by rw[Array.length_toList];exact T),F];refine⟨by have:=aS.new Y 210 A.toList;rwa[Array.toArray_toList]at this,(mI _ _ _ b1).trans m1,(mI _ _ _ b2).trans m2,(PS.out.1.of_heap (t.block _ c)).of_heap (mI _ _ _ b3),?_,b3,b1,b2⟩;have:=PS.out.2.trans (t.mono (og c));exact this.alloc (og b3) _
  unfold qf1;rw[<-F];have pU:=aG (dB P (dB u (dB l1 (dB l2 c))));clear F P t m1 m2 u l1 l2 h4 c0 c1 c2 T;generalize Y.heap.size=S at *
  go_wp2;go_loopw [23] (fun I wr=>∃j:Nat,j<=8/\I=(iZ j)/\Hid (aS wr S TS (Iy A.toList (mP aO++AA aO) j)/\wr.heap[bw]?=some (.map #[] 0)/\wr.heap[bl]?=some (.map #[] 0)/\aS wr w.heap.size 45 [iZ bG,iZ aO,iZ aX]/\bJ w wr/\w.heap.size<S/\bw<S/\bl<S)) (fun I _=>8-(RowKit.intOf I).toNat);case atStart=>exact⟨0,aj,rfl,M⟩
  case round=>
   obtain⟨j,hj,rfl,B⟩:=hrel;clear M;by_cases h5:j<8
   ·have h8:(j:Int)<8:=aj;have c1:wr.cell? (aB w.heap.size 1)=some (iZ aO):=B.out.2.2.2.1.cell 1;have U:w.heap.size<wr.heap.size:=B.out.2.2.2.1.lt;have DX:S<wr.heap.size:=B.out.1.lt;go_wp2;have h3:S≠w.heap.size:=bV B.out.2.2.2.2.2.1;have h7:∀(o:Nat) (vs:bO) (y:World),(nJ S o vs y).cell? (aB w.heap.size 1)=y.cell? (aB w.heap.size 1):=fun o vs y=>by
     have:=(mq S vs o y).block w.heap.size (Ne.symm h3);unfold World.cell?;simp only[this]
    go_region_held3 (fun y=>y.cell? (aB w.heap.size 1)=some (iZ aO)) (go_keep)
     ((first|(go_at_call 144;refine bN (HO.out _) ?_;rintro n a;have O:n.cell? (aB w.heap.size 1)=some (iZ aO):=cell_of c1 (a.block _ (by simpa using U)))|(go_at_call 145;refine bN (HN.out _) ?_;rintro E r;have W:E.cell? (aB w.heap.size 1)=some (iZ aO):=cell_of O (r.block _ (lg (by simpa using U) a.size));have p:aS E S TS (Iy A.toList (mP aO++AA aO) j):=(B.out.1.of_heap (a.block _ (by simpa using DX))).of_heap (r.block _ (lg (by simpa using DX) a.size));have h6:=ZK E S (4+j*27) aO (fun i hi=>⟨by rw[p.cell,vg _ _ j _ aj];rfl,p.frozen _⟩);have K:=aG p;clear p)))
    obtain⟨J,X⟩:=bZ (nJ S (4+j*27) (mP aO++AA aO) E);have h0:Hid (aS J S TS (Iy A.toList (mP aO++AA aO) (j+1))/\J.heap[bw]?=some (.map #[] 0)/\J.heap[bl]?=some (.map #[] 0)/\aS J w.heap.size 45 [iZ bG,iZ aO,iZ aX]/\bJ w J/\w.heap.size<S/\bw<S/\bl<S):=by
     obtain⟨r1,r2,r3,r4,D,r6,r7,r8⟩:=B.out;have tc:=mq S (mP aO++AA aO) (4+j*27) E;have C:bJ wr n:=⟨a.os,a.tape,a.output,a.size,a.block⟩;have hy:bJ wr E:=C.trans (r.mono C.size);rw[<-X]at tc;have h:∀k,k<wr.heap.size->k≠S->J.heap[k]?=wr.heap[k]?:=fun k hk hn=>(tc.block k hn).trans (hy.block k hk);refine⟨?_,(h bw aj aj).trans r2,(h bl aj aj).trans r3,r4.of_heap (h _ aj aj),?_,r6,r7,r8⟩;·rw[<-WQ _ _ hV j h5,show 4+27*j=4+j*27 by omega,X];exact ou _ _ E _ K.out
     ·exact tc.below (D.trans (hy.mono D.size)) aj
    change Exit.inBlock _ _ _ _ (nJ S (4+j*27) (mP aO++AA aO) E);rw[<-X];clear X a r h6 K B O W h7 c1;go_wp2;go_roundw;case rel=>exact⟨j+1,aj,aP,h0⟩
    case measure=>simp[RowKit.intOf];omega
   ·obtain rfl:j=8:=aj;go_wp2;refine bodyPost_ret (v:=.tuple #[aI S 0,.nilIface]) (by simp[results,results107,go_sem]) rfl ?_;obtain⟨r1,r2,r3,r4,D,r6,r7,r8⟩:=B.out;obtain⟨P,u,l1,l2,c⟩:=pU.out;obtain⟨aY,R⟩:=bZ (fun x=>if x<w.heap.size then oZ x else if x=S then s else if x=bw then s+42 else if x=bl then s+43 else 0:Own);have o1:aY S=s:=by rw[R];simp only;rw[aU aj,bK trivial]
    have o2:aY bw=s+42:=by rw[R];simp only;rw[aU aj,aU aj,bK trivial]
    have o3:aY bl=s+43:=by rw[R];simp only;rw[aU aj,aU aj,aU (Ne.symm u),bK trivial]
    refine⟨S,bw,bl,bi,aY,_,_,rfl,qcq P ht.2 hs r1 r2 r3 o1 o2 o3,⟨D.os,D.tape,D.output,D.size,fun x hx _=>D.block x hx,fun x hx=>by rw[R];exact bK hx⟩,fun b hb=>?_⟩;rw[R];simp only;rw[aU aj];by_cases e1:b=S;·rw[bK e1];exact .inl rfl
    ·rw[aU e1];by_cases e2:b=bw;·rw[bK e2];exact .inr (.inl rfl)
     ·rw[aU e2];by_cases e3:b=bl;·rw[bK e3];exact .inr (.inr (.inl rfl))
      ·rw[aU e3];exact .inr (.inr (.inr rfl))
