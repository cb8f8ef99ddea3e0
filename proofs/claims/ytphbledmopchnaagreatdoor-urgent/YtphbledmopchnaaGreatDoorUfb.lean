import Derived.Test.YtphbledmopchnaaGreatDoorUde
import Derived.BigRegionIn
import Derived.Shelf.AbstractIn
import Derived.Sort.AtCall
import Derived.Stop.RegionWithIn
open Array renaming getElem?_eq_some_iff->fA
open List renaming getD_eq_getElem?_getD->fB,getElem?_eq_none->mR,getElem?_eq_getElem->nI,getElem?_replicate->sQ,ext_getElem?->tL,length_cons->tT,length_set->uj,replicate->wz
set_option maxHeartbeats 1000000
set_option maxRecDepth 100000
namespace Go.Proofs.YtphbledmopchnaaGreatDoor.Sd
open Go.RowKit Go.Lib Mm Tryz
theorem wD:∀(vs:aI) (j:Nat) (l:aI),(jr j vs l).length=l.length
 |[],_,_=>rfl
 |v::vs,j,l=>by
  show(jr (j+1) vs (l.set j v)).length=_;rw[wD vs,uj]
theorem Ga:∀(vs:aI) (j:Nat) (l:aI) (i:Nat),i<l.length->(jr j vs l)[i]?=if j<=i/\i<j+vs.length then vs[i-j]? else l[i]?
 |[],j,l,i,_=>by
  rw[if_neg (by simp only[List.length_nil];omega)];rfl
 |v::vs,j,l,i,h=>by
  show(jr (j+1) vs (l.set j v))[i]?=_;rw[Ga vs (j+1) (l.set j v) i (by rw[uj];exact h)]
  by_cases h1:i=j
  ·subst h1;rw[if_neg (by omega),if_pos (by simp),List.getElem?_set_self h,Nat.sub_self];rfl
  ·by_cases F:j+1<=i/\i<j+1+vs.length
   ·rw[if_pos F,if_pos (by simp only[tT];omega)];obtain⟨d,hd⟩:∃d,i-j=d+1:=⟨i-j-1,by omega⟩;rw[hd,show i-(j+1)=d by omega];rfl
   ·rw[if_neg F,if_neg (by simp only[tT];omega),List.getElem?_set_ne (by omega)]
def DL(A V:aI)(j:Nat):aI:=(List.range 240).map fun i=>if 4<=i/\i<4+27*j then V.getD ((i-4) % 27) (.tuple #[])else A.getD i (.tuple #[])
theorem kZ(A V:aI)(j:Nat):(DL A V j).length=240:=by simp[DL]
theorem qy(A V:aI)(j i:Nat)(h:i<240):(DL A V j)[i]?=some (if 4<=i/\i<4+27*j then V.getD ((i-4) % 27) (.tuple #[])else A.getD i (.tuple #[])):=by
 unfold DL;rw[List.getElem?_map,List.getElem?_range h];rfl
theorem Si(A V:aI)(h:A.length=240):DL A V 0=A:=by
 refine tL fun i=>?_
 by_cases hi:i<240
 ·rw[qy A V 0 i hi,if_neg (by omega),fB,nI (by omega)];rfl
 ·rw[mR (by rw[kZ];omega),mR (by omega)]
theorem Sj(A V:aI)(G:V.length=27)(j:Nat)(H:j<8):jr (4+27*j) V (DL A V j)=DL A V (j+1):=by
 refine tL fun i=>?_
 by_cases hi:i<240
 ·rw[Ga V _ _ i (by rw[kZ];exact hi),qy A V (j+1) i hi,qy A V j i hi,G]
  by_cases h1:4+27*j<=i/\i<4+27*j+27
  ·rw[if_pos h1,if_pos (by omega)]
   have:(i-4) % 27=i-(4+27*j):=by omega
   rw[this,fB,nI (by omega)];rfl
  ·rw[if_neg h1]
   by_cases F:4<=i/\i<4+27*j
   ·rw[if_pos F,if_pos (by omega)]
   ·rw[if_neg F,if_neg (by omega)]
 ·rw[mR (by rw[wD,kZ];omega),mR (by rw[kZ];omega)]
theorem Wt(A V:aI)(k i:Nat)(G:k<8)(hi:i<27)(x:Value)(F:V[i]?=some x):(DL A V 8)[4+27*k+i]?=some x:=by
 rw[qy A V 8 _ (by omega),if_pos (by omega)]
 have:(4+27*k+i-4) % 27=i:=by omega
 rw[this,fB,F];rfl
theorem Wu(A V:aI)(i:Nat)(hi:i<4\/220<=i)(F:i<240)(x:Value)(G:A[i]?=some x):(DL A V 8)[i]?=some x:=by
 rw[qy A V 8 _ F,if_neg (by omega),fB,G];rfl
def Wv(aM window total bw bl bi:Nat)(A:Array Value):Prop:=
 A=((((((((((((((((zeroCells210.setIfInBounds 0 (iZ aM)).setIfInBounds 1 (iZ window)).setIfInBounds 2 (iZ total)).setIfInBounds 220 (uZ (IntKind.u64.wrap (total:Int)))).setIfInBounds 221 (uZ total)).setIfInBounds 222 (uZ total)).setIfInBounds 223 (uZ 0)).setIfInBounds 224 (uZ total)).setIfInBounds 225 (iZ 8)).setIfInBounds 226 (uZ 0)).setIfInBounds 227 nZ).setIfInBounds 230 (.map (some bw))).setIfInBounds 231 (.map (some bl))).setIfInBounds 235 nZ).setIfInBounds 236 (uZ 0)).setIfInBounds 237 (.map (some bi)))
theorem Ww:zeroCells210.size=240:=by kernel_rfl
theorem NU:zeroCells210[3]?=some (uZ 0):=by kernel_rfl
theorem Gb:zeroCells210[228]?=some (.bool false):=by kernel_rfl
theorem Gc:zeroCells210[229]?=some (uZ 0):=by kernel_rfl
theorem Gf:zeroCells210[232]?=some (uZ 0):=by kernel_rfl
theorem Gg:zeroCells210[233]?=some nZ:=by kernel_rfl
theorem Gh:zeroCells210[234]?=some (uZ 0):=by kernel_rfl
theorem Gi:zeroCells210[238]?=some (iZ 0):=by kernel_rfl
theorem Gj:zeroCells210[239]?=some (.bool false):=by kernel_rfl
theorem Gl(aM window total bw bl bi:Nat)(Z A:Array Value)(X:Int)(O:X=(total:Int))(hz:Z.size=240)(z3:Z[3]?=some (uZ 0))(F:Z[228]?=some (.bool false))(G:Z[229]?=some (uZ 0))(H:Z[232]?=some (uZ 0))(I:Z[233]?=some nZ)(K:Z[234]?=some (uZ 0))(U:Z[238]?=some (iZ 0))(V:Z[239]?=some (.bool false))(h:A=((((((((((((((((Z.setIfInBounds 0 (iZ aM)).setIfInBounds 1 (iZ window)).setIfInBounds 2 (iZ total)).setIfInBounds 220 (uZ X)).setIfInBounds 221 (uZ total)).setIfInBounds 222 (uZ total)).setIfInBounds 223 (uZ 0)).setIfInBounds 224 (uZ total)).setIfInBounds 225 (iZ 8)).setIfInBounds 226 (uZ 0)).setIfInBounds 227 nZ).setIfInBounds 230 (.map (some bw))).setIfInBounds 231 (.map (some bl))).setIfInBounds 235 nZ).setIfInBounds 236 (uZ 0)).setIfInBounds 237 (.map (some bi)))):A.size=240/\A[0]?=some (iZ aM)/\A[1]?=some (iZ window)/\A[2]?=some (iZ total)/\A[3]?=some (uZ 0)/\A[220]?=some (uZ total)/\A[221]?=some (uZ total)/\A[222]?=some (uZ total)/\A[223]?=some (uZ 0)/\A[224]?=some (uZ total)/\A[225]?=some (iZ 8)/\A[226]?=some (uZ 0)/\A[227]?=some nZ/\A[228]?=some (.bool false)/\A[229]?=some (uZ 0)/\A[230]?=some (.map (some bw))/\A[231]?=some (.map (some bl))/\A[232]?=some (uZ 0)/\A[233]?=some nZ/\A[234]?=some (uZ 0)/\A[235]?=some nZ/\A[236]?=some (uZ 0)/\A[237]?=some (.map (some bi))/\A[238]?=some (iZ 0)/\A[239]?=some (.bool false):=by
 rw[O]at h;rw[h];refine⟨by simp only[Array.size_setIfInBounds,hz],?_,?_,?_,?_,?_,?_,?_,?_,?_,?_,?_,?_,?_,?_,?_,?_,?_,?_,?_,?_,?_,?_,?_,?_⟩
 all_goals simp[hz]
 ·exact(fA.1 z3).2
 ·exact(fA.1 F).2
 ·exact(fA.1 G).2
 ·exact(fA.1 H).2
 ·exact(fA.1 I).2
 ·exact(fA.1 K).2
 ·exact(fA.1 U).2
 ·exact(fA.1 V).2
theorem Wv.cells{aM window total bw bl bi:Nat}{A:Array Value}(h:Wv aM window total bw bl bi A)(ht:total<=4096):A.size=240/\A[0]?=some (iZ aM)/\A[1]?=some (iZ window)/\A[2]?=some (iZ total)/\A[3]?=some (uZ 0)/\A[220]?=some (uZ total)/\A[221]?=some (uZ total)/\A[222]?=some (uZ total)/\A[223]?=some (uZ 0)/\A[224]?=some (uZ total)/\A[225]?=some (iZ 8)/\A[226]?=some (uZ 0)/\A[227]?=some nZ/\A[228]?=some (.bool false)/\A[229]?=some (uZ 0)/\A[230]?=some (.map (some bw))/\A[231]?=some (.map (some bl))/\A[232]?=some (uZ 0)/\A[233]?=some nZ/\A[234]?=some (uZ 0)/\A[235]?=some nZ/\A[236]?=some (uZ 0)/\A[237]?=some (.map (some bi))/\A[238]?=some (iZ 0)/\A[239]?=some (.bool false):=
 Gl aM window total bw bl bi zeroCells210 A (IntKind.u64.wrap (total:Int)) (by rw[IntKind.wrap_u64];omega) Ww NU Gb Gc Gf Gg Gh Gi Gj h
theorem jC.nil(oZ:Own)(t:Nat)(w:World)(S:Nat):jC oZ t w S nZ []:=⟨none,0,rfl,Nat.le_refl _,by omega,.inl ⟨rfl,rfl,rfl⟩,fun b hb=>by cases hb⟩
theorem GT.nil(oZ:Own)(t:Nat)(e:TypeId)(k:Nat)(w:World):GT oZ t e k w nZ 0 []:=.inl ⟨rfl,rfl,rfl⟩
theorem Sk{w:World}{b:Nat}(h:w.heap[b]?=some (.map #[] 0)):jh w b []:=by
 obtain⟨es,⟨F,c1,G,H⟩,I⟩:=jh.made ({w with heap:=#[]}:World);refine⟨es,⟨F,c1,h.trans ?_,H⟩,I⟩;have:=World.alloc_heap_new ({w with heap:=#[]}:World) (.map #[] 0);exact this.symm.trans G
theorem Yu{oZ:Own}{s:Nat}{w:World}{S bw bl bi aM window total:Nat}{A:Array Value}(hA:Wv aM window total bw bl bi A)(ht:total<=4096)(hs:0<s)(hB:aA w S TS (DL A.toList (jO window++wM window) 8))(h1:w.heap[bw]?=some (.map #[] 0))(h2:w.heap[bl]?=some (.map #[] 0))(o1:oZ S=s)(o2:oZ bw=s+42)(o3:oZ bl=s+43):
  bT oZ s w S (DL A.toList (jO window++wM window) 8) (Side.new aM window total) bw bl bi nZ:=by
 obtain⟨hz,a0,a1,a2,a3,h4,h5,I,h6,h7,h8,K,O,U,V,h9,ha,X,Z,h0,hc,h3,he,hf,hg⟩:=hA.cells ht
 have g:∀i x,(i<4\/220<=i)->i<240->A[i]?=some x->(DL A.toList (jO window++wM window) 8)[i]?=some x:=fun i x hi h2 H=>Wu _ _ i hi h2 x (by rw[Array.getElem?_toList];exact H)
 have q:∀k i x,k<8->i<27->(jO window++wM window)[i]?=some x->(DL A.toList (jO window++wM window) 8)[4+27*k+i]?=some x:=fun k i x F hi H=>Wt _ _ k i F hi x H
 have eo:∀k,k<8->(Side.new aM window total).out k=Ot.new window:=fun k F=>by
  show(wz 8 (Ot.new window)).getD k su=_;rw[fB,sQ,if_pos F];rfl
 have ei:∀k,k<8->(Side.new aM window total).inn k=bU.new window:=fun k F=>by
  show(wz 8 (bU.new window)).getD k uH=_;rw[fB,sQ,if_pos F];rfl
 refine⟨o1,hs,hB,⟨kZ _ _ _,g _ _ (by omega) (by omega) a0,g _ _ (by omega) (by omega) a1,g _ _ (by omega) (by omega) a2,g _ _ (by omega) (by omega) a3,g _ _ (by omega) (by omega) h4,⟨g _ _ (by omega) (by omega) h5,g _ _ (by omega) (by omega) I,g _ _ (by omega) (by omega) h6,g _ _ (by omega) (by omega) h7⟩,
  g _ _ (by omega) (by omega) h8,g _ _ (by omega) (by omega) K,g _ _ (by omega) (by omega) O,g _ _ (by omega) (by omega) U,g _ _ (by omega) (by omega) V,g _ _ (by omega) (by omega) h9,g _ _ (by omega) (by omega) ha,g _ _ (by omega) (by omega) X,g _ _ (by omega) (by omega) Z,g _ _ (by omega) (by omega) h0,g _ _ (by omega) (by omega) hc,g _ _ (by omega) (by omega) h3,g _ _ (by omega) (by omega) he,g _ _ (by omega) (by omega) hf,g _ _ (by omega) (by omega) hg⟩,
  fun k F=>?_,fun k F=>?_,jC.nil _ _ _ _,⟨fun _=>(none,0),o2,Sk h1,fun x H=>by cases H⟩,⟨fun _=>(none,0),o3,Sk h2,fun x H=>by cases H⟩,GT.nil _ _ _ _ _,by simp[Side.new],by simp[Side.new]⟩
 ·rw[eo k F];refine⟨nZ,nZ,nZ,⟨q k 0 _ F (by omega) rfl,q k 1 _ F (by omega) rfl,⟨q k 2 _ F (by omega) rfl,q k 3 _ F (by omega) rfl,q k 4 _ F (by omega) rfl,q k 5 _ F (by omega) rfl⟩,q k 6 _ F (by omega) rfl,q k 7 _ F (by omega) rfl,q k 8 _ F (by omega) rfl,q k 9 _ F (by omega) rfl,q k 10 _ F (by omega) rfl,q k 11 _ F (by omega) rfl,q k 12 _ F (by omega) rfl,q k 13 _ F (by omega) rfl⟩,GT.nil _ _ _ _ _,jC.nil _ _ _ _,jC.nil _ _ _ _⟩
 ·rw[ei k F]
  have G:∀i x,i<13->(jO window++wM window)[14+i]?=some x->(DL A.toList (jO window++wM window) 8)[18+27*k+i]?=some x:=fun i x hi H=>by
   rw[show 18+27*k+i=4+27*k+(14+i) by omega];exact q k (14+i) x F (by omega) H
  exact⟨nZ,nZ,⟨⟨G 0 _ (by omega) rfl,G 1 _ (by omega) rfl,G 2 _ (by omega) rfl,G 3 _ (by omega) rfl⟩,G 4 _ (by omega) rfl,G 5 _ (by omega) rfl,G 6 _ (by omega) rfl,G 7 _ (by omega) rfl,G 8 _ (by omega) rfl,G 9 _ (by omega) rfl,G 10 _ (by omega) rfl,G 11 _ (by omega) rfl,G 12 _ (by omega) rfl⟩,GT.nil _ _ _ _ _,GT.nil _ _ _ _ _⟩
