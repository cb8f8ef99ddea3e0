import Derived.Test.YtphbledmopchnaaGreatDoorKde
import Derived.BigRegionIn
import Derived.Shelf.AbstractIn
import Derived.Sort.AtCall
import Derived.Stop.RegionWithIn
open Array renaming getElem?_eq_some_iff->jK
open List renaming getD_eq_getElem?_getD->mR,getElem?_eq_none->nI,getElem?_eq_getElem->tL,getElem?_replicate->tT,ext_getElem?->uj,length_cons->wz,length_set->Bu,replicate->CK
set_option maxHeartbeats 1000000
set_option maxRecDepth 100000
namespace Go.Proofs.YtphbledmopchnaaGreatDoor.Sd
open Go.RowKit Go.Lib Mm Tryz
theorem u_:∀(vs:List Value) (j:Nat) (l:List Value),(iU j vs l).length=l.length
 |[],_,_=>rfl
 |v::vs,j,l=>by
  show(iU (j+1) vs (l.set j v)).length=_;rw[u_ vs,Bu]
theorem EP:∀(vs:List Value) (j:Nat) (l:List Value) (i:Nat),i<l.length->(iU j vs l)[i]?=if j<=i/\i<j+vs.length then vs[i-j]? else l[i]?
 |[],j,l,i,_=>by
  rw[if_neg (by simp only[List.length_nil];omega)];rfl
 |v::vs,j,l,i,h=>by
  show(iU (j+1) vs (l.set j v))[i]?=_;rw[EP vs (j+1) (l.set j v) i (by rw[Bu];exact h)]
  by_cases h1:i=j
  ·subst h1;rw[if_neg (by omega),if_pos (by simp),List.getElem?_set_self h,Nat.sub_self];rfl
  ·by_cases F:j+1<=i/\i<j+1+vs.length
   ·rw[if_pos F,if_pos (by simp only[wz];omega)];obtain⟨d,hd⟩:∃d,i-j=d+1:=⟨i-j-1,by omega⟩;rw[hd,show i-(j+1)=d by omega];rfl
   ·rw[if_neg F,if_neg (by simp only[wz];omega),List.getElem?_set_ne (by omega)]
def CF(A V:List Value)(j:Nat):List Value:=(List.range 240).map fun i=>if 4<=i/\i<4+27*j then V.getD ((i-4) % 27) (.tuple #[])else A.getD i (.tuple #[])
theorem j4(A V:List Value)(j:Nat):(CF A V j).length=240:=by simp[CF]
theorem oN(A V:List Value)(j i:Nat)(h:i<240):(CF A V j)[i]?=some (if 4<=i/\i<4+27*j then V.getD ((i-4) % 27) (.tuple #[])else A.getD i (.tuple #[])):=by
 unfold CF;rw[List.getElem?_map,List.getElem?_range h];rfl
theorem QC(A V:List Value)(h:A.length=240):CF A V 0=A:=by
 refine uj fun i=>?_
 by_cases hi:i<240
 ·rw[oN A V 0 i hi,if_neg (by omega),mR,tL (by omega)];rfl
 ·rw[nI (by rw[j4];omega),nI (by omega)]
theorem QD(A V:List Value)(G:V.length=27)(j:Nat)(H:j<8):iU (4+27*j) V (CF A V j)=CF A V (j+1):=by
 refine uj fun i=>?_
 by_cases hi:i<240
 ·rw[EP V _ _ i (by rw[j4];exact hi),oN A V (j+1) i hi,oN A V j i hi,G]
  by_cases h1:4+27*j<=i/\i<4+27*j+27
  ·rw[if_pos h1,if_pos (by omega)]
   have:(i-4) % 27=i-(4+27*j):=by omega
   rw[this,mR,tL (by omega)];rfl
  ·rw[if_neg h1]
   by_cases F:4<=i/\i<4+27*j
   ·rw[if_pos F,if_pos (by omega)]
   ·rw[if_neg F,if_neg (by omega)]
 ·rw[nI (by rw[u_,j4];omega),nI (by rw[j4];omega)]
theorem UN(A V:List Value)(k i:Nat)(G:k<8)(hi:i<27)(x:Value)(F:V[i]?=some x):(CF A V 8)[4+27*k+i]?=some x:=by
 rw[oN A V 8 _ (by omega),if_pos (by omega)]
 have:(4+27*k+i-4) % 27=i:=by omega
 rw[this,mR,F];rfl
theorem UO(A V:List Value)(i:Nat)(hi:i<4\/220<=i)(F:i<240)(x:Value)(G:A[i]?=some x):(CF A V 8)[i]?=some x:=by
 rw[oN A V 8 _ F,if_neg (by omega),mR,G];rfl
def UQ(aH window total bw bl bi:Nat)(A:Array Value):Prop:=
 A=((((((((((((((((zeroCells210.setIfInBounds 0 (.int .i64 aH)).setIfInBounds 1 (.int .i64 window)).setIfInBounds 2 (.int .i64 total)).setIfInBounds 220 (.int .u64 (IntKind.u64.wrap (total:Int)))).setIfInBounds 221 (.int .u64 total)).setIfInBounds 222 (.int .u64 total)).setIfInBounds 223 (.int .u64 0)).setIfInBounds 224 (.int .u64 total)).setIfInBounds 225 (.int .i64 8)).setIfInBounds 226 (.int .u64 0)).setIfInBounds 227 (.slice none 0 0)).setIfInBounds 230 (.map (some bw))).setIfInBounds 231 (.map (some bl))).setIfInBounds 235 (.slice none 0 0)).setIfInBounds 236 (.int .u64 0)).setIfInBounds 237 (.map (some bi)))
theorem UR:zeroCells210.size=240:=by kernel_rfl
theorem ME:zeroCells210[3]?=some (.int .u64 0):=by kernel_rfl
theorem ER:zeroCells210[228]?=some (.bool false):=by kernel_rfl
theorem ES:zeroCells210[229]?=some (.int .u64 0):=by kernel_rfl
theorem ET:zeroCells210[232]?=some (.int .u64 0):=by kernel_rfl
theorem EU:zeroCells210[233]?=some (.slice none 0 0):=by kernel_rfl
theorem EW:zeroCells210[234]?=some (.int .u64 0):=by kernel_rfl
theorem EX:zeroCells210[238]?=some (.int .i64 0):=by kernel_rfl
theorem EY:zeroCells210[239]?=some (.bool false):=by kernel_rfl
theorem EZ(aH window total bw bl bi:Nat)(Z A:Array Value)(V:Int)(U:V=(total:Int))(hz:Z.size=240)(z3:Z[3]?=some (.int .u64 0))(F:Z[228]?=some (.bool false))(G:Z[229]?=some (.int .u64 0))(H:Z[232]?=some (.int .u64 0))(I:Z[233]?=some (.slice none 0 0))(O:Z[234]?=some (.int .u64 0))(X:Z[238]?=some (.int .i64 0))(ZF:Z[239]?=some (.bool false))(h:A=((((((((((((((((Z.setIfInBounds 0 (.int .i64 aH)).setIfInBounds 1 (.int .i64 window)).setIfInBounds 2 (.int .i64 total)).setIfInBounds 220 (.int .u64 V)).setIfInBounds 221 (.int .u64 total)).setIfInBounds 222 (.int .u64 total)).setIfInBounds 223 (.int .u64 0)).setIfInBounds 224 (.int .u64 total)).setIfInBounds 225 (.int .i64 8)).setIfInBounds 226 (.int .u64 0)).setIfInBounds 227 (.slice none 0 0)).setIfInBounds 230 (.map (some bw))).setIfInBounds 231 (.map (some bl))).setIfInBounds 235 (.slice none 0 0)).setIfInBounds 236 (.int .u64 0)).setIfInBounds 237 (.map (some bi)))):A.size=240/\A[0]?=some (.int .i64 aH)/\A[1]?=some (.int .i64 window)/\A[2]?=some (.int .i64 total)/\A[3]?=some (.int .u64 0)/\A[220]?=some (.int .u64 total)/\A[221]?=some (.int .u64 total)/\A[222]?=some (.int .u64 total)/\A[223]?=some (.int .u64 0)/\A[224]?=some (.int .u64 total)/\A[225]?=some (.int .i64 8)/\A[226]?=some (.int .u64 0)/\A[227]?=some (.slice none 0 0)/\A[228]?=some (.bool false)/\A[229]?=some (.int .u64 0)/\A[230]?=some (.map (some bw))/\A[231]?=some (.map (some bl))/\A[232]?=some (.int .u64 0)/\A[233]?=some (.slice none 0 0)/\A[234]?=some (.int .u64 0)/\A[235]?=some (.slice none 0 0)/\A[236]?=some (.int .u64 0)/\A[237]?=some (.map (some bi))/\A[238]?=some (.int .i64 0)/\A[239]?=some (.bool false):=by
 rw[U]at h;rw[h];refine⟨by simp only[Array.size_setIfInBounds,hz],?_,?_,?_,?_,?_,?_,?_,?_,?_,?_,?_,?_,?_,?_,?_,?_,?_,?_,?_,?_,?_,?_,?_,?_⟩
 all_goals simp[hz]
 ·exact(jK.1 z3).2
 ·exact(jK.1 F).2
 ·exact(jK.1 G).2
 ·exact(jK.1 H).2
 ·exact(jK.1 I).2
 ·exact(jK.1 O).2
 ·exact(jK.1 X).2
 ·exact(jK.1 ZF).2
theorem UQ.cells{aH window total bw bl bi:Nat}{A:Array Value}(h:UQ aH window total bw bl bi A)(ht:total<=4096):A.size=240/\A[0]?=some (.int .i64 aH)/\A[1]?=some (.int .i64 window)/\A[2]?=some (.int .i64 total)/\A[3]?=some (.int .u64 0)/\A[220]?=some (.int .u64 total)/\A[221]?=some (.int .u64 total)/\A[222]?=some (.int .u64 total)/\A[223]?=some (.int .u64 0)/\A[224]?=some (.int .u64 total)/\A[225]?=some (.int .i64 8)/\A[226]?=some (.int .u64 0)/\A[227]?=some (.slice none 0 0)/\A[228]?=some (.bool false)/\A[229]?=some (.int .u64 0)/\A[230]?=some (.map (some bw))/\A[231]?=some (.map (some bl))/\A[232]?=some (.int .u64 0)/\A[233]?=some (.slice none 0 0)/\A[234]?=some (.int .u64 0)/\A[235]?=some (.slice none 0 0)/\A[236]?=some (.int .u64 0)/\A[237]?=some (.map (some bi))/\A[238]?=some (.int .i64 0)/\A[239]?=some (.bool false):=
 EZ aH window total bw bl bi zeroCells210 A (IntKind.u64.wrap (total:Int)) (by rw[IntKind.wrap_u64];omega) UR ME ER ES ET EU EW EX EY h
theorem jc.nil(own:Own)(t:Nat)(w:World)(S:Nat):jc own t w S (.slice none 0 0) []:=⟨none,0,rfl,Nat.le_refl _,by omega,.inl ⟨rfl,rfl,rfl⟩,fun b hb=>by cases hb⟩
theorem GT.nil(own:Own)(t:Nat)(e:TypeId)(k:Nat)(w:World):GT own t e k w (.slice none 0 0) 0 []:=.inl ⟨rfl,rfl,rfl⟩
theorem QE{w:World}{b:Nat}(h:w.heap[b]?=some (.map #[] 0)):iD w b []:=by
 obtain⟨es,⟨F,c1,G,H⟩,I⟩:=iD.made ({w with heap:=#[]}:World);refine⟨es,⟨F,c1,h.trans ?_,H⟩,I⟩;have:=World.alloc_heap_new ({w with heap:=#[]}:World) (.map #[] 0);exact this.symm.trans G
theorem Xm{own:Own}{s:Nat}{w:World}{S bw bl bi aH window total:Nat}{A:Array Value}(hA:UQ aH window total bw bl bi A)(ht:total<=4096)(hs:0<s)(hB:ak w S TS (CF A.toList (jk window++vC window) 8))(h1:w.heap[bw]?=some (.map #[] 0))(h2:w.heap[bl]?=some (.map #[] 0))(o1:own S=s)(o2:own bw=s+42)(o3:own bl=s+43):
  bM own s w S (CF A.toList (jk window++vC window) 8) (Side.new aH window total) bw bl bi (.slice none 0 0):=by
 obtain⟨hz,a0,a1,a2,a3,ZG,ZH,I,ZI,ZJ,ZK,O,U,V,X,ZL,ZM,Z,h0,h3,ZN,h4,ZO,ZP,ZQ⟩:=hA.cells ht
 have g:∀i x,(i<4\/220<=i)->i<240->A[i]?=some x->(CF A.toList (jk window++vC window) 8)[i]?=some x:=fun i x hi h2 H=>UO _ _ i hi h2 x (by rw[Array.getElem?_toList];exact H)
 have q:∀k i x,k<8->i<27->(jk window++vC window)[i]?=some x->(CF A.toList (jk window++vC window) 8)[4+27*k+i]?=some x:=fun k i x F hi H=>UN _ _ k i F hi x H
 have eo:∀k,k<8->(Side.new aH window total).out k=Ot.new window:=fun k F=>by
  show(CK 8 (Ot.new window)).getD k sF=_;rw[mR,tT,if_pos F];rfl
 have ei:∀k,k<8->(Side.new aH window total).inn k=bI.new window:=fun k F=>by
  show(CK 8 (bI.new window)).getD k sQ=_;rw[mR,tT,if_pos F];rfl
 refine⟨o1,hs,hB,⟨j4 _ _ _,g _ _ (by omega) (by omega) a0,g _ _ (by omega) (by omega) a1,g _ _ (by omega) (by omega) a2,g _ _ (by omega) (by omega) a3,g _ _ (by omega) (by omega) ZG,⟨g _ _ (by omega) (by omega) ZH,g _ _ (by omega) (by omega) I,g _ _ (by omega) (by omega) ZI,g _ _ (by omega) (by omega) ZJ⟩,
  g _ _ (by omega) (by omega) ZK,g _ _ (by omega) (by omega) O,g _ _ (by omega) (by omega) U,g _ _ (by omega) (by omega) V,g _ _ (by omega) (by omega) X,g _ _ (by omega) (by omega) ZL,g _ _ (by omega) (by omega) ZM,g _ _ (by omega) (by omega) Z,g _ _ (by omega) (by omega) h0,g _ _ (by omega) (by omega) h3,g _ _ (by omega) (by omega) ZN,g _ _ (by omega) (by omega) h4,g _ _ (by omega) (by omega) ZO,g _ _ (by omega) (by omega) ZP,g _ _ (by omega) (by omega) ZQ⟩,
  fun k F=>?_,fun k F=>?_,jc.nil _ _ _ _,⟨fun _=>(none,0),o2,QE h1,fun x H=>by cases H⟩,⟨fun _=>(none,0),o3,QE h2,fun x H=>by cases H⟩,by simp[Side.new],by simp[Side.new]⟩
 ·rw[eo k F];refine⟨.slice none 0 0,.slice none 0 0,.slice none 0 0,⟨q k 0 _ F (by omega) rfl,q k 1 _ F (by omega) rfl,⟨q k 2 _ F (by omega) rfl,q k 3 _ F (by omega) rfl,q k 4 _ F (by omega) rfl,q k 5 _ F (by omega) rfl⟩,q k 6 _ F (by omega) rfl,q k 7 _ F (by omega) rfl,q k 8 _ F (by omega) rfl,q k 9 _ F (by omega) rfl,q k 10 _ F (by omega) rfl,q k 11 _ F (by omega) rfl,q k 12 _ F (by omega) rfl,q k 13 _ F (by omega) rfl⟩,GT.nil _ _ _ _ _,jc.nil _ _ _ _,jc.nil _ _ _ _⟩
 ·rw[ei k F]
  have G:∀i x,i<13->(jk window++vC window)[14+i]?=some x->(CF A.toList (jk window++vC window) 8)[18+27*k+i]?=some x:=fun i x hi H=>by
   rw[show 18+27*k+i=4+27*k+(14+i) by omega];exact q k (14+i) x F (by omega) H
  exact⟨.slice none 0 0,.slice none 0 0,⟨⟨G 0 _ (by omega) rfl,G 1 _ (by omega) rfl,G 2 _ (by omega) rfl,G 3 _ (by omega) rfl⟩,G 4 _ (by omega) rfl,G 5 _ (by omega) rfl,G 6 _ (by omega) rfl,G 7 _ (by omega) rfl,G 8 _ (by omega) rfl,G 9 _ (by omega) rfl,G 10 _ (by omega) rfl,G 11 _ (by omega) rfl,G 12 _ (by omega) rfl⟩,GT.nil _ _ _ _ _,GT.nil _ _ _ _ _⟩
end Go.Proofs.YtphbledmopchnaaGreatDoor.Sd
