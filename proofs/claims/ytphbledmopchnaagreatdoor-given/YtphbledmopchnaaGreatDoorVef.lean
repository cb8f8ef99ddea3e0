import Derived.Test.YtphbledmopchnaaGreatDoorVed
import Derived.ChangeArms
import Derived.Deep.SlicePairs
import Derived.SizedLaws
import Derived.Test.YtphbledmopchnaaGreatDoorRows
set_option maxHeartbeats 1000000
set_option maxRecDepth 100000
open Go renaming TypeId->WK
set_option linter.all false
namespace Go.Proofs.YtphbledmopchnaaGreatDoor.Sd
open Go.ChangeShapes Go.WideShapes Go.RowKit Go.Deep
variable {W:World}{t:WK}
section
def qp5:0<Tryz.prog.bytesOf 37:=by decide +kernel
def kc3:Tryz.prog.cellsOf 3=1:=bZ
def kc9:Tryz.prog.cellsOf 9=1:=bZ
def qp6:Tryz.prog.cellsOf 37=5:=bZ
section
variable {H:Type} {enc:WK×Value->H}
def WtK(t:WK)(d:DataW H):Prop:=∀n∈d.weights Tryz.prog t,n<=140737488351232
def Yq{a}(h:WtK (H:=H) t (.lit (.string a))):a.length<=140737488351232:=h _ (by simp[DataW.weights])
def qdx{e}:∀{l} {d:DataW H},d∈l->∀n∈d.weights Tryz.prog e,n∈DataW.weightsAll Tryz.prog e l
 |[],d,h,_,_=>by cases h
 |x::l,d,h,n,hn=>by
  rw[DataW.weightsAll];rcases List.mem_cons.1 h with rfl|h;.exact List.mem_append_left _ hn
  .exact List.mem_append_right _ (qdx h n hn)
def Qh{e}{a b:List (DataW H)}(c:Tryz.prog.underlying t=some (.slice e))(f:0<Tryz.prog.bytesOf e)(h:WtK t (.slice a b)):a.length<=140737488351232/\∀d∈a,WtK e d:=by
 refine⟨?_,fun d g n i=>h n ?_⟩;.have j:=h ((a.length+b.length)*Tryz.prog.bytesOf e) (by simp[DataW.weights,c]);have k:(a.length+b.length)*1<=(a.length+b.length)*Tryz.prog.bytesOf e:=Nat.mul_le_mul_left _ f;omega
 .simp only[DataW.weights,c];exact List.mem_cons_of_mem _ (List.mem_append_left _ (qdx g n i))
def qmm{a:Array Field}{parts:List (DataW H)}(g:Tryz.prog.underlying t=some (.struct a))(h:WtK t (.agg parts)){j:Nat}{b:WK}{d:DataW H}(f:(a.toList.map (·.type))[j]?=some b)(c:parts[j]?=some d):WtK b d:=fun n e=>h n (by simp only[DataW.weights,g];exact DataW.weights_mem_each f c n e)
def qt0{α:Type}(q:Nat->α)(d:α)(len j:Nat)(h:j<len):((List.range len).map q).getD j d=q j:=by rw[List.getD_eq_getElem?_getD,List.getElem?_map,List.getElem?_range h];rfl
def qiv{b m:Nat}{cs:bM}{d:DataW H}{p:List MemPlace}{f:Nat}(a:∀i,i<5->W.cell? (aA b (m+i))=cs[i]?)(g:cs.length=5)(h:DataW.trod enc Tryz.prog W 0 (fun _=>true) true f 37 cs=some (d,p))(D:WtK 37 d):∃q:StR,qml W b m q:=by
 obtain⟨O,k,P,l,_,s,c⟩:=DataW.trod_struct Tryz.underlying37 h;match O,s,cs,g with
 |[y0,y1,y2,y3,y4],_,[v0,v1,v2,v3,v4],_=>
  have y:=c 0 _ rfl;have z:=c 1 _ rfl;have A:=c 2 _ rfl;have B:=c 3 _ rfl;have C:=c 4 _ rfl;clear c;simp[kc3,kc9]at y z A B C;obtain⟨F,t,R,Q⟩:=DataW.trod_int Tryz.underlying3 y;obtain⟨G,u,S,K⟩:=DataW.trod_int Tryz.underlying3 z;obtain⟨I,v,T,L⟩:=DataW.trod_int Tryz.underlying3 A;obtain⟨J,w,U,M⟩:=DataW.trod_int Tryz.underlying3 B;obtain⟨o,x,N,_⟩:=DataW.trod_string Tryz.underlying9 C;have r:WtK 37 (.agg [y0.1,y1.1,y2.1,y3.1,y4.1]):=by simp only[Prod.mk.injEq]at l;rw[l.1]at D;exact D
  have n:WtK 9 y4.1:=qmm Tryz.underlying37 r (j:=4) rfl rfl;have E:o.size<=140737488351232:=by rw[N]at n;have h:=Yq n;have e:o.data.toList.length=o.size:=Array.length_toList;omega
  simp only[List.cons.injEq,and_true]at t u v w x;refine⟨⟨F,G,I,J,o⟩,?_,?_,?_,?_,?_,bounds_i64 K,bounds_i64 L,bounds_i64 M,E⟩;.have:=a 0 aj;rw[t]at this;exact this
  .have:=a 1 aj;rw[u]at this;exact this
  .have:=a 2 aj;rw[v]at this;exact this
  .have:=a 3 aj;rw[w]at this;exact this
  .have:=a 4 aj;rw[x]at this;exact this
def qdy{c:Value}{x:DataW H×List MemPlace}{o:Nat}(h:DataW.trod enc Tryz.prog W 0 (fun _=>true) true o 26 [c]=some x)(w:WtK 26 x.1):∃y v B,c=.slice y v.length B/\StW W y v/\v.length<=140737488351232:=by
 rcases open_slice Tryz.underlying26 h with⟨r,E⟩|⟨a,len,cap,m,n,D,Pl,r,_,hl,hm,hmm,rfl,hall⟩;.simp only[List.cons.injEq,and_true]at r;subst r;exact⟨none,[],0,rfl,fun j k=>absurd k (Nat.not_lt_zero _),aR⟩
 .simp only[List.cons.injEq,and_true]at r;subst r;simp only[if_true]at hmm;subst hmm;obtain⟨b,l,g⟩:=a;have e:0<len->g=none:=fun C=>by
   obtain⟨t,p,_⟩:=hall 0 aj;rw[qp6]at p;obtain⟨_,f,d⟩:=World.cells?_some p;have s:=d 0 aj;rw[List.getElem?_eq_getElem aj]at s;have:=World.cell?_spot s;simpa[Addr.add]using this
  have each:∀i,i<len->∃q:StR,qml W b (l+i*5) q:=fun i z=>by obtain⟨t,p,s⟩:=hall i aj;rw[qp6]at p;obtain⟨_,f,d⟩:=World.cells?_some p;have u:=e aj;subst u;refine qiv (fun j k=>?_) f s ((Qh Tryz.underlying26 qp5 w).2 _ (List.mem_map.2 ⟨i,List.mem_range.2 z,rfl⟩));have:=d j k;rw[Addr.add_lit,Addr.add_lit]at this;exact this
  have:Inhabited StR:=⟨MS⟩;obtain⟨q,A⟩:=choose_lt each;refine⟨some ⟨b,l,g⟩,(List.range len).map q,m,aR,?_,?_⟩;.intro j k;simp only[List.length_map,List.length_range]at k;have u:=e aj;subst u;rw[qt0 q _ len j k];exact⟨b,l,rfl,A j k⟩
  .have:=(Qh Tryz.underlying26 qp5 w).1;simpa using this
