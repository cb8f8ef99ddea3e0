import Derived.Test.YtphbledmopchnaaGreatDoorLid
import Derived.ChangeArms
import Derived.Deep.SlicePairs
import Derived.SizedLaws
import Derived.Test.YtphbledmopchnaaGreatDoorRows
set_option maxHeartbeats 1000000
set_option maxRecDepth 100000
namespace Go.Proofs.YtphbledmopchnaaGreatDoor.Sd
open Go.ChangeShapes Go.WideShapes Go.RowKit Go.Deep
section
theorem qf8:0<Tryz.prog.bytesOf 37:=by decide +kernel
theorem kc3:Tryz.prog.cellsOf 3=1:=bH
theorem kc9:Tryz.prog.cellsOf 9=1:=bH
theorem qf9:Tryz.prog.cellsOf 37=5:=bH
section
variable {H:Type} {enc:TypeId×Value->H}
def WtK(t:TypeId)(d:DataW H):Prop:=∀n∈d.weights Tryz.prog t,n<=140737488351232
theorem Sj{t:TypeId}{bs:List UInt8}(h:WtK (H:=H) t (.lit (.string bs))):bs.length<=140737488351232:=h _ (by simp[DataW.weights])
theorem Xd{e:TypeId}:∀{l:List (DataW H)} {d:DataW H},d∈l->∀n∈d.weights Tryz.prog e,n∈DataW.weightsAll Tryz.prog e l
 |[],d,h,_,_=>by cases h
 |x::l,d,h,n,hn=>by
  rw[DataW.weightsAll];rcases List.mem_cons.1 h with rfl|h;·exact List.mem_append_left _ hn
  ·exact List.mem_append_right _ (Xd h n hn)
theorem KM{t e:TypeId}{a b:List (DataW H)}(c:Tryz.prog.underlying t=some (.slice e))(hb:0<Tryz.prog.bytesOf e)(h:WtK t (.slice a b)):a.length<=140737488351232/\∀d∈a,WtK e d:=by
 refine⟨?_,fun d hd n f=>h n ?_⟩;·have h1:=h ((a.length+b.length)*Tryz.prog.bytesOf e) (by simp[DataW.weights,c]);have g:(a.length+b.length)*1<=(a.length+b.length)*Tryz.prog.bytesOf e:=Nat.mul_le_mul_left _ hb;omega
 ·simp only[DataW.weights,c];exact List.mem_cons_of_mem _ (List.mem_append_left _ (Xd hd n f))
theorem qcw{t:TypeId}{fs:Array Field}{parts:List (DataW H)}(c:Tryz.prog.underlying t=some (.struct fs))(h:WtK t (.agg parts)){j:Nat}{a:TypeId}{d:DataW H}(ht:(fs.toList.map (·.type))[j]?=some a)(hd:parts[j]?=some d):WtK a d:=fun n b=>h n (by simp only[DataW.weights,c];exact DataW.weights_mem_each ht hd n b)
theorem KN{α:Type}(q:Nat->α)(d:α)(len j:Nat)(h:j<len):((List.range len).map q).getD j d=q j:=by rw[List.getD_eq_getElem?_getD,List.getElem?_map,List.getElem?_range h];rfl
theorem ZQ{W:World}{b off:Nat}{cs:bO}{d:DataW H}{p:List MemPlace}{f:Nat}(a:∀i,i<5->W.cell? (aB b (off+i))=cs[i]?)(g:cs.length=5)(h:DataW.trod enc Tryz.prog W 0 (fun _=>true) true f 37 cs=some (d,p))(hB:WtK 37 d):∃q:Si,ZO W b off q:=by
 obtain⟨xs,k,F,l,_,o,c⟩:=DataW.trod_struct Tryz.underlying37 h;match xs,o,cs,g with
 |[y0,y1,y2,y3,y4],_,[v0,v1,v2,v3,v4],_=>
  have w:=c 0 _ rfl;have x:=c 1 _ rfl;have y:=c 2 _ rfl;have z:=c 3 _ rfl;have A:=c 4 _ rfl;clear c;simp[kc3,kc9]at w x y z A;obtain⟨n0,r,G,w0⟩:=DataW.trod_int Tryz.underlying3 w;obtain⟨n1,s,I,w1⟩:=DataW.trod_int Tryz.underlying3 x;obtain⟨n2,t,J,C⟩:=DataW.trod_int Tryz.underlying3 y;obtain⟨n3,u,K,D⟩:=DataW.trod_int Tryz.underlying3 z;obtain⟨n4,v,E,_⟩:=DataW.trod_string Tryz.underlying9 A;have n:WtK 37 (.agg [y0.1,y1.1,y2.1,y3.1,y4.1]):=by simp only[Prod.mk.injEq]at l;rw[l.1]at hB;exact hB
  have m:WtK 9 y4.1:=qcw Tryz.underlying37 n (j:=4) rfl rfl;have B:n4.size<=140737488351232:=by rw[E]at m;have h:=Sj m;have e:n4.data.toList.length=n4.size:=Array.length_toList;omega
  simp only[List.cons.injEq,and_true]at r s t u v;refine⟨⟨n0,n1,n2,n3,n4⟩,?_,?_,?_,?_,?_,bounds_i64 w1,bounds_i64 C,bounds_i64 D,B⟩;·have:=a 0 aj;rw[r]at this;exact this
  ·have:=a 1 aj;rw[s]at this;exact this
  ·have:=a 2 aj;rw[t]at this;exact this
  ·have:=a 3 aj;rw[u]at this;exact this
  ·have:=a 4 aj;rw[v]at this;exact this
theorem Xe{W:World}{c:Value}{x:DataW H×List MemPlace}{k:Nat}(h:DataW.trod enc Tryz.prog W 0 (fun _=>true) true k 26 [c]=some x)(hB:WtK 26 x.1):∃oa r oc,c=.slice oa r.length oc/\StW W oa r/\r.length<=140737488351232:=by
 rcases open_slice Tryz.underlying26 h with⟨l,t⟩|⟨a,len,cap,m,n,D,Pl,l,_,hl,hm,hmm,rfl,hall⟩;·simp only[List.cons.injEq,and_true]at l;subst l;exact⟨none,[],0,rfl,fun j g=>absurd g (Nat.not_lt_zero _),aP⟩
 ·simp only[List.cons.injEq,and_true]at l;subst l;simp only[if_true]at hmm;subst hmm;obtain⟨b,off,spot⟩:=a;have e:0<len->spot=none:=fun s=>by
   obtain⟨p,h1,_⟩:=hall 0 aj;rw[qf9]at h1;obtain⟨_,f,d⟩:=World.cells?_some h1;have o:=d 0 aj;rw[List.getElem?_eq_getElem aj]at o;have:=World.cell?_spot o;simpa[Addr.add]using this
  have each:∀i,i<len->∃q:Si,ZO W b (off+i*5) q:=fun i hi=>by obtain⟨p,h1,o⟩:=hall i aj;rw[qf9]at h1;obtain⟨_,f,d⟩:=World.cells?_some h1;have hs:=e aj;subst hs;refine ZQ (fun j g=>?_) f o ((KM Tryz.underlying26 qf8 hB).2 _ (List.mem_map.2 ⟨i,List.mem_range.2 hi,rfl⟩));have:=d j g;rw[Addr.add_lit,Addr.add_lit]at this;exact this
  have:Inhabited Si:=⟨Kc⟩;obtain⟨q,hq⟩:=choose_lt each;refine⟨some ⟨b,off,spot⟩,(List.range len).map q,m,aP,?_,?_⟩;·intro j g;simp only[List.length_map,List.length_range]at g;have hs:=e aj;subst hs;rw[KN q _ len j g];exact⟨b,off,rfl,hq j g⟩
  ·have:=(KM Tryz.underlying26 qf8 hB).1;simpa using this
