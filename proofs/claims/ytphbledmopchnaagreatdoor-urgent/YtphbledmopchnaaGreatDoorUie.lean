import Derived.Test.YtphbledmopchnaaGreatDoorUid
import Derived.ChangeArms
import Derived.Deep.SlicePairs
import Derived.SizedLaws
import Derived.Test.YtphbledmopchnaaGreatDoorRows
set_option maxRecDepth 100000
namespace Go.Proofs.YtphbledmopchnaaGreatDoor.Sd
open Go.ChangeShapes Go.WideShapes Go.RowKit Go.Deep
section
theorem kb9:0<Tryz.prog.bytesOf 9:=by decide +kernel
theorem kc9:Tryz.prog.cellsOf 9=1:=by kernel_rfl
section
variable {H:Type} {enc:TypeId×Value->H}
def WtK(t:TypeId)(d:DataW H):Prop:=∀n∈d.weights Tryz.prog t,n<=140737488351232
theorem NW{t:TypeId}{bs:List UInt8}(h:WtK (H:=H) t (.lit (.string bs))):bs.length<=140737488351232:=h _ (by simp[DataW.weights])
theorem SG{e:TypeId}:∀{l:List (DataW H)} {d:DataW H},d∈l->∀n∈d.weights Tryz.prog e,n∈DataW.weightsAll Tryz.prog e l
 |[],d,h,_,_=>by cases h
 |x::l,d,h,n,hn=>by
  rw[DataW.weightsAll]
  rcases List.mem_cons.1 h with rfl|h
  ·exact List.mem_append_left _ hn
  ·exact List.mem_append_right _ (SG h n hn)
theorem SH{t e:TypeId}{F G:List (DataW H)}(I:Tryz.prog.underlying t=some (.slice e))(hb:0<Tryz.prog.bytesOf e)(h:WtK t (.slice F G)):F.length<=140737488351232/\∀d∈F,WtK e d:=by
 refine⟨?_,fun d hd n K=>h n ?_⟩
 ·have h1:=h ((F.length+G.length)*Tryz.prog.bytesOf e) (by simp[DataW.weights,I]);have O:(F.length+G.length)*1<=(F.length+G.length)*Tryz.prog.bytesOf e:=Nat.mul_le_mul_left _ hb;omega
 ·simp only[DataW.weights,I];exact List.mem_cons_of_mem _ (List.mem_append_left _ (SG hd n K))
theorem Gs{α:Type}(q:Nat->α)(d:α)(len j:Nat)(h:j<len):((List.range len).map q).getD j d=q j:=by
 rw[List.getD_eq_getElem?_getD,List.getElem?_map,List.getElem?_range h];rfl
theorem KU{W:World}{c:Value}{x:DataW H×List MemPlace}{K:Nat}(h:DataW.trod enc Tryz.prog W 0 (fun _=>true) true K 53 [c]=some x)(hB:WtK 53 x.1):
  ∃oa L oc,c=.slice oa L.length oc/\SsW W oa L:=by
 rcases open_slice Tryz.underlying53 h with⟨O,hx⟩|⟨a,len,cap,m,n,D,Pl,O,_,hl,hm,hmm,rfl,hall⟩
 ·simp only[List.cons.injEq,and_true]at O;subst O;exact⟨none,[],0,rfl,fun j I=>absurd I (Nat.not_lt_zero _)⟩
 ·simp only[List.cons.injEq,and_true]at O;subst O;simp only[if_true]at hmm;subst hmm;obtain⟨b,off,spot⟩:=a
  have G:0<len->spot=none:=fun Z=>by
   obtain⟨X,h1,_⟩:=hall 0 (by omega);rw[kc9]at h1;obtain⟨_,U,F⟩:=World.cells?_some h1;have V:=F 0 (by omega);rw[List.getElem?_eq_getElem (by omega)]at V;have:=World.cell?_spot V;simpa[Addr.add]using this
  have each:∀i,i<len->∃q:ByteArray,W.cell? (aj b (off+i))=some (.string q)/\q.size<=140737488351232:=fun i hi=>by
   obtain⟨X,h1,V⟩:=hall i (by omega);rw[kc9]at h1;obtain⟨_,U,F⟩:=World.cells?_some h1;have hs:=G (by omega);subst hs;have hw:=(SH Tryz.underlying53 kb9 hB).2 _ (List.mem_map.2 ⟨i,List.mem_range.2 hi,rfl⟩);obtain⟨q,e,x4,_⟩:=DataW.trod_string Tryz.underlying9 V;rw[show D i=_ from congrArg Prod.fst x4]at hw;have h3:=NW hw;have e3:q.data.toList.length=q.size:=Array.length_toList;have Z:=F 0 (by omega);rw[e,Addr.add_lit,Addr.add_lit]at Z;exact⟨q,by simpa using Z,by omega⟩
  have:Inhabited ByteArray:=⟨s0⟩;obtain⟨q,hq⟩:=choose_lt each;refine⟨some ⟨b,off,spot⟩,(List.range len).map q,m,by simp,?_⟩;intro j I;simp only[List.length_map,List.length_range]at I;have hs:=G (by omega);subst hs;rw[Gs q _ len j I];exact⟨b,off,rfl,(hq j I).1,(hq j I).2⟩
