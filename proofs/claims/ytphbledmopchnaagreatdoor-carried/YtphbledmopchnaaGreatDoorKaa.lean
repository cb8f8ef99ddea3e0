import Derived.Deep.AppendSrc
import Derived.Deep.Draws
import Derived.Lib.AppendZerosOnto
import Derived.Lib.JoinLaws
import Derived.Lib.Overlaps
import Derived.Lib.SliceRun
import Derived.WalkKit
import Derived.BigQuiet
import Derived.Deep.LoopGhost
import Derived.Deep.QuietTactic
import Derived.Outline
import Derived.Test.YtphbledmopchnaaGreatDoorProg
import Derived.WalkLawsBesides
import Derived.Deep.Light
import Derived.OpenShut
import Derived.Laws.EntriesVeiled
import Derived.Shelf.Abstract
open Go.RowKit.Below renaming refl->CK
open Go.Builtin renaming zeroCells->nI,append_->R3,firstCells->qa0,clear_->qa5,copy_->qa6,max_->qa7
open List renaming getElem?_take->mR,getElem?_append_right->tL,getElem?_append_left->tT,append_assoc->Bu,getElem?_drop->DJ,ext_getElem?->Kt,take_append_of_le_length->KG,foldl_append->Lb,take_of_length_le->Si,getElem?_eq_none->Xw,range->ZE,mem_append->qa4
open Nat renaming le_refl->jK,shiftRight_eq_div_pow->uj,xor_lt_two_pow->Gl,mul_assoc->Z9,le_trans->qa1,mul_comm->qa8,xor_comm->qa9
open UInt8 renaming toNat_ofNat_of_lt'->M4,ofNat->Vh
open Go.World renaming block_lt_of_cell?->wz,cell?_alloc_past->Vp
set_option maxHeartbeats 1000000
set_option maxRecDepth 1000000
namespace Go.Proofs.YtphbledmopchnaaGreatDoor.Mm
open Go.RowKit Tryz
section
variable {P:Program}
def splice(l:List Value)(o:Nat)(cs:List Value):List Value:=l.take o++cs++l.drop (o+cs.length)
theorem aG(l:List Value)(o:Nat)(cs:List Value)(h:o+cs.length<=l.length):(splice l o cs).length=l.length:=by
 simp[splice];omega
def ak(w:World)(b:Nat)(t:TypeId)(l:List Value):Prop:=w.heap[b]?=some (.cells l.toArray t (0,0))
theorem ak.cell{w:World}{b:Nat}{t:TypeId}{l:List Value}(h:ak w b t l)(j:Nat):w.cell? ⟨b,j,none⟩=l[j]?:=by
 unfold ak at h;simp[World.cell?,h]
theorem ak.frozen{w:World}{b:Nat}{t:TypeId}{l:List Value}(h:ak w b t l)(j:Nat):w.frozen? ⟨b,j,none⟩=false:=by
 unfold ak at h;simp[World.frozen?,h]
theorem ak.shape{w:World}{b:Nat}{t:TypeId}{l:List Value}(h:ak w b t l):w.shape? b=some (t,l.length):=by
 unfold ak at h;simp[World.shape?,h]
theorem ak.lt{w:World}{b:Nat}{t:TypeId}{l:List Value}(h:ak w b t l):b<w.heap.size:=(Array.getElem?_eq_some_iff.1 h).1
theorem ak.of_heap{w w':World}{b:Nat}{t:TypeId}{l:List Value}(h:ak w b t l)(e:w'.heap[b]?=w.heap[b]?):ak w' b t l:=by
 unfold ak at h ⊢;rw[e,h]
theorem ak.drew{w:World}{b:Nat}{t:TypeId}{l:List Value}(h:ak w b t l):ak w.drew b t l:=h
theorem ak.alloc{w:World}{b:Nat}{t:TypeId}{l:List Value}(h:ak w b t l)(o:Obj):ak (w.alloc o) b t l:=
 h.of_heap (Below.heap_alloc w o b h.lt)
theorem ak.new(w:World)(t:TypeId)(l:List Value):ak (w.alloc (.cells l.toArray t)) w.heap.size t l:=by
 show(w.heap.push _)[w.heap.size]?=_;simp
def put(w:World)(b:Nat)(l:List Value):World:=w.setRow b l.toArray
theorem ak.put{w:World}{b:Nat}{t:TypeId}{l:List Value}(h:ak w b t l)(l':List Value):ak (put w b l') b t l':=setRow_heap w b _ _ t _ h
theorem dQ(w:World)(b k:Nat)(l:List Value)(h:k≠b):(put w b l).heap[k]?=w.heap[k]?:=setRow_other w b k _ h
theorem aT(w:World)(b:Nat)(l:List Value):w.grownBy (put w b l) (some b):=
 ⟨rfl,rfl,rfl,by simp[put],fun k _ F=>dQ w b k l (fun e=>F (by rw[e]))⟩
theorem bW{w:World}{g o:Nat}{t:TypeId}{l:List Value}(h:ak w g t l)(cs:List Value)(F:o+cs.length<=l.length)(h1:∀v∈cs,v.oneCell'=true):
  (storeCells ⟨g,o,none⟩ cs).run P w=.ok () (put w g (splice l o cs)):=by
 have:=run_storeCells_at P g o t cs 0 l.toArray w h (by simpa using F) h1;simpa[put,splice]using this
theorem qG{w:World}{g o:Nat}{t:TypeId}{l:List Value}(h:ak w g t l)(cs:List Value)(F:o+cs.length<=l.length)(h1:∀v∈cs,v.oneCell'=true):
  w.setCells g o cs=put w g (splice l o cs):=by
 have a:=bW (P:=default) h cs F h1;have b:=run_storeCells_cells (P:=default) g o cs 0 w (fun j G=>by rw[h.cell];simp;omega) (fun j _=>h.frozen _) h1;rw[b]at a;simpa using a
theorem fE{w:World}(U sT ty elem:TypeId){g o dLen dCap:Nat}{t:TypeId}{l:List Value}(h:ak w g t l)(a:Addr)(F G k n:Nat)(cs:List Value)(Z:P.underlying U=some (.slice elem))(hs:(P.info? elem).map (·.size)=some k)(X:Nat.min F dLen=n)(hl:cs.length=n*k)(I:∀j v,cs[j]?=some v->w.cell? (a.add j)=some v)(H:o+cs.length<=l.length)(h1:∀v∈cs,v.oneCell'=true):
  (qa6 #[U,sT] ty #[.slice (some ⟨g,o,none⟩) dLen dCap,.slice (some a) F G]).run P w=.ok (goInt n) (put w g (splice l o cs)):=by
 have O:=bW (P:=P) (o:=o) h cs H h1
 cases hq:P.info? elem with
 |none=>simp[hq]at hs
 |some i=>
  have hi:i.size=k:=by simpa[hq]using hs
  have V:=run_firstCells_some (P:=P) w k n a F G cs hl I;simp[qa6,run_underlying Z,Builtin.lenOf,sizeOf,typeInfo,hq,hi,X,V,O]
theorem dO{w:World}(t e I:TypeId)(z:Value)(ht:P.underlying t=some (.slice e))(H:∀w,(zeroValue e).run P w=.ok z w){b o n c:Nat}{tb:TypeId}{l:List Value}(h:ak w b tb l)(O:0<n)(F:o+(nI z.cells n).toList.length<=l.length)(h1:∀v∈(nI z.cells n).toList,v.oneCell'=true):
  (qa5 #[t] I #[.slice (some ⟨b,o,none⟩) n c]).run P w=.ok (.tuple #[]) (put w b (splice l o (nI z.cells n).toList)):=by
 have G:=bW (P:=P) (o:=o) h _ F h1;obtain⟨m,rfl⟩:∃m,n=m+1:=⟨n-1,by omega⟩;simp[qa5,run_underlying ht,H,G]
theorem bS{w:World}(t tx V e:TypeId)(z:Value)(k bytes:Nat)(ht:P.underlying t=some (.slice e))(O:P.underlying tx=some (.slice e))(F:(P.info? e).map (fun i=>(i.zero,i.size,i.bytes))=some (some z,k,bytes)){b n c m mc:Nat}{tb:TypeId}{l vs:List Value}(h:ak w b tb l)(a:Addr)(U:vs.length=m*k)(I:∀j v,vs[j]?=some v->w.cell? (a.add j)=some v)(H:∀v∈vs,v.oneCell'=true)(G:n+m<=c)(hl:n*k+vs.length<=l.length):
  (R3 #[t,tx] V #[.slice (some ⟨b,0,none⟩) n c,.slice (some a) m mc]).run P w=.ok (.slice (some ⟨b,0,none⟩) (n+m) c) (put w b (splice l (n*k) vs)):=by
 obtain⟨i,hi,_,hs,_⟩:=info_parts F
 have X:Src P i.size tx (.slice (some a) m mc) m vs w:=by rw[hs];exact Src.ofSlice w O a m mc vs U I H
 rw[run_append_room_src (P:=P) (w:=w) t tx V e i ht hi b 0 n c _ m vs X G (fun j Z=>by rw[h.cell,hs];simp;omega) (fun j _=>h.frozen _),qG h _ (by rw[hs];omega) H,hs,Nat.zero_add]
theorem eX{w:World}(t tx Z e:TypeId)(z:Value)(k bytes:Nat)(ht:P.underlying t=some (.slice e))(U:P.underlying tx=some (.slice e))(G:(P.info? e).map (fun i=>(i.zero,i.size,i.bytes))=some (some z,k,bytes)){base:Option Addr}{n c m mc:Nat}{cs vs:List Value}(hold:base=none/\cs=[]\/∃b,base=some b/\cs.length=n*k/\∀j v,cs[j]?=some v->w.cell? (b.add j)=some v)(a:Addr)(V:vs.length=m*k)(I:∀j v,vs[j]?=some v->w.cell? (a.add j)=some v)(O:∀v∈vs,v.oneCell'=true)(F:c<n+m)(H:(n+m)*bytes<=140737488355328)(X:n+m<=9223372036854775807):
  (R3 #[t,tx] Z #[.slice base n c,.slice (some a) m mc]).run P w=.ok (.slice (some ⟨w.heap.size,0,none⟩) (n+m) (grownCap w (n+m) c e))
   (w.drew.alloc (.cells (cs++vs++(nI z.cells (grownCap w (n+m) c e-(n+m))).toList).toArray e)):=by
 obtain⟨i,hi,hz,hs,hb⟩:=info_parts G
 have hS:Src P i.size tx (.slice (some a) m mc) m vs w:=by rw[hs];exact Src.ofSlice w U a m mc vs V I O
 have hO:(qa0 i.size n (.slice base n c)).run P w.drew=.ok cs.toArray w.drew:=by
  rcases hold with⟨rfl,rfl⟩|⟨b,rfl,hl,hc⟩
  ·exact run_firstCells_none w.drew i.size n n c
  ·rw[hs];exact run_firstCells_some w.drew k n b n c cs hl hc
 rw[run_append_grow_src (P:=P) (w:=w) t tx Z e i z ht hi hz base n c cs hO _ m vs hS F (by omega) (by rw[hb];exact growslice_fits F H)]
 congr 3
 apply Array.ext';simp
theorem ny{w:World}(t O Z e:TypeId)(z:Value)(k bytes:Nat)(V X:IntKind)(ht:P.underlying t=some (.slice e))(I:P.underlying O=some (.int V))(G:(P.info? e).map (fun i=>(i.zero,i.size,i.bytes))=some (some z,k,bytes))(hk:0<k)(b:Addr){n c m:Nat}{cs:List Value}(hl:cs.length=n*k)(hc:∀j v,cs[j]?=some v->w.cell? (b.add j)=some v)(hm:0<m)(F:c<n+m)(H:(n+m)*bytes<=140737488355328)(U:n+m<=9223372036854775807):
  (R3 #[t,O] Z #[.slice (some b) n c,.int X (m:Nat)]).run P w=.ok (.slice (some ⟨w.heap.size,0,none⟩) (n+m) (grownCap w (n+m) c e))
   (w.drew.alloc (.cells (cs++(nI z.cells m).toList++(nI z.cells (grownCap w (n+m) c e-(n+m))).toList).toArray e)):=by
 obtain⟨i,hi,hz,hs,hb⟩:=info_parts G
 have hO:(qa0 i.size n (.slice (some b) n c)).run P w.drew=.ok cs.toArray w.drew:=by
  rw[hs];exact run_firstCells_some w.drew k n b n c cs hl hc
 have h0:m*bytes<=(n+m)*bytes:=Nat.mul_le_mul_right _ (by omega);rw[Lib.run_append_grow_zeros w t O Z e i z X V ht I hi hz (some b) n c cs hO m hm (by omega) F (by omega) (by rw[hb];omega) (by rw[hb];exact growslice_fits F H)]
 congr 3
 apply Array.ext';simp
theorem gu(l:List Value)(o:Nat)(cs:List Value)(h:o+cs.length<=l.length)(j:Nat):(splice l o cs)[j]?=if j<o then l[j]? else if j<o+cs.length then cs[j-o]? else l[j]?:=by
 unfold splice
 have ht:(l.take o).length=o:=by simp;omega
 by_cases h1:j<o
 ·rw[if_pos h1,Bu,tT (by omega),mR,if_pos h1]
 ·rw[if_neg h1]
  by_cases F:j<o+cs.length
  ·rw[if_pos F,Bu,tL (by omega),tT (by omega),ht]
  ·rw[if_neg F,tL (by simp;omega),DJ]
   congr 1
   simp;omega
theorem Fz(l vs:List Value)(a m k:Nat)(U:a<=m)(hl:m+k<=l.length)(O:vs.length=k):
  (splice (splice l (a+k) ((l.drop a).take (m-a))) a vs).take (m+k)=(l.take m).take a++vs++(l.take m).drop a:=by
 have G:((l.drop a).take (m-a)).length=m-a:=by simp;omega
 have I:(splice l (a+k) ((l.drop a).take (m-a))).length=l.length:=aG _ _ _ (by omega);apply Kt;intro j;rw[mR,gu _ _ _ (by omega),gu _ _ _ (by omega),O,G]
 by_cases h1:j<a
 ·rw[if_pos (by omega),if_pos h1,if_pos (by omega),Bu,tT (by simp;omega),mR,if_pos h1,mR,if_pos (by omega)]
 ·rw[if_neg h1]
  by_cases F:j<a+k
  ·rw[if_pos (by omega),if_pos F,Bu,tL (by simp;omega),tT (by simp;omega)]
   congr 1;simp;omega
  ·rw[if_neg F]
   by_cases H:j<m+k
   ·rw[if_pos H,if_neg F,if_pos (by omega),mR,if_pos (by omega),DJ,tL (by simp;omega),DJ,mR,if_pos (by simp;omega)]
    congr 1;simp;omega
   ·rw[if_neg H,Xw (by simp;omega)]
theorem CJ(R vs F:List Value)(a k:Nat)(O:vs.length=k)(hl:a+k+F.length<=R.length):
  (splice (splice R a vs) (a+k) F).take (a+k+F.length)=R.take a++vs++F:=by
 have I:(splice R a vs).length=R.length:=aG _ _ _ (by omega);apply Kt;intro j;rw[mR,gu _ _ _ (by omega),gu _ _ _ (by omega),O]
 by_cases h1:j<a
 ·rw[if_pos (by omega),if_pos (by omega),if_pos h1,Bu,tT (by simp;omega),mR,if_pos h1]
 ·rw[if_neg h1]
  by_cases G:j<a+k
  ·rw[if_pos (by omega),if_pos G,if_pos G,Bu,tL (by simp;omega),tT (by simp;omega)]
   congr 1;simp;omega
  ·by_cases H:j<a+k+F.length
   ·rw[if_pos H,if_neg G,if_pos H,tL (by simp;omega)]
    congr 1;simp;omega
   ·rw[if_neg H,Xw (by simp;omega)]
theorem dz(R cs:List Value)(o a:Nat)(h:o+cs.length<=R.length)(F:a<=o):(splice R o cs).take a=R.take a:=by
 apply Kt;intro j;rw[mR,mR,gu _ _ _ h]
 by_cases h1:j<a
 ·rw[if_pos h1,if_pos h1,if_pos (by omega)]
 ·rw[if_neg h1,if_neg h1]
theorem dR(R vs:List Value)(a:Nat)(h:a+vs.length<=R.length):(splice R a vs).take (a+vs.length)=R.take a++vs:=by
 unfold splice;rw[KG (by simp;omega),Si (by simp;omega)]
theorem aS{R cs:List Value}{o:Nat}(h1:∀v∈R,v.oneCell'=true)(G:∀v∈cs,v.oneCell'=true):∀v∈splice R o cs,v.oneCell'=true:=by
 intro v F;unfold splice at F
 rcases qa4.1 F with F|F
 ·rcases qa4.1 F with F|F
  ·exact h1 v (List.mem_of_mem_take F)
  ·exact G v F
 ·exact h1 v (List.mem_of_mem_drop F)
theorem kg(R cs:List Value)(o a:Nat)(h:o+cs.length<=R.length)(F:o+cs.length<=a):(splice R o cs).drop a=R.drop a:=by
 apply Kt;intro j;rw[DJ,DJ,gu _ _ _ h,if_neg (by omega),if_neg (by omega)]
theorem dA(n:Nat):(nI (Value.agg #[.int .u64 0,.int .u64 0]).cells n).toList.length=n*2:=by
 simp[nI,Value.cells]
theorem eZ(n:Nat):∀v∈(nI (Value.agg #[.int .u64 0,.int .u64 0]).cells n).toList,v.oneCell'=true:=by
 intro v F;simp[nI,Value.cells]at F;obtain⟨i,_,rfl⟩:=F
 have:i % 2=0\/i % 2=1:=by omega
 rcases this with h|h<;>rw[h]<;>rfl
theorem eH(w:World)(row:Option Nat):w.grownBy w.drew row:=⟨rfl,rfl,rfl,jK _,fun _ _ _=>rfl⟩
theorem nC(w:World)(q:Nat)(row:Option Nat):w.grownBy (w.drewN q) row:=⟨rfl,rfl,rfl,jK _,fun _ _ _=>rfl⟩
theorem FB(w:World)(row:Option Nat):w.grownBy w row:=⟨rfl,rfl,rfl,jK _,fun _ _ _=>rfl⟩
theorem bC{a b c:World}{row:Option Nat}(h:a.grownBy b row)(k:b.grownBy c row):a.grownBy c row:=
 ⟨k.os.trans h.os,k.tape.trans h.tape,k.output.trans h.output,qa1 h.size k.size,fun i hi F=>(k.block i (Nat.lt_of_lt_of_le hi h.size) F).trans (h.block i hi F)⟩
theorem oQ{a w:World}{row:Option Nat}(h:a.grownBy w row)(b:Nat)(l:List Value)(hb:a.heap.size<=b):a.grownBy (put w b l) row:=
 ⟨h.os,h.tape,h.output,qa1 h.size (by simp[put]),fun k G F=>(dQ w b k l (by omega)).trans (h.block k G F)⟩
end
end Go.Proofs.YtphbledmopchnaaGreatDoor.Mm
namespace Go.Proofs.YtphbledmopchnaaGreatDoor.Crc
def tab:List Nat:=[0,498536548,997073096,651767980,1994146192,1802195444,1303535960,1342533948,3988292384,4027552580,3604390888,3412177804,2607071920,2262029012,2685067896,3183342108]
def CG(c:Nat):Nat:=(c >>>4) ^^^ tab.getD (c&&& 15) 0
def Q5(c:Nat)(x:UInt8):Nat:=CG (CG (c ^^^ x.toNat))
def reg(c:Nat)(l:List UInt8):Nat:=l.foldl Q5 c
def sum(l:List UInt8):Nat:=4294967295 ^^^ reg 4294967295 l
theorem sH{a b c:Nat}(h:a ^^^ c=b ^^^ c):a=b:=by
 have:=congrArg (fun z=>z ^^^ c) h;simpa[Nat.xor_assoc]using this
theorem vT{a b c:Nat}(h:c ^^^ a=c ^^^ b):a=b:=by
 rw[qa9 c a,qa9 c b]at h;exact sH h
theorem MZ:∀k,k<16->tab.getD k 0<4294967296:=by decide
theorem Rt:∀a,a<16->∀b,b<16->tab.getD a 0 >>>28=tab.getD b 0 >>>28->a=b:=by decide
theorem M5(c:Nat):c&&& 15=c % 16:=by
 have:=Nat.and_two_pow_sub_one_eq_mod c 4;simpa using this
theorem qF(c:Nat):c&&& 15<16:=by rw[M5];omega
theorem pG(c:Nat)(h:c<4294967296):CG c<4294967296:=by
 unfold CG
 have h1:c >>>4<2 ^ 32:=by rw[uj];omega
 have F:tab.getD (c&&& 15) 0<2 ^ 32:=MZ _ (qF c);exact Gl h1 F
theorem Iy(c:Nat)(h:c<4294967296):CG c >>>28=tab.getD (c&&& 15) 0 >>>28:=by
 unfold CG;rw[Nat.shiftRight_xor_distrib]
 have:c >>>4 >>>28=0:=by
  rw[<-Nat.shiftRight_add,uj];omega
 rw[this,Nat.zero_xor]
theorem vG(a b:Nat)(G:a<4294967296)(hb:b<4294967296)(h:CG a=CG b):a=b:=by
 have h1:a&&& 15=b&&& 15:=Rt _ (qF a) _ (qF b) (by rw[<-Iy a G,<-Iy b hb,h])
 have F:a >>>4=b >>>4:=by
  have e:=h;unfold CG at e;rw[h1]at e;exact sH e
 rw[M5,M5]at h1;rw[uj,uj]at F;omega
theorem jv(x:UInt8):x.toNat<256:=x.toNat_lt
theorem vU(c:Nat)(x:UInt8)(h:c<4294967296):Q5 c x<4294967296:=by
 unfold Q5;have h1:c ^^^ x.toNat<2 ^ 32:=Gl (by omega) (by have:=jv x;omega);exact pG _ (pG _ h1)
theorem AO(c:Nat)(l:List UInt8)(h:c<4294967296):reg c l<4294967296:=by
 induction l generalizing c with
 |nil=>exact h
 |cons x t F=>exact F _ (vU c x h)
theorem sum_lt(l:List UInt8):sum l<4294967296:=
 Gl (n:=32) (by omega) (AO _ l (by omega))
theorem iy{a b:Nat}(F:a<4294967296)(hb:b<4294967296):a ^^^ b<4294967296:=Gl (n:=32) F hb
theorem AP(a b:Nat)(x:UInt8)(F:a<4294967296)(hb:b<4294967296)(h:Q5 a x=Q5 b x):a=b:=by
 have G:=jv x;have h1:=vG _ _ (pG _ (iy F (by omega))) (pG _ (iy hb (by omega))) h;exact sH (vG _ _ (iy F (by omega)) (iy hb (by omega)) h1)
theorem yQ(a:Nat)(x y:UInt8)(F:a<4294967296)(h:Q5 a x=Q5 a y):x=y:=by
 have H:=jv x;have I:=jv y;have h1:=vG _ _ (pG _ (iy F (by omega))) (pG _ (iy F (by omega))) h;have G:=vT (vG _ _ (iy F (by omega)) (iy F (by omega)) h1);exact UInt8.toNat_inj.1 G
theorem Ru(a b:Nat)(l:List UInt8)(F:a<4294967296)(hb:b<4294967296)(h:reg a l=reg b l):a=b:=by
 induction l generalizing a b with
 |nil=>exact h
 |cons x t G=>exact AP a b x F hb (G _ _ (vU a x F) (vU b x hb) h)
theorem Fw(p t:List UInt8)(x y:UInt8)(h:x≠y):sum (p++x::t)≠sum (p++y::t):=by
 intro e;have F:=vT e;unfold reg at F;rw[Lb,Lb]at F;have hp:List.foldl Q5 4294967295 p<4294967296:=AO _ p (by omega);exact h (yQ _ x y hp (Ru _ _ t (vU _ x hp) (vU _ y hp) F))
end Go.Proofs.YtphbledmopchnaaGreatDoor.Crc
namespace Go.Proofs.YtphbledmopchnaaGreatDoor.Num
def code(n:Nat):Nat:=if n<64 then 0 else if n<16384 then 1 else if n<1073741824 then 2 else 3
def be:Nat->Nat->List UInt8
 |0,_=>[]
 |k+1,n=>Vh (n / 256 ^ k % 256)::be k n
def bytes(n:Nat):List UInt8:=be (2 ^ code n) (n+code n*2 ^ (8*2 ^ code n-2))
theorem Iz(n:Nat):code n<=3:=by unfold code;split<;>(try split)<;>(try split)<;>omega
theorem eY:∀k n,(be k n).length=k
 |0,_=>rfl
 |k+1,n=>by simp[be,eY k n]
theorem dJ(n:Nat):(bytes n).length=2 ^ code n:=eY _ _
def val(a:Nat)(l:List UInt8):Nat:=l.foldl (fun n x=>n*256+x.toNat) a
theorem Fx:∀k n a,val a (be k n)=a*256 ^ k+n % 256 ^ k
 |0,n,a=>by simp[be,val,Nat.mod_one]
 |k+1,n,a=>by
  have F:=Fx k n (a*256+n / 256 ^ k % 256)
  have h:val a (be (k+1) n)=val (a*256+n / 256 ^ k % 256) (be k n):=by
   show val a (Vh (n / 256 ^ k % 256)::be k n)=_;unfold val;rw[List.foldl_cons,M4 (Nat.mod_lt _ (by decide))]
  rw[h,F,Nat.pow_succ,Nat.mod_mul,Nat.add_mul,Z9 a 256,qa8 256 (256 ^ k),qa8 (n / 256 ^ k % 256)];omega
def read:List UInt8->Option (Nat×List UInt8)
 |[]=>none
 |x::t=>if t.length<2 ^ (x.toNat / 64)-1 then none else some (val (x.toNat % 64) (t.take (2 ^ (x.toNat / 64)-1)),t.drop (2 ^ (x.toNat / 64)-1))
theorem zo(x:UInt8)(t:List UInt8):read (x::t)=if t.length<2 ^ (x.toNat / 64)-1 then none else some (val (x.toNat % 64) (t.take (2 ^ (x.toNat / 64)-1)),t.drop (2 ^ (x.toNat / 64)-1)):=rfl
theorem Fy(n:Nat)(h:n<4611686018427387904)(t:List UInt8):read (bytes n++t)=some (n,t):=by
 have key:∀(c k:Nat),2 ^ c=k+1->c<4->n<64*256 ^ k->read (be (k+1) (n+c*(64*256 ^ k))++t)=some (n,t):=by
  intro c k U Z V;have F:0<256 ^ k:=Nat.pow_pos (by decide)
  have hq:(n+c*(64*256 ^ k)) / 256 ^ k=n / 256 ^ k+c*64:=by
   rw[<-Z9,Nat.add_mul_div_right _ _ F]
  have G:∀q,q<64->(q+c*64) / 64=c/\(q+c*64) % 64=q/\q+c*64<256:=fun q hq=>by omega
  have H:n / 256 ^ k<64:=(Nat.div_lt_iff_lt_mul F).2 V
  have X:(Vh ((n+c*(64*256 ^ k)) / 256 ^ k % 256)).toNat=n / 256 ^ k+c*64:=by
   rw[M4 (Nat.mod_lt _ (by decide)),hq];exact Nat.mod_eq_of_lt (G _ H).2.2
  show read (Vh ((n+c*(64*256 ^ k)) / 256 ^ k % 256)::(be k (n+c*(64*256 ^ k))++t))=_;rw[zo,X,(G _ H).1,(G _ H).2.1,U,Nat.add_sub_cancel];have hl:=eY k (n+c*(64*256 ^ k));rw[if_neg (by simp[hl]),KG (by omega),Si (by omega),List.drop_append_of_le_length (by omega),List.drop_of_length_le (by omega),List.nil_append,Fx];rw[<-Z9,Nat.add_mul_mod_self_right]
  congr 2
  exact Nat.div_add_mod' n (256 ^ k)
 unfold bytes code
 by_cases h1:n<64
 ·simp only[h1,if_true];exact key 0 0 rfl (by omega) (by omega)
 ·by_cases I:n<16384
  ·simp only[h1,I,if_true,if_false];exact key 1 1 rfl (by omega) (by omega)
  ·by_cases O:n<1073741824
   ·simp only[h1,I,O,if_true,if_false];exact key 2 3 rfl (by omega) (by omega)
   ·simp only[h1,I,O,if_false];exact key 3 7 rfl (by omega) (by omega)
end Go.Proofs.YtphbledmopchnaaGreatDoor.Num
namespace Go.Proofs.YtphbledmopchnaaGreatDoor
open Go.RowKit Go.Lib Tryz
theorem hid{p:Prop}(h:p):Hid p:=h
theorem iA{k:IntKind}{a b:Int}(h:a=b):Ending.returned (.int k a)=.returned (.int k b):=by rw[h]
theorem aP{a b:Bool}(h:a=b):Ending.returned (.bool a)=.returned (.bool b):=by rw[h]
theorem vV(n:Nat)(w:World):Calls prog 271 #[.int .u64 n] w fun e w'=>e=.returned (.int .i64 (Num.code n:Nat))/\w'=w:=by
 generalize F:Num.code n=C;unfold Num.code at F
 by_cases h1:n<64
 ·have G:Hid (C=0):=by rw[if_pos h1]at F;exact F.symm
  have O:(n:Int)<64:=by omega
  clear F h1;go_enter func271,ntmps271;go_wp2;go_ret;exact⟨iA (by rw[G.out];rfl),rfl⟩
 ·have O:¬((n:Int)<64):=by omega
  by_cases H:n<16384
  ·have G:Hid (C=1):=by rw[if_neg h1,if_pos H]at F;exact F.symm
   have U:(n:Int)<16384:=by omega
   clear F h1 H;go_enter func271,ntmps271;go_wp2;go_ret;exact⟨iA (by rw[G.out];rfl),rfl⟩
  ·have U:¬((n:Int)<16384):=by omega
   by_cases I:n<1073741824
   ·have G:Hid (C=2):=by rw[if_neg h1,if_neg H,if_pos I]at F;exact F.symm
    have V:(n:Int)<1073741824:=by omega
    clear F h1 H I;go_enter func271,ntmps271;go_wp2;go_ret;exact⟨iA (by rw[G.out];rfl),rfl⟩
   ·have G:Hid (C=3):=by rw[if_neg h1,if_neg H,if_neg I]at F;exact F.symm
    have V:¬((n:Int)<1073741824):=by omega
    clear F h1 H I;go_enter func271,ntmps271;go_wp2;go_ret;exact⟨iA (by rw[G.out];rfl),rfl⟩
def BytesAt(w:World)(a:Option Addr)(l:List UInt8):Prop:=
 ∀j (hj:j<l.length),∃b off,a=some ⟨b,off,none⟩/\w.cell? ⟨b,off+j,none⟩=some (.int .u8 ((l[j].toNat:Nat):Int))
def TabAt(w:World):Prop:=∀k,k<16->w.cell? ⟨1,k,none⟩=some (.int .u32 ((Crc.tab.getD k 0:Nat):Int))
theorem Rv(R:Nat)(h:R<4294967296):bits .xor .u32 IntKind.u32.max (R:Int)=((4294967295 ^^^ R:Nat):Int):=by
 have e:IntKind.u32.max=((4294967295:Nat):Int):=by decide
 rw[e];exact u32_xor_nat 4294967295 R (by omega) h
theorem M6(l:List UInt8)(k:Nat)(h:k<l.length):Crc.reg 4294967295 (l.take (k+1))=Crc.Q5 (Crc.reg 4294967295 (l.take k)) l[k]:=by
 rw[List.take_succ_eq_append_getElem h];unfold Crc.reg;rw[Lb];rfl
theorem zq(S i D T:Nat)(U:S<4294967296)(hi:i=S&&& 15)(F:D=S >>>4)(G:T=Crc.tab.getD i 0):
  bits .and .u32 (S:Int) 15=(i:Int)/\(S:Int) / 16=(D:Int)/\bits .xor .u32 (D:Int) (T:Int)=(Crc.CG S:Int)/\(i:Int)<16/\i<16:=by
 have H:=Crc.qF S
 have O:D=S / 16:=by rw[F,uj]
 refine⟨?_,by omega,?_,by omega,by omega⟩
 ·rw[hi];exact u32_and_nat S 15 U (by omega)
 ·have h1:D<4294967296:=by omega
  have I:T<4294967296:=by rw[G];exact Crc.MZ i (by omega)
  rw[u32_xor_nat D T h1 I,G,F,hi];rfl
theorem IB(a:Option Addr)(l:List UInt8)(c:Nat)(w:World)(hl:l.length<=1000000000)(hb:BytesAt w a l)(ht:TabAt w):
  Calls prog 159 #[.slice a l.length c] w fun e w'=>e=.returned (.int .u32 (Crc.sum l:Nat))/\w'=w:=by
 have HB:=hid hb;have HT:=hid ht;clear hb ht;go_enter func159,ntmps159;go_wp2
 go_loop [3,8] (fun s3 s8=>∃k:Nat,k<=l.length/\s8=.int .i64 k/\s3=.int .u32 (Crc.reg 4294967295 (l.take k):Nat)) (fun _ s8=>l.length-(intOf s8).toNat)
 case atStart=>exact⟨0,Nat.zero_le _,rfl,rfl⟩
 case round=>
  obtain⟨k,hk,rfl,rfl⟩:=hrel
  by_cases h0:k<l.length
  ·have h4:(k:Int)<(l.length:Int):=by omega
   obtain⟨b,off,ha,hc⟩:=HB.out k h0;subst ha;have H:=Crc.AO 4294967295 (l.take k) (by omega);have G:=M6 l k h0;have hX:=Crc.jv l[k];have Z:Crc.Q5 (Crc.reg 4294967295 (l.take k)) l[k]=Crc.CG (Crc.CG (Crc.reg 4294967295 (l.take k) ^^^ l[k].toNat)):=rfl;rw[Z]at G;generalize Crc.reg 4294967295 (l.take k)=R at H G;generalize l[k].toNat=X at hc hX G;obtain⟨F,i1,D1,T1,U,I⟩:∃F i1 D1 T1:Nat,F=R ^^^ X/\i1=F&&& 15/\D1=F >>>4/\T1=Crc.tab.getD i1 0:=⟨_,_,_,_,rfl,rfl,rfl,rfl⟩
   have V:F<4294967296:=by rw[U];exact Crc.iy H (by omega)
   obtain⟨i2,D2,T2,b2⟩:∃i2 D2 T2:Nat,i2=Crc.CG F&&& 15/\D2=Crc.CG F >>>4/\T2=Crc.tab.getD i2 0:=⟨_,_,_,rfl,rfl,rfl⟩
   have r1:bits .xor .u32 (R:Int) ((X:Int) % 4294967296)=(F:Int):=by
    rw[show(X:Int) % 4294967296=(X:Int) by omega,U];exact u32_xor_nat R X H (by omega)
   have r2:bits .xor .u32 (R:Int) (X:Int)=(F:Int):=by
    rw[U];exact u32_xor_nat R X H (by omega)
   obtain⟨q1,q2,q3,q4,q5⟩:=zq F i1 D1 T1 V I.1 I.2.1 I.2.2;obtain⟨p1,p2,p3,p4,p5⟩:=zq (Crc.CG F) i2 D2 T2 (Crc.pG F V) b2.1 b2.2.1 b2.2.2;have t1:=HT.out i1 q5;have t2:=HT.out i2 p5;rw[<-I.2.2]at t1;rw[<-b2.2.2]at t2;have h3:=hid G;have h2:=hid U;clear G U I b2 Z;generalize O:Crc.CG F=N1 at *;generalize Rw:Crc.CG N1=N2 at *;have HN:=hid (And.intro O Rw);clear O Rw;go_wp2
   go_round
   case rel=>exact⟨k+1,by omega,by go_num,by rw[h3.out,<-h2.out,HN.out.1,HN.out.2]⟩
   case measure=>simp[intOf];omega
  ·obtain rfl:k=l.length:=by omega
   have H:=Crc.AO 4294967295 (l.take l.length) (by omega);rw[List.take_length]at H ⊢;have HS:Hid (Crc.sum l=4294967295 ^^^ Crc.reg 4294967295 l):=rfl;generalize Crc.reg 4294967295 l=R at H HS ⊢;go_wp2;go_ret;exact⟨iA (by rw[Rv R H,HS.out]),rfl⟩
end Go.Proofs.YtphbledmopchnaaGreatDoor
namespace Go.Proofs.YtphbledmopchnaaGreatDoor
open Go.RowKit Go.Lib Mm Tryz
def aU:Nat:=4611686018427387903
def nD(rs:List (Nat×Nat))(i:Nat):Bool:=
 decide ((rs.getD i (0,0)).1<=(rs.getD i (0,0)).2)&&decide ((rs.getD i (0,0)).2<=aU)&&(decide (i=0)||decide ((rs.getD i (0,0)).2+1<(rs.getD (i-1) (0,0)).1))
def lU(rs:List (Nat×Nat)):Bool:=(ZE rs.length).all (nD rs)&&decide (0<rs.length)
def fq(w:World)(a:Option Addr)(rs:List (Nat×Nat)):Prop:=
 ∀j,j<rs.length->∃b off,a=some ⟨b,off,none⟩/\w.cell? ⟨b,off+j*2,none⟩=some (.int .u64 ((rs.getD j (0,0)).1:Int))/\w.cell? ⟨b,off+j*2+1,none⟩=some (.int .u64 ((rs.getD j (0,0)).2:Int))/\
  (rs.getD j (0,0)).1<18446744073709551616/\(rs.getD j (0,0)).2<18446744073709551616
theorem fq.below{w w':World}{a:Option Addr}{rs:List (Nat×Nat)}(h:fq w a rs)(hb:Below w.heap.size w w'):fq w' a rs:=fun j I=>by
 obtain⟨b,off,H,h1,F,G⟩:=h j I;exact⟨b,off,H,(hb.cell (p:=⟨b,off+j*2,none⟩) (wz _ _ h1)).trans h1,(hb.cell (p:=⟨b,off+j*2+1,none⟩) (wz _ _ F)).trans F,G⟩
theorem vW(k:Int)(w:World):Calls prog 216 #[.int .i64 k] w fun e w'=>e=.returned (.bool (decide (1<=k/\k<=8)))/\w'=w:=by
 by_cases h:1<=k
 ·go_enter func216,ntmps216;go_wp2;go_ret;exact⟨aP (by rw[decide_eq_decide];omega),rfl⟩
 ·have F:decide (1<=k)=false:=by simp;omega
  go_enter func216,ntmps216;go_wp2;go_ret;exact⟨aP (by first|rfl|(symm;rw[decide_eq_false_iff_not];omega)),rfl⟩
theorem AQ(k:Int)(w:World):Calls prog 287 #[.int .i64 k] w fun e w'=>e=.returned (.bool (decide (0<=k/\k<8)))/\w'=w:=by
 by_cases h:0<=k
 ·go_enter func287,ntmps287;go_wp2;go_ret;exact⟨aP (by rw[decide_eq_decide];omega),rfl⟩
 ·have F:decide (0<=k)=false:=by simp;omega
  go_enter func287,ntmps287;go_wp2;go_ret;exact⟨aP (by first|rfl|(symm;rw[decide_eq_false_iff_not];omega)),rfl⟩
theorem vg(a:Option Addr)(rs:List (Nat×Nat))(c:Nat)(w:World)(hl:rs.length<=1000000000)(hr:fq w a rs):
  Calls prog 335 #[.slice a rs.length c] w fun e w'=>e=.returned (.bool (lU rs))/\Below w.heap.size w w':=by
 have HR:=hid hr;clear hr;have h5:Hid (lU rs=((ZE rs.length).all (nD rs)&&decide (0<rs.length))):=rfl;go_enter func335,ntmps335
 go_wp2_with fail
 go_loopw [7] (fun s7 wr=>∃k:Nat,k<=rs.length/\s7=.int .i64 k/\Hid (∀i,i<k->nD rs i=true)/\Hid (Below w.heap.size w wr)) (fun s7 _=>rs.length-(intOf s7).toNat)
 case atStart=>exact⟨0,Nat.zero_le _,rfl,fun i hi=>absurd hi (Nat.not_lt_zero _),CK _ _⟩
 case round=>
  obtain⟨k,hk,rfl,VO,HB⟩:=hrel
  by_cases h9:k<rs.length
  ·have hg:(k:Int)<(rs.length:Int):=by omega
   obtain⟨b,off,ha,k1,k2,hc,he⟩:=HR.out.below HB.out k h9;subst ha
   have zu:0<k->wr.cell? ⟨b,off+(k-1)*2,none⟩=some (.int .u64 ((rs.getD (k-1) (0,0)).1:Int)):=fun h0=>by
    obtain⟨b',hj,h6,hf,_⟩:=HR.out.below HB.out (k-1) (by omega);simp at h6;obtain⟨rfl,rfl⟩:=h6;exact hf
   have G:Hid (nD rs k=(decide ((rs.getD k (0,0)).1<=(rs.getD k (0,0)).2)&&decide ((rs.getD k (0,0)).2<=aU)&&(decide (k=0)||decide ((rs.getD k (0,0)).2+1<(rs.getD (k-1) (0,0)).1)))):=rfl
   have X:nD rs k=false->Hid (lU rs=false):=fun h=>by
    have:(ZE rs.length).all (nD rs)=false:=by
     rw[List.all_eq_false];exact⟨k,by simpa using h9,by simp[h]⟩
    rw[h5.out,this];rfl
   have O:nD rs k=true->Hid (∀i,i<k+1->nD rs i=true):=fun h i hi=>by
    by_cases e:i=k
    ·rw[e];exact h
    ·exact VO.out i (by omega)
   generalize (rs.getD k (0,0)).1=x at k1 hc G;generalize (rs.getD k (0,0)).2=y at k2 he G;generalize (rs.getD (k-1) (0,0)).1=z at zu G;generalize nD rs k=Z at G X O;have V:=hid (HB.out.size);have U8:=hid X;have VP:=hid O;clear X O HR VO
   by_cases h1:x<=y
   ·have g1:¬((y:Int)<(x:Int)):=by omega
    by_cases h2:y<=aU
    ·have g2:¬((4611686018427387903:Int)<(y:Int)):=by unfold aU at h2;omega
     by_cases h3:0<k
     ·have g3:(0:Int)<(k:Int):=by omega
      have k3:=zu h3;have h8:b<wr.heap.size:=wz _ _ k3
      have e5:((k:Int)-1).toNat=k-1:=by omega
      have e6:IntKind.i64.wrap ((k:Int)-1)=(k:Int)-1:=by rw[IntKind.wrap_i64];omega
      have e7:(k:Int)-1<(rs.length:Int):=by omega
      have e8:0<=(k:Int)-1:=by omega
      have e9:IntKind.u64.wrap ((y:Int)+1)=(y:Int)+1:=by rw[IntKind.wrap_u64];unfold aU at h2;omega
      clear zu
      by_cases h4:y+1<z
      ·have F:Z=true:=by rw[G.out];simp[h1,h2,h4]
       have H:=VP.out F
       have g4:¬((z:Int)<=(y:Int)+1):=by omega
       clear G U8 VP F
       go_wp2_with fail
       generalize U:wr.alloc (.cells #[.int .u64 x,.int .u64 y] 170)=Wq
       have I:Hid (Below w.heap.size w Wq):=by rw[<-U];exact HB.out.alloc V.out _
       have j1:Wq.cell? ⟨wr.heap.size,1,none⟩=some (.int .u64 y):=by rw[<-U];exact(ak.new wr 170 [.int .u64 x,.int .u64 y]).cell 1
       have j2:Wq.cell? ⟨b,off+(k-1)*2,none⟩=some (.int .u64 z):=by rw[<-U,Vp _ b _ h8];exact k3
       clear U
       go_quiet (fail)
       go_wp2;go_roundw
       case rel=>exact⟨k+1,by omega,by go_num,H,I.out.os,I.out.tape,I.out.output,I.out.size,I.out.block⟩
       case measure=>simp[intOf];omega
      ·have F:Z=false:=by rw[G.out];simp[h4];omega
       have H:=U8.out F
       have g4:(z:Int)<=(y:Int)+1:=by omega
       clear G U8 VP F
       go_wp2_with fail
       generalize U:wr.alloc (.cells #[.int .u64 x,.int .u64 y] 170)=Wq
       have I:Hid (Below w.heap.size w Wq):=by rw[<-U];exact HB.out.alloc V.out _
       have j1:Wq.cell? ⟨wr.heap.size,1,none⟩=some (.int .u64 y):=by rw[<-U];exact(ak.new wr 170 [.int .u64 x,.int .u64 y]).cell 1
       have j2:Wq.cell? ⟨b,off+(k-1)*2,none⟩=some (.int .u64 z):=by rw[<-U,Vp _ b _ h8];exact k3
       clear U
       go_quiet (fail)
       go_wp2;go_ret;exact⟨aP H.out.symm,I.out.os,I.out.tape,I.out.output,I.out.size,I.out.block⟩
     ·have g3:decide ((0:Int)<(k:Int))=false:=by simp;omega
      have F:Z=true:=by rw[G.out];simp[h1,h2];omega
      have H:=VP.out F;clear G U8 VP F zu
      go_wp2_with fail
      generalize U:wr.alloc (.cells #[.int .u64 x,.int .u64 y] 170)=Wq
      have I:Hid (Below w.heap.size w Wq):=by rw[<-U];exact HB.out.alloc V.out _
      have j1:Wq.cell? ⟨wr.heap.size,1,none⟩=some (.int .u64 y):=by rw[<-U];exact(ak.new wr 170 [.int .u64 x,.int .u64 y]).cell 1
      clear U
      go_quiet (fail)
      go_wp2;go_roundw
      case rel=>exact⟨k+1,by omega,by go_num,H,I.out.os,I.out.tape,I.out.output,I.out.size,I.out.block⟩
      case measure=>simp[intOf];omega
    ·have g2:(4611686018427387903:Int)<(y:Int):=by unfold aU at h2;omega
     have F:Z=false:=by rw[G.out];simp[h2]
     have H:=U8.out F;clear G U8 VP F zu;go_wp2;go_ret;exact⟨aP H.out.symm,HB.out.alloc V.out _⟩
   ·have g1:(y:Int)<(x:Int):=by omega
    have F:Z=false:=by rw[G.out];simp[h1]
    have H:=U8.out F;clear G U8 VP F zu;go_wp2;go_ret;exact⟨aP H.out.symm,HB.out.alloc V.out _⟩
  ·obtain rfl:k=rs.length:=by omega
   have h7:Hid (lU rs=decide (0<rs.length)):=by
    have:(ZE rs.length).all (nD rs)=true:=by
     rw[List.all_eq_true];intro i hi;exact VO.out i (by simpa using hi)
    rw[h5.out,this];rfl
   clear h5 VO;go_wp2;go_ret;exact⟨aP (by rw[h7.out,decide_eq_decide]),HB.out⟩
structure Fr where
 kind:Int
 stream:Int
 offset:Nat
 reliable:Nat
 limit:Nat
 fin:Bool
 id:Nat
 deadline:Nat
 data:ByteArray
 ranges:List (Nat×Nat)
structure jN (w:World) (b off:Nat) (f:Fr) (ra:Option Addr) (rc:Nat):Prop where
 c0:w.cell? ⟨b,off,none⟩=some (.int .i64 f.kind)
 c1:w.cell? ⟨b,off+1,none⟩=some (.int .i64 f.stream)
 c2:w.cell? ⟨b,off+2,none⟩=some (.int .u64 f.offset)
 c3:w.cell? ⟨b,off+3,none⟩=some (.int .u64 f.reliable)
 c4:w.cell? ⟨b,off+4,none⟩=some (.int .u64 f.limit)
 c5:w.cell? ⟨b,off+5,none⟩=some (.bool f.fin)
 c6:w.cell? ⟨b,off+6,none⟩=some (.int .u64 f.id)
 c7:w.cell? ⟨b,off+7,none⟩=some (.int .u64 f.deadline)
 c8:w.cell? ⟨b,off+8,none⟩=some (.string f.data)
 c9:w.cell? ⟨b,off+9,none⟩=some (.slice ra f.ranges.length rc)
 rng:fq w ra f.ranges
 rlen:f.ranges.length<=1000000000
 vX:f.data.size<=1000000000
 k0: -9223372036854775808<=f.kind/\f.kind<=9223372036854775807
 s0: -9223372036854775808<=f.stream/\f.stream<=9223372036854775807
 u0:f.offset<18446744073709551616/\f.reliable<18446744073709551616/\f.limit<18446744073709551616/\f.id<18446744073709551616/\f.deadline<18446744073709551616
theorem jN.below{w w':World}{b off:Nat}{f:Fr}{ra:Option Addr}{rc:Nat}(h:jN w b off f ra rc)(hb:Below w.heap.size w w'):jN w' b off f ra rc:=by
 have hl:=wz _ _ h.c0
 have e:∀o,w'.cell? ⟨b,o,none⟩=w.cell? ⟨b,o,none⟩:=fun o=>hb.cell (p:=⟨b,o,none⟩) hl
 exact⟨by rw[e,h.c0],by rw[e,h.c1],by rw[e,h.c2],by rw[e,h.c3],by rw[e,h.c4],by rw[e,h.c5],by rw[e,h.c6],by rw[e,h.c7],by rw[e,h.c8],by rw[e,h.c9],h.rng.below hb,h.rlen,h.vX,h.k0,h.s0,h.u0⟩
theorem jN.drewN{w:World}{b off:Nat}{f:Fr}{ra:Option Addr}{rc:Nat}(h:jN w b off f ra rc)(q:Nat):jN (w.drewN q) b off f ra rc:=h.below ⟨rfl,rfl,rfl,jK _,fun _ _=>rfl⟩
def kG(f:Fr):Bool:=decide (f.offset<=aU)&&decide (f.reliable<=aU)&&decide (f.limit<=aU)&&decide (f.id<=aU)&&decide (f.deadline<=aU)
def jf(f:Fr):Bool:=
 if f.kind=2 then lU f.ranges else if f.kind=3 then decide (f.reliable<=f.offset)else if f.kind=4 then decide (f.data.size+f.offset<=aU)else true
def snd(f:Fr):Bool:=decide (1<=f.kind/\f.kind<=8)&&kG f&&decide (0<=f.stream/\f.stream<8)&&jf f
theorem YM(a b c d e:Nat):∃F:Nat,(∀G t w,(qa7 G t #[.int .u64 a,.int .u64 b,.int .u64 c,.int .u64 d,.int .u64 e]).run prog w=.ok (.int .u64 F) w)/\∀B,F<=B↔a<=B/\b<=B/\c<=B/\d<=B/\e<=B:=by
 refine⟨max (max (max (max a b) c) d) e,fun G t w=>?_,fun B=>by simp only[Nat.max_le,and_assoc]⟩;simp only[qa7,List.foldlM_cons,List.foldlM_nil,Builtin.max2];simp only[Sem.run_bind,Sem.run_pure,Result.andThen_ok]
 congr 2
 split<;>(try split)<;>(try split)<;>(try split)<;>omega
theorem sM(b off:Nat)(f:Fr)(ra:Option Addr)(rc:Nat)(w:World)(h:jN w b off f ra rc):
  Calls prog 286 #[.pointer (some ⟨b,off,none⟩)] w fun e w'=>e=.returned (.bool (kG f))/\∃q,w'=w.drewN q:=by
 have U:Hid (kG f=(decide (f.offset<=aU)&&decide (f.reliable<=aU)&&decide (f.limit<=aU)&&decide (f.id<=aU)&&decide (f.deadline<=aU))):=rfl;have c2:=h.c2;have c3:=h.c3;have c4:=h.c4;have c6:=h.c6;have c7:=h.c7;obtain⟨u1,u2,u3,u4,u5⟩:=h.u0;obtain⟨mx,Z,V⟩:=YM f.offset f.reliable f.limit f.id f.deadline
 have X:Hid (kG f=decide ((mx:Int)<=4611686018427387903)):=by
  rw[U.out,Bool.eq_iff_iff];have:=V 4611686018427387903;simp only[Bool.and_eq_true];constructor
  ·rintro⟨⟨⟨⟨F,G⟩,H⟩,I⟩,O⟩;have:=this.2 ⟨of_decide_eq_true F,of_decide_eq_true G,of_decide_eq_true H,of_decide_eq_true I,of_decide_eq_true O⟩;exact decide_eq_true (by omega)
  ·intro a;have a':=of_decide_eq_true a;obtain⟨F,G,H,I,O⟩:=this.1 (by omega);exact⟨⟨⟨⟨decide_eq_true F,decide_eq_true G⟩,decide_eq_true H⟩,decide_eq_true I⟩,decide_eq_true O⟩
 clear h U V;go_enter func286,ntmps286
 go_wp2_with fail
 go_quiet (fail)
 go_wp2;go_ret;exact⟨aP X.out.symm,nq,rfl⟩
theorem qH(b off:Nat)(f:Fr)(ra:Option Addr)(rc:Nat)(w:World)(h:jN w b off f ra rc)(V:f.offset<=aU):
  Calls prog 288 #[.pointer (some ⟨b,off,none⟩)] w fun e w'=>e=.returned (.bool (jf f))/\Below w.heap.size w w':=by
 have G:Hid (jf f=if f.kind=2 then lU f.ranges else if f.kind=3 then decide (f.reliable<=f.offset)else if f.kind=4 then decide (f.data.size+f.offset<=aU)else true):=rfl;have X:=vg ra f.ranges rc w h.rlen h.rng;have U:=hid X;clear X;have c0:=h.c0;have c2:=h.c2;have c3:=h.c3;have c8:=h.c8;have c9:=h.c9;have hd:=h.vX;obtain⟨u1,u2,u3,u4,u5⟩:=h.u0;clear h
 by_cases F:f.kind=2
 ·have I:Hid (jf f=lU f.ranges):=by rw[G.out,if_pos F];rfl
  have g2:(f.kind==2)=true:=by simp[F]
  clear G F;go_enter func288,ntmps288
  go_wp2_with fail
  refine U.out.mono ?_;rintro e w' ⟨rfl,hb⟩;have Z:=hid hb;clear hb;go_wp2;go_ret;exact⟨aP I.out.symm,Z.out⟩
 ·have g2:(f.kind==2)=false:=by simp[F]
  by_cases H:f.kind=3
  ·have I:Hid (jf f=decide (f.reliable<=f.offset)):=by rw[G.out,if_neg F,if_pos H];rfl
   have g3:(f.kind==3)=true:=by simp[H]
   clear G F H U;go_enter func288,ntmps288
   go_wp2_with fail
   go_quiet (fail)
   go_wp2;go_ret;exact⟨aP (by rw[I.out,decide_eq_decide]),rfl,rfl,rfl,jK _,fun _ _=>rfl⟩
  ·have g3:(f.kind==3)=false:=by simp[H]
   by_cases O:f.kind=4
   ·have I:Hid (jf f=decide (f.data.size+f.offset<=aU)):=by rw[G.out,if_neg F,if_neg H,if_pos O];rfl
    have g4:(f.kind==4)=true:=by simp[O]
    have e1:IntKind.u64.wrap (4611686018427387903-(f.offset:Int))=4611686018427387903-(f.offset:Int):=by rw[IntKind.wrap_u64];unfold aU at V;omega
    have e2:IntKind.u64.wrap ((f.data.size:Nat):Int)=((f.data.size:Nat):Int):=by rw[IntKind.wrap_u64];omega
    have HM:=hid V;clear G F H O U V;go_enter func288,ntmps288
    go_wp2_with fail
    go_quiet (fail)
    go_wp2;go_ret;exact⟨aP (by rw[I.out,decide_eq_decide];have:=HM.out;unfold aU at *;omega),rfl,rfl,rfl,jK _,fun _ _=>rfl⟩
   ·have I:Hid (jf f=true):=by rw[G.out,if_neg F,if_neg H,if_neg O];rfl
    have g4:(f.kind==4)=false:=by simp[O]
    clear G F H O U;go_enter func288,ntmps288;go_wp2;go_ret;exact⟨aP I.out.symm,CK _ _⟩
theorem nE(b off:Nat)(f:Fr)(ra:Option Addr)(rc:Nat)(w:World)(h:jN w b off f ra rc):
  Calls prog 218 #[.pointer (some ⟨b,off,none⟩)] w fun e w'=>e=.returned (.bool (snd f))/\Below w.heap.size w w':=by
 have G:Hid (snd f=(decide (1<=f.kind/\f.kind<=8)&&kG f&&decide (0<=f.stream/\f.stream<8)&&jf f)):=rfl;have c0:=h.c0;have c1:=h.c1;have X:=hid (fun wx=>vW f.kind wx);have HS:=hid (fun wx=>AQ f.stream wx);have VQ:=hid (sM b off f ra rc w h);have HT:=hid (fun q Z=>qH b off f ra rc (w.drewN q) (h.drewN q) Z)
 have V:kG f=true->f.offset<=aU:=fun hx=>by
  unfold kG at hx;simp only[Bool.and_eq_true,decide_eq_true_eq]at hx;exact hx.1.1.1.1
 have U:=hid V;clear h V;generalize decide (1<=f.kind/\f.kind<=8)=B1 at *;generalize kG f=B2 at *;generalize decide (0<=f.stream/\f.stream<8)=B3 at *;generalize jf f=B4 at *;cases B1
 ·have H:Hid (snd f=false):=by rw[G.out];rfl
  clear G;go_enter func218,ntmps218
  go_wp2_with fail
  refine(X.out _).mono ?_;rintro e w1 ⟨rfl,F⟩;subst F;go_wp2;go_ret;exact⟨aP H.out.symm,CK _ _⟩
 ·cases B2
  ·have H:Hid (snd f=false):=by rw[G.out];rfl
   clear G;go_enter func218,ntmps218
   go_wp2_with fail
   refine(X.out _).mono ?_;rintro e w1 ⟨rfl,F⟩;subst F
   go_wp2_with fail
   refine VQ.out.mono ?_;rintro e w2 ⟨rfl,q,rfl⟩;go_wp2;go_ret;exact⟨aP H.out.symm,rfl,rfl,rfl,jK _,fun _ _=>rfl⟩
  ·cases B3
   ·have H:Hid (snd f=false):=by rw[G.out];rfl
    clear G;go_enter func218,ntmps218
    go_wp2_with fail
    refine(X.out _).mono ?_;rintro e w1 ⟨rfl,F⟩;subst F
    go_wp2_with fail
    refine VQ.out.mono ?_;rintro e w2 ⟨rfl,q,rfl⟩
    go_wp2_with fail
    refine(HS.out _).mono ?_;rintro e w3 ⟨rfl,I⟩;subst I;go_wp2;go_ret;exact⟨aP H.out.symm,rfl,rfl,rfl,jK _,fun _ _=>rfl⟩
   ·have H:Hid (snd f=B4):=by rw[G.out];rfl
    have Z:=U.out rfl;have h0:=hid (fun q=>HT.out q Z);clear G U HT Z;go_enter func218,ntmps218
    go_wp2_with fail
    refine(X.out _).mono ?_;rintro e w1 ⟨rfl,F⟩;subst F
    go_wp2_with fail
    refine VQ.out.mono ?_;rintro e w2 ⟨rfl,q,rfl⟩
    go_wp2_with fail
    refine(HS.out _).mono ?_;rintro e w3 ⟨rfl,I⟩;subst I
    go_wp2_with fail
    refine(h0.out q).mono ?_;rintro e w4 ⟨rfl,hb⟩;have O:=hid hb;clear hb;go_wp2;go_ret;exact⟨aP H.out.symm,O.out.os,O.out.tape,O.out.output,O.out.size,O.out.block⟩
end Go.Proofs.YtphbledmopchnaaGreatDoor
namespace Go.Proofs.YtphbledmopchnaaGreatDoor
open Go.RowKit Go.Lib Go.Shelf Mm Tryz
def J4(B0:Nat)(w:World)(xb:Nat)(v:Value):Prop:=B0<=xb/\w.cell? ⟨xb,0,none⟩=some v
theorem J4.below{B0:Nat}{w w':World}{xb:Nat}{v:Value}(h:J4 B0 w xb v)(hb:Below w.heap.size w w'):J4 B0 w' xb v:=
 ⟨h.1,(hb.cell (p:=⟨xb,0,none⟩) (wz _ _ h.2)).trans h.2⟩
theorem J4.mono{B0 B1:Nat}{w:World}{xb:Nat}{v:Value}(h:J4 B1 w xb v)(hb:B0<=B1):J4 B0 w xb v:=⟨qa1 hb h.1,h.2⟩
def fF(B0:Nat)(w:World)(F:Nat×Nat)(G fr:Value):Prop:=
 (F.1=0/\∃xb,J4 B0 w xb (.int .u8 F.2)/\G=.func (.func 321) #[] #[.pointer (some ⟨xb,0,none⟩)]/\fr=.func (.func 322) #[] #[])\/
 (F.1=1/\G=.func (.func 331) #[] #[]/\fr=.func (.func 332) #[] #[])\/
 (F.1=2/\G=.func (.func 327) #[] #[]/\fr=.func (.func 328) #[] #[])\/
 (F.1=3/\∃xb,J4 B0 w xb (.func (.func F.2) #[] #[])/\G=.func (.func 329) #[] #[.pointer (some ⟨xb,0,none⟩)]/\fr=.func (.func 330) #[] #[.pointer (some ⟨xb,0,none⟩)])\/
 (F.1=4/\G=.func (.func 333) #[] #[]/\fr=.func (.func 334) #[] #[])\/
 (F.1=5/\G=.func (.func 325) #[] #[]/\fr=.func (.func 326) #[] #[])
theorem fF.below{B0:Nat}{w w':World}{F:Nat×Nat}{I fr:Value}(h:fF B0 w F I fr)(hb:Below w.heap.size w w'):fF B0 w' F I fr:=by
 rcases h with⟨h,xb,H,G⟩|h|h|⟨h,xb,H,G⟩|h|h
 ·exact .inl ⟨h,xb,H.below hb,G⟩
 ·exact .inr (.inl h)
 ·exact .inr (.inr (.inl h))
 ·exact .inr (.inr (.inr (.inl ⟨h,xb,H.below hb,G⟩)))
 ·exact .inr (.inr (.inr (.inr (.inl h))))
 ·exact .inr (.inr (.inr (.inr (.inr h))))
theorem fF.mono{B0 B1:Nat}{w:World}{F:Nat×Nat}{I fr:Value}(h:fF B1 w F I fr)(hb:B0<=B1):fF B0 w F I fr:=by
 rcases h with⟨h,xb,H,G⟩|h|h|⟨h,xb,H,G⟩|h|h
 ·exact .inl ⟨h,xb,H.mono hb,G⟩
 ·exact .inr (.inl h)
 ·exact .inr (.inr (.inl h))
 ·exact .inr (.inr (.inr (.inl ⟨h,xb,H.mono hb,G⟩)))
 ·exact .inr (.inr (.inr (.inr (.inl h))))
 ·exact .inr (.inr (.inr (.inr (.inr h))))
def Made(w w':World)(F:Nat×Nat)(e:Ending):Prop:=∃G fr,e=.returned (.agg #[G,fr])/\fF w.heap.size w' F G fr/\Below w.heap.size w w'
theorem FH(x:Nat)(w:World):Calls prog 274 #[.int .u8 x] w fun e w'=>Made w w' (0,x) e:=by
 go_enter func274,ntmps274;go_wp2;refine bodyPost_ret (v:=.agg #[.func (.func 321) #[] #[.pointer (some ⟨w.heap.size,0,none⟩)],.func (.func 322) #[] #[]]) (by simp[results,results274,go_sem]) rfl ⟨_,_,rfl,.inl ⟨rfl,w.heap.size,⟨jK _,?_⟩,rfl,rfl⟩,?_⟩
 ·exact((ak.new w 5 [.int .u8 x]).alloc _).cell 0
 ·exact((CK _ w).alloc (jK _) _).alloc (by simp) _
theorem CQ(w:World):Calls prog 276 #[] w fun e w'=>Made w w' (5,0) e:=by
 go_enter func276,ntmps276;go_wp2;exact bodyPost_ret (v:=.agg #[.func (.func 325) #[] #[],.func (.func 326) #[] #[]]) (by simp[results,results276,go_sem]) rfl ⟨_,_,rfl,.inr (.inr (.inr (.inr (.inr ⟨rfl,rfl,rfl⟩)))),(CK _ w).alloc (jK _) _⟩
theorem nJ(w:World):Calls prog 277 #[] w fun e w'=>Made w w' (2,0) e:=by
 go_enter func277,ntmps277;go_wp2;exact bodyPost_ret (v:=.agg #[.func (.func 327) #[] #[],.func (.func 328) #[] #[]]) (by simp[results,results277,go_sem]) rfl ⟨_,_,rfl,.inr (.inr (.inl ⟨rfl,rfl,rfl⟩)),(CK _ w).alloc (jK _) _⟩
theorem FI(w:World):Calls prog 281 #[] w fun e w'=>Made w w' (1,0) e:=by
 go_enter func281,ntmps281;go_wp2;exact bodyPost_ret (v:=.agg #[.func (.func 331) #[] #[],.func (.func 332) #[] #[]]) (by simp[results,results281,go_sem]) rfl ⟨_,_,rfl,.inr (.inl ⟨rfl,rfl,rfl⟩),(CK _ w).alloc (jK _) _⟩
theorem zx(w:World):Calls prog 282 #[] w fun e w'=>Made w w' (4,0) e:=by
 go_enter func282,ntmps282;go_wp2;exact bodyPost_ret (v:=.agg #[.func (.func 333) #[] #[],.func (.func 334) #[] #[]]) (by simp[results,results282,go_sem]) rfl ⟨_,_,rfl,.inr (.inr (.inr (.inr (.inl ⟨rfl,rfl,rfl⟩)))),(CK _ w).alloc (jK _) _⟩
theorem fC(F:Nat)(w:World):Calls prog 278 #[.func (.func F) #[] #[]] w fun e w'=>Made w w' (3,F) e:=by
 go_enter func278,ntmps278;go_wp2;refine bodyPost_ret (v:=.agg #[.func (.func 329) #[] #[.pointer (some ⟨w.heap.size,0,none⟩)],.func (.func 330) #[] #[.pointer (some ⟨w.heap.size,0,none⟩)]]) (by simp[results,results278,go_sem]) rfl ⟨_,_,rfl,.inr (.inr (.inr (.inl ⟨rfl,w.heap.size,⟨jK _,?_⟩,rfl,rfl⟩))),?_⟩
 ·exact((ak.new w 357 [.func (.func F) #[] #[]]).alloc _).cell 0
 ·exact((CK _ w).alloc (jK _) _).alloc (by simp) _
theorem fG(s:Value)(hs:∃a n c,s=.slice a n c)(w:World):Calls prog 275 #[s] w fun e w'=>∃pb,e=.returned (.agg #[.func (.func 323) #[] #[.pointer (some ⟨pb,0,none⟩)],.func (.func 324) #[] #[.pointer (some ⟨pb,0,none⟩)]])/\J4 w.heap.size w' pb s/\Below w.heap.size w w':=by
 obtain⟨a,n,c,rfl⟩:=hs;go_enter func275,ntmps275;go_wp2;refine bodyPost_ret (v:=.agg #[.func (.func 323) #[] #[.pointer (some ⟨w.heap.size,0,none⟩)],.func (.func 324) #[] #[.pointer (some ⟨w.heap.size,0,none⟩)]]) (by simp[results,results275,go_sem]) rfl ⟨w.heap.size,rfl,⟨jK _,?_⟩,?_⟩
 ·exact((ak.new w 380 [.slice a n c]).alloc _).cell 0
 ·exact((CK _ w).alloc (jK _) _).alloc (by simp) _
end Go.Proofs.YtphbledmopchnaaGreatDoor
