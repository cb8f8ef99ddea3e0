import Derived.Test.YtphbledmopchnaaGreatDoorUzz
import Derived.Deep.AppendSrc
import Derived.Deep.Draws
import Derived.Lib.AppendZerosOnto
import Derived.Lib.JoinLaws
import Derived.Lib.Overlaps
import Derived.Lib.SliceRun
import Derived.BigQuiet
import Derived.Deep.LoopGhost
import Derived.Deep.QuietTactic
import Derived.Outline
import Derived.Test.YtphbledmopchnaaGreatDoorProg
import Derived.WalkLawsBesides
import Derived.Deep.Light
import Derived.OpenShut
import Derived.Deep.Upon
import Derived.LaidEql
import Derived.Laws.EntriesVeiled
import Derived.RowKitTokens
import Derived.Shelf.Abstract
import Derived.Stop.Asserts
open Go.RowKit.Below renaming heap_alloc->WA
open Go.Builtin renaming zeroCells->fA,append_->tL,firstCells->Ui,clear_->qak,copy_->qal,lenOf->qam
open Go.Lib renaming wpList_append_run->DT
open List renaming length_append->fB,getElem?_take->mR,take_of_length_le->nI,getElem?_append_right->sQ,getElem?_append_left->tT,append_assoc->wz,take_append_of_le_length->Am,getElem?_drop->Av,mem_append->Aw,ext_getElem?->KG,append_nil->R3,take_zero->SF,foldl_append->Ur,getElem?_eq_none->qa3,mem_of_mem_take->qa4,range->qa5
open Nat renaming shiftRight_eq_div_pow->uj,xor_lt_two_pow->He,le_trans->WJ,zero_add->YF,le_refl->qa0,pow_mul->qa1,mul_le_mul_right->qa9,mul_assoc->qaa,lt_of_lt_of_le->qag,mul_comm->qah,add_mul->qai,xor_comm->qan
open UInt8 renaming ofNat->Lb,toNat_ofNat_of_lt'->ZH
open Go.Value renaming ownBlock->E8,cells->M4
open Go.World renaming block_lt_of_cell?->Kt,cell?_alloc_past->qa2,grownBy_alloc->qab
set_option maxHeartbeats 1000000
set_option maxRecDepth 1000000
namespace Go.Proofs.YtphbledmopchnaaGreatDoor.Mm
open Go.RowKit Tryz
section
variable {P:Program}
def splice(l:aI)(o:Nat)(cs:aI):aI:=l.take o++cs++l.drop (o+cs.length)
theorem aN(l:aI)(o:Nat)(cs:aI)(h:o+cs.length<=l.length):(splice l o cs).length=l.length:=by
 simp[splice];omega
def aA(w:World)(b:Nat)(t:TypeId)(l:aI):Prop:=w.heap[b]?=some (.cells l.toArray t (0,0))
theorem aA.cell{w:World}{b:Nat}{t:TypeId}{l:aI}(h:aA w b t l)(j:Nat):w.cell? (aj b j)=l[j]?:=by
 unfold aA at h;simp[World.cell?,h]
theorem aA.frozen{w:World}{b:Nat}{t:TypeId}{l:aI}(h:aA w b t l)(j:Nat):w.frozen? (aj b j)=false:=by
 unfold aA at h;simp[World.frozen?,h]
theorem aA.shape{w:World}{b:Nat}{t:TypeId}{l:aI}(h:aA w b t l):w.shape? b=some (t,l.length):=by
 unfold aA at h;simp[World.shape?,h]
theorem aA.lt{w:World}{b:Nat}{t:TypeId}{l:aI}(h:aA w b t l):b<w.heap.size:=(Array.getElem?_eq_some_iff.1 h).1
theorem aA.of_heap{w w':World}{b:Nat}{t:TypeId}{l:aI}(h:aA w b t l)(e:w'.heap[b]?=w.heap[b]?):aA w' b t l:=by
 unfold aA at h ⊢;rw[e,h]
theorem aA.drew{w:World}{b:Nat}{t:TypeId}{l:aI}(h:aA w b t l):aA w.drew b t l:=h
theorem aA.alloc{w:World}{b:Nat}{t:TypeId}{l:aI}(h:aA w b t l)(o:Obj):aA (w.alloc o) b t l:=
 h.of_heap (WA w o b h.lt)
theorem aA.new(w:World)(t:TypeId)(l:aI):aA (w.alloc (.cells l.toArray t)) w.heap.size t l:=by
 show(w.heap.push _)[w.heap.size]?=_;simp
def put(w:World)(b:Nat)(l:aI):World:=w.setRow b l.toArray
theorem aA.put{w:World}{b:Nat}{t:TypeId}{l:aI}(h:aA w b t l)(l':aI):aA (put w b l') b t l':=setRow_heap w b _ _ t _ h
theorem dK(w:World)(b k:Nat)(l:aI)(h:k≠b):(put w b l).heap[k]?=w.heap[k]?:=setRow_other w b k _ h
theorem bC(w:World)(b:Nat)(l:aI):w.grownBy (put w b l) (some b):=
 ⟨rfl,rfl,rfl,by simp[put],fun k _ F=>dK w b k l (fun e=>F (by rw[e]))⟩
theorem cu{w:World}{g o:Nat}{t:TypeId}{l:aI}(h:aA w g t l)(cs:aI)(F:o+cs.length<=l.length)(h1:∀v∈cs,v.oneCell'=true):
  (storeCells (aj g o) cs).run P w=.ok () (put w g (splice l o cs)):=by
 have:=run_storeCells_at P g o t cs 0 l.toArray w h (by simpa using F) h1;simpa[put,splice]using this
theorem rU{w:World}{g o:Nat}{t:TypeId}{l:aI}(h:aA w g t l)(cs:aI)(F:o+cs.length<=l.length)(h1:∀v∈cs,v.oneCell'=true):
  w.setCells g o cs=put w g (splice l o cs):=by
 have a:=cu (P:=default) h cs F h1;have b:=run_storeCells_cells (P:=default) g o cs 0 w (fun j G=>by rw[h.cell];simp;omega) (fun j _=>h.frozen _) h1;rw[b]at a;simpa using a
theorem gy{w:World}(O Z ty elem:TypeId){g o dLen dCap:Nat}{t:TypeId}{l:aI}(h:aA w g t l)(a:Addr)(F G k n:Nat)(cs:aI)(X:P.underlying O=some (.slice elem))(hs:(P.info? elem).map (·.size)=some k)(V:Nat.min F dLen=n)(hl:cs.length=n*k)(I:∀j v,cs[j]?=some v->w.cell? (a.add j)=some v)(H:o+cs.length<=l.length)(h1:∀v∈cs,v.oneCell'=true):
  (qal #[O,Z] ty #[.slice (some (aj g o)) dLen dCap,.slice (some a) F G]).run P w=.ok (goInt n) (put w g (splice l o cs)):=by
 have K:=cu (P:=P) (o:=o) h cs H h1
 cases hq:P.info? elem with
 |none=>simp[hq]at hs
 |some i=>
  have hi:i.size=k:=by simpa[hq]using hs
  have U:=run_firstCells_some (P:=P) w k n a F G cs hl I;simp[qal,run_underlying X,qam,sizeOf,typeInfo,hq,hi,V,U,K]
theorem dG{w:World}(t e ty:TypeId)(z:Value)(ht:P.underlying t=some (.slice e))(H:∀w,(zeroValue e).run P w=.ok z w){b o n c:Nat}{tb:TypeId}{l:aI}(h:aA w b tb l)(I:0<n)(F:o+(fA z.cells n).toList.length<=l.length)(h1:∀v∈(fA z.cells n).toList,v.oneCell'=true):
  (qak #[t] ty #[.slice (some (aj b o)) n c]).run P w=.ok (.tuple #[]) (put w b (splice l o (fA z.cells n).toList)):=by
 have G:=cu (P:=P) (o:=o) h _ F h1;obtain⟨m,rfl⟩:∃m,n=m+1:=⟨n-1,by omega⟩;simp[qak,run_underlying ht,H,G]
theorem dz{w:World}(t tx ty e:TypeId)(z:Value)(k bytes:Nat)(ht:P.underlying t=some (.slice e))(K:P.underlying tx=some (.slice e))(F:(P.info? e).map (fun i=>(i.zero,i.size,i.bytes))=some (some z,k,bytes)){b n c m mc:Nat}{tb:TypeId}{l vs:aI}(h:aA w b tb l)(a:Addr)(O:vs.length=m*k)(I:∀j v,vs[j]?=some v->w.cell? (a.add j)=some v)(H:∀v∈vs,v.oneCell'=true)(G:n+m<=c)(hl:n*k+vs.length<=l.length):
  (tL #[t,tx] ty #[aS b n c,.slice (some a) m mc]).run P w=.ok (aS b (n+m) c) (put w b (splice l (n*k) vs)):=by
 obtain⟨i,hi,_,hs,_⟩:=info_parts F
 have U:Src P i.size tx (.slice (some a) m mc) m vs w:=by rw[hs];exact Src.ofSlice w K a m mc vs O I H
 rw[run_append_room_src (P:=P) (w:=w) t tx ty e i ht hi b 0 n c _ m vs U G (fun j V=>by rw[h.cell,hs];simp;omega) (fun j _=>h.frozen _),rU h _ (by rw[hs];omega) H,hs,YF]
theorem fQ{w:World}(t tx ty e:TypeId)(z:Value)(k bytes:Nat)(ht:P.underlying t=some (.slice e))(O:P.underlying tx=some (.slice e))(G:(P.info? e).map (fun i=>(i.zero,i.size,i.bytes))=some (some z,k,bytes)){base:Option Addr}{n c m mc:Nat}{cs vs:aI}(hold:base=none/\cs=[]\/∃b,base=some b/\cs.length=n*k/\∀j v,cs[j]?=some v->w.cell? (b.add j)=some v)(a:Addr)(U:vs.length=m*k)(I:∀j v,vs[j]?=some v->w.cell? (a.add j)=some v)(K:∀v∈vs,v.oneCell'=true)(F:c<n+m)(H:(n+m)*bytes<=140737488355328)(V:n+m<=9223372036854775807):
  (tL #[t,tx] ty #[.slice base n c,.slice (some a) m mc]).run P w=.ok (aS w.heap.size (n+m) (grownCap w (n+m) c e))
   (w.drew.alloc (.cells (cs++vs++(fA z.cells (grownCap w (n+m) c e-(n+m))).toList).toArray e)):=by
 obtain⟨i,hi,hz,hs,hb⟩:=info_parts G
 have Z:Src P i.size tx (.slice (some a) m mc) m vs w:=by rw[hs];exact Src.ofSlice w O a m mc vs U I K
 have X:(Ui i.size n (.slice base n c)).run P w.drew=.ok cs.toArray w.drew:=by
  rcases hold with⟨rfl,rfl⟩|⟨b,rfl,hl,hc⟩
  ·exact run_firstCells_none w.drew i.size n n c
  ·rw[hs];exact run_firstCells_some w.drew k n b n c cs hl hc
 rw[run_append_grow_src (P:=P) (w:=w) t tx ty e i z ht hi hz base n c cs X _ m vs Z F (by omega) (by rw[hb];exact growslice_fits F H)]
 congr 3
 apply Array.ext';simp
theorem oC{w:World}(t K ty e:TypeId)(z:Value)(k bytes:Nat)(U V:IntKind)(ht:P.underlying t=some (.slice e))(I:P.underlying K=some (.int U))(G:(P.info? e).map (fun i=>(i.zero,i.size,i.bytes))=some (some z,k,bytes))(hk:0<k)(b:Addr){n c m:Nat}{cs:aI}(hl:cs.length=n*k)(Z:∀j v,cs[j]?=some v->w.cell? (b.add j)=some v)(hm:0<m)(F:c<n+m)(H:(n+m)*bytes<=140737488355328)(O:n+m<=9223372036854775807):
  (tL #[t,K] ty #[.slice (some b) n c,.int V (m:Nat)]).run P w=.ok (aS w.heap.size (n+m) (grownCap w (n+m) c e))
   (w.drew.alloc (.cells (cs++(fA z.cells m).toList++(fA z.cells (grownCap w (n+m) c e-(n+m))).toList).toArray e)):=by
 obtain⟨i,hi,hz,hs,hb⟩:=info_parts G
 have X:(Ui i.size n (.slice (some b) n c)).run P w.drew=.ok cs.toArray w.drew:=by
  rw[hs];exact run_firstCells_some w.drew k n b n c cs hl Z
 have h0:m*bytes<=(n+m)*bytes:=qa9 _ (by omega);rw[Lib.run_append_grow_zeros w t K ty e i z V U ht I hi hz (some b) n c cs X m hm (by omega) F (by omega) (by rw[hb];omega) (by rw[hb];exact growslice_fits F H)]
 congr 3
 apply Array.ext';simp
theorem gV(l:aI)(o:Nat)(cs:aI)(h:o+cs.length<=l.length)(j:Nat):(splice l o cs)[j]?=if j<o then l[j]? else if j<o+cs.length then cs[j-o]? else l[j]?:=by
 unfold splice
 have ht:(l.take o).length=o:=by simp;omega
 by_cases h1:j<o
 ·rw[if_pos h1,wz,tT (by omega),mR,if_pos h1]
 ·rw[if_neg h1]
  by_cases F:j<o+cs.length
  ·rw[if_pos F,wz,sQ (by omega),tT (by omega),ht]
  ·rw[if_neg F,sQ (by simp;omega),Av]
   congr 1
   simp;omega
theorem GK(l vs:aI)(a m k:Nat)(O:a<=m)(hl:m+k<=l.length)(K:vs.length=k):
  (splice (splice l (a+k) ((l.drop a).take (m-a))) a vs).take (m+k)=(l.take m).take a++vs++(l.take m).drop a:=by
 have G:((l.drop a).take (m-a)).length=m-a:=by simp;omega
 have I:(splice l (a+k) ((l.drop a).take (m-a))).length=l.length:=aN _ _ _ (by omega);apply KG;intro j;rw[mR,gV _ _ _ (by omega),gV _ _ _ (by omega),K,G]
 by_cases h1:j<a
 ·rw[if_pos (by omega),if_pos h1,if_pos (by omega),wz,tT (by simp;omega),mR,if_pos h1,mR,if_pos (by omega)]
 ·rw[if_neg h1]
  by_cases F:j<a+k
  ·rw[if_pos (by omega),if_pos F,wz,sQ (by simp;omega),tT (by simp;omega)]
   congr 1;simp;omega
  ·rw[if_neg F]
   by_cases H:j<m+k
   ·rw[if_pos H,if_neg F,if_pos (by omega),mR,if_pos (by omega),Av,sQ (by simp;omega),Av,mR,if_pos (by simp;omega)]
    congr 1;simp;omega
   ·rw[if_neg H,qa3 (by simp;omega)]
theorem DR(R vs F:aI)(a k:Nat)(K:vs.length=k)(hl:a+k+F.length<=R.length):
  (splice (splice R a vs) (a+k) F).take (a+k+F.length)=R.take a++vs++F:=by
 have I:(splice R a vs).length=R.length:=aN _ _ _ (by omega);apply KG;intro j;rw[mR,gV _ _ _ (by omega),gV _ _ _ (by omega),K]
 by_cases h1:j<a
 ·rw[if_pos (by omega),if_pos (by omega),if_pos h1,wz,tT (by simp;omega),mR,if_pos h1]
 ·rw[if_neg h1]
  by_cases G:j<a+k
  ·rw[if_pos (by omega),if_pos G,if_pos G,wz,sQ (by simp;omega),tT (by simp;omega)]
   congr 1;simp;omega
  ·by_cases H:j<a+k+F.length
   ·rw[if_pos H,if_neg G,if_pos H,sQ (by simp;omega)]
    congr 1;simp;omega
   ·rw[if_neg H,qa3 (by simp;omega)]
theorem dH(R cs:aI)(o a:Nat)(h:o+cs.length<=R.length)(F:a<=o):(splice R o cs).take a=R.take a:=by
 apply KG;intro j;rw[mR,mR,gV _ _ _ h]
 by_cases h1:j<a
 ·rw[if_pos h1,if_pos h1,if_pos (by omega)]
 ·rw[if_neg h1,if_neg h1]
theorem dV(R vs:aI)(a:Nat)(h:a+vs.length<=R.length):(splice R a vs).take (a+vs.length)=R.take a++vs:=by
 unfold splice;rw[Am (by simp;omega),nI (by simp;omega)]
theorem aW{R cs:aI}{o:Nat}(h1:∀v∈R,v.oneCell'=true)(G:∀v∈cs,v.oneCell'=true):∀v∈splice R o cs,v.oneCell'=true:=by
 intro v F;unfold splice at F
 rcases Aw.1 F with F|F
 ·rcases Aw.1 F with F|F
  ·exact h1 v (qa4 F)
  ·exact G v F
 ·exact h1 v (List.mem_of_mem_drop F)
theorem lC(R cs:aI)(o a:Nat)(h:o+cs.length<=R.length)(F:o+cs.length<=a):(splice R o cs).drop a=R.drop a:=by
 apply KG;intro j;rw[Av,Av,gV _ _ _ h,if_neg (by omega),if_neg (by omega)]
theorem dU(n:Nat):(fA (Value.agg #[uZ 0,uZ 0]).cells n).toList.length=n*2:=by
 simp[fA,M4]
theorem fU(n:Nat):∀v∈(fA (Value.agg #[uZ 0,uZ 0]).cells n).toList,v.oneCell'=true:=by
 intro v F;simp[fA,M4]at F;obtain⟨i,_,rfl⟩:=F
 have:i % 2=0\/i % 2=1:=by omega
 rcases this with h|h<;>rw[h]<;>rfl
theorem fJ(w:World)(row:Option Nat):w.grownBy w.drew row:=⟨rfl,rfl,rfl,qa0 _,fun _ _ _=>rfl⟩
theorem oF(w:World)(q:Nat)(row:Option Nat):w.grownBy (w.drewN q) row:=⟨rfl,rfl,rfl,qa0 _,fun _ _ _=>rfl⟩
theorem GL(w:World)(row:Option Nat):w.grownBy w row:=⟨rfl,rfl,rfl,qa0 _,fun _ _ _=>rfl⟩
theorem bM{a b c:World}{row:Option Nat}(h:a.grownBy b row)(k:b.grownBy c row):a.grownBy c row:=
 ⟨k.os.trans h.os,k.tape.trans h.tape,k.output.trans h.output,WJ h.size k.size,fun i hi F=>(k.block i (qag hi h.size) F).trans (h.block i hi F)⟩
theorem qA{a w:World}{row:Option Nat}(h:a.grownBy w row)(b:Nat)(l:aI)(hb:a.heap.size<=b):a.grownBy (put w b l) row:=
 ⟨h.os,h.tape,h.output,WJ h.size (by simp[put]),fun k G F=>(dK w b k l (by omega)).trans (h.block k G F)⟩
end
end Go.Proofs.YtphbledmopchnaaGreatDoor.Mm
namespace Go.Proofs.YtphbledmopchnaaGreatDoor.Crc
def tab:List Nat:=[0,498536548,997073096,651767980,1994146192,1802195444,1303535960,1342533948,3988292384,4027552580,3604390888,3412177804,2607071920,2262029012,2685067896,3183342108]
def DN(c:Nat):Nat:=(c >>>4) ^^^ tab.getD (c&&& 15) 0
def SN(c:Nat)(x:UInt8):Nat:=DN (DN (c ^^^ x.toNat))
def reg(c:Nat)(l:List UInt8):Nat:=l.foldl SN c
def sum(l:List UInt8):Nat:=4294967295 ^^^ reg 4294967295 l
theorem uq{a b c:Nat}(h:a ^^^ c=b ^^^ c):a=b:=by
 have:=congrArg (fun z=>z ^^^ c) h;simpa[Nat.xor_assoc]using this
theorem xB{a b c:Nat}(h:c ^^^ a=c ^^^ b):a=b:=by
 rw[qan c a,qan c b]at h;exact uq h
theorem Oj:∀k,k<16->tab.getD k 0<4294967296:=by decide
theorem Tw:∀a,a<16->∀b,b<16->tab.getD a 0 >>>28=tab.getD b 0 >>>28->a=b:=by decide
theorem Ol(c:Nat):c&&& 15=c % 16:=by
 have:=Nat.and_two_pow_sub_one_eq_mod c 4;simpa using this
theorem rT(c:Nat):c&&& 15<16:=by rw[Ol];omega
theorem qO(c:Nat)(h:c<4294967296):DN c<4294967296:=by
 unfold DN
 have h1:c >>>4<2 ^ 32:=by rw[uj];omega
 have F:tab.getD (c&&& 15) 0<2 ^ 32:=Oj _ (rT c);exact He h1 F
theorem Jy(c:Nat)(h:c<4294967296):DN c >>>28=tab.getD (c&&& 15) 0 >>>28:=by
 unfold DN;rw[Nat.shiftRight_xor_distrib]
 have:c >>>4 >>>28=0:=by
  rw[<-Nat.shiftRight_add,uj];omega
 rw[this,Nat.zero_xor]
theorem wT(a b:Nat)(G:a<4294967296)(hb:b<4294967296)(h:DN a=DN b):a=b:=by
 have h1:a&&& 15=b&&& 15:=Tw _ (rT a) _ (rT b) (by rw[<-Jy a G,<-Jy b hb,h])
 have F:a >>>4=b >>>4:=by
  have e:=h;unfold DN at e;rw[h1]at e;exact uq e
 rw[Ol,Ol]at h1;rw[uj,uj]at F;omega
theorem jU(x:UInt8):x.toNat<256:=x.toNat_lt
theorem xC(c:Nat)(x:UInt8)(h:c<4294967296):SN c x<4294967296:=by
 unfold SN;have h1:c ^^^ x.toNat<2 ^ 32:=He (by omega) (by have:=jU x;omega);exact qO _ (qO _ h1)
theorem B_(c:Nat)(l:List UInt8)(h:c<4294967296):reg c l<4294967296:=by
 induction l generalizing c with
 |nil=>exact h
 |cons x t F=>exact F _ (xC c x h)
theorem sum_lt(l:List UInt8):sum l<4294967296:=
 He (n:=32) (by omega) (B_ _ l (by omega))
theorem iW{a b:Nat}(F:a<4294967296)(hb:b<4294967296):a ^^^ b<4294967296:=He (n:=32) F hb
theorem Ca(a b:Nat)(x:UInt8)(F:a<4294967296)(hb:b<4294967296)(h:SN a x=SN b x):a=b:=by
 have G:=jU x;have h1:=wT _ _ (qO _ (iW F (by omega))) (qO _ (iW hb (by omega))) h;exact uq (wT _ _ (iW F (by omega)) (iW hb (by omega)) h1)
theorem zU(a:Nat)(x y:UInt8)(F:a<4294967296)(h:SN a x=SN a y):x=y:=by
 have H:=jU x;have I:=jU y;have h1:=wT _ _ (qO _ (iW F (by omega))) (qO _ (iW F (by omega))) h;have G:=xB (wT _ _ (iW F (by omega)) (iW F (by omega)) h1);exact UInt8.toNat_inj.1 G
theorem Tx(a b:Nat)(l:List UInt8)(F:a<4294967296)(hb:b<4294967296)(h:reg a l=reg b l):a=b:=by
 induction l generalizing a b with
 |nil=>exact h
 |cons x t G=>exact Ca a b x F hb (G _ _ (xC a x F) (xC b x hb) h)
theorem GH(p t:List UInt8)(x y:UInt8)(h:x≠y):sum (p++x::t)≠sum (p++y::t):=by
 intro e;have F:=xB e;unfold reg at F;rw[Ur,Ur]at F;have hp:List.foldl SN 4294967295 p<4294967296:=B_ _ p (by omega);exact h (zU _ x y hp (Tx _ _ t (xC _ x hp) (xC _ y hp) F))
end Go.Proofs.YtphbledmopchnaaGreatDoor.Crc
namespace Go.Proofs.YtphbledmopchnaaGreatDoor.Num
def code(n:Nat):Nat:=if n<64 then 0 else if n<16384 then 1 else if n<1073741824 then 2 else 3
def be:Nat->Nat->List UInt8
 |0,_=>[]
 |k+1,n=>Lb (n / 256 ^ k % 256)::be k n
def bytes(n:Nat):List UInt8:=be (2 ^ code n) (n+code n*2 ^ (8*2 ^ code n-2))
theorem Jz(n:Nat):code n<=3:=by unfold code;split<;>(try split)<;>(try split)<;>omega
theorem fT:∀k n,(be k n).length=k
 |0,_=>rfl
 |k+1,n=>by simp[be,fT k n]
theorem eH(n:Nat):(bytes n).length=2 ^ code n:=fT _ _
def val(a:Nat)(l:List UInt8):Nat:=l.foldl (fun n x=>n*256+x.toNat) a
theorem GI:∀k n a,val a (be k n)=a*256 ^ k+n % 256 ^ k
 |0,n,a=>by simp[be,val,Nat.mod_one]
 |k+1,n,a=>by
  have F:=GI k n (a*256+n / 256 ^ k % 256)
  have h:val a (be (k+1) n)=val (a*256+n / 256 ^ k % 256) (be k n):=by
   show val a (Lb (n / 256 ^ k % 256)::be k n)=_;unfold val;rw[List.foldl_cons,ZH (Nat.mod_lt _ (by decide))]
  rw[h,F,Nat.pow_succ,Nat.mod_mul,qai,qaa a 256,qah 256 (256 ^ k),qah (n / 256 ^ k % 256)];omega
def read:List UInt8->Option (Nat×List UInt8)
 |[]=>none
 |x::t=>if t.length<2 ^ (x.toNat / 64)-1 then none else some (val (x.toNat % 64) (t.take (2 ^ (x.toNat / 64)-1)),t.drop (2 ^ (x.toNat / 64)-1))
theorem Ao(x:UInt8)(t:List UInt8):read (x::t)=if t.length<2 ^ (x.toNat / 64)-1 then none else some (val (x.toNat % 64) (t.take (2 ^ (x.toNat / 64)-1)),t.drop (2 ^ (x.toNat / 64)-1)):=rfl
theorem GJ(n:Nat)(h:n<4611686018427387904)(t:List UInt8):read (bytes n++t)=some (n,t):=by
 have key:∀(c k:Nat),2 ^ c=k+1->c<4->n<64*256 ^ k->read (be (k+1) (n+c*(64*256 ^ k))++t)=some (n,t):=by
  intro c k O X U;have F:0<256 ^ k:=Nat.pow_pos (by decide)
  have hq:(n+c*(64*256 ^ k)) / 256 ^ k=n / 256 ^ k+c*64:=by
   rw[<-qaa,Nat.add_mul_div_right _ _ F]
  have G:∀q,q<64->(q+c*64) / 64=c/\(q+c*64) % 64=q/\q+c*64<256:=fun q hq=>by omega
  have H:n / 256 ^ k<64:=(Nat.div_lt_iff_lt_mul F).2 U
  have V:(Lb ((n+c*(64*256 ^ k)) / 256 ^ k % 256)).toNat=n / 256 ^ k+c*64:=by
   rw[ZH (Nat.mod_lt _ (by decide)),hq];exact Nat.mod_eq_of_lt (G _ H).2.2
  show read (Lb ((n+c*(64*256 ^ k)) / 256 ^ k % 256)::(be k (n+c*(64*256 ^ k))++t))=_;rw[Ao,V,(G _ H).1,(G _ H).2.1,O,Nat.add_sub_cancel];have hl:=fT k (n+c*(64*256 ^ k));rw[if_neg (by simp[hl]),Am (by omega),nI (by omega),List.drop_append_of_le_length (by omega),List.drop_of_length_le (by omega),List.nil_append,GI];rw[<-qaa,Nat.add_mul_mod_self_right]
  congr 2
  exact Nat.div_add_mod' n (256 ^ k)
 unfold bytes code
 by_cases h1:n<64
 ·simp only[h1,if_true];exact key 0 0 rfl (by omega) (by omega)
 ·by_cases I:n<16384
  ·simp only[h1,I,if_true,if_false];exact key 1 1 rfl (by omega) (by omega)
  ·by_cases K:n<1073741824
   ·simp only[h1,I,K,if_true,if_false];exact key 2 3 rfl (by omega) (by omega)
   ·simp only[h1,I,K,if_false];exact key 3 7 rfl (by omega) (by omega)
end Go.Proofs.YtphbledmopchnaaGreatDoor.Num
namespace Go.Proofs.YtphbledmopchnaaGreatDoor
open Go.RowKit Go.Lib Tryz
theorem au{p:Prop}(h:p):Hid p:=h
theorem iX{k:IntKind}{a b:Int}(h:a=b):Ending.returned (.int k a)=.returned (.int k b):=by rw[h]
theorem aV{a b:Bool}(h:a=b):Ending.returned (.bool a)=.returned (.bool b):=by rw[h]
theorem xD(n:Nat)(w:World):Calls prog 271 #[uZ n] w fun e w'=>e=.returned (iZ (Num.code n:Nat))/\w'=w:=by
 generalize F:Num.code n=C;unfold Num.code at F
 by_cases h1:n<64
 ·have G:Hid (C=0):=by rw[if_pos h1]at F;exact F.symm
  have K:(n:Int)<64:=by omega
  clear F h1;go_enter func271,ntmps271;go_wp2;go_ret;exact⟨iX (by rw[G.out];rfl),rfl⟩
 ·have K:¬((n:Int)<64):=by omega
  by_cases H:n<16384
  ·have G:Hid (C=1):=by rw[if_neg h1,if_pos H]at F;exact F.symm
   have O:(n:Int)<16384:=by omega
   clear F h1 H;go_enter func271,ntmps271;go_wp2;go_ret;exact⟨iX (by rw[G.out];rfl),rfl⟩
  ·have O:¬((n:Int)<16384):=by omega
   by_cases I:n<1073741824
   ·have G:Hid (C=2):=by rw[if_neg h1,if_neg H,if_pos I]at F;exact F.symm
    have U:(n:Int)<1073741824:=by omega
    clear F h1 H I;go_enter func271,ntmps271;go_wp2;go_ret;exact⟨iX (by rw[G.out];rfl),rfl⟩
   ·have G:Hid (C=3):=by rw[if_neg h1,if_neg H,if_neg I]at F;exact F.symm
    have U:¬((n:Int)<1073741824):=by omega
    clear F h1 H I;go_enter func271,ntmps271;go_wp2;go_ret;exact⟨iX (by rw[G.out];rfl),rfl⟩
def BytesAt(w:World)(a:Option Addr)(l:List UInt8):Prop:=
 ∀j (hj:j<l.length),∃b off,a=some (aj b off)/\w.cell? (aj b (off+j))=some (.int .u8 ((l[j].toNat:Nat):Int))
def TabAt(w:World):Prop:=∀k,k<16->w.cell? (aj 1 k)=some (.int .u32 ((Crc.tab.getD k 0:Nat):Int))
theorem Tz(R:Nat)(h:R<4294967296):bits .xor .u32 IntKind.u32.max (R:Int)=((4294967295 ^^^ R:Nat):Int):=by
 have e:IntKind.u32.max=((4294967295:Nat):Int):=by decide
 rw[e];exact u32_xor_nat 4294967295 R (by omega) h
theorem Om(l:List UInt8)(k:Nat)(h:k<l.length):Crc.reg 4294967295 (l.take (k+1))=Crc.SN (Crc.reg 4294967295 (l.take k)) l[k]:=by
 rw[List.take_succ_eq_append_getElem h];unfold Crc.reg;rw[Ur];rfl
theorem Ap(S i D T:Nat)(O:S<4294967296)(hi:i=S&&& 15)(F:D=S >>>4)(G:T=Crc.tab.getD i 0):
  bits .and .u32 (S:Int) 15=(i:Int)/\(S:Int) / 16=(D:Int)/\bits .xor .u32 (D:Int) (T:Int)=(Crc.DN S:Int)/\(i:Int)<16/\i<16:=by
 have H:=Crc.rT S
 have K:D=S / 16:=by rw[F,uj]
 refine⟨?_,by omega,?_,by omega,by omega⟩
 ·rw[hi];exact u32_and_nat S 15 O (by omega)
 ·have h1:D<4294967296:=by omega
  have I:T<4294967296:=by rw[G];exact Crc.Oj i (by omega)
  rw[u32_xor_nat D T h1 I,G,F,hi];rfl
theorem JB(a:Option Addr)(l:List UInt8)(c:Nat)(w:World)(hl:l.length<=1000000000)(hb:BytesAt w a l)(ht:TabAt w):
  Calls prog 159 #[.slice a l.length c] w fun e w'=>e=.returned (.int .u32 (Crc.sum l:Nat))/\w'=w:=by
 have HB:=au hb;have HT:=au ht;clear hb ht;go_enter func159,ntmps159;go_wp2
 go_loop [3,8] (fun s3 s8=>∃k:Nat,k<=l.length/\s8=(iZ k)/\s3=.int .u32 (Crc.reg 4294967295 (l.take k):Nat)) (fun _ s8=>l.length-(intOf s8).toNat)
 case atStart=>exact⟨0,Nat.zero_le _,rfl,rfl⟩
 case round=>
  obtain⟨k,hk,rfl,rfl⟩:=hrel
  by_cases Z:k<l.length
  ·have h3:(k:Int)<(l.length:Int):=by omega
   obtain⟨b,off,ha,hc⟩:=HB.out k Z;subst ha;have H:=Crc.B_ 4294967295 (l.take k) (by omega);have G:=Om l k Z;have hX:=Crc.jU l[k];have V:Crc.SN (Crc.reg 4294967295 (l.take k)) l[k]=Crc.DN (Crc.DN (Crc.reg 4294967295 (l.take k) ^^^ l[k].toNat)):=rfl;rw[V]at G;generalize Crc.reg 4294967295 (l.take k)=R at H G;generalize l[k].toNat=X at hc hX G;obtain⟨F,i1,D1,T1,O,I⟩:∃F i1 D1 T1:Nat,F=R ^^^ X/\i1=F&&& 15/\D1=F >>>4/\T1=Crc.tab.getD i1 0:=⟨_,_,_,_,rfl,rfl,rfl,rfl⟩
   have U:F<4294967296:=by rw[O];exact Crc.iW H (by omega)
   obtain⟨i2,D2,T2,b2⟩:∃i2 D2 T2:Nat,i2=Crc.DN F&&& 15/\D2=Crc.DN F >>>4/\T2=Crc.tab.getD i2 0:=⟨_,_,_,rfl,rfl,rfl⟩
   have r1:bits .xor .u32 (R:Int) ((X:Int) % 4294967296)=(F:Int):=by
    rw[show(X:Int) % 4294967296=(X:Int) by omega,O];exact u32_xor_nat R X H (by omega)
   have r2:bits .xor .u32 (R:Int) (X:Int)=(F:Int):=by
    rw[O];exact u32_xor_nat R X H (by omega)
   obtain⟨q1,q2,q3,q4,q5⟩:=Ap F i1 D1 T1 U I.1 I.2.1 I.2.2;obtain⟨p1,p2,p3,p4,p5⟩:=Ap (Crc.DN F) i2 D2 T2 (Crc.qO F U) b2.1 b2.2.1 b2.2.2;have t1:=HT.out i1 q5;have t2:=HT.out i2 p5;rw[<-I.2.2]at t1;rw[<-b2.2.2]at t2;have h2:=au G;have h0:=au O;clear G O I b2 V;generalize K:Crc.DN F=N1 at *;generalize TB:Crc.DN N1=N2 at *;have HN:=au (And.intro K TB);clear K TB;go_wp2
   go_round
   case rel=>exact⟨k+1,by omega,by go_num,by rw[h2.out,<-h0.out,HN.out.1,HN.out.2]⟩
   case measure=>simp[intOf];omega
  ·obtain rfl:k=l.length:=by omega
   have H:=Crc.B_ 4294967295 (l.take l.length) (by omega);rw[List.take_length]at H ⊢;have HS:Hid (Crc.sum l=4294967295 ^^^ Crc.reg 4294967295 l):=rfl;generalize Crc.reg 4294967295 l=R at H HS ⊢;go_wp2;go_ret;exact⟨iX (by rw[Tz R H,HS.out]),rfl⟩
end Go.Proofs.YtphbledmopchnaaGreatDoor
namespace Go.Proofs.YtphbledmopchnaaGreatDoor
open Go.RowKit Go.Lib Mm Tryz
theorem u29:prog.underlying 60=some (.slice 5):=by kernel_rfl
theorem u9:prog.underlying 9=some .string:=by kernel_rfl
theorem info5:(prog.info? 5).map (fun i=>(i.zero,i.size,i.bytes))=some (some (.int .u8 0),1,1):=by kernel_rfl
def aQ(l:List UInt8):aI:=l.map fun b=>.int .u8 ((b.toNat:Nat):Int)
theorem aY(l:List UInt8):(aQ l).length=l.length:=by simp[aQ]
theorem gQ(a b:List UInt8):aQ (a++b)=aQ a++aQ b:=by simp[aQ]
theorem dW(l:List UInt8):∀v∈aQ l,v.oneCell'=true:=by
 intro v F;obtain⟨_,_,rfl⟩:=List.mem_map.1 F;rfl
theorem pU(n:Nat):(fA (Value.int .u8 0).cells n).toList.length=n:=by simp[fA,M4]
theorem uw(n:Nat):∀v∈(fA (Value.int .u8 0).cells n).toList,v.oneCell'=true:=by
 intro v F;simp[fA,M4]at F;obtain⟨i,_,rfl⟩:=F
 have:i % 1=0:=by omega
 rw[this];rfl
def Buf(w:World)(v:Value)(l:List UInt8):Prop:=
 v=nZ/\l=[]\/∃g cap cs,v=(aS g l.length cap)/\aA w g 5 cs/\cs.length=cap/\l.length<=cap/\cap<=9223372036854775807/\cs.take l.length=aQ l/\∀v∈cs,v.oneCell'=true
def Gr(w w':World)(v v':Value):Prop:=w.grownBy w' v.ownBlock/\∀k,v'.ownBlock=some k->v.ownBlock=some k\/w.heap.size<=k
theorem Gr.refl(w:World)(v:Value):Gr w w v v:=⟨GL w _,fun _ h=>.inl h⟩
theorem Gr.trans{a b c:World}{u v x:Value}(h:Gr a b u v)(k:Gr b c v x):Gr a c u x:=
 ⟨⟨k.1.os.trans h.1.os,k.1.tape.trans h.1.tape,k.1.output.trans h.1.output,WJ h.1.size k.1.size,fun i hi F=>(k.1.block i (qag hi h.1.size) (fun e=>by
   rcases h.2 i e.symm with e'|e'
   ·exact F e'.symm
   ·omega)).trans (h.1.block i hi F)⟩,
 fun i hi=>by
  have hsz:=h.1.size
  rcases k.2 i hi with e|e
  ·exact h.2 i e
  ·exact .inr (by omega)⟩
theorem Gr.alloc{w w':World}{v v':Value}(o:Obj)(h:Gr (w.alloc o) w' v v'):Gr w w' v v':=
 ⟨⟨h.1.os,h.1.tape,h.1.output,by have:=h.1.size;simp at this;omega,fun i hi F=>by rw[h.1.block i (by simp;omega) F,WA _ _ _ hi]⟩,
 fun i hi=>by
  rcases h.2 i hi with e|e
  ·exact .inl e
  ·simp at e;exact .inr (by omega)⟩
theorem Buf.lt{w:World}{v:Value}{l:List UInt8}(h:Buf w v l):∀k,v.ownBlock=some k->k<w.heap.size:=by
 intro k F
 rcases h with⟨rfl,_⟩|⟨g,cap,cs,rfl,hB,_⟩
 ·simp[E8]at F
 ·simp[E8]at F;subst F;exact hB.lt
theorem Buf.of_heap{w w':World}{v:Value}{l:List UInt8}(h:Buf w v l)(e:∀k,v.ownBlock=some k->w'.heap[k]?=w.heap[k]?):Buf w' v l:=by
 rcases h with h|⟨g,cap,cs,rfl,hB,F⟩
 ·exact .inl h
 ·exact .inr ⟨g,cap,cs,rfl,hB.of_heap (e g rfl),F⟩
theorem Buf.alloc{w:World}{v:Value}{l:List UInt8}(h:Buf w v l)(o:Obj):Buf (w.alloc o) v l:=h.of_heap (fun k F=>WA w o k (h.lt k F))
theorem Buf.nil(w:World):Buf w nZ []:=.inl ⟨rfl,rfl⟩
theorem iY{w:World}{v:Value}{l:List UInt8}(h:Buf w v l)(a:Addr)(m mc:Nat)(ns:List UInt8)(O:ns.length=m)(h0:0<m)(H:∀j u,(aQ ns)[j]?=some u->w.cell? (a.add j)=some u)(hsz:l.length+m<=70368744177664):
  ∃v' w',(∀ty,(tL #[60,60] ty #[v,.slice (some a) m mc]).run prog w=.ok v' w')/\Buf w' v' (l++ns)/\Gr w w' v v':=by
 have U:=aY ns
 have grow:∀base n c (cs:aI),n=l.length->cs=aQ l->c<n+m->(base=none/\cs=[]\/∃b:Addr,base=some b/\cs.length=n*1/\∀j v,cs[j]?=some v->w.cell? (b.add j)=some v)->∃v' w',(∀ty,(tL #[60,60] ty #[.slice base n c,.slice (some a) m mc]).run prog w=.ok v' w')/\Buf w' v' (l++ns)/\Gr w w' (.slice base n c) v':=by
  intro base n c cs hn K Z hold
  have I:=fun ty=>fQ (P:=prog) (w:=w) 60 60 ty 5 _ 1 1 u29 u29 info5 (base:=base) (n:=n) (c:=c) (m:=m) (mc:=mc) (cs:=cs) hold a (vs:=aQ ns) (by omega) H (dW ns) Z (by omega) (by omega)
  have h7:=grownCap_ge w (n+m) c 5;have G:=grownCap_le_maxLen w (n+m) c 5 (by unfold maxLen;omega);unfold maxLen at G
  have h8:cs.length=n:=by rw[K,aY,hn]
  refine⟨_,_,I,.inr ⟨w.heap.size,_,_,by rw[fB,O,<-hn],aA.new w 5 _,?_,by rw[fB,O,<-hn];exact h7,G,?_,?_⟩,bM (fJ w _) (qab w.drew _ _),?_⟩
  ·rw[fB,fB,pU,U];omega
  ·rw[fB,O,gQ,Am (by rw[fB];omega),nI (by rw[fB];omega),K]
  ·intro u F
   rcases Aw.1 F with F|F
   ·rcases Aw.1 F with F|F
    ·rw[K]at F;exact dW l u F
    ·exact dW ns u F
   ·exact uw _ u F
  ·intro k hk;simp[E8]at hk;exact .inr (by omega)
 rcases h with⟨rfl,rfl⟩|⟨g,cap,cs,rfl,hB,h2,h3,h4,h5,h6⟩
 ·exact grow none 0 0 [] rfl rfl (by omega) (.inl ⟨rfl,rfl⟩)
 ·by_cases Z:l.length+m<=cap
  ·have I:=fun ty=>dz (P:=prog) (w:=w) 60 60 ty 5 _ 1 1 u29 u29 info5 (n:=l.length) (c:=cap) (m:=m) (mc:=mc) hB a (vs:=aQ ns) (by omega) H (dW ns) Z (by omega)
   have V:=dV cs (aQ ns) (l.length*1) (by omega);refine⟨_,_,I,.inr ⟨g,cap,_,by rw[fB,O],hB.put _,?_,by rw[fB,O];exact Z,h4,?_,aW h6 (dW ns)⟩,bC w g _,fun k hk=>.inl hk⟩
   ·rw[aN _ _ _ (by omega),h2]
   ·rw[U,O,Nat.mul_one]at V;rw[fB,O,Nat.mul_one,V,gQ,h5]
  ·exact grow (some (aj g 0)) l.length cap (aQ l) rfl rfl (by omega) (.inr ⟨_,rfl,by rw[aY];omega,fun j u X=>by
    rw[Addr.add_lit,YF,hB.cell];rw[<-h5,mR]at X;split at X
    ·exact X
    ·cases X⟩)
theorem uy(n c k:Nat)(h:n<2 ^ k):n|||(c*2 ^ k)=n+c*2 ^ k:=by
 rw[Nat.or_comm,qah,<-Nat.two_pow_add_eq_or_of_lt h,Nat.add_comm]
theorem Oo:∀(K N j m:Nat),K=j+m+1->(Num.be K N).take (j+1)=(Num.be K N).take j++[Lb (N / 256 ^ m % 256)]
 |0,_,_,_,h=>by omega
 |K+1,N,0,m,h=>by
  obtain rfl:K=m:=by omega
  simp[Num.be]
 |K+1,N,j+1,m,h=>by
  have:=Oo K N j m (by omega);simp[Num.be,this]
theorem pV{w wr:World}{v s0:Value}{l:List UInt8}{K N j m:Nat}(U:K=j+m+1)(hB:Buf wr s0 (l++(Num.be K N).take j))(O:Gr w wr v s0)(hl:l.length<=35184372088832)(X:K<=8)(c:Int)(V:c=((N / 256 ^ m % 256:Nat):Int)):
  ∃v' w',(∀ty,(tL #[60,60] ty #[s0,aS wr.heap.size 1 1]).run prog (wr.alloc (.cells #[.int .u8 c] 5))=.ok v' w')/\Buf w' v' (l++(Num.be K N).take (j+1))/\Gr w w' v v':=by
 have G:(l++(Num.be K N).take j).length<=l.length+8:=by simp[Num.fT];omega
 obtain⟨v',w',h1,H,I⟩:=iY (hB.alloc (.cells #[.int .u8 c] 5)) (aj wr.heap.size 0) 1 1 [Lb (N / 256 ^ m % 256)] rfl (by omega) (fun i u F=>by
  match i,F with
  |0,F=>
   simp[aQ]at F;rw[Addr.add_lit,YF,(aA.new wr 5 [.int .u8 c]).cell,<-F,V];simp
  |i+1,F=>simp[aQ]at F) (by omega)
 refine⟨v',w',h1,?_,O.trans (I.alloc _)⟩;rw[Oo K N j m U,<-wz];exact H
theorem bJ(v:Value)(l:List UInt8)(n:Nat)(w:World)(hb:Buf w v l)(hn:n<4611686018427387904)(hl:l.length<=35184372088832):
  Calls prog 211 #[v,uZ n] w fun e w'=>∃v',e=.returned v'/\Buf w' v' (l++Num.bytes n)/\Gr w w' v v':=by
 have h8:=xD n w;have HC:=au h8;clear h8;have h0:Hid (Num.bytes n=Num.be (2 ^ Num.code n) (n+Num.code n*2 ^ (8*2 ^ Num.code n-2))):=rfl
 have h4:Num.code n=0/\n<64\/Num.code n=1/\n<16384\/Num.code n=2/\n<1073741824\/Num.code n=3:=by
  unfold Num.code;split<;>(try split)<;>(try split)<;>omega
 have HB:=au hb;clear hb;go_enter func211,ntmps211
 go_wp2_with fail
 refine HC.out.mono ?_;rintro e w1 ⟨rfl,h9⟩;subst h9
 rcases h4 with⟨hc,h2⟩|⟨hc,h2⟩|⟨hc,h2⟩|hc
 ·have h6:bits .or .u64 (n:Int) 0=((n+0:Nat):Int):=by
   have:=u64_or_nat n 0 (by omega) (by omega);rw[show(0:Nat)=0*2 ^ 6 from rfl,uy n 0 6 h2]at this;exact this
  have H:Num.bytes n=Num.be 1 (n+0):=by rw[h0.out,hc]
  rw[hc];obtain⟨N,hN⟩:∃N,N=n+0:=⟨_,rfl⟩;rw[<-hN]at h6 H;have h3:=au H;clear hN h0 h2 hc H
  go_wp2_with fail
  go_loopw [0,6] (fun s0 s6 wr=>∃j m t:Nat,1=j+m/\s6=(iZ t)/\Hid (t=8*m)/\Hid (Buf wr s0 (l++(Num.be 1 N).take j))/\Hid (Gr w1 wr v s0)) (fun _ s6 _=>(intOf s6).toNat)
  case atStart=>exact⟨0,1,8,rfl,rfl,rfl,by rw[SF,R3];exact HB.out,Gr.refl w1 v⟩
  case round=>
   obtain⟨j,m,t,G,rfl,Ht,Z,GN⟩:=hrel
   cases m with
   |zero=>
    have h7:t=0:=Ht.out;subst h7
    have HF:Hid (Buf wr u0 (l++Num.bytes n)):=by
     have:=Z.out;rw[nI (by rw[Num.fT];omega),<-h3.out]at this;exact this
    clear Z G;go_wp2;go_ret;exact⟨_,rfl,HF.out,GN.out⟩
   |succ m=>
    have ht:t=8*m+8:=by have:=Ht.out;omega
    obtain⟨F,I⟩:∃F,F=8*m:=⟨_,rfl⟩
    have e1:(t:Int)-8=(F:Int):=by omega
    have g1:(0:Int)<(t:Int):=by omega
    have g2:(F:Int)<64:=by omega
    have g4:(t:Int)<=64:=by omega
    have e2:min F 64=F:=by omega
    obtain⟨Q,hQ⟩:∃Q,Q=N / 256 ^ m:=⟨_,rfl⟩;obtain⟨cc,U⟩:∃cc,cc=Q % 256:=⟨_,rfl⟩
    have V:2 ^ F=256 ^ m:=by rw[I,qa1]
    have e3:(N:Int) / 2 ^ F=(Q:Int):=by
     rw[hQ,<-V];simp
    have e4:(Q:Int) % 256=(cc:Int):=by omega
    obtain⟨v',w',X,K,O⟩:=pV (w:=w1) (v:=v) (l:=l) (N:=N) (m:=m) G Z.out GN.out hl (by omega) (cc:Int) (by rw[U,hQ]);have KV:=au K;have KW:=au O;have Oq:=au I;have h5:=au (show F<t by omega);have HJ:=au G;clear G ht I hQ U V K O Z GN Ht
    go_wp2_with (at_builtin;refine DT _ rfl _ _ _ _ rfl _ _ rfl rfl _ _ (X _) ?_)
    go_roundw
    case rel=>first|exact⟨j+1,m,F,by have:=HJ.out;omega,rfl,Oq,KV,KW⟩|((repeat apply Exists.intro);exact⟨⟨j+1,m,F,by have:=HJ.out;omega,rfl,Oq,KV,KW⟩,rfl⟩)
    case measure=>simp[intOf];exact h5.out
 ·have h6:bits .or .u64 (n:Int) 16384=((n+16384:Nat):Int):=by
   have:=u64_or_nat n 16384 (by omega) (by omega);rw[show(16384:Nat)=1*2 ^ 14 from rfl,uy n 1 14 h2]at this;exact this
  have H:Num.bytes n=Num.be 2 (n+16384):=by rw[h0.out,hc]
  rw[hc];obtain⟨N,hN⟩:∃N,N=n+16384:=⟨_,rfl⟩;rw[<-hN]at h6 H;have h3:=au H;clear hN h0 h2 hc H
  go_wp2_with fail
  go_loopw [0,6] (fun s0 s6 wr=>∃j m t:Nat,2=j+m/\s6=(iZ t)/\Hid (t=8*m)/\Hid (Buf wr s0 (l++(Num.be 2 N).take j))/\Hid (Gr w1 wr v s0)) (fun _ s6 _=>(intOf s6).toNat)
  case atStart=>exact⟨0,2,16,rfl,rfl,rfl,by rw[SF,R3];exact HB.out,Gr.refl w1 v⟩
  case round=>
   obtain⟨j,m,t,G,rfl,Ht,Z,GN⟩:=hrel
   cases m with
   |zero=>
    have h7:t=0:=Ht.out;subst h7
    have HF:Hid (Buf wr u0 (l++Num.bytes n)):=by
     have:=Z.out;rw[nI (by rw[Num.fT];omega),<-h3.out]at this;exact this
    clear Z G;go_wp2;go_ret;exact⟨_,rfl,HF.out,GN.out⟩
   |succ m=>
    have ht:t=8*m+8:=by have:=Ht.out;omega
    obtain⟨F,I⟩:∃F,F=8*m:=⟨_,rfl⟩
    have e1:(t:Int)-8=(F:Int):=by omega
    have g1:(0:Int)<(t:Int):=by omega
    have g2:(F:Int)<64:=by omega
    have g4:(t:Int)<=64:=by omega
    have e2:min F 64=F:=by omega
    obtain⟨Q,hQ⟩:∃Q,Q=N / 256 ^ m:=⟨_,rfl⟩;obtain⟨cc,U⟩:∃cc,cc=Q % 256:=⟨_,rfl⟩
    have V:2 ^ F=256 ^ m:=by rw[I,qa1]
    have e3:(N:Int) / 2 ^ F=(Q:Int):=by
     rw[hQ,<-V];simp
    have e4:(Q:Int) % 256=(cc:Int):=by omega
    obtain⟨v',w',X,K,O⟩:=pV (w:=w1) (v:=v) (l:=l) (N:=N) (m:=m) G Z.out GN.out hl (by omega) (cc:Int) (by rw[U,hQ]);have KV:=au K;have KW:=au O;have Oq:=au I;have h5:=au (show F<t by omega);have HJ:=au G;clear G ht I hQ U V K O Z GN Ht
    go_wp2_with (at_builtin;refine DT _ rfl _ _ _ _ rfl _ _ rfl rfl _ _ (X _) ?_)
    go_roundw
    case rel=>first|exact⟨j+1,m,F,by have:=HJ.out;omega,rfl,Oq,KV,KW⟩|((repeat apply Exists.intro);exact⟨⟨j+1,m,F,by have:=HJ.out;omega,rfl,Oq,KV,KW⟩,rfl⟩)
    case measure=>simp[intOf];exact h5.out
 ·have h6:bits .or .u64 (n:Int) 2147483648=((n+2147483648:Nat):Int):=by
   have:=u64_or_nat n 2147483648 (by omega) (by omega);rw[show(2147483648:Nat)=2*2 ^ 30 from rfl,uy n 2 30 h2]at this;exact this
  have H:Num.bytes n=Num.be 4 (n+2147483648):=by rw[h0.out,hc]
  rw[hc];obtain⟨N,hN⟩:∃N,N=n+2147483648:=⟨_,rfl⟩;rw[<-hN]at h6 H;have h3:=au H;clear hN h0 h2 hc H
  go_wp2_with fail
  go_loopw [0,6] (fun s0 s6 wr=>∃j m t:Nat,4=j+m/\s6=(iZ t)/\Hid (t=8*m)/\Hid (Buf wr s0 (l++(Num.be 4 N).take j))/\Hid (Gr w1 wr v s0)) (fun _ s6 _=>(intOf s6).toNat)
  case atStart=>exact⟨0,4,32,rfl,rfl,rfl,by rw[SF,R3];exact HB.out,Gr.refl w1 v⟩
  case round=>
   obtain⟨j,m,t,G,rfl,Ht,Z,GN⟩:=hrel
   cases m with
   |zero=>
    have h7:t=0:=Ht.out;subst h7
    have HF:Hid (Buf wr u0 (l++Num.bytes n)):=by
     have:=Z.out;rw[nI (by rw[Num.fT];omega),<-h3.out]at this;exact this
    clear Z G;go_wp2;go_ret;exact⟨_,rfl,HF.out,GN.out⟩
   |succ m=>
    have ht:t=8*m+8:=by have:=Ht.out;omega
    obtain⟨F,I⟩:∃F,F=8*m:=⟨_,rfl⟩
    have e1:(t:Int)-8=(F:Int):=by omega
    have g1:(0:Int)<(t:Int):=by omega
    have g2:(F:Int)<64:=by omega
    have g4:(t:Int)<=64:=by omega
    have e2:min F 64=F:=by omega
    obtain⟨Q,hQ⟩:∃Q,Q=N / 256 ^ m:=⟨_,rfl⟩;obtain⟨cc,U⟩:∃cc,cc=Q % 256:=⟨_,rfl⟩
    have V:2 ^ F=256 ^ m:=by rw[I,qa1]
    have e3:(N:Int) / 2 ^ F=(Q:Int):=by
     rw[hQ,<-V];simp
    have e4:(Q:Int) % 256=(cc:Int):=by omega
    obtain⟨v',w',X,K,O⟩:=pV (w:=w1) (v:=v) (l:=l) (N:=N) (m:=m) G Z.out GN.out hl (by omega) (cc:Int) (by rw[U,hQ]);have KV:=au K;have KW:=au O;have Oq:=au I;have h5:=au (show F<t by omega);have HJ:=au G;clear G ht I hQ U V K O Z GN Ht
    go_wp2_with (at_builtin;refine DT _ rfl _ _ _ _ rfl _ _ rfl rfl _ _ (X _) ?_)
    go_roundw
    case rel=>first|exact⟨j+1,m,F,by have:=HJ.out;omega,rfl,Oq,KV,KW⟩|((repeat apply Exists.intro);exact⟨⟨j+1,m,F,by have:=HJ.out;omega,rfl,Oq,KV,KW⟩,rfl⟩)
    case measure=>simp[intOf];exact h5.out
 ·have h6:bits .or .u64 (n:Int) 13835058055282163712=((n+13835058055282163712:Nat):Int):=by
   have:=u64_or_nat n 13835058055282163712 (by omega) (by omega);rw[show(13835058055282163712:Nat)=3*2 ^ 62 from rfl,uy n 3 62 hn]at this;exact this
  have H:Num.bytes n=Num.be 8 (n+13835058055282163712):=by rw[h0.out,hc]
  rw[hc];obtain⟨N,hN⟩:∃N,N=n+13835058055282163712:=⟨_,rfl⟩;rw[<-hN]at h6 H;have h3:=au H;clear hN h0 hc H
  go_wp2_with fail
  go_loopw [0,6] (fun s0 s6 wr=>∃j m t:Nat,8=j+m/\s6=(iZ t)/\Hid (t=8*m)/\Hid (Buf wr s0 (l++(Num.be 8 N).take j))/\Hid (Gr w1 wr v s0)) (fun _ s6 _=>(intOf s6).toNat)
  case atStart=>exact⟨0,8,64,rfl,rfl,rfl,by rw[SF,R3];exact HB.out,Gr.refl w1 v⟩
  case round=>
   obtain⟨j,m,t,G,rfl,Ht,Z,GN⟩:=hrel
   cases m with
   |zero=>
    have h7:t=0:=Ht.out;subst h7
    have HF:Hid (Buf wr u0 (l++Num.bytes n)):=by
     have:=Z.out;rw[nI (by rw[Num.fT];omega),<-h3.out]at this;exact this
    clear Z G;go_wp2;go_ret;exact⟨_,rfl,HF.out,GN.out⟩
   |succ m=>
    have ht:t=8*m+8:=by have:=Ht.out;omega
    obtain⟨F,I⟩:∃F,F=8*m:=⟨_,rfl⟩
    have e1:(t:Int)-8=(F:Int):=by omega
    have g1:(0:Int)<(t:Int):=by omega
    have g2:(F:Int)<64:=by omega
    have g4:(t:Int)<=64:=by omega
    have e2:min F 64=F:=by omega
    obtain⟨Q,hQ⟩:∃Q,Q=N / 256 ^ m:=⟨_,rfl⟩;obtain⟨cc,U⟩:∃cc,cc=Q % 256:=⟨_,rfl⟩
    have V:2 ^ F=256 ^ m:=by rw[I,qa1]
    have e3:(N:Int) / 2 ^ F=(Q:Int):=by
     rw[hQ,<-V];simp
    have e4:(Q:Int) % 256=(cc:Int):=by omega
    obtain⟨v',w',X,K,O⟩:=pV (w:=w1) (v:=v) (l:=l) (N:=N) (m:=m) G Z.out GN.out hl (by omega) (cc:Int) (by rw[U,hQ]);have KV:=au K;have KW:=au O;have Oq:=au I;have h5:=au (show F<t by omega);have HJ:=au G;clear G ht I hQ U V K O Z GN Ht
    go_wp2_with (at_builtin;refine DT _ rfl _ _ _ _ rfl _ _ rfl rfl _ _ (X _) ?_)
    go_roundw
    case rel=>first|exact⟨j+1,m,F,by have:=HJ.out;omega,rfl,Oq,KV,KW⟩|((repeat apply Exists.intro);exact⟨⟨j+1,m,F,by have:=HJ.out;omega,rfl,Oq,KV,KW⟩,rfl⟩)
    case measure=>simp[intOf];exact h5.out
def aZ:Nat:=4611686018427387903
def oG(rs:aP)(i:Nat):Bool:=
 decide ((rs.getD i (0,0)).1<=(rs.getD i (0,0)).2)&&decide ((rs.getD i (0,0)).2<=aZ)&&(decide (i=0)||decide ((rs.getD i (0,0)).2+1<(rs.getD (i-1) (0,0)).1))
def mX(rs:aP):Bool:=(qa5 rs.length).all (oG rs)&&decide (0<rs.length)
def fV(w:World)(a:Option Addr)(rs:aP):Prop:=
 ∀j,j<rs.length->∃b off,a=some (aj b off)/\w.cell? (aj b (off+j*2))=some (uZ ((rs.getD j (0,0)).1:Int))/\w.cell? (aj b (off+j*2+1))=some (uZ ((rs.getD j (0,0)).2:Int))/\
  (rs.getD j (0,0)).1<18446744073709551616/\(rs.getD j (0,0)).2<18446744073709551616
theorem fV.below{w w':World}{a:Option Addr}{rs:aP}(h:fV w a rs)(hb:aD w w'):fV w' a rs:=fun j I=>by
 obtain⟨b,off,H,h1,F,G⟩:=h j I;exact⟨b,off,H,(hb.cell (p:=(aj b (off+j*2))) (Kt _ _ h1)).trans h1,(hb.cell (p:=(aj b (off+j*2+1))) (Kt _ _ F)).trans F,G⟩
theorem xE(k:Int)(w:World):Calls prog 216 #[iZ k] w fun e w'=>e=.returned (.bool (decide (1<=k/\k<=8)))/\w'=w:=by
 by_cases h:1<=k
 ·go_enter func216,ntmps216;go_wp2;go_ret;exact⟨aV (by rw[decide_eq_decide];omega),rfl⟩
 ·have F:decide (1<=k)=false:=by simp;omega
  go_enter func216,ntmps216;go_wp2;go_ret;exact⟨aV (by first|rfl|(symm;rw[decide_eq_false_iff_not];omega)),rfl⟩
theorem Cb(k:Int)(w:World):Calls prog 287 #[iZ k] w fun e w'=>e=.returned (.bool (decide (0<=k/\k<8)))/\w'=w:=by
 by_cases h:0<=k
 ·go_enter func287,ntmps287;go_wp2;go_ret;exact⟨aV (by rw[decide_eq_decide];omega),rfl⟩
 ·have F:decide (0<=k)=false:=by simp;omega
  go_enter func287,ntmps287;go_wp2;go_ret;exact⟨aV (by first|rfl|(symm;rw[decide_eq_false_iff_not];omega)),rfl⟩
theorem wE(a:Option Addr)(rs:aP)(c:Nat)(w:World)(hl:rs.length<=1000000000)(hr:fV w a rs):
  Calls prog 335 #[.slice a rs.length c] w fun e w'=>e=.returned (.bool (mX rs))/\aD w w':=by
 have HR:=au hr;clear hr;have h7:Hid (mX rs=((qa5 rs.length).all (oG rs)&&decide (0<rs.length))):=rfl;go_enter func335,ntmps335
 go_wp2_with fail
 go_loopw [7] (fun s7 wr=>∃k:Nat,k<=rs.length/\s7=(iZ k)/\Hid (∀i,i<k->oG rs i=true)/\Hid (aD w wr)) (fun s7 _=>rs.length-(intOf s7).toNat)
 case atStart=>exact⟨0,Nat.zero_le _,rfl,fun i hi=>absurd hi (Nat.not_lt_zero _),Below.refl _ _⟩
 case round=>
  obtain⟨k,hk,rfl,h6,HB⟩:=hrel
  by_cases he:k<rs.length
  ·have hm:(k:Int)<(rs.length:Int):=by omega
   obtain⟨b,off,ha,k1,k2,hf,hg⟩:=HR.out.below HB.out k he;subst ha
   have Aq:0<k->wr.cell? (aj b (off+(k-1)*2))=some (uZ ((rs.getD (k-1) (0,0)).1:Int)):=fun h0=>by
    obtain⟨b',hn,h8,hj,_⟩:=HR.out.below HB.out (k-1) (by omega);simp at h8;obtain⟨rfl,rfl⟩:=h8;exact hj
   have G:Hid (oG rs k=(decide ((rs.getD k (0,0)).1<=(rs.getD k (0,0)).2)&&decide ((rs.getD k (0,0)).2<=aZ)&&(decide (k=0)||decide ((rs.getD k (0,0)).2+1<(rs.getD (k-1) (0,0)).1)))):=rfl
   have Z:oG rs k=false->Hid (mX rs=false):=fun h=>by
    have:(qa5 rs.length).all (oG rs)=false:=by
     rw[List.all_eq_false];exact⟨k,by simpa using he,by simp[h]⟩
    rw[h7.out,this];rfl
   have U:oG rs k=true->Hid (∀i,i<k+1->oG rs i=true):=fun h i hi=>by
    by_cases e:i=k
    ·rw[e];exact h
    ·exact h6.out i (by omega)
   generalize (rs.getD k (0,0)).1=x at k1 hf G;generalize (rs.getD k (0,0)).2=y at k2 hg G;generalize (rs.getD (k-1) (0,0)).1=z at Aq G;generalize oG rs k=h5 at G Z U;have X:=au (HB.out.size);have K:=au Z;have O:=au U;clear Z U HR h6
   by_cases h1:x<=y
   ·have g1:¬((y:Int)<(x:Int)):=by omega
    by_cases h2:y<=aZ
    ·have g2:¬((4611686018427387903:Int)<(y:Int)):=by unfold aZ at h2;omega
     by_cases h3:0<k
     ·have g3:(0:Int)<(k:Int):=by omega
      have k3:=Aq h3;have hc:b<wr.heap.size:=Kt _ _ k3
      have e5:((k:Int)-1).toNat=k-1:=by omega
      have e6:IntKind.i64.wrap ((k:Int)-1)=(k:Int)-1:=by rw[IntKind.wrap_i64];omega
      have e7:(k:Int)-1<(rs.length:Int):=by omega
      have e8:0<=(k:Int)-1:=by omega
      have e9:IntKind.u64.wrap ((y:Int)+1)=(y:Int)+1:=by rw[IntKind.wrap_u64];unfold aZ at h2;omega
      clear Aq
      by_cases h4:y+1<z
      ·have F:h5=true:=by rw[G.out];simp[h1,h2,h4]
       have H:=O.out F
       have g4:¬((z:Int)<=(y:Int)+1):=by omega
       clear G K O F
       go_wp2_with fail
       generalize V:wr.alloc (.cells #[uZ x,uZ y] 170)=Wq
       have I:Hid (aD w Wq):=by rw[<-V];exact HB.out.alloc X.out _
       have j1:Wq.cell? (aj wr.heap.size 1)=some (uZ y):=by rw[<-V];exact(aA.new wr 170 [uZ x,uZ y]).cell 1
       have j2:Wq.cell? (aj b (off+(k-1)*2))=some (uZ z):=by rw[<-V,qa2 _ b _ hc];exact k3
       clear V
       go_quiet (fail)
       go_wp2;go_roundw
       case rel=>exact⟨k+1,by omega,by go_num,H,I.out.os,I.out.tape,I.out.output,I.out.size,I.out.block⟩
       case measure=>simp[intOf];omega
      ·have F:h5=false:=by rw[G.out];simp[h4];omega
       have H:=K.out F
       have g4:(z:Int)<=(y:Int)+1:=by omega
       clear G K O F
       go_wp2_with fail
       generalize V:wr.alloc (.cells #[uZ x,uZ y] 170)=Wq
       have I:Hid (aD w Wq):=by rw[<-V];exact HB.out.alloc X.out _
       have j1:Wq.cell? (aj wr.heap.size 1)=some (uZ y):=by rw[<-V];exact(aA.new wr 170 [uZ x,uZ y]).cell 1
       have j2:Wq.cell? (aj b (off+(k-1)*2))=some (uZ z):=by rw[<-V,qa2 _ b _ hc];exact k3
       clear V
       go_quiet (fail)
       go_wp2;go_ret;exact⟨aV H.out.symm,I.out.os,I.out.tape,I.out.output,I.out.size,I.out.block⟩
     ·have g3:decide ((0:Int)<(k:Int))=false:=by simp;omega
      have F:h5=true:=by rw[G.out];simp[h1,h2];omega
      have H:=O.out F;clear G K O F Aq
      go_wp2_with fail
      generalize V:wr.alloc (.cells #[uZ x,uZ y] 170)=Wq
      have I:Hid (aD w Wq):=by rw[<-V];exact HB.out.alloc X.out _
      have j1:Wq.cell? (aj wr.heap.size 1)=some (uZ y):=by rw[<-V];exact(aA.new wr 170 [uZ x,uZ y]).cell 1
      clear V
      go_quiet (fail)
      go_wp2;go_roundw
      case rel=>exact⟨k+1,by omega,by go_num,H,I.out.os,I.out.tape,I.out.output,I.out.size,I.out.block⟩
      case measure=>simp[intOf];omega
    ·have g2:(4611686018427387903:Int)<(y:Int):=by unfold aZ at h2;omega
     have F:h5=false:=by rw[G.out];simp[h2]
     have H:=K.out F;clear G K O F Aq;go_wp2;go_ret;exact⟨aV H.out.symm,HB.out.alloc X.out _⟩
   ·have g1:(y:Int)<(x:Int):=by omega
    have F:h5=false:=by rw[G.out];simp[h1]
    have H:=K.out F;clear G K O F Aq;go_wp2;go_ret;exact⟨aV H.out.symm,HB.out.alloc X.out _⟩
  ·obtain rfl:k=rs.length:=by omega
   have h9:Hid (mX rs=decide (0<rs.length)):=by
    have:(qa5 rs.length).all (oG rs)=true:=by
     rw[List.all_eq_true];intro i hi;exact h6.out i (by simpa using hi)
    rw[h7.out,this];rfl
   clear h7 h6;go_wp2;go_ret;exact⟨aV (by rw[h9.out,decide_eq_decide]),HB.out⟩
end Go.Proofs.YtphbledmopchnaaGreatDoor
namespace Go.Proofs.YtphbledmopchnaaGreatDoor
open Go.RowKit Go.Lib Go.Shelf Mm Tryz
structure DC (t e:TypeId) (z:Value) (k bytes:Nat):Prop where
 ht:prog.underlying t=some (.slice e)
 hi:(prog.info? e).map (fun i=>(i.zero,i.size,i.bytes))=some (some z,k,bytes)
 hz:∀n,(fA z.cells n).toList.length=n*k
 h1:∀n,∀v∈(fA z.cells n).toList,v.oneCell'=true
 hb:bytes<=104
def gU:Value:=.agg #[iZ 0,iZ 0,uZ 0,uZ 0,uZ 0,.bool false,uZ 0,uZ 0,.string ⟨#[]⟩,nZ]
def Xj:Value:=.agg #[uZ 0,uZ 0]
theorem G7:DC 63 170 Xj 2 16:=⟨by kernel_rfl,by kernel_rfl,dU,fU,by omega⟩
theorem lS:DC 54 65 gU 10 104:=⟨by kernel_rfl,by kernel_rfl,fun n=>by simp[gU,fA,M4],fun n v F=>by
 simp[gU,fA,M4]at F;obtain⟨i,_,rfl⟩:=F
 have:i % 10=0\/i % 10=1\/i % 10=2\/i % 10=3\/i % 10=4\/i % 10=5\/i % 10=6\/i % 10=7\/i % 10=8\/i % 10=9:=by omega
 rcases this with h|h|h|h|h|h|h|h|h|h<;>rw[h]<;>rfl,by omega⟩
def bK(e:TypeId)(k:Nat)(w:World)(v:Value)(n:Nat)(l:aI):Prop:=
 v=nZ/\n=0/\l=[]\/∃g cap cs,v=(aS g n cap)/\aA w g e cs/\cs.length=cap*k/\n<=cap/\cap<=9223372036854775807/\l.length=n*k/\cs.take (n*k)=l/\∀v∈cs,v.oneCell'=true
theorem bK.len{e:TypeId}{k:Nat}{w:World}{v:Value}{n:Nat}{l:aI}(h:bK e k w v n l):l.length=n*k:=by
 rcases h with⟨_,rfl,rfl⟩|⟨g,cap,cs,_,_,_,_,_,h,_⟩
 ·simp
 ·exact h
theorem bK.lt{e:TypeId}{k:Nat}{w:World}{v:Value}{n:Nat}{l:aI}(h:bK e k w v n l):∀b,v.ownBlock=some b->b<w.heap.size:=by
 intro b hb
 rcases h with⟨rfl,_⟩|⟨g,cap,cs,rfl,hB,_⟩
 ·simp[E8]at hb
 ·simp[E8]at hb;subst hb;exact hB.lt
theorem bK.of_heap{e:TypeId}{k:Nat}{w w':World}{v:Value}{n:Nat}{l:aI}(h:bK e k w v n l)(G:∀b,v.ownBlock=some b->w'.heap[b]?=w.heap[b]?):bK e k w' v n l:=by
 rcases h with h|⟨g,cap,cs,rfl,hB,F⟩
 ·exact .inl h
 ·exact .inr ⟨g,cap,cs,rfl,hB.of_heap (G g rfl),F⟩
theorem bK.nil(e:TypeId)(k:Nat)(w:World):bK e k w nZ 0 []:=.inl ⟨rfl,rfl,rfl⟩
theorem bK.shape{e:TypeId}{k:Nat}{w:World}{v:Value}{n:Nat}{l:aI}(h:bK e k w v n l):∃a c,v=.slice a n c/\n<=c:=by
 rcases h with⟨rfl,rfl,_⟩|⟨g,cap,cs,rfl,_,_,h,_⟩
 ·exact⟨_,_,rfl,qa0 _⟩
 ·exact⟨_,_,rfl,h⟩
theorem bK.cell{e:TypeId}{k:Nat}{w:World}{v:Value}{n:Nat}{l:aI}(h:bK e k w v n l){a:Option Addr}{c:Nat}(G:v=.slice a n c)(j:Nat)(x:Value)(F:l[j]?=some x):∃g,a=some (aj g 0)/\w.cell? (aj g j)=some x/\w.frozen? (aj g j)=false:=by
 rcases h with⟨_,rfl,rfl⟩|⟨g,cap,cs,rfl,hB,_,_,_,h4,h5,_⟩
 ·simp at F
 ·simp at G;refine⟨g,G.1.symm,?_,hB.frozen j⟩;rw[hB.cell];rw[<-h5,mR]at F;split at F
  ·exact F
  ·cases F
theorem fE{t e:TypeId}{z:Value}{k bytes:Nat}(E:DC t e z k bytes){w:World}{v:Value}{n:Nat}{l:aI}(h:bK e k w v n l)(a:Addr)(m mc:Nat)(ns:aI)(Z:ns.length=m*k)(h0:0<m)(h1:∀v∈ns,v.oneCell'=true)(H:∀j u,ns[j]?=some u->w.cell? (a.add j)=some u)(hsz:n+m<=1000000000000):
  ∃v' w',(∀ty,(tL #[t,t] ty #[v,.slice (some a) m mc]).run prog w=.ok v' w')/\bK e k w' v' (n+m) (l++ns)/\Gr w w' v v':=by
 have K:(n+m)*bytes<=140737488355328:=WJ (Nat.mul_le_mul hsz E.hb) (by decide);have ha:=h.len;have hk:(n+m)*k=n*k+m*k:=qai _ _ _
 have grow:∀base c (cs:aI),cs=l->c<n+m->(base=none/\cs=[]\/∃b:Addr,base=some b/\cs.length=n*k/\∀j v,cs[j]?=some v->w.cell? (b.add j)=some v)->(∀v∈cs,v.oneCell'=true)->∃v' w',(∀ty,(tL #[t,t] ty #[.slice base n c,.slice (some a) m mc]).run prog w=.ok v' w')/\bK e k w' v' (n+m) (l++ns)/\Gr w w' (.slice base n c) v':=by
  intro base c cs O V hold U
  have I:=fun ty=>fQ (P:=prog) (w:=w) t t ty e _ k bytes E.ht E.ht E.hi (base:=base) (n:=n) (c:=c) (m:=m) (mc:=mc) (cs:=cs) hold a (vs:=ns) Z H h1 V K (by omega)
  have h8:=grownCap_ge w (n+m) c e;have G:=grownCap_le_maxLen w (n+m) c e (by unfold maxLen;omega);unfold maxLen at G
  have h9:cs.length=n*k:=by rw[O,ha]
  refine⟨_,_,I,.inr ⟨w.heap.size,_,_,rfl,aA.new w e _,?_,h8,G,by rw[fB];omega,?_,?_⟩,bM (fJ w _) (qab w.drew _ _),?_⟩
  ·rw[fB,fB,E.hz,h9,Z]
   have:(grownCap w (n+m) c e-(n+m))*k+(n+m)*k=grownCap w (n+m) c e*k:=by rw[<-qai];congr 1;omega
   omega
  ·rw[Am (by rw[fB];omega),nI (by rw[fB];omega),O]
  ·intro u F
   rcases Aw.1 F with F|F
   ·rcases Aw.1 F with F|F
    ·exact U u F
    ·exact h1 u F
   ·exact E.h1 _ u F
  ·intro b hb;simp[E8]at hb;exact .inr (by omega)
 rcases h with⟨rfl,rfl,rfl⟩|⟨g,cap,cs,rfl,hB,h2,h3,h4,h5,h6,h7⟩
 ·exact grow none 0 [] rfl (by omega) (.inl ⟨rfl,rfl⟩) (fun v hv=>by simp at hv)
 ·by_cases V:n+m<=cap
  ·have he:(n+m)*k<=cap*k:=qa9 _ V
   have I:=fun ty=>dz (P:=prog) (w:=w) t t ty e _ k bytes E.ht E.ht E.hi (n:=n) (c:=cap) (m:=m) (mc:=mc) hB a (vs:=ns) Z H h1 V (by omega)
   have hc:=dV cs ns (n*k) (by omega);refine⟨_,_,I,.inr ⟨g,cap,_,rfl,hB.put _,?_,V,h4,by rw[fB];omega,?_,aW h7 h1⟩,bC w g _,fun b hb=>.inl hb⟩
   ·rw[aN _ _ _ (by omega),h2]
   ·rw[hk,<-Z,hc,h6]
  ·exact grow (some (aj g 0)) cap l rfl (by omega) (.inr ⟨_,rfl,h5,fun j u X=>by
    rw[Addr.add_lit,YF,hB.cell];rw[<-h6,mR]at X;split at X
    ·exact X
    ·cases X⟩) (fun u F=>h7 u (by rw[<-h6]at F;exact qa4 F))
theorem wI{t e:TypeId}{z:Value}{k bytes:Nat}(E:DC t e z k bytes)(w:World)(a:Option Addr)(c:Nat)(ty:TypeId):
  (tL #[t,t] ty #[nZ,.slice a 0 c]).run prog w=.ok nZ w:=by
 obtain⟨i,hi,hz,hs,_⟩:=info_parts E.hi
 have F:(Ui i.size 0 (.slice a 0 c)).run prog w=.ok #[] w:=by
  cases a with
  |none=>exact run_firstCells_none w i.size 0 0 c
  |some b=>exact run_firstCells_some w i.size 0 b 0 c [] (by simp) (fun j v G=>by simp at G)
 simp[tL,run_underlying E.ht,sizeOf,typeInfo,hi,qam,F]
