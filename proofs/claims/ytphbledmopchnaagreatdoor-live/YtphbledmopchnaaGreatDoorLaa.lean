import Derived.Below
import Derived.KernelRfl
import Derived.WalkKit
import Derived.Deep.AppendSrc
import Derived.Deep.Draws
import Derived.Lib.AppendZerosOnto
import Derived.Lib.JoinLaws
import Derived.Lib.Overlaps
import Derived.Lib.SliceRun
import Derived.BigQuiet
import Derived.Deep.LoopGhost
import Derived.Deep.QuietTactic
import Derived.Outline
import Derived.Test.YtphbledmopchnaaGreatDoorProg
import Derived.WalkLawsBesides
import Derived.Deep.Light
import Derived.OpenShut
open Go.Builtin renaming zeroCells->eT,append_->og,firstCells->tK,clear_->uj,copy_->wz
open List renaming getElem?_take->eB,getElem?_append_right->j3,getElem?_append_left->lg,append_assoc->mI,getElem?_drop->mK,ext_getElem?->nA,take_append_of_le_length->nP,foldl_append->nU,take_of_length_le->o8,getElem?_eq_none->qA,range->rX,mem_append->tT
open Nat renaming shiftRight_eq_div_pow->mE,xor_lt_two_pow->mR,mul_assoc->sF,le_refl->tL,le_trans->xB,mul_comm->xQ,xor_comm->yP
open Go.RowKit renaming intOf->nI
open UInt8 renaming toNat_ofNat_of_lt'->nV,ofNat->qx
open Go.World renaming block_lt_of_cell?->mY,cell?_alloc_past->qy
set_option maxHeartbeats 1000000
set_option maxRecDepth 1000000
namespace Go.Proofs.YtphbledmopchnaaGreatDoor
open Go.RowKit Tryz
abbrev aB(b o:Nat):Addr:=⟨b,o,none⟩
abbrev aI(b o:Nat):Value:=.pointer (some ⟨b,o,none⟩)
abbrev uZ(x:Int):Value:=.int .u64 x
abbrev iZ(x:Int):Value:=.int .i64 x
abbrev dP(b n c:Nat):Value:=.slice (some ⟨b,0,none⟩) n c
abbrev bO:=List Value
abbrev bW:=List (Nat×Nat)
abbrev nZ:Value:=.slice none 0 0
abbrev bJ(w y:World):Prop:=Below w.heap.size w y
theorem aj{p:Prop}(h:p:=by omega):p:=h
theorem aP{p:Prop}(h:p:=by simp):p:=h
theorem bH{p:Prop}(h:p:=by kernel_rfl):p:=h
theorem iO{p:Prop}(h:p:=by decide):p:=h
theorem bV{q p:Prop}(h:q)(k:q->p:=by omega):p:=k h
theorem FN{q r p:Prop}(h:q)(i:r)(k:q->r->p:=by omega):p:=k h i
theorem bZ{α:Type _}(a:α):∃x,x=a:=⟨a,rfl⟩
theorem bK{c:Prop}{h:Decidable c}(a:c){α:Type _}{t e:α}:(ite c t e)=t:=if_pos a
theorem aU{c:Prop}{h:Decidable c}(a:¬c){α:Type _}{t e:α}:(ite c t e)=e:=if_neg a
theorem bN{P:Program}{n:Nat}{a:Array Value}{w:World}{v:Value}{R:World->Prop}{Q:Ending->World->Prop}(h:Calls P n a w fun e w'=>e=.returned v/\R w')(k:∀w',R w'->Q (.returned v) w'):Calls P n a w Q:=h.mono fun _ w' g=>g.1.symm▸k w' g.2
theorem dB{a b:Prop}(h:a)(i:b):a/\b:=⟨h,i⟩
end Go.Proofs.YtphbledmopchnaaGreatDoor
namespace Go.Proofs.YtphbledmopchnaaGreatDoor.Mm
open Go.RowKit Tryz
section
variable {P:Program}
def aZ(l:bO)(o:Nat)(cs:bO):bO:=l.take o++cs++l.drop (o+cs.length)
theorem bY(l:bO)(o:Nat)(cs:bO)(h:o+cs.length<=l.length):(aZ l o cs).length=l.length:=by simp[aZ];omega
def aS(w:World)(b:Nat)(t:TypeId)(l:bO):Prop:=w.heap[b]?=some (.cells l.toArray t (0,0))
theorem aS.cell{w:World}{b:Nat}{t:TypeId}{l:bO}(h:aS w b t l)(j:Nat):w.cell? (aB b j)=l[j]?:=by unfold aS at h;simp[World.cell?,h]
theorem aS.frozen{w:World}{b:Nat}{t:TypeId}{l:bO}(h:aS w b t l)(j:Nat):w.frozen? (aB b j)=false:=by unfold aS at h;simp[World.frozen?,h]
theorem aS.shape{w:World}{b:Nat}{t:TypeId}{l:bO}(h:aS w b t l):w.shape? b=some (t,l.length):=by unfold aS at h;simp[World.shape?,h]
theorem aS.lt{w:World}{b:Nat}{t:TypeId}{l:bO}(h:aS w b t l):b<w.heap.size:=(Array.getElem?_eq_some_iff.1 h).1
theorem aS.of_heap{w w':World}{b:Nat}{t:TypeId}{l:bO}(h:aS w b t l)(e:w'.heap[b]?=w.heap[b]?):aS w' b t l:=by unfold aS at h ⊢;rw[e,h]
theorem aS.drew{w:World}{b:Nat}{t:TypeId}{l:bO}(h:aS w b t l):aS w.drew b t l:=h
theorem aS.alloc{w:World}{b:Nat}{t:TypeId}{l:bO}(h:aS w b t l)(o:Obj):aS (w.alloc o) b t l:=
 h.of_heap (Below.heap_alloc w o b h.lt)
theorem aS.new(w:World)(t:TypeId)(l:bO):aS (w.alloc (.cells l.toArray t)) w.heap.size t l:=by show(w.heap.push _)[w.heap.size]?=_;simp
def put(w:World)(b:Nat)(l:bO):World:=w.setRow b l.toArray
theorem aS.put{w:World}{b:Nat}{t:TypeId}{l:bO}(h:aS w b t l)(l':bO):aS (put w b l') b t l':=setRow_heap w b _ _ t _ h
theorem iG(w:World)(b k:Nat)(l:bO)(h:k≠b):(put w b l).heap[k]?=w.heap[k]?:=setRow_other w b k _ h
theorem dU(w:World)(b:Nat)(l:bO):w.grownBy (put w b l) (some b):=
 ⟨rfl,rfl,rfl,by simp[put],fun k _ a=>iG w b k l (fun e=>a (by rw[e]))⟩
theorem gD{w:World}{g o:Nat}{t:TypeId}{l:bO}(h:aS w g t l)(cs:bO)(a:o+cs.length<=l.length)(h1:∀v∈cs,v.oneCell'=true):(storeCells (aB g o) cs).run P w=.ok () (put w g (aZ l o cs)):=by have:=run_storeCells_at P g o t cs 0 l.toArray w h (by simpa using a) h1;simpa[put,aZ]using this
theorem wQ{w:World}{g o:Nat}{t:TypeId}{l:bO}(h:aS w g t l)(cs:bO)(c:o+cs.length<=l.length)(h1:∀v∈cs,v.oneCell'=true):w.setCells g o cs=put w g (aZ l o cs):=by have a:=gD (P:=default) h cs c h1;have b:=run_storeCells_cells (P:=default) g o cs 0 w (fun j d=>by rw[h.cell];simp;omega) (fun j _=>h.frozen _) h1;rw[b]at a;simpa using a
theorem jm{w:World}(m s u elem:TypeId){g o dLen dCap:Nat}{t:TypeId}{l:bO}(h:aS w g t l)(a:Addr)(b c k n:Nat)(cs:bO)(r:P.underlying m=some (.slice elem))(hs:(P.info? elem).map (·.size)=some k)(q:Nat.min b dLen=n)(hl:cs.length=n*k)(e:∀j v,cs[j]?=some v->w.cell? (a.add j)=some v)(d:o+cs.length<=l.length)(h1:∀v∈cs,v.oneCell'=true):(wz #[m,s] u #[.slice (some (aB g o)) dLen dCap,.slice (some a) b c]).run P w=.ok (goInt n) (put w g (aZ l o cs)):=by
 have f:=gD (P:=P) (o:=o) h cs d h1;cases hq:P.info? elem with
 |none=>simp[hq]at hs
 |some i=>
  have hi:i.size=k:=by simpa[hq]using hs
  have p:=run_firstCells_some (P:=P) w k n a b c cs hl e;simp[wz,run_underlying r,Builtin.lenOf,sizeOf,typeInfo,hq,hi,q,p,f]
theorem iA{w:World}(t e g:TypeId)(z:Value)(ht:P.underlying t=some (.slice e))(f:∀w,(zeroValue e).run P w=.ok z w){b o n c:Nat}{tb:TypeId}{l:bO}(h:aS w b tb l)(i:0<n)(a:o+(eT z.cells n).toList.length<=l.length)(h1:∀v∈(eT z.cells n).toList,v.oneCell'=true):(uj #[t] g #[.slice (some (aB b o)) n c]).run P w=.ok (.tuple #[]) (put w b (aZ l o (eT z.cells n).toList)):=by have d:=gD (P:=P) (o:=o) h _ a h1;obtain⟨m,rfl⟩:∃m,n=m+1:=⟨n-1,aj⟩;simp[uj,run_underlying ht,f,d]
theorem fZ{w:World}(t tx r e:TypeId)(z:Value)(k ay:Nat)(ht:P.underlying t=some (.slice e))(p:P.underlying tx=some (.slice e))(d:(P.info? e).map (fun i=>(i.zero,i.size,i.bytes))=some (some z,k,ay)){b n c m mc:Nat}{tb:TypeId}{l vs:bO}(h:aS w b tb l)(a:Addr)(q:vs.length=m*k)(o:∀j v,vs[j]?=some v->w.cell? (a.add j)=some v)(g:∀v∈vs,v.oneCell'=true)(f:n+m<=c)(hl:n*k+vs.length<=l.length):(og #[t,tx] r #[dP b n c,.slice (some a) m mc]).run P w=.ok (dP b (n+m) c) (put w b (aZ l (n*k) vs)):=by
 obtain⟨i,hi,_,hs,_⟩:=info_parts d;have s:Src P i.size tx (.slice (some a) m mc) m vs w:=by rw[hs];exact Src.ofSlice w p a m mc vs q o g
 rw[run_append_room_src (P:=P) (w:=w) t tx r e i ht hi b 0 n c _ m vs s f (fun j u=>by rw[h.cell,hs];simp;omega) (fun j _=>h.frozen _),wQ h _ (by rw[hs];omega) g,hs,Nat.zero_add]
theorem jd{w:World}(t tx r e:TypeId)(z:Value)(k ay:Nat)(ht:P.underlying t=some (.slice e))(o:P.underlying tx=some (.slice e))(f:(P.info? e).map (fun i=>(i.zero,i.size,i.bytes))=some (some z,k,ay)){base:Option Addr}{n c m mc:Nat}{cs vs:bO}(hold:base=none/\cs=[]\/∃b,base=some b/\cs.length=n*k/\∀j v,cs[j]?=some v->w.cell? (b.add j)=some v)(a:Addr)(p:vs.length=m*k)(h:∀j v,vs[j]?=some v->w.cell? (a.add j)=some v)(l:∀v∈vs,v.oneCell'=true)(d:c<n+m)(g:(n+m)*ay<=140737488355328)(q:n+m<=9223372036854775807):(og #[t,tx] r #[.slice base n c,.slice (some a) m mc]).run P w=.ok (dP w.heap.size (n+m) (grownCap w (n+m) c e))
   (w.drew.alloc (.cells (cs++vs++(eT z.cells (grownCap w (n+m) c e-(n+m))).toList).toArray e)):=by
 obtain⟨i,hi,hz,hs,hb⟩:=info_parts f;have u:Src P i.size tx (.slice (some a) m mc) m vs w:=by rw[hs];exact Src.ofSlice w o a m mc vs p h l
 have s:(tK i.size n (.slice base n c)).run P w.drew=.ok cs.toArray w.drew:=by
  rcases hold with⟨rfl,rfl⟩|⟨b,rfl,hl,hc⟩;·exact run_firstCells_none w.drew i.size n n c
  ·rw[hs];exact run_firstCells_some w.drew k n b n c cs hl hc
 rw[run_append_grow_src (P:=P) (w:=w) t tx r e i z ht hi hz base n c cs s _ m vs u d aj (by rw[hb];exact growslice_fits d g)];congr 3
 apply Array.ext';simp
theorem sO{w:World}(t h q e:TypeId)(z:Value)(k ay:Nat)(o p:IntKind)(ht:P.underlying t=some (.slice e))(g:P.underlying h=some (.int o))(d:(P.info? e).map (fun i=>(i.zero,i.size,i.bytes))=some (some z,k,ay))(y:0<k)(b:Addr){n c m:Nat}{cs:bO}(hl:cs.length=n*k)(s:∀j v,cs[j]?=some v->w.cell? (b.add j)=some v)(u:0<m)(a:c<n+m)(f:(n+m)*ay<=140737488355328)(l:n+m<=9223372036854775807):(og #[t,h] q #[.slice (some b) n c,.int p (m:Nat)]).run P w=.ok (dP w.heap.size (n+m) (grownCap w (n+m) c e))
   (w.drew.alloc (.cells (cs++(eT z.cells m).toList++(eT z.cells (grownCap w (n+m) c e-(n+m))).toList).toArray e)):=by
 obtain⟨i,hi,hz,hs,hb⟩:=info_parts d;have r:(tK i.size n (.slice (some b) n c)).run P w.drew=.ok cs.toArray w.drew:=by rw[hs];exact run_firstCells_some w.drew k n b n c cs hl s
 have x:m*ay<=(n+m)*ay:=Nat.mul_le_mul_right _ aj;rw[Lib.run_append_grow_zeros w t h q e i z p o ht g hi hz (some b) n c cs r m u aj a aj (by rw[hb];omega) (by rw[hb];exact growslice_fits a f)];congr 3
 apply Array.ext';simp
theorem jL(l:bO)(o:Nat)(cs:bO)(h:o+cs.length<=l.length)(j:Nat):(aZ l o cs)[j]?=if j<o then l[j]? else if j<o+cs.length then cs[j-o]? else l[j]?:=by
 unfold aZ;have ht:(l.take o).length=o:=by simp;omega
 by_cases h1:j<o;·rw[bK h1,mI,lg aj,eB,bK h1]
 ·rw[aU h1];by_cases a:j<o+cs.length;·rw[bK a,mI,j3 aj,lg aj,ht]
  ·rw[aU a,j3 (by simp;omega),mK];congr 1
   simp;omega
theorem Ll(l vs:bO)(a m k:Nat)(g:a<=m)(hl:m+k<=l.length)(f:vs.length=k):(aZ (aZ l (a+k) ((l.drop a).take (m-a))) a vs).take (m+k)=(l.take m).take a++vs++(l.take m).drop a:=by
 have c:((l.drop a).take (m-a)).length=m-a:=by simp;omega
 have e:(aZ l (a+k) ((l.drop a).take (m-a))).length=l.length:=bY _ _ _ aj;apply nA;intro j;rw[eB,jL _ _ _ aj,jL _ _ _ aj,f,c];by_cases h1:j<a;·rw[bK aj,bK h1,bK aj,mI,lg (by simp;omega),eB,bK h1,eB,bK aj]
 ·rw[aU h1];by_cases b:j<a+k;·rw[bK aj,bK b,mI,j3 (by simp;omega),lg (by simp;omega)];congr 1;simp;omega
  ·rw[aU b];by_cases d:j<m+k;·rw[bK d,aU b,bK aj,eB,bK aj,mK,j3 (by simp;omega),mK,eB,bK (by simp;omega)];congr 1;simp;omega
   ·rw[aU d,qA (by simp;omega)]
theorem IC(R vs b:bO)(a k:Nat)(f:vs.length=k)(hl:a+k+b.length<=R.length):(aZ (aZ R a vs) (a+k) b).take (a+k+b.length)=R.take a++vs++b:=by
 have e:(aZ R a vs).length=R.length:=bY _ _ _ aj;apply nA;intro j;rw[eB,jL _ _ _ aj,jL _ _ _ aj,f];by_cases h1:j<a;·rw[bK aj,bK aj,bK h1,mI,lg (by simp;omega),eB,bK h1]
 ·rw[aU h1];by_cases c:j<a+k;·rw[bK aj,bK c,bK c,mI,j3 (by simp;omega),lg (by simp;omega)];congr 1;simp;omega
  ·by_cases d:j<a+k+b.length;·rw[bK d,aU c,bK d,j3 (by simp;omega)];congr 1;simp;omega
   ·rw[aU d,qA (by simp;omega)]
theorem gV(R cs:bO)(o a:Nat)(h:o+cs.length<=R.length)(b:a<=o):(aZ R o cs).take a=R.take a:=by
 apply nA;intro j;rw[eB,eB,jL _ _ _ h];by_cases h1:j<a;·rw[bK h1,bK h1,bK aj]
 ·rw[aU h1,aU h1]
theorem iH(R vs:bO)(a:Nat)(h:a+vs.length<=R.length):(aZ R a vs).take (a+vs.length)=R.take a++vs:=by unfold aZ;rw[nP (by simp;omega),o8 (by simp;omega)]
theorem dR{R cs:bO}{o:Nat}(h1:∀v∈R,v.oneCell'=true)(b:∀v∈cs,v.oneCell'=true):∀v∈aZ R o cs,v.oneCell'=true:=by
 intro v a;unfold aZ at a;rcases tT.1 a with a|a
 ·rcases tT.1 a with a|a;·exact h1 v (List.mem_of_mem_take a)
  ·exact b v a
 ·exact h1 v (List.mem_of_mem_drop a)
theorem o_(R cs:bO)(o a:Nat)(h:o+cs.length<=R.length)(b:o+cs.length<=a):(aZ R o cs).drop a=R.drop a:=by apply nA;intro j;rw[mK,mK,jL _ _ _ h,aU aj,aU aj]
theorem gX(n:Nat):(eT (Value.agg #[uZ 0,uZ 0]).cells n).toList.length=n*2:=by simp[eT,Value.cells]
theorem jf(n:Nat):∀v∈(eT (Value.agg #[uZ 0,uZ 0]).cells n).toList,v.oneCell'=true:=by intro v a;simp[eT,Value.cells]at a;obtain⟨i,_,rfl⟩:=a;have:i % 2=0\/i % 2=1:=aj;rcases this with h|h<;>rw[h]<;>rfl
theorem iV(w:World)(row:Option Nat):w.grownBy w.drew row:=⟨rfl,rfl,rfl,tL _,fun _ _ _=>rfl⟩
theorem sP(w:World)(q:Nat)(row:Option Nat):w.grownBy (w.drewN q) row:=⟨rfl,rfl,rfl,tL _,fun _ _ _=>rfl⟩
theorem Lm(w:World)(row:Option Nat):w.grownBy w row:=⟨rfl,rfl,rfl,tL _,fun _ _ _=>rfl⟩
theorem eY{a b c:World}{row:Option Nat}(h:a.grownBy b row)(k:b.grownBy c row):a.grownBy c row:=
 ⟨k.os.trans h.os,k.tape.trans h.tape,k.output.trans h.output,xB h.size k.size,fun i hi d=>(k.block i (Nat.lt_of_lt_of_le hi h.size) d).trans (h.block i hi d)⟩
theorem vF{a w:World}{row:Option Nat}(h:a.grownBy w row)(b:Nat)(l:bO)(hb:a.heap.size<=b):a.grownBy (put w b l) row:=
 ⟨h.os,h.tape,h.output,xB h.size (by simp[put]),fun k d c=>(iG w b k l aj).trans (h.block k d c)⟩
end
end Go.Proofs.YtphbledmopchnaaGreatDoor.Mm
namespace Go.Proofs.YtphbledmopchnaaGreatDoor.Crc
def tab:List Nat:=[0,498536548,997073096,651767980,1994146192,1802195444,1303535960,1342533948,3988292384,4027552580,3604390888,3412177804,2607071920,2262029012,2685067896,3183342108]
def IB(c:Nat):Nat:=(c >>>4) ^^^ tab.getD (c&&& 15) 0
def byt(c:Nat)(x:UInt8):Nat:=IB (IB (c ^^^ x.toNat))
def reg(c:Nat)(l:List UInt8):Nat:=l.foldl byt c
def sum(l:List UInt8):Nat:=4294967295 ^^^ reg 4294967295 l
theorem yI{a b c:Nat}(h:a ^^^ c=b ^^^ c):a=b:=by have:=congrArg (fun z=>z ^^^ c) h;simpa[Nat.xor_assoc]using this
theorem Bo{a b c:Nat}(h:c ^^^ a=c ^^^ b):a=b:=by rw[yP c a,yP c b]at h;exact yI h
theorem S_:∀k,k<16->tab.getD k 0<4294967296:=by decide
theorem XG:∀a,a<16->∀b,b<16->tab.getD a 0 >>>28=tab.getD b 0 >>>28->a=b:=by decide
theorem Ta(c:Nat):c&&& 15=c % 16:=by have:=Nat.and_two_pow_sub_one_eq_mod c 4;simpa using this
theorem wP(c:Nat):c&&& 15<16:=by rw[Ta];omega
theorem vP(c:Nat)(h:c<4294967296):IB c<4294967296:=by
 unfold IB;have h1:c >>>4<2 ^ 32:=by rw[mE];omega
 have a:tab.getD (c&&& 15) 0<2 ^ 32:=S_ _ (wP c);exact mR h1 a
theorem NJ(c:Nat)(h:c<4294967296):IB c >>>28=tab.getD (c&&& 15) 0 >>>28:=by
 unfold IB;rw[Nat.shiftRight_xor_distrib];have:c >>>4 >>>28=0:=by rw[<-Nat.shiftRight_add,mE];omega
 rw[this,Nat.zero_xor]
theorem AQ(a b:Nat)(d:a<4294967296)(hb:b<4294967296)(h:IB a=IB b):a=b:=by
 have h1:a&&& 15=b&&& 15:=XG _ (wP a) _ (wP b) (by rw[<-NJ a d,<-NJ b hb,h]);have c:a >>>4=b >>>4:=by have e:=h;unfold IB at e;rw[h1]at e;exact yI e
 rw[Ta,Ta]at h1;rw[mE,mE]at c;omega
theorem mX(x:UInt8):x.toNat<256:=x.toNat_lt
theorem Bp(c:Nat)(x:UInt8)(h:c<4294967296):byt c x<4294967296:=by unfold byt;have h1:c ^^^ x.toNat<2 ^ 32:=mR (by omega) (by have:=mX x;omega);exact vP _ (vP _ h1)
theorem FP(c:Nat)(l:List UInt8)(h:c<4294967296):reg c l<4294967296:=by
 induction l generalizing c with
 |nil=>exact h
 |cons x t a=>exact a _ (Bp c x h)
theorem sum_lt(l:List UInt8):sum l<4294967296:=
 mR (n:=32) (by omega) (FP _ l (by omega))
theorem kJ{a b:Nat}(c:a<4294967296)(hb:b<4294967296):a ^^^ b<4294967296:=mR (n:=32) c hb
theorem FQ(a b:Nat)(x:UInt8)(c:a<4294967296)(hb:b<4294967296)(h:byt a x=byt b x):a=b:=by have d:=mX x;have h1:=AQ _ _ (vP _ (kJ c (by omega))) (vP _ (kJ hb (by omega))) h;exact yI (AQ _ _ (kJ c (by omega)) (kJ hb (by omega)) h1)
theorem D5(a:Nat)(x y:UInt8)(b:a<4294967296)(h:byt a x=byt a y):x=y:=by have d:=mX x;have e:=mX y;have h1:=AQ _ _ (vP _ (kJ b (by omega))) (vP _ (kJ b (by omega))) h;have c:=Bo (AQ _ _ (kJ b (by omega)) (kJ b (by omega)) h1);exact UInt8.toNat_inj.1 c
theorem XH(a b:Nat)(l:List UInt8)(c:a<4294967296)(hb:b<4294967296)(h:reg a l=reg b l):a=b:=by
 induction l generalizing a b with
 |nil=>exact h
 |cons x t d=>exact FQ a b x c hb (d _ _ (Bp a x c) (Bp b x hb) h)
theorem Lh(p t:List UInt8)(x y:UInt8)(h:x≠y):sum (p++x::t)≠sum (p++y::t):=by intro e;have a:=Bo e;unfold reg at a;rw[nU,nU]at a;have hp:List.foldl byt 4294967295 p<4294967296:=FP _ p (by omega);exact h (D5 _ x y hp (XH _ _ t (Bp _ x hp) (Bp _ y hp) a))
end Go.Proofs.YtphbledmopchnaaGreatDoor.Crc
namespace Go.Proofs.YtphbledmopchnaaGreatDoor.Num
def code(n:Nat):Nat:=if n<64 then 0 else if n<16384 then 1 else if n<1073741824 then 2 else 3
def be:Nat->Nat->List UInt8
 |0,_=>[]
 |k+1,n=>qx (n / 256 ^ k % 256)::be k n
def ay(n:Nat):List UInt8:=be (2 ^ code n) (n+code n*2 ^ (8*2 ^ code n-2))
theorem NK(n:Nat):code n<=3:=by unfold code;split<;>(try split)<;>(try split)<;>omega
theorem je:∀k n,(be k n).length=k
 |0,_=>rfl
 |k+1,n=>by simp[be,je k n]
theorem gy(n:Nat):(ay n).length=2 ^ code n:=je _ _
def val(a:Nat)(l:List UInt8):Nat:=l.foldl (fun n x=>n*256+x.toNat) a
theorem Li:∀k n a,val a (be k n)=a*256 ^ k+n % 256 ^ k
 |0,n,a=>by simp[be,val,Nat.mod_one]
 |k+1,n,a=>by
  have b:=Li k n (a*256+n / 256 ^ k % 256);have h:val a (be (k+1) n)=val (a*256+n / 256 ^ k % 256) (be k n):=by show val a (qx (n / 256 ^ k % 256)::be k n)=_;unfold val;rw[List.foldl_cons,nV (Nat.mod_lt _ (by decide))]
  rw[h,b,Nat.pow_succ,Nat.mod_mul,Nat.add_mul,sF a 256,xQ 256 (256 ^ k),xQ (n / 256 ^ k % 256)];omega
def aR:List UInt8->Option (Nat×List UInt8)
 |[]=>none
 |x::t=>if t.length<2 ^ (x.toNat / 64)-1 then none else some (val (x.toNat % 64) (t.take (2 ^ (x.toNat / 64)-1)),t.drop (2 ^ (x.toNat / 64)-1))
theorem Ep(x:UInt8)(t:List UInt8):aR (x::t)=if t.length<2 ^ (x.toNat / 64)-1 then none else some (val (x.toNat % 64) (t.take (2 ^ (x.toNat / 64)-1)),t.drop (2 ^ (x.toNat / 64)-1)):=rfl
theorem Lj(n:Nat)(h:n<4611686018427387904)(t:List UInt8):aR (ay n++t)=some (n,t):=by
 have key:∀(c k:Nat),2 ^ c=k+1->c<4->n<64*256 ^ k->aR (be (k+1) (n+c*(64*256 ^ k))++t)=some (n,t):=by
  intro c k g l i;have a:0<256 ^ k:=Nat.pow_pos (by decide);have hq:(n+c*(64*256 ^ k)) / 256 ^ k=n / 256 ^ k+c*64:=by rw[<-sF,Nat.add_mul_div_right _ _ a]
  have b:∀q,q<64->(q+c*64) / 64=c/\(q+c*64) % 64=q/\q+c*64<256:=fun q hq=>by omega
  have d:n / 256 ^ k<64:=(Nat.div_lt_iff_lt_mul a).2 i;have j:(qx ((n+c*(64*256 ^ k)) / 256 ^ k % 256)).toNat=n / 256 ^ k+c*64:=by rw[nV (Nat.mod_lt _ (by decide)),hq];exact Nat.mod_eq_of_lt (b _ d).2.2
  show aR (qx ((n+c*(64*256 ^ k)) / 256 ^ k % 256)::(be k (n+c*(64*256 ^ k))++t))=_;rw[Ep,j,(b _ d).1,(b _ d).2.1,g,Nat.add_sub_cancel];have hl:=je k (n+c*(64*256 ^ k));rw[if_neg (by simp[hl]),nP (by omega),o8 (by omega),List.drop_append_of_le_length (by omega),List.drop_of_length_le (by omega),List.nil_append,Li];rw[<-sF,Nat.add_mul_mod_self_right];congr 2
  exact Nat.div_add_mod' n (256 ^ k)
 unfold ay code;by_cases h1:n<64;·simp only[h1,if_true];exact key 0 0 rfl (by omega) (by omega)
 ·by_cases e:n<16384;·simp only[h1,e,if_true,if_false];exact key 1 1 rfl (by omega) (by omega)
  ·by_cases f:n<1073741824;·simp only[h1,e,f,if_true,if_false];exact key 2 3 rfl (by omega) (by omega)
   ·simp only[h1,e,f,if_false];exact key 3 7 rfl (by omega) (by omega)
end Go.Proofs.YtphbledmopchnaaGreatDoor.Num
namespace Go.Proofs.YtphbledmopchnaaGreatDoor
open Go.RowKit Go.Lib Tryz
theorem aG{p:Prop}(h:p):Hid p:=h
theorem kK{k:IntKind}{a b:Int}(h:a=b):Ending.returned (.int k a)=.returned (.int k b):=by rw[h]
theorem dI{a b:Bool}(h:a=b):Ending.returned (.bool a)=.returned (.bool b):=by rw[h]
theorem Bq(n:Nat)(w:World):Calls prog 271 #[uZ n] w fun e w'=>e=.returned (iZ (Num.code n:Nat))/\w'=w:=by
 generalize a:Num.code n=C;unfold Num.code at a;by_cases h1:n<64
 ·have b:Hid (C=0):=by rw[bK h1]at a;exact a.symm
  have f:(n:Int)<64:=aj;clear a h1;go_enter func271,ntmps271;go_wp2;go_ret;exact⟨kK (by rw[b.out];rfl),rfl⟩
 ·have f:¬((n:Int)<64):=aj;by_cases c:n<16384
  ·have b:Hid (C=1):=by rw[aU h1,bK c]at a;exact a.symm
   have g:(n:Int)<16384:=aj;clear a h1 c;go_enter func271,ntmps271;go_wp2;go_ret;exact⟨kK (by rw[b.out];rfl),rfl⟩
  ·have g:¬((n:Int)<16384):=aj;by_cases d:n<1073741824
   ·have b:Hid (C=2):=by rw[aU h1,aU c,bK d]at a;exact a.symm
    have h:(n:Int)<1073741824:=aj;clear a h1 c d;go_enter func271,ntmps271;go_wp2;go_ret;exact⟨kK (by rw[b.out];rfl),rfl⟩
   ·have b:Hid (C=3):=by rw[aU h1,aU c,aU d]at a;exact a.symm
    have h:¬((n:Int)<1073741824):=aj;clear a h1 c d;go_enter func271,ntmps271;go_wp2;go_ret;exact⟨kK (by rw[b.out];rfl),rfl⟩
def dV(w:World)(a:Option Addr)(l:List UInt8):Prop:=
 ∀j (hj:j<l.length),∃b off,a=some (aB b off)/\w.cell? (aB b (off+j))=some (.int .u8 ((l[j].toNat:Nat):Int))
def j4(w:World):Prop:=∀k,k<16->w.cell? (aB 1 k)=some (.int .u32 ((Crc.tab.getD k 0:Nat):Int))
theorem XI(R:Nat)(h:R<4294967296):bits .xor .u32 IntKind.u32.max (R:Int)=((4294967295 ^^^ R:Nat):Int):=by have e:IntKind.u32.max=((4294967295:Nat):Int):=iO;rw[e];exact u32_xor_nat 4294967295 R aj h
theorem Tc(l:List UInt8)(k:Nat)(h:k<l.length):Crc.reg 4294967295 (l.take (k+1))=Crc.byt (Crc.reg 4294967295 (l.take k)) l[k]:=by rw[List.take_succ_eq_append_getElem h];unfold Crc.reg;rw[nU];rfl
theorem Er(S i D T:Nat)(f:S<4294967296)(hi:i=S&&& 15)(a:D=S >>>4)(b:T=Crc.tab.getD i 0):bits .and .u32 (S:Int) 15=(i:Int)/\(S:Int) / 16=(D:Int)/\bits .xor .u32 (D:Int) (T:Int)=(Crc.IB S:Int)/\(i:Int)<16/\i<16:=by
 have c:=Crc.wP S;have e:D=S / 16:=by rw[a,mE]
 refine⟨?_,aj,?_,aj,aj⟩;·rw[hi];exact u32_and_nat S 15 f aj
 ·have h1:D<4294967296:=aj;have d:T<4294967296:=by rw[b];exact Crc.S_ i aj
  rw[u32_xor_nat D T h1 d,b,a,hi];rfl
theorem NM(a:Option Addr)(l:List UInt8)(c:Nat)(w:World)(hl:l.length<=1000000000)(hb:dV w a l)(ht:j4 w):Calls prog 159 #[.slice a l.length c] w fun e w'=>e=.returned (.int .u32 (Crc.sum l:Nat))/\w'=w:=by
 have A:=aG hb;have y:=aG ht;clear hb ht;go_enter func159,ntmps159;go_wp2;go_loop [3,8] (fun H s8=>∃k:Nat,k<=l.length/\s8=(iZ k)/\H=.int .u32 (Crc.reg 4294967295 (l.take k):Nat)) (fun _ s8=>l.length-(nI s8).toNat)
 case atStart=>exact⟨0,Nat.zero_le _,rfl,rfl⟩
 case round=>
  obtain⟨k,L,rfl,rfl⟩:=hrel;by_cases p:k<l.length
  ·have z:(k:Int)<(l.length:Int):=aj;obtain⟨b,off,D,E⟩:=A.out k p;subst D;have g:=Crc.FP 4294967295 (l.take k) aj;have f:=Tc l k p;have C:=Crc.mX l[k];have o:Crc.byt (Crc.reg 4294967295 (l.take k)) l[k]=Crc.IB (Crc.IB (Crc.reg 4294967295 (l.take k) ^^^ l[k].toNat)):=rfl;rw[o]at f;generalize Crc.reg 4294967295 (l.take k)=R at g f;generalize l[k].toNat=X at E C f;obtain⟨d,i1,q,T1,m,h⟩:∃d i1 q T1:Nat,d=R ^^^ X/\i1=d&&& 15/\q=d >>>4/\T1=Crc.tab.getD i1 0:=⟨_,_,_,_,rfl,rfl,rfl,rfl⟩;have n:d<4294967296:=by rw[m];exact Crc.kJ g aj
   obtain⟨i2,r,u,b2⟩:∃i2 r u:Nat,i2=Crc.IB d&&& 15/\r=Crc.IB d >>>4/\u=Crc.tab.getD i2 0:=⟨_,_,_,rfl,rfl,rfl⟩;have T:bits .xor .u32 (R:Int) ((X:Int) % 4294967296)=(d:Int):=by rw[show(X:Int) % 4294967296=(X:Int) by omega,m];exact u32_xor_nat R X g aj
   have U:bits .xor .u32 (R:Int) (X:Int)=(d:Int):=by rw[m];exact u32_xor_nat R X g aj
   obtain⟨O,P,Q,S,G⟩:=Er d i1 q T1 n h.1 h.2.1 h.2.2;obtain⟨p1,p2,M,N,F⟩:=Er (Crc.IB d) i2 r u (Crc.vP d n) b2.1 b2.2.1 b2.2.2;have I:=y.out i1 G;have J:=y.out i2 F;rw[<-h.2.2]at I;rw[<-b2.2.2]at J;have t:=aG f;have s:=aG m;clear f m h b2 o;generalize i:Crc.IB d=B at *
   generalize j:Crc.IB B=K at *
   have v:=aG (dB i j);clear i j;go_wp2;go_round
   case rel=>exact⟨k+1,aj,by go_num,by rw[t.out,<-s.out,v.out.1,v.out.2]⟩
   case measure=>simp[nI];omega
  ·obtain rfl:k=l.length:=aj;have g:=Crc.FP 4294967295 (l.take l.length) aj;rw[List.take_length]at g ⊢;have x:Hid (Crc.sum l=4294967295 ^^^ Crc.reg 4294967295 l):=rfl;generalize Crc.reg 4294967295 l=R at g x ⊢;go_wp2;go_ret;exact⟨kK (by rw[XI R g,x.out]),rfl⟩
end Go.Proofs.YtphbledmopchnaaGreatDoor
namespace Go.Proofs.YtphbledmopchnaaGreatDoor
open Go.RowKit Go.Lib Mm Tryz
def dK:Nat:=4611686018427387903
def sj(rs:bW)(i:Nat):Bool:=
 decide ((rs.getD i (0,0)).1<=(rs.getD i (0,0)).2)&&decide ((rs.getD i (0,0)).2<=dK)&&(decide (i=0)||decide ((rs.getD i (0,0)).2+1<(rs.getD (i-1) (0,0)).1))
def qp(rs:bW):Bool:=(rX rs.length).all (sj rs)&&decide (0<rs.length)
def jg(w:World)(a:Option Addr)(rs:bW):Prop:=
 ∀j,j<rs.length->∃b off,a=some (aB b off)/\w.cell? (aB b (off+j*2))=some (uZ ((rs.getD j (0,0)).1:Int))/\w.cell? (aB b (off+j*2+1))=some (uZ ((rs.getD j (0,0)).2:Int))/\(rs.getD j (0,0)).1<18446744073709551616/\(rs.getD j (0,0)).2<18446744073709551616
theorem jg.below{w w':World}{a:Option Addr}{rs:bW}(h:jg w a rs)(hb:bJ w w'):jg w' a rs:=fun j f=>by obtain⟨b,off,e,h1,c,d⟩:=h j f;exact⟨b,off,e,(hb.cell (p:=(aB b (off+j*2))) (mY _ _ h1)).trans h1,(hb.cell (p:=(aB b (off+j*2+1))) (mY _ _ c)).trans c,d⟩
theorem Br(k:Int)(w:World):Calls prog 216 #[iZ k] w fun e w'=>e=.returned (.bool (decide (1<=k/\k<=8)))/\w'=w:=by
 by_cases h:1<=k;·go_enter func216,ntmps216;go_wp2;go_ret;exact⟨dI (by rw[decide_eq_decide];omega),rfl⟩
 ·have a:decide (1<=k)=false:=by simp;omega
  go_enter func216,ntmps216;go_wp2;go_ret;exact⟨dI (by first|rfl|(symm;rw[decide_eq_false_iff_not];omega)),rfl⟩
theorem FT(k:Int)(w:World):Calls prog 287 #[iZ k] w fun e w'=>e=.returned (.bool (decide (0<=k/\k<8)))/\w'=w:=by
 by_cases h:0<=k;·go_enter func287,ntmps287;go_wp2;go_ret;exact⟨dI (by rw[decide_eq_decide];omega),rfl⟩
 ·have a:decide (0<=k)=false:=by simp;omega
  go_enter func287,ntmps287;go_wp2;go_ret;exact⟨dI (by first|rfl|(symm;rw[decide_eq_false_iff_not];omega)),rfl⟩
theorem Aq(a:Option Addr)(rs:bW)(c:Nat)(w:World)(hl:rs.length<=1000000000)(O:jg w a rs):Calls prog 335 #[.slice a rs.length c] w fun e w'=>e=.returned (.bool (qp rs))/\bJ w w':=by
 have G:=aG O;clear O;have v:Hid (qp rs=((rX rs.length).all (sj rs)&&decide (0<rs.length))):=rfl;go_enter func335,ntmps335;go_wp2_with fail;go_loopw [7] (fun L wr=>∃k:Nat,k<=rs.length/\L=(iZ k)/\Hid (∀i,i<k->sj rs i=true)/\Hid (bJ w wr)) (fun L _=>rs.length-(nI L).toNat);case atStart=>exact⟨0,Nat.zero_le _,rfl,fun i hi=>absurd hi (Nat.not_lt_zero _),Below.refl _ _⟩
 case round=>
  obtain⟨k,hk,rfl,u,t⟩:=hrel;by_cases F:k<rs.length
  ·have N:(k:Int)<(rs.length:Int):=aj;obtain⟨b,off,W,k1,k2,H,I⟩:=G.out.below t.out k F;subst W;have A:0<k->wr.cell? (aB b (off+(k-1)*2))=some (uZ ((rs.getD (k-1) (0,0)).1:Int)):=fun h0=>by
    obtain⟨Y,Q,C,J,_⟩:=G.out.below t.out (k-1) aj;simp at C;obtain⟨rfl,rfl⟩:=C;exact J
   have f:Hid (sj rs k=(decide ((rs.getD k (0,0)).1<=(rs.getD k (0,0)).2)&&decide ((rs.getD k (0,0)).2<=dK)&&(decide (k=0)||decide ((rs.getD k (0,0)).2+1<(rs.getD (k-1) (0,0)).1)))):=rfl;have q:sj rs k=false->Hid (qp rs=false):=fun h=>by
    have:(rX rs.length).all (sj rs)=false:=by rw[List.all_eq_false];exact⟨k,by simpa using F,by simp[h]⟩
    rw[v.out,this];rfl
   have n:sj rs k=true->Hid (∀i,i<k+1->sj rs i=true):=fun h i hi=>by
    by_cases e:i=k;·rw[e];exact h
    ·exact u.out i aj
   generalize (rs.getD k (0,0)).1=x at k1 H f;generalize (rs.getD k (0,0)).2=y at k2 I f;generalize (rs.getD (k-1) (0,0)).1=z at A f;generalize sj rs k=r at f q n;have p:=aG (t.out.size);have j:=aG q;have m:=aG n;clear q n G u;by_cases h1:x<=y
   ·have R:¬((y:Int)<(x:Int)):=aj;by_cases B:y<=dK
    ·have S:¬((4611686018427387903:Int)<(y:Int)):=by unfold dK at B;omega
     by_cases V:0<k
     ·have T:(0:Int)<(k:Int):=aj;have K:=A V;have E:b<wr.heap.size:=mY _ _ K;have Z:((k:Int)-1).toNat=k-1:=aj;have e6:IntKind.i64.wrap ((k:Int)-1)=(k:Int)-1:=by rw[IntKind.wrap_i64];omega
      have e7:(k:Int)-1<(rs.length:Int):=aj;have e8:0<=(k:Int)-1:=aj;have e9:IntKind.u64.wrap ((y:Int)+1)=(y:Int)+1:=by rw[IntKind.wrap_u64];unfold dK at B;omega
      clear A;by_cases M:y+1<z
      ·have d:r=true:=by rw[f.out];simp[h1,B,M]
       have g:=m.out d;have U:¬((z:Int)<=(y:Int)+1):=aj;clear f j m d;go_wp2_with fail;generalize o:wr.alloc (.cells #[uZ x,uZ y] 170)=s;have l:Hid (bJ w s):=by rw[<-o];exact t.out.alloc p.out _
       have P:s.cell? (aB wr.heap.size 1)=some (uZ y):=by rw[<-o];exact(aS.new wr 170 [uZ x,uZ y]).cell 1
       have X:s.cell? (aB b (off+(k-1)*2))=some (uZ z):=by rw[<-o,qy _ b _ E];exact K
       clear o;go_quiet (fail);go_wp2;go_roundw;case rel=>exact⟨k+1,aj,by go_num,g,l.out.os,l.out.tape,l.out.output,l.out.size,l.out.block⟩
       case measure=>simp[nI];omega
      ·have d:r=false:=by rw[f.out];simp[M];omega
       have g:=j.out d;have U:(z:Int)<=(y:Int)+1:=aj;clear f j m d;go_wp2_with fail;generalize o:wr.alloc (.cells #[uZ x,uZ y] 170)=s;have l:Hid (bJ w s):=by rw[<-o];exact t.out.alloc p.out _
       have P:s.cell? (aB wr.heap.size 1)=some (uZ y):=by rw[<-o];exact(aS.new wr 170 [uZ x,uZ y]).cell 1
       have X:s.cell? (aB b (off+(k-1)*2))=some (uZ z):=by rw[<-o,qy _ b _ E];exact K
       clear o;go_quiet (fail);go_wp2;go_ret;exact⟨dI g.out.symm,l.out.os,l.out.tape,l.out.output,l.out.size,l.out.block⟩
     ·have T:decide ((0:Int)<(k:Int))=false:=by simp;omega
      have d:r=true:=by rw[f.out];simp[h1,B];omega
      have g:=m.out d;clear f j m d A;go_wp2_with fail;generalize o:wr.alloc (.cells #[uZ x,uZ y] 170)=s;have l:Hid (bJ w s):=by rw[<-o];exact t.out.alloc p.out _
      have P:s.cell? (aB wr.heap.size 1)=some (uZ y):=by rw[<-o];exact(aS.new wr 170 [uZ x,uZ y]).cell 1
      clear o;go_quiet (fail);go_wp2;go_roundw;case rel=>exact⟨k+1,aj,by go_num,g,l.out.os,l.out.tape,l.out.output,l.out.size,l.out.block⟩
      case measure=>simp[nI];omega
    ·have S:(4611686018427387903:Int)<(y:Int):=by unfold dK at B;omega
     have d:r=false:=by rw[f.out];simp[B]
     have g:=j.out d;clear f j m d A;go_wp2;go_ret;exact⟨dI g.out.symm,t.out.alloc p.out _⟩
   ·have R:(y:Int)<(x:Int):=aj;have d:r=false:=by rw[f.out];simp[h1]
    have g:=j.out d;clear f j m d A;go_wp2;go_ret;exact⟨dI g.out.symm,t.out.alloc p.out _⟩
  ·obtain rfl:k=rs.length:=aj;have D:Hid (qp rs=decide (0<rs.length)):=by
    have:(rX rs.length).all (sj rs)=true:=by rw[List.all_eq_true];intro i hi;exact u.out i (by simpa using hi)
    rw[v.out,this];rfl
   clear v u;go_wp2;go_ret;exact⟨dI (by rw[D.out,decide_eq_decide]),t.out⟩
