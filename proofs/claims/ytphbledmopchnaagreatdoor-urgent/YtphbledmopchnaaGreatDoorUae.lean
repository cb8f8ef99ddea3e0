import Derived.Test.YtphbledmopchnaaGreatDoorUac
import Derived.Test.YtphbledmopchnaaGreatDoorUad
import Derived.Laws.Rows
open Go.RowKit.Below renaming refl->Am
open Bool renaming and_eq_true->wz
open List renaming getElem?_cons_succ->mR,getElem?_cons_zero->nI,getD_eq_getElem?_getD->sQ,getElem?_eq_getElem->tL,length_append->uj,getElem_mem->Av
open Nat renaming zero_add->fA,le_refl->tT
open Go.World renaming block_lt_of_cell?->fB
set_option maxHeartbeats 1000000
set_option maxRecDepth 100000
namespace Go.Proofs.YtphbledmopchnaaGreatDoor
open Go.RowKit Go.Lib Go.Shelf Mm Tryz
theorem xJ(b off:Nat)(w:World):Calls prog 279 #[ay b off] w fun e w'=>e=.returned (ay b (off+2))/\w'=w:=by
 go_enter func279,ntmps279;go_wp2;go_ret;exact⟨rfl,rfl⟩
theorem rY(b off:Nat)(w:World):Calls prog 280 #[ay b off] w fun e w'=>e=.returned (ay b (off+3))/\w'=w:=by
 go_enter func280,ntmps280;go_wp2;go_ret;exact⟨rfl,rfl⟩
theorem Az(b off:Nat)(w:World):Calls prog 283 #[ay b off] w fun e w'=>e=.returned (ay b (off+4))/\w'=w:=by
 go_enter func283,ntmps283;go_wp2;go_ret;exact⟨rfl,rfl⟩
theorem Oy(b off:Nat)(w:World):Calls prog 284 #[ay b off] w fun e w'=>e=.returned (ay b (off+6))/\w'=w:=by
 go_enter func284,ntmps284;go_wp2;go_ret;exact⟨rfl,rfl⟩
theorem rZ(b off:Nat)(w:World):Calls prog 285 #[ay b off] w fun e w'=>e=.returned (ay b (off+7))/\w'=w:=by
 go_enter func285,ntmps285;go_wp2;go_ret;exact⟨rfl,rfl⟩
def fieldAt(f:Fr)(F:Nat):Nat:=if F=279 then f.offset else if F=280 then f.reliable else if F=283 then f.limit else if F=284 then f.id else f.deadline
def aR(f:Fr)(F:Nat×Nat):List UInt8:=
 if F.1=0 then[UInt8.ofNat F.2]else if F.1=1 then[if f.fin then 9 else 8]else if F.1=2 then Num.bytes f.stream.toNat else if F.1=3 then Num.bytes (fieldAt f F.2)
 else if F.1=4 then Num.bytes f.data.size++f.data.data.toList else dP f.ranges
def aX(k:Int):aP:=
 if k=1 then[(0,1)]else if k=2 then[(0,2),(5,0)]else if k=3 then[(0,36),(2,0),(3,279),(3,280)]else if k=4 then[(1,0),(2,0),(3,279),(4,0)]else if k=5 then[(0,16),(3,283)]else if k=6 then[(0,17),(2,0),(3,283)]else if k=7 then[(0,48),(3,284),(3,285),(4,0)]else[(0,28),(3,283)]
def aG(f:Fr):List UInt8:=bE ((aX f.kind).map (aR f)) (aX f.kind).length
def DX(f:Fr)(F:Nat×Nat):Prop:=
 (F.1=0/\F.2<256)\/F.1=1\/F.1=2\/(F.1=3/\(F.2=279\/F.2=280\/F.2=283\/F.2=284\/F.2=285))\/F.1=4\/(F.1=5/\mX f.ranges=true)
structure Fit (f:Fr):Prop where
 s0:0<=f.stream
 s8:f.stream<8
 n0:f.offset<=aZ
 n1:f.reliable<=aZ
 n2:f.limit<=aZ
 n3:f.id<=aZ
 n4:f.deadline<=aZ
theorem mY(f:Fr)(h:snd f=true):Fit f/\1<=f.kind/\f.kind<=8/\jK f=true:=by
 unfold snd lM at h;simp only[wz]at h;obtain⟨⟨⟨h1,⟨⟨⟨⟨H,a2⟩,I⟩,K⟩,O⟩⟩,U⟩,V⟩:=h;have F:=of_decide_eq_true h1;have G:=of_decide_eq_true U;exact⟨⟨G.1,G.2,of_decide_eq_true H,of_decide_eq_true a2,of_decide_eq_true I,of_decide_eq_true K,of_decide_eq_true O⟩,F.1,F.2,V⟩
theorem JF{B0:Nat}{w1:World}{G:Nat×Nat}{Z fr:Value}(hP:gD B0 w1 G Z fr)(b off:Nat)(f:Fr)(ra:Option Addr)(rc:Nat)(O:Fit f)(U:DX f G)(X:f.ranges.length<=rc):
  Wr B0 w1.heap.size w1 Z (aR f G) b off f ra rc:=by
 unfold aR
 rcases hP with⟨h,xb,I,H,_⟩|⟨h,H,_⟩|⟨h,H,_⟩|⟨h,xb,I,H,_⟩|⟨h,H,_⟩|⟨h,H,_⟩
 ·rw[if_pos h,H]
  have Z7:G.2<256:=by
   rcases U with e|e|e|e|e|e<;>omega
  exact Ou xb (UInt8.ofNat G.2) b off f ra rc I.1 (fB _ _ I.2) (by rw[UInt8.toNat_ofNat_of_lt' Z7];exact I.2)
 ·rw[if_neg (by omega),if_pos h,H];exact Cc b off f ra rc
 ·rw[if_neg (by omega),if_neg (by omega),if_pos h,H];exact KX b off f ra rc O.s0 O.s8
 ·rw[if_neg (by omega),if_neg (by omega),if_neg (by omega),if_pos h,H]
  have V:G.2=279\/G.2=280\/G.2=283\/G.2=284\/G.2=285:=by
   rcases U with e|e|e|e|e|e
   ·omega
   ·omega
   ·omega
   ·exact e.2
   ·omega
   ·omega
  have hl:=fB _ _ I.2;have F:=I.2
  rcases V with e|e|e|e|e
  ·rw[e]at F ⊢;exact l9 xb 279 2 f.offset b off f ra rc I.1 hl F (enters_of func279 (by kernel_rfl) rfl) (xJ b off) (fun w K=>K.c2) O.n0
  ·rw[e]at F ⊢;exact l9 xb 280 3 f.reliable b off f ra rc I.1 hl F (enters_of func280 (by kernel_rfl) rfl) (rY b off) (fun w K=>K.c3) O.n1
  ·rw[e]at F ⊢;exact l9 xb 283 4 f.limit b off f ra rc I.1 hl F (enters_of func283 (by kernel_rfl) rfl) (Az b off) (fun w K=>K.c4) O.n2
  ·rw[e]at F ⊢;exact l9 xb 284 6 f.id b off f ra rc I.1 hl F (enters_of func284 (by kernel_rfl) rfl) (Oy b off) (fun w K=>K.c6) O.n3
  ·rw[e]at F ⊢;exact l9 xb 285 7 f.deadline b off f ra rc I.1 hl F (enters_of func285 (by kernel_rfl) rfl) (rZ b off) (fun w K=>K.c7) O.n4
 ·rw[if_neg (by omega),if_neg (by omega),if_neg (by omega),if_neg (by omega),if_pos h,H];exact TD b off f ra rc
 ·rw[if_neg (by omega),if_neg (by omega),if_neg (by omega),if_neg (by omega),if_neg (by omega),H]
  have hR:mX f.ranges=true:=by
   rcases U with e|e|e|e|e|e
   ·omega
   ·omega
   ·omega
   ·omega
   ·omega
   ·exact e.2
  exact KY b off f ra rc hR X
theorem Xe{B0:Nat}{w1:World}{F:aP}{fw fr:Value}(hL:Ox B0 w1 F fw fr)(O:F.length<=100)(b off:Nat)(f:Fr)(ra:Option Addr)(rc:Nat)(hf:Fit f)(X:∀t∈F,DX f t)(Z:f.ranges.length<=rc)(V:0<F.length):
  Wr B0 w1.heap.size w1 fw (bE (F.map (aR f)) F.length) b off f ra rc:=by
 obtain⟨pb,qb,rfl,_,hB,hq,I⟩:=hL
 have K:∃H JG:Nat->Value,∀j,j<F.length->w1.cell? (aj qb (j*2))=some (H j)/\w1.cell? (aj qb (j*2+1))=some (JG j)/\gD B0 w1 (F.getD j (0,0)) (H j) (JG j):=by
  refine⟨fun j=>(w1.cell? (aj qb (j*2))).getD undef,fun j=>(w1.cell? (aj qb (j*2+1))).getD undef,fun j G=>?_⟩;obtain⟨a,c,h1,h2,h3⟩:=I j G;refine⟨by simp[h1],by simp[h2],?_⟩;simpa[h1,h2]using h3
 obtain⟨H,JG,hF⟩:=K
 have U:∀j,j<F.length->F.getD j (0,0)∈F:=fun j G=>by
  rw[sQ,tL G];exact Av _
 refine GR pb qb F.length H JG _ b off f ra rc O hB.1 (fB _ _ hB.2) hq (fB _ _ (hF 0 V).1) hB.2 (fun j G=>⟨(hF j G).1,(hF j G).2.1⟩) (fun j G=>?_) (fun j G=>?_)
 ·rcases(hF j G).2.2 with⟨_,xb,_,_,h⟩|⟨_,_,h⟩|⟨_,_,h⟩|⟨_,xb,_,_,h⟩|⟨_,_,h⟩|⟨_,_,h⟩<;>exact⟨_,_,h⟩
 ·have:=JF (hF j G).2.2 b off f ra rc hf (X _ (U j G)) Z
  have e:(F.map (aR f)).getD j []=aR f (F.getD j (0,0)):=by
   simp[G]
  rw[e];exact this
def DZ(B0:Nat)(w:World)(k:Int)(F fr:Value):Prop:=k=1/\gD B0 w (0,1) F fr\/k≠1/\Ox B0 w (aX k) F fr
theorem TR(w:World):Calls prog 217 #[iZ 1] w fun e w'=>∃V fr,e=.returned (.agg #[V,fr])/\gD (w.heap.size+1) w' (0,1) V fr/\aD w w':=by
 go_enter func217,ntmps217
 go_wp2_with fail
 refine(gW 1 _ rfl _).mono ?_;rintro e y1 ⟨jV,jL,rfl,F,H⟩;have U:Hid (Below (w.heap.size+1) (w.alloc (.cells #[.nilFunc,.nilFunc] 318)) y1):=H.mono (by simp);have rP:=au (F.mono (B0:=w.heap.size+1) (by simp));obtain⟨X,Z,i2,i3⟩:=iM U.out
 have I:∃K c1 O c2,jV=.func (.func K) #[] c1/\jL=.func (.func O) #[] c2:=by
  rcases F with⟨_,xb,_,h,G⟩|⟨_,h,G⟩|⟨_,h,G⟩|⟨_,xb,_,h,G⟩|⟨_,h,G⟩|⟨_,h,G⟩<;>exact⟨_,_,_,_,h,G⟩
 obtain⟨K,c1,O,c2,rfl,rfl⟩:=I;clear F H
 go_wp2_with fail
 obtain⟨f1,f2⟩:=iL U.out (.func (.func K) #[] c1) (.func (.func O) #[] c2);exact bodyPost_ret (v:=.agg #[.func (.func K) #[] c1,.func (.func O) #[] c2]) (by simp[results,results217,go_sem,X,Z]) rfl ⟨_,_,rfl,rP.out.of f2,f1⟩
theorem ni(k:Int)(h1:1<=k)(I:k<=8)(w:World):Calls prog 217 #[iZ k] w fun e w'=>∃F fr,e=.returned (.agg #[F,fr])/\DZ (w.heap.size+1) w' k F fr/\aD w w':=by
 have h:k=1\/k=2\/k=3\/k=4\/k=5\/k=6\/k=7\/k=8:=by omega
 rcases h with rfl|rfl|rfl|rfl|rfl|rfl|rfl|rfl
 ·exact(TR w).mono (fun e w' ⟨F,fr,h1,G,H⟩=>⟨F,fr,h1,.inl ⟨rfl,G⟩,H⟩)
 ·exact(TH w).mono (fun e w' ⟨F,fr,h1,G,H⟩=>⟨F,fr,h1,.inr ⟨by decide,G⟩,H⟩)
 ·exact(TI w).mono (fun e w' ⟨F,fr,h1,G,H⟩=>⟨F,fr,h1,.inr ⟨by decide,G⟩,H⟩)
 ·exact(TJ w).mono (fun e w' ⟨F,fr,h1,G,H⟩=>⟨F,fr,h1,.inr ⟨by decide,G⟩,H⟩)
 ·exact(TK w).mono (fun e w' ⟨F,fr,h1,G,H⟩=>⟨F,fr,h1,.inr ⟨by decide,G⟩,H⟩)
 ·exact(TL w).mono (fun e w' ⟨F,fr,h1,G,H⟩=>⟨F,fr,h1,.inr ⟨by decide,G⟩,H⟩)
 ·exact(TM w).mono (fun e w' ⟨F,fr,h1,G,H⟩=>⟨F,fr,h1,.inr ⟨by decide,G⟩,H⟩)
 ·exact(TP w).mono (fun e w' ⟨F,fr,h1,G,H⟩=>⟨F,fr,h1,.inr ⟨by decide,G⟩,H⟩)
theorem JI(f:Fr)(h:snd f=true):∀t∈aX f.kind,DX f t:=by
 obtain⟨_,h1,H,F⟩:=mY f h
 have h:f.kind=1\/f.kind=2\/f.kind=3\/f.kind=4\/f.kind=5\/f.kind=6\/f.kind=7\/f.kind=8:=by omega
 intro t ht;unfold DX
 rcases h with e|e|e|e|e|e|e|e
 ·rw[e,show aX 1=[(0,1)]from rfl]at ht;simp at ht;subst ht;simp
 ·rw[e,show aX 2=[(0,2),(5,0)]from rfl]at ht
  have G:mX f.ranges=true:=by unfold jK at F;rw[if_pos e]at F;exact F
  simp at ht;rcases ht with rfl|rfl<;>simp[G]
 ·rw[e,show aX 3=[(0,36),(2,0),(3,279),(3,280)]from rfl]at ht
  simp at ht;rcases ht with rfl|rfl|rfl|rfl<;>simp
 ·rw[e,show aX 4=[(1,0),(2,0),(3,279),(4,0)]from rfl]at ht
  simp at ht;rcases ht with rfl|rfl|rfl|rfl<;>simp
 ·rw[e,show aX 5=[(0,16),(3,283)]from rfl]at ht
  simp at ht;rcases ht with rfl|rfl<;>simp
 ·rw[e,show aX 6=[(0,17),(2,0),(3,283)]from rfl]at ht
  simp at ht;rcases ht with rfl|rfl|rfl<;>simp
 ·rw[e,show aX 7=[(0,48),(3,284),(3,285),(4,0)]from rfl]at ht
  simp at ht;rcases ht with rfl|rfl|rfl|rfl<;>simp
 ·rw[e,show aX 8=[(0,28),(3,283)]from rfl]at ht
  simp at ht;rcases ht with rfl|rfl<;>simp
theorem sD(k:Int):0<(aX k).length/\(aX k).length<=100:=by
 unfold aX
 repeat' split
 all_goals exact⟨by decide,by decide⟩
theorem JJ{B0:Nat}{w1:World}{H fr:Value}(f:Fr)(G:DZ B0 w1 f.kind H fr)(h:snd f=true)(b off:Nat)(ra:Option Addr)(rc:Nat)(F:f.ranges.length<=rc):
  Wr B0 w1.heap.size w1 H (aG f) b off f ra rc:=by
 obtain⟨I,_⟩:=mY f h
 rcases G with⟨e,K⟩|⟨_,G⟩
 ·have:=JF K b off f ra rc I (.inl ⟨rfl,by decide⟩) F
  have hb:aG f=aR f (0,1):=by
   unfold aG;rw[e,show aX 1=[(0,1)]from rfl];rfl
  rw[hb];exact this
 ·exact Xe G (sD _).2 b off f ra rc I (JI f h) F (sD _).1
def dS:Fr:=⟨0,0,0,0,0,false,0,0,⟨#[]⟩,[]⟩
def jB(w:World)(fa:Option Addr)(fs:List Fr)(ra:Nat->Option Addr)(rc:Nat->Nat):Prop:=
 ∀j,j<fs.length->∃b off,fa=some (aj b off)/\kG w b (off+j*10) (fs.getD j dS) (ra j) (rc j)/\(fs.getD j dS).ranges.length<=rc j/\∀x,ra j=some x->x.block<w.heap.size
theorem jB.below{w w':World}{fa:Option Addr}{fs:List Fr}{ra:Nat->Option Addr}{rc:Nat->Nat}(h:jB w fa fs ra rc)(hb:aD w w'):jB w' fa fs ra rc:=fun j I=>by
 obtain⟨b,off,H,h1,F,G⟩:=h j I;exact⟨b,off,H,h1.below hb,F,fun x K=>Nat.lt_of_lt_of_le (G x K) hb.size⟩
def nY(n:Nat)(fs:List Fr):Bool:=fs.all snd&&decide (n<=aZ)&&decide (0<fs.length)
theorem sF(fs:List Fr):fs.all snd=true↔∀i,i<fs.length->snd (fs.getD i dS)=true:=by
 rw[List.all_eq_true];constructor
 ·intro h i hi;rw[sQ,tL hi];exact h _ (Av _)
 ·intro h x F;obtain⟨i,hi,rfl⟩:=List.mem_iff_getElem.1 F;have:=h i hi;rwa[sQ,tL hi]at this
theorem wH(n:Nat)(fa:Option Addr)(fs:List Fr)(fc:Nat)(ra:Nat->Option Addr)(rc:Nat->Nat)(w:World)(hl:fs.length<=1000000000)(hn:n<18446744073709551616)(hF:jB w fa fs ra rc):
  Calls prog 219 #[.agg #[uZ n,.slice fa fs.length fc]] w fun e w'=>e=.returned (.bool (nY n fs))/\aD w w':=by
 have HF:=au hF;have V:Hid (nY n fs=(fs.all snd&&decide (n<=aZ)&&decide (0<fs.length))):=rfl;have lQ:=au (sF fs);clear hF;go_enter func219,ntmps219
 go_wp2_with fail
 go_loopw [7] (fun s7 wr=>∃k:Nat,k<=fs.length/\s7=(iZ k)/\Hid (∀i,i<k->snd (fs.getD i dS)=true)/\Hid (Below (w.heap.size+1) (w.alloc (.cells #[uZ n,.slice fa fs.length fc] 56)) wr)) (fun s7 _=>fs.length-(intOf s7).toNat)
 case atStart=>exact⟨0,Nat.zero_le _,rfl,fun i hi=>absurd hi (Nat.not_lt_zero _),Am _ _⟩
 case round=>
  obtain⟨k,hk,rfl,Z,HB⟩:=hrel;have Xh:aA wr w.heap.size 56 [uZ n,.slice fa fs.length fc]:=(aA.new w 56 [uZ n,.slice fa fs.length fc]).of_heap (HB.out.block _ (by omega));have x0:=Xh.cell 0;have x1:=Xh.cell 1;have H:Hid (aD w wr):=((Am _ w).alloc (tT _) _).trans (HB.out.mono (by omega))
  have hsz:w.heap.size+1<=wr.heap.size:=by have:=HB.out.size;simpa using this
  clear Xh;simp only[nI,mR]at x0 x1
  by_cases h0:k<fs.length
  ·have h4:(k:Int)<(fs.length:Int):=by omega
   obtain⟨b,off,ha,qR,_⟩:=HF.out.below H.out k h0;subst ha;have HC:=au (oH b (off+k*10) (fs.getD k dS) (ra k) (rc k) wr qR)
   have F:snd (fs.getD k dS)=true->Hid (∀i,i<k+1->snd (fs.getD i dS)=true):=fun h i hi=>by
    by_cases e:i=k
    ·rw[e];exact h
    ·exact Z.out i (by omega)
   have O:snd (fs.getD k dS)=false->Hid (nY n fs=false):=fun h=>by
    have:fs.all snd=false:=by
     cases hq:fs.all snd
     ·rfl
     ·rw[lQ.out.1 hq k h0]at h;cases h
    rw[V.out,this];rfl
   have HG:=au F;have G:=au O;clear F O qR;generalize snd (fs.getD k dS)=B at HC HG G
   go_wp2_with fail
   refine HC.out.mono ?_;rintro e w2 ⟨rfl,X⟩;have h2:Hid (Below (w.heap.size+1) (w.alloc (.cells #[uZ n,.slice (some (aj b off)) fs.length fc] 56)) w2):=HB.out.trans (X.mono (by omega));have Z8:Hid (aD w w2):=H.out.trans (X.mono (by omega));clear X;cases B
   ·have HR:=G.out rfl;clear HG G;go_wp2;go_ret;exact⟨aV HR.out.symm,Z8.out⟩
   ·have HR:=HG.out rfl;clear HG G;go_wp2;go_roundw
    case rel=>exact⟨k+1,by omega,by go_num,HR,h2⟩
    case measure=>simp[intOf];omega
  ·obtain rfl:k=fs.length:=by omega
   have K:fs.all snd=true:=lQ.out.2 Z.out
   have HS:Hid (nY n fs=(decide (n<=aZ)&&decide (0<fs.length))):=by rw[V.out,K];rfl
   clear K V
   by_cases I:n<=aZ
   ·have h3:(n:Int)<=4611686018427387903:=by unfold aZ at I;omega
    have U:Hid (nY n fs=decide (0<fs.length)):=by rw[HS.out,decide_eq_true I];rfl
    clear HS;go_wp2;go_ret;exact⟨aV (by rw[U.out,decide_eq_decide]),H.out⟩
   ·have h3:decide ((n:Int)<=4611686018427387903)=false:=by unfold aZ at I;simp;omega
    have U:Hid (nY n fs=false):=by rw[HS.out,decide_eq_false I];rfl
    clear HS;go_wp2;go_ret;exact⟨aV U.out.symm,H.out⟩
def cZ(n:Nat)(fs:List Fr):Nat->List UInt8
 |0=>Num.bytes n
 |k+1=>cZ n fs k++aG (fs.getD k dS)
def bV(n:Nat)(fs:List Fr):List UInt8:=cZ n fs fs.length
def aK(n:Nat)(fs:List Fr):List UInt8:=bV n fs++fq (bV n fs)
theorem vJ(n:Nat)(fs:List Fr):∀(m k:Nat),k<=m->(cZ n fs k).length<=(cZ n fs m).length
 |0,k,h=>by
   obtain rfl:k=0:=by omega
   exact tT _
 |m+1,k,h=>by
  by_cases e:k=m+1
  ·rw[e];exact tT _
  ·have:=vJ n fs m k (by omega);rw[cZ,uj];omega
def Own(B:Nat)(v:Value):Prop:=∀k,v.ownBlock=some k->B<=k
theorem Own.nil(B:Nat):Own B nZ:=fun k F=>by simp[Value.ownBlock]at F
theorem Gr.own{B:Nat}{w w':World}{v v':Value}(h:Gr w w' v v')(G:Own B v)(hB:B<=w.heap.size):Own B v':=fun k F=>by
 rcases h.2 k F with e|e
 ·exact G k e
 ·omega
theorem Gr.below{B:Nat}{w w':World}{v v':Value}(h:Gr w w' v v')(F:Own B v)(hB:B<=w.heap.size):Below B w w':=
 ⟨h.1.os,h.1.tape,h.1.output,h.1.size,fun k G=>h.1.block k (by omega) (fun e=>by have:=F k e.symm;omega)⟩
theorem TabAt.below{B:Nat}{w w':World}(h:TabAt w)(hb:Below B w w')(hB:2<=B):TabAt w':=fun k F=>cell_of (h k F) (hb.block 1 (by omega))
theorem YL(a b:Nat)(c d:Array Value)(w:World):(Instr.field 318 (.agg #[.func (.func a) #[] c,.func (.func b) #[] d]) 0).run prog w=.ok (.func (.func a) #[] c) w:=by kernel_rfl
theorem Z9(a b:Nat)(c d:Array Value)(w:World):(Instr.field 318 (.agg #[.func (.func a) #[] c,.func (.func b) #[] d]) 1).run prog w=.ok (.func (.func b) #[] d) w:=by kernel_rfl
theorem gD.shape{B0:Nat}{w:World}{G:Nat×Nat}{H fr:Value}(h:gD B0 w G H fr):∃I c1 K c2,H=.func (.func I) #[] c1/\fr=.func (.func K) #[] c2:=by
 rcases h with⟨_,xb,_,h,F⟩|⟨_,h,F⟩|⟨_,h,F⟩|⟨_,xb,_,h,F⟩|⟨_,h,F⟩|⟨_,h,F⟩<;>exact⟨_,_,_,_,h,F⟩
theorem DZ.shape{B0:Nat}{w:World}{k:Int}{F fr:Value}(h:DZ B0 w k F fr):∃G c1 H c2,F=.func (.func G) #[] c1/\fr=.func (.func H) #[] c2:=by
 rcases h with⟨_,h⟩|⟨_,pb,qb,h,h2,_⟩
 ·exact h.shape
 ·exact⟨_,_,_,_,h,h2⟩
theorem xL(n:Nat)(fa:Option Addr)(fs:List Fr)(fc:Nat)(ra:Nat->Option Addr)(rc:Nat->Nat)(w:World)(hl:fs.length<=1000000000)(hF:jB w fa fs ra rc)(hS:nY n fs=true)(hT:TabAt w)(h2:2<=w.heap.size)(I:(bV n fs).length<=1000000000):
  Calls prog 167 #[.agg #[uZ n,.slice fa fs.length fc]] w fun e w'=>∃v,e=.returned (.tuple #[v,.nilIface])/\Buf w' v (aK n fs)/\Own w.heap.size v/\aD w w':=by
 have U:=hS;unfold nY at U;rw[wz,wz]at U;have hn:=of_decide_eq_true U.1.2;have TT:=(sF fs).1 U.1.1;unfold aZ at hn;have HS:=au (wH n fa fs fc ra rc (w.alloc (.cells #[uZ n,.slice fa fs.length fc] 56)) hl (by omega) (hF.below ((Am _ w).alloc (tT _) _)));rw[hS]at HS;have HF:=au hF;have TU:=au TT;have HT:=au hT;have Ar:=au (vJ n fs fs.length);have h4:Hid ((cZ n fs fs.length).length<=1000000000):=I;have x5:Hid (aK n fs=cZ n fs fs.length++fq (cZ n fs fs.length)):=rfl
 have hm:Hid (∀k,cZ n fs (k+1)=cZ n fs k++aG (fs.getD k dS)):=fun _=>rfl
 have HZ:Hid (cZ n fs 0=Num.bytes n):=rfl
 have hw:n<4611686018427387904:=by omega
 have HN:=au hw;clear hS U hF TT hT I hn hw;go_enter func167,ntmps167
 go_wp2_with fail
 refine HS.out.mono ?_;rintro e w2 ⟨rfl,h0⟩;obtain⟨O,V⟩:∃O,O=w.alloc (.cells #[uZ n,.slice fa fs.length fc] 56):=⟨_,rfl⟩
 have GZ:O.heap.size=w.heap.size+1:=by rw[V];simp
 have oN:aA O w.heap.size 56 [uZ n,.slice fa fs.length fc]:=by rw[V];exact aA.new w 56 _
 have G:aD w O:=by rw[V];exact(Am _ w).alloc (tT _) _
 rw[<-V]at h0;have X:=oN.of_heap (h0.block _ (by omega));have x0:=X.cell 0;simp only[nI]at x0;have HA:=au (bJ nZ [] n w2 (Buf.nil w2) HN.out (by simp));have HW:=au (And.intro GZ (And.intro oN G));have h7:=au h0;clear h0 X oN G V GZ
 go_wp2_with fail
 refine HA.out.mono ?_;rintro e w3 ⟨v3,rfl,h9,hc⟩;obtain⟨GZ,oN,G⟩:=HW.out;have he:aD O w3:=h7.out.trans (hc.below (Own.nil _) h7.out.size);have hr:Own O.heap.size v3:=hc.own (Own.nil _) h7.out.size;rw[List.nil_append,<-HZ.out]at h9;have Z:=oN.of_heap (he.block _ (by omega));have y1:=Z.cell 1;simp only[nI,mR]at y1;have HI:=au (And.intro h9 (And.intro he hr));clear h9 hc he hr Z GZ oN G x0
 go_wp2_with fail
 go_loopw [4,17] (fun s4 GY wr=>∃k:Nat,k<=fs.length/\GY=(iZ k)/\Hid (Buf wr s4 (cZ n fs k)/\aD O wr/\Own O.heap.size s4)) (fun _ GY _=>fs.length-(intOf GY).toNat)
 case atStart=>exact⟨0,Nat.zero_le _,rfl,HI.out⟩
 case round=>
  clear HI y1 HA HS;obtain⟨k,hk,rfl,HI⟩:=hrel
  by_cases hv:k<fs.length
  ·have x9:(k:Int)<(fs.length:Int):=by omega
   obtain⟨hB,hb,hO⟩:=HI.out;obtain⟨GZ,oN,G⟩:=HW.out;have D5:aD w wr:=G.trans (hb.mono (by omega));obtain⟨b,off,ha,qR,hy,hf⟩:=HF.out k hv;have Xi:=qR.below D5;subst ha;have hg:=TU.out k hv;obtain⟨_,hu,uz,_⟩:=mY _ hg;have c0:=Xi.c0;have xa:b<w.heap.size:=fB _ _ qR.c0;have h5:=oN.of_heap (hb.block _ (by omega));have y1:=h5.cell 1;simp only[nI,mR]at y1;have G5:=au (ni _ hu uz wr)
   have x3:∀(wl:World) (fw fr:Value),DZ (wr.heap.size+1) wl (fs.getD k dS).kind fw fr->aD wr wl->
     ∃g cb,fw=.func (.func g) #[] cb/\(∀args w,(callFunc g args).run prog w=.ok (.enter g args) w)/\
      Calls prog g (#[u4,(ay b (off+k*10))]++cb) wl fun e w'=>∃v',e=.returned v'/\Buf w' v' (cZ n fs (k+1))/\aD O w'/\Own O.heap.size v':=by
    intro wl fw fr hL sG;obtain⟨g,cb,h1,h2,h3⟩:=JJ _ hL hg b (off+k*10) (ra k) (rc k) hy;refine⟨g,cb,h1,h2,?_⟩;have I:=Ar.out (k+1) (by omega);have xe:=h4.out;rw[hm.out,uj]at I;have x6:=hb.size;have Z_:=sG.size;refine(h3 wl u4 (cZ n fs k) ⟨⟨tT _,fun _ _ _=>rfl⟩,hB.of_heap (fun j hj=>sG.block j (hB.lt j hj)),fun j hj=>.inl (by have:=hB.lt j hj;omega),Xi.below sG,fun e=>by have:=hO _ e;omega,fun x hx e=>by have:=hO _ e;have:=hf x hx;omega,fun x hx=>by have:=hf x hx;omega⟩ (by omega)).mono ?_;rintro e w' ⟨v',rfl,K,H⟩;exact⟨v',rfl,by rw[hm.out];exact K,(hb.trans (sG.mono x6)).trans (H.below hO (by omega)),H.own hO (by omega)⟩
   have h8:=au x3;clear x3 hB hb hO D5 qR Xi hg h5 oN G hu uz hy hf;generalize fs.getD k dS=F at c0 G5 h8
   go_wp2_with fail
   refine G5.out.mono ?_;rintro e wl ⟨fw,fr,rfl,hL,sG⟩;obtain⟨_,_,g2,KZ,_,x7⟩:=hL.shape;subst x7;obtain⟨g,cb,x8,eg,hC⟩:=h8.out wl fw _ hL sG;subst x8;have HC:=au hC;have xd:=YL g g2 cb KZ;clear hC hL sG h8
   go_wp2_with fail
   refine HC.out.mono ?_;rintro e w' ⟨v',rfl,ho⟩;have SQ:=au ho;clear ho
   go_wp2_with fail
   go_roundw
   case rel=>exact⟨k+1,by omega,by go_num,SQ⟩
   case measure=>simp[intOf];omega
  ·obtain rfl:k=fs.length:=by omega
   obtain⟨hB,hb,hO⟩:=HI.out;obtain⟨GZ,oN,G⟩:=HW.out;have D5:aD w wr:=G.trans (hb.mono (by omega));have x4:=au (zX u4 _ wr hB (HT.out.below D5 h2) h4.out)
   have h6:∀w' v',Buf w' v' (cZ n fs fs.length++fq (cZ n fs fs.length))->Gr wr w' u4 v'->Buf w' v' (aK n fs)/\Own w.heap.size v'/\aD w w':=fun w' v' K H=>by
    have D6:Own w.heap.size u4:=fun j hj=>by have:=hO j hj;omega
    exact⟨by rw[x5.out];exact K,H.own D6 D5.size,D5.trans (H.below D6 D5.size)⟩
   have jd:=au h6;clear h6 hB hb hO D5 oN G GZ
   go_wp2_with fail
   refine x4.out.mono ?_;rintro e w' ⟨v',rfl,K,H⟩;have HR:=au (jd.out w' v' K H);clear K H;go_wp2;go_ret2;exact⟨_,rfl,HR.out⟩
def aL:aP->aI
 |[]=>[]
 |r::t=>(uZ r.1)::(uZ r.2)::aL t
def fu(f:Fr)(v:Value):aI:=[iZ f.kind,iZ f.stream,uZ f.offset,uZ f.reliable,uZ f.limit,.bool f.fin,uZ f.id,uZ f.deadline,.string f.data,v]
def lF(fs:List Fr)(v9:Nat->Value):Nat->aI
 |0=>[]
 |k+1=>lF fs v9 k++fu (fs.getD k dS) (v9 k)
theorem jq:∀rs,∀v∈aL rs,v.oneCell'=true
 |[],v,hv=>by simp[aL]at hv
 |r::t,v,hv=>by
  simp[aL]at hv
  rcases hv with rfl|rfl|hv
  ·rfl
  ·rfl
  ·exact jq t v hv
theorem qU:∀(rs:aP) j,j<rs.length->(aL rs)[j*2]?=some (uZ ((rs.getD j (0,0)).1:Int))/\(aL rs)[j*2+1]?=some (uZ ((rs.getD j (0,0)).2:Int))
 |[],j,h=>by simp at h
 |r::t,0,h=>by simp[aL]
 |r::t,j+1,h=>by
  have:=qU t j (by simpa using h);rw[show(j+1)*2=j*2+1+1 by omega];simp only[aL,mR,List.getD_cons_succ];exact this
theorem gT:∀a b,aL (a++b)=aL a++aL b
 |[],b=>rfl
 |r::t,b=>by simp[aL,gT t b]
theorem AA(fs:List Fr)(v9:Nat->Value):∀k,(lF fs v9 k).length=k*10
 |0=>rfl
 |k+1=>by rw[lF,uj,AA fs v9 k];simp[fu];omega
theorem AB(fs:List Fr)(v9:Nat->Value):∀k j i,j<k->i<10->(lF fs v9 k)[j*10+i]?=(fu (fs.getD j dS) (v9 j))[i]?
 |0,j,i,h,_=>by omega
 |k+1,j,i,h,hi=>by
  have hl:=AA fs v9 k;rw[lF]
  by_cases e:j=k
  ·subst e;rw[List.getElem?_append_right (by omega)]
   congr 1;omega
  ·rw[List.getElem?_append_left (by omega)];exact AB fs v9 k j i (by omega) hi
theorem vK(fs:List Fr)(v9 F:Nat->Value):∀k,(∀j,j<k->v9 j=F j)->lF fs v9 k=lF fs F k
 |0,_=>rfl
 |k+1,h=>by rw[lF,lF,vK fs v9 F k (fun j G=>h j (by omega)),h k (by omega)]
structure jl (f:Fr):Prop where
 rlen:f.ranges.length<=1000000000
 xG:f.data.size<=1000000000
 k0: -9223372036854775808<=f.kind/\f.kind<=9223372036854775807
 s0: -9223372036854775808<=f.stream/\f.stream<=9223372036854775807
 u0:f.offset<18446744073709551616/\f.reliable<18446744073709551616/\f.limit<18446744073709551616/\f.id<18446744073709551616/\f.deadline<18446744073709551616
 r0:∀j,j<f.ranges.length->(f.ranges.getD j (0,0)).1<18446744073709551616/\(f.ranges.getD j (0,0)).2<18446744073709551616
structure sH (B:Nat) (w:World) (s:Value) (fs:List Fr) (v9:Nat->Value) (k:Nat):Prop where
 buf:bK 65 10 w s k (lF fs v9 k)
 own:Own B s
 rng:∀j,j<k->bK 170 2 w (v9 j) (fs.getD j dS).ranges.length (aL (fs.getD j dS).ranges)/\Own B (v9 j)/\∀b,(v9 j).ownBlock=some b->s.ownBlock≠some b
def OA:Value->Option Addr
 |.slice a _ _=>a
 |_=>none
def TV:Value->Nat
 |.slice _ _ c=>c
 |_=>0
theorem sH.JG{B:Nat}{w:World}{s:Value}{fs:List Fr}{v9:Nat->Value}(h:sH B w s fs v9 fs.length)(h0:∀j,j<fs.length->jl (fs.getD j dS)):
  ∃fa U,s=.slice fa fs.length U/\jB w fa fs (fun j=>OA (v9 j)) (fun j=>TV (v9 j)):=by
 obtain⟨fa,U,hs,_⟩:=h.buf.shape;refine⟨fa,U,hs,fun j X=>?_⟩
 have I:=fun i hi=>AB fs v9 fs.length j i X hi
 have G:=fun i (hi:i<10) x (O:(fu (fs.getD j dS) (v9 j))[i]?=some x)=>h.buf.cell hs (j*10+i) x (by rw[I i hi];exact O)
 obtain⟨g,V,c0,_⟩:=G 0 (by omega) _ rfl;subst V;obtain⟨g',F,c1,_⟩:=G 1 (by omega) _ rfl;cases F;obtain⟨g',F,c2,_⟩:=G 2 (by omega) _ rfl;cases F;obtain⟨g',F,c3,_⟩:=G 3 (by omega) _ rfl;cases F;obtain⟨g',F,c4,_⟩:=G 4 (by omega) _ rfl;cases F;obtain⟨g',F,c5,_⟩:=G 5 (by omega) _ rfl;cases F;obtain⟨g',F,c6,_⟩:=G 6 (by omega) _ rfl;cases F;obtain⟨g',F,c7,_⟩:=G 7 (by omega) _ rfl;cases F;obtain⟨g',F,c8,_⟩:=G 8 (by omega) _ rfl;cases F;obtain⟨g',F,c9,_⟩:=G 9 (by omega) _ rfl;cases F;obtain⟨K,_,_⟩:=h.rng j X;obtain⟨ra,rc,H,Z⟩:=K.shape;have ok:=h0 j X;refine⟨g,0,rfl,⟨by rw[fA];exact c0,by rw[fA];exact c1,by rw[fA];exact c2,by rw[fA];exact c3,by rw[fA];exact c4,by rw[fA];exact c5,by rw[fA];exact c6,by rw[fA];exact c7,by rw[fA];exact c8,?_,?_,ok.rlen,ok.xG,ok.k0,ok.s0,ok.u0⟩,?_,?_⟩
 ·rw[fA,c9];simp only[H,OA,TV]
 ·intro i hi;obtain⟨r1,r2⟩:=qU _ i hi;obtain⟨b1,e1,d1,_⟩:=K.cell H _ _ r1;obtain⟨b2,e2,d2,_⟩:=K.cell H _ _ r2;rw[e1]at e2;cases e2;refine⟨b1,0,by simp only[H];exact e1,by rw[fA];exact d1,by rw[fA];exact d2,ok.r0 i hi⟩
 ·simp only[H];exact Z
 ·intro x O;simp only[H]at O;refine K.lt x.block ?_;have h2:ra=some x:=O;rw[H,h2];rfl
theorem Mm.aA.setCell{w:World}{b:Nat}{t:TypeId}{l:aI}(h:aA w b t l)(o:Nat)(v:Value):aA (w.setCell (aj b o) v) b t (l.set o v):=by
 have:=heap_setCell_same w b o l.toArray t v h;unfold aA;rw[this]
 congr 2
 apply Array.ext';simp
