import Derived.Test.YtphbledmopchnaaGreatDoorVab
import Derived.Laws.Rows
open Go.Builtin renaming max_->fE,min_->l9,max2->nU,min2->nV
open List renaming replicate->eT,length_append->fA,range->fB,getD_cons_succ->nA,countP_congr->nI,take->nL
open Nat renaming le_trans->mE,le_of_lt->tu
open Prod renaming fst->eB
open Go.RowKit renaming intOf->mI
open Go.Sem renaming run_bind->mK,run_pure->mR
set_option maxHeartbeats 2000000
set_option maxRecDepth 100000
open Go renaming World->Wq,Value->Wx,TypeId->WK,Addr->XK
set_option linter.all false
namespace Go.Proofs.YtphbledmopchnaaGreatDoor
open Go.RowKit Go.Lib Go.Shelf Mm Tryz
variable {B B0:Nat}{v v':Wx}{w w':Wq}
def Fv(b a w):bN 279 #[aK b a] w (aK b (a+2)) fun c=>c=w:=by go_enter func279,ntmps279;go_wp2;go_ret;exact⟨rfl,rfl⟩
def AV(b a w):bN 280 #[aK b a] w (aK b (a+3)) fun c=>c=w:=by go_enter func280,ntmps280;go_wp2;go_ret;exact⟨rfl,rfl⟩
def JG(b a w):bN 283 #[aK b a] w (aK b (a+4)) fun c=>c=w:=by go_enter func283,ntmps283;go_wp2;go_ret;exact⟨rfl,rfl⟩
def YS(b a w):bN 284 #[aK b a] w (aK b (a+6)) fun c=>c=w:=by go_enter func284,ntmps284;go_wp2;go_ret;exact⟨rfl,rfl⟩
def AX(b a w):bN 285 #[aK b a] w (aK b (a+7)) fun c=>c=w:=by go_enter func285,ntmps285;go_wp2;go_ret;exact⟨rfl,rfl⟩
def fieldAt(f:Fr)(a:Nat):Nat:=if a=279 then f.aC else if a=280 then f.aO else if a=283 then f.aN else if a=284 then f.id else f.aJ
def fu(f:Fr)(a:Nat×Nat):List UInt8:=
 if a.1=0 then[UInt8.ofNat a.2]else if a.1=1 then[if f.bL then 9 else 8]else if a.1=2 then Num.aB f.aF.toNat else if a.1=3 then Num.aB (fieldAt f a.2)
 else if a.1=4 then Num.aB f.data.size++f.data.data.toList else iG f.ranges
def dV(k:Int):bY:=
 if k=1 then[(0,1)]else if k=2 then[(0,2),(5,0)]else if k=3 then[(0,36),(2,0),(3,279),(3,280)]else if k=4 then[(1,0),(2,0),(3,279),(4,0)]else if k=5 then[(0,16),(3,283)]else if k=6 then[(0,17),(2,0),(3,283)]else if k=7 then[(0,48),(3,284),(3,285),(4,0)]else[(0,28),(3,283)]
def bf(f:Fr):List UInt8:=fK ((dV f.aD).map (fu f)) (dV f.aD).length
def ND(f:Fr)(a:Nat×Nat):Prop:=
 (a.1=0/\a.2<256)\/a.1=1\/a.1=2\/(a.1=3/\(a.2=279\/a.2=280\/a.2=283\/a.2=284\/a.2=285))\/a.1=4\/(a.1=5/\tN f.ranges=true)
structure Fit (f:Fr):Prop where
 s0:0<=f.aF
 s8:f.aF<8
 n0:f.aC<=dH
 n1:f.aO<=dH
 n2:f.aN<=dH
 n3:f.id<=dH
 n4:f.aJ<=dH
def uO(f)(h:snd f=true):Fit f/\1<=f.aD/\f.aD<=8/\oI f=true:=by unfold snd rY at h;simp only[iY]at h;obtain⟨⟨⟨j,⟨⟨⟨⟨c,d⟩,e⟩,g⟩,i⟩⟩,k⟩,l⟩:=h;have a:=of_decide_eq_true j;have b:=of_decide_eq_true k;exact⟨⟨b.1,b.2,of_decide_eq_true c,of_decide_eq_true d,of_decide_eq_true e,of_decide_eq_true g,of_decide_eq_true i⟩,a.1,a.2,l⟩
theorem Ui{s d t u}(v:kF B0 s d t u)(b a f l j)(m:Fit f)(n:ND f d)(x:f.ranges.length<=j):Wr B0 s.heap.size s t (fu f d) b a f l j:=by
 unfold fu;rcases v with⟨h,o,i,g,_⟩|⟨h,g,_⟩|⟨h,g,_⟩|⟨h,o,i,g,_⟩|⟨h,g,_⟩|⟨h,g,_⟩
 .rw[dN h,g];have r:d.2<256:=by rcases n with e|e|e|e|e|e<;>omega
  exact YP o (UInt8.ofNat d.2) b a f l j i.1 (iq _ _ i.2) (by rw[qk7 r];exact i.2)
 .rw[b_ aj,dN h,g];grind [Ld]
 .rw[b_ aj,b_ aj,dN h,g];exact VI b a f l j m.s0 m.s8
 .rw[b_ aj,b_ aj,b_ aj,dN h,g];have q:d.2=279\/d.2=280\/d.2=283\/d.2=284\/d.2=285:=by
   rcases n with e|e|e|e|e|e;.omega
   .omega
   .omega
   .exact e.2
   .omega
   .omega
  have p:=iq _ _ i.2;have c:=i.2;rcases q with e|e|e|e|e;.rw[e]at c ⊢;exact tQ o 279 2 f.aC b a f l j i.1 p c (enters_of func279 bZ rfl) (Fv b a) (fun w k=>k.c2) m.n0
  .rw[e]at c ⊢;exact tQ o 280 3 f.aO b a f l j i.1 p c (enters_of func280 bZ rfl) (AV b a) (fun w k=>k.c3) m.n1
  .rw[e]at c ⊢;exact tQ o 283 4 f.aN b a f l j i.1 p c (enters_of func283 bZ rfl) (JG b a) (fun w k=>k.c4) m.n2
  .rw[e]at c ⊢;exact tQ o 284 6 f.id b a f l j i.1 p c (enters_of func284 bZ rfl) (YS b a) (fun w k=>k.c6) m.n3
  .rw[e]at c ⊢;exact tQ o 285 7 f.aJ b a f l j i.1 p c (enters_of func285 bZ rfl) (AX b a) (fun w k=>k.c7) m.n4
 .rw[b_ aj,b_ aj,b_ aj,b_ aj,dN h,g];exact qew b a f l j
 .rw[b_ aj,b_ aj,b_ aj,b_ aj,b_ aj,g];have y:tN f.ranges=true:=by
   rcases n with e|e|e|e|e|e;.omega
   .omega
   .omega
   .omega
   .omega
   .exact e.2
  grind [VJ]
theorem qkc{d a r}(w:YR B0 d a r v)(i:a.length<=100)(b l f u q)(C:Fit f)(x:∀t∈a,ND f t)(z:f.ranges.length<=q)(k:0<a.length):Wr B0 d.heap.size d r (fK (a.map (fu f)) a.length) b l f u q:=by
 obtain⟨A,m,rfl,_,o,y,p⟩:=w;have g:∃c n:Nat->Wx,∀j,j<a.length->d.cell? (aA m (j*2))=some (c j)/\d.cell? (aA m (j*2+1))=some (n j)/\kF B0 d (a.getD j (0,0)) (c j) (n j):=by refine⟨fun j=>(d.cell? (aA m (j*2))).getD undef,fun j=>(d.cell? (aA m (j*2+1))).getD undef,fun j e=>?_⟩;grind
 obtain⟨c,n,hF⟩:=g;have s:∀j,j<a.length->a.getD j (0,0)∈a:=fun j e=>by grind
 refine QX A m a.length c n _ b l f u q i o.1 (iq _ _ o.2) y (iq _ _ (hF 0 k).1) o.2 (fun j e=>⟨(hF j e).1,(hF j e).2.1⟩) (fun j e=>?_) (fun j e=>?_);.rcases(hF j e).2.2 with⟨_,B,_,_,h⟩|⟨_,_,h⟩|⟨_,_,h⟩|⟨_,B,_,_,h⟩|⟨_,_,h⟩|⟨_,_,h⟩<;>exact⟨_,_,h⟩
 grind [Ui,fu]
def NU(B0:Nat)(w:Wq)(k:Int)(b a:Wx):Prop:=k=1/\kF B0 w (0,1) b a\/k≠1/\YR B0 w (dV k) b a
def qfa(w):Calls prog 217 #[iZ 1] w fun e n=>∃m l,e=.returned (.agg #[m,l])/\kF (w.heap.size+1) n (0,1) m l/\bJ w n:=by
 go_enter wT,wR;go_wp2_with fail;refine(lU 1 _ rfl _).mono ?_;rintro e u ⟨s,r,rfl,a,c⟩;have k:Hid (Below (w.heap.size+1) (w.alloc (.cells #[.nilFunc,.nilFunc] 318)) u):=c.mono aR;have o:=aG (a.mono (B0:=w.heap.size+1) aR);obtain⟨p,q,x,y⟩:=nE k.out;have d:∃i f j g,s=.func (.func i) #[] f/\r=.func (.func j) #[] g:=by rcases a with⟨_,t,_,h,b⟩|⟨_,h,b⟩|⟨_,h,b⟩|⟨_,t,_,h,b⟩|⟨_,h,b⟩|⟨_,h,b⟩<;>exact⟨_,_,_,_,h,b⟩
 obtain⟨i,f,j,g,rfl,rfl⟩:=d;clear a c;go_wp2_with fail;obtain⟨f1,f2⟩:=nD k.out (.func (.func i) #[] f) (.func (.func j) #[] g);exact bodyPost_ret (v:=.agg #[.func (.func i) #[] f,.func (.func j) #[] g]) (by simp[results,wQ,go_sem,p,q]) rfl ⟨_,_,rfl,o.out.of f2,f1⟩
def uS(k)(c:1<=k)(i:k<=8)(w):Calls prog 217 #[iZ k] w fun e g=>∃b a,e=.returned (.agg #[b,a])/\NU (w.heap.size+1) g k b a/\bJ w g:=by
 have h:k=1\/k=2\/k=3\/k=4\/k=5\/k=6\/k=7\/k=8:=aj;rcases h with rfl|rfl|rfl|rfl|rfl|rfl|rfl|rfl;.exact(qfa w).mono (fun e g ⟨b,a,c,d,f⟩=>⟨b,a,c,.inl ⟨rfl,d⟩,f⟩)
 .exact(qey w).mono (fun e g ⟨b,a,c,d,f⟩=>⟨b,a,c,.inr ⟨kX,d⟩,f⟩)
 .exact(qez w).mono (fun e g ⟨b,a,c,d,f⟩=>⟨b,a,c,.inr ⟨kX,d⟩,f⟩)
 .exact(qf0 w).mono (fun e g ⟨b,a,c,d,f⟩=>⟨b,a,c,.inr ⟨kX,d⟩,f⟩)
 .exact(qf1 w).mono (fun e g ⟨b,a,c,d,f⟩=>⟨b,a,c,.inr ⟨kX,d⟩,f⟩)
 .exact(qf2 w).mono (fun e g ⟨b,a,c,d,f⟩=>⟨b,a,c,.inr ⟨kX,d⟩,f⟩)
 .exact(qf3 w).mono (fun e g ⟨b,a,c,d,f⟩=>⟨b,a,c,.inr ⟨kX,d⟩,f⟩)
 .exact(qf4 w).mono (fun e g ⟨b,a,c,d,f⟩=>⟨b,a,c,.inr ⟨kX,d⟩,f⟩)
theorem Us(f)(h:snd f=true):∀t∈dV f.aD,ND f t:=by
 obtain⟨_,c,d,b⟩:=uO f h;have h:f.aD=1\/f.aD=2\/f.aD=3\/f.aD=4\/f.aD=5\/f.aD=6\/f.aD=7\/f.aD=8:=aj;intro t a;unfold ND;rcases h with e|e|e|e|e|e|e|e;.grind [dV]
 .rw[e,show dV 2=[(0,2),(5,0)]from rfl]at a;have g:tN f.ranges=true:=by unfold oI at b;grind
  grind
 .grind [dV]
 .grind [dV]
 .grind [dV]
 .grind [dV]
 .rw[e,show dV 7=[(0,48),(3,284),(3,285),(4,0)]from rfl]at a;grind
 .rw[e,show dV 8=[(0,28),(3,283)]from rfl]at a;grind
theorem A_(k):0<(dV k).length/\(dV k).length<=100:=by grind [dV]
theorem Ut{j k m}(f)(g:NU B0 j f.aD k m)(h:snd f=true)(b a i d)(c:f.ranges.length<=d):Wr B0 j.heap.size j k (bf f) b a f i d:=by
 obtain⟨l,_⟩:=uO f h;rcases g with⟨e,n⟩|⟨_,g⟩
 .have:=Ui n b a f i d l (.inl ⟨rfl,kX⟩) c;have o:bf f=fu f (0,1):=by
   unfold bf;rw[e,show dV 1=[(0,1)]from rfl];rfl
  grind
 .exact qkc g (A_ _).2 b a f i d l (Us f h) c (A_ _).1
def jv:Fr:=⟨0,0,0,0,0,false,0,0,⟨#[]⟩,[]⟩
def ru(w:Wq)(f:Option XK)(c:List Fr)(d:Nat->Option XK)(e:Nat->Nat):Prop:=
 ∀j,j<c.length->∃b a,f=some (aA b a)/\rX w b (a+j*10) (c.getD j jv) (d j) (e j)/\(c.getD j jv).ranges.length<=e j/\∀x,d j=some x->x.block<w.heap.size
def ru.below{w w' c d f g}(h:ru w c d f g)(e:bJ w w'):ru w' c d f g:=fun j n=>by obtain⟨b,a,m,i,k,l⟩:=h j n;exact⟨b,a,m,i.below e,k,fun x o=>gK (l x o) e.size⟩
def vT(n:Nat)(a:List Fr):Bool:=a.all snd&&decide (n<=dH)&&decide (0<a.length)
theorem FJ(a:List Fr):a.all snd=true↔∀i,i<a.length->snd (a.getD i jv)=true:=by grind [List.all_eq_true,List.getElem?_eq_getElem,List.getElem_mem,List.mem_iff_getElem]
theorem En(n:Nat){x a}(y J K w)(U:a.length<=1000000000)(V:n<18446744073709551616)(hF:ru w x a J K):bN 219 #[.agg #[uZ n,.slice x a.length y]] w (.bool (vT n a)) fun Q=>bJ w Q:=by
 have N:=aG hF;have m:Hid (vT n a=(a.all snd&&decide (n<=dH)&&decide (0<a.length))):=rfl;have P:=aG (FJ a);clear hF;go_enter func219,ntmps219;go_wp2_with fail;go_loopw [7] (fun F wr=>∃k:Nat,k<=a.length/\F=(iZ k)/\Hid (∀i,i<k->snd (a.getD i jv)=true)/\Hid (Below (w.heap.size+1) (w.alloc (.cells #[uZ n,.slice x a.length y] 56)) wr)) (fun F _=>a.length-(mI F).toNat);case atStart=>exact⟨0,eG _,rfl,fun i H=>absurd H (jZ _),bP _ _⟩
 case round=>
  obtain⟨k,T,rfl,r,t⟩:=hrel;have q:=(aS.new w 56 [uZ n,.slice x a.length y]).of_heap (t.out.block _ aj);have R:=q.cell 0;have S:=q.cell 1;have f:Hid (bJ w wr):=((bP _ w).alloc (aI _) _).trans (t.out.mono aj);have W:w.heap.size+1<=wr.heap.size:=by have:=t.out.size;simpa using this
  clear q;simp only[jh,gN]at R S;by_cases C:k<a.length
  .have I:(k:Int)<(a.length:Int):=aj;obtain⟨b,s,O,M,_⟩:=N.out.below f.out k C;subst O;have G:=aG (wX (s+k*10) (a.getD k jv) (J k) (K k) M);have c:snd (a.getD k jv)=true->Hid (∀i,i<k+1->snd (a.getD i jv)=true):=fun h i H=>by
    by_cases e:i=k;.grind
    .exact r.out i aj
   have j:snd (a.getD k jv)=false->Hid (vT n a=false):=fun h=>by
    have:a.all snd=false:=by grind
    rw[m.out,this];rfl
   have u:=aG c;have d:=aG j;clear c j M;generalize snd (a.getD k jv)=B at G u d;go_wp2_with fail;refine bK G.out ?_;rintro L o;have z:Hid (Below (w.heap.size+1) (w.alloc (.cells #[uZ n,.slice (some (aA b s)) a.length y] 56)) L):=t.out.trans (o.mono aj);have E:Hid (bJ w L):=f.out.trans (o.mono aj);clear o;cases B;.have A:=d.out rfl;clear u d;go_wp2;go_ret;exact⟨dQ A.out.symm,E.out⟩
   .have A:=u.out rfl;clear u d;go_wp2;go_roundw;case rel=>exact⟨k+1,aj,by go_num,A,z⟩
    case measure=>simp[mI];omega
  .obtain rfl:k=a.length:=aj;have g:=P.out.2 r.out;have v:Hid (vT n a=(decide (n<=dH)&&decide (0<a.length))):=by rw[m.out,g];rfl
   clear g m;by_cases p:n<=dH
   .have D:(n:Int)<=4611686018427387903:=by unfold dH at p;omega
    have l:Hid (vT n a=decide (0<a.length)):=by rw[v.out,decide_eq_true p];rfl
    clear v;go_wp2;go_ret;exact⟨dQ (by rw[l.out,decide_eq_decide]),f.out⟩
   .have D:decide ((n:Int)<=4611686018427387903)=false:=by grind [dH]
    have l:Hid (vT n a=false):=by rw[v.out,decide_eq_false p];rfl
    clear v;go_wp2;go_ret;exact⟨dQ l.out.symm,f.out⟩
def iy(n:Nat)(a:List Fr):Nat->List UInt8
 |0=>Num.aB n
 |k+1=>iy n a k++bf (a.getD k jv)
def gM(n:Nat)(a:List Fr):List UInt8:=iy n a a.length
def bT(n:Nat)(a:List Fr):List UInt8:=gM n a++jO (gM n a)
theorem DN(n a):∀(m k),k<=m->(iy n a k).length<=(iy n a m).length
 |0,k,h=>by grind
 |m+1,k,h=>by
  by_cases e:k=m+1;.grind
  .have:=DN n a m k aj;grind [iy,fA]
def Own(B:Nat)(v:Wx):Prop:=∀k,v.ownBlock=some k->B<=k
def Own.nil(B):Own B nZ:=fun k a=>by simp[Value.ownBlock]at a
def Gr.own(h:Gr w w' v v')(b:Own B v)(c:B<=w.heap.size):Own B v':=fun k a=>by
 rcases h.2 k a with e|e;.exact b k e
 .omega
def Gr.below(h:Gr w w' v v')(a:Own B v)(b:B<=w.heap.size):Below B w w':=
 ⟨h.1.os,h.1.tape,h.1.output,h.1.size,fun k c=>h.1.block k aj (fun e=>fT (a k e.symm))⟩
def mM.below(h:mM w)(a:Below B w w')(c:2<=B):mM w':=fun k b=>cell_of (h k b) (a.block 1 aj)
def qn3(a b:Nat)(c d w):(Instr.field 318 (.agg #[.func (.func a) #[] c,.func (.func b) #[] d]) 0).run prog w=.ok (.func (.func a) #[] c) w:=bZ
def qpk(a b:Nat)(c d w):(Instr.field 318 (.agg #[.func (.func a) #[] c,.func (.func b) #[] d]) 1).run prog w=.ok (.func (.func b) #[] d) w:=bZ
def kF.shape{b d c}(h:kF B0 w b d c):∃g e i f,d=.func (.func g) #[] e/\c=.func (.func i) #[] f:=by rcases h with⟨_,j,_,h,a⟩|⟨_,h,a⟩|⟨_,h,a⟩|⟨_,j,_,h,a⟩|⟨_,h,a⟩|⟨_,h,a⟩<;>exact⟨_,_,_,_,h,a⟩
theorem NU.shape{B0 w k b a}(h:NU B0 w k b a):∃e c f d,b=.func (.func e) #[] c/\a=.func (.func f) #[] d:=by
 rcases h with⟨_,h⟩|⟨_,pb,qb,h,h2,_⟩;.exact h.shape
 grind
theorem FK(n){S}(a T ra rc)(hl:a.length<=1000000000)(hF:ru w S a ra rc)(hS:vT n a=true)(hT:mM w)(h2:2<=w.heap.size)(i:(gM n a).length<=1000000000):Calls prog 167 #[.agg #[uZ n,.slice S a.length T]] w fun e f=>∃v,e=.returned (.tuple #[v,.nilIface])/\nT f v (bT n a)/\Own w.heap.size v/\bJ w f:=by
 have o:=hS;unfold vT at o;rw[iY,iY]at o;have hn:=of_decide_eq_true o.1.2;have h8:=(FJ a).1 o.1.1;unfold dH at hn;have HS:=aG (En n T ra rc (w.alloc (.cells #[uZ n,.slice S a.length T] 56)) hl aj (hF.below ((bP _ w).alloc (aI _) _)));rw[hS]at HS;have HF:=aG hF;have hu:=aG h8;have HT:=aG hT;have JB:=aG (DN n a a.length);have u:Hid ((iy n a a.length).length<=1000000000):=i;have he:Hid (bT n a=iy n a a.length++jO (iy n a a.length)):=rfl;have R:Hid (∀k,iy n a (k+1)=iy n a k++bf (a.getD k jv)):=fun _=>rfl;have HZ:Hid (iy n a 0=Num.aB n):=rfl;have h4:n<4611686018427387904:=aj;have HN:=aG h4;clear hS o hF h8 hT i hn h4;go_enter func167,ntmps167;go_wp2_with fail;refine bK HS.out ?_;rintro w2 t;obtain⟨I,s⟩:=bU (w.alloc (.cells #[uZ n,.slice S a.length T] 56));have H:I.heap.size=w.heap.size+1:=by rw[s];simp
 have r:aS I w.heap.size 56 [uZ n,.slice S a.length T]:=by grind [aS.new]
 have c:bJ w I:=by rw[s];exact(bP _ w).alloc (aI _) _
 rw[<-s]at t;have p:=r.of_heap (t.block _ aj);have x0:=p.cell 0;simp only[jh]at x0;have HA:=aG (fI nZ [] n (nT.nil w2) HN.out aR);have HW:=aG (dz H (dz r c));have E:=aG t;clear t p r c s H;go_wp2_with fail;refine HA.out.mono ?_;rintro e w3 ⟨v3,rfl,K,L⟩;obtain⟨H,r,c⟩:=HW.out;have M:=E.out.trans (L.below (Own.nil _) E.out.size);have X:=L.own (Own.nil _) E.out.size;rw[pJ,<-HZ.out]at K;have q:=r.of_heap (M.block _ aj);have y1:=q.cell 1;simp only[jh,gN]at y1;have HI:=aG (dz K (dz M X));clear K L M X q H r c x0;go_wp2_with fail;go_loopw [4,17] (fun s4 Rb wr=>∃k:Nat,k<=a.length/\Rb=(iZ k)/\Hid (nT wr s4 (iy n a k)/\bJ I wr/\Own I.heap.size s4)) (fun _ Rb _=>a.length-(mI Rb).toNat);case atStart=>grind
 case round=>
  clear HI y1 HA HS;obtain⟨k,hk,rfl,HI⟩:=hrel;by_cases h0:k<a.length
  .have hv:(k:Int)<(a.length:Int):=aj;obtain⟨J,A,z⟩:=HI.out;obtain⟨H,r,c⟩:=HW.out;have y:=c.trans (A.mono aj);obtain⟨b,h7,ha,zO,h5,hr⟩:=HF.out k h0;have O:=zO.below y;subst ha;have N:=hu.out k h0;obtain⟨_,Z,Ao,_⟩:=uO _ N;have c0:=O.c0;have hw:b<w.heap.size:=iq _ _ zO.c0;have B:=r.of_heap (A.block _ aj);have y1:=B.cell 1;simp only[jh,gN]at y1;have Rh:=aG (uS _ Z Ao wr);have h6:∀(P:Wq) (U fr:Wx),NU (wr.heap.size+1) P (a.getD k jv).aD U fr->bJ wr P->∃g Q,U=.func (.func g) #[] Q/\(∀args w,(callFunc g args).run prog w=.ok (.enter g args) w)/\Calls prog g (#[u4,(aK b (h7+k*10))]++Q) P fun e f=>∃l,e=.returned l/\nT f l (iy n a (k+1))/\bJ I f/\Own I.heap.size l:=by
    intro P U fr W D;obtain⟨g,Q,h1,h2,h3⟩:=Ut _ W N b (h7+k*10) (ra k) (rc k) h5;refine⟨g,Q,h1,h2,?_⟩;have i:=JB.out (k+1) aj;have x2:=u.out;rw[R.out,lM]at i;have hf:=A.size;have x3:=D.size;refine(h3 P u4 (iy n a k) ⟨⟨aI _,fun _ _ _=>rfl⟩,J.of_heap (fun j Y=>D.block j (J.lt j Y)),fun j Y=>.inl (fT (J.lt j Y)),O.below D,fun e=>fT (z _ e),fun x hx e=>by have:=z _ e;grind,fun x hx=>by grind⟩ aj).mono ?_;rintro e f ⟨l,rfl,m,d⟩;exact⟨l,rfl,by rw[R.out];exact m,(A.trans (D.mono hf)).trans (d.below z aj),d.own z aj⟩
   have G:=aG h6;clear h6 J A z y zO O N B r c Z Ao h5 hr;generalize a.getD k jv=F at c0 Rh G;go_wp2_with fail;refine Rh.out.mono ?_;rintro e P ⟨U,fr,rfl,W,D⟩;obtain⟨_,_,g2,VK,_,hg⟩:=W.shape;subst hg;obtain⟨g,Q,ho,eg,hC⟩:=G.out P U _ W D;subst ho;have HC:=aG hC;have hy:=qn3 g g2 Q VK;clear hC W D G;go_wp2_with fail;refine HC.out.mono ?_;rintro e f ⟨l,rfl,V⟩;have hc:=aG V;clear V;go_wp2_with fail;go_roundw;case rel=>exact⟨k+1,aj,by go_num,hc⟩
   case measure=>simp[mI];omega
  .obtain rfl:k=a.length:=aj;obtain⟨J,A,z⟩:=HI.out;obtain⟨H,r,c⟩:=HW.out;have y:=c.trans (A.mono aj);have h9:=aG (I9 J (HT.out.below y h2) u.out);have C:∀f l,nT f l (iy n a a.length++jO (iy n a a.length))->Gr wr f u4 l->nT f l (bT n a)/\Own w.heap.size l/\bJ w f:=fun f l m d=>by
    have NW:Own w.heap.size u4:=fun j Y=>fT (z j Y);exact⟨by rw[he.out];exact m,d.own NW y.size,y.trans (d.below NW y.size)⟩
   have oh:=aG C;clear C J A z y r c H;go_wp2_with fail;refine h9.out.mono ?_;rintro e f ⟨l,rfl,m,d⟩;have HR:=aG (oh.out f l m d);clear m d;go_wp2;go_ret2;exact⟨_,rfl,HR.out⟩
end Go.Proofs.YtphbledmopchnaaGreatDoor
namespace Go.Proofs.YtphbledmopchnaaGreatDoor.Sd
open St Tryz
variable {f:Fr}{k:Nat}
def md{α:Type}:List α->Nat->(α->α)->List α
 |[],_,_=>[]
 |a::t,0,f=>f a::t
 |a::t,k+1,f=>a::md t k f
theorem jD{α}:∀(l) (k) (f:α->α),(md l k f).length=l.length
 |[],_,_=>rfl
 |_::_,0,_=>rfl
 |_::t,k+1,f=>congrArg (·+1) (jD t k f)
def Lr{α}(d):∀(l) (k) (f:α->α),k<l.length->(md l k f).getD k d=f (l.getD k d)
 |[],_,_,h=>by simp at h
 |_::_,0,_,_=>rfl
 |_::t,k+1,f,h=>by simpa[md]using Lr d t k f (by simpa using h)
def YT{α}(d):∀(l) (k j) (f:α->α),j≠k->(md l k f).getD j d=l.getD j d
 |[],_,_,_,_=>rfl
 |_::_,0,0,_,h=>absurd rfl h
 |_::_,0,j+1,_,_=>rfl
 |_::_,k+1,0,_,_=>rfl
 |_::t,k+1,j+1,f,h=>by simpa[md]using YT d t k j f aj
def UT:Nat:=18446744073709551615
structure Gn where
 ahead:Nat
 eF:Nat
 eH:Nat
 aT:Nat
def Gn.new(n:Nat):Gn:=⟨n,n,0,n⟩
def Gn.jI(g:Gn)(a:Nat):Nat:=min (a+g.ahead) dH
def Gn.aL(g:Gn)(a:Nat):Bool:=decide (max g.eH g.aT<g.jI a)
def Gn.aw(g:Gn)(x:Nat):Gn:={g with eH:=max g.eH x}
def Gn.cm(g:Gn)(x:Nat):Gn:={g with aT:=max g.aT x}
def Gn.kY(g:Gn):Gn:={g with eH:=0}
def lV(aD:Int)(k:Nat)(x:Nat):Fr:=⟨aD,(k:Int),0,0,x,false,0,0,⟨#[]⟩,[]⟩
def Gn.next(g:Gn)(aD:Int)(k:Nat)(a:Nat)(b:Int):Option (Fr×Gn):=
 if b<((bf (lV aD k (g.jI a))).length:Int)then none
 else some (lV aD k (g.jI a),({g with eF:=g.jI a}:Gn).aw (g.jI a))
structure Nt where
 bG:Bool
 aC:Nat
 eH:Nat
 aT:Nat
def Nt.aL(n:Nt)(r:Nat):Bool:=n.bG&&decide (r<min n.eH n.aT)
def Nt.aw(n:Nt)(x:Nat):Nt:={n with eH:=min n.eH x}
def Nt.cm(n:Nt)(x:Nat):Nt:={n with aT:=min n.aT x}
def Nt.kY(n:Nt):Nt:={n with eH:=UT}
def Nt.AZ(n:Nt)(o:Nat):Nt:=if n.bG then n else⟨true,o,UT,UT⟩
def ou(k o r:Nat):Fr:=⟨3,(k:Int),o,r,0,false,0,0,⟨#[]⟩,[]⟩
def Nt.next(n:Nt)(k r:Nat)(a:Int):Option (Fr×Nt):=
 if a<((bf (ou k n.aC r)).length:Int)then none else some (ou k n.aC r,n.aw r)
structure NS where
 fl:Nat
 rs:bY
def NS.add(a:Nat)(s:NS)(c b:Nat):NS:=⟨(Rg.add a s.fl s.rs c b).1,(Rg.add a s.fl s.rs c b).2⟩
def NS.has(s:NS)(n:Nat):Bool:=decide (n<s.fl)||Rg.has n s.rs
def iN:Nat->bY->Nat->Nat×Nat
 |lo,[],e=>(lo,e)
 |lo,r::t,e=>if lo<r.1 then(lo,min r.1 e)else if e<=r.2 then(e,e)else iN (r.2+1) t e
def NS.hole(s:NS)(e:Nat):Nat×Nat:=iN s.fl s.rs e
structure Ot where
 aB:List UInt8
 bL:Bool
 nt:Nt
 aN:Nat
 dI:Nat
 eH:NS
 aT:NS
 all:List UInt8
def Ot.new(aN:Nat):Ot:=⟨[],false,⟨false,0,0,0⟩,aN,0,⟨0,[]⟩,⟨0,[]⟩,[]⟩
def Ot.closed(o:Ot):Bool:=o.bL||o.nt.bG
def Ot.send(o:Ot)(b:List UInt8):Ot×Nat:=
 if o.closed then(o,4)else if 2048<o.aB.length+b.length then(o,3)else({o with aB:=o.aB++b,all:=o.all++b},0)
def Ot.finish(o:Ot):Ot×Nat:=if o.closed then(o,4)else({o with bL:=true},0)
def Ot.reset(o:Ot)(a:Int):Ot:=
 let n:=min (max a 0).toNat o.aB.length
 {o with aB:=o.aB.take n,nt:=o.nt.AZ (max o.dI n)}
def Ot.reach(o:Ot)(a:Nat):Nat:=min (min o.aB.length o.aN) (o.dI+a)
def Ot.iH(o:Ot)(e:Nat):Bool:=o.bL&& !o.nt.bG&&decide (e=o.aB.length)
def Ot.dF(o:Ot)(a:Nat):Nat×Nat:=
 o.eH.hole (if o.iH (o.reach a)then o.reach a+1 else o.reach a)
def Ot.aL(o:Ot)(a:Nat):Bool:=decide ((o.dF a).1<(o.dF a).2)
def bI(f:Fr):Nat:=f.aC+f.data.size
def vG(s:NS)(f:Fr):NS:=s.add 2049 f.aC (if f.bL then bI f else bI f-1)
def Ot.aw(o:Ot)(f:Fr):Ot:={o with eH:=vG o.eH f}
def Ot.cm(o:Ot)(f:Fr):Ot:={o with aT:=vG o.aT f,eH:=vG o.eH f}
def Ot.kY(o:Ot):Ot:={o with eH:=o.aT}
def pK(f:Fr)(b:List UInt8)(a:Int):Option Fr:=
 if a<((bf f).length:Int)then none
 else
  let r:=(a-((bf f).length:Int)).toNat
  let n:=min b.length r
  some {f with data:=⟨(b.take (min n (r-((Num.aB n).length-1)))).toArray⟩}
def qH(k a:Nat):Fr:=⟨4,(k:Int),a,0,0,false,0,0,⟨#[]⟩,[]⟩
def Ot.next(o:Ot)(k:Nat)(b:Int)(a:Nat):Option (Fr×Ot):=
 let lo:=(o.dF a).1
 let hi:=min (o.dF a).2 o.aB.length
 match pK (qH k lo) ((o.aB.take hi).drop lo) b with
 |none=>none
 |some f=>
  if lo<hi/\f.data.size=0 then none
  else
   let g:Fr:={f with bL:=o.iH (bI f)}
   some (g,({o with dI:=max o.dI (bI f)}:Ot).aw g)
structure dP where
 gr:Gn
 aY:Nat
 bO:List UInt8
 aT:List Bool
 fq:Nat
 cB:Bool
 h_:Nat
 bG:Bool
 rel:Nat
 state:Nat
def dP.new(n:Nat):dP:=⟨Gn.new n,0,[],[],0,false,0,false,0,0⟩
def dP.aP(i:dP):Nat:=if i.state=2 then i.h_ else i.aY
def dP.wanted(i:dP):Nat:=if i.bG then i.rel else if i.cB then i.h_ else dH
def dP.refuse(i:dP)(f:Fr):Nat:=
 if i.cB/\i.h_<bI f\/i.cB/\f.bL/\bI f≠i.h_\/f.bL/\bI f<i.fq then 10 else if i.gr.eF<bI f then 9 else 0
def eP:List UInt8->Nat->List UInt8->List Bool->List UInt8×List Bool
 |[],_,h,c=>(h,c)
 |x::t,i,h,c=>if c.getD i false then eP t (i+1) h c else eP t (i+1) (h.set i x) (c.set i true)
def dP.hold(i:dP)(a:Nat)(d:List UInt8):dP:=
 let more:=a-i.aY+d.length-i.bO.length
 let x:=eP d (a-i.aY) (i.bO++eT more 0) (i.aT++eT more false)
 {i with bO:=x.1,aT:=x.2}
def dP.take(i:dP)(f:Fr):dP:=
 let i1:dP:={i with fq:=max i.fq (bI f),cB:=i.cB||f.bL,h_:=if f.bL then bI f else i.h_}
 let lo:=max f.aC i1.aY
 let hi:=min (bI f) i1.wanted
 if lo<hi then i1.hold lo ((f.data.data.toList.take (hi-f.aC)).drop (lo-f.aC))else i1
def dP.nX(i:dP)(f:Fr):Nat:=if i.cB/\i.h_≠f.aC\/f.aC<i.fq then 10 else 0
def dP.gH(i:dP)(f:Fr):dP:=
 let r:=min i.wanted f.aO
 let n:=min i.bO.length (r-min r i.aY)
 {i with rel:=r,bG:=true,cB:=true,h_:=f.aC,bO:=i.bO.take n,aT:=i.aT.take n}
def dP.ready(i:dP):Nat:=(i.aT.takeWhile id).length
def dP.cut(i:dP)(n:Nat):dP:={i with bO:=i.bO.drop n,aT:=i.aT.drop n,aY:=i.aY+n}
def dP.iO(i:dP):Nat:=if i.cB=false\/i.aY<i.wanted then 0 else if i.bG then 2 else 1
def dP.rd(i:dP)(a:Int):List UInt8×dP:=
 let n:=min i.ready (max a 0).toNat
 let j:=i.cut n
 (i.bO.take n,{j with state:=if j.state=0 then j.iO else j.state})
def dP.fF(i:dP):Bool:= !(i.cB&&decide (i.wanted<=i.fq))&&i.gr.aL i.aP
structure sS where
 bQ:List Fr
 aV:Nat
def vR:Ot:=Ot.new 0
def xk:dP:=dP.new 0
structure av where
 aZ:Nat
 aW:Nat
 bE:Nat
 aV:Nat
 outs:List Ot
 ins:List dP
 aN:Nat
 gr:Gn
 aT:NS
 bn:Bool
 next:Nat
 aM:List (Nat×sS)
 bV:List (Nat×sS)
 named:Nat
 aQ:List Fr
 least:Nat
 gy:List (Nat×ByteArray)
 dK:Nat
 taken:List Nat
 mY:Nat
 parted:Bool
 qv:Wx
 iv:Wx
def av.new(c a b:Nat):av:=
 ⟨c,a,b,0,eT 8 (Ot.new a),eT 8 (dP.new a),b,Gn.new b,⟨0,[]⟩,false,0,[],[],0,[],0,[],0,[],0,false,nZ,nZ⟩
def av.out(M:av)(k:Nat):Ot:=M.outs.getD k vR
def av.bH(M:av)(k:Nat):dP:=M.ins.getD k xk
def av.dA(M:av)(k:Nat)(o:Ot):av:={M with outs:=md M.outs k fun _=>o}
def av.eZ(M:av)(k:Nat)(i:dP):av:={M with ins:=md M.ins k fun _=>i}
def av.aP(M:av):Nat:=M.ins.foldl (fun s i=>min (s+i.aP) dH) 0
def av.pO(M:av):Nat:=(M.outs.map Ot.dI).sum
def av.aU(M:av):Nat:=M.aN-M.pO
def av.full(M:av):Bool:=decide (12<=M.aM.length)
def av.jc(M:av):Nat:=match M.aQ with
 |[]=>0
 |f::_=>(bf f).length
def iT(rs:bY):Fr:=⟨2,0,0,0,0,false,0,0,⟨#[]⟩,rs⟩
def gV(a:bY)(b:Int):Nat->Nat
 |0=>0
 |n+1=>if((bf (iT (a.take (n+1)))).length:Int)<=b then n+1 else gV a b n
def av.aL(M:av)(a:bY)(u:Nat):Bool:=
 if u=0 then decide (0<a.length)
 else !M.full&&(if u=8 then M.gr.aL M.aP else if u<24 then(M.bH (u-16)).fF else if u<32 then(M.out (u-24)).nt.aL (M.out (u-24)).aB.length
  else if u=32 then decide (0<M.aQ.length)else(M.out (u-40)).aL M.aU)
def qtl:Wx->Wx
 |.slice a n c=>.slice a (n-1) c
 |v=>v
def av.frame(M:av)(a:bY)(u:Nat)(b:Int):Option (Fr×av×bY):=
 if u=0 then
  (if gV a b a.length=0 then none else some (iT (a.take (gV a b a.length)),M,a.drop (gV a b a.length)))
 else if u=8 then(M.gr.next 5 0 M.aP (b-M.jc)).map fun x=>(x.1,{M with gr:=x.2},a)
 else if u<24 then((M.bH (u-16)).gr.next 6 (u-16) (M.bH (u-16)).aP (b-M.jc)).map fun x=>(x.1,M.eZ (u-16) {M.bH (u-16)with gr:=x.2},a)
 else if u<32 then((M.out (u-24)).nt.next (u-24) (M.out (u-24)).aB.length (b-M.jc)).map fun x=>(x.1,M.dA (u-24) {M.out (u-24)with nt:=x.2},a)
 else if u=32 then(if b<M.jc then none else M.aQ.head?.map fun f=>(f,{M with aQ:=M.aQ.tail,qv:=qtl M.qv},a))
 else((M.out (u-40)).next (u-40) b M.aU).map fun x=>(x.1,M.dA (u-40) x.2,a)
def kZ(u:Nat):Bool:=decide (8<=u)&&decide (u<32)
def sw(l:List Nat)(i j:Nat):List Nat:=(l.set i (l.getD j 0)).set j (l.getD i 0)
def El:Nat->List Nat->Nat->List Nat
 |0,l,_=>l
 |n+1,l,j=>if j=0\/¬l.getD j 0<l.getD ((j-1) / 2) 0 then l else El n (sw l ((j-1) / 2) j) ((j-1) / 2)
def lH:Nat->List Nat->Nat->Nat->List Nat
 |0,l,_,_=>l
 |k+1,l,i,n=>
  if n<=2*i+1 then l
  else
   let j:=if 2*i+2<n/\l.getD (2*i+2) 0<l.getD (2*i+1) 0 then 2*i+2 else 2*i+1
   if l.getD j 0<l.getD i 0 then lH k (sw l i j) j n else l
def eY(l:List Nat)(u:Nat):List Nat:=El (l.length+1) (l++[u]) l.length
def mO(l:List Nat):List Nat:=(lH l.length (sw l 0 (l.length-1)) 0 (l.length-1)).take (l.length-1)
def q0:List Nat:=eY ((fB 8).foldl (fun q k=>eY (eY (eY q (16+k)) (24+k)) (40+k)) (eY (eY [] 0) 8)) 32
def fV:Nat->av->bY->List Nat->List Nat->Int->List Fr->av×bY×List Nat×List Fr
 |0,M,aH,Q,later,_,l=>(M,aH,later.foldl eY Q,l)
 |n+1,M,aH,Q,later,au,l=>match Q with
  |[]=>(M,aH,later.foldl eY Q,l)
  |u::_=>
   if M.aL aH u then
    match M.frame aH u au with
    |some (f,M',dh)=>fV n M' dh Q later (au-((bf f).length:Int)) (l++[f])
    |none=>if kZ u then fV n M aH (mO Q) (later++[u]) au l else(M,aH,later.foldl eY Q,l)
   else fV n M aH (mO Q) later au l
def fill(M:av)(b:bY)(Q:List Nat)(a:Int):av×bY×List Nat×List Fr:=
 fV (Q.length+a.toNat+1) M b Q [] a []
def fZ(a:List Fr):Bool:=a.any fun f=>decide (f.aD≠2)
def again(a:List Fr):List Fr:=a.filter fun f=> !(decide (f.aD=2)||decide (f.aD=7)||decide (f.aD=8))
def av.au(M:av):Int:=(M.aZ:Int)-((Num.aB M.next).length:Int)-4
def av.eO(M:av)(a:List Fr):av:=
 {M with next:=M.next+1,aM:=if fZ a then M.aM++[(M.next,⟨again a,M.aV⟩)]else M.aM}
def gQ:Nat->av->bY->List Nat->List (Nat×List Fr)->av×List (Nat×List Fr)
 |0,M,_,_,l=>(M,l)
 |n+1,M,aH,Q,l=>
  if(fill M aH Q M.au).2.2.2=[]then((fill M aH Q M.au).1,l)
  else gQ n ((fill M aH Q M.au).1.eO (fill M aH Q M.au).2.2.2) (fill M aH Q M.au).2.1 (fill M aH Q M.au).2.2.1 (l++[(M.next,(fill M aH Q M.au).2.2.2)])
def av.iU(M:av)(f:Fr):av:=
 if f.aD=4 then M.dA f.aF.toNat ((M.out f.aF.toNat).aw f)
 else if f.aD=3 then M.dA f.aF.toNat {M.out f.aF.toNat with nt:=(M.out f.aF.toNat).nt.aw f.aO}
 else if f.aD=6 then M.eZ f.aF.toNat {M.bH f.aF.toNat with gr:=(M.bH f.aF.toNat).gr.aw f.aN}
 else{M with gr:=M.gr.aw f.aN}
def av.gJ(M:av)(f:Fr):av:=
 if f.aD=4 then M.dA f.aF.toNat ((M.out f.aF.toNat).cm f)
 else if f.aD=3 then M.dA f.aF.toNat {M.out f.aF.toNat with nt:=(M.out f.aF.toNat).nt.cm f.aO}
 else if f.aD=6 then M.eZ f.aF.toNat {M.bH f.aF.toNat with gr:=(M.bH f.aF.toNat).gr.cm f.aN}
 else{M with gr:=M.gr.cm f.aN}
def jN(o:Ot):Ot:={o.kY with nt:=o.nt.kY}
def iV(i:dP):dP:={i with gr:=i.gr.kY}
def bQ(l:List (Nat×sS)):List Fr:=l.flatMap fun x=>x.2.bQ
def av.g_(M:av)(x:Nat×sS):Bool:=decide (6<=M.aV-x.2.aV)||decide (x.1+3<M.named)
def av.kY(M:av):av:=
 if M.aM.any M.g_ then
  (bQ (M.aM.filter fun x=> !M.g_ x)).foldl av.iU
   {M with
    aM:=M.aM.filter fun x=> !M.g_ x
    bV:=(M.bV++M.aM.filter M.g_).filter fun x=> !decide (x.1+64<M.next)
    gr:=M.gr.kY
    outs:=M.outs.map jN
    ins:=M.ins.map iV}
 else M
def names(l:bY)(n:Nat):Bool:=l.any fun r=>decide (r.1<=n)&&decide (n<=r.2)
def av.land(M:av)(l:bY):av:=
 (bQ (M.aM.filter (fun x=>names l x.1))++bQ (M.bV.filter (fun x=>names l x.1))).foldl av.gJ
  {M with
   named:=max M.named ((l.getD 0 (0,0)).2+1)
   aM:=M.aM.filter fun x=> !names l x.1
   bV:=M.bV.filter fun x=> !names l x.1}
def Uk(x:Nat):Fr:=⟨8,0,0,0,x,false,0,0,⟨#[]⟩,[]⟩
def av.part(M:av):av×List (Nat×List Fr):=
 if M.parted\/M.mY=13 then(M,[])
 else({M with parted:=true}.eO [Uk (if M.mY=12 then 0 else M.mY)],[(M.next,[Uk (if M.mY=12 then 0 else M.mY)])])
def av.pQ(M:av)(f:Fr):av:=
 if f.aJ<M.aV\/f.id∈M.taken\/f.id+32<=M.dK then M
 else{M with gy:=M.gy++[(f.id,f.data)],dK:=max M.dK f.id,taken:=(f.id::M.taken).filter fun x=> !decide (x+32<=max M.dK f.id)}
def av.xq(M:av)(k e:Nat):Nat:=((fB 8).map fun j=>max (M.bH j).fq (if j=k then e else 0)).sum
def av.take(M:av)(f:Fr):av×Nat:=
 if f.aD=2 then(if M.next<=(f.ranges.getD 0 (0,0)).2 then(M,11)else(M.land f.ranges,0))
 else if f.aD=4 then
  (if(M.bH f.aF.toNat).refuse f≠0 then(M,(M.bH f.aF.toNat).refuse f)
  else if M.gr.eF<M.xq f.aF.toNat (bI f)then(M,9)
  else(M.eZ f.aF.toNat ((M.bH f.aF.toNat).take f),0))
 else if f.aD=3 then
  (if(M.bH f.aF.toNat).nX f≠0 then(M,(M.bH f.aF.toNat).nX f)else(M.eZ f.aF.toNat ((M.bH f.aF.toNat).gH f),0))
 else if f.aD=8 then(M,13)
 else if f.aD=7 then(M.pQ f,0)
 else if f.aD=5 then({M with aN:=max M.aN f.aN},0)
 else if f.aD=6 then(M.dA f.aF.toNat {M.out f.aF.toNat with aN:=max (M.out f.aF.toNat).aN f.aN},0)
 else(M,0)
def av.Ul(M:av):av:={M with aV:=M.aV+1,aQ:=M.aQ.filter fun f=> !decide (f.aJ<M.aV+1)}
theorem Um{α}:∀(l) (k) (f:α->α),l.length<=k->md l k f=l
 |[],_,_,_=>rfl
 |_::_,0,_,h=>by simp at h
 |a::t,k+1,f,h=>congrArg (a::·) (Um t k f (by simpa using h))
theorem YU{α}(d)(g:α->Nat):∀(l) (k) (f),k<l.length->((md l k f).map g).sum+g (l.getD k d)=(l.map g).sum+g (f (l.getD k d))
 |[],_,_,h=>by simp at h
 |a::t,0,f,_=>by simp[md];omega
 |a::t,k+1,f,h=>by have:=YU d g t k f (by simpa using h);grind [md,nA]
theorem gL(M:av)(k j o):(M.dA k o).out j=if j=k/\k<M.outs.length then o else M.out j:=by
 unfold av.dA av.out;by_cases h:j=k
 .subst h;by_cases a:j<M.outs.length;.rw[dN ⟨rfl,a⟩];exact Lr vR _ _ _ a
  .rw[b_ (fun x=>a x.2)];grind [md,vR,Um]
 .rw[b_ (fun x=>h x.1)];exact YT vR _ _ _ _ h
theorem fQ(M:av)(k j o):(M.eZ k o).bH j=if j=k/\k<M.ins.length then o else M.bH j:=by
 unfold av.eZ av.bH;by_cases h:j=k
 .subst h;by_cases a:j<M.ins.length;.rw[dN ⟨rfl,a⟩];exact Lr xk _ _ _ a
  .rw[b_ (fun x=>a x.2)];grind [md,xk,Um]
 .rw[b_ (fun x=>h x.1)];exact YT xk _ _ _ _ h
theorem uQ(M:av)(k o)(h:k<M.outs.length):(M.dA k o).pO+(M.out k).dI=M.pO+o.dI:=
 YU vR Ot.dI M.outs k (fun _=>o) h
theorem DJ:∀(l:List Nat) (k),l.getD k 0<=l.sum
 |[],_=>aR
 |a::t,0=>aR
 |a::t,k+1=>by have:=DJ t k;grind
structure rU (o o':Ot):Prop where
 dI:o.dI<=o'.dI
 pre:o.all <+:o'.all
 bL:o.bL=true->o'.bL=true/\o'.all=o.all
 gv:o.nt.bG=true->o'.nt.bG=true/\o'.nt.aC=o.nt.aC/\o'.all=o.all/\o'.aB.length<=o.aB.length
theorem rU.refl(o):rU o o:=⟨aI _,wK _,fun h=>⟨h,rfl⟩,fun h=>⟨h,rfl,rfl,aI _⟩⟩
theorem rU.trans{a b c}(h:rU a b)(g:rU b c):rU a c:=
 ⟨dx h.dI g.dI,h.pre.trans g.pre,fun e=>⟨(g.bL (h.bL e).1).1,(g.bL (h.bL e).1).2.trans (h.bL e).2⟩,fun e=>by grind [cases rU]⟩
structure EB (A A':av):Prop where
 out:∀k,rU (A.out k) (A'.out k)
 NG:∀k,(A.bH k).gr.eF<=(A'.bH k).gr.eF
 eF:A.gr.eF<=A'.gr.eF
 next:A.next<=A'.next
theorem EB.refl(A):EB A A:=⟨fun _=>rU.refl _,fun _=>aI _,aI _,aI _⟩
def EB.trans{A B C}(h:EB A B)(g:EB B C):EB A C:=
 ⟨fun k=>(h.out k).trans (g.out k),fun k=>dx (h.NG k) (g.NG k),dx h.eF g.eF,dx h.next g.next⟩
structure yQ (o:Ot) (f:Fr):Prop where
 e:bI f<=o.dI
 b:bI f<=o.all.length
 d:f.data.data.toList=(o.all.take (bI f)).drop f.aC
 bL:f.bL=true->o.bL=true/\bI f=o.all.length
 ne:f.bL=true\/0<bI f
structure A8 (o:Ot) (f:Fr):Prop where
 g:o.nt.bG=true
 fo:f.aC=o.nt.aC
 r:o.aB.length<=f.aO
 m:f.aO<=2048
def qpi(id a:Nat)(b:ByteArray):Fr:=⟨7,0,0,0,0,false,id,a,b,[]⟩
structure QD (f:Fr):Prop where
 e:f=qpi f.id f.aJ f.data
 i:f.id<=dH
 d:f.aJ<=dH
 s:f.data.size<=360
def QD.kd(h:QD f):f.aD=7:=by rw[h.e];rfl
def qj(A B:av)(f:Fr):Prop:=
 (f.aD=2/\f.ranges≠[]/\(f.ranges.getD 0 (0,0)).2<B.next)\/(f.aD=4/\0<=f.aF/\f.aF<8/\yQ (A.out f.aF.toNat) f)\/(f.aD=5/\f.aN<=A.gr.eF)\/(f.aD=6/\0<=f.aF/\f.aF<8/\f.aN<=(A.bH f.aF.toNat).gr.eF)\/(f.aD=3/\0<=f.aF/\f.aF<8/\A8 (A.out f.aF.toNat) f)\/QD f
theorem yQ.mono{o o'}(h:yQ o f)(a:rU o o'):yQ o' f:=by obtain⟨t,b⟩:=a.pre;constructor<;>grind [mE,cases yQ,cases rU,fA,e]
theorem A8.mono{o o'}(h:A8 o f)(a:rU o o'):A8 o' f:=by constructor<;>grind [cases rU,cases A8,mE]
def qj.mono{A A' B e f}(h:qj A B f)(d:EB A A')(g:EB B e):qj A' e f:=by
 rcases h with⟨a,b,c⟩|⟨a,b,c,h4⟩|⟨a,b⟩|⟨a,b,c,h4⟩|⟨a,b,c,h4⟩|h;.exact .inl ⟨a,b,gK c g.next⟩
 .exact .inr (.inl ⟨a,b,c,h4.mono (d.out _)⟩)
 .exact .inr (.inr (.inl ⟨a,dx b d.eF⟩))
 .exact .inr (.inr (.inr (.inl ⟨a,b,c,dx h4 (d.NG _)⟩)))
 .exact .inr (.inr (.inr (.inr (.inl ⟨a,b,c,h4.mono (d.out _)⟩))))
 .exact .inr (.inr (.inr (.inr (.inr h))))
structure vS (o:Ot):Prop where
 sl:o.dI<=o.aN
 sb:o.dI<=o.all.length
 pr:o.aB <+:o.all
 sz:o.all.length<=2048
 ng:o.nt.bG=false->o.aB=o.all
 gv:o.nt.bG=true->o.dI<=o.nt.aC/\o.aB.length<=o.nt.aC/\o.nt.aC<=o.all.length
structure nN (o:Ot) (i:dP):Prop where
 jI:o.aN<=i.gr.eF
 fq:i.fq<=o.dI
 rh:i.aY<=i.fq
 cB:i.cB=true->i.bG=false->o.bL=true/\i.h_=o.all.length/\o.all.length<=o.dI
 bG:i.bG=true->i.cB=true/\o.nt.bG=true/\i.h_=o.nt.aC/\o.aB.length<=i.rel/\i.bO.length<=i.rel-i.aY
 st:i.state=0\/i.state=1/\o.bL=true/\i.aY=o.all.length\/i.state=2/\i.bG=true/\i.rel<=i.aY
 len:i.aT.length=i.bO.length
 got:∀j,i.aT.getD j false=true->i.aY+j<i.fq/\o.all[i.aY+j]?=some (i.bO.getD j 0)
def nN.ro{o i}(h:nN o i)(a:vS o):i.aY<=o.all.length:=dx h.rh (dx h.fq a.sb)
theorem nN.fr{o i}(h:nN o i)(a:vS o):i.aY<=i.aP:=by grind [dP.aP,cases nN,cases vS]
theorem nN.mono{o o' i}(h:nN o i)(b:o'.aN=o.aN)(a:rU o o'):nN o' i:=by
 refine⟨by rw[b];exact h.jI,dx h.fq a.dI,h.rh,fun e g=>?_,fun g=>?_,?_,h.len,fun j e=>?_⟩;.grind [cases nN,cases rU,mE]
 .grind [cases nN,cases rU]
 .grind [cases nN,cases rU]
 .obtain⟨t,c⟩:=a.pre;grind [cases nN]
structure fG (M:av):Prop where
 lo:M.outs.length=8
 li:M.ins.length=8
 wr:∀k,vS (M.out k)
 sp:M.pO<=M.aN
 it:∀k,(M.bH k).gr.eF<=(M.bH k).gr.jI (M.bH k).aP
 gt:M.gr.eF<=M.gr.jI M.aP
 mY:M.mY=0
 q:∀f∈M.aQ,QD f
 ql:M.aQ.length<=16
structure dL (A B:av):Prop where
 rd:∀k,nN (A.out k) (B.bH k)
 jI:A.aN<=B.gr.eF
 aT:∀r∈B.aT.rs,r.2<A.next
structure rV (A B A':av):Prop where
 loc:fG A'
 ab:dL A' B
 ba:dL B A'
 le:EB A A'
def rV.trans{A B A' a}(h:rV A B A')(g:rV A' B a):rV A B a:=⟨g.loc,g.ab,g.ba,h.le.trans g.le⟩
theorem nY{A B}(a:fG A)(b:dL A B)(c:dL B A)(k o)(l:vS o)(d:o.aN=(A.out k).aN)(i:rU (A.out k) o)(g:o.dI<=(A.out k).dI+A.aU):rV A B (A.dA k o):=by
 have f:=fun j=>gL A k j o;refine⟨⟨(jD _ _ _).trans a.lo,a.li,fun j=>?_,?_,a.it,a.gt,a.mY,a.q,a.ql⟩,⟨fun j=>?_,b.jI,b.aT⟩,⟨c.rd,c.jI,c.aT⟩,⟨fun j=>?_,fun _=>aI _,aI _,aI _⟩⟩;.grind [cases vS,cases fG]
 .show(A.dA k o).pO<=A.aN;by_cases h:k<A.outs.length;.grind [uQ,cases fG,av.aU]
  .have:A.dA k o=A:=by unfold av.dA;rw[Um _ _ _ aj]
   rw[this];exact a.sp
 .rw[f];split;.rename_i e;rw[e.1];exact(b.rd k).mono d i
  .exact b.rd j
 grind [rU.refl]
theorem JH:∀(l d:List dP) (s c),s<=c->l.length=d.length->(∀k,(l.getD k xk).aP<=(d.getD k xk).aP)->l.foldl (fun s i=>min (s+i.aP) dH) s<=d.foldl (fun s i=>min (s+i.aP) dH) c
 |[],[],s,c,h,_,_=>h
 |[],_::_,_,_,_,e,_=>by simp at e
 |_::_,[],_,_,_,e,_=>by simp at e
 |a::t,b::u,s,c,h,e,g=>by
  simp only[QE];refine JH t u _ _ ?_ (by simpa using e) fun k=>by simpa using g (k+1)
  have:=g 0;grind
theorem tZ{A B}(a:fG A)(b:dL A B)(c:dL B A)(k i)(g:nN (B.out k) i)(h:(A.bH k).gr.eF<=i.gr.eF)(d:(A.bH k).aP<=i.aP)(e:i.gr.eF<=i.gr.jI i.aP):rV A B (A.eZ k i):=by
 have f:=fun j=>fQ A k j i;refine⟨⟨a.lo,(jD _ _ _).trans a.li,a.wr,a.sp,fun j=>?_,?_,a.mY,a.q,a.ql⟩,⟨b.rd,b.jI,b.aT⟩,⟨fun j=>?_,c.jI,c.aT⟩,⟨fun _=>rU.refl _,fun j=>?_,aI _,aI _⟩⟩;.grind [cases fG]
 .refine dx a.gt ?_;show A.gr.jI A.aP<=A.gr.jI (A.eZ k i).aP;have:A.aP<=(A.eZ k i).aP:=JH _ _ 0 0 (aI _) (jD _ _ _).symm fun j=>by
   show(A.bH j).aP<=((A.eZ k i).bH j).aP;grind
  unfold Gn.jI;omega
 .grind [cases dL]
 grind
theorem qf6{o}(w:vS o)(b):vS (o.send b).1/\(o.send b).1.aN=o.aN/\rU o (o.send b).1/\(o.send b).1.dI=o.dI:=by
 unfold Ot.send;split;.grind [rU.refl]
 .rename_i f;split;.grind [rU.refl]
  .rename_i d;have c:o.nt.bG=false:=by grind [Ot.closed]
   have a:=w.ng c;refine⟨⟨w.sl,?_,?_,?_,fun _=>by grind,fun e=>?_⟩,rfl,⟨aI _,List.prefix_append _ _,fun e=>?_,fun e=>?_⟩,rfl⟩;.grind [fA,cases vS]
   .show o.aB++b <+:o.all++b;rw[a];exact wK _
   .grind
   .grind
   .grind [Ot.closed]
   grind
theorem NH{A B}(d:fG A)(a:dL A B)(c:dL B A)(k b):rV A B (A.dA k ((A.out k).send b).1):=by grind [qf6,cases fG,nY,cases dL]
theorem VP{o}(w:vS o):vS o.finish.1/\o.finish.1.aN=o.aN/\rU o o.finish.1/\o.finish.1.dI=o.dI:=by
 unfold Ot.finish;split;.grind [rU.refl]
 .exact⟨⟨w.sl,w.sb,w.pr,w.sz,w.ng,w.gv⟩,rfl,⟨aI _,wK _,fun _=>⟨rfl,rfl⟩,fun e=>⟨e,rfl,rfl,aI _⟩⟩,rfl⟩
theorem Fw{A B}(c:fG A)(a:dL A B)(b:dL B A)(k):rV A B (A.dA k (A.out k).finish.1):=by grind [VP,cases fG,nY,cases dL]
theorem NI{o}(w:vS o)(a):vS (o.reset a)/\(o.reset a).aN=o.aN/\rU o (o.reset a)/\(o.reset a).dI=o.dI/\(o.reset a).nt.bG=true/\(o.reset a).aB.length=min (max a 0).toNat o.aB.length:=by
 obtain⟨n,f⟩:=bU (min (max a 0).toNat o.aB.length);have e:o.reset a={o with aB:=o.aB.take n,nt:=o.nt.AZ (max o.dI n)}:=by rw[f];rfl
 have d:(o.aB.take n).length=n:=by grind
 have g:o.aB.take n <+:o.all:=(List.take_prefix _ _).trans w.pr;have k:=w.pr.length_le;have l:=w.sb;rw[e,<-f];cases b:o.nt.bG
 .have c:o.nt.AZ (max o.dI n)=⟨true,max o.dI n,UT,UT⟩:=by grind [Nt.AZ]
  rw[c];refine⟨⟨w.sl,w.sb,g,w.sz,(fun x=>by cases x),fun _=>⟨KR _ _,?_,?_⟩⟩,rfl,⟨aI _,wK _,fun x=>⟨x,rfl⟩,fun x=>absurd (b.symm.trans x) aR⟩,rfl,rfl,d⟩;.grind
  grind
 .have c:o.nt.AZ (max o.dI n)=o.nt:=by grind [Nt.AZ]
  rw[c];obtain⟨h,j,i⟩:=w.gv b;refine⟨⟨w.sl,w.sb,g,w.sz,fun x=>absurd (b.symm.trans x) aR,fun _=>⟨h,?_,i⟩⟩,rfl,⟨aI _,wK _,fun x=>⟨x,rfl⟩,fun x=>⟨x,rfl,rfl,?_⟩⟩,rfl,b,d⟩;.grind
  grind
theorem VQ{A B}(d:fG A)(b:dL A B)(c:dL B A)(k a):rV A B (A.dA k ((A.out k).reset a)):=by grind [NI,cases fG,nY,cases dL]
def xZ{A B}(a:fG A)(b:dL A B)(c:dL B A)(q v t l)(e:∀f∈q,QD f)(d:q.length<=16):rV A B {A with aQ:=q,qv:=v,aV:=t,least:=l}:=
 ⟨⟨a.lo,a.li,a.wr,a.sp,a.it,a.gt,a.mY,e,d⟩,⟨b.rd,b.jI,b.aT⟩,⟨c.rd,c.jI,c.aT⟩,⟨fun _=>rU.refl _,fun _=>aI _,aI _,aI _⟩⟩
theorem pq:∀(c:List Bool) (j),j<(c.takeWhile id).length->c.getD j false=true
 |[],j,h=>by simp at h
 |a::t,j,h=>by
  cases a;.simp at h
  .cases j;.rfl
   .simpa using pq t _ (by simpa using h)
theorem Q6{o i}(h:nN o i):i.aY+i.ready<=i.fq:=by
 by_cases a:i.ready=0;.have:=h.rh;omega
 .have g:=(h.got (i.ready-1) (pq _ _ (by grind [dP.ready]))).1;omega
theorem zL{o i}(h:nN o i):i.ready<=i.bO.length:=by rw[<-h.len];grind [dP.ready,List.takeWhile_prefix]
theorem qf7{o i}(h:nN o i)(n)(b:n<=i.ready):i.bO.take n=(o.all.drop i.aY).take n:=by have a:=zL h;refine zh fun j=>?_;grind [cases nN,pq,dP.ready]
theorem VR{o i}(h:nN o i)(b:i.state≠0):i.ready=0:=by
 by_cases a:i.ready=0;.exact a
 .rcases h.st with e|⟨_,_,e⟩|⟨_,g,e⟩;.grind
  .have g:=(h.got (i.ready-1) (pq _ _ (by grind [dP.ready]))).2;grind
  grind [cases nN,zL]
theorem qj8{o i}(v:vS o)(h:nN o i)(f):nN o (i.rd f).2/\(i.rd f).2.gr=i.gr/\i.aP<=(i.rd f).2.aP/\(i.rd f).2.aY=i.aY+(i.rd f).1.length/\(i.rd f).1=(o.all.drop i.aY).take (i.rd f).1.length:=by
 have J:=zL h;have I:=Q6 h;have u:min i.ready (max f 0).toNat<=i.ready:=Nat.min_le_left _ _;have D:=qf7 h _ u;obtain⟨n,l⟩:=bU (min i.ready (max f 0).toNat);unfold dP.rd;simp only[<-l]at u D ⊢;have A:(i.bO.take n).length=n:=by grind
 have r:nN o {i.cut n with state:=if(i.cut n).state=0 then(i.cut n).iO else(i.cut n).state}:=by
  have C:=h.fq;have E:=v.sb;refine⟨h.jI,h.fq,?_,h.cB,fun g=>?_,?_,?_,fun j e=>?_⟩;.show i.aY+n<=i.fq;omega
  .obtain⟨a,b,c,d,e⟩:=h.bG g;refine⟨a,b,c,d,?_⟩;show(i.bO.drop n).length<=i.rel-(i.aY+n);grind
  .show(if i.state=0 then(i.cut n).iO else i.state)=0\/(if i.state=0 then(i.cut n).iO else i.state)=1/\o.bL=true/\i.aY+n=o.all.length\/(if i.state=0 then(i.cut n).iO else i.state)=2/\i.bG=true/\i.rel<=i.aY+n;by_cases p:i.state=0
   .rw[dN p];unfold dP.iO;split;.grind
    .rename_i s;have t:i.cB=true:=by
      cases F:i.cB;.exact absurd (Or.inl F) s
      .rfl
     have K:=fun x=>s (Or.inr x);have B:(i.cut n).aY=i.aY+n:=rfl;cases k:i.bG
     .have m:(i.cut n).wanted=i.h_:=by
       unfold dP.wanted;rw[show(i.cut n).bG=false from k,show(i.cut n).cB=true from t];rfl
      obtain⟨a,b,c⟩:=h.cB t k;rw[show(i.cut n).bG=false from k,b_ aR];grind
     .have m:(i.cut n).wanted=i.rel:=by
       unfold dP.wanted;rw[show(i.cut n).bG=true from k];rfl
      rw[show(i.cut n).bG=true from k,dN rfl];grind
   .rw[b_ p];grind [VR,cases nN]
  .show(i.aT.drop n).length=(i.bO.drop n).length;grind [List.length_drop,cases nN]
  .have w:i.aT.getD (n+j) false=true:=by
    have:(i.aT.drop n).getD j false=true:=e;grind
   obtain⟨G,H⟩:=h.got _ w;refine⟨by show i.aY+n+j<i.fq;omega,?_⟩;show o.all[i.aY+n+j]?=some ((i.bO.drop n).getD j 0);grind
 refine⟨r,rfl,?_,?_,?_⟩
 .by_cases q:i.state=2
  .have z:(if(i.cut n).state=0 then(i.cut n).iO else(i.cut n).state)=2:=by
    rw[show(i.cut n).state=2 from q];rfl
   unfold dP.aP;rw[dN q,dN z];exact aI _
  .have y:i.aP=i.aY:=by unfold dP.aP;grind
   rw[y];exact dx (wJ _ _) (r.fr v)
 .rw[A];rfl
 grind
theorem Fx{A B}(d:fG A)(e:fG B)(b:dL A B)(c:dL B A)(k a):rV A B (A.eZ k ((A.bH k).rd a).2):=by grind [qj8,cases fG,cases dL,tZ,mE,Gn.jI]
theorem yc:∀(l) (a e),(iN a l e).2<=e
 |[],_,_=>aI _
 |r::t,a,e=>by
  unfold iN;split;.grind
  .split;.grind
   .exact yc t _ e
theorem A9{g b a}(h:pK f b a=some g):∃n,n<=b.length/\g={f with data:=⟨(b.take n).toArray⟩}:=by grind [pK,Option.some.inj]
theorem yg{o o' A b}(i:vS o)(z:o.aL b=true)(h:o.next k A b=some (f,o')):f.aD=4/\f.aF=(k:Int)/\yQ o' f/\vS o'/\o'.aN=o.aN/\rU o o'/\o'.dI<=o.dI+b/\o'.aB=o.aB/\o'.nt=o.nt:=by
 have w:=of_decide_eq_true z;have l:(o.dF b).2<=(if o.iH (o.reach b)then o.reach b+1 else o.reach b):=yc _ _ _;have L:o.reach b<=o.aB.length:=by unfold Ot.reach;omega
 have N:o.reach b<=o.aN:=by unfold Ot.reach;omega
 have M:o.reach b<=o.dI+b:=by unfold Ot.reach;omega
 obtain⟨a,v⟩:=bU ((o.dF b).1);obtain⟨p,y⟩:=bU ((o.dF b).2);unfold Ot.next at h;simp only[<-v,<-y]at h w l;have key:a<=o.reach b/\min p o.aB.length<=o.reach b/\(min p o.aB.length<=a->a=o.aB.length/\o.iH (o.reach b)=true/\o.reach b=o.aB.length):=by
  by_cases H:o.iH (o.reach b)=true;.rw[dN H]at l;grind [Ot.iH]
  grind
 cases hF:pK (qH k a) ((o.aB.take (min p o.aB.length)).drop a) A with
 |none=>rw[hF]at h;cases h
 |some g=>
  rw[hF]at h;simp only at h;split at h;.cases h
  .rename_i J;obtain⟨n,P,q⟩:=A9 hF;have u:=lF h;have s:f={g with bL:=o.iH (bI g)}:=(congrArg eB u).symm;have c:o'=({o with dI:=max o.dI (bI g)}:Ot).aw f:=by grind
   have R:g.data.size=n:=by rw[q];show(nL n _).toArray.size=n;grind
   have E:((o.aB.take (min p o.aB.length)).drop a).length=min p o.aB.length-a:=by grind
   have I:g.aC=a:=by rw[q];rfl
   have r:bI g=a+n:=by grind [bI]
   have d:bI f=a+n:=by rw[s];exact r
   have B:a+n<=o.reach b:=by grind
   have F:f.data.data.toList=(o.aB.take (a+n)).drop a:=by grind [List.take_drop]
   have j:f.bL=o.iH (a+n):=by grind
   have K:=i.pr.length_le;have m:rU o o':=by rw[c];exact⟨KR _ _,wK _,fun x=>⟨x,rfl⟩,fun x=>⟨x,rfl,rfl,aI _⟩⟩
   have G:(o.all.take (a+n)).drop a=(o.aB.take (a+n)).drop a:=by obtain⟨t,Q⟩:=i.pr;grind
   refine⟨by rw[s,q];rfl,by rw[s,q];rfl,⟨?_,?_,?_,fun e=>?_,?_⟩,⟨?_,?_,?_,?_,?_,?_⟩,by rw[c];rfl,m,?_,by rw[c];rfl,by rw[c];rfl⟩;.rw[d,c];show a+n<=max o.dI (bI g);omega
   .rw[d,c];show a+n<=o.all.length;omega
   .rw[d,c,F];show _=((o.all.take (a+n)).drop f.aC);grind
   .rw[j]at e;unfold Ot.iH at e;simp only[iY,decide_eq_true_eq,Jr]at e;rw[c];exact⟨e.1.1,by rw[d];show a+n=o.all.length;grind [cases vS]⟩
   .grind
   .rw[c];show max o.dI (bI g)<=o.aN;have:=i.sl;omega
   .rw[c];show max o.dI (bI g)<=o.all.length;have:=i.sb;omega
   .rw[c];exact i.pr
   .rw[c];exact i.sz
   .rw[c];exact i.ng
   .rw[c];intro x;obtain⟨O,C,D⟩:=i.gv x;exact⟨by show max o.dI (bI g)<=o.nt.aC;omega,C,D⟩
   .rw[c];show max o.dI (bI g)<=_;omega
theorem Q7{A B}(a:fG A)(b:dL A B)(c:dL B A)(g)(e:g.ahead=A.gr.ahead)(d:A.gr.eF<=g.eF)(f:g.eF<=A.gr.jI A.aP):rV A B {A with gr:=g}:=
 ⟨⟨a.lo,a.li,a.wr,a.sp,a.it,by show g.eF<=g.jI A.aP;grind [Gn.jI],a.mY,a.q,a.ql⟩,⟨b.rd,b.jI,b.aT⟩,⟨c.rd,dx c.jI d,c.aT⟩,⟨fun _=>rU.refl _,fun _=>aI _,d,aI _⟩⟩
theorem lW{A B}(c:fG A)(a:dL A B)(b:dL B A):rV A B A:=⟨c,a,b,EB.refl A⟩
def Un{o i}(h:nN o i)(g)(a:i.gr.eF<=g.eF):nN o {i with gr:=g}:=
 ⟨dx h.jI a,h.fq,h.rh,h.cB,h.bG,h.st,h.len,h.got⟩
theorem pR{g g':Gn}{aD a b}(h:g.next aD k a b=some (f,g')):f=lV aD k (g.jI a)/\g'=({g with eF:=g.jI a}:Gn).aw (g.jI a):=by grind [Gn.next]
theorem NJ{A B A'}(c:fG A)(q:dL A B)(o:dL B A)(v E u C f)(T:u<48)(p:∀r∈v,r.2<B.next)(d:A.aL v u=true)(h:A.frame v u C=some (f,A',E)):rV A B A'/\qj A' B f/\(∀r∈E,r.2<B.next):=by
 unfold av.frame at h;unfold av.aL at d;by_cases u0:u=0
 .rw[dN u0]at h;split at h;.cases h
  .rename_i D;have e:=lF h;have k:=congrArg eB e;have j:=congrArg (fun x=>x.2.1) e;have l:=congrArg (fun x=>x.2.2) e;subst k j l;refine⟨lW c q o,.inl ⟨rfl,?_,?_⟩,fun r L=>p r (yZ L)⟩
   .cases v with
    |nil=>exact absurd rfl D
    |cons a t=>
     show nL _ (a::t)≠[];intro s;rw[List.take_eq_nil_iff]at s;rcases s with s|s;.exact D s
     .cases s
   .cases v with
    |nil=>exact absurd rfl D
    |cons a t=>show((nL _ (a::t)).getD 0 (0,0)).2<B.next;obtain⟨m,K⟩:∃m,gV (a::t) C (a::t).length=m+1:=⟨gV (a::t) C (a::t).length-1,aj⟩;rw[K];exact p a aR
 .rw[b_ u0]at h d;simp only[iY]at d;replace d:=d.2;by_cases u8:u=8;.rw[dN u8]at h;obtain⟨⟨f1,z⟩,i,e⟩:=jE.1 h;obtain⟨n,b⟩:=pR i;have k:=congrArg eB e;have j:=congrArg (fun x=>x.2.1) e;have l:=congrArg (fun x=>x.2.2) e;subst k j l;refine⟨Q7 c q o z (by rw[b];rfl) (by rw[b];exact c.gt) (by rw[b];exact aI _),.inr (.inr (.inl ⟨by rw[n];rfl,?_⟩)),p⟩;rw[n,b];exact aI _
  .rw[b_ u8]at h d;by_cases u24:u<24
   .rw[dN u24]at h;obtain⟨⟨f1,z⟩,i,e⟩:=jE.1 h;obtain⟨n,b⟩:=pR i;have k:=congrArg eB e;have j:=congrArg (fun x=>x.2.1) e;have l:=congrArg (fun x=>x.2.2) e;subst k j l;have F:(A.bH (u-16)).gr.eF<=z.eF:=by rw[b];exact c.it _
    refine⟨tZ c q o (u-16) _ (Un (o.rd _) z F) F (aI _) (by rw[b];exact aI _),.inr (.inr (.inr (.inl ⟨by rw[n];rfl,by rw[n];exact YF _,?_,?_⟩))),p⟩;.rw[n];show((u-16:Nat):Int)<8;omega
    .rw[n];show(A.bH (u-16)).gr.jI _<=((A.eZ (u-16) _).bH (((u-16:Nat):Int).toNat)).gr.eF;rw[Ct,fQ,dN ⟨rfl,by rw[c.li];omega⟩,b];exact aI _
   .rw[b_ u24]at h d;by_cases u32:u<32
    .rw[dN u32]at h d;obtain⟨⟨f1,G⟩,i,e⟩:=jE.1 h;have k:=congrArg eB e;have j:=congrArg (fun x=>x.2.1) e;have l:=congrArg (fun x=>x.2.2) e;subst k j l;unfold Nt.next at i;split at i;.cases i
     .have H:=congrArg eB (lF i);have I:=congrArg Prod.snd (lF i);have w:=c.wr (u-24);unfold Nt.aL at d;simp only[iY]at d;subst H I;refine⟨nY c q o (u-24) _ ⟨w.sl,w.sb,w.pr,w.sz,w.ng,w.gv⟩ rfl ⟨aI _,wK _,fun x=>⟨x,rfl⟩,fun x=>⟨x,rfl,rfl,aI _⟩⟩ (wJ _ _),.inr (.inr (.inr (.inr (.inl ⟨rfl,YF _,?_,?_⟩)))),p⟩;.show((u-24:Nat):Int)<8;omega
      .show A8 ((A.dA (u-24) _).out ((u-24:Nat):Int).toNat) _;rw[Ct,gL,dN ⟨rfl,by rw[c.lo];omega⟩];exact⟨d.1,rfl,aI _,dx w.pr.length_le w.sz⟩
    .rw[b_ u32]at h d;by_cases y:u=32
     .rw[dN y]at h d;split at h;.cases h
      .obtain⟨g,J,e⟩:=jE.1 h;have k:=congrArg eB e;have j:=congrArg (fun x=>x.2.1) e;have l:=congrArg (fun x=>x.2.2) e;subst k j l;exact⟨xZ c q o _ _ A.aV A.least (fun x i=>c.q x (KU i)) (by rw[List.length_tail];have:=c.ql;omega),.inr (.inr (.inr (.inr (.inr (c.q g (List.mem_of_mem_head? J)))))),p⟩
     .rw[b_ y]at h d;obtain⟨⟨f1,S⟩,i,e⟩:=jE.1 h;have k:=congrArg eB e;have j:=congrArg (fun x=>x.2.1) e;have l:=congrArg (fun x=>x.2.2) e;subst k j l;obtain⟨G,M,N,O,P,Q,R,_⟩:=yg (c.wr _) d i;refine⟨nY c q o (u-40) S O P Q R,.inr (.inl ⟨G,by grind,by grind,?_⟩),p⟩;rw[M,Ct,gL,dN ⟨rfl,by rw[c.lo];omega⟩];exact N
end Go.Proofs.YtphbledmopchnaaGreatDoor.Sd
namespace Go.Proofs.YtphbledmopchnaaGreatDoor
open Go.RowKit Go.Lib Go.Shelf Mm Tryz
def bX:bY->bM
 |[]=>[]
 |r::t=>(uZ r.1)::(uZ r.2)::bX t
def jV(f:Fr)(v:Wx):bM:=[iZ f.aD,iZ f.aF,uZ f.aC,uZ f.aO,uZ f.aN,.bool f.bL,uZ f.id,uZ f.aJ,.string f.data,v]
def uh(a:List Fr)(b:Nat->Wx):Nat->bM
 |0=>[]
 |k+1=>uh a b k++jV (a.getD k jv) (b k)
def oJ:∀a,∀v∈bX a,v.oneCell'=true
 |[],v,hv=>by simp[bX]at hv
 |r::t,v,hv=>by
  simp[bX]at hv;rcases hv with rfl|rfl|hv;.rfl
  .rfl
  .exact oJ t v hv
theorem zP:∀(a) j,j<a.length->(bX a)[j*2]?=some (uZ ((a.getD j (0,0)).1:Int))/\(bX a)[j*2+1]?=some (uZ ((a.getD j (0,0)).2:Int))
 |[],j,h=>by simp at h
 |r::t,0,h=>by simp[bX]
 |r::t,j+1,h=>by have:=zP t j (by simpa using h);grind [bX,List.getElem?_cons_succ,nA]
theorem kV:∀a b,bX (a++b)=bX a++bX b
 |[],b=>rfl
 |r::t,b=>by simp[bX,kV t b]
def JJ(a b):∀k,(uh a b k).length=k*10
 |0=>rfl
 |k+1=>by rw[uh,lM,JJ a b k];simp[jV];omega
theorem JK(a b):∀k j i,j<k->i<10->(uh a b k)[j*10+i]?=(jV (a.getD j jv) (b j))[i]?
 |0,j,i,h,_=>aj
 |k+1,j,i,h,hi=>by
  have c:=JJ a b k;rw[uh];by_cases e:j=k;.grind
  .rw[Av aj];exact JK a b k j i aj hi
def DR(b c a):∀k,(∀j,j<k->c j=a j)->uh b c k=uh b a k
 |0,_=>rfl
 |k+1,h=>by rw[uh,uh,DR b c a k (fun j d=>h j aj),h k aj]
structure oz (f:Fr):Prop where
 Fj:f.ranges.length<=1000000000
 Fp:f.data.size<=1000000000
 k0: -9223372036854775808<=f.aD/\f.aD<=9223372036854775807
 s0: -9223372036854775808<=f.aF/\f.aF<=9223372036854775807
 u0:f.aC<18446744073709551616/\f.aO<18446744073709551616/\f.aN<18446744073709551616/\f.id<18446744073709551616/\f.aJ<18446744073709551616
 r0:∀j,j<f.ranges.length->(f.ranges.getD j (0,0)).1<18446744073709551616/\(f.ranges.getD j (0,0)).2<18446744073709551616
structure Bb (B:Nat) (w:Wq) (s:Wx) (fs:List Fr) (v9:Nat->Wx) (k:Nat):Prop where
 buf:fO 65 10 w s k (uh fs v9 k)
 own:Own B s
 vF:∀j,j<k->fO 170 2 w (v9 j) (fs.getD j jv).ranges.length (bX (fs.getD j jv).ranges)/\Own B (v9 j)/\∀b,(v9 j).ownBlock=some b->s.ownBlock≠some b
def Y0:Wx->Option XK
 |.slice a _ _=>a
 |_=>none
def qfd:Wx->Nat
 |.slice _ _ c=>c
 |_=>0
theorem Bb.Uj{B w s c l}(h:Bb B w s c l c.length)(t:∀j,j<c.length->oz (c.getD j jv)):∃m o,s=.slice m c.length o/\ru w m c (fun j=>Y0 (l j)) (fun j=>qfd (l j)):=by
 obtain⟨m,o,C,_⟩:=h.buf.shape;refine⟨m,o,C,fun j q=>?_⟩;have A:=fun i k=>JK c l c.length j i q k;have b:=fun i (k:i<10) x (v:(jV (c.getD j jv) (l j))[i]?=some x)=>h.buf.cell C (j*10+i) x (by grind);obtain⟨g,p,J,_⟩:=b 0 aj _ rfl;subst p;obtain⟨d,a,K,_⟩:=b 1 aj _ rfl;cases a;obtain⟨d,a,L,_⟩:=b 2 aj _ rfl;cases a;obtain⟨d,a,M,_⟩:=b 3 aj _ rfl;cases a;obtain⟨d,a,N,_⟩:=b 4 aj _ rfl;cases a;obtain⟨d,a,O,_⟩:=b 5 aj _ rfl;cases a;obtain⟨d,a,P,_⟩:=b 6 aj _ rfl;cases a;obtain⟨d,a,Q,_⟩:=b 7 aj _ rfl;cases a;obtain⟨d,a,R,_⟩:=b 8 aj _ rfl;cases a;obtain⟨d,a,E,_⟩:=b 9 aj _ rfl;cases a;obtain⟨n,_,_⟩:=h.vF j q;obtain⟨H,U,e,r⟩:=n.shape;have f:=t j q;refine⟨g,0,rfl,⟨by grind,by grind,by grind,by grind,by grind,by grind,by grind,by grind,by grind,?_,?_,f.Fj,f.Fp,f.k0,f.s0,f.u0⟩,?_,?_⟩;.rw[gG,E];simp only[e,Y0,qfd]
 .intro i k;obtain⟨F,G⟩:=zP _ i k;obtain⟨D,y,S,_⟩:=n.cell e _ _ F;obtain⟨I,z,T,_⟩:=n.cell e _ _ G;rw[y]at z;cases z;refine⟨D,0,by simp only[e];exact y,by grind,by grind,f.r0 i k⟩
 .simp only[e];exact r
 .intro x v;simp only[e]at v;refine n.lt x.block ?_;have u:H=some x:=v;rw[e,u];rfl
theorem Mm.aS.setCell{w b t l}(h:aS w b t l)(o v):aS (w.setCell (aA b o) v) b t (l.set o v):=by have:=heap_setCell_same w b o l.toArray t v h;grind [aS,Array.ext']
end Go.Proofs.YtphbledmopchnaaGreatDoor
namespace Go.Proofs.YtphbledmopchnaaGreatDoor.Sd
open Go.RowKit Go.Lib Mm Tryz
variable {R S b k n n' o o':Nat}{T:List Nat}{d w w' y y':Wq}{e t:WK}{l l':bM}{v:Wx}
abbrev Own:=Nat->Nat
structure Kp (T:List Nat) (oZ aX:Own) (w w':Wq):Prop where
 os:w'.os=w.os
 tape:w'.tape=w.tape
 output:w'.output=w.output
 size:w.heap.size<=w'.heap.size
 cK:∀b,b<w.heap.size->oZ b∉T->w'.heap[b]?=w.heap[b]?
 ext:∀b,b<w.heap.size->aX b=oZ b
def Kp.refl(T oZ w):Kp T oZ oZ w w:=⟨rfl,rfl,rfl,aI _,fun _ _ _=>rfl,fun _ _=>rfl⟩
def Kp.trans{T d e f w g i}(h:Kp T d e w g)(k:Kp T e f g i):Kp T d f w i:=
 ⟨k.os.trans h.os,k.tape.trans h.tape,k.output.trans h.output,dx h.size k.size,fun b a c=>(k.cK b (gK a h.size) (by rw[h.ext b a];exact c)).trans (h.cK b a c),fun b a=>(k.ext b (gK a h.size)).trans (h.ext b a)⟩
def Kp.mono{a o o'}(h:Kp T o o' w w')(c:∀t∈T,t∈a):Kp a o o' w w':=
 ⟨h.os,h.tape,h.output,h.size,fun b d f=>h.cK b d (fun e=>f (c _ e)),h.ext⟩
def Kp.below{oZ}(h:bJ w w'):Kp T oZ oZ w w':=
 ⟨h.os,h.tape,h.output,h.size,fun b a _=>h.block b a,fun _ _=>rfl⟩
def Kp.iQ{o o' a b}(h:Kp T o o' w a)(k:bJ a b):Kp T o o' w b:=h.trans (Kp.below k)
def Kp.drewN{T o o' w a}(h:Kp T o o' w a)(q):Kp T o o' w (a.drewN q):=⟨h.os,h.tape,h.output,h.size,h.cK,h.ext⟩
theorem Kp.set(oZ w a v T)(h:oZ a.block∈T):Kp T oZ oZ w (w.setCell a v):=
 ⟨rfl,rfl,rfl,aR,fun b _ c=>jg _ _ _ _ (fun e=>c (by grind)),fun _ _=>rfl⟩
theorem Kp.alloc(oZ w o T):Kp T oZ oZ w (w.alloc o):=Kp.below ((bP _ w).alloc (aI _) o)
theorem bW{o o'}(h:aS w b t l)(k:Kp T o o' w w')(a:o b∉T):aS w' b t l:=h.of_heap (k.cK b h.lt a)
def GT(oZ:Own)(t:Nat)(e:WK)(k:Nat)(w:Wq)(v:Wx)(n:Nat)(l:bM):Prop:=
 v=nZ/\n=0/\l=[]\/∃g cap a,v=(dB g n cap)/\oZ g=t/\aS w g e a/\cap*k<=a.length/\n<=cap/\cap<=9223372036854775807/\l.length=n*k/\a.take (n*k)=l/\∀v∈a,v.oneCell'=true
theorem GT.kp{oZ aX t}(h:GT oZ t e k w v n l)(K:Kp T oZ aX w w')(i:t∉T):GT aX t e k w' v n l:=by
 rcases h with h|⟨g,cap,b,c,d,a,f⟩;.exact .inl h
 .exact .inr ⟨g,cap,b,c,by rw[K.ext g a.lt,d],bW a K (by grind),f⟩
def GT.len{oZ t}(h:GT oZ t e k w v n l):l.length=n*k:=by
 rcases h with⟨_,rfl,rfl⟩|⟨_,_,_,_,_,_,_,_,_,h,_⟩;.simp
 .exact h
theorem GT.shape{oZ t}(h:GT oZ t e k w v n l):∃a c,v=.slice a n c/\n<=c/\c<=9223372036854775807:=by
 rcases h with⟨rfl,rfl,_⟩|⟨g,cap,cs,rfl,_,_,_,h,h',_⟩;.grind
 grind
theorem GT.cell{oZ t e k w a n c l}(h:GT oZ t e k w (.slice a n c) n l)(j x)(b:l[j]?=some x):∃g,a=some (aA g 0)/\oZ g=t/\g<w.heap.size/\w.cell? (aA g j)=some x/\w.frozen? (aA g j)=false:=by
 rcases h with⟨_,rfl,rfl⟩|⟨g,cap,cs,hv,ho,hB,_,_,_,h4,h5,_⟩;.simp at b
 .simp at hv;refine⟨g,hv.1,ho,hB.lt,?_,hB.frozen j⟩;rw[hB.cell];grind
def GT.VU{oZ t}(h:fO e k w v n l)(i:∀b,v.ownBlock=some b->oZ b=t):GT oZ t e k w v n l:=by
 rcases h with h|⟨g,cap,c,a,d,j,f⟩;.exact .inl h
 .exact .inr ⟨g,cap,c,a,i g (by rw[a];rfl),d,aj,f⟩
def ni(l l':bM)(o n:Nat):Prop:=l'.length=l.length/\∀j,j<o\/o+n<=j->l'[j]?=l[j]?
def ni.refl(l o n):ni l l o n:=⟨rfl,fun _ _=>rfl⟩
def ni.trans{a b c o n}(h:ni a b o n)(k:ni b c o n):ni a c o n:=⟨k.1.trans h.1,fun j d=>(k.2 j d).trans (h.2 j d)⟩
def ni.mono{a b}(h:ni a b o n)(c:o'<=o)(d:o+n<=o'+n'):ni a b o' n':=⟨h.1,fun j e=>h.2 j aj⟩
theorem ni.set(l j v o n)(a:o<=j)(b:j<o+n):ni l (l.set j v) o n:=
 ⟨aR,fun i c=>by grind⟩
abbrev TS:WK:=210
structure nP (R:Nat) (y y':Wq):Prop where
 os:y'.os=y.os
 tape:y'.tape=y.tape
 output:y'.output=y.output
 size:y'.heap.size=y.heap.size
 block:∀k,k≠R->y'.heap[k]?=y.heap[k]?
def nP.refl(R y):nP R y y:=⟨rfl,rfl,rfl,rfl,fun _ _=>rfl⟩
def nP.set(h:nP R y y')(o v):nP R y (y'.setCell (aA R o) v):=
 ⟨h.os,h.tape,h.output,by rw[<-h.size];simp,fun k a=>(jg y' (aA R o) v k a).trans (h.block k a)⟩
structure gZ (w w':Wq) (S:Nat) (l l':bM) (o n:Nat):Prop where
 os:w'.os=w.os
 tape:w'.tape=w.tape
 output:w'.output=w.output
 size:w.heap.size<=w'.heap.size
 al:∀b,b<w.heap.size->b≠S->w'.heap[b]?=w.heap[b]?
 cK:aS w' S TS l'
 iB:ni l l' o n
def gZ.refl{w S l}(a:aS w S TS l)(o n):gZ w w S l l o n:=⟨rfl,rfl,rfl,aI _,fun _ _ _=>rfl,a,ni.refl _ _ _⟩
def gZ.one(e:aS w S TS l)(j v o n)(c:o<=j)(d:j<o+n):gZ w (w.setCell (aA S j) v) S l (l.set j v) o n:=
 ⟨rfl,rfl,rfl,aR,fun b _ a=>jg _ _ _ _ a,e.setCell j v,ni.set l j v o n c d⟩
def gZ.trans{w f g S l d e o n}(h:gZ w f S l d o n)(k:gZ f g S d e o n):gZ w g S l e o n:=
 ⟨k.os.trans h.os,k.tape.trans h.tape,k.output.trans h.output,dx h.size k.size,fun b c a=>(k.al b (gK c h.size) a).trans (h.al b c a),k.cK,h.iB.trans k.iB⟩
def gZ.mono{w w' S l l' o n o' n'}(h:gZ w w' S l l' o n)(a:o'<=o)(b:o+n<=o'+n'):gZ w w' S l l' o' n':=⟨h.os,h.tape,h.output,h.size,h.al,h.cK,h.iB.mono a b⟩
theorem gZ.kp(h:gZ w w' S l l' o n){s oZ}(d:oZ S=s)(f:s∈T):Kp T oZ oZ w w':=
 ⟨h.os,h.tape,h.output,h.size,fun b a c=>h.al b a (fun e=>c (by grind)),fun _ _=>rfl⟩
def Kp.drew{T o o' w a}(h:Kp T o o' w a):Kp T o o' w a.drew:=⟨h.os,h.tape,h.output,h.size,h.cK,h.ext⟩
def gZ.drew{w w' S l l' o n}(h:gZ w w' S l l' o n):gZ w w'.drew S l l' o n:=⟨h.os,h.tape,h.output,h.size,h.al,h.cK.drew,h.iB⟩
def gZ.drewN{w w' S l l' o n}(h:gZ w w' S l l' o n)(q):gZ w (w'.drewN q) S l l' o n:=⟨h.os,h.tape,h.output,h.size,h.al,h.cK,h.iB⟩
def gZ.after{W}(k:bJ w W)(h:gZ W w' S l l' o n):gZ w w' S l l' o n:=
 ⟨h.os.trans k.os,h.tape.trans k.tape,h.output.trans k.output,dx k.size h.size,fun b c a=>(h.al b (gK c k.size) a).trans (k.block b c),h.cK,h.iB⟩
def gZ.iQ(h:gZ w d S l l' o n)(k:bJ d w'):gZ w w' S l l' o n:=
 ⟨k.os.trans h.os,k.tape.trans h.tape,k.output.trans h.output,dx h.size k.size,fun b c a=>(k.block b (gK c h.size)).trans (h.al b c a),h.cK.of_heap (k.block _ h.cK.lt),h.iB⟩
def gZ.tch(h:gZ w d S l l' o n)(t:nP R d w')(f:w.heap.size<=R)(a:S≠R):gZ w w' S l l' o n:=
 ⟨t.os.trans h.os,t.tape.trans h.tape,t.output.trans h.output,by rw[t.size];exact h.size,fun b e c=>(t.block b aj).trans (h.al b e c),h.cK.of_heap (t.block _ a),h.iB⟩
def gZ.other(h:gZ w w' S l l' o n){m}(c:aS w b t m)(a:b≠S):aS w' b t m:=c.of_heap (h.al b c.lt a)
def loc(oZ:Own)(n:Nat):Own:=fun b=>if b<n then oZ b else 0
theorem jW(oZ n b)(h:b<n):loc oZ n b=oZ b:=dN h
def jF(oZ n b)(h:n<=b):loc oZ n b=0:=b_ aj
structure zQ (l:bM) (o:Nat) (g:Gn):Prop where
 c0:l[o]?=some (uZ g.ahead)
 c1:l[o+1]?=some (uZ g.eF)
 c2:l[o+2]?=some (uZ g.eH)
 c3:l[o+3]?=some (uZ g.aT)
def zQ.iB{g}(h:zQ l o g)(w:ni l l' o' n')(a:o+4<=o'\/o'+n'<=o):zQ l' o g:=
 ⟨by rw[w.2 _ aj,h.c0],by rw[w.2 _ aj,h.c1],by rw[w.2 _ aj,h.c2],by rw[w.2 _ aj,h.c3]⟩
structure zR (l:bM) (o:Nat) (n:Nt):Prop where
 c0:l[o]?=some (.bool n.bG)
 c1:l[o+1]?=some (uZ n.aC)
 c2:l[o+2]?=some (uZ n.eH)
 c3:l[o+3]?=some (uZ n.aT)
def zR.iB{g}(h:zR l o g)(w:ni l l' o' n')(a:o+4<=o'\/o'+n'<=o):zR l' o g:=
 ⟨by rw[w.2 _ aj,h.c0],by rw[w.2 _ aj,h.c1],by rw[w.2 _ aj,h.c2],by rw[w.2 _ aj,h.c3]⟩
theorem max2(a b:Nat):∃m:Nat,(∀c t w,(fE c t #[uZ a,uZ b]).run prog w=.ok (uZ m) w)/\m=max a b:=by refine⟨max a b,fun c t w=>?_,rfl⟩;simp only[fE,Cu,Cv,nU];grind [mK,mR,Result.andThen_ok,Nat.max_eq_right,tu]
theorem min2(a b:Nat):∃m:Nat,(∀c t w,(l9 c t #[uZ a,uZ b]).run prog w=.ok (uZ m) w)/\m=min a b:=by refine⟨min a b,fun c t w=>?_,rfl⟩;simp only[l9,Cu,Cv,nV];grind [mK,mR,Result.andThen_ok,Nat.min_eq_right,tu]
theorem Uu(a b):∃m,(∀c t w,(l9 c t #[iZ a,iZ b]).run prog w=.ok (iZ m) w)/\m=min a b:=by refine⟨min a b,fun c t w=>?_,rfl⟩;simp only[l9,Cu,Cv,nV];grind [mK,mR,Result.andThen_ok,Int.min_eq_right,Int.le_of_lt]
theorem qj9(a b):∃m,(∀c t w,(fE c t #[iZ a,iZ b]).run prog w=.ok (iZ m) w)/\m=max a b:=by refine⟨max a b,fun c t w=>?_,rfl⟩;simp only[fE,Cu,Cv,nU];grind [mK,mR,Result.andThen_ok,Int.max_eq_right,Int.le_of_lt]
def kC(y:Wq)(R:Nat)(a b c d e f g h i j:Wx):Wq:=
 (((((((((y.setCell (aA R 0) a).setCell (aA R 1) b).setCell (aA R 2) c).setCell (aA R 3) d).setCell (aA R 4) e).setCell (aA R 5) f).setCell (aA R 6) g).setCell (aA R 7) h).setCell (aA R 8) i).setCell (aA R 9) j
def gX(y R a b c d e f g h i j):(((((((((y.setCell (aA R 0) a).setCell (aA R 1) b).setCell (aA R 2) c).setCell (aA R 3) d).setCell (aA R 4) e).setCell (aA R 5) f).setCell (aA R 6) g).setCell (aA R 7) h).setCell (aA R 8) i).setCell (aA R 9) j=kC y R a b c d e f g h i j:=rfl
def gD{u0 u1 u2 u3 u4 u5 u6 u7 u8 u9}(h:aS y R t [u0,u1,u2,u3,u4,u5,u6,u7,u8,u9])(a b c d e f g i j k):aS (kC y R a b c d e f g i j k) R t [a,b,c,d,e,f,g,i,j,k]:=
 (((((((((h.setCell 0 a).setCell 1 b).setCell 2 c).setCell 3 d).setCell 4 e).setCell 5 f).setCell 6 g).setCell 7 i).setCell 8 j).setCell 9 k
def gF(y R a b c d e f g h i j):nP R y (kC y R a b c d e f g h i j):=
 ((((((((((nP.refl R y).set 0 a).set 1 b).set 2 c).set 3 d).set 4 e).set 5 f).set 6 g).set 7 h).set 8 i).set 9 j
def nP.below{B}(t:nP R y y')(h:Below B w y)(b:B<=R):Below B w y':=
 ⟨t.os.trans h.os,t.tape.trans h.tape,t.output.trans h.output,by have:=h.size;rw[t.size];exact this,fun k a=>(t.block k aj).trans (h.block k a)⟩
def nP.kp{o o'}(t:nP R y y')(h:Kp T o o' w y)(c:w.heap.size<=R):Kp T o o' w y':=
 ⟨t.os.trans h.os,t.tape.trans h.tape,t.output.trans h.output,by rw[t.size];exact h.size,fun k a b=>(t.block k aj).trans (h.cK k a b),h.ext⟩
theorem cZ(l:bM)(j v x)(h:l[j]?=some x):(l.set j v)[j]?=some v:=by grind
def ay(l:bM)(j i v)(h:j≠i):(l.set j v)[i]?=l[i]?:=Ay h
end Go.Proofs.YtphbledmopchnaaGreatDoor.Sd
namespace Go.Proofs.YtphbledmopchnaaGreatDoor.Sd
open Go.RowKit Go.Lib Mm St Tryz
variable {W w w':Wq}{a b c d e f g j n:Nat}{base:Option XK}{l:bM}{rs:bY}
def uU(w:Wq)(e a:Nat)(l:bM)(b:Int)(d:Nat)(base:Option XK)(n c:Nat):Prop:=
 aS w e TS l/\l[a]?=some (iZ b)/\l[a+1]?=some (uZ d)/\l[a+2]?=some (.slice base n c)
def uU.of{b}(h:uU w a f l b d base n c)(e:w'.heap[a]?=w.heap[a]?):uU w' a f l b d base n c:=⟨h.1.of_heap e,h.2⟩
def uU.cell0{a}(h:uU w d b l a e base n c):w.cell? (aA d b)=some (iZ a):=by rw[h.1.cell];exact h.2.1
def uU.JO{e}(h:uU w d b l e a base n c):w.cell? (aA d (b+1))=some (uZ a):=by rw[h.1.cell];exact h.2.2.1
def uU.qD{d}(h:uU w b a l d e base n c):w.cell? (aA b (a+2))=some (.slice base n c):=by rw[h.1.cell];exact h.2.2.2
def Ep(w:Wq)(a e:Nat)(l:bM)(b:Int)(d:Nat)(rs:bY)(row:Option Nat):Prop:=
 ∃base c,uU w a e l b d base rs.length c/\rs.length<=c/\c<=9223372036854775807/\row=base.map (·.block)/\mG w a base c rs
def LH(w:Wq)(e b:Nat)(l:bM)(c:Int)(d:Nat)(rs:bY)(row:Option Nat):Prop:=
 ∃a,Ep w e b a c d rs row/\ni l a b 3
def Ro(f e j g b c n i d x:Nat)(W)(s:i<n)(_hn:n<4611686018427387904)(cs:W.cell? (aA f 0)=some (aK j g))(p:W.cell? (aA e 0)=some (uZ d))(o:W.cell? (aA j (g+2))=some (dB b n c))(r:W.cell? (aA b (i*2+1))=some (uZ x))(a:d<18446744073709551616)(l:x<18446744073709551616):bN 221 (#[iZ i]++#[aK f 0,aK e 0]) W (.bool (!decide (x+1<d))) fun m=>∃q,m=W.drewN q:=by have k:(i:Int)<(n:Int):=aj;go_enter func221,ntmps221;go_wp2;go_quiet ((go_at_call 222;exact nC (St.JI _ _ l a _)));go_wp2;go_ret;exact⟨rfl,nq,rfl⟩
def Rp(f e j g b c n i d x:Nat)(W)(k:i<n)(_hn:n<4611686018427387904)(cs:W.cell? (aA f 0)=some (aK j g))(r:W.cell? (aA e 1)=some (uZ d))(p:W.cell? (aA j (g+2))=some (dB b n c))(s:W.cell? (aA b (i*2))=some (uZ x))(a:d<18446744073709551616)(m:x<18446744073709551616):bN 223 (#[iZ i]++#[aK e 0,aK f 0]) W (.bool (decide (d+1<x))) fun o=>∃q,o=W.drewN q:=by have l:(i:Int)<(n:Int):=aj;go_enter func223,ntmps223;go_wp2;go_quiet ((go_at_call 222;exact nC (St.JI _ _ a m _)));go_wp2;go_ret;exact⟨rfl,nq,rfl⟩
def VW(d a f e b c n i v x:Nat)(W)(g:i<n)(_hn:n<4611686018427387904)(cs:W.cell? (aA d 0)=some (aK f e))(m:W.cell? (aA a 0)=some (uZ v))(l:W.cell? (aA f (e+2))=some (dB b n c))(o:W.cell? (aA b (i*2+1))=some (uZ x)):bN 172 (#[iZ i]++#[aK d 0,aK a 0]) W (.bool (decide (v<=x))) fun k=>∃q,k=W.drewN q:=by have j:(i:Int)<(n:Int):=aj;go_enter func172,ntmps172;go_wp2;go_quiet (fail);go_wp2;go_ret;exact⟨St.dQ aR,nq,rfl⟩
theorem N8(g f n d:Nat)(u:Rg.gP rs)(t:Small rs)(z:rs.length<=1000000)(l:d<18446744073709551616)(cs:W.cell? (aA g 0)=some (aK e n))(p:W.cell? (aA f 0)=some (uZ d))(o:W.cell? (aA e (n+2))=some (.slice base rs.length c))(R:mG W e base c rs):bN 171 #[(iZ (rs.length:Nat)),.func (.func 221) #[] #[aK g 0,aK f 0]] W (iZ (Rg.l7 d rs:Nat)) fun x=>∃q,x=W.drewN q:=by
 have w:(fB rs.length).countP (fun i=> !(!decide ((rs.getD i (0,0)).2+1<d)))=Rg.l7 d rs:=by simp only[Bool.not_not];exact n_ rs (fun r=>decide (r.2+1<d))
 rw[<-w];refine zN 221 _ rs.length (fun i=> !decide ((rs.getD i (0,0)).2+1<d)) W (enters_of func221 bZ rfl) aj (fun m i k=>?_) (fun a b j v h=>?_);.obtain⟨b,rfl,_,_,s,y⟩:=R.sI k;exact Ro g f e n b c rs.length i d _ (W.drewN m) k aj cs p o s l (t.get k).2
 .have:=(uR u j v).2;grind
theorem N_(j g n d:Nat)(W)(t:Rg.gP rs)(s:Small rs)(y:rs.length<=1000000)(l:d<18446744073709551616)(cs:W.cell? (aA j 0)=some (aK f n))(p:W.cell? (aA g 1)=some (uZ d))(o:W.cell? (aA f (n+2))=some (.slice base rs.length c))(R:mG W f base c rs):bN 171 #[(iZ (rs.length:Nat)),.func (.func 223) #[] #[aK g 0,aK j 0]] W (iZ (Rg.jU d rs:Nat)) fun w=>∃q,w=W.drewN q:=by
 have v:(fB rs.length).countP (fun i=> !(decide (d+1<(rs.getD i (0,0)).1)))=Rg.jU d rs:=by grind [n_,Rg.jU,nI]
 rw[<-v];refine zN 223 _ rs.length (fun i=>decide (d+1<(rs.getD i (0,0)).1)) W (enters_of func223 bZ rfl) aj (fun m i e=>?_) (fun a b k u h=>?_);.obtain⟨b,rfl,_,_,x,r⟩:=R.sI e;exact Rp j g f n b c rs.length i d _ (W.drewN m) e aj cs p o r l (s.get e).1
 .have:=(uR t k u).1;grind
theorem Y5(f e j v:Nat)(p:Rg.gP rs)(x:rs.length<=1000000)(cs:W.cell? (aA f 0)=some (aK d j))(n:W.cell? (aA e 0)=some (uZ v))(l:W.cell? (aA d (j+2))=some (.slice base rs.length c))(R:mG W d base c rs):bN 171 #[(iZ (rs.length:Nat)),.func (.func 172) #[] #[aK f 0,aK e 0]] W (iZ (rs.countP (fun r=>decide (r.2<v)):Nat)) fun u=>∃q,u=W.drewN q:=by
 have t:(fB rs.length).countP (fun i=> !(decide (v<=(rs.getD i (0,0)).2)))=rs.countP (fun r=>decide (r.2<v)):=by grind [n_,nI]
 rw[<-t];refine zN 172 _ rs.length (fun i=>decide (v<=(rs.getD i (0,0)).2)) W (enters_of func172 bZ rfl) aj (fun m i k=>?_) (fun a b g s h=>?_);.obtain⟨b,rfl,_,_,o,w⟩:=R.sI k;exact VW f e d j b c rs.length i v _ (W.drewN m) k aj cs n l o
 .have:=(uR p g s).2;grind
theorem Rq{o s t rs' l'}(u:uU w d j l s t base rs.length c)(R:mG w d base c rs)(h:bJ w o)(y:aS w' a 170 l')(z:l'.length=2*g)(A:rs'.length<=g)(B:g<=9223372036854775807)(C:l'.take (2*rs'.length)=St.bX rs')(D:∀v∈l',v.oneCell'=true)(i:o.grownBy w' (base.map (·.block)))(G:some a=base.map (·.block)\/o.heap.size<=a):LH (w'.setCell (aA d (j+2)) (dB a rs'.length g)) d j l s t rs' (some a)/\Kept w (w'.setCell (aA d (j+2)) (dB a rs'.length g)) d (base.map (·.block))/\(some a=base.map (·.block)\/w.heap.size<=a):=by
 have q:=u.1.lt;have F:=h.size;have n:∀k,base.map (·.block)=some k->k≠d:=by
  intro k p;rcases R with⟨rfl,_⟩|⟨b,l,rfl,E,_⟩;.cases p
  grind
 have m:a≠d:=by grind
 have f:=
  (u.of (h.block d q)).of (i.block d aj (fun e=>n d e.symm rfl))
 refine⟨⟨l.set (j+2) (dB a rs'.length g),⟨some (aA a 0),g,⟨f.1.setCell (j+2) _,by rw[ay _ _ _ _ aj];exact f.2.1,by rw[ay _ _ _ _ aj];exact f.2.2.1,cZ _ _ _ _ f.2.2.2⟩,A,B,rfl,.inr ⟨a,l',rfl,m,y.kH _ _ m,z,C,D⟩⟩,ni.set _ _ _ _ _ aj aj⟩,⟨?_,?_,?_,?_,?_⟩,?_⟩;.exact i.os.trans h.os
 .exact i.tape.trans h.tape
 .exact i.output.trans h.output
 .have:=i.size;show w.heap.size<=(w'.heap.modify _ _).size;simp;omega
 .intro k p r x;rw[jg _ _ _ _ r,i.block k aj x,h.block k p]
 grind
theorem zm(q d a C D l W6)(F:Rg.gP rs)(J:rs.length<=1000000)(u:d<=a)(K:uU w j q l C D base rs.length c)(R:mG w j base c rs)(G:rs.length<=c)(n:c<=9223372036854775807)(m:bJ w W6)(g)(i:g.heap=(W6.alloc (.cells #[(uZ ((Rg.Lh d a rs).1:Int)),(uZ ((Rg.Lh d a rs).2:Int))] 170)).heap)(x:g.os=W6.os)(z:g.tape=W6.tape)(y:g.output=W6.output):Calls prog 224 #[.slice base rs.length c,(iZ (Rg.l7 d rs:Nat)),(iZ (Rg.jU a rs:Nat)),dB W6.heap.size 1 1] g fun e r=>
   ∃h o,e=.returned (dB h (Rg.ins d a rs).length o)/\(LH (r.setCell (aA j (q+2)) (dB h (Rg.ins d a rs).length o)) j q l C D (Rg.ins d a rs) (some h)/\Kept w (r.setCell (aA j (q+2)) (dB h (Rg.ins d a rs).length o)) j (base.map (·.block))/\(some h=base.map (·.block)\/w.heap.size<=h))
    /\g.grownBy r (base.map (·.block)):=by
 have B:=Rg.AY u F;have t:=Rg.Ez a rs;have N:=m.size;have I:=K.1.lt;have A:=
  (aS.new W6 170 _).of_heap (by rw[i])
 have s:bJ w g:=⟨x.trans m.os,z.trans m.tape,y.trans m.output,by rw[i];simp;omega,fun k H=>by rw[i,mJ _ _ _ aj];exact m.block k H⟩;have f:Rg.l7 d rs+1+(rs.length-Rg.jU a rs)=(Rg.ins d a rs).length:=by grind [Rg.Li]
 have p:St.bX (Rg.ins d a rs)=(St.bX rs).take (2*Rg.l7 d rs)++[(uZ ((Rg.Lh d a rs).1:Int)),(uZ ((Rg.Lh d a rs).2:Int))]++(St.bX rs).drop (2*Rg.jU a rs):=by grind [Rg.Li,St.kV,St.DK,St.DL,St.bX]
 refine(NR base rs.length c (Rg.l7 d rs) (Rg.jU a rs) (St.bX rs) [(uZ ((Rg.Lh d a rs).1:Int)),(uZ ((Rg.Lh d a rs).2:Int))] B t G n J ?_ A rfl ?_).mono ?_
 .rcases R with⟨rfl,rfl,rfl⟩|⟨b,l,h1,h2,h3,h4,h5,h6⟩;.exact .inl ⟨rfl,rfl,rfl,rfl⟩
  .have:=h3.lt;exact .inr ⟨b,l,h1,h3.of_heap (s.block b h3.lt),h4,h5.symm,aj,h6⟩
 .intro v E;simp at E;rcases E with rfl|rfl<;>rfl
 .rintro e r ⟨h,o,O,rfl,P,Q,L,S,M,T,U,V⟩;rw[f]at L M;rw[f];grind [Rq]
theorem DU{W6 A B a b}(s:uU w d g l A B base n c)(m:∀k,base.map (·.block)=some k->k≠d/\k<w.heap.size)(C:bJ w W6)(q:aS W6 w.heap.size 273 [aK d g])(p:aS W6 (w.heap.size+1) 170 [uZ a,uZ b]):W6.cell? (aA w.heap.size 0)=some (aK d g)/\W6.cell? (aA (w.heap.size+1) 0)=some (uZ a)/\W6.cell? (aA (w.heap.size+1) 1)=some (uZ b)/\W6.cell? (aA d (g+2))=some (.slice base n c)/\d<W6.heap.size/\w.heap.size<W6.heap.size/\w.heap.size+1<W6.heap.size/\(∀(j f:Wq) (o),j.heap=(W6.alloc o).heap->j.grownBy f (base.map (·.block))->(f.cell? (aA w.heap.size 0)=some (aK d g)/\f.cell? (aA (w.heap.size+1) 0)=some (uZ a)/\f.cell? (aA (w.heap.size+1) 1)=some (uZ b))/\f.cell? (aA d (g+2))=some (.slice base n c)/\f.frozen? (aA d (g+2))=false):=by
 have i:=s.of (C.block d s.1.lt);have v:=q.lt;have x:=p.lt;have y:=i.1.lt;have F:=s.1.lt;refine⟨q.cell 0,p.cell 0,p.cell 1,i.qD,y,v,x,?_⟩;intro j f o D r;have e:∀k,k<W6.heap.size->j.heap[k]?=W6.heap[k]?:=fun k E=>by grind [Below.heap_alloc]
 have G:W6.heap.size<=j.heap.size:=by grind
 have z:aS f w.heap.size 273 _:=(q.of_heap (e _ v)).of_heap (r.block _ aj (fun h=>by grind));have t:=(i.of (e _ y)).of (r.block _ aj (fun h=>(m _ h.symm).1 rfl));have u:aS f (w.heap.size+1) 170 _:=(p.of_heap (e _ x)).of_heap (r.block _ aj (fun h=>by grind));exact⟨⟨z.cell 0,u.cell 0,u.cell 1⟩,t.qD,t.1.frozen (g+2)⟩
theorem Y6(f v:Nat)(O o l)(Q:Rg.gP rs)(T:rs.length<=1000000)(q:uU w e f l O o base rs.length c)(R:mG w e base c rs):bN 128 #[aK e f,uZ v] w (.bool (decide (v<o)||Rg.has v rs)) fun M=>bJ w M:=by
 obtain⟨W,F⟩:=bU ((w.alloc (.cells #[aK e f] 273)).alloc (.cells #[uZ v] 43));have k:aS W w.heap.size 273 [aK e f]:=by rw[F];exact(aS.new w 273 _).alloc _
 have j:aS W (w.heap.size+1) 43 [uZ v]:=by grind [aS.new,World.size_alloc]
 have A:bJ w W:=by rw[F];exact((bP _ w).alloc (aI _) _).alloc aR _
 have g:=q.of (A.block e q.1.lt);have C:=R.of_heap (fun b G=>A.block b (rz R b (by rw[G];rfl)).2);have J:=Y5 w.heap.size (w.heap.size+1) f v Q T (k.cell 0) (j.cell 0) (g.qD) C;have H:=q.qD;have S:=q.1.lt;have d:=aG (show Rg.has v rs=(decide (rs.countP (fun r=>decide (r.2<v))<rs.length)&&decide ((rs.getD (rs.countP (fun r=>decide (r.2<v))) (0,0)).1<=v))from rfl);have E:rs.countP (fun r=>decide (r.2<v))<=rs.length:=List.countP_le_length;generalize rs.countP (fun r=>decide (r.2<v))=I at J d E;have s:W.cell? (aA w.heap.size 0)=some (aK e f):=k.cell 0;have t:W.cell? (aA (w.heap.size+1) 0)=some (uZ v):=j.cell 0;have u:=g.JO;have y:=g.qD;have K:=aG J;have m:=aG A;have p:=aG (dz s (dz t (dz u y)));have L:=aG C;clear J A C k j g q s t u y R;subst F;go_enter func128,ntmps128;go_wp2_with fail;refine bK K.out ?_;rintro M ⟨V,rfl⟩;go_wp2_with fail;generalize i:((w.alloc (.cells #[aK e f] 273)).alloc (.cells #[uZ v] 43)).drewN V=n;obtain⟨s,t,u,y⟩:=p.out;have a:Hid (bJ w n):=by rw[<-i];exact⟨m.out.os,m.out.tape,m.out.output,m.out.size,m.out.block⟩
 have Z:n.cell? (aA w.heap.size 0)=some (aK e f):=by rw[<-i];exact s
 have j1:n.cell? (aA (w.heap.size+1) 0)=some (uZ v):=by rw[<-i];exact t
 have j2:n.cell? (aA e (f+1))=some (uZ o):=by rw[<-i];exact u
 have j3:n.cell? (aA e (f+2))=some (.slice base rs.length c):=by rw[<-i];exact y
 have B:Hid (mG n e base c rs):=by rw[<-i];exact mG.of_heap L.out (fun _ _=>rfl)
 clear i p s t u y K L m H;by_cases z:v<o;.have P:(v:Int)<(o:Int):=aj;have N:=aG z;clear z;go_quiet (fail);go_wp2;go_ret;exact⟨St.dQ (by simp[N.out]),a.out.os,a.out.tape,a.out.output,a.out.size,a.out.block⟩
 .have P:decide ((v:Int)<(o:Int))=false:=dZ;by_cases D:I<rs.length;.have Y:(I:Int)<((rs.length:Nat):Int):=aj;obtain⟨b,G,_,_,_,U⟩:=B.out.sI D;subst G;generalize (rs.getD I (0,0)).1=x at U d;go_quiet (fail);go_wp2;go_ret;exact⟨St.dQ (by rw[d.out];simp[z,D]),a.out.os,a.out.tape,a.out.output,a.out.size,a.out.block⟩
  .have X:decide ((I:Int)<((rs.length:Nat):Int))=false:=dZ;go_quiet (fail);go_wp2;go_ret;exact⟨St.dQ (by rw[d.out];simp[z,D]),a.out.os,a.out.tape,a.out.output,a.out.size,a.out.block⟩
