import Derived.Test.YtphbledmopchnaaGreatDoorVab
import Derived.Laws.Rows
open Go.Builtin renaming max_->fB,min_->fE,max2->mK,min2->mR
open List renaming replicate->eT,range->fA,take->mE
open Prod renaming fst->eB,snd->nI
open Go.RowKit renaming intOf->kg
set_option maxHeartbeats 2000000
set_option maxRecDepth 100000
open Go renaming World->Wq,Value->WA,TypeId->Vg,Addr->V3
set_option linter.all false
namespace Go.Proofs.YtphbledmopchnaaGreatDoor
open Go.RowKit Go.Lib Go.Shelf Mm Tryz
variable {B B0:Nat}{v v':WA}{w w':Wq}
def Cb(b a:Nat)(w:Wq):qH 279 #[aJ b a] w (aJ b (a+2)) fun c=>c=w:=by go_enter func279,ntmps279;go_wp2;go_ret;exact⟨rfl,rfl⟩
def xX(b a:Nat)(w:Wq):qH 280 #[aJ b a] w (aJ b (a+3)) fun c=>c=w:=by go_enter func280,ntmps280;go_wp2;go_ret;exact⟨rfl,rfl⟩
def Fb(b a:Nat)(w:Wq):qH 283 #[aJ b a] w (aJ b (a+4)) fun c=>c=w:=by go_enter func283,ntmps283;go_wp2;go_ret;exact⟨rfl,rfl⟩
def U5(b a:Nat)(w:Wq):qH 284 #[aJ b a] w (aJ b (a+6)) fun c=>c=w:=by go_enter func284,ntmps284;go_wp2;go_ret;exact⟨rfl,rfl⟩
def xY(b a:Nat)(w:Wq):qH 285 #[aJ b a] w (aJ b (a+7)) fun c=>c=w:=by go_enter func285,ntmps285;go_wp2;go_ret;exact⟨rfl,rfl⟩
def fieldAt(f:Fr)(a:Nat):Nat:=if a=279 then f.aC else if a=280 then f.aN else if a=283 then f.aT else if a=284 then f.id else f.aH
def dx(f:Fr)(a:Nat×Nat):List UInt8:=
 if a.1=0 then[UInt8.ofNat a.2]else if a.1=1 then[if f.bG then 9 else 8]else if a.1=2 then Num.aB f.aG.toNat else if a.1=3 then Num.aB (fieldAt f a.2)
 else if a.1=4 then Num.aB f.data.size++f.data.data.toList else gV f.ranges
def dz(k:Int):bZ:=
 if k=1 then[(0,1)]else if k=2 then[(0,2),(5,0)]else if k=3 then[(0,36),(2,0),(3,279),(3,280)]else if k=4 then[(1,0),(2,0),(3,279),(4,0)]else if k=5 then[(0,16),(3,283)]else if k=6 then[(0,17),(2,0),(3,283)]else if k=7 then[(0,48),(3,284),(3,285),(4,0)]else[(0,28),(3,283)]
def aX(f:Fr):List UInt8:=dR ((dz f.aD).map (dx f)) (dz f.aD).length
def Ju(f:Fr)(a:Nat×Nat):Prop:=
 (a.1=0/\a.2<256)\/a.1=1\/a.1=2\/(a.1=3/\(a.2=279\/a.2=280\/a.2=283\/a.2=284\/a.2=285))\/a.1=4\/(a.1=5/\sG f.ranges=true)
structure Fit (f:Fr):Prop where
 s0:0<=f.aG
 s8:f.aG<8
 n0:f.aC<=dH
 n1:f.aN<=dH
 n2:f.aT<=dH
 n3:f.id<=dH
 n4:f.aH<=dH
def sI(f:Fr)(h:snd f=true):Fit f/\1<=f.aD/\f.aD<=8/\ny f=true:=by unfold snd qy at h;simp only[qmg]at h;obtain⟨⟨⟨j,⟨⟨⟨⟨c,d⟩,e⟩,g⟩,i⟩⟩,k⟩,l⟩:=h;have a:=of_decide_eq_true j;have b:=of_decide_eq_true k;exact⟨⟨b.1,b.2,of_decide_eq_true c,of_decide_eq_true d,of_decide_eq_true e,of_decide_eq_true g,of_decide_eq_true i⟩,a.1,a.2,l⟩
def O9{t:Wq}{d:Nat×Nat}{u:WA}(x:jL B0 t d u v)(b a:Nat)(f:Fr)(k:Option V3)(g:Nat)(m:Fit f)(n:Ju f d)(r:f.ranges.length<=g):Wr B0 t.heap.size t u (dx f d) b a f k g:=by
 unfold dx;rcases x with⟨h,o,j,i,_⟩|⟨h,i,_⟩|⟨h,i,_⟩|⟨h,o,j,i,_⟩|⟨h,i,_⟩|⟨h,i,_⟩
 ·rw[bM h,i];have s:d.2<256:=by rcases n with e|e|e|e|e|e<;>omega
  exact U0 o (UInt8.ofNat d.2) b a f k g j.1 (qmf _ _ j.2) (by rw[qqy s];exact j.2)
 ·rw[aV aj,bM h,i];exact GA b a f k g
 ·rw[aV aj,aV aj,bM h,i];exact QV b a f k g m.s0 m.s8
 ·rw[aV aj,aV aj,aV aj,bM h,i];have q:d.2=279\/d.2=280\/d.2=283\/d.2=284\/d.2=285:=by
   rcases n with e|e|e|e|e|e;·omega
   ·omega
   ·omega
   ·exact e.2
   ·omega
   ·omega
  have p:=qmf _ _ j.2;have c:=j.2;rcases q with e|e|e|e|e;·rw[e]at c ⊢;exact rC o 279 2 f.aC b a f k g j.1 p c (enters_of func279 bO rfl) (Cb b a) (fun w l=>l.c2) m.n0
  ·rw[e]at c ⊢;exact rC o 280 3 f.aN b a f k g j.1 p c (enters_of func280 bO rfl) (xX b a) (fun w l=>l.c3) m.n1
  ·rw[e]at c ⊢;exact rC o 283 4 f.aT b a f k g j.1 p c (enters_of func283 bO rfl) (Fb b a) (fun w l=>l.c4) m.n2
  ·rw[e]at c ⊢;exact rC o 284 6 f.id b a f k g j.1 p c (enters_of func284 bO rfl) (U5 b a) (fun w l=>l.c6) m.n3
  ·rw[e]at c ⊢;exact rC o 285 7 f.aH b a f k g j.1 p c (enters_of func285 bO rfl) (xY b a) (fun w l=>l.c7) m.n4
 ·rw[aV aj,aV aj,aV aj,aV aj,bM h,i];exact Y_ b a f k g
 ·rw[aV aj,aV aj,aV aj,aV aj,aV aj,i];have y:sG f.ranges=true:=by
   rcases n with e|e|e|e|e|e;·omega
   ·omega
   ·omega
   ·omega
   ·omega
   ·exact e.2
  exact QW b a f k g y r
def qdr{k:Wq}{d:bZ}{z C:WA}(E:U4 B0 k d z C)(o:d.length<=100)(b m:Nat)(f:Fr)(y:Option V3)(u:Nat)(F:Fit f)(w:∀t∈d,Ju f t)(x:f.ranges.length<=u)(q:0<d.length):Wr B0 k.heap.size k z (dR (d.map (dx f)) d.length) b m f y u:=by
 obtain⟨H,r,rfl,_,v,G,l⟩:=E;have n:∃i s:Nat->WA,∀j,j<d.length->k.cell? (ay r (j*2))=some (i j)/\k.cell? (ay r (j*2+1))=some (s j)/\jL B0 k (d.getD j (0,0)) (i j) (s j):=by refine⟨fun j=>(k.cell? (ay r (j*2))).getD undef,fun j=>(k.cell? (ay r (j*2+1))).getD undef,fun j g=>?_⟩;obtain⟨a,c,A,B,D⟩:=l j g;refine⟨by simp[A],by simp[B],?_⟩;simpa[A,B]using D
 obtain⟨i,s,hF⟩:=n;have p:∀j,j<d.length->d.getD j (0,0)∈d:=fun j g=>by rw[qly,qm3 g];exact qmz _
 refine MO H r d.length i s _ b m f y u o v.1 (qmf _ _ v.2) G (qmf _ _ (hF 0 q).1) v.2 (fun j g=>⟨(hF j g).1,(hF j g).2.1⟩) (fun j g=>?_) (fun j g=>?_);·rcases(hF j g).2.2 with⟨_,I,_,_,h⟩|⟨_,_,h⟩|⟨_,_,h⟩|⟨_,I,_,_,h⟩|⟨_,_,h⟩|⟨_,_,h⟩<;>exact⟨_,_,h⟩
 ·have:=O9 (hF j g).2.2 b m f y u F (w _ (p j g)) x;have e:(d.map (dx f)).getD j []=dx f (d.getD j (0,0)):=by simp[g]
  rw[e];exact this
def Jv(B0:Nat)(w:Wq)(k:Int)(b a:WA):Prop:=k=1/\jL B0 w (0,1) b a\/k≠1/\U4 B0 w (dz k) b a
def Zi(w:Wq):Calls prog 217 #[iZ 1] w fun e n=>∃m l,e=.returned (.agg #[m,l])/\jL (w.heap.size+1) n (0,1) m l/\bE w n:=by
 go_enter qoj,qoi;go_wp2_with fail;refine(kr 1 _ rfl _).mono ?_;rintro e u ⟨r,q,rfl,a,c⟩;have k:Hid (Below (w.heap.size+1) (w.alloc (.cells #[.nilFunc,.nilFunc] 318)) u):=c.mono aM;have s:=aF (a.mono (B0:=w.heap.size+1) aM);obtain⟨o,p,x,y⟩:=lJ k.out;have d:∃i f j g,r=.func (.func i) #[] f/\q=.func (.func j) #[] g:=by rcases a with⟨_,t,_,h,b⟩|⟨_,h,b⟩|⟨_,h,b⟩|⟨_,t,_,h,b⟩|⟨_,h,b⟩|⟨_,h,b⟩<;>exact⟨_,_,_,_,h,b⟩
 obtain⟨i,f,j,g,rfl,rfl⟩:=d;clear a c;go_wp2_with fail;obtain⟨f1,f2⟩:=lI k.out (.func (.func i) #[] f) (.func (.func j) #[] g);exact bodyPost_ret (v:=.agg #[.func (.func i) #[] f,.func (.func j) #[] g]) (by simp[results,qog,go_sem,o,p]) rfl ⟨_,_,rfl,s.out.of f2,f1⟩
def sJ(k:Int)(c:1<=k)(i:k<=8)(w:Wq):Calls prog 217 #[iZ k] w fun e g=>∃b a,e=.returned (.agg #[b,a])/\Jv (w.heap.size+1) g k b a/\bE w g:=by
 have h:k=1\/k=2\/k=3\/k=4\/k=5\/k=6\/k=7\/k=8:=aj;rcases h with rfl|rfl|rfl|rfl|rfl|rfl|rfl|rfl;·exact(Zi w).mono (fun e g ⟨b,a,c,d,f⟩=>⟨b,a,c,.inl ⟨rfl,d⟩,f⟩)
 ·exact(Zb w).mono (fun e g ⟨b,a,c,d,f⟩=>⟨b,a,c,.inr ⟨gP,d⟩,f⟩)
 ·exact(Zc w).mono (fun e g ⟨b,a,c,d,f⟩=>⟨b,a,c,.inr ⟨gP,d⟩,f⟩)
 ·exact(Zd w).mono (fun e g ⟨b,a,c,d,f⟩=>⟨b,a,c,.inr ⟨gP,d⟩,f⟩)
 ·exact(Ze w).mono (fun e g ⟨b,a,c,d,f⟩=>⟨b,a,c,.inr ⟨gP,d⟩,f⟩)
 ·exact(Zf w).mono (fun e g ⟨b,a,c,d,f⟩=>⟨b,a,c,.inr ⟨gP,d⟩,f⟩)
 ·exact(Zg w).mono (fun e g ⟨b,a,c,d,f⟩=>⟨b,a,c,.inr ⟨gP,d⟩,f⟩)
 ·exact(Zh w).mono (fun e g ⟨b,a,c,d,f⟩=>⟨b,a,c,.inr ⟨gP,d⟩,f⟩)
def Pb(f:Fr)(h:snd f=true):∀t∈dz f.aD,Ju f t:=by
 obtain⟨_,d,g,b⟩:=sI f h;have h:f.aD=1\/f.aD=2\/f.aD=3\/f.aD=4\/f.aD=5\/f.aD=6\/f.aD=7\/f.aD=8:=aj;intro t a;unfold Ju;rcases h with e|e|e|e|e|e|e|e;·rw[e,show dz 1=[(0,1)]from rfl]at a;simp at a;subst a;simp
 ·rw[e,show dz 2=[(0,2),(5,0)]from rfl]at a;have c:sG f.ranges=true:=by unfold ny at b;rw[bM e]at b;exact b
  simp at a;rcases a with rfl|rfl<;>simp[c]
 ·rw[e,show dz 3=[(0,36),(2,0),(3,279),(3,280)]from rfl]at a;simp at a;rcases a with rfl|rfl|rfl|rfl<;>simp
 ·rw[e,show dz 4=[(1,0),(2,0),(3,279),(4,0)]from rfl]at a;simp at a;rcases a with rfl|rfl|rfl|rfl<;>simp
 ·rw[e,show dz 5=[(0,16),(3,283)]from rfl]at a;simp at a;rcases a with rfl|rfl<;>simp
 ·rw[e,show dz 6=[(0,17),(2,0),(3,283)]from rfl]at a;simp at a;rcases a with rfl|rfl|rfl<;>simp
 ·rw[e,show dz 7=[(0,48),(3,284),(3,285),(4,0)]from rfl]at a;simp at a;rcases a with rfl|rfl|rfl|rfl<;>simp
 ·rw[e,show dz 8=[(0,28),(3,283)]from rfl]at a;simp at a;rcases a with rfl|rfl<;>simp
def xZ(k:Int):0<(dz k).length/\(dz k).length<=100:=by
 unfold dz;repeat' split
 all_goals exact⟨gP,gP⟩
def Pd{j:Wq}{k m:WA}(f:Fr)(g:Jv B0 j f.aD k m)(h:snd f=true)(b a:Nat)(i:Option V3)(d:Nat)(c:f.ranges.length<=d):Wr B0 j.heap.size j k (aX f) b a f i d:=by
 obtain⟨l,_⟩:=sI f h;rcases g with⟨e,n⟩|⟨_,g⟩
 ·have:=O9 n b a f i d l (.inl ⟨rfl,gP⟩) c;have o:aX f=dx f (0,1):=by
   unfold aX;rw[e,show dz 1=[(0,1)]from rfl];rfl
  rw[o];exact this
 ·exact qdr g (xZ _).2 b a f i d l (Pb f h) c (xZ _).1
def iL:Fr:=⟨0,0,0,0,0,false,0,0,⟨#[]⟩,[]⟩
def nC(w:Wq)(f:Option V3)(c:List Fr)(d:Nat->Option V3)(e:Nat->Nat):Prop:=
 ∀j,j<c.length->∃b a,f=some (ay b a)/\nQ w b (a+j*10) (c.getD j iL) (d j) (e j)/\(c.getD j iL).ranges.length<=e j/\∀x,d j=some x->x.block<w.heap.size
def nC.below{w w':Wq}{c:Option V3}{d:List Fr}{f:Nat->Option V3}{g:Nat->Nat}(h:nC w c d f g)(e:bE w w'):nC w' c d f g:=fun j n=>by obtain⟨b,a,m,i,k,l⟩:=h j n;exact⟨b,a,m,i.below e,k,fun x o=>qm9 (l x o) e.size⟩
def rG(n:Nat)(a:List Fr):Bool:=a.all snd&&decide (n<=dH)&&decide (0<a.length)
def yc(b:List Fr):b.all snd=true↔∀i,i<b.length->snd (b.getD i iL)=true:=by
 rw[qod];constructor;·intro h i a;rw[qly,qm3 a];exact h _ (qmz _)
 ·intro h x c;obtain⟨i,a,rfl⟩:=List.mem_iff_getElem.1 c;have:=h i a;rwa[qly,qm3 a]at this
def Bg(n:Nat){s:Option V3}{a:List Fr}(t:Nat)(K:Nat->Option V3)(L:Nat->Nat)(w:Wq)(W:a.length<=1000000000)(X:n<18446744073709551616)(hF:nC w s a K L):qH 219 #[.agg #[uZ n,.slice s a.length t]] w (.bool (rG n a)) fun R=>bE w R:=by
 have O:=aF hF;have o:Hid (rG n a=(a.all snd&&decide (n<=dH)&&decide (0<a.length))):=rfl;have J:=aF (yc a);clear hF;go_enter func219,ntmps219;go_wp2_with fail;go_loopw [7] (fun F wr=>∃k:Nat,k<=a.length/\F=(iZ k)/\Hid (∀i,i<k->snd (a.getD i iL)=true)/\Hid (Below (w.heap.size+1) (w.alloc (.cells #[uZ n,.slice s a.length t] 56)) wr)) (fun F _=>a.length-(kg F).toNat);case atStart=>exact⟨0,qm2 _,rfl,fun i H=>absurd H (qmy _),qlw _ _⟩
 case round=>
  obtain⟨k,V,rfl,r,x⟩:=hrel;have q:aL wr w.heap.size 56 [uZ n,.slice s a.length t]:=(aL.new w 56 [uZ n,.slice s a.length t]).of_heap (x.out.block _ aj);have S:=q.cell 0;have T:=q.cell 1;have f:Hid (bE w wr):=((qlw _ w).alloc (qj _) _).trans (x.out.mono aj);have U:w.heap.size+1<=wr.heap.size:=by have:=x.out.size;simpa using this
  clear q;simp only[qml,qma]at S T;by_cases u:k<a.length
  ·have I:(k:Int)<(a.length:Int):=aj;obtain⟨b,v,P,N,_⟩:=O.out.below f.out k u;subst P;have G:=aF (uD (v+k*10) (a.getD k iL) (K k) (L k) N);have c:snd (a.getD k iL)=true->Hid (∀i,i<k+1->snd (a.getD i iL)=true):=fun h i H=>by
    by_cases e:i=k;·rw[e];exact h
    ·exact r.out i aj
   have l:snd (a.getD k iL)=false->Hid (rG n a=false):=fun h=>by
    have:a.all snd=false:=by
     cases Q:a.all snd;·rfl
     ·rw[J.out.1 Q k u]at h;cases h
    rw[o.out,this];rfl
   have y:=aF c;have d:=aF l;clear c l N;generalize snd (a.getD k iL)=B at G y d;go_wp2_with fail;refine bH G.out ?_;rintro M p;have A:Hid (Below (w.heap.size+1) (w.alloc (.cells #[uZ n,.slice (some (ay b v)) a.length t] 56)) M):=x.out.trans (p.mono aj);have E:Hid (bE w M):=f.out.trans (p.mono aj);clear p;cases B;·have C:=d.out rfl;clear y d;go_wp2;go_ret;exact⟨dK C.out.symm,E.out⟩
   ·have C:=y.out rfl;clear y d;go_wp2;go_roundw;case rel=>exact⟨k+1,aj,by go_num,C,A⟩
    case measure=>simp[kg];omega
  ·obtain rfl:k=a.length:=aj;have j:a.all snd=true:=J.out.2 r.out;have z:Hid (rG n a=(decide (n<=dH)&&decide (0<a.length))):=by rw[o.out,j];rfl
   clear j o;by_cases g:n<=dH
   ·have D:(n:Int)<=4611686018427387903:=by unfold dH at g;omega
    have m:Hid (rG n a=decide (0<a.length)):=by rw[z.out,decide_eq_true g];rfl
    clear z;go_wp2;go_ret;exact⟨dK (by rw[m.out,decide_eq_decide]),f.out⟩
   ·have D:decide ((n:Int)<=4611686018427387903)=false:=by unfold dH at g;simp;omega
    have m:Hid (rG n a=false):=by rw[z.out,decide_eq_false g];rfl
    clear z;go_wp2;go_ret;exact⟨dK m.out.symm,f.out⟩
def gF(n:Nat)(a:List Fr):Nat->List UInt8
 |0=>Num.aB n
 |k+1=>gF n a k++aX (a.getD k iL)
def fQ(n:Nat)(a:List Fr):List UInt8:=gF n a a.length
def bP(n:Nat)(a:List Fr):List UInt8:=fQ n a++iV (fQ n a)
def Ai(n:Nat)(a:List Fr):∀(m k:Nat),k<=m->(gF n a k).length<=(gF n a m).length
 |0,k,h=>by obtain rfl:k=0:=aj;exact qj _
 |m+1,k,h=>by
  by_cases e:k=m+1;·rw[e];exact qj _
  ·have:=Ai n a m k aj;rw[gF,qm0];omega
def Own(B:Nat)(v:WA):Prop:=∀k,v.ownBlock=some k->B<=k
def Own.nil(B:Nat):Own B nZ:=fun k a=>by simp[Value.ownBlock]at a
def Gr.own(h:Gr w w' v v')(b:Own B v)(c:B<=w.heap.size):Own B v':=fun k a=>by
 rcases h.2 k a with e|e;·exact b k e
 ·omega
def Gr.below(h:Gr w w' v v')(a:Own B v)(b:B<=w.heap.size):Below B w w':=
 ⟨h.1.os,h.1.tape,h.1.output,h.1.size,fun k c=>h.1.block k aj (fun e=>bR (a k e.symm))⟩
def kU.below(h:kU w)(a:Below B w w')(c:2<=B):kU w':=fun k b=>cell_of (h k b) (a.block 1 aj)
def qgb(a b:Nat)(c d:Array WA)(w:Wq):(Instr.field 318 (.agg #[.func (.func a) #[] c,.func (.func b) #[] d]) 0).run prog w=.ok (.func (.func a) #[] c) w:=bO
def qin(a b:Nat)(c d:Array WA)(w:Wq):(Instr.field 318 (.agg #[.func (.func a) #[] c,.func (.func b) #[] d]) 1).run prog w=.ok (.func (.func b) #[] d) w:=bO
def jL.shape{b:Nat×Nat}{d c:WA}(h:jL B0 w b d c):∃g e i f,d=.func (.func g) #[] e/\c=.func (.func i) #[] f:=by rcases h with⟨_,j,_,h,a⟩|⟨_,h,a⟩|⟨_,h,a⟩|⟨_,j,_,h,a⟩|⟨_,h,a⟩|⟨_,h,a⟩<;>exact⟨_,_,_,_,h,a⟩
def Jv.shape{B0:Nat}{w:Wq}{k:Int}{b a:WA}(h:Jv B0 w k b a):∃e c f d,b=.func (.func e) #[] c/\a=.func (.func f) #[] d:=by
 rcases h with⟨_,h⟩|⟨_,pb,qb,h,h2,_⟩;·exact h.shape
 ·exact⟨_,_,_,_,h,h2⟩
def Cc(n:Nat){U:Option V3}(a:List Fr)(V:Nat)(ra:Nat->Option V3)(rc:Nat->Nat)(hl:a.length<=1000000000)(hF:nC w U a ra rc)(hS:rG n a=true)(hT:kU w)(h2:2<=w.heap.size)(i:(fQ n a).length<=1000000000):Calls prog 167 #[.agg #[uZ n,.slice U a.length V]] w fun e f=>∃v,e=.returned (.tuple #[v,.nilIface])/\lG f v (bP n a)/\Own w.heap.size v/\bE w f:=by
 have o:=hS;unfold rG at o;rw[qmg,qmg]at o;have hn:=of_decide_eq_true o.1.2;have Zj:=(yc a).1 o.1.1;unfold dH at hn;have HS:=aF (Bg n V ra rc (w.alloc (.cells #[uZ n,.slice U a.length V] 56)) hl aj (hF.below ((qlw _ w).alloc (qj _) _)));rw[hS]at HS;have HF:=aF hF;have Zk:=aF Zj;have HT:=aF hT;have EZ:=aF (Ai n a a.length);have y:Hid ((gF n a a.length).length<=1000000000):=i;have he:Hid (bP n a=gF n a a.length++iV (gF n a a.length)):=rfl;have T:Hid (∀k,gF n a (k+1)=gF n a k++aX (a.getD k iL)):=fun _=>rfl;have HZ:Hid (gF n a 0=Num.aB n):=rfl;have h5:n<4611686018427387904:=aj;have HN:=aF h5;clear hS o hF Zj hT i hn h5;go_enter func167,ntmps167;go_wp2_with fail;refine bH HS.out ?_;rintro w2 u;obtain⟨t,p⟩:=bT (w.alloc (.cells #[uZ n,.slice U a.length V] 56));have H:t.heap.size=w.heap.size+1:=by rw[p];simp
 have s:aL t w.heap.size 56 [uZ n,.slice U a.length V]:=by rw[p];exact aL.new w 56 _
 have c:bE w t:=by rw[p];exact(qlw _ w).alloc (qj _) _
 rw[<-p]at u;have q:=s.of_heap (u.block _ aj);have x0:=q.cell 0;simp only[qml]at x0;have HA:=aF (fq nZ [] n (lG.nil w2) HN.out aM);have HW:=aF (dw H (dw s c));have E:=aF u;clear u q s c p H;go_wp2_with fail;refine HA.out.mono ?_;rintro e w3 ⟨v3,rfl,J,K⟩;obtain⟨H,s,c⟩:=HW.out;have L:bE t w3:=E.out.trans (K.below (Own.nil _) E.out.size);have Z:Own t.heap.size v3:=K.own (Own.nil _) E.out.size;rw[qmq,<-HZ.out]at J;have r:=s.of_heap (L.block _ aj);have y1:=r.cell 1;simp only[qml,qma]at y1;have S:=aF (dw J (dw L Z));clear J K L Z r H s c x0;go_wp2_with fail;go_loopw [4,17] (fun s4 ML wr=>∃k:Nat,k<=a.length/\ML=(iZ k)/\Hid (lG wr s4 (gF n a k)/\bE t wr/\Own t.heap.size s4)) (fun _ ML _=>a.length-(kg ML).toNat);case atStart=>exact⟨0,qm2 _,rfl,S.out⟩
 case round=>
  clear S y1 HA HS;obtain⟨k,hk,rfl,S⟩:=hrel;by_cases h4:k<a.length
  ·have ho:(k:Int)<(a.length:Int):=aj;obtain⟨I,B,A⟩:=S.out;obtain⟨H,s,c⟩:=HW.out;have z:bE w wr:=c.trans (B.mono aj);obtain⟨b,h8,ha,wP,h6,M⟩:=HF.out k h4;have O:=wP.below z;subst ha;have N:=Zk.out k h4;obtain⟨_,h0,xK,_⟩:=sI _ N;have c0:=O.c0;have hr:b<w.heap.size:=qmf _ _ wP.c0;have C:=s.of_heap (B.block _ aj);have y1:=C.cell 1;simp only[qml,qma]at y1;have MS:=aF (sJ _ h0 xK wr);have h7:∀(P:Wq) (W fr:WA),Jv (wr.heap.size+1) P (a.getD k iL).aD W fr->bE wr P->∃g R,W=.func (.func g) #[] R/\(∀args w,(callFunc g args).run prog w=.ok (.enter g args) w)/\Calls prog g (#[u4,(aJ b (h8+k*10))]++R) P fun e f=>∃l,e=.returned l/\lG f l (gF n a (k+1))/\bE t f/\Own t.heap.size l:=by
    intro P W fr Y Q;obtain⟨g,R,h1,h2,h3⟩:=Pd _ Y N b (h8+k*10) (ra k) (rc k) h6;refine⟨g,R,h1,h2,?_⟩;have i:=EZ.out (k+1) aj;have hv:=y.out;rw[T.out,qm0]at i;have hf:=B.size;have hw:=Q.size;refine(h3 P u4 (gF n a k) ⟨⟨qj _,fun _ _ _=>rfl⟩,I.of_heap (fun j hj=>Q.block j (I.lt j hj)),fun j hj=>.inl (bR (I.lt j hj)),O.below Q,fun e=>bR (A _ e),fun x hx e=>hwZ (A _ e) (M x hx),fun x hx=>bR (M x hx)⟩ aj).mono ?_;rintro e f ⟨l,rfl,m,d⟩;exact⟨l,rfl,by rw[T.out];exact m,(B.trans (Q.mono hf)).trans (d.below A aj),d.own A aj⟩
   have G:=aF h7;clear h7 I B A z wP O N C s c h0 xK h6 M;generalize a.getD k iL=F at c0 MS G;go_wp2_with fail;refine MS.out.mono ?_;rintro e P ⟨W,fr,rfl,Y,Q⟩;obtain⟨_,_,g2,QX,_,hg⟩:=Y.shape;subst hg;obtain⟨g,R,hm,eg,hC⟩:=G.out P W _ Y Q;subst hm;have HC:=aF hC;have hu:=qgb g g2 R QX;clear hC Y Q G;go_wp2_with fail;refine HC.out.mono ?_;rintro e f ⟨l,rfl,X⟩;have hc:=aF X;clear X;go_wp2_with fail;go_roundw;case rel=>exact⟨k+1,aj,by go_num,hc⟩
   case measure=>simp[kg];omega
  ·obtain rfl:k=a.length:=aj;obtain⟨I,B,A⟩:=S.out;obtain⟨H,s,c⟩:=HW.out;have z:bE w wr:=c.trans (B.mono aj);have h9:=aF (EC I (HT.out.below z h2) y.out);have D:∀f l,lG f l (gF n a a.length++iV (gF n a a.length))->Gr wr f u4 l->lG f l (bP n a)/\Own w.heap.size l/\bE w f:=fun f l m d=>by
    have Jy:Own w.heap.size u4:=fun j hj=>bR (A j hj);exact⟨by rw[he.out];exact m,d.own Jy z.size,z.trans (d.below Jy z.size)⟩
   have mh:=aF D;clear D I B A z s c H;go_wp2_with fail;refine h9.out.mono ?_;rintro e f ⟨l,rfl,m,d⟩;have HR:=aF (mh.out f l m d);clear m d;go_wp2;go_ret2;exact⟨_,rfl,HR.out⟩
end Go.Proofs.YtphbledmopchnaaGreatDoor
namespace Go.Proofs.YtphbledmopchnaaGreatDoor.Sd
open St Tryz
variable {f:Fr}{k:Nat}
def md{α:Type}:List α->Nat->(α->α)->List α
 |[],_,_=>[]
 |a::t,0,f=>f a::t
 |a::t,k+1,f=>a::md t k f
def jB{α:Type}:∀(l:List α) (k:Nat) (f:α->α),(md l k f).length=l.length
 |[],_,_=>rfl
 |_::_,0,_=>rfl
 |_::t,k+1,f=>congrArg (·+1) (jB t k f)
def GJ{α:Type}(d:α):∀(l:List α) (k:Nat) (f:α->α),k<l.length->(md l k f).getD k d=f (l.getD k d)
 |[],_,_,h=>by simp at h
 |_::_,0,_,_=>rfl
 |_::t,k+1,f,h=>by simpa[md]using GJ d t k f (by simpa using h)
def U6{α:Type}(d:α):∀(l:List α) (k j:Nat) (f:α->α),j≠k->(md l k f).getD j d=l.getD j d
 |[],_,_,_,_=>rfl
 |_::_,0,0,_,h=>absurd rfl h
 |_::_,0,j+1,_,_=>rfl
 |_::_,k+1,0,_,_=>rfl
 |_::t,k+1,j+1,f,h=>by simpa[md]using U6 d t k j f aj
def UT:Nat:=18446744073709551615
structure Gn where
 ahead:Nat
 dX:Nat
 gK:Nat
 aP:Nat
def Gn.new(n:Nat):Gn:=⟨n,n,0,n⟩
def Gn.jS(g:Gn)(a:Nat):Nat:=min (a+g.ahead) dH
def Gn.bD(g:Gn)(a:Nat):Bool:=decide (max g.gK g.aP<g.jS a)
def Gn.aw(g:Gn)(x:Nat):Gn:={g with gK:=max g.gK x}
def Gn.cm(g:Gn)(x:Nat):Gn:={g with aP:=max g.aP x}
def Gn.kV(g:Gn):Gn:={g with gK:=0}
def lW(aD:Int)(k:Nat)(x:Nat):Fr:=⟨aD,(k:Int),0,0,x,false,0,0,⟨#[]⟩,[]⟩
def Gn.next(g:Gn)(aD:Int)(k:Nat)(a:Nat)(b:Int):Option (Fr×Gn):=
 if b<((aX (lW aD k (g.jS a))).length:Int)then none
 else some (lW aD k (g.jS a),({g with dX:=g.jS a}:Gn).aw (g.jS a))
structure Nt where
 bN:Bool
 aC:Nat
 gK:Nat
 aP:Nat
def Nt.bD(n:Nt)(r:Nat):Bool:=n.bN&&decide (r<min n.gK n.aP)
def Nt.aw(n:Nt)(x:Nat):Nt:={n with gK:=min n.gK x}
def Nt.cm(n:Nt)(x:Nat):Nt:={n with aP:=min n.aP x}
def Nt.kV(n:Nt):Nt:={n with gK:=UT}
def Nt.zD(n:Nt)(o:Nat):Nt:=if n.bN then n else⟨true,o,UT,UT⟩
def nD(k o r:Nat):Fr:=⟨3,(k:Int),o,r,0,false,0,0,⟨#[]⟩,[]⟩
def Nt.next(n:Nt)(k r:Nat)(a:Int):Option (Fr×Nt):=
 if a<((aX (nD k n.aC r)).length:Int)then none else some (nD k n.aC r,n.aw r)
structure NS where
 fl:Nat
 rs:bZ
def NS.add(a:Nat)(s:NS)(c b:Nat):NS:=⟨(Rg.add a s.fl s.rs c b).1,(Rg.add a s.fl s.rs c b).2⟩
def NS.has(s:NS)(n:Nat):Bool:=decide (n<s.fl)||Rg.has n s.rs
def mP:Nat->bZ->Nat->Nat×Nat
 |lo,[],e=>(lo,e)
 |lo,r::t,e=>if lo<r.1 then(lo,min r.1 e)else if e<=r.2 then(e,e)else mP (r.2+1) t e
def NS.hole(s:NS)(e:Nat):Nat×Nat:=mP s.fl s.rs e
structure Ot where
 aB:List UInt8
 bG:Bool
 nt:Nt
 aT:Nat
 dB:Nat
 gK:NS
 aP:NS
 all:List UInt8
def Ot.new(aT:Nat):Ot:=⟨[],false,⟨false,0,0,0⟩,aT,0,⟨0,[]⟩,⟨0,[]⟩,[]⟩
def Ot.closed(o:Ot):Bool:=o.bG||o.nt.bN
def Ot.send(o:Ot)(b:List UInt8):Ot×Nat:=
 if o.closed then(o,4)else if 2048<o.aB.length+b.length then(o,3)else({o with aB:=o.aB++b,all:=o.all++b},0)
def Ot.finish(o:Ot):Ot×Nat:=if o.closed then(o,4)else({o with bG:=true},0)
def Ot.reset(o:Ot)(a:Int):Ot:=
 let n:=min (max a 0).toNat o.aB.length
 {o with aB:=o.aB.take n,nt:=o.nt.zD (max o.dB n)}
def Ot.reach(o:Ot)(a:Nat):Nat:=min (min o.aB.length o.aT) (o.dB+a)
def Ot.iR(o:Ot)(e:Nat):Bool:=o.bG&& !o.nt.bN&&decide (e=o.aB.length)
def Ot.dP(o:Ot)(a:Nat):Nat×Nat:=
 o.gK.hole (if o.iR (o.reach a)then o.reach a+1 else o.reach a)
def Ot.bD(o:Ot)(a:Nat):Bool:=decide ((o.dP a).1<(o.dP a).2)
def bL(f:Fr):Nat:=f.aC+f.data.size
def yj(s:NS)(f:Fr):NS:=s.add 2049 f.aC (if f.bG then bL f else bL f-1)
def Ot.aw(o:Ot)(f:Fr):Ot:={o with gK:=yj o.gK f}
def Ot.cm(o:Ot)(f:Fr):Ot:={o with aP:=yj o.aP f,gK:=yj o.gK f}
def Ot.kV(o:Ot):Ot:={o with gK:=o.aP}
def pI(f:Fr)(b:List UInt8)(a:Int):Option Fr:=
 if a<((aX f).length:Int)then none
 else
  let r:=(a-((aX f).length:Int)).toNat
  let n:=min b.length r
  some {f with data:=⟨(b.take (min n (r-((Num.aB n).length-1)))).toArray⟩}
def tQ(k a:Nat):Fr:=⟨4,(k:Int),a,0,0,false,0,0,⟨#[]⟩,[]⟩
def Ot.next(o:Ot)(k:Nat)(b:Int)(a:Nat):Option (Fr×Ot):=
 let lo:=(o.dP a).1
 let hi:=min (o.dP a).2 o.aB.length
 match pI (tQ k lo) ((o.aB.take hi).drop lo) b with
 |none=>none
 |some f=>
  if lo<hi/\f.data.size=0 then none
  else
   let g:Fr:={f with bG:=o.iR (bL f)}
   some (g,({o with dB:=max o.dB (bL f)}:Ot).aw g)
structure eU where
 gr:Gn
 aY:Nat
 bK:List UInt8
 aP:List Bool
 fF:Nat
 cO:Bool
 gH:Nat
 bN:Bool
 rel:Nat
 state:Nat
def eU.new(n:Nat):eU:=⟨Gn.new n,0,[],[],0,false,0,false,0,0⟩
def eU.aZ(i:eU):Nat:=if i.state=2 then i.gH else i.aY
def eU.wanted(i:eU):Nat:=if i.bN then i.rel else if i.cO then i.gH else dH
def eU.refuse(i:eU)(f:Fr):Nat:=
 if i.cO/\i.gH<bL f\/i.cO/\f.bG/\bL f≠i.gH\/f.bG/\bL f<i.fF then 10 else if i.gr.dX<bL f then 9 else 0
def eO:List UInt8->Nat->List UInt8->List Bool->List UInt8×List Bool
 |[],_,h,c=>(h,c)
 |x::t,i,h,c=>if c.getD i false then eO t (i+1) h c else eO t (i+1) (h.set i x) (c.set i true)
def eU.hold(i:eU)(a:Nat)(d:List UInt8):eU:=
 let more:=a-i.aY+d.length-i.bK.length
 let x:=eO d (a-i.aY) (i.bK++eT more 0) (i.aP++eT more false)
 {i with bK:=x.1,aP:=x.2}
def eU.take(i:eU)(f:Fr):eU:=
 let i1:eU:={i with fF:=max i.fF (bL f),cO:=i.cO||f.bG,gH:=if f.bG then bL f else i.gH}
 let lo:=max f.aC i1.aY
 let hi:=min (bL f) i1.wanted
 if lo<hi then i1.hold lo ((f.data.data.toList.take (hi-f.aC)).drop (lo-f.aC))else i1
def eU.lF(i:eU)(f:Fr):Nat:=if i.cO/\i.gH≠f.aC\/f.aC<i.fF then 10 else 0
def eU.fU(i:eU)(f:Fr):eU:=
 let r:=min i.wanted f.aN
 let n:=min i.bK.length (r-min r i.aY)
 {i with rel:=r,bN:=true,cO:=true,gH:=f.aC,bK:=i.bK.take n,aP:=i.aP.take n}
def eU.ready(i:eU):Nat:=(i.aP.takeWhile id).length
def eU.cut(i:eU)(n:Nat):eU:={i with bK:=i.bK.drop n,aP:=i.aP.drop n,aY:=i.aY+n}
def eU.iT(i:eU):Nat:=if i.cO=false\/i.aY<i.wanted then 0 else if i.bN then 2 else 1
def eU.rd(i:eU)(a:Int):List UInt8×eU:=
 let n:=min i.ready (max a 0).toNat
 let j:=i.cut n
 (i.bK.take n,{j with state:=if j.state=0 then j.iT else j.state})
def eU.iq(i:eU):Bool:= !(i.cO&&decide (i.wanted<=i.fF))&&i.gr.bD i.aZ
structure ru where
 cZ:List Fr
 aW:Nat
def Aj:Ot:=Ot.new 0
def zF:eU:=eU.new 0
structure av where
 bF:Nat
 aO:Nat
 bn:Nat
 aW:Nat
 outs:List Ot
 ins:List eU
 aT:Nat
 gr:Gn
 aP:NS
 bI:Bool
 next:Nat
 bf:List (Nat×ru)
 b_:List (Nat×ru)
 named:Nat
 aK:List Fr
 least:Nat
 eP:List (Nat×ByteArray)
 bW:Nat
 taken:List Nat
 kW:Nat
 parted:Bool
 qv:WA
 iv:WA
def av.new(c a b:Nat):av:=
 ⟨c,a,b,0,eT 8 (Ot.new a),eT 8 (eU.new a),b,Gn.new b,⟨0,[]⟩,false,0,[],[],0,[],0,[],0,[],0,false,nZ,nZ⟩
def av.out(M:av)(k:Nat):Ot:=M.outs.getD k Aj
def av.cK(M:av)(k:Nat):eU:=M.ins.getD k zF
def av.dD(M:av)(k:Nat)(o:Ot):av:={M with outs:=md M.outs k fun _=>o}
def av.fT(M:av)(k:Nat)(i:eU):av:={M with ins:=md M.ins k fun _=>i}
def av.aZ(M:av):Nat:=M.ins.foldl (fun s i=>min (s+i.aZ) dH) 0
def av.tu(M:av):Nat:=(M.outs.map Ot.dB).sum
def av.aR(M:av):Nat:=M.aT-M.tu
def av.full(M:av):Bool:=decide (12<=M.bf.length)
def av.gZ(M:av):Nat:=match M.aK with
 |[]=>0
 |f::_=>(aX f).length
def dS(rs:bZ):Fr:=⟨2,0,0,0,0,false,0,0,⟨#[]⟩,rs⟩
def fP(a:bZ)(b:Int):Nat->Nat
 |0=>0
 |n+1=>if((aX (dS (a.take (n+1)))).length:Int)<=b then n+1 else fP a b n
def av.bD(M:av)(a:bZ)(u:Nat):Bool:=
 if u=0 then decide (0<a.length)
 else !M.full&&(if u=8 then M.gr.bD M.aZ else if u<24 then(M.cK (u-16)).iq else if u<32 then(M.out (u-24)).nt.bD (M.out (u-24)).aB.length
  else if u=32 then decide (0<M.aK.length)else(M.out (u-40)).bD M.aR)
def Et:WA->WA
 |.slice a n c=>.slice a (n-1) c
 |v=>v
def av.frame(M:av)(a:bZ)(u:Nat)(b:Int):Option (Fr×av×bZ):=
 if u=0 then
  (if fP a b a.length=0 then none else some (dS (a.take (fP a b a.length)),M,a.drop (fP a b a.length)))
 else if u=8 then(M.gr.next 5 0 M.aZ (b-M.gZ)).map fun x=>(x.1,{M with gr:=x.2},a)
 else if u<24 then((M.cK (u-16)).gr.next 6 (u-16) (M.cK (u-16)).aZ (b-M.gZ)).map fun x=>(x.1,M.fT (u-16) {M.cK (u-16)with gr:=x.2},a)
 else if u<32 then((M.out (u-24)).nt.next (u-24) (M.out (u-24)).aB.length (b-M.gZ)).map fun x=>(x.1,M.dD (u-24) {M.out (u-24)with nt:=x.2},a)
 else if u=32 then(if b<M.gZ then none else M.aK.head?.map fun f=>(f,{M with aK:=M.aK.tail,qv:=Et M.qv},a))
 else((M.out (u-40)).next (u-40) b M.aR).map fun x=>(x.1,M.dD (u-40) x.2,a)
def jN(u:Nat):Bool:=decide (8<=u)&&decide (u<32)
def sw(l:List Nat)(i j:Nat):List Nat:=(l.set i (l.getD j 0)).set j (l.getD i 0)
def Cg:Nat->List Nat->Nat->List Nat
 |0,l,_=>l
 |n+1,l,j=>if j=0\/¬l.getD j 0<l.getD ((j-1) / 2) 0 then l else Cg n (sw l ((j-1) / 2) j) ((j-1) / 2)
def kX:Nat->List Nat->Nat->Nat->List Nat
 |0,l,_,_=>l
 |k+1,l,i,n=>
  if n<=2*i+1 then l
  else
   let j:=if 2*i+2<n/\l.getD (2*i+2) 0<l.getD (2*i+1) 0 then 2*i+2 else 2*i+1
   if l.getD j 0<l.getD i 0 then kX k (sw l i j) j n else l
def eX(l:List Nat)(u:Nat):List Nat:=Cg (l.length+1) (l++[u]) l.length
def mo(l:List Nat):List Nat:=(kX l.length (sw l 0 (l.length-1)) 0 (l.length-1)).take (l.length-1)
def q0:List Nat:=eX ((fA 8).foldl (fun q k=>eX (eX (eX q (16+k)) (24+k)) (40+k)) (eX (eX [] 0) 8)) 32
def dU:Nat->av->bZ->List Nat->List Nat->Int->List Fr->av×bZ×List Nat×List Fr
 |0,M,aI,Q,later,_,l=>(M,aI,later.foldl eX Q,l)
 |n+1,M,aI,Q,later,au,l=>match Q with
  |[]=>(M,aI,later.foldl eX Q,l)
  |u::_=>
   if M.bD aI u then
    match M.frame aI u au with
    |some (f,M',dV)=>dU n M' dV Q later (au-((aX f).length:Int)) (l++[f])
    |none=>if jN u then dU n M aI (mo Q) (later++[u]) au l else(M,aI,later.foldl eX Q,l)
   else dU n M aI (mo Q) later au l
def fill(M:av)(b:bZ)(Q:List Nat)(a:Int):av×bZ×List Nat×List Fr:=
 dU (Q.length+a.toNat+1) M b Q [] a []
def fD(a:List Fr):Bool:=a.any fun f=>decide (f.aD≠2)
def again(a:List Fr):List Fr:=a.filter fun f=> !(decide (f.aD=2)||decide (f.aD=7)||decide (f.aD=8))
def av.au(M:av):Int:=(M.bF:Int)-((Num.aB M.next).length:Int)-4
def av.dO(M:av)(a:List Fr):av:=
 {M with next:=M.next+1,bf:=if fD a then M.bf++[(M.next,⟨again a,M.aW⟩)]else M.bf}
def fI:Nat->av->bZ->List Nat->List (Nat×List Fr)->av×List (Nat×List Fr)
 |0,M,_,_,l=>(M,l)
 |n+1,M,aI,Q,l=>
  if(fill M aI Q M.au).2.2.2=[]then((fill M aI Q M.au).1,l)
  else fI n ((fill M aI Q M.au).1.dO (fill M aI Q M.au).2.2.2) (fill M aI Q M.au).2.1 (fill M aI Q M.au).2.2.1 (l++[(M.next,(fill M aI Q M.au).2.2.2)])
def av.jq(M:av)(f:Fr):av:=
 if f.aD=4 then M.dD f.aG.toNat ((M.out f.aG.toNat).aw f)
 else if f.aD=3 then M.dD f.aG.toNat {M.out f.aG.toNat with nt:=(M.out f.aG.toNat).nt.aw f.aN}
 else if f.aD=6 then M.fT f.aG.toNat {M.cK f.aG.toNat with gr:=(M.cK f.aG.toNat).gr.aw f.aT}
 else{M with gr:=M.gr.aw f.aT}
def av.gN(M:av)(f:Fr):av:=
 if f.aD=4 then M.dD f.aG.toNat ((M.out f.aG.toNat).cm f)
 else if f.aD=3 then M.dD f.aG.toNat {M.out f.aG.toNat with nt:=(M.out f.aG.toNat).nt.cm f.aN}
 else if f.aD=6 then M.fT f.aG.toNat {M.cK f.aG.toNat with gr:=(M.cK f.aG.toNat).gr.cm f.aT}
 else{M with gr:=M.gr.cm f.aT}
def kC(o:Ot):Ot:={o.kV with nt:=o.nt.kV}
def jC(i:eU):eU:={i with gr:=i.gr.kV}
def cZ(l:List (Nat×ru)):List Fr:=l.flatMap fun x=>x.2.cZ
def av.iy(M:av)(x:Nat×ru):Bool:=decide (6<=M.aW-x.2.aW)||decide (x.1+3<M.named)
def av.kV(M:av):av:=
 if M.bf.any M.iy then
  (cZ (M.bf.filter fun x=> !M.iy x)).foldl av.jq
   {M with
    bf:=M.bf.filter fun x=> !M.iy x
    b_:=(M.b_++M.bf.filter M.iy).filter fun x=> !decide (x.1+64<M.next)
    gr:=M.gr.kV
    outs:=M.outs.map kC
    ins:=M.ins.map jC}
 else M
def names(l:bZ)(n:Nat):Bool:=l.any fun r=>decide (r.1<=n)&&decide (n<=r.2)
def av.land(M:av)(l:bZ):av:=
 (cZ (M.bf.filter (fun x=>names l x.1))++cZ (M.b_.filter (fun x=>names l x.1))).foldl av.gN
  {M with
   named:=max M.named ((l.getD 0 (0,0)).2+1)
   bf:=M.bf.filter fun x=> !names l x.1
   b_:=M.b_.filter fun x=> !names l x.1}
def Pg(x:Nat):Fr:=⟨8,0,0,0,x,false,0,0,⟨#[]⟩,[]⟩
def av.part(M:av):av×List (Nat×List Fr):=
 if M.parted\/M.kW=13 then(M,[])
 else({M with parted:=true}.dO [Pg (if M.kW=12 then 0 else M.kW)],[(M.next,[Pg (if M.kW=12 then 0 else M.kW)])])
def av.nE(M:av)(f:Fr):av:=
 if f.aH<M.aW\/f.id∈M.taken\/f.id+32<=M.bW then M
 else{M with eP:=M.eP++[(f.id,f.data)],bW:=max M.bW f.id,taken:=(f.id::M.taken).filter fun x=> !decide (x+32<=max M.bW f.id)}
def av.uH(M:av)(k e:Nat):Nat:=((fA 8).map fun j=>max (M.cK j).fF (if j=k then e else 0)).sum
def av.take(M:av)(f:Fr):av×Nat:=
 if f.aD=2 then(if M.next<=(f.ranges.getD 0 (0,0)).2 then(M,11)else(M.land f.ranges,0))
 else if f.aD=4 then
  (if(M.cK f.aG.toNat).refuse f≠0 then(M,(M.cK f.aG.toNat).refuse f)
  else if M.gr.dX<M.uH f.aG.toNat (bL f)then(M,9)
  else(M.fT f.aG.toNat ((M.cK f.aG.toNat).take f),0))
 else if f.aD=3 then
  (if(M.cK f.aG.toNat).lF f≠0 then(M,(M.cK f.aG.toNat).lF f)else(M.fT f.aG.toNat ((M.cK f.aG.toNat).fU f),0))
 else if f.aD=8 then(M,13)
 else if f.aD=7 then(M.nE f,0)
 else if f.aD=5 then({M with aT:=max M.aT f.aT},0)
 else if f.aD=6 then(M.dD f.aG.toNat {M.out f.aG.toNat with aT:=max (M.out f.aG.toNat).aT f.aT},0)
 else(M,0)
def av.Ph(M:av):av:={M with aW:=M.aW+1,aK:=M.aK.filter fun f=> !decide (f.aH<M.aW+1)}
def Pj{α:Type}:∀(l:List α) (k:Nat) (f:α->α),l.length<=k->md l k f=l
 |[],_,_,_=>rfl
 |_::_,0,_,h=>by simp at h
 |a::t,k+1,f,h=>congrArg (a::·) (Pj t k f (by simpa using h))
def U7{α:Type}(d:α)(g:α->Nat):∀(l:List α) (k:Nat) (f:α->α),k<l.length->((md l k f).map g).sum+g (l.getD k d)=(l.map g).sum+g (f (l.getD k d))
 |[],_,_,h=>by simp at h
 |a::t,0,f,_=>by simp[md];omega
 |a::t,k+1,f,h=>by have:=U7 d g t k f (by simpa using h);simp only[md,qov,qq0,qo3]at this ⊢;omega
def kD(M:av)(k j:Nat)(o:Ot):(M.dD k o).out j=if j=k/\k<M.outs.length then o else M.out j:=by
 unfold av.dD av.out;by_cases h:j=k
 ·subst h;by_cases a:j<M.outs.length;·rw[bM ⟨rfl,a⟩];exact GJ Aj _ _ _ a
  ·rw[aV (fun x=>a x.2)];show(md M.outs j _).getD j Aj=_;rw[Pj _ _ _ aj]
 ·rw[aV (fun x=>h x.1)];exact U6 Aj _ _ _ _ h
def jT(M:av)(k j:Nat)(o:eU):(M.fT k o).cK j=if j=k/\k<M.ins.length then o else M.cK j:=by
 unfold av.fT av.cK;by_cases h:j=k
 ·subst h;by_cases a:j<M.ins.length;·rw[bM ⟨rfl,a⟩];exact GJ zF _ _ _ a
  ·rw[aV (fun x=>a x.2)];show(md M.ins j _).getD j zF=_;rw[Pj _ _ _ aj]
 ·rw[aV (fun x=>h x.1)];exact U6 zF _ _ _ _ h
def Ch(M:av)(k:Nat)(o:Ot)(h:k<M.outs.length):(M.dD k o).tu+(M.out k).dB=M.tu+o.dB:=
 U7 Aj Ot.dB M.outs k (fun _=>o) h
def Al:∀(l:List Nat) (k:Nat),l.getD k 0<=l.sum
 |[],_=>aM
 |a::t,0=>aM
 |a::t,k+1=>by have:=Al t k;simp only[qo3,qq0];omega
structure sF (o o':Ot):Prop where
 dB:o.dB<=o'.dB
 pre:o.all <+:o'.all
 bG:o.bG=true->o'.bG=true/\o'.all=o.all
 gv:o.nt.bN=true->o'.nt.bN=true/\o'.nt.aC=o.nt.aC/\o'.all=o.all/\o'.aB.length<=o.aB.length
def sF.refl(o:Ot):sF o o:=⟨qj _,qoa _,fun h=>⟨h,rfl⟩,fun h=>⟨h,rfl,rfl,qj _⟩⟩
def sF.trans{a b c:Ot}(h:sF a b)(g:sF b c):sF a c:=
 ⟨qlz h.dB g.dB,h.pre.trans g.pre,fun e=>⟨(g.bG (h.bG e).1).1,(g.bG (h.bG e).1).2.trans (h.bG e).2⟩,fun e=>by obtain⟨d,f,i,j⟩:=h.gv e;obtain⟨k,l,m,n⟩:=g.gv d;exact⟨k,l.trans f,m.trans i,qlz n j⟩⟩
structure EH (A A':av):Prop where
 out:∀k,sF (A.out k) (A'.out k)
 Pk:∀k,(A.cK k).gr.dX<=(A'.cK k).gr.dX
 dX:A.gr.dX<=A'.gr.dX
 next:A.next<=A'.next
def EH.refl(A:av):EH A A:=⟨fun _=>sF.refl _,fun _=>qj _,qj _,qj _⟩
def EH.trans{A B C:av}(h:EH A B)(g:EH B C):EH A C:=
 ⟨fun k=>(h.out k).trans (g.out k),fun k=>qlz (h.Pk k) (g.Pk k),qlz h.dX g.dX,qlz h.next g.next⟩
structure MU (o:Ot) (f:Fr):Prop where
 e:bL f<=o.dB
 b:bL f<=o.all.length
 d:f.data.data.toList=(o.all.take (bL f)).drop f.aC
 bG:f.bG=true->o.bG=true/\bL f=o.all.length
 ne:f.bG=true\/0<bL f
structure MV (o:Ot) (f:Fr):Prop where
 g:o.nt.bN=true
 fo:f.aC=o.nt.aC
 r:o.aB.length<=f.aN
 m:f.aN<=2048
def qip(id a:Nat)(b:ByteArray):Fr:=⟨7,0,0,0,0,false,id,a,b,[]⟩
structure QD (f:Fr):Prop where
 e:f=qip f.id f.aH f.data
 i:f.id<=dH
 d:f.aH<=dH
 s:f.data.size<=360
def QD.kd(h:QD f):f.aD=7:=by rw[h.e];rfl
def qQ(A B:av)(f:Fr):Prop:=
 (f.aD=2/\f.ranges≠[]/\(f.ranges.getD 0 (0,0)).2<B.next)\/(f.aD=4/\0<=f.aG/\f.aG<8/\MU (A.out f.aG.toNat) f)\/(f.aD=5/\f.aT<=A.gr.dX)\/(f.aD=6/\0<=f.aG/\f.aG<8/\f.aT<=(A.cK f.aG.toNat).gr.dX)\/(f.aD=3/\0<=f.aG/\f.aG<8/\MV (A.out f.aG.toNat) f)\/QD f
def MU.mono{o o':Ot}(h:MU o f)(c:sF o o'):MU o' f:=by
 obtain⟨t,d⟩:=c.pre;refine⟨qlz h.e c.dB,by rw[<-d,qm0];have:=h.b;omega,?_,fun e=>?_,h.ne⟩;·rw[h.d,<-d,qnz h.b]
 ·obtain⟨a,b⟩:=h.bG e;exact⟨(c.bG a).1,by rw[(c.bG a).2];exact b⟩
def MV.mono{o o':Ot}(h:MV o f)(c:sF o o'):MV o' f:=by obtain⟨a,b,_,d⟩:=c.gv h.g;exact⟨a,h.fo.trans b.symm,qlz d h.r,h.m⟩
def qQ.mono{A A' B e:av}{f:Fr}(h:qQ A B f)(d:EH A A')(g:EH B e):qQ A' e f:=by
 rcases h with⟨a,b,c⟩|⟨a,b,c,h4⟩|⟨a,b⟩|⟨a,b,c,h4⟩|⟨a,b,c,h4⟩|h;·exact .inl ⟨a,b,qm9 c g.next⟩
 ·exact .inr (.inl ⟨a,b,c,h4.mono (d.out _)⟩)
 ·exact .inr (.inr (.inl ⟨a,qlz b d.dX⟩))
 ·exact .inr (.inr (.inr (.inl ⟨a,b,c,qlz h4 (d.Pk _)⟩)))
 ·exact .inr (.inr (.inr (.inr (.inl ⟨a,b,c,h4.mono (d.out _)⟩))))
 ·exact .inr (.inr (.inr (.inr (.inr h))))
structure EI (o:Ot):Prop where
 sl:o.dB<=o.aT
 sb:o.dB<=o.all.length
 pr:o.aB <+:o.all
 sz:o.all.length<=2048
 ng:o.nt.bN=false->o.aB=o.all
 gv:o.nt.bN=true->o.dB<=o.nt.aC/\o.aB.length<=o.nt.aC/\o.nt.aC<=o.all.length
structure vX (o:Ot) (i:eU):Prop where
 jS:o.aT<=i.gr.dX
 fF:i.fF<=o.dB
 rh:i.aY<=i.fF
 cO:i.cO=true->i.bN=false->o.bG=true/\i.gH=o.all.length/\o.all.length<=o.dB
 bN:i.bN=true->i.cO=true/\o.nt.bN=true/\i.gH=o.nt.aC/\o.aB.length<=i.rel/\i.bK.length<=i.rel-i.aY
 st:i.state=0\/i.state=1/\o.bG=true/\i.aY=o.all.length\/i.state=2/\i.bN=true/\i.rel<=i.aY
 len:i.aP.length=i.bK.length
 got:∀j,i.aP.getD j false=true->i.aY+j<i.fF/\o.all[i.aY+j]?=some (i.bK.getD j 0)
def vX.ro{o:Ot}{i:eU}(h:vX o i)(a:EI o):i.aY<=o.all.length:=qlz h.rh (qlz h.fF a.sb)
def vX.fr{o:Ot}{i:eU}(h:vX o i)(b:EI o):i.aY<=i.aZ:=by
 unfold eU.aZ;split
 ·rename_i e;have a:i.bN=true:=by
   rcases h.st with x|⟨x,_⟩|⟨_,x,_⟩;·omega
   ·omega
   ·exact x
  obtain⟨_,g,e,_⟩:=h.bN a;have:=(b.gv g).1;have:=h.fF;have:=h.rh;omega
 ·exact qj _
def vX.mono{o o':Ot}{i:eU}(h:vX o i)(u:o'.aT=o.aT)(f:sF o o'):vX o' i:=by
 refine⟨by rw[u];exact h.jS,qlz h.fF f.dB,h.rh,fun e g=>?_,fun g=>?_,?_,h.len,fun j e=>?_⟩;·obtain⟨a,b,c⟩:=h.cO e g;obtain⟨l,k⟩:=f.bG a;exact⟨l,by rw[k];exact b,by rw[k];exact qlz c f.dB⟩
 ·obtain⟨a,b,c,d,e⟩:=h.bN g;obtain⟨l,k,_,p⟩:=f.gv b;exact⟨a,l,c.trans k.symm,qlz p d,e⟩
 ·rcases h.st with e|⟨q,m,r⟩|e;·exact .inl e
  ·exact .inr (.inl ⟨q,(f.bG m).1,by rw[(f.bG m).2];exact r⟩)
  ·exact .inr (.inr e)
 ·obtain⟨t,v⟩:=f.pre;obtain⟨s,n⟩:=h.got j e;refine⟨s,?_⟩;rw[<-v,qmw];·exact n
  ·obtain⟨x,_⟩:=qo8.1 n;exact x
structure gM (M:av):Prop where
 lo:M.outs.length=8
 li:M.ins.length=8
 wr:∀k,EI (M.out k)
 sp:M.tu<=M.aT
 it:∀k,(M.cK k).gr.dX<=(M.cK k).gr.jS (M.cK k).aZ
 gt:M.gr.dX<=M.gr.jS M.aZ
 kW:M.kW=0
 q:∀f∈M.aK,QD f
 ql:M.aK.length<=16
structure eH (A B:av):Prop where
 rd:∀k,vX (A.out k) (B.cK k)
 jS:A.aT<=B.gr.dX
 aP:∀r∈B.aP.rs,r.2<A.next
structure rH (A B A':av):Prop where
 loc:gM A'
 ab:eH A' B
 ba:eH B A'
 le:EH A A'
def rH.trans{A B A' a:av}(h:rH A B A')(g:rH A' B a):rH A B a:=⟨g.loc,g.ab,g.ba,h.le.trans g.le⟩
def mq{A B:av}(a:gM A)(b:eH A B)(c:eH B A)(k:Nat)(o:Ot)(l:EI o)(i:o.aT=(A.out k).aT)(g:sF (A.out k) o)(f:o.dB<=(A.out k).dB+A.aR):rH A B (A.dD k o):=by
 have d:∀j,(A.dD k o).out j=if j=k/\k<A.outs.length then o else A.out j:=fun j=>kD A k j o;refine⟨⟨(jB _ _ _).trans a.lo,a.li,fun j=>?_,?_,a.it,a.gt,a.kW,a.q,a.ql⟩,⟨fun j=>?_,b.jS,b.aP⟩,⟨c.rd,c.jS,c.aP⟩,⟨fun j=>?_,fun _=>qj _,qj _,qj _⟩⟩
 ·rw[d];split;·exact l
  ·exact a.wr j
 ·show(A.dD k o).tu<=A.aT;by_cases h:k<A.outs.length;·have e:=Ch A k o h;have m:=a.sp;unfold av.aR at f;omega
  ·have:A.dD k o=A:=by unfold av.dD;rw[Pj _ _ _ aj]
   rw[this];exact a.sp
 ·rw[d];split;·rename_i e;rw[e.1];exact(b.rd k).mono i g
  ·exact b.rd j
 ·rw[d];split;·rename_i e;rw[e.1];exact g
  ·exact sF.refl _
def Fe:∀(l d:List eU) (s c:Nat),s<=c->l.length=d.length->(∀k,(l.getD k zF).aZ<=(d.getD k zF).aZ)->l.foldl (fun s i=>min (s+i.aZ) dH) s<=d.foldl (fun s i=>min (s+i.aZ) dH) c
 |[],[],s,c,h,_,_=>h
 |[],_::_,_,_,_,e,_=>by simp at e
 |_::_,[],_,_,_,e,_=>by simp at e
 |a::t,b::u,s,c,h,e,g=>by
  simp only[qqw];refine Fe t u _ _ ?_ (by simpa using e) fun k=>by simpa using g (k+1)
  have:=g 0;simp only[qpt]at this;omega
def rJ{A B:av}(a:gM A)(c:eH A B)(d:eH B A)(k:Nat){i:eU}(h:vX (B.out k) i)(l:(A.cK k).gr.dX<=i.gr.dX)(f:(A.cK k).aZ<=i.aZ)(g:i.gr.dX<=i.gr.jS i.aZ):rH A B (A.fT k i):=by
 have b:∀j,(A.fT k i).cK j=if j=k/\k<A.ins.length then i else A.cK j:=fun j=>jT A k j i;refine⟨⟨a.lo,(jB _ _ _).trans a.li,a.wr,a.sp,fun j=>?_,?_,a.kW,a.q,a.ql⟩,⟨c.rd,c.jS,c.aP⟩,⟨fun j=>?_,d.jS,d.aP⟩,⟨fun _=>sF.refl _,fun j=>?_,qj _,qj _⟩⟩
 ·rw[b];split;·exact g
  ·exact a.it j
 ·refine qlz a.gt ?_;show A.gr.jS A.aZ<=A.gr.jS (A.fT k i).aZ;have:A.aZ<=(A.fT k i).aZ:=Fe _ _ 0 0 (qj _) (jB _ _ _).symm fun j=>by
   show(A.cK j).aZ<=((A.fT k i).cK j).aZ;rw[b];split;·rename_i e;rw[e.1];exact f
   ·exact qj _
  unfold Gn.jS;omega
 ·rw[b];split;·rename_i e;rw[e.1];exact h
  ·exact d.rd j
 ·rw[b];split;·rename_i e;rw[e.1];exact l
  ·exact qj _
def Zl{o:Ot}(w:EI o)(b:List UInt8):EI (o.send b).1/\(o.send b).1.aT=o.aT/\sF o (o.send b).1/\(o.send b).1.dB=o.dB:=by
 unfold Ot.send;split;·exact⟨w,rfl,sF.refl _,rfl⟩
 ·rename_i d;split;·exact⟨w,rfl,sF.refl _,rfl⟩
  ·rename_i f;have c:o.nt.bN=false:=by
    cases e:o.nt.bN;·rfl
    ·exact absurd (by unfold Ot.closed;rw[e,Bool.or_true]) d
   have a:=w.ng c;refine⟨⟨w.sl,?_,?_,?_,fun _=>by show o.aB++b=o.all++b;rw[a],fun e=>?_⟩,rfl,⟨qj _,List.prefix_append _ _,fun e=>?_,fun e=>?_⟩,rfl⟩;·show o.dB<=(o.all++b).length;rw[qm0];have:=w.sb;omega
   ·show o.aB++b <+:o.all++b;rw[a];exact qoa _
   ·show(o.all++b).length<=2048;rw[a]at f;rw[qm0];omega
   ·exact absurd (c.symm.trans e) aM
   ·exact absurd (by unfold Ot.closed;rw[e];rfl) d
   ·exact absurd (c.symm.trans e) aM
def Jz{A B:av}(f:gM A)(g:eH A B)(h:eH B A)(k:Nat)(b:List UInt8):rH A B (A.dD k ((A.out k).send b).1):=by obtain⟨a,c,d,e⟩:=Zl (f.wr k) b;exact mq f g h k _ a c d (by rw[e];exact qnu _ _)
def Q6{o:Ot}(w:EI o):EI o.finish.1/\o.finish.1.aT=o.aT/\sF o o.finish.1/\o.finish.1.dB=o.dB:=by
 unfold Ot.finish;split;·exact⟨w,rfl,sF.refl _,rfl⟩
 ·exact⟨⟨w.sl,w.sb,w.pr,w.sz,w.ng,w.gv⟩,rfl,⟨qj _,qoa _,fun _=>⟨rfl,rfl⟩,fun e=>⟨e,rfl,rfl,qj _⟩⟩,rfl⟩
def Ci{A B:av}(b:gM A)(f:eH A B)(g:eH B A)(k:Nat):rH A B (A.dD k (A.out k).finish.1):=by obtain⟨a,c,d,e⟩:=Q6 (b.wr k);exact mq b f g k _ a c d (by rw[e];exact qnu _ _)
def JB{o:Ot}(w:EI o)(a:Int):EI (o.reset a)/\(o.reset a).aT=o.aT/\sF o (o.reset a)/\(o.reset a).dB=o.dB/\(o.reset a).nt.bN=true/\(o.reset a).aB.length=min (max a 0).toNat o.aB.length:=by
 obtain⟨n,f⟩:=bT (min (max a 0).toNat o.aB.length);have e:o.reset a={o with aB:=o.aB.take n,nt:=o.nt.zD (max o.dB n)}:=by rw[f];rfl
 have d:(o.aB.take n).length=n:=by rw[qm8];omega
 have g:o.aB.take n <+:o.all:=(List.take_prefix _ _).trans w.pr;have k:=w.pr.length_le;have l:=w.sb;rw[e,<-f];cases b:o.nt.bN
 ·have c:o.nt.zD (max o.dB n)=⟨true,max o.dB n,UT,UT⟩:=by unfold Nt.zD;rw[b];rfl
  rw[c];refine⟨⟨w.sl,w.sb,g,w.sz,(fun x=>by cases x),fun _=>⟨qpc _ _,?_,?_⟩⟩,rfl,⟨qj _,qoa _,fun x=>⟨x,rfl⟩,fun x=>absurd (b.symm.trans x) aM⟩,rfl,rfl,d⟩;·show(o.aB.take n).length<=max o.dB n;omega
  ·show max o.dB n<=o.all.length;omega
 ·have c:o.nt.zD (max o.dB n)=o.nt:=by unfold Nt.zD;rw[b];rfl
  rw[c];obtain⟨h,j,i⟩:=w.gv b;refine⟨⟨w.sl,w.sb,g,w.sz,fun x=>absurd (b.symm.trans x) aM,fun _=>⟨h,?_,i⟩⟩,rfl,⟨qj _,qoa _,fun x=>⟨x,rfl⟩,fun x=>⟨x,rfl,rfl,?_⟩⟩,rfl,b,d⟩;·show(o.aB.take n).length<=o.nt.aC;omega
  ·show(o.aB.take n).length<=o.aB.length;omega
def Q7{A B:av}(f:gM A)(g:eH A B)(h:eH B A)(k:Nat)(b:Int):rH A B (A.dD k ((A.out k).reset b)):=by obtain⟨a,c,d,e,_⟩:=JB (f.wr k) b;exact mq f g h k _ a c d (by rw[e];exact qnu _ _)
def vk{A B:av}(a:gM A)(b:eH A B)(c:eH B A)(q:List Fr)(v:WA)(t l:Nat)(e:∀f∈q,QD f)(d:q.length<=16):rH A B {A with aK:=q,qv:=v,aW:=t,least:=l}:=
 ⟨⟨a.lo,a.li,a.wr,a.sp,a.it,a.gt,a.kW,e,d⟩,⟨b.rd,b.jS,b.aP⟩,⟨c.rd,c.jS,c.aP⟩,⟨fun _=>sF.refl _,fun _=>qj _,qj _,qj _⟩⟩
def mZ:∀(c:List Bool) (j:Nat),j<(c.takeWhile id).length->c.getD j false=true
 |[],j,h=>by simp at h
 |a::t,j,h=>by
  cases a;·simp at h
  ·cases j;·rfl
   ·simpa using mZ t _ (by simpa using h)
def MW{o:Ot}{i:eU}(h:vX o i):i.aY+i.ready<=i.fF:=by
 by_cases a:i.ready=0;·have:=h.rh;omega
 ·have g:=(h.got (i.ready-1) (mZ _ _ (by unfold eU.ready at *;omega))).1;omega
def wR{o:Ot}{i:eU}(h:vX o i):i.ready<=i.bK.length:=by rw[<-h.len];unfold eU.ready;exact(List.takeWhile_prefix _).length_le
def Zm{o:Ot}{i:eU}(h:vX o i)(n:Nat)(c:n<=i.ready):i.bK.take n=(o.all.drop i.aY).take n:=by
 have b:=wR h;refine qon fun j=>?_;by_cases a:j<n;·have g:=(h.got j (mZ _ _ (by unfold eU.ready at *;omega))).2;rw[qpl a,qpl a,qmu,g,qly];rw[qm3 aj];rfl
 ·rw[qn7 rR,qn7 rR]
def Q8{o:Ot}{i:eU}(h:vX o i)(a:i.state≠0):i.ready=0:=by
 by_cases b:i.ready=0;·exact b
 ·rcases h.st with e|⟨_,_,e⟩|⟨_,g,e⟩;·exact absurd e a
  ·have g:=(h.got (i.ready-1) (mZ _ _ (by unfold eU.ready at *;omega))).2;obtain⟨x,_⟩:=qo8.1 g;omega
  ·have:=(h.bN g).2.2.2.2;have:=wR h;omega
def qd0{o:Ot}{i:eU}(C:EI o)(h:vX o i)(f:Int):vX o (i.rd f).2/\(i.rd f).2.gr=i.gr/\i.aZ<=(i.rd f).2.aZ/\(i.rd f).2.aY=i.aY+(i.rd f).1.length/\(i.rd f).1=(o.all.drop i.aY).take (i.rd f).1.length:=by
 have L:=wR h;have K:=MW h;have z:min i.ready (max f 0).toNat<=i.ready:=Nat.min_le_left _ _;have B:=Zm h _ z;obtain⟨n,t⟩:=bT (min i.ready (max f 0).toNat);unfold eU.rd;simp only[<-t]at z B ⊢;have y:(i.bK.take n).length=n:=by rw[qm8];omega
 have u:vX o {i.cut n with state:=if(i.cut n).state=0 then(i.cut n).iT else(i.cut n).state}:=by
  have G:=h.fF;have H:=C.sb;refine⟨h.jS,h.fF,?_,h.cO,fun g=>?_,?_,?_,fun j e=>?_⟩;·show i.aY+n<=i.fF;omega
  ·obtain⟨a,b,c,d,e⟩:=h.bN g;refine⟨a,b,c,d,?_⟩;show(i.bK.drop n).length<=i.rel-(i.aY+n);rw[qms];omega
  ·show(if i.state=0 then(i.cut n).iT else i.state)=0\/(if i.state=0 then(i.cut n).iT else i.state)=1/\o.bG=true/\i.aY+n=o.all.length\/(if i.state=0 then(i.cut n).iT else i.state)=2/\i.bN=true/\i.rel<=i.aY+n;by_cases r:i.state=0
   ·rw[bM r];unfold eU.iT;split;·exact .inl rfl
    ·rename_i v;have w:i.cO=true:=by
      cases I:i.cO;·exact absurd (Or.inl I) v
      ·rfl
     have A:¬(i.cut n).aY<(i.cut n).wanted:=fun x=>v (Or.inr x);have q:(i.cut n).aY=i.aY+n:=rfl;cases p:i.bN
     ·have k:(i.cut n).wanted=i.gH:=by
       unfold eU.wanted;rw[show(i.cut n).bN=false from p,show(i.cut n).cO=true from w];rfl
      obtain⟨a,b,c⟩:=h.cO w p;rw[show(i.cut n).bN=false from p,aV aM];refine .inr (.inl ⟨rfl,a,?_⟩);rw[k,q]at A;omega
     ·have k:(i.cut n).wanted=i.rel:=by
       unfold eU.wanted;rw[show(i.cut n).bN=true from p];rfl
      rw[show(i.cut n).bN=true from p,bM rfl];rw[k,q]at A;exact .inr (.inr ⟨rfl,rfl,aj⟩)
   ·rw[aV r];have M:=Q8 h r;rcases h.st with e|⟨l,m,E⟩|⟨l,m,E⟩;·exact absurd e r
    ·exact .inr (.inl ⟨l,m,aj⟩)
    ·exact .inr (.inr ⟨l,m,aj⟩)
  ·show(i.aP.drop n).length=(i.bK.drop n).length;rw[qms,qms,h.len]
  ·have D:i.aP.getD (n+j) false=true:=by
    have:(i.aP.drop n).getD j false=true:=e;rw[qly,qmu]at this;rw[qly];exact this
   obtain⟨J,F⟩:=h.got _ D;refine⟨by show i.aY+n+j<i.fF;omega,?_⟩;show o.all[i.aY+n+j]?=some ((i.bK.drop n).getD j 0);rw[qpz,F,qly,qly,qmu]
 refine⟨u,rfl,?_,?_,?_⟩
 ·by_cases s:i.state=2
  ·have m:(if(i.cut n).state=0 then(i.cut n).iT else(i.cut n).state)=2:=by
    rw[show(i.cut n).state=2 from s];rfl
   unfold eU.aZ;rw[bM s,bM m];exact qj _
  ·have l:i.aZ=i.aY:=by unfold eU.aZ;rw[aV s]
   rw[l];exact qlz (qnu _ _) (u.fr C)
 ·rw[y];rfl
 ·rw[y];exact B
def JD{A B:av}(c:gM A)(f:gM B)(e:eH A B)(b:eH B A)(k:Nat)(a:Int):rH A B (A.fT k ((A.cK k).rd a).2):=by obtain⟨r,g,d,_,_⟩:=qd0 (f.wr k) (b.rd k) a;refine rJ c e b k r (by rw[g];exact qj _) d ?_;rw[g];refine qlz (c.it k) ?_;unfold Gn.jS;omega
def Pm:∀(l:bZ) (a e:Nat),(mP a l e).2<=e
 |[],_,_=>qj _
 |r::t,a,e=>by
  unfold mP;split;·exact qo9 _ _
  ·split;·exact qj _
   ·exact Pm t _ e
def yt{g:Fr}{b:List UInt8}{a:Int}(h:pI f b a=some g):∃n,n<=b.length/\g={f with data:=⟨(b.take n).toArray⟩}:=by
 unfold pI at h;split at h;·cases h
 ·refine⟨_,?_,(qmn h).symm⟩;omega
def BF{o o':Ot}{H:Int}{i:Nat}(m:EI o)(G:o.bD i=true)(h:o.next k H i=some (f,o')):f.aD=4/\f.aG=(k:Int)/\MU o' f/\EI o'/\o'.aT=o.aT/\sF o o'/\o'.dB<=o.dB+i/\o'.aB=o.aB/\o'.nt=o.nt:=by
 have D:(o.dP i).1<(o.dP i).2:=of_decide_eq_true G;have s:(o.dP i).2<=(if o.iR (o.reach i)then o.reach i+1 else o.reach i):=Pm _ _ _;have S:o.reach i<=o.aB.length:=by unfold Ot.reach;omega
 have U:o.reach i<=o.aT:=by unfold Ot.reach;omega
 have T:o.reach i<=o.dB+i:=by unfold Ot.reach;omega
 obtain⟨d,C⟩:=bT ((o.dP i).1);obtain⟨q,F⟩:=bT ((o.dP i).2);unfold Ot.next at h;simp only[<-C,<-F]at h D s;have key:d<=o.reach i/\min q o.aB.length<=o.reach i/\(min q o.aB.length<=d->d=o.aB.length/\o.iR (o.reach i)=true/\o.reach i=o.aB.length):=by
  by_cases u:o.iR (o.reach i)=true
  ·rw[bM u]at s;have J:o.reach i=o.aB.length:=by
    unfold Ot.iR at u;simp only[qmg,decide_eq_true_eq]at u;exact u.2
   refine⟨aj,aj,fun h=>⟨aj,u,J⟩⟩
  ·rw[aV u]at s;refine⟨aj,aj,fun h=>aj⟩
 cases hF:pI (tQ k d) ((o.aB.take (min q o.aB.length)).drop d) H with
 |none=>rw[hF]at h;cases h
 |some g=>
  rw[hF]at h;simp only at h;split at h;·cases h
  ·rename_i E;obtain⟨n,Y,y⟩:=yt hF;have w:=qmn h;have r:f={g with bG:=o.iR (bL g)}:=(congrArg eB w).symm;have j:o'=({o with dB:=max o.dB (bL g)}:Ot).aw f:=by rw[r];exact(congrArg nI w).symm
   have M:g.data.size=n:=by rw[y];show(mE n _).toArray.size=n;rw[qp1,qm8];omega
   have N:((o.aB.take (min q o.aB.length)).drop d).length=min q o.aB.length-d:=by rw[qms,qm8];omega
   have z:g.aC=d:=by rw[y];rfl
   have v:bL g=d+n:=by unfold bL;rw[M,z]
   have l:bL f=d+n:=by rw[r];exact v
   have I:d+n<=o.reach i:=hwZ key.1 key.2.1;have P:f.data.data.toList=(o.aB.take (d+n)).drop d:=by
    rw[r,y];show(mE n (List.drop d (mE (min q o.aB.length) o.aB)))=_;rw[List.take_drop,qpe];congr 2
    omega
   have p:f.bG=o.iR (d+n):=by rw[r];show o.iR (bL g)=_;rw[v]
   have R:=m.pr.length_le;have A:sF o o':=by rw[j];exact⟨qpc _ _,qoa _,fun x=>⟨x,rfl⟩,fun x=>⟨x,rfl,rfl,qj _⟩⟩
   have B:(o.all.take (d+n)).drop d=(o.aB.take (d+n)).drop d:=by obtain⟨t,V⟩:=m.pr;rw[<-V,qnz aj]
   refine⟨by rw[r,y];rfl,by rw[r,y];rfl,⟨?_,?_,?_,fun e=>?_,?_⟩,⟨?_,?_,?_,?_,?_,?_⟩,by rw[j];rfl,A,?_,by rw[j];rfl,by rw[j];rfl⟩;·rw[l,j];show d+n<=max o.dB (bL g);omega
   ·rw[l,j];show d+n<=o.all.length;omega
   ·rw[l,j,P];show _=((o.all.take (d+n)).drop f.aC);rw[show f.aC=d by rw[r];exact z,B]
   ·rw[p]at e;unfold Ot.iR at e;simp only[qmg,decide_eq_true_eq,qok]at e;rw[j];exact⟨e.1.1,by rw[l];show d+n=o.all.length;rw[<-m.ng e.1.2];exact e.2⟩
   ·by_cases W:0<d+n;·rw[l];exact .inr W
    ·left;have Q:min q o.aB.length<=d:=by
      by_cases O:d<min q o.aB.length;·exact absurd ⟨O,aj⟩ E
      ·omega
     obtain⟨a,b,c⟩:=key.2.2 Q;rw[p,show d+n=o.reach i by omega];exact b
   ·rw[j];show max o.dB (bL g)<=o.aT;have:=m.sl;omega
   ·rw[j];show max o.dB (bL g)<=o.all.length;have:=m.sb;omega
   ·rw[j];exact m.pr
   ·rw[j];exact m.sz
   ·rw[j];exact m.ng
   ·rw[j];intro x;obtain⟨X,K,L⟩:=m.gv x;exact⟨by show max o.dB (bL g)<=o.nt.aC;omega,K,L⟩
   ·rw[j];show max o.dB (bL g)<=_;omega
def MX{A B:av}(a:gM A)(b:eH A B)(c:eH B A)(g:Gn)(e:g.ahead=A.gr.ahead)(d:A.gr.dX<=g.dX)(f:g.dX<=A.gr.jS A.aZ):rH A B {A with gr:=g}:=
 ⟨⟨a.lo,a.li,a.wr,a.sp,a.it,by show g.dX<=g.jS A.aZ;unfold Gn.jS at *;rw[e];exact f,a.kW,a.q,a.ql⟩,⟨b.rd,b.jS,b.aP⟩,⟨c.rd,qlz c.jS d,c.aP⟩,⟨fun _=>sF.refl _,fun _=>qj _,d,qj _⟩⟩
def kE{A B:av}(c:gM A)(a:eH A B)(b:eH B A):rH A B A:=⟨c,a,b,EH.refl A⟩
def Pn{o:Ot}{i:eU}(h:vX o i)(g:Gn)(a:i.gr.dX<=g.dX):vX o {i with gr:=g}:=
 ⟨qlz h.jS a,h.fF,h.rh,h.cO,h.bN,h.st,h.len,h.got⟩
def rM{g g':Gn}{aD:Int}{a:Nat}{b:Int}(h:g.next aD k a b=some (f,g')):f=lW aD k (g.jS a)/\g'=({g with dX:=g.jS a}:Gn).aw (g.jS a):=by
 unfold Gn.next at h;split at h;·cases h
 ·have:=qmn h;exact⟨(congrArg eB this).symm,(congrArg nI this).symm⟩
def JE{A B A':av}(d:gM A)(v:eH A B)(p:eH B A)(c dV:bZ)(u:Nat)(z:Int)(f:Fr)(S:u<48)(q:∀r∈c,r.2<B.next)(i:A.bD c u=true)(h:A.frame c u z=some (f,A',dV)):rH A B A'/\qQ A' B f/\(∀r∈dV,r.2<B.next):=by
 unfold av.frame at h;unfold av.bD at i;by_cases u0:u=0
 ·rw[bM u0]at h;split at h;·cases h
  ·rename_i E;have e:=qmn h;have l:dS (c.take (fP c z c.length))=f:=congrArg eB e;have k:A=A':=congrArg (fun x=>x.2.1) e;have n:c.drop (fP c z c.length)=dV:=congrArg (fun x=>x.2.2) e;subst l k n;refine⟨kE d v p,.inl ⟨rfl,?_,?_⟩,fun r M=>q r (qo2 M)⟩
   ·cases c with
    |nil=>exact absurd rfl E
    |cons a t=>
     show mE _ (a::t)≠[];intro y;rw[List.take_eq_nil_iff]at y;rcases y with y|y;·exact E y
     ·cases y
   ·cases c with
    |nil=>exact absurd rfl E
    |cons a t=>show((mE _ (a::t)).getD 0 (0,0)).2<B.next;obtain⟨m,L⟩:∃m,fP (a::t) z (a::t).length=m+1:=⟨fP (a::t) z (a::t).length-1,aj⟩;rw[L];exact q a aM
 ·rw[aV u0]at h i;simp only[qmg]at i;replace i:=i.2;by_cases u8:u=8;·rw[bM u8]at h;obtain⟨⟨f1,s⟩,j,e⟩:=qmj.1 h;obtain⟨o,b⟩:=rM j;have l:f1=f:=congrArg eB e;have k:{A with gr:=s}=A':=congrArg (fun x=>x.2.1) e;have n:c=dV:=congrArg (fun x=>x.2.2) e;subst l k n;refine⟨MX d v p s (by rw[b];rfl) (by rw[b];exact d.gt) (by rw[b];exact qj _),.inr (.inr (.inl ⟨by rw[o];rfl,?_⟩)),q⟩;rw[o,b];exact qj _
  ·rw[aV u8]at h i;by_cases u24:u<24
   ·rw[bM u24]at h;obtain⟨⟨f1,s⟩,j,e⟩:=qmj.1 h;obtain⟨o,b⟩:=rM j;have l:f1=f:=congrArg eB e;have k:A.fT (u-16) {A.cK (u-16)with gr:=s}=A':=congrArg (fun x=>x.2.1) e;have n:c=dV:=congrArg (fun x=>x.2.2) e;subst l k n;have G:(A.cK (u-16)).gr.dX<=s.dX:=by rw[b];exact d.it _
    refine⟨rJ d v p (u-16) (Pn (p.rd _) s G) G (qj _) (by rw[b];exact qj _),.inr (.inr (.inr (.inl ⟨by rw[o];rfl,by rw[o];exact qpv _,?_,?_⟩))),q⟩;·rw[o];show((u-16:Nat):Int)<8;omega
    ·rw[o];show(A.cK (u-16)).gr.jS _<=((A.fT (u-16) _).cK (((u-16:Nat):Int).toNat)).gr.dX;rw[qp6,jT,bM ⟨rfl,by rw[d.li];omega⟩,b];exact qj _
   ·rw[aV u24]at h i;by_cases u32:u<32
    ·rw[bM u32]at h i;obtain⟨⟨f1,D⟩,j,e⟩:=qmj.1 h;have l:f1=f:=congrArg eB e;have k:A.dD (u-24) {A.out (u-24)with nt:=D}=A':=congrArg (fun x=>x.2.1) e;have n:c=dV:=congrArg (fun x=>x.2.2) e;subst l k n;unfold Nt.next at j;split at j;·cases j
     ·have I:nD (u-24) (A.out (u-24)).nt.aC (A.out (u-24)).aB.length=f1:=congrArg eB (qmn j);have J:(A.out (u-24)).nt.aw (A.out (u-24)).aB.length=D:=congrArg nI (qmn j);have w:=d.wr (u-24);unfold Nt.bD at i;simp only[qmg]at i;subst I J;refine⟨mq d v p (u-24) _ ⟨w.sl,w.sb,w.pr,w.sz,w.ng,w.gv⟩ rfl ⟨qj _,qoa _,fun x=>⟨x,rfl⟩,fun x=>⟨x,rfl,rfl,qj _⟩⟩ (qnu _ _),.inr (.inr (.inr (.inr (.inl ⟨rfl,qpv _,?_,?_⟩)))),q⟩;·show((u-24:Nat):Int)<8;omega
      ·show MV ((A.dD (u-24) _).out ((u-24:Nat):Int).toNat) _;rw[qp6,kD,bM ⟨rfl,by rw[d.lo];omega⟩];exact⟨i.1,rfl,qj _,qlz w.pr.length_le w.sz⟩
    ·rw[aV u32]at h i;by_cases C:u=32
     ·rw[bM C]at h i;split at h;·cases h
      ·obtain⟨g,K,e⟩:=qmj.1 h;have l:g=f:=congrArg eB e;have k:{A with aK:=A.aK.tail,qv:=Et A.qv}=A':=congrArg (fun x=>x.2.1) e;have n:c=dV:=congrArg (fun x=>x.2.2) e;subst l k n;exact⟨vk d v p _ _ A.aW A.least (fun x j=>d.q x (qqn j)) (by rw[List.length_tail];have:=d.ql;omega),.inr (.inr (.inr (.inr (.inr (d.q g (List.mem_of_mem_head? K)))))),q⟩
     ·rw[aV C]at h i;obtain⟨⟨f1,H⟩,j,e⟩:=qmj.1 h;have l:f1=f:=congrArg eB e;have k:A.dD (u-40) H=A':=congrArg (fun x=>x.2.1) e;have n:c=dV:=congrArg (fun x=>x.2.2) e;subst l k n;obtain⟨D,F,N,O,P,Q,R,_⟩:=BF (d.wr _) i j;refine⟨mq d v p (u-40) H O P Q R,.inr (.inl ⟨D,by rw[F];exact qpv _,by rw[F];omega,?_⟩),q⟩;rw[F,qp6,kD,bM ⟨rfl,by rw[d.lo];omega⟩];exact N
end Go.Proofs.YtphbledmopchnaaGreatDoor.Sd
namespace Go.Proofs.YtphbledmopchnaaGreatDoor
open Go.RowKit Go.Lib Go.Shelf Mm Tryz
def bQ:bZ->bJ
 |[]=>[]
 |r::t=>(uZ r.1)::(uZ r.2)::bQ t
def iX(f:Fr)(v:WA):bJ:=[iZ f.aD,iZ f.aG,uZ f.aC,uZ f.aN,uZ f.aT,.bool f.bG,uZ f.id,uZ f.aH,.string f.data,v]
def qF(a:List Fr)(b:Nat->WA):Nat->bJ
 |0=>[]
 |k+1=>qF a b k++iX (a.getD k iL) (b k)
def mQ:∀a,∀v∈bQ a,v.oneCell'=true
 |[],v,hv=>by simp[bQ]at hv
 |r::t,v,hv=>by
  simp[bQ]at hv;rcases hv with rfl|rfl|hv;·rfl
  ·rfl
  ·exact mQ t v hv
def wT:∀(a:bZ) j,j<a.length->(bQ a)[j*2]?=some (uZ ((a.getD j (0,0)).1:Int))/\(bQ a)[j*2+1]?=some (uZ ((a.getD j (0,0)).2:Int))
 |[],j,h=>by simp at h
 |r::t,0,h=>by simp[bQ]
 |r::t,j+1,h=>by have:=wT t j (by simpa using h);rw[show(j+1)*2=j*2+1+1 by omega];simp only[bQ,qma,qo3];exact this
def jW:∀a b,bQ (a++b)=bQ a++bQ b
 |[],b=>rfl
 |r::t,b=>by simp[bQ,jW t b]
def Fg(a:List Fr)(b:Nat->WA):∀k,(qF a b k).length=k*10
 |0=>rfl
 |k+1=>by rw[qF,qm0,Fg a b k];simp[iX];omega
def Fh(a:List Fr)(b:Nat->WA):∀k j i,j<k->i<10->(qF a b k)[j*10+i]?=(iX (a.getD j iL) (b j))[i]?
 |0,j,i,h,_=>aj
 |k+1,j,i,h,hi=>by
  have c:=Fg a b k;rw[qF];by_cases e:j=k;·subst e;rw[qn0 aj];congr 1;omega
  ·rw[qmw aj];exact Fh a b k j i aj hi
def Am(b:List Fr)(c a:Nat->WA):∀k,(∀j,j<k->c j=a j)->qF b c k=qF b a k
 |0,_=>rfl
 |k+1,h=>by rw[qF,qF,Am b c a k (fun j d=>h j aj),h k aj]
structure lX (f:Fr):Prop where
 Bb:f.ranges.length<=1000000000
 Bc:f.data.size<=1000000000
 k0: -9223372036854775808<=f.aD/\f.aD<=9223372036854775807
 s0: -9223372036854775808<=f.aG/\f.aG<=9223372036854775807
 u0:f.aC<18446744073709551616/\f.aN<18446744073709551616/\f.aT<18446744073709551616/\f.id<18446744073709551616/\f.aH<18446744073709551616
 r0:∀j,j<f.ranges.length->(f.ranges.getD j (0,0)).1<18446744073709551616/\(f.ranges.getD j (0,0)).2<18446744073709551616
structure yw (B:Nat) (w:Wq) (s:WA) (fs:List Fr) (v9:Nat->WA) (k:Nat):Prop where
 buf:dY 65 10 w s k (qF fs v9 k)
 own:Own B s
 qO:∀j,j<k->dY 170 2 w (v9 j) (fs.getD j iL).ranges.length (bQ (fs.getD j iL).ranges)/\Own B (v9 j)/\∀b,(v9 j).ownBlock=some b->s.ownBlock≠some b
def U8:WA->Option V3
 |.slice a _ _=>a
 |_=>none
def Zp:WA->Nat
 |.slice _ _ c=>c
 |_=>0
def yw.O_{B:Nat}{w:Wq}{s:WA}{c:List Fr}{m:Nat->WA}(h:yw B w s c m c.length)(v:∀j,j<c.length->lX (c.getD j iL)):∃n q,s=.slice n c.length q/\nC w n c (fun j=>U8 (m j)) (fun j=>Zp (m j)):=by
 obtain⟨n,q,C,_⟩:=h.buf.shape;refine⟨n,q,C,fun j t=>?_⟩;have l:=fun i f=>Fh c m c.length j i t f;have b:=fun i (f:i<10) x (p:(iX (c.getD j iL) (m j))[i]?=some x)=>h.buf.cell C (j*10+i) x (by rw[l i f];exact p);obtain⟨g,r,E,_⟩:=b 0 aj _ rfl;subst r;obtain⟨d,a,F,_⟩:=b 1 aj _ rfl;cases a;obtain⟨d,a,G,_⟩:=b 2 aj _ rfl;cases a;obtain⟨d,a,H,_⟩:=b 3 aj _ rfl;cases a;obtain⟨d,a,I,_⟩:=b 4 aj _ rfl;cases a;obtain⟨d,a,J,_⟩:=b 5 aj _ rfl;cases a;obtain⟨d,a,K,_⟩:=b 6 aj _ rfl;cases a;obtain⟨d,a,L,_⟩:=b 7 aj _ rfl;cases a;obtain⟨d,a,M,_⟩:=b 8 aj _ rfl;cases a;obtain⟨d,a,N,_⟩:=b 9 aj _ rfl;cases a;obtain⟨o,_,_⟩:=h.qO j t;obtain⟨S,U,e,u⟩:=o.shape;have k:=v j t;refine⟨g,0,rfl,⟨by rw[qm5];exact E,by rw[qm5];exact F,by rw[qm5];exact G,by rw[qm5];exact H,by rw[qm5];exact I,by rw[qm5];exact J,by rw[qm5];exact K,by rw[qm5];exact L,by rw[qm5];exact M,?_,?_,k.Bb,k.Bc,k.k0,k.s0,k.u0⟩,?_,?_⟩;·rw[qm5,N];simp only[e,U8,Zp]
 ·intro i f;obtain⟨Q,R⟩:=wT _ i f;obtain⟨D,z,O,_⟩:=o.cell e _ _ Q;obtain⟨T,A,P,_⟩:=o.cell e _ _ R;rw[z]at A;cases A;refine⟨D,0,by simp only[e];exact z,by rw[qm5];exact O,by rw[qm5];exact P,k.r0 i f⟩
 ·simp only[e];exact u
 ·intro x p;simp only[e]at p;refine o.lt x.block ?_;have y:S=some x:=p;rw[e,y];rfl
def Mm.aL.setCell{w:Wq}{b:Nat}{t:Vg}{l:bJ}(h:aL w b t l)(o:Nat)(v:WA):aL (w.setCell (ay b o) v) b t (l.set o v):=by
 have:=heap_setCell_same w b o l.toArray t v h;unfold aL;rw[this];congr 2
 apply qox;simp
end Go.Proofs.YtphbledmopchnaaGreatDoor
namespace Go.Proofs.YtphbledmopchnaaGreatDoor.Sd
open Go.RowKit Go.Lib Mm Tryz
variable {R S b k n n' o o':Nat}{T:List Nat}{d w w' y y':Wq}{e t:Vg}{l l':bJ}{v:WA}
abbrev Own:=Nat->Nat
structure Kp (T:List Nat) (oZ aQ:Own) (w w':Wq):Prop where
 os:w'.os=w.os
 tape:w'.tape=w.tape
 output:w'.output=w.output
 size:w.heap.size<=w'.heap.size
 bY:∀b,b<w.heap.size->oZ b∉T->w'.heap[b]?=w.heap[b]?
 ext:∀b,b<w.heap.size->aQ b=oZ b
def Kp.refl(T:List Nat)(oZ:Own)(w:Wq):Kp T oZ oZ w w:=⟨rfl,rfl,rfl,qj _,fun _ _ _=>rfl,fun _ _=>rfl⟩
def Kp.trans{T:List Nat}{d e f:Own}{w g i:Wq}(h:Kp T d e w g)(k:Kp T e f g i):Kp T d f w i:=
 ⟨k.os.trans h.os,k.tape.trans h.tape,k.output.trans h.output,qlz h.size k.size,fun b a c=>(k.bY b (qm9 a h.size) (by rw[h.ext b a];exact c)).trans (h.bY b a c),fun b a=>(k.ext b (qm9 a h.size)).trans (h.ext b a)⟩
def Kp.mono{a:List Nat}{o o':Own}(h:Kp T o o' w w')(c:∀t∈T,t∈a):Kp a o o' w w':=
 ⟨h.os,h.tape,h.output,h.size,fun b d f=>h.bY b d (fun e=>f (c _ e)),h.ext⟩
def Kp.below{oZ:Own}(h:bE w w'):Kp T oZ oZ w w':=
 ⟨h.os,h.tape,h.output,h.size,fun b a _=>h.block b a,fun _ _=>rfl⟩
def Kp.iA{o o':Own}{a b:Wq}(h:Kp T o o' w a)(k:bE a b):Kp T o o' w b:=h.trans (Kp.below k)
def Kp.drewN{T:List Nat}{o o':Own}{w a:Wq}(h:Kp T o o' w a)(q:Nat):Kp T o o' w (a.drewN q):=⟨h.os,h.tape,h.output,h.size,h.bY,h.ext⟩
def Kp.set(oZ:Own)(w:Wq)(a:V3)(v:WA)(T:List Nat)(h:oZ a.block∈T):Kp T oZ oZ w (w.setCell a v):=
 ⟨rfl,rfl,rfl,aM,fun b _ c=>qmd _ _ _ _ (fun e=>c (by rw[e];exact h)),fun _ _=>rfl⟩
def Kp.alloc(oZ:Own)(w:Wq)(o:Obj)(T:List Nat):Kp T oZ oZ w (w.alloc o):=Kp.below ((qlw _ w).alloc (qj _) o)
def bU{o o':Own}(h:aL w b t l)(k:Kp T o o' w w')(a:o b∉T):aL w' b t l:=h.of_heap (k.bY b h.lt a)
def GT(oZ:Own)(t:Nat)(e:Vg)(k:Nat)(w:Wq)(v:WA)(n:Nat)(l:bJ):Prop:=
 v=nZ/\n=0/\l=[]\/∃g cap a,v=(dh g n cap)/\oZ g=t/\aL w g e a/\cap*k<=a.length/\n<=cap/\cap<=9223372036854775807/\l.length=n*k/\a.take (n*k)=l/\∀v∈a,v.oneCell'=true
def GT.kp{oZ aQ:Own}{t:Nat}(h:GT oZ t e k w v n l)(K:Kp T oZ aQ w w')(i:t∉T):GT aQ t e k w' v n l:=by
 rcases h with h|⟨g,cap,c,d,a,b,f⟩;·exact .inl h
 ·exact .inr ⟨g,cap,c,d,by rw[K.ext g b.lt,a],bU b K (by rw[a];exact i),f⟩
def GT.len{oZ:Own}{t:Nat}(h:GT oZ t e k w v n l):l.length=n*k:=by
 rcases h with⟨_,rfl,rfl⟩|⟨_,_,_,_,_,_,_,_,_,h,_⟩;·simp
 ·exact h
def GT.shape{oZ:Own}{t:Nat}(h:GT oZ t e k w v n l):∃a c,v=.slice a n c/\n<=c/\c<=9223372036854775807:=by
 rcases h with⟨rfl,rfl,_⟩|⟨g,cap,cs,rfl,_,_,_,h,h',_⟩;·exact⟨_,_,rfl,qj _,aj⟩
 ·exact⟨_,_,rfl,h,h'⟩
def GT.cell{oZ:Own}{t:Nat}{e:Vg}{k:Nat}{w:Wq}{a:Option V3}{n c:Nat}{l:bJ}(h:GT oZ t e k w (.slice a n c) n l)(j:Nat)(x:WA)(b:l[j]?=some x):∃g,a=some (ay g 0)/\oZ g=t/\g<w.heap.size/\w.cell? (ay g j)=some x/\w.frozen? (ay g j)=false:=by
 rcases h with⟨_,rfl,rfl⟩|⟨g,cap,cs,hv,ho,hB,_,_,_,h4,h5,_⟩;·simp at b
 ·simp at hv;refine⟨g,hv.1,ho,hB.lt,?_,hB.frozen j⟩;rw[hB.cell];rw[<-h5,qm6]at b;split at b;·exact b
  ·cases b
def GT.Q_{oZ:Own}{t:Nat}(h:dY e k w v n l)(i:∀b,v.ownBlock=some b->oZ b=t):GT oZ t e k w v n l:=by
 rcases h with h|⟨g,cap,c,a,d,j,f⟩;·exact .inl h
 ·exact .inr ⟨g,cap,c,a,i g (by rw[a];rfl),d,aj,f⟩
def kR(l l':bJ)(o n:Nat):Prop:=l'.length=l.length/\∀j,j<o\/o+n<=j->l'[j]?=l[j]?
def kR.refl(l:bJ)(o n:Nat):kR l l o n:=⟨rfl,fun _ _=>rfl⟩
def kR.trans{a b c:bJ}{o n:Nat}(h:kR a b o n)(k:kR b c o n):kR a c o n:=⟨k.1.trans h.1,fun j d=>(k.2 j d).trans (h.2 j d)⟩
def kR.mono{a b:bJ}(h:kR a b o n)(c:o'<=o)(d:o+n<=o'+n'):kR a b o' n':=⟨h.1,fun j e=>h.2 j aj⟩
def kR.set(l:bJ)(j:Nat)(v:WA)(o n:Nat)(a:o<=j)(b:j<o+n):kR l (l.set j v) o n:=
 ⟨aM,fun i c=>by rw[qn1 aj]⟩
abbrev TS:Vg:=210
structure l6 (R:Nat) (y y':Wq):Prop where
 os:y'.os=y.os
 tape:y'.tape=y.tape
 output:y'.output=y.output
 size:y'.heap.size=y.heap.size
 block:∀k,k≠R->y'.heap[k]?=y.heap[k]?
def l6.refl(R:Nat)(y:Wq):l6 R y y:=⟨rfl,rfl,rfl,rfl,fun _ _=>rfl⟩
def l6.set(h:l6 R y y')(o:Nat)(v:WA):l6 R y (y'.setCell (ay R o) v):=
 ⟨h.os,h.tape,h.output,by rw[<-h.size];simp,fun k a=>(qmd y' (ay R o) v k a).trans (h.block k a)⟩
structure f_ (w w':Wq) (S:Nat) (l l':bJ) (o n:Nat):Prop where
 os:w'.os=w.os
 tape:w'.tape=w.tape
 output:w'.output=w.output
 size:w.heap.size<=w'.heap.size
 al:∀b,b<w.heap.size->b≠S->w'.heap[b]?=w.heap[b]?
 bY:aL w' S TS l'
 dW:kR l l' o n
def f_.refl{w:Wq}{S:Nat}{l:bJ}(a:aL w S TS l)(o n:Nat):f_ w w S l l o n:=⟨rfl,rfl,rfl,qj _,fun _ _ _=>rfl,a,kR.refl _ _ _⟩
def f_.one(e:aL w S TS l)(j:Nat)(v:WA)(o n:Nat)(c:o<=j)(d:j<o+n):f_ w (w.setCell (ay S j) v) S l (l.set j v) o n:=
 ⟨rfl,rfl,rfl,aM,fun b _ a=>qmd _ _ _ _ a,e.setCell j v,kR.set l j v o n c d⟩
def f_.trans{w f g:Wq}{S:Nat}{l d e:bJ}{o n:Nat}(h:f_ w f S l d o n)(k:f_ f g S d e o n):f_ w g S l e o n:=
 ⟨k.os.trans h.os,k.tape.trans h.tape,k.output.trans h.output,qlz h.size k.size,fun b c a=>(k.al b (qm9 c h.size) a).trans (h.al b c a),k.bY,h.dW.trans k.dW⟩
def f_.mono{w w':Wq}{S:Nat}{l l':bJ}{o n o' n':Nat}(h:f_ w w' S l l' o n)(a:o'<=o)(b:o+n<=o'+n'):f_ w w' S l l' o' n':=⟨h.os,h.tape,h.output,h.size,h.al,h.bY,h.dW.mono a b⟩
def f_.kp(h:f_ w w' S l l' o n){s:Nat}{oZ:Own}(a:oZ S=s)(c:s∈T):Kp T oZ oZ w w':=
 ⟨h.os,h.tape,h.output,h.size,fun b d f=>h.al b d (fun e=>f (by rw[e,a];exact c)),fun _ _=>rfl⟩
def Kp.drew{T:List Nat}{o o':Own}{w a:Wq}(h:Kp T o o' w a):Kp T o o' w a.drew:=⟨h.os,h.tape,h.output,h.size,h.bY,h.ext⟩
def f_.drew{w w':Wq}{S:Nat}{l l':bJ}{o n:Nat}(h:f_ w w' S l l' o n):f_ w w'.drew S l l' o n:=⟨h.os,h.tape,h.output,h.size,h.al,h.bY.drew,h.dW⟩
def f_.drewN{w w':Wq}{S:Nat}{l l':bJ}{o n:Nat}(h:f_ w w' S l l' o n)(q:Nat):f_ w (w'.drewN q) S l l' o n:=⟨h.os,h.tape,h.output,h.size,h.al,h.bY,h.dW⟩
def f_.after{W:Wq}(k:bE w W)(h:f_ W w' S l l' o n):f_ w w' S l l' o n:=
 ⟨h.os.trans k.os,h.tape.trans k.tape,h.output.trans k.output,qlz k.size h.size,fun b c a=>(h.al b (qm9 c k.size) a).trans (k.block b c),h.bY,h.dW⟩
def f_.iA(h:f_ w d S l l' o n)(k:bE d w'):f_ w w' S l l' o n:=
 ⟨k.os.trans h.os,k.tape.trans h.tape,k.output.trans h.output,qlz h.size k.size,fun b c a=>(k.block b (qm9 c h.size)).trans (h.al b c a),h.bY.of_heap (k.block _ h.bY.lt),h.dW⟩
def f_.tch(h:f_ w d S l l' o n)(t:l6 R d w')(f:w.heap.size<=R)(a:S≠R):f_ w w' S l l' o n:=
 ⟨t.os.trans h.os,t.tape.trans h.tape,t.output.trans h.output,by rw[t.size];exact h.size,fun b e c=>(t.block b aj).trans (h.al b e c),h.bY.of_heap (t.block _ a),h.dW⟩
def f_.other(h:f_ w w' S l l' o n){m:bJ}(c:aL w b t m)(a:b≠S):aL w' b t m:=c.of_heap (h.al b c.lt a)
def loc(oZ:Own)(n:Nat):Own:=fun b=>if b<n then oZ b else 0
def jo(oZ:Own)(n b:Nat)(h:b<n):loc oZ n b=oZ b:=bM h
def iY(oZ:Own)(n b:Nat)(h:n<=b):loc oZ n b=0:=aV aj
structure wU (l:bJ) (o:Nat) (g:Gn):Prop where
 c0:l[o]?=some (uZ g.ahead)
 c1:l[o+1]?=some (uZ g.dX)
 c2:l[o+2]?=some (uZ g.gK)
 c3:l[o+3]?=some (uZ g.aP)
def wU.dW{g:Gn}(h:wU l o g)(w:kR l l' o' n')(a:o+4<=o'\/o'+n'<=o):wU l' o g:=
 ⟨by rw[w.2 _ aj,h.c0],by rw[w.2 _ aj,h.c1],by rw[w.2 _ aj,h.c2],by rw[w.2 _ aj,h.c3]⟩
structure wV (l:bJ) (o:Nat) (n:Nt):Prop where
 c0:l[o]?=some (.bool n.bN)
 c1:l[o+1]?=some (uZ n.aC)
 c2:l[o+2]?=some (uZ n.gK)
 c3:l[o+3]?=some (uZ n.aP)
def wV.dW{g:Nt}(h:wV l o g)(w:kR l l' o' n')(a:o+4<=o'\/o'+n'<=o):wV l' o g:=
 ⟨by rw[w.2 _ aj,h.c0],by rw[w.2 _ aj,h.c1],by rw[w.2 _ aj,h.c2],by rw[w.2 _ aj,h.c3]⟩
def max2(a b:Nat):∃m:Nat,(∀c t w,(fB c t #[uZ a,uZ b]).run prog w=.ok (uZ m) w)/\m=max a b:=by
 refine⟨max a b,fun c t w=>?_,rfl⟩;simp only[fB,qpa,qpd,mK];simp only[qnv,qow,qp8];by_cases h:a<b;·simp[h,Nat.max_eq_right (qoo h)]
 ·simp[h,Nat.max_eq_left (Nat.le_of_not_lt h)]
def min2(a b:Nat):∃m:Nat,(∀c t w,(fE c t #[uZ a,uZ b]).run prog w=.ok (uZ m) w)/\m=min a b:=by
 refine⟨min a b,fun c t w=>?_,rfl⟩;simp only[fE,qpa,qpd,mR];simp only[qnv,qow,qp8];by_cases h:b<a;·simp[h,Nat.min_eq_right (qoo h)]
 ·simp[h,Nat.min_eq_left (Nat.le_of_not_lt h)]
def Pp(a b:Int):∃m:Int,(∀c t w,(fE c t #[iZ a,iZ b]).run prog w=.ok (iZ m) w)/\m=min a b:=by
 refine⟨min a b,fun c t w=>?_,rfl⟩;simp only[fE,qpa,qpd,mR];simp only[qnv,qow,qp8];by_cases h:b<a;·simp[h,Int.min_eq_right (Int.le_of_lt h)]
 ·simp[h,Int.min_eq_left (Int.not_lt.1 h)]
def qd1(a b:Int):∃m:Int,(∀c t w,(fB c t #[iZ a,iZ b]).run prog w=.ok (iZ m) w)/\m=max a b:=by
 refine⟨max a b,fun c t w=>?_,rfl⟩;simp only[fB,qpa,qpd,mK];simp only[qnv,qow,qp8];by_cases h:a<b;·simp[h,Int.max_eq_right (Int.le_of_lt h)]
 ·simp[h,Int.max_eq_left (Int.not_lt.1 h)]
def jI(y:Wq)(R:Nat)(a b c d e f g h i j:WA):Wq:=
 (((((((((y.setCell (ay R 0) a).setCell (ay R 1) b).setCell (ay R 2) c).setCell (ay R 3) d).setCell (ay R 4) e).setCell (ay R 5) f).setCell (ay R 6) g).setCell (ay R 7) h).setCell (ay R 8) i).setCell (ay R 9) j
def gq(y:Wq)(R:Nat)(a b c d e f g h i j:WA):(((((((((y.setCell (ay R 0) a).setCell (ay R 1) b).setCell (ay R 2) c).setCell (ay R 3) d).setCell (ay R 4) e).setCell (ay R 5) f).setCell (ay R 6) g).setCell (ay R 7) h).setCell (ay R 8) i).setCell (ay R 9) j=jI y R a b c d e f g h i j:=rfl
def fK{u0 u1 u2 u3 u4 u5 u6 u7 u8 u9:WA}(h:aL y R t [u0,u1,u2,u3,u4,u5,u6,u7,u8,u9])(a b c d e f g i j k:WA):aL (jI y R a b c d e f g i j k) R t [a,b,c,d,e,f,g,i,j,k]:=
 (((((((((h.setCell 0 a).setCell 1 b).setCell 2 c).setCell 3 d).setCell 4 e).setCell 5 f).setCell 6 g).setCell 7 i).setCell 8 j).setCell 9 k
def fM(y:Wq)(R:Nat)(a b c d e f g h i j:WA):l6 R y (jI y R a b c d e f g h i j):=
 ((((((((((l6.refl R y).set 0 a).set 1 b).set 2 c).set 3 d).set 4 e).set 5 f).set 6 g).set 7 h).set 8 i).set 9 j
def l6.below{B:Nat}(t:l6 R y y')(h:Below B w y)(b:B<=R):Below B w y':=
 ⟨t.os.trans h.os,t.tape.trans h.tape,t.output.trans h.output,by have:=h.size;rw[t.size];exact this,fun k a=>(t.block k aj).trans (h.block k a)⟩
def l6.kp{o o':Own}(t:l6 R y y')(h:Kp T o o' w y)(c:w.heap.size<=R):Kp T o o' w y':=
 ⟨t.os.trans h.os,t.tape.trans h.tape,t.output.trans h.output,by rw[t.size];exact h.size,fun k a b=>(t.block k aj).trans (h.bY k a b),h.ext⟩
def cB(l:bJ)(j:Nat)(v x:WA)(h:l[j]?=some x):(l.set j v)[j]?=some v:=by rw[qo0 (qo8.1 h).1]
def aA(l:bJ)(j i:Nat)(v:WA)(h:j≠i):(l.set j v)[i]?=l[i]?:=qn1 h
end Go.Proofs.YtphbledmopchnaaGreatDoor.Sd
namespace Go.Proofs.YtphbledmopchnaaGreatDoor.Sd
open Go.RowKit Go.Lib Mm St Tryz
variable {W w w':Wq}{a b c d e f n:Nat}{base:Option V3}{l:bJ}{rs:bZ}
def nW(w:Wq)(e a:Nat)(l:bJ)(b:Int)(d:Nat)(base:Option V3)(n c:Nat):Prop:=
 aL w e TS l/\l[a]?=some (iZ b)/\l[a+1]?=some (uZ d)/\l[a+2]?=some (.slice base n c)
def nW.of{b:Int}(h:nW w a f l b d base n c)(e:w'.heap[a]?=w.heap[a]?):nW w' a f l b d base n c:=⟨h.1.of_heap e,h.2⟩
def nW.cell0{a:Int}(h:nW w d b l a e base n c):w.cell? (ay d b)=some (iZ a):=by rw[h.1.cell];exact h.2.1
def nW.Fq{e:Int}(h:nW w d b l e a base n c):w.cell? (ay d (b+1))=some (uZ a):=by rw[h.1.cell];exact h.2.2.1
def nW.oF{d:Int}(h:nW w b a l d e base n c):w.cell? (ay b (a+2))=some (.slice base n c):=by rw[h.1.cell];exact h.2.2.2
def Bn(w:Wq)(a e:Nat)(l:bJ)(b:Int)(d:Nat)(rs:bZ)(row:Option Nat):Prop:=
 ∃base c,nW w a e l b d base rs.length c/\rs.length<=c/\c<=9223372036854775807/\row=base.map (·.block)/\jJ w a base c rs
def GV(w:Wq)(e b:Nat)(l:bJ)(c:Int)(d:Nat)(rs:bZ)(row:Option Nat):Prop:=
 ∃a,Bn w e b a c d rs row/\kR l a b 3
def Nb(f e j g b c n i d x:Nat)(W:Wq)(s:i<n)(_hn:n<4611686018427387904)(cs:W.cell? (ay f 0)=some (aJ j g))(p:W.cell? (ay e 0)=some (uZ d))(o:W.cell? (ay j (g+2))=some (dh b n c))(r:W.cell? (ay b (i*2+1))=some (uZ x))(a:d<18446744073709551616)(l:x<18446744073709551616):qH 221 (#[iZ i]++#[aJ f 0,aJ e 0]) W (.bool (!decide (x+1<d))) fun m=>∃q,m=W.drewN q:=by have k:(i:Int)<(n:Int):=aj;go_enter func221,ntmps221;go_wp2;go_quiet ((go_at_call 222;exact qn6 (St.Fp _ _ l a _)));go_wp2;go_ret;exact⟨rfl,nq,rfl⟩
def Nc(f e j g b c n i d x:Nat)(W:Wq)(k:i<n)(_hn:n<4611686018427387904)(cs:W.cell? (ay f 0)=some (aJ j g))(r:W.cell? (ay e 1)=some (uZ d))(p:W.cell? (ay j (g+2))=some (dh b n c))(s:W.cell? (ay b (i*2))=some (uZ x))(a:d<18446744073709551616)(m:x<18446744073709551616):qH 223 (#[iZ i]++#[aJ e 0,aJ f 0]) W (.bool (decide (d+1<x))) fun o=>∃q,o=W.drewN q:=by have l:(i:Int)<(n:Int):=aj;go_enter func223,ntmps223;go_wp2;go_quiet ((go_at_call 222;exact qn6 (St.Fp _ _ a m _)));go_wp2;go_ret;exact⟨rfl,nq,rfl⟩
def Ra(d a f e b c n i v x:Nat)(W:Wq)(g:i<n)(_hn:n<4611686018427387904)(cs:W.cell? (ay d 0)=some (aJ f e))(m:W.cell? (ay a 0)=some (uZ v))(l:W.cell? (ay f (e+2))=some (dh b n c))(o:W.cell? (ay b (i*2+1))=some (uZ x)):qH 172 (#[iZ i]++#[aJ d 0,aJ a 0]) W (.bool (decide (v<=x))) fun k=>∃q,k=W.drewN q:=by have j:(i:Int)<(n:Int):=aj;go_enter func172,ntmps172;go_wp2;go_quiet (fail);go_wp2;go_ret;exact⟨St.dK aM,nq,rfl⟩
def JO(g f n d:Nat)(u:Rg.gW rs)(t:Small rs)(z:rs.length<=1000000)(l:d<18446744073709551616)(cs:W.cell? (ay g 0)=some (aJ e n))(p:W.cell? (ay f 0)=some (uZ d))(o:W.cell? (ay e (n+2))=some (.slice base rs.length c))(R:jJ W e base c rs):qH 171 #[(iZ (rs.length:Nat)),.func (.func 221) #[] #[aJ g 0,aJ f 0]] W (iZ (Rg.ku d rs:Nat)) fun x=>∃q,x=W.drewN q:=by
 have w:(fA rs.length).countP (fun i=> !(!decide ((rs.getD i (0,0)).2+1<d)))=Rg.ku d rs:=by simp only[Bool.not_not];exact mF rs (fun r=>decide (r.2+1<d))
 rw[<-w];refine wY 221 _ rs.length (fun i=> !decide ((rs.getD i (0,0)).2+1<d)) W (enters_of func221 bO rfl) aj (fun m i k=>?_) (fun a b j v h=>?_);·obtain⟨b,rfl,_,_,s,y⟩:=R.qI k;exact Nb g f e n b c rs.length i d _ (W.drewN m) k aj cs p o s l (t.get k).2
 ·have:=(sK u j v).2;simp only[qok,decide_eq_false_iff_not]at h ⊢;omega
def JQ(j g n d:Nat)(W:Wq)(u:Rg.gW rs)(t:Small rs)(A:rs.length<=1000000)(l:d<18446744073709551616)(cs:W.cell? (ay j 0)=some (aJ f n))(p:W.cell? (ay g 1)=some (uZ d))(o:W.cell? (ay f (n+2))=some (.slice base rs.length c))(R:jJ W f base c rs):qH 171 #[(iZ (rs.length:Nat)),.func (.func 223) #[] #[aJ g 0,aJ j 0]] W (iZ (Rg.iW d rs:Nat)) fun y=>∃q,y=W.drewN q:=by
 have w:(fA rs.length).countP (fun i=> !(decide (d+1<(rs.getD i (0,0)).1)))=Rg.iW d rs:=by rw[mF rs (fun r=> !decide (d+1<r.1))];unfold Rg.iW;apply qql;intro x _;simp
 rw[<-w];refine wY 223 _ rs.length (fun i=>decide (d+1<(rs.getD i (0,0)).1)) W (enters_of func223 bO rfl) aj (fun m i e=>?_) (fun a b k v h=>?_);·obtain⟨b,rfl,_,_,z,s⟩:=R.qI e;exact Nc j g f n b c rs.length i d _ (W.drewN m) e aj cs p o s l (t.get e).1
 ·have:=(sK u k v).1;simp only[decide_eq_true_eq]at h ⊢;omega
def Vd(f e j v:Nat)(p:Rg.gW rs)(y:rs.length<=1000000)(cs:W.cell? (ay f 0)=some (aJ d j))(n:W.cell? (ay e 0)=some (uZ v))(l:W.cell? (ay d (j+2))=some (.slice base rs.length c))(R:jJ W d base c rs):qH 171 #[(iZ (rs.length:Nat)),.func (.func 172) #[] #[aJ f 0,aJ e 0]] W (iZ (rs.countP (fun r=>decide (r.2<v)):Nat)) fun u=>∃q,u=W.drewN q:=by
 have t:(fA rs.length).countP (fun i=> !(decide (v<=(rs.getD i (0,0)).2)))=rs.countP (fun r=>decide (r.2<v)):=by rw[mF rs (fun r=> !decide (v<=r.2))];apply qql;intro x _;simp
 rw[<-t];refine wY 172 _ rs.length (fun i=>decide (v<=(rs.getD i (0,0)).2)) W (enters_of func172 bO rfl) aj (fun m i k=>?_) (fun a b g s h=>?_);·obtain⟨b,rfl,_,_,o,w⟩:=R.qI k;exact Ra f e d j b c rs.length i v _ (W.drewN m) k aj cs n l o
 ·have:=(sK p g s).2;simp only[decide_eq_true_eq]at h ⊢;omega
def Nf{r:Wq}{j:Nat}{s:Int}{t:Nat}{a:bZ}{i:Nat}{l':bJ}(y:nW w f j l s t base rs.length c)(R:jJ w f base c rs)(m:bE w r)(C:aL w' d 170 l')(D:l'.length=2*i)(E:a.length<=i)(F:i<=9223372036854775807)(G:l'.take (2*a.length)=St.bQ a)(H:∀v∈l',v.oneCell'=true)(n:r.grownBy w' (base.map (·.block)))(z:some d=base.map (·.block)\/r.heap.size<=d):GV (w'.setCell (ay f (j+2)) (dh d a.length i)) f j l s t a (some d)/\Kept w (w'.setCell (ay f (j+2)) (dh d a.length i)) f (base.map (·.block))/\(some d=base.map (·.block)\/w.heap.size<=d):=by
 have u:=y.1.lt;have I:=m.size;have g:∀k,base.map (·.block)=some k->k≠f:=by
  intro k p;rcases R with⟨rfl,_⟩|⟨b,l,rfl,A,_⟩;·cases p
  ·simp at p;rw[<-p];exact A
 have o:d≠f:=by
  rcases z with h|h;·exact g d h.symm
  ·omega
 have q:nW w' f j l s t base rs.length c:=
  (y.of (m.block f u)).of (n.block f aj (fun e=>g f e.symm rfl))
 refine⟨⟨l.set (j+2) (dh d a.length i),⟨some (ay d 0),i,⟨q.1.setCell (j+2) _,by rw[aA _ _ _ _ aj];exact q.2.1,by rw[aA _ _ _ _ aj];exact q.2.2.1,cB _ _ _ _ q.2.2.2⟩,E,F,rfl,.inr ⟨d,l',rfl,o,C.jO _ _ o,D,G,H⟩⟩,kR.set _ _ _ _ _ aj aj⟩,⟨?_,?_,?_,?_,?_⟩,?_⟩;·exact n.os.trans m.os
 ·exact n.tape.trans m.tape
 ·exact n.output.trans m.output
 ·have:=n.size;show w.heap.size<=(w'.heap.modify _ _).size;simp;omega
 ·intro k p x B;rw[qmd _ _ _ _ x,n.block k aj B,m.block k p]
 ·rcases z with h|h;·exact .inl h
  ·exact .inr aj
def vY(s d a:Nat)(D:Int)(E:Nat)(l:bJ)(W6:Wq)(u:Rg.gW rs)(N:rs.length<=1000000)(m:d<=a)(F:nW w n s l D E base rs.length c)(R:jJ w n base c rs)(K:rs.length<=c)(r:c<=9223372036854775807)(p:bE w W6)(g:Wq)(j:g.heap=(W6.alloc (.cells #[(uZ ((Rg.EG d a rs).1:Int)),(uZ ((Rg.EG d a rs).2:Int))] 170)).heap)(y:g.os=W6.os)(A:g.tape=W6.tape)(z:g.output=W6.output):Calls prog 224 #[.slice base rs.length c,(iZ (Rg.ku d rs:Nat)),(iZ (Rg.iW a rs:Nat)),dh W6.heap.size 1 1] g fun e t=>
   ∃h o,e=.returned (dh h (Rg.ins d a rs).length o)/\(GV (t.setCell (ay n (s+2)) (dh h (Rg.ins d a rs).length o)) n s l D E (Rg.ins d a rs) (some h)/\Kept w (t.setCell (ay n (s+2)) (dh h (Rg.ins d a rs).length o)) n (base.map (·.block))/\(some h=base.map (·.block)\/w.heap.size<=h))
    /\g.grownBy t (base.map (·.block)):=by
 have C:=Rg.yh m u;have x:=Rg.BD a rs;have U:=p.size;have M:=F.1.lt;have B:aL g W6.heap.size 170 [(uZ ((Rg.EG d a rs).1:Int)),(uZ ((Rg.EG d a rs).2:Int))]:=
  (aL.new W6 170 _).of_heap (by rw[j])
 have q:bE w g:=⟨y.trans p.os,A.trans p.tape,z.trans p.output,by rw[j];simp;omega,fun k L=>by rw[j,qmr _ _ _ aj];exact p.block k L⟩;have i:Rg.ku d rs+1+(rs.length-Rg.iW a rs)=(Rg.ins d a rs).length:=by rw[Rg.GH rs d a m u];simp;omega
 have f:St.bQ (Rg.ins d a rs)=(St.bQ rs).take (2*Rg.ku d rs)++[(uZ ((Rg.EG d a rs).1:Int)),(uZ ((Rg.EG d a rs).2:Int))]++(St.bQ rs).drop (2*Rg.iW a rs):=by rw[Rg.GH rs d a m u,St.jW,St.Aq,St.Ar];simp[St.bQ]
 refine(JN base rs.length c (Rg.ku d rs) (Rg.iW a rs) (St.bQ rs) [(uZ ((Rg.EG d a rs).1:Int)),(uZ ((Rg.EG d a rs).2:Int))] C x K r N ?_ B rfl ?_).mono ?_
 ·rcases R with⟨rfl,rfl,rfl⟩|⟨b,l,h1,h2,h3,h4,h5,h6⟩;·exact .inl ⟨rfl,rfl,rfl,rfl⟩
  ·have:=h3.lt;exact .inr ⟨b,l,h1,h3.of_heap (q.block b h3.lt),h4,h5.symm,aj,h6⟩
 ·intro v G;simp at G;rcases G with rfl|rfl<;>rfl
 ·rintro e t ⟨h,o,V,rfl,O,P,H,Q,I,S,J,T⟩;rw[i]at H I;rw[i];exact⟨h,o,rfl,Nf F R q O P H Q (by rw[I,f]) S J T,J⟩
def Au{W6:Wq}{g:Nat}{r:Int}{s:Nat}{a b:Int}(v:nW w d g l r s base n c)(f:∀k,base.map (·.block)=some k->k≠d/\k<w.heap.size)(D:bE w W6)(t:aL W6 w.heap.size 273 [aJ d g])(q:aL W6 (w.heap.size+1) 170 [uZ a,uZ b]):W6.cell? (ay w.heap.size 0)=some (aJ d g)/\W6.cell? (ay (w.heap.size+1) 0)=some (uZ a)/\W6.cell? (ay (w.heap.size+1) 1)=some (uZ b)/\W6.cell? (ay d (g+2))=some (.slice base n c)/\d<W6.heap.size/\w.heap.size<W6.heap.size/\w.heap.size+1<W6.heap.size/\(∀(m i:Wq) (o:Obj),m.heap=(W6.alloc o).heap->m.grownBy i (base.map (·.block))->(i.cell? (ay w.heap.size 0)=some (aJ d g)/\i.cell? (ay (w.heap.size+1) 0)=some (uZ a)/\i.cell? (ay (w.heap.size+1) 1)=some (uZ b))/\i.cell? (ay d (g+2))=some (.slice base n c)/\i.frozen? (ay d (g+2))=false):=by
 have j:nW W6 d g l r s base n c:=v.of (D.block d v.1.lt);have z:=t.lt;have A:=q.lt;have B:=j.1.lt;have F:=v.1.lt;refine⟨t.cell 0,q.cell 0,q.cell 1,j.oF,B,z,A,?_⟩;intro m i o p u;have e:∀k,k<W6.heap.size->m.heap[k]?=W6.heap[k]?:=fun k E=>by rw[p,qmr _ _ _ E]
 have G:W6.heap.size<=m.heap.size:=by rw[p];simp
 have C:aL i w.heap.size 273 _:=(t.of_heap (e _ z)).of_heap (u.block _ aj (fun h=>bR ((f _ h.symm).2)));have x:nW i d g l r s base n c:=(j.of (e _ B)).of (u.block _ aj (fun h=>(f _ h.symm).1 rfl));have y:aL i (w.heap.size+1) 170 _:=(q.of_heap (e _ A)).of_heap (u.block _ aj (fun h=>bR ((f _ h.symm).2)));exact⟨⟨C.cell 0,y.cell 0,y.cell 1⟩,x.oF,x.1.frozen (g+2)⟩
def Ve(e v:Nat)(L:Int)(i:Nat)(l:bJ)(Q:Rg.gW rs)(T:rs.length<=1000000)(q:nW w d e l L i base rs.length c)(R:jJ w d base c rs):qH 128 #[aJ d e,uZ v] w (.bool (decide (v<i)||Rg.has v rs)) fun N=>bE w N:=by
 obtain⟨W,B⟩:=bT ((w.alloc (.cells #[aJ d e] 273)).alloc (.cells #[uZ v] 43));have m:aL W w.heap.size 273 [aJ d e]:=by rw[B];exact(aL.new w 273 _).alloc _
 have k:aL W (w.heap.size+1) 43 [uZ v]:=by rw[B];have:=aL.new (w.alloc (.cells #[aJ d e] 273)) 43 [uZ v];rwa[qmx]at this
 have A:bE w W:=by rw[B];exact((qlw _ w).alloc (qj _) _).alloc aM _
 have g:nW W d e l L i base rs.length c:=q.of (A.block d q.1.lt);have D:jJ W d base c rs:=R.of_heap (fun b G=>A.block b (nT R b (by rw[G];rfl)).2);have J:=Vd w.heap.size (w.heap.size+1) e v Q T (m.cell 0) (k.cell 0) (g.oF) D;have H:w.cell? (ay d (e+2))=some (.slice base rs.length c):=q.oF;have S:d<w.heap.size:=q.1.lt;have f:=aF (show Rg.has v rs=(decide (rs.countP (fun r=>decide (r.2<v))<rs.length)&&decide ((rs.getD (rs.countP (fun r=>decide (r.2<v))) (0,0)).1<=v))from rfl);have F:rs.countP (fun r=>decide (r.2<v))<=rs.length:=List.countP_le_length;generalize rs.countP (fun r=>decide (r.2<v))=I at J f F;have s:W.cell? (ay w.heap.size 0)=some (aJ d e):=m.cell 0;have t:W.cell? (ay (w.heap.size+1) 0)=some (uZ v):=k.cell 0;have u:W.cell? (ay d (e+1))=some (uZ i):=g.Fq;have y:W.cell? (ay d (e+2))=some (.slice base rs.length c):=g.oF;have M:=aF J;have n:=aF A;have p:=aF (dw s (dw t (dw u y)));have K:=aF D;clear J A D m k g q s t u y R;subst B;go_enter func128,ntmps128;go_wp2_with fail;refine bH M.out ?_;rintro N ⟨V,rfl⟩;go_wp2_with fail;generalize j:((w.alloc (.cells #[aJ d e] 273)).alloc (.cells #[uZ v] 43)).drewN V=o;obtain⟨s,t,u,y⟩:=p.out;have a:Hid (bE w o):=by rw[<-j];exact⟨n.out.os,n.out.tape,n.out.output,n.out.size,n.out.block⟩
 have Z:o.cell? (ay w.heap.size 0)=some (aJ d e):=by rw[<-j];exact s
 have j1:o.cell? (ay (w.heap.size+1) 0)=some (uZ v):=by rw[<-j];exact t
 have j2:o.cell? (ay d (e+1))=some (uZ i):=by rw[<-j];exact u
 have j3:o.cell? (ay d (e+2))=some (.slice base rs.length c):=by rw[<-j];exact y
 have C:Hid (jJ o d base c rs):=by rw[<-j];exact jJ.of_heap K.out (fun _ _=>rfl)
 clear j p s t u y M K n H;by_cases z:v<i;·have P:(v:Int)<(i:Int):=aj;have O:=aF z;clear z;go_quiet (fail);go_wp2;go_ret;exact⟨St.dK (by simp[O.out]),a.out.os,a.out.tape,a.out.output,a.out.size,a.out.block⟩
 ·have P:decide ((v:Int)<(i:Int))=false:=rR;by_cases E:I<rs.length;·have Y:(I:Int)<((rs.length:Nat):Int):=aj;obtain⟨b,G,_,_,_,U⟩:=C.out.qI E;subst G;generalize (rs.getD I (0,0)).1=x at U f;go_quiet (fail);go_wp2;go_ret;exact⟨St.dK (by rw[f.out];simp[z,E]),a.out.os,a.out.tape,a.out.output,a.out.size,a.out.block⟩
  ·have X:decide ((I:Int)<((rs.length:Nat):Int))=false:=rR;go_quiet (fail);go_wp2;go_ret;exact⟨St.dK (by rw[f.out];simp[z,E]),a.out.os,a.out.tape,a.out.output,a.out.size,a.out.block⟩
