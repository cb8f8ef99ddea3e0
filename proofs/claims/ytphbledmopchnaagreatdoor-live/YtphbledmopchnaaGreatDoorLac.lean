import Derived.Test.YtphbledmopchnaaGreatDoorLaa
import Derived.Laws.EntriesVeiled
import Derived.Shelf.Abstract
import Derived.Deep.RegionLaw
import Derived.Shelf.Spec.SlicesInsert
open Go.Addr renaming add_lit->lg
open Go.RowKit.Below renaming refl->o8
open Go.Builtin renaming zeroCells->eB,clear_->nU,copy_->sF
open Go.Lib renaming wpList_append_run->mI
open List renaming take_of_length_le->mE,mem_of_mem_drop->mK,mem_of_mem_take->mR,length_append->nI,take_append_of_le_length->nP,mem_append->nV,getElem?_take->og,drop_of_length_le->qx,getElem?_drop->rX,nil_append->tK,length_take->tL,take_take->tO
open Nat renaming le_refl->eT,mul_comm->mY,zero_add->nA,min_def->qy
open Go.Value renaming agg->j3
open Go.World renaming grownBy_alloc->qA
set_option maxHeartbeats 2000000
set_option maxRecDepth 100000
namespace Go.Proofs.YtphbledmopchnaaGreatDoor
open Go.RowKit Go.Lib Go.Shelf Mm Tryz
def Pp(B0:Nat)(w:World)(xb:Nat)(v:Value):Prop:=B0<=xb/\w.cell? (aB xb 0)=some v
theorem Pp.below{B0:Nat}{w w':World}{xb:Nat}{v:Value}(h:Pp B0 w xb v)(hb:bJ w w'):Pp B0 w' xb v:=
 ⟨h.1,(hb.cell (p:=(aB xb 0)) (World.block_lt_of_cell? _ _ h.2)).trans h.2⟩
theorem Pp.mono{B0 B1:Nat}{w:World}{xb:Nat}{v:Value}(h:Pp B1 w xb v)(hb:B0<=B1):Pp B0 w xb v:=⟨Nat.le_trans hb h.1,h.2⟩
def jo(B0:Nat)(w:World)(a:Nat×Nat)(b fr:Value):Prop:=
 (a.1=0/\∃xb,Pp B0 w xb (.int .u8 a.2)/\b=.func (.func 321) #[] #[aI xb 0]/\fr=.func (.func 322) #[] #[])\/(a.1=1/\b=.func (.func 331) #[] #[]/\fr=.func (.func 332) #[] #[])\/(a.1=2/\b=.func (.func 327) #[] #[]/\fr=.func (.func 328) #[] #[])\/(a.1=3/\∃xb,Pp B0 w xb (.func (.func a.2) #[] #[])/\b=.func (.func 329) #[] #[aI xb 0]/\fr=.func (.func 330) #[] #[aI xb 0])\/(a.1=4/\b=.func (.func 333) #[] #[]/\fr=.func (.func 334) #[] #[])\/(a.1=5/\b=.func (.func 325) #[] #[]/\fr=.func (.func 326) #[] #[])
theorem jo.below{B0:Nat}{w w':World}{a:Nat×Nat}{d fr:Value}(h:jo B0 w a d fr)(hb:bJ w w'):jo B0 w' a d fr:=by
 rcases h with⟨h,xb,c,b⟩|h|h|⟨h,xb,c,b⟩|h|h;·exact .inl ⟨h,xb,c.below hb,b⟩
 ·exact .inr (.inl h)
 ·exact .inr (.inr (.inl h))
 ·exact .inr (.inr (.inr (.inl ⟨h,xb,c.below hb,b⟩)))
 ·exact .inr (.inr (.inr (.inr (.inl h))))
 ·exact .inr (.inr (.inr (.inr (.inr h))))
theorem jo.mono{B0 B1:Nat}{w:World}{a:Nat×Nat}{d fr:Value}(h:jo B1 w a d fr)(hb:B0<=B1):jo B0 w a d fr:=by
 rcases h with⟨h,xb,c,b⟩|h|h|⟨h,xb,c,b⟩|h|h;·exact .inl ⟨h,xb,c.mono hb,b⟩
 ·exact .inr (.inl h)
 ·exact .inr (.inr (.inl h))
 ·exact .inr (.inr (.inr (.inl ⟨h,xb,c.mono hb,b⟩)))
 ·exact .inr (.inr (.inr (.inr (.inl h))))
 ·exact .inr (.inr (.inr (.inr (.inr h))))
def Made(w w':World)(a:Nat×Nat)(e:Ending):Prop:=∃b fr,e=.returned (.agg #[b,fr])/\jo w.heap.size w' a b fr/\bJ w w'
theorem Lv(x:Nat)(w:World):Calls prog 274 #[.int .u8 x] w fun e w'=>Made w w' (0,x) e:=by
 go_enter func274,ntmps274;go_wp2;refine bodyPost_ret (v:=.agg #[.func (.func 321) #[] #[aI w.heap.size 0],.func (.func 322) #[] #[]]) (by simp[results,results274,go_sem]) rfl ⟨_,_,rfl,.inl ⟨rfl,w.heap.size,⟨eT _,?_⟩,rfl,rfl⟩,?_⟩;·exact((aS.new w 5 [.int .u8 x]).alloc _).cell 0
 ·exact((o8 _ w).alloc (eT _) _).alloc aP _
theorem IK(w:World):Calls prog 276 #[] w fun e w'=>Made w w' (5,0) e:=by go_enter func276,ntmps276;go_wp2;exact bodyPost_ret (v:=.agg #[.func (.func 325) #[] #[],.func (.func 326) #[] #[]]) (by simp[results,results276,go_sem]) rfl ⟨_,_,rfl,.inr (.inr (.inr (.inr (.inr ⟨rfl,rfl,rfl⟩)))),(o8 _ w).alloc (eT _) _⟩
theorem sW(w:World):Calls prog 277 #[] w fun e w'=>Made w w' (2,0) e:=by go_enter func277,ntmps277;go_wp2;exact bodyPost_ret (v:=.agg #[.func (.func 327) #[] #[],.func (.func 328) #[] #[]]) (by simp[results,results277,go_sem]) rfl ⟨_,_,rfl,.inr (.inr (.inl ⟨rfl,rfl,rfl⟩)),(o8 _ w).alloc (eT _) _⟩
theorem Lx(w:World):Calls prog 281 #[] w fun e w'=>Made w w' (1,0) e:=by go_enter func281,ntmps281;go_wp2;exact bodyPost_ret (v:=.agg #[.func (.func 331) #[] #[],.func (.func 332) #[] #[]]) (by simp[results,results281,go_sem]) rfl ⟨_,_,rfl,.inr (.inl ⟨rfl,rfl,rfl⟩),(o8 _ w).alloc (eT _) _⟩
theorem Eu(w:World):Calls prog 282 #[] w fun e w'=>Made w w' (4,0) e:=by go_enter func282,ntmps282;go_wp2;exact bodyPost_ret (v:=.agg #[.func (.func 333) #[] #[],.func (.func 334) #[] #[]]) (by simp[results,results282,go_sem]) rfl ⟨_,_,rfl,.inr (.inr (.inr (.inr (.inl ⟨rfl,rfl,rfl⟩)))),(o8 _ w).alloc (eT _) _⟩
theorem jl(a:Nat)(w:World):Calls prog 278 #[.func (.func a) #[] #[]] w fun e w'=>Made w w' (3,a) e:=by
 go_enter func278,ntmps278;go_wp2;refine bodyPost_ret (v:=.agg #[.func (.func 329) #[] #[aI w.heap.size 0],.func (.func 330) #[] #[aI w.heap.size 0]]) (by simp[results,results278,go_sem]) rfl ⟨_,_,rfl,.inr (.inr (.inr (.inl ⟨rfl,w.heap.size,⟨eT _,?_⟩,rfl,rfl⟩))),?_⟩;·exact((aS.new w 357 [.func (.func a) #[] #[]]).alloc _).cell 0
 ·exact((o8 _ w).alloc (eT _) _).alloc aP _
theorem jq(s:Value)(hs:∃a n c,s=.slice a n c)(w:World):Calls prog 275 #[s] w fun e w'=>∃pb,e=.returned (.agg #[.func (.func 323) #[] #[aI pb 0],.func (.func 324) #[] #[aI pb 0]])/\Pp w.heap.size w' pb s/\bJ w w':=by
 obtain⟨a,n,c,rfl⟩:=hs;go_enter func275,ntmps275;go_wp2;refine bodyPost_ret (v:=.agg #[.func (.func 323) #[] #[aI w.heap.size 0],.func (.func 324) #[] #[aI w.heap.size 0]]) (by simp[results,results275,go_sem]) rfl ⟨w.heap.size,rfl,⟨eT _,?_⟩,?_⟩;·exact((aS.new w 380 [.slice a n c]).alloc _).cell 0
 ·exact((o8 _ w).alloc (eT _) _).alloc aP _
end Go.Proofs.YtphbledmopchnaaGreatDoor
namespace Go.Proofs.YtphbledmopchnaaGreatDoor.St
open Go.RowKit Go.Lib Mm Tryz
theorem u31:prog.underlying 63=some (.slice 170):=bH
theorem yR:(prog.info? 170).map (·.size)=some 2:=bH
theorem F9:(prog.info? 170).map (fun i=>(i.zero,i.size,i.bytes))=some (some (.agg #[uZ 0,uZ 0]),2,16):=bH
theorem TI(w:World):(Go.sizeOf 170).run prog w=.ok 2 w:=bH
theorem IV{w:World}{vb b off m vc lb cb:Nat}{vs l:bO}(c:aS w vb 170 vs)(h:aS w b 170 l)(hl:l.length≠0)(a:vb≠b):(callFunc 290 #[dP vb m vc,.slice (some (aB b off)) lb cb]).run prog w=.ok (.value (.bool false)) w:=by rw[run_callFunc_extern func290 bH bH bH (e:=Extern.SlicesOverlaps.overlaps #[63,63] #[4]) bH,Lib.run_overlaps_apart w 63 4 170 u31 2 TI (aB vb 0) (aB b off) m vc lb cb a 170 170 vs.length l.length c.shape h.shape hl (c.frozen 0) (c.frozen _)];rfl
theorem zO{l:bO}{a k j:Nat}{v:Value}(h:((l.drop a).take k)[j]?=some v):l[a+j]?=some v:=by
 rw[og]at h;split at h;·rwa[rX]at h
 ·cases h
theorem Ga(b n c i vb:Nat)(l vs:bO)(w:World)(hi:i<n)(A:n+1<=c)(R:c<=9223372036854775807)(t:vb≠b)(h:aS w b 170 l)(hl:l.length=2*c)(s:aS w vb 170 vs)(L:vs.length=2)(h1:∀v∈l,v.oneCell'=true)(u:∀v∈vs,v.oneCell'=true):Calls prog 289 #[dP b n c,iZ i,dP vb 1 1] w fun e w'=>
   e=.returned (dP b (n+1) c)/\∃q,w'=put (put (w.drewN q) b (aZ l (2*(i+1)) ((l.drop (2*i)).take (2*(n-i))))) b (aZ (aZ l (2*(i+1)) ((l.drop (2*i)).take (2*(n-i)))) (2*i) vs):=by
 have z:∀off lb cb,(callFunc 290 #[dP vb 1 1,.slice (some (aB b off)) lb cb]).run prog w=.ok (.value (.bool false)) w:=fun off lb cb=>IV s h aj t;have N:¬((i:Int)=(n:Int)):=aj;have O:(i:Int)<=(n:Int):=aj;generalize a:(l.drop (2*i)).take (2*(n-i))=d;have y:d.length=(n-i)*2:=by rw[<-a];simp;omega
 have r:∀j v,d[j]?=some v->w.cell? (aB b (i*2+j))=some v:=fun j v o=>by rw[h.cell,mY];rw[<-a]at o;exact zO o
 have x:∀v∈d,v.oneCell'=true:=fun v s=>h1 v (by rw[<-a]at s;exact mK (mR s));generalize k:aZ l (2*(i+1)) d=l1;have P:l1.length=2*c:=by rw[<-k,bY _ _ _ aj,hl]
 have f:∀(W:World),W.heap=w.heap->∀m p B,(sF #[63,63] m #[.slice (some (aB b ((i+1)*2))) (n-i) p,.slice (some (aB b (i*2))) (n+1-i) B]).run prog W=.ok (goInt ((n-i:Nat):Int)) (put W b l1):=fun W D m p B=>by have hB:aS W b 170 l:=h.of_heap (by rw[D]);rw[jm 63 63 m 170 hB (aB b (i*2)) (n+1-i) B 2 (n-i) d u31 yR (by simp only[qy];split<;>omega) y (fun j v o=>by rw[lg,hB.cell,<-h.cell];exact r j v o) aj x,<-k,mY (i+1) 2]
 have g:∀(W:World),aS W b 170 l1->aS W vb 170 vs->∀m p,(sF #[63,63] m #[.slice (some (aB b (i*2))) (n+1-i) p,dP vb 1 1]).run prog W=.ok (goInt ((1:Nat):Int)) (put W b (aZ l1 (2*i) vs)):=fun W hB C m p=>by rw[jm 63 63 m 170 hB (aB vb 0) 1 1 2 1 vs u31 yR (by simp only[qy];split<;>omega) aj (fun j v o=>by rw[lg,C.cell,nA];exact o) aj u,mY i 2]
 clear a k r;have M:IntKind.i64.wrap ((i:Int)+1)=(i:Int)+1:=by rw[IntKind.wrap_i64];omega
 have E:(0:Int)<=(i:Int)+1:=aj;have K:((i:Int)+1).toNat=i+1:=aj;have F:¬(c=i+1):=aj;have G:(i:Int)+1<=(n:Int)+1:=aj;have I:(i:Int)<=(n:Int)+1:=aj;have H:¬(c=i):=aj;go_enter func289,ntmps289;go_wp2_with (simp only[z]);have J:=f w.drew rfl;clear f;go_region
 have Q:=g (put w.drew b l1) (h.drew.put l1) (s.drew.of_heap (iG _ _ _ _ t));clear g;go_wp2;go_ret;exact⟨rfl,1,rfl⟩
def Out(w w':World)(row:Option Nat)(e:Ending)(n':Nat)(b:bO):Prop:=
 ∃a c' l',e=.returned (dP a n' c')/\aS w' a 170 l'/\l'.length=2*c'/\n'<=c'/\c'<=9223372036854775807/\l'.take (2*n')=b/\(∀v∈l',v.oneCell'=true)/\w.grownBy w' row/\(some a=row\/w.heap.size<=a)
theorem IW(b n c vb:Nat)(l vs:bO)(w:World)(a:n+1<=c)(p:c<=9223372036854775807)(h:aS w b 170 l)(hl:l.length=2*c)(i:aS w vb 170 vs)(k:vs.length=2)(d:∀v∈vs,v.oneCell'=true):Calls prog 289 #[dP b n c,iZ n,dP vb 1 1] w fun e w'=>
   e=.returned (dP b (n+1) c)/\w'=put w b (aZ l (n*2) vs):=by
 have f:=fun o=>fZ (P:=prog) (w:=w) 63 63 o 170 _ 2 16 u31 u31 F9 (n:=n) (c:=c) (m:=1) (mc:=1) h (aB vb 0) (vs:=vs) aj (fun j v g=>by rw[lg,i.cell,nA];exact g) d a aj;go_enter func289,ntmps289;go_wp2_with (at_builtin;refine mI _ rfl _ _ _ _ rfl _ _ rfl rfl _ _ (f _) ?_);go_ret;exact⟨rfl,rfl⟩
theorem rW(base:Option Addr)(n c vb:Nat)(cs vs:bO)(w:World)(o:n<=c)(d:c<n+1)(k:n<=1000000)(hold:base=none/\cs=[]/\n=0\/∃b,base=some (aB b 0)/\cs.length=n*2/\∀j v,cs[j]?=some v->w.cell? (aB b j)=some v)(p:aS w vb 170 vs)(q:vs.length=2)(g:∀v∈vs,v.oneCell'=true):Calls prog 289 #[.slice base n c,iZ n,dP vb 1 1] w fun e w'=>
   e=.returned (dP w.heap.size (n+1) (grownCap w (n+1) c 170))/\w'=w.drew.alloc (.cells (cs++vs++(eB (j3 #[uZ 0,uZ 0]).cells (grownCap w (n+1) c 170-(n+1))).toList).toArray 170):=by
 have a:=fun r=>jd (P:=prog) (w:=w) 63 63 r 170 _ 2 16 u31 u31 F9 (base:=base) (n:=n) (c:=c) (m:=1) (mc:=1) (cs:=cs) (by
   rcases hold with⟨h1,h,_⟩|⟨b,h1,h,h3⟩;·exact .inl ⟨h1,h⟩
   ·exact .inr ⟨_,h1,h,fun j v i=>by rw[lg,nA];exact h3 j v i⟩) (aB vb 0) (vs:=vs) aj (fun j v i=>by rw[lg,p.cell,nA];exact i) g d aj aj
 generalize f:cs++vs++(eB (j3 #[uZ 0,uZ 0]).cells (grownCap w (n+1) c 170-(n+1))).toList=l at a ⊢;clear f;generalize grownCap w (n+1) c 170=G at a ⊢;rcases hold with⟨rfl,_,rfl⟩|⟨b,rfl,_,_⟩;·go_enter func289,ntmps289;go_wp2_with (at_builtin;refine mI _ rfl _ _ _ _ rfl _ _ rfl rfl _ _ (a _) ?_);go_ret;exact⟨rfl,rfl⟩
 ·go_enter func289,ntmps289;go_wp2_with (at_builtin;refine mI _ rfl _ _ _ _ rfl _ _ rfl rfl _ _ (a _) ?_);go_ret;exact⟨rfl,rfl⟩
theorem IX(b n c i vb:Nat)(l vs:bO)(w:World)(hi:i<n)(h6:n<=c)(O:c<n+1)(T:n<=1000000)(h:aS w b 170 l)(hl:l.length=2*c)(a:aS w vb 170 vs)(Q:vs.length=2)(h1:∀v∈l,v.oneCell'=true)(A:∀v∈vs,v.oneCell'=true):Calls prog 289 #[dP b n c,iZ i,dP vb 1 1] w fun e w'=>
   Out w w' none e (n+1) ((l.take (2*n)).take (2*i)++vs++(l.take (2*n)).drop (2*i)):=by
 have N:c=n:=aj;subst N;have ha:¬((i:Int)=(c:Int)):=aj;have hc:(i:Int)<=(c:Int):=aj;have F:l.take (2*c)=l:=mE aj;rw[F];have p:=fun H=>sO (P:=prog) (w:=w) 63 3 H 170 _ 2 16 .i64 .i64 u31 bH F9 aj (aB b 0) (n:=i) (c:=c) (m:=c+1-i) (cs:=l.take (2*i)) (by simp;omega)
  (fun j v r=>by
   rw[lg,nA,h.cell];rw[og]at r;split at r;·exact r
   ·cases r) aj aj aj aj
 rw[show i+(c+1-i)=c+1 by omega,show((c+1-i:Nat):Int)=(c:Int)+1-(i:Int) by omega]at p;have M:=grownCap_ge w (c+1) c 170;have f:=grownCap_le_maxLen w (c+1) c 170 (by unfold maxLen;omega);unfold maxLen at f;generalize X:grownCap w (c+1) c 170=G at p M f;clear X;generalize I:l.take (2*i)++(eB (j3 #[uZ 0,uZ 0]).cells (c+1-i)).toList++(eB (j3 #[uZ 0,uZ 0]).cells (G-(c+1))).toList=R at p;have B:R.length=2*G:=by rw[<-I,nI,nI,gX,gX,tL];omega
 have C:R.take (2*i)=l.take (2*i):=by rw[<-I,List.append_assoc,nP (by simp;omega),mE (by simp;omega)]
 have V:∀v∈R,v.oneCell'=true:=by
  rw[<-I];intro v a;rcases nV.1 a with a|a
  ·rcases nV.1 a with a|a;·exact h1 v (mR a)
   ·exact jf _ v a
  ·exact jf _ v a
 clear I;have h5:b<w.heap.size:=h.lt;have h8:vb<w.heap.size:=a.lt;have t:aS ((w.alloc (.cells R.toArray 170)).drew) w.heap.size 170 R:=aS.new w 170 R;have D:aS ((w.alloc (.cells R.toArray 170)).drew) vb 170 vs:=a.alloc _;have S:aS ((w.alloc (.cells R.toArray 170)).drew) b 170 l:=h.alloc _;have E:=fun H L=>jm (P:=prog) (o:=i*2) (dLen:=c+1-i) (dCap:=L) 63 63 H 170 t (aB vb 0) 1 1 2 1 vs u31 yR (by simp only[qy];split<;>omega) aj (fun j v r=>by rw[lg,D.cell,nA];exact r) aj A;have k:=(t.put (aZ R (i*2) vs)).drew;have u:aS (put ((w.alloc (.cells R.toArray 170)).drew) w.heap.size (aZ R (i*2) vs)).drew b 170 l:=S.of_heap (iG _ _ _ _ aj);have q:(l.drop (2*i)).length=(c-i)*2:=by simp;omega
 have x:(aZ R (i*2) vs).length=2*G:=by rw[bY _ _ _ aj,B]
 have g:=fun H L sc=>jm (P:=prog) (o:=(i+1)*2) (dLen:=c-i) (dCap:=L) 63 63 H 170 k (aB b (i*2)) (c-i) sc 2 (c-i) (l.drop (2*i)) u31 yR (by simp only[qy];split<;>omega) q
  (fun j v r=>by rw[lg,u.cell];rwa[rX,mY 2 i]at r) aj (fun v a=>h1 v (mK a))
 have d:(aZ (aZ R (i*2) vs) ((i+1)*2) (l.drop (2*i))).take (2*(c+1))=l.take (2*i)++vs++l.drop (2*i):=by have:=IC R vs (l.drop (2*i)) (i*2) 2 Q aj;rw[show i*2+2=(i+1)*2 by omega,q,show(i+1)*2+(c-i)*2=2*(c+1) by omega,show i*2=2*i by omega,C]at this;rw[show i*2=2*i by omega];exact this
 have y:(aZ (aZ R (i*2) vs) ((i+1)*2) (l.drop (2*i))).length=2*G:=by rw[bY _ _ _ aj,x]
 have s:∀v∈aZ (aZ R (i*2) vs) ((i+1)*2) (l.drop (2*i)),v.oneCell'=true:=dR (dR V A) (fun v a=>h1 v (mK a));have z:Hid _:=k;generalize aZ (aZ R (i*2) vs) ((i+1)*2) (l.drop (2*i))=U at g d y s;generalize l.drop (2*i)=tl at g d q;generalize aZ R (i*2) vs=l2 at E g k u x z;have h9:IntKind.i64.wrap ((i:Int)+1)=(i:Int)+1:=by rw[IntKind.wrap_i64];omega
 have Y:(0:Int)<=(i:Int)+1:=aj;have h7:((i:Int)+1).toNat=i+1:=aj;have Z:¬(G=i+1):=aj;have h0:(i:Int)+1<=(c:Int)+1:=aj;have h3:(i:Int)<=(c:Int)+1:=aj;have h2:¬(c=i):=aj;have h4:¬(G=i):=aj;have W:Hid _:=d;have J:Hid _:=s;have K:Hid _:=y;clear d s y F C V B t D S u k q x;go_enter func289,ntmps289;go_wp2_with (at_builtin;refine mI _ rfl _ _ _ _ rfl _ _ rfl rfl _ _ (p _) ?_);go_region
 go_wp2;go_ret;refine⟨w.heap.size,G,U,rfl,aS.put z.out U,K.out,aj,f,W.out,J.out,?_,.inr (eT _)⟩;exact vF (eY (vF (eY (qA w _ none) (iV _ none)) _ _ (eT _)) (iV _ none)) _ _ (eT _)
theorem LD(base:Option Addr)(n c i vb:Nat)(cs vs:bO)(w:World)(hi:i<=n)(t:n<=c)(u:c<=9223372036854775807)(m:n<=1000000)(hold:base=none/\cs=[]/\n=0/\c=0\/∃b l,base=some (aB b 0)/\aS w b 170 l/\l.length=2*c/\cs=l.take (2*n)/\vb≠b/\∀v∈l,v.oneCell'=true)(a:aS w vb 170 vs)(g:vs.length=2)(d:∀v∈vs,v.oneCell'=true):Calls prog 289 #[.slice base n c,iZ i,dP vb 1 1] w fun e w'=>
   Out w w' (base.map (·.block)) e (n+1) (cs.take (2*i)++vs++cs.drop (2*i)):=by
 rcases hold with⟨rfl,rfl,rfl,rfl⟩|⟨b,l,rfl,h,hl,rfl,hvb,h1⟩
 ·obtain rfl:i=0:=aj;refine bN (rW none 0 0 vb [] vs w aj aj aj (.inl ⟨rfl,rfl,rfl⟩) a g d) ?_;rintro w' rfl;have o:=grownCap_ge w (0+1) 0 170;have f:=grownCap_le_maxLen w (0+1) 0 170 (by unfold maxLen;omega);unfold maxLen at f;refine⟨w.heap.size,_,_,rfl,aS.new w 170 _,?_,o,f,?_,?_,eY (qA w _ none) (iV _ none),.inr (eT _)⟩;·rw[tK,nI,gX];omega
  ·rw[tK,nP aj,mE aj];simp
  ·intro v a;rw[tK]at a;rcases nV.1 a with a|a;·exact d v a
   ·exact jf _ v a
 ·by_cases y:n+1<=c
  ·by_cases p:i<n
   ·refine bN (Ga b n c i vb l vs w p y u hvb h hl a g h1 d) ?_;rintro w' ⟨q,rfl⟩;refine⟨b,c,_,rfl,(aS.put (w:=w.drewN q) h _).put _,?_,y,u,?_,dR (dR h1 (fun v a=>h1 v (mK (mR a)))) d,?_,.inl rfl⟩
    ·rw[bY,bY,hl];·simp;omega
     ·rw[bY];·omega
      ·simp;omega
    ·have:=Ll l vs (2*i) (2*n) 2 aj aj g;rw[show 2*n-2*i=2*(n-i) by omega,show 2*i+2=2*(i+1) by omega,show 2*n+2=2*(n+1) by omega]at this;exact this
    ·exact eY (sP w q _) (eY (dU _ b _) (dU _ b _))
   ·obtain rfl:i=n:=aj;refine bN (IW b i c vb l vs w y u h hl a g d) ?_;rintro w' rfl;refine⟨b,c,_,rfl,h.put _,?_,y,u,?_,dR h1 d,dU _ b _,.inl rfl⟩;·rw[bY,hl];omega
    ·have:=iH l vs (i*2) aj;rw[g,show i*2+2=2*(i+1) by omega,mY i 2]at this;rw[mY i 2,this,mE (l:=l.take (2*i)) (by simp;omega),qx (l:=l.take (2*i)) (by simp;omega)];simp
  ·by_cases p:i<n
   ·refine(IX b n c i vb l vs w p t aj m h hl a g h1 d).mono ?_;rintro e w' ⟨G,c',l',z,A,B,C,D,E,F,r,s⟩;refine⟨G,c',l',z,A,B,C,D,E,F,⟨r.os,r.tape,r.output,r.size,fun k H _=>r.block k H aP⟩,.inr ?_⟩;rcases s with s|s;·cases s
    ·exact s
   ·obtain rfl:i=n:=aj;refine(rW (some (aB b 0)) i c vb (l.take (2*i)) vs w t aj m (.inr ⟨b,rfl,by simp;omega,fun j v x=>by
     rw[h.cell];rw[og]at x;split at x;·exact x
     ·cases x⟩) a g d).mono ?_
    rintro e w' ⟨rfl,rfl⟩;have o:=grownCap_ge w (i+1) c 170;have f:=grownCap_le_maxLen w (i+1) c 170 (by unfold maxLen;omega);unfold maxLen at f;refine⟨w.heap.size,_,_,rfl,aS.new w 170 _,?_,o,f,?_,?_,eY (qA w _ _) (iV _ _),.inr (eT _)⟩;·rw[nI,nI,gX,tL];omega
    ·rw[nP (by simp;omega),mE (by simp;omega),mE (l:=l.take (2*i)) (by simp;omega),qx (l:=l.take (2*i)) (by simp;omega)];simp
    ·intro v a;rcases nV.1 a with a|a
     ·rcases nV.1 a with a|a;·exact h1 v (mR a)
      ·exact d v a
     ·exact jf _ v a
theorem uL{p:Option Addr}{n n' c c':Nat}(h:n=n')(a:c=c'):Ending.returned (.slice p n c)=.returned (.slice p n' c'):=by rw[h,a]
theorem LG(w:World):(zeroValue 170).run prog w=.ok (.agg #[uZ 0,uZ 0]) w:=bH
theorem Gb(base:Option Addr)(n c i vb:Nat)(cs vs:bO)(w:World)(hi:i<=n)(o:n<=c)(q:c<=9223372036854775807)(j:n<=1000000)(hold:base=none/\cs=[]/\n=0/\c=0\/∃b l,base=some (aB b 0)/\aS w b 170 l/\l.length=2*c/\cs=l.take (2*n)/\vb≠b/\∀v∈l,v.oneCell'=true)(u:aS w vb 170 vs)(p:vs.length=2)(k:∀v∈vs,v.oneCell'=true):Calls prog 224 #[.slice base n c,iZ i,iZ i,dP vb 1 1] w fun e w'=>
   Out w w' (base.map (·.block)) e (n+1) (cs.take (2*i)++vs++cs.drop (2*i)):=by
 have f:=LD base n c i vb cs vs w hi o q j hold u p k;generalize cs.take (2*i)++vs++cs.drop (2*i)=X at f ⊢;generalize base.map (·.block)=row at f ⊢;have t:((i:Int)==(i:Int))=true:=aP;have r:(i:Int)<=(n:Int):=aj;have s:(i:Int)<=(c:Int):=aj;rcases hold with⟨rfl,rfl,rfl,rfl⟩|⟨b,l,rfl,h,hl,rfl,hvb,h1⟩;·obtain rfl:i=0:=aj;go_enter func224,ntmps224;go_wp2_with (go_at_call 289;refine f.mono ?_;intro e w' g;obtain⟨d,c',l',rfl,a⟩:=g);go_ret;exact⟨d,c',l',rfl,a⟩
 ·by_cases m:c=i;·subst m;go_enter func224,ntmps224;go_wp2_with (go_at_call 289;refine f.mono ?_;intro e w' g;obtain⟨d,c',l',rfl,a⟩:=g);go_ret;exact⟨d,c',l',rfl,a⟩
  ·go_enter func224,ntmps224;go_wp2_with (go_at_call 289;refine f.mono ?_;intro e w' g;obtain⟨d,c',l',rfl,a⟩:=g);go_ret;exact⟨d,c',l',rfl,a⟩
theorem IY(b n c i vb:Nat)(l vs:bO)(w:World)(hi:i<n)(N:n<=c)(H:c<=9223372036854775807)(G:n<=1000000)(h:aS w b 170 l)(hl:l.length=2*c)(h1:∀v∈l,v.oneCell'=true)(E:aS w vb 170 vs)(s:vs.length=2)(y:∀v∈vs,v.oneCell'=true):Calls prog 224 #[dP b n c,iZ i,iZ n,dP vb 1 1] w fun e w'=>
   Out w w' (some b) e (i+1) ((l.take (2*n)).take (2*i)++vs):=by
 have k:=fun F=>fZ (P:=prog) (w:=w) 63 63 F 170 _ 2 16 u31 u31 F9 (n:=i) (c:=c) (m:=1) (mc:=1) h (aB vb 0) (vs:=vs) aj (fun j v L=>by rw[lg,E.cell,nA];exact L) y aj aj;have d:(aZ l (i*2) vs).length=2*c:=by rw[bY _ _ _ aj,hl]
 have q:(aZ l (i*2) vs).take (2*(i+1))=(l.take (2*n)).take (2*i)++vs:=by have:=iH l vs (i*2) aj;rw[s,show i*2+2=2*(i+1) by omega]at this;rw[this,tO,mY i 2,show min (2*i) (2*n)=2*i by omega]
 have f:∀v∈aZ l (i*2) vs,v.oneCell'=true:=dR h1 y;have a:=h.put (aZ l (i*2) vs);generalize aZ l (i*2) vs=l1 at k d q f a;have x:Hid _:=q;have t:Hid _:=f;have u:Hid (aS (put w b l1) b 170 l1):=a;clear q f;have O:¬((i:Int)=(n:Int)):=aj;have J:(i:Int)<=(n:Int):=aj;have K:(n:Int)<=(c:Int):=aj;by_cases M:i+1<n
 ·have D:=fun F cc=>iA (P:=prog) (o:=(i+1)*2) (n:=n-(i+1)) (c:=cc) 63 170 F _ u31 LG a aj (by rw[gX];omega) (jf _);have r:(aZ l1 ((i+1)*2) (eB (j3 #[uZ 0,uZ 0]).cells (n-(i+1))).toList).take (2*(i+1))=(l.take (2*n)).take (2*i)++vs:=by rw[gV _ _ _ _ (by rw[gX];omega) aj,x.out]
  have p:(aZ l1 ((i+1)*2) (eB (j3 #[uZ 0,uZ 0]).cells (n-(i+1))).toList).length=2*c:=by rw[bY _ _ _ (by rw[gX];omega),d]
  have g:∀v∈aZ l1 ((i+1)*2) (eB (j3 #[uZ 0,uZ 0]).cells (n-(i+1))).toList,v.oneCell'=true:=dR t.out (jf _);generalize aZ l1 ((i+1)*2) (eB (j3 #[uZ 0,uZ 0]).cells (n-(i+1))).toList=l2 at D r p g;have B:Hid _:=r;have z:Hid _:=g;have A:Hid _:=p;clear r g p a h E hl s d;have C:(i:Int)+1<(n:Int):=aj;go_enter func224,ntmps224;go_wp2_with (at_builtin;refine mI _ rfl _ _ _ _ rfl _ _ rfl rfl _ _ (k _) ?_);go_ret;exact⟨b,c,l2,rfl,aS.put u.out l2,A.out,aj,H,B.out,z.out,eY (dU w b l1) (dU _ b l2),.inl rfl⟩
 ·have C:(n:Int)<=(i:Int)+1:=aj;clear a h E hl s;have I:Hid _:=d;clear d;go_enter func224,ntmps224;go_wp2_with (at_builtin;refine mI _ rfl _ _ _ _ rfl _ _ rfl rfl _ _ (k _) ?_);go_ret;exact⟨b,c,l1,rfl,u.out,I.out,aj,H,x.out,t.out,dU w b l1,.inl rfl⟩
theorem pF(w:World)(b:TypeId)(a:Addr)(c:Nat):(nU #[63] b #[.slice (some a) 0 c]).run prog w=.ok (.tuple #[]) w:=by simp[nU,run_underlying u31]
theorem IZ(b n c i j vb:Nat)(l vs:bO)(w:World)(h9:i<j)(he:j<n)(hg:n<=c)(V:c<=9223372036854775807)(U:n<=1000000)(_hvb:vb≠b)(h:aS w b 170 l)(hl:l.length=2*c)(h1:∀v∈l,v.oneCell'=true)(J:aS w vb 170 vs)(K:vs.length=2)(u:∀v∈vs,v.oneCell'=true):Calls prog 224 #[dP b n c,iZ i,iZ j,dP vb 1 1] w fun e w'=>
   Out w w' (some b) e (i+1+(n-j)) ((l.take (2*n)).take (2*i)++vs++(l.take (2*n)).drop (2*j)):=by
 have hj:((i:Int)==(j:Int))=false:=by simp;omega
 have Z:((j:Int)==(n:Int))=false:=by simp;omega
 have h7:(i:Int)<=(n:Int):=aj;have Y:(i:Int)<=(j:Int):=aj;have hr:(j:Int)<=(n:Int):=aj;have h8:(n:Int)<=(c:Int):=aj;have ha:(j:Int)<=(c:Int):=aj;have hu:(i:Int)<=(c:Int):=aj;have h6:¬(c=j):=aj;have h5:¬(c=i):=aj;have hw:¬(c=i+1):=aj;have hn:IntKind.i64.wrap ((i:Int)+1)=(i:Int)+1:=by rw[IntKind.wrap_i64];omega
 have ho:IntKind.i64.wrap ((i:Int)+1+((n-j:Nat):Int))=(i:Int)+1+((n-j:Nat):Int):=by rw[IntKind.wrap_i64];omega
 have h2:(0:Int)<=(i:Int)+1:=aj;have h3:(i:Int)+1<=(i:Int)+1+((n-j:Nat):Int):=aj;have hm:((i:Int)+1).toNat=i+1:=aj;have H:∀q a F,(sF #[63,63] a #[.slice (some (aB b (i*2))) (i+1+(n-j)-i) F,dP vb 1 1]).run prog (w.drewN q)=.ok (goInt ((1:Nat):Int)) (put (w.drewN q) b (aZ l (i*2) vs)):=fun q a F=>jm (w:=w.drewN q) 63 63 a 170 h (aB vb 0) 1 1 2 1 vs u31 yR (by simp only[qy];split<;>omega) aj (fun k v L=>by rw[lg,nA];rw[<-L];exact J.cell k) aj u;have y:(aZ l (i*2) vs).length=2*c:=by rw[bY _ _ _ aj,hl]
 have r:∀v∈aZ l (i*2) vs,v.oneCell'=true:=dR h1 u;have g:∀q,aS (put (w.drewN q) b (aZ l (i*2) vs)).drew b 170 (aZ l (i*2) vs):=fun q=>(aS.put (w:=w.drewN q) h _).drew;have p:((aZ l (i*2) vs).drop (2*j)).take (2*(n-j))=(l.take (2*n)).drop (2*j):=by rw[o_ _ _ _ _ aj aj,List.drop_take,show 2*n-2*j=2*(n-j) by omega]
 generalize A:(l.take (2*n)).drop (2*j)=f at p ⊢;have B:f.length=(n-j)*2:=by rw[<-A];simp;omega
 have C:∀v∈f,v.oneCell'=true:=fun v J=>h1 v (by rw[<-A]at J;exact mR (mK J));clear A;have d:(aZ (aZ l (i*2) vs) ((i+1)*2) f).take (2*(i+1+(n-j)))=(l.take (2*n)).take (2*i)++vs++f:=by have:=IC l vs f (i*2) 2 K aj;rw[show i*2+2=(i+1)*2 by omega,B,show(i+1)*2+(n-j)*2=2*(i+1+(n-j)) by omega,show i*2=2*i by omega]at this;rw[show i*2=2*i by omega,this,tO,show min (2*i) (2*n)=2*i by omega]
 generalize aZ l (i*2) vs=l1 at H y r g p d;have I:∀q a F R,(sF #[63,63] a #[.slice (some (aB b ((i+1)*2))) (i+1+(n-j)-(i+1)) F,.slice (some (aB b (j*2))) (n-j) R]).run prog (put (w.drewN q) b l1).drew=.ok (goInt ((n-j:Nat):Int)) (put (put (w.drewN q) b l1).drew b (aZ l1 ((i+1)*2) f)):=fun q a F R=>
  jm 63 63 a 170 (g q) (aB b (j*2)) (n-j) R 2 (n-j) f u31 yR (by simp only[qy];split<;>omega) B
   (fun k v L=>by rw[lg,(g q).cell,mY j 2];rw[<-p]at L;exact zO L) aj C
 have o:(aZ l1 ((i+1)*2) f).length=2*c:=by rw[bY _ _ _ aj,y]
 have s:∀v∈aZ l1 ((i+1)*2) f,v.oneCell'=true:=dR r C;have m:∀q,aS (put (put (w.drewN q) b l1).drew b (aZ l1 ((i+1)*2) f)) b 170 (aZ l1 ((i+1)*2) f):=fun q=>(g q).put _;generalize aZ l1 ((i+1)*2) f=l2 at I o s m d;generalize hT:i+1+(n-j)=T at *
 have h0:i+1<=T/\T<=n:=aj;generalize (l.take (2*n)).take (2*i)++vs++f=X at d ⊢;have S:Hid _:=d;have D:Hid _:=s;have O:Hid _:=o;have E:Hid _:=m;clear d s p g r y B C h J hl h1 u K;by_cases hf:T<n
 ·have G:∀q a cc,(nU #[63] a #[.slice (some (aB b (T*2))) (n-T) cc]).run prog (put (put (w.drewN q) b l1).drew b l2)=.ok (.tuple #[]) (put (put (put (w.drewN q) b l1).drew b l2) b (aZ l2 (T*2) (eB (j3 #[uZ 0,uZ 0]).cells (n-T)).toList)):=fun q a cc=>
   iA (P:=prog) 63 170 a _ u31 LG (m q) aj (by rw[gX];omega) (jf _)
  have x:(aZ l2 (T*2) (eB (j3 #[uZ 0,uZ 0]).cells (n-T)).toList).take (2*T)=X:=by rw[gV _ _ _ _ (by rw[gX];omega) aj,S.out]
  have z:(aZ l2 (T*2) (eB (j3 #[uZ 0,uZ 0]).cells (n-T)).toList).length=2*c:=by rw[bY _ _ _ (by rw[gX];omega),o]
  have t:∀v∈aZ l2 (T*2) (eB (j3 #[uZ 0,uZ 0]).cells (n-T)).toList,v.oneCell'=true:=dR D.out (jf _);generalize aZ l2 (T*2) (eB (j3 #[uZ 0,uZ 0]).cells (n-T)).toList=l3 at G x z t;have N:Hid _:=x;have M:Hid _:=t;have Q:Hid _:=z;clear x t z o m;go_enter func224,ntmps224;go_wp2;go_quiet (fail);go_wp2;go_region
  go_wp2;go_ret;exact⟨b,c,l3,uL aj rfl,aS.put (E.out nq) l3,Q.out,aj,V,N.out,M.out,eY (sP w nq _) (eY (dU _ b _) (eY (iV _ _) (eY (dU _ b _) (dU _ b _)))),.inl rfl⟩
 ·obtain rfl:T=n:=aj;have G:∀q a cc,(nU #[63] a #[.slice (some (aB b (T*2))) 0 cc]).run prog (put (put (w.drewN q) b l1).drew b l2)=.ok (.tuple #[]) (put (put (w.drewN q) b l1).drew b l2):=fun q a cc=>pF _ a _ cc;have W:∀q a cc,(nU #[63] a #[dP b 0 cc]).run prog (put (put (w.drewN q) b l1).drew b l2)=.ok (.tuple #[]) (put (put (w.drewN q) b l1).drew b l2):=fun q a cc=>pF _ a _ cc;clear o m;by_cases h4:c=T;all_goals
   go_enter func224,ntmps224;go_wp2;go_quiet (fail);go_wp2;go_region
   go_wp2;go_ret;exact⟨b,c,l2,uL aj aj,E.out nq,O.out,aj,V,S.out,D.out,eY (sP w nq _) (eY (dU _ b _) (eY (iV _ _) (dU _ b _))),.inl rfl⟩
theorem I4(base:Option Addr)(n c i j vb:Nat)(cs vs:bO)(w:World)(q:i<=j)(m:j<=n)(f:n<=c)(k:c<=9223372036854775807)(a:n<=1000000)(hold:base=none/\cs=[]/\n=0/\c=0\/∃b l,base=some (aB b 0)/\aS w b 170 l/\l.length=2*c/\cs=l.take (2*n)/\vb≠b/\∀v∈l,v.oneCell'=true)(o:aS w vb 170 vs)(g:vs.length=2)(d:∀v∈vs,v.oneCell'=true):Calls prog 224 #[.slice base n c,iZ i,iZ j,dP vb 1 1] w fun e w'=>
   Out w w' (base.map (·.block)) e (i+1+(n-j)) (cs.take (2*i)++vs++cs.drop (2*j)):=by
 by_cases h:i=j;·subst h;have:=Gb base n c i vb cs vs w m f k a hold o g d;rwa[show n+1=i+1+(n-i) by omega]at this
 ·rcases hold with⟨rfl,rfl,rfl,rfl⟩|⟨b,l,rfl,hB,hl,rfl,hvb,h1⟩;·omega
  ·by_cases p:j=n;·subst p;have:=IY b j c i vb l vs w aj f k a hB hl h1 o g d;rw[show i+1+(j-j)=i+1 by omega,qx (by simp;omega),List.append_nil];exact this
   ·exact IZ b n c i j vb l vs w aj aj f k a hvb hB hl h1 o g d
theorem Gl(b m c:Nat)(l:bO)(w:World)(R:1<=m)(N:m+1<=c)(H:c<=9223372036854775807)(E:m<=1000000)(h:aS w b 170 l)(hl:l.length=2*c)(h1:∀v∈l,v.oneCell'=true):Calls prog 225 #[(dP b (m+1) c),iZ 0,iZ 1] w fun e w'=>
   Out w w' (some b) e m ((l.take (2*(m+1))).drop 2):=by
 have u:((l.take (2*(m+1))).drop 2).length=2*m:=by simp;omega
 have k:∀v∈(l.take (2*(m+1))).drop 2,v.oneCell'=true:=fun v O=>h1 v (mR (mK O));have f:∀j v,((l.take (2*(m+1))).drop 2)[j]?=some v->l[2+j]?=some v:=fun j v s=>by
  rw[rX,og]at s;split at s;·exact s
  ·cases s
 have C:(loadCellsFrom (aB b 2) 0 (m*2) #[]).run prog w.drew=.ok ((l.take (2*(m+1))).drop 2).toArray w.drew:=by have L:=run_firstCells_some (P:=prog) w.drew 2 m (aB b 2) m (c-1) ((l.take (2*(m+1))).drop 2) aj (fun j v s=>by rw[lg];exact(aS.cell h (2+j)).trans (f j v s));simpa[Builtin.firstCells,loadCells]using L
 have t:(storeCells (aB b 0) ((l.take (2*(m+1))).drop 2)).run prog w.drew=.ok () (put w.drew b (aZ l 0 ((l.take (2*(m+1))).drop 2))):=
  gD (P:=prog) (w:=w.drew) (o:=0) h _ aj k
 have p:(aZ l 0 ((l.take (2*(m+1))).drop 2)).length=2*c:=by rw[bY _ _ _ aj,hl]
 have d:(aZ l 0 ((l.take (2*(m+1))).drop 2)).take (2*m)=(l.take (2*(m+1))).drop 2:=by have:=iH l ((l.take (2*(m+1))).drop 2) 0 aj;rw[u]at this;simpa using this
 have g:∀v∈aZ l 0 ((l.take (2*(m+1))).drop 2),v.oneCell'=true:=dR h1 k;have a:aS (put w.drew b (aZ l 0 ((l.take (2*(m+1))).drop 2))) b 170 (aZ l 0 ((l.take (2*(m+1))).drop 2)):=aS.put (w:=w.drew) h _;generalize aZ l 0 ((l.take (2*(m+1))).drop 2)=l1 at t p d g a;generalize (l.take (2*(m+1))).drop 2=X at d C t ⊢;have B:∀D cc,(nU #[63] D #[.slice (some (aB b (m*2))) 1 cc]).run prog (put w.drew b l1)=.ok (.tuple #[]) (put (put w.drew b l1) b (aZ l1 (m*2) (eB (j3 #[uZ 0,uZ 0]).cells 1).toList)):=fun D cc=>iA (P:=prog) (o:=m*2) (n:=1) (c:=cc) 63 170 D _ u31 LG a aj (by rw[gX];omega) (jf _);have r:(aZ l1 (m*2) (eB (j3 #[uZ 0,uZ 0]).cells 1).toList).take (2*m)=X:=by rw[gV _ _ _ _ (by rw[gX];omega) aj,d]
 have q:(aZ l1 (m*2) (eB (j3 #[uZ 0,uZ 0]).cells 1).toList).length=2*c:=by rw[bY _ _ _ (by rw[gX];omega),p]
 have i:∀v∈aZ l1 (m*2) (eB (j3 #[uZ 0,uZ 0]).cells 1).toList,v.oneCell'=true:=dR g (jf _);generalize aZ l1 (m*2) (eB (j3 #[uZ 0,uZ 0]).cells 1).toList=l2 at B r q i;have A:Hid _:=r;have x:Hid _:=i;have z:Hid _:=q;have y:Hid (aS (put w.drew b l1) b 170 l1):=a;have G:Hid (w.grownBy (put (put w.drew b l1) b l2) (some b)):=eY (iV w _) (eY (dU w.drew b l1) (dU _ b l2));clear d r i q g p a k f u h1 hl h;have M:m<=c:=aj;have I:(1:Int)<=(m:Int)+1:=aj;have J:(m:Int)+1<=(c:Int):=aj;have K:¬(c=m):=aj;have F:¬(c=1):=aj;have Q:m+1-m=1:=aj;go_enter func225,ntmps225;go_wp2;go_region
 go_wp2;go_ret;exact⟨b,c,l2,rfl,aS.put (y.out) l2,z.out,aj,H,A.out,x.out,G.out,.inl rfl⟩
