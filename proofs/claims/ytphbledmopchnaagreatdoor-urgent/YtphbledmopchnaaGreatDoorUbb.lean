import Derived.Test.YtphbledmopchnaaGreatDoorUaa
import Derived.Deep.RegionLaw
import Derived.Shelf.Spec.SlicesInsert
open Go.Addr renaming add_lit->mR
open Go.Builtin renaming zeroCells->fA,clear_->Aw,copy_->R3
open Go.Lib renaming wpList_append_run->sQ
open List renaming take_of_length_le->nI,mem_of_mem_drop->tL,mem_of_mem_take->tT,length_append->Am,take_append_of_le_length->Av,mem_append->DT,getElem?_take->E8,drop_of_length_le->He,getElem?_drop->M4,nil_append->SF,length_take->Ui,take_take->Ur
open Nat renaming mul_comm->uj,zero_add->wz,min_def->Kt,le_refl->Lb
open Go.Value renaming agg->fB
open Go.World renaming grownBy_alloc->KG
set_option maxHeartbeats 2000000
set_option maxRecDepth 100000
namespace Go.Proofs.YtphbledmopchnaaGreatDoor.St
open Go.RowKit Go.Lib Mm Tryz
theorem u31:prog.underlying 63=some (.slice 170):=by kernel_rfl
theorem uK:(prog.info? 170).map (·.size)=some 2:=by kernel_rfl
theorem Cn:(prog.info? 170).map (fun i=>(i.zero,i.size,i.bytes))=some (some (.agg #[uZ 0,uZ 0]),2,16):=by kernel_rfl
theorem OQ(w:World):(Go.sizeOf 170).run prog w=.ok 2 w:=by kernel_rfl
theorem Ee{w:World}{vb b off m vc lb cb:Nat}{vs l:aI}(G:aA w vb 170 vs)(h:aA w b 170 l)(hl:l.length≠0)(F:vb≠b):
  (callFunc 290 #[aS vb m vc,.slice (some (aj b off)) lb cb]).run prog w=.ok (.value (.bool false)) w:=by
 rw[run_callFunc_extern func290 (by kernel_rfl) (by kernel_rfl) (by kernel_rfl) (e:=Extern.SlicesOverlaps.overlaps #[63,63] #[4]) (by kernel_rfl),
  Lib.run_overlaps_apart w 63 4 170 u31 2 OQ (aj vb 0) (aj b off) m vc lb cb F 170 170 vs.length l.length G.shape h.shape hl (G.frozen 0) (G.frozen _)]
 rfl
theorem vN{l:aI}{a k j:Nat}{v:Value}(h:((l.drop a).take k)[j]?=some v):l[a+j]?=some v:=by
 rw[E8]at h;split at h
 ·rwa[M4]at h
 ·cases h
theorem Co(b n c i vb:Nat)(l vs:aI)(w:World)(hi:i<n)(h5:n+1<=c)(hc:c<=9223372036854775807)(Z:vb≠b)(h:aA w b 170 l)(hl:l.length=2*c)(X:aA w vb 170 vs)(hg:vs.length=2)(h1:∀v∈l,v.oneCell'=true)(h0:∀v∈vs,v.oneCell'=true):
  Calls prog 289 #[aS b n c,iZ i,aS vb 1 1] w fun e w'=>
   e=.returned (aS b (n+1) c)/\∃q,w'=put (put (w.drewN q) b (splice l (2*(i+1)) ((l.drop (2*i)).take (2*(n-i))))) b (splice (splice l (2*(i+1)) ((l.drop (2*i)).take (2*(n-i)))) (2*i) vs):=by
 have h4:∀off lb cb,(callFunc 290 #[aS vb 1 1,.slice (some (aj b off)) lb cb]).run prog w=.ok (.value (.bool false)) w:=fun off lb cb=>
  Ee X h (by omega) Z
 have hm:¬((i:Int)=(n:Int)):=by omega
 have hn:(i:Int)<=(n:Int):=by omega
 generalize F:(l.drop (2*i)).take (2*(n-i))=G
 have h3:G.length=(n-i)*2:=by rw[<-F];simp;omega
 have V:∀j v,G[j]?=some v->w.cell? (aj b (i*2+j))=some v:=fun j v O=>by
  rw[h.cell,uj];rw[<-F]at O;exact vN O
 have h2:∀v∈G,v.oneCell'=true:=fun v X=>h1 v (by rw[<-F]at X;exact tL (tT X))
 generalize K:splice l (2*(i+1)) G=l1
 have ho:l1.length=2*c:=by rw[<-K,aN _ _ _ (by omega),hl]
 have H:∀(W:World),W.heap=w.heap->∀ty U sc,(R3 #[63,63] ty #[.slice (some (aj b ((i+1)*2))) (n-i) U,.slice (some (aj b (i*2))) (n+1-i) sc]).run prog W=.ok (goInt ((n-i:Nat):Int)) (put W b l1):=fun W hW ty U sc=>by
  have hB:aA W b 170 l:=h.of_heap (by rw[hW]);rw[gy 63 63 ty 170 hB (aj b (i*2)) (n+1-i) sc 2 (n-i) G u31 uK (by simp only[Kt];split<;>omega) h3 (fun j v O=>by rw[mR,hB.cell,<-h.cell];exact V j v O) (by omega) h2,<-K,uj (i+1) 2]
 have I:∀(W:World),aA W b 170 l1->aA W vb 170 vs->∀ty U,(R3 #[63,63] ty #[.slice (some (aj b (i*2))) (n+1-i) U,aS vb 1 1]).run prog W=.ok (goInt ((1:Nat):Int)) (put W b (splice l1 (2*i) vs)):=fun W hB hV ty U=>by
  rw[gy 63 63 ty 170 hB (aj vb 0) 1 1 2 1 vs u31 uK (by simp only[Kt];split<;>omega) (by omega) (fun j v O=>by rw[mR,hV.cell,wz];exact O) (by omega) h0,uj i 2]
 clear F K V
 have hk:IntKind.i64.wrap ((i:Int)+1)=(i:Int)+1:=by rw[IntKind.wrap_i64];omega
 have h6:(0:Int)<=(i:Int)+1:=by omega
 have hf:((i:Int)+1).toNat=i+1:=by omega
 have h7:¬(c=i+1):=by omega
 have h8:(i:Int)+1<=(n:Int)+1:=by omega
 have ha:(i:Int)<=(n:Int)+1:=by omega
 have h9:¬(c=i):=by omega
 go_enter func289,ntmps289
 go_wp2_with (simp only[h4])
 have he:=H w.drew rfl;clear H
 go_region
 have hr:=I (put w.drew b l1) (h.drew.put l1) (X.drew.of_heap (dK _ _ _ _ Z));clear I;go_wp2;go_ret;exact⟨rfl,1,rfl⟩
def Out(w w':World)(row:Option Nat)(e:Ending)(n':Nat)(H:aI):Prop:=
 ∃F G l',e=.returned (aS F n' G)/\aA w' F 170 l'/\l'.length=2*G/\n'<=G/\G<=9223372036854775807/\l'.take (2*n')=H/\(∀v∈l',v.oneCell'=true)/\w.grownBy w' row/\(some F=row\/w.heap.size<=F)
theorem Ef(b n c vb:Nat)(l vs:aI)(w:World)(F:n+1<=c)(U:c<=9223372036854775807)(h:aA w b 170 l)(hl:l.length=2*c)(K:aA w vb 170 vs)(O:vs.length=2)(G:∀v∈vs,v.oneCell'=true):
  Calls prog 289 #[aS b n c,iZ n,aS vb 1 1] w fun e w'=>
   e=.returned (aS b (n+1) c)/\w'=put w b (splice l (n*2) vs):=by
 have H:=fun ty=>dz (P:=prog) (w:=w) 63 63 ty 170 _ 2 16 u31 u31 Cn (n:=n) (c:=c) (m:=1) (mc:=1) h (aj vb 0) (vs:=vs) (by omega) (fun j v I=>by rw[mR,K.cell,wz];exact I) G F (by omega)
 go_enter func289,ntmps289
 go_wp2_with (at_builtin;refine sQ _ rfl _ _ _ _ rfl _ _ rfl rfl _ _ (H _) ?_)
 go_ret;exact⟨rfl,rfl⟩
theorem nO(base:Option Addr)(n c vb:Nat)(cs vs:aI)(w:World)(Z:n<=c)(H:c<n+1)(V:n<=1000000)(hold:base=none/\cs=[]/\n=0\/∃b,base=some (aj b 0)/\cs.length=n*2/\∀j v,cs[j]?=some v->w.cell? (aj b j)=some v)(hv:aA w vb 170 vs)(h0:vs.length=2)(K:∀v∈vs,v.oneCell'=true):
  Calls prog 289 #[.slice base n c,iZ n,aS vb 1 1] w fun e w'=>
   e=.returned (aS w.heap.size (n+1) (grownCap w (n+1) c 170))/\
   w'=w.drew.alloc (.cells (cs++vs++(fA (fB #[uZ 0,uZ 0]).cells (grownCap w (n+1) c 170-(n+1))).toList).toArray 170):=by
 have F:=fun ty=>fQ (P:=prog) (w:=w) 63 63 ty 170 _ 2 16 u31 u31 Cn (base:=base) (n:=n) (c:=c) (m:=1) (mc:=1) (cs:=cs) (by
   rcases hold with⟨h1,O,_⟩|⟨b,h1,O,h3⟩
   ·exact .inl ⟨h1,O⟩
   ·exact .inr ⟨_,h1,O,fun j v U=>by rw[mR,wz];exact h3 j v U⟩) (aj vb 0) (vs:=vs) (by omega) (fun j v U=>by rw[mR,hv.cell,wz];exact U) K H (by omega) (by omega)
 generalize I:cs++vs++(fA (fB #[uZ 0,uZ 0]).cells (grownCap w (n+1) c 170-(n+1))).toList=X at F ⊢;clear I;generalize grownCap w (n+1) c 170=G at F ⊢
 rcases hold with⟨rfl,_,rfl⟩|⟨b,rfl,_,_⟩
 ·go_enter func289,ntmps289
  go_wp2_with (at_builtin;refine sQ _ rfl _ _ _ _ rfl _ _ rfl rfl _ _ (F _) ?_)
  go_ret;exact⟨rfl,rfl⟩
 ·go_enter func289,ntmps289
  go_wp2_with (at_builtin;refine sQ _ rfl _ _ _ _ rfl _ _ rfl rfl _ _ (F _) ?_)
  go_ret;exact⟨rfl,rfl⟩
theorem Eh(b n c i vb:Nat)(l vs:aI)(w:World)(hi:i<n)(x4:n<=c)(hm:c<n+1)(ho:n<=1000000)(h:aA w b 170 l)(hl:l.length=2*c)(F:aA w vb 170 vs)(hn:vs.length=2)(h1:∀v∈l,v.oneCell'=true)(h6:∀v∈vs,v.oneCell'=true):
  Calls prog 289 #[aS b n c,iZ i,aS vb 1 1] w fun e w'=>
   Out w w' none e (n+1) ((l.take (2*n)).take (2*i)++vs++(l.take (2*n)).drop (2*i)):=by
 have hk:c=n:=by omega
 subst hk
 have x8:¬((i:Int)=(c:Int)):=by omega
 have x9:(i:Int)<=(c:Int):=by omega
 have hc:l.take (2*c)=l:=nI (by omega);rw[hc]
 have U:=fun ty=>oC (P:=prog) (w:=w) 63 3 ty 170 _ 2 16 .i64 .i64 u31 (by kernel_rfl) Cn (by omega) (aj b 0) (n:=i) (c:=c) (m:=c+1-i) (cs:=l.take (2*i)) (by simp;omega)
  (fun j v X=>by
   rw[mR,wz,h.cell];rw[E8]at X;split at X
   ·exact X
   ·cases X) (by omega) (by omega) (by omega) (by omega)
 rw[show i+(c+1-i)=c+1 by omega,show((c+1-i:Nat):Int)=(c:Int)+1-(i:Int) by omega]at U;have hg:=grownCap_ge w (c+1) c 170;have I:=grownCap_le_maxLen w (c+1) c 170 (by unfold maxLen;omega);unfold maxLen at I;generalize hG:grownCap w (c+1) c 170=G at U hg I;clear hG;generalize hR:l.take (2*i)++(fA (fB #[uZ 0,uZ 0]).cells (c+1-i)).toList++(fA (fB #[uZ 0,uZ 0]).cells (G-(c+1))).toList=R at U
 have h7:R.length=2*G:=by
  rw[<-hR,Am,Am,dU,dU,Ui];omega
 have h8:R.take (2*i)=l.take (2*i):=by
  rw[<-hR,List.append_assoc,Av (by simp;omega),nI (by simp;omega)]
 have uh:∀v∈R,v.oneCell'=true:=by
  rw[<-hR];intro v F
  rcases DT.1 F with F|F
  ·rcases DT.1 F with F|F
   ·exact h1 v (tT F)
   ·exact fU _ v F
  ·exact fU _ v F
 clear hR;have x3:b<w.heap.size:=h.lt;have x6:vb<w.heap.size:=F.lt;have h0:aA ((w.alloc (.cells R.toArray 170)).drew) w.heap.size 170 R:=aA.new w 170 R;have h9:aA ((w.alloc (.cells R.toArray 170)).drew) vb 170 vs:=F.alloc _;have wJ:aA ((w.alloc (.cells R.toArray 170)).drew) b 170 l:=h.alloc _
 have ha:=fun ty dc=>gy (P:=prog) (o:=i*2) (dLen:=c+1-i) (dCap:=dc) 63 63 ty 170 h0 (aj vb 0) 1 1 2 1 vs u31 uK (by simp only[Kt];split<;>omega) (by omega) (fun j v X=>by rw[mR,h9.cell,wz];exact X) (by omega) h6
 have O:=(h0.put (splice R (i*2) vs)).drew;have h2:aA (put ((w.alloc (.cells R.toArray 170)).drew) w.heap.size (splice R (i*2) vs)).drew b 170 l:=wJ.of_heap (dK _ _ _ _ (by omega))
 have V:(l.drop (2*i)).length=(c-i)*2:=by simp;omega
 have h3:(splice R (i*2) vs).length=2*G:=by rw[aN _ _ _ (by omega),h7]
 have K:=fun ty dc sc=>gy (P:=prog) (o:=(i+1)*2) (dLen:=c-i) (dCap:=dc) 63 63 ty 170 O (aj b (i*2)) (c-i) sc 2 (c-i) (l.drop (2*i)) u31 uK (by simp only[Kt];split<;>omega) V
  (fun j v X=>by rw[mR,h2.cell];rwa[M4,uj 2 i]at X) (by omega) (fun v F=>h1 v (tL F))
 have H:(splice (splice R (i*2) vs) ((i+1)*2) (l.drop (2*i))).take (2*(c+1))=l.take (2*i)++vs++l.drop (2*i):=by
  have:=DR R vs (l.drop (2*i)) (i*2) 2 hn (by omega);rw[show i*2+2=(i+1)*2 by omega,V,show(i+1)*2+(c-i)*2=2*(c+1) by omega,show i*2=2*i by omega,h8]at this;rw[show i*2=2*i by omega];exact this
 have h4:(splice (splice R (i*2) vs) ((i+1)*2) (l.drop (2*i))).length=2*G:=by rw[aN _ _ _ (by omega),h3]
 have Z:∀v∈splice (splice R (i*2) vs) ((i+1)*2) (l.drop (2*i)),v.oneCell'=true:=aW (aW uh h6) (fun v F=>h1 v (tL F));have h5:Hid _:=O;generalize splice (splice R (i*2) vs) ((i+1)*2) (l.drop (2*i))=l3 at K H h4 Z;generalize l.drop (2*i)=tl at K H V;generalize splice R (i*2) vs=l2 at ha K O h2 h3 h5
 have x7:IntKind.i64.wrap ((i:Int)+1)=(i:Int)+1:=by rw[IntKind.wrap_i64];omega
 have hr:(0:Int)<=(i:Int)+1:=by omega
 have x5:((i:Int)+1).toNat=i+1:=by omega
 have hu:¬(G=i+1):=by omega
 have hw:(i:Int)+1<=(c:Int)+1:=by omega
 have hy:(i:Int)<=(c:Int)+1:=by omega
 have hx:¬(c=i):=by omega
 have x0:¬(G=i):=by omega
 have HF:Hid _:=H;have he:Hid _:=Z;have hf:Hid _:=h4;clear H Z h4 hc h8 uh h7 h0 h9 wJ h2 O V h3;go_enter func289,ntmps289
 go_wp2_with (at_builtin;refine sQ _ rfl _ _ _ _ rfl _ _ rfl rfl _ _ (U _) ?_)
 go_region
 go_wp2;go_ret;refine⟨w.heap.size,G,l3,rfl,aA.put h5.out l3,hf.out,by omega,I,HF.out,he.out,?_,.inr (Lb _)⟩;exact qA (bM (qA (bM (KG w _ none) (fJ _ none)) _ _ (Lb _)) (fJ _ none)) _ _ (Lb _)
theorem Hg(base:Option Addr)(n c i vb:Nat)(cs vs:aI)(w:World)(hi:i<=n)(Z:n<=c)(hc:c<=9223372036854775807)(K:n<=1000000)(hold:base=none/\cs=[]/\n=0/\c=0\/∃b l,base=some (aj b 0)/\aA w b 170 l/\l.length=2*c/\cs=l.take (2*n)/\vb≠b/\∀v∈l,v.oneCell'=true)(F:aA w vb 170 vs)(I:vs.length=2)(G:∀v∈vs,v.oneCell'=true):
  Calls prog 289 #[.slice base n c,iZ i,aS vb 1 1] w fun e w'=>
   Out w w' (base.map (·.block)) e (n+1) (cs.take (2*i)++vs++cs.drop (2*i)):=by
 rcases hold with⟨rfl,rfl,rfl,rfl⟩|⟨b,l,rfl,h,hl,rfl,hvb,h1⟩
 ·obtain rfl:i=0:=by omega
  refine(nO none 0 0 vb [] vs w (by omega) (by omega) (by omega) (.inl ⟨rfl,rfl,rfl⟩) F I G).mono ?_;rintro e w' ⟨rfl,rfl⟩;have O:=grownCap_ge w (0+1) 0 170;have H:=grownCap_le_maxLen w (0+1) 0 170 (by unfold maxLen;omega);unfold maxLen at H;refine⟨w.heap.size,_,_,rfl,aA.new w 170 _,?_,O,H,?_,?_,bM (KG w _ none) (fJ _ none),.inr (Lb _)⟩
  ·rw[SF,Am,dU];omega
  ·rw[SF,Av (by omega),nI (by omega)];simp
  ·intro v F;rw[SF]at F
   rcases DT.1 F with F|F
   ·exact G v F
   ·exact fU _ v F
 ·by_cases hr:n+1<=c
  ·by_cases U:i<n
   ·refine(Co b n c i vb l vs w U hr hc hvb h hl F I h1 G).mono ?_;rintro e w' ⟨rfl,q,rfl⟩;refine⟨b,c,_,rfl,(aA.put (w:=w.drewN q) h _).put _,?_,hr,hc,?_,aW (aW h1 (fun v F=>h1 v (tL (tT F)))) G,?_,.inl rfl⟩
    ·rw[aN,aN,hl]
     ·simp;omega
     ·rw[aN]
      ·omega
      ·simp;omega
    ·have:=GK l vs (2*i) (2*n) 2 (by omega) (by omega) I;rw[show 2*n-2*i=2*(n-i) by omega,show 2*i+2=2*(i+1) by omega,show 2*n+2=2*(n+1) by omega]at this;exact this
    ·exact bM (oF w q _) (bM (bC _ b _) (bC _ b _))
   ·obtain rfl:i=n:=by omega
    refine(Ef b i c vb l vs w hr hc h hl F I G).mono ?_;rintro e w' ⟨rfl,rfl⟩;refine⟨b,c,_,rfl,h.put _,?_,hr,hc,?_,aW h1 G,bC _ b _,.inl rfl⟩
    ·rw[aN,hl];omega
    ·have:=dV l vs (i*2) (by omega);rw[I,show i*2+2=2*(i+1) by omega,uj i 2]at this;rw[uj i 2,this,nI (l:=l.take (2*i)) (by simp;omega),He (l:=l.take (2*i)) (by simp;omega)];simp
  ·by_cases U:i<n
   ·refine(Eh b n c i vb l vs w U Z (by omega) K h hl F I h1 G).mono ?_;rintro e w' ⟨b',c',l',a1,a2,a3,a4,a5,a6,a7,V,X⟩;refine⟨b',c',l',a1,a2,a3,a4,a5,a6,a7,⟨V.os,V.tape,V.output,V.size,fun k hk _=>V.block k hk (by simp)⟩,.inr ?_⟩
    rcases X with X|X
    ·cases X
    ·exact X
   ·obtain rfl:i=n:=by omega
    refine(nO (some (aj b 0)) i c vb (l.take (2*i)) vs w Z (by omega) K (.inr ⟨b,rfl,by simp;omega,fun j v hj=>by
     rw[h.cell];rw[E8]at hj;split at hj
     ·exact hj
     ·cases hj⟩) F I G).mono ?_
    rintro e w' ⟨rfl,rfl⟩;have O:=grownCap_ge w (i+1) c 170;have H:=grownCap_le_maxLen w (i+1) c 170 (by unfold maxLen;omega);unfold maxLen at H;refine⟨w.heap.size,_,_,rfl,aA.new w 170 _,?_,O,H,?_,?_,bM (KG w _ _) (fJ _ _),.inr (Lb _)⟩
    ·rw[Am,Am,dU,Ui];omega
    ·rw[Av (by simp;omega),nI (by simp;omega),nI (l:=l.take (2*i)) (by simp;omega),He (l:=l.take (2*i)) (by simp;omega)];simp
    ·intro v F
     rcases DT.1 F with F|F
     ·rcases DT.1 F with F|F
      ·exact h1 v (tT F)
      ·exact G v F
     ·exact fU _ v F
theorem mG{p:Option Addr}{n n' c F:Nat}(h:n=n')(G:c=F):Ending.returned (.slice p n c)=.returned (.slice p n' F):=by rw[h,G]
theorem Hl(w:World):(zeroValue 170).run prog w=.ok (.agg #[uZ 0,uZ 0]) w:=by kernel_rfl
theorem Cq(base:Option Addr)(n c i vb:Nat)(cs vs:aI)(w:World)(hi:i<=n)(V:n<=c)(hc:c<=9223372036854775807)(K:n<=1000000)(hold:base=none/\cs=[]/\n=0/\c=0\/∃b l,base=some (aj b 0)/\aA w b 170 l/\l.length=2*c/\cs=l.take (2*n)/\vb≠b/\∀v∈l,v.oneCell'=true)(hv:aA w vb 170 vs)(Z:vs.length=2)(O:∀v∈vs,v.oneCell'=true):
  Calls prog 224 #[.slice base n c,iZ i,iZ i,aS vb 1 1] w fun e w'=>
   Out w w' (base.map (·.block)) e (n+1) (cs.take (2*i)++vs++cs.drop (2*i)):=by
 have H:=Hg base n c i vb cs vs w hi V hc K hold hv Z O;generalize cs.take (2*i)++vs++cs.drop (2*i)=X at H ⊢;generalize base.map (·.block)=row at H ⊢
 have h3:((i:Int)==(i:Int))=true:=by simp
 have h0:(i:Int)<=(n:Int):=by omega
 have h2:(i:Int)<=(c:Int):=by omega
 rcases hold with⟨rfl,rfl,rfl,rfl⟩|⟨b,l,rfl,h,hl,rfl,hvb,h1⟩
 ·obtain rfl:i=0:=by omega
  go_enter func224,ntmps224
  go_wp2_with (go_at_call 289;refine H.mono ?_;intro e w' I;obtain⟨F,G,l',rfl,a2⟩:=I)
  go_ret;exact⟨F,G,l',rfl,a2⟩
 ·by_cases U:c=i
  ·subst U;go_enter func224,ntmps224
   go_wp2_with (go_at_call 289;refine H.mono ?_;intro e w' I;obtain⟨F,G,l',rfl,a2⟩:=I)
   go_ret;exact⟨F,G,l',rfl,a2⟩
  ·go_enter func224,ntmps224
   go_wp2_with (go_at_call 289;refine H.mono ?_;intro e w' I;obtain⟨F,G,l',rfl,a2⟩:=I)
   go_ret;exact⟨F,G,l',rfl,a2⟩
theorem Ei(b n c i vb:Nat)(l vs:aI)(w:World)(hi:i<n)(hf:n<=c)(hc:c<=9223372036854775807)(h8:n<=1000000)(h:aA w b 170 l)(hl:l.length=2*c)(h1:∀v∈l,v.oneCell'=true)(hv:aA w vb 170 vs)(X:vs.length=2)(h3:∀v∈vs,v.oneCell'=true):
  Calls prog 224 #[aS b n c,iZ i,iZ n,aS vb 1 1] w fun e w'=>
   Out w w' (some b) e (i+1) ((l.take (2*n)).take (2*i)++vs):=by
 have K:=fun ty=>dz (P:=prog) (w:=w) 63 63 ty 170 _ 2 16 u31 u31 Cn (n:=i) (c:=c) (m:=1) (mc:=1) h (aj vb 0) (vs:=vs) (by omega) (fun j v hj=>by rw[mR,hv.cell,wz];exact hj) h3 (by omega) (by omega)
 have G:(splice l (i*2) vs).length=2*c:=by rw[aN _ _ _ (by omega),hl]
 have U:(splice l (i*2) vs).take (2*(i+1))=(l.take (2*n)).take (2*i)++vs:=by
  have:=dV l vs (i*2) (by omega);rw[X,show i*2+2=2*(i+1) by omega]at this;rw[this,Ur,uj i 2,show min (2*i) (2*n)=2*i by omega]
 have H:∀v∈splice l (i*2) vs,v.oneCell'=true:=aW h1 h3;have F:=h.put (splice l (i*2) vs);generalize splice l (i*2) vs=l1 at K G U H F;have h2:Hid _:=U;have Z:Hid _:=H;have h0:Hid (aA (put w b l1) b 170 l1):=F;clear U H
 have hg:¬((i:Int)=(n:Int)):=by omega
 have h9:(i:Int)<=(n:Int):=by omega
 have ha:(n:Int)<=(c:Int):=by omega
 by_cases he:i+1<n
 ·have h7:=fun ty cc=>dG (P:=prog) (o:=(i+1)*2) (n:=n-(i+1)) (c:=cc) 63 170 ty _ u31 Hl F (by omega) (by rw[dU];omega) (fU _)
  have V:(splice l1 ((i+1)*2) (fA (fB #[uZ 0,uZ 0]).cells (n-(i+1))).toList).take (2*(i+1))=(l.take (2*n)).take (2*i)++vs:=by
   rw[dH _ _ _ _ (by rw[dU];omega) (by omega),h2.out]
  have O:(splice l1 ((i+1)*2) (fA (fB #[uZ 0,uZ 0]).cells (n-(i+1))).toList).length=2*c:=by rw[aN _ _ _ (by rw[dU];omega),G]
  have I:∀v∈splice l1 ((i+1)*2) (fA (fB #[uZ 0,uZ 0]).cells (n-(i+1))).toList,v.oneCell'=true:=aW Z.out (fU _);generalize splice l1 ((i+1)*2) (fA (fB #[uZ 0,uZ 0]).cells (n-(i+1))).toList=l2 at h7 V O I;have h5:Hid _:=V;have N7:Hid _:=I;have h4:Hid _:=O;clear V I O F h hv hl X G
  have h6:(i:Int)+1<(n:Int):=by omega
  go_enter func224,ntmps224
  go_wp2_with (at_builtin;refine sQ _ rfl _ _ _ _ rfl _ _ rfl rfl _ _ (K _) ?_)
  go_ret;exact⟨b,c,l2,rfl,aA.put h0.out l2,h4.out,by omega,hc,h5.out,N7.out,bM (bC w b l1) (bC _ b l2),.inl rfl⟩
 ·have h6:(n:Int)<=(i:Int)+1:=by omega
  clear F h hv hl X;have JZ:Hid _:=G;clear G;go_enter func224,ntmps224
  go_wp2_with (at_builtin;refine sQ _ rfl _ _ _ _ rfl _ _ rfl rfl _ _ (K _) ?_)
  go_ret;exact⟨b,c,l1,rfl,h0.out,JZ.out,by omega,hc,h2.out,Z.out,bC w b l1,.inl rfl⟩
theorem lG(w:World)(ty:TypeId)(a:Addr)(c:Nat):(Aw #[63] ty #[.slice (some a) 0 c]).run prog w=.ok (.tuple #[]) w:=by
 simp[Aw,run_underlying u31]
theorem Ej(b n c i j vb:Nat)(l vs:aI)(w:World)(x6:i<j)(x8:j<n)(xa:n<=c)(hc:c<=9223372036854775807)(hm:n<=1000000)(_hvb:vb≠b)(h:aA w b 170 l)(hl:l.length=2*c)(h1:∀v∈l,v.oneCell'=true)(hv:aA w vb 170 vs)(ha:vs.length=2)(h0:∀v∈vs,v.oneCell'=true):
  Calls prog 224 #[aS b n c,iZ i,iZ j,aS vb 1 1] w fun e w'=>
   Out w w' (some b) e (i+1+(n-j)) ((l.take (2*n)).take (2*i)++vs++(l.take (2*n)).drop (2*j)):=by
 have xd:((i:Int)==(j:Int))=false:=by simp;omega
 have hr:((j:Int)==(n:Int))=false:=by simp;omega
 have x4:(i:Int)<=(n:Int):=by omega
 have ho:(i:Int)<=(j:Int):=by omega
 have xj:(j:Int)<=(n:Int):=by omega
 have x5:(n:Int)<=(c:Int):=by omega
 have x7:(j:Int)<=(c:Int):=by omega
 have xl:(i:Int)<=(c:Int):=by omega
 have x3:¬(c=j):=by omega
 have x0:¬(c=i):=by omega
 have xm:¬(c=i+1):=by omega
 have xf:IntKind.i64.wrap ((i:Int)+1)=(i:Int)+1:=by rw[IntKind.wrap_i64];omega
 have xi:IntKind.i64.wrap ((i:Int)+1+((n-j:Nat):Int))=(i:Int)+1+((n-j:Nat):Int):=by rw[IntKind.wrap_i64];omega
 have hw:(0:Int)<=(i:Int)+1:=by omega
 have hx:(i:Int)+1<=(i:Int)+1+((n-j:Nat):Int):=by omega
 have xe:((i:Int)+1).toNat=i+1:=by omega
 have h8:∀q ty dc,(R3 #[63,63] ty #[.slice (some (aj b (i*2))) (i+1+(n-j)-i) dc,aS vb 1 1]).run prog (w.drewN q)=.ok (goInt ((1:Nat):Int)) (put (w.drewN q) b (splice l (i*2) vs)):=fun q ty dc=>
  gy (w:=w.drewN q) 63 63 ty 170 h (aj vb 0) 1 1 2 1 vs u31 uK (by simp only[Kt];split<;>omega) (by omega) (fun k v hk=>by rw[mR,wz];rw[<-hk];exact hv.cell k) (by omega) h0
 have h3:(splice l (i*2) vs).length=2*c:=by rw[aN _ _ _ (by omega),hl]
 have U:∀v∈splice l (i*2) vs,v.oneCell'=true:=aW h1 h0
 have H:∀q,aA (put (w.drewN q) b (splice l (i*2) vs)).drew b 170 (splice l (i*2) vs):=fun q=>(aA.put (w:=w.drewN q) h _).drew
 have O:((splice l (i*2) vs).drop (2*j)).take (2*(n-j))=(l.take (2*n)).drop (2*j):=by
  rw[lC _ _ _ _ (by omega) (by omega),List.drop_take,show 2*n-2*j=2*(n-j) by omega]
 generalize h5:(l.take (2*n)).drop (2*j)=G at O ⊢
 have Xm:G.length=(n-j)*2:=by rw[<-h5];simp;omega
 have Xn:∀v∈G,v.oneCell'=true:=fun v hv=>h1 v (by rw[<-h5]at hv;exact tT (tL hv))
 clear h5
 have F:(splice (splice l (i*2) vs) ((i+1)*2) G).take (2*(i+1+(n-j)))=(l.take (2*n)).take (2*i)++vs++G:=by
  have:=DR l vs G (i*2) 2 ha (by omega);rw[show i*2+2=(i+1)*2 by omega,Xm,show(i+1)*2+(n-j)*2=2*(i+1+(n-j)) by omega,show i*2=2*i by omega]at this;rw[show i*2=2*i by omega,this,Ur,show min (2*i) (2*n)=2*i by omega]
 generalize splice l (i*2) vs=l1 at h8 h3 U H O F
 have h9:∀q ty dc sc,(R3 #[63,63] ty #[.slice (some (aj b ((i+1)*2))) (i+1+(n-j)-(i+1)) dc,.slice (some (aj b (j*2))) (n-j) sc]).run prog (put (w.drewN q) b l1).drew=.ok (goInt ((n-j:Nat):Int)) (put (put (w.drewN q) b l1).drew b (splice l1 ((i+1)*2) G)):=fun q ty dc sc=>
  gy 63 63 ty 170 (H q) (aj b (j*2)) (n-j) sc 2 (n-j) G u31 uK (by simp only[Kt];split<;>omega) Xm
   (fun k v hk=>by rw[mR,(H q).cell,uj j 2];rw[<-O]at hk;exact vN hk) (by omega) Xn
 have K:(splice l1 ((i+1)*2) G).length=2*c:=by rw[aN _ _ _ (by omega),h3]
 have V:∀v∈splice l1 ((i+1)*2) G,v.oneCell'=true:=aW U Xn
 have I:∀q,aA (put (put (w.drewN q) b l1).drew b (splice l1 ((i+1)*2) G)) b 170 (splice l1 ((i+1)*2) G):=fun q=>(H q).put _
 generalize splice l1 ((i+1)*2) G=l2 at h9 K V I F;generalize hT:i+1+(n-j)=T at *
 have hu:i+1<=T/\T<=n:=by omega
 generalize (l.take (2*n)).take (2*i)++vs++G=X at F ⊢;have HF:Hid _:=F;have N7:Hid _:=V;have hg:Hid _:=K;have h6:Hid _:=I;clear F V O H U h3 Xm Xn h hv hl h1 h0 ha
 by_cases x9:T<n
 ·have h7:∀q ty cc,(Aw #[63] ty #[.slice (some (aj b (T*2))) (n-T) cc]).run prog (put (put (w.drewN q) b l1).drew b l2)=.ok (.tuple #[]) (put (put (put (w.drewN q) b l1).drew b l2) b (splice l2 (T*2) (fA (fB #[uZ 0,uZ 0]).cells (n-T)).toList)):=fun q ty cc=>
   dG (P:=prog) 63 170 ty _ u31 Hl (I q) (by omega) (by rw[dU];omega) (fU _)
  have h2:(splice l2 (T*2) (fA (fB #[uZ 0,uZ 0]).cells (n-T)).toList).take (2*T)=X:=by
   rw[dH _ _ _ _ (by rw[dU];omega) (by omega),HF.out]
  have h4:(splice l2 (T*2) (fA (fB #[uZ 0,uZ 0]).cells (n-T)).toList).length=2*c:=by rw[aN _ _ _ (by rw[dU];omega),K]
  have Z:∀v∈splice l2 (T*2) (fA (fB #[uZ 0,uZ 0]).cells (n-T)).toList,v.oneCell'=true:=aW N7.out (fU _);generalize splice l2 (T*2) (fA (fB #[uZ 0,uZ 0]).cells (n-T)).toList=l3 at h7 h2 h4 Z;have hf:Hid _:=h2;have he:Hid _:=Z;have hj:Hid _:=h4;clear h2 Z h4 K I;go_enter func224,ntmps224;go_wp2
  go_quiet (fail)
  go_wp2
  go_region
  go_wp2;go_ret;exact⟨b,c,l3,mG (by omega) rfl,aA.put (h6.out nq) l3,hj.out,by omega,hc,hf.out,he.out,bM (oF w nq _) (bM (bC _ b _) (bM (fJ _ _) (bM (bC _ b _) (bC _ b _)))),.inl rfl⟩
 ·obtain rfl:T=n:=by omega
  have h7:∀q ty cc,(Aw #[63] ty #[.slice (some (aj b (T*2))) 0 cc]).run prog (put (put (w.drewN q) b l1).drew b l2)=.ok (.tuple #[]) (put (put (w.drewN q) b l1).drew b l2):=fun q ty cc=>lG _ ty _ cc
  have hn:∀q ty cc,(Aw #[63] ty #[aS b 0 cc]).run prog (put (put (w.drewN q) b l1).drew b l2)=.ok (.tuple #[]) (put (put (w.drewN q) b l1).drew b l2):=fun q ty cc=>lG _ ty _ cc
  clear K I
  by_cases hy:c=T
  all_goals
   go_enter func224,ntmps224;go_wp2
   go_quiet (fail)
   go_wp2
   go_region
   go_wp2;go_ret;exact⟨b,c,l2,mG (by omega) (by omega),h6.out nq,hg.out,by omega,hc,HF.out,N7.out,bM (oF w nq _) (bM (bC _ b _) (bM (fJ _ _) (bC _ b _))),.inl rfl⟩
theorem El(base:Option Addr)(n c i j vb:Nat)(cs vs:aI)(w:World)(X:i<=j)(O:j<=n)(H:n<=c)(K:c<=9223372036854775807)(F:n<=1000000)(hold:base=none/\cs=[]/\n=0/\c=0\/∃b l,base=some (aj b 0)/\aA w b 170 l/\l.length=2*c/\cs=l.take (2*n)/\vb≠b/\∀v∈l,v.oneCell'=true)(U:aA w vb 170 vs)(I:vs.length=2)(G:∀v∈vs,v.oneCell'=true):
  Calls prog 224 #[.slice base n c,iZ i,iZ j,aS vb 1 1] w fun e w'=>
   Out w w' (base.map (·.block)) e (i+1+(n-j)) (cs.take (2*i)++vs++cs.drop (2*j)):=by
 by_cases h:i=j
 ·subst h;have:=Cq base n c i vb cs vs w O H K F hold U I G;rwa[show n+1=i+1+(n-i) by omega]at this
 ·rcases hold with⟨rfl,rfl,rfl,rfl⟩|⟨b,l,rfl,hB,hl,rfl,hvb,h1⟩
  ·omega
  ·by_cases V:j=n
   ·subst V;have:=Ei b j c i vb l vs w (by omega) H K F hB hl h1 U I G;rw[show i+1+(j-j)=i+1 by omega,He (by simp;omega),List.append_nil];exact this
   ·exact Ej b n c i j vb l vs w (by omega) (by omega) H K F hvb hB hl h1 U I G
theorem Cw(b m c:Nat)(l:aI)(w:World)(hm:1<=m)(hn:m+1<=c)(hc:c<=9223372036854775807)(h8:m<=1000000)(h:aA w b 170 l)(hl:l.length=2*c)(h1:∀v∈l,v.oneCell'=true):
  Calls prog 225 #[(aS b (m+1) c),iZ 0,iZ 1] w fun e w'=>
   Out w w' (some b) e m ((l.take (2*(m+1))).drop 2):=by
 have h2:((l.take (2*(m+1))).drop 2).length=2*m:=by simp;omega
 have O:∀v∈(l.take (2*(m+1))).drop 2,v.oneCell'=true:=fun v hv=>h1 v (tT (tL hv))
 have H:∀j v,((l.take (2*(m+1))).drop 2)[j]?=some v->l[2+j]?=some v:=fun j v hj=>by
  rw[M4,E8]at hj;split at hj
  ·exact hj
  ·cases hj
 have h7:(loadCellsFrom (aj b 2) 0 (m*2) #[]).run prog w.drew=.ok ((l.take (2*(m+1))).drop 2).toArray w.drew:=by
  have hf:=run_firstCells_some (P:=prog) w.drew 2 m (aj b 2) m (c-1) ((l.take (2*(m+1))).drop 2) (by omega) (fun j v hj=>by
   rw[mR];exact(aA.cell h (2+j)).trans (H j v hj))
  simpa[Builtin.firstCells,loadCells]using hf
 have h0:(storeCells (aj b 0) ((l.take (2*(m+1))).drop 2)).run prog w.drew=.ok () (put w.drew b (splice l 0 ((l.take (2*(m+1))).drop 2))):=
  cu (P:=prog) (w:=w.drew) (o:=0) h _ (by omega) O
 have U:(splice l 0 ((l.take (2*(m+1))).drop 2)).length=2*c:=by rw[aN _ _ _ (by omega),hl]
 have G:(splice l 0 ((l.take (2*(m+1))).drop 2)).take (2*m)=(l.take (2*(m+1))).drop 2:=by
  have:=dV l ((l.take (2*(m+1))).drop 2) 0 (by omega);rw[h2]at this;simpa using this
 have I:∀v∈splice l 0 ((l.take (2*(m+1))).drop 2),v.oneCell'=true:=aW h1 O;have F:aA (put w.drew b (splice l 0 ((l.take (2*(m+1))).drop 2))) b 170 (splice l 0 ((l.take (2*(m+1))).drop 2)):=aA.put (w:=w.drew) h _;generalize splice l 0 ((l.take (2*(m+1))).drop 2)=l1 at h0 U G I F;generalize (l.take (2*(m+1))).drop 2=X at G h7 h0 ⊢
 have h6:∀ty cc,(Aw #[63] ty #[.slice (some (aj b (m*2))) 1 cc]).run prog (put w.drew b l1)=.ok (.tuple #[]) (put (put w.drew b l1) b (splice l1 (m*2) (fA (fB #[uZ 0,uZ 0]).cells 1).toList)):=fun ty cc=>
  dG (P:=prog) (o:=m*2) (n:=1) (c:=cc) 63 170 ty _ u31 Hl F (by omega) (by rw[dU];omega) (fU _)
 have Z:(splice l1 (m*2) (fA (fB #[uZ 0,uZ 0]).cells 1).toList).take (2*m)=X:=by
  rw[dH _ _ _ _ (by rw[dU];omega) (by omega),G]
 have V:(splice l1 (m*2) (fA (fB #[uZ 0,uZ 0]).cells 1).toList).length=2*c:=by rw[aN _ _ _ (by rw[dU];omega),U]
 have K:∀v∈splice l1 (m*2) (fA (fB #[uZ 0,uZ 0]).cells 1).toList,v.oneCell'=true:=aW I (fU _);generalize splice l1 (m*2) (fA (fB #[uZ 0,uZ 0]).cells 1).toList=l2 at h6 Z V K;have h5:Hid _:=Z;have N7:Hid _:=K;have h4:Hid _:=V;have h3:Hid (aA (put w.drew b l1) b 170 l1):=F;have HG:Hid (w.grownBy (put (put w.drew b l1) b l2) (some b)):=bM (fJ w _) (bM (bC w.drew b l1) (bC _ b l2));clear G Z K V I U F O H h2 h1 hl h
 have hk:m<=c:=by omega
 have ha:(1:Int)<=(m:Int)+1:=by omega
 have he:(m:Int)+1<=(c:Int):=by omega
 have hg:¬(c=m):=by omega
 have h9:¬(c=1):=by omega
 have e1:m+1-m=1:=by omega
 go_enter func225,ntmps225;go_wp2
 go_region
 go_wp2;go_ret;exact⟨b,c,l2,rfl,aA.put (h3.out) l2,h4.out,by omega,hc,h5.out,N7.out,HG.out,.inl rfl⟩
