import Derived.Test.YtphbledmopchnaaGreatDoorKaa
import Derived.Deep.RegionLaw
import Derived.Shelf.Spec.SlicesInsert
open Go.Addr renaming add_lit->nI
open Go.Builtin renaming zeroCells->jK,clear_->Kt,copy_->Xw
open Go.Lib renaming wpList_append_run->tT
open List renaming take_of_length_le->tL,mem_of_mem_drop->uj,mem_of_mem_take->wz,length_append->DJ,take_append_of_le_length->Gl,mem_append->KG,getElem?_take->Lb,drop_of_length_le->M4,getElem?_drop->Vp,nil_append->ZE,length_take->Z9,take_take->qa0
open Nat renaming mul_comm->Bu,zero_add->CK,min_def->R3,le_refl->Vh
open Go.Value renaming agg->mR
open Go.World renaming grownBy_alloc->Si
set_option maxHeartbeats 2000000
set_option maxRecDepth 100000
namespace Go.Proofs.YtphbledmopchnaaGreatDoor.St
open Go.RowKit Go.Lib Mm Tryz
theorem u31:prog.underlying 63=some (.slice 170):=by kernel_rfl
theorem sS:(prog.info? 170).map (·.size)=some 2:=by kernel_rfl
theorem AY:(prog.info? 170).map (fun i=>(i.zero,i.size,i.bytes))=some (some (.agg #[.int .u64 0,.int .u64 0]),2,16):=by kernel_rfl
theorem Nn(w:World):(Go.sizeOf 170).run prog w=.ok 2 w:=by kernel_rfl
theorem CV{w:World}{vb b off m vc lb cb:Nat}{vs l:List Value}(G:ak w vb 170 vs)(h:ak w b 170 l)(hl:l.length≠0)(F:vb≠b):
  (callFunc 290 #[.slice (some ⟨vb,0,none⟩) m vc,.slice (some ⟨b,off,none⟩) lb cb]).run prog w=.ok (.value (.bool false)) w:=by
 rw[run_callFunc_extern func290 (by kernel_rfl) (by kernel_rfl) (by kernel_rfl) (e:=Extern.SlicesOverlaps.overlaps #[63,63] #[4]) (by kernel_rfl),
  Lib.run_overlaps_apart w 63 4 170 u31 2 Nn ⟨vb,0,none⟩ ⟨b,off,none⟩ m vc lb cb F 170 170 vs.length l.length G.shape h.shape hl (G.frozen 0) (G.frozen _)]
 rfl
theorem uI{l:List Value}{a k j:Nat}{v:Value}(h:((l.drop a).take k)[j]?=some v):l[a+j]?=some v:=by
 rw[Lb]at h;split at h
 ·rwa[Vp]at h
 ·cases h
theorem AZ(b n c i vb:Nat)(l vs:List Value)(w:World)(hi:i<n)(h6:n+1<=c)(hc:c<=9223372036854775807)(h0:vb≠b)(h:ak w b 170 l)(hl:l.length=2*c)(hv:ak w vb 170 vs)(hk:vs.length=2)(h1:∀v∈l,v.oneCell'=true)(h2:∀v∈vs,v.oneCell'=true):
  Calls prog 289 #[.slice (some ⟨b,0,none⟩) n c,.int .i64 i,.slice (some ⟨vb,0,none⟩) 1 1] w fun e w'=>
   e=.returned (.slice (some ⟨b,0,none⟩) (n+1) c)/\∃q,w'=put (put (w.drewN q) b (splice l (2*(i+1)) ((l.drop (2*i)).take (2*(n-i))))) b (splice (splice l (2*(i+1)) ((l.drop (2*i)).take (2*(n-i)))) (2*i) vs):=by
 have h5:∀off lb cb,(callFunc 290 #[.slice (some ⟨vb,0,none⟩) 1 1,.slice (some ⟨b,off,none⟩) lb cb]).run prog w=.ok (.value (.bool false)) w:=fun off lb cb=>
  CV hv h (by omega) h0
 have hn:¬((i:Int)=(n:Int)):=by omega
 have ho:(i:Int)<=(n:Int):=by omega
 generalize F:(l.drop (2*i)).take (2*(n-i))=G
 have h4:G.length=(n-i)*2:=by rw[<-F];simp;omega
 have Z:∀j v,G[j]?=some v->w.cell? ⟨b,i*2+j,none⟩=some v:=fun j v V=>by
  rw[h.cell,Bu];rw[<-F]at V;exact uI V
 have h3:∀v∈G,v.oneCell'=true:=fun v hv=>h1 v (by rw[<-F]at hv;exact uj (wz hv))
 generalize O:splice l (2*(i+1)) G=l1
 have hr:l1.length=2*c:=by rw[<-O,aG _ _ _ (by omega),hl]
 have H:∀(W:World),W.heap=w.heap->∀U X sc,(Xw #[63,63] U #[.slice (some ⟨b,(i+1)*2,none⟩) (n-i) X,.slice (some ⟨b,i*2,none⟩) (n+1-i) sc]).run prog W=.ok (goInt ((n-i:Nat):Int)) (put W b l1):=fun W hW U X sc=>by
  have hB:ak W b 170 l:=h.of_heap (by rw[hW]);rw[fE 63 63 U 170 hB ⟨b,i*2,none⟩ (n+1-i) sc 2 (n-i) G u31 sS (by simp only[R3];split<;>omega) h4 (fun j v V=>by rw[nI,hB.cell,<-h.cell];exact Z j v V) (by omega) h3,<-O,Bu (i+1) 2]
 have I:∀(W:World),ak W b 170 l1->ak W vb 170 vs->∀U X,(Xw #[63,63] U #[.slice (some ⟨b,i*2,none⟩) (n+1-i) X,.slice (some ⟨vb,0,none⟩) 1 1]).run prog W=.ok (goInt ((1:Nat):Int)) (put W b (splice l1 (2*i) vs)):=fun W hB hV U X=>by
  rw[fE 63 63 U 170 hB ⟨vb,0,none⟩ 1 1 2 1 vs u31 sS (by simp only[R3];split<;>omega) (by omega) (fun j v V=>by rw[nI,hV.cell,CK];exact V) (by omega) h2,Bu i 2]
 clear F O Z
 have hm:IntKind.i64.wrap ((i:Int)+1)=(i:Int)+1:=by rw[IntKind.wrap_i64];omega
 have h7:(0:Int)<=(i:Int)+1:=by omega
 have hg:((i:Int)+1).toNat=i+1:=by omega
 have h8:¬(c=i+1):=by omega
 have h9:(i:Int)+1<=(n:Int)+1:=by omega
 have he:(i:Int)<=(n:Int)+1:=by omega
 have ha:¬(c=i):=by omega
 go_enter func289,ntmps289
 go_wp2_with (simp only[h5])
 have hf:=H w.drew rfl;clear H
 go_region
 have hu:=I (put w.drew b l1) (h.drew.put l1) (hv.drew.of_heap (dQ _ _ _ _ h0));clear I;go_wp2;go_ret;exact⟨rfl,1,rfl⟩
def Out(w w':World)(row:Option Nat)(e:Ending)(n':Nat)(H:List Value):Prop:=
 ∃F G l',e=.returned (.slice (some ⟨F,0,none⟩) n' G)/\ak w' F 170 l'/\l'.length=2*G/\n'<=G/\G<=9223372036854775807/\l'.take (2*n')=H/\(∀v∈l',v.oneCell'=true)/\w.grownBy w' row/\(some F=row\/w.heap.size<=F)
theorem CW(b n c vb:Nat)(l vs:List Value)(w:World)(F:n+1<=c)(X:c<=9223372036854775807)(h:ak w b 170 l)(hl:l.length=2*c)(O:ak w vb 170 vs)(U:vs.length=2)(G:∀v∈vs,v.oneCell'=true):
  Calls prog 289 #[.slice (some ⟨b,0,none⟩) n c,.int .i64 n,.slice (some ⟨vb,0,none⟩) 1 1] w fun e w'=>
   e=.returned (.slice (some ⟨b,0,none⟩) (n+1) c)/\w'=put w b (splice l (n*2) vs):=by
 have H:=fun V=>bS (P:=prog) (w:=w) 63 63 V 170 _ 2 16 u31 u31 AY (n:=n) (c:=c) (m:=1) (mc:=1) h ⟨vb,0,none⟩ (vs:=vs) (by omega) (fun j v I=>by rw[nI,O.cell,CK];exact I) G F (by omega)
 go_enter func289,ntmps289
 go_wp2_with (at_builtin;refine tT _ rfl _ _ _ _ rfl _ _ rfl rfl _ _ (H _) ?_)
 go_ret;exact⟨rfl,rfl⟩
theorem mJ(base:Option Addr)(n c vb:Nat)(cs vs:List Value)(w:World)(h0:n<=c)(H:c<n+1)(X:n<=1000000)(hold:base=none/\cs=[]/\n=0\/∃b,base=some ⟨b,0,none⟩/\cs.length=n*2/\∀j v,cs[j]?=some v->w.cell? ⟨b,j,none⟩=some v)(hv:ak w vb 170 vs)(h4:vs.length=2)(O:∀v∈vs,v.oneCell'=true):
  Calls prog 289 #[.slice base n c,.int .i64 n,.slice (some ⟨vb,0,none⟩) 1 1] w fun e w'=>
   e=.returned (.slice (some ⟨w.heap.size,0,none⟩) (n+1) (grownCap w (n+1) c 170))/\
   w'=w.drew.alloc (.cells (cs++vs++(jK (mR #[.int .u64 0,.int .u64 0]).cells (grownCap w (n+1) c 170-(n+1))).toList).toArray 170):=by
 have F:=fun ty=>eX (P:=prog) (w:=w) 63 63 ty 170 _ 2 16 u31 u31 AY (base:=base) (n:=n) (c:=c) (m:=1) (mc:=1) (cs:=cs) (by
   rcases hold with⟨h1,U,_⟩|⟨b,h1,U,h3⟩
   ·exact .inl ⟨h1,U⟩
   ·exact .inr ⟨_,h1,U,fun j v V=>by rw[nI,CK];exact h3 j v V⟩) ⟨vb,0,none⟩ (vs:=vs) (by omega) (fun j v V=>by rw[nI,hv.cell,CK];exact V) O H (by omega) (by omega)
 generalize I:cs++vs++(jK (mR #[.int .u64 0,.int .u64 0]).cells (grownCap w (n+1) c 170-(n+1))).toList=Z at F ⊢;clear I;generalize grownCap w (n+1) c 170=G at F ⊢
 rcases hold with⟨rfl,_,rfl⟩|⟨b,rfl,_,_⟩
 ·go_enter func289,ntmps289
  go_wp2_with (at_builtin;refine tT _ rfl _ _ _ _ rfl _ _ rfl rfl _ _ (F _) ?_)
  go_ret;exact⟨rfl,rfl⟩
 ·go_enter func289,ntmps289
  go_wp2_with (at_builtin;refine tT _ rfl _ _ _ _ rfl _ _ rfl rfl _ _ (F _) ?_)
  go_ret;exact⟨rfl,rfl⟩
theorem CX(b n c i vb:Nat)(l vs:List Value)(w:World)(hi:i<n)(x3:n<=c)(hn:c<n+1)(hr:n<=1000000)(h:ak w b 170 l)(hl:l.length=2*c)(F:ak w vb 170 vs)(ho:vs.length=2)(h1:∀v∈l,v.oneCell'=true)(h7:∀v∈vs,v.oneCell'=true):
  Calls prog 289 #[.slice (some ⟨b,0,none⟩) n c,.int .i64 i,.slice (some ⟨vb,0,none⟩) 1 1] w fun e w'=>
   Out w w' none e (n+1) ((l.take (2*n)).take (2*i)++vs++(l.take (2*n)).drop (2*i)):=by
 have hm:c=n:=by omega
 subst hm
 have x7:¬((i:Int)=(c:Int)):=by omega
 have x8:(i:Int)<=(c:Int):=by omega
 have he:l.take (2*c)=l:=tL (by omega);rw[he]
 have V:=fun ty=>ny (P:=prog) (w:=w) 63 3 ty 170 _ 2 16 .i64 .i64 u31 (by kernel_rfl) AY (by omega) ⟨b,0,none⟩ (n:=i) (c:=c) (m:=c+1-i) (cs:=l.take (2*i)) (by simp;omega)
  (fun j v Z=>by
   rw[nI,CK,h.cell];rw[Lb]at Z;split at Z
   ·exact Z
   ·cases Z) (by omega) (by omega) (by omega) (by omega)
 rw[show i+(c+1-i)=c+1 by omega,show((c+1-i:Nat):Int)=(c:Int)+1-(i:Int) by omega]at V;have hk:=grownCap_ge w (c+1) c 170;have I:=grownCap_le_maxLen w (c+1) c 170 (by unfold maxLen;omega);unfold maxLen at I;generalize hG:grownCap w (c+1) c 170=G at V hk I;clear hG;generalize hR:l.take (2*i)++(jK (mR #[.int .u64 0,.int .u64 0]).cells (c+1-i)).toList++(jK (mR #[.int .u64 0,.int .u64 0]).cells (G-(c+1))).toList=R at V
 have h8:R.length=2*G:=by
  rw[<-hR,DJ,DJ,dA,dA,Z9];omega
 have h9:R.take (2*i)=l.take (2*i):=by
  rw[<-hR,List.append_assoc,Gl (by simp;omega),tL (by simp;omega)]
 have sG:∀v∈R,v.oneCell'=true:=by
  rw[<-hR];intro v F
  rcases KG.1 F with F|F
  ·rcases KG.1 F with F|F
   ·exact h1 v (wz F)
   ·exact eZ _ v F
  ·exact eZ _ v F
 clear hR;have x2:b<w.heap.size:=h.lt;have x5:vb<w.heap.size:=F.lt;have h2:ak ((w.alloc (.cells R.toArray 170)).drew) w.heap.size 170 R:=ak.new w 170 R;have ha:ak ((w.alloc (.cells R.toArray 170)).drew) vb 170 vs:=F.alloc _;have wH:ak ((w.alloc (.cells R.toArray 170)).drew) b 170 l:=h.alloc _
 have hc:=fun ty dc=>fE (P:=prog) (o:=i*2) (dLen:=c+1-i) (dCap:=dc) 63 63 ty 170 h2 ⟨vb,0,none⟩ 1 1 2 1 vs u31 sS (by simp only[R3];split<;>omega) (by omega) (fun j v Z=>by rw[nI,ha.cell,CK];exact Z) (by omega) h7
 have U:=(h2.put (splice R (i*2) vs)).drew;have h3:ak (put ((w.alloc (.cells R.toArray 170)).drew) w.heap.size (splice R (i*2) vs)).drew b 170 l:=wH.of_heap (dQ _ _ _ _ (by omega))
 have X:(l.drop (2*i)).length=(c-i)*2:=by simp;omega
 have h4:(splice R (i*2) vs).length=2*G:=by rw[aG _ _ _ (by omega),h8]
 have O:=fun ty dc sc=>fE (P:=prog) (o:=(i+1)*2) (dLen:=c-i) (dCap:=dc) 63 63 ty 170 U ⟨b,i*2,none⟩ (c-i) sc 2 (c-i) (l.drop (2*i)) u31 sS (by simp only[R3];split<;>omega) X
  (fun j v Z=>by rw[nI,h3.cell];rwa[Vp,Bu 2 i]at Z) (by omega) (fun v F=>h1 v (uj F))
 have H:(splice (splice R (i*2) vs) ((i+1)*2) (l.drop (2*i))).take (2*(c+1))=l.take (2*i)++vs++l.drop (2*i):=by
  have:=CJ R vs (l.drop (2*i)) (i*2) 2 ho (by omega);rw[show i*2+2=(i+1)*2 by omega,X,show(i+1)*2+(c-i)*2=2*(c+1) by omega,show i*2=2*i by omega,h9]at this;rw[show i*2=2*i by omega];exact this
 have h5:(splice (splice R (i*2) vs) ((i+1)*2) (l.drop (2*i))).length=2*G:=by rw[aG _ _ _ (by omega),h4]
 have h0:∀v∈splice (splice R (i*2) vs) ((i+1)*2) (l.drop (2*i)),v.oneCell'=true:=aS (aS sG h7) (fun v F=>h1 v (uj F));have h6:Hid _:=U;generalize splice (splice R (i*2) vs) ((i+1)*2) (l.drop (2*i))=l3 at O H h5 h0;generalize l.drop (2*i)=tl at O H X;generalize splice R (i*2) vs=l2 at hc O U h3 h4 h6
 have x6:IntKind.i64.wrap ((i:Int)+1)=(i:Int)+1:=by rw[IntKind.wrap_i64];omega
 have hu:(0:Int)<=(i:Int)+1:=by omega
 have x4:((i:Int)+1).toNat=i+1:=by omega
 have hw:¬(G=i+1):=by omega
 have hx:(i:Int)+1<=(c:Int)+1:=by omega
 have x0:(i:Int)<=(c:Int)+1:=by omega
 have hy:¬(c=i):=by omega
 have x1:¬(G=i):=by omega
 have HF:Hid _:=H;have hf:Hid _:=h0;have hg:Hid _:=h5;clear H h0 h5 he h9 sG h8 h2 ha wH h3 U X h4;go_enter func289,ntmps289
 go_wp2_with (at_builtin;refine tT _ rfl _ _ _ _ rfl _ _ rfl rfl _ _ (V _) ?_)
 go_region
 go_wp2;go_ret;refine⟨w.heap.size,G,l3,rfl,ak.put h6.out l3,hg.out,by omega,I,HF.out,hf.out,?_,.inr (Vh _)⟩;exact oQ (bC (oQ (bC (Si w _ none) (eH _ none)) _ _ (Vh _)) (eH _ none)) _ _ (Vh _)
theorem FL(base:Option Addr)(n c i vb:Nat)(cs vs:List Value)(w:World)(hi:i<=n)(h0:n<=c)(hc:c<=9223372036854775807)(O:n<=1000000)(hold:base=none/\cs=[]/\n=0/\c=0\/∃b l,base=some ⟨b,0,none⟩/\ak w b 170 l/\l.length=2*c/\cs=l.take (2*n)/\vb≠b/\∀v∈l,v.oneCell'=true)(F:ak w vb 170 vs)(I:vs.length=2)(G:∀v∈vs,v.oneCell'=true):
  Calls prog 289 #[.slice base n c,.int .i64 i,.slice (some ⟨vb,0,none⟩) 1 1] w fun e w'=>
   Out w w' (base.map (·.block)) e (n+1) (cs.take (2*i)++vs++cs.drop (2*i)):=by
 rcases hold with⟨rfl,rfl,rfl,rfl⟩|⟨b,l,rfl,h,hl,rfl,hvb,h1⟩
 ·obtain rfl:i=0:=by omega
  refine(mJ none 0 0 vb [] vs w (by omega) (by omega) (by omega) (.inl ⟨rfl,rfl,rfl⟩) F I G).mono ?_;rintro e w' ⟨rfl,rfl⟩;have U:=grownCap_ge w (0+1) 0 170;have H:=grownCap_le_maxLen w (0+1) 0 170 (by unfold maxLen;omega);unfold maxLen at H;refine⟨w.heap.size,_,_,rfl,ak.new w 170 _,?_,U,H,?_,?_,bC (Si w _ none) (eH _ none),.inr (Vh _)⟩
  ·rw[ZE,DJ,dA];omega
  ·rw[ZE,Gl (by omega),tL (by omega)];simp
  ·intro v F;rw[ZE]at F
   rcases KG.1 F with F|F
   ·exact G v F
   ·exact eZ _ v F
 ·by_cases hr:n+1<=c
  ·by_cases V:i<n
   ·refine(AZ b n c i vb l vs w V hr hc hvb h hl F I h1 G).mono ?_;rintro e w' ⟨rfl,q,rfl⟩;refine⟨b,c,_,rfl,(ak.put (w:=w.drewN q) h _).put _,?_,hr,hc,?_,aS (aS h1 (fun v F=>h1 v (uj (wz F)))) G,?_,.inl rfl⟩
    ·rw[aG,aG,hl]
     ·simp;omega
     ·rw[aG]
      ·omega
      ·simp;omega
    ·have:=Fz l vs (2*i) (2*n) 2 (by omega) (by omega) I;rw[show 2*n-2*i=2*(n-i) by omega,show 2*i+2=2*(i+1) by omega,show 2*n+2=2*(n+1) by omega]at this;exact this
    ·exact bC (nC w q _) (bC (aT _ b _) (aT _ b _))
   ·obtain rfl:i=n:=by omega
    refine(CW b i c vb l vs w hr hc h hl F I G).mono ?_;rintro e w' ⟨rfl,rfl⟩;refine⟨b,c,_,rfl,h.put _,?_,hr,hc,?_,aS h1 G,aT _ b _,.inl rfl⟩
    ·rw[aG,hl];omega
    ·have:=dR l vs (i*2) (by omega);rw[I,show i*2+2=2*(i+1) by omega,Bu i 2]at this;rw[Bu i 2,this,tL (l:=l.take (2*i)) (by simp;omega),M4 (l:=l.take (2*i)) (by simp;omega)];simp
  ·by_cases V:i<n
   ·refine(CX b n c i vb l vs w V h0 (by omega) O h hl F I h1 G).mono ?_;rintro e w' ⟨b',c',l',a1,a2,a3,a4,a5,a6,a7,X,Z⟩;refine⟨b',c',l',a1,a2,a3,a4,a5,a6,a7,⟨X.os,X.tape,X.output,X.size,fun k hk _=>X.block k hk (by simp)⟩,.inr ?_⟩
    rcases Z with Z|Z
    ·cases Z
    ·exact Z
   ·obtain rfl:i=n:=by omega
    refine(mJ (some ⟨b,0,none⟩) i c vb (l.take (2*i)) vs w h0 (by omega) O (.inr ⟨b,rfl,by simp;omega,fun j v hj=>by
     rw[h.cell];rw[Lb]at hj;split at hj
     ·exact hj
     ·cases hj⟩) F I G).mono ?_
    rintro e w' ⟨rfl,rfl⟩;have U:=grownCap_ge w (i+1) c 170;have H:=grownCap_le_maxLen w (i+1) c 170 (by unfold maxLen;omega);unfold maxLen at H;refine⟨w.heap.size,_,_,rfl,ak.new w 170 _,?_,U,H,?_,?_,bC (Si w _ _) (eH _ _),.inr (Vh _)⟩
    ·rw[DJ,DJ,dA,Z9];omega
    ·rw[Gl (by simp;omega),tL (by simp;omega),tL (l:=l.take (2*i)) (by simp;omega),M4 (l:=l.take (2*i)) (by simp;omega)];simp
    ·intro v F
     rcases KG.1 F with F|F
     ·rcases KG.1 F with F|F
      ·exact h1 v (wz F)
      ·exact G v F
     ·exact eZ _ v F
theorem oh{p:Option Addr}{n n' c F:Nat}(h:n=n')(G:c=F):Ending.returned (.slice p n c)=.returned (.slice p n' F):=by rw[h,G]
theorem FM(w:World):(zeroValue 170).run prog w=.ok (.agg #[.int .u64 0,.int .u64 0]) w:=by kernel_rfl
theorem A8(base:Option Addr)(n c i vb:Nat)(cs vs:List Value)(w:World)(hi:i<=n)(h0:n<=c)(hc:c<=9223372036854775807)(U:n<=1000000)(hold:base=none/\cs=[]/\n=0/\c=0\/∃b l,base=some ⟨b,0,none⟩/\ak w b 170 l/\l.length=2*c/\cs=l.take (2*n)/\vb≠b/\∀v∈l,v.oneCell'=true)(hv:ak w vb 170 vs)(h2:vs.length=2)(V:∀v∈vs,v.oneCell'=true):
  Calls prog 224 #[.slice base n c,.int .i64 i,.int .i64 i,.slice (some ⟨vb,0,none⟩) 1 1] w fun e w'=>
   Out w w' (base.map (·.block)) e (n+1) (cs.take (2*i)++vs++cs.drop (2*i)):=by
 have I:=FL base n c i vb cs vs w hi h0 hc U hold hv h2 V;generalize cs.take (2*i)++vs++cs.drop (2*i)=X at I ⊢;generalize base.map (·.block)=row at I ⊢
 have h5:((i:Int)==(i:Int))=true:=by simp
 have h3:(i:Int)<=(n:Int):=by omega
 have h4:(i:Int)<=(c:Int):=by omega
 rcases hold with⟨rfl,rfl,rfl,rfl⟩|⟨b,l,rfl,h,hl,rfl,hvb,h1⟩
 ·obtain rfl:i=0:=by omega
  go_enter func224,ntmps224
  go_wp2_with (go_at_call 289;refine I.mono ?_;intro e w' O;obtain⟨G,H,l',rfl,F⟩:=O)
  go_ret;exact⟨G,H,l',rfl,F⟩
 ·by_cases Z:c=i
  ·subst Z;go_enter func224,ntmps224
   go_wp2_with (go_at_call 289;refine I.mono ?_;intro e w' O;obtain⟨G,H,l',rfl,F⟩:=O)
   go_ret;exact⟨G,H,l',rfl,F⟩
  ·go_enter func224,ntmps224
   go_wp2_with (go_at_call 289;refine I.mono ?_;intro e w' O;obtain⟨G,H,l',rfl,F⟩:=O)
   go_ret;exact⟨G,H,l',rfl,F⟩
theorem CY(b n c i vb:Nat)(l vs:List Value)(w:World)(hi:i<n)(hg:n<=c)(hc:c<=9223372036854775807)(h9:n<=1000000)(h:ak w b 170 l)(hl:l.length=2*c)(h1:∀v∈l,v.oneCell'=true)(hv:ak w vb 170 vs)(Z:vs.length=2)(h4:∀v∈vs,v.oneCell'=true):
  Calls prog 224 #[.slice (some ⟨b,0,none⟩) n c,.int .i64 i,.int .i64 n,.slice (some ⟨vb,0,none⟩) 1 1] w fun e w'=>
   Out w w' (some b) e (i+1) ((l.take (2*n)).take (2*i)++vs):=by
 have O:=fun ty=>bS (P:=prog) (w:=w) 63 63 ty 170 _ 2 16 u31 u31 AY (n:=i) (c:=c) (m:=1) (mc:=1) h ⟨vb,0,none⟩ (vs:=vs) (by omega) (fun j v hj=>by rw[nI,hv.cell,CK];exact hj) h4 (by omega) (by omega)
 have G:(splice l (i*2) vs).length=2*c:=by rw[aG _ _ _ (by omega),hl]
 have V:(splice l (i*2) vs).take (2*(i+1))=(l.take (2*n)).take (2*i)++vs:=by
  have:=dR l vs (i*2) (by omega);rw[Z,show i*2+2=2*(i+1) by omega]at this;rw[this,qa0,Bu i 2,show min (2*i) (2*n)=2*i by omega]
 have H:∀v∈splice l (i*2) vs,v.oneCell'=true:=aS h1 h4;have F:=h.put (splice l (i*2) vs);generalize splice l (i*2) vs=l1 at O G V H F;have h3:Hid _:=V;have h0:Hid _:=H;have h2:Hid (ak (put w b l1) b 170 l1):=F;clear V H
 have hk:¬((i:Int)=(n:Int)):=by omega
 have ha:(i:Int)<=(n:Int):=by omega
 have he:(n:Int)<=(c:Int):=by omega
 by_cases hf:i+1<n
 ·have h8:=fun ty cc=>dO (P:=prog) (o:=(i+1)*2) (n:=n-(i+1)) (c:=cc) 63 170 ty _ u31 FM F (by omega) (by rw[dA];omega) (eZ _)
  have X:(splice l1 ((i+1)*2) (jK (mR #[.int .u64 0,.int .u64 0]).cells (n-(i+1))).toList).take (2*(i+1))=(l.take (2*n)).take (2*i)++vs:=by
   rw[dz _ _ _ _ (by rw[dA];omega) (by omega),h3.out]
  have U:(splice l1 ((i+1)*2) (jK (mR #[.int .u64 0,.int .u64 0]).cells (n-(i+1))).toList).length=2*c:=by rw[aG _ _ _ (by rw[dA];omega),G]
  have I:∀v∈splice l1 ((i+1)*2) (jK (mR #[.int .u64 0,.int .u64 0]).cells (n-(i+1))).toList,v.oneCell'=true:=aS h0.out (eZ _);generalize splice l1 ((i+1)*2) (jK (mR #[.int .u64 0,.int .u64 0]).cells (n-(i+1))).toList=l2 at h8 X U I;have h6:Hid _:=X;have Q6:Hid _:=I;have h5:Hid _:=U;clear X I U F h hv hl Z G
  have h7:(i:Int)+1<(n:Int):=by omega
  go_enter func224,ntmps224
  go_wp2_with (at_builtin;refine tT _ rfl _ _ _ _ rfl _ _ rfl rfl _ _ (O _) ?_)
  go_ret;exact⟨b,c,l2,rfl,ak.put h2.out l2,h5.out,by omega,hc,h6.out,Q6.out,bC (aT w b l1) (aT _ b l2),.inl rfl⟩
 ·have h7:(n:Int)<=(i:Int)+1:=by omega
  clear F h hv hl Z;have IW:Hid _:=G;clear G;go_enter func224,ntmps224
  go_wp2_with (at_builtin;refine tT _ rfl _ _ _ _ rfl _ _ rfl rfl _ _ (O _) ?_)
  go_ret;exact⟨b,c,l1,rfl,h2.out,IW.out,by omega,hc,h3.out,h0.out,aT w b l1,.inl rfl⟩
theorem kr(w:World)(F:TypeId)(a:Addr)(c:Nat):(Kt #[63] F #[.slice (some a) 0 c]).run prog w=.ok (.tuple #[]) w:=by
 simp[Kt,run_underlying u31]
theorem C8(b n c i j vb:Nat)(l vs:List Value)(w:World)(x5:i<j)(x7:j<n)(x9:n<=c)(hc:c<=9223372036854775807)(ho:n<=1000000)(_hvb:vb≠b)(h:ak w b 170 l)(hl:l.length=2*c)(h1:∀v∈l,v.oneCell'=true)(hv:ak w vb 170 vs)(hf:vs.length=2)(h3:∀v∈vs,v.oneCell'=true):
  Calls prog 224 #[.slice (some ⟨b,0,none⟩) n c,.int .i64 i,.int .i64 j,.slice (some ⟨vb,0,none⟩) 1 1] w fun e w'=>
   Out w w' (some b) e (i+1+(n-j)) ((l.take (2*n)).take (2*i)++vs++(l.take (2*n)).drop (2*j)):=by
 have xa:((i:Int)==(j:Int))=false:=by simp;omega
 have hw:((j:Int)==(n:Int))=false:=by simp;omega
 have x3:(i:Int)<=(n:Int):=by omega
 have hu:(i:Int)<=(j:Int):=by omega
 have xi:(j:Int)<=(n:Int):=by omega
 have x4:(n:Int)<=(c:Int):=by omega
 have x6:(j:Int)<=(c:Int):=by omega
 have xj:(i:Int)<=(c:Int):=by omega
 have x2:¬(c=j):=by omega
 have x1:¬(c=i):=by omega
 have xl:¬(c=i+1):=by omega
 have xe:IntKind.i64.wrap ((i:Int)+1)=(i:Int)+1:=by rw[IntKind.wrap_i64];omega
 have xf:IntKind.i64.wrap ((i:Int)+1+((n-j:Nat):Int))=(i:Int)+1+((n-j:Nat):Int):=by rw[IntKind.wrap_i64];omega
 have hx:(0:Int)<=(i:Int)+1:=by omega
 have hy:(i:Int)+1<=(i:Int)+1+((n-j:Nat):Int):=by omega
 have xd:((i:Int)+1).toNat=i+1:=by omega
 have ha:∀q F dc,(Xw #[63,63] F #[.slice (some ⟨b,i*2,none⟩) (i+1+(n-j)-i) dc,.slice (some ⟨vb,0,none⟩) 1 1]).run prog (w.drewN q)=.ok (goInt ((1:Nat):Int)) (put (w.drewN q) b (splice l (i*2) vs)):=fun q F dc=>
  fE (w:=w.drewN q) 63 63 F 170 h ⟨vb,0,none⟩ 1 1 2 1 vs u31 sS (by simp only[R3];split<;>omega) (by omega) (fun k v hk=>by rw[nI,CK];rw[<-hk];exact hv.cell k) (by omega) h3
 have h5:(splice l (i*2) vs).length=2*c:=by rw[aG _ _ _ (by omega),hl]
 have Z:∀v∈splice l (i*2) vs,v.oneCell'=true:=aS h1 h3
 have I:∀q,ak (put (w.drewN q) b (splice l (i*2) vs)).drew b 170 (splice l (i*2) vs):=fun q=>(ak.put (w:=w.drewN q) h _).drew
 have V:((splice l (i*2) vs).drop (2*j)).take (2*(n-j))=(l.take (2*n)).drop (2*j):=by
  rw[kg _ _ _ _ (by omega) (by omega),List.drop_take,show 2*n-2*j=2*(n-j) by omega]
 generalize h7:(l.take (2*n)).drop (2*j)=H at V ⊢
 have VX:H.length=(n-j)*2:=by rw[<-h7];simp;omega
 have VY:∀v∈H,v.oneCell'=true:=fun v hv=>h1 v (by rw[<-h7]at hv;exact wz (uj hv))
 clear h7
 have G:(splice (splice l (i*2) vs) ((i+1)*2) H).take (2*(i+1+(n-j)))=(l.take (2*n)).take (2*i)++vs++H:=by
  have:=CJ l vs H (i*2) 2 hf (by omega);rw[show i*2+2=(i+1)*2 by omega,VX,show(i+1)*2+(n-j)*2=2*(i+1+(n-j)) by omega,show i*2=2*i by omega]at this;rw[show i*2=2*i by omega,this,qa0,show min (2*i) (2*n)=2*i by omega]
 generalize splice l (i*2) vs=l1 at ha h5 Z I V G
 have he:∀q F dc sc,(Xw #[63,63] F #[.slice (some ⟨b,(i+1)*2,none⟩) (i+1+(n-j)-(i+1)) dc,.slice (some ⟨b,j*2,none⟩) (n-j) sc]).run prog (put (w.drewN q) b l1).drew=.ok (goInt ((n-j:Nat):Int)) (put (put (w.drewN q) b l1).drew b (splice l1 ((i+1)*2) H)):=fun q F dc sc=>
  fE 63 63 F 170 (I q) ⟨b,j*2,none⟩ (n-j) sc 2 (n-j) H u31 sS (by simp only[R3];split<;>omega) VX
   (fun k v hk=>by rw[nI,(I q).cell,Bu j 2];rw[<-V]at hk;exact uI hk) (by omega) VY
 have U:(splice l1 ((i+1)*2) H).length=2*c:=by rw[aG _ _ _ (by omega),h5]
 have h0:∀v∈splice l1 ((i+1)*2) H,v.oneCell'=true:=aS Z VY
 have O:∀q,ak (put (put (w.drewN q) b l1).drew b (splice l1 ((i+1)*2) H)) b 170 (splice l1 ((i+1)*2) H):=fun q=>(I q).put _
 generalize splice l1 ((i+1)*2) H=l2 at he U h0 O G;generalize hT:i+1+(n-j)=T at *
 have Vb:i+1<=T/\T<=n:=by omega
 generalize (l.take (2*n)).take (2*i)++vs++H=X at G ⊢;have HF:Hid _:=G;have Q6:Hid _:=h0;have hm:Hid _:=U;have h8:Hid _:=O;clear G h0 V I Z h5 VX VY h hv hl h1 h3 hf
 by_cases x8:T<n
 ·have h9:∀q F cc,(Kt #[63] F #[.slice (some ⟨b,T*2,none⟩) (n-T) cc]).run prog (put (put (w.drewN q) b l1).drew b l2)=.ok (.tuple #[]) (put (put (put (w.drewN q) b l1).drew b l2) b (splice l2 (T*2) (jK (mR #[.int .u64 0,.int .u64 0]).cells (n-T)).toList)):=fun q F cc=>
   dO (P:=prog) 63 170 F _ u31 FM (O q) (by omega) (by rw[dA];omega) (eZ _)
  have h4:(splice l2 (T*2) (jK (mR #[.int .u64 0,.int .u64 0]).cells (n-T)).toList).take (2*T)=X:=by
   rw[dz _ _ _ _ (by rw[dA];omega) (by omega),HF.out]
  have h6:(splice l2 (T*2) (jK (mR #[.int .u64 0,.int .u64 0]).cells (n-T)).toList).length=2*c:=by rw[aG _ _ _ (by rw[dA];omega),U]
  have h2:∀v∈splice l2 (T*2) (jK (mR #[.int .u64 0,.int .u64 0]).cells (n-T)).toList,v.oneCell'=true:=aS Q6.out (eZ _);generalize splice l2 (T*2) (jK (mR #[.int .u64 0,.int .u64 0]).cells (n-T)).toList=l3 at h9 h4 h6 h2;have hj:Hid _:=h4;have hg:Hid _:=h2;have hn:Hid _:=h6;clear h4 h2 h6 U O;go_enter func224,ntmps224;go_wp2
  go_quiet (fail)
  go_wp2
  go_region
  go_wp2;go_ret;exact⟨b,c,l3,oh (by omega) rfl,ak.put (h8.out nq) l3,hn.out,by omega,hc,hj.out,hg.out,bC (nC w nq _) (bC (aT _ b _) (bC (eH _ _) (bC (aT _ b _) (aT _ b _)))),.inl rfl⟩
 ·obtain rfl:T=n:=by omega
  have h9:∀q F cc,(Kt #[63] F #[.slice (some ⟨b,T*2,none⟩) 0 cc]).run prog (put (put (w.drewN q) b l1).drew b l2)=.ok (.tuple #[]) (put (put (w.drewN q) b l1).drew b l2):=fun q F cc=>kr _ F _ cc
  have hr:∀q F cc,(Kt #[63] F #[.slice (some ⟨b,0,none⟩) 0 cc]).run prog (put (put (w.drewN q) b l1).drew b l2)=.ok (.tuple #[]) (put (put (w.drewN q) b l1).drew b l2):=fun q F cc=>kr _ F _ cc
  clear U O
  by_cases x0:c=T
  all_goals
   go_enter func224,ntmps224;go_wp2
   go_quiet (fail)
   go_wp2
   go_region
   go_wp2;go_ret;exact⟨b,c,l2,oh (by omega) (by omega),h8.out nq,hm.out,by omega,hc,HF.out,Q6.out,bC (nC w nq _) (bC (aT _ b _) (bC (eH _ _) (aT _ b _))),.inl rfl⟩
theorem C9(base:Option Addr)(n c i j vb:Nat)(cs vs:List Value)(w:World)(Z:i<=j)(U:j<=n)(H:n<=c)(O:c<=9223372036854775807)(F:n<=1000000)(hold:base=none/\cs=[]/\n=0/\c=0\/∃b l,base=some ⟨b,0,none⟩/\ak w b 170 l/\l.length=2*c/\cs=l.take (2*n)/\vb≠b/\∀v∈l,v.oneCell'=true)(V:ak w vb 170 vs)(I:vs.length=2)(G:∀v∈vs,v.oneCell'=true):
  Calls prog 224 #[.slice base n c,.int .i64 i,.int .i64 j,.slice (some ⟨vb,0,none⟩) 1 1] w fun e w'=>
   Out w w' (base.map (·.block)) e (i+1+(n-j)) (cs.take (2*i)++vs++cs.drop (2*j)):=by
 by_cases h:i=j
 ·subst h;have:=A8 base n c i vb cs vs w U H O F hold V I G;rwa[show n+1=i+1+(n-i) by omega]at this
 ·rcases hold with⟨rfl,rfl,rfl,rfl⟩|⟨b,l,rfl,hB,hl,rfl,hvb,h1⟩
  ·omega
  ·by_cases X:j=n
   ·subst X;have:=CY b j c i vb l vs w (by omega) H O F hB hl h1 V I G;rw[show i+1+(j-j)=i+1 by omega,M4 (by simp;omega),List.append_nil];exact this
   ·exact C8 b n c i j vb l vs w (by omega) (by omega) H O F hvb hB hl h1 V I G
theorem Bg(b m c:Nat)(l:List Value)(w:World)(hm:1<=m)(ho:m+1<=c)(hc:c<=9223372036854775807)(h9:m<=1000000)(h:ak w b 170 l)(hl:l.length=2*c)(h1:∀v∈l,v.oneCell'=true):
  Calls prog 225 #[.slice (some ⟨b,0,none⟩) (m+1) c,.int .i64 0,.int .i64 1] w fun e w'=>
   Out w w' (some b) e m ((l.take (2*(m+1))).drop 2):=by
 have h3:((l.take (2*(m+1))).drop 2).length=2*m:=by simp;omega
 have U:∀v∈(l.take (2*(m+1))).drop 2,v.oneCell'=true:=fun v hv=>h1 v (wz (uj hv))
 have H:∀j v,((l.take (2*(m+1))).drop 2)[j]?=some v->l[2+j]?=some v:=fun j v hj=>by
  rw[Vp,Lb]at hj;split at hj
  ·exact hj
  ·cases hj
 have h8:(loadCellsFrom ⟨b,2,none⟩ 0 (m*2) #[]).run prog w.drew=.ok ((l.take (2*(m+1))).drop 2).toArray w.drew:=by
  have hf:=run_firstCells_some (P:=prog) w.drew 2 m ⟨b,2,none⟩ m (c-1) ((l.take (2*(m+1))).drop 2) (by omega) (fun j v hj=>by
   rw[nI];exact(ak.cell h (2+j)).trans (H j v hj))
  simpa[Builtin.firstCells,loadCells]using hf
 have h2:(storeCells ⟨b,0,none⟩ ((l.take (2*(m+1))).drop 2)).run prog w.drew=.ok () (put w.drew b (splice l 0 ((l.take (2*(m+1))).drop 2))):=
  bW (P:=prog) (w:=w.drew) (o:=0) h _ (by omega) U
 have V:(splice l 0 ((l.take (2*(m+1))).drop 2)).length=2*c:=by rw[aG _ _ _ (by omega),hl]
 have G:(splice l 0 ((l.take (2*(m+1))).drop 2)).take (2*m)=(l.take (2*(m+1))).drop 2:=by
  have:=dR l ((l.take (2*(m+1))).drop 2) 0 (by omega);rw[h3]at this;simpa using this
 have I:∀v∈splice l 0 ((l.take (2*(m+1))).drop 2),v.oneCell'=true:=aS h1 U;have F:ak (put w.drew b (splice l 0 ((l.take (2*(m+1))).drop 2))) b 170 (splice l 0 ((l.take (2*(m+1))).drop 2)):=ak.put (w:=w.drew) h _;generalize splice l 0 ((l.take (2*(m+1))).drop 2)=l1 at h2 V G I F;generalize (l.take (2*(m+1))).drop 2=X at G h8 h2 ⊢
 have h7:∀ty cc,(Kt #[63] ty #[.slice (some ⟨b,m*2,none⟩) 1 cc]).run prog (put w.drew b l1)=.ok (.tuple #[]) (put (put w.drew b l1) b (splice l1 (m*2) (jK (mR #[.int .u64 0,.int .u64 0]).cells 1).toList)):=fun ty cc=>
  dO (P:=prog) (o:=m*2) (n:=1) (c:=cc) 63 170 ty _ u31 FM F (by omega) (by rw[dA];omega) (eZ _)
 have h0:(splice l1 (m*2) (jK (mR #[.int .u64 0,.int .u64 0]).cells 1).toList).take (2*m)=X:=by
  rw[dz _ _ _ _ (by rw[dA];omega) (by omega),G]
 have Z:(splice l1 (m*2) (jK (mR #[.int .u64 0,.int .u64 0]).cells 1).toList).length=2*c:=by rw[aG _ _ _ (by rw[dA];omega),V]
 have O:∀v∈splice l1 (m*2) (jK (mR #[.int .u64 0,.int .u64 0]).cells 1).toList,v.oneCell'=true:=aS I (eZ _);generalize splice l1 (m*2) (jK (mR #[.int .u64 0,.int .u64 0]).cells 1).toList=l2 at h7 h0 Z O;have h6:Hid _:=h0;have Q6:Hid _:=O;have h5:Hid _:=Z;have h4:Hid (ak (put w.drew b l1) b 170 l1):=F;have HG:Hid (w.grownBy (put (put w.drew b l1) b l2) (some b)):=bC (eH w _) (bC (aT w.drew b l1) (aT _ b l2));clear G h0 O Z I V F U H h3 h1 hl h
 have hn:m<=c:=by omega
 have he:(1:Int)<=(m:Int)+1:=by omega
 have hg:(m:Int)+1<=(c:Int):=by omega
 have hk:¬(c=m):=by omega
 have ha:¬(c=1):=by omega
 have e1:m+1-m=1:=by omega
 go_enter func225,ntmps225;go_wp2
 go_region
 go_wp2;go_ret;exact⟨b,c,l2,rfl,ak.put (h4.out) l2,h5.out,by omega,hc,h6.out,Q6.out,HG.out,.inl rfl⟩
end Go.Proofs.YtphbledmopchnaaGreatDoor.St
