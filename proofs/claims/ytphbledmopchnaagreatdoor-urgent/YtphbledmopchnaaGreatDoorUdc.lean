import Derived.Test.YtphbledmopchnaaGreatDoorUcd
import Derived.Test.YtphbledmopchnaaGreatDoorUce
import Derived.Test.YtphbledmopchnaaGreatDoorUda
open Go.RowKit.Below renaming refl->fB,heap_setCell->nI
open Nat renaming le_refl->fA,lt_of_lt_of_le->sQ,zero_le->tL,le_trans->tT
set_option maxHeartbeats 4000000
set_option maxRecDepth 100000
namespace Go.Proofs.YtphbledmopchnaaGreatDoor.Sd
open Go.RowKit Go.Lib Mm St Tryz
theorem Xr(sp so:Nat)(l:aI)(lo hi:Nat)(base:Option Addr)(c:Nat)(most:Int)(fl:Nat)(rs:aP)(w:World)(K:Rg.Sorted rs)(hB:Small rs)(U:rs.length<=1000000)(H:lo<=hi)(G:hi<18446744073709551616)(hs:jN w sp so l most fl base rs.length c)(R:gN w sp base c rs)(O:rs.length<=c)(F:c<=9223372036854775807):
  Calls prog 168 #[ay sp so,.agg #[uZ lo,uZ hi]] w fun e w'=>e=.returned (.tuple #[])/\
   ∃I,Cv w' sp so l most fl (Rg.ins lo hi rs) (some I)/\Kept w w' sp (base.map (·.block))/\(some I=base.map (·.block)\/w.heap.size<=I):=by
 by_cases h:Rg.gX lo rs<Rg.end' hi rs
 ·exact H_ sp so lo hi base c most fl rs l w K hB U H G hs R O F h
 ·exact Hz sp so lo hi base c most fl rs l w K hB U H G hs R O F h
theorem wK.cells{w:World}{sp so:Nat}{l:aI}{most:Int}{fl:Nat}{rs:aP}{row:Option Nat}(h:wK w sp so l most fl rs row):
  ∃base c,w.cell? (aj sp so)=some (iZ most)/\w.cell? (aj sp (so+1))=some (uZ fl)/\w.cell? (aj sp (so+2))=some (.slice base rs.length c):=by
 obtain⟨base,c,h1,_⟩:=h;exact⟨base,c,h1.cell0,h1.cell1,h1.jW⟩
theorem wK.drewN{w:World}{sp so:Nat}{l:aI}{most:Int}{fl:Nat}{rs:aP}{row:Option Nat}(h:wK w sp so l most fl rs row)(q:Nat):wK (w.drewN q) sp so l most fl rs row:=by
 obtain⟨base,c,h1,F,G,H,I⟩:=h;exact⟨base,c,h1,F,G,H,I.of_heap (fun _ _=>rfl)⟩
theorem xV(sp so:Nat)(most:Int)(w:World)(F:w.cell? (aj sp so)=some (iZ most)):
  Calls prog 169 #[ay sp so] w fun e w'=>e=.returned (iZ (max most 1))/\w'=w:=by
 go_enter func169,ntmps169;go_wp2;go_ret;exact⟨St.iX (by omega),rfl⟩
theorem Lj(sp so:Nat)(l0:aI)(most:Int)(fl:Nat)(rs:aP)(row:Option Nat)(w:World)(h9:wK w sp so l0 most fl rs row)(X:2<=rs.length)(hn:rs.length<=1000001)(hf:(rs.getD 0 (0,0)).2+1<18446744073709551616):
  Calls prog 170 #[ay sp so] w fun e w'=>e=.returned (.tuple #[])/\∃G,Cv w' sp so l0 most ((rs.getD 0 (0,0)).2+1) rs.tail (some G)/\Kept w w' sp row/\(some G=row\/w.heap.size<=G):=by
 obtain⟨base,c,h1,h2,h3,h4,h5⟩:=h9;have ha:=h5.lH (i:=0) (by omega)
 rcases h5 with⟨_,h8,_⟩|⟨b,l,rfl,hb,hB,hl,ht,hone⟩
 ·simp[h8]at X
 obtain⟨m,hm⟩:∃m,rs.length=m+1:=⟨rs.length-1,by omega⟩;obtain⟨G,h7,_,_,he,_⟩:=ha;simp at h7;subst h7;have HT:Hid (rs.tail.length=m/\(l.take (2*(m+1))).drop 2=St.aL rs.tail):=⟨by simp;omega,by rw[<-hm,ht,St.Ep]⟩;rw[hm]at h1 h2 hn X;generalize rs.tail=rt at *;generalize (rs.getD 0 (0,0)).2=x at *;clear ht hm
 have hx:((x+1:Nat):Int)=(x:Int)+1:=by omega
 obtain⟨U,K⟩:∃U,U=w.setCell (aj sp (so+1)) (uZ ((x:Int)+1)):=⟨_,rfl⟩
 have I:jN U sp so (l0.set (so+1) (uZ ((x+1:Nat):Int))) most (x+1) (some (aj b 0)) (m+1) c:=by
  rw[K,hx];exact⟨h1.1.setCell (so+1) _,by rw[ak _ _ _ _ (by omega)];exact h1.2.1,by rw[aU _ _ _ _ h1.2.2.1];rfl,by rw[ak _ _ _ _ (by omega)];exact h1.2.2.2⟩
 have h6:aA U b 170 l:=by rw[K];exact hB.gG _ _ hb
 have HD:=St.au (Cw b m c l U (by omega) (by omega) h3 (by omega) h6 hl hone);have k2:w.cell? (aj sp (so+2))=some (aS b (m+1) c):=h1.jW;have k1:w.cell? (aj sp (so+1))=some (uZ fl):=h1.cell1;have f1:=h1.1.frozen (so+1);have j2:U.cell? (aj sp (so+2))=some (aS b (m+1) c):=I.jW
 have O:Kept w U sp row:=by
  rw[K];exact⟨rfl,rfl,rfl,by simp,fun k _ H _=>nI _ _ _ _ H⟩
 have hc:U.heap.size=w.heap.size:=by rw[K];simp
 have Z:=I.1.lt
 have jd:Hid (∀(e:Ending) (w':World),St.Out U w' (some b) e m ((l.take (2*(m+1))).drop 2)->∃G V,e=.returned (aS G m V)/\w'.cell? (aj sp (so+2))=some (aS b (m+1) c)/\w'.frozen? (aj sp (so+2))=false/\
   (∃h0,Cv (w'.setCell (aj sp (so+2)) (aS G m V)) sp so l0 most (x+1) rt (some h0)/\Kept w (w'.setCell (aj sp (so+2)) (aS G m V)) sp row/\(some h0=row\/w.heap.size<=h0))):=by
  rintro e w' ⟨G,V,l',rfl,o1,o2,o3,o4,o5,o6,o7,o8⟩
  have H:G≠sp:=by
   rcases o8 with h|h
   ·simp at h;rw[h];exact hb
   ·omega
  have F:=I.of (w':=w') (o7.block sp Z (fun e=>hb (by simpa using e.symm)));refine⟨G,V,rfl,F.jW,F.1.frozen (so+2),G,?_,?_,?_⟩
  ·refine⟨(l0.set (so+1) (uZ ((x+1:Nat):Int))).set (so+2) (aS G m V),⟨some (aj G 0),V,?_,by rw[HT.out.1];exact o3,o4,rfl,.inr ⟨G,l',rfl,H,o1.gG _ _ H,o2,by rw[HT.out.1,o5,HT.out.2],o6⟩⟩,?_⟩
   ·rw[HT.out.1];exact⟨F.1.setCell (so+2) _,by rw[ak _ _ _ _ (by omega)];exact F.2.1,by rw[ak _ _ _ _ (by omega)];exact F.2.2.1,aU _ _ _ _ F.2.2.2⟩
   ·exact(iN.set _ _ _ _ _ (by omega) (by omega)).trans (iN.set _ _ _ _ _ (by omega) (by omega))
  ·refine⟨o7.os.trans O.os,o7.tape.trans O.tape,o7.output.trans O.output,?_,?_⟩
   ·have:=o7.size;show w.heap.size<=(w'.heap.modify _ _).size;simp;omega
   ·intro k hk H hr;rw[nI _ _ _ _ H,o7.block k (by omega) (fun e=>hr (by rw[e,h4];rfl)),O.block k hk H hr]
  ·rcases o8 with h|h
   ·exact .inl (by rw[h,h4];rfl)
   ·exact .inr (by omega)
 clear I h6 O hc Z h1 hB hl hone HT hx;go_enter func170,ntmps170
 go_wp2_with fail
 rw[<-K];clear K
 go_wp2_with (go_at_call 225;refine HD.out.mono ?_;intro e w' hO;obtain⟨G,V,rfl,q1,q2,HQ⟩:=jd.out e w' hO;clear hO jd HD)
 go_end0;exact⟨rfl,HQ⟩
def WK(sp so:Nat)(l:aI)(most:Int)(row:Option Nat)(w:World)(x:Nat×aP)(w':World):Prop:=
 ∃F,Cv w' sp so l most x.1 x.2 F/\Kept w w' sp row/\(F=row\/∃b,F=some b/\w.heap.size<=b)
theorem Ll(sp so:Nat)(l:aI)(lo hi:Nat)(most:Int)(fl:Nat)(rs:aP)(row:Option Nat)(w:World)(U:wK w sp so l most fl rs row)(G:Rg.Ok 18446744073709551616 1000000 fl rs)(h6:hi<18446744073709551616):
  Calls prog 127 #[ay sp so,uZ lo,uZ hi] w fun e w'=>e=.returned (.tuple #[])/\WK sp so l most row w (Rg.add (max most 1).toNat fl rs lo hi) w':=by
 have H:=U;obtain⟨base,c,h1,h2,h3,h4,h5⟩:=U;have k1:w.cell? (aj sp (so+1))=some (uZ fl):=h1.cell1
 have Z:((max lo fl:Nat):Int)=max (lo:Int) (fl:Int):=by omega
 by_cases O:hi<max lo fl
 ·have HF:Hid (WK sp so l most row w (Rg.add (max most 1).toNat fl rs lo hi) w):=by
   unfold Hid Rg.add;rw[if_pos O];exact⟨row,⟨l,H,iN.refl _ _ _⟩,⟨rfl,rfl,rfl,fA _,fun _ _ _ _=>rfl⟩,.inl rfl⟩
  have g2:(hi:Int)<max (lo:Int) (fl:Int):=by omega
  clear h1 h2 h3 h4 h5 H Z O;go_enter func127,ntmps127
  go_wp2_with fail
  refine bodyPost_ret (results_none rfl _ _ _) rfl ?_;exact⟨rfl,HF.out⟩
 ·have h7:=G.len;have hj:=Xr sp so l (max lo fl) hi base c most fl rs w G.sorted (OY G.sorted G.hi) h7 (by omega) h6 h1 h5 h2 h3;rw[<-h4,Z]at hj
  have g2:¬((hi:Int)<max (lo:Int) (fl:Int)):=by omega
  have Uj:Hid (Rg.add (max most 1).toNat fl rs lo hi=if(max most 1).toNat<(Rg.ins (max lo fl) hi rs).length then(((Rg.ins (max lo fl) hi rs).getD 0 (0,0)).2+1,(Rg.ins (max lo fl) hi rs).tail)else(fl,Rg.ins (max lo fl) hi rs)):=by
   unfold Hid Rg.add;rw[if_neg O]
  have Xt:=St.au (Rg.kH rs (max lo fl) hi (by omega) G.sorted)
  have Lm:Hid (∀r∈Rg.ins (max lo fl) hi rs,r.2<18446744073709551616):=fun r hr=>by
   have:=Rg.uG rs (max lo fl) hi 18446744073709551615 (by omega) (fun x hx=>by have:=G.hi x hx;omega) r hr;omega
  have he:=Rg.mZ rs (max lo fl) hi;have HJ:=St.au hj;generalize Rg.ins (max lo fl) hi rs=R at *;generalize Rg.add (max most 1).toNat fl rs lo hi=A at *;clear hj Z h1 h2 h3 h4 h5 H O G h6
  by_cases hf:max most 1<(R.length:Int)
  ·have HA:Hid (A=((R.getD 0 (0,0)).2+1,R.tail)):=by unfold Hid;rw[Uj.out,if_pos (by omega)]
   have hx:(R.getD 0 (0,0)).2+1<18446744073709551616:=Rg.TQ Xt.out Lm.out (by omega)
   have HD:Hid (∀W l1 sN,wK W sp so l1 most fl R sN->Calls prog 170 #[ay sp so] W fun e w'=>e=.returned (.tuple #[])/\∃K,Cv w' sp so l1 most ((R.getD 0 (0,0)).2+1) R.tail (some K)/\Kept W w' sp sN/\(some K=sN\/W.heap.size<=K)):=
    fun W l1 sN hs=>Lj sp so l1 most fl R sN W hs (by omega) (by omega) hx
   clear Uj Xt Lm;go_enter func127,ntmps127
   go_wp2_with (go_at_call 168;refine HJ.out.mono ?_;rintro e w' ⟨rfl,K,F,hk,hr⟩)
   obtain⟨l1,F,I⟩:=F;have V:=St.au I;clear I;obtain⟨X,c',j0,j1,j2⟩:=F.cells;have HS:=St.au F;have HK:=St.au hk;have HR:=St.au hr;clear F hk hr HJ k1 g2
   go_quiet ((go_at_call 169;exact Calls.quiet_of_same (xV sp so most _ (by simpa using j0))))
   have h8:=St.au (HD.out _ _ _ (wK.drewN HS.out nq))
   go_wp2_with (go_at_call 170;refine h8.out.mono ?_;rintro e w2 ⟨rfl,b2,h0,h9,ha⟩)
   go_end0;refine⟨rfl,some b2,by rw[HA.out];obtain⟨l2,h0,hc⟩:=h0;exact⟨l2,h0,V.out.trans hc⟩,?_,?_⟩
   ·refine(Kept.drewN HK.out nq).trans h9 ?_
    rcases HR.out with h|h
    ·exact .inl h
    ·exact .inr ⟨K,rfl,h⟩
   ·have hsz:=HK.out.size
    rcases ha with h|h
    ·rw[h]
     rcases HR.out with h'|h'
     ·exact .inl h'
     ·exact .inr ⟨K,rfl,h'⟩
    ·exact .inr ⟨b2,rfl,tT hsz h⟩
  ·have HA:Hid (A=(fl,R)):=by unfold Hid;rw[Uj.out,if_neg (by omega)]
   clear Uj Xt Lm;go_enter func127,ntmps127
   go_wp2_with (go_at_call 168;refine HJ.out.mono ?_;rintro e w' ⟨rfl,K,F,hk,hr⟩)
   obtain⟨l1,F,I⟩:=F;have V:=St.au I;clear I;obtain⟨X,c',j0,j1,j2⟩:=F.cells;have HS:=St.au F;have HK:=St.au hk;have HR:=St.au hr;clear F hk hr HJ k1 g2
   go_quiet ((go_at_call 169;exact Calls.quiet_of_same (xV sp so most _ (by simpa using j0))))
   go_wp2;go_end0;refine⟨rfl,some K,by rw[HA.out];exact⟨l1,wK.drewN HS.out _,V.out⟩,Kept.drewN HK.out _,?_⟩
   rcases HR.out with h|h
   ·exact .inl h
   ·exact .inr ⟨K,rfl,h⟩
end Go.Proofs.YtphbledmopchnaaGreatDoor.Sd
namespace Go.Proofs.YtphbledmopchnaaGreatDoor.Sd
open Go.RowKit Go.Lib Mm Tryz
theorem Kp.jm{T:List Nat}{oZ aC:Own}{w w':World}(h:Kp T (loc oZ w.heap.size) aC w w'):Kp T oZ aC w w':=
 ⟨h.os,h.tape,h.output,h.size,fun b hb F=>h.blk b hb (by rw[fM _ _ _ hb];exact F),fun b hb=>by rw[h.ext b hb,fM _ _ _ hb]⟩
theorem jC.loc{oZ:Own}{t:Nat}{w:World}{S:Nat}{va:Value}{rs:aP}(h:jC oZ t w S va rs):jC (loc oZ w.heap.size) t w S va rs:=by
 obtain⟨base,c,h1,G,H,F,I⟩:=h;exact⟨base,c,h1,G,H,F,fun b e=>by rw[fM _ _ _ (St.kK F b e).2,I b e]⟩
theorem GT.loc{oZ:Own}{t:Nat}{e:TypeId}{k:Nat}{w:World}{v:Value}{n:Nat}{l:aI}(h:GT oZ t e k w v n l):GT (loc oZ w.heap.size) t e k w v n l:=by
 rcases h with h|⟨g,cap,cs,h1,G,F,H⟩
 ·exact .inl h
 ·exact .inr ⟨g,cap,cs,h1,by rw[fM _ _ _ F.lt,G],F,H⟩
theorem O1{oZ:Own}{t:Nat}{w:World}{S:Nat}{va:Value}{rs:aP}{l:aI}{so:Nat}{most:Int}{fl:Nat}(hB:aA w S TS l)(c0:l[so]?=some (iZ most))(c1:l[so+1]?=some (uZ fl))(c2:l[so+2]?=some va)(K:jC oZ t w S va rs):
  ∃row,wK w S so l most fl rs row/\∀b,row=some b->oZ b=t:=by
 obtain⟨base,c,rfl,F,G,H,I⟩:=K;exact⟨base.map (·.block),⟨base,c,⟨hB,c0,c1,c2⟩,F,G,rfl,H⟩,I⟩
def Lr(s t:Nat)(oZ:Own)(S so:Nat)(l:aI)(most:Int)(w:World)(x:Nat×aP)(w':World):Prop:=
 ∃aC l' F,Kp [s,t] oZ aC w w'/\aA w' S TS l'/\iN l l' so 3/\l'[so]?=some (iZ most)/\l'[so+1]?=some (uZ x.1)/\l'[so+2]?=some F/\jC aC t w' S F x.2
theorem J2(s t:Nat)(oZ:Own)(S so lo hi:Nat)(l:aI)(most:Int)(fl:Nat)(rs:aP)(va:Value)(w:World)(hB:aA w S TS l)(hS:oZ S=s)(c0:l[so]?=some (iZ most))(c1:l[so+1]?=some (uZ fl))(c2:l[so+2]?=some va)(Z:jC oZ t w S va rs)(K:St.Rg.Ok 18446744073709551616 1000000 fl rs)(I:hi<18446744073709551616):
  Calls prog 127 #[ay S so,uZ lo,uZ hi] w fun e w'=>e=.returned (.tuple #[])/\Lr s t oZ S so l most w (St.Rg.add (max most 1).toNat fl rs lo hi) w':=by
 obtain⟨row,X,F⟩:=O1 hB c0 c1 c2 Z;refine(Ll S so l lo hi most fl rs row w X K I).mono ?_;rintro e w' ⟨rfl,sN,⟨l',H,hW⟩,G,hr⟩;obtain⟨base,c,⟨V,b2,b3,b4⟩,k1,k2,k3,U⟩:=H;refine⟨rfl,fun b=>if w.heap.size<=b/\b<w'.heap.size then t else oZ b,l',_,⟨G.os,G.tape,G.output,G.size,fun b hb O=>G.block b hb (fun e=>O (by rw[e,hS];simp)) (fun e=>O (by rw[F b e.symm];simp)),fun b hb=>if_neg (by omega)⟩,V,hW,b2,b3,b4,base,c,rfl,k1,k2,U,fun b hb=>?_⟩;have h2:=(St.kK U b hb).2;rw[<-k3]at hb;simp only[]
 rcases hr with e|⟨b',e,h0⟩
 ·split
  ·rfl
  ·exact F b (by rw[<-e,hb])
 ·rw[e]at hb;simp at hb;rw[if_pos (by omega)]
theorem Ul(t:Nat)(oZ:Own)(S so v:Nat)(l:aI)(most:Int)(fl:Nat)(rs:aP)(va:Value)(w:World)(hB:aA w S TS l)(c0:l[so]?=some (iZ most))(c1:l[so+1]?=some (uZ fl))(c2:l[so+2]?=some va)(G:jC oZ t w S va rs)(H:St.Rg.Sorted rs)(I:rs.length<=1000000):
  Calls prog 128 #[ay S so,uZ v] w fun e w'=>e=.returned (.bool (NS.has ⟨fl,rs⟩ v))/\aD w w':=by
 obtain⟨base,c,rfl,K,O,F,U⟩:=G;exact OW S so v base c most fl rs l w H I ⟨hB,c0,c1,c2⟩ F
structure uN (x:NS):Prop where
 fl:x.fl=0
 so:St.Rg.Sorted x.rs
 hi:∀r∈x.rs,r.2<=2048
theorem qZ:∀(rs:aP) (a B:Nat),St.Rg.Sorted rs->(∀r∈rs,a<=r.1)->(∀r∈rs,r.2<=B)->rs.length<=B+1-a
 |[],_,_,_,_,_=>by simp
 |r::t,a,B,h,ha,hb=>by
  have h1:=h.1;have G:=ha r (by simp);have H:=hb r (by simp);have:=qZ t (a+1) B h.2.2 (fun x F=>by have:=h.2.1 x F;omega) (fun x F=>hb x (by simp[F]));simp only[List.length_cons];omega
theorem uN.len{x:NS}(h:uN x):x.rs.length<=2049:=by
 have:=qZ x.rs 0 2048 h.so (fun _ _=>tL _) h.hi;omega
theorem uN.ok{x:NS}(h:uN x):St.Rg.Ok 18446744073709551616 1000000 x.fl x.rs:=
 ⟨h.so,fun r F=>by have:=h.hi r F;omega,by have:=h.len;omega,by rw[h.fl];omega⟩
theorem uN.add{x:NS}(h:uN x)(lo hi:Nat)(G:lo<=hi)(F:hi<=2048):uN (x.add 2049 lo hi)/\x.add 2049 lo hi=⟨0,St.Rg.ins lo hi x.rs⟩:=by
 have h1:=St.Rg.kH x.rs lo hi G h.so;have H:∀r∈St.Rg.ins lo hi x.rs,r.2<=2048:=St.Rg.uG x.rs lo hi 2048 F h.hi;have I:=qZ _ 0 2048 h1 (fun _ _=>tL _) H
 have e:x.add 2049 lo hi=⟨0,St.Rg.ins lo hi x.rs⟩:=by
  unfold NS.add St.Rg.add;rw[h.fl,if_neg (by omega),show max lo 0=lo by omega,if_neg (by omega)]
 rw[e];exact⟨⟨rfl,h1,H⟩,rfl⟩
theorem qF(s t:Nat)(oZ:Own)(S so:Nat)(f:Fr)(rv:Value)(l:aI)(x:NS)(va:Value)(w:World)(hB:aA w S TS l)(hS:oZ S=s)(c0:l[so]?=some (iZ 2049))(c1:l[so+1]?=some (uZ x.fl))(c2:l[so+2]?=some va)(hR:jC oZ t w S va x.rs)(h3:uN x)(ho:f.offset<=aZ)(hd:f.data.size<=1000000000)(h4:f.fin=true\/0<aJ f):
  Calls prog 345 #[ay S so,bR f rv] w fun e w'=>e=.returned (.tuple #[])/\Lr s t oZ S so l 2049 w ((sj x f).fl,(sj x f).rs) w':=by
 obtain⟨W,K⟩:∃W,W=w.alloc (.cells (bZ f rv).toArray 65):=⟨_,rfl⟩
 have hb:aA W w.heap.size 65 (bZ f rv):=by rw[K];exact aA.new w 65 _
 have V:aD w W:=by rw[K];exact(fB _ w).alloc (fA _) _
 have hsz:W.heap.size=w.heap.size+1:=by rw[K];simp
 have HE:=au (iP f rv W ho hd);obtain⟨x0,x1,x2,x3,x4,x5,x6,x7,x8,x9,xf⟩:=aH hb
 have G:Hid (∀(y:World) (hi:Nat),aD W y->hi=(if f.fin then aJ f else aJ f-1)->Calls prog 127 #[ay S so,uZ f.offset,uZ hi] y fun e w'=>e=.returned (.tuple #[])/\Lr s t oZ S so l 2049 w ((sj x f).fl,(sj x f).rs) w'):=fun y hi hy Z=>by
  have I:aD w y:=V.trans (hy.mono (by omega))
  have X:aJ f<18446744073709551616:=by unfold aJ;unfold aZ at ho;omega
  refine(J2 s t oZ S so f.offset hi l 2049 x.fl x.rs va y (hB.of_heap (I.block _ hB.lt)) hS c0 c1 c2 (hR.kp (Kp.below (T:=[]) I) (by simp)) h3.ok (by rw[Z];split<;>omega)).mono ?_;rintro e w' ⟨rfl,aC,l',h5,h1,h2⟩;refine⟨rfl,aC,l',h5,⟨h1.os.trans I.os,h1.tape.trans I.tape,h1.output.trans I.output,tT I.size h1.size,fun b F hn=>(h1.blk b (sQ F I.size) hn).trans (I.block b F),fun b F=>h1.ext b (sQ F I.size)⟩,?_⟩;rw[Z]at h2;exact h2
 have X:aJ f<18446744073709551616:=by unfold aJ;unfold aZ at ho;omega
 clear hB hR c0 c1 c2 h3 ho hd hS;generalize aJ f=E at *;have HB:=au hb;clear hb V;unfold bR;unfold bZ at K
 rcases(Bool.eq_false_or_eq_true f.fin).symm with hf|hf
 ·have h0:0<E:=by
   rcases h4 with h|h
   ·rw[hf]at h;cases h
   ·exact h
  rw[hf]at G
  have O:((E-1:Nat):Int)=(E:Int)-1:=by omega
  have U:=au hf
  have h6:0<=(E:Int)-1:=by omega
  have h7:(E:Int)-1<18446744073709551616:=by omega
  clear hf;go_enter func345,ntmps345
  go_wp2_with fail
  rw[<-K];refine HE.out.mono ?_;rintro e y ⟨rfl,H⟩;have F:=HB.out.of_heap (H.block _ (by omega));obtain⟨y0,y1,y2,y3,y4,y5,y6,y7,y8,y9,yf⟩:=aH F;rw[U.out]at y5;have HA:=au (G.out y (E-1) H rfl);rw[O]at HA;clear H F x0 x1 x2 x3 x4 x5 x6 x7 x8 x9 xf G O K HE
  go_wp2_with fail
  refine HA.out.mono ?_;rintro e w' ⟨rfl,hP⟩;go_wp2;go_end0;exact⟨rfl,hP⟩
 ·rw[hf]at G;have U:=au hf;clear hf;go_enter func345,ntmps345
  go_wp2_with fail
  rw[<-K];refine HE.out.mono ?_;rintro e y ⟨rfl,H⟩;have F:=HB.out.of_heap (H.block _ (by omega));obtain⟨y0,y1,y2,y3,y4,y5,y6,y7,y8,y9,yf⟩:=aH F;rw[U.out]at y5;have HA:=au (G.out y E H rfl);clear H F x0 x1 x2 x3 x4 x5 x6 x7 x8 x9 xf G K HE
  go_wp2_with fail
  refine HA.out.mono ?_;rintro e w' ⟨rfl,hP⟩;go_wp2;go_end0;exact⟨rfl,hP⟩
def iF(s t:Nat)(oZ:Own)(S o:Nat)(l:aI)(w:World)(m':Ot)(w':World):Prop:=
 ∃aC l',Kp [s,t,t+1,t+2] oZ aC w w'/\aA w' S TS l'/\iN l l' o 14/\xW aC t w' S l' o m'
theorem iF.refl{s t:Nat}{oZ:Own}{S o:Nat}{l:aI}{w w':World}{m:Ot}(hB:aA w S TS l)(F:xW oZ t w S l o m)(hb:aD w w'):iF s t oZ S o l w m w':=
 ⟨oZ,l,Kp.below hb,hB.of_heap (hb.block _ hB.lt),iN.refl _ _ _,F.kp (Kp.below (T:=[]) hb) (by simp) (by simp) (by simp) (iN.refl l (o+14) 0) (by omega)⟩
theorem iF.after{s t:Nat}{oZ:Own}{S o:Nat}{l:aI}{w W w':World}{m':Ot}(hb:aD w W)(h:iF s t oZ S o l W m' w'):iF s t oZ S o l w m' w':=by
 obtain⟨F,l1,h1,G⟩:=h;exact⟨F,l1,(Kp.below hb).trans h1,G⟩
theorem O3{s t:Nat}{oZ:Own}{S o:Nat}{l:aI}{w w':World}{m:Ot}{x:NS}(X:s<t)(V:xW oZ t w S l o m)(h:Lr s (t+1) oZ S (o+8) l 2049 w (x.fl,x.rs) w'):iF s t oZ S o l w {m with away:=x} w':=by
 obtain⟨aC,l',G,h1,H,F,I,K,O,U⟩:=h;obtain⟨vb,va,vc,k1,k2,k3,Z⟩:=V;refine⟨aC,l',h1.mono (by simp),H,F.mono (by omega) (by omega),vb,G,vc,⟨?_,?_,k1.nt.win F (by omega),?_,?_,I,K,O,?_,?_,?_⟩,k2.kp h1 (by simp;omega),U,Z.kp h1 (by simp;omega)⟩
 ·rw[F.2 _ (by omega)];exact k1.c0
 ·rw[F.2 _ (by omega)];exact k1.c1
 ·rw[F.2 _ (by omega)];exact k1.c6
 ·rw[F.2 _ (by omega)];exact k1.c7
 ·rw[F.2 _ (by omega)];exact k1.c11
 ·rw[F.2 _ (by omega)];exact k1.c12
 ·rw[F.2 _ (by omega)];exact k1.c13
theorem O4{s t:Nat}{oZ:Own}{S o:Nat}{l:aI}{w w':World}{m:Ot}{x:NS}(X:s<t)(V:xW oZ t w S l o m)(h:Lr s (t+2) oZ S (o+11) l 2049 w (x.fl,x.rs) w'):iF s t oZ S o l w {m with came:=x} w':=by
 obtain⟨aC,l',G,h1,H,F,I,K,O,U⟩:=h;obtain⟨vb,va,vc,k1,k2,Z,k4⟩:=V;refine⟨aC,l',h1.mono (by simp),H,F.mono (by omega) (by omega),vb,va,G,⟨?_,?_,k1.nt.win F (by omega),?_,?_,?_,?_,?_,I,K,O⟩,k2.kp h1 (by simp;omega),Z.kp h1 (by simp;omega),U⟩
 ·rw[F.2 _ (by omega)];exact k1.c0
 ·rw[F.2 _ (by omega)];exact k1.c1
 ·rw[F.2 _ (by omega)];exact k1.c6
 ·rw[F.2 _ (by omega)];exact k1.c7
 ·rw[F.2 _ (by omega)];exact k1.c8
 ·rw[F.2 _ (by omega)];exact k1.c9
 ·rw[F.2 _ (by omega)];exact k1.c10
structure ru (f:Fr):Prop where
 o:f.offset<=2048
 e:aJ f<=2048
 ne:f.fin=true\/0<aJ f
theorem ru.d{f:Fr}(h:ru f):f.data.size<=1000000000:=by have:=h.e;unfold aJ at this;omega
theorem ru.om{f:Fr}(h:ru f):f.offset<=aZ:=by have:=h.o;unfold aZ;omega
theorem wY(s t:Nat)(oZ:Own)(S o:Nat)(m:Ot)(f:Fr)(rv:Value)(l:aI)(w:World)(hB:aA w S TS l)(Z:oZ S=s)(U:s<t)(X:xW oZ t w S l o m)(I:uN m.away)(K:ru f):
  Calls prog 319 #[ay S o,bR f rv] w fun e w'=>e=.returned (.tuple #[])/\iF s t oZ S o l w (m.aw f) w':=by
 obtain⟨W,H⟩:∃W,W=w.alloc (.cells (bZ f rv).toArray 65):=⟨_,rfl⟩
 have hb:aA W w.heap.size 65 (bZ f rv):=by rw[H];exact aA.new w 65 _
 have F:aD w W:=by rw[H];exact(fB _ w).alloc (fA _) _
 have V:=X.kp (Kp.below (T:=[]) F) (by simp) (by simp) (by simp) (iN.refl l (o+14) 0) (by omega);have G:=hB.of_heap (F.block _ hB.lt)
 have HA:Hid (∀q,Calls prog 345 #[(ay S (o+8)),bR f rv] (W.drewN q) fun e w'=>e=.returned (.tuple #[])/\iF s t oZ S o l w (m.aw f) w'):=fun q=>by
  have O:=V.kp (Kp.below (w':=W.drewN q) (T:=[]) ⟨rfl,rfl,rfl,fA _,fun _ _=>rfl⟩) (by simp) (by simp) (by simp) (iN.refl l (o+14) 0) (by omega);obtain⟨vb,va,vc,k1,k2,k3,k4⟩:=O;refine(qF s (t+1) oZ S (o+8) f rv l m.away va (W.drewN q) G Z k1.c8 k1.c9 k1.c10 k3 I K.om K.d K.ne).mono ?_;rintro e w' ⟨rfl,h⟩;exact⟨rfl,iF.after (W:=W.drewN q) ⟨F.os,F.tape,F.output,F.size,F.block⟩ (O3 U ⟨vb,va,vc,k1,k2,k3,k4⟩ h)⟩
 obtain⟨x0,x1,x2,x3,x4,x5,x6,x7,x8,x9,xf⟩:=aH hb;clear hb F V G X hB Z I K;unfold bR at *;unfold bZ at H;go_enter func319,ntmps319
 go_wp2_with fail
 rw[<-H];clear H
 go_region_with (go_at_call 345;refine(HA.out _).mono ?_;rintro e w' ⟨rfl,hP⟩)
 all_goals go_wp2
 all_goals go_end0
 all_goals exact⟨rfl,hP⟩
theorem Um(s t:Nat)(oZ:Own)(S o:Nat)(m:Ot)(f:Fr)(rv:Value)(l:aI)(w:World)(hB:aA w S TS l)(hS:oZ S=s)(Z:s<t)(h4:0<s)(hO:xW oZ t w S l o m)(X:uN m.away)(h3:uN m.came)(V:ru f):
  Calls prog 391 #[ay S o,bR f rv] w fun e w'=>e=.returned (.tuple #[])/\iF s t oZ S o l w (m.cm f) w':=by
 obtain⟨W,O⟩:∃W,W=w.alloc (.cells (bZ f rv).toArray 65):=⟨_,rfl⟩
 have hb:aA W w.heap.size 65 (bZ f rv):=by rw[O];exact aA.new w 65 _
 have F:aD w W:=by rw[O];exact(fB _ w).alloc (fA _) _
 obtain⟨ow,G⟩:∃ow,ow=loc oZ w.heap.size:=⟨_,rfl⟩
 have H:ow S=s:=by rw[G,fM _ _ _ hB.lt,hS]
 have wJ:xW ow t w S l o m:=by
  obtain⟨vb,va,vc,k1,k2,k3,k4⟩:=hO;rw[G];exact⟨vb,va,vc,k1,k2.loc,k3.loc,k4.loc⟩
 have D6:=wJ.kp (Kp.below (T:=[]) F) (by simp) (by simp) (by simp) (iN.refl l (o+14) 0) (by omega);have K:=hB.of_heap (F.block _ hB.lt)
 have HA:Hid (∀q,Calls prog 345 #[(ay S (o+11)),bR f rv] (W.drewN q) fun e w'=>e=.returned (.tuple #[])/\aA w' w.heap.size 65 (bZ f rv)/\Calls prog 319 #[ay S o,bR f rv] w' fun e I=>e=.returned (.tuple #[])/\iF s t oZ S o l w (m.cm f) I):=fun q=>by
  have h0:=D6.kp (Kp.below (w':=W.drewN q) (T:=[]) ⟨rfl,rfl,rfl,fA _,fun _ _=>rfl⟩) (by simp) (by simp) (by simp) (iN.refl l (o+14) 0) (by omega);obtain⟨vb,va,vc,k1,k2,k3,k4⟩:=h0;refine(qF s (t+2) ow S (o+11) f rv l m.came vc (W.drewN q) K H k1.c11 k1.c12 k1.c13 k4 h3 V.om V.d V.ne).mono ?_;rintro e w' ⟨rfl,h⟩;have hq:=iF.after (W:=W.drewN q) ⟨F.os,F.tape,F.output,F.size,F.block⟩ (O4 Z ⟨vb,va,vc,k1,k2,k3,k4⟩ h);obtain⟨bD,l1,h5,h1,h2,_⟩:=h;refine⟨rfl,aO hb ⟨h1.os,h1.tape,h1.output,h1.size,h1.blk,h1.ext⟩ (by rw[G,fD _ _ _ (fA _)];simp;omega),?_⟩;obtain⟨dx,l2,g1,g2,g3,g4⟩:=hq;refine(wY s t dx S o _ f rv l2 w' g2 (by rw[g1.ext _ hB.lt,H]) Z g4 X V).mono ?_;rintro e I ⟨rfl,hP⟩;obtain⟨nP,l3,p1,p2,p3,p4⟩:=hP;rw[G]at g1;exact⟨rfl,nP,l3,g1.jm.trans p1,p2,g3.trans p3,p4⟩
 obtain⟨x0,x1,x2,x3,x4,x5,x6,x7,x8,x9,xf⟩:=aH hb;clear hb F D6 K hO hB hS X V wJ G H;unfold bR at *;unfold bZ at O HA;go_enter func391,ntmps391
 go_wp2_with fail
 rw[<-O];clear O
 go_region_with (go_at_call 345;refine(HA.out _).mono ?_;rintro e w' ⟨rfl,U,hC⟩;obtain⟨y0,y1,y2,y3,y4,y5,y6,y7,y8,y9,yf⟩:=aH U;have HC:=au hC;clear hC U x0 x1 x2 x3 x4 x5 x6 x7 x8 x9 xf HA)
 all_goals go_wp2_with fail
 all_goals(refine HC.out.mono ?_;rintro e I ⟨rfl,hP⟩)
 all_goals go_wp2
 all_goals go_end0
 all_goals exact⟨rfl,hP⟩
theorem xY{a b c d:Int}(h:a=c)(F:b=d):Ending.returned (.tuple #[uZ a,uZ b])=.returned (.tuple #[uZ c,uZ d]):=by rw[h,F]
theorem Ls(lo:Nat)(rs:aP)(e i:Nat)(hi:i<rs.length):
  jo lo (rs.drop i) e=if lo<(rs.getD i (0,0)).1 then(lo,min (rs.getD i (0,0)).1 e)else if e<=(rs.getD i (0,0)).2 then(e,e)else jo ((rs.getD i (0,0)).2+1) (rs.drop (i+1)) e:=by
 rw[List.drop_eq_getElem_cons hi]
 have:rs.getD i (0,0)=rs[i]:=by simp[hi]
 rw[this];rfl
theorem O5(t:Nat)(oZ:Own)(S so G:Nat)(l:aI)(fl:Nat)(rs:aP)(va:Value)(w:World)(hB:aA w S TS l)(c1:l[so+1]?=some (uZ fl))(c2:l[so+2]?=some va)(hR:jC oZ t w S va rs)(_hn:rs.length<=1000000)(hi:∀r∈rs,r.1<18446744073709551615/\r.2<18446744073709551615):
  Calls prog 344 #[ay S so,uZ G] w fun e w'=>e=.returned (.tuple #[(uZ ((NS.hole ⟨fl,rs⟩ G).1:Int)),(uZ ((NS.hole ⟨fl,rs⟩ G).2:Int))])/\aD w w':=by
 obtain⟨base,c,rfl,h2,h3,h4,h5⟩:=hR
 have k1:w.cell? (aj S (so+1))=some (uZ fl):=by rw[hB.cell];exact c1
 have k2:w.cell? (aj S (so+2))=some (.slice base rs.length c):=by rw[hB.cell];exact c2
 obtain⟨X,hX⟩:∃X,X=NS.hole ⟨fl,rs⟩ G:=⟨_,rfl⟩;rw[<-hX]
 have HX:Hid (jo fl (rs.drop 0) G=X):=by unfold Hid;rw[hX];rfl
 have HR:=au h4;have HI:=au hi;have HH:=au (fun lo i=>Ls lo rs G i);clear h4 hi hB c1 c2 h5 hX;go_enter func344,ntmps344
 go_wp2_with fail
 go_loopw [4,17] (fun s4 GY wr=>∃(lo i:Nat),i<=rs.length/\s4=(uZ lo)/\GY=(iZ i)/\Hid (jo lo (rs.drop i) G=X)/\Hid (aD w wr)) (fun _ GY _=>rs.length-(intOf GY).toNat)
 case atStart=>exact⟨fl,0,tL _,rfl,rfl,HX,fB _ w⟩
 case round=>
  clear HX k1 k2;obtain⟨lo,i,h7,rfl,rfl,V,I⟩:=hrel
  by_cases K:i<rs.length
  ·have h0:(i:Int)<(rs.length:Int):=by omega
   obtain⟨b,rfl,h9,h6,j2,j1⟩:=(HR.out.of_heap (w':=wr) (fun b hb=>I.out.block b (by
    have:=(St.kK HR.out b (by rw[hb];rfl)).2
    exact this))).lH K
   have F:=HH.out lo i K;rw[V.out]at F
   have hm:rs.getD i (0,0)∈rs:=by
    rw[List.getD_eq_getElem?_getD,List.getElem?_eq_getElem K];exact List.getElem_mem _
   obtain⟨ha,hc⟩:=HI.out _ hm;generalize (rs.getD i (0,0)).1=r1 at *;generalize (rs.getD i (0,0)).2=Z at *;have O:=au F;clear F V hm
   by_cases h1:lo<r1
   ·obtain⟨mn,h8,U⟩:=min2 r1 G
    have H:Hid (X=(lo,mn)):=by unfold Hid;rw[O.out,if_pos h1,U]
    clear O U
    go_wp2_with fail
    go_region
    all_goals go_wp2
    all_goals go_ret2
    all_goals exact⟨xY (by rw[H.out]) (by rw[H.out]),(I.out.alloc I.out.size _).drew⟩
   ·by_cases h2:G<=Z
    ·have H:Hid (X=(G,G)):=by unfold Hid;rw[O.out,if_neg h1,if_pos h2]
     clear O;go_wp2;go_ret2;exact⟨xY (by rw[H.out]) (by rw[H.out]),I.out.alloc I.out.size _⟩
    ·have H:Hid (jo (Z+1) (rs.drop (i+1)) G=X):=by unfold Hid;rw[O.out,if_neg h1,if_neg h2]
     clear O
     have he:Z+1<18446744073709551616:=by omega
     go_wp2_with fail
     go_roundw
     case rel=>exact⟨Z+1,i+1,by omega,by go_num,by go_num,H,I.out.alloc I.out.size _⟩
     case measure=>simp[intOf];omega
  ·obtain rfl:i=rs.length:=by omega
   have H:Hid (X=(lo,G)):=by unfold Hid;rw[<-V.out,List.drop_length];rfl
   clear V;go_wp2;go_ret2;exact⟨xY (by rw[H.out]) (by rw[H.out]),I.out⟩
theorem xW.open{oZ:Own}{t:Nat}{w:World}{S:Nat}{l:aI}{o:Nat}{m:Ot}(h:xW oZ t w S l o m)(hB:aA w S TS l):
  ∃a c va vc,Ia l o m (.slice a m.bytes.length c) va vc/\m.bytes.length<=c/\GT oZ t 5 1 w (.slice a m.bytes.length c) m.bytes.length (aQ m.bytes)/\jC oZ (t+1) w S va m.away.rs/\jC oZ (t+2) w S vc m.came.rs/\
   w.cell? (aj S o)=some (.slice a m.bytes.length c)/\w.cell? (aj S (o+1))=some (.bool m.fin)/\w.cell? (aj S (o+2))=some (.bool m.nt.given)/\w.cell? (aj S (o+6))=some (uZ m.limit)/\w.cell? (aj S (o+7))=some (uZ m.sent):=by
 obtain⟨vb,va,vc,k1,k2,G,H⟩:=h;obtain⟨a,c,rfl,F,_⟩:=k2.shape;exact⟨a,c,va,vc,k1,F,k2,G,H,by rw[hB.cell];exact k1.c0,by rw[hB.cell];exact k1.c1,by rw[hB.cell];exact k1.nt.c0,by rw[hB.cell];exact k1.c6,by rw[hB.cell];exact k1.c7⟩
theorem xZ(t:Nat)(oZ:Own)(S o:Nat)(m:Ot)(aB:Nat)(l:aI)(w:World)(hB:aA w S TS l)(hO:xW oZ t w S l o m)(hl:m.bytes.length<=2048)(hs:m.sent+aB<18446744073709551616)(G:uN m.away):
  Calls prog 314 #[ay S o,uZ aB] w fun e w'=>e=.returned (.tuple #[(uZ ((m.waiting aB).1:Int)),(uZ ((m.waiting aB).2:Int))])/\aD w w':=by
 obtain⟨a,c,va,vc,k1,hc,k2,k3,k4,O,Z,d2,d6,d7⟩:=hO.open hB;have K:=au (OZ S o m.bytes.length c m.limit m.sent aB a w hl hs O d6 d7);obtain⟨E,U⟩:∃E,E=min (min m.bytes.length m.limit) (m.sent+aB):=⟨_,rfl⟩;have uO:=au (fun q=>uM S o m.bytes.length c E a m.fin m.nt.given (w.drewN q) hl O Z d2);have V:=au (fun q e0=>O5 (t+1) oZ S (o+8) e0 l m.away.fl m.away.rs va (w.drewN q) hB k1.c9 k1.c10 (k3.kp (Kp.below (w':=w.drewN q) (T:=[]) ⟨rfl,rfl,rfl,fA _,fun _ _=>rfl⟩) (by simp)) (by have:=G.len;omega) (fun r hr=>by have:=G.hi r hr;have:=G.so.le r hr;omega))
 have I:Hid (m.waiting aB=m.away.hole (if(m.fin&& !m.nt.given&&decide (E=m.bytes.length))then E+1 else E)):=by unfold Hid;rw[U];rfl
 have h0:E<=2048:=by omega
 rw[<-U]at K;generalize m.waiting aB=X at *;generalize (m.fin&& !m.nt.given&&decide (E=m.bytes.length))=B at *;clear hO hB k1 k2 k3 k4 O Z d2 d6 d7 G hs U
 cases B with
 |false=>
  go_enter func314,ntmps314
  go_wp2_with fail
  refine K.out.mono ?_;rintro e w' ⟨rfl,q,rfl⟩
  go_wp2_with fail
  refine(uO.out q).mono ?_;rintro e w' ⟨rfl,rfl⟩
  go_wp2_with fail
  refine(V.out q E).mono ?_;rintro e w' ⟨rfl,hb⟩;have F:=au hb;clear hb;go_wp2;go_ret2;exact⟨xY (by rw[I.out];rfl) (by rw[I.out];rfl),F.out.os,F.out.tape,F.out.output,F.out.size,F.out.block⟩
 |true=>
  go_enter func314,ntmps314
  go_wp2_with fail
  refine K.out.mono ?_;rintro e w' ⟨rfl,q,rfl⟩
  go_wp2_with fail
  refine(uO.out q).mono ?_;rintro e w' ⟨rfl,rfl⟩
  go_wp2_with fail
  have H:=au (V.out q (E+1));rw[show((E+1:Nat):Int)=(E:Int)+1 by omega]at H;refine H.out.mono ?_;rintro e w' ⟨rfl,hb⟩;have F:=au hb;clear hb;go_wp2;go_ret2;exact⟨xY (by rw[I.out];rfl) (by rw[I.out];rfl),F.out.os,F.out.tape,F.out.output,F.out.size,F.out.block⟩
theorem O6(t:Nat)(oZ:Own)(S o:Nat)(m:Ot)(aB:Nat)(l:aI)(w:World)(hB:aA w S TS l)(G:xW oZ t w S l o m)(hl:m.bytes.length<=2048)(hs:m.sent+aB<18446744073709551616)(F:uN m.away):
  Calls prog 264 #[ay S o,uZ aB] w fun e w'=>e=.returned (.bool (m.waits aB))/\aD w w':=by
 have I:=au (xZ t oZ S o m aB l w hB G hl hs F);have K:Hid (m.waits aB=decide ((m.waiting aB).1<(m.waiting aB).2)):=rfl;generalize m.waits aB=B at *;generalize (m.waiting aB).1=lo at *;generalize (m.waiting aB).2=hi at *;clear hB G F;go_enter func264,ntmps264
 go_wp2_with fail
 refine I.out.mono ?_;rintro e w' ⟨rfl,hb⟩;have H:=au hb;clear hb;go_wp2;go_ret;exact⟨aV (by rw[K.out,decide_eq_decide]<;>omega),H.out⟩
theorem wZ{s t:Nat}{oZ:Own}{S o:Nat}{l:aI}{w:World}{m m':Ot}(hB:aA w S TS l)(H:oZ S=s)(X:s<t)(U:xW oZ t w S l o m)(j:Nat)(v:Value)(V:o<=j)(F:j<o+14)(h:∀vb va vc,Ia l o m vb va vc->Ia (l.set j v) o m' vb va vc)(I:m'.bytes=m.bytes)(K:m'.away=m.away)(O:m'.came=m.came):iF s t oZ S o l w m' (w.setCell (aj S j) v):=by
 have h1:=dL.one hB j v o 14 V F;obtain⟨vb,va,vc,k1,k2,Z,k4⟩:=U;have G:=h1.kp H (T:=[s]) (by simp);refine⟨oZ,_,h1.kp H (by simp),h1.blk,h1.win,vb,va,vc,h _ _ _ k1,?_,?_,?_⟩
 ·rw[I];exact k2.kp G (by simp;omega)
 ·rw[K];exact Z.kp G (by simp;omega)
 ·rw[O];exact k4.kp G (by simp;omega)
theorem zY.set{l:aI}{o j:Nat}{v:Value}{n:Nt}(h:zY l o n)(F:j<o\/o+4<=j):zY (l.set j v) o n:=
 ⟨(ak _ _ _ _ (by omega)).trans h.c0,(ak _ _ _ _ (by omega)).trans h.c1,(ak _ _ _ _ (by omega)).trans h.c2,(ak _ _ _ _ (by omega)).trans h.c3⟩
theorem Un{l:aI}{o:Nat}{m:Ot}{vb va vc:Value}(h:Ia l o m vb va vc)(b:Bool):Ia (l.set (o+1) (.bool b)) o {m with fin:=b} vb va vc:=
 ⟨(ak _ _ _ _ (by omega)).trans h.c0,aU _ _ _ _ h.c1,h.nt.set (by omega),(ak _ _ _ _ (by omega)).trans h.c6,(ak _ _ _ _ (by omega)).trans h.c7,(ak _ _ _ _ (by omega)).trans h.c8,(ak _ _ _ _ (by omega)).trans h.c9,(ak _ _ _ _ (by omega)).trans h.c10,(ak _ _ _ _ (by omega)).trans h.c11,(ak _ _ _ _ (by omega)).trans h.c12,(ak _ _ _ _ (by omega)).trans h.c13⟩
theorem Lx{l:aI}{o:Nat}{m:Ot}{vb va vc:Value}(h:Ia l o m vb va vc)(x:Nat):Ia (l.set (o+6) (uZ x)) o {m with limit:=x} vb va vc:=
 ⟨(ak _ _ _ _ (by omega)).trans h.c0,(ak _ _ _ _ (by omega)).trans h.c1,h.nt.set (by omega),aU _ _ _ _ h.c6,(ak _ _ _ _ (by omega)).trans h.c7,(ak _ _ _ _ (by omega)).trans h.c8,(ak _ _ _ _ (by omega)).trans h.c9,(ak _ _ _ _ (by omega)).trans h.c10,(ak _ _ _ _ (by omega)).trans h.c11,(ak _ _ _ _ (by omega)).trans h.c12,(ak _ _ _ _ (by omega)).trans h.c13⟩
theorem Er{l:aI}{o:Nat}{m:Ot}{vb va vc:Value}(h:Ia l o m vb va vc)(x:Nat):Ia (l.set (o+7) (uZ x)) o {m with sent:=x} vb va vc:=
 ⟨(ak _ _ _ _ (by omega)).trans h.c0,(ak _ _ _ _ (by omega)).trans h.c1,h.nt.set (by omega),(ak _ _ _ _ (by omega)).trans h.c6,aU _ _ _ _ h.c7,(ak _ _ _ _ (by omega)).trans h.c8,(ak _ _ _ _ (by omega)).trans h.c9,(ak _ _ _ _ (by omega)).trans h.c10,(ak _ _ _ _ (by omega)).trans h.c11,(ak _ _ _ _ (by omega)).trans h.c12,(ak _ _ _ _ (by omega)).trans h.c13⟩
theorem LA{l:aI}{o:Nat}{m:Ot}{vb va vc:Value}(h:Ia l o m vb va vc)(v:Value)(bs:List UInt8):Ia (l.set o v) o {m with bytes:=bs} v va vc:=
 ⟨aU _ _ _ _ h.c0,(ak _ _ _ _ (by omega)).trans h.c1,h.nt.set (by omega),(ak _ _ _ _ (by omega)).trans h.c6,(ak _ _ _ _ (by omega)).trans h.c7,(ak _ _ _ _ (by omega)).trans h.c8,(ak _ _ _ _ (by omega)).trans h.c9,(ak _ _ _ _ (by omega)).trans h.c10,(ak _ _ _ _ (by omega)).trans h.c11,(ak _ _ _ _ (by omega)).trans h.c12,(ak _ _ _ _ (by omega)).trans h.c13⟩
def nu(e:Nat):Value:=if e=0 then .nilIface else .iface 57 (iZ e)
theorem LC(s t:Nat)(oZ:Own)(S o:Nat)(m:Ot)(l:aI)(w:World)(hB:aA w S TS l)(hS:oZ S=s)(H:s<t)(G:xW oZ t w S l o m):
  Calls prog 148 #[ay S o] w fun e w'=>e=.returned (nu m.finish.2)/\iF s t oZ S o l w m.finish.1 w':=by
 obtain⟨a,c,va,vc,k1,hc,k2,k3,k4,U,V,Z,d6,d7⟩:=G.open hB;have I:=au (AY S o m.fin m.nt.given w V Z);have f1:=hB.frozen (o+1);have K:=au (wZ hB hS H G (o+1) (.bool true) (by omega) (by omega) (m':={m with fin:=true}) (fun _ _ _ h=>Un h true) rfl rfl rfl);have O:=au (iF.refl (s:=s) hB G (fB _ w));have F:Hid (m.finish=if(m.fin||m.nt.given)then(m,4)else({m with fin:=true},0)):=rfl;generalize m.finish=X at *;generalize (m.fin||m.nt.given)=B at *;clear G hB k1 k2 k3 k4 U d6 d7
 cases B with
 |true=>
  go_enter func148,ntmps148
  go_wp2_with fail
  refine I.out.mono ?_;rintro e w' ⟨rfl,rfl⟩;go_wp2;go_ret;exact⟨by rw[F.out];rfl,by rw[F.out];exact O.out⟩
 |false=>
  go_enter func148,ntmps148
  go_wp2_with fail
  refine I.out.mono ?_;rintro e w' ⟨rfl,rfl⟩;go_wp2;go_ret;exact⟨by rw[F.out];rfl,by rw[F.out];exact K.out⟩
theorem O7(s t:Nat)(oZ:Own)(S o x:Nat)(m:Ot)(l:aI)(w:World)(hB:aA w S TS l)(X:oZ S=s)(H:s<t)(G:xW oZ t w S l o m):
  Calls prog 237 #[ay S o,uZ x] w fun e w'=>e=.returned (.tuple #[])/\iF s t oZ S o l w {m with limit:=max m.limit x} w':=by
 obtain⟨a,c,va,vc,k1,hc,k2,Z,k4,K,O,U,d6,V⟩:=G.open hB;have f6:=hB.frozen (o+6);obtain⟨y,hy,F⟩:=max2 m.limit x;rw[<-F];have I:=au (wZ hB X H G (o+6) (uZ y) (by omega) (by omega) (m':={m with limit:=y}) (fun _ _ _ h=>Lx h y) rfl rfl rfl);clear G hB k1 k2 Z k4 K O U V F;go_enter func237,ntmps237;go_wp2;go_end0;exact⟨rfl,I.out⟩
