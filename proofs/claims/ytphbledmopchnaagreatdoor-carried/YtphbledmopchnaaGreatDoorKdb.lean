import Derived.Test.YtphbledmopchnaaGreatDoorKcb
import Derived.Test.YtphbledmopchnaaGreatDoorKcc
import Derived.Test.YtphbledmopchnaaGreatDoorKcd
open Go.RowKit.Below renaming refl->nI,heap_setCell->tT
open List renaming length_append->jK,mem_append->DJ
open Nat renaming le_refl->mR,le_trans->uj,lt_of_lt_of_le->wz,zero_le->Bu
set_option maxHeartbeats 4000000
set_option maxRecDepth 100000
namespace Go.Proofs.YtphbledmopchnaaGreatDoor.Sd
open Go.RowKit Go.Lib Mm St Tryz
theorem V_(sp so:Nat)(l:List Value)(lo hi:Nat)(base:Option Addr)(c:Nat)(most:Int)(fl:Nat)(rs:List (Nat×Nat))(w:World)(O:Rg.Sorted rs)(hB:Small rs)(V:rs.length<=1000000)(H:lo<=hi)(G:hi<18446744073709551616)(hs:jh w sp so l most fl base rs.length c)(R:fP w sp base c rs)(U:rs.length<=c)(F:c<=9223372036854775807):
  Calls prog 168 #[.pointer (some ⟨sp,so,none⟩),.agg #[.int .u64 lo,.int .u64 hi]] w fun e w'=>e=.returned (.tuple #[])/\
   ∃I,Bc w' sp so l most fl (Rg.ins lo hi rs) (some I)/\Kept w w' sp (base.map (·.block))/\(some I=base.map (·.block)\/w.heap.size<=I):=by
 by_cases h:Rg.gB lo rs<Rg.end' hi rs
 ·exact Gc sp so lo hi base c most fl rs l w O hB V H G hs R U F h
 ·exact Gb sp so lo hi base c most fl rs l w O hB V H G hs R U F h
theorem vw.cells{w:World}{sp so:Nat}{l:List Value}{most:Int}{fl:Nat}{rs:List (Nat×Nat)}{row:Option Nat}(h:vw w sp so l most fl rs row):
  ∃base c,w.cell? ⟨sp,so,none⟩=some (.int .i64 most)/\w.cell? ⟨sp,so+1,none⟩=some (.int .u64 fl)/\w.cell? ⟨sp,so+2,none⟩=some (.slice base rs.length c):=by
 obtain⟨base,c,h1,_⟩:=h;exact⟨base,c,h1.cell0,h1.cell1,h1.jy⟩
theorem vw.drewN{w:World}{sp so:Nat}{l:List Value}{most:Int}{fl:Nat}{rs:List (Nat×Nat)}{row:Option Nat}(h:vw w sp so l most fl rs row)(q:Nat):vw (w.drewN q) sp so l most fl rs row:=by
 obtain⟨base,c,h1,F,G,H,I⟩:=h;exact⟨base,c,h1,F,G,H,I.of_heap (fun _ _=>rfl)⟩
theorem wL(sp so:Nat)(most:Int)(w:World)(F:w.cell? ⟨sp,so,none⟩=some (.int .i64 most)):
  Calls prog 169 #[.pointer (some ⟨sp,so,none⟩)] w fun e w'=>e=.returned (.int .i64 (max most 1))/\w'=w:=by
 go_enter func169,ntmps169;go_wp2;go_ret;exact⟨St.iA (by omega),rfl⟩
theorem J9(sp so:Nat)(l0:List Value)(most:Int)(fl:Nat)(rs:List (Nat×Nat))(row:Option Nat)(w:World)(ha:vw w sp so l0 most fl rs row)(Z:2<=rs.length)(hn:rs.length<=1000001)(hg:(rs.getD 0 (0,0)).2+1<18446744073709551616):
  Calls prog 170 #[.pointer (some ⟨sp,so,none⟩)] w fun e w'=>e=.returned (.tuple #[])/\∃G,Bc w' sp so l0 most ((rs.getD 0 (0,0)).2+1) rs.tail (some G)/\Kept w w' sp row/\(some G=row\/w.heap.size<=G):=by
 obtain⟨base,c,h1,h2,h3,h4,h5⟩:=ha;have hc:=h5.ku (i:=0) (by omega)
 rcases h5 with⟨_,h9,_⟩|⟨b,l,rfl,hb,hB,hl,ht,hone⟩
 ·simp[h9]at Z
 obtain⟨m,hm⟩:∃m,rs.length=m+1:=⟨rs.length-1,by omega⟩;obtain⟨G,h8,_,_,hf,_⟩:=hc;simp at h8;subst h8;have HT:Hid (rs.tail.length=m/\(l.take (2*(m+1))).drop 2=St.aC rs.tail):=⟨by simp;omega,by rw[<-hm,ht,St.Dp]⟩;rw[hm]at h1 h2 hn Z;generalize rs.tail=rt at *;generalize (rs.getD 0 (0,0)).2=x at *;clear ht hm
 have hx:((x+1:Nat):Int)=(x:Int)+1:=by omega
 obtain⟨V,O⟩:∃V,V=w.setCell ⟨sp,so+1,none⟩ (.int .u64 ((x:Int)+1)):=⟨_,rfl⟩
 have I:jh V sp so (l0.set (so+1) (.int .u64 ((x+1:Nat):Int))) most (x+1) (some ⟨b,0,none⟩) (m+1) c:=by
  rw[O,hx];exact⟨h1.1.setCell (so+1) _,by rw[aj _ _ _ _ (by omega)];exact h1.2.1,by rw[aN _ _ _ _ h1.2.2.1];rfl,by rw[aj _ _ _ _ (by omega)];exact h1.2.2.2⟩
 have h7:ak V b 170 l:=by rw[O];exact hB.iF _ _ hb
 have HD:=St.hid (Bg b m c l V (by omega) (by omega) h3 (by omega) h7 hl hone);have k2:w.cell? ⟨sp,so+2,none⟩=some (.slice (some ⟨b,0,none⟩) (m+1) c):=h1.jy;have k1:w.cell? ⟨sp,so+1,none⟩=some (.int .u64 fl):=h1.cell1;have f1:=h1.1.frozen (so+1);have j2:V.cell? ⟨sp,so+2,none⟩=some (.slice (some ⟨b,0,none⟩) (m+1) c):=I.jy
 have U:Kept w V sp row:=by
  rw[O];exact⟨rfl,rfl,rfl,by simp,fun k _ H _=>tT _ _ _ _ H⟩
 have he:V.heap.size=w.heap.size:=by rw[O];simp
 have h0:=I.1.lt
 have iG:Hid (∀(e:Ending) (w':World),St.Out V w' (some b) e m ((l.take (2*(m+1))).drop 2)->∃G X,e=.returned (.slice (some ⟨G,0,none⟩) m X)/\w'.cell? ⟨sp,so+2,none⟩=some (.slice (some ⟨b,0,none⟩) (m+1) c)/\w'.frozen? ⟨sp,so+2,none⟩=false/\
   (∃h6,Bc (w'.setCell ⟨sp,so+2,none⟩ (.slice (some ⟨G,0,none⟩) m X)) sp so l0 most (x+1) rt (some h6)/\Kept w (w'.setCell ⟨sp,so+2,none⟩ (.slice (some ⟨G,0,none⟩) m X)) sp row/\(some h6=row\/w.heap.size<=h6))):=by
  rintro e w' ⟨G,X,l',rfl,o1,o2,o3,o4,o5,o6,o7,o8⟩
  have H:G≠sp:=by
   rcases o8 with h|h
   ·simp at h;rw[h];exact hb
   ·omega
  have F:=I.of (w':=w') (o7.block sp h0 (fun e=>hb (by simpa using e.symm)));refine⟨G,X,rfl,F.jy,F.1.frozen (so+2),G,?_,?_,?_⟩
  ·refine⟨(l0.set (so+1) (.int .u64 ((x+1:Nat):Int))).set (so+2) (.slice (some ⟨G,0,none⟩) m X),⟨some ⟨G,0,none⟩,X,?_,by rw[HT.out.1];exact o3,o4,rfl,.inr ⟨G,l',rfl,H,o1.iF _ _ H,o2,by rw[HT.out.1,o5,HT.out.2],o6⟩⟩,?_⟩
   ·rw[HT.out.1];exact⟨F.1.setCell (so+2) _,by rw[aj _ _ _ _ (by omega)];exact F.2.1,by rw[aj _ _ _ _ (by omega)];exact F.2.2.1,aN _ _ _ _ F.2.2.2⟩
   ·exact(iH.set _ _ _ _ _ (by omega) (by omega)).trans (iH.set _ _ _ _ _ (by omega) (by omega))
  ·refine⟨o7.os.trans U.os,o7.tape.trans U.tape,o7.output.trans U.output,?_,?_⟩
   ·have:=o7.size;show w.heap.size<=(w'.heap.modify _ _).size;simp;omega
   ·intro k hk H hr;rw[tT _ _ _ _ H,o7.block k (by omega) (fun e=>hr (by rw[e,h4];rfl)),U.block k hk H hr]
  ·rcases o8 with h|h
   ·exact .inl (by rw[h,h4];rfl)
   ·exact .inr (by omega)
 clear I h7 U he h0 h1 hB hl hone HT hx;go_enter func170,ntmps170
 go_wp2_with fail
 rw[<-O];clear O
 go_wp2_with (go_at_call 225;refine HD.out.mono ?_;intro e w' hO;obtain⟨G,X,rfl,q1,q2,HQ⟩:=iG.out e w' hO;clear hO iG HD)
 go_end0;exact⟨rfl,HQ⟩
def Ve(sp so:Nat)(l:List Value)(most:Int)(row:Option Nat)(w:World)(x:Nat×List (Nat×Nat))(w':World):Prop:=
 ∃F,Bc w' sp so l most x.1 x.2 F/\Kept w w' sp row/\(F=row\/∃b,F=some b/\w.heap.size<=b)
theorem J_(sp so:Nat)(l:List Value)(lo hi:Nat)(most:Int)(fl:Nat)(rs:List (Nat×Nat))(row:Option Nat)(w:World)(V:vw w sp so l most fl rs row)(G:Rg.Ok 18446744073709551616 1000000 fl rs)(h7:hi<18446744073709551616):
  Calls prog 127 #[.pointer (some ⟨sp,so,none⟩),.int .u64 lo,.int .u64 hi] w fun e w'=>e=.returned (.tuple #[])/\Ve sp so l most row w (Rg.add (max most 1).toNat fl rs lo hi) w':=by
 have H:=V;obtain⟨base,c,h1,h2,h3,h4,h5⟩:=V;have k1:w.cell? ⟨sp,so+1,none⟩=some (.int .u64 fl):=h1.cell1
 have h0:((max lo fl:Nat):Int)=max (lo:Int) (fl:Int):=by omega
 by_cases U:hi<max lo fl
 ·have HF:Hid (Ve sp so l most row w (Rg.add (max most 1).toNat fl rs lo hi) w):=by
   unfold Hid Rg.add;rw[if_pos U];exact⟨row,⟨l,H,iH.refl _ _ _⟩,⟨rfl,rfl,rfl,mR _,fun _ _ _ _=>rfl⟩,.inl rfl⟩
  have g2:(hi:Int)<max (lo:Int) (fl:Int):=by omega
  clear h1 h2 h3 h4 h5 H h0 U;go_enter func127,ntmps127
  go_wp2_with fail
  refine bodyPost_ret (results_none rfl _ _ _) rfl ?_;exact⟨rfl,HF.out⟩
 ·have h8:=G.len;have hj:=V_ sp so l (max lo fl) hi base c most fl rs w G.sorted (Ny G.sorted G.hi) h8 (by omega) h7 h1 h5 h2 h3;rw[<-h4,h0]at hj
  have g2:¬((hi:Int)<max (lo:Int) (fl:Int)):=by omega
  have R4:Hid (Rg.add (max most 1).toNat fl rs lo hi=if(max most 1).toNat<(Rg.ins (max lo fl) hi rs).length then(((Rg.ins (max lo fl) hi rs).getD 0 (0,0)).2+1,(Rg.ins (max lo fl) hi rs).tail)else(fl,Rg.ins (max lo fl) hi rs)):=by
   unfold Hid Rg.add;rw[if_neg U]
  have Wh:=St.hid (Rg.jO rs (max lo fl) hi (by omega) G.sorted)
  have Kc:Hid (∀r∈Rg.ins (max lo fl) hi rs,r.2<18446744073709551616):=fun r hr=>by
   have:=Rg.sP rs (max lo fl) hi 18446744073709551615 (by omega) (fun x hx=>by have:=G.hi x hx;omega) r hr;omega
  have hf:=Rg.lW rs (max lo fl) hi;have HJ:=St.hid hj;generalize Rg.ins (max lo fl) hi rs=R at *;generalize Rg.add (max most 1).toNat fl rs lo hi=A at *;clear hj h0 h1 h2 h3 h4 h5 H U G h7
  by_cases hg:max most 1<(R.length:Int)
  ·have HA:Hid (A=((R.getD 0 (0,0)).2+1,R.tail)):=by unfold Hid;rw[R4.out,if_pos (by omega)]
   have hx:(R.getD 0 (0,0)).2+1<18446744073709551616:=Rg.RL Wh.out Kc.out (by omega)
   have HD:Hid (∀W l1 qY,vw W sp so l1 most fl R qY->Calls prog 170 #[.pointer (some ⟨sp,so,none⟩)] W fun e w'=>e=.returned (.tuple #[])/\∃O,Bc w' sp so l1 most ((R.getD 0 (0,0)).2+1) R.tail (some O)/\Kept W w' sp qY/\(some O=qY\/W.heap.size<=O)):=
    fun W l1 qY hs=>J9 sp so l1 most fl R qY W hs (by omega) (by omega) hx
   clear R4 Wh Kc;go_enter func127,ntmps127
   go_wp2_with (go_at_call 168;refine HJ.out.mono ?_;rintro e w' ⟨rfl,O,F,hk,hr⟩)
   obtain⟨l1,F,I⟩:=F;have X:=St.hid I;clear I;obtain⟨Z,c',j0,j1,j2⟩:=F.cells;have HS:=St.hid F;have HK:=St.hid hk;have HR:=St.hid hr;clear F hk hr HJ k1 g2
   go_quiet ((go_at_call 169;exact Calls.quiet_of_same (wL sp so most _ (by simpa using j0))))
   have h9:=St.hid (HD.out _ _ _ (vw.drewN HS.out nq))
   go_wp2_with (go_at_call 170;refine h9.out.mono ?_;rintro e w2 ⟨rfl,b2,h6,ha,hc⟩)
   go_end0;refine⟨rfl,some b2,by rw[HA.out];obtain⟨l2,h6,he⟩:=h6;exact⟨l2,h6,X.out.trans he⟩,?_,?_⟩
   ·refine(Kept.drewN HK.out nq).trans ha ?_
    rcases HR.out with h|h
    ·exact .inl h
    ·exact .inr ⟨O,rfl,h⟩
   ·have hsz:=HK.out.size
    rcases hc with h|h
    ·rw[h]
     rcases HR.out with h'|h'
     ·exact .inl h'
     ·exact .inr ⟨O,rfl,h'⟩
    ·exact .inr ⟨b2,rfl,uj hsz h⟩
  ·have HA:Hid (A=(fl,R)):=by unfold Hid;rw[R4.out,if_neg (by omega)]
   clear R4 Wh Kc;go_enter func127,ntmps127
   go_wp2_with (go_at_call 168;refine HJ.out.mono ?_;rintro e w' ⟨rfl,O,F,hk,hr⟩)
   obtain⟨l1,F,I⟩:=F;have X:=St.hid I;clear I;obtain⟨Z,c',j0,j1,j2⟩:=F.cells;have HS:=St.hid F;have HK:=St.hid hk;have HR:=St.hid hr;clear F hk hr HJ k1 g2
   go_quiet ((go_at_call 169;exact Calls.quiet_of_same (wL sp so most _ (by simpa using j0))))
   go_wp2;go_end0;refine⟨rfl,some O,by rw[HA.out];exact⟨l1,vw.drewN HS.out _,X.out⟩,Kept.drewN HK.out _,?_⟩
   rcases HR.out with h|h
   ·exact .inl h
   ·exact .inr ⟨O,rfl,h⟩
end Go.Proofs.YtphbledmopchnaaGreatDoor.Sd
namespace Go.Proofs.YtphbledmopchnaaGreatDoor.Sd
open Go.RowKit Go.Lib Mm Tryz
theorem Kp.iN{T:List Nat}{own own':Own}{w w':World}(h:Kp T (loc own w.heap.size) own' w w'):Kp T own own' w w':=
 ⟨h.os,h.tape,h.output,h.size,fun b hb F=>h.blk b hb (by rw[fH _ _ _ hb];exact F),fun b hb=>by rw[h.ext b hb,fH _ _ _ hb]⟩
theorem jc.loc{own:Own}{t:Nat}{w:World}{S:Nat}{va:Value}{rs:List (Nat×Nat)}(h:jc own t w S va rs):jc (loc own w.heap.size) t w S va rs:=by
 obtain⟨base,c,h1,G,H,F,I⟩:=h;exact⟨base,c,h1,G,H,F,fun b e=>by rw[fH _ _ _ (St.jP F b e).2,I b e]⟩
theorem GT.loc{own:Own}{t:Nat}{e:TypeId}{k:Nat}{w:World}{v:Value}{n:Nat}{l:List Value}(h:GT own t e k w v n l):GT (loc own w.heap.size) t e k w v n l:=by
 rcases h with h|⟨g,cap,cs,h1,G,F,H⟩
 ·exact .inl h
 ·exact .inr ⟨g,cap,cs,h1,by rw[fH _ _ _ F.lt,G],F,H⟩
theorem NC{own:Own}{t:Nat}{w:World}{S:Nat}{va:Value}{rs:List (Nat×Nat)}{l:List Value}{so:Nat}{most:Int}{fl:Nat}(hB:ak w S TS l)(c0:l[so]?=some (.int .i64 most))(c1:l[so+1]?=some (.int .u64 fl))(c2:l[so+2]?=some va)(O:jc own t w S va rs):
  ∃row,vw w S so l most fl rs row/\∀b,row=some b->own b=t:=by
 obtain⟨base,c,rfl,F,G,H,I⟩:=O;exact⟨base.map (·.block),⟨base,c,⟨hB,c0,c1,c2⟩,F,G,rfl,H⟩,I⟩
def Ke(s t:Nat)(own:Own)(S so:Nat)(l:List Value)(most:Int)(w:World)(x:Nat×List (Nat×Nat))(w':World):Prop:=
 ∃own' l' F,Kp [s,t] own own' w w'/\ak w' S TS l'/\iH l l' so 3/\l'[so]?=some (.int .i64 most)/\l'[so+1]?=some (.int .u64 x.1)/\l'[so+2]?=some F/\jc own' t w' S F x.2
theorem I5(s t:Nat)(own:Own)(S so lo hi:Nat)(l:List Value)(most:Int)(fl:Nat)(rs:List (Nat×Nat))(va:Value)(w:World)(hB:ak w S TS l)(hS:own S=s)(c0:l[so]?=some (.int .i64 most))(c1:l[so+1]?=some (.int .u64 fl))(c2:l[so+2]?=some va)(hR:jc own t w S va rs)(O:St.Rg.Ok 18446744073709551616 1000000 fl rs)(I:hi<18446744073709551616):
  Calls prog 127 #[.pointer (some ⟨S,so,none⟩),.int .u64 lo,.int .u64 hi] w fun e w'=>e=.returned (.tuple #[])/\Ke s t own S so l most w (St.Rg.add (max most 1).toNat fl rs lo hi) w':=by
 obtain⟨row,hP,F⟩:=NC hB c0 c1 c2 hR;refine(J_ S so l lo hi most fl rs row w hP O I).mono ?_;rintro e w' ⟨rfl,qY,⟨l',H,hW⟩,G,hr⟩;obtain⟨base,c,⟨X,b2,b3,Z⟩,k1,k2,k3,V⟩:=H;refine⟨rfl,fun b=>if w.heap.size<=b/\b<w'.heap.size then t else own b,l',_,⟨G.os,G.tape,G.output,G.size,fun b hb U=>G.block b hb (fun e=>U (by rw[e,hS];simp)) (fun e=>U (by rw[F b e.symm];simp)),fun b hb=>if_neg (by omega)⟩,X,hW,b2,b3,Z,base,c,rfl,k1,k2,V,fun b hb=>?_⟩;have h2:=(St.jP V b hb).2;rw[<-k3]at hb;simp only[]
 rcases hr with e|⟨b',e,h0⟩
 ·split
  ·rfl
  ·exact F b (by rw[<-e,hb])
 ·rw[e]at hb;simp at hb;rw[if_pos (by omega)]
theorem R6(t:Nat)(own:Own)(S so v:Nat)(l:List Value)(most:Int)(fl:Nat)(rs:List (Nat×Nat))(va:Value)(w:World)(hB:ak w S TS l)(c0:l[so]?=some (.int .i64 most))(c1:l[so+1]?=some (.int .u64 fl))(c2:l[so+2]?=some va)(G:jc own t w S va rs)(H:St.Rg.Sorted rs)(I:rs.length<=1000000):
  Calls prog 128 #[.pointer (some ⟨S,so,none⟩),.int .u64 v] w fun e w'=>e=.returned (.bool (NS.has ⟨fl,rs⟩ v))/\Below w.heap.size w w':=by
 obtain⟨base,c,rfl,O,U,F,V⟩:=G;exact Nv S so v base c most fl rs l w H I ⟨hB,c0,c1,c2⟩ F
structure tq (x:NS):Prop where
 fl:x.fl=0
 so:St.Rg.Sorted x.rs
 hi:∀r∈x.rs,r.2<=2048
theorem pV:∀(rs:List (Nat×Nat)) (a B:Nat),St.Rg.Sorted rs->(∀r∈rs,a<=r.1)->(∀r∈rs,r.2<=B)->rs.length<=B+1-a
 |[],_,_,_,_,_=>by simp
 |r::t,a,B,h,ha,hb=>by
  have h1:=h.1;have G:=ha r (by simp);have H:=hb r (by simp);have:=pV t (a+1) B h.2.2 (fun x F=>by have:=h.2.1 x F;omega) (fun x F=>hb x (by simp[F]));simp only[List.length_cons];omega
theorem tq.len{x:NS}(h:tq x):x.rs.length<=2049:=by
 have:=pV x.rs 0 2048 h.so (fun _ _=>Bu _) h.hi;omega
theorem tq.ok{x:NS}(h:tq x):St.Rg.Ok 18446744073709551616 1000000 x.fl x.rs:=
 ⟨h.so,fun r F=>by have:=h.hi r F;omega,by have:=h.len;omega,by rw[h.fl];omega⟩
theorem tq.add{x:NS}(h:tq x)(lo hi:Nat)(G:lo<=hi)(F:hi<=2048):tq (x.add 2049 lo hi)/\x.add 2049 lo hi=⟨0,St.Rg.ins lo hi x.rs⟩:=by
 have h1:=St.Rg.jO x.rs lo hi G h.so;have H:∀r∈St.Rg.ins lo hi x.rs,r.2<=2048:=St.Rg.sP x.rs lo hi 2048 F h.hi;have I:=pV _ 0 2048 h1 (fun _ _=>Bu _) H
 have e:x.add 2049 lo hi=⟨0,St.Rg.ins lo hi x.rs⟩:=by
  unfold NS.add St.Rg.add;rw[h.fl,if_neg (by omega),show max lo 0=lo by omega,if_neg (by omega)]
 rw[e];exact⟨⟨rfl,h1,H⟩,rfl⟩
theorem oV(s t:Nat)(own:Own)(S so:Nat)(f:Fr)(rv:Value)(l:List Value)(x:NS)(va:Value)(w:World)(hB:ak w S TS l)(hS:own S=s)(c0:l[so]?=some (.int .i64 2049))(c1:l[so+1]?=some (.int .u64 x.fl))(c2:l[so+2]?=some va)(hR:jc own t w S va x.rs)(h4:tq x)(ho:f.offset<=aU)(hd:f.data.size<=1000000000)(h5:f.fin=true\/0<av f):
  Calls prog 345 #[.pointer (some ⟨S,so,none⟩),bJ f rv] w fun e w'=>e=.returned (.tuple #[])/\Ke s t own S so l 2049 w ((qN x f).fl,(qN x f).rs) w':=by
 obtain⟨W,O⟩:∃W,W=w.alloc (.cells (bX f rv).toArray 65):=⟨_,rfl⟩
 have hb:ak W w.heap.size 65 (bX f rv):=by rw[O];exact ak.new w 65 _
 have X:Below w.heap.size w W:=by rw[O];exact(nI _ w).alloc (mR _) _
 have hsz:W.heap.size=w.heap.size+1:=by rw[O];simp
 have HE:=hid (g_ f rv W ho hd);obtain⟨x0,x1,x2,x3,x4,x5,x6,x7,x8,x9,xf⟩:=aA hb
 have G:Hid (∀(y:World) (hi:Nat),Below W.heap.size W y->hi=(if f.fin then av f else av f-1)->Calls prog 127 #[.pointer (some ⟨S,so,none⟩),.int .u64 f.offset,.int .u64 hi] y fun e w'=>e=.returned (.tuple #[])/\Ke s t own S so l 2049 w ((qN x f).fl,(qN x f).rs) w'):=fun y hi hy h3=>by
  have I:Below w.heap.size w y:=X.trans (hy.mono (by omega))
  have Z:av f<18446744073709551616:=by unfold av;unfold aU at ho;omega
  refine(I5 s t own S so f.offset hi l 2049 x.fl x.rs va y (hB.of_heap (I.block _ hB.lt)) hS c0 c1 c2 (hR.kp (Kp.below (T:=[]) I) (by simp)) h4.ok (by rw[h3];split<;>omega)).mono ?_;rintro e w' ⟨rfl,own',l',Vf,h1,h2⟩;refine⟨rfl,own',l',Vf,⟨h1.os.trans I.os,h1.tape.trans I.tape,h1.output.trans I.output,uj I.size h1.size,fun b F hn=>(h1.blk b (wz F I.size) hn).trans (I.block b F),fun b F=>h1.ext b (wz F I.size)⟩,?_⟩;rw[h3]at h2;exact h2
 have Z:av f<18446744073709551616:=by unfold av;unfold aU at ho;omega
 clear hB hR c0 c1 c2 h4 ho hd hS;generalize av f=E at *;have HB:=hid hb;clear hb X;unfold bJ;unfold bX at O
 rcases(Bool.eq_false_or_eq_true f.fin).symm with hf|hf
 ·have h0:0<E:=by
   rcases h5 with h|h
   ·rw[hf]at h;cases h
   ·exact h
  rw[hf]at G
  have U:((E-1:Nat):Int)=(E:Int)-1:=by omega
  have V:=hid hf
  have h6:0<=(E:Int)-1:=by omega
  have h7:(E:Int)-1<18446744073709551616:=by omega
  clear hf;go_enter func345,ntmps345
  go_wp2_with fail
  rw[<-O];refine HE.out.mono ?_;rintro e y ⟨rfl,H⟩;have F:=HB.out.of_heap (H.block _ (by omega));obtain⟨y0,y1,y2,y3,y4,y5,y6,y7,y8,y9,yf⟩:=aA F;rw[V.out]at y5;have HA:=hid (G.out y (E-1) H rfl);rw[U]at HA;clear H F x0 x1 x2 x3 x4 x5 x6 x7 x8 x9 xf G U O HE
  go_wp2_with fail
  refine HA.out.mono ?_;rintro e w' ⟨rfl,hP⟩;go_wp2;go_end0;exact⟨rfl,hP⟩
 ·rw[hf]at G;have V:=hid hf;clear hf;go_enter func345,ntmps345
  go_wp2_with fail
  rw[<-O];refine HE.out.mono ?_;rintro e y ⟨rfl,H⟩;have F:=HB.out.of_heap (H.block _ (by omega));obtain⟨y0,y1,y2,y3,y4,y5,y6,y7,y8,y9,yf⟩:=aA F;rw[V.out]at y5;have HA:=hid (G.out y E H rfl);clear H F x0 x1 x2 x3 x4 x5 x6 x7 x8 x9 xf G O HE
  go_wp2_with fail
  refine HA.out.mono ?_;rintro e w' ⟨rfl,hP⟩;go_wp2;go_end0;exact⟨rfl,hP⟩
def gP(s t:Nat)(own:Own)(S o:Nat)(l:List Value)(w:World)(m':Ot)(w':World):Prop:=
 ∃own' l',Kp [s,t,t+1,t+2] own own' w w'/\ak w' S TS l'/\iH l l' o 14/\wM own' t w' S l' o m'
theorem gP.refl{s t:Nat}{own:Own}{S o:Nat}{l:List Value}{w w':World}{m:Ot}(hB:ak w S TS l)(F:wM own t w S l o m)(hb:Below w.heap.size w w'):gP s t own S o l w m w':=
 ⟨own,l,Kp.below hb,hB.of_heap (hb.block _ hB.lt),iH.refl _ _ _,F.kp (Kp.below (T:=[]) hb) (by simp) (by simp) (by simp) (iH.refl l (o+14) 0) (by omega)⟩
theorem gP.after{s t:Nat}{own:Own}{S o:Nat}{l:List Value}{w W w':World}{m':Ot}(hb:Below w.heap.size w W)(h:gP s t own S o l W m' w'):gP s t own S o l w m' w':=by
 obtain⟨F,l1,h1,G⟩:=h;exact⟨F,l1,(Kp.below hb).trans h1,G⟩
theorem ND{s t:Nat}{own:Own}{S o:Nat}{l:List Value}{w w':World}{m:Ot}{x:NS}(Z:s<t)(X:wM own t w S l o m)(h:Ke s (t+1) own S (o+8) l 2049 w (x.fl,x.rs) w'):gP s t own S o l w {m with away:=x} w':=by
 obtain⟨own',l',G,h1,H,F,I,O,U,V⟩:=h;obtain⟨vb,va,vc,k1,k2,k3,k4⟩:=X;refine⟨own',l',h1.mono (by simp),H,F.mono (by omega) (by omega),vb,G,vc,⟨?_,?_,k1.nt.win F (by omega),?_,?_,I,O,U,?_,?_,?_⟩,k2.kp h1 (by simp;omega),V,k4.kp h1 (by simp;omega)⟩
 ·rw[F.2 _ (by omega)];exact k1.c0
 ·rw[F.2 _ (by omega)];exact k1.c1
 ·rw[F.2 _ (by omega)];exact k1.c6
 ·rw[F.2 _ (by omega)];exact k1.c7
 ·rw[F.2 _ (by omega)];exact k1.c11
 ·rw[F.2 _ (by omega)];exact k1.c12
 ·rw[F.2 _ (by omega)];exact k1.c13
theorem NG{s t:Nat}{own:Own}{S o:Nat}{l:List Value}{w w':World}{m:Ot}{x:NS}(Z:s<t)(X:wM own t w S l o m)(h:Ke s (t+2) own S (o+11) l 2049 w (x.fl,x.rs) w'):gP s t own S o l w {m with came:=x} w':=by
 obtain⟨own',l',G,h1,H,F,I,O,U,V⟩:=h;obtain⟨vb,va,vc,k1,k2,k3,k4⟩:=X;refine⟨own',l',h1.mono (by simp),H,F.mono (by omega) (by omega),vb,va,G,⟨?_,?_,k1.nt.win F (by omega),?_,?_,?_,?_,?_,I,O,U⟩,k2.kp h1 (by simp;omega),k3.kp h1 (by simp;omega),V⟩
 ·rw[F.2 _ (by omega)];exact k1.c0
 ·rw[F.2 _ (by omega)];exact k1.c1
 ·rw[F.2 _ (by omega)];exact k1.c6
 ·rw[F.2 _ (by omega)];exact k1.c7
 ·rw[F.2 _ (by omega)];exact k1.c8
 ·rw[F.2 _ (by omega)];exact k1.c9
 ·rw[F.2 _ (by omega)];exact k1.c10
structure pW (f:Fr):Prop where
 o:f.offset<=2048
 e:av f<=2048
 ne:f.fin=true\/0<av f
theorem pW.d{f:Fr}(h:pW f):f.data.size<=1000000000:=by have:=h.e;unfold av at this;omega
theorem pW.om{f:Fr}(h:pW f):f.offset<=aU:=by have:=h.o;unfold aU;omega
theorem vK(s t:Nat)(own:Own)(S o:Nat)(m:Ot)(f:Fr)(rv:Value)(l:List Value)(w:World)(hB:ak w S TS l)(hS:own S=s)(V:s<t)(Z:wM own t w S l o m)(I:tq m.away)(O:pW f):
  Calls prog 319 #[.pointer (some ⟨S,o,none⟩),bJ f rv] w fun e w'=>e=.returned (.tuple #[])/\gP s t own S o l w (m.aw f) w':=by
 obtain⟨W,H⟩:∃W,W=w.alloc (.cells (bX f rv).toArray 65):=⟨_,rfl⟩
 have hb:ak W w.heap.size 65 (bX f rv):=by rw[H];exact ak.new w 65 _
 have F:Below w.heap.size w W:=by rw[H];exact(nI _ w).alloc (mR _) _
 have X:=Z.kp (Kp.below (T:=[]) F) (by simp) (by simp) (by simp) (iH.refl l (o+14) 0) (by omega);have G:=hB.of_heap (F.block _ hB.lt)
 have HA:Hid (∀q,Calls prog 345 #[.pointer (some ⟨S,o+8,none⟩),bJ f rv] (W.drewN q) fun e w'=>e=.returned (.tuple #[])/\gP s t own S o l w (m.aw f) w'):=fun q=>by
  have U:=X.kp (Kp.below (w':=W.drewN q) (T:=[]) ⟨rfl,rfl,rfl,mR _,fun _ _=>rfl⟩) (by simp) (by simp) (by simp) (iH.refl l (o+14) 0) (by omega);obtain⟨vb,va,vc,k1,k2,k3,k4⟩:=U;refine(oV s (t+1) own S (o+8) f rv l m.away va (W.drewN q) G hS k1.c8 k1.c9 k1.c10 k3 I O.om O.d O.ne).mono ?_;rintro e w' ⟨rfl,h⟩;exact⟨rfl,gP.after (W:=W.drewN q) ⟨F.os,F.tape,F.output,F.size,F.block⟩ (ND V ⟨vb,va,vc,k1,k2,k3,k4⟩ h)⟩
 obtain⟨x0,x1,x2,x3,x4,x5,x6,x7,x8,x9,xf⟩:=aA hb;clear hb F X G Z hB hS I O;unfold bJ at *;unfold bX at H;go_enter func319,ntmps319
 go_wp2_with fail
 rw[<-H];clear H
 go_region_with (go_at_call 345;refine(HA.out _).mono ?_;rintro e w' ⟨rfl,hP⟩)
 all_goals go_wp2
 all_goals go_end0
 all_goals exact⟨rfl,hP⟩
theorem R7(s t:Nat)(own:Own)(S o:Nat)(m:Ot)(f:Fr)(rv:Value)(l:List Value)(w:World)(hB:ak w S TS l)(hS:own S=s)(h0:s<t)(h5:0<s)(hO:wM own t w S l o m)(Z:tq m.away)(h4:tq m.came)(X:pW f):
  Calls prog 391 #[.pointer (some ⟨S,o,none⟩),bJ f rv] w fun e w'=>e=.returned (.tuple #[])/\gP s t own S o l w (m.cm f) w':=by
 obtain⟨W,U⟩:∃W,W=w.alloc (.cells (bX f rv).toArray 65):=⟨_,rfl⟩
 have hb:ak W w.heap.size 65 (bX f rv):=by rw[U];exact ak.new w 65 _
 have F:Below w.heap.size w W:=by rw[U];exact(nI _ w).alloc (mR _) _
 obtain⟨ow,G⟩:∃ow,ow=loc own w.heap.size:=⟨_,rfl⟩
 have H:ow S=s:=by rw[G,fH _ _ _ hB.lt,hS]
 have wH:wM ow t w S l o m:=by
  obtain⟨vb,va,vc,k1,k2,k3,k4⟩:=hO;rw[G];exact⟨vb,va,vc,k1,k2.loc,k3.loc,k4.loc⟩
 have Dc:=wH.kp (Kp.below (T:=[]) F) (by simp) (by simp) (by simp) (iH.refl l (o+14) 0) (by omega);have O:=hB.of_heap (F.block _ hB.lt)
 have HA:Hid (∀q,Calls prog 345 #[.pointer (some ⟨S,o+11,none⟩),bJ f rv] (W.drewN q) fun e w'=>e=.returned (.tuple #[])/\ak w' w.heap.size 65 (bX f rv)/\Calls prog 319 #[.pointer (some ⟨S,o,none⟩),bJ f rv] w' fun e I=>e=.returned (.tuple #[])/\gP s t own S o l w (m.cm f) I):=fun q=>by
  have h3:=Dc.kp (Kp.below (w':=W.drewN q) (T:=[]) ⟨rfl,rfl,rfl,mR _,fun _ _=>rfl⟩) (by simp) (by simp) (by simp) (iH.refl l (o+14) 0) (by omega);obtain⟨vb,va,vc,k1,k2,k3,k4⟩:=h3;refine(oV s (t+2) ow S (o+11) f rv l m.came vc (W.drewN q) O H k1.c11 k1.c12 k1.c13 k4 h4 X.om X.d X.ne).mono ?_;rintro e w' ⟨rfl,h⟩;have hq:=gP.after (W:=W.drewN q) ⟨F.os,F.tape,F.output,F.size,F.block⟩ (NG h0 ⟨vb,va,vc,k1,k2,k3,k4⟩ h);obtain⟨aF,l1,h6,h1,h2,_⟩:=h;refine⟨rfl,aK hb ⟨h1.os,h1.tape,h1.output,h1.size,h1.blk,h1.ext⟩ (by rw[G,eT _ _ _ (mR _)];simp;omega),?_⟩;obtain⟨aL,l2,g1,g2,g3,g4⟩:=hq;refine(vK s t aL S o _ f rv l2 w' g2 (by rw[g1.ext _ hB.lt,H]) h0 g4 Z X).mono ?_;rintro e I ⟨rfl,hP⟩;obtain⟨gV,l3,p1,p2,p3,p4⟩:=hP;rw[G]at g1;exact⟨rfl,gV,l3,g1.iN.trans p1,p2,g3.trans p3,p4⟩
 obtain⟨x0,x1,x2,x3,x4,x5,x6,x7,x8,x9,xf⟩:=aA hb;clear hb F Dc O hO hB hS Z X wH G H;unfold bJ at *;unfold bX at U HA;go_enter func391,ntmps391
 go_wp2_with fail
 rw[<-U];clear U
 go_region_with (go_at_call 345;refine(HA.out _).mono ?_;rintro e w' ⟨rfl,V,hC⟩;obtain⟨y0,y1,y2,y3,y4,y5,y6,y7,y8,y9,yf⟩:=aA V;have HC:=hid hC;clear hC V x0 x1 x2 x3 x4 x5 x6 x7 x8 x9 xf HA)
 all_goals go_wp2_with fail
 all_goals(refine HC.out.mono ?_;rintro e I ⟨rfl,hP⟩)
 all_goals go_wp2
 all_goals go_end0
 all_goals exact⟨rfl,hP⟩
theorem wP{a b c d:Int}(h:a=c)(F:b=d):Ending.returned (.tuple #[.int .u64 a,.int .u64 b])=.returned (.tuple #[.int .u64 c,.int .u64 d]):=by rw[h,F]
theorem Kg(lo:Nat)(rs:List (Nat×Nat))(e i:Nat)(hi:i<rs.length):
  iP lo (rs.drop i) e=if lo<(rs.getD i (0,0)).1 then(lo,min (rs.getD i (0,0)).1 e)else if e<=(rs.getD i (0,0)).2 then(e,e)else iP ((rs.getD i (0,0)).2+1) (rs.drop (i+1)) e:=by
 rw[List.drop_eq_getElem_cons hi]
 have:rs.getD i (0,0)=rs[i]:=by simp[hi]
 rw[this];rfl
theorem NH(t:Nat)(own:Own)(S so G:Nat)(l:List Value)(fl:Nat)(rs:List (Nat×Nat))(va:Value)(w:World)(hB:ak w S TS l)(c1:l[so+1]?=some (.int .u64 fl))(c2:l[so+2]?=some va)(hR:jc own t w S va rs)(_hn:rs.length<=1000000)(hi:∀r∈rs,r.1<18446744073709551615/\r.2<18446744073709551615):
  Calls prog 344 #[.pointer (some ⟨S,so,none⟩),.int .u64 G] w fun e w'=>e=.returned (.tuple #[.int .u64 ((NS.hole ⟨fl,rs⟩ G).1:Int),.int .u64 ((NS.hole ⟨fl,rs⟩ G).2:Int)])/\Below w.heap.size w w':=by
 obtain⟨base,c,rfl,h2,h3,h4,h5⟩:=hR
 have k1:w.cell? ⟨S,so+1,none⟩=some (.int .u64 fl):=by rw[hB.cell];exact c1
 have k2:w.cell? ⟨S,so+2,none⟩=some (.slice base rs.length c):=by rw[hB.cell];exact c2
 obtain⟨X,hX⟩:∃X,X=NS.hole ⟨fl,rs⟩ G:=⟨_,rfl⟩;rw[<-hX]
 have HX:Hid (iP fl (rs.drop 0) G=X):=by unfold Hid;rw[hX];rfl
 have HR:=hid h4;have HI:=hid hi;have HH:=hid (fun lo i=>Kg lo rs G i);clear h4 hi hB c1 c2 h5 hX;go_enter func344,ntmps344
 go_wp2_with fail
 go_loopw [4,17] (fun s4 FQ wr=>∃(lo i:Nat),i<=rs.length/\s4=.int .u64 lo/\FQ=.int .i64 i/\Hid (iP lo (rs.drop i) G=X)/\Hid (Below w.heap.size w wr)) (fun _ FQ _=>rs.length-(intOf FQ).toNat)
 case atStart=>exact⟨fl,0,Bu _,rfl,rfl,HX,nI _ w⟩
 case round=>
  clear HX k1 k2;obtain⟨lo,i,h7,rfl,rfl,Z,I⟩:=hrel
  by_cases O:i<rs.length
  ·have h0:(i:Int)<(rs.length:Int):=by omega
   obtain⟨b,rfl,h9,h6,j2,j1⟩:=(HR.out.of_heap (w':=wr) (fun b hb=>I.out.block b (by
    have:=(St.jP HR.out b (by rw[hb];rfl)).2
    exact this))).ku O
   have F:=HH.out lo i O;rw[Z.out]at F
   have hm:rs.getD i (0,0)∈rs:=by
    rw[List.getD_eq_getElem?_getD,List.getElem?_eq_getElem O];exact List.getElem_mem _
   obtain⟨ha,hc⟩:=HI.out _ hm;generalize (rs.getD i (0,0)).1=r1 at *;generalize (rs.getD i (0,0)).2=r2 at *;have U:=hid F;clear F Z hm
   by_cases h1:lo<r1
   ·obtain⟨mn,h8,V⟩:=min2 r1 G
    have H:Hid (X=(lo,mn)):=by unfold Hid;rw[U.out,if_pos h1,V]
    clear U V
    go_wp2_with fail
    go_region
    all_goals go_wp2
    all_goals go_ret2
    all_goals exact⟨wP (by rw[H.out]) (by rw[H.out]),(I.out.alloc I.out.size _).drew⟩
   ·by_cases h2:G<=r2
    ·have H:Hid (X=(G,G)):=by unfold Hid;rw[U.out,if_neg h1,if_pos h2]
     clear U;go_wp2;go_ret2;exact⟨wP (by rw[H.out]) (by rw[H.out]),I.out.alloc I.out.size _⟩
    ·have H:Hid (iP (r2+1) (rs.drop (i+1)) G=X):=by unfold Hid;rw[U.out,if_neg h1,if_neg h2]
     clear U
     have he:r2+1<18446744073709551616:=by omega
     go_wp2_with fail
     go_roundw
     case rel=>exact⟨r2+1,i+1,by omega,by go_num,by go_num,H,I.out.alloc I.out.size _⟩
     case measure=>simp[intOf];omega
  ·obtain rfl:i=rs.length:=by omega
   have H:Hid (X=(lo,G)):=by unfold Hid;rw[<-Z.out,List.drop_length];rfl
   clear Z;go_wp2;go_ret2;exact⟨wP (by rw[H.out]) (by rw[H.out]),I.out⟩
theorem wM.open{own:Own}{t:Nat}{w:World}{S:Nat}{l:List Value}{o:Nat}{m:Ot}(h:wM own t w S l o m)(hB:ak w S TS l):
  ∃a c va vc,Gf l o m (.slice a m.bytes.length c) va vc/\m.bytes.length<=c/\GT own t 5 1 w (.slice a m.bytes.length c) m.bytes.length (aJ m.bytes)/\jc own (t+1) w S va m.away.rs/\jc own (t+2) w S vc m.came.rs/\
   w.cell? ⟨S,o,none⟩=some (.slice a m.bytes.length c)/\w.cell? ⟨S,o+1,none⟩=some (.bool m.fin)/\w.cell? ⟨S,o+2,none⟩=some (.bool m.nt.given)/\w.cell? ⟨S,o+6,none⟩=some (.int .u64 m.limit)/\w.cell? ⟨S,o+7,none⟩=some (.int .u64 m.sent):=by
 obtain⟨vb,va,vc,k1,k2,G,H⟩:=h;obtain⟨a,c,rfl,F,_⟩:=k2.shape;exact⟨a,c,va,vc,k1,F,k2,G,H,by rw[hB.cell];exact k1.c0,by rw[hB.cell];exact k1.c1,by rw[hB.cell];exact k1.nt.c0,by rw[hB.cell];exact k1.c6,by rw[hB.cell];exact k1.c7⟩
theorem wQ(t:Nat)(own:Own)(S o:Nat)(m:Ot)(au:Nat)(l:List Value)(w:World)(hB:ak w S TS l)(hO:wM own t w S l o m)(hl:m.bytes.length<=2048)(hs:m.sent+au<18446744073709551616)(G:tq m.away):
  Calls prog 314 #[.pointer (some ⟨S,o,none⟩),.int .u64 au] w fun e w'=>e=.returned (.tuple #[.int .u64 ((m.waiting au).1:Int),.int .u64 ((m.waiting au).2:Int)])/\Below w.heap.size w w':=by
 obtain⟨a,c,va,vc,k1,hc,k2,k3,k4,U,d1,d2,d6,d7⟩:=hO.open hB;have O:=hid (Nz S o m.bytes.length c m.limit m.sent au a w hl hs U d6 d7);obtain⟨E,V⟩:∃E,E=min (min m.bytes.length m.limit) (m.sent+au):=⟨_,rfl⟩;have tu:=hid (fun q=>sZ S o m.bytes.length c E a m.fin m.nt.given (w.drewN q) hl U d1 d2);have Z:=hid (fun q e0=>NH (t+1) own S (o+8) e0 l m.away.fl m.away.rs va (w.drewN q) hB k1.c9 k1.c10 (k3.kp (Kp.below (w':=w.drewN q) (T:=[]) ⟨rfl,rfl,rfl,mR _,fun _ _=>rfl⟩) (by simp)) (by have:=G.len;omega) (fun r hr=>by have:=G.hi r hr;have:=G.so.le r hr;omega))
 have I:Hid (m.waiting au=m.away.hole (if(m.fin&& !m.nt.given&&decide (E=m.bytes.length))then E+1 else E)):=by unfold Hid;rw[V];rfl
 have h0:E<=2048:=by omega
 rw[<-V]at O;generalize m.waiting au=X at *;generalize (m.fin&& !m.nt.given&&decide (E=m.bytes.length))=B at *;clear hO hB k1 k2 k3 k4 U d1 d2 d6 d7 G hs V
 cases B with
 |false=>
  go_enter func314,ntmps314
  go_wp2_with fail
  refine O.out.mono ?_;rintro e w' ⟨rfl,q,rfl⟩
  go_wp2_with fail
  refine(tu.out q).mono ?_;rintro e w' ⟨rfl,rfl⟩
  go_wp2_with fail
  refine(Z.out q E).mono ?_;rintro e w' ⟨rfl,hb⟩;have F:=hid hb;clear hb;go_wp2;go_ret2;exact⟨wP (by rw[I.out];rfl) (by rw[I.out];rfl),F.out.os,F.out.tape,F.out.output,F.out.size,F.out.block⟩
 |true=>
  go_enter func314,ntmps314
  go_wp2_with fail
  refine O.out.mono ?_;rintro e w' ⟨rfl,q,rfl⟩
  go_wp2_with fail
  refine(tu.out q).mono ?_;rintro e w' ⟨rfl,rfl⟩
  go_wp2_with fail
  have H:=hid (Z.out q (E+1));rw[show((E+1:Nat):Int)=(E:Int)+1 by omega]at H;refine H.out.mono ?_;rintro e w' ⟨rfl,hb⟩;have F:=hid hb;clear hb;go_wp2;go_ret2;exact⟨wP (by rw[I.out];rfl) (by rw[I.out];rfl),F.out.os,F.out.tape,F.out.output,F.out.size,F.out.block⟩
theorem NI(t:Nat)(own:Own)(S o:Nat)(m:Ot)(au:Nat)(l:List Value)(w:World)(hB:ak w S TS l)(G:wM own t w S l o m)(hl:m.bytes.length<=2048)(hs:m.sent+au<18446744073709551616)(F:tq m.away):
  Calls prog 264 #[.pointer (some ⟨S,o,none⟩),.int .u64 au] w fun e w'=>e=.returned (.bool (m.waits au))/\Below w.heap.size w w':=by
 have I:=hid (wQ t own S o m au l w hB G hl hs F);have O:Hid (m.waits au=decide ((m.waiting au).1<(m.waiting au).2)):=rfl;generalize m.waits au=B at *;generalize (m.waiting au).1=lo at *;generalize (m.waiting au).2=hi at *;clear hB G F;go_enter func264,ntmps264
 go_wp2_with fail
 refine I.out.mono ?_;rintro e w' ⟨rfl,hb⟩;have H:=hid hb;clear hb;go_wp2;go_ret;exact⟨aP (by rw[O.out,decide_eq_decide]<;>omega),H.out⟩
theorem vL{s t:Nat}{own:Own}{S o:Nat}{l:List Value}{w:World}{m m':Ot}(hB:ak w S TS l)(H:own S=s)(Z:s<t)(V:wM own t w S l o m)(j:Nat)(v:Value)(X:o<=j)(F:j<o+14)(h:∀vb va vc,Gf l o m vb va vc->Gf (l.set j v) o m' vb va vc)(I:m'.bytes=m.bytes)(O:m'.away=m.away)(U:m'.came=m.came):gP s t own S o l w m' (w.setCell ⟨S,j,none⟩ v):=by
 have h1:=cu.one hB j v o 14 X F;obtain⟨vb,va,vc,k1,k2,k3,k4⟩:=V;have G:=h1.kp H (T:=[s]) (by simp);refine⟨own,_,h1.kp H (by simp),h1.blk,h1.win,vb,va,vc,h _ _ _ k1,?_,?_,?_⟩
 ·rw[I];exact k2.kp G (by simp;omega)
 ·rw[O];exact k3.kp G (by simp;omega)
 ·rw[U];exact k4.kp G (by simp;omega)
theorem yV.set{l:List Value}{o j:Nat}{v:Value}{n:Nt}(h:yV l o n)(F:j<o\/o+4<=j):yV (l.set j v) o n:=
 ⟨by rw[aj _ _ _ _ (by omega)];exact h.c0,by rw[aj _ _ _ _ (by omega)];exact h.c1,by rw[aj _ _ _ _ (by omega)];exact h.c2,by rw[aj _ _ _ _ (by omega)];exact h.c3⟩
theorem R8{l:List Value}{o:Nat}{m:Ot}{vb va vc:Value}(h:Gf l o m vb va vc)(b:Bool):Gf (l.set (o+1) (.bool b)) o {m with fin:=b} vb va vc:=
 ⟨by rw[aj _ _ _ _ (by omega)];exact h.c0,aN _ _ _ _ h.c1,h.nt.set (by omega),by rw[aj _ _ _ _ (by omega)];exact h.c6,by rw[aj _ _ _ _ (by omega)];exact h.c7,by rw[aj _ _ _ _ (by omega)];exact h.c8,by rw[aj _ _ _ _ (by omega)];exact h.c9,by rw[aj _ _ _ _ (by omega)];exact h.c10,by rw[aj _ _ _ _ (by omega)];exact h.c11,by rw[aj _ _ _ _ (by omega)];exact h.c12,by rw[aj _ _ _ _ (by omega)];exact h.c13⟩
theorem Kj{l:List Value}{o:Nat}{m:Ot}{vb va vc:Value}(h:Gf l o m vb va vc)(x:Nat):Gf (l.set (o+6) (.int .u64 x)) o {m with limit:=x} vb va vc:=
 ⟨by rw[aj _ _ _ _ (by omega)];exact h.c0,by rw[aj _ _ _ _ (by omega)];exact h.c1,h.nt.set (by omega),aN _ _ _ _ h.c6,by rw[aj _ _ _ _ (by omega)];exact h.c7,by rw[aj _ _ _ _ (by omega)];exact h.c8,by rw[aj _ _ _ _ (by omega)];exact h.c9,by rw[aj _ _ _ _ (by omega)];exact h.c10,by rw[aj _ _ _ _ (by omega)];exact h.c11,by rw[aj _ _ _ _ (by omega)];exact h.c12,by rw[aj _ _ _ _ (by omega)];exact h.c13⟩
theorem Dq{l:List Value}{o:Nat}{m:Ot}{vb va vc:Value}(h:Gf l o m vb va vc)(x:Nat):Gf (l.set (o+7) (.int .u64 x)) o {m with sent:=x} vb va vc:=
 ⟨by rw[aj _ _ _ _ (by omega)];exact h.c0,by rw[aj _ _ _ _ (by omega)];exact h.c1,h.nt.set (by omega),by rw[aj _ _ _ _ (by omega)];exact h.c6,aN _ _ _ _ h.c7,by rw[aj _ _ _ _ (by omega)];exact h.c8,by rw[aj _ _ _ _ (by omega)];exact h.c9,by rw[aj _ _ _ _ (by omega)];exact h.c10,by rw[aj _ _ _ _ (by omega)];exact h.c11,by rw[aj _ _ _ _ (by omega)];exact h.c12,by rw[aj _ _ _ _ (by omega)];exact h.c13⟩
theorem Kk{l:List Value}{o:Nat}{m:Ot}{vb va vc:Value}(h:Gf l o m vb va vc)(v:Value)(bs:List UInt8):Gf (l.set o v) o {m with bytes:=bs} v va vc:=
 ⟨aN _ _ _ _ h.c0,by rw[aj _ _ _ _ (by omega)];exact h.c1,h.nt.set (by omega),by rw[aj _ _ _ _ (by omega)];exact h.c6,by rw[aj _ _ _ _ (by omega)];exact h.c7,by rw[aj _ _ _ _ (by omega)];exact h.c8,by rw[aj _ _ _ _ (by omega)];exact h.c9,by rw[aj _ _ _ _ (by omega)];exact h.c10,by rw[aj _ _ _ _ (by omega)];exact h.c11,by rw[aj _ _ _ _ (by omega)];exact h.c12,by rw[aj _ _ _ _ (by omega)];exact h.c13⟩
def l9(e:Nat):Value:=if e=0 then .nilIface else .iface 57 (.int .i64 e)
theorem Kl(s t:Nat)(own:Own)(S o:Nat)(m:Ot)(l:List Value)(w:World)(hB:ak w S TS l)(hS:own S=s)(H:s<t)(G:wM own t w S l o m):
  Calls prog 148 #[.pointer (some ⟨S,o,none⟩)] w fun e w'=>e=.returned (l9 m.finish.2)/\gP s t own S o l w m.finish.1 w':=by
 obtain⟨a,c,va,vc,k1,hc,k2,k3,k4,V,Z,d2,d6,d7⟩:=G.open hB;have I:=hid (zM S o m.fin m.nt.given w Z d2);have f1:=hB.frozen (o+1);have O:=hid (vL hB hS H G (o+1) (.bool true) (by omega) (by omega) (m':={m with fin:=true}) (fun _ _ _ h=>R8 h true) rfl rfl rfl);have U:=hid (gP.refl (s:=s) hB G (nI _ w));have F:Hid (m.finish=if(m.fin||m.nt.given)then(m,4)else({m with fin:=true},0)):=rfl;generalize m.finish=X at *;generalize (m.fin||m.nt.given)=B at *;clear G hB k1 k2 k3 k4 V d6 d7
 cases B with
 |true=>
  go_enter func148,ntmps148
  go_wp2_with fail
  refine I.out.mono ?_;rintro e w' ⟨rfl,rfl⟩;go_wp2;go_ret;exact⟨by rw[F.out];rfl,by rw[F.out];exact U.out⟩
 |false=>
  go_enter func148,ntmps148
  go_wp2_with fail
  refine I.out.mono ?_;rintro e w' ⟨rfl,rfl⟩;go_wp2;go_ret;exact⟨by rw[F.out];rfl,by rw[F.out];exact O.out⟩
theorem NJ(s t:Nat)(own:Own)(S o x:Nat)(m:Ot)(l:List Value)(w:World)(hB:ak w S TS l)(Z:own S=s)(H:s<t)(G:wM own t w S l o m):
  Calls prog 237 #[.pointer (some ⟨S,o,none⟩),.int .u64 x] w fun e w'=>e=.returned (.tuple #[])/\gP s t own S o l w {m with limit:=max m.limit x} w':=by
 obtain⟨a,c,va,vc,k1,hc,k2,k3,k4,O,U,V,d6,X⟩:=G.open hB;have f6:=hB.frozen (o+6);obtain⟨y,hy,F⟩:=max2 m.limit x;rw[<-F];have I:=hid (vL hB Z H G (o+6) (.int .u64 y) (by omega) (by omega) (m':={m with limit:=y}) (fun _ _ _ h=>Kj h y) rfl rfl rfl);clear G hB k1 k2 k3 k4 O U V X F;go_enter func237,ntmps237;go_wp2;go_end0;exact⟨rfl,I.out⟩
def pX(own:Own)(t a b:Nat):Own:=fun k=>if a<=k/\k<b then t else own k
theorem mg(own:Own)(t a b k:Nat)(h:k<a):pX own t a b k=own k:=if_neg (by omega)
theorem pY(own:Own)(t a b k:Nat)(h:a<=k)(F:k<b):pX own t a b k=t:=if_pos ⟨h,F⟩
theorem bU{t e:TypeId}{z:Value}{k bytes:Nat}(E:Df t e z k bytes){own:Own}{g:Nat}{w:World}{v:Value}{n:Nat}{l:List Value}(h:GT own g e k w v n l)(a:Addr)(m mc:Nat)(G:List Value)(hm:G.length=m*k)(h1:∀v∈G,v.oneCell'=true)(O:∀j u,G[j]?=some u->w.cell? (a.add j)=some u)(hsz:n+m<=1000000000000):
  ∃v' w' own',(∀H,(Builtin.append_ #[t,t] H #[v,.slice (some a) m mc]).run prog w=.ok v' w')/\GT own' g e k w' v' (n+m) (l++G)/\Kp [g] own own' w w':=by
 have Z:(n+m)*bytes<=140737488355328:=uj (Nat.mul_le_mul hsz E.hb) (by decide);have he:=h.len;have hk:(n+m)*k=n*k+m*k:=Nat.add_mul _ _ _
 have grow:∀base c (cs:List Value),cs=l->c<n+m->(base=none/\cs=[]\/∃b:Addr,base=some b/\cs.length=n*k/\∀j v,cs[j]?=some v->w.cell? (b.add j)=some v)->(∀v∈cs,v.oneCell'=true)->∃v' w' own',(∀H,(Builtin.append_ #[t,t] H #[.slice base n c,.slice (some a) m mc]).run prog w=.ok v' w')/\GT own' g e k w' v' (n+m) (l++G)/\Kp [g] own own' w w':=by
  intro base c cs h8 hr hold h9
  have U:=fun H=>eX (P:=prog) (w:=w) t t H e _ k bytes E.ht E.ht E.hi (base:=base) (n:=n) (c:=c) (m:=m) (mc:=mc) (cs:=cs) hold a (vs:=G) hm O h1 hr Z (by omega)
  have ha:=grownCap_ge w (n+m) c e;have I:=grownCap_le_maxLen w (n+m) c e (by unfold maxLen;omega);unfold maxLen at I
  have hc:cs.length=n*k:=by rw[h8,he]
  refine⟨_,_,pX own g w.heap.size (w.heap.size+1),U,.inr ⟨w.heap.size,_,_,rfl,pY _ _ _ _ _ (mR _) (by omega),ak.new w e _,?_,ha,I,by rw[jK];omega,?_,?_⟩,?_⟩
  ·rw[jK,jK,E.hz,hc,hm]
   have:(grownCap w (n+m) c e-(n+m))*k+(n+m)*k=grownCap w (n+m) c e*k:=by rw[<-Nat.add_mul];congr 1;omega
   omega
  ·rw[List.take_append_of_le_length (by rw[jK];omega),List.take_of_length_le (by rw[jK];omega),h8]
  ·intro u F
   rcases DJ.1 F with F|F
   ·rcases DJ.1 F with F|F
    ·exact h9 u F
    ·exact h1 u F
   ·exact E.h1 _ u F
  ·have hb:Below w.heap.size w (w.drew.alloc (.cells (cs++G++(Builtin.zeroCells z.cells (grownCap w (n+m) c e-(n+m))).toList).toArray e)):=(nI _ w).drew.alloc (mR _) _;exact⟨hb.os,hb.tape,hb.output,hb.size,fun b V _=>hb.block b V,fun b V=>mg _ _ _ _ _ V⟩
 rcases h with⟨rfl,rfl,rfl⟩|⟨b,cap,cs,rfl,ho,hB,h2,h3,h4,h5,h6,h7⟩
 ·by_cases h0:m=0
  ·subst h0
   obtain rfl:G=[]:=by simpa using hm
   exact⟨_,_,own,fun H=>vo E w (some a) mc H,.inl ⟨rfl,rfl,rfl⟩,Kp.refl _ _ _⟩
  ·exact grow none 0 [] rfl (by omega) (.inl ⟨rfl,rfl⟩) (fun v hv=>by simp at hv)
 ·by_cases hr:n+m<=cap
  ·have hw:(n+m)*k<=cap*k:=Nat.mul_le_mul_right _ hr
   have U:=fun H=>bS (P:=prog) (w:=w) t t H e _ k bytes E.ht E.ht E.hi (n:=n) (c:=cap) (m:=m) (mc:=mc) hB a (vs:=G) hm O h1 hr (by omega)
   have hf:=dR cs G (n*k) (by omega);refine⟨_,_,own,U,.inr ⟨b,cap,_,rfl,ho,hB.put _,?_,hr,h4,by rw[jK];omega,?_,aS h7 h1⟩,?_⟩
   ·rw[aG _ _ _ (by omega)];exact h2
   ·rw[hk,<-hm,hf,h6]
   ·have hg:=aT w b (splice cs (n*k) G);exact⟨hg.os,hg.tape,hg.output,hg.size,fun j X hn=>hg.block j X (fun e=>by simp at e;rw[e,ho]at hn;simp at hn),fun _ _=>rfl⟩
  ·exact grow (some ⟨b,0,none⟩) cap l rfl (by omega) (.inr ⟨_,rfl,h5,fun j u X=>by
    rw[Addr.add_lit,Nat.zero_add,hB.cell];rw[<-h6,List.getElem?_take]at X;split at X
    ·exact X
    ·cases X⟩) (fun u F=>h7 u (by rw[<-h6]at F;exact List.mem_of_mem_take F))
theorem tC:Df 60 5 (.int .u8 0) 1 1:=⟨u29,info5,fun n=>by rw[nZ];omega,sI,by omega⟩
theorem R9(s t:Nat)(own:Own)(S o:Nat)(m:Ot)(bs:List UInt8)(a:Addr)(c:Nat)(l:List Value)(w:World)(hB:ak w S TS l)(hS:own S=s)(h4:s<t)(V:wM own t w S l o m)(hl:m.bytes.length<=2048)(H:BytesAt w (some a) bs)(_hbl:bs.length<=1000000000):
  Calls prog 147 #[.pointer (some ⟨S,o,none⟩),.slice (some a) bs.length c] w fun e w'=>e=.returned (l9 (m.send bs).2)/\gP s t own S o l w (m.send bs).1 w':=by
 obtain⟨a1,c1,va,vc,k1,hc,k2,k3,k4,d0,d1,d2,d6,d7⟩:=V.open hB;have HC:=hid (zM S o m.fin m.nt.given w d1 d2);have HN:=hid (gP.refl (s:=s) hB V (nI _ w));have O:Hid (m.send bs=if(m.fin||m.nt.given)then(m,4)else if 2048<m.bytes.length+bs.length then(m,3)else({m with bytes:=m.bytes++bs},0)):=rfl
 have r1: -9223372036854775808<=2048-(m.bytes.length:Int):=by omega
 have r2:2048-(m.bytes.length:Int)<9223372036854775808:=by omega
 generalize m.send bs=X at *;generalize (m.fin||m.nt.given)=B at *
 cases B with
 |true=>
  clear V hB k1 k2 k3 k4 d0 d6 d7 H;go_enter func147,ntmps147
  go_wp2_with fail
  refine HC.out.mono ?_;rintro e w' ⟨rfl,rfl⟩;go_wp2;go_ret;exact⟨by rw[O.out];rfl,by rw[O.out];exact HN.out⟩
 |false=>
  by_cases F:2048<m.bytes.length+bs.length
  ·have h3:2048-(m.bytes.length:Int)<(bs.length:Int):=by omega
   rw[if_pos F]at O;clear V hB k1 k2 k3 k4 d6 d7 H F;go_enter func147,ntmps147
   go_wp2_with fail
   refine HC.out.mono ?_;rintro e w' ⟨rfl,rfl⟩;go_wp2;go_ret;exact⟨by rw[O.out];rfl,by rw[O.out];exact HN.out⟩
  ·have h3:¬(2048-(m.bytes.length:Int)<(bs.length:Int)):=by omega
   rw[if_neg F]at O
   obtain⟨v',w1,aF,h0,hG,U⟩:=bU tC k2 a bs.length c (aJ bs) (by rw[aR];omega) (dB bs) (fun j u hj=>by
    have Z:j<bs.length:=by have:=(List.getElem?_eq_some_iff.1 hj).1;rwa[aR]at this
    obtain⟨b,off,ha,hc⟩:=H j Z;cases ha;rw[Addr.add_lit,hc];simp[aJ,Z]at hj
    rw[<-hj]) (by omega)
   obtain⟨a2,c2,rfl,_,_⟩:=hG.shape;rw[<-fZ]at hG
   have h2:own S∉[t]:=by rw[hS];simp;omega
   have G:=aK hB U h2
   have hQ:Hid (gP s t own S o l w {m with bytes:=m.bytes++bs} (w1.setCell ⟨S,o,none⟩ (.slice a2 (m.bytes.length+bs.length) c2))):=by
    have h1:=cu.one G o (.slice a2 (m.bytes.length+bs.length) c2) o 14 (by omega) (by omega);have I:=h1.kp (s:=s) (own:=aF) (by rw[U.ext _ hB.lt,hS]) (T:=[s]) (by simp);refine⟨aF,_,(U.mono (by simp)).trans (I.mono (by simp)),h1.blk,h1.win,_,va,vc,Kk k1 _ _,?_,(k3.kp U (by simp)).kp I (by simp;omega),(k4.kp U (by simp)).kp I (by simp;omega)⟩;have:=hG.kp I (by simp;omega);show GT _ _ _ _ _ _ (m.bytes++bs).length _;rw[jK];exact this
   have e0:w1.cell? ⟨S,o,none⟩=some (.slice a1 m.bytes.length c1):=by rw[G.cell];exact k1.c0
   have f0:=G.frozen o;clear V hB k1 k2 k3 k4 d6 d7 H F hG U G h2;go_enter func147,ntmps147
   go_wp2_with fail
   refine HC.out.mono ?_;rintro e w' ⟨rfl,rfl⟩
   go_wp2_with (at_builtin;refine Lib.wpList_append_run _ rfl _ _ _ _ rfl _ _ rfl rfl _ _ (h0 _) ?_)
   go_wp2;go_ret;exact⟨by rw[O.out];rfl,by rw[O.out];exact hQ.out⟩
end Go.Proofs.YtphbledmopchnaaGreatDoor.Sd
