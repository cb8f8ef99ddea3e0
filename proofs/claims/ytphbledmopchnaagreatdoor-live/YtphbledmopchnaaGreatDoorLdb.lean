import Derived.Test.YtphbledmopchnaaGreatDoorLbc
import Derived.Test.YtphbledmopchnaaGreatDoorLbd
import Derived.Test.YtphbledmopchnaaGreatDoorLda
open Go.RowKit.Below renaming refl->eT,heap_setCell->lg
open Nat renaming le_refl->eB,lt_of_lt_of_le->mE,zero_le->mI,le_trans->mK
set_option maxHeartbeats 4000000
set_option maxRecDepth 100000
namespace Go.Proofs.YtphbledmopchnaaGreatDoor.Sd
open Go.RowKit Go.Lib Mm St Tryz
theorem qaw(sp so:Nat)(l:bO)(lo hi:Nat)(base:Option Addr)(c:Nat)(bf:Int)(fl:Nat)(rs:bW)(w:World)(g:Rg.fI rs)(hB:Small rs)(j:rs.length<=1000000)(d:lo<=hi)(b:hi<18446744073709551616)(hs:mM w sp so l bf fl base rs.length c)(R:jB w sp base c rs)(i:rs.length<=c)(a:c<=9223372036854775807):Calls prog 168 #[aI sp so,.agg #[uZ lo,uZ hi]] w fun e w'=>e=.returned (.tuple #[])/\∃f,Gj w' sp so l bf fl (Rg.ins lo hi rs) (some f)/\Kept w w' sp (base.map (·.block))/\(some f=base.map (·.block)\/w.heap.size<=f):=by
 by_cases h:Rg.jN lo rs<Rg.iJ hi rs;·exact L6 sp so lo hi base c bf fl rs l w g hB j d b hs R i a h
 ·exact LZ sp so lo hi base c bf fl rs l w g hB j d b hs R i a h
theorem Ay.cells{w:World}{sp so:Nat}{l:bO}{bf:Int}{fl:Nat}{rs:bW}{row:Option Nat}(h:Ay w sp so l bf fl rs row):∃base c,w.cell? (aB sp so)=some (iZ bf)/\w.cell? (aB sp (so+1))=some (uZ fl)/\w.cell? (aB sp (so+2))=some (.slice base rs.length c):=by obtain⟨base,c,h1,_⟩:=h;exact⟨base,c,h1.cell0,h1.EH,h1.m_⟩
theorem Ay.drewN{w:World}{sp so:Nat}{l:bO}{bf:Int}{fl:Nat}{rs:bW}{row:Option Nat}(h:Ay w sp so l bf fl rs row)(q:Nat):Ay (w.drewN q) sp so l bf fl rs row:=by obtain⟨base,c,h1,a,b,d,e⟩:=h;exact⟨base,c,h1,a,b,d,e.of_heap (fun _ _=>rfl)⟩
theorem BO(sp so:Nat)(bf:Int)(w:World)(a:w.cell? (aB sp so)=some (iZ bf)):Calls prog 169 #[aI sp so] w fun e w'=>e=.returned (iZ (max bf 1))/\w'=w:=by go_enter func169,ntmps169;go_wp2;go_ret;exact⟨St.kK aj,rfl⟩
theorem Py(sp so:Nat)(l0:bO)(bf:Int)(fl:Nat)(rs:bW)(row:Option Nat)(w:World)(z:Ay w sp so l0 bf fl rs row)(o:2<=rs.length)(R:rs.length<=1000001)(P:(rs.getD 0 (0,0)).2+1<18446744073709551616):Calls prog 170 #[aI sp so] w fun e w'=>e=.returned (.tuple #[])/\∃d,Gj w' sp so l0 bf ((rs.getD 0 (0,0)).2+1) rs.tail (some d)/\Kept w w' sp row/\(some d=row\/w.heap.size<=d):=by
 obtain⟨base,c,h1,M,N,E,F⟩:=z;have A:=F.pG (i:=0) aj;rcases F with⟨_,y,_⟩|⟨b,l,rfl,hb,hB,hl,ht,hone⟩;·simp[y]at o
 obtain⟨m,B⟩:∃m,rs.length=m+1:=⟨rs.length-1,aj⟩;obtain⟨d,v,_,_,O,_⟩:=A;simp at v;subst v;have t:Hid (rs.tail.length=m/\(l.take (2*(m+1))).drop 2=St.bQ rs.tail):=⟨by simp;omega,by rw[<-B,ht,St.Jf]⟩;rw[B]at h1 M R o;generalize rs.tail=X at *
 generalize (rs.getD 0 (0,0)).2=x at *
 clear ht B;have I:((x+1:Nat):Int)=(x:Int)+1:=aj;obtain⟨q,j⟩:=bZ (w.setCell (aB sp (so+1)) (uZ ((x:Int)+1)));have g:mM q sp so (l0.set (so+1) (uZ ((x+1:Nat):Int))) bf (x+1) (some (aB b 0)) (m+1) c:=by rw[j,I];exact⟨h1.1.setCell (so+1) _,by rw[aA _ _ _ _ aj];exact h1.2.1,by rw[dG _ _ _ _ h1.2.2.1];rfl,by rw[aA _ _ _ _ aj];exact h1.2.2.2⟩
 have u:aS q b 170 l:=by rw[j];exact hB.kU _ _ hb
 have D:=St.aG (Gl b m c l q aj aj N aj u hl hone);have k2:w.cell? (aB sp (so+2))=some (dP b (m+1) c):=h1.m_;have k1:w.cell? (aB sp (so+1))=some (uZ fl):=h1.EH;have f1:=h1.1.frozen (so+1);have Y:q.cell? (aB sp (so+2))=some (dP b (m+1) c):=g.m_;have n:Kept w q sp row:=by rw[j];exact⟨rfl,rfl,rfl,aP,fun k _ f _=>lg _ _ _ _ f⟩
 have C:q.heap.size=w.heap.size:=by rw[j];simp
 have p:=g.1.lt;have J:Hid (∀(e:Ending) (w':World),St.Out q w' (some b) e m ((l.take (2*(m+1))).drop 2)->∃d c',e=.returned (dP d m c')/\w'.cell? (aB sp (so+2))=some (dP b (m+1) c)/\w'.frozen? (aB sp (so+2))=false/\(∃r,Gj (w'.setCell (aB sp (so+2)) (dP d m c')) sp so l0 bf (x+1) X (some r)/\Kept w (w'.setCell (aB sp (so+2)) (dP d m c')) sp row/\(some r=row\/w.heap.size<=r))):=by
  rintro e w' ⟨d,c',l',rfl,o1,S,T,U,V,W,s,K⟩;have f:d≠sp:=by
   rcases K with h|h;·simp at h;rw[h];exact hb
   ·omega
  have a:=g.of (w':=w') (s.block sp p (fun e=>hb (by simpa using e.symm)));refine⟨d,c',rfl,a.m_,a.1.frozen (so+2),d,?_,?_,?_⟩
  ·refine⟨(l0.set (so+1) (uZ ((x+1:Nat):Int))).set (so+2) (dP d m c'),⟨some (aB d 0),c',?_,by rw[t.out.1];exact T,U,rfl,.inr ⟨d,l',rfl,f,o1.kU _ _ f,S,by rw[t.out.1,V,t.out.2],W⟩⟩,?_⟩;·rw[t.out.1];exact⟨a.1.setCell (so+2) _,by rw[aA _ _ _ _ aj];exact a.2.1,by rw[aA _ _ _ _ aj];exact a.2.2.1,dG _ _ _ _ a.2.2.2⟩
   ·exact(kW.set _ _ _ _ _ aj aj).trans (kW.set _ _ _ _ _ aj aj)
  ·refine⟨s.os.trans n.os,s.tape.trans n.tape,s.output.trans n.output,?_,?_⟩;·have:=s.size;show w.heap.size<=(w'.heap.modify _ _).size;simp;omega
   ·intro k Q f H;rw[lg _ _ _ _ f,s.block k aj (fun e=>H (by rw[e,E];rfl)),n.block k Q f H]
  ·rcases K with h|h;·exact .inl (by rw[h,E];rfl)
   ·exact .inr aj
 clear g u n C p h1 hB hl hone t I;go_enter func170,ntmps170;go_wp2_with fail;rw[<-j];clear j;go_wp2_with (go_at_call 225;refine D.out.mono ?_;intro e w' G;obtain⟨d,c',rfl,Z,q2,L⟩:=J.out e w' G;clear G J D);go_end0;exact⟨rfl,L⟩
def Z6(sp so:Nat)(l:bO)(bf:Int)(row:Option Nat)(w:World)(x:Nat×bW)(w':World):Prop:=
 ∃a,Gj w' sp so l bf x.1 x.2 a/\Kept w w' sp row/\(a=row\/∃b,a=some b/\w.heap.size<=b)
theorem Pz(sp so:Nat)(l:bO)(lo hi:Nat)(bf:Int)(fl:Nat)(rs:bW)(row:Option Nat)(w:World)(j:Ay w sp so l bf fl rs row)(b:Rg.Ok 18446744073709551616 1000000 fl rs)(s:hi<18446744073709551616):Calls prog 127 #[aI sp so,uZ lo,uZ hi] w fun e w'=>e=.returned (.tuple #[])/\Z6 sp so l bf row w (Rg.add (max bf 1).toNat fl rs lo hi) w':=by
 have d:=j;obtain⟨base,c,h1,J,K,L,M⟩:=j;have k1:w.cell? (aB sp (so+1))=some (uZ fl):=h1.EH;have n:((max lo fl:Nat):Int)=max (lo:Int) (fl:Int):=aj;by_cases i:hi<max lo fl
 ·have V:Hid (Z6 sp so l bf row w (Rg.add (max bf 1).toNat fl rs lo hi) w):=by
   unfold Hid Rg.add;rw[bK i];exact⟨row,⟨l,d,kW.refl _ _ _⟩,⟨rfl,rfl,rfl,eB _,fun _ _ _ _=>rfl⟩,.inl rfl⟩
  have H:(hi:Int)<max (lo:Int) (fl:Int):=aj;clear h1 J K L M d n i;go_enter func127,ntmps127;go_wp2_with fail;refine bodyPost_ret (results_none rfl _ _ _) rfl ?_;exact⟨rfl,V.out⟩
 ·have u:=b.len;have N:=qaw sp so l (max lo fl) hi base c bf fl rs w b.LA (TT b.LA b.hi) u aj s h1 M J K;rw[<-L,n]at N;have H:¬((hi:Int)<max (lo:Int) (fl:Int)):=aj;have C:Hid (Rg.add (max bf 1).toNat fl rs lo hi=if(max bf 1).toNat<(Rg.ins (max lo fl) hi rs).length then(((Rg.ins (max lo fl) hi rs).getD 0 (0,0)).2+1,(Rg.ins (max lo fl) hi rs).tail)else(fl,Rg.ins (max lo fl) hi rs)):=by unfold Hid Rg.add;rw[aU i]
  have q:=St.aG (Rg.nY rs (max lo fl) hi aj b.LA);have G:Hid (∀r∈Rg.ins (max lo fl) hi rs,r.2<18446744073709551616):=fun r o=>by have:=Rg.sZ rs (max lo fl) hi 18446744073709551615 aj (fun x S=>bV (b.hi x S)) r o;omega
  have X:=Rg.qV rs (max lo fl) hi;have y:=St.aG N;generalize Rg.ins (max lo fl) hi rs=R at *
  generalize Rg.add (max bf 1).toNat fl rs lo hi=A at *
  clear N n h1 J K L M d i b s;by_cases Y:max bf 1<(R.length:Int)
  ·have D:Hid (A=((R.getD 0 (0,0)).2+1,R.tail)):=by unfold Hid;rw[C.out,bK aj]
   have S:(R.getD 0 (0,0)).2+1<18446744073709551616:=Rg.XV q.out G.out aj;have U:Hid (∀W l1 v,Ay W sp so l1 bf fl R v->Calls prog 170 #[aI sp so] W fun e w'=>e=.returned (.tuple #[])/\∃g,Gj w' sp so l1 bf ((R.getD 0 (0,0)).2+1) R.tail (some g)/\Kept W w' sp v/\(some g=v\/W.heap.size<=g)):=
    fun W l1 v hs=>Py sp so l1 bf fl R v W hs aj aj S
   clear C q G;go_enter func127,ntmps127;go_wp2_with (go_at_call 168;refine bN y.out ?_;rintro w' ⟨g,a,t,o⟩);obtain⟨l1,a,f⟩:=a;have k:=St.aG f;clear f;obtain⟨m,c',T,Z,j2⟩:=a.cells;have F:=St.aG a;have z:=St.aG t;have B:=St.aG o;clear a t o y k1 H;go_quiet ((go_at_call 169;exact Calls.quiet_of_same (BO sp so bf _ (by simpa using T))));have E:=St.aG (U.out _ _ _ (Ay.drewN F.out nq));go_wp2_with (go_at_call 170;refine bN E.out ?_;rintro w2 ⟨b2,p,O,P⟩);go_end0;refine⟨rfl,some b2,by rw[D.out];obtain⟨l2,p,Q⟩:=p;exact⟨l2,p,k.out.trans Q⟩,?_,?_⟩
   ·refine(Kept.drewN z.out nq).trans O ?_;rcases B.out with h|h;·exact .inl h
    ·exact .inr ⟨g,rfl,h⟩
   ·have gQ:=z.out.size;rcases P with h|h
    ·rw[h];rcases B.out with I|I;·exact .inl I
     ·exact .inr ⟨g,rfl,I⟩
    ·exact .inr ⟨b2,rfl,mK gQ h⟩
  ·have D:Hid (A=(fl,R)):=by unfold Hid;rw[C.out,aU aj]
   clear C q G;go_enter func127,ntmps127;go_wp2_with (go_at_call 168;refine bN y.out ?_;rintro w' ⟨g,a,t,o⟩);obtain⟨l1,a,f⟩:=a;have k:=St.aG f;clear f;obtain⟨m,c',T,Z,j2⟩:=a.cells;have F:=St.aG a;have z:=St.aG t;have B:=St.aG o;clear a t o y k1 H;go_quiet ((go_at_call 169;exact Calls.quiet_of_same (BO sp so bf _ (by simpa using T))));go_wp2;go_end0;refine⟨rfl,some g,by rw[D.out];exact⟨l1,Ay.drewN F.out _,k.out⟩,Kept.drewN z.out _,?_⟩;rcases B.out with h|h;·exact .inl h
   ·exact .inr ⟨g,rfl,h⟩
end Go.Proofs.YtphbledmopchnaaGreatDoor.Sd
namespace Go.Proofs.YtphbledmopchnaaGreatDoor.Sd
open Go.RowKit Go.Lib Mm Tryz
theorem Kp.lH{T:List Nat}{oZ aY:Own}{w w':World}(h:Kp T (loc oZ w.heap.size) aY w w'):Kp T oZ aY w w':=
 ⟨h.os,h.tape,h.output,h.size,fun b hb a=>h.cZ b hb (by rw[jv _ _ _ hb];exact a),fun b hb=>by rw[h.ext b hb,jv _ _ _ hb]⟩
theorem mh.loc{oZ:Own}{t:Nat}{w:World}{S:Nat}{va:Value}{rs:bW}(h:mh oZ t w S va rs):mh (loc oZ w.heap.size) t w S va rs:=by obtain⟨base,c,h1,d,f,a,g⟩:=h;exact⟨base,c,h1,d,f,a,fun b e=>by rw[jv _ _ _ (St.oh a b e).2,g b e]⟩
theorem GT.loc{oZ:Own}{t:Nat}{e:TypeId}{k:Nat}{w:World}{v:Value}{n:Nat}{l:bO}(h:GT oZ t e k w v n l):GT (loc oZ w.heap.size) t e k w v n l:=by
 rcases h with h|⟨g,cap,cs,h1,b,a,c⟩;·exact .inl h
 ·exact .inr ⟨g,cap,cs,h1,by rw[jv _ _ _ a.lt,b],a,c⟩
theorem TW{oZ:Own}{t:Nat}{w:World}{S:Nat}{va:Value}{rs:bW}{l:bO}{so:Nat}{bf:Int}{fl:Nat}(hB:aS w S TS l)(c0:l[so]?=some (iZ bf))(c1:l[so+1]?=some (uZ fl))(c2:l[so+2]?=some va)(g:mh oZ t w S va rs):∃row,Ay w S so l bf fl rs row/\∀b,row=some b->oZ b=t:=by obtain⟨base,c,rfl,a,d,e,f⟩:=g;exact⟨base.map (·.block),⟨base,c,⟨hB,c0,c1,c2⟩,a,d,rfl,e⟩,f⟩
def PG(s t:Nat)(oZ:Own)(S so:Nat)(l:bO)(bf:Int)(w:World)(x:Nat×bW)(w':World):Prop:=
 ∃aY l' a,Kp [s,t] oZ aY w w'/\aS w' S TS l'/\kW l l' so 3/\l'[so]?=some (iZ bf)/\l'[so+1]?=some (uZ x.1)/\l'[so+2]?=some a/\mh aY t w' S a x.2
theorem Ob(s t:Nat)(oZ:Own)(S so lo hi:Nat)(l:bO)(bf:Int)(fl:Nat)(rs:bW)(va:Value)(w:World)(hB:aS w S TS l)(p:oZ S=s)(c0:l[so]?=some (iZ bf))(c1:l[so+1]?=some (uZ fl))(c2:l[so+2]?=some va)(o:mh oZ t w S va rs)(h:St.Rg.Ok 18446744073709551616 1000000 fl rs)(g:hi<18446744073709551616):Calls prog 127 #[aI S so,uZ lo,uZ hi] w fun e w'=>e=.returned (.tuple #[])/\PG s t oZ S so l bf w (St.Rg.add (max bf 1).toNat fl rs lo hi) w':=by
 obtain⟨row,n,a⟩:=TW hB c0 c1 c2 o;refine bN (Pz S so l lo hi bf fl rs row w n h g) ?_;rintro w' ⟨z,⟨l',f,q⟩,d,v⟩;obtain⟨base,c,⟨k,b2,b3,m⟩,k1,k2,x,j⟩:=f;refine⟨rfl,fun b=>if w.heap.size<=b/\b<w'.heap.size then t else oZ b,l',_,⟨d.os,d.tape,d.output,d.size,fun b hb i=>d.block b hb (fun e=>i (by rw[e,p];simp)) (fun e=>i (by rw[a b e.symm];simp)),fun b hb=>aU aj⟩,k,q,b2,b3,m,base,c,rfl,k1,k2,j,fun b hb=>?_⟩;have u:=(St.oh j b hb).2;rw[<-x]at hb;simp only[];rcases v with e|⟨y,e,r⟩
 ·split;·rfl
  ·exact a b (by rw[<-e,hb])
 ·rw[e]at hb;simp at hb;rw[bK aj]
theorem X9(t:Nat)(oZ:Own)(S so v:Nat)(l:bO)(bf:Int)(fl:Nat)(rs:bW)(va:Value)(w:World)(hB:aS w S TS l)(c0:l[so]?=some (iZ bf))(c1:l[so+1]?=some (uZ fl))(c2:l[so+2]?=some va)(b:mh oZ t w S va rs)(d:St.Rg.fI rs)(f:rs.length<=1000000):Calls prog 128 #[aI S so,uZ v] w fun e w'=>e=.returned (.bool (NS.has ⟨fl,rs⟩ v))/\bJ w w':=by obtain⟨base,c,rfl,g,h,a,i⟩:=b;exact TQ S so v base c bf fl rs l w d f ⟨hB,c0,c1,c2⟩ a
structure vw (x:NS):Prop where
 fl:x.fl=0
 so:St.Rg.fI x.rs
 hi:∀r∈x.rs,r.2<=2048
theorem vZ:∀(rs:bW) (a B:Nat),St.Rg.fI rs->(∀r∈rs,a<=r.1)->(∀r∈rs,r.2<=B)->rs.length<=B+1-a
 |[],_,_,_,_,_=>aP
 |r::t,a,B,h,ha,hb=>by have h1:=h.1;have c:=ha r aP;have d:=hb r aP;have:=vZ t (a+1) B h.2.2 (fun x b=>bV (h.2.1 x b)) (fun x b=>hb x (by simp[b]));simp only[List.length_cons];omega
theorem vw.len{x:NS}(h:vw x):x.rs.length<=2049:=by have:=vZ x.rs 0 2048 h.so (fun _ _=>mI _) h.hi;omega
theorem vw.ok{x:NS}(h:vw x):St.Rg.Ok 18446744073709551616 1000000 x.fl x.rs:=
 ⟨h.so,fun r a=>bV (h.hi r a),bV h.len,by rw[h.fl];omega⟩
theorem vw.add{x:NS}(h:vw x)(lo hi:Nat)(b:lo<=hi)(a:hi<=2048):vw (x.add 2049 lo hi)/\x.add 2049 lo hi=⟨0,St.Rg.ins lo hi x.rs⟩:=by
 have h1:=St.Rg.nY x.rs lo hi b h.so;have c:∀r∈St.Rg.ins lo hi x.rs,r.2<=2048:=St.Rg.sZ x.rs lo hi 2048 a h.hi;have d:=vZ _ 0 2048 h1 (fun _ _=>mI _) c;have e:x.add 2049 lo hi=⟨0,St.Rg.ins lo hi x.rs⟩:=by unfold NS.add St.Rg.add;rw[h.fl,aU aj,show max lo 0=lo by omega,aU aj]
 rw[e];exact⟨⟨rfl,h1,c⟩,rfl⟩
theorem vH(s t:Nat)(oZ:Own)(S so:Nat)(f:Fr)(rv:Value)(l:bO)(x:NS)(va:Value)(w:World)(hB:aS w S TS l)(G:oZ S=s)(c0:l[so]?=some (iZ 2049))(c1:l[so+1]?=some (uZ x.fl))(c2:l[so+2]?=some va)(F:mh oZ t w S va x.rs)(p:vw x)(u:f.aD<=dK)(hd:f.data.size<=1000000000)(z:f.bn=true\/0<bC f):Calls prog 345 #[aI S so,fM f rv] w fun e w'=>e=.returned (.tuple #[])/\PG s t oZ S so l 2049 w ((rU x f).fl,(rU x f).rs) w':=by
 obtain⟨W,i⟩:=bZ (w.alloc (.cells (gG f rv).toArray 65));have hb:aS W w.heap.size 65 (gG f rv):=by rw[i];exact aS.new w 65 _
 have m:bJ w W:=by rw[i];exact(eT _ w).alloc (eB _) _
 have gQ:W.heap.size=w.heap.size+1:=by rw[i];simp
 have r:=aG (kG f rv W u hd);obtain⟨H,I,J,K,L,M,N,O,P,Q,R⟩:=bL hb;have c:Hid (∀(y:World) (hi:Nat),bJ W y->hi=(if f.bn then bC f else bC f-1)->Calls prog 127 #[aI S so,uZ f.aD,uZ hi] y fun e w'=>e=.returned (.tuple #[])/\PG s t oZ S so l 2049 w ((rU x f).fl,(rU x f).rs) w'):=fun y hi Y o=>by
  have g:bJ w y:=m.trans (Y.mono aj);have n:bC f<18446744073709551616:=by unfold bC;unfold dK at u;omega
  refine(Ob s t oZ S so f.aD hi l 2049 x.fl x.rs va y (hB.of_heap (g.block _ hB.lt)) G c0 c1 c2 (F.kp (Kp.below (T:=[]) g) aP) p.ok (by rw[o];split<;>omega)).mono ?_;rintro e w' ⟨rfl,aY,l',A,h1,D⟩;refine⟨rfl,aY,l',A,⟨h1.os.trans g.os,h1.tape.trans g.tape,h1.output.trans g.output,mK g.size h1.size,fun b a X=>(h1.cZ b (mE a g.size) X).trans (g.block b a),fun b a=>h1.ext b (mE a g.size)⟩,?_⟩;rw[o]at D;exact D
 have n:bC f<18446744073709551616:=by unfold bC;unfold dK at u;omega
 clear hB F c0 c1 c2 p u hd G;generalize bC f=E at *
 have C:=aG hb;clear hb m;unfold fM;unfold gG at i;rcases(Bool.eq_false_or_eq_true f.bn).symm with hf|hf
 ·have h0:0<E:=by
   rcases z with h|h;·rw[hf]at h;cases h
   ·exact h
  rw[hf]at c;have j:((E-1:Nat):Int)=(E:Int)-1:=aj;have k:=aG hf;have U:0<=(E:Int)-1:=aj;have V:(E:Int)-1<18446744073709551616:=aj;clear hf;go_enter func345,ntmps345;go_wp2_with fail;rw[<-i];refine bN r.out ?_;rintro y d;have a:=C.out.of_heap (d.block _ aj);obtain⟨Z,y1,y2,y3,y4,B,y6,y7,y8,y9,yf⟩:=bL a;rw[k.out]at B;have q:=aG (c.out y (E-1) d rfl);rw[j]at q;clear d a H I J K L M N O P Q R c j i r;go_wp2_with fail;refine bN q.out ?_;rintro w' v;go_wp2;go_end0;exact⟨rfl,v⟩
 ·rw[hf]at c;have k:=aG hf;clear hf;go_enter func345,ntmps345;go_wp2_with fail;rw[<-i];refine bN r.out ?_;rintro y d;have a:=C.out.of_heap (d.block _ aj);obtain⟨Z,y1,y2,y3,y4,B,y6,y7,y8,y9,yf⟩:=bL a;rw[k.out]at B;have q:=aG (c.out y E d rfl);clear d a H I J K L M N O P Q R c i r;go_wp2_with fail;refine bN q.out ?_;rintro w' v;go_wp2;go_end0;exact⟨rfl,v⟩
def ko(s t:Nat)(oZ:Own)(S o:Nat)(l:bO)(w:World)(m':Ot)(w':World):Prop:=
 ∃aY l',Kp [s,t,t+1,t+2] oZ aY w w'/\aS w' S TS l'/\kW l l' o 14/\BP aY t w' S l' o m'
theorem ko.refl{s t:Nat}{oZ:Own}{S o:Nat}{l:bO}{w w':World}{m:Ot}(hB:aS w S TS l)(a:BP oZ t w S l o m)(hb:bJ w w'):ko s t oZ S o l w m w':=
 ⟨oZ,l,Kp.below hb,hB.of_heap (hb.block _ hB.lt),kW.refl _ _ _,a.kp (Kp.below (T:=[]) hb) aP aP aP (kW.refl l (o+14) 0) aj⟩
theorem ko.after{s t:Nat}{oZ:Own}{S o:Nat}{l:bO}{w W w':World}{m':Ot}(hb:bJ w W)(h:ko s t oZ S o l W m' w'):ko s t oZ S o l w m' w':=by obtain⟨a,l1,h1,b⟩:=h;exact⟨a,l1,(Kp.below hb).trans h1,b⟩
theorem TY{s t:Nat}{oZ:Own}{S o:Nat}{l:bO}{w w':World}{m:Ot}{x:NS}(j:s<t)(i:BP oZ t w S l o m)(h:PG s (t+1) oZ S (o+8) l 2049 w (x.fl,x.rs) w'):ko s t oZ S o l w {m with cK:=x} w':=by
 obtain⟨aY,l',b,h1,c,a,d,e,f,g⟩:=h;obtain⟨vb,va,vc,k1,k2,n,k⟩:=i;refine⟨aY,l',h1.mono aP,c,a.mono aj aj,vb,b,vc,⟨?_,?_,k1.nt.gN a aj,?_,?_,d,e,f,?_,?_,?_⟩,k2.kp h1 (by simp;omega),g,k.kp h1 (by simp;omega)⟩;·rw[a.2 _ aj];exact k1.c0
 ·rw[a.2 _ aj];exact k1.c1
 ·rw[a.2 _ aj];exact k1.c6
 ·rw[a.2 _ aj];exact k1.c7
 ·rw[a.2 _ aj];exact k1.zU
 ·rw[a.2 _ aj];exact k1.zV
 ·rw[a.2 _ aj];exact k1.c13
theorem T9{s t:Nat}{oZ:Own}{S o:Nat}{l:bO}{w w':World}{m:Ot}{x:NS}(j:s<t)(i:BP oZ t w S l o m)(h:PG s (t+2) oZ S (o+11) l 2049 w (x.fl,x.rs) w'):ko s t oZ S o l w {m with aM:=x} w':=by
 obtain⟨aY,l',b,h1,c,a,d,e,f,g⟩:=h;obtain⟨vb,va,vc,k1,k2,k,n⟩:=i;refine⟨aY,l',h1.mono aP,c,a.mono aj aj,vb,va,b,⟨?_,?_,k1.nt.gN a aj,?_,?_,?_,?_,?_,d,e,f⟩,k2.kp h1 (by simp;omega),k.kp h1 (by simp;omega),g⟩;·rw[a.2 _ aj];exact k1.c0
 ·rw[a.2 _ aj];exact k1.c1
 ·rw[a.2 _ aj];exact k1.c6
 ·rw[a.2 _ aj];exact k1.c7
 ·rw[a.2 _ aj];exact k1.c8
 ·rw[a.2 _ aj];exact k1.c9
 ·rw[a.2 _ aj];exact k1.vY
structure ru (f:Fr):Prop where
 o:f.aD<=2048
 e:bC f<=2048
 ne:f.bn=true\/0<bC f
theorem ru.d{f:Fr}(h:ru f):f.data.size<=1000000000:=by have:=h.e;unfold bC at this;omega
theorem ru.om{f:Fr}(h:ru f):f.aD<=dK:=by have:=h.o;unfold dK;omega
theorem AY(s t:Nat)(oZ:Own)(S o:Nat)(m:Ot)(f:Fr)(rv:Value)(l:bO)(w:World)(hB:aS w S TS l)(p:oZ S=s)(j:s<t)(n:BP oZ t w S l o m)(d:vw m.cK)(g:ru f):Calls prog 319 #[aI S o,fM f rv] w fun e w'=>e=.returned (.tuple #[])/\ko s t oZ S o l w (m.aw f) w':=by
 obtain⟨W,c⟩:=bZ (w.alloc (.cells (gG f rv).toArray 65));have hb:aS W w.heap.size 65 (gG f rv):=by rw[c];exact aS.new w 65 _
 have a:bJ w W:=by rw[c];exact(eT _ w).alloc (eB _) _
 have k:=n.kp (Kp.below (T:=[]) a) aP aP aP (kW.refl l (o+14) 0) aj;have b:=hB.of_heap (a.block _ hB.lt);have u:Hid (∀q,Calls prog 345 #[(aI S (o+8)),fM f rv] (W.drewN q) fun e w'=>e=.returned (.tuple #[])/\ko s t oZ S o l w (m.aw f) w'):=fun q=>by have i:=k.kp (Kp.below (w':=W.drewN q) (T:=[]) ⟨rfl,rfl,rfl,eB _,fun _ _=>rfl⟩) aP aP aP (kW.refl l (o+14) 0) aj;obtain⟨vb,va,vc,k1,k2,r,x⟩:=i;refine bN (vH s (t+1) oZ S (o+8) f rv l m.cK va (W.drewN q) b p k1.c8 k1.c9 k1.vY r d g.om g.d g.ne) ?_;rintro w' h;exact⟨rfl,ko.after (W:=W.drewN q) ⟨a.os,a.tape,a.output,a.size,a.block⟩ (TY j ⟨vb,va,vc,k1,k2,r,x⟩ h)⟩
 obtain⟨y,z,A,B,C,D,E,F,G,H,I⟩:=bL hb;clear hb a k b n hB p d g;unfold fM at *
 unfold gG at c;go_enter func319,ntmps319;go_wp2_with fail;rw[<-c];clear c;go_region_with (go_at_call 345;refine bN (u.out _) ?_;rintro w' v);all_goals go_wp2
 all_goals go_end0
 all_goals exact⟨rfl,v⟩
theorem X_(s t:Nat)(oZ:Own)(S o:Nat)(m:Ot)(f:Fr)(rv:Value)(l:bO)(w:World)(hB:aS w S TS l)(F:oZ S=s)(p:s<t)(K:0<s)(E:BP oZ t w S l o m)(n:vw m.cK)(z:vw m.aM)(k:ru f):Calls prog 391 #[aI S o,fM f rv] w fun e w'=>e=.returned (.tuple #[])/\ko s t oZ S o l w (m.cm f) w':=by
 obtain⟨W,i⟩:=bZ (w.alloc (.cells (gG f rv).toArray 65));have hb:aS W w.heap.size 65 (gG f rv):=by rw[i];exact aS.new w 65 _
 have a:bJ w W:=by rw[i];exact(eT _ w).alloc (eB _) _
 obtain⟨ow,b⟩:=bZ (loc oZ w.heap.size);have c:ow S=s:=by rw[b,jv _ _ _ hB.lt,F]
 have B:BP ow t w S l o m:=by obtain⟨vb,va,vc,k1,k2,A,r⟩:=E;rw[b];exact⟨vb,va,vc,k1,k2.loc,A.loc,r.loc⟩
 have C:=B.kp (Kp.below (T:=[]) a) aP aP aP (kW.refl l (o+14) 0) aj;have g:=hB.of_heap (a.block _ hB.lt);have u:Hid (∀q,Calls prog 345 #[(aI S (o+11)),fM f rv] (W.drewN q) fun e w'=>e=.returned (.tuple #[])/\aS w' w.heap.size 65 (gG f rv)/\Calls prog 319 #[aI S o,fM f rv] w' fun e d=>e=.returned (.tuple #[])/\ko s t oZ S o l w (m.cm f) d):=fun q=>by have x:=C.kp (Kp.below (w':=W.drewN q) (T:=[]) ⟨rfl,rfl,rfl,eB _,fun _ _=>rfl⟩) aP aP aP (kW.refl l (o+14) 0) aj;obtain⟨vb,va,vc,k1,k2,A,r⟩:=x;refine bN (vH s (t+2) ow S (o+11) f rv l m.aM vc (W.drewN q) g c k1.zU k1.zV k1.c13 r z k.om k.d k.ne) ?_;rintro w' h;have hq:=ko.after (W:=W.drewN q) ⟨a.os,a.tape,a.output,a.size,a.block⟩ (T9 p ⟨vb,va,vc,k1,k2,A,r⟩ h);obtain⟨eZ,l1,O,h1,h2,_⟩:=h;refine⟨rfl,cO hb ⟨h1.os,h1.tape,h1.output,h1.size,h1.cZ,h1.ext⟩ (by rw[b,iX _ _ _ (eB _)];simp;omega),?_⟩;obtain⟨gu,l2,v,H,I,J⟩:=hq;refine bN (AY s t gu S o _ f rv l2 w' H (by rw[v.ext _ hB.lt,c]) p J n k) ?_;rintro d y;obtain⟨P,L,p1,p2,M,N⟩:=y;rw[b]at v;exact⟨rfl,P,L,v.lH.trans p1,p2,I.trans M,N⟩
 obtain⟨Q,R,U,V,X,Y,Z,x7,x8,x9,xf⟩:=bL hb;clear hb a C g E hB F n k B b c;unfold fM at *
 unfold gG at i u;go_enter func391,ntmps391;go_wp2_with fail;rw[<-i];clear i;go_region_with (go_at_call 345;refine bN (u.out _) ?_;rintro w' ⟨j,D⟩;obtain⟨y0,y1,y2,y3,y4,y5,y6,y7,y8,y9,yf⟩:=bL j;have G:=aG D;clear D j Q R U V X Y Z x7 x8 x9 xf u);all_goals go_wp2_with fail
 all_goals(refine bN G.out ?_;rintro d y)
 all_goals go_wp2
 all_goals go_end0
 all_goals exact⟨rfl,y⟩
theorem BR{a b c d:Int}(h:a=c)(e:b=d):Ending.returned (.tuple #[uZ a,uZ b])=.returned (.tuple #[uZ c,uZ d]):=by rw[h,e]
theorem PI(lo:Nat)(rs:bW)(e i:Nat)(hi:i<rs.length):gL lo (rs.drop i) e=if lo<(rs.getD i (0,0)).1 then(lo,min (rs.getD i (0,0)).1 e)else if e<=(rs.getD i (0,0)).2 then(e,e)else gL ((rs.getD i (0,0)).2+1) (rs.drop (i+1)) e:=by
 rw[List.drop_eq_getElem_cons hi];have:rs.getD i (0,0)=rs[i]:=by simp[hi]
 rw[this];rfl
theorem T_(t:Nat)(oZ:Own)(S so d:Nat)(l:bO)(fl:Nat)(rs:bW)(va:Value)(w:World)(hB:aS w S TS l)(c1:l[so+1]?=some (uZ fl))(c2:l[so+2]?=some va)(D:mh oZ t w S va rs)(_hn:rs.length<=1000000)(hi:∀r∈rs,r.1<18446744073709551615/\r.2<18446744073709551615):Calls prog 344 #[aI S so,uZ d] w fun e w'=>e=.returned (.tuple #[(uZ ((NS.hole ⟨fl,rs⟩ d).1:Int)),(uZ ((NS.hole ⟨fl,rs⟩ d).2:Int))])/\bJ w w':=by
 obtain⟨base,c,rfl,p,N,v,C⟩:=D;have k1:w.cell? (aB S (so+1))=some (uZ fl):=by rw[hB.cell];exact c1
 have k2:w.cell? (aB S (so+2))=some (.slice base rs.length c):=by rw[hB.cell];exact c2
 obtain⟨X,q⟩:=bZ (NS.hole ⟨fl,rs⟩ d);rw[<-q];have u:Hid (gL fl (rs.drop 0) d=X):=by unfold Hid;rw[q];rfl
 have s:=aG v;have B:=aG hi;have A:=aG (fun lo i=>PI lo rs d i);clear v hi hB c1 c2 C q;go_enter func344,ntmps344;go_wp2_with fail;go_loopw [4,17] (fun M o wr=>∃(lo i:Nat),i<=rs.length/\M=(uZ lo)/\o=(iZ i)/\Hid (gL lo (rs.drop i) d=X)/\Hid (bJ w wr)) (fun _ o _=>rs.length-(RowKit.intOf o).toNat);case atStart=>exact⟨fl,0,mI _,rfl,rfl,u,eT _ w⟩
 case round=>
  clear u k1 k2;obtain⟨lo,i,F,rfl,rfl,m,g⟩:=hrel;by_cases h:i<rs.length
  ·have x:(i:Int)<(rs.length:Int):=aj;obtain⟨b,rfl,H,E,P,O⟩:=(s.out.of_heap (w':=wr) (fun b hb=>g.out.block b (by
    have:=(St.oh s.out b (by rw[hb];rfl)).2;exact this))).pG h
   have a:=A.out lo i h;rw[m.out]at a;have y:rs.getD i (0,0)∈rs:=by rw[List.getD_eq_getElem?_getD,List.getElem?_eq_getElem h];exact List.getElem_mem _
   obtain⟨I,J⟩:=B.out _ y;generalize (rs.getD i (0,0)).1=z at *
   generalize (rs.getD i (0,0)).2=n at *
   have j:=aG a;clear a m y;by_cases h1:lo<z
   ·obtain⟨L,G,k⟩:=min2 z d;have f:Hid (X=(lo,L)):=by unfold Hid;rw[j.out,bK h1,k]
    clear j k;go_wp2_with fail;go_region
    all_goals go_wp2
    all_goals go_ret2
    all_goals exact⟨BR (by rw[f.out]) (by rw[f.out]),(g.out.alloc g.out.size _).drew⟩
   ·by_cases p:d<=n
    ·have f:Hid (X=(d,d)):=by unfold Hid;rw[j.out,aU h1,bK p]
     clear j;go_wp2;go_ret2;exact⟨BR (by rw[f.out]) (by rw[f.out]),g.out.alloc g.out.size _⟩
    ·have f:Hid (gL (n+1) (rs.drop (i+1)) d=X):=by unfold Hid;rw[j.out,aU h1,aU p]
     clear j;have K:n+1<18446744073709551616:=aj;go_wp2_with fail;go_roundw;case rel=>exact⟨n+1,i+1,aj,by go_num,by go_num,f,g.out.alloc g.out.size _⟩
     case measure=>simp[RowKit.intOf];omega
  ·obtain rfl:i=rs.length:=aj;have f:Hid (X=(lo,d)):=by unfold Hid;rw[<-m.out,List.drop_length];rfl
   clear m;go_wp2;go_ret2;exact⟨BR (by rw[f.out]) (by rw[f.out]),g.out⟩
theorem BP.open{oZ:Own}{t:Nat}{w:World}{S:Nat}{l:bO}{o:Nat}{m:Ot}(h:BP oZ t w S l o m)(hB:aS w S TS l):∃a c va vc,L8 l o m (.slice a m.ay.length c) va vc/\m.ay.length<=c/\GT oZ t 5 1 w (.slice a m.ay.length c) m.ay.length (cB m.ay)/\mh oZ (t+1) w S va m.cK.rs/\mh oZ (t+2) w S vc m.aM.rs/\w.cell? (aB S o)=some (.slice a m.ay.length c)/\w.cell? (aB S (o+1))=some (.bool m.bn)/\w.cell? (aB S (o+2))=some (.bool m.nt.bX)/\w.cell? (aB S (o+6))=some (uZ m.aL)/\w.cell? (aB S (o+7))=some (uZ m.dw):=by obtain⟨vb,va,vc,k1,k2,d,e⟩:=h;obtain⟨a,c,rfl,b,_⟩:=k2.shape;exact⟨a,c,va,vc,k1,b,k2,d,e,by rw[hB.cell];exact k1.c0,by rw[hB.cell];exact k1.c1,by rw[hB.cell];exact k1.nt.c0,by rw[hB.cell];exact k1.c6,by rw[hB.cell];exact k1.c7⟩
theorem BU(t:Nat)(oZ:Own)(S o:Nat)(m:Ot)(aN:Nat)(l:bO)(w:World)(hB:aS w S TS l)(v:BP oZ t w S l o m)(hl:m.ay.length<=2048)(hs:m.dw+aN<18446744073709551616)(d:vw m.cK):Calls prog 314 #[aI S o,uZ aN] w fun e w'=>e=.returned (.tuple #[(uZ ((m.b_ aN).1:Int)),(uZ ((m.b_ aN).2:Int))])/\bJ w w':=by
 obtain⟨a,c,va,vc,k1,F,k2,y,D,i,n,p,s,u⟩:=v.open hB;have h:=aG (TU S o m.ay.length c m.aL m.dw aN a w hl hs i s u);obtain⟨E,j⟩:=bZ (min (min m.ay.length m.aL) (m.dw+aN));have z:=aG (fun q=>yU S o m.ay.length c E a m.bn m.nt.bX (w.drewN q) hl i n p);have k:=aG (fun q A=>T_ (t+1) oZ S (o+8) A l m.cK.fl m.cK.rs va (w.drewN q) hB k1.c9 k1.vY (y.kp (Kp.below (w':=w.drewN q) (T:=[]) ⟨rfl,rfl,rfl,eB _,fun _ _=>rfl⟩) aP) (bV d.len) (fun r x=>FN (d.hi r x) (d.so.le r x)));have g:Hid (m.b_ aN=m.cK.hole (if(m.bn&& !m.nt.bX&&decide (E=m.ay.length))then E+1 else E)):=by unfold Hid;rw[j];rfl
 have C:E<=2048:=aj;rw[<-j]at h;generalize m.b_ aN=X at *
 generalize (m.bn&& !m.nt.bX&&decide (E=m.ay.length))=B at *
 clear v hB k1 k2 y D i n p s u d hs j;cases B with
 |false=>go_enter func314,ntmps314;go_wp2_with fail;refine bN h.out ?_;rintro w' ⟨q,rfl⟩;go_wp2_with fail;refine bN (z.out q) ?_;rintro w' rfl;go_wp2_with fail;refine bN (k.out q E) ?_;rintro w' hb;have b:=aG hb;clear hb;go_wp2;go_ret2;exact⟨BR (by rw[g.out];rfl) (by rw[g.out];rfl),b.out.os,b.out.tape,b.out.output,b.out.size,b.out.block⟩
 |true=>go_enter func314,ntmps314;go_wp2_with fail;refine bN h.out ?_;rintro w' ⟨q,rfl⟩;go_wp2_with fail;refine bN (z.out q) ?_;rintro w' rfl;go_wp2_with fail;have f:=aG (k.out q (E+1));rw[show((E+1:Nat):Int)=(E:Int)+1 by omega]at f;refine bN f.out ?_;rintro w' hb;have b:=aG hb;clear hb;go_wp2;go_ret2;exact⟨BR (by rw[g.out];rfl) (by rw[g.out];rfl),b.out.os,b.out.tape,b.out.output,b.out.size,b.out.block⟩
theorem Ua(t:Nat)(oZ:Own)(S o:Nat)(m:Ot)(aN:Nat)(l:bO)(w:World)(hB:aS w S TS l)(b:BP oZ t w S l o m)(hl:m.ay.length<=2048)(hs:m.dw+aN<18446744073709551616)(a:vw m.cK):Calls prog 264 #[aI S o,uZ aN] w fun e w'=>e=.returned (.bool (m.aK aN))/\bJ w w':=by
 have d:=aG (BU t oZ S o m aN l w hB b hl hs a);have f:Hid (m.aK aN=decide ((m.b_ aN).1<(m.b_ aN).2)):=rfl;generalize m.aK aN=B at *
 generalize (m.b_ aN).1=lo at *
 generalize (m.b_ aN).2=hi at *
 clear hB b a;go_enter func264,ntmps264;go_wp2_with fail;refine bN d.out ?_;rintro w' hb;have c:=aG hb;clear hb;go_wp2;go_ret;exact⟨dI (by rw[f.out,decide_eq_decide]<;>omega),c.out⟩
theorem AZ{s t:Nat}{oZ:Own}{S o:Nat}{l:bO}{w:World}{m m':Ot}(hB:aS w S TS l)(c:oZ S=s)(k:s<t)(g:BP oZ t w S l o m)(j:Nat)(v:Value)(i:o<=j)(a:j<o+14)(h:∀vb va vc,L8 l o m vb va vc->L8 (l.set j v) o m' vb va vc)(d:m'.ay=m.ay)(e:m'.cK=m.cK)(f:m'.aM=m.aM):ko s t oZ S o l w m' (w.setCell (aB S j) v):=by
 have h1:=gM.one hB j v o 14 i a;obtain⟨vb,va,vc,k1,k2,n,p⟩:=g;have b:=h1.kp c (T:=[s]) aP;refine⟨oZ,_,h1.kp c aP,h1.cZ,h1.gN,vb,va,vc,h _ _ _ k1,?_,?_,?_⟩;·rw[d];exact k2.kp b (by simp;omega)
 ·rw[e];exact n.kp b (by simp;omega)
 ·rw[f];exact p.kp b (by simp;omega)
theorem D_.set{l:bO}{o j:Nat}{v:Value}{n:Nt}(h:D_ l o n)(a:j<o\/o+4<=j):D_ (l.set j v) o n:=
 ⟨(aA _ _ _ _ aj).trans h.c0,(aA _ _ _ _ aj).trans h.c1,(aA _ _ _ _ aj).trans h.c2,(aA _ _ _ _ aj).trans h.c3⟩
theorem Ya{l:bO}{o:Nat}{m:Ot}{vb va vc:Value}(h:L8 l o m vb va vc)(b:Bool):L8 (l.set (o+1) (.bool b)) o {m with bn:=b} vb va vc:=
 ⟨(aA _ _ _ _ aj).trans h.c0,dG _ _ _ _ h.c1,h.nt.set aj,(aA _ _ _ _ aj).trans h.c6,(aA _ _ _ _ aj).trans h.c7,(aA _ _ _ _ aj).trans h.c8,(aA _ _ _ _ aj).trans h.c9,(aA _ _ _ _ aj).trans h.vY,(aA _ _ _ _ aj).trans h.zU,(aA _ _ _ _ aj).trans h.zV,(aA _ _ _ _ aj).trans h.c13⟩
theorem PV{l:bO}{o:Nat}{m:Ot}{vb va vc:Value}(h:L8 l o m vb va vc)(x:Nat):L8 (l.set (o+6) (uZ x)) o {m with aL:=x} vb va vc:=
 ⟨(aA _ _ _ _ aj).trans h.c0,(aA _ _ _ _ aj).trans h.c1,h.nt.set aj,dG _ _ _ _ h.c6,(aA _ _ _ _ aj).trans h.c7,(aA _ _ _ _ aj).trans h.c8,(aA _ _ _ _ aj).trans h.c9,(aA _ _ _ _ aj).trans h.vY,(aA _ _ _ _ aj).trans h.zU,(aA _ _ _ _ aj).trans h.zV,(aA _ _ _ _ aj).trans h.c13⟩
theorem Jg{l:bO}{o:Nat}{m:Ot}{vb va vc:Value}(h:L8 l o m vb va vc)(x:Nat):L8 (l.set (o+7) (uZ x)) o {m with dw:=x} vb va vc:=
 ⟨(aA _ _ _ _ aj).trans h.c0,(aA _ _ _ _ aj).trans h.c1,h.nt.set aj,(aA _ _ _ _ aj).trans h.c6,dG _ _ _ _ h.c7,(aA _ _ _ _ aj).trans h.c8,(aA _ _ _ _ aj).trans h.c9,(aA _ _ _ _ aj).trans h.vY,(aA _ _ _ _ aj).trans h.zU,(aA _ _ _ _ aj).trans h.zV,(aA _ _ _ _ aj).trans h.c13⟩
theorem PW{l:bO}{o:Nat}{m:Ot}{vb va vc:Value}(h:L8 l o m vb va vc)(v:Value)(bs:List UInt8):L8 (l.set o v) o {m with ay:=bs} v va vc:=
 ⟨dG _ _ _ _ h.c0,(aA _ _ _ _ aj).trans h.c1,h.nt.set aj,(aA _ _ _ _ aj).trans h.c6,(aA _ _ _ _ aj).trans h.c7,(aA _ _ _ _ aj).trans h.c8,(aA _ _ _ _ aj).trans h.c9,(aA _ _ _ _ aj).trans h.vY,(aA _ _ _ _ aj).trans h.zU,(aA _ _ _ _ aj).trans h.zV,(aA _ _ _ _ aj).trans h.c13⟩
def rz(e:Nat):Value:=if e=0 then .nilIface else .iface 57 (iZ e)
theorem PX(s t:Nat)(oZ:Own)(S o:Nat)(m:Ot)(l:bO)(w:World)(hB:aS w S TS l)(u:oZ S=s)(f:s<t)(d:BP oZ t w S l o m):Calls prog 148 #[aI S o] w fun e w'=>e=.returned (rz m.finish.2)/\ko s t oZ S o l w m.finish.1 w':=by
 obtain⟨a,c,va,vc,k1,y,k2,v,x,k,n,p,q,r⟩:=d.open hB;have g:=aG (EI S o m.bn m.nt.bX w n p);have f1:=hB.frozen (o+1);have i:=aG (AZ hB u f d (o+1) (.bool true) aj aj (m':={m with bn:=true}) (fun _ _ _ h=>Ya h true) rfl rfl rfl);have j:=aG (ko.refl (s:=s) hB d (eT _ w));have b:Hid (m.finish=if(m.bn||m.nt.bX)then(m,4)else({m with bn:=true},0)):=rfl;generalize m.finish=X at *
 generalize (m.bn||m.nt.bX)=B at *
 clear d hB k1 k2 v x k q r;cases B with
 |true=>go_enter func148,ntmps148;go_wp2_with fail;refine bN g.out ?_;rintro w' rfl;go_wp2;go_ret;exact⟨by rw[b.out];rfl,by rw[b.out];exact j.out⟩
 |false=>go_enter func148,ntmps148;go_wp2_with fail;refine bN g.out ?_;rintro w' rfl;go_wp2;go_ret;exact⟨by rw[b.out];rfl,by rw[b.out];exact i.out⟩
theorem Ub(s t:Nat)(oZ:Own)(S o x:Nat)(m:Ot)(l:bO)(w:World)(hB:aS w S TS l)(p:oZ S=s)(f:s<t)(d:BP oZ t w S l o m):Calls prog 237 #[aI S o,uZ x] w fun e w'=>e=.returned (.tuple #[])/\ko s t oZ S o l w {m with aL:=max m.aL x} w':=by obtain⟨a,c,va,vc,k1,v,k2,q,r,i,j,k,u,n⟩:=d.open hB;have f6:=hB.frozen (o+6);obtain⟨y,z,b⟩:=max2 m.aL x;rw[<-b];have g:=aG (AZ hB p f d (o+6) (uZ y) aj aj (m':={m with aL:=y}) (fun _ _ _ h=>PV h y) rfl rfl rfl);clear d hB k1 k2 q r i j k n b;go_enter func237,ntmps237;go_wp2;go_end0;exact⟨rfl,g.out⟩
