import Derived.Test.YtphbledmopchnaaGreatDoorKca
open List renaming getD_eq_getElem?_getD->jK,getElem?_eq_getElem->mR,getElem?_append_right->nI
open Nat renaming le_refl->tL
set_option maxHeartbeats 4000000
set_option maxRecDepth 100000
namespace Go.Proofs.YtphbledmopchnaaGreatDoor.Sd
open Go.RowKit Go.Lib Mm Tryz
theorem vM(a:Option Addr)(n c:Nat)(w:World):Calls prog 208 #[.slice a n c] w fun e w'=>e=.returned (.int .i64 n)/\w'=w:=by
 go_enter func208,ntmps208;go_wp2;go_ret;exact⟨rfl,rfl⟩
theorem Dw(g n c i j:Nat)(hi:i<n)(O:j<n)(F G:Int)(w:World)(H:w.cell? ⟨g,i*4,none⟩=some (.int .i64 F))(I:w.cell? ⟨g,j*4,none⟩=some (.int .i64 G)):
  Calls prog 375 #[.slice (some ⟨g,0,none⟩) n c,.int .i64 i,.int .i64 j] w fun e w'=>e=.returned (.bool (decide (F<G)))/\∃q,w'=w.drewN q:=by
 go_enter func375,ntmps375
 go_wp2_with fail
 go_quiet (fail)
 go_wp2;go_ret;exact⟨rfl,nq,rfl⟩
structure Src where
 u:Int
 f1:Fn
 p1:Array Value
 k1:Array Value
 f2:Fn
 p2:Array Value
 k2:Array Value
 y:Bool
abbrev fI(s:Src):List Value:=[.int .i64 s.u,.func s.f1 s.p1 s.k1,.func s.f2 s.p2 s.k2,.bool s.y]
def qC(D:Nat->Src):List Nat->List Value
 |[]=>[]
 |u::Q=>fI (D u)++qC D Q
theorem Gq(D:Nat->Src):∀Q,(qC D Q).length=Q.length*4
 |[]=>rfl
 |u::Q=>by
  have:=Gq D Q;simp only[qC,List.length_append,List.length_cons,List.length_nil,this];omega
theorem jS(D:Nat->Src):∀(Q:List Nat) (i:Nat) (u:Nat),Q[i]?=some u->(qC D Q)[i*4]?=some (.int .i64 (D u).u)/\(qC D Q)[i*4+1]?=some (.func (D u).f1 (D u).p1 (D u).k1)/\(qC D Q)[i*4+2]?=some (.func (D u).f2 (D u).p2 (D u).k2)/\(qC D Q)[i*4+3]?=some (.bool (D u).y)
 |[],i,u,h=>by simp at h
 |x::Q,0,u,h=>by
  simp at h;subst h;exact⟨rfl,rfl,rfl,rfl⟩
 |x::Q,i+1,u,h=>by
  have:=jS D Q i u (by simpa using h)
  have e:∀r,(i+1)*4+r=4+(i*4+r):=by intro r;omega
  have F:(i+1)*4=4+i*4:=by omega
  refine⟨?_,?_,?_,?_⟩
  ·rw[F];show(fI (D x)++qC D Q)[4+i*4]?=_;rw[nI (by simp)];simpa using this.1
  ·rw[e];show(fI (D x)++qC D Q)[4+(i*4+1)]?=_;rw[nI (by simp)];simpa using this.2.1
  ·rw[e];show(fI (D x)++qC D Q)[4+(i*4+2)]?=_;rw[nI (by simp)];simpa using this.2.2.1
  ·rw[e];show(fI (D x)++qC D Q)[4+(i*4+3)]?=_;rw[nI (by simp)];simpa using this.2.2.2
theorem wV:∀(vs:List Value) (j:Nat) (A l:List Value),iU (A.length+j) vs (A++l)=A++iU j vs l
 |[],_,_,_=>rfl
 |v::vs,j,A,l=>by
  show iU (A.length+j+1) vs ((A++l).set (A.length+j) v)=A++iU (j+1) vs (l.set j v);rw[List.set_append_right _ _ (by omega),Nat.add_sub_cancel_left,Nat.add_assoc,wV vs (j+1) A]
theorem NW(D:Nat->Src):∀(Q:List Nat) (i u:Nat),i<Q.length->iU (i*4) (fI (D u)) (qC D Q)=qC D (Q.set i u)
 |[],i,u,h=>by simp at h
 |x::Q,0,u,_=>rfl
 |x::Q,i+1,u,h=>by
  have:=NW D Q i u (by simpa using h);show iU ((i+1)*4) (fI (D u)) (fI (D x)++qC D Q)=fI (D x)++qC D (Q.set i u)
  have e:(i+1)*4=(fI (D x)).length+i*4:=by simp;omega
  rw[e,wV,this]
theorem wX:∀(vs:List Value) (j:Nat) (l:List Value),(iU j vs l).length=l.length
 |[],_,_=>rfl
 |v::vs,j,l=>by show(iU (j+1) vs (l.set j v)).length=_;rw[wX vs];simp
theorem tK:∀(vs:List Value) (j n:Nat) (l:List Value),(iU j vs l).take n=iU j vs (l.take n)
 |[],_,_,_=>rfl
 |v::vs,j,n,l=>by show(iU (j+1) vs (l.set j v)).take n=iU (j+1) vs ((l.take n).set j v);rw[tK vs,List.take_set]
theorem wY{p:Value->Prop}:∀(vs:List Value) (j:Nat) (l:List Value),(∀v∈l,p v)->(∀v∈vs,p v)->∀v∈iU j vs l,p v
 |[],_,_,h,_=>h
 |x::vs,j,l,h,k=>wY vs (j+1) (l.set j x) (fun v F=>by
   rcases List.mem_or_eq_of_mem_set F with h1|h1
   ·exact h v h1
   ·rw[h1];exact k x (by simp)) (fun v F=>k v (by simp[F]))
theorem wZ(s:Src):∀v∈fI s,v.oneCell'=true:=by
 intro v F;simp at F
 rcases F with rfl|rfl|rfl|rfl<;>rfl
def Fp(own:Own)(t:Nat)(D:Nat->Src)(w:World)(g c:Nat)(Q:List Nat):Prop:=own g=t/\GT own t 304 4 w (.slice (some ⟨g,0,none⟩) Q.length c) Q.length (qC D Q)
theorem Fp.put{own:Own}{t:Nat}{D:Nat->Src}{w:World}{g c:Nat}{Q:List Nat}(h:Fp own t D w g c Q)(i u:Nat)(hi:i<Q.length):Fp own t D (jE g (i*4) (fI (D u)) w) g c (Q.set i u)/\Kp [t] own own w (jE g (i*4) (fI (D u)) w):=by
 obtain⟨G,h⟩:=h;have F:=jd g (fI (D u)) (i*4) w;refine⟨⟨G,?_⟩,⟨F.os,F.tape,F.output,by rw[F.size];exact tL _,fun b _ H=>F.block b (fun e=>H (by rw[e,G];simp)),fun _ _=>rfl⟩⟩
 rcases h with⟨h1,_⟩|⟨g',cap,cs,h1,h2,h3,h4,h5,h6,h7,h8,h9⟩
 ·cases h1
 ·simp only[Value.slice.injEq,Option.some.injEq,Addr.mk.injEq,true_and,and_true]at h1;obtain⟨rfl,rfl⟩:=h1;refine .inr ⟨g,c,iU (i*4) (fI (D u)) cs,by simp,G,jR _ _ _ _ h3,by rw[wX];exact h4,by simpa using h5,h6,by rw[Gq],?_,wY _ _ _ h9 (wZ _)⟩;rw[List.length_set,tK,h8,NW D Q i u hi]
theorem Fp.drew{own:Own}{t:Nat}{D:Nat->Src}{w:World}{g c:Nat}{Q:List Nat}(h:Fp own t D w g c Q):Fp own t D w.drew g c Q:=⟨h.1,h.2.kp (T:=[]) (Kp.below (w':=w.drew) ⟨rfl,rfl,rfl,tL _,fun _ _=>rfl⟩) (by simp)⟩
theorem w9(own:Own)(t:Nat)(D:Nat->Src)(w:World)(g c:Nat)(Q:List Nat)(i j:Nat)(hi:i<Q.length)(hj:j<Q.length)(h:Fp own t D w g c Q):
  Calls prog 378 #[.slice (some ⟨g,0,none⟩) Q.length c,.int .i64 i,.int .i64 j] w fun e w'=>e=.returned (.tuple #[])/\Fp own t D w' g c (sw Q i j)/\Kp [t] own own w w':=by
 obtain⟨a,ha⟩:∃a,a=Q.getD i 0:=⟨_,rfl⟩;obtain⟨b,hb⟩:∃b,b=Q.getD j 0:=⟨_,rfl⟩
 have ea:Q[i]?=some a:=by rw[ha,jK,mR hi];rfl
 have eb:Q[j]?=some b:=by rw[hb,jK,mR hj];rfl
 have hP:=h.put i b hi;have G:=hP.1.put j a (by simpa using hj)
 have HF:Hid (Fp own t D (jE g (j*4) (fI (D a)) (jE g (i*4) (fI (D b)) w)).drew g c (sw Q i j)/\Kp [t] own own w (jE g (j*4) (fI (D a)) (jE g (i*4) (fI (D b)) w)).drew):=by
  have e:sw Q i j=(Q.set i b).set j a:=by unfold sw;rw[ha,hb]
  rw[e];exact⟨G.1.drew,(hP.2.trans G.2).drew⟩
 obtain⟨I,O,U,V⟩:=jS D Q i a ea;obtain⟨X,Z,h0,h2⟩:=jS D Q j b eb
 have F:∀k x,(qC D Q)[k]?=some x->w.cell? ⟨g,k,none⟩=some x:=fun k x hx=>by
  obtain⟨g',e,_,_,r,_⟩:=h.2.cell k x hx;cases e;exact r
 have hf:∀k,w.frozen? ⟨g,k,none⟩=false:=by
  rcases h.2 with⟨h1,_⟩|⟨g',cap,cs,h1,_,h3,_⟩
  ·cases h1
  ·cases h1;exact h3.frozen
 have x0:=F _ _ I;have x1:=F _ _ O;have x2:=F _ _ U;have x3:=F _ _ V;have y0:=F _ _ X;have y1:=F _ _ Z;have y2:=F _ _ h0;have y3:=F _ _ h2
 have I9:Hid (i=j->a=b):=fun e=>by rw[ha,hb,e]
 generalize Q.length=n at *;clear ha hb ea eb hP G I O U V X Z h0 h2 F h
 by_cases H:i=j
 ·have h4:=I9.out H;subst H;subst h4;clear y0 y1 y2 y3 I9 hj;go_enter func378,ntmps378
  go_wp2_with fail
  go_region
  go_end0;exact⟨rfl,HF.out⟩
 ·have h5:¬(i*4=j*4):=by omega
  go_enter func378,ntmps378
  go_wp2_with fail
  go_region
  go_end0;exact⟨rfl,HF.out⟩
theorem Wz(p:Nat)(w:World):(method 518 250 (.pointer (some ⟨p,0,none⟩)) "Push").run prog w=.ok (377,.pointer (some ⟨p,0,none⟩)) w:=by kernel_rfl
theorem XR(p:Nat)(w:World):(method 518 250 (.pointer (some ⟨p,0,none⟩)) "Pop").run prog w=.ok (376,.pointer (some ⟨p,0,none⟩)) w:=by kernel_rfl
theorem WA(p:Nat)(w:World):(method 518 250 (.pointer (some ⟨p,0,none⟩)) "Len").run prog w=(loadVar 300 ⟨p,0,none⟩ >>=fun r=>(pure (208,r):Sem (FuncId×Value))).run prog w:=by kernel_rfl
theorem SN(p:Nat)(w:World):(method 518 250 (.pointer (some ⟨p,0,none⟩)) "Less").run prog w=(loadVar 300 ⟨p,0,none⟩ >>=fun r=>(pure (375,r):Sem (FuncId×Value))).run prog w:=by kernel_rfl
theorem SQ(p:Nat)(w:World):(method 518 250 (.pointer (some ⟨p,0,none⟩)) "Swap").run prog w=(loadVar 300 ⟨p,0,none⟩ >>=fun r=>(pure (378,r):Sem (FuncId×Value))).run prog w:=by kernel_rfl
theorem xG(p:Nat)(w:World)(a:Option Addr)(n c:Nat)(hp:w.cell? ⟨p,0,none⟩=some (.slice a n c)):(loadVar 300 ⟨p,0,none⟩).run prog w=.ok (.slice a n c) w:=by
 simp[go_sem,loadVar,hp,sizeOf300]
theorem Vq(p:Nat)(w:World)(a:Option Addr)(n c:Nat)(hp:w.cell? ⟨p,0,none⟩=some (.slice a n c)):(method 518 250 (.pointer (some ⟨p,0,none⟩)) "Len").run prog w=.ok (208,.slice a n c) w:=by
 rw[WA,Sem.run_bind,xG p w a n c hp];rfl
theorem GA(p:Nat)(w:World)(a:Option Addr)(n c:Nat)(hp:w.cell? ⟨p,0,none⟩=some (.slice a n c)):(method 518 250 (.pointer (some ⟨p,0,none⟩)) "Less").run prog w=.ok (375,.slice a n c) w:=by
 rw[SN,Sem.run_bind,xG p w a n c hp];rfl
theorem GD(p:Nat)(w:World)(a:Option Addr)(n c:Nat)(hp:w.cell? ⟨p,0,none⟩=some (.slice a n c)):(method 518 250 (.pointer (some ⟨p,0,none⟩)) "Swap").run prog w=.ok (378,.slice a n c) w:=by
 rw[SQ,Sem.run_bind,xG p w a n c hp];rfl
structure rM (own:Own) (t:Nat) (D:Nat->Src) (w:World) (p g c:Nat) (Q:List Nat):Prop where
 op:own p=t+1
 pb:ak w p 300 [.slice (some ⟨g,0,none⟩) Q.length c]
 sr:Fp own t D w g c Q
theorem jo(Q:List Nat)(i j:Nat):(sw Q i j).length=Q.length:=by simp[sw]
theorem xH (n:Nat):∀(i:Nat) (l:List Nat),i<n->wo n l i=wo (i+1) l i:=n.strongRecOn fun n C=>match n,C with
 |0,_=>fun i l h=>by omega
 |n+1,C=>fun i l h=>by
  simp only[wo]
  by_cases F:i=0
  ·simp[F]
  ·split
   ·rfl
   ·rw[C n (by omega) ((i-1) / 2) _ (by omega)];rw[C i (by omega) ((i-1) / 2) _ (by omega)]
theorem SV(own:Own)(t:Nat)(D:Nat->Src)(hD:∀u:Nat,(D u).u=(u:Int))(w:World)(p g c:Nat)(Q:List Nat)(j:Nat)(hj:j<Q.length)(hl:Q.length<=1000)(h:rM own t D w p g c Q):
  Calls prog 307 #[.iface 250 (.pointer (some ⟨p,0,none⟩)),.int .i64 j] w fun e w'=>e=.returned (.tuple #[])/\rM own t D w' p g c (wo (j+1) Q j)/\Kp [t] own own w w':=by
 obtain⟨X,hX⟩:∃X,X=wo (j+1) Q j:=⟨_,rfl⟩;rw[<-hX];have HX:=hid hX;have H0:=hid h;obtain⟨N,hN⟩:∃N,N=Q.length:=⟨_,rfl⟩;have HN:=hid hN
 have h5:j<N:=by omega
 have h7:N<=1000:=by omega
 clear hX h hN hj hl;have U:=hid hD;clear hD;go_enter func307,ntmps307
 go_wp2_with fail
 go_loopw [1] (fun s1 wr=>∃(k:Nat) (R:List Nat),k<N/\s1=.int .i64 k/\Hid (R.length=N/\rM own t D wr p g c R/\Kp [t] own own w wr/\wo (k+1) R k=X)) (fun s1 _=>(intOf s1).toNat)
 case atStart=>exact⟨j,Q,h5,rfl,HN.out.symm,H0.out,Kp.refl _ _ _,HX.out.symm⟩
 case round=>
  clear HX H0 HN;obtain⟨k,R,hk,rfl,HR⟩:=hrel
  by_cases h0:k=0
  ·subst h0
   have HF:Hid (rM own t D wr p g c X/\Kp [t] own own w wr):=by
    obtain⟨h1,h2,h3,h4⟩:=HR.out
    have:wo (0+1) R 0=R:=by simp[wo]
    rw[this]at h4;rw[<-h4];exact⟨h2,h3⟩
   clear HR
   go_wp2_with fail
   go_end0;exact⟨rfl,HF.out⟩
  ·obtain⟨i,hi⟩:∃i,i=(k-1) / 2:=⟨_,rfl⟩
   have I:i<k:=by omega
   have q1:((k:Int)-1).tdiv 2=(i:Int):=by
    have e:(k:Int)-1=((k-1:Nat):Int):=by omega
    rw[e,hi];rfl
   obtain⟨H,F,hK,hU⟩:=HR.out
   have hp:wr.cell? ⟨p,0,none⟩=some (.slice (some ⟨g,0,none⟩) R.length c):=by rw[F.pb.cell];rfl
   rw[H]at hp;have h9:=GA p wr _ _ _ hp
   have h6:∀q,(method 518 250 (.pointer (some ⟨p,0,none⟩)) "Swap").run prog (wr.drewN q)=.ok (378,.slice (some ⟨g,0,none⟩) N c) (wr.drewN q):=fun q=>GD p (wr.drewN q) _ _ _ hp
   have ek:R[k]?=some (R.getD k 0):=by rw[jK,mR (by omega)];rfl
   have ei:R[i]?=some (R.getD i 0):=by rw[jK,mR (by omega)];rfl
   have hc:∀k x,(qC D R)[k]?=some x->wr.cell? ⟨g,k,none⟩=some x:=fun k x hx=>by
    obtain⟨g',e,_,_,r,_⟩:=F.sr.2.cell k x hx;cases e;exact r
   have Z:=hid (Dw g N c k i hk (by omega) _ _ wr (hc _ _ (jS D R k _ ek).1) (hc _ _ (jS D R i _ ei).1));rw[U.out,U.out]at Z
   have g1:(k:Int)-1<9223372036854775808:=by omega
   have g2: -9223372036854775808<=(k:Int)-1:=by omega
   have h8:i<9223372036854775808:=by omega
   have n1:¬(i=k):=by omega
   have n2:¬((i:Int)=(k:Int)):=by omega
   have n3:((i:Int)==(k:Int))=false:=by simpa using n2
   by_cases G:R.getD k 0<R.getD i 0
   ·have O:Hid (Calls prog 375 #[.slice (some ⟨g,0,none⟩) N c,.int .i64 k,.int .i64 i] wr fun e w'=>e=.returned (.bool true)/\∃q,w'=wr.drewN q):=by
     have e:decide (((R.getD k 0:Nat):Int)<((R.getD i 0:Nat):Int))=true:=decide_eq_true (Int.ofNat_lt.2 G);have:=Z.out;rw[e]at this;exact this
    have HS:Hid (∀q,Calls prog 378 #[.slice (some ⟨g,0,none⟩) N c,.int .i64 i,.int .i64 k] (wr.drewN q) fun e w'=>e=.returned (.tuple #[])/\Hid ((sw R i k).length=N/\rM own t D w' p g c (sw R i k)/\Kp [t] own own w w'/\wo (i+1) (sw R i k) i=X)):=fun q=>by
     have hb:Below wr.heap.size wr (wr.drewN q):=⟨rfl,rfl,rfl,tL _,fun _ _=>rfl⟩;have hs:=w9 own t D (wr.drewN q) g c R i k (by omega) (by omega) ⟨F.sr.1,F.sr.2.kp (T:=[]) (Kp.below hb) (by simp)⟩;rw[H]at hs;refine hs.mono ?_;rintro e w' ⟨rfl,h1,h2⟩;refine⟨rfl,by rw[jo,H],⟨F.op,?_,h1⟩,hK.trans ((Kp.below hb).trans h2),?_⟩
     ·rw[jo];exact aK (w:=wr.drewN q) F.pb h2 (by rw[F.op];simp)
     ·rw[<-hU]
      have e2:wo (k+1) R k=wo k (sw R ((k-1) / 2) k) ((k-1) / 2):=by
       simp only[wo];rw[if_neg];intro hh
       rcases hh with hh|hh
       ·exact h0 hh
       ·exact hh (by rw[<-hi];exact G)
      rw[e2,<-hi,xH k i _ I]
    have V:=hid (And.intro I hk);clear H F hK hU hp ek ei hc Z G HR hi I
    go_wp2_with fail
    refine O.out.mono ?_;rintro e y ⟨rfl,q,rfl⟩
    go_wp2_with fail
    refine(HS.out q).mono ?_;rintro e y ⟨rfl,HY⟩
    go_wp2_with fail
    go_roundw
    case rel=>exact⟨i,sw R i k,by have:=V.out;omega,by go_num,HY⟩
    case measure=>have:=V.out;simp[intOf];omega
   ·have O:Hid (Calls prog 375 #[.slice (some ⟨g,0,none⟩) N c,.int .i64 k,.int .i64 i] wr fun e w'=>e=.returned (.bool false)/\∃q,w'=wr.drewN q):=by
     have e:decide (((R.getD k 0:Nat):Int)<((R.getD i 0:Nat):Int))=false:=decide_eq_false (fun h=>G (Int.ofNat_lt.1 h));have:=Z.out;rw[e]at this;exact this
    have HF:Hid (∀q,rM own t D (wr.drewN q) p g c X/\Kp [t] own own w (wr.drewN q)):=fun q=>by
     have hb:Below wr.heap.size wr (wr.drewN q):=⟨rfl,rfl,rfl,tL _,fun _ _=>rfl⟩
     have e2:wo (k+1) R k=R:=by
      simp only[wo];rw[if_pos (.inr (by rw[<-hi];exact G))]
     rw[<-hU,e2];exact⟨⟨F.op,F.pb,F.sr.1,F.sr.2.kp (T:=[]) (Kp.below hb) (by simp)⟩,hK.trans (Kp.below hb)⟩
    clear H F hK hU hp ek ei hc Z G HR hi h6 I
    go_wp2_with fail
    refine O.out.mono ?_;rintro e y ⟨rfl,q,rfl⟩
    go_wp2_with fail
    go_end0;exact⟨rfl,HF.out q⟩
def OB(e:Ending):Prop:=∃b,e=.returned (.bool b)
def kid(l:List Nat)(i n:Nat):Nat:=if 2*i+2<n/\l.getD (2*i+2) 0<l.getD (2*i+1) 0 then 2*i+2 else 2*i+1
theorem iV(k:Nat)(l:List Nat)(i n:Nat):gK (k+1) l i n=if n<=2*i+1 then l else if l.getD (kid l i n) 0<l.getD i 0 then gK k (sw l i (kid l i n)) (kid l i n) n else l:=rfl
theorem WB(l:List Nat)(i n:Nat):2*i+1<=kid l i n:=by unfold kid;split<;>omega
theorem qj:∀(k k':Nat) (l:List Nat) (i n:Nat),n<=i+k->n<=i+k'->gK k l i n=gK k' l i n
 |0,0,_,_,_,_,_=>rfl
 |0,k'+1,l,i,n,h,_=>by rw[iV,if_pos (by omega)];rfl
 |k+1,0,l,i,n,_,h=>by rw[iV,if_pos (by omega)];rfl
 |k+1,k'+1,l,i,n,h,h'=>by
  rw[iV,iV];have:=WB l i n
  by_cases h1:n<=2*i+1
  ·rw[if_pos h1,if_pos h1]
  ·rw[if_neg h1,if_neg h1,qj k k' _ _ _ (by omega) (by omega)]
theorem KY(own:Own)(t:Nat)(D:Nat->Src)(hD:∀u:Nat,(D u).u=(u:Int))(w:World)(p g c:Nat)(Q:List Nat)(i0 n:Nat)(ho:i0<Q.length)(hn:n<=Q.length)(hl:Q.length<=1000)(h:rM own t D w p g c Q)(F:Nat)(hF:n<=i0+F):
  Calls prog 270 #[.iface 250 (.pointer (some ⟨p,0,none⟩)),.int .i64 i0,.int .i64 n] w fun e w'=>OB e/\rM own t D w' p g c (gK F Q i0 n)/\Kp [t] own own w w':=by
 obtain⟨X,hX⟩:∃X,X=gK F Q i0 n:=⟨_,rfl⟩;rw[<-hX];have HX:=hid hX;have H0:=hid h;obtain⟨N,hN⟩:∃N,N=Q.length:=⟨_,rfl⟩;have HN:=hid hN
 have hr:i0<N:=by omega
 have x2:n<=N:=by omega
 have hu:N<=1000:=by omega
 have HF:=hid hF;clear hX h hN ho hn hl hF;have h7:=hid hD;clear hD;go_enter func270,ntmps270
 go_wp2_with fail
 go_loopw [7] (fun s7 wr=>∃(i:Nat) (R:List Nat),i<N/\s7=.int .i64 i/\Hid (R.length=N/\rM own t D wr p g c R/\Kp [t] own own w wr/\gK N R i n=X)) (fun s7 _=>N-(intOf s7).toNat)
 case atStart=>exact⟨i0,Q,hr,rfl,HN.out.symm,H0.out,Kp.refl _ _ _,by rw[HX.out];exact qj _ _ _ _ _ (by omega) HF.out⟩
 case round=>
  clear HX H0 HN HF;obtain⟨i,R,hi,rfl,HR⟩:=hrel;obtain⟨h6,hM,hK,hU⟩:=HR.out
  have h8:∀q,Below wr.heap.size wr (wr.drewN q):=fun q=>⟨rfl,rfl,rfl,tL _,fun _ _=>rfl⟩
  have h5:∀q,rM own t D (wr.drewN q) p g c R/\Kp [t] own own w (wr.drewN q):=fun q=>⟨⟨hM.op,hM.pb,hM.sr.1,hM.sr.2.kp (T:=[]) (Kp.below (h8 q)) (by simp)⟩,hK.trans (Kp.below (h8 q))⟩
  obtain⟨F',h9⟩:∃F',N=F'+1:=⟨N-1,by omega⟩
  have SX:gK (F'+1) R i n=X:=by rw[<-h9];exact hU
  rw[iV]at SX
  have hp:wr.cell? ⟨p,0,none⟩=some (.slice (some ⟨g,0,none⟩) N c):=by rw[hM.pb.cell,<-h6];rfl
  obtain⟨I,he⟩:∃I,I=2*i+1:=⟨_,rfl⟩;obtain⟨U,hf⟩:∃U,U=2*i+2:=⟨_,rfl⟩
  have e1:2*(i:Int)+1=(I:Int):=by omega
  have e2:(I:Int)+1=(U:Int):=by omega
  have g1:2*(i:Int)<9223372036854775808:=by omega
  have g2: -9223372036854775808<=2*(i:Int):=by omega
  have g3:I<9223372036854775808:=by omega
  have g4:U<9223372036854775808:=by omega
  have g5:¬((I:Int)<0):=by omega
  by_cases hA:n<=I
  ·have HF:Hid (rM own t D wr p g c X/\Kp [t] own own w wr):=by
    rw[if_pos (by omega)]at SX;rw[<-SX];exact⟨hM,hK⟩
   have hj:(n:Int)<=(I:Int):=by omega
   clear HR h6 hM hK hU h8 h5 h9 SX hp he hf h7
   go_wp2_with fail
   go_ret;exact⟨⟨_,rfl⟩,HF.out⟩
  ·have hj:¬((n:Int)<=(I:Int)):=by omega
   rw[if_neg (by omega)]at SX;have x0:=GA p wr _ _ _ hp
   have x3:∀q,(method 518 250 (.pointer (some ⟨p,0,none⟩)) "Less").run prog (wr.drewN q)=.ok (375,.slice (some ⟨g,0,none⟩) N c) (wr.drewN q):=fun q=>GA p (wr.drewN q) _ _ _ hp
   have x1:∀q,(method 518 250 (.pointer (some ⟨p,0,none⟩)) "Swap").run prog (wr.drewN q)=.ok (378,.slice (some ⟨g,0,none⟩) N c) (wr.drewN q):=fun q=>GD p (wr.drewN q) _ _ _ hp
   have hc:∀k x,(qC D R)[k]?=some x->wr.cell? ⟨g,k,none⟩=some x:=fun k x hx=>by
    obtain⟨g',e,_,_,r,_⟩:=hM.sr.2.cell k x hx;cases e;exact r
   have eR:∀k,k<N->R[k]?=some (R.getD k 0):=fun k hk=>by rw[jK,mR (by omega)];rfl
   have Z:Hid (∀(a b:Nat) (v:Bool) (q:Nat),a<N->b<N->decide (R.getD a 0<R.getD b 0)=v->Calls prog 375 #[.slice (some ⟨g,0,none⟩) N c,.int .i64 a,.int .i64 b] (wr.drewN q) fun e w'=>e=.returned (.bool v)/\∃q,w'=wr.drewN q):=fun a b v q ha hb hv=>by
    have h1:=Dw g N c a b ha hb _ _ (wr.drewN q) (hc _ _ (jS D R a _ (eR a ha)).1) (hc _ _ (jS D R b _ (eR b hb)).1);rw[h7.out,h7.out]at h1
    have h2:decide (((R.getD a 0:Nat):Int)<((R.getD b 0:Nat):Int))=v:=by rw[<-hv];exact decide_eq_decide.2 Int.ofNat_lt
    rw[h2]at h1;refine h1.mono ?_;rintro e w' ⟨rfl,q',rfl⟩;exact⟨rfl,q+q',by rw[World.drewN_drewN]⟩
   have HS:Hid (∀(j q:Nat),kid R i n=j->j<N->i<j->R.getD j 0<R.getD i 0->Calls prog 378 #[.slice (some ⟨g,0,none⟩) N c,.int .i64 i,.int .i64 j] (wr.drewN q) fun e w'=>e=.returned (.tuple #[])/\Hid ((sw R i j).length=N/\rM own t D w' p g c (sw R i j)/\Kp [t] own own w w'/\gK N (sw R i j) j n=X)):=fun j q hg hy hw G=>by
    have hs:=w9 own t D (wr.drewN q) g c R i j (by omega) (by omega) (h5 q).1.sr;rw[h6]at hs;refine hs.mono ?_;rintro e w' ⟨rfl,h1,h2⟩;refine⟨rfl,by rw[jo,h6],⟨hM.op,?_,h1⟩,(h5 q).2.trans h2,?_⟩
    ·rw[jo];exact aK (w:=wr.drewN q) hM.pb h2 (by rw[hM.op];simp)
    ·rw[<-SX,hg,if_pos G];exact qj _ _ _ _ _ (by omega) (by omega)
   have HE:Hid (∀(j q:Nat),kid R i n=j->¬R.getD j 0<R.getD i 0->rM own t D (wr.drewN q) p g c X/\Kp [t] own own w (wr.drewN q)):=fun j q hg G=>by
    have h3:=h5 q;rw[hg,if_neg G]at SX;rw[<-SX];exact h3
   have O:Hid (I=2*i+1/\U=2*i+2/\I<N/\i<I/\i<U):=⟨he,hf,by omega,by omega,by omega⟩;have x4:i<N:=hi;clear HR h6 hM hK hU h8 h5 h9 SX hp he hf h7 hc eR
   by_cases hB:U<n
   ·have hm:(U:Int)<(n:Int):=by omega
    have XT:U<N:=by omega
    by_cases hC:R.getD U 0<R.getD I 0
    ·have HC:=hid (Z.out U I true 0 XT (by have:=O.out;omega) (decide_eq_true hC));have Jj:=hid hC;clear hC
     have DT:kid R i n=U:=by
      have:=O.out;unfold kid;rw[if_pos ⟨by omega,by rw[<-this.1,<-this.2.1];exact Jj.out⟩];omega
     have rO:=hid DT;clear DT
     by_cases G:R.getD U 0<R.getD i 0
     ·have H:=hid (fun q=>Z.out U i true q (by have:=O.out;omega) hi (decide_eq_true G));have h4:=hid (fun q=>HS.out U q rO.out (by have:=O.out;omega) (by have:=O.out;omega) G);clear G Z HS HE rO;have V:=hid (H.out 0)
      go_wp2_with fail
      refine HC.out.mono ?_;rintro e y ⟨rfl,q1,rfl⟩
      go_wp2_with fail
      refine(H.out q1).mono ?_;rintro e y ⟨rfl,q2,rfl⟩
      go_wp2_with fail
      refine(h4.out q2).mono ?_;rintro e y ⟨rfl,HY⟩
      go_wp2_with fail
      go_roundw
      case rel=>exact⟨U,sw R i U,by have:=O.out;omega,by go_num,HY⟩
      case measure=>have:=O.out;simp[intOf];omega
     ·have H:=hid (fun q=>Z.out U i false q (by have:=O.out;omega) hi (decide_eq_false G));have h0:=hid (fun q=>HE.out U q rO.out G);clear G Z HS HE rO;have V:=hid (H.out 0)
      go_wp2_with fail
      refine HC.out.mono ?_;rintro e y ⟨rfl,q1,rfl⟩
      go_wp2_with fail
      refine(H.out q1).mono ?_;rintro e y ⟨rfl,q2,rfl⟩
      go_wp2_with fail
      go_ret;exact⟨⟨_,rfl⟩,h0.out q2⟩
    ·have HC:=hid (Z.out U I false 0 XT (by have:=O.out;omega) (decide_eq_false hC));have Jj:=hid hC;clear hC
     have DT:kid R i n=I:=by
      have:=O.out;unfold kid;rw[if_neg (fun hh=>Jj.out (by rw[this.1,this.2.1];exact hh.2))];omega
     have rO:=hid DT;clear DT
     by_cases G:R.getD I 0<R.getD i 0
     ·have H:=hid (fun q=>Z.out I i true q (by have:=O.out;omega) hi (decide_eq_true G));have h4:=hid (fun q=>HS.out I q rO.out (by have:=O.out;omega) (by have:=O.out;omega) G);clear G Z HS HE rO;have V:=hid (H.out 0)
      go_wp2_with fail
      refine HC.out.mono ?_;rintro e y ⟨rfl,q1,rfl⟩
      go_wp2_with fail
      refine(H.out q1).mono ?_;rintro e y ⟨rfl,q2,rfl⟩
      go_wp2_with fail
      refine(h4.out q2).mono ?_;rintro e y ⟨rfl,HY⟩
      go_wp2_with fail
      go_roundw
      case rel=>exact⟨I,sw R i I,by have:=O.out;omega,by go_num,HY⟩
      case measure=>have:=O.out;simp[intOf];omega
     ·have H:=hid (fun q=>Z.out I i false q (by have:=O.out;omega) hi (decide_eq_false G));have h0:=hid (fun q=>HE.out I q rO.out G);clear G Z HS HE rO;have V:=hid (H.out 0)
      go_wp2_with fail
      refine HC.out.mono ?_;rintro e y ⟨rfl,q1,rfl⟩
      go_wp2_with fail
      refine(H.out q1).mono ?_;rintro e y ⟨rfl,q2,rfl⟩
      go_wp2_with fail
      go_ret;exact⟨⟨_,rfl⟩,h0.out q2⟩
   ·have hm:¬((U:Int)<(n:Int)):=by omega
    have DT:kid R i n=I:=by
     have:=O.out;unfold kid;rw[if_neg (fun hh=>by omega)];omega
    have rO:=hid DT;clear DT
    by_cases G:R.getD I 0<R.getD i 0
    ·have H:=hid (fun q=>Z.out I i true q (by have:=O.out;omega) hi (decide_eq_true G));have h4:=hid (fun q=>HS.out I q rO.out (by have:=O.out;omega) (by have:=O.out;omega) G);clear G Z HS HE rO;have V:=hid (H.out 0)
     go_wp2_with fail
     refine V.out.mono ?_;rintro e y ⟨rfl,q2,rfl⟩
     go_wp2_with fail
     refine(h4.out q2).mono ?_;rintro e y ⟨rfl,HY⟩
     go_wp2_with fail
     go_roundw
     case rel=>exact⟨I,sw R i I,by have:=O.out;omega,by go_num,HY⟩
     case measure=>have:=O.out;simp[intOf];omega
    ·have H:=hid (fun q=>Z.out I i false q (by have:=O.out;omega) hi (decide_eq_false G));have h0:=hid (fun q=>HE.out I q rO.out G);clear G Z HS HE rO;have V:=hid (H.out 0)
     go_wp2_with fail
     refine V.out.mono ?_;rintro e y ⟨rfl,q2,rfl⟩
     go_wp2_with fail
     go_ret;exact⟨⟨_,rfl⟩,h0.out q2⟩
def DU(e:Ending):Prop:=∃v,e=.returned v
theorem tX:∀(k:Nat) (l:List Nat) (i n:Nat),(gK k l i n).length=l.length
 |0,_,_,_=>rfl
 |k+1,l,i,n=>by
  rw[iV];split
  ·rfl
  ·split
   ·rw[tX k,jo]
   ·rfl
theorem Jk(D:Nat->Src):∀(Q:List Nat) (n:Nat),(qC D Q).take (n*4)=qC D (Q.take n)
 |[],n=>by simp[qC]
 |u::Q,0=>by simp[qC]
 |u::Q,n+1=>by
  have e:(n+1)*4=(fI (D u)).length+n*4:=by simp;omega
  show(fI (D u)++qC D Q).take ((n+1)*4)=fI (D u)++qC D (Q.take n);rw[e,List.take_length_add_append,Jk D Q n]
theorem Fp.take{own:Own}{t:Nat}{D:Nat->Src}{w:World}{g c:Nat}{Q:List Nat}(h:Fp own t D w g c Q)(n:Nat)(G:n<=Q.length):Fp own t D w g c (Q.take n):=by
 obtain⟨F,h⟩:=h;refine⟨F,?_⟩
 rcases h with⟨h1,_⟩|⟨g',cap,cs,h1,h2,h3,h4,h5,h6,h7,h8,h9⟩
 ·cases h1
 ·simp only[Value.slice.injEq,Option.some.injEq,Addr.mk.injEq,true_and,and_true]at h1;obtain⟨rfl,rfl⟩:=h1
  have hl:(Q.take n).length=n:=by simp;omega
  refine .inr ⟨g,c,cs,rfl,F,h3,h4,by omega,h6,by rw[Gq],?_,h9⟩;rw[hl,<-Jk,<-h8,List.take_take]
  congr 1
  omega
theorem jD.kpt{R:Nat}{T:List Nat}{own:Own}{y y':World}(h:jD R y y')(F:own R∈T):Kp T own own y y':=⟨h.os,h.tape,h.output,by rw[h.size];exact tL _,fun b _ G=>h.block b (fun e=>G (by rw[e];exact F)),fun _ _=>rfl⟩
theorem Fp.kp{own own':Own}{t:Nat}{D:Nat->Src}{w w':World}{g c:Nat}{Q:List Nat}{T:List Nat}(h:Fp own t D w g c Q)(K:Kp T own own' w w')(F:t∉T):Fp own' t D w' g c Q:=by
 refine⟨?_,h.2.kp K F⟩
 rcases h.2 with⟨h1,_⟩|⟨g',cap,cs,h1,_,h3,_⟩
 ·cases h1
 ·cases h1;rw[K.ext _ h3.lt,h.1]
theorem SY(own:Own)(t:Nat)(D:Nat->Src)(w:World)(p g c:Nat)(Q:List Nat)(n:Nat)(U:Q.length=n+1)(hl:n<=1000)(h:rM own t D w p g c Q):
  Calls prog 376 #[.pointer (some ⟨p,0,none⟩)] w fun e w'=>DU e/\rM own t D w' p g c (Q.take n)/\Kp [t+1] own own w w':=by
 have hp:w.cell? ⟨p,0,none⟩=some (.slice (some ⟨g,0,none⟩) (n+1) c):=by rw[h.pb.cell,<-U];rfl
 have h0:=h.pb.frozen 0
 have I:Q[n]?=some (Q.getD n 0):=by rw[jK,mR (by omega)];rfl
 obtain⟨q0,V,X,Z⟩:=jS D Q n _ I
 have F:∀k x,(qC D Q)[k]?=some x->w.cell? ⟨g,k,none⟩=some x:=fun k x hx=>by
  obtain⟨g',e,_,_,r,_⟩:=h.sr.2.cell k x hx;cases e;exact r
 have x0:=F _ _ q0;have x1:=F _ _ V;have x2:=F _ _ X;have x3:=F _ _ Z;generalize D (Q.getD n 0)=s at *;have h2:=h.pb.lt
 have O:n+1<=c:=by
  obtain⟨a,c',e,h1,_⟩:=h.sr.2.shape;cases e;omega
 have HF:Hid (∀o,rM own t D ((w.setCell ⟨p,0,none⟩ (.slice (some ⟨g,0,none⟩) n c)).alloc o) p g c (Q.take n)/\Kp [t+1] own own w ((w.setCell ⟨p,0,none⟩ (.slice (some ⟨g,0,none⟩) n c)).alloc o)):=fun o=>by
  have hk:Kp [t+1] own own w (w.setCell ⟨p,0,none⟩ (.slice (some ⟨g,0,none⟩) n c)):=((jD.refl p w).set 0 _).kpt (by rw[h.op];simp);have G:=hk.eP ((Below.refl _ _).alloc (tL _) o)
  have H:(Q.take n).length=n:=by simp;omega
  refine⟨⟨h.op,?_,(h.sr.take n (by omega)).kp G (by simp)⟩,G⟩;rw[H];exact(h.pb.setCell 0 _).alloc o
 clear h U I q0 V X Z F
 have g1:(n:Int)+1-1=(n:Int):=by omega
 have n1:¬(p=w.heap.size):=by omega
 go_enter func376,ntmps376
 go_wp2_with fail
 go_ret;exact⟨⟨_,rfl⟩,HF.out _⟩
theorem DV(own:Own)(t:Nat)(D:Nat->Src)(hD:∀u:Nat,(D u).u=(u:Int))(w:World)(p g c:Nat)(Q:List Nat)(n:Nat)(G:Q.length=n+1)(hl:n<1000)(h:rM own t D w p g c Q):
  Calls prog 209 #[.iface 250 (.pointer (some ⟨p,0,none⟩))] w fun e w'=>DU e/\rM own t D w' p g c (iQ Q)/\Kp [t,t+1] own own w w':=by
 have hp:w.cell? ⟨p,0,none⟩=some (.slice (some ⟨g,0,none⟩) (n+1) c):=by rw[h.pb.cell,<-G];rfl
 have h0:=Vq p w _ _ _ hp;have h4:=GD p w _ _ _ hp;have Vr:=hid (vM (some ⟨g,0,none⟩) (n+1) c w)
 have HS:Hid (Calls prog 378 #[.slice (some ⟨g,0,none⟩) (n+1) c,.int .i64 0,.int .i64 n] w fun e w'=>e=.returned (.tuple #[])/\rM own t D w' p g c (sw Q 0 n)/\Kp [t] own own w w'):=by
  have hs:=w9 own t D w g c Q 0 n (by omega) (by omega) h.sr;rw[G]at hs;refine hs.mono ?_;rintro e w' ⟨rfl,h1,F⟩;refine⟨rfl,⟨h.op,?_,h1⟩,F⟩;rw[jo];exact aK h.pb F (by rw[h.op];simp)
 have U:Hid (∀y,rM own t D y p g c (sw Q 0 n)->Calls prog 270 #[.iface 250 (.pointer (some ⟨p,0,none⟩)),.int .i64 0,.int .i64 n] y fun e w'=>OB e/\rM own t D w' p g c (gK Q.length (sw Q 0 n) 0 n)/\Kp [t] own own y w'):=fun y O=>
  KY own t D hD y p g c (sw Q 0 n) 0 n (by rw[jo];omega) (by rw[jo];omega) (by rw[jo];omega) O Q.length (by omega)
 have HL:Hid (∀(y:World) (Z:List Nat),Z.length=n+1->rM own t D y p g c Z->Calls prog 376 #[.pointer (some ⟨p,0,none⟩)] y fun e w'=>DU e/\rM own t D w' p g c (Z.take n)/\Kp [t+1] own own y w'):=fun y Z hZ O=>SY own t D y p g c Z n hZ (by omega) O
 have HP:Hid (iQ Q=(gK Q.length (sw Q 0 n) 0 n).take n):=by unfold Hid iQ;rw[G];rfl
 have I:Hid (∀y,rM own t D y p g c (gK Q.length (sw Q 0 n) 0 n)->(gK Q.length (sw Q 0 n) 0 n).length=n+1):=fun y O=>by
  rw[tX,jo,G]
 have h3:=XR p;generalize gK Q.length (sw Q 0 n) 0 n=Z at *
 have g1:(n:Int)+1-1=(n:Int):=by omega
 have HQ:=hid G;clear h G hp;go_enter func209,ntmps209
 go_wp2_with fail
 refine Vr.out.mono ?_;rintro e y ⟨rfl,rfl⟩
 go_wp2_with fail
 refine HS.out.mono ?_;rintro e y1 ⟨rfl,h1,F⟩;have V:=hid h1;have S9:=hid F;clear h1 F
 go_wp2_with fail
 refine(U.out y1 V.out).mono ?_;rintro e y2 ⟨⟨b,rfl⟩,h1,F⟩;have H:=hid h1;have X:=hid F;clear h1 F
 go_wp2_with fail
 refine(HL.out y2 Z (I.out y2 H.out) H.out).mono ?_;rintro e y3 ⟨⟨v,rfl⟩,h1,F⟩
 have HF:Hid (rM own t D y3 p g c (iQ Q)/\Kp [t,t+1] own own y y3):=by
  rw[HP.out];exact⟨h1,((S9.out.mono (by simp)).trans (X.out.mono (by simp))).trans (F.mono (by simp))⟩
 clear h1 F
 go_wp2_with fail
 go_ret;exact⟨⟨_,rfl⟩,HF.out⟩
end Go.Proofs.YtphbledmopchnaaGreatDoor.Sd
