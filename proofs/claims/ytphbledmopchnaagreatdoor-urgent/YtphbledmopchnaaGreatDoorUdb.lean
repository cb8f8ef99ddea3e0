import Derived.Test.YtphbledmopchnaaGreatDoorUcc
open List renaming getD_eq_getElem?_getD->fA,getElem?_eq_getElem->fB
open Nat renaming le_refl->mR
set_option maxHeartbeats 4000000
set_option maxRecDepth 100000
namespace Go.Proofs.YtphbledmopchnaaGreatDoor.Sd
open Go.RowKit Go.Lib Mm Tryz
theorem Xy(p:Nat)(w:World):(method 518 250 (ay p 0) "Push").run prog w=.ok (377,(ay p 0)) w:=by kernel_rfl
theorem YP(p:Nat)(w:World):(method 518 250 (ay p 0) "Pop").run prog w=.ok (376,(ay p 0)) w:=by kernel_rfl
theorem Xz(p:Nat)(w:World):(method 518 250 (ay p 0) "Len").run prog w=(loadVar 300 (aj p 0) >>=fun r=>(pure (208,r):Sem (FuncId×Value))).run prog w:=by kernel_rfl
theorem Ut(p:Nat)(w:World):(method 518 250 (ay p 0) "Less").run prog w=(loadVar 300 (aj p 0) >>=fun r=>(pure (375,r):Sem (FuncId×Value))).run prog w:=by kernel_rfl
theorem Uu(p:Nat)(w:World):(method 518 250 (ay p 0) "Swap").run prog w=(loadVar 300 (aj p 0) >>=fun r=>(pure (378,r):Sem (FuncId×Value))).run prog w:=by kernel_rfl
theorem yA(p:Nat)(w:World)(a:Option Addr)(n c:Nat)(hp:w.cell? (aj p 0)=some (.slice a n c)):(loadVar 300 (aj p 0)).run prog w=.ok (.slice a n c) w:=by
 simp[go_sem,loadVar,hp,sizeOf300]
theorem WL(p:Nat)(w:World)(a:Option Addr)(n c:Nat)(hp:w.cell? (aj p 0)=some (.slice a n c)):(method 518 250 (ay p 0) "Len").run prog w=.ok (208,.slice a n c) w:=by
 rw[Xz,Sem.run_bind,yA p w a n c hp];rfl
theorem Ij(p:Nat)(w:World)(a:Option Addr)(n c:Nat)(hp:w.cell? (aj p 0)=some (.slice a n c)):(method 518 250 (ay p 0) "Less").run prog w=.ok (375,.slice a n c) w:=by
 rw[Ut,Sem.run_bind,yA p w a n c hp];rfl
theorem Ik(p:Nat)(w:World)(a:Option Addr)(n c:Nat)(hp:w.cell? (aj p 0)=some (.slice a n c)):(method 518 250 (ay p 0) "Swap").run prog w=.ok (378,.slice a n c) w:=by
 rw[Uu,Sem.run_bind,yA p w a n c hp];rfl
structure sP (oZ:Own) (t:Nat) (D:Nat->Src) (w:World) (p g c:Nat) (Q:List Nat):Prop where
 op:oZ p=t+1
 pb:aA w p 300 [aS g Q.length c]
 sr:Gx oZ t D w g c Q
theorem jP(Q:List Nat)(i j:Nat):(sw Q i j).length=Q.length:=by simp[sw]
theorem yB (n:Nat):∀(i:Nat) (l:List Nat),i<n->xM n l i=xM (i+1) l i:=n.strongRecOn fun n C=>match n,C with
 |0,_=>fun i l h=>by omega
 |n+1,C=>fun i l h=>by
  simp only[xM]
  by_cases F:i=0
  ·simp[F]
  ·split
   ·rfl
   ·rw[C n (by omega) ((i-1) / 2) _ (by omega)];rw[C i (by omega) ((i-1) / 2) _ (by omega)]
theorem Uv(oZ:Own)(t:Nat)(D:Nat->Src)(hD:∀u:Nat,(D u).u=(u:Int))(w:World)(p g c:Nat)(Q:List Nat)(j:Nat)(hj:j<Q.length)(hl:Q.length<=1000)(h:sP oZ t D w p g c Q):
  Calls prog 307 #[.iface 250 (ay p 0),iZ j] w fun e w'=>e=.returned (.tuple #[])/\sP oZ t D w' p g c (xM (j+1) Q j)/\Kp [t] oZ oZ w w':=by
 obtain⟨X,hX⟩:∃X,X=xM (j+1) Q j:=⟨_,rfl⟩;rw[<-hX];have HX:=au hX;have H0:=au h;obtain⟨N,hN⟩:∃N,N=Q.length:=⟨_,rfl⟩;have HN:=au hN
 have h5:j<N:=by omega
 have h7:N<=1000:=by omega
 clear hX h hN hj hl;have O:=au hD;clear hD;go_enter func307,ntmps307
 go_wp2_with fail
 go_loopw [1] (fun s1 wr=>∃(k:Nat) (R:List Nat),k<N/\s1=(iZ k)/\Hid (R.length=N/\sP oZ t D wr p g c R/\Kp [t] oZ oZ w wr/\xM (k+1) R k=X)) (fun s1 _=>(intOf s1).toNat)
 case atStart=>exact⟨j,Q,h5,rfl,HN.out.symm,H0.out,Kp.refl _ _ _,HX.out.symm⟩
 case round=>
  clear HX H0 HN;obtain⟨k,R,hk,rfl,Z⟩:=hrel
  by_cases h0:k=0
  ·subst h0
   have HF:Hid (sP oZ t D wr p g c X/\Kp [t] oZ oZ w wr):=by
    obtain⟨h1,h2,h3,h4⟩:=Z.out
    have:xM (0+1) R 0=R:=by simp[xM]
    rw[this]at h4;rw[<-h4];exact⟨h2,h3⟩
   clear Z
   go_wp2_with fail
   go_end0;exact⟨rfl,HF.out⟩
  ·obtain⟨i,hi⟩:∃i,i=(k-1) / 2:=⟨_,rfl⟩
   have I:i<k:=by omega
   have q1:((k:Int)-1).tdiv 2=(i:Int):=by
    have e:(k:Int)-1=((k-1:Nat):Int):=by omega
    rw[e,hi];rfl
   obtain⟨H,F,hK,hU⟩:=Z.out
   have hp:wr.cell? (aj p 0)=some (aS g R.length c):=by rw[F.pb.cell];rfl
   rw[H]at hp;have h9:=Ij p wr _ _ _ hp
   have h6:∀q,(method 518 250 (ay p 0) "Swap").run prog (wr.drewN q)=.ok (378,(aS g N c)) (wr.drewN q):=fun q=>Ik p (wr.drewN q) _ _ _ hp
   have ek:R[k]?=some (R.getD k 0):=by rw[fA,fB (by omega)];rfl
   have ei:R[i]?=some (R.getD i 0):=by rw[fA,fB (by omega)];rfl
   have hc:∀k x,(qC D R)[k]?=some x->wr.cell? (aj g k)=some x:=fun k x hx=>by
    obtain⟨g',e,_,_,r,_⟩:=F.sr.2.cell k x hx;cases e;exact r
   have V:=au (Ew g N c k i hk (by omega) _ _ wr (hc _ _ (kR D R k _ ek).1) (hc _ _ (kR D R i _ ei).1));rw[O.out,O.out]at V
   have g1:(k:Int)-1<9223372036854775808:=by omega
   have g2: -9223372036854775808<=(k:Int)-1:=by omega
   have h8:i<9223372036854775808:=by omega
   have n1:¬(i=k):=by omega
   have n2:¬((i:Int)=(k:Int)):=by omega
   have n3:((i:Int)==(k:Int))=false:=by simpa using n2
   by_cases G:R.getD k 0<R.getD i 0
   ·have K:Hid (Calls prog 375 #[aS g N c,iZ k,iZ i] wr fun e w'=>e=.returned (.bool true)/\∃q,w'=wr.drewN q):=by
     have e:decide (((R.getD k 0:Nat):Int)<((R.getD i 0:Nat):Int))=true:=decide_eq_true (Int.ofNat_lt.2 G);have:=V.out;rw[e]at this;exact this
    have HS:Hid (∀q,Calls prog 378 #[aS g N c,iZ i,iZ k] (wr.drewN q) fun e w'=>e=.returned (.tuple #[])/\Hid ((sw R i k).length=N/\sP oZ t D w' p g c (sw R i k)/\Kp [t] oZ oZ w w'/\xM (i+1) (sw R i k) i=X)):=fun q=>by
     have hb:aD wr (wr.drewN q):=⟨rfl,rfl,rfl,mR _,fun _ _=>rfl⟩;have hs:=yx oZ t D (wr.drewN q) g c R i k (by omega) (by omega) ⟨F.sr.1,F.sr.2.kp (T:=[]) (Kp.below hb) (by simp)⟩;rw[H]at hs;refine hs.mono ?_;rintro e w' ⟨rfl,h1,h2⟩;refine⟨rfl,by rw[jP,H],⟨F.op,?_,h1⟩,hK.trans ((Kp.below hb).trans h2),?_⟩
     ·rw[jP];exact aO (w:=wr.drewN q) F.pb h2 (by rw[F.op];simp)
     ·rw[<-hU]
      have e2:xM (k+1) R k=xM k (sw R ((k-1) / 2) k) ((k-1) / 2):=by
       simp only[xM];rw[if_neg];intro hh
       rcases hh with hh|hh
       ·exact h0 hh
       ·exact hh (by rw[<-hi];exact G)
      rw[e2,<-hi,yB k i _ I]
    have U:=au (And.intro I hk);clear H F hK hU hp ek ei hc V G Z hi I
    go_wp2_with fail
    refine K.out.mono ?_;rintro e y ⟨rfl,q,rfl⟩
    go_wp2_with fail
    refine(HS.out q).mono ?_;rintro e y ⟨rfl,HY⟩
    go_wp2_with fail
    go_roundw
    case rel=>exact⟨i,sw R i k,by have:=U.out;omega,by go_num,HY⟩
    case measure=>have:=U.out;simp[intOf];omega
   ·have K:Hid (Calls prog 375 #[aS g N c,iZ k,iZ i] wr fun e w'=>e=.returned (.bool false)/\∃q,w'=wr.drewN q):=by
     have e:decide (((R.getD k 0:Nat):Int)<((R.getD i 0:Nat):Int))=false:=decide_eq_false (fun h=>G (Int.ofNat_lt.1 h));have:=V.out;rw[e]at this;exact this
    have HF:Hid (∀q,sP oZ t D (wr.drewN q) p g c X/\Kp [t] oZ oZ w (wr.drewN q)):=fun q=>by
     have hb:aD wr (wr.drewN q):=⟨rfl,rfl,rfl,mR _,fun _ _=>rfl⟩
     have e2:xM (k+1) R k=R:=by
      simp only[xM];rw[if_pos (.inr (by rw[<-hi];exact G))]
     rw[<-hU,e2];exact⟨⟨F.op,F.pb,F.sr.1,F.sr.2.kp (T:=[]) (Kp.below hb) (by simp)⟩,hK.trans (Kp.below hb)⟩
    clear H F hK hU hp ek ei hc V G Z hi h6 I
    go_wp2_with fail
    refine K.out.mono ?_;rintro e y ⟨rfl,q,rfl⟩
    go_wp2_with fail
    go_end0;exact⟨rfl,HF.out q⟩
def Pk(e:Ending):Prop:=∃b,e=.returned (.bool b)
def kid(l:List Nat)(i n:Nat):Nat:=if 2*i+2<n/\l.getD (2*i+2) 0<l.getD (2*i+1) 0 then 2*i+2 else 2*i+1
theorem jv(k:Nat)(l:List Nat)(i n:Nat):iC (k+1) l i n=if n<=2*i+1 then l else if l.getD (kid l i n) 0<l.getD i 0 then iC k (sw l i (kid l i n)) (kid l i n) n else l:=rfl
theorem XA(l:List Nat)(i n:Nat):2*i+1<=kid l i n:=by unfold kid;split<;>omega
theorem rC:∀(k k':Nat) (l:List Nat) (i n:Nat),n<=i+k->n<=i+k'->iC k l i n=iC k' l i n
 |0,0,_,_,_,_,_=>rfl
 |0,k'+1,l,i,n,h,_=>by rw[jv,if_pos (by omega)];rfl
 |k+1,0,l,i,n,_,h=>by rw[jv,if_pos (by omega)];rfl
 |k+1,k'+1,l,i,n,h,h'=>by
  rw[jv,jv];have:=XA l i n
  by_cases h1:n<=2*i+1
  ·rw[if_pos h1,if_pos h1]
  ·rw[if_neg h1,if_neg h1,rC k k' _ _ _ (by omega) (by omega)]
theorem LV(oZ:Own)(t:Nat)(D:Nat->Src)(hD:∀u:Nat,(D u).u=(u:Int))(w:World)(p g c:Nat)(Q:List Nat)(i0 n:Nat)(ho:i0<Q.length)(hn:n<=Q.length)(hl:Q.length<=1000)(h:sP oZ t D w p g c Q)(F:Nat)(hF:n<=i0+F):
  Calls prog 270 #[.iface 250 (ay p 0),iZ i0,iZ n] w fun e w'=>Pk e/\sP oZ t D w' p g c (iC F Q i0 n)/\Kp [t] oZ oZ w w':=by
 obtain⟨X,hX⟩:∃X,X=iC F Q i0 n:=⟨_,rfl⟩;rw[<-hX];have HX:=au hX;have H0:=au h;obtain⟨N,hN⟩:∃N,N=Q.length:=⟨_,rfl⟩;have HN:=au hN
 have hr:i0<N:=by omega
 have x4:n<=N:=by omega
 have hu:N<=1000:=by omega
 have HF:=au hF;clear hX h hN ho hn hl hF;have h7:=au hD;clear hD;go_enter func270,ntmps270
 go_wp2_with fail
 go_loopw [7] (fun s7 wr=>∃(i:Nat) (R:List Nat),i<N/\s7=(iZ i)/\Hid (R.length=N/\sP oZ t D wr p g c R/\Kp [t] oZ oZ w wr/\iC N R i n=X)) (fun s7 _=>N-(intOf s7).toNat)
 case atStart=>exact⟨i0,Q,hr,rfl,HN.out.symm,H0.out,Kp.refl _ _ _,by rw[HX.out];exact rC _ _ _ _ _ (by omega) HF.out⟩
 case round=>
  clear HX H0 HN HF;obtain⟨i,R,hi,rfl,HR⟩:=hrel;obtain⟨h6,hM,hK,hU⟩:=HR.out
  have h8:∀q,aD wr (wr.drewN q):=fun q=>⟨rfl,rfl,rfl,mR _,fun _ _=>rfl⟩
  have h5:∀q,sP oZ t D (wr.drewN q) p g c R/\Kp [t] oZ oZ w (wr.drewN q):=fun q=>⟨⟨hM.op,hM.pb,hM.sr.1,hM.sr.2.kp (T:=[]) (Kp.below (h8 q)) (by simp)⟩,hK.trans (Kp.below (h8 q))⟩
  obtain⟨F',h9⟩:∃F',N=F'+1:=⟨N-1,by omega⟩
  have Uw:iC (F'+1) R i n=X:=by rw[<-h9];exact hU
  rw[jv]at Uw
  have hp:wr.cell? (aj p 0)=some (aS g N c):=by rw[hM.pb.cell,<-h6];rfl
  obtain⟨I,he⟩:∃I,I=2*i+1:=⟨_,rfl⟩;obtain⟨O,hf⟩:∃O,O=2*i+2:=⟨_,rfl⟩
  have e1:2*(i:Int)+1=(I:Int):=by omega
  have e2:(I:Int)+1=(O:Int):=by omega
  have g1:2*(i:Int)<9223372036854775808:=by omega
  have g2: -9223372036854775808<=2*(i:Int):=by omega
  have g3:I<9223372036854775808:=by omega
  have g4:O<9223372036854775808:=by omega
  have g5:¬((I:Int)<0):=by omega
  by_cases hA:n<=I
  ·have HF:Hid (sP oZ t D wr p g c X/\Kp [t] oZ oZ w wr):=by
    rw[if_pos (by omega)]at Uw;rw[<-Uw];exact⟨hM,hK⟩
   have hj:(n:Int)<=(I:Int):=by omega
   clear HR h6 hM hK hU h8 h5 h9 Uw hp he hf h7
   go_wp2_with fail
   go_ret;exact⟨⟨_,rfl⟩,HF.out⟩
  ·have hj:¬((n:Int)<=(I:Int)):=by omega
   rw[if_neg (by omega)]at Uw;have x0:=Ij p wr _ _ _ hp
   have x5:∀q,(method 518 250 (ay p 0) "Less").run prog (wr.drewN q)=.ok (375,(aS g N c)) (wr.drewN q):=fun q=>Ij p (wr.drewN q) _ _ _ hp
   have x3:∀q,(method 518 250 (ay p 0) "Swap").run prog (wr.drewN q)=.ok (378,(aS g N c)) (wr.drewN q):=fun q=>Ik p (wr.drewN q) _ _ _ hp
   have hc:∀k x,(qC D R)[k]?=some x->wr.cell? (aj g k)=some x:=fun k x hx=>by
    obtain⟨g',e,_,_,r,_⟩:=hM.sr.2.cell k x hx;cases e;exact r
   have eR:∀k,k<N->R[k]?=some (R.getD k 0):=fun k hk=>by rw[fA,fB (by omega)];rfl
   have V:Hid (∀(a b:Nat) (v:Bool) (q:Nat),a<N->b<N->decide (R.getD a 0<R.getD b 0)=v->Calls prog 375 #[aS g N c,iZ a,iZ b] (wr.drewN q) fun e w'=>e=.returned (.bool v)/\∃q,w'=wr.drewN q):=fun a b v q ha hb hv=>by
    have h1:=Ew g N c a b ha hb _ _ (wr.drewN q) (hc _ _ (kR D R a _ (eR a ha)).1) (hc _ _ (kR D R b _ (eR b hb)).1);rw[h7.out,h7.out]at h1
    have h2:decide (((R.getD a 0:Nat):Int)<((R.getD b 0:Nat):Int))=v:=by rw[<-hv];exact decide_eq_decide.2 Int.ofNat_lt
    rw[h2]at h1;refine h1.mono ?_;rintro e w' ⟨rfl,q',rfl⟩;exact⟨rfl,q+q',by rw[World.drewN_drewN]⟩
   have HS:Hid (∀(j q:Nat),kid R i n=j->j<N->i<j->R.getD j 0<R.getD i 0->Calls prog 378 #[aS g N c,iZ i,iZ j] (wr.drewN q) fun e w'=>e=.returned (.tuple #[])/\Hid ((sw R i j).length=N/\sP oZ t D w' p g c (sw R i j)/\Kp [t] oZ oZ w w'/\iC N (sw R i j) j n=X)):=fun j q hg hy hw G=>by
    have hs:=yx oZ t D (wr.drewN q) g c R i j (by omega) (by omega) (h5 q).1.sr;rw[h6]at hs;refine hs.mono ?_;rintro e w' ⟨rfl,h1,h2⟩;refine⟨rfl,by rw[jP,h6],⟨hM.op,?_,h1⟩,(h5 q).2.trans h2,?_⟩
    ·rw[jP];exact aO (w:=wr.drewN q) hM.pb h2 (by rw[hM.op];simp)
    ·rw[<-Uw,hg,if_pos G];exact rC _ _ _ _ _ (by omega) (by omega)
   have HE:Hid (∀(j q:Nat),kid R i n=j->¬R.getD j 0<R.getD i 0->sP oZ t D (wr.drewN q) p g c X/\Kp [t] oZ oZ w (wr.drewN q)):=fun j q hg G=>by
    have h3:=h5 q;rw[hg,if_neg G]at Uw;rw[<-Uw];exact h3
   have K:Hid (I=2*i+1/\O=2*i+2/\I<N/\i<I/\i<O):=⟨he,hf,by omega,by omega,by omega⟩;have x6:i<N:=hi;clear HR h6 hM hK hU h8 h5 h9 Uw hp he hf h7 hc eR
   by_cases hB:O<n
   ·have hm:(O:Int)<(n:Int):=by omega
    have YQ:O<N:=by omega
    by_cases hC:R.getD O 0<R.getD I 0
    ·have HC:=au (V.out O I true 0 YQ (by have:=K.out;omega) (decide_eq_true hC));have Cx:=au hC;clear hC
     have Ey:kid R i n=O:=by
      have:=K.out;unfold kid;rw[if_pos ⟨by omega,by rw[<-this.1,<-this.2.1];exact Cx.out⟩];omega
     have Z:=au Ey;clear Ey
     by_cases G:R.getD O 0<R.getD i 0
     ·have H:=au (fun q=>V.out O i true q (by have:=K.out;omega) hi (decide_eq_true G));have h4:=au (fun q=>HS.out O q Z.out (by have:=K.out;omega) (by have:=K.out;omega) G);clear G V HS HE Z;have U:=au (H.out 0)
      go_wp2_with fail
      refine HC.out.mono ?_;rintro e y ⟨rfl,q1,rfl⟩
      go_wp2_with fail
      refine(H.out q1).mono ?_;rintro e y ⟨rfl,q2,rfl⟩
      go_wp2_with fail
      refine(h4.out q2).mono ?_;rintro e y ⟨rfl,HY⟩
      go_wp2_with fail
      go_roundw
      case rel=>exact⟨O,sw R i O,by have:=K.out;omega,by go_num,HY⟩
      case measure=>have:=K.out;simp[intOf];omega
     ·have H:=au (fun q=>V.out O i false q (by have:=K.out;omega) hi (decide_eq_false G));have h0:=au (fun q=>HE.out O q Z.out G);clear G V HS HE Z;have U:=au (H.out 0)
      go_wp2_with fail
      refine HC.out.mono ?_;rintro e y ⟨rfl,q1,rfl⟩
      go_wp2_with fail
      refine(H.out q1).mono ?_;rintro e y ⟨rfl,q2,rfl⟩
      go_wp2_with fail
      go_ret;exact⟨⟨_,rfl⟩,h0.out q2⟩
    ·have HC:=au (V.out O I false 0 YQ (by have:=K.out;omega) (decide_eq_false hC));have Cx:=au hC;clear hC
     have Ey:kid R i n=I:=by
      have:=K.out;unfold kid;rw[if_neg (fun hh=>Cx.out (by rw[this.1,this.2.1];exact hh.2))];omega
     have Z:=au Ey;clear Ey
     by_cases G:R.getD I 0<R.getD i 0
     ·have H:=au (fun q=>V.out I i true q (by have:=K.out;omega) hi (decide_eq_true G));have h4:=au (fun q=>HS.out I q Z.out (by have:=K.out;omega) (by have:=K.out;omega) G);clear G V HS HE Z;have U:=au (H.out 0)
      go_wp2_with fail
      refine HC.out.mono ?_;rintro e y ⟨rfl,q1,rfl⟩
      go_wp2_with fail
      refine(H.out q1).mono ?_;rintro e y ⟨rfl,q2,rfl⟩
      go_wp2_with fail
      refine(h4.out q2).mono ?_;rintro e y ⟨rfl,HY⟩
      go_wp2_with fail
      go_roundw
      case rel=>exact⟨I,sw R i I,by have:=K.out;omega,by go_num,HY⟩
      case measure=>have:=K.out;simp[intOf];omega
     ·have H:=au (fun q=>V.out I i false q (by have:=K.out;omega) hi (decide_eq_false G));have h0:=au (fun q=>HE.out I q Z.out G);clear G V HS HE Z;have U:=au (H.out 0)
      go_wp2_with fail
      refine HC.out.mono ?_;rintro e y ⟨rfl,q1,rfl⟩
      go_wp2_with fail
      refine(H.out q1).mono ?_;rintro e y ⟨rfl,q2,rfl⟩
      go_wp2_with fail
      go_ret;exact⟨⟨_,rfl⟩,h0.out q2⟩
   ·have hm:¬((O:Int)<(n:Int)):=by omega
    have Ey:kid R i n=I:=by
     have:=K.out;unfold kid;rw[if_neg (fun hh=>by omega)];omega
    have Z:=au Ey;clear Ey
    by_cases G:R.getD I 0<R.getD i 0
    ·have H:=au (fun q=>V.out I i true q (by have:=K.out;omega) hi (decide_eq_true G));have h4:=au (fun q=>HS.out I q Z.out (by have:=K.out;omega) (by have:=K.out;omega) G);clear G V HS HE Z;have U:=au (H.out 0)
     go_wp2_with fail
     refine U.out.mono ?_;rintro e y ⟨rfl,q2,rfl⟩
     go_wp2_with fail
     refine(h4.out q2).mono ?_;rintro e y ⟨rfl,HY⟩
     go_wp2_with fail
     go_roundw
     case rel=>exact⟨I,sw R i I,by have:=K.out;omega,by go_num,HY⟩
     case measure=>have:=K.out;simp[intOf];omega
    ·have H:=au (fun q=>V.out I i false q (by have:=K.out;omega) hi (decide_eq_false G));have h0:=au (fun q=>HE.out I q Z.out G);clear G V HS HE Z;have U:=au (H.out 0)
     go_wp2_with fail
     refine U.out.mono ?_;rintro e y ⟨rfl,q2,rfl⟩
     go_wp2_with fail
     go_ret;exact⟨⟨_,rfl⟩,h0.out q2⟩
def Ez(e:Ending):Prop:=∃v,e=.returned v
theorem uT:∀(k:Nat) (l:List Nat) (i n:Nat),(iC k l i n).length=l.length
 |0,_,_,_=>rfl
 |k+1,l,i,n=>by
  rw[jv];split
  ·rfl
  ·split
   ·rw[uT k,jP]
   ·rfl
theorem J5(D:Nat->Src):∀(Q:List Nat) (n:Nat),(qC D Q).take (n*4)=qC D (Q.take n)
 |[],n=>by simp[qC]
 |u::Q,0=>by simp[qC]
 |u::Q,n+1=>by
  have e:(n+1)*4=(gH (D u)).length+n*4:=by simp;omega
  show(gH (D u)++qC D Q).take ((n+1)*4)=gH (D u)++qC D (Q.take n);rw[e,List.take_length_add_append,J5 D Q n]
theorem Gx.take{oZ:Own}{t:Nat}{D:Nat->Src}{w:World}{g c:Nat}{Q:List Nat}(h:Gx oZ t D w g c Q)(n:Nat)(G:n<=Q.length):Gx oZ t D w g c (Q.take n):=by
 obtain⟨F,h⟩:=h;refine⟨F,?_⟩
 rcases h with⟨h1,_⟩|⟨g',cap,cs,h1,h2,h3,h4,h5,h6,h7,h8,h9⟩
 ·cases h1
 ·simp only[Value.slice.injEq,Option.some.injEq,Addr.mk.injEq,true_and,and_true]at h1;obtain⟨rfl,rfl⟩:=h1
  have hl:(Q.take n).length=n:=by simp;omega
  refine .inr ⟨g,c,cs,rfl,F,h3,h4,by omega,h6,by rw[Ii],?_,h9⟩;rw[hl,<-J5,<-h8,List.take_take]
  congr 1
  omega
theorem je.kpt{R:Nat}{T:List Nat}{oZ:Own}{y y':World}(h:je R y y')(F:oZ R∈T):Kp T oZ oZ y y':=⟨h.os,h.tape,h.output,by rw[h.size];exact mR _,fun b _ G=>h.block b (fun e=>G (by rw[e];exact F)),fun _ _=>rfl⟩
theorem Gx.kp{oZ aC:Own}{t:Nat}{D:Nat->Src}{w w':World}{g c:Nat}{Q:List Nat}{T:List Nat}(h:Gx oZ t D w g c Q)(K:Kp T oZ aC w w')(F:t∉T):Gx aC t D w' g c Q:=by
 refine⟨?_,h.2.kp K F⟩
 rcases h.2 with⟨h1,_⟩|⟨g',cap,cs,h1,_,h3,_⟩
 ·cases h1
 ·cases h1;rw[K.ext _ h3.lt,h.1]
theorem Ux(oZ:Own)(t:Nat)(D:Nat->Src)(w:World)(p g c:Nat)(Q:List Nat)(n:Nat)(O:Q.length=n+1)(hl:n<=1000)(h:sP oZ t D w p g c Q):
  Calls prog 376 #[ay p 0] w fun e w'=>Ez e/\sP oZ t D w' p g c (Q.take n)/\Kp [t+1] oZ oZ w w':=by
 have hp:w.cell? (aj p 0)=some (aS g (n+1) c):=by rw[h.pb.cell,<-O];rfl
 have h0:=h.pb.frozen 0
 have I:Q[n]?=some (Q.getD n 0):=by rw[fA,fB (by omega)];rfl
 obtain⟨q0,U,V,X⟩:=kR D Q n _ I
 have F:∀k x,(qC D Q)[k]?=some x->w.cell? (aj g k)=some x:=fun k x hx=>by
  obtain⟨g',e,_,_,r,_⟩:=h.sr.2.cell k x hx;cases e;exact r
 have x0:=F _ _ q0;have x1:=F _ _ U;have x2:=F _ _ V;have x3:=F _ _ X;generalize D (Q.getD n 0)=s at *;have h2:=h.pb.lt
 have K:n+1<=c:=by
  obtain⟨a,c',e,h1,_⟩:=h.sr.2.shape;cases e;omega
 have Z:Hid (∀o,sP oZ t D ((w.setCell (aj p 0) (aS g n c)).alloc o) p g c (Q.take n)/\Kp [t+1] oZ oZ w ((w.setCell (aj p 0) (aS g n c)).alloc o)):=fun o=>by
  have hk:Kp [t+1] oZ oZ w (w.setCell (aj p 0) (aS g n c)):=((je.refl p w).set 0 _).kpt (by rw[h.op];simp);have G:=hk.fK ((Below.refl _ _).alloc (mR _) o)
  have H:(Q.take n).length=n:=by simp;omega
  refine⟨⟨h.op,?_,(h.sr.take n (by omega)).kp G (by simp)⟩,G⟩;rw[H];exact(h.pb.setCell 0 _).alloc o
 clear h O I q0 U V X F
 have g1:(n:Int)+1-1=(n:Int):=by omega
 have n1:¬(p=w.heap.size):=by omega
 go_enter func376,ntmps376
 go_wp2_with fail
 go_ret;exact⟨⟨_,rfl⟩,Z.out _⟩
theorem EA(oZ:Own)(t:Nat)(D:Nat->Src)(hD:∀u:Nat,(D u).u=(u:Int))(w:World)(p g c:Nat)(Q:List Nat)(n:Nat)(G:Q.length=n+1)(hl:n<1000)(h:sP oZ t D w p g c Q):
  Calls prog 209 #[.iface 250 (ay p 0)] w fun e w'=>Ez e/\sP oZ t D w' p g c (jg Q)/\Kp [t,t+1] oZ oZ w w':=by
 have hp:w.cell? (aj p 0)=some (aS g (n+1) c):=by rw[h.pb.cell,<-G];rfl
 have h0:=WL p w _ _ _ hp;have h4:=Ik p w _ _ _ hp;have X:=au (w9 (some (aj g 0)) (n+1) c w)
 have HS:Hid (Calls prog 378 #[(aS g (n+1) c),iZ 0,iZ n] w fun e w'=>e=.returned (.tuple #[])/\sP oZ t D w' p g c (sw Q 0 n)/\Kp [t] oZ oZ w w'):=by
  have hs:=yx oZ t D w g c Q 0 n (by omega) (by omega) h.sr;rw[G]at hs;refine hs.mono ?_;rintro e w' ⟨rfl,h1,F⟩;refine⟨rfl,⟨h.op,?_,h1⟩,F⟩;rw[jP];exact aO h.pb F (by rw[h.op];simp)
 have O:Hid (∀y,sP oZ t D y p g c (sw Q 0 n)->Calls prog 270 #[.iface 250 (ay p 0),iZ 0,iZ n] y fun e w'=>Pk e/\sP oZ t D w' p g c (iC Q.length (sw Q 0 n) 0 n)/\Kp [t] oZ oZ y w'):=fun y K=>
  LV oZ t D hD y p g c (sw Q 0 n) 0 n (by rw[jP];omega) (by rw[jP];omega) (by rw[jP];omega) K Q.length (by omega)
 have HL:Hid (∀(y:World) (Z:List Nat),Z.length=n+1->sP oZ t D y p g c Z->Calls prog 376 #[ay p 0] y fun e w'=>Ez e/\sP oZ t D w' p g c (Z.take n)/\Kp [t+1] oZ oZ y w'):=fun y Z hZ K=>Ux oZ t D y p g c Z n hZ (by omega) K
 have HP:Hid (jg Q=(iC Q.length (sw Q 0 n) 0 n).take n):=by unfold Hid jg;rw[G];rfl
 have I:Hid (∀y,sP oZ t D y p g c (iC Q.length (sw Q 0 n) 0 n)->(iC Q.length (sw Q 0 n) 0 n).length=n+1):=fun y K=>by
  rw[uT,jP,G]
 have h3:=YP p;generalize iC Q.length (sw Q 0 n) 0 n=Z at *
 have g1:(n:Int)+1-1=(n:Int):=by omega
 have HQ:=au G;clear h G hp;go_enter func209,ntmps209
 go_wp2_with fail
 refine X.out.mono ?_;rintro e y ⟨rfl,rfl⟩
 go_wp2_with fail
 refine HS.out.mono ?_;rintro e y1 ⟨rfl,h1,F⟩;have U:=au h1;have Uy:=au F;clear h1 F
 go_wp2_with fail
 refine(O.out y1 U.out).mono ?_;rintro e y2 ⟨⟨b,rfl⟩,h1,F⟩;have H:=au h1;have V:=au F;clear h1 F
 go_wp2_with fail
 refine(HL.out y2 Z (I.out y2 H.out) H.out).mono ?_;rintro e y3 ⟨⟨v,rfl⟩,h1,F⟩
 have HF:Hid (sP oZ t D y3 p g c (jg Q)/\Kp [t,t+1] oZ oZ y y3):=by
  rw[HP.out];exact⟨h1,((Uy.out.mono (by simp)).trans (V.out.mono (by simp))).trans (F.mono (by simp))⟩
 clear h1 F
 go_wp2_with fail
 go_ret;exact⟨⟨_,rfl⟩,HF.out⟩
