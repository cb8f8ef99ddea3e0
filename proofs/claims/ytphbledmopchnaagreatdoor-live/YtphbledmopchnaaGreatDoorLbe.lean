import Derived.Test.YtphbledmopchnaaGreatDoorLbb
import Derived.BigRegionIn
import Derived.Shelf.AbstractIn
import Derived.Sort.MapsRangeIn
import Derived.Stop.RegionWithIn
open List renaming getD_eq_getElem?_getD->eB,getElem?_eq_getElem->eT,getElem?_set->mE,mem_of_getElem?->mI,mem_cons->mK
open Nat renaming le_refl->j3
open Go.RowKit renaming intOf->lg
set_option maxHeartbeats 4000000
set_option maxRecDepth 100000
namespace Go.Proofs.YtphbledmopchnaaGreatDoor.Sd
open Go.RowKit Go.Lib Mm Tryz
theorem qbf(p:Nat)(w:World):(method 518 250 (aI p 0) "Push").run prog w=.ok (377,(aI p 0)) w:=bH
theorem qdr(p:Nat)(w:World):(method 518 250 (aI p 0) "Pop").run prog w=.ok (376,(aI p 0)) w:=bH
theorem qbg(p:Nat)(w:World):(method 518 250 (aI p 0) "Len").run prog w=(loadVar 300 (aB p 0) >>=fun r=>(pure (208,r):Sem (FuncId×Value))).run prog w:=bH
theorem Yv(p:Nat)(w:World):(method 518 250 (aI p 0) "Less").run prog w=(loadVar 300 (aB p 0) >>=fun r=>(pure (375,r):Sem (FuncId×Value))).run prog w:=bH
theorem Yw(p:Nat)(w:World):(method 518 250 (aI p 0) "Swap").run prog w=(loadVar 300 (aB p 0) >>=fun r=>(pure (378,r):Sem (FuncId×Value))).run prog w:=bH
theorem Cu(p:Nat)(w:World)(a:Option Addr)(n c:Nat)(hp:w.cell? (aB p 0)=some (.slice a n c)):(loadVar 300 (aB p 0)).run prog w=.ok (.slice a n c) w:=by simp[go_sem,loadVar,hp,sizeOf300]
theorem qa5(p:Nat)(w:World)(a:Option Addr)(n c:Nat)(hp:w.cell? (aB p 0)=some (.slice a n c)):(method 518 250 (aI p 0) "Len").run prog w=.ok (208,.slice a n c) w:=by rw[qbg,Sem.run_bind,Cu p w a n c hp];rfl
theorem Mv(p:Nat)(w:World)(a:Option Addr)(n c:Nat)(hp:w.cell? (aB p 0)=some (.slice a n c)):(method 518 250 (aI p 0) "Less").run prog w=.ok (375,.slice a n c) w:=by rw[Yv,Sem.run_bind,Cu p w a n c hp];rfl
theorem Mw(p:Nat)(w:World)(a:Option Addr)(n c:Nat)(hp:w.cell? (aB p 0)=some (.slice a n c)):(method 518 250 (aI p 0) "Swap").run prog w=.ok (378,.slice a n c) w:=by rw[Yw,Sem.run_bind,Cu p w a n c hp];rfl
structure xP (oZ:Own) (t:Nat) (D:Nat->Src) (w:World) (p g c:Nat) (Q:List Nat):Prop where
 op:oZ p=t+1
 pb:aS w p 300 [dP g Q.length c]
 sr:Lc oZ t D w g c Q
theorem ku(Q:List Nat)(i j:Nat):(sw Q i j).length=Q.length:=by simp[sw]
theorem Cv (n:Nat):∀(i:Nat) (l:List Nat),i<n->Ar n l i=Ar (i+1) l i:=n.strongRecOn fun n C=>match n,C with
 |0,_=>fun i l h=>aj
 |n+1,C=>fun i l h=>by
  simp only[Ar];by_cases a:i=0;·simp[a]
  ·split;·rfl
   ·rw[C n aj ((i-1) / 2) _ aj];rw[C i aj ((i-1) / 2) _ aj]
theorem Yx(oZ:Own)(t:Nat)(D:Nat->Src)(U:∀u:Nat,(D u).u=(u:Int))(w:World)(p g c:Nat)(Q:List Nat)(j:Nat)(hj:j<Q.length)(hl:Q.length<=1000)(h:xP oZ t D w p g c Q):Calls prog 307 #[.iface 250 (aI p 0),iZ j] w fun e w'=>e=.returned (.tuple #[])/\xP oZ t D w' p g c (Ar (j+1) Q j)/\Kp [t] oZ oZ w w':=by
 obtain⟨X,J⟩:=bZ (Ar (j+1) Q j);rw[<-J];have P:=aG J;have M:=aG h;obtain⟨N,V⟩:=bZ Q.length;have O:=aG V;have K:j<N:=aj;have h0:N<=1000:=aj;clear J h V hj hl;have m:=aG U;clear U;go_enter func307,ntmps307;go_wp2_with fail;go_loopw [1] (fun s1 wr=>∃(k:Nat) (R:List Nat),k<N/\s1=(iZ k)/\Hid (R.length=N/\xP oZ t D wr p g c R/\Kp [t] oZ oZ w wr/\Ar (k+1) R k=X)) (fun s1 _=>(lg s1).toNat);case atStart=>exact⟨j,Q,K,rfl,O.out.symm,M.out,Kp.refl _ _ _,P.out.symm⟩
 case round=>
  clear P M O;obtain⟨k,R,W,rfl,s⟩:=hrel;by_cases z:k=0
  ·subst z;have F:Hid (xP oZ t D wr p g c X/\Kp [t] oZ oZ w wr):=by
    obtain⟨h1,A,h3,S⟩:=s.out;have:Ar (0+1) R 0=R:=by simp[Ar]
    rw[this]at S;rw[<-S];exact⟨A,h3⟩
   clear s;go_wp2_with fail;go_end0;exact⟨rfl,F.out⟩
  ·obtain⟨i,hi⟩:=bZ ((k-1) / 2);have f:i<k:=aj;have q1:((k:Int)-1).tdiv 2=(i:Int):=by
    have e:(k:Int)-1=((k-1:Nat):Int):=aj;rw[e,hi];rfl
   obtain⟨d,a,B,C⟩:=s.out;have hp:wr.cell? (aB p 0)=some (dP g R.length c):=by rw[a.pb.cell];rfl
   rw[d]at hp;have h6:=Mv p wr _ _ _ hp;have L:∀q,(method 518 250 (aI p 0) "Swap").run prog (wr.drewN q)=.ok (378,(dP g N c)) (wr.drewN q):=fun q=>Mw p (wr.drewN q) _ _ _ hp;have I:R[k]?=some (R.getD k 0):=by rw[eB,eT aj];rfl
   have H:R[i]?=some (R.getD i 0):=by rw[eB,eT aj];rfl
   have E:∀k x,(qC D R)[k]?=some x->wr.cell? (aB g k)=some x:=fun k x hx=>by obtain⟨g',e,_,_,r,_⟩:=a.sr.2.cell k x hx;cases e;exact r
   have o:=aG (Jl g N c k i W aj _ _ wr (E _ _ (oz D R k _ I).1) (E _ _ (oz D R i _ H).1));rw[m.out,m.out]at o;have g1:(k:Int)-1<9223372036854775808:=aj;have g2: -9223372036854775808<=(k:Int)-1:=aj;have h5:i<9223372036854775808:=aj;have n1:¬(i=k):=aj;have n2:¬((i:Int)=(k:Int)):=aj;have n3:((i:Int)==(k:Int))=false:=by simpa using n2
   by_cases b:R.getD k 0<R.getD i 0
   ·have l:Hid (Calls prog 375 #[dP g N c,iZ k,iZ i] wr fun e w'=>e=.returned (.bool true)/\∃q,w'=wr.drewN q):=by
     have e:decide (((R.getD k 0:Nat):Int)<((R.getD i 0:Nat):Int))=true:=decide_eq_true (Int.ofNat_lt.2 b);have:=o.out;rw[e]at this;exact this
    have Y:Hid (∀q,Calls prog 378 #[dP g N c,iZ i,iZ k] (wr.drewN q) fun e w'=>e=.returned (.tuple #[])/\Hid ((sw R i k).length=N/\xP oZ t D w' p g c (sw R i k)/\Kp [t] oZ oZ w w'/\Ar (i+1) (sw R i k) i=X)):=fun q=>by
     have hb:bJ wr (wr.drewN q):=⟨rfl,rfl,rfl,j3 _,fun _ _=>rfl⟩;have hs:=Cg oZ t D (wr.drewN q) g c R i k aj aj ⟨a.sr.1,a.sr.2.kp (T:=[]) (Kp.below hb) aP⟩;rw[d]at hs;refine bN hs ?_;rintro w' ⟨h1,A⟩;refine⟨rfl,by rw[ku,d],⟨a.op,?_,h1⟩,B.trans ((Kp.below hb).trans A),?_⟩;·rw[ku];exact cO (w:=wr.drewN q) a.pb A (by rw[a.op];simp)
     ·rw[<-C];have G:Ar (k+1) R k=Ar k (sw R ((k-1) / 2) k) ((k-1) / 2):=by
       simp only[Ar];rw[aU];intro v;rcases v with v|v;·exact z v
       ·exact v (by rw[<-hi];exact b)
      rw[G,<-hi,Cv k i _ f]
    have n:=aG (dB f W);clear d a B C hp I H E o b s hi f;go_wp2_with fail;refine bN l.out ?_;rintro y ⟨q,rfl⟩;go_wp2_with fail;refine bN (Y.out q) ?_;rintro y Z;go_wp2_with fail;go_roundw;case rel=>exact⟨i,sw R i k,bV n.out,by go_num,Z⟩
    case measure=>have:=n.out;simp[lg];omega
   ·have l:Hid (Calls prog 375 #[dP g N c,iZ k,iZ i] wr fun e w'=>e=.returned (.bool false)/\∃q,w'=wr.drewN q):=by
     have e:decide (((R.getD k 0:Nat):Int)<((R.getD i 0:Nat):Int))=false:=decide_eq_false (fun h=>b (Int.ofNat_lt.1 h));have:=o.out;rw[e]at this;exact this
    have F:Hid (∀q,xP oZ t D (wr.drewN q) p g c X/\Kp [t] oZ oZ w (wr.drewN q)):=fun q=>by
     have hb:bJ wr (wr.drewN q):=⟨rfl,rfl,rfl,j3 _,fun _ _=>rfl⟩;have G:Ar (k+1) R k=R:=by simp only[Ar];rw[bK (.inr (by rw[<-hi];exact b))]
     rw[<-C,G];exact⟨⟨a.op,a.pb,a.sr.1,a.sr.2.kp (T:=[]) (Kp.below hb) aP⟩,B.trans (Kp.below hb)⟩
    clear d a B C hp I H E o b s hi L f;go_wp2_with fail;refine bN l.out ?_;rintro y ⟨q,rfl⟩;go_wp2_with fail;go_end0;exact⟨rfl,F.out q⟩
def UO(e:Ending):Prop:=∃b,e=.returned (.bool b)
def kid(l:List Nat)(i n:Nat):Nat:=if 2*i+2<n/\l.getD (2*i+2) 0<l.getD (2*i+1) 0 then 2*i+2 else 2*i+1
theorem lV(k:Nat)(l:List Nat)(i n:Nat):jK (k+1) l i n=if n<=2*i+1 then l else if l.getD (kid l i n) 0<l.getD i 0 then jK k (sw l i (kid l i n)) (kid l i n) n else l:=rfl
theorem qbh(l:List Nat)(i n:Nat):2*i+1<=kid l i n:=by unfold kid;split<;>omega
theorem wG:∀(k k':Nat) (l:List Nat) (i n:Nat),n<=i+k->n<=i+k'->jK k l i n=jK k' l i n
 |0,0,_,_,_,_,_=>rfl
 |0,k'+1,l,i,n,h,_=>by rw[lV,bK aj];rfl
 |k+1,0,l,i,n,_,h=>by rw[lV,bK aj];rfl
 |k+1,k'+1,l,i,n,h,h'=>by
  rw[lV,lV];have:=qbh l i n;by_cases h1:n<=2*i+1;·rw[bK h1,bK h1]
  ·rw[aU h1,aU h1,wG k k' _ _ _ aj aj]
theorem QA(oZ:Own)(t:Nat)(D:Nat->Src)(hD:∀u:Nat,(D u).u=(u:Int))(w:World)(p g c:Nat)(Q:List Nat)(Y n:Nat)(h6:Y<Q.length)(hn:n<=Q.length)(hl:Q.length<=1000)(h:xP oZ t D w p g c Q)(F:Nat)(hF:n<=Y+F):Calls prog 270 #[.iface 250 (aI p 0),iZ Y,iZ n] w fun e w'=>UO e/\xP oZ t D w' p g c (jK F Q Y n)/\Kp [t] oZ oZ w w':=by
 obtain⟨X,hX⟩:=bZ (jK F Q Y n);rw[<-hX];have HX:=aG hX;have H0:=aG h;obtain⟨N,hN⟩:=bZ Q.length;have HN:=aG hN;have h7:Y<N:=aj;have hj:n<=N:=aj;have h8:N<=1000:=aj;have HF:=aG hF;clear hX h hN h6 hn hl hF;have K:=aG hD;clear hD;go_enter func270,ntmps270;go_wp2_with fail;go_loopw [7] (fun s7 wr=>∃(i:Nat) (R:List Nat),i<N/\s7=(iZ i)/\Hid (R.length=N/\xP oZ t D wr p g c R/\Kp [t] oZ oZ w wr/\jK N R i n=X)) (fun s7 _=>N-(lg s7).toNat);case atStart=>exact⟨Y,Q,h7,rfl,HN.out.symm,H0.out,Kp.refl _ _ _,by rw[HX.out];exact wG _ _ _ _ _ aj HF.out⟩
 case round=>
  clear HX H0 HN HF;obtain⟨i,R,hi,rfl,HR⟩:=hrel;obtain⟨I,C,hK,hU⟩:=HR.out;have O:∀q,bJ wr (wr.drewN q):=fun q=>⟨rfl,rfl,rfl,j3 _,fun _ _=>rfl⟩;have H:∀q,xP oZ t D (wr.drewN q) p g c R/\Kp [t] oZ oZ w (wr.drewN q):=fun q=>⟨⟨C.op,C.pb,C.sr.1,C.sr.2.kp (T:=[]) (Kp.below (O q)) aP⟩,hK.trans (Kp.below (O q))⟩;obtain⟨F',S⟩:∃F',N=F'+1:=⟨N-1,aj⟩;have o:jK (F'+1) R i n=X:=by rw[<-S];exact hU
  rw[lV]at o;have hp:wr.cell? (aB p 0)=some (dP g N c):=by rw[C.pb.cell,<-I];rfl
  obtain⟨l,U⟩:=bZ (2*i+1);obtain⟨s,V⟩:=bZ (2*i+2);have e1:2*(i:Int)+1=(l:Int):=aj;have e2:(l:Int)+1=(s:Int):=aj;have g1:2*(i:Int)<9223372036854775808:=aj;have g2: -9223372036854775808<=2*(i:Int):=aj;have g3:l<9223372036854775808:=aj;have g4:s<9223372036854775808:=aj;have g5:¬((l:Int)<0):=aj;by_cases hA:n<=l
  ·have HF:Hid (xP oZ t D wr p g c X/\Kp [t] oZ oZ w wr):=by
    rw[bK aj]at o;rw[<-o];exact⟨C,hK⟩
   have h4:(n:Int)<=(l:Int):=aj;clear HR I C hK hU O H S o hp U V K;go_wp2_with fail;go_ret;exact⟨⟨_,rfl⟩,HF.out⟩
  ·have h4:¬((n:Int)<=(l:Int)):=aj;rw[aU aj]at o;have hf:=Mv p wr _ _ _ hp;have hm:∀q,(method 518 250 (aI p 0) "Less").run prog (wr.drewN q)=.ok (375,(dP g N c)) (wr.drewN q):=fun q=>Mv p (wr.drewN q) _ _ _ hp;have hg:∀q,(method 518 250 (aI p 0) "Swap").run prog (wr.drewN q)=.ok (378,(dP g N c)) (wr.drewN q):=fun q=>Mw p (wr.drewN q) _ _ _ hp;have hc:∀k x,(qC D R)[k]?=some x->wr.cell? (aB g k)=some x:=fun k x hx=>by
    obtain⟨g',e,_,_,r,_⟩:=C.sr.2.cell k x hx;cases e;exact r
   have eR:∀k,k<N->R[k]?=some (R.getD k 0):=fun k hk=>by rw[eB,eT aj];rfl
   have A:Hid (∀(a b:Nat) (v:Bool) (q:Nat),a<N->b<N->decide (R.getD a 0<R.getD b 0)=v->Calls prog 375 #[dP g N c,iZ a,iZ b] (wr.drewN q) fun e w'=>e=.returned (.bool v)/\∃q,w'=wr.drewN q):=fun a b v q ha hb hv=>by
    have h1:=Jl g N c a b ha hb _ _ (wr.drewN q) (hc _ _ (oz D R a _ (eR a ha)).1) (hc _ _ (oz D R b _ (eR b hb)).1);rw[K.out,K.out]at h1;have h2:decide (((R.getD a 0:Nat):Int)<((R.getD b 0:Nat):Int))=v:=by rw[<-hv];exact decide_eq_decide.2 Int.ofNat_lt
    rw[h2]at h1;refine bN h1 ?_;rintro w' ⟨q',rfl⟩;exact⟨rfl,q+q',by rw[World.drewN_drewN]⟩
   have M:Hid (∀(j q:Nat),kid R i n=j->j<N->i<j->R.getD j 0<R.getD i 0->Calls prog 378 #[dP g N c,iZ i,iZ j] (wr.drewN q) fun e w'=>e=.returned (.tuple #[])/\Hid ((sw R i j).length=N/\xP oZ t D w' p g c (sw R i j)/\Kp [t] oZ oZ w w'/\jK N (sw R i j) j n=X)):=fun j q W he h9 d=>by
    have hs:=Cg oZ t D (wr.drewN q) g c R i j aj aj (H q).1.sr;rw[I]at hs;refine bN hs ?_;rintro w' ⟨h1,h2⟩;refine⟨rfl,by rw[ku,I],⟨C.op,?_,h1⟩,(H q).2.trans h2,?_⟩;·rw[ku];exact cO (w:=wr.drewN q) C.pb h2 (by rw[C.op];simp)
    ·rw[<-o,W,bK d];exact wG _ _ _ _ _ aj aj
   have L:Hid (∀(j q:Nat),kid R i n=j->¬R.getD j 0<R.getD i 0->xP oZ t D (wr.drewN q) p g c X/\Kp [t] oZ oZ w (wr.drewN q)):=fun j q W d=>by have h3:=H q;rw[W,aU d]at o;rw[<-o];exact h3
   have m:Hid (l=2*i+1/\s=2*i+2/\l<N/\i<l/\i<s):=⟨U,V,aj,aj,aj⟩;have ho:i<N:=hi;clear HR I C hK hU O H S o hp U V K hc eR;by_cases hB:s<n
   ·have h5:(s:Int)<(n:Int):=aj;have h0:s<N:=aj;by_cases hC:R.getD s 0<R.getD l 0
    ·have HC:=aG (A.out s l true 0 h0 (bV m.out) (decide_eq_true hC));have Ow:=aG hC;clear hC;have P:kid R i n=s:=by
      have:=m.out;unfold kid;rw[bK ⟨aj,by rw[<-this.1,<-this.2.1];exact Ow.out⟩];omega
     have B:=aG P;clear P;by_cases d:R.getD s 0<R.getD i 0
     ·have f:=aG (fun q=>A.out s i true q (bV m.out) hi (decide_eq_true d));have G:=aG (fun q=>M.out s q B.out (bV m.out) (bV m.out) d);clear d A M L B;have z:=aG (f.out 0);go_wp2_with fail;refine bN HC.out ?_;rintro y ⟨Z,rfl⟩;go_wp2_with fail;refine bN (f.out Z) ?_;rintro y ⟨J,rfl⟩;go_wp2_with fail;refine bN (G.out J) ?_;rintro y HY;go_wp2_with fail;go_roundw;case rel=>exact⟨s,sw R i s,bV m.out,by go_num,HY⟩
      case measure=>have:=m.out;simp[lg];omega
     ·have f:=aG (fun q=>A.out s i false q (bV m.out) hi (decide_eq_false d));have E:=aG (fun q=>L.out s q B.out d);clear d A M L B;have z:=aG (f.out 0);go_wp2_with fail;refine bN HC.out ?_;rintro y ⟨Z,rfl⟩;go_wp2_with fail;refine bN (f.out Z) ?_;rintro y ⟨J,rfl⟩;go_wp2_with fail;go_ret;exact⟨⟨_,rfl⟩,E.out J⟩
    ·have HC:=aG (A.out s l false 0 h0 (bV m.out) (decide_eq_false hC));have Ow:=aG hC;clear hC;have P:kid R i n=l:=by
      have:=m.out;unfold kid;rw[aU (fun hh=>Ow.out (by rw[this.1,this.2.1];exact hh.2))];omega
     have B:=aG P;clear P;by_cases d:R.getD l 0<R.getD i 0
     ·have f:=aG (fun q=>A.out l i true q (bV m.out) hi (decide_eq_true d));have G:=aG (fun q=>M.out l q B.out (bV m.out) (bV m.out) d);clear d A M L B;have z:=aG (f.out 0);go_wp2_with fail;refine bN HC.out ?_;rintro y ⟨Z,rfl⟩;go_wp2_with fail;refine bN (f.out Z) ?_;rintro y ⟨J,rfl⟩;go_wp2_with fail;refine bN (G.out J) ?_;rintro y HY;go_wp2_with fail;go_roundw;case rel=>exact⟨l,sw R i l,bV m.out,by go_num,HY⟩
      case measure=>have:=m.out;simp[lg];omega
     ·have f:=aG (fun q=>A.out l i false q (bV m.out) hi (decide_eq_false d));have E:=aG (fun q=>L.out l q B.out d);clear d A M L B;have z:=aG (f.out 0);go_wp2_with fail;refine bN HC.out ?_;rintro y ⟨Z,rfl⟩;go_wp2_with fail;refine bN (f.out Z) ?_;rintro y ⟨J,rfl⟩;go_wp2_with fail;go_ret;exact⟨⟨_,rfl⟩,E.out J⟩
   ·have h5:¬((s:Int)<(n:Int)):=aj;have P:kid R i n=l:=by
     have:=m.out;unfold kid;rw[aU (fun hh=>aj)];omega
    have B:=aG P;clear P;by_cases d:R.getD l 0<R.getD i 0
    ·have f:=aG (fun q=>A.out l i true q (bV m.out) hi (decide_eq_true d));have G:=aG (fun q=>M.out l q B.out (bV m.out) (bV m.out) d);clear d A M L B;have z:=aG (f.out 0);go_wp2_with fail;refine bN z.out ?_;rintro y ⟨J,rfl⟩;go_wp2_with fail;refine bN (G.out J) ?_;rintro y HY;go_wp2_with fail;go_roundw;case rel=>exact⟨l,sw R i l,bV m.out,by go_num,HY⟩
     case measure=>have:=m.out;simp[lg];omega
    ·have f:=aG (fun q=>A.out l i false q (bV m.out) hi (decide_eq_false d));have E:=aG (fun q=>L.out l q B.out d);clear d A M L B;have z:=aG (f.out 0);go_wp2_with fail;refine bN z.out ?_;rintro y ⟨J,rfl⟩;go_wp2_with fail;go_ret;exact⟨⟨_,rfl⟩,E.out J⟩
def Jz(e:Ending):Prop:=∃v,e=.returned v
theorem zm:∀(k:Nat) (l:List Nat) (i n:Nat),(jK k l i n).length=l.length
 |0,_,_,_=>rfl
 |k+1,l,i,n=>by
  rw[lV];split;·rfl
  ·split;·rw[zm k,ku]
   ·rfl
theorem Ox(D:Nat->Src):∀(Q:List Nat) (n:Nat),(qC D Q).take (n*4)=qC D (Q.take n)
 |[],n=>by simp[qC]
 |u::Q,0=>by simp[qC]
 |u::Q,n+1=>by
  have e:(n+1)*4=(jw (D u)).length+n*4:=by simp;omega
  show(jw (D u)++qC D Q).take ((n+1)*4)=jw (D u)++qC D (Q.take n);rw[e,List.take_length_add_append,Ox D Q n]
theorem Lc.take{oZ:Own}{t:Nat}{D:Nat->Src}{w:World}{g c:Nat}{Q:List Nat}(h:Lc oZ t D w g c Q)(n:Nat)(b:n<=Q.length):Lc oZ t D w g c (Q.take n):=by
 obtain⟨a,h⟩:=h;refine⟨a,?_⟩;rcases h with⟨h1,_⟩|⟨g',cap,cs,h1,h2,h3,h4,h5,h6,h7,h8,h9⟩;·cases h1
 ·simp only[Value.slice.injEq,Option.some.injEq,Addr.mk.injEq,true_and,and_true]at h1;obtain⟨rfl,rfl⟩:=h1;have hl:(Q.take n).length=n:=by simp;omega
  refine .inr ⟨g,c,cs,rfl,a,h3,h4,aj,h6,by rw[Mg],?_,h9⟩;rw[hl,<-Ox,<-h8,List.take_take];congr 1
  omega
theorem nE.kpt{R:Nat}{T:List Nat}{oZ:Own}{y y':World}(h:nE R y y')(a:oZ R∈T):Kp T oZ oZ y y':=⟨h.os,h.tape,h.output,by rw[h.size];exact j3 _,fun b _ c=>h.block b (fun e=>c (by rw[e];exact a)),fun _ _=>rfl⟩
theorem Lc.kp{oZ aY:Own}{t:Nat}{D:Nat->Src}{w w':World}{g c:Nat}{Q:List Nat}{T:List Nat}(h:Lc oZ t D w g c Q)(K:Kp T oZ aY w w')(a:t∉T):Lc aY t D w' g c Q:=by
 refine⟨?_,h.2.kp K a⟩;rcases h.2 with⟨h1,_⟩|⟨g',cap,cs,h1,_,h3,_⟩;·cases h1
 ·cases h1;rw[K.ext _ h3.lt,h.1]
theorem Yy(oZ:Own)(t:Nat)(D:Nat->Src)(w:World)(p g c:Nat)(Q:List Nat)(n:Nat)(l:Q.length=n+1)(hl:n<=1000)(h:xP oZ t D w p g c Q):Calls prog 376 #[aI p 0] w fun e w'=>Jz e/\xP oZ t D w' p g c (Q.take n)/\Kp [t+1] oZ oZ w w':=by
 have hp:w.cell? (aB p 0)=some (dP g (n+1) c):=by rw[h.pb.cell,<-l];rfl
 have z:=h.pb.frozen 0;have i:Q[n]?=some (Q.getD n 0):=by rw[eB,eT aj];rfl
 obtain⟨q0,m,q,u⟩:=oz D Q n _ i;have b:∀k x,(qC D Q)[k]?=some x->w.cell? (aB g k)=some x:=fun k x B=>by obtain⟨g',e,_,_,r,_⟩:=h.sr.2.cell k x B;cases e;exact r
 have E:=b _ _ q0;have F:=b _ _ m;have G:=b _ _ q;have H:=b _ _ u;generalize D (Q.getD n 0)=s at *
 have A:=h.pb.lt;have j:n+1<=c:=by obtain⟨a,c',e,h1,_⟩:=h.sr.2.shape;cases e;omega
 have v:Hid (∀o,xP oZ t D ((w.setCell (aB p 0) (dP g n c)).alloc o) p g c (Q.take n)/\Kp [t+1] oZ oZ w ((w.setCell (aB p 0) (dP g n c)).alloc o)):=fun o=>by
  have y:Kp [t+1] oZ oZ w (w.setCell (aB p 0) (dP g n c)):=((nE.refl p w).set 0 _).kpt (by rw[h.op];simp);have d:=y.iW ((Below.refl _ _).alloc (j3 _) o);have f:(Q.take n).length=n:=by simp;omega
  refine⟨⟨h.op,?_,(h.sr.take n aj).kp d aP⟩,d⟩;rw[f];exact(h.pb.setCell 0 _).alloc o
 clear h l i q0 m q u b;have C:(n:Int)+1-1=(n:Int):=aj;have n1:¬(p=w.heap.size):=aj;go_enter func376,ntmps376;go_wp2_with fail;go_ret;exact⟨⟨_,rfl⟩,v.out _⟩
theorem JB(oZ:Own)(t:Nat)(D:Nat->Src)(C:∀u:Nat,(D u).u=(u:Int))(w:World)(p g c:Nat)(Q:List Nat)(n:Nat)(d:Q.length=n+1)(hl:n<1000)(h:xP oZ t D w p g c Q):Calls prog 209 #[.iface 250 (aI p 0)] w fun e w'=>Jz e/\xP oZ t D w' p g c (j6 Q)/\Kp [t,t+1] oZ oZ w w':=by
 have hp:w.cell? (aB p 0)=some (dP g (n+1) c):=by rw[h.pb.cell,<-d];rfl
 have F:=qa5 p w _ _ _ hp;have H:=Mw p w _ _ _ hp;have q:=aG (A8 (some (aB g 0)) (n+1) c w);have B:Hid (Calls prog 378 #[(dP g (n+1) c),iZ 0,iZ n] w fun e w'=>e=.returned (.tuple #[])/\xP oZ t D w' p g c (sw Q 0 n)/\Kp [t] oZ oZ w w'):=by have hs:=Cg oZ t D w g c Q 0 n aj aj h.sr;rw[d]at hs;refine bN hs ?_;rintro w' ⟨h1,a⟩;refine⟨rfl,⟨h.op,?_,h1⟩,a⟩;rw[ku];exact cO h.pb a (by rw[h.op];simp)
 have k:Hid (∀y,xP oZ t D y p g c (sw Q 0 n)->Calls prog 270 #[.iface 250 (aI p 0),iZ 0,iZ n] y fun e w'=>UO e/\xP oZ t D w' p g c (jK Q.length (sw Q 0 n) 0 n)/\Kp [t] oZ oZ y w'):=fun y j=>QA oZ t D C y p g c (sw Q 0 n) 0 n (by rw[ku];omega) (by rw[ku];omega) (by rw[ku];omega) j Q.length aj;have z:Hid (∀(y:World) (Z:List Nat),Z.length=n+1->xP oZ t D y p g c Z->Calls prog 376 #[aI p 0] y fun e w'=>Jz e/\xP oZ t D w' p g c (Z.take n)/\Kp [t+1] oZ oZ y w'):=fun y Z E j=>Yy oZ t D y p g c Z n E aj j;have A:Hid (j6 Q=(jK Q.length (sw Q 0 n) 0 n).take n):=by unfold Hid j6;rw[d];rfl
 have i:Hid (∀y,xP oZ t D y p g c (jK Q.length (sw Q 0 n) 0 n)->(jK Q.length (sw Q 0 n) 0 n).length=n+1):=fun y j=>by rw[zm,ku,d]
 have G:=qdr p;generalize jK Q.length (sw Q 0 n) 0 n=Z at *
 have K:(n:Int)+1-1=(n:Int):=aj;have J:=aG d;clear h d hp;go_enter func209,ntmps209;go_wp2_with fail;refine bN q.out ?_;rintro y rfl;go_wp2_with fail;refine bN B.out ?_;rintro I ⟨h1,a⟩;have l:=aG h1;have m:=aG a;clear h1 a;go_wp2_with fail;refine(k.out I l.out).mono ?_;rintro e r ⟨⟨b,rfl⟩,h1,a⟩;have f:=aG h1;have o:=aG a;clear h1 a;go_wp2_with fail;refine(z.out r Z (i.out r f.out) f.out).mono ?_;rintro e s ⟨⟨v,rfl⟩,h1,a⟩;have x:Hid (xP oZ t D s p g c (j6 Q)/\Kp [t,t+1] oZ oZ y s):=by rw[A.out];exact⟨h1,((m.out.mono aP).trans (o.out.mono aP)).trans (a.mono aP)⟩
 clear h1 a;go_wp2_with fail;go_ret;exact⟨⟨_,rfl⟩,x.out⟩
end Go.Proofs.YtphbledmopchnaaGreatDoor.Sd
namespace Go.Proofs.YtphbledmopchnaaGreatDoor.Sd
open St Tryz
def Im(m:Nat)(l:List Nat)(x:Nat):Prop:=∃p,p<m/\l[p]?=some x
theorem qae{m:Nat}{l:List Nat}{x i j:Nat}(hi:i<m)(d:j<m)(f:m<=l.length)(h:Im m l x):Im m (sw l i j) x:=by
 obtain⟨p,hp,e⟩:=h;have gd:∀q,q<m->l[q]?=some (l.getD q 0):=fun q hq=>by rw[eB,eT aj];rfl
 have hs:∀q,(sw l i j)[q]?=if j=q then some (l.getD i 0)else if i=q then(if i<l.length then some (l.getD j 0)else none)else l[q]?:=fun q=>by
  unfold sw;rw[mE,mE,List.length_set];split;·rw[bK aj]
  ·split<;>rfl
 by_cases a:p=i;·refine⟨j,d,?_⟩;rw[hs,bK rfl,<-gd i hi,<-a,e]
 ·by_cases b:p=j
  ·refine⟨i,hi,?_⟩;rw[hs];by_cases c:j=i;·exact absurd (b.trans c) a
   ·rw[aU c,bK rfl,bK aj,<-gd j d,<-b,e]
  ·exact⟨p,hp,by rw[hs,aU (fun h=>b h.symm),aU (fun h=>a h.symm)];exact e⟩
theorem O5{m x:Nat}:∀(k:Nat) (l:List Nat) (i:Nat),m<=l.length->Im m l x->Im m (jK k l i m) x
 |0,_,_,_,h=>h
 |k+1,l,i,hm,h=>by
  unfold jK;split;·exact h
  ·rename_i c;have key:∀j,j<m->Im m (if l.getD j 0<l.getD i 0 then jK k (sw l i j) j m else l) x:=fun j b=>by
    split;·exact O5 k _ _ (by rw[ku];exact hm) (qae aj b hm h)
    ·exact h
   refine key _ ?_;split;·rename_i a;exact a.1
   ·omega
theorem qaf{m x:Nat}:∀(k:Nat) (l:List Nat) (j:Nat),j<m->m<=l.length->Im m l x->Im m (Ar k l j) x
 |0,_,_,_,_,h=>h
 |k+1,l,j,hj,hm,h=>by
  unfold Ar;split;·exact h
  ·exact qaf k _ _ aj (by rw[ku];exact hm) (qae aj hj hm h)
theorem Xf{l:List Nat}{x:Nat}:x∈l↔Im l.length l x:=by
 constructor;·intro h;obtain⟨p,hp,e⟩:=List.getElem_of_mem h;exact⟨p,hp,by rw[eT hp,e]⟩
 ·rintro⟨p,_,e⟩;exact mI e
theorem mem_push{l:List Nat}{x u:Nat}(h:x∈l\/x=u):x∈dZ l u:=by
 have h1:x∈l++[u]:=by rcases h with h|h<;>simp[h]
 have a:=qaf (l.length+1) (l++[u]) l.length aP (j3 _) (Xf.1 h1);obtain⟨p,_,e⟩:=a;exact mI e
theorem rQ{x:Nat}:∀(m:List Nat) {l:List Nat},x∈l\/x∈m->x∈m.foldl dZ l
 |[],_,h=>by rcases h with h|h;exact h;cases h
 |u::t,l,h=>by
  refine rQ t ?_;rcases h with h|h;·exact .inl (mem_push (.inl h))
  ·rcases mK.1 h with h|h;·exact .inl (mem_push (.inr h))
   ·exact .inr h
theorem O6{u x:Nat}{t:List Nat}(h:x∈u::t):x=u\/x∈j6 (u::t):=by
 by_cases e:x=u;·exact .inl e
 right;obtain⟨l,hl⟩:=bZ (u::t);rw[<-hl]at h ⊢;have j:0<l.length:=by rw[hl];simp
 have f:l[0]?=some u:=by rw[hl];rfl
 obtain⟨p,hp,b⟩:=Xf.1 h;have d:p≠0:=fun a=>by rw[a,f]at b;exact e (Option.some.inj b).symm
 have h1:Im (l.length-1) (sw l 0 (l.length-1)) x:=by
  have hs:∀q,q≠l.length-1->(sw l 0 (l.length-1))[q]?=if q=0 then some (l.getD (l.length-1) 0)else l[q]?:=fun q hq=>by
   unfold sw;rw[mE,aU aj,mE];by_cases c:q=0;·rw[bK c.symm,bK aj,bK c]
   ·rw[aU (fun h=>c h.symm),aU c]
  by_cases a:p=l.length-1;·refine⟨0,aj,?_⟩;rw[hs 0 aj,bK rfl,<-a,eB,b];rfl
  ·refine⟨p,aj,?_⟩;rw[hs p a,aU d];exact b
 have g:=O5 l.length (sw l 0 (l.length-1)) 0 (by rw[ku];omega) h1;obtain⟨q,hq,a⟩:=g;unfold j6;refine mI (i:=q) ?_;rw[List.getElem?_take,bK hq];exact a
theorem zH:∀(rs:bW) (lo e:Nat),Rg.fI rs->(∀r∈rs,lo<=r.1)->(∀p,lo<=p->p<(gL lo rs e).1->Rg.Mem rs p)/\(∀p,(gL lo rs e).1<=p->p<(gL lo rs e).2->¬Rg.Mem rs p)/\((gL lo rs e).1<(gL lo rs e).2->lo<=(gL lo rs e).1)/\(¬(gL lo rs e).1<(gL lo rs e).2->e<=(gL lo rs e).1)
 |[],lo,e,_,_=>by
  refine⟨fun p h1 f=>?_,(fun p _ _ ⟨r,j,_⟩=>by cases j),fun _=>j3 _,fun h=>?_⟩;·simp only[gL]at f;omega
  ·simp only[gL]at h ⊢;omega
 |r::t,lo,e,hs,hl=>by
  obtain⟨s1,m,n⟩:=hs;have j:=hl r aP;unfold gL;split
  ·rename_i c;refine⟨fun p h1 f=>?_,fun p h1 f i=>?_,fun _=>j3 _,fun h=>?_⟩;·simp only at f;omega
   ·simp only at h1 f;obtain⟨x,g,k,l⟩:=i;rcases mK.1 g with rfl|g;·omega
    ·have:=m x g;omega
   ·simp only at h ⊢;omega
  ·rename_i c;split
   ·rename_i c2;refine⟨fun p h1 f=>⟨r,aP,aj,by simp only at f;omega⟩,fun p h1 f=>?_,fun h=>?_,fun _=>j3 _⟩;·simp only at h1 f;omega
    ·simp only at h;omega
   ·rename_i c2;obtain⟨a,b,c3,d⟩:=zH t (r.2+1) e n (fun x g=>bV (m x g));refine⟨fun p h1 f=>?_,fun p h1 f i=>?_,fun h=>bV (c3 h),d⟩
    ·by_cases hp:p<=r.2;·exact⟨r,aP,aj,hp⟩
     ·obtain⟨x,g,q⟩:=a p aj f;exact⟨x,by simp[g],q⟩
    ·have:=c3 aj;obtain⟨x,g,k,l⟩:=i;rcases mK.1 g with rfl|g;·omega
     ·exact b p h1 f ⟨x,g,k,l⟩
def AO(rs:bW):Nat->Nat
 |0=>0
 |n+1=>AO rs n+(if Rg.has n rs then 0 else 1)
theorem O7(rs:bW):∀n,AO rs n<=n
 |0=>j3 _
 |n+1=>by have:=O7 rs n;unfold AO;split<;>omega
theorem DI{rs rs':bW}(h:Rg.fI rs)(e:Rg.fI rs')(hs:∀p,Rg.Mem rs p->Rg.Mem rs' p)(a b:Nat)(d:∀p,a<=p->p<b->¬Rg.Mem rs p/\Rg.Mem rs' p):∀n,AO rs' n+(min b n-min a n)<=AO rs n
 |0=>by simp[AO]
 |n+1=>by
  have g:=DI h e hs a b d n;unfold AO;have h1:=Rg.AV rs n h;have f:=Rg.AV rs' n e;by_cases c1:Rg.has n rs=true;·have c2:Rg.has n rs'=true:=f.2 (hs n (h1.1 c1));rw[bK c1,bK c2];have:¬(a<=n/\n<b):=fun c=>(d n c.1 c.2).1 (h1.1 c1);omega
  ·rw[aU c1];by_cases c2:Rg.has n rs'=true;·rw[bK c2];omega
   ·rw[aU c2];have:¬(a<=n/\n<b):=fun c=>c2 (f.2 (d n c.1 c.2).2);omega
def su(g:Nat->Nat):Nat->Nat
 |0=>0
 |n+1=>su g n+g n
theorem Am{g g':Nat->Nat}:∀n,(∀k,k<n->g' k<=g k)->su g' n<=su g n
 |0,_=>j3 _
 |n+1,h=>by have h1:=Am n fun k b=>h k aj;have a:=h n aj;unfold su;omega
theorem DJ{g g':Nat->Nat}{j c:Nat}:∀n,j<n->(∀k,k<n->k≠j->g' k<=g k)->g' j+c<=g j->su g' n+c<=su g n
 |0,h,_,_=>absurd h (Nat.not_lt_zero _)
 |n+1,hj,h,hc=>by
  unfold su;by_cases e:j=n;·have:=Am n fun k b=>h k aj aj;rw[e]at hc;omega
  ·have:=DJ n aj (fun k b=>h k aj) hc;have:=h n aj (fun a=>e a.symm);omega
theorem KO(c:Nat):∀n,su (fun _=>c) n=c*n
 |0=>rfl
 |n+1=>by unfold su;rw[KO c n,Nat.mul_succ]
