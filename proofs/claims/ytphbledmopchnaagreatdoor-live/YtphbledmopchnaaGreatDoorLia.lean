import Derived.Test.YtphbledmopchnaaGreatDoorLhe
import Derived.Test.YtphbledmopchnaaGreatDoorLhd
import Derived.Test.YtphbledmopchnaaGreatDoorLgb
open Go.RowKit.Below renaming refl->lg
open Go.Builtin renaming append_->nU,zeroCells->qA
open Go.Lib renaming wpList_append_run->mI
open List renaming getElem?_cons_succ->eB,getElem?_cons_zero->eT,getElem?_append_left->mE,length_append->mK,getD_eq_getElem?_getD->mR,getElem?_eq_getElem->mY,length_singleton->nV,getElem?_drop->og,getElem?_take->o8,mem_singleton->qx,length_map->rX
open Nat renaming le_refl->j3,le_add_right->nA,le_trans->qy,zero_add->tL
open Go.RowKit renaming intOf->nI
set_option maxHeartbeats 4000000
set_option maxRecDepth 100000
namespace Go.Proofs.YtphbledmopchnaaGreatDoor.Sd
open Go.RowKit Go.Lib Mm Tryz
section
theorem lu(c x:Int)(h:nO c)(b:0<x/\x<=1000)(w:World):Calls prog 32 #[iZ c,iZ x] w fun e w'=>e=.returned (iZ (dL c x.toNat:Nat))/\w'=w:=by have:=Bh c x.toNat h.1 h.2 aj aj w;rwa[Int.toNat_of_nonneg aj]at this
theorem qco(N xb xc eb ec el Iw e C i k:Nat)(hi:i<2)(hk:k<8)(Sd A B:Int)(Q:nO Sd)(hA:nO A)(I:i=dL Sd 2)(pk:k=dL A 8)(S d:ByteArray)(_hS:S.size<=1000000)(P:d.size<=2048)(bn:Bool)(code:Nat)(w w1:World)(R s:World->Prop)(g:w1=w.alloc (.cells (sN 1 Sd A B S).toArray 37))(c0:w1.cell? (aB N 0)=some (dP xb 2 xc))(c1:w1.cell? (aB N 1)=some (dP eb 2 ec))(X:w1.cell? (aB xb i)=some (aI C 0))(L:w1.cell? (aB eb i)=some (dP el 8 Iw))(M:w1.cell? (aB el k)=some (aI e 0))(z:Calls prog 34 #[aI C 0,iZ k,.string S] w1 fun x b=>x=.returned (iZ code)/\R b)(G:∀b,R b->b.cell? (aB e 0)=some (.string d)/\b.frozen? (aB e 0)=false/\b.cell? (aB e 1)=some (.bool bn)/\b.cell? (aB e 2)=some (.bool false)/\b.cell? (aB w.heap.size 4)=some (.string S)/\e≠w.heap.size)(p:code=if bn then 4 else if 2048<d.size+S.size then 3 else 0)(m:code≠0->∀b q,R b->s (b.drewN q))(o:code=0->∀b q W,R b->s (((b.drewN q).setCell (aB e 0) (.string (d++S))).drewN W)):Calls prog 22 #[aI N 0,.agg #[iZ 1,iZ Sd,iZ A,iZ B,.string S]] w fun e w'=>e=.returned (.bool true)/\s w':=by
 have p1:dL Sd 2=i:=I.symm;have p2:dL A 8=k:=pk.symm;have B1:aS w1 w.heap.size 37 (sN 1 Sd A B S):=by rw[g];exact aS.new w 37 _
 have b0:=B1.cell 0;have E:=B1.cell 1;have b2:=B1.cell 2;have F:=B1.cell 4;simp only[sN,eT,eB]at b0 E b2 F;have D:=aG z;have K:=aG G;have l:=aG m;have t:=aG o;have f:=aG p;have Y:w.alloc (.cells #[iZ 1,iZ Sd,iZ A,iZ B,.string S] 37)=w1:=g.symm;have T:(i:Int)<2:=aj;have U:(k:Int)<8:=aj;clear z G m o p g B1 I pk;go_enter func22,ntmps22;go_wp2_with (first|(go_at_call 32;refine(lu _ _ (by assumption) iO _).mono ?_;rintro O w4 ⟨rfl,y⟩;subst y)|(go_at_call 34;refine D.out.mono ?_;rintro O b ⟨rfl,H⟩;have r:=aG H;clear H));obtain⟨f0,J,f1,f2,f4,V⟩:=K.out b r.out;clear c0 c1 X L M b0 E b2 F D;cases bn with
 |true=>
  obtain rfl:code=4:=f.out;have h:=aG (fun q=>l.out iO b q r.out);by_cases u:(2048:Int)-(d.size:Int)<(S.size:Int);·go_quiet (fail);go_wp2;go_ret;exact⟨rfl,h.out nq⟩
  ·go_quiet (fail);go_wp2;go_ret;exact⟨rfl,h.out nq⟩
 |false=>
  by_cases u:2048<d.size+S.size
  ·obtain rfl:code=3:=by have:=f.out;rw[aU iO,bK u]at this;exact this
   have h:=aG (fun q=>l.out iO b q r.out);have v:(2048:Int)-(d.size:Int)<(S.size:Int):=aj;go_quiet (fail);go_wp2;go_ret;exact⟨rfl,h.out nq⟩
  ·obtain rfl:code=0:=by have:=f.out;rw[aU iO,aU u]at this;exact this
   have v:¬((2048:Int)-(d.size:Int)<(S.size:Int)):=aj;go_quiet (fail);obtain⟨j,c⟩:=bZ (b.drewN nq);have Z:j.cell? (aB e 0)=some (.string d):=by rw[c];exact f0
   have gz:j.frozen? (aB e 0)=false:=by rw[c];exact J
   have g1:j.cell? (aB e 1)=some (.bool false):=by rw[c];exact f1
   have g2:j.cell? (aB e 2)=some (.bool false):=by rw[c];exact f2
   have g4:j.cell? (aB w.heap.size 4)=some (.string S):=by rw[c];exact f4
   have h:Hid (s ((j.setCell (aB e 0) (.string (d++S))).drew)):=by rw[c];exact t.out rfl b nq 1 r.out
   rw[<-c];clear c f0 J f1 f2 f4;go_wp2;go_region
   all_goals(go_wp2;go_ret;exact⟨rfl,h.out⟩)
theorem WH(N xb xc eb ec el Iw e C i k:Nat)(hi:i<2)(M:k<8)(Sd A B:Int)(D:nO Sd)(L:nO A)(y:i=dL Sd 2)(pk:k=dL A 8)(S:ByteArray)(bn:Bool)(code:Nat)(w w1:World)(R q:World->Prop)(d:w1=w.alloc (.cells (sN 2 Sd A B S).toArray 37))(c0:w1.cell? (aB N 0)=some (dP xb 2 xc))(c1:w1.cell? (aB N 1)=some (dP eb 2 ec))(O:w1.cell? (aB xb i)=some (aI C 0))(J:w1.cell? (aB eb i)=some (dP el 8 Iw))(K:w1.cell? (aB el k)=some (aI e 0))(s:Calls prog 35 #[aI C 0,iZ k] w1 fun x b=>x=.returned (iZ code)/\R b)(v:∀b,R b->b.frozen? (aB e 1)=false/\b.cell? (aB e 1)=some (.bool bn)/\b.cell? (aB e 2)=some (.bool false))(l:code=if bn then 4 else 0)(h:code≠0->∀b,R b->q b)(j:code=0->∀b,R b->q (b.setCell (aB e 1) (.bool true))):Calls prog 22 #[aI N 0,.agg #[iZ 2,iZ Sd,iZ A,iZ B,.string S]] w fun e w'=>e=.returned (.bool true)/\q w':=by
 have p1:dL Sd 2=i:=y.symm;have p2:dL A 8=k:=pk.symm;have B1:aS w1 w.heap.size 37 (sN 2 Sd A B S):=by rw[d];exact aS.new w 37 _
 have b0:=B1.cell 0;have z:=B1.cell 1;have b2:=B1.cell 2;simp only[sN,eT,eB]at b0 z b2;have u:=aG s;have t:=aG v;have o:=aG h;have p:=aG j;have g:=aG l;have I:w.alloc (.cells #[iZ 2,iZ Sd,iZ A,iZ B,.string S] 37)=w1:=d.symm;have E:(i:Int)<2:=aj;have F:(k:Int)<8:=aj;clear s v h j l d B1 y pk;cases bn with
 |true=>obtain rfl:code=4:=g.out;go_enter func22,ntmps22;go_wp2_with (first|(go_at_call 32;refine(lu _ _ (by assumption) iO _).mono ?_;rintro r G ⟨rfl,f⟩;subst f)|(go_at_call 35;refine u.out.mono ?_;rintro r b ⟨rfl,c⟩;obtain⟨H,f1,f2⟩:=t.out b c;have m:=aG (o.out iO b c);clear c));go_ret;exact⟨rfl,m.out⟩
 |false=>obtain rfl:code=0:=g.out;go_enter func22,ntmps22;go_wp2_with (first|(go_at_call 32;refine(lu _ _ (by assumption) iO _).mono ?_;rintro r G ⟨rfl,f⟩;subst f)|(go_at_call 35;refine u.out.mono ?_;rintro r b ⟨rfl,c⟩;obtain⟨H,f1,f2⟩:=t.out b c;have m:=aG (p.out aP b c);clear c));go_ret;exact⟨rfl,m.out⟩
theorem FH(n:Net)(i k:Nat)(o:Ot)(hi:i<2)(f:k<(n.x i).outs.length)(b k':Nat)(d:b<2):ends (n.dY i ((n.x i).dD k o)) b k'=if b=i/\k'=k then J6 o ((n.x (1-i)).bF k)else ends n b k':=by
 unfold ends;by_cases e:b=i
 ·subst e;rw[dA,dX _ _ _ _ aj,fB];by_cases c:k'=k;·rw[bK ⟨c,f⟩,bK ⟨rfl,c⟩,c]
  ·rw[aU (fun h=>c h.1),aU (fun h=>c h.2)]
 ·rw[aU (fun h=>e h.1),dX _ _ _ _ e,show 1-b=i by omega,dA];rfl
def Net.qO(n:Net)(i k:Nat)(S:ByteArray):Net:=n.dY i ((n.x i).dD k (((n.x i).out k).send S.data.toList).1)
def Net.Nz(n:Net)(i k:Nat):Net:=n.dY i ((n.x i).dD k ((n.x i).out k).finish.1)
section
variable {oZ:Own} {w:World} {a:Ad} {n:Net} {vb:Value}
theorem OY(h:fu oZ w a n vb (ends n))(hp:fH a.bG n)(Sd A B:Int)(y:nO Sd)(M:nO A)(S:ByteArray)(N:S.size<=1000000):Calls prog 22 #[aI a.N 0,.agg #[iZ 1,iZ Sd,iZ A,iZ B,.string S]] w fun e w'=>e=.returned (.bool true)/\nR oZ w a (n.qO (dL Sd 2) (dL A 8) S) w':=by
 obtain⟨i,E⟩:=bZ (dL Sd 2);obtain⟨k,pk⟩:=bZ (dL A 8);have hi:i<2:=by rw[E];exact fC Sd 2 aj
 have d:k<8:=by rw[pk];exact fC A 8 aj
 rw[<-E,<-pk];obtain⟨w1,l⟩:=bZ (w.alloc (.cells (sN 1 Sd A B S).toArray 37));have t:bJ w w1:=by rw[l];exact(lg _ w).alloc (j3 _) _
 have B1:aS w1 w.heap.size 37 (sN 1 Sd A B S):=by rw[l];exact aS.new w 37 _
 have c:=h.loc.below t;have ob:loc oZ w.heap.size w.heap.size=0:=iX _ _ _ (j3 _);have F:Kp TN (loc oZ w.heap.size) (loc oZ w.heap.size) w w1:=Kp.below t;obtain⟨c0,c1,_⟩:=c.cells;obtain⟨J,K,_⟩:=c.Ke i k hi d;have Q:a.e i k<w.heap.size:=(h.en i k hi d).1.lt;have D:k<(n.x i).outs.length:=by rw[(hp.loc i hi).lo];exact d
 have u:=((hp.loc i hi).wr k).bX;obtain⟨o,f⟩:=bZ ((n.x i).out k);have O:o.ay.length<=2048:=by rw[f];exact((hp.bd i hi).o k).b
 have G:ends n i k=J6 o ((n.x (1-i)).bF k):=by rw[f];rfl
 rw[<-f]at u;have z:o.closed=o.bn:=by unfold Ot.closed;rw[u,Bool.or_false]
 have x:(⟨o.ay.toArray⟩:ByteArray).size=o.ay.length:=(jU _).2;have I:S.data.toList.length=S.size:=aP;refine qco a.N a.xb a.xc a.eb a.ec (a.el i) (a.Iw i) (a.e i k) (a.C i) i k hi d Sd A B y M E pk S ⟨o.ay.toArray⟩ N aj o.bn (o.send S.data.toList).2 w w1
  (fun g=>SY (loc oZ w.heap.size) w1 a vb (ends n) (T0 (60*(i+1))) (n.qO i k S) g) (nR oZ w a (n.qO i k S)) l c0 c1 (c.xs i hi).1 J K (by rw[f];exact Zj c hp i k hi d S aj) ?_ ?_ ?_ ?_
 ·rintro g ⟨p,m,r⟩;have B:=(m.en i k hi d).1;rw[G]at B;exact⟨B.cell 0,B.frozen 0,B.cell 1,B.cell 2,(cO B1 r (by rw[ob];exact fun e=>bV (fG.1 e))).cell 4,aj⟩
 ·unfold Ot.send;rw[z,x];cases o.bn<;>simp[I]
  split<;>rfl
 ·rintro b g q ⟨p,m,r⟩;have e:(o.send S.data.toList).1=o:=by
   unfold Ot.send at b ⊢;split;·rfl
   ·split;·rfl
    ·rename_i h1 c;rw[aU h1,aU c]at b;exact absurd rfl b
  have s:Sm (n.x i) ((n.x i).dD k (((n.x i).out k).send S.data.toList).1):=by rw[<-f,e];exact nM _ _ _ (by rw[f]) (by rw[f])
  have v:=(m.below (f_ g q)).H_ (E':=ends (n.qO i k S)) (fun j k' _ _=>uW s j k');exact nR.lH ⟨p,vb,v,F.trans ((r.mono (vN i hi)).trans (Kp.below (f_ g q)))⟩
 ·rintro b g q H ⟨p,m,r⟩;have e:(o.send S.data.toList).1={o with ay:=o.ay++S.data.toList}:=by
   unfold Ot.send at b ⊢;split;·rename_i h1;rw[bK h1]at b;cases b
   ·split;·rename_i h1 c;rw[aU h1,bK c]at b;cases b
    ·rfl
  have T:=(m.en i k hi d).2;have v:=((m.below (f_ g q)).Zh i k hi d 0 (.string (⟨o.ay.toArray⟩++S))).below (f_ _ H);have L:=v.H_ (E':=ends (n.qO i k S)) (fun R k' C P=>by
   unfold Net.qO;rw[FH n i k _ hi D R k' C,G,<-f,e];split
   ·unfold J6;have:(⟨o.ay.toArray⟩++S:ByteArray)=⟨(o.ay++S.data.toList).toArray⟩:=by ext1;rw[ByteArray.data_append];simp
    rw[this];rfl
   ·rfl)
  exact nR.lH ⟨p,vb,L,F.trans ((r.mono (vN i hi)).trans ((Kp.below (f_ g q)).trans ((Kp.set p _ (aB (a.e i k) 0) _ TN (by show p (a.e i k)∈TN;rw[T];exact lC.2 aj)).trans (Kp.below (f_ _ H)))))⟩
end

end
section
section
variable {oZ:Own} {w:World} {a:Ad} {n:Net} {vb:Value}
theorem FJ(h:fu oZ w a n vb (ends n))(hp:fH a.bG n)(Sd A B:Int)(u:nO Sd)(I:nO A)(S:ByteArray):Calls prog 22 #[aI a.N 0,.agg #[iZ 2,iZ Sd,iZ A,iZ B,.string S]] w fun e w'=>e=.returned (.bool true)/\nR oZ w a (n.Nz (dL Sd 2) (dL A 8)) w':=by
 obtain⟨i,z⟩:=bZ (dL Sd 2);obtain⟨k,pk⟩:=bZ (dL A 8);have hi:i<2:=by rw[z];exact fC Sd 2 aj
 have c:k<8:=by rw[pk];exact fC A 8 aj
 rw[<-z,<-pk];obtain⟨w1,p⟩:=bZ (w.alloc (.cells (sN 2 Sd A B S).toArray 37));have l:bJ w w1:=by rw[p];exact(lg _ w).alloc (j3 _) _
 have r:=h.loc.below l;have C:Kp TN (loc oZ w.heap.size) (loc oZ w.heap.size) w w1:=Kp.below l;obtain⟨c0,c1,_⟩:=r.cells;obtain⟨E,F,_⟩:=r.Ke i k hi c;have y:k<(n.x i).outs.length:=by rw[(hp.loc i hi).lo];exact c
 have m:=((hp.loc i hi).wr k).bX;obtain⟨o,d⟩:=bZ ((n.x i).out k);have D:ends n i k=J6 o ((n.x (1-i)).bF k):=by rw[d];rfl
 rw[<-d]at m;have v:o.closed=o.bn:=by unfold Ot.closed;rw[m,Bool.or_false]
 refine WH a.N a.xb a.xc a.eb a.ec (a.el i) (a.Iw i) (a.e i k) (a.C i) i k hi c Sd A B u I z pk S o.bn o.finish.2 w w1
  (fun t=>SY (loc oZ w.heap.size) w1 a vb (ends n) (T0 (60*(i+1))) (n.Nz i k) t) (nR oZ w a (n.Nz i k)) p c0 c1 (r.xs i hi).1 E F (by rw[d];exact RQ r hp i k hi c) ?_ ?_ ?_ ?_
 ·rintro t ⟨g,f,q⟩;have B:=(f.en i k hi c).1;rw[D]at B;exact⟨B.frozen 1,B.cell 1,B.cell 2⟩
 ·unfold Ot.finish;rw[v];cases o.bn<;>rfl
 ·rintro b t ⟨g,f,q⟩;have e:o.finish.1=o:=by
   unfold Ot.finish at b ⊢;split;·rfl
   ·rename_i h1;rw[aU h1]at b;exact absurd rfl b
  have s:Sm (n.x i) ((n.x i).dD k ((n.x i).out k).finish.1):=by rw[<-d,e];exact nM _ _ _ (by rw[d]) (by rw[d])
  have G:=f.H_ (E':=ends (n.Nz i k)) (fun j k' _ _=>uW s j k');exact nR.lH ⟨g,vb,G,C.trans (q.mono (vN i hi))⟩
 ·rintro b t ⟨g,f,q⟩;have e:o.finish.1={o with bn:=true}:=by
   unfold Ot.finish at b ⊢;split;·rename_i h1;rw[bK h1]at b;cases b
   ·rfl
  have L:=(f.en i k hi c).2;have H:=(f.Zh i k hi c 1 (.bool true)).H_ (E':=ends (n.Nz i k)) (fun K k' x J=>by unfold Net.Nz;rw[FH n i k _ hi y K k' x,D,<-d,e];rfl);exact nR.lH ⟨g,vb,H,C.trans ((q.mono (vN i hi)).trans (Kp.set g _ (aB (a.e i k) 1) _ TN (by show g (a.e i k)∈TN;rw[L];exact lC.2 aj)))⟩
theorem WI(h:fu oZ w a n vb (ends n))(hp:fH a.bG n)(hb:qo n 0)(g:a.bG<=400)(hl:n.dN.length<=1000000000)(Sd A B:Int)(q:nO Sd)(z:nO A)(S:ByteArray):Calls prog 22 #[aI a.N 0,.agg #[iZ 6,iZ Sd,iZ A,iZ B,.string S]] w fun e w'=>e=.returned (.bool true)/\∃M pk,(n.x (dL Sd 2)).jS M pk/\VY (n.x (dL Sd 2)) (n.x (1-dL Sd 2)) M pk/\nR oZ w a (n.yG (dL Sd 2) M pk) w':=by
 obtain⟨i,f⟩:=bZ (dL Sd 2);have hi:i<2:=by rw[f];exact fC Sd 2 aj
 rw[<-f];have p1:dL Sd 2=i:=f.symm;have C:dL A 8<8:=fC A 8 aj;obtain⟨w1,b⟩:=bZ (w.alloc (.cells (sN 6 Sd A B S).toArray 37));have c:bJ w w1:=by rw[b];exact(lg _ w).alloc (j3 _) _
 have B1:aS w1 w.heap.size 37 (sN 6 Sd A B S):=by rw[b];exact aS.new w 37 _
 have d:=h.below c;obtain⟨c0,_⟩:=d.cells;have F:=(d.xs i hi).1;have b0:=B1.cell 0;have m:=B1.cell 1;have b2:=B1.cell 2;simp only[sN,eT,eB]at b0 m b2;have k:Hid (Calls prog 23 #[aI a.N 0,iZ i] w1 fun e w'=>e=.returned (.bool true)/\Hid (∃M pk,(n.x i).jS M pk/\VY (n.x i) (n.x (1-i)) M pk/\nR oZ w a (n.yG i M pk) w')):=by refine bN (Kh d hp hb i hi g aj) ?_;rintro w' ⟨M,pk,t,u,o,l,v,x⟩;exact⟨rfl,M,pk,t,u,o,l,v,(Kp.below c).trans x⟩
 have y:w.alloc (.cells #[iZ 6,iZ Sd,iZ A,iZ B,.string S] 37)=w1:=b.symm;have r:(i:Int)<2:=aj;clear b B1 f d h hp hb c;go_enter func22,ntmps22;go_wp2_with (first|(go_at_call 32;refine(lu _ _ (by assumption) iO _).mono ?_;rintro p E ⟨rfl,j⟩;subst j)|(go_at_call 23;refine k.out.mono ?_;rintro p D ⟨rfl,s⟩));go_ret;exact⟨rfl,s.out⟩
theorem Zw(h:fu oZ w a n vb (ends n))(hp:fH a.bG n)(Sd A B:Int)(r:nO Sd)(z:nO A)(hB:nO B)(S:ByteArray):Calls prog 22 #[aI a.N 0,.agg #[iZ 10,iZ Sd,iZ A,iZ B,.string S]] w fun e w'=>e=.returned (.bool true)/\nR oZ w a (n.dY (dL Sd 2) ((n.x (dL Sd 2)).eG (dL B 8) (((n.x (dL Sd 2)).bF (dL B 8)).rd (dL A 200:Nat)).2)) w':=by
 obtain⟨i,f⟩:=bZ (dL Sd 2);obtain⟨k,pk⟩:=bZ (dL B 8);obtain⟨m,pm⟩:=bZ (dL A 200);have hi:i<2:=by rw[f];exact fC Sd 2 aj
 have t:k<8:=by rw[pk];exact fC B 8 aj
 have C:m<200:=by rw[pm];exact fC A 200 aj
 rw[<-f,<-pk,<-pm];have p1:dL Sd 2=i:=f.symm;have p2:dL B 8=k:=pk.symm;have D:dL A 200=m:=pm.symm;obtain⟨w1,b⟩:=bZ (w.alloc (.cells (sN 10 Sd A B S).toArray 37));have c:bJ w w1:=by rw[b];exact(lg _ w).alloc (j3 _) _
 have B1:aS w1 w.heap.size 37 (sN 10 Sd A B S):=by rw[b];exact aS.new w 37 _
 have d:=h.below c;obtain⟨c0,_⟩:=d.cells;have G:=(d.xs i hi).1;have b0:=B1.cell 0;have p:=B1.cell 1;have b2:=B1.cell 2;have b3:=B1.cell 3;simp only[sN,eT,eB]at b0 p b2 b3;have j:Hid (Calls prog 31 #[aI a.N 0,iZ i,iZ k,iZ m] w1 fun e w'=>e=.returned (.bool true)/\Hid (nR oZ w a (n.dY i ((n.x i).eG k (((n.x i).bF k).rd m).2)) w')):=by refine bN (OU d hp i k m hi t aj) ?_;rintro w' ⟨o,l,v,x⟩;exact⟨rfl,o,l,v,(Kp.below c).trans x⟩
 have y:w.alloc (.cells #[iZ 10,iZ Sd,iZ A,iZ B,.string S] 37)=w1:=b.symm;have s:(i:Int)<2:=aj;clear b B1 f pk pm d h hp c;go_enter func22,ntmps22;go_wp2_with (first|(go_at_call 32;refine(lu _ _ (by assumption) iO _).mono ?_;rintro q F ⟨rfl,g⟩;subst g)|(go_at_call 31;refine j.out.mono ?_;rintro q E ⟨rfl,u⟩));go_ret;exact⟨rfl,u.out⟩
end

end
section
section
variable {fJ:Own} {w0 w w':World} {a:Ad} {L:List (Nat×TypeId×bO)} {n:Net}
theorem Kq(A:av):Sm A A.iD:=⟨fun _=>⟨rfl,rfl⟩,fun _=>⟨rfl,rfl⟩⟩
theorem OZ(h:nN fJ w0 a L n w)(i:Nat)(hi:i<2)(ht:(n.x i).bE+1<18446744073709551616):Calls prog 38 #[(aI (a.C i) 0)] w fun e w'=>e=.returned (.tuple #[])/\nN fJ w0 a L (n.dY i (n.x i).iD) w':=by obtain⟨o,vb,h1,d,f,_⟩:=h.ex;refine bN (Zi h1 i hi ht) ?_;rintro w' ⟨o',b,c⟩;exact⟨rfl,nN.go d f (b.H_ fun j k _ _=>uW (Kq _) j k) (c.mono (vN i hi))⟩
theorem nN.now(h:nN fJ w0 a L n w)(t:Nat):nN fJ w0 a L {n with now:=t} (w.setCell (aB a.N 4) (uZ t)):=by obtain⟨o,vb,h1,b,c,_⟩:=h.ex;exact nN.go b c (n':={n with now:=t}) (h1.qcc t) (Kp.set o w _ _ TN (by rw[h1.oP.2];exact lC.2 aj))
theorem nN.qh0(h:nN fJ w0 a L n w):w.cell? (aB a.N 4)=some (uZ n.now)/\w.frozen? (aB a.N 4)=false:=by obtain⟨o,vb,h1,b,c,_⟩:=h.ex;obtain⟨_,_,_,c4,_⟩:=h1.cells;exact⟨c4,h1.oP.1.frozen 4⟩
theorem nR.then{oZ o:Own}{w w1 b:World}{n:Net}(K:Kp TN oZ o w w1)(h:nR o w1 a n b):nR oZ w a n b:=by obtain⟨o',vb,h1,c⟩:=h;exact⟨o',vb,h1,K.trans c⟩
theorem Kr(h:nN fJ w0 a L n w)(hp:fH a.bG n)(hb:qo n 0)(b:a.bG<=400)(hl:n.dN.length<=1000000000)(K Sd A B:Int)(S:ByteArray)(d:nO A)(hB:nO B):Calls prog 39 #[aI a.N 0,.agg #[iZ K,iZ Sd,iZ A,iZ B,.string S]] w fun e w'=>e=.returned (.bool true)/\Hid (∃n',Lg a.bG n n'/\(n.dN=[]->n'=n)/\nR fJ w0 a n' w'):=by obtain⟨o,vb,h1,c,j,_⟩:=h.ex;refine bN (WG h1 hp hb b hl K Sd A B S d hB) ?_;rintro w' ⟨n',f,g,i⟩;exact⟨rfl,n',f,g,i.then c⟩
end

def Net.iF(n:Net):Net:={(n.dY 0 (n.x 0).iD).dY 1 (n.x 1).iD with now:=n.now+1}
theorem Ku{bG:Nat}{n:Net}(h:fH bG n):fH bG n.iF:=by have b:fH bG {n with now:=n.now+1}:=h.sub n.dN (fun _ h=>h) (n.now+1);have h1:=jF b 0 aj (n.x 0).iD (yQ (b.loc 0 aj) (b.two 0 aj) (b.jT 0 aj)) (Cy (b.bd 0 aj)) rfl rfl;exact jF h1 1 aj (n.x 1).iD (yQ (h1.loc 1 aj) (h1.two 1 aj) (h1.jT 1 aj)) (Cy (h1.bd 1 aj)) rfl rfl
theorem Dz{n:Net}{B:Nat}(h:qo n (B+1)):qo n.iF B:=⟨fun i hi=>by
 have h1:=h.1 i hi;have e:(n.iF.x i).next=(n.x i).next/\(n.iF.x i).bE=(n.x i).bE+1:=by rcases(show i=0\/i=1 by omega)with rfl|rfl<;>exact⟨rfl,rfl⟩
 rw[e.1,e.2];omega,by have:=h.2;show n.now+1+B<_;omega⟩
section
variable {oZ:Own} {w:World} {a:Ad} {n:Net} {vb:Value}
theorem O0(h:fu oZ w a n vb (ends n))(hp:fH a.bG n)(hb:qo n 1)(s:a.bG<=400)(hl:n.dN.length<=1000000000)(Sd A B:Int)(D:nO Sd)(C:nO A)(hB:nO B)(S:ByteArray):Calls prog 22 #[aI a.N 0,.agg #[iZ 5,iZ Sd,iZ A,iZ B,.string S]] w fun e w'=>e=.returned (.bool true)/\∃n',Lg a.bG n.iF n'/\(n.dN=[]->n'=n.iF)/\nR oZ w a n' w':=by
 obtain⟨i,p1⟩:∃i,dL Sd 2=i:=⟨_,rfl⟩;have hi:i<2:=by rw[<-p1];exact fC Sd 2 aj
 have T:dL A 8<8:=fC A 8 aj;have c:=(zF h).alloc 37 (sN 5 Sd A B S);obtain⟨w1,d⟩:=bZ (w.alloc (.cells (sN 5 Sd A B S).toArray 37));rw[<-d]at c;have b0:=c.cell (.head _) 0;have x:=c.cell (.head _) 1;have b2:=c.cell (.head _) 2;obtain⟨c0,W⟩:=c.xc i hi;simp only[sN,eT,eB]at b0 x b2;obtain⟨c4,Z⟩:=c.qh0;have q:=hb.1 0 aj;have r:=hb.1 1 aj;have E:=hb.2;have j:=c.now (n.now+1);obtain⟨O,f⟩:=bZ (w1.setCell (aB a.N 4) (uZ ((n.now+1:Nat):Int)));rw[<-f]at j;obtain⟨Q,X⟩:=j.xc 0 aj;have g:=aG (OZ j 0 aj (by show(n.x 0).bE+1<_;omega));have o:Hid (∀k,nN (loc oZ w.heap.size) w a [(w.heap.size,37,sN 5 Sd A B S)] (Net.dY {n with now:=n.now+1} 0 (n.x 0).iD) k->Calls prog 38 #[(aI (a.C 1) 0)] k fun e w'=>e=.returned (.tuple #[])/\nN (loc oZ w.heap.size) w a [(w.heap.size,37,sN 5 Sd A B S)] n.iF w'):=
  fun k y=>OZ y 1 aj (by show(n.x 1).bE+1<_;omega)
 have u:Hid (∀l,nN (loc oZ w.heap.size) w a [(w.heap.size,37,sN 5 Sd A B S)] n.iF l->Calls prog 39 #[aI a.N 0,.agg #[iZ 5,iZ Sd,iZ A,iZ B,.string S]] l fun e w'=>e=.returned (.bool true)/\Hid (∃n',Lg a.bG n.iF n'/\(n.dN=[]->n'=n.iF)/\nR oZ w a n' w')):=fun l z=>by refine bN (Kr z (Ku hp) (Dz hb) s hl 5 Sd A B S C hB) ?_;rintro w' ⟨n',G,H,I⟩;exact⟨rfl,n',G,H,I.lH⟩
 have P:w.alloc (.cells #[iZ 5,iZ Sd,iZ A,iZ B,.string S] 37)=w1:=d.symm;have J:w1.setCell (aB a.N 4) (uZ ((n.now:Int)+1))=O:=f.symm;have F:(i:Int)<2:=aj;clear d f h hp hb c j q r;go_enter func22,ntmps22;go_wp2_with (first|(go_at_call 32;refine(lu _ _ (by assumption) iO _).mono ?_;rintro p l ⟨rfl,t⟩;subst t)|(go_at_call 38;refine g.out.mono ?_;rintro p k ⟨rfl,b⟩;clear g;have v:=aG b;obtain⟨R,Y⟩:=b.xc 1 aj;clear b)|(go_at_call 38;refine(o.out _ v.out).mono ?_;rintro p U ⟨rfl,b⟩;have m:=aG b;have s0:=b.cell (.head _) 0;have s1:=b.cell (.head _) 1;have K:=b.cell (.head _) 2;have M:=b.cell (.head _) 3;have N:=b.cell (.head _) 4;simp only[sN,eT,eB]at s0 s1 K M N;clear b)|(go_at_call 39;refine(u.out _ m.out).mono ?_;rintro p V ⟨rfl,b⟩));go_ret;exact⟨rfl,b.out⟩
theorem WJ(h:fu oZ w a n vb (ends n))(hp:fH a.bG n)(hb:qo n 0)(d:a.bG<=400)(hl:n.dN.length<=1000000000)(K Sd A B:Int)(k1:¬K=1)(k2:¬K=2)(x:¬K=3)(y:¬K=4)(z:¬K=5)(C:¬K=6)(r:¬K=10)(o:nO Sd)(m:nO A)(hB:nO B)(S:ByteArray):Calls prog 22 #[aI a.N 0,.agg #[iZ K,iZ Sd,iZ A,iZ B,.string S]] w fun e w'=>e=.returned (.bool true)/\∃n',Lg a.bG n n'/\nR oZ w a n' w':=by
 obtain⟨i,p1⟩:∃i,dL Sd 2=i:=⟨_,rfl⟩;have hi:i<2:=by rw[<-p1];exact fC Sd 2 aj
 have v:dL A 8<8:=fC A 8 aj;have b:=(zF h).alloc 37 (sN K Sd A B S);obtain⟨w1,c⟩:=bZ (w.alloc (.cells (sN K Sd A B S).toArray 37));rw[<-c]at b;have b0:=b.cell (.head _) 0;have j:=b.cell (.head _) 1;have b2:=b.cell (.head _) 2;have b3:=b.cell (.head _) 3;have k:=b.cell (.head _) 4;obtain⟨c0,G⟩:=b.xc i hi;simp only[sN,eT,eB]at b0 j b2 b3 k;have g:Hid (Calls prog 39 #[aI a.N 0,.agg #[iZ K,iZ Sd,iZ A,iZ B,.string S]] w1 fun e w'=>e=.returned (.bool true)/\Hid (∃n',Lg a.bG n n'/\nR oZ w a n' w')):=by refine bN (Kr b hp hb d hl K Sd A B S m hB) ?_;rintro w' ⟨n',s,D,t⟩;exact⟨rfl,n',s,t.lH⟩
 have u:w.alloc (.cells #[iZ K,iZ Sd,iZ A,iZ B,.string S] 37)=w1:=c.symm;have p:(i:Int)<2:=aj;clear c h hp hb b;go_enter func22,ntmps22;go_wp2_with (first|(go_at_call 32;refine(lu _ _ (by assumption) iO _).mono ?_;rintro l E ⟨rfl,f⟩;subst f)|(go_at_call 39;refine g.out.mono ?_;rintro l F ⟨rfl,q⟩));go_ret;exact⟨rfl,q.out⟩
structure StO (bG B:Nat) (n n':Net):Prop where
 p:fH bG n'
 nb:qo n' B
 bl:n'.dN.length<=n.dN.length+24
 nx:∀i,i<2->(n'.x i).next<=(n.x i).next+24
 li:∀w t,NL w t n->NL w t n'
theorem Lg.sto{bG B:Nat}{n n0 n':Net}(h:Lg bG n0 n')(hb:qo n0 B)(hl:n0.dN=n.dN)(c:∀i,i<2->(n0.x i).next=(n.x i).next)(b:∀w t,NL w t n->NL w t n0):StO bG B n n':=⟨h.p,h.nb hb,(by have:=h.bl;rw[hl]at this;omega),(fun i hi=>by rw[(h.nx i hi).1,c i hi];omega),fun w t k=>h.li w t (b w t k)⟩
theorem O1{w t:Nat}{n:Net}(h:NL w t n):NL w t n.iF:=by have h1:=(h.iD 0 aj).iD 1 aj;have e:(n.dY 0 (n.x 0).iD).x 1=n.x 1:=dX _ _ _ _ aj;rw[e]at h1;exact h1.sub rfl fun _ h=>h
theorem lG(n:Net)(i:Nat)(hi:i<2):n.iF.x i=(n.x i).iD:=by rcases(show i=0\/i=1 by omega)with rfl|rfl<;>rfl
theorem Ib(n:Net)(i:Nat){M:av}(h:M.next=(n.x i).next):∀j,j<2->((n.dY i M).x j).next<=(n.x j).next+24:=fun j _=>by
 by_cases e:j=i;·rw[e,dA,h];omega
 ·rw[dX _ _ _ _ e];omega
theorem Zx(h:fu oZ w a n vb (ends n))(hp:fH a.bG n)(o:Nat)(hb:qo n (o+1))(c:a.bG<=400)(hl:n.dN.length<=1000000000)(K Sd A B:Int)(u:K≠3)(v:K≠4)(b:nO Sd)(d:nO A)(hB:nO B)(S:ByteArray)(s:S.size<=1000000):Calls prog 22 #[aI a.N 0,.agg #[iZ K,iZ Sd,iZ A,iZ B,.string S]] w fun e w'=>e=.returned (.bool true)/\∃n',StO a.bG o n n'/\nR oZ w a n' w':=by
 have hi:dL Sd 2<2:=fC Sd 2 aj;by_cases k1:K=1;·subst k1;refine bN (OY h hp Sd A B b d S s) ?_;rintro w' q;exact⟨rfl,_,⟨jF hp _ hi _ (IU (hp.loc _ hi) (hp.two _ hi) (hp.jT _ hi) _ _) (Oy (hp.bd _ hi) _ _) rfl rfl,hb.less.dY _ rfl rfl,nA _ _,Ib n _ rfl,fun w t k=>k.dD _ hi _ _ (zD _ _).1 (zD _ _).2.1 (zD _ _).2.2⟩,q⟩
 by_cases k2:K=2;·subst k2;refine bN (FJ h hp Sd A B b d S) ?_;rintro w' q;exact⟨rfl,_,⟨jF hp _ hi _ (BH (hp.loc _ hi) (hp.two _ hi) (hp.jT _ hi) _) (EY (hp.bd _ hi) _) rfl rfl,hb.less.dY _ rfl rfl,nA _ _,Ib n _ rfl,fun w t k=>k.dD _ hi _ _ (uz _).1 (uz _).2.1 (uz _).2.2⟩,q⟩
 by_cases p:K=5;·subst p;refine bN (O0 h hp ⟨fun i hi=>bV (hb.1 i hi),bV hb.2⟩ c hl Sd A B b d hB S) ?_;rintro w' ⟨n',f,g,m⟩;exact⟨rfl,n',f.sto (Dz hb) rfl (fun i hi=>by rw[lG n i hi];rfl) (fun _ _ k=>O1 k),m⟩
 by_cases r:K=6
 ·subst r;refine bN (WI h hp hb.to c hl Sd A B b d S) ?_;rintro w' ⟨M,pk,f,g,m⟩;refine⟨rfl,_,⟨Ia hp _ hi g,Wn hb _ g (Du f),?_,fun j x=>?_,fun w t k=>k.yG hp _ hi (bV ((hb.1 _ hi).1)) f⟩,m⟩;rotate_left
  ·by_cases e:j=dL Sd 2
   ·rw[e];show((n.dY (dL Sd 2) M).x (dL Sd 2)).next<=_
    rw[dA];exact g.top
   ·show((n.dY (dL Sd 2) M).x j).next<=_
    rw[dX _ _ _ _ e];omega
  show(n.dN++(uq pk).map _).length<=_;rw[mK,rX];unfold uq;rw[rX];have:=g.next;have:=g.top;omega
 by_cases l:K=10;·subst l;refine bN (Zw h hp Sd A B b d hB S) ?_;rintro w' q;exact⟨rfl,_,⟨jF hp _ hi _ (BJ (hp.loc _ hi) (hp.two _ hi) (hp.jT _ hi) _ _) (GJ (hp.bd _ hi) _ _) rfl rfl,hb.less.dY _ rfl rfl,nA _ _,Ib n _ rfl,fun w t k=>k.aR _ hi _ _⟩,q⟩
 refine bN (WJ h hp hb.to c hl K Sd A B k1 k2 u v p r l b d hB S) ?_;rintro w' ⟨n',f,m⟩;exact⟨rfl,n',f.sto hb.less rfl (fun _ _=>rfl) (fun _ _ k=>k),m⟩
end

end
section
def FlR:Nat->Net->Net->Prop
 |0,n,n'=>n'=n
 |i+1,n,n'=>∃n1,FlR i n n1/\∃M pk,(n1.x i).jS M pk/\n'=n1.yG i M pk
def CmR(l:List (Nat×Nat×List Fr)):Nat->Net->Net->Prop
 |0,n,n'=>n'=n
 |j+1,n,n'=>∃n1,CmR l j n n1/\(∀f∈(l.getD j (0,0,[])).2.2,f.aC≠3)/\∃M,(n1.x (l.getD j (0,0,[])).1).jc (l.getD j (0,0,[])).2.1 (l.getD j (0,0,[])).2.2 M 0/\n'=n1.dY (l.getD j (0,0,[])).1 M
def rdN(n:Net)(i k:Nat):Net:=n.dY i ((n.x i).eG k (((n.x i).bF k).rd (4096:Nat)).2)
def O3:Nat->Net->Net->Prop
 |0,n,n'=>n'=n
 |c+1,n,n'=>∃n1,O3 c n n1/\RdK ((n1.x (1-c / 8)).out (c % 8)) ((n1.x (c / 8)).bF (c % 8)) 4096/\n'=rdN n1 (c / 8) (c % 8)
def RoR(n n':Net):Prop:=∃n2,FlR 2 n.iF n2/\∃n3,CmR n2.dN n2.dN.length {n2 with dN:=[]} n3/\O3 16 n3 n'
def zG:Nat->Net->Net->Prop
 |0,n,n'=>n'=n
 |t+1,n,n'=>∃n1,zG t n n1/\RoR n1 n'
structure FK (fJ:Own) (w0:World) (a:Ad) (l:List (Nat×Nat×List Fr)) (vl:Value) (B:Nat) (n:Net) (w:World):Prop where
 ex:∃o vb,fu o w a n vb (ends n)/\Kp TN fJ o w0 w/\GT o 204 62 2 w vl l.length (jy l)
 p:fH a.bG {n with dN:=l}
 nb:qo n B
 b0:n.dN=[]
section
variable {fJ:Own} {w0 w w':World} {a:Ad} {l:List (Nat×Nat×List Fr)} {vl:Value} {n:Net} {B:Nat}
theorem FK.below(h:FK fJ w0 a l vl B n w)(hb:bJ w w'):FK fJ w0 a l vl B n w':=by obtain⟨o,vb,h1,b,c⟩:=h.ex;exact⟨⟨o,vb,h1.below hb,b.trans (Kp.below hb),c.kp (Kp.below (T:=[]) hb) aP⟩,h.p,h.nb,h.b0⟩
theorem FK.xc(h:FK fJ w0 a l vl B n w)(i:Nat)(hi:i<2):w.cell? (aB a.N 0)=some (dP a.xb 2 a.xc)/\w.cell? (aB a.xb i)=some (aI (a.C i) 0):=by obtain⟨o,vb,h1,b,c⟩:=h.ex;exact⟨h1.cells.1,(h1.xs i hi).1⟩
theorem qcp{oZ:Own}(h:GT oZ 204 62 2 w vl l.length (jy l))(k:Nat)(f:k<l.length):∃g c,vl=(dP g l.length c)/\w.cell? (aB g (k*2))=some (iZ ((l.getD k (0,0,[])).1:Int))/\w.cell? (aB g (k*2+1))=some (sV (bT (l.getD k (0,0,[])).2.1 (l.getD k (0,0,[])).2.2)):=by
 rcases h with⟨_,e,_⟩|⟨g,cap,cs,ev,ho,hB,hc1,hc2,hc3,hc4,JY,_⟩;·omega
 have hd:(jy l).drop (k*2)=jy (l.drop k):=(uV l k).symm;have d:l.drop k=l.getD k (0,0,[])::l.drop (k+1):=by rw[List.drop_eq_getElem_cons f,mR,mY f];rfl
 have b:∀j v,j<l.length*2->(jy l)[j]?=some v->w.cell? (aB g j)=some v:=fun j v m i=>by rw[hB.cell];rw[<-JY,o8,bK m]at i;exact i
 refine⟨g,cap,ev,b _ _ aj ?_,b _ _ aj ?_⟩
 ·have:((jy l).drop (k*2))[0]?=(jy l)[k*2]?:=by rw[og];rfl
  rw[<-this,hd,d];rfl
 ·have:((jy l).drop (k*2))[1]?=(jy l)[k*2+1]?:=by rw[og]
  rw[<-this,hd,d];rfl
theorem FK.at(h:FK fJ w0 a l vl B n w)(k:Nat)(d:k<l.length):∃g c,vl=(dP g l.length c)/\w.cell? (aB g (k*2))=some (iZ ((l.getD k (0,0,[])).1:Int))/\w.cell? (aB g (k*2+1))=some (sV (bT (l.getD k (0,0,[])).2.1 (l.getD k (0,0,[])).2.2)):=by obtain⟨o,vb,h1,e,b⟩:=h.ex;exact qcp b k d
theorem FK.mem(h:FK fJ w0 a l vl B n w)(k:Nat)(b:k<l.length):(l.getD k (0,0,[])).1<2/\Hw a.bG (n.x (1-(l.getD k (0,0,[])).1)) (n.x (l.getD k (0,0,[])).1) (l.getD k (0,0,[])).2:=
 h.p.dN (l.getD k (0,0,[])) (by rw[mR,mY b];exact List.getElem_mem _)
theorem Zy(h:FK fJ w0 a l vl B n w)(m:a.bG<=400)(k:Nat)(x:k<l.length):Calls prog 29 #[.pointer (some ⟨a.C (l.getD k (0,0,[])).1,0,none⟩),sV (bT (l.getD k (0,0,[])).2.1 (l.getD k (0,0,[])).2.2)] w fun e w'=>e=.returned (.tuple #[iZ 0,(iZ (-1))])/\∃M,(n.x (l.getD k (0,0,[])).1).jc (l.getD k (0,0,[])).2.1 (l.getD k (0,0,[])).2.2 M 0/\(∀f∈(l.getD k (0,0,[])).2.2,f.aC≠3)/\FK fJ w0 a l vl B (n.dY (l.getD k (0,0,[])).1 M) w':=by
 obtain⟨o,vb,h1,r,t⟩:=h.ex;obtain⟨hi,d⟩:=h.mem k x;generalize l.getD k (0,0,[])=y at *
 have c:fH a.bG n:=by
  have:=h.p.sub [] (fun y d=>by cases d) n.now;have e:n={n with dN:=[]}:=by have:=h.b0;cases n;simp_all
  rw[e];exact this
 have g:∀f∈y.2.2,f.aC≠3:=fun f v=>by rcases(d.fr f v).kd with e|e|e|e<;>omega
 refine bN (OP h1 c h.nb.to y.1 hi y.2 d m) ?_;rintro w' ⟨M1,i,o',q,p⟩;have s:=yw g i;have u:=(h.nb.1 (1-y.1) aj).1;obtain⟨_,st,b,nx,mt⟩:=xV (c.loc y.1 hi) (c.loc (1-y.1) aj) (c.two y.1 hi) (c.jT y.1 hi) (c.bd y.1 hi) (c.bd (1-y.1) aj) y.2.1 y.2.2 d.lt aj d.fr i;exact⟨rfl,M1,i,g,⟨o',vb,q.H_ fun j k _ _=>uW s j k,r.trans (p.mono (vN y.1 hi)),t.kp p (fun e=>bV (fG.1 e))⟩,jF h.p y.1 hi M1 st b mt nx,h.nb.dY y.1 nx (Ki i),h.b0⟩
theorem Zz(h:FK fJ w0 a l vl B n w)(i:Nat)(hi:i<2):Calls prog 30 #[aI a.N 0,iZ i] w fun e w'=>e=.returned (.bool true)/\FK fJ w0 a l vl B n w':=by obtain⟨o,vb,h1,d,f⟩:=h.ex;refine bN (OQ h1 i hi) ?_;rintro w' ⟨o',c,b⟩;exact⟨rfl,⟨o',vb,c,d.trans (b.mono (vN i hi)),f.kp b (fun e=>bV (fG.1 e))⟩,h.p,h.nb,h.b0⟩
end

end
def NwC(oZ:Own)(s:Nat)(w:World)(bG aO aX:Nat)(C:Nat)(w':World):Prop:=
 ∃S bw bl bi aY l vc,fP aY s w' S l (av.new bG aO aX) bw bl bi vc/\aS w' C 187 [aI S 0]/\aY C=0/\w.heap.size<=C/\Kp [] oZ aY w w'
theorem NwC.below{oZ:Own}{s:Nat}{w:World}{bG aO aX:Nat}{C:Nat}{w' b:World}(h:NwC oZ s w bG aO aX C w')(hb:bJ w' b):NwC oZ s w bG aO aX C b:=by obtain⟨S,bw,bl,bi,aY,l,vc,h1,a,c,d,e⟩:=h;exact⟨S,bw,bl,bi,aY,l,vc,h1.below hb,a.of_heap (hb.block _ a.lt),c,d,e.iW hb⟩
theorem qcs(oZ:Own)(s:Nat)(hs:0<s)(bG aO aX:Nat)(f:64<=bG/\bG<=400)(g:16<=aO/\aO<=4096)(ht:16<=aX/\aX<=4096)(w:World):Calls prog 59 #[.agg #[iZ bG,iZ aO,iZ aX]] w fun e w'=>∃C,e=.returned (.tuple #[aI C 0,.nilIface])/\NwC oZ s w bG aO aX C w':=by
 obtain⟨W,d⟩:=bZ (w.alloc (.cells #[iZ bG,iZ aO,iZ aX] 45));have hb:bJ w W:=by rw[d];exact(lg _ w).alloc (j3 _) _
 have i:=aG (qcr oZ s hs bG aO aX f g ht W);have j:Hid (∀w1 S bw bl bi aY l vc,fP aY s w1 S l (av.new bG aO aX) bw bl bi vc->Kp [] oZ aY W w1->NwC oZ s w bG aO aX w1.heap.size (w1.alloc (.cells #[aI S 0] 187))):=fun w1 S bw bl bi aY l vc h1 b=>by have a:bJ w1 (w1.alloc (.cells #[aI S 0] 187)):=(lg _ w1).alloc (j3 _) _;have K:Kp [] aY (loc aY w1.heap.size) w1 (w1.alloc (.cells #[aI S 0] 187)):=⟨a.os,a.tape,a.output,a.size,fun x c _=>a.block x c,fun x c=>jv _ _ _ c⟩;exact⟨S,bw,bl,bi,loc aY w1.heap.size,l,vc,h1.kp K aP,aS.new w1 187 [aI S 0],iX _ _ _ (j3 _),qy hb.size b.size,((Kp.below hb).trans b).trans K⟩
 clear f g ht hb;go_enter func59,ntmps59;go_wp2_with (go_at_call 107;rw[<-d];refine i.out.mono ?_;rintro e w1 ⟨S,bw,bl,bi,aY,l,vc,rfl,h1,b,_⟩;have h:=aG (j.out w1 S bw bl bi aY l vc h1 b);clear h1 b);go_ret2;exact⟨_,rfl,h.out⟩
theorem qct(oZ:Own)(s:Nat)(hs:0<s)(bG aO aX:Nat)(c:64<=bG/\bG<=400)(d:16<=aO/\aO<=4096)(ht:16<=aX/\aX<=4096)(w:World):Calls prog 33 #[.agg #[iZ bG,iZ aO,iZ aX]] w fun e w'=>∃C,e=.returned (.tuple #[aI C 0,iZ 0])/\NwC oZ s w bG aO aX C w':=by
 obtain⟨W,b⟩:=bZ (w.alloc (.cells #[iZ bG,iZ aO,iZ aX] 45));have hb:bJ w W:=by rw[b];exact(lg _ w).alloc (j3 _) _
 have i:Hid (Calls prog 59 #[.agg #[iZ bG,iZ aO,iZ aX]] W fun e w'=>∃C,e=.returned (.tuple #[aI C 0,.nilIface])/\NwC oZ s w bG aO aX C w'):=by refine(qcs oZ s hs bG aO aX c d ht W).mono ?_;rintro e w' ⟨C,rfl,S,bw,bl,bi,aY,l,vc,h1,a,k,m,n⟩;exact⟨C,rfl,S,bw,bl,bi,aY,l,vc,h1,a,k,qy hb.size m,(Kp.below hb).trans n⟩
 have j:Hid (∀C w1,NwC oZ s w bG aO aX C w1->Calls prog 60 #[.nilIface] w1 fun r f=>r=.returned (iZ 0)/\NwC oZ s w bG aO aX C f):=fun C w1 h=>by refine bN (zx .nilIface 0 (-1) w1 _ (xX w1)) ?_;rintro w' hb;exact⟨rfl,h.below hb⟩
 clear c d ht hb;go_enter func33,ntmps33;go_wp2_with (first|(go_at_call 59;rw[<-b];refine i.out.mono ?_;rintro e w1 ⟨C,rfl,h1⟩;have g:=aG h1;clear h1)|(go_at_call 60;refine bN (j.out C w1 g.out) ?_;rintro f a));go_ret2;exact⟨_,rfl,a⟩
section
theorem Sc{t e:TypeId}{z:Value}{b:Nat}(h1:prog.underlying t=some (.slice e))(f:(prog.info? e).map (fun i=>(i.zero,i.size,i.bytes))=some (some z,1,b))(d:z.cells=#[z])(g:z.oneCell'=true)(hb:b<=104):I9 t e z 1 b:=
 ⟨h1,f,fun n=>by rw[d];simp[qA],fun n v c=>by rw[d]at c;simp[qA]at c;obtain⟨i,_,rfl⟩:=c;have:i % 1=0:=aj;simp[this,g],hb⟩
def sty:Nat->TypeId|0=>39|1=>40|2=>41|_=>42
def ety:Nat->TypeId|0=>83|1=>78|2=>49|_=>43
def tg(f:Nat):Nat:=if f=4 then 203 else 180+f
def pos(f:Nat):Nat:=if f=4 then 9 else f
theorem Gc(f:Nat)(c:f<5):∃z b,I9 (sty f) (ety f) z 1 b:=by
 rcases(show f=0\/f=1\/f=2\/f=3\/f=4 by omega)with rfl|rfl|rfl|rfl|rfl;·exact⟨.pointer none,8,Sc bH bH rfl rfl aj⟩
 ·exact⟨nZ,24,Sc bH bH rfl rfl aj⟩
 ·exact⟨nZ,24,Sc bH bH rfl rfl aj⟩
 ·exact⟨uZ 0,8,Sc bH bH rfl rfl aj⟩
 ·exact⟨uZ 0,8,Sc bH bH rfl rfl aj⟩
theorem qhg:I9 78 77 (.pointer none) 1 8:=Sc bH bH rfl rfl aj
def Ie:bO:=[.string ⟨#[]⟩,.bool false,.bool false,iZ 0,iZ 0,iZ 0]
def nt0(a:Ad)(v:Nat->Value):bO:=[v 0,v 1,v 2,v 3,uZ 0,iZ a.bG,iZ a.gN,iZ a.rO,nZ,v 4]
structure Bj (fJ:Own) (w0:World) (a:Ad) (c7 i m k:Nat) (v:Nat->Value) (l:Nat->bO) (v12:Value) (DC:bO) (oZ:Own) (w:World):Prop where
 oP:aS w a.N 48 (nt0 a v)/\oZ a.N=200
 cf:aS w c7 45 [iZ a.bG,iZ a.gN,iZ a.rO]/\oZ c7=0
 gt:∀f,f<5->GT oZ (tg f) (ety f) 1 w (v f) (l f).length (l f)
 gi:GT oZ (184+i) 77 1 w v12 k DC
 gl:∀k',k'<k->DC[k']?=some (aI (a.e i k') 0)
 el:∀j k',j<i->k'<8->w.cell? (aB (a.el j) k')=some (aI (a.e j k') 0)/\oZ (a.el j)=184+j
 en:∀j k',(j<i/\k'<8\/j=i/\k'<k)->aS w (a.e j k') 80 Ie/\oZ (a.e j k')=210+8*j+k'
 sd:∀j,j<m->∃l vc,fP oZ (60*(j+1)) w (a.S j) l (av.new a.bG a.gN a.rO) (a.bw j) (a.bl j) (a.bi j) vc
 cn:∀j,j<m->w.cell? (aB (a.C j) 0)=some (aI (a.S j) 0)/\oZ (a.C j)=0
 px:∀j,j<(l 0).length->(l 0)[j]?=some (aI (a.C j) 0)
 pe:∀j,j<(l 1).length->(l 1)[j]?=some (dP (a.el j) 8 (a.Iw j))
 pg:∀j,j<(l 2).length->(l 2)[j]?=some nZ
 pc:∀j,j<(l 4).length->(l 4)[j]?=some (uZ 0)
 gd:Gd oZ w
 er:iE w
 o0:oZ 0=0
 kp:Kp TN fJ oZ w0 w
 im:i<=2/\m<=2/\k<=8/\(i=2->k=0)
section
variable {fJ oZ aY:Own} {w0 w w':World} {a:Ad} {c7 i m k:Nat} {v:Nat->Value} {l:Nat->bO} {v12:Value} {DC:bO} {T:List Nat}
structure BuT (oZ aY:Own) (w w':World) (T:List Nat) (a:Ad) (c7 i m k:Nat):Prop where
 cf:aS w' c7 45 [iZ a.bG,iZ a.gN,iZ a.rO]/\aY c7=0
 el:∀j k',j<i->k'<8->w'.cell? (aB (a.el j) k')=some (aI (a.e j k') 0)/\aY (a.el j)=184+j
 en:∀j k',(j<i/\k'<8\/j=i/\k'<k)->aS w' (a.e j k') 80 Ie/\aY (a.e j k')=210+8*j+k'
 sd:∀j,j<m->∃l vc,fP aY (60*(j+1)) w' (a.S j) l (av.new a.bG a.gN a.rO) (a.bw j) (a.bl j) (a.bi j) vc
 cn:∀j,j<m->w'.cell? (aB (a.C j) 0)=some (aI (a.S j) 0)/\aY (a.C j)=0
 gd:Gd aY w'
 er:iE w'
 o0:aY 0=0
theorem Bj.rest(h:Bj fJ w0 a c7 i m k v l v12 DC oZ w)(K:Kp T oZ aY w w')(f:∀x∈T,180<=x/\(x<184\/x=184+i\/x=200\/x=203\/226<=x)):BuT oZ aY w w' T a c7 i m k:=by
 have d:0∉T:=fun e=>bV (f _ e);have n:=h.im;refine⟨⟨cO h.cf.1 K (by rw[h.cf.2];exact d),by rw[K.ext _ h.cf.1.lt];exact h.cf.2⟩,fun j k' c o=>?_,fun j k' g=>?_,fun j c=>?_,fun j c=>?_,h.gd.kp K d,?_,?_⟩;·obtain⟨p,q⟩:=h.el j k' c o;have b:a.el j<w.heap.size:=World.block_lt_of_cell? w (aB (a.el j) k') (by rw[p]);exact⟨cell_of p (K.cZ _ b (by rw[q];exact fun e=>bV (f _ e))),by rw[K.ext _ b];exact q⟩
 ·obtain⟨p,q⟩:=h.en j k' g;exact⟨cO p K (by rw[q];exact fun e=>bV (f _ e)),by rw[K.ext _ p.lt];exact q⟩
 ·obtain⟨l',vc,p⟩:=h.sd j c;exact⟨l',vc,p.kp K fun x s r e=>bV (f _ e)⟩
 ·obtain⟨p,q⟩:=h.cn j c;have b:a.C j<w.heap.size:=World.block_lt_of_cell? w (aB (a.C j) 0) (by rw[p]);exact⟨cell_of p (K.cZ _ b (by rw[q];exact d)),by rw[K.ext _ b];exact q⟩
 ·exact cell_of h.er (K.cZ 0 (bV h.gd.sz) (by rw[h.o0];exact d))
 ·rw[K.ext 0 (bV h.gd.sz)];exact h.o0
theorem Bj.kp'(h:Bj fJ w0 a c7 i m k v l v12 DC oZ w)(K:Kp [] oZ aY w w'):Bj fJ w0 a c7 i m k v l v12 DC aY w':=by have r:=h.rest K aP;exact⟨⟨cO h.oP.1 K aP,by rw[K.ext _ h.oP.1.lt];exact h.oP.2⟩,r.cf,fun f b=>(h.gt f b).kp K aP,h.gi.kp K aP,h.gl,r.el,r.en,r.sd,r.cn,h.px,h.pe,h.pg,h.pc,r.gd,r.er,r.o0,h.kp.trans (K.mono aP),h.im⟩
theorem qf2{f g:Nat}(b:f<5)(c:g<5)(h:g≠f):tg g∉[tg f]:=by unfold tg;simp;split<;>split<;>omega
theorem WT(f:Nat)(b:f<5):180<=tg f/\(tg f<184\/tg f=203):=by unfold tg;split<;>omega
theorem ZL(a:Ad)(v:Nat->Value)(f:Nat)(b:f<5)(x:Value):(nt0 a v).set (pos f) x=nt0 a (fun g=>if g=f then x else v g):=by rcases(show f=0\/f=1\/f=2\/f=3\/f=4 by omega)with rfl|rfl|rfl|rfl|rfl<;>rfl
theorem WU(a:Ad)(v:Nat->Value)(f:Nat)(b:f<5):(nt0 a v)[pos f]?=some (v f):=by rcases(show f=0\/f=1\/f=2\/f=3\/f=4 by omega)with rfl|rfl|rfl|rfl|rfl<;>rfl
theorem Bj.app(h:Bj fJ w0 a c7 i m k v l v12 DC oZ w)(f:Nat)(A:f<5)(u:Value)(V:u.oneCell'=true)(hl:(l f).length<=10)(K:f=0->u=(aI (a.C (l 0).length) 0))(R:f=1->u=(dP (a.el (l 1).length) 8 (a.Iw (l 1).length)))(F:f=2->u=nZ)(Q:f=4->u=(uZ 0)):∃B n0 c0 o n2 c2 d n,v f=.slice B n0 c0/\(∀L,(nU #[sty f,sty f] L #[.slice B n0 c0,dP w.heap.size 1 1]).run prog (w.alloc (.cells #[u] (ety f)))=.ok (.slice o n2 c2) d)/\d.cell? (aB a.N (pos f))=some (.slice B n0 c0)/\d.frozen? (aB a.N (pos f))=false/\Bj fJ w0 a c7 i m k (fun g=>if g=f then .slice o n2 c2 else v g) (fun g=>if g=f then l f++[u]else l g) v12 DC n (d.setCell (aB a.N (pos f)) (.slice o n2 c2)):=by
 obtain⟨z,b,E⟩:=Gc f A;have P:aS (w.alloc (.cells #[u] (ety f))) w.heap.size (ety f) [u]:=aS.new w (ety f) [u];have D:bJ w (w.alloc (.cells #[u] (ety f))):=(lg _ w).alloc (j3 _) _;have C:=h.kp' (Kp.below (T:=[]) (oZ:=oZ) D);obtain⟨B,c0,J⟩:=jk (h.gt f A);obtain⟨X,d,n,run,O,I⟩:=gq E (C.gt f A) (aB w.heap.size 0) 1 1 [u] rfl (fun z hz=>by rw[qx.1 hz];exact V) (fun t y W=>by
  have e:(aB w.heap.size 0).add t=(aB w.heap.size t):=by rw[Addr.add_lit,tL]
  rw[e,P.cell,W]) aj
 obtain⟨o,c2,rfl⟩:=jk O;have U:=WT f A;have s:aS d a.N 48 (nt0 a v):=cO C.oP.1 I (by rw[C.oP.2];simp;omega);have G:n a.N=200:=by rw[I.ext _ C.oP.1.lt];exact C.oP.2
 have M:Kp [200] n n d (d.setCell (aB a.N (pos f)) (.slice o ((l f).length+1) c2)):=Kp.set n d _ _ _ (by rw[G];simp);have H:Kp [tg f,200] oZ n w (d.setCell (aB a.N (pos f)) (.slice o ((l f).length+1) c2)):=(Kp.below D).trans ((I.mono aP).trans (M.mono aP));have r:=h.rest H (by simp;omega);have S:=h.im;have key:∀(g j:Nat),j<(if g=f then l f++[u]else l g).length->(j<(l g).length/\(if g=f then l f++[u]else l g)[j]?=(l g)[j]?)\/(g=f/\j=(l f).length/\(if g=f then l f++[u]else l g)[j]?=some u):=fun g j c=>by
  by_cases e:g=f
  ·subst e;rw[bK rfl]at c ⊢;rw[mK,nV]at c;by_cases N:j<(l g).length;·exact .inl ⟨N,mE N⟩
   ·obtain rfl:j=(l g).length:=aj;exact .inr ⟨rfl,rfl,aP⟩
  ·rw[aU e]at c ⊢;exact .inl ⟨c,rfl⟩
 refine⟨B,_,c0,o,_,c2,d,n,J,fun L=>by have:=run L;rw[J]at this;exact this,by rw[s.cell,WU a v f A,J],s.frozen _,⟨⟨?_,G⟩,r.cf,fun g F=>?_,h.gi.kp H (by simp;omega),h.gl,r.el,r.en,r.sd,r.cn,?_,?_,?_,?_,r.gd,r.er,r.o0,h.kp.trans (H.mono fun x K=>lC.2 (by simp at K;omega)),h.im⟩⟩;·rw[<-ZL a v f A];exact s.setCell (pos f) _
 ·by_cases e:g=f;·subst e;simp only[if_true,mK,nV];exact O.kp M (by simp;omega)
  ·simp only[aU e];have:=WT g F;exact(h.gt g F).kp H (by have:=qf2 A F e;simp at this ⊢;omega)
 ·intro j c;rcases key 0 j c with⟨p,q⟩|⟨p,q,r⟩;·rw[q];exact h.px j p
  ·rw[r,K p.symm,q,<-p]
 ·intro j c;rcases key 1 j c with⟨p,q⟩|⟨p,q,r⟩;·rw[q];exact h.pe j p
  ·rw[r,R p.symm,q,<-p]
 ·intro j c;rcases key 2 j c with⟨p,q⟩|⟨p,q,r⟩;·rw[q];exact h.pg j p
  ·rw[r,F p.symm]
 ·intro j c;rcases key 4 j c with⟨p,q⟩|⟨p,q,r⟩;·rw[q];exact h.pc j p
  ·rw[r,Q p.symm]
end

end
section
section
variable {fJ oZ aY:Own} {w0 w w':World} {a:Ad} {c7 i m k:Nat} {v:Nat->Value} {l:Nat->bO} {v12:Value} {DC:bO}
def Ad.side(a:Ad)(m C S bw bl bi:Nat):Ad:={a with C:=fun j=>if j=m then C else a.C j,S:=fun j=>if j=m then S else a.S j,bw:=fun j=>if j=m then bw else a.bw j,bl:=fun j=>if j=m then bl else a.bl j,bi:=fun j=>if j=m then bi else a.bi j}
theorem Bj.side(h:Bj fJ w0 a c7 i m k v l v12 DC oZ w)(s:m<2)(hl:(l 0).length=m){C:Nat}(o:NwC oZ (60*(m+1)) w a.bG a.gN a.rO C w'):∃S bw bl bi aY,Bj fJ w0 (a.side m C S bw bl bi) c7 i (m+1) k v l v12 DC aY w':=by
 obtain⟨S,bw,bl,bi,aY,ls,vc,h1,d,f,r,n⟩:=o;have g:=h.kp' n;have b:=g.im;refine⟨S,bw,bl,bi,aY,g.oP,g.cf,g.gt,g.gi,g.gl,g.el,g.en,fun j c=>?_,fun j c=>?_,fun j c=>?_,g.pe,g.pg,g.pc,g.gd,g.er,g.o0,g.kp,b.1,aj,b.2.2⟩
 ·by_cases e:j=m;·subst e;refine⟨ls,vc,?_⟩;unfold Ad.side;simp only[if_true];exact h1
  ·obtain⟨l',q,p⟩:=g.sd j aj;refine⟨l',q,?_⟩;unfold Ad.side;simp only[aU e];exact p
 ·unfold Ad.side;by_cases e:j=m;·simp only[bK e];exact⟨d.cell 0,f⟩
  ·simp only[aU e];exact g.cn j aj
 ·unfold Ad.side;have e:j≠m:=aj;simp only[aU e];exact g.px j c
def Ad.Sg(a:Ad)(i k b:Nat):Ad:={a with e:=fun j k'=>if j=i/\k'=k then b else a.e j k'}
theorem Bj.Sg(h:Bj fJ w0 a c7 i m k v l v12 DC oZ w)(hk:k<8)(hi:i<2):∃D c0 E c2 q C,v12=.slice D k c0/\(∀K,(nU #[78,78] K #[.slice D k c0,(dP (w.heap.size+1) 1 1)]).run prog ((w.alloc (.cells Ie.toArray 80)).alloc (.cells #[aI w.heap.size 0] 77))=.ok (.slice E (k+1) c2) q)/\Bj fJ w0 (a.Sg i k w.heap.size) c7 i m (k+1) v l (.slice E (k+1) c2) (DC++[aI w.heap.size 0]) C q:=by
 obtain⟨D,c0,L⟩:=jk h.gi;obtain⟨w1,d⟩:=bZ (w.alloc (.cells Ie.toArray 80));obtain⟨F,A⟩:=bZ (fun x=>if x=w.heap.size then 210+8*i+k else oZ x:Own);have c:bJ w w1:=by rw[d];exact(lg _ w).alloc (j3 _) _
 have B:w1.heap.size=w.heap.size+1:=by rw[d];simp
 have S:Kp [] oZ F w w1:=⟨c.os,c.tape,c.output,c.size,fun b hb _=>c.block b hb,fun b hb=>by rw[A];exact aU aj⟩;have V:=h.kp' S;have B1:aS w1 w.heap.size 80 Ie:=by rw[d];exact aS.new w 80 Ie
 have O:F w.heap.size=210+8*i+k:=by rw[A];exact bK rfl
 obtain⟨P,p⟩:=bZ (w1.alloc (.cells [aI w.heap.size 0].toArray 77));have o:bJ w1 P:=by rw[p];exact(lg _ w1).alloc (j3 _) _
 have Q:aS P w1.heap.size 77 [aI w.heap.size 0]:=by rw[p];exact aS.new w1 77 _
 have g:=V.kp' (Kp.below (T:=[]) (oZ:=F) o);obtain⟨v6,q,C,run,M,n⟩:=gq qhg g.gi (aB w1.heap.size 0) 1 1 [aI w.heap.size 0] rfl (fun z hz=>by rw[qx.1 hz];rfl) (fun t y Z=>by
  have e:(aB w1.heap.size 0).add t=(aB w1.heap.size t):=by rw[Addr.add_lit,tL]
  rw[e,Q.cell,Z]) aj
 obtain⟨E,c2,rfl⟩:=jk M;have r:=g.rest n (by simp;omega);have G:aS q a.N 48 (nt0 a v):=cO g.oP.1 n (by rw[g.oP.2];simp;omega);have J:C a.N=200:=by rw[n.ext _ g.oP.1.lt];exact g.oP.2
 have s:=h.im;have R:aS q w.heap.size 80 Ie:=cO (B1.of_heap (o.block _ B1.lt)) n (by rw[O];simp;omega);have I:C w.heap.size=210+8*i+k:=by rw[n.ext _ (bV o.size)];exact O
 have H:DC.length=k:=bV h.gi.len;refine⟨D,c0,E,c2,q,C,L,fun K=>by have:=run K;rw[L,B,p,d]at this;exact this,?_⟩;refine⟨⟨G,J⟩,r.cf,fun f N=>(g.gt f N).kp n (by have:=WT f N;simp;omega),M,fun k' u=>?_,fun j k' W u=>?_,fun j k' X=>?_,r.sd,r.cn,h.px,h.pe,h.pg,h.pc,r.gd,r.er,r.o0,g.kp.trans (n.mono fun x Y=>lC.2 (by simp at Y;omega)),s.1,s.2.1,aj,fun e=>aj⟩
 ·show _=some (Value.pointer (some (aB (if i=i/\k'=k then w.heap.size else a.e i k') 0)));by_cases e:k'=k;·rw[bK ⟨rfl,e⟩,List.getElem?_append_right aj,H,e,Nat.sub_self];rfl
  ·rw[aU (fun h=>e h.2),mE aj];exact h.gl k' aj
 ·unfold Ad.Sg;have U:¬(j=i/\k'=k):=fun h=>aj;simp only[aU U];exact r.el j k' W u
 ·unfold Ad.Sg;by_cases e:j=i/\k'=k;·obtain⟨rfl,rfl⟩:=e;simp only[and_self,if_true];exact⟨R,I⟩
  ·simp only[aU e];exact r.en j k' aj
def Ad.elp(a:Ad)(i g c:Nat):Ad:={a with el:=fun j=>if j=i then g else a.el j,Iw:=fun j=>if j=i then c else a.Iw j}
theorem Bj.close(h:Bj fJ w0 a c7 i m 8 v l v12 DC oZ w)(hi:i<2)(hl:(l 1).length=i):∃g c,v12=(dP g 8 c)/\Bj fJ w0 (a.elp i g c) c7 (i+1) m 0 v l nZ [] oZ w:=by
 rcases h.gi with⟨_,e,_⟩|⟨g,cap,cs,ev,ho,hB,hc1,hc2,hc3,hc4,JY,_⟩;·cases e
 have d:=h.im;refine⟨g,cap,ev,h.oP,h.cf,h.gt,.inl ⟨rfl,rfl,rfl⟩,fun k' b=>aj,fun j k' f b=>?_,fun j k' n=>h.en j k' aj,h.sd,h.cn,h.px,fun j f=>?_,h.pg,h.pc,h.gd,h.er,h.o0,h.kp,aj,d.2.1,aj,fun _=>rfl⟩
 ·unfold Ad.elp;by_cases e:j=i;·subst e;simp only[if_true];refine⟨?_,ho⟩;rw[hB.cell];have:=h.gl k' b;rw[<-JY,o8,bK aj]at this;exact this
  ·simp only[aU e];exact h.el j k' aj b
 ·unfold Ad.elp;have e:j≠i:=aj;simp only[aU e];exact h.pe j f
theorem KI{t:Nat}{e:TypeId}{x:Value}{n:Nat}{l:bO}(h:GT oZ t e 1 w x n l)(o:0<n):∃g c,x=(dP g n c)/\oZ g=t/\(∀j y,l[j]?=some y->w.cell? (aB g j)=some y)/\∃r,aS w g e (l++r):=by
 rcases h with⟨_,e,_⟩|⟨g,cap,cs,rfl,ho,hB,hc1,hc2,hc3,hc4,JY,_⟩;·omega
 have b:cs=l++cs.drop (n*1):=by rw[<-JY,List.take_append_drop]
 rw[b]at hB;refine⟨g,cap,rfl,ho,fun j y d=>?_,_,hB⟩;have f:j<l.length:=(List.getElem?_eq_some_iff.1 d).1;rw[hB.cell,mE f,d]
theorem WV(bG gN rO j k:Nat)(b:k<8):Ie=ends (Net.new bG gN rO) j k:=by rcases(show k=0\/k=1\/k=2\/k=3\/k=4\/k=5\/k=6\/k=7 by omega)with rfl|rfl|rfl|rfl|rfl|rfl|rfl|rfl<;>rfl
theorem Bj.done(h:Bj fJ w0 a c7 2 2 0 v l v12 DC oZ w)(hl:∀f,f<5->(l f).length=2):∃c vb,c.N=a.N/\c.bG=a.bG/\(c.gN=a.gN/\c.rO=a.rO)/\fu oZ w c (Net.new a.bG a.gN a.rO) vb (ends (Net.new a.bG a.gN a.rO)):=by
 have G:=fun f H=>h.gt f H;obtain⟨g,c0,u,o0,f0,_⟩:=KI (h.gt 0 aj) (by rw[hl 0 aj];omega);obtain⟨j,c1,A,o1,f1,_⟩:=KI (h.gt 1 aj) (by rw[hl 1 aj];omega);obtain⟨n,c2,B,I,f2,_⟩:=KI (h.gt 2 aj) (by rw[hl 2 aj];omega);obtain⟨E,c3,C,L,f3,_⟩:=KI (h.gt 3 aj) (by rw[hl 3 aj];omega);obtain⟨F,c4,D,J,f4,K,s⟩:=KI (h.gt 4 aj) (by rw[hl 4 aj];omega);have o:=h.oP.1;unfold nt0 at o;rw[u,A,B,C,D,hl 0 aj,hl 1 aj,hl 2 aj,hl 3 aj,hl 4 aj]at o;refine⟨{a with xb:=g,xc:=c0,eb:=j,ec:=c1,gb:=n,gc:=c2,nb:=E,nc:=c3,cb:=F,cc:=c4},nZ,rfl,rfl,⟨rfl,rfl⟩,⟨o,h.oP.2⟩,fun i hi=>⟨f0 i _ (h.px i (by rw[hl 0 aj];exact hi)),?_⟩,fun i hi=>⟨f1 i _ (h.pe i (by rw[hl 1 aj];exact hi)),?_⟩,fun i k hi d=>⟨(h.el i k hi d).1,?_⟩,fun i k hi d=>?_,fun i hi=>⟨f2 i _ (h.pg i (by rw[hl 2 aj];exact hi)),?_⟩,⟨⟨K,?_⟩,J⟩,.inl ⟨rfl,rfl,rfl⟩,fun i hi=>h.sd i hi,fun i hi=>h.cn i hi,h.gd,h.er,h.o0⟩;·show 180<=oZ g/\oZ g<200;rw[o0];decide
 ·show 180<=oZ j/\oZ j<200;rw[o1];decide
 ·show 180<=oZ (a.el i)/\oZ (a.el i)<200;rw[(h.el i k hi d).2];omega
 ·obtain⟨p,q⟩:=h.en i k (.inl ⟨hi,d⟩);rw[WV a.bG a.gN a.rO i k d]at p;exact⟨p,q⟩
 ·show 180<=oZ n/\oZ n<200;rw[I];decide
 ·have e:l 4=[uZ 0,uZ 0]:=by
   have b:=hl 4 aj;have r:=h.pc 0 aj;have p1:=h.pc 1 aj;match hq:l 4 with
   |[]=>rw[hq]at b;cases b
   |[x]=>rw[hq]at b;cases b
   |[x,y]=>rw[hq]at r p1;simp at r p1;rw[r,p1]
   |x::y::z::t=>rw[hq]at b;simp at b
  rw[e]at s;exact s
end

end
section
section
variable {fJ oZ:Own} {w0 w:World} {a:Ad} {c7 i m k:Nat} {v:Nat->Value} {l:Nat->bO} {v12:Value} {DC:bO}
theorem Bj.app'(h:Bj fJ w0 a c7 i m k v l v12 DC oZ w)(N:Nat)(y:a.N=N)(f p s e:Nat)(o:f<5)(hp:pos f=p)(hs:sty f=s)(A:ety f=e)(u:Value)(B:u.oneCell'=true)(hl:(l f).length<=10)(C:f=0->u=(aI (a.C (l 0).length) 0))(x:f=1->u=(dP (a.el (l 1).length) 8 (a.Iw (l 1).length)))(j:f=2->u=nZ)(z:f=4->u=(uZ 0)):∃c n0 c0 d n2 c2 b W n v' l',w.cell? (aB N p)=some (.slice c n0 c0)/\(∀D,(nU #[s,s] D #[.slice c n0 c0,dP w.heap.size 1 1]).run prog (w.alloc (.cells #[u] e))=.ok (.slice d n2 c2) b)/\b.cell? (aB N p)=some (.slice c n0 c0)/\b.frozen? (aB N p)=false/\b.setCell (aB N p) (.slice d n2 c2)=W/\Hid (Bj fJ w0 a c7 i m k v' l' v12 DC n W)/\Hid ((l' f).length=(l f).length+1/\∀g,g≠f->l' g=l g):=by subst hp hs A y;obtain⟨c,n0,c0,d,n2,c2,b,n,r,run,q,f6,t⟩:=h.app f o u B hl C x j z;refine⟨c,n0,c0,d,n2,c2,b,_,n,_,_,by rw[h.oP.1.cell,WU a v f o,r],run,q,f6,rfl,t,aP,fun g j=>?_⟩;simp only[aU j]
end

def NwN(w:World)(mt wi tt:Nat)(p:Value)(w':World):Prop:=∃a oZ vb,p=(aI a.N 0)/\a.bG=mt/\fu oZ w' a (Net.new mt wi tt) vb (ends (Net.new mt wi tt))/\Kp TN (fun _=>0) oZ w w'/\a.gN=wi/\a.rO=tt
structure BuL (w0:World) (N mt wi tt c7 i:Nat) (w:World):Prop where
 ex:∃a v l oZ,a.N=N/\a.bG=mt/\a.gN=wi/\a.rO=tt/\Bj (fun _=>0) w0 a c7 i i 0 v l nZ [] oZ w/\∀f,f<5->(l f).length=i
def BuK(w0:World)(N mt wi tt c7 i k:Nat)(v12:Value)(w:World):Prop:=∃a v l DC oZ,a.N=N/\a.bG=mt/\a.gN=wi/\a.rO=tt/\Bj (fun _=>0) w0 a c7 i (i+1) k v l v12 DC oZ w/\(l 0).length=i+1/\∀f,f≠0->f<5->(l f).length=i
theorem ZM(w:World)(mt wi tt:Nat)(t:iE w)(u:j4 w)(s:2<=w.heap.size):BuL w (w.heap.size+1) mt wi tt w.heap.size 0 ((w.alloc (.cells #[iZ mt,iZ wi,iZ tt] 45)).alloc (.cells #[nZ,nZ,nZ,nZ,uZ 0,iZ mt,iZ wi,iZ tt,nZ,nZ] 48)):=by
 obtain⟨w1,d⟩:=bZ (w.alloc (.cells [iZ mt,iZ wi,iZ tt].toArray 45));have g:bJ w w1:=by rw[d];exact(lg _ w).alloc (j3 _) _
 have B1:aS w1 w.heap.size 45 [iZ mt,iZ wi,iZ tt]:=by rw[d];exact aS.new w 45 _
 have p:w1.heap.size=w.heap.size+1:=by rw[d];simp
 let a:Ad:=⟨w.heap.size+1,0,0,0,0,0,0,0,0,0,0,fun _=>0,fun _=>0,fun _ _=>0,fun _=>0,fun _=>0,fun _=>0,fun _=>0,fun _=>0,mt,wi,tt⟩
 obtain⟨o,e⟩:=bZ (w1.alloc (.cells (nt0 a (fun _=>nZ)).toArray 48));have h:bJ w1 o:=by rw[e];exact(lg _ w1).alloc (j3 _) _
 have q:aS o w1.heap.size 48 (nt0 a (fun _=>nZ)):=by rw[e];exact aS.new w1 48 _
 rw[p]at q;have hb:bJ w o:=g.trans (h.mono g.size);have key:BuL w (w.heap.size+1) mt wi tt w.heap.size 0 o:=by
  refine⟨a,fun _=>nZ,fun _=>[],fun x=>if x=w.heap.size+1 then 200 else 0,rfl,rfl,rfl,rfl,⟨⟨q,bK rfl⟩,⟨B1.of_heap (h.block _ B1.lt),aU aj⟩,fun f y=>.inl ⟨rfl,rfl,rfl⟩,.inl ⟨rfl,rfl,rfl⟩,fun k' r=>aj,fun j k' c _=>aj,fun j k' c=>aj,fun j c=>aj,fun j c=>aj,fun j c=>by simp at c,fun j c=>by simp at c,fun j c=>by simp at c,fun j c=>by simp at c,?_,?_,aU aj,?_,aj,aj,aj,fun _=>rfl⟩,fun f y=>rfl⟩;·exact⟨fun k r=>cell_of (u k r) (hb.block 1 aj),aU aj,qy s hb.size⟩
  ·exact cell_of t (hb.block 0 aj)
  ·exact⟨hb.os,hb.tape,hb.output,hb.size,fun b n _=>hb.block b n,fun b n=>aU aj⟩
 rw[e,d]at key;exact key
theorem KJ(cm E ct:Int)(hm:nO cm)(hw:nO E)(ht:nO ct)(w:World)(hE:iE w)(hT:j4 w)(I:2<=w.heap.size):Calls prog 21 #[iZ cm,iZ E,iZ ct] w fun e w'=>∃p,e=.returned p/\NwN w (64+dL cm 337) (16+dL E 300) (16+dL ct 600) p w':=by
 have l1:=fC cm 337 aj;have l2:=fC E 300 aj;have l3:=fC ct 600 aj;obtain⟨mt,M⟩:=bZ (64+dL cm 337);obtain⟨wi,P⟩:=bZ (16+dL E 300);obtain⟨tt,O⟩:=bZ (16+dL ct 600);rw[<-M,<-P,<-O];have r:=aG (ZM w mt wi tt hE hT I);have q1:(64:Int)+((dL cm 337:Nat):Int)=(mt:Int):=aj;have q2:(16:Int)+((dL E 300:Nat):Int)=(wi:Int):=aj;have Y:(16:Int)+((dL ct 600:Nat):Int)=(tt:Int):=aj;have b1:mt<=400:=aj;have b2:wi<=400:=aj;have b3:tt<=700:=aj;have b4:64<=mt/\16<=wi/\16<=tt:=aj;have HB:=aG b4;clear hE hT I M P O b4;go_enter func21,ntmps21;go_wp2_with (go_at_call 32;refine(lu _ _ (by assumption) iO _).mono ?_;rintro ee y ⟨rfl,he⟩;subst he);generalize hN:y.heap.size+1=N at *
 generalize h9:y.heap.size=c7 at *
 clear hN h9 q1 q2 Y l1 l2 l3;go_loopw [9] (fun s9 wr=>∃i:Nat,i<=2/\s9=(iZ i)/\Hid (BuL y N mt wi tt c7 i wr)) (fun s9 _=>2-(nI s9).toNat);case atStart=>exact⟨0,aj,rfl,r⟩
 case round=>
  obtain⟨i,hi,rfl,X⟩:=hrel;clear r;by_cases A:i<2
  ·have ho:(i:Int)<2:=aj;obtain⟨a,v,l,oZ,L,rfl,rfl,rfl,t,hl⟩:=X.out.ex;have F:=aG L;clear L;have c0:=t.cf.1.cell 0;have c1:=t.cf.1.cell 1;have c2:=t.cf.1.cell 2;simp only[eT,eB]at c0 c1 c2;have r:=aG hl;have H0:=aG t;have hb:=HB.out;have HN:=aG (qct oZ (60*(i+1)) aj a.bG a.gN a.rO aj aj aj wr);clear hl t hb X;go_wp2_with (first
    |(
      go_at_call 33;refine HN.out.mono ?_;rintro e w3 ⟨C,rfl,hn⟩;obtain⟨S,bw,bl,bi,wh,J⟩:=H0.out.side A (r.out 0 aj) hn;obtain⟨a0,n0,k0,a2,n2,k2,w6,W,jZ,v',l',d3,run,d6,f6,hW,K,z⟩:=J.app' N F.out 0 0 39 83 aj rfl rfl rfl (aI C 0) rfl (by rw[r.out 0 aj];omega) (fun _=>by rw[r.out 0 aj];unfold Ad.side;simp) (fun e=>aj) (fun e=>aj) (fun e=>aj);clear hn J)
    |(at_builtin;refine mI _ rfl _ _ _ _ rfl _ _ rfl rfl _ _ (run _) ?_))
   have G:Hid (BuK y N a.bG a.gN a.rO c7 i 0 nZ W):=⟨a.side i C S bw bl bi,v',l',[],jZ,F.out,rfl,rfl,rfl,K.out,by rw[z.out.1,r.out 0 aj],fun f hf ha=>by rw[z.out.2 f hf];exact r.out f ha⟩;clear K z hW d6 f6 d3 run H0 r HN c0 c1 c2;go_loopw [12,13] (fun hj D wr=>∃k:Nat,k<=8/\D=(iZ k)/\Hid (BuK y N a.bG a.gN a.rO c7 i k hj wr)) (fun _ D _=>8-(nI D).toNat);case atStart=>exact⟨0,aj,rfl,G⟩
   case round=>
    obtain⟨k,hk,rfl,s⟩:=hrel;clear G;by_cases hc:k<8
    ·have Zn:(k:Int)<8:=aj;obtain⟨a1,v1,l1,DC,eZ,d,u,x,H,h1,h,b⟩:=s.out;obtain⟨a0,c0,a2,c2,w7,hg,ev,run,h7⟩:=h1.Sg hc A;have h8:Hid (BuK y N a.bG a.gN a.rO c7 i (k+1) (.slice a2 (k+1) c2) w7):=⟨a1.Sg i k wr.heap.size,v1,l1,_,hg,d,u,x,H,h7,h,b⟩;subst ev;unfold Ie at run;clear d u x H h1 h7 h b s;go_wp2_with (first|(at_builtin;refine mI _ rfl _ _ _ _ rfl _ _ rfl rfl _ _ (run _) ?_)|go_in);go_roundw;case rel=>exact⟨k+1,aj,aP,h8⟩
     case measure=>simp[nI];omega
    ·obtain rfl:k=8:=aj;obtain⟨a1,v1,l1,DC,eZ,d,u,x,H,h1,h,b⟩:=s.out;obtain⟨g,c,ev,I⟩:=h1.close A (b 1 aj aj);obtain⟨x0,x1,x2,y0,y1,y2,z0,W1,o1,v2,l2,d1,mU,t1,f1,hr,J,Y⟩:=I.app' N d 1 1 40 78 aj rfl rfl rfl (dP g 8 c) rfl (by rw[b 1 aj aj];omega) (fun e=>aj) (fun _=>by rw[b 1 aj aj];unfold Ad.elp;simp) (fun e=>aj) (fun e=>aj);obtain⟨Q,j⟩:=Y.out;have r2:(l2 2).length=i:=by rw[j 2 aj];exact b 2 aj aj
     obtain⟨x3,x4,x5,y3,y4,y5,z1,W2,o2,v3,l3,d2,zk,t2,f2,hu,h4,q4⟩:=J.out.app' N d 2 2 41 49 aj rfl rfl rfl nZ rfl aj (fun e=>aj) (fun e=>aj) (fun _=>rfl) (fun e=>aj);obtain⟨R,n⟩:=q4.out;have r3:(l3 3).length=i:=by rw[n 3 aj,j 3 aj];exact b 3 aj aj
     obtain⟨x6,x7,x8,y6,y7,y8,z2,W3,o3,v4,l4,d3,B,t3,f3,hv,h5,q5⟩:=h4.out.app' N d 3 3 42 43 aj rfl rfl rfl (uZ 0) rfl aj (fun e=>aj) (fun e=>aj) (fun e=>aj) (fun e=>aj);obtain⟨T,o⟩:=q5.out;have r4:(l4 4).length=i:=by rw[o 4 aj,n 4 aj,j 4 aj];exact b 4 aj aj
     obtain⟨x9,xa,xb,y9,ya,yb,z3,W4,o4,v5,l5,d4,V,t4,f4,DW,K,q6⟩:=h5.out.app' N d 4 9 42 43 aj rfl rfl rfl (uZ 0) rfl aj (fun e=>aj) (fun e=>aj) (fun e=>aj) (fun _=>rfl);obtain⟨U,q⟩:=q6.out;have Z:Hid (BuL y N a.bG a.gN a.rO c7 (i+1) W4):=⟨a1.elp i g c,v5,l5,o4,d,u,x,H,K.out,fun f hf=>by
      rcases(show f=0\/f=1\/f=2\/f=3\/f=4 by omega)with rfl|rfl|rfl|rfl|rfl;·rw[q 0 aj,o 0 aj,n 0 aj,j 0 aj];exact h
      ·rw[q 1 aj,o 1 aj,n 1 aj,Q,b 1 aj aj]
      ·rw[q 2 aj,o 2 aj,R,r2]
      ·rw[q 3 aj,T,r3]
      ·rw[U,r4]⟩
     subst ev;clear h1 I J h4 h5 K Y q4 q5 q6 Q j R n T o U q r2 r3 r4 h b d u x H s;go_wp2_with (first|(at_builtin;refine mI _ rfl _ _ _ _ rfl _ _ rfl rfl _ _ (mU _) ?_;clear mU;(try have mU:=zk);(try clear zk);(try have zk:=B);(try clear B);(try have B:=V);(try clear V))|go_in);go_roundw;case rel=>exact⟨i+1,aj,aP,Z⟩
     case measure=>simp[nI];omega
  ·obtain rfl:i=2:=aj;obtain⟨a,v,l,oZ,rfl,rfl,rfl,rfl,t,hl⟩:=X.out.ex;obtain⟨a',vb,d,u,x,hM⟩:=t.done hl;have Z:Hid (NwN y a.bG a.gN a.rO (aI a.N 0) wr):=⟨a',oZ,vb,by rw[d],u,hM,t.kp,x⟩;clear t hl hM d u x X;go_wp2;go_ret;exact⟨_,rfl,Z.out⟩
