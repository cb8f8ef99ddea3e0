import Derived.Test.YtphbledmopchnaaGreatDoorUhe
import Derived.Deep.MidRow
open List renaming getD_eq_getElem?_getD->fA,getElem?_eq_getElem->fB,getElem?_cons_succ->mR,getElem?_cons_zero->nI,length_map->sQ,getElem?_drop->tL
set_option maxHeartbeats 8000000
set_option maxRecDepth 100000
namespace Go.Proofs.YtphbledmopchnaaGreatDoor.Sd
open Go.RowKit Go.Lib Mm Tryz
theorem Wi(n:Net)(i:Nat)(Y:List (Nat×List Fr)):nj n i Y 0 0=n:=by
 have e:(fun t=>if t=i then n.cnt i+0 else n.cnt t)=n.cnt:=funext fun t=>by
  split
  ·rename_i h;rw[h];rfl
  ·rfl
 unfold nj;rw[e,List.take_zero,List.map_nil,List.append_nil]
theorem BU{oZ:Own}{w:World}{a:Ad}{n:Net}{vb:Value}(h:bL oZ w a n vb (ends n))(i:Nat)(hi:i<2)(X:dD (n.x i).nq)(hq:QQ (n.x i))(h1:bn (n.x i) (n.x (1-i)))(H:bn (n.x (1-i)) (n.x i))(V:Bd (n.x i))(hm:(n.x i).aM=a.aM)(K:n.cnt i=(n.x i).next)(hb:rR n 0)(O:a.aM<=400)(hl:n.bP.length<=10000000000)(hk:∀M pk,(n.x i).kY M pk->∀x∈pk,∀f∈x.2,f.kind=7->n.now<=f.deadline):
  Calls prog 23 #[ay a.N 0,iZ i] w fun e w'=>e=.returned (.bool true)/\∃M pk,(n.x i).kY M pk/\PkW (n.x i) M pk/\nL oZ w a (n.KL i M pk) w':=by
 obtain⟨c0,_⟩:=h.cells;have h0:=(hb.1 i hi).1;refine Wh oZ w a (ends n) i hi O (fun w'=>∃M pk,(n.x i).kY M pk/\PkW (n.x i) M pk/\nL oZ w a (n.KL i M pk) w') c0 (h.xs i hi).1 ?_;refine(Jm h i hi X hq h1 H V hb).mono ?_;rintro e w1 ⟨x,rfl,bD,M,pk,F,hN,Z,hK⟩;obtain⟨sa,sc,rfl⟩:=fC Z;have o:=zm X hq h1 H V (by omega) F
 have G:(vE pk).length=pk.length:=by unfold vE;rw[sQ]
 have h3:pk.length<=24:=by have:=o.next;have:=o.top;omega
 have I:(n.bY i M).cnt i=(n.x i).next:=K;have hM:aZ=4611686018427387903:=rfl;refine⟨sa,_,sc,rfl,n.bY i M,vE pk,bD,G.symm,?_,?_,?_,⟨⟨vb,?_⟩,?_,?_⟩,?_⟩
 ·show n.bP.length+_<=_;omega
 ·rw[I];omega
 ·intro j hj;rw[I];exact Yg o hm (hk M pk F) j hj
 ·rw[Wi];exact hN
 ·rw[NJ o,G];exact Z
 ·exact hK.mono fun x hx=>iK.2 (by rcases zL.1 hx with h|h<;>omega)
 ·intro dx w2 hF;obtain⟨U,H⟩:=hF.nt;rw[Yh i K o]at H;exact⟨M,pk,F,o,dx,U,H.Al fun j k _ _=>nM (Fj F) j k,hF.kp⟩
theorem R5{oZ:Own}{w:World}{a:Ad}{n:Net}{vb:Value}(h:bL oZ w a n vb (ends n))(hp:eY a.aM n)(hb:rR n 0)(i:Nat)(hi:i<2)(G:a.aM<=400)(hl:n.bP.length<=10000000000):
  Calls prog 23 #[ay a.N 0,iZ i] w fun e w'=>e=.returned (.bool true)/\∃M pk,(n.x i).kY M pk/\PkO (n.x i) (n.x (1-i)) M pk/\nL oZ w a (n.KL i M pk) w':=by
 have H:=(hb.1 i hi).1
 have o:=fun{M pk} (F:(n.x i).kY M pk)=>Qw (hp.loc i hi) (hp.two i hi) (hp.two' i hi) (hp.bd i hi) (by omega) F
 refine(BU h i hi (hp.loc i hi).nq (hp.loc i hi).qq (hp.two i hi) (hp.two' i hi) (hp.bd i hi) (hp.mt i hi) (hp.ct i hi) hb G hl (fun M pk F x K f I k=>?_)).mono ?_
 ·have:=(((o F).ok x K).2.2 f I).kd;omega
 ·rintro e w' ⟨rfl,M,pk,F,_,q⟩;exact⟨rfl,M,pk,F,o F,q⟩
section
section
variable {oZ:Own} {w:World} {a:Ad} {n:Net} {vb:Value}
theorem NR(h:bL oZ w a n vb (ends n))(hp:eY a.aM n)(Sd A B:Int)(h0:nN Sd)(hA:nN A)(S:ByteArray):
  Calls prog 22 #[ay a.N 0,.agg #[iZ 2,iZ Sd,iZ A,iZ B,.string S]] w fun e w'=>e=.returned (.bool true)/\nL oZ w a (n.Jp (bX Sd 2) (bX A 8)) w':=by
 obtain⟨i,pi⟩:∃i,i=bX Sd 2:=⟨_,rfl⟩;obtain⟨k,pk⟩:∃k,k=bX A 8:=⟨_,rfl⟩
 have hi:i<2:=by rw[pi];exact fI Sd 2 (by omega)
 have G:k<8:=by rw[pk];exact fI A 8 (by omega)
 rw[<-pi,<-pk];obtain⟨w1,V⟩:∃w1,w1=w.alloc (.cells (nW 2 Sd A B S).toArray 37):=⟨_,rfl⟩
 have O:aD w w1:=by rw[V];exact(Below.refl _ w).alloc (Nat.le_refl _) _
 have Z:=h.loc.below O;have K1:Kp TN (loc oZ w.heap.size) (loc oZ w.heap.size) w w1:=Kp.below O;obtain⟨c0,c1,_⟩:=Z.cells;obtain⟨e1,e2,_⟩:=Z.KJ i k hi G
 have h5:k<(n.x i).outs.length:=by rw[(hp.loc i hi).lo];exact G
 have U:=((hp.loc i hi).wr k).given;obtain⟨o,H⟩:∃o,o=(n.x i).out k:=⟨_,rfl⟩
 have FK:ends n i k=Jl o ((n.x (1-i)).inn k):=by rw[H];rfl
 rw[<-H]at U
 have h3:o.closed=o.fin:=by unfold Ot.closed;rw[U,Bool.or_false]
 refine RV a.N a.xb a.xc a.eb a.ec (a.el i) (a.Fy i) (a.e i k) (a.C i) i k hi G Sd A B h0 hA pi pk S o.fin o.finish.2 w w1
  (fun w2=>NH (loc oZ w.heap.size) w1 a vb (ends n) (T0 (60*(i+1))) (n.Jp i k) w2) (nL oZ w a (n.Jp i k)) V c0 c1 (Z.xs i hi).1 e1 e2 (by rw[H];exact NI Z hp i k hi G) ?_ ?_ ?_ ?_
 ·rintro w2 ⟨K,I,X⟩;have B:=(I.en i k hi G).1;rw[FK]at B;exact⟨B.frozen 1,B.cell 1,B.cell 2⟩
 ·unfold Ot.finish;rw[h3];cases o.fin<;>rfl
 ·rintro F w2 ⟨K,I,X⟩
  have e:o.finish.1=o:=by
   unfold Ot.finish at F ⊢;split
   ·rfl
   ·rename_i h1;rw[if_neg h1]at F;exact absurd rfl F
  have s:Sm (n.x i) ((n.x i).bf k ((n.x i).out k).finish.1):=by rw[<-H,e];exact ku _ _ _ (by rw[H]) (by rw[H])
  have g3:=I.Al (E':=ends (n.Jp i k)) (fun j k' _ _=>nM s j k');exact nL.jm ⟨K,vb,g3,K1.trans (X.mono (pR i hi))⟩
 ·rintro F w2 ⟨K,I,X⟩
  have e:o.finish.1={o with fin:=true}:=by
   unfold Ot.finish at F ⊢;split
   ·rename_i h1;rw[if_pos h1]at F;cases F
   ·rfl
  have oe:=(I.en i k hi G).2
  have g4:=(I.VP i k hi G 1 (.bool true)).Al (E':=ends (n.Jp i k)) (fun i' k' h4 h6=>by
   unfold Net.Jp;rw[BP n i k _ hi h5 i' k' h4,FK,<-H,e]
   rfl)
  exact nL.jm ⟨K,vb,g4,K1.trans ((X.mono (pR i hi)).trans (Kp.set K _ (aj (a.e i k) 1) _ TN (by show K (a.e i k)∈TN;rw[oe];exact iK.2 (by omega))))⟩
end

end
section
section
variable {bQ:Own} {w0 w w':World} {a:Ad} {L:List (Nat×TypeId×aI)} {n:Net}
theorem R6(A:Side):Sm A A.ticks:=⟨fun _=>⟨rfl,rfl⟩,fun _=>⟨rfl,rfl⟩⟩
theorem KR(h:kC bQ w0 a L n w)(i:Nat)(hi:i<2)(ht:(n.x i).tick+1<18446744073709551616)(hq:(n.x i).queue=[])(F:(n.x i).qv=nZ):
  Calls prog 38 #[(ay (a.C i) 0)] w fun e w'=>e=.returned (.tuple #[])/\kC bQ w0 a L (n.bY i (n.x i).ticks) w':=by
 obtain⟨o,vb,h1,I,K,_⟩:=h.ex;refine(VQ h1 i hi ht hq F).mono ?_;rintro e w' ⟨rfl,o',G,H⟩;exact⟨rfl,kC.go I K (G.Al fun j k _ _=>nM (R6 _) j k) (H.mono (pR i hi))⟩
theorem kC.now(h:kC bQ w0 a L n w)(t:Nat):kC bQ w0 a L {n with now:=t} (w.setCell (aj a.N 4) (uZ t)):=by
 obtain⟨o,vb,h1,F,G,_⟩:=h.ex;exact kC.go F G (n':={n with now:=t}) (h1.Yc t) (Kp.set o w _ _ TN (by rw[h1.net.2];exact iK.2 (by omega)))
theorem kC.qbj(h:kC bQ w0 a L n w):w.cell? (aj a.N 4)=some (uZ n.now)/\w.frozen? (aj a.N 4)=false:=by
 obtain⟨o,vb,h1,F,G,_⟩:=h.ex;obtain⟨_,_,_,c4,_⟩:=h1.cells;exact⟨c4,h1.net.1.frozen 4⟩
theorem nL.then{oZ o:Own}{w w1 w2:World}{n:Net}(K:Kp TN oZ o w w1)(h:nL o w1 a n w2):nL oZ w a n w2:=by
 obtain⟨o',vb,h1,F⟩:=h;exact⟨o',vb,h1,K.trans F⟩
theorem R7(h:kC bQ w0 a L n w)(hp:eY a.aM n)(hb:rR n 0)(F:a.aM<=400)(hl:n.bP.length<=1000000000)(K Sd A B:Int)(S:ByteArray)(H:nN A)(hB:nN B):
  Calls prog 39 #[ay a.N 0,.agg #[iZ K,iZ Sd,iZ A,iZ B,.string S]] w fun e w'=>e=.returned (.bool true)/\Hid (∃n',KO a.aM n n'/\(n.bP=[]->n'=n)/\nL bQ w0 a n' w'):=by
 obtain⟨o,vb,h1,G,V,_⟩:=h.ex;refine(RU h1 hp hb F hl K Sd A B S H hB).mono ?_;rintro e w' ⟨rfl,n',I,O,U⟩;exact⟨rfl,n',I,O,U.then G⟩
end

def Net.g_(n:Net):Net:={(n.bY 0 (n.x 0).ticks).bY 1 (n.x 1).ticks with now:=n.now+1}
theorem R8{aM:Nat}{n:Net}(h:eY aM n):eY aM n.g_:=by
 have F:eY aM {n with now:=n.now+1}:=h.sub n.bP (fun _ h=>h) (n.now+1);have h1:=jI F 0 (by omega) (n.x 0).ticks (AL (F.loc 0 (by omega)) (F.two 0 (by omega)) (F.two' 0 (by omega))) (EJ (F.bd 0 (by omega))) rfl rfl;exact jI h1 1 (by omega) (n.x 1).ticks (AL (h1.loc 1 (by omega)) (h1.two 1 (by omega)) (h1.two' 1 (by omega))) (EJ (h1.bd 1 (by omega))) rfl rfl
theorem F9{n:Net}{B:Nat}(h:rR n (B+1)):rR n.g_ B:=⟨fun i hi=>by
 have h1:=h.1 i hi
 have e:(n.g_.x i).next=(n.x i).next/\(n.g_.x i).tick=(n.x i).tick+1:=by
  rcases(show i=0\/i=1 by omega)with rfl|rfl<;>exact⟨rfl,rfl⟩
 rw[e.1,e.2];omega,by have:=h.2;show n.now+1+B<_;omega⟩
section
variable {oZ:Own} {w:World} {a:Ad} {n:Net} {vb:Value}
theorem Wj(h:bL oZ w a n vb (ends n))(hp:eY a.aM n)(hb:rR n 1)(h5:a.aM<=400)(hl:n.bP.length<=1000000000)(Sd A B:Int)(h7:nN Sd)(hA:nN A)(hB:nN B)(S:ByteArray):
  Calls prog 22 #[ay a.N 0,.agg #[iZ 5,iZ Sd,iZ A,iZ B,.string S]] w fun e w'=>e=.returned (.bool true)/\∃n',KO a.aM n.g_ n'/\(n.bP=[]->n'=n.g_)/\nL oZ w a n' w':=by
 obtain⟨i,p1⟩:∃i,bX Sd 2=i:=⟨_,rfl⟩
 have hi:i<2:=by rw[<-p1];exact fI Sd 2 (by omega)
 have hk:bX A 8<8:=fI A 8 (by omega);have G:=(BO h).alloc 37 (nW 5 Sd A B S);obtain⟨w1,H⟩:∃w1,w1=w.alloc (.cells (nW 5 Sd A B S).toArray 37):=⟨_,rfl⟩;rw[<-H]at G;have b0:=G.cell (.head _) 0;have b1:=G.cell (.head _) 1;have b2:=G.cell (.head _) 2;obtain⟨c0,x1⟩:=G.xc i hi;simp only[nW,nI,mR]at b0 b1 b2;obtain⟨c4,z4⟩:=G.qbj;have h0:=hb.1 0 (by omega);have h2:=hb.1 1 (by omega);have h8:=hb.2;have O:=G.now (n.now+1);obtain⟨w2,I⟩:∃w2,w2=w1.setCell (aj a.N 4) (uZ ((n.now+1:Nat):Int)):=⟨_,rfl⟩;rw[<-I]at O;obtain⟨d0,y0⟩:=O.xc 0 (by omega);have K:=au (KR O 0 (by omega) (by show(n.x 0).tick+1<_;omega) (hp.loc 0 (by omega)).q (hp.loc 0 (by omega)).qn)
 have Z:Hid (∀U,kC (loc oZ w.heap.size) w a [(w.heap.size,37,nW 5 Sd A B S)] (Net.bY {n with now:=n.now+1} 0 (n.x 0).ticks) U->Calls prog 38 #[(ay (a.C 1) 0)] U fun e w'=>e=.returned (.tuple #[])/\kC (loc oZ w.heap.size) w a [(w.heap.size,37,nW 5 Sd A B S)] n.g_ w'):=
  fun U h3=>KR h3 1 (by omega) (by show(n.x 1).tick+1<_;omega) (hp.loc 1 (by omega)).q (hp.loc 1 (by omega)).qn
 have HC:Hid (∀V,kC (loc oZ w.heap.size) w a [(w.heap.size,37,nW 5 Sd A B S)] n.g_ V->Calls prog 39 #[ay a.N 0,.agg #[iZ 5,iZ Sd,iZ A,iZ B,.string S]] V fun e w'=>e=.returned (.bool true)/\Hid (∃n',KO a.aM n.g_ n'/\(n.bP=[]->n'=n.g_)/\nL oZ w a n' w')):=fun V h4=>by
  refine(R7 h4 (R8 hp) (F9 hb) h5 hl 5 Sd A B S hA hB).mono ?_;rintro e w' ⟨rfl,n',q1,q2,q3⟩;exact⟨rfl,n',q1,q2,q3.jm⟩
 have FJ:w.alloc (.cells #[iZ 5,iZ Sd,iZ A,iZ B,.string S] 37)=w1:=H.symm;have ha:w1.setCell (aj a.N 4) (uZ ((n.now:Int)+1))=w2:=I.symm
 have h9:(i:Int)<2:=by omega
 clear H I h hp hb G O h0 h2;go_enter func22,ntmps22
 go_wp2_with (first
  |(go_at_call 32;refine(iH _ _ (by assumption) (by decide) _).mono ?_;rintro ee V ⟨rfl,h6⟩;subst h6)
  |(go_at_call 38;refine K.out.mono ?_;rintro ee U ⟨rfl,F⟩;clear K;have HQ:=au F;obtain⟨d1,y1⟩:=F.xc 1 (by omega);clear F)
  |(go_at_call 38;refine(Z.out _ HQ.out).mono ?_;rintro ee w5 ⟨rfl,F⟩;have X:=au F;have s0:=F.cell (.head _) 0;have s1:=F.cell (.head _) 1;have s2:=F.cell (.head _) 2;have s3:=F.cell (.head _) 3;have s4:=F.cell (.head _) 4;simp only[nW,nI,mR]at s0 s1 s2 s3 s4;clear F)
  |(go_at_call 39;refine(HC.out _ X.out).mono ?_;rintro ee w6 ⟨rfl,F⟩))
 go_ret;exact⟨rfl,F.out⟩
end

end
section
def FlR:Nat->Net->Net->Prop
 |0,n,n'=>n'=n
 |i+1,n,n'=>∃n1,FlR i n n1/\∃M pk,(n1.x i).kY M pk/\n'=n1.KL i M pk
def CmR(l:List (Nat×Nat×List Fr)):Nat->Net->Net->Prop
 |0,n,n'=>n'=n
 |j+1,n,n'=>∃n1,CmR l j n n1/\(∀f∈(l.getD j (0,0,[])).2.2,f.kind≠3)/\∃M,(n1.x (l.getD j (0,0,[])).1).iQ (l.getD j (0,0,[])).2.1 (l.getD j (0,0,[])).2.2 M 0/\n'=n1.bY (l.getD j (0,0,[])).1 M
def Wl(n:Net)(i k:Nat):Net:=n.bY i ((n.x i).dA k (((n.x i).inn k).rd (4096:Nat)).2)
def Oi:Nat->Net->Net->Prop
 |0,n,n'=>n'=n
 |c+1,n,n'=>∃n1,Oi c n n1/\RdK ((n1.x (1-c / 8)).out (c % 8)) ((n1.x (c / 8)).inn (c % 8)) 4096/\n'=Wl n1 (c / 8) (c % 8)
def RoR(n n':Net):Prop:=∃n2,FlR 2 n.g_ n2/\∃n3,CmR n2.bP n2.bP.length {n2 with bP:=[]} n3/\Oi 16 n3 n'
def DK:Nat->Net->Net->Prop
 |0,n,n'=>n'=n
 |t+1,n,n'=>∃n1,DK t n n1/\RoR n1 n'
structure BX (bQ:Own) (w0:World) (a:Ad) (l:List (Nat×Nat×List Fr)) (vl:Value) (B:Nat) (n:Net) (w:World):Prop where
 ex:∃o vb,bL o w a n vb (ends n)/\Kp TN bQ o w0 w/\GT o 204 62 2 w vl l.length (gI l)
 p:eY a.aM {n with bP:=l}
 nb:rR n B
 b0:n.bP=[]
section
variable {bQ:Own} {w0 w w':World} {a:Ad} {l:List (Nat×Nat×List Fr)} {vl:Value} {n:Net} {B:Nat}
theorem BX.below(h:BX bQ w0 a l vl B n w)(hb:aD w w'):BX bQ w0 a l vl B n w':=by
 obtain⟨o,vb,h1,F,G⟩:=h.ex;exact⟨⟨o,vb,h1.below hb,F.trans (Kp.below hb),G.kp (Kp.below (T:=[]) hb) (by simp)⟩,h.p,h.nb,h.b0⟩
theorem BX.xc(h:BX bQ w0 a l vl B n w)(i:Nat)(hi:i<2):w.cell? (aj a.N 0)=some (aS a.xb 2 a.xc)/\w.cell? (aj a.xb i)=some (ay (a.C i) 0):=by
 obtain⟨o,vb,h1,F,G⟩:=h.ex;exact⟨h1.cells.1,(h1.xs i hi).1⟩
theorem R9{oZ:Own}(h:GT oZ 204 62 2 w vl l.length (gI l))(k:Nat)(H:k<l.length):∃g c,vl=(aS g l.length c)/\w.cell? (aj g (k*2))=some (iZ ((l.getD k (0,0,[])).1:Int))/\w.cell? (aj g (k*2+1))=some (sV (aK (l.getD k (0,0,[])).2.1 (l.getD k (0,0,[])).2.2)):=by
 rcases h with⟨_,e,_⟩|⟨g,cap,cs,ev,ho,hB,hc1,hc2,hc3,hc4,Fp,_⟩
 ·omega
 have hd:(gI l).drop (k*2)=gI (l.drop k):=(qx l k).symm
 have G:l.drop k=l.getD k (0,0,[])::l.drop (k+1):=by
  rw[List.drop_eq_getElem_cons H,fA,fB H];rfl
 have F:∀j v,j<l.length*2->(gI l)[j]?=some v->w.cell? (aj g j)=some v:=fun j v K I=>by
  rw[hB.cell];rw[<-Fp,List.getElem?_take,if_pos K]at I;exact I
 refine⟨g,cap,ev,F _ _ (by omega) ?_,F _ _ (by omega) ?_⟩
 ·have:((gI l).drop (k*2))[0]?=(gI l)[k*2]?:=by rw[tL];rfl
  rw[<-this,hd,G];rfl
 ·have:((gI l).drop (k*2))[1]?=(gI l)[k*2+1]?:=by rw[tL]
  rw[<-this,hd,G];rfl
theorem BX.at(h:BX bQ w0 a l vl B n w)(k:Nat)(G:k<l.length):∃g c,vl=(aS g l.length c)/\w.cell? (aj g (k*2))=some (iZ ((l.getD k (0,0,[])).1:Int))/\w.cell? (aj g (k*2+1))=some (sV (aK (l.getD k (0,0,[])).2.1 (l.getD k (0,0,[])).2.2)):=by
 obtain⟨o,vb,h1,H,F⟩:=h.ex;exact R9 F k G
theorem BX.mem(h:BX bQ w0 a l vl B n w)(k:Nat)(F:k<l.length):(l.getD k (0,0,[])).1<2/\Fq a.aM (n.x (1-(l.getD k (0,0,[])).1)) (n.x (l.getD k (0,0,[])).1) (l.getD k (0,0,[])).2:=
 h.p.bP (l.getD k (0,0,[])) (by rw[fA,fB F];exact List.getElem_mem _)
theorem Wm(h:BX bQ w0 a l vl B n w)(K:a.aM<=400)(k:Nat)(hk:k<l.length):
  Calls prog 29 #[.pointer (some ⟨a.C (l.getD k (0,0,[])).1,0,none⟩),sV (aK (l.getD k (0,0,[])).2.1 (l.getD k (0,0,[])).2.2)] w fun e w'=>e=.returned (.tuple #[iZ 0,(iZ (-1))])/\∃M,(n.x (l.getD k (0,0,[])).1).iQ (l.getD k (0,0,[])).2.1 (l.getD k (0,0,[])).2.2 M 0/\(∀f∈(l.getD k (0,0,[])).2.2,f.kind≠3)/\BX bQ w0 a l vl B (n.bY (l.getD k (0,0,[])).1 M) w':=by
 obtain⟨o,vb,h1,X,Z⟩:=h.ex;obtain⟨hi,G⟩:=h.mem k hk;generalize l.getD k (0,0,[])=y at *
 have F:eY a.aM n:=by
  have:=h.p.sub [] (fun y G=>by cases G) n.now
  have e:n={n with bP:=[]}:=by
   have:=h.b0;cases n;simp_all
  rw[e];exact this
 have H:∀f∈y.2.2,f.kind≠3:=fun f hf=>by rcases(G.fr f hf).kd with e|e|e|e<;>omega
 refine(KH h1 F h.nb.to y.1 hi y.2 G K).mono ?_;rintro e w' ⟨rfl,O,I,o',V,U⟩;have s:=zI H I;have h0:=(h.nb.1 (1-y.1) (by omega)).1;obtain⟨_,st,b,nx,mt⟩:=EI (F.loc y.1 hi) (F.loc (1-y.1) (by omega)) (F.two y.1 hi) (F.two' y.1 hi) (F.bd y.1 hi) (F.bd (1-y.1) (by omega)) y.2.1 y.2.2 G.lt (by omega) G.fr I;exact⟨rfl,O,I,H,⟨o',vb,V.Al fun j k _ _=>nM s j k,X.trans (U.mono (pR y.1 hi)),Z.kp U (fun e=>by have:=bN.1 e;omega)⟩,jI h.p y.1 hi O st b mt nx,h.nb.bY y.1 nx (EZ I),h.b0⟩
theorem Wn(h:BX bQ w0 a l vl B n w)(i:Nat)(hi:i<2):
  Calls prog 30 #[ay a.N 0,iZ i] w fun e w'=>e=.returned (.bool true)/\BX bQ w0 a l vl B n w':=by
 obtain⟨o,vb,h1,H,I⟩:=h.ex;refine(KI h1 i hi).mono ?_;rintro e w' ⟨rfl,o',G,F⟩;exact⟨rfl,⟨o',vb,G,H.trans (F.mono (pR i hi)),I.kp F (fun e=>by have:=bN.1 e;omega)⟩,h.p,h.nb,h.b0⟩
end

end
section
def Fs(oZ:Own)(w:World)(a:Ad)(B:Nat)(P:Net->Prop)(w':World):Prop:=∃n,P n/\eY a.aM n/\rR n B/\nL oZ w a n w'
section
variable {oZ:Own} {w wr:World} {a:Ad} {B:Nat} {P Q:Net->Prop}
theorem Fs.imp(h:Fs oZ w a B P wr)(hi:∀n,P n->Q n):Fs oZ w a B Q wr:=by
 obtain⟨n,p,q⟩:=h;exact⟨n,hi n p,q⟩
theorem Wo(h:Fs oZ w a (B+1) P wr)(G:a.aM<=400)(I:∀n,P n->n.bP=[]):
  Calls prog 22 #[ay a.N 0,.agg #[iZ 5,iZ 0,iZ 0,iZ 0,.string ⟨#[]⟩]] wr fun e w'=>e=.returned (.bool true)/\Hid (Fs oZ w a B (fun n'=>∃n,P n/\n'=n.g_) w'):=by
 obtain⟨n,p,hp,hb,o,vb,O,K⟩:=h
 have H:nN 0:=by unfold nN;omega
 have F:=I n p;refine(Wj O hp ⟨fun i hi=>by have:=hb.1 i hi;omega,by have:=hb.2;omega⟩ G (by rw[F];simp) 0 0 0 H H H ⟨#[]⟩).mono ?_;rintro e w' ⟨rfl,n',U,V,X⟩;obtain rfl:=V F;exact⟨rfl,n.g_,⟨n,p,rfl⟩,U.p,F9 hb,X.then K⟩
theorem R_(h:Fs oZ w a (B+1) P wr)(G:a.aM<=400)(i:Nat)(hi:i<2)(I:∀n,P n->n.bP.length<=1000):
  Calls prog 23 #[ay a.N 0,iZ i] wr fun e w'=>e=.returned (.bool true)/\Hid (Fs oZ w a B (fun n'=>∃n,P n/\∃M pk,(n.x i).kY M pk/\n'=n.KL i M pk/\n'.bP.length<=n.bP.length+24) w'):=by
 obtain⟨n,p,hp,hb,o,vb,O,K⟩:=h;have U:=I n p;refine(R5 O hp hb.to i hi G (by omega)).mono ?_;rintro e w' ⟨rfl,M,pk,H,F,V⟩;refine⟨rfl,n.KL i M pk,⟨n,p,M,pk,H,rfl,?_⟩,Ye hp i hi F,Yf hb i F (QB H),V.then K⟩;show(n.bP++(vE pk).map _).length<=_;rw[List.length_append,sQ];unfold vE;rw[sQ];have:=F.next;have:=F.top;omega
theorem Wp(h:Fs oZ w a B P wr)(i k:Nat)(hi:i<2)(G:k<8):
  Calls prog 31 #[ay a.N 0,iZ i,iZ k,iZ 4096] wr fun e w'=>e=.returned (.bool true)/\Hid (Fs oZ w a B (fun n'=>∃n,P n/\RdK ((n.x (1-i)).out k) ((n.x i).inn k) 4096/\n'=Wl n i k) w'):=by
 obtain⟨n,p,hp,hb,o,vb,F,K⟩:=h;refine(VW F hp i k 4096 hi G (by omega)).mono ?_;rintro e w' ⟨rfl,H⟩;exact⟨rfl,_,⟨n,p,RO ((hp.two' i hi).rd k) 4096,rfl⟩,jI hp _ hi _ (OE (hp.loc _ hi) (hp.two _ hi) (hp.two' _ hi) _ _) (UA (hp.bd _ hi) _ _) rfl rfl,hb.bY _ rfl rfl,H.then K⟩
theorem Sb(h:Fs oZ w a B P wr):∃G n0 c0,wr.cell? (aj a.N 8)=some (.slice G n0 c0)/\wr.frozen? (aj a.N 8)=false/\Hid (∃n,P n/\n0=n.bP.length/\BX oZ w a n.bP (.slice G n0 c0) B {n with bP:=[]} (wr.setCell (aj a.N 8) nZ)):=by
 obtain⟨n,p,hp,hb,o,vb,F,K⟩:=h;obtain⟨_,_,_,_,_,c8,_⟩:=F.cells;obtain⟨G,c0,rfl⟩:=fC F.bg;have H:Kp [200] o o wr (wr.setCell (aj a.N 8) nZ):=Kp.set o wr _ _ _ (by rw[F.net.2];simp);exact⟨G,_,c0,c8,F.net.1.frozen 8,n,p,rfl,⟨o,_,F.RJ [] (.inl ⟨rfl,rfl,rfl⟩),K.trans (H.mono fun x I=>iK.2 (by simp at I;omega)),F.bg.kp H (by simp)⟩,hp,hb,rfl⟩
theorem BX.fs{l:List (Nat×Nat×List Fr)}{vl:Value}{n:Net}(h:BX oZ w a l vl B n wr)(p:P n):Fs oZ w a B P wr:=by
 obtain⟨o,vb,h1,G,I⟩:=h.ex
 have F:eY a.aM n:=by
  have:=h.p.sub [] (fun y H=>by cases H) n.now
  have e:n={n with bP:=[]}:=by
   have:=h.b0;cases n;simp_all
  rw[e];exact this
 exact⟨n,p,F,h.nb,o,vb,h1,G⟩
end

theorem Sc(c i j:Nat)(h1:c / 8=i)(F:c % 8=j){n3 n4:Net}(h:Oi c n3 n4)(p:RdK ((n4.x (1-i)).out j) ((n4.x i).inn j) 4096):Oi (c+1) n3 (Wl n4 i j):=by
 subst h1 F;exact⟨n4,h,p,rfl⟩
def RoC(n n3:Net):Prop:=∃n2,FlR 2 n.g_ n2/\CmR n2.bP n2.bP.length {n2 with bP:=[]} n3
theorem Ws{oZ:Own}{w:World}{a:Ad}{n:Net}{vb:Value}(h:bL oZ w a n vb (ends n))(hp:eY a.aM n)(T:Nat)(hT:T<=1000000)(hb:rR n (3*T))(h3:a.aM<=400):
  Calls prog 18 #[ay a.N 0,iZ T] w fun e w'=>e=.returned (.bool true)/\Fs oZ w a 0 (DK T {n with bP:=[]}) w':=by
 have I:Hid (Fs oZ w a (3*T) (fun n'=>n'=n) w):=⟨n,rfl,hp,hb,oZ,vb,h,Kp.refl _ _ _⟩;obtain⟨a0,n0,c0,c8,z8,hD⟩:=Sb I.out;obtain⟨w1,hx⟩:∃w1,w.setCell (aj a.N 8) nZ=w1:=⟨_,rfl⟩;rw[hx]at hD
 have H0:Hid (Fs oZ w a (3*(T-0)) (fun n'=>DK 0 {n with bP:=[]} n'/\n'.bP=[]) w1):=by
  obtain⟨n1,rfl,_,h1⟩:=hD.out;exact h1.fs ⟨rfl,rfl⟩
 clear h hp hb I hD;go_enter func18,ntmps18;go_wp2
 go_loopw [5] (fun s5 wr=>∃t:Nat,t<=T/\s5=(iZ t)/\Hid (Fs oZ w a (3*(T-t)) (fun n'=>DK t {n with bP:=[]} n'/\n'.bP=[]) wr)) (fun s5 _=>T-(intOf s5).toNat)
 case atStart=>exact⟨0,Nat.zero_le _,rfl,H0⟩
 case round=>
  obtain⟨t,ht,rfl,F⟩:=hrel;clear H0 c8 z8 hx
  by_cases xi:t<T
  ·have x8:(t:Int)<(T:Int):=by omega
   obtain⟨B,hB⟩:∃B,B=3*(T-(t+1)):=⟨_,rfl⟩;have HB:=au hB
   have e3:3*(T-t)=B+2+1:=by omega
   have U:=au (Wo (P:=fun n'=>DK t {n with bP:=[]} n'/\n'.bP=[]) (by have:=F.out;rw[e3]at this;exact this) h3 (fun n h=>h.2));clear F e3 hB
   go_wp2_with (go_at_call 22;refine U.out.mono ?_;rintro e w2 ⟨rfl,V⟩)
   clear U
   have hc:Hid (Fs oZ w a (B+2-0) (fun n'=>∃n1,DK t {n with bP:=[]} n1/\FlR 0 n1.g_ n'/\n'.bP.length<=24*0) w2):=V.out.imp (by
    rintro n' ⟨n1,⟨p1,p2⟩,rfl⟩
    exact⟨n1,p1,rfl,by show n1.bP.length<=_;rw[p2];simp⟩)
   clear V
   go_loopw [6,7] (fun s6 s7 wr=>s6=.bool true/\∃i:Nat,i<=2/\s7=(iZ i)/\Hid (Fs oZ w a (B+2-i) (fun n'=>∃n1,DK t {n with bP:=[]} n1/\FlR i n1.g_ n'/\n'.bP.length<=24*i) wr)) (fun _ s7 _=>2-(intOf s7).toNat)
   case atStart=>exact⟨rfl,0,by omega,rfl,hc⟩
   case round=>
    obtain⟨rfl,i,hi,rfl,F⟩:=hrel;clear hc
    by_cases Tt:i<2
    ·have Yb:(i:Int)<2:=by omega
     have e2:B+2-i=B+2-(i+1)+1:=by omega
     have U:=au (R_ (P:=fun n'=>∃n1,DK t {n with bP:=[]} n1/\FlR i n1.g_ n'/\n'.bP.length<=24*i) (by have:=F.out;rw[e2]at this;exact this) h3 i Tt (fun n h=>by obtain⟨_,_,_,q⟩:=h;omega));clear F e2
     go_wp2_with (go_at_call 23;refine U.out.mono ?_;rintro e w2 ⟨rfl,V⟩)
     clear U
     have I:Hid (Fs oZ w a (B+2-(i+1)) (fun n'=>∃n1,DK t {n with bP:=[]} n1/\FlR (i+1) n1.g_ n'/\n'.bP.length<=24*(i+1)) w2):=V.out.imp (by
      rintro n' ⟨n2,⟨n1,p1,p2,p3⟩,M,pk,p4,p5,p6⟩
      exact⟨n1,p1,⟨n2,p2,M,pk,p4,p5⟩,by omega⟩)
     clear V;go_roundw
     case rel=>exact⟨rfl,i+1,by omega,by simp,I⟩
     case measure=>simp[intOf];omega
    ·obtain rfl:i=2:=by omega
     obtain⟨a0,n0,c0,c8,z8,hD⟩:=Sb F.out;obtain⟨w3,x3⟩:∃w3,wr.setCell (aj a.N 8) nZ=w3:=⟨_,rfl⟩;rw[x3,show B+2-2=B by omega]at hD;obtain⟨n2,⟨n1,p1,p2,p3⟩,hv,hu⟩:=hD.out;have rP:=au (And.intro p1 p2);have hf:=au hv
     have xj:n0<=48:=by omega
     have ha:Hid (∃n3,CmR n2.bP 0 {n2 with bP:=[]} n3/\BX oZ w a n2.bP (.slice a0 n0 c0) B n3 w3):=⟨_,rfl,hu⟩;clear hD p1 p2 p3 hv hu F;simp only[show((2:Nat):Int)=2 from rfl];go_wp2;clear c8 z8 x3
     go_loopw [6,10] (fun s6 h7 wr=>s6=.bool true/\∃k:Nat,k<=n0/\h7=(iZ k)/\Hid (∃n3,CmR n2.bP k {n2 with bP:=[]} n3/\BX oZ w a n2.bP (.slice a0 n0 c0) B n3 wr)) (fun _ h7 _=>n0-(intOf h7).toNat)
     case atStart=>exact⟨rfl,0,Nat.zero_le _,rfl,ha⟩
     case round=>
      obtain⟨rfl,k,hk,rfl,F⟩:=hrel;clear ha
      by_cases xf:k<n0
      ·have ZO:(k:Int)<(n0:Int):=by omega
       obtain⟨n3,q1,Z⟩:=F.out
       have O:k<n2.bP.length:=by have:=hf.out;omega
       obtain⟨g,cg,ev,d0,d1⟩:=Z.at k O;obtain⟨G,x4⟩:=Z.mem k O
       have h4:=fun w' hb=>Wm (Z.below (w':=w') hb) h3 k O
       obtain⟨y,X⟩:∃y,y=n2.bP.getD k (0,0,[]):=⟨_,rfl⟩;simp only[Value.slice.injEq]at ev;obtain⟨rfl,hz,rfl⟩:=ev;clear hz;obtain⟨i,H⟩:∃i,i=y.1:=⟨_,rfl⟩;obtain⟨D,K⟩:∃D:ByteArray,D=⟨(aK y.2.1 y.2.2).toArray⟩:=⟨_,rfl⟩;unfold sV at d1 h4;rw[<-X]at d0 d1 G x4;rw[<-H]at d0 G;rw[<-K]at d1;obtain⟨x0,x1⟩:=Z.xc i G
       have hm:Hid (Calls prog 29 #[(ay (a.C i) 0),.string D] wr.drew fun e w5=>e=.returned (.tuple #[iZ 0,(iZ (-1))])/\(w5.cell? (aj a.N 0)=some (aS a.xb 2 a.xc)/\w5.cell? (aj a.xb i)=some (ay (a.C i) 0)/\w5.cell? (aj g (k*2))=some (iZ i)/\w5.cell? (aj g (k*2+1))=some (.string D))/\Hid (∃n4,CmR n2.bP (k+1) {n2 with bP:=[]} n4/\BX oZ w a n2.bP (aS g n0 c0) B n4 w5)):=by
        have h5:=h4 wr.drew ⟨rfl,rfl,rfl,Nat.le_refl _,fun _ _=>rfl⟩;rw[<-X,<-H,<-K]at h5;refine h5.mono ?_;rintro e w5 ⟨rfl,M,r1,r2,r3⟩;obtain⟨g',x9,hr,ho,h0⟩:=r3.at k O;simp only[Value.slice.injEq,Option.some.injEq,Addr.mk.injEq]at hr;obtain⟨⟨rfl,_,_⟩,_,_⟩:=hr;unfold sV at h0;rw[<-X,<-H]at ho;rw[<-X,<-K]at h0;refine⟨rfl,⟨(r3.xc i G).1,(r3.xc i G).2,ho,h0⟩,_,⟨n3,q1,?_,M,?_,rfl⟩,?_⟩
        ·rw[<-X];exact r2
        ·rw[<-X,<-H];exact r1
        ·rw[<-X,<-H];exact r3
       have xa:(0:Int)<=(i:Int):=by omega
       have xd:(i:Int)<2:=by omega
       have xe:(0:Int)<=(k:Int):=by omega
       clear h4 X H K x4 q1 Z F;go_wp2
       go_region_held3 (fun y=>y.cell? (aj a.N 0)=some (aS a.xb 2 a.xc)/\y.cell? (aj a.xb i)=some (ay (a.C i) 0)/\y.cell? (aj g (k*2))=some (iZ i)/\y.cell? (aj g (k*2+1))=some (.string D)) (first|assumption|go_keep) ((first|(go_at_call 29;refine hm.out.mono ?_;rintro e w5 ⟨rfl,x6,hw⟩)))
       obtain⟨_,_,s0,_⟩:=x6
       have x5:Hid (Calls prog 30 #[ay a.N 0,iZ i] w5 fun e w6=>e=.returned (.bool true)/\Hid (∃n4,CmR n2.bP (k+1) {n2 with bP:=[]} n4/\BX oZ w a n2.bP (aS g n0 c0) B n4 w6)):=by
        obtain⟨n4,r1,r2⟩:=hw.out;refine(Wn r2 i G).mono ?_;rintro e w6 ⟨rfl,r3⟩;exact⟨rfl,n4,r1,r3⟩
       clear hw d0 d1 x0 x1 hm
       go_wp2_with (go_at_call 30;refine x5.out.mono ?_;rintro e w6 ⟨rfl,h6⟩)
       go_roundw
       case rel=>exact⟨rfl,k+1,by omega,by simp,h6⟩
       case measure=>simp[intOf];omega
      ·obtain rfl:k=n0:=by omega
       have hg:Hid (Fs oZ w a B (fun n'=>∃n1 n3,DK t {n with bP:=[]} n1/\RoC n1 n3/\Oi (8*0) n3 n'/\n'.bP=[]) wr):=by
        obtain⟨n3,q1,Z⟩:=F.out;have hn:=hf.out;rw[hn]at q1;exact Z.fs ⟨n1,n3,rP.out.1,⟨n2,rP.out.2,q1⟩,rfl,Z.b0⟩
       clear F;go_wp2
       go_loopw [6,14] (fun s6 h8 wr=>s6=.bool true/\∃i:Nat,i<=2/\h8=(iZ i)/\Hid (Fs oZ w a B (fun n'=>∃n1 n3,DK t {n with bP:=[]} n1/\RoC n1 n3/\Oi (8*i) n3 n'/\n'.bP=[]) wr)) (fun _ h8 _=>2-(intOf h8).toNat)
       case atStart=>exact⟨rfl,0,by omega,rfl,hg⟩
       case round=>
        obtain⟨rfl,i,hi,rfl,F⟩:=hrel;clear hg
        by_cases Tt:i<2
        ·have Yb:(i:Int)<2:=by omega
         have he:Hid (Fs oZ w a B (fun n'=>∃n1 n3,DK t {n with bP:=[]} n1/\RoC n1 n3/\Oi (8*i+0) n3 n'/\n'.bP=[]) wr):=F.out;clear F;go_wp2
         go_loopw [6,15] (fun s6 h9 wr=>s6=.bool true/\∃k:Nat,k<=8/\h9=(iZ k)/\Hid (Fs oZ w a B (fun n'=>∃n1 n3,DK t {n with bP:=[]} n1/\RoC n1 n3/\Oi (8*i+k) n3 n'/\n'.bP=[]) wr)) (fun _ h9 _=>8-(intOf h9).toNat)
         case atStart=>exact⟨rfl,0,by omega,rfl,he⟩
         case round=>
          obtain⟨rfl,j,hj,rfl,F⟩:=hrel;clear he
          by_cases x7:j<8
          ·have xl:(j:Int)<8:=by omega
           have U:=au (Wp F.out i j Tt x7);clear F
           go_wp2_with (go_at_call 31;refine U.out.mono ?_;rintro e w2 ⟨rfl,V⟩)
           clear U
           have I:Hid (Fs oZ w a B (fun n'=>∃n1 n3,DK t {n with bP:=[]} n1/\RoC n1 n3/\Oi (8*i+(j+1)) n3 n'/\n'.bP=[]) w2):=V.out.imp (by
            rintro n' ⟨n4,⟨n1,n3,p1,p2,p3,p4⟩,p5,rfl⟩
            exact⟨n1,n3,p1,p2,Sc (8*i+j) i j (by omega) (by omega) p3 p5,p4⟩)
           clear V;go_roundw
           case rel=>exact⟨rfl,j+1,by omega,by simp,I⟩
           case measure=>simp[intOf];omega
          ·obtain rfl:j=8:=by omega
           have I:Hid (Fs oZ w a B (fun n'=>∃n1 n3,DK t {n with bP:=[]} n1/\RoC n1 n3/\Oi (8*(i+1)) n3 n'/\n'.bP=[]) wr):=F.out;clear F;go_wp2;go_roundw
           case rel=>exact⟨rfl,i+1,by omega,by simp,I⟩
           case measure=>simp[intOf];omega
        ·obtain rfl:i=2:=by omega
         have I:Hid (Fs oZ w a (3*(T-(t+1))) (fun n'=>DK (t+1) {n with bP:=[]} n'/\n'.bP=[]) wr):=by
          rw[<-HB.out]
          exact F.out.imp (by
           rintro n' ⟨n1,n3,p1,⟨n2,p2,p5⟩,p3,p4⟩
           exact⟨⟨n1,p1,n2,p2,n3,p5,p3⟩,p4⟩)
         clear F;go_wp2;go_roundw
         case rel=>exact⟨t+1,by omega,by simp,I⟩
         case measure=>simp[intOf];omega
  ·obtain rfl:t=T:=by omega
   have HE:Hid (Fs oZ w a 0 (DK t {n with bP:=[]}) wr):=by
    have:=F.out;rw[Nat.sub_self]at this
    exact this.imp fun n h=>h.1
   go_wp2;go_ret;exact⟨rfl,HE.out⟩
end
def Wd(n:Net):Prop:=((n.x 1).inn 3).read=22/\((n.x 1).inn 3).state=1
theorem KS{n:Net}(h:Wd n)(i:Nat){M:Side}(s:Sm (n.x i) M):Wd (n.bY i M):=by
 unfold Wd
 by_cases e:(1:Nat)=i
 ·subst e;rw[b_,(s.i 3).1,(s.i 3).2];exact h
 ·rw[eU _ _ _ _ e];exact h
theorem Sq:∀(i:Nat) {n n':Net},Wd n->FlR i n n'->Wd n'
 |0,n,n',h,e=>by cases e;exact h
 |i+1,n,n',h,e=>by
  obtain⟨n1,e,M,pk,r,rfl⟩:=e;have:=KS (Sq i h e) i (Fj r);exact this
theorem Sr(l:List (Nat×Nat×List Fr)):∀(j:Nat) {n n':Net},Wd n->CmR l j n n'->Wd n'
 |0,n,n',h,e=>by cases e;exact h
 |j+1,n,n',h,e=>by
  obtain⟨n1,e,F,M,r,rfl⟩:=e;exact KS (Sr l j h e) _ (zI F r)
theorem Sv{n:Net}(h:Wd n)(i k:Nat)(p:RdK ((n.x (1-i)).out k) ((n.x i).inn k) 4096):Wd (Wl n i k):=by
 unfold Wd Wl
 by_cases e:(1:Nat)=i
 ·subst e;rw[b_,gL];split
  ·rename_i K
   have G:k=3:=by omega
   subst G;obtain⟨H,I⟩:=p.s0 (by rw[h.2];omega);have F:=p.nx;rw[H]at F;exact⟨by rw[F];exact h.1,by rw[I];exact h.2⟩
  ·exact h
 ·rw[eU _ _ _ _ e];exact h
theorem Sw:∀(c:Nat) {n n':Net},Wd n->Oi c n n'->Wd n'
 |0,n,n',h,e=>by cases e;exact h
 |c+1,n,n',h,e=>by
  obtain⟨n1,e,p,rfl⟩:=e;exact Sv (Sw c h e) _ _ p
theorem Yz{n n':Net}(h:Wd n)(r:RoR n n'):Wd n':=by
 obtain⟨n2,G,n3,H,I⟩:=r;have h1:Wd n.g_:=h;have F:Wd n2:=Sq 2 h1 G;exact Sw 16 (Sr _ _ (show Wd {n2 with bP:=[]}from F) H) I
theorem W_(I:bU):∀(c:Nat) {n n':Net},(n.x 1).inn 3=I->(n.x 1).ins.length=8->Oi c n n'->(n'.x 1).ins.length=8/\(c<=11->(n'.x 1).inn 3=I)/\(11<c->((I.rd (4096:Nat)).2.read=22/\(I.rd (4096:Nat)).2.state=1)->Wd n')
 |0,n,n',h,hl,e=>by cases e;exact⟨hl,fun _=>h,fun h=>by omega⟩
 |c+1,n,n',h,hl,e=>by
  obtain⟨n1,e,p,rfl⟩:=e;obtain⟨H,K,U⟩:=W_ I c h hl e;refine⟨?_,fun O=>?_,fun O G=>?_⟩
  ·unfold Wl
   by_cases F:(1:Nat)=c / 8
   ·rw[<-F,b_];show(md _ _ _).length=8;rw[eX];exact H
   ·rw[eU _ _ _ _ F];exact H
  ·have:=K (by omega);unfold Wl
   by_cases F:(1:Nat)=c / 8
   ·rw[<-F,b_,gL,if_neg (by omega)];exact this
   ·rw[eU _ _ _ _ F];exact this
  ·by_cases e:c=11
   ·subst e;have:=K (by omega);show Wd (Wl n1 1 3);unfold Wd Wl;rw[b_,gL,if_pos ⟨rfl,by omega⟩,this];exact G
   ·exact Sv (U (by omega) G) _ _ p
theorem BZ{M M':Side}{pk:List (Nat×List Fr)}(h1:M.aF=[])(I:M.answer=false)(h:M.kY M' pk):dJ 14 {M with answer:=false} [] q0 []=(M',pk):=by
 obtain⟨F,hl,e⟩:=h;unfold Side.iG at hl;rw[h1]at hl;have G:F=M:=hl;subst G
 have H:lf F=[]:=by unfold lf;rw[I];rfl
 rw[H]at e;exact e
def wS:ByteArray:=⟨#[115,111,109,101,32,98,121,116,101,115,32,111,102,32,97,32,115,116,114,101,97,109]⟩
def wN:Net:=((Net.new 64 116 116).jJ 0 3 wS).Jp 0 3
def wA:Side×List (Nat×List Fr):=dJ 14 {(wN.g_.x 0)with answer:=false} [] q0 []
def wB:Side×List (Nat×List Fr):=dJ 14 {(wN.g_.x 1)with answer:=false} [] q0 []
def wF:Fr:=⟨4,3,0,0,0,true,0,0,wS,[]⟩
def wC:Side:={wB.1 with came:=wB.1.came.add 8 0 0,answer:=wB.1.answer||wants [norm wF]}
theorem ZT:wA.2=[(0,[wF])]:=by kernel_rfl
theorem ZU:wB.2=[]:=by kernel_rfl
theorem ZV:wB.1.came.has 0=false:=by kernel_rfl
theorem Jw:(wC.take (norm wF)).2=0/\(norm wF).kind=4/\(wC.take (norm wF)).1.ins.length=8:=⟨by kernel_rfl,by kernel_rfl,by kernel_rfl⟩
theorem qc8:((((wC.take (norm wF)).1.inn 3).rd (4096:Nat)).2.read=22/\(((wC.take (norm wF)).1.inn 3).rd (4096:Nat)).2.state=1):=⟨by kernel_rfl,by kernel_rfl⟩
theorem WE{n':Net}(r:RoR wN n'):Wd n':=by
 obtain⟨n2,⟨n1,⟨n0,e0,I,G,r0,rfl⟩,V,H,r1,rfl⟩,n3,Z,r3⟩:=r;cases e0;have eA:=BZ (by kernel_rfl) (by kernel_rfl) r0;have eB:=BZ (M:=(wN.g_.KL 0 I G).x 1) (by kernel_rfl) (by kernel_rfl) r1;have hA:wA=(I,G):=eA;have hB:wB=(V,H):=eB
 have p0:G=[(0,[wF])]:=by rw[<-ZT,hA]
 have p1:H=[]:=by rw[<-ZU,hB]
 have m1:V=wB.1:=by rw[hB]
 subst p0 p1 m1;have hb:((wN.g_.KL 0 I [(0,[wF])]).KL 1 wB.1 []).bP=[(1,0,[norm wF])]:=rfl;rw[hb]at Z;obtain⟨n4,e4,_,M,hr,rfl⟩:=Z;cases e4;have U:wB.1.iQ 0 [norm wF] M 0:=hr;unfold Side.iQ at U;rw[ZV,if_neg (by decide)]at U;obtain⟨K,X,t1,t2⟩:=U;have F:wC.gJ (norm wF) K X:=t1;unfold Side.gJ at F;rw[if_neg (by rw[Jw.2.1];decide)]at F;have em:K=(wC.take (norm wF)).1:=congrArg Prod.fst F;have ee:X=0:=(congrArg Prod.snd F).trans Jw.1;rw[if_pos ee]at t2;have O:M=K:=t2.1;subst O em;have:=W_ ((wC.take (norm wF)).1.inn 3) 16 (n:=Net.bY _ 1 (wC.take (norm wF)).1) (by rw[b_]) (by rw[b_];exact Jw.2.2) r3;exact this.2.2 (by omega) qc8
theorem Xa:∀(t:Nat) {n':Net},DK (t+1) wN n'->Wd n'
 |0,n',h=>by
  obtain⟨n1,e,r⟩:=h;cases e;exact WE r
 |t+1,n',h=>by
  obtain⟨n1,e,r⟩:=h;exact Yz (Xa t e) r
