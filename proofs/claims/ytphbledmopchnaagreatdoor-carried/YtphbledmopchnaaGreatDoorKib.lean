import Derived.Test.YtphbledmopchnaaGreatDoorKia
import Derived.Test.YtphbledmopchnaaGreatDoorKhe
open Go.RowKit.Below renaming refl->tL
open List renaming getElem?_cons_succ->jK,getElem?_cons_zero->mR
open Nat renaming le_refl->nI
set_option maxHeartbeats 4000000
set_option maxRecDepth 100000
namespace Go.Proofs.YtphbledmopchnaaGreatDoor.Sd
open Go.RowKit Go.Lib Mm Tryz
section
theorem iK(c x:Int)(h:jJ c)(F:0<x/\x<=1000)(w:World):Calls prog 32 #[.int .i64 c,.int .i64 x] w fun e w'=>e=.returned (.int .i64 (aV c x.toNat:Nat))/\w'=w:=by
 have:=vQ c x.toNat h.1 h.2 (by omega) (by omega) w;rwa[Int.toNat_of_nonneg (by omega)]at this
theorem Xk(N xb xc eb ec el EB e C i k:Nat)(hi:i<2)(hk:k<8)(Sd A B:Int)(h6:jJ Sd)(hA:jJ A)(pi:i=aV Sd 2)(pk:k=aV A 8)(S H:ByteArray)(_hS:S.size<=1000000)(h5:H.size<=2048)(fin:Bool)(code:Nat)(w w1:World)(R JI:World->Prop)(U:w1=w.alloc (.cells (nu 1 Sd A B S).toArray 37))(c0:w1.cell? ⟨N,0,none⟩=some (.slice (some ⟨xb,0,none⟩) 2 xc))(c1:w1.cell? ⟨N,1,none⟩=some (.slice (some ⟨eb,0,none⟩) 2 ec))(x1:w1.cell? ⟨xb,i,none⟩=some (.pointer (some ⟨C,0,none⟩)))(e1:w1.cell? ⟨eb,i,none⟩=some (.slice (some ⟨el,0,none⟩) 8 EB))(e2:w1.cell? ⟨el,k,none⟩=some (.pointer (some ⟨e,0,none⟩)))(HC:Calls prog 34 #[.pointer (some ⟨C,0,none⟩),.int .i64 k,.string S] w1 fun x F=>x=.returned (.int .i64 code)/\R F)(hR:∀F,R F->F.cell? ⟨e,0,none⟩=some (.string H)/\F.frozen? ⟨e,0,none⟩=false/\F.cell? ⟨e,1,none⟩=some (.bool fin)/\F.cell? ⟨e,2,none⟩=some (.bool false)/\F.cell? ⟨w.heap.size,4,none⟩=some (.string S)/\e≠w.heap.size)(h0:code=if fin then 4 else if 2048<H.size+S.size then 3 else 0)(X:code≠0->∀F q,R F->JI (F.drewN q))(Z:code=0->∀F q q2,R F->JI (((F.drewN q).setCell ⟨e,0,none⟩ (.string (H++S))).drewN q2)):
  Calls prog 22 #[.pointer (some ⟨N,0,none⟩),.agg #[.int .i64 1,.int .i64 Sd,.int .i64 A,.int .i64 B,.string S]] w fun e w'=>e=.returned (.bool true)/\JI w':=by
 have p1:aV Sd 2=i:=pi.symm;have p2:aV A 8=k:=pk.symm
 have B1:ak w1 w.heap.size 37 (nu 1 Sd A B S):=by rw[U];exact ak.new w 37 _
 have b0:=B1.cell 0;have b1:=B1.cell 1;have b2:=B1.cell 2;have b4:=B1.cell 4;simp only[nu,mR,jK]at b0 b1 b2 b4;have Jj:=hid HC;have HR:=hid hR;have Rj:=hid X;have h2:=hid Z;have O:=hid h0;have EM:w.alloc (.cells #[.int .i64 1,.int .i64 Sd,.int .i64 A,.int .i64 B,.string S] 37)=w1:=U.symm
 have h7:(i:Int)<2:=by omega
 have h8:(k:Int)<8:=by omega
 clear HC hR X Z h0 U B1 pi pk;go_enter func22,ntmps22
 go_wp2_with (first
  |(go_at_call 32;refine(iK _ _ (by assumption) (by decide) _).mono ?_;rintro ee w4 ⟨rfl,h4⟩;subst h4)
  |(go_at_call 34;refine Jj.out.mono ?_;rintro ee F ⟨rfl,hr⟩;have HW:=hid hr;clear hr))
 obtain⟨f0,z0,f1,f2,f4,h9⟩:=HR.out F HW.out;clear c0 c1 x1 e1 e2 b0 b1 b2 b4 Jj
 cases fin with
 |true=>
  obtain rfl:code=4:=O.out;have V:=hid (fun q=>Rj.out (by decide) F q HW.out)
  by_cases hg:(2048:Int)-(H.size:Int)<(S.size:Int)
  ·go_quiet (fail)
   go_wp2;go_ret;exact⟨rfl,V.out nq⟩
  ·go_quiet (fail)
   go_wp2;go_ret;exact⟨rfl,V.out nq⟩
 |false=>
  by_cases hg:2048<H.size+S.size
  ·obtain rfl:code=3:=by have:=O.out;rw[if_neg (by decide),if_pos hg]at this;exact this
   have V:=hid (fun q=>Rj.out (by decide) F q HW.out)
   have h3:(2048:Int)-(H.size:Int)<(S.size:Int):=by omega
   go_quiet (fail)
   go_wp2;go_ret;exact⟨rfl,V.out nq⟩
  ·obtain rfl:code=0:=by have:=O.out;rw[if_neg (by decide),if_neg hg]at this;exact this
   have h3:¬((2048:Int)-(H.size:Int)<(S.size:Int)):=by omega
   go_quiet (fail)
   obtain⟨I,G⟩:∃I,I=F.drewN nq:=⟨_,rfl⟩
   have g0:I.cell? ⟨e,0,none⟩=some (.string H):=by rw[G];exact f0
   have gz:I.frozen? ⟨e,0,none⟩=false:=by rw[G];exact z0
   have g1:I.cell? ⟨e,1,none⟩=some (.bool false):=by rw[G];exact f1
   have g2:I.cell? ⟨e,2,none⟩=some (.bool false):=by rw[G];exact f2
   have g4:I.cell? ⟨w.heap.size,4,none⟩=some (.string S):=by rw[G];exact f4
   have V:Hid (JI ((I.setCell ⟨e,0,none⟩ (.string (H++S))).drew)):=by rw[G];exact h2.out rfl F nq 1 HW.out
   rw[<-G];clear G f0 z0 f1 f2 f4;go_wp2
   go_region
   all_goals(go_wp2;go_ret;exact⟨rfl,V.out⟩)
theorem Qt(N xb xc eb ec el EB e C i k:Nat)(hi:i<2)(hk:k<8)(Sd A B:Int)(h2:jJ Sd)(hA:jJ A)(pi:i=aV Sd 2)(pk:k=aV A 8)(S:ByteArray)(fin:Bool)(code:Nat)(w w1:World)(R JI:World->Prop)(H:w1=w.alloc (.cells (nu 2 Sd A B S).toArray 37))(c0:w1.cell? ⟨N,0,none⟩=some (.slice (some ⟨xb,0,none⟩) 2 xc))(c1:w1.cell? ⟨N,1,none⟩=some (.slice (some ⟨eb,0,none⟩) 2 ec))(x1:w1.cell? ⟨xb,i,none⟩=some (.pointer (some ⟨C,0,none⟩)))(e1:w1.cell? ⟨eb,i,none⟩=some (.slice (some ⟨el,0,none⟩) 8 EB))(e2:w1.cell? ⟨el,k,none⟩=some (.pointer (some ⟨e,0,none⟩)))(HC:Calls prog 35 #[.pointer (some ⟨C,0,none⟩),.int .i64 k] w1 fun x F=>x=.returned (.int .i64 code)/\R F)(hR:∀F,R F->F.frozen? ⟨e,1,none⟩=false/\F.cell? ⟨e,1,none⟩=some (.bool fin)/\F.cell? ⟨e,2,none⟩=some (.bool false))(X:code=if fin then 4 else 0)(U:code≠0->∀F,R F->JI F)(V:code=0->∀F,R F->JI (F.setCell ⟨e,1,none⟩ (.bool true))):
  Calls prog 22 #[.pointer (some ⟨N,0,none⟩),.agg #[.int .i64 2,.int .i64 Sd,.int .i64 A,.int .i64 B,.string S]] w fun e w'=>e=.returned (.bool true)/\JI w':=by
 have p1:aV Sd 2=i:=pi.symm;have p2:aV A 8=k:=pk.symm
 have B1:ak w1 w.heap.size 37 (nu 2 Sd A B S):=by rw[H];exact ak.new w 37 _
 have b0:=B1.cell 0;have b1:=B1.cell 1;have b2:=B1.cell 2;simp only[nu,mR,jK]at b0 b1 b2;have Jj:=hid HC;have HR:=hid hR;have Rj:=hid U;have h0:=hid V;have O:=hid X;have EM:w.alloc (.cells #[.int .i64 2,.int .i64 Sd,.int .i64 A,.int .i64 B,.string S] 37)=w1:=H.symm
 have h3:(i:Int)<2:=by omega
 have h4:(k:Int)<8:=by omega
 clear HC hR U V X H B1 pi pk
 cases fin with
 |true=>
  obtain rfl:code=4:=O.out;go_enter func22,ntmps22
  go_wp2_with (first
   |(go_at_call 32;refine(iK _ _ (by assumption) (by decide) _).mono ?_;rintro ee w4 ⟨rfl,I⟩;subst I)
   |(go_at_call 35;refine Jj.out.mono ?_;rintro ee F ⟨rfl,G⟩;obtain⟨z0,f1,f2⟩:=HR.out F G;have Z:=hid (Rj.out (by decide) F G);clear G))
  go_ret;exact⟨rfl,Z.out⟩
 |false=>
  obtain rfl:code=0:=O.out;go_enter func22,ntmps22
  go_wp2_with (first
   |(go_at_call 32;refine(iK _ _ (by assumption) (by decide) _).mono ?_;rintro ee w4 ⟨rfl,I⟩;subst I)
   |(go_at_call 35;refine Jj.out.mono ?_;rintro ee F ⟨rfl,G⟩;obtain⟨z0,f1,f2⟩:=HR.out F G;have Z:=hid (h0.out (by simp) F G);clear G))
  go_ret;exact⟨rfl,Z.out⟩
theorem AA(n:Net)(i k:Nat)(o:Ot)(hi:i<2)(I:k<(n.x i).outs.length)(F k':Nat)(H:F<2):ends (n.bK i ((n.x i).aW k o)) F k'=if F=i/\k'=k then Il o ((n.x (1-i)).inn k)else ends n F k':=by
 unfold ends
 by_cases e:F=i
 ·subst e;rw[bT,dV _ _ _ _ (by omega),gL]
  by_cases G:k'=k
  ·rw[if_pos ⟨G,I⟩,if_pos ⟨rfl,G⟩,G]
  ·rw[if_neg (fun h=>G h.1),if_neg (fun h=>G h.2)]
 ·rw[if_neg (fun h=>e h.1),dV _ _ _ _ e,show 1-F=i by omega,bT];rfl
def Net.lQ(n:Net)(i k:Nat)(S:ByteArray):Net:=n.bK i ((n.x i).aW k (((n.x i).out k).send S.data.toList).1)
def Net.Iq(n:Net)(i k:Nat):Net:=n.bK i ((n.x i).aW k ((n.x i).out k).finish.1)
section
variable {own:Own} {w:World} {a:Ad} {n:Net} {vb:Value}
theorem JR(h:bE own w a n vb (ends n))(hp:dx a.aH n)(Sd A B:Int)(h5:jJ Sd)(hA:jJ A)(S:ByteArray)(hS:S.size<=1000000):
  Calls prog 22 #[.pointer (some ⟨a.N,0,none⟩),.agg #[.int .i64 1,.int .i64 Sd,.int .i64 A,.int .i64 B,.string S]] w fun e w'=>e=.returned (.bool true)/\mU own w a (n.lQ (aV Sd 2) (aV A 8) S) w':=by
 obtain⟨i,pi⟩:∃i,i=aV Sd 2:=⟨_,rfl⟩;obtain⟨k,pk⟩:∃k,k=aV A 8:=⟨_,rfl⟩
 have hi:i<2:=by rw[pi];exact bL Sd 2 (by omega)
 have H:k<8:=by rw[pk];exact bL A 8 (by omega)
 rw[<-pi,<-pk];obtain⟨w1,U⟩:∃w1,w1=w.alloc (.cells (nu 1 Sd A B S).toArray 37):=⟨_,rfl⟩
 have h0:Below w.heap.size w w1:=by rw[U];exact(tL _ w).alloc (nI _) _
 have B1:ak w1 w.heap.size 37 (nu 1 Sd A B S):=by rw[U];exact ak.new w 37 _
 have G:=h.loc.below h0;have ob:loc own w.heap.size w.heap.size=0:=eT _ _ _ (nI _);have K1:Kp TN (loc own w.heap.size) (loc own w.heap.size) w w1:=Kp.below h0;obtain⟨c0,c1,_⟩:=G.cells;obtain⟨e1,e2,_⟩:=G.JJ i k hi H;have he:a.e i k<w.heap.size:=(h.en i k hi H).1.lt
 have h8:k<(n.x i).outs.length:=by rw[(hp.loc i hi).lo];exact H
 have h3:=((hp.loc i hi).wr k).given;obtain⟨o,I⟩:∃o,o=(n.x i).out k:=⟨_,rfl⟩
 have h9:o.bytes.length<=2048:=by rw[I];exact((hp.bd i hi).o k).b
 have EN:ends n i k=Il o ((n.x (1-i)).inn k):=by rw[I];rfl
 rw[<-I]at h3
 have h6:o.closed=o.fin:=by unfold Ot.closed;rw[h3,Bool.or_false]
 have h4:(⟨o.bytes.toArray⟩:ByteArray).size=o.bytes.length:=(iL _).2
 have yO:S.data.toList.length=S.size:=by simp
 refine Xk a.N a.xb a.xc a.eb a.ec (a.el i) (a.EB i) (a.e i k) (a.C i) i k hi H Sd A B h5 hA pi pk S ⟨o.bytes.toArray⟩ hS (by omega) o.fin (o.send S.data.toList).2 w w1
  (fun O=>MW (loc own w.heap.size) w1 a vb (ends n) (T0 (60*(i+1))) (n.lQ i k S) O) (mU own w a (n.lQ i k S)) U c0 c1 (G.xs i hi).1 e1 e2 (by rw[I];exact Ut G hp i k hi H S (by omega)) ?_ ?_ ?_ ?_
 ·rintro O ⟨X,V,Z⟩;have B:=(V.en i k hi H).1;rw[EN]at B;exact⟨B.cell 0,B.frozen 0,B.cell 1,B.cell 2,(aK B1 Z (by rw[ob];exact fun e=>by have:=bG.1 e;omega)).cell 4,by omega⟩
 ·unfold Ot.send;rw[h6,h4];cases o.fin<;>simp[yO];split<;>rfl
 ·rintro F O q ⟨X,V,Z⟩
  have e:(o.send S.data.toList).1=o:=by
   unfold Ot.send at F ⊢;split
   ·rfl
   ·split
    ·rfl
    ·rename_i h1 G;rw[if_neg h1,if_neg G]at F;exact absurd rfl F
  have s:Sm (n.x i) ((n.x i).aW k (((n.x i).out k).send S.data.toList).1):=by rw[<-I,e];exact jH _ _ _ (by rw[I]) (by rw[I])
  have g3:=(V.below (b_ O q)).Co (E':=ends (n.lQ i k S)) (fun j k' _ _=>oK s j k');exact mU.iN ⟨X,vb,g3,K1.trans ((Z.mono (pz i hi)).trans (Kp.below (b_ O q)))⟩
 ·rintro F O q q2 ⟨X,V,Z⟩
  have e:(o.send S.data.toList).1={o with bytes:=o.bytes++S.data.toList}:=by
   unfold Ot.send at F ⊢;split
   ·rename_i h1;rw[if_pos h1]at F;cases F
   ·split
    ·rename_i h1 G;rw[if_neg h1,if_pos G]at F;cases F
    ·rfl
  have oe:=(V.en i k hi H).2;have g3:=((V.below (b_ O q)).Ur i k hi H 0 (.string (⟨o.bytes.toArray⟩++S))).below (b_ _ q2)
  have g4:=g3.Co (E':=ends (n.lQ i k S)) (fun i' k' h7 ha=>by
   unfold Net.lQ;rw[AA n i k _ hi h8 i' k' h7,EN,<-I,e];split
   ·unfold Il
    have:(⟨o.bytes.toArray⟩++S:ByteArray)=⟨(o.bytes++S.data.toList).toArray⟩:=by
     ext1;rw[ByteArray.data_append];simp
    rw[this];rfl
   ·rfl)
  exact mU.iN ⟨X,vb,g4,K1.trans ((Z.mono (pz i hi)).trans ((Kp.below (b_ O q)).trans ((Kp.set X _ ⟨a.e i k,0,none⟩ _ TN (by show X (a.e i k)∈TN;rw[oe];exact iM.2 (by omega))).trans (Kp.below (b_ _ q2)))))⟩
end

end
section
section
variable {own:Own} {w:World} {a:Ad} {n:Net} {vb:Value}
theorem AB(h:bE own w a n vb (ends n))(hp:dx a.aH n)(Sd A B:Int)(h0:jJ Sd)(hA:jJ A)(S:ByteArray):
  Calls prog 22 #[.pointer (some ⟨a.N,0,none⟩),.agg #[.int .i64 2,.int .i64 Sd,.int .i64 A,.int .i64 B,.string S]] w fun e w'=>e=.returned (.bool true)/\mU own w a (n.Iq (aV Sd 2) (aV A 8)) w':=by
 obtain⟨i,pi⟩:∃i,i=aV Sd 2:=⟨_,rfl⟩;obtain⟨k,pk⟩:∃k,k=aV A 8:=⟨_,rfl⟩
 have hi:i<2:=by rw[pi];exact bL Sd 2 (by omega)
 have G:k<8:=by rw[pk];exact bL A 8 (by omega)
 rw[<-pi,<-pk];obtain⟨w1,X⟩:∃w1,w1=w.alloc (.cells (nu 2 Sd A B S).toArray 37):=⟨_,rfl⟩
 have U:Below w.heap.size w w1:=by rw[X];exact(tL _ w).alloc (nI _) _
 have h2:=h.loc.below U;have K1:Kp TN (loc own w.heap.size) (loc own w.heap.size) w w1:=Kp.below U;obtain⟨c0,c1,_⟩:=h2.cells;obtain⟨e1,e2,_⟩:=h2.JJ i k hi G
 have h5:k<(n.x i).outs.length:=by rw[(hp.loc i hi).lo];exact G
 have V:=((hp.loc i hi).wr k).given;obtain⟨o,H⟩:∃o,o=(n.x i).out k:=⟨_,rfl⟩
 have EN:ends n i k=Il o ((n.x (1-i)).inn k):=by rw[H];rfl
 rw[<-H]at V
 have h3:o.closed=o.fin:=by unfold Ot.closed;rw[V,Bool.or_false]
 refine Qt a.N a.xb a.xc a.eb a.ec (a.el i) (a.EB i) (a.e i k) (a.C i) i k hi G Sd A B h0 hA pi pk S o.fin o.finish.2 w w1
  (fun w2=>MW (loc own w.heap.size) w1 a vb (ends n) (T0 (60*(i+1))) (n.Iq i k) w2) (mU own w a (n.Iq i k)) X c0 c1 (h2.xs i hi).1 e1 e2 (by rw[H];exact Mv h2 hp i k hi G) ?_ ?_ ?_ ?_
 ·rintro w2 ⟨O,I,Z⟩;have B:=(I.en i k hi G).1;rw[EN]at B;exact⟨B.frozen 1,B.cell 1,B.cell 2⟩
 ·unfold Ot.finish;rw[h3];cases o.fin<;>rfl
 ·rintro F w2 ⟨O,I,Z⟩
  have e:o.finish.1=o:=by
   unfold Ot.finish at F ⊢;split
   ·rfl
   ·rename_i h1;rw[if_neg h1]at F;exact absurd rfl F
  have s:Sm (n.x i) ((n.x i).aW k ((n.x i).out k).finish.1):=by rw[<-H,e];exact jH _ _ _ (by rw[H]) (by rw[H])
  have g3:=I.Co (E':=ends (n.Iq i k)) (fun j k' _ _=>oK s j k');exact mU.iN ⟨O,vb,g3,K1.trans (Z.mono (pz i hi))⟩
 ·rintro F w2 ⟨O,I,Z⟩
  have e:o.finish.1={o with fin:=true}:=by
   unfold Ot.finish at F ⊢;split
   ·rename_i h1;rw[if_pos h1]at F;cases F
   ·rfl
  have oe:=(I.en i k hi G).2
  have g4:=(I.Ur i k hi G 1 (.bool true)).Co (E':=ends (n.Iq i k)) (fun i' k' h4 h6=>by
   unfold Net.Iq;rw[AA n i k _ hi h5 i' k' h4,EN,<-H,e]
   rfl)
  exact mU.iN ⟨O,vb,g4,K1.trans ((Z.mono (pz i hi)).trans (Kp.set O _ ⟨a.e i k,1,none⟩ _ TN (by show O (a.e i k)∈TN;rw[oe];exact iM.2 (by omega))))⟩
theorem Qu(h:bE own w a n vb (ends n))(hp:dx a.aH n)(hb:ni n 0)(O:a.aH<=400)(hl:n.bD.length<=1000000000)(Sd A B:Int)(h0:jJ Sd)(hA:jJ A)(S:ByteArray):
  Calls prog 22 #[.pointer (some ⟨a.N,0,none⟩),.agg #[.int .i64 6,.int .i64 Sd,.int .i64 A,.int .i64 B,.string S]] w fun e w'=>e=.returned (.bool true)/\∃M pk,(n.x (aV Sd 2)).mQ M pk/\Rn (n.x (aV Sd 2)) (n.x (1-aV Sd 2)) M pk/\mU own w a (n.JM (aV Sd 2) M pk) w':=by
 obtain⟨i,I⟩:∃i,i=aV Sd 2:=⟨_,rfl⟩
 have hi:i<2:=by rw[I];exact bL Sd 2 (by omega)
 rw[<-I];have p1:aV Sd 2=i:=I.symm;have hk:aV A 8<8:=bL A 8 (by omega);obtain⟨w1,F⟩:∃w1,w1=w.alloc (.cells (nu 6 Sd A B S).toArray 37):=⟨_,rfl⟩
 have G:Below w.heap.size w w1:=by rw[F];exact(tL _ w).alloc (nI _) _
 have B1:ak w1 w.heap.size 37 (nu 6 Sd A B S):=by rw[F];exact ak.new w 37 _
 have H:=h.below G;obtain⟨c0,_⟩:=H.cells;have x1:=(H.xs i hi).1;have b0:=B1.cell 0;have Z:=B1.cell 1;have b2:=B1.cell 2;simp only[nu,mR,jK]at b0 Z b2
 have X:Hid (Calls prog 23 #[.pointer (some ⟨a.N,0,none⟩),.int .i64 i] w1 fun e w'=>e=.returned (.bool true)/\Hid (∃M pk,(n.x i).mQ M pk/\Rn (n.x i) (n.x (1-i)) M pk/\mU own w a (n.JM i M pk) w')):=by
  refine(EI H hp hb i hi O (by omega)).mono ?_;rintro e w' ⟨rfl,M,pk,q1,q2,o,V,q3,q4⟩;exact⟨rfl,M,pk,q1,q2,o,V,q3,(Kp.below G).trans q4⟩
 have EM:w.alloc (.cells #[.int .i64 6,.int .i64 Sd,.int .i64 A,.int .i64 B,.string S] 37)=w1:=F.symm
 have h3:(i:Int)<2:=by omega
 clear F B1 I H h hp hb G;go_enter func22,ntmps22
 go_wp2_with (first
  |(go_at_call 32;refine(iK _ _ (by assumption) (by decide) _).mono ?_;rintro ee w4 ⟨rfl,U⟩;subst U)
  |(go_at_call 23;refine X.out.mono ?_;rintro ee w2 ⟨rfl,hr⟩))
 go_ret;exact⟨rfl,hr.out⟩
theorem UE(h:bE own w a n vb (ends n))(hp:dx a.aH n)(Sd A B:Int)(h0:jJ Sd)(hA:jJ A)(hB:jJ B)(S:ByteArray):
  Calls prog 22 #[.pointer (some ⟨a.N,0,none⟩),.agg #[.int .i64 10,.int .i64 Sd,.int .i64 A,.int .i64 B,.string S]] w fun e w'=>e=.returned (.bool true)/\mU own w a (n.bK (aV Sd 2) ((n.x (aV Sd 2)).bP (aV B 8) (((n.x (aV Sd 2)).inn (aV B 8)).rd (aV A 200:Nat)).2)) w':=by
 obtain⟨i,I⟩:∃i,i=aV Sd 2:=⟨_,rfl⟩;obtain⟨k,pk⟩:∃k,k=aV B 8:=⟨_,rfl⟩;obtain⟨m,pm⟩:∃m,m=aV A 200:=⟨_,rfl⟩
 have hi:i<2:=by rw[I];exact bL Sd 2 (by omega)
 have hk:k<8:=by rw[pk];exact bL B 8 (by omega)
 have hm:m<200:=by rw[pm];exact bL A 200 (by omega)
 rw[<-I,<-pk,<-pm];have p1:aV Sd 2=i:=I.symm;have p2:aV B 8=k:=pk.symm;have p3:aV A 200=m:=pm.symm;obtain⟨w1,F⟩:∃w1,w1=w.alloc (.cells (nu 10 Sd A B S).toArray 37):=⟨_,rfl⟩
 have G:Below w.heap.size w w1:=by rw[F];exact(tL _ w).alloc (nI _) _
 have B1:ak w1 w.heap.size 37 (nu 10 Sd A B S):=by rw[F];exact ak.new w 37 _
 have H:=h.below G;obtain⟨c0,_⟩:=H.cells;have x1:=(H.xs i hi).1;have b0:=B1.cell 0;have X:=B1.cell 1;have b2:=B1.cell 2;have b3:=B1.cell 3;simp only[nu,mR,jK]at b0 X b2 b3
 have V:Hid (Calls prog 31 #[.pointer (some ⟨a.N,0,none⟩),.int .i64 i,.int .i64 k,.int .i64 m] w1 fun e w'=>e=.returned (.bool true)/\Hid (mU own w a (n.bK i ((n.x i).bP k (((n.x i).inn k).rd m).2)) w')):=by
  refine(JK H hp i k m hi hk (by omega)).mono ?_;rintro e w' ⟨rfl,o,U,q3,q4⟩;exact⟨rfl,o,U,q3,(Kp.below G).trans q4⟩
 have EM:w.alloc (.cells #[.int .i64 10,.int .i64 Sd,.int .i64 A,.int .i64 B,.string S] 37)=w1:=F.symm
 have h3:(i:Int)<2:=by omega
 clear F B1 I pk pm H h hp G;go_enter func22,ntmps22
 go_wp2_with (first
  |(go_at_call 32;refine(iK _ _ (by assumption) (by decide) _).mono ?_;rintro Z w4 ⟨rfl,O⟩;subst O)
  |(go_at_call 31;refine V.out.mono ?_;rintro Z w2 ⟨rfl,hr⟩))
 go_ret;exact⟨rfl,hr.out⟩
end

end
end Go.Proofs.YtphbledmopchnaaGreatDoor.Sd
