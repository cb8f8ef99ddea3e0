import Derived.Test.YtphbledmopchnaaGreatDoorKhd
open List renaming getElem?_cons_succ->jK,getElem?_cons_zero->mR
set_option maxHeartbeats 4000000
set_option maxRecDepth 100000
namespace Go.Proofs.YtphbledmopchnaaGreatDoor.Sd
open Go.RowKit Go.Lib Mm Tryz
section
section
variable {own:Own} {w:World} {a:Ad} {n:Net} {vb:Value}
def nu(K Sd A B:Int)(S:ByteArray):List Value:=[.int .i64 K,.int .i64 Sd,.int .i64 A,.int .i64 B,.string S]
def jJ(x:Int):Prop:= -9223372036854775808<=x/\x<=9223372036854775807
theorem Qs(h:bE own w a n vb (ends n))(hp:dx a.aH n)(hb:ni n 0)(xl:a.aH<=400)(hl:n.bD.length<=1000000000)(K Sd A B:Int)(S:ByteArray)(hA:jJ A)(hB:jJ B):
  Calls prog 39 #[.pointer (some ⟨a.N,0,none⟩),.agg #[.int .i64 K,.int .i64 Sd,.int .i64 A,.int .i64 B,.string S]] w fun e w'=>e=.returned (.bool true)/\∃n',Cz a.aH n n'/\(n.bD=[]->n'=n)/\mU own w a n' w':=by
 have H0:=uy h;have H1:=H0.alloc 37 (nu K Sd A B S);obtain⟨a0,c0,p8,Yz⟩:=H1.ZB;have HP:=hid hp;have HB:=hid hb;have HA:=hid hA;have vH:=hid hB;have YA:=hid Yz;obtain⟨m,hm⟩:∃m,m=n.bD.length:=⟨_,rfl⟩;rw[<-hm]at p8 hl;have HM:=hid hm;obtain⟨w1,hj⟩:∃w1,w1=w.alloc (.cells (nu K Sd A B S).toArray 37):=⟨_,rfl⟩;rw[<-hj]at p8 H1;have b0:=H1.cell (.head _) 0;have b2:=H1.cell (.head _) 2;have b3:=H1.cell (.head _) 3;have b4:=H1.cell (.head _) 4;simp only[nu,mR,jK]at b0 b2 b3 b4;have ha:=hid H1;clear H0 H1 h hp hb hA hB Yz hm;go_enter func39,ntmps39;have EM:w.alloc (.cells #[.int .i64 K,.int .i64 Sd,.int .i64 A,.int .i64 B,.string S] 37)=w1:=hj.symm;clear hj
 by_cases h0:m=0
 ·subst h0;go_wp2;go_ret;exact⟨rfl,n,su HP.out,fun _=>rfl,ha.out.ntf.iN⟩
 have xn:¬((m:Int)=0):=by omega
 obtain⟨k,hk⟩:∃k,k=aV A m:=⟨_,rfl⟩
 have xp:k<m:=by rw[hk];exact bL A m (by omega)
 have Vd:Hid (∀w,Calls prog 32 #[.int .i64 A,.int .i64 m] w fun e w'=>e=.returned (.int .i64 k)/\w'=w):=fun w=>by
  rw[hk];exact vQ A m HA.out.1 HA.out.2 (by omega) (by omega) w
 obtain⟨g,rfl,d0,d1⟩:=YA.out k (by have:=HM.out;omega);obtain⟨y,hy⟩:∃y,y=n.bD.getD k (0,0,[]):=⟨_,rfl⟩;rw[<-hy]at d0 d1
 have I:y∈n.bD:=by
  have:k<n.bD.length:=by have:=HM.out;omega
  rw[hy,List.getD_eq_getElem?_getD,List.getElem?_eq_getElem this];exact List.getElem_mem _
 obtain⟨G,x9⟩:=HP.out.bD y I;have hf:=hid x9
 have hc:Hid (n.bD≠[]):=fun e=>by rw[e]at I;cases I
 have xt:=hid I;obtain⟨i,hi⟩:∃i,i=y.1:=⟨_,rfl⟩;obtain⟨D,hD⟩:∃D:ByteArray,D=⟨(aD y.2.1 y.2.2).toArray⟩:=⟨_,rfl⟩;unfold sV at d1;rw[<-hi]at d0 G;rw[<-hD]at d1;have HI:=hid hi;have HD:=hid hD;rw[show w.alloc (.cells (nu K Sd A B S).toArray 37)=w1 from EM]at d0 d1;clear hi hD hy x9 I hk YA;go_wp2;clear EM
 go_quiet ((go_at_call 32;exact Calls.quiet_of_same (Vd.out _)))
 obtain⟨w2,V⟩:∃w2,w2=w1.drewN nq:=⟨_,rfl⟩
 have e8:w2.cell? ⟨a.N,8,none⟩=some (.slice (some ⟨g,0,none⟩) m c0):=by rw[V];exact p8
 have c0:w2.cell? ⟨g,k*2,none⟩=some (.int .i64 i):=by rw[V];exact d0
 have c1:w2.cell? ⟨g,k*2+1,none⟩=some (.string D):=by rw[V];exact d1
 have X:=(ha.out.below (b_ w1 nq)).alloc 62 [.int .i64 i,.string D];rw[<-V]at X ⊢;obtain⟨w3,hn⟩:∃w3,w3=w2.alloc (.cells [.int .i64 i,.string D].toArray 62):=⟨_,rfl⟩;obtain⟨fb,BQ⟩:∃fb,fb=w2.heap.size:=⟨_,rfl⟩;rw[<-hn,<-BQ]at X;have f0:=X.cell (.head _) 0;have f1:=X.cell (.head _) 1;have e0:=X.cell (.tail _ (.head _)) 0;have e3:=X.cell (.tail _ (.head _)) 3;have e4:=X.cell (.tail _ (.head _)) 4;obtain⟨x0,x1⟩:=X.xc i G;simp only[nu,mR,jK]at f0 f1 e0 e3 e4;have Ow:w2.alloc (.cells #[.int .i64 i,.string D] 62)=w3:=hn.symm;have xv:w2.heap.size=fb:=BQ.symm;have S9:=hid X;clear V b0 b2 b3 b4 p8 d0 d1 ha hn BQ X
 by_cases k8:K=8
 ·subst k8;have h9:=hid (JO S9.out k (by have:=HM.out;omega) (by have:=HM.out;omega))
  go_wp2_with (go_at_call 67;refine h9.out.mono ?_;rintro e H ⟨rfl,h4⟩)
  go_ret;exact⟨rfl,_,EL HP.out k,fun e=>absurd e hc.out,h4.ntf.iN⟩
 by_cases k7:K=7
 ·subst k7;obtain⟨q,hq⟩:∃q,q=aV B 2:=⟨_,rfl⟩
  have Xj:Hid (∀w,Calls prog 32 #[.int .i64 B,.int .i64 2] w fun e w'=>e=.returned (.int .i64 q)/\w'=w):=fun w=>by
   rw[hq];exact vQ B 2 vH.out.1 vH.out.2 (by omega) (by omega) w
  clear hq
  have HY:Hid (∀n1 H,jI (loc own w.heap.size) w a [(fb,62,[.int .i64 i,.string D]),(w.heap.size,37,nu 7 Sd A B S)] n1 H->Cz a.aH n n1->Eu a.aH (n1.x (1-i)) (n1.x i) y.2->
    Calls prog 29 #[.pointer (some ⟨a.C i,0,none⟩),.string D] H fun e O=>e=.returned (.tuple #[.int .i64 0,.int .i64 (-1)])/\∃n2,Cz a.aH n n2/\jI (loc own w.heap.size) w a [(fb,62,[.int .i64 i,.string D]),(w.heap.size,37,nu 7 Sd A B S)] n2 O):=fun n1 H h1 Z h3=>by
   have:=UC h1 Z.p (Z.nb HB.out) xl i G y.2 h3;unfold sV at this;rw[<-HD.out]at this;refine this.mono ?_;rintro e O ⟨rfl,M1,r,h5⟩;exact⟨rfl,_,Qq Z (Z.nb HB.out) i G y.2 h3 r,h5⟩
  have hr:Hid (Eu a.aH (n.x (1-i)) (n.x i) y.2):=by rw[HI.out];exact hf.out
  have h9:=hid (JO S9.out k (by have:=HM.out;omega) (by have:=HM.out;omega))
  have x5:q=0\/¬((q:Int)=0):=by omega
  rcases x5 with rfl|x5
  all_goals go_wp2_with (first|(go_at_call 32;refine(Xj.out _).mono ?_;rintro e H ⟨rfl,ho⟩;subst ho)|(go_at_call 67;refine h9.out.mono ?_;rintro e H ⟨rfl,h4⟩))
  all_goals(
   obtain⟨n1,H4,HO,xa⟩:∃n1,Hid (jI (loc own w.heap.size) w a [(fb,62,[.int .i64 i,.string D]),(w.heap.size,37,nu 7 Sd A B S)] n1 H)/\Hid (Cz a.aH n n1)/\Hid (Eu a.aH (n1.x (1-i)) (n1.x i) y.2):=(by first|exact⟨_,h4,EL HP.out k,hr.out⟩|exact⟨n,S9.out,su HP.out,hr.out⟩);clear f0 f1 e0 e3 e4 x0 x1 S9 Ow
   (try clear h4))
  all_goals(
   have f0:=H4.out.cell (.head _) 0;have f1:=H4.out.cell (.head _) 1;obtain⟨x0,x1⟩:=H4.out.xc i G;simp only[mR,jK]at f0 f1
   have he:Hid (Calls prog 29 #[.pointer (some ⟨a.C i,0,none⟩),.string D] H.drew fun e O=>e=.returned (.tuple #[.int .i64 0,.int .i64 (-1)])/\(O.cell? ⟨a.N,0,none⟩=some (.slice (some ⟨a.xb,0,none⟩) 2 a.xc)/\O.cell? ⟨a.xb,i,none⟩=some (.pointer (some ⟨a.C i,0,none⟩))/\O.cell? ⟨fb,0,none⟩=some (.int .i64 i)/\O.cell? ⟨fb,1,none⟩=some (.string D))/\Hid (∃n2,Cz a.aH n n2/\jI (loc own w.heap.size) w a [(fb,62,[.int .i64 i,.string D]),(w.heap.size,37,nu 7 Sd A B S)] n2 O)):=by
    refine(HY.out n1 H.drew (H4.out.below ⟨rfl,rfl,rfl,Nat.le_refl _,fun _ _=>rfl⟩) HO.out xa.out).mono ?_;rintro e O ⟨rfl,n2,h6,h7⟩;exact⟨rfl,⟨(h7.xc i G).1,(h7.xc i G).2,h7.cell (.head _) 0,h7.cell (.head _) 1⟩,n2,h6,h7⟩
   have xi:(0:Int)<=(i:Int):=by omega
   have xj:(i:Int)<2:=by omega
   go_region_held3 (fun y=>y.cell? ⟨a.N,0,none⟩=some (.slice (some ⟨a.xb,0,none⟩) 2 a.xc)/\y.cell? ⟨a.xb,i,none⟩=some (.pointer (some ⟨a.C i,0,none⟩))/\y.cell? ⟨fb,0,none⟩=some (.int .i64 i)/\y.cell? ⟨fb,1,none⟩=some (.string D)) (first|assumption|go_keep) ((first|(go_at_call 29;refine he.out.mono ?_;rintro e O ⟨rfl,xe,x6⟩)))
   obtain⟨_,_,s0,_⟩:=xe;obtain⟨n2,x2,hv⟩:=x6.out;have xd:=hid x2;have h8:=hid (JQ hv i G);clear x2 hv x6 f0 f1 x0 x1
   go_wp2_with (go_at_call 30;refine h8.out.mono ?_;rintro e w6 ⟨rfl,h6⟩;have H6:=hid h6;clear h6)
   go_ret
   exact⟨rfl,n2,xd.out,fun e=>absurd e hc.out,H6.out.ntf.iN⟩)
 by_cases k9:K=9
 ·subst k9
  have hx:D.size=(aD y.2.1 y.2.2).length:=by rw[HD.out];exact(iL _).2
  have hw:0<D.size:=by rw[hx];exact hf.out.ps
  have xo:D.size<=400:=by have:=hf.out.sz;omega
  obtain⟨q,hq⟩:∃q,q=aV B D.size:=⟨_,rfl⟩
  have xm:q<D.size:=by rw[hq];exact bL B D.size hw
  have Xj:Hid (∀w,Calls prog 32 #[.int .i64 B,.int .i64 D.size] w fun e w'=>e=.returned (.int .i64 q)/\w'=w):=fun w=>by
   rw[hq];exact vQ B D.size vH.out.1 vH.out.2 hw (by omega) w
  clear hq hx
  have hu:Hid (∀(b:UInt8) H,b≠0->jI (loc own w.heap.size) w a [(fb,62,[.int .i64 i,.string D]),(w.heap.size,37,nu 9 Sd A B S)] n H->
    Calls prog 29 #[.pointer (some ⟨a.C i,0,none⟩),.string (D.extract 0 q++⟨#[D[q] ^^^ b]⟩++D.extract (q+1) D.size)] H fun e y=>e=.returned (.tuple #[.int .i64 7,.int .i64 (-1)])/\(y.cell? ⟨a.N,0,none⟩=some (.slice (some ⟨a.xb,0,none⟩) 2 a.xc)/\y.cell? ⟨a.xb,i,none⟩=some (.pointer (some ⟨a.C i,0,none⟩))/\y.cell? ⟨fb,0,none⟩=some (.int .i64 i)/\y.cell? ⟨fb,1,none⟩=some (.string D))/\Hid (jI (loc own w.heap.size) w a [(fb,62,[.int .i64 i,.string D]),(w.heap.size,37,nu 9 Sd A B S)] n y)):=fun b H hb h4=>by
   obtain⟨l,h1,Z,h3⟩:=MB _ _ D HD.out q xm b hb;unfold spD at h1;rw[h1];refine(Xi h4 HP.out i G l (by omega) h3).mono ?_;rintro e O ⟨rfl,h5⟩;exact⟨rfl,⟨(h5.xc i G).1,(h5.xc i G).2,h5.cell (.head _) 0,h5.cell (.head _) 1⟩,h5⟩
  have g4:(q:Int)+1<=(D.size:Int):=by omega
  have g1:(0:Int)<=(q:Int):=by omega
  have g2:(q:Int)<=(D.size:Int):=by omega
  have g3:(q:Int)<(D.size:Int):=by omega
  have g7:(0:Int)<=(q:Int)+1:=by omega
  have xr:IntKind.i64.wrap ((q:Int)+1)=(q:Int)+1:=by rw[IntKind.wrap_i64];omega
  have xi:(0:Int)<=(i:Int):=by omega
  have xj:(i:Int)<2:=by omega
  go_wp2_with (go_at_call 32;refine(Xj.out _).mono ?_;rintro e H ⟨rfl,ho⟩;subst ho)
  all_goals(first
   |(rw[show Value.int .u8 1=Value.int .u8 (((1:UInt8).toNat:Nat):Int)from rfl];have hg:(1:UInt8)≠0:=(by decide);generalize (1:UInt8)=b at hg ⊢)
   |(have Z:((S[0].toNat:Int) != 0)=true:=(by assumption);have hg:S[0]≠0:=(fun e=>by rw[e]at Z;exact absurd Z (by decide));clear Z;generalize S[0]=b at *))
  all_goals(
   refine wp_region_noPanic ?_;refine wp_region_held_drew (S:=fun y=>y.cell? ⟨fb,1,none⟩=some (.string D)) (by kernel_rfl) (by simpa using f1) (fun U=>?_);refine wpAnyH_take (i:=0) (oi:=_) (v:=?_) rfl (by kernel_rfl) (by kernel_rfl) (by kernel_rfl) (fun _ _ _ h=>h) (Or.inl ⟨by rfl,?_⟩) (by assumption) ?_
   rotate_left
   ·(intro w F;(try dsimp only at F);go_simp;try with_reducible rfl)
   refine wpAnyH_take (i:=1) (oi:=_) (v:=?_) rfl (by kernel_rfl) (by kernel_rfl) (by kernel_rfl) (fun _ _ _ h=>h) (Or.inl ⟨by rfl,?_⟩) (by assumption) ?_
   rotate_left
   ·(intro w F;(try dsimp only at F);go_simp;try with_reducible rfl)
   refine wpAnyH_take (i:=2) (oi:=_) (v:=?_) rfl (by kernel_rfl) (by kernel_rfl) (by kernel_rfl) (fun _ _ _ h=>h) (Or.inl ⟨by rfl,?_⟩) (by assumption) ?_
   rotate_left
   ·(intro w F;(try dsimp only at F);go_simp;try with_reducible rfl)
   refine wpAnyH_take (i:=3) (oi:=_) (v:=?_) rfl (by kernel_rfl) (by kernel_rfl) (by kernel_rfl) (fun _ _ _ h=>h) (Or.inl ⟨by rfl,?_⟩) (by assumption) ?_
   rotate_left
   ·(intro w F;(try dsimp only at F);go_simp;try with_reducible rfl)
   refine wpAnyH_take (i:=4) (oi:=_) (v:=?_) rfl (by kernel_rfl) (by kernel_rfl) (by kernel_rfl) (fun _ _ _ h=>h) (Or.inl ⟨by rfl,?_⟩) (by assumption) ?_
   rotate_left
   ·(intro w F;(try dsimp only at F);go_simp;try with_reducible rfl)
   refine wpAnyH_take (i:=5) (oi:=_) (v:=?_) rfl (by kernel_rfl) (by kernel_rfl) (by kernel_rfl) (fun _ _ _ h=>h) (Or.inl ⟨by rfl,?_⟩) (by assumption) ?_
   rotate_left
   ·(intro w F;(try dsimp only at F);go_simp;try with_reducible rfl)
   refine wpAnyH_take (i:=6) (oi:=_) (v:=?_) rfl (by kernel_rfl) (by kernel_rfl) (by kernel_rfl) (fun _ _ _ h=>h) (Or.inl ⟨by rfl,?_⟩) (by assumption) ?_
   rotate_left
   ·(intro w F;(try dsimp only at F);go_simp;try with_reducible rfl)
   refine wpAnyH_take (i:=7) (oi:=_) (v:=?_) rfl (by kernel_rfl) (by kernel_rfl) (by kernel_rfl) (fun _ _ _ h=>h) (Or.inl ⟨by rfl,?_⟩) (by assumption) ?_
   rotate_left
   ·(intro w F;(try dsimp only at F);go_simp;try with_reducible rfl)
   refine wpAnyH_take (i:=8) (oi:=_) (v:=?_) rfl (by kernel_rfl) (by kernel_rfl) (by kernel_rfl) (fun _ _ _ h=>h) (Or.inl ⟨by rfl,?_⟩) (by assumption) ?_
   rotate_left
   ·(intro w F;(try dsimp only at F);go_simp;try with_reducible rfl)
   refine wpAnyH_take (i:=9) (oi:=_) (v:=?_) rfl (by kernel_rfl) (by kernel_rfl) (by kernel_rfl) (fun _ _ _ h=>h) (Or.inl ⟨by rfl,?_⟩) (by assumption) ?_
   rotate_left
   ·(intro w F;(try dsimp only at F);go_simp;try with_reducible rfl)
   refine wpAnyH_take (i:=13) (oi:=_) (v:=?_) rfl (by kernel_rfl) (by kernel_rfl) (by kernel_rfl) (fun _ _ _ h=>h) (Or.inl ⟨by rfl,?_⟩) (by assumption) ?_
   rotate_left
   ·(intro w F;(try dsimp only at F);go_simp;try with_reducible rfl)
   refine wpAnyH_take (i:=14) (oi:=_) (v:=?_) rfl (by kernel_rfl) (by kernel_rfl) (by kernel_rfl) (fun _ _ _ h=>h) (Or.inl ⟨by rfl,?_⟩) (by assumption) ?_
   rotate_left
   ·(intro w F;(try dsimp only at F);go_simp;try with_reducible rfl)
   refine wpAnyH_take (i:=15) (oi:=_) (v:=?_) rfl (by kernel_rfl) (by kernel_rfl) (by kernel_rfl) (fun _ _ _ h=>h) (Or.inl ⟨by rfl,?_⟩) (by assumption) ?_
   rotate_left
   ·(intro w F;(try dsimp only at F);go_simp;try with_reducible rfl)
   refine wpAnyH_take (i:=16) (oi:=_) (v:=?_) rfl (by kernel_rfl) (by kernel_rfl) (by kernel_rfl) (fun _ _ _ h=>h) (Or.inl ⟨by rfl,?_⟩) (by assumption) ?_
   rotate_left
   ·(intro w F;(try dsimp only at F);go_simp;try with_reducible rfl)
   refine wpAnyH_take (i:=17) (oi:=_) (v:=?_) rfl (by kernel_rfl) (by kernel_rfl) (by kernel_rfl) (fun _ _ _ h=>h) (Or.inl ⟨by rfl,?_⟩) (by assumption) ?_
   rotate_left
   ·(intro w F;(try dsimp only at F);go_simp;try with_reducible rfl)
   simp only[Act.put,List.setIfInBounds_toArray];refine wpAnyH_ready (rs:=[10]) (by kernel_rfl) (by simp) ?_;refine AllReadyH.cons (o:=_) rfl (fun K hK=>?_) AllReadyH.nil;go_simp;have x4:=Ip H D[q] b _ rfl;have x3:Below H.heap.size H ((H.alloc (.cells #[.int .u8 (bits .xor .u8 (D[q].toNat:Int) (b.toNat:Int))] 5)).drew):=((Below.refl _ H).alloc (Nat.le_refl _) _).drew;have H5:=hid (S9.out.below x3);have f5:=H5.out.cell (.head _) 1;simp only[mR,jK]at f5;obtain⟨O,x8⟩:∃O,O=(H.alloc (.cells #[.int .u8 (bits .xor .u8 (D[q].toNat:Int) (b.toNat:Int))] 5)).drew:=⟨_,rfl⟩;rw[<-x8]at x4 f5 H5 ⊢;refine hK.out _ _ f5 (fun U=>?_);clear hK K x3 x8;refine wpAnyH_ready (rs:=[11]) (by kernel_rfl) (by simp) ?_;refine AllReadyH.cons (o:=_) rfl (fun K hK=>?_) AllReadyH.nil;go_simp;refine hK.out _ _ f5 (fun U=>?_);clear hK K x4;refine wpAnyH_take (i:=12) (oi:=_) (v:=?_) rfl (by kernel_rfl) (by kernel_rfl) (by kernel_rfl) (fun _ _ _ h=>h) (Or.inl ⟨by rfl,?_⟩) (by assumption) ?_
   rotate_left
   ·(intro w F;(try dsimp only at F);go_simp;rw[if_neg (by omega)])
   refine wpAnyH_take (i:=18) (oi:=_) (v:=?_) rfl (by kernel_rfl) (by kernel_rfl) (by kernel_rfl) (fun _ _ _ h=>h) (Or.inl ⟨by rfl,?_⟩) (by assumption) ?_
   rotate_left
   ·(intro w F;(try dsimp only at F);go_simp;rw[if_neg (by omega)])
   refine wpAnyH_take (i:=19) (oi:=_) (v:=?_) rfl (by kernel_rfl) (by kernel_rfl) (by kernel_rfl) (fun _ _ _ h=>h) (Or.inl ⟨by rfl,?_⟩) (by assumption) ?_
   rotate_left
   ·(intro w F;(try dsimp only at F);go_simp;try with_reducible rfl)
   refine wpAnyH_done (by kernel_rfl) ?_ _;refine NoPanic.normal ?_;clear f0 f1 e0 e3 e4 x0 x1 S9;have f0:=H5.out.cell (.head _) 0;have f1:=H5.out.cell (.head _) 1;obtain⟨x0,x1⟩:=H5.out.xc i G;simp only[mR,jK]at f0 f1;have he:=hid (hu.out b O.drew hg (H5.out.below ⟨rfl,rfl,rfl,Nat.le_refl _,fun _ _=>rfl⟩));clear f5 hu;go_wp2;generalize D.extract 0 q++⟨#[D[q] ^^^ b]⟩++D.extract (q+1) D.size=D2 at *
   go_region_held3 (fun y=>y.cell? ⟨a.N,0,none⟩=some (.slice (some ⟨a.xb,0,none⟩) 2 a.xc)/\y.cell? ⟨a.xb,i,none⟩=some (.pointer (some ⟨a.C i,0,none⟩))/\y.cell? ⟨fb,0,none⟩=some (.int .i64 i)/\y.cell? ⟨fb,1,none⟩=some (.string D)) (first|assumption|go_keep) ((first|(go_at_call 29;refine he.out.mono ?_;rintro e w6 ⟨rfl,xf,x7⟩)))
   obtain⟨_,_,s0,_⟩:=xf;have h8:=hid (JQ x7.out i G);clear x7 f0 f1 x0 x1
   go_wp2_with (go_at_call 30;refine h8.out.mono ?_;rintro e w7 ⟨rfl,h7⟩;have H7:=hid h7;clear h7)
   go_ret
   exact⟨rfl,n,su HP.out,fun e=>absurd e hc.out,H7.out.ntf.iN⟩)
 go_wp2;go_ret;exact⟨rfl,n,su HP.out,fun _=>rfl,S9.out.ntf.iN⟩
end

end
end Go.Proofs.YtphbledmopchnaaGreatDoor.Sd
