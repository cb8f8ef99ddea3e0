import Derived.Test.YtphbledmopchnaaGreatDoorVea
open Go.Act renaming put->kg
open Go.Builtin renaming append_->eT,zeroCells->mE
open List renaming filter_eq_nil_iff->fB,length_pos_of_mem->fE
open Go.RowKit renaming intOf->eB
set_option maxHeartbeats 8000000
set_option maxRecDepth 100000
open Go renaming World->Wq,Value->WA,Calls->WB,TypeId->Vg
set_option linter.all false
namespace Go.Proofs.YtphbledmopchnaaGreatDoor.Sd
open Go.RowKit Go.Lib Mm Tryz
variable {b f i:Nat}{c w w' wr:Wq}{e:Vg}{oZ:Own}{x:WA}
section
section
variable {oZ aQ:Own} {w w':Wq} {a:Ad} {n:Net} {vb:WA} {E:Nat->Nat->bJ}
def LH(h:dQ oZ w a n vb E)(i:Nat)(c:i<2)(id b:Nat)(data:ByteArray)(s:(n.x i).kW=0)(d:id<4611686018427387903)(e:b<=4611686018427387903)(g:(n.x i).least<=id)(p:64<=(n.x i).bF/\(n.x i).bF<=400)(j:data.size+40<=(n.x i).bF)(k:(n.x i).aK.length<16)(r:∀f∈(n.x i).aK,(n.x i).aW<=f.aH)(o:(n.x i).aW<=b):qH 64 #[(aJ (a.C i) 0),uZ id,uZ b,.string data] w (iZ 0) fun w'=>Hid (∃v,Qv oZ w a vb E (T0 (60*(i+1))) (n.dA i ((n.x i).dg (AX id b data) v)) w'):=by obtain⟨l,t,m⟩:=h.sd i c;refine bH (LG (a.C i) (a.S i) id b data m (h.cn i c).1 s d e g p j k r o h.er (h.no0 i)) ?_;rintro w' ⟨v,q⟩;exact⟨rfl,v,h.sdq i c _ q⟩
def LJ(h:dQ oZ w a n vb E)(i:Nat)(j:i<2)(id d:Nat)(data:ByteArray)(D:(n.x i).kW=0)(p:id<4611686018427387903)(r:d<=4611686018427387903)(s:(n.x i).least<=id)(z:64<=(n.x i).bF/\(n.x i).bF<=400)(u:data.size<=1000000)(y:(n.x i).aK.length<=16)(B:∀f∈(n.x i).aK,(n.x i).aW<=f.aH)(en:Nat)(g:en=6/\(n.x i).bF<data.size+40\/en=3/\data.size+40<=(n.x i).bF/\16<=(n.x i).aK.length):qH 64 #[(aJ (a.C i) 0),uZ id,uZ d,.string data] w (iZ en) fun w'=>Hid (∃v,Qv oZ w a vb E (T0 (60*(i+1))) (n.dA i {n.x i with qv:=v}) w'):=by
 obtain⟨l,I,b⟩:=h.sd i j;refine(Yv (a.C i) (a.S i) id d data b (h.cn i j).1 D z y B en ?_ u ?_ h.er (h.no0 i)).mono ?_
 ·rcases g with⟨rfl,_⟩|⟨rfl,_⟩;·exact Yu
  ·exact qo 3 (.inr (.inl rfl))
 ·intro W m c x t A;have o:W.cell? (ay (a.S i) 234)=some (uZ ((n.x i).least:Int)):=by rw[t 234 (.inr rfl),b.bY.cell];exact b.cells.qA
  have k:W.cell? (ay (a.S i) 233)=some (n.x i).qv:=by rw[t 233 (.inl rfl),b.bY.cell];exact b.cells.jd
  rcases g with⟨rfl,H⟩|⟨rfl,hb1,hb2⟩;·exact Ul (a.S i) id d _ m c (some x) _ W o p r s aj
  ·obtain⟨F,G,C⟩:=gX b.qu.q;rw[C]at k;exact OU (a.S i) id d _ m c _ G (some x) F _ W k o p r s aj hb2
 ·rintro e w' ⟨rfl,v,q⟩;exact⟨rfl,v,h.sdq i j _ q⟩
end


structure DgR (N gb gc nb nc bx i nx dl pb:Nat) (B:Int) (S:ByteArray) (qL:Wq->Prop) (w2:Wq):Prop where
 c2:w2.cell? (ay N 2)=some (dh gb 2 gc)
 c3:w2.cell? (ay N 3)=some (dh nb 2 nc)
 n0:w2.cell? (ay nb i)=some (uZ nx)
 b3:w2.cell? (ay bx 3)=some (iZ B)
 b4:w2.cell? (ay bx 4)=some (.string S)
 ap:∃ga gn gp a2 n2 c2 w6,w2.cell? (ay gb i)=some (.slice ga gn gp)/\
  (∀ty,(eT #[49,49] ty #[.slice ga gn gp,(dh (w2.heap.size+1) 1 1)]).run prog (((w2.alloc (.cells #[uZ nx,uZ dl,.string S,.bool false] 51)).alloc (.cells #[aJ w2.heap.size 0] 52)).drew)=.ok (.slice a2 n2 c2) w6)/\
  w6.cell? (ay gb i)=some (.slice ga gn gp)/\w6.frozen? (ay gb i)=false/\w6.cell? (ay N 2)=some (dh gb 2 gc)/\w6.cell? (ay N 3)=some (dh nb 2 nc)/\w6.cell? (ay nb i)=some (uZ nx)/\w6.frozen? (ay nb i)=false/\w6.cell? (ay bx 3)=some (iZ B)/\w6.cell? (ay bx 4)=some (.string S)/\
  gb≠N/\gb≠nb/\gb≠bx/\nb≠N/\nb≠bx/\∀q,qL (((w6.setCell (ay gb i) (.slice a2 n2 c2)).setCell (ay nb i) (uZ ((nx:Int)+1+(pb:Int)))).drewN q)
def OV(N xb xc gb gc nb nc C i:Nat)(hi:i<2)(Sd A B:Int)(hA:kG A)(hB:kG B)(now nx u k p:Nat)(p5:cu A 9=k)(p0:cu B 3=p)(h9:k<9)(ha:p<3)(S:ByteArray)(h1:S.size+40<=u)(h2:u<=400)(h3:now<4611686018427387000)(h4:nx<4611686018427387000)(w f:Wq)(qL:Wq->Prop)(t:f=w.alloc (.cells (mM 4 Sd A B S).toArray 37))(c0:f.cell? (ay N 0)=some (dh xb 2 xc))(c3:f.cell? (ay N 3)=some (dh nb 2 nc))(c4:f.cell? (ay N 4)=some (uZ now))(c5:f.cell? (ay N 5)=some (iZ u))(x0:f.cell? (ay xb i)=some (aJ C 0))(n0:f.cell? (ay nb i)=some (uZ nx))(HC:∀y,bE f y->qH 64 #[aJ C 0,uZ nx,(uZ ((now:Int)+(k:Int))),.string S] y (iZ 0) fun e=>(e.cell? (ay N 0)=some (dh xb 2 xc)/\e.cell? (ay xb i)=some (aJ C 0)/\e.cell? (ay N 3)=some (dh nb 2 nc)/\e.cell? (ay nb i)=some (uZ nx)/\e.cell? (ay w.heap.size 4)=some (.string S))/\Hid (DgR N gb gc nb nc w.heap.size i nx (now+k) p B S qL e)):qH 37 #[aJ N 0,iZ i,.agg #[iZ 4,iZ Sd,iZ A,iZ B,.string S]] w (.bool true) fun w'=>qL w':=by
 have M:aL f w.heap.size 37 (mM 4 Sd A B S):=by rw[t];exact aL.new w 37 _
 have b2:=M.cell 2;have b3:=M.cell 3;have b4:=M.cell 4;simp only[mM,qml,qma]at b2 b3 b4;have wm:=aF fun q=>HC (f.drewN q) (dF f q);have uW:w.alloc (.cells #[iZ 4,iZ Sd,iZ A,iZ B,.string S] 37)=f:=t.symm;have g1:IntKind.i64.wrap ((u:Int)-40)=(u:Int)-40:=by rw[qnf];omega
 have g2:¬((u:Int)-40<(S.size:Int)):=aj;have v5:IntKind.u64.wrap (k:Int)=(k:Int):=by rw[qn5];omega
 have v6:IntKind.u64.wrap ((now:Int)+(k:Int))=(now:Int)+(k:Int):=by rw[qn5];omega
 have v1:IntKind.u64.wrap ((nx:Int)+1)=(nx:Int)+1:=by rw[qn5];omega
 have v0:IntKind.u64.wrap (p:Int)=(p:Int):=by rw[qn5];omega
 have v2:IntKind.u64.wrap ((nx:Int)+1+(p:Int))=(nx:Int)+1+(p:Int):=by rw[qn5];omega
 have h8:(i:Int)<2:=aj;have h7:(0:Int)<=(i:Int):=aj;clear HC t M;go_enter func37,ntmps37;go_wp2;clear uW;go_quiet (fail);go_wp2;go_region_held3 (fun y=>y.cell? (ay N 4)=some (uZ now)/\y.cell? (ay w.heap.size 2)=some (iZ A)) (first|assumption|go_keep) ((first|(go_at_call 32;refine(iO _ _ asZ gP _).mono ?_;rintro Z w4 ⟨rfl,g⟩;subst g)))
 go_wp2;go_region_held3 (fun y=>y.cell? (ay N 0)=some (dh xb 2 xc)/\y.cell? (ay xb i)=some (aJ C 0)/\y.cell? (ay N 3)=some (dh nb 2 nc)/\y.cell? (ay nb i)=some (uZ nx)/\y.cell? (ay w.heap.size 4)=some (.string S)) (first|assumption|go_keep) ((first|(go_at_call 64;refine(wm.out _).mono ?_;rintro Z e ⟨rfl,h0,HR⟩)))
 clear wm c0 c3 c4 c5 x0 n0 b2 b3 b4 h0;obtain⟨I,U,J,h6,l,ga,gn,gp,P,T,Q,L,R,run,k1,k2,k3,k4,k5,k6,k7,k8,m,F,H,h5,G,hP⟩:=HR.out;have HP:=aF hP;clear hP HR;have lN:=qmf e (ay N 2) (by rw[I]);have lb:=qmf e (ay nb i) (by rw[J]);have lx:=qmf e (ay w.heap.size 3) (by rw[h6]);have lg:=qmf e (ay gb i) (by rw[R]);simp only at lN lb lx lg;have r:∀b j v,b<e.heap.size->e.cell? (ay b j)=some v->(e.alloc (.cells #[uZ nx,(uZ ((now:Int)+(k:Int))),.string S,.bool false] 51)).cell? (ay b j)=some v:=fun b j v s h=>(qns _ _ _ s).trans h;have x:∀b j v,b<e.heap.size->e.cell? (ay b j)=some v->((e.alloc (.cells #[uZ nx,(uZ ((now:Int)+(k:Int))),.string S,.bool false] 51)).alloc (.cells #[aJ e.heap.size 0] 52)).cell? (ay b j)=some v:=fun b j v s h=>(qns _ _ _ rR).trans (r b j v s h);have f7:∀b j v,gb≠b->L.cell? (ay b j)=some v->(L.setCell (ay gb i) (.slice P T Q)).cell? (ay b j)=some v:=fun b j v s h=>by rw[World.cell?_setCell_far _ _ _ _ s];exact h
 have sA:=dw (r N 2 _ lN I) (dw (r N 3 _ lN U) (dw (r nb i _ lb J) (r w.heap.size 4 _ lx l)));have sB:=dw (x N 2 _ lN I) (dw (x N 3 _ lN U) (dw (x nb i _ lb J) (x w.heap.size 4 _ lx l)));have s6:=dw k3 (dw k4 (dw k5 k8));have V:=dw (f7 N 2 _ m k3) (dw (f7 N 3 _ m k4) (dw (f7 nb i _ F k5) (f7 w.heap.size 4 _ H k8)));have gA:=r gb i _ lg R;have gB:=x gb i _ lg R;have O:=aF sA;have W:=aF (dw I (dw U (dw J l)));have D:=aF sB;have S6:=aF s6;have X:=aF V;have Y:=f7 w.heap.size 3 _ H k7;have z:=aF (dw V.2.1 Y);have f9:∀b j v,nb≠b->(L.setCell (ay gb i) (.slice P T Q)).cell? (ay b j)=some v->((L.setCell (ay gb i) (.slice P T Q)).setCell (ay nb i) (uZ ((nx:Int)+1+(p:Int)))).cell? (ay b j)=some v:=fun b j v s h=>by rw[World.cell?_setCell_far _ _ _ _ s];exact h
 have S9:=aF (dw (f9 N 3 _ h5 V.2.1) (f9 w.heap.size 3 _ G Y));have zf:(L.setCell (ay gb i) (.slice P T Q)).frozen? (ay nb i)=false:=by rw[World.frozen?_setCell];exact k6
 clear r x f7 f9 sA sB s6 V Y;go_wp2;refine wp_region_held_drew (S:=fun y=>y.cell? (ay N 2)=some (dh gb 2 gc)/\y.cell? (ay N 3)=some (dh nb 2 nc)/\y.cell? (ay nb i)=some (uZ nx)/\y.cell? (ay w.heap.size 4)=some (.string S)) bO W.out (fun c=>?_);refine lZ 0 rfl ?_;refine lZ 1 rfl ?_;refine lZ 2 rfl ?_;refine lZ 3 rfl ?_;refine lZ 4 rfl ?_;refine lZ 5 rfl ?_;refine lZ 6 rfl ?_;refine lZ 7 rfl ?_;refine lZ 8 rfl ?_;refine lZ 9 rfl ?_;refine lZ 10 rfl ?_;refine lZ 12 rfl ?_;refine lZ 13 rfl ?_;refine lZ 14 rfl ?_;refine lZ 15 rfl ?_;refine lZ 16 rfl ?_;refine lZ 17 rfl ?_;refine lZ 18 rfl ?_;refine lZ 19 rfl ?_;refine lZ 20 rfl ?_;refine lZ 21 rfl ?_;refine lZ 22 rfl ?_;simp only[kg,qnp];refine wpAnyH_ready (rs:=[11,23]) bO aM ?_;refine AllReadyH.cons (o:=_) rfl (fun K d=>?_) (AllReadyH.cons (o:=_) rfl (fun K d=>?_) AllReadyH.nil);focus
  go_simp;refine d.out _ _ (W.out) (fun c=>?_);clear d K;refine Gb 23 rfl fun K d=>?_;go_simp;refine d.out _ _ (O.out) (fun c=>?_);clear d K;refine Gb 24 rfl fun K d=>?_;go_simp;refine d.out _ _ (D.out) (fun c=>?_);clear d K
 rotate_left;focus
  go_simp;refine d.out _ _ (O.out) (fun c=>?_);clear d K;refine wpAnyH_ready (rs:=[11,24]) bO aM ?_;refine AllReadyH.cons (o:=_) rfl (fun K d=>?_) (AllReadyH.cons (o:=_) rfl (fun K d=>?_) AllReadyH.nil);focus
   go_simp;refine d.out _ _ (O.out) (fun c=>?_);clear d K;refine Gb 24 rfl fun K d=>?_;go_simp;refine d.out _ _ (D.out) (fun c=>?_);clear d K
  rotate_left;focus
   go_simp;refine d.out _ _ (D.out) (fun c=>?_);clear d K;refine Gb 11 rfl fun K d=>?_;go_simp;refine d.out _ _ (D.out) (fun c=>?_);clear d K
 all_goals(
  refine Gb 25 rfl fun K d=>?_;refine gD _ (by rfl) _ _ _ _ (by rfl) _ _ (by rfl) (by rfl) _ _ (run _) ?_;refine d.out _ _ (S6.out) (fun c=>?_);clear d K;refine lZ 26 rfl ?_;simp only[kg,qnp];refine Gb 27 rfl fun K d=>?_;go_simp;refine d.out _ _ (X.out) (fun c=>?_);clear d K;refine wpAnyH_done bO ?_ _;clear R I U J l gA gB O D S6 W run k1 k2 k3 k4 k5;obtain⟨z2,z3,zn,_⟩:=X.out;clear X;go_wp2;refine wp_region_held_drew (S:=fun y=>y.cell? (ay N 3)=some (dh nb 2 nc)/\y.cell? (ay w.heap.size 3)=some (iZ B)) bO z.out (fun c=>?_);refine lZ 0 rfl ?_;refine lZ 1 rfl ?_;refine lZ 2 rfl ?_;refine lZ 3 rfl ?_;refine lZ 4 rfl ?_;refine lZ 5 rfl ?_;refine lZ 6 rfl ?_;refine lZ 7 rfl ?_;refine lZ 8 rfl ?_;refine lZ 9 rfl ?_;refine lZ 10 rfl ?_;refine lZ 13 rfl ?_;refine lZ 14 rfl ?_;simp only[kg,qnp];refine wpAnyH_ready (rs:=[11,15]) bO aM ?_;refine AllReadyH.cons (o:=_) rfl (fun K d=>?_) (AllReadyH.cons (o:=_) rfl (fun K d=>?_) AllReadyH.nil);focus
   go_simp;refine d.out _ _ (z.out) (fun c=>?_);clear d K;refine lZ 12 rfl ?_;simp only[kg,qnp];refine Gb 15 rfl fun K d=>?_;go_simp;go_at_call 32;refine(iO _ _ hB gP _).mono ?_;rintro Z w4 ⟨rfl,g⟩;subst g;go_wp2_with fail;refine d.out _ _ (z.out) (fun c=>?_);clear d K;refine lZ 16 rfl ?_
  rotate_left;focus
   go_simp;go_at_call 32;refine(iO _ _ hB gP _).mono ?_;rintro Z w4 ⟨rfl,g⟩;subst g;go_wp2_with fail;refine d.out _ _ (z.out) (fun c=>?_);clear d K;refine lZ 16 rfl ?_;simp only[kg,qnp];refine Gb 11 rfl fun K d=>?_;go_simp;refine d.out _ _ (z.out) (fun c=>?_);clear d K;refine lZ 12 rfl ?_
  all_goals(
   refine lZ 17 rfl ?_;refine lZ 18 rfl ?_;simp only[kg,qnp];refine Gb 19 rfl fun K d=>?_;go_simp;refine d.out _ _ (S9.out) (fun c=>?_);clear d K;refine wpAnyH_done bO ?_ _;go_wp2;go_ret;exact⟨rfl,HP.out _⟩))
def Yw(N xb xc nb nc C i:Nat)(I:i<2)(Sd A B:Int)(now nx d:Nat)(S:ByteArray)(G:d<S.size+40)(H:64<=d/\d<=400)(w b:Wq)(j:Wq->Prop)(e:b=w.alloc (.cells (mM 4 Sd A B S).toArray 37))(t:b.cell? (ay N 0)=some (dh xb 2 xc))(u:b.cell? (ay N 3)=some (dh nb 2 nc))(v:b.cell? (ay N 4)=some (uZ now))(x:b.cell? (ay N 5)=some (iZ d))(K:b.cell? (ay xb i)=some (aJ C 0))(J:b.cell? (ay nb i)=some (uZ nx))(g:∀y,bE b y->qH 64 #[aJ C 0,uZ nx,uZ now,.string S] y (iZ 6) fun c=>(c.cell? (ay N 0)=some (dh xb 2 xc)/\c.cell? (ay xb i)=some (aJ C 0)/\c.cell? (ay N 3)=some (dh nb 2 nc)/\c.cell? (ay nb i)=some (uZ nx)/\c.cell? (ay N 4)=some (uZ now)/\c.cell? (ay w.heap.size 4)=some (.string S))/\Hid (∀q,j (c.drewN q))):qH 37 #[aJ N 0,iZ i,.agg #[iZ 4,iZ Sd,iZ A,iZ B,.string S]] w (.bool true) fun w'=>j w':=by
 have f:aL b w.heap.size 37 (mM 4 Sd A B S):=by rw[e];exact aL.new w 37 _
 have l:=f.cell 4;simp only[mM,qml,qma]at l;have s:=aF fun q=>g (b.drewN q) (dF b q);have r:w.alloc (.cells #[iZ 4,iZ Sd,iZ A,iZ B,.string S] 37)=b:=e.symm;have D:IntKind.i64.wrap ((d:Int)-40)=(d:Int)-40:=by rw[qnf];omega
 have F:(d:Int)-40<(S.size:Int):=aj;have p:(i:Int)<2:=aj;have o:(0:Int)<=(i:Int):=aj;clear g e f;go_enter func37,ntmps37;go_wp2;clear r;go_quiet (fail);go_wp2;go_region_held3 (fun y=>y.cell? (ay N 0)=some (dh xb 2 xc)/\y.cell? (ay xb i)=some (aJ C 0)/\y.cell? (ay N 3)=some (dh nb 2 nc)/\y.cell? (ay nb i)=some (uZ nx)/\y.cell? (ay N 4)=some (uZ now)/\y.cell? (ay w.heap.size 4)=some (.string S)) (first|assumption|go_keep) ((first|(go_at_call 64;refine(s.out _).mono ?_;rintro z c ⟨rfl,m,k⟩)))
 all_goals(
  go_wp2;go_ret;exact⟨rfl,k.out 0⟩)
def Um(N xb xc gb gc nb nc C i:Nat)(Z:i<2)(Sd A B:Int)(Y:kG A)(now nx f e:Nat)(p5:cu A 9=e)(M:e<9)(S:ByteArray)(V:S.size+40<=f)(W:f<=400)(X:now<4611686018427387000)(H:Option Addr)(j I:Nat)(J:16<=j)(w b:Wq)(t:Wq->Prop)(d:b=w.alloc (.cells (mM 4 Sd A B S).toArray 37))(x:b.cell? (ay N 0)=some (dh xb 2 xc))(z:b.cell? (ay N 3)=some (dh nb 2 nc))(D:b.cell? (ay N 4)=some (uZ now))(F:b.cell? (ay N 5)=some (iZ f))(R:b.cell? (ay xb i)=some (aJ C 0))(O:b.cell? (ay nb i)=some (uZ nx))(m:∀y,bE b y->qH 64 #[aJ C 0,uZ nx,(uZ ((now:Int)+(e:Int))),.string S] y (iZ 3) fun c=>(c.cell? (ay N 0)=some (dh xb 2 xc)/\c.cell? (ay xb i)=some (aJ C 0)/\c.cell? (ay N 3)=some (dh nb 2 nc)/\c.cell? (ay nb i)=some (uZ nx)/\c.cell? (ay w.heap.size 4)=some (.string S))/\Hid (c.cell? (ay N 2)=some (dh gb 2 gc)/\c.cell? (ay gb i)=some (.slice H j I)/\∀q,t (c.drewN q))):qH 37 #[aJ N 0,iZ i,.agg #[iZ 4,iZ Sd,iZ A,iZ B,.string S]] w (.bool true) fun w'=>t w':=by
 have g:aL b w.heap.size 37 (mM 4 Sd A B S):=by rw[d];exact aL.new w 37 _
 have p:=g.cell 2;have r:=g.cell 4;simp only[mM,qml,qma]at p r;have u:=aF fun q=>m (b.drewN q) (dF b q);have Q:w.alloc (.cells #[iZ 4,iZ Sd,iZ A,iZ B,.string S] 37)=b:=d.symm;have T:IntKind.i64.wrap ((f:Int)-40)=(f:Int)-40:=by rw[qnf];omega
 have U:¬((f:Int)-40<(S.size:Int)):=aj;have v5:IntKind.u64.wrap (e:Int)=(e:Int):=by rw[qn5];omega
 have v6:IntKind.u64.wrap ((now:Int)+(e:Int))=(now:Int)+(e:Int):=by rw[qn5];omega
 have L:(i:Int)<2:=aj;have K:(0:Int)<=(i:Int):=aj;have P:(16:Int)<=(j:Int):=aj;clear m d g;go_enter func37,ntmps37;go_wp2;clear Q;go_quiet (fail);go_wp2;go_region_held3 (fun y=>y.cell? (ay N 4)=some (uZ now)/\y.cell? (ay w.heap.size 2)=some (iZ A)) (first|assumption|go_keep) ((first|(go_at_call 32;refine(iO _ _ asZ gP _).mono ?_;rintro G w4 ⟨rfl,l⟩;subst l)))
 go_wp2;go_region_held3 (fun y=>y.cell? (ay N 0)=some (dh xb 2 xc)/\y.cell? (ay xb i)=some (aJ C 0)/\y.cell? (ay N 3)=some (dh nb 2 nc)/\y.cell? (ay nb i)=some (uZ nx)/\y.cell? (ay w.heap.size 4)=some (.string S)) (first|assumption|go_keep) ((first|(go_at_call 64;refine(u.out _).mono ?_;rintro G c ⟨rfl,k,o⟩)))
 obtain⟨r2,r3,s⟩:=o.out;have v:=aF s;clear u x z D F R O p r k s o;go_wp2;go_ret;exact⟨rfl,v.out 0⟩
end
section
def OW{t:Vg}{z:WA}(f:prog.underlying t=some (.slice e))(g:(prog.info? e).map (fun i=>(i.zero,i.size,i.bytes))=some (some z,1,b))(d:z.cells=#[z])(j:z.oneCell'=true)(h:b<=104):GK t e z 1 b:=
 ⟨f,g,fun n=>by rw[d];simp[mE],fun n v c=>by rw[d]at c;simp[mE]at c;obtain⟨i,_,rfl⟩:=c;have:i % 1=0:=aj;simp[this,j],h⟩
def qhz:GK 49 52 (.pointer none) 1 8:=OW bO bO rfl rfl aj
def Net.grN(n:Net)(i:Nat)(b c:Nat)(S:ByteArray)(gv:WA):Net:=
 {n with gv:=fun j=>if j=i then gv else n.gv j,gr:=fun j=>if j=i then n.gr i++[⟨n.nx i,b,S,false⟩]else n.gr j,nx:=fun j=>if j=i then n.nx i+1+c else n.nx j}
def Net.dgN(n:Net)(i:Nat)(A B:Int)(S:ByteArray)(v gv:WA):Net:=(n.dA i ((n.x i).dg (AX (n.nx i) (n.now+cu A 9) S) v)).grN i (n.now+cu A 9) (cu B 3) S gv
section
variable {oZ:Own} {w:Wq} {a:Ad} {n:Net} {vb:WA}
def dQ.gnb{E:Nat->Nat->bJ}(h:dQ oZ w a n vb E)(i:Nat)(d:i<2):w.cell? (ay a.nb i)=some (uZ (n.nx i:Int))/\w.cell? (ay a.gb i)=some (n.gv i)/\w.cell? (ay a.N 3)=some (dh a.nb 2 a.nc):=by
 obtain⟨⟨r,c⟩,_⟩:=h.ns;obtain⟨⟨e,b⟩,_⟩:=h.gs;rcases(show i=0\/i=1 by omega)with rfl|rfl;·exact⟨c.cell 0,b.cell 0,by rw[h.ou.1.cell];rfl⟩
 ·exact⟨c.cell 1,b.cell 1,by rw[h.ou.1.cell];rfl⟩
def Un{eZ gy:Own}{w0:Wq}(g:dQ gy c a n vb (ends n))(K:Kp TN eZ gy w0 c)(i:Nat)(hi:i<2)(V h G:Nat)(Sd A B:Int)(S:ByteArray)(O:aL c V 37 (mM 4 Sd A B S))(ho:gy V=0)(h9:(n.gr i).length<=1000000)(qL:Wq->Prop)(hP:∀gv w',nk eZ w0 a (n.grN i h G S gv) w'->qL w'):DgR a.N a.gb a.gc a.nb a.nc V i (n.nx i) h G B S qL c:=by
 obtain⟨e1,e2,e3⟩:=g.gnb i hi;obtain⟨_,_,c2,_⟩:=g.cells;obtain⟨P,hG,hf,hc,u⟩:=g.gt i hi;obtain⟨⟨gr,W⟩,F⟩:=g.gs;obtain⟨⟨nr,X⟩,L⟩:=g.ns;obtain⟨ga,gp,E⟩:=gX hG;obtain⟨m,hm⟩:=bT ((n.gr i).length);rw[<-hm]at hG E hf u h9;obtain⟨k,D⟩:=bT (c.alloc (.cells #[(uZ (n.nx i:Int)),uZ h,.string S,.bool false] 51));obtain⟨U,H⟩:=bT ((k.alloc (.cells [aJ c.heap.size 0].toArray 52)).drew);have hg:k.heap.size=c.heap.size+1:=by rw[D];simp
 have Te:bE c k:=by rw[D];exact(qlw _ c).alloc (qj _) _
 have h5:bE k U:=by rw[H];exact((qlw _ k).alloc (qj _) _).drew
 have s:bE c U:=Te.trans (h5.mono aj);have BA:aL k c.heap.size 51 (gmC ⟨n.nx i,h,S,false⟩):=by rw[D];exact aL.new c 51 _
 have Q:aL U c.heap.size 51 (gmC ⟨n.nx i,h,S,false⟩):=BA.of_heap (h5.block _ aj);have BB:aL U k.heap.size 52 [aJ c.heap.size 0]:=by rw[H];exact aL.new k 52 _
 obtain⟨nP,h0⟩:=bT (fun b=>if b=c.heap.size then 207+i else gy b:Own);have K3:Kp [] gy nP c U:=⟨s.os,s.tape,s.output,s.size,fun b O _=>s.block b O,fun b O=>by rw[h0];show(if b=_ then _ else _)=_;rw[aV aj]⟩;have ot:nP c.heap.size=207+i:=by rw[h0];exact bM rfl
 obtain⟨v6,v,d,run,Y,K6⟩:=fO qhz (hG.kp K3 aM) (ay k.heap.size 0) 1 1 [aJ c.heap.size 0] rfl (fun z hz=>by rw[qmi.1 hz];rfl) (fun t y hy=>by
  have e:(ay k.heap.size 0).add t=(ay k.heap.size t):=by rw[qmb,qm5]
  rw[e,BB.cell,hy]) aj
 obtain⟨l,o,rfl⟩:=gX Y;have f:Kp [205+i] gy d c v:=(K3.mono aM).trans K6;have UN:=g.xJ f rR;have I:=bU W f (by rw[F];simp;omega);have J:=bU X f (by rw[L];simp;omega);have Z:=bU O f (by rw[ho];simp;omega);have n1:a.gb≠a.N:=fun e=>by rw[e,g.ou.2]at F;cases F
 have n2:a.gb≠a.nb:=fun e=>by rw[e,L]at F;cases F
 have n3:a.gb≠V:=fun e=>by rw[e,ho]at F;cases F
 have n4:a.nb≠a.N:=fun e=>by rw[e,g.ou.2]at L;cases L
 have n5:a.nb≠V:=fun e=>by rw[e,ho]at L;cases L
 have h7:v.cell? (ay a.gb i)=some (n.gv i):=by rw[I.cell];rcases(show i=0\/i=1 by omega)with rfl|rfl<;>rfl
 have h8:v.cell? (ay a.nb i)=some (uZ (n.nx i:Int)):=by rw[J.cell];rcases(show i=0\/i=1 by omega)with rfl|rfl<;>rfl
 refine⟨c2,e3,e1,O.cell 3,O.cell 4,ga,m,gp,l,m+1,o,v,by rw[e2,E],fun ty=>?_,by rw[h7,E],I.frozen i,by rw[UN.cell];rfl,by rw[UN.cell];rfl,h8,J.frozen i,Z.cell 3,Z.cell 4,n1,n2,n3,n4,n5,fun q=>?_⟩;·have:=run ty;rw[hg,E,H,D]at this;exact this
 ·have h2:d a.gb=201:=by rw[f.ext _ W.lt];exact F
  have h3:d a.nb=202:=by rw[f.ext _ X.lt];exact L
  have h4:d c.heap.size=207+i:=by rw[K6.ext _ Q.lt];exact ot
  have K7:Kp [201] d d v (v.setCell (ay a.gb i) (.slice l (m+1) o)):=Kp.set d v _ _ _ (by show d a.gb∈_;rw[h2];simp);have K8:Kp [202] d d (v.setCell (ay a.gb i) (.slice l (m+1) o)) ((v.setCell (ay a.gb i) (.slice l (m+1) o)).setCell (ay a.nb i) (uZ ((n.nx i:Int)+1+(G:Int)))):=Kp.set d _ _ _ _ (by show d a.nb∈_;rw[h3];simp);obtain⟨w8,hk⟩:=bT ((v.setCell (ay a.gb i) (.slice l (m+1) o)).setCell (ay a.nb i) (uZ ((n.nx i:Int)+1+(G:Int))));have M:=bU (I.setCell i (.slice l (m+1) o)) K8 (by rw[h2];simp);have N:=(bU J K7 (by rw[h3];simp)).setCell i (uZ ((n.nx i:Int)+1+(G:Int)));rw[<-hk]at K8 M N ⊢;have R:Kp [201,202] d d v w8:=(K7.mono aM).trans (K8.mono aM);have T:Kp [201,202,205+i] gy d c w8:=(f.mono aM).trans (R.mono aM);have he:∀p∈P,p<c.heap.size:=fun p hp=>by obtain⟨j,hj,e⟩:=List.getElem_of_mem hp;have:=(u j aj).1.lt;rw[qly,qm3 hj,qpw,e]at this;exact this
  have h6:GmM d w8 i (.slice l (m+1) o) (n.gr i++[⟨n.nx i,h,S,false⟩]):=by
   refine⟨P++[c.heap.size],?_,rR,?_,fun j hj=>?_⟩;·rw[qm0,qnb,<-hm];exact(Y.kp K7 rR).kp K8 rR
   ·refine List.nodup_append.2 ⟨hc,aM,fun x hx y hy=>?_⟩;have:=he x hx;rw[qmi.1 hy];omega
   ·rw[qm0,<-hm]at hj;simp only[qmp,qnc]at hj;by_cases e:j=m
    ·have ex:(P++[c.heap.size]).getD j 0=c.heap.size:=by
      rw[qly,qn0 aj,show j-P.length=0 by omega];rfl
     have ey:(n.gr i++[(⟨n.nx i,h,S,false⟩:Gm)]).getD j vN=⟨n.nx i,h,S,false⟩:=by rw[qly,qn0 aj,show j-(n.gr i).length=0 by omega];rfl
     rw[ex,ey];exact⟨bU (bU Q K6 (by rw[ot];simp)) R (by rw[h4];simp;omega),h4⟩
    ·have ex:(P++[c.heap.size]).getD j 0=P.getD j 0:=by
      rw[qly,qmw aj,<-qly]
     have ey:(n.gr i++[(⟨n.nx i,h,S,false⟩:Gm)]).getD j vN=(n.gr i).getD j vN:=by rw[qly,qmw aj,<-qly]
     rw[ex,ey];obtain⟨p1,p2⟩:=u j aj;exact⟨bU p1 T (by rw[p2];simp;omega),by rw[T.ext _ p1.lt];exact p2⟩
  have r:=g.grm T rR (n.grN i h G S (.slice l (m+1) o)).gv (n.grN i h G S (.slice l (m+1) o)).gr (n.grN i h G S (.slice l (m+1) o)).nx ?_ ?_ ?_;·exact hP (.slice l (m+1) o) _ ⟨d,vb,r.below (dF _ q),K.trans ((T.mono fun x hx=>jZ.2 (by simp at hx;omega)).trans (Kp.below (dF _ q)))⟩
  ·rcases(show i=0\/i=1 by omega)with rfl|rfl;·exact⟨gr,M⟩
   ·exact⟨gr,M⟩
  ·intro C ha;by_cases e:C=i;·subst e;show GmM d w8 C (if C=C then _ else _) (if C=C then _ else _);rw[bM rfl,bM rfl];exact h6
   ·show GmM d w8 C (if C=i then _ else _) (if C=i then _ else _);rw[aV e,aV e];exact(g.gt C ha).kp T rR rR
  ·rcases(show i=0\/i=1 by omega)with rfl|rfl;·exact⟨nr,by simpa[Net.grN]using N⟩
   ·exact⟨nr,by simpa[Net.grN]using N⟩
def qbu(n:Net)(b:Nat)(f:Fr)(v:WA)(i k:Nat):ends n i k=ends (n.dA b ((n.x b).dg f v)) i k:=nu (n:=n) (i:=b) (M:=(n.x b).dg f v) ⟨fun _=>z_ _,fun _=>⟨rfl,rfl⟩⟩ i k
def QH(n:Net)(b:Nat)(v:WA)(i k:Nat):ends n i k=ends (n.dA b {n.x b with qv:=v}) i k:=nu (n:=n) (i:=b) (M:={n.x b with qv:=v}) ⟨fun _=>z_ _,fun _=>⟨rfl,rfl⟩⟩ i k
def DgO(n:Net)(b i:Nat)(A B:Int)(S:ByteArray)(n':Net):Prop:=
 (S.size+40<=b/\(n.x i).aK.length<16/\∃v c,n'=n.dgN i A B S v c)\/((b<S.size+40\/16<=(n.x i).aK.length)/\∃v,n'=n.dA i {n.x i with qv:=v})
structure DgA (n:Net) (bF i:Nat):Prop where
 y:(n.x i).kW=0
 l:(n.x i).least<=n.nx i
 nx:n.nx i<4611686018427387000
 nw:n.now<4611686018427387000
 m:(n.x i).bF=bF
 m2:64<=bF/\bF<=400
 q:(n.x i).aK.length<=16
 qg:(n.x i).aK.length<=(n.gr i).length
 d:∀f∈(n.x i).aK,(n.x i).aW<=f.aH
 t:(n.x i).aW=n.now
 gl:(n.gr i).length<=1000000
def LK(h:dQ oZ w a n vb (ends n))(c:i<2)(H:DgA n a.bF i)(Sd A B:Int)(hA:kG A)(hB:kG B)(S:ByteArray)(hS:S.size<=1000000):qH 37 #[aJ a.N 0,iZ i,.agg #[iZ 4,iZ Sd,iZ A,iZ B,.string S]] w (.bool true) fun x=>∃p,DgO n a.bF i A B S p/\nk oZ w a p x:=by
 obtain⟨E,o⟩:=bT (w.alloc (.cells (mM 4 Sd A B S).toArray 37));have G:bE w E:=by rw[o];exact(qlw _ w).alloc (qj _) _
 have X:aL E w.heap.size 37 (mM 4 Sd A B S):=by rw[o];exact aL.new w 37 _
 have t:=h.loc.below G;have ob:loc oZ w.heap.size w.heap.size=0:=iY _ _ _ (qj _);have L:Kp TN (loc oZ w.heap.size) (loc oZ w.heap.size) w E:=Kp.below G;obtain⟨M,_,_,N,O,_⟩:=t.cells;obtain⟨P,_,Q⟩:=t.gnb i c;obtain⟨r,u⟩:∃r,cu A 9=r:=⟨_,rfl⟩;obtain⟨K,D⟩:∃K,cu B 3=K:=⟨_,rfl⟩;have J:r<9:=by rw[<-u];exact dL A 9 aj
 have V:K<3:=by rw[<-D];exact dL B 3 aj
 have Z:((n.now+r:Nat):Int)=(n.now:Int)+(r:Int):=aj;have U:=H.nx;have I:=H.nw;have f:=H.m2;have z:∀{y s:Wq} {C:Own},bE E y->Kp (T0 (60*(i+1))) (loc oZ w.heap.size) C y s->aL s w.heap.size 37 (mM 4 Sd A B S)/\C w.heap.size=0:=fun b g=>⟨bU (eY b X) g (by rw[ob];exact fun e=>bR (fC.1 e)),by rw[g.ext _ (eY b X).lt];exact ob⟩;by_cases l:a.bF<S.size+40;·refine Yw a.N a.xb a.xc a.nb a.nc (a.C i) i c Sd A B n.now (n.nx i) a.bF S l f w E (fun x=>∃p,DgO n a.bF i A B S p/\nk oZ w a p x) o M Q N O (t.xs i c).1 P (fun y b=>?_);refine bH (LJ (t.below b) i c (n.nx i) n.now S H.y aj aj H.l (by rw[H.m];exact f) hS H.q H.d 6 (.inl ⟨rfl,by rw[H.m];exact l⟩)) ?_;rintro s ⟨v,C,d,g⟩;obtain⟨F,_,_,d4,_⟩:=d.cells;obtain⟨f1,_,f3⟩:=d.gnb i c;refine⟨rfl,⟨F,(d.xs i c).1,f3,f1,d4,(z b g).1.cell 4⟩,fun q=>⟨_,.inr ⟨.inl l,v,rfl⟩,nk.j_ ⟨C,vb,(d.vS (E':=ends _) (fun j k _ _=>QH n i v j k)).below (dF s q),L.trans ((Kp.below b).trans ((g.mono (sD i c)).trans (Kp.below (dF s q))))⟩⟩⟩
 by_cases m:16<=(n.x i).aK.length;·obtain⟨ps,hG,_⟩:=t.gt i c;obtain⟨ga,gp,T⟩:=gX hG;refine Um a.N a.xb a.xc a.gb a.gc a.nb a.nc (a.C i) i c Sd A B hA n.now (n.nx i) a.bF r u J S aj f.2 I ga (n.gr i).length gp (bR H.qg) w E (fun x=>∃p,DgO n a.bF i A B S p/\nk oZ w a p x) o M Q N O (t.xs i c).1 P (fun y b=>?_);have:=LJ (t.below b) i c (n.nx i) (n.now+r) S H.y aj aj H.l (by rw[H.m];exact f) hS H.q H.d 3 (.inr ⟨rfl,by rw[H.m];omega,m⟩);rw[Z]at this;refine bH this ?_;rintro s ⟨v,C,d,g⟩;obtain⟨F,_,d2,_⟩:=d.cells;obtain⟨f1,f2,f3⟩:=d.gnb i c;have R:s.cell? (ay a.gb i)=some (n.gv i):=f2;refine⟨rfl,⟨F,(d.xs i c).1,f3,f1,(z b g).1.cell 4⟩,d2,by rw[R,T],fun q=>⟨_,.inr ⟨.inr m,v,rfl⟩,nk.j_ ⟨C,vb,(d.vS (E':=ends _) (fun j k _ _=>QH n i v j k)).below (dF s q),L.trans ((Kp.below b).trans ((g.mono (sD i c)).trans (Kp.below (dF s q))))⟩⟩⟩
 refine OV a.N a.xb a.xc a.gb a.gc a.nb a.nc (a.C i) i c Sd A B hA hB n.now (n.nx i) a.bF r K u D J V S aj f.2 I U w E (fun x=>∃p,DgO n a.bF i A B S p/\nk oZ w a p x) o M Q N O (t.xs i c).1 P (fun y b=>?_);have h3:=t.below b;have:=LH h3 i c (n.nx i) (n.now+r) S H.y aj aj H.l (by rw[H.m];exact f) (by rw[H.m];omega) aj H.d (by rw[H.t];omega);rw[Z]at this;refine bH this ?_;rintro s ⟨v,C,d,g⟩;obtain⟨F,_⟩:=d.cells;obtain⟨f1,_,f3⟩:=d.gnb i c;obtain⟨Y,W⟩:=z b g;refine⟨rfl,⟨F,(d.xs i c).1,f3,f1,Y.cell 4⟩,?_⟩;have g3:=d.vS (E':=ends (n.dA i ((n.x i).dg (AX (n.nx i) (n.now+r) S) v))) (fun j k _ _=>qbu n i _ v j k);exact Un (eZ:=loc oZ w.heap.size) (w0:=w) g3 (L.trans ((Kp.below b).trans (g.mono (sD i c)))) i c w.heap.size (n.now+r) K Sd A B S Y W H.gl _ fun gv x hF=>⟨_,.inl ⟨aj,aj,v,gv,rfl⟩,nk.j_ (by unfold Net.dgN;rw[u,D];exact hF)⟩
def qbw(N xb xc C i:Nat)(D:i<2)(Sd A B:Int)(t:kG Sd)(z:kG A)(F:cu Sd 2=i)(S:ByteArray)(w d:Wq)(j:Wq->Prop)(b:d=w.alloc (.cells (mM 4 Sd A B S).toArray 37))(y:d.cell? (ay N 0)=some (dh xb 2 xc))(I:d.cell? (ay xb i)=some (aJ C 0))(f:qH 37 #[aJ N 0,iZ i,.agg #[iZ 4,iZ Sd,iZ A,iZ B,.string S]] d (.bool true) fun k=>j k):qH 22 #[aJ N 0,.agg #[iZ 4,iZ Sd,iZ A,iZ B,.string S]] w (.bool true) fun v=>j v:=by
 have E:cu A 8<8:=dL A 8 aj;have c:aL d w.heap.size 37 (mM 4 Sd A B S):=by rw[b];exact aL.new w 37 _
 have m:=c.cell 0;have o:=c.cell 1;have p:=c.cell 2;have q:=c.cell 3;have r:=c.cell 4;simp only[mM,qml,qma]at m o p q r;have x:=aF f;have G:w.alloc (.cells #[iZ 4,iZ Sd,iZ A,iZ B,.string S] 37)=d:=b.symm;have u:(i:Int)<2:=aj;clear f b c;go_enter qnn,qnm;go_wp2_with (first|(go_at_call 32;refine(iO _ _ asZ gP _).mono ?_;rintro s H ⟨rfl,e⟩;subst e)|(go_at_call 37;refine x.out.mono ?_;rintro s k ⟨rfl,g⟩;have l:=aF g;clear g));go_ret;exact⟨rfl,l.out⟩
def AY(h:dQ oZ w a n vb (ends n)){Sd:Int}(A B:Int)(i:kG Sd)(k:kG A)(t:kG B)(H:DgA n a.bF (cu Sd 2))(S:ByteArray)(u:S.size<=1000000):qH 22 #[aJ a.N 0,.agg #[iZ 4,iZ Sd,iZ A,iZ B,.string S]] w (.bool true) fun f=>∃b,DgO n a.bF (cu Sd 2) A B S b/\nk oZ w a b f:=by
 have j:cu Sd 2<2:=dL Sd 2 aj;obtain⟨l,d⟩:=bT (w.alloc (.cells (mM 4 Sd A B S).toArray 37));have c:bE w l:=by rw[d];exact(qlw _ w).alloc (qj _) _
 have g:=h.below c;obtain⟨p,_⟩:=g.cells;refine qbw a.N a.xb a.xc (a.C (cu Sd 2)) (cu Sd 2) j Sd A B i k rfl S w l (fun f=>∃b,DgO n a.bF (cu Sd 2) A B S b/\nk oZ w a b f) d p (g.xs _ j).1 ((LK g j H Sd A B k t S u).mono ?_);rintro e f ⟨rfl,b,q,o,m,r,s⟩;exact⟨rfl,b,q,o,m,r,(Kp.below c).trans s⟩
end

end
section
section
variable {eZ:Own} {w0 w w':Wq} {a:Ad} {L:List (Nat×Vg×bJ)} {n:Net}
def av.UO(A:av)(v:WA):av:={A.Ph with qv:=v}
def qfp(A:av)(v:WA):Sm A (A.UO v):=⟨fun _=>z_ _,fun _=>⟨rfl,rfl⟩⟩
def QI(h:oV eZ w0 a L n w)(i:Nat)(b:i<2)(m:(n.x i).aW+1<18446744073709551616)(l:(n.x i).aK.length<=16):qH 38 #[(aJ (a.C i) 0)] w (.tuple #[]) fun w'=>∃v,oV eZ w0 a L (n.dA i ((n.x i).UO v)) w':=by obtain⟨o,vb,e,f,g,_⟩:=h.ex;refine bH (qbg e i b m l) ?_;rintro w' ⟨v,p,c,d⟩;exact⟨rfl,v,oV.go (n':=n.dA i ((n.x i).UO v)) f g (c.vS fun j k _ _=>nu (qfp _ v) j k) (d.mono (sD i b))⟩
def oV.now(h:oV eZ w0 a L n w)(t:Nat):oV eZ w0 a L {n with now:=t} (w.setCell (ay a.N 4) (uZ t)):=by obtain⟨o,vb,b,c,d,_⟩:=h.ex;exact oV.go c d (n':={n with now:=t}) (b.qf8 t) (Kp.set o w _ _ TN (by rw[b.ou.2];exact jZ.2 aj))
def oV.qk5(h:oV eZ w0 a L n w):w.cell? (ay a.N 4)=some (uZ n.now)/\w.frozen? (ay a.N 4)=false:=by obtain⟨o,vb,b,d,e,_⟩:=h.ex;obtain⟨_,_,_,c,_⟩:=b.cells;exact⟨c,b.ou.1.frozen 4⟩
def nk.then{o:Own}{w b:Wq}{n:Net}(K:Kp TN oZ o w b)(h:nk o b a n c):nk oZ w a n c:=by obtain⟨f,vb,d,e⟩:=h;exact⟨f,vb,d,K.trans e⟩
def LM(h:oV eZ w0 a L n w)(p:gI a.bF n)(c:Nat)(e:c<=1000000000)(l:iC c n)(k:qM n 0)(d:a.bF<=400)(m:n.dI.length<=1000000000)(K Sd A B:Int)(S:ByteArray)(i:kG A)(j:kG B):qH 39 #[aJ a.N 0,.agg #[iZ K,iZ Sd,iZ A,iZ B,.string S]] w (.bool true) fun w'=>Hid (∃b,EU a.bF n b/\iC c b/\(n.dI=[]->b=n)/\(K=7->n.dI≠[]->Ui A B n b)/\nk eZ w0 a b w'):=by obtain⟨o,vb,f,g,v,_⟩:=h.ex;refine bH (Yo f p e l k d m K Sd A B S i j) ?_;rintro w' ⟨b,q,r,s,t,u⟩;exact⟨rfl,b,q,r,s,t,u.then g⟩
end

def Net.jk(n:Net)(b c:WA):Net:={(n.dA 0 ((n.x 0).UO b)).dA 1 ((n.x 1).UO c)with now:=n.now+1}
def qN(n:Net)(b c:WA)(i:Nat)(d:i<2):∃v,(n.jk b c).x i=(n.x i).UO v:=by
 rcases(show i=0\/i=1 by omega)with rfl|rfl;·exact⟨b,rfl⟩
 ·exact⟨c,rfl⟩
def QJ{A B:av}(b:gM A)(c:eH A B)(d:eH B A)(v:WA):rH A B (A.UO v):=
 vk b c d _ v _ A.least (fun f e=>b.q f (qm4.1 e).1) (qlz (qo1 _ _) b.ql)
def Yx{A:av}(h:Bd A)(v:WA):Bd (A.UO v):=⟨h.o,h.i,h.g,h.lm,h.mt,h.wy,h.ls,h.ky,h.wl,h.ll,h.nm,h.cm,fun x b=>Nat.le_succ_of_le (h.tk x b),h.ib⟩
def Yy{n:Net}(h:gI f n)(d e:WA):gI f (n.jk d e):=by have b:gI f {n with now:=n.now+1}:=h.sub n.dI (fun _ h=>h) (n.now+1);have c:=jF b 0 aj ((n.x 0).UO d) (QJ (b.loc 0 aj) (b.two 0 aj) (b.uS 0 aj) d) (Yx (b.bd 0 aj) d) rfl rfl;exact jF c 1 aj ((n.x 1).UO e) (QJ (c.loc 1 aj) (c.two 1 aj) (c.uS 1 aj) e) (Yx (c.bd 1 aj) e) rfl rfl
def zk{n:Net}{B:Nat}(h:qM n (B+1))(c d:WA):qM (n.jk c d) B:=⟨fun i b=>by
 have f:=h.1 i b;obtain⟨v,e⟩:=qN n c d i b;rw[e];show(n.x i).next+_<_/\(n.x i).aW+1+B<_
 omega,by have:=h.2;show n.now+1+B<_;omega⟩
def iC.aW{K:Nat}{n:Net}(h:iC K n)(c g:WA):iC (K+1) (n.jk c g):=by
 refine⟨fun i b=>?_,fun i b=>?_,fun i b=>?_,h.bg,fun i b=>?_,by have:=h.nw;show n.now+1<=_;omega⟩;·obtain⟨v,e⟩:=qN n c g i b;obtain⟨l,j⟩:=qN n c g (1-i) aj;rw[e,j];have d:=h.dg i b;refine⟨d.inc,d.lt,d.ls,fun f k=>?_,d.cm,qlz (qo1 _ _) d.ql⟩;obtain⟨p,q⟩:=qm4.1 (show f∈(n.x i).aK.filter (fun f=> !decide (f.aH<(n.x i).aW+1))from k);rw[h.tk i b]at q;simp only[qok,decide_eq_false_iff_not]at q;exact⟨(d.q f p).1,by show n.now+1<=_;omega⟩
 ·obtain⟨v,e⟩:=qN n c g i b;rw[e];exact congrArg (·+1) (h.tk i b)
 ·obtain⟨v,e⟩:=qN n c g i b;rw[e];exact h.ms i b
 ·have:=h.ln i b;show(n.gr i).length<=_/\n.nx i<=_;omega
def iC.dga{g K:Nat}{n:Net}(h:iC K n)(e:gI g n)(k:K<=1000000)(i:Nat)(c:i<2):DgA n g i:=by have d:=h.dg i c;have l:=h.ln i c;have b:=(e.bd i c).mt;rw[e.mt i c]at b;exact⟨(e.loc i c).kW,d.ls,aj,bR h.nw,e.mt i c,b,(e.loc i c).ql,d.ql,fun f j=>by rw[h.tk i c];exact(d.q f j).2,h.tk i c,aj⟩
def qfq{K:Nat}{n:Net}(h:iC K n)(d:K<=1000000)(i:Nat)(c:i<2)(A:Int)(S:ByteArray)(f:b<=400)(e:S.size+40<=b):QD (AX (n.nx i) (n.now+cu A 9) S):=by have:=h.ln i c;have:=h.nw;have:=dL A 9 aj;exact⟨rfl,by show n.nx i<=dH;unfold dH;omega,by show n.now+cu A 9<=dH;unfold dH;omega,by show S.size<=360;omega⟩
def Yz{H K B0:Nat}{n n':Net}(u:gI H n)(h:iC K n)(Q:K<=1000000)(i:Nat)(t:i<2)(A B:Int)(S:ByteArray)(G:qM n B0)(o:DgO n H i A B S n'):gI H n'/\iC (K+1) n'/\qM n' B0/\n'.dI=n.dI:=by
 have P:=(u.bd i t).mt;rw[u.mt i t]at P;have z:=u.loc i t;have N:=u.two i t;have O:=u.uS i t;have l:=u.bd i t;rcases o with⟨R,X,v,J,rfl⟩|⟨_,v,rfl⟩
 ·have W:=qfq h Q i t A S P.2 R;have s:=vk z N O ((n.x i).aK++[AX (n.nx i) (n.now+cu A 9) S]) v (n.x i).aW (n.nx i+1) (fun f m=>by
   rcases qm7.1 m with m|m;·exact z.q f m
   ·rw[qmi.1 m];exact W) (by rw[qm0];simp;omega)
  have p:=jF u i t ((n.x i).dg (AX (n.nx i) (n.now+cu A 9) S) v) s ⟨l.o,l.i,l.g,l.lm,l.mt,l.wy,l.ls,l.ky,l.wl,l.ll,l.nm,l.cm,l.tk,l.ib⟩ rfl rfl;refine⟨⟨p.loc,p.two,p.bd,p.mt,p.ct,p.dI⟩,?_,G.dA i rfl rfl,rfl⟩;obtain⟨x,C⟩:=bT (n.now+cu A 9);have U:=dL B 3 aj;have F:∀j,(n.dgN i A B S v J).x j=if j=i then(n.x i).dg (AX (n.nx i) x S) v else n.x j:=fun j=>by rw[C];rfl
  have I:∀j,(n.dgN i A B S v J).gr j=if j=i then n.gr i++[⟨n.nx i,x,S,false⟩]else n.gr j:=fun j=>by rw[C];rfl
  have en:∀j,(n.dgN i A B S v J).nx j=if j=i then n.nx i+1+cu B 3 else n.nx j:=fun j=>rfl;have E:QC (n.gr i++[⟨n.nx i,x,S,false⟩])=QC (n.gr i)++[(n.nx i,x,S)]:=qnb;refine⟨fun j q=>?_,fun j q=>?_,fun j q=>?_,fun y V f m k=>?_,fun j q=>?_,by have:=h.nw;show n.now<=_;omega⟩
  ·have d:=h.dg j q;rw[F,F,I,en];show DgI n.now _ _ _ _;by_cases e:j=i
   ·subst e;rw[bM rfl,bM rfl,bM rfl,aV aj];refine⟨?_,?_,by show n.nx j+1<=_;omega,?_,?_,?_⟩;·unfold Inc;rw[E];exact qpr.2 ⟨d.inc,List.pairwise_singleton _ _,fun a T b G=>by rw[qmi.1 G];exact d.lt a T⟩
    ·rw[E];intro c r;rcases qm7.1 r with r|r;·have:=d.lt c r;omega
     ·rw[qmi.1 r];show n.nx j<_;omega
    ·intro f m;unfold Mx;rw[E];rcases qm7.1 (show f∈(n.x j).aK++[AX (n.nx j) x S]from m)with m|m;·exact⟨qnr _ (d.q f m).1,(d.q f m).2⟩
     ·rw[qmi.1 m];exact⟨qne _ (by simp[AX]),by show n.now<=x;omega⟩
    ·intro g D r;rcases qm7.1 D with D|D;·exact d.cm g D r
     ·rw[qmi.1 D]at r;cases r
    ·show((n.x j).aK++[AX (n.nx j) x S]).length<=_;rw[qm0,qm0];have:=d.ql;simp;omega
   ·rw[aV e,aV e,aV e];have M:1-j=i:=aj;rw[bM M];rw[M]at d;exact d.sg rfl rfl rfl rfl
  ·rw[F];split;·rename_i e;rw[e]at q;exact h.tk i q
   ·exact h.tk j q
  ·rw[F];split;·rename_i e;rw[e]at q;exact h.ms i q
   ·exact h.ms j q
  ·have:=h.bg y V f m k;rw[I];split;·rename_i e;rw[e]at this;unfold Mx at this ⊢;rw[E];exact qnr _ this
   ·exact this
  ·have:=h.ln j q;rw[I,en];split;·rename_i e;rw[e]at this;rw[qm0];simp;omega
   ·omega
 ·have s:=vk z N O (n.x i).aK v (n.x i).aW (n.x i).least z.q z.ql;exact⟨jF u i t {n.x i with qv:=v} s ⟨l.o,l.i,l.g,l.lm,l.mt,l.wy,l.ls,l.ky,l.wl,l.ll,l.nm,l.cm,l.tk,l.ib⟩ rfl rfl,h.set' aj i ⟨rfl,rfl,rfl,rfl,rfl⟩ rfl,G.dA i rfl rfl,rfl⟩
section
variable {oZ:Own} {w:Wq} {a:Ad} {n:Net} {vb:WA}
def IW(h:dQ oZ w a n vb (ends n))(p:gI a.bF n){l:Nat}(Gu:l<1000000000)(C:iC l n)(m:qM n 1)(x:a.bF<=400)(T:n.dI.length<=1000000000)(Sd A B:Int)(O:kG Sd)(M:kG A)(N:kG B)(S:ByteArray):qH 22 #[aJ a.N 0,.agg #[iZ 5,iZ Sd,iZ A,iZ B,.string S]] w (.bool true) fun w'=>∃e b c,EU a.bF (n.jk b c) e/\iC (l+1) e/\(n.dI=[]->e=n.jk b c)/\nk oZ w a e w':=by
 obtain⟨i,U⟩:∃i,cu Sd 2=i:=⟨_,rfl⟩;have Q:i<2:=by rw[<-U];exact dL Sd 2 aj
 have hk:cu A 8<8:=dL A 8 aj;have f:=(Ac h).alloc 37 (mM 5 Sd A B S);obtain⟨z,g⟩:=bT (w.alloc (.cells (mM 5 Sd A B S).toArray 37));rw[<-g]at f;have G:=f.cell (.head _) 0;have H:=f.cell (.head _) 1;have I:=f.cell (.head _) 2;obtain⟨c0,x1⟩:=f.xc i Q;simp only[mM,qml,qma]at G H I;obtain⟨c4,z4⟩:=f.qk5;have u:=m.1 0 aj;have v:=m.1 1 aj;have P:=m.2;have o:=f.now (n.now+1);obtain⟨w2,j⟩:=bT (z.setCell (ay a.N 4) (uZ ((n.now+1:Nat):Int)));rw[<-j]at o;obtain⟨d0,y0⟩:=o.xc 0 aj;have k:=aF (QI o 0 aj (by show(n.x 0).aW+1<_;omega) (p.loc 0 aj).ql);have s:Hid (∀q b,oV (loc oZ w.heap.size) w a [(w.heap.size,37,mM 5 Sd A B S)] (Net.dA {n with now:=n.now+1} 0 ((n.x 0).UO b)) q->qH 38 #[(aJ (a.C 1) 0)] q (.tuple #[]) fun w'=>∃c,oV (loc oZ w.heap.size) w a [(w.heap.size,37,mM 5 Sd A B S)] (n.jk b c) w'):=
  fun q b J=>QI J 1 aj (by show(n.x 1).aW+1<_;omega) (p.loc 1 aj).ql
 have D:Hid (∀r b c,oV (loc oZ w.heap.size) w a [(w.heap.size,37,mM 5 Sd A B S)] (n.jk b c) r->qH 39 #[aJ a.N 0,.agg #[iZ 5,iZ Sd,iZ A,iZ B,.string S]] r (.bool true) fun w'=>Hid (∃e b c,EU a.bF (n.jk b c) e/\iC (l+1) e/\(n.dI=[]->e=n.jk b c)/\nk oZ w a e w')):=fun r b c K=>by refine bH (LM K (Yy p b c) (l+1) aj (C.aW b c) (zk m b c) x T 5 Sd A B S M N) ?_;rintro w' ⟨e,V,W,X,_,Y⟩;exact⟨rfl,e,b,c,V,W,X,Y.j_⟩
 have uW:w.alloc (.cells #[iZ 5,iZ Sd,iZ A,iZ B,.string S] 37)=z:=g.symm;have Z:z.setCell (ay a.N 4) (uZ ((n.now:Int)+1))=w2:=j.symm;have R:(i:Int)<2:=aj;clear g j h p C m f o u v;go_enter qnn,qnm;go_wp2_with (first|(go_at_call 32;refine(iO _ _ asZ gP _).mono ?_;rintro t r ⟨rfl,y⟩;subst y)|(go_at_call 38;refine k.out.mono ?_;rintro t q ⟨rfl,b,d⟩;clear k;have E:=aF d;obtain⟨d1,y1⟩:=d.xc 1 aj;clear d)|(go_at_call 38;refine(s.out _ _ E.out).mono ?_;rintro t w5 ⟨rfl,c,d⟩;have F:=aF d;have s0:=d.cell (.head _) 0;have s1:=d.cell (.head _) 1;have s2:=d.cell (.head _) 2;have s3:=d.cell (.head _) 3;have s4:=d.cell (.head _) 4;simp only[mM,qml,qma]at s0 s1 s2 s3 s4;clear d)|(go_at_call 39;refine(D.out _ _ _ F.out).mono ?_;rintro t w6 ⟨rfl,d⟩));go_ret;exact⟨rfl,d.out⟩
def LP(h:dQ oZ w a n vb (ends n))(l:gI a.bF n){e:Nat}(o:e<=1000000000)(k:iC e n)(j:qM n 0)(f:a.bF<=400)(E:n.dI.length<=1000000000)(K Sd A B:Int)(Q:¬K=1)(R:¬K=2)(T:¬K=3)(U:¬K=4)(V:¬K=5)(W:¬K=6)(G:¬K=10)(z:kG Sd)(x:kG A)(y:kG B)(S:ByteArray):qH 22 #[aJ a.N 0,.agg #[iZ K,iZ Sd,iZ A,iZ B,.string S]] w (.bool true) fun w'=>∃b,EU a.bF n b/\iC e b/\(K=7->n.dI≠[]->Ui A B n b)/\nk oZ w a b w':=by
 obtain⟨i,H⟩:∃i,cu Sd 2=i:=⟨_,rfl⟩;have C:i<2:=by rw[<-H];exact dL Sd 2 aj
 have P:cu A 8<8:=dL A 8 aj;have c:=(Ac h).alloc 37 (mM K Sd A B S);obtain⟨m,d⟩:=bT (w.alloc (.cells (mM K Sd A B S).toArray 37));rw[<-d]at c;have q:=c.cell (.head _) 0;have r:=c.cell (.head _) 1;have s:=c.cell (.head _) 2;have t:=c.cell (.head _) 3;have u:=c.cell (.head _) 4;obtain⟨O,x1⟩:=c.xc i C;simp only[mM,qml,qma]at q r s t u;have p:Hid (qH 39 #[aJ a.N 0,.agg #[iZ K,iZ Sd,iZ A,iZ B,.string S]] m (.bool true) fun w'=>Hid (∃b,EU a.bF n b/\iC e b/\(K=7->n.dI≠[]->Ui A B n b)/\nk oZ w a b w')):=by refine bH (LM c l e o k j f E K Sd A B S x y) ?_;rintro w' ⟨b,I,J,_,M,N⟩;exact⟨rfl,b,I,J,M,N.j_⟩
 have X:w.alloc (.cells #[iZ K,iZ Sd,iZ A,iZ B,.string S] 37)=m:=d.symm;have D:(i:Int)<2:=aj;clear d h l k j c;go_enter qnn,qnm;go_wp2_with (first|(go_at_call 32;refine(iO _ _ asZ gP _).mono ?_;rintro v Y ⟨rfl,g⟩;subst g)|(go_at_call 39;refine p.out.mono ?_;rintro v Z ⟨rfl,F⟩));go_ret;exact⟨rfl,F.out⟩
structure StO (bF B Kg:Nat) (n n':Net):Prop where
 p:gI bF n'
 g:iC Kg n'
 nb:qM n' B
 bl:n'.dI.length<=n.dI.length+24
def EU.sto{d B c:Nat}{n b n':Net}(h:EU d b n')(f:iC c n')(e:qM b B)(g:b.dI=n.dI):StO d B c n n':=⟨h.p,f,h.nb e,by have:=h.bl;rw[g]at this;omega⟩
def qbx(h:dQ oZ w a n vb (ends n))(b:gI a.bF n){t:Nat}(Q:t<1000000)(f:iC t n)(v:Nat)(e:qM n (v+1))(l:a.bF<=400)(u:n.dI.length<=1000000000)(K Sd A B:Int)(d:kG Sd)(j:kG A)(p:kG B)(S:ByteArray)(x:S.size<=1000000):qH 22 #[aJ a.N 0,.agg #[iZ K,iZ Sd,iZ A,iZ B,.string S]] w (.bool true) fun w'=>∃k,StO a.bF v (t+1) n k/\nk oZ w a k w':=by
 have c:cu Sd 2<2:=dL Sd 2 aj;by_cases y:K=1;·subst y;refine bH (QE h b Sd A B d j S x) ?_;rintro w' q;exact⟨rfl,_,⟨jF b _ c _ (Jz (b.loc _ c) (b.two _ c) (b.uS _ c) _ _) (Qh (b.bd _ c) _ _) rfl rfl,f.set' aj _ ⟨rfl,rfl,rfl,rfl,rfl⟩ rfl,e.less.dA _ rfl rfl,qnu _ _⟩,q⟩
 by_cases z:K=2;·subst z;refine bH (Gv h b Sd A B d j S) ?_;rintro w' q;exact⟨rfl,_,⟨jF b _ c _ (Ci (b.loc _ c) (b.two _ c) (b.uS _ c) _) (FY (b.bd _ c) _) rfl rfl,f.set' aj _ ⟨rfl,rfl,rfl,rfl,rfl⟩ rfl,e.less.dA _ rfl rfl,qnu _ _⟩,q⟩
 by_cases C:K=3;·subst C;refine bH (Yr h b Sd A B d j p S) ?_;rintro w' q;exact⟨rfl,_,⟨jF b _ c _ (Q7 (b.loc _ c) (b.two _ c) (b.uS _ c) _ _) (WY (b.bd _ c) _ _) rfl rfl,f.set' aj _ ⟨rfl,rfl,rfl,rfl,rfl⟩ rfl,e.less.dA _ rfl rfl,qnu _ _⟩,q⟩
 by_cases D:K=4;·subst D;refine bH (AY h A B d j p (f.dga b aj _ c) S x) ?_;rintro w' ⟨k,o,q⟩;obtain⟨G,H,I,J⟩:=Yz b f aj _ c A B S e.less o;exact⟨rfl,k,⟨G,H,I,by rw[J];omega⟩,q⟩
 by_cases E:K=5;·subst E;refine bH (IW h b aj f ⟨fun i c=>bR (e.1 i c),bR e.2⟩ l u Sd A B d j p S) ?_;rintro w' ⟨k,O,P,m,g,_,s⟩;exact⟨rfl,k,m.sto g (zk e O P) rfl,s⟩
 by_cases F:K=6;·subst F;refine bH (Yq h b f e.to l u Sd A B d j S) ?_;rintro w' ⟨M,N,m,g,s⟩;refine⟨rfl,_,⟨OJ b _ c g,(f.vT b _ c m g.w).mono aj,OL e _ g (yY m),?_⟩,s⟩;show(n.dI++(zq N).map _).length<=_;rw[qm0,qmc];unfold zq;rw[qmc];have:=g.next;have:=g.top;omega
 by_cases r:K=10;·subst r;refine bH (qbs h b Sd A B d j p S) ?_;rintro w' q;exact⟨rfl,_,⟨jF b _ c _ (JD (b.loc _ c) (b.loc _ aj) (b.two _ c) (b.uS _ c) _ _) (Qi (b.bd _ c) _ _) rfl rfl,f.set' aj _ ⟨rfl,rfl,rfl,rfl,rfl⟩ rfl,e.less.dA _ rfl rfl,qnu _ _⟩,q⟩
 refine bH (LP h b aj f e.to l u K Sd A B y z C D E F r d j p S) ?_;rintro w' ⟨k,m,g,_,s⟩;exact⟨rfl,k,m.sto (g.mono aj) e.less rfl,s⟩
end

end
section
def FlR:Nat->Net->Net->Prop
 |0,n,n'=>n'=n
 |i+1,n,n'=>∃b,FlR i n b/\∃M c,(b.x i).kQ M c/\n'=b.vT i M c
def CmR(l:List (Nat×Nat×List Fr)):Nat->Net->Net->Prop
 |0,n,n'=>n'=n
 |j+1,n,n'=>∃b,CmR l j n b/\∃M,(b.x (l.getD j (0,0,[])).1).ji (l.getD j (0,0,[])).2.1 (l.getD j (0,0,[])).2.2 M 0/\n'=(b.dA (l.getD j (0,0,[])).1 M).iD (l.getD j (0,0,[])).1
def rdN(n:Net)(i k:Nat):Net:=n.dA i ((n.x i).fT k (((n.x i).cK k).rd (4096:Nat)).2)
def UQ:Nat->Net->Net->Prop
 |0,n,n'=>n'=n
 |c+1,n,n'=>∃b,UQ c n b/\RdK ((b.x (1-c / 8)).out (c % 8)) ((b.x (c / 8)).cK (c % 8)) 4096/\n'=rdN b (c / 8) (c % 8)
def RoR(n n':Net):Prop:=∃d e b,FlR 2 (n.jk d e) b/\∃c,CmR b.dI b.dI.length {b with dI:=[]} c/\UQ 16 c n'
def Jk:Nat->Net->Net->Prop
 |0,n,n'=>n'=n
 |t+1,n,n'=>∃b,Jk t n b/\RoR b n'
def Gk(B:Nat)(n:Net):Prop:=∃b,b+B<=900000/\iC b n
structure LQ (eZ:Own) (w0:Wq) (a:Ad) (l:List (Nat×Nat×List Fr)) (vl:WA) (B:Nat) (n:Net) (w:Wq):Prop where
 ex:∃o vb,dQ o w a n vb (ends n)/\Kp TN eZ o w0 w/\GT o 204 62 2 w vl l.length (jG l)
 p:gI a.bF {n with dI:=l}
 g:Gk B {n with dI:=l}
 nb:qM n B
 b0:n.dI=[]
section
variable {eZ:Own} {w0 w w':Wq} {a:Ad} {l:List (Nat×Nat×List Fr)} {vl:WA} {n:Net} {B:Nat}
def LQ.below(h:LQ eZ w0 a l vl B n w)(b:bE w w'):LQ eZ w0 a l vl B n w':=by obtain⟨o,f,c,d,e⟩:=h.ex;exact⟨⟨o,f,c.below b,d.trans (Kp.below b),e.kp (Kp.below (T:=[]) b) aM⟩,h.p,h.g,h.nb,h.b0⟩
def LQ.xc(h:LQ eZ w0 a l vl B n w)(i:Nat)(c:i<2):w.cell? (ay a.N 0)=some (dh a.xb 2 a.xc)/\w.cell? (ay a.xb i)=some (aJ (a.C i) 0):=by obtain⟨o,f,b,d,e⟩:=h.ex;exact⟨b.cells.1,(b.xs i c).1⟩
def YA(h:GT oZ 204 62 2 w vl l.length (jG l))(k:Nat)(m:k<l.length):∃g c,vl=(dh g l.length c)/\w.cell? (ay g (k*2))=some (iZ ((l.getD k (0,0,[])).1:Int))/\w.cell? (ay g (k*2+1))=some (sV (bP (l.getD k (0,0,[])).2.1 (l.getD k (0,0,[])).2.2)):=by
 rcases h with⟨_,e,_⟩|⟨g,cap,cs,ev,ho,hB,hc1,hc2,hc3,hc4,BN,_⟩;·omega
 have f:(jG l).drop (k*2)=jG (l.drop k):=(vO l k).symm;have d:l.drop k=l.getD k (0,0,[])::l.drop (k+1):=by rw[qnq m,qly,qm3 m];rfl
 have b:∀j v,j<l.length*2->(jG l)[j]?=some v->w.cell? (ay g j)=some v:=fun j v p o=>by rw[hB.cell];rw[<-BN,qm6,bM p]at o;exact o
 refine⟨g,cap,ev,b _ _ aj ?_,b _ _ aj ?_⟩
 ·have:((jG l).drop (k*2))[0]?=(jG l)[k*2]?:=by rw[qmu];rfl
  rw[<-this,f,d];rfl
 ·have:((jG l).drop (k*2))[1]?=(jG l)[k*2+1]?:=by rw[qmu]
  rw[<-this,f,d];rfl
def LQ.at(h:LQ eZ w0 a l vl B n w)(k:Nat)(d:k<l.length):∃g c,vl=(dh g l.length c)/\w.cell? (ay g (k*2))=some (iZ ((l.getD k (0,0,[])).1:Int))/\w.cell? (ay g (k*2+1))=some (sV (bP (l.getD k (0,0,[])).2.1 (l.getD k (0,0,[])).2.2)):=by obtain⟨o,j,e,f,b⟩:=h.ex;exact YA b k d
def LQ.mem(h:LQ eZ w0 a l vl B n w)(k:Nat)(b:k<l.length):(l.getD k (0,0,[])).1<2/\Mw a.bF (n.x (1-(l.getD k (0,0,[])).1)) (n.x (l.getD k (0,0,[])).1) (l.getD k (0,0,[])).2:=
 h.p.dI (l.getD k (0,0,[])) (by rw[qly,qm3 b];exact qmz _)
structure DlM (eZ:Own) (w0:Wq) (a:Ad) (l:List (Nat×Nat×List Fr)) (vl:WA) (B:Nat) (n:Net) (i:Nat) (M:av) (w:Wq):Prop where
 ex:∃o vb,dQ o w a (n.dA i M) vb (ends (n.dA i M))/\Kp TN eZ o w0 w/\GT o 204 62 2 w vl l.length (jG l)
 r:∃Kg,Kg+B<=900000/\RcO a.bF Kg {n with dI:=l} i (Net.dA {n with dI:=l} i M)
 nb:qM n B
 b0:n.dI=[]
def qby(h:LQ eZ w0 a l vl B n w)(g:a.bF<=400)(k:Nat)(r:k<l.length):qH 29 #[.pointer (some ⟨a.C (l.getD k (0,0,[])).1,0,none⟩),sV (bP (l.getD k (0,0,[])).2.1 (l.getD k (0,0,[])).2.2)] w (.tuple #[iZ 0,(iZ (-1))]) fun w'=>∃M,(n.x (l.getD k (0,0,[])).1).ji (l.getD k (0,0,[])).2.1 (l.getD k (0,0,[])).2.2 M 0/\DlM eZ w0 a l vl B n (l.getD k (0,0,[])).1 M w':=by
 obtain⟨o,E,z,A,C⟩:=h.ex;obtain⟨c,d⟩:=h.mem k r;obtain⟨u,t,f⟩:=h.g;have b:l.getD k (0,0,[])∈l:=by rw[qly,qm3 r];exact qmz _
 generalize l.getD k (0,0,[])=y at *
 have m:gI a.bF n:=by
  have:=h.p.sub [] (fun y d=>by cases d) n.now;have e:n={n with dI:=[]}:=by have:=h.b0;cases n;simp_all
  rw[e];exact this
 refine bH (Qw z m h.nb.to y.1 c y.2 d g (f.ms y.1 c)) ?_;rintro w' ⟨v,p,D,x,q⟩;have s:=DL p;exact⟨rfl,v,p,⟨D,E,x.vS fun j k _ _=>nu s j k,A.trans (q.mono (sD y.1 c)),C.kp q (fun e=>bR (fC.1 e))⟩,⟨u,t,Lv aj (uU h.p) f h.nb.to y.1 c y.2 d (f.bg y b) p⟩,h.nb,h.b0⟩
section
variable {i:Nat} {M:av}
def DlM.at(h:DlM eZ w0 a l vl B n i M w)(k:Nat)(d:k<l.length):∃g c,vl=(dh g l.length c)/\w.cell? (ay g (k*2))=some (iZ ((l.getD k (0,0,[])).1:Int))/\w.cell? (ay g (k*2+1))=some (sV (bP (l.getD k (0,0,[])).2.1 (l.getD k (0,0,[])).2.2)):=by obtain⟨o,j,e,f,b⟩:=h.ex;exact YA b k d
def DlM.xc(h:DlM eZ w0 a l vl B n i M w)(j:Nat)(c:j<2):w.cell? (ay a.N 0)=some (dh a.xb 2 a.xc)/\w.cell? (ay a.xb j)=some (aJ (a.C j) 0):=by obtain⟨o,f,b,d,e⟩:=h.ex;exact⟨b.cells.1,(b.xs j c).1⟩
def qbz(h:DlM eZ w0 a l vl B n i M w)(p:i<2):qH 30 #[aJ a.N 0,iZ i] w (.bool true) fun w'=>LQ eZ w0 a l vl B ((n.dA i M).iD i) w':=by obtain⟨o,t,f,g,m⟩:=h.ex;obtain⟨d,c,r⟩:=h.r;refine bH (Qy f i p r.ms r.gl r.ok) ?_;rintro w' ⟨s,e,b⟩;exact⟨rfl,⟨s,t,e.vS (E':=ends ((n.dA i M).iD i)) fun j k _ _=>nu (OO ((n.dA i M).x i)) j k,g.trans (b.mono fun x q=>jZ.2 (by simp at q;omega)),m.kp b rR⟩,r.o.p,⟨d,c,r.g⟩,r.o.nb (show qM {n with dI:=l} B from h.nb),h.b0⟩
end
end

end
section
def Fs(oZ:Own)(w:Wq)(a:Ad)(B:Nat)(P:Net->Prop)(w':Wq):Prop:=∃n,P n/\gI a.bF n/\qM n B/\Gk B n/\nk oZ w a n w'
section
variable {oZ:Own} {w wr:Wq} {a:Ad} {B:Nat} {P Q:Net->Prop}
def Fs.imp(h:Fs oZ w a B P wr)(b:∀n,P n->Q n):Fs oZ w a B Q wr:=by obtain⟨n,p,q⟩:=h;exact⟨n,b n p,q⟩
def qc0(h:Fs oZ w a (B+1) P wr)(f:a.bF<=400)(m:∀n,P n->n.dI=[]):qH 22 #[aJ a.N 0,.agg #[iZ 5,iZ 0,iZ 0,iZ 0,.string ⟨#[]⟩]] wr (.bool true) fun k=>Hid (Fs oZ w a B (fun j=>∃n c d,P n/\j=n.jk c d) k):=by
 obtain⟨n,p,t,e,⟨l,z,r⟩,o,A,q,K⟩:=h;have g:kG 0:=by unfold kG;omega
 have b:=m n p;refine bH (IW q t aj r ⟨fun i s=>bR (e.1 i s),bR e.2⟩ f (by rw[b];simp) 0 0 0 g g g ⟨#[]⟩) ?_;rintro k ⟨j,c,d,u,y,v,x⟩;obtain rfl:=v b;exact⟨rfl,n.jk c d,⟨n,c,d,p,rfl⟩,u.p,zk e c d,⟨l+1,aj,y⟩,x.then K⟩
def YB(h:Fs oZ w a (B+1) P wr)(j:a.bF<=400)(i:Nat)(c:i<2)(v:∀n,P n->n.dI.length<=1000):qH 23 #[aJ a.N 0,iZ i] wr (.bool true) fun t=>Hid (Fs oZ w a B (fun s=>∃n,P n/\∃M b,(n.x i).kQ M b/\s=n.vT i M b/\s.dI.length<=n.dI.length+24) t):=by obtain⟨n,p,g,m,⟨u,E,q⟩,o,F,y,K⟩:=h;have z:=v n p;refine(Ee y g m.to i c j aj (fun M b r x C f A k=>((q.dg i c).q f (g.late i c r x C f A k)).2)).mono ?_;rintro e t ⟨rfl,M,b,l,d,D⟩;refine⟨rfl,n.vT i M b,⟨n,p,M,b,l,rfl,?_⟩,OJ g i c d,OL m i d (yY l),⟨u,aj,q.vT g i c l d.w⟩,D.then K⟩;show(n.dI++(zq b).map _).length<=_;rw[qm0,qmc];unfold zq;rw[qmc];have:=d.next;have:=d.top;omega
def qc7(h:Fs oZ w a B P wr)(i k:Nat)(c:i<2)(m:k<8):qH 31 #[aJ a.N 0,iZ i,iZ k,iZ 4096] wr (.bool true) fun d=>Hid (Fs oZ w a B (fun q=>∃n,P n/\RdK ((n.x (1-i)).out k) ((n.x i).cK k) 4096/\q=rdN n i k) d):=by obtain⟨n,p,b,j,⟨f,e,l⟩,o,s,g,K⟩:=h;refine bH (Qx g b i k 4096 c m aj) ?_;rintro d r;exact⟨rfl,_,⟨n,p,Yb ((b.loc (1-i) aj).wr k) ((b.uS i c).rd k) 4096,rfl⟩,jF b _ c _ (JD (b.loc _ c) (b.loc _ aj) (b.two _ c) (b.uS _ c) _ _) (Qi (b.bd _ c) _ _) rfl rfl,j.dA _ rfl rfl,⟨f,e,l.dA i ⟨rfl,rfl,rfl,rfl,rfl⟩ rfl⟩,r.then K⟩
def YC(h:Fs oZ w a B P wr):∃c e d,wr.cell? (ay a.N 8)=some (.slice c e d)/\wr.frozen? (ay a.N 8)=false/\Hid (∃n,P n/\e=n.dI.length/\LQ oZ w a n.dI (.slice c e d) B {n with dI:=[]} (wr.setCell (ay a.N 8) nZ)):=by obtain⟨n,p,m,k,⟨i,g,l⟩,o,r,b,K⟩:=h;obtain⟨_,_,_,_,_,j,_⟩:=b.cells;obtain⟨c,d,rfl⟩:=gX b.bg;have f:Kp [200] o o wr (wr.setCell (ay a.N 8) nZ):=Kp.set o wr _ _ _ (by rw[b.ou.2];simp);exact⟨c,_,d,j,b.ou.1.frozen 8,n,p,rfl,⟨o,_,b.X4 [] (.inl ⟨rfl,rfl,rfl⟩),K.trans (f.mono fun x q=>jZ.2 (by simp at q;omega)),b.bg.kp f aM⟩,m,⟨i,g,l⟩,k,rfl⟩
def LQ.fs{l:List (Nat×Nat×List Fr)}{q:WA}{n:Net}(h:LQ oZ w a l q B n wr)(p:P n):Fs oZ w a B P wr:=by
 obtain⟨o,m,i,j,r⟩:=h.ex;have c:gI a.bF n:=by
  have:=h.p.sub [] (fun y d=>by cases d) n.now;have e:n={n with dI:=[]}:=by have:=h.b0;cases n;simp_all
  rw[e];exact this
 obtain⟨f,g,k⟩:=h.g;have b:iC f n:=by
  have:=k.sub [] (fun y d=>by cases d);have e:n={n with dI:=[]}:=by have:=h.b0;cases n;simp_all
  rw[e];exact this
 exact⟨n,p,c,h.nb,⟨f,g,b⟩,o,m,i,j⟩
end

def YD(c i j:Nat)(e:c / 8=i)(f:c % 8=j){d b:Net}(h:UQ c d b)(p:RdK ((b.x (1-i)).out j) ((b.x i).cK j) 4096):UQ (c+1) d (rdN b i j):=by subst e f;exact⟨b,h,p,rfl⟩
def RoC(n c:Net):Prop:=∃d e b,FlR 2 (n.jk d e) b/\CmR b.dI b.dI.length {b with dI:=[]} c
def qc8{a:Ad}{n:Net}{vb:WA}(h:dQ oZ w a n vb (ends n))(hp:gI a.bF n)(T:Nat)(hT:T<=100000)(hg:Gk (3*T) n)(hb:qM n (3*T))(J:a.bF<=400):qH 18 #[aJ a.N 0,iZ T] w (.bool true) fun w'=>Fs oZ w a 0 (Jk T {n with dI:=[]}) w':=by
 have s:Hid (Fs oZ w a (3*T) (fun b=>b=n) w):=⟨n,rfl,hp,hb,hg,oZ,vb,h,Kp.refl _ _ _⟩;obtain⟨a0,r,c0,c8,z8,H⟩:=YC s.out;obtain⟨w1,hc⟩:∃w1,w.setCell (ay a.N 8) nZ=w1:=⟨_,rfl⟩;rw[hc]at H;have H0:Hid (Fs oZ w a (3*(T-0)) (fun b=>Jk 0 {n with dI:=[]} b/\b.dI=[]) w1):=by obtain⟨c,rfl,_,h1⟩:=H.out;exact h1.fs ⟨rfl,rfl⟩
 clear h hp hg hb s H;go_enter func18,ntmps18;go_wp2;go_loopw [5] (fun s5 wr=>∃t:Nat,t<=T/\s5=(iZ t)/\Hid (Fs oZ w a (3*(T-t)) (fun b=>Jk t {n with dI:=[]} b/\b.dI=[]) wr)) (fun s5 _=>T-(eB s5).toNat);case atStart=>exact⟨0,qm2 _,rfl,H0⟩
 case round=>
  obtain⟨t,ht,rfl,e⟩:=hrel;clear H0 c8 z8 hc;by_cases x5:t<T
  ·have hv:(t:Int)<(T:Int):=aj;obtain⟨B,hB⟩:=bT (3*(T-(t+1)));have HB:=aF hB;have e3:3*(T-t)=B+2+1:=aj;have A:=aF (qc0 (P:=fun b=>Jk t {n with dI:=[]} b/\b.dI=[]) (by have:=e.out;rw[e3]at this;exact this) J (fun n h=>h.2));clear e e3 hB;go_wp2_with (go_at_call 22;refine bH A.out ?_;rintro w2 C);clear A;have X:Hid (Fs oZ w a (B+2-0) (fun b=>∃c l m,Jk t {n with dI:=[]} c/\FlR 0 (c.jk l m) b/\b.dI.length<=24*0) w2):=C.out.imp (by
    rintro b ⟨c,l,m,⟨u,v⟩,rfl⟩;exact⟨c,l,m,u,rfl,by show c.dI.length<=_;rw[v];simp⟩)
   clear C;go_loopw [6,7] (fun S s7 wr=>S=.bool true/\∃i:Nat,i<=2/\s7=(iZ i)/\Hid (Fs oZ w a (B+2-i) (fun b=>∃c l m,Jk t {n with dI:=[]} c/\FlR i (c.jk l m) b/\b.dI.length<=24*i) wr)) (fun _ s7 _=>2-(eB s7).toNat);case atStart=>exact⟨rfl,0,aj,rfl,X⟩
   case round=>
    obtain⟨rfl,i,hi,rfl,e⟩:=hrel;clear X;by_cases I:i<2
    ·have hu:(i:Int)<2:=aj;have e2:B+2-i=B+2-(i+1)+1:=aj;have A:=aF (YB (P:=fun b=>∃c l m,Jk t {n with dI:=[]} c/\FlR i (c.jk l m) b/\b.dI.length<=24*i) (by have:=e.out;rw[e2]at this;exact this) J i I (fun n h=>by obtain⟨_,_,_,_,_,q⟩:=h;omega));clear e e2;go_wp2_with (go_at_call 23;refine bH A.out ?_;rintro w2 C);clear A;have s:Hid (Fs oZ w a (B+2-(i+1)) (fun b=>∃c l m,Jk t {n with dI:=[]} c/\FlR (i+1) (c.jk l m) b/\b.dI.length<=24*(i+1)) w2):=C.out.imp (by
      rintro b ⟨f,⟨c,l,m,u,v,U⟩,M,pk,p4,p5,p6⟩;exact⟨c,l,m,u,⟨f,v,M,pk,p4,p5⟩,aj⟩)
     clear C;go_roundw;case rel=>exact⟨rfl,i+1,aj,aM,s⟩
     case measure=>simp[eB];omega
    ·obtain rfl:i=2:=aj;obtain⟨a0,r,c0,c8,z8,H⟩:=YC e.out;obtain⟨w3,he⟩:∃w3,wr.setCell (ay a.N 8) nZ=w3:=⟨_,rfl⟩;rw[he,show B+2-2=B by omega]at H;obtain⟨f,⟨c,l,m,u,v,U⟩,h9,h8⟩:=H.out;have xL:=aF (dw u v);have Z:=aF h9;have x6:r<=48:=aj;have W:Hid (∃d,CmR f.dI 0 {f with dI:=[]} d/\LQ oZ w a f.dI (.slice a0 r c0) B d w3):=⟨_,rfl,h8⟩;clear H u v U h9 h8 e;simp only[show((2:Nat):Int)=2 from rfl];go_wp2;clear c8 z8 he;go_loopw [6,10] (fun S N wr=>S=.bool true/\∃k:Nat,k<=r/\N=(iZ k)/\Hid (∃d,CmR f.dI k {f with dI:=[]} d/\LQ oZ w a f.dI (.slice a0 r c0) B d wr)) (fun _ N _=>r-(eB N).toNat);case atStart=>exact⟨rfl,0,qm2 _,rfl,W⟩
     case round=>
      obtain⟨rfl,k,hk,rfl,e⟩:=hrel;clear W;by_cases x4:k<r
      ·have x7:(k:Int)<(r:Int):=aj;obtain⟨d,q1,E⟩:=e.out;have z:k<f.dI.length:=bR Z.out;obtain⟨g,cg,ev,d0,d1⟩:=E.at k z;obtain⟨o,hf⟩:=E.mem k z;have K:=fun w' hb=>qby (E.below (w':=w') hb) J k z;obtain⟨y,L⟩:=bT (f.dI.getD k (0,0,[]));simp only[qn4]at ev;obtain⟨rfl,hz,rfl⟩:=ev;clear hz;obtain⟨i,p⟩:=bT y.1;obtain⟨D,x⟩:=bT (⟨(bP y.2.1 y.2.2).toArray⟩:ByteArray);unfold sV at d1 K;rw[<-L]at d0 d1 o hf;rw[<-p]at d0 o;rw[<-x]at d1;obtain⟨x0,x1⟩:=E.xc i o;have h3:Hid (qH 29 #[(aJ (a.C i) 0),.string D] wr.drew (.tuple #[iZ 0,(iZ (-1))]) fun F=>(F.cell? (ay a.N 0)=some (dh a.xb 2 a.xc)/\F.cell? (ay a.xb i)=some (aJ (a.C i) 0)/\F.cell? (ay g (k*2))=some (iZ i)/\F.cell? (ay g (k*2+1))=some (.string D))/\Hid (∃M,CmR f.dI (k+1) {f with dI:=[]} ((d.dA i M).iD i)/\DlM oZ w a f.dI (dh g r c0) B d i M F)):=by
        have h5:=K wr.drew ⟨rfl,rfl,rfl,qj _,fun _ _=>rfl⟩;rw[<-L,<-p,<-x]at h5;refine bH h5 ?_;rintro F ⟨M,r1,V⟩;obtain⟨g',hw,h7,h4,G⟩:=V.at k z;simp only[qn4,qng,qnw]at h7;obtain⟨⟨rfl,_,_⟩,_,_⟩:=h7;unfold sV at G;rw[<-L,<-p]at h4;rw[<-L,<-x]at G;refine⟨rfl,⟨(V.xc i o).1,(V.xc i o).2,h4,G⟩,M,⟨d,q1,M,?_,?_⟩,V⟩;·rw[<-L,<-p];exact r1
        ·rw[<-L,<-p]
       have hx:(0:Int)<=(i:Int):=aj;have x2:(i:Int)<2:=aj;have x3:(0:Int)<=(k:Int):=aj;clear K L p x hf q1 E e;go_wp2;go_region_held3 (fun y=>y.cell? (ay a.N 0)=some (dh a.xb 2 a.xc)/\y.cell? (ay a.xb i)=some (aJ (a.C i) 0)/\y.cell? (ay g (k*2))=some (iZ i)/\y.cell? (ay g (k*2+1))=some (.string D)) (first|assumption|go_keep) ((first|(go_at_call 29;refine bH h3.out ?_;rintro F ⟨ho,ha⟩)))
       obtain⟨_,_,s0,_⟩:=ho;have hm:Hid (qH 30 #[aJ a.N 0,iZ i] F (.bool true) fun w6=>Hid (∃n4,CmR f.dI (k+1) {f with dI:=[]} n4/\LQ oZ w a f.dI (dh g r c0) B n4 w6)):=by obtain⟨M,r1,r2⟩:=ha.out;refine bH (qbz r2 o) ?_;rintro w6 V;exact⟨rfl,_,r1,V⟩
       clear ha d0 d1 x0 x1 h3;go_wp2_with (go_at_call 30;refine bH hm.out ?_;rintro w6 h6);go_roundw;case rel=>exact⟨rfl,k+1,aj,aM,h6⟩
       case measure=>simp[eB];omega
      ·obtain rfl:k=r:=aj;have h0:Hid (Fs oZ w a B (fun b=>∃c d,Jk t {n with dI:=[]} c/\RoC c d/\UQ (8*0) d b/\b.dI=[]) wr):=by
        obtain⟨d,q1,E⟩:=e.out;have hn:=Z.out;rw[hn]at q1;exact E.fs ⟨c,d,xL.out.1,⟨l,m,f,xL.out.2,q1⟩,rfl,E.b0⟩
       clear e;go_wp2;go_loopw [6,14] (fun S O wr=>S=.bool true/\∃i:Nat,i<=2/\O=(iZ i)/\Hid (Fs oZ w a B (fun b=>∃c d,Jk t {n with dI:=[]} c/\RoC c d/\UQ (8*i) d b/\b.dI=[]) wr)) (fun _ O _=>2-(eB O).toNat);case atStart=>exact⟨rfl,0,aj,rfl,h0⟩
       case round=>
        obtain⟨rfl,i,hi,rfl,e⟩:=hrel;clear h0;by_cases I:i<2
        ·have hu:(i:Int)<2:=aj;have Y:Hid (Fs oZ w a B (fun b=>∃c d,Jk t {n with dI:=[]} c/\RoC c d/\UQ (8*i+0) d b/\b.dI=[]) wr):=e.out;clear e;go_wp2;go_loopw [6,15] (fun S R wr=>S=.bool true/\∃k:Nat,k<=8/\R=(iZ k)/\Hid (Fs oZ w a B (fun b=>∃c d,Jk t {n with dI:=[]} c/\RoC c d/\UQ (8*i+k) d b/\b.dI=[]) wr)) (fun _ R _=>8-(eB R).toNat);case atStart=>exact⟨rfl,0,aj,rfl,Y⟩
         case round=>
          obtain⟨rfl,j,hj,rfl,e⟩:=hrel;clear Y;by_cases hr:j<8
          ·have x8:(j:Int)<8:=aj;have A:=aF (qc7 e.out i j I hr);clear e;go_wp2_with (go_at_call 31;refine bH A.out ?_;rintro w2 C);clear A;have s:Hid (Fs oZ w a B (fun b=>∃c d,Jk t {n with dI:=[]} c/\RoC c d/\UQ (8*i+(j+1)) d b/\b.dI=[]) w2):=C.out.imp (by
            rintro b ⟨n4,⟨c,d,u,v,U,p4⟩,p5,rfl⟩;exact⟨c,d,u,v,YD (8*i+j) i j aj aj U p5,p4⟩)
           clear C;go_roundw;case rel=>exact⟨rfl,j+1,aj,aM,s⟩
           case measure=>simp[eB];omega
          ·obtain rfl:j=8:=aj;have s:Hid (Fs oZ w a B (fun b=>∃c d,Jk t {n with dI:=[]} c/\RoC c d/\UQ (8*(i+1)) d b/\b.dI=[]) wr):=e.out;clear e;go_wp2;go_roundw;case rel=>exact⟨rfl,i+1,aj,aM,s⟩
           case measure=>simp[eB];omega
        ·obtain rfl:i=2:=aj;have s:Hid (Fs oZ w a (3*(T-(t+1))) (fun b=>Jk (t+1) {n with dI:=[]} b/\b.dI=[]) wr):=by
          rw[<-HB.out];exact e.out.imp (by rintro b ⟨c,d,u,⟨l,m,f,v,p5⟩,U,p4⟩;exact⟨⟨c,u,l,m,f,v,d,p5,U⟩,p4⟩)
         clear e;go_wp2;go_roundw;case rel=>exact⟨t+1,aj,aM,s⟩
         case measure=>simp[eB];omega
  ·obtain rfl:t=T:=aj;have HE:Hid (Fs oZ w a 0 (Jk t {n with dI:=[]}) wr):=by
    have:=e.out;rw[qnk]at this;exact this.imp fun n h=>h.1
   go_wp2;go_ret;exact⟨rfl,HE.out⟩
end
def NwC(oZ:Own)(s:Nat)(w:Wq)(c b f:Nat)(C:Nat)(w':Wq):Prop:=
 ∃S bw e d a l g,fH a s w' S l (av.new c b f) bw e d g/\aL w' C 187 [aJ S 0]/\a C=0/\w.heap.size<=C/\Kp [] oZ a w w'
def NwC.below{oZ:Own}{s:Nat}{w:Wq}{c b d:Nat}{C:Nat}{w' f:Wq}(h:NwC oZ s w c b d C w')(a:bE w' f):NwC oZ s w c b d C f:=by obtain⟨S,bw,j,i,g,l,p,k,e,m,n,o⟩:=h;exact⟨S,bw,j,i,g,l,p,k.below a,e.of_heap (a.block _ e.lt),m,n,o.iA a⟩
def qft(oZ:Own)(s:Nat)(A:0<s)(f c g:Nat)(r:64<=f/\f<=400)(u:16<=c/\c<=4096)(t:16<=g/\g<=4096)(w:Wq):WB prog 59 #[.agg #[iZ f,iZ c,iZ g]] w fun e B=>∃C,e=.returned (.tuple #[aJ C 0,.nilIface])/\NwC oZ s w f c g C B:=by
 obtain⟨W,q⟩:=bT (w.alloc (.cells #[iZ f,iZ c,iZ g] 45));have o:bE w W:=by rw[q];exact(qlw _ w).alloc (qj _) _
 have y:=aF (qfs oZ s A f c g r u t W);have z:Hid (∀a S bw j i d l m,fH d s a S l (av.new f c g) bw j i m->Kp [] oZ d W a->NwC oZ s w f c g a.heap.size (a.alloc (.cells #[aJ S 0] 187))):=fun a S bw j i d l m n k=>by have b:bE a (a.alloc (.cells #[aJ S 0] 187)):=(qlw _ a).alloc (qj _) _;have K:Kp [] d (loc d a.heap.size) a (a.alloc (.cells #[aJ S 0] 187)):=⟨b.os,b.tape,b.output,b.size,fun x p _=>b.block x p,fun x p=>jo _ _ _ p⟩;exact⟨S,bw,j,i,loc d a.heap.size,l,m,n.kp K aM,aL.new a 187 [aJ S 0],iY _ _ _ (qj _),qlz o.size k.size,((Kp.below o).trans k).trans K⟩
 clear r u t o;go_enter func59,ntmps59;go_wp2_with (go_at_call 107;rw[<-q];refine y.out.mono ?_;rintro e a ⟨S,bw,j,i,d,l,m,rfl,n,k⟩;have v:=aF (z.out a S bw j i d l m n k);clear n k);go_ret2;exact⟨_,rfl,v.out⟩
def qfu(oZ:Own)(s:Nat)(B:0<s)(b a c:Nat)(m:64<=b/\b<=400)(o:16<=a/\a<=4096)(n:16<=c/\c<=4096)(w:Wq):WB prog 33 #[.agg #[iZ b,iZ a,iZ c]] w fun e g=>∃C,e=.returned (.tuple #[aJ C 0,iZ 0])/\NwC oZ s w b a c C g:=by
 obtain⟨W,k⟩:=bT (w.alloc (.cells #[iZ b,iZ a,iZ c] 45));have f:bE w W:=by rw[k];exact(qlw _ w).alloc (qj _) _
 have r:Hid (WB prog 59 #[.agg #[iZ b,iZ a,iZ c]] W fun e g=>∃C,e=.returned (.tuple #[aJ C 0,.nilIface])/\NwC oZ s w b a c C g):=by refine(qft oZ s B b a c m o n W).mono ?_;rintro e g ⟨C,rfl,S,bw,x,v,u,l,D,i,j,y,z,A⟩;exact⟨C,rfl,S,bw,x,v,u,l,D,i,j,y,qlz f.size z,(Kp.below f).trans A⟩
 have t:Hid (∀C d,NwC oZ s w b a c C d->qH 60 #[.nilIface] d (iZ 0) fun p=>NwC oZ s w b a c C p):=fun C d h=>by refine bH (vo .nilIface 0 (-1) d _ (yu d)) ?_;rintro g f;exact⟨rfl,h.below f⟩
 clear m o n f;go_enter func33,ntmps33;go_wp2_with (first|(go_at_call 59;rw[<-k];refine r.out.mono ?_;rintro e d ⟨C,rfl,i⟩;have q:=aF i;clear i)|(go_at_call 60;refine bH (t.out C d q.out) ?_;rintro p j));go_ret2;exact⟨_,rfl,j⟩
section
def sty:Nat->Vg|0=>39|1=>40|2=>41|_=>42
def ety:Nat->Vg|0=>83|1=>78|2=>49|_=>43
def tg(f:Nat):Nat:=if 2<=f then 199+f else 180+f
def pos(f:Nat):Nat:=if f=4 then 9 else f
def qR(f:Nat)(c:f<5):∃z b,GK (sty f) (ety f) z 1 b:=by
 rcases(show f=0\/f=1\/f=2\/f=3\/f=4 by omega)with rfl|rfl|rfl|rfl|rfl;·exact⟨.pointer none,8,OW bO bO rfl rfl aj⟩
 ·exact⟨nZ,24,OW bO bO rfl rfl aj⟩
 ·exact⟨nZ,24,OW bO bO rfl rfl aj⟩
 ·exact⟨uZ 0,8,OW bO bO rfl rfl aj⟩
 ·exact⟨uZ 0,8,OW bO bO rfl rfl aj⟩
def qkk:GK 78 77 (.pointer none) 1 8:=OW bO bO rfl rfl aj
def IX:bJ:=[.string ⟨#[]⟩,.bool false,.bool false,iZ 0,iZ 0,iZ 0]
def nt0(a:Ad)(v:Nat->WA):bJ:=[v 0,v 1,v 2,v 3,uZ 0,iZ a.bF,iZ a.dW,iZ a.iF,nZ,v 4]
structure BO (eZ:Own) (w0:Wq) (a:Ad) (c7 i m k:Nat) (v:Nat->WA) (l:Nat->bJ) (v12:WA) (El:bJ) (oZ:Own) (w:Wq):Prop where
 ou:aL w a.N 48 (nt0 a v)/\oZ a.N=200
 cf:aL w c7 45 [iZ a.bF,iZ a.dW,iZ a.iF]/\oZ c7=0
 gt:∀f,f<5->GT oZ (tg f) (ety f) 1 w (v f) (l f).length (l f)
 gi:GT oZ (184+i) 77 1 w v12 k El
 gl:∀k',k'<k->El[k']?=some (aJ (a.e i k') 0)
 el:∀j k',j<i->k'<8->w.cell? (ay (a.el j) k')=some (aJ (a.e j k') 0)/\oZ (a.el j)=184+j
 en:∀j k',(j<i/\k'<8\/j=i/\k'<k)->aL w (a.e j k') 80 IX/\oZ (a.e j k')=210+8*j+k'
 sd:∀j,j<m->∃l vc,fH oZ (60*(j+1)) w (a.S j) l (av.new a.bF a.dW a.iF) (a.bw j) (a.bl j) (a.bi j) vc
 cn:∀j,j<m->w.cell? (ay (a.C j) 0)=some (aJ (a.S j) 0)/\oZ (a.C j)=0
 px:∀j,j<(l 0).length->(l 0)[j]?=some (aJ (a.C j) 0)
 pe:∀j,j<(l 1).length->(l 1)[j]?=some (dh (a.el j) 8 (a.Gl j))
 pg:∀j,j<(l 2).length->(l 2)[j]?=some nZ
 pc:∀j,j<(l 4).length->(l 4)[j]?=some (uZ 0)
 pn:∀j,j<(l 3).length->(l 3)[j]?=some (uZ 0)
 gd:Gd oZ w
 er:g_ w
 o0:oZ 0=0
 kp:Kp TN eZ oZ w0 w
 im:i<=2/\m<=2/\k<=8/\(i=2->k=0)
section
variable {eZ oZ aQ:Own} {w0 w w':Wq} {a:Ad} {c7 i m k:Nat} {v:Nat->WA} {l:Nat->bJ} {v12:WA} {El:bJ} {T:List Nat}
structure BuT (oZ aQ:Own) (w w':Wq) (T:List Nat) (a:Ad) (c7 i m k:Nat):Prop where
 cf:aL w' c7 45 [iZ a.bF,iZ a.dW,iZ a.iF]/\aQ c7=0
 el:∀j k',j<i->k'<8->w'.cell? (ay (a.el j) k')=some (aJ (a.e j k') 0)/\aQ (a.el j)=184+j
 en:∀j k',(j<i/\k'<8\/j=i/\k'<k)->aL w' (a.e j k') 80 IX/\aQ (a.e j k')=210+8*j+k'
 sd:∀j,j<m->∃l vc,fH aQ (60*(j+1)) w' (a.S j) l (av.new a.bF a.dW a.iF) (a.bw j) (a.bl j) (a.bi j) vc
 cn:∀j,j<m->w'.cell? (ay (a.C j) 0)=some (aJ (a.S j) 0)/\aQ (a.C j)=0
 gd:Gd aQ w'
 er:g_ w'
 o0:aQ 0=0
def BO.rest(h:BO eZ w0 a c7 i m k v l v12 El oZ w)(K:Kp T oZ aQ w w')(f:∀x∈T,180<=x/\(x<184\/x=184+i\/(200<=x/\x<=203)\/226<=x)):BuT oZ aQ w w' T a c7 i m k:=by
 have d:0∉T:=fun e=>bR (f _ e);have o:=h.im;refine⟨⟨bU h.cf.1 K (by rw[h.cf.2];exact d),by rw[K.ext _ h.cf.1.lt];exact h.cf.2⟩,fun j g c r=>?_,fun j g n=>?_,fun j c=>?_,fun j c=>?_,h.gd.kp K d,?_,?_⟩;·obtain⟨p,q⟩:=h.el j g c r;have b:a.el j<w.heap.size:=qmf w (ay (a.el j) g) (by rw[p]);exact⟨cell_of p (K.bY _ b (by rw[q];exact fun e=>bR (f _ e))),by rw[K.ext _ b];exact q⟩
 ·obtain⟨p,q⟩:=h.en j g n;exact⟨bU p K (by rw[q];exact fun e=>bR (f _ e)),by rw[K.ext _ p.lt];exact q⟩
 ·obtain⟨t,u,p⟩:=h.sd j c;exact⟨t,u,p.kp K fun x y s e=>bR (f _ e)⟩
 ·obtain⟨p,q⟩:=h.cn j c;have b:a.C j<w.heap.size:=qmf w (ay (a.C j) 0) (by rw[p]);exact⟨cell_of p (K.bY _ b (by rw[q];exact d)),by rw[K.ext _ b];exact q⟩
 ·exact cell_of h.er (K.bY 0 (bR h.gd.sz) (by rw[h.o0];exact d))
 ·rw[K.ext 0 (bR h.gd.sz)];exact h.o0
def BO.kp'(h:BO eZ w0 a c7 i m k v l v12 El oZ w)(K:Kp [] oZ aQ w w'):BO eZ w0 a c7 i m k v l v12 El aQ w':=by have r:=h.rest K aM;exact⟨⟨bU h.ou.1 K aM,by rw[K.ext _ h.ou.1.lt];exact h.ou.2⟩,r.cf,fun f b=>(h.gt f b).kp K aM,h.gi.kp K aM,h.gl,r.el,r.en,r.sd,r.cn,h.px,h.pe,h.pg,h.pc,h.pn,r.gd,r.er,r.o0,h.kp.trans (K.mono aM),h.im⟩
def qi2{g:Nat}(b:f<5)(c:g<5)(h:g≠f):tg g∉[tg f]:=by unfold tg;simp;split<;>split<;>omega
def YJ(f:Nat)(b:f<5):180<=tg f/\(tg f<184\/(201<=tg f/\tg f<=203)):=by unfold tg;split<;>omega
def qcg(a:Ad)(v:Nat->WA)(f:Nat)(b:f<5)(x:WA):(nt0 a v).set (pos f) x=nt0 a (fun g=>if g=f then x else v g):=by rcases(show f=0\/f=1\/f=2\/f=3\/f=4 by omega)with rfl|rfl|rfl|rfl|rfl<;>rfl
def YK(a:Ad)(v:Nat->WA)(f:Nat)(b:f<5):(nt0 a v)[pos f]?=some (v f):=by rcases(show f=0\/f=1\/f=2\/f=3\/f=4 by omega)with rfl|rfl|rfl|rfl|rfl<;>rfl
def BO.app(h:BO eZ w0 a c7 i m k v l v12 El oZ w)(f:Nat)(A:f<5)(u:WA)(Z:u.oneCell'=true)(hl:(l f).length<=10)(M:f=0->u=(aJ (a.C (l 0).length) 0))(W:f=1->u=(dh (a.el (l 1).length) 8 (a.Gl (l 1).length)))(G:f=2->u=nZ)(U:3<=f->u=(uZ 0)):∃B N C o O s d n,v f=.slice B N C/\(∀P,(eT #[sty f,sty f] P #[.slice B N C,dh w.heap.size 1 1]).run prog (w.alloc (.cells #[u] (ety f)))=.ok (.slice o O s) d)/\d.cell? (ay a.N (pos f))=some (.slice B N C)/\d.frozen? (ay a.N (pos f))=false/\BO eZ w0 a c7 i m k (fun g=>if g=f then .slice o O s else v g) (fun g=>if g=f then l f++[u]else l g) v12 El n (d.setCell (ay a.N (pos f)) (.slice o O s)):=by
 obtain⟨z,b,E⟩:=qR f A;have V:aL (w.alloc (.cells #[u] (ety f))) w.heap.size (ety f) [u]:=aL.new w (ety f) [u];have F:bE w (w.alloc (.cells #[u] (ety f))):=(qlw _ w).alloc (qj _) _;have D:=h.kp' (Kp.below (T:=[]) (oZ:=oZ) F);obtain⟨B,C,L⟩:=gX (h.gt f A);obtain⟨v6,d,n,run,S,J⟩:=fO E (D.gt f A) (ay w.heap.size 0) 1 1 [u] rfl (fun z hz=>by rw[qmi.1 hz];exact Z) (fun t y hy=>by
  have e:(ay w.heap.size 0).add t=(ay w.heap.size t):=by rw[qmb,qm5]
  rw[e,V.cell,hy]) aj
 obtain⟨o,s,rfl⟩:=gX S;have Y:=YJ f A;have K:aL d a.N 48 (nt0 a v):=bU D.ou.1 J (by rw[D.ou.2];simp;omega);have H:n a.N=200:=by rw[J.ext _ D.ou.1.lt];exact D.ou.2
 have Q:Kp [200] n n d (d.setCell (ay a.N (pos f)) (.slice o ((l f).length+1) s)):=Kp.set n d _ _ _ (by rw[H];simp);have I:Kp [tg f,200] oZ n w (d.setCell (ay a.N (pos f)) (.slice o ((l f).length+1) s)):=(Kp.below F).trans ((J.mono aM).trans (Q.mono aM));have r:=h.rest I rR;have X:=h.im;have key:∀(g j:Nat),j<(if g=f then l f++[u]else l g).length->(j<(l g).length/\(if g=f then l f++[u]else l g)[j]?=(l g)[j]?)\/(g=f/\j=(l f).length/\(if g=f then l f++[u]else l g)[j]?=some u):=fun g j c=>by
  by_cases e:g=f
  ·subst e;rw[bM rfl]at c ⊢;rw[qm0,qqa]at c;by_cases R:j<(l g).length;·exact .inl ⟨R,qmw R⟩
   ·obtain rfl:j=(l g).length:=aj;exact .inr ⟨rfl,rfl,aM⟩
  ·rw[aV e]at c ⊢;exact .inl ⟨c,rfl⟩
 refine⟨B,_,C,o,_,s,d,n,L,fun P=>by have:=run P;rw[L]at this;exact this,by rw[K.cell,YK a v f A,L],K.frozen _,⟨⟨?_,H⟩,r.cf,fun g G=>?_,h.gi.kp I rR,h.gl,r.el,r.en,r.sd,r.cn,?_,?_,?_,?_,?_,r.gd,r.er,r.o0,h.kp.trans (I.mono fun x M=>jZ.2 (by simp at M;omega)),h.im⟩⟩;·rw[<-qcg a v f A];exact K.setCell (pos f) _
 ·by_cases e:g=f;·subst e;simp only[if_true,qm0,qqa];exact S.kp Q rR
  ·simp only[aV e];have:=YJ g G;exact(h.gt g G).kp I (by have:=qi2 A G e;simp at this ⊢;omega)
 ·intro j c;rcases key 0 j c with⟨p,q⟩|⟨p,q,r⟩;·rw[q];exact h.px j p
  ·rw[r,M p.symm,q,<-p]
 ·intro j c;rcases key 1 j c with⟨p,q⟩|⟨p,q,r⟩;·rw[q];exact h.pe j p
  ·rw[r,W p.symm,q,<-p]
 ·intro j c;rcases key 2 j c with⟨p,q⟩|⟨p,q,r⟩;·rw[q];exact h.pg j p
  ·rw[r,G p.symm]
 ·intro j c;rcases key 4 j c with⟨p,q⟩|⟨p,q,r⟩;·rw[q];exact h.pc j p
  ·rw[r,U aj]
 ·intro j c;rcases key 3 j c with⟨p,q⟩|⟨p,q,r⟩;·rw[q];exact h.pn j p
  ·rw[r,U aj]
end

end
section
section
variable {eZ oZ aQ:Own} {w0 w w':Wq} {a:Ad} {c7 i m k:Nat} {v:Nat->WA} {l:Nat->bJ} {v12:WA} {El:bJ}
def Ad.side(a:Ad)(m C S bw bl bi:Nat):Ad:={a with C:=fun j=>if j=m then C else a.C j,S:=fun j=>if j=m then S else a.S j,bw:=fun j=>if j=m then bw else a.bw j,bl:=fun j=>if j=m then bl else a.bl j,bi:=fun j=>if j=m then bi else a.bi j}
def BO.side(h:BO eZ w0 a c7 i m k v l v12 El oZ w)(B:m<2)(A:(l 0).length=m){C:Nat}(s:NwC oZ (60*(m+1)) w a.bF a.dW a.iF C w'):∃S bw d c aQ,BO eZ w0 (a.side m C S bw d c) c7 i (m+1) k v l v12 El aQ w':=by
 obtain⟨S,bw,d,c,aQ,x,y,n,o,q,z,r⟩:=s;have g:=h.kp' r;have b:=g.im;refine⟨S,bw,d,c,aQ,g.ou,g.cf,g.gt,g.gi,g.gl,g.el,g.en,fun j f=>?_,fun j f=>?_,fun j f=>?_,g.pe,g.pg,g.pc,g.pn,g.gd,g.er,g.o0,g.kp,b.1,aj,b.2.2⟩
 ·by_cases e:j=m;·subst e;refine⟨x,y,?_⟩;unfold Ad.side;simp only[if_true];exact n
  ·obtain⟨u,t,p⟩:=g.sd j aj;refine⟨u,t,?_⟩;unfold Ad.side;simp only[aV e];exact p
 ·unfold Ad.side;by_cases e:j=m;·simp only[bM e];exact⟨o.cell 0,q⟩
  ·simp only[aV e];exact g.cn j aj
 ·unfold Ad.side;have e:j≠m:=aj;simp only[aV e];exact g.px j f
def Ad.Ur(a:Ad)(i k b:Nat):Ad:={a with e:=fun j c=>if j=i/\c=k then b else a.e j c}
def BO.Ur(h:BO eZ w0 a c7 i m k v l v12 El oZ w)(hk:k<8)(hi:i<2):∃F H G I u E,v12=.slice F k H/\(∀N,(eT #[78,78] N #[.slice F k H,(dh (w.heap.size+1) 1 1)]).run prog ((w.alloc (.cells IX.toArray 80)).alloc (.cells #[aJ w.heap.size 0] 77))=.ok (.slice G (k+1) I) u)/\BO eZ w0 (a.Ur i k w.heap.size) c7 i m (k+1) v l (.slice G (k+1) I) (El++[aJ w.heap.size 0]) E u:=by
 obtain⟨F,H,P⟩:=gX h.gi;obtain⟨c,n⟩:=bT (w.alloc (.cells IX.toArray 80));obtain⟨J,C⟩:=bT (fun x=>if x=w.heap.size then 210+8*i+k else oZ x:Own);have d:bE w c:=by rw[n];exact(qlw _ w).alloc (qj _) _
 have D:c.heap.size=w.heap.size+1:=by rw[n];simp
 have Y:Kp [] oZ J w c:=⟨d.os,d.tape,d.output,d.size,fun b R _=>d.block b R,fun b R=>by rw[C];exact aV aj⟩;have g1:=h.kp' Y;have O:aL c w.heap.size 80 IX:=by rw[n];exact aL.new w 80 IX
 have U:J w.heap.size=210+8*i+k:=by rw[C];exact bM rfl
 obtain⟨V,s⟩:=bT (c.alloc (.cells [aJ w.heap.size 0].toArray 77));have q:bE c V:=by rw[s];exact(qlw _ c).alloc (qj _) _
 have W:aL V c.heap.size 77 [aJ w.heap.size 0]:=by rw[s];exact aL.new c 77 _
 have o:=g1.kp' (Kp.below (T:=[]) (oZ:=J) q);obtain⟨v6,u,E,run,Q,p⟩:=fO qkk o.gi (ay c.heap.size 0) 1 1 [aJ w.heap.size 0] rfl (fun z hz=>by rw[qmi.1 hz];rfl) (fun t y hy=>by
  have e:(ay c.heap.size 0).add t=(ay c.heap.size t):=by rw[qmb,qm5]
  rw[e,W.cell,hy]) aj
 obtain⟨G,I,rfl⟩:=gX Q;have r:=o.rest p rR;have Z:aL u a.N 48 (nt0 a v):=bU o.ou.1 p (by rw[o.ou.2];simp;omega);have M:E a.N=200:=by rw[p.ext _ o.ou.1.lt];exact o.ou.2
 have A:=h.im;have X:aL u w.heap.size 80 IX:=bU (O.of_heap (q.block _ O.lt)) p (by rw[U];simp;omega);have L:E w.heap.size=210+8*i+k:=by rw[p.ext _ (bR q.size)];exact U
 have K:El.length=k:=bR h.gi.len;refine⟨F,H,G,I,u,E,P,fun N=>by have:=run N;rw[P,D,s,n]at this;exact this,?_⟩;refine⟨⟨Z,M⟩,r.cf,fun f S=>(o.gt f S).kp p (by have:=YJ f S;simp;omega),Q,fun g B=>?_,fun j g hj B=>?_,fun j g h0=>?_,r.sd,r.cn,h.px,h.pe,h.pg,h.pc,h.pn,r.gd,r.er,r.o0,o.kp.trans (p.mono fun x hx=>jZ.2 (by simp at hx;omega)),A.1,A.2.1,aj,fun e=>aj⟩
 ·show _=some (Value.pointer (some (ay (if i=i/\g=k then w.heap.size else a.e i g) 0)));by_cases e:g=k;·rw[bM ⟨rfl,e⟩,qn0 aj,K,e,qnk];rfl
  ·rw[aV (fun h=>e h.2),qmw aj];exact h.gl g aj
 ·unfold Ad.Ur;have e':¬(j=i/\g=k):=fun h=>aj;simp only[aV e'];exact r.el j g hj B
 ·unfold Ad.Ur;by_cases e:j=i/\g=k;·obtain⟨rfl,rfl⟩:=e;simp only[and_self,if_true];exact⟨X,L⟩
  ·simp only[aV e];exact r.en j g aj
def Ad.elp(a:Ad)(i g c:Nat):Ad:={a with el:=fun j=>if j=i then g else a.el j,Gl:=fun j=>if j=i then c else a.Gl j}
def BO.close(h:BO eZ w0 a c7 i m 8 v l v12 El oZ w)(p:i<2)(q:(l 1).length=i):∃g c,v12=(dh g 8 c)/\BO eZ w0 (a.elp i g c) c7 (i+1) m 0 v l nZ [] oZ w:=by
 rcases h.gi with⟨_,e,_⟩|⟨g,cap,cs,ev,ho,hB,hc1,hc2,hc3,hc4,BN,_⟩;·cases e
 have f:=h.im;refine⟨g,cap,ev,h.ou,h.cf,h.gt,.inl ⟨rfl,rfl,rfl⟩,fun d b=>aj,fun j d n b=>?_,fun j d o=>h.en j d aj,h.sd,h.cn,h.px,fun j n=>?_,h.pg,h.pc,h.pn,h.gd,h.er,h.o0,h.kp,aj,f.2.1,aj,fun _=>rfl⟩
 ·unfold Ad.elp;by_cases e:j=i;·subst e;simp only[if_true];refine⟨?_,ho⟩;rw[hB.cell];have:=h.gl d b;rw[<-BN,qm6,bM aj]at this;exact this
  ·simp only[aV e];exact h.el j d aj b
 ·unfold Ad.elp;have e:j≠i:=aj;simp only[aV e];exact h.pe j n
def Ma{t:Nat}{n:Nat}{l:bJ}(h:GT oZ t e 1 w x n l)(o:0<n):∃g c,x=(dh g n c)/\oZ g=t/\(∀j y,l[j]?=some y->w.cell? (ay g j)=some y)/\∃r,aL w g e (l++r):=by
 rcases h with⟨_,e,_⟩|⟨g,cap,cs,rfl,ho,hB,hc1,hc2,hc3,hc4,BN,_⟩;·omega
 have b:cs=l++cs.drop (n*1):=by rw[<-BN,qq9]
 rw[b]at hB;refine⟨g,cap,rfl,ho,fun j y d=>?_,_,hB⟩;have f:j<l.length:=(qo8.1 d).1;rw[hB.cell,qmw f,d]
def YL(b c d j k:Nat)(e:k<8):IX=ends (Net.new b c d) j k:=by rcases(show k=0\/k=1\/k=2\/k=3\/k=4\/k=5\/k=6\/k=7 by omega)with rfl|rfl|rfl|rfl|rfl|rfl|rfl|rfl<;>rfl
def OX{l:bJ}{y:WA}(c:l[0]?=some x)(d:l[1]?=some y)(e:l.length=2):l=[x,y]:=by
 match l,e with
 |[a,b],_=>simp at c d;rw[c,d]
def BO.done(h:BO eZ w0 a c7 2 2 0 v l v12 El oZ w)(b:∀f,f<5->(l f).length=2):∃e U,e.N=a.N/\e.bF=a.bF/\dQ oZ w e (Net.new a.bF a.dW a.iF) U (ends (Net.new a.bF a.dW a.iF)):=by
 have G:=fun f K=>h.gt f K;obtain⟨g,u,B,M,f0,_⟩:=Ma (h.gt 0 aj) (by rw[b 0 aj];omega);obtain⟨n,x,C,N,f1,_⟩:=Ma (h.gt 1 aj) (by rw[b 1 aj];omega);obtain⟨H,y,D,O,f2,R,r⟩:=Ma (h.gt 2 aj) (by rw[b 2 aj];omega);obtain⟨I,z,E,P,f3,S,s⟩:=Ma (h.gt 3 aj) (by rw[b 3 aj];omega);obtain⟨J,A,F,Q,f4,T,t⟩:=Ma (h.gt 4 aj) (by rw[b 4 aj];omega);have o:=h.ou.1;unfold nt0 at o;rw[B,C,D,E,F,b 0 aj,b 1 aj,b 2 aj,b 3 aj,b 4 aj]at o;refine⟨{a with xb:=g,xc:=u,eb:=n,ec:=x,gb:=H,gc:=y,nb:=I,nc:=z,cb:=J,cc:=A},nZ,rfl,rfl,⟨o,h.ou.2⟩,fun i c=>⟨f0 i _ (h.px i (by rw[b 0 aj];exact c)),?_⟩,fun i c=>⟨f1 i _ (h.pe i (by rw[b 1 aj];exact c)),?_⟩,fun i k c d=>⟨(h.el i k c d).1,?_⟩,fun i k c d=>?_,⟨⟨R,?_⟩,O⟩,fun i c=>⟨[],.inl ⟨rfl,rfl,rfl⟩,rfl,List.nodup_nil,fun j L=>absurd L (qmy j)⟩,⟨⟨S,?_⟩,P⟩,⟨⟨T,?_⟩,Q⟩,.inl ⟨rfl,rfl,rfl⟩,fun i c=>h.sd i c,fun i c=>h.cn i c,h.gd,h.er,h.o0⟩;·show 180<=oZ g/\oZ g<200;rw[M];decide
 ·show 180<=oZ n/\oZ n<200;rw[N];decide
 ·show 180<=oZ (a.el i)/\oZ (a.el i)<200;rw[(h.el i k c d).2];omega
 ·obtain⟨p,q⟩:=h.en i k (.inl ⟨c,d⟩);rw[YL a.bF a.dW a.iF i k d]at p;exact⟨p,q⟩
 ·rw[OX (h.pg 0 (by rw[b 2 aj];omega)) (h.pg 1 (by rw[b 2 aj];omega)) (b 2 aj)]at r;exact r
 ·rw[OX (h.pn 0 (by rw[b 3 aj];omega)) (h.pn 1 (by rw[b 3 aj];omega)) (b 3 aj)]at s;exact s
 ·rw[OX (h.pc 0 (by rw[b 4 aj];omega)) (h.pc 1 (by rw[b 4 aj];omega)) (b 4 aj)]at t;exact t
end

end
section
section
variable {eZ oZ:Own} {w0 w:Wq} {a:Ad} {c7 i m k:Nat} {v:Nat->WA} {l:Nat->bJ} {v12:WA} {El:bJ}
def BO.app'(h:BO eZ w0 a c7 i m k v l v12 El oZ w)(N:Nat)(D:a.N=N)(f p s e:Nat)(y:f<5)(H:pos f=p)(I:sty f=s)(F:ety f=e)(u:WA)(J:u.oneCell'=true)(G:(l f).length<=10)(K:f=0->u=(aJ (a.C (l 0).length) 0))(C:f=1->u=(dh (a.el (l 1).length) 8 (a.Gl (l 1).length)))(r:f=2->u=nZ)(E:3<=f->u=(uZ 0)):∃c j d n q o b W t M x,w.cell? (ay N p)=some (.slice c j d)/\(∀L,(eT #[s,s] L #[.slice c j d,dh w.heap.size 1 1]).run prog (w.alloc (.cells #[u] e))=.ok (.slice n q o) b)/\b.cell? (ay N p)=some (.slice c j d)/\b.frozen? (ay N p)=false/\b.setCell (ay N p) (.slice n q o)=W/\Hid (BO eZ w0 a c7 i m k M x v12 El t W)/\Hid ((x f).length=(l f).length+1/\∀g,g≠f->x g=l g):=by subst H I F D;obtain⟨c,j,d,n,q,o,b,t,A,run,z,f6,B⟩:=h.app f y u J G K C r E;refine⟨c,j,d,n,q,o,b,_,t,_,_,by rw[h.ou.1.cell,YK a v f y,A],run,z,f6,rfl,B,aM,fun g r=>?_⟩;simp only[aV r]
end

def NwN(w:Wq)(b d c:Nat)(p:WA)(w':Wq):Prop:=∃a oZ e,p=(aJ a.N 0)/\a.bF=b/\dQ oZ w' a (Net.new b d c) e (ends (Net.new b d c))/\Kp TN (fun _=>0) oZ w w'
structure BuL (w0:Wq) (N mt wi tt c7 i:Nat) (w:Wq):Prop where
 ex:∃a v l oZ,a.N=N/\a.bF=mt/\a.dW=wi/\a.iF=tt/\BO (fun _=>0) w0 a c7 i i 0 v l nZ [] oZ w/\∀f,f<5->(l f).length=i
def BuK(w0:Wq)(N b d c c7 i k:Nat)(v12:WA)(w:Wq):Prop:=∃a v l El oZ,a.N=N/\a.bF=b/\a.dW=d/\a.iF=c/\BO (fun _=>0) w0 a c7 i (i+1) k v l v12 El oZ w/\(l 0).length=i+1/\∀f,f≠0->f<5->(l f).length=i
def qch(w:Wq)(n p o:Nat)(D:g_ w)(E:kU w)(C:2<=w.heap.size):BuL w (w.heap.size+1) n p o w.heap.size 0 ((w.alloc (.cells #[iZ n,iZ p,iZ o] 45)).alloc (.cells #[nZ,nZ,nZ,nZ,uZ 0,iZ n,iZ p,iZ o,nZ,nZ] 48)):=by
 obtain⟨g,d⟩:=bT (w.alloc (.cells [iZ n,iZ p,iZ o].toArray 45));have q:bE w g:=by rw[d];exact(qlw _ w).alloc (qj _) _
 have y:aL g w.heap.size 45 [iZ n,iZ p,iZ o]:=by rw[d];exact aL.new w 45 _
 have u:g.heap.size=w.heap.size+1:=by rw[d];simp
 let a:Ad:=⟨w.heap.size+1,0,0,0,0,0,0,0,0,0,0,fun _=>0,fun _=>0,fun _ _=>0,fun _=>0,fun _=>0,fun _=>0,fun _=>0,fun _=>0,n,p,o⟩
 obtain⟨t,h⟩:=bT (g.alloc (.cells (nt0 a (fun _=>nZ)).toArray 48));have r:bE g t:=by rw[h];exact(qlw _ g).alloc (qj _) _
 have z:aL t g.heap.size 48 (nt0 a (fun _=>nZ)):=by rw[h];exact aL.new g 48 _
 rw[u]at z;have e:bE w t:=q.trans (r.mono q.size);have key:BuL w (w.heap.size+1) n p o w.heap.size 0 t:=by
  refine⟨a,fun _=>nZ,fun _=>[],fun x=>if x=w.heap.size+1 then 200 else 0,rfl,rfl,rfl,rfl,⟨⟨z,bM rfl⟩,⟨y.of_heap (r.block _ y.lt),aV aj⟩,fun f F=>.inl ⟨rfl,rfl,rfl⟩,.inl ⟨rfl,rfl,rfl⟩,fun B A=>aj,fun j B c _=>aj,fun j B c=>aj,fun j c=>aj,fun j c=>aj,fun j c=>by simp at c,fun j c=>by simp at c,fun j c=>by simp at c,fun j c=>by simp at c,fun j c=>by simp at c,?_,?_,aV aj,?_,aj,aj,aj,fun _=>rfl⟩,fun f F=>rfl⟩;·exact⟨fun k A=>cell_of (E k A) (e.block 1 aj),aV aj,qlz C e.size⟩
  ·exact cell_of D (e.block 0 aj)
  ·exact⟨e.os,e.tape,e.output,e.size,fun b s _=>e.block b s,fun b s=>aV aj⟩
 rw[h,d]at key;exact key
def Em(E G F:Int)(hm:kG E)(hw:kG G)(ht:kG F)(w:Wq)(hE:g_ w)(hT:kU w)(M:2<=w.heap.size):WB prog 21 #[iZ E,iZ G,iZ F] w fun e w'=>∃p,e=.returned p/\NwN w (64+cu E 337) (16+cu G 300) (16+cu F 600) p w':=by
 have l1:=dL E 337 aj;have l2:=dL G 300 aj;have l3:=dL F 600 aj;obtain⟨X,T⟩:=bT (64+cu E 337);obtain⟨wi,V⟩:=bT (16+cu G 300);obtain⟨tt,U⟩:=bT (16+cu F 600);rw[<-T,<-V,<-U];have s:=aF (qch w X wi tt hE hT M);have q1:(64:Int)+((cu E 337:Nat):Int)=(X:Int):=aj;have q2:(16:Int)+((cu G 300:Nat):Int)=(wi:Int):=aj;have q3:(16:Int)+((cu F 600:Nat):Int)=(tt:Int):=aj;have b1:X<=400:=aj;have b2:wi<=400:=aj;have b3:tt<=700:=aj;have b4:64<=X/\16<=wi/\16<=tt:=aj;have HB:=aF b4;clear hE hT M T V U b4;go_enter func21,ntmps21;go_wp2_with (go_at_call 32;refine(iO _ _ asZ gP _).mono ?_;rintro ee y ⟨rfl,ho⟩;subst ho);generalize hN:y.heap.size+1=N at *
 generalize he:y.heap.size=c7 at *
 clear hN he q1 q2 q3 l1 l2 l3;go_loopw [9] (fun s9 wr=>∃i:Nat,i<=2/\s9=(iZ i)/\Hid (BuL y N X wi tt c7 i wr)) (fun s9 _=>2-(eB s9).toNat);case atStart=>exact⟨0,aj,rfl,s⟩
 case round=>
  obtain⟨i,hi,rfl,HR⟩:=hrel;clear s;by_cases A:i<2
  ·have hv:(i:Int)<2:=aj;obtain⟨a,v,l,oZ,Q,rfl,rfl,rfl,u,R⟩:=HR.out.ex;have H:=aF Q;clear Q;have c0:=u.cf.1.cell 0;have c1:=u.cf.1.cell 1;have c2:=u.cf.1.cell 2;simp only[qml,qma]at c0 c1 c2;have s:=aF R;have H0:=aF u;have hb:=HB.out;have HN:=aF (qfu oZ (60*(i+1)) aj a.bF a.dW a.iF aj aj aj wr);clear R u hb HR;go_wp2_with (first
    |(
      go_at_call 33;refine HN.out.mono ?_;rintro e w3 ⟨C,rfl,hn⟩;obtain⟨S,bw,bl,bi,nP,O⟩:=H0.out.side A (s.out 0 aj) hn;obtain⟨a0,n0,k0,a2,n2,k2,w6,W,jl,v',l',d3,run,d6,f6,hW,P,z⟩:=O.app' N H.out 0 0 39 83 aj rfl rfl rfl (aJ C 0) rfl (by rw[s.out 0 aj];omega) (fun _=>by rw[s.out 0 aj];unfold Ad.side;simp) (fun e=>aj) (fun e=>aj) (fun e=>aj);clear hn O)
    |(at_builtin;refine qmm _ rfl _ _ _ _ rfl _ _ rfl rfl _ _ (run _) ?_))
   have I:Hid (BuK y N a.bF a.dW a.iF c7 i 0 nZ W):=⟨a.side i C S bw bl bi,v',l',[],jl,H.out,rfl,rfl,rfl,P.out,by rw[z.out.1,s.out 0 aj],fun f hf hg=>by rw[z.out.2 f hf];exact s.out f hg⟩;clear P z hW d6 f6 d3 run H0 s HN c0 c1 c2;go_loopw [12,13] (fun hu D wr=>∃k:Nat,k<=8/\D=(iZ k)/\Hid (BuK y N a.bF a.dW a.iF c7 i k hu wr)) (fun _ D _=>8-(eB D).toNat);case atStart=>exact⟨0,aj,rfl,I⟩
   case round=>
    obtain⟨k,hk,rfl,t⟩:=hrel;clear I;by_cases hj:k<8
    ·have xe:(k:Int)<8:=aj;obtain⟨a1,v1,l1,El,eG,d,x,J,K,L,j,b⟩:=t.out;obtain⟨a0,c0,a2,c2,w7,hr,ev,run,h7⟩:=L.Ur hj A;have hc:Hid (BuK y N a.bF a.dW a.iF c7 i (k+1) (.slice a2 (k+1) c2) w7):=⟨a1.Ur i k wr.heap.size,v1,l1,_,hr,d,x,J,K,h7,j,b⟩;subst ev;unfold IX at run;clear d x J K L h7 j b t;go_wp2_with (first|(at_builtin;refine qmm _ rfl _ _ _ _ rfl _ _ rfl rfl _ _ (run _) ?_)|go_in);go_roundw;case rel=>exact⟨k+1,aj,aM,hc⟩
     case measure=>simp[eB];omega
    ·obtain rfl:k=8:=aj;obtain⟨a1,v1,l1,El,eG,d,x,J,K,L,j,b⟩:=t.out;obtain⟨g,c,ev,M⟩:=L.close A (b 1 aj aj);obtain⟨x0,x1,x2,y0,y1,y2,z0,W1,o1,v2,l2,d1,oh,t1,f1,hx,O,q3⟩:=M.app' N d 1 1 40 78 aj rfl rfl rfl (dh g 8 c) rfl (by rw[b 1 aj aj];omega) (fun e=>aj) (fun _=>by rw[b 1 aj aj];unfold Ad.elp;simp) (fun e=>aj) (fun e=>aj);obtain⟨Y,n⟩:=q3.out;have r2:(l2 2).length=i:=by rw[n 2 aj];exact b 2 aj aj
     obtain⟨x3,x4,x5,y3,y4,y5,z1,W2,o2,v3,l3,d2,zP,t2,f2,hy,h4,q4⟩:=O.out.app' N d 2 2 41 49 aj rfl rfl rfl nZ rfl aj (fun e=>aj) (fun e=>aj) (fun _=>rfl) (fun e=>aj);obtain⟨Z,o⟩:=q4.out;have r3:(l3 3).length=i:=by rw[o 3 aj,n 3 aj];exact b 3 aj aj
     obtain⟨x6,x7,x8,y6,y7,y8,z2,W3,o3,v4,l4,d3,B,t3,f3,xd,h5,q5⟩:=h4.out.app' N d 3 3 42 43 aj rfl rfl rfl (uZ 0) rfl aj (fun e=>aj) (fun e=>aj) (fun e=>aj) (fun _=>rfl);obtain⟨h8,q⟩:=q5.out;have r4:(l4 4).length=i:=by rw[q 4 aj,o 4 aj,n 4 aj];exact b 4 aj aj
     obtain⟨x9,xa,xb,y9,ya,yb,z3,W4,o4,v5,l5,d4,ha,t4,f4,Ew,P,q6⟩:=h5.out.app' N d 4 9 42 43 aj rfl rfl rfl (uZ 0) rfl aj (fun e=>aj) (fun e=>aj) (fun e=>aj) (fun _=>rfl);obtain⟨h9,r⟩:=q6.out;have HE:Hid (BuL y N a.bF a.dW a.iF c7 (i+1) W4):=⟨a1.elp i g c,v5,l5,o4,d,x,J,K,P.out,fun f hf=>by
      rcases(show f=0\/f=1\/f=2\/f=3\/f=4 by omega)with rfl|rfl|rfl|rfl|rfl;·rw[r 0 aj,q 0 aj,o 0 aj,n 0 aj];exact j
      ·rw[r 1 aj,q 1 aj,o 1 aj,Y,b 1 aj aj]
      ·rw[r 2 aj,q 2 aj,Z,r2]
      ·rw[r 3 aj,h8,r3]
      ·rw[h9,r4]⟩
     subst ev;clear L M O h4 h5 P q3 q4 q5 q6 Y n Z o h8 q h9 r r2 r3 r4 j b d x J K t;go_wp2_with (first|(at_builtin;refine qmm _ rfl _ _ _ _ rfl _ _ rfl rfl _ _ (oh _) ?_;clear oh;(try have oh:=zP);(try clear zP);(try have zP:=B);(try clear B);(try have B:=ha);(try clear ha))|go_in);go_roundw;case rel=>exact⟨i+1,aj,aM,HE⟩
     case measure=>simp[eB];omega
  ·obtain rfl:i=2:=aj;obtain⟨a,v,l,oZ,rfl,rfl,rfl,rfl,u,R⟩:=HR.out.ex;obtain⟨a',vb,d,x,hM⟩:=u.done R;have HE:Hid (NwN y a.bF a.dW a.iF (aJ a.N 0) wr):=⟨a',oZ,vb,by rw[d],x,hM,u.kp⟩;clear u R hM d x HR;go_wp2;go_ret;exact⟨_,rfl,HE.out⟩
end
def Wd(n:Net):Prop:=((n.x 1).cK 3).aY=22/\((n.x 1).cK 3).state=1
def IY{n:Net}(h:Wd n)(i:Nat){M:av}(s:Sm (n.x i) M):Wd (n.dA i M):=by
 unfold Wd;by_cases e:(1:Nat)=i;·subst e;rw[fV,(s.i 3).1,(s.i 3).2];exact h
 ·rw[iH _ _ _ _ e];exact h
def YM:∀(i:Nat) {n n':Net},Wd n->FlR i n n'->Wd n'
 |0,n,n',h,e=>by cases e;exact h
 |i+1,n,n',h,e=>by obtain⟨a,e,M,b,r,rfl⟩:=e;have:=IY (YM i h e) i (KN r);exact this
def YN(l:List (Nat×Nat×List Fr)):∀(j:Nat) {n n':Net},Wd n->CmR l j n n'->Wd n'
 |0,n,n',h,e=>by cases e;exact h
 |j+1,n,n',h,e=>by obtain⟨c,e,M,r,rfl⟩:=e;have a:=IY (YN l j h e) _ (DL r);have b:=IY a (l.getD j (0,0,[])).1 (OO _);exact b
def YO{n:Net}(h:Wd n)(i k:Nat)(p:RdK ((n.x (1-i)).out k) ((n.x i).cK k) 4096):Wd (rdN n i k):=by
 unfold Wd rdN;by_cases e:(1:Nat)=i
 ·subst e;rw[fV,jT];split;·rename_i f;have b:k=3:=aj;subst b;obtain⟨c,d⟩:=p.s0 (by rw[h.2];omega);have a:=p.nx;rw[c]at a;exact⟨by rw[a];exact h.1,by rw[d];exact h.2⟩
  ·exact h
 ·rw[iH _ _ _ _ e];exact h
def YP:∀(c:Nat) {n n':Net},Wd n->UQ c n n'->Wd n'
 |0,n,n',h,e=>by cases e;exact h
 |c+1,n,n',h,e=>by obtain⟨a,e,p,rfl⟩:=e;exact YO (YP c h e) _ _ p
def qfw{n n':Net}(h:Wd n)(r:RoR n n'):Wd n':=by obtain⟨g,i,a,d,j,e,f⟩:=r;have b:Wd (n.jk g i):=h;have c:Wd a:=YM 2 b d;exact YP 16 (YN _ _ (show Wd {a with dI:=[]}from c) e) f
def qdg(I:eU):∀(c:Nat) {n n':Net},(n.x 1).cK 3=I->(n.x 1).ins.length=8->UQ c n n'->(n'.x 1).ins.length=8/\(c<=11->(n'.x 1).cK 3=I)/\(11<c->((I.rd (4096:Nat)).2.aY=22/\(I.rd (4096:Nat)).2.state=1)->Wd n')
 |0,n,n',h,hl,e=>by cases e;exact⟨hl,fun _=>h,fun h=>aj⟩
 |c+1,n,n',h,hl,e=>by
  obtain⟨i,e,p,rfl⟩:=e;obtain⟨d,f,j⟩:=qdg I c h hl e;refine⟨?_,fun g=>?_,fun g b=>?_⟩
  ·unfold rdN;by_cases a:(1:Nat)=c / 8;·rw[<-a,fV];show(md _ _ _).length=8;rw[jB];exact d
   ·rw[iH _ _ _ _ a];exact d
  ·have:=f aj;unfold rdN;by_cases a:(1:Nat)=c / 8;·rw[<-a,fV,jT,aV aj];exact this
   ·rw[iH _ _ _ _ a];exact this
  ·by_cases e:c=11;·subst e;have:=f aj;show Wd (rdN i 1 3);unfold Wd rdN;rw[fV,jT,bM ⟨rfl,aj⟩,this];exact b
   ·exact YO (j aj b) _ _ p
def Gw{M M':av}{c:List (Nat×List Fr)}(g:M.bf=[])(i:M.bI=false)(h:M.kQ M' c):fI 14 {M with bI:=false} [] q0 []=(M',c):=by
 obtain⟨b,a,e⟩:=h;unfold av.lS at a;rw[g]at a;have d:b=M:=a;subst d;have f:lf b=[]:=by unfold lf;rw[i];rfl
 rw[f]at e;exact e
def wS:ByteArray:=⟨#[115,111,109,101,32,98,121,116,101,115,32,111,102,32,97,32,115,116,114,101,97,109]⟩
def wN:Net:=((Net.new 64 116 116).oJ 0 3 wS).OT 0 3
def wA(a b:WA):av×List (Nat×List Fr):=fI 14 {((wN.jk a b).x 0)with bI:=false} [] q0 []
def wB(a b:WA):av×List (Nat×List Fr):=fI 14 {((wN.jk a b).x 1)with bI:=false} [] q0 []
def wF:Fr:=⟨4,3,0,0,0,true,0,0,wS,[]⟩
def wC(a b:WA):av:={(wB a b).1 with aP:=(wB a b).1.aP.add 8 0 0,bI:=(wB a b).1.bI||fD [norm wF]}
def qi4(a b:WA):(wA a b).2=[(0,[wF])]:=bO
def qi5(a b:WA):(wB a b).2=[]:=bO
def qi6(a b:WA):(wB a b).1.aP.has 0=false:=bO
def IZ(a b:WA):((wC a b).take (norm wF)).2=0/\(norm wF).aD=4/\((wC a b).take (norm wF)).1.ins.length=8:=⟨bO,bO,bO⟩
def qkm(a b:WA):(((((wC a b).take (norm wF)).1.cK 3).rd (4096:Nat)).2.aY=22/\((((wC a b).take (norm wF)).1.cK 3).rd (4096:Nat)).2.state=1):=⟨bO,bO⟩
def QL(n:Net)(i:Nat)(M:av):((n.dA i M).iD i).x i=M.emp:=by show(if i=i then(if i=i then M else n.x i).emp else _)=_;rw[bM rfl,bM rfl]
def qci(M:av)(k:Nat):M.emp.cK k=M.cK k:=rfl
def qcj(M:av):M.emp.ins=M.ins:=rfl
def qck{n':Net}(r:RoR wN n'):Wd n':=by
 obtain⟨a,b,S,⟨R,⟨I,x,e,d,O,rfl⟩,o,g,P,rfl⟩,J,u,v⟩:=r;have i:I=wN.jk a b:=x;subst i;have z:=Gw (M:=(wN.jk a b).x 0) bO bO O;have A:=Gw (M:=((wN.jk a b).vT 0 e d).x 1) bO bO P;have D:wA a b=(e,d):=z;have q:wB a b=(o,g):=A;have L:d=[(0,[wF])]:=by rw[<-qi4 a b,D]
 have N:g=[]:=by rw[<-qi5 a b,q]
 have H:o=(wB a b).1:=by rw[q]
 subst L N H;have F:(((wN.jk a b).vT 0 e [(0,[wF])]).vT 1 (wB a b).1 []).dI=[(1,0,[norm wF])]:=rfl;rw[F]at u;obtain⟨K,y,M,G,l⟩:=u;have j:K={(((wN.jk a b).vT 0 e [(0,[wF])]).vT 1 (wB a b).1 [])with dI:=[]}:=y;subst j;obtain⟨X,s⟩:=bT (((wC a b).take (norm wF)).1);have m:J=(Net.dA {(((wN.jk a b).vT 0 e [(0,[wF])]).vT 1 (wB a b).1 [])with dI:=[]} 1 M).iD 1:=l;have n:(wB a b).1.ji 0 [norm wF] M 0:=G;unfold av.ji at n;rw[qi6 a b,aV gP]at n;obtain⟨h,p,Q,w⟩:=n;have c:(wC a b).fU (norm wF) h p:=Q;unfold av.fU at c;rw[aV (by rw[(IZ a b).2.1];decide),aV (by rw[(IZ a b).2.1];decide)]at c;have C:h=X:=(congrArg Prod.fst c).trans s.symm;have B:p=0:=(congrArg Prod.snd c).trans (IZ a b).1;rw[bM B]at w;have k:M=h:=w.1;have t:=(IZ a b).2.2;have f:=qkm a b;rw[<-s]at t f;have E:M=X:=k.trans C;rw[m,E]at v;have:=qdg (X.cK 3) 16 (by rw[QL,qci]) (by rw[QL,qcj];exact t) v;exact this.2.2 aj f
def qdh:∀(t:Nat) {n':Net},Jk (t+1) wN n'->Wd n'
 |0,n',h=>by obtain⟨a,e,r⟩:=h;cases e;exact qck r
 |t+1,n',h=>by obtain⟨a,e,r⟩:=h;exact qfw (qdh t e) r
def En(K:Kp TN (fun _=>0) oZ w w'):bE w w':=
 ⟨K.os,K.tape,K.output,K.size,fun b a=>K.bY b a qdf⟩
def I4(n:Nat)(h:n<=1000):kG (n:Int):=by unfold kG;omega
def OY(a b c B:Nat)(h:B<=1000000):qM (Net.new a b c) B:=⟨fun i _=>by show 0+24*(B+1)<dH/\0+B<_;unfold dH;omega,by show 0+B<_;omega⟩
def YQ(w:Wq)(Q:g_ w)(T:kU w)(i:2<=w.heap.size):qH 15 #[] w (.bool true) fun x=>bE w x:=by
 have I:kG 0:=I4 0 aj;have V:kG 3:=I4 3 aj;have u:kG 100:=I4 100 aj;have L:Hid (WB prog 21 #[iZ 0,iZ 100,iZ 100] w fun e x=>∃N,e=.returned (aJ N 0)/\Hid (∃a g B,a.N=N/\a.bF=64/\dQ g x a (Net.new 64 116 116) B (ends (Net.new 64 116 116))/\Kp TN (fun _=>0) g w x)):=by refine(Em 0 100 100 I u u w Q T i).mono ?_;rintro e x ⟨p,rfl,a,g,B,rfl,E,y,i⟩;exact⟨a.N,rfl,a,g,B,rfl,E,y,i⟩
 clear Q T i;go_enter func15,ntmps15;go_wp2_with (go_at_call 21;refine L.out.mono ?_;rintro e k ⟨N,rfl,y⟩);obtain⟨a,g,B,rfl,F,S,R⟩:=y.out;clear y L;have b:gI a.bF (Net.new 64 116 116):=by rw[F];exact D6 64 116 116 aj aj aj
 have J:cu 0 2=0:=rfl;have K:cu 3 8=3:=rfl;have c:gI a.bF ((Net.new 64 116 116).oJ 0 3 wS):=jF b 0 aj _ (Jz (b.loc 0 aj) (b.two 0 aj) (b.uS 0 aj) _ _) (Qh (b.bd 0 aj) _ _) rfl rfl;have r:gI a.bF wN:=jF c 0 aj _ (Ci (c.loc 0 aj) (c.two 0 aj) (c.uS 0 aj) _) (FY (c.bd 0 aj) _) rfl rfl;have C:Hid (qH 22 #[aJ a.N 0,.agg #[iZ 1,iZ 0,iZ 3,iZ 0,.string wS]] k (.bool true) fun m=>Hid (nk g k a ((Net.new 64 116 116).oJ 0 3 wS) m)):=by have:=QE S b 0 3 0 I V wS gP;rw[J,K]at this;exact this
 have X:Hid (∀m,nk g k a ((Net.new 64 116 116).oJ 0 3 wS) m->qH 22 #[aJ a.N 0,.agg #[iZ 2,iZ 0,iZ 3,iZ 0,.string ⟨#[]⟩]] m (.bool true) fun l=>Hid (nk g k a wN l)):=fun m i=>by obtain⟨o,v,n,j⟩:=i;have:=Gv n c 0 3 0 I V ⟨#[]⟩;rw[J,K]at this;refine bH this ?_;rintro l q;exact⟨rfl,q.then j⟩
 have Y:Hid (∀l,nk g k a wN l->qH 18 #[aJ a.N 0,iZ 4] l (.bool true) fun d=>Hid (∃f,Wd f/\nk g k a f d)):=fun l n=>by obtain⟨o,v,j,z⟩:=n;have G:qM ((Net.new 64 116 116).oJ 0 3 wS) 12:=qM.dA (OY 64 116 116 12 aj) 0 (M:=((Net.new 64 116 116).x 0).dD 3 ((((Net.new 64 116 116).x 0).out 3).send wS.data.toList).1) rfl rfl;have A:qM wN 12:=qM.dA G 0 (M:=((((Net.new 64 116 116).oJ 0 3 wS).x 0).dD 3 ((((Net.new 64 116 116).oJ 0 3 wS).x 0).out 3).finish.1)) rfl rfl;have H:iC 0 ((Net.new 64 116 116).oJ 0 3 wS):=iC.dA (Ej 64 116 116) 0 (M:=((Net.new 64 116 116).x 0).dD 3 ((((Net.new 64 116 116).x 0).out 3).send wS.data.toList).1) ⟨rfl,rfl,rfl,rfl,rfl⟩ rfl;have hg:iC 0 wN:=iC.dA H 0 (M:=((((Net.new 64 116 116).oJ 0 3 wS).x 0).dD 3 ((((Net.new 64 116 116).oJ 0 3 wS).x 0).out 3).finish.1)) ⟨rfl,rfl,rfl,rfl,rfl⟩ rfl;refine bH (qc8 j r 4 aj ⟨0,aj,hg⟩ A aj) ?_;rintro d ⟨f,p,_,_,_,q⟩;exact⟨rfl,f,qdh 3 p,q.then z⟩
 have W:Hid (∀f d,Wd f->nk g k a f d->d.cell? (ay a.N 1)=some (dh a.eb 2 a.ec)/\d.cell? (ay a.eb 0)=some (dh (a.el 0) 8 (a.Gl 0))/\d.cell? (ay (a.el 0) 3)=some (aJ (a.e 0 3) 0)/\d.cell? (ay (a.e 0 3) 4)=some (iZ 22)/\d.cell? (ay (a.e 0 3) 5)=some (iZ 1)/\bE w d):=fun f d s j=>by
  obtain⟨o,v,z,h6⟩:=j;obtain⟨_,O,_⟩:=z.cells;obtain⟨E,Z,P⟩:=z.Li 0 3 aj aj;refine⟨O,E,Z,?_,?_,En (R.trans h6)⟩;·rw[P];show some (Value.int .i64 (((f.x 1).cK 3).aY:Int))=_;rw[s.1];rfl
  ·rw[P];show some (Value.int .i64 (((f.x 1).cK 3).state:Int))=_;rw[s.2];rfl
 have t:wS=⟨#[115,111,109,101,32,98,121,116,101,115,32,111,102,32,97,32,115,116,114,101,97,109]⟩:=rfl;rw[t]at C;clear S R b c r J K t;go_wp2_with (first|(go_at_call 22;refine bH C.out ?_;rintro m i;clear C)|(go_at_call 22;refine bH (X.out _ i.out) ?_;rintro l n)|(go_at_call 18;refine bH (Y.out _ n.out) ?_;rintro d j;obtain⟨f,s,U⟩:=j.out;obtain⟨O,c2,c3,c4,c5,A⟩:=W.out f d s U;have D:=aF A;clear A s U j));go_ret;exact⟨rfl,D.out⟩
structure Us where
 K:Int
 Sd:Int
 A:Int
 B:Int
 S:ByteArray
def ET:Us:=⟨0,0,0,0,⟨#[]⟩⟩
structure qfx (w:Wq) (b off:Nat) (s:Us):Prop where
 c0:w.cell? (ay b off)=some (iZ s.K)
 c1:w.cell? (ay b (off+1))=some (iZ s.Sd)
 c2:w.cell? (ay b (off+2))=some (iZ s.A)
 c3:w.cell? (ay b (off+3))=some (iZ s.B)
 c4:w.cell? (ay b (off+4))=some (.string s.S)
 i1:kG s.Sd
 i2:kG s.A
 i3:kG s.B
 ls:s.S.size<=140737488351232
def StW(w:Wq)(d:Option Addr)(c:List Us):Prop:=∀j,j<c.length->∃b a,d=some (ay b a)/\qfx w b (a+j*5) (c.getD j ET)
def StW.below{d:Option Addr}{f:List Us}(h:StW w d f)(i:bE w w'):StW w' d f:=fun j k=>by obtain⟨b,c,e,s⟩:=h j k;have a:b<w.heap.size:=qmf w (ay b _) (by rw[s.c0]);have g:=i.block b a;exact⟨b,c,e,cell_of s.c0 g,cell_of s.c1 g,cell_of s.c2 g,cell_of s.c3 g,cell_of s.c4 g,s.i1,s.i2,s.i3,s.ls⟩
def SmQ(a:List Us)(w:Wq)(e:Ending)(w':Wq):Prop:=∃b:Bool,e=.returned (.bool b)/\(b=true->a.length<=8192/\∀j,j<a.length->(a.getD j ET).S.size<=8192)/\w'=w
def OZ{a:List Us}{e:Ending}(b:Bool)(c:e=.returned (.bool b))(d:b=true->a.length<=8192/\∀j,j<a.length->(a.getD j ET).S.size<=8192)(f:w'=w):SmQ a w e w':=⟨b,c,d,f⟩
def YR{r:Option Addr}(a:List Us)(E:Nat)(o:StW w r a)(x:a.length<=140737488351232):WB prog 14 #[.slice r a.length E] w fun e H=>SmQ a w e H:=by
 have t:=aF o;obtain⟨m,f⟩:=bT a.length;have l:=aF f;rw[<-f]at x ⊢;clear o f;go_enter func14,ntmps14;go_wp2;go_loopw [3,4] (fun G k wr=>∃i n:Nat,i<=m/\k=(iZ i)/\G=(iZ n)/\m<=n/\n<=281474976710656/\Hid (wr=w/\∀j,j<i->(a.getD j ET).S.size<=n)) (fun _ k _=>m-(eB k).toNat);case atStart=>exact⟨0,m,qm2 _,rfl,rfl,qj _,aj,rfl,fun j p=>aj⟩
 case round=>
  obtain⟨i,n,I,rfl,rfl,B,C,c⟩:=hrel;by_cases z:i<m
  ·have q:(i:Int)<(m:Int):=aj;by_cases A:n<=8192
   ·have d:(n:Int)<=8192:=aj;obtain⟨b,F,rfl,g⟩:=t.out i (bR l.out);have v:=g.c4;rw[<-c.out.1]at v;have y:=g.ls;have u:Hid (wr=w/\∀j,j<i+1->(a.getD j ET).S.size<=n+(a.getD i ET).S.size):=⟨c.out.1,fun j p=>by
     by_cases e:j=i;·rw[e];omega
     ·have:=c.out.2 j aj;omega⟩
    clear g c;generalize (a.getD i ET).S=D at *
    go_wp2;go_roundw;case rel=>exact⟨i+1,n+D.size,aj,aM,aM,aj,aj,u⟩
    case measure=>simp[eB];omega
   ·have d:¬((n:Int)<=8192):=aj;go_wp2;go_ret;exact OZ false rfl (fun h=>by cases h) c.out.1
  ·obtain rfl:i=m:=aj;by_cases A:n<=8192
   ·have d:(n:Int)<=8192:=aj;have s:Hid (a.length<=8192/\∀j,j<a.length->(a.getD j ET).S.size<=8192):=by
     have:=l.out;exact⟨aj,fun j p=>bR (c.out.2 j aj)⟩
    go_wp2;go_ret;exact OZ true rfl (fun _=>s.out) c.out.1
   ·have d:¬((n:Int)<=8192):=aj;go_wp2;go_ret;exact OZ false rfl (fun h=>by cases h) c.out.1
def PyS(oZ:Own)(w b:Wq)(a:Ad)(c i:Nat)(wr:Wq):Prop:=∃n,gI a.bF n/\iC i n/\qM n (8192-i)/\n.dI.length<=24*i/\nk oZ b a n wr/\a.bF=c/\Kp TN (fun _=>0) oZ w b
def PyS.below{d:Wq}{a:Ad}{c:Nat}(h:PyS oZ w d a c i wr):bE w wr:=by obtain⟨n,_,_,_,_,⟨o,f,e,b⟩,_,K⟩:=h;exact En (K.trans b)
def qcl{e:Wq}{a:Ad}{c:Nat}(h:PyS oZ w e a c i wr)(z:i<8192)(k:c<=400)(s:Us)(t:kG s.Sd)(u:kG s.A)(v:kG s.B)(y:s.S.size<=8192):qH 22 #[aJ a.N 0,.agg #[iZ s.K,iZ s.Sd,iZ s.A,iZ s.B,.string s.S]] wr (.bool true) fun d=>Hid (PyS oZ w e a c (i+1) d):=by obtain⟨n,p,g,b,l,⟨o,A,f,j⟩,m,K⟩:=h;rw[show 8192-i=8192-(i+1)+1 by omega]at b;refine bH (qbx f p aj g _ b aj aj s.K s.Sd s.A s.B t u v s.S aj) ?_;rintro d ⟨x,q,r⟩;exact⟨rfl,x,q.p,q.g,q.nb,bR q.bl,r.then j,m,K⟩
def YS{Y:Option Addr}(g:List Us)(oc:Nat)(k o n:Int)(hm:kG k)(hw:kG o)(ht:kG n)(T:StW w Y g)(hl:g.length<=8192)(V:∀j,j<g.length->(g.getD j ET).S.size<=8192)(R:g_ w)(W:kU w)(u:2<=w.heap.size):WB prog 16 #[.slice Y g.length oc,nZ,iZ k,iZ o,iZ n] w fun e r=>(∃p,e=.returned (.tuple #[p,.bool true]))/\bE w r:=by
 have l1:=dL k 337 aj;have l2:=dL o 300 aj;have l3:=dL n 600 aj;obtain⟨v,q⟩:=bT (64+cu k 337);have Ut:v<=400:=aj;have L:Hid (WB prog 21 #[iZ k,iZ o,iZ n] w fun e r=>∃N,e=.returned (aJ N 0)/\Hid (∃a l,a.N=N/\PyS l w r a v 0 r)):=by refine(Em k o n hm hw ht w R W u).mono ?_;rintro e r ⟨p,rfl,a,l,vb,rfl,y,P,g2⟩;rw[<-q]at y P;exact⟨a.N,rfl,a,l,rfl,_,by rw[y];exact D6 v _ _ aj aj aj,Ej _ _ _,OY _ _ _ _ aj,qm2 _,⟨l,vb,P,Kp.refl _ _ _⟩,y,g2⟩
 have HO:=aF T;have HS:=aF V;obtain⟨m,d⟩:=bT g.length;have M:=aF d;rw[<-d]at hl ⊢;clear T V d R W u q l1 l2 l3;go_enter func16,ntmps16;go_wp2_with (go_at_call 21;refine L.out.mono ?_;rintro e w1 ⟨N,rfl,Q⟩);obtain⟨a,l,rfl,U⟩:=Q.out;have O:=aF U;clear U Q L;go_loopw [13] (fun f wr=>∃i:Nat,i<=m/\f=(iZ i)/\Hid (PyS l w w1 a v i wr)) (fun f _=>m-(eB f).toNat);case atStart=>exact⟨0,qm2 _,rfl,O⟩
 case round=>
  obtain⟨i,hi,rfl,t⟩:=hrel;clear O;by_cases h0:i<m
  ·have X:(i:Int)<(m:Int):=aj;obtain⟨b,h3,e',c⟩:=(HO.out.below t.out.below) i (bR M.out);subst e';obtain⟨s,z⟩:=bT (g.getD i ET);have x:Hid (s.S.size<=8192):=by rw[z];exact HS.out i (bR M.out)
   rw[<-z]at c;clear z;obtain⟨K,Sd,A,B,S⟩:=s;have HF:=aF (qcl t.out aj Ut ⟨K,Sd,A,B,S⟩ c.i1 c.i2 c.i3 x.out);have C:=c.c0;have D:=c.c1;have E:=c.c2;have F:=c.c3;have G:=c.c4;simp only at C D E F G;clear c t;go_wp2;go_loopw [14,15] (fun H I J=>H=.bool false/\I=(iZ 0)/\J=wr) (fun _ _ _=>0);case atStart=>exact⟨rfl,rfl,rfl⟩
   case round=>
    obtain⟨rfl,rfl,e2⟩:=hrel;subst e2;go_wp2_with (go_at_call 22;refine bH HF.out ?_;rintro w2 u);go_roundw;case rel=>exact⟨i+1,aj,aM,u⟩
    case measure=>simp[eB];omega
  ·obtain rfl:i=m:=aj;have Z:=aF t.out.below;go_wp2;go_ret2;exact⟨⟨_,rfl⟩,Z.out⟩
end Go.Proofs.YtphbledmopchnaaGreatDoor.Sd
namespace Go.Proofs.YtphbledmopchnaaGreatDoor.Sd
open Go.RowKit Go.Lib Mm St Tryz
variable {K V c p z:Nat}{M:av}{f:Fr}{n:Net}{t:List (Nat×Nat×List Fr)}{u:Nat->Bool}{y:Nat×Nat×List Fr}
def Nm:Nat->List (Nat×Nat×List Fr)->Prop
 |_,[]=>True
 |c,y::t=>y.2.1=c/\Nm (c+1) t
def uX(l:List (Nat×Nat×List Fr))(i:Nat):List (Nat×Nat×List Fr):=l.filter fun y=>decide (y.1=i)
def MB(l:List (Nat×Nat×List Fr)):List Fr:=l.flatMap fun y=>uq y.2.2
def Ak(l:List (Nat×Nat×List Fr))(p:Nat):Prop:=∃y∈l,∃f∈y.2.2,f.aD=2/\names f.ranges p=true
structure Jd (dW iF now:Nat) (ua u:Bool) (A B:av) (L:List Gm) (nx:Nat) (ab ba:List (Nat×Nat×List Fr)):Prop where
 q:Q1 dW iF A
 cm:∃c,B.aP=cmn c/\Nm c ab/\c+ab.length=A.next/\∀p∈A.bf,p.2.cZ=[]/\now<=p.2.aW+1/\A.named<=p.1/\(Ak ba p.1\/(ua=false/\p.1+1=A.next/\p.2.aW=now/\((∃y∈ab,y.2.1=p.1/\fD y.2.2=true)\/B.bI=true/\p.1<c))\/u=true/\B.bI=true/\p.1<c)
 kd:∀y∈ab,∀f∈y.2.2,f.aD=2\/f.aD=7
 d1:(A.aK++MB ab).length<=1
 d2:∀f∈A.aK++MB ab,now<=f.aH/\(∀x∈B.taken,x<f.id)/\B.bW<=f.id/\f.id<nx
 gm:∀g∈L,g.aP=true\/∃f∈A.aK++MB ab,f.id=g.id
 tb:(∀x∈B.taken,x<nx)/\B.bW<=nx
 qz:∀f∈A.aK,f.data.size+40<=A.bF
def AkF(f:Fr):Prop:=f.aD=2->∃m,f.ranges=[(0,m)]
structure Jn (dW iF:Nat) (u:Nat->Bool) (n:Net):Prop where
 d:∀i,i<2->Jd dW iF n.now (u i) (u (1-i)) (n.x i) (n.x (1-i)) (n.gr i) (n.nx i) (uX n.dI (1-i)) (uX n.dI i)
 w:∀i,i<2->u i=true->(n.x i).bf.length<=1
 q:∀i,i<2->u i=false->(n.x i).aK=[]
 b:∀y∈n.dI,y.1<2/\∀f∈y.2.2,AkF f
def qg2(e c d:Nat)(u:Nat->Bool):Jn c d u (Net.new e c d):=
 ⟨fun _ _=>⟨⟨rfl,rfl,rfl,rfl⟩,⟨0,rfl,trivial,rfl,fun p i=>by cases i⟩,(fun y b=>by cases b),qm2 _,(fun f a=>by cases a),(fun g h=>by cases h),⟨(fun x j=>by cases j),qm2 _⟩,fun f a=>by cases a⟩,fun _ _ _=>qm2 _,fun _ _ _=>rfl,fun y b=>by cases b⟩
structure RvO (B B':av) (fs:List Fr):Prop where
 o:B'.outs=B.outs
 i:B'.ins=B.ins
 g:B'.gr=B.gr
 ls:B'.b_=[]
 cm:B'.aP=B.aP
 an:B'.bI=B.bI
 nx:B'.next=B.next
 mt:B'.bF=B.bF
 qu:B'.aK=B.aK
 tk:B'.aW=B.aW
 wy:∀p∈B'.bf,p∈B.bf/\B'.named<=max B.named (p.1)/\∀f∈fs,f.aD=2->names f.ranges p.1=false
 ms:B'.eP=B.eP++(uq fs).map fun f=>(f.id,f.data)
 ta:∀x∈B'.taken,x∈B.taken\/∃f∈uq fs,f.id=x
 gr:B'.bW<=B.bW\/∃f∈uq fs,B'.bW<=f.id
def Eo:∀(l:List (Nat×ru)),(∀p∈l,p.2.cZ=[])->cZ l=[]
 |[],_=>rfl
 |p::t,h=>by show p.2.cZ++cZ t=[];rw[h p aM,Eo t fun q a=>h q (by simp[a])];rfl
def O3{A A':av}{l:bZ}(i:∀p∈A.bf,p.2.cZ=[])(f:A.b_=[])(h:A.tN l A'):A'=A.Qc l:=by obtain⟨b,j,e,a,rfl⟩:=h;rw[f]at a;have d:j=[]:=List.Perm.eq_nil a;have c:cZ b=[]:=Eo b fun p g=>i p (qm4.1 (e.mem_iff.1 g)).1;rw[c,d];rfl
def uY:∀(o:List Fr) {B B':av},(∀p∈B.bf,p.2.cZ=[]/\B.named<=p.1)->B.b_=[]->(∀f∈o,f.aD=2\/f.aD=7)->(∀f∈o,AkF f)->(uq o).length<=1->(∀f∈uq o,B.aW<=f.aH/\(∀x∈B.taken,x<f.id)/\B.bW<=f.id)->mH B o B' 0->RvO B B' o/\∀p∈B'.bf,B'.named<=p.1
 |[],B,B',hw,hl,_,_,_,_,h=>by obtain⟨rfl,_⟩:=h;exact⟨⟨rfl,rfl,rfl,hl,rfl,rfl,rfl,rfl,rfl,rfl,fun p d=>⟨d,aj,fun f F=>by cases F⟩,by simp[uq],fun x l=>.inl l,.inl (qj _)⟩,fun p d=>(hw p d).2⟩
 |f::t,B,B',hw,hl,hk,ha,h1,hd,h=>by
  obtain⟨A,D,r,h⟩:=h;have s:D=0:=by
   split at h;·assumption
   ·rename_i u;exact absurd h.2.symm u
  subst s;rw[bM rfl]at h;rcases hk f aM with k|k
  ·
   unfold av.fU at r;rw[bM k]at r;split at r;·exact absurd r.2 gP
   ·have e:=O3 (fun p d=>(hw p d).1) hl r.1;subst e;obtain⟨m,G⟩:=ha f aM k;have c:uq (f::t)=uq t:=by unfold uq;rw[qpb,k];rfl
    rw[c]at h1 hd;have j:∀p∈(B.Qc f.ranges).bf,p∈B.bf/\(B.Qc f.ranges).named<=p.1/\names f.ranges p.1=false:=fun p d=>by
     obtain⟨z,J⟩:=qm4.1 d;have w:names f.ranges p.1=false:=by simpa using J
     refine⟨z,?_,w⟩;show max B.named ((f.ranges.getD 0 (0,0)).2+1)<=p.1;have:=(hw p z).2;rw[G]at w ⊢;simp[names]at w;show max B.named (m+1)<=p.1;omega
    obtain⟨a,n⟩:=uY t (fun p d=>⟨(hw p (j p d).1).1,(j p d).2.1⟩) (by show B.b_.filter _=[];rw[hl];rfl) (fun g b=>hk g (by simp[b])) (fun g b=>ha g (by simp[b])) h1 hd h;refine⟨⟨a.o,a.i,a.g,a.ls,a.cm,a.an,a.nx,a.mt,a.qu,a.tk,fun p d=>?_,by rw[c];exact a.ms,by rw[c];exact a.ta,by rw[c];exact a.gr⟩,n⟩;obtain⟨q,_,y⟩:=a.wy p d;refine⟨(j p q).1,bR (n p d),fun g b=>?_⟩;rcases qme.1 b with rfl|b;·exact fun _=>(j p q).2.2
    ·exact y g b
  ·
   unfold av.fU at r;rw[aV aj,bM k]at r;obtain⟨v,e,_⟩:=r;have c:uq (f::t)=f::uq t:=by unfold uq;rw[qpb,k];rfl
   rw[c]at h1 hd;have i:uq t=[]:=qn9.1 (by rw[qmp]at h1;omega);obtain⟨L,C,M⟩:=hd f aM;have E:B.nE f={B with eP:=B.eP++[(f.id,f.data)],bW:=max B.bW f.id,taken:=(f.id::B.taken).filter fun x=> !decide (x+32<=max B.bW f.id)}:=by
    unfold av.nE;rw[aV];rintro(h|h|h);·omega
    ·exact qoh _ (C _ h)
    ·omega
   rw[E]at e;obtain⟨a,n⟩:=uY t (B:=A) (by rw[e];exact hw) (by rw[e];exact hl) (fun g b=>hk g (by simp[b])) (fun g b=>ha g (by simp[b])) (by rw[i];simp) (by rw[i];intro g b;cases b) h;subst e;refine⟨⟨a.o,a.i,a.g,a.ls,a.cm,a.an,a.nx,a.mt,a.qu,a.tk,fun p d=>?_,?_,fun x l=>?_,?_⟩,n⟩
   ·obtain⟨q,K,y⟩:=a.wy p d;refine⟨q,K,fun g b I=>?_⟩;rcases qme.1 b with rfl|b;·omega
    ·exact y g b I
   ·rw[a.ms,c,i];simp
   ·rw[c];rcases a.ta x l with l|⟨g,b,_⟩
    ·rcases qme.1 (qm4.1 l).1 with rfl|l;·exact .inr ⟨f,aM,rfl⟩
     ·exact .inl l
    ·rw[i]at b;cases b
   ·rw[c];rcases a.gr with l|⟨g,b,_⟩;·have H:B'.bW<=max B.bW f.id:=l;exact .inr ⟨f,aM,aj⟩
    ·rw[i]at b;cases b
def A8{i:Nat}(h:y.1=i):uX (y::t) i=y::uX t i:=by unfold uX;rw[qpb,bM (decide_eq_true h)]
def A9{i:Nat}(h:y.1≠i):uX (y::t) i=uX t i:=by unfold uX;rw[qpb,aV (by simpa using h)]
def Ak.tail{l:List (Nat×Nat×List Fr)}(h:Ak (y::l) p)(c:∀f∈y.2.2,f.aD=2->names f.ranges p=false):Ak l p:=by
 obtain⟨z,a,f,b,k,e⟩:=h;rcases qme.1 a with rfl|a;·rw[c f b k]at e;cases e
 ·exact⟨z,a,f,b,k,e⟩
def Ep(now:Nat)(m:Nat×ByteArray):∀(L:List Gm) (b:Bool),∀x∈(jr now m L b).1,x.aP=true\/x.id≠m.1/\x∈L
 |[],_,x,h=>by cases h
 |g::t,b,x,h=>by
  unfold jr at h;split at h
  ·rcases qme.1 h with rfl|h;·exact .inl rfl
   ·rcases Ep now m t _ x h with h|h;·exact .inl h
    ·exact .inr ⟨h.1,by simp[h.2]⟩
  ·rename_i a;rcases qme.1 h with rfl|h;·exact .inr ⟨a,aM⟩
   ·rcases Ep now m t _ x h with h|h;·exact .inl h
    ·exact .inr ⟨h.1,by simp[h.2]⟩
def qct{iF:Nat}(C:∀i,u i=false)(h:Jn V iF u n)(o:iC K n)(O:n.dI=y::t)(r:(n.x y.1).ji y.2.1 y.2.2 M 0):Jn V iF u ((Net.dA {n with dI:=t} y.1 M).iD y.1):=by
 obtain⟨b,E⟩:=bT y.1;have D:b<2:=by rw[E];exact(h.b y (by rw[O];simp)).1
 have s:=h.d (1-b) aj;rw[show 1-(1-b)=b by omega,O,A8 E.symm,A9 aj,C,C]at s;have a:=h.d b D;rw[O,A8 E.symm,A9 aj,C,C]at a;rw[<-E]at r ⊢;obtain⟨c,c1,⟨c2,c3⟩,c4,c5⟩:=s.cm;have w:=h.q (1-b) aj (C _);have h3:=h.q b D (C _);obtain⟨e,e1,e2,e3,W⟩:=a.cm;unfold av.ji at r;rw[c1,c2,qcs,aV gP,qcr]at r;have P:MB (y::uX t b)=uq y.2.2++MB (uX t b):=rfl;have q:=s.d1;have H:=s.d2;rw[w,qmq,P]at q H;rw[qm0]at q;obtain⟨d,rn⟩:=uY y.2.2 (B:={n.x b with aP:=cmn (c+1),bI:=(n.x b).bI||fD y.2.2}) (fun p F=>⟨(W p F).1,(W p F).2.2.1⟩) a.q.ls (s.kd y aM) (h.b y (by rw[O];simp)).2 aj (fun f Q=>by obtain⟨x1,x2,x3,_⟩:=H f (qnr _ Q);exact⟨by show(n.x b).aW<=_;rw[o.tk b D];exact x1,x2,x3⟩) r;have h0:M.eP=(uq y.2.2).map fun f=>(f.id,f.data):=by rw[d.ms];show(n.x b).eP++_=_;rw[o.ms b D];rfl
 obtain⟨L,hL⟩:=bT ((ig n.now M.eP (n.gr (1-b))).1);have X:∀j,((Net.dA {n with dI:=t} b M).iD b).x j=if j=b then M.emp else n.x j:=fun j=>by show(if j=b then(if b=b then M else n.x b).emp else if j=b then M else n.x j)=_;rw[bM rfl];split<;>rfl
 have eg:∀j,((Net.dA {n with dI:=t} b M).iD b).gr j=if j=1-b then L else n.gr j:=fun j=>by rw[hL];show(if j=1-b then(ig n.now (if b=b then M else n.x b).eP (n.gr (1-b))).1 else n.gr j)=_;rw[bM rfl]
 refine⟨fun j Z=>?_,fun j Z S=>(by rw[C]at S;cases S),fun j Z _=>?_,fun z G=>h.b z (by rw[O];simp[show z∈t from G])⟩
 ·rw[X,X,eg,C,C];show Jd V iF n.now false false _ _ _ (n.nx j) (uX t (1-j)) (uX t j);by_cases ej:j=b
  ·subst ej;rw[bM rfl,aV aj,aV aj];refine⟨⟨d.o.trans a.q.o,d.i.trans a.q.i,d.g.trans a.q.g,d.ls⟩,⟨e,e1,e2,by show e+_=M.next;rw[d.nx];exact e3,fun p F=>?_⟩,a.kd,by show(M.aK++_).length<=1;rw[d.qu];exact a.d1,by show∀f∈M.aK++_,_;rw[d.qu];exact a.d2,by show∀g∈n.gr j,g.aP=true\/∃f∈M.aK++_,_;rw[d.qu];exact a.gm,a.tb,by show∀f∈M.aK,_<=M.bF;rw[d.qu,d.mt];exact a.qz⟩;obtain⟨p1,p2,p3⟩:=d.wy p F;obtain⟨q1,q2,q3,m⟩:=W p p1;refine⟨q1,q2,rn p F,?_⟩;show Ak (uX t j) p.1\/(false=false/\p.1+1=M.next/\_)\/_;rw[d.nx];rcases m with m|m|m;·exact .inl (m.tail p3)
   ·exact .inr (.inl m)
   ·exact .inr (.inr m)
  ·have I:1-j=b:=aj;have J:j=1-b:=aj;rw[aV ej,bM I,bM J,I,J];refine⟨s.q,⟨c+1,d.cm,c3,by have:=c4;simp only[qmp]at this;omega,fun p F=>?_⟩,fun z G=>s.kd z (by simp[G]),by rw[w,qmq];omega,fun f Q=>?_,fun g v=>?_,⟨fun x A=>?_,?_⟩,s.qz⟩
   ·obtain⟨q1,q2,q3,m⟩:=c5 p F;refine⟨q1,q2,q3,?_⟩;have N:M.emp.bI=((n.x b).bI||fD y.2.2):=d.an;rcases m with m|⟨_,m,q5,q6⟩|m;·exact .inl m
    ·refine .inr (.inl ⟨rfl,m,q5,?_⟩);rcases q6 with⟨z,G,z1,z2⟩|⟨q6,q7⟩
     ·rcases qme.1 G with rfl|G;·exact .inr ⟨by rw[N,z2,Bool.or_true],aj⟩
      ·exact .inl ⟨z,G,z1,z2⟩
     ·exact .inr ⟨by rw[N,q6,Bool.true_or],aj⟩
    ·cases m.1
   ·rw[w,qmq]at Q;obtain⟨x1,x2,x3,x4⟩:=H f (qne _ Q);have k:uq y.2.2=[]:=qn9.1 (bR (fE Q));refine⟨x1,fun x A=>?_,?_,x4⟩
    ·rcases d.ta x A with A|⟨g,o,_⟩;·exact x2 x A
     ·rw[k]at o;cases o
    ·rcases d.gr with A|⟨g,o,_⟩;·exact qlz A x3
     ·rw[k]at o;cases o
   ·rw[w,qmq];rw[hL,h0]at v;have U:∀g∈n.gr (1-b),g.aP=true\/∃f∈uq y.2.2++MB (uX t b),f.id=g.id:=fun g o=>by
     have:=s.gm g o;rw[w,qmq,P]at this;exact this
    cases k:uq y.2.2 with
    |nil=>rw[k]at v;have:=U g v;rw[k,qmq]at this;exact this
    |cons f l=>
     have T:l=[]:=by rw[k]at q;exact qn9.1 (by simp at q;omega)
     have h4:MB (uX t b)=[]:=by rw[k]at q;exact qn9.1 (by simp at q;omega)
     rw[k,T]at v;have Y:g∈(jr n.now (f.id,f.data) (n.gr (1-b)) false).1:=by
      have e:(ig n.now [(f.id,f.data)] (n.gr (1-b))).1=(jr n.now (f.id,f.data) (n.gr (1-b)) false).1:=by show(if(jr n.now (f.id,f.data) (n.gr (1-b)) false).2=true then _ else _:List Gm×Bool).1=_;split<;>rfl
      rw[<-e];exact v
     rcases Ep _ _ _ _ g Y with h|⟨h1,h2⟩;·exact .inl h
     ·rcases U g h2 with h|⟨f2,R,e⟩;·exact .inl h
      ·rw[k,T,h4]at R;rw[qmi.1 R]at e;exact absurd e.symm h1
   ·rcases d.ta x A with A|⟨g,o,e⟩;·exact s.tb.1 x A
    ·rw[<-e];exact(H g (qnr _ o)).2.2.2
   ·rcases d.gr with A|⟨g,o,e⟩;·exact qlz A s.tb.2
    ·have:=(H g (qnr _ o)).2.2.2;show M.bW<=_;omega
 ·rw[X];split;·rename_i e;subst e;show M.aK=[];rw[d.qu];exact h3
  ·exact h.q j Z (C j)
def YZ:∀(l m:List (Nat×Nat×List Fr)) (c:Nat),Nm c l->Nm (c+l.length) m->Nm c (l++m)
 |[],_,_,_,h=>h
 |y::t,m,c,h,g=>⟨h.1,YZ t m (c+1) h.2 (by rw[qmp]at g;rwa[show c+1+t.length=c+(t.length+1) by omega])⟩
def qdk:∀(pk:List (Nat×Nat×List Fr)) (c:Nat),(∀j,j<pk.length->(pk.getD j (0,0,[])).2.1=c+j)->Nm c pk
 |[],_,_=>trivial
 |y::t,c,h=>⟨h 0 aM,qdk t (c+1) fun j a=>by have:=h (j+1) rR;simp only[qo3]at this;omega⟩
def QO(l m:List (Nat×Nat×List Fr))(i:Nat):uX (l++m) i=uX l i++uX m i:=qqf ..
def Y0(l:List (Nat×List Fr))(i:Nat):uX (l.map fun y=>(i,y)) i=l.map fun y=>(i,y):=by unfold uX;rw[qo4];intro y a;obtain⟨z,_,rfl⟩:=qmk.1 a;simp
def Uw(l:List (Nat×List Fr))(i j:Nat)(h:i≠j):uX (l.map fun y=>(i,y)) j=[]:=by unfold uX;rw[fB];intro y a;obtain⟨z,_,rfl⟩:=qmk.1 a;simpa using h
def I9(l m:List (Nat×Nat×List Fr)):MB (l++m)=MB l++MB m:=List.flatMap_append
def qie(h:snd f=true)(k:f.aD=7):(norm f).id=f.id/\(norm f).aH=f.aH:=by rw[norm_eq f h,aV aj,aV aj,aV aj,aV aj,aV aj,aV aj,bM k];exact⟨rfl,rfl⟩
def qdl(h:snd f=true)(k:f.aD=2):(norm f).ranges=f.ranges:=by rw[norm_eq f h,aV aj,bM k]
def Er:∀(l:List Fr),(∀f∈l,snd f=true)->fD (l.map norm)=fD l
 |[],_=>rfl
 |f::t,h=>by show(decide ((norm f).aD≠2)||fD (t.map norm))=(decide (f.aD≠2)||fD t);rw[Er t fun g a=>h g (by simp[a]),kL f (h f aM)]
def Y3(l:List Fr)(h:∀f∈l,snd f=true):uq (l.map norm)=(uq l).map norm:=by
 unfold uq;rw[qoe];congr 1
 refine List.filter_congr fun f a=>?_;show decide ((norm f).aD=7)=_;rw[kL f (h f a)]
def Mf(i:Nat):∀(pk:List (Nat×List Fr)),(∀x∈pk,∀f∈x.2,snd f=true)->MB ((zq pk).map fun y=>(i,y))=(uq (pk.flatMap fun x=>x.2)).map norm
 |[],_=>rfl
 |x::t,h=>by show uq (x.2.map norm)++MB ((zq t).map fun y=>(i,y))=_;rw[Mf i t fun y a=>h y (by simp[a]),Y3 _ (h x aM),qor,IV,qnb]
def Mg(u:Nat->Bool)(i:Nat):Nat->Bool:=fun j=>if j=i then false else u j
def Es{b:Bool}(h:f∈I8 b c):f.aD=2/\∃m,f.ranges=[(0,m)]:=by
 unfold I8 at h;cases b;·cases h
 ·cases c with
  |zero=>cases h
  |succ c=>
   have e:f=dS [(0,c)]:=by simpa[cmn]using h
   rw[e];exact⟨rfl,c,rfl⟩
def qcu(h:p<c):∃f∈I8 true c,f.aD=2/\names f.ranges p=true:=by
 cases c with
 |zero=>omega
 |succ c=>refine⟨dS [(0,c)],by simp[I8,cmn],rfl,?_⟩;show([(0,c)]:bZ).any _=true;simp;omega
def qg3{Y bF:Nat}(h:Jn V Y u n)(W:iC K n)(hp:gI bF n)(i:Nat)(N:i<2)(hu:u i=true){m:List (Nat×List Fr)}(r:(n.x i).kQ M m)(o:PkW (n.x i) M m):Jn V Y (Mg u i) (n.vT i M m):=by
 have B:=h.d i N;have d:=h.d (1-i) aj;rw[show 1-(1-i)=i by omega]at d;rw[hu]at B d;obtain⟨c,c1,c2,c4,c5⟩:=B.cm;obtain⟨e,e1,e2,e4,e5⟩:=d.cm;have I:=hp.loc i N;have Z:=Ei (fun g W=>(I.q g W).kd) r;have hm:=(hp.bd i N).mt.1;have h5:(n.x i).aK.length<=1:=by have:=B.d1;rw[qm0]at this;omega
 have h6:(n.x i).aK=[]\/∃f,(n.x i).aK=[f]/\QD f/\f.data.size+40<=(n.x i).bF:=by
  cases hq:(n.x i).aK with
  |nil=>exact .inl rfl
  |cons f t=>rw[hq,qmp]at h5;have:t=[]:=qn9.1 aj;subst this;exact .inr ⟨f,rfl,I.q f (by rw[hq];simp),B.qz f (by rw[hq];simp)⟩
 have w:=Uv B.q hm (h.w i N hu) (fun p v=>⟨by rw[W.tk i N];exact(c5 p v).2.1,(c5 p v).2.2.1⟩) e e1 h6 r;have F:∀x∈m,∀f∈x.2,snd f=true:=fun x A f a=>((o.ok x A).1.fs f a).sn;have Q:∀x∈m,∀f∈x.2,f∈I8 (n.x i).bI e\/f∈(n.x i).aK:=fun x A f a=>by have:f∈m.flatMap fun x=>x.2:=qqi.2 ⟨x,A,a⟩;rw[w.fr]at this;exact qm7.1 this
 obtain⟨new,b⟩:=bT ((zq m).map fun y=>(1-i,y));have Uj:(n.vT i M m).dI=n.dI++new:=by rw[b];rfl
 have h3:new.length=m.length:=by rw[b,qmc];unfold zq;rw[qmc]
 have t1:uX (n.vT i M m).dI (1-i)=uX n.dI (1-i)++new:=by rw[Uj,QO,b,Y0]
 have t0:uX (n.vT i M m).dI i=uX n.dI i:=by rw[Uj,QO,b,Uw _ _ _ aj,qmv]
 have T:∀y∈new,∃x∈m,y=(1-i,x.1,x.2.map norm):=fun y l=>by rw[b]at l;obtain⟨z,hz,rfl⟩:=qmk.1 l;obtain⟨x,A,rfl⟩:=qmk.1 hz;exact⟨x,A,rfl⟩
 have S:∀x∈m,(1-i,x.1,x.2.map norm)∈new:=fun x A=>by rw[b];exact qmk.2 ⟨(x.1,x.2.map norm),qmk.2 ⟨x,A,rfl⟩,rfl⟩
 have J:MB new=(n.x i).aK.map norm:=by
  rw[b,Mf _ m F,w.fr,IV];have z1:uq (I8 (n.x i).bI e)=[]:=by unfold uq;rw[fB];intro f a;rw[(Es a).1];decide
  have z2:uq (n.x i).aK=(n.x i).aK:=by unfold uq;rw[qo4];intro f a;rw[(I.q f a).kd];rfl
  rw[z1,z2,qmq]
 have P:∀f∈(n.x i).aK,(norm f).id=f.id/\(norm f).aH=f.aH:=fun f a=>qie (I.q f a).snd (I.q f a).kd;have G:∀p,(n.x i).bI=true->p<e->Ak (uX n.dI (1-i)++new) p:=fun p ha h4=>by
  obtain⟨f,a,k,nm⟩:=qcu h4;have:f∈m.flatMap fun x=>x.2:=by rw[w.fr,ha];exact qnr _ a
  obtain⟨x,A,R⟩:=qqi.1 this;have s:=F x A f R;exact⟨_,qne _ (S x A),norm f,qmk.2 ⟨f,R,rfl⟩,by rw[kL f s];exact k,by rw[qdl s k];exact nm⟩
 have ui:Mg u i i=false:=bM rfl;have uo:Mg u i (1-i)=u (1-i):=aV aj;have H:∀j,(n.vT i M m).x j=if j=i then M else n.x j:=fun j=>rfl;refine⟨fun j X=>?_,fun j X q=>?_,fun j X q=>?_,fun y l=>?_⟩
 ·rcases(show j=i\/j=1-i by omega)with ej|ej
  ·subst ej;rw[ui,uo,t1,t0,H,H,bM rfl,aV aj];show Jd V Y n.now false (u (1-j)) M (n.x (1-j)) (n.gr j) (n.nx j) _ _;refine⟨⟨w.o.trans B.q.o,w.i.trans B.q.i,w.g.trans B.q.g,w.ls.trans B.q.ls⟩,⟨c,c1,YZ _ _ _ c2 ?_,?_,fun p v=>?_⟩,fun y l f a=>?_,?_,fun f a=>?_,fun g h2=>?_,B.tb,by rw[w.q];intro f a;cases a⟩;·rw[c4];refine qdk new _ fun k hk=>?_;have O:k<m.length:=aj;have e0:=o.nm k O;rw[b];unfold zq;rw[qly,qn8,qn8,qm3 O];rw[qly,qm3 O]at e0;exact e0
   ·rw[qm0,h3,o.next];omega
   ·rcases w.wy p v with v|⟨p1,p2,_,y,l,y1,y2⟩
    ·obtain⟨q1,q2,q3,C⟩:=c5 p v;refine⟨q1,q2,by rw[w.nm];exact q3,?_⟩;rcases C with C|⟨C,_⟩|C;·exact .inl C
     ·cases C
     ·exact .inr (.inr C)
    ·have pt:p.2.aW=n.now:=by rw[p2];exact W.tk j N
     refine⟨by rw[p2],aj,?_,.inr (.inl ⟨rfl,p1,pt,.inl ⟨_,qne _ (S y l),y1,?_⟩⟩)⟩;·have:=(hp.bd j N).nm;have h7:0<m.length:=fE l;rw[w.nm];have:=o.next;omega
     ·show fD (y.2.map norm)=true;rw[Er _ (F y l)];exact y2
   ·rcases qm7.1 l with l|l;·exact B.kd y l f a
    ·obtain⟨x,A,rfl⟩:=T y l;obtain⟨g,D,rfl⟩:=qmk.1 a;rw[kL g (F x A g D)];rcases Q x A g D with h1|h1;·exact .inl (Es h1).1
     ·exact .inr (I.q g h1).kd
   ·rw[w.q,qmq,I9,J,qm0,qmc];have:=B.d1;rw[qm0]at this;omega
   ·rw[w.q,qmq,I9,J]at a;rcases qm7.1 a with a|a;·exact B.d2 f (qne _ a)
    ·obtain⟨g,L,rfl⟩:=qmk.1 a;rw[(P g L).1,(P g L).2];exact B.d2 g (qnr _ L)
   ·rw[w.q,qmq,I9,J];rcases B.gm g h2 with h1|⟨f,a,e⟩;·exact .inl h1
    ·rcases qm7.1 a with a|a;·exact .inr ⟨norm f,qne _ (qmk.2 ⟨f,a,rfl⟩),by rw[(P f a).1];exact e⟩
     ·exact .inr ⟨f,qnr _ a,e⟩
  ·have h0:1-j=i:=aj;rw[h0,ej,ui,uo,t1,t0,H,H,bM rfl,aV aj];show Jd V Y n.now (u (1-i)) false (n.x (1-i)) M (n.gr (1-i)) (n.nx (1-i)) _ _;refine⟨d.q,⟨e,w.cm.trans e1,e2,e4,fun p v=>?_⟩,d.kd,d.d1,by rw[Z.t,Z.g];exact d.d2,d.gm,by rw[Z.t,Z.g];exact d.tb,d.qz⟩;obtain⟨q1,q2,q3,C⟩:=e5 p v;refine⟨q1,q2,q3,?_⟩;rcases C with⟨z,hz,C⟩|⟨C,q5,q6,U⟩|⟨_,C,q5⟩;·exact .inl ⟨z,qnr _ hz,C⟩
   ·rcases U with U|⟨U,q8⟩;·exact .inr (.inl ⟨C,q5,q6,.inl U⟩)
    ·exact .inl (G _ U q8)
   ·exact .inl (G _ C q5)
 ·unfold Mg at q;split at q;·cases q
  ·rename_i E;rw[H,aV E];exact h.w j X q
 ·unfold Mg at q;split at q;·rename_i E;rw[H,bM E];exact w.q
  ·rename_i E;rw[H,aV E];exact h.q j X q
 ·rw[Uj]at l;rcases qm7.1 l with l|l;·exact h.b y l
  ·obtain⟨x,A,rfl⟩:=T y l;refine⟨by show 1-i<2;omega,fun f a k=>?_⟩;obtain⟨g,D,rfl⟩:=qmk.1 a;have s:=F x A g D;rw[kL g s]at k;rw[qdl s k];rcases Q x A g D with h1|h1;·exact(Es h1).2
   ·have:=(I.q g h1).kd;omega
def uOn:Nat->Bool:=fun _=>true
def QS:Nat->Bool:=fun _=>false
def qcv:∀(l:List (Nat×ru)) (k:Nat),l.Pairwise (fun x y=>x.1≠y.1)->(∀p∈l,p.1+1=k)->l.length<=1
 |[],_,_,_=>qm2 _
 |[_],_,_,_=>qj _
 |a::b::t,k,h,hk=>by have c:=(qpu.1 h).1 b aM;have:=hk a aM;have:=hk b aM;omega
def Jn.rest{u o:Nat}(h:Jn u z QS n)(x:gI o n)(v:n.dI=[])(i:Nat)(e:i<2):∃c,(n.x (1-i)).aP=cmn c/\c=(n.x i).next/\(n.x i).bf.length<=1/\(∀p∈(n.x i).bf,p.2.cZ=[]/\p.2.aW=n.now/\(n.x i).named<=p.1/\(n.x (1-i)).bI=true/\p.1<c)/\(n.x i).aK=[]/\∀g∈n.gr i,g.aP=true:=by
 have d:=h.d i e;have m:=h.q i e rfl;have t:∀j,uX n.dI j=[]:=fun j=>by rw[v];rfl
 rw[t,t]at d;obtain⟨c,q,_,r,s⟩:=d.cm;have key:∀p∈(n.x i).bf,p.1+1=(n.x i).next/\p.2.cZ=[]/\p.2.aW=n.now/\(n.x i).named<=p.1/\(n.x (1-i)).bI=true/\p.1<c:=fun p a=>by
  obtain⟨A,C,B,b⟩:=s p a;rcases b with⟨y,k,_⟩|⟨_,b,q5,q6⟩|⟨b,_⟩;·cases k
  ·rcases q6 with⟨y,k,_⟩|q6;·cases k
   ·exact⟨b,A,q5,B,q6⟩
  ·cases b
 refine⟨c,q,r,qcv _ _ (qpr.1 (x.bd i e).ky).2.1 fun p a=>(key p a).1,fun p a=>(key p a).2,m,fun g w=>?_⟩;rcases d.gm g w with h1|⟨f,l,_⟩;·exact h1
 ·rw[m]at l;cases l
def qcw{C E F:Nat}(h:Jn C E QS n)(D:gI F n)(m:n.dI=[])(d e:WA):Jn C E uOn (n.jk d e):=by
 have t:∀j,uX (n.jk d e).dI j=[]:=fun j=>by show uX n.dI j=[];rw[m];rfl
 refine⟨fun i a=>?_,fun i a _=>?_,fun _ _ h=>(by cases h),fun y s=>h.b y s⟩
 ·obtain⟨v,k⟩:=qN n d e i a;obtain⟨L,l⟩:=qN n d e (1-i) aj;obtain⟨c,u,w,x,z,A,B⟩:=h.rest D m i a;have b:=h.d i a;have r:((n.x i).UO v).aK=[]:=by show(n.x i).aK.filter _=[];rw[A];rfl
  rw[t,t,k,l];refine⟨⟨b.q.o,b.q.i,b.q.g,b.q.ls⟩,⟨c,u,trivial,w,fun p q=>?_⟩,(fun y s=>by cases s),by rw[r];exact qm2 _,(by rw[r];intro f o;cases o),fun g G=>.inl (B g G),b.tb,by rw[r];intro f o;cases o⟩;obtain⟨H,K,I,J⟩:=z p q;exact⟨H,by show n.now+1<=_;omega,I,.inr (.inr ⟨rfl,J⟩)⟩
 ·obtain⟨v,k⟩:=qN n d e i a;obtain⟨c,u,w,x,z,A,B⟩:=h.rest D m i a;rw[k];exact x
def jfldA(A:av):=(A.outs,A.ins,A.gr,A.b_,A.next,A.bf,A.named)
def jfldB(A:av):=(A.aP,A.bI,A.taken,A.bW)
def qif{I Z:Nat}{n':Net}(h:Jn z I QS n)(W:gI Z n)(V:n.dI=[])(i:Nat)(hi:i<2)(A B:Int)(S:ByteArray)(o:DgO n Z i A B S n'):Jn z I uOn n':=by
 have t:∀j,uX n.dI j=[]:=fun j=>by rw[V];rfl
 have base:∀(m N:av) (L:List Gm) (K:Nat) (j:Nat) (a:j<2),jfldA m=jfldA (n.x j)->jfldB N=jfldB (n.x (1-j))->m.aK.length<=1->(∀f∈m.aK,n.now<=f.aH/\n.nx j<=f.id/\f.id<K)->(∀g∈L,g.aP=true\/∃f∈m.aK,f.id=g.id)->n.nx j<=K->(∀f∈m.aK,f.data.size+40<=m.bF)->Jd z I n.now true true m N L K [] []:=by
  intro m N L K j a ea eb O P Q h0 R;simp only[jfldA,jfldB,qob]at ea eb;obtain⟨a1,a2,a3,a4,a6,a7,a8⟩:=ea;obtain⟨a5,a9,q,r⟩:=eb;obtain⟨c,c1,c2,s,c4,k,u⟩:=h.rest W V j a;have E:=h.d j a;have M:=E.tb;refine⟨⟨a1.trans E.q.o,a2.trans E.q.i,a3.trans E.q.g,a4.trans E.q.ls⟩,⟨c,a5.trans c1,trivial,c2.trans a6.symm,fun p G=>?_⟩,(fun y H=>by cases H),by rw[show MB []=[]from rfl,qmv];exact O,?_,?_,⟨by rw[q];intro x X;have:=M.1 x X;omega,by rw[r];have:=M.2;omega⟩,R⟩;·rw[a7]at G;obtain⟨q1,q2,q3,q4⟩:=c4 p G;exact⟨q1,aj,by rw[a8];exact q3,.inr (.inr ⟨rfl,by rw[a9];exact q4⟩)⟩
  ·rw[show MB []=[]from rfl,qmv,q,r];intro f b;obtain⟨x1,x2,x3⟩:=P f b;exact⟨x1,fun x X=>bR (M.1 x X),bR M.2,x3⟩
  ·rw[show MB []=[]from rfl,qmv];exact Q
 have l:=h.rest W V;rcases o with⟨hS,hq,v,U,rfl⟩|⟨_,v,rfl⟩
 ·obtain⟨C,F⟩:=bT (n.now+cu A 9);have D:∀j,(n.dgN i A B S v U).x j=if j=i then(n.x i).dg (AX (n.nx i) C S) v else n.x j:=fun j=>by rw[F];rfl
  have eg:∀j,(n.dgN i A B S v U).gr j=if j=i then n.gr i++[⟨n.nx i,C,S,false⟩]else n.gr j:=fun j=>by rw[F];rfl
  have en:∀j,(n.dgN i A B S v U).nx j=if j=i then n.nx i+1+cu B 3 else n.nx j:=fun j=>rfl;refine⟨fun j a=>?_,fun j a _=>?_,fun _ _ h=>(by cases h),fun y H=>h.b y H⟩
  ·show Jd z I n.now true true _ _ _ _ (uX n.dI (1-j)) (uX n.dI j);rw[t,t,D,D,eg,en];obtain⟨_,_,_,_,_,k,u⟩:=l j a;by_cases e:j=i
   ·subst e;rw[bM rfl,bM rfl,bM rfl,aV aj];have J:((n.x j).dg (AX (n.nx j) C S) v).aK=[AX (n.nx j) C S]:=by show(n.x j).aK++_=_;rw[k];rfl
    refine base _ _ _ _ j a rfl rfl (by rw[J];simp) ?_ ?_ aj ?_;·rw[J];intro f b;rw[qmi.1 b];exact⟨by show n.now<=C;omega,qj _,by show n.nx j<_;omega⟩
    ·rw[J];intro g d;rcases qm7.1 d with h1|h1;·exact .inl (u g h1)
     ·rw[qmi.1 h1];exact .inr ⟨_,qmi.2 rfl,rfl⟩
    ·rw[J];intro f b;rw[qmi.1 b];show S.size+40<=(n.x j).bF;rw[W.mt j a];exact hS
   ·rw[aV e,aV e,aV e,bM aj];have e2:1-j=i:=aj;exact base _ _ _ _ j a rfl (by rw[e2];rfl) (by rw[k];exact qm2 _) (by rw[k];intro f b;cases b) (fun g d=>.inl (u g d)) (qj _) (by rw[k];intro f b;cases b)
  ·rw[D];obtain⟨_,_,_,s,_⟩:=l j a;split;·rename_i e;subst e;exact s
   ·exact s
 ·have D:∀j,(n.dA i {n.x i with qv:=v}).x j=if j=i then{n.x i with qv:=v}else n.x j:=fun j=>rfl;have T:∀j,∃w,(n.dA i {n.x i with qv:=v}).x j={n.x j with qv:=w}:=fun j=>by
   rw[D];split;·rename_i e;subst e;exact⟨v,rfl⟩
   ·exact⟨_,rfl⟩
  refine⟨fun j a=>?_,fun j a _=>?_,fun _ _ h=>(by cases h),fun y H=>h.b y H⟩;·show Jd z I n.now true true _ _ (n.gr j) (n.nx j) (uX n.dI (1-j)) (uX n.dI j);obtain⟨_,_,_,_,_,k,u⟩:=l j a;obtain⟨w1,Y⟩:=T j;obtain⟨w2,k2⟩:=T (1-j);rw[t,t,Y,k2];exact base _ _ _ _ j a rfl rfl (by show(n.x j).aK.length<=1;rw[k];exact qm2 _) (by show∀f∈(n.x j).aK,_;rw[k];intro f b;cases b) (fun g d=>.inl (u g d)) (qj _) (by show∀f∈(n.x j).aK,_;rw[k];intro f b;cases b)
  ·obtain⟨w1,Y⟩:=T j;obtain⟨_,_,_,s,_⟩:=l j a;rw[Y];exact s
end Go.Proofs.YtphbledmopchnaaGreatDoor.Sd
namespace Go.Proofs.YtphbledmopchnaaGreatDoor.Sd
open Go.RowKit Go.Lib Mm Tryz
section
def Jn.congr{dW iF:Nat}{u d:Nat->Bool}{n:Net}(h:Jn dW iF u n)(e:∀i,i<2->d i=u i):Jn dW iF d n:=
 ⟨fun i b=>by rw[e i b,e (1-i) aj];exact h.d i b,fun i b c=>h.w i b (by rw[<-e i b];exact c),fun i b c=>h.q i b (by rw[<-e i b];exact c),h.b⟩
structure OnN (dW iF bF Kg B:Nat) (u:Nat->Bool) (bl:Nat) (n:Net):Prop where
 p:gI bF n
 g:iC Kg n
 b:qM n B
 j:Jn dW iF u n
 l:n.dI.length<=bl
def A_(oZ:Own)(w w1:Wq)(a:Ad)(dW iF mt Kg B:Nat)(u:Nat->Bool)(bl:Nat)(wr:Wq):Prop:=
 ∃n,OnN dW iF a.bF Kg B u bl n/\nk oZ w1 a n wr/\a.bF=mt/\Kp TN (fun _=>0) oZ w w1
section
variable {oZ:Own} {w w1 wr:Wq} {a:Ad} {dW iF mt Kg B bl:Nat} {u:Nat->Bool}
def A_.below(h:A_ oZ w w1 a dW iF mt Kg B u bl wr):bE w wr:=by obtain⟨n,_,⟨o,d,c,b⟩,_,K⟩:=h;exact En (K.trans b)
def A_.less(h:A_ oZ w w1 a dW iF mt Kg B u bl wr){b c:Nat}(d:Kg<=b)(f:c<=B):A_ oZ w w1 a dW iF mt b c u bl wr:=by obtain⟨n,q,r⟩:=h;exact⟨n,⟨q.p,q.g.mono d,⟨fun i e=>bR (q.b.1 i e),bR q.b.2⟩,q.j,q.l⟩,r⟩
def qcx(h:A_ oZ w w1 a dW iF mt Kg (B+1) QS 0 wr)(L:Kg<100000)(z:mt<=400)(K Sd A b:Int)(S:ByteArray)(y:K=4\/K=5)(l:kG Sd)(p:kG A)(s:kG b)(M:S.size<=8192):qH 22 #[aJ a.N 0,.agg #[iZ K,iZ Sd,iZ A,iZ b,.string S]] wr (.bool true) fun f=>Hid (A_ oZ w w1 a dW iF mt (Kg+1) B uOn 0 f):=by
 obtain⟨n,q,⟨o,N,j,k⟩,m,g⟩:=h;have e:n.dI=[]:=qn9.1 (Nat.le_zero.1 q.l);rcases y with rfl|rfl;·have c:cu Sd 2<2:=dL Sd 2 aj;refine bH (AY j A b l p s (q.g.dga q.p aj _ c) S aj) ?_;rintro f ⟨t,d,r⟩;obtain⟨C,D,E,F⟩:=Yz q.p q.g aj _ c A b S q.b.less d;exact⟨rfl,t,⟨C,D,E,qif q.j q.p e _ c A b S d,by rw[F];exact q.l⟩,r.then k,m,g⟩
 ·refine bH (IW j q.p aj q.g ⟨fun i c=>bR (q.b.1 i c),bR q.b.2⟩ aj (bR q.l) Sd A b l p s S) ?_;rintro f ⟨t,v,x,G,H,I,J⟩;obtain rfl:=I e;exact⟨rfl,_,⟨G.p,H,zk q.b v x,qcw q.j q.p e v x,q.l⟩,J.then k,m,g⟩
def Mh(h:A_ oZ w w1 a dW iF mt Kg (B+1) u bl wr)(y:mt<=400)(t:bl<=1000)(i:Nat)(b:i<2)(z:u i=true):qH 23 #[aJ a.N 0,iZ i] wr (.bool true) fun j=>Hid (A_ oZ w w1 a dW iF mt Kg B (Mg u i) (bl+24) j):=by obtain⟨n,q,⟨o,D,p,s⟩,m,l⟩:=h;refine(Ee p q.p q.b.to i b aj (bR q.l) (fun M d r x A f v k=>((q.g.dg i b).q f (q.p.late i b r x A f v k)).2)).mono ?_;rintro e j ⟨rfl,M,d,g,c,C⟩;refine⟨rfl,n.vT i M d,⟨OJ q.p i b c,q.g.vT q.p i b g c.w,OL q.b i c (yY g),qg3 q.j q.g q.p i b z g c.w,?_⟩,C.then s,m,l⟩;show(n.dI++(zq d).map _).length<=_;rw[qm0,qmc];unfold zq;rw[qmc];have:=c.next;have:=c.top;have:=q.l;omega
def I_(a:Ad)(w:Wq):Nat:=match w.cell? (ay a.N 8)with
 |some (.slice _ n _)=>n
 |_=>0
def A_.dI(h:A_ oZ w w1 a dW iF mt Kg B u bl wr):∃c b d,wr.cell? (ay a.N 8)=some (.slice c b d)/\Hid (I_ a wr=b)/\b<=bl/\Hid (A_ oZ w w1 a dW iF mt Kg B u b wr):=by obtain⟨n,q,⟨o,j,e,i⟩,m,g⟩:=h;obtain⟨_,_,_,_,_,f,_⟩:=e.cells;obtain⟨c,d,rfl⟩:=gX e.bg;exact⟨c,_,d,f,by show I_ a wr=_;unfold I_;rw[f],q.l,n,⟨q.p,q.g,q.b,q.j,qj _⟩,⟨o,_,e,i⟩,m,g⟩
def qcy(h:A_ oZ w w1 a dW iF mt Kg B QS bl wr)(K:mt<=400)(T:Kg<=100000)(J:bl<=1000)(b:0<I_ a wr):qH 22 #[aJ a.N 0,.agg #[iZ 7,iZ 0,iZ 0,iZ 0,.string ⟨#[]⟩]] wr (.bool true) fun f=>Hid (A_ oZ w w1 a dW iF mt Kg B QS bl f/\I_ a f<I_ a wr):=by
 obtain⟨n,q,⟨o,z,l,I⟩,m,C⟩:=h;have e:kG 0:=by unfold kG;omega
 have d:∀{o:Own} {v:Wq} {n:Net} {z:WA},dQ o v a n z (ends n)->I_ a v=n.dI.length:=fun h=>by obtain⟨_,_,_,_,_,D,_⟩:=h.cells;obtain⟨R,S,rfl⟩:=gX h.bg;unfold I_;rw[D]
 rw[d l]at b ⊢;cases c:n.dI with
 |nil=>rw[c]at b;exact absurd b (qoh _)
 |cons y t=>
  refine bH (LP l q.p aj q.g q.b.to aj (bR q.l) 7 0 0 0 gP gP gP gP gP gP gP e e e ⟨#[]⟩) ?_;rintro f ⟨s,x,N,O,M,A,j,H⟩;obtain⟨k,P,L,Q,E,g,F,r,i⟩:=O rfl (by rw[c];simp);have ek:k=0:=by rw[E];unfold cu;simp
  subst ek;rw[c]at g;have G:P=y:=g;subst G;have en:L={n with dI:=t}:=by rw[F,bM gP,c];rfl
  subst en;have p:s.dI=t:=by rw[i];rfl
  refine⟨rfl,⟨s,⟨x.p,N,x.nb q.b,by rw[i];exact qct (fun _=>rfl) q.j q.g c r,?_⟩,⟨M,A,j,I.trans H⟩,m,C⟩,?_⟩;·have:=q.l;rw[c]at this;rw[p];simp at this;omega
  ·rw[d j,p];simp
def A_.all(h:A_ oZ w w1 a dW iF mt Kg B QS 0 wr)(G:Kg<=100000)(i:Nat)(e:i<2):∃d j f,wr.cell? (ay a.N 2)=some (dh a.gb 2 a.gc)/\wr.cell? (ay a.gb i)=some (.slice d j f)/\j<=1000000/\Hid (∀k,k<j->∃g p,d=some (ay g 0)/\wr.cell? (ay g k)=some (aJ p 0)/\wr.cell? (ay p 3)=some (.bool true)):=by
 obtain⟨n,q,⟨o,H,l,F⟩,m,D⟩:=h;have A:n.dI=[]:=qn9.1 (Nat.le_zero.1 q.l);obtain⟨_,_,z,_⟩:=l.cells;obtain⟨_,v,_⟩:=l.gnb i e;obtain⟨t,r,C,_,c⟩:=l.gt i e;obtain⟨_,_,_,_,_,_,b⟩:=q.j.rest q.p A i e;obtain⟨d,f,s⟩:=gX r;rw[s]at v r;refine⟨d,_,f,z,v,bR ((q.g.ln i e).1),fun k x=>?_⟩;have y:(t.map fun p=>Value.pointer (some (ay p 0)))[k]?=some (aJ (t.getD k 0) 0):=by rw[qn8,qly,qm3 aj];rfl
 rcases r with⟨_,E,_⟩|⟨g,cap,cs,hv,hog,hBg,hc1,hc2,hc3,hc4,BN,hc6⟩;·omega
 simp only[qn4]at hv;refine⟨g,t.getD k 0,hv.1,?_,?_⟩;·rw[hBg.cell];rw[<-BN,qm6,bM aj]at y;exact y
 ·rw[(c k x).1.cell];have:((n.gr i).getD k vN).aP=true:=b _ (by rw[qly,qm3 x];exact qmz _);show some (Value.bool ((n.gr i).getD k vN).aP)=_;rw[this]
end

def Ux(oa:Option Addr)(d:List Us)(oc:Nat)(C E D:Int)(hm:kG C)(hw:kG E)(ht:kG D)(w:Wq)(hO:StW w oa d)(hl:d.length<=140737488351232)(hE:g_ w)(hT:kU w)(R:2<=w.heap.size):qH 11 #[.slice oa d.length oc,iZ C,iZ E,iZ D] w (.bool true) fun c=>bE w c:=by
 have H:Hid (WB prog 14 #[.slice oa d.length oc] w fun e c=>∃b:Bool,e=.returned (.bool b)/\Hid ((b=true->d.length<=8192/\∀j,j<d.length->(d.getD j ET).S.size<=8192)/\c=w)):=by refine(YR d oc hO hl).mono ?_;rintro e c ⟨b,Q,R,X⟩;exact⟨b,Q,R,X⟩
 have HW:Hid (∀w1,w1=w->qH 15 #[] w1 (.bool true) fun c=>Hid (bE w c)):=fun w1 e=>by subst e;exact YQ w1 hE hT R
 have HP:Hid (∀w2,bE w w2->(d.length<=8192/\∀j,j<d.length->(d.getD j ET).S.size<=8192)->WB prog 16 #[.slice oa d.length oc,nZ,iZ C,iZ E,iZ D] w2 fun e c=>(∃p,e=.returned (.tuple #[p,.bool true]))/\Hid (bE w c)):=fun w2 l o=>by refine(YS d oc C E D hm hw ht (hO.below l) o.1 o.2 (cell_of hE (l.block 0 aj)) (fun k t=>cell_of (hT k t) (l.block 1 aj)) (qlz R l.size)).mono ?_;rintro e c ⟨p,q⟩;exact⟨p,l.trans (q.mono l.size)⟩
 have l1:=dL C 337 aj;have l2:=dL E 300 aj;have l3:=dL D 600 aj;obtain⟨mt,L⟩:=bT (64+cu C 337);have Ut:mt<=400:=aj;obtain⟨dW,G⟩:=bT (16+cu E 300);obtain⟨iF,F⟩:=bT (16+cu D 600);have HB:Hid (∀f,bE w f->WB prog 21 #[iZ C,iZ E,iZ D] f fun e c=>∃N,e=.returned (aJ N 0)/\Hid (∃a oZ,a.N=N/\A_ oZ f c a dW iF mt 0 (3*8192) QS 0 c)):=fun f l=>by refine(Em C E D hm hw ht f (cell_of hE (l.block 0 aj)) (fun k t=>cell_of (hT k t) (l.block 1 aj)) (qlz R l.size)).mono ?_;rintro e c ⟨p,rfl,a,oZ,vb,rfl,e1,g1,g2⟩;rw[<-L,<-G,<-F]at g1;rw[<-L]at e1;exact⟨a.N,rfl,a,oZ,rfl,_,⟨by rw[e1];exact D6 mt dW iF aj aj aj,Ej _ _ _,OY _ _ _ _ aj,qg2 mt dW iF QS,qm2 _⟩,⟨oZ,vb,g1,Kp.refl _ _ _⟩,e1,g2⟩
 have HO:=aF hO;obtain⟨m,J⟩:=bT d.length;have HM:=aF J;rw[<-J]at H HP ⊢;clear hO hl hE hT R J L G F l1 l2 l3;go_enter func11,ntmps11;go_wp2_with (first|(go_at_call 14;refine H.out.mono ?_;rintro e w1 ⟨b,rfl,Q⟩;clear H)|(go_at_call 15;refine bH (HW.out _ Q.out.2) ?_;rintro w2 l)|(go_at_call 16;refine(HP.out w2 l.out (Q.out.1 asZ)).mono ?_;rintro e f ⟨⟨p,rfl⟩,X⟩)|(go_at_call 21;refine(HB.out f X.out).mono ?_;rintro e z ⟨N,rfl,h4⟩))
 ·obtain⟨a,oZ,rfl,hP⟩:=h4.out;have U:=aF hP;have Je:=X;have HL:Hid (m<=8192/\∀j,j<m->(d.getD j ET).S.size<=8192):=Q.out.1 asZ;have x4:m<=8192:=HL.out.1;clear hP Q X h4 HB HW l
  (try clear HP)
  go_loopw [9,12] (fun s9 M wr=>s9=.bool true/\∃i:Nat,i<=m/\M=(iZ i)/\Hid (A_ oZ f z a dW iF mt i (3*(8192-i)) QS 0 wr)) (fun _ M _=>m-(eB M).toNat);case atStart=>exact⟨rfl,0,qm2 _,rfl,U⟩
  case round=>
   obtain⟨rfl,i,hi,rfl,v⟩:=hrel;clear U;by_cases hn:i<m
   ·have hu:(i:Int)<(m:Int):=aj;have h8:Hid (bE w wr):=Je.out.trans (v.out.below.mono Je.out.size);obtain⟨b0,x5,e',o⟩:=(HO.out.below h8.out) i (bR HM.out);subst e';obtain⟨s,es⟩:=bT (d.getD i ET);have ha:Hid (s.S.size<=8192):=by rw[es];exact HL.out.2 i hn
    rw[<-es]at o;clear es;obtain⟨K,Sd,A,B,S⟩:=s;have e3:3*(8192-i)=3*(8192-(i+1))+1+1+1:=aj;have I:Hid (K=4\/K=5->qH 22 #[aJ a.N 0,.agg #[iZ K,iZ Sd,iZ A,iZ B,.string S]] wr (.bool true) fun c=>Hid (A_ oZ f z a dW iF mt (i+1) (3*(8192-(i+1))+1+1) uOn 0 c)):=fun t=>by have:=v.out;rw[e3]at this;exact qcx this aj Ut K Sd A B S t o.i1 o.i2 o.i3 ha.out
    have V:Hid (A_ oZ f z a dW iF mt (i+1) (3*(8192-(i+1))) QS 0 wr):=v.out.less aj aj;have Y:=o.c0;have Z:=o.c1;have h5:=o.c2;have h6:=o.c3;have h7:=o.c4;simp only at Y Z h5 h6 h7;clear o v e3;by_cases t:K=4\/K=5
    ·have vV:=aF (I.out t);have T:Hid (∀y,A_ oZ f z a dW iF mt (i+1) (3*(8192-(i+1))+1+1) uOn 0 y->qH 23 #[aJ a.N 0,iZ 0] y (.bool true) fun c=>Hid (A_ oZ f z a dW iF mt (i+1) (3*(8192-(i+1))+1) (Mg uOn 0) 24 c)):=fun y hy=>Mh hy Ut aj 0 aj rfl;have Jg:Hid (∀y,A_ oZ f z a dW iF mt (i+1) (3*(8192-(i+1))+1) (Mg uOn 0) 24 y->qH 23 #[aJ a.N 0,iZ 1] y (.bool true) fun c=>Hid (A_ oZ f z a dW iF mt (i+1) (3*(8192-(i+1))) QS 48 c)):=fun y hy=>by
      refine bH (Mh hy Ut aj 1 aj rfl) ?_;rintro c ⟨n,q,r⟩;refine⟨rfl,n,⟨q.p,q.g,q.b,q.j.congr fun k t=>?_,q.l⟩,r⟩;rcases(show k=0\/k=1 by omega)with rfl|rfl<;>rfl
     clear I V;rcases t with rfl|rfl;all_goals(
      go_wp2_with (first|(go_at_call 22;refine bH vV.out ?_;rintro y1 g1;clear vV)|(go_at_call 23;refine bH (T.out _ g1.out) ?_;rintro y2 g2;clear T)|(go_at_call 23;refine bH (Jg.out _ g2.out) ?_;rintro y3 g3;clear Jg));clear Y Z h5 h6 h7;go_loopw [9] (fun s9 x=>s9=.bool true/\Hid (A_ oZ f z a dW iF mt (i+1) (3*(8192-(i+1))) QS 48 x)) (fun _ x=>I_ a x);case atStart=>exact⟨rfl,g3⟩
      case round=>
       obtain⟨rfl,v⟩:=hrel;obtain⟨a0,n0,c0,c8,ho,x6,HZ⟩:=v.out.dI;by_cases h0:n0=0
       ·subst h0;go_wp2;go_roundw;case rel=>exact⟨rfl,i+1,aj,aM,HZ⟩
        case measure=>simp[eB];omega
       ·have hv:(0:Int)<(n0:Int):=aj;have HC:=aF (qcy v.out Ut aj aj (bR ho.out));clear v HZ;go_wp2_with (go_at_call 22;refine bH HC.out ?_;rintro y4 g4);go_roundw;case rel=>exact⟨rfl,g4.out.1⟩
        case measure=>exact g4.out.2)
    ·have hf:¬K=4:=fun e=>t (.inl e);have hg:¬K=5:=fun e=>t (.inr e);have hx:(K != 4)=true:=by simp[hf]
     have x0:(K != 5)=true:=by simp[hg]
     clear I;go_wp2;go_roundw;case rel=>exact⟨rfl,i+1,aj,aM,V⟩
     case measure=>simp[eB];omega
   ·obtain rfl:i=m:=aj;have HE:Hid (A_ oZ f z a dW iF mt i (3*(8192-i)) QS 0 wr):=v;have h9:Hid (bE w wr):=Je.out.trans (v.out.below.mono Je.out.size);clear v;go_wp2;go_loopw [15] (fun O x=>∃j:Nat,j<=2/\O=(iZ j)/\x=wr) (fun O _=>2-(eB O).toNat);case atStart=>exact⟨0,aj,rfl,rfl⟩
    case round=>
     obtain⟨j,hj,rfl,e2⟩:=hrel;subst e2;by_cases hc:j<2
     ·have x2:(j:Int)<2:=aj;obtain⟨ga,W,gc,c2,c3,x1,HA⟩:=HE.out.all aj j hc;go_wp2;go_loopw [16] (fun P hr=>∃k:Nat,k<=W/\P=(iZ k)/\hr=wr) (fun P _=>W-(eB P).toNat);case atStart=>exact⟨0,qm2 _,rfl,rfl⟩
      case round=>
       obtain⟨k,t,rfl,e3⟩:=hrel;subst e3;by_cases he:k<W
       ·have x3:(k:Int)<(W:Int):=aj;obtain⟨g,p3,rfl,q1,q2⟩:=HA.out k he;go_wp2;go_roundw;case rel=>exact⟨k+1,aj,aM⟩
        case measure=>simp[eB];omega
       ·obtain rfl:k=W:=aj;go_wp2;go_roundw;case rel=>exact⟨j+1,aj,aM⟩
        case measure=>simp[eB];omega
     ·obtain rfl:j=2:=aj;go_wp2;go_ret;exact⟨rfl,h9.out⟩
 ·go_ret;exact⟨rfl,l.out⟩
