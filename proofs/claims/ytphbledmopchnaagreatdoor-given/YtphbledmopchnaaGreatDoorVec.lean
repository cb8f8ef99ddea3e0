import Derived.Test.YtphbledmopchnaaGreatDoorVeb
open Go.Act renaming put->eT
set_option maxHeartbeats 4000000
set_option maxRecDepth 100000
open Go renaming World->Wq,Value->Wx
set_option linter.all false
namespace Go.Proofs.YtphbledmopchnaaGreatDoor.Sd
open Go.RowKit Go.Lib Mm Tryz
variable {B K b:Nat}{c:Wq}{oZ:Own}
section
section
variable {oZ aX:Own} {w w':Wq} {a:Ad} {n:Net} {vb:Wx} {E:Nat->Nat->bM}
def PL(h:dW oZ w a n vb E)(i)(c:i<2)(id b data)(s:(n.x i).mY=0)(d:id<4611686018427387903)(e:b<=4611686018427387903)(g:(n.x i).least<=id)(p:64<=(n.x i).aZ/\(n.x i).aZ<=400)(j:data.size+40<=(n.x i).aZ)(k:(n.x i).aQ.length<16)(r:∀f∈(n.x i).aQ,(n.x i).aV<=f.aJ)(o:(n.x i).aV<=b):bN 64 #[(aK (a.C i) 0),uZ id,uZ b,.string data] w (iZ 0) fun w'=>Hid (∃v,Vb oZ w a vb E (T0 (60*(i+1))) (n.dM i ((n.x i).dg (Ee id b data) v)) w'):=by obtain⟨l,t,m⟩:=h.sd i c;refine bK (PI (a.C i) (a.S i) id b data m (h.cn i c).1 s d e g p j k r o h.er (h.no0 i)) ?_;rintro w' ⟨v,q⟩;exact⟨rfl,v,h.sdq i c _ q⟩
def PN(h:dW oZ w a n vb E)(i)(j:i<2)(id d:Nat)(data)(C:(n.x i).mY=0)(p:id<4611686018427387903)(r:d<=4611686018427387903)(s:(n.x i).least<=id)(y:64<=(n.x i).aZ/\(n.x i).aZ<=400)(D:data.size<=1000000)(u:(n.x i).aQ.length<=16)(A:∀f∈(n.x i).aQ,(n.x i).aV<=f.aJ)(en:Nat)(g:en=6/\(n.x i).aZ<data.size+40\/en=3/\data.size+40<=(n.x i).aZ/\16<=(n.x i).aQ.length):bN 64 #[(aK (a.C i) 0),uZ id,uZ d,.string data] w (iZ en) fun w'=>Hid (∃v,Vb oZ w a vb E (T0 (60*(i+1))) (n.dM i {n.x i with qv:=v}) w'):=by
 obtain⟨l,I,b⟩:=h.sd i j;refine(qd9 (a.C i) (a.S i) id d data b (h.cn i j).1 C y u A en ?_ D ?_ h.er (h.no0 i)).mono ?_
 .rcases g with⟨rfl,_⟩|⟨rfl,_⟩;.exact qd8
  .exact rR 3 (.inr (.inl rfl))
 .intro W m c x t z;have o:W.cell? (aA (a.S i) 234)=some (uZ ((n.x i).least:Int)):=by rw[t 234 (.inr rfl),b.cK.cell];exact b.cells.sW
  have k:W.cell? (aA (a.S i) 233)=some (n.x i).qv:=by rw[t 233 (.inl rfl),b.cK.cell];exact b.cells.jP
  rcases g with⟨rfl,H⟩|⟨rfl,hb1,hb2⟩;.exact Yk (a.S i) id d _ m c (some x) _ W o p r s aj
  .obtain⟨F,G,B⟩:=iX b.qu.q;rw[B]at k;exact TH (a.S i) id d _ m c _ G (some x) F _ W k o p r s aj hb2
 .rintro e w' ⟨rfl,v,q⟩;exact⟨rfl,v,h.sdq i j _ q⟩
end


structure DgR (N gb gc nb nc bx i nx dl pb:Nat) (B:Int) (S:ByteArray) (sM:Wq->Prop) (w2:Wq):Prop where
 c2:w2.cell? (aA N 2)=some (dB gb 2 gc)
 c3:w2.cell? (aA N 3)=some (dB nb 2 nc)
 n0:w2.cell? (aA nb i)=some (uZ nx)
 b3:w2.cell? (aA bx 3)=some (iZ B)
 b4:w2.cell? (aA bx 4)=some (.string S)
 ap:∃ga gn gp a2 n2 c2 w6,w2.cell? (aA gb i)=some (.slice ga gn gp)/\
  (∀ty,(Builtin.append_ #[49,49] ty #[.slice ga gn gp,(dB (w2.heap.size+1) 1 1)]).run prog (((w2.alloc (.cells #[uZ nx,uZ dl,.string S,.bool false] 51)).alloc (.cells #[aK w2.heap.size 0] 52)).drew)=.ok (.slice a2 n2 c2) w6)/\
  w6.cell? (aA gb i)=some (.slice ga gn gp)/\w6.frozen? (aA gb i)=false/\w6.cell? (aA N 2)=some (dB gb 2 gc)/\w6.cell? (aA N 3)=some (dB nb 2 nc)/\w6.cell? (aA nb i)=some (uZ nx)/\w6.frozen? (aA nb i)=false/\w6.cell? (aA bx 3)=some (iZ B)/\w6.cell? (aA bx 4)=some (.string S)/\
  gb≠N/\gb≠nb/\gb≠bx/\nb≠N/\nb≠bx/\∀q,sM (((w6.setCell (aA gb i) (.slice a2 n2 c2)).setCell (aA nb i) (uZ ((nx:Int)+1+(pb:Int)))).drewN q)
theorem TI(N xb xc gb gc nb nc C i)(hi:i<2)(Sd A B)(hA:mW A)(hB:mW B)(now nx s k p:Nat)(p5:dw A 9=k)(p0:dw B 3=p)(h9:k<9)(ha:p<3)(S)(h1:S.size+40<=s)(h2:s<=400)(h3:now<4611686018427387000)(h4:nx<4611686018427387000)(w f sM)(G:f=w.alloc (.cells (oC 4 Sd A B S).toArray 37))(c0:f.cell? (aA N 0)=some (dB xb 2 xc))(c3:f.cell? (aA N 3)=some (dB nb 2 nc))(c4:f.cell? (aA N 4)=some (uZ now))(c5:f.cell? (aA N 5)=some (iZ s))(x0:f.cell? (aA xb i)=some (aK C 0))(n0:f.cell? (aA nb i)=some (uZ nx))(HC:∀y,bJ f y->bN 64 #[aK C 0,uZ nx,(uZ ((now:Int)+(k:Int))),.string S] y (iZ 0) fun e=>(e.cell? (aA N 0)=some (dB xb 2 xc)/\e.cell? (aA xb i)=some (aK C 0)/\e.cell? (aA N 3)=some (dB nb 2 nc)/\e.cell? (aA nb i)=some (uZ nx)/\e.cell? (aA w.heap.size 4)=some (.string S))/\Hid (DgR N gb gc nb nc w.heap.size i nx (now+k) p B S sM e)):bN 37 #[aK N 0,iZ i,.agg #[iZ 4,iZ Sd,iZ A,iZ B,.string S]] w (.bool true) fun w'=>sM w':=by
 have M:aS f w.heap.size 37 (oC 4 Sd A B S):=by grind [aS.new]
 have b2:=M.cell 2;have b3:=M.cell 3;have b4:=M.cell 4;simp only[oC,jh,gN]at b2 b3 b4;have zw:=aG fun q=>HC (f.drewN q) (dG f q);have xV:w.alloc (.cells #[iZ 4,iZ Sd,iZ A,iZ B,.string S] 37)=f:=G.symm;have g1:IntKind.i64.wrap ((s:Int)-40)=(s:Int)-40:=by rw[qB];omega
 have g2:¬((s:Int)-40<(S.size:Int)):=aj;have v5:IntKind.u64.wrap (k:Int)=(k:Int):=by rw[vC];omega
 have v6:IntKind.u64.wrap ((now:Int)+(k:Int))=(now:Int)+(k:Int):=by rw[vC];omega
 have v1:IntKind.u64.wrap ((nx:Int)+1)=(nx:Int)+1:=by rw[vC];omega
 have v0:IntKind.u64.wrap (p:Int)=(p:Int):=by rw[vC];omega
 have v2:IntKind.u64.wrap ((nx:Int)+1+(p:Int))=(nx:Int)+1+(p:Int):=by rw[vC];omega
 have h8:(i:Int)<2:=aj;have h7:(0:Int)<=(i:Int):=aj;clear HC G M;go_enter func37,ntmps37;go_wp2;clear xV;go_quiet (fail);go_wp2;go_region_held3 (fun y=>y.cell? (aA N 4)=some (uZ now)/\y.cell? (aA w.heap.size 2)=some (iZ A)) (first|assumption|go_keep) ((first|(go_at_call 32;refine(jm _ _ Nc kX _).mono ?_;rintro Z w4 ⟨rfl,g⟩;subst g)))
 go_wp2;go_region_held3 (fun y=>y.cell? (aA N 0)=some (dB xb 2 xc)/\y.cell? (aA xb i)=some (aK C 0)/\y.cell? (aA N 3)=some (dB nb 2 nc)/\y.cell? (aA nb i)=some (uZ nx)/\y.cell? (aA w.heap.size 4)=some (.string S)) (first|assumption|go_keep) ((first|(go_at_call 64;refine(zw.out _).mono ?_;rintro Z e ⟨rfl,h0,HR⟩)))
 clear zw c0 c3 c4 c5 x0 n0 b2 b3 b4 h0;obtain⟨I,U,J,h6,l,ga,gn,gp,P,T,Q,L,R,run,k1,k2,k3,k4,k5,k6,k7,k8,m,D,H,h5,F,hP⟩:=HR.out;have HP:=aG hP;clear hP HR;have lN:=iq e (aA N 2) (by rw[I]);have lb:=iq e (aA nb i) (by rw[J]);have lx:=iq e (aA w.heap.size 3) (by rw[h6]);have lg:=iq e (aA gb i) (by rw[R]);simp only at lN lb lx lg;have r:∀b j v,b<e.heap.size->e.cell? (aA b j)=some v->(e.alloc (.cells #[uZ nx,(uZ ((now:Int)+(k:Int))),.string S,.bool false] 51)).cell? (aA b j)=some v:=fun b j v z h=>(tJ _ _ _ z).trans h;have t:∀b j v,b<e.heap.size->e.cell? (aA b j)=some v->((e.alloc (.cells #[uZ nx,(uZ ((now:Int)+(k:Int))),.string S,.bool false] 51)).alloc (.cells #[aK e.heap.size 0] 52)).cell? (aA b j)=some v:=fun b j v z h=>(tJ _ _ _ dZ).trans (r b j v z h);have f7:∀b j v,gb≠b->L.cell? (aA b j)=some v->(L.setCell (aA gb i) (.slice P T Q)).cell? (aA b j)=some v:=fun b j v z h=>by grind [World.cell?_setCell_far]
 have sA:=dz (r N 2 _ lN I) (dz (r N 3 _ lN U) (dz (r nb i _ lb J) (r w.heap.size 4 _ lx l)));have sB:=dz (t N 2 _ lN I) (dz (t N 3 _ lN U) (dz (t nb i _ lb J) (t w.heap.size 4 _ lx l)));have s6:=dz k3 (dz k4 (dz k5 k8));have V:=dz (f7 N 2 _ m k3) (dz (f7 N 3 _ m k4) (dz (f7 nb i _ D k5) (f7 w.heap.size 4 _ H k8)));have gA:=r gb i _ lg R;have gB:=t gb i _ lg R;have O:=aG sA;have W:=aG (dz I (dz U (dz J l)));have x:=aG sB;have S6:=aG s6;have X:=aG V;have Y:=f7 w.heap.size 3 _ H k7;have u:=aG (dz V.2.1 Y);have f9:∀b j v,nb≠b->(L.setCell (aA gb i) (.slice P T Q)).cell? (aA b j)=some v->((L.setCell (aA gb i) (.slice P T Q)).setCell (aA nb i) (uZ ((nx:Int)+1+(p:Int)))).cell? (aA b j)=some v:=fun b j v z h=>by grind [World.cell?_setCell_far]
 have S9:=aG (dz (f9 N 3 _ h5 V.2.1) (f9 w.heap.size 3 _ F Y));have zf:(L.setCell (aA gb i) (.slice P T Q)).frozen? (aA nb i)=false:=by grind [World.frozen?_setCell]
 clear r t f7 f9 sA sB s6 V Y;go_wp2;refine wp_region_held_drew (S:=fun y=>y.cell? (aA N 2)=some (dB gb 2 gc)/\y.cell? (aA N 3)=some (dB nb 2 nc)/\y.cell? (aA nb i)=some (uZ nx)/\y.cell? (aA w.heap.size 4)=some (.string S)) bZ W.out (fun c=>?_);refine lK 0 rfl ?_;refine lK 1 rfl ?_;refine lK 2 rfl ?_;refine lK 3 rfl ?_;refine lK 4 rfl ?_;refine lK 5 rfl ?_;refine lK 6 rfl ?_;refine lK 7 rfl ?_;refine lK 8 rfl ?_;refine lK 9 rfl ?_;refine lK 10 rfl ?_;refine lK 12 rfl ?_;refine lK 13 rfl ?_;refine lK 14 rfl ?_;refine lK 15 rfl ?_;refine lK 16 rfl ?_;refine lK 17 rfl ?_;refine lK 18 rfl ?_;refine lK 19 rfl ?_;refine lK 20 rfl ?_;refine lK 21 rfl ?_;refine lK 22 rfl ?_;simp only[eT,yX];refine wpAnyH_ready (rs:=[11,23]) bZ aR ?_;refine AllReadyH.cons (o:=_) rfl (fun K d=>?_) (AllReadyH.cons (o:=_) rfl (fun K d=>?_) AllReadyH.nil);focus
  go_simp;refine d.out _ _ (W.out) (fun c=>?_);clear d K;refine Qy 23 rfl fun K d=>?_;go_simp;refine d.out _ _ (O.out) (fun c=>?_);clear d K;refine Qy 24 rfl fun K d=>?_;go_simp;refine d.out _ _ (x.out) (fun c=>?_);clear d K
 rotate_left;focus
  go_simp;refine d.out _ _ (O.out) (fun c=>?_);clear d K;refine wpAnyH_ready (rs:=[11,24]) bZ aR ?_;refine AllReadyH.cons (o:=_) rfl (fun K d=>?_) (AllReadyH.cons (o:=_) rfl (fun K d=>?_) AllReadyH.nil);focus
   go_simp;refine d.out _ _ (O.out) (fun c=>?_);clear d K;refine Qy 24 rfl fun K d=>?_;go_simp;refine d.out _ _ (x.out) (fun c=>?_);clear d K
  rotate_left;focus
   go_simp;refine d.out _ _ (x.out) (fun c=>?_);clear d K;refine Qy 11 rfl fun K d=>?_;go_simp;refine d.out _ _ (x.out) (fun c=>?_);clear d K
 all_goals(
  refine Qy 25 rfl fun K d=>?_;refine iL _ (by rfl) _ _ _ _ (by rfl) _ _ (by rfl) (by rfl) _ _ (run _) ?_;refine d.out _ _ (S6.out) (fun c=>?_);clear d K;refine lK 26 rfl ?_;simp only[eT,yX];refine Qy 27 rfl fun K d=>?_;go_simp;refine d.out _ _ (X.out) (fun c=>?_);clear d K;refine wpAnyH_done bZ ?_ _;clear R I U J l gA gB O x S6 W run k1 k2 k3 k4 k5;obtain⟨z2,z3,zn,_⟩:=X.out;clear X;go_wp2;refine wp_region_held_drew (S:=fun y=>y.cell? (aA N 3)=some (dB nb 2 nc)/\y.cell? (aA w.heap.size 3)=some (iZ B)) bZ u.out (fun c=>?_);refine lK 0 rfl ?_;refine lK 1 rfl ?_;refine lK 2 rfl ?_;refine lK 3 rfl ?_;refine lK 4 rfl ?_;refine lK 5 rfl ?_;refine lK 6 rfl ?_;refine lK 7 rfl ?_;refine lK 8 rfl ?_;refine lK 9 rfl ?_;refine lK 10 rfl ?_;refine lK 13 rfl ?_;refine lK 14 rfl ?_;simp only[eT,yX];refine wpAnyH_ready (rs:=[11,15]) bZ aR ?_;refine AllReadyH.cons (o:=_) rfl (fun K d=>?_) (AllReadyH.cons (o:=_) rfl (fun K d=>?_) AllReadyH.nil);focus
   go_simp;refine d.out _ _ (u.out) (fun c=>?_);clear d K;refine lK 12 rfl ?_;simp only[eT,yX];refine Qy 15 rfl fun K d=>?_;go_simp;go_at_call 32;refine(jm _ _ hB kX _).mono ?_;rintro Z w4 ⟨rfl,g⟩;subst g;go_wp2_with fail;refine d.out _ _ (u.out) (fun c=>?_);clear d K;refine lK 16 rfl ?_
  rotate_left;focus
   go_simp;go_at_call 32;refine(jm _ _ hB kX _).mono ?_;rintro Z w4 ⟨rfl,g⟩;subst g;go_wp2_with fail;refine d.out _ _ (u.out) (fun c=>?_);clear d K;refine lK 16 rfl ?_;simp only[eT,yX];refine Qy 11 rfl fun K d=>?_;go_simp;refine d.out _ _ (u.out) (fun c=>?_);clear d K;refine lK 12 rfl ?_
  all_goals(
   refine lK 17 rfl ?_;refine lK 18 rfl ?_;simp only[eT,yX];refine Qy 19 rfl fun K d=>?_;go_simp;refine d.out _ _ (S9.out) (fun c=>?_);clear d K;refine wpAnyH_done bZ ?_ _;go_wp2;go_ret;exact⟨rfl,HP.out _⟩))
theorem qda(N xb xc nb nc C i)(I:i<2)(Sd A B)(now nx d:Nat)(S)(G:d<S.size+40)(H:64<=d/\d<=400)(w b)(j:Wq->Prop)(e:b=w.alloc (.cells (oC 4 Sd A B S).toArray 37))(t:b.cell? (aA N 0)=some (dB xb 2 xc))(u:b.cell? (aA N 3)=some (dB nb 2 nc))(v:b.cell? (aA N 4)=some (uZ now))(x:b.cell? (aA N 5)=some (iZ d))(K:b.cell? (aA xb i)=some (aK C 0))(J:b.cell? (aA nb i)=some (uZ nx))(g:∀y,bJ b y->bN 64 #[aK C 0,uZ nx,uZ now,.string S] y (iZ 6) fun c=>(c.cell? (aA N 0)=some (dB xb 2 xc)/\c.cell? (aA xb i)=some (aK C 0)/\c.cell? (aA N 3)=some (dB nb 2 nc)/\c.cell? (aA nb i)=some (uZ nx)/\c.cell? (aA N 4)=some (uZ now)/\c.cell? (aA w.heap.size 4)=some (.string S))/\Hid (∀q,j (c.drewN q))):bN 37 #[aK N 0,iZ i,.agg #[iZ 4,iZ Sd,iZ A,iZ B,.string S]] w (.bool true) fun w'=>j w':=by
 have f:aS b w.heap.size 37 (oC 4 Sd A B S):=by grind [aS.new]
 have l:=f.cell 4;simp only[oC,jh,gN]at l;have s:=aG fun q=>g (b.drewN q) (dG b q);have r:w.alloc (.cells #[iZ 4,iZ Sd,iZ A,iZ B,.string S] 37)=b:=e.symm;have D:IntKind.i64.wrap ((d:Int)-40)=(d:Int)-40:=by rw[qB];omega
 have F:(d:Int)-40<(S.size:Int):=aj;have p:(i:Int)<2:=aj;have o:(0:Int)<=(i:Int):=aj;clear g e f;go_enter func37,ntmps37;go_wp2;clear r;go_quiet (fail);go_wp2;go_region_held3 (fun y=>y.cell? (aA N 0)=some (dB xb 2 xc)/\y.cell? (aA xb i)=some (aK C 0)/\y.cell? (aA N 3)=some (dB nb 2 nc)/\y.cell? (aA nb i)=some (uZ nx)/\y.cell? (aA N 4)=some (uZ now)/\y.cell? (aA w.heap.size 4)=some (.string S)) (first|assumption|go_keep) ((first|(go_at_call 64;refine(s.out _).mono ?_;rintro z c ⟨rfl,m,k⟩)))
 all_goals(
  go_wp2;go_ret;exact⟨rfl,k.out 0⟩)
theorem Yl(N xb xc gb gc nb nc C i)(Z:i<2)(Sd A B)(Y:mW A)(now nx e d:Nat)(p5:dw A 9=d)(M:d<9)(S)(V:S.size+40<=e)(W:e<=400)(X:now<4611686018427387000)(H j I)(J:16<=j)(w b)(t:Wq->Prop)(f:b=w.alloc (.cells (oC 4 Sd A B S).toArray 37))(x:b.cell? (aA N 0)=some (dB xb 2 xc))(z:b.cell? (aA N 3)=some (dB nb 2 nc))(D:b.cell? (aA N 4)=some (uZ now))(F:b.cell? (aA N 5)=some (iZ e))(Q:b.cell? (aA xb i)=some (aK C 0))(O:b.cell? (aA nb i)=some (uZ nx))(m:∀y,bJ b y->bN 64 #[aK C 0,uZ nx,(uZ ((now:Int)+(d:Int))),.string S] y (iZ 3) fun c=>(c.cell? (aA N 0)=some (dB xb 2 xc)/\c.cell? (aA xb i)=some (aK C 0)/\c.cell? (aA N 3)=some (dB nb 2 nc)/\c.cell? (aA nb i)=some (uZ nx)/\c.cell? (aA w.heap.size 4)=some (.string S))/\Hid (c.cell? (aA N 2)=some (dB gb 2 gc)/\c.cell? (aA gb i)=some (.slice H j I)/\∀q,t (c.drewN q))):bN 37 #[aK N 0,iZ i,.agg #[iZ 4,iZ Sd,iZ A,iZ B,.string S]] w (.bool true) fun w'=>t w':=by
 have g:aS b w.heap.size 37 (oC 4 Sd A B S):=by grind [aS.new]
 have p:=g.cell 2;have r:=g.cell 4;simp only[oC,jh,gN]at p r;have u:=aG fun q=>m (b.drewN q) (dG b q);have R:w.alloc (.cells #[iZ 4,iZ Sd,iZ A,iZ B,.string S] 37)=b:=f.symm;have T:IntKind.i64.wrap ((e:Int)-40)=(e:Int)-40:=by rw[qB];omega
 have U:¬((e:Int)-40<(S.size:Int)):=aj;have v5:IntKind.u64.wrap (d:Int)=(d:Int):=by rw[vC];omega
 have v6:IntKind.u64.wrap ((now:Int)+(d:Int))=(now:Int)+(d:Int):=by rw[vC];omega
 have L:(i:Int)<2:=aj;have K:(0:Int)<=(i:Int):=aj;have P:(16:Int)<=(j:Int):=aj;clear m f g;go_enter func37,ntmps37;go_wp2;clear R;go_quiet (fail);go_wp2;go_region_held3 (fun y=>y.cell? (aA N 4)=some (uZ now)/\y.cell? (aA w.heap.size 2)=some (iZ A)) (first|assumption|go_keep) ((first|(go_at_call 32;refine(jm _ _ Nc kX _).mono ?_;rintro G w4 ⟨rfl,l⟩;subst l)))
 go_wp2;go_region_held3 (fun y=>y.cell? (aA N 0)=some (dB xb 2 xc)/\y.cell? (aA xb i)=some (aK C 0)/\y.cell? (aA N 3)=some (dB nb 2 nc)/\y.cell? (aA nb i)=some (uZ nx)/\y.cell? (aA w.heap.size 4)=some (.string S)) (first|assumption|go_keep) ((first|(go_at_call 64;refine(u.out _).mono ?_;rintro G c ⟨rfl,k,o⟩)))
 obtain⟨r2,r3,s⟩:=o.out;have v:=aG s;clear u x z D F Q O p r k s o;go_wp2;go_ret;exact⟨rfl,v.out 0⟩
end
section
theorem TJ{t e z}(f:prog.underlying t=some (.slice e))(g:(prog.info? e).map (fun i=>(i.zero,i.size,i.bytes))=some (some z,1,b))(c:z.cells=#[z])(j:z.oneCell'=true)(h:b<=104):LA t e z 1 b:=
 ⟨f,g,fun n=>by rw[c];simp[Builtin.zeroCells],fun n v d=>by rw[c]at d;simp[Builtin.zeroCells]at d;grind,h⟩
def qow:LA 49 52 (.pointer none) 1 8:=TJ bZ bZ rfl rfl aj
def Net.grN(n:Net)(i:Nat)(b c:Nat)(S:ByteArray)(gv:Wx):Net:=
 {n with gv:=fun j=>if j=i then gv else n.gv j,gr:=fun j=>if j=i then n.gr i++[⟨n.nx i,b,S,false⟩]else n.gr j,nx:=fun j=>if j=i then n.nx i+1+c else n.nx j}
def Net.dgN(n:Net)(i:Nat)(A B:Int)(S:ByteArray)(v gv:Wx):Net:=(n.dM i ((n.x i).dg (Ee (n.nx i) (n.now+dw A 9) S) v)).grN i (n.now+dw A 9) (dw B 3) S gv
section
variable {oZ:Own} {w:Wq} {a:Ad} {n:Net} {vb:Wx}
def dW.gnb{E}(h:dW oZ w a n vb E)(i)(d:i<2):w.cell? (aA a.nb i)=some (uZ (n.nx i:Int))/\w.cell? (aA a.gb i)=some (n.gv i)/\w.cell? (aA a.N 3)=some (dB a.nb 2 a.nc):=by
 obtain⟨⟨r,c⟩,_⟩:=h.ns;obtain⟨⟨e,b⟩,_⟩:=h.gs;rcases(show i=0\/i=1 by omega)with rfl|rfl;.exact⟨c.cell 0,b.cell 0,by rw[h.qA.1.cell];rfl⟩
 .exact⟨c.cell 1,b.cell 1,by rw[h.qA.1.cell];rfl⟩
theorem Ym{fH iA w0}(g:dW iA c a n vb (ends n))(K:Kp TN fH iA w0 c)(i)(hi:i<2)(O o D Sd A B S)(J:aS c O 37 (oC 4 Sd A B S))(ho:iA O=0)(h3:(n.gr i).length<=1000000)(sM)(hP:∀gv w',ny fH w0 a (n.grN i o D S gv) w'->sM w'):DgR a.N a.gb a.gc a.nb a.nc O i (n.nx i) o D B S sM c:=by
 obtain⟨e1,e2,e3⟩:=g.gnb i hi;obtain⟨_,_,c2,_⟩:=g.cells;obtain⟨W,hG,h5,ha,u⟩:=g.gt i hi;obtain⟨⟨gr,P⟩,og⟩:=g.gs;obtain⟨⟨nr,Q⟩,on⟩:=g.ns;obtain⟨ga,gp,G⟩:=iX hG;obtain⟨m,hm⟩:=bU ((n.gr i).length);rw[<-hm]at hG G h5 u h3;obtain⟨h,E⟩:=bU (c.alloc (.cells #[(uZ (n.nx i:Int)),uZ o,.string S,.bool false] 51));obtain⟨WB,U⟩:=bU ((h.alloc (.cells [aK c.heap.size 0].toArray 52)).drew);have hf:h.heap.size=c.heap.size+1:=by rw[E];simp
 have Xf:bJ c h:=by rw[E];exact(bP _ c).alloc (aI _) _
 have X:bJ h WB:=by rw[U];exact((bP _ h).alloc (aI _) _).drew
 have s:=Xf.trans (X.mono aj);have BA:aS h c.heap.size 51 (gmC ⟨n.nx i,o,S,false⟩):=by rw[E];exact aS.new c 51 _
 have L:=BA.of_heap (X.block _ aj);have BB:aS WB h.heap.size 52 [aK c.heap.size 0]:=by rw[U];exact aS.new h 52 _
 obtain⟨qP,hc⟩:=bU (fun b=>if b=c.heap.size then 207+i else iA b:Own);have K3:Kp [] iA qP c WB:=⟨s.os,s.tape,s.output,s.size,fun b J _=>s.block b J,fun b J=>by grind⟩;have ot:qP c.heap.size=207+i:=by grind
 obtain⟨v6,C,d,run,R,K6⟩:=gI qow (hG.kp K3 aR) (aA h.heap.size 0) 1 1 [aK c.heap.size 0] rfl (fun z hz=>by rw[sD.1 hz];rfl) (fun t y hy=>by
  have e:(aA h.heap.size 0).add t=(aA h.heap.size t):=by rw[gT,gG]
  rw[e,BB.cell,hy]) aj
 obtain⟨k,l,rfl⟩:=iX R;have f:=(K3.mono aR).trans K6;have T:=g.Ag f dZ;have F:=bW P f (by grind);have H:=bW Q f (by grind);have V:=bW J f (by grind);have n1:a.gb≠a.N:=fun e=>by rw[e,g.qA.2]at og;cases og
 have n2:a.gb≠a.nb:=fun e=>by grind
 have n3:a.gb≠O:=fun e=>by grind
 have n4:a.nb≠a.N:=fun e=>by grind
 have n5:a.nb≠O:=fun e=>by grind
 have h0:C.cell? (aA a.gb i)=some (n.gv i):=by rw[F.cell];grind
 have h2:C.cell? (aA a.nb i)=some (uZ (n.nx i:Int)):=by rw[H.cell];grind
 refine⟨c2,e3,e1,J.cell 3,J.cell 4,ga,m,gp,k,m+1,l,C,by rw[e2,G],fun ty=>?_,by rw[h0,G],F.frozen i,by rw[T.cell];rfl,by rw[T.cell];rfl,h2,H.frozen i,V.cell 3,V.cell 4,n1,n2,n3,n4,n5,fun q=>?_⟩;.grind
 .have hg:d a.gb=201:=by rw[f.ext _ P.lt];exact og
  have hk:d a.nb=202:=by rw[f.ext _ Q.lt];exact on
  have h7:d c.heap.size=207+i:=by rw[K6.ext _ L.lt];exact ot
  have K7:Kp [201] d d C (C.setCell (aA a.gb i) (.slice k (m+1) l)):=Kp.set d C _ _ _ (by grind);have Z:Kp [202] d d (C.setCell (aA a.gb i) (.slice k (m+1) l)) ((C.setCell (aA a.gb i) (.slice k (m+1) l)).setCell (aA a.nb i) (uZ ((n.nx i:Int)+1+(D:Int)))):=Kp.set d _ _ _ _ (by grind);obtain⟨Y,h6⟩:=bU ((C.setCell (aA a.gb i) (.slice k (m+1) l)).setCell (aA a.nb i) (uZ ((n.nx i:Int)+1+(D:Int))));have I:=bW (F.setCell i (.slice k (m+1) l)) Z (by grind);have h8:=(bW H K7 (by grind)).setCell i (uZ ((n.nx i:Int)+1+(D:Int)));rw[<-h6]at Z I h8 ⊢;have M:Kp [201,202] d d C Y:=(K7.mono aR).trans (Z.mono aR);have N:Kp [201,202,205+i] iA d c Y:=(f.mono aR).trans (M.mono aR);have he:∀p∈W,p<c.heap.size:=fun p hp=>by obtain⟨j,hj,e⟩:=List.getElem_of_mem hp;have:=(u j aj).1.lt;grind
  have h9:GmM d Y i (.slice k (m+1) l) (n.gr i++[⟨n.nx i,o,S,false⟩]):=by
   refine⟨W++[c.heap.size],?_,dZ,?_,fun j hj=>?_⟩;.rw[lM,Dv,<-hm];exact(R.kp K7 dZ).kp Z dZ
   .grind
   .rw[lM,<-hm]at hj;simp only[pI,vD]at hj;by_cases e:j=m
    .have ex:(W++[c.heap.size]).getD j 0=c.heap.size:=by
      grind
     have ey:(n.gr i++[(⟨n.nx i,o,S,false⟩:Gm)]).getD j BU=⟨n.nx i,o,S,false⟩:=by grind
     rw[ex,ey];exact⟨bW (bW L K6 (by rw[ot];simp)) M (by grind),h7⟩
    .have ex:(W++[c.heap.size]).getD j 0=W.getD j 0:=by
      grind
     have ey:(n.gr i++[(⟨n.nx i,o,S,false⟩:Gm)]).getD j BU=(n.gr i).getD j BU:=by grind
     rw[ex,ey];obtain⟨p1,p2⟩:=u j aj;exact⟨bW p1 N (by grind),by rw[N.ext _ p1.lt];exact p2⟩
  have r:=g.grm N dZ (n.grN i o D S (.slice k (m+1) l)).gv (n.grN i o D S (.slice k (m+1) l)).gr (n.grN i o D S (.slice k (m+1) l)).nx ?_ ?_ ?_;.exact hP (.slice k (m+1) l) _ ⟨d,vb,r.below (dG _ q),K.trans ((N.mono fun x hx=>lu.2 (by grind)).trans (Kp.below (dG _ q)))⟩
  .rcases(show i=0\/i=1 by omega)with rfl|rfl;.exact⟨gr,I⟩
   .exact⟨gr,I⟩
  .intro v h4;by_cases e:v=i;.subst e;show GmM d Y v (if v=v then _ else _) (if v=v then _ else _);grind
   .show GmM d Y v (if v=i then _ else _) (if v=i then _ else _);rw[b_ e,b_ e];exact(g.gt v h4).kp N dZ dZ
  grind [Net.grN]
def qia(n b f v i k):ends n i k=ends (n.dM b ((n.x b).dg f v)) i k:=pF (n:=n) (i:=b) (M:=(n.x b).dg f v) ⟨fun _=>Cj _,fun _=>⟨rfl,rfl⟩⟩ i k
def Vq(n b v i k):ends n i k=ends (n.dM b {n.x b with qv:=v}) i k:=pF (n:=n) (i:=b) (M:={n.x b with qv:=v}) ⟨fun _=>Cj _,fun _=>⟨rfl,rfl⟩⟩ i k
def DgO(n:Net)(b i:Nat)(A B:Int)(S:ByteArray)(n':Net):Prop:=
 (S.size+40<=b/\(n.x i).aQ.length<16/\∃v c,n'=n.dgN i A B S v c)\/((b<S.size+40\/16<=(n.x i).aQ.length)/\∃v,n'=n.dM i {n.x i with qv:=v})
structure DgA (n:Net) (aZ i:Nat):Prop where
 y:(n.x i).mY=0
 l:(n.x i).least<=n.nx i
 nx:n.nx i<4611686018427387000
 nw:n.now<4611686018427387000
 m:(n.x i).aZ=aZ
 m2:64<=aZ/\aZ<=400
 q:(n.x i).aQ.length<=16
 qg:(n.x i).aQ.length<=(n.gr i).length
 d:∀f∈(n.x i).aQ,(n.x i).aV<=f.aJ
 t:(n.x i).aV=n.now
 gl:(n.gr i).length<=1000000
theorem PS(h:dW oZ w a n vb (ends n)){i}(c:i<2)(H:DgA n a.aZ i)(Sd A B)(Z:mW A)(hB:mW B)(S)(hS:S.size<=1000000):bN 37 #[aK a.N 0,iZ i,.agg #[iZ 4,iZ Sd,iZ A,iZ B,.string S]] w (.bool true) fun t=>∃m,DgO n a.aZ i A B S m/\ny oZ w a m t:=by
 obtain⟨C,s⟩:=bU (w.alloc (.cells (oC 4 Sd A B S).toArray 37));have E:bJ w C:=by rw[s];exact(bP _ w).alloc (aI _) _
 have W:aS C w.heap.size 37 (oC 4 Sd A B S):=by grind [aS.new]
 have r:=h.loc.below E;have ob:loc oZ w.heap.size w.heap.size=0:=jF _ _ _ (aI _);have K:Kp TN (loc oZ w.heap.size) (loc oZ w.heap.size) w C:=Kp.below E;obtain⟨L,_,_,M,N,_⟩:=r.cells;obtain⟨O,_,P⟩:=r.gnb i c;obtain⟨o,z⟩:∃o,dw A 9=o:=⟨_,rfl⟩;obtain⟨I,J⟩:∃I,dw B 3=I:=⟨_,rfl⟩;have G:o<9:=by rw[<-z];exact dR A 9 aj
 have U:I<3:=by rw[<-J];exact dR B 3 aj
 have Y:((n.now+o:Nat):Int)=(n.now:Int)+(o:Int):=aj;have T:=H.nx;have F:=H.nw;have e:=H.m2;have u:∀{y p:Wq} {x:Own},bJ C y->Kp (T0 (60*(i+1))) (loc oZ w.heap.size) x y p->aS p w.heap.size 37 (oC 4 Sd A B S)/\x w.heap.size=0:=fun b f=>⟨bW (fD b W) f (by grind [fM]),by rw[f.ext _ (fD b W).lt];exact ob⟩;by_cases g:a.aZ<S.size+40;.refine qda a.N a.xb a.xc a.nb a.nc (a.C i) i c Sd A B n.now (n.nx i) a.aZ S g e w C (fun t=>∃m,DgO n a.aZ i A B S m/\ny oZ w a m t) s L P M N (r.xs i c).1 O (fun y b=>?_);refine bK (PN (r.below b) i c (n.nx i) n.now S H.y aj aj H.l (by rw[H.m];exact e) hS H.q H.d 6 (.inl ⟨rfl,by rw[H.m];exact g⟩)) ?_;rintro p ⟨v,x,d,f⟩;obtain⟨D,_,_,d4,_⟩:=d.cells;obtain⟨f1,_,f3⟩:=d.gnb i c;refine⟨rfl,⟨D,(d.xs i c).1,f3,f1,d4,(u b f).1.cell 4⟩,fun q=>⟨_,.inr ⟨.inl g,v,rfl⟩,ny.lI ⟨x,vb,(d.yS (E':=ends _) (fun j k _ _=>Vq n i v j k)).below (dG p q),K.trans ((Kp.below b).trans ((f.mono (uK i c)).trans (Kp.below (dG p q))))⟩⟩⟩
 by_cases l:16<=(n.x i).aQ.length;.obtain⟨ps,hG,_⟩:=r.gt i c;obtain⟨ga,gp,R⟩:=iX hG;refine Yl a.N a.xb a.xc a.gb a.gc a.nb a.nc (a.C i) i c Sd A B Z n.now (n.nx i) a.aZ o z G S aj e.2 F ga (n.gr i).length gp (fT H.qg) w C (fun t=>∃m,DgO n a.aZ i A B S m/\ny oZ w a m t) s L P M N (r.xs i c).1 O (fun y b=>?_);have:=PN (r.below b) i c (n.nx i) (n.now+o) S H.y aj aj H.l (by rw[H.m];exact e) hS H.q H.d 3 (.inr ⟨rfl,by rw[H.m];omega,l⟩);rw[Y]at this;refine bK this ?_;rintro p ⟨v,x,d,f⟩;obtain⟨D,_,d2,_⟩:=d.cells;obtain⟨f1,f2,f3⟩:=d.gnb i c;have Q:p.cell? (aA a.gb i)=some (n.gv i):=f2;refine⟨rfl,⟨D,(d.xs i c).1,f3,f1,(u b f).1.cell 4⟩,d2,by rw[Q,R],fun q=>⟨_,.inr ⟨.inr l,v,rfl⟩,ny.lI ⟨x,vb,(d.yS (E':=ends _) (fun j k _ _=>Vq n i v j k)).below (dG p q),K.trans ((Kp.below b).trans ((f.mono (uK i c)).trans (Kp.below (dG p q))))⟩⟩⟩
 refine TI a.N a.xb a.xc a.gb a.gc a.nb a.nc (a.C i) i c Sd A B Z hB n.now (n.nx i) a.aZ o I z J G U S aj e.2 F T w C (fun t=>∃m,DgO n a.aZ i A B S m/\ny oZ w a m t) s L P M N (r.xs i c).1 O (fun y b=>?_);have h3:=r.below b;have:=PL h3 i c (n.nx i) (n.now+o) S H.y aj aj H.l (by rw[H.m];exact e) (by rw[H.m];omega) aj H.d (by rw[H.t];omega);rw[Y]at this;refine bK this ?_;rintro p ⟨v,x,d,f⟩;obtain⟨D,_⟩:=d.cells;obtain⟨f1,_,f3⟩:=d.gnb i c;obtain⟨X,V⟩:=u b f;refine⟨rfl,⟨D,(d.xs i c).1,f3,f1,X.cell 4⟩,?_⟩;have g3:=d.yS (E':=ends (n.dM i ((n.x i).dg (Ee (n.nx i) (n.now+o) S) v))) (fun j k _ _=>qia n i _ v j k);exact Ym (fH:=loc oZ w.heap.size) (w0:=w) g3 (K.trans ((Kp.below b).trans (f.mono (uK i c)))) i c w.heap.size (n.now+o) I Sd A B S X V H.gl _ fun gv t hF=>⟨_,.inl ⟨aj,aj,v,gv,rfl⟩,ny.lI (by grind [Net.dgN])⟩
theorem qib(N xb xc C i)(D:i<2)(Sd A B)(t:mW Sd)(z:mW A)(F:dw Sd 2=i)(S w c)(j:Wq->Prop)(d:c=w.alloc (.cells (oC 4 Sd A B S).toArray 37))(y:c.cell? (aA N 0)=some (dB xb 2 xc))(H:c.cell? (aA xb i)=some (aK C 0))(f:bN 37 #[aK N 0,iZ i,.agg #[iZ 4,iZ Sd,iZ A,iZ B,.string S]] c (.bool true) fun k=>j k):bN 22 #[aK N 0,.agg #[iZ 4,iZ Sd,iZ A,iZ B,.string S]] w (.bool true) fun v=>j v:=by
 have E:=dR A 8 aj;have b:aS c w.heap.size 37 (oC 4 Sd A B S):=by grind [aS.new]
 have m:=b.cell 0;have o:=b.cell 1;have p:=b.cell 2;have q:=b.cell 3;have r:=b.cell 4;simp only[oC,jh,gN]at m o p q r;have x:=aG f;have I:w.alloc (.cells #[iZ 4,iZ Sd,iZ A,iZ B,.string S] 37)=c:=d.symm;have u:(i:Int)<2:=aj;clear f d b;go_enter sP,sO;go_wp2_with (first|(go_at_call 32;refine(jm _ _ Nc kX _).mono ?_;rintro s G ⟨rfl,e⟩;subst e)|(go_at_call 37;refine x.out.mono ?_;rintro s k ⟨rfl,g⟩;have l:=aG g;clear g));go_ret;exact⟨rfl,l.out⟩
def PV(h:dW oZ w a n vb (ends n)){Sd}(A B)(i:mW Sd)(k:mW A)(t:mW B)(H:DgA n a.aZ (dw Sd 2))(S)(u:S.size<=1000000):bN 22 #[aK a.N 0,.agg #[iZ 4,iZ Sd,iZ A,iZ B,.string S]] w (.bool true) fun f=>∃b,DgO n a.aZ (dw Sd 2) A B S b/\ny oZ w a b f:=by
 have j:=dR Sd 2 aj;obtain⟨l,d⟩:=bU (w.alloc (.cells (oC 4 Sd A B S).toArray 37));have c:bJ w l:=by rw[d];exact(bP _ w).alloc (aI _) _
 have g:=h.below c;obtain⟨p,_⟩:=g.cells;refine qib a.N a.xb a.xc (a.C (dw Sd 2)) (dw Sd 2) j Sd A B i k rfl S w l (fun f=>∃b,DgO n a.aZ (dw Sd 2) A B S b/\ny oZ w a b f) d p (g.xs _ j).1 ((PS g j H Sd A B k t S u).mono ?_);rintro e f ⟨rfl,b,q,o,m,r,s⟩;exact⟨rfl,b,q,o,m,r,(Kp.below c).trans s⟩
end

end
section
section
variable {fH:Own} {w0 w w':Wq} {a:Ad} {L:List (Nat×TypeId×bM)} {n:Net}
def av.IG(A:av)(v:Wx):av:={A.Ul with qv:=v}
def TK(A v):Sm A (A.IG v):=⟨fun _=>Cj _,fun _=>⟨rfl,rfl⟩⟩
def Vr(h:qN fH w0 a L n w)(i)(b:i<2)(m:(n.x i).aV+1<18446744073709551616)(l:(n.x i).aQ.length<=16):bN 38 #[(aK (a.C i) 0)] w (.tuple #[]) fun w'=>∃v,qN fH w0 a L (n.dM i ((n.x i).IG v)) w':=by obtain⟨o,vb,e,f,g,_⟩:=h.ex;refine bK (qhn e i b m l) ?_;rintro w' ⟨v,p,c,d⟩;exact⟨rfl,v,qN.go (n':=n.dM i ((n.x i).IG v)) f g (c.yS fun j k _ _=>pF (TK _ v) j k) (d.mono (uK i b))⟩
def qN.now(h:qN fH w0 a L n w)(t):qN fH w0 a L {n with now:=t} (w.setCell (aA a.N 4) (uZ t)):=by obtain⟨o,vb,b,c,d,_⟩:=h.ex;exact qN.go c d (n':={n with now:=t}) (b.qlu t) (Kp.set o w _ _ TN (by rw[b.qA.2];exact lu.2 aj))
def qN.qr3(h:qN fH w0 a L n w):w.cell? (aA a.N 4)=some (uZ n.now)/\w.frozen? (aA a.N 4)=false:=by obtain⟨o,vb,b,d,e,_⟩:=h.ex;obtain⟨_,_,_,c,_⟩:=b.cells;exact⟨c,b.qA.1.frozen 4⟩
def ny.then{o w b n}(K:Kp TN oZ o w b)(h:ny o b a n c):ny oZ w a n c:=by obtain⟨f,vb,d,e⟩:=h;exact⟨f,vb,d,K.trans e⟩
def PW(h:qN fH w0 a L n w)(p:dU a.aZ n)(c)(e:c<=1000000000)(l:iP c n)(k:qV n 0)(d:a.aZ<=400)(m:n.dJ.length<=1000000000)(K Sd A B S)(i:mW A)(j:mW B):bN 39 #[aK a.N 0,.agg #[iZ K,iZ Sd,iZ A,iZ B,.string S]] w (.bool true) fun w'=>Hid (∃b,Jl a.aZ n b/\iP c b/\(n.dJ=[]->b=n)/\ny fH w0 a b w'):=by obtain⟨o,vb,f,g,u,_⟩:=h.ex;refine bK (qd3 f p e l k d m K Sd A B S i j) ?_;rintro w' ⟨b,q,r,s,t⟩;exact⟨rfl,b,q,r,s,t.then g⟩
end

def Net.jK(n:Net)(b c:Wx):Net:={(n.dM 0 ((n.x 0).IG b)).dM 1 ((n.x 1).IG c)with now:=n.now+1}
def vw(n:Net)(b c i)(d:i<2):∃v,(n.jK b c).x i=(n.x i).IG v:=by
 rcases(show i=0\/i=1 by omega)with rfl|rfl;.exact⟨b,rfl⟩
 .exact⟨c,rfl⟩
def MX{A B}(b:fG A)(c:dL A B)(d:dL B A)(v):rV A B (A.IG v):=
 xZ b c d _ v _ A.least (fun f e=>b.q f (dY.1 e).1) (dx (tH _ _) b.ql)
def qdb{A}(h:Bd A)(v):Bd (A.IG v):=⟨h.o,h.i,h.g,h.lm,h.mt,h.wy,h.ls,h.ky,h.wl,h.ll,h.nm,h.cm,fun x b=>Nat.le_succ_of_le (h.tk x b),h.ib⟩
def PX{f n}(h:dU f n)(d e):dU f (n.jK d e):=by have b:=h.sub n.dJ (fun _ h=>h) (n.now+1);have c:=jq b 0 aj ((n.x 0).IG d) (MX (b.loc 0 aj) (b.two 0 aj) (b.mU 0 aj) d) (qdb (b.bd 0 aj) d) rfl rfl;exact jq c 1 aj ((n.x 1).IG e) (MX (c.loc 1 aj) (c.two 1 aj) (c.mU 1 aj) e) (qdb (c.bd 1 aj) e) rfl rfl
def II{n}(h:qV n (B+1))(c d):qV (n.jK c d) B:=⟨fun i b=>by
 have f:=h.1 i b;obtain⟨v,e⟩:=vw n c d i b;rw[e];show(n.x i).next+_<_/\(n.x i).aV+1+B<_
 omega,by have:=h.2;show n.now+1+B<_;omega⟩
def iP.aV{K n}(h:iP K n)(c g):iP (K+1) (n.jK c g):=by
 refine⟨fun i b=>?_,fun i b=>?_,fun i b=>?_,h.bg,fun i b=>?_,by have:=h.nw;show n.now+1<=_;omega⟩;.obtain⟨v,e⟩:=vw n c g i b;obtain⟨l,j⟩:=vw n c g (1-i) aj;rw[e,j];have d:=h.dg i b;refine⟨d.inc,d.lt,d.ls,fun f k=>?_,d.cm,dx (tH _ _) d.ql⟩;obtain⟨p,q⟩:=dY.1 (show f∈(n.x i).aQ.filter (fun f=> !decide (f.aJ<(n.x i).aV+1))from k);rw[h.tk i b]at q;simp only[Jr,decide_eq_false_iff_not]at q;exact⟨(d.q f p).1,by show n.now+1<=_;omega⟩
 .obtain⟨v,e⟩:=vw n c g i b;rw[e];exact congrArg (·+1) (h.tk i b)
 .obtain⟨v,e⟩:=vw n c g i b;rw[e];exact h.ms i b
 .have:=h.ln i b;show(n.gr i).length<=_/\n.nx i<=_;omega
def iP.dga{g n}(h:iP K n)(e:dU g n)(k:K<=1000000)(i)(c:i<2):DgA n g i:=by have d:=h.dg i c;have l:=h.ln i c;have b:=(e.bd i c).mt;rw[e.mt i c]at b;exact⟨(e.loc i c).mY,d.ls,aj,fT h.nw,e.mt i c,b,(e.loc i c).ql,d.ql,fun f j=>by rw[h.tk i c];exact(d.q f j).2,h.tk i c,aj⟩
def qmb{n}(h:iP K n)(d:K<=1000000)(i)(c:i<2)(A S)(f:b<=400)(e:S.size+40<=b):QD (Ee (n.nx i) (n.now+dw A 9) S):=by have:=h.ln i c;have:=h.nw;have:=dR A 9 aj;exact⟨rfl,by show n.nx i<=dH;unfold dH;omega,by show n.now+dw A 9<=dH;unfold dH;omega,by show S.size<=360;omega⟩
theorem qmc{G B0 n n'}(t:dU G n)(h:iP K n)(Q:K<=1000000)(i)(r:i<2)(A B S)(E:qV n B0)(o:DgO n G i A B S n'):dU G n'/\iP (K+1) n'/\qV n' B0/\n'.dJ=n.dJ:=by
 have O:=(t.bd i r).mt;rw[t.mt i r]at O;have z:=t.loc i r;have M:=t.two i r;have N:=t.mU i r;have l:=t.bd i r;rcases o with⟨R,W,v,I,rfl⟩|⟨_,v,rfl⟩
 .have X:=qmb h Q i r A S O.2 R;have s:=xZ z M N ((n.x i).aQ++[Ee (n.nx i) (n.now+dw A 9) S]) v (n.x i).aV (n.nx i+1) (fun f m=>by
   rcases iJ.1 m with m|m;.exact z.q f m
   grind) (by grind)
  have p:=jq t i r ((n.x i).dg (Ee (n.nx i) (n.now+dw A 9) S) v) s ⟨l.o,l.i,l.g,l.lm,l.mt,l.wy,l.ls,l.ky,l.wl,l.ll,l.nm,l.cm,l.tk,l.ib⟩ rfl rfl;refine⟨⟨p.loc,p.two,p.bd,p.mt,p.ct,p.dJ⟩,?_,E.dM i rfl rfl,rfl⟩;obtain⟨u,C⟩:=bU (n.now+dw A 9);have U:=dR B 3 aj;have D:∀j,(n.dgN i A B S v I).x j=if j=i then(n.x i).dg (Ee (n.nx i) u S) v else n.x j:=fun j=>by rw[C];rfl
  have P:∀j,(n.dgN i A B S v I).gr j=if j=i then n.gr i++[⟨n.nx i,u,S,false⟩]else n.gr j:=fun j=>by rw[C];rfl
  have en:∀j,(n.dgN i A B S v I).nx j=if j=i then n.nx i+1+dw B 3 else n.nx j:=fun j=>rfl;have H:Vm (n.gr i++[⟨n.nx i,u,S,false⟩])=Vm (n.gr i)++[(n.nx i,u,S)]:=Dv;refine⟨fun j q=>?_,fun j q=>?_,fun j q=>?_,fun y V f m k=>?_,fun j q=>?_,by have:=h.nw;show n.now<=_;omega⟩
  .have d:=h.dg j q;rw[D,D,P,en];show DgI n.now _ _ _ _;by_cases e:j=i
   .subst e;rw[dN rfl,dN rfl,dN rfl,b_ aj];refine⟨?_,?_,by show n.nx j+1<=_;omega,?_,?_,?_⟩;.unfold Inc;rw[H];exact Qz.2 ⟨d.inc,List.pairwise_singleton _ _,fun a T b E=>by rw[sD.1 E];exact d.lt a T⟩
    .rw[H];intro c x;rcases iJ.1 x with x|x;.have:=d.lt c x;omega
     grind
    .intro f m;unfold Qw;rw[H];rcases iJ.1 (show f∈(n.x j).aQ++[Ee (n.nx j) u S]from m)with m|m;.exact⟨Az _ (d.q f m).1,(d.q f m).2⟩
     grind [List.mem_singleton,List.mem_append_right,Ee]
    .intro g F x;rcases iJ.1 F with F|F;.exact d.cm g F x
     grind
    .show((n.x j).aQ++[Ee (n.nx j) u S]).length<=_;rw[lM,lM];have:=d.ql;simp;omega
   .rw[b_ e,b_ e,b_ e];have J:1-j=i:=aj;rw[dN J];rw[J]at d;exact d.sg rfl rfl rfl rfl
  .rw[D];split;.rename_i e;rw[e]at q;exact h.tk i q
   .exact h.tk j q
  .rw[D];split;.rename_i e;rw[e]at q;exact h.ms i q
   .exact h.ms j q
  .have:=h.bg y V f m k;grind [Qw,List.mem_append_left]
  .have:=h.ln j q;grind
 .have s:=xZ z M N (n.x i).aQ v (n.x i).aV (n.x i).least z.q z.ql;exact⟨jq t i r {n.x i with qv:=v} s ⟨l.o,l.i,l.g,l.lm,l.mt,l.wy,l.ls,l.ky,l.wl,l.ll,l.nm,l.cm,l.tk,l.ib⟩ rfl rfl,h.set' aj i ⟨rfl,rfl,rfl,rfl,rfl⟩ rfl,E.dM i rfl rfl,rfl⟩
section
variable {oZ:Own} {w:Wq} {a:Ad} {n:Net} {vb:Wx}
theorem Vs(h:dW oZ w a n vb (ends n))(p:dU a.aZ n){l}(KI:l<1000000000)(D:iP l n)(m:qV n 1)(y:a.aZ<=400)(T:n.dJ.length<=1000000000)(Sd A B)(O:mW Sd)(M:mW A)(N:mW B)(S):bN 22 #[aK a.N 0,.agg #[iZ 5,iZ Sd,iZ A,iZ B,.string S]] w (.bool true) fun w'=>∃e b c,Jl a.aZ (n.jK b c) e/\iP (l+1) e/\(n.dJ=[]->e=n.jK b c)/\ny oZ w a e w':=by
 obtain⟨i,U⟩:∃i,dw Sd 2=i:=⟨_,rfl⟩;have Q:i<2:=by rw[<-U];exact dR Sd 2 aj
 have hk:=dR A 8 aj;have f:=(Dp h).alloc 37 (oC 5 Sd A B S);obtain⟨C,g⟩:=bU (w.alloc (.cells (oC 5 Sd A B S).toArray 37));rw[<-g]at f;have G:=f.cell (.head _) 0;have H:=f.cell (.head _) 1;have I:=f.cell (.head _) 2;obtain⟨c0,x1⟩:=f.xc i Q;simp only[oC,jh,gN]at G H I;obtain⟨c4,z4⟩:=f.qr3;have v:=m.1 0 aj;have x:=m.1 1 aj;have P:=m.2;have o:=f.now (n.now+1);obtain⟨w2,j⟩:=bU (C.setCell (aA a.N 4) (uZ ((n.now+1:Nat):Int)));rw[<-j]at o;obtain⟨d0,y0⟩:=o.xc 0 aj;have k:=aG (Vr o 0 aj (by grind) (p.loc 0 aj).ql);have t:Hid (∀q b,qN (loc oZ w.heap.size) w a [(w.heap.size,37,oC 5 Sd A B S)] (Net.dM {n with now:=n.now+1} 0 ((n.x 0).IG b)) q->bN 38 #[(aK (a.C 1) 0)] q (.tuple #[]) fun w'=>∃c,qN (loc oZ w.heap.size) w a [(w.heap.size,37,oC 5 Sd A B S)] (n.jK b c) w'):=
  fun q b J=>Vr J 1 aj (by show(n.x 1).aV+1<_;omega) (p.loc 1 aj).ql
 have E:Hid (∀r b c,qN (loc oZ w.heap.size) w a [(w.heap.size,37,oC 5 Sd A B S)] (n.jK b c) r->bN 39 #[aK a.N 0,.agg #[iZ 5,iZ Sd,iZ A,iZ B,.string S]] r (.bool true) fun w'=>Hid (∃e b c,Jl a.aZ (n.jK b c) e/\iP (l+1) e/\(n.dJ=[]->e=n.jK b c)/\ny oZ w a e w')):=fun r b c K=>by refine bK (PW K (PX p b c) (l+1) aj (D.aV b c) (II m b c) y T 5 Sd A B S M N) ?_;rintro w' ⟨e,V,W,X,Y⟩;exact⟨rfl,e,b,c,V,W,X,Y.lI⟩
 have xV:w.alloc (.cells #[iZ 5,iZ Sd,iZ A,iZ B,.string S] 37)=C:=g.symm;have Z:C.setCell (aA a.N 4) (uZ ((n.now:Int)+1))=w2:=j.symm;have R:(i:Int)<2:=aj;clear g j h p D m f o v x;go_enter sP,sO;go_wp2_with (first|(go_at_call 32;refine(jm _ _ Nc kX _).mono ?_;rintro u r ⟨rfl,z⟩;subst z)|(go_at_call 38;refine k.out.mono ?_;rintro u q ⟨rfl,b,d⟩;clear k;have F:=aG d;obtain⟨d1,y1⟩:=d.xc 1 aj;clear d)|(go_at_call 38;refine(t.out _ _ F.out).mono ?_;rintro u w5 ⟨rfl,c,d⟩;have s:=aG d;have s0:=d.cell (.head _) 0;have s1:=d.cell (.head _) 1;have s2:=d.cell (.head _) 2;have s3:=d.cell (.head _) 3;have s4:=d.cell (.head _) 4;simp only[oC,jh,gN]at s0 s1 s2 s3 s4;clear d)|(go_at_call 39;refine(E.out _ _ _ s.out).mono ?_;rintro u w6 ⟨rfl,d⟩));go_ret;exact⟨rfl,d.out⟩
def qdc(h:dW oZ w a n vb (ends n))(l:dU a.aZ n){e}(p:e<=1000000000)(k:iP e n)(j:qV n 0)(f:a.aZ<=400)(E:n.dJ.length<=1000000000)(K Sd A B)(P:¬K=1)(Q:¬K=2)(R:¬K=3)(T:¬K=4)(U:¬K=5)(V:¬K=6)(G:¬K=10)(z:mW Sd)(x:mW A)(y:mW B)(S):bN 22 #[aK a.N 0,.agg #[iZ K,iZ Sd,iZ A,iZ B,.string S]] w (.bool true) fun w'=>∃c,Jl a.aZ n c/\iP e c/\ny oZ w a c w':=by
 obtain⟨i,H⟩:∃i,dw Sd 2=i:=⟨_,rfl⟩;have C:i<2:=by rw[<-H];exact dR Sd 2 aj
 have O:=dR A 8 aj;have b:=(Dp h).alloc 37 (oC K Sd A B S);obtain⟨m,d⟩:=bU (w.alloc (.cells (oC K Sd A B S).toArray 37));rw[<-d]at b;have q:=b.cell (.head _) 0;have r:=b.cell (.head _) 1;have s:=b.cell (.head _) 2;have t:=b.cell (.head _) 3;have u:=b.cell (.head _) 4;obtain⟨N,Y⟩:=b.xc i C;simp only[oC,jh,gN]at q r s t u;have o:Hid (bN 39 #[aK a.N 0,.agg #[iZ K,iZ Sd,iZ A,iZ B,.string S]] m (.bool true) fun w'=>Hid (∃c,Jl a.aZ n c/\iP e c/\ny oZ w a c w')):=by refine bK (PW b l e p k j f E K Sd A B S x y) ?_;rintro w' ⟨c,I,J,_,M⟩;exact⟨rfl,c,I,J,M.lI⟩
 have Z:w.alloc (.cells #[iZ K,iZ Sd,iZ A,iZ B,.string S] 37)=m:=d.symm;have D:(i:Int)<2:=aj;clear d h l k j b;go_enter sP,sO;go_wp2_with (first|(go_at_call 32;refine(jm _ _ Nc kX _).mono ?_;rintro v W ⟨rfl,g⟩;subst g)|(go_at_call 39;refine o.out.mono ?_;rintro v X ⟨rfl,F⟩));go_ret;exact⟨rfl,F.out⟩
structure StO (aZ B Kg:Nat) (n n':Net):Prop where
 p:dU aZ n'
 g:iP Kg n'
 nb:qV n' B
 bl:n'.dJ.length<=n.dJ.length+24
 nx:∀i,i<2->(n'.x i).next<=(n.x i).next+24
 li:∀w t,NL w t n->NL w t n'
theorem Jl.sto{d c n b n'}(h:Jl d b n')(g:iP c n')(f:qV b B)(m:b.dJ=n.dJ)(l:∀i,i<2->(b.x i).next=(n.x i).next)(j:∀w t,NL w t n->NL w t b):StO d B c n n':=⟨h.p,g,h.nb f,(by have:=h.bl;grind),(fun i e=>by rw[(h.nx i e).1,l i e];omega),fun w t k=>h.li w t (j w t k)⟩
theorem yL(n:Net)(i){M}(h:M.next=(n.x i).next):∀j,j<2->((n.dM i M).x j).next<=(n.x j).next+24:=fun j _=>by grind [dD,gu]
def Vt{w t n}(h:NL w t n)(c d):NL w t (n.jK c d):=by
 have key:∀(m:Net) (i:Nat) (v:Wx),i<2->NL w t m->NL w t (m.dM i ((m.x i).IG v)):=fun m i v b h=>h.turn i b (Ca rfl) fun f e=>by have:=h.dq i b f (dY.1 e).1;show f.aJ<=(m.x i).aV+1+8;omega
 exact(key _ 1 d aj (key n 0 c aj h)).sub rfl fun y g=>g
def qdd{d n n'}(g:iP K n)(i)(c:i<2)(A B S)(o:DgO n d i A B S n'):(∀w t,NL w t n->NL w t n')/\∀j,j<2->(n'.x j).next<=(n.x j).next+24:=by
 rcases o with⟨_,_,v,k,rfl⟩|⟨_,v,rfl⟩
 .refine⟨fun _ _ h=>(h.turn (M:=(n.x i).dg (Ee (n.nx i) (n.now+dw A 9) S) v) i c (Ca rfl) fun f b=>?_).sub rfl fun y e=>e,yL n i (M:=(n.x i).dg (Ee (n.nx i) (n.now+dw A 9) S) v) rfl⟩;rcases iJ.1 (show f∈(n.x i).aQ++[Ee (n.nx i) (n.now+dw A 9) S]from b)with b|b;.exact h.dq i c f b
  .rw[sD.1 b];have:=dR A 9 aj;have:=g.tk i c;show n.now+dw A 9<=(n.x i).aV+8;omega
 .exact⟨fun _ _ h=>h.turn i c (Ca rfl) (h.dq i c),yL n i rfl⟩
theorem qic(h:dW oZ w a n vb (ends n))(c:dU a.aZ n){C}(X:C<1000000)(l:iP C n)(G)(g:qV n (G+1))(u:a.aZ<=400)(D:n.dJ.length<=1000000000)(K Sd A B)(d:mW Sd)(p:mW A)(x:mW B)(S)(H:S.size<=1000000):bN 22 #[aK a.N 0,.agg #[iZ K,iZ Sd,iZ A,iZ B,.string S]] w (.bool true) fun w'=>∃r,StO a.aZ G (C+1) n r/\ny oZ w a r w':=by
 have b:=dR Sd 2 aj;by_cases J:K=1;.subst J;refine bK (Vo h c Sd A B d p S H) ?_;rintro w' q;exact⟨rfl,_,⟨jq c _ b _ (NH (c.loc _ b) (c.two _ b) (c.mU _ b) _ _) (UR (c.bd _ b) _ _) rfl rfl,l.set' aj _ ⟨rfl,rfl,rfl,rfl,rfl⟩ rfl,g.less.dM _ rfl rfl,wJ _ _,yL n _ rfl,fun _ _ k=>k.turn _ b (qi0 _ _ _) (k.dq _ b)⟩,q⟩
 by_cases N:K=2;.subst N;refine bK (KJ h c Sd A B d p S) ?_;rintro w' q;exact⟨rfl,_,⟨jq c _ b _ (Fw (c.loc _ b) (c.two _ b) (c.mU _ b) _) (J_ (c.bd _ b) _) rfl rfl,l.set' aj _ ⟨rfl,rfl,rfl,rfl,rfl⟩ rfl,g.less.dM _ rfl rfl,wJ _ _,yL n _ rfl,fun _ _ k=>k.turn _ b (Ye _ _) (k.dq _ b)⟩,q⟩
 by_cases O:K=3;.subst O;refine bK (qd6 h c Sd A B d p x S) ?_;rintro w' q;exact⟨rfl,_,⟨jq c _ b _ (VQ (c.loc _ b) (c.two _ b) (c.mU _ b) _ _) (ZY (c.bd _ b) _ _) rfl rfl,l.set' aj _ ⟨rfl,rfl,rfl,rfl,rfl⟩ rfl,g.less.dM _ rfl rfl,wJ _ _,yL n _ rfl,fun _ _ k=>k.turn _ b (qcq _ _ _) (k.dq _ b)⟩,q⟩
 by_cases P:K=4;.subst P;refine bK (PV h A B d p x (l.dga c aj _ b) S H) ?_;rintro w' ⟨r,o,q⟩;obtain⟨T,U,V,Z⟩:=qmc c l aj _ b A B S g.less o;exact⟨rfl,r,⟨T,U,V,(by grind),(qdd l _ b A B S o).2,(qdd l _ b A B S o).1⟩,q⟩
 by_cases Q:K=5;.subst Q;refine bK (Vs h c aj l ⟨fun i b=>fT (g.1 i b),fT g.2⟩ u D Sd A B d p x S) ?_;rintro w' ⟨r,E,F,s,m,_,z⟩;exact⟨rfl,r,s.sto m (II g E F) rfl (fun i b=>by obtain⟨v,e⟩:=vw n E F i b;rw[e];rfl) (fun _ _ k=>Vt k E F),z⟩
 by_cases R:K=6
 .subst R;refine bK (qd5 h c l g.to u D Sd A B d p S) ?_;rintro w' ⟨M,W,s,m,z⟩;refine⟨rfl,_,⟨Tw c _ b m,(l.vO c _ b s m.w).mono aj,qcc g _ m (B_ s),?_,fun j Y=>?_,fun w t k=>k.vO c _ b (fT ((g.1 _ b).1)) s fun f I=>by rw[(xR (fun f I=>((c.loc _ b).q f I).kd) s).q];grind⟩,z⟩;rotate_left
  .by_cases e:j=dw Sd 2
   .rw[e];show((n.dM (dw Sd 2) M).x (dw Sd 2)).next<=_
    rw[dD];exact m.top
   .show((n.dM (dw Sd 2) M).x j).next<=_
    grind [gu]
  show(n.dJ++(vN W).map _).length<=_;rw[lM,mH];unfold vN;rw[mH];have:=m.next;have:=m.top;omega
 by_cases y:K=10;.subst y;refine bK (qi8 h c Sd A B d p x S) ?_;rintro w' q;exact⟨rfl,_,⟨jq c _ b _ (Fx (c.loc _ b) (c.loc _ aj) (c.two _ b) (c.mU _ b) _ _) (Mk (c.bd _ b) _ _) rfl rfl,l.set' aj _ ⟨rfl,rfl,rfl,rfl,rfl⟩ rfl,g.less.dM _ rfl rfl,wJ _ _,yL n _ rfl,fun _ _ k=>k.turn _ b (qjn _ _ _).2 (k.dq _ b)⟩,q⟩
 refine bK (qdc h c aj l g.to u D K Sd A B J N O P Q R y d p x S) ?_;rintro w' ⟨r,s,m,z⟩;exact⟨rfl,r,s.sto (m.mono aj) g.less rfl (fun _ _=>rfl) (fun _ _ k=>k),z⟩
end

end
section
def FlR:Nat->Net->Net->Prop
 |0,n,n'=>n'=n
 |i+1,n,n'=>∃b,FlR i n b/\∃M c,(b.x i).jA M c/\n'=b.vO i M c
def CmR(l:List (Nat×Nat×List Fr)):Nat->Net->Net->Prop
 |0,n,n'=>n'=n
 |j+1,n,n'=>∃b,CmR l j n b/\∃M,(b.x (l.getD j (0,0,[])).1).jJ (l.getD j (0,0,[])).2.1 (l.getD j (0,0,[])).2.2 M 0/\n'=(b.dM (l.getD j (0,0,[])).1 M).iW (l.getD j (0,0,[])).1
def rdN(n:Net)(i k:Nat):Net:=n.dM i ((n.x i).eZ k (((n.x i).bH k).rd (4096:Nat)).2)
def ReR:Nat->Net->Net->Prop
 |0,n,n'=>n'=n
 |c+1,n,n'=>∃b,ReR c n b/\RdK ((b.x (1-c / 8)).out (c % 8)) ((b.x (c / 8)).bH (c % 8)) 4096/\n'=rdN b (c / 8) (c % 8)
def RoR(n n':Net):Prop:=∃d e b,FlR 2 (n.jK d e) b/\∃c,CmR b.dJ b.dJ.length {b with dJ:=[]} c/\ReR 16 c n'
def Aj:Nat->Net->Net->Prop
 |0,n,n'=>n'=n
 |t+1,n,n'=>∃b,Aj t n b/\RoR b n'
def Gk(B:Nat)(n:Net):Prop:=∃b,b+B<=900000/\iP b n
structure PY (fH:Own) (w0:Wq) (a:Ad) (l:List (Nat×Nat×List Fr)) (vl:Wx) (B:Nat) (n:Net) (w:Wq):Prop where
 ex:∃o vb,dW o w a n vb (ends n)/\Kp TN fH o w0 w/\GT o 204 62 2 w vl l.length (lQ l)
 p:dU a.aZ {n with dJ:=l}
 g:Gk B {n with dJ:=l}
 nb:qV n B
 b0:n.dJ=[]
section
variable {fH:Own} {w0 w w':Wq} {a:Ad} {l:List (Nat×Nat×List Fr)} {vl:Wx} {n:Net} {B:Nat}
def PY.below(h:PY fH w0 a l vl B n w)(b:bJ w w'):PY fH w0 a l vl B n w':=by obtain⟨o,f,c,d,e⟩:=h.ex;exact⟨⟨o,f,c.below b,d.trans (Kp.below b),e.kp (Kp.below (T:=[]) b) aR⟩,h.p,h.g,h.nb,h.b0⟩
def PY.xc(h:PY fH w0 a l vl B n w)(i)(c:i<2):w.cell? (aA a.N 0)=some (dB a.xb 2 a.xc)/\w.cell? (aA a.xb i)=some (aK (a.C i) 0):=by obtain⟨o,f,b,d,e⟩:=h.ex;exact⟨b.cells.1,(b.xs i c).1⟩
theorem qde(h:GT oZ 204 62 2 w vl l.length (lQ l))(k)(o:k<l.length):∃g c,vl=(dB g l.length c)/\w.cell? (aA g (k*2))=some (iZ ((l.getD k (0,0,[])).1:Int))/\w.cell? (aA g (k*2+1))=some (sV (bT (l.getD k (0,0,[])).2.1 (l.getD k (0,0,[])).2.2)):=by
 rcases h with⟨_,e,_⟩|⟨g,cap,cs,ev,ho,hB,hc1,hc2,hc3,hc4,hc5,_⟩;.omega
 have f:=(yH l k).symm;have d:l.drop k=l.getD k (0,0,[])::l.drop (k+1):=by grind [List.drop_eq_getElem_cons,List.getElem?_eq_getElem]
 have b:∀j v,j<l.length*2->(lQ l)[j]?=some v->w.cell? (aA g j)=some v:=fun j v m p=>by rw[hB.cell];grind
 refine⟨g,cap,ev,b _ _ aj ?_,b _ _ aj ?_⟩
 .have:((lQ l).drop (k*2))[0]?=(lQ l)[k*2]?:=by grind
  rw[<-this,f,d];rfl
 .have:((lQ l).drop (k*2))[1]?=(lQ l)[k*2+1]?:=by grind
  rw[<-this,f,d];rfl
def PY.at(h:PY fH w0 a l vl B n w)(k)(d:k<l.length):∃g c,vl=(dB g l.length c)/\w.cell? (aA g (k*2))=some (iZ ((l.getD k (0,0,[])).1:Int))/\w.cell? (aA g (k*2+1))=some (sV (bT (l.getD k (0,0,[])).2.1 (l.getD k (0,0,[])).2.2)):=by obtain⟨o,j,e,f,b⟩:=h.ex;exact qde b k d
theorem PY.mem(h:PY fH w0 a l vl B n w)(k)(b:k<l.length):(l.getD k (0,0,[])).1<2/\O0 a.aZ (n.x (1-(l.getD k (0,0,[])).1)) (n.x (l.getD k (0,0,[])).1) (l.getD k (0,0,[])).2:=
 h.p.dJ (l.getD k (0,0,[])) (by grind)
structure DlM (fH:Own) (w0:Wq) (a:Ad) (l:List (Nat×Nat×List Fr)) (vl:Wx) (B:Nat) (n:Net) (i:Nat) (M:av) (w:Wq):Prop where
 ex:∃o vb,dW o w a (n.dM i M) vb (ends (n.dM i M))/\Kp TN fH o w0 w/\GT o 204 62 2 w vl l.length (lQ l)
 r:∃Kg,Kg+B<=900000/\RcO a.aZ Kg {n with dJ:=l} i (Net.dM {n with dJ:=l} i M)
 nb:qV n B
 b0:n.dJ=[]
theorem qid(h:PY fH w0 a l vl B n w)(g:a.aZ<=400)(k)(C:k<l.length):bN 29 #[.pointer (some ⟨a.C (l.getD k (0,0,[])).1,0,none⟩),sV (bT (l.getD k (0,0,[])).2.1 (l.getD k (0,0,[])).2.2)] w (.tuple #[iZ 0,(iZ (-1))]) fun w'=>∃M,(n.x (l.getD k (0,0,[])).1).jJ (l.getD k (0,0,[])).2.1 (l.getD k (0,0,[])).2.2 M 0/\DlM fH w0 a l vl B n (l.getD k (0,0,[])).1 M w':=by
 obtain⟨o,E,x,z,A⟩:=h.ex;obtain⟨c,d⟩:=h.mem k C;obtain⟨t,r,f⟩:=h.g;have b:l.getD k (0,0,[])∈l:=by grind
 generalize l.getD k (0,0,[])=y at *
 have m:dU a.aZ n:=by
  have:=h.p.sub [] (fun y d=>by cases d) n.now;have e:n={n with dJ:=[]}:=by have:=h.b0;cases n;simp_all
  grind
 refine bK (Vd x m h.nb.to y.1 c y.2 d g (f.ms y.1 c)) ?_;rintro w' ⟨u,p,D,v,q⟩;have s:=Iq p;exact⟨rfl,u,p,⟨D,E,v.yS fun j k _ _=>pF s j k,z.trans (q.mono (uK y.1 c)),A.kp q (fun e=>fT (fM.1 e))⟩,⟨t,r,Px aj ⟨xQ h.p,rfl,fun _ h=>h⟩ h.p f h.nb.to y.1 c y.2 b d (f.bg y b) p⟩,h.nb,h.b0⟩
section
variable {i:Nat} {M:av}
def DlM.at(h:DlM fH w0 a l vl B n i M w)(k)(d:k<l.length):∃g c,vl=(dB g l.length c)/\w.cell? (aA g (k*2))=some (iZ ((l.getD k (0,0,[])).1:Int))/\w.cell? (aA g (k*2+1))=some (sV (bT (l.getD k (0,0,[])).2.1 (l.getD k (0,0,[])).2.2)):=by obtain⟨o,j,e,f,b⟩:=h.ex;exact qde b k d
def DlM.xc(h:DlM fH w0 a l vl B n i M w)(j)(c:j<2):w.cell? (aA a.N 0)=some (dB a.xb 2 a.xc)/\w.cell? (aA a.xb j)=some (aK (a.C j) 0):=by obtain⟨o,f,b,d,e⟩:=h.ex;exact⟨b.cells.1,(b.xs j c).1⟩
theorem qie(h:DlM fH w0 a l vl B n i M w)(p:i<2):bN 30 #[aK a.N 0,iZ i] w (.bool true) fun w'=>PY fH w0 a l vl B ((n.dM i M).iW i) w':=by obtain⟨o,s,f,g,m⟩:=h.ex;obtain⟨d,c,r⟩:=h.r;refine bK (Vh f i p r.ms r.gl r.ok) ?_;rintro w' ⟨q,e,b⟩;exact⟨rfl,⟨q,s,e.yS (E':=ends ((n.dM i M).iW i)) fun j k _ _=>pF (TB ((n.dM i M).x i)) j k,g.trans (b.mono fun x t=>lu.2 (by grind)),m.kp b dZ⟩,r.o.p,⟨d,c,r.g⟩,r.o.nb (show qV {n with dJ:=l} B from h.nb),h.b0⟩
end
end

