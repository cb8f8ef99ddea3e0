import Derived.Test.YtphbledmopchnaaGreatDoorVca
import Derived.Test.YtphbledmopchnaaGreatDoorVcc
set_option maxHeartbeats 1000000
set_option maxRecDepth 100000
open Go renaming World->Wq,Value->WA,bodyPost_ret->Vl
set_option linter.all false
namespace Go.Proofs.YtphbledmopchnaaGreatDoor.Sd
open Go.RowKit Go.Lib Mm Tryz
variable {S bi bl bw s x:Nat}{l l':bJ}{oZ:Own}{vc:WA}{w w':Wq}
section
def yN{α:Type}(x:Option α)(f:α->Fr):∃(g:Fr) (b:Bool),kF (x.map f)=.tuple #[eF g nZ,.bool b]/\b=x.isSome/\∀y,x=some y->g=f y:=by
 cases x with
 |none=>exact⟨iL,false,rfl,rfl,fun y h=>by cases h⟩
 |some a=>exact⟨f a,true,rfl,rfl,fun y h=>by cases h;rfl⟩
def Hy{α:Type}(d:α):∀(l:List α) (k:Nat),md l k (fun _=>l.getD k d)=l
 |[],_=>rfl
 |_::_,0=>rfl
 |a::t,k+1=>congrArg (a::·) (Hy d t k)
def FN(M:av)(k:Nat):M.dD k (M.out k)=M:=by unfold av.dD av.out;rw[Hy]
def Si(M:av)(k:Nat):M.fT k (M.cK k)=M:=by unfold av.fT av.cK;rw[Hy]
def vI{W y a:Wq}{ab:Nat}{M:av}{c:bZ}(k:AnM oZ s w ab c)(t:0<s)(l:bE w W)(j:w.heap.size<W.heap.size){α:Type}(r:Option (Fr×α))(upd:α->av)(g:Fr)(b:Bool)(m:b=r.isSome)(o:∀y,r=some y->g=y.1)(p:∀y,r=some y->y.1.ranges=[])(q:iE s (loc oZ w.heap.size) W S bw bl bi ((r.map fun x=>upd x.2).getD M) y)(u:l6 w.heap.size y a)(e:Ending)(n:e=.returned (.tuple #[eF g nZ,.bool b])):jE oZ s w S bw bl bi ab M c (r.map fun x=>(x.1,upd x.2,c)) e a:=by
 obtain⟨f,K,i⟩:=Z7 k t l j q u;refine⟨(g,none,0,0),b,f,n,by rw[m];cases r<;>rfl,K,?_,?_⟩
 ·cases r with
  |none=>exact i
  |some x=>exact i
 ·intro y d;cases r with
  |none=>cases d
  |some x=>simp only[Option.map_some,qng]at d;subst d;have h:=o x rfl;exact⟨h,R_.none f s a g (by rw[h];exact p x rfl)⟩
section
variable {oZ:Own} {s:Nat} {w0:Wq} {S bw bl bi ab:Nat}
def Sj(k:Nat)(I:k<8)(P Q R:Nat)(V:Bx oZ s w0 P 282 (aJ S (4+27*k)))(Y:Bx oZ s w0 Q 3 (iZ k))(Z:Bx oZ s w0 R 128 (aJ S 0)):tK oZ s w0 S bw bl bi ab 266 #[] #[aJ P 0,aJ Q 0,aJ R 0] (fun M _=>(M.out k).bD M.aR) fun M m a=>((M.out k).next k a M.aR).map fun x=>(x.1,M.dD k x.2,m):=by
 intro A w M m a K hE n J r;obtain⟨l,vc,B,hA⟩:=hE;obtain⟨W,c⟩:=bT (w.alloc (.cells lY.toArray 65));have d:bE w W:=by rw[c];exact(qlw _ w).alloc (qj _) _
 have E:aL W w.heap.size 65 lY:=by rw[c];exact aL.new w 65 _
 have U:w.heap.size<W.heap.size:=by rw[c];simp
 have L:=B.loc d;have x1:=((V.kp K).below d).cell;have x2:=((Y.kp K).below d).cell;have x3:=((Z.kp K).below d).cell;have Wp:=n.dB B.lo k I;have F:(M.out k).dB+M.aR<18446744073709551616:=by
  have:=n.lm;unfold av.aR;unfold dH at *
  omega
 have i:∀q,bE W (W.drewN q):=fun q=>⟨rfl,rfl,rfl,qj _,fun _ _=>rfl⟩;have HF:Hid (∀q,qH 265 #[aJ S 0] (W.drewN q) (uZ M.aR) fun j=>j=W.drewN q):=fun q=>FI (W.drewN q) (L.below (i q)) n.sp n.lm;obtain⟨g,b,H,D,G⟩:=yN ((M.out k).next k a M.aR) Prod.fst;have O:Hid (∀q,qH 267 #[(aJ S (4+27*k)),iZ k,iZ a,uZ M.aR] (W.drewN q) (.tuple #[eF g nZ,.bool b]) fun j=>aL j w.heap.size 65 lY/\Hid (iE s (loc A w.heap.size) W S bw bl bi ((((M.out k).next k a M.aR).map fun x=>M.dD k x.2).getD M) j)):=fun q=>by
  have N:=L.below (i q);refine bH (ZV s (s+1+5*k) (4+27*k) (M.out k) k I a M.aR (W.drewN q) N.bY N.ow N.s0 aj (N.out k I) (n.ob k) F (n.oa k) J r) ?_;rintro j hO;have u:jU s (s+1+5*k) (loc A w.heap.size) S (4+27*k) l W _ j:=jU.after (i q) hO;refine⟨by rw[H],?_,?_⟩;·obtain⟨gy,l2,K2,_⟩:=u;exact bU E K2 (by rw[iY _ _ _ (qj _)];have:=B.s0;simp;omega)
  ·cases hX:(M.out k).next k a M.aR with
   |none=>rw[hX]at u;have:=L.dD k I _ u;have e0:M.dD k (M.out k)=M:=FN M k;simp only[Option.map_none,Option.getD_none]at this;rw[e0]at this;exact this
   |some x=>rw[hX]at u;exact L.dD k I _ u
 have T:Hid (∀y,(M.out k).next k a M.aR=some y->y.1.ranges=[]):=fun y t=>by
  rw[PW]at t;split at t;·cases t
  ·rename_i f hf;split at t;·cases t
   ·have:=qmn t;rw[<-this,(zQ hf).2];rfl
 have HE:Hid (∀y z,iE s (loc A w.heap.size) W S bw bl bi ((((M.out k).next k a M.aR).map fun x=>M.dD k x.2).getD M) y->l6 w.heap.size y z->jE A s w S bw bl bi ab M m (((M.out k).next k a M.aR).map fun x=>(x.1,M.dD k x.2,m)) (.returned (.tuple #[eF g nZ,.bool b])) z):=fun y z q ht=>vI hA B.s0 d U _ (fun o=>M.dD k o) g b D G T.out q ht _ rfl;show Calls prog 266 #[iZ a,aJ P 0,aJ Q 0,aJ R 0] w fun e j=>jE A s w S bw bl bi ab M m (((M.out k).next k a M.aR).map fun x=>(x.1,M.dD k x.2,m)) e j;generalize (((M.out k).next k a M.aR).map fun x=>(x.1,M.dD k x.2,m))=X at *
 generalize ((((M.out k).next k a M.aR).map fun x=>M.dD k x.2).getD M)=M' at *
 generalize M.aR=C at *
 clear H D G T F Wp L B hA n J V Y Z K i E d U;unfold eF at O;unfold lY at c;go_enter func266,ntmps266;go_wp2_with fail;rw[<-c];clear c;go_region_with (first|(go_at_call 265;refine bH (HF.out _) ?_;rintro y rfl)|(go_at_call 267;refine bH (O.out _) ?_;rintro y ⟨p,HP⟩;obtain⟨y0,y1,y2,y3,y4,y5,y6,y7,y8,y9,yf⟩:=bC p;have ug:=aF p;clear p));all_goals
  clear O;go_wp2_with fail;go_simp;rw[gq];have jX:=fK ug.out (iZ g.aD) (iZ g.aG) (uZ g.aC) (uZ g.aN) (uZ g.aT) (.bool g.bG) (uZ g.id) (uZ g.aH) (.string g.data) nZ;have nX:=fM y w.heap.size (iZ g.aD) (iZ g.aG) (uZ g.aC) (uZ g.aN) (uZ g.aT) (.bool g.bG) (uZ g.id) (uZ g.aH) (.string g.data) nZ;generalize jI y w.heap.size (iZ g.aD) (iZ g.aG) (uZ g.aC) (uZ g.aN) (uZ g.aT) (.bool g.bG) (uZ g.id) (uZ g.aH) (.string g.data) nZ=z at *
  obtain⟨a0,a1,a2,a3,a4,a5,a6,a7,a8,a9,_⟩:=bC jX;exact Vl (v:=.tuple #[eF g nZ,.bool b]) (by simp[results,results266,go_sem,a0,a1,a2,a3,a4,a5,a6,a7,a8,a9,eF]) rfl (HE.out y z HP.out nX)
end

end
section
def fH.gr{M:av}{b:WA}(h:fH oZ s w S l M bw bl bi b)(g:Gn)(q:f_ w w' S l l' 221 4)(a:wU l' 221 g):iE s oZ w S bw bl bi {M with gr:=g} w':=by have c:=h.cells;have e:∀j,j<221\/225<=j->l'[j]?=l[j]?:=fun j d=>q.dW.2 j aj;refine h.cell 221 4 aj q ⟨q.dW.1.trans c.len,(e _ aj).trans c.c0,(e _ aj).trans c.c1,(e _ aj).trans c.c2,(e _ aj).trans c.c3,(e _ aj).trans c.qU,a,(e _ aj).trans c.sP,(e _ aj).trans c.sQ,(e _ aj).trans c.pQ,(e _ aj).trans c.nH,(e _ aj).trans c.n_,(e _ aj).trans c.oM,(e _ aj).trans c.rV,(e _ aj).trans c.nJ,(e _ aj).trans c.jd,(e _ aj).trans c.qA,(e _ aj).trans c.pR,(e _ aj).trans c.qV,(e _ aj).trans c.rW,(e _ aj).trans c.oO,(e _ aj).trans c.tY⟩ rfl rfl rfl rfl rfl rfl rfl
def fH.igr{M:av}{m:WA}(h:fH oZ s w S l M bw bl bi m)(k:Nat)(b:k<8)(g:Gn)(q:f_ w w' S l l' (18+27*k) 4)(f:wU l' (18+27*k) g):iE s oZ w S bw bl bi (M.fT k {M.cK k with gr:=g}) w':=by refine h.fT k b _ ⟨oZ,l',q.kp h.ow aM,q.bY,q.dW.mono (qj _) aj,?_⟩;obtain⟨n,i,a,c,d⟩:=h.cK k b;have K:Kp [s] oZ oZ w w':=q.kp h.ow aM;have e:∀j,18+27*k+4<=j->l'[j]?=l[j]?:=fun j o=>q.dW.2 j aj;exact⟨n,i,⟨f,(e _ aj).trans a.c4,(e _ aj).trans a.c5,(e _ aj).trans a.c6,(e _ aj).trans a.c7,(e _ aj).trans a.c8,(e _ aj).trans a.c9,(e _ aj).trans a.uh,(e _ aj).trans a.w9,(e _ aj).trans a.xO⟩,c.kp K rR,d.kp K rR⟩
def Z8(M:av):M.aZ<=dH:=by
 unfold av.aZ;generalize M.ins=L;cases b:L.reverse with
 |nil=>rw[List.reverse_eq_nil_iff.1 b];exact qm2 _
 |cons a t=>
  have:L=t.reverse++[a]:=by rw[<-List.reverse_reverse L,b,List.reverse_cons]
  rw[this,qnt];exact qo9 _ _
section
variable {oZ:Own} {s:Nat} {w0:Wq} {S bw bl bi ab:Nat}
def Hz(F:Nat)(L:Bx oZ s w0 F 128 (aJ S 0))(iw:av->bZ->Bool):Az oZ s w0 S bw bl bi ab 253 #[] #[aJ F 0] iw fun M j a=>(M.gr.next 5 0 M.aZ a).map fun x=>(x.1,{M with gr:=x.2},j):=by
 intro A w M j a K hE G _;obtain⟨l,vc,B,N⟩:=hE;obtain⟨W,c⟩:=bT (w.alloc (.cells lY.toArray 65));have d:bE w W:=by rw[c];exact(qlw _ w).alloc (qj _) _
 have r:aL W w.heap.size 65 lY:=by rw[c];exact aL.new w 65 _
 have J:w.heap.size<W.heap.size:=by rw[c];simp
 have z:=B.loc d;have f:∀q,bE W (W.drewN q):=fun q=>⟨rfl,rfl,rfl,qj _,fun _ _=>rfl⟩;have x1:=((L.kp K).below d).cell;have T:Hid (∀q,qH 252 #[aJ S 0] (W.drewN q) (uZ M.aZ) fun i=>i=W.drewN q):=fun q=>PN (W.drewN q) (z.below (f q)) (fun k=>(G.cK k).aZ);obtain⟨g,b,u,p,t⟩:=yN (M.gr.next 5 0 M.aZ a) Prod.fst;have E:Hid (∀q,qH 254 #[aJ S 221,eF (lW 5 0 0) nZ,uZ M.aZ,iZ a] (W.drewN q) (.tuple #[eF g nZ,.bool b]) fun i=>aL i w.heap.size 65 lY/\Hid (iE s (loc A w.heap.size) W S bw bl bi (((M.gr.next 5 0 M.aZ a).map fun x=>{M with gr:=x.2}).getD M) i)):=fun q=>by
  have Q:=z.below (f q);refine bH (PD 5 (.inl rfl) 0 aj M.aZ a (W.drewN q) Q.bY Q.cells.gr G.ga (Z8 M)) ?_;rintro i ⟨l',O,D⟩;refine⟨by rw[u],O.other (w:=W.drewN q) r (bR B.bY.lt),?_⟩;have I:f_ W i S l l' 221 4:=f_.after (W:=W.drewN q) (f q) O;cases P:M.gr.next 5 0 M.aZ a with
  |none=>rw[P]at D;exact z.gr _ I D
  |some x=>rw[P]at D;exact z.gr _ I D
 have H:Hid (∀y,M.gr.next 5 0 M.aZ a=some y->y.1.ranges=[]):=fun y hy=>by rw[(rM (g':=y.2) hy).1];rfl
 have R:Hid (∀y n,iE s (loc A w.heap.size) W S bw bl bi (((M.gr.next 5 0 M.aZ a).map fun x=>{M with gr:=x.2}).getD M) y->l6 w.heap.size y n->jE A s w S bw bl bi ab M j ((M.gr.next 5 0 M.aZ a).map fun x=>(x.1,{M with gr:=x.2},j)) (.returned (.tuple #[eF g nZ,.bool b])) n):=fun y n q ht=>vI N B.s0 d J _ (fun o=>{M with gr:=o}) g b p t H.out q ht _ rfl;show Calls prog 253 #[iZ a,aJ F 0] w fun e i=>jE A s w S bw bl bi ab M j ((M.gr.next 5 0 M.aZ a).map fun x=>(x.1,{M with gr:=x.2},j)) e i;generalize ((M.gr.next 5 0 M.aZ a).map fun x=>(x.1,({M with gr:=x.2}:av),j))=X at *
 generalize (((M.gr.next 5 0 M.aZ a).map fun x=>({M with gr:=x.2}:av)).getD M)=M' at *
 generalize M.aZ=C at *
 clear u p t H z B N G L K f r d J;unfold eF lW at E;unfold lY at c;go_enter func253,ntmps253;go_wp2_with fail;rw[<-c];clear c;go_region_with (first|(go_at_call 252;refine bH (T.out _) ?_;rintro y rfl)|(go_at_call 254;refine bH (E.out _) ?_;rintro y ⟨m,U⟩;obtain⟨y0,y1,y2,y3,y4,y5,y6,y7,y8,y9,yf⟩:=bC m;have ug:=aF m;clear m));all_goals
  clear E;go_wp2_with fail;go_simp;rw[gq];have jX:=fK ug.out (iZ g.aD) (iZ g.aG) (uZ g.aC) (uZ g.aN) (uZ g.aT) (.bool g.bG) (uZ g.id) (uZ g.aH) (.string g.data) nZ;have nX:=fM y w.heap.size (iZ g.aD) (iZ g.aG) (uZ g.aC) (uZ g.aN) (uZ g.aT) (.bool g.bG) (uZ g.id) (uZ g.aH) (.string g.data) nZ;generalize jI y w.heap.size (iZ g.aD) (iZ g.aG) (uZ g.aC) (uZ g.aN) (uZ g.aT) (.bool g.bG) (uZ g.id) (uZ g.aH) (.string g.data) nZ=n at *
  obtain⟨V,Y,Z,a3,a4,a5,a6,a7,a8,a9,_⟩:=bC jX;exact Vl (v:=.tuple #[eF g nZ,.bool b]) (by simp[results,results253,go_sem,V,Y,Z,a3,a4,a5,a6,a7,a8,a9,eF]) rfl (R.out y n U.out nX)
def Dk(k:Nat)(C:k<8)(E F:Nat)(L:Bx oZ s w0 E 333 (aJ S (18+27*k)))(N:Bx oZ s w0 F 3 (iZ k))(iw:av->bZ->Bool):Az oZ s w0 S bw bl bi ab 256 #[] #[aJ E 0,aJ F 0] iw fun M f a=>((M.cK k).gr.next 6 k (M.cK k).aZ a).map fun x=>(x.1,M.fT k {M.cK k with gr:=x.2},f):=by
 intro z w M f a K hE P _;obtain⟨l,vc,A,O⟩:=hE;obtain⟨W,c⟩:=bT (w.alloc (.cells lY.toArray 65));have d:bE w W:=by rw[c];exact(qlw _ w).alloc (qj _) _
 have n:aL W w.heap.size 65 lY:=by rw[c];exact aL.new w 65 _
 have J:w.heap.size<W.heap.size:=by rw[c];simp
 have t:=A.loc d;have H:∀q,bE W (W.drewN q):=fun q=>⟨rfl,rfl,rfl,qj _,fun _ _=>rfl⟩;have x1:=((L.kp K).below d).cell;have x2:=((N.kp K).below d).cell;obtain⟨g,b,r,m,p⟩:=yN ((M.cK k).gr.next 6 k (M.cK k).aZ a) Prod.fst;have D:Hid (qH 257 #[(aJ S (18+27*k)),iZ k,iZ a] W (.tuple #[eF g nZ,.bool b]) fun u=>aL u w.heap.size 65 lY/\Hid (iE s (loc z w.heap.size) W S bw bl bi ((((M.cK k).gr.next 6 k (M.cK k).aZ a).map fun x=>M.fT k {M.cK k with gr:=x.2}).getD M) u)):=by
  obtain⟨vh,jR,hL,_⟩:=t.cK k C;refine bH (G8 (18+27*k) (M.cK k) k C a t.bY hL (P.cK k)) ?_;rintro u ⟨l',G,B⟩;refine⟨by rw[r],G.other n (bR A.bY.lt),?_⟩;cases Q:(M.cK k).gr.next 6 k (M.cK k).aZ a with
  |none=>rw[Q]at B;have:=t.igr k C _ G B;rw[show({M.cK k with gr:=((Option.map Prod.snd (none:Option (Fr×Gn))).getD (M.cK k).gr)}:eU)=M.cK k from rfl,Si]at this;exact this
  |some x=>rw[Q]at B;exact t.igr k C _ G B
 have I:Hid (∀y,(M.cK k).gr.next 6 k (M.cK k).aZ a=some y->y.1.ranges=[]):=fun y hy=>by rw[(rM (g':=y.2) hy).1];rfl
 have R:Hid (∀y j,iE s (loc z w.heap.size) W S bw bl bi ((((M.cK k).gr.next 6 k (M.cK k).aZ a).map fun x=>M.fT k {M.cK k with gr:=x.2}).getD M) y->l6 w.heap.size y j->jE z s w S bw bl bi ab M f (((M.cK k).gr.next 6 k (M.cK k).aZ a).map fun x=>(x.1,M.fT k {M.cK k with gr:=x.2},f)) (.returned (.tuple #[eF g nZ,.bool b])) j):=fun y j q ht=>vI O A.s0 d J _ (fun o=>M.fT k {M.cK k with gr:=o}) g b m p I.out q ht _ rfl;show Calls prog 256 #[iZ a,aJ E 0,aJ F 0] w fun e u=>jE z s w S bw bl bi ab M f (((M.cK k).gr.next 6 k (M.cK k).aZ a).map fun x=>(x.1,M.fT k {M.cK k with gr:=x.2},f)) e u;generalize (((M.cK k).gr.next 6 k (M.cK k).aZ a).map fun x=>(x.1,M.fT k ({M.cK k with gr:=x.2}:eU),f))=X at *
 generalize ((((M.cK k).gr.next 6 k (M.cK k).aZ a).map fun x=>M.fT k ({M.cK k with gr:=x.2}:eU)).getD M)=M' at *
 clear r m p I t A O P L N K H n d J;unfold eF at D;unfold lY at c;subst c;go_enter func256,ntmps256;go_wp2_with (first|(go_at_call 257;refine bH D.out ?_;rintro y ⟨i,T⟩;obtain⟨y0,y1,y2,y3,y4,y5,y6,y7,y8,y9,yf⟩:=bC i;have ug:=aF i;clear i)|go_in);all_goals
  clear D;rw[gq];have jX:=fK ug.out (iZ g.aD) (iZ g.aG) (uZ g.aC) (uZ g.aN) (uZ g.aT) (.bool g.bG) (uZ g.id) (uZ g.aH) (.string g.data) nZ;have nX:=fM y w.heap.size (iZ g.aD) (iZ g.aG) (uZ g.aC) (uZ g.aN) (uZ g.aT) (.bool g.bG) (uZ g.id) (uZ g.aH) (.string g.data) nZ;generalize jI y w.heap.size (iZ g.aD) (iZ g.aG) (uZ g.aC) (uZ g.aN) (uZ g.aT) (.bool g.bG) (uZ g.id) (uZ g.aH) (.string g.data) nZ=j at *
  obtain⟨U,V,Y,Z,a4,a5,a6,a7,a8,a9,_⟩:=bC jX;exact Vl (v:=.tuple #[eF g nZ,.bool b]) (by simp[results,results256,go_sem,U,V,Y,Z,a4,a5,a6,a7,a8,a9,eF]) rfl (R.out y j T.out nX)
end

end
def zX(b:Nat)(w:Wq):qH 197 #[.map (some b)] w (.func (.func 243) #[] #[aJ w.heap.size 0]) fun d=>d=w.alloc (.cells #[.map (some b)] 203):=by have c:∀(a:Fn) (first cap:Array WA) (w:Wq),(Instr.makeFunc a first cap).run prog w=.ok (.func a first cap) w:=fun _ _ _ _=>rfl;go_enter func197,ntmps197;go_wp2;go_ret;exact⟨rfl,rfl⟩
def Sn(S o:Nat)(w:Wq):(method 518 282 (aJ S o) "Lose").run prog w=.ok (392,(aJ S o)) w:=bO
def Sq(S o:Nat)(w:Wq):(method 518 282 (aJ S o) "Away").run prog w=.ok (319,(aJ S o)) w:=bO
def Sr(S o:Nat)(w:Wq):(method 518 282 (aJ S o) "Came").run prog w=.ok (391,(aJ S o)) w:=bO
def Sv(S o:Nat)(w:Wq):(method 518 335 (aJ S o) "Lose").run prog w=.ok (395,(aJ S o)) w:=bO
def Sw(S o:Nat)(w:Wq):(method 518 335 (aJ S o) "Away").run prog w=.ok (342,(aJ S o)) w:=bO
def Sy(S o:Nat)(w:Wq):(method 518 335 (aJ S o) "Came").run prog w=.ok (394,(aJ S o)) w:=bO
def Sz(S o:Nat)(w:Wq):(method 518 336 (aJ S o) "Lose").run prog w=.ok (397,(aJ S o)) w:=bO
def SC(S o:Nat)(w:Wq):(method 518 336 (aJ S o) "Away").run prog w=.ok (311,(aJ S o)) w:=bO
def SE(S o:Nat)(w:Wq):(method 518 336 (aJ S o) "Came").run prog w=.ok (396,(aJ S o)) w:=bO
section
def fH.ont{M:av}(h:fH oZ s w S l M bw bl bi vc)(k:Nat)(b:k<8)(g:Nt)(q:f_ w w' S l l' (6+27*k) 4)(i:wV l' (6+27*k) g):iE s oZ w S bw bl bi (M.dD k {M.out k with nt:=g}) w':=by refine h.dD k b _ ⟨oZ,l',q.kp h.ow aM,q.bY,q.dW.mono aj aj,?_⟩;obtain⟨o,n,m,a,c,d,f⟩:=h.out k b;have K:Kp [s] oZ oZ w w':=q.kp h.ow aM;have e:∀j,j<6+27*k\/6+27*k+4<=j->l'[j]?=l[j]?:=fun j p=>q.dW.2 j aj;exact⟨o,n,m,⟨(e _ aj).trans a.c0,(e _ aj).trans a.c1,by rw[show 4+27*k+2=6+27*k by omega];exact i,(e _ aj).trans a.c6,(e _ aj).trans a.c7,(e _ aj).trans a.c8,(e _ aj).trans a.c9,(e _ aj).trans a.uh,(e _ aj).trans a.w9,(e _ aj).trans a.xO,(e _ aj).trans a.c13⟩,c.kp K rR,d.kp K rR,f.kp K rR⟩
section
variable {oZ:Own} {s:Nat} {S:Nat} {l:bJ} {M:av} {bw bl bi:Nat} {vc:WA}
def fH.ntL(h:fH oZ s w S l M bw bl bi vc)(k:Nat)(b:k<8):wV l (6+27*k) (M.out k).nt:=by obtain⟨e,d,c,a,_⟩:=h.out k b;have:=a.nt;rwa[show 4+27*k+2=6+27*k by omega]at this
def fH.inL(h:fH oZ s w S l M bw bl bi vc)(k:Nat)(b:k<8):wU l (18+27*k) (M.cK k).gr:=by obtain⟨d,c,a,_⟩:=h.cK k b;exact a.gr
def Wu(h:fH oZ s w S l M bw bl bi vc):qH 397 #[aJ S 221] w (.tuple #[]) fun c=>iE s oZ w S bw bl bi {M with gr:=M.gr.kV} c:=
 (Pt 221 M.gr h.bY h.cells.gr).mono fun _ _ ⟨a,_,q,b⟩=>⟨a,h.gr _ q b⟩
def Wv(h:fH oZ s w S l M bw bl bi vc)(k:Nat)(a:k<8):qH 397 #[(aJ S (18+27*k))] w (.tuple #[]) fun d=>iE s oZ w S bw bl bi (M.fT k (jC (M.cK k))) d:=
 (Pt (18+27*k) (M.cK k).gr h.bY (h.inL k a)).mono fun _ _ ⟨b,_,q,c⟩=>⟨b,h.igr k a _ q c⟩
def Ww(h:fH oZ s w S l M bw bl bi vc)(k:Nat)(a:k<8):qH 395 #[(aJ S (6+27*k))] w (.tuple #[]) fun d=>iE s oZ w S bw bl bi (M.dD k {M.out k with nt:=(M.out k).nt.kV}) d:=
 (ZB (6+27*k) (M.out k).nt h.bY (h.ntL k a)).mono fun _ _ ⟨b,_,q,c⟩=>⟨b,h.ont k a _ q c⟩
def Wx(h:fH oZ s w S l M bw bl bi vc)(k:Nat)(a:k<8)(b:(M.out k).aP.rs.length<=1000000):qH 392 #[(aJ S (4+27*k))] w (.tuple #[]) fun d=>iE s oZ w S bw bl bi (M.dD k (M.out k).kV) d:=
 (ZL s (s+1+5*k) (4+27*k) (M.out k) h.bY h.ow aj (h.out k a) b).mono fun _ _ ⟨c,q⟩=>⟨c,h.dD k a _ q⟩
end

end
section
def UJ(a:Int):Nat:=if a=4 then 282 else if a=3 then 335 else 336
def Ez(S k:Nat)(a:Int):WA:=(aJ S (if a=4 then 4+27*k else if a=3 then 6+27*k else if a=6 then 18+27*k else 221))
def yZ(a:Int):Nat:=if a=4 then 319 else if a=3 then 342 else 311
def iD(a:Int):Nat:=if a=4 then 391 else if a=3 then 394 else 396
def Oi(S k:Nat)(a:Int):Ws S k a=.iface (UJ a) (Ez S k a):=by
 unfold Ws UJ Ez;by_cases c:a=4;·simp[c]
 ·by_cases b:a=3;·simp[b]
  ·by_cases d:a=6;·simp[d]
   ·simp[c,b,d]
def qak(S k:Nat)(a:Int)(w:Wq):(method 518 (UJ a) (Ez S k a) "Away").run prog w=.ok (yZ a,Ez S k a) w:=by
 unfold UJ Ez yZ;by_cases c:a=4;·simp only[c,if_true];exact Sq _ _ _
 ·by_cases b:a=3;·simp only[b,if_true];exact Sw _ _ _
  ·simp only[c,b,if_false];exact SC _ _ _
def Qm(S k:Nat)(a:Int)(w:Wq):(method 518 (UJ a) (Ez S k a) "Came").run prog w=.ok (iD a,Ez S k a) w:=by
 unfold UJ Ez iD;by_cases c:a=4;·simp only[c,if_true];exact Sr _ _ _
 ·by_cases b:a=3;·simp only[b,if_true];exact Sy _ _ _
  ·simp only[c,b,if_false];exact SE _ _ _
section
variable {oZ:Own} {s:Nat} {S:Nat} {l:bJ} {M:av} {bw bl bi:Nat} {vc:WA}
end

end
section
def T1(s:Nat):List Nat:=List.range' s 41
def xI:x∈T1 s↔s<=x/\x<s+41:=by
 unfold T1;rw[qot];constructor;·rintro⟨i,h,rfl⟩;omega
 ·rintro⟨a,b⟩;exact⟨x-s,aj,aj⟩
def Qo(h:x∈T1 s):x∈T0 s:=fC.2 (bR (xI.1 h))
def Jh(s:Nat)(oZ:Own)(w:Wq)(S:Nat)(bw bl bi:Nat)(M':av)(w':Wq):Prop:=∃a c b,fH a s w' S c M' bw bl bi b/\Kp (T1 s) oZ a w w'
def fH.Xu{M:av}(h:fH oZ s w S l M bw bl bi vc)(k:Nat)(p:k<8)(m:Ot)(q:jU s (s+1+5*k) oZ S (4+27*k) l w m w'):Jh s oZ w S bw bl bi (M.dD k m) w':=by
 obtain⟨i,t,K,n,g,o⟩:=q;have a:∀x,x∈[s,s+1+5*k,s+1+5*k+1,s+1+5*k+1+1]->x=s\/(s+1+5*k<=x/\x<=s+3+5*k):=fun x f=>by simp only[qme,qoc,or_false]at f;omega
 have r:∀j,(M.dD k m).out j=if j=k then m else M.out j:=fun j=>by
  rw[kD,h.lo];by_cases b:j=k;·rw[bM ⟨b,p⟩,bM b]
  ·rw[aV (fun x=>b x.1),aV b]
 refine⟨i,t,vc,⟨by rw[K.ext S h.bY.lt,h.ow],h.s0,n,?_,fun j b=>?_,fun j b=>?_,h.row.kp K (fun e=>bR (a _ e)),h.Ay.kp K (fun e=>bR (a _ e)) (fun e=>bR (a _ e)),h.b_.kp K (fun e=>bR (a _ e)) (fun e=>bR (a _ e)),(h.qu.kp K (fun e=>bR (a _ e)) (fun e=>bR (a _ e)) (fun e=>bR (a _ e))).eq rfl,(jB _ _ _).trans h.lo,h.li⟩,K.mono fun x f=>xI.2 (bR (a x f))⟩;·have c:=h.cells.dW g aj aj;exact⟨c.len,c.c0,c.c1,c.c2,c.c3,c.qU,c.gr,c.sP,c.sQ,c.pQ,c.nH,c.n_,c.oM,c.rV,c.nJ,c.jd,c.qA,c.pR,c.qV,c.rW,c.oO,c.tY⟩
 ·rw[r];by_cases d:j=k;·subst d;rw[bM rfl];exact o
  ·rw[aV d];exact(h.out j b).kp K (fun e=>bR (a _ e)) (fun e=>bR (a _ e)) (fun e=>bR (a _ e)) g aj
 ·exact(h.cK j b).kp K (fun e=>bR (a _ e)) (fun e=>bR (a _ e)) g aj
def fH.qhc{M:av}(h:fH oZ s w S l M bw bl bi vc)(k:Nat)(p:k<8)(m:eU)(q:FB s (s+4+5*k) oZ S (18+27*k) l w m w'):Jh s oZ w S bw bl bi (M.fT k m) w':=by
 obtain⟨i,t,K,n,g,o⟩:=q;have a:∀x,x∈[s,s+4+5*k,s+4+5*k+1]->x=s\/(s+4+5*k<=x/\x<=s+5+5*k):=fun x f=>by simp only[qme,qoc,or_false]at f;omega
 have r:∀j,(M.fT k m).cK j=if j=k then m else M.cK j:=fun j=>by
  rw[jT,h.li];by_cases b:j=k;·rw[bM ⟨b,p⟩,bM b]
  ·rw[aV (fun x=>b x.1),aV b]
 refine⟨i,t,vc,⟨by rw[K.ext S h.bY.lt,h.ow],h.s0,n,?_,fun j b=>?_,fun j b=>?_,h.row.kp K (fun e=>bR (a _ e)),h.Ay.kp K (fun e=>bR (a _ e)) (fun e=>bR (a _ e)),h.b_.kp K (fun e=>bR (a _ e)) (fun e=>bR (a _ e)),(h.qu.kp K (fun e=>bR (a _ e)) (fun e=>bR (a _ e)) (fun e=>bR (a _ e))).eq rfl,h.lo,(jB _ _ _).trans h.li⟩,K.mono fun x f=>xI.2 (bR (a x f))⟩;·have c:=h.cells.dW g aj aj;exact⟨c.len,c.c0,c.c1,c.c2,c.c3,c.qU,c.gr,c.sP,c.sQ,c.pQ,c.nH,c.n_,c.oM,c.rV,c.nJ,c.jd,c.qA,c.pR,c.qV,c.rW,c.oO,c.tY⟩
 ·exact(h.out j b).kp K (fun e=>bR (a _ e)) (fun e=>bR (a _ e)) (fun e=>bR (a _ e)) g aj
 ·rw[r];by_cases d:j=k;·subst d;rw[bM rfl];exact o
  ·rw[aV d];exact(h.cK j b).kp K (fun e=>bR (a _ e)) (fun e=>bR (a _ e)) g aj
def fH.Fq{M M':av}(h:fH oZ s w S l M bw bl bi vc)(o n:Nat)(v:o+n<=4\/220<=o)(q:f_ w w' S l l' o n)(u:SdL l' M' bw bl bi vc)(d:M'.outs=M.outs)(f:M'.ins=M.ins)(g:M'.aP=M.aP)(i:M'.bf=M.bf)(k:M'.b_=M.b_)(m:M'.qv=M.qv)(p:(M'.aK,M'.iv,M'.eP,M'.taken)=(M.aK,M.iv,M.eP,M.taken)):Jh s oZ w S bw bl bi M' w':=by
 have K:Kp [s] oZ oZ w w':=q.kp h.ow aM;have a:∀x,x∈[s]->x=s:=fun x c=>by simpa using c
 have t:∀j,M'.out j=M.out j:=fun j=>by unfold av.out;rw[d]
 have r:∀j,M'.cK j=M.cK j:=fun j=>by unfold av.cK;rw[f]
 refine⟨oZ,l',vc,⟨h.ow,h.s0,q.bY,u,fun j b=>?_,fun j b=>?_,?_,?_,?_,?_,by rw[d];exact h.lo,by rw[f];exact h.li⟩,K.mono fun x c=>xI.2 (bR (a x c))⟩;·rw[t];exact(h.out j b).kp K (fun e=>bR (a _ e)) (fun e=>bR (a _ e)) (fun e=>bR (a _ e)) q.dW aj
 ·rw[r];exact(h.cK j b).kp K (fun e=>bR (a _ e)) (fun e=>bR (a _ e)) q.dW aj
 ·rw[g];exact h.row.kp K (fun e=>bR (a _ e))
 ·rw[i];exact h.Ay.kp K (fun e=>bR (a _ e)) (fun e=>bR (a _ e))
 ·rw[k];exact h.b_.kp K (fun e=>bR (a _ e)) (fun e=>bR (a _ e))
 ·exact(h.qu.kp K (fun e=>bR (a _ e)) (fun e=>bR (a _ e)) (fun e=>bR (a _ e))).eq (by rw[m,p])
def fH.gr1{M:av}(h:fH oZ s w S l M bw bl bi vc)(g:Gn)(q:f_ w w' S l l' 221 4)(a:wU l' 221 g):Jh s oZ w S bw bl bi {M with gr:=g} w':=by have c:=h.cells;have e:∀j,j<221\/225<=j->l'[j]?=l[j]?:=fun j b=>q.dW.2 j aj;refine h.Fq 221 4 aj q ⟨q.dW.1.trans c.len,(e _ aj).trans c.c0,(e _ aj).trans c.c1,(e _ aj).trans c.c2,(e _ aj).trans c.c3,(e _ aj).trans c.qU,a,(e _ aj).trans c.sP,(e _ aj).trans c.sQ,(e _ aj).trans c.pQ,(e _ aj).trans c.nH,(e _ aj).trans c.n_,(e _ aj).trans c.oM,(e _ aj).trans c.rV,(e _ aj).trans c.nJ,(e _ aj).trans c.jd,(e _ aj).trans c.qA,(e _ aj).trans c.pR,(e _ aj).trans c.qV,(e _ aj).trans c.rW,(e _ aj).trans c.oO,(e _ aj).trans c.tY⟩ rfl rfl rfl rfl rfl rfl rfl
def fH.qhd{M:av}(h:fH oZ s w S l M bw bl bi vc)(k:Nat)(b:k<8)(g:Gn)(q:f_ w w' S l l' (18+27*k) 4)(f:wU l' (18+27*k) g):Jh s oZ w S bw bl bi (M.fT k {M.cK k with gr:=g}) w':=by refine h.qhc k b _ ⟨oZ,l',q.kp h.ow aM,q.bY,q.dW.mono (qj _) aj,?_⟩;obtain⟨m,i,a,c,d⟩:=h.cK k b;have K:Kp [s] oZ oZ w w':=q.kp h.ow aM;have e:∀j,18+27*k+4<=j->l'[j]?=l[j]?:=fun j n=>q.dW.2 j aj;exact⟨m,i,⟨f,(e _ aj).trans a.c4,(e _ aj).trans a.c5,(e _ aj).trans a.c6,(e _ aj).trans a.c7,(e _ aj).trans a.c8,(e _ aj).trans a.c9,(e _ aj).trans a.uh,(e _ aj).trans a.w9,(e _ aj).trans a.xO⟩,c.kp K rR,d.kp K rR⟩
def fH.qhe{M:av}(h:fH oZ s w S l M bw bl bi vc)(k:Nat)(b:k<8)(g:Nt)(q:f_ w w' S l l' (6+27*k) 4)(i:wV l' (6+27*k) g):Jh s oZ w S bw bl bi (M.dD k {M.out k with nt:=g}) w':=by refine h.Xu k b _ ⟨oZ,l',q.kp h.ow aM,q.bY,q.dW.mono aj aj,?_⟩;obtain⟨o,n,m,a,c,d,f⟩:=h.out k b;have K:Kp [s] oZ oZ w w':=q.kp h.ow aM;have e:∀j,j<6+27*k\/6+27*k+4<=j->l'[j]?=l[j]?:=fun j p=>q.dW.2 j aj;exact⟨o,n,m,⟨(e _ aj).trans a.c0,(e _ aj).trans a.c1,by rw[show 4+27*k+2=6+27*k by omega];exact i,(e _ aj).trans a.c6,(e _ aj).trans a.c7,(e _ aj).trans a.c8,(e _ aj).trans a.c9,(e _ aj).trans a.uh,(e _ aj).trans a.w9,(e _ aj).trans a.xO,(e _ aj).trans a.c13⟩,c.kp K rR,d.kp K rR,f.kp K rR⟩
section
variable {oZ:Own} {s:Nat} {S:Nat} {l:bJ} {M:av} {bw bl bi:Nat} {vc:WA}
def Tk(h:fH oZ s w S l M bw bl bi vc)(f:Fr)(a:WA):qH 311 #[aJ S 221,eF f a] w (.tuple #[]) fun d=>Jh s oZ w S bw bl bi {M with gr:=M.gr.aw f.aT} d:=
 (GL 221 M.gr f a h.bY h.cells.gr).mono fun _ _ ⟨b,_,q,c⟩=>⟨b,h.gr1 _ q c⟩
def Tp(h:fH oZ s w S l M bw bl bi vc)(k:Nat)(a:k<8)(f:Fr)(b:WA):qH 311 #[(aJ S (18+27*k)),eF f b] w (.tuple #[]) fun e=>Jh s oZ w S bw bl bi (M.fT k {M.cK k with gr:=(M.cK k).gr.aw f.aT}) e:=
 (GL (18+27*k) (M.cK k).gr f b h.bY (h.inL k a)).mono fun _ _ ⟨c,_,q,d⟩=>⟨c,h.qhd k a _ q d⟩
def Tt(h:fH oZ s w S l M bw bl bi vc)(k:Nat)(a:k<8)(f:Fr)(b:WA):qH 342 #[(aJ S (6+27*k)),eF f b] w (.tuple #[]) fun e=>Jh s oZ w S bw bl bi (M.dD k {M.out k with nt:=(M.out k).nt.aw f.aN}) e:=
 (PE (6+27*k) (M.out k).nt f b h.bY (h.ntL k a)).mono fun _ _ ⟨c,_,q,d⟩=>⟨c,h.qhe k a _ q d⟩
def Tv(h:fH oZ s w S l M bw bl bi vc)(k:Nat)(b:k<8)(f:Fr)(c:WA)(a:zK (M.out k).gK)(e:xk f):qH 319 #[(aJ S (4+27*k)),eF f c] w (.tuple #[]) fun g=>Jh s oZ w S bw bl bi (M.dD k ((M.out k).aw f)) g:=
 (BH s (s+1+5*k) (4+27*k) (M.out k) f c w h.bY h.ow aj (h.out k b) a e).mono fun _ _ ⟨d,q⟩=>⟨d,h.Xu k b _ q⟩
def Tw(h:fH oZ s w S l M bw bl bi vc)(f:Fr)(a:WA):qH 396 #[aJ S 221,eF f a] w (.tuple #[]) fun d=>Jh s oZ w S bw bl bi {M with gr:=M.gr.cm f.aT} d:=
 (Pv 221 M.gr f a h.bY h.cells.gr).mono fun _ _ ⟨b,_,q,c⟩=>⟨b,h.gr1 _ q c⟩
def Tx(h:fH oZ s w S l M bw bl bi vc)(k:Nat)(a:k<8)(f:Fr)(b:WA):qH 396 #[(aJ S (18+27*k)),eF f b] w (.tuple #[]) fun e=>Jh s oZ w S bw bl bi (M.fT k {M.cK k with gr:=(M.cK k).gr.cm f.aT}) e:=
 (Pv (18+27*k) (M.cK k).gr f b h.bY (h.inL k a)).mono fun _ _ ⟨c,_,q,d⟩=>⟨c,h.qhd k a _ q d⟩
def Tz(h:fH oZ s w S l M bw bl bi vc)(k:Nat)(a:k<8)(f:Fr)(b:WA):qH 394 #[(aJ S (6+27*k)),eF f b] w (.tuple #[]) fun e=>Jh s oZ w S bw bl bi (M.dD k {M.out k with nt:=(M.out k).nt.cm f.aN}) e:=
 (ZC (6+27*k) (M.out k).nt f b h.bY (h.ntL k a)).mono fun _ _ ⟨c,_,q,d⟩=>⟨c,h.qhe k a _ q d⟩
def TB(h:fH oZ s w S l M bw bl bi vc)(k:Nat)(c:k<8)(f:Fr)(d:WA)(b:zK (M.out k).gK)(a:zK (M.out k).aP)(g:xk f):qH 391 #[(aJ S (4+27*k)),eF f d] w (.tuple #[]) fun i=>Jh s oZ w S bw bl bi (M.dD k ((M.out k).cm f)) i:=
 (ZF s (s+1+5*k) (4+27*k) (M.out k) f d h.bY h.ow aj h.s0 (h.out k c) b a g).mono fun _ _ ⟨e,q⟩=>⟨e,h.Xu k c _ q⟩
def Xv(h:fH oZ s w S l M bw bl bi vc)(f:Fr)(k:Nat)(g:k<8)(n:f.aG=(k:Int))(c:WA)(i:f.aD=4->zK (M.out k).gK/\xk f):Calls prog (yZ f.aD) #[Ez S k f.aD,eF f c] w fun e m=>e=.returned (.tuple #[])/\Jh s oZ w S bw bl bi (M.jq f) m:=by
 have j:f.aG.toNat=k:=aj;unfold av.jq yZ Ez;rw[j];by_cases a:f.aD=4;·rw[bM a,bM a,bM a];exact Tv h k g f c (i a).1 (i a).2
 ·rw[aV a,aV a,aV a];by_cases b:f.aD=3;·rw[bM b,bM b,bM b];exact Tt h k g f c
  ·rw[aV b,aV b,aV b];by_cases d:f.aD=6;·rw[bM d,bM d];exact Tp h k g f c
   ·rw[aV d,aV d];exact Tk h f c
def Xw(h:fH oZ s w S l M bw bl bi vc)(f:Fr)(k:Nat)(g:k<8)(n:f.aG=(k:Int))(c:WA)(i:f.aD=4->zK (M.out k).gK/\zK (M.out k).aP/\xk f):Calls prog (iD f.aD) #[Ez S k f.aD,eF f c] w fun e m=>e=.returned (.tuple #[])/\Jh s oZ w S bw bl bi (M.gN f) m:=by
 have j:f.aG.toNat=k:=aj;unfold av.gN iD Ez;rw[j];by_cases a:f.aD=4;·rw[bM a,bM a,bM a];exact TB h k g f c (i a).1 (i a).2.1 (i a).2.2
 ·rw[aV a,aV a,aV a];by_cases b:f.aD=3;·rw[bM b,bM b,bM b];exact Tz h k g f c
  ·rw[aV b,aV b,aV b];by_cases d:f.aD=6;·rw[bM d,bM d];exact Tx h k g f c
   ·rw[aV d,aV d];exact Tw h f c
end

end
end Go.Proofs.YtphbledmopchnaaGreatDoor.Sd
namespace Go.Proofs.YtphbledmopchnaaGreatDoor.Sd
open Go.RowKit Go.Lib Mm St Tryz
variable {S bi bl bw s:Nat}{l:bJ}{oZ:Own}{w:Wq}
def av.qK(M:av)(j:Nat):av:=
 if j=0 then{M with gr:=M.gr.kV}else if j % 3=1 then M.dD (j / 3) (M.out (j / 3)).kV else if j % 3=2 then M.dD (j / 3) {M.out (j / 3)with nt:=(M.out (j / 3)).nt.kV}else M.fT (j / 3-1) (jC (M.cK (j / 3-1)))
def av.uR(M:av):Nat->av
 |0=>M
 |n+1=>(M.uR n).qK n
def Xx{α:Type}(f:α->α):∀(A:List α) (a:α) (B:List α),md (A++a::B) A.length f=A++f a::B
 |[],_,_=>rfl
 |x::A,a,B=>congrArg (x::·) (Xx f A a B)
def IC{α:Type}(d:α):∀(A:List α) (a:α) (B:List α),(A++a::B).getD A.length d=a
 |[],_,_=>rfl
 |_::A,a,B=>IC d A a B
def KP(M:av)(l:M.outs.length=8)(j:M.ins.length=8):∀k,k<=8->M.uR (1+3*k)={M with gr:=M.gr.kV,outs:=(M.outs.take k).map kC++M.outs.drop k,ins:=(M.ins.take k).map jC++M.ins.drop k}
 |0,_=>rfl
 |k+1,h=>by
  have d:k<M.outs.length:=aj;have c:k<M.ins.length:=aj;have g:M.outs.drop k=M.outs[k]::M.outs.drop (k+1):=qnq d;have i:M.ins.drop k=M.ins[k]::M.ins.drop (k+1):=qnq c;have e:((M.outs.take k).map kC).length=k:=by rw[qmc,qm8];omega
  have f:((M.ins.take k).map jC).length=k:=by rw[qmc,qm8];omega
  have p:(M.outs.take (k+1)).map kC=(M.outs.take k).map kC++[kC M.outs[k]]:=by rw[qnh,qm3 d,qnb];rfl
  have q:(M.ins.take (k+1)).map jC=(M.ins.take k).map jC++[jC M.ins[k]]:=by rw[qnh,qm3 c,qnb];rfl
  show(((M.uR (1+3*k)).qK (1+3*k)).qK (1+3*k+1)).qK (1+3*k+1+1)=_;rw[KP M l j k aj,p,q,g,i];generalize M.outs[k]=a;generalize M.ins[k]=b;generalize (M.outs.take k).map kC=A at e ⊢;generalize (M.ins.take k).map jC=B at f ⊢;generalize M.outs.drop (k+1)=r;generalize M.ins.drop (k+1)=s;have m:∀X:av,X.qK (1+3*k)=X.dD k (X.out k).kV:=fun X=>by unfold av.qK;rw[aV aj,bM aj,show(1+3*k) / 3=k by omega]
  have n:∀X:av,X.qK (1+3*k+1)=X.dD k {X.out k with nt:=(X.out k).nt.kV}:=fun X=>by unfold av.qK;rw[aV aj,aV aj,bM aj,show(1+3*k+1) / 3=k by omega]
  have o:∀X:av,X.qK (1+3*k+1+1)=X.fT k (jC (X.cK k)):=fun X=>by unfold av.qK;rw[aV aj,aV aj,aV aj,show(1+3*k+1+1) / 3-1=k by omega]
  rw[m,n,o];subst e;unfold av.dD av.fT av.out av.cK;simp only[Xx,IC];rw[<-f];simp only[Xx,IC,qmh,qom,qmq];rfl
def TD(M:av)(b:M.outs.length=8)(a:M.ins.length=8):M.uR 25={M with gr:=M.gr.kV,outs:=M.outs.map kC,ins:=M.ins.map jC}:=by have:=KP M b a 8 (qj _);rw[show 1+3*8=25 from rfl]at this;rw[this,qmo aj,qmo aj,qnj aj,qnj aj,qmv,qmv]
def Oj(M:av)(j k:Nat):((M.qK j).out k).aP=(M.out k).aP:=by
 unfold av.qK;split;·rfl
 ·split
  ·rw[kD];split;·rename_i h;rw[h.1];rfl
   ·rfl
  ·split
   ·rw[kD];split;·rename_i h;rw[h.1]
    ·rfl
   ·rfl
def DR(M:av)(k:Nat):∀j,((M.uR j).out k).aP=(M.out k).aP
 |0=>rfl
 |j+1=>(Oj _ j k).trans (DR M k j)
def lT(j:Nat):Nat:=if j % 3=1 then 282 else if j % 3=2 then 335 else 336
def lP(S j:Nat):WA:=(aJ S (if j=0 then 221 else if j % 3=1 then 4+27*(j / 3)else if j % 3=2 then 6+27*(j / 3)else 18+27*(j / 3-1)))
def lN(j:Nat):Nat:=if j % 3=1 then 392 else if j % 3=2 then 395 else 397
def Xy(S:Nat):∀k j,j<1+3*k->(bks S k)[j]?=some (.iface (lT j) (lP S j))
 |0,j,h=>by obtain rfl:j=0:=aj;rfl
 |k+1,j,h=>by
  show(bks S k++bk3 S k)[j]?=_;by_cases a:j<1+3*k;·rw[qmw (by rw[BM];exact a)];exact Xy S k j a
  ·rw[qn0 (by rw[BM];omega),BM];unfold lT lP;have b:j=1+3*k\/j=1+3*k+1\/j=1+3*k+2:=aj;rcases b with rfl|rfl|rfl;·rw[bM aj,aV aj,bM aj,qnk,show(1+3*k) / 3=k by omega,<-show 4+k*27=4+27*k by omega];rfl
   ·rw[aV aj,bM aj,aV aj,aV aj,bM aj,show 1+3*k+1-(1+3*k)=1 by omega,show(1+3*k+1) / 3=k by omega,<-show 4+k*27+2=6+27*k by omega];rfl
   ·rw[aV aj,aV aj,aV aj,aV aj,aV aj,show 1+3*k+2-(1+3*k)=2 by omega,show(1+3*k+2) / 3-1=k by omega,<-show 4+k*27+14=18+27*k by omega];rfl
def qam(S j:Nat)(w:Wq):(method 518 (lT j) (lP S j) "Lose").run prog w=.ok (lN j,lP S j) w:=by
 obtain⟨o,c⟩:∃o,lP S j=(aJ S o):=⟨_,rfl⟩;rw[c];unfold lT lN;by_cases a:j % 3=1;·rw[bM a,bM a];exact Sn _ _ _
 ·by_cases b:j % 3=2;·rw[aV a,aV a,bM b,bM b];exact Sv _ _ _
  ·rw[aV a,aV a,aV b,aV b];exact Sz _ _ _
def Xz{M:av}{f:WA}(h:fH oZ s w S l M bw bl bi f)(j:Nat)(i:j<25)(d:∀k,(M.out k).aP.rs.length<=1000000):Calls prog (lN j) #[lP S j] w fun e g=>e=.returned (.tuple #[])/\iE s oZ w S bw bl bi (M.qK j) g:=by
 unfold av.qK lN lP;by_cases c:j=0;·subst c;exact Wu h
 ·rw[aV c,aV c];by_cases a:j % 3=1;·rw[bM a,bM a,bM a];exact Wx h _ aj (d _)
  ·rw[aV a,aV a,aV a];by_cases b:j % 3=2;·rw[bM b,bM b,bM b];exact Ww h _ aj
   ·rw[aV b,aV b,aV b];exact Wv h _ aj
def fH.ways{aQ:Own}{w':Wq}{M:av}{i:WA}{T:List Nat}(h:fH oZ s w S l M bw bl bi i)(K:Kp T oZ aQ w w')(b:∀x∈T,x=s+42\/x=s+43\/x<s\/s+45<=x/\(x<s+53\/s+55<x))(f g:List (Nat×ru))(n:um aQ (s+42) (s+44) w' bw f)(m:um aQ (s+43) (s+44) w' bl g):fH aQ s w' S l {M with bf:=f,b_:=g} bw bl bi i:=by have a:∀x,s<=x->x<s+42->x∉T:=fun x o p j=>bR (b x j);have c:=h.cells;exact⟨by rw[K.ext S h.bY.lt,h.ow],h.s0,bU h.bY K (by rw[h.ow];exact a _ aj aj),⟨c.len,c.c0,c.c1,c.c2,c.c3,c.qU,c.gr,c.sP,c.sQ,c.pQ,c.nH,c.n_,c.oM,c.rV,c.nJ,c.jd,c.qA,c.pR,c.qV,c.rW,c.oO,c.tY⟩,fun k d=>(h.out k d).kp K (a _ aj aj) (a _ aj aj) (a _ aj aj) (kR.refl l (4+27*k+14) 0) aj,fun k d=>(h.cK k d).kp K (a _ aj aj) (a _ aj aj) (kR.refl l (18+27*k+13) 0) aj,h.row.kp K (a _ aj aj),n,m,(h.qu.kp K (fun e=>bR (b _ e)) (fun e=>bR (b _ e)) (fun e=>bR (b _ e))).eq rfl,h.lo,h.li⟩
