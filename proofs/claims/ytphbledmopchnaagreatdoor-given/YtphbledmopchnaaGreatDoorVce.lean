import Derived.Test.YtphbledmopchnaaGreatDoorVca
import Derived.Test.YtphbledmopchnaaGreatDoorVcc
set_option maxHeartbeats 1000000
set_option maxRecDepth 100000
open Go renaming World->Wq,Value->Wx,bodyPost_ret->VH
set_option linter.all false
namespace Go.Proofs.YtphbledmopchnaaGreatDoor.Sd
open Go.RowKit Go.Lib Mm Tryz
variable {S bi bl bw s x:Nat}{l l':bM}{oZ:Own}{vc:Wx}{w w':Wq}
section
def BH{α:Type}(x)(f:α->Fr):∃(g:Fr) (b:Bool),lX (x.map f)=.tuple #[eX g nZ,.bool b]/\b=x.isSome/\∀y,x=some y->g=f y:=by
 cases x with
 |none=>exact⟨jv,false,rfl,rfl,fun y h=>by cases h⟩
 |some a=>exact⟨f a,true,rfl,rfl,fun y h=>by cases h;rfl⟩
def Mv{α}(d):∀(l:List α) (k),md l k (fun _=>l.getD k d)=l
 |[],_=>rfl
 |_::_,0=>rfl
 |a::t,k+1=>congrArg (a::·) (Mv d t k)
def Kh(M:av)(k):M.dA k (M.out k)=M:=by unfold av.dA av.out;rw[Mv]
def Xu(M:av)(k):M.eZ k (M.bH k)=M:=by unfold av.eZ av.bH;rw[Mv]
theorem yE{W y a ab M c}(j:AnM oZ s w ab c)(n:0<s)(k:bJ w W)(p:w.heap.size<W.heap.size){α:Type}(r:Option (Fr×α))(upd:α->av)(g b)(t:b=r.isSome)(m:∀y,r=some y->g=y.1)(u:∀y,r=some y->y.1.ranges=[])(q:je s (loc oZ w.heap.size) W S bw bl bi ((r.map fun x=>upd x.2).getD M) y)(o:nP w.heap.size y a)(e)(l:e=.returned (.tuple #[eX g nZ,.bool b])):kr oZ s w S bw bl bi ab M c (r.map fun x=>(x.1,upd x.2,c)) e a:=by
 obtain⟨f,K,h⟩:=qg0 j n k p q o;refine⟨(g,none,0,0),b,f,l,by grind,K,?_,?_⟩
 .cases r with
  |none=>exact h
  |some x=>exact h
 .intro y d;cases r with
  |none=>cases d
  |some x=>simp only[Option.map_some,tK]at d;subst d;have i:=m x rfl;exact⟨i,WR.none f s a g (by grind)⟩
section
variable {oZ:Own} {s:Nat} {w0:Wq} {S bw bl bi ab:Nat}
theorem Xv(k)(I:k<8)(P Q R)(U:Bx oZ s w0 P 282 (aK S (4+27*k)))(V:Bx oZ s w0 Q 3 (iZ k))(Y:Bx oZ s w0 R 128 (aK S 0)):vK oZ s w0 S bw bl bi ab 266 #[] #[aK P 0,aK Q 0,aK R 0] (fun M _=>(M.out k).aL M.aU) fun M m a=>((M.out k).next k a M.aU).map fun x=>(x.1,M.dA k x.2,m):=by
 intro A w M m a K hE n J r;obtain⟨l,vc,B,Z⟩:=hE;obtain⟨W,d⟩:=bU (w.alloc (.cells nO.toArray 65));have c:bJ w W:=by rw[d];exact(bP _ w).alloc (aI _) _
 have E:aS W w.heap.size 65 nO:=by grind [aS.new]
 have iD:w.heap.size<W.heap.size:=by rw[d];simp
 have L:=B.loc c;have x1:=((U.kp K).below c).cell;have x2:=((V.kp K).below c).cell;have x3:=((Y.kp K).below c).cell;have ZH:=n.dI B.lo k I;have F:(M.out k).dI+M.aU<18446744073709551616:=by have:=n.lm;grind [av.aU,dH]
 have i:∀q,bJ W (W.drewN q):=fun q=>⟨rfl,rfl,rfl,aI _,fun _ _=>rfl⟩;have HF:Hid (∀q,bN 265 #[aK S 0] (W.drewN q) (uZ M.aU) fun j=>j=W.drewN q):=fun q=>J4 (W.drewN q) (L.below (i q)) n.sp n.lm;obtain⟨g,b,H,D,G⟩:=BH ((M.out k).next k a M.aU) Prod.fst;have O:Hid (∀q,bN 267 #[(aK S (4+27*k)),iZ k,iZ a,uZ M.aU] (W.drewN q) (.tuple #[eX g nZ,.bool b]) fun j=>aS j w.heap.size 65 nO/\Hid (je s (loc A w.heap.size) W S bw bl bi ((((M.out k).next k a M.aU).map fun x=>M.dA k x.2).getD M) j)):=fun q=>by
  have N:=L.below (i q);refine bK (qgk s (s+1+5*k) (4+27*k) (M.out k) k I a M.aU (W.drewN q) N.cK N.ow N.s0 aj (N.out k I) (n.ob k) F (n.oa k) J r) ?_;rintro j hO;have u:mh s (s+1+5*k) (loc A w.heap.size) S (4+27*k) l W _ j:=mh.after (i q) hO;refine⟨by rw[H],?_,?_⟩;.obtain⟨iA,l2,K2,_⟩:=u;exact bW E K2 (by rw[jF _ _ _ (aI _)];have:=B.s0;simp;omega)
  .cases hX:(M.out k).next k a M.aU with
   |none=>rw[hX]at u;have:=L.dA k I _ u;have e0:=Kh M k;simp only[Option.map_none,Option.getD_none]at this;rw[e0]at this;exact this
   |some x=>rw[hX]at u;exact L.dA k I _ u
 have T:Hid (∀y,(M.out k).next k a M.aU=some y->y.1.ranges=[]):=fun y t=>by
  rw[UZ]at t;split at t;.cases t
  .rename_i f hf;split at t;.cases t
   .have:=lF t;rw[<-this,(Dh hf).2];rfl
 have HE:Hid (∀y z,je s (loc A w.heap.size) W S bw bl bi ((((M.out k).next k a M.aU).map fun x=>M.dA k x.2).getD M) y->nP w.heap.size y z->kr A s w S bw bl bi ab M m (((M.out k).next k a M.aU).map fun x=>(x.1,M.dA k x.2,m)) (.returned (.tuple #[eX g nZ,.bool b])) z):=fun y z q ht=>yE Z B.s0 c iD _ (fun o=>M.dA k o) g b D G T.out q ht _ rfl;show Calls prog 266 #[iZ a,aK P 0,aK Q 0,aK R 0] w fun e j=>kr A s w S bw bl bi ab M m (((M.out k).next k a M.aU).map fun x=>(x.1,M.dA k x.2,m)) e j;generalize (((M.out k).next k a M.aU).map fun x=>(x.1,M.dA k x.2,m))=X at *
 generalize ((((M.out k).next k a M.aU).map fun x=>M.dA k x.2).getD M)=M' at *
 generalize M.aU=C at *
 clear H D G T F ZH L B Z n J U V Y K i E c iD;unfold eX at O;unfold nO at d;go_enter func266,ntmps266;go_wp2_with fail;rw[<-d];clear d;go_region_with (first|(go_at_call 265;refine bK (HF.out _) ?_;rintro y rfl)|(go_at_call 267;refine bK (O.out _) ?_;rintro y ⟨p,HP⟩;obtain⟨y0,y1,y2,y3,y4,y5,y6,y7,y8,y9,yf⟩:=bF p;have wu:=aG p;clear p));all_goals
  clear O;go_wp2_with fail;go_simp;rw[gX];have kW:=gD wu.out (iZ g.aD) (iZ g.aF) (uZ g.aC) (uZ g.aO) (uZ g.aN) (.bool g.bL) (uZ g.id) (uZ g.aJ) (.string g.data) nZ;have qm:=gF y w.heap.size (iZ g.aD) (iZ g.aF) (uZ g.aC) (uZ g.aO) (uZ g.aN) (.bool g.bL) (uZ g.id) (uZ g.aJ) (.string g.data) nZ;generalize kC y w.heap.size (iZ g.aD) (iZ g.aF) (uZ g.aC) (uZ g.aO) (uZ g.aN) (.bool g.bL) (uZ g.id) (uZ g.aJ) (.string g.data) nZ=z at *
  obtain⟨a0,a1,a2,a3,a4,a5,a6,a7,a8,a9,_⟩:=bF kW;exact VH (v:=.tuple #[eX g nZ,.bool b]) (by simp[results,results266,go_sem,a0,a1,a2,a3,a4,a5,a6,a7,a8,a9,eX]) rfl (HE.out y z HP.out qm)
end

end
section
def gq.gr{M b}(h:gq oZ s w S l M bw bl bi b)(g)(q:gZ w w' S l l' 221 4)(a:zQ l' 221 g):je s oZ w S bw bl bi {M with gr:=g} w':=by have c:=h.cells;have e:∀j,j<221\/225<=j->l'[j]?=l[j]?:=fun j d=>q.iB.2 j aj;refine h.cell 221 4 aj q ⟨q.iB.1.trans c.len,(e _ aj).trans c.c0,(e _ aj).trans c.c1,(e _ aj).trans c.c2,(e _ aj).trans c.c3,(e _ aj).trans c.uq,a,(e _ aj).trans c.vW,(e _ aj).trans c.vX,(e _ aj).trans c.rZ,(e _ aj).trans c.qo,(e _ aj).trans c.qI,(e _ aj).trans c.rA,(e _ aj).trans c.uW,(e _ aj).trans c.qp,(e _ aj).trans c.jP,(e _ aj).trans c.sW,(e _ aj).trans c.r_,(e _ aj).trans c.uw,(e _ aj).trans c.uX,(e _ aj).trans c.rC,(e _ aj).trans c.xB⟩ rfl rfl rfl rfl rfl rfl rfl
def gq.igr{M m}(h:gq oZ s w S l M bw bl bi m)(k)(b:k<8)(g)(q:gZ w w' S l l' (18+27*k) 4)(f:zQ l' (18+27*k) g):je s oZ w S bw bl bi (M.eZ k {M.bH k with gr:=g}) w':=by refine h.eZ k b _ ⟨oZ,l',q.kp h.ow aR,q.cK,q.iB.mono (aI _) aj,?_⟩;obtain⟨n,i,a,c,d⟩:=h.bH k b;have K:Kp [s] oZ oZ w w':=q.kp h.ow aR;have e:∀j,18+27*k+4<=j->l'[j]?=l[j]?:=fun j o=>q.iB.2 j aj;exact⟨n,i,⟨f,(e _ aj).trans a.c4,(e _ aj).trans a.c5,(e _ aj).trans a.c6,(e _ aj).trans a.c7,(e _ aj).trans a.c8,(e _ aj).trans a.c9,(e _ aj).trans a.wD,(e _ aj).trans a.zT,(e _ aj).trans a.Aq⟩,c.kp K dZ,d.kp K dZ⟩
theorem qgl(M:av):M.aP<=dH:=by
 unfold av.aP;generalize M.ins=L;cases b:L.reverse with
 |nil=>rw[List.reverse_eq_nil_iff.1 b];exact eG _
 |cons a t=>
  have:L=t.reverse++[a]:=by grind [List.reverse_reverse,List.reverse_cons]
  rw[this,EY];exact Dy _ _
section
variable {oZ:Own} {s:Nat} {w0:Wq} {S bw bl bi ab:Nat}
theorem Mw(F)(J:Bx oZ s w0 F 128 (aK S 0))(iw):DW oZ s w0 S bw bl bi ab 253 #[] #[aK F 0] iw fun M i a=>(M.gr.next 5 0 M.aP a).map fun x=>(x.1,{M with gr:=x.2},i):=by
 intro A w M i a K hE G _;obtain⟨l,vc,B,L⟩:=hE;obtain⟨W,c⟩:=bU (w.alloc (.cells nO.toArray 65));have d:bJ w W:=by rw[c];exact(bP _ w).alloc (aI _) _
 have r:aS W w.heap.size 65 nO:=by grind [aS.new]
 have Q:w.heap.size<W.heap.size:=by rw[c];simp
 have z:=B.loc d;have f:∀q,bJ W (W.drewN q):=fun q=>⟨rfl,rfl,rfl,aI _,fun _ _=>rfl⟩;have x1:=((J.kp K).below d).cell;have T:Hid (∀q,bN 252 #[aK S 0] (W.drewN q) (uZ M.aP) fun m=>m=W.drewN q):=fun q=>UL (W.drewN q) (z.below (f q)) (fun k=>(G.bH k).aP);obtain⟨g,b,u,p,t⟩:=BH (M.gr.next 5 0 M.aP a) Prod.fst;have E:Hid (∀q,bN 254 #[aK S 221,eX (lV 5 0 0) nZ,uZ M.aP,iZ a] (W.drewN q) (.tuple #[eX g nZ,.bool b]) fun m=>aS m w.heap.size 65 nO/\Hid (je s (loc A w.heap.size) W S bw bl bi (((M.gr.next 5 0 M.aP a).map fun x=>{M with gr:=x.2}).getD M) m)):=fun q=>by
  have P:=z.below (f q);refine bK (UW 5 (.inl rfl) 0 aj M.aP a (W.drewN q) P.cK P.cells.gr G.ga (qgl M)) ?_;rintro m ⟨l',N,D⟩;refine⟨by rw[u],N.other (w:=W.drewN q) r (fT B.cK.lt),?_⟩;have I:=gZ.after (W:=W.drewN q) (f q) N;cases O:M.gr.next 5 0 M.aP a with
  |none=>rw[O]at D;exact z.gr _ I D
  |some x=>rw[O]at D;exact z.gr _ I D
 have H:Hid (∀y,M.gr.next 5 0 M.aP a=some y->y.1.ranges=[]):=fun y hy=>by rw[(pR (g':=y.2) hy).1];rfl
 have R:Hid (∀y n,je s (loc A w.heap.size) W S bw bl bi (((M.gr.next 5 0 M.aP a).map fun x=>{M with gr:=x.2}).getD M) y->nP w.heap.size y n->kr A s w S bw bl bi ab M i ((M.gr.next 5 0 M.aP a).map fun x=>(x.1,{M with gr:=x.2},i)) (.returned (.tuple #[eX g nZ,.bool b])) n):=fun y n q ht=>yE L B.s0 d Q _ (fun o=>{M with gr:=o}) g b p t H.out q ht _ rfl;show Calls prog 253 #[iZ a,aK F 0] w fun e m=>kr A s w S bw bl bi ab M i ((M.gr.next 5 0 M.aP a).map fun x=>(x.1,{M with gr:=x.2},i)) e m;generalize ((M.gr.next 5 0 M.aP a).map fun x=>(x.1,({M with gr:=x.2}:av),i))=X at *
 generalize (((M.gr.next 5 0 M.aP a).map fun x=>({M with gr:=x.2}:av)).getD M)=M' at *
 generalize M.aP=C at *
 clear u p t H z B L G J K f r d Q;unfold eX lV at E;unfold nO at c;go_enter func253,ntmps253;go_wp2_with fail;rw[<-c];clear c;go_region_with (first|(go_at_call 252;refine bK (T.out _) ?_;rintro y rfl)|(go_at_call 254;refine bK (E.out _) ?_;rintro y ⟨j,U⟩;obtain⟨y0,y1,y2,y3,y4,y5,y6,y7,y8,y9,yf⟩:=bF j;have wu:=aG j;clear j));all_goals
  clear E;go_wp2_with fail;go_simp;rw[gX];have kW:=gD wu.out (iZ g.aD) (iZ g.aF) (uZ g.aC) (uZ g.aO) (uZ g.aN) (.bool g.bL) (uZ g.id) (uZ g.aJ) (.string g.data) nZ;have qm:=gF y w.heap.size (iZ g.aD) (iZ g.aF) (uZ g.aC) (uZ g.aO) (uZ g.aN) (.bool g.bL) (uZ g.id) (uZ g.aJ) (.string g.data) nZ;generalize kC y w.heap.size (iZ g.aD) (iZ g.aF) (uZ g.aC) (uZ g.aO) (uZ g.aN) (.bool g.bL) (uZ g.id) (uZ g.aJ) (.string g.data) nZ=n at *
  obtain⟨V,Y,Z,a3,a4,a5,a6,a7,a8,a9,_⟩:=bF kW;exact VH (v:=.tuple #[eX g nZ,.bool b]) (by simp[results,results253,go_sem,V,Y,Z,a3,a4,a5,a6,a7,a8,a9,eX]) rfl (R.out y n U.out qm)
theorem G_(k)(C:k<8)(E F)(J:Bx oZ s w0 E 333 (aK S (18+27*k)))(L:Bx oZ s w0 F 3 (iZ k))(iw):DW oZ s w0 S bw bl bi ab 256 #[] #[aK E 0,aK F 0] iw fun M f a=>((M.bH k).gr.next 6 k (M.bH k).aP a).map fun x=>(x.1,M.eZ k {M.bH k with gr:=x.2},f):=by
 intro z w M f a K hE O _;obtain⟨l,vc,A,N⟩:=hE;obtain⟨W,d⟩:=bU (w.alloc (.cells nO.toArray 65));have c:bJ w W:=by rw[d];exact(bP _ w).alloc (aI _) _
 have n:aS W w.heap.size 65 nO:=by grind [aS.new]
 have Q:w.heap.size<W.heap.size:=by rw[d];simp
 have t:=A.loc c;have H:∀q,bJ W (W.drewN q):=fun q=>⟨rfl,rfl,rfl,aI _,fun _ _=>rfl⟩;have x1:=((J.kp K).below c).cell;have x2:=((L.kp K).below c).cell;obtain⟨g,b,r,m,p⟩:=BH ((M.bH k).gr.next 6 k (M.bH k).aP a) Prod.fst;have D:Hid (bN 257 #[(aK S (18+27*k)),iZ k,iZ a] W (.tuple #[eX g nZ,.bool b]) fun u=>aS u w.heap.size 65 nO/\Hid (je s (loc z w.heap.size) W S bw bl bi ((((M.bH k).gr.next 6 k (M.bH k).aP a).map fun x=>M.eZ k {M.bH k with gr:=x.2}).getD M) u)):=by
  obtain⟨vh,lJ,hL,_⟩:=t.bH k C;refine bK (Mr (18+27*k) (M.bH k) k C a t.cK hL (O.bH k)) ?_;rintro u ⟨l',G,B⟩;refine⟨by rw[r],G.other n (fT A.cK.lt),?_⟩;cases P:(M.bH k).gr.next 6 k (M.bH k).aP a with
  |none=>rw[P]at B;have:=t.igr k C _ G B;rw[show({M.bH k with gr:=((Option.map Prod.snd (none:Option (Fr×Gn))).getD (M.bH k).gr)}:dP)=M.bH k from rfl,Xu]at this;exact this
  |some x=>rw[P]at B;exact t.igr k C _ G B
 have I:Hid (∀y,(M.bH k).gr.next 6 k (M.bH k).aP a=some y->y.1.ranges=[]):=fun y hy=>by rw[(pR (g':=y.2) hy).1];rfl
 have R:Hid (∀y j,je s (loc z w.heap.size) W S bw bl bi ((((M.bH k).gr.next 6 k (M.bH k).aP a).map fun x=>M.eZ k {M.bH k with gr:=x.2}).getD M) y->nP w.heap.size y j->kr z s w S bw bl bi ab M f (((M.bH k).gr.next 6 k (M.bH k).aP a).map fun x=>(x.1,M.eZ k {M.bH k with gr:=x.2},f)) (.returned (.tuple #[eX g nZ,.bool b])) j):=fun y j q ht=>yE N A.s0 c Q _ (fun o=>M.eZ k {M.bH k with gr:=o}) g b m p I.out q ht _ rfl;show Calls prog 256 #[iZ a,aK E 0,aK F 0] w fun e u=>kr z s w S bw bl bi ab M f (((M.bH k).gr.next 6 k (M.bH k).aP a).map fun x=>(x.1,M.eZ k {M.bH k with gr:=x.2},f)) e u;generalize (((M.bH k).gr.next 6 k (M.bH k).aP a).map fun x=>(x.1,M.eZ k ({M.bH k with gr:=x.2}:dP),f))=X at *
 generalize ((((M.bH k).gr.next 6 k (M.bH k).aP a).map fun x=>M.eZ k ({M.bH k with gr:=x.2}:dP)).getD M)=M' at *
 clear r m p I t A N O J L K H n c Q;unfold eX at D;unfold nO at d;subst d;go_enter func256,ntmps256;go_wp2_with (first|(go_at_call 257;refine bK D.out ?_;rintro y ⟨i,T⟩;obtain⟨y0,y1,y2,y3,y4,y5,y6,y7,y8,y9,yf⟩:=bF i;have wu:=aG i;clear i)|go_in);all_goals
  clear D;rw[gX];have kW:=gD wu.out (iZ g.aD) (iZ g.aF) (uZ g.aC) (uZ g.aO) (uZ g.aN) (.bool g.bL) (uZ g.id) (uZ g.aJ) (.string g.data) nZ;have qm:=gF y w.heap.size (iZ g.aD) (iZ g.aF) (uZ g.aC) (uZ g.aO) (uZ g.aN) (.bool g.bL) (uZ g.id) (uZ g.aJ) (.string g.data) nZ;generalize kC y w.heap.size (iZ g.aD) (iZ g.aF) (uZ g.aC) (uZ g.aO) (uZ g.aN) (.bool g.bL) (uZ g.id) (uZ g.aJ) (.string g.data) nZ=j at *
  obtain⟨U,V,Y,Z,a4,a5,a6,a7,a8,a9,_⟩:=bF kW;exact VH (v:=.tuple #[eX g nZ,.bool b]) (by simp[results,results256,go_sem,U,V,Y,Z,a4,a5,a6,a7,a8,a9,eX]) rfl (R.out y j T.out qm)
end

end
def Dg(b w):bN 197 #[.map (some b)] w (.func (.func 243) #[] #[aK w.heap.size 0]) fun d=>d=w.alloc (.cells #[.map (some b)] 203):=by have c:∀(a:Fn) (first cap:Array Wx) (w:Wq),(Instr.makeFunc a first cap).run prog w=.ok (.func a first cap) w:=fun _ _ _ _=>rfl;go_enter func197,ntmps197;go_wp2;go_ret;exact⟨rfl,rfl⟩
def Xi(S o w):(method 518 282 (aK S o) "Lose").run prog w=.ok (392,(aK S o)) w:=bZ
def Xj(S o w):(method 518 282 (aK S o) "Away").run prog w=.ok (319,(aK S o)) w:=bZ
def Xk(S o w):(method 518 282 (aK S o) "Came").run prog w=.ok (391,(aK S o)) w:=bZ
def Xl(S o w):(method 518 335 (aK S o) "Lose").run prog w=.ok (395,(aK S o)) w:=bZ
def Xm(S o w):(method 518 335 (aK S o) "Away").run prog w=.ok (342,(aK S o)) w:=bZ
def Xn(S o w):(method 518 335 (aK S o) "Came").run prog w=.ok (394,(aK S o)) w:=bZ
def Xo(S o w):(method 518 336 (aK S o) "Lose").run prog w=.ok (397,(aK S o)) w:=bZ
def Xp(S o w):(method 518 336 (aK S o) "Away").run prog w=.ok (311,(aK S o)) w:=bZ
def Xq(S o w):(method 518 336 (aK S o) "Came").run prog w=.ok (396,(aK S o)) w:=bZ
section
theorem gq.ont{M}(h:gq oZ s w S l M bw bl bi vc)(k)(b:k<8)(g)(q:gZ w w' S l l' (6+27*k) 4)(o:zR l' (6+27*k) g):je s oZ w S bw bl bi (M.dA k {M.out k with nt:=g}) w':=by refine h.dA k b _ ⟨oZ,l',q.kp h.ow aR,q.cK,q.iB.mono aj aj,?_⟩;obtain⟨n,m,i,a,c,d,f⟩:=h.out k b;have K:Kp [s] oZ oZ w w':=q.kp h.ow aR;have e:=fun j p=>q.iB.2 j aj;exact⟨n,m,i,⟨(e _ aj).trans a.c0,(e _ aj).trans a.c1,by grind,(e _ aj).trans a.c6,(e _ aj).trans a.c7,(e _ aj).trans a.c8,(e _ aj).trans a.c9,(e _ aj).trans a.wD,(e _ aj).trans a.zT,(e _ aj).trans a.Aq,(e _ aj).trans a.c13⟩,c.kp K dZ,d.kp K dZ,f.kp K dZ⟩
section
variable {oZ:Own} {s:Nat} {S:Nat} {l:bM} {M:av} {bw bl bi:Nat} {vc:Wx}
theorem gq.ntL(h:gq oZ s w S l M bw bl bi vc)(k)(b:k<8):zR l (6+27*k) (M.out k).nt:=by obtain⟨e,d,c,a,_⟩:=h.out k b;have:=a.nt;grind
def gq.inL(h:gq oZ s w S l M bw bl bi vc)(k)(b:k<8):zQ l (18+27*k) (M.bH k).gr:=by obtain⟨d,c,a,_⟩:=h.bH k b;exact a.gr
def qac(h:gq oZ s w S l M bw bl bi vc):bN 397 #[aK S 221] w (.tuple #[]) fun c=>je s oZ w S bw bl bi {M with gr:=M.gr.kY} c:=
 (Uv 221 M.gr h.cK h.cells.gr).mono fun _ _ ⟨a,_,q,b⟩=>⟨a,h.gr _ q b⟩
def qad(h:gq oZ s w S l M bw bl bi vc)(k)(a:k<8):bN 397 #[(aK S (18+27*k))] w (.tuple #[]) fun d=>je s oZ w S bw bl bi (M.eZ k (iV (M.bH k))) d:=
 (Uv (18+27*k) (M.bH k).gr h.cK (h.inL k a)).mono fun _ _ ⟨b,_,q,c⟩=>⟨b,h.igr k a _ q c⟩
def qae(h:gq oZ s w S l M bw bl bi vc)(k)(a:k<8):bN 395 #[(aK S (6+27*k))] w (.tuple #[]) fun d=>je s oZ w S bw bl bi (M.dA k {M.out k with nt:=(M.out k).nt.kY}) d:=
 (qgg (6+27*k) (M.out k).nt h.cK (h.ntL k a)).mono fun _ _ ⟨b,_,q,c⟩=>⟨b,h.ont k a _ q c⟩
def qaf(h:gq oZ s w S l M bw bl bi vc)(k)(a:k<8)(b:(M.out k).aT.rs.length<=1000000):bN 392 #[(aK S (4+27*k))] w (.tuple #[]) fun d=>je s oZ w S bw bl bi (M.dA k (M.out k).kY) d:=
 (qgi s (s+1+5*k) (4+27*k) (M.out k) h.cK h.ow aj (h.out k a) b).mono fun _ _ ⟨c,q⟩=>⟨c,h.dA k a _ q⟩
end

end
section
def bkT(a:Int):Nat:=if a=4 then 282 else if a=3 then 335 else 336
def I5(S k:Nat)(a:Int):Wx:=(aK S (if a=4 then 4+27*k else if a=3 then 6+27*k else if a=6 then 18+27*k else 221))
def BI(a:Int):Nat:=if a=4 then 319 else if a=3 then 342 else 311
def iW(a:Int):Nat:=if a=4 then 391 else if a=3 then 394 else 396
theorem Sr(S k a):bkV S k a=.iface (bkT a) (I5 S k a):=by grind [bkV,bkT,I5]
def qgm(S k a w):(method 518 (bkT a) (I5 S k a) "Away").run prog w=.ok (BI a,I5 S k a) w:=by
 unfold bkT I5 BI;by_cases c:a=4;.simp only[c,if_true];exact Xj _ _ _
 .by_cases b:a=3;.simp only[b,if_true];exact Xm _ _ _
  .simp only[c,b,if_false];exact Xp _ _ _
def U0(S k a w):(method 518 (bkT a) (I5 S k a) "Came").run prog w=.ok (iW a,I5 S k a) w:=by
 unfold bkT I5 iW;by_cases c:a=4;.simp only[c,if_true];exact Xk _ _ _
 .by_cases b:a=3;.simp only[b,if_true];exact Xn _ _ _
  .simp only[c,b,if_false];exact Xq _ _ _
section
variable {oZ:Own} {s:Nat} {S:Nat} {l:bM} {M:av} {bw bl bi:Nat} {vc:Wx}
end

end
section
def T1(s:Nat):List Nat:=List.range' s 41
theorem Ae:x∈T1 s↔s<=x/\x<s+41:=by grind [T1,List.mem_range']
def qag(h:x∈T1 s):x∈T0 s:=fM.2 (fT (Ae.1 h))
def Qu(s:Nat)(oZ:Own)(w:Wq)(S:Nat)(bw bl bi:Nat)(M':av)(w':Wq):Prop:=∃a b c,gq a s w' S b M' bw bl bi c/\Kp (T1 s) oZ a w w'
theorem gq.qah{M}(h:gq oZ s w S l M bw bl bi vc)(k)(t:k<8)(m)(q:mh s (s+1+5*k) oZ S (4+27*k) l w m w'):Qu s oZ w S bw bl bi (M.dA k m) w':=by
 obtain⟨f,o,K,g,d,p⟩:=q;have r:∀x,x∈[s,s+1+5*k,s+1+5*k+1,s+1+5*k+1+1]->x=s\/(s+1+5*k<=x/\x<=s+3+5*k):=fun x n=>by grind
 have i:∀j,(M.dA k m).out j=if j=k then m else M.out j:=fun j=>by rw[gL,h.lo];grind
 refine⟨f,o,vc,⟨by rw[K.ext S h.cK.lt,h.ow],h.s0,g,?_,fun j a=>?_,fun j a=>?_,h.row.kp K (fun e=>by grind),h.Ar.kp K (fun e=>by grind) (fun e=>by grind),h.bV.kp K (fun e=>by grind) (fun e=>by grind),(h.qu.kp K (fun e=>by grind) (fun e=>by grind) (fun e=>by grind)).eq rfl,(jD _ _ _).trans h.lo,h.li⟩,K.mono fun x n=>Ae.2 (by grind)⟩;.have c:=h.cells.iB d aj aj;exact⟨c.len,c.c0,c.c1,c.c2,c.c3,c.uq,c.gr,c.vW,c.vX,c.rZ,c.qo,c.qI,c.rA,c.uW,c.qp,c.jP,c.sW,c.r_,c.uw,c.uX,c.rC,c.xB⟩
 .rw[i];by_cases b:j=k;.grind
  .rw[b_ b];exact(h.out j a).kp K (fun e=>by grind) (fun e=>by grind) (fun e=>by grind) d aj
 .exact(h.bH j a).kp K (fun e=>by grind) (fun e=>by grind) d aj
theorem gq.qns{M}(h:gq oZ s w S l M bw bl bi vc)(k)(t:k<8)(m)(q:RG s (s+4+5*k) oZ S (18+27*k) l w m w'):Qu s oZ w S bw bl bi (M.eZ k m) w':=by
 obtain⟨f,o,K,g,d,p⟩:=q;have r:∀x,x∈[s,s+4+5*k,s+4+5*k+1]->x=s\/(s+4+5*k<=x/\x<=s+5+5*k):=fun x n=>by grind
 have i:∀j,(M.eZ k m).bH j=if j=k then m else M.bH j:=fun j=>by rw[fQ,h.li];grind
 refine⟨f,o,vc,⟨by rw[K.ext S h.cK.lt,h.ow],h.s0,g,?_,fun j a=>?_,fun j a=>?_,h.row.kp K (fun e=>by grind),h.Ar.kp K (fun e=>by grind) (fun e=>by grind),h.bV.kp K (fun e=>by grind) (fun e=>by grind),(h.qu.kp K (fun e=>by grind) (fun e=>by grind) (fun e=>by grind)).eq rfl,h.lo,(jD _ _ _).trans h.li⟩,K.mono fun x n=>Ae.2 (by grind)⟩;.have c:=h.cells.iB d aj aj;exact⟨c.len,c.c0,c.c1,c.c2,c.c3,c.uq,c.gr,c.vW,c.vX,c.rZ,c.qo,c.qI,c.rA,c.uW,c.qp,c.jP,c.sW,c.r_,c.uw,c.uX,c.rC,c.xB⟩
 .exact(h.out j a).kp K (fun e=>by grind) (fun e=>by grind) (fun e=>by grind) d aj
 .rw[i];by_cases b:j=k;.grind
  .rw[b_ b];exact(h.bH j a).kp K (fun e=>by grind) (fun e=>by grind) d aj
theorem gq.JO{M M'}(h:gq oZ s w S l M bw bl bi vc)(o n)(v:o+n<=4\/220<=o)(q:gZ w w' S l l' o n)(r:EG l' M' bw bl bi vc)(b:M'.outs=M.outs)(c:M'.ins=M.ins)(d:M'.aT=M.aT)(f:M'.aM=M.aM)(g:M'.bV=M.bV)(i:M'.qv=M.qv)(k:(M'.aQ,M'.iv,M'.gy,M'.taken)=(M.aQ,M.iv,M.gy,M.taken)):Qu s oZ w S bw bl bi M' w':=by
 have K:Kp [s] oZ oZ w w':=q.kp h.ow aR;have u:∀x,x∈[s]->x=s:=fun x t=>by grind
 have p:∀j,M'.out j=M.out j:=fun j=>by unfold av.out;rw[b]
 have m:∀j,M'.bH j=M.bH j:=fun j=>by unfold av.bH;rw[c]
 refine⟨oZ,l',vc,⟨h.ow,h.s0,q.cK,r,fun j a=>?_,fun j a=>?_,?_,?_,?_,?_,by rw[b];exact h.lo,by rw[c];exact h.li⟩,K.mono fun x t=>Ae.2 (by grind)⟩;.rw[p];exact(h.out j a).kp K (fun e=>by grind) (fun e=>by grind) (fun e=>by grind) q.iB aj
 .rw[m];exact(h.bH j a).kp K (fun e=>by grind) (fun e=>by grind) q.iB aj
 .rw[d];exact h.row.kp K (fun e=>by grind)
 .rw[f];exact h.Ar.kp K (fun e=>by grind) (fun e=>by grind)
 .rw[g];exact h.bV.kp K (fun e=>by grind) (fun e=>by grind)
 .exact(h.qu.kp K (fun e=>by grind) (fun e=>by grind) (fun e=>by grind)).eq (by rw[i,k])
def gq.gr1{M}(h:gq oZ s w S l M bw bl bi vc)(g)(q:gZ w w' S l l' 221 4)(a:zQ l' 221 g):Qu s oZ w S bw bl bi {M with gr:=g} w':=by have c:=h.cells;have e:=fun j b=>q.iB.2 j aj;refine h.JO 221 4 aj q ⟨q.iB.1.trans c.len,(e _ aj).trans c.c0,(e _ aj).trans c.c1,(e _ aj).trans c.c2,(e _ aj).trans c.c3,(e _ aj).trans c.uq,a,(e _ aj).trans c.vW,(e _ aj).trans c.vX,(e _ aj).trans c.rZ,(e _ aj).trans c.qo,(e _ aj).trans c.qI,(e _ aj).trans c.rA,(e _ aj).trans c.uW,(e _ aj).trans c.qp,(e _ aj).trans c.jP,(e _ aj).trans c.sW,(e _ aj).trans c.r_,(e _ aj).trans c.uw,(e _ aj).trans c.uX,(e _ aj).trans c.rC,(e _ aj).trans c.xB⟩ rfl rfl rfl rfl rfl rfl rfl
def gq.qnt{M}(h:gq oZ s w S l M bw bl bi vc)(k)(b:k<8)(g)(q:gZ w w' S l l' (18+27*k) 4)(f:zQ l' (18+27*k) g):Qu s oZ w S bw bl bi (M.eZ k {M.bH k with gr:=g}) w':=by refine h.qns k b _ ⟨oZ,l',q.kp h.ow aR,q.cK,q.iB.mono (aI _) aj,?_⟩;obtain⟨m,i,a,c,d⟩:=h.bH k b;have K:Kp [s] oZ oZ w w':=q.kp h.ow aR;have e:∀j,18+27*k+4<=j->l'[j]?=l[j]?:=fun j n=>q.iB.2 j aj;exact⟨m,i,⟨f,(e _ aj).trans a.c4,(e _ aj).trans a.c5,(e _ aj).trans a.c6,(e _ aj).trans a.c7,(e _ aj).trans a.c8,(e _ aj).trans a.c9,(e _ aj).trans a.wD,(e _ aj).trans a.zT,(e _ aj).trans a.Aq⟩,c.kp K dZ,d.kp K dZ⟩
theorem gq.qnu{M}(h:gq oZ s w S l M bw bl bi vc)(k)(b:k<8)(g)(q:gZ w w' S l l' (6+27*k) 4)(o:zR l' (6+27*k) g):Qu s oZ w S bw bl bi (M.dA k {M.out k with nt:=g}) w':=by refine h.qah k b _ ⟨oZ,l',q.kp h.ow aR,q.cK,q.iB.mono aj aj,?_⟩;obtain⟨n,m,i,a,c,d,f⟩:=h.out k b;have K:Kp [s] oZ oZ w w':=q.kp h.ow aR;have e:=fun j p=>q.iB.2 j aj;exact⟨n,m,i,⟨(e _ aj).trans a.c0,(e _ aj).trans a.c1,by grind,(e _ aj).trans a.c6,(e _ aj).trans a.c7,(e _ aj).trans a.c8,(e _ aj).trans a.c9,(e _ aj).trans a.wD,(e _ aj).trans a.zT,(e _ aj).trans a.Aq,(e _ aj).trans a.c13⟩,c.kp K dZ,d.kp K dZ,f.kp K dZ⟩
section
variable {oZ:Own} {s:Nat} {S:Nat} {l:bM} {M:av} {bw bl bi:Nat} {vc:Wx}
def Xw(h:gq oZ s w S l M bw bl bi vc)(f a):bN 311 #[aK S 221,eX f a] w (.tuple #[]) fun d=>Qu s oZ w S bw bl bi {M with gr:=M.gr.aw f.aN} d:=
 (LC 221 M.gr f a h.cK h.cells.gr).mono fun _ _ ⟨b,_,q,c⟩=>⟨b,h.gr1 _ q c⟩
def Xx(h:gq oZ s w S l M bw bl bi vc)(k)(a:k<8)(f b):bN 311 #[(aK S (18+27*k)),eX f b] w (.tuple #[]) fun e=>Qu s oZ w S bw bl bi (M.eZ k {M.bH k with gr:=(M.bH k).gr.aw f.aN}) e:=
 (LC (18+27*k) (M.bH k).gr f b h.cK (h.inL k a)).mono fun _ _ ⟨c,_,q,d⟩=>⟨c,h.qnt k a _ q d⟩
def Xy(h:gq oZ s w S l M bw bl bi vc)(k)(a:k<8)(f b):bN 342 #[(aK S (6+27*k)),eX f b] w (.tuple #[]) fun e=>Qu s oZ w S bw bl bi (M.dA k {M.out k with nt:=(M.out k).nt.aw f.aO}) e:=
 (UU (6+27*k) (M.out k).nt f b h.cK (h.ntL k a)).mono fun _ _ ⟨c,_,q,d⟩=>⟨c,h.qnu k a _ q d⟩
def Xz(h:gq oZ s w S l M bw bl bi vc)(k)(b:k<8)(f c)(a:Bh (M.out k).eH)(e:vV f):bN 319 #[(aK S (4+27*k)),eX f c] w (.tuple #[]) fun g=>Qu s oZ w S bw bl bi (M.dA k ((M.out k).aw f)) g:=
 (ED s (s+1+5*k) (4+27*k) (M.out k) f c w h.cK h.ow aj (h.out k b) a e).mono fun _ _ ⟨d,q⟩=>⟨d,h.qah k b _ q⟩
def XA(h:gq oZ s w S l M bw bl bi vc)(f a):bN 396 #[aK S 221,eX f a] w (.tuple #[]) fun d=>Qu s oZ w S bw bl bi {M with gr:=M.gr.cm f.aN} d:=
 (Uw 221 M.gr f a h.cK h.cells.gr).mono fun _ _ ⟨b,_,q,c⟩=>⟨b,h.gr1 _ q c⟩
def XB(h:gq oZ s w S l M bw bl bi vc)(k)(a:k<8)(f b):bN 396 #[(aK S (18+27*k)),eX f b] w (.tuple #[]) fun e=>Qu s oZ w S bw bl bi (M.eZ k {M.bH k with gr:=(M.bH k).gr.cm f.aN}) e:=
 (Uw (18+27*k) (M.bH k).gr f b h.cK (h.inL k a)).mono fun _ _ ⟨c,_,q,d⟩=>⟨c,h.qnt k a _ q d⟩
def XC(h:gq oZ s w S l M bw bl bi vc)(k)(a:k<8)(f b):bN 394 #[(aK S (6+27*k)),eX f b] w (.tuple #[]) fun e=>Qu s oZ w S bw bl bi (M.dA k {M.out k with nt:=(M.out k).nt.cm f.aO}) e:=
 (qgh (6+27*k) (M.out k).nt f b h.cK (h.ntL k a)).mono fun _ _ ⟨c,_,q,d⟩=>⟨c,h.qnu k a _ q d⟩
def XD(h:gq oZ s w S l M bw bl bi vc)(k)(c:k<8)(f d)(b:Bh (M.out k).eH)(a:Bh (M.out k).aT)(g:vV f):bN 391 #[(aK S (4+27*k)),eX f d] w (.tuple #[]) fun i=>Qu s oZ w S bw bl bi (M.dA k ((M.out k).cm f)) i:=
 (qfi s (s+1+5*k) (4+27*k) (M.out k) f d h.cK h.ow aj h.s0 (h.out k c) b a g).mono fun _ _ ⟨e,q⟩=>⟨e,h.qah k c _ q⟩
def qai(h:gq oZ s w S l M bw bl bi vc)(f)(k:Nat)(g:k<8)(n:f.aF=(k:Int))(c)(i:f.aD=4->Bh (M.out k).eH/\vV f):Calls prog (BI f.aD) #[I5 S k f.aD,eX f c] w fun e m=>e=.returned (.tuple #[])/\Qu s oZ w S bw bl bi (M.iU f) m:=by
 have j:f.aF.toNat=k:=aj;unfold av.iU BI I5;rw[j];by_cases a:f.aD=4;.rw[dN a,dN a,dN a];exact Xz h k g f c (i a).1 (i a).2
 .rw[b_ a,b_ a,b_ a];by_cases b:f.aD=3;.rw[dN b,dN b,dN b];exact Xy h k g f c
  .rw[b_ b,b_ b,b_ b];by_cases d:f.aD=6;.rw[dN d,dN d];exact Xx h k g f c
   .rw[b_ d,b_ d];exact Xw h f c
def qaj(h:gq oZ s w S l M bw bl bi vc)(f)(k:Nat)(g:k<8)(n:f.aF=(k:Int))(c)(i:f.aD=4->Bh (M.out k).eH/\Bh (M.out k).aT/\vV f):Calls prog (iW f.aD) #[I5 S k f.aD,eX f c] w fun e m=>e=.returned (.tuple #[])/\Qu s oZ w S bw bl bi (M.gJ f) m:=by
 have j:f.aF.toNat=k:=aj;unfold av.gJ iW I5;rw[j];by_cases a:f.aD=4;.rw[dN a,dN a,dN a];exact XD h k g f c (i a).1 (i a).2.1 (i a).2.2
 .rw[b_ a,b_ a,b_ a];by_cases b:f.aD=3;.rw[dN b,dN b,dN b];exact XC h k g f c
  .rw[b_ b,b_ b,b_ b];by_cases d:f.aD=6;.rw[dN d,dN d];exact XB h k g f c
   .rw[b_ d,b_ d];exact XA h f c
end

end
end Go.Proofs.YtphbledmopchnaaGreatDoor.Sd
namespace Go.Proofs.YtphbledmopchnaaGreatDoor.Sd
open Go.RowKit Go.Lib Mm St Tryz
variable {S bi bl bw s:Nat}{l:bM}{oZ:Own}{w:Wq}
def av.sK(M:av)(j:Nat):av:=
 if j=0 then{M with gr:=M.gr.kY}else if j % 3=1 then M.dA (j / 3) (M.out (j / 3)).kY else if j % 3=2 then M.dA (j / 3) {M.out (j / 3)with nt:=(M.out (j / 3)).nt.kY}else M.eZ (j / 3-1) (iV (M.bH (j / 3-1)))
def av.xM(M:av):Nat->av
 |0=>M
 |n+1=>(M.xM n).sK n
def qal{α}(f):∀(A) (a) (B:List α),md (A++a::B) A.length f=A++f a::B
 |[],_,_=>rfl
 |x::A,a,B=>congrArg (x::·) (qal f A a B)
def Mx{α:Type}(d):∀(A) (a) (B:List α),(A++a::B).getD A.length d=a
 |[],_,_=>rfl
 |_::A,a,B=>Mx d A a B
theorem OL(M:av)(l:M.outs.length=8)(i:M.ins.length=8):∀k,k<=8->M.xM (1+3*k)={M with gr:=M.gr.kY,outs:=(M.outs.take k).map jN++M.outs.drop k,ins:=(M.ins.take k).map iV++M.ins.drop k}
 |0,_=>rfl
 |k+1,h=>by
  have j:k<M.outs.length:=aj;have c:k<M.ins.length:=aj;have f:=Jp j;have g:=Jp c;have d:((M.outs.take k).map jN).length=k:=by grind
  have e:((M.ins.take k).map iV).length=k:=by grind
  have p:(M.outs.take (k+1)).map jN=(M.outs.take k).map jN++[jN M.outs[k]]:=by grind
  have q:(M.ins.take (k+1)).map iV=(M.ins.take k).map iV++[iV M.ins[k]]:=by grind
  show(((M.xM (1+3*k)).sK (1+3*k)).sK (1+3*k+1)).sK (1+3*k+1+1)=_;rw[OL M l i k aj,p,q,f,g];generalize M.outs[k]=a;generalize M.ins[k]=b;generalize (M.outs.take k).map jN=A at d ⊢;generalize (M.ins.take k).map iV=B at e ⊢;generalize M.outs.drop (k+1)=r;generalize M.ins.drop (k+1)=s;have m:∀X:av,X.sK (1+3*k)=X.dA k (X.out k).kY:=fun X=>by unfold av.sK;rw[b_ aj,dN aj,show(1+3*k) / 3=k by omega]
  have n:∀X:av,X.sK (1+3*k+1)=X.dA k {X.out k with nt:=(X.out k).nt.kY}:=fun X=>by unfold av.sK;rw[b_ aj,b_ aj,dN aj,show(1+3*k+1) / 3=k by omega]
  have o:∀X:av,X.sK (1+3*k+1+1)=X.eZ k (iV (X.bH k)):=fun X=>by unfold av.sK;rw[b_ aj,b_ aj,b_ aj,show(1+3*k+1+1) / 3-1=k by omega]
  rw[m,n,o];subst d;unfold av.dA av.eZ av.out av.bH;simp only[qal,Mx];rw[<-e];simp only[qal,Mx,lC,AA,pJ];rfl
theorem XG(M:av)(b:M.outs.length=8)(a:M.ins.length=8):M.xM 25={M with gr:=M.gr.kY,outs:=M.outs.map jN,ins:=M.ins.map iV}:=by have:=OL M b a 8 (aI _);grind
theorem Sv(M:av)(j k):((M.sK j).out k).aT=(M.out k).aT:=by
 unfold av.sK;split;.rfl
 .split
  .rw[gL];split;.rename_i h;rw[h.1];rfl
   .rfl
  .split;.grind [gL]
   .rfl
def He(M:av)(k):∀j,((M.xM j).out k).aT=(M.out k).aT
 |0=>rfl
 |j+1=>(Sv _ j k).trans (He M k j)
def lT(j:Nat):Nat:=if j % 3=1 then 282 else if j % 3=2 then 335 else 336
def lP(S j:Nat):Wx:=(aK S (if j=0 then 221 else if j % 3=1 then 4+27*(j / 3)else if j % 3=2 then 6+27*(j / 3)else 18+27*(j / 3-1)))
def lN(j:Nat):Nat:=if j % 3=1 then 392 else if j % 3=2 then 395 else 397
def qam(S):∀k j,j<1+3*k->(bks S k)[j]?=some (.iface (lT j) (lP S j))
 |0,j,h=>by obtain rfl:j=0:=aj;rfl
 |k+1,j,h=>by
  show(bks S k++bk3 S k)[j]?=_;by_cases a:j<1+3*k;.rw[Av (by rw[EM];exact a)];exact qam S k j a
  .rw[Nq (by rw[EM];omega),EM];unfold lT lP;have b:j=1+3*k\/j=1+3*k+1\/j=1+3*k+2:=aj;rcases b with rfl|rfl|rfl;.rw[dN aj,b_ aj,dN aj,Co,show(1+3*k) / 3=k by omega,<-show 4+k*27=4+27*k by omega];rfl
   .rw[b_ aj,dN aj,b_ aj,b_ aj,dN aj,show 1+3*k+1-(1+3*k)=1 by omega,show(1+3*k+1) / 3=k by omega,<-show 4+k*27+2=6+27*k by omega];rfl
   .rw[b_ aj,b_ aj,b_ aj,b_ aj,b_ aj,show 1+3*k+2-(1+3*k)=2 by omega,show(1+3*k+2) / 3-1=k by omega,<-show 4+k*27+14=18+27*k by omega];rfl
def qgo(S j w):(method 518 (lT j) (lP S j) "Lose").run prog w=.ok (lN j,lP S j) w:=by
 obtain⟨o,c⟩:∃o,lP S j=(aK S o):=⟨_,rfl⟩;rw[c];unfold lT lN;by_cases a:j % 3=1;.rw[dN a,dN a];exact Xi _ _ _
 .by_cases b:j % 3=2;.rw[b_ a,b_ a,dN b,dN b];exact Xl _ _ _
  .rw[b_ a,b_ a,b_ b,b_ b];exact Xo _ _ _
def qan{M f}(h:gq oZ s w S l M bw bl bi f)(j)(i:j<25)(d:∀k,(M.out k).aT.rs.length<=1000000):Calls prog (lN j) #[lP S j] w fun e g=>e=.returned (.tuple #[])/\je s oZ w S bw bl bi (M.sK j) g:=by
 unfold av.sK lN lP;by_cases c:j=0;.subst c;exact qac h
 .rw[b_ c,b_ c];by_cases a:j % 3=1;.rw[dN a,dN a,dN a];exact qaf h _ aj (d _)
  .rw[b_ a,b_ a,b_ a];by_cases b:j % 3=2;.rw[dN b,dN b,dN b];exact qae h _ aj
   .rw[b_ b,b_ b,b_ b];exact qad h _ aj
theorem gq.ways{aX w' M g T}(h:gq oZ s w S l M bw bl bi g)(K:Kp T oZ aX w w')(p:∀x∈T,x=s+42\/x=s+43\/x<s\/s+45<=x/\(x<s+53\/s+55<x))(d f)(j:wE aX (s+42) (s+44) w' bw d)(i:wE aX (s+43) (s+44) w' bl f):gq aX s w' S l {M with aM:=d,bV:=f} bw bl bi g:=by
 have a:∀x,s<=x->x<s+42->x∉T:=fun x m n o=>by grind
 have c:=h.cells;exact⟨by rw[K.ext S h.cK.lt,h.ow],h.s0,bW h.cK K (by rw[h.ow];grind),⟨c.len,c.c0,c.c1,c.c2,c.c3,c.uq,c.gr,c.vW,c.vX,c.rZ,c.qo,c.qI,c.rA,c.uW,c.qp,c.jP,c.sW,c.r_,c.uw,c.uX,c.rC,c.xB⟩,fun k b=>(h.out k b).kp K (a _ aj aj) (a _ aj aj) (a _ aj aj) (ni.refl l (4+27*k+14) 0) aj,fun k b=>(h.bH k b).kp K (a _ aj aj) (a _ aj aj) (ni.refl l (18+27*k+13) 0) aj,h.row.kp K (a _ aj aj),j,i,(h.qu.kp K (fun e=>by grind) (fun e=>by grind) (fun e=>by grind)).eq rfl,h.lo,h.li⟩
