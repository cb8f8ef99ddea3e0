import Derived.Test.YtphbledmopchnaaGreatDoorLde
import Derived.Test.YtphbledmopchnaaGreatDoorLec
set_option maxHeartbeats 1000000
set_option maxRecDepth 100000
namespace Go.Proofs.YtphbledmopchnaaGreatDoor.Sd
open Go.RowKit Go.Lib Mm Tryz
section
theorem CJ{α:Type}(x:Option α)(f:α->Fr):∃(g:Fr) (b:Bool),kX (x.map f)=.tuple #[fM g nZ,.bool b]/\b=x.isSome/\∀y,x=some y->g=f y:=by
 cases x with
 |none=>exact⟨iM,false,rfl,rfl,fun y h=>by cases h⟩
 |some a=>exact⟨f a,true,rfl,rfl,fun y h=>by cases h;rfl⟩
theorem GU{α:Type}(d:α):∀(l:List α) (k:Nat),md l k (fun _=>l.getD k d)=l
 |[],_=>rfl
 |_::_,0=>rfl
 |a::t,k+1=>congrArg (a::·) (GU d t k)
theorem QZ(M:av)(k:Nat):M.dD k (M.out k)=M:=by unfold av.dD av.out;rw[GU]
theorem Q5(M:av)(k:Nat):M.eG k (M.bF k)=M:=by unfold av.eG av.bF;rw[GU]
theorem zw{oZ:Own}{s:Nat}{w W y a:World}{S bw bl bi ab:Nat}{M:av}{aF:bW}(h:AnM oZ s w ab aF)(hs:0<s)(i:bJ w W)(gQ:w.heap.size<W.heap.size){α:Type}(r:Option (Fr×α))(upd:α->av)(g:Fr)(b:Bool)(hb:b=r.isSome)(k:∀y,r=some y->g=y.1)(l:∀y,r=some y->y.1.ranges=[])(q:jC s (loc oZ w.heap.size) W S bw bl bi ((r.map fun x=>upd x.2).getD M) y)(ht:nE w.heap.size y a)(e:Ending)(j:e=.returned (.tuple #[fM g nZ,.bool b])):kY oZ s w S bw bl bi ab M aF (r.map fun x=>(x.1,upd x.2,aF)) e a:=by
 obtain⟨aY,K,f⟩:=Yz h hs i gQ q ht;refine⟨(g,none,0,0),b,aY,j,by rw[hb];cases r<;>rfl,K,?_,?_⟩
 ·cases r with
  |none=>exact f
  |some x=>exact f
 ·intro y c;cases r with
  |none=>cases c
  |some x=>simp only[Option.map_some,Option.some.injEq]at c;subst c;have d:=k x rfl;exact⟨d,SI.none aY s a g (by rw[d];exact l x rfl)⟩
section
variable {oZ:Own} {s:Nat} {w0:World} {S bw bl bi ab:Nat}
theorem Q6(k:Nat)(E:k<8)(H b2 b3:Nat)(h1:Bx oZ s w0 H 282 (aI S (4+27*k)))(J:Bx oZ s w0 b2 3 (iZ k))(L:Bx oZ s w0 b3 128 (aI S 0)):lI oZ s w0 S bw bl bi ab 266 #[] #[aI H 0,aI b2 0,aI b3 0] (fun M _=>(M.out k).aK M.aN) fun M aF au=>((M.out k).next k au M.aN).map fun x=>(x.1,M.dD k x.2,aF):=by
 intro aY w M aF au K hE h F j;obtain⟨l,vc,t,N⟩:=hE;obtain⟨W,a⟩:=bZ (w.alloc (.cells pJ.toArray 65));have c:bJ w W:=by rw[a];exact(Below.refl _ w).alloc (Nat.le_refl _) _
 have z:aS W w.heap.size 65 pJ:=by rw[a];exact aS.new w 65 _
 have gQ:w.heap.size<W.heap.size:=by rw[a];simp
 have n:=t.loc c;have x1:=((h1.kp K).below c).cell;have x2:=((J.kp K).below c).cell;have x3:=((L.kp K).below c).cell;have T:=h.dw t.lo k E;have A:(M.out k).dw+M.aN<18446744073709551616:=by
  have:=h.lm;unfold av.aN;unfold dK at *
  omega
 have d:∀q,bJ W (W.drewN q):=fun q=>⟨rfl,rfl,rfl,Nat.le_refl _,fun _ _=>rfl⟩;have Q:Hid (∀q,Calls prog 265 #[aI S 0] (W.drewN q) fun e w'=>e=.returned (uZ M.aN)/\w'=W.drewN q):=fun q=>ES _ s S l M bw bl bi vc (W.drewN q) (n.below (d q)) h.sp h.lm;obtain⟨g,b,D,u,B⟩:=CJ ((M.out k).next k au M.aN) Prod.fst;have G:Hid (∀q,Calls prog 267 #[(aI S (4+27*k)),iZ k,iZ au,uZ M.aN] (W.drewN q) fun e w'=>e=.returned (.tuple #[fM g nZ,.bool b])/\aS w' w.heap.size 65 pJ/\Hid (jC s (loc aY w.heap.size) W S bw bl bi ((((M.out k).next k au M.aN).map fun x=>M.dD k x.2).getD M) w')):=fun q=>by
  have hq:=n.below (d q);refine bN (YM s (s+1+5*k) _ S (4+27*k) (M.out k) k E au M.aN l (W.drewN q) hq.cZ hq.ow hq.s0 aj (hq.out k E) (h.ob k) A (h.oa k) F j) ?_;rintro w' hO;have p:ko s (s+1+5*k) (loc aY w.heap.size) S (4+27*k) l W _ w':=ko.after (d q) hO;refine⟨by rw[D],?_,?_⟩;·obtain⟨gu,l2,U,_⟩:=p;exact cO z U (by rw[iX _ _ _ (Nat.le_refl _)];have:=t.s0;simp;omega)
  ·cases O:(M.out k).next k au M.aN with
   |none=>rw[O]at p;have:=n.dD k E _ p;have e0:M.dD k (M.out k)=M:=QZ M k;simp only[Option.map_none,Option.getD_none]at this;rw[e0]at this;exact this
   |some x=>rw[O]at p;exact n.dD k E _ p
 have I:Hid (∀y,(M.out k).next k au M.aN=some y->y.1.ranges=[]):=fun y m=>by
  rw[OB]at m;split at m;·cases m
  ·rename_i f hf;split at m;·cases m
   ·have:=Option.some.inj m;rw[<-this,(zq hf).2];rfl
 have P:Hid (∀y r,jC s (loc aY w.heap.size) W S bw bl bi ((((M.out k).next k au M.aN).map fun x=>M.dD k x.2).getD M) y->nE w.heap.size y r->kY aY s w S bw bl bi ab M aF (((M.out k).next k au M.aN).map fun x=>(x.1,M.dD k x.2,aF)) (.returned (.tuple #[fM g nZ,.bool b])) r):=fun y r q ht=>zw N t.s0 c gQ _ (fun o=>M.dD k o) g b u B I.out q ht _ rfl;show Calls prog 266 #[iZ au,aI H 0,aI b2 0,aI b3 0] w fun e w'=>kY aY s w S bw bl bi ab M aF (((M.out k).next k au M.aN).map fun x=>(x.1,M.dD k x.2,aF)) e w';generalize (((M.out k).next k au M.aN).map fun x=>(x.1,M.dD k x.2,aF))=X at *
 generalize ((((M.out k).next k au M.aN).map fun x=>M.dD k x.2).getD M)=M' at *
 generalize M.aN=C at *
 clear D u B I A T n t N h F h1 J L K d z c gQ;unfold fM at G;unfold pJ at a;go_enter func266,ntmps266;go_wp2_with fail;rw[<-a];clear a;go_region_with (first|(go_at_call 265;refine bN (Q.out _) ?_;rintro y rfl)|(go_at_call 267;refine bN (G.out _) ?_;rintro y ⟨i,R⟩;obtain⟨y0,y1,y2,y3,y4,y5,y6,y7,y8,y9,yf⟩:=bL i;have xA:=aG i;clear i));all_goals
  clear G;go_wp2_with fail;go_simp;rw[gT];have kr:=gI xA.out (iZ g.aC) (iZ g.aH) (uZ g.aD) (uZ g.aV) (uZ g.aL) (.bool g.bn) (uZ g.id) (uZ g.aW) (.string g.data) nZ;have qZ:=gJ y w.heap.size (iZ g.aC) (iZ g.aH) (uZ g.aD) (uZ g.aV) (uZ g.aL) (.bool g.bn) (uZ g.id) (uZ g.aW) (.string g.data) nZ;generalize kF y w.heap.size (iZ g.aC) (iZ g.aH) (uZ g.aD) (uZ g.aV) (uZ g.aL) (.bool g.bn) (uZ g.id) (uZ g.aW) (.string g.data) nZ=r at *
  obtain⟨V,Y,Z,a3,a4,a5,a6,a7,a8,a9,_⟩:=bL kr;exact bodyPost_ret (v:=.tuple #[fM g nZ,.bool b]) (by simp[results,results266,go_sem,V,Y,Z,a3,a4,a5,a6,a7,a8,a9,fM]) rfl (P.out y r R.out qZ)
end

