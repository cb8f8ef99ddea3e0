import Derived.Test.YtphbledmopchnaaGreatDoorVcd
import Derived.Test.YtphbledmopchnaaGreatDoorVce
open List renaming length_append->eT,mem_range->fE
open Prod renaming fst->eB
set_option maxHeartbeats 4000000
set_option maxRecDepth 100000
open Go renaming World->Wq,Value->Wx,Calls->WA,bodyPost_ret->VH,Addr->XK
set_option linter.all false
namespace Go.Proofs.YtphbledmopchnaaGreatDoor.Sd
open Go.RowKit Go.Lib Mm Tryz
variable {D:Nat->Src}{L:List FV}{M:av}{P:Nat->Prop}{Q T a l:List Nat}{S b bi bl bw d g p s t u x:Nat}{aX fH oZ:Own}{c f i m v:Wx}{w w' w0:Wq}
def SV:Wx:=.agg #[iZ 0,.nilFunc,.nilFunc,.bool false]
def qo4:LA 300 304 SV 4 32:=⟨bZ,bZ,fun n=>by simp[SV,Builtin.zeroCells,Value.cells],fun n v a=>by simp[SV,Builtin.zeroCells,Value.cells]at a;obtain⟨i,_,rfl⟩:=a;have:i % 4=0\/i % 4=1\/i % 4=2\/i % 4=3:=aj;rcases this with h|h|h|h<;>rw[h]<;>rfl,aj⟩
structure Er (oZ:Own) (t:Nat) (D:Nat->Src) (w:Wq) (p:Nat) (v:Wx) (Q:List Nat):Prop where
 op:oZ p=t+1
 pb:aS w p 300 [v]
 sr:GT oZ t 304 4 w v Q.length (qC D Q)
theorem Dl(D):∀(Q) (u),qC D (Q++[u])=qC D Q++kI (D u)
 |[],u=>by simp[qC]
 |x::Q,u=>by show kI (D x)++qC D (Q++[u])=(kI (D x)++qC D Q)++kI (D u);rw[Dl D Q u,lC]
theorem qbb(oZ t D w p v Q u)(C:Q.length<=1000)(h:Er oZ t D w p v Q):bN 377 #[aK p 0,.iface 304 (.agg #[(iZ (D u).u),.func (D u).f1 (D u).p1 (D u).k1,.func (D u).f2 (D u).p2 (D u).k2,.bool (D u).y])] w (.tuple #[]) fun f=>Hid (∃g A,Er g t D f p A (Q++[u])/\Kp [t,t+1] oZ g w f):=by
 obtain⟨a,c,rfl,_,_⟩:=h.sr.shape;have H:w.cell? (aA p 0)=some (.slice a Q.length c):=h.pb.cell 0;have m:=h.pb.lt;obtain⟨W,r⟩:=bU ((w.alloc (.cells (kI (D u)).toArray 304)).drew);have z:aS W w.heap.size 304 (kI (D u)):=by rw[r];exact aS.new w 304 _
 have d:bJ w W:=by rw[r];have b:=(bP w.heap.size w).alloc (aI _) (.cells (kI (D u)).toArray 304);exact⟨b.os,b.tape,b.output,b.size,b.block⟩
 obtain⟨A,f,g,run,s,q⟩:=gI qo4 (h.sr.kp (T:=[]) (Kp.below d) aR) (aA w.heap.size 0) 1 1 (kI (D u)) aR (Gc _) (fun j x F=>by
  have e:(aA w.heap.size 0).add j=(aA w.heap.size j):=by simp[Addr.add];omega
  rw[e,z.cell,F]) aj
 have i:=bW (h.pb.of_heap (d.block _ m)) q (by rw[h.op];simp);obtain⟨n,o,rfl,_,_⟩:=s.shape;have G:=i.cell 0;have I:=i.frozen 0;simp only[jh]at G;have k:g p=t+1:=by rw[q.ext _ (gK m d.size),h.op]
 have l:Kp [t+1] g g f (f.setCell (aA p 0) (.slice n (Q.length+1) o)):=((nP.refl p f).set 0 _).kpt (by grind);have B:Hid (∃g y,Er g t D (f.setCell (aA p 0) (.slice n (Q.length+1) o)) p y (Q++[u])/\Kp [t,t+1] oZ g w (f.setCell (aA p 0) (.slice n (Q.length+1) o))):=by refine⟨g,.slice n (Q.length+1) o,⟨k,i.setCell 0 _,?_⟩,(((Kp.below d).trans (q.mono aR)).trans (l.mono aR))⟩;rw[Dl,lM];exact s.kp l aR
 have E:∀f,(Instr.typeAssert (.iface 304 (.agg #[(iZ (D u).u),.func (D u).f1 (D u).p1 (D u).k1,.func (D u).f2 (D u).p2 (D u).k2,.bool (D u).y])) 20 304 false).run prog f=.ok (.agg #[(iZ (D u).u),.func (D u).f1 (D u).p1 (D u).k1,.func (D u).f2 (D u).p2 (D u).k2,.bool (D u).y]) f:=fun _=>bZ;rw[r]at run;clear s q i k l z d r h C;go_enter func377,ntmps377;go_wp2_with fail;go_region_law (refine iL _ (by rfl) _ _ _ _ (by rfl) _ _ (by rfl) (by rfl) _ _ (run _) ?_)
 all_goals go_wp2_with fail
 all_goals go_end0
 all_goals exact⟨rfl,B⟩
def Er.hp(h:Er oZ t D w p v Q)(a:0<Q.length):∃g c,v=(dB g Q.length c)/\Bv oZ t D w p g c Q:=by
 have b:=h.sr;rcases b with⟨_,d,_⟩|⟨g,cap,cs,rfl,ho,h3⟩;.omega
 .exact⟨g,cap,rfl,h.op,h.pb,ho,h.sr⟩
def Bv.hq{c}(h:Bv oZ t D w p g c Q):Er oZ t D w p (dB g Q.length c) Q:=⟨h.op,h.pb,h.sr.2⟩
def U5:∀(k) (l) (j),(El k l j).length=l.length
 |0,_,_=>rfl
 |k+1,l,j=>by
  simp only[El];split;.rfl
  .rw[U5 k,nu]
theorem XU(oZ t D)(A:∀u:Nat,(D u).u=(u:Int))(w p v Q u)(B:Q.length<1000)(h:Er oZ t D w p v Q):bN 244 #[.iface 250 (aK p 0),.iface 304 (.agg #[(iZ (D u).u),.func (D u).f1 (D u).p1 (D u).k1,.func (D u).f2 (D u).p2 (D u).k2,.bool (D u).y])] w (.tuple #[]) fun F=>Hid (∃d i,Er d t D F p i (eY Q u)/\Kp [t,t+1] oZ d w F):=by
 have k:=aG (qbb oZ t D w p v Q u aj h);obtain⟨n,C⟩:=bU Q.length;have H:=aG (dz C B);have K:n<1000:=aj;have J:=qkx p;have M:(n:Int)+1-1=(n:Int):=aj;clear C B h;generalize (.agg #[(iZ (D u).u),.func (D u).f1 (D u).p1 (D u).k1,.func (D u).f2 (D u).p2 (D u).k2,.bool (D u).y]:Wx)=O at *
 go_enter func244,ntmps244;go_wp2_with fail;refine bK k.out ?_;rintro y m;obtain⟨o,N,q,r⟩:=m.out;obtain⟨g,c,rfl,f⟩:=q.hp aR;have a:(Q++[u]).length=n+1:=by have:=H.out.1;simp;omega
 have E:y.cell? (aA p 0)=some (dB g (n+1) c):=by rw[f.pb.cell,<-a];rfl
 have I:=qjd p y _ _ _ E;have e:=aG (EI (some (aA g 0)) (n+1) c y);have l:=aG (qfy o t D A y p g c (Q++[u]) n aj aj f);have j:=aG r;have b:Hid (eY Q u=El (n+1) (Q++[u]) n):=by unfold Hid eY;grind
 clear q r f E a m k A;go_wp2_with fail;refine bK e.out ?_;rintro z rfl;go_wp2_with fail;refine bK l.out ?_;rintro G ⟨s,x⟩;have L:Hid (∃d i,Er d t D G p i (eY Q u)/\Kp [t,t+1] oZ d w G):=by rw[b.out];exact⟨o,_,s.hq,j.out.trans (x.mono aR)⟩
 clear s x l j b;go_wp2_with fail;go_end0;grind
def Er.below{oZ t D w w' p v Q}(h:Er oZ t D w p v Q)(a:bJ w w'):Er oZ t D w' p v Q:=
 ⟨h.op,h.pb.of_heap (a.block _ h.pb.lt),h.sr.kp (T:=[]) (Kp.below a) aR⟩
theorem EN(oZ t D)(g:∀u:Nat,(D u).u=(u:Int))(w p v Q u)(i:Q.length<1000)(h:Er oZ t D w p v Q):bN 199 #[aK p 0,.agg #[(iZ (D u).u),.func (D u).f1 (D u).p1 (D u).k1,.func (D u).f2 (D u).p2 (D u).k2,.bool (D u).y]] w (.tuple #[]) fun c=>Hid (∃a d,Er a t D c p d (eY Q u)/\Kp [t,t+1] oZ a w c):=by
 obtain⟨W,e⟩:=bU (w.alloc (.cells (kI (D u)).toArray 304));have b:bJ w W:=by rw[e];exact(bP _ w).alloc (aI _) _
 have f:Hid (bN 244 #[.iface 250 (aK p 0),.iface 304 (.agg #[(iZ (D u).u),.func (D u).f1 (D u).p1 (D u).k1,.func (D u).f2 (D u).p2 (D u).k2,.bool (D u).y])] W (.tuple #[]) fun c=>Hid (∃a d,Er a t D c p d (eY Q u)/\Kp [t,t+1] oZ a w c)):=by refine bK (XU oZ t D g W p v Q u i (h.below b)) ?_;rintro c ⟨a,d,j,k⟩;exact⟨rfl,a,d,j,(Kp.below b).trans k⟩
 clear g h i b;unfold kI at e;generalize D u=s at *
 go_enter func199,ntmps199;go_wp2_with fail;rw[<-e];refine bK f.out ?_;rintro y l;clear f e;go_wp2_with fail;go_end0;grind
section
theorem qli{n:Nt}{k r a y}(h:n.next k r a=some y):y.1=ou k n.aC r:=by grind [Nt.next,Option.some.inj]
section
variable {oZ:Own} {s:Nat} {w0:Wq} {S bw bl bi ab:Nat}
theorem MF(k)(H:k<8)(J L)(T:Bx oZ s w0 J 282 (aK S (4+27*k)))(U:Bx oZ s w0 L 3 (iZ k)):DW oZ s w0 S bw bl bi ab 259 #[] #[aK J 0,aK L 0] (fun M _=>(M.out k).nt.aL (M.out k).aB.length) fun M j d=>((M.out k).nt.next k (M.out k).aB.length d).map fun x=>(x.1,M.dA k {M.out k with nt:=x.2},j):=by
 intro F w M j d K hE O D;have A:(M.out k).nt.bG=true:=by have:((M.out k).nt.bG&&_)=true:=D;grind
 obtain⟨B,C⟩:=O.nt k A;obtain⟨l,vc,G,V⟩:=hE;obtain⟨W,i⟩:=bU (w.alloc (.cells nO.toArray 65));have f:bJ w W:=by rw[i];exact(bP _ w).alloc (aI _) _
 have t:aS W w.heap.size 65 nO:=by grind [aS.new]
 have iD:w.heap.size<W.heap.size:=by rw[i];simp
 have n:=G.loc f;have P:∀q,bJ W (W.drewN q):=fun q=>⟨rfl,rfl,rfl,aI _,fun _ _=>rfl⟩;have x1:=((T.kp K).below f).cell;have x2:=((U.kp K).below f).cell;obtain⟨g,b,z,r,u⟩:=BH ((M.out k).nt.next k (M.out k).aB.length d) eB;have I:Hid (bN 260 #[(aK S (4+27*k)),iZ k,iZ d] W (.tuple #[eX g nZ,.bool b]) fun E=>aS E w.heap.size 65 nO/\Hid (je s (loc F w.heap.size) W S bw bl bi ((((M.out k).nt.next k (M.out k).aB.length d).map fun x=>M.dA k {M.out k with nt:=x.2}).getD M) E)):=by
  obtain⟨a,c,va,lJ,Y,hc,_⟩:=(n.out k H).open n.cK;refine bK (Jg (4+27*k) (M.out k).nt (M.out k).aB.length c a k H d n.cK (O.ob k) Y.c0 Y.nt (dx C kX) B) ?_;rintro E ⟨l',N,Q⟩;refine⟨by rw[z],N.other t (fT G.cK.lt),?_⟩;cases Z:(M.out k).nt.next k (M.out k).aB.length d with
  |none=>rw[Z]at Q;have:=n.ont k H _ (by rw[show 6+27*k=4+27*k+2 by omega];exact N) (by rw[show 6+27*k=4+27*k+2 by omega];exact Q);rw[show({M.out k with nt:=((Option.map Prod.snd (none:Option (Fr×Nt))).getD (M.out k).nt)}:Ot)=M.out k from rfl,Kh]at this;exact this
  |some x=>rw[Z]at Q;exact n.ont k H _ (by rw[show 6+27*k=4+27*k+2 by omega];exact N) (by grind)
 have R:Hid (∀y,(M.out k).nt.next k (M.out k).aB.length d=some y->y.1.ranges=[]):=fun y hy=>by rw[qli hy];rfl
 have HE:Hid (∀y p,je s (loc F w.heap.size) W S bw bl bi ((((M.out k).nt.next k (M.out k).aB.length d).map fun x=>M.dA k {M.out k with nt:=x.2}).getD M) y->nP w.heap.size y p->kr F s w S bw bl bi ab M j (((M.out k).nt.next k (M.out k).aB.length d).map fun x=>(x.1,M.dA k {M.out k with nt:=x.2},j)) (.returned (.tuple #[eX g nZ,.bool b])) p):=fun y p q ht=>yE V G.s0 f iD _ (fun o=>M.dA k {M.out k with nt:=o}) g b r u R.out q ht _ rfl;show WA prog 259 #[iZ d,aK J 0,aK L 0] w fun e E=>kr F s w S bw bl bi ab M j (((M.out k).nt.next k (M.out k).aB.length d).map fun x=>(x.1,M.dA k {M.out k with nt:=x.2},j)) e E;generalize (((M.out k).nt.next k (M.out k).aB.length d).map fun x=>(x.1,M.dA k ({M.out k with nt:=x.2}:Ot),j))=X at *
 generalize ((((M.out k).nt.next k (M.out k).aB.length d).map fun x=>M.dA k ({M.out k with nt:=x.2}:Ot)).getD M)=M' at *
 clear z r u R n G V O T U K P t f iD D A B C;unfold eX at I;unfold nO at i;subst i;go_enter func259,ntmps259;go_wp2_with (first|(go_at_call 260;refine bK I.out ?_;rintro y ⟨m,HP⟩;obtain⟨y0,y1,y2,y3,y4,y5,y6,y7,y8,y9,yf⟩:=bF m;have wu:=aG m;clear m)|go_in);all_goals
  clear I;rw[gX];have kW:=gD wu.out (iZ g.aD) (iZ g.aF) (uZ g.aC) (uZ g.aO) (uZ g.aN) (.bool g.bL) (uZ g.id) (uZ g.aJ) (.string g.data) nZ;have qm:=gF y w.heap.size (iZ g.aD) (iZ g.aF) (uZ g.aC) (uZ g.aO) (uZ g.aN) (.bool g.bL) (uZ g.id) (uZ g.aJ) (.string g.data) nZ;generalize kC y w.heap.size (iZ g.aD) (iZ g.aF) (uZ g.aC) (uZ g.aO) (uZ g.aN) (.bool g.bL) (uZ g.id) (uZ g.aJ) (.string g.data) nZ=p at *
  obtain⟨a0,a1,a2,a3,a4,a5,a6,a7,a8,a9,_⟩:=bF kW;exact VH (v:=.tuple #[eX g nZ,.bool b]) (by simp[results,results259,go_sem,a0,a1,a2,a3,a4,a5,a6,a7,a8,a9,eX]) rfl (HE.out y p HP.out qm)
end

end
theorem qps(S N n f B:Nat)(d w g b)(o:Wx->Wq->Prop)(Q:Wx->Wq->Prop)(l:g=w.alloc (.cells #[uZ N,.slice d n f] 56))(m:b=g.setCell (aA S 229) (uZ ((N:Int)+1)))(A:b.heap.size=w.heap.size+1)(y:B=w.heap.size)(z:N<4611686018427387903)(F:w.cell? (aA S 229)=some (uZ N))(G:g.cell? (aA S 229)=some (uZ N))(H:g.frozen? (aA S 229)=false)(D:b.cell? (aA B 0)=some (uZ N))(E:b.cell? (aA B 1)=some (.slice d n f))(r:bN 182 #[.slice d n f] b (.bool false) fun c=>bJ b c)(p:∀W,bJ b W->WA prog 167 #[.agg #[uZ N,.slice d n f]] W fun e c=>∃v,e=.returned (.tuple #[v,.nilIface])/\(o v c/\∀k,v.ownBlock=some k->W.heap.size<=k)/\bJ W c)(q:∀v W j,(o v j/\∀k,v.ownBlock=some k->W.heap.size<=k)->bJ b W->bJ W j->Q v j):WA prog 158 #[aK S 0,.slice d n f] w fun e c=>∃v,e=.returned v/\Q v c:=by subst y;subst l;have i:=aG r;have s:=aG p;have t:=aG q;clear r p q;go_enter func158,ntmps158;go_wp2_with (first|(go_at_call 182;rw[<-m];refine bK i.out ?_;rintro C a;have J:=(cell_of D (a.block _ (by grind)));have K:=(cell_of E (a.block _ (by grind))))|(go_at_call 167;refine(s.out C a).mono ?_;rintro e I ⟨v,rfl,u,x⟩)|go_in);go_ret;exact⟨v,rfl,t.out v _ _ u a x⟩
theorem qpt(S N n i B bw z m:Nat)(g w A d)(E:Option XK->Nat->Wq->Prop)(G:Wq->Prop)(P:Wx->Wq->Prop)(Q:Wx->Wq->Prop)(H:A=w.alloc (.cells #[uZ N,.slice g n i] 56))(u:d=A.setCell (aA S 229) (uZ ((N:Int)+1)))(x:d.heap.size=w.heap.size+1)(hB:B=w.heap.size)(t:S<w.heap.size)(J:N<4611686018427387903)(n0:w.cell? (aA S 229)=some (uZ N))(n1:A.cell? (aA S 229)=some (uZ N))(nf:A.frozen? (aA S 229)=false)(L:d.cell? (aA B 0)=some (uZ N))(M:d.cell? (aA B 1)=some (.slice g n i))(O:d.cell? (aA S 3)=some (uZ z))(p:d.cell? (aA S 230)=some (.map (some bw)))(hw:bN 182 #[.slice g n i] d (.bool true) fun b=>bJ d b)(X:∀W,bJ d W->WA prog 212 #[.slice g n i] W fun e b=>∃a c,e=.returned (.slice a m c)/\E a c b/\bJ W b)(hu:∀a c W,bJ d W->E a c W->∃j,(Instr.mapUpdate 203 (.map (some bw)) (uZ N) (.agg #[.slice a m c,uZ z])).run prog W=.ok () j/\G j/\d.grownBy j (some bw)/\j.cell? (aA B 0)=some (uZ N)/\j.cell? (aA B 1)=some (.slice g n i))(Y:∀W,d.grownBy W (some bw)->WA prog 167 #[.agg #[uZ N,.slice g n i]] W fun e b=>∃v,e=.returned (.tuple #[v,.nilIface])/\(P v b/\∀k,v.ownBlock=some k->W.heap.size<=k)/\bJ W b)(Z:∀v W j,(P v j/\∀k,v.ownBlock=some k->W.heap.size<=k)->G W->bJ W j->Q v j):WA prog 158 #[aK S 0,.slice g n i] w fun e b=>∃v,e=.returned v/\Q v b:=by
 subst hB;subst H;have s:=aG hw;have HE:=aG Y;have HQ:=aG Z;have R:=aG X;have T:=aG hu;have HS:=aG (dz x t);have HX:=aG (dz L (dz M (dz O p)));have I:Hid (∀W,bJ d W->W.cell? (aA w.heap.size 0)=some (uZ N)/\W.cell? (aA w.heap.size 1)=some (.slice g n i)/\W.cell? (aA S 3)=some (uZ z)/\W.cell? (aA S 230)=some (.map (some bw))):=fun W C=>⟨cell_of L (C.block _ (by grind)),cell_of M (C.block _ (by grind)),cell_of O (C.block _ (by grind)),cell_of p (C.block _ (by grind))⟩;clear hw Y Z X hu L M O p x t;go_enter func158,ntmps158;go_wp2_with (first|(go_at_call 182;rw[<-u];refine bK s.out ?_;rintro D f)|go_in);obtain⟨y0,y1,y3,K⟩:=I.out D f;have r:Hid (∀q,WA prog 212 #[.slice g n i] (D.drewN q) fun e b=>∃a c,e=.returned (.slice a m c)/\Hid (E a c b/\bJ d b)/\(b.cell? (aA w.heap.size 0)=some (uZ N)/\b.cell? (aA w.heap.size 1)=some (.slice g n i)/\b.cell? (aA S 3)=some (uZ z)/\b.cell? (aA S 230)=some (.map (some bw)))/\∃F:Wq,(Instr.mapUpdate 203 (.map (some bw)) (uZ N) (.agg #[.slice a m c,uZ z])).run prog b=.ok () F/\Hid (G F/\d.grownBy F (some bw))/\F.cell? (aA w.heap.size 0)=some (uZ N)/\F.cell? (aA w.heap.size 1)=some (.slice g n i)):=fun q=>by have o:bJ d (D.drewN q):=⟨f.os,f.tape,f.output,f.size,f.block⟩;refine(R.out (D.drewN q) o).mono ?_;rintro e b ⟨a,c,rfl,U,h2⟩;have l:=o.trans (h2.mono o.size);obtain⟨F,u1,u2,u3,u4,u5⟩:=T.out a c b l U;exact⟨a,c,rfl,⟨U,l⟩,I.out b l,F,u1,⟨u2,u3⟩,u4,u5⟩
 clear R T s I J n0 n1 nf u f HX HS;go_region_with (first|(go_at_call 212;refine(r.out _).mono ?_;rintro e y ⟨a,c,rfl,hA,⟨y0,y1,y3,K⟩,F,hF,V,f0,f1⟩));all_goals
  clear r;go_wp2_with (first|(go_at_call 167;refine(HE.out F V.out.2).mono ?_;rintro e w3 ⟨v,rfl,e1,e3⟩)|go_in);go_ret;exact⟨v,rfl,HQ.out v _ _ e1 V.out.1 e3⟩
structure Gd (oZ:Own) (w:Wq):Prop where
 tab:mM w
 o1:oZ 1=0
 sz:2<=w.heap.size
def Gd.kp(h:Gd oZ w)(K:Kp T oZ aX w w')(a:0∉T):Gd aX w':=
 ⟨fun k b=>cell_of (h.tab k b) (K.cK 1 (fT h.sz) (by rw[h.o1];exact a)),by rw[K.ext 1 (fT h.sz),h.o1],dx h.sz K.size⟩
def oH.qfq{l}(h:oH w b l){o}(c:w.cell? (aA x o)=some v):x≠b:=fun e=>by obtain⟨g,⟨f,d,a,_⟩,_⟩:=h;subst e;simp[World.cell?,a]at c
theorem rX.heap{f e}(h:rX w b d f e g)(a:b≠S)(k:∀x,e=some x->x.block≠S)(c:∀x o v,x≠S->w.cell? (aA x o)=some v->w'.cell? (aA x o)=some v):rX w' b d f e g:=
 ⟨c _ _ _ a h.c0,c _ _ _ a h.c1,c _ _ _ a h.c2,c _ _ _ a h.c3,c _ _ _ a h.c4,c _ _ _ a h.c5,c _ _ _ a h.c6,c _ _ _ a h.c7,c _ _ _ a h.c8,c _ _ _ a h.c9,fun j i=>by obtain⟨x,o,l,m,n,p⟩:=h.vF j i;grind,h.Fj,h.Fp,h.k0,h.s0,h.u0⟩
def ru.heap{w w' a g f k S}(h:ru w a g f k)(c:∀x,a=some x->x.block≠S)(d:∀j x,f j=some x->x.block≠S)(q:∀x o v,x≠S->w.cell? (aA x o)=some v->w'.cell? (aA x o)=some v)(r:w.heap.size<=w'.heap.size):ru w' a g f k:=fun j p=>by obtain⟨b,e,i,l,m,n⟩:=h j p;exact⟨b,e,i,rX.heap l (c _ i) (d j) q,m,fun x s=>gK (n x s) r⟩
def zX{l}(d:oH w b l)(e:w.grownBy w' (some b)):∀x o v,w.cell? (aA x o)=some v->w'.cell? (aA x o)=some v:=fun x o v c=>cell_of c (e.block x (iq (a:=(aA x o)) _ c) (by simpa using d.qfq c))
theorem wE.add{l}(n p a c f)(i:oZ b=t)(j:∀x∈l,GT oZ g 65 10 w (.slice (f x.1).1 x.2.bQ.length (f x.1).2) x.2.bQ.length (mP x.2.bQ))(q:∀x∈l,x.1≠n)(m:oH w' b ((n,a,p.bQ.length,c,p.aV)::l.map (Ni f)))(K:Kp T oZ aX w w')(h:g∉T)(o:b<w.heap.size)(r:GT aX g 65 10 w' (.slice a p.bQ.length c) p.bQ.length (mP p.bQ)):wE aX t g w' b (l++[(n,p)]):=by
 refine⟨fun k=>if k=n then(a,c)else f k,by rw[K.ext b o,i],?_,fun x d=>?_⟩
 .have e:(l++[(n,p)]).map (Ni fun k=>if k=n then(a,c)else f k)=l.map (Ni f)++[(n,a,p.bQ.length,c,p.aV)]:=by
   rw[Dv];congr 1
   .refine QA fun x d=>?_;unfold Ni;grind
   .simp[Ni]
  rw[e];exact m.perm (List.perm_append_comm (l₁:=[_]))
 .rcases iJ.1 d with d|d;.simp only[b_ (q x d)];exact(j x d).kp K h
  grind
theorem Oj:∀L,(∀x∈L,x.2=(none,0,0))->vI L=mP (L.map eB)
 |[],_=>rfl
 |x::t,h=>by
  have e:rW x=nZ:=by grind [rW]
  show f_ x.1 (rW x)++vI t=f_ x.1 nZ++mP (t.map eB);rw[e,Oj t fun y a=>h y (by simp[a])]
def gq.pkt{l}(h:gq oZ s w S l M bw bl bi f)(n:Nat)(d)(K:Kp [s,s+42] oZ aX w w')(g:aS w' S TS (l.set 229 (uZ n)))(i:wE aX (s+42) (s+44) w' bw d):gq aX s w' S (l.set 229 (uZ n)) {M with next:=n,aM:=d} bw bl bi f:=by
 have b:ni l (l.set 229 (uZ n)) 229 1:=ni.set l 229 _ 229 1 aj aj;have e:∀j,j≠229->(l.set 229 (uZ n))[j]?=l[j]?:=fun j a=>Ay aj;have c:=h.cells;refine⟨by rw[K.ext S h.cK.lt,h.ow],h.s0,g,⟨by rw[yV];exact c.len,(e _ aj).trans c.c0,(e _ aj).trans c.c1,(e _ aj).trans c.c2,(e _ aj).trans c.c3,(e _ aj).trans c.uq,c.gr.iB b aj,(e _ aj).trans c.vW,(e _ aj).trans c.vX,(e _ aj).trans c.rZ,(e _ aj).trans c.qo,Nr (by rw[c.len];omega),(e _ aj).trans c.rA,(e _ aj).trans c.uW,(e _ aj).trans c.qp,(e _ aj).trans c.jP,(e _ aj).trans c.sW,(e _ aj).trans c.r_,(e _ aj).trans c.uw,(e _ aj).trans c.uX,(e _ aj).trans c.rC,(e _ aj).trans c.xB⟩,fun j a=>?_,fun j a=>?_,?_,i,?_,(h.qu.kp K aR aR aR).eq rfl,h.lo,h.li⟩;.exact(h.out j a).kp K dZ dZ dZ b aj
 .exact(h.bH j a).kp K dZ dZ b aj
 .exact h.row.kp K aR
 .exact h.bV.kp K aR aR
def JZ(oZ:Own)(s n:Nat):Own:=fun b=>if b<n then oZ b else s+47
theorem LV(oZ s n b)(h:b<n):JZ oZ s n b=oZ b:=dN h
def oo(oZ s n b)(h:n<=b):JZ oZ s n b=s+47:=b_ aj
def qpv(s:Nat)(oZ:Own)(w:Wq)(S:Nat)(bw bl bi:Nat)(M:av)(b:List Fr)(v:Wx)(w':Wq):Prop:=
 nT w' v (bT M.next b)/\nH w.heap.size v/\∃a c d,gq a s w' S c (M.eO b) bw bl bi d/\Kp [s,s+42] oZ a w w'/\∀k,v.ownBlock=some k->a k=s+47
theorem Wv{l vc q}(L r ra rc)(h:gq oZ s w S l M bw bl bi vc)(hG:Gd oZ w)(hn:M.next<4611686018427387903)(hk:∀x∈M.aM,x.1<M.next)(xl:M.aM.length<100000)(h0:0<L.length)(hl:L.length<=1000)(hF:Rd 10 w (.slice q L.length r) L.length (vI L))(hV:Bn w q L)(hA:ru w q (L.map eB) ra rc)(hr:∀x∈L,LU x.1=false->x.2=(none,0,0))(U:∀x,q=some x->x.block≠S)(he:∀j x,ra j=some x->x.block≠S)(xe:vT M.next (L.map eB)=true)(x4:(gM M.next (L.map eB)).length<=1000000000):WA prog 158 #[aK S 0,.slice q L.length r] w fun e O=>∃v,e=.returned v/\qpv s oZ w S bw bl bi M (L.map eB) v O:=by
 have Ol:=h.cK.lt;obtain⟨F,J⟩:=bU (w.alloc (.cells #[uZ M.next,.slice q L.length r] 56));have C:bJ w F:=by rw[J];exact(bP _ w).alloc (aI _) _
 have x7:aS F w.heap.size 56 [uZ M.next,.slice q L.length r]:=by grind [aS.new]
 have x9:F.heap.size=w.heap.size+1:=by rw[J];simp
 obtain⟨p,n⟩:=bU (F.setCell (aA S 229) (uZ ((M.next:Int)+1)));have R:=h.cK.of_heap (C.block S Ol);have I:aS p S TS (l.set 229 (uZ (((M.next+1:Nat)):Int))):=by rw[n];exact R.setCell 229 _
 have ha:aS p w.heap.size 56 [uZ M.next,.slice q L.length r]:=by rw[n];exact x7.of_heap (jg _ _ _ _ (by grind))
 have A:Kp [s] oZ oZ w p:=by rw[n];exact(Kp.below C).trans (Kp.set oZ F _ _ [s] (by show oZ S∈[s];rw[h.ow];simp))
 have D:∀x o v,x≠S->w.cell? (aA x o)=some v->p.cell? (aA x o)=some v:=fun x o v hx hc=>by have xa:=iq (a:=(aA x o)) _ hc;rw[n];exact cell_of hc ((jg F (aA S 229) _ x hx).trans (C.block x xa))
 have hf:p.heap.size=w.heap.size+1:=by rw[n];simp[x9]
 have x3:Bn p q L:=fun j hj=>by obtain⟨b,xd,H,Z⟩:=hV j hj;refine⟨b,xd,H,fun i hi=>?_⟩;have:=Z i hi;rw[wH (by simpa using hi)]at this ⊢;grind
 have hw:Rd 10 p (.slice q L.length r) L.length (vI L):=by
  rcases hF with h|⟨g,cap,H,Z,h3,h4,h5⟩;.exact .inl h
  .simp only[nR,true_and]at H;exact .inr ⟨g,cap,by simp[H],aj,h3,fun j u hj=>D _ _ _ (U _ H.1) (h4 j u hj),h5⟩
 have hA1:=ru.heap hA U he D aj;have hu:=hG.kp A (by simp;have:=h.s0;omega);have G:=aG (JX q L r p aj x3);have xi:=h.Ar;obtain⟨f,x5,N,x6⟩:=xi;have xj:bw≠S:=fun e=>by have:=h.ow;grind
 have B:oH p bw (M.aM.map (Ni f)):=N.kept (by rw[n];exact(jg F (aA S 229) _ bw xj).trans (C.block bw N.lt));have HE:Hid (∀W,p.grownBy W (some bw)->WA prog 167 #[.agg #[uZ M.next,.slice q L.length r]] W fun e O=>∃v,e=.returned (.tuple #[v,.nilIface])/\(nT O v (bT M.next (L.map eB))/\∀k,v.ownBlock=some k->W.heap.size<=k)/\bJ W O):=fun W z=>by have h8:=zX B z;have hA2:=ru.heap hA1 U he (fun x o v _ hc=>h8 x o v hc) z.size;have:=FK M.next (L.map eB) r ra rc dZ hA2 xe (fun k m=>h8 _ _ _ (hu.tab k m)) (dx hu.sz z.size) x4;rw[mH]at this;refine this.mono ?_;rintro e O ⟨v,H,Z,h3,h4⟩;exact⟨v,H,⟨Z,h3⟩,h4⟩
 have x0:p.cell? (aA w.heap.size 0)=some (uZ M.next):=ha.cell 0;have x1:p.cell? (aA w.heap.size 1)=some (.slice q L.length r):=ha.cell 1;have n0:=(h.cK.cell _).trans h.cells.qI;have n1:=(R.cell _).trans h.cells.qI;have nf:=R.frozen 229;cases ho:fZ (L.map eB)
 .rw[ho]at G;have HQ:Hid (∀W,bJ p W->∃X Y,gq (JZ oZ s w.heap.size) s W S X (M.eO (L.map eB)) bw bl bi Y/\Kp [s,s+42] oZ (JZ oZ s w.heap.size) w W):=fun W t=>by
   have e:M.eO (L.map eB)={M with next:=M.next+1,aM:=M.aM}:=by grind [av.eO]
   rw[e];have K0:Kp [s,s+42] oZ oZ w W:=(A.mono aR).iQ t;have K:Kp [s,s+42] oZ (JZ oZ s w.heap.size) w W:=⟨K0.os,K0.tape,K0.output,K0.size,K0.cK,fun b d=>LV oZ s _ b d⟩;have Kx:Kp [s] oZ (JZ oZ s w.heap.size) w p:=⟨A.os,A.tape,A.output,A.size,A.cK,fun b d=>LV oZ s _ b d⟩;exact⟨_,vc,h.pkt (M.next+1) M.aM K (fD t I) ((h.Ar.kp Kx aR aR).kp (Kp.below (T:=[]) t) aR aR),K⟩
  refine qps S M.next L.length r w.heap.size q w F p _ _ J n hf rfl aj n0 n1 nf x0 x1 G.out (fun W t=>HE.out W ((jM t).but _)) (fun v W Q a b c=>?_);obtain⟨X,Y,q1,q2⟩:=HQ.out Q (b.trans (c.mono b.size));have h6:∀k,v.ownBlock=some k->w.heap.size<=k:=fun k m=>dx (fT b.size) (a.2 k m);exact⟨a.1,h6,_,X,Y,q1,q2,fun k m=>oo _ _ _ _ (h6 k m)⟩
 .rw[ho]at G;have xo:(L.filter fun x=> !LU x.1).map eB=again (L.map eB):=by
   unfold again;rw[zF];rfl
  have xf:(L.filter fun x=> !LU x.1).length=(again (L.map eB)).length:=by grind
  have x8:vI (L.filter fun x=> !LU x.1)=mP (again (L.map eB)):=by grind [Oj]
  have hv:Hid (∀W,bJ p W->WA prog 212 #[.slice q L.length r] W fun e O=>∃a c,e=.returned (.slice a (again (L.map eB)).length c)/\(fO 65 10 O (.slice a (again (L.map eB)).length c) (again (L.map eB)).length (mP (again (L.map eB)))/\nH w.heap.size (.slice a (again (L.map eB)).length c))/\bJ W O):=fun W t=>by have:=Wu q L r W aj h0 (hw.below t);rw[xf,x8]at this;refine this.mono ?_;rintro e O ⟨a,c,H,Z,h3,h4⟩;exact⟨a,c,H,⟨Z,fun k m=>dx (fT t.size) (h3 k m)⟩,h4⟩
  refine qpt S M.next L.length r w.heap.size bw M.aV (again (L.map eB)).length q w F p _ (fun W=>∃P X Y,gq P s W S X (M.eO (L.map eB)) bw bl bi Y/\Kp [s,s+42] oZ P w W/\w.heap.size<=W.heap.size/\∀b,W.heap.size<=b->P b=s+47) _ _ J n hf rfl Ol aj n0 n1 nf x0 x1 ?_ ?_ G.out hv.out ?_ HE.out ?_;.rw[I.cell,Ay aj];exact h.cells.c3
  .rw[I.cell,Ay aj];exact h.cells.rA
  .rintro a c W t ⟨V,h7⟩;have x2:=B.kept (t.block _ B.lt);obtain⟨Q,u1,u2,u3⟩:=x2.put (by grind) (M.next,a,(again (L.map eB)).length,c,M.aV) aj (fun y hy=>by
    obtain⟨x,hx,rfl⟩:=jH.1 hy;have:=hk x hx;show x.1≠M.next;omega)
   have z:=((jM t).but (some bw)).andThen u3 (fun j hj=>.inr hj);refine⟨Q,u1,?_,z,zX B z _ _ _ x0,zX B z _ _ _ x1⟩;obtain⟨P,E⟩:=bU (fun b=>if b<w.heap.size then oZ b else if b<Q.heap.size then s+44 else s+47:Own);have K:Kp [s,s+42] oZ P w Q:=by have k1:w.grownBy p (some S):=⟨A.os,A.tape,A.output,A.size,fun i hi xp=>by rw[n];exact(jg F (aA S 229) _ i (by grind)).trans (C.block i hi)⟩;refine⟨z.os.trans k1.os,z.tape.trans k1.tape,z.output.trans k1.output,dx k1.size z.size,fun b d h9=>?_,fun b d=>by grind⟩;have e1:b≠S:=fun e=>h9 (by rw[e,h.ow];simp);have e2:b≠bw:=fun e=>h9 (by grind);exact(z.block b aj (by grind)).trans (k1.block b d (by grind))
   have e:M.eO (L.map eB)={M with next:=M.next+1,aM:=M.aM++[(M.next,⟨again (L.map eB),M.aV⟩)]}:=by grind [av.eO]
   rw[e];refine⟨P,_,vc,h.pkt (M.next+1) _ K (I.of_heap (z.block S aj (by grind))) ?_,K,K.size,fun b d=>by rw[E];show(if b<w.heap.size then oZ b else if b<Q.heap.size then s+44 else s+47)=_;rw[b_ (fT K.size),b_ aj]⟩;refine wE.add M.next ⟨again (L.map eB),M.aV⟩ a c f x5 x6 (fun x hx=>by grind) u2 K aR N.lt ?_;refine GT.VU ?_ fun b d=>?_;.refine V.of_heap fun b d=>u3.block b (V.lt b d) (fun e=>?_);have:=h7 b d;have:=N.lt;grind
   .rw[E];have xm:=h7 b d;have xn:=gK (V.lt b d) u3.size;grind
  .rintro v W Q ⟨e1,e2⟩ ⟨P,X,Y,u1,u2,u4,u3⟩ t;exact⟨e1,fun k m=>dx u4 (e2 k m),P,X,Y,u1.below t,u2.iQ t,fun k m=>u3 k (e2 k m)⟩
abbrev qL(x:Src):Wx:=.agg #[iZ x.u,.func x.f1 x.p1 x.k1,.func x.f2 x.p2 x.k2,.bool x.y]
structure mF (oZ:Own) (s:Nat) (w0:Wq) (S bw bl bi ab:Nat) (x:Src) (iw wG:av->bY->Bool) (nx:av->bY->Int->Option (Fr×av×bY)):Prop where
 fn:∃n1 n2,x.f1=.func n1/\x.f2=.func n2/\(∀args w,(callFunc n1 args).run prog w=.ok (.enter n1 args) w)/\(∀args w,(callFunc n2 args).run prog w=.ok (.enter n2 args) w)/\
  sJ oZ s w0 S bw bl bi ab n1 x.p1 x.k1 iw/\vK oZ s w0 S bw bl bi ab n2 x.p2 x.k2 wG nx
def mF.kp{oZ b s w0 d S bw bl bi a x c e nx}(h:mF oZ s w0 S bw bl bi a x c e nx)(K:Kp (Tb s) oZ b w0 d):mF b s d S bw bl bi a x c e nx:=by obtain⟨m,n,f,g,i,j,k,l⟩:=h.fn;exact⟨m,n,f,g,i,j,k.kp K,l.kp K⟩
structure XV (oZ:Own) (s:Nat) (w0:Wq) (S bw bl bi ab:Nat) (x:Src) (iw wG:av->bY->Bool) (nx:av->bY->Int->Option (Fr×av×bY)):Prop where
 fn:∃n1 n2,x.f1=.func n1/\x.f2=.func n2/\(∀args w,(callFunc n1 args).run prog w=.ok (.enter n1 args) w)/\(∀args w,(callFunc n2 args).run prog w=.ok (.enter n2 args) w)/\
  sJ oZ s w0 S bw bl bi ab n1 x.p1 x.k1 iw/\DW oZ s w0 S bw bl bi ab n2 x.p2 x.k2 wG nx
def Ic(a:bJ w w'):Kp [] oZ (JZ oZ s w.heap.size) w w':=⟨a.os,a.tape,a.output,a.size,fun b h _=>a.block b h,fun b h=>LV oZ s _ b h⟩
def zB{m x o q nx}(w)(h:mF oZ s w S bw bl bi m x o q nx):WA prog 205 #[aK S 0,qL x] w fun e p=>∃d,e=.returned (qL d)/\bJ w p/\d.u=x.u/\d.y=x.y/\mF (JZ oZ s w.heap.size) s p S bw bl bi m d (fun M r=> !M.full&&o M r) q nx:=by
 go_enter func205,ntmps205;go_wp2;obtain⟨a,c⟩:=bU (.func (.func 261) #[] #[aK w.heap.size 0,(aK (w.heap.size+1+1+1) 0)]:Wx);rw[<-c];have f:=aS.new w 128 [aK S 0];have D:=aS.new (w.alloc (.cells #[aK S 0] 128)) 304 [iZ x.u,a,.func x.f2 x.p2 x.k2,.bool x.y];have b:=aS.new ((w.alloc (.cells #[aK S 0] 128)).alloc (.cells #[iZ x.u,a,.func x.f2 x.p2 x.k2,.bool x.y] 304)) 304 [iZ x.u,a,.func x.f2 x.p2 x.k2,.bool x.y];have g:=aS.new (((w.alloc (.cells #[aK S 0] 128)).alloc (.cells #[iZ x.u,a,.func x.f2 x.p2 x.k2,.bool x.y] 304)).alloc (.cells #[iZ x.u,a,.func x.f2 x.p2 x.k2,.bool x.y] 304)) 28 [.func x.f1 x.p1 x.k1];have n:bJ w ((((w.alloc (.cells #[aK S 0] 128)).alloc (.cells #[iZ x.u,a,.func x.f2 x.p2 x.k2,.bool x.y] 304)).alloc (.cells #[iZ x.u,a,.func x.f2 x.p2 x.k2,.bool x.y] 304)).alloc (.cells #[.func x.f1 x.p1 x.k1] 28)):=((((bP _ w).alloc (aI _) _).alloc aR _).alloc dZ _).alloc dZ _;replace f:=((f.alloc (.cells #[iZ x.u,a,.func x.f2 x.p2 x.k2,.bool x.y] 304)).alloc (.cells #[iZ x.u,a,.func x.f2 x.p2 x.k2,.bool x.y] 304)).alloc (.cells #[.func x.f1 x.p1 x.k1] 28);replace b:=b.alloc (.cells #[.func x.f1 x.p1 x.k1] 28);simp only[yU]at b g;generalize ((((w.alloc (.cells #[aK S 0] 128)).alloc (.cells #[iZ x.u,a,.func x.f2 x.p2 x.k2,.bool x.y] 304)).alloc (.cells #[iZ x.u,a,.func x.f2 x.p2 x.k2,.bool x.y] 304)).alloc (.cells #[.func x.f1 x.p1 x.k1] 28))=W at *
 have i:=b.cell 0;have j:=b.cell 1;have k:=b.cell 2;have l:=b.cell 3;simp only[jh,gN]at i j k l;refine VH (v:=.agg #[iZ x.u,a,.func x.f2 x.p2 x.k2,.bool x.y]) (by simp[results,results205,go_sem,i,j,k,l]) rfl ⟨⟨x.u,.func 261,#[],#[aK w.heap.size 0,(aK (w.heap.size+1+1+1) 0)],x.f2,x.p2,x.k2,x.y⟩,by rw[c],n,rfl,rfl,?_⟩;obtain⟨E,C,t,u,y,z,A,B⟩:=h.fn;have K:Kp (Tb s) oZ (JZ oZ s w.heap.size) w W:=(Ic n).mono aR;rw[t]at g;exact⟨261,C,rfl,u,enters_of func261 bZ rfl,z,R4 _ _ y ⟨oo _ _ _ _ (aI _),f⟩ ⟨oo _ _ _ _ aj,g⟩ (A.kp K),B.kp K⟩
def SX(w):WA prog 202 #[aK S 0] w fun e n=>∃g,e=.returned (qL g)/\bJ w n/\g.u=8/\g.y=false/\XV (JZ oZ s w.heap.size) s n S bw bl bi p g (fun M _=>M.gr.aL M.aP) (fun M _=>M.gr.aL M.aP) (fun M o q=>(M.gr.next 5 0 M.aP q).map fun x=>(x.1,{M with gr:=x.2},o)):=by
 go_enter func202,ntmps202;go_wp2;obtain⟨b,d⟩:=bU (.func (.func 250) #[] #[aK w.heap.size 0]:Wx);obtain⟨c,f⟩:=bU (.func (.func 253) #[] #[aK w.heap.size 0]:Wx);rw[<-d,<-f];have i:=((aS.new w 128 [aK S 0]).alloc (.cells #[iZ 8,b,c,.bool false] 304));have a:=aS.new (w.alloc (.cells #[aK S 0] 128)) 304 [iZ 8,b,c,.bool false];have r:=(((bP _ w).alloc (aI _) (.cells #[aK S 0] 128)).alloc wh (.cells #[iZ 8,b,c,.bool false] 304));simp only[yU]at a;generalize ((w.alloc (.cells #[aK S 0] 128)).alloc (.cells #[iZ 8,b,c,.bool false] 304))=W at *
 have j:=a.cell 0;have k:=a.cell 1;have l:=a.cell 2;have m:=a.cell 3;simp only[jh,gN]at j k l m;refine VH (v:=.agg #[(iZ (8)),b,c,.bool false]) (by simp[results,results202,go_sem,j,k,l,m]) rfl ⟨⟨8,.func 250,#[],#[aK w.heap.size 0],.func 253,#[],#[aK w.heap.size 0],false⟩,by rw[d,f],r,rfl,rfl,?_⟩;exact⟨250,253,rfl,rfl,enters_of func250 bZ rfl,enters_of func253 bZ rfl,Ma _ ⟨oo _ _ _ _ aj,i⟩,Mw _ ⟨oo _ _ _ _ aj,i⟩ _⟩
def MG(k:Nat)(o:k<8)(w):WA prog 203 #[aK S 0,iZ k] w fun e p=>∃g,e=.returned (qL g)/\bJ w p/\g.u=16+(k:Int)/\g.y=false/\XV (JZ oZ s w.heap.size) s p S bw bl bi t g (fun M _=>(M.bH k).fF) (fun M _=>(M.bH k).fF) (fun M r u=>((M.bH k).gr.next 6 k (M.bH k).aP u).map fun x=>(x.1,M.eZ k {M.bH k with gr:=x.2},r)):=by
 have z:(k:Int)<8:=aj;go_enter func203,ntmps203;go_wp2;go_region
 go_wp2;rw[show 4+k*27+14=18+27*k by omega];obtain⟨a,d⟩:=bU (.func (.func 255) #[(aK S (18+27*k))] #[]:Wx);obtain⟨b,f⟩:=bU (.func (.func 256) #[] #[(aK (w.heap.size+1+1) 0),aK w.heap.size 0]:Wx);rw[<-d,<-f];have q:=aS.drew (((((aS.new w 3 [iZ k]).alloc (.cells #[(iZ (16+(k:Int))),a,b,.bool false] 304))).alloc (.cells #[(aK S (18+27*k))] 333)));have c:=aS.drew (((aS.new (w.alloc (.cells #[iZ k] 3)) 304 [(iZ (16+(k:Int))),a,b,.bool false]).alloc (.cells #[(aK S (18+27*k))] 333)));have i:=aS.drew (aS.new ((w.alloc (.cells #[iZ k] 3)).alloc (.cells #[(iZ (16+(k:Int))),a,b,.bool false] 304)) 333 [(aK S (18+27*k))]);have y:=(⟨((((bP _ w).alloc (aI _) (.cells #[iZ k] 3)).alloc wh (.cells #[(iZ (16+(k:Int))),a,b,.bool false] 304)).alloc wh (.cells #[(aK S (18+27*k))] 333)).os,((((bP _ w).alloc (aI _) (.cells #[iZ k] 3)).alloc wh (.cells #[(iZ (16+(k:Int))),a,b,.bool false] 304)).alloc wh (.cells #[(aK S (18+27*k))] 333)).tape,((((bP _ w).alloc (aI _) (.cells #[iZ k] 3)).alloc wh (.cells #[(iZ (16+(k:Int))),a,b,.bool false] 304)).alloc wh (.cells #[(aK S (18+27*k))] 333)).output,((((bP _ w).alloc (aI _) (.cells #[iZ k] 3)).alloc wh (.cells #[(iZ (16+(k:Int))),a,b,.bool false] 304)).alloc wh (.cells #[(aK S (18+27*k))] 333)).size,((((bP _ w).alloc (aI _) (.cells #[iZ k] 3)).alloc wh (.cells #[(iZ (16+(k:Int))),a,b,.bool false] 304)).alloc wh (.cells #[(aK S (18+27*k))] 333)).block⟩:bJ w (((w.alloc (.cells #[iZ k] 3)).alloc (.cells #[(iZ (16+(k:Int))),a,b,.bool false] 304)).alloc (.cells #[(aK S (18+27*k))] 333)).drew);simp only[yU]at c i;generalize (((w.alloc (.cells #[iZ k] 3)).alloc (.cells #[(iZ (16+(k:Int))),a,b,.bool false] 304)).alloc (.cells #[(aK S (18+27*k))] 333)).drew=W at *
 have j:=c.cell 0;have l:=c.cell 1;have m:=c.cell 2;have n:=c.cell 3;simp only[jh,gN]at j l m n;refine VH (v:=.agg #[(iZ (16+(k:Int))),a,b,.bool false]) (by simp[results,results203,go_sem,j,l,m,n]) rfl ⟨⟨16+(k:Int),.func 255,#[(aK S (18+27*k))],#[],.func 256,#[],#[(aK (w.heap.size+1+1) 0),aK w.heap.size 0],false⟩,by rw[d,f],y,rfl,rfl,?_⟩;exact⟨255,256,rfl,rfl,enters_of func255 bZ rfl,enters_of func256 bZ rfl,Gw k o,G_ k o _ _ ⟨oo _ _ _ _ aj,i⟩ ⟨oo _ _ _ _ aj,q⟩ _⟩
def SY(k:Nat)(o:k<8)(w):WA prog 204 #[aK S 0,iZ k] w fun e p=>∃g,e=.returned (qL g)/\bJ w p/\g.u=24+(k:Int)/\g.y=false/\XV (JZ oZ s w.heap.size) s p S bw bl bi t g (fun M _=>(M.out k).nt.aL (M.out k).aB.length) (fun M _=>(M.out k).nt.aL (M.out k).aB.length) (fun M r u=>((M.out k).nt.next k (M.out k).aB.length u).map fun x=>(x.1,M.dA k {M.out k with nt:=x.2},r)):=by
 have z:(k:Int)<8:=aj;go_enter func204,ntmps204;go_wp2;go_region
 go_wp2;rw[show 4+k*27=4+27*k by omega];obtain⟨a,d⟩:=bU (.func (.func 258) #[(aK S (4+27*k))] #[]:Wx);obtain⟨b,f⟩:=bU (.func (.func 259) #[] #[(aK (w.heap.size+1+1) 0),aK w.heap.size 0]:Wx);rw[<-d,<-f];have q:=aS.drew (((((aS.new w 3 [iZ k]).alloc (.cells #[(iZ (24+(k:Int))),a,b,.bool false] 304))).alloc (.cells #[(aK S (4+27*k))] 282)));have c:=aS.drew (((aS.new (w.alloc (.cells #[iZ k] 3)) 304 [(iZ (24+(k:Int))),a,b,.bool false]).alloc (.cells #[(aK S (4+27*k))] 282)));have i:=aS.drew (aS.new ((w.alloc (.cells #[iZ k] 3)).alloc (.cells #[(iZ (24+(k:Int))),a,b,.bool false] 304)) 282 [(aK S (4+27*k))]);have y:=(⟨((((bP _ w).alloc (aI _) (.cells #[iZ k] 3)).alloc wh (.cells #[(iZ (24+(k:Int))),a,b,.bool false] 304)).alloc wh (.cells #[(aK S (4+27*k))] 282)).os,((((bP _ w).alloc (aI _) (.cells #[iZ k] 3)).alloc wh (.cells #[(iZ (24+(k:Int))),a,b,.bool false] 304)).alloc wh (.cells #[(aK S (4+27*k))] 282)).tape,((((bP _ w).alloc (aI _) (.cells #[iZ k] 3)).alloc wh (.cells #[(iZ (24+(k:Int))),a,b,.bool false] 304)).alloc wh (.cells #[(aK S (4+27*k))] 282)).output,((((bP _ w).alloc (aI _) (.cells #[iZ k] 3)).alloc wh (.cells #[(iZ (24+(k:Int))),a,b,.bool false] 304)).alloc wh (.cells #[(aK S (4+27*k))] 282)).size,((((bP _ w).alloc (aI _) (.cells #[iZ k] 3)).alloc wh (.cells #[(iZ (24+(k:Int))),a,b,.bool false] 304)).alloc wh (.cells #[(aK S (4+27*k))] 282)).block⟩:bJ w (((w.alloc (.cells #[iZ k] 3)).alloc (.cells #[(iZ (24+(k:Int))),a,b,.bool false] 304)).alloc (.cells #[(aK S (4+27*k))] 282)).drew);simp only[yU]at c i;generalize (((w.alloc (.cells #[iZ k] 3)).alloc (.cells #[(iZ (24+(k:Int))),a,b,.bool false] 304)).alloc (.cells #[(aK S (4+27*k))] 282)).drew=W at *
 have j:=c.cell 0;have l:=c.cell 1;have m:=c.cell 2;have n:=c.cell 3;simp only[jh,gN]at j l m n;refine VH (v:=.agg #[(iZ (24+(k:Int))),a,b,.bool false]) (by simp[results,results204,go_sem,j,l,m,n]) rfl ⟨⟨24+(k:Int),.func 258,#[(aK S (4+27*k))],#[],.func 259,#[],#[(aK (w.heap.size+1+1) 0),aK w.heap.size 0],false⟩,by rw[d,f],y,rfl,rfl,?_⟩;exact⟨258,259,rfl,rfl,enters_of func258 bZ rfl,enters_of func259 bZ rfl,Mc k o,MF k o _ _ ⟨oo _ _ _ _ aj,i⟩ ⟨oo _ _ _ _ aj,q⟩⟩
def mk_data(k:Nat)(q:k<8)(w):WA prog 206 #[aK S 0,iZ k] w fun e r=>∃g,e=.returned (qL g)/\bJ w r/\g.u=40+(k:Int)/\g.y=false/\mF (JZ oZ s w.heap.size) s r S bw bl bi u g (fun M _=>(M.out k).aL M.aU) (fun M _=>(M.out k).aL M.aU) (fun M t y=>((M.out k).next k y M.aU).map fun x=>(x.1,M.dA k x.2,t)):=by
 have A:(k:Int)<8:=aj;go_enter func206,ntmps206;go_wp2;go_region
 go_wp2;rw[show 4+k*27=4+27*k by omega];obtain⟨a,d⟩:=bU (.func (.func 263) #[] #[(aK (w.heap.size+1+1+1) 0),aK w.heap.size 0]:Wx);obtain⟨b,f⟩:=bU (.func (.func 266) #[] #[(aK (w.heap.size+1+1+1) 0),(aK (w.heap.size+1) 0),aK w.heap.size 0]:Wx);rw[<-d,<-f];have j:=aS.drew (((((((aS.new w 128 [aK S 0]).alloc (.cells #[iZ k] 3))).alloc (.cells #[(iZ (40+(k:Int))),a,b,.bool false] 304))).alloc (.cells #[(aK S (4+27*k))] 282)));have l:=aS.drew (((((aS.new (w.alloc (.cells #[aK S 0] 128)) 3 [iZ k]).alloc (.cells #[(iZ (40+(k:Int))),a,b,.bool false] 304))).alloc (.cells #[(aK S (4+27*k))] 282)));have c:=aS.drew (((aS.new ((w.alloc (.cells #[aK S 0] 128)).alloc (.cells #[iZ k] 3)) 304 [(iZ (40+(k:Int))),a,b,.bool false]).alloc (.cells #[(aK S (4+27*k))] 282)));have i:=aS.drew (aS.new (((w.alloc (.cells #[aK S 0] 128)).alloc (.cells #[iZ k] 3)).alloc (.cells #[(iZ (40+(k:Int))),a,b,.bool false] 304)) 282 [(aK S (4+27*k))]);have z:=(⟨(((((bP _ w).alloc (aI _) (.cells #[aK S 0] 128)).alloc wh (.cells #[iZ k] 3)).alloc wh (.cells #[(iZ (40+(k:Int))),a,b,.bool false] 304)).alloc wh (.cells #[(aK S (4+27*k))] 282)).os,(((((bP _ w).alloc (aI _) (.cells #[aK S 0] 128)).alloc wh (.cells #[iZ k] 3)).alloc wh (.cells #[(iZ (40+(k:Int))),a,b,.bool false] 304)).alloc wh (.cells #[(aK S (4+27*k))] 282)).tape,(((((bP _ w).alloc (aI _) (.cells #[aK S 0] 128)).alloc wh (.cells #[iZ k] 3)).alloc wh (.cells #[(iZ (40+(k:Int))),a,b,.bool false] 304)).alloc wh (.cells #[(aK S (4+27*k))] 282)).output,(((((bP _ w).alloc (aI _) (.cells #[aK S 0] 128)).alloc wh (.cells #[iZ k] 3)).alloc wh (.cells #[(iZ (40+(k:Int))),a,b,.bool false] 304)).alloc wh (.cells #[(aK S (4+27*k))] 282)).size,(((((bP _ w).alloc (aI _) (.cells #[aK S 0] 128)).alloc wh (.cells #[iZ k] 3)).alloc wh (.cells #[(iZ (40+(k:Int))),a,b,.bool false] 304)).alloc wh (.cells #[(aK S (4+27*k))] 282)).block⟩:bJ w ((((w.alloc (.cells #[aK S 0] 128)).alloc (.cells #[iZ k] 3)).alloc (.cells #[(iZ (40+(k:Int))),a,b,.bool false] 304)).alloc (.cells #[(aK S (4+27*k))] 282)).drew);simp only[yU]at l c i;generalize ((((w.alloc (.cells #[aK S 0] 128)).alloc (.cells #[iZ k] 3)).alloc (.cells #[(iZ (40+(k:Int))),a,b,.bool false] 304)).alloc (.cells #[(aK S (4+27*k))] 282)).drew=W at *
 have m:=c.cell 0;have n:=c.cell 1;have o:=c.cell 2;have p:=c.cell 3;simp only[jh,gN]at m n o p;refine VH (v:=.agg #[(iZ (40+(k:Int))),a,b,.bool false]) (by simp[results,results206,go_sem,m,n,o,p]) rfl ⟨⟨40+(k:Int),.func 263,#[],#[(aK (w.heap.size+1+1+1) 0),aK w.heap.size 0],.func 266,#[],#[(aK (w.heap.size+1+1+1) 0),(aK (w.heap.size+1) 0),aK w.heap.size 0],false⟩,by rw[d,f],z,rfl,rfl,?_⟩;exact⟨263,266,rfl,rfl,enters_of func263 bZ rfl,enters_of func266 bZ rfl,WS k q _ _ ⟨oo _ _ _ _ aj,i⟩ ⟨oo _ _ _ _ aj,j⟩,Xv k q _ _ _ ⟨oo _ _ _ _ aj,i⟩ ⟨oo _ _ _ _ aj,l⟩ ⟨oo _ _ _ _ aj,j⟩⟩
def MI(w):WA prog 207 #[aK S 0] w fun e n=>∃i,e=.returned (qL i)/\bJ w n/\i.u=32/\i.y=false/\mF (JZ oZ s w.heap.size) s n S bw bl bi p i (fun M _=>decide (0<M.aQ.length)) (fun M _=>decide (0<M.aQ.length)) (fun M o q=>if q<M.jc then none else M.aQ.head?.map fun f=>(f,{M with aQ:=M.aQ.tail,qv:=qtl M.qv},o)):=by
 go_enter func207,ntmps207;go_wp2;go_region
 go_wp2;obtain⟨a,c⟩:=bU (.func (.func 268) #[aK S 233] #[]:Wx);obtain⟨b,d⟩:=bU (.func (.func 269) #[aK S 233] #[]:Wx);rw[<-c,<-d];have g:=aS.drew (aS.new w 304 [iZ 32,a,b,.bool false]);have r:=(⟨((bP _ w).alloc (aI _) (.cells #[iZ 32,a,b,.bool false] 304)).os,((bP _ w).alloc (aI _) (.cells #[iZ 32,a,b,.bool false] 304)).tape,((bP _ w).alloc (aI _) (.cells #[iZ 32,a,b,.bool false] 304)).output,((bP _ w).alloc (aI _) (.cells #[iZ 32,a,b,.bool false] 304)).size,((bP _ w).alloc (aI _) (.cells #[iZ 32,a,b,.bool false] 304)).block⟩:bJ w (w.alloc (.cells #[iZ 32,a,b,.bool false] 304)).drew);generalize (w.alloc (.cells #[iZ 32,a,b,.bool false] 304)).drew=W at *
 have j:=g.cell 0;have k:=g.cell 1;have l:=g.cell 2;have m:=g.cell 3;simp only[jh,gN]at j k l m;refine VH (v:=.agg #[(iZ (32)),a,b,.bool false]) (by simp[results,results207,go_sem,j,k,l,m]) rfl ⟨⟨32,.func 268,#[aK S 233],#[],.func 269,#[aK S 233],#[],false⟩,by rw[c,d],r,rfl,rfl,?_⟩;exact⟨268,269,rfl,rfl,enters_of func268 bZ rfl,enters_of func269 bZ rfl,Gy,Gz⟩
section
def Dm(a:bY):Bool:=(List.range a.length).all (vP a)&&decide (a.length<=100)
theorem qhd{a}(h:Dm a=true)(n)(e:0<n)(f:n<=a.length):tN (a.take n)=true:=by
 unfold Dm at h;rw[iY]at h;unfold tN;rw[iY];have d:(a.take n).length=n:=by grind
 refine⟨wM.2 fun i b=>?_,decide_eq_true aj⟩;rw[d]at b;have c:=fE.1 b;have:=wM.1 h.1 i (fE.2 aj);grind [List.getElem?_take_of_lt,vP]
theorem MK{a c}(h:j_ w (some (aA d a)) c)(n):j_ w (some (aA d a)) (c.take n):=fun j e=>by rw[Au]at e;obtain⟨b,o,f,g,i,k⟩:=h j aj;grind
theorem qbc{a c}(h:j_ w (some (aA d a)) c)(n):j_ w (some (aA d (a+n*2))) (c.drop n):=fun j e=>by rw[Jo]at e;obtain⟨b,o,f,g,i,k⟩:=h (n+j) aj;grind
theorem qbd{a}(i:Dm a=true){c}(f:j_ w (some (aA c b)) a)(r:c<w.heap.size)(n)(o:0<n)(u:n<=a.length):bN 210 #[.agg #[iZ 2,iZ 0,uZ 0,uZ 0,uZ 0,.bool false,uZ 0,uZ 0,.string ⟨#[]⟩,.slice (some (aA c b)) n n]] w (iZ ((bf (iT (a.take n))).length:Int)) fun m=>bJ w m:=by
 have t:(a.take n).length=n:=by grind
 have l:a.length<=100:=by unfold Dm at i;grind
 have k:snd (iT (a.take n))=true:=by grind [qhd,snd,rY,oI,iT]
 have d:(bf (iT (a.take n))).length<=1000000:=by have p:=Ta (iT (a.take n));have q:(iT (a.take n)).data.size=0:=rfl;grind [iT]
 have:=um (iT (a.take n)) (some (aA c b)) n w ⟨k,⟨by show(a.take n).length<=_;omega,by show 0<=_;omega,by show(-9223372036854775808:Int)<=2/\(2:Int)<=_;omega,by show(-9223372036854775808:Int)<=0/\(0:Int)<=_;omega,by show(0:Nat)<_/\(0:Nat)<_/\(0:Nat)<_/\(0:Nat)<_/\(0:Nat)<_;omega,fun j h=>by obtain⟨_,_,_,_,_,g⟩:=MK f n j h;exact g⟩,MK f n,by show(a.take n).length<=n;omega,(fun x v=>by grind),d⟩;have e:eX (iT (a.take n)) (.slice (some (aA c b)) (iT (a.take n)).ranges.length n)=.agg #[iZ 2,iZ 0,uZ 0,uZ 0,uZ 0,.bool false,uZ 0,uZ 0,.string ⟨#[]⟩,.slice (some (aA c b)) n n]:=by show Value.agg _=Value.agg _;grind [iT]
 rw[e]at this;exact this
section
variable {oZ:Own} {s:Nat} {w0:Wq} {S bw bl bi ab:Nat}
def Tc(a b n):gV a b (n+1)=if((bf (iT (a.take (n+1)))).length:Int)<=b then n+1 else gV a b n:=rfl
theorem XW:vK oZ s w0 S bw bl bi ab 247 #[aK ab 0] #[] (fun _ d=>decide (0<d.length)&&Dm d) fun M d i=>if gV d i d.length=0 then none else some (iT (d.take (gV d i d.length)),M,d.drop (gV d i d.length)):=by
 intro B w M d i K hE hW he xd;rw[iY]at he;obtain⟨h9,P⟩:=he;have h0:=of_decide_eq_true h9;have hu:=hE;obtain⟨l,vc,hS,hA⟩:=hu;obtain⟨xe,v,hv,hr⟩:=hA;rcases hr with⟨_,h2⟩|⟨rb,off,c,rfl,hlc,hc,hrb,orb,qlj⟩;.rw[h2]at h0;exact absurd h0 aR
 have h8:=hS.s0;obtain⟨W,F⟩:=bU (w.alloc (.cells nO.toArray 65));have o:bJ w W:=by rw[F];exact(bP _ w).alloc (aI _) _
 have h6:aS W w.heap.size 65 nO:=by grind [aS.new]
 have T:w.heap.size<W.heap.size:=by rw[F];simp
 have xt:=hv.lt;obtain⟨L,hL⟩:=bU d.length;have p:Hid (∀n A,0<n->n<=L->bJ w A->bN 210 #[.agg #[iZ 2,iZ 0,uZ 0,uZ 0,uZ 0,.bool false,uZ 0,uZ 0,.string ⟨#[]⟩,.slice (some (aA rb off)) n n]] A (iZ ((bf (iT (d.take n))).length:Int)) fun w'=>bJ A w'):=fun n A a b t=>qbd P (qlj.below t) (gK hrb t.size) n a aj;have f:Hid (∀A,bJ W A->A.cell? (aA ab 0)=some (.slice (some (aA rb off)) L c)/\A.frozen? (aA ab 0)=false/\aS A w.heap.size 65 nO/\bJ w A):=fun A t=>by have b1:=fD t (fD o hv);exact⟨by rw[hL];exact b1.cell 0,b1.frozen 0,fD t h6,o.trans (t.mono o.size)⟩
 show WA prog 247 #[aK ab 0,iZ i] w fun e w'=>kr B s w S bw bl bi ab M d (if gV d i d.length=0 then none else some (iT (d.take (gV d i d.length)),M,d.drop (gV d i d.length))) e w';rw[<-hL];have I:Hid (∀wr q,bJ W wr->nP w.heap.size wr q->gV d i L=0->kr B s w S bw bl bi ab M d (if gV d i L=0 then none else some (iT (d.take (gV d i L)),M,d.drop (gV d i L))) (.returned (.tuple #[eX jv nZ,.bool false])) q):=fun wr q t ht ho=>by rw[dN ho];have N:=((hE.kp (xH B w) aR aR aR).below o).below t;exact kr.wrap (x:=jw) (iA:=loc B w.heap.size) h8 o T rfl (Kp.below t) N (fun z R=>by cases R) ht
 have D:Hid (∀n wr q v',0<n->n<=L->gV d i L=n->bJ W wr->(v'=.slice (some (aA rb (off+n*2))) (L-n) (c-n)\/c=n/\v'=.slice (some (aA rb off)) (L-n) 0)->nP w.heap.size (wr.setCell (aA ab 0) v') q->kr B s w S bw bl bi ab M d (if gV d i L=0 then none else some (iT (d.take (gV d i L)),M,d.drop (gV d i L))) (.returned (.tuple #[(.agg #[iZ 2,iZ 0,uZ 0,uZ 0,uZ 0,.bool false,uZ 0,uZ 0,.string ⟨#[]⟩,.slice (some (aA rb off)) n n]),.bool true])) q):=fun n wr q v' h1 h2 h3 t Q ht=>by
  rw[b_ aj,h3];have O:=o.trans (t.mono o.size);have xi:(loc B w.heap.size) ab=s+48:=by grind [jW]
  have Y:(loc B w.heap.size) rb=s+49:=by grind [jW]
  have Ks:Kp [s+48] (loc B w.heap.size) (loc B w.heap.size) wr (wr.setCell (aA ab 0) v'):=Kp.set _ wr _ _ [s+48] (by grind);have hw:=(hS.loc o).below t;have hg:=gK hrb O.size;have hf:=qlj.below O;have N:Env (loc B w.heap.size) s (wr.setCell (aA ab 0) v') S bw bl bi ab M (d.drop n):=by
   refine⟨l,vc,hw.kp Ks (fun x h1 h2 e=>by grind),xi,_,(fD O hv).setCell 0 _,?_⟩;rcases Q with Q|⟨xn,Q⟩;.exact .inr ⟨rb,off+n*2,c-n,by grind,by grind,aj,dZ,Y,R3 (qbc hf n) Ks hg (by grind)⟩
   .have h7:d.drop n=[]:=Yy aj;rw[h7];exact .inr ⟨rb,off,0,by grind,aI _,aj,dZ,Y,fun j hj=>absurd hj (jZ _)⟩
  have hl:(d.take n).length=n:=by grind
  refine kr.wrap (r:=some (iT (d.take n),M,d.drop n)) (x:=(iT (d.take n),some (aA rb off),n,n)) (iA:=loc B w.heap.size) h8 o T rfl ((Kp.below t).trans (Ks.mono fun x hx=>xG.2 (.inr (.inl (by grind))))) N (fun z R=>?_) ht;cases R;refine⟨rfl,hl.symm,by show(d.take n).length<=n;omega,R3 (MK hf n) Ks hg (by grind),fun a ha=>?_,fun xa=>absurd rfl xa⟩;cases ha;exact⟨dZ,Y,rfl⟩
 generalize hX:(if gV d i L=0 then none else some (iT (d.take (gV d i L)),M,d.drop (gV d i L)))=X at *
 clear hX;have xo:L<=c:=aj;have xp:L<=1000000000:=by unfold Dm at P;grind
 have xm:0<L:=aj;clear hE hS hW hv qlj xe orb P h9 h0 K h6 hlc hrb T;clear hL;unfold nO at F;subst F;go_enter func247,ntmps247;obtain⟨z0,z1,z2,z3⟩:=f.out _ (bP _ _);go_wp2;go_loopw [6] (fun s6 wr=>∃n:Nat,n<=L/\s6=(iZ n)/\Hid (gV d i n=gV d i L/\Below (w.alloc (.cells #[iZ 0,iZ 0,uZ 0,uZ 0,uZ 0,.bool false,uZ 0,uZ 0,.string ⟨#[]⟩,nZ] 65)).heap.size (w.alloc (.cells #[iZ 0,iZ 0,uZ 0,uZ 0,uZ 0,.bool false,uZ 0,uZ 0,.string ⟨#[]⟩,nZ] 65)) wr)) (fun s6 _=>(RowKit.intOf s6).toNat);case atStart=>exact⟨L,aI _,rfl,(⟨rfl,bP _ _⟩:_/\_)⟩
 case round=>
  obtain⟨n,hn,rfl,E⟩:=hrel;have H:=f.out wr E.out.2;cases n with
  |zero=>
   obtain⟨y0,y1,y2,y3,y4,y5,y6,y7,y8,y9,yf⟩:=bF H.2.2.1;have wu:=aG H.2.2.1;clear z0 z1 z2 z3 H;go_wp2;rw[gX];have U:=gD wu.out (iZ 0) (iZ 0) (uZ 0) (uZ 0) (uZ 0) (.bool false) (uZ 0) (uZ 0) (.string ⟨#[]⟩) nZ;have qm:=gF wr w.heap.size (iZ 0) (iZ 0) (uZ 0) (uZ 0) (uZ 0) (.bool false) (uZ 0) (uZ 0) (.string ⟨#[]⟩) nZ;generalize kC wr w.heap.size (iZ 0) (iZ 0) (uZ 0) (uZ 0) (uZ 0) (.bool false) (uZ 0) (uZ 0) (.string ⟨#[]⟩) nZ=q at *
   obtain⟨a0,a1,a2,a3,a4,a5,a6,a7,a8,a9,_⟩:=bF U;exact VH (v:=.tuple #[eX jv nZ,.bool false]) (by simp[results,results247,go_sem,a0,a1,a2,a3,a4,a5,a6,a7,a8,a9,eX,jv]) rfl (I.out wr q E.out.2 qm E.out.1.symm)
  |succ m=>
   obtain⟨q0,q1,q2,q3⟩:=H;obtain⟨W3,G⟩:=bU (wr.alloc (.cells #[iZ 2,iZ 0,uZ 0,uZ 0,uZ 0,.bool false,uZ 0,uZ 0,.string ⟨#[]⟩,.slice (some (aA rb off)) (m+1) (m+1)] 65));have h5:bJ wr W3:=by rw[G];exact(bP _ wr).alloc (aI _) _
   have h4:=E.out.2.trans (h5.mono E.out.2.size);have Xt:aS W3 wr.heap.size 65 [iZ 2,iZ 0,uZ 0,uZ 0,uZ 0,.bool false,uZ 0,uZ 0,.string ⟨#[]⟩,.slice (some (aA rb off)) (m+1) (m+1)]:=by grind [aS.new]
   have T:=p.out (m+1) W3 aj hn (f.out W3 h4).2.2.2;have g:=aG (dz h4 Xt);have k1:((m:Int)+1)<=(c:Int):=aj;have k2:m+1<=c:=aj;have k3:(0:Int)<(m:Int)+1:=aj;have k4:((m:Int)+1)<=(L:Int):=aj;have k5:=hn;have k6:(L:Int)<=(c:Int):=aj;have u:=Tc d i m;generalize (bf (iT (d.take (m+1)))).length=Z at *
   clear z0 z1 z2 z3 h5 h4 Xt q2 q3;by_cases R:(Z:Int)<=i
   .rw[dN R]at u;have J:=aG u;clear u;have xj:¬(wr.heap.size=ab):=fun e=>by have h1:=E.out.2.size;simp at h1;omega
    have xv:¬(ab=wr.heap.size):=fun e=>xj e.symm;have hk:w.heap.size≠ab:=aj;have xw:¬(w.heap.size=ab):=aj;have xy:¬(ab=w.heap.size):=aj;have xl:¬(wr.heap.size=w.heap.size):=fun e=>by have h1:=E.out.2.size;simp at h1;omega
    have xx:¬(w.heap.size=wr.heap.size):=fun e=>xl e.symm;have f1:gV d i L=m+1:=by rw[<-E.out.1];exact J.out
    by_cases hy:c=m+1
    .subst hy;go_wp2_with (first|(go_at_call 210;rw[<-G];refine bK T ?_;rintro y k;obtain⟨p0,p1,V,p3⟩:=f.out y (g.out.1.trans (k.mono g.out.1.size));obtain⟨y0,y1,y2,y3,y4,y5,y6,y7,y8,y9,yf⟩:=bF V;have wu:=aG V;obtain⟨x0,x1,x2,x3,x4,x5,x6,x7,x8,x9,xf⟩:=bF (fD k g.out.2);clear V)|go_in);rw[gX];have C:aS (y.setCell (aA ab 0) (.slice (some (aA rb off)) 0 0)) w.heap.size 65 nO:=wu.out.of_heap (jg _ _ _ _ hk);have U:=gD C (iZ 2) (iZ 0) (uZ 0) (uZ 0) (uZ 0) (.bool false) (uZ 0) (uZ 0) (.string ⟨#[]⟩) (.slice (some (aA rb off)) (m+1) (m+1));have qm:=gF (y.setCell (aA ab 0) (.slice (some (aA rb off)) 0 0)) w.heap.size (iZ 2) (iZ 0) (uZ 0) (uZ 0) (uZ 0) (.bool false) (uZ 0) (uZ 0) (.string ⟨#[]⟩) (.slice (some (aA rb off)) (m+1) (m+1));generalize kC (y.setCell (aA ab 0) (.slice (some (aA rb off)) 0 0)) w.heap.size (iZ 2) (iZ 0) (uZ 0) (uZ 0) (uZ 0) (.bool false) (uZ 0) (uZ 0) (.string ⟨#[]⟩) (.slice (some (aA rb off)) (m+1) (m+1))=q at *
     obtain⟨a0,a1,a2,a3,a4,a5,a6,a7,a8,a9,_⟩:=bF U;have f3:=D.out (m+1) y q (.slice (some (aA rb off)) 0 0) (Nat.succ_pos _) hn f1 (g.out.1.trans (k.mono g.out.1.size)) (.inr ⟨rfl,by grind⟩) qm;clear U qm C D I f p
     (try simp only[Exit.inBlock,Exit.then])
     exact VH (v:=.tuple #[(.agg #[iZ 2,iZ 0,uZ 0,uZ 0,uZ 0,.bool false,uZ 0,uZ 0,.string ⟨#[]⟩,.slice (some (aA rb off)) (m+1) (m+1)]),.bool true]) (by simp[results,results247,go_sem,a0,a1,a2,a3,a4,a5,a6,a7,a8,a9]) rfl f3
    .skip
     go_wp2_with (first|(go_at_call 210;rw[<-G];refine bK T ?_;rintro y k;obtain⟨p0,p1,V,p3⟩:=f.out y (g.out.1.trans (k.mono g.out.1.size));obtain⟨y0,y1,y2,y3,y4,y5,y6,y7,y8,y9,yf⟩:=bF V;have wu:=aG V;obtain⟨x0,x1,x2,x3,x4,x5,x6,x7,x8,x9,xf⟩:=bF (fD k g.out.2);clear V)|go_in);rw[gX];have C:aS (y.setCell (aA ab 0) (.slice (some (aA rb (off+(m+1)*2))) (L-(m+1)) (c-(m+1)))) w.heap.size 65 nO:=wu.out.of_heap (jg _ _ _ _ hk);have U:=gD C (iZ 2) (iZ 0) (uZ 0) (uZ 0) (uZ 0) (.bool false) (uZ 0) (uZ 0) (.string ⟨#[]⟩) (.slice (some (aA rb off)) (m+1) (m+1));have qm:=gF (y.setCell (aA ab 0) (.slice (some (aA rb (off+(m+1)*2))) (L-(m+1)) (c-(m+1)))) w.heap.size (iZ 2) (iZ 0) (uZ 0) (uZ 0) (uZ 0) (.bool false) (uZ 0) (uZ 0) (.string ⟨#[]⟩) (.slice (some (aA rb off)) (m+1) (m+1));generalize kC (y.setCell (aA ab 0) (.slice (some (aA rb (off+(m+1)*2))) (L-(m+1)) (c-(m+1)))) w.heap.size (iZ 2) (iZ 0) (uZ 0) (uZ 0) (uZ 0) (.bool false) (uZ 0) (uZ 0) (.string ⟨#[]⟩) (.slice (some (aA rb off)) (m+1) (m+1))=q at *
     obtain⟨a0,a1,a2,a3,a4,a5,a6,a7,a8,a9,_⟩:=bF U;have f3:=D.out (m+1) y q (.slice (some (aA rb (off+(m+1)*2))) (L-(m+1)) (c-(m+1))) (Nat.succ_pos _) hn f1 (g.out.1.trans (k.mono g.out.1.size)) (.inl rfl) qm;clear U qm C D I f p
     (try simp only[Exit.inBlock,Exit.then])
     exact VH (v:=.tuple #[(.agg #[iZ 2,iZ 0,uZ 0,uZ 0,uZ 0,.bool false,uZ 0,uZ 0,.string ⟨#[]⟩,.slice (some (aA rb off)) (m+1) (m+1)]),.bool true]) (by simp[results,results247,go_sem,a0,a1,a2,a3,a4,a5,a6,a7,a8,a9]) rfl f3
   .rw[b_ R]at u;have J:=aG u;clear u;have xr:=R;go_wp2_with (first|(go_at_call 210;rw[<-G];refine bK T ?_;rintro y k)|go_in);go_roundw;case rel=>exact⟨m,aj,aR,(⟨by rw[<-E.out.1];exact J.out.symm,g.out.1.trans (k.mono g.out.1.size)⟩:_/\_)⟩
    case measure=>simp[RowKit.intOf]
end

end
def Lp(P:Nat->Prop)(l:List Nat):Prop:=∀x∈l,P x
def Lp.getD{P}(a:P 0){l}(h:Lp P l)(j):P (l.getD j 0):=by
 rw[mZ];cases b:l[j]? with
 |none=>exact a
 |some v=>exact h v (Cx b)
def Lp.set{P l}(h:Lp P l)(i v)(b:P v):Lp P (l.set i v):=fun x a=>by
 rcases YE a with a|a;.exact h x a
 .rw[a];exact b
def Lp.sw(a:P 0)(h:Lp P l)(i j:Nat):Lp P (sw l i j):=(h.set i _ (h.getD a j)).set j _ (h.getD a i)
def Lp.down{P}(a:P 0):∀(k) {l} (i n),Lp P l->Lp P (lH k l i n)
 |0,_,_,_,h=>h
 |k+1,l,i,n,h=>by
  unfold lH;generalize (if 2*i+2<n/\l.getD (2*i+2) 0<l.getD (2*i+1) 0 then 2*i+2 else 2*i+1)=j;split;.exact h
  .simp only;split;.exact Lp.down a k _ _ (h.sw a _ _)
   .exact h
def Lp.up{P}(a:P 0):∀(k) {l} (i),Lp P l->Lp P (El k l i)
 |0,_,_,h=>h
 |k+1,l,i,h=>by
  unfold El;split;.exact h
  .exact Lp.up a k _ (h.sw a _ _)
def Lp.pop(a:P 0)(h:Lp P l):Lp P (mO l):=fun x b=>Lp.down a _ _ _ (h.sw a _ _) x (tF b)
def Lp.app{m}(h:Lp P l)(g:Lp P m):Lp P (l++m):=fun x a=>(iJ.1 a).elim (h x) (g x)
def Lp.one(h:P u):Lp P [u]:=fun x a=>by rw[sD.1 a];exact h
theorem Lp.push(a:P 0)(h:Lp P l)(u)(b:P u):Lp P (eY l u):=Lp.up a _ _ (h.app (Lp.one b))
theorem qR(l u):(eY l u).length=l.length+1:=by unfold eY;rw[U5];simp
theorem BM(l):(mO l).length=l.length-1:=by grind [mO,List.length_take,C8,nu]
def uI(oZ:Own)(s:Nat)(w:Wq)(S bw bl bi b:Nat)(D:Nat->Src)(u:Nat):Prop:=
 (D u).y=kZ u/\mF oZ s w S bw bl bi b (D u) (fun M a=>M.aL a u) (fun M a=>M.aL a u&&Dm a) (fun M a c=>M.frame a u c)
def uI.kp{oZ b s w c S bw bl bi a D u}(h:uI oZ s w S bw bl bi a D u)(K:Kp (Tb s) oZ b w c):uI b s c S bw bl bi a D u:=⟨h.1,h.2.kp K⟩
structure QsM (oZ:Own) (s:Nat) (w:Wq) (S bw bl bi ab:Nat) (D:Nat->Src) (p:Nat) (v:Wx) (Q:List Nat):Prop where
 hd:∀u:Nat,(D u).u=(u:Int)
 hq:Er oZ (s+45) D w p v Q
 hs:Lp (uI oZ s w S bw bl bi ab D) Q
def QsM.kp{oZ b s w c S bw bl bi a D p v Q T}(h:QsM oZ s w S bw bl bi a D p v Q)(K:Kp T oZ b w c)(f:∀x∈T,x∈Tb s)(d:s+45∉T)(e:s+46∉T):QsM b s c S bw bl bi a D p v Q:=
 ⟨h.hd,⟨by rw[K.ext p h.hq.pb.lt,h.hq.op],bW h.hq.pb K (by rw[h.hq.op];exact e),h.hq.sr.kp K d⟩,fun u g=>(h.hs u g).kp (K.mono f)⟩
def Ig(D a):∀(Q),(∀u∈Q,D u=a u)->qC D Q=qC a Q
 |[],_=>rfl
 |x::t,h=>by show kI (D x)++qC D t=kI (a x)++qC a t;rw[h x aR,Ig D a t fun u b=>h u (by simp[b])]
theorem qlm{f}(w)(h:QsM oZ s w S bw bl bi f D p v Q)(x)(u:Nat)(F:x.u=(u:Int))(H:x.y=kZ u)(C:u∉Q)(B:Q.length<1000)(G:mF oZ s w S bw bl bi f x (fun M c=>M.aL c u) (fun M c=>M.aL c u&&Dm c) (fun M c r=>M.frame c u r))(E:u=0\/0∈Q):bN 199 #[aK p 0,qL x] w (.tuple #[]) fun i=>∃d a n,QsM d s i S bw bl bi f a p n (eY Q u)/\Kp [s+45,s+46] oZ d w i:=by
 obtain⟨a,y⟩:=bU (fun j=>if j=u then x else D j:Nat->Src);have t:a u=x:=by grind
 have en:∀j,j≠u->a j=D j:=fun j b=>by grind
 have g:∀j:Nat,(a j).u=(j:Int):=fun j=>by
  by_cases b:j=u;.grind
  .rw[en j b];exact h.hd j
 have l:Er oZ (s+45) a w p v Q:=⟨h.hq.op,h.hq.pb,by rw[Ig a D Q fun j b=>en j (fun e=>C (e▸b))];exact h.hq.sr⟩;have A:∀j∈Q,uI oZ s w S bw bl bi f a j:=fun j b=>by have:=h.hs j b;grind [uI]
 have k:uI oZ s w S bw bl bi f a u:=by grind [uI]
 have:=EN oZ (s+45) a g w p v Q u B l;rw[t]at this;refine bK this ?_;rintro i ⟨d,n,m,K⟩;have o:Kp [s+45,s+46] oZ d w i:=K;have q:Kp (Tb s) oZ d w i:=o.mono fun z I=>ko.2 (by grind);refine⟨rfl,d,a,n,⟨g,m,fun j b=>uI.kp ?_ q⟩,o⟩;exact Lp.push (P:=uI oZ s w S bw bl bi f a) (by grind) A u k j b
def PU(oZ:Own)(s:Nat)(w:Wq)(S bw bl bi a:Nat)(D:Nat->Src)(u:Nat):Prop:=uI oZ s w S bw bl bi a D u/\u<48
def PU.kp{oZ b s w c S bw bl bi a D u}(h:PU oZ s w S bw bl bi a D u)(K:Kp (Tb s) oZ b w c):PU b s c S bw bl bi a D u:=⟨h.1.kp K,h.2⟩
def Tg(s:Nat):List Nat:=List.range' s 47++[s+48,s+50,s+51,s+53,s+54,s+55]
theorem rT:x∈Tg s↔(s<=x/\x<s+47)\/x=s+48\/x=s+50\/x=s+51\/s+53<=x/\x<=s+55:=by unfold Tg;grind
def qji(s):∀x∈Tg s,x∈Tb s:=fun x a=>ko.2 (fT (rT.1 a))
structure tC (fH:Own) (s:Nat) (w0:Wq) (S bw bl bi ab:Nat) (D:Nat->Src) (p:Nat) (oZ:Own) (w:Wq) (M:av) (aH:bY) (Q later:List Nat) (L:List FV) (v vl vt:Wx):Prop where
 hq:Er oZ (s+45) D w p v Q
 qs:Lp (PU oZ s w S bw bl bi ab D) Q
 ls:Lp (PU oZ s w S bw bl bi ab D) later
 z:PU oZ s w S bw bl bi ab D 0
 env:Env oZ s w S bw bl bi ab M aH
 fr:GT oZ (s+50) 65 10 w vl L.length (vI L)
 fv:∀x∈L,WR oZ s w x
 la:GT oZ (s+51) 304 4 w vt later.length (qC D later)
 kp:Kp (Tg s) fH oZ w0 w
 nl:L=[]->vl=nZ
theorem WR.kp{x}(h:WR oZ s w x)(K:Kp T oZ aX w w')(p:s+49∉T):WR aX s w' x:=by
 refine⟨h.len,h.cap,fun j i=>?_,fun a g=>?_,h.nil⟩;.obtain⟨b,o,f,l,m,n⟩:=h.vF j i;obtain⟨c,d,_⟩:=h.cK _ f;have e:=K.cK b c (by grind);grind [cell_of]
 .obtain⟨c,d,k⟩:=h.cK a g;exact⟨gK c K.size,by rw[K.ext _ c,d],k⟩
def Er.kp{oZ aX t D w w' p v Q T}(h:Er oZ t D w p v Q)(K:Kp T oZ aX w w')(a:t∉T)(b:t+1∉T):Er aX t D w' p v Q:=
 ⟨by rw[K.ext p h.pb.lt,h.op],bW h.pb K (by rw[h.op];exact b),h.sr.kp K a⟩
def tC.new{c e}(h:tC fH s w0 S bw bl bi d D p oZ w M c Q a L v e f)(K:Kp [] oZ aX w w'):tC fH s w0 S bw bl bi d D p aX w' M c Q a L v e f:=
 ⟨h.hq.kp K aR aR,fun u b=>(h.qs u b).kp (K.mono aR),fun u b=>(h.ls u b).kp (K.mono aR),h.z.kp (K.mono aR),h.env.kp K aR aR aR,h.fr.kp K aR,fun x g=>(h.fv x g).kp K aR,h.la.kp K aR,h.kp.trans (K.mono aR),h.nl⟩
theorem tC.pop{fH s w0 S bw bl bi f D p oZ w w' M e Q a L v v' g i}(h:tC fH s w0 S bw bl bi f D p oZ w M e Q a L v g i)(k:Er oZ (s+45) D w' p v' (mO Q))(K:Kp [s+45,s+45+1] oZ oZ w w'):tC fH s w0 S bw bl bi f D p oZ w' M e (mO Q) a L v' g i:=by have b:Kp (Tb s) oZ oZ w w':=K.mono fun x d=>ko.2 (by grind);have j:Kp (Tg s) oZ oZ w w':=K.mono fun x d=>rT.2 (by grind);exact⟨k,fun u c=>(Lp.pop h.z h.qs u c).kp b,fun u c=>(h.ls u c).kp b,h.z.kp b,h.env.kp K dZ aR aR,h.fr.kp K aR,fun x d=>(h.fv x d).kp K aR,h.la.kp K aR,h.kp.trans j,h.nl⟩
theorem tC.nxt{M' l g j}(h:tC fH s w0 S bw bl bi d D p oZ w M l Q a L v i j)(K:Kp (Tn s) oZ aX w w')(m:Env aX s w' S bw bl bi d M' g):tC fH s w0 S bw bl bi d D p aX w' M' g Q a L v i j:=by have c:=K.mono (qnh s);have k:Kp (Tg s) oZ aX w w':=K.mono fun x b=>rT.2 (fT (xG.1 b));have e:∀x,x∈Tn s->(s<=x/\x<s+45)\/x=s+48\/s+53<=x/\x<=s+55:=fun x b=>xG.1 b;exact⟨h.hq.kp K (fun x=>by grind) (fun x=>by grind),fun u f=>(h.qs u f).kp c,fun u f=>(h.ls u f).kp c,h.z.kp c,m,h.fr.kp K (fun x=>by grind),fun x b=>(h.fv x b).kp K (fun x=>by grind),h.la.kp K (fun x=>by grind),h.kp.trans k,h.nl⟩
theorem tC.app{j i k}(h:tC fH s w0 S bw bl bi j D p oZ w M i Q a L v m k)(x)(g:WR oZ s w x)(K:Kp [s+50] oZ aX w w')(n:GT aX (s+50) 65 10 w' c (L.length+1) (vI L++f_ x.1 (rW x))):tC fH s w0 S bw bl bi j D p aX w' M i Q a (L++[x]) v c k:=by
 have d:Kp (Tb s) oZ aX w w':=K.mono fun x g=>ko.2 (by grind);have l:Kp (Tg s) oZ aX w w':=K.mono fun x g=>rT.2 (by grind);refine⟨h.hq.kp K aR aR,fun u f=>(h.qs u f).kp d,fun u f=>(h.ls u f).kp d,h.z.kp d,h.env.kp K dZ aR aR,?_,fun y b=>?_,h.la.kp K aR,h.kp.trans l,fun e=>absurd e aR⟩;.grind [Bo,eT,vI]
 .rcases iJ.1 b with b|b;.exact(h.fv y b).kp K aR
  .rw[sD.1 b];exact g.kp K aR
theorem tC.lat{e g n}(h:tC fH s w0 S bw bl bi e D p oZ w M g Q a L v i n)(u)(f:PU oZ s w S bw bl bi e D u)(K:Kp [s+51] oZ aX w w')(o:GT aX (s+51) 304 4 w' c (a.length+1) (qC D a++kI (D u))):tC fH s w0 S bw bl bi e D p aX w' M g Q (a++[u]) L v i c:=by
 have d:Kp (Tb s) oZ aX w w':=K.mono fun x l=>ko.2 (by grind);have k:Kp (Tg s) oZ aX w w':=K.mono fun x l=>rT.2 (by grind);refine⟨h.hq.kp K aR aR,fun u f=>(h.qs u f).kp d,fun j b=>?_,h.z.kp d,h.env.kp K dZ aR aR,h.fr.kp K aR,fun y m=>(h.fv y m).kp K aR,?_,h.kp.trans k,h.nl⟩
 .rcases iJ.1 b with b|b;.exact(h.ls j b).kp d
  .rw[sD.1 b];exact f.kp d
 grind [Dl,eT]
def PU.fn{oZ s w S bw bl bi d D u}(h:PU oZ s w S bw bl bi d D u):∃b c,(D u).f1=.func b/\(D u).f2=.func c/\(∀args w,(callFunc b args).run prog w=.ok (.enter b args) w)/\(∀args w,(callFunc c args).run prog w=.ok (.enter c args) w)/\sJ oZ s w S bw bl bi d b (D u).p1 (D u).k1 (fun M a=>M.aL a u)/\vK oZ s w S bw bl bi d c (D u).p2 (D u).k2 (fun M a=>M.aL a u&&Dm a) (fun M a e=>M.frame a u e):=h.1.2.fn
theorem tC.head{i f l}(h:tC fH s w0 S bw bl bi i D p oZ w M f (u::Q) a L v l m):∃g c,v=(dB g (Q.length+1) c)/\Bv oZ (s+45) D w p g c (u::Q)/\w.cell? (aA p 0)=some (dB g (Q.length+1) c)/\w.cell? (aA g 0)=some (iZ (D u).u)/\w.cell? (aA g 1)=some (.func (D u).f1 (D u).p1 (D u).k1)/\w.cell? (aA g 2)=some (.func (D u).f2 (D u).p2 (D u).k2)/\w.cell? (aA g 3)=some (.bool (D u).y):=by
 obtain⟨g,c,rfl,d⟩:=h.hq.hp aR;obtain⟨q0,o,q,t⟩:=rF D (u::Q) 0 u rfl;have b:∀k x,(qC D (u::Q))[k]?=some x->w.cell? (aA g k)=some x:=fun k x j=>by obtain⟨n,e,_,_,r,_⟩:=d.sr.2.cell k x j;grind
 exact⟨g,c,rfl,d,d.pb.cell 0,b _ _ (by grind),b _ _ (by grind),b _ _ (by grind),b _ _ (by grind)⟩
