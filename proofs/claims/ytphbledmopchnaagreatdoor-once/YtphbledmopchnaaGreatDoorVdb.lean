import Derived.Test.YtphbledmopchnaaGreatDoorVce
import Derived.Test.YtphbledmopchnaaGreatDoorVcd
open Nat renaming lt_succ_of_lt->fA,succ_pos->mE
open Prod renaming fst->eB
set_option maxHeartbeats 4000000
set_option maxRecDepth 100000
open Go renaming World->Wq,Value->WA,Calls->WB,bodyPost_ret->Vl,Addr->V3
set_option linter.all false
namespace Go.Proofs.YtphbledmopchnaaGreatDoor.Sd
open Go.RowKit Go.Lib Mm Tryz
variable {D:Nat->Src}{L:List FV}{M:av}{P:Nat->Prop}{Q T a l:List Nat}{S b bi bl bw c d e g p s t u x:Nat}{aQ eZ oZ:Own}{f k o v:WA}{i:bZ}{w w' w0:Wq}
def NU:WA:=.agg #[iZ 0,.nilFunc,.nilFunc,.bool false]
def qgo:GK 300 304 NU 4 32:=⟨bO,bO,fun n=>by simp[NU,Builtin.zeroCells,Value.cells],fun n v a=>by simp[NU,Builtin.zeroCells,Value.cells]at a;obtain⟨i,_,rfl⟩:=a;have:i % 4=0\/i % 4=1\/i % 4=2\/i % 4=3:=aj;rcases this with h|h|h|h<;>rw[h]<;>rfl,aj⟩
structure Bq (oZ:Own) (t:Nat) (D:Nat->Src) (w:Wq) (p:Nat) (v:WA) (Q:List Nat):Prop where
 op:oZ p=t+1
 pb:aL w p 300 [v]
 sr:GT oZ t 304 4 w v Q.length (qC D Q)
def zV(D:Nat->Src):∀(Q:List Nat) (u:Nat),qC D (Q++[u])=qC D Q++jP (D u)
 |[],u=>by simp[qC]
 |x::Q,u=>by show jP (D x)++qC D (Q++[u])=(jP (D x)++qC D Q)++jP (D u);rw[zV D Q u,qmh]
def Wn(oZ:Own)(t:Nat)(D:Nat->Src)(w:Wq)(p:Nat)(v:WA)(Q:List Nat)(u:Nat)(C:Q.length<=1000)(h:Bq oZ t D w p v Q):qH 377 #[aJ p 0,.iface 304 (.agg #[(iZ (D u).u),.func (D u).f1 (D u).p1 (D u).k1,.func (D u).f2 (D u).p2 (D u).k2,.bool (D u).y])] w (.tuple #[]) fun g=>Hid (∃i A,Bq i t D g p A (Q++[u])/\Kp [t,t+1] oZ i w g):=by
 obtain⟨a,c,rfl,_,_⟩:=h.sr.shape;have H:w.cell? (ay p 0)=some (.slice a Q.length c):=h.pb.cell 0;have m:=h.pb.lt;obtain⟨W,r⟩:=bT ((w.alloc (.cells (jP (D u)).toArray 304)).drew);have z:aL W w.heap.size 304 (jP (D u)):=by rw[r];exact aL.new w 304 _
 have d:bE w W:=by rw[r];have b:=(qlw w.heap.size w).alloc (qj _) (.cells (jP (D u)).toArray 304);exact⟨b.os,b.tape,b.output,b.size,b.block⟩
 obtain⟨A,g,i,run,s,q⟩:=fO qgo (h.sr.kp (T:=[]) (Kp.below d) aM) (ay w.heap.size 0) 1 1 (jP (D u)) aM (CW _) (fun j x F=>by
  have e:(ay w.heap.size 0).add j=(ay w.heap.size j):=by simp[Addr.add];omega
  rw[e,z.cell,F]) aj
 have k:=bU (h.pb.of_heap (d.block _ m)) q (by rw[h.op];simp);obtain⟨n,o,rfl,_,_⟩:=s.shape;have G:=k.cell 0;have I:=k.frozen 0;simp only[qml]at G;have f:i p=t+1:=by rw[q.ext _ (qm9 m d.size),h.op]
 have l:Kp [t+1] i i g (g.setCell (ay p 0) (.slice n (Q.length+1) o)):=((l6.refl p g).set 0 _).kpt (by rw[f];simp);have B:Hid (∃i y,Bq i t D (g.setCell (ay p 0) (.slice n (Q.length+1) o)) p y (Q++[u])/\Kp [t,t+1] oZ i w (g.setCell (ay p 0) (.slice n (Q.length+1) o))):=by refine⟨i,.slice n (Q.length+1) o,⟨f,k.setCell 0 _,?_⟩,(((Kp.below d).trans (q.mono aM)).trans (l.mono aM))⟩;rw[zV,qm0];exact s.kp l aM
 have E:∀g,(Instr.typeAssert (.iface 304 (.agg #[(iZ (D u).u),.func (D u).f1 (D u).p1 (D u).k1,.func (D u).f2 (D u).p2 (D u).k2,.bool (D u).y])) 20 304 false).run prog g=.ok (.agg #[(iZ (D u).u),.func (D u).f1 (D u).p1 (D u).k1,.func (D u).f2 (D u).p2 (D u).k2,.bool (D u).y]) g:=fun _=>bO;rw[r]at run;clear s q k f l z d r h C;go_enter func377,ntmps377;go_wp2_with fail;go_region_law (refine gD _ (by rfl) _ _ _ _ (by rfl) _ _ (by rfl) (by rfl) _ _ (run _) ?_)
 all_goals go_wp2_with fail
 all_goals go_end0
 all_goals exact⟨rfl,B⟩
def Bq.hp(h:Bq oZ t D w p v Q)(a:0<Q.length):∃g c,v=(dh g Q.length c)/\yH oZ t D w p g c Q:=by
 have b:=h.sr;rcases b with⟨_,d,_⟩|⟨g,cap,cs,rfl,ho,h3⟩;·omega
 ·exact⟨g,cap,rfl,h.op,h.pb,ho,h.sr⟩
def yH.hq(h:yH oZ t D w p g c Q):Bq oZ t D w p (dh g Q.length c) Q:=⟨h.op,h.pb,h.sr.2⟩
def P9:∀(k:Nat) (l:List Nat) (j:Nat),(Cg k l j).length=l.length
 |0,_,_=>rfl
 |k+1,l,j=>by
  simp only[Cg];split;·rfl
  ·rw[P9 k,oq]
def R9(oZ:Own)(t:Nat)(D:Nat->Src)(B:∀u:Nat,(D u).u=(u:Int))(w:Wq)(p:Nat)(v:WA)(Q:List Nat)(u:Nat)(C:Q.length<1000)(h:Bq oZ t D w p v Q):qH 244 #[.iface 250 (aJ p 0),.iface 304 (.agg #[(iZ (D u).u),.func (D u).f1 (D u).p1 (D u).k1,.func (D u).f2 (D u).p2 (D u).k2,.bool (D u).y])] w (.tuple #[]) fun G=>Hid (∃d i,Bq d t D G p i (eX Q u)/\Kp [t,t+1] oZ d w G):=by
 have l:=aF (Wn oZ t D w p v Q u aj h);obtain⟨n,E⟩:=bT Q.length;have k:=aF (dw E C);have L:n<1000:=aj;have K:=qef p;have M:(n:Int)+1-1=(n:Int):=aj;clear E C h;generalize (.agg #[(iZ (D u).u),.func (D u).f1 (D u).p1 (D u).k1,.func (D u).f2 (D u).p2 (D u).k2,.bool (D u).y]:WA)=O at *
 go_enter func244,ntmps244;go_wp2_with fail;refine bH l.out ?_;rintro y o;obtain⟨q,N,r,s⟩:=o.out;obtain⟨g,c,rfl,f⟩:=r.hp aM;have a:(Q++[u]).length=n+1:=by have:=k.out.1;simp;omega
 have F:y.cell? (ay p 0)=some (dh g (n+1) c):=by rw[f.pb.cell,<-a];rfl
 have J:=qd5 p y _ _ _ F;have e:=aF (BK (some (ay g 0)) (n+1) c y);have m:=aF (Z0 q t D B y p g c (Q++[u]) n aj aj f);have j:=aF s;have b:Hid (eX Q u=Cg (n+1) (Q++[u]) n):=by unfold Hid eX;rw[<-k.out.1]
 clear r s f F a o l B;go_wp2_with fail;refine bH e.out ?_;rintro z rfl;go_wp2_with fail;refine bH m.out ?_;rintro H ⟨x,A⟩;have I:Hid (∃d i,Bq d t D H p i (eX Q u)/\Kp [t,t+1] oZ d w H):=by rw[b.out];exact⟨q,_,x.hq,j.out.trans (A.mono aM)⟩
 clear x A m j b;go_wp2_with fail;go_end0;exact⟨rfl,I⟩
def Bq.below{oZ:Own}{t:Nat}{D:Nat->Src}{w w':Wq}{p:Nat}{v:WA}{Q:List Nat}(h:Bq oZ t D w p v Q)(a:bE w w'):Bq oZ t D w' p v Q:=
 ⟨h.op,h.pb.of_heap (a.block _ h.pb.lt),h.sr.kp (T:=[]) (Kp.below a) aM⟩
def BL(oZ:Own)(t:Nat)(D:Nat->Src)(g:∀u:Nat,(D u).u=(u:Int))(w:Wq)(p:Nat)(v:WA)(Q:List Nat)(u:Nat)(i:Q.length<1000)(h:Bq oZ t D w p v Q):qH 199 #[aJ p 0,.agg #[(iZ (D u).u),.func (D u).f1 (D u).p1 (D u).k1,.func (D u).f2 (D u).p2 (D u).k2,.bool (D u).y]] w (.tuple #[]) fun c=>Hid (∃a d,Bq a t D c p d (eX Q u)/\Kp [t,t+1] oZ a w c):=by
 obtain⟨W,e⟩:=bT (w.alloc (.cells (jP (D u)).toArray 304));have b:bE w W:=by rw[e];exact(qlw _ w).alloc (qj _) _
 have f:Hid (qH 244 #[.iface 250 (aJ p 0),.iface 304 (.agg #[(iZ (D u).u),.func (D u).f1 (D u).p1 (D u).k1,.func (D u).f2 (D u).p2 (D u).k2,.bool (D u).y])] W (.tuple #[]) fun c=>Hid (∃a d,Bq a t D c p d (eX Q u)/\Kp [t,t+1] oZ a w c)):=by refine bH (R9 oZ t D g W p v Q u i (h.below b)) ?_;rintro c ⟨a,d,k,l⟩;exact⟨rfl,a,d,k,(Kp.below b).trans l⟩
 clear g h i b;unfold jP at e;generalize D u=s at *
 go_enter func199,ntmps199;go_wp2_with fail;rw[<-e];refine bH f.out ?_;rintro y j;clear f e;go_wp2_with fail;go_end0;exact⟨rfl,j⟩
section
def qej{n:Nt}{k r:Nat}{a:Int}{y:Fr×Nt}(h:n.next k r a=some y):y.1=nD k n.aC r:=by
 unfold Nt.next at h;split at h;·cases h
 ·rw[<-qmn h]
section
variable {oZ:Own} {s:Nat} {w0:Wq} {S bw bl bi ab:Nat}
def H_(k:Nat)(I:k<8)(L N:Nat)(U:Bx oZ s w0 L 282 (aJ S (4+27*k)))(V:Bx oZ s w0 N 3 (iZ k)):Az oZ s w0 S bw bl bi ab 259 #[] #[aJ L 0,aJ N 0] (fun M _=>(M.out k).nt.bD (M.out k).aB.length) fun M j d=>((M.out k).nt.next k (M.out k).aB.length d).map fun x=>(x.1,M.dD k {M.out k with nt:=x.2},j):=by
 intro F w M j d K hE P D;have A:(M.out k).nt.bN=true:=by have:((M.out k).nt.bN&&_)=true:=D;exact(Bool.and_eq_true_iff.1 this).1
 obtain⟨B,C⟩:=P.nt k A;obtain⟨l,vc,G,Y⟩:=hE;obtain⟨W,f⟩:=bT (w.alloc (.cells lY.toArray 65));have i:bE w W:=by rw[f];exact(qlw _ w).alloc (qj _) _
 have t:aL W w.heap.size 65 lY:=by rw[f];exact aL.new w 65 _
 have T:w.heap.size<W.heap.size:=by rw[f];simp
 have n:=G.loc i;have Q:∀q,bE W (W.drewN q):=fun q=>⟨rfl,rfl,rfl,qj _,fun _ _=>rfl⟩;have x1:=((U.kp K).below i).cell;have x2:=((V.kp K).below i).cell;obtain⟨g,b,z,r,u⟩:=yN ((M.out k).nt.next k (M.out k).aB.length d) eB;have J:Hid (qH 260 #[(aJ S (4+27*k)),iZ k,iZ d] W (.tuple #[eF g nZ,.bool b]) fun E=>aL E w.heap.size 65 lY/\Hid (iE s (loc F w.heap.size) W S bw bl bi ((((M.out k).nt.next k (M.out k).aB.length d).map fun x=>M.dD k {M.out k with nt:=x.2}).getD M) E)):=by
  obtain⟨a,c,va,jR,Z,hc,_⟩:=(n.out k I).open n.bY;refine bH (EO (4+27*k) (M.out k).nt (M.out k).aB.length c a k I d n.bY (P.ob k) Z.c0 Z.nt (qlz C gP) B) ?_;rintro E ⟨l',O,H⟩;refine⟨by rw[z],O.other t (bR G.bY.lt),?_⟩;cases hX:(M.out k).nt.next k (M.out k).aB.length d with
  |none=>rw[hX]at H;have:=n.ont k I _ (by rw[show 6+27*k=4+27*k+2 by omega];exact O) (by rw[show 6+27*k=4+27*k+2 by omega];exact H);rw[show({M.out k with nt:=((Option.map Prod.snd (none:Option (Fr×Nt))).getD (M.out k).nt)}:Ot)=M.out k from rfl,FN]at this;exact this
  |some x=>rw[hX]at H;exact n.ont k I _ (by rw[show 6+27*k=4+27*k+2 by omega];exact O) (by rw[show 6+27*k=4+27*k+2 by omega];exact H)
 have R:Hid (∀y,(M.out k).nt.next k (M.out k).aB.length d=some y->y.1.ranges=[]):=fun y hy=>by rw[qej hy];rfl
 have HE:Hid (∀y p,iE s (loc F w.heap.size) W S bw bl bi ((((M.out k).nt.next k (M.out k).aB.length d).map fun x=>M.dD k {M.out k with nt:=x.2}).getD M) y->l6 w.heap.size y p->jE F s w S bw bl bi ab M j (((M.out k).nt.next k (M.out k).aB.length d).map fun x=>(x.1,M.dD k {M.out k with nt:=x.2},j)) (.returned (.tuple #[eF g nZ,.bool b])) p):=fun y p q ht=>vI Y G.s0 i T _ (fun o=>M.dD k {M.out k with nt:=o}) g b r u R.out q ht _ rfl;show WB prog 259 #[iZ d,aJ L 0,aJ N 0] w fun e E=>jE F s w S bw bl bi ab M j (((M.out k).nt.next k (M.out k).aB.length d).map fun x=>(x.1,M.dD k {M.out k with nt:=x.2},j)) e E;generalize (((M.out k).nt.next k (M.out k).aB.length d).map fun x=>(x.1,M.dD k ({M.out k with nt:=x.2}:Ot),j))=X at *
 generalize ((((M.out k).nt.next k (M.out k).aB.length d).map fun x=>M.dD k ({M.out k with nt:=x.2}:Ot)).getD M)=M' at *
 clear z r u R n G Y P U V K Q t i T D A B C;unfold eF at J;unfold lY at f;subst f;go_enter func259,ntmps259;go_wp2_with (first|(go_at_call 260;refine bH J.out ?_;rintro y ⟨m,HP⟩;obtain⟨y0,y1,y2,y3,y4,y5,y6,y7,y8,y9,yf⟩:=bC m;have ug:=aF m;clear m)|go_in);all_goals
  clear J;rw[gq];have jX:=fK ug.out (iZ g.aD) (iZ g.aG) (uZ g.aC) (uZ g.aN) (uZ g.aT) (.bool g.bG) (uZ g.id) (uZ g.aH) (.string g.data) nZ;have nX:=fM y w.heap.size (iZ g.aD) (iZ g.aG) (uZ g.aC) (uZ g.aN) (uZ g.aT) (.bool g.bG) (uZ g.id) (uZ g.aH) (.string g.data) nZ;generalize jI y w.heap.size (iZ g.aD) (iZ g.aG) (uZ g.aC) (uZ g.aN) (uZ g.aT) (.bool g.bG) (uZ g.id) (uZ g.aH) (.string g.data) nZ=p at *
  obtain⟨a0,a1,a2,a3,a4,a5,a6,a7,a8,a9,_⟩:=bC jX;exact Vl (v:=.tuple #[eF g nZ,.bool b]) (by simp[results,results259,go_sem,a0,a1,a2,a3,a4,a5,a6,a7,a8,a9,eF]) rfl (HE.out y p HP.out nX)
end

end
def qj6(S N n f B:Nat)(d:Option V3)(w i b:Wq)(p:WA->Wq->Prop)(Q:WA->Wq->Prop)(m:i=w.alloc (.cells #[uZ N,.slice d n f] 56))(o:b=i.setCell (ay S 229) (uZ ((N:Int)+1)))(g:b.heap.size=w.heap.size+1)(z:B=w.heap.size)(A:N<4611686018427387903)(F:w.cell? (ay S 229)=some (uZ N))(G:i.cell? (ay S 229)=some (uZ N))(H:i.frozen? (ay S 229)=false)(D:b.cell? (ay B 0)=some (uZ N))(E:b.cell? (ay B 1)=some (.slice d n f))(s:qH 182 #[.slice d n f] b (.bool false) fun c=>bE b c)(q:∀W,bE b W->WB prog 167 #[.agg #[uZ N,.slice d n f]] W fun e c=>∃v,e=.returned (.tuple #[v,.nilIface])/\(p v c/\∀k,v.ownBlock=some k->W.heap.size<=k)/\bE W c)(r:∀v W l,(p v l/\∀k,v.ownBlock=some k->W.heap.size<=k)->bE b W->bE W l->Q v l):WB prog 158 #[aJ S 0,.slice d n f] w fun e c=>∃v,e=.returned v/\Q v c:=by subst z;subst m;have j:=aF s;have t:=aF q;have u:=aF r;clear s q r;go_enter func158,ntmps158;go_wp2_with (first|(go_at_call 182;rw[<-o];refine bH j.out ?_;rintro C a;have J:=(cell_of D (a.block _ (by rw[g];exact qp9 _)));have K:=(cell_of E (a.block _ (by rw[g];exact qp9 _))))|(go_at_call 167;refine(t.out C a).mono ?_;rintro e I ⟨v,rfl,x,y⟩)|go_in);go_ret;exact⟨v,rfl,u.out v _ _ x a y⟩
def qj7(S N n j B bw z m:Nat)(i:Option V3)(w A d:Wq)(E:Option V3->Nat->Wq->Prop)(G:Wq->Prop)(P:WA->Wq->Prop)(Q:WA->Wq->Prop)(H:A=w.alloc (.cells #[uZ N,.slice i n j] 56))(x:d=A.setCell (ay S 229) (uZ ((N:Int)+1)))(g:d.heap.size=w.heap.size+1)(hB:B=w.heap.size)(o:S<w.heap.size)(J:N<4611686018427387903)(n0:w.cell? (ay S 229)=some (uZ N))(n1:A.cell? (ay S 229)=some (uZ N))(nf:A.frozen? (ay S 229)=false)(L:d.cell? (ay B 0)=some (uZ N))(M:d.cell? (ay B 1)=some (.slice i n j))(O:d.cell? (ay S 3)=some (uZ z))(s:d.cell? (ay S 230)=some (.map (some bw)))(hw:qH 182 #[.slice i n j] d (.bool true) fun b=>bE d b)(X:∀W,bE d W->WB prog 212 #[.slice i n j] W fun e b=>∃a c,e=.returned (.slice a m c)/\E a c b/\bE W b)(hu:∀a c W,bE d W->E a c W->∃l,(Instr.mapUpdate 203 (.map (some bw)) (uZ N) (.agg #[.slice a m c,uZ z])).run prog W=.ok () l/\G l/\d.grownBy l (some bw)/\l.cell? (ay B 0)=some (uZ N)/\l.cell? (ay B 1)=some (.slice i n j))(Y:∀W,d.grownBy W (some bw)->WB prog 167 #[.agg #[uZ N,.slice i n j]] W fun e b=>∃v,e=.returned (.tuple #[v,.nilIface])/\(P v b/\∀k,v.ownBlock=some k->W.heap.size<=k)/\bE W b)(Z:∀v W l,(P v l/\∀k,v.ownBlock=some k->W.heap.size<=k)->G W->bE W l->Q v l):WB prog 158 #[aJ S 0,.slice i n j] w fun e b=>∃v,e=.returned v/\Q v b:=by
 subst hB;subst H;have u:=aF hw;have HE:=aF Y;have HQ:=aF Z;have R:=aF X;have T:=aF hu;have HS:=aF (dw g o);have HX:=aF (dw L (dw M (dw O s)));have I:Hid (∀W,bE d W->W.cell? (ay w.heap.size 0)=some (uZ N)/\W.cell? (ay w.heap.size 1)=some (.slice i n j)/\W.cell? (ay S 3)=some (uZ z)/\W.cell? (ay S 230)=some (.map (some bw))):=fun W C=>⟨cell_of L (C.block _ (by rw[g];exact qp9 _)),cell_of M (C.block _ (by rw[g];exact qp9 _)),cell_of O (C.block _ (by rw[g];exact fA o)),cell_of s (C.block _ (by rw[g];exact fA o))⟩;clear hw Y Z X hu L M O s g o;go_enter func158,ntmps158;go_wp2_with (first|(go_at_call 182;rw[<-x];refine bH u.out ?_;rintro D f)|go_in);obtain⟨y0,y1,y3,K⟩:=I.out D f;have t:Hid (∀q,WB prog 212 #[.slice i n j] (D.drewN q) fun e b=>∃a c,e=.returned (.slice a m c)/\Hid (E a c b/\bE d b)/\(b.cell? (ay w.heap.size 0)=some (uZ N)/\b.cell? (ay w.heap.size 1)=some (.slice i n j)/\b.cell? (ay S 3)=some (uZ z)/\b.cell? (ay S 230)=some (.map (some bw)))/\∃F:Wq,(Instr.mapUpdate 203 (.map (some bw)) (uZ N) (.agg #[.slice a m c,uZ z])).run prog b=.ok () F/\Hid (G F/\d.grownBy F (some bw))/\F.cell? (ay w.heap.size 0)=some (uZ N)/\F.cell? (ay w.heap.size 1)=some (.slice i n j)):=fun q=>by have r:bE d (D.drewN q):=⟨f.os,f.tape,f.output,f.size,f.block⟩;refine(R.out (D.drewN q) r).mono ?_;rintro e b ⟨a,c,rfl,U,h2⟩;have p:bE d b:=r.trans (h2.mono r.size);obtain⟨F,u1,u2,u3,u4,u5⟩:=T.out a c b p U;exact⟨a,c,rfl,⟨U,p⟩,I.out b p,F,u1,⟨u2,u3⟩,u4,u5⟩
 clear R T u I J n0 n1 nf x f HX HS;go_region_with (first|(go_at_call 212;refine(t.out _).mono ?_;rintro e y ⟨a,c,rfl,hA,⟨y0,y1,y3,K⟩,F,hF,V,f0,f1⟩));all_goals
  clear t;go_wp2_with (first|(go_at_call 167;refine(HE.out F V.out.2).mono ?_;rintro e w3 ⟨v,rfl,e1,e3⟩)|go_in);go_ret;exact⟨v,rfl,HQ.out v _ _ e1 V.out.1 e3⟩
structure Gd (oZ:Own) (w:Wq):Prop where
 tab:kU w
 o1:oZ 1=0
 sz:2<=w.heap.size
def Gd.kp(h:Gd oZ w)(K:Kp T oZ aQ w w')(a:0∉T):Gd aQ w':=
 ⟨fun k b=>cell_of (h.tab k b) (K.bY 1 (bR h.sz) (by rw[h.o1];exact a)),by rw[K.ext 1 (bR h.sz),h.o1],qlz h.sz K.size⟩
def mD.qa6{l:List jQ}(h:mD w b l){o:Nat}(c:w.cell? (ay x o)=some v):x≠b:=fun e=>by obtain⟨g,⟨f,d,a,_⟩,_⟩:=h;subst e;simp[World.cell?,a]at c
def nQ.heap{f:Fr}{i:Option V3}{k:Nat}(h:nQ w b e f i k)(c:b≠S)(d:∀x,i=some x->x.block≠S)(a:∀x o v,x≠S->w.cell? (ay x o)=some v->w'.cell? (ay x o)=some v):nQ w' b e f i k:=
 ⟨a _ _ _ c h.c0,a _ _ _ c h.c1,a _ _ _ c h.c2,a _ _ _ c h.c3,a _ _ _ c h.c4,a _ _ _ c h.c5,a _ _ _ c h.c6,a _ _ _ c h.c7,a _ _ _ c h.c8,a _ _ _ c h.c9,fun j p=>by obtain⟨x,o,g,l,m,n⟩:=h.qO j p;exact⟨x,o,g,a _ _ _ (d _ g) l,a _ _ _ (d _ g) m,n⟩,h.Bb,h.Bc,h.k0,h.s0,h.u0⟩
def nC.heap{w w':Wq}{a:Option V3}{g:List Fr}{f:Nat->Option V3}{k:Nat->Nat}{S:Nat}(h:nC w a g f k)(c:∀x,a=some x->x.block≠S)(d:∀j x,f j=some x->x.block≠S)(q:∀x o v,x≠S->w.cell? (ay x o)=some v->w'.cell? (ay x o)=some v)(r:w.heap.size<=w'.heap.size):nC w' a g f k:=fun j p=>by obtain⟨b,e,i,l,m,n⟩:=h j p;exact⟨b,e,i,nQ.heap l (c _ i) (d j) q,m,fun x s=>qm9 (n x s) r⟩
def xD{l:List jQ}(d:mD w b l)(e:w.grownBy w' (some b)):∀x o v,w.cell? (ay x o)=some v->w'.cell? (ay x o)=some v:=fun x o v c=>cell_of c (e.block x (qmf (a:=(ay x o)) _ c) (by simpa using d.qa6 c))
def um.add{l:List (Nat×ru)}(n:Nat)(p:ru)(a:Option V3)(c:Nat)(f:Nat->Option V3×Nat)(j:oZ b=t)(m:∀x∈l,GT oZ g 65 10 w (.slice (f x.1).1 x.2.cZ.length (f x.1).2) x.2.cZ.length (kY x.2.cZ))(i:∀x∈l,x.1≠n)(q:mD w' b ((n,a,p.cZ.length,c,p.aW)::l.map (Eu f)))(K:Kp T oZ aQ w w')(h:g∉T)(r:b<w.heap.size)(o:GT aQ g 65 10 w' (.slice a p.cZ.length c) p.cZ.length (kY p.cZ)):um aQ t g w' b (l++[(n,p)]):=by
 refine⟨fun k=>if k=n then(a,c)else f k,by rw[K.ext b r,j],?_,fun x d=>?_⟩
 ·have e:(l++[(n,p)]).map (Eu fun k=>if k=n then(a,c)else f k)=l.map (Eu f)++[(n,a,p.cZ.length,c,p.aW)]:=by
   rw[qnb];congr 1
   ·refine qps fun x d=>?_;unfold Eu;simp only[aV (i x d)]
   ·simp[Eu]
  rw[e];exact q.perm (List.perm_append_comm (l₁:=[_]))
 ·rcases qm7.1 d with d|d;·simp only[aV (i x d)];exact(m x d).kp K h
  ·obtain rfl:=qmi.1 d;simp only[if_true];exact o
def Kr:∀L:List FV,(∀x∈L,x.2=(none,0,0))->rz L=kY (L.map eB)
 |[],_=>rfl
 |x::t,h=>by
  have e:qx x=nZ:=by unfold qx;rw[h x aM]
  show fJ x.1 (qx x)++rz t=fJ x.1 nZ++kY (t.map eB);rw[e,Kr t fun y a=>h y (by simp[a])]
def fH.pkt{l:bJ}(h:fH oZ s w S l M bw bl bi f)(n:Nat)(d:List (Nat×ru))(K:Kp [s,s+42] oZ aQ w w')(g:aL w' S TS (l.set 229 (uZ n)))(i:um aQ (s+42) (s+44) w' bw d):fH aQ s w' S (l.set 229 (uZ n)) {M with next:=n,bf:=d} bw bl bi f:=by
 have b:kR l (l.set 229 (uZ n)) 229 1:=kR.set l 229 _ 229 1 aj aj;have e:∀j,j≠229->(l.set 229 (uZ n))[j]?=l[j]?:=fun j a=>qn1 aj;have c:=h.cells;refine⟨by rw[K.ext S h.bY.lt,h.ow],h.s0,g,⟨by rw[qn3];exact c.len,(e _ aj).trans c.c0,(e _ aj).trans c.c1,(e _ aj).trans c.c2,(e _ aj).trans c.c3,(e _ aj).trans c.qU,c.gr.dW b aj,(e _ aj).trans c.sP,(e _ aj).trans c.sQ,(e _ aj).trans c.pQ,(e _ aj).trans c.nH,qo0 (by rw[c.len];omega),(e _ aj).trans c.oM,(e _ aj).trans c.rV,(e _ aj).trans c.nJ,(e _ aj).trans c.jd,(e _ aj).trans c.qA,(e _ aj).trans c.pR,(e _ aj).trans c.qV,(e _ aj).trans c.rW,(e _ aj).trans c.oO,(e _ aj).trans c.tY⟩,fun j a=>?_,fun j a=>?_,?_,i,?_,(h.qu.kp K aM aM aM).eq rfl,h.lo,h.li⟩;·exact(h.out j a).kp K rR rR rR b aj
 ·exact(h.cK j a).kp K rR rR b aj
 ·exact h.row.kp K aM
 ·exact h.b_.kp K aM aM
def FP(oZ:Own)(s n:Nat):Own:=fun b=>if b<n then oZ b else s+47
def Ih(oZ:Own)(s n b:Nat)(h:b<n):FP oZ s n b=oZ b:=bM h
def mG(oZ:Own)(s n b:Nat)(h:n<=b):FP oZ s n b=s+47:=aV aj
def qj9(s:Nat)(oZ:Own)(w:Wq)(S:Nat)(bw bl bi:Nat)(M:av)(b:List Fr)(v:WA)(w':Wq):Prop:=
 lG w' v (bP M.next b)/\lQ w.heap.size v/\∃a d c,fH a s w' S d (M.dO b) bw bl bi c/\Kp [s,s+42] oZ a w w'/\∀k,v.ownBlock=some k->a k=s+47
def SK{l:bJ}{vc:WA}{p:Option V3}(L:List FV)(z:Nat)(ra:Nat->Option V3)(rc:Nat->Nat)(h:fH oZ s w S l M bw bl bi vc)(hG:Gd oZ w)(hn:M.next<4611686018427387903)(hk:∀x∈M.bf,x.1<M.next)(xj:M.bf.length<100000)(h0:0<L.length)(hl:L.length<=1000)(hF:Rd 10 w (.slice p L.length z) L.length (rz L))(hV:yE w p L)(hA:nC w p (L.map eB) ra rc)(hr:∀x∈L,Ig x.1=false->x.2=(none,0,0))(P:∀x,p=some x->x.block≠S)(hf:∀j x,ra j=some x->x.block≠S)(Zj:rG M.next (L.map eB)=true)(x5:(fQ M.next (L.map eB)).length<=1000000000):WB prog 158 #[aJ S 0,.slice p L.length z] w fun e R=>∃v,e=.returned v/\qj9 s oZ w S bw bl bi M (L.map eB) v R:=by
 have Ku:=h.bY.lt;obtain⟨C,G⟩:=bT (w.alloc (.cells #[uZ M.next,.slice p L.length z] 56));have H:bE w C:=by rw[G];exact(qlw _ w).alloc (qj _) _
 have x8:aL C w.heap.size 56 [uZ M.next,.slice p L.length z]:=by rw[G];exact aL.new w 56 _
 have xa:C.heap.size=w.heap.size+1:=by rw[G];simp
 obtain⟨n,q⟩:=bT (C.setCell (ay S 229) (uZ ((M.next:Int)+1)));have X:aL C S TS l:=h.bY.of_heap (H.block S Ku);have N:aL n S TS (l.set 229 (uZ (((M.next+1:Nat)):Int))):=by rw[q];exact X.setCell 229 _
 have he:aL n w.heap.size 56 [uZ M.next,.slice p L.length z]:=by rw[q];exact x8.of_heap (qmd _ _ _ _ (by show w.heap.size≠S;omega))
 have E:Kp [s] oZ oZ w n:=by rw[q];exact(Kp.below H).trans (Kp.set oZ C _ _ [s] (by show oZ S∈[s];rw[h.ow];simp))
 have r:∀x o v,x≠S->w.cell? (ay x o)=some v->n.cell? (ay x o)=some v:=fun x o v hx hc=>by have xd:=qmf (a:=(ay x o)) _ hc;rw[q];exact cell_of hc ((qmd C (ay S 229) _ x hx).trans (H.block x xd))
 have hm:n.heap.size=w.heap.size+1:=by rw[q];simp[xa]
 have x4:yE n p L:=fun j hj=>by obtain⟨b,xe,D,V⟩:=hV j hj;refine⟨b,xe,D,fun i hi=>?_⟩;have:=V i hi;rw[qm3 (by simpa using hi)]at this ⊢;exact r _ _ _ (P _ D) this
 have x2:Rd 10 n (.slice p L.length z) L.length (rz L):=by
  rcases hF with h|⟨g,cap,D,V,h3,h4,h5⟩;·exact .inl h
  ·simp only[qn4,true_and]at D;exact .inr ⟨g,cap,by simp[D],aj,h3,fun j u hj=>r _ _ _ (P _ D.1) (h4 j u hj),h5⟩
 have hA1:nC n p (L.map eB) ra rc:=nC.heap hA P hf r aj;have ho:Gd oZ n:=hG.kp E (by simp;have:=h.s0;omega);have J:=aF (FD p L z n aj x4);have xi:=h.Ay;obtain⟨f,Y,O,x6⟩:=xi;have hu:bw≠S:=fun e=>by have:=h.ow;rw[e]at Y;omega
 have F:mD n bw (M.bf.map (Eu f)):=O.kept (by rw[q];exact(qmd C (ay S 229) _ bw hu).trans (H.block bw O.lt));have HE:Hid (∀W,n.grownBy W (some bw)->WB prog 167 #[.agg #[uZ M.next,.slice p L.length z]] W fun e R=>∃v,e=.returned (.tuple #[v,.nilIface])/\(lG R v (bP M.next (L.map eB))/\∀k,v.ownBlock=some k->W.heap.size<=k)/\bE W R):=fun W B=>by have h9:=xD F B;have hA2:nC W p (L.map eB) ra rc:=nC.heap hA1 P hf (fun x o v _ hc=>h9 x o v hc) B.size;have:=Cc M.next (L.map eB) z ra rc rR hA2 Zj (fun k m=>h9 _ _ _ (ho.tab k m)) (qlz ho.sz B.size) x5;rw[qmc]at this;refine this.mono ?_;rintro e R ⟨v,D,V,h3,h4⟩;exact⟨v,D,⟨V,h3⟩,h4⟩
 have x0:n.cell? (ay w.heap.size 0)=some (uZ M.next):=he.cell 0;have x1:n.cell? (ay w.heap.size 1)=some (.slice p L.length z):=he.cell 1;have n0:w.cell? (ay S 229)=some (uZ M.next):=(h.bY.cell _).trans h.cells.n_;have n1:C.cell? (ay S 229)=some (uZ M.next):=(X.cell _).trans h.cells.n_;have nf:=X.frozen 229;cases Q:fD (L.map eB)
 ·rw[Q]at J;have HQ:Hid (∀W,bE n W->∃l' jR,fH (FP oZ s w.heap.size) s W S l' (M.dO (L.map eB)) bw bl bi jR/\Kp [s,s+42] oZ (FP oZ s w.heap.size) w W):=fun W A=>by
   have e:M.dO (L.map eB)={M with next:=M.next+1,bf:=M.bf}:=by unfold av.dO;rw[Q];rfl
   rw[e];have K0:Kp [s,s+42] oZ oZ w W:=(E.mono aM).iA A;have K:Kp [s,s+42] oZ (FP oZ s w.heap.size) w W:=⟨K0.os,K0.tape,K0.output,K0.size,K0.bY,fun b d=>Ih oZ s _ b d⟩;have Kx:Kp [s] oZ (FP oZ s w.heap.size) w n:=⟨E.os,E.tape,E.output,E.size,E.bY,fun b d=>Ih oZ s _ b d⟩;exact⟨_,vc,h.pkt (M.next+1) M.bf K (eY A N) ((h.Ay.kp Kx aM aM).kp (Kp.below (T:=[]) A) aM aM),K⟩
  refine qj6 S M.next L.length z w.heap.size p w C n _ _ G q hm rfl aj n0 n1 nf x0 x1 J.out (fun W A=>HE.out W ((jg A).but _)) (fun v W I a b c=>?_);obtain⟨l',jR,q1,q2⟩:=HQ.out I (b.trans (c.mono b.size));have h7:∀k,v.ownBlock=some k->w.heap.size<=k:=fun k m=>qlz (bR b.size) (a.2 k m);exact⟨a.1,h7,_,l',jR,q1,q2,fun k m=>mG _ _ _ _ (h7 k m)⟩
 ·rw[Q]at J;have h6:(L.filter fun x=> !Ig x.1).map eB=again (L.map eB):=by
   unfold again;rw[qoe];rfl
  have xf:(L.filter fun x=> !Ig x.1).length=(again (L.map eB)).length:=by rw[<-h6,qmc]
  have x9:rz (L.filter fun x=> !Ig x.1)=kY (again (L.map eB)):=by rw[Kr _ fun x hx=>by obtain⟨D,V⟩:=qm4.1 hx;exact hr x D (by simpa using V),h6]
  have hv:Hid (∀W,bE n W->WB prog 212 #[.slice p L.length z] W fun e R=>∃a c,e=.returned (.slice a (again (L.map eB)).length c)/\(dY 65 10 R (.slice a (again (L.map eB)).length c) (again (L.map eB)).length (kY (again (L.map eB)))/\lQ w.heap.size (.slice a (again (L.map eB)).length c))/\bE W R):=fun W A=>by have:=SI p L z W aj h0 (x2.below A);rw[xf,x9]at this;refine this.mono ?_;rintro e R ⟨a,c,D,V,h3,h4⟩;exact⟨a,c,D,⟨V,fun k m=>qlz (bR A.size) (h3 k m)⟩,h4⟩
  refine qj7 S M.next L.length z w.heap.size bw M.aW (again (L.map eB)).length p w C n _ (fun W=>∃U l' jR,fH U s W S l' (M.dO (L.map eB)) bw bl bi jR/\Kp [s,s+42] oZ U w W/\w.heap.size<=W.heap.size/\∀b,W.heap.size<=b->U b=s+47) _ _ G q hm rfl Ku aj n0 n1 nf x0 x1 ?_ ?_ J.out hv.out ?_ HE.out ?_;·rw[N.cell,qn1 aj];exact h.cells.c3
  ·rw[N.cell,qn1 aj];exact h.cells.oM
  ·rintro a c W A ⟨Z,h8⟩;have x3:mD W bw (M.bf.map (Eu f)):=F.kept (A.block _ F.lt);obtain⟨I,u1,u2,u3⟩:=x3.put (by rw[qmc];omega) (M.next,a,(again (L.map eB)).length,c,M.aW) aj (fun y hy=>by
    obtain⟨x,hx,rfl⟩:=qmk.1 hy;have:=hk x hx;show x.1≠M.next;omega)
   have B:n.grownBy I (some bw):=((jg A).but (some bw)).andThen u3 (fun j hj=>.inr hj);refine⟨I,u1,?_,B,xD F B _ _ _ x0,xD F B _ _ _ x1⟩;obtain⟨U,t⟩:=bT (fun b=>if b<w.heap.size then oZ b else if b<I.heap.size then s+44 else s+47:Own);have K:Kp [s,s+42] oZ U w I:=by have k1:w.grownBy n (some S):=⟨E.os,E.tape,E.output,E.size,fun i hi x7=>by rw[q];exact(qmd C (ay S 229) _ i (by simpa using x7)).trans (H.block i hi)⟩;refine⟨B.os.trans k1.os,B.tape.trans k1.tape,B.output.trans k1.output,qlz k1.size B.size,fun b d ha=>?_,fun b d=>by rw[t];exact bM d⟩;have e1:b≠S:=fun e=>ha (by rw[e,h.ow];simp);have e2:b≠bw:=fun e=>ha (by rw[e,Y];simp);exact(B.block b aj (by simpa using e2)).trans (k1.block b d (by simpa using e1))
   have e:M.dO (L.map eB)={M with next:=M.next+1,bf:=M.bf++[(M.next,⟨again (L.map eB),M.aW⟩)]}:=by unfold av.dO;rw[Q];rfl
   rw[e];refine⟨U,_,vc,h.pkt (M.next+1) _ K (N.of_heap (B.block S aj (by simpa using hu.symm))) ?_,K,K.size,fun b d=>by rw[t];show(if b<w.heap.size then oZ b else if b<I.heap.size then s+44 else s+47)=_;rw[aV (bR K.size),aV aj]⟩;refine um.add M.next ⟨again (L.map eB),M.aW⟩ a c f Y x6 (fun x hx=>bR (hk x hx)) u2 K aM O.lt ?_;refine GT.Q_ ?_ fun b d=>?_;·refine Z.of_heap fun b d=>u3.block b (Z.lt b d) (fun e=>?_);have:=h8 b d;have:=O.lt;simp at e;omega
   ·rw[t];have xl:=h8 b d;have hw:b<I.heap.size:=qm9 (Z.lt b d) u3.size;show(if b<w.heap.size then oZ b else if b<I.heap.size then s+44 else s+47)=_;rw[aV aj,bM hw]
  ·rintro v W I ⟨e1,e2⟩ ⟨U,l',jR,u1,u2,u4,u3⟩ A;exact⟨e1,fun k m=>qlz u4 (e2 k m),U,l',jR,u1.below A,u2.iA A,fun k m=>u3 k (e2 k m)⟩
abbrev nM(x:Src):WA:=.agg #[iZ x.u,.func x.f1 x.p1 x.k1,.func x.f2 x.p2 x.k2,.bool x.y]
structure kM (oZ:Own) (s:Nat) (w0:Wq) (S bw bl bi ab:Nat) (x:Src) (iw sS:av->bZ->Bool) (nx:av->bZ->Int->Option (Fr×av×bZ)):Prop where
 fn:∃n1 n2,x.f1=.func n1/\x.f2=.func n2/\(∀args w,(callFunc n1 args).run prog w=.ok (.enter n1 args) w)/\(∀args w,(callFunc n2 args).run prog w=.ok (.enter n2 args) w)/\
  qJ oZ s w0 S bw bl bi ab n1 x.p1 x.k1 iw/\tK oZ s w0 S bw bl bi ab n2 x.p2 x.k2 sS nx
def kM.kp{oZ b:Own}{s:Nat}{w0 e:Wq}{S bw bl bi a:Nat}{x:Src}{c d:av->bZ->Bool}{nx:av->bZ->Int->Option (Fr×av×bZ)}(h:kM oZ s w0 S bw bl bi a x c d nx)(K:Kp (Tb s) oZ b w0 e):kM b s e S bw bl bi a x c d nx:=by obtain⟨m,n,f,g,i,j,k,l⟩:=h.fn;exact⟨m,n,f,g,i,j,k.kp K,l.kp K⟩
structure Ii (oZ:Own) (s:Nat) (w0:Wq) (S bw bl bi ab:Nat) (x:Src) (iw sS:av->bZ->Bool) (nx:av->bZ->Int->Option (Fr×av×bZ)):Prop where
 fn:∃n1 n2,x.f1=.func n1/\x.f2=.func n2/\(∀args w,(callFunc n1 args).run prog w=.ok (.enter n1 args) w)/\(∀args w,(callFunc n2 args).run prog w=.ok (.enter n2 args) w)/\
  qJ oZ s w0 S bw bl bi ab n1 x.p1 x.k1 iw/\Az oZ s w0 S bw bl bi ab n2 x.p2 x.k2 sS nx
def Dm(a:bE w w'):Kp [] oZ (FP oZ s w.heap.size) w w':=⟨a.os,a.tape,a.output,a.size,fun b h _=>a.block b h,fun b h=>Ih oZ s _ b h⟩
def wD{m:Nat}{x:Src}{o p:av->bZ->Bool}{nx:av->bZ->Int->Option (Fr×av×bZ)}(w:Wq)(h:kM oZ s w S bw bl bi m x o p nx):WB prog 205 #[aJ S 0,nM x] w fun e q=>∃d,e=.returned (nM d)/\bE w q/\d.u=x.u/\d.y=x.y/\kM (FP oZ s w.heap.size) s q S bw bl bi m d (fun M r=> !M.full&&o M r) p nx:=by
 go_enter func205,ntmps205;go_wp2;obtain⟨a,c⟩:=bT (.func (.func 261) #[] #[aJ w.heap.size 0,(aJ (w.heap.size+1+1+1) 0)]:WA);rw[<-c];have f:=aL.new w 128 [aJ S 0];have D:=aL.new (w.alloc (.cells #[aJ S 0] 128)) 304 [iZ x.u,a,.func x.f2 x.p2 x.k2,.bool x.y];have b:=aL.new ((w.alloc (.cells #[aJ S 0] 128)).alloc (.cells #[iZ x.u,a,.func x.f2 x.p2 x.k2,.bool x.y] 304)) 304 [iZ x.u,a,.func x.f2 x.p2 x.k2,.bool x.y];have g:=aL.new (((w.alloc (.cells #[aJ S 0] 128)).alloc (.cells #[iZ x.u,a,.func x.f2 x.p2 x.k2,.bool x.y] 304)).alloc (.cells #[iZ x.u,a,.func x.f2 x.p2 x.k2,.bool x.y] 304)) 28 [.func x.f1 x.p1 x.k1];have n:bE w ((((w.alloc (.cells #[aJ S 0] 128)).alloc (.cells #[iZ x.u,a,.func x.f2 x.p2 x.k2,.bool x.y] 304)).alloc (.cells #[iZ x.u,a,.func x.f2 x.p2 x.k2,.bool x.y] 304)).alloc (.cells #[.func x.f1 x.p1 x.k1] 28)):=((((qlw _ w).alloc (qj _) _).alloc aM _).alloc rR _).alloc rR _;replace f:=((f.alloc (.cells #[iZ x.u,a,.func x.f2 x.p2 x.k2,.bool x.y] 304)).alloc (.cells #[iZ x.u,a,.func x.f2 x.p2 x.k2,.bool x.y] 304)).alloc (.cells #[.func x.f1 x.p1 x.k1] 28);replace b:=b.alloc (.cells #[.func x.f1 x.p1 x.k1] 28);simp only[qmx]at b g;generalize ((((w.alloc (.cells #[aJ S 0] 128)).alloc (.cells #[iZ x.u,a,.func x.f2 x.p2 x.k2,.bool x.y] 304)).alloc (.cells #[iZ x.u,a,.func x.f2 x.p2 x.k2,.bool x.y] 304)).alloc (.cells #[.func x.f1 x.p1 x.k1] 28))=W at *
 have i:=b.cell 0;have j:=b.cell 1;have k:=b.cell 2;have l:=b.cell 3;simp only[qml,qma]at i j k l;refine Vl (v:=.agg #[iZ x.u,a,.func x.f2 x.p2 x.k2,.bool x.y]) (by simp[results,results205,go_sem,i,j,k,l]) rfl ⟨⟨x.u,.func 261,#[],#[aJ w.heap.size 0,(aJ (w.heap.size+1+1+1) 0)],x.f2,x.p2,x.k2,x.y⟩,by rw[c],n,rfl,rfl,?_⟩;obtain⟨E,C,t,u,y,z,A,B⟩:=h.fn;have K:Kp (Tb s) oZ (FP oZ s w.heap.size) w W:=(Dm n).mono aM;rw[t]at g;exact⟨261,C,rfl,u,enters_of func261 bO rfl,z,NW _ _ y ⟨mG _ _ _ _ (qj _),f⟩ ⟨mG _ _ _ _ aj,g⟩ (A.kp K),B.kp K⟩
def NY(w:Wq):WB prog 202 #[aJ S 0] w fun e n=>∃g,e=.returned (nM g)/\bE w n/\g.u=8/\g.y=false/\Ii (FP oZ s w.heap.size) s n S bw bl bi p g (fun M _=>M.gr.bD M.aZ) (fun M _=>M.gr.bD M.aZ) (fun M o q=>(M.gr.next 5 0 M.aZ q).map fun x=>(x.1,{M with gr:=x.2},o)):=by
 go_enter func202,ntmps202;go_wp2;obtain⟨a,d⟩:=bT (.func (.func 250) #[] #[aJ w.heap.size 0]:WA);obtain⟨b,f⟩:=bT (.func (.func 253) #[] #[aJ w.heap.size 0]:WA);rw[<-d,<-f];have i:=((aL.new w 128 [aJ S 0]).alloc (.cells #[iZ 8,a,b,.bool false] 304));have c:=aL.new (w.alloc (.cells #[aJ S 0] 128)) 304 [iZ 8,a,b,.bool false];have r:bE w ((w.alloc (.cells #[aJ S 0] 128)).alloc (.cells #[iZ 8,a,b,.bool false] 304)):=(((qlw _ w).alloc (qj _) (.cells #[aJ S 0] 128)).alloc stZ (.cells #[iZ 8,a,b,.bool false] 304));simp only[qmx]at c;generalize ((w.alloc (.cells #[aJ S 0] 128)).alloc (.cells #[iZ 8,a,b,.bool false] 304))=W at *
 have j:=c.cell 0;have k:=c.cell 1;have l:=c.cell 2;have m:=c.cell 3;simp only[qml,qma]at j k l m;refine Vl (v:=.agg #[(iZ (8)),a,b,.bool false]) (by simp[results,results202,go_sem,j,k,l,m]) rfl ⟨⟨8,.func 250,#[],#[aJ w.heap.size 0],.func 253,#[],#[aJ w.heap.size 0],false⟩,by rw[d,f],r,rfl,rfl,?_⟩;exact⟨250,253,rfl,rfl,enters_of func250 bO rfl,enters_of func253 bO rfl,Hu _ ⟨mG _ _ _ _ aj,i⟩,Hz _ ⟨mG _ _ _ _ aj,i⟩ _⟩
def Ij(k:Nat)(o:k<8)(w:Wq):WB prog 203 #[aJ S 0,iZ k] w fun e p=>∃g,e=.returned (nM g)/\bE w p/\g.u=16+(k:Int)/\g.y=false/\Ii (FP oZ s w.heap.size) s p S bw bl bi t g (fun M _=>(M.cK k).iq) (fun M _=>(M.cK k).iq) (fun M r u=>((M.cK k).gr.next 6 k (M.cK k).aZ u).map fun x=>(x.1,M.fT k {M.cK k with gr:=x.2},r)):=by
 have z:(k:Int)<8:=aj;go_enter func203,ntmps203;go_wp2;go_region
 go_wp2;rw[show 4+k*27+14=18+27*k by omega];obtain⟨a,d⟩:=bT (.func (.func 255) #[(aJ S (18+27*k))] #[]:WA);obtain⟨b,f⟩:=bT (.func (.func 256) #[] #[(aJ (w.heap.size+1+1) 0),aJ w.heap.size 0]:WA);rw[<-d,<-f];have q:=aL.drew (((((aL.new w 3 [iZ k]).alloc (.cells #[(iZ (16+(k:Int))),a,b,.bool false] 304))).alloc (.cells #[(aJ S (18+27*k))] 333)));have c:=aL.drew (((aL.new (w.alloc (.cells #[iZ k] 3)) 304 [(iZ (16+(k:Int))),a,b,.bool false]).alloc (.cells #[(aJ S (18+27*k))] 333)));have i:=aL.drew (aL.new ((w.alloc (.cells #[iZ k] 3)).alloc (.cells #[(iZ (16+(k:Int))),a,b,.bool false] 304)) 333 [(aJ S (18+27*k))]);have y:bE w (((w.alloc (.cells #[iZ k] 3)).alloc (.cells #[(iZ (16+(k:Int))),a,b,.bool false] 304)).alloc (.cells #[(aJ S (18+27*k))] 333)).drew:=(⟨((((qlw _ w).alloc (qj _) (.cells #[iZ k] 3)).alloc stZ (.cells #[(iZ (16+(k:Int))),a,b,.bool false] 304)).alloc stZ (.cells #[(aJ S (18+27*k))] 333)).os,((((qlw _ w).alloc (qj _) (.cells #[iZ k] 3)).alloc stZ (.cells #[(iZ (16+(k:Int))),a,b,.bool false] 304)).alloc stZ (.cells #[(aJ S (18+27*k))] 333)).tape,((((qlw _ w).alloc (qj _) (.cells #[iZ k] 3)).alloc stZ (.cells #[(iZ (16+(k:Int))),a,b,.bool false] 304)).alloc stZ (.cells #[(aJ S (18+27*k))] 333)).output,((((qlw _ w).alloc (qj _) (.cells #[iZ k] 3)).alloc stZ (.cells #[(iZ (16+(k:Int))),a,b,.bool false] 304)).alloc stZ (.cells #[(aJ S (18+27*k))] 333)).size,((((qlw _ w).alloc (qj _) (.cells #[iZ k] 3)).alloc stZ (.cells #[(iZ (16+(k:Int))),a,b,.bool false] 304)).alloc stZ (.cells #[(aJ S (18+27*k))] 333)).block⟩:bE w (((w.alloc (.cells #[iZ k] 3)).alloc (.cells #[(iZ (16+(k:Int))),a,b,.bool false] 304)).alloc (.cells #[(aJ S (18+27*k))] 333)).drew);simp only[qmx]at c i;generalize (((w.alloc (.cells #[iZ k] 3)).alloc (.cells #[(iZ (16+(k:Int))),a,b,.bool false] 304)).alloc (.cells #[(aJ S (18+27*k))] 333)).drew=W at *
 have j:=c.cell 0;have l:=c.cell 1;have m:=c.cell 2;have n:=c.cell 3;simp only[qml,qma]at j l m n;refine Vl (v:=.agg #[(iZ (16+(k:Int))),a,b,.bool false]) (by simp[results,results203,go_sem,j,l,m,n]) rfl ⟨⟨16+(k:Int),.func 255,#[(aJ S (18+27*k))],#[],.func 256,#[],#[(aJ (w.heap.size+1+1) 0),aJ w.heap.size 0],false⟩,by rw[d,f],y,rfl,rfl,?_⟩;exact⟨255,256,rfl,rfl,enters_of func255 bO rfl,enters_of func256 bO rfl,Dg k o,Dk k o _ _ ⟨mG _ _ _ _ aj,i⟩ ⟨mG _ _ _ _ aj,q⟩ _⟩
def NZ(k:Nat)(o:k<8)(w:Wq):WB prog 204 #[aJ S 0,iZ k] w fun e p=>∃g,e=.returned (nM g)/\bE w p/\g.u=24+(k:Int)/\g.y=false/\Ii (FP oZ s w.heap.size) s p S bw bl bi t g (fun M _=>(M.out k).nt.bD (M.out k).aB.length) (fun M _=>(M.out k).nt.bD (M.out k).aB.length) (fun M r u=>((M.out k).nt.next k (M.out k).aB.length u).map fun x=>(x.1,M.dD k {M.out k with nt:=x.2},r)):=by
 have z:(k:Int)<8:=aj;go_enter func204,ntmps204;go_wp2;go_region
 go_wp2;rw[show 4+k*27=4+27*k by omega];obtain⟨a,d⟩:=bT (.func (.func 258) #[(aJ S (4+27*k))] #[]:WA);obtain⟨b,f⟩:=bT (.func (.func 259) #[] #[(aJ (w.heap.size+1+1) 0),aJ w.heap.size 0]:WA);rw[<-d,<-f];have q:=aL.drew (((((aL.new w 3 [iZ k]).alloc (.cells #[(iZ (24+(k:Int))),a,b,.bool false] 304))).alloc (.cells #[(aJ S (4+27*k))] 282)));have c:=aL.drew (((aL.new (w.alloc (.cells #[iZ k] 3)) 304 [(iZ (24+(k:Int))),a,b,.bool false]).alloc (.cells #[(aJ S (4+27*k))] 282)));have i:=aL.drew (aL.new ((w.alloc (.cells #[iZ k] 3)).alloc (.cells #[(iZ (24+(k:Int))),a,b,.bool false] 304)) 282 [(aJ S (4+27*k))]);have y:bE w (((w.alloc (.cells #[iZ k] 3)).alloc (.cells #[(iZ (24+(k:Int))),a,b,.bool false] 304)).alloc (.cells #[(aJ S (4+27*k))] 282)).drew:=(⟨((((qlw _ w).alloc (qj _) (.cells #[iZ k] 3)).alloc stZ (.cells #[(iZ (24+(k:Int))),a,b,.bool false] 304)).alloc stZ (.cells #[(aJ S (4+27*k))] 282)).os,((((qlw _ w).alloc (qj _) (.cells #[iZ k] 3)).alloc stZ (.cells #[(iZ (24+(k:Int))),a,b,.bool false] 304)).alloc stZ (.cells #[(aJ S (4+27*k))] 282)).tape,((((qlw _ w).alloc (qj _) (.cells #[iZ k] 3)).alloc stZ (.cells #[(iZ (24+(k:Int))),a,b,.bool false] 304)).alloc stZ (.cells #[(aJ S (4+27*k))] 282)).output,((((qlw _ w).alloc (qj _) (.cells #[iZ k] 3)).alloc stZ (.cells #[(iZ (24+(k:Int))),a,b,.bool false] 304)).alloc stZ (.cells #[(aJ S (4+27*k))] 282)).size,((((qlw _ w).alloc (qj _) (.cells #[iZ k] 3)).alloc stZ (.cells #[(iZ (24+(k:Int))),a,b,.bool false] 304)).alloc stZ (.cells #[(aJ S (4+27*k))] 282)).block⟩:bE w (((w.alloc (.cells #[iZ k] 3)).alloc (.cells #[(iZ (24+(k:Int))),a,b,.bool false] 304)).alloc (.cells #[(aJ S (4+27*k))] 282)).drew);simp only[qmx]at c i;generalize (((w.alloc (.cells #[iZ k] 3)).alloc (.cells #[(iZ (24+(k:Int))),a,b,.bool false] 304)).alloc (.cells #[(aJ S (4+27*k))] 282)).drew=W at *
 have j:=c.cell 0;have l:=c.cell 1;have m:=c.cell 2;have n:=c.cell 3;simp only[qml,qma]at j l m n;refine Vl (v:=.agg #[(iZ (24+(k:Int))),a,b,.bool false]) (by simp[results,results204,go_sem,j,l,m,n]) rfl ⟨⟨24+(k:Int),.func 258,#[(aJ S (4+27*k))],#[],.func 259,#[],#[(aJ (w.heap.size+1+1) 0),aJ w.heap.size 0],false⟩,by rw[d,f],y,rfl,rfl,?_⟩;exact⟨258,259,rfl,rfl,enters_of func258 bO rfl,enters_of func259 bO rfl,Hw k o,H_ k o _ _ ⟨mG _ _ _ _ aj,i⟩ ⟨mG _ _ _ _ aj,q⟩⟩
def mk_data(k:Nat)(q:k<8)(w:Wq):WB prog 206 #[aJ S 0,iZ k] w fun e r=>∃g,e=.returned (nM g)/\bE w r/\g.u=40+(k:Int)/\g.y=false/\kM (FP oZ s w.heap.size) s r S bw bl bi u g (fun M _=>(M.out k).bD M.aR) (fun M _=>(M.out k).bD M.aR) (fun M t y=>((M.out k).next k y M.aR).map fun x=>(x.1,M.dD k x.2,t)):=by
 have A:(k:Int)<8:=aj;go_enter func206,ntmps206;go_wp2;go_region
 go_wp2;rw[show 4+k*27=4+27*k by omega];obtain⟨a,d⟩:=bT (.func (.func 263) #[] #[(aJ (w.heap.size+1+1+1) 0),aJ w.heap.size 0]:WA);obtain⟨b,f⟩:=bT (.func (.func 266) #[] #[(aJ (w.heap.size+1+1+1) 0),(aJ (w.heap.size+1) 0),aJ w.heap.size 0]:WA);rw[<-d,<-f];have j:=aL.drew (((((((aL.new w 128 [aJ S 0]).alloc (.cells #[iZ k] 3))).alloc (.cells #[(iZ (40+(k:Int))),a,b,.bool false] 304))).alloc (.cells #[(aJ S (4+27*k))] 282)));have l:=aL.drew (((((aL.new (w.alloc (.cells #[aJ S 0] 128)) 3 [iZ k]).alloc (.cells #[(iZ (40+(k:Int))),a,b,.bool false] 304))).alloc (.cells #[(aJ S (4+27*k))] 282)));have c:=aL.drew (((aL.new ((w.alloc (.cells #[aJ S 0] 128)).alloc (.cells #[iZ k] 3)) 304 [(iZ (40+(k:Int))),a,b,.bool false]).alloc (.cells #[(aJ S (4+27*k))] 282)));have i:=aL.drew (aL.new (((w.alloc (.cells #[aJ S 0] 128)).alloc (.cells #[iZ k] 3)).alloc (.cells #[(iZ (40+(k:Int))),a,b,.bool false] 304)) 282 [(aJ S (4+27*k))]);have z:bE w ((((w.alloc (.cells #[aJ S 0] 128)).alloc (.cells #[iZ k] 3)).alloc (.cells #[(iZ (40+(k:Int))),a,b,.bool false] 304)).alloc (.cells #[(aJ S (4+27*k))] 282)).drew:=(⟨(((((qlw _ w).alloc (qj _) (.cells #[aJ S 0] 128)).alloc stZ (.cells #[iZ k] 3)).alloc stZ (.cells #[(iZ (40+(k:Int))),a,b,.bool false] 304)).alloc stZ (.cells #[(aJ S (4+27*k))] 282)).os,(((((qlw _ w).alloc (qj _) (.cells #[aJ S 0] 128)).alloc stZ (.cells #[iZ k] 3)).alloc stZ (.cells #[(iZ (40+(k:Int))),a,b,.bool false] 304)).alloc stZ (.cells #[(aJ S (4+27*k))] 282)).tape,(((((qlw _ w).alloc (qj _) (.cells #[aJ S 0] 128)).alloc stZ (.cells #[iZ k] 3)).alloc stZ (.cells #[(iZ (40+(k:Int))),a,b,.bool false] 304)).alloc stZ (.cells #[(aJ S (4+27*k))] 282)).output,(((((qlw _ w).alloc (qj _) (.cells #[aJ S 0] 128)).alloc stZ (.cells #[iZ k] 3)).alloc stZ (.cells #[(iZ (40+(k:Int))),a,b,.bool false] 304)).alloc stZ (.cells #[(aJ S (4+27*k))] 282)).size,(((((qlw _ w).alloc (qj _) (.cells #[aJ S 0] 128)).alloc stZ (.cells #[iZ k] 3)).alloc stZ (.cells #[(iZ (40+(k:Int))),a,b,.bool false] 304)).alloc stZ (.cells #[(aJ S (4+27*k))] 282)).block⟩:bE w ((((w.alloc (.cells #[aJ S 0] 128)).alloc (.cells #[iZ k] 3)).alloc (.cells #[(iZ (40+(k:Int))),a,b,.bool false] 304)).alloc (.cells #[(aJ S (4+27*k))] 282)).drew);simp only[qmx]at l c i;generalize ((((w.alloc (.cells #[aJ S 0] 128)).alloc (.cells #[iZ k] 3)).alloc (.cells #[(iZ (40+(k:Int))),a,b,.bool false] 304)).alloc (.cells #[(aJ S (4+27*k))] 282)).drew=W at *
 have m:=c.cell 0;have n:=c.cell 1;have o:=c.cell 2;have p:=c.cell 3;simp only[qml,qma]at m n o p;refine Vl (v:=.agg #[(iZ (40+(k:Int))),a,b,.bool false]) (by simp[results,results206,go_sem,m,n,o,p]) rfl ⟨⟨40+(k:Int),.func 263,#[],#[(aJ (w.heap.size+1+1+1) 0),aJ w.heap.size 0],.func 266,#[],#[(aJ (w.heap.size+1+1+1) 0),(aJ (w.heap.size+1) 0),aJ w.heap.size 0],false⟩,by rw[d,f],z,rfl,rfl,?_⟩;exact⟨263,266,rfl,rfl,enters_of func263 bO rfl,enters_of func266 bO rfl,Sb k q _ _ ⟨mG _ _ _ _ aj,i⟩ ⟨mG _ _ _ _ aj,j⟩,Sj k q _ _ _ ⟨mG _ _ _ _ aj,i⟩ ⟨mG _ _ _ _ aj,l⟩ ⟨mG _ _ _ _ aj,j⟩⟩
def Ik(w:Wq):WB prog 207 #[aJ S 0] w fun e n=>∃i,e=.returned (nM i)/\bE w n/\i.u=32/\i.y=false/\kM (FP oZ s w.heap.size) s n S bw bl bi p i (fun M _=>decide (0<M.aK.length)) (fun M _=>decide (0<M.aK.length)) (fun M o q=>if q<M.gZ then none else M.aK.head?.map fun f=>(f,{M with aK:=M.aK.tail,qv:=Et M.qv},o)):=by
 go_enter func207,ntmps207;go_wp2;go_region
 go_wp2;obtain⟨a,c⟩:=bT (.func (.func 268) #[aJ S 233] #[]:WA);obtain⟨b,d⟩:=bT (.func (.func 269) #[aJ S 233] #[]:WA);rw[<-c,<-d];have g:=aL.drew (aL.new w 304 [iZ 32,a,b,.bool false]);have r:bE w (w.alloc (.cells #[iZ 32,a,b,.bool false] 304)).drew:=(⟨((qlw _ w).alloc (qj _) (.cells #[iZ 32,a,b,.bool false] 304)).os,((qlw _ w).alloc (qj _) (.cells #[iZ 32,a,b,.bool false] 304)).tape,((qlw _ w).alloc (qj _) (.cells #[iZ 32,a,b,.bool false] 304)).output,((qlw _ w).alloc (qj _) (.cells #[iZ 32,a,b,.bool false] 304)).size,((qlw _ w).alloc (qj _) (.cells #[iZ 32,a,b,.bool false] 304)).block⟩:bE w (w.alloc (.cells #[iZ 32,a,b,.bool false] 304)).drew);generalize (w.alloc (.cells #[iZ 32,a,b,.bool false] 304)).drew=W at *
 have j:=g.cell 0;have k:=g.cell 1;have l:=g.cell 2;have m:=g.cell 3;simp only[qml,qma]at j k l m;refine Vl (v:=.agg #[(iZ (32)),a,b,.bool false]) (by simp[results,results207,go_sem,j,k,l,m]) rfl ⟨⟨32,.func 268,#[aJ S 233],#[],.func 269,#[aJ S 233],#[],false⟩,by rw[c,d],r,rfl,rfl,?_⟩;exact⟨268,269,rfl,rfl,enters_of func268 bO rfl,enters_of func269 bO rfl,Di,Dl⟩
section
def zY(a:bZ):Bool:=(List.range a.length).all (uz a)&&decide (a.length<=100)
def qa8{a:bZ}(h:zY a=true)(n:Nat)(f:0<n)(k:n<=a.length):sG (a.take n)=true:=by
 unfold zY at h;rw[qmg]at h;unfold sG;rw[qmg];have e:(a.take n).length=n:=by rw[qm8];omega
 refine⟨qod.2 fun i c=>?_,decide_eq_true aj⟩;rw[e]at c;have b:=List.mem_range.1 c;have:=qod.1 h.1 i (List.mem_range.2 aj);have g:∀j,j<n->(a.take n).getD j (0,0)=a.getD j (0,0):=fun j d=>by rw[qly,qly,qpl d]
 unfold uz at this ⊢;rw[g i b,g (i-1) aj];exact this
def Io{a:Nat}{c:bZ}(h:jA w (some (ay d a)) c)(n:Nat):jA w (some (ay d a)) (c.take n):=fun j l=>by
 rw[qm8]at l;obtain⟨b,o,e,f,i,k⟩:=h j aj;have g:(c.take n).getD j (0,0)=c.getD j (0,0):=by rw[qly,qly,qpl aj]
 exact⟨b,o,e,by rw[g];exact f,by rw[g];exact i,by rw[g];exact k⟩
def Wz{a:Nat}{c:bZ}(h:jA w (some (ay d a)) c)(n:Nat):jA w (some (ay d (a+n*2))) (c.drop n):=fun j l=>by
 rw[qms]at l;obtain⟨b,o,e,f,i,k⟩:=h (n+j) aj;simp only[qng,qnw,and_true]at e;obtain⟨rfl,rfl⟩:=e;have g:(c.drop n).getD j (0,0)=c.getD (n+j) (0,0):=by rw[qly,qly,qmu]
 rw[g];refine⟨d,a+n*2,rfl,?_,?_,k⟩;·rw[show a+n*2+j*2=a+(n+j)*2 by omega];exact f
 ·rw[show a+n*2+j*2=a+(n+j)*2 by omega];exact i
def WC{a:bZ}(d:zY a=true)(h:jA w (some (ay c b)) a)(p:c<w.heap.size)(n:Nat)(i:0<n)(r:n<=a.length):qH 210 #[.agg #[iZ 2,iZ 0,uZ 0,uZ 0,uZ 0,.bool false,uZ 0,uZ 0,.string ⟨#[]⟩,.slice (some (ay c b)) n n]] w (iZ ((aX (dS (a.take n))).length:Int)) fun y=>bE w y:=by
 have g:(a.take n).length=n:=by rw[qm8];omega
 have v:a.length<=100:=by unfold zY at d;rw[qmg]at d;exact of_decide_eq_true d.2
 have t:snd (dS (a.take n))=true:=by have:=qa8 d n i r;unfold snd qy ny dS;simp[this]
 have f:(aX (dS (a.take n))).length<=1000000:=by have k:=N_ (dS (a.take n));have l:(dS (a.take n)).data.size=0:=rfl;have m:(dS (a.take n)).ranges.length=n:=g;rw[l,m]at k;omega
 have:=rT (dS (a.take n)) (some (ay c b)) n w ⟨t,⟨by show(a.take n).length<=_;omega,by show 0<=_;omega,by show(-9223372036854775808:Int)<=2/\(2:Int)<=_;omega,by show(-9223372036854775808:Int)<=0/\(0:Int)<=_;omega,by show(0:Nat)<_/\(0:Nat)<_/\(0:Nat)<_/\(0:Nat)<_/\(0:Nat)<_;omega,fun j q=>by obtain⟨_,_,_,_,_,o⟩:=Io h n j q;exact o⟩,Io h n,by show(a.take n).length<=n;omega,(fun x u=>by cases u;exact p),f⟩;have e:eF (dS (a.take n)) (.slice (some (ay c b)) (dS (a.take n)).ranges.length n)=.agg #[iZ 2,iZ 0,uZ 0,uZ 0,uZ 0,.bool false,uZ 0,uZ 0,.string ⟨#[]⟩,.slice (some (ay c b)) n n]:=by show Value.agg _=Value.agg _;rw[show(dS (a.take n)).ranges.length=n from g];rfl
 rw[e]at this;exact this
section
variable {oZ:Own} {s:Nat} {w0:Wq} {S bw bl bi ab:Nat}
def Oa(a:bZ)(b:Int)(n:Nat):fP a b (n+1)=if((aX (dS (a.take (n+1)))).length:Int)<=b then n+1 else fP a b n:=rfl
def SL:tK oZ s w0 S bw bl bi ab 247 #[aJ ab 0] #[] (fun _ d=>decide (0<d.length)&&zY d) fun M d i=>if fP d i d.length=0 then none else some (dS (d.take (fP d i d.length)),M,d.drop (fP d i d.length)):=by
 intro q w M d i K hE hW he xe;rw[qmg]at he;obtain⟨h9,F⟩:=he;have h0:=of_decide_eq_true h9;have hw:=hE;obtain⟨l,vc,hS,hA⟩:=hw;obtain⟨hf,v,hv,hr⟩:=hA;rcases hr with⟨_,h2⟩|⟨rb,off,c,rfl,hlc,hc,hrb,orb,qeo⟩;·rw[h2]at h0;exact absurd h0 aM
 have h8:=hS.s0;obtain⟨W,D⟩:=bT (w.alloc (.cells lY.toArray 65));have o:bE w W:=by rw[D];exact(qlw _ w).alloc (qj _) _
 have h6:aL W w.heap.size 65 lY:=by rw[D];exact aL.new w 65 _
 have P:w.heap.size<W.heap.size:=by rw[D];simp
 have xi:=hv.lt;obtain⟨L,hL⟩:=bT d.length;have p:Hid (∀n B,0<n->n<=L->bE w B->qH 210 #[.agg #[iZ 2,iZ 0,uZ 0,uZ 0,uZ 0,.bool false,uZ 0,uZ 0,.string ⟨#[]⟩,.slice (some (ay rb off)) n n]] B (iZ ((aX (dS (d.take n))).length:Int)) fun w'=>bE B w'):=fun n B a b u=>WC F (qeo.below u) (qm9 hrb u.size) n a aj;have f:Hid (∀B,bE W B->B.cell? (ay ab 0)=some (.slice (some (ay rb off)) L c)/\B.frozen? (ay ab 0)=false/\aL B w.heap.size 65 lY/\bE w B):=fun B u=>by have b1:=eY u (eY o hv);exact⟨by rw[hL];exact b1.cell 0,b1.frozen 0,eY u h6,o.trans (u.mono o.size)⟩
 show WB prog 247 #[aJ ab 0,iZ i] w fun e w'=>jE q s w S bw bl bi ab M d (if fP d i d.length=0 then none else some (dS (d.take (fP d i d.length)),M,d.drop (fP d i d.length))) e w';rw[<-hL];have N:Hid (∀wr t,bE W wr->l6 w.heap.size wr t->fP d i L=0->jE q s w S bw bl bi ab M d (if fP d i L=0 then none else some (dS (d.take (fP d i L)),M,d.drop (fP d i L))) (.returned (.tuple #[eF iL nZ,.bool false])) t):=fun wr t u ht hu=>by rw[bM hu];have Q:Env (loc q w.heap.size) s wr S bw bl bi ab M d:=((hE.kp (uO q w) aM aM aM).below o).below u;exact jE.wrap (x:=iP) (gy:=loc q w.heap.size) h8 o P rfl (Kp.below u) Q (fun z T=>by cases T) ht
 have H:Hid (∀n wr t v',0<n->n<=L->fP d i L=n->bE W wr->(v'=.slice (some (ay rb (off+n*2))) (L-n) (c-n)\/c=n/\v'=.slice (some (ay rb off)) (L-n) 0)->l6 w.heap.size (wr.setCell (ay ab 0) v') t->jE q s w S bw bl bi ab M d (if fP d i L=0 then none else some (dS (d.take (fP d i L)),M,d.drop (fP d i L))) (.returned (.tuple #[(.agg #[iZ 2,iZ 0,uZ 0,uZ 0,uZ 0,.bool false,uZ 0,uZ 0,.string ⟨#[]⟩,.slice (some (ay rb off)) n n]),.bool true])) t):=fun n wr t v' h1 h2 h3 u G ht=>by
  rw[aV aj,h3];have R:bE w wr:=o.trans (u.mono o.size);have hk:(loc q w.heap.size) ab=s+48:=by rw[jo _ _ _ xi];exact hf
  have WE:(loc q w.heap.size) rb=s+49:=by rw[jo _ _ _ hrb];exact orb
  have Ks:Kp [s+48] (loc q w.heap.size) (loc q w.heap.size) wr (wr.setCell (ay ab 0) v'):=Kp.set _ wr _ _ [s+48] (by show(loc q w.heap.size) ab∈_;rw[hk];simp);have hy:fH (loc q w.heap.size) s wr S l M bw bl bi vc:=(hS.loc o).below u;have hm:rb<wr.heap.size:=qm9 hrb R.size;have hg:=qeo.below R;have Q:Env (loc q w.heap.size) s (wr.setCell (ay ab 0) v') S bw bl bi ab M (d.drop n):=by
   refine⟨l,vc,hy.kp Ks (fun x h1 h2 e=>by simp at e;omega),hk,_,(eY R hv).setCell 0 _,?_⟩;rcases G with G|⟨xn,G⟩;·exact .inr ⟨rb,off+n*2,c-n,by rw[G,qms,hL],by rw[qms];omega,aj,rR,WE,NV (Wz hg n) Ks hm (by rw[WE];simp)⟩
   ·have h7:d.drop n=[]:=qnj aj;rw[h7];exact .inr ⟨rb,off,0,by rw[G,show L-n=0 by omega];rfl,qj _,aj,rR,WE,fun j hj=>absurd hj (qmy _)⟩
  have hl:(d.take n).length=n:=by rw[qm8];omega
  refine jE.wrap (r:=some (dS (d.take n),M,d.drop n)) (x:=(dS (d.take n),some (ay rb off),n,n)) (gy:=loc q w.heap.size) h8 o P rfl ((Kp.below u).trans (Ks.mono fun x hx=>uN.2 (.inr (.inl (by simpa using hx))))) Q (fun z T=>?_) ht;cases T;refine⟨rfl,hl.symm,by show(d.take n).length<=n;omega,NV (Io hg n) Ks hm (by rw[WE];simp),fun a ha=>?_,fun xd=>absurd rfl xd⟩;cases ha;exact⟨rR,WE,rfl⟩
 generalize hX:(if fP d i L=0 then none else some (dS (d.take (fP d i L)),M,d.drop (fP d i L)))=X at *
 clear hX;have xo:L<=c:=aj;have xp:L<=1000000000:=by unfold zY at F;rw[qmg]at F;have:=of_decide_eq_true F.2;omega
 have xm:0<L:=aj;clear hE hS hW hv qeo hf orb F h9 h0 K h6 hlc hrb P;clear hL;unfold lY at D;subst D;go_enter func247,ntmps247;obtain⟨z0,z1,z2,z3⟩:=f.out _ (qlw _ _);go_wp2;go_loopw [6] (fun s6 wr=>∃n:Nat,n<=L/\s6=(iZ n)/\Hid (fP d i n=fP d i L/\Below (w.alloc (.cells #[iZ 0,iZ 0,uZ 0,uZ 0,uZ 0,.bool false,uZ 0,uZ 0,.string ⟨#[]⟩,nZ] 65)).heap.size (w.alloc (.cells #[iZ 0,iZ 0,uZ 0,uZ 0,uZ 0,.bool false,uZ 0,uZ 0,.string ⟨#[]⟩,nZ] 65)) wr)) (fun s6 _=>(RowKit.intOf s6).toNat);case atStart=>exact⟨L,qj _,rfl,(⟨rfl,qlw _ _⟩:_/\_)⟩
 case round=>
  obtain⟨n,hn,rfl,I⟩:=hrel;have J:=f.out wr I.out.2;cases n with
  |zero=>
   obtain⟨y0,y1,y2,y3,y4,y5,y6,y7,y8,y9,yf⟩:=bC J.2.2.1;have ug:=aF J.2.2.1;clear z0 z1 z2 z3 J;go_wp2;rw[gq];have U:=fK ug.out (iZ 0) (iZ 0) (uZ 0) (uZ 0) (uZ 0) (.bool false) (uZ 0) (uZ 0) (.string ⟨#[]⟩) nZ;have V:=fM wr w.heap.size (iZ 0) (iZ 0) (uZ 0) (uZ 0) (uZ 0) (.bool false) (uZ 0) (uZ 0) (.string ⟨#[]⟩) nZ;generalize jI wr w.heap.size (iZ 0) (iZ 0) (uZ 0) (uZ 0) (uZ 0) (.bool false) (uZ 0) (uZ 0) (.string ⟨#[]⟩) nZ=t at *
   obtain⟨a0,a1,a2,a3,a4,a5,a6,a7,a8,a9,_⟩:=bC U;exact Vl (v:=.tuple #[eF iL nZ,.bool false]) (by simp[results,results247,go_sem,a0,a1,a2,a3,a4,a5,a6,a7,a8,a9,eF,iL]) rfl (N.out wr t I.out.2 V I.out.1.symm)
  |succ m=>
   obtain⟨q0,q1,q2,q3⟩:=J;obtain⟨W3,E⟩:=bT (wr.alloc (.cells #[iZ 2,iZ 0,uZ 0,uZ 0,uZ 0,.bool false,uZ 0,uZ 0,.string ⟨#[]⟩,.slice (some (ay rb off)) (m+1) (m+1)] 65));have h5:bE wr W3:=by rw[E];exact(qlw _ wr).alloc (qj _) _
   have h4:=I.out.2.trans (h5.mono I.out.2.size);have RQ:aL W3 wr.heap.size 65 [iZ 2,iZ 0,uZ 0,uZ 0,uZ 0,.bool false,uZ 0,uZ 0,.string ⟨#[]⟩,.slice (some (ay rb off)) (m+1) (m+1)]:=by rw[E];exact aL.new wr 65 _
   have P:=p.out (m+1) W3 aj hn (f.out W3 h4).2.2.2;have g:=aF (dw h4 RQ);have k1:((m:Int)+1)<=(c:Int):=aj;have k2:m+1<=c:=aj;have k3:(0:Int)<(m:Int)+1:=aj;have k4:((m:Int)+1)<=(L:Int):=aj;have k5:m+1<=L:=hn;have k6:(L:Int)<=(c:Int):=aj;have y:=Oa d i m;generalize (aX (dS (d.take (m+1)))).length=Z at *
   clear z0 z1 z2 z3 h5 h4 RQ q2 q3;by_cases T:(Z:Int)<=i
   ·rw[bM T]at y;have O:=aF y;clear y;have xj:¬(wr.heap.size=ab):=fun e=>by have h1:=I.out.2.size;simp at h1;omega
    have xt:¬(ab=wr.heap.size):=fun e=>xj e.symm;have ho:w.heap.size≠ab:=aj;have xv:¬(w.heap.size=ab):=aj;have xy:¬(ab=w.heap.size):=aj;have xl:¬(wr.heap.size=w.heap.size):=fun e=>by have h1:=I.out.2.size;simp at h1;omega
    have xx:¬(w.heap.size=wr.heap.size):=fun e=>xl e.symm;have f1:fP d i L=m+1:=by rw[<-I.out.1];exact O.out
    by_cases xa:c=m+1
    ·subst xa;go_wp2_with (first|(go_at_call 210;rw[<-E];refine bH P ?_;rintro A k;obtain⟨p0,p1,Y,p3⟩:=f.out A (g.out.1.trans (k.mono g.out.1.size));obtain⟨y0,y1,y2,y3,y4,y5,y6,y7,y8,y9,yf⟩:=bC Y;have ug:=aF Y;obtain⟨x0,x1,x2,x3,x4,x5,x6,x7,x8,x9,xf⟩:=bC (eY k g.out.2);clear Y)|go_in);rw[gq];have C:aL (A.setCell (ay ab 0) (.slice (some (ay rb off)) 0 0)) w.heap.size 65 lY:=ug.out.of_heap (qmd _ _ _ _ ho);have U:=fK C (iZ 2) (iZ 0) (uZ 0) (uZ 0) (uZ 0) (.bool false) (uZ 0) (uZ 0) (.string ⟨#[]⟩) (.slice (some (ay rb off)) (m+1) (m+1));have V:=fM (A.setCell (ay ab 0) (.slice (some (ay rb off)) 0 0)) w.heap.size (iZ 2) (iZ 0) (uZ 0) (uZ 0) (uZ 0) (.bool false) (uZ 0) (uZ 0) (.string ⟨#[]⟩) (.slice (some (ay rb off)) (m+1) (m+1));generalize jI (A.setCell (ay ab 0) (.slice (some (ay rb off)) 0 0)) w.heap.size (iZ 2) (iZ 0) (uZ 0) (uZ 0) (uZ 0) (.bool false) (uZ 0) (uZ 0) (.string ⟨#[]⟩) (.slice (some (ay rb off)) (m+1) (m+1))=t at *
     obtain⟨a0,a1,a2,a3,a4,a5,a6,a7,a8,a9,_⟩:=bC U;have f3:=H.out (m+1) A t (.slice (some (ay rb off)) 0 0) (mE _) hn f1 (g.out.1.trans (k.mono g.out.1.size)) (.inr ⟨rfl,by rw[show L-(m+1)=0 by omega]⟩) V;clear U V C H N f p
     (try simp only[Exit.inBlock,Exit.then])
     exact Vl (v:=.tuple #[(.agg #[iZ 2,iZ 0,uZ 0,uZ 0,uZ 0,.bool false,uZ 0,uZ 0,.string ⟨#[]⟩,.slice (some (ay rb off)) (m+1) (m+1)]),.bool true]) (by simp[results,results247,go_sem,a0,a1,a2,a3,a4,a5,a6,a7,a8,a9]) rfl f3
    ·skip
     go_wp2_with (first|(go_at_call 210;rw[<-E];refine bH P ?_;rintro A k;obtain⟨p0,p1,Y,p3⟩:=f.out A (g.out.1.trans (k.mono g.out.1.size));obtain⟨y0,y1,y2,y3,y4,y5,y6,y7,y8,y9,yf⟩:=bC Y;have ug:=aF Y;obtain⟨x0,x1,x2,x3,x4,x5,x6,x7,x8,x9,xf⟩:=bC (eY k g.out.2);clear Y)|go_in);rw[gq];have C:aL (A.setCell (ay ab 0) (.slice (some (ay rb (off+(m+1)*2))) (L-(m+1)) (c-(m+1)))) w.heap.size 65 lY:=ug.out.of_heap (qmd _ _ _ _ ho);have U:=fK C (iZ 2) (iZ 0) (uZ 0) (uZ 0) (uZ 0) (.bool false) (uZ 0) (uZ 0) (.string ⟨#[]⟩) (.slice (some (ay rb off)) (m+1) (m+1));have V:=fM (A.setCell (ay ab 0) (.slice (some (ay rb (off+(m+1)*2))) (L-(m+1)) (c-(m+1)))) w.heap.size (iZ 2) (iZ 0) (uZ 0) (uZ 0) (uZ 0) (.bool false) (uZ 0) (uZ 0) (.string ⟨#[]⟩) (.slice (some (ay rb off)) (m+1) (m+1));generalize jI (A.setCell (ay ab 0) (.slice (some (ay rb (off+(m+1)*2))) (L-(m+1)) (c-(m+1)))) w.heap.size (iZ 2) (iZ 0) (uZ 0) (uZ 0) (uZ 0) (.bool false) (uZ 0) (uZ 0) (.string ⟨#[]⟩) (.slice (some (ay rb off)) (m+1) (m+1))=t at *
     obtain⟨a0,a1,a2,a3,a4,a5,a6,a7,a8,a9,_⟩:=bC U;have f3:=H.out (m+1) A t (.slice (some (ay rb (off+(m+1)*2))) (L-(m+1)) (c-(m+1))) (mE _) hn f1 (g.out.1.trans (k.mono g.out.1.size)) (.inl rfl) V;clear U V C H N f p
     (try simp only[Exit.inBlock,Exit.then])
     exact Vl (v:=.tuple #[(.agg #[iZ 2,iZ 0,uZ 0,uZ 0,uZ 0,.bool false,uZ 0,uZ 0,.string ⟨#[]⟩,.slice (some (ay rb off)) (m+1) (m+1)]),.bool true]) (by simp[results,results247,go_sem,a0,a1,a2,a3,a4,a5,a6,a7,a8,a9]) rfl f3
   ·rw[aV T]at y;have O:=aF y;clear y;have xr:¬((Z:Int)<=i):=T;go_wp2_with (first|(go_at_call 210;rw[<-E];refine bH P ?_;rintro A k)|go_in);go_roundw;case rel=>exact⟨m,aj,aM,(⟨by rw[<-I.out.1];exact O.out.symm,g.out.1.trans (k.mono g.out.1.size)⟩:_/\_)⟩
    case measure=>simp[RowKit.intOf]
end

end
def Lp(P:Nat->Prop)(l:List Nat):Prop:=∀x∈l,P x
def Lp.getD{P:Nat->Prop}(a:P 0){l:List Nat}(h:Lp P l)(j:Nat):P (l.getD j 0):=by
 rw[qly];cases b:l[j]? with
 |none=>exact a
 |some v=>exact h v (qqb b)
def Lp.set{P:Nat->Prop}{l:List Nat}(h:Lp P l)(i v:Nat)(b:P v):Lp P (l.set i v):=fun x a=>by
 rcases qq6 a with a|a;·exact h x a
 ·rw[a];exact b
def Lp.sw(a:P 0)(h:Lp P l)(i j:Nat):Lp P (sw l i j):=(h.set i _ (h.getD a j)).set j _ (h.getD a i)
def Lp.down{P:Nat->Prop}(a:P 0):∀(k:Nat) {l:List Nat} (i n:Nat),Lp P l->Lp P (kX k l i n)
 |0,_,_,_,h=>h
 |k+1,l,i,n,h=>by
  unfold kX;generalize (if 2*i+2<n/\l.getD (2*i+2) 0<l.getD (2*i+1) 0 then 2*i+2 else 2*i+1)=j;split;·exact h
  ·simp only;split;·exact Lp.down a k _ _ (h.sw a _ _)
   ·exact h
def Lp.up{P:Nat->Prop}(a:P 0):∀(k:Nat) {l:List Nat} (i:Nat),Lp P l->Lp P (Cg k l i)
 |0,_,_,h=>h
 |k+1,l,i,h=>by
  unfold Cg;split;·exact h
  ·exact Lp.up a k _ (h.sw a _ _)
def Lp.pop(a:P 0)(h:Lp P l):Lp P (mo l):=fun x b=>Lp.down a _ _ _ (h.sw a _ _) x (qn2 b)
def Lp.app{m:List Nat}(h:Lp P l)(g:Lp P m):Lp P (l++m):=fun x a=>(qm7.1 a).elim (h x) (g x)
def Lp.one(h:P u):Lp P [u]:=fun x a=>by rw[qmi.1 a];exact h
def Lp.push(a:P 0)(h:Lp P l)(u:Nat)(b:P u):Lp P (eX l u):=Lp.up a _ _ (h.app (Lp.one b))
def mW(l:List Nat)(u:Nat):(eX l u).length=l.length+1:=by unfold eX;rw[P9];simp
def Dq(l:List Nat):(mo l).length=l.length-1:=by unfold mo;rw[qm8,zT,oq];omega
def r_(oZ:Own)(s:Nat)(w:Wq)(S bw bl bi b:Nat)(D:Nat->Src)(u:Nat):Prop:=
 (D u).y=jN u/\kM oZ s w S bw bl bi b (D u) (fun M a=>M.bD a u) (fun M a=>M.bD a u&&zY a) (fun M a c=>M.frame a u c)
def r_.kp{oZ b:Own}{s:Nat}{w c:Wq}{S bw bl bi a:Nat}{D:Nat->Src}{u:Nat}(h:r_ oZ s w S bw bl bi a D u)(K:Kp (Tb s) oZ b w c):r_ b s c S bw bl bi a D u:=⟨h.1,h.2.kp K⟩
structure QsM (oZ:Own) (s:Nat) (w:Wq) (S bw bl bi ab:Nat) (D:Nat->Src) (p:Nat) (v:WA) (Q:List Nat):Prop where
 hd:∀u:Nat,(D u).u=(u:Int)
 hq:Bq oZ (s+45) D w p v Q
 hs:Lp (r_ oZ s w S bw bl bi ab D) Q
def QsM.kp{oZ b:Own}{s:Nat}{w c:Wq}{S bw bl bi a:Nat}{D:Nat->Src}{p:Nat}{v:WA}{Q:List Nat}{T:List Nat}(h:QsM oZ s w S bw bl bi a D p v Q)(K:Kp T oZ b w c)(f:∀x∈T,x∈Tb s)(d:s+45∉T)(e:s+46∉T):QsM b s c S bw bl bi a D p v Q:=
 ⟨h.hd,⟨by rw[K.ext p h.hq.pb.lt,h.hq.op],bU h.hq.pb K (by rw[h.hq.op];exact e),h.hq.sr.kp K d⟩,fun u g=>(h.hs u g).kp (K.mono f)⟩
def Dr(D a:Nat->Src):∀(Q:List Nat),(∀u∈Q,D u=a u)->qC D Q=qC a Q
 |[],_=>rfl
 |x::t,h=>by show jP (D x)++qC D t=jP (a x)++qC a t;rw[h x aM,Dr D a t fun u b=>h u (by simp[b])]
def qeq{f:Nat}(w:Wq)(h:QsM oZ s w S bw bl bi f D p v Q)(x:Src)(u:Nat)(F:x.u=(u:Int))(H:x.y=jN u)(A:u∉Q)(E:Q.length<1000)(G:kM oZ s w S bw bl bi f x (fun M c=>M.bD c u) (fun M c=>M.bD c u&&zY c) (fun M c C=>M.frame c u C))(g:u=0\/0∈Q):qH 199 #[aJ p 0,nM x] w (.tuple #[]) fun m=>∃d a r,QsM d s m S bw bl bi f a p r (eX Q u)/\Kp [s+45,s+46] oZ d w m:=by
 obtain⟨a,i⟩:=bT (fun j=>if j=u then x else D j:Nat->Src);have n:a u=x:=by rw[i];exact bM rfl
 have en:∀j,j≠u->a j=D j:=fun j b=>by rw[i];exact aV b
 have l:∀j:Nat,(a j).u=(j:Int):=fun j=>by
  by_cases b:j=u;·rw[b,n];exact F
  ·rw[en j b];exact h.hd j
 have o:Bq oZ (s+45) a w p v Q:=⟨h.hq.op,h.hq.pb,by rw[Dr a D Q fun j b=>en j (fun e=>A (e▸b))];exact h.hq.sr⟩;have y:∀j∈Q,r_ oZ s w S bw bl bi f a j:=fun j b=>by have:=h.hs j b;unfold r_ at this ⊢;rw[en j (fun e=>A (e▸b))];exact this
 have k:r_ oZ s w S bw bl bi f a u:=by unfold r_;rw[n];exact⟨H,G⟩
 have:=BL oZ (s+45) a l w p v Q u E o;rw[n]at this;refine bH this ?_;rintro m ⟨d,r,q,K⟩;have t:Kp [s+45,s+46] oZ d w m:=K;have B:Kp (Tb s) oZ d w m:=t.mono fun z I=>jD.2 (by simp at I;omega);refine⟨rfl,d,a,r,⟨l,q,fun j b=>r_.kp ?_ B⟩,t⟩;exact Lp.push (P:=r_ oZ s w S bw bl bi f a) (by
  rcases g with g|g;·rw[<-g];exact k
  ·exact y 0 g) y u k j b
def PU(oZ:Own)(s:Nat)(w:Wq)(S bw bl bi a:Nat)(D:Nat->Src)(u:Nat):Prop:=r_ oZ s w S bw bl bi a D u/\u<48
def PU.kp{oZ b:Own}{s:Nat}{w c:Wq}{S bw bl bi a:Nat}{D:Nat->Src}{u:Nat}(h:PU oZ s w S bw bl bi a D u)(K:Kp (Tb s) oZ b w c):PU b s c S bw bl bi a D u:=⟨h.1.kp K,h.2⟩
def Tg(s:Nat):List Nat:=List.range' s 47++[s+48,s+50,s+51,s+53,s+54,s+55]
def qm:x∈Tg s↔(s<=x/\x<s+47)\/x=s+48\/x=s+50\/x=s+51\/s+53<=x/\x<=s+55:=by
 unfold Tg;rw[qm7,qot];simp only[qme,qoc,or_false];refine or_congr ⟨?_,?_⟩ aj;·rintro⟨i,h,rfl⟩;omega
 ·rintro⟨a,b⟩;exact⟨x-s,aj,aj⟩
def qdb(s:Nat):∀x∈Tg s,x∈Tb s:=fun x a=>jD.2 (bR (qm.1 a))
structure rA (eZ:Own) (s:Nat) (w0:Wq) (S bw bl bi ab:Nat) (D:Nat->Src) (p:Nat) (oZ:Own) (w:Wq) (M:av) (aI:bZ) (Q later:List Nat) (L:List FV) (v vl vt:WA):Prop where
 hq:Bq oZ (s+45) D w p v Q
 qs:Lp (PU oZ s w S bw bl bi ab D) Q
 ls:Lp (PU oZ s w S bw bl bi ab D) later
 z:PU oZ s w S bw bl bi ab D 0
 env:Env oZ s w S bw bl bi ab M aI
 fr:GT oZ (s+50) 65 10 w vl L.length (rz L)
 fv:∀x∈L,R_ oZ s w x
 la:GT oZ (s+51) 304 4 w vt later.length (qC D later)
 kp:Kp (Tg s) eZ oZ w0 w
 nl:L=[]->vl=nZ
def R_.kp{x:FV}(h:R_ oZ s w x)(K:Kp T oZ aQ w w')(l:s+49∉T):R_ aQ s w' x:=by
 refine⟨h.len,h.cap,fun j n=>?_,fun a m=>?_,h.nil⟩;·obtain⟨b,o,f,g,i,k⟩:=h.qO j n;obtain⟨c,d,_⟩:=h.bY _ f;have e:=K.bY b c (by rw[d];exact l);exact⟨b,o,f,cell_of g e,cell_of i e,k⟩
 ·obtain⟨c,d,p⟩:=h.bY a m;exact⟨qm9 c K.size,by rw[K.ext _ c,d],p⟩
def Bq.kp{oZ aQ:Own}{t:Nat}{D:Nat->Src}{w w':Wq}{p:Nat}{v:WA}{Q:List Nat}{T:List Nat}(h:Bq oZ t D w p v Q)(K:Kp T oZ aQ w w')(a:t∉T)(b:t+1∉T):Bq aQ t D w' p v Q:=
 ⟨by rw[K.ext p h.pb.lt,h.op],bU h.pb K (by rw[h.op];exact b),h.sr.kp K a⟩
def rA.new{c:bZ}{e:WA}(h:rA eZ s w0 S bw bl bi d D p oZ w M c Q a L v e f)(K:Kp [] oZ aQ w w'):rA eZ s w0 S bw bl bi d D p aQ w' M c Q a L v e f:=
 ⟨h.hq.kp K aM aM,fun u b=>(h.qs u b).kp (K.mono aM),fun u b=>(h.ls u b).kp (K.mono aM),h.z.kp (K.mono aM),h.env.kp K aM aM aM,h.fr.kp K aM,fun x g=>(h.fv x g).kp K aM,h.la.kp K aM,h.kp.trans (K.mono aM),h.nl⟩
def rA.pop{eZ:Own}{s:Nat}{w0:Wq}{S bw bl bi f:Nat}{D:Nat->Src}{p:Nat}{oZ:Own}{w w':Wq}{M:av}{e:bZ}{Q a:List Nat}{L:List FV}{v v' g i:WA}(h:rA eZ s w0 S bw bl bi f D p oZ w M e Q a L v g i)(k:Bq oZ (s+45) D w' p v' (mo Q))(K:Kp [s+45,s+45+1] oZ oZ w w'):rA eZ s w0 S bw bl bi f D p oZ w' M e (mo Q) a L v' g i:=by have c:Kp (Tb s) oZ oZ w w':=K.mono fun x b=>jD.2 (by simp at b;omega);have j:Kp (Tg s) oZ oZ w w':=K.mono fun x b=>qm.2 (by simp at b;omega);exact⟨k,fun u d=>(Lp.pop h.z h.qs u d).kp c,fun u d=>(h.ls u d).kp c,h.z.kp c,h.env.kp K rR aM aM,h.fr.kp K aM,fun x b=>(h.fv x b).kp K aM,h.la.kp K aM,h.kp.trans j,h.nl⟩
def rA.nxt{M':av}{k dV:bZ}{g i:WA}(h:rA eZ s w0 S bw bl bi d D p oZ w M k Q a L v g i)(K:Kp (Tn s) oZ aQ w w')(l:Env aQ s w' S bw bl bi d M' dV):rA eZ s w0 S bw bl bi d D p aQ w' M' dV Q a L v g i:=by have c:Kp (Tb s) oZ aQ w w':=K.mono (qgp s);have j:Kp (Tg s) oZ aQ w w':=K.mono fun x b=>qm.2 (bR (uN.1 b));have e:∀x,x∈Tn s->(s<=x/\x<s+45)\/x=s+48\/s+53<=x/\x<=s+55:=fun x b=>uN.1 b;exact⟨h.hq.kp K (fun x=>bR (e _ x)) (fun x=>bR (e _ x)),fun u f=>(h.qs u f).kp c,fun u f=>(h.ls u f).kp c,h.z.kp c,l,h.fr.kp K (fun x=>bR (e _ x)),fun x b=>(h.fv x b).kp K (fun x=>bR (e _ x)),h.la.kp K (fun x=>bR (e _ x)),h.kp.trans j,h.nl⟩
def rA.app{j:Nat}{n d:WA}(h:rA eZ s w0 S bw bl bi j D p oZ w M i Q a L v n k)(x:FV)(b:R_ oZ s w x)(K:Kp [s+50] oZ aQ w w')(m:GT aQ (s+50) 65 10 w' d (L.length+1) (rz L++fJ x.1 (qx x))):rA eZ s w0 S bw bl bi j D p aQ w' M i Q a (L++[x]) v d k:=by
 have f:Kp (Tb s) oZ aQ w w':=K.mono fun x b=>jD.2 (by simp at b;omega);have l:Kp (Tg s) oZ aQ w w':=K.mono fun x b=>qm.2 (by simp at b;omega);refine⟨h.hq.kp K aM aM,fun u g=>(h.qs u g).kp f,fun u g=>(h.ls u g).kp f,h.z.kp f,h.env.kp K rR aM aM,?_,fun y c=>?_,h.la.kp K aM,h.kp.trans l,fun e=>absurd e aM⟩;·rw[yO,qm0];simpa[rz]using m
 ·rcases qm7.1 c with c|c;·exact(h.fv y c).kp K aM
  ·rw[qmi.1 c];exact b.kp K aM
def rA.lat{c:WA}(h:rA eZ s w0 S bw bl bi e D p oZ w M i Q a L v k o)(u:Nat)(f:PU oZ s w S bw bl bi e D u)(K:Kp [s+51] oZ aQ w w')(m:GT aQ (s+51) 304 4 w' c (a.length+1) (qC D a++jP (D u))):rA eZ s w0 S bw bl bi e D p aQ w' M i Q (a++[u]) L v k c:=by
 have d:Kp (Tb s) oZ aQ w w':=K.mono fun x g=>jD.2 (by simp at g;omega);have l:Kp (Tg s) oZ aQ w w':=K.mono fun x g=>qm.2 (by simp at g;omega);refine⟨h.hq.kp K aM aM,fun u f=>(h.qs u f).kp d,fun j b=>?_,h.z.kp d,h.env.kp K rR aM aM,h.fr.kp K aM,fun y n=>(h.fv y n).kp K aM,?_,h.kp.trans l,h.nl⟩
 ·rcases qm7.1 b with b|b;·exact(h.ls j b).kp d
  ·rw[qmi.1 b];exact f.kp d
 ·rw[zV,qm0];exact m
def PU.fn{oZ:Own}{s:Nat}{w:Wq}{S bw bl bi d:Nat}{D:Nat->Src}{u:Nat}(h:PU oZ s w S bw bl bi d D u):∃b c,(D u).f1=.func b/\(D u).f2=.func c/\(∀args w,(callFunc b args).run prog w=.ok (.enter b args) w)/\(∀args w,(callFunc c args).run prog w=.ok (.enter c args) w)/\qJ oZ s w S bw bl bi d b (D u).p1 (D u).k1 (fun M a=>M.bD a u)/\tK oZ s w S bw bl bi d c (D u).p2 (D u).k2 (fun M a=>M.bD a u&&zY a) (fun M a e=>M.frame a u e):=h.1.2.fn
def rA.head{i:Nat}{f:bZ}{q:WA}(h:rA eZ s w0 S bw bl bi i D p oZ w M f (u::Q) a L v o q):∃g c,v=(dh g (Q.length+1) c)/\yH oZ (s+45) D w p g c (u::Q)/\w.cell? (ay p 0)=some (dh g (Q.length+1) c)/\w.cell? (ay g 0)=some (iZ (D u).u)/\w.cell? (ay g 1)=some (.func (D u).f1 (D u).p1 (D u).k1)/\w.cell? (ay g 2)=some (.func (D u).f2 (D u).p2 (D u).k2)/\w.cell? (ay g 3)=some (.bool (D u).y):=by
 obtain⟨g,c,rfl,d⟩:=h.hq.hp aM;obtain⟨q0,l,m,n⟩:=pV D (u::Q) 0 u rfl;have b:∀k x,(qC D (u::Q))[k]?=some x->w.cell? (ay g k)=some x:=fun k x j=>by obtain⟨t,e,_,_,r,_⟩:=d.sr.2.cell k x j;cases e;exact r
 exact⟨g,c,rfl,d,d.pb.cell 0,b _ _ (by simpa using q0),b _ _ (by simpa using l),b _ _ (by simpa using m),b _ _ (by simpa using n)⟩
