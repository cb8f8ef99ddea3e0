import Derived.Test.YtphbledmopchnaaGreatDoorVde
open ByteArray renaming data_append->eT,ext->mE
open Go.RowKit renaming intOf->eB
set_option maxHeartbeats 4000000
set_option maxRecDepth 100000
open Go renaming World->Wq,Value->WA,wpAnyH_done->Vm
set_option linter.all false
namespace Go.Proofs.YtphbledmopchnaaGreatDoor.Sd
open Go.RowKit Go.Lib Mm Tryz
variable {A A' M:av}{B K bi bw i k s:Nat}{E:Nat->Nat->bJ}{L:List Gm}{P:Program}{Q:Exit->Act->Wq->Prop}{S:Wq->Prop}{a b:List (Nat×List Fr)}{d:List Fr}{e:Option Addr}{listed:Array Bool}{md:Region.Mode}{oZ:Own}{w w':Wq}
def lZ{b:Array Oper}{d:Nat}{a:Act}(i:Nat){oi:Oper}{v:WA}(j:b[i]?=some oi)(h:wpAnyH P md b Q S d (listed.setIfInBounds i true) (a.put oi.dst v) w)(m:YieldsIf P b S oi v a:=by exact Or.inl ⟨by rfl,by(intro w h;(try dsimp only at h);go_simp;try with_reducible rfl)⟩)(l:Region.noSelect b=true:=by kernel_rfl)(g:Region.free md b listed i=true:=by kernel_rfl)(k:(Region.ready md b listed).contains i=true:=by kernel_rfl)(e:∀c a w,Q (.panic c) (a.put oi.dst v) w->Q (.panic c) a w:=by exact fun _ _ _ h=>h)(f:S w:=by assumption):wpAnyH P md b Q S (d+1) listed a w:=wpAnyH_take j l g k e m f h
def Gb{b:Array Oper}{c:Nat}{a:Act}(i:Nat){o:Oper}(e:b[i]?=some o)(h:∀d:Act->Wq->Prop,Shut (∀a w,S w->(S w->wpAnyH P md b Q S c (listed.setIfInBounds i true) a w)->d a w)->if Region.wanted o (yielded b a.tmps)=true then Oper.wp P o a w d Q else d (a.put o.dst undef) w)(f:Region.ready md b listed=[i]:=by kernel_rfl):wpAnyH P md b Q S (c+1) listed a w:=wpAnyH_ready f (by simp) (.cons e h .nil)
def AR(oZ:Own)(s:Nat)(C S:Nat)(bw bl bi:Nat)(data:ByteArray)(R:data.size<=1000000000)(w:Wq)(z:w.cell? (ay C 0)=some (aJ S 0))(G:g_ w)(F:oZ 0∉T0 s)(en:Nat)(A:OC en)(r:av->Prop)(H:∀f W,data.size<=f->f<=9223372036854775807->bE w W->dG W (some (ay w.heap.size 0)) data.data.toList->Ji W w.heap.size data.size->qH 104 #[aJ S 0,dh w.heap.size data.size f] W (lH en) fun b=>∃a,r a/\SS oZ s w S bw bl bi data.size a b):qH 29 #[aJ C 0,.string data] w (.tuple #[iZ en,(iZ (-1))]) fun T=>∃a,r a/\iE s oZ w S bw bl bi a T:=by
 obtain⟨f,W,Q,l,m,c,k,q⟩:=nO w data R;have y:C<w.heap.size:=qmf w (ay C 0) (by rw[z]);have E:Hid (Calls prog 56 #[aJ C 0,dh w.heap.size data.size f] W fun e b=>∃x,e=.returned x/\x=lH en/\∃a,r a/\SS oZ s w S bw bl bi data.size a b):=
  OB C S W (cell_of z (c.block _ y)) _ (fun x b=>x=lH en/\∃a,r a/\SS oZ s w S bw bl bi data.size a b) ((H f W l m c k q).mono fun e b I=>⟨_,I.1,rfl,I.2⟩)
 have L:Hid (∀a b,SS oZ s w S bw bl bi data.size a b->qH 42 #[lH en] b (.tuple #[iZ en,(iZ (-1))]) fun K=>SS oZ s w S bw bl bi data.size a K):=fun a b p=>by refine bH (KZ _ A b (p.err G F)) ?_;rintro K P;exact⟨rfl,p.below P⟩
 clear z G F c k q H;generalize data.size=n at *
 go_enter func29,ntmps29;go_wp2_with (go_at_call 56;refine E.out.mono ?_;rintro e b ⟨x,rfl,rfl,a,i,p⟩;have t:=aF i;have g:=aF p;clear i p);clear E;go_loopw [16] (fun d wr=>∃j:Nat,j<=n/\d=(iZ j)/\Hid (SS oZ s w S bw bl bi n a wr)) (fun d _=>n-(eB d).toNat);case atStart=>exact⟨0,qm2 _,rfl,g⟩
 case round=>
  obtain⟨j,hj,rfl,u⟩:=hrel;clear g;by_cases B:j<n
  ·have J:(j:Int)<(n:Int):=aj;obtain⟨⟨v,U⟩,V⟩:(∃v,wr.cell? (ay w.heap.size j)=some v)/\wr.frozen? (ay w.heap.size j)=false:=by
    obtain⟨o,l1,v1,X,Y,O,Z⟩:=u.out;exact O.cell j B
   have M:=aF (u.out.set j (.int .u8 33));go_wp2;go_roundw;case rel=>exact⟨j+1,aj,aM,M⟩
   case measure=>simp[eB];omega
  ·obtain rfl:j=n:=aj;have N:=aF (L.out a wr u.out);go_wp2_with (go_at_call 42;refine bH N.out ?_;rintro w3 D);refine bodyPost_ret (v:=.tuple #[iZ en,(iZ (-1))]) (by simp[results,results29,go_sem]) rfl ?_;exact⟨rfl,a,t.out,D.q⟩
def OD(C S:Nat){l:bJ}{bl:Nat}{U:WA}(n:Nat)(a:List Fr)(data:ByteArray)(v:data.size<=1000000000)(h:fH oZ s w S l M bw bl bi U)(I:w.cell? (ay C 0)=some (aJ S 0))(G:g_ w)(A:oZ 0=0)(J:Gd oZ w)(H:Bd M)(L:M.kW=0)(K:n<=dH)(F:qZ true n a data.data.toList)(q:a.map norm=a)(p:a.length<=1000000)(E:∀i j,j<a.length->mJ {M with aP:=M.aP.add 8 n n,bI:=M.bI||fD a} (a.take j) i->FrC i (a.getD j iL)/\Bd i/\i.next<=dH):qH 29 #[aJ C 0,.string data] w (.tuple #[iZ 0,(iZ (-1))]) fun V=>∃c,M.ji n a c 0/\iE s oZ w S bw bl bi c V:=by have X:=h.s0;have d:(0:Nat)∉T0 s:=fun e=>bR (fC.1 e);have b:data.data.toList.length=data.size:=aM;refine AR oZ s C S bw bl bi data v w I G (by rw[A];exact d) 0 (.inl rfl) (fun c=>M.ji n a c 0) ?_;intro x W B D f m r;obtain⟨o,Y,Z,y,u,k,z⟩:=D8 h f r;have g:Gd oZ W:=J.kp (Kp.below (T:=[]) f) aM;have:=Oz n a w.heap.size 0 x y H L K F q p m (by rw[b];exact v) (by rw[b];exact B) D k.lt g.tab g.sz E;rw[b]at this;refine bH this ?_;rintro w1 ⟨c,Q,O,N,R,P,t⟩;exact⟨rfl,c,Q,O,N,R,P,by rw[t.ext _ k.lt,u],k.of_heap (t.bY _ k.lt (by rw[u];exact d)),z.trans t⟩
def D9(C S:Nat){l:bJ}{bl:Nat}{I:WA}(data:ByteArray)(p:data.size<=1000000000)(h:fH oZ s w S l M bw bl bi I)(B:w.cell? (ay C 0)=some (aJ S 0))(A:g_ w)(v:oZ 0=0)(D:Gd oZ w)(F:M.kW=0)(z:qZ false 0 [] data.data.toList):qH 29 #[aJ C 0,.string data] w (.tuple #[iZ 7,(iZ (-1))]) fun q=>iE s oZ w S bw bl bi M q:=by
 have J:=h.s0;have d:(0:Nat)∉T0 s:=fun e=>bR (fC.1 e);have a:data.data.toList.length=data.size:=aM;refine(AR oZ s C S bw bl bi data p w B A (by rw[v];exact d) 7 (.inr (.inr (.inr rfl))) (fun k=>k=M) ?_).mono ?_;·intro r W x y b g i;have j:=D8 h b i;obtain⟨o,G,H,m,t,n,u⟩:=j;have c:Gd oZ W:=D.kp (Kp.below (T:=[]) b) aM;have:=D7 S w.heap.size 0 r (m.open F) z g (by rw[a];exact p) (by rw[a];exact x) y n.lt c.tab c.sz;rw[a]at this;refine bH this ?_;rintro K f;exact⟨rfl,M,rfl,SS.below ⟨o,G,H,m,t,n,u⟩ f⟩
 ·rintro e q ⟨rfl,k,rfl,E⟩;exact⟨rfl,E⟩
section
def ze(c:Int)(m:Nat)(i: -9223372036854775808<=c)(d:c<=9223372036854775807)(e:0<m)(f:m<=9000000000)(w:Wq):qH 32 #[iZ c,iZ m] w (iZ (cu c m:Nat)) fun g=>g=w:=by
 have j:=aF (dL c m e);by_cases h:c<0;·have b:=aF (FQ c m h);go_enter func32,ntmps32;go_wp2;go_ret;exact⟨l9 b.out,rfl⟩
 ·have b:=aF (FT c m aj);go_enter func32,ntmps32;go_wp2;go_ret;exact⟨l9 b.out,rfl⟩
def TV(n:Net)(i:Nat):n.dA i (n.x i)=n:=by
 unfold Net.dA;have:(fun j=>if j=i then n.x i else n.x j)=n.x:=funext fun j=>by split<;>simp_all
 rw[this]
def qM(n:Net)(B:Nat):Prop:=(∀i,i<2->(n.x i).next+24*(B+1)<dH/\(n.x i).aW+B<9223372036854775808)/\n.now+B<9223372036854775808
def Qv(oZ:Own)(w:Wq)(a:Ad)(vb:WA)(E:Nat->Nat->bJ)(T:List Nat)(n:Net)(w':Wq):Prop:=∃b,dQ b w' a n vb E/\Kp T oZ b w w'
section
variable {oZ:Own} {w:Wq} {a:Ad} {n:Net} {vb:WA} {E:Nat->Nat->bJ}
def dQ.sdq(h:dQ oZ w a n vb E)(i:Nat)(d:i<2)(M:av)(e:iE (60*(i+1)) oZ w (a.S i) (a.bw i) (a.bl i) (a.bi i) M w'):Qv oZ w a vb E (T0 (60*(i+1))) (n.dA i M) w':=by obtain⟨o,l,v,c,b⟩:=e;exact⟨o,h.side b i d (fun x f=>bR (fC.1 f)) M ⟨l,v,c⟩,b⟩
def dQ.no0(h:dQ oZ w a n vb E)(i:Nat):oZ 0∉T0 (60*(i+1)):=by rw[h.o0];exact fun e=>bR (fC.1 e)
def qbg(h:dQ oZ w a n vb E)(i:Nat)(b:i<2)(g:(n.x i).aW+1<18446744073709551616)(k:(n.x i).aK.length<=16):qH 38 #[(aJ (a.C i) 0)] w (.tuple #[]) fun d=>∃v,Qv oZ w a vb E (T0 (60*(i+1))) (n.dA i {(n.x i).Ph with qv:=v}) d:=by obtain⟨l,m,f⟩:=h.sd i b;exact qb6 (a.C i) (a.S i) w (h.cn i b).1 _ ((qat (a.S i) f g k).mono fun e d c=>⟨c.1,c.2.elim fun v j=>⟨v,h.sdq i b _ j⟩⟩)
def X9(h:dQ oZ w a n vb E)(i:Nat)(c:i<2):Calls prog 57 #[(aJ (a.C i) 0)] w fun e b=>∃x,e=.returned x/\GT oZ (60*(i+1)+54) 118 2 b x (n.x i).eP.length (Rz (n.x i).eP)/\dQ oZ b a (n.dA i (n.x i).emp) vb E/\Kp [60*(i+1)] oZ oZ w b:=by obtain⟨l,o,j⟩:=h.sd i c;refine IQ (a.C i) (a.S i) w (h.cn i c).1 _ ((IL (a.S i) j).mono fun e b k=>?_);obtain⟨x,rfl,f,g,d⟩:=k;exact⟨x,rfl,f,h.side d i c (fun x m=>by simp at m;omega) _ g,d⟩
def X_(h:dQ oZ w a n vb E)(f:gI a.bF n)(i k:Nat)(b:i<2)(m:k<8)(c:Int):qH 36 #[(aJ (a.C i) 0),iZ k,iZ c] w (iZ 0) fun g=>Qv oZ w a vb E (T0 (60*(i+1))) (n.dA i ((n.x i).dD k (((n.x i).out k).reset c))) g:=by obtain⟨l,o,j⟩:=h.sd i b;exact(X8 (a.C i) (a.S i) k m c j (h.cn i b).1 (f.loc i b).kW ((f.bd i b).o k).b h.er (h.no0 i)).mono fun e g d=>⟨d.1,h.sdq i b _ d.2⟩
def TY(h:dQ oZ w a n vb E)(j:gI a.bF n)(i k:Nat)(b:i<2)(g:k<8):qH 35 #[(aJ (a.C i) 0),iZ k] w (iZ (((n.x i).out k).finish.2:Int)) fun d=>Qv oZ w a vb E (T0 (60*(i+1))) (n.dA i ((n.x i).dD k ((n.x i).out k).finish.1)) d:=by obtain⟨l,m,f⟩:=h.sd i b;exact(TT (a.C i) (a.S i) k g f (h.cn i b).1 (j.loc i b).kW h.er (h.no0 i)).mono fun e d c=>⟨c.1,h.sdq i b _ c.2⟩
def qbh(h:dQ oZ w a n vb E)(d:gI a.bF n)(i k:Nat)(b:i<2)(m:k<8)(data:ByteArray)(j:data.size<=1000000000):qH 34 #[(aJ (a.C i) 0),iZ k,.string data] w (iZ ((((n.x i).out k).send data.data.toList).2:Int)) fun f=>Qv oZ w a vb E (T0 (60*(i+1))) (n.dA i ((n.x i).dD k (((n.x i).out k).send data.data.toList).1)) f:=by obtain⟨l,o,g⟩:=h.sd i b;exact(qba (a.C i) (a.S i) k m data j g (h.cn i b).1 (d.loc i b).kW ((d.bd i b).o k).b h.er (h.no0 i)).mono fun e f c=>⟨c.1,h.sdq i b _ c.2⟩
def qbi(h:dQ oZ w a n vb E)(f:gI a.bF n)(i k:Nat)(c:i<2)(m:k<8)(b:Int):qH 58 #[(aJ (a.C i) 0),iZ k,iZ b] w (.tuple #[sV (((n.x i).cK k).rd b).1,(iZ ((((n.x i).cK k).rd b).2.state:Int)),iZ 0]) fun g=>Qv oZ w a vb E (T0 (60*(i+1))) (n.dA i ((n.x i).fT k (((n.x i).cK k).rd b).2)) g:=by obtain⟨l,o,j⟩:=h.sd i c;exact(qbc (a.C i) (a.S i) k m b j (h.cn i c).1 (f.loc i c).kW ((f.bd i c).i k)).mono fun e g d=>⟨d.1,h.sdq i c _ d.2⟩
def lu(l:List UInt8):(⟨l.toArray⟩:ByteArray).data.toList=l/\(⟨l.toArray⟩:ByteArray).size=l.length:=⟨aM,by simp[ByteArray.size]⟩
def Qw(h:dQ oZ w a n vb E)(c:gI a.bF n)(k:qM n 0)(i:Nat)(b:i<2)(y:Nat×List Fr)(d:Mw a.bF (n.x (1-i)) (n.x i) y)(j:a.bF<=400)(g:(n.x i).eP=[]):qH 29 #[(aJ (a.C i) 0),sV (bP y.1 y.2)] w (.tuple #[iZ 0,(iZ (-1))]) fun m=>∃f,(n.x i).ji y.1 y.2 f 0/\Qv oZ w a vb E (T0 (60*(i+1))) (n.dA i f) m:=by
 obtain⟨l,z,q⟩:=h.sd i b;have s:=(k.1 i b).1;have t:=(k.1 (1-i) aj).1;have u:=d.lt;have x:=d.sz;obtain⟨o,p⟩:=lu (bP y.1 y.2);refine(OD (a.C i) (a.S i) y.1 y.2 ⟨(bP y.1 y.2).toArray⟩ (by rw[p];omega) q (h.cn i b).1 h.er h.o0 h.gd (c.bd i b) (c.loc i b).kW aj (by rw[o];exact d.dec) d.nm (bR d.ln)
  (qhk (c.loc i b) (c.loc (1-i) aj) (c.two i b) (c.uS i b) (c.bd i b) (c.bd (1-i) aj) d aj aj j (by rw[g];have:=d.ln;simp;omega))).mono ?_
 rintro e m ⟨rfl,f,r,v⟩;exact⟨rfl,f,r,h.sdq i b _ v⟩
def Ld(h:dQ oZ w a n vb E)(j:gI a.bF n)(i:Nat)(b:i<2)(l:List UInt8)(m:l.length<=1000000)(f:qZ false 0 [] l):qH 29 #[(aJ (a.C i) 0),sV l] w (.tuple #[iZ 7,(iZ (-1))]) fun c=>Qv oZ w a vb E (T0 (60*(i+1))) n c:=by obtain⟨o,p,g⟩:=h.sd i b;obtain⟨d,e⟩:=lu l;refine bH (D9 (a.C i) (a.S i) ⟨l.toArray⟩ (by rw[e];omega) g (h.cn i b).1 h.er h.o0 h.gd (j.loc i b).kW (by rw[d];exact f)) ?_;rintro c k;have:=h.sdq i b _ k;rw[TV]at this;exact⟨rfl,this⟩
def OI(h:dQ oZ w a n vb E)(i:Nat)(f:i<2)(r:gM (n.x i))(p:eH (n.x i) (n.x (1-i)))(q:eH (n.x (1-i)) (n.x i))(o:Bd (n.x i))(t:qM n 0):Calls prog 40 #[(aJ (a.C i) 0)] w fun e g=>∃x,e=.returned x/\∃c b d,(n.x i).kQ b d/\dQ c g a (n.dA i b) vb E/\GT c 229 9 1 g x d.length (d.map fun y=>sV (bP y.1 y.2))/\Kp (Tq (60*(i+1)) 229) oZ c w g:=by obtain⟨l,F,s⟩:=h.sd i f;have u:=t.1 i f;refine(OG 229 (a.C i) (a.S i) (n.x (1-i)) s (h.cn i f).1 h.gd aj r p q o aj aj).mono ?_;rintro e g ⟨x,rfl,b,C,c,A,z,⟨d,j,rfl⟩,B,D,k,m⟩;refine⟨x,rfl,c,b,d,j,h.side m i f (fun x v=>by rcases Ea.1 v with h|h<;>omega) b ⟨A,z,B⟩,?_,m⟩;unfold pkB at k;rw[List.map_map,qmc]at k;exact k
end

end
section
def TN:List Nat:=List.range' 60 170
def jZ{x:Nat}:x∈TN↔60<=x/\x<230:=by
 unfold TN;rw[qot];constructor;·rintro⟨i,b,rfl⟩;omega
 ·exact fun h=>⟨x-60,aj,aj⟩
def nk(oZ:Own)(w:Wq)(a:Ad)(n:Net)(w':Wq):Prop:=∃b vb,dQ b w' a n vb (ends n)/\Kp TN oZ b w w'
def dF(w:Wq)(q:Nat):bE w (w.drewN q):=⟨rfl,rfl,rfl,qj _,fun _ _=>rfl⟩
structure RdK (o:Ot) (i:eU) (aS:Nat):Prop where
 l1:(i.rd aS).1.length<=aS
 l2:i.aY+(i.rd aS).1.length<=o.all.length
 tx:(o.all.drop i.aY).take (i.rd aS).1.length=(i.rd aS).1
 s0:i.state≠0->(i.rd aS).1=[]/\(i.rd aS).2.state=i.state
 nx:(i.rd aS).2.aY=i.aY+(i.rd aS).1.length
 st:(i.rd aS).2.state=0\/(i.rd aS).2.state=1/\o.bG=true/\(i.rd aS).2.aY=o.all.length\/(i.rd aS).2.state=2/\o.nt.bN=true/\o.kept<=(i.rd aS).2.aY
def Yb{o:Ot}{i:eU}(k:EI o)(h:vX o i)(b:Nat):RdK o i b:=by
 obtain⟨f,_,_,l,q⟩:=qd0 k h b;have c:(i.rd b).1=i.bK.take (min i.ready (max (b:Int) 0).toNat):=rfl;have p:(i.rd b).1.length<=b:=by rw[c,qm8];omega
 have m:i.aY+(i.rd b).1.length<=o.all.length:=by rw[<-l];exact f.ro k
 refine⟨p,m,q.symm,fun j=>?_,l,?_⟩
 ·refine⟨?_,?_⟩
  ·rcases h.st with e|⟨e,_,d⟩|⟨e,d,e3⟩;·exact absurd e j
   ·exact qn9.1 aj
   ·have:=(h.bN d).2.2.2.2;refine qn9.1 ?_;rw[c,qm8];omega
  ·show(if i.state=0 then _ else i.state)=i.state;rw[aV j]
 ·rcases f.st with e|e|⟨e,c,d⟩;·exact .inl e
  ·exact .inr (.inl e)
  ·obtain⟨_,g,_,r,_⟩:=f.bN c;refine .inr (.inr ⟨e,g,?_⟩);unfold Ot.kept;rw[bM g];omega
def qfa(N xb xc eb ec el Gl e C i k j p:Nat)(hi:i<2)(_hj:j<2)(hk:k<8)(X:(1:Int)-(i:Int)=(j:Int))(D l:ByteArray)(bG cut:Bool)(F r ET v m lb:Nat)(hm:p<=1000000)(w:Wq)(R T:Wq->Prop)(c0:w.cell? (ay N 0)=some (dh xb 2 xc))(c1:w.cell? (ay N 1)=some (dh eb 2 ec))(x1:w.cell? (ay xb i)=some (aJ C 0))(e1:w.cell? (ay eb j)=some (dh el 8 Gl))(e2:w.cell? (ay el k)=some (aJ e 0))(P:qH 58 #[aJ C 0,iZ k,iZ p] w (.tuple #[.string D,iZ v,iZ 0]) fun c=>R c)(S:∀c,R c->aL c e 80 [.string l,.bool bG,.bool cut,iZ F,iZ r,iZ ET])(hF:∀c q g,R c->T ((((c.drewN q).setCell (ay e 4) (iZ ((r+m:Nat):Int))).setCell (ay e 5) (iZ v)).drewN g))(M:D.size=m)(L:l.size=lb)(z:m<=p)(A:r+m<=lb)(Y:lb<=2048)(f:l.extract r (r+m)=D)(V:ET=0\/(ET=1\/ET=2)/\v=ET/\D=⟨#[]⟩)(B:v=0\/v=1/\bG=true/\r+m=lb\/v=2/\cut=true/\F<=r+m):qH 31 #[aJ N 0,iZ i,iZ k,iZ p] w (.bool true) fun w'=>T w':=by
 have wm:=aF P;have U:=aF S;have x:=aF hF;clear P S hF;have o:=aF B;clear B;go_enter func31,ntmps31;go_wp2_with (go_at_call 58;refine wm.out.mono ?_;rintro ee c ⟨rfl,t⟩;have b:=U.out c t);have y:=aF t;have f0:=b.cell 0;have f1:=b.cell 1;have f2:=b.cell 2;have f3:=b.cell 3;have f4:=b.cell 4;have f5:=b.cell 5;have z4:=b.frozen 4;have z5:=b.frozen 5;simp only[qml,qma]at f0 f1 f2 f3 f4 f5;clear t b;have G:¬((p:Int)<(m:Int)):=aj;have H:¬((lb:Int)-(r:Int)<(m:Int)):=aj;have I:(0:Int)<=(r:Int):=aj;have J:(r:Int)<=(r:Int)+(m:Int):=aj;have K:(r:Int)+(m:Int)<=(lb:Int):=aj;rcases V with rfl|⟨hs,rfl,rfl⟩
 ·go_quiet (fail);rcases o.out with rfl|⟨rfl,rfl,u⟩|⟨rfl,rfl,u⟩;·have d:=aF (x.out c nq 0 y.out);go_wp2;go_ret;exact⟨rfl,d.out⟩
  ·subst u;go_wp2;have d:=aF (fun g=>x.out c nq g y.out);go_quiet (fail);go_wp2;go_ret;exact⟨rfl,d.out nq⟩
  ·have Z:(F:Int)<=((r+m:Nat):Int):=aj;have O:(F:Int)<=(r:Int)+(m:Int):=aj;go_wp2;have d:=aF (fun g=>x.out c nq g y.out);go_quiet (fail);go_wp2;go_ret;exact⟨rfl,d.out nq⟩
 ·have Q:m=0:=M.symm;rcases hs with rfl|rfl
  ·rcases o.out with s|⟨_,rfl,u⟩|⟨s,_⟩;·cases s
   ·subst Q;subst u;clear G H I J K;have G:¬((p:Int)<0):=aj;have H:¬((r:Int)-(r:Int)<0):=aj;have I:(0:Int)<=(r:Int):=aj;have J:(r:Int)<=(r:Int):=aj;have K:l.extract r r=⟨#[]⟩:=f;have W:l.size=r:=L;clear L M A z f;go_quiet (fail);go_wp2;have d:=aF (fun g=>x.out c nq g y.out);go_quiet (fail);go_wp2;go_ret;exact⟨rfl,d.out nq⟩
   ·cases s
  ·rcases o.out with s|⟨s,_⟩|⟨_,rfl,u⟩;·cases s
   ·cases s
   ·subst Q;have O:(F:Int)<=(r:Int):=aj;clear G H I J K;have G:¬((p:Int)<0):=aj;have H:¬((lb:Int)-(r:Int)<0):=aj;have I:(0:Int)<=(r:Int):=aj;have J:(r:Int)<=(r:Int):=aj;have g7:(r:Int)<=(lb:Int):=aj;have K:l.extract r r=⟨#[]⟩:=f;have W:l.size=lb:=L;clear L M A z f u;go_quiet (fail);go_wp2;have d:=aF (fun g=>x.out c nq g y.out);go_quiet (fail);go_wp2;go_ret;exact⟨rfl,d.out nq⟩
section
variable {oZ:Own} {w:Wq} {a:Ad} {n:Net} {vb:WA} {E:Nat->Nat->bJ}
def dQ.Li(h:dQ oZ w a n vb E)(i k:Nat)(b:i<2)(c:k<8):w.cell? (ay a.eb i)=some (dh (a.el i) 8 (a.Gl i))/\w.cell? (ay (a.el i) k)=some (aJ (a.e i k) 0)/\∀j,w.cell? (ay (a.e i k) j)=(E i k)[j]?:=
 ⟨(h.es i b).1,(h.el i k b c).1,fun j=>(h.en i k b c).1.cell j⟩
def Qx(h:dQ oZ w a n vb (ends n))(o:gI a.bF n)(i k b:Nat)(l:i<2)(f:k<8)(P:b<=1000000):qH 31 #[aJ a.N 0,iZ i,iZ k,iZ b] w (.bool true) fun S=>nk oZ w a (n.dA i ((n.x i).fT k (((n.x i).cK k).rd b).2)) S:=by
 have K:=Yb ((o.loc (1-i) aj).wr k) ((o.uS i l).rd k) b;obtain⟨D,F,_⟩:=h.cells;obtain⟨G,s,_⟩:=h.Li (1-i) k aj f;have m:((n.x (1-i)).out k).all.length<=2048:=((o.loc (1-i) aj).wr k).sz;have z:ends n (1-i) k=Eb ((n.x (1-i)).out k) ((n.x i).cK k):=by unfold ends;rw[show 1-(1-i)=i by omega]
 have v:k<(n.x i).ins.length:=by rw[(o.loc i l).li];exact f
 refine qfa a.N a.xb a.xc a.eb a.ec (a.el (1-i)) (a.Gl (1-i)) (a.e (1-i) k) (a.C i) i k (1-i) b l aj f aj ⟨(((n.x i).cK k).rd b).1.toArray⟩ ⟨((n.x (1-i)).out k).all.toArray⟩ ((n.x (1-i)).out k).bG ((n.x (1-i)).out k).nt.bN ((n.x (1-i)).out k).kept ((n.x i).cK k).aY ((n.x i).cK k).state (((n.x i).cK k).rd b).2.state (((n.x i).cK k).rd b).1.length ((n.x (1-i)).out k).all.length P w
  (fun j=>Qv oZ w a vb (ends n) (T0 (60*(i+1))) (n.dA i ((n.x i).fT k (((n.x i).cK k).rd b).2)) j) (nk oZ w a (n.dA i ((n.x i).fT k (((n.x i).cK k).rd b).2))) D F (h.xs i l).1 G s (qbi h o i k l f b) ?_ ?_ (lu _).2 (lu _).2 K.l1 K.l2 m ?_ ?_ ?_
 ·rintro j ⟨g,r,_⟩;have:=(r.en (1-i) k aj f).1;rw[z]at this;exact this
 ·rintro j q c ⟨g,r,M⟩;have I:dQ g (j.drewN q) a _ vb (ends n):=r.below ⟨rfl,rfl,rfl,qj _,fun _ _=>rfl⟩;have J:=(I.OH (1-i) k aj f 4 (iZ ((((n.x i).cK k).aY+(((n.x i).cK k).rd b).1.length:Nat):Int))).OH (1-i) k aj f 5 (iZ ((((n.x i).cK k).rd b).2.state:Int));have L:=J.below (dF _ c);have B:=(r.en (1-i) k aj f).2;refine⟨g,vb,L.vS fun y R N O=>?_,?_⟩
  ·by_cases e:y=1-i/\R=k;·obtain⟨rfl,rfl⟩:=e;simp only[and_self,if_true];rw[z];unfold ends;rw[show 1-(1-i)=i by omega,fV,iH _ _ _ _ aj,jT,bM ⟨rfl,v⟩,<-K.nx];rfl
   ·rw[aV e,aV e];unfold ends;by_cases s:y=i;·subst s;rw[fV,iH _ _ _ _ aj];rfl
    ·have H:y=1-i:=aj;subst H;rw[show 1-(1-i)=i by omega,fV,iH _ _ _ _ aj,jT,aV (fun x=>e ⟨rfl,x.1⟩)]
  ·have C:Kp TN g g j (j.drewN q):=Kp.below ⟨rfl,rfl,rfl,qj _,fun _ _=>rfl⟩;have A:210+8*(1-i)+k∈TN:=jZ.2 aj;exact(M.mono fun x Q=>jZ.2 (bR (fC.1 Q))).trans (C.trans ((Kp.set g _ _ _ TN (by rw[B];exact A)).trans ((Kp.set g _ _ _ TN (by rw[B];exact A)).trans (Kp.below ⟨rfl,rfl,rfl,qj _,fun _ _=>rfl⟩))))
 ·have t:=K.tx;apply mE;rw[qq8];apply qox;rw[<-t];simp
 ·by_cases u:((n.x i).cK k).state=0;·exact .inl u
  ·obtain⟨p,c⟩:=K.s0 u;refine .inr ⟨?_,c,by rw[p]⟩;rcases K.st with d|d|d;·exact absurd (c.symm.trans d) u
   ·exact .inl (c.symm.trans d.1)
   ·exact .inr (c.symm.trans d.1)
 ·rcases K.st with q|⟨p,c,d⟩|⟨p,c,d⟩;·exact .inl q
  ·exact .inr (.inl ⟨p,c,by rw[<-K.nx];exact d⟩)
  ·exact .inr (.inr ⟨p,c,by rw[<-K.nx];exact d⟩)
end

end
section
def T9(B:Nat)(w:Wq)(k:Option Addr)(e:List Fr):Prop:=∀j,j<e.length->∃b d f h g,k=some (ay b d)/\B<=b/\∀i,i<10->w.cell? (ay b (d+j*10+i))=(fJ (e.getD j iL) (.slice f h g))[i]?
def T9.heap{B g:Nat}{w w':Wq}{s:Option Addr}{d:List Fr}(h:T9 B w s d)(t:g<=B)(u:∀b,B<=b->b<w.heap.size->w'.heap[b]?=w.heap[b]?):T9 g w' s d:=fun j v=>by obtain⟨b,f,p,r,q,e,k,l⟩:=h j v;have:=u b k (qmf w (ay b _) (by rw[l 0 aj];rfl));exact⟨b,f,p,r,q,e,qlz t k,fun i m=>by have o:i<(fJ (d.getD j iL) (.slice p r q)).length:=m;rw[qm3 o];exact cell_of (by rw[l i m,qm3 o]) this⟩
def T9.below(h:T9 B w e d)(f:bE w w'):T9 B w' e d:=h.heap (qj _) fun b _ g=>f.block b g
def T9.set(h:T9 B w e d)(x:Addr)(v:WA)(g:x.block<B):T9 B (w.setCell x v) e d:=h.heap (qj _) fun b f _=>qmd _ _ _ _ (by show b≠x.block;omega)
def T_(y:Nat×List Fr)(D:ByteArray)(g cap:Nat)(f:qZ true y.1 y.2 D.data.toList)(F:y.2.map norm=y.2)(m:dG w (some (ay g 0)) D.data.toList)(I:D.size<=1000000)(G:0<D.size)(C:g<w.heap.size)(B:kU w)(z:g_ w)(v:2<=w.heap.size):Calls prog 24 #[dh g D.size cap] w fun e w'=>∃h r,e=.returned (.tuple #[.agg #[uZ y.1,.slice h y.2.length r],iZ 0,(iZ (-1))])/\bE w w'/\T9 w.heap.size w' h y.2:=by
 have t:D.data.toList.length=D.size:=aM;have:=Br true y.1 y.2 g 0 cap f m aj aj C B z v 0 rfl;rw[t]at this;refine this.mono ?_;rintro e w' ⟨s,u,rfl,l,m⟩;unfold pY at l;rw[bM rfl]at l;obtain⟨_,J,k⟩:=l;rw[F]at k;unfold qZ at f;rw[bM rfl]at f;obtain⟨h,r,p,hF⟩:=k.O_ (fun j o=>(f.2.1 j o).2);subst p;have A:=k.own;refine⟨h,r,rfl,m,fun j o=>?_⟩;obtain⟨b,q,e,d⟩:=hF.weak j o;subst e;exact⟨b,q,_,_,_,rfl,A b rfl,fun i H=>by
  rcases(show i=0\/i=1\/i=2\/i=3\/i=4\/i=5\/i=6\/i=7\/i=8\/i=9 by omega)with rfl|rfl|rfl|rfl|rfl|rfl|rfl|rfl|rfl|rfl;·exact d.c0
  ·exact d.c1
  ·exact d.c2
  ·exact d.c3
  ·exact d.c4
  ·exact d.c5
  ·exact d.c6
  ·exact d.c7
  ·exact d.c8
  ·exact d.c9⟩
def nj(n:Net)(i:Nat)(Y:List (Nat×List Fr))(j c:Nat):Net:={n with dI:=n.dI++(Y.take j).map (fun y=>(1-i,y)),kS:=fun t=>if t=i then n.kS i+c else n.kS t}
structure Ll (eZ:Own) (w0:Wq) (a:Ad) (n:Net) (E:Nat->Nat->bJ) (i:Nat) (Y:List (Nat×List Fr)) (x:WA) (j c:Nat) (oZ:Own) (w:Wq):Prop where
 nt:∃vb,dQ oZ w a (nj n i Y j c) vb E
 st:GT oZ 229 9 1 w x Y.length (Y.map fun y=>sV (bP y.1 y.2))
 kp:Kp TN eZ oZ w0 w
section
variable {eZ oZ:Own} {w0 w w':Wq} {a:Ad} {n:Net} {E:Nat->Nat->bJ} {i j c:Nat} {Y:List (Nat×List Fr)} {x:WA}
def Ll.below(h:Ll eZ w0 a n E i Y x j c oZ w)(b:bE w w'):Ll eZ w0 a n E i Y x j c oZ w':=by obtain⟨e,d⟩:=h.nt;exact⟨⟨e,d.below b⟩,h.st.kp (Kp.below (T:=[]) b) aM,h.kp.trans (Kp.below b)⟩
def Ll.count(h:Ll eZ w0 a n E i Y x j c oZ w)(d:i<2):Ll eZ w0 a n E i Y x j (c+1) oZ (w.setCell (ay a.cb i) (uZ ((n.kS i+c+1:Nat):Int))):=by
 obtain⟨k,b⟩:=h.nt;have g:=b.qhr i d (n.kS i+c+1);have K:Kp [203] oZ oZ w (w.setCell (ay a.cb i) (uZ ((n.kS i+c+1:Nat):Int))):=Kp.set oZ w _ _ _ (by rw[b.ct.2];simp);refine⟨⟨k,?_⟩,h.st.kp K aM,h.kp.trans (K.mono fun x f=>jZ.2 (by simp at f;omega))⟩;have e:(fun t=>if t=i then n.kS i+c+1 else(nj n i Y j c).kS t)=(nj n i Y j (c+1)).kS:=funext fun t=>by
  show _=if t=i then n.kS i+(c+1)else n.kS t;by_cases e:t=i;·rw[bM e,bM e];omega
  ·rw[aV e,aV e];exact aV e
 rw[e]at g;exact g
def Ll.push(h:Ll eZ w0 a n E i Y x j c oZ w)(J:j<Y.length)(U:n.dI.length+Y.length<=100000000000):∃m K o f L g b d,w.cell? (ay a.N 8)=some (.slice m K o)/\(∀G,(Builtin.append_ #[46,46] G #[.slice m K o,dh w.heap.size 1 1]).run prog (w.alloc (.cells #[(iZ ((1-i:Nat):Int)),sV (bP (Y.getD j (0,[])).1 (Y.getD j (0,[])).2)] 62))=.ok (.slice f L g) b)/\(∃v,b.cell? (ay a.N 8)=some v)/\b.frozen? (ay a.N 8)=false/\Ll eZ w0 a n E i Y x (j+1) c d (b.setCell (ay a.N 8) (.slice f L g)):=by
 obtain⟨X,k⟩:=h.nt;obtain⟨V,r⟩:=bT ([Value.int .i64 ((1-i:Nat):Int),sV (bP (Y.getD j (0,[])).1 (Y.getD j (0,[])).2)]);have M:aL (w.alloc (.cells V.toArray 62)) w.heap.size 62 V:=aL.new w 62 V;have p:bE w (w.alloc (.cells V.toArray 62)):=(qlw _ w).alloc (qj _) _;have q:=k.below p;obtain⟨m,o,rfl⟩:=gX k.bg;obtain⟨W,b,d,run,I,s⟩:=fO Ya q.bg (ay w.heap.size 0) 1 1 V (by rw[r];rfl) (fun z F=>by
  rw[r]at F;simp[sV]at F;rcases F with rfl|rfl<;>rfl) (fun t y R=>by
  have e:(ay w.heap.size 0).add t=(ay w.heap.size t):=by rw[qmb,qm5]
  rw[e,M.cell,R]) (by unfold nj;rw[qm0,qmc,qm8];omega)
 obtain⟨f,g,rfl⟩:=gX I;obtain⟨_,_,_,_,_,N,_⟩:=k.cells;have u:aL b a.N 48 (qbe a (nj n i Y j c).now (.slice m (nj n i Y j c).dI.length o)):=q.xJ s aM;have C:d a.N=200:=by rw[s.ext _ q.ou.1.lt];exact q.ou.2
 have H:Kp [200] d d b (b.setCell (ay a.N 8) (.slice f ((nj n i Y j c).dI.length+1) g)):=Kp.set d b _ _ _ (by rw[C];simp);have l:Kp [204,200] oZ d w (b.setCell (ay a.N 8) (.slice f ((nj n i Y j c).dI.length+1) g)):=(Kp.below p).trans ((s.mono aM).trans (H.mono aM));have P:(nj n i Y (j+1) c).dI=(nj n i Y j c).dI++[(1-i,Y.getD j (0,[]))]:=by unfold nj;simp only;rw[qnh,qm3 J,qnb,qly,qm3 J,qmh];rfl
 have O:b.cell? (ay a.N 8)=some (.slice m (nj n i Y j c).dI.length o):=by rw[u.cell];rfl
 refine⟨m,_,o,f,_,g,b,d,N,fun G=>by have:=run G;rw[r]at this;exact this,⟨_,O⟩,u.frozen 8,⟨.slice f ((nj n i Y j c).dI.length+1) g,?_⟩,h.st.kp l aM,h.kp.trans (l.mono fun x D=>jZ.2 (by simp at D;omega))⟩;refine k.turn l aM aM (u.setCell 8 _) (fun S T A B=>k.AU l S T A B rR) (k.Ed l aM) ?_ (fun i Q=>k.AV l i Q fun x D=>.inr (by simp at D;omega));rw[P,Lg,qm0];have:=I.kp H aM;rw[r]at this;exact this
end

end
def qM.less{n:Net}(h:qM n (B+1)):qM n B:=⟨fun i a=>bR (h.1 i a),bR h.2⟩
def qM.to{n:Net}(h:qM n B):qM n 0:=⟨fun i a=>bR (h.1 i a),bR h.2⟩
def qM.dA{n:Net}{B:Nat}(h:qM n B)(i:Nat){M:av}(b:M.next=(n.x i).next)(c:M.aW=(n.x i).aW):qM (n.dA i M) B:=⟨fun j a=>by
 by_cases e:j=i;·rw[e,fV,b,c];rw[e]at a;exact h.1 i a
 ·rw[iH _ _ _ _ e];exact h.1 j a,h.2⟩
def jF{a:Nat}{n:Net}(h:gI a n)(i:Nat)(c:i<2)(M:av)(s:rH (n.x i) (n.x (1-i)) M)(b:Bd M)(m:M.bF=(n.x i).bF)(d:M.next=(n.x i).next):gI a (n.dA i M):=
 h.set i c M s b m n.kS fun j f=>by
  split;·rename_i e;rw[e,d];exact h.ct i c
  ·rfl
def zq(a:List (Nat×List Fr)):List (Nat×List Fr):=a.map fun y=>(y.1,y.2.map norm)
def Net.vT(n:Net)(i:Nat)(M:av)(a:List (Nat×List Fr)):Net:=
 {n.dA i M with dI:=n.dI++(zq a).map (fun y=>(1-i,y)),kS:=fun t=>if t=i then M.next else n.kS t}
def OJ{a:Nat}{n:Net}(c:gI a n)(i:Nat)(b:i<2){d:List (Nat×List Fr)}(o:PkO (n.x i) (n.x (1-i)) M d):gI a (n.vT i M d):=by
 have g:=c.set i b M o.stp o.bd o.mt (fun t=>if t=i then M.next else n.kS t) (fun j _=>rfl);refine g.add _ (fun y m=>?_);obtain⟨z,p,rfl⟩:=qmk.1 m;obtain⟨x,l,rfl⟩:=qmk.1 p;obtain⟨f,q,k⟩:=o.ok x l;refine⟨by show 1-i<2;omega,?_⟩;have e:(n.dA i M).x (1-(1-i))=M:=by rw[show 1-(1-i)=i by omega];exact fV n i M
 have h:(n.dA i M).x (1-i)=n.x (1-i):=iH _ _ _ _ aj;show Mw a ((n.dA i M).x (1-(1-i))) ((n.dA i M).x (1-i)) (x.1,x.2.map norm);rw[e,h];rw[c.mt i b]at f;exact qax f q k
def OL{n:Net}(h:qM n (B+1))(i:Nat)(o:PkO (n.x i) A M b)(t:M.aW=(n.x i).aW):qM (n.vT i M b) B:=⟨fun j a=>by
 show((n.dA i M).x j).next+_<_/\((n.dA i M).x j).aW+B<_
 by_cases e:j=i;·rw[e,fV,t];rw[e]at a;have:=h.1 i a;have:=o.top;omega
 ·rw[iH _ _ _ _ e];have:=h.1 j a;omega,by have:=h.2;show n.now+B<_;omega⟩
structure FlY (bF now c0:Nat) (j:Nat) (y:Nat×List Fr):Prop where
 c:PkC bF y
 no:y.1=c0+j
 ne:0<y.2.length
 kd:∀f∈y.2,f.aD=7->now<=f.aH
def qfb{now:Nat}{c:List (Nat×List Fr)}(o:PkW A M c)(s:A.bF=i)(r:∀x∈c,∀f∈x.2,f.aD=7->now<=f.aH)(j:Nat)(q:j<(zq c).length):FlY i now A.next j ((zq c).getD j (0,[])):=by
 have a:j<c.length:=by simpa[zq]using q
 have m:c.getD j (0,[])=c[j]:=by rw[qly,qm3 a];rfl
 have e:(zq c).getD j (0,[])=((c[j]).1,(c[j]).2.map norm):=by unfold zq;rw[qly,qn8,qm3 a];rfl
 obtain⟨f,t⟩:=o.ok _ (qmz a);have n:=o.nm j a;rw[m]at n;rw[s]at f;obtain⟨b,_⟩:=IK f;rw[e];refine⟨b,n,by show 0<((c[j]).2.map norm).length;rw[qmc];exact List.length_pos_iff.2 f.ne,fun g p k=>?_⟩;obtain⟨h,d,rfl⟩:=qmk.1 p;have l:=(f.fs h d).sn;rw[kL h l]at k;rw[norm_eq h l,aV aj,aV aj,aV aj,aV aj,aV aj,aV aj,bM k];exact r _ (qmz a) h d k
def Ua(o:PkW A M a):(zq a).map (fun y=>sV (bP y.1 y.2))=a.map fun y=>sV (bP y.1 y.2):=by unfold zq;rw[List.map_map];refine qps fun x b=>?_;show sV (bP x.1 (x.2.map norm))=_;rw[(IK (o.ok x b).1).2]
def qfc{n:Net}(i:Nat)(b:n.kS i=(n.x i).next)(o:PkW (n.x i) M a):nj (n.dA i M) i (zq a) (zq a).length (zq a).length=n.vT i M a:=by
 have e:(fun t=>if t=i then(n.dA i M).kS i+(zq a).length else(n.dA i M).kS t)=fun t=>if t=i then M.next else n.kS t:=funext fun t=>by
  split;·show n.kS i+_=_;rw[b,o.next];unfold zq;rw[qmc]
  ·rfl
 unfold nj Net.vT;rw[e,qp2];rfl
def nu{n:Net}(s:Sm (n.x i) M)(j k:Nat):ends n j k=ends (n.dA i M) j k:=by
 unfold ends Eb Ot.kept;have a:SmO ((n.x j).out k) (((n.dA i M).x j).out k):=by
  by_cases e:j=i;·rw[e,fV];exact s.o k
  ·rw[iH _ _ _ _ e];exact z_ _
 obtain⟨c,d,f,g⟩:=a;have b:(((n.dA i M).x (1-j)).cK k).aY=((n.x (1-j)).cK k).aY/\(((n.dA i M).x (1-j)).cK k).state=((n.x (1-j)).cK k).state:=by
  by_cases e:1-j=i;·rw[e,fV];exact s.i k
  ·rw[iH _ _ _ _ e];exact⟨rfl,rfl⟩
 rw[c,d,f,g,b.1,b.2]
def dQ.qjz{a:Ad}{n:Net}{c:WA}(h:dQ oZ w a n c E)(i:Nat)(d:i<2):w.cell? (ay a.cb i)=some (uZ (n.kS i:Int))/\w.frozen? (ay a.cb i)=false:=by obtain⟨⟨r,b⟩,_⟩:=h.ct;refine⟨?_,b.frozen i⟩;rw[b.cell];rcases(show i=0\/i=1 by omega)with rfl|rfl<;>rfl
def OM{t:Nat}{x:WA}{n:Nat}{l:bJ}(h:GT oZ t 9 1 w x n l)(j:Nat)(b:j<n)(v:WA)(a:l[j]?=some v):∃g c,x=(dh g n c)/\w.cell? (ay g j)=some v/\g<w.heap.size/\oZ g=t:=by
 rcases h with⟨_,e,_⟩|⟨g,cap,cs,rfl,ho,hB,hc1,hc2,hc3,hc4,BN,_⟩;·omega
 ·refine⟨g,cap,rfl,?_,hB.lt,ho⟩;rw[hB.cell];rw[<-BN,qm6,bM aj]at a;exact a
def Ll.cells{eZ oZ:Own}{w0 w:Wq}{a:Ad}{n:Net}{E:Nat->Nat->bJ}{i j c:Nat}{Y:List (Nat×List Fr)}{x:WA}(h:Ll eZ w0 a n E i Y x j c oZ w)(m:i<2):w.cell? (ay a.N 4)=some (uZ n.now)/\w.cell? (ay a.N 5)=some (iZ a.bF)/\w.cell? (ay a.N 9)=some (dh a.cb 2 a.cc)/\w.cell? (ay a.cb i)=some (uZ ((n.kS i+c:Nat):Int))/\w.frozen? (ay a.cb i)=false/\kU w/\g_ w/\2<=w.heap.size:=by obtain⟨o,b⟩:=h.nt;obtain⟨_,_,_,f,g,_,k⟩:=b.cells;obtain⟨d,l⟩:=b.qjz i m;have e:(nj n i Y j c).kS i=n.kS i+c:=bM rfl;rw[e]at d;have:=b.gd.sz;exact⟨f,g,k,d,l,b.gd.tab,b.er,aj⟩
def qbk(eZ:Own)(w0:Wq)(a:Ad)(E:Nat->Nat->bJ)(i:Nat)(hi:i<2)(y1:a.bF<=400)(qL:Wq->Prop)(c0:w0.cell? (ay a.N 0)=some (dh a.xb 2 a.xc))(x1:w0.cell? (ay a.xb i)=some (aJ (a.C i) 0))(HC:Calls prog 40 #[(aJ (a.C i) 0)] w0 fun e w1=>∃sa r G,e=.returned (.slice sa r G)/\Hid (∃n Y eG,r=Y.length/\n.dI.length+Y.length<=100000000000/\n.kS i+Y.length<4611686018427387904/\(∀j,j<Y.length->FlY a.bF n.now (n.kS i) j (Y.getD j (0,[])))/\Ll eZ w0 a n E i Y (.slice sa r G) 0 0 eG w1/\∀x H,Ll eZ w0 a n E i Y (.slice sa r G) Y.length Y.length x H->qL H)):qH 23 #[aJ a.N 0,iZ i] w0 (.bool true) fun w'=>qL w':=by
 have wm:=aF HC;clear HC;have xy:(i:Int)<2:=aj;go_enter func23,ntmps23;go_wp2_with (go_at_call 40;refine wm.out.mono ?_;rintro e w1 ⟨sa,r,G,rfl,H1⟩);clear wm;obtain⟨n,Y,eG,hn,hb,hc,hY,hI,hF⟩:=H1.out;have HN:=aF hn;have HB:=aF hb;have HK:=aF hc;have HY:=aF hY;have HI:=aF hI;have HF:=aF hF;have y2:r<9223372036854775807:=aj;clear hn hb hc hY hI hF H1;go_loopw [6] (fun s6 wr=>∃j:Nat,j<=r/\s6=(iZ j)/\Hid (∃x,Ll eZ w0 a n E i Y (.slice sa r G) j j x wr)) (fun s6 _=>r-(eB s6).toNat);case atStart=>exact⟨0,qm2 _,rfl,eG,HI.out⟩
 case round=>
  obtain⟨j,hj,rfl,HR⟩:=hrel;by_cases X:j<r
  ·have xt:(j:Int)<(r:Int):=aj;obtain⟨x,O⟩:=HR.out;have t:j<Y.length:=bR HN.out;have v:=HY.out j t;obtain⟨y,C⟩:=bT (Y.getD j (0,[]));have u:(Y.map fun y=>sV (bP y.1 y.2))[j]?=some (sV (bP y.1 y.2)):=by rw[C,qn8,qm3 t,qly,qm3 t];rfl
   rw[<-C]at v;have h0:=O.st;rw[<-HN.out]at h0;obtain⟨g,cg,eg,d0,hg,_⟩:=OM h0 j X _ u;simp only[qn4]at eg;obtain⟨rfl,_,rfl⟩:=eg;obtain⟨D,hD⟩:=bT (⟨(bP y.1 y.2).toArray⟩:ByteArray);have he:D.data.toList=bP y.1 y.2:=by rw[hD]
   have xa:D.size=(bP y.1 y.2).length:=by rw[hD];exact(lu _).2
   unfold sV at d0;rw[<-hD]at d0;have gT:=v.c.sz;have xn:=v.c.ps;obtain⟨cp,W,xi,xp,xr,R,hu,x6⟩:=nO wr D aj;obtain⟨p4,p5,p9,pc,pf,pT,pE,p2⟩:=O.cells hi;have ho:=O.below R;obtain⟨_,_,_,_,_,qT,qE,q2⟩:=ho.cells hi;have U:=T_ y D wr.heap.size cp (by rw[he];exact v.c.dec) v.c.nm hu aj aj x6.lt qT qE q2;obtain⟨w,T⟩:=bT (n.kS i+j);have Z:=v.no;rw[<-T]at Z pc;rw[Z]at U;have HD:=aF U;have y7:w<4611686018427387904:=bR HK.out;have x5:=v.ne;have x4:=v.c.ln;have h7:=aF v.kd;have HP:=aF O;have Je:=aF R;have xv:D.size<=a.bF:=aj;obtain⟨F,hv⟩:=bT y.2;rw[<-hv]at HD x5 x4 h7;have h6:=aF T;have x9:=aF (dw C hD);obtain⟨m,hm⟩:=bT F.length;rw[<-hm]at HD x5 x4;have HM:=aF hm;clear hm hv T C hD U Z O ho R hu x6 qT qE q2 pT pE p2 h0 u v HR he xa gT xn HI;go_wp2_with (go_at_call 24;refine HD.out.mono ?_;rintro e H ⟨f,s,rfl,z,p⟩;have J:=aF z;have Vf:=aF p;clear z p);obtain⟨B,Ew⟩:=bT (H.alloc (.cells #[uZ w,.slice f m s] 56));obtain⟨pb,A⟩:=bT H.heap.size;have N:bE wr B:=by rw[Ew];have h1:=Je.out;have h2:=J.out;exact h1.trans ((h2.mono h1.size).alloc (qlz h1.size h2.size) _)
   have Fa:=HP.out.below N;have I:aL B pb 56 [uZ w,.slice f m s]:=by rw[Ew,A];exact aL.new H 56 _
   have x0:T9 wr.heap.size B f F:=by rw[Ew];have:=Vf.out.below ((qlw H.heap.size H).alloc (qj _) (.cells #[uZ w,.slice f m s] 56));exact this.heap Je.out.size fun _ _ _=>rfl
   rw[<-Ew,<-A];have y3:wr.heap.size<=pb:=by rw[A];exact qlz Je.out.size J.out.size
   have xf:a.cb<wr.heap.size:=qmf wr (ay a.cb i) (by rw[pc]);clear Ew A J Vf Je xi p4 p5 p9 pf pc HD;obtain⟨q4,q5,q9,qc,qf,_,_,_⟩:=Fa.cells hi;have d4:B.cell? (ay g j)=some (.string D):=cell_of d0 (N.block g hg);have b0:=I.cell 0;have b1:=I.cell 1;simp only[qml,qma]at b0 b1;rw[<-h6.out]at qc;have Ja:=aF (dw Fa (dw I (dw x0 N)));clear Fa I x0 d0;have g1:¬((a.bF:Int)<(D.size:Int)):=aj;have g2:¬((m:Int)=0):=aj;go_quiet (fail);go_wp2;obtain⟨W5,xP⟩:=bT ((B.drewN nq).setCell (ay a.cb i) (uZ ((w:Int)+1)));have hf:Ll eZ w0 a n E i Y (dh g r G) j (j+1) x W5:=by have:=(Ja.out.1.below (dF B nq)).count hi;rw[<-h6.out]at this;rw[xP];exact this
   have I:aL W5 pb 56 [uZ w,.slice f m s]:=by rw[xP];have h1:aL (B.drewN nq) pb 56 [uZ w,.slice f m s]:=Ja.out.2.1;exact h1.of_heap (qmd _ _ _ _ (by show pb≠a.cb;omega))
   have x2:T9 wr.heap.size W5 f F:=by rw[xP];exact(Ja.out.2.2.1.below (dF B nq)).set _ _ xf
   rw[<-xP];have H5:=aF (dw hf (dw I x2));clear xP hf I x2 Ja q4 q5 q9 qc qf d4 b0 b1 g1 g2;go_loopw [10] (fun h4 h5=>∃k:Nat,k<=m/\h4=(iZ k)/\Hid (Ll eZ w0 a n E i Y (dh g r G) j (j+1) x h5/\aL h5 pb 56 [uZ w,.slice f m s]/\T9 wr.heap.size h5 f F)) (fun h4 _=>m-(eB h4).toNat);case atStart=>exact⟨0,qm2 _,rfl,H5⟩
   case round=>
    obtain⟨k,hk,rfl,h9⟩:=hrel;clear H5;obtain⟨l,B2,p⟩:=h9.out;have b1:=B2.cell 1;simp only[qml,qma]at b1;by_cases y0:k<m
    ·have y6:(k:Int)<(m:Int):=aj;have x3:k<F.length:=bR HM.out;obtain⟨b,xo,ra,rn,rc,rfl,xx,Q⟩:=p k x3;have z:=Q 0 aj;have xe:=Q 7 aj;simp only[qml,qma,qnl]at z xe;clear Q;obtain⟨z4,_⟩:=l.cells hi;have V:=h7.out (F.getD k iL) (by rw[qly,qm3 x3];exact qmz _);generalize (F.getD k iL).aD=kd at *
     generalize (F.getD k iL).aH=dl at *
     have HS:=aF (fun q=>(dw (l.below (dF wr q)) (dw (show aL (wr.drewN q) pb 56 [uZ w,.slice (some (ay b xo)) m s]from B2) (p.below (dF wr q)))));clear l B2 p;go_wp2;by_cases g1:kd=7
     ·subst g1;have xz:¬((dl:Int)<(n.now:Int)):=bR (V rfl);clear V;go_quiet (fail);go_wp2;go_roundw;case rel=>exact⟨k+1,aj,aM,HS.out nq⟩
      case measure=>simp[eB];omega
     ·clear V;go_quiet (fail);go_wp2;go_roundw;case rel=>exact⟨k+1,aj,aM,HS.out nq⟩
      case measure=>simp[eB];omega
    ·obtain rfl:k=m:=aj;go_wp2;have h3:=l.st;rw[<-HN.out]at h3;obtain⟨C,eD⟩:=x9.out;have u:(Y.map fun y=>sV (bP y.1 y.2))[j]?=some (.string D):=by rw[qn8,qm3 t,eD,C,qly,qm3 t];rfl
     obtain⟨g2,c2,e2,d1,xj,xm⟩:=OM h3 j X _ u;simp only[qn4,qng,qnw]at e2;obtain⟨⟨rfl,_,_⟩,_,rfl⟩:=e2;have xd:a.N≠g:=by obtain⟨vb,xl⟩:=l.nt;intro e;have:=xl.ou.2;rw[e,xm]at this;exact absurd this gP
     have hr:Ll eZ w0 a n E i Y (dh g r G) j (j+1) x wr.drew:=l.below ⟨rfl,rfl,rfl,qj _,fun _ _=>rfl⟩;obtain⟨a0,n0,c0,a2,n2,c2,w6,jl,d8,run,⟨v6,d6⟩,f6,P⟩:=hr.push t HB.out;have eV:sV (bP (Y.getD j (0,[])).1 (Y.getD j (0,[])).2)=.string D:=by rw[eD,C];rfl
     rw[eV]at run;obtain⟨i1,hw⟩:=bT (1-i);have hx:(1:Int)-(i:Int)=(i1:Int):=aj;rw[<-hw]at run;have y4:IntKind.i64.wrap (1-(i:Int))=(i1:Int):=by rw[hx];rw[qnf];omega
     have p8:wr.cell? (ay a.N 8)=some (.slice a0 n0 c0):=d8;have x7:∀ty,(Builtin.append_ #[46,46] ty #[.slice a0 n0 c0,dh wr.heap.size 1 1]).run prog ((wr.alloc (.cells #[iZ i1,.string D] 62)).drew)=.ok (.slice a2 n2 c2) w6:=run;have M:(w6.setCell (ay a.N 8) (.slice a2 n2 c2)).cell? (ay g j)=some (.string D):=by have x8:=P.st;rw[<-HN.out]at x8;obtain⟨g3,c3,e3,d3,_⟩:=OM x8 j X _ u;simp only[qn4,qng,qnw]at e3;obtain⟨⟨rfl,_,_⟩,_,rfl⟩:=e3;exact d3
     have ha:w6.cell? (ay g j)=some (.string D):=by rw[<-M];exact(World.cell?_setCell_far _ _ _ _ xd).symm
     have h8:=aF P;have L:((wr.alloc (.cells #[iZ i1,.string D] 62)).drew).cell? (ay g j)=some (.string D):=(qns _ _ _ xj).trans d1;have y5:(wr.alloc (.cells #[iZ i1,.string D] 62)).cell? (ay a.N 8)=some (.slice a0 n0 c0):=(qns _ _ _ (qmf wr (ay a.N 8) (by rw[p8]))).trans p8;clear P hr run eV C eD hw hx u h3 d8 l B2 p b1 h9;refine wp_region_held_drew (S:=fun y=>y.cell? (ay g j)=some (.string D)) bO (by simpa using d1) (fun c=>?_);refine lZ 0 rfl ?_;refine lZ 1 rfl ?_;refine lZ 2 rfl ?_;refine lZ 3 rfl ?_;refine lZ 5 rfl ?_;refine lZ 6 rfl ?_;refine lZ 7 rfl ?_;refine lZ 8 rfl ?_;refine lZ 9 rfl ?_;refine lZ 10 rfl ?_;refine lZ 11 rfl ?_;simp only[Act.put,qnp];refine wpAnyH_ready (rs:=[4,12]) bO aM ?_;refine AllReadyH.cons (o:=_) rfl (fun K d=>?_) (AllReadyH.cons (o:=_) rfl (fun K d=>?_) AllReadyH.nil)
     ·go_simp;refine d.out _ _ (by simpa using d1) (fun c=>?_);clear d K;refine Gb 12 rfl fun K d=>?_;go_simp;refine d.out _ _ L (fun c=>?_);clear d K;refine Gb 13 rfl fun K d=>?_;refine gD _ (by rfl) _ _ _ _ (by rfl) _ _ (by rfl) (by rfl) _ _ (x7 _) ?_;refine d.out _ _ ha (fun c=>?_);clear d K;refine lZ 14 rfl ?_;refine lZ 15 rfl ?_;simp only[Act.put,qnp];refine Gb 16 rfl fun K d=>?_;go_simp;refine d.out _ _ M (fun c=>?_);clear d K;refine Vm bO ?_ _;go_wp2;go_roundw;case rel=>exact⟨j+1,aj,aM,jl,h8.out⟩
      case measure=>simp[eB];omega
     ·go_simp;refine d.out _ _ L (fun c=>?_);clear d K;refine Gb 4 rfl fun K d=>?_;go_simp;refine d.out _ _ L (fun c=>?_);clear d K;refine Gb 13 rfl fun K d=>?_;refine gD _ (by rfl) _ _ _ _ (by rfl) _ _ (by rfl) (by rfl) _ _ (x7 _) ?_;refine d.out _ _ ha (fun c=>?_);clear d K;refine lZ 14 rfl ?_;refine lZ 15 rfl ?_;simp only[Act.put,qnp];refine Gb 16 rfl fun K d=>?_;go_simp;refine d.out _ _ M (fun c=>?_);clear d K;refine Vm bO ?_ _;go_wp2;go_roundw;case rel=>exact⟨j+1,aj,aM,jl,h8.out⟩
      case measure=>simp[eB];omega
  ·obtain rfl:j=r:=aj;have HE:=aF (HF.out);go_wp2;go_ret;obtain⟨x,O⟩:=HR.out;have hn:=HN.out;exact⟨rfl,HE.out x _ (by rw[<-hn];exact O)⟩
def qbl(n:Net)(i:Nat)(Y:List (Nat×List Fr)):nj n i Y 0 0=n:=by
 have e:(fun t=>if t=i then n.kS i+0 else n.kS t)=n.kS:=funext fun t=>by
  split;·rename_i h;rw[h];rfl
  ·rfl
 unfold nj;rw[e,qop,List.map_nil,qmv]
def Ub{a:Ad}{n:Net}{A:WA}(h:dQ oZ w a n A (ends n))(i:Nat)(p:i<2)(v:gM (n.x i))(u:eH (n.x i) (n.x (1-i)))(g:eH (n.x (1-i)) (n.x i))(t:Bd (n.x i))(J:(n.x i).bF=a.bF)(m:n.kS i=(n.x i).next)(z:qM n 0)(q:a.bF<=400)(Q:n.dI.length<=10000000000)(I:∀M b,(n.x i).kQ M b->∀x∈b,∀f∈x.2,f.aD=7->n.now<=f.aH):qH 23 #[aJ a.N 0,iZ i] w (.bool true) fun s=>∃M b,(n.x i).kQ M b/\PkW (n.x i) M b/\nk oZ w a (n.vT i M b) s:=by
 obtain⟨B,_⟩:=h.cells;have G:=(z.1 i p).1;refine qbk oZ w a (ends n) i p q (fun s=>∃M b,(n.x i).kQ M b/\PkW (n.x i) M b/\nk oZ w a (n.vT i M b) s) B (h.xs i p).1 ?_;refine(OI h i p v u g t z).mono ?_;rintro e R ⟨x,rfl,C,M,b,c,F,y,E⟩;obtain⟨N,O,rfl⟩:=gX y;have o:=DK v u g t aj c;have d:(zq b).length=b.length:=by unfold zq;rw[qmc]
 have L:b.length<=24:=hwZ o.next o.top;have l:(n.dA i M).kS i=(n.x i).next:=m
 have P:dH=4611686018427387903:=rfl;refine⟨N,_,O,rfl,n.dA i M,zq b,C,d.symm,?_,?_,?_,⟨⟨A,?_⟩,?_,?_⟩,?_⟩;·show n.dI.length+_<=_;omega
 ·rw[l];omega
 ·intro j H;rw[l];exact qfb o J (I M b c) j H
 ·rw[qbl];exact F
 ·rw[Ua o,d];exact y
 ·exact E.mono fun x K=>jZ.2 (by rcases Ea.1 K with h|h<;>omega)
 ·intro D S hF;obtain⟨r,g⟩:=hF.nt;rw[qfc i m o]at g;exact⟨M,b,c,o,D,r,g.vS fun j k _ _=>nu (KN c) j k,hF.kp⟩
def Ee{a:Ad}{n:Net}{r:WA}(h:dQ oZ w a n r (ends n))(c:gI a.bF n)(j:qM n 0)(i:Nat)(b:i<2)(g:a.bF<=400)(p:n.dI.length<=10000000000)(m:∀M d,(n.x i).kQ M d->∀x∈d,∀f∈x.2,f.aD=7->n.now<=f.aH):qH 23 #[aJ a.N 0,iZ i] w (.bool true) fun k=>∃M d,(n.x i).kQ M d/\PkO (n.x i) (n.x (1-i)) M d/\nk oZ w a (n.vT i M d) k:=by have l:=(j.1 i b).1;have o:=fun{M d} (e:(n.x i).kQ M d)=>W_ (c.loc i b) (c.two i b) (c.uS i b) (c.bd i b) aj e;refine bH (Ub h i b (c.loc i b) (c.two i b) (c.uS i b) (c.bd i b) (c.mt i b) (c.ct i b) j g p m) ?_;rintro k ⟨M,d,e,_,q⟩;exact⟨rfl,M,d,e,o e,q⟩
def Yd{now:Nat}{a:List (Nat×ByteArray)}{m:Nat×ByteArray}(c:a[k]?=some m)(h:(ig now (a.drop k) L).2=true):(jr now m L false).2=true/\ig now (a.drop (k+1)) (jr now m L false).1=ig now (a.drop k) L:=by
 have d:k<a.length:=(qo8.1 c).1;have e:a.drop k=m::a.drop (k+1):=by rw[qnq d];rw[qm3 d]at c;rw[qmn c]
 rw[e]at h ⊢;unfold ig at h ⊢;by_cases b:(jr now m L false).2=true;·rw[bM b];refine⟨b,?_⟩;cases a.drop (k+1)<;>rfl
 ·rw[aV b]at h;exact absurd h Bool.false_ne_true
def qfe(eZ:Own)(w0:Wq)(a:Ad)(n:Net)(z:WA)(E:Nat->Nat->bJ)(i:Nat)(hi:i<2)(d:List (Nat×ByteArray))(v:List Gm)(h3:d.length<=1000000)(h2:v.length<=1000000000)(w:Wq)(qL:Wq->Prop)(c0:w.cell? (ay a.N 0)=some (dh a.xb 2 a.xc))(c1:w.cell? (ay a.xb i)=some (aJ (a.C i) 0))(HC:Calls prog 57 #[(aJ (a.C i) 0)] w fun e R=>∃X f y,e=.returned (.slice X f y)/\Hid (f=d.length/\Jj eZ w0 a n z E i (.slice X f y) d v R))(hA:(ig n.now d v).2=true)(hP:∀x R,Jj eZ w0 a n z E i x d (ig n.now d v).1 R->qL R):qH 30 #[aJ a.N 0,iZ i] w (.bool true) fun w'=>qL w':=by
 have wm:=aF HC;have HP:=aF hP;have HA:=aF hA;clear HC hP hA;have hr:(i:Int)<2:=aj;go_enter func30,ntmps30;go_wp2_with (go_at_call 57;refine wm.out.mono ?_;rintro e R ⟨X,f,y,rfl,H1⟩);clear wm c0 c1;obtain⟨hn,hI⟩:=H1.out;clear H1;obtain⟨_,_,_,ga,gc,G⟩:=hI.grs hi;obtain⟨K,I⟩:=bT v.length;rw[<-I]at G h2;have M:=aF G;have HI:=aF hI;have HN:=aF hn;have h0:=aF I;have hx:f<=1000000:=aj;clear hn hI G I h3;go_loopw [6] (fun s6 wr=>∃(k:Nat) (L:List Gm),k<=f/\s6=(iZ k)/\Hid (ig n.now (d.drop k) L=ig n.now d v/\L.length=K/\Jj eZ w0 a n z E i (.slice X f y) d L wr)) (fun s6 _=>f-(eB s6).toNat);case atStart=>exact⟨0,v,qm2 _,rfl,rfl,h0.out.symm,HI.out⟩
 case round=>
  obtain⟨k,L,hk,rfl,S⟩:=hrel;by_cases hv:k<f
  ·have h9:(k:Int)<(f:Int):=aj;obtain⟨hA1,U,D⟩:=S.out;have H:k<d.length:=bR HN.out;obtain⟨m,V⟩:∃m,d[k]?=some m:=⟨_,qm3 H⟩;obtain⟨P,mc,s,_,_⟩:=D.msg k m V;simp only[qn4]at s;obtain⟨rfl,J,rfl⟩:=s;clear J;obtain⟨hf,hA2⟩:=Yd V (by rw[hA1];exact HA.out);have HX:=aF (dw V (dw hf (hA2.trans hA1)));have A:=aF (dw U D);clear V hf hA2 hA1 U D S HI;go_wp2;go_loopw [7,8] (fun s7 s8 h8=>∃j:Nat,j<=K/\s8=(iZ j)/\Hid (∃(b:Bool) (r:List Gm),s7=.bool b/\Uc n.now m L r j b/\r.length=K/\Jj eZ w0 a n z E i (dh P f y) d r h8)) (fun _ s8 _=>K-(eB s8).toNat);case atStart=>exact⟨0,qm2 _,rfl,false,L,rfl,Uc.start _ _ _,A.out.1,A.out.2⟩
   case round=>
    obtain⟨j,hj,rfl,C⟩:=hrel;obtain⟨b,r,rfl,T,t,o⟩:=C.out;obtain⟨p2,p4,pg,_⟩:=o.grs hi;rw[M.out]at pg;clear A;by_cases hu:j<K
    ·have x1:(j:Int)<(K:Int):=aj;obtain⟨ha,hc,p,e1,q1,W,q3,q4,q5,q6,q7⟩:=o.at hi j aj;rw[M.out]at e1;simp only[qn4]at e1;obtain⟨rfl,J,rfl⟩:=e1;clear J;obtain⟨hy,x0,s,m1,m2⟩:=o.msg k m HX.out.1;simp only[qn4,qng,qnw]at s;obtain⟨⟨rfl,h4,h5⟩,h6,rfl⟩:=s;clear h4 h5 h6;have HQ:=aF q7;have Y:=aF o;have HG:=aF T;have l:=aF t;clear q7 o T t C;obtain⟨g,hg⟩:=bT (r.getD j vN);rw[<-hg]at W q3 q4 q5 HQ;have B:=aF hg;clear hg;by_cases Q:g.id=m.1
     ·have ho:((g.id:Int)=(m.1:Int)):=aj;have TU:Hid (∀q W,Jj eZ w0 a n z E i (dh P f y) d (r.set j {g with aP:=true}) (((wr.drewN q).drewN W).setCell (ay p 3) (.bool true))):=fun q W=>HQ.out _ ⟨rfl,rfl,rfl,qj _,fun _ _=>rfl⟩;have c:=aF (HG.out.hit (bR l.out) (by rw[<-B.out];exact Q));rw[<-B.out]at c;go_wp2;go_quiet (fail);go_wp2;have u:Hid (∀q,Jj eZ w0 a n z E i (dh P f y) d (r.set j {g with aP:=true}) ((wr.drewN q).setCell (ay p 3) (.bool true))):=fun q=>HQ.out _ (dF wr q);by_cases F:g.data=m.2
      ·rw[decide_eq_true F]at c;cases N:g.aP with
       |true=>
        rw[N]at c q5;go_quiet (fail);go_wp2;go_roundw;case rel=>exact⟨j+1,aj,aM,false,_,rfl,c.out,by rw[qn3];exact l.out,u.out _⟩
        case measure=>simp[eB];omega
       |false=>
        rw[N]at c q5;by_cases O:n.now<=g.dl
        ·have h7:(n.now:Int)<=(g.dl:Int):=aj;rw[decide_eq_true O]at c;go_quiet (fail);go_wp2;go_roundw;case rel=>exact⟨j+1,aj,aM,true,_,rfl,c.out,by rw[qn3];exact l.out,u.out _⟩
         case measure=>simp[eB];omega
        ·have h7:¬((n.now:Int)<=(g.dl:Int)):=aj;rw[decide_eq_false O]at c;go_quiet (fail);go_wp2;go_roundw;case rel=>exact⟨j+1,aj,aM,false,_,rfl,c.out,by rw[qn3];exact l.out,u.out _⟩
         case measure=>simp[eB];omega
      ·rw[decide_eq_false F]at c;have he:(g.data.toList==m.2.toList)=false:=by
        rw[beq_eq_false_iff_ne,qqr,qqr];exact fun e=>F (mE (qox e))
       go_quiet (fail);go_wp2;go_roundw;case rel=>exact⟨j+1,aj,aM,false,_,rfl,c.out,by rw[qn3];exact l.out,u.out _⟩
       case measure=>simp[eB];omega
     ·have hw:¬((g.id:Int)=(m.1:Int)):=aj;have GD:Hid (∀q,Jj eZ w0 a n z E i (dh P f y) d r (wr.drewN q)):=fun q=>Y.out.below (dF wr q);go_wp2;go_quiet (fail);go_wp2;go_roundw;case rel=>exact⟨j+1,aj,aM,b,r,rfl,HG.out.skip (bR l.out) (by rw[<-B.out];exact Q),l.out,GD.out nq⟩
      case measure=>simp[eB];omega
    ·obtain rfl:j=K:=aj;have hd:=Uc.done (by rw[t];exact T);have hb:b=true:=by have:=HX.out.2.1;rw[hd]at this;exact this
     subst hb;have Z:Hid (ig n.now (d.drop (k+1)) r=ig n.now d v/\r.length=j/\Jj eZ w0 a n z E i (dh P f y) d r wr):=by have:=HX.out.2.2;rw[hd]at this;exact⟨this,t,o⟩
     clear hd T t o C;go_wp2;go_roundw;case rel=>exact⟨k+1,r,aj,aM,Z⟩
     case measure=>simp[eB];omega
  ·obtain rfl:k=f:=aj;obtain⟨hA1,U,D⟩:=S.out;have H:d.drop k=[]:=by rw[HN.out,qqj]
   rw[H]at hA1;have e2:(ig n.now d v).1=L:=by rw[<-hA1];rfl
   rw[<-e2]at D;have Z:=aF (HP.out _ _ D);clear hA1 U D S;go_wp2;go_ret;exact⟨rfl,Z.out⟩
def Gq(n:Net)(i:Nat):n.sj i (n.gr i)=n:=by
 unfold Net.sj;have:(fun j=>if j=i then n.gr i else n.gr j)=n.gr:=funext fun j=>by split<;>simp_all
 rw[this]
def Qy{a:Ad}{n:Net}{g:WA}(h:dQ oZ w a n g E)(i:Nat)(d:i<2)(f:(n.x i).eP.length<=1000000)(c:(n.gr (1-i)).length<=1000000000)(q:(ig n.now (n.x i).eP (n.gr (1-i))).2=true):qH 30 #[aJ a.N 0,iZ i] w (.bool true) fun k=>∃b,dQ b k a ((n.dA i (n.x i).emp).sj (1-i) (ig n.now (n.x i).eP (n.gr (1-i))).1) g E/\Kp [60*(i+1),207,208] oZ b w k:=by
 obtain⟨l,_⟩:=h.cells;refine qfe oZ w a (n.dA i (n.x i).emp) g E i d (n.x i).eP (n.gr (1-i)) f c w _ l (h.xs i d).1 ((X9 h i d).mono ?_) q ?_;·rintro e v ⟨x,rfl,j,o,p⟩;obtain⟨t,u,rfl,_⟩:=j.shape;refine⟨t,_,u,rfl,rfl,oZ,?_,j,p.mono aM⟩;have m:(n.dA i (n.x i).emp).sj (1-i) (n.gr (1-i))=n.dA i (n.x i).emp:=Gq (n.dA i (n.x i).emp) (1-i);rw[m];exact o
 ·rintro x v ⟨b,r,_,s⟩;exact⟨b,r,s⟩
section
def nk.j_{oZ:Own}{w w':Wq}{a:Ad}{n:Net}(h:nk (loc oZ w.heap.size) w a n w'):nk oZ w a n w':=by obtain⟨o,d,b,c⟩:=h;exact⟨o,d,b,c.j_⟩
def dQ.loc{oZ:Own}{w:Wq}{a:Ad}{n:Net}{c:WA}{E:Nat->Nat->bJ}(h:dQ oZ w a n c E):dQ (Sd.loc oZ w.heap.size) w a n c E:=
 h.kp (T:=[]) ⟨rfl,rfl,rfl,qj _,fun _ _ _=>rfl,fun b d=>jo oZ _ b d⟩ aM
structure oV (eZ:Own) (w0:Wq) (a:Ad) (L:List (Nat×TypeId×bJ)) (n:Net) (w:Wq):Prop where
 ex:∃o vb,dQ o w a n vb (ends n)/\Kp TN eZ o w0 w/\(∀x∈L,aL w x.1 x.2.1 x.2.2/\o x.1=0)/\(∀b,w.heap.size<=b->o b=0)
section
variable {eZ:Own} {w0 w w':Wq} {a:Ad} {L:List (Nat×TypeId×bJ)} {n:Net}
def oV.ntf(h:oV eZ w0 a L n w):nk eZ w0 a n w:=by obtain⟨o,d,b,c,_⟩:=h.ex;exact⟨o,d,b,c⟩
def qdf:0∉TN:=fun e=>bR (jZ.1 e)
def oV.go{n':Net}{o o':Own}{e:WA}(h:Kp TN eZ o w0 w)(i:∀x∈L,aL w x.1 x.2.1 x.2.2/\o x.1=0)(g:dQ o' w' a n' e (ends n'))(c:Kp TN o o' w w'):oV eZ w0 a L n' w':=by have K:Kp [] o' (Sd.loc o' w'.heap.size) w' w':=⟨rfl,rfl,rfl,qj _,fun _ _ _=>rfl,fun b d=>jo o' _ b d⟩;refine⟨_,e,g.loc,h.trans (c.trans (K.mono aM)),fun x j=>?_,fun b d=>iY _ _ _ d⟩;obtain⟨p,q⟩:=i x j;have f:=bU p c (by rw[q];exact qdf);exact⟨f,by rw[jo _ _ _ f.lt,c.ext _ p.lt];exact q⟩
def oV.below(h:oV eZ w0 a L n w)(b:bE w w'):oV eZ w0 a L n w':=by obtain⟨o,f,c,d,e,_⟩:=h.ex;exact oV.go d e (c.below b) (Kp.below b)
def oV.alloc(h:oV eZ w0 a L n w)(t:TypeId)(l:bJ):oV eZ w0 a ((w.heap.size,t,l)::L) n (w.alloc (.cells l.toArray t)):=by
 obtain⟨o,k,i,j,f,g⟩:=h.ex;have c:bE w (w.alloc (.cells l.toArray t)):=(qlw _ w).alloc (qj _) _;have K:Kp [] o o w (w.alloc (.cells l.toArray t)):=Kp.below c;refine⟨o,k,i.below c,j.trans (Kp.below c),fun x d=>?_,fun b e=>g b (qlz c.size e)⟩;rcases qme.1 d with rfl|d;·exact⟨aL.new w t l,g _ (qj _)⟩
 ·exact⟨bU (f x d).1 K aM,(f x d).2⟩
def Ac{c:WA}(h:dQ oZ w a n c (ends n)):oV (Sd.loc oZ w.heap.size) w a [] n w:=
 ⟨_,c,h.loc,Kp.refl _ _ _,fun x e=>(by cases e),fun b d=>iY _ _ _ d⟩
def oV.cell(h:oV eZ w0 a L n w){b:Nat}{t:TypeId}{l:bJ}(d:(b,t,l)∈L)(j:Nat):w.cell? (ay b j)=l[j]?:=by obtain⟨o,i,e,f,c,g⟩:=h.ex;exact(c _ d).1.cell j
def oV.xc(h:oV eZ w0 a L n w)(i:Nat)(c:i<2):w.cell? (ay a.N 0)=some (dh a.xb 2 a.xc)/\w.cell? (ay a.xb i)=some (aJ (a.C i) 0):=by obtain⟨o,g,b,d,e,f⟩:=h.ex;exact⟨b.cells.1,(b.xs i c).1⟩
def oV.qk2(h:oV eZ w0 a L n w):∃d f,w.cell? (ay a.N 8)=some (.slice d n.dI.length f)/\∀k,k<n.dI.length->∃g,d=some (ay g 0)/\w.cell? (ay g (k*2))=some (iZ ((n.dI.getD k (0,0,[])).1:Int))/\w.cell? (ay g (k*2+1))=some (sV (bP (n.dI.getD k (0,0,[])).2.1 (n.dI.getD k (0,0,[])).2.2)):=by
 obtain⟨o,x,i,s,t,u⟩:=h.ex;obtain⟨_,_,_,_,_,q,_⟩:=i.cells;obtain⟨d,f,rfl⟩:=gX i.bg;refine⟨d,f,q,fun k m=>?_⟩;rcases i.bg with⟨_,e,_⟩|⟨g,cap,cs,ev,ho,hB,hc1,hc2,hc3,hc4,BN,_⟩;·omega
 simp only[qn4]at ev;have l:(jG n.dI).drop (k*2)=jG (n.dI.drop k):=(vO n.dI k).symm;have c:n.dI.drop k=n.dI.getD k (0,0,[])::n.dI.drop (k+1):=by rw[qnq m,qly,qm3 m];rfl
 have b:∀j v,j<n.dI.length*2->(jG n.dI)[j]?=some v->w.cell? (ay g j)=some v:=fun j v r p=>by rw[hB.cell];rw[<-BN,qm6,bM r]at p;exact p
 refine⟨g,ev.1,b _ _ aj ?_,b _ _ aj ?_⟩
 ·have:((jG n.dI).drop (k*2))[0]?=(jG n.dI)[k*2]?:=by rw[qmu];rfl
  rw[<-this,l,c];rfl
 ·have:((jG n.dI).drop (k*2))[1]?=(jG n.dI)[k*2+1]?:=by rw[qmu]
  rw[<-this,l,c];rfl
def sD(i:Nat)(c:i<2):∀x∈T0 (60*(i+1)),x∈TN:=fun x b=>jZ.2 (bR (fC.1 b))
def Qz(h:oV eZ w0 a L n w)(k:Nat)(g:k<n.dI.length)(i:n.dI.length<=1000000000):qH 67 #[aJ a.N 0,iZ k] w (.tuple #[]) fun w'=>oV eZ w0 a L {n with dI:=n.dI.eraseIdx k} w':=by obtain⟨o,p,d,e,f,_⟩:=h.ex;refine bH (qbj (T:=[]) d k g i) ?_;rintro w' ⟨l,m,b,c⟩;exact⟨rfl,oV.go e f (n':={n with dI:=n.dI.eraseIdx k}) b (c.mono fun x j=>jZ.2 (by simp at j;omega))⟩
def qbm(h:oV eZ w0 a L n w)(t:gI a.bF n)(r:qM n 0)(d:a.bF<=400)(i:Nat)(e:i<2)(y:Nat×List Fr)(u:Mw a.bF (n.x (1-i)) (n.x i) y)(c:(n.x i).eP=[]):qH 29 #[(aJ (a.C i) 0),sV (bP y.1 y.2)] w (.tuple #[iZ 0,(iZ (-1))]) fun w'=>∃b,(n.x i).ji y.1 y.2 b 0/\oV eZ w0 a L (n.dA i b) w':=by obtain⟨o,x,m,p,q,_⟩:=h.ex;refine bH (Qw m t r i e y u d c) ?_;rintro w' ⟨b,f,v,g,l⟩;have s:=DL f;exact⟨rfl,b,f,oV.go p q (g.vS fun j k _ _=>nu s j k) (l.mono (sD i e))⟩
def qff(h:oV eZ w0 a L n w)(m:gI a.bF n)(i:Nat)(b:i<2)(l:List UInt8)(k:l.length<=1000000)(j:qZ false 0 [] l):qH 29 #[(aJ (a.C i) 0),sV l] w (.tuple #[iZ 7,(iZ (-1))]) fun w'=>oV eZ w0 a L n w':=by obtain⟨o,q,e,f,g,_⟩:=h.ex;refine bH (Ld e m i b l k j) ?_;rintro w' ⟨p,c,d⟩;exact⟨rfl,oV.go f g c (d.mono (sD i b))⟩
def OO(M:av):Sm M M.emp:=⟨fun _=>z_ _,fun _=>⟨rfl,rfl⟩⟩
def Net.iD(n:Net)(i:Nat):Net:=(n.dA i (n.x i).emp).sj (1-i) (ig n.now (n.x i).eP (n.gr (1-i))).1
def QA(h:oV eZ w0 a L n w)(i:Nat)(p:i<2)(c:(n.x i).eP.length<=1000000)(b:(n.gr (1-i)).length<=1000000000)(m:(ig n.now (n.x i).eP (n.gr (1-i))).2=true):qH 30 #[aJ a.N 0,iZ i] w (.bool true) fun w'=>oV eZ w0 a L (n.iD i) w':=by obtain⟨o,s,f,g,l,_⟩:=h.ex;refine bH (Qy f i p c b m) ?_;rintro w' ⟨r,d,e⟩;exact⟨rfl,oV.go (n':=n.iD i) g l (d.vS fun j k _ _=>nu (OO (n.x i)) j k) (e.mono fun x q=>jZ.2 (by simp at q;omega))⟩
structure EU (bF:Nat) (n n':Net):Prop where
 p:gI bF n'
 nx:∀i,i<2->(n'.x i).next=(n.x i).next/\(n'.x i).aW=(n.x i).aW
 now:n'.now=n.now
 bl:n'.dI.length<=n.dI.length
def uU{b:Nat}(h:gI b n):EU b n n:=⟨h,fun _ _=>⟨rfl,rfl⟩,rfl,qj _⟩
def Lr{b:Nat}(h:gI b n)(k:Nat):EU b n {n with dI:=n.dI.eraseIdx k}:=
 ⟨h.sub (n.dI.eraseIdx k) (fun _ c=>qqp c) n.now,fun _ _=>⟨rfl,rfl⟩,rfl,by show(n.dI.eraseIdx k).length<=_;rw[List.length_eraseIdx];split<;>omega⟩
def Ye{g:Nat}{c:Net}(h:EU g n c)(p:qM c 0)(i:Nat)(d:i<2)(y:Nat×List Fr)(m:Mw g (c.x (1-i)) (c.x i) y){f:av}{e:Nat}(l:(c.x i).ji y.1 y.2 f e):EU g n (c.dA i f):=by
 have q:=(p.1 (1-i) aj).1;obtain⟨_,s,b,o,r⟩:=WW (h.p.loc i d) (h.p.loc (1-i) aj) (h.p.two i d) (h.p.uS i d) (h.p.bd i d) (h.p.bd (1-i) aj) y.1 y.2 m.lt aj m.fr l;refine⟨jF h.p i d f s b r o,fun j k=>?_,h.now,h.bl⟩;by_cases e:j=i;·rw[e,fV,o,Xi l];rw[e]at k;exact h.nx i k
 ·rw[iH _ _ _ _ e];exact h.nx j k
def EU.nb{d:Nat}{n':Net}(h:EU d n n')(c:qM n B):qM n' B:=
 ⟨fun i b=>by rw[(h.nx i b).1,(h.nx i b).2];exact c.1 i b,by rw[h.now];exact c.2⟩
end
def qbn(x b:UInt8)(e:b≠0):x≠x ^^^ b:=fun h=>by have c:=congrArg UInt8.toNat h;rw[UInt8.toNat_xor]at c;have d:=Crc.BQ (show x.toNat ^^^ 0=x.toNat ^^^ b.toNat by rw[Nat.xor_zero];exact c);exact e (UInt8.toNat_inj.1 d.symm)
def spD(D:ByteArray)(q:Nat)(x:UInt8):ByteArray:=D.extract 0 q++⟨#[x]⟩++D.extract (q+1) D.size
def Yf(l:List UInt8)(q:Nat)(b:q<l.length)(x:UInt8):spD ⟨l.toArray⟩ q x=⟨(l.set q x).toArray⟩:=by
 unfold spD;ext1
 rw[eT,eT,qq8,qq8];apply Array.toList_inj.1;have c:(⟨l.toArray⟩:ByteArray).size=l.length:=(lu l).2;rw[c,List.set_eq_take_append_cons_drop,bM b];simp;exact qmo (by rw[qms];omega)
def Ud(n:Nat)(c:List Fr)(D:ByteArray)(g:D=⟨(bP n c).toArray⟩)(q:Nat)(i:q<D.size)(b:UInt8)(h:b≠0):∃l,.string (spD D q (D[q] ^^^ b))=sV l/\l.length=D.size/\qZ false 0 [] l:=by
 subst g;have f:(⟨(bP n c).toArray⟩:ByteArray).size=(bP n c).length:=(lu _).2;have d:q<(bP n c).length:=by rw[<-f];exact i
 refine⟨(bP n c).set q ((bP n c)[q] ^^^ b),?_,by rw[qn3,f],N8 n c q _ d (qbn _ _ h)⟩;have e:(⟨(bP n c).toArray⟩:ByteArray)[q]=(bP n c)[q]:=rfl;rw[e,Yf _ q d];rfl
def OP(w:Wq)(x b:UInt8)(X:Int)(c:X=(b.toNat:Int)):(convert 60 9 (dh w.heap.size 1 1)).run prog ((w.alloc (.cells #[.int .u8 (bits .xor .u8 (x.toNat:Int) X)] 5)).drew)=.ok (.string ⟨#[x ^^^ b]⟩) ((w.alloc (.cells #[.int .u8 (bits .xor .u8 (x.toNat:Int) X)] 5)).drew):=by
 have e:bits .xor .u8 (x.toNat:Int) X=((x ^^^ b).toNat:Int):=by rw[c,u8_xor_nat _ _ x.toNat_lt b.toNat_lt,UInt8.toNat_xor]
 rw[e];have:=run_convert_bytes_back (P:=prog) ((w.alloc (.cells #[.int .u8 ((x ^^^ b).toNat:Int)] 5)).drew) 60 9 5 (ay w.heap.size 0) 1 [x ^^^ b] u29 bO u9 (fun j d=>by
  obtain rfl:j=0:=by simpa using d
  have:=(aL.new w 5 [.int .u8 ((x ^^^ b).toNat:Int)]).cell 0;exact this)
 exact this
end
def QC(L:List Gm):List (Nat×Nat×ByteArray):=L.map fun g=>(g.id,g.dl,g.data)
def qbo{g:Gm}(h:g∈L):(g.id,g.dl,g.data)∈QC L:=qmk.2 ⟨g,h,rfl⟩
def Mx(L:List Gm)(f:Fr):Prop:=(f.id,f.aH,f.data)∈QC L
def Inc(L:List Gm):Prop:=(QC L).Pairwise fun a b=>a.1<b.1
def Yg{g:Gm}{t:List Gm}(h:Inc (g::t)):(∀x∈t,g.id<x.id)/\Inc t:=by obtain⟨a,b⟩:=qpu.1 (show List.Pairwise _ ((g.id,g.dl,g.data)::QC t)from h);exact⟨fun x c=>a _ (qbo c),b⟩
def Ef(now:Nat)(m:Nat×ByteArray):∀(L:List Gm) (b:Bool),QC (jr now m L b).1=QC L
 |[],_=>rfl
 |g::t,b=>by
  unfold jr;split;·exact congrArg (List.cons _) (Ef now m t _)
  ·exact congrArg (List.cons _) (Ef now m t _)
def Ae(now:Nat)(m:Nat×ByteArray):∀(L:List Gm) (b:Bool) (x:Gm),x∈(jr now m L b).1->x.aP=true->x.id=m.1\/x∈L
 |[],_,x,h,_=>by cases h
 |g::t,b,x,h,hc=>by
  unfold jr at h;split at h
  ·rename_i e;rcases qme.1 h with rfl|h;·exact .inl e
   ·rcases Ae now m t _ x h hc with h|h;·exact .inl h
    ·exact .inr (by simp[h])
  ·rcases qme.1 h with rfl|h;·exact .inr aM
   ·rcases Ae now m t _ x h hc with h|h;·exact .inl h
    ·exact .inr (by simp[h])
def Gs(now:Nat)(m:Nat×ByteArray):∀(L:List Gm) (b:Bool),(∀g∈L,g.id≠m.1)->(jr now m L b).2=b
 |[],_,_=>rfl
 |g::t,b,h=>by unfold jr;rw[aV (h g aM)];exact Gs now m t b fun x a=>h x (by simp[a])
def Ls(now:Nat)(m:Nat×ByteArray):∀(L:List Gm) (b:Bool) (g:Gm),Inc L->g∈L->g.id=m.1->g.data=m.2->g.aP=false->now<=g.dl->(jr now m L b).2=true
 |[],_,_,_,h,_,_,_,_=>by cases h
 |x::t,b,g,hi,h,e1,e2,e3,e4=>by
  obtain⟨a,d⟩:=Yg hi;unfold jr;rcases qme.1 h with rfl|h;·rw[bM e1,e2,e3,decide_eq_true rfl,decide_eq_true e4];exact Gs now m t _ fun y c=>bR (a y c)
  ·have:=a g h;rw[aV aj];exact Ls now m t b g d h e1 e2 e3 e4
def Eh(now:Nat)(m:Nat×ByteArray):∀(ms:List (Nat×ByteArray)) (L:List Gm),(ig now ms L).2=true->(jr now m (ig now ms L).1 false).2=true->ig now (ms++[m]) L=((jr now m (ig now ms L).1 false).1,true)
 |[],L,_,h=>by show(if(jr now m L false).2=true then(_,true)else _)=_;have b:(jr now m L false).2=true:=h;rw[bM b];rfl
 |x::t,L,h1,h2=>by
  have e:∀s,ig now (x::s) L=if(jr now x L false).2 then ig now s (jr now x L false).1 else((jr now x L false).1,false):=fun s=>by cases s<;>rfl
  rw[e]at h1 h2;rw[qom,e,e];by_cases a:(jr now x L false).2=true;·rw[bM a]at h1 h2 ⊢;rw[bM a];exact Eh now m t _ h1 h2
  ·rw[aV a]at h1;cases h1
structure Sg (A A':av):Prop where
 q:A'.aK=A.aK
 l:A'.least=A.least
 m:A'.eP=A.eP
 t:A'.taken=A.taken
 g:A'.bW=A.bW
def Sg.refl(A:av):Sg A A:=⟨rfl,rfl,rfl,rfl,rfl⟩
def Sg.trans{A B C:av}(h:Sg A B)(k:Sg B C):Sg A C:=⟨k.q.trans h.q,k.l.trans h.l,k.m.trans h.m,k.t.trans h.t,k.g.trans h.g⟩
def Yh(M:av)(f:Fr):Sg M (M.gN f):=by
 unfold av.gN;repeat' split
 all_goals exact⟨rfl,rfl,rfl,rfl,rfl⟩
def Yi(M:av)(f:Fr):Sg M (M.jq f):=by
 unfold av.jq;repeat' split
 all_goals exact⟨rfl,rfl,rfl,rfl,rfl⟩
def IU(g:av->Fr->av)(a:∀A f,Sg A (g A f)):∀(l:List Fr) (A:av),Sg A (l.foldl g A)
 |[],_=>Sg.refl _
 |f::t,A=>(a A f).trans (IU g a t (g A f))
def Yj{l:bZ}(h:A.tN l A'):Sg A A':=by obtain⟨a,b,_,_,rfl⟩:=h;exact Sg.trans (B:=A.Qc l) ⟨rfl,rfl,rfl,rfl,rfl⟩ (IU _ Yh _ _)
def Yk(h:A.lS A'):Sg A A':=by
 unfold av.lS at h;split at h;·obtain⟨a,_,rfl⟩:=h;exact Sg.trans (B:=A.wG) ⟨rfl,rfl,rfl,rfl,rfl⟩ (IU _ Yi _ _)
 ·rw[h];exact Sg.refl _
def qbp(A:av)(f:Fr)(a:f.aD≠2)(b:f.aD≠7):Sg A (A.take f).1:=by
 unfold av.take;rw[aV a];repeat' split
 all_goals first|exact⟨rfl,rfl,rfl,rfl,rfl⟩|(exfalso;omega)
structure Uf (now:Nat) (L:List Gm) (M:av):Prop where
 tk:M.aW=now
 ok:(ig now M.eP L).2=true
 co:QC (ig now M.eP L).1=QC L
 cm:∀g∈(ig now M.eP L).1,g.aP=true->g.id∈M.taken\/g.id+32<=M.bW
def Uf.sg{now:Nat}(h:Uf now L A)(s:Sg A A')(t:A'.aW=A.aW):Uf now L A':=
 ⟨t.trans h.tk,by rw[s.m];exact h.ok,by rw[s.m];exact h.co,by rw[s.m,s.t,s.g];exact h.cm⟩
def Yl{now:Nat}(h:Uf now L A)(q:Inc L)(f:Fr)(r:Mx L f):Uf now L (A.nE f):=by
 unfold av.nE;split;·exact h
 ·rename_i d;have l:¬f.aH<A.aW:=fun e=>d (.inl e);have m:f.id∉A.taken:=fun e=>d (.inr (.inl e));have n:¬f.id+32<=A.bW:=fun e=>d (.inr (.inr e));rw[h.tk]at l;have i:(f.id,f.aH,f.data)∈QC (ig now A.eP L).1:=by rw[h.co];exact r
  obtain⟨g,k,j⟩:=qmk.1 i;simp only[qob]at j;obtain⟨b,u,o⟩:=j;have p:g.aP=false:=by
   cases e:g.aP;·rfl
   ·rcases h.cm g k e with h|h;·rw[b]at h;exact absurd h m
    ·rw[b]at h;exact absurd h n
  have hit:=Ls now (f.id,f.data) (ig now A.eP L).1 false g (by unfold Inc;rw[h.co];exact q) k b o p aj;have e:=Eh now (f.id,f.data) A.eP L h.ok hit;refine⟨h.tk,by show(ig now (A.eP++[(f.id,f.data)]) L).2=true;rw[e],?_,?_⟩;·show QC (ig now (A.eP++[(f.id,f.data)]) L).1=_;rw[e,Ef];exact h.co
  ·show∀g∈(ig now (A.eP++[(f.id,f.data)]) L).1,g.aP=true->g.id∈(f.id::A.taken).filter (fun x=> !decide (x+32<=max A.bW f.id))\/g.id+32<=max A.bW f.id;rw[e];intro x s a;have key:∀y,y∈f.id::A.taken->y∈(f.id::A.taken).filter (fun x=> !decide (x+32<=max A.bW f.id))\/y+32<=max A.bW f.id:=fun y t=>by
    by_cases c:y+32<=max A.bW f.id;·exact .inr c
    ·exact .inl (qm4.2 ⟨t,by simp only[decide_eq_false c,Bool.not_false]⟩)
   rcases Ae now (f.id,f.data) _ _ x s a with h1|h1;·exact key _ (by rw[h1];simp)
   ·rcases h.cm x h1 a with h2|h2;·exact key _ (by simp[h2])
    ·exact .inr aj
def Ug{now:Nat}{e:Nat}(h:Uf now L A)(j:Inc L)(f:Fr)(k:f.aD=7->Mx L f)(a:A.fU f A' e):Uf now L A'/\A'.aK=A.aK/\A'.least=A.least:=by
 have c:=KO a;unfold av.fU at a;split at a
 ·split at a;·rw[a.1];exact⟨h,rfl,rfl⟩
  ·have s:=Yj a.1;exact⟨h.sg s c,s.q,s.l⟩
 ·rename_i i;split at a;·rename_i b;obtain⟨v,rfl,_⟩:=a;have g:=Yl h j f (k b);refine⟨⟨g.tk,g.ok,g.co,g.cm⟩,?_⟩;unfold av.nE;split<;>exact⟨rfl,rfl⟩
  ·rename_i b;have d:A'=(A.take f).1:=congrArg Prod.fst a;have s:=qbp A f i b;rw[<-d]at s;exact⟨h.sg s c,s.q,s.l⟩
def zi{now:Nat}{L:List Gm}(j:Inc L):∀(i:List Fr) {A A':av},Uf now L A->(∀f∈i,f.aD=7->Mx L f)->mH A i A' 0->Uf now L A'/\A'.aK=A.aK/\A'.least=A.least
 |[],A,A',h,_,r=>by obtain⟨rfl,_⟩:=r;exact⟨h,rfl,rfl⟩
 |f::t,A,A',h,hs,r=>by
  obtain⟨p,q,o,e⟩:=r;obtain⟨a,b,c⟩:=Ug h j f (hs f aM) o;split at e;·obtain⟨k,l,m⟩:=zi j t a (fun g n=>hs g (by simp[n])) e;exact⟨k,l.trans b,m.trans c⟩
  ·rename_i d;exact absurd e.2.symm d
def Uh{now:Nat}(g:Inc L){m:Nat}(h:Uf now L A)(i:∀f∈d,f.aD=7->Mx L f)(r:A.ji m d A' 0):Uf now L A'/\A'.aK=A.aK/\A'.least=A.least:=by
 unfold av.ji at r;split at r;·rw[r.1];exact⟨h,rfl,rfl⟩
 ·have e:Uf now L {A with aP:=A.aP.add 8 m m,bI:=A.bI||fD d}:=⟨h.tk,h.ok,h.co,h.cm⟩;obtain⟨a,b,c⟩:=zi g d e i r;exact⟨a,b,c⟩
def uq(l:List Fr):List Fr:=l.filter fun f=>decide (f.aD=7)
def IV(a b:List Fr):uq (a++b)=uq a++uq b:=qqf ..
def Lu{g:Gn}{aD:Int}{a:Nat}{b:Int}{y:Fr×Gn}(h:g.next aD k a b=some y):y.1.aD=aD:=by
 unfold Gn.next at h;split at h;·cases h
 ·rw[<-qmn h];rfl
def Ym{n:Nt}{r:Nat}{a:Int}{y:Fr×Nt}(h:n.next k r a=some y):y.1.aD=3:=by
 unfold Nt.next at h;split at h;·cases h
 ·rw[<-qmn h];rfl
structure Qp (A A':av) (fs:List Fr):Prop where
 q:A.aK=uq fs++A'.aK
 l:A'.least=A.least
 m:A'.eP=A.eP
 t:A'.taken=A.taken
 g:A'.bW=A.bW
def Qp.refl(A:av):Qp A A []:=⟨rfl,rfl,rfl,rfl,rfl⟩
def Qp.trans{A B C:av}{a b:List Fr}(h:Qp A B a)(k:Qp B C b):Qp A C (a++b):=⟨by rw[h.q,k.q,IV,qmh],k.l.trans h.l,k.m.trans h.m,k.t.trans h.t,k.g.trans h.g⟩
def Yn{d dV:bZ}{u:Nat}{i:Int}{f:Fr}(l:∀f∈A.aK,f.aD=7)(h:A.frame d u i=some (f,A',dV)):Qp A A' [f]:=by
 have c:∀{g:Fr} {k:Int},g.aD=k->k≠7->uq [g]=[]:=fun e h=>by unfold uq;rw[qpb,e,decide_eq_false h];rfl
 unfold av.frame at h;split at h
 ·split at h;·cases h
  ·have e:=qmn h;simp only[qob]at e;obtain⟨rfl,rfl,_⟩:=e;exact⟨by rw[c (k:=2) rfl gP];rfl,rfl,rfl,rfl,rfl⟩
 ·split at h;·obtain⟨y,a,e⟩:=qmj.1 h;simp only[qob]at e;obtain⟨rfl,rfl,_⟩:=e;exact⟨by rw[c (Lu a) gP];rfl,rfl,rfl,rfl,rfl⟩
  ·split at h;·obtain⟨y,a,e⟩:=qmj.1 h;simp only[qob]at e;obtain⟨rfl,rfl,_⟩:=e;exact⟨by rw[c (Lu a) gP];rfl,rfl,rfl,rfl,rfl⟩
   ·split at h;·obtain⟨y,a,e⟩:=qmj.1 h;simp only[qob]at e;obtain⟨rfl,rfl,_⟩:=e;exact⟨by rw[c (Ym a) gP];rfl,rfl,rfl,rfl,rfl⟩
    ·split at h
     ·split at h;·cases h
      ·obtain⟨y,a,e⟩:=qmj.1 h;simp only[qob]at e;obtain⟨rfl,rfl,_⟩:=e;cases b:A.aK with
       |nil=>rw[b]at a;cases a
       |cons z t=>rw[b]at a;obtain rfl:z=y:=qmn a;have j:=l z (by rw[b];simp);refine⟨?_,rfl,rfl,rfl,rfl⟩;show A.aK=uq [z]++t;rw[b];unfold uq;rw[qpb,decide_eq_true j];rfl
     ·obtain⟨y,a,e⟩:=qmj.1 h;simp only[qob]at e;obtain⟨rfl,rfl,_⟩:=e;exact⟨by rw[c (Ue (o':=y.2) a).1 gP];rfl,rfl,rfl,rfl,rfl⟩
def vP:∀(n:Nat) (A:av) (b:bZ) (Q a:List Nat) (c:Int) (l:List Fr),(∀f∈A.aK,f.aD=7)->∃d,(dU n A b Q a c l).2.2.2=l++d/\Qp A (dU n A b Q a c l).1 d
 |0,A,_,_,_,_,l,_=>⟨[],(qmv _).symm,Qp.refl _⟩
 |n+1,A,_,[],_,_,l,_=>⟨[],(qmv _).symm,Qp.refl _⟩
 |n+1,A,b,u::Q,a,c,l,hq=>by
  unfold dU;by_cases h:A.bD b u=true
  ·simp only[h,if_true];cases hF:A.frame b u c with
   |none=>
    simp only;split;·exact vP n _ _ _ _ _ _ hq
    ·exact⟨[],(qmv _).symm,Qp.refl _⟩
   |some x=>obtain⟨f,i,j⟩:=x;have s:=Yn hq hF;obtain⟨d,e,g⟩:=vP n i j (u::Q) a (c-((aX f).length:Int)) (l++[f]) (fun g k=>hq g (by rw[s.q];simp[k]));exact⟨f::d,by simp only;rw[e,qmh];rfl,s.trans g⟩
  ·simp only[h];exact vP n _ _ _ _ _ _ hq
def Gt:∀(n:Nat) (A:av) (a:bZ) (Q:List Nat) (l:List (Nat×List Fr)),(∀f∈A.aK,f.aD=7)->∃c,(fI n A a Q l).2=l++c/\Qp A (fI n A a Q l).1 (c.flatMap fun x=>x.2)
 |0,A,_,_,l,_=>⟨[],(qmv _).symm,Qp.refl _⟩
 |n+1,A,a,Q,l,hq=>by
  obtain⟨d,e,s⟩:=vP (Q.length+A.au.toNat+1) A a Q [] A.au [] hq;rw[qmq]at e;have h:(fill A a Q A.au).2.2.2=d:=e;have b:Qp A (fill A a Q A.au).1 d:=s;unfold fI;split;·rename_i i;rw[h]at i;rw[i]at b;exact⟨[],(qmv _).symm,b⟩
  ·have j:Qp A ((fill A a Q A.au).1.dO (fill A a Q A.au).2.2.2) d:=⟨b.q,b.l,b.m,b.t,b.g⟩;obtain⟨c,k,o⟩:=Gt n ((fill A a Q A.au).1.dO (fill A a Q A.au).2.2.2) (fill A a Q A.au).2.1 (fill A a Q A.au).2.2.1 (l++[(A.next,(fill A a Q A.au).2.2.2)]) (fun g m=>hq g (by rw[j.q];exact qne _ m));refine⟨(A.next,(fill A a Q A.au).2.2.2)::c,by rw[k,qmh];rfl,?_⟩;rw[qor,h]at *
   exact j.trans o
def Ei(k:∀f∈A.aK,f.aD=7)(h:A.kQ A' b):Qp A A' (b.flatMap fun x=>x.2):=by obtain⟨a,j,e⟩:=h;have s:=Yk j;obtain⟨l,c,g⟩:=Gt ((lf a).length+14) {a with bI:=false} (lf a) q0 [] (fun f i=>k f (by rw[<-s.q];exact i));rw[e]at c g;have d:b=l:=c;rw[d];exact⟨s.q.symm.trans g.q,g.l.trans s.l,g.m.trans s.m,g.t.trans s.t,g.g.trans s.g⟩
structure DgI (now:Nat) (A B:av) (L:List Gm) (nx:Nat):Prop where
 inc:Inc L
 lt:∀c∈QC L,c.1<nx
 ls:A.least<=nx
 q:∀f∈A.aK,Mx L f/\now<=f.aH
 cm:∀g∈L,g.aP=true->g.id∈B.taken\/g.id+32<=B.bW
 ql:A.aK.length<=L.length
structure iC (K:Nat) (n:Net):Prop where
 dg:∀i,i<2->DgI n.now (n.x i) (n.x (1-i)) (n.gr i) (n.nx i)
 tk:∀i,i<2->(n.x i).aW=n.now
 ms:∀i,i<2->(n.x i).eP=[]
 bg:∀y∈n.dI,∀f∈y.2.2,f.aD=7->Mx (n.gr (1-y.1)) f
 ln:∀i,i<2->(n.gr i).length<=K/\n.nx i<=3*K
 nw:n.now<=K
def iC.mono{a:Nat}{n:Net}(h:iC K n)(c:K<=a):iC a n:=⟨h.dg,h.tk,h.ms,h.bg,fun i b=>bR (h.ln i b),bR h.nw⟩
def DgI.sg{now:Nat}{B a:av}{nx:Nat}(h:DgI now A B L nx)(q:A'.aK=A.aK)(l:A'.least=A.least)(t:a.taken=B.taken)(g:a.bW=B.bW):DgI now A' a L nx:=
 ⟨h.inc,h.lt,by rw[l];exact h.ls,by rw[q];exact h.q,by rw[t,g];exact h.cm,by rw[q];exact h.ql⟩
def iC.dA{K:Nat}{n:Net}(h:iC K n)(i:Nat){M:av}(s:Sg (n.x i) M)(t:M.aW=(n.x i).aW):iC K (n.dA i M):=by
 have b:∀j,j<2->Sg (n.x j) ((n.dA i M).x j)/\((n.dA i M).x j).aW=(n.x j).aW:=fun j _=>by
  by_cases e:j=i;·rw[e,fV];exact⟨s,t⟩
  ·rw[iH _ _ _ _ e];exact⟨Sg.refl _,rfl⟩
 exact⟨fun j a=>(h.dg j a).sg (b j a).1.q (b j a).1.l (b _ aj).1.t (b _ aj).1.g,fun j a=>(b j a).2.trans (h.tk j a),fun j a=>(b j a).1.m.trans (h.ms j a),h.bg,h.ln,h.nw⟩
def iC.set'{a:Nat}{n:Net}(h:iC K n)(b:K<=a)(i:Nat)(s:Sg (n.x i) M)(t:M.aW=(n.x i).aW):iC a (n.dA i M):=(h.dA i s t).mono b
def iC.sub{n:Net}(h:iC K n)(l:List (Nat×Nat×List Fr))(a:∀y∈l,y∈n.dI):iC K {n with dI:=l}:=⟨h.dg,h.tk,h.ms,fun y b=>h.bg y (a y b),h.ln,h.nw⟩
def iC.recv{n:Net}(h:iC K n)(i:Nat)(p:i<2){y:Nat×List Fr}(v:∀f∈y.2,f.aD=7->Mx (n.gr (1-i)) f)(r:(n.x i).ji y.1 y.2 M 0):(ig n.now M.eP (n.gr (1-i))).2=true/\iC K ((n.dA i M).iD i):=by
 have b:=h.dg (1-i) aj;rw[show 1-(1-i)=i by omega]at b;have C:Uf n.now (n.gr (1-i)) (n.x i):=by
  refine⟨h.tk i p,?_,?_,?_⟩;·rw[h.ms i p];rfl
  ·rw[h.ms i p];rfl
  ·rw[h.ms i p];exact b.cm
 obtain⟨q,A,x⟩:=Uh b.inc C v r;refine⟨q.ok,?_⟩;obtain⟨L,u⟩:=bT ((ig n.now M.eP (n.gr (1-i))).1);have a:=q.co;have l:=q.cm;rw[<-u]at a l;have g:∀j,((n.dA i M).iD i).x j=if j=i then M.emp else n.x j:=fun j=>by show(if j=i then(if i=i then M else n.x i).emp else if j=i then M else n.x j)=_;rw[bM rfl];split<;>rfl
 have o:∀j,((n.dA i M).iD i).gr j=if j=1-i then L else n.gr j:=fun j=>by rw[u];show(if j=1-i then(ig n.now (if i=i then M else n.x i).eP (n.gr (1-i))).1 else n.gr j)=_;rw[bM rfl]
 have B:∀j f,Mx (n.gr j) f->Mx (((n.dA i M).iD i).gr j) f:=fun j f c=>by
  rw[o];split;·rename_i e;rw[e]at c;unfold Mx at c ⊢;rw[a];exact c
  ·exact c
 have m:L.length=(n.gr (1-i)).length:=by have:=congrArg List.length a;simpa[QC]using this
 refine⟨fun j d=>?_,fun j d=>?_,fun j d=>?_,fun z w f c k=>B _ f (h.bg z w f c k),fun j d=>?_,h.nw⟩
 ·rcases(show j=i\/j=1-i by omega)with e|e;·have s:1-j≠i:=aj;have t:j≠1-i:=aj;rw[g,g,o,bM e,aV s,aV t];have:=h.dg j d;rw[e]at this ⊢;exact this.sg (A':=M.emp) A x rfl rfl
  ·have s:j≠i:=aj;have t:1-j=i:=aj;rw[g,g,o,aV s,bM t,bM e,e];show DgI n.now (n.x (1-i)) M.emp L (n.nx (1-i));exact⟨by unfold Inc;rw[a];exact b.inc,by rw[a];exact b.lt,b.ls,fun f c=>⟨by unfold Mx;rw[a];exact(b.q f c).1,(b.q f c).2⟩,l,by rw[m];exact b.ql⟩
 ·rw[g];split;·exact q.tk
  ·exact h.tk j d
 ·rw[g];split;·rfl
  ·exact h.ms j d
 ·rw[o];split;·rename_i e;rw[m,<-e];exact h.ln j d
  ·exact h.ln j d
def gI.late{b:Nat}{n:Net}(h:gI b n)(i:Nat)(e:i<2)(r:(n.x i).kQ M a):∀x∈a,∀f∈x.2,f.aD=7->f∈(n.x i).aK:=fun x j f c k=>by have s:=Ei (fun g d=>((h.loc i e).q g d).kd) r;rw[s.q];exact qnr _ (qm4.2 ⟨qqi.2 ⟨x,j,c⟩,decide_eq_true k⟩)
def iC.vT{K:Nat}{w:Nat}{n:Net}(h:iC K n)(t:gI w n)(i:Nat)(q:i<2){M:av}{c:List (Nat×List Fr)}(r:(n.x i).kQ M c)(o:PkW (n.x i) M c):iC K (n.vT i M c):=by
 have s:=Ei (fun g p=>((t.loc i q).q g p).kd) r;have l:∀j,(n.vT i M c).x j=if j=i then M else n.x j:=fun j=>rfl;refine⟨fun j b=>?_,fun j b=>?_,fun j b=>?_,fun z d f m k=>?_,h.ln,h.nw⟩
 ·have a:=h.dg j b;show DgI n.now ((n.vT i M c).x j) ((n.vT i M c).x (1-j)) (n.gr j) (n.nx j);rw[l,l];rcases(show j=i\/j=1-i by omega)with e|e;·rw[bM e,aV aj];rw[e]at a ⊢;exact⟨a.inc,a.lt,by rw[s.l];exact a.ls,fun f m=>a.q f (by rw[s.q];exact qne _ m),a.cm,by have:=a.ql;rw[s.q,qm0]at this;omega⟩
  ·rw[aV aj,bM aj];have A:1-j=i:=aj;rw[A]at a;exact a.sg rfl rfl s.t s.g
 ·rw[l];split;·rename_i e;rw[e]at b;exact(yY r).trans (h.tk i b)
  ·exact h.tk j b
 ·rw[l];split;·rename_i e;rw[e]at b;exact s.m.trans (h.ms i b)
  ·exact h.ms j b
 ·rcases qm7.1 (show z∈n.dI++(zq c).map (fun y=>(1-i,y))from d)with d|d;·exact h.bg z d f m k
  ·obtain⟨y,B,rfl⟩:=qmk.1 d;obtain⟨x,u,rfl⟩:=qmk.1 B;obtain⟨g,p,rfl⟩:=qmk.1 m;have v:=((o.ok x u).1.fs g p).sn;rw[kL g v]at k;have:=((h.dg i q).q g (t.late i q r x u g p k)).1;show Mx (n.gr (1-(1-i))) (norm g);rw[show 1-(1-i)=i by omega,norm_eq g v,aV aj,aV aj,aV aj,aV aj,aV aj,aV aj,bM k];exact this
def Ej(b a d:Nat):iC 0 (Net.new b a d):=
 ⟨fun _ _=>⟨List.Pairwise.nil,(fun c e=>by cases e),qj _,(fun f h=>by cases h),(fun g i=>by cases i),qj _⟩,fun _ _=>rfl,fun _ _=>rfl,(fun y j=>by cases j),fun _ _=>⟨qj _,qj _⟩,qj _⟩
def qbq{B:av}(a:gM A)(b:eH A B)(c:eH B A):rH A B A.emp:=
 ⟨⟨a.lo,a.li,a.wr,a.sp,a.it,a.gt,a.kW,a.q,a.ql⟩,⟨b.rd,b.jS,b.aP⟩,⟨c.rd,c.jS,c.aP⟩,⟨fun _=>sF.refl _,fun _=>qj _,qj _,qj _⟩⟩
def qfj(h:Bd A):Bd A.emp:=⟨h.o,h.i,h.g,h.lm,h.mt,h.wy,h.ls,h.ky,h.wl,h.ll,h.nm,h.cm,h.tk,h.ib⟩
def gI.sj{a:Nat}{n:Net}(h:gI a n)(i:Nat)(L:List Gm):gI a (n.sj i L):=⟨h.loc,h.two,h.bd,h.mt,h.ct,h.dI⟩
def EU.aP{d:Nat}{n a:Net}(h:EU d n a)(i:Nat)(b:i<2):EU d n (a.iD i):=by
 refine⟨(jF h.p i b (a.x i).emp (qbq (h.p.loc i b) (h.p.two i b) (h.p.uS i b)) (qfj (h.p.bd i b)) rfl rfl).sj _ _,fun j c=>?_,h.now,h.bl⟩;show((a.dA i (a.x i).emp).x j).next=_/\((a.dA i (a.x i).emp).x j).aW=_
 by_cases e:j=i;·rw[e,fV];rw[e]at c;exact h.nx i c
 ·rw[iH _ _ _ _ e];exact h.nx j c
def Ui(A B:Int)(n n':Net):Prop:=∃k y a b,k=cu A n.dI.length/\y=n.dI.getD k (0,0,[])/\a=(if cu B 2=0 then{n with dI:=n.dI.eraseIdx k}else n)/\(a.x y.1).ji y.2.1 y.2.2 b 0/\n'=(a.dA y.1 b).iD y.1
structure RcO (bF K:Nat) (n:Net) (i:Nat) (n2:Net):Prop where
 ms:(n2.x i).eP.length<=1000000
 gl:(n2.gr (1-i)).length<=1000000000
 ok:(ig n2.now (n2.x i).eP (n2.gr (1-i))).2=true
 o:EU bF n (n2.iD i)
 g:iC K (n2.iD i)
def uV:∀(b:List Fr) {A A':av},mH A b A' 0->mJ A b A'
 |[],_,_,h=>h.1
 |f::t,A,A',h=>by
  obtain⟨c,d,r,h⟩:=h;split at h;·rename_i e;subst e;exact⟨c,r,uV t h⟩
  ·rename_i a;exact absurd h.2.symm a
def OQ{m:Nat}{a:List Fr}(h:A.ji m a A' 0):A'.eP.length<=A.eP.length+a.length:=by
 unfold av.ji at h;split at h;·rw[h.1];omega
 ·have:=uT a (uV a h);exact this
def Lv{e:Nat}{n c:Net}(p:K<=1000000000)(h:EU e n c)(g:iC K c)(m:qM c 0)(i:Nat)(d:i<2)(y:Nat×List Fr)(l:Mw e (c.x (1-i)) (c.x i) y)(o:∀f∈y.2,f.aD=7->Mx (c.gr (1-i)) f){k:av}(j:(c.x i).ji y.1 y.2 k 0):RcO e K n i (c.dA i k):=by
 obtain⟨a,b⟩:=g.recv i d o j;refine⟨?_,?_,?_,(Ye h m i d y l j).aP i d,b⟩
 ·rw[fV];have:=OQ j;rw[g.ms i d]at this;have:=l.ln;simp at *
  omega
 ·have:=(g.ln (1-i) aj).1;show(c.gr (1-i)).length<=_;omega
 ·rw[fV];exact a
def qbr{b:Nat}{n:Net}(d:K<=1000000000)(h:gI b n)(g:iC K n)(i:Nat)(c:i<2):RcO b K n i n:=by
 have a:=g.ms i c;have e:n.iD i=n.dA i (n.x i).emp:=by unfold Net.iD;rw[a];exact Gq (n.dA i (n.x i).emp) (1-i)
 refine⟨by rw[a];simp,bR ((g.ln (1-i) aj).1),by rw[a];rfl,(uU h).aP i c,?_⟩;rw[e];exact g.dA i ⟨rfl,rfl,a.symm,rfl,rfl⟩ rfl
section
section
variable {oZ:Own} {w:Wq} {a:Ad} {n:Net} {vb:WA}
def mM(K Sd A B:Int)(S:ByteArray):bJ:=[iZ K,iZ Sd,iZ A,iZ B,.string S]
def kG(x:Int):Prop:= -9223372036854775808<=x/\x<=9223372036854775807
def Yo(h:dQ oZ w a n vb (ends n))(hp:gI a.bF n){Kg:Nat}(Gu:Kg<=1000000000)(hg:iC Kg n)(hb:qM n 0)(xf:a.bF<=400)(hl:n.dI.length<=1000000000)(K Sd A B:Int)(S:ByteArray)(hA:kG A)(hB:kG B):qH 39 #[aJ a.N 0,.agg #[iZ K,iZ Sd,iZ A,iZ B,.string S]] w (.bool true) fun w'=>∃n',EU a.bF n n'/\iC Kg n'/\(n.dI=[]->n'=n)/\(K=7->n.dI≠[]->Ui A B n n')/\nk oZ w a n' w':=by
 have H0:=Ac h;have J:=H0.alloc 37 (mM K Sd A B S);obtain⟨a0,c0,p8,Uj⟩:=J.qk2;have M:=aF hp;have R:=aF hg;have HB:=aF hb;have HA:=aF hA;have Bz:=aF hB;have x4:=aF Uj;obtain⟨m,hm⟩:=bT n.dI.length;rw[<-hm]at p8 hl;have L:=aF hm;obtain⟨w1,h9⟩:=bT (w.alloc (.cells (mM K Sd A B S).toArray 37));rw[<-h9]at p8 J;have b0:=J.cell (.head _) 0;have b2:=J.cell (.head _) 2;have b3:=J.cell (.head _) 3;have b4:=J.cell (.head _) 4;simp only[mM,qml,qma]at b0 b2 b3 b4;have T:=aF J;clear H0 J h hp hg hb hA hB Uj hm;go_enter func39,ntmps39;have uW:w.alloc (.cells #[iZ K,iZ Sd,iZ A,iZ B,.string S] 37)=w1:=h9.symm;clear h9;by_cases h0:m=0;·subst h0;go_wp2;go_ret;exact⟨rfl,n,uU M.out,R.out,fun _=>rfl,fun _ h=>absurd (qn9.1 L.out.symm) h,T.out.ntf.j_⟩
 have xl:¬((m:Int)=0):=aj;obtain⟨k,hk⟩:=bT (cu A m);have x6:=aF hk;have xn:k<m:=by rw[hk];exact dL A m aj
 have x7:Hid (∀w,qH 32 #[iZ A,iZ m] w (iZ k) fun w'=>w'=w):=fun w=>by rw[hk];exact ze A m HA.out.1 HA.out.2 aj aj w
 obtain⟨g,rfl,d0,d1⟩:=x4.out k (bR L.out);obtain⟨y,O⟩:=bT (n.dI.getD k (0,0,[]));rw[<-O]at d0 d1;have j:y∈n.dI:=by have:k<n.dI.length:=bR L.out;rw[O,qly,qm3 this];exact qmz _
 obtain⟨c,x3⟩:=M.out.dI y j;have X:=aF x3;have U:Hid (n.dI≠[]):=fun e=>by rw[e]at j;cases j
 have xj:=aF j;have x8:=aF O;obtain⟨i,hi⟩:=bT y.1;obtain⟨D,hD⟩:=bT (⟨(bP y.2.1 y.2.2).toArray⟩:ByteArray);unfold sV at d1;rw[<-hi]at d0 c;rw[<-hD]at d1;have HI:=aF hi;have HD:=aF hD;rw[show w.alloc (.cells (mM K Sd A B S).toArray 37)=w1 from uW]at d0 d1;clear hi hD O x3 j hk x4;go_wp2;clear uW;go_quiet ((go_at_call 32;exact qn6 (x7.out _)));obtain⟨w2,E⟩:=bT (w1.drewN nq);have e8:w2.cell? (ay a.N 8)=some (dh g m c0):=by rw[E];exact p8
 have c0:w2.cell? (ay g (k*2))=some (iZ i):=by rw[E];exact d0
 have c1:w2.cell? (ay g (k*2+1))=some (.string D):=by rw[E];exact d1
 have F:=(T.out.below (dF w1 nq)).alloc 62 [iZ i,.string D];rw[<-E]at F ⊢;obtain⟨w3,ha⟩:=bT (w2.alloc (.cells [iZ i,.string D].toArray 62));obtain⟨s,IE⟩:=bT w2.heap.size;rw[<-ha,<-IE]at F;have f0:=F.cell (.head _) 0;have f1:=F.cell (.head _) 1;have e0:=F.cell (.tail _ (.head _)) 0;have e3:=F.cell (.tail _ (.head _)) 3;have e4:=F.cell (.tail _ (.head _)) 4;obtain⟨x0,x1⟩:=F.xc i c;simp only[mM,qml,qma]at f0 f1 e0 e3 e4;have XH:w2.alloc (.cells #[iZ i,.string D] 62)=w3:=ha.symm;have xp:w2.heap.size=s:=IE.symm;have t:=aF F;clear E b0 b2 b3 b4 p8 d0 d1 T ha IE F;by_cases k8:K=8;·subst k8;have Q:=aF (Qz t.out k (bR L.out) (bR L.out));go_wp2_with (go_at_call 67;refine bH Q.out ?_;rintro d h4);go_ret;exact⟨rfl,_,Lr M.out k,R.out.sub _ (fun _ O=>qqp O),fun e=>absurd e U.out,fun e=>absurd e gP,h4.ntf.j_⟩
 by_cases k7:K=7
 ·subst k7;obtain⟨q,hq⟩:=bT (cu B 2);have he:Hid (∀w,qH 32 #[iZ B,iZ 2] w (iZ q) fun w'=>w'=w):=fun w=>by rw[hq];exact ze B 2 Bz.out.1 Bz.out.2 aj aj w
  have TU:=aF hq;clear hq;have HY:Hid (∀p d,oV (loc oZ w.heap.size) w a [(s,62,[iZ i,.string D]),(w.heap.size,37,mM 7 Sd A B S)] p d->EU a.bF n p->p=(if cu B 2=0 then{n with dI:=n.dI.eraseIdx k}else n)->qH 29 #[(aJ (a.C i) 0),.string D] d (.tuple #[iZ 0,(iZ (-1))]) fun u=>∃G,(RcO a.bF Kg n i G/\Ui A B n (G.iD i))/\oV (loc oZ w.heap.size) w a [(s,62,[iZ i,.string D]),(w.heap.size,37,mM 7 Sd A B S)] G u):=fun p d h1 H I=>by
   have ex:p.x=n.x:=by rw[I];split<;>rfl
   have er:p.gr=n.gr:=by rw[I];split<;>rfl
   have g1:iC Kg p:=by
    rw[I];split;·exact R.out.sub _ (fun _ O=>qqp O)
    ·exact R.out
   have h3:Mw a.bF (p.x (1-i)) (p.x i) y.2:=by rw[ex,HI.out];exact X.out
   have hs:∀f∈y.2.2,f.aD=7->Mx (p.gr (1-i)) f:=by rw[er,HI.out];exact R.out.bg y xj.out
   have:=qbm h1 H.p (H.nb HB.out) xf i c y.2 h3 (g1.ms i c);unfold sV at this;rw[<-HD.out]at this;refine bH this ?_;rintro u ⟨M1,r,Y⟩;refine⟨rfl,_,⟨Lv Gu H g1 (H.nb HB.out) i c y.2 h3 hs r,k,y,p,M1,by rw[x6.out,L.out],x8.out,I,?_,?_⟩,Y⟩;·rw[<-HI.out];exact r
   ·rw[<-HI.out]
  have Q:=aF (Qz t.out k (bR L.out) (bR L.out));have hv:q=0\/¬((q:Int)=0):=aj;rcases hv with rfl|hv;all_goals go_wp2_with (first|(go_at_call 32;refine bH (he.out _) ?_;rintro d hc;subst hc)|(go_at_call 67;refine bH Q.out ?_;rintro d h4))
  all_goals(
   obtain⟨p,H4,HO,x5⟩:∃p,Hid (oV (loc oZ w.heap.size) w a [(s,62,[iZ i,.string D]),(w.heap.size,37,mM 7 Sd A B S)] p d)/\Hid (EU a.bF n p)/\Hid (p=(if cu B 2=0 then{n with dI:=n.dI.eraseIdx k}else n)):=(by first|exact⟨_,h4,Lr M.out k,(bM TU.out.symm).symm⟩|exact⟨n,t.out,uU M.out,(aV (by rw[<-TU.out];omega)).symm⟩);clear f0 f1 e0 e3 e4 x0 x1 t XH
   (try clear h4))
  all_goals(
   have f0:=H4.out.cell (.head _) 0;have f1:=H4.out.cell (.head _) 1;obtain⟨x0,x1⟩:=H4.out.xc i c;simp only[qml,qma]at f0 f1;have W:Hid (qH 29 #[(aJ (a.C i) 0),.string D] d.drew (.tuple #[iZ 0,(iZ (-1))]) fun u=>(u.cell? (ay a.N 0)=some (dh a.xb 2 a.xc)/\u.cell? (ay a.xb i)=some (aJ (a.C i) 0)/\u.cell? (ay s 0)=some (iZ i)/\u.cell? (ay s 1)=some (.string D))/\Hid (∃G,(RcO a.bF Kg n i G/\Ui A B n (G.iD i))/\oV (loc oZ w.heap.size) w a [(s,62,[iZ i,.string D]),(w.heap.size,37,mM 7 Sd A B S)] G u)):=by refine bH (HY.out p d.drew (H4.out.below ⟨rfl,rfl,rfl,qj _,fun _ _=>rfl⟩) HO.out x5.out) ?_;rintro u ⟨G,h6,N⟩;exact⟨rfl,⟨(N.xc i c).1,(N.xc i c).2,N.cell (.head _) 0,N.cell (.head _) 1⟩,G,h6,N⟩
   have xd:(0:Int)<=(i:Int):=aj;have xe:(i:Int)<2:=aj;go_region_held3 (fun y=>y.cell? (ay a.N 0)=some (dh a.xb 2 a.xc)/\y.cell? (ay a.xb i)=some (aJ (a.C i) 0)/\y.cell? (ay s 0)=some (iZ i)/\y.cell? (ay s 1)=some (.string D)) (first|assumption|go_keep) ((first|(go_at_call 29;refine bH W.out ?_;rintro u ⟨x9,hw⟩)))
   obtain⟨_,_,s0,_⟩:=x9;obtain⟨G,C,hj⟩:=hw.out;have V:=aF C;have P:=aF (QA hj i c C.1.ms C.1.gl C.1.ok);clear C hj hw f0 f1 x0 x1;go_wp2_with (go_at_call 30;refine bH P.out ?_;rintro w6 h6;have H6:=aF h6;clear h6);go_ret;exact⟨rfl,_,V.out.1.o,V.out.1.g,fun e=>absurd e U.out,by intros;exact V.out.2,H6.out.ntf.j_⟩)
 by_cases k9:K=9
 ·subst k9;have ho:D.size=(bP y.2.1 y.2.2).length:=by rw[HD.out];exact(lu _).2
  have hn:0<D.size:=by rw[ho];exact X.out.ps
  have xm:D.size<=400:=bR X.out.sz;obtain⟨q,hq⟩:=bT (cu B D.size);have xi:q<D.size:=by rw[hq];exact dL B D.size hn
  have he:Hid (∀w,qH 32 #[iZ B,iZ D.size] w (iZ q) fun w'=>w'=w):=fun w=>by rw[hq];exact ze B D.size Bz.out.1 Bz.out.2 hn aj w
  clear hq ho;have hf:Hid (∀(b:UInt8) d,b≠0->oV (loc oZ w.heap.size) w a [(s,62,[iZ i,.string D]),(w.heap.size,37,mM 9 Sd A B S)] n d->qH 29 #[(aJ (a.C i) 0),.string (D.extract 0 q++⟨#[D[q] ^^^ b]⟩++D.extract (q+1) D.size)] d (.tuple #[iZ 7,(iZ (-1))]) fun y=>(y.cell? (ay a.N 0)=some (dh a.xb 2 a.xc)/\y.cell? (ay a.xb i)=some (aJ (a.C i) 0)/\y.cell? (ay s 0)=some (iZ i)/\y.cell? (ay s 1)=some (.string D))/\Hid (oV (loc oZ w.heap.size) w a [(s,62,[iZ i,.string D]),(w.heap.size,37,mM 9 Sd A B S)] n y)):=fun b d hb h4=>by obtain⟨l,h1,H,h3⟩:=Ud _ _ D HD.out q xi b hb;unfold spD at h1;rw[h1];refine bH (qff h4 M.out i c l aj h3) ?_;rintro u Y;exact⟨rfl,⟨(Y.xc i c).1,(Y.xc i c).2,Y.cell (.head _) 0,Y.cell (.head _) 1⟩,Y⟩
  have g4:(q:Int)+1<=(D.size:Int):=aj;have g1:(0:Int)<=(q:Int):=aj;have g2:(q:Int)<=(D.size:Int):=aj;have g3:(q:Int)<(D.size:Int):=aj;have g7:(0:Int)<=(q:Int)+1:=aj;have xo:IntKind.i64.wrap ((q:Int)+1)=(q:Int)+1:=by rw[qnf];omega
  have xd:(0:Int)<=(i:Int):=aj;have xe:(i:Int)<2:=aj;go_wp2_with (go_at_call 32;refine bH (he.out _) ?_;rintro d hc;subst hc);all_goals(first|(rw[show Value.int .u8 1=Value.int .u8 (((1:UInt8).toNat:Nat):Int)from rfl];have h8:(1:UInt8)≠0:=gP;generalize (1:UInt8)=b at h8 ⊢)|(have H:((S[0].toNat:Int) != 0)=true:=asZ;have h8:S[0]≠0:=(fun e=>by rw[e]at H;exact absurd H gP);clear H;generalize S[0]=b at *))
  all_goals(
   refine wp_region_noPanic ?_;refine wp_region_held_drew (S:=fun y=>y.cell? (ay s 1)=some (.string D)) bO (by simpa using f1) (fun z=>?_);refine lZ 0 rfl ?_;refine lZ 1 rfl ?_;refine lZ 2 rfl ?_;refine lZ 3 rfl ?_;refine lZ 4 rfl ?_;refine lZ 5 rfl ?_;refine lZ 6 rfl ?_;refine lZ 7 rfl ?_;refine lZ 8 rfl ?_;refine lZ 9 rfl ?_;refine lZ 13 rfl ?_;refine lZ 14 rfl ?_;refine lZ 15 rfl ?_;refine lZ 16 rfl ?_;refine lZ 17 rfl ?_;simp only[Act.put,qnp];refine wpAnyH_ready (rs:=[10]) bO aM ?_;refine AllReadyH.cons (o:=_) rfl (fun K hK=>?_) AllReadyH.nil;go_simp;have hu:=OP d D[q] b _ rfl;have hr:bE d ((d.alloc (.cells #[.int .u8 (bits .xor .u8 (D[q].toNat:Int) (b.toNat:Int))] 5)).drew):=((qlw _ d).alloc (qj _) _).drew;have H5:=aF (t.out.below hr);have f5:=H5.out.cell (.head _) 1;simp only[qml,qma]at f5;obtain⟨u,x2⟩:=bT ((d.alloc (.cells #[.int .u8 (bits .xor .u8 (D[q].toNat:Int) (b.toNat:Int))] 5)).drew);rw[<-x2]at hu f5 H5 ⊢;refine hK.out _ _ f5 (fun z=>?_);clear hK K hr x2;refine wpAnyH_ready (rs:=[11]) bO aM ?_;refine AllReadyH.cons (o:=_) rfl (fun K hK=>?_) AllReadyH.nil;go_simp;refine hK.out _ _ f5 (fun z=>?_);clear hK K hu;refine wpAnyH_take (i:=12) (oi:=_) (v:=?_) rfl bO bO bO (fun _ _ _ h=>h) (Or.inl ⟨by rfl,?_⟩) asZ ?_;rotate_left;·(intro w Z;(try dsimp only at Z);go_simp;rw[aV aj])
   refine wpAnyH_take (i:=18) (oi:=_) (v:=?_) rfl bO bO bO (fun _ _ _ h=>h) (Or.inl ⟨by rfl,?_⟩) asZ ?_;rotate_left;·(intro w Z;(try dsimp only at Z);go_simp;rw[aV aj])
   refine lZ 19 rfl ?_;refine Vm bO ?_ _;refine NoPanic.normal ?_;clear f0 f1 e0 e3 e4 x0 x1 t;have f0:=H5.out.cell (.head _) 0;have f1:=H5.out.cell (.head _) 1;obtain⟨x0,x1⟩:=H5.out.xc i c;simp only[qml,qma]at f0 f1;have W:=aF (hf.out b u.drew h8 (H5.out.below ⟨rfl,rfl,rfl,qj _,fun _ _=>rfl⟩));clear f5 hf;go_wp2;generalize D.extract 0 q++⟨#[D[q] ^^^ b]⟩++D.extract (q+1) D.size=D2 at *
   go_region_held3 (fun y=>y.cell? (ay a.N 0)=some (dh a.xb 2 a.xc)/\y.cell? (ay a.xb i)=some (aJ (a.C i) 0)/\y.cell? (ay s 0)=some (iZ i)/\y.cell? (ay s 1)=some (.string D)) (first|assumption|go_keep) ((first|(go_at_call 29;refine bH W.out ?_;rintro w6 ⟨xa,hx⟩)))
   obtain⟨_,_,s0,_⟩:=xa;have x:=aF (qbr Gu M.out R.out i c);have P:=aF (QA hx.out i c x.out.ms x.out.gl x.out.ok);clear hx f0 f1 x0 x1;go_wp2_with (go_at_call 30;refine bH P.out ?_;rintro w7 N;have H7:=aF N;clear N);go_ret;exact⟨rfl,_,x.out.o,x.out.g,fun e=>absurd e U.out,fun e=>absurd e gP,H7.out.ntf.j_⟩)
 go_wp2;go_ret;exact⟨rfl,n,uU M.out,R.out,fun _=>rfl,fun e=>absurd e k7,t.out.ntf.j_⟩
end

end
section
def iO(c x:Int)(h:kG c)(d:0<x/\x<=100000)(w:Wq):qH 32 #[iZ c,iZ x] w (iZ (cu c x.toNat:Nat)) fun b=>b=w:=by have:=ze c x.toNat h.1 h.2 aj aj w;rwa[qqd aj]at this
def qfl(N xb xc eb ec el Gl e C i k:Nat)(hi:i<2)(hk:k<8)(Sd A B:Int)(Z:kG Sd)(hA:kG A)(L:i=cu Sd 2)(M:k=cu A 8)(S d:ByteArray)(_hS:S.size<=1000000)(Y:d.size<=2048)(bG gv:Bool)(code:Nat)(w j:Wq)(R v:Wq->Prop)(l:j=w.alloc (.cells (mM 1 Sd A B S).toArray 37))(T:j.cell? (ay N 0)=some (dh xb 2 xc))(U:j.cell? (ay N 1)=some (dh eb 2 ec))(x1:j.cell? (ay xb i)=some (aJ C 0))(V:j.cell? (ay eb i)=some (dh el 8 Gl))(W:j.cell? (ay el k)=some (aJ e 0))(E:qH 34 #[aJ C 0,iZ k,.string S] j (iZ code) fun b=>R b)(J:∀b,R b->b.cell? (ay e 0)=some (.string d)/\b.frozen? (ay e 0)=false/\b.cell? (ay e 1)=some (.bool bG)/\b.cell? (ay e 2)=some (.bool gv)/\b.cell? (ay w.heap.size 4)=some (.string S)/\e≠w.heap.size)(t:code=if bG||gv then 4 else if 2048<d.size+S.size then 3 else 0)(r:code≠0->∀b q,R b->v (b.drewN q))(s:code=0->∀b q q2,R b->v (((b.drewN q).setCell (ay e 0) (.string (d++S))).drewN q2)):qH 22 #[aJ N 0,.agg #[iZ 1,iZ Sd,iZ A,iZ B,.string S]] w (.bool true) fun w'=>v w':=by
 have p1:cu Sd 2=i:=L.symm;have p2:cu A 8=k:=M.symm;have o:aL j w.heap.size 37 (mM 1 Sd A B S):=by rw[l];exact aL.new w 37 _
 have F:=o.cell 0;have G:=o.cell 1;have H:=o.cell 2;have I:=o.cell 4;simp only[mM,qml,qma]at F G H I;have O:=aF E;have Q:=aF J;have y:=aF r;have x:=aF s;have f:=aF t;have uW:w.alloc (.cells #[iZ 1,iZ Sd,iZ A,iZ B,.string S] 37)=j:=l.symm;have h0:(i:Int)<2:=aj;have h2:(k:Int)<8:=aj;clear E J r s t l o L M;go_enter qnn,qnm;go_wp2_with (first|(go_at_call 32;refine(iO _ _ asZ gP _).mono ?_;rintro X w4 ⟨rfl,D⟩;subst D)|(go_at_call 34;refine O.out.mono ?_;rintro X b ⟨rfl,K⟩;have p:=aF K;clear K));obtain⟨f0,P,f1,f2,f4,h3⟩:=Q.out b p.out;clear T U x1 V W F G H I O;cases bG with
 |true=>
  obtain rfl:code=4:=f.out;have g:=aF (fun q=>y.out gP b q p.out);by_cases u:(2048:Int)-(d.size:Int)<(S.size:Int);·go_quiet (fail);go_wp2;go_ret;exact⟨rfl,g.out nq⟩
  ·go_quiet (fail);go_wp2;go_ret;exact⟨rfl,g.out nq⟩
 |false=>
 cases gv with
 |true=>
  obtain rfl:code=4:=f.out;have g:=aF (fun q=>y.out gP b q p.out);by_cases u:(2048:Int)-(d.size:Int)<(S.size:Int);·go_quiet (fail);go_wp2;go_ret;exact⟨rfl,g.out nq⟩
  ·go_quiet (fail);go_wp2;go_ret;exact⟨rfl,g.out nq⟩
 |false=>
  by_cases u:2048<d.size+S.size
  ·obtain rfl:code=3:=by have:=f.out;rw[aV gP,bM u]at this;exact this
   have g:=aF (fun q=>y.out gP b q p.out);have z:(2048:Int)-(d.size:Int)<(S.size:Int):=aj;go_quiet (fail);go_wp2;go_ret;exact⟨rfl,g.out nq⟩
  ·obtain rfl:code=0:=by have:=f.out;rw[aV gP,aV u]at this;exact this
   have z:¬((2048:Int)-(d.size:Int)<(S.size:Int)):=aj;go_quiet (fail);obtain⟨m,c⟩:=bT (b.drewN nq);have g0:m.cell? (ay e 0)=some (.string d):=by rw[c];exact f0
   have gz:m.frozen? (ay e 0)=false:=by rw[c];exact P
   have g1:m.cell? (ay e 1)=some (.bool false):=by rw[c];exact f1
   have g2:m.cell? (ay e 2)=some (.bool false):=by rw[c];exact f2
   have g4:m.cell? (ay w.heap.size 4)=some (.string S):=by rw[c];exact f4
   have g:Hid (v ((m.setCell (ay e 0) (.string (d++S))).drew)):=by rw[c];exact x.out rfl b nq 1 p.out
   rw[<-c];clear c f0 P f1 f2 f4;go_wp2;go_region
   all_goals(go_wp2;go_ret;exact⟨rfl,g.out⟩)
def Yp(N xb xc eb ec el Gl e C i k:Nat)(W:i<2)(X:k<8)(Sd A B:Int)(K:kG Sd)(V:kG A)(D:i=cu Sd 2)(E:k=cu A 8)(S:ByteArray)(bG gv:Bool)(code:Nat)(w f:Wq)(R u:Wq->Prop)(j:f=w.alloc (.cells (mM 2 Sd A B S).toArray 37))(P:f.cell? (ay N 0)=some (dh xb 2 xc))(Q:f.cell? (ay N 1)=some (dh eb 2 ec))(x1:f.cell? (ay xb i)=some (aJ C 0))(T:f.cell? (ay eb i)=some (dh el 8 Gl))(U:f.cell? (ay el k)=some (aJ e 0))(x:qH 35 #[aJ C 0,iZ k] f (iZ code) fun b=>R b)(z:∀b,R b->b.frozen? (ay e 1)=false/\b.cell? (ay e 1)=some (.bool bG)/\b.cell? (ay e 2)=some (.bool gv))(q:code=if bG||gv then 4 else 0)(o:code≠0->∀b,R b->u b)(p:code=0->∀b,R b->u (b.setCell (ay e 1) (.bool true))):qH 22 #[aJ N 0,.agg #[iZ 2,iZ Sd,iZ A,iZ B,.string S]] w (.bool true) fun O=>u O:=by
 have Y:cu Sd 2=i:=D.symm;have Z:cu A 8=k:=E.symm;have r:aL f w.heap.size 37 (mM 2 Sd A B S):=by rw[j];exact aL.new w 37 _
 have H:=r.cell 0;have I:=r.cell 1;have J:=r.cell 2;simp only[mM,qml,qma]at H I J;have v:=aF x;have t:=aF z;have y:=aF o;have s:=aF p;have g:=aF q;have uW:w.alloc (.cells #[iZ 2,iZ Sd,iZ A,iZ B,.string S] 37)=f:=j.symm;have L:(i:Int)<2:=aj;have M:(k:Int)<8:=aj;clear x z o p q j r D E;cases bG with
 |true=>obtain rfl:code=4:=g.out;go_enter qnn,qnm;go_wp2_with (first|(go_at_call 32;refine(iO _ _ asZ gP _).mono ?_;rintro m F ⟨rfl,d⟩;subst d)|(go_at_call 35;refine v.out.mono ?_;rintro m b ⟨rfl,c⟩;obtain⟨G,f1,f2⟩:=t.out b c;have l:=aF (y.out gP b c);clear c));go_ret;exact⟨rfl,l.out⟩
 |false=>
 cases gv with
 |true=>obtain rfl:code=4:=g.out;go_enter qnn,qnm;go_wp2_with (first|(go_at_call 32;refine(iO _ _ asZ gP _).mono ?_;rintro m F ⟨rfl,d⟩;subst d)|(go_at_call 35;refine v.out.mono ?_;rintro m b ⟨rfl,c⟩;obtain⟨G,f1,f2⟩:=t.out b c;have l:=aF (y.out gP b c);clear c));go_ret;exact⟨rfl,l.out⟩
 |false=>obtain rfl:code=0:=g.out;go_enter qnn,qnm;go_wp2_with (first|(go_at_call 32;refine(iO _ _ asZ gP _).mono ?_;rintro m F ⟨rfl,d⟩;subst d)|(go_at_call 35;refine v.out.mono ?_;rintro m b ⟨rfl,c⟩;obtain⟨G,f1,f2⟩:=t.out b c;have l:=aF (s.out aM b c);clear c));go_ret;exact⟨rfl,l.out⟩
def Af(n:Net)(i k:Nat)(o:Ot)(j:i<2)(g:k<(n.x i).outs.length)(b d:Nat)(f:b<2):ends (n.dA i ((n.x i).dD k o)) b d=if b=i/\d=k then Eb o ((n.x (1-i)).cK k)else ends n b d:=by
 unfold ends;by_cases e:b=i
 ·subst e;rw[fV,iH _ _ _ _ aj,kD];by_cases c:d=k;·rw[bM ⟨c,g⟩,bM ⟨rfl,c⟩,c]
  ·rw[aV (fun h=>c h.1),aV (fun h=>c h.2)]
 ·rw[aV (fun h=>e h.1),iH _ _ _ _ e,show 1-b=i by omega,fV];rfl
def Net.oJ(n:Net)(i k:Nat)(S:ByteArray):Net:=n.dA i ((n.x i).dD k (((n.x i).out k).send S.data.toList).1)
def Net.OT(n:Net)(i k:Nat):Net:=n.dA i ((n.x i).dD k ((n.x i).out k).finish.1)
section
variable {oZ:Own} {w:Wq} {a:Ad} {n:Net} {vb:WA}
def QE(h:dQ oZ w a n vb (ends n))(H:gI a.bF n)(Sd A B:Int)(E:kG Sd)(W:kG A)(S:ByteArray)(X:S.size<=1000000):qH 22 #[aJ a.N 0,.agg #[iZ 1,iZ Sd,iZ A,iZ B,.string S]] w (.bool true) fun w'=>nk oZ w a (n.oJ (cu Sd 2) (cu A 8) S) w':=by
 obtain⟨i,J⟩:=bT (cu Sd 2);obtain⟨k,K⟩:=bT (cu A 8);have b:i<2:=by rw[J];exact dL Sd 2 aj
 have g:k<8:=by rw[K];exact dL A 8 aj
 rw[<-J,<-K];obtain⟨z,p⟩:=bT (w.alloc (.cells (mM 1 Sd A B S).toArray 37));have y:bE w z:=by rw[p];exact(qlw _ w).alloc (qj _) _
 have O:aL z w.heap.size 37 (mM 1 Sd A B S):=by rw[p];exact aL.new w 37 _
 have f:=h.loc.below y;have ob:loc oZ w.heap.size w.heap.size=0:=iY _ _ _ (qj _);have L:Kp TN (loc oZ w.heap.size) (loc oZ w.heap.size) w z:=Kp.below y;obtain⟨P,Q,_⟩:=f.cells;obtain⟨R,T,_⟩:=f.Li i k b g;have h0:a.e i k<w.heap.size:=(h.en i k b g).1.lt;have G:k<(n.x i).outs.length:=by rw[(H.loc i b).lo];exact g
 have r:=(H.loc i b).wr k;obtain⟨o,u⟩:=bT ((n.x i).out k);rw[<-u]at r;have Y:o.all.length<=2048:=r.sz;have N:ends n i k=Eb o ((n.x (1-i)).cK k):=by rw[u];rfl
 have D:(⟨o.all.toArray⟩:ByteArray).size=o.all.length:=(lu _).2;have t_:S.data.toList.length=S.size:=aM;refine qfl a.N a.xb a.xc a.eb a.ec (a.el i) (a.Gl i) (a.e i k) (a.C i) i k b g Sd A B E W J K S ⟨o.all.toArray⟩ X aj o.bG o.nt.bN (o.send S.data.toList).2 w z
  (fun l=>Qv (loc oZ w.heap.size) z a vb (ends n) (T0 (60*(i+1))) (n.oJ i k S) l) (nk oZ w a (n.oJ i k S)) p P Q (f.xs i b).1 R T (by rw[u];exact qbh f H i k b g S aj) ?_ ?_ ?_ ?_
 ·rintro l ⟨v,t,x⟩;have B:=(t.en i k b g).1;rw[N]at B;exact⟨B.cell 0,B.frozen 0,B.cell 1,B.cell 2,(bU O x (by rw[ob];exact fun e=>bR (fC.1 e))).cell 4,aj⟩
 ·unfold Ot.send Ot.closed;rw[D];cases c:(o.bG||o.nt.bN)
  ·have m:o.nt.bN=false:=by cases d:o.nt.bN;rfl;rw[d,Bool.or_true]at c;cases c
   simp only[r.ng m,t_,Bool.false_eq_true,if_false];split<;>rfl
  ·rfl
 ·rintro c l q ⟨v,t,x⟩;have e:(o.send S.data.toList).1=o:=by
   unfold Ot.send at c ⊢;split;·rfl
   ·split;·rfl
    ·rename_i d f;rw[aV d,aV f]at c;exact absurd rfl c
  have s:Sm (n.x i) ((n.x i).dD k (((n.x i).out k).send S.data.toList).1):=by rw[<-u,e];exact oU _ _ _ (by rw[u];exact z_ _)
  have C:=(t.below (dF l q)).vS (E':=ends (n.oJ i k S)) (fun j I _ _=>nu s j I);exact nk.j_ ⟨v,vb,C,L.trans ((x.mono (sD i b)).trans (Kp.below (dF l q)))⟩
 ·rintro c l q M ⟨v,t,x⟩;have e:(o.send S.data.toList).1={o with aB:=o.aB++S.data.toList,all:=o.all++S.data.toList}/\o.nt.bN=false:=by
   unfold Ot.send at c ⊢;split;·rename_i d;rw[bM d]at c;cases c
   ·rename_i d;split;·rename_i f;rw[aV d,bM f]at c;cases c
    ·refine⟨rfl,?_⟩;cases V:o.nt.bN;·rfl
     ·exact absurd (by unfold Ot.closed;rw[V,Bool.or_true]) d
  obtain⟨e,m⟩:=e;have oe:=(t.en i k b g).2;have C:=((t.below (dF l q)).OH i k b g 0 (.string (⟨o.all.toArray⟩++S))).below (dF _ M);have U:=C.vS (E':=ends (n.oJ i k S)) (fun i' I F Z=>by
   unfold Net.oJ;rw[Af n i k _ b G i' I F,N,<-u,e];split
   ·unfold Eb Ot.kept;have:(⟨o.all.toArray⟩++S:ByteArray)=⟨(o.all++S.data.toList).toArray⟩:=by ext1;rw[eT];simp
    simp only[m];rw[this];rfl
   ·rfl)
  exact nk.j_ ⟨v,vb,U,L.trans ((x.mono (sD i b)).trans ((Kp.below (dF l q)).trans ((Kp.set v _ (ay (a.e i k) 0) _ TN (by show v (a.e i k)∈TN;rw[oe];exact jZ.2 aj)).trans (Kp.below (dF _ M)))))⟩
end

end
section
section
variable {oZ:Own} {w:Wq} {a:Ad} {n:Net} {vb:WA}
def Gv(h:dQ oZ w a n vb (ends n))(G:gI a.bF n)(Sd A B:Int)(x:kG Sd)(O:kG A)(S:ByteArray):qH 22 #[aJ a.N 0,.agg #[iZ 2,iZ Sd,iZ A,iZ B,.string S]] w (.bool true) fun T=>nk oZ w a (n.OT (cu Sd 2) (cu A 8)) T:=by
 obtain⟨i,D⟩:=bT (cu Sd 2);obtain⟨k,E⟩:=bT (cu A 8);have b:i<2:=by rw[D];exact dL Sd 2 aj
 have d:k<8:=by rw[E];exact dL A 8 aj
 rw[<-D,<-E];obtain⟨t,p⟩:=bT (w.alloc (.cells (mM 2 Sd A B S).toArray 37));have l:bE w t:=by rw[p];exact(qlw _ w).alloc (qj _) _
 have r:=h.loc.below l;have F:Kp TN (loc oZ w.heap.size) (loc oZ w.heap.size) w t:=Kp.below l;obtain⟨I,J,_⟩:=r.cells;obtain⟨K,L,_⟩:=r.Li i k b d;have z:k<(n.x i).outs.length:=by rw[(G.loc i b).lo];exact d
 obtain⟨o,m⟩:=bT ((n.x i).out k);have H:ends n i k=Eb o ((n.x (1-i)).cK k):=by rw[m];rfl
 refine Yp a.N a.xb a.xc a.eb a.ec (a.el i) (a.Gl i) (a.e i k) (a.C i) i k b d Sd A B x O D E S o.bG o.nt.bN o.finish.2 w t
  (fun u=>Qv (loc oZ w.heap.size) t a vb (ends n) (T0 (60*(i+1))) (n.OT i k) u) (nk oZ w a (n.OT i k)) p I J (r.xs i b).1 K L (by rw[m];exact TY r G i k b d) ?_ ?_ ?_ ?_
 ·rintro u ⟨g,f,q⟩;have B:=(f.en i k b d).1;rw[H]at B;exact⟨B.frozen 1,B.cell 1,B.cell 2⟩
 ·unfold Ot.finish Ot.closed;cases(o.bG||o.nt.bN)<;>rfl
 ·rintro c u ⟨g,f,q⟩;have e:o.finish.1=o:=by
   unfold Ot.finish at c ⊢;split;·rfl
   ·rename_i v;rw[aV v]at c;exact absurd rfl c
  have s:Sm (n.x i) ((n.x i).dD k ((n.x i).out k).finish.1):=by rw[<-m,e];exact oU _ _ _ (by rw[m];exact z_ _)
  have M:=f.vS (E':=ends (n.OT i k)) (fun j C _ _=>nu s j C);exact nk.j_ ⟨g,vb,M,F.trans (q.mono (sD i b))⟩
 ·rintro c u ⟨g,f,q⟩;have e:o.finish.1={o with bG:=true}:=by
   unfold Ot.finish at c ⊢;split;·rename_i v;rw[bM v]at c;cases c
   ·rfl
  have R:=(f.en i k b d).2;have N:=(f.OH i k b d 1 (.bool true)).vS (E':=ends (n.OT i k)) (fun Q C y P=>by unfold Net.OT;rw[Af n i k _ b z Q C y,H,<-m,e];rfl);exact nk.j_ ⟨g,vb,N,F.trans ((q.mono (sD i b)).trans (Kp.set g _ (ay (a.e i k) 1) _ TN (by show g (a.e i k)∈TN;rw[R];exact jZ.2 aj)))⟩
def Yq(h:dQ oZ w a n vb (ends n))(t:gI a.bF n){D:Nat}(y:iC D n)(v:qM n 0)(s:a.bF<=400)(W:n.dI.length<=1000000000)(Sd A B:Int)(I:kG Sd)(U:kG A)(S:ByteArray):qH 22 #[aJ a.N 0,.agg #[iZ 6,iZ Sd,iZ A,iZ B,.string S]] w (.bool true) fun p=>∃M b,(n.x (cu Sd 2)).kQ M b/\PkO (n.x (cu Sd 2)) (n.x (1-cu Sd 2)) M b/\nk oZ w a (n.vT (cu Sd 2) M b) p:=by
 obtain⟨i,m⟩:=bT (cu Sd 2);have l:i<2:=by rw[m];exact dL Sd 2 aj
 rw[<-m];have X:cu Sd 2=i:=m.symm;have V:cu A 8<8:=dL A 8 aj;obtain⟨q,c⟩:=bT (w.alloc (.cells (mM 6 Sd A B S).toArray 37));have d:bE w q:=by rw[c];exact(qlw _ w).alloc (qj _) _
 have g:aL q w.heap.size 37 (mM 6 Sd A B S):=by rw[c];exact aL.new w 37 _
 have j:=h.below d;obtain⟨T,_⟩:=j.cells;have x1:=(j.xs i l).1;have E:=g.cell 0;have F:=g.cell 1;have G:=g.cell 2;simp only[mM,qml,qma]at E F G;have C:Hid (qH 23 #[aJ a.N 0,iZ i] q (.bool true) fun p=>Hid (∃M b,(n.x i).kQ M b/\PkO (n.x i) (n.x (1-i)) M b/\nk oZ w a (n.vT i M b) p)):=by refine(Ee j t v i l s aj (fun M b r x N f J k=>((y.dg i l).q f (t.late i l r x N f J k)).2)).mono ?_;rintro e p ⟨rfl,M,b,O,P,o,z,Q,R⟩;exact⟨rfl,M,b,O,P,o,z,Q,(Kp.below d).trans R⟩
 have Y:w.alloc (.cells #[iZ 6,iZ Sd,iZ A,iZ B,.string S] 37)=q:=c.symm;have K:(i:Int)<2:=aj;clear c g m j h t y v d;go_enter qnn,qnm;go_wp2_with (first|(go_at_call 32;refine(iO _ _ asZ gP _).mono ?_;rintro H w4 ⟨rfl,u⟩;subst u)|(go_at_call 23;refine C.out.mono ?_;rintro H Z ⟨rfl,L⟩));go_ret;exact⟨rfl,L.out⟩
def qbs(h:dQ oZ w a n vb (ends n))(s:gI a.bF n)(Sd A B:Int)(D:kG Sd)(K:kG A)(L:kG B)(S:ByteArray):qH 22 #[aJ a.N 0,.agg #[iZ 10,iZ Sd,iZ A,iZ B,.string S]] w (.bool true) fun l=>nk oZ w a (n.dA (cu Sd 2) ((n.x (cu Sd 2)).fT (cu B 8) (((n.x (cu Sd 2)).cK (cu B 8)).rd (cu A 200:Nat)).2)) l:=by
 obtain⟨i,f⟩:=bT (cu Sd 2);obtain⟨k,g⟩:=bT (cu B 8);obtain⟨m,j⟩:=bT (cu A 200);have r:i<2:=by rw[f];exact dL Sd 2 aj
 have F:k<8:=by rw[g];exact dL B 8 aj
 have M:m<200:=by rw[j];exact dL A 200 aj
 rw[<-f,<-g,<-j];have N:cu Sd 2=i:=f.symm;have O:cu B 8=k:=g.symm;have P:cu A 200=m:=j.symm;obtain⟨p,b⟩:=bT (w.alloc (.cells (mM 10 Sd A B S).toArray 37));have c:bE w p:=by rw[b];exact(qlw _ w).alloc (qj _) _
 have d:aL p w.heap.size 37 (mM 10 Sd A B S):=by rw[b];exact aL.new w 37 _
 have e:=h.below c;obtain⟨J,_⟩:=e.cells;have U:=(e.xs i r).1;have v:=d.cell 0;have x:=d.cell 1;have y:=d.cell 2;have z:=d.cell 3;simp only[mM,qml,qma]at v x y z;have u:Hid (qH 31 #[aJ a.N 0,iZ i,iZ k,iZ m] p (.bool true) fun l=>Hid (nk oZ w a (n.dA i ((n.x i).fT k (((n.x i).cK k).rd m).2)) l)):=by refine bH (Qx e s i k m r F aj) ?_;rintro l ⟨o,t,H,I⟩;exact⟨rfl,o,t,H,(Kp.below c).trans I⟩
 have Q:w.alloc (.cells #[iZ 10,iZ Sd,iZ A,iZ B,.string S] 37)=p:=b.symm;have E:(i:Int)<2:=aj;clear b d f g j e h s c;go_enter qnn,qnm;go_wp2_with (first|(go_at_call 32;refine(iO _ _ asZ gP _).mono ?_;rintro C T ⟨rfl,q⟩;subst q)|(go_at_call 31;refine u.out.mono ?_;rintro C R ⟨rfl,G⟩));go_ret;exact⟨rfl,G.out⟩
def qbt(N xb xc eb ec el Gl e C i k:Nat)(hi:i<2)(hk:k<8)(Sd A B:Int)(X:kG Sd)(hA:kG A)(I:kG B)(L:i=cu Sd 2)(M:k=cu A 8)(S m:ByteArray)(W:m.size<=2048)(gv:Bool)(j f:Nat)(K:f=cu B (m.size+1))(w d:Wq)(R D:Wq->Prop)(g:d=w.alloc (.cells (mM 3 Sd A B S).toArray 37))(c0:d.cell? (ay N 0)=some (dh xb 2 xc))(c1:d.cell? (ay N 1)=some (dh eb 2 ec))(x1:d.cell? (ay xb i)=some (aJ C 0))(e1:d.cell? (ay eb i)=some (dh el 8 Gl))(e2:d.cell? (ay el k)=some (aJ e 0))(e3:d.cell? (ay e 0)=some (.string m))(G:∀q,qH 36 #[aJ C 0,iZ k,iZ f] (d.drewN q) (iZ 0) fun b=>R b)(J:∀b,R b->b.frozen? (ay e 2)=false/\b.frozen? (ay e 3)=false/\b.cell? (ay e 2)=some (.bool gv)/\b.cell? (ay e 3)=some (iZ j))(p:gv=false\/f<j->∀b q,R b->D (((b.drewN q).setCell (ay e 3) (iZ f)).setCell (ay e 2) (.bool true)))(r:gv=true->¬f<j->∀b q,R b->D ((b.drewN q).setCell (ay e 2) (.bool true))):qH 22 #[aJ N 0,.agg #[iZ 3,iZ Sd,iZ A,iZ B,.string S]] w (.bool true) fun E=>D E:=by
 have p1:cu Sd 2=i:=L.symm;have p2:cu A 8=k:=M.symm;have l:aL d w.heap.size 37 (mM 3 Sd A B S):=by rw[g];exact aL.new w 37 _
 have Q:=l.cell 0;have T:=l.cell 1;have U:=l.cell 2;have V:=l.cell 3;simp only[mM,qml,qma]at Q T U V;have F:=aF G;have x:=aF J;have H:=aF p;have u:=aF r;have v:Hid (∀w,qH 32 #[iZ B,(iZ ((m.size:Int)+1))] w (iZ f) fun E=>E=w):=fun w=>by rw[K];exact ze B (m.size+1) I.1 I.2 aj aj w
 have uW:w.alloc (.cells #[iZ 3,iZ Sd,iZ A,iZ B,.string S] 37)=d:=g.symm;have Y:(i:Int)<2:=aj;have Z:(k:Int)<8:=aj;clear G J p r g l L M K;go_enter qnn,qnm;go_wp2_with (first|(go_at_call 32;refine(iO _ _ asZ aj _).mono ?_;rintro y w4 ⟨rfl,z⟩;subst z));clear uW;go_quiet ((go_at_call 32;exact qn6 (v.out _)));cases gv with
 |false=>go_wp2_with (go_at_call 36;refine(F.out _).mono ?_;rintro y b ⟨rfl,c⟩;obtain⟨O,P,f2,f3⟩:=x.out b c;have o:=aF (H.out (.inl rfl) b 0 c);clear c);go_ret;exact⟨rfl,o.out⟩
 |true=>
  by_cases s:f<j;·have t:(f:Int)<(j:Int):=aj;go_wp2_with (go_at_call 36;refine(F.out _).mono ?_;rintro y b ⟨rfl,c⟩;obtain⟨O,P,f2,f3⟩:=x.out b c;have o:=aF (H.out (.inr s) b 0 c);clear c);go_ret;exact⟨rfl,o.out⟩
  ·have t:¬((f:Int)<(j:Int)):=aj;go_wp2_with (go_at_call 36;refine(F.out _).mono ?_;rintro y b ⟨rfl,c⟩;obtain⟨O,P,f2,f3⟩:=x.out b c;have o:=aF (u.out rfl s b 0 c);clear c);go_ret;exact⟨rfl,o.out⟩
def Net.Lx(n:Net)(i k:Nat)(B:Int):Net:=n.dA i ((n.x i).dD k (((n.x i).out k).reset (cu B (((n.x i).out k).all.length+1):Nat)))
def Yr(h:dQ oZ w a n vb (ends n))(M:gI a.bF n)(Sd A B:Int)(J:kG Sd)(Z:kG A)(hB:kG B)(S:ByteArray):qH 22 #[aJ a.N 0,.agg #[iZ 3,iZ Sd,iZ A,iZ B,.string S]] w (.bool true) fun w'=>nk oZ w a (n.Lx (cu Sd 2) (cu A 8) B) w':=by
 obtain⟨i,O⟩:=bT (cu Sd 2);obtain⟨k,P⟩:=bT (cu A 8);have b:i<2:=by rw[O];exact dL Sd 2 aj
 have p:k<8:=by rw[P];exact dL A 8 aj
 rw[<-O,<-P];obtain⟨x,D⟩:=bT (w.alloc (.cells (mM 3 Sd A B S).toArray 37));have C:bE w x:=by rw[D];exact(qlw _ w).alloc (qj _) _
 have y:=h.loc.below C;have Q:Kp TN (loc oZ w.heap.size) (loc oZ w.heap.size) w x:=Kp.below C;obtain⟨V,W,_⟩:=y.cells;obtain⟨X,Y,_⟩:=y.Li i k b p;have L:k<(n.x i).outs.length:=by rw[(M.loc i b).lo];exact p
 have t:=(M.loc i b).wr k;obtain⟨o,E⟩:=bT ((n.x i).out k);rw[<-E]at t;have G:ends n i k=Eb o ((n.x (1-i)).cK k):=by rw[E];rfl
 have z:(⟨o.all.toArray⟩:ByteArray).size=o.all.length:=(lu _).2;have T:=(y.en i k b p).1;rw[G]at T;obtain⟨j,d⟩:=bT (cu B (o.all.length+1));have h0:j<o.all.length+1:=by rw[d];exact dL B _ aj
 have U:n.Lx i k B=n.dA i ((n.x i).dD k (o.reset j)):=by unfold Net.Lx;rw[<-E,<-d]
 obtain⟨r1,r2,r3,r4,r5,r6⟩:=JB t (j:Int);have r7:(o.reset j).aB.length=min j o.aB.length:=by rw[r6];omega
 have R:∀(l:bJ),l=[.string ⟨o.all.toArray⟩,.bool o.bG,.bool true,(iZ ((min j o.aB.length:Nat):Int)),(iZ (((n.x (1-i)).cK k).aY:Int)),(iZ (((n.x (1-i)).cK k).state:Int))]->∀f g,f<2->(if f=i/\g=k then l else ends n f g)=ends (n.Lx i k B) f g:=fun l hl f g m=>by
  rw[U,Af n i k _ b L f g m];split;·rw[hl];unfold Eb Ot.kept;rw[r5,bM rfl,r7];rfl
  ·rfl
 have N:∀c:Own,c (a.e i k)=210+8*i+k->c (a.e i k)∈TN:=fun c e=>by rw[e];exact jZ.2 aj
 refine qbt a.N a.xb a.xc a.eb a.ec (a.el i) (a.Gl i) (a.e i k) (a.C i) i k b p Sd A B J Z hB O P S ⟨o.all.toArray⟩ (by rw[z];exact t.sz) o.nt.bN o.kept j (by rw[z];exact d) w x
  (fun u=>Qv (loc oZ w.heap.size) x a vb (ends n) (T0 (60*(i+1))) (n.Lx i k B) u) (nk oZ w a (n.Lx i k B)) D V W (y.xs i b).1 X Y (T.cell 0) (fun q=>?_) ?_ ?_ ?_
 ·have:=X_ (y.below (dF x q)) M i k b p (j:Int);rw[<-E,<-U]at this;refine this.mono ?_;rintro ee u ⟨rfl,c,r,v⟩;exact⟨rfl,c,r,(Kp.below (dF x q)).trans v⟩
 ·rintro u ⟨c,r,v⟩;have B:=(r.en i k b p).1;rw[G]at B;exact⟨B.frozen 2,B.frozen 3,B.cell 2,B.cell 3⟩
 ·rintro s u q ⟨c,r,v⟩;have F:=(r.en i k b p).2;have H:=((r.below (dF u q)).OH i k b p 3 (iZ j)).OH i k b p 2 (.bool true);have I:=H.vS (E':=ends (n.Lx i k B)) (fun f g m K=>by
   refine Eq.trans ?_ (R (((Eb o ((n.x (1-i)).cK k)).set 3 (iZ j)).set 2 (.bool true)) ?_ f g m);·show(if f=i/\g=k then(if i=i/\k=k then(ends n i k).set 3 _ else ends n i k).set 2 _ else if f=i/\g=k then _ else ends n f g)=_;rw[bM (⟨rfl,rfl⟩:i=i/\k=k),G];split<;>rfl
   ·have:min j o.aB.length=j:=by
     rcases s with s|s;·rw[t.ng s];omega
     ·unfold Ot.kept at s;split at s;·omega
      ·omega
    rw[this];rfl)
  exact nk.j_ ⟨c,vb,I,Q.trans ((v.mono (sD i b)).trans ((Kp.below (dF u q)).trans ((Kp.set c _ (ay (a.e i k) 3) _ TN (N c F)).trans (Kp.set c _ (ay (a.e i k) 2) _ TN (N c F)))))⟩
 ·rintro hg s u q ⟨c,r,v⟩;have F:=(r.en i k b p).2;have H:=(r.below (dF u q)).OH i k b p 2 (.bool true);have I:=H.vS (E':=ends (n.Lx i k B)) (fun f g m K=>by
   refine Eq.trans ?_ (R ((Eb o ((n.x (1-i)).cK k)).set 2 (.bool true)) ?_ f g m);·show(if f=i/\g=k then(ends n i k).set 2 _ else ends n f g)=_;rw[G]
   ·have:min j o.aB.length=o.kept:=by
     unfold Ot.kept at s ⊢;rw[bM hg]at s ⊢;omega
    rw[this];rfl)
  exact nk.j_ ⟨c,vb,I,Q.trans ((v.mono (sD i b)).trans ((Kp.below (dF u q)).trans (Kp.set c _ (ay (a.e i k) 2) _ TN (N c F))))⟩
end

