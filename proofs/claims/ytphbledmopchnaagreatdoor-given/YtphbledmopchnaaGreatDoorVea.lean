import Derived.Test.YtphbledmopchnaaGreatDoorVde
open List renaming getElem?_eq_getElem->eT,length_take->fA,map_map->l9
open Go.RowKit renaming intOf->eB
set_option maxHeartbeats 4000000
set_option maxRecDepth 100000
open Go renaming World->Wq,Value->Wx
set_option linter.all false
namespace Go.Proofs.YtphbledmopchnaaGreatDoor.Sd
open Go.RowKit Go.Lib Mm Tryz
variable {A M:av}{B bi bl bw i now s:Nat}{E:Nat->Nat->bM}{P:Program}{Q:Exit->Act->Wq->Prop}{S:Wq->Prop}{a:List (Nat×List Fr)}{b:Array Oper}{d:List Fr}{e:Option Addr}{l:bM}{listed:Array Bool}{md:Region.Mode}{oZ:Own}{w w':Wq}
def lK{d:Nat}{a:Act}(i:Nat){oi:Oper}{v:Wx}(j:b[i]?=some oi)(h:wpAnyH P md b Q S d (listed.setIfInBounds i true) (a.put oi.dst v) w)(m:YieldsIf P b S oi v a:=by exact Or.inl ⟨by rfl,by(intro w h;(try dsimp only at h);go_simp;try with_reducible rfl)⟩)(l:Region.noSelect b=true:=by kernel_rfl)(g:Region.free md b listed i=true:=by kernel_rfl)(k:(Region.ready md b listed).contains i=true:=by kernel_rfl)(e:∀c a w,Q (.panic c) (a.put oi.dst v) w->Q (.panic c) a w:=by exact fun _ _ _ h=>h)(f:S w:=by assumption):wpAnyH P md b Q S (d+1) listed a w:=wpAnyH_take j l g k e m f h
def Qy{c:Nat}{a:Act}(i:Nat){o:Oper}(e:b[i]?=some o)(h:∀d:Act->Wq->Prop,Shut (∀a w,S w->(S w->wpAnyH P md b Q S c (listed.setIfInBounds i true) a w)->d a w)->if Region.wanted o (yielded b a.tmps)=true then Oper.wp P o a w d Q else d (a.put o.dst undef) w)(f:Region.ready md b listed=[i]:=by kernel_rfl):wpAnyH P md b Q S (c+1) listed a w:=wpAnyH_ready f (by simp) (.cons e h .nil)
theorem D6(oZ s C S bw bl bi data)(R:data.size<=1000000000)(w)(z:w.cell? (aA C 0)=some (aK S 0))(G:iM w)(F:oZ 0∉T0 s)(en)(A:SL en)(q:av->Prop)(H:∀f W,data.size<=f->f<=9223372036854775807->bJ w W->dX W (some (aA w.heap.size 0)) data.data.toList->Nn W w.heap.size data.size->bN 104 #[aK S 0,dB w.heap.size data.size f] W (nk en) fun b=>∃a,q a/\SS oZ s w S bw bl bi data.size a b):bN 29 #[aK C 0,.string data] w (.tuple #[iZ en,(iZ (-1))]) fun T=>∃a,q a/\je s oZ w S bw bl bi a T:=by
 obtain⟨f,W,Q,k,l,c,i,p⟩:=pX w data R;have y:C<w.heap.size:=iq w (aA C 0) (by rw[z]);have E:Hid (Calls prog 56 #[aK C 0,dB w.heap.size data.size f] W fun e b=>∃x,e=.returned x/\x=nk en/\∃a,q a/\SS oZ s w S bw bl bi data.size a b):=
  SK C S W (cell_of z (c.block _ y)) _ (fun x b=>x=nk en/\∃a,q a/\SS oZ s w S bw bl bi data.size a b) ((H f W k l c i p).mono fun e b I=>⟨_,I.1,rfl,I.2⟩)
 have L:Hid (∀a b,SS oZ s w S bw bl bi data.size a b->bN 42 #[nk en] b (.tuple #[iZ en,(iZ (-1))]) fun K=>SS oZ s w S bw bl bi data.size a K):=fun a b m=>by refine bK (OT _ A b (m.err G F)) ?_;rintro K P;exact⟨rfl,m.below P⟩
 clear z G F c i p H;generalize data.size=n at *
 go_enter func29,ntmps29;go_wp2_with (go_at_call 56;refine E.out.mono ?_;rintro e b ⟨x,rfl,rfl,a,g,m⟩;have r:=aG g;have t:=aG m;clear g m);clear E;go_loopw [16] (fun d wr=>∃j:Nat,j<=n/\d=(iZ j)/\Hid (SS oZ s w S bw bl bi n a wr)) (fun d _=>n-(eB d).toNat);case atStart=>grind
 case round=>
  obtain⟨j,hj,rfl,u⟩:=hrel;clear t;by_cases B:j<n
  .have J:(j:Int)<(n:Int):=aj;obtain⟨⟨v,U⟩,V⟩:(∃v,wr.cell? (aA w.heap.size j)=some v)/\wr.frozen? (aA w.heap.size j)=false:=by
    obtain⟨o,l1,v1,X,Y,O,Z⟩:=u.out;exact O.cell j B
   have M:=aG (u.out.set j (.int .u8 33));go_wp2;go_roundw;case rel=>exact⟨j+1,aj,aR,M⟩
   grind [eB]
  .obtain rfl:j=n:=aj;have N:=aG (L.out a wr u.out);go_wp2_with (go_at_call 42;refine bK N.out ?_;rintro w3 D);refine bodyPost_ret (v:=.tuple #[iZ en,(iZ (-1))]) (by simp[results,results29,go_sem]) rfl ?_;exact⟨rfl,a,r.out,D.q⟩
theorem SN(C S){Q}(n a data)(G:data.size<=1000000000)(h:gq oZ s w S l M bw bl bi Q)(F:w.cell? (aA C 0)=some (aK S 0))(D:iM w)(U:oZ 0=0)(H:Gd oZ w)(E:Bd M)(J:M.mY=0)(I:n<=dH)(B:sj true n a data.data.toList)(p:a.map norm=a)(m:a.length<=1000000)(A:∀g j,j<a.length->oq {M with aT:=M.aT.add 8 n n,bn:=M.bn||fZ a} (a.take j) g->FrC g (a.getD j jv)/\Bd g/\g.next<=dH):bN 29 #[aK C 0,.string data] w (.tuple #[iZ 0,(iZ (-1))]) fun R=>∃b,M.jJ n a b 0/\je s oZ w S bw bl bi b R:=by have X:=h.s0;have y:(0:Nat)∉T0 s:=fun e=>fT (fM.1 e);have f:data.data.toList.length=data.size:=aR;refine D6 oZ s C S bw bl bi data G w F D (by grind) 0 (.inl rfl) (fun b=>M.jJ n a b 0) ?_;intro t W V z c k q;obtain⟨o,Y,Z,u,v,i,x⟩:=Hz h c q;have d:=H.kp (Kp.below (T:=[]) c) aR;have:=SH n a w.heap.size 0 t u E J I B p m k (by grind) (by grind) z i.lt d.tab d.sz A;rw[f]at this;refine bK this ?_;rintro w1 ⟨b,O,L,K,P,N,r⟩;exact⟨rfl,b,O,L,K,P,N,by rw[r.ext _ i.lt,v],i.of_heap (r.cK _ i.lt (by grind)),x.trans r⟩
theorem H_(C S){E}(data)(y:data.size<=1000000000)(h:gq oZ s w S l M bw bl bi E)(x:w.cell? (aA C 0)=some (aK S 0))(v:iM w)(G:oZ 0=0)(z:Gd oZ w)(A:M.mY=0)(u:sj false 0 [] data.data.toList):bN 29 #[aK C 0,.string data] w (.tuple #[iZ 7,(iZ (-1))]) fun F=>je s oZ w S bw bl bi M F:=by
 have I:=h.s0;have r:(0:Nat)∉T0 s:=fun e=>fT (fM.1 e);have c:data.data.toList.length=data.size:=aR;refine(D6 oZ s C S bw bl bi data y w x v (by grind) 7 (.inr (.inr (.inr rfl))) (fun m=>m=M) ?_).mono ?_;.intro n W H t a f g;have i:=Hz h a g;obtain⟨o,B,D,j,p,k,q⟩:=i;have b:=z.kp (Kp.below (T:=[]) a) aR;have:=Hy S w.heap.size 0 n (j.open A) u f (by grind) (by grind) t k.lt b.tab b.sz;rw[c]at this;refine bK this ?_;rintro J d;exact⟨rfl,M,rfl,SS.below ⟨o,B,D,j,p,k,q⟩ d⟩
 grind
section
def BX(c)(m:Nat)(i: -9223372036854775808<=c)(d:c<=9223372036854775807)(e:0<m)(f:m<=9000000000)(w):bN 32 #[iZ c,iZ m] w (iZ (dw c m:Nat)) fun g=>g=w:=by
 have j:=aG (dR c m e);by_cases h:c<0;.have b:=aG (Kk c m h);go_enter func32,ntmps32;go_wp2;go_ret;exact⟨nS b.out,rfl⟩
 .have b:=aG (Kl c m aj);go_enter func32,ntmps32;go_wp2;go_ret;exact⟨nS b.out,rfl⟩
theorem X7(n:Net)(i):n.dM i (n.x i)=n:=by
 unfold Net.dM;have:(fun j=>if j=i then n.x i else n.x j)=n.x:=funext fun j=>by grind
 rw[this]
def qV(n:Net)(B:Nat):Prop:=(∀i,i<2->(n.x i).next+24*(B+1)<dH/\(n.x i).aV+B<9223372036854775808)/\n.now+B<9223372036854775808
def Vb(oZ:Own)(w:Wq)(a:Ad)(vb:Wx)(E:Nat->Nat->bM)(T:List Nat)(n:Net)(w':Wq):Prop:=∃b,dW b w' a n vb E/\Kp T oZ b w w'
section
variable {oZ:Own} {w:Wq} {a:Ad} {n:Net} {vb:Wx} {E:Nat->Nat->bM}
def dW.sdq(h:dW oZ w a n vb E)(i)(d:i<2)(M)(e:je (60*(i+1)) oZ w (a.S i) (a.bw i) (a.bl i) (a.bi i) M w'):Vb oZ w a vb E (T0 (60*(i+1))) (n.dM i M) w':=by obtain⟨o,l,v,c,b⟩:=e;exact⟨o,h.side b i d (fun x f=>fT (fM.1 f)) M ⟨l,v,c⟩,b⟩
theorem dW.no0(h:dW oZ w a n vb E)(i):oZ 0∉T0 (60*(i+1)):=by rw[h.o0];grind [fM]
def qhn(h:dW oZ w a n vb E)(i)(b:i<2)(g:(n.x i).aV+1<18446744073709551616)(k:(n.x i).aQ.length<=16):bN 38 #[(aK (a.C i) 0)] w (.tuple #[]) fun d=>∃v,Vb oZ w a vb E (T0 (60*(i+1))) (n.dM i {(n.x i).Ul with qv:=v}) d:=by obtain⟨l,m,f⟩:=h.sd i b;exact qh3 (a.C i) (a.S i) w (h.cn i b).1 _ ((qg4 (a.S i) f g k).mono fun e d c=>⟨c.1,c.2.elim fun v j=>⟨v,h.sdq i b _ j⟩⟩)
theorem qc8(h:dW oZ w a n vb E)(i)(c:i<2):Calls prog 57 #[(aK (a.C i) 0)] w fun e b=>∃x,e=.returned x/\GT oZ (60*(i+1)+54) 118 2 b x (n.x i).gy.length (Wn (n.x i).gy)/\dW oZ b a (n.dM i (n.x i).emp) vb E/\Kp [60*(i+1)] oZ oZ w b:=by obtain⟨l,o,j⟩:=h.sd i c;refine ME (a.C i) (a.S i) w (h.cn i c).1 _ ((MC (a.S i) j).mono fun e b k=>?_);obtain⟨x,rfl,f,g,d⟩:=k;exact⟨x,rfl,f,h.side d i c (fun x m=>by grind) _ g,d⟩
def qc9(h:dW oZ w a n vb E)(f:dU a.aZ n)(i k:Nat)(b:i<2)(m:k<8)(c):bN 36 #[(aK (a.C i) 0),iZ k,iZ c] w (iZ 0) fun g=>Vb oZ w a vb E (T0 (60*(i+1))) (n.dM i ((n.x i).dA k (((n.x i).out k).reset c))) g:=by obtain⟨l,o,j⟩:=h.sd i b;exact(qc7 (a.C i) (a.S i) k m c j (h.cn i b).1 (f.loc i b).mY ((f.bd i b).o k).b h.er (h.no0 i)).mono fun e g d=>⟨d.1,h.sdq i b _ d.2⟩
def X8(h:dW oZ w a n vb E)(j:dU a.aZ n)(i k:Nat)(b:i<2)(g:k<8):bN 35 #[(aK (a.C i) 0),iZ k] w (iZ (((n.x i).out k).finish.2:Int)) fun d=>Vb oZ w a vb E (T0 (60*(i+1))) (n.dM i ((n.x i).dA k ((n.x i).out k).finish.1)) d:=by obtain⟨l,m,f⟩:=h.sd i b;exact(XT (a.C i) (a.S i) k g f (h.cn i b).1 (j.loc i b).mY h.er (h.no0 i)).mono fun e d c=>⟨c.1,h.sdq i b _ c.2⟩
def qho(h:dW oZ w a n vb E)(d:dU a.aZ n)(i k:Nat)(b:i<2)(m:k<8)(data)(j:data.size<=1000000000):bN 34 #[(aK (a.C i) 0),iZ k,.string data] w (iZ ((((n.x i).out k).send data.data.toList).2:Int)) fun f=>Vb oZ w a vb E (T0 (60*(i+1))) (n.dM i ((n.x i).dA k (((n.x i).out k).send data.data.toList).1)) f:=by obtain⟨l,o,g⟩:=h.sd i b;exact(qh7 (a.C i) (a.S i) k m data j g (h.cn i b).1 (d.loc i b).mY ((d.bd i b).o k).b h.er (h.no0 i)).mono fun e f c=>⟨c.1,h.sdq i b _ c.2⟩
def qhp(h:dW oZ w a n vb E)(f:dU a.aZ n)(i k:Nat)(c:i<2)(m:k<8)(b):bN 58 #[(aK (a.C i) 0),iZ k,iZ b] w (.tuple #[sV (((n.x i).bH k).rd b).1,(iZ ((((n.x i).bH k).rd b).2.state:Int)),iZ 0]) fun g=>Vb oZ w a vb E (T0 (60*(i+1))) (n.dM i ((n.x i).eZ k (((n.x i).bH k).rd b).2)) g:=by obtain⟨l,o,j⟩:=h.sd i c;exact(qh9 (a.C i) (a.S i) k m b j (h.cn i c).1 (f.loc i c).mY ((f.bd i c).i k)).mono fun e g d=>⟨d.1,h.sdq i c _ d.2⟩
theorem kQ(l):(⟨l.toArray⟩:ByteArray).data.toList=l/\(⟨l.toArray⟩:ByteArray).size=l.length:=⟨aR,by simp[ByteArray.size]⟩
theorem Vd(h:dW oZ w a n vb E)(c:dU a.aZ n)(k:qV n 0)(i)(b:i<2)(y)(d:O0 a.aZ (n.x (1-i)) (n.x i) y)(j:a.aZ<=400)(g:(n.x i).gy=[]):bN 29 #[(aK (a.C i) 0),sV (bT y.1 y.2)] w (.tuple #[iZ 0,(iZ (-1))]) fun m=>∃f,(n.x i).jJ y.1 y.2 f 0/\Vb oZ w a vb E (T0 (60*(i+1))) (n.dM i f) m:=by
 obtain⟨l,z,p⟩:=h.sd i b;have q:=(k.1 i b).1;have s:=(k.1 (1-i) aj).1;have t:=d.lt;have x:=d.sz;obtain⟨o,v⟩:=kQ (bT y.1 y.2);refine(SN (a.C i) (a.S i) y.1 y.2 ⟨(bT y.1 y.2).toArray⟩ (by grind) p (h.cn i b).1 h.er h.o0 h.gd (c.bd i b) (c.loc i b).mY aj (by rw[o];exact d.dec) d.nm (fT d.ln)
  (qog (c.loc i b) (c.loc (1-i) aj) (c.two i b) (c.mU i b) (c.bd i b) (c.bd (1-i) aj) d aj aj j (by rw[g];have:=d.ln;simp;omega))).mono ?_
 rintro e m ⟨rfl,f,r,u⟩;exact⟨rfl,f,r,h.sdq i b _ u⟩
theorem O7(h:dW oZ w a n vb E)(e:dU a.aZ n)(i)(b:i<2)(l)(m:l.length<=1000000)(k:sj false 0 [] l):bN 29 #[(aK (a.C i) 0),sV l] w (.tuple #[iZ 7,(iZ (-1))]) fun c=>Vb oZ w a vb E (T0 (60*(i+1))) n c:=by obtain⟨o,p,d⟩:=h.sd i b;obtain⟨g,j⟩:=kQ l;refine bK (H_ (a.C i) (a.S i) ⟨l.toArray⟩ (by grind) d (h.cn i b).1 h.er h.o0 h.gd (e.loc i b).mY (by grind)) ?_;rintro c f;have:=h.sdq i b _ f;grind [X7]
theorem Tv(h:dW oZ w a n vb E)(i)(f:i<2)(r:fG (n.x i))(p:dL (n.x i) (n.x (1-i)))(q:dL (n.x (1-i)) (n.x i))(o:Bd (n.x i))(t:qV n 0):Calls prog 40 #[(aK (a.C i) 0)] w fun e g=>∃x,e=.returned x/\∃c b d,(n.x i).jA b d/\dW c g a (n.dM i b) vb E/\GT c 229 9 1 g x d.length (d.map fun y=>sV (bT y.1 y.2))/\Kp (Tq (60*(i+1)) 229) oZ c w g:=by obtain⟨l,F,s⟩:=h.sd i f;have u:=t.1 i f;refine(Tj 229 (a.C i) (a.S i) (n.x (1-i)) s (h.cn i f).1 h.gd aj r p q o aj aj).mono ?_;rintro e g ⟨x,rfl,b,B,c,v,z,⟨d,j,rfl⟩,A,D,k,m⟩;refine⟨x,rfl,c,b,d,j,h.side m i f (fun x C=>by grind [Iu]) b ⟨v,z,A⟩,?_,m⟩;unfold pkB at k;rw[l9,mH]at k;exact k
end

end
section
def TN:List Nat:=List.range' 60 170
theorem lu{x}:x∈TN↔60<=x/\x<230:=by grind [TN,List.mem_range']
def ny(oZ:Own)(w:Wq)(a:Ad)(n:Net)(w':Wq):Prop:=∃b vb,dW b w' a n vb (ends n)/\Kp TN oZ b w w'
def dG(w q):bJ w (w.drewN q):=⟨rfl,rfl,rfl,aI _,fun _ _=>rfl⟩
structure RdK (o:Ot) (i:dP) (bD:Nat):Prop where
 l1:(i.rd bD).1.length<=bD
 l2:i.aY+(i.rd bD).1.length<=o.all.length
 tx:(o.all.drop i.aY).take (i.rd bD).1.length=(i.rd bD).1
 s0:i.state≠0->(i.rd bD).1=[]/\(i.rd bD).2.state=i.state
 nx:(i.rd bD).2.aY=i.aY+(i.rd bD).1.length
 st:(i.rd bD).2.state=0\/(i.rd bD).2.state=1/\o.bL=true/\(i.rd bD).2.aY=o.all.length\/(i.rd bD).2.state=2/\o.nt.bG=true/\o.kept<=(i.rd bD).2.aY
theorem qcb{o i}(g:vS o)(h:nN o i)(b):RdK o i b:=by
 obtain⟨d,_,_,j,p⟩:=qj8 g h b;have f:(i.rd b).1=i.bO.take (min i.ready (max (b:Int) 0).toNat):=rfl;have m:(i.rd b).1.length<=b:=by grind
 have l:i.aY+(i.rd b).1.length<=o.all.length:=by rw[<-j];exact d.ro g
 refine⟨m,l,p.symm,fun r=>?_,j,?_⟩
 .refine⟨?_,?_⟩
  .rcases h.st with e|⟨e,_,c⟩|⟨e,c,e3⟩;.grind
   .grind
   .have:=(h.bG c).2.2.2.2;grind [List.length_eq_zero_iff,fA]
  .show(if i.state=0 then _ else i.state)=i.state;grind
 .rcases d.st with e|e|⟨e,f,c⟩;.exact .inl e
  .grind
  .obtain⟨_,k,_,q,_⟩:=d.bG f;refine .inr (.inr ⟨e,k,?_⟩);unfold Ot.kept;grind
def qlw(N xb xc eb ec el Ji e C i k j o:Nat)(hi:i<2)(_hj:j<2)(hk:k<8)(X:(1:Int)-(i:Int)=(j:Int))(D t bL cut)(F r MS v m lb:Nat)(hm:o<=1000000)(w)(R T:Wq->Prop)(c0:w.cell? (aA N 0)=some (dB xb 2 xc))(c1:w.cell? (aA N 1)=some (dB eb 2 ec))(x1:w.cell? (aA xb i)=some (aK C 0))(e1:w.cell? (aA eb j)=some (dB el 8 Ji))(e2:w.cell? (aA el k)=some (aK e 0))(P:bN 58 #[aK C 0,iZ k,iZ o] w (.tuple #[.string D,iZ v,iZ 0]) fun c=>R c)(S:∀c,R c->aS c e 80 [.string t,.bool bL,.bool cut,iZ F,iZ r,iZ MS])(hF:∀c q g,R c->T ((((c.drewN q).setCell (aA e 4) (iZ ((r+m:Nat):Int))).setCell (aA e 5) (iZ v)).drewN g))(M:D.size=m)(L:t.size=lb)(z:m<=o)(A:r+m<=lb)(Y:lb<=2048)(f:t.extract r (r+m)=D)(V:MS=0\/(MS=1\/MS=2)/\v=MS/\D=⟨#[]⟩)(B:v=0\/v=1/\bL=true/\r+m=lb\/v=2/\cut=true/\F<=r+m):bN 31 #[aK N 0,iZ i,iZ k,iZ o] w (.bool true) fun w'=>T w':=by
 have zw:=aG P;have U:=aG S;have x:=aG hF;clear P S hF;have l:=aG B;clear B;go_enter func31,ntmps31;go_wp2_with (go_at_call 58;refine zw.out.mono ?_;rintro ee c ⟨rfl,s⟩;have b:=U.out c s);have y:=aG s;have f0:=b.cell 0;have f1:=b.cell 1;have f2:=b.cell 2;have f3:=b.cell 3;have f4:=b.cell 4;have f5:=b.cell 5;have z4:=b.frozen 4;have z5:=b.frozen 5;simp only[jh,gN]at f0 f1 f2 f3 f4 f5;clear s b;have G:¬((o:Int)<(m:Int)):=aj;have H:¬((lb:Int)-(r:Int)<(m:Int)):=aj;have I:(0:Int)<=(r:Int):=aj;have J:(r:Int)<=(r:Int)+(m:Int):=aj;have K:(r:Int)+(m:Int)<=(lb:Int):=aj;rcases V with rfl|⟨hs,rfl,rfl⟩
 .go_quiet (fail);rcases l.out with rfl|⟨rfl,rfl,u⟩|⟨rfl,rfl,u⟩;.have d:=aG (x.out c nq 0 y.out);go_wp2;go_ret;exact⟨rfl,d.out⟩
  .subst u;go_wp2;have d:=aG (fun g=>x.out c nq g y.out);go_quiet (fail);go_wp2;go_ret;exact⟨rfl,d.out nq⟩
  .have Z:(F:Int)<=((r+m:Nat):Int):=aj;have O:(F:Int)<=(r:Int)+(m:Int):=aj;go_wp2;have d:=aG (fun g=>x.out c nq g y.out);go_quiet (fail);go_wp2;go_ret;exact⟨rfl,d.out nq⟩
 .have Q:m=0:=M.symm;rcases hs with rfl|rfl
  .rcases l.out with p|⟨_,rfl,u⟩|⟨p,_⟩;.cases p
   .subst Q;subst u;clear G H I J K;have G:¬((o:Int)<0):=aj;have H:¬((r:Int)-(r:Int)<0):=aj;have I:(0:Int)<=(r:Int):=aj;have J:(r:Int)<=(r:Int):=aj;have K:t.extract r r=⟨#[]⟩:=f;have W:t.size=r:=L;clear L M A z f;go_quiet (fail);go_wp2;have d:=aG (fun g=>x.out c nq g y.out);go_quiet (fail);go_wp2;go_ret;exact⟨rfl,d.out nq⟩
   .cases p
  .rcases l.out with p|⟨p,_⟩|⟨_,rfl,u⟩;.cases p
   .cases p
   .subst Q;have O:(F:Int)<=(r:Int):=aj;clear G H I J K;have G:¬((o:Int)<0):=aj;have H:¬((lb:Int)-(r:Int)<0):=aj;have I:(0:Int)<=(r:Int):=aj;have J:(r:Int)<=(r:Int):=aj;have g7:(r:Int)<=(lb:Int):=aj;have K:t.extract r r=⟨#[]⟩:=f;have W:=L;clear L M A z f u;go_quiet (fail);go_wp2;have d:=aG (fun g=>x.out c nq g y.out);go_quiet (fail);go_wp2;go_ret;exact⟨rfl,d.out nq⟩
section
variable {oZ:Own} {w:Wq} {a:Ad} {n:Net} {vb:Wx} {E:Nat->Nat->bM}
def dW.Ky(h:dW oZ w a n vb E)(i k)(b:i<2)(c:k<8):w.cell? (aA a.eb i)=some (dB (a.el i) 8 (a.Ji i))/\w.cell? (aA (a.el i) k)=some (aK (a.e i k) 0)/\∀j,w.cell? (aA (a.e i k) j)=(E i k)[j]?:=
 ⟨(h.es i b).1,(h.el i k b c).1,fun j=>(h.en i k b c).1.cell j⟩
theorem Ve(h:dW oZ w a n vb (ends n))(o:dU a.aZ n)(i k b:Nat)(l:i<2)(c:k<8)(N:b<=1000000):bN 31 #[aK a.N 0,iZ i,iZ k,iZ b] w (.bool true) fun Q=>ny oZ w a (n.dM i ((n.x i).eZ k (((n.x i).bH k).rd b).2)) Q:=by
 have K:=qcb ((o.loc (1-i) aj).wr k) ((o.mU i l).rd k) b;obtain⟨B,C,_⟩:=h.cells;obtain⟨D,s,_⟩:=h.Ky (1-i) k aj c;have m:=((o.loc (1-i) aj).wr k).sz;have z:ends n (1-i) k=Eu ((n.x (1-i)).out k) ((n.x i).bH k):=by grind [ends]
 have u:k<(n.x i).ins.length:=by rw[(o.loc i l).li];exact c
 refine qlw a.N a.xb a.xc a.eb a.ec (a.el (1-i)) (a.Ji (1-i)) (a.e (1-i) k) (a.C i) i k (1-i) b l aj c aj ⟨(((n.x i).bH k).rd b).1.toArray⟩ ⟨((n.x (1-i)).out k).all.toArray⟩ ((n.x (1-i)).out k).bL ((n.x (1-i)).out k).nt.bG ((n.x (1-i)).out k).kept ((n.x i).bH k).aY ((n.x i).bH k).state (((n.x i).bH k).rd b).2.state (((n.x i).bH k).rd b).1.length ((n.x (1-i)).out k).all.length N w
  (fun j=>Vb oZ w a vb (ends n) (T0 (60*(i+1))) (n.dM i ((n.x i).eZ k (((n.x i).bH k).rd b).2)) j) (ny oZ w a (n.dM i ((n.x i).eZ k (((n.x i).bH k).rd b).2))) B C (h.xs i l).1 D s (qhp h o i k l c b) ?_ ?_ (kQ _).2 (kQ _).2 K.l1 K.l2 m ?_ ?_ ?_
 .rintro j ⟨d,r,_⟩;have:=(r.en (1-i) k aj c).1;rw[z]at this;exact this
 .rintro j q f ⟨d,r,J⟩;have G:dW d (j.drewN q) a _ vb (ends n):=r.below ⟨rfl,rfl,rfl,aI _,fun _ _=>rfl⟩;have H:=(G.Tt (1-i) k aj c 4 (iZ ((((n.x i).bH k).aY+(((n.x i).bH k).rd b).1.length:Nat):Int))).Tt (1-i) k aj c 5 (iZ ((((n.x i).bH k).rd b).2.state:Int));have I:=H.below (dG _ f);have S:=(r.en (1-i) k aj c).2;refine⟨d,vb,I.yS fun v P L M=>?_,?_⟩
  .by_cases e:v=1-i/\P=k;.obtain⟨rfl,rfl⟩:=e;simp only[and_self,if_true];rw[z];unfold ends;rw[show 1-(1-i)=i by omega,dD,gu _ _ _ _ aj,fQ,dN ⟨rfl,u⟩,<-K.nx];rfl
   .rw[b_ e,b_ e];unfold ends;by_cases s:v=i;.subst s;rw[dD,gu _ _ _ _ aj];rfl
    .have F:v=1-i:=aj;subst F;rw[show 1-(1-i)=i by omega,dD,gu _ _ _ _ aj,fQ,b_ (fun x=>e ⟨rfl,x.1⟩)]
  .have A:Kp TN d d j (j.drewN q):=Kp.below ⟨rfl,rfl,rfl,aI _,fun _ _=>rfl⟩;have R:210+8*(1-i)+k∈TN:=lu.2 aj;exact(J.mono fun x O=>lu.2 (fT (fM.1 O))).trans (A.trans ((Kp.set d _ _ _ TN (by grind)).trans ((Kp.set d _ _ _ TN (by grind)).trans (Kp.below ⟨rfl,rfl,rfl,aI _,fun _ _=>rfl⟩))))
 .have t:=K.tx;apply ByteArray.ext;grind [ByteArray.data_extract,Array.ext']
 .by_cases y:((n.x i).bH k).state=0;.exact .inl y
  .obtain⟨p,f⟩:=K.s0 y;refine .inr ⟨?_,f,by rw[p]⟩;rcases K.st with g|g|g;.grind
   .grind
   grind
 .rcases K.st with q|⟨p,f,g⟩|⟨p,f,g⟩;.exact .inl q
  .exact .inr (.inl ⟨p,f,by rw[<-K.nx];exact g⟩)
  .exact .inr (.inr ⟨p,f,by rw[<-K.nx];exact g⟩)
end

end
section
def KdW(B:Nat)(w:Wq)(k:Option Addr)(e:List Fr):Prop:=∀j,j<e.length->∃b d f h g,k=some (aA b d)/\B<=b/\∀i,i<10->w.cell? (aA b (d+j*10+i))=(f_ (e.getD j jv) (.slice f h g))[i]?
theorem KdW.heap{B g w w' p d}(h:KdW B w p d)(r:g<=B)(s:∀b,B<=b->b<w.heap.size->w'.heap[b]?=w.heap[b]?):KdW g w' p d:=fun j u=>by obtain⟨b,f,l,o,m,e,k,q⟩:=h j u;have:=s b k (iq w (aA b _) (by rw[q 0 aj];rfl));exact⟨b,f,l,o,m,e,dx r k,fun i t=>by have v:i<(f_ (d.getD j jv) (.slice l o m)).length:=t;grind [eT,cell_of]⟩
def KdW.below(h:KdW B w e d)(f:bJ w w'):KdW B w' e d:=h.heap (aI _) fun b _ g=>f.block b g
theorem KdW.set(h:KdW B w e d)(x v)(g:x.block<B):KdW B (w.setCell x v) e d:=h.heap (aI _) fun b f _=>jg _ _ _ _ (by grind)
def X9(y:Nat×List Fr)(D:ByteArray)(g cap)(f:sj true y.1 y.2 D.data.toList)(F:y.2.map norm=y.2)(m:dX w (some (aA g 0)) D.data.toList)(I:D.size<=1000000)(G:0<D.size)(C:g<w.heap.size)(B:mM w)(z:iM w)(v:2<=w.heap.size):Calls prog 24 #[dB g D.size cap] w fun e w'=>∃h r,e=.returned (.tuple #[.agg #[uZ y.1,.slice h y.2.length r],iZ 0,(iZ (-1))])/\bJ w w'/\KdW w.heap.size w' h y.2:=by
 have t:D.data.toList.length=D.size:=aR;have:=Et true y.1 y.2 g 0 cap f m aj aj C B z v 0 rfl;rw[t]at this;refine this.mono ?_;rintro e w' ⟨s,u,rfl,l,m⟩;unfold rJ at l;rw[dN rfl]at l;obtain⟨_,J,k⟩:=l;rw[F]at k;unfold sj at f;rw[dN rfl]at f;obtain⟨h,r,p,hF⟩:=k.Uj (fun j o=>(f.2.1 j o).2);subst p;have A:=k.own;refine⟨h,r,rfl,m,fun j o=>?_⟩;obtain⟨b,q,e,d⟩:=hF.weak j o;subst e;exact⟨b,q,_,_,_,rfl,A b rfl,fun i H=>by
  rcases(show i=0\/i=1\/i=2\/i=3\/i=4\/i=5\/i=6\/i=7\/i=8\/i=9 by omega)with rfl|rfl|rfl|rfl|rfl|rfl|rfl|rfl|rfl|rfl;.exact d.c0
  .exact d.c1
  .exact d.c2
  .exact d.c3
  .exact d.c4
  .exact d.c5
  .exact d.c6
  .exact d.c7
  .exact d.c8
  .exact d.c9⟩
def nj(n:Net)(i:Nat)(Y:List (Nat×List Fr))(j c:Nat):Net:={n with dJ:=n.dJ++(Y.take j).map (fun y=>(1-i,y)),kM:=fun t=>if t=i then n.kM i+c else n.kM t}
structure Pb (fH:Own) (w0:Wq) (a:Ad) (n:Net) (E:Nat->Nat->bM) (i:Nat) (Y:List (Nat×List Fr)) (x:Wx) (j c:Nat) (oZ:Own) (w:Wq):Prop where
 nt:∃vb,dW oZ w a (nj n i Y j c) vb E
 st:GT oZ 229 9 1 w x Y.length (Y.map fun y=>sV (bT y.1 y.2))
 kp:Kp TN fH oZ w0 w
section
variable {fH oZ:Own} {w0 w w':Wq} {a:Ad} {n:Net} {E:Nat->Nat->bM} {i j c:Nat} {Y:List (Nat×List Fr)} {x:Wx}
def Pb.below(h:Pb fH w0 a n E i Y x j c oZ w)(b:bJ w w'):Pb fH w0 a n E i Y x j c oZ w':=by obtain⟨e,d⟩:=h.nt;exact⟨⟨e,d.below b⟩,h.st.kp (Kp.below (T:=[]) b) aR,h.kp.trans (Kp.below b)⟩
theorem Pb.count(h:Pb fH w0 a n E i Y x j c oZ w)(d:i<2):Pb fH w0 a n E i Y x j (c+1) oZ (w.setCell (aA a.cb i) (uZ ((n.kM i+c+1:Nat):Int))):=by
 obtain⟨f,b⟩:=h.nt;have g:=b.qoj i d (n.kM i+c+1);have K:Kp [203] oZ oZ w (w.setCell (aA a.cb i) (uZ ((n.kM i+c+1:Nat):Int))):=Kp.set oZ w _ _ _ (by rw[b.ct.2];simp);refine⟨⟨f,?_⟩,h.st.kp K aR,h.kp.trans (K.mono fun x k=>lu.2 (by grind))⟩;have e:(fun t=>if t=i then n.kM i+c+1 else(nj n i Y j c).kM t)=(nj n i Y j (c+1)).kM:=funext fun t=>by
  show _=if t=i then n.kM i+(c+1)else n.kM t;by_cases e:t=i;.grind
  .rw[b_ e,b_ e];exact b_ e
 rw[e]at g;exact g
theorem Pb.push(h:Pb fH w0 a n E i Y x j c oZ w)(T:j<Y.length)(U:n.dJ.length+Y.length<=100000000000):∃o G p f H g b d,w.cell? (aA a.N 8)=some (.slice o G p)/\(∀I,(Builtin.append_ #[46,46] I #[.slice o G p,dB w.heap.size 1 1]).run prog (w.alloc (.cells #[(iZ ((1-i:Nat):Int)),sV (bT (Y.getD j (0,[])).1 (Y.getD j (0,[])).2)] 62))=.ok (.slice f H g) b)/\(∃v,b.cell? (aA a.N 8)=some v)/\b.frozen? (aA a.N 8)=false/\Pb fH w0 a n E i Y x (j+1) c d (b.setCell (aA a.N 8) (.slice f H g)):=by
 obtain⟨X,k⟩:=h.nt;obtain⟨V,u⟩:=bU ([Value.int .i64 ((1-i:Nat):Int),sV (bT (Y.getD j (0,[])).1 (Y.getD j (0,[])).2)]);have J:=aS.new w 62 V;have q:bJ w (w.alloc (.cells V.toArray 62)):=(bP _ w).alloc (aI _) _;have r:=k.below q;obtain⟨o,p,rfl⟩:=iX k.bg;obtain⟨W,b,d,run,F,s⟩:=gI qca r.bg (aA w.heap.size 0) 1 1 V (by rw[u];rfl) (fun z C=>by
  rw[u]at C;simp[sV]at C;rcases C with rfl|rfl<;>rfl) (fun t y Q=>by
  have e:(aA w.heap.size 0).add t=(aA w.heap.size t):=by rw[gT,gG]
  rw[e,J.cell,Q]) (by grind [nj,List.length_append,List.length_map,fA])
 obtain⟨f,g,rfl⟩:=iX F;obtain⟨_,_,_,_,_,K,_⟩:=k.cells;have l:=r.Ag s aR;have O:d a.N=200:=by rw[s.ext _ r.qA.1.lt];exact r.qA.2
 have D:Kp [200] d d b (b.setCell (aA a.N 8) (.slice f ((nj n i Y j c).dJ.length+1) g)):=Kp.set d b _ _ _ (by grind);have m:Kp [204,200] oZ d w (b.setCell (aA a.N 8) (.slice f ((nj n i Y j c).dJ.length+1) g)):=(Kp.below q).trans ((s.mono aR).trans (D.mono aR));have M:(nj n i Y (j+1) c).dJ=(nj n i Y j c).dJ++[(1-i,Y.getD j (0,[]))]:=by grind [nj,List.take_add_one,eT]
 have L:b.cell? (aA a.N 8)=some (.slice o (nj n i Y j c).dJ.length p):=by rw[l.cell];rfl
 refine⟨o,_,p,f,_,g,b,d,K,fun I=>by grind,⟨_,L⟩,l.frozen 8,⟨.slice f ((nj n i Y j c).dJ.length+1) g,?_⟩,h.st.kp m aR,h.kp.trans (m.mono fun x P=>lu.2 (by grind))⟩;refine k.turn m aR aR (l.setCell 8 _) (fun R S A B=>k.D9 m R S A B dZ) (k.Iw m aR) ?_ (fun i N=>k.D_ m i N fun x P=>.inr (by grind));rw[M,O9,lM];have:=F.kp D aR;rw[u]at this;exact this
end

end
theorem qV.less{n}(h:qV n (B+1)):qV n B:=⟨fun i a=>by grind [qV],fT h.2⟩
theorem qV.to{n}(h:qV n B):qV n 0:=⟨fun i a=>by grind [qV],fT h.2⟩
theorem qV.dM{n B}(h:qV n B)(i){M}(a:M.next=(n.x i).next)(b:M.aV=(n.x i).aV):qV (n.dM i M) B:=⟨fun j c=>by grind [dD,qV,gu],h.2⟩
theorem jq{a n}(h:dU a n)(i)(c:i<2)(M)(s:rV (n.x i) (n.x (1-i)) M)(b:Bd M)(m:M.aZ=(n.x i).aZ)(e:M.next=(n.x i).next):dU a (n.dM i M):=
 h.set i c M s b m n.kM fun j d=>by grind [cases dU]
def vN(a:List (Nat×List Fr)):List (Nat×List Fr):=a.map fun y=>(y.1,y.2.map norm)
def Net.vO(n:Net)(i:Nat)(M:av)(a:List (Nat×List Fr)):Net:=
 {n.dM i M with dJ:=n.dJ++(vN a).map (fun y=>(1-i,y)),kM:=fun t=>if t=i then M.next else n.kM t}
theorem Tw{a n}(d:dU a n)(i)(c:i<2){b}(o:PkO (n.x i) (n.x (1-i)) M b):dU a (n.vO i M b):=by
 have g:=d.set i c M o.stp o.bd o.mt (fun t=>if t=i then M.next else n.kM t) (fun j _=>rfl);refine g.add _ (fun y h=>?_);obtain⟨z,k,rfl⟩:=jH.1 h;obtain⟨x,e,rfl⟩:=jH.1 k;obtain⟨f,q,p⟩:=o.ok x e;refine⟨by grind,?_⟩;have l:(n.dM i M).x (1-(1-i))=M:=by grind [dD]
 have m:(n.dM i M).x (1-i)=n.x (1-i):=gu _ _ _ _ aj;show O0 a ((n.dM i M).x (1-(1-i))) ((n.dM i M).x (1-i)) (x.1,x.2.map norm);grind [cases dU,cases PkF,qhi]
theorem qcc{n}(h:qV n (B+1))(i)(o:PkO (n.x i) A M a)(t:M.aV=(n.x i).aV):qV (n.vO i M a) B:=⟨fun j b=>by
 show((n.dM i M).x j).next+_<_/\((n.dM i M).x j).aV+B<_
 grind [dD,qV,cases PkO,gu],by have:=h.2;show n.now+B<_;omega⟩
structure FlY (aZ now c0:Nat) (j:Nat) (y:Nat×List Fr):Prop where
 c:PkC aZ y
 no:y.1=c0+j
 ne:0<y.2.length
 kd:∀f∈y.2,f.aD=7->now<=f.aJ
theorem qlx(o:PkW A M a)(r:A.aZ=i)(s:∀x∈a,∀f∈x.2,f.aD=7->now<=f.aJ)(j)(q:j<(vN a).length):FlY i now A.next j ((vN a).getD j (0,[])):=by
 have c:j<a.length:=by simpa[vN]using q
 have m:a.getD j (0,[])=a[j]:=by grind
 have e:(vN a).getD j (0,[])=((a[j]).1,(a[j]).2.map norm):=by grind [vN,eT]
 obtain⟨f,t⟩:=o.ok _ (TY c);have n:=o.nm j c;rw[m]at n;rw[r]at f;obtain⟨b,_⟩:=MR f;rw[e];refine⟨b,n,by show 0<((a[j]).2.map norm).length;rw[mH];exact List.length_pos_iff.2 f.ne,fun g p k=>?_⟩;obtain⟨d,h,rfl⟩:=jH.1 p;have l:=(f.fs d h).sn;rw[nJ d l]at k;rw[norm_eq d l,b_ aj,b_ aj,b_ aj,b_ aj,b_ aj,b_ aj,dN k];grind
theorem X_(o:PkW A M a):(vN a).map (fun y=>sV (bT y.1 y.2))=a.map fun y=>sV (bT y.1 y.2):=by unfold vN;rw[l9];refine QA fun x b=>?_;show sV (bT x.1 (x.2.map norm))=_;rw[(MR (o.ok x b).1).2]
theorem qly{n:Net}(i)(b:n.kM i=(n.x i).next)(o:PkW (n.x i) M a):nj (n.dM i M) i (vN a) (vN a).length (vN a).length=n.vO i M a:=by
 have e:(fun t=>if t=i then(n.dM i M).kM i+(vN a).length else(n.dM i M).kM t)=fun t=>if t=i then M.next else n.kM t:=funext fun t=>by
  split;.show n.kM i+_=_;grind [cases PkW,vN]
  .rfl
 unfold nj Net.vO;rw[e,AJ];rfl
theorem pF{n}(s:Sm (n.x i) M)(j k):ends n j k=ends (n.dM i M) j k:=by unfold ends Eu Ot.kept;grind [SmO,dD,cases Sm,gu,Cj]
theorem dW.qqx{a n c}(h:dW oZ w a n c E)(i)(d:i<2):w.cell? (aA a.cb i)=some (uZ (n.kM i:Int))/\w.frozen? (aA a.cb i)=false:=by obtain⟨⟨r,b⟩,_⟩:=h.ct;refine⟨?_,b.frozen i⟩;rw[b.cell];grind
theorem Tx{t x n}(h:GT oZ t 9 1 w x n l)(j)(a:j<n)(v)(b:l[j]?=some v):∃g c,x=(dB g n c)/\w.cell? (aA g j)=some v/\g<w.heap.size/\oZ g=t:=by
 rcases h with⟨_,e,_⟩|⟨g,cap,cs,rfl,ho,hB,hc1,hc2,hc3,hc4,hc5,_⟩;.omega
 .refine⟨g,cap,rfl,?_,hB.lt,ho⟩;rw[hB.cell];grind
def Pb.cells{fH oZ w0 w a n E i j c Y x}(h:Pb fH w0 a n E i Y x j c oZ w)(m:i<2):w.cell? (aA a.N 4)=some (uZ n.now)/\w.cell? (aA a.N 5)=some (iZ a.aZ)/\w.cell? (aA a.N 9)=some (dB a.cb 2 a.cc)/\w.cell? (aA a.cb i)=some (uZ ((n.kM i+c:Nat):Int))/\w.frozen? (aA a.cb i)=false/\mM w/\iM w/\2<=w.heap.size:=by obtain⟨o,b⟩:=h.nt;obtain⟨_,_,_,f,g,_,k⟩:=b.cells;obtain⟨d,l⟩:=b.qqx i m;have e:(nj n i Y j c).kM i=n.kM i+c:=dN rfl;rw[e]at d;have:=b.gd.sz;exact⟨f,g,k,d,l,b.gd.tab,b.er,aj⟩
theorem qhr(fH w0 a E i)(hi:i<2)(y1:a.aZ<=400)(sM:Wq->Prop)(c0:w0.cell? (aA a.N 0)=some (dB a.xb 2 a.xc))(x1:w0.cell? (aA a.xb i)=some (aK (a.C i) 0))(HC:Calls prog 40 #[(aK (a.C i) 0)] w0 fun e w1=>∃sa r C,e=.returned (.slice sa r C)/\Hid (∃n Y fP,r=Y.length/\n.dJ.length+Y.length<=100000000000/\n.kM i+Y.length<4611686018427387904/\(∀j,j<Y.length->FlY a.aZ n.now (n.kM i) j (Y.getD j (0,[])))/\Pb fH w0 a n E i Y (.slice sa r C) 0 0 fP w1/\∀A F,Pb fH w0 a n E i Y (.slice sa r C) Y.length Y.length A F->sM F)):bN 23 #[aK a.N 0,iZ i] w0 (.bool true) fun w'=>sM w':=by
 have zw:=aG HC;clear HC;have xy:(i:Int)<2:=aj;go_enter func23,ntmps23;go_wp2_with (go_at_call 40;refine zw.out.mono ?_;rintro e w1 ⟨sa,r,C,rfl,H1⟩);clear zw;obtain⟨n,Y,fP,hn,hb,hc,hY,hI,hF⟩:=H1.out;have HN:=aG hn;have HB:=aG hb;have HK:=aG hc;have HY:=aG hY;have HI:=aG hI;have HF:=aG hF;have y2:r<9223372036854775807:=aj;clear hn hb hc hY hI hF H1;go_loopw [6] (fun s6 wr=>∃j:Nat,j<=r/\s6=(iZ j)/\Hid (∃A,Pb fH w0 a n E i Y (.slice sa r C) j j A wr)) (fun s6 _=>r-(eB s6).toNat);case atStart=>exact⟨0,eG _,rfl,fP,HI.out⟩
 case round=>
  obtain⟨j,hj,rfl,HR⟩:=hrel;by_cases X:j<r
  .have xv:(j:Int)<(r:Int):=aj;obtain⟨A,O⟩:=HR.out;have x:j<Y.length:=fT HN.out;have u:=HY.out j x;obtain⟨y,M⟩:=bU (Y.getD j (0,[]));have t:(Y.map fun y=>sV (bT y.1 y.2))[j]?=some (sV (bT y.1 y.2)):=by grind
   rw[<-M]at u;have h0:=O.st;rw[<-HN.out]at h0;obtain⟨g,cg,eg,d0,hg,_⟩:=Tx h0 j X _ t;simp only[nR]at eg;obtain⟨rfl,_,rfl⟩:=eg;obtain⟨D,hD⟩:=bU (⟨(bT y.1 y.2).toArray⟩:ByteArray);have hf:D.data.toList=bT y.1 y.2:=by rw[hD]
   have xd:D.size=(bT y.1 y.2).length:=by grind [kQ]
   unfold sV at d0;rw[<-hD]at d0;have iD:=u.c.sz;have xo:=u.c.ps;obtain⟨cp,W,xj,xr,xt,R,hv,x7⟩:=pX wr D aj;obtain⟨p4,p5,p9,pc,pf,pT,pE,p2⟩:=O.cells hi;have hr:=O.below R;obtain⟨_,_,_,_,_,qT,qE,q2⟩:=hr.cells hi;have U:=X9 y D wr.heap.size cp (by rw[hf];exact u.c.dec) u.c.nm hv aj aj x7.lt qT qE q2;obtain⟨v,T⟩:=bU (n.kM i+j);have Z:=u.no;rw[<-T]at Z pc;rw[Z]at U;have HD:=aG U;have y7:v<4611686018427387904:=fT HK.out;have x6:=u.ne;have x5:=u.c.ln;have h8:=aG u.kd;have HP:=aG O;have V5:=aG R;have xw:D.size<=a.aZ:=aj;obtain⟨B,hw⟩:=bU y.2;rw[<-hw]at HD x6 x5 h8;have h6:=aG T;have xa:=aG (dz M hD);obtain⟨m,hm⟩:=bU B.length;rw[<-hm]at HD x6 x5;have HM:=aG hm;clear hm hw T M hD U Z O hr R hv x7 qT qE q2 pT pE p2 h0 t u HR hf xd iD xo HI;go_wp2_with (go_at_call 24;refine HD.out.mono ?_;rintro e F ⟨f,s,rfl,w,p⟩;have H:=aG w;have h7:=aG p;clear w p);obtain⟨I,Nk⟩:=bU (F.alloc (.cells #[uZ v,.slice f m s] 56));obtain⟨pb,z⟩:=bU F.heap.size;have N:bJ wr I:=by rw[Nk];have h1:=V5.out;have h2:=H.out;exact h1.trans ((h2.mono h1.size).alloc (dx h1.size h2.size) _)
   have JF:=HP.out.below N;have G:aS I pb 56 [uZ v,.slice f m s]:=by rw[Nk,z];exact aS.new F 56 _
   have x2:KdW wr.heap.size I f B:=by rw[Nk];have:=h7.out.below ((bP F.heap.size F).alloc (aI _) (.cells #[uZ v,.slice f m s] 56));exact this.heap V5.out.size fun _ _ _=>rfl
   rw[<-Nk,<-z];have y3:wr.heap.size<=pb:=by rw[z];exact dx V5.out.size H.out.size
   have xi:a.cb<wr.heap.size:=iq wr (aA a.cb i) (by rw[pc]);clear Nk z H h7 V5 xj p4 p5 p9 pf pc HD;obtain⟨q4,q5,q9,qc,qf,_,_,_⟩:=JF.cells hi;have d4:=cell_of d0 (N.block g hg);have b0:=G.cell 0;have b1:=G.cell 1;simp only[jh,gN]at b0 b1;rw[<-h6.out]at qc;have Nf:=aG (dz JF (dz G (dz x2 N)));clear JF G x2 d0;have g1:¬((a.aZ:Int)<(D.size:Int)):=aj;have g2:¬((m:Int)=0):=aj;go_quiet (fail);go_wp2;obtain⟨W5,BG⟩:=bU ((I.drewN nq).setCell (aA a.cb i) (uZ ((v:Int)+1)));have ho:Pb fH w0 a n E i Y (dB g r C) j (j+1) A W5:=by have:=(Nf.out.1.below (dG I nq)).count hi;rw[<-h6.out]at this;rw[BG];exact this
   have G:aS W5 pb 56 [uZ v,.slice f m s]:=by rw[BG];have h1:aS (I.drewN nq) pb 56 [uZ v,.slice f m s]:=Nf.out.2.1;exact h1.of_heap (jg _ _ _ _ (by show pb≠a.cb;omega))
   have x3:KdW wr.heap.size W5 f B:=by rw[BG];exact(Nf.out.2.2.1.below (dG I nq)).set _ _ xi
   rw[<-BG];have H5:=aG (dz ho (dz G x3));clear BG ho G x3 Nf q4 q5 q9 qc qf d4 b0 b1 g1 g2;go_loopw [10] (fun h4 h5=>∃k:Nat,k<=m/\h4=(iZ k)/\Hid (Pb fH w0 a n E i Y (dB g r C) j (j+1) A h5/\aS h5 pb 56 [uZ v,.slice f m s]/\KdW wr.heap.size h5 f B)) (fun h4 _=>m-(eB h4).toNat);case atStart=>exact⟨0,eG _,rfl,H5⟩
   case round=>
    obtain⟨k,hk,rfl,ha⟩:=hrel;clear H5;obtain⟨l,B2,p⟩:=ha.out;have b1:=B2.cell 1;simp only[jh,gN]at b1;by_cases y0:k<m
    .have y6:(k:Int)<(m:Int):=aj;have x4:k<B.length:=fT HM.out;obtain⟨b,xp,ra,rn,rc,rfl,xx,Q⟩:=p k x4;have w:=Q 0 aj;have xf:=Q 7 aj;simp only[jh,gN,sN]at w xf;clear Q;obtain⟨z4,_⟩:=l.cells hi;have V:=h8.out (B.getD k jv) (by rw[mZ,wH x4];exact TY _);generalize (B.getD k jv).aD=kd at *
     generalize (B.getD k jv).aJ=dl at *
     have HS:=aG (fun q=>(dz (l.below (dG wr q)) (dz (show aS (wr.drewN q) pb 56 [uZ v,.slice (some (aA b xp)) m s]from B2) (p.below (dG wr q)))));clear l B2 p;go_wp2;by_cases g1:kd=7
     .subst g1;have xz:¬((dl:Int)<(n.now:Int)):=fT (V rfl);clear V;go_quiet (fail);go_wp2;go_roundw;case rel=>exact⟨k+1,aj,aR,HS.out nq⟩
      case measure=>simp[eB];omega
     .clear V;go_quiet (fail);go_wp2;go_roundw;case rel=>exact⟨k+1,aj,aR,HS.out nq⟩
      case measure=>simp[eB];omega
    .obtain rfl:k=m:=aj;go_wp2;have h3:=l.st;rw[<-HN.out]at h3;obtain⟨M,eD⟩:=xa.out;have t:(Y.map fun y=>sV (bT y.1 y.2))[j]?=some (.string D):=by rw[T_,wH x,eD,M,mZ,wH x];rfl
     obtain⟨g2,c2,e2,d1,xl,xn⟩:=Tx h3 j X _ t;simp only[nR,tK,wO]at e2;obtain⟨⟨rfl,_,_⟩,_,rfl⟩:=e2;have xe:a.N≠g:=by obtain⟨vb,xm⟩:=l.nt;intro e;have:=xm.qA.2;rw[e,xn]at this;exact absurd this kX
     have hu:Pb fH w0 a n E i Y (dB g r C) j (j+1) A wr.drew:=l.below ⟨rfl,rfl,rfl,aI _,fun _ _=>rfl⟩;obtain⟨a0,n0,c0,a2,n2,c2,w6,jY,d8,run,⟨v6,d6⟩,f6,P⟩:=hu.push x HB.out;have eV:sV (bT (Y.getD j (0,[])).1 (Y.getD j (0,[])).2)=.string D:=by rw[eD,M];rfl
     rw[eV]at run;obtain⟨i1,hx⟩:=bU (1-i);have x0:(1:Int)-(i:Int)=(i1:Int):=aj;rw[<-hx]at run;have y4:IntKind.i64.wrap (1-(i:Int))=(i1:Int):=by rw[x0];rw[qB];omega
     have p8:wr.cell? (aA a.N 8)=some (.slice a0 n0 c0):=d8;have x8:∀ty,(Builtin.append_ #[46,46] ty #[.slice a0 n0 c0,dB wr.heap.size 1 1]).run prog ((wr.alloc (.cells #[iZ i1,.string D] 62)).drew)=.ok (.slice a2 n2 c2) w6:=run;have L:(w6.setCell (aA a.N 8) (.slice a2 n2 c2)).cell? (aA g j)=some (.string D):=by have x9:=P.st;rw[<-HN.out]at x9;obtain⟨g3,c3,e3,d3,_⟩:=Tx x9 j X _ t;simp only[nR,tK,wO]at e3;obtain⟨⟨rfl,_,_⟩,_,rfl⟩:=e3;exact d3
     have he:w6.cell? (aA g j)=some (.string D):=by rw[<-L];exact(World.cell?_setCell_far _ _ _ _ xe).symm
     have h9:=aG P;have J:((wr.alloc (.cells #[iZ i1,.string D] 62)).drew).cell? (aA g j)=some (.string D):=(tJ _ _ _ xl).trans d1;have y5:(wr.alloc (.cells #[iZ i1,.string D] 62)).cell? (aA a.N 8)=some (.slice a0 n0 c0):=(tJ _ _ _ (iq wr (aA a.N 8) (by rw[p8]))).trans p8;clear P hu run eV M eD hx x0 t h3 d8 l B2 p b1 ha;refine wp_region_held_drew (S:=fun y=>y.cell? (aA g j)=some (.string D)) bZ (by simpa using d1) (fun c=>?_);refine lK 0 rfl ?_;refine lK 1 rfl ?_;refine lK 2 rfl ?_;refine lK 3 rfl ?_;refine lK 5 rfl ?_;refine lK 6 rfl ?_;refine lK 7 rfl ?_;refine lK 8 rfl ?_;refine lK 9 rfl ?_;refine lK 10 rfl ?_;refine lK 11 rfl ?_;simp only[Act.put,yX];refine wpAnyH_ready (rs:=[4,12]) bZ aR ?_;refine AllReadyH.cons (o:=_) rfl (fun K d=>?_) (AllReadyH.cons (o:=_) rfl (fun K d=>?_) AllReadyH.nil)
     .go_simp;refine d.out _ _ (by simpa using d1) (fun c=>?_);clear d K;refine Qy 12 rfl fun K d=>?_;go_simp;refine d.out _ _ J (fun c=>?_);clear d K;refine Qy 13 rfl fun K d=>?_;refine iL _ (by rfl) _ _ _ _ (by rfl) _ _ (by rfl) (by rfl) _ _ (x8 _) ?_;refine d.out _ _ he (fun c=>?_);clear d K;refine lK 14 rfl ?_;refine lK 15 rfl ?_;simp only[Act.put,yX];refine Qy 16 rfl fun K d=>?_;go_simp;refine d.out _ _ L (fun c=>?_);clear d K;refine wpAnyH_done bZ ?_ _;go_wp2;go_roundw;case rel=>exact⟨j+1,aj,aR,jY,h9.out⟩
      case measure=>simp[eB];omega
     .go_simp;refine d.out _ _ J (fun c=>?_);clear d K;refine Qy 4 rfl fun K d=>?_;go_simp;refine d.out _ _ J (fun c=>?_);clear d K;refine Qy 13 rfl fun K d=>?_;refine iL _ (by rfl) _ _ _ _ (by rfl) _ _ (by rfl) (by rfl) _ _ (x8 _) ?_;refine d.out _ _ he (fun c=>?_);clear d K;refine lK 14 rfl ?_;refine lK 15 rfl ?_;simp only[Act.put,yX];refine Qy 16 rfl fun K d=>?_;go_simp;refine d.out _ _ L (fun c=>?_);clear d K;refine wpAnyH_done bZ ?_ _;go_wp2;go_roundw;case rel=>exact⟨j+1,aj,aR,jY,h9.out⟩
      case measure=>simp[eB];omega
  .obtain rfl:j=r:=aj;have HE:=aG (HF.out);go_wp2;go_ret;obtain⟨A,O⟩:=HR.out;have hn:=HN.out;exact⟨rfl,HE.out A _ (by rw[<-hn];exact O)⟩
theorem qht(n i Y):nj n i Y 0 0=n:=by
 have e:(fun t=>if t=i then n.kM i+0 else n.kM t)=n.kM:=funext fun t=>by grind
 unfold nj;rw[e,Dz,List.map_nil,lG]
theorem Ya{a n z}(h:dW oZ w a n z (ends n))(i)(m:i<2)(v:fG (n.x i))(u:dL (n.x i) (n.x (1-i)))(d:dL (n.x (1-i)) (n.x i))(t:Bd (n.x i))(I:(n.x i).aZ=a.aZ)(g:n.kM i=(n.x i).next)(y:qV n 0)(q:a.aZ<=400)(P:n.dJ.length<=10000000000)(H:∀M b,(n.x i).jA M b->∀x∈b,∀f∈x.2,f.aD=7->n.now<=f.aJ):bN 23 #[aK a.N 0,iZ i] w (.bool true) fun s=>∃M b,(n.x i).jA M b/\PkW (n.x i) M b/\ny oZ w a (n.vO i M b) s:=by
 obtain⟨A,_⟩:=h.cells;have F:=(y.1 i m).1;refine qhr oZ w a (ends n) i m q (fun s=>∃M b,(n.x i).jA M b/\PkW (n.x i) M b/\ny oZ w a (n.vO i M b) s) A (h.xs i m).1 ?_;refine(Tv h i m v u d t y).mono ?_;rintro e R ⟨x,rfl,B,M,b,c,E,C,D⟩;obtain⟨L,N,rfl⟩:=iX C;have o:=Ip v u d t aj c;have l:(vN b).length=b.length:=by unfold vN;grind
 have K:b.length<=24:=hwZ o.next o.top;have p:(n.dM i M).kM i=(n.x i).next:=g
 have O:dH=4611686018427387903:=rfl;refine⟨L,_,N,rfl,n.dM i M,vN b,B,l.symm,?_,?_,?_,⟨⟨z,?_⟩,?_,?_⟩,?_⟩;.show n.dJ.length+_<=_;omega
 .grind
 .intro j G;rw[p];exact qlx o I (H M b c) j G
 .rw[qht];exact E
 .grind [X_]
 .exact D.mono fun x Q=>lu.2 (by grind [Iu])
 .intro J S hF;obtain⟨r,d⟩:=hF.nt;rw[qly i g o]at d;exact⟨M,b,c,o,J,r,d.yS fun j k _ _=>pF (BR c) j k,hF.kp⟩
theorem Pd{a n m}(h:dW oZ w a n m (ends n))(c:dU a.aZ n)(g:qV n 0)(i)(b:i<2)(e:a.aZ<=400)(l:n.dJ.length<=10000000000)(k:∀M d,(n.x i).jA M d->∀x∈d,∀f∈x.2,f.aD=7->n.now<=f.aJ):bN 23 #[aK a.N 0,iZ i] w (.bool true) fun p=>∃M d,(n.x i).jA M d/\PkO (n.x i) (n.x (1-i)) M d/\ny oZ w a (n.vO i M d) p:=by have j:=(g.1 i b).1;have o:=fun{M d} (hpk:(n.x i).jA M d)=>xO (c.loc i b) (c.two i b) (c.mU i b) (c.bd i b) aj hpk;refine(Ya h i b (c.loc i b) (c.two i b) (c.mU i b) (c.bd i b) (c.mt i b) (c.ct i b) g e l k).mono ?_;grind
theorem qci{a:List (Nat×ByteArray)}{L k m}(b:a[k]?=some m)(h:(jo now (a.drop k) L).2=true):(mV now m L false).2=true/\jo now (a.drop (k+1)) (mV now m L false).1=jo now (a.drop k) L:=by grind [List.getElem?_eq_some_iff,List.drop_eq_getElem_cons,eT,Option.some.inj,jo]
def qm0(fH w0 a n z E i)(hi:i<2)(d v)(h3:d.length<=1000000)(h2:v.length<=1000000000)(w)(sM:Wq->Prop)(c0:w.cell? (aA a.N 0)=some (dB a.xb 2 a.xc))(c1:w.cell? (aA a.xb i)=some (aK (a.C i) 0))(HC:Calls prog 57 #[(aK (a.C i) 0)] w fun e R=>∃X f y,e=.returned (.slice X f y)/\Hid (f=d.length/\Np fH w0 a n z E i (.slice X f y) d v R))(hA:(jo n.now d v).2=true)(hP:∀x R,Np fH w0 a n z E i x d (jo n.now d v).1 R->sM R):bN 30 #[aK a.N 0,iZ i] w (.bool true) fun w'=>sM w':=by
 have zw:=aG HC;have HP:=aG hP;have HA:=aG hA;clear HC hP hA;have hu:(i:Int)<2:=aj;go_enter func30,ntmps30;go_wp2_with (go_at_call 57;refine zw.out.mono ?_;rintro e R ⟨X,f,y,rfl,H1⟩);clear zw c0 c1;obtain⟨hn,hI⟩:=H1.out;clear H1;obtain⟨_,_,_,ga,gc,G⟩:=hI.grs hi;obtain⟨K,I⟩:=bU v.length;rw[<-I]at G h2;have M:=aG G;have HI:=aG hI;have HN:=aG hn;have h0:=aG I;have hy:f<=1000000:=aj;clear hn hI G I h3;go_loopw [6] (fun s6 wr=>∃(k:Nat) (L:List Gm),k<=f/\s6=(iZ k)/\Hid (jo n.now (d.drop k) L=jo n.now d v/\L.length=K/\Np fH w0 a n z E i (.slice X f y) d L wr)) (fun s6 _=>f-(eB s6).toNat);case atStart=>exact⟨0,v,eG _,rfl,rfl,h0.out.symm,HI.out⟩
 case round=>
  obtain⟨k,L,hk,rfl,S⟩:=hrel;by_cases hw:k<f
  .have h9:(k:Int)<(f:Int):=aj;obtain⟨hA1,U,D⟩:=S.out;have H:k<d.length:=fT HN.out;obtain⟨m,V⟩:∃m,d[k]?=some m:=⟨_,wH H⟩;obtain⟨P,mc,s,_,_⟩:=D.msg k m V;simp only[nR]at s;obtain⟨rfl,J,rfl⟩:=s;clear J;obtain⟨hf,hA2⟩:=qci V (by rw[hA1];exact HA.out);have HX:=aG (dz V (dz hf (hA2.trans hA1)));have A:=aG (dz U D);clear V hf hA2 hA1 U D S HI;go_wp2;go_loopw [7,8] (fun s7 s8 h8=>∃j:Nat,j<=K/\s8=(iZ j)/\Hid (∃(b:Bool) (r:List Gm),s7=.bool b/\Vg n.now m L r j b/\r.length=K/\Np fH w0 a n z E i (dB P f y) d r h8)) (fun _ s8 _=>K-(eB s8).toNat);case atStart=>exact⟨0,eG _,rfl,false,L,rfl,Vg.start _ _ _,A.out.1,A.out.2⟩
   case round=>
    obtain⟨j,hj,rfl,C⟩:=hrel;obtain⟨b,r,rfl,T,t,o⟩:=C.out;obtain⟨p2,p4,pg,_⟩:=o.grs hi;rw[M.out]at pg;clear A;by_cases hv:j<K
    .have x3:(j:Int)<(K:Int):=aj;obtain⟨hc,he,p,e1,q1,W,q3,q4,q5,q6,q7⟩:=o.at hi j aj;rw[M.out]at e1;simp only[nR]at e1;obtain⟨rfl,J,rfl⟩:=e1;clear J;obtain⟨x0,x2,s,m1,m2⟩:=o.msg k m HX.out.1;simp only[nR,tK,wO]at s;obtain⟨⟨rfl,h4,h5⟩,h6,rfl⟩:=s;clear h4 h5 h6;have HQ:=aG q7;have Y:=aG o;have HG:=aG T;have l:=aG t;clear q7 o T t C;obtain⟨g,hg⟩:=bU (r.getD j BU);rw[<-hg]at W q3 q4 q5 HQ;have B:=aG hg;clear hg;by_cases Q:g.id=m.1
     .have hr:((g.id:Int)=(m.1:Int)):=aj;have ha:Hid (∀q W,Np fH w0 a n z E i (dB P f y) d (r.set j {g with aT:=true}) (((wr.drewN q).drewN W).setCell (aA p 3) (.bool true))):=fun q W=>HQ.out _ ⟨rfl,rfl,rfl,aI _,fun _ _=>rfl⟩;have c:=aG (HG.out.hit (fT l.out) (by rw[<-B.out];exact Q));rw[<-B.out]at c;go_wp2;go_quiet (fail);go_wp2;have u:Hid (∀q,Np fH w0 a n z E i (dB P f y) d (r.set j {g with aT:=true}) ((wr.drewN q).setCell (aA p 3) (.bool true))):=fun q=>HQ.out _ (dG wr q);by_cases F:g.data=m.2
      .rw[decide_eq_true F]at c;cases N:g.aT with
       |true=>
        rw[N]at c q5;go_quiet (fail);go_wp2;go_roundw;case rel=>exact⟨j+1,aj,aR,false,_,rfl,c.out,by rw[yV];exact l.out,u.out _⟩
        case measure=>simp[eB];omega
       |false=>
        rw[N]at c q5;by_cases O:n.now<=g.dl
        .have h7:(n.now:Int)<=(g.dl:Int):=aj;rw[decide_eq_true O]at c;go_quiet (fail);go_wp2;go_roundw;case rel=>exact⟨j+1,aj,aR,true,_,rfl,c.out,by rw[yV];exact l.out,u.out _⟩
         case measure=>simp[eB];omega
        .have h7:¬((n.now:Int)<=(g.dl:Int)):=aj;rw[decide_eq_false O]at c;go_quiet (fail);go_wp2;go_roundw;case rel=>exact⟨j+1,aj,aR,false,_,rfl,c.out,by rw[yV];exact l.out,u.out _⟩
         case measure=>simp[eB];omega
      .rw[decide_eq_false F]at c;have ho:(g.data.toList==m.2.toList)=false:=by
        rw[beq_eq_false_iff_ne,QM,QM];exact fun e=>F (ByteArray.ext (YI e))
       go_quiet (fail);go_wp2;go_roundw;case rel=>exact⟨j+1,aj,aR,false,_,rfl,c.out,by rw[yV];exact l.out,u.out _⟩
       case measure=>simp[eB];omega
     .have hx:¬((g.id:Int)=(m.1:Int)):=aj;have Le:Hid (∀q,Np fH w0 a n z E i (dB P f y) d r (wr.drewN q)):=fun q=>Y.out.below (dG wr q);go_wp2;go_quiet (fail);go_wp2;go_roundw;case rel=>exact⟨j+1,aj,aR,b,r,rfl,HG.out.skip (fT l.out) (by rw[<-B.out];exact Q),l.out,Le.out nq⟩
      case measure=>simp[eB];omega
    .obtain rfl:j=K:=aj;have hd:=Vg.done (by rw[t];exact T);have hb:b=true:=by have:=HX.out.2.1;rw[hd]at this;exact this
     subst hb;have Z:Hid (jo n.now (d.drop (k+1)) r=jo n.now d v/\r.length=j/\Np fH w0 a n z E i (dB P f y) d r wr):=by have:=HX.out.2.2;rw[hd]at this;exact⟨this,t,o⟩
     clear hd T t o C;go_wp2;go_roundw;case rel=>exact⟨k+1,r,aj,aR,Z⟩
     case measure=>simp[eB];omega
  .obtain rfl:k=f:=aj;obtain⟨hA1,U,D⟩:=S.out;have H:d.drop k=[]:=by rw[HN.out,KZ]
   rw[H]at hA1;have e2:(jo n.now d v).1=L:=by rw[<-hA1];rfl
   rw[<-e2]at D;have Z:=aG (HP.out _ _ D);clear hA1 U D S;go_wp2;go_ret;exact⟨rfl,Z.out⟩
theorem KD(n:Net)(i):n.uG i (n.gr i)=n:=by
 unfold Net.uG;have:(fun j=>if j=i then n.gr i else n.gr j)=n.gr:=funext fun j=>by grind
 rw[this]
theorem Vh{a n g}(h:dW oZ w a n g E)(i)(d:i<2)(f:(n.x i).gy.length<=1000000)(c:(n.gr (1-i)).length<=1000000000)(o:(jo n.now (n.x i).gy (n.gr (1-i))).2=true):bN 30 #[aK a.N 0,iZ i] w (.bool true) fun k=>∃b,dW b k a ((n.dM i (n.x i).emp).uG (1-i) (jo n.now (n.x i).gy (n.gr (1-i))).1) g E/\Kp [60*(i+1),207,208] oZ b w k:=by
 obtain⟨l,_⟩:=h.cells;refine qm0 oZ w a (n.dM i (n.x i).emp) g E i d (n.x i).gy (n.gr (1-i)) f c w _ l (h.xs i d).1 ((qc8 h i d).mono ?_) o ?_;.rintro e t ⟨x,rfl,j,v,m⟩;obtain⟨r,s,rfl,_⟩:=j.shape;refine⟨r,_,s,rfl,rfl,oZ,?_,j,m.mono aR⟩;have u:(n.dM i (n.x i).emp).uG (1-i) (n.gr (1-i))=n.dM i (n.x i).emp:=KD (n.dM i (n.x i).emp) (1-i);grind
 .rintro x t ⟨b,p,_,q⟩;exact⟨b,p,q⟩
