import Derived.Test.YtphbledmopchnaaGreatDoorLgc
open Go.RowKit.Below renaming heap_setCell->eT,refl->mK
open Bool renaming and_eq_true->eB
open List renaming getElem?_cons_succ->lg,getElem?_cons_zero->mE
open Nat renaming le_refl->mI,zero_add->mY
open Go.World renaming size_alloc->j3
set_option maxHeartbeats 2000000
set_option maxRecDepth 100000
namespace Go.Proofs.YtphbledmopchnaaGreatDoor.Sd
open Go.RowKit Go.Lib Mm Tryz
theorem Ng{oZ:Own}{s:Nat}{S bw bl bi ab:Nat}{x:Src}{iw xY:av->bW->Bool}{nx:av->bW->Int->Option (Fr×av×bW)}(w:World)(h:jE oZ s w S bw bl bi ab x iw xY nx):Calls prog 201 #[aI S 0,nL x] w fun e w'=>∃d aY,e=.returned (nL d)/\Kp [] oZ aY w w'/\d.u=x.u/\d.y=true/\jE aY s w' S bw bl bi ab d (fun M aF=> !M.full&&iw M aF) xY nx:=by
 obtain⟨n1,n2,h1,u,z,A,B,C⟩:=h.fn;obtain⟨n,m⟩:=bZ (.func (.func 248) #[] #[(aI (w.heap.size+1+1+1) 0),aI w.heap.size 0]:Value);obtain⟨W,l⟩:=bZ (((((w.alloc (.cells #[aI S 0] 128)).alloc (.cells #[iZ x.u,.func x.f1 x.p1 x.k1,n,.bool true] 304)).alloc (.cells #[iZ 0,.nilFunc,.nilFunc,.bool false] 304)).alloc (.cells #[.func x.f2 x.p2 x.k2] 302)));have B0:aS W w.heap.size 128 [aI S 0]:=by rw[l];exact((aS.new w 128 _).alloc _).alloc _ |>.alloc _
 have G:aS W (w.heap.size+1+1) 304 [iZ 0,.nilFunc,.nilFunc,.bool false]:=by rw[l];have:=(aS.new ((w.alloc (.cells #[aI S 0] 128)).alloc (.cells #[iZ x.u,.func x.f1 x.p1 x.k1,n,.bool true] 304)) 304 [iZ 0,.nilFunc,.nilFunc,.bool false]).alloc (.cells #[.func x.f2 x.p2 x.k2] 302);simpa only[j3]using this
 have p:aS W (w.heap.size+1+1+1) 302 [.func x.f2 x.p2 x.k2]:=by rw[l];have:=aS.new (((w.alloc (.cells #[aI S 0] 128)).alloc (.cells #[iZ x.u,.func x.f1 x.p1 x.k1,n,.bool true] 304)).alloc (.cells #[iZ 0,.nilFunc,.nilFunc,.bool false] 304)) 302 [.func x.f2 x.p2 x.k2];simpa only[j3]using this
 have hb:bJ w W:=by rw[l];exact((((mK _ w).alloc (mI _) _).alloc aP _).alloc (by simp;omega) _).alloc (by simp;omega) _
 have gQ:W.heap.size=w.heap.size+4:=by rw[l];simp
 obtain⟨j,g⟩:=bZ (fun b=>if b<w.heap.size then oZ b else if b=w.heap.size+2 then s+52 else s+47:Own);have o:Kp [] oZ j w W:=⟨hb.os,hb.tape,hb.output,hb.size,fun b a _=>hb.block b a,fun b a=>by rw[g];exact bK a⟩;have o0:j w.heap.size=s+47:=by rw[g];simp
 have E:j (w.heap.size+1+1)=s+52:=by rw[g];show(if w.heap.size+1+1<w.heap.size then oZ _ else if w.heap.size+1+1=w.heap.size+2 then s+52 else s+47)=_;rw[aU aj,bK rfl]
 have F:j (w.heap.size+1+1+1)=s+47:=by rw[g];show(if w.heap.size+1+1+1<w.heap.size then oZ _ else if w.heap.size+1+1+1=w.heap.size+2 then s+52 else s+47)=_;rw[aU aj,aU aj]
 rw[u]at p;have D:jE j s W S bw bl bi ab ⟨x.u,x.f1,x.p1,x.k1,.func 248,#[],#[(aI (w.heap.size+1+1+1) 0),aI w.heap.size 0],true⟩ iw xY nx:=
  ⟨n1,248,h1,rfl,z,enters_of func248 bH rfl,B.kp (o.mono aP),Zb _ _ A ⟨F,p⟩ ⟨o0,B0⟩ (C.kp (o.mono aP))⟩
 have H:Hid (Calls prog 205 #[aI S 0,.agg #[iZ x.u,.func x.f1 x.p1 x.k1,n,.bool true]] W fun e w'=>∃f f1 p1 k1 f2 p2 k2 y',e=.returned (.agg #[iZ f,.func f1 p1 k1,.func f2 p2 k2,.bool y'])/\aS w' (w.heap.size+1+1) 304 [iZ 0,.nilFunc,.nilFunc,.bool false]/\Hid (f=x.u/\y'=true/\∀i,nE (w.heap.size+1+1) w' i->∃aY,Kp [] oZ aY w i/\jE aY s i S bw bl bi ab ⟨f,f1,p1,k1,f2,p2,k2,y'⟩ (fun M aF=> !M.full&&iw M aF) xY nx)):=by
  have:=vL W D;rw[m];refine this.mono ?_;rintro e w' ⟨d,rfl,a,Q,R,r⟩;refine⟨d.u,d.f1,d.p1,d.k1,d.f2,d.p2,d.k2,d.y,rfl,gB a G,Q,R,fun i ht=>⟨Ir j s W.heap.size,?_,?_⟩⟩;·have k:=o.trans (G9 (oZ:=j) (s:=s) a);exact⟨ht.os.trans k.os,ht.tape.trans k.tape,ht.output.trans k.output,by rw[ht.size];exact k.size,fun b q P=>(ht.block b aj).trans (k.cZ b q P),k.ext⟩
  ·refine r.kp (ht.kpt (T:=Tb s) ?_);rw[Gq _ _ _ _ aj,E];exact ji.2 aj
 clear D o o0 E F g h1 u z A B C h B0 p hb;go_enter func201,ntmps201;go_wp2_with (first|(go_at_call 205;rw[<-m,<-l];refine H.out.mono ?_;rintro e y ⟨f,f1,p1,k1,f2,p2,k2,y',rfl,c,I⟩;have y0:=c.cell 0;have y1:=c.cell 1;have y2:=c.cell 2;have y3:=c.cell 3;simp only[mE,lg]at y0 y1 y2 y3;have yf:=c.frozen)|go_in);have O:=mq (w.heap.size+1+1) [iZ f,.func f1 p1 k1,.func f2 p2 k2,.bool y'] 0 y;have hB:=ou [iZ f,.func f1 p1 k1,.func f2 p2 k2,.bool y'] 0 y _ c;have t:nJ (w.heap.size+1+1) 0 [iZ f,.func f1 p1 k1,.func f2 p2 k2,.bool y'] y=(((y.setCell (aB (w.heap.size+1+1) 0) (iZ f)).setCell (aB (w.heap.size+1+1) 1) (.func f1 p1 k1)).setCell (aB (w.heap.size+1+1) 2) (.func f2 p2 k2)).setCell (aB (w.heap.size+1+1) 3) (.bool y'):=rfl;rw[<-t];clear t;generalize nJ (w.heap.size+1+1) 0 [iZ f,.func f1 p1 k1,.func f2 p2 k2,.bool y'] y=i at *
 have J:i.cell? (aB (w.heap.size+1+1) 0)=some (iZ f):=hB.cell 0;have K:i.cell? (aB (w.heap.size+1+1) 1)=some (.func f1 p1 k1):=hB.cell 1;have L:i.cell? (aB (w.heap.size+1+1) 2)=some (.func f2 p2 k2):=hB.cell 2;have N:i.cell? (aB (w.heap.size+1+1) 3)=some (.bool y'):=hB.cell 3;obtain⟨U,V,X⟩:=I.out;obtain⟨aY,Y,Z⟩:=X i O;exact bodyPost_ret (v:=.agg #[iZ f,.func f1 p1 k1,.func f2 p2 k2,.bool y']) (by simp[results,results201,go_sem,J,K,L,N]) rfl ⟨⟨f,f1,p1,k1,f2,p2,k2,y'⟩,aY,rfl,Y,U,V,Z⟩
section
theorem jE.to{oZ:Own}{s:Nat}{w:World}{S bw bl bi ab:Nat}{x:Src}{iw xY:av->bW->Bool}{nx:av->bW->Int->Option (Fr×av×bW)}(h:jE oZ s w S bw bl bi ab x iw xY nx)(u:Nat)(k:∀M aF,iw M aF=M.aK aF u)(hi:∀M aF,M.aK aF u=true->zB aF=true->xY M aF=true)(j:∀M aF au,Wk M->M.frame aF u au=nx M aF au):jE oZ s w S bw bl bi ab x (fun M aF=>M.aK aF u) (fun M aF=>M.aK aF u&&zB aF) (fun M aF au=>M.frame aF u au):=by
 obtain⟨n1,n2,h1,b,c,d,f,g⟩:=h.fn;refine⟨n1,n2,h1,b,c,d,?_,g.mono (fun M aF e=>?_) (fun M aF au a _=>j M aF au a)⟩;·intro aY w' M aF K i a;have:=f aY w' M aF K i a;rw[k M aF]at this;exact this
 ·rw[eB]at e;exact hi M aF e.1 e.2
theorem Nh{M:av}(h:Wk M):M.n_=0:=by unfold av.n_;rw[h.q]
theorem JQ{oZ:Own}{s:Nat}{w:World}{S bw bl bi ab:Nat}{x:Src}(h:jE oZ s w S bw bl bi ab x (fun M _=> !M.full&&M.gr.aK M.aQ) (fun M _=>M.gr.aK M.aQ) (fun M aF au=>(M.gr.next 5 0 M.aQ au).map fun x=>(x.1,{M with gr:=x.2},aF))):jE oZ s w S bw bl bi ab x (fun M aF=>M.aK aF 8) (fun M aF=>M.aK aF 8&&zB aF) (fun M aF au=>M.frame aF 8 au):=
 h.to 8 (fun M aF=>rfl) (fun M aF e _=>by
  have a:(!M.full&&M.gr.aK M.aQ)=true:=e;rw[eB]at a;exact a.2) (fun M aF au b=>by
  show(M.gr.next 5 0 M.aQ (au-M.n_)).map _=_;rw[Nh b];simp)
theorem En{oZ:Own}{s:Nat}{w:World}{S bw bl bi ab:Nat}{x:Src}(k:Nat)(d:k<8)(h:jE oZ s w S bw bl bi ab x (fun M _=> !M.full&&(M.bF k).dh) (fun M _=>(M.bF k).dh) (fun M aF au=>((M.bF k).gr.next 6 k (M.bF k).aQ au).map fun x=>(x.1,M.eG k {M.bF k with gr:=x.2},aF))):jE oZ s w S bw bl bi ab x (fun M aF=>M.aK aF (16+k)) (fun M aF=>M.aK aF (16+k)&&zB aF) (fun M aF au=>M.frame aF (16+k) au):=by
 have a:16+k-16=k:=aj;have b:∀(M:av) (aF:bW),M.aK aF (16+k)=(!M.full&&(M.bF k).dh):=fun M aF=>by unfold av.aK;rw[aU aj,aU aj,bK aj,a]
 refine h.to (16+k) (fun M aF=>(b M aF).symm) (fun M aF e _=>?_) (fun M aF au c=>?_);·rw[b,eB]at e;exact e.2
 ·unfold av.frame;rw[aU aj,aU aj,bK aj,a,Nh c];simp
theorem JR{oZ:Own}{s:Nat}{w:World}{S bw bl bi ab:Nat}{x:Src}(k:Nat)(d:k<8)(h:jE oZ s w S bw bl bi ab x (fun M _=> !M.full&&(M.out k).nt.aK (M.out k).ay.length) (fun M _=>(M.out k).nt.aK (M.out k).ay.length) (fun M aF au=>((M.out k).nt.next k (M.out k).ay.length au).map fun x=>(x.1,M.dD k {M.out k with nt:=x.2},aF))):jE oZ s w S bw bl bi ab x (fun M aF=>M.aK aF (24+k)) (fun M aF=>M.aK aF (24+k)&&zB aF) (fun M aF au=>M.frame aF (24+k) au):=by
 have a:24+k-24=k:=aj;have b:∀(M:av) (aF:bW),M.aK aF (24+k)=(!M.full&&(M.out k).nt.aK (M.out k).ay.length):=fun M aF=>by unfold av.aK;rw[aU aj,aU aj,aU aj,bK aj,a]
 refine h.to (24+k) (fun M aF=>(b M aF).symm) (fun M aF e _=>?_) (fun M aF au c=>?_);·rw[b,eB]at e;exact e.2
 ·unfold av.frame;rw[aU aj,aU aj,aU aj,bK aj,a,Nh c];simp
theorem VQ{oZ:Own}{s:Nat}{w:World}{S bw bl bi ab:Nat}{x:Src}(k:Nat)(h:jE oZ s w S bw bl bi ab x (fun M _=> !M.full&&(M.out k).aK M.aN) (fun M _=>(M.out k).aK M.aN) (fun M aF au=>((M.out k).next k au M.aN).map fun x=>(x.1,M.dD k x.2,aF))):jE oZ s w S bw bl bi ab x (fun M aF=>M.aK aF (40+k)) (fun M aF=>M.aK aF (40+k)&&zB aF) (fun M aF au=>M.frame aF (40+k) au):=by
 have a:40+k-40=k:=aj;have b:∀(M:av) (aF:bW),M.aK aF (40+k)=(!M.full&&(M.out k).aK M.aN):=fun M aF=>by unfold av.aK;rw[aU aj,aU aj,aU aj,aU aj,aU aj,a]
 refine h.to (40+k) (fun M aF=>(b M aF).symm) (fun M aF e _=>?_) (fun M aF au _=>?_);·rw[b,eB]at e;exact e.2
 ·unfold av.frame;rw[aU aj,aU aj,aU aj,aU aj,aU aj,a]
theorem RB{oZ:Own}{s:Nat}{w:World}{S bw bl bi ab:Nat}{x:Src}(h:jE oZ s w S bw bl bi ab x (fun M _=> !M.full&&decide (0<M.fq.length)) (fun M _=>decide (0<M.fq.length)) (fun M aF au=>if au<M.n_ then none else M.fq.head?.map fun f=>(f,{M with fq:=M.fq.tail},aF))):jE oZ s w S bw bl bi ab x (fun M aF=>M.aK aF 32) (fun M aF=>M.aK aF 32&&zB aF) (fun M aF au=>M.frame aF 32 au):=
 h.to 32 (fun M aF=>rfl) (fun M aF e _=>by have a:(!M.full&&decide (0<M.fq.length))=true:=e;rw[eB]at a;exact a.2) (fun M aF au b=>rfl)
structure RG (oZ:Own) (s:Nat) (w:World) (S bw bl bi ab:Nat) (D:Nat->Src) (p:Nat) (v:Value) (Q:List Nat) (M:av) (aF:bW):Prop where
 qs:QsM oZ s w S bw bl bi ab D p v Q
 z:qM oZ s w S bw bl bi ab D 0
 env:Env oZ s w S bw bl bi ab M aF
theorem RG.new{oZ a:Own}{s:Nat}{w w1:World}{S bw bl bi ab:Nat}{D:Nat->Src}{p:Nat}{v:Value}{Q:List Nat}{M:av}{aF:bW}(h:RG oZ s w S bw bl bi ab D p v Q M aF)(K:Kp [] oZ a w w1):RG a s w1 S bw bl bi ab D p v Q M aF:=
 ⟨h.qs.kp K aP aP aP,h.z.kp (K.mono aP),h.env.kp K aP aP aP⟩
theorem qc7{oZ:Own}{s:Nat}{S bw bl bi ab:Nat}{D:Nat->Src}{p:Nat}{v:Value}{Q:List Nat}{M:av}{aF:bW}(w:World)(h:RG oZ s w S bw bl bi ab D p v Q M aF)(x:Src)(u:Nat)(t:x.u=(u:Int))(A:x.y=jr u)(q:u∉Q)(n:u≠0)(hl:Q.length<1000)(y:jE oZ s w S bw bl bi ab x (fun M aF=>M.aK aF u) (fun M aF=>M.aK aF u&&zB aF) (fun M aF au=>M.frame aF u au)):Calls prog 199 #[aI p 0,nL x] w fun e w'=>e=.returned (.tuple #[])/\∃aY a v',RG aY s w' S bw bl bi ab a p v' (dZ Q u) M aF/\Kp [s+45,s+46] oZ aY w w':=by
 obtain⟨a,c⟩:=bZ (fun j=>if j=u then x else D j:Nat->Src);have i:a u=x:=by rw[c];exact bK rfl
 have en:∀j,j≠u->a j=D j:=fun j b=>by rw[c];exact aU b
 have f:∀j:Nat,(a j).u=(j:Int):=fun j=>by
  by_cases b:j=u;·rw[b,i];exact t
  ·rw[en j b];exact h.qs.hd j
 have l:AB oZ (s+45) a w p v Q:=⟨h.qs.hq.op,h.qs.hq.pb,by rw[Dc a D Q fun j b=>en j (fun e=>q (e▸b))];exact h.qs.hq.sr⟩;have r:∀j∈Q,qM oZ s w S bw bl bi ab a j:=fun j b=>by have:=h.qs.hs j b;unfold qM at this ⊢;rw[en j (fun e=>q (e▸b))];exact this
 have d:qM oZ s w S bw bl bi ab a 0:=by have:=h.z;unfold qM at this ⊢;rw[en 0 (fun e=>n e.symm)];exact this
 have k:qM oZ s w S bw bl bi ab a u:=by unfold qM;rw[i];exact⟨A,y⟩
 have:=Bc oZ (s+45) a f w p v Q u hl l;rw[i]at this;refine bN this ?_;rintro w' ⟨aY,v',m,K⟩;have g:Kp [s+45,s+46] oZ aY w w':=K;have o:Kp (Tb s) oZ aY w w':=g.mono fun z hz=>ji.2 (by simp at hz;omega);exact⟨rfl,aY,a,v',⟨⟨f,m,fun j b=>qM.kp (Lp.push (P:=qM oZ s w S bw bl bi ab a) d r u k j b) o⟩,d.kp o,h.env.kp g (by simp;omega) aP aP⟩,g⟩
section
variable (fJ:Own) (s:Nat) (w0:World) (S bw bl bi ab p:Nat) (M:av) (aF:bW)
def Qk(w:World)(Q:List Nat):Prop:=∃oZ D v,RG oZ s w S bw bl bi ab D p v Q M aF/\Kp (Tb s) fJ oZ w0 w
def Rk(w:World)(Q:List Nat)(x:Src)(u:Nat)(y:Bool)(iw xY:av->bW->Bool)(nx:av->bW->Int->Option (Fr×av×bW)):Prop:=
 ∃oZ D v,RG oZ s w S bw bl bi ab D p v Q M aF/\Kp (Tb s) fJ oZ w0 w/\jE oZ s w S bw bl bi ab x iw xY nx/\x.u=(u:Int)/\x.y=y
end

section
variable {fJ:Own} {s:Nat} {w0:World} {S bw bl bi ab p:Nat} {M:av} {aF:bW}
theorem Qk.mk{w:World}{Q:List Nat}(h:Qk fJ s w0 S bw bl bi ab p M aF w Q){n:Nat}{args:Array Value}{u:Nat}{iw xY:av->bW->Bool}{nx:av->bW->Int->Option (Fr×av×bW)}(c:∀oZ,Calls prog n args w fun e w'=>∃a,e=.returned (nL a)/\bJ w w'/\a.u=(u:Int)/\a.y=false/\jE (Ir oZ s w.heap.size) s w' S bw bl bi ab a iw xY nx):Calls prog n args w fun e w'=>∃a,e=.returned (nL a)/\Hid (Rk fJ s w0 S bw bl bi ab p M aF w' Q a u false iw xY nx):=by obtain⟨oZ,D,v,hq,K⟩:=h;refine(c oZ).mono ?_;rintro e w' ⟨a,rfl,hb,d,g,f⟩;have b:Kp [] oZ (Ir oZ s w.heap.size) w w':=G9 hb;exact⟨a,rfl,_,D,v,hq.new b,K.trans (b.mono aP),f,d,g⟩
theorem Rk.beside{w:World}{Q:List Nat}{x:Src}{u:Nat}{y:Bool}{iw xY:av->bW->Bool}{nx:av->bW->Int->Option (Fr×av×bW)}(h:Rk fJ s w0 S bw bl bi ab p M aF w Q x u y iw xY nx):Calls prog 201 #[aI S 0,nL x] w fun e w'=>∃a,e=.returned (nL a)/\Hid (Rk fJ s w0 S bw bl bi ab p M aF w' Q a u true (fun M aF=> !M.full&&iw M aF) xY nx):=by obtain⟨oZ,D,v,hq,K,i,g,j⟩:=h;refine(Ng w i).mono ?_;rintro e w' ⟨a,aY,rfl,f,b,d,c⟩;exact⟨a,rfl,aY,D,v,hq.new f,K.trans (f.mono aP),c,by rw[b,g],d⟩
theorem Rk.au{w:World}{Q:List Nat}{x:Src}{u:Nat}{y:Bool}{iw xY:av->bW->Bool}{nx:av->bW->Int->Option (Fr×av×bW)}(h:Rk fJ s w0 S bw bl bi ab p M aF w Q x u y iw xY nx):Calls prog 205 #[aI S 0,nL x] w fun e w'=>∃a,e=.returned (nL a)/\Hid (Rk fJ s w0 S bw bl bi ab p M aF w' Q a u y (fun M aF=> !M.full&&iw M aF) xY nx):=by obtain⟨oZ,D,v,hq,K,i,g,j⟩:=h;refine(vL w i).mono ?_;rintro e w' ⟨a,rfl,hb,b,d,c⟩;have f:Kp [] oZ (Ir oZ s w.heap.size) w w':=G9 hb;exact⟨a,rfl,_,D,v,hq.new f,K.trans (f.mono aP),c,by rw[b,g],by rw[d,j]⟩
theorem Rk.add{w:World}{Q:List Nat}{x:Src}{u:Nat}{y:Bool}{iw xY:av->bW->Bool}{nx:av->bW->Int->Option (Fr×av×bW)}(h:Rk fJ s w0 S bw bl bi ab p M aF w Q x u y iw xY nx)(k:y=jr u)(g:u∉Q)(b:u≠0)(hl:Q.length<1000)(ht:∀oZ,jE oZ s w S bw bl bi ab x iw xY nx->jE oZ s w S bw bl bi ab x (fun M aF=>M.aK aF u) (fun M aF=>M.aK aF u&&zB aF) (fun M aF au=>M.frame aF u au)):Calls prog 199 #[aI p 0,nL x] w fun e w'=>e=.returned (.tuple #[])/\Hid (Qk fJ s w0 S bw bl bi ab p M aF w' (dZ Q u)):=by obtain⟨oZ,D,v,hq,K,j,i,c⟩:=h;refine bN (qc7 w hq x u i (by rw[c,k]) g b hl (ht oZ j)) ?_;rintro w' ⟨aY,d,v',a,f⟩;exact⟨rfl,aY,d,v',a,K.trans (f.mono fun z hz=>ji.2 (by simp at hz;omega))⟩
end


def qk(k:Nat):List Nat:=(List.range k).foldl (fun q k=>dZ (dZ (dZ q (16+k)) (24+k)) (40+k)) (dZ (dZ [] 0) 8)
theorem Ho(k:Nat):qk (k+1)=dZ (dZ (dZ (qk k) (16+k)) (24+k)) (40+k):=by unfold qk;rw[List.range_succ,List.foldl_append];rfl
def Pq(k x:Nat):Prop:=x=0\/x=8\/(16<=x/\x<16+k)\/(24<=x/\x<24+k)\/(40<=x/\x<40+k)
theorem JU:∀k,Lp (Pq k) (qk k)
 |0=>by have z:Pq 0 0:=.inl rfl;exact Lp.push (P:=Pq 0) z (Lp.push (P:=Pq 0) z (l:=[]) (fun x a=>by cases a) 0 z) 8 (.inr (.inl rfl))
 |k+1=>by
  rw[Ho];have h:Lp (Pq (k+1)) (qk k):=fun x a=>by have:=JU k x a;unfold Pq at *;omega
  have z:Pq (k+1) 0:=.inl rfl;exact Lp.push z (Lp.push z (Lp.push z h _ (by unfold Pq;omega)) _ (by unfold Pq;omega)) _ (by unfold Pq;omega)
theorem Dh:∀k,(qk k).length=2+3*k
 |0=>rfl
 |k+1=>by rw[Ho,lW,lW,lW,Dh k];omega
theorem OH{P:Nat->Prop}(c:P 0){l:List Nat}(h:Lp P l)(u v:Nat)(d:¬P v)(a:u≠v):v∉dZ l u:=fun b=>by
 have:=Lp.push (P:=fun x=>P x\/x=u) (.inl c) (fun x b=>.inl (h x b)) u (.inr rfl) v b;rcases this with h1|h1;·exact d h1
 ·exact a h1.symm
end
def OJ(oZ:Own)(s:Nat)(W:World)(S bw bl bi:Nat)(M:av)(aF:bW)(e:Ending)(w':World):Prop:=
 ∃x ab,e=.returned (nL x)/\Hid (∃aY,Kp [s] oZ aY W w'/\Env aY s w' S bw bl bi ab M aF/\jE aY s w' S bw bl bi ab x (fun M aF=>M.aK aF 0) (fun M aF=>M.aK aF 0&&zB aF) (fun M aF au=>M.frame aF 0 au)/\x.u=0/\x.y=false)
def qc9(u:Nat):Src:=⟨(u:Int),.func 0,#[],#[],.func 0,#[],#[],false⟩
theorem Nk(oZ:Own)(s:Nat)(S:Nat)(l:bO)(M M':av)(bw bl bi:Nat)(vc:Value)(aF:bW)(w:World)(h:fP oZ s w S l M bw bl bi vc)(g:∀oZ W,fP oZ s W S l M bw bl bi vc->Calls prog 200 #[aI S 0] W fun e w'=>OJ oZ s W S bw bl bi M' aF e w'):Calls prog 155 #[aI S 0] w fun e w'=>∃p,e=.returned (aI p 0)/\∃ab aY D v,RG aY s w' S bw bl bi ab D p v q0 M' aF/\Kp (Tb s) oZ aY w w':=by
 obtain⟨c,m⟩:=bZ ((w.alloc (.cells #[] 304)).alloc (.cells #[dP w.heap.size 0 0] 300));have d:bJ w c:=by rw[m];exact((mK _ w).alloc (mI _) _).alloc aP _
 have B0:aS c w.heap.size 304 []:=by rw[m];exact(aS.new w 304 []).alloc _
 have B1:aS c (w.heap.size+1) 300 [dP w.heap.size 0 0]:=by rw[m];have:=aS.new (w.alloc (.cells #[] 304)) 300 [dP w.heap.size 0 0];rwa[j3]at this
 obtain⟨f,n⟩:=bZ (fun b=>if b<w.heap.size then oZ b else if b=w.heap.size then s+45 else s+46:Own);have o0:f w.heap.size=s+45:=by rw[n];show(if w.heap.size<w.heap.size then _ else if w.heap.size=w.heap.size then s+45 else s+46)=_;rw[aU aj,bK rfl]
 have o1:f (w.heap.size+1)=s+46:=by rw[n];show(if w.heap.size+1<w.heap.size then _ else if w.heap.size+1=w.heap.size then s+45 else s+46)=_;rw[aU aj,aU aj]
 have L:Kp [] oZ f w c:=⟨d.os,d.tape,d.output,d.size,fun b hb _=>d.block b hb,fun b hb=>by rw[n];exact bK hb⟩;have B:AB f (s+45) qc9 c (w.heap.size+1) (dP w.heap.size 0 0) []:=⟨o1,B1,.inr ⟨w.heap.size,0,[],rfl,o0,B0,aP,mI _,aj,rfl,rfl,fun v hv=>by cases hv⟩⟩;have HA:Hid (Calls prog 200 #[aI S 0] c fun e w'=>∃x ab,e=.returned (nL x)/\Hid (∃aY,Kp [s] f aY c w'/\Env aY s w' S bw bl bi ab M' aF/\QsM aY s w' S bw bl bi ab qc9 (w.heap.size+1) (dP w.heap.size 0 0) []/\jE aY s w' S bw bl bi ab x (fun M aF=>M.aK aF 0) (fun M aF=>M.aK aF 0&&zB aF) (fun M aF au=>M.frame aF 0 au)/\x.u=0/\x.y=false)):=by refine(g f c (h.kp L aP)).mono ?_;rintro e w' ⟨x,ab,rfl,aY,t,Q,a,E,R⟩;refine⟨x,ab,rfl,aY,t,Q,⟨fun u=>rfl,⟨by rw[t.ext _ B1.lt,o1],cO B1 t (by rw[o1];simp),B.sr.kp t aP⟩,fun u E=>by cases E⟩,a,E,R⟩
 have H:Hid (∀(w1:World) (x:Src) (ab:Nat),(∃aY,Kp [s] f aY c w1/\Env aY s w1 S bw bl bi ab M' aF/\QsM aY s w1 S bw bl bi ab qc9 (w.heap.size+1) (dP w.heap.size 0 0) []/\jE aY s w1 S bw bl bi ab x (fun M aF=>M.aK aF 0) (fun M aF=>M.aK aF 0&&zB aF) (fun M aF au=>M.frame aF 0 au)/\x.u=0/\x.y=false)->Calls prog 199 #[(aI (w.heap.size+1) 0),nL x] w1 fun e w'=>e=.returned (.tuple #[])/\Hid (Qk f s c S bw bl bi ab (w.heap.size+1) M' aF w' (dZ [] 0))):=by rintro w1 x ab ⟨aY,t,Q,hq,a,E,R⟩;refine bN (qby w1 hq x 0 E R aP aP a (.inl rfl)) ?_;rintro w' ⟨gu,D2,T,C,K2⟩;exact⟨rfl,gu,D2,T,⟨C,C.hs 0 iO,Q.kp K2 (by simp;omega) aP aP⟩,(t.mono fun z hz=>ji.2 (by simp at hz;omega)).trans (K2.mono fun z hz=>ji.2 (by simp at hz;omega))⟩
 have sJ:Hid (∀w' ab,Qk f s c S bw bl bi ab (w.heap.size+1) M' aF w' q0->∃ab aY D v,RG aY s w' S bw bl bi ab D (w.heap.size+1) v q0 M' aF/\Kp (Tb s) oZ aY w w'):=by rintro w' ab ⟨aY,D,v,hq,K⟩;exact⟨ab,aY,D,v,hq,(L.mono aP).trans K⟩
 clear g h B L o0 o1 n B0 B1 d;go_enter func155,ntmps155;go_wp2_with (first|(go_at_call 200;rw[<-m];refine HA.out.mono ?_;rintro e w1 ⟨x,ab,rfl,J⟩;have O:=aG (H.out w1 x ab J.out))|(go_at_call 199;refine bN O.out ?_;rintro w2 I)|(go_at_call 202;refine(I.out.mk (u:=8) (fun oZ=>M_ (oZ:=oZ) w2)).mono ?_;rintro e w3 ⟨x3,rfl,q⟩)|(go_at_call 201;refine(Rk.beside q.out).mono ?_;rintro e w4 ⟨x4,rfl,r⟩)|(go_at_call 199;refine bN (Rk.add r.out rfl iO iO iO (fun oZ a=>JQ a)) ?_;rintro w5 o)|go_in);go_loopw [17] (fun N wr=>∃k:Nat,k<=8/\N=(iZ k)/\Hid (Qk f s c S bw bl bi ab (w.heap.size+1) M' aF wr (qk k))) (fun N _=>8-(RowKit.intOf N).toNat);case atStart=>exact⟨0,aj,rfl,o.out⟩
 case round=>
  obtain⟨k,hk,rfl,HI⟩:=hrel;by_cases i:k<8
  ·have h0:(k:Int)<8:=aj;have n1:16+k∉qk k:=fun e=>by have:=JU k _ e;unfold Pq at this;omega
   have n2:24+k∉dZ (qk k) (16+k):=OH (P:=Pq k) (.inl rfl) (JU k) _ _ (by unfold Pq;omega) aj;have n3:40+k∉dZ (dZ (qk k) (16+k)) (24+k):=OH (P:=fun x=>Pq k x\/x=16+k) (.inl (.inl rfl)) (Lp.push (.inl (.inl rfl)) (fun x a=>.inl (JU k x a)) _ (.inr rfl)) _ _ (by unfold Pq;omega) aj;have l1:(qk k).length<1000:=by rw[Dh];omega
   have l2:(dZ (qk k) (16+k)).length<1000:=by rw[lW,Dh];omega
   have l3:(dZ (dZ (qk k) (16+k)) (24+k)).length<1000:=by rw[lW,lW,Dh];omega
   have j:=aG (dB n1 (dB n2 (dB n3 (dB l1 (dB l2 l3)))));have U:Hid (true=jr (16+k)/\true=jr (24+k)/\false=jr (40+k)):=by
    unfold jr;refine⟨?_,?_,?_⟩;·rw[decide_eq_true aj,decide_eq_true aj];rfl
    ·rw[decide_eq_true aj,decide_eq_true aj];rfl
    ·rw[decide_eq_true aj,decide_eq_false aj];rfl
   clear n1 n2 n3 l1 l2 l3 o r q I J O;go_wp2_with (first|(go_at_call 203;refine(HI.out.mk (u:=16+k) (fun oZ=>G_ (oZ:=oZ) k i wr)).mono ?_;rintro e v1 ⟨z1,rfl,y⟩)|(go_at_call 201;refine(Rk.beside y.out).mono ?_;rintro e T ⟨z2,rfl,A⟩;clear y)|(go_at_call 199;refine bN (Rk.add A.out U.out.1 j.out.1 aj j.out.2.2.2.1 (fun oZ a=>En k i a)) ?_;rintro v3 G;clear A)|(go_at_call 204;refine(G.out.mk (u:=24+k) (fun oZ=>Na (oZ:=oZ) k i v3)).mono ?_;rintro e v4 ⟨z4,rfl,V⟩)|(go_at_call 201;refine(Rk.beside V.out).mono ?_;rintro e v5 ⟨z5,rfl,X⟩;clear V)|(go_at_call 199;refine bN (Rk.add X.out U.out.2.1 j.out.2.1 aj j.out.2.2.2.2.1 (fun oZ a=>JR k i a)) ?_;rintro v6 H6;clear X)|(go_at_call 206;refine(H6.out.mk (u:=40+k) (fun oZ=>mk_data (oZ:=oZ) k i v6)).mono ?_;rintro e v7 ⟨z7,rfl,Y⟩)|(go_at_call 205;refine(Rk.au Y.out).mono ?_;rintro e v8 ⟨z8,rfl,Z⟩;clear Y)|(go_at_call 199;refine bN (Rk.add Z.out U.out.2.2 j.out.2.2.1 aj j.out.2.2.2.2.2 (fun oZ a=>VQ k a)) ?_;rintro v9 H9;clear Z)|go_in);go_roundw;case rel=>exact⟨k+1,aj,aP,(by rw[Ho];exact H9.out:Qk f s c S bw bl bi ab (w.heap.size+1) M' aF _ (qk (k+1)))⟩
   case measure=>simp[RowKit.intOf];omega
  ·obtain rfl:k=8:=aj;have n32:32∉qk 8:=fun e=>by have:=JU 8 _ e;unfold Pq at this;omega
   have F:(qk 8).length<1000:=by rw[Dh];omega
   have j:=aG (dB n32 F);clear n32 F o r q I J O;go_wp2_with (first|(go_at_call 207;refine(HI.out.mk (u:=32) (fun oZ=>He (oZ:=oZ) wr)).mono ?_;rintro e v1 ⟨z1,rfl,y⟩)|(go_at_call 205;refine(Rk.au y.out).mono ?_;rintro e T ⟨z2,rfl,A⟩;clear y)|(go_at_call 199;refine bN (Rk.add A.out rfl j.out.1 iO j.out.2 (fun oZ a=>RB a)) ?_;rintro v3 G;clear A)|go_in);go_ret;exact⟨w.heap.size+1,rfl,sJ.out _ ab G.out⟩
theorem V9(a:Addr)(w:World):Calls prog 173 #[.pointer (some a)] w fun e w'=>e=.returned (.func (.func 226) #[] #[aI w.heap.size 0])/\w'=w.alloc (.cells #[.pointer (some a)] 273):=by have b:∀(fn:Fn) (first cap:Array Value) (w:World),(Instr.makeFunc fn first cap).run prog w=.ok (.func fn first cap) w:=fun _ _ _ _=>rfl;go_enter func173,ntmps173;go_wp2;go_ret;exact⟨rfl,rfl⟩
theorem J3(sb sp:Nat)(rs:bW)(base:Option Addr)(c:Nat)(w:World)(b:w.cell? (aB sp 227)=some (.slice base rs.length c))(g:eX 170 2 w (.slice base rs.length c) rs.length (St.bQ rs))(a:aS w sb 273 [aI sp 225])(f:rs.length<=1000000):Calls prog 245 #[.func (.func 226) #[] #[aI sb 0]] w fun e w'=>∃v',e=.returned v'/\eX 170 2 w' v' rs.reverse.length (St.bQ rs.reverse)/\YtphbledmopchnaaGreatDoor.Own w.heap.size v'/\bJ w w':=by have h:=aG (St.Ei sb sp rs base c w b g a f);clear b g a;go_enter func245,ntmps245;go_wp2_with (go_at_call 308;refine h.out.mono ?_;rintro e w' ⟨v',rfl,d⟩;have d:=aG d);go_ret;exact⟨_,rfl,d.out⟩
theorem fP.qer{oZ aY:Own}{s:Nat}{w w':World}{S:Nat}{l l':bO}{M M':av}{bw bl bi:Nat}{vc:Value}(h:fP oZ s w S l M bw bl bi vc)(K:Kp [s] oZ aY w w')(o n:Nat)(t:o+n<=4\/220<=o)(q:gM w w' S l l' o n)(p:SdL l' M' bw bl bi vc)(c:M'.outs=M.outs)(d:M'.ins=M.ins)(f:M'.aM=M.aM)(g:M'.aJ=M.aJ)(i:M'.bP=M.bP):fP aY s w' S l' M' bw bl bi vc:=by
 have a:∀x,x∈[s]->x=s:=fun x r=>by simpa using r
 have m:∀j,M'.out j=M.out j:=fun j=>by unfold av.out;rw[c]
 have k:∀j,M'.bF j=M.bF j:=fun j=>by unfold av.bF;rw[d]
 refine⟨by rw[K.ext S h.cZ.lt,h.ow],h.s0,q.cZ,p,fun j b=>?_,fun j b=>?_,?_,?_,?_,by rw[c];exact h.lo,by rw[d];exact h.li⟩;·rw[m];exact(h.out j b).kp K (fun e=>bV (a _ e)) (fun e=>bV (a _ e)) (fun e=>bV (a _ e)) q.gN aj
 ·rw[k];exact(h.bF j b).kp K (fun e=>bV (a _ e)) (fun e=>bV (a _ e)) q.gN aj
 ·rw[f];exact h.row.kp K (fun e=>bV (a _ e))
 ·rw[g];exact h.sI.kp K (fun e=>bV (a _ e)) (fun e=>bV (a _ e))
 ·rw[i];exact h.bP.kp K (fun e=>bV (a _ e)) (fun e=>bV (a _ e))
theorem V_{w:World}{g:Nat}{cs:bO}{rs:bW}(hB:aS w g 170 cs)(ht:cs.take (rs.length*2)=St.bQ rs)(hb:∀r∈rs,r.1<18446744073709551616/\r.2<18446744073709551616):jg w (some (aB g 0)) rs:=fun j a=>by
 have c0:=St.uM rs j a;have c1:=St.uN rs j a;rw[<-ht,List.getElem?_take,bK aj]at c0 c1;have b:rs.getD j (0,0)∈rs:=by rw[List.getD_eq_getElem?_getD,List.getElem?_eq_getElem a];exact List.getElem_mem _
 exact⟨g,0,rfl,by rw[hB.cell,mY];exact c0,by rw[hB.cell,mY];exact c1,hb _ b⟩
theorem J4{oZ:Own}{s:Nat}{S:Nat}{l:bO}{M:av}{bw bl bi:Nat}{vc:Value}{w w':World}(h:fP oZ s w S l M bw bl bi vc)(q:gM w w' S l (l.set 228 (.bool false)) 228 1)(v:Value)(i:aS w' (w.heap.size+1) 342 [v])(aF:bW)(hb:∀r∈aF,r.1<18446744073709551616/\r.2<18446744073709551616)(y:eX 170 2 w' v aF.length (St.bQ aF))(o:YtphbledmopchnaaGreatDoor.Own w.heap.size v):OJ oZ s w S bw bl bi {M with aT:=false} aF (.returned (nL ⟨0,.func 246,#[(aI (w.heap.size+1) 0)],#[],.func 247,#[(aI (w.heap.size+1) 0)],#[],false⟩)) w':=by
 obtain⟨aY,f⟩:=bZ (fun b=>if b<w.heap.size then oZ b else if b=w.heap.size+1 then s+48 else s+49:Own);have o1:aY (w.heap.size+1)=s+48:=by rw[f];show(if w.heap.size+1<w.heap.size then _ else if w.heap.size+1=w.heap.size+1 then s+48 else s+49)=_;rw[aU aj,bK rfl]
 have A:∀b,w.heap.size<=b->b≠w.heap.size+1->aY b=s+49:=fun b h1 a=>by rw[f];show(if b<w.heap.size then _ else if b=w.heap.size+1 then s+48 else s+49)=_;rw[aU aj,aU a]
 have K:Kp [s] oZ aY w w':=⟨q.os,q.tape,q.output,q.size,fun b hb x=>q.al b hb (fun e=>x (by rw[e,h.ow];simp)),fun b hb=>by rw[f];exact bK hb⟩;have c:=h.cells;have e:∀j,j≠228->(l.set 228 (.bool false))[j]?=l[j]?:=fun j u=>List.getElem?_set_ne (fun e=>u e.symm);have p:SdL (l.set 228 (.bool false)) {M with aT:=false} bw bl bi vc:=⟨by rw[List.length_set];exact c.len,(e _ aj).trans c.c0,(e _ aj).trans c.c1,(e _ aj).trans c.c2,(e _ aj).trans c.c3,(e _ aj).trans c.rC,c.gr.gN q.gN aj,(e _ aj).trans c.tN,(e _ aj).trans c.tQ,(e _ aj).trans c.pV,by rw[List.getElem?_set_self (by rw[c.len];omega)],(e _ aj).trans c.oo,(e _ aj).trans c.oQ,(e _ aj).trans c.sG,(e _ aj).trans c.nH,(e _ aj).trans c.pW,(e _ aj).trans c.vB,(e _ aj).trans c.sH,(e _ aj).trans c.vC,(e _ aj).trans c.vD,(e _ aj).trans c.oU,(e _ aj).trans c.vE⟩;refine⟨_,w.heap.size+1,rfl,aY,K,⟨_,vc,h.qer K 228 1 aj q p rfl rfl rfl rfl rfl,o1,v,i,?_⟩,?_,rfl,rfl⟩
 ·rcases y with⟨h1,a,_⟩|⟨g,cap,cs,h1,a,h3,h4,h5,h6,h7,h8⟩;·exact .inl ⟨h1,List.length_eq_zero_iff.1 a⟩
  ·have t:w.heap.size<=g:=o g (by rw[h1];rfl);have d:g≠w.heap.size+1:=fun e=>by
    have:=i;rw[<-e]at this;have n:=a.symm.trans this;simp at n
   exact .inr ⟨g,0,cap,h1,h4,h5,a.lt,A g t d,V_ a h7 hb⟩
 ·have z:jE aY s w' S bw bl bi (w.heap.size+1) ⟨0,.func 246,#[(aI (w.heap.size+1) 0)],#[],.func 247,#[(aI (w.heap.size+1) 0)],#[],false⟩ (fun _ aF=>decide (0<aF.length)) (fun _ aF=>decide (0<aF.length)&&zB aF) (fun M aF au=>if fA aF au aF.length=0 then none else some (gH (aF.take (fA aF au aF.length)),M,aF.drop (fA aF au aF.length))):=
   ⟨246,247,rfl,rfl,enters_of func246 bH rfl,enters_of func247 bH rfl,Rz,RA⟩
  exact z.to 0 (fun M aF=>rfl) (fun M aF k m=>by rw[eB];exact⟨k,m⟩) (fun M aF au _=>rfl)
theorem Zg(oZ:Own)(s:Nat)(S:Nat)(l:bO)(M:av)(bw bl bi:Nat)(vc:Value)(w:World)(h:fP oZ s w S l M bw bl bi vc)(hn:M.aM.rs.length<=1000000)(X:∀r∈M.aM.rs,r.1<18446744073709551616/\r.2<18446744073709551616):Calls prog 200 #[aI S 0] w fun e w'=>OJ oZ s w S bw bl bi {M with aT:=false} (if M.aT then M.aM.rs.reverse else[]) e w':=by
 have nG:w.cell? (aB S 228)=some (.bool M.aT):=by rw[h.cZ.cell];exact h.cells.nG
 have L:S<w.heap.size:=h.cZ.lt;have h2:∀(fn:Fn) (first cap:Array Value) (w:World),(Instr.makeFunc fn first cap).run prog w=.ok (.func fn first cap) w:=fun _ _ _ _=>rfl;cases ha:M.aT
 ·rw[ha]at nG;have f228:=h.cZ.frozen 228;have H:=aG h;clear h;go_enter func200,ntmps200;go_wp2;obtain⟨x,j⟩:=bZ (.func (.func 246) #[(aI (w.heap.size+1) 0)] #[]:Value);obtain⟨y,m⟩:=bZ (.func (.func 247) #[(aI (w.heap.size+1) 0)] #[]:Value);rw[<-j,<-m];have q0:gM w (w.setCell (aB S 228) (.bool false)) S l (l.set 228 (.bool false)) 228 1:=gM.one H.out.cZ 228 _ 228 1 aj aj;have h0:(w.setCell (aB S 228) (.bool false)).heap.size=w.heap.size:=aP;generalize w.setCell (aB S 228) (.bool false)=w1 at *
  have B0:=(aS.new w1 304 [iZ 0,x,y,.bool false]).alloc (.cells #[nZ] 342);have B1:=aS.new (w1.alloc (.cells #[iZ 0,x,y,.bool false] 304)) 342 [nZ];have hb:bJ w1 ((w1.alloc (.cells #[iZ 0,x,y,.bool false] 304)).alloc (.cells #[nZ] 342)):=((mK _ w1).alloc (mI _) _).alloc aP _;simp only[j3]at B1;rw[h0]at B0 B1;generalize ((w1.alloc (.cells #[iZ 0,x,y,.bool false] 304)).alloc (.cells #[nZ] 342))=W at *
  have D:=B0.cell 0;have E:=B0.cell 1;have F:=B0.cell 2;have G:=B0.cell 3;simp only[mE,lg]at D E F G;refine bodyPost_ret (v:=.agg #[iZ 0,x,y,.bool false]) (by simp[results,results200,go_sem,D,E,F,G]) rfl ?_;have:=J4 H.out (q0.iW hb) _ B1 [] (fun r Z=>by cases Z) (eX.nil _ _ _) (fun k d=>by simp[Value.ownBlock]at d);unfold nL at this;rw[j,m];exact this
 ·rw[ha]at nG;obtain⟨base,c,O,r1,r2,r3,r4⟩:=h.row;have pV:w.cell? (aB S 227)=some (.slice base M.aM.rs.length c):=by rw[h.cZ.cell,<-O];exact h.cells.pV
  have V:eX 170 2 w (.slice base M.aM.rs.length c) M.aM.rs.length (St.bQ M.aM.rs):=r3.X5 r1 r2;have hS:=h.cZ;obtain⟨B,f⟩:=bZ (((w.alloc (.cells #[iZ 0,.nilFunc,.nilFunc,.bool false] 304)).alloc (.cells #[nZ] 342)).alloc (.cells #[aI S 225] 273));have g:bJ w B:=by rw[f];exact(((mK _ w).alloc (mI _) _).alloc aP _).alloc (by simp;omega) _
  have N:B.heap.size=w.heap.size+3:=by rw[f];simp
  have i:aS B w.heap.size 304 [iZ 0,.nilFunc,.nilFunc,.bool false]:=by rw[f];exact((aS.new w 304 _).alloc _).alloc _
  have C:aS B (w.heap.size+1) 342 [nZ]:=by rw[f];have:=aS.new (w.alloc (.cells #[iZ 0,.nilFunc,.nilFunc,.bool false] 304)) 342 [nZ];simp only[j3]at this;exact this.alloc _
  have x2:aS B (w.heap.size+1+1) 273 [aI S 225]:=by rw[f];have:=aS.new ((w.alloc (.cells #[iZ 0,.nilFunc,.nilFunc,.bool false] 304)).alloc (.cells #[nZ] 342)) 273 [aI S 225];simpa only[j3]using this
  have HC:Hid (Calls prog 245 #[.func (.func 226) #[] #[(aI (w.heap.size+1+1) 0)]] B fun e a=>∃u A c5,e=.returned (.slice u A c5)/\a.cell? (aB S 228)=some (.bool true)/\aS a S TS l/\aS a w.heap.size 304 [iZ 0,.nilFunc,.nilFunc,.bool false]/\aS a (w.heap.size+1) 342 [nZ]/\Hid (bJ w a/\eX 170 2 a (.slice u A c5) M.aM.rs.reverse.length (St.bQ M.aM.rs.reverse)/\YtphbledmopchnaaGreatDoor.Own (w.heap.size+3) (.slice u A c5))):=by refine(J3 (w.heap.size+1+1) S M.aM.rs base c B (cell_of pV (g.block S L)) (V.of_heap (fun b hb=>g.block b (V.lt b hb))) x2 hn).mono ?_;rintro e a ⟨v5,rfl,g1,g2,J⟩;obtain⟨u,c5,rfl,_⟩:=g1.shape;exact⟨u,_,c5,rfl,cell_of nG ((g.trans (J.mono aj)).block S L),gB (g.trans (J.mono aj)) hS,gB J i,gB J C,g.trans (J.mono aj),g1,by rw[N]at g2;exact g2⟩
  have H:=aG h;have n0:S≠w.heap.size:=aj;have n1:S≠w.heap.size+1:=aj;clear h hS g N i C x2 r1 r2 r3 r4 V pV O;go_enter func200,ntmps200;go_wp2_with (first|(go_at_call 173;refine bN (V9 _ _) ?_;rintro w' rfl)|(go_at_call 245;rw[<-f];refine HC.out.mono ?_;rintro e a ⟨u,A,c5,rfl,s5,xS,i,C,HX⟩;have y0:a.cell? (aB w.heap.size 0)=some (iZ 0):=i.cell 0;have y1:a.cell? (aB w.heap.size 1)=some .nilFunc:=i.cell 1;have y2:a.cell? (aB w.heap.size 2)=some .nilFunc:=i.cell 2;have y3:a.cell? (aB w.heap.size 3)=some (.bool false):=i.cell 3;have iM:=i.frozen 0;have mH:=i.frozen 1;have nC:=i.frozen 2;have yE:=i.frozen 3;have z0:a.cell? (aB (w.heap.size+1) 0)=some nZ:=C.cell 0;have fz:=C.frozen 0;have h3:=xS.frozen 228)|go_in);obtain⟨x,j⟩:=bZ (.func (.func 246) #[(aI (w.heap.size+1) 0)] #[]:Value);obtain⟨y,m⟩:=bZ (.func (.func 247) #[(aI (w.heap.size+1) 0)] #[]:Value);rw[<-j,<-m];obtain⟨n,Ip,K⟩:=HX.out;obtain⟨u1,o⟩:=bZ (a.setCell (aB (w.heap.size+1) 0) (.slice u A c5));obtain⟨u2,p⟩:=bZ (u1.setCell (aB S 228) (.bool false));obtain⟨u6,t⟩:=bZ ((((u2.setCell (aB w.heap.size 0) (iZ 0)).setCell (aB w.heap.size 1) x).setCell (aB w.heap.size 2) y).setCell (aB w.heap.size 3) (.bool false));rw[<-o,<-p,<-t];have o1:∀k,k≠w.heap.size+1->u1.heap[k]?=a.heap[k]?:=fun k d=>by rw[o];exact eT _ _ _ _ d
  have Q:∀k,k≠S->u2.heap[k]?=u1.heap[k]?:=fun k d=>by rw[p];exact eT _ _ _ _ d
  have R:∀k,k≠w.heap.size->u6.heap[k]?=u2.heap[k]?:=fun k d=>by rw[t,eT _ _ _ _ d,eT _ _ _ _ d,eT _ _ _ _ d,eT _ _ _ _ d]
  have s1:u1.heap.size=a.heap.size/\u1.os=a.os/\u1.tape=a.tape/\u1.output=a.output:=by rw[o];exact⟨aP,rfl,rfl,rfl⟩
  have T:u2.heap.size=u1.heap.size/\u2.os=u1.os/\u2.tape=u1.tape/\u2.output=u1.output:=by rw[p];exact⟨aP,rfl,rfl,rfl⟩
  have U:u6.heap.size=u2.heap.size/\u6.os=u2.os/\u6.tape=u2.tape/\u6.output=u2.output:=by rw[t];exact⟨aP,rfl,rfl,rfl⟩
  have P:aS u6 w.heap.size 304 [iZ 0,x,y,.bool false]:=by have I:aS u2 w.heap.size 304 [iZ 0,.nilFunc,.nilFunc,.bool false]:=(i.of_heap (o1 _ aj)).of_heap (Q _ aj);rw[t];exact(((I.setCell 0 _).setCell 1 _).setCell 2 _).setCell 3 _
  have BA:aS u6 (w.heap.size+1) 342 [.slice u A c5]:=by
   have I:aS u1 (w.heap.size+1) 342 [.slice u A c5]:=by rw[o];exact C.setCell 0 _
   exact(I.of_heap (Q _ aj)).of_heap (R _ aj)
  have BS:aS u6 S TS (l.set 228 (.bool false)):=by
   have I:aS u2 S TS (l.set 228 (.bool false)):=by rw[p];exact(xS.of_heap (o1 _ n1)).setCell 228 _
   exact I.of_heap (R _ n0)
  have q:gM w u6 S l (l.set 228 (.bool false)) 228 1:=by have q0:gM w (w.setCell (aB S 228) (.bool false)) S l (l.set 228 (.bool false)) 228 1:=gM.one H.out.cZ 228 _ 228 1 aj aj;exact⟨by rw[U.2.1,T.2.1,s1.2.1,n.os],by rw[U.2.2.1,T.2.2.1,s1.2.2.1,n.tape],by rw[U.2.2.2,T.2.2.2,s1.2.2.2,n.output],by rw[U.1,T.1,s1.1];exact n.size,fun b hb Y=>by rw[R b aj,Q b Y,o1 b aj,n.block b hb],BS,q0.gN⟩
  have G6:eX 170 2 u6 (.slice u A c5) M.aM.rs.reverse.length (St.bQ M.aM.rs.reverse):=Ip.of_heap (fun k d=>by have:=K k d;rw[R k aj,Q k aj,o1 k aj]);have z:=J4 H.out q _ BA M.aM.rs.reverse (fun r Z=>X r (List.mem_reverse.1 Z)) G6 (fun k d=>bV (K k d));have D:=P.cell 0;have E:=P.cell 1;have F:=P.cell 2;have G:=P.cell 3;simp only[mE,lg]at D E F G;clear t p o;refine bodyPost_ret (v:=.agg #[iZ 0,x,y,.bool false]) (by simp[results,results200,go_sem,D,E,F,G]) rfl ?_;unfold nL at z;rw[j,m];exact z
