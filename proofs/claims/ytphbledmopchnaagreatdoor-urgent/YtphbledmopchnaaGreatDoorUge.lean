import Derived.Test.YtphbledmopchnaaGreatDoorUgd
open Go.RowKit.Below renaming heap_setCell->fB,refl->tT
open Bool renaming and_eq_true->fA
open List renaming getElem?_cons_succ->nI,getElem?_cons_zero->sQ
open Nat renaming le_refl->tL,zero_add->wz
open Go.World renaming size_alloc->mR
set_option maxHeartbeats 2000000
set_option maxRecDepth 100000
namespace Go.Proofs.YtphbledmopchnaaGreatDoor.Sd
open Go.RowKit Go.Lib Mm Tryz
theorem IV{oZ:Own}{s:Nat}{S bw bl bi ab:Nat}{x:Src}{iw ou:Side->aP->Bool}{nx:Side->aP->Int->Option (Fr×Side×aP)}(w:World)(h:MK oZ s w S bw bl bi ab x iw ou nx):
  Calls prog 201 #[ay S 0,jE x] w fun e w'=>∃H aC,e=.returned (jE H)/\Kp [] oZ aC w w'/\H.u=x.u/\H.y=true/\iy aC s w' S bw bl bi ab H (fun M av=> !M.full&&iw M av) ou (fun M av room=>nx M av (room-M.cO)):=by
 obtain⟨n1,n2,h1,h2,h3,h4,h5,h6⟩:=h.fn;obtain⟨V,h0⟩:∃V:Value,V=.func (.func 248) #[] #[(ay (w.heap.size+1+1+1) 0),ay w.heap.size 0]:=⟨_,rfl⟩;obtain⟨W,Z⟩:∃W,W=((((w.alloc (.cells #[ay S 0] 128)).alloc (.cells #[iZ x.u,.func x.f1 x.p1 x.k1,V,.bool true] 304)).alloc (.cells #[iZ 0,.nilFunc,.nilFunc,.bool false] 304)).alloc (.cells #[.func x.f2 x.p2 x.k2] 302)):=⟨_,rfl⟩
 have B0:aA W w.heap.size 128 [ay S 0]:=by rw[Z];exact((aA.new w 128 _).alloc _).alloc _ |>.alloc _
 have B2:aA W (w.heap.size+1+1) 304 [iZ 0,.nilFunc,.nilFunc,.bool false]:=by
  rw[Z];have:=(aA.new ((w.alloc (.cells #[ay S 0] 128)).alloc (.cells #[iZ x.u,.func x.f1 x.p1 x.k1,V,.bool true] 304)) 304 [iZ 0,.nilFunc,.nilFunc,.bool false]).alloc (.cells #[.func x.f2 x.p2 x.k2] 302);simpa only[mR]using this
 have B3:aA W (w.heap.size+1+1+1) 302 [.func x.f2 x.p2 x.k2]:=by
  rw[Z];have:=aA.new (((w.alloc (.cells #[ay S 0] 128)).alloc (.cells #[iZ x.u,.func x.f1 x.p1 x.k1,V,.bool true] 304)).alloc (.cells #[iZ 0,.nilFunc,.nilFunc,.bool false] 304)) 302 [.func x.f2 x.p2 x.k2];simpa only[mR]using this
 have hb:aD w W:=by rw[Z];exact((((tT _ w).alloc (tL _) _).alloc (by simp) _).alloc (by simp;omega) _).alloc (by simp;omega) _
 have hsz:W.heap.size=w.heap.size+4:=by rw[Z];simp
 obtain⟨U,K⟩:∃U:Own,U=fun b=>if b<w.heap.size then oZ b else if b=w.heap.size+2 then s+52 else s+47:=⟨_,rfl⟩
 have K1:Kp [] oZ U w W:=⟨hb.os,hb.tape,hb.output,hb.size,fun b F _=>hb.block b F,fun b F=>by rw[K];exact if_pos F⟩
 have o0:U w.heap.size=s+47:=by rw[K];simp
 have o2:U (w.heap.size+1+1)=s+52:=by rw[K];show(if w.heap.size+1+1<w.heap.size then oZ _ else if w.heap.size+1+1=w.heap.size+2 then s+52 else s+47)=_;rw[if_neg (by omega),if_pos rfl]
 have o3:U (w.heap.size+1+1+1)=s+47:=by rw[K];show(if w.heap.size+1+1+1<w.heap.size then oZ _ else if w.heap.size+1+1+1=w.heap.size+2 then s+52 else s+47)=_;rw[if_neg (by omega),if_neg (by omega)]
 rw[h2]at B3
 have hC:iy U s W S bw bl bi ab ⟨x.u,x.f1,x.p1,x.k1,.func 248,#[],#[(ay (w.heap.size+1+1+1) 0),ay w.heap.size 0],true⟩ iw ou (fun M av room=>nx M av (room-M.cO)):=
  ⟨n1,248,h1,rfl,h3,enters_of func248 (by kernel_rfl) rfl,h5.kp (K1.mono (by simp)),UH _ _ h4 ⟨o3,B3⟩ ⟨o0,B0⟩ (h6.kp (K1.mono (by simp)))⟩
 have HC:Hid (Calls prog 205 #[ay S 0,.agg #[iZ x.u,.func x.f1 x.p1 x.k1,V,.bool true]] W fun e w'=>∃I f1 p1 k1 f2 p2 k2 y',e=.returned (.agg #[iZ I,.func f1 p1 k1,.func f2 p2 k2,.bool y'])/\aA w' (w.heap.size+1+1) 304 [iZ 0,.nilFunc,.nilFunc,.bool false]/\Hid (I=x.u/\y'=true/\∀O,je (w.heap.size+1+1) w' O->∃aC,Kp [] oZ aC w O/\iy aC s O S bw bl bi ab ⟨I,f1,p1,k1,f2,p2,k2,y'⟩ (fun M av=> !M.full&&iw M av) ou (fun M av room=>nx M av (room-M.cO)))):=by
  have:=qK W hC;rw[h0];refine this.mono ?_;rintro e w' ⟨H,rfl,F,hu,hy,h8⟩;refine⟨H.u,H.f1,H.p1,H.k1,H.f2,H.p2,H.k2,H.y,rfl,bI F B2,hu,hy,fun O ht=>⟨Bl U s W.heap.size,?_,?_⟩⟩
  ·have X:=K1.trans (yS (oZ:=U) (s:=s) F);exact⟨ht.os.trans X.os,ht.tape.trans X.tape,ht.output.trans X.output,by rw[ht.size];exact X.size,fun b h7 hn=>(ht.block b (by omega)).trans (X.blk b h7 hn),X.ext⟩
  ·refine h8.kp (ht.kpt (T:=Tb s) ?_);rw[CV _ _ _ _ (by omega),o2];exact f_.2 (by omega)
 clear hC K1 o0 o2 o3 K h1 h2 h3 h4 h5 h6 h B0 B3 hb;go_enter func201,ntmps201
 go_wp2_with (first
  |(go_at_call 205;rw[<-h0,<-Z];refine HC.out.mono ?_;rintro e y ⟨I,f1,p1,k1,f2,p2,k2,y',rfl,G,HP⟩;have y0:=G.cell 0;have y1:=G.cell 1;have y2:=G.cell 2;have y3:=G.cell 3;simp only[sQ,nI]at y0 y1 y2 y3;have yf:=G.frozen)
  |go_in)
 have hT:=jD (w.heap.size+1+1) [iZ I,.func f1 p1 k1,.func f2 p2 k2,.bool y'] 0 y;have hB:=kQ [iZ I,.func f1 p1 k1,.func f2 p2 k2,.bool y'] 0 y _ G;have e0:kr (w.heap.size+1+1) 0 [iZ I,.func f1 p1 k1,.func f2 p2 k2,.bool y'] y=(((y.setCell (aj (w.heap.size+1+1) 0) (iZ I)).setCell (aj (w.heap.size+1+1) 1) (.func f1 p1 k1)).setCell (aj (w.heap.size+1+1) 2) (.func f2 p2 k2)).setCell (aj (w.heap.size+1+1) 3) (.bool y'):=rfl;rw[<-e0];clear e0;generalize kr (w.heap.size+1+1) 0 [iZ I,.func f1 p1 k1,.func f2 p2 k2,.bool y'] y=O at *;have a0:O.cell? (aj (w.heap.size+1+1) 0)=some (iZ I):=hB.cell 0;have a1:O.cell? (aj (w.heap.size+1+1) 1)=some (.func f1 p1 k1):=hB.cell 1;have a2:O.cell? (aj (w.heap.size+1+1) 2)=some (.func f2 p2 k2):=hB.cell 2;have a3:O.cell? (aj (w.heap.size+1+1) 3)=some (.bool y'):=hB.cell 3;obtain⟨q1,q2,q3⟩:=HP.out;obtain⟨aC,q4,q5⟩:=q3 O hT;exact bodyPost_ret (v:=.agg #[iZ I,.func f1 p1 k1,.func f2 p2 k2,.bool y']) (by simp[results,results201,go_sem,a0,a1,a2,a3]) rfl ⟨⟨I,f1,p1,k1,f2,p2,k2,y'⟩,aC,rfl,q4,q1,q2,q5⟩
section
theorem iy.to{oZ:Own}{s:Nat}{w:World}{S bw bl bi ab:Nat}{x:Src}{iw ou:Side->aP->Bool}{nx:Side->aP->Int->Option (Fr×Side×aP)}(h:iy oZ s w S bw bl bi ab x iw ou nx)(u:Nat)(Z:∀M av,iw M av=M.waits av u)(hi:∀M av,M.waits av u=true->u_ av=true->ou M av=true)(X:∀M av room,Wk M->M.frame av u room=nx M av room):
  iy oZ s w S bw bl bi ab x (fun M av=>M.waits av u) (fun M av=>M.waits av u&&u_ av) (fun M av room=>M.frame av u room):=by
 obtain⟨n1,n2,h1,G,H,I,O,U⟩:=h.fn;refine⟨n1,n2,h1,G,H,I,?_,U.mono (fun M av e=>?_) (fun M av room F _=>X M av room F)⟩
 ·intro aC w' M av K V F;have:=O aC w' M av K V F;rw[Z M av]at this;exact this
 ·rw[fA]at e;exact hi M av e.1 e.2
theorem ET{oZ:Own}{s:Nat}{w:World}{S bw bl bi ab:Nat}{x:Src}(h:iy oZ s w S bw bl bi ab x (fun M _=> !M.full&&M.gr.waits M.free) (fun M _=>M.gr.waits M.free) (fun M av room=>(M.gr.next 5 0 M.free (room-M.cO)).map fun x=>(x.1,{M with gr:=x.2},av))):
  iy oZ s w S bw bl bi ab x (fun M av=>M.waits av 8) (fun M av=>M.waits av 8&&u_ av) (fun M av room=>M.frame av 8 room):=
 h.to 8 (fun M av=>rfl) (fun M av e _=>by
  have F:(!M.full&&M.gr.waits M.free)=true:=e;rw[fA]at F
  exact F.2) (fun M av room G=>by
  rfl)
theorem Ai{oZ:Own}{s:Nat}{w:World}{S bw bl bi ab:Nat}{x:Src}(k:Nat)(I:k<8)(h:iy oZ s w S bw bl bi ab x (fun M _=> !M.full&&(M.inn k).eZ) (fun M _=>(M.inn k).eZ) (fun M av room=>((M.inn k).gr.next 6 k (M.inn k).free (room-M.cO)).map fun x=>(x.1,M.dA k {M.inn k with gr:=x.2},av))):
  iy oZ s w S bw bl bi ab x (fun M av=>M.waits av (16+k)) (fun M av=>M.waits av (16+k)&&u_ av) (fun M av room=>M.frame av (16+k) room):=by
 have F:16+k-16=k:=by omega
 have G:∀(M:Side) (av:aP),M.waits av (16+k)=(!M.full&&(M.inn k).eZ):=fun M av=>by
  unfold Side.waits;rw[if_neg (by omega),if_neg (by omega),if_pos (by omega),F]
 refine h.to (16+k) (fun M av=>(G M av).symm) (fun M av e _=>?_) (fun M av room H=>?_)
 ·rw[G,fA]at e;exact e.2
 ·unfold Side.frame;rw[if_neg (by omega),if_neg (by omega),if_pos (by omega),F]
theorem EU{oZ:Own}{s:Nat}{w:World}{S bw bl bi ab:Nat}{x:Src}(k:Nat)(I:k<8)(h:iy oZ s w S bw bl bi ab x (fun M _=> !M.full&&(M.out k).nt.waits (M.out k).bytes.length) (fun M _=>(M.out k).nt.waits (M.out k).bytes.length) (fun M av room=>((M.out k).nt.next k (M.out k).bytes.length (room-M.cO)).map fun x=>(x.1,M.bf k {M.out k with nt:=x.2},av))):
  iy oZ s w S bw bl bi ab x (fun M av=>M.waits av (24+k)) (fun M av=>M.waits av (24+k)&&u_ av) (fun M av room=>M.frame av (24+k) room):=by
 have F:24+k-24=k:=by omega
 have G:∀(M:Side) (av:aP),M.waits av (24+k)=(!M.full&&(M.out k).nt.waits (M.out k).bytes.length):=fun M av=>by
  unfold Side.waits;rw[if_neg (by omega),if_neg (by omega),if_neg (by omega),if_pos (by omega),F]
 refine h.to (24+k) (fun M av=>(G M av).symm) (fun M av e _=>?_) (fun M av room H=>?_)
 ·rw[G,fA]at e;exact e.2
 ·unfold Side.frame;rw[if_neg (by omega),if_neg (by omega),if_neg (by omega),if_pos (by omega),F]
theorem Qh{oZ:Own}{s:Nat}{w:World}{S bw bl bi ab:Nat}{x:Src}(k:Nat)(h:iy oZ s w S bw bl bi ab x (fun M _=> !M.full&&(M.out k).waits M.aB) (fun M _=>(M.out k).waits M.aB) (fun M av room=>((M.out k).next k room M.aB).map fun x=>(x.1,M.bf k x.2,av))):
  iy oZ s w S bw bl bi ab x (fun M av=>M.waits av (40+k)) (fun M av=>M.waits av (40+k)&&u_ av) (fun M av room=>M.frame av (40+k) room):=by
 have F:40+k-40=k:=by omega
 have G:∀(M:Side) (av:aP),M.waits av (40+k)=(!M.full&&(M.out k).waits M.aB):=fun M av=>by
  unfold Side.waits;rw[if_neg (by omega),if_neg (by omega),if_neg (by omega),if_neg (by omega),if_neg (by omega),F]
 refine h.to (40+k) (fun M av=>(G M av).symm) (fun M av e _=>?_) (fun M av room _=>?_)
 ·rw[G,fA]at e;exact e.2
 ·unfold Side.frame;rw[if_neg (by omega),if_neg (by omega),if_neg (by omega),if_neg (by omega),if_neg (by omega),F]
theorem MN{oZ:Own}{s:Nat}{w:World}{S bw bl bi ab:Nat}{x:Src}(h:iy oZ s w S bw bl bi ab x (fun M _=> !M.full&&decide (0<M.queue.length)) (fun M _=>decide (0<M.queue.length)) (fun M av room=>if room<M.cO then none else M.queue.head?.map fun f=>(f,{M with queue:=M.queue.tail,qv:=SV M.qv},av))):
  iy oZ s w S bw bl bi ab x (fun M av=>M.waits av 32) (fun M av=>M.waits av 32&&u_ av) (fun M av room=>M.frame av 32 room):=
 h.to 32 (fun M av=>rfl) (fun M av e _=>by
  have F:(!M.full&&decide (0<M.queue.length))=true:=e;rw[fA]at F
  exact F.2) (fun M av room G=>rfl)
structure Km (oZ:Own) (s:Nat) (w:World) (S bw bl bi ab:Nat) (D:Nat->Src) (p:Nat) (v:Value) (Q:List Nat) (M:Side) (av:aP):Prop where
 qs:QsM oZ s w S bw bl bi ab D p v Q
 z:mV oZ s w S bw bl bi ab D 0
 env:Env oZ s w S bw bl bi ab M av
theorem Km.new{oZ F:Own}{s:Nat}{w w1:World}{S bw bl bi ab:Nat}{D:Nat->Src}{p:Nat}{v:Value}{Q:List Nat}{M:Side}{av:aP}(h:Km oZ s w S bw bl bi ab D p v Q M av)(K:Kp [] oZ F w w1):Km F s w1 S bw bl bi ab D p v Q M av:=
 ⟨h.qs.kp K (by simp) (by simp) (by simp),h.z.kp (K.mono (by simp)),h.env.kp K (by simp) (by simp) (by simp)⟩
theorem XU{oZ:Own}{s:Nat}{S bw bl bi ab:Nat}{D:Nat->Src}{p:Nat}{v:Value}{Q:List Nat}{M:Side}{av:aP}(w:World)(h:Km oZ s w S bw bl bi ab D p v Q M av)(x:Src)(u:Nat)(hu:x.u=(u:Int))(hy:x.y=yields u)(hn:u∉Q)(h2:u≠0)(hl:Q.length<1000)(hx:iy oZ s w S bw bl bi ab x (fun M av=>M.waits av u) (fun M av=>M.waits av u&&u_ av) (fun M av room=>M.frame av u room)):
  Calls prog 199 #[ay p 0,jE x] w fun e w'=>e=.returned (.tuple #[])/\∃aC F v',Km aC s w' S bw bl bi ab F p v' (bG Q u) M av/\Kp [s+45,s+46] oZ aC w w':=by
 obtain⟨F,H⟩:∃F:Nat->Src,F=fun j=>if j=u then x else D j:=⟨_,rfl⟩
 have V:F u=x:=by rw[H];exact if_pos rfl
 have en:∀j,j≠u->F j=D j:=fun j G=>by rw[H];exact if_neg G
 have O:∀j:Nat,(F j).u=(j:Int):=fun j=>by
  by_cases G:j=u
  ·rw[G,V];exact hu
  ·rw[en j G];exact h.qs.hd j
 have Z:wO oZ (s+45) F w p v Q:=⟨h.qs.hq.op,h.qs.hq.pb,by rw[yV F D Q fun j G=>en j (fun e=>hn (e▸G))];exact h.qs.hq.sr⟩
 have hU:∀j∈Q,mV oZ s w S bw bl bi ab F j:=fun j G=>by
  have:=h.qs.hs j G;unfold mV at this ⊢;rw[en j (fun e=>hn (e▸G))];exact this
 have I:mV oZ s w S bw bl bi ab F 0:=by
  have:=h.z;unfold mV at this ⊢;rw[en 0 (fun e=>h2 e.symm)];exact this
 have X:mV oZ s w S bw bl bi ab F u:=by
  unfold mV;rw[V];exact⟨hy,hx⟩
 have:=w_ oZ (s+45) F O w p v Q u hl Z;rw[V]at this;refine this.mono ?_;rintro e w' ⟨rfl,aC,v',h0,K⟩;have U:Kp [s+45,s+46] oZ aC w w':=K
 have KT:Kp (Tb s) oZ aC w w':=U.mono fun z hz=>f_.2 (by simp at hz;omega)
 exact⟨rfl,aC,F,v',⟨⟨O,h0,fun j G=>mV.kp (Lp.push (P:=mV oZ s w S bw bl bi ab F) I hU u X j G) KT⟩,I.kp KT,h.env.kp U (by simp;omega) (by simp) (by simp)⟩,U⟩
section
variable (bQ:Own) (s:Nat) (w0:World) (S bw bl bi ab p:Nat) (M:Side) (av:aP)
def Qk(w:World)(Q:List Nat):Prop:=∃oZ D v,Km oZ s w S bw bl bi ab D p v Q M av/\Kp (Tb s) bQ oZ w0 w
def Rk(w:World)(Q:List Nat)(x:Src)(u:Nat)(y:Bool)(iw ou:Side->aP->Bool)(nx:Side->aP->Int->Option (Fr×Side×aP)):Prop:=
 ∃oZ D v,Km oZ s w S bw bl bi ab D p v Q M av/\Kp (Tb s) bQ oZ w0 w/\iy oZ s w S bw bl bi ab x iw ou nx/\x.u=(u:Int)/\x.y=y
def RkI(w:World)(Q:List Nat)(x:Src)(u:Nat)(iw ou:Side->aP->Bool)(nx:Side->aP->Int->Option (Fr×Side×aP)):Prop:=
 ∃oZ D v,Km oZ s w S bw bl bi ab D p v Q M av/\Kp (Tb s) bQ oZ w0 w/\MK oZ s w S bw bl bi ab x iw ou nx/\x.u=(u:Int)
end

section
variable {bQ:Own} {s:Nat} {w0:World} {S bw bl bi ab p:Nat} {M:Side} {av:aP}
theorem Qk.mk{w:World}{Q:List Nat}(h:Qk bQ s w0 S bw bl bi ab p M av w Q){n:Nat}{args:Array Value}{u:Nat}{iw ou:Side->aP->Bool}{nx:Side->aP->Int->Option (Fr×Side×aP)}(H:∀oZ,Calls prog n args w fun e w'=>∃F,e=.returned (jE F)/\aD w w'/\F.u=(u:Int)/\F.y=false/\iy (Bl oZ s w.heap.size) s w' S bw bl bi ab F iw ou nx):
  Calls prog n args w fun e w'=>∃F,e=.returned (jE F)/\Hid (Rk bQ s w0 S bw bl bi ab p M av w' Q F u false iw ou nx):=by
 obtain⟨oZ,D,v,hq,K⟩:=h;refine(H oZ).mono ?_;rintro e w' ⟨F,rfl,hb,I,U,O⟩;have G:Kp [] oZ (Bl oZ s w.heap.size) w w':=yS hb;exact⟨F,rfl,_,D,v,hq.new G,K.trans (G.mono (by simp)),O,I,U⟩
theorem Qk.mkI{w:World}{Q:List Nat}(h:Qk bQ s w0 S bw bl bi ab p M av w Q){n:Nat}{args:Array Value}{u:Nat}{iw ou:Side->aP->Bool}{nx:Side->aP->Int->Option (Fr×Side×aP)}(H:∀oZ,Calls prog n args w fun e w'=>∃F,e=.returned (jE F)/\aD w w'/\F.u=(u:Int)/\F.y=false/\MK (Bl oZ s w.heap.size) s w' S bw bl bi ab F iw ou nx):
  Calls prog n args w fun e w'=>∃F,e=.returned (jE F)/\Hid (RkI bQ s w0 S bw bl bi ab p M av w' Q F u iw ou nx):=by
 obtain⟨oZ,D,v,hq,K⟩:=h;refine(H oZ).mono ?_;rintro e w' ⟨F,rfl,hb,I,_,O⟩;have G:Kp [] oZ (Bl oZ s w.heap.size) w w':=yS hb;exact⟨F,rfl,_,D,v,hq.new G,K.trans (G.mono (by simp)),O,I⟩
theorem RkI.beside{w:World}{Q:List Nat}{x:Src}{u:Nat}{iw ou:Side->aP->Bool}{nx:Side->aP->Int->Option (Fr×Side×aP)}(h:RkI bQ s w0 S bw bl bi ab p M av w Q x u iw ou nx):
  Calls prog 201 #[ay S 0,jE x] w fun e w'=>∃F,e=.returned (jE F)/\Hid (Rk bQ s w0 S bw bl bi ab p M av w' Q F u true (fun M av=> !M.full&&iw M av) ou (fun M av room=>nx M av (room-M.cO))):=by
 obtain⟨oZ,D,v,hq,K,V,U⟩:=h;refine(IV w V).mono ?_;rintro e w' ⟨F,aC,rfl,O,G,I,H⟩;exact⟨F,rfl,aC,D,v,hq.new O,K.trans (O.mono (by simp)),H,by rw[G,U],I⟩
theorem Rk.room{w:World}{Q:List Nat}{x:Src}{u:Nat}{y:Bool}{iw ou:Side->aP->Bool}{nx:Side->aP->Int->Option (Fr×Side×aP)}(h:Rk bQ s w0 S bw bl bi ab p M av w Q x u y iw ou nx):
  Calls prog 205 #[ay S 0,jE x] w fun e w'=>∃F,e=.returned (jE F)/\Hid (Rk bQ s w0 S bw bl bi ab p M av w' Q F u y (fun M av=> !M.full&&iw M av) ou nx):=by
 obtain⟨oZ,D,v,hq,K,V,U,X⟩:=h;refine(qK w V).mono ?_;rintro e w' ⟨F,rfl,hb,G,I,H⟩;have O:Kp [] oZ (Bl oZ s w.heap.size) w w':=yS hb;exact⟨F,rfl,_,D,v,hq.new O,K.trans (O.mono (by simp)),H,by rw[G,U],by rw[I,X]⟩
theorem Rk.add{w:World}{Q:List Nat}{x:Src}{u:Nat}{y:Bool}{iw ou:Side->aP->Bool}{nx:Side->aP->Int->Option (Fr×Side×aP)}(h:Rk bQ s w0 S bw bl bi ab p M av w Q x u y iw ou nx)(Z:y=yields u)(U:u∉Q)(G:u≠0)(hl:Q.length<1000)(ht:∀oZ,iy oZ s w S bw bl bi ab x iw ou nx->iy oZ s w S bw bl bi ab x (fun M av=>M.waits av u) (fun M av=>M.waits av u&&u_ av) (fun M av room=>M.frame av u room)):
  Calls prog 199 #[ay p 0,jE x] w fun e w'=>e=.returned (.tuple #[])/\Hid (Qk bQ s w0 S bw bl bi ab p M av w' (bG Q u)):=by
 obtain⟨oZ,D,v,hq,K,X,V,H⟩:=h;refine(XU w hq x u V (by rw[H,Z]) U G hl (ht oZ X)).mono ?_;rintro e w' ⟨rfl,aC,I,v',F,O⟩;exact⟨rfl,aC,I,v',F,K.trans (O.mono fun z hz=>f_.2 (by simp at hz;omega))⟩
end


def qk(k:Nat):List Nat:=(List.range k).foldl (fun q k=>bG (bG (bG q (16+k)) (24+k)) (40+k)) (bG (bG [] 0) 8)
theorem Dh(k:Nat):qk (k+1)=bG (bG (bG (qk k) (16+k)) (24+k)) (40+k):=by unfold qk;rw[List.range_succ,List.foldl_append];rfl
def Pq(k x:Nat):Prop:=x=0\/x=8\/(16<=x/\x<16+k)\/(24<=x/\x<24+k)\/(40<=x/\x<40+k)
theorem EW:∀k,Lp (Pq k) (qk k)
 |0=>by
  have z:Pq 0 0:=.inl rfl;exact Lp.push (P:=Pq 0) z (Lp.push (P:=Pq 0) z (l:=[]) (fun x F=>by cases F) 0 z) 8 (.inr (.inl rfl))
 |k+1=>by
  rw[Dh]
  have h:Lp (Pq (k+1)) (qk k):=fun x F=>by have:=EW k x F;unfold Pq at *;omega
  have z:Pq (k+1) 0:=.inl rfl;exact Lp.push z (Lp.push z (Lp.push z h _ (by unfold Pq;omega)) _ (by unfold Pq;omega)) _ (by unfold Pq;omega)
theorem yZ:∀k,(qk k).length=2+3*k
 |0=>rfl
 |k+1=>by rw[Dh,jw,jw,jw,yZ k];omega
theorem Kn{P:Nat->Prop}(H:P 0){l:List Nat}(h:Lp P l)(u v:Nat)(I:¬P v)(F:u≠v):v∉bG l u:=fun G=>by
 have:=Lp.push (P:=fun x=>P x\/x=u) (.inl H) (fun x G=>.inl (h x G)) u (.inr rfl) v G
 rcases this with h1|h1
 ·exact I h1
 ·exact F h1.symm
end
def Ku(oZ:Own)(s:Nat)(W:World)(S bw bl bi:Nat)(M:Side)(av:aP)(e:Ending)(w':World):Prop:=
 ∃x ab,e=.returned (jE x)/\Hid (∃aC,Kp [s] oZ aC W w'/\Env aC s w' S bw bl bi ab M av/\iy aC s w' S bw bl bi ab x (fun M av=>M.waits av 0) (fun M av=>M.waits av 0&&u_ av) (fun M av room=>M.frame av 0 room)/\x.u=0/\x.y=false)
def XW(u:Nat):Src:=⟨(u:Int),.func 0,#[],#[],.func 0,#[],#[],false⟩
theorem IY(oZ:Own)(s:Nat)(S:Nat)(l:aI)(M M':Side)(bw bl bi:Nat)(vc:Value)(av:aP)(w:World)(h:bT oZ s w S l M bw bl bi vc)(O:∀oZ W,bT oZ s W S l M bw bl bi vc->Calls prog 200 #[ay S 0] W fun e w'=>Ku oZ s W S bw bl bi M' av e w'):
  Calls prog 155 #[ay S 0] w fun e w'=>∃p,e=.returned (ay p 0)/\∃ab aC D v,Km aC s w' S bw bl bi ab D p v q0 M' av/\Kp (Tb s) oZ aC w w':=by
 obtain⟨F,X⟩:∃F,F=(w.alloc (.cells #[] 304)).alloc (.cells #[aS w.heap.size 0 0] 300):=⟨_,rfl⟩
 have I:aD w F:=by rw[X];exact((tT _ w).alloc (tL _) _).alloc (by simp) _
 have B0:aA F w.heap.size 304 []:=by rw[X];exact(aA.new w 304 []).alloc _
 have B1:aA F (w.heap.size+1) 300 [aS w.heap.size 0 0]:=by
  rw[X];have:=aA.new (w.alloc (.cells #[] 304)) 300 [aS w.heap.size 0 0];rwa[mR]at this
 obtain⟨H,Z⟩:∃H:Own,H=fun b=>if b<w.heap.size then oZ b else if b=w.heap.size then s+45 else s+46:=⟨_,rfl⟩
 have o0:H w.heap.size=s+45:=by rw[Z];show(if w.heap.size<w.heap.size then _ else if w.heap.size=w.heap.size then s+45 else s+46)=_;rw[if_neg (by omega),if_pos rfl]
 have o1:H (w.heap.size+1)=s+46:=by rw[Z];show(if w.heap.size+1<w.heap.size then _ else if w.heap.size+1=w.heap.size then s+45 else s+46)=_;rw[if_neg (by omega),if_neg (by omega)]
 have K1:Kp [] oZ H w F:=⟨I.os,I.tape,I.output,I.size,fun b hb _=>I.block b hb,fun b hb=>by rw[Z];exact if_pos hb⟩;have h4:wO H (s+45) XW F (w.heap.size+1) (aS w.heap.size 0 0) []:=⟨o1,B1,.inr ⟨w.heap.size,0,[],rfl,o0,B0,by simp,tL _,by omega,rfl,rfl,fun v hv=>by cases hv⟩⟩
 have HA:Hid (Calls prog 200 #[ay S 0] F fun e w'=>∃x ab,e=.returned (jE x)/\Hid (∃aC,Kp [s] H aC F w'/\Env aC s w' S bw bl bi ab M' av/\QsM aC s w' S bw bl bi ab XW (w.heap.size+1) (aS w.heap.size 0 0) []/\iy aC s w' S bw bl bi ab x (fun M av=>M.waits av 0) (fun M av=>M.waits av 0&&u_ av) (fun M av room=>M.frame av 0 room)/\x.u=0/\x.y=false)):=by
  refine(O H F (h.kp K1 (by simp))).mono ?_;rintro e w' ⟨x,ab,rfl,aC,Ka,hE,G,hu,hy⟩;refine⟨x,ab,rfl,aC,Ka,hE,⟨fun u=>rfl,⟨by rw[Ka.ext _ B1.lt,o1],aO B1 Ka (by rw[o1];simp),h4.sr.kp Ka (by simp)⟩,fun u hu=>by cases hu⟩,G,hu,hy⟩
 have h7:Hid (∀(w1:World) (x:Src) (ab:Nat),(∃aC,Kp [s] H aC F w1/\Env aC s w1 S bw bl bi ab M' av/\QsM aC s w1 S bw bl bi ab XW (w.heap.size+1) (aS w.heap.size 0 0) []/\iy aC s w1 S bw bl bi ab x (fun M av=>M.waits av 0) (fun M av=>M.waits av 0&&u_ av) (fun M av room=>M.frame av 0 room)/\x.u=0/\x.y=false)->
   Calls prog 199 #[(ay (w.heap.size+1) 0),jE x] w1 fun e w'=>e=.returned (.tuple #[])/\Hid (Qk H s F S bw bl bi ab (w.heap.size+1) M' av w' (bG [] 0))):=by
  rintro w1 x ab ⟨aC,Ka,hE,hq,G,hu,hy⟩;refine(XQ w1 hq x 0 hu hy (by simp) (by simp) G (.inl rfl)).mono ?_;rintro e w' ⟨rfl,dx,D2,v2,h5,K2⟩;exact⟨rfl,dx,D2,v2,⟨h5,h5.hs 0 (by decide),hE.kp K2 (by simp;omega) (by simp) (by simp)⟩,(Ka.mono fun z hz=>f_.2 (by simp at hz;omega)).trans (K2.mono fun z hz=>f_.2 (by simp at hz;omega))⟩
 have oo:Hid (∀w' ab,Qk H s F S bw bl bi ab (w.heap.size+1) M' av w' q0->∃ab aC D v,Km aC s w' S bw bl bi ab D (w.heap.size+1) v q0 M' av/\Kp (Tb s) oZ aC w w'):=by
  rintro w' ab ⟨aC,D,v,hq,K⟩;exact⟨ab,aC,D,v,hq,(K1.mono (by simp)).trans K⟩
 clear O h h4 K1 o0 o1 Z B0 B1 I;go_enter func155,ntmps155
 go_wp2_with (first
  |(go_at_call 200;rw[<-X];refine HA.out.mono ?_;rintro e w1 ⟨x,ab,rfl,HX⟩;have NZ:=au (h7.out w1 x ab HX.out))
  |(go_at_call 199;refine NZ.out.mono ?_;rintro e w2 ⟨rfl,HQ⟩)
  |(go_at_call 202;refine(HQ.out.mkI (u:=8) (fun oZ=>IJ (oZ:=oZ) w2)).mono ?_;rintro e w3 ⟨x3,rfl,h2⟩)
  |(go_at_call 201;refine(RkI.beside h2.out).mono ?_;rintro e w4 ⟨x4,rfl,h3⟩)
  |(go_at_call 199;refine(Rk.add h3.out rfl (by decide) (by decide) (by decide) (fun oZ G=>ET G)).mono ?_;rintro e w5 ⟨rfl,h0⟩)
  |go_in)
 go_loopw [17] (fun GY wr=>∃k:Nat,k<=8/\GY=(iZ k)/\Hid (Qk H s F S bw bl bi ab (w.heap.size+1) M' av wr (qk k))) (fun GY _=>8-(intOf GY).toNat)
 case atStart=>exact⟨0,by omega,rfl,h0.out⟩
 case round=>
  obtain⟨k,hk,rfl,HI⟩:=hrel
  by_cases U:k<8
  ·have h8:(k:Int)<8:=by omega
   have n1:16+k∉qk k:=fun e=>by have:=EW k _ e;unfold Pq at this;omega
   have n2:24+k∉bG (qk k) (16+k):=Kn (P:=Pq k) (.inl rfl) (EW k) _ _ (by unfold Pq;omega) (by omega);have n3:40+k∉bG (bG (qk k) (16+k)) (24+k):=Kn (P:=fun x=>Pq k x\/x=16+k) (.inl (.inl rfl)) (Lp.push (.inl (.inl rfl)) (fun x G=>.inl (EW k x G)) _ (.inr rfl)) _ _ (by unfold Pq;omega) (by omega)
   have l1:(qk k).length<1000:=by rw[yZ];omega
   have l2:(bG (qk k) (16+k)).length<1000:=by rw[jw,yZ];omega
   have l3:(bG (bG (qk k) (16+k)) (24+k)).length<1000:=by rw[jw,jw,yZ];omega
   have V:=au (And.intro n1 (And.intro n2 (And.intro n3 (And.intro l1 (And.intro l2 l3)))))
   have y1:Hid (true=yields (16+k)/\true=yields (24+k)/\false=yields (40+k)):=by
    unfold yields;refine⟨?_,?_,?_⟩
    ·rw[decide_eq_true (by omega),decide_eq_true (by omega)];rfl
    ·rw[decide_eq_true (by omega),decide_eq_true (by omega)];rfl
    ·rw[decide_eq_true (by omega),decide_eq_false (by omega)];rfl
   clear n1 n2 n3 l1 l2 l3 h0 h3 h2 HQ HX NZ
   go_wp2_with (first
    |(go_at_call 203;refine(HI.out.mkI (u:=16+k) (fun oZ=>C_ (oZ:=oZ) k U wr)).mono ?_;rintro e v1 ⟨z1,rfl,H1⟩)
    |(go_at_call 201;refine(RkI.beside H1.out).mono ?_;rintro e v2 ⟨z2,rfl,H2⟩;clear H1)
    |(go_at_call 199;refine(Rk.add H2.out y1.out.1 V.out.1 (by omega) V.out.2.2.2.1 (fun oZ G=>Ai k U G)).mono ?_;rintro e v3 ⟨rfl,H3⟩;clear H2)
    |(go_at_call 204;refine(H3.out.mkI (u:=24+k) (fun oZ=>IK (oZ:=oZ) k U v3)).mono ?_;rintro e v4 ⟨z4,rfl,H4⟩)
    |(go_at_call 201;refine(RkI.beside H4.out).mono ?_;rintro e v5 ⟨z5,rfl,H5⟩;clear H4)
    |(go_at_call 199;refine(Rk.add H5.out y1.out.2.1 V.out.2.1 (by omega) V.out.2.2.2.2.1 (fun oZ G=>EU k U G)).mono ?_;rintro e v6 ⟨rfl,H6⟩;clear H5)
    |(go_at_call 206;refine(H6.out.mk (u:=40+k) (fun oZ=>mk_data (oZ:=oZ) k U v6)).mono ?_;rintro e v7 ⟨z7,rfl,H7⟩)
    |(go_at_call 205;refine(Rk.room H7.out).mono ?_;rintro e v8 ⟨z8,rfl,H8⟩;clear H7)
    |(go_at_call 199;refine(Rk.add H8.out y1.out.2.2 V.out.2.2.1 (by omega) V.out.2.2.2.2.2 (fun oZ G=>Qh k G)).mono ?_;rintro e v9 ⟨rfl,H9⟩;clear H8)
    |go_in)
   go_roundw
   case rel=>exact⟨k+1,by omega,by simp,(by rw[Dh];exact H9.out:Qk H s F S bw bl bi ab (w.heap.size+1) M' av _ (qk (k+1)))⟩
   case measure=>simp[intOf];omega
  ·obtain rfl:k=8:=by omega
   have n32:32∉qk 8:=fun e=>by have:=EW 8 _ e;unfold Pq at this;omega
   have h6:(qk 8).length<1000:=by rw[yZ];omega
   have V:=au (And.intro n32 h6);clear n32 h6 h0 h3 h2 HQ HX NZ
   go_wp2_with (first
    |(go_at_call 207;refine(HI.out.mk (u:=32) (fun oZ=>Da (oZ:=oZ) wr)).mono ?_;rintro e v1 ⟨z1,rfl,H1⟩)
    |(go_at_call 205;refine(Rk.room H1.out).mono ?_;rintro e v2 ⟨z2,rfl,H2⟩;clear H1)
    |(go_at_call 199;refine(Rk.add H2.out rfl V.out.1 (by decide) V.out.2 (fun oZ G=>MN G)).mono ?_;rintro e v3 ⟨rfl,H3⟩;clear H2)
    |go_in)
   go_ret;exact⟨w.heap.size+1,rfl,oo.out _ ab H3.out⟩
theorem RH(a:Addr)(w:World):
  Calls prog 173 #[.pointer (some a)] w fun e w'=>e=.returned (.func (.func 226) #[] #[ay w.heap.size 0])/\w'=w.alloc (.cells #[.pointer (some a)] 273):=by
 have F:∀(fn:Fn) (first cap:Array Value) (w:World),(Instr.makeFunc fn first cap).run prog w=.ok (.func fn first cap) w:=fun _ _ _ _=>rfl
 go_enter func173,ntmps173;go_wp2;go_ret;exact⟨rfl,rfl⟩
theorem Fv(sb sp:Nat)(rs:aP)(base:Option Addr)(c:Nat)(w:World)(G:w.cell? (aj sp 227)=some (.slice base rs.length c))(K:bK 170 2 w (.slice base rs.length c) rs.length (St.aL rs))(F:aA w sb 273 [ay sp 225])(I:rs.length<=1000000):
  Calls prog 245 #[.func (.func 226) #[] #[ay sb 0]] w fun e w'=>∃v',e=.returned v'/\bK 170 2 w' v' rs.reverse.length (St.aL rs.reverse)/\YtphbledmopchnaaGreatDoor.Own w.heap.size v'/\aD w w':=by
 have O:=au (St.Aj sb sp rs base c w G K F I);clear G K F;go_enter func245,ntmps245
 go_wp2_with (go_at_call 308;refine O.out.mono ?_;rintro e w' ⟨v',rfl,H⟩;have H:=au H)
 go_ret;exact⟨_,rfl,H.out⟩
theorem bT.ZC{oZ aC:Own}{s:Nat}{w w':World}{S:Nat}{l l':aI}{M M':Side}{bw bl bi:Nat}{vc:Value}(h:bT oZ s w S l M bw bl bi vc)(K:Kp [s] oZ aC w w')(o n:Nat)(ho:o+n<=4\/220<=o)(q:dL w w' S l l' o n)(hc:SdL l' M' bw bl bi vc)(H:M'.outs=M.outs)(I:M'.ins=M.ins)(O:M'.came=M.came)(U:M'.aF=M.aF)(V:M'.lost=M.lost)(X:M'.qv=M.qv)(Z:M'.queue=M.queue):bT aC s w' S l' M' bw bl bi vc:=by
 have F:∀x,x∈[s]->x=s:=fun x hx=>by simpa using hx
 have eo:∀j,M'.out j=M.out j:=fun j=>by unfold Side.out;rw[H]
 have ei:∀j,M'.inn j=M.inn j:=fun j=>by unfold Side.inn;rw[I]
 refine⟨by rw[K.ext S h.blk.lt,h.ow],h.s0,q.blk,hc,fun j G=>?_,fun j G=>?_,?_,?_,?_,?_,by rw[H];exact h.lo,by rw[I];exact h.li⟩
 ·rw[eo];exact(h.out j G).kp K (fun e=>by have:=F _ e;omega) (fun e=>by have:=F _ e;omega) (fun e=>by have:=F _ e;omega) q.win (by omega)
 ·rw[ei];exact(h.inn j G).kp K (fun e=>by have:=F _ e;omega) (fun e=>by have:=F _ e;omega) q.win (by omega)
 ·rw[O];exact h.row.kp K (fun e=>by have:=F _ e;omega)
 ·rw[U];exact h.way.kp K (fun e=>by have:=F _ e;omega) (fun e=>by have:=F _ e;omega)
 ·rw[V];exact h.lost.kp K (fun e=>by have:=F _ e;omega) (fun e=>by have:=F _ e;omega)
 ·rw[X,Z];exact h.qu.kp K (fun e=>by have:=F _ e;omega)
theorem RI{w:World}{g:Nat}{cs:aI}{rs:aP}(hB:aA w g 170 cs)(ht:cs.take (rs.length*2)=St.aL rs)(hb:∀r∈rs,r.1<18446744073709551616/\r.2<18446744073709551616):fV w (some (aj g 0)) rs:=fun j F=>by
 have c0:=St.pX rs j F;have c1:=St.pY rs j F;rw[<-ht,List.getElem?_take,if_pos (by omega)]at c0 c1
 have G:rs.getD j (0,0)∈rs:=by rw[List.getD_eq_getElem?_getD,List.getElem?_eq_getElem F];exact List.getElem_mem _
 exact⟨g,0,rfl,by rw[hB.cell,wz];exact c0,by rw[hB.cell,wz];exact c1,hb _ G⟩
theorem Fw{oZ:Own}{s:Nat}{S:Nat}{l:aI}{M:Side}{bw bl bi:Nat}{vc:Value}{w w':World}(h:bT oZ s w S l M bw bl bi vc)(q:dL w w' S l (l.set 228 (.bool false)) 228 1)(v:Value)(I:aA w' (w.heap.size+1) 342 [v])(av:aP)(hb:∀r∈av,r.1<18446744073709551616/\r.2<18446744073709551616)(hr:bK 170 2 w' v av.length (St.aL av))(X:YtphbledmopchnaaGreatDoor.Own w.heap.size v):
  Ku oZ s w S bw bl bi {M with answer:=false} av (.returned (jE ⟨0,.func 246,#[(ay (w.heap.size+1) 0)],#[],.func 247,#[(ay (w.heap.size+1) 0)],#[],false⟩)) w':=by
 obtain⟨aC,H⟩:∃aC:Own,aC=fun b=>if b<w.heap.size then oZ b else if b=w.heap.size+1 then s+48 else s+49:=⟨_,rfl⟩
 have o1:aC (w.heap.size+1)=s+48:=by rw[H];show(if w.heap.size+1<w.heap.size then _ else if w.heap.size+1=w.heap.size+1 then s+48 else s+49)=_;rw[if_neg (by omega),if_pos rfl]
 have o2:∀b,w.heap.size<=b->b≠w.heap.size+1->aC b=s+49:=fun b h1 F=>by rw[H];show(if b<w.heap.size then _ else if b=w.heap.size+1 then s+48 else s+49)=_;rw[if_neg (by omega),if_neg F]
 have K:Kp [s] oZ aC w w':=⟨q.os,q.tape,q.output,q.size,fun b hb hn=>q.al b hb (fun e=>hn (by rw[e,h.ow];simp)),fun b hb=>by rw[H];exact if_pos hb⟩;have c:=h.cells
 have e:∀j,j≠228->(l.set 228 (.bool false))[j]?=l[j]?:=fun j hj=>List.getElem?_set_ne (fun e=>hj e.symm)
 have Z:SdL (l.set 228 (.bool false)) {M with answer:=false} bw bl bi vc:=⟨by rw[List.length_set];exact c.len,(e _ (by omega)).trans c.c0,(e _ (by omega)).trans c.c1,(e _ (by omega)).trans c.c2,(e _ (by omega)).trans c.c3,(e _ (by omega)).trans c.mH,c.gr.win q.win (by omega),
  (e _ (by omega)).trans c.oh,(e _ (by omega)).trans c.c226,(e _ (by omega)).trans c.c227,by rw[List.getElem?_set_self (by rw[c.len];omega)],(e _ (by omega)).trans c.c229,(e _ (by omega)).trans c.kL,(e _ (by omega)).trans c.nC,(e _ (by omega)).trans c.c232,
  (e _ (by omega)).trans c.c233,(e _ (by omega)).trans c.c234,(e _ (by omega)).trans c.nD,(e _ (by omega)).trans c.c236,(e _ (by omega)).trans c.o9,(e _ (by omega)).trans c.kM,(e _ (by omega)).trans c.o_⟩
 refine⟨_,w.heap.size+1,rfl,aC,K,⟨_,vc,h.ZC K 228 1 (by omega) q Z rfl rfl rfl rfl rfl rfl rfl,o1,v,I,?_⟩,?_,rfl,rfl⟩
 ·rcases hr with⟨h1,F,_⟩|⟨g,cap,cs,h1,F,h3,h4,h5,h6,h7,h8⟩
  ·exact .inl ⟨h1,List.length_eq_zero_iff.1 F⟩
  ·have hg:w.heap.size<=g:=X g (by rw[h1];rfl)
   have G:g≠w.heap.size+1:=fun e=>by
    have:=I;rw[<-e]at this;have V:=F.symm.trans this;simp at V
   exact .inr ⟨g,0,cap,h1,h4,h5,F.lt,o2 g hg G,RI F h7 hb⟩
 ·have hx:iy aC s w' S bw bl bi (w.heap.size+1) ⟨0,.func 246,#[(ay (w.heap.size+1) 0)],#[],.func 247,#[(ay (w.heap.size+1) 0)],#[],false⟩ (fun _ av=>decide (0<av.length)) (fun _ av=>decide (0<av.length)&&u_ av) (fun M av room=>if cB av room av.length=0 then none else some (dR (av.take (cB av room av.length)),M,av.drop (cB av room av.length))):=
   ⟨246,247,rfl,rfl,enters_of func246 (by kernel_rfl) rfl,enters_of func247 (by kernel_rfl) rfl,Ms,ML⟩
  exact hx.to 0 (fun M av=>rfl) (fun M av O U=>by rw[fA];exact⟨O,U⟩) (fun M av room _=>rfl)
theorem VN(oZ:Own)(s:Nat)(S:Nat)(l:aI)(M:Side)(bw bl bi:Nat)(vc:Value)(w:World)(h:bT oZ s w S l M bw bl bi vc)(hn:M.came.rs.length<=1000000)(h9:∀r∈M.came.rs,r.1<18446744073709551616/\r.2<18446744073709551616):
  Calls prog 200 #[ay S 0] w fun e w'=>Ku oZ s w S bw bl bi {M with answer:=false} (if M.answer then M.came.rs.reverse else[]) e w':=by
 have c228:w.cell? (aj S 228)=some (.bool M.answer):=by rw[h.blk.cell];exact h.cells.c228
 have h6:S<w.heap.size:=h.blk.lt
 have Mk:∀(fn:Fn) (first cap:Array Value) (w:World),(Instr.makeFunc fn first cap).run prog w=.ok (.func fn first cap) w:=fun _ _ _ _=>rfl
 cases ha:M.answer
 ·rw[ha]at c228;have f228:=h.blk.frozen 228;have H:=au h;clear h;go_enter func200,ntmps200;go_wp2;obtain⟨I,X⟩:∃I:Value,I=.func (.func 246) #[(ay (w.heap.size+1) 0)] #[]:=⟨_,rfl⟩;obtain⟨K,Z⟩:∃K:Value,K=.func (.func 247) #[(ay (w.heap.size+1) 0)] #[]:=⟨_,rfl⟩;rw[<-X,<-Z];have q0:dL w (w.setCell (aj S 228) (.bool false)) S l (l.set 228 (.bool false)) 228 1:=dL.one H.out.blk 228 _ 228 1 (by omega) (by omega)
  have he:(w.setCell (aj S 228) (.bool false)).heap.size=w.heap.size:=by simp
  generalize w.setCell (aj S 228) (.bool false)=w1 at *;have B0:=(aA.new w1 304 [iZ 0,I,K,.bool false]).alloc (.cells #[nZ] 342);have B1:=aA.new (w1.alloc (.cells #[iZ 0,I,K,.bool false] 304)) 342 [nZ];have hb:aD w1 ((w1.alloc (.cells #[iZ 0,I,K,.bool false] 304)).alloc (.cells #[nZ] 342)):=((tT _ w1).alloc (tL _) _).alloc (by simp) _;simp only[mR]at B1;rw[he]at B0 B1;generalize ((w1.alloc (.cells #[iZ 0,I,K,.bool false] 304)).alloc (.cells #[nZ] 342))=W at *;have a0:=B0.cell 0;have a1:=B0.cell 1;have a2:=B0.cell 2;have a3:=B0.cell 3;simp only[sQ,nI]at a0 a1 a2 a3;refine bodyPost_ret (v:=.agg #[iZ 0,I,K,.bool false]) (by simp[results,results200,go_sem,a0,a1,a2,a3]) rfl ?_;have:=Fw H.out (q0.fK hb) _ B1 [] (fun r hr=>by cases hr) (bK.nil _ _ _) (fun k G=>by simp[Value.ownBlock]at G);unfold jE at this;rw[X,Z];exact this
 ·rw[ha]at c228;obtain⟨base,c,h8,r1,r2,r3,r4⟩:=h.row
  have c227:w.cell? (aj S 227)=some (.slice base M.came.rs.length c):=by rw[h.blk.cell,<-h8];exact h.cells.c227
  have hG:bK 170 2 w (.slice base M.came.rs.length c) M.came.rs.length (St.aL M.came.rs):=r3.TW r1 r2;have hS:=h.blk;obtain⟨W2,O⟩:∃W2,W2=((w.alloc (.cells #[iZ 0,.nilFunc,.nilFunc,.bool false] 304)).alloc (.cells #[nZ] 342)).alloc (.cells #[ay S 225] 273):=⟨_,rfl⟩
  have U:aD w W2:=by rw[O];exact(((tT _ w).alloc (tL _) _).alloc (by simp) _).alloc (by simp;omega) _
  have h7:W2.heap.size=w.heap.size+3:=by rw[O];simp
  have V:aA W2 w.heap.size 304 [iZ 0,.nilFunc,.nilFunc,.bool false]:=by rw[O];exact((aA.new w 304 _).alloc _).alloc _
  have x1:aA W2 (w.heap.size+1) 342 [nZ]:=by
   rw[O];have:=aA.new (w.alloc (.cells #[iZ 0,.nilFunc,.nilFunc,.bool false] 304)) 342 [nZ];simp only[mR]at this;exact this.alloc _
  have x2:aA W2 (w.heap.size+1+1) 273 [ay S 225]:=by
   rw[O];have:=aA.new ((w.alloc (.cells #[iZ 0,.nilFunc,.nilFunc,.bool false] 304)).alloc (.cells #[nZ] 342)) 273 [ay S 225];simpa only[mR]using this
  have HC:Hid (Calls prog 245 #[.func (.func 226) #[] #[(ay (w.heap.size+1+1) 0)]] W2 fun e F=>∃a5 n5 c5,e=.returned (.slice a5 n5 c5)/\F.cell? (aj S 228)=some (.bool true)/\aA F S TS l/\aA F w.heap.size 304 [iZ 0,.nilFunc,.nilFunc,.bool false]/\aA F (w.heap.size+1) 342 [nZ]/\Hid (aD w F/\bK 170 2 F (.slice a5 n5 c5) M.came.rs.reverse.length (St.aL M.came.rs.reverse)/\YtphbledmopchnaaGreatDoor.Own (w.heap.size+3) (.slice a5 n5 c5))):=by
   refine(Fv (w.heap.size+1+1) S M.came.rs base c W2 (cell_of c227 (U.block S h6)) (hG.of_heap (fun b hb=>U.block b (hG.lt b hb))) x2 hn).mono ?_;rintro e F ⟨v5,rfl,g1,g2,g3⟩;obtain⟨a5,c5,rfl,_⟩:=g1.shape;exact⟨a5,_,c5,rfl,cell_of c228 ((U.trans (g3.mono (by omega))).block S h6),bI (U.trans (g3.mono (by omega))) hS,bI g3 V,bI g3 x1,U.trans (g3.mono (by omega)),g1,by rw[h7]at g2;exact g2⟩
  have H:=au h
  have n0:S≠w.heap.size:=by omega
  have n1:S≠w.heap.size+1:=by omega
  clear h hS U h7 V x1 x2 r1 r2 r3 r4 hG c227 h8;go_enter func200,ntmps200
  go_wp2_with (first
   |(go_at_call 173;refine(RH _ _).mono ?_;rintro e w' ⟨rfl,rfl⟩)
   |(go_at_call 245;rw[<-O];refine HC.out.mono ?_;rintro e F ⟨a5,n5,c5,rfl,s5,xS,V,x1,HX⟩;have y0:F.cell? (aj w.heap.size 0)=some (iZ 0):=V.cell 0;have y1:F.cell? (aj w.heap.size 1)=some .nilFunc:=V.cell 1;have y2:F.cell? (aj w.heap.size 2)=some .nilFunc:=V.cell 2;have y3:F.cell? (aj w.heap.size 3)=some (.bool false):=V.cell 3;have dS:=V.frozen 0;have jL:=V.frozen 1;have j_:=V.frozen 2;have ug:=V.frozen 3;have z0:F.cell? (aj (w.heap.size+1) 0)=some nZ:=x1.cell 0;have fz:=x1.frozen 0;have hf:=xS.frozen 228)
   |go_in)
  obtain⟨I,X⟩:∃I:Value,I=.func (.func 246) #[(ay (w.heap.size+1) 0)] #[]:=⟨_,rfl⟩;obtain⟨K,Z⟩:∃K:Value,K=.func (.func 247) #[(ay (w.heap.size+1) 0)] #[]:=⟨_,rfl⟩;rw[<-X,<-Z];obtain⟨h0,DI,Ta⟩:=HX.out;obtain⟨u1,h2⟩:∃u1,u1=F.setCell (aj (w.heap.size+1) 0) (.slice a5 n5 c5):=⟨_,rfl⟩;obtain⟨u2,h3⟩:∃u2,u2=u1.setCell (aj S 228) (.bool false):=⟨_,rfl⟩;obtain⟨u6,h4⟩:∃u6,u6=(((u2.setCell (aj w.heap.size 0) (iZ 0)).setCell (aj w.heap.size 1) I).setCell (aj w.heap.size 2) K).setCell (aj w.heap.size 3) (.bool false):=⟨_,rfl⟩;rw[<-h2,<-h3,<-h4]
  have o1:∀k,k≠w.heap.size+1->u1.heap[k]?=F.heap[k]?:=fun k G=>by rw[h2];exact fB _ _ _ _ G
  have o2:∀k,k≠S->u2.heap[k]?=u1.heap[k]?:=fun k G=>by rw[h3];exact fB _ _ _ _ G
  have o6:∀k,k≠w.heap.size->u6.heap[k]?=u2.heap[k]?:=fun k G=>by rw[h4,fB _ _ _ _ G,fB _ _ _ _ G,fB _ _ _ _ G,fB _ _ _ _ G]
  have s1:u1.heap.size=F.heap.size/\u1.os=F.os/\u1.tape=F.tape/\u1.output=F.output:=by rw[h2];exact⟨by simp,rfl,rfl,rfl⟩
  have s2:u2.heap.size=u1.heap.size/\u2.os=u1.os/\u2.tape=u1.tape/\u2.output=u1.output:=by rw[h3];exact⟨by simp,rfl,rfl,rfl⟩
  have s6:u6.heap.size=u2.heap.size/\u6.os=u2.os/\u6.tape=u2.tape/\u6.output=u2.output:=by rw[h4];exact⟨by simp,rfl,rfl,rfl⟩
  have B6:aA u6 w.heap.size 304 [iZ 0,I,K,.bool false]:=by
   have b1:aA u2 w.heap.size 304 [iZ 0,.nilFunc,.nilFunc,.bool false]:=(V.of_heap (o1 _ (by omega))).of_heap (o2 _ (by omega));rw[h4];exact(((b1.setCell 0 _).setCell 1 _).setCell 2 _).setCell 3 _
  have BA:aA u6 (w.heap.size+1) 342 [.slice a5 n5 c5]:=by
   have b1:aA u1 (w.heap.size+1) 342 [.slice a5 n5 c5]:=by rw[h2];exact x1.setCell 0 _
   exact(b1.of_heap (o2 _ (by omega))).of_heap (o6 _ (by omega))
  have BS:aA u6 S TS (l.set 228 (.bool false)):=by
   have b1:aA u2 S TS (l.set 228 (.bool false)):=by rw[h3];exact(xS.of_heap (o1 _ n1)).setCell 228 _
   exact b1.of_heap (o6 _ n0)
  have q:dL w u6 S l (l.set 228 (.bool false)) 228 1:=by
   have q0:dL w (w.setCell (aj S 228) (.bool false)) S l (l.set 228 (.bool false)) 228 1:=dL.one H.out.blk 228 _ 228 1 (by omega) (by omega);exact⟨by rw[s6.2.1,s2.2.1,s1.2.1,h0.os],by rw[s6.2.2.1,s2.2.2.1,s1.2.2.1,h0.tape],by rw[s6.2.2.2,s2.2.2.2,s1.2.2.2,h0.output],by rw[s6.1,s2.1,s1.1];exact h0.size,fun b hb hc=>by rw[o6 b (by omega),o2 b hc,o1 b (by omega),h0.block b hb],BS,q0.win⟩
  have G6:bK 170 2 u6 (.slice a5 n5 c5) M.came.rs.reverse.length (St.aL M.came.rs.reverse):=DI.of_heap (fun k G=>by have:=Ta k G;rw[o6 k (by omega),o2 k (by omega),o1 k (by omega)]);have h5:=Fw H.out q _ BA M.came.rs.reverse (fun r hr=>h9 r (List.mem_reverse.1 hr)) G6 (fun k G=>by have:=Ta k G;omega);have a0:=B6.cell 0;have a1:=B6.cell 1;have a2:=B6.cell 2;have a3:=B6.cell 3;simp only[sQ,nI]at a0 a1 a2 a3;clear h4 h3 h2;refine bodyPost_ret (v:=.agg #[iZ 0,I,K,.bool false]) (by simp[results,results200,go_sem,a0,a1,a2,a3]) rfl ?_;unfold jE at h5;rw[X,Z];exact h5
