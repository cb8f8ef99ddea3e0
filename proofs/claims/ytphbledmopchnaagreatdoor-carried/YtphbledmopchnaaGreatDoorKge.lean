import Derived.Test.YtphbledmopchnaaGreatDoorKgd
open Go.RowKit.Below renaming heap_setCell->mR,refl->wz
open Bool renaming and_eq_true->jK
open List renaming getElem?_cons_succ->tL,getElem?_cons_zero->tT
open Nat renaming le_refl->uj,zero_add->CK
open Go.World renaming size_alloc->nI
set_option maxHeartbeats 2000000
set_option maxRecDepth 100000
namespace Go.Proofs.YtphbledmopchnaaGreatDoor.Sd
open Go.RowKit Go.Lib Mm Tryz
theorem Ic{own:Own}{s:Nat}{S bw bl bi ab:Nat}{x:Src}{iw rW:Side->List (Nat×Nat)->Bool}{nx:Side->List (Nat×Nat)->Int->Option (Fr×Side×List (Nat×Nat))}(w:World)(h:fU own s w S bw bl bi ab x iw rW nx):
  Calls prog 201 #[.pointer (some ⟨S,0,none⟩),jG x] w fun e w'=>∃H own',e=.returned (jG H)/\Kp [] own own' w w'/\H.u=x.u/\H.y=true/\fU own' s w' S bw bl bi ab H (fun M left=> !M.full&&iw M left) rW nx:=by
 obtain⟨n1,n2,h1,h2,h3,h4,h5,h6⟩:=h.fn;obtain⟨X,h0⟩:∃X:Value,X=.func (.func 248) #[] #[.pointer (some ⟨w.heap.size+1+1+1,0,none⟩),.pointer (some ⟨w.heap.size,0,none⟩)]:=⟨_,rfl⟩;obtain⟨W,hW⟩:∃W,W=((((w.alloc (.cells #[.pointer (some ⟨S,0,none⟩)] 128)).alloc (.cells #[.int .i64 x.u,.func x.f1 x.p1 x.k1,X,.bool true] 304)).alloc (.cells #[.int .i64 0,.nilFunc,.nilFunc,.bool false] 304)).alloc (.cells #[.func x.f2 x.p2 x.k2] 302)):=⟨_,rfl⟩
 have B0:ak W w.heap.size 128 [.pointer (some ⟨S,0,none⟩)]:=by rw[hW];exact((ak.new w 128 _).alloc _).alloc _ |>.alloc _
 have B2:ak W (w.heap.size+1+1) 304 [.int .i64 0,.nilFunc,.nilFunc,.bool false]:=by
  rw[hW];have:=(ak.new ((w.alloc (.cells #[.pointer (some ⟨S,0,none⟩)] 128)).alloc (.cells #[.int .i64 x.u,.func x.f1 x.p1 x.k1,X,.bool true] 304)) 304 [.int .i64 0,.nilFunc,.nilFunc,.bool false]).alloc (.cells #[.func x.f2 x.p2 x.k2] 302);simpa only[nI]using this
 have B3:ak W (w.heap.size+1+1+1) 302 [.func x.f2 x.p2 x.k2]:=by
  rw[hW];have:=ak.new (((w.alloc (.cells #[.pointer (some ⟨S,0,none⟩)] 128)).alloc (.cells #[.int .i64 x.u,.func x.f1 x.p1 x.k1,X,.bool true] 304)).alloc (.cells #[.int .i64 0,.nilFunc,.nilFunc,.bool false] 304)) 302 [.func x.f2 x.p2 x.k2];simpa only[nI]using this
 have hb:Below w.heap.size w W:=by rw[hW];exact((((wz _ w).alloc (uj _) _).alloc (by simp) _).alloc (by simp;omega) _).alloc (by simp;omega) _
 have hsz:W.heap.size=w.heap.size+4:=by rw[hW];simp
 obtain⟨V,O⟩:∃V:Own,V=fun b=>if b<w.heap.size then own b else if b=w.heap.size+2 then s+52 else s+47:=⟨_,rfl⟩
 have K1:Kp [] own V w W:=⟨hb.os,hb.tape,hb.output,hb.size,fun b F _=>hb.block b F,fun b F=>by rw[O];exact if_pos F⟩
 have o0:V w.heap.size=s+47:=by rw[O];simp
 have o2:V (w.heap.size+1+1)=s+52:=by rw[O];show(if w.heap.size+1+1<w.heap.size then own _ else if w.heap.size+1+1=w.heap.size+2 then s+52 else s+47)=_;rw[if_neg (by omega),if_pos rfl]
 have o3:V (w.heap.size+1+1+1)=s+47:=by rw[O];show(if w.heap.size+1+1+1<w.heap.size then own _ else if w.heap.size+1+1+1=w.heap.size+2 then s+52 else s+47)=_;rw[if_neg (by omega),if_neg (by omega)]
 rw[h2]at B3
 have hC:fU V s W S bw bl bi ab ⟨x.u,x.f1,x.p1,x.k1,.func 248,#[],#[.pointer (some ⟨w.heap.size+1+1+1,0,none⟩),.pointer (some ⟨w.heap.size,0,none⟩)],true⟩ iw rW nx:=
  ⟨n1,248,h1,rfl,h3,enters_of func248 (by kernel_rfl) rfl,h5.kp (K1.mono (by simp)),Uh _ _ h4 ⟨o3,B3⟩ ⟨o0,B0⟩ (h6.kp (K1.mono (by simp)))⟩
 have HC:Hid (Calls prog 205 #[.pointer (some ⟨S,0,none⟩),.agg #[.int .i64 x.u,.func x.f1 x.p1 x.k1,X,.bool true]] W fun e w'=>∃I f1 p1 k1 f2 p2 k2 y',e=.returned (.agg #[.int .i64 I,.func f1 p1 k1,.func f2 p2 k2,.bool y'])/\ak w' (w.heap.size+1+1) 304 [.int .i64 0,.nilFunc,.nilFunc,.bool false]/\Hid (I=x.u/\y'=true/\∀U,jD (w.heap.size+1+1) w' U->∃own',Kp [] own own' w U/\fU own' s U S bw bl bi ab ⟨I,f1,p1,k1,f2,p2,k2,y'⟩ (fun M left=> !M.full&&iw M left) rW nx)):=by
  have:=o_ W hC;rw[h0];refine this.mono ?_;rintro e w' ⟨H,rfl,F,hu,hy,h8⟩;refine⟨H.u,H.f1,H.p1,H.k1,H.f2,H.p2,H.k2,H.y,rfl,bV F B2,hu,hy,fun U ht=>⟨Cx V s W.heap.size,?_,?_⟩⟩
  ·have Z:=K1.trans (B_ (own:=V) (s:=s) F);exact⟨ht.os.trans Z.os,ht.tape.trans Z.tape,ht.output.trans Z.output,by rw[ht.size];exact Z.size,fun b h7 hn=>(ht.block b (by omega)).trans (Z.blk b h7 hn),Z.ext⟩
  ·refine h8.kp (ht.kpt (T:=Tb s) ?_);rw[Bl _ _ _ _ (by omega),o2];exact fB.2 (by omega)
 clear hC K1 o0 o2 o3 O h1 h2 h3 h4 h5 h6 h B0 B3 hb;go_enter func201,ntmps201
 go_wp2_with (first
  |(go_at_call 205;rw[<-h0,<-hW];refine HC.out.mono ?_;rintro e y ⟨I,f1,p1,k1,f2,p2,k2,y',rfl,G,HP⟩;have y0:=G.cell 0;have y1:=G.cell 1;have y2:=G.cell 2;have y3:=G.cell 3;simp only[tT,tL]at y0 y1 y2 y3;have yf:=G.frozen)
  |go_in)
 have hT:=jd (w.heap.size+1+1) [.int .i64 I,.func f1 p1 k1,.func f2 p2 k2,.bool y'] 0 y;have hB:=jR [.int .i64 I,.func f1 p1 k1,.func f2 p2 k2,.bool y'] 0 y _ G;have e0:jE (w.heap.size+1+1) 0 [.int .i64 I,.func f1 p1 k1,.func f2 p2 k2,.bool y'] y=(((y.setCell ⟨w.heap.size+1+1,0,none⟩ (.int .i64 I)).setCell ⟨w.heap.size+1+1,1,none⟩ (.func f1 p1 k1)).setCell ⟨w.heap.size+1+1,2,none⟩ (.func f2 p2 k2)).setCell ⟨w.heap.size+1+1,3,none⟩ (.bool y'):=rfl;rw[<-e0];clear e0;generalize jE (w.heap.size+1+1) 0 [.int .i64 I,.func f1 p1 k1,.func f2 p2 k2,.bool y'] y=U at *;have a0:U.cell? ⟨w.heap.size+1+1,0,none⟩=some (.int .i64 I):=hB.cell 0;have a1:U.cell? ⟨w.heap.size+1+1,1,none⟩=some (.func f1 p1 k1):=hB.cell 1;have a2:U.cell? ⟨w.heap.size+1+1,2,none⟩=some (.func f2 p2 k2):=hB.cell 2;have a3:U.cell? ⟨w.heap.size+1+1,3,none⟩=some (.bool y'):=hB.cell 3;obtain⟨q1,q2,q3⟩:=HP.out;obtain⟨own',q4,q5⟩:=q3 U hT;exact bodyPost_ret (v:=.agg #[.int .i64 I,.func f1 p1 k1,.func f2 p2 k2,.bool y']) (by simp[results,results201,go_sem,a0,a1,a2,a3]) rfl ⟨⟨I,f1,p1,k1,f2,p2,k2,y'⟩,own',rfl,q4,q1,q2,q5⟩
section
theorem fU.to{own:Own}{s:Nat}{w:World}{S bw bl bi ab:Nat}{x:Src}{iw rW:Side->List (Nat×Nat)->Bool}{nx:Side->List (Nat×Nat)->Int->Option (Fr×Side×List (Nat×Nat))}(h:fU own s w S bw bl bi ab x iw rW nx)(u:Nat)(Z:∀M left,iw M left=M.waits left u)(hi:∀M left,M.waits left u=true->uw left=true->rW M left=true)(X:∀M left room,Wk M->M.frame left u room=nx M left room):
  fU own s w S bw bl bi ab x (fun M left=>M.waits left u) (fun M left=>M.waits left u&&uw left) (fun M left room=>M.frame left u room):=by
 obtain⟨n1,n2,h1,G,H,I,O,U⟩:=h.fn;refine⟨n1,n2,h1,G,H,I,?_,U.mono (fun M left e=>?_) (fun M left room F _=>X M left room F)⟩
 ·intro own' w' M left K V F;have:=O own' w' M left K V F;rw[Z M left]at this;exact this
 ·rw[jK]at e;exact hi M left e.1 e.2
theorem Ie{M:Side}(h:Wk M):M.kW=0:=by unfold Side.kW;rw[h.q]
theorem Eh{own:Own}{s:Nat}{w:World}{S bw bl bi ab:Nat}{x:Src}(h:fU own s w S bw bl bi ab x (fun M _=> !M.full&&M.gr.waits M.free) (fun M _=>M.gr.waits M.free) (fun M left room=>(M.gr.next 5 0 M.free room).map fun x=>(x.1,{M with gr:=x.2},left))):
  fU own s w S bw bl bi ab x (fun M left=>M.waits left 8) (fun M left=>M.waits left 8&&uw left) (fun M left room=>M.frame left 8 room):=
 h.to 8 (fun M left=>rfl) (fun M left e _=>by
  have F:(!M.full&&M.gr.waits M.free)=true:=e;rw[jK]at F
  exact F.2) (fun M left room G=>by
  show(M.gr.next 5 0 M.free (room-M.kW)).map _=_;rw[Ie G]
  simp)
theorem zn{own:Own}{s:Nat}{w:World}{S bw bl bi ab:Nat}{x:Src}(k:Nat)(I:k<8)(h:fU own s w S bw bl bi ab x (fun M _=> !M.full&&(M.inn k).eO) (fun M _=>(M.inn k).eO) (fun M left room=>((M.inn k).gr.next 6 k (M.inn k).free room).map fun x=>(x.1,M.bP k {M.inn k with gr:=x.2},left))):
  fU own s w S bw bl bi ab x (fun M left=>M.waits left (16+k)) (fun M left=>M.waits left (16+k)&&uw left) (fun M left room=>M.frame left (16+k) room):=by
 have F:16+k-16=k:=by omega
 have G:∀(M:Side) (left:List (Nat×Nat)),M.waits left (16+k)=(!M.full&&(M.inn k).eO):=fun M left=>by
  unfold Side.waits;rw[if_neg (by omega),if_neg (by omega),if_pos (by omega),F]
 refine h.to (16+k) (fun M left=>(G M left).symm) (fun M left e _=>?_) (fun M left room H=>?_)
 ·rw[G,jK]at e;exact e.2
 ·unfold Side.frame;rw[if_neg (by omega),if_neg (by omega),if_pos (by omega),F,Ie H];simp
theorem Ei{own:Own}{s:Nat}{w:World}{S bw bl bi ab:Nat}{x:Src}(k:Nat)(I:k<8)(h:fU own s w S bw bl bi ab x (fun M _=> !M.full&&(M.out k).nt.waits (M.out k).bytes.length) (fun M _=>(M.out k).nt.waits (M.out k).bytes.length) (fun M left room=>((M.out k).nt.next k (M.out k).bytes.length room).map fun x=>(x.1,M.aW k {M.out k with nt:=x.2},left))):
  fU own s w S bw bl bi ab x (fun M left=>M.waits left (24+k)) (fun M left=>M.waits left (24+k)&&uw left) (fun M left room=>M.frame left (24+k) room):=by
 have F:24+k-24=k:=by omega
 have G:∀(M:Side) (left:List (Nat×Nat)),M.waits left (24+k)=(!M.full&&(M.out k).nt.waits (M.out k).bytes.length):=fun M left=>by
  unfold Side.waits;rw[if_neg (by omega),if_neg (by omega),if_neg (by omega),if_pos (by omega),F]
 refine h.to (24+k) (fun M left=>(G M left).symm) (fun M left e _=>?_) (fun M left room H=>?_)
 ·rw[G,jK]at e;exact e.2
 ·unfold Side.frame;rw[if_neg (by omega),if_neg (by omega),if_neg (by omega),if_pos (by omega),F,Ie H];simp
theorem PW{own:Own}{s:Nat}{w:World}{S bw bl bi ab:Nat}{x:Src}(k:Nat)(h:fU own s w S bw bl bi ab x (fun M _=> !M.full&&(M.out k).waits M.au) (fun M _=>(M.out k).waits M.au) (fun M left room=>((M.out k).next k room M.au).map fun x=>(x.1,M.aW k x.2,left))):
  fU own s w S bw bl bi ab x (fun M left=>M.waits left (40+k)) (fun M left=>M.waits left (40+k)&&uw left) (fun M left room=>M.frame left (40+k) room):=by
 have F:40+k-40=k:=by omega
 have G:∀(M:Side) (left:List (Nat×Nat)),M.waits left (40+k)=(!M.full&&(M.out k).waits M.au):=fun M left=>by
  unfold Side.waits;rw[if_neg (by omega),if_neg (by omega),if_neg (by omega),if_neg (by omega),if_neg (by omega),F]
 refine h.to (40+k) (fun M left=>(G M left).symm) (fun M left e _=>?_) (fun M left room _=>?_)
 ·rw[G,jK]at e;exact e.2
 ·unfold Side.frame;rw[if_neg (by omega),if_neg (by omega),if_neg (by omega),if_neg (by omega),if_neg (by omega),F]
theorem Mi{own:Own}{s:Nat}{w:World}{S bw bl bi ab:Nat}{x:Src}(h:fU own s w S bw bl bi ab x (fun M _=> !M.full&&decide (0<M.queue.length)) (fun M _=>decide (0<M.queue.length)) (fun M left room=>if room<M.kW then none else M.queue.head?.map fun f=>(f,{M with queue:=M.queue.tail},left))):
  fU own s w S bw bl bi ab x (fun M left=>M.waits left 32) (fun M left=>M.waits left 32&&uw left) (fun M left room=>M.frame left 32 room):=
 h.to 32 (fun M left=>rfl) (fun M left e _=>by
  have F:(!M.full&&decide (0<M.queue.length))=true:=e;rw[jK]at F
  exact F.2) (fun M left room G=>rfl)
structure Mk (own:Own) (s:Nat) (w:World) (S bw bl bi ab:Nat) (D:Nat->Src) (p:Nat) (v:Value) (Q:List Nat) (M:Side) (left:List (Nat×Nat)):Prop where
 qs:Vy own s w S bw bl bi ab D p v Q
 z:lK own s w S bw bl bi ab D 0
 env:Env own s w S bw bl bi ab M left
theorem Mk.new{own F:Own}{s:Nat}{w w1:World}{S bw bl bi ab:Nat}{D:Nat->Src}{p:Nat}{v:Value}{Q:List Nat}{M:Side}{left:List (Nat×Nat)}(h:Mk own s w S bw bl bi ab D p v Q M left)(K:Kp [] own F w w1):Mk F s w1 S bw bl bi ab D p v Q M left:=
 ⟨h.qs.kp K (by simp) (by simp) (by simp),h.z.kp (K.mono (by simp)),h.env.kp K (by simp) (by simp) (by simp)⟩
theorem WY{own:Own}{s:Nat}{S bw bl bi ab:Nat}{D:Nat->Src}{p:Nat}{v:Value}{Q:List Nat}{M:Side}{left:List (Nat×Nat)}(w:World)(h:Mk own s w S bw bl bi ab D p v Q M left)(x:Src)(u:Nat)(hu:x.u=(u:Int))(hy:x.y=yields u)(hn:u∉Q)(h2:u≠0)(hl:Q.length<1000)(hx:fU own s w S bw bl bi ab x (fun M left=>M.waits left u) (fun M left=>M.waits left u&&uw left) (fun M left room=>M.frame left u room)):
  Calls prog 199 #[.pointer (some ⟨p,0,none⟩),jG x] w fun e w'=>e=.returned (.tuple #[])/\∃own' F v',Mk own' s w' S bw bl bi ab F p v' (aZ Q u) M left/\Kp [s+45,s+46] own own' w w':=by
 obtain⟨F,H⟩:∃F:Nat->Src,F=fun j=>if j=u then x else D j:=⟨_,rfl⟩
 have V:F u=x:=by rw[H];exact if_pos rfl
 have en:∀j,j≠u->F j=D j:=fun j G=>by rw[H];exact if_neg G
 have O:∀j:Nat,(F j).u=(j:Int):=fun j=>by
  by_cases G:j=u
  ·rw[G,V];exact hu
  ·rw[en j G];exact h.qs.hd j
 have Z:vD own (s+45) F w p v Q:=⟨h.qs.hq.op,h.qs.hq.pb,by rw[yu F D Q fun j G=>en j (fun e=>hn (e▸G))];exact h.qs.hq.sr⟩
 have hU:∀j∈Q,lK own s w S bw bl bi ab F j:=fun j G=>by
  have:=h.qs.hs j G;unfold lK at this ⊢;rw[en j (fun e=>hn (e▸G))];exact this
 have I:lK own s w S bw bl bi ab F 0:=by
  have:=h.z;unfold lK at this ⊢;rw[en 0 (fun e=>h2 e.symm)];exact this
 have X:lK own s w S bw bl bi ab F u:=by
  unfold lK;rw[V];exact⟨hy,hx⟩
 have:=vO own (s+45) F O w p v Q u hl Z;rw[V]at this;refine this.mono ?_;rintro e w' ⟨rfl,own',v',h0,K⟩;have U:Kp [s+45,s+46] own own' w w':=K
 have KT:Kp (Tb s) own own' w w':=U.mono fun z hz=>fB.2 (by simp at hz;omega)
 exact⟨rfl,own',F,v',⟨⟨O,h0,fun j G=>lK.kp (Lp.push (P:=lK own s w S bw bl bi ab F) I hU u X j G) KT⟩,I.kp KT,h.env.kp U (by simp;omega) (by simp) (by simp)⟩,U⟩
section
variable (aI:Own) (s:Nat) (w0:World) (S bw bl bi ab p:Nat) (M:Side) (left:List (Nat×Nat))
def Qk(w:World)(Q:List Nat):Prop:=∃own D v,Mk own s w S bw bl bi ab D p v Q M left/\Kp (Tb s) aI own w0 w
def Rk(w:World)(Q:List Nat)(x:Src)(u:Nat)(y:Bool)(iw rW:Side->List (Nat×Nat)->Bool)(nx:Side->List (Nat×Nat)->Int->Option (Fr×Side×List (Nat×Nat))):Prop:=
 ∃own D v,Mk own s w S bw bl bi ab D p v Q M left/\Kp (Tb s) aI own w0 w/\fU own s w S bw bl bi ab x iw rW nx/\x.u=(u:Int)/\x.y=y
end

section
variable {aI:Own} {s:Nat} {w0:World} {S bw bl bi ab p:Nat} {M:Side} {left:List (Nat×Nat)}
theorem Qk.mk{w:World}{Q:List Nat}(h:Qk aI s w0 S bw bl bi ab p M left w Q){n:Nat}{args:Array Value}{u:Nat}{iw rW:Side->List (Nat×Nat)->Bool}{nx:Side->List (Nat×Nat)->Int->Option (Fr×Side×List (Nat×Nat))}(H:∀own,Calls prog n args w fun e w'=>∃F,e=.returned (jG F)/\Below w.heap.size w w'/\F.u=(u:Int)/\F.y=false/\fU (Cx own s w.heap.size) s w' S bw bl bi ab F iw rW nx):
  Calls prog n args w fun e w'=>∃F,e=.returned (jG F)/\Hid (Rk aI s w0 S bw bl bi ab p M left w' Q F u false iw rW nx):=by
 obtain⟨own,D,v,hq,K⟩:=h;refine(H own).mono ?_;rintro e w' ⟨F,rfl,hb,I,U,O⟩;have G:Kp [] own (Cx own s w.heap.size) w w':=B_ hb;exact⟨F,rfl,_,D,v,hq.new G,K.trans (G.mono (by simp)),O,I,U⟩
theorem Rk.beside{w:World}{Q:List Nat}{x:Src}{u:Nat}{y:Bool}{iw rW:Side->List (Nat×Nat)->Bool}{nx:Side->List (Nat×Nat)->Int->Option (Fr×Side×List (Nat×Nat))}(h:Rk aI s w0 S bw bl bi ab p M left w Q x u y iw rW nx):
  Calls prog 201 #[.pointer (some ⟨S,0,none⟩),jG x] w fun e w'=>∃F,e=.returned (jG F)/\Hid (Rk aI s w0 S bw bl bi ab p M left w' Q F u true (fun M left=> !M.full&&iw M left) rW nx):=by
 obtain⟨own,D,v,hq,K,V,U,X⟩:=h;refine(Ic w V).mono ?_;rintro e w' ⟨F,own',rfl,O,G,I,H⟩;exact⟨F,rfl,own',D,v,hq.new O,K.trans (O.mono (by simp)),H,by rw[G,U],I⟩
theorem Rk.room{w:World}{Q:List Nat}{x:Src}{u:Nat}{y:Bool}{iw rW:Side->List (Nat×Nat)->Bool}{nx:Side->List (Nat×Nat)->Int->Option (Fr×Side×List (Nat×Nat))}(h:Rk aI s w0 S bw bl bi ab p M left w Q x u y iw rW nx):
  Calls prog 205 #[.pointer (some ⟨S,0,none⟩),jG x] w fun e w'=>∃F,e=.returned (jG F)/\Hid (Rk aI s w0 S bw bl bi ab p M left w' Q F u y (fun M left=> !M.full&&iw M left) rW nx):=by
 obtain⟨own,D,v,hq,K,V,U,X⟩:=h;refine(o_ w V).mono ?_;rintro e w' ⟨F,rfl,hb,G,I,H⟩;have O:Kp [] own (Cx own s w.heap.size) w w':=B_ hb;exact⟨F,rfl,_,D,v,hq.new O,K.trans (O.mono (by simp)),H,by rw[G,U],by rw[I,X]⟩
theorem Rk.add{w:World}{Q:List Nat}{x:Src}{u:Nat}{y:Bool}{iw rW:Side->List (Nat×Nat)->Bool}{nx:Side->List (Nat×Nat)->Int->Option (Fr×Side×List (Nat×Nat))}(h:Rk aI s w0 S bw bl bi ab p M left w Q x u y iw rW nx)(Z:y=yields u)(U:u∉Q)(G:u≠0)(hl:Q.length<1000)(ht:∀own,fU own s w S bw bl bi ab x iw rW nx->fU own s w S bw bl bi ab x (fun M left=>M.waits left u) (fun M left=>M.waits left u&&uw left) (fun M left room=>M.frame left u room)):
  Calls prog 199 #[.pointer (some ⟨p,0,none⟩),jG x] w fun e w'=>e=.returned (.tuple #[])/\Hid (Qk aI s w0 S bw bl bi ab p M left w' (aZ Q u)):=by
 obtain⟨own,D,v,hq,K,X,V,H⟩:=h;refine(WY w hq x u V (by rw[H,Z]) U G hl (ht own X)).mono ?_;rintro e w' ⟨rfl,own',I,v',F,O⟩;exact⟨rfl,own',I,v',F,K.trans (O.mono fun z hz=>fB.2 (by simp at hz;omega))⟩
end


def qk(k:Nat):List Nat:=(List.range k).foldl (fun q k=>aZ (aZ (aZ q (16+k)) (24+k)) (40+k)) (aZ (aZ [] 0) 8)
theorem Ch(k:Nat):qk (k+1)=aZ (aZ (aZ (qk k) (16+k)) (24+k)) (40+k):=by unfold qk;rw[List.range_succ,List.foldl_append];rfl
def Pq(k x:Nat):Prop:=x=0\/x=8\/(16<=x/\x<16+k)\/(24<=x/\x<24+k)\/(40<=x/\x<40+k)
theorem Ej:∀k,Lp (Pq k) (qk k)
 |0=>by
  have z:Pq 0 0:=.inl rfl;exact Lp.push (P:=Pq 0) z (Lp.push (P:=Pq 0) z (l:=[]) (fun x F=>by cases F) 0 z) 8 (.inr (.inl rfl))
 |k+1=>by
  rw[Ch]
  have h:Lp (Pq (k+1)) (qk k):=fun x F=>by have:=Ej k x F;unfold Pq at *;omega
  have z:Pq (k+1) 0:=.inl rfl;exact Lp.push z (Lp.push z (Lp.push z h _ (by unfold Pq;omega)) _ (by unfold Pq;omega)) _ (by unfold Pq;omega)
theorem yA:∀k,(qk k).length=2+3*k
 |0=>rfl
 |k+1=>by rw[Ch,iW,iW,iW,yA k];omega
theorem Jw{P:Nat->Prop}(H:P 0){l:List Nat}(h:Lp P l)(u v:Nat)(I:¬P v)(F:u≠v):v∉aZ l u:=fun G=>by
 have:=Lp.push (P:=fun x=>P x\/x=u) (.inl H) (fun x G=>.inl (h x G)) u (.inr rfl) v G
 rcases this with h1|h1
 ·exact I h1
 ·exact F h1.symm
end
def JB(own:Own)(s:Nat)(W:World)(S bw bl bi:Nat)(M:Side)(left:List (Nat×Nat))(e:Ending)(w':World):Prop:=
 ∃x ab,e=.returned (jG x)/\Hid (∃own',Kp [s] own own' W w'/\Env own' s w' S bw bl bi ab M left/\fU own' s w' S bw bl bi ab x (fun M left=>M.waits left 0) (fun M left=>M.waits left 0&&uw left) (fun M left room=>M.frame left 0 room)/\x.u=0/\x.y=false)
def W_(u:Nat):Src:=⟨(u:Int),.func 0,#[],#[],.func 0,#[],#[],false⟩
theorem Ii(own:Own)(s:Nat)(S:Nat)(l:List Value)(M M':Side)(bw bl bi:Nat)(vc:Value)(left:List (Nat×Nat))(w:World)(h:bM own s w S l M bw bl bi vc)(O:∀own W,bM own s W S l M bw bl bi vc->Calls prog 200 #[.pointer (some ⟨S,0,none⟩)] W fun e w'=>JB own s W S bw bl bi M' left e w'):
  Calls prog 155 #[.pointer (some ⟨S,0,none⟩)] w fun e w'=>∃p,e=.returned (.pointer (some ⟨p,0,none⟩))/\∃ab own' D v,Mk own' s w' S bw bl bi ab D p v q0 M' left/\Kp (Tb s) own own' w w':=by
 obtain⟨F,X⟩:∃F,F=(w.alloc (.cells #[] 304)).alloc (.cells #[.slice (some ⟨w.heap.size,0,none⟩) 0 0] 300):=⟨_,rfl⟩
 have I:Below w.heap.size w F:=by rw[X];exact((wz _ w).alloc (uj _) _).alloc (by simp) _
 have B0:ak F w.heap.size 304 []:=by rw[X];exact(ak.new w 304 []).alloc _
 have B1:ak F (w.heap.size+1) 300 [.slice (some ⟨w.heap.size,0,none⟩) 0 0]:=by
  rw[X];have:=ak.new (w.alloc (.cells #[] 304)) 300 [.slice (some ⟨w.heap.size,0,none⟩) 0 0];rwa[nI]at this
 obtain⟨H,Z⟩:∃H:Own,H=fun b=>if b<w.heap.size then own b else if b=w.heap.size then s+45 else s+46:=⟨_,rfl⟩
 have o0:H w.heap.size=s+45:=by rw[Z];show(if w.heap.size<w.heap.size then _ else if w.heap.size=w.heap.size then s+45 else s+46)=_;rw[if_neg (by omega),if_pos rfl]
 have o1:H (w.heap.size+1)=s+46:=by rw[Z];show(if w.heap.size+1<w.heap.size then _ else if w.heap.size+1=w.heap.size then s+45 else s+46)=_;rw[if_neg (by omega),if_neg (by omega)]
 have K1:Kp [] own H w F:=⟨I.os,I.tape,I.output,I.size,fun b hb _=>I.block b hb,fun b hb=>by rw[Z];exact if_pos hb⟩;have h4:vD H (s+45) W_ F (w.heap.size+1) (.slice (some ⟨w.heap.size,0,none⟩) 0 0) []:=⟨o1,B1,.inr ⟨w.heap.size,0,[],rfl,o0,B0,by simp,uj _,by omega,rfl,rfl,fun v hv=>by cases hv⟩⟩
 have HA:Hid (Calls prog 200 #[.pointer (some ⟨S,0,none⟩)] F fun e w'=>∃x ab,e=.returned (jG x)/\Hid (∃own',Kp [s] H own' F w'/\Env own' s w' S bw bl bi ab M' left/\Vy own' s w' S bw bl bi ab W_ (w.heap.size+1) (.slice (some ⟨w.heap.size,0,none⟩) 0 0) []/\fU own' s w' S bw bl bi ab x (fun M left=>M.waits left 0) (fun M left=>M.waits left 0&&uw left) (fun M left room=>M.frame left 0 room)/\x.u=0/\x.y=false)):=by
  refine(O H F (h.kp K1 (by simp))).mono ?_;rintro e w' ⟨x,ab,rfl,own',Ka,hE,G,hu,hy⟩;refine⟨x,ab,rfl,own',Ka,hE,⟨fun u=>rfl,⟨by rw[Ka.ext _ B1.lt,o1],aK B1 Ka (by rw[o1];simp),h4.sr.kp Ka (by simp)⟩,fun u hu=>by cases hu⟩,G,hu,hy⟩
 have h7:Hid (∀(w1:World) (x:Src) (ab:Nat),(∃own',Kp [s] H own' F w1/\Env own' s w1 S bw bl bi ab M' left/\Vy own' s w1 S bw bl bi ab W_ (w.heap.size+1) (.slice (some ⟨w.heap.size,0,none⟩) 0 0) []/\fU own' s w1 S bw bl bi ab x (fun M left=>M.waits left 0) (fun M left=>M.waits left 0&&uw left) (fun M left room=>M.frame left 0 room)/\x.u=0/\x.y=false)->
   Calls prog 199 #[.pointer (some ⟨w.heap.size+1,0,none⟩),jG x] w1 fun e w'=>e=.returned (.tuple #[])/\Hid (Qk H s F S bw bl bi ab (w.heap.size+1) M' left w' (aZ [] 0))):=by
  rintro w1 x ab ⟨own',Ka,hE,hq,G,hu,hy⟩;refine(WV w1 hq x 0 hu hy (by simp) (by simp) G (.inl rfl)).mono ?_;rintro e w' ⟨rfl,aL,D2,v2,h5,K2⟩;exact⟨rfl,aL,D2,v2,⟨h5,h5.hs 0 (by decide),hE.kp K2 (by simp;omega) (by simp) (by simp)⟩,(Ka.mono fun z hz=>fB.2 (by simp at hz;omega)).trans (K2.mono fun z hz=>fB.2 (by simp at hz;omega))⟩
 have m_:Hid (∀w' ab,Qk H s F S bw bl bi ab (w.heap.size+1) M' left w' q0->∃ab own' D v,Mk own' s w' S bw bl bi ab D (w.heap.size+1) v q0 M' left/\Kp (Tb s) own own' w w'):=by
  rintro w' ab ⟨own',D,v,hq,K⟩;exact⟨ab,own',D,v,hq,(K1.mono (by simp)).trans K⟩
 clear O h h4 K1 o0 o1 Z B0 B1 I;go_enter func155,ntmps155
 go_wp2_with (first
  |(go_at_call 200;rw[<-X];refine HA.out.mono ?_;rintro e w1 ⟨x,ab,rfl,HX⟩;have ML:=hid (h7.out w1 x ab HX.out))
  |(go_at_call 199;refine ML.out.mono ?_;rintro e w2 ⟨rfl,HQ⟩)
  |(go_at_call 202;refine(HQ.out.mk (u:=8) (fun own=>Hy (own:=own) w2)).mono ?_;rintro e w3 ⟨x3,rfl,h2⟩)
  |(go_at_call 201;refine(Rk.beside h2.out).mono ?_;rintro e w4 ⟨x4,rfl,h3⟩)
  |(go_at_call 199;refine(Rk.add h3.out rfl (by decide) (by decide) (by decide) (fun own G=>Eh G)).mono ?_;rintro e w5 ⟨rfl,h0⟩)
  |go_in)
 go_loopw [17] (fun FQ wr=>∃k:Nat,k<=8/\FQ=.int .i64 k/\Hid (Qk H s F S bw bl bi ab (w.heap.size+1) M' left wr (qk k))) (fun FQ _=>8-(intOf FQ).toNat)
 case atStart=>exact⟨0,by omega,rfl,h0.out⟩
 case round=>
  obtain⟨k,hk,rfl,HI⟩:=hrel
  by_cases U:k<8
  ·have h8:(k:Int)<8:=by omega
   have n1:16+k∉qk k:=fun e=>by have:=Ej k _ e;unfold Pq at this;omega
   have n2:24+k∉aZ (qk k) (16+k):=Jw (P:=Pq k) (.inl rfl) (Ej k) _ _ (by unfold Pq;omega) (by omega);have n3:40+k∉aZ (aZ (qk k) (16+k)) (24+k):=Jw (P:=fun x=>Pq k x\/x=16+k) (.inl (.inl rfl)) (Lp.push (.inl (.inl rfl)) (fun x G=>.inl (Ej k x G)) _ (.inr rfl)) _ _ (by unfold Pq;omega) (by omega)
   have l1:(qk k).length<1000:=by rw[yA];omega
   have l2:(aZ (qk k) (16+k)).length<1000:=by rw[iW,yA];omega
   have l3:(aZ (aZ (qk k) (16+k)) (24+k)).length<1000:=by rw[iW,iW,yA];omega
   have V:=hid (And.intro n1 (And.intro n2 (And.intro n3 (And.intro l1 (And.intro l2 l3)))))
   have y1:Hid (true=yields (16+k)/\true=yields (24+k)/\false=yields (40+k)):=by
    unfold yields;refine⟨?_,?_,?_⟩
    ·rw[decide_eq_true (by omega),decide_eq_true (by omega)];rfl
    ·rw[decide_eq_true (by omega),decide_eq_true (by omega)];rfl
    ·rw[decide_eq_true (by omega),decide_eq_false (by omega)];rfl
   clear n1 n2 n3 l1 l2 l3 h0 h3 h2 HQ HX ML
   go_wp2_with (first
    |(go_at_call 203;refine(HI.out.mk (u:=16+k) (fun own=>Ca (own:=own) k U wr)).mono ?_;rintro e v1 ⟨z1,rfl,H1⟩)
    |(go_at_call 201;refine(Rk.beside H1.out).mono ?_;rintro e v2 ⟨z2,rfl,H2⟩;clear H1)
    |(go_at_call 199;refine(Rk.add H2.out y1.out.1 V.out.1 (by omega) V.out.2.2.2.1 (fun own G=>zn k U G)).mono ?_;rintro e v3 ⟨rfl,H3⟩;clear H2)
    |(go_at_call 204;refine(H3.out.mk (u:=24+k) (fun own=>Hz (own:=own) k U v3)).mono ?_;rintro e v4 ⟨z4,rfl,H4⟩)
    |(go_at_call 201;refine(Rk.beside H4.out).mono ?_;rintro e v5 ⟨z5,rfl,H5⟩;clear H4)
    |(go_at_call 199;refine(Rk.add H5.out y1.out.2.1 V.out.2.1 (by omega) V.out.2.2.2.2.1 (fun own G=>Ei k U G)).mono ?_;rintro e v6 ⟨rfl,H6⟩;clear H5)
    |(go_at_call 206;refine(H6.out.mk (u:=40+k) (fun own=>mk_data (own:=own) k U v6)).mono ?_;rintro e v7 ⟨z7,rfl,H7⟩)
    |(go_at_call 205;refine(Rk.room H7.out).mono ?_;rintro e v8 ⟨z8,rfl,H8⟩;clear H7)
    |(go_at_call 199;refine(Rk.add H8.out y1.out.2.2 V.out.2.2.1 (by omega) V.out.2.2.2.2.2 (fun own G=>PW k G)).mono ?_;rintro e v9 ⟨rfl,H9⟩;clear H8)
    |go_in)
   go_roundw
   case rel=>exact⟨k+1,by omega,by simp,(by rw[Ch];exact H9.out:Qk H s F S bw bl bi ab (w.heap.size+1) M' left _ (qk (k+1)))⟩
   case measure=>simp[intOf];omega
  ·obtain rfl:k=8:=by omega
   have n32:32∉qk 8:=fun e=>by have:=Ej 8 _ e;unfold Pq at this;omega
   have h6:(qk 8).length<1000:=by rw[yA];omega
   have V:=hid (And.intro n32 h6);clear n32 h6 h0 h3 h2 HQ HX ML
   go_wp2_with (first
    |(go_at_call 207;refine(HI.out.mk (u:=32) (fun own=>Cb (own:=own) wr)).mono ?_;rintro e v1 ⟨z1,rfl,H1⟩)
    |(go_at_call 205;refine(Rk.room H1.out).mono ?_;rintro e v2 ⟨z2,rfl,H2⟩;clear H1)
    |(go_at_call 199;refine(Rk.add H2.out rfl V.out.1 (by decide) V.out.2 (fun own G=>Mi G)).mono ?_;rintro e v3 ⟨rfl,H3⟩;clear H2)
    |go_in)
   go_ret;exact⟨w.heap.size+1,rfl,m_.out _ ab H3.out⟩
theorem Qd(a:Addr)(w:World):
  Calls prog 173 #[.pointer (some a)] w fun e w'=>e=.returned (.func (.func 226) #[] #[.pointer (some ⟨w.heap.size,0,none⟩)])/\w'=w.alloc (.cells #[.pointer (some a)] 273):=by
 have F:∀(fn:Fn) (first cap:Array Value) (w:World),(Instr.makeFunc fn first cap).run prog w=.ok (.func fn first cap) w:=fun _ _ _ _=>rfl
 go_enter func173,ntmps173;go_wp2;go_ret;exact⟨rfl,rfl⟩
theorem Ey(sb sp:Nat)(rs:List (Nat×Nat))(base:Option Addr)(c:Nat)(w:World)(G:w.cell? ⟨sp,227,none⟩=some (.slice base rs.length c))(O:bn 170 2 w (.slice base rs.length c) rs.length (St.aC rs))(F:ak w sb 273 [.pointer (some ⟨sp,225,none⟩)])(I:rs.length<=1000000):
  Calls prog 245 #[.func (.func 226) #[] #[.pointer (some ⟨sb,0,none⟩)]] w fun e w'=>∃v',e=.returned v'/\bn 170 2 w' v' rs.reverse.length (St.aC rs.reverse)/\YtphbledmopchnaaGreatDoor.Own w.heap.size v'/\Below w.heap.size w w':=by
 have U:=hid (St.zi sb sp rs base c w G O F I);clear G O F;go_enter func245,ntmps245
 go_wp2_with (go_at_call 308;refine U.out.mono ?_;rintro e w' ⟨v',rfl,H⟩;have H:=hid H)
 go_ret;exact⟨_,rfl,H.out⟩
theorem bM.Yu{own own':Own}{s:Nat}{w w':World}{S:Nat}{l l':List Value}{M M':Side}{bw bl bi:Nat}{vc:Value}(h:bM own s w S l M bw bl bi vc)(K:Kp [s] own own' w w')(o n:Nat)(ho:o+n<=4\/220<=o)(q:cu w w' S l l' o n)(hc:Vg l' M' bw bl bi vc)(H:M'.outs=M.outs)(I:M'.ins=M.ins)(O:M'.came=M.came)(U:M'.ay=M.ay)(V:M'.lost=M.lost):bM own' s w' S l' M' bw bl bi vc:=by
 have F:∀x,x∈[s]->x=s:=fun x hx=>by simpa using hx
 have Z:∀j,M'.out j=M.out j:=fun j=>by unfold Side.out;rw[H]
 have X:∀j,M'.inn j=M.inn j:=fun j=>by unfold Side.inn;rw[I]
 refine⟨by rw[K.ext S h.blk.lt,h.ow],h.s0,q.blk,hc,fun j G=>?_,fun j G=>?_,?_,?_,?_,by rw[H];exact h.lo,by rw[I];exact h.li⟩
 ·rw[Z];exact(h.out j G).kp K (fun e=>by have:=F _ e;omega) (fun e=>by have:=F _ e;omega) (fun e=>by have:=F _ e;omega) q.win (by omega)
 ·rw[X];exact(h.inn j G).kp K (fun e=>by have:=F _ e;omega) (fun e=>by have:=F _ e;omega) q.win (by omega)
 ·rw[O];exact h.row.kp K (fun e=>by have:=F _ e;omega)
 ·rw[U];exact h.way.kp K (fun e=>by have:=F _ e;omega) (fun e=>by have:=F _ e;omega)
 ·rw[V];exact h.lost.kp K (fun e=>by have:=F _ e;omega) (fun e=>by have:=F _ e;omega)
theorem Qe{w:World}{g:Nat}{cs:List Value}{rs:List (Nat×Nat)}(hB:ak w g 170 cs)(ht:cs.take (rs.length*2)=St.aC rs)(hb:∀r∈rs,r.1<18446744073709551616/\r.2<18446744073709551616):fq w (some ⟨g,0,none⟩) rs:=fun j F=>by
 have c0:=St.oo rs j F;have c1:=St.oq rs j F;rw[<-ht,List.getElem?_take,if_pos (by omega)]at c0 c1
 have G:rs.getD j (0,0)∈rs:=by rw[List.getD_eq_getElem?_getD,List.getElem?_eq_getElem F];exact List.getElem_mem _
 exact⟨g,0,rfl,by rw[hB.cell,CK];exact c0,by rw[hB.cell,CK];exact c1,hb _ G⟩
theorem Ez{own:Own}{s:Nat}{S:Nat}{l:List Value}{M:Side}{bw bl bi:Nat}{vc:Value}{w w':World}(h:bM own s w S l M bw bl bi vc)(q:cu w w' S l (l.set 228 (.bool false)) 228 1)(v:Value)(I:ak w' (w.heap.size+1) 342 [v])(left:List (Nat×Nat))(hb:∀r∈left,r.1<18446744073709551616/\r.2<18446744073709551616)(hr:bn 170 2 w' v left.length (St.aC left))(X:YtphbledmopchnaaGreatDoor.Own w.heap.size v):
  JB own s w S bw bl bi {M with answer:=false} left (.returned (jG ⟨0,.func 246,#[.pointer (some ⟨w.heap.size+1,0,none⟩)],#[],.func 247,#[.pointer (some ⟨w.heap.size+1,0,none⟩)],#[],false⟩)) w':=by
 obtain⟨own',H⟩:∃own':Own,own'=fun b=>if b<w.heap.size then own b else if b=w.heap.size+1 then s+48 else s+49:=⟨_,rfl⟩
 have o1:own' (w.heap.size+1)=s+48:=by rw[H];show(if w.heap.size+1<w.heap.size then _ else if w.heap.size+1=w.heap.size+1 then s+48 else s+49)=_;rw[if_neg (by omega),if_pos rfl]
 have o2:∀b,w.heap.size<=b->b≠w.heap.size+1->own' b=s+49:=fun b h1 F=>by rw[H];show(if b<w.heap.size then _ else if b=w.heap.size+1 then s+48 else s+49)=_;rw[if_neg (by omega),if_neg F]
 have K:Kp [s] own own' w w':=⟨q.os,q.tape,q.output,q.size,fun b hb hn=>q.al b hb (fun e=>hn (by rw[e,h.ow];simp)),fun b hb=>by rw[H];exact if_pos hb⟩;have c:=h.cells
 have e:∀j,j≠228->(l.set 228 (.bool false))[j]?=l[j]?:=fun j hj=>List.getElem?_set_ne (fun e=>hj e.symm)
 have Z:Vg (l.set 228 (.bool false)) {M with answer:=false} bw bl bi vc:=⟨by rw[List.length_set];exact c.len,by rw[e _ (by omega)];exact c.c0,by rw[e _ (by omega)];exact c.c1,by rw[e _ (by omega)];exact c.c2,by rw[e _ (by omega)];exact c.c3,by rw[e _ (by omega)];exact c.mh,c.gr.win q.win (by omega),
  by rw[e _ (by omega)];exact c.nP,by rw[e _ (by omega)];exact c.c226,by rw[e _ (by omega)];exact c.c227,by rw[List.getElem?_set_self (by rw[c.len];omega)],by rw[e _ (by omega)];exact c.c229,by rw[e _ (by omega)];exact c.j6,by rw[e _ (by omega)];exact c.mY,by rw[e _ (by omega)];exact c.c232,
  by rw[e _ (by omega)];exact c.c233,by rw[e _ (by omega)];exact c.c234,by rw[e _ (by omega)];exact c.mZ,by rw[e _ (by omega)];exact c.c236,by rw[e _ (by omega)];exact c.oO,by rw[e _ (by omega)];exact c.j_,by rw[e _ (by omega)];exact c.oP⟩
 refine⟨_,w.heap.size+1,rfl,own',K,⟨_,vc,h.Yu K 228 1 (by omega) q Z rfl rfl rfl rfl rfl,o1,v,I,?_⟩,?_,rfl,rfl⟩
 ·rcases hr with⟨h1,F,_⟩|⟨g,cap,cs,h1,F,h3,h4,h5,h6,h7,h8⟩
  ·exact .inl ⟨h1,List.length_eq_zero_iff.1 F⟩
  ·have hg:w.heap.size<=g:=X g (by rw[h1];rfl)
   have G:g≠w.heap.size+1:=fun e=>by
    have:=I;rw[<-e]at this;have V:=F.symm.trans this;simp at V
   exact .inr ⟨g,0,cap,h1,h4,h5,F.lt,o2 g hg G,Qe F h7 hb⟩
 ·have hx:fU own' s w' S bw bl bi (w.heap.size+1) ⟨0,.func 246,#[.pointer (some ⟨w.heap.size+1,0,none⟩)],#[],.func 247,#[.pointer (some ⟨w.heap.size+1,0,none⟩)],#[],false⟩ (fun _ left=>decide (0<left.length)) (fun _ left=>decide (0<left.length)&&uw left) (fun M left room=>if bN left room left.length=0 then none else some (cZ (left.take (bN left room left.length)),M,left.drop (bN left room left.length))):=
   ⟨246,247,rfl,rfl,enters_of func246 (by kernel_rfl) rfl,enters_of func247 (by kernel_rfl) rfl,Mg,Mh⟩
  exact hx.to 0 (fun M left=>rfl) (fun M left O U=>by rw[jK];exact⟨O,U⟩) (fun M left room _=>rfl)
theorem Un(own:Own)(s:Nat)(S:Nat)(l:List Value)(M:Side)(bw bl bi:Nat)(vc:Value)(w:World)(h:bM own s w S l M bw bl bi vc)(hn:M.came.rs.length<=1000000)(hc:∀r∈M.came.rs,r.1<18446744073709551616/\r.2<18446744073709551616):
  Calls prog 200 #[.pointer (some ⟨S,0,none⟩)] w fun e w'=>JB own s w S bw bl bi {M with answer:=false} (if M.answer then M.came.rs.reverse else[]) e w':=by
 have c228:w.cell? ⟨S,228,none⟩=some (.bool M.answer):=by rw[h.blk.cell];exact h.cells.c228
 have h7:S<w.heap.size:=h.blk.lt
 have hg:∀(fn:Fn) (first cap:Array Value) (w:World),(Instr.makeFunc fn first cap).run prog w=.ok (.func fn first cap) w:=fun _ _ _ _=>rfl
 cases ha:M.answer
 ·rw[ha]at c228;have f228:=h.blk.frozen 228;have H:=hid h;clear h;go_enter func200,ntmps200;go_wp2;obtain⟨I,Z⟩:∃I:Value,I=.func (.func 246) #[.pointer (some ⟨w.heap.size+1,0,none⟩)] #[]:=⟨_,rfl⟩;obtain⟨O,h0⟩:∃O:Value,O=.func (.func 247) #[.pointer (some ⟨w.heap.size+1,0,none⟩)] #[]:=⟨_,rfl⟩;rw[<-Z,<-h0];have q0:cu w (w.setCell ⟨S,228,none⟩ (.bool false)) S l (l.set 228 (.bool false)) 228 1:=cu.one H.out.blk 228 _ 228 1 (by omega) (by omega)
  have hf:(w.setCell ⟨S,228,none⟩ (.bool false)).heap.size=w.heap.size:=by simp
  generalize w.setCell ⟨S,228,none⟩ (.bool false)=w1 at *;have B0:=(ak.new w1 304 [.int .i64 0,I,O,.bool false]).alloc (.cells #[.slice none 0 0] 342);have B1:=ak.new (w1.alloc (.cells #[.int .i64 0,I,O,.bool false] 304)) 342 [.slice none 0 0];have hb:Below w1.heap.size w1 ((w1.alloc (.cells #[.int .i64 0,I,O,.bool false] 304)).alloc (.cells #[.slice none 0 0] 342)):=((wz _ w1).alloc (uj _) _).alloc (by simp) _;simp only[nI]at B1;rw[hf]at B0 B1;generalize ((w1.alloc (.cells #[.int .i64 0,I,O,.bool false] 304)).alloc (.cells #[.slice none 0 0] 342))=W at *;have a0:=B0.cell 0;have a1:=B0.cell 1;have a2:=B0.cell 2;have a3:=B0.cell 3;simp only[tT,tL]at a0 a1 a2 a3;refine bodyPost_ret (v:=.agg #[.int .i64 0,I,O,.bool false]) (by simp[results,results200,go_sem,a0,a1,a2,a3]) rfl ?_;have:=Ez H.out (q0.eP hb) _ B1 [] (fun r hr=>by cases hr) (bn.nil _ _ _) (fun k G=>by simp[Value.ownBlock]at G);unfold jG at this;rw[Z,h0];exact this
 ·rw[ha]at c228;obtain⟨base,c,h9,r1,r2,r3,r4⟩:=h.row
  have c227:w.cell? ⟨S,227,none⟩=some (.slice base M.came.rs.length c):=by rw[h.blk.cell,<-h9];exact h.cells.c227
  have hG:bn 170 2 w (.slice base M.came.rs.length c) M.came.rs.length (St.aC M.came.rs):=r3.RZ r1 r2;have hS:=h.blk;obtain⟨W2,U⟩:∃W2,W2=((w.alloc (.cells #[.int .i64 0,.nilFunc,.nilFunc,.bool false] 304)).alloc (.cells #[.slice none 0 0] 342)).alloc (.cells #[.pointer (some ⟨S,225,none⟩)] 273):=⟨_,rfl⟩
  have V:Below w.heap.size w W2:=by rw[U];exact(((wz _ w).alloc (uj _) _).alloc (by simp) _).alloc (by simp;omega) _
  have h8:W2.heap.size=w.heap.size+3:=by rw[U];simp
  have X:ak W2 w.heap.size 304 [.int .i64 0,.nilFunc,.nilFunc,.bool false]:=by rw[U];exact((ak.new w 304 _).alloc _).alloc _
  have x1:ak W2 (w.heap.size+1) 342 [.slice none 0 0]:=by
   rw[U];have:=ak.new (w.alloc (.cells #[.int .i64 0,.nilFunc,.nilFunc,.bool false] 304)) 342 [.slice none 0 0];simp only[nI]at this;exact this.alloc _
  have x2:ak W2 (w.heap.size+1+1) 273 [.pointer (some ⟨S,225,none⟩)]:=by
   rw[U];have:=ak.new ((w.alloc (.cells #[.int .i64 0,.nilFunc,.nilFunc,.bool false] 304)).alloc (.cells #[.slice none 0 0] 342)) 273 [.pointer (some ⟨S,225,none⟩)];simpa only[nI]using this
  have HC:Hid (Calls prog 245 #[.func (.func 226) #[] #[.pointer (some ⟨w.heap.size+1+1,0,none⟩)]] W2 fun e F=>∃a5 n5 c5,e=.returned (.slice a5 n5 c5)/\F.cell? ⟨S,228,none⟩=some (.bool true)/\ak F S TS l/\ak F w.heap.size 304 [.int .i64 0,.nilFunc,.nilFunc,.bool false]/\ak F (w.heap.size+1) 342 [.slice none 0 0]/\Hid (Below w.heap.size w F/\bn 170 2 F (.slice a5 n5 c5) M.came.rs.reverse.length (St.aC M.came.rs.reverse)/\YtphbledmopchnaaGreatDoor.Own (w.heap.size+3) (.slice a5 n5 c5))):=by
   refine(Ey (w.heap.size+1+1) S M.came.rs base c W2 (cell_of c227 (V.block S h7)) (hG.of_heap (fun b hb=>V.block b (hG.lt b hb))) x2 hn).mono ?_;rintro e F ⟨v5,rfl,g1,g2,g3⟩;obtain⟨a5,c5,rfl,_⟩:=g1.shape;exact⟨a5,_,c5,rfl,cell_of c228 ((V.trans (g3.mono (by omega))).block S h7),bV (V.trans (g3.mono (by omega))) hS,bV g3 X,bV g3 x1,V.trans (g3.mono (by omega)),g1,by rw[h8]at g2;exact g2⟩
  have H:=hid h
  have n0:S≠w.heap.size:=by omega
  have n1:S≠w.heap.size+1:=by omega
  clear h hS V h8 X x1 x2 r1 r2 r3 r4 hG c227 h9;go_enter func200,ntmps200
  go_wp2_with (first
   |(go_at_call 173;refine(Qd _ _).mono ?_;rintro e w' ⟨rfl,rfl⟩)
   |(go_at_call 245;rw[<-U];refine HC.out.mono ?_;rintro e F ⟨a5,n5,c5,rfl,s5,xS,X,x1,HX⟩;have y0:F.cell? ⟨w.heap.size,0,none⟩=some (.int .i64 0):=X.cell 0;have y1:F.cell? ⟨w.heap.size,1,none⟩=some .nilFunc:=X.cell 1;have y2:F.cell? ⟨w.heap.size,2,none⟩=some .nilFunc:=X.cell 2;have y3:F.cell? ⟨w.heap.size,3,none⟩=some (.bool false):=X.cell 3;have dW:=X.frozen 0;have jg:=X.frozen 1;have jC:=X.frozen 2;have sD:=X.frozen 3;have z0:F.cell? ⟨w.heap.size+1,0,none⟩=some (.slice none 0 0):=x1.cell 0;have fz:=x1.frozen 0;have hj:=xS.frozen 228)
   |go_in)
  obtain⟨I,Z⟩:∃I:Value,I=.func (.func 246) #[.pointer (some ⟨w.heap.size+1,0,none⟩)] #[]:=⟨_,rfl⟩;obtain⟨O,h0⟩:∃O:Value,O=.func (.func 247) #[.pointer (some ⟨w.heap.size+1,0,none⟩)] #[]:=⟨_,rfl⟩;rw[<-Z,<-h0];obtain⟨h2,Cv,Ra⟩:=HX.out;obtain⟨u1,h3⟩:∃u1,u1=F.setCell ⟨w.heap.size+1,0,none⟩ (.slice a5 n5 c5):=⟨_,rfl⟩;obtain⟨u2,h4⟩:∃u2,u2=u1.setCell ⟨S,228,none⟩ (.bool false):=⟨_,rfl⟩;obtain⟨u6,h5⟩:∃u6,u6=(((u2.setCell ⟨w.heap.size,0,none⟩ (.int .i64 0)).setCell ⟨w.heap.size,1,none⟩ I).setCell ⟨w.heap.size,2,none⟩ O).setCell ⟨w.heap.size,3,none⟩ (.bool false):=⟨_,rfl⟩;rw[<-h3,<-h4,<-h5]
  have o1:∀k,k≠w.heap.size+1->u1.heap[k]?=F.heap[k]?:=fun k G=>by rw[h3];exact mR _ _ _ _ G
  have o2:∀k,k≠S->u2.heap[k]?=u1.heap[k]?:=fun k G=>by rw[h4];exact mR _ _ _ _ G
  have o6:∀k,k≠w.heap.size->u6.heap[k]?=u2.heap[k]?:=fun k G=>by rw[h5,mR _ _ _ _ G,mR _ _ _ _ G,mR _ _ _ _ G,mR _ _ _ _ G]
  have s1:u1.heap.size=F.heap.size/\u1.os=F.os/\u1.tape=F.tape/\u1.output=F.output:=by rw[h3];exact⟨by simp,rfl,rfl,rfl⟩
  have s2:u2.heap.size=u1.heap.size/\u2.os=u1.os/\u2.tape=u1.tape/\u2.output=u1.output:=by rw[h4];exact⟨by simp,rfl,rfl,rfl⟩
  have s6:u6.heap.size=u2.heap.size/\u6.os=u2.os/\u6.tape=u2.tape/\u6.output=u2.output:=by rw[h5];exact⟨by simp,rfl,rfl,rfl⟩
  have B6:ak u6 w.heap.size 304 [.int .i64 0,I,O,.bool false]:=by
   have b1:ak u2 w.heap.size 304 [.int .i64 0,.nilFunc,.nilFunc,.bool false]:=(X.of_heap (o1 _ (by omega))).of_heap (o2 _ (by omega));rw[h5];exact(((b1.setCell 0 _).setCell 1 _).setCell 2 _).setCell 3 _
  have BA:ak u6 (w.heap.size+1) 342 [.slice a5 n5 c5]:=by
   have b1:ak u1 (w.heap.size+1) 342 [.slice a5 n5 c5]:=by rw[h3];exact x1.setCell 0 _
   exact(b1.of_heap (o2 _ (by omega))).of_heap (o6 _ (by omega))
  have BS:ak u6 S TS (l.set 228 (.bool false)):=by
   have b1:ak u2 S TS (l.set 228 (.bool false)):=by rw[h4];exact(xS.of_heap (o1 _ n1)).setCell 228 _
   exact b1.of_heap (o6 _ n0)
  have q:cu w u6 S l (l.set 228 (.bool false)) 228 1:=by
   have q0:cu w (w.setCell ⟨S,228,none⟩ (.bool false)) S l (l.set 228 (.bool false)) 228 1:=cu.one H.out.blk 228 _ 228 1 (by omega) (by omega);exact⟨by rw[s6.2.1,s2.2.1,s1.2.1,h2.os],by rw[s6.2.2.1,s2.2.2.1,s1.2.2.1,h2.tape],by rw[s6.2.2.2,s2.2.2.2,s1.2.2.2,h2.output],by rw[s6.1,s2.1,s1.1];exact h2.size,fun b hb he=>by rw[o6 b (by omega),o2 b he,o1 b (by omega),h2.block b hb],BS,q0.win⟩
  have G6:bn 170 2 u6 (.slice a5 n5 c5) M.came.rs.reverse.length (St.aC M.came.rs.reverse):=Cv.of_heap (fun k G=>by have:=Ra k G;rw[o6 k (by omega),o2 k (by omega),o1 k (by omega)]);have h6:=Ez H.out q _ BA M.came.rs.reverse (fun r hr=>hc r (List.mem_reverse.1 hr)) G6 (fun k G=>by have:=Ra k G;omega);have a0:=B6.cell 0;have a1:=B6.cell 1;have a2:=B6.cell 2;have a3:=B6.cell 3;simp only[tT,tL]at a0 a1 a2 a3;clear h5 h4 h3;refine bodyPost_ret (v:=.agg #[.int .i64 0,I,O,.bool false]) (by simp[results,results200,go_sem,a0,a1,a2,a3]) rfl ?_;unfold jG at h6;rw[Z,h0];exact h6
end Go.Proofs.YtphbledmopchnaaGreatDoor.Sd
