import Derived.Test.YtphbledmopchnaaGreatDoorUea
import Derived.Test.YtphbledmopchnaaGreatDoorUed
open List renaming drop_eq_getElem_cons->fB,getElem?_eq_getElem->mR,drop_of_length_le->nI,take_of_length_le->sQ,take_add_one->tL,length_take->tT,not_mem_nil->uj,append_nil->wz,length_map->Am,map_append->Av,mem_cons->Aw
open Nat renaming le_refl->fA
set_option maxHeartbeats 1000000
set_option maxRecDepth 100000
namespace Go.Proofs.YtphbledmopchnaaGreatDoor.Sd
open Go.RowKit Go.Lib Mm Tryz
section
theorem bT.gr{oZ:Own}{s:Nat}{w w':World}{S:Nat}{l l':aI}{M:Side}{bw bl bi:Nat}{vc:Value}(h:bT oZ s w S l M bw bl bi vc)(g:Gn)(q:dL w w' S l l' 221 4)(F:qV l' 221 g):fP s oZ w S bw bl bi {M with gr:=g} w':=by
 have c:=h.cells
 have e:∀j,j<221\/225<=j->l'[j]?=l[j]?:=fun j G=>q.win.2 j (by omega)
 refine h.cell 221 4 (by omega) q ⟨q.win.1.trans c.len,(e _ (by omega)).trans c.c0,(e _ (by omega)).trans c.c1,(e _ (by omega)).trans c.c2,(e _ (by omega)).trans c.c3,(e _ (by omega)).trans c.mH,F,
  (e _ (by omega)).trans c.oh,(e _ (by omega)).trans c.c226,(e _ (by omega)).trans c.c227,(e _ (by omega)).trans c.c228,(e _ (by omega)).trans c.c229,(e _ (by omega)).trans c.kL,(e _ (by omega)).trans c.nC,(e _ (by omega)).trans c.c232,(e _ (by omega)).trans c.c233,
  (e _ (by omega)).trans c.c234,(e _ (by omega)).trans c.nD,(e _ (by omega)).trans c.c236,(e _ (by omega)).trans c.o9,(e _ (by omega)).trans c.kM,(e _ (by omega)).trans c.o_⟩ rfl rfl rfl rfl rfl rfl rfl
theorem bT.igr{oZ:Own}{s:Nat}{w w':World}{S:Nat}{l l':aI}{M:Side}{bw bl bi:Nat}{vc:Value}(h:bT oZ s w S l M bw bl bi vc)(k:Nat)(G:k<8)(g:Gn)(q:dL w w' S l l' (18+27*k) 4)(U:qV l' (18+27*k) g):fP s oZ w S bw bl bi (M.dA k {M.inn k with gr:=g}) w':=by
 refine h.dA k G _ ⟨oZ,l',q.kp h.ow (by simp),q.blk,q.win.mono (fA _) (by omega),?_⟩;obtain⟨vh,O,F,H,I⟩:=h.inn k G;have K:Kp [s] oZ oZ w w':=q.kp h.ow (by simp)
 have e:∀j,18+27*k+4<=j->l'[j]?=l[j]?:=fun j V=>q.win.2 j (by omega)
 exact⟨vh,O,⟨U,(e _ (by omega)).trans F.c4,(e _ (by omega)).trans F.c5,(e _ (by omega)).trans F.c6,(e _ (by omega)).trans F.c7,(e _ (by omega)).trans F.c8,(e _ (by omega)).trans F.c9,(e _ (by omega)).trans F.c10,(e _ (by omega)).trans F.c11,(e _ (by omega)).trans F.c12⟩,H.kp K (by simp;omega),I.kp K (by simp;omega)⟩
theorem UR(M:Side):M.free<=aZ:=by
 unfold Side.free;generalize M.ins=L
 cases F:L.reverse with
 |nil=>rw[List.reverse_eq_nil_iff.1 F];exact Nat.zero_le _
 |cons a t=>
  have:L=t.reverse++[a]:=by rw[<-List.reverse_reverse L,F,List.reverse_cons]
  rw[this,List.foldl_append];exact Nat.min_le_right _ _
section
variable {oZ:Own} {s:Nat} {w0:World} {S bw bl bi ab:Nat}
theorem C9(b1:Nat)(h1:Bx oZ s w0 b1 128 (ay S 0))(iw:Side->aP->Bool):
  qG oZ s w0 S bw bl bi ab 253 #[] #[ay b1 0] iw fun M av room=>(M.gr.next 5 0 M.free room).map fun x=>(x.1,{M with gr:=x.2},av):=by
 intro aC w M av room K hE hW _;obtain⟨l,vc,hS,hA⟩:=hE;obtain⟨W,F⟩:∃W,W=w.alloc (.cells ko.toArray 65):=⟨_,rfl⟩
 have G:aD w W:=by rw[F];exact(Below.refl _ w).alloc (fA _) _
 have V:aA W w.heap.size 65 ko:=by rw[F];exact aA.new w 65 _
 have hsz:w.heap.size<W.heap.size:=by rw[F];simp
 have uV:=hS.loc G
 have H:∀q,aD W (W.drewN q):=fun q=>⟨rfl,rfl,rfl,fA _,fun _ _=>rfl⟩
 have x1:=((h1.kp K).below G).cell
 have HF:Hid (∀q,Calls prog 252 #[ay S 0] (W.drewN q) fun e w'=>e=.returned (uZ M.free)/\w'=W.drewN q):=fun q=>Kh _ s S l M bw bl bi vc (W.drewN q) (uV.below (H q)) (fun k=>(hW.inn k).free)
 obtain⟨g,b,h0,U,Z⟩:=yQ (M.gr.next 5 0 M.free room) Prod.fst
 have HN:Hid (∀q,Calls prog 254 #[ay S 221,bR (iT 5 0 0) nZ,uZ M.free,iZ room] (W.drewN q) fun e w'=>e=.returned (.tuple #[bR g nZ,.bool b])/\aA w' w.heap.size 65 ko/\Hid (fP s (loc aC w.heap.size) W S bw bl bi (((M.gr.next 5 0 M.free room).map fun x=>{M with gr:=x.2}).getD M) w')):=fun q=>by
  have hq:=uV.below (H q);refine(Ki S 221 M.gr 5 (.inl rfl) 0 (by omega) M.free room (W.drewN q) l hq.blk hq.cells.gr hW.ga (UR M)).mono ?_;rintro e w' ⟨rfl,l',hO,hg⟩;refine⟨by rw[h0],hO.other (w:=W.drewN q) V (by have:=hS.blk.lt;omega),?_⟩;have D6:dL W w' S l l' 221 4:=dL.after (W:=W.drewN q) (H q) hO
  cases hX:M.gr.next 5 0 M.free room with
  |none=>
   rw[hX]at hg;exact uV.gr _ D6 hg
  |some x=>
   rw[hX]at hg;exact uV.gr _ D6 hg
 have HR:Hid (∀y,M.gr.next 5 0 M.free room=some y->y.1.ranges=[]):=fun y hy=>by rw[(mq (g':=y.2) hy).1];rfl
 have HE:Hid (∀y O,fP s (loc aC w.heap.size) W S bw bl bi (((M.gr.next 5 0 M.free room).map fun x=>{M with gr:=x.2}).getD M) y->je w.heap.size y O->gP aC s w S bw bl bi ab M av ((M.gr.next 5 0 M.free room).map fun x=>(x.1,{M with gr:=x.2},av)) (.returned (.tuple #[bR g nZ,.bool b])) O):=fun y O q ht=>
  uY hA hS.s0 G hsz _ (fun o=>{M with gr:=o}) g b U Z HR.out q ht _ rfl
 show Calls prog 253 #[iZ room,ay b1 0] w fun e w'=>gP aC s w S bw bl bi ab M av ((M.gr.next 5 0 M.free room).map fun x=>(x.1,{M with gr:=x.2},av)) e w'
 generalize ((M.gr.next 5 0 M.free room).map fun x=>(x.1,({M with gr:=x.2}:Side),av))=X at *;generalize (((M.gr.next 5 0 M.free room).map fun x=>({M with gr:=x.2}:Side)).getD M)=M' at *;generalize M.free=C at *;clear h0 U Z HR uV hS hA hW h1 K H V G hsz;unfold bR iT at HN;unfold ko at F;go_enter func253,ntmps253
 go_wp2_with fail
 rw[<-F];clear F
 go_region_with (first|(go_at_call 252;refine(HF.out _).mono ?_;rintro e y ⟨rfl,rfl⟩)|(go_at_call 254;refine(HN.out _).mono ?_;rintro e y ⟨rfl,I,HP⟩;obtain⟨y0,y1,y2,y3,y4,y5,y6,y7,y8,y9,yf⟩:=aH I;have qB:=au I;clear I))
 all_goals
  clear HN
  go_wp2_with fail
  go_simp;rw[dI];have iB:=dh qB.out (iZ g.kind) (iZ g.stream) (uZ g.offset) (uZ g.reliable) (uZ g.limit) (.bool g.fin) (uZ g.id) (uZ g.deadline) (.string g.data) nZ;have lX:=dw y w.heap.size (iZ g.kind) (iZ g.stream) (uZ g.offset) (uZ g.reliable) (uZ g.limit) (.bool g.fin) (uZ g.id) (uZ g.deadline) (.string g.data) nZ;generalize iA y w.heap.size (iZ g.kind) (iZ g.stream) (uZ g.offset) (uZ g.reliable) (uZ g.limit) (.bool g.fin) (uZ g.id) (uZ g.deadline) (.string g.data) nZ=O at *;obtain⟨a0,a1,a2,a3,a4,a5,a6,a7,a8,a9,_⟩:=aH iB;exact bodyPost_ret (v:=.tuple #[bR g nZ,.bool b]) (by simp[results,results253,go_sem,a0,a1,a2,a3,a4,a5,a6,a7,a8,a9,bR]) rfl (HE.out y O HP.out lX)
theorem yR(k:Nat)(hk:k<8)(b1 b2:Nat)(h1:Bx oZ s w0 b1 333 (ay S (18+27*k)))(h2:Bx oZ s w0 b2 3 (iZ k))(iw:Side->aP->Bool):
  qG oZ s w0 S bw bl bi ab 256 #[] #[ay b1 0,ay b2 0] iw fun M av room=>((M.inn k).gr.next 6 k (M.inn k).free room).map fun x=>(x.1,M.dA k {M.inn k with gr:=x.2},av):=by
 intro aC w M av room K hE hW _;obtain⟨l,vc,hS,hA⟩:=hE;obtain⟨W,F⟩:∃W,W=w.alloc (.cells ko.toArray 65):=⟨_,rfl⟩
 have G:aD w W:=by rw[F];exact(Below.refl _ w).alloc (fA _) _
 have U:aA W w.heap.size 65 ko:=by rw[F];exact aA.new w 65 _
 have hsz:w.heap.size<W.heap.size:=by rw[F];simp
 have uV:=hS.loc G
 have h0:∀q,aD W (W.drewN q):=fun q=>⟨rfl,rfl,rfl,fA _,fun _ _=>rfl⟩
 have x1:=((h1.kp K).below G).cell;have x2:=((h2.kp K).below G).cell;obtain⟨g,b,Z,O,V⟩:=yQ ((M.inn k).gr.next 6 k (M.inn k).free room) Prod.fst
 have HN:Hid (Calls prog 257 #[(ay S (18+27*k)),iZ k,iZ room] W fun e w'=>e=.returned (.tuple #[bR g nZ,.bool b])/\aA w' w.heap.size 65 ko/\Hid (fP s (loc aC w.heap.size) W S bw bl bi ((((M.inn k).gr.next 6 k (M.inn k).free room).map fun x=>M.dA k {M.inn k with gr:=x.2}).getD M) w')):=by
  obtain⟨vh,gZ,hL,_⟩:=uV.inn k hk;refine(CW S (18+27*k) (M.inn k) vh gZ k hk room W l uV.blk hL (hW.inn k)).mono ?_;rintro e w' ⟨rfl,l',hO,hg⟩;refine⟨by rw[Z],hO.other U (by have:=hS.blk.lt;omega),?_⟩
  cases hX:(M.inn k).gr.next 6 k (M.inn k).free room with
  |none=>
   rw[hX]at hg;have:=uV.igr k hk _ hO hg;rw[show({M.inn k with gr:=((Option.map Prod.snd (none:Option (Fr×Gn))).getD (M.inn k).gr)}:bU)=M.inn k from rfl,MI]at this;exact this
  |some x=>
   rw[hX]at hg;exact uV.igr k hk _ hO hg
 have HR:Hid (∀y,(M.inn k).gr.next 6 k (M.inn k).free room=some y->y.1.ranges=[]):=fun y hy=>by rw[(mq (g':=y.2) hy).1];rfl
 have HE:Hid (∀y I,fP s (loc aC w.heap.size) W S bw bl bi ((((M.inn k).gr.next 6 k (M.inn k).free room).map fun x=>M.dA k {M.inn k with gr:=x.2}).getD M) y->je w.heap.size y I->gP aC s w S bw bl bi ab M av (((M.inn k).gr.next 6 k (M.inn k).free room).map fun x=>(x.1,M.dA k {M.inn k with gr:=x.2},av)) (.returned (.tuple #[bR g nZ,.bool b])) I):=fun y I q ht=>
  uY hA hS.s0 G hsz _ (fun o=>M.dA k {M.inn k with gr:=o}) g b O V HR.out q ht _ rfl
 show Calls prog 256 #[iZ room,ay b1 0,ay b2 0] w fun e w'=>gP aC s w S bw bl bi ab M av (((M.inn k).gr.next 6 k (M.inn k).free room).map fun x=>(x.1,M.dA k {M.inn k with gr:=x.2},av)) e w'
 generalize (((M.inn k).gr.next 6 k (M.inn k).free room).map fun x=>(x.1,M.dA k ({M.inn k with gr:=x.2}:bU),av))=X at *;generalize ((((M.inn k).gr.next 6 k (M.inn k).free room).map fun x=>M.dA k ({M.inn k with gr:=x.2}:bU)).getD M)=M' at *;clear Z O V HR uV hS hA hW h1 h2 K h0 U G hsz;unfold bR at HN;unfold ko at F;subst F;go_enter func256,ntmps256
 go_wp2_with (first
  |(go_at_call 257;refine HN.out.mono ?_;rintro e y ⟨rfl,H,HP⟩;obtain⟨y0,y1,y2,y3,y4,y5,y6,y7,y8,y9,yf⟩:=aH H;have qB:=au H;clear H)
  |go_in)
 all_goals
  clear HN;rw[dI];have iB:=dh qB.out (iZ g.kind) (iZ g.stream) (uZ g.offset) (uZ g.reliable) (uZ g.limit) (.bool g.fin) (uZ g.id) (uZ g.deadline) (.string g.data) nZ;have lX:=dw y w.heap.size (iZ g.kind) (iZ g.stream) (uZ g.offset) (uZ g.reliable) (uZ g.limit) (.bool g.fin) (uZ g.id) (uZ g.deadline) (.string g.data) nZ;generalize iA y w.heap.size (iZ g.kind) (iZ g.stream) (uZ g.offset) (uZ g.reliable) (uZ g.limit) (.bool g.fin) (uZ g.id) (uZ g.deadline) (.string g.data) nZ=I at *;obtain⟨a0,a1,a2,a3,a4,a5,a6,a7,a8,a9,_⟩:=aH iB;exact bodyPost_ret (v:=.tuple #[bR g nZ,.bool b]) (by simp[results,results256,go_sem,a0,a1,a2,a3,a4,a5,a6,a7,a8,a9,bR]) rfl (HE.out y I HP.out lX)
end

end
theorem vB(b:Nat)(w:World):
  Calls prog 197 #[.map (some b)] w fun e w'=>e=.returned (.func (.func 243) #[] #[ay w.heap.size 0])/\w'=w.alloc (.cells #[.map (some b)] 203):=by
 have F:∀(fn:Fn) (first cap:Array Value) (w:World),(Instr.makeFunc fn first cap).run prog w=.ok (.func fn first cap) w:=fun _ _ _ _=>rfl
 go_enter func197,ntmps197;go_wp2;go_ret;exact⟨rfl,rfl⟩
theorem M6(S o:Nat)(w:World):(method 518 282 (ay S o) "Lose").run prog w=.ok (392,(ay S o)) w:=by kernel_rfl
theorem M7(S o:Nat)(w:World):(method 518 282 (ay S o) "Away").run prog w=.ok (319,(ay S o)) w:=by kernel_rfl
theorem M8(S o:Nat)(w:World):(method 518 282 (ay S o) "Came").run prog w=.ok (391,(ay S o)) w:=by kernel_rfl
theorem M9(S o:Nat)(w:World):(method 518 335 (ay S o) "Lose").run prog w=.ok (395,(ay S o)) w:=by kernel_rfl
theorem M_(S o:Nat)(w:World):(method 518 335 (ay S o) "Away").run prog w=.ok (342,(ay S o)) w:=by kernel_rfl
theorem Na(S o:Nat)(w:World):(method 518 335 (ay S o) "Came").run prog w=.ok (394,(ay S o)) w:=by kernel_rfl
theorem Nb(S o:Nat)(w:World):(method 518 336 (ay S o) "Lose").run prog w=.ok (397,(ay S o)) w:=by kernel_rfl
theorem Nc(S o:Nat)(w:World):(method 518 336 (ay S o) "Away").run prog w=.ok (311,(ay S o)) w:=by kernel_rfl
theorem Nf(S o:Nat)(w:World):(method 518 336 (ay S o) "Came").run prog w=.ok (396,(ay S o)) w:=by kernel_rfl
section
theorem bT.ont{oZ:Own}{s:Nat}{w w':World}{S:Nat}{l l':aI}{M:Side}{bw bl bi:Nat}{vc:Value}(h:bT oZ s w S l M bw bl bi vc)(k:Nat)(G:k<8)(g:Nt)(q:dL w w' S l l' (6+27*k) 4)(V:zY l' (6+27*k) g):fP s oZ w S bw bl bi (M.bf k {M.out k with nt:=g}) w':=by
 refine h.bf k G _ ⟨oZ,l',q.kp h.ow (by simp),q.blk,q.win.mono (by omega) (by omega),?_⟩;obtain⟨vb,va,U,F,H,I,O⟩:=h.out k G;have K:Kp [s] oZ oZ w w':=q.kp h.ow (by simp)
 have e:∀j,j<6+27*k\/6+27*k+4<=j->l'[j]?=l[j]?:=fun j X=>q.win.2 j (by omega)
 exact⟨vb,va,U,⟨(e _ (by omega)).trans F.c0,(e _ (by omega)).trans F.c1,by rw[show 4+27*k+2=6+27*k by omega];exact V,(e _ (by omega)).trans F.c6,(e _ (by omega)).trans F.c7,(e _ (by omega)).trans F.c8,(e _ (by omega)).trans F.c9,(e _ (by omega)).trans F.c10,(e _ (by omega)).trans F.c11,(e _ (by omega)).trans F.c12,(e _ (by omega)).trans F.c13⟩,H.kp K (by simp;omega),I.kp K (by simp;omega),O.kp K (by simp;omega)⟩
section
variable {oZ:Own} {s:Nat} {S:Nat} {l:aI} {M:Side} {bw bl bi:Nat} {vc:Value}
theorem bT.ntL{w:World}(h:bT oZ s w S l M bw bl bi vc)(k:Nat)(G:k<8):zY l (6+27*k) (M.out k).nt:=by
 obtain⟨vb,va,H,F,_⟩:=h.out k G;have:=F.nt;rwa[show 4+27*k+2=6+27*k by omega]at this
theorem bT.inL{w:World}(h:bT oZ s w S l M bw bl bi vc)(k:Nat)(G:k<8):qV l (18+27*k) (M.inn k).gr:=by
 obtain⟨vh,H,F,_⟩:=h.inn k G;exact F.gr
theorem QX(w:World)(h:bT oZ s w S l M bw bl bi vc):Calls prog 397 #[ay S 221] w fun e w'=>e=.returned (.tuple #[])/\fP s oZ w S bw bl bi {M with gr:=M.gr.lose} w':=
 (JV S 221 M.gr w l h.blk h.cells.gr).mono fun _ _ ⟨F,_,q,G⟩=>⟨F,h.gr _ q G⟩
theorem QY(w:World)(h:bT oZ s w S l M bw bl bi vc)(k:Nat)(F:k<8):Calls prog 397 #[(ay S (18+27*k))] w fun e w'=>e=.returned (.tuple #[])/\fP s oZ w S bw bl bi (M.dA k (fZ (M.inn k))) w':=
 (JV S (18+27*k) (M.inn k).gr w l h.blk (h.inL k F)).mono fun _ _ ⟨G,_,q,H⟩=>⟨G,h.igr k F _ q H⟩
theorem QZ(w:World)(h:bT oZ s w S l M bw bl bi vc)(k:Nat)(F:k<8):Calls prog 395 #[(ay S (6+27*k))] w fun e w'=>e=.returned (.tuple #[])/\fP s oZ w S bw bl bi (M.bf k {M.out k with nt:=(M.out k).nt.lose}) w':=
 (Vh S (6+27*k) (M.out k).nt w l h.blk (h.ntL k F)).mono fun _ _ ⟨G,_,q,H⟩=>⟨G,h.ont k F _ q H⟩
theorem Q5(w:World)(h:bT oZ s w S l M bw bl bi vc)(k:Nat)(F:k<8)(G:(M.out k).came.rs.length<=1000000):Calls prog 392 #[(ay S (4+27*k))] w fun e w'=>e=.returned (.tuple #[])/\fP s oZ w S bw bl bi (M.bf k (M.out k).lose) w':=
 (Vk s (s+1+5*k) oZ S (4+27*k) (M.out k) l w h.blk h.ow (by omega) (h.out k F) G).mono fun _ _ ⟨H,q⟩=>⟨H,h.bf k F _ q⟩
end

end
section
def Od(kd:Int):Nat:=if kd=4 then 282 else if kd=3 then 335 else 336
def zT(S k:Nat)(kd:Int):Value:=(ay S (if kd=4 then 4+27*k else if kd=3 then 6+27*k else if kd=6 then 18+27*k else 221))
def tY(kd:Int):Nat:=if kd=4 then 319 else if kd=3 then 342 else 311
def nT(kd:Int):Nat:=if kd=4 then 391 else if kd=3 then 394 else 396
theorem I8(S k:Nat)(kd:Int):QV S k kd=.iface (Od kd) (zT S k kd):=by
 unfold QV Od zT
 by_cases G:kd=4
 ·simp[G]
 ·by_cases F:kd=3
  ·simp[F]
  ·by_cases H:kd=6
   ·simp[H]
   ·simp[G,F,H]
theorem Vl(S k:Nat)(kd:Int)(w:World):(method 518 (Od kd) (zT S k kd) "Away").run prog w=.ok (tY kd,zT S k kd) w:=by
 unfold Od zT tY
 by_cases G:kd=4
 ·simp only[G,if_true];exact M7 _ _ _
 ·by_cases F:kd=3
  ·simp only[F,if_true];exact M_ _ _ _
  ·simp only[G,F,if_false];exact Nc _ _ _
theorem Ky(S k:Nat)(kd:Int)(w:World):(method 518 (Od kd) (zT S k kd) "Came").run prog w=.ok (nT kd,zT S k kd) w:=by
 unfold Od zT nT
 by_cases G:kd=4
 ·simp only[G,if_true];exact M8 _ _ _
 ·by_cases F:kd=3
  ·simp only[F,if_true];exact Na _ _ _
  ·simp only[G,F,if_false];exact Nf _ _ _
section
variable {oZ:Own} {s:Nat} {S:Nat} {l:aI} {M:Side} {bw bl bi:Nat} {vc:Value}
end

end
section
def T1(s:Nat):List Nat:=List.range' s 41
theorem rJ{s x:Nat}:x∈T1 s↔s<=x/\x<s+41:=by
 unfold T1;rw[List.mem_range'];constructor
 ·rintro⟨i,h,rfl⟩;omega
 ·rintro⟨h1,F⟩;exact⟨x-s,by omega,by omega⟩
theorem Q6{s x:Nat}(h:x∈T1 s):x∈T0 s:=bN.2 (by have:=rJ.1 h;omega)
def GA(s:Nat)(oZ:Own)(w:World)(S:Nat)(bw bl bi:Nat)(M':Side)(w':World):Prop:=∃aC l' F,bT aC s w' S l' M' bw bl bi F/\Kp (T1 s) oZ aC w w'
theorem bT.Q7{oZ:Own}{s:Nat}{w w':World}{S:Nat}{l:aI}{M:Side}{bw bl bi:Nat}{vc:Value}(h:bT oZ s w S l M bw bl bi vc)(k:Nat)(U:k<8)(m:Ot)(q:iF s (s+1+5*k) oZ S (4+27*k) l w m w'):GA s oZ w S bw bl bi (M.bf k m) w':=by
 obtain⟨aC,l',K,hB,wi,O⟩:=q
 have F:∀x,x∈[s,s+1+5*k,s+1+5*k+1,s+1+5*k+1+1]->x=s\/(s+1+5*k<=x/\x<=s+3+5*k):=fun x I=>by
  simp only[Aw,uj,or_false]at I;omega
 have V:∀j,(M.bf k m).out j=if j=k then m else M.out j:=fun j=>by
  rw[gK,h.lo]
  by_cases G:j=k
  ·rw[if_pos ⟨G,U⟩,if_pos G]
  ·rw[if_neg (fun x=>G x.1),if_neg G]
 refine⟨aC,l',vc,⟨by rw[K.ext S h.blk.lt,h.ow],h.s0,hB,?_,fun j G=>?_,fun j G=>?_,h.row.kp K (fun e=>by have:=F _ e;omega),h.way.kp K (fun e=>by have:=F _ e;omega) (fun e=>by have:=F _ e;omega),h.lost.kp K (fun e=>by have:=F _ e;omega) (fun e=>by have:=F _ e;omega),h.qu.kp K (fun e=>by have:=F _ e;omega),(eX _ _ _).trans h.lo,h.li⟩,K.mono fun x I=>rJ.2 (by have:=F x I;omega)⟩
 ·have c:=h.cells.win wi (by omega) (by omega);exact⟨c.len,c.c0,c.c1,c.c2,c.c3,c.mH,c.gr,c.oh,c.c226,c.c227,c.c228,c.c229,c.kL,c.nC,c.c232,c.c233,c.c234,c.nD,c.c236,c.o9,c.kM,c.o_⟩
 ·rw[V]
  by_cases H:j=k
  ·subst H;rw[if_pos rfl];exact O
  ·rw[if_neg H];exact(h.out j G).kp K (fun e=>by have:=F _ e;omega) (fun e=>by have:=F _ e;omega) (fun e=>by have:=F _ e;omega) wi (by omega)
 ·exact(h.inn j G).kp K (fun e=>by have:=F _ e;omega) (fun e=>by have:=F _ e;omega) wi (by omega)
theorem bT.Zm{oZ:Own}{s:Nat}{w w':World}{S:Nat}{l:aI}{M:Side}{bw bl bi:Nat}{vc:Value}(h:bT oZ s w S l M bw bl bi vc)(k:Nat)(U:k<8)(m:bU)(q:Pe s (s+4+5*k) oZ S (18+27*k) l w m w'):GA s oZ w S bw bl bi (M.dA k m) w':=by
 obtain⟨aC,l',K,hB,wi,O⟩:=q
 have F:∀x,x∈[s,s+4+5*k,s+4+5*k+1]->x=s\/(s+4+5*k<=x/\x<=s+5+5*k):=fun x I=>by
  simp only[Aw,uj,or_false]at I;omega
 have V:∀j,(M.dA k m).inn j=if j=k then m else M.inn j:=fun j=>by
  rw[gL,h.li]
  by_cases G:j=k
  ·rw[if_pos ⟨G,U⟩,if_pos G]
  ·rw[if_neg (fun x=>G x.1),if_neg G]
 refine⟨aC,l',vc,⟨by rw[K.ext S h.blk.lt,h.ow],h.s0,hB,?_,fun j G=>?_,fun j G=>?_,h.row.kp K (fun e=>by have:=F _ e;omega),h.way.kp K (fun e=>by have:=F _ e;omega) (fun e=>by have:=F _ e;omega),h.lost.kp K (fun e=>by have:=F _ e;omega) (fun e=>by have:=F _ e;omega),h.qu.kp K (fun e=>by have:=F _ e;omega),h.lo,(eX _ _ _).trans h.li⟩,K.mono fun x I=>rJ.2 (by have:=F x I;omega)⟩
 ·have c:=h.cells.win wi (by omega) (by omega);exact⟨c.len,c.c0,c.c1,c.c2,c.c3,c.mH,c.gr,c.oh,c.c226,c.c227,c.c228,c.c229,c.kL,c.nC,c.c232,c.c233,c.c234,c.nD,c.c236,c.o9,c.kM,c.o_⟩
 ·exact(h.out j G).kp K (fun e=>by have:=F _ e;omega) (fun e=>by have:=F _ e;omega) (fun e=>by have:=F _ e;omega) wi (by omega)
 ·rw[V]
  by_cases H:j=k
  ·subst H;rw[if_pos rfl];exact O
  ·rw[if_neg H];exact(h.inn j G).kp K (fun e=>by have:=F _ e;omega) (fun e=>by have:=F _ e;omega) wi (by omega)
theorem bT.cell1{oZ:Own}{s:Nat}{w w':World}{S:Nat}{l l':aI}{M M':Side}{bw bl bi:Nat}{vc:Value}(h:bT oZ s w S l M bw bl bi vc)(o n:Nat)(ho:o+n<=4\/220<=o)(q:dL w w' S l l' o n)(hc:SdL l' M' bw bl bi vc)(I:M'.outs=M.outs)(O:M'.ins=M.ins)(U:M'.came=M.came)(V:M'.aF=M.aF)(X:M'.lost=M.lost)(Z:M'.qv=M.qv)(e7:M'.queue=M.queue):GA s oZ w S bw bl bi M' w':=by
 have K:Kp [s] oZ oZ w w':=q.kp h.ow (by simp)
 have F:∀x,x∈[s]->x=s:=fun x H=>by simpa using H
 have eo:∀j,M'.out j=M.out j:=fun j=>by unfold Side.out;rw[I]
 have ei:∀j,M'.inn j=M.inn j:=fun j=>by unfold Side.inn;rw[O]
 refine⟨oZ,l',vc,⟨h.ow,h.s0,q.blk,hc,fun j G=>?_,fun j G=>?_,?_,?_,?_,?_,by rw[I];exact h.lo,by rw[O];exact h.li⟩,K.mono fun x H=>rJ.2 (by have:=F x H;omega)⟩
 ·rw[eo];exact(h.out j G).kp K (fun e=>by have:=F _ e;omega) (fun e=>by have:=F _ e;omega) (fun e=>by have:=F _ e;omega) q.win (by omega)
 ·rw[ei];exact(h.inn j G).kp K (fun e=>by have:=F _ e;omega) (fun e=>by have:=F _ e;omega) q.win (by omega)
 ·rw[U];exact h.row.kp K (fun e=>by have:=F _ e;omega)
 ·rw[V];exact h.way.kp K (fun e=>by have:=F _ e;omega) (fun e=>by have:=F _ e;omega)
 ·rw[X];exact h.lost.kp K (fun e=>by have:=F _ e;omega) (fun e=>by have:=F _ e;omega)
 ·rw[Z,e7];exact h.qu.kp K (fun e=>by have:=F _ e;omega)
theorem bT.gr1{oZ:Own}{s:Nat}{w w':World}{S:Nat}{l l':aI}{M:Side}{bw bl bi:Nat}{vc:Value}(h:bT oZ s w S l M bw bl bi vc)(g:Gn)(q:dL w w' S l l' 221 4)(F:qV l' 221 g):GA s oZ w S bw bl bi {M with gr:=g} w':=by
 have c:=h.cells
 have e:∀j,j<221\/225<=j->l'[j]?=l[j]?:=fun j G=>q.win.2 j (by omega)
 refine h.cell1 221 4 (by omega) q ⟨q.win.1.trans c.len,(e _ (by omega)).trans c.c0,(e _ (by omega)).trans c.c1,(e _ (by omega)).trans c.c2,(e _ (by omega)).trans c.c3,(e _ (by omega)).trans c.mH,F,
  (e _ (by omega)).trans c.oh,(e _ (by omega)).trans c.c226,(e _ (by omega)).trans c.c227,(e _ (by omega)).trans c.c228,(e _ (by omega)).trans c.c229,(e _ (by omega)).trans c.kL,(e _ (by omega)).trans c.nC,(e _ (by omega)).trans c.c232,(e _ (by omega)).trans c.c233,
  (e _ (by omega)).trans c.c234,(e _ (by omega)).trans c.nD,(e _ (by omega)).trans c.c236,(e _ (by omega)).trans c.o9,(e _ (by omega)).trans c.kM,(e _ (by omega)).trans c.o_⟩ rfl rfl rfl rfl rfl rfl rfl
theorem bT.Zn{oZ:Own}{s:Nat}{w w':World}{S:Nat}{l l':aI}{M:Side}{bw bl bi:Nat}{vc:Value}(h:bT oZ s w S l M bw bl bi vc)(k:Nat)(G:k<8)(g:Gn)(q:dL w w' S l l' (18+27*k) 4)(U:qV l' (18+27*k) g):GA s oZ w S bw bl bi (M.dA k {M.inn k with gr:=g}) w':=by
 refine h.Zm k G _ ⟨oZ,l',q.kp h.ow (by simp),q.blk,q.win.mono (fA _) (by omega),?_⟩;obtain⟨vh,O,F,H,I⟩:=h.inn k G;have K:Kp [s] oZ oZ w w':=q.kp h.ow (by simp)
 have e:∀j,18+27*k+4<=j->l'[j]?=l[j]?:=fun j V=>q.win.2 j (by omega)
 exact⟨vh,O,⟨U,(e _ (by omega)).trans F.c4,(e _ (by omega)).trans F.c5,(e _ (by omega)).trans F.c6,(e _ (by omega)).trans F.c7,(e _ (by omega)).trans F.c8,(e _ (by omega)).trans F.c9,(e _ (by omega)).trans F.c10,(e _ (by omega)).trans F.c11,(e _ (by omega)).trans F.c12⟩,H.kp K (by simp;omega),I.kp K (by simp;omega)⟩
theorem bT.Zo{oZ:Own}{s:Nat}{w w':World}{S:Nat}{l l':aI}{M:Side}{bw bl bi:Nat}{vc:Value}(h:bT oZ s w S l M bw bl bi vc)(k:Nat)(G:k<8)(g:Nt)(q:dL w w' S l l' (6+27*k) 4)(V:zY l' (6+27*k) g):GA s oZ w S bw bl bi (M.bf k {M.out k with nt:=g}) w':=by
 refine h.Q7 k G _ ⟨oZ,l',q.kp h.ow (by simp),q.blk,q.win.mono (by omega) (by omega),?_⟩;obtain⟨vb,va,U,F,H,I,O⟩:=h.out k G;have K:Kp [s] oZ oZ w w':=q.kp h.ow (by simp)
 have e:∀j,j<6+27*k\/6+27*k+4<=j->l'[j]?=l[j]?:=fun j X=>q.win.2 j (by omega)
 exact⟨vb,va,U,⟨(e _ (by omega)).trans F.c0,(e _ (by omega)).trans F.c1,by rw[show 4+27*k+2=6+27*k by omega];exact V,(e _ (by omega)).trans F.c6,(e _ (by omega)).trans F.c7,(e _ (by omega)).trans F.c8,(e _ (by omega)).trans F.c9,(e _ (by omega)).trans F.c10,(e _ (by omega)).trans F.c11,(e _ (by omega)).trans F.c12,(e _ (by omega)).trans F.c13⟩,H.kp K (by simp;omega),I.kp K (by simp;omega),O.kp K (by simp;omega)⟩
section
variable {oZ:Own} {s:Nat} {S:Nat} {l:aI} {M:Side} {bw bl bi:Nat} {vc:Value}
theorem Nh(w:World)(h:bT oZ s w S l M bw bl bi vc)(f:Fr)(rv:Value):Calls prog 311 #[ay S 221,bR f rv] w fun e w'=>e=.returned (.tuple #[])/\GA s oZ w S bw bl bi {M with gr:=M.gr.aw f.limit} w':=
 (Cm S 221 M.gr f rv w l h.blk h.cells.gr).mono fun _ _ ⟨F,_,q,G⟩=>⟨F,h.gr1 _ q G⟩
theorem Ni(w:World)(h:bT oZ s w S l M bw bl bi vc)(k:Nat)(F:k<8)(f:Fr)(rv:Value):Calls prog 311 #[(ay S (18+27*k)),bR f rv] w fun e w'=>e=.returned (.tuple #[])/\GA s oZ w S bw bl bi (M.dA k {M.inn k with gr:=(M.inn k).gr.aw f.limit}) w':=
 (Cm S (18+27*k) (M.inn k).gr f rv w l h.blk (h.inL k F)).mono fun _ _ ⟨G,_,q,H⟩=>⟨G,h.Zn k F _ q H⟩
theorem Nj(w:World)(h:bT oZ s w S l M bw bl bi vc)(k:Nat)(F:k<8)(f:Fr)(rv:Value):Calls prog 342 #[(ay S (6+27*k)),bR f rv] w fun e w'=>e=.returned (.tuple #[])/\GA s oZ w S bw bl bi (M.bf k {M.out k with nt:=(M.out k).nt.aw f.reliable}) w':=
 (Vi S (6+27*k) (M.out k).nt f rv w l h.blk (h.ntL k F)).mono fun _ _ ⟨G,_,q,H⟩=>⟨G,h.Zo k F _ q H⟩
theorem Nk(w:World)(h:bT oZ s w S l M bw bl bi vc)(k:Nat)(G:k<8)(f:Fr)(rv:Value)(F:uN (M.out k).away)(I:ru f):Calls prog 319 #[(ay S (4+27*k)),bR f rv] w fun e w'=>e=.returned (.tuple #[])/\GA s oZ w S bw bl bi (M.bf k ((M.out k).aw f)) w':=
 (wY s (s+1+5*k) oZ S (4+27*k) (M.out k) f rv l w h.blk h.ow (by omega) (h.out k G) F I).mono fun _ _ ⟨H,q⟩=>⟨H,h.Q7 k G _ q⟩
theorem Nl(w:World)(h:bT oZ s w S l M bw bl bi vc)(f:Fr)(rv:Value):Calls prog 396 #[ay S 221,bR f rv] w fun e w'=>e=.returned (.tuple #[])/\GA s oZ w S bw bl bi {M with gr:=M.gr.cm f.limit} w':=
 (JW S 221 M.gr f rv w l h.blk h.cells.gr).mono fun _ _ ⟨F,_,q,G⟩=>⟨F,h.gr1 _ q G⟩
theorem Nn(w:World)(h:bT oZ s w S l M bw bl bi vc)(k:Nat)(F:k<8)(f:Fr)(rv:Value):Calls prog 396 #[(ay S (18+27*k)),bR f rv] w fun e w'=>e=.returned (.tuple #[])/\GA s oZ w S bw bl bi (M.dA k {M.inn k with gr:=(M.inn k).gr.cm f.limit}) w':=
 (JW S (18+27*k) (M.inn k).gr f rv w l h.blk (h.inL k F)).mono fun _ _ ⟨G,_,q,H⟩=>⟨G,h.Zn k F _ q H⟩
theorem Np(w:World)(h:bT oZ s w S l M bw bl bi vc)(k:Nat)(F:k<8)(f:Fr)(rv:Value):Calls prog 394 #[(ay S (6+27*k)),bR f rv] w fun e w'=>e=.returned (.tuple #[])/\GA s oZ w S bw bl bi (M.bf k {M.out k with nt:=(M.out k).nt.cm f.reliable}) w':=
 (Vj S (6+27*k) (M.out k).nt f rv w l h.blk (h.ntL k F)).mono fun _ _ ⟨G,_,q,H⟩=>⟨G,h.Zo k F _ q H⟩
theorem Nq(w:World)(h:bT oZ s w S l M bw bl bi vc)(k:Nat)(H:k<8)(f:Fr)(rv:Value)(G:uN (M.out k).away)(F:uN (M.out k).came)(K:ru f):Calls prog 391 #[(ay S (4+27*k)),bR f rv] w fun e w'=>e=.returned (.tuple #[])/\GA s oZ w S bw bl bi (M.bf k ((M.out k).cm f)) w':=
 (Um s (s+1+5*k) oZ S (4+27*k) (M.out k) f rv l w h.blk h.ow (by omega) h.s0 (h.out k H) G F K).mono fun _ _ ⟨I,q⟩=>⟨I,h.Q7 k H _ q⟩
theorem Q8(w:World)(h:bT oZ s w S l M bw bl bi vc)(f:Fr)(k:Nat)(I:k<8)(hs:f.stream=(k:Int))(rv:Value)(K:f.kind=4->uN (M.out k).away/\ru f):
  Calls prog (tY f.kind) #[zT S k f.kind,bR f rv] w fun e w'=>e=.returned (.tuple #[])/\GA s oZ w S bw bl bi (M.dM f) w':=by
 have O:f.stream.toNat=k:=by omega
 unfold Side.dM tY zT;rw[O]
 by_cases F:f.kind=4
 ·rw[if_pos F,if_pos F,if_pos F];exact Nk w h k I f rv (K F).1 (K F).2
 ·rw[if_neg F,if_neg F,if_neg F]
  by_cases G:f.kind=3
  ·rw[if_pos G,if_pos G,if_pos G];exact Nj w h k I f rv
  ·rw[if_neg G,if_neg G,if_neg G]
   by_cases H:f.kind=6
   ·rw[if_pos H,if_pos H];exact Ni w h k I f rv
   ·rw[if_neg H,if_neg H];exact Nh w h f rv
theorem Q9(w:World)(h:bT oZ s w S l M bw bl bi vc)(f:Fr)(k:Nat)(I:k<8)(hs:f.stream=(k:Int))(rv:Value)(K:f.kind=4->uN (M.out k).away/\uN (M.out k).came/\ru f):
  Calls prog (nT f.kind) #[zT S k f.kind,bR f rv] w fun e w'=>e=.returned (.tuple #[])/\GA s oZ w S bw bl bi (M.bookC f) w':=by
 have O:f.stream.toNat=k:=by omega
 unfold Side.bookC nT zT;rw[O]
 by_cases F:f.kind=4
 ·rw[if_pos F,if_pos F,if_pos F];exact Nq w h k I f rv (K F).1 (K F).2.1 (K F).2.2
 ·rw[if_neg F,if_neg F,if_neg F]
  by_cases G:f.kind=3
  ·rw[if_pos G,if_pos G,if_pos G];exact Np w h k I f rv
  ·rw[if_neg G,if_neg G,if_neg G]
   by_cases H:f.kind=6
   ·rw[if_pos H,if_pos H];exact Nn w h k I f rv
   ·rw[if_neg H,if_neg H];exact Nl w h f rv
end

end
end Go.Proofs.YtphbledmopchnaaGreatDoor.Sd
namespace Go.Proofs.YtphbledmopchnaaGreatDoor.Sd
open Go.RowKit Go.Lib Mm St Tryz
def Side.lJ(M:Side)(j:Nat):Side:=
 if j=0 then{M with gr:=M.gr.lose}else if j % 3=1 then M.bf (j / 3) (M.out (j / 3)).lose else if j % 3=2 then M.bf (j / 3) {M.out (j / 3)with nt:=(M.out (j / 3)).nt.lose}else M.dA (j / 3-1) (fZ (M.inn (j / 3-1)))
def Side.pQ(M:Side):Nat->Side
 |0=>M
 |n+1=>(M.pQ n).lJ n
theorem Ra{α:Type}(f:α->α):∀(A:List α) (a:α) (B:List α),md (A++a::B) A.length f=A++f a::B
 |[],_,_=>rfl
 |x::A,a,B=>congrArg (x::·) (Ra f A a B)
theorem getD_at{α:Type}(d:α):∀(A:List α) (a:α) (B:List α),(A++a::B).getD A.length d=a
 |[],_,_=>rfl
 |_::A,a,B=>getD_at d A a B
theorem Fa(M:Side)(K:M.outs.length=8)(hi:M.ins.length=8):∀k,k<=8->M.pQ (1+3*k)={M with gr:=M.gr.lose,outs:=(M.outs.take k).map gY++M.outs.drop k,ins:=(M.ins.take k).map fZ++M.ins.drop k}
 |0,_=>rfl
 |k+1,h=>by
  have G:k<M.outs.length:=by omega
  have F:k<M.ins.length:=by omega
  have H:M.outs.drop k=M.outs[k]::M.outs.drop (k+1):=fB G;have I:M.ins.drop k=M.ins[k]::M.ins.drop (k+1):=fB F
  have l1:((M.outs.take k).map gY).length=k:=by rw[Am,tT];omega
  have l2:((M.ins.take k).map fZ).length=k:=by rw[Am,tT];omega
  have Z:(M.outs.take (k+1)).map gY=(M.outs.take k).map gY++[gY M.outs[k]]:=by rw[tL,mR G,Av];rfl
  have t2:(M.ins.take (k+1)).map fZ=(M.ins.take k).map fZ++[fZ M.ins[k]]:=by rw[tL,mR F,Av];rfl
  show(((M.pQ (1+3*k)).lJ (1+3*k)).lJ (1+3*k+1)).lJ (1+3*k+1+1)=_;rw[Fa M K hi k (by omega),Z,t2,H,I];generalize M.outs[k]=a;generalize M.ins[k]=b;generalize (M.outs.take k).map gY=A at l1 ⊢;generalize (M.ins.take k).map fZ=B at l2 ⊢;generalize M.outs.drop (k+1)=A';generalize M.ins.drop (k+1)=B'
  have O:∀X:Side,X.lJ (1+3*k)=X.bf k (X.out k).lose:=fun X=>by
   unfold Side.lJ;rw[if_neg (by omega),if_pos (by omega),show(1+3*k) / 3=k by omega]
  have U:∀X:Side,X.lJ (1+3*k+1)=X.bf k {X.out k with nt:=(X.out k).nt.lose}:=fun X=>by
   unfold Side.lJ;rw[if_neg (by omega),if_neg (by omega),if_pos (by omega),show(1+3*k+1) / 3=k by omega]
  have V:∀X:Side,X.lJ (1+3*k+1+1)=X.dA k (fZ (X.inn k)):=fun X=>by
   unfold Side.lJ;rw[if_neg (by omega),if_neg (by omega),if_neg (by omega),show(1+3*k+1+1) / 3-1=k by omega]
  rw[O,U,V];subst l1;unfold Side.bf Side.dA Side.out Side.inn;simp only[Ra,getD_at];rw[<-l2];simp only[Ra,getD_at,List.append_assoc,List.cons_append,List.nil_append];rfl
theorem Nu(M:Side)(F:M.outs.length=8)(hi:M.ins.length=8):M.pQ 25={M with gr:=M.gr.lose,outs:=M.outs.map gY,ins:=M.ins.map fZ}:=by
 have:=Fa M F hi 8 (fA _);rw[show 1+3*8=25 from rfl]at this;rw[this,sQ (by omega),sQ (by omega),nI (by omega),nI (by omega),wz,wz]
theorem I9(M:Side)(j k:Nat):((M.lJ j).out k).came=(M.out k).came:=by
 unfold Side.lJ;split
 ·rfl
 ·split
  ·rw[gK];split
   ·rename_i h;rw[h.1];rfl
   ·rfl
  ·split
   ·rw[gK];split
    ·rename_i h;rw[h.1]
    ·rfl
   ·rfl
theorem zu(M:Side)(k:Nat):∀j,((M.pQ j).out k).came=(M.out k).came
 |0=>rfl
 |j+1=>(I9 _ j k).trans (zu M k j)
def lT(j:Nat):Nat:=if j % 3=1 then 282 else if j % 3=2 then 335 else 336
def lP(S j:Nat):Value:=(ay S (if j=0 then 221 else if j % 3=1 then 4+27*(j / 3)else if j % 3=2 then 6+27*(j / 3)else 18+27*(j / 3-1)))
def lN(j:Nat):Nat:=if j % 3=1 then 392 else if j % 3=2 then 395 else 397
theorem Rb(S:Nat):∀k j,j<1+3*k->(Tk S k)[j]?=some (.iface (lT j) (lP S j))
 |0,j,h=>by
  obtain rfl:j=0:=by omega
  rfl
 |k+1,j,h=>by
  show(Tk S k++Vm S k)[j]?=_
  by_cases F:j<1+3*k
  ·rw[List.getElem?_append_left (by rw[xg];exact F)];exact Rb S k j F
  ·rw[List.getElem?_append_right (by rw[xg];omega),xg];unfold lT lP
   have G:j=1+3*k\/j=1+3*k+1\/j=1+3*k+2:=by omega
   rcases G with rfl|rfl|rfl
   ·rw[if_pos (by omega),if_neg (by omega),if_pos (by omega),Nat.sub_self,show(1+3*k) / 3=k by omega,<-show 4+k*27=4+27*k by omega];rfl
   ·rw[if_neg (by omega),if_pos (by omega),if_neg (by omega),if_neg (by omega),if_pos (by omega),show 1+3*k+1-(1+3*k)=1 by omega,show(1+3*k+1) / 3=k by omega,<-show 4+k*27+2=6+27*k by omega];rfl
   ·rw[if_neg (by omega),if_neg (by omega),if_neg (by omega),if_neg (by omega),if_neg (by omega),show 1+3*k+2-(1+3*k)=2 by omega,show(1+3*k+2) / 3-1=k by omega,<-show 4+k*27+14=18+27*k by omega];rfl
theorem Vo(S j:Nat)(w:World):(method 518 (lT j) (lP S j) "Lose").run prog w=.ok (lN j,lP S j) w:=by
 obtain⟨o,G⟩:∃o,lP S j=(ay S o):=⟨_,rfl⟩;rw[G];unfold lT lN
 by_cases h1:j % 3=1
 ·rw[if_pos h1,if_pos h1];exact M6 _ _ _
 ·by_cases F:j % 3=2
  ·rw[if_neg h1,if_neg h1,if_pos F,if_pos F];exact M9 _ _ _
  ·rw[if_neg h1,if_neg h1,if_neg F,if_neg F];exact Nb _ _ _
theorem Rf{oZ:Own}{s:Nat}{S:Nat}{l:aI}{M:Side}{bw bl bi:Nat}{vc:Value}(w:World)(h:bT oZ s w S l M bw bl bi vc)(j:Nat)(I:j<25)(H:∀k,(M.out k).came.rs.length<=1000000):
  Calls prog (lN j) #[lP S j] w fun e w'=>e=.returned (.tuple #[])/\fP s oZ w S bw bl bi (M.lJ j) w':=by
 unfold Side.lJ lN lP
 by_cases G:j=0
 ·subst G;exact QX w h
 ·rw[if_neg G,if_neg G]
  by_cases h1:j % 3=1
  ·rw[if_pos h1,if_pos h1,if_pos h1];exact Q5 w h _ (by omega) (H _)
  ·rw[if_neg h1,if_neg h1,if_neg h1]
   by_cases F:j % 3=2
   ·rw[if_pos F,if_pos F,if_pos F];exact QZ w h _ (by omega)
   ·rw[if_neg F,if_neg F,if_neg F];exact QY w h _ (by omega)
theorem bT.ways{oZ aC:Own}{s:Nat}{w w':World}{S:Nat}{l:aI}{M:Side}{bw bl bi:Nat}{vc:Value}{T:List Nat}(h:bT oZ s w S l M bw bl bi vc)(K:Kp T oZ aC w w')(H:∀x∈T,x=s+42\/x=s+43\/x<s\/s+45<=x/\x≠s+53)(ls lt:List (Nat×m_))(O:oq aC (s+42) (s+44) w' bw ls)(hl:oq aC (s+43) (s+44) w' bl lt):
  bT aC s w' S l {M with aF:=ls,lost:=lt} bw bl bi vc:=by
 have F:∀x,s<=x->x<s+42->x∉T:=fun x h1 U I=>by have:=H x I;omega
 have c:=h.cells
 exact⟨by rw[K.ext S h.blk.lt,h.ow],h.s0,aO h.blk K (by rw[h.ow];exact F _ (by omega) (by omega)),⟨c.len,c.c0,c.c1,c.c2,c.c3,c.mH,c.gr,c.oh,c.c226,c.c227,c.c228,c.c229,c.kL,c.nC,c.c232,c.c233,c.c234,c.nD,c.c236,c.o9,c.kM,c.o_⟩,
  fun k G=>(h.out k G).kp K (F _ (by omega) (by omega)) (F _ (by omega) (by omega)) (F _ (by omega) (by omega)) (iN.refl l (4+27*k+14) 0) (by omega),
  fun k G=>(h.inn k G).kp K (F _ (by omega) (by omega)) (F _ (by omega) (by omega)) (iN.refl l (18+27*k+13) 0) (by omega),
  h.row.kp K (F _ (by omega) (by omega)),O,hl,h.qu.kp K (fun e=>by have:=H _ e;omega),h.lo,h.li⟩
