import Derived.Test.YtphbledmopchnaaGreatDoorKfa
import Derived.Test.YtphbledmopchnaaGreatDoorKea
open List renaming drop_eq_getElem_cons->mR,getElem?_eq_getElem->nI,drop_of_length_le->tL,take_of_length_le->tT,take_add_one->uj,length_take->wz,not_mem_nil->Bu,append_nil->CK,length_map->DJ,map_append->Gl,mem_cons->Kt
open Nat renaming le_refl->jK
set_option maxHeartbeats 1000000
set_option maxRecDepth 100000
namespace Go.Proofs.YtphbledmopchnaaGreatDoor.Sd
open Go.RowKit Go.Lib Mm Tryz
section
theorem bM.gr{own:Own}{s:Nat}{w w':World}{S:Nat}{l l':List Value}{M:Side}{bw bl bi:Nat}{vc:Value}(h:bM own s w S l M bw bl bi vc)(g:Gn)(q:cu w w' S l l' 221 4)(F:pU l' 221 g):fQ s own w S bw bl bi {M with gr:=g} w':=by
 have c:=h.cells
 have e:∀j,j<221\/225<=j->l'[j]?=l[j]?:=fun j G=>q.win.2 j (by omega)
 refine h.cell 221 4 (by omega) q ⟨q.win.1.trans c.len,by rw[e _ (by omega)];exact c.c0,by rw[e _ (by omega)];exact c.c1,by rw[e _ (by omega)];exact c.c2,by rw[e _ (by omega)];exact c.c3,by rw[e _ (by omega)];exact c.mh,F,
  by rw[e _ (by omega)];exact c.nP,by rw[e _ (by omega)];exact c.c226,by rw[e _ (by omega)];exact c.c227,by rw[e _ (by omega)];exact c.c228,by rw[e _ (by omega)];exact c.c229,by rw[e _ (by omega)];exact c.j6,by rw[e _ (by omega)];exact c.mY,by rw[e _ (by omega)];exact c.c232,by rw[e _ (by omega)];exact c.c233,
  by rw[e _ (by omega)];exact c.c234,by rw[e _ (by omega)];exact c.mZ,by rw[e _ (by omega)];exact c.c236,by rw[e _ (by omega)];exact c.oO,by rw[e _ (by omega)];exact c.j_,by rw[e _ (by omega)];exact c.oP⟩ rfl rfl rfl rfl rfl
theorem bM.igr{own:Own}{s:Nat}{w w':World}{S:Nat}{l l':List Value}{M:Side}{bw bl bi:Nat}{vc:Value}(h:bM own s w S l M bw bl bi vc)(k:Nat)(G:k<8)(g:Gn)(q:cu w w' S l l' (18+27*k) 4)(U:pU l' (18+27*k) g):fQ s own w S bw bl bi (M.bP k {M.inn k with gr:=g}) w':=by
 refine h.bP k G _ ⟨own,l',q.kp h.ow (by simp),q.blk,q.win.mono (jK _) (by omega),?_⟩;obtain⟨vh,O,F,H,I⟩:=h.inn k G;have K:Kp [s] own own w w':=q.kp h.ow (by simp)
 have e:∀j,18+27*k+4<=j->l'[j]?=l[j]?:=fun j V=>q.win.2 j (by omega)
 exact⟨vh,O,⟨U,by rw[e _ (by omega)];exact F.c4,by rw[e _ (by omega)];exact F.c5,by rw[e _ (by omega)];exact F.c6,by rw[e _ (by omega)];exact F.c7,by rw[e _ (by omega)];exact F.c8,by rw[e _ (by omega)];exact F.c9,by rw[e _ (by omega)];exact F.c10,by rw[e _ (by omega)];exact F.c11,by rw[e _ (by omega)];exact F.c12⟩,H.kp K (by simp;omega),I.kp K (by simp;omega)⟩
theorem TF(M:Side):M.free<=aU:=by
 unfold Side.free;generalize M.ins=L
 cases F:L.reverse with
 |nil=>rw[List.reverse_eq_nil_iff.1 F];exact Nat.zero_le _
 |cons a t=>
  have:L=t.reverse++[a]:=by rw[<-List.reverse_reverse L,F,List.reverse_cons]
  rw[this,List.foldl_append];exact Nat.min_le_right _ _
section
variable {own:Own} {s:Nat} {w0:World} {S bw bl bi ab:Nat}
theorem BP(b1:Nat)(h1:Bx own s w0 b1 128 (.pointer (some ⟨S,0,none⟩)))(iw:Side->List (Nat×Nat)->Bool):
  iO own s w0 S bw bl bi ab 253 #[] #[.pointer (some ⟨b1,0,none⟩)] iw fun M left room=>(M.gr.next 5 0 M.free room).map fun x=>(x.1,{M with gr:=x.2},left):=by
 intro own' w M left room K hE hW _ _;obtain⟨l,vc,hS,hA⟩:=hE;obtain⟨W,F⟩:∃W,W=w.alloc (.cells kD.toArray 65):=⟨_,rfl⟩
 have G:Below w.heap.size w W:=by rw[F];exact(Below.refl _ w).alloc (jK _) _
 have V:ak W w.heap.size 65 kD:=by rw[F];exact ak.new w 65 _
 have hsz:w.heap.size<W.heap.size:=by rw[F];simp
 have yO:=hS.loc G
 have H:∀q,Below W.heap.size W (W.drewN q):=fun q=>⟨rfl,rfl,rfl,jK _,fun _ _=>rfl⟩
 have x1:=((h1.kp K).below G).cell
 have HF:Hid (∀q,Calls prog 252 #[.pointer (some ⟨S,0,none⟩)] (W.drewN q) fun e w'=>e=.returned (.int .u64 M.free)/\w'=W.drewN q):=fun q=>Jf _ s S l M bw bl bi vc (W.drewN q) (yO.below (H q)) (fun k=>(hW.inn k).free)
 obtain⟨g,b,h0,U,Z⟩:=xM (M.gr.next 5 0 M.free room) Prod.fst
 have HN:Hid (∀q,Calls prog 254 #[.pointer (some ⟨S,221,none⟩),bJ (iq 5 0 0) (.slice none 0 0),.int .u64 M.free,.int .i64 room] (W.drewN q) fun e w'=>e=.returned (.tuple #[bJ g (.slice none 0 0),.bool b])/\ak w' w.heap.size 65 kD/\Hid (fQ s (loc own' w.heap.size) W S bw bl bi (((M.gr.next 5 0 M.free room).map fun x=>{M with gr:=x.2}).getD M) w')):=fun q=>by
  have hq:=yO.below (H q);refine(Jp S 221 M.gr 5 (.inl rfl) 0 (by omega) M.free room (W.drewN q) l hq.blk hq.cells.gr hW.ga (TF M)).mono ?_;rintro e w' ⟨rfl,l',hO,hg⟩;refine⟨by rw[h0],hO.other (w:=W.drewN q) V (by have:=hS.blk.lt;omega),?_⟩;have Dc:cu W w' S l l' 221 4:=cu.after (W:=W.drewN q) (H q) hO
  cases hX:M.gr.next 5 0 M.free room with
  |none=>
   rw[hX]at hg;exact yO.gr _ Dc hg
  |some x=>
   rw[hX]at hg;exact yO.gr _ Dc hg
 have HR:Hid (∀y,M.gr.next 5 0 M.free room=some y->y.1.ranges=[]):=fun y hy=>by rw[(kX (g':=y.2) hy).1];rfl
 have HE:Hid (∀y O,fQ s (loc own' w.heap.size) W S bw bl bi (((M.gr.next 5 0 M.free room).map fun x=>{M with gr:=x.2}).getD M) y->jD w.heap.size y O->iJ own' s w S bw bl bi ab M left ((M.gr.next 5 0 M.free room).map fun x=>(x.1,{M with gr:=x.2},left)) (.returned (.tuple #[bJ g (.slice none 0 0),.bool b])) O):=fun y O q ht=>
  uh hA hS.s0 G hsz _ (fun o=>{M with gr:=o}) g b U Z HR.out q ht _ rfl
 show Calls prog 253 #[.int .i64 room,.pointer (some ⟨b1,0,none⟩)] w fun e w'=>iJ own' s w S bw bl bi ab M left ((M.gr.next 5 0 M.free room).map fun x=>(x.1,{M with gr:=x.2},left)) e w'
 generalize ((M.gr.next 5 0 M.free room).map fun x=>(x.1,({M with gr:=x.2}:Side),left))=X at *;generalize (((M.gr.next 5 0 M.free room).map fun x=>({M with gr:=x.2}:Side)).getD M)=M' at *;generalize M.free=C at *;clear h0 U Z HR yO hS hA hW h1 K H V G hsz;unfold bJ iq at HN;unfold kD at F;go_enter func253,ntmps253
 go_wp2_with fail
 rw[<-F];clear F
 go_region_with (first|(go_at_call 252;refine(HF.out _).mono ?_;rintro e y ⟨rfl,rfl⟩)|(go_at_call 254;refine(HN.out _).mono ?_;rintro e y ⟨rfl,I,HP⟩;obtain⟨y0,y1,y2,y3,y4,y5,y6,y7,y8,y9,yf⟩:=aA I;have qX:=hid I;clear I))
 all_goals
  clear HN
  go_wp2_with fail
  go_simp;rw[dw];have gU:=bY qX.out (.int .i64 g.kind) (.int .i64 g.stream) (.int .u64 g.offset) (.int .u64 g.reliable) (.int .u64 g.limit) (.bool g.fin) (.int .u64 g.id) (.int .u64 g.deadline) (.string g.data) (.slice none 0 0);have l7:=bZ y w.heap.size (.int .i64 g.kind) (.int .i64 g.stream) (.int .u64 g.offset) (.int .u64 g.reliable) (.int .u64 g.limit) (.bool g.fin) (.int .u64 g.id) (.int .u64 g.deadline) (.string g.data) (.slice none 0 0);generalize gZ y w.heap.size (.int .i64 g.kind) (.int .i64 g.stream) (.int .u64 g.offset) (.int .u64 g.reliable) (.int .u64 g.limit) (.bool g.fin) (.int .u64 g.id) (.int .u64 g.deadline) (.string g.data) (.slice none 0 0)=O at *;obtain⟨a0,a1,a2,a3,a4,a5,a6,a7,a8,a9,_⟩:=aA gU;exact bodyPost_ret (v:=.tuple #[bJ g (.slice none 0 0),.bool b]) (by simp[results,results253,go_sem,a0,a1,a2,a3,a4,a5,a6,a7,a8,a9,bJ]) rfl (HE.out y O HP.out l7)
theorem xO(k:Nat)(hk:k<8)(b1 b2:Nat)(h1:Bx own s w0 b1 333 (.pointer (some ⟨S,18+27*k,none⟩)))(h2:Bx own s w0 b2 3 (.int .i64 k))(iw:Side->List (Nat×Nat)->Bool):
  iO own s w0 S bw bl bi ab 256 #[] #[.pointer (some ⟨b1,0,none⟩),.pointer (some ⟨b2,0,none⟩)] iw fun M left room=>((M.inn k).gr.next 6 k (M.inn k).free room).map fun x=>(x.1,M.bP k {M.inn k with gr:=x.2},left):=by
 intro own' w M left room K hE hW _ _;obtain⟨l,vc,hS,hA⟩:=hE;obtain⟨W,F⟩:∃W,W=w.alloc (.cells kD.toArray 65):=⟨_,rfl⟩
 have G:Below w.heap.size w W:=by rw[F];exact(Below.refl _ w).alloc (jK _) _
 have U:ak W w.heap.size 65 kD:=by rw[F];exact ak.new w 65 _
 have hsz:w.heap.size<W.heap.size:=by rw[F];simp
 have yO:=hS.loc G
 have h0:∀q,Below W.heap.size W (W.drewN q):=fun q=>⟨rfl,rfl,rfl,jK _,fun _ _=>rfl⟩
 have x1:=((h1.kp K).below G).cell;have x2:=((h2.kp K).below G).cell;obtain⟨g,b,Z,O,V⟩:=xM ((M.inn k).gr.next 6 k (M.inn k).free room) Prod.fst
 have HN:Hid (Calls prog 257 #[.pointer (some ⟨S,18+27*k,none⟩),.int .i64 k,.int .i64 room] W fun e w'=>e=.returned (.tuple #[bJ g (.slice none 0 0),.bool b])/\ak w' w.heap.size 65 kD/\Hid (fQ s (loc own' w.heap.size) W S bw bl bi ((((M.inn k).gr.next 6 k (M.inn k).free room).map fun x=>M.bP k {M.inn k with gr:=x.2}).getD M) w')):=by
  obtain⟨vh,gF,hL,_⟩:=yO.inn k hk;refine(BL S (18+27*k) (M.inn k) vh gF k hk room W l yO.blk hL (hW.inn k)).mono ?_;rintro e w' ⟨rfl,l',hO,hg⟩;refine⟨by rw[Z],hO.other U (by have:=hS.blk.lt;omega),?_⟩
  cases hX:(M.inn k).gr.next 6 k (M.inn k).free room with
  |none=>
   rw[hX]at hg;have:=yO.igr k hk _ hO hg;rw[show({M.inn k with gr:=((Option.map Prod.snd (none:Option (Fr×Gn))).getD (M.inn k).gr)}:bI)=M.inn k from rfl,LD]at this;exact this
  |some x=>
   rw[hX]at hg;exact yO.igr k hk _ hO hg
 have HR:Hid (∀y,(M.inn k).gr.next 6 k (M.inn k).free room=some y->y.1.ranges=[]):=fun y hy=>by rw[(kX (g':=y.2) hy).1];rfl
 have HE:Hid (∀y I,fQ s (loc own' w.heap.size) W S bw bl bi ((((M.inn k).gr.next 6 k (M.inn k).free room).map fun x=>M.bP k {M.inn k with gr:=x.2}).getD M) y->jD w.heap.size y I->iJ own' s w S bw bl bi ab M left (((M.inn k).gr.next 6 k (M.inn k).free room).map fun x=>(x.1,M.bP k {M.inn k with gr:=x.2},left)) (.returned (.tuple #[bJ g (.slice none 0 0),.bool b])) I):=fun y I q ht=>
  uh hA hS.s0 G hsz _ (fun o=>M.bP k {M.inn k with gr:=o}) g b O V HR.out q ht _ rfl
 show Calls prog 256 #[.int .i64 room,.pointer (some ⟨b1,0,none⟩),.pointer (some ⟨b2,0,none⟩)] w fun e w'=>iJ own' s w S bw bl bi ab M left (((M.inn k).gr.next 6 k (M.inn k).free room).map fun x=>(x.1,M.bP k {M.inn k with gr:=x.2},left)) e w'
 generalize (((M.inn k).gr.next 6 k (M.inn k).free room).map fun x=>(x.1,M.bP k ({M.inn k with gr:=x.2}:bI),left))=X at *;generalize ((((M.inn k).gr.next 6 k (M.inn k).free room).map fun x=>M.bP k ({M.inn k with gr:=x.2}:bI)).getD M)=M' at *;clear Z O V HR yO hS hA hW h1 h2 K h0 U G hsz;unfold bJ at HN;unfold kD at F;subst F;go_enter func256,ntmps256
 go_wp2_with (first
  |(go_at_call 257;refine HN.out.mono ?_;rintro e y ⟨rfl,H,HP⟩;obtain⟨y0,y1,y2,y3,y4,y5,y6,y7,y8,y9,yf⟩:=aA H;have qX:=hid H;clear H)
  |go_in)
 all_goals
  clear HN;rw[dw];have gU:=bY qX.out (.int .i64 g.kind) (.int .i64 g.stream) (.int .u64 g.offset) (.int .u64 g.reliable) (.int .u64 g.limit) (.bool g.fin) (.int .u64 g.id) (.int .u64 g.deadline) (.string g.data) (.slice none 0 0);have l7:=bZ y w.heap.size (.int .i64 g.kind) (.int .i64 g.stream) (.int .u64 g.offset) (.int .u64 g.reliable) (.int .u64 g.limit) (.bool g.fin) (.int .u64 g.id) (.int .u64 g.deadline) (.string g.data) (.slice none 0 0);generalize gZ y w.heap.size (.int .i64 g.kind) (.int .i64 g.stream) (.int .u64 g.offset) (.int .u64 g.reliable) (.int .u64 g.limit) (.bool g.fin) (.int .u64 g.id) (.int .u64 g.deadline) (.string g.data) (.slice none 0 0)=I at *;obtain⟨a0,a1,a2,a3,a4,a5,a6,a7,a8,a9,_⟩:=aA gU;exact bodyPost_ret (v:=.tuple #[bJ g (.slice none 0 0),.bool b]) (by simp[results,results256,go_sem,a0,a1,a2,a3,a4,a5,a6,a7,a8,a9,bJ]) rfl (HE.out y I HP.out l7)
end

end
theorem tZ(b:Nat)(w:World):
  Calls prog 197 #[.map (some b)] w fun e w'=>e=.returned (.func (.func 243) #[] #[.pointer (some ⟨w.heap.size,0,none⟩)])/\w'=w.alloc (.cells #[.map (some b)] 203):=by
 have F:∀(fn:Fn) (first cap:Array Value) (w:World),(Instr.makeFunc fn first cap).run prog w=.ok (.func fn first cap) w:=fun _ _ _ _=>rfl
 go_enter func197,ntmps197;go_wp2;go_ret;exact⟨rfl,rfl⟩
theorem Lf(S o:Nat)(w:World):(method 518 282 (.pointer (some ⟨S,o,none⟩)) "Lose").run prog w=.ok (392,.pointer (some ⟨S,o,none⟩)) w:=by kernel_rfl
theorem Lg(S o:Nat)(w:World):(method 518 282 (.pointer (some ⟨S,o,none⟩)) "Away").run prog w=.ok (319,.pointer (some ⟨S,o,none⟩)) w:=by kernel_rfl
theorem Lh(S o:Nat)(w:World):(method 518 282 (.pointer (some ⟨S,o,none⟩)) "Came").run prog w=.ok (391,.pointer (some ⟨S,o,none⟩)) w:=by kernel_rfl
theorem Li(S o:Nat)(w:World):(method 518 335 (.pointer (some ⟨S,o,none⟩)) "Lose").run prog w=.ok (395,.pointer (some ⟨S,o,none⟩)) w:=by kernel_rfl
theorem Lj(S o:Nat)(w:World):(method 518 335 (.pointer (some ⟨S,o,none⟩)) "Away").run prog w=.ok (342,.pointer (some ⟨S,o,none⟩)) w:=by kernel_rfl
theorem Ll(S o:Nat)(w:World):(method 518 335 (.pointer (some ⟨S,o,none⟩)) "Came").run prog w=.ok (394,.pointer (some ⟨S,o,none⟩)) w:=by kernel_rfl
theorem Lm(S o:Nat)(w:World):(method 518 336 (.pointer (some ⟨S,o,none⟩)) "Lose").run prog w=.ok (397,.pointer (some ⟨S,o,none⟩)) w:=by kernel_rfl
theorem Lr(S o:Nat)(w:World):(method 518 336 (.pointer (some ⟨S,o,none⟩)) "Away").run prog w=.ok (311,.pointer (some ⟨S,o,none⟩)) w:=by kernel_rfl
theorem Ls(S o:Nat)(w:World):(method 518 336 (.pointer (some ⟨S,o,none⟩)) "Came").run prog w=.ok (396,.pointer (some ⟨S,o,none⟩)) w:=by kernel_rfl
section
theorem bM.ont{own:Own}{s:Nat}{w w':World}{S:Nat}{l l':List Value}{M:Side}{bw bl bi:Nat}{vc:Value}(h:bM own s w S l M bw bl bi vc)(k:Nat)(G:k<8)(g:Nt)(q:cu w w' S l l' (6+27*k) 4)(V:yV l' (6+27*k) g):fQ s own w S bw bl bi (M.aW k {M.out k with nt:=g}) w':=by
 refine h.aW k G _ ⟨own,l',q.kp h.ow (by simp),q.blk,q.win.mono (by omega) (by omega),?_⟩;obtain⟨vb,va,U,F,H,I,O⟩:=h.out k G;have K:Kp [s] own own w w':=q.kp h.ow (by simp)
 have e:∀j,j<6+27*k\/6+27*k+4<=j->l'[j]?=l[j]?:=fun j X=>q.win.2 j (by omega)
 exact⟨vb,va,U,⟨by rw[e _ (by omega)];exact F.c0,by rw[e _ (by omega)];exact F.c1,by rw[show 4+27*k+2=6+27*k by omega];exact V,by rw[e _ (by omega)];exact F.c6,by rw[e _ (by omega)];exact F.c7,by rw[e _ (by omega)];exact F.c8,by rw[e _ (by omega)];exact F.c9,by rw[e _ (by omega)];exact F.c10,by rw[e _ (by omega)];exact F.c11,by rw[e _ (by omega)];exact F.c12,by rw[e _ (by omega)];exact F.c13⟩,H.kp K (by simp;omega),I.kp K (by simp;omega),O.kp K (by simp;omega)⟩
section
variable {own:Own} {s:Nat} {S:Nat} {l:List Value} {M:Side} {bw bl bi:Nat} {vc:Value}
theorem bM.ntL{w:World}(h:bM own s w S l M bw bl bi vc)(k:Nat)(G:k<8):yV l (6+27*k) (M.out k).nt:=by
 obtain⟨vb,va,H,F,_⟩:=h.out k G;have:=F.nt;rwa[show 4+27*k+2=6+27*k by omega]at this
theorem bM.inL{w:World}(h:bM own s w S l M bw bl bi vc)(k:Nat)(G:k<8):pU l (18+27*k) (M.inn k).gr:=by
 obtain⟨vh,H,F,_⟩:=h.inn k G;exact F.gr
theorem O4(w:World)(h:bM own s w S l M bw bl bi vc):Calls prog 397 #[.pointer (some ⟨S,221,none⟩)] w fun e w'=>e=.returned (.tuple #[])/\fQ s own w S bw bl bi {M with gr:=M.gr.lose} w':=
 (IZ S 221 M.gr w l h.blk h.cells.gr).mono fun _ _ ⟨F,_,q,G⟩=>⟨F,h.gr _ q G⟩
theorem O5(w:World)(h:bM own s w S l M bw bl bi vc)(k:Nat)(F:k<8):Calls prog 397 #[.pointer (some ⟨S,18+27*k,none⟩)] w fun e w'=>e=.returned (.tuple #[])/\fQ s own w S bw bl bi (M.bP k (fA (M.inn k))) w':=
 (IZ S (18+27*k) (M.inn k).gr w l h.blk (h.inL k F)).mono fun _ _ ⟨G,_,q,H⟩=>⟨G,h.igr k F _ q H⟩
theorem O6(w:World)(h:bM own s w S l M bw bl bi vc)(k:Nat)(F:k<8):Calls prog 395 #[.pointer (some ⟨S,6+27*k,none⟩)] w fun e w'=>e=.returned (.tuple #[])/\fQ s own w S bw bl bi (M.aW k {M.out k with nt:=(M.out k).nt.lose}) w':=
 (Tk S (6+27*k) (M.out k).nt w l h.blk (h.ntL k F)).mono fun _ _ ⟨G,_,q,H⟩=>⟨G,h.ont k F _ q H⟩
theorem O7(w:World)(h:bM own s w S l M bw bl bi vc)(k:Nat)(F:k<8)(G:(M.out k).came.rs.length<=1000000):Calls prog 392 #[.pointer (some ⟨S,4+27*k,none⟩)] w fun e w'=>e=.returned (.tuple #[])/\fQ s own w S bw bl bi (M.aW k (M.out k).lose) w':=
 (Tw s (s+1+5*k) own S (4+27*k) (M.out k) l w h.blk h.ow (by omega) (h.out k F) G).mono fun _ _ ⟨H,q⟩=>⟨H,h.aW k F _ q⟩
end

end
section
def MV(kd:Int):Nat:=if kd=4 then 282 else if kd=3 then 335 else 336
def yP(S k:Nat)(kd:Int):Value:=.pointer (some ⟨S,if kd=4 then 4+27*k else if kd=3 then 6+27*k else if kd=6 then 18+27*k else 221,none⟩)
def rU(kd:Int):Nat:=if kd=4 then 319 else if kd=3 then 342 else 311
def mP(kd:Int):Nat:=if kd=4 then 391 else if kd=3 then 394 else 396
theorem GX(S k:Nat)(kd:Int):OV S k kd=.iface (MV kd) (yP S k kd):=by
 unfold OV MV yP
 by_cases G:kd=4
 ·simp[G]
 ·by_cases F:kd=3
  ·simp[F]
  ·by_cases H:kd=6
   ·simp[H]
   ·simp[G,F,H]
theorem TG(S k:Nat)(kd:Int)(w:World):(method 518 (MV kd) (yP S k kd) "Away").run prog w=.ok (rU kd,yP S k kd) w:=by
 unfold MV yP rU
 by_cases G:kd=4
 ·simp only[G,if_true];exact Lg _ _ _
 ·by_cases F:kd=3
  ·simp only[F,if_true];exact Lj _ _ _
  ·simp only[G,F,if_false];exact Lr _ _ _
theorem Js(S k:Nat)(kd:Int)(w:World):(method 518 (MV kd) (yP S k kd) "Came").run prog w=.ok (mP kd,yP S k kd) w:=by
 unfold MV yP mP
 by_cases G:kd=4
 ·simp only[G,if_true];exact Lh _ _ _
 ·by_cases F:kd=3
  ·simp only[F,if_true];exact Ll _ _ _
  ·simp only[G,F,if_false];exact Ls _ _ _
section
variable {own:Own} {s:Nat} {S:Nat} {l:List Value} {M:Side} {bw bl bi:Nat} {vc:Value}
end

end
section
def T1(s:Nat):List Nat:=List.range' s 41
theorem qx{s x:Nat}:x∈T1 s↔s<=x/\x<s+41:=by
 unfold T1;rw[List.mem_range'];constructor
 ·rintro⟨i,h,rfl⟩;omega
 ·rintro⟨h1,F⟩;exact⟨x-s,by omega,by omega⟩
theorem O8{s x:Nat}(h:x∈T1 s):x∈T0 s:=bG.2 (by have:=qx.1 h;omega)
def Fu(s:Nat)(own:Own)(w:World)(S:Nat)(bw bl bi:Nat)(M':Side)(w':World):Prop:=∃own' l' F,bM own' s w' S l' M' bw bl bi F/\Kp (T1 s) own own' w w'
theorem bM.O9{own:Own}{s:Nat}{w w':World}{S:Nat}{l:List Value}{M:Side}{bw bl bi:Nat}{vc:Value}(h:bM own s w S l M bw bl bi vc)(k:Nat)(U:k<8)(m:Ot)(q:gP s (s+1+5*k) own S (4+27*k) l w m w'):Fu s own w S bw bl bi (M.aW k m) w':=by
 obtain⟨own',l',K,hB,wi,O⟩:=q
 have F:∀x,x∈[s,s+1+5*k,s+1+5*k+1,s+1+5*k+1+1]->x=s\/(s+1+5*k<=x/\x<=s+3+5*k):=fun x I=>by
  simp only[Kt,Bu,or_false]at I;omega
 have V:∀j,(M.aW k m).out j=if j=k then m else M.out j:=fun j=>by
  rw[gL,h.lo]
  by_cases G:j=k
  ·rw[if_pos ⟨G,U⟩,if_pos G]
  ·rw[if_neg (fun x=>G x.1),if_neg G]
 refine⟨own',l',vc,⟨by rw[K.ext S h.blk.lt,h.ow],h.s0,hB,?_,fun j G=>?_,fun j G=>?_,h.row.kp K (fun e=>by have:=F _ e;omega),h.way.kp K (fun e=>by have:=F _ e;omega) (fun e=>by have:=F _ e;omega),h.lost.kp K (fun e=>by have:=F _ e;omega) (fun e=>by have:=F _ e;omega),(fu _ _ _).trans h.lo,h.li⟩,K.mono fun x I=>qx.2 (by have:=F x I;omega)⟩
 ·have c:=h.cells.win wi (by omega) (by omega);exact⟨c.len,c.c0,c.c1,c.c2,c.c3,c.mh,c.gr,c.nP,c.c226,c.c227,c.c228,c.c229,c.j6,c.mY,c.c232,c.c233,c.c234,c.mZ,c.c236,c.oO,c.j_,c.oP⟩
 ·rw[V]
  by_cases H:j=k
  ·subst H;rw[if_pos rfl];exact O
  ·rw[if_neg H];exact(h.out j G).kp K (fun e=>by have:=F _ e;omega) (fun e=>by have:=F _ e;omega) (fun e=>by have:=F _ e;omega) wi (by omega)
 ·exact(h.inn j G).kp K (fun e=>by have:=F _ e;omega) (fun e=>by have:=F _ e;omega) wi (by omega)
theorem bM.X5{own:Own}{s:Nat}{w w':World}{S:Nat}{l:List Value}{M:Side}{bw bl bi:Nat}{vc:Value}(h:bM own s w S l M bw bl bi vc)(k:Nat)(U:k<8)(m:bI)(q:NR s (s+4+5*k) own S (18+27*k) l w m w'):Fu s own w S bw bl bi (M.bP k m) w':=by
 obtain⟨own',l',K,hB,wi,O⟩:=q
 have F:∀x,x∈[s,s+4+5*k,s+4+5*k+1]->x=s\/(s+4+5*k<=x/\x<=s+5+5*k):=fun x I=>by
  simp only[Kt,Bu,or_false]at I;omega
 have V:∀j,(M.bP k m).inn j=if j=k then m else M.inn j:=fun j=>by
  rw[fM,h.li]
  by_cases G:j=k
  ·rw[if_pos ⟨G,U⟩,if_pos G]
  ·rw[if_neg (fun x=>G x.1),if_neg G]
 refine⟨own',l',vc,⟨by rw[K.ext S h.blk.lt,h.ow],h.s0,hB,?_,fun j G=>?_,fun j G=>?_,h.row.kp K (fun e=>by have:=F _ e;omega),h.way.kp K (fun e=>by have:=F _ e;omega) (fun e=>by have:=F _ e;omega),h.lost.kp K (fun e=>by have:=F _ e;omega) (fun e=>by have:=F _ e;omega),h.lo,(fu _ _ _).trans h.li⟩,K.mono fun x I=>qx.2 (by have:=F x I;omega)⟩
 ·have c:=h.cells.win wi (by omega) (by omega);exact⟨c.len,c.c0,c.c1,c.c2,c.c3,c.mh,c.gr,c.nP,c.c226,c.c227,c.c228,c.c229,c.j6,c.mY,c.c232,c.c233,c.c234,c.mZ,c.c236,c.oO,c.j_,c.oP⟩
 ·exact(h.out j G).kp K (fun e=>by have:=F _ e;omega) (fun e=>by have:=F _ e;omega) (fun e=>by have:=F _ e;omega) wi (by omega)
 ·rw[V]
  by_cases H:j=k
  ·subst H;rw[if_pos rfl];exact O
  ·rw[if_neg H];exact(h.inn j G).kp K (fun e=>by have:=F _ e;omega) (fun e=>by have:=F _ e;omega) wi (by omega)
theorem bM.cell1{own:Own}{s:Nat}{w w':World}{S:Nat}{l l':List Value}{M M':Side}{bw bl bi:Nat}{vc:Value}(h:bM own s w S l M bw bl bi vc)(o n:Nat)(ho:o+n<=4\/220<=o)(q:cu w w' S l l' o n)(hc:Vg l' M' bw bl bi vc)(I:M'.outs=M.outs)(O:M'.ins=M.ins)(U:M'.came=M.came)(V:M'.ay=M.ay)(X:M'.lost=M.lost):Fu s own w S bw bl bi M' w':=by
 have K:Kp [s] own own w w':=q.kp h.ow (by simp)
 have F:∀x,x∈[s]->x=s:=fun x H=>by simpa using H
 have eo:∀j,M'.out j=M.out j:=fun j=>by unfold Side.out;rw[I]
 have Z:∀j,M'.inn j=M.inn j:=fun j=>by unfold Side.inn;rw[O]
 refine⟨own,l',vc,⟨h.ow,h.s0,q.blk,hc,fun j G=>?_,fun j G=>?_,?_,?_,?_,by rw[I];exact h.lo,by rw[O];exact h.li⟩,K.mono fun x H=>qx.2 (by have:=F x H;omega)⟩
 ·rw[eo];exact(h.out j G).kp K (fun e=>by have:=F _ e;omega) (fun e=>by have:=F _ e;omega) (fun e=>by have:=F _ e;omega) q.win (by omega)
 ·rw[Z];exact(h.inn j G).kp K (fun e=>by have:=F _ e;omega) (fun e=>by have:=F _ e;omega) q.win (by omega)
 ·rw[U];exact h.row.kp K (fun e=>by have:=F _ e;omega)
 ·rw[V];exact h.way.kp K (fun e=>by have:=F _ e;omega) (fun e=>by have:=F _ e;omega)
 ·rw[X];exact h.lost.kp K (fun e=>by have:=F _ e;omega) (fun e=>by have:=F _ e;omega)
theorem bM.gr1{own:Own}{s:Nat}{w w':World}{S:Nat}{l l':List Value}{M:Side}{bw bl bi:Nat}{vc:Value}(h:bM own s w S l M bw bl bi vc)(g:Gn)(q:cu w w' S l l' 221 4)(F:pU l' 221 g):Fu s own w S bw bl bi {M with gr:=g} w':=by
 have c:=h.cells
 have e:∀j,j<221\/225<=j->l'[j]?=l[j]?:=fun j G=>q.win.2 j (by omega)
 refine h.cell1 221 4 (by omega) q ⟨q.win.1.trans c.len,by rw[e _ (by omega)];exact c.c0,by rw[e _ (by omega)];exact c.c1,by rw[e _ (by omega)];exact c.c2,by rw[e _ (by omega)];exact c.c3,by rw[e _ (by omega)];exact c.mh,F,
  by rw[e _ (by omega)];exact c.nP,by rw[e _ (by omega)];exact c.c226,by rw[e _ (by omega)];exact c.c227,by rw[e _ (by omega)];exact c.c228,by rw[e _ (by omega)];exact c.c229,by rw[e _ (by omega)];exact c.j6,by rw[e _ (by omega)];exact c.mY,by rw[e _ (by omega)];exact c.c232,by rw[e _ (by omega)];exact c.c233,
  by rw[e _ (by omega)];exact c.c234,by rw[e _ (by omega)];exact c.mZ,by rw[e _ (by omega)];exact c.c236,by rw[e _ (by omega)];exact c.oO,by rw[e _ (by omega)];exact c.j_,by rw[e _ (by omega)];exact c.oP⟩ rfl rfl rfl rfl rfl
theorem bM.X6{own:Own}{s:Nat}{w w':World}{S:Nat}{l l':List Value}{M:Side}{bw bl bi:Nat}{vc:Value}(h:bM own s w S l M bw bl bi vc)(k:Nat)(G:k<8)(g:Gn)(q:cu w w' S l l' (18+27*k) 4)(U:pU l' (18+27*k) g):Fu s own w S bw bl bi (M.bP k {M.inn k with gr:=g}) w':=by
 refine h.X5 k G _ ⟨own,l',q.kp h.ow (by simp),q.blk,q.win.mono (jK _) (by omega),?_⟩;obtain⟨vh,O,F,H,I⟩:=h.inn k G;have K:Kp [s] own own w w':=q.kp h.ow (by simp)
 have e:∀j,18+27*k+4<=j->l'[j]?=l[j]?:=fun j V=>q.win.2 j (by omega)
 exact⟨vh,O,⟨U,by rw[e _ (by omega)];exact F.c4,by rw[e _ (by omega)];exact F.c5,by rw[e _ (by omega)];exact F.c6,by rw[e _ (by omega)];exact F.c7,by rw[e _ (by omega)];exact F.c8,by rw[e _ (by omega)];exact F.c9,by rw[e _ (by omega)];exact F.c10,by rw[e _ (by omega)];exact F.c11,by rw[e _ (by omega)];exact F.c12⟩,H.kp K (by simp;omega),I.kp K (by simp;omega)⟩
theorem bM.X7{own:Own}{s:Nat}{w w':World}{S:Nat}{l l':List Value}{M:Side}{bw bl bi:Nat}{vc:Value}(h:bM own s w S l M bw bl bi vc)(k:Nat)(G:k<8)(g:Nt)(q:cu w w' S l l' (6+27*k) 4)(V:yV l' (6+27*k) g):Fu s own w S bw bl bi (M.aW k {M.out k with nt:=g}) w':=by
 refine h.O9 k G _ ⟨own,l',q.kp h.ow (by simp),q.blk,q.win.mono (by omega) (by omega),?_⟩;obtain⟨vb,va,U,F,H,I,O⟩:=h.out k G;have K:Kp [s] own own w w':=q.kp h.ow (by simp)
 have e:∀j,j<6+27*k\/6+27*k+4<=j->l'[j]?=l[j]?:=fun j X=>q.win.2 j (by omega)
 exact⟨vb,va,U,⟨by rw[e _ (by omega)];exact F.c0,by rw[e _ (by omega)];exact F.c1,by rw[show 4+27*k+2=6+27*k by omega];exact V,by rw[e _ (by omega)];exact F.c6,by rw[e _ (by omega)];exact F.c7,by rw[e _ (by omega)];exact F.c8,by rw[e _ (by omega)];exact F.c9,by rw[e _ (by omega)];exact F.c10,by rw[e _ (by omega)];exact F.c11,by rw[e _ (by omega)];exact F.c12,by rw[e _ (by omega)];exact F.c13⟩,H.kp K (by simp;omega),I.kp K (by simp;omega),O.kp K (by simp;omega)⟩
section
variable {own:Own} {s:Nat} {S:Nat} {l:List Value} {M:Side} {bw bl bi:Nat} {vc:Value}
theorem LH(w:World)(h:bM own s w S l M bw bl bi vc)(f:Fr)(rv:Value):Calls prog 311 #[.pointer (some ⟨S,221,none⟩),bJ f rv] w fun e w'=>e=.returned (.tuple #[])/\Fu s own w S bw bl bi {M with gr:=M.gr.aw f.limit} w':=
 (A_ S 221 M.gr f rv w l h.blk h.cells.gr).mono fun _ _ ⟨F,_,q,G⟩=>⟨F,h.gr1 _ q G⟩
theorem LJ(w:World)(h:bM own s w S l M bw bl bi vc)(k:Nat)(F:k<8)(f:Fr)(rv:Value):Calls prog 311 #[.pointer (some ⟨S,18+27*k,none⟩),bJ f rv] w fun e w'=>e=.returned (.tuple #[])/\Fu s own w S bw bl bi (M.bP k {M.inn k with gr:=(M.inn k).gr.aw f.limit}) w':=
 (A_ S (18+27*k) (M.inn k).gr f rv w l h.blk (h.inL k F)).mono fun _ _ ⟨G,_,q,H⟩=>⟨G,h.X6 k F _ q H⟩
theorem LK(w:World)(h:bM own s w S l M bw bl bi vc)(k:Nat)(F:k<8)(f:Fr)(rv:Value):Calls prog 342 #[.pointer (some ⟨S,6+27*k,none⟩),bJ f rv] w fun e w'=>e=.returned (.tuple #[])/\Fu s own w S bw bl bi (M.aW k {M.out k with nt:=(M.out k).nt.aw f.reliable}) w':=
 (Tp S (6+27*k) (M.out k).nt f rv w l h.blk (h.ntL k F)).mono fun _ _ ⟨G,_,q,H⟩=>⟨G,h.X7 k F _ q H⟩
theorem LM(w:World)(h:bM own s w S l M bw bl bi vc)(k:Nat)(G:k<8)(f:Fr)(rv:Value)(F:tq (M.out k).away)(I:pW f):Calls prog 319 #[.pointer (some ⟨S,4+27*k,none⟩),bJ f rv] w fun e w'=>e=.returned (.tuple #[])/\Fu s own w S bw bl bi (M.aW k ((M.out k).aw f)) w':=
 (vK s (s+1+5*k) own S (4+27*k) (M.out k) f rv l w h.blk h.ow (by omega) (h.out k G) F I).mono fun _ _ ⟨H,q⟩=>⟨H,h.O9 k G _ q⟩
theorem LP(w:World)(h:bM own s w S l M bw bl bi vc)(f:Fr)(rv:Value):Calls prog 396 #[.pointer (some ⟨S,221,none⟩),bJ f rv] w fun e w'=>e=.returned (.tuple #[])/\Fu s own w S bw bl bi {M with gr:=M.gr.cm f.limit} w':=
 (I4 S 221 M.gr f rv w l h.blk h.cells.gr).mono fun _ _ ⟨F,_,q,G⟩=>⟨F,h.gr1 _ q G⟩
theorem LQ(w:World)(h:bM own s w S l M bw bl bi vc)(k:Nat)(F:k<8)(f:Fr)(rv:Value):Calls prog 396 #[.pointer (some ⟨S,18+27*k,none⟩),bJ f rv] w fun e w'=>e=.returned (.tuple #[])/\Fu s own w S bw bl bi (M.bP k {M.inn k with gr:=(M.inn k).gr.cm f.limit}) w':=
 (I4 S (18+27*k) (M.inn k).gr f rv w l h.blk (h.inL k F)).mono fun _ _ ⟨G,_,q,H⟩=>⟨G,h.X6 k F _ q H⟩
theorem LU(w:World)(h:bM own s w S l M bw bl bi vc)(k:Nat)(F:k<8)(f:Fr)(rv:Value):Calls prog 394 #[.pointer (some ⟨S,6+27*k,none⟩),bJ f rv] w fun e w'=>e=.returned (.tuple #[])/\Fu s own w S bw bl bi (M.aW k {M.out k with nt:=(M.out k).nt.cm f.reliable}) w':=
 (Tt S (6+27*k) (M.out k).nt f rv w l h.blk (h.ntL k F)).mono fun _ _ ⟨G,_,q,H⟩=>⟨G,h.X7 k F _ q H⟩
theorem LV(w:World)(h:bM own s w S l M bw bl bi vc)(k:Nat)(H:k<8)(f:Fr)(rv:Value)(G:tq (M.out k).away)(F:tq (M.out k).came)(O:pW f):Calls prog 391 #[.pointer (some ⟨S,4+27*k,none⟩),bJ f rv] w fun e w'=>e=.returned (.tuple #[])/\Fu s own w S bw bl bi (M.aW k ((M.out k).cm f)) w':=
 (R7 s (s+1+5*k) own S (4+27*k) (M.out k) f rv l w h.blk h.ow (by omega) h.s0 (h.out k H) G F O).mono fun _ _ ⟨I,q⟩=>⟨I,h.O9 k H _ q⟩
theorem O_(w:World)(h:bM own s w S l M bw bl bi vc)(f:Fr)(k:Nat)(I:k<8)(hs:f.stream=(k:Int))(rv:Value)(O:f.kind=4->tq (M.out k).away/\pW f):
  Calls prog (rU f.kind) #[yP S k f.kind,bJ f rv] w fun e w'=>e=.returned (.tuple #[])/\Fu s own w S bw bl bi (M.fD f) w':=by
 have U:f.stream.toNat=k:=by omega
 unfold Side.fD rU yP;rw[U]
 by_cases F:f.kind=4
 ·rw[if_pos F,if_pos F,if_pos F];exact LM w h k I f rv (O F).1 (O F).2
 ·rw[if_neg F,if_neg F,if_neg F]
  by_cases G:f.kind=3
  ·rw[if_pos G,if_pos G,if_pos G];exact LK w h k I f rv
  ·rw[if_neg G,if_neg G,if_neg G]
   by_cases H:f.kind=6
   ·rw[if_pos H,if_pos H];exact LJ w h k I f rv
   ·rw[if_neg H,if_neg H];exact LH w h f rv
theorem Pb(w:World)(h:bM own s w S l M bw bl bi vc)(f:Fr)(k:Nat)(I:k<8)(hs:f.stream=(k:Int))(rv:Value)(O:f.kind=4->tq (M.out k).away/\tq (M.out k).came/\pW f):
  Calls prog (mP f.kind) #[yP S k f.kind,bJ f rv] w fun e w'=>e=.returned (.tuple #[])/\Fu s own w S bw bl bi (M.bookC f) w':=by
 have U:f.stream.toNat=k:=by omega
 unfold Side.bookC mP yP;rw[U]
 by_cases F:f.kind=4
 ·rw[if_pos F,if_pos F,if_pos F];exact LV w h k I f rv (O F).1 (O F).2.1 (O F).2.2
 ·rw[if_neg F,if_neg F,if_neg F]
  by_cases G:f.kind=3
  ·rw[if_pos G,if_pos G,if_pos G];exact LU w h k I f rv
  ·rw[if_neg G,if_neg G,if_neg G]
   by_cases H:f.kind=6
   ·rw[if_pos H,if_pos H];exact LQ w h k I f rv
   ·rw[if_neg H,if_neg H];exact LP w h f rv
end

end
end Go.Proofs.YtphbledmopchnaaGreatDoor.Sd
namespace Go.Proofs.YtphbledmopchnaaGreatDoor.Sd
open Go.RowKit Go.Lib Mm St Tryz
def Side.kE(M:Side)(j:Nat):Side:=
 if j=0 then{M with gr:=M.gr.lose}else if j % 3=1 then M.aW (j / 3) (M.out (j / 3)).lose else if j % 3=2 then M.aW (j / 3) {M.out (j / 3)with nt:=(M.out (j / 3)).nt.lose}else M.bP (j / 3-1) (fA (M.inn (j / 3-1)))
def Side.nX(M:Side):Nat->Side
 |0=>M
 |n+1=>(M.nX n).kE n
theorem Pe{α:Type}(f:α->α):∀(A:List α) (a:α) (B:List α),md (A++a::B) A.length f=A++f a::B
 |[],_,_=>rfl
 |x::A,a,B=>congrArg (x::·) (Pe f A a B)
theorem getD_at{α:Type}(d:α):∀(A:List α) (a:α) (B:List α),(A++a::B).getD A.length d=a
 |[],_,_=>rfl
 |_::A,a,B=>getD_at d A a B
theorem Ea(M:Side)(O:M.outs.length=8)(hi:M.ins.length=8):∀k,k<=8->M.nX (1+3*k)={M with gr:=M.gr.lose,outs:=(M.outs.take k).map gD++M.outs.drop k,ins:=(M.ins.take k).map fA++M.ins.drop k}
 |0,_=>rfl
 |k+1,h=>by
  have G:k<M.outs.length:=by omega
  have F:k<M.ins.length:=by omega
  have H:M.outs.drop k=M.outs[k]::M.outs.drop (k+1):=mR G;have I:M.ins.drop k=M.ins[k]::M.ins.drop (k+1):=mR F
  have l1:((M.outs.take k).map gD).length=k:=by rw[DJ,wz];omega
  have l2:((M.ins.take k).map fA).length=k:=by rw[DJ,wz];omega
  have t1:(M.outs.take (k+1)).map gD=(M.outs.take k).map gD++[gD M.outs[k]]:=by rw[uj,nI G,Gl];rfl
  have t2:(M.ins.take (k+1)).map fA=(M.ins.take k).map fA++[fA M.ins[k]]:=by rw[uj,nI F,Gl];rfl
  show(((M.nX (1+3*k)).kE (1+3*k)).kE (1+3*k+1)).kE (1+3*k+1+1)=_;rw[Ea M O hi k (by omega),t1,t2,H,I];generalize M.outs[k]=a;generalize M.ins[k]=b;generalize (M.outs.take k).map gD=A at l1 ⊢;generalize (M.ins.take k).map fA=B at l2 ⊢;generalize M.outs.drop (k+1)=A';generalize M.ins.drop (k+1)=B'
  have U:∀X:Side,X.kE (1+3*k)=X.aW k (X.out k).lose:=fun X=>by
   unfold Side.kE;rw[if_neg (by omega),if_pos (by omega),show(1+3*k) / 3=k by omega]
  have V:∀X:Side,X.kE (1+3*k+1)=X.aW k {X.out k with nt:=(X.out k).nt.lose}:=fun X=>by
   unfold Side.kE;rw[if_neg (by omega),if_neg (by omega),if_pos (by omega),show(1+3*k+1) / 3=k by omega]
  have Z:∀X:Side,X.kE (1+3*k+1+1)=X.bP k (fA (X.inn k)):=fun X=>by
   unfold Side.kE;rw[if_neg (by omega),if_neg (by omega),if_neg (by omega),show(1+3*k+1+1) / 3-1=k by omega]
  rw[U,V,Z];subst l1;unfold Side.aW Side.bP Side.out Side.inn;simp only[Pe,getD_at];rw[<-l2];simp only[Pe,getD_at,List.append_assoc,List.cons_append,List.nil_append];rfl
theorem LZ(M:Side)(F:M.outs.length=8)(hi:M.ins.length=8):M.nX 25={M with gr:=M.gr.lose,outs:=M.outs.map gD,ins:=M.ins.map fA}:=by
 have:=Ea M F hi 8 (jK _);rw[show 1+3*8=25 from rfl]at this;rw[this,tT (by omega),tT (by omega),tL (by omega),tL (by omega),CK,CK]
theorem GY(M:Side)(j k:Nat):((M.kE j).out k).came=(M.out k).came:=by
 unfold Side.kE;split
 ·rfl
 ·split
  ·rw[gL];split
   ·rename_i h;rw[h.1];rfl
   ·rfl
  ·split
   ·rw[gL];split
    ·rename_i h;rw[h.1]
    ·rfl
   ·rfl
theorem xP(M:Side)(k:Nat):∀j,((M.nX j).out k).came=(M.out k).came
 |0=>rfl
 |j+1=>(GY _ j k).trans (xP M k j)
def lT(j:Nat):Nat:=if j % 3=1 then 282 else if j % 3=2 then 335 else 336
def lP(S j:Nat):Value:=.pointer (some ⟨S,if j=0 then 221 else if j % 3=1 then 4+27*(j / 3)else if j % 3=2 then 6+27*(j / 3)else 18+27*(j / 3-1),none⟩)
def lN(j:Nat):Nat:=if j % 3=1 then 392 else if j % 3=2 then 395 else 397
theorem Pf(S:Nat):∀k j,j<1+3*k->(Rl S k)[j]?=some (.iface (lT j) (lP S j))
 |0,j,h=>by
  obtain rfl:j=0:=by omega
  rfl
 |k+1,j,h=>by
  show(Rl S k++TH S k)[j]?=_
  by_cases F:j<1+3*k
  ·rw[List.getElem?_append_left (by rw[vN];exact F)];exact Pf S k j F
  ·rw[List.getElem?_append_right (by rw[vN];omega),vN];unfold lT lP
   have G:j=1+3*k\/j=1+3*k+1\/j=1+3*k+2:=by omega
   rcases G with rfl|rfl|rfl
   ·rw[if_pos (by omega),if_neg (by omega),if_pos (by omega),Nat.sub_self,show(1+3*k) / 3=k by omega,<-show 4+k*27=4+27*k by omega];rfl
   ·rw[if_neg (by omega),if_pos (by omega),if_neg (by omega),if_neg (by omega),if_pos (by omega),show 1+3*k+1-(1+3*k)=1 by omega,show(1+3*k+1) / 3=k by omega,<-show 4+k*27+2=6+27*k by omega];rfl
   ·rw[if_neg (by omega),if_neg (by omega),if_neg (by omega),if_neg (by omega),if_neg (by omega),show 1+3*k+2-(1+3*k)=2 by omega,show(1+3*k+2) / 3-1=k by omega,<-show 4+k*27+14=18+27*k by omega];rfl
theorem TJ(S j:Nat)(w:World):(method 518 (lT j) (lP S j) "Lose").run prog w=.ok (lN j,lP S j) w:=by
 obtain⟨o,G⟩:∃o,lP S j=.pointer (some ⟨S,o,none⟩):=⟨_,rfl⟩;rw[G];unfold lT lN
 by_cases h1:j % 3=1
 ·rw[if_pos h1,if_pos h1];exact Lf _ _ _
 ·by_cases F:j % 3=2
  ·rw[if_neg h1,if_neg h1,if_pos F,if_pos F];exact Li _ _ _
  ·rw[if_neg h1,if_neg h1,if_neg F,if_neg F];exact Lm _ _ _
theorem Pg{own:Own}{s:Nat}{S:Nat}{l:List Value}{M:Side}{bw bl bi:Nat}{vc:Value}(w:World)(h:bM own s w S l M bw bl bi vc)(j:Nat)(I:j<25)(H:∀k,(M.out k).came.rs.length<=1000000):
  Calls prog (lN j) #[lP S j] w fun e w'=>e=.returned (.tuple #[])/\fQ s own w S bw bl bi (M.kE j) w':=by
 unfold Side.kE lN lP
 by_cases G:j=0
 ·subst G;exact O4 w h
 ·rw[if_neg G,if_neg G]
  by_cases h1:j % 3=1
  ·rw[if_pos h1,if_pos h1,if_pos h1];exact O7 w h _ (by omega) (H _)
  ·rw[if_neg h1,if_neg h1,if_neg h1]
   by_cases F:j % 3=2
   ·rw[if_pos F,if_pos F,if_pos F];exact O6 w h _ (by omega)
   ·rw[if_neg F,if_neg F,if_neg F];exact O5 w h _ (by omega)
theorem bM.ways{own own':Own}{s:Nat}{w w':World}{S:Nat}{l:List Value}{M:Side}{bw bl bi:Nat}{vc:Value}{T:List Nat}(h:bM own s w S l M bw bl bi vc)(K:Kp T own own' w w')(I:∀x∈T,x=s+42\/x=s+43\/x<s\/s+45<=x)(ls lt:List (Nat×lX))(O:nk own' (s+42) (s+44) w' bw ls)(hl:nk own' (s+43) (s+44) w' bl lt):
  bM own' s w' S l {M with ay:=ls,lost:=lt} bw bl bi vc:=by
 have F:∀x,s<=x->x<s+42->x∉T:=fun x h1 U H=>by have:=I x H;omega
 have c:=h.cells
 exact⟨by rw[K.ext S h.blk.lt,h.ow],h.s0,aK h.blk K (by rw[h.ow];exact F _ (by omega) (by omega)),⟨c.len,c.c0,c.c1,c.c2,c.c3,c.mh,c.gr,c.nP,c.c226,c.c227,c.c228,c.c229,c.j6,c.mY,c.c232,c.c233,c.c234,c.mZ,c.c236,c.oO,c.j_,c.oP⟩,
  fun k G=>(h.out k G).kp K (F _ (by omega) (by omega)) (F _ (by omega) (by omega)) (F _ (by omega) (by omega)) (iH.refl l (4+27*k+14) 0) (by omega),
  fun k G=>(h.inn k G).kp K (F _ (by omega) (by omega)) (F _ (by omega) (by omega)) (iH.refl l (18+27*k+13) 0) (by omega),
  h.row.kp K (F _ (by omega) (by omega)),O,hl,h.lo,h.li⟩
end Go.Proofs.YtphbledmopchnaaGreatDoor.Sd
