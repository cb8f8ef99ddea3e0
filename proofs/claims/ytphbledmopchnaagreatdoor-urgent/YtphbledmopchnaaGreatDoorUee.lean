import Derived.Test.YtphbledmopchnaaGreatDoorUec
open Go.Builtin renaming zeroCells->fA,clear_->nI
open Nat renaming le_refl->fB,lt_of_lt_of_le->mR
set_option maxHeartbeats 4000000
set_option maxRecDepth 100000
namespace Go.Proofs.YtphbledmopchnaaGreatDoor.Sd
open Go.RowKit Go.Lib Mm Tryz
section
theorem gP.wrap{oZ:Own}{s:Nat}{w W y O:World}{S bw bl bi ab:Nat}{M:Side}{av:aP}{r:Option (Fr×Side×aP)}{x:FV}{b:Bool}{dx:Own}(hs:0<s)(hW:aD w W)(hsz:w.heap.size<W.heap.size)(hb:b=r.isSome)(K:Kp (Tn s) (loc oZ w.heap.size) dx W y)(hE:Env dx s y S bw bl bi ab ((r.map fun y=>y.2.1).getD M) ((r.map fun y=>y.2.2).getD av))(X:∀z,r=some z->x.1=z.1/\LW dx s y x)(ht:je w.heap.size y O):
  gP oZ s w S bw bl bi ab M av r (.returned (.tuple #[bR x.1 (lu x),.bool b])) O:=by
 have F:Kp (Tn s) oZ dx w y:=((pz oZ w).mono (by simp)).trans ((Kp.below hW).trans K)
 have H:dx w.heap.size=0:=by rw[K.ext _ hsz,fD _ _ _ (fB _)]
 have Z:Kp [0] dx dx y O:=ht.kpt (by rw[H];simp);refine⟨x,b,dx,rfl,hb,⟨ht.os.trans F.os,ht.tape.trans F.tape,ht.output.trans F.output,by rw[ht.size];exact F.size,fun b hb hn=>(ht.block b (by omega)).trans (F.blk b hb hn),F.ext⟩,hE.kp Z (fun x X _ e=>by simp at e;omega) (by simp) (by simp),fun z hz=>?_⟩;obtain⟨h1,G⟩:=X z hz;refine⟨h1,G.len,G.cap,fun j hj=>?_,fun a ha=>?_,G.nil⟩
 ·obtain⟨b,o,V,g2,g3,g4⟩:=G.rng j hj;have U:=G.blk _ V
  have I:b≠w.heap.size:=fun e=>by have h3:dx b=s+49:=U.2.1;rw[e,H]at h3;omega
  exact⟨b,o,V,cell_of g2 (ht.block b I),cell_of g3 (ht.block b I),g4⟩
 ·obtain⟨q1,q2,q3⟩:=G.blk a ha;exact⟨by rw[ht.size];exact q1,q2,q3⟩
section
variable {oZ:Own} {s:Nat} {w0:World} {S bw bl bi ab:Nat}
theorem nQ.mono{n:Nat}{p k:Array Value}{iw F:Side->aP->Bool}{nx G:Side->aP->Int->Option (Fr×Side×aP)}(h:nQ oZ s w0 S bw bl bi ab n p k iw nx)(hi:∀M av,F M av=true->iw M av=true)(U:∀M av room,Wk M->F M av=true->G M av room=nx M av room):nQ oZ s w0 S bw bl bi ab n p k F G:=by
 intro aC w M av room K O H I V;rw[U M av room H I];exact h aC w M av room K O H (hi M av I) V
theorem qG.never{n:Nat}{p k:Array Value}{iw:Side->aP->Bool}{nx:Side->aP->Int->Option (Fr×Side×aP)}(h:∀M av,Wk M->iw M av=false):qG oZ s w0 S bw bl bi ab n p k iw nx:=by
 intro aC w M av room K H G F;rw[h M av G]at F;cases F
theorem UH{n:Nat}{p k:Array Value}{iw:Side->aP->Bool}{nx:Side->aP->Int->Option (Fr×Side×aP)}(b1 b2:Nat)(eg:∀args w,(callFunc n args).run prog w=.ok (.enter n args) w)(h1:Bx oZ s w0 b1 302 (.func (.func n) p k))(h2:Bx oZ s w0 b2 128 (ay S 0))(h:qG oZ s w0 S bw bl bi ab n p k iw nx):nQ oZ s w0 S bw bl bi ab 248 #[] #[ay b1 0,ay b2 0] iw (fun M av room=>nx M av (room-M.cO)):=by
 intro aC w M av room K hE hW h4 U;have h6:=hE;obtain⟨l,vc,hS,hA⟩:=h6;obtain⟨W,G⟩:∃W,W=w.alloc (.cells ko.toArray 65):=⟨_,rfl⟩
 have F:aD w W:=by rw[G];exact(Below.refl _ w).alloc (fB _) _
 have h3:aA W w.heap.size 65 ko:=by rw[G];exact aA.new w 65 _
 have hsz:w.heap.size<W.heap.size:=by rw[G];simp
 have h0:∀q,aD W (W.drewN q):=fun q=>⟨rfl,rfl,rfl,fB _,fun _ _=>rfl⟩
 have x1:=((h1.kp K).below F).cell;have x2:=((h2.kp K).below F).cell;have ha:=hS.s0
 have h9:M.cO<=1000000:=by
  unfold Side.cO;split
  ·omega
  ·rename_i f t hq;exact(hW.q f (by rw[hq];simp)).ln
 have HF:Hid (∀q,Calls prog 249 #[ay S 233] (W.drewN q) fun e w'=>e=.returned (iZ M.cO)/\aD W w'):=fun q=>(yK aC s S l M bw bl bi vc _ (hS.below (w':=W.drewN q) ⟨F.os,F.tape,F.output,F.size,F.block⟩) hW.q).mono fun e w' h=>⟨h.1,(h0 q).trans h.2⟩
 have HX:Hid (∀y,aD W y->y.cell? (aj b1 0)=some (.func (.func n) p k)/\y.cell? (aj b2 0)=some (ay S 0)):=fun y Z=>⟨(((h1.kp K).below F).below Z).cell,(((h2.kp K).below F).below Z).cell⟩
 obtain⟨V,O⟩:∃V:Int,V=room-(M.cO:Int):=⟨_,rfl⟩
 have HN:Hid (∀y,aD W y->Calls prog n (p.push (iZ V)++k) y fun e w'=>∃x1 x2 x3 x4 b,e=.returned (.tuple #[bR x1 (.slice x2 x3 x4),.bool b])/\aA w' w.heap.size 65 ko/\Hid (∀Wf,je w.heap.size w' Wf->gP aC s w S bw bl bi ab M av (nx M av V) (.returned (.tuple #[bR x1 (.slice x2 x3 x4),.bool b])) Wf)):=fun y Z=>by
  have H:aD w y:=F.trans (Z.mono F.size);have K0:Kp [] aC (loc aC w.heap.size) w w:=pz aC w;have K1:Kp (Tb s) oZ (loc aC w.heap.size) w0 y:=K.trans ((K0.mono (by simp)).trans (Kp.below H));have h7:Env (loc aC w.heap.size) s y S bw bl bi ab M av:=(hE.kp K0 (by simp) (by simp) (by simp)).below H;refine(h _ y M av V K1 h7 hW h4).mono ?_;rintro e w' ⟨x,b,dx,rfl,hb,K2,h8,hx⟩;refine⟨x.1,x.2.1,x.2.2.1,x.2.2.2,b,rfl,?_,fun Wf ht=>?_⟩
  ·exact aO (w:=y) (bI Z h3) K2 (by rw[fD _ _ _ (fB _)];exact fun e=>by have:=pq.1 e;omega)
  ·exact gP.wrap ha H (mR hsz Z.size) hb K2 h8 hx ht
 show Calls prog 248 #[iZ room,ay b1 0,ay b2 0] w fun e w'=>gP aC s w S bw bl bi ab M av (nx M av (room-(M.cO:Int))) e w'
 rw[<-O];generalize nx M av V=X at *;generalize M.cO=z at *
 have he:IntKind.i64.wrap (room-(z:Int))=V:=by rw[IntKind.wrap_i64];omega
 have hc:=au O;clear hS hA hW h4 h1 h2 K h0 h3 F hsz hE h U O h9;unfold bR at HN;unfold ko at G;go_enter func248,ntmps248
 go_wp2_with fail
 rw[<-G];clear G
 go_region_with (first|(go_at_call 249;refine(HF.out _).mono ?_;rintro e y' ⟨rfl,h5⟩;obtain⟨z1,z2⟩:=HX.out _ h5)|(go_at_fn n;refine(HN.out _ h5).mono ?_;rintro e y ⟨g,z2,z3,z4,b,rfl,I,HE⟩;obtain⟨y0,y1,y2,y3,y4,y5,y6,y7,y8,y9,yf⟩:=aH I;have qB:=au I;clear I))
 all_goals
  clear HN
  go_wp2_with fail
  go_simp;rw[dI];have iB:=dh qB.out (iZ g.kind) (iZ g.stream) (uZ g.offset) (uZ g.reliable) (uZ g.limit) (.bool g.fin) (uZ g.id) (uZ g.deadline) (.string g.data) (.slice z2 z3 z4);have lX:=dw y w.heap.size (iZ g.kind) (iZ g.stream) (uZ g.offset) (uZ g.reliable) (uZ g.limit) (.bool g.fin) (uZ g.id) (uZ g.deadline) (.string g.data) (.slice z2 z3 z4);generalize iA y w.heap.size (iZ g.kind) (iZ g.stream) (uZ g.offset) (uZ g.reliable) (uZ g.limit) (.bool g.fin) (uZ g.id) (uZ g.deadline) (.string g.data) (.slice z2 z3 z4)=Wf at *;obtain⟨a0,a1,a2,a3,a4,a5,a6,a7,a8,a9,_⟩:=aH iB;exact bodyPost_ret (v:=.tuple #[bR g (.slice z2 z3 z4),.bool b]) (by simp[results,results248,go_sem,a0,a1,a2,a3,a4,a5,a6,a7,a8,a9,bR]) rfl (HE.out Wf lX)
end

end
theorem Mt(b m c:Nat)(l:aI)(w:World)(hm:1<=m)(hg:m+1<=c)(_hc:c<=9223372036854775807)(_hbig:m<=1000000)(h:aA w b 65 l)(hl:c*10<=l.length)(h1:∀v∈l,v.oneCell'=true):
  Calls prog 320 #[(aS b (m+1) c),iZ 0,iZ 1] w fun e w'=>
   ∃l',e=.returned (aS b m c)/\aA w' b 65 l'/\l'.length=l.length/\l'.take (m*10)=(l.take ((m+1)*10)).drop 10/\(∀v∈l',v.oneCell'=true)/\je b w w':=by
 have h2:((l.take ((m+1)*10)).drop 10).length=m*10:=by simp;omega
 have O:∀v∈(l.take ((m+1)*10)).drop 10,v.oneCell'=true:=fun v hv=>h1 v (List.mem_of_mem_take (List.mem_of_mem_drop hv))
 have H:∀j v,((l.take ((m+1)*10)).drop 10)[j]?=some v->l[10+j]?=some v:=fun j v hj=>by
  rw[List.getElem?_drop,List.getElem?_take]at hj;split at hj
  ·exact hj
  ·cases hj
 have h7:(loadCellsFrom (aj b 10) 0 (m*10) #[]).run prog w.drew=.ok ((l.take ((m+1)*10)).drop 10).toArray w.drew:=by
  have hf:=run_firstCells_some (P:=prog) w.drew 10 m (aj b 10) m (c-1) ((l.take ((m+1)*10)).drop 10) (by omega) (fun j v hj=>by
   rw[Addr.add_lit];exact(aA.cell h (10+j)).trans (H j v hj))
  simpa[Builtin.firstCells,loadCells]using hf
 have h0:(storeCells (aj b 0) ((l.take ((m+1)*10)).drop 10)).run prog w.drew=.ok () (put w.drew b (splice l 0 ((l.take ((m+1)*10)).drop 10))):=
  cu (P:=prog) (w:=w.drew) (o:=0) h _ (by omega) O
 have U:(splice l 0 ((l.take ((m+1)*10)).drop 10)).length=l.length:=aN _ _ _ (by omega)
 have G:(splice l 0 ((l.take ((m+1)*10)).drop 10)).take (m*10)=(l.take ((m+1)*10)).drop 10:=by
  have:=dV l ((l.take ((m+1)*10)).drop 10) 0 (by omega);rw[h2]at this;simpa using this
 have I:∀v∈splice l 0 ((l.take ((m+1)*10)).drop 10),v.oneCell'=true:=aW h1 O;have F:aA (put w.drew b (splice l 0 ((l.take ((m+1)*10)).drop 10))) b 65 (splice l 0 ((l.take ((m+1)*10)).drop 10)):=aA.put (w:=w.drew) h _;generalize splice l 0 ((l.take ((m+1)*10)).drop 10)=l1 at h0 U G I F;generalize (l.take ((m+1)*10)).drop 10=X at G h7 h0 ⊢
 have h6:∀ty cc,(nI #[54] ty #[.slice (some (aj b (m*10))) 1 cc]).run prog (put w.drew b l1)=.ok (.tuple #[]) (put (put w.drew b l1) b (splice l1 (m*10) (fA gU.cells 1).toList)):=fun ty cc=>
  dG (P:=prog) (o:=m*10) (n:=1) (c:=cc) 54 65 ty _ lS.ht (fun w=>by kernel_rfl) F (by omega) (by rw[lS.hz];omega) (lS.h1 _)
 have Z:(splice l1 (m*10) (fA gU.cells 1).toList).take (m*10)=X:=by
  rw[dH _ _ _ _ (by rw[lS.hz];omega) (fB _),G]
 have V:(splice l1 (m*10) (fA gU.cells 1).toList).length=l.length:=by rw[aN _ _ _ (by rw[lS.hz];omega),U]
 have K:∀v∈splice l1 (m*10) (fA gU.cells 1).toList,v.oneCell'=true:=aW I (lS.h1 _);generalize splice l1 (m*10) (fA gU.cells 1).toList=l2 at h6 Z V K;have h5:Hid _:=Z;have N7:Hid _:=K;have h4:Hid _:=V;have h3:Hid (aA (put w.drew b l1) b 65 l1):=F;have HG:Hid (je b w (put (put w.drew b l1) b l2)):=⟨rfl,rfl,rfl,by simp[put],fun k hk=>by rw[dK _ _ _ _ hk,dK _ _ _ _ hk];rfl⟩;clear G Z K V I U F O H h2 h1 hl h
 have he:m<=c:=by omega
 have h9:(1:Int)<=(m:Int)+1:=by omega
 have ha:(m:Int)+1<=(c:Int):=by omega
 have hc:¬(c=m):=by omega
 have h8:¬(c=1):=by omega
 have e1:m+1-m=1:=by omega
 go_enter func320,ntmps320;go_wp2
 go_region
 go_wp2;go_ret;exact⟨l2,rfl,aA.put h3.out l2,h4.out,h5.out,N7.out,HG.out⟩
theorem PZ(b c:Nat)(l:aI)(w:World)(X:1<=c)(h:aA w b 65 l)(hl:c*10<=l.length)(h1:∀v∈l,v.oneCell'=true):
  Calls prog 320 #[aS b 1 c,iZ 0,iZ 1] w fun e w'=>
   ∃l',e=.returned (aS b 0 c)/\aA w' b 65 l'/\l'.length=l.length/\(∀v∈l',v.oneCell'=true)/\je b w w':=by
 have H:∀ty cc,(nI #[54] ty #[aS b 1 cc]).run prog w.drew=.ok (.tuple #[]) (put w.drew b (splice l 0 (fA gU.cells 1).toList)):=fun ty cc=>
  dG (P:=prog) (o:=0) (n:=1) (c:=cc) 54 65 ty _ lS.ht (fun w=>by kernel_rfl) (aA.drew h) (by omega) (by rw[lS.hz];omega) (lS.h1 _)
 have G:(splice l 0 (fA gU.cells 1).toList).length=l.length:=aN _ _ _ (by rw[lS.hz];omega);have F:∀v∈splice l 0 (fA gU.cells 1).toList,v.oneCell'=true:=aW h1 (lS.h1 _);generalize splice l 0 (fA gU.cells 1).toList=l2 at H G F;have K:Hid (aA (put w.drew b l2) b 65 l2/\l2.length=l.length/\(∀v∈l2,v.oneCell'=true)/\je b w (put w.drew b l2)):=⟨aA.put (w:=w.drew) h l2,G,F,rfl,rfl,rfl,by simp[put],fun k V=>by rw[dK _ _ _ _ V];rfl⟩;clear G F h h1 hl
 have U:(1:Int)<=(c:Int):=by omega
 have O:¬(c=0):=by omega
 by_cases I:c=1
 all_goals
  go_enter func320,ntmps320;go_wp2
  go_region
  go_wp2;go_ret;exact⟨l2,St.mG rfl (by first|rfl|exact I.symm),K.out⟩
section
theorem bT.que{oZ aC:Own}{s:Nat}{w w':World}{S:Nat}{l l':aI}{M:Side}{bw bl bi:Nat}{vc:Value}(h:bT oZ s w S l M bw bl bi vc)(K:Kp [s,s+53] oZ aC w w')(wi:iN l l' 233 2)(v:Value)(q:List Fr)(ls:Nat)(hB:aA w' S TS l')(c3:l'[233]?=some v)(c4:l'[234]?=some (uZ ls))(G:GT aC (s+53) 65 10 w' v q.length (iU q)):bT aC s w' S l' {M with queue:=q,qv:=v,least:=ls} bw bl bi vc:=by
 have e:∀j,j<233\/235<=j->l'[j]?=l[j]?:=fun j F=>wi.2 j (by omega)
 have c:=h.cells
 refine⟨by rw[K.ext S h.blk.lt,h.ow],h.s0,hB,⟨wi.1.trans c.len,(e _ (by omega)).trans c.c0,(e _ (by omega)).trans c.c1,(e _ (by omega)).trans c.c2,(e _ (by omega)).trans c.c3,(e _ (by omega)).trans c.mH,c.gr.win wi (by omega),
  (e _ (by omega)).trans c.oh,(e _ (by omega)).trans c.c226,(e _ (by omega)).trans c.c227,(e _ (by omega)).trans c.c228,(e _ (by omega)).trans c.c229,(e _ (by omega)).trans c.kL,(e _ (by omega)).trans c.nC,(e _ (by omega)).trans c.c232,c3,c4,
  (e _ (by omega)).trans c.nD,(e _ (by omega)).trans c.c236,(e _ (by omega)).trans c.o9,(e _ (by omega)).trans c.kM,(e _ (by omega)).trans c.o_⟩,fun j F=>?_,fun j F=>?_,h.row.kp K (by simp),h.way.kp K (by simp) (by simp),h.lost.kp K (by simp) (by simp),G,h.lo,h.li⟩
 ·exact(h.out j F).kp K (by simp;omega) (by simp;omega) (by simp;omega) wi (by omega)
 ·exact(h.inn j F).kp K (by simp;omega) (by simp;omega) wi (by omega)
theorem Mv(g n c:Nat)(cs:aI)(f:Fr)(t:List Fr)(w:World)(hn:n=t.length)(hB:aA w g 65 cs)(G:c*10<=cs.length)(H:n+1<=c)(I:c<=9223372036854775807)(hl:n<=1000000)(ht:cs.take ((n+1)*10)=bZ f nZ++iU t)(h1:∀v∈cs,v.oneCell'=true):
  Calls prog 320 #[(aS g (n+1) c),iZ 0,iZ 1] w fun e w'=>e=.returned (aS g n c)/\Hid (∃F,aA w' g 65 F/\F.length=cs.length/\F.take (n*10)=iU t/\(∀v∈F,v.oneCell'=true)/\je g w w'):=by
 have Z:(bZ f nZ).length=10:=rfl
 by_cases X:1<=n
 ·refine(Mt g n c cs w X H I hl hB G h1).mono ?_;rintro e w' ⟨l',rfl,K,O,q3,U,V⟩;refine⟨rfl,l',K,O,?_,U,V⟩;rw[q3,ht,List.drop_append_of_le_length (by omega),List.drop_of_length_le (by omega),List.nil_append]
 ·obtain rfl:n=0:=by omega
  refine(PZ g c cs w (by omega) hB G h1).mono ?_;rintro e w' ⟨l',rfl,K,O,U,V⟩;refine⟨rfl,l',K,O,?_,U,V⟩;rw[List.length_eq_zero_iff.1 hn.symm];rfl
section
variable {oZ:Own} {s:Nat} {w0:World} {S bw bl bi ab:Nat}
theorem yM:nQ oZ s w0 S bw bl bi ab 269 #[ay S 233] #[] (fun M _=>decide (0<M.queue.length)) fun M av room=>if room<M.cO then none else M.queue.head?.map fun f=>(f,{M with queue:=M.queue.tail,qv:=SV M.qv},av):=by
 intro aC w M av room K hE hW h5 h3;obtain⟨l,vc,hS,hA⟩:=hE
 obtain⟨f,t,hM⟩:∃f t,M.queue=f::t:=by
  cases hq:M.queue with
  |nil=>simp only[hq]at h5;cases h5
  |cons f t=>exact⟨f,t,rfl⟩
 have e0:M.cO=(aG f).length:=by unfold Side.cO;rw[hM]
 obtain⟨g,c,cs,hv,og,V,x0,x8,h7,ht,h1⟩:=hS.WR hM;have hf:=hS.s0;have h9:=hW.ql;rw[hM,List.length_cons]at h9;obtain⟨W,O⟩:∃W,W=w.alloc (.cells ko.toArray 65):=⟨_,rfl⟩
 have X:aD w W:=by rw[O];exact(Below.refl _ w).alloc (fB _) _
 have h6:aA W w.heap.size 65 ko:=by rw[O];exact aA.new w 65 _
 have hsz:w.heap.size<W.heap.size:=by rw[O];simp
 have H:bT (loc aC w.heap.size) s W S l M bw bl bi vc:=hS.loc X;have hA1:AnM (loc aC w.heap.size) s W ab av:=(hA.kp (pz aC w) (by simp) (by simp)).kp (Kp.below (T:=[]) X) (by simp) (by simp)
 have Z:(loc aC w.heap.size) g=s+53:=by rw[fM _ _ _ V.lt];exact og
 have h0:(loc aC w.heap.size) S=s:=by rw[fM _ _ _ hS.blk.lt];exact hS.ow
 have HF:Hid (Calls prog 249 #[ay S 233] W fun e w'=>e=.returned (iZ ((aG f).length:Int))/\aD W w'):=by
  have:=yK _ s S l M bw bl bi vc W H hW.q;rw[e0]at this;exact this
 have h8:g≠S:=fun e=>by rw[e,h0]at Z;omega
 obtain⟨n,hn⟩:∃n,n=t.length:=⟨_,rfl⟩;obtain⟨z,hz⟩:∃z,z=(aG f).length:=⟨_,rfl⟩
 have hr:∀x,(if room<(M.cO:Int)then none else M.queue.head?.map fun f=>(f,{M with queue:=M.queue.tail,qv:=SV M.qv},av))=x↔(if room<(z:Int)then none else some (f,({M with queue:=t,qv:=(aS g n c)}:Side),av))=x:=fun x=>by
  rw[e0,hM,hv,hz,hn];rfl
 have he:=(hr _).2 rfl
 show Calls prog 269 #[ay S 233,iZ room] w fun e w'=>gP aC s w S bw bl bi ab M av (if room<(M.cO:Int)then none else M.queue.head?.map fun f=>(f,{M with queue:=M.queue.tail,qv:=SV M.qv},av)) e w'
 rw[he];clear hr he
 have UG:Hid (∀y U,aD W y->je w.heap.size y U->gP aC s w S bw bl bi ab M av none (.returned (.tuple #[bR dS nZ,.bool false])) U):=fun y U hb h4=>by
  exact gP.wrap (x:=eG) (dx:=loc aC w.heap.size) hf X hsz rfl (Kp.below hb) ⟨l,vc,H.below hb,hA1.kp (Kp.below (T:=[]) hb) (by simp) (by simp)⟩ (fun z hz=>by cases hz) h4
 have HC:Hid (∀y,aD W y->y.cell? (aj S 233)=some (aS g (n+1) c)/\y.frozen? (aj S 233)=false/\aA y w.heap.size 65 ko/\aA y g 65 cs):=fun y hb=>by
  have b1:=bI hb H.blk;refine⟨by rw[b1.cell,hS.cells.c233,hv,hn],b1.frozen _,bI hb h6,bI hb (bI X V)⟩
 have HD:Hid (∀y,aA y g 65 cs->Calls prog 320 #[(aS g (n+1) c),iZ 0,iZ 1] y fun e w'=>e=.returned (aS g n c)/\Hid (∃F,aA w' g 65 F/\F.length=cs.length/\F.take (n*10)=iU t/\(∀v∈F,v.oneCell'=true)/\je g y w')):=fun y hb=>
  Mv g n c cs f t y hn hb x0 (by omega) h7 (by omega) (by rw[hn];exact ht) h1
 have hk:Hid (∀y G U,aD W y->(∃F,aA G g 65 F/\F.length=cs.length/\F.take (n*10)=iU t/\(∀v∈F,v.oneCell'=true)/\je g y G)->je w.heap.size (G.setCell (aj S 233) (aS g n c)) U->gP aC s w S bw bl bi ab M av (some (f,({M with queue:=t,qv:=(aS g n c)}:Side),av)) (.returned (.tuple #[bR f nZ,.bool true])) U):=fun y G U hb hX h4=>by
  obtain⟨F,q1,q2,q3,q4,q5⟩:=hX;have I:=H.below hb;have K1:Kp [s,s+53] (loc aC w.heap.size) (loc aC w.heap.size) y G:=(q5.kpt (T:=[s,s+53]) (by rw[Z];simp));have ho:aA G S TS l:=I.blk.of_heap (q5.block S (fun e=>h8 e.symm));have K2:Kp [s,s+53] (loc aC w.heap.size) (loc aC w.heap.size) G (G.setCell (aj S 233) (aS g n c)):=Kp.set _ G _ _ _ (by show(loc aC w.heap.size) S∈_;rw[h0];simp);have x5:=I.cells.len
  have hw:=I.que (K1.trans K2) (l':=l.set 233 (aS g n c)) (iN.set l 233 _ 233 2 (by omega) (by omega)) (aS g n c) t M.least (ho.setCell 233 _) (List.getElem?_set_self (by omega)) (by rw[List.getElem?_set_ne (by omega)];exact I.cells.c234)
   (.inr ⟨g,c,F,by rw[hn],Z,aO (T:=[s]) q1 (Kp.set _ G _ _ _ (by show(loc aC w.heap.size) S∈_;rw[h0];simp)) (by rw[Z];simp),by omega,by omega,h7,by rw[<-q3,hn,List.length_take];omega,by rw[<-hn];exact q3,q4⟩)
  refine gP.wrap (x:=(f,none,0,0)) (dx:=loc aC w.heap.size) hf X hsz rfl ((Kp.below hb).trans ((K1.trans K2).mono fun x hx=>pq.2 (by simp at hx;omega))) ⟨_,vc,hw,(hA1.kp (Kp.below (T:=[]) hb) (by simp) (by simp)).kp (K1.trans K2) (by simp) (by simp)⟩ (fun y' hy=>?_) h4;cases hy;exact⟨rfl,LW.none _ _ _ f (hW.q f (by rw[hM];simp)).rs⟩
 have k:=fun y (hb:aA y g 65 cs) j hj=>PX (n:=n+1) hb (by rw[hn];exact ht) j hj
 have HK:Hid (∀y,aA y g 65 cs->y.cell? (aj g 0)=some (iZ f.kind)/\y.cell? (aj g 1)=some (iZ f.stream)/\y.cell? (aj g 2)=some (uZ f.offset)/\y.cell? (aj g 3)=some (uZ f.reliable)/\y.cell? (aj g 4)=some (uZ f.limit)/\y.cell? (aj g 5)=some (.bool f.fin)/\y.cell? (aj g 6)=some (uZ f.id)/\y.cell? (aj g 7)=some (uZ f.deadline)/\y.cell? (aj g 8)=some (.string f.data)/\y.cell? (aj g 9)=some nZ):=fun y hb=>
  ⟨k y hb 0 (by omega),k y hb 1 (by omega),k y hb 2 (by omega),k y hb 3 (by omega),k y hb 4 (by omega),k y hb 5 (by omega),k y hb 6 (by omega),k y hb 7 (by omega),k y hb 8 (by omega),k y hb 9 (by omega)⟩
 have uV:S<W.heap.size:=H.blk.lt;have x5:=H.cells.len
 have HL:Hid (∀y,aD W y->aA (y.alloc (.cells #[iZ f.kind,iZ f.stream,uZ f.offset,uZ f.reliable,uZ f.limit,.bool f.fin,uZ f.id,uZ f.deadline,.string f.data,nZ] 65)) g 65 cs/\aD W (y.alloc (.cells #[iZ f.kind,iZ f.stream,uZ f.offset,uZ f.reliable,uZ f.limit,.bool f.fin,uZ f.id,uZ f.deadline,.string f.data,nZ] 65))/\∀G,(∃F,aA G g 65 F/\F.length=cs.length/\F.take (n*10)=iU t/\(∀v∈F,v.oneCell'=true)/\je g (y.alloc (.cells #[iZ f.kind,iZ f.stream,uZ f.offset,uZ f.reliable,uZ f.limit,.bool f.fin,uZ f.id,uZ f.deadline,.string f.data,nZ] 65)) G)->G.cell? (aj S 233)=some (aS g (n+1) c)/\G.frozen? (aj S 233)=false/\aA (G.setCell (aj S 233) (aS g n c)) y.heap.size 65 (bZ f nZ)/\aA (G.setCell (aj S 233) (aS g n c)) w.heap.size 65 ko):=fun y hb=>by
  obtain⟨_,_,r1,r2⟩:=HC.out y hb;have xa:g<y.heap.size:=r2.lt;have h_:w.heap.size<y.heap.size:=r1.lt;have hu:aA (y.alloc (.cells #[iZ f.kind,iZ f.stream,uZ f.offset,uZ f.reliable,uZ f.limit,.bool f.fin,uZ f.id,uZ f.deadline,.string f.data,nZ] 65)) y.heap.size 65 (bZ f nZ):=aA.new y 65 (bZ f nZ);have h2:aD W (y.alloc (.cells #[iZ f.kind,iZ f.stream,uZ f.offset,uZ f.reliable,uZ f.limit,.bool f.fin,uZ f.id,uZ f.deadline,.string f.data,nZ] 65)):=hb.alloc hb.size _;generalize y.alloc (.cells #[iZ f.kind,iZ f.stream,uZ f.offset,uZ f.reliable,uZ f.limit,.bool f.fin,uZ f.id,uZ f.deadline,.string f.data,nZ] 65)=E at *;obtain⟨p1,p2,p3,p4⟩:=HC.out E h2;refine⟨p4,h2,fun G hX=>?_⟩;obtain⟨F,_,_,_,_,q5⟩:=hX;have bS:aA G S TS l:=(bI h2 H.blk).of_heap (q5.block S (fun e=>h8 e.symm))
  have x6:y.heap.size≠S:=fun e=>by have:=hb.size;omega
  have hc:w.heap.size≠S:=fun e=>by have:=hS.blk.lt;omega
  exact⟨by rw[bS.cell,hS.cells.c233,hv,hn],bS.frozen _,(hu.of_heap (q5.block _ (by omega))).gG _ _ x6,(p3.of_heap (q5.block _ (fun e=>by have:=V.lt;omega))).gG _ _ hc⟩
 rw[<-hz]at HF;have x9:=V.lt;clear k hS hA hW h5 K H hA1 h6 hv ht h1 hM e0 hz og Z h0 hn V h3
 have hg:Hid (∀y,aD W y->aA y w.heap.size 65 [iZ 0,iZ 0,uZ 0,uZ 0,uZ 0,.bool false,uZ 0,uZ 0,.string ⟨#[]⟩,nZ]):=fun y hb=>(HC.out y hb).2.2.1
 unfold ko at O
 by_cases ha:room<(z:Int)
 ·rw[if_pos ha];go_enter func269,ntmps269
  go_wp2_with fail
  rw[<-O]
  go_wp2_with (go_at_call 249;refine HF.out.mono ?_;rintro e y ⟨rfl,hy⟩;have HY:=au hy;have qB:=au (hg.out y hy);obtain⟨y0,y1,y2,G,y4,y5,y6,y7,y8,y9,yf⟩:=aH qB.out;clear hy)
  rw[dI];have iB:=dh qB.out (iZ 0) (iZ 0) (uZ 0) (uZ 0) (uZ 0) (.bool false) (uZ 0) (uZ 0) (.string ⟨#[]⟩) nZ;have lX:=dw y w.heap.size (iZ 0) (iZ 0) (uZ 0) (uZ 0) (uZ 0) (.bool false) (uZ 0) (uZ 0) (.string ⟨#[]⟩) nZ;generalize iA y w.heap.size (iZ 0) (iZ 0) (uZ 0) (uZ 0) (uZ 0) (.bool false) (uZ 0) (uZ 0) (.string ⟨#[]⟩) nZ=U at *;obtain⟨a0,a1,a2,a3,a4,a5,a6,a7,a8,a9,_⟩:=aH iB;exact bodyPost_ret (v:=.tuple #[bR dS nZ,.bool false]) (by simp[results,results269,go_sem,a0,a1,a2,a3,a4,a5,a6,a7,a8,a9,bR,dS]) rfl (UG.out y U HY.out lX)
 ·rw[if_neg ha];generalize ({M with queue:=t,qv:=(aS g n c)}:Side)=M2 at *;go_enter func269,ntmps269
  go_wp2_with fail
  rw[<-O]
  go_wp2_with (first
   |(go_at_call 249;refine HF.out.mono ?_;rintro e y ⟨rfl,hy⟩;have HY:=au hy;obtain⟨x1,x2,x3,x4⟩:=HC.out y hy;obtain⟨k0,k1,k2,k3,k4,k5,k6,k7,k8,k9⟩:=HK.out y x4;have I:S<y.heap.size:=mR uV hy.size;have x7:S≠y.heap.size:=Nat.ne_of_lt I;clear hy x3 x4)
   |(go_at_call 320;refine(HD.out _ (HL.out y HY.out).1).mono ?_;rintro e G ⟨rfl,HX⟩;obtain⟨m1,m2,m3,m4⟩:=(HL.out y HY.out).2.2 G HX.out;obtain⟨j0,j1,j2,j3,j4,j5,j6,j7,j8,j9,jf⟩:=aH m3;have hm:=au m4;obtain⟨i0,i1,i2,i3,i4,i5,i6,i7,i8,i9,xd⟩:=aH m4;clear m3 m4))
  rw[dI];have iB:=dh hm.out (iZ f.kind) (iZ f.stream) (uZ f.offset) (uZ f.reliable) (uZ f.limit) (.bool f.fin) (uZ f.id) (uZ f.deadline) (.string f.data) nZ;have lX:=dw (G.setCell (aj S 233) (aS g n c)) w.heap.size (iZ f.kind) (iZ f.stream) (uZ f.offset) (uZ f.reliable) (uZ f.limit) (.bool f.fin) (uZ f.id) (uZ f.deadline) (.string f.data) nZ;generalize iA (G.setCell (aj S 233) (aS g n c)) w.heap.size (iZ f.kind) (iZ f.stream) (uZ f.offset) (uZ f.reliable) (uZ f.limit) (.bool f.fin) (uZ f.id) (uZ f.deadline) (.string f.data) nZ=U at *;obtain⟨a0,a1,a2,a3,a4,a5,a6,a7,a8,a9,_⟩:=aH iB;exact bodyPost_ret (v:=.tuple #[bR f nZ,.bool true]) (by simp[results,results269,go_sem,a0,a1,a2,a3,a4,a5,a6,a7,a8,a9,bR]) rfl (hk.out _ G U (HL.out y HY.out).2.1 HX.out lX)
end

