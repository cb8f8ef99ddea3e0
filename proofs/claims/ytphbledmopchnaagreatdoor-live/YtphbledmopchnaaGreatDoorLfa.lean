import Derived.Test.YtphbledmopchnaaGreatDoorLed
import Derived.Test.YtphbledmopchnaaGreatDoorLea
open List renaming drop_eq_getElem_cons->eT,getElem?_eq_getElem->j3,drop_of_length_le->lg,take_of_length_le->mE,take_add_one->mI,length_take->mK,not_mem_nil->mR,append_nil->mY,length_map->nA,map_append->nI,mem_cons->nP
open Nat renaming le_refl->eB
set_option maxHeartbeats 1000000
set_option maxRecDepth 100000
namespace Go.Proofs.YtphbledmopchnaaGreatDoor.Sd
open Go.RowKit Go.Lib Mm Tryz
section
theorem fP.gr{oZ:Own}{s:Nat}{w w':World}{S:Nat}{l l':bO}{M:av}{bw bl bi:Nat}{vc:Value}(h:fP oZ s w S l M bw bl bi vc)(g:Gn)(q:gM w w' S l l' 221 4)(a:vX l' 221 g):jC s oZ w S bw bl bi {M with gr:=g} w':=by have c:=h.cells;have e:∀j,j<221\/225<=j->l'[j]?=l[j]?:=fun j b=>q.gN.2 j aj;refine h.cell 221 4 aj q ⟨q.gN.1.trans c.len,(e _ aj).trans c.c0,(e _ aj).trans c.c1,(e _ aj).trans c.c2,(e _ aj).trans c.c3,(e _ aj).trans c.rC,a,(e _ aj).trans c.tN,(e _ aj).trans c.tQ,(e _ aj).trans c.pV,(e _ aj).trans c.nG,(e _ aj).trans c.oo,(e _ aj).trans c.oQ,(e _ aj).trans c.sG,(e _ aj).trans c.nH,(e _ aj).trans c.pW,(e _ aj).trans c.vB,(e _ aj).trans c.sH,(e _ aj).trans c.vC,(e _ aj).trans c.vD,(e _ aj).trans c.oU,(e _ aj).trans c.vE⟩ rfl rfl rfl rfl rfl
theorem fP.igr{oZ:Own}{s:Nat}{w w':World}{S:Nat}{l l':bO}{M:av}{bw bl bi:Nat}{vc:Value}(h:fP oZ s w S l M bw bl bi vc)(k:Nat)(b:k<8)(g:Gn)(q:gM w w' S l l' (18+27*k) 4)(f:vX l' (18+27*k) g):jC s oZ w S bw bl bi (M.eG k {M.bF k with gr:=g}) w':=by refine h.eG k b _ ⟨oZ,l',q.kp h.ow aP,q.cZ,q.gN.mono (eB _) aj,?_⟩;obtain⟨vh,i,a,c,d⟩:=h.bF k b;have K:Kp [s] oZ oZ w w':=q.kp h.ow aP;have e:∀j,18+27*k+4<=j->l'[j]?=l[j]?:=fun j m=>q.gN.2 j aj;exact⟨vh,i,⟨f,(e _ aj).trans a.c4,(e _ aj).trans a.c5,(e _ aj).trans a.c6,(e _ aj).trans a.c7,(e _ aj).trans a.c8,(e _ aj).trans a.c9,(e _ aj).trans a.vY,(e _ aj).trans a.zU,(e _ aj).trans a.zV⟩,c.kp K (by simp;omega),d.kp K (by simp;omega)⟩
theorem YN(M:av):M.aQ<=dK:=by
 unfold av.aQ;generalize M.ins=L;cases b:L.reverse with
 |nil=>rw[List.reverse_eq_nil_iff.1 b];exact Nat.zero_le _
 |cons a t=>
  have:L=t.reverse++[a]:=by rw[<-List.reverse_reverse L,b,List.reverse_cons]
  rw[this,List.foldl_append];exact Nat.min_le_right _ _
section
variable {oZ:Own} {s:Nat} {w0:World} {S bw bl bi ab:Nat}
theorem GV(z:Nat)(h1:Bx oZ s w0 z 128 (aI S 0))(iw:av->bW->Bool):lI oZ s w0 S bw bl bi ab 253 #[] #[aI z 0] iw fun M aF au=>(M.gr.next 5 0 M.aQ au).map fun x=>(x.1,{M with gr:=x.2},aF):=by
 intro aY w M aF au K Z A _ _;obtain⟨l,vc,r,E⟩:=Z;obtain⟨W,a⟩:=bZ (w.alloc (.cells pJ.toArray 65));have c:bJ w W:=by rw[a];exact(Below.refl _ w).alloc (eB _) _
 have m:aS W w.heap.size 65 pJ:=by rw[a];exact aS.new w 65 _
 have gQ:w.heap.size<W.heap.size:=by rw[a];simp
 have h:=r.loc c;have d:∀q,bJ W (W.drewN q):=fun q=>⟨rfl,rfl,rfl,eB _,fun _ _=>rfl⟩;have x1:=((h1.kp K).below c).cell;have I:Hid (∀q,Calls prog 252 #[aI S 0] (W.drewN q) fun e w'=>e=.returned (uZ M.aQ)/\w'=W.drewN q):=fun q=>Oq _ s S l M bw bl bi vc (W.drewN q) (h.below (d q)) (fun k=>(A.bF k).aQ);obtain⟨g,b,p,j,n⟩:=CJ (M.gr.next 5 0 M.aQ au) Prod.fst;have u:Hid (∀q,Calls prog 254 #[aI S 221,fM (jO 5 0 0) nZ,uZ M.aQ,iZ au] (W.drewN q) fun e w'=>e=.returned (.tuple #[fM g nZ,.bool b])/\aS w' w.heap.size 65 pJ/\Hid (jC s (loc aY w.heap.size) W S bw bl bi (((M.gr.next 5 0 M.aQ au).map fun x=>{M with gr:=x.2}).getD M) w')):=fun q=>by
  have hq:=h.below (d q);refine bN (Oz S 221 M.gr 5 (.inl rfl) 0 aj M.aQ au (W.drewN q) l hq.cZ hq.cells.gr A.ga (YN M)) ?_;rintro w' ⟨l',F,t⟩;refine⟨by rw[p],F.other (w:=W.drewN q) m (bV r.cZ.lt),?_⟩;have D:gM W w' S l l' 221 4:=gM.after (W:=W.drewN q) (d q) F;cases G:M.gr.next 5 0 M.aQ au with
  |none=>rw[G]at t;exact h.gr _ D t
  |some x=>rw[G]at t;exact h.gr _ D t
 have B:Hid (∀y,M.gr.next 5 0 M.aQ au=some y->y.1.ranges=[]):=fun y hy=>by rw[(iT (g':=y.2) hy).1];rfl
 have H:Hid (∀y i,jC s (loc aY w.heap.size) W S bw bl bi (((M.gr.next 5 0 M.aQ au).map fun x=>{M with gr:=x.2}).getD M) y->nE w.heap.size y i->kY aY s w S bw bl bi ab M aF ((M.gr.next 5 0 M.aQ au).map fun x=>(x.1,{M with gr:=x.2},aF)) (.returned (.tuple #[fM g nZ,.bool b])) i):=fun y i q ht=>zw E r.s0 c gQ _ (fun o=>{M with gr:=o}) g b j n B.out q ht _ rfl;show Calls prog 253 #[iZ au,aI z 0] w fun e w'=>kY aY s w S bw bl bi ab M aF ((M.gr.next 5 0 M.aQ au).map fun x=>(x.1,{M with gr:=x.2},aF)) e w';generalize ((M.gr.next 5 0 M.aQ au).map fun x=>(x.1,({M with gr:=x.2}:av),aF))=X at *
 generalize (((M.gr.next 5 0 M.aQ au).map fun x=>({M with gr:=x.2}:av)).getD M)=M' at *
 generalize M.aQ=C at *
 clear p j n B h r E A h1 K d m c gQ;unfold fM jO at u;unfold pJ at a;go_enter func253,ntmps253;go_wp2_with fail;rw[<-a];clear a;go_region_with (first|(go_at_call 252;refine bN (I.out _) ?_;rintro y rfl)|(go_at_call 254;refine bN (u.out _) ?_;rintro y ⟨f,J⟩;obtain⟨y0,y1,y2,y3,y4,y5,y6,y7,y8,y9,yf⟩:=bL f;have xA:=aG f;clear f));all_goals
  clear u;go_wp2_with fail;go_simp;rw[gT];have kr:=gI xA.out (iZ g.aC) (iZ g.aH) (uZ g.aD) (uZ g.aV) (uZ g.aL) (.bool g.bn) (uZ g.id) (uZ g.aW) (.string g.data) nZ;have qZ:=gJ y w.heap.size (iZ g.aC) (iZ g.aH) (uZ g.aD) (uZ g.aV) (uZ g.aL) (.bool g.bn) (uZ g.id) (uZ g.aW) (.string g.data) nZ;generalize kF y w.heap.size (iZ g.aC) (iZ g.aH) (uZ g.aD) (uZ g.aV) (uZ g.aL) (.bool g.bn) (uZ g.id) (uZ g.aW) (.string g.data) nZ=i at *
  obtain⟨L,N,O,P,Q,R,T,U,V,Y,_⟩:=bL kr;exact bodyPost_ret (v:=.tuple #[fM g nZ,.bool b]) (by simp[results,results253,go_sem,L,N,O,P,Q,R,T,U,V,Y,fM]) rfl (H.out y i J.out qZ)
theorem CK(k:Nat)(t:k<8)(z b2:Nat)(h1:Bx oZ s w0 z 333 (aI S (18+27*k)))(D:Bx oZ s w0 b2 3 (iZ k))(iw:av->bW->Bool):lI oZ s w0 S bw bl bi ab 256 #[] #[aI z 0,aI b2 0] iw fun M aF au=>((M.bF k).gr.next 6 k (M.bF k).aQ au).map fun x=>(x.1,M.eG k {M.bF k with gr:=x.2},aF):=by
 intro aY w M aF au K Y F _ _;obtain⟨l,vc,p,E⟩:=Y;obtain⟨W,a⟩:=bZ (w.alloc (.cells pJ.toArray 65));have c:bJ w W:=by rw[a];exact(Below.refl _ w).alloc (eB _) _
 have j:aS W w.heap.size 65 pJ:=by rw[a];exact aS.new w 65 _
 have gQ:w.heap.size<W.heap.size:=by rw[a];simp
 have f:=p.loc c;have B:∀q,bJ W (W.drewN q):=fun q=>⟨rfl,rfl,rfl,eB _,fun _ _=>rfl⟩;have x1:=((h1.kp K).below c).cell;have x2:=((D.kp K).below c).cell;obtain⟨g,b,n,i,m⟩:=CJ ((M.bF k).gr.next 6 k (M.bF k).aQ au) Prod.fst;have u:Hid (Calls prog 257 #[(aI S (18+27*k)),iZ k,iZ au] W fun e w'=>e=.returned (.tuple #[fM g nZ,.bool b])/\aS w' w.heap.size 65 pJ/\Hid (jC s (loc aY w.heap.size) W S bw bl bi ((((M.bF k).gr.next 6 k (M.bF k).aQ au).map fun x=>M.eG k {M.bF k with gr:=x.2}).getD M) w')):=by
  obtain⟨vh,jQ,Z,_⟩:=f.bF k t;refine bN (GN S (18+27*k) (M.bF k) vh jQ k t au W l f.cZ Z (F.bF k)) ?_;rintro w' ⟨l',A,r⟩;refine⟨by rw[n],A.other j (bV p.cZ.lt),?_⟩;cases G:(M.bF k).gr.next 6 k (M.bF k).aQ au with
  |none=>rw[G]at r;have:=f.igr k t _ A r;rw[show({M.bF k with gr:=((Option.map Prod.snd (none:Option (Fr×Gn))).getD (M.bF k).gr)}:eH)=M.bF k from rfl,Q5]at this;exact this
  |some x=>rw[G]at r;exact f.igr k t _ A r
 have C:Hid (∀y,(M.bF k).gr.next 6 k (M.bF k).aQ au=some y->y.1.ranges=[]):=fun y hy=>by rw[(iT (g':=y.2) hy).1];rfl
 have H:Hid (∀y h,jC s (loc aY w.heap.size) W S bw bl bi ((((M.bF k).gr.next 6 k (M.bF k).aQ au).map fun x=>M.eG k {M.bF k with gr:=x.2}).getD M) y->nE w.heap.size y h->kY aY s w S bw bl bi ab M aF (((M.bF k).gr.next 6 k (M.bF k).aQ au).map fun x=>(x.1,M.eG k {M.bF k with gr:=x.2},aF)) (.returned (.tuple #[fM g nZ,.bool b])) h):=fun y h q ht=>zw E p.s0 c gQ _ (fun o=>M.eG k {M.bF k with gr:=o}) g b i m C.out q ht _ rfl;show Calls prog 256 #[iZ au,aI z 0,aI b2 0] w fun e w'=>kY aY s w S bw bl bi ab M aF (((M.bF k).gr.next 6 k (M.bF k).aQ au).map fun x=>(x.1,M.eG k {M.bF k with gr:=x.2},aF)) e w';generalize (((M.bF k).gr.next 6 k (M.bF k).aQ au).map fun x=>(x.1,M.eG k ({M.bF k with gr:=x.2}:eH),aF))=X at *
 generalize ((((M.bF k).gr.next 6 k (M.bF k).aQ au).map fun x=>M.eG k ({M.bF k with gr:=x.2}:eH)).getD M)=M' at *
 clear n i m C f p E F h1 D K B j c gQ;unfold fM at u;unfold pJ at a;subst a;go_enter func256,ntmps256;go_wp2_with (first|(go_at_call 257;refine bN u.out ?_;rintro y ⟨d,I⟩;obtain⟨y0,y1,y2,y3,y4,y5,y6,y7,y8,y9,yf⟩:=bL d;have xA:=aG d;clear d)|go_in);all_goals
  clear u;rw[gT];have kr:=gI xA.out (iZ g.aC) (iZ g.aH) (uZ g.aD) (uZ g.aV) (uZ g.aL) (.bool g.bn) (uZ g.id) (uZ g.aW) (.string g.data) nZ;have qZ:=gJ y w.heap.size (iZ g.aC) (iZ g.aH) (uZ g.aD) (uZ g.aV) (uZ g.aL) (.bool g.bn) (uZ g.id) (uZ g.aW) (.string g.data) nZ;generalize kF y w.heap.size (iZ g.aC) (iZ g.aH) (uZ g.aD) (uZ g.aV) (uZ g.aL) (.bool g.bn) (uZ g.id) (uZ g.aW) (.string g.data) nZ=h at *
  obtain⟨J,L,N,O,P,Q,R,T,U,V,_⟩:=bL kr;exact bodyPost_ret (v:=.tuple #[fM g nZ,.bool b]) (by simp[results,results256,go_sem,J,L,N,O,P,Q,R,T,U,V,fM]) rfl (H.out y h I.out qZ)
end

end
theorem zo(b:Nat)(w:World):Calls prog 197 #[.map (some b)] w fun e w'=>e=.returned (.func (.func 243) #[] #[aI w.heap.size 0])/\w'=w.alloc (.cells #[.map (some b)] 203):=by have a:∀(fn:Fn) (first cap:Array Value) (w:World),(Instr.makeFunc fn first cap).run prog w=.ok (.func fn first cap) w:=fun _ _ _ _=>rfl;go_enter func197,ntmps197;go_wp2;go_ret;exact⟨rfl,rfl⟩
theorem QH(S o:Nat)(w:World):(method 518 282 (aI S o) "Lose").run prog w=.ok (392,(aI S o)) w:=bH
theorem QJ(S o:Nat)(w:World):(method 518 282 (aI S o) "Away").run prog w=.ok (319,(aI S o)) w:=bH
theorem QL(S o:Nat)(w:World):(method 518 282 (aI S o) "Came").run prog w=.ok (391,(aI S o)) w:=bH
theorem QM(S o:Nat)(w:World):(method 518 335 (aI S o) "Lose").run prog w=.ok (395,(aI S o)) w:=bH
theorem QN(S o:Nat)(w:World):(method 518 335 (aI S o) "Away").run prog w=.ok (342,(aI S o)) w:=bH
theorem QO(S o:Nat)(w:World):(method 518 335 (aI S o) "Came").run prog w=.ok (394,(aI S o)) w:=bH
theorem QS(S o:Nat)(w:World):(method 518 336 (aI S o) "Lose").run prog w=.ok (397,(aI S o)) w:=bH
theorem QT(S o:Nat)(w:World):(method 518 336 (aI S o) "Away").run prog w=.ok (311,(aI S o)) w:=bH
theorem QU(S o:Nat)(w:World):(method 518 336 (aI S o) "Came").run prog w=.ok (396,(aI S o)) w:=bH
section
theorem fP.ont{oZ:Own}{s:Nat}{w w':World}{S:Nat}{l l':bO}{M:av}{bw bl bi:Nat}{vc:Value}(h:fP oZ s w S l M bw bl bi vc)(k:Nat)(b:k<8)(g:Nt)(q:gM w w' S l l' (6+27*k) 4)(i:D_ l' (6+27*k) g):jC s oZ w S bw bl bi (M.dD k {M.out k with nt:=g}) w':=by refine h.dD k b _ ⟨oZ,l',q.kp h.ow aP,q.cZ,q.gN.mono aj aj,?_⟩;obtain⟨vb,va,m,a,c,d,f⟩:=h.out k b;have K:Kp [s] oZ oZ w w':=q.kp h.ow aP;have e:∀j,j<6+27*k\/6+27*k+4<=j->l'[j]?=l[j]?:=fun j n=>q.gN.2 j aj;exact⟨vb,va,m,⟨(e _ aj).trans a.c0,(e _ aj).trans a.c1,by rw[show 4+27*k+2=6+27*k by omega];exact i,(e _ aj).trans a.c6,(e _ aj).trans a.c7,(e _ aj).trans a.c8,(e _ aj).trans a.c9,(e _ aj).trans a.vY,(e _ aj).trans a.zU,(e _ aj).trans a.zV,(e _ aj).trans a.c13⟩,c.kp K (by simp;omega),d.kp K (by simp;omega),f.kp K (by simp;omega)⟩
section
variable {oZ:Own} {s:Nat} {S:Nat} {l:bO} {M:av} {bw bl bi:Nat} {vc:Value}
theorem fP.ntL{w:World}(h:fP oZ s w S l M bw bl bi vc)(k:Nat)(b:k<8):D_ l (6+27*k) (M.out k).nt:=by obtain⟨vb,va,c,a,_⟩:=h.out k b;have:=a.nt;rwa[show 4+27*k+2=6+27*k by omega]at this
theorem fP.inL{w:World}(h:fP oZ s w S l M bw bl bi vc)(k:Nat)(b:k<8):vX l (18+27*k) (M.bF k).gr:=by obtain⟨vh,c,a,_⟩:=h.bF k b;exact a.gr
theorem Vg(w:World)(h:fP oZ s w S l M bw bl bi vc):Calls prog 397 #[aI S 221] w fun e w'=>e=.returned (.tuple #[])/\jC s oZ w S bw bl bi {M with gr:=M.gr.j5} w':=
 (N_ S 221 M.gr w l h.cZ h.cells.gr).mono fun _ _ ⟨a,_,q,b⟩=>⟨a,h.gr _ q b⟩
theorem Vh(w:World)(h:fP oZ s w S l M bw bl bi vc)(k:Nat)(a:k<8):Calls prog 397 #[(aI S (18+27*k))] w fun e w'=>e=.returned (.tuple #[])/\jC s oZ w S bw bl bi (M.eG k (iC (M.bF k))) w':=
 (N_ S (18+27*k) (M.bF k).gr w l h.cZ (h.inL k a)).mono fun _ _ ⟨b,_,q,c⟩=>⟨b,h.igr k a _ q c⟩
theorem Vi(w:World)(h:fP oZ s w S l M bw bl bi vc)(k:Nat)(a:k<8):Calls prog 395 #[(aI S (6+27*k))] w fun e w'=>e=.returned (.tuple #[])/\jC s oZ w S bw bl bi (M.dD k {M.out k with nt:=(M.out k).nt.j5}) w':=
 (YH S (6+27*k) (M.out k).nt w l h.cZ (h.ntL k a)).mono fun _ _ ⟨b,_,q,c⟩=>⟨b,h.ont k a _ q c⟩
theorem Vj(w:World)(h:fP oZ s w S l M bw bl bi vc)(k:Nat)(a:k<8)(b:(M.out k).aM.rs.length<=1000000):Calls prog 392 #[(aI S (4+27*k))] w fun e w'=>e=.returned (.tuple #[])/\jC s oZ w S bw bl bi (M.dD k (M.out k).j5) w':=
 (YK s (s+1+5*k) oZ S (4+27*k) (M.out k) l w h.cZ h.ow aj (h.out k a) b).mono fun _ _ ⟨c,q⟩=>⟨c,h.dD k a _ q⟩
end

end
section
def SX(kd:Int):Nat:=if kd=4 then 282 else if kd=3 then 335 else 336
def DY(S k:Nat)(kd:Int):Value:=(aI S (if kd=4 then 4+27*k else if kd=3 then 6+27*k else if kd=6 then 18+27*k else 221))
def xW(kd:Int):Nat:=if kd=4 then 319 else if kd=3 then 342 else 311
def r_(kd:Int):Nat:=if kd=4 then 391 else if kd=3 then 394 else 396
theorem MN(S k:Nat)(kd:Int):U9 S k kd=.iface (SX kd) (DY S k kd):=by
 unfold U9 SX DY;by_cases b:kd=4;·simp[b]
 ·by_cases a:kd=3;·simp[a]
  ·by_cases c:kd=6;·simp[c]
   ·simp[b,a,c]
theorem YO(S k:Nat)(kd:Int)(w:World):(method 518 (SX kd) (DY S k kd) "Away").run prog w=.ok (xW kd,DY S k kd) w:=by
 unfold SX DY xW;by_cases b:kd=4;·simp only[b,if_true];exact QJ _ _ _
 ·by_cases a:kd=3;·simp only[a,if_true];exact QN _ _ _
  ·simp only[b,a,if_false];exact QT _ _ _
theorem OC(S k:Nat)(kd:Int)(w:World):(method 518 (SX kd) (DY S k kd) "Came").run prog w=.ok (r_ kd,DY S k kd) w:=by
 unfold SX DY r_;by_cases b:kd=4;·simp only[b,if_true];exact QL _ _ _
 ·by_cases a:kd=3;·simp only[a,if_true];exact QO _ _ _
  ·simp only[b,a,if_false];exact QU _ _ _
section
variable {oZ:Own} {s:Nat} {S:Nat} {l:bO} {M:av} {bw bl bi:Nat} {vc:Value}
end

end
section
def T1(s:Nat):List Nat:=List.range' s 41
theorem wK{s x:Nat}:x∈T1 s↔s<=x/\x<s+41:=by
 unfold T1;rw[List.mem_range'];constructor;·rintro⟨i,h,rfl⟩;omega
 ·rintro⟨h1,a⟩;exact⟨x-s,aj,aj⟩
theorem Vk{s x:Nat}(h:x∈T1 s):x∈T0 s:=fG.2 (bV (wK.1 h))
def Le(s:Nat)(oZ:Own)(w:World)(S:Nat)(bw bl bi:Nat)(M':av)(w':World):Prop:=∃aY l' a,fP aY s w' S l' M' bw bl bi a/\Kp (T1 s) oZ aY w w'
theorem fP.Vl{oZ:Own}{s:Nat}{w w':World}{S:Nat}{l:bO}{M:av}{bw bl bi:Nat}{vc:Value}(h:fP oZ s w S l M bw bl bi vc)(k:Nat)(i:k<8)(m:Ot)(q:ko s (s+1+5*k) oZ S (4+27*k) l w m w'):Le s oZ w S bw bl bi (M.dD k m) w':=by
 obtain⟨aY,l',K,hB,wi,g⟩:=q;have a:∀x,x∈[s,s+1+5*k,s+1+5*k+1,s+1+5*k+1+1]->x=s\/(s+1+5*k<=x/\x<=s+3+5*k):=fun x f=>by simp only[nP,mR,or_false]at f;omega
 have n:∀j,(M.dD k m).out j=if j=k then m else M.out j:=fun j=>by
  rw[fB,h.lo];by_cases b:j=k;·rw[bK ⟨b,i⟩,bK b]
  ·rw[aU (fun x=>b x.1),aU b]
 refine⟨aY,l',vc,⟨by rw[K.ext S h.cZ.lt,h.ow],h.s0,hB,?_,fun j b=>?_,fun j b=>?_,h.row.kp K (fun e=>bV (a _ e)),h.sI.kp K (fun e=>bV (a _ e)) (fun e=>bV (a _ e)),h.bP.kp K (fun e=>bV (a _ e)) (fun e=>bV (a _ e)),(iP _ _ _).trans h.lo,h.li⟩,K.mono fun x f=>wK.2 (bV (a x f))⟩;·have c:=h.cells.gN wi aj aj;exact⟨c.len,c.c0,c.c1,c.c2,c.c3,c.rC,c.gr,c.tN,c.tQ,c.pV,c.nG,c.oo,c.oQ,c.sG,c.nH,c.pW,c.vB,c.sH,c.vC,c.vD,c.oU,c.vE⟩
 ·rw[n];by_cases d:j=k;·subst d;rw[bK rfl];exact g
  ·rw[aU d];exact(h.out j b).kp K (fun e=>bV (a _ e)) (fun e=>bV (a _ e)) (fun e=>bV (a _ e)) wi aj
 ·exact(h.bF j b).kp K (fun e=>bV (a _ e)) (fun e=>bV (a _ e)) wi aj
theorem fP.qe1{oZ:Own}{s:Nat}{w w':World}{S:Nat}{l:bO}{M:av}{bw bl bi:Nat}{vc:Value}(h:fP oZ s w S l M bw bl bi vc)(k:Nat)(i:k<8)(m:eH)(q:Uh s (s+4+5*k) oZ S (18+27*k) l w m w'):Le s oZ w S bw bl bi (M.eG k m) w':=by
 obtain⟨aY,l',K,hB,wi,g⟩:=q;have a:∀x,x∈[s,s+4+5*k,s+4+5*k+1]->x=s\/(s+4+5*k<=x/\x<=s+5+5*k):=fun x f=>by simp only[nP,mR,or_false]at f;omega
 have n:∀j,(M.eG k m).bF j=if j=k then m else M.bF j:=fun j=>by
  rw[dQ,h.li];by_cases b:j=k;·rw[bK ⟨b,i⟩,bK b]
  ·rw[aU (fun x=>b x.1),aU b]
 refine⟨aY,l',vc,⟨by rw[K.ext S h.cZ.lt,h.ow],h.s0,hB,?_,fun j b=>?_,fun j b=>?_,h.row.kp K (fun e=>bV (a _ e)),h.sI.kp K (fun e=>bV (a _ e)) (fun e=>bV (a _ e)),h.bP.kp K (fun e=>bV (a _ e)) (fun e=>bV (a _ e)),h.lo,(iP _ _ _).trans h.li⟩,K.mono fun x f=>wK.2 (bV (a x f))⟩;·have c:=h.cells.gN wi aj aj;exact⟨c.len,c.c0,c.c1,c.c2,c.c3,c.rC,c.gr,c.tN,c.tQ,c.pV,c.nG,c.oo,c.oQ,c.sG,c.nH,c.pW,c.vB,c.sH,c.vC,c.vD,c.oU,c.vE⟩
 ·exact(h.out j b).kp K (fun e=>bV (a _ e)) (fun e=>bV (a _ e)) (fun e=>bV (a _ e)) wi aj
 ·rw[n];by_cases d:j=k;·subst d;rw[bK rfl];exact g
  ·rw[aU d];exact(h.bF j b).kp K (fun e=>bV (a _ e)) (fun e=>bV (a _ e)) wi aj
theorem fP.EH{oZ:Own}{s:Nat}{w w':World}{S:Nat}{l l':bO}{M M':av}{bw bl bi:Nat}{vc:Value}(h:fP oZ s w S l M bw bl bi vc)(o n:Nat)(t:o+n<=4\/220<=o)(q:gM w w' S l l' o n)(r:SdL l' M' bw bl bi vc)(d:M'.outs=M.outs)(f:M'.ins=M.ins)(g:M'.aM=M.aM)(i:M'.aJ=M.aJ)(k:M'.bP=M.bP):Le s oZ w S bw bl bi M' w':=by
 have K:Kp [s] oZ oZ w w':=q.kp h.ow aP;have a:∀x,x∈[s]->x=s:=fun x c=>by simpa using c
 have p:∀j,M'.out j=M.out j:=fun j=>by unfold av.out;rw[d]
 have m:∀j,M'.bF j=M.bF j:=fun j=>by unfold av.bF;rw[f]
 refine⟨oZ,l',vc,⟨h.ow,h.s0,q.cZ,r,fun j b=>?_,fun j b=>?_,?_,?_,?_,by rw[d];exact h.lo,by rw[f];exact h.li⟩,K.mono fun x c=>wK.2 (bV (a x c))⟩;·rw[p];exact(h.out j b).kp K (fun e=>bV (a _ e)) (fun e=>bV (a _ e)) (fun e=>bV (a _ e)) q.gN aj
 ·rw[m];exact(h.bF j b).kp K (fun e=>bV (a _ e)) (fun e=>bV (a _ e)) q.gN aj
 ·rw[g];exact h.row.kp K (fun e=>bV (a _ e))
 ·rw[i];exact h.sI.kp K (fun e=>bV (a _ e)) (fun e=>bV (a _ e))
 ·rw[k];exact h.bP.kp K (fun e=>bV (a _ e)) (fun e=>bV (a _ e))
theorem fP.gr1{oZ:Own}{s:Nat}{w w':World}{S:Nat}{l l':bO}{M:av}{bw bl bi:Nat}{vc:Value}(h:fP oZ s w S l M bw bl bi vc)(g:Gn)(q:gM w w' S l l' 221 4)(a:vX l' 221 g):Le s oZ w S bw bl bi {M with gr:=g} w':=by have c:=h.cells;have e:∀j,j<221\/225<=j->l'[j]?=l[j]?:=fun j b=>q.gN.2 j aj;refine h.EH 221 4 aj q ⟨q.gN.1.trans c.len,(e _ aj).trans c.c0,(e _ aj).trans c.c1,(e _ aj).trans c.c2,(e _ aj).trans c.c3,(e _ aj).trans c.rC,a,(e _ aj).trans c.tN,(e _ aj).trans c.tQ,(e _ aj).trans c.pV,(e _ aj).trans c.nG,(e _ aj).trans c.oo,(e _ aj).trans c.oQ,(e _ aj).trans c.sG,(e _ aj).trans c.nH,(e _ aj).trans c.pW,(e _ aj).trans c.vB,(e _ aj).trans c.sH,(e _ aj).trans c.vC,(e _ aj).trans c.vD,(e _ aj).trans c.oU,(e _ aj).trans c.vE⟩ rfl rfl rfl rfl rfl
theorem fP.qe2{oZ:Own}{s:Nat}{w w':World}{S:Nat}{l l':bO}{M:av}{bw bl bi:Nat}{vc:Value}(h:fP oZ s w S l M bw bl bi vc)(k:Nat)(b:k<8)(g:Gn)(q:gM w w' S l l' (18+27*k) 4)(f:vX l' (18+27*k) g):Le s oZ w S bw bl bi (M.eG k {M.bF k with gr:=g}) w':=by refine h.qe1 k b _ ⟨oZ,l',q.kp h.ow aP,q.cZ,q.gN.mono (eB _) aj,?_⟩;obtain⟨vh,i,a,c,d⟩:=h.bF k b;have K:Kp [s] oZ oZ w w':=q.kp h.ow aP;have e:∀j,18+27*k+4<=j->l'[j]?=l[j]?:=fun j m=>q.gN.2 j aj;exact⟨vh,i,⟨f,(e _ aj).trans a.c4,(e _ aj).trans a.c5,(e _ aj).trans a.c6,(e _ aj).trans a.c7,(e _ aj).trans a.c8,(e _ aj).trans a.c9,(e _ aj).trans a.vY,(e _ aj).trans a.zU,(e _ aj).trans a.zV⟩,c.kp K (by simp;omega),d.kp K (by simp;omega)⟩
theorem fP.qe3{oZ:Own}{s:Nat}{w w':World}{S:Nat}{l l':bO}{M:av}{bw bl bi:Nat}{vc:Value}(h:fP oZ s w S l M bw bl bi vc)(k:Nat)(b:k<8)(g:Nt)(q:gM w w' S l l' (6+27*k) 4)(i:D_ l' (6+27*k) g):Le s oZ w S bw bl bi (M.dD k {M.out k with nt:=g}) w':=by refine h.Vl k b _ ⟨oZ,l',q.kp h.ow aP,q.cZ,q.gN.mono aj aj,?_⟩;obtain⟨vb,va,m,a,c,d,f⟩:=h.out k b;have K:Kp [s] oZ oZ w w':=q.kp h.ow aP;have e:∀j,j<6+27*k\/6+27*k+4<=j->l'[j]?=l[j]?:=fun j n=>q.gN.2 j aj;exact⟨vb,va,m,⟨(e _ aj).trans a.c0,(e _ aj).trans a.c1,by rw[show 4+27*k+2=6+27*k by omega];exact i,(e _ aj).trans a.c6,(e _ aj).trans a.c7,(e _ aj).trans a.c8,(e _ aj).trans a.c9,(e _ aj).trans a.vY,(e _ aj).trans a.zU,(e _ aj).trans a.zV,(e _ aj).trans a.c13⟩,c.kp K (by simp;omega),d.kp K (by simp;omega),f.kp K (by simp;omega)⟩
section
variable {oZ:Own} {s:Nat} {S:Nat} {l:bO} {M:av} {bw bl bi:Nat} {vc:Value}
theorem Q7(w:World)(h:fP oZ s w S l M bw bl bi vc)(f:Fr)(rv:Value):Calls prog 311 #[aI S 221,fM f rv] w fun e w'=>e=.returned (.tuple #[])/\Le s oZ w S bw bl bi {M with gr:=M.gr.aw f.aL} w':=
 (Gf S 221 M.gr f rv w l h.cZ h.cells.gr).mono fun _ _ ⟨a,_,q,b⟩=>⟨a,h.gr1 _ q b⟩
theorem Q8(w:World)(h:fP oZ s w S l M bw bl bi vc)(k:Nat)(a:k<8)(f:Fr)(rv:Value):Calls prog 311 #[(aI S (18+27*k)),fM f rv] w fun e w'=>e=.returned (.tuple #[])/\Le s oZ w S bw bl bi (M.eG k {M.bF k with gr:=(M.bF k).gr.aw f.aL}) w':=
 (Gf S (18+27*k) (M.bF k).gr f rv w l h.cZ (h.inL k a)).mono fun _ _ ⟨b,_,q,c⟩=>⟨b,h.qe2 k a _ q c⟩
theorem Q9(w:World)(h:fP oZ s w S l M bw bl bi vc)(k:Nat)(a:k<8)(f:Fr)(rv:Value):Calls prog 342 #[(aI S (6+27*k)),fM f rv] w fun e w'=>e=.returned (.tuple #[])/\Le s oZ w S bw bl bi (M.dD k {M.out k with nt:=(M.out k).nt.aw f.aV}) w':=
 (YI S (6+27*k) (M.out k).nt f rv w l h.cZ (h.ntL k a)).mono fun _ _ ⟨b,_,q,c⟩=>⟨b,h.qe3 k a _ q c⟩
theorem Q_(w:World)(h:fP oZ s w S l M bw bl bi vc)(k:Nat)(b:k<8)(f:Fr)(rv:Value)(a:vw (M.out k).cK)(d:ru f):Calls prog 319 #[(aI S (4+27*k)),fM f rv] w fun e w'=>e=.returned (.tuple #[])/\Le s oZ w S bw bl bi (M.dD k ((M.out k).aw f)) w':=
 (AY s (s+1+5*k) oZ S (4+27*k) (M.out k) f rv l w h.cZ h.ow aj (h.out k b) a d).mono fun _ _ ⟨c,q⟩=>⟨c,h.Vl k b _ q⟩
theorem Ra(w:World)(h:fP oZ s w S l M bw bl bi vc)(f:Fr)(rv:Value):Calls prog 396 #[aI S 221,fM f rv] w fun e w'=>e=.returned (.tuple #[])/\Le s oZ w S bw bl bi {M with gr:=M.gr.cm f.aL} w':=
 (Oa S 221 M.gr f rv w l h.cZ h.cells.gr).mono fun _ _ ⟨a,_,q,b⟩=>⟨a,h.gr1 _ q b⟩
theorem Rb(w:World)(h:fP oZ s w S l M bw bl bi vc)(k:Nat)(a:k<8)(f:Fr)(rv:Value):Calls prog 396 #[(aI S (18+27*k)),fM f rv] w fun e w'=>e=.returned (.tuple #[])/\Le s oZ w S bw bl bi (M.eG k {M.bF k with gr:=(M.bF k).gr.cm f.aL}) w':=
 (Oa S (18+27*k) (M.bF k).gr f rv w l h.cZ (h.inL k a)).mono fun _ _ ⟨b,_,q,c⟩=>⟨b,h.qe2 k a _ q c⟩
theorem Rf(w:World)(h:fP oZ s w S l M bw bl bi vc)(k:Nat)(a:k<8)(f:Fr)(rv:Value):Calls prog 394 #[(aI S (6+27*k)),fM f rv] w fun e w'=>e=.returned (.tuple #[])/\Le s oZ w S bw bl bi (M.dD k {M.out k with nt:=(M.out k).nt.cm f.aV}) w':=
 (YJ S (6+27*k) (M.out k).nt f rv w l h.cZ (h.ntL k a)).mono fun _ _ ⟨b,_,q,c⟩=>⟨b,h.qe3 k a _ q c⟩
theorem Rh(w:World)(h:fP oZ s w S l M bw bl bi vc)(k:Nat)(c:k<8)(f:Fr)(rv:Value)(b:vw (M.out k).cK)(a:vw (M.out k).aM)(g:ru f):Calls prog 391 #[(aI S (4+27*k)),fM f rv] w fun e w'=>e=.returned (.tuple #[])/\Le s oZ w S bw bl bi (M.dD k ((M.out k).cm f)) w':=
 (X_ s (s+1+5*k) oZ S (4+27*k) (M.out k) f rv l w h.cZ h.ow aj h.s0 (h.out k c) b a g).mono fun _ _ ⟨d,q⟩=>⟨d,h.Vl k c _ q⟩
theorem Vm(w:World)(h:fP oZ s w S l M bw bl bi vc)(f:Fr)(k:Nat)(d:k<8)(hs:f.aH=(k:Int))(rv:Value)(g:f.aC=4->vw (M.out k).cK/\ru f):Calls prog (xW f.aC) #[DY S k f.aC,fM f rv] w fun e w'=>e=.returned (.tuple #[])/\Le s oZ w S bw bl bi (M.eP f) w':=by
 have i:f.aH.toNat=k:=aj;unfold av.eP xW DY;rw[i];by_cases a:f.aC=4;·rw[bK a,bK a,bK a];exact Q_ w h k d f rv (g a).1 (g a).2
 ·rw[aU a,aU a,aU a];by_cases b:f.aC=3;·rw[bK b,bK b,bK b];exact Q9 w h k d f rv
  ·rw[aU b,aU b,aU b];by_cases c:f.aC=6;·rw[bK c,bK c];exact Q8 w h k d f rv
   ·rw[aU c,aU c];exact Q7 w h f rv
theorem Vn(w:World)(h:fP oZ s w S l M bw bl bi vc)(f:Fr)(k:Nat)(d:k<8)(hs:f.aH=(k:Int))(rv:Value)(g:f.aC=4->vw (M.out k).cK/\vw (M.out k).aM/\ru f):Calls prog (r_ f.aC) #[DY S k f.aC,fM f rv] w fun e w'=>e=.returned (.tuple #[])/\Le s oZ w S bw bl bi (M.dx f) w':=by
 have i:f.aH.toNat=k:=aj;unfold av.dx r_ DY;rw[i];by_cases a:f.aC=4;·rw[bK a,bK a,bK a];exact Rh w h k d f rv (g a).1 (g a).2.1 (g a).2.2
 ·rw[aU a,aU a,aU a];by_cases b:f.aC=3;·rw[bK b,bK b,bK b];exact Rf w h k d f rv
  ·rw[aU b,aU b,aU b];by_cases c:f.aC=6;·rw[bK c,bK c];exact Rb w h k d f rv
   ·rw[aU c,aU c];exact Ra w h f rv
end

end
end Go.Proofs.YtphbledmopchnaaGreatDoor.Sd
namespace Go.Proofs.YtphbledmopchnaaGreatDoor.Sd
open Go.RowKit Go.Lib Mm St Tryz
def av.pK(M:av)(j:Nat):av:=
 if j=0 then{M with gr:=M.gr.j5}else if j % 3=1 then M.dD (j / 3) (M.out (j / 3)).j5 else if j % 3=2 then M.dD (j / 3) {M.out (j / 3)with nt:=(M.out (j / 3)).nt.j5}else M.eG (j / 3-1) (iC (M.bF (j / 3-1)))
def av.uh(M:av):Nat->av
 |0=>M
 |n+1=>(M.uh n).pK n
theorem Vp{α:Type}(f:α->α):∀(A:List α) (a:α) (B:List α),md (A++a::B) A.length f=A++f a::B
 |[],_,_=>rfl
 |x::A,a,B=>congrArg (x::·) (Vp f A a B)
theorem GX{α:Type}(d:α):∀(A:List α) (a:α) (B:List α),(A++a::B).getD A.length d=a
 |[],_,_=>rfl
 |_::A,a,B=>GX d A a B
theorem JI(M:av)(g:M.outs.length=8)(hi:M.ins.length=8):∀k,k<=8->M.uh (1+3*k)={M with gr:=M.gr.j5,outs:=(M.outs.take k).map jh++M.outs.drop k,ins:=(M.ins.take k).map iC++M.ins.drop k}
 |0,_=>rfl
 |k+1,h=>by
  have d:k<M.outs.length:=aj;have c:k<M.ins.length:=aj;have e:M.outs.drop k=M.outs[k]::M.outs.drop (k+1):=eT d;have f:M.ins.drop k=M.ins[k]::M.ins.drop (k+1):=eT c;have l1:((M.outs.take k).map jh).length=k:=by rw[nA,mK];omega
  have l2:((M.ins.take k).map iC).length=k:=by rw[nA,mK];omega
  have m:(M.outs.take (k+1)).map jh=(M.outs.take k).map jh++[jh M.outs[k]]:=by rw[mI,j3 d,nI];rfl
  have n:(M.ins.take (k+1)).map iC=(M.ins.take k).map iC++[iC M.ins[k]]:=by rw[mI,j3 c,nI];rfl
  show(((M.uh (1+3*k)).pK (1+3*k)).pK (1+3*k+1)).pK (1+3*k+1+1)=_;rw[JI M g hi k aj,m,n,e,f];generalize M.outs[k]=a;generalize M.ins[k]=b;generalize (M.outs.take k).map jh=A at l1 ⊢;generalize (M.ins.take k).map iC=B at l2 ⊢;generalize M.outs.drop (k+1)=A';generalize M.ins.drop (k+1)=B';have i:∀X:av,X.pK (1+3*k)=X.dD k (X.out k).j5:=fun X=>by unfold av.pK;rw[aU aj,bK aj,show(1+3*k) / 3=k by omega]
  have j:∀X:av,X.pK (1+3*k+1)=X.dD k {X.out k with nt:=(X.out k).nt.j5}:=fun X=>by unfold av.pK;rw[aU aj,aU aj,bK aj,show(1+3*k+1) / 3=k by omega]
  have l:∀X:av,X.pK (1+3*k+1+1)=X.eG k (iC (X.bF k)):=fun X=>by unfold av.pK;rw[aU aj,aU aj,aU aj,show(1+3*k+1+1) / 3-1=k by omega]
  rw[i,j,l];subst l1;unfold av.dD av.eG av.out av.bF;simp only[Vp,GX];rw[<-l2];simp only[Vp,GX,List.append_assoc,List.cons_append,List.nil_append];rfl
theorem Ro(M:av)(a:M.outs.length=8)(hi:M.ins.length=8):M.uh 25={M with gr:=M.gr.j5,outs:=M.outs.map jh,ins:=M.ins.map iC}:=by have:=JI M a hi 8 (eB _);rw[show 1+3*8=25 from rfl]at this;rw[this,mE aj,mE aj,lg aj,lg aj,mY,mY]
theorem MO(M:av)(j k:Nat):((M.pK j).out k).aM=(M.out k).aM:=by
 unfold av.pK;split;·rfl
 ·split
  ·rw[fB];split;·rename_i h;rw[h.1];rfl
   ·rfl
  ·split
   ·rw[fB];split;·rename_i h;rw[h.1]
    ·rfl
   ·rfl
theorem CO(M:av)(k:Nat):∀j,((M.uh j).out k).aM=(M.out k).aM
 |0=>rfl
 |j+1=>(MO _ j k).trans (CO M k j)
def lT(j:Nat):Nat:=if j % 3=1 then 282 else if j % 3=2 then 335 else 336
def lP(S j:Nat):Value:=(aI S (if j=0 then 221 else if j % 3=1 then 4+27*(j / 3)else if j % 3=2 then 6+27*(j / 3)else 18+27*(j / 3-1)))
def lN(j:Nat):Nat:=if j % 3=1 then 392 else if j % 3=2 then 395 else 397
theorem Vq(S:Nat):∀k j,j<1+3*k->(bks S k)[j]?=some (.iface (lT j) (lP S j))
 |0,j,h=>by obtain rfl:j=0:=aj;rfl
 |k+1,j,h=>by
  show(bks S k++bk3 S k)[j]?=_;by_cases a:j<1+3*k;·rw[List.getElem?_append_left (by rw[Bb];exact a)];exact Vq S k j a
  ·rw[List.getElem?_append_right (by rw[Bb];omega),Bb];unfold lT lP;have b:j=1+3*k\/j=1+3*k+1\/j=1+3*k+2:=aj;rcases b with rfl|rfl|rfl;·rw[bK aj,aU aj,bK aj,Nat.sub_self,show(1+3*k) / 3=k by omega,<-show 4+k*27=4+27*k by omega];rfl
   ·rw[aU aj,bK aj,aU aj,aU aj,bK aj,show 1+3*k+1-(1+3*k)=1 by omega,show(1+3*k+1) / 3=k by omega,<-show 4+k*27+2=6+27*k by omega];rfl
   ·rw[aU aj,aU aj,aU aj,aU aj,aU aj,show 1+3*k+2-(1+3*k)=2 by omega,show(1+3*k+2) / 3-1=k by omega,<-show 4+k*27+14=18+27*k by omega];rfl
theorem YQ(S j:Nat)(w:World):(method 518 (lT j) (lP S j) "Lose").run prog w=.ok (lN j,lP S j) w:=by
 obtain⟨o,b⟩:∃o,lP S j=(aI S o):=⟨_,rfl⟩;rw[b];unfold lT lN;by_cases h1:j % 3=1;·rw[bK h1,bK h1];exact QH _ _ _
 ·by_cases a:j % 3=2;·rw[aU h1,aU h1,bK a,bK a];exact QM _ _ _
  ·rw[aU h1,aU h1,aU a,aU a];exact QS _ _ _
theorem Vr{oZ:Own}{s:Nat}{S:Nat}{l:bO}{M:av}{bw bl bi:Nat}{vc:Value}(w:World)(h:fP oZ s w S l M bw bl bi vc)(j:Nat)(d:j<25)(c:∀k,(M.out k).aM.rs.length<=1000000):Calls prog (lN j) #[lP S j] w fun e w'=>e=.returned (.tuple #[])/\jC s oZ w S bw bl bi (M.pK j) w':=by
 unfold av.pK lN lP;by_cases b:j=0;·subst b;exact Vg w h
 ·rw[aU b,aU b];by_cases h1:j % 3=1;·rw[bK h1,bK h1,bK h1];exact Vj w h _ aj (c _)
  ·rw[aU h1,aU h1,aU h1];by_cases a:j % 3=2;·rw[bK a,bK a,bK a];exact Vi w h _ aj
   ·rw[aU a,aU a,aU a];exact Vh w h _ aj
theorem fP.ways{oZ aY:Own}{s:Nat}{w w':World}{S:Nat}{l:bO}{M:av}{bw bl bi:Nat}{vc:Value}{T:List Nat}(h:fP oZ s w S l M bw bl bi vc)(K:Kp T oZ aY w w')(e:∀x∈T,x=s+42\/x=s+43\/x<s\/s+45<=x)(ls lt:List (Nat×pz))(f:sM aY (s+42) (s+44) w' bw ls)(hl:sM aY (s+43) (s+44) w' bl lt):fP aY s w' S l {M with aJ:=ls,bP:=lt} bw bl bi vc:=by have a:∀x,s<=x->x<s+42->x∉T:=fun x h1 g d=>bV (e x d);have c:=h.cells;exact⟨by rw[K.ext S h.cZ.lt,h.ow],h.s0,cO h.cZ K (by rw[h.ow];exact a _ aj aj),⟨c.len,c.c0,c.c1,c.c2,c.c3,c.rC,c.gr,c.tN,c.tQ,c.pV,c.nG,c.oo,c.oQ,c.sG,c.nH,c.pW,c.vB,c.sH,c.vC,c.vD,c.oU,c.vE⟩,fun k b=>(h.out k b).kp K (a _ aj aj) (a _ aj aj) (a _ aj aj) (kW.refl l (4+27*k+14) 0) aj,fun k b=>(h.bF k b).kp K (a _ aj aj) (a _ aj aj) (kW.refl l (18+27*k+13) 0) aj,h.row.kp K (a _ aj aj),f,hl,h.lo,h.li⟩
