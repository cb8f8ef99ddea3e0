import Derived.Test.YtphbledmopchnaaGreatDoorUgc
import Derived.Test.YtphbledmopchnaaGreatDoorUia
open Go.RowKit.Below renaming refl->fB
open Go.Builtin renaming append_->tL,zeroCells->Av
open Go.Lib renaming wpList_append_run->nI
open List renaming getElem?_append_left->mR,length_singleton->tT,length_append->uj,mem_singleton->wz
open Nat renaming le_refl->fA,le_trans->Am,zero_add->DT
set_option maxHeartbeats 4000000
set_option maxRecDepth 100000
namespace Go.Proofs.YtphbledmopchnaaGreatDoor.Sd
open Go.RowKit Go.Lib Mm Tryz
def Tv(oZ:Own)(s:Nat)(w:World)(aM window total:Nat)(C:Nat)(w':World):Prop:=
 ∃S bw bl bi aC l vc,bT aC s w' S l (Side.new aM window total) bw bl bi vc/\aA w' C 187 [ay S 0]/\aC C=0/\w.heap.size<=C/\Kp [] oZ aC w w'
theorem Tv.below{oZ:Own}{s:Nat}{w:World}{aM window total:Nat}{C:Nat}{w' w2:World}(h:Tv oZ s w aM window total C w')(hb:aD w' w2):Tv oZ s w aM window total C w2:=by
 obtain⟨S,bw,bl,bi,aC,l,vc,h1,F,G,H,I⟩:=h;exact⟨S,bw,bl,bi,aC,l,vc,h1.below hb,F.of_heap (hb.block _ F.lt),G,H,I.fK hb⟩
theorem Yw(oZ:Own)(s:Nat)(hs:0<s)(aM window total:Nat)(O:64<=aM/\aM<=400)(U:16<=window/\window<=4096)(ht:16<=total/\total<=4096)(w:World):
  Calls prog 59 #[.agg #[iZ aM,iZ window,iZ total]] w fun e w'=>∃C,e=.returned (.tuple #[ay C 0,.nilIface])/\Tv oZ s w aM window total C w':=by
 obtain⟨W,I⟩:∃W,W=w.alloc (.cells #[iZ aM,iZ window,iZ total] 45):=⟨_,rfl⟩
 have hb:aD w W:=by rw[I];exact(fB _ w).alloc (fA _) _
 have X:=au (Yv oZ s hs aM window total O U ht W)
 have Z:Hid (∀w1 S bw bl bi aC l vc,bT aC s w1 S l (Side.new aM window total) bw bl bi vc->Kp [] oZ aC W w1->Tv oZ s w aM window total w1.heap.size (w1.alloc (.cells #[ay S 0] 187))):=fun w1 S bw bl bi aC l vc h1 G=>by
  have F:aD w1 (w1.alloc (.cells #[ay S 0] 187)):=(fB _ w1).alloc (fA _) _;have K:Kp [] aC (loc aC w1.heap.size) w1 (w1.alloc (.cells #[ay S 0] 187)):=⟨F.os,F.tape,F.output,F.size,fun x H _=>F.block x H,fun x H=>fM _ _ _ H⟩;exact⟨S,bw,bl,bi,loc aC w1.heap.size,l,vc,h1.kp K (by simp),aA.new w1 187 [ay S 0],fD _ _ _ (fA _),Am hb.size G.size,((Kp.below hb).trans G).trans K⟩
 clear O U ht hb;go_enter func59,ntmps59
 go_wp2_with (go_at_call 107;rw[<-I];refine X.out.mono ?_;rintro e w1 ⟨S,bw,bl,bi,aC,l,vc,rfl,h1,G,_⟩;have V:=au (Z.out w1 S bw bl bi aC l vc h1 G);clear h1 G)
 go_ret2;exact⟨_,rfl,V.out⟩
theorem Yx(oZ:Own)(s:Nat)(hs:0<s)(aM window total:Nat)(H:64<=aM/\aM<=400)(I:16<=window/\window<=4096)(ht:16<=total/\total<=4096)(w:World):
  Calls prog 33 #[.agg #[iZ aM,iZ window,iZ total]] w fun e w'=>∃C,e=.returned (.tuple #[ay C 0,iZ 0])/\Tv oZ s w aM window total C w':=by
 obtain⟨W,G⟩:∃W,W=w.alloc (.cells #[iZ aM,iZ window,iZ total] 45):=⟨_,rfl⟩
 have hb:aD w W:=by rw[G];exact(fB _ w).alloc (fA _) _
 have O:Hid (Calls prog 59 #[.agg #[iZ aM,iZ window,iZ total]] W fun e w'=>∃C,e=.returned (.tuple #[ay C 0,.nilIface])/\Tv oZ s w aM window total C w'):=by
  refine(Yw oZ s hs aM window total H I ht W).mono ?_;rintro e w' ⟨C,rfl,S,bw,bl,bi,aC,l,vc,h1,F,V,X,Z⟩;exact⟨C,rfl,S,bw,bl,bi,aC,l,vc,h1,F,V,Am hb.size X,(Kp.below hb).trans Z⟩
 have U:Hid (∀C w1,Tv oZ s w aM window total C w1->Calls prog 60 #[.nilIface] w1 fun r w2=>r=.returned (iZ 0)/\Tv oZ s w aM window total C w2):=fun C w1 h=>by
  refine(vC .nilIface 0 (-1) w1 _ (tZ w1)).mono ?_;rintro e w' ⟨rfl,hb⟩;exact⟨rfl,h.below hb⟩
 clear H I ht hb;go_enter func33,ntmps33
 go_wp2_with (first
  |(go_at_call 59;rw[<-G];refine O.out.mono ?_;rintro e w1 ⟨C,rfl,h1⟩;have K:=au h1;clear h1)
  |(go_at_call 60;refine(U.out C w1 K.out).mono ?_;rintro e w2 ⟨rfl,F⟩))
 go_ret2;exact⟨_,rfl,F⟩
section
theorem Js{t e:TypeId}{z:Value}{b:Nat}(h1:prog.underlying t=some (.slice e))(H:(prog.info? e).map (fun i=>(i.zero,i.size,i.bytes))=some (some z,1,b))(G:z.cells=#[z])(I:z.oneCell'=true)(hb:b<=104):DC t e z 1 b:=
 ⟨h1,H,fun n=>by rw[G];simp[Av],fun n v F=>by
  rw[G]at F;simp[Av]at F;obtain⟨i,_,rfl⟩:=F
  have:i % 1=0:=by omega
  simp[this,I],hb⟩
def sty:Nat->TypeId|0=>39|1=>40|2=>41|_=>42
def ety:Nat->TypeId|0=>83|1=>78|2=>49|_=>43
def tg(f:Nat):Nat:=if 2<=f then 199+f else 180+f
def pos(f:Nat):Nat:=if f=4 then 9 else f
theorem lS(f:Nat)(F:f<5):∃z b,DC (sty f) (ety f) z 1 b:=by
 rcases(show f=0\/f=1\/f=2\/f=3\/f=4 by omega)with rfl|rfl|rfl|rfl|rfl
 ·exact⟨.pointer none,8,Js (by kernel_rfl) (by kernel_rfl) rfl rfl (by omega)⟩
 ·exact⟨nZ,24,Js (by kernel_rfl) (by kernel_rfl) rfl rfl (by omega)⟩
 ·exact⟨nZ,24,Js (by kernel_rfl) (by kernel_rfl) rfl rfl (by omega)⟩
 ·exact⟨uZ 0,8,Js (by kernel_rfl) (by kernel_rfl) rfl rfl (by omega)⟩
 ·exact⟨uZ 0,8,Js (by kernel_rfl) (by kernel_rfl) rfl rfl (by omega)⟩
theorem qbf:DC 78 77 (.pointer none) 1 8:=Js (by kernel_rfl) (by kernel_rfl) rfl rfl (by omega)
def Dw:aI:=[.string ⟨#[]⟩,.bool false,.bool false,iZ 0,iZ 0,iZ 0]
def V4(a:Ad)(v:Nat->Value):aI:=[v 0,v 1,v 2,v 3,uZ 0,iZ a.aM,iZ a.win,iZ a.tot,nZ,v 4]
structure xw (bQ:Own) (w0:World) (a:Ad) (c7 i m k:Nat) (v:Nat->Value) (l:Nat->aI) (v12:Value) (zN:aI) (oZ:Own) (w:World):Prop where
 net:aA w a.N 48 (V4 a v)/\oZ a.N=200
 cf:aA w c7 45 [iZ a.aM,iZ a.win,iZ a.tot]/\oZ c7=0
 gt:∀f,f<5->GT oZ (tg f) (ety f) 1 w (v f) (l f).length (l f)
 gi:GT oZ (184+i) 77 1 w v12 k zN
 gl:∀k',k'<k->zN[k']?=some (ay (a.e i k') 0)
 el:∀j k',j<i->k'<8->w.cell? (aj (a.el j) k')=some (ay (a.e j k') 0)/\oZ (a.el j)=184+j
 en:∀j k',(j<i/\k'<8\/j=i/\k'<k)->aA w (a.e j k') 80 Dw/\oZ (a.e j k')=210+8*j+k'
 sd:∀j,j<m->∃l vc,bT oZ (60*(j+1)) w (a.S j) l (Side.new a.aM a.win a.tot) (a.bw j) (a.bl j) (a.bi j) vc
 cn:∀j,j<m->w.cell? (aj (a.C j) 0)=some (ay (a.S j) 0)/\oZ (a.C j)=0
 px:∀j,j<(l 0).length->(l 0)[j]?=some (ay (a.C j) 0)
 pe:∀j,j<(l 1).length->(l 1)[j]?=some (aS (a.el j) 8 (a.Fy j))
 pg:∀j,j<(l 2).length->(l 2)[j]?=some nZ
 pc:∀j,j<(l 4).length->(l 4)[j]?=some (uZ 0)
 pn:∀j,j<(l 3).length->(l 3)[j]?=some (uZ 0)
 gd:Gd oZ w
 er:eF w
 o0:oZ 0=0
 kp:Kp TN bQ oZ w0 w
 im:i<=2/\m<=2/\k<=8/\(i=2->k=0)
section
variable {bQ oZ aC:Own} {w0 w w':World} {a:Ad} {c7 i m k:Nat} {v:Nat->Value} {l:Nat->aI} {v12:Value} {zN:aI} {T:List Nat}
structure BuT (oZ aC:Own) (w w':World) (T:List Nat) (a:Ad) (c7 i m k:Nat):Prop where
 cf:aA w' c7 45 [iZ a.aM,iZ a.win,iZ a.tot]/\aC c7=0
 el:∀j k',j<i->k'<8->w'.cell? (aj (a.el j) k')=some (ay (a.e j k') 0)/\aC (a.el j)=184+j
 en:∀j k',(j<i/\k'<8\/j=i/\k'<k)->aA w' (a.e j k') 80 Dw/\aC (a.e j k')=210+8*j+k'
 sd:∀j,j<m->∃l vc,bT aC (60*(j+1)) w' (a.S j) l (Side.new a.aM a.win a.tot) (a.bw j) (a.bl j) (a.bi j) vc
 cn:∀j,j<m->w'.cell? (aj (a.C j) 0)=some (ay (a.S j) 0)/\aC (a.C j)=0
 gd:Gd aC w'
 er:eF w'
 o0:aC 0=0
theorem xw.rest(h:xw bQ w0 a c7 i m k v l v12 zN oZ w)(K:Kp T oZ aC w w')(I:∀x∈T,180<=x/\(x<184\/x=184+i\/(200<=x/\x<=203)\/226<=x)):BuT oZ aC w w' T a c7 i m k:=by
 have H:0∉T:=fun e=>by have:=I _ e;omega
 have U:=h.im;refine⟨⟨aO h.cf.1 K (by rw[h.cf.2];exact H),by rw[K.ext _ h.cf.1.lt];exact h.cf.2⟩,fun j k' G V=>?_,fun j k' O=>?_,fun j G=>?_,fun j G=>?_,h.gd.kp K H,?_,?_⟩
 ·obtain⟨p,q⟩:=h.el j k' G V;have F:a.el j<w.heap.size:=World.block_lt_of_cell? w (aj (a.el j) k') (by rw[p]);exact⟨cell_of p (K.blk _ F (by rw[q];exact fun e=>by have:=I _ e;omega)),by rw[K.ext _ F];exact q⟩
 ·obtain⟨p,q⟩:=h.en j k' O;exact⟨aO p K (by rw[q];exact fun e=>by have:=I _ e;omega),by rw[K.ext _ p.lt];exact q⟩
 ·obtain⟨l',vc,p⟩:=h.sd j G;exact⟨l',vc,p.kp K fun x Z X e=>by have:=I _ e;omega⟩
 ·obtain⟨p,q⟩:=h.cn j G;have F:a.C j<w.heap.size:=World.block_lt_of_cell? w (aj (a.C j) 0) (by rw[p]);exact⟨cell_of p (K.blk _ F (by rw[q];exact H)),by rw[K.ext _ F];exact q⟩
 ·exact cell_of h.er (K.blk 0 (by have:=h.gd.sz;omega) (by rw[h.o0];exact H))
 ·rw[K.ext 0 (by have:=h.gd.sz;omega)];exact h.o0
theorem xw.kp'(h:xw bQ w0 a c7 i m k v l v12 zN oZ w)(K:Kp [] oZ aC w w'):xw bQ w0 a c7 i m k v l v12 zN aC w':=by
 have r:=h.rest K (by simp);exact⟨⟨aO h.net.1 K (by simp),by rw[K.ext _ h.net.1.lt];exact h.net.2⟩,r.cf,fun f F=>(h.gt f F).kp K (by simp),h.gi.kp K (by simp),h.gl,r.el,r.en,r.sd,r.cn,h.px,h.pe,h.pg,h.pc,h.pn,r.gd,r.er,r.o0,h.kp.trans (K.mono (by simp)),h.im⟩
theorem ZJ{f g:Nat}(F:f<5)(G:g<5)(h:g≠f):tg g∉[tg f]:=by
 unfold tg;simp;split<;>split<;>omega
theorem RX(f:Nat)(F:f<5):180<=tg f/\(tg f<184\/(201<=tg f/\tg f<=203)):=by unfold tg;split<;>omega
theorem V5(a:Ad)(v:Nat->Value)(f:Nat)(F:f<5)(x:Value):(V4 a v).set (pos f) x=V4 a (fun g=>if g=f then x else v g):=by
 rcases(show f=0\/f=1\/f=2\/f=3\/f=4 by omega)with rfl|rfl|rfl|rfl|rfl<;>rfl
theorem RY(a:Ad)(v:Nat->Value)(f:Nat)(F:f<5):(V4 a v)[pos f]?=some (v f):=by
 rcases(show f=0\/f=1\/f=2\/f=3\/f=4 by omega)with rfl|rfl|rfl|rfl|rfl<;>rfl
theorem xw.app(h:xw bQ w0 a c7 i m k v l v12 zN oZ w)(f:Nat)(H:f<5)(u:Value)(hu:u.oneCell'=true)(hl:(l f).length<=10)(hx:f=0->u=(ay (a.C (l 0).length) 0))(he:f=1->u=(aS (a.el (l 1).length) 8 (a.Fy (l 1).length)))(U:f=2->u=nZ)(hc:3<=f->u=(uZ 0)):
  ∃I n0 c0 a2 n2 c2 w6 G,v f=.slice I n0 c0/\(∀ty,(tL #[sty f,sty f] ty #[.slice I n0 c0,aS w.heap.size 1 1]).run prog (w.alloc (.cells #[u] (ety f)))=.ok (.slice a2 n2 c2) w6)/\
   w6.cell? (aj a.N (pos f))=some (.slice I n0 c0)/\w6.frozen? (aj a.N (pos f))=false/\xw bQ w0 a c7 i m k (fun g=>if g=f then .slice a2 n2 c2 else v g) (fun g=>if g=f then l f++[u]else l g) v12 zN G (w6.setCell (aj a.N (pos f)) (.slice a2 n2 c2)):=by
 obtain⟨z,b,E⟩:=lS f H;have B5:aA (w.alloc (.cells #[u] (ety f))) w.heap.size (ety f) [u]:=aA.new w (ety f) [u];have O:aD w (w.alloc (.cells #[u] (ety f))):=(fB _ w).alloc (fA _) _;have K:=h.kp' (Kp.below (T:=[]) (oZ:=oZ) O);obtain⟨I,c0,ev⟩:=fC (h.gt f H)
 obtain⟨v6,w6,G,run,hG,Z⟩:=bW E (K.gt f H) (aj w.heap.size 0) 1 1 [u] rfl (fun z hz=>by rw[wz.1 hz];exact hu) (fun t y hy=>by
  have e:(aj w.heap.size 0).add t=(aj w.heap.size t):=by rw[Addr.add_lit,DT]
  rw[e,B5.cell,hy]) (by omega)
 obtain⟨a2,c2,rfl⟩:=fC hG;have h2:=RX f H;have Oe:aA w6 a.N 48 (V4 a v):=aO K.net.1 Z (by rw[K.net.2];simp;omega)
 have V:G a.N=200:=by rw[Z.ext _ K.net.1.lt];exact K.net.2
 have K7:Kp [200] G G w6 (w6.setCell (aj a.N (pos f)) (.slice a2 ((l f).length+1) c2)):=Kp.set G w6 _ _ _ (by rw[V];simp);have X:Kp [tg f,200] oZ G w (w6.setCell (aj a.N (pos f)) (.slice a2 ((l f).length+1) c2)):=(Kp.below O).trans ((Z.mono (by simp)).trans (K7.mono (by simp)));have r:=h.rest X (by simp;omega);have h0:=h.im
 have key:∀(g j:Nat),j<(if g=f then l f++[u]else l g).length->(j<(l g).length/\(if g=f then l f++[u]else l g)[j]?=(l g)[j]?)\/(g=f/\j=(l f).length/\(if g=f then l f++[u]else l g)[j]?=some u):=fun g j F=>by
  by_cases e:g=f
  ·subst e;rw[if_pos rfl]at F ⊢;rw[uj,tT]at F
   by_cases e2:j<(l g).length
   ·exact .inl ⟨e2,mR e2⟩
   ·obtain rfl:j=(l g).length:=by omega
    exact .inr ⟨rfl,rfl,by simp⟩
  ·rw[if_neg e]at F ⊢;exact .inl ⟨F,rfl⟩
 refine⟨I,_,c0,a2,_,c2,w6,G,ev,fun ty=>by have:=run ty;rw[ev]at this;exact this,by rw[Oe.cell,RY a v f H,ev],Oe.frozen _,⟨⟨?_,V⟩,r.cf,fun g U=>?_,h.gi.kp X (by simp;omega),h.gl,r.el,r.en,r.sd,r.cn,?_,?_,?_,?_,?_,r.gd,r.er,r.o0,h.kp.trans (X.mono fun x hx=>iK.2 (by simp at hx;omega)),h.im⟩⟩
 ·rw[<-V5 a v f H];exact Oe.setCell (pos f) _
 ·by_cases e:g=f
  ·subst e;simp only[if_true,uj,tT];exact hG.kp K7 (by simp;omega)
  ·simp only[if_neg e];have:=RX g U;exact(h.gt g U).kp X (by have:=ZJ H U e;simp at this ⊢;omega)
 ·intro j F
  rcases key 0 j F with⟨p,q⟩|⟨p,q,r⟩
  ·rw[q];exact h.px j p
  ·rw[r,hx p.symm,q,<-p]
 ·intro j F
  rcases key 1 j F with⟨p,q⟩|⟨p,q,r⟩
  ·rw[q];exact h.pe j p
  ·rw[r,he p.symm,q,<-p]
 ·intro j F
  rcases key 2 j F with⟨p,q⟩|⟨p,q,r⟩
  ·rw[q];exact h.pg j p
  ·rw[r,U p.symm]
 ·intro j F
  rcases key 4 j F with⟨p,q⟩|⟨p,q,r⟩
  ·rw[q];exact h.pc j p
  ·rw[r,hc (by omega)]
 ·intro j F
  rcases key 3 j F with⟨p,q⟩|⟨p,q,r⟩
  ·rw[q];exact h.pn j p
  ·rw[r,hc (by omega)]
end

end
section
section
variable {bQ oZ aC:Own} {w0 w w':World} {a:Ad} {c7 i m k:Nat} {v:Nat->Value} {l:Nat->aI} {v12:Value} {zN:aI}
def Ad.side(a:Ad)(m C S bw bl bi:Nat):Ad:={a with C:=fun j=>if j=m then C else a.C j,S:=fun j=>if j=m then S else a.S j,bw:=fun j=>if j=m then bw else a.bw j,bl:=fun j=>if j=m then bl else a.bl j,bi:=fun j=>if j=m then bi else a.bi j}
theorem xw.side(h:xw bQ w0 a c7 i m k v l v12 zN oZ w)(X:m<2)(hl:(l 0).length=m){C:Nat}(U:Tv oZ (60*(m+1)) w a.aM a.win a.tot C w'):
  ∃S bw bl bi aC,xw bQ w0 (a.side m C S bw bl bi) c7 i (m+1) k v l v12 zN aC w':=by
 obtain⟨S,bw,bl,bi,aC,ls,vc,h1,I,K,V,O⟩:=U;have g:=h.kp' O;have F:=g.im;refine⟨S,bw,bl,bi,aC,g.net,g.cf,g.gt,g.gi,g.gl,g.el,g.en,fun j G=>?_,fun j G=>?_,fun j G=>?_,g.pe,g.pg,g.pc,g.pn,g.gd,g.er,g.o0,g.kp,F.1,by omega,F.2.2⟩
 ·by_cases e:j=m
  ·subst e;refine⟨ls,vc,?_⟩;unfold Ad.side;simp only[if_true];exact h1
  ·obtain⟨l',H,p⟩:=g.sd j (by omega);refine⟨l',H,?_⟩;unfold Ad.side;simp only[if_neg e];exact p
 ·unfold Ad.side
  by_cases e:j=m
  ·simp only[if_pos e];exact⟨I.cell 0,K⟩
  ·simp only[if_neg e];exact g.cn j (by omega)
 ·unfold Ad.side
  have e:j≠m:=by omega
  simp only[if_neg e];exact g.px j G
def Ad.NV(a:Ad)(i k b:Nat):Ad:={a with e:=fun j k'=>if j=i/\k'=k then b else a.e j k'}
theorem xw.NV(h:xw bQ w0 a c7 i m k v l v12 zN oZ w)(hk:k<8)(hi:i<2):
  ∃a0 c0 a2 c2 w6 V,v12=.slice a0 k c0/\(∀ty,(tL #[78,78] ty #[.slice a0 k c0,(aS (w.heap.size+1) 1 1)]).run prog ((w.alloc (.cells Dw.toArray 80)).alloc (.cells #[ay w.heap.size 0] 77))=.ok (.slice a2 (k+1) c2) w6)/\
   xw bQ w0 (a.NV i k w.heap.size) c7 i m (k+1) v l (.slice a2 (k+1) c2) (zN++[ay w.heap.size 0]) V w6:=by
 obtain⟨a0,c0,ev⟩:=fC h.gi;obtain⟨w1,G⟩:∃w1,w1=w.alloc (.cells Dw.toArray 80):=⟨_,rfl⟩
 obtain⟨U,h0⟩:∃U:Own,U=fun x=>if x=w.heap.size then 210+8*i+k else oZ x:=⟨_,rfl⟩
 have F:aD w w1:=by rw[G];exact(fB _ w).alloc (fA _) _
 have h2:w1.heap.size=w.heap.size+1:=by rw[G];simp
 have K1:Kp [] oZ U w w1:=⟨F.os,F.tape,F.output,F.size,fun b hb _=>F.block b hb,fun b hb=>by rw[h0];exact if_neg (by omega)⟩;have g1:=h.kp' K1
 have B1:aA w1 w.heap.size 80 Dw:=by rw[G];exact aA.new w 80 Dw
 have oB:U w.heap.size=210+8*i+k:=by rw[h0];exact if_pos rfl
 obtain⟨w2,O⟩:∃w2,w2=w1.alloc (.cells [ay w.heap.size 0].toArray 77):=⟨_,rfl⟩
 have K:aD w1 w2:=by rw[O];exact(fB _ w1).alloc (fA _) _
 have B2:aA w2 w1.heap.size 77 [ay w.heap.size 0]:=by rw[O];exact aA.new w1 77 _
 have H:=g1.kp' (Kp.below (T:=[]) (oZ:=U) K)
 obtain⟨v6,w6,V,run,hG,I⟩:=bW qbf H.gi (aj w1.heap.size 0) 1 1 [ay w.heap.size 0] rfl (fun z hz=>by rw[wz.1 hz];rfl) (fun t y hy=>by
  have e:(aj w1.heap.size 0).add t=(aj w1.heap.size t):=by rw[Addr.add_lit,DT]
  rw[e,B2.cell,hy]) (by omega)
 obtain⟨a2,c2,rfl⟩:=fC hG;have r:=H.rest I (by simp;omega);have Oe:aA w6 a.N 48 (V4 a v):=aO H.net.1 I (by rw[H.net.2];simp;omega)
 have h5:V a.N=200:=by rw[I.ext _ H.net.1.lt];exact H.net.2
 have X:=h.im;have B6:aA w6 w.heap.size 80 Dw:=aO (B1.of_heap (K.block _ B1.lt)) I (by rw[oB];simp;omega)
 have h4:V w.heap.size=210+8*i+k:=by rw[I.ext _ (by have:=K.size;omega)];exact oB
 have h3:zN.length=k:=by have:=h.gi.len;omega
 refine⟨a0,c0,a2,c2,w6,V,ev,fun ty=>by have:=run ty;rw[ev,h2,O,G]at this;exact this,?_⟩;refine⟨⟨Oe,h5⟩,r.cf,fun f hf=>(H.gt f hf).kp I (by have:=RX f hf;simp;omega),hG,fun k' Z=>?_,fun j k' hj Z=>?_,fun j k' h6=>?_,r.sd,r.cn,h.px,h.pe,h.pg,h.pc,h.pn,r.gd,r.er,r.o0,H.kp.trans (I.mono fun x hx=>iK.2 (by simp at hx;omega)),X.1,X.2.1,by omega,fun e=>by omega⟩
 ·show _=some (Value.pointer (some (aj (if i=i/\k'=k then w.heap.size else a.e i k') 0)))
  by_cases e:k'=k
  ·rw[if_pos ⟨rfl,e⟩,List.getElem?_append_right (by omega),h3,e,Nat.sub_self];rfl
  ·rw[if_neg (fun h=>e h.2),mR (by omega)];exact h.gl k' (by omega)
 ·unfold Ad.NV
  have e':¬(j=i/\k'=k):=fun h=>by omega
  simp only[if_neg e'];exact r.el j k' hj Z
 ·unfold Ad.NV
  by_cases e:j=i/\k'=k
  ·obtain⟨rfl,rfl⟩:=e;simp only[and_self,if_true];exact⟨B6,h4⟩
  ·simp only[if_neg e];exact r.en j k' (by omega)
def Ad.elp(a:Ad)(i g c:Nat):Ad:={a with el:=fun j=>if j=i then g else a.el j,Fy:=fun j=>if j=i then c else a.Fy j}
theorem xw.close(h:xw bQ w0 a c7 i m 8 v l v12 zN oZ w)(hi:i<2)(hl:(l 1).length=i):
  ∃g c,v12=(aS g 8 c)/\xw bQ w0 (a.elp i g c) c7 (i+1) m 0 v l nZ [] oZ w:=by
 rcases h.gi with⟨_,e,_⟩|⟨g,cap,cs,ev,ho,hB,hc1,hc2,hc3,hc4,Fp,_⟩
 ·cases e
 have G:=h.im;refine⟨g,cap,ev,h.net,h.cf,h.gt,.inl ⟨rfl,rfl,rfl⟩,fun k' F=>by omega,fun j k' H F=>?_,fun j k' I=>h.en j k' (by omega),h.sd,h.cn,h.px,fun j H=>?_,h.pg,h.pc,h.pn,h.gd,h.er,h.o0,h.kp,by omega,G.2.1,by omega,fun _=>rfl⟩
 ·unfold Ad.elp
  by_cases e:j=i
  ·subst e;simp only[if_true];refine⟨?_,ho⟩;rw[hB.cell];have:=h.gl k' F;rw[<-Fp,List.getElem?_take,if_pos (by omega)]at this;exact this
  ·simp only[if_neg e];exact h.el j k' (by omega) F
 ·unfold Ad.elp
  have e:j≠i:=by omega
  simp only[if_neg e];exact h.pe j H
theorem Gm{t:Nat}{e:TypeId}{x:Value}{n:Nat}{l:aI}(h:GT oZ t e 1 w x n l)(I:0<n):∃g c,x=(aS g n c)/\oZ g=t/\(∀j y,l[j]?=some y->w.cell? (aj g j)=some y)/\∃r,aA w g e (l++r):=by
 rcases h with⟨_,e,_⟩|⟨g,cap,cs,rfl,ho,hB,hc1,hc2,hc3,hc4,Fp,_⟩
 ·omega
 have F:cs=l++cs.drop (n*1):=by rw[<-Fp,List.take_append_drop]
 rw[F]at hB;refine⟨g,cap,rfl,ho,fun j y G=>?_,_,hB⟩;have H:j<l.length:=(List.getElem?_eq_some_iff.1 G).1;rw[hB.cell,mR H,G]
theorem Sn(aM win tot j k:Nat)(F:k<8):Dw=ends (Net.new aM win tot) j k:=by
 rcases(show k=0\/k=1\/k=2\/k=3\/k=4\/k=5\/k=6\/k=7 by omega)with rfl|rfl|rfl|rfl|rfl|rfl|rfl|rfl<;>rfl
theorem Jv{l:aI}{x y:Value}(F:l[0]?=some x)(h1:l[1]?=some y)(G:l.length=2):l=[x,y]:=by
 match l,G with
 |[a,b],_=>
  simp at F h1;rw[F,h1]
theorem xw.done(h:xw bQ w0 a c7 2 2 0 v l v12 zN oZ w)(hl:∀f,f<5->(l f).length=2):∃H vb,H.N=a.N/\H.aM=a.aM/\bL oZ w H (Net.new a.aM a.win a.tot) vb (ends (Net.new a.aM a.win a.tot)):=by
 have G:=fun f hf=>h.gt f hf
 obtain⟨I,c0,Z,o0,f0,_⟩:=Gm (h.gt 0 (by omega)) (by rw[hl 0 (by omega)];omega);obtain⟨K,c1,e1,o1,f1,_⟩:=Gm (h.gt 1 (by omega)) (by rw[hl 1 (by omega)];omega);obtain⟨g2,c2,e2,o2,f2,r2,U⟩:=Gm (h.gt 2 (by omega)) (by rw[hl 2 (by omega)];omega);obtain⟨g3,c3,e3,o3,f3,r3,V⟩:=Gm (h.gt 3 (by omega)) (by rw[hl 3 (by omega)];omega);obtain⟨g4,c4,e4,o4,f4,r4,X⟩:=Gm (h.gt 4 (by omega)) (by rw[hl 4 (by omega)];omega);have O:=h.net.1;unfold V4 at O;rw[Z,e1,e2,e3,e4,hl 0 (by omega),hl 1 (by omega),hl 2 (by omega),hl 3 (by omega),hl 4 (by omega)]at O;refine⟨{a with xb:=I,xc:=c0,eb:=K,ec:=c1,gb:=g2,gc:=c2,nb:=g3,nc:=c3,cb:=g4,cc:=c4},nZ,rfl,rfl,⟨O,h.net.2⟩,fun i hi=>⟨f0 i _ (h.px i (by rw[hl 0 (by omega)];exact hi)),?_⟩,fun i hi=>⟨f1 i _ (h.pe i (by rw[hl 1 (by omega)];exact hi)),?_⟩,fun i k hi F=>⟨(h.el i k hi F).1,?_⟩,fun i k hi F=>?_,⟨⟨nZ,r2,?_⟩,o2⟩,⟨[],.inl ⟨rfl,rfl,rfl⟩⟩,⟨⟨uZ 0,r3,?_⟩,o3⟩,⟨⟨r4,?_⟩,o4⟩,.inl ⟨rfl,rfl,rfl⟩,fun i hi=>h.sd i hi,fun i hi=>h.cn i hi,h.gd,h.er,h.o0⟩
 ·show 180<=oZ I/\oZ I<200;rw[o0];decide
 ·show 180<=oZ K/\oZ K<200;rw[o1];decide
 ·show 180<=oZ (a.el i)/\oZ (a.el i)<200;rw[(h.el i k hi F).2];omega
 ·obtain⟨p,q⟩:=h.en i k (.inl ⟨hi,F⟩);rw[Sn a.aM a.win a.tot i k F]at p;exact⟨p,q⟩
 ·rw[Jv (h.pg 0 (by rw[hl 2 (by omega)];omega)) (h.pg 1 (by rw[hl 2 (by omega)];omega)) (hl 2 (by omega))]at U;exact U
 ·rw[Jv (h.pn 0 (by rw[hl 3 (by omega)];omega)) (h.pn 1 (by rw[hl 3 (by omega)];omega)) (hl 3 (by omega))]at V;exact V
 ·rw[Jv (h.pc 0 (by rw[hl 4 (by omega)];omega)) (h.pc 1 (by rw[hl 4 (by omega)];omega)) (hl 4 (by omega))]at X;exact X
end

end
section
section
variable {bQ oZ:Own} {w0 w:World} {a:Ad} {c7 i m k:Nat} {v:Nat->Value} {l:Nat->aI} {v12:Value} {zN:aI}
theorem xw.app'(h:xw bQ w0 a c7 i m k v l v12 zN oZ w)(N:Nat)(X:a.N=N)(f p s e:Nat)(I:f<5)(hp:pos f=p)(hs:sty f=s)(he:ety f=e)(u:Value)(hu:u.oneCell'=true)(hl:(l f).length<=10)(hx:f=0->u=(ay (a.C (l 0).length) 0))(V:f=1->u=(aS (a.el (l 1).length) 8 (a.Fy (l 1).length)))(H:f=2->u=nZ)(Z:3<=f->u=(uZ 0)):
  ∃F n0 c0 a2 n2 c2 w6 W G v' l',w.cell? (aj N p)=some (.slice F n0 c0)/\(∀ty,(tL #[s,s] ty #[.slice F n0 c0,aS w.heap.size 1 1]).run prog (w.alloc (.cells #[u] e))=.ok (.slice a2 n2 c2) w6)/\
   w6.cell? (aj N p)=some (.slice F n0 c0)/\w6.frozen? (aj N p)=false/\w6.setCell (aj N p) (.slice a2 n2 c2)=W/\Hid (xw bQ w0 a c7 i m k v' l' v12 zN G W)/\Hid ((l' f).length=(l f).length+1/\∀g,g≠f->l' g=l g):=by
 subst hp hs he X;obtain⟨F,n0,c0,a2,n2,c2,w6,G,O,run,K,f6,U⟩:=h.app f I u hu hl hx V H Z;refine⟨F,n0,c0,a2,n2,c2,w6,_,G,_,_,by rw[h.net.1.cell,RY a v f I,O],run,K,f6,rfl,U,by simp,fun g H=>?_⟩;simp only[if_neg H]
end

def NwN(w:World)(mt wi tt:Nat)(p:Value)(w':World):Prop:=∃a oZ vb,p=(ay a.N 0)/\a.aM=mt/\bL oZ w' a (Net.new mt wi tt) vb (ends (Net.new mt wi tt))/\Kp TN (fun _=>0) oZ w w'
structure BuL (w0:World) (N mt wi tt c7 i:Nat) (w:World):Prop where
 ex:∃a v l oZ,a.N=N/\a.aM=mt/\a.win=wi/\a.tot=tt/\xw (fun _=>0) w0 a c7 i i 0 v l nZ [] oZ w/\∀f,f<5->(l f).length=i
def BuK(w0:World)(N mt wi tt c7 i k:Nat)(v12:Value)(w:World):Prop:=∃a v l zN oZ,a.N=N/\a.aM=mt/\a.win=wi/\a.tot=tt/\xw (fun _=>0) w0 a c7 i (i+1) k v l v12 zN oZ w/\(l 0).length=i+1/\∀f,f≠0->f<5->(l f).length=i
theorem WC(w:World)(mt wi tt:Nat)(hE:eF w)(hT:TabAt w)(Z:2<=w.heap.size):
  BuL w (w.heap.size+1) mt wi tt w.heap.size 0 ((w.alloc (.cells #[iZ mt,iZ wi,iZ tt] 45)).alloc (.cells #[nZ,nZ,nZ,nZ,uZ 0,iZ mt,iZ wi,iZ tt,nZ,nZ] 48)):=by
 obtain⟨w1,G⟩:∃w1,w1=w.alloc (.cells [iZ mt,iZ wi,iZ tt].toArray 45):=⟨_,rfl⟩
 have I:aD w w1:=by rw[G];exact(fB _ w).alloc (fA _) _
 have B1:aA w1 w.heap.size 45 [iZ mt,iZ wi,iZ tt]:=by rw[G];exact aA.new w 45 _
 have U:w1.heap.size=w.heap.size+1:=by rw[G];simp
 let a:Ad:=⟨w.heap.size+1,0,0,0,0,0,0,0,0,0,0,fun _=>0,fun _=>0,fun _ _=>0,fun _=>0,fun _=>0,fun _=>0,fun _=>0,fun _=>0,mt,wi,tt⟩
 obtain⟨w2,H⟩:∃w2,w2=w1.alloc (.cells (V4 a (fun _=>nZ)).toArray 48):=⟨_,rfl⟩
 have K:aD w1 w2:=by rw[H];exact(fB _ w1).alloc (fA _) _
 have V:aA w2 w1.heap.size 48 (V4 a (fun _=>nZ)):=by rw[H];exact aA.new w1 48 _
 rw[U]at V;have hb:aD w w2:=I.trans (K.mono I.size)
 have key:BuL w (w.heap.size+1) mt wi tt w.heap.size 0 w2:=by
  refine⟨a,fun _=>nZ,fun _=>[],fun x=>if x=w.heap.size+1 then 200 else 0,rfl,rfl,rfl,rfl,⟨⟨V,if_pos rfl⟩,⟨B1.of_heap (K.block _ B1.lt),if_neg (by omega)⟩,fun f hf=>.inl ⟨rfl,rfl,rfl⟩,.inl ⟨rfl,rfl,rfl⟩,fun k' X=>by omega,fun j k' F _=>by omega,fun j k' F=>by omega,fun j F=>by omega,fun j F=>by omega,fun j F=>by simp at F,fun j F=>by simp at F,fun j F=>by simp at F,fun j F=>by simp at F,fun j F=>by simp at F,?_,?_,if_neg (by omega),?_,by omega,by omega,by omega,fun _=>rfl⟩,fun f hf=>rfl⟩
  ·exact⟨fun k X=>cell_of (hT k X) (hb.block 1 (by omega)),if_neg (by omega),Am Z hb.size⟩
  ·exact cell_of hE (hb.block 0 (by omega))
  ·exact⟨hb.os,hb.tape,hb.output,hb.size,fun b O _=>hb.block b O,fun b O=>if_neg (by omega)⟩
 rw[H,G]at key;exact key
theorem Gp(cm cw ct:Int)(hm:nN cm)(hw:nN cw)(ht:nN ct)(w:World)(hE:eF w)(hT:TabAt w)(h2:2<=w.heap.size):
  Calls prog 21 #[iZ cm,iZ cw,iZ ct] w fun e w'=>∃p,e=.returned p/\NwN w (64+bX cm 337) (16+bX cw 300) (16+bX ct 600) p w':=by
 have l1:=fI cm 337 (by omega);have l2:=fI cw 300 (by omega);have l3:=fI ct 600 (by omega);obtain⟨mt,hj⟩:∃mt,mt=64+bX cm 337:=⟨_,rfl⟩;obtain⟨wi,hr⟩:∃wi,wi=16+bX cw 300:=⟨_,rfl⟩;obtain⟨tt,ho⟩:∃tt,tt=16+bX ct 600:=⟨_,rfl⟩;rw[<-hj,<-hr,<-ho];have V:=au (WC w mt wi tt hE hT h2)
 have q1:(64:Int)+((bX cm 337:Nat):Int)=(mt:Int):=by omega
 have q2:(16:Int)+((bX cw 300:Nat):Int)=(wi:Int):=by omega
 have q3:(16:Int)+((bX ct 600:Nat):Int)=(tt:Int):=by omega
 have b1:mt<=400:=by omega
 have b2:wi<=400:=by omega
 have b3:tt<=700:=by omega
 have b4:64<=mt/\16<=wi/\16<=tt:=by omega
 have HB:=au b4;clear hE hT h2 hj hr ho b4;go_enter func21,ntmps21
 go_wp2_with (go_at_call 32;refine(iH _ _ (by assumption) (by decide) _).mono ?_;rintro ee w4 ⟨rfl,xj⟩;subst xj)
 generalize hN:w4.heap.size+1=N at *;generalize xe:w4.heap.size=c7 at *;clear hN xe q1 q2 q3 l1 l2 l3
 go_loopw [9] (fun s9 wr=>∃i:Nat,i<=2/\s9=(iZ i)/\Hid (BuL w4 N mt wi tt c7 i wr)) (fun s9 _=>2-(intOf s9).toNat)
 case atStart=>exact⟨0,by omega,rfl,V⟩
 case round=>
  obtain⟨i,hi,rfl,HR⟩:=hrel;clear V
  by_cases h9:i<2
  ·have xn:(i:Int)<2:=by omega
   obtain⟨a,v,l,oZ,hg,rfl,rfl,rfl,Z,hl⟩:=HR.out.ex;have hc:=au hg;clear hg;have c0:=Z.cf.1.cell 0;have c1:=Z.cf.1.cell 1;have c2:=Z.cf.1.cell 2;simp only[List.getElem?_cons_zero,List.getElem?_cons_succ]at c0 c1 c2;have V:=au hl;have H0:=au Z;have hb:=HB.out;have HN:=au (Yx oZ (60*(i+1)) (by omega) a.aM a.win a.tot (by omega) (by omega) (by omega) wr);clear hl Z hb HR
   go_wp2_with (first
    |(
      go_at_call 33
      refine HN.out.mono ?_;rintro e w3 ⟨C,rfl,hn⟩;obtain⟨S,bw,bl,bi,nP,h3⟩:=H0.out.side h9 (V.out 0 (by omega)) hn;obtain⟨a0,n0,k0,a2,n2,k2,w6,W,gq,v',l',d3,run,d6,f6,hW,h6,h8⟩:=h3.app' N hc.out 0 0 39 83 (by omega) rfl rfl rfl (ay C 0) rfl (by rw[V.out 0 (by omega)];omega) (fun _=>by rw[V.out 0 (by omega)];unfold Ad.side;simp) (fun e=>by omega) (fun e=>by omega) (fun e=>by omega)
      clear hn h3)
    |(at_builtin;refine nI _ rfl _ _ _ _ rfl _ _ rfl rfl _ _ (run _) ?_))
   have he:Hid (BuK w4 N a.aM a.win a.tot c7 i 0 nZ W):=⟨a.side i C S bw bl bi,v',l',[],gq,hc.out,rfl,rfl,rfl,h6.out,by rw[h8.out.1,V.out 0 (by omega)],fun f hf xf=>by rw[h8.out.2 f hf];exact V.out f xf⟩;clear h6 h8 hW d6 f6 d3 run H0 V HN c0 c1 c2
   go_loopw [12,13] (fun xm ha wr=>∃k:Nat,k<=8/\ha=(iZ k)/\Hid (BuK w4 N a.aM a.win a.tot c7 i k xm wr)) (fun _ ha _=>8-(intOf ha).toNat)
   case atStart=>exact⟨0,by omega,rfl,he⟩
   case round=>
    obtain⟨k,hk,rfl,X⟩:=hrel;clear he
    by_cases xi:k<8
    ·have ZO:(k:Int)<8:=by omega
     obtain⟨a1,v1,l1,zN,bD,G,e2,e3,e4,h1,H,F⟩:=X.out;obtain⟨a0,c0,a2,c2,w7,xl,ev,run,h7⟩:=h1.NV xi h9;have xd:Hid (BuK w4 N a.aM a.win a.tot c7 i (k+1) (.slice a2 (k+1) c2) w7):=⟨a1.NV i k wr.heap.size,v1,l1,_,xl,G,e2,e3,e4,h7,H,F⟩;subst ev;unfold Dw at run;clear G e2 e3 e4 h1 h7 H F X
     go_wp2_with (first|(at_builtin;refine nI _ rfl _ _ _ _ rfl _ _ rfl rfl _ _ (run _) ?_)|go_in)
     go_roundw
     case rel=>exact⟨k+1,by omega,by simp,xd⟩
     case measure=>simp[intOf];omega
    ·obtain rfl:k=8:=by omega
     obtain⟨a1,v1,l1,zN,bD,G,e2,e3,e4,h1,H,F⟩:=X.out;obtain⟨g,c,ev,h2⟩:=h1.close h9 (F 1 (by omega) (by omega));obtain⟨x0,x1,x2,y0,y1,y2,z0,W1,o1,v2,l2,d1,jQ,t1,f1,xo,h3,q3⟩:=h2.app' N G 1 1 40 78 (by omega) rfl rfl rfl (aS g 8 c) rfl (by rw[F 1 (by omega) (by omega)];omega) (fun e=>by omega) (fun _=>by rw[F 1 (by omega) (by omega)];unfold Ad.elp;simp) (fun e=>by omega) (fun e=>by omega);obtain⟨hu,I⟩:=q3.out
     have r2:(l2 2).length=i:=by rw[I 2 (by omega)];exact F 2 (by omega) (by omega)
     obtain⟨x3,x4,x5,y3,y4,y5,z1,W2,o2,v3,l3,d2,vo,t2,f2,xp,h4,q4⟩:=h3.out.app' N G 2 2 41 49 (by omega) rfl rfl rfl nZ rfl (by omega) (fun e=>by omega) (fun e=>by omega) (fun _=>rfl) (fun e=>by omega);obtain⟨hv,K⟩:=q4.out
     have r3:(l3 3).length=i:=by rw[K 3 (by omega),I 3 (by omega)];exact F 3 (by omega) (by omega)
     obtain⟨x6,x7,x8,y6,y7,y8,z2,W3,o3,v4,l4,d3,Yy,t3,f3,xr,h5,q5⟩:=h4.out.app' N G 3 3 42 43 (by omega) rfl rfl rfl (uZ 0) rfl (by omega) (fun e=>by omega) (fun e=>by omega) (fun e=>by omega) (fun _=>rfl);obtain⟨hx,O⟩:=q5.out
     have r4:(l4 4).length=i:=by rw[O 4 (by omega),K 4 (by omega),I 4 (by omega)];exact F 4 (by omega) (by omega)
     obtain⟨x9,xa,xb,y9,ya,yb,z3,W4,o4,v5,l5,d4,ZR,t4,f4,um,h6,q6⟩:=h5.out.app' N G 4 9 42 43 (by omega) rfl rfl rfl (uZ 0) rfl (by omega) (fun e=>by omega) (fun e=>by omega) (fun e=>by omega) (fun _=>rfl);obtain⟨hy,U⟩:=q6.out
     have HE:Hid (BuL w4 N a.aM a.win a.tot c7 (i+1) W4):=⟨a1.elp i g c,v5,l5,o4,G,e2,e3,e4,h6.out,fun f hf=>by
      rcases(show f=0\/f=1\/f=2\/f=3\/f=4 by omega)with rfl|rfl|rfl|rfl|rfl
      ·rw[U 0 (by omega),O 0 (by omega),K 0 (by omega),I 0 (by omega)];exact H
      ·rw[U 1 (by omega),O 1 (by omega),K 1 (by omega),hu,F 1 (by omega) (by omega)]
      ·rw[U 2 (by omega),O 2 (by omega),hv,r2]
      ·rw[U 3 (by omega),hx,r3]
      ·rw[hy,r4]⟩
     subst ev;clear h1 h2 h3 h4 h5 h6 q3 q4 q5 q6 hu I hv K hx O hy U r2 r3 r4 H F G e2 e3 e4 X
     go_wp2_with (first
      |(at_builtin;refine nI _ rfl _ _ _ _ rfl _ _ rfl rfl _ _ (jQ _) ?_;clear jQ;(try have jQ:=vo);(try clear vo);(try have vo:=Yy);(try clear Yy);(try have Yy:=ZR);(try clear ZR))
      |go_in)
     go_roundw
     case rel=>exact⟨i+1,by omega,by simp,HE⟩
     case measure=>simp[intOf];omega
  ·obtain rfl:i=2:=by omega
   obtain⟨a,v,l,oZ,rfl,rfl,rfl,rfl,Z,hl⟩:=HR.out.ex;obtain⟨a',vb,G,e2,hM⟩:=Z.done hl;have HE:Hid (NwN w4 a.aM a.win a.tot (ay a.N 0) wr):=⟨a',oZ,vb,by rw[G],e2,hM,Z.kp⟩;clear Z hl hM G e2 HR;go_wp2;go_ret;exact⟨_,rfl,HE.out⟩
end
theorem zP{oZ:Own}{w w':World}(K:Kp TN (fun _=>0) oZ w w'):aD w w':=
 ⟨K.os,K.tape,K.output,K.size,fun b hb=>K.blk b hb WZ⟩
theorem Dy(n:Nat)(h:n<=1000):nN (n:Int):=by unfold nN;omega
theorem YA(aM win tot B:Nat)(h:B<=1000000):rR (Net.new aM win tot) B:=⟨fun i _=>by
 show 0+24*(B+1)<aZ/\0+B<_
 unfold aZ;omega,by show 0+B<_;omega⟩
theorem Sy(w:World)(hE:eF w)(hT:TabAt w)(I:2<=w.heap.size):
  Calls prog 15 #[] w fun e w'=>e=.returned (.bool true)/\aD w w':=by
 have i0:nN 0:=Dy 0 (by omega);have i3:nN 3:=Dy 3 (by omega);have ZW:nN 100:=Dy 100 (by omega)
 have HB:Hid (Calls prog 21 #[iZ 0,iZ 100,iZ 100] w fun e w'=>∃N,e=.returned (ay N 0)/\Hid (∃a oZ vb,a.N=N/\a.aM=64/\bL oZ w' a (Net.new 64 116 116) vb (ends (Net.new 64 116 116))/\Kp TN (fun _=>0) oZ w w')):=by
  refine(Gp 0 100 100 i0 ZW ZW w hE hT I).mono ?_;rintro e w' ⟨p,rfl,a,oZ,vb,rfl,e1,h1,I⟩;exact⟨a.N,rfl,a,oZ,vb,rfl,e1,h1,I⟩
 clear hE hT I;go_enter func15,ntmps15
 go_wp2_with (go_at_call 21;refine HB.out.mono ?_;rintro e w1 ⟨N,rfl,h1⟩)
 obtain⟨a,oZ,vb,rfl,h8,hN,hK⟩:=h1.out;clear h1 HB
 have F:eY a.aM (Net.new 64 116 116):=by rw[h8];exact zK 64 116 116 (by omega) (by omega) (by omega)
 have q1:bX 0 2=0:=rfl;have q2:bX 3 8=3:=rfl;have G:eY a.aM ((Net.new 64 116 116).jJ 0 3 wS):=jI F 0 (by omega) _ (D8 (F.loc 0 (by omega)) (F.two 0 (by omega)) (F.two' 0 (by omega)) _ _) (J7 (F.bd 0 (by omega)) _ _) rfl rfl;have V:eY a.aM wN:=jI G 0 (by omega) _ (G9 (G.loc 0 (by omega)) (G.two 0 (by omega)) (G.two' 0 (by omega)) _) (LZ (G.bd 0 (by omega)) _) rfl rfl
 have HA:Hid (Calls prog 22 #[ay a.N 0,.agg #[iZ 1,iZ 0,iZ 3,iZ 0,.string wS]] w1 fun e w2=>e=.returned (.bool true)/\Hid (nL oZ w1 a ((Net.new 64 116 116).jJ 0 3 wS) w2)):=by
  have:=KP hN F 0 3 0 i0 i3 wS (by decide);rw[q1,q2]at this;exact this
 have HF:Hid (∀w2,nL oZ w1 a ((Net.new 64 116 116).jJ 0 3 wS) w2->Calls prog 22 #[ay a.N 0,.agg #[iZ 2,iZ 0,iZ 3,iZ 0,.string ⟨#[]⟩]] w2 fun e O=>e=.returned (.bool true)/\Hid (nL oZ w1 a wN O)):=fun w2 I=>by
  obtain⟨o,h0,U,K⟩:=I;have:=NR U G 0 3 0 i0 i3 ⟨#[]⟩;rw[q1,q2]at this;refine this.mono ?_;rintro e O ⟨rfl,q⟩;exact⟨rfl,q.then K⟩
 have HR:Hid (∀O,nL oZ w1 a wN O->Calls prog 18 #[ay a.N 0,iZ 4] O fun e H=>e=.returned (.bool true)/\Hid (∃n',Wd n'/\nL oZ w1 a n' H)):=fun O U=>by
  obtain⟨o,h0,K,h5⟩:=U;have h9:rR ((Net.new 64 116 116).jJ 0 3 wS) 12:=rR.bY (YA 64 116 116 12 (by omega)) 0 (M:=((Net.new 64 116 116).x 0).bf 3 ((((Net.new 64 116 116).x 0).out 3).send wS.data.toList).1) rfl rfl;have hb:rR wN 12:=rR.bY h9 0 (M:=((((Net.new 64 116 116).jJ 0 3 wS).x 0).bf 3 ((((Net.new 64 116 116).jJ 0 3 wS).x 0).out 3).finish.1)) rfl rfl;refine(Ws K V 4 (by omega) hb (by omega)).mono ?_;rintro e H ⟨rfl,n',p,_,_,q⟩;exact⟨rfl,n',Xa 3 p,q.then h5⟩
 have HE:Hid (∀n' H,Wd n'->nL oZ w1 a n' H->H.cell? (aj a.N 1)=some (aS a.eb 2 a.ec)/\H.cell? (aj a.eb 0)=some (aS (a.el 0) 8 (a.Fy 0))/\H.cell? (aj (a.el 0) 3)=some (ay (a.e 0 3) 0)/\H.cell? (aj (a.e 0 3) 4)=some (iZ 22)/\H.cell? (aj (a.e 0 3) 5)=some (iZ 1)/\aD w H):=fun n' H X K=>by
  obtain⟨o,h0,h5,h6⟩:=K;obtain⟨_,c1,_⟩:=h5.cells;obtain⟨e1,e2,e3⟩:=h5.KJ 0 3 (by omega) (by omega);refine⟨c1,e1,e2,?_,?_,zP (hK.trans h6)⟩
  ·rw[e3];show some (Value.int .i64 (((n'.x 1).inn 3).read:Int))=_;rw[X.1];rfl
  ·rw[e3];show some (Value.int .i64 (((n'.x 1).inn 3).state:Int))=_;rw[X.2];rfl
 have Z:wS=⟨#[115,111,109,101,32,98,121,116,101,115,32,111,102,32,97,32,115,116,114,101,97,109]⟩:=rfl;rw[Z]at HA;clear hN hK F G V q1 q2 Z
 go_wp2_with (first
  |(go_at_call 22;refine HA.out.mono ?_;rintro e w2 ⟨rfl,I⟩;clear HA)
  |(go_at_call 22;refine(HF.out _ I.out).mono ?_;rintro e O ⟨rfl,U⟩)
  |(go_at_call 18;refine(HR.out _ U.out).mono ?_;rintro e H ⟨rfl,K⟩;obtain⟨n',X,hn⟩:=K.out;obtain⟨c1,c2,c3,c4,c5,hb⟩:=HE.out n' H X hn;have h7:=au hb;clear hb X hn K))
 go_ret;exact⟨rfl,h7.out⟩
