import Derived.Test.YtphbledmopchnaaGreatDoorKib
open Go.RowKit.Below renaming refl->mR
open Go.Builtin renaming append_->uj,zeroCells->Gl
open Go.Lib renaming wpList_append_run->tL
open List renaming getElem?_append_left->nI,length_singleton->wz,length_append->Bu,mem_singleton->CK
open Nat renaming le_refl->jK,le_trans->DJ,zero_add->KG
set_option maxHeartbeats 4000000
set_option maxRecDepth 100000
namespace Go.Proofs.YtphbledmopchnaaGreatDoor.Sd
open Go.RowKit Go.Lib Mm Tryz
def Rq(own:Own)(s:Nat)(w:World)(aH window total:Nat)(C:Nat)(w':World):Prop:=
 ∃S bw bl bi own' l vc,bM own' s w' S l (Side.new aH window total) bw bl bi vc/\ak w' C 187 [.pointer (some ⟨S,0,none⟩)]/\own' C=0/\w.heap.size<=C/\Kp [] own own' w w'
theorem Rq.below{own:Own}{s:Nat}{w:World}{aH window total:Nat}{C:Nat}{w' G:World}(h:Rq own s w aH window total C w')(hb:Below w'.heap.size w' G):Rq own s w aH window total C G:=by
 obtain⟨S,bw,bl,bi,own',l,vc,h1,F,H,I,O⟩:=h;exact⟨S,bw,bl,bi,own',l,vc,h1.below hb,F.of_heap (hb.block _ F.lt),H,I,O.eP hb⟩
theorem Xo(own:Own)(s:Nat)(hs:0<s)(aH window total:Nat)(O:64<=aH/\aH<=400)(U:16<=window/\window<=4096)(ht:16<=total/\total<=4096)(w:World):
  Calls prog 59 #[.agg #[.int .i64 aH,.int .i64 window,.int .i64 total]] w fun e w'=>∃C,e=.returned (.tuple #[.pointer (some ⟨C,0,none⟩),.nilIface])/\Rq own s w aH window total C w':=by
 obtain⟨W,I⟩:∃W,W=w.alloc (.cells #[.int .i64 aH,.int .i64 window,.int .i64 total] 45):=⟨_,rfl⟩
 have hb:Below w.heap.size w W:=by rw[I];exact(mR _ w).alloc (jK _) _
 have X:=hid (Xn own s hs aH window total O U ht W)
 have Z:Hid (∀w1 S bw bl bi own' l vc,bM own' s w1 S l (Side.new aH window total) bw bl bi vc->Kp [] own own' W w1->Rq own s w aH window total w1.heap.size (w1.alloc (.cells #[.pointer (some ⟨S,0,none⟩)] 187))):=fun w1 S bw bl bi own' l vc h1 G=>by
  have F:Below w1.heap.size w1 (w1.alloc (.cells #[.pointer (some ⟨S,0,none⟩)] 187)):=(mR _ w1).alloc (jK _) _;have K:Kp [] own' (loc own' w1.heap.size) w1 (w1.alloc (.cells #[.pointer (some ⟨S,0,none⟩)] 187)):=⟨F.os,F.tape,F.output,F.size,fun x H _=>F.block x H,fun x H=>fH _ _ _ H⟩;exact⟨S,bw,bl,bi,loc own' w1.heap.size,l,vc,h1.kp K (by simp),ak.new w1 187 [.pointer (some ⟨S,0,none⟩)],eT _ _ _ (jK _),DJ hb.size G.size,((Kp.below hb).trans G).trans K⟩
 clear O U ht hb;go_enter func59,ntmps59
 go_wp2_with (go_at_call 107;rw[<-I];refine X.out.mono ?_;rintro e w1 ⟨S,bw,bl,bi,own',l,vc,rfl,h1,G,_⟩;have V:=hid (Z.out w1 S bw bl bi own' l vc h1 G);clear h1 G)
 go_ret2;exact⟨_,rfl,V.out⟩
theorem Xp(own:Own)(s:Nat)(hs:0<s)(aH window total:Nat)(H:64<=aH/\aH<=400)(I:16<=window/\window<=4096)(ht:16<=total/\total<=4096)(w:World):
  Calls prog 33 #[.agg #[.int .i64 aH,.int .i64 window,.int .i64 total]] w fun e w'=>∃C,e=.returned (.tuple #[.pointer (some ⟨C,0,none⟩),.int .i64 0])/\Rq own s w aH window total C w':=by
 obtain⟨W,G⟩:∃W,W=w.alloc (.cells #[.int .i64 aH,.int .i64 window,.int .i64 total] 45):=⟨_,rfl⟩
 have hb:Below w.heap.size w W:=by rw[G];exact(mR _ w).alloc (jK _) _
 have V:Hid (Calls prog 59 #[.agg #[.int .i64 aH,.int .i64 window,.int .i64 total]] W fun e w'=>∃C,e=.returned (.tuple #[.pointer (some ⟨C,0,none⟩),.nilIface])/\Rq own s w aH window total C w'):=by
  refine(Xo own s hs aH window total H I ht W).mono ?_;rintro e w' ⟨C,rfl,S,bw,bl,bi,own',l,vc,h1,F,Z,h4,h5⟩;exact⟨C,rfl,S,bw,bl,bi,own',l,vc,h1,F,Z,DJ hb.size h4,(Kp.below hb).trans h5⟩
 have X:Hid (∀C w1,Rq own s w aH window total C w1->Calls prog 60 #[.nilIface] w1 fun r O=>r=.returned (.int .i64 0)/\Rq own s w aH window total C O):=fun C w1 h=>by
  refine(um .nilIface 0 (-1) w1 _ (rV w1)).mono ?_;rintro e w' ⟨rfl,hb⟩;exact⟨rfl,h.below hb⟩
 clear H I ht hb;go_enter func33,ntmps33
 go_wp2_with (first
  |(go_at_call 59;rw[<-G];refine V.out.mono ?_;rintro e w1 ⟨C,rfl,h1⟩;have U:=hid h1;clear h1)
  |(go_at_call 60;refine(X.out C w1 U.out).mono ?_;rintro e O ⟨rfl,F⟩))
 go_ret2;exact⟨_,rfl,F⟩
section
theorem MF{t e:TypeId}{z:Value}{b:Nat}(h1:prog.underlying t=some (.slice e))(H:(prog.info? e).map (fun i=>(i.zero,i.size,i.bytes))=some (some z,1,b))(G:z.cells=#[z])(I:z.oneCell'=true)(hb:b<=104):Df t e z 1 b:=
 ⟨h1,H,fun n=>by rw[G];simp[Gl],fun n v F=>by
  rw[G]at F;simp[Gl]at F;obtain⟨i,_,rfl⟩:=F
  have:i % 1=0:=by omega
  simp[this,I],hb⟩
def sty:Nat->TypeId|0=>39|1=>40|2=>41|_=>42
def ety:Nat->TypeId|0=>83|1=>78|2=>49|_=>43
def tg(f:Nat):Nat:=if f=4 then 203 else 180+f
def pos(f:Nat):Nat:=if f=4 then 9 else f
theorem A9(f:Nat)(F:f<5):∃z b,Df (sty f) (ety f) z 1 b:=by
 rcases(show f=0\/f=1\/f=2\/f=3\/f=4 by omega)with rfl|rfl|rfl|rfl|rfl
 ·exact⟨.pointer none,8,MF (by kernel_rfl) (by kernel_rfl) rfl rfl (by omega)⟩
 ·exact⟨.slice none 0 0,24,MF (by kernel_rfl) (by kernel_rfl) rfl rfl (by omega)⟩
 ·exact⟨.slice none 0 0,24,MF (by kernel_rfl) (by kernel_rfl) rfl rfl (by omega)⟩
 ·exact⟨.int .u64 0,8,MF (by kernel_rfl) (by kernel_rfl) rfl rfl (by omega)⟩
 ·exact⟨.int .u64 0,8,MF (by kernel_rfl) (by kernel_rfl) rfl rfl (by omega)⟩
theorem ZU:Df 78 77 (.pointer none) 1 8:=MF (by kernel_rfl) (by kernel_rfl) rfl rfl (by omega)
def Cq:List Value:=[.string ⟨#[]⟩,.bool false,.bool false,.int .i64 0,.int .i64 0,.int .i64 0]
def UZ(a:Ad)(v:Nat->Value):List Value:=[v 0,v 1,v 2,v 3,.int .u64 0,.int .i64 a.aH,.int .i64 a.win,.int .i64 a.tot,.slice none 0 0,v 4]
structure vR (aI:Own) (w0:World) (a:Ad) (c7 i m k:Nat) (v:Nat->Value) (l:Nat->List Value) (v12:Value) (yK:List Value) (own:Own) (w:World):Prop where
 net:ak w a.N 48 (UZ a v)/\own a.N=200
 cf:ak w c7 45 [.int .i64 a.aH,.int .i64 a.win,.int .i64 a.tot]/\own c7=0
 gt:∀f,f<5->GT own (tg f) (ety f) 1 w (v f) (l f).length (l f)
 gi:GT own (184+i) 77 1 w v12 k yK
 gl:∀k',k'<k->yK[k']?=some (.pointer (some ⟨a.e i k',0,none⟩))
 el:∀j k',j<i->k'<8->w.cell? ⟨a.el j,k',none⟩=some (.pointer (some ⟨a.e j k',0,none⟩))/\own (a.el j)=184+j
 en:∀j k',(j<i/\k'<8\/j=i/\k'<k)->ak w (a.e j k') 80 Cq/\own (a.e j k')=210+8*j+k'
 sd:∀j,j<m->∃l vc,bM own (60*(j+1)) w (a.S j) l (Side.new a.aH a.win a.tot) (a.bw j) (a.bl j) (a.bi j) vc
 cn:∀j,j<m->w.cell? ⟨a.C j,0,none⟩=some (.pointer (some ⟨a.S j,0,none⟩))/\own (a.C j)=0
 px:∀j,j<(l 0).length->(l 0)[j]?=some (.pointer (some ⟨a.C j,0,none⟩))
 pe:∀j,j<(l 1).length->(l 1)[j]?=some (.slice (some ⟨a.el j,0,none⟩) 8 (a.EB j))
 pg:∀j,j<(l 2).length->(l 2)[j]?=some (.slice none 0 0)
 pc:∀j,j<(l 4).length->(l 4)[j]?=some (.int .u64 0)
 gd:Gd own w
 er:dP w
 o0:own 0=0
 kp:Kp TN aI own w0 w
 im:i<=2/\m<=2/\k<=8/\(i=2->k=0)
section
variable {aI own own':Own} {w0 w w':World} {a:Ad} {c7 i m k:Nat} {v:Nat->Value} {l:Nat->List Value} {v12:Value} {yK:List Value} {T:List Nat}
structure BuT (own own':Own) (w w':World) (T:List Nat) (a:Ad) (c7 i m k:Nat):Prop where
 cf:ak w' c7 45 [.int .i64 a.aH,.int .i64 a.win,.int .i64 a.tot]/\own' c7=0
 el:∀j k',j<i->k'<8->w'.cell? ⟨a.el j,k',none⟩=some (.pointer (some ⟨a.e j k',0,none⟩))/\own' (a.el j)=184+j
 en:∀j k',(j<i/\k'<8\/j=i/\k'<k)->ak w' (a.e j k') 80 Cq/\own' (a.e j k')=210+8*j+k'
 sd:∀j,j<m->∃l vc,bM own' (60*(j+1)) w' (a.S j) l (Side.new a.aH a.win a.tot) (a.bw j) (a.bl j) (a.bi j) vc
 cn:∀j,j<m->w'.cell? ⟨a.C j,0,none⟩=some (.pointer (some ⟨a.S j,0,none⟩))/\own' (a.C j)=0
 gd:Gd own' w'
 er:dP w'
 o0:own' 0=0
theorem vR.rest(h:vR aI w0 a c7 i m k v l v12 yK own w)(K:Kp T own own' w w')(I:∀x∈T,180<=x/\(x<184\/x=184+i\/x=200\/x=203\/226<=x)):BuT own own' w w' T a c7 i m k:=by
 have H:0∉T:=fun e=>by have:=I _ e;omega
 have U:=h.im;refine⟨⟨aK h.cf.1 K (by rw[h.cf.2];exact H),by rw[K.ext _ h.cf.1.lt];exact h.cf.2⟩,fun j k' G V=>?_,fun j k' O=>?_,fun j G=>?_,fun j G=>?_,h.gd.kp K H,?_,?_⟩
 ·obtain⟨p,q⟩:=h.el j k' G V;have F:a.el j<w.heap.size:=World.block_lt_of_cell? w ⟨a.el j,k',none⟩ (by rw[p]);exact⟨cell_of p (K.blk _ F (by rw[q];exact fun e=>by have:=I _ e;omega)),by rw[K.ext _ F];exact q⟩
 ·obtain⟨p,q⟩:=h.en j k' O;exact⟨aK p K (by rw[q];exact fun e=>by have:=I _ e;omega),by rw[K.ext _ p.lt];exact q⟩
 ·obtain⟨l',vc,p⟩:=h.sd j G;exact⟨l',vc,p.kp K fun x Z X e=>by have:=I _ e;omega⟩
 ·obtain⟨p,q⟩:=h.cn j G;have F:a.C j<w.heap.size:=World.block_lt_of_cell? w ⟨a.C j,0,none⟩ (by rw[p]);exact⟨cell_of p (K.blk _ F (by rw[q];exact H)),by rw[K.ext _ F];exact q⟩
 ·exact cell_of h.er (K.blk 0 (by have:=h.gd.sz;omega) (by rw[h.o0];exact H))
 ·rw[K.ext 0 (by have:=h.gd.sz;omega)];exact h.o0
theorem vR.kp'(h:vR aI w0 a c7 i m k v l v12 yK own w)(K:Kp [] own own' w w'):vR aI w0 a c7 i m k v l v12 yK own' w':=by
 have r:=h.rest K (by simp);exact⟨⟨aK h.net.1 K (by simp),by rw[K.ext _ h.net.1.lt];exact h.net.2⟩,r.cf,fun f F=>(h.gt f F).kp K (by simp),h.gi.kp K (by simp),h.gl,r.el,r.en,r.sd,r.cn,h.px,h.pe,h.pg,h.pc,r.gd,r.er,r.o0,h.kp.trans (K.mono (by simp)),h.im⟩
theorem YC{f g:Nat}(F:f<5)(G:g<5)(h:g≠f):tg g∉[tg f]:=by
 unfold tg;simp;split<;>split<;>omega
theorem QG(f:Nat)(F:f<5):180<=tg f/\(tg f<184\/tg f=203):=by unfold tg;split<;>omega
theorem U0(a:Ad)(v:Nat->Value)(f:Nat)(F:f<5)(x:Value):(UZ a v).set (pos f) x=UZ a (fun g=>if g=f then x else v g):=by
 rcases(show f=0\/f=1\/f=2\/f=3\/f=4 by omega)with rfl|rfl|rfl|rfl|rfl<;>rfl
theorem QH(a:Ad)(v:Nat->Value)(f:Nat)(F:f<5):(UZ a v)[pos f]?=some (v f):=by
 rcases(show f=0\/f=1\/f=2\/f=3\/f=4 by omega)with rfl|rfl|rfl|rfl|rfl<;>rfl
theorem vR.app(h:vR aI w0 a c7 i m k v l v12 yK own w)(f:Nat)(O:f<5)(u:Value)(hu:u.oneCell'=true)(hl:(l f).length<=10)(hx:f=0->u=.pointer (some ⟨a.C (l 0).length,0,none⟩))(he:f=1->u=.slice (some ⟨a.el (l 1).length,0,none⟩) 8 (a.EB (l 1).length))(Z:f=2->u=.slice none 0 0)(hc:f=4->u=.int .u64 0):
  ∃U n0 c0 I n2 c2 G H,v f=.slice U n0 c0/\(∀ty,(uj #[sty f,sty f] ty #[.slice U n0 c0,.slice (some ⟨w.heap.size,0,none⟩) 1 1]).run prog (w.alloc (.cells #[u] (ety f)))=.ok (.slice I n2 c2) G)/\
   G.cell? ⟨a.N,pos f,none⟩=some (.slice U n0 c0)/\G.frozen? ⟨a.N,pos f,none⟩=false/\vR aI w0 a c7 i m k (fun g=>if g=f then .slice I n2 c2 else v g) (fun g=>if g=f then l f++[u]else l g) v12 yK H (G.setCell ⟨a.N,pos f,none⟩ (.slice I n2 c2)):=by
 obtain⟨z,b,E⟩:=A9 f O;have B5:ak (w.alloc (.cells #[u] (ety f))) w.heap.size (ety f) [u]:=ak.new w (ety f) [u];have X:Below w.heap.size w (w.alloc (.cells #[u] (ety f))):=(mR _ w).alloc (jK _) _;have V:=h.kp' (Kp.below (T:=[]) (own:=own) X);obtain⟨U,c0,ev⟩:=fV (h.gt f O)
 obtain⟨v6,G,H,run,hG,K6⟩:=bU E (V.gt f O) ⟨w.heap.size,0,none⟩ 1 1 [u] rfl (fun z hz=>by rw[CK.1 hz];exact hu) (fun t y hy=>by
  have e:(⟨w.heap.size,0,none⟩:Addr).add t=⟨w.heap.size,t,none⟩:=by rw[Addr.add_lit,KG]
  rw[e,B5.cell,hy]) (by omega)
 obtain⟨I,c2,rfl⟩:=fV hG;have h3:=QG f O;have Uw:ak G a.N 48 (UZ a v):=aK V.net.1 K6 (by rw[V.net.2];simp;omega)
 have h0:H a.N=200:=by rw[K6.ext _ V.net.1.lt];exact V.net.2
 have K7:Kp [200] H H G (G.setCell ⟨a.N,pos f,none⟩ (.slice I ((l f).length+1) c2)):=Kp.set H G _ _ _ (by rw[h0];simp);have K8:Kp [tg f,200] own H w (G.setCell ⟨a.N,pos f,none⟩ (.slice I ((l f).length+1) c2)):=(Kp.below X).trans ((K6.mono (by simp)).trans (K7.mono (by simp)));have r:=h.rest K8 (by simp;omega);have h2:=h.im
 have key:∀(g j:Nat),j<(if g=f then l f++[u]else l g).length->(j<(l g).length/\(if g=f then l f++[u]else l g)[j]?=(l g)[j]?)\/(g=f/\j=(l f).length/\(if g=f then l f++[u]else l g)[j]?=some u):=fun g j F=>by
  by_cases e:g=f
  ·subst e;rw[if_pos rfl]at F ⊢;rw[Bu,wz]at F
   by_cases e2:j<(l g).length
   ·exact .inl ⟨e2,nI e2⟩
   ·obtain rfl:j=(l g).length:=by omega
    exact .inr ⟨rfl,rfl,by simp⟩
  ·rw[if_neg e]at F ⊢;exact .inl ⟨F,rfl⟩
 refine⟨U,_,c0,I,_,c2,G,H,ev,fun ty=>by have:=run ty;rw[ev]at this;exact this,by rw[Uw.cell,QH a v f O,ev],Uw.frozen _,⟨⟨?_,h0⟩,r.cf,fun g Z=>?_,h.gi.kp K8 (by simp;omega),h.gl,r.el,r.en,r.sd,r.cn,?_,?_,?_,?_,r.gd,r.er,r.o0,h.kp.trans (K8.mono fun x hx=>iM.2 (by simp at hx;omega)),h.im⟩⟩
 ·rw[<-U0 a v f O];exact Uw.setCell (pos f) _
 ·by_cases e:g=f
  ·subst e;simp only[if_true,Bu,wz];exact hG.kp K7 (by simp;omega)
  ·simp only[if_neg e];have:=QG g Z;exact(h.gt g Z).kp K8 (by have:=YC O Z e;simp at this ⊢;omega)
 ·intro j F
  rcases key 0 j F with⟨p,q⟩|⟨p,q,r⟩
  ·rw[q];exact h.px j p
  ·rw[r,hx p.symm,q,<-p]
 ·intro j F
  rcases key 1 j F with⟨p,q⟩|⟨p,q,r⟩
  ·rw[q];exact h.pe j p
  ·rw[r,he p.symm,q,<-p]
 ·intro j F
  rcases key 2 j F with⟨p,q⟩|⟨p,q,r⟩
  ·rw[q];exact h.pg j p
  ·rw[r,Z p.symm]
 ·intro j F
  rcases key 4 j F with⟨p,q⟩|⟨p,q,r⟩
  ·rw[q];exact h.pc j p
  ·rw[r,hc p.symm]
end

end
section
section
variable {aI own own':Own} {w0 w w':World} {a:Ad} {c7 i m k:Nat} {v:Nat->Value} {l:Nat->List Value} {v12:Value} {yK:List Value}
def Ad.side(a:Ad)(m C S bw bl bi:Nat):Ad:={a with C:=fun j=>if j=m then C else a.C j,S:=fun j=>if j=m then S else a.S j,bw:=fun j=>if j=m then bw else a.bw j,bl:=fun j=>if j=m then bl else a.bl j,bi:=fun j=>if j=m then bi else a.bi j}
theorem vR.side(h:vR aI w0 a c7 i m k v l v12 yK own w)(Z:m<2)(hl:(l 0).length=m){C:Nat}(V:Rq own (60*(m+1)) w a.aH a.win a.tot C w'):
  ∃S bw bl bi own',vR aI w0 (a.side m C S bw bl bi) c7 i (m+1) k v l v12 yK own' w':=by
 obtain⟨S,bw,bl,bi,own',ls,vc,h1,I,O,X,U⟩:=V;have g:=h.kp' U;have F:=g.im;refine⟨S,bw,bl,bi,own',g.net,g.cf,g.gt,g.gi,g.gl,g.el,g.en,fun j G=>?_,fun j G=>?_,fun j G=>?_,g.pe,g.pg,g.pc,g.gd,g.er,g.o0,g.kp,F.1,by omega,F.2.2⟩
 ·by_cases e:j=m
  ·subst e;refine⟨ls,vc,?_⟩;unfold Ad.side;simp only[if_true];exact h1
  ·obtain⟨l',H,p⟩:=g.sd j (by omega);refine⟨l',H,?_⟩;unfold Ad.side;simp only[if_neg e];exact p
 ·unfold Ad.side
  by_cases e:j=m
  ·simp only[if_pos e];exact⟨I.cell 0,O⟩
  ·simp only[if_neg e];exact g.cn j (by omega)
 ·unfold Ad.side
  have e:j≠m:=by omega
  simp only[if_neg e];exact g.px j G
def Ad.MG(a:Ad)(i k b:Nat):Ad:={a with e:=fun j k'=>if j=i/\k'=k then b else a.e j k'}
theorem vR.MG(h:vR aI w0 a c7 i m k v l v12 yK own w)(hk:k<8)(hi:i<2):
  ∃a0 c0 a2 c2 V Z,v12=.slice a0 k c0/\(∀ty,(uj #[78,78] ty #[.slice a0 k c0,.slice (some ⟨w.heap.size+1,0,none⟩) 1 1]).run prog ((w.alloc (.cells Cq.toArray 80)).alloc (.cells #[.pointer (some ⟨w.heap.size,0,none⟩)] 77))=.ok (.slice a2 (k+1) c2) V)/\
   vR aI w0 (a.MG i k w.heap.size) c7 i m (k+1) v l (.slice a2 (k+1) c2) (yK++[.pointer (some ⟨w.heap.size,0,none⟩)]) Z V:=by
 obtain⟨a0,c0,ev⟩:=fV h.gi;obtain⟨w1,G⟩:∃w1,w1=w.alloc (.cells Cq.toArray 80):=⟨_,rfl⟩
 obtain⟨X,h3⟩:∃X:Own,X=fun x=>if x=w.heap.size then 210+8*i+k else own x:=⟨_,rfl⟩
 have F:Below w.heap.size w w1:=by rw[G];exact(mR _ w).alloc (jK _) _
 have h4:w1.heap.size=w.heap.size+1:=by rw[G];simp
 have K1:Kp [] own X w w1:=⟨F.os,F.tape,F.output,F.size,fun b hb _=>F.block b hb,fun b hb=>by rw[h3];exact if_neg (by omega)⟩;have g1:=h.kp' K1
 have B1:ak w1 w.heap.size 80 Cq:=by rw[G];exact ak.new w 80 Cq
 have oB:X w.heap.size=210+8*i+k:=by rw[h3];exact if_pos rfl
 obtain⟨w2,U⟩:∃w2,w2=w1.alloc (.cells [.pointer (some ⟨w.heap.size,0,none⟩)].toArray 77):=⟨_,rfl⟩
 have O:Below w1.heap.size w1 w2:=by rw[U];exact(mR _ w1).alloc (jK _) _
 have B2:ak w2 w1.heap.size 77 [.pointer (some ⟨w.heap.size,0,none⟩)]:=by rw[U];exact ak.new w1 77 _
 have H:=g1.kp' (Kp.below (T:=[]) (own:=X) O)
 obtain⟨v6,V,Z,run,hG,I⟩:=bU ZU H.gi ⟨w1.heap.size,0,none⟩ 1 1 [.pointer (some ⟨w.heap.size,0,none⟩)] rfl (fun z hz=>by rw[CK.1 hz];rfl) (fun t y hy=>by
  have e:(⟨w1.heap.size,0,none⟩:Addr).add t=⟨w1.heap.size,t,none⟩:=by rw[Addr.add_lit,KG]
  rw[e,B2.cell,hy]) (by omega)
 obtain⟨a2,c2,rfl⟩:=fV hG;have r:=H.rest I (by simp;omega);have Uw:ak V a.N 48 (UZ a v):=aK H.net.1 I (by rw[H.net.2];simp;omega)
 have ZV:Z a.N=200:=by rw[I.ext _ H.net.1.lt];exact H.net.2
 have h0:=h.im;have B6:ak V w.heap.size 80 Cq:=aK (B1.of_heap (O.block _ B1.lt)) I (by rw[oB];simp;omega)
 have h6:Z w.heap.size=210+8*i+k:=by rw[I.ext _ (by have:=O.size;omega)];exact oB
 have h5:yK.length=k:=by have:=h.gi.len;omega
 refine⟨a0,c0,a2,c2,V,Z,ev,fun ty=>by have:=run ty;rw[ev,h4,U,G]at this;exact this,?_⟩;refine⟨⟨Uw,ZV⟩,r.cf,fun f hf=>(H.gt f hf).kp I (by have:=QG f hf;simp;omega),hG,fun k' h2=>?_,fun j k' hj h2=>?_,fun j k' h7=>?_,r.sd,r.cn,h.px,h.pe,h.pg,h.pc,r.gd,r.er,r.o0,H.kp.trans (I.mono fun x hx=>iM.2 (by simp at hx;omega)),h0.1,h0.2.1,by omega,fun e=>by omega⟩
 ·show _=some (Value.pointer (some ⟨if i=i/\k'=k then w.heap.size else a.e i k',0,none⟩))
  by_cases e:k'=k
  ·rw[if_pos ⟨rfl,e⟩,List.getElem?_append_right (by omega),h5,e,Nat.sub_self];rfl
  ·rw[if_neg (fun h=>e h.2),nI (by omega)];exact h.gl k' (by omega)
 ·unfold Ad.MG
  have e':¬(j=i/\k'=k):=fun h=>by omega
  simp only[if_neg e'];exact r.el j k' hj h2
 ·unfold Ad.MG
  by_cases e:j=i/\k'=k
  ·obtain⟨rfl,rfl⟩:=e;simp only[and_self,if_true];exact⟨B6,h6⟩
  ·simp only[if_neg e];exact r.en j k' (by omega)
def Ad.elp(a:Ad)(i g c:Nat):Ad:={a with el:=fun j=>if j=i then g else a.el j,EB:=fun j=>if j=i then c else a.EB j}
theorem vR.close(h:vR aI w0 a c7 i m 8 v l v12 yK own w)(hi:i<2)(hl:(l 1).length=i):
  ∃g c,v12=.slice (some ⟨g,0,none⟩) 8 c/\vR aI w0 (a.elp i g c) c7 (i+1) m 0 v l (.slice none 0 0) [] own w:=by
 rcases h.gi with⟨_,e,_⟩|⟨g,cap,cs,ev,ho,hB,hc1,hc2,hc3,hc4,Et,_⟩
 ·cases e
 have G:=h.im;refine⟨g,cap,ev,h.net,h.cf,h.gt,.inl ⟨rfl,rfl,rfl⟩,fun k' F=>by omega,fun j k' H F=>?_,fun j k' I=>h.en j k' (by omega),h.sd,h.cn,h.px,fun j H=>?_,h.pg,h.pc,h.gd,h.er,h.o0,h.kp,by omega,G.2.1,by omega,fun _=>rfl⟩
 ·unfold Ad.elp
  by_cases e:j=i
  ·subst e;simp only[if_true];refine⟨?_,ho⟩;rw[hB.cell];have:=h.gl k' F;rw[<-Et,List.getElem?_take,if_pos (by omega)]at this;exact this
  ·simp only[if_neg e];exact h.el j k' (by omega) F
 ·unfold Ad.elp
  have e:j≠i:=by omega
  simp only[if_neg e];exact h.pe j H
theorem E8{t:Nat}{e:TypeId}{x:Value}{n:Nat}{l:List Value}(h:GT own t e 1 w x n l)(I:0<n):∃g c,x=.slice (some ⟨g,0,none⟩) n c/\own g=t/\(∀j y,l[j]?=some y->w.cell? ⟨g,j,none⟩=some y)/\∃r,ak w g e (l++r):=by
 rcases h with⟨_,e,_⟩|⟨g,cap,cs,rfl,ho,hB,hc1,hc2,hc3,hc4,Et,_⟩
 ·omega
 have F:cs=l++cs.drop (n*1):=by rw[<-Et,List.take_append_drop]
 rw[F]at hB;refine⟨g,cap,rfl,ho,fun j y G=>?_,_,hB⟩;have H:j<l.length:=(List.getElem?_eq_some_iff.1 G).1;rw[hB.cell,nI H,G]
theorem QI(aH win tot j k:Nat)(F:k<8):Cq=ends (Net.new aH win tot) j k:=by
 rcases(show k=0\/k=1\/k=2\/k=3\/k=4\/k=5\/k=6\/k=7 by omega)with rfl|rfl|rfl|rfl|rfl|rfl|rfl|rfl<;>rfl
theorem vR.done(h:vR aI w0 a c7 2 2 0 v l v12 yK own w)(hl:∀f,f<5->(l f).length=2):∃I vb,I.N=a.N/\I.aH=a.aH/\bE own w I (Net.new a.aH a.win a.tot) vb (ends (Net.new a.aH a.win a.tot)):=by
 have G:=fun f hf=>h.gt f hf
 obtain⟨O,c0,e0,o0,f0,_⟩:=E8 (h.gt 0 (by omega)) (by rw[hl 0 (by omega)];omega);obtain⟨U,c1,e1,o1,f1,_⟩:=E8 (h.gt 1 (by omega)) (by rw[hl 1 (by omega)];omega);obtain⟨V,c2,e2,o2,f2,_⟩:=E8 (h.gt 2 (by omega)) (by rw[hl 2 (by omega)];omega);obtain⟨g3,c3,e3,o3,f3,_⟩:=E8 (h.gt 3 (by omega)) (by rw[hl 3 (by omega)];omega);obtain⟨g4,c4,e4,o4,f4,r4,B4⟩:=E8 (h.gt 4 (by omega)) (by rw[hl 4 (by omega)];omega);have X:=h.net.1;unfold UZ at X;rw[e0,e1,e2,e3,e4,hl 0 (by omega),hl 1 (by omega),hl 2 (by omega),hl 3 (by omega),hl 4 (by omega)]at X;refine⟨{a with xb:=O,xc:=c0,eb:=U,ec:=c1,gb:=V,gc:=c2,nb:=g3,nc:=c3,cb:=g4,cc:=c4},.slice none 0 0,rfl,rfl,⟨X,h.net.2⟩,fun i hi=>⟨f0 i _ (h.px i (by rw[hl 0 (by omega)];exact hi)),?_⟩,fun i hi=>⟨f1 i _ (h.pe i (by rw[hl 1 (by omega)];exact hi)),?_⟩,fun i k hi H=>⟨(h.el i k hi H).1,?_⟩,fun i k hi H=>?_,fun i hi=>⟨f2 i _ (h.pg i (by rw[hl 2 (by omega)];exact hi)),?_⟩,⟨⟨r4,?_⟩,o4⟩,.inl ⟨rfl,rfl,rfl⟩,fun i hi=>h.sd i hi,fun i hi=>h.cn i hi,h.gd,h.er,h.o0⟩
 ·show 180<=own O/\own O<200;rw[o0];decide
 ·show 180<=own U/\own U<200;rw[o1];decide
 ·show 180<=own (a.el i)/\own (a.el i)<200;rw[(h.el i k hi H).2];omega
 ·obtain⟨p,q⟩:=h.en i k (.inl ⟨hi,H⟩);rw[QI a.aH a.win a.tot i k H]at p;exact⟨p,q⟩
 ·show 180<=own V/\own V<200;rw[o2];decide
 ·have e:l 4=[.int .u64 0,.int .u64 0]:=by
   have F:=hl 4 (by omega);have Z:=h.pc 0 (by omega);have p1:=h.pc 1 (by omega)
   match hq:l 4 with
   |[]=>rw[hq]at F;cases F
   |[x]=>rw[hq]at F;cases F
   |[x,y]=>
    rw[hq]at Z p1;simp at Z p1;rw[Z,p1]
   |x::y::z::t=>rw[hq]at F;simp at F
  rw[e]at B4;exact B4
end

end
section
section
variable {aI own:Own} {w0 w:World} {a:Ad} {c7 i m k:Nat} {v:Nat->Value} {l:Nat->List Value} {v12:Value} {yK:List Value}
theorem vR.app'(h:vR aI w0 a c7 i m k v l v12 yK own w)(N:Nat)(hN:a.N=N)(f p s e:Nat)(U:f<5)(hp:pos f=p)(hs:sty f=s)(he:ety f=e)(u:Value)(hu:u.oneCell'=true)(hl:(l f).length<=10)(hx:f=0->u=.pointer (some ⟨a.C (l 0).length,0,none⟩))(hE:f=1->u=.slice (some ⟨a.el (l 1).length,0,none⟩) 8 (a.EB (l 1).length))(O:f=2->u=.slice none 0 0)(hc:f=4->u=.int .u64 0):
  ∃G n0 c0 H n2 c2 F W I v' l',w.cell? ⟨N,p,none⟩=some (.slice G n0 c0)/\(∀ty,(uj #[s,s] ty #[.slice G n0 c0,.slice (some ⟨w.heap.size,0,none⟩) 1 1]).run prog (w.alloc (.cells #[u] e))=.ok (.slice H n2 c2) F)/\
   F.cell? ⟨N,p,none⟩=some (.slice G n0 c0)/\F.frozen? ⟨N,p,none⟩=false/\F.setCell ⟨N,p,none⟩ (.slice H n2 c2)=W/\Hid (vR aI w0 a c7 i m k v' l' v12 yK I W)/\Hid ((l' f).length=(l f).length+1/\∀g,g≠f->l' g=l g):=by
 subst hp hs he hN;obtain⟨G,n0,c0,H,n2,c2,F,I,X,run,V,f6,Z⟩:=h.app f U u hu hl hx hE O hc;refine⟨G,n0,c0,H,n2,c2,F,_,I,_,_,by rw[h.net.1.cell,QH a v f U,X],run,V,f6,rfl,Z,by simp,fun g O=>?_⟩;simp only[if_neg O]
end

def NwN(w:World)(mt wi tt:Nat)(p:Value)(w':World):Prop:=∃a own vb,p=.pointer (some ⟨a.N,0,none⟩)/\a.aH=mt/\bE own w' a (Net.new mt wi tt) vb (ends (Net.new mt wi tt))/\Kp TN (fun _=>0) own w w'
structure BuL (w0:World) (N mt wi tt c7 i:Nat) (w:World):Prop where
 ex:∃a v l own,a.N=N/\a.aH=mt/\a.win=wi/\a.tot=tt/\vR (fun _=>0) w0 a c7 i i 0 v l (.slice none 0 0) [] own w/\∀f,f<5->(l f).length=i
def BuK(w0:World)(N mt wi tt c7 i k:Nat)(v12:Value)(w:World):Prop:=∃a v l yK own,a.N=N/\a.aH=mt/\a.win=wi/\a.tot=tt/\vR (fun _=>0) w0 a c7 i (i+1) k v l v12 yK own w/\(l 0).length=i+1/\∀f,f≠0->f<5->(l f).length=i
theorem U2(w:World)(mt wi tt:Nat)(hE:dP w)(hT:TabAt w)(h2:2<=w.heap.size):
  BuL w (w.heap.size+1) mt wi tt w.heap.size 0 ((w.alloc (.cells #[.int .i64 mt,.int .i64 wi,.int .i64 tt] 45)).alloc (.cells #[.slice none 0 0,.slice none 0 0,.slice none 0 0,.slice none 0 0,.int .u64 0,.int .i64 mt,.int .i64 wi,.int .i64 tt,.slice none 0 0,.slice none 0 0] 48)):=by
 obtain⟨w1,G⟩:∃w1,w1=w.alloc (.cells [.int .i64 mt,.int .i64 wi,.int .i64 tt].toArray 45):=⟨_,rfl⟩
 have O:Below w.heap.size w w1:=by rw[G];exact(mR _ w).alloc (jK _) _
 have B1:ak w1 w.heap.size 45 [.int .i64 mt,.int .i64 wi,.int .i64 tt]:=by rw[G];exact ak.new w 45 _
 have X:w1.heap.size=w.heap.size+1:=by rw[G];simp
 let a:Ad:=⟨w.heap.size+1,0,0,0,0,0,0,0,0,0,0,fun _=>0,fun _=>0,fun _ _=>0,fun _=>0,fun _=>0,fun _=>0,fun _=>0,fun _=>0,mt,wi,tt⟩
 obtain⟨I,H⟩:∃I,I=w1.alloc (.cells (UZ a (fun _=>.slice none 0 0)).toArray 48):=⟨_,rfl⟩
 have U:Below w1.heap.size w1 I:=by rw[H];exact(mR _ w1).alloc (jK _) _
 have Z:ak I w1.heap.size 48 (UZ a (fun _=>.slice none 0 0)):=by rw[H];exact ak.new w1 48 _
 rw[X]at Z;have hb:Below w.heap.size w I:=O.trans (U.mono O.size)
 have key:BuL w (w.heap.size+1) mt wi tt w.heap.size 0 I:=by
  refine⟨a,fun _=>.slice none 0 0,fun _=>[],fun x=>if x=w.heap.size+1 then 200 else 0,rfl,rfl,rfl,rfl,⟨⟨Z,if_pos rfl⟩,⟨B1.of_heap (U.block _ B1.lt),if_neg (by omega)⟩,fun f hf=>.inl ⟨rfl,rfl,rfl⟩,.inl ⟨rfl,rfl,rfl⟩,fun k' hk=>by omega,fun j k' F _=>by omega,fun j k' F=>by omega,fun j F=>by omega,fun j F=>by omega,fun j F=>by simp at F,fun j F=>by simp at F,fun j F=>by simp at F,fun j F=>by simp at F,?_,?_,if_neg (by omega),?_,by omega,by omega,by omega,fun _=>rfl⟩,fun f hf=>rfl⟩
  ·exact⟨fun k hk=>cell_of (hT k hk) (hb.block 1 (by omega)),if_neg (by omega),DJ h2 hb.size⟩
  ·exact cell_of hE (hb.block 0 (by omega))
  ·exact⟨hb.os,hb.tape,hb.output,hb.size,fun b V _=>hb.block b V,fun b V=>if_neg (by omega)⟩
 rw[H,G]at key;exact key
theorem E9(cm cw ct:Int)(hm:jJ cm)(hw:jJ cw)(ht:jJ ct)(w:World)(hE:dP w)(hT:TabAt w)(h2:2<=w.heap.size):
  Calls prog 21 #[.int .i64 cm,.int .i64 cw,.int .i64 ct] w fun e w'=>∃p,e=.returned p/\NwN w (64+aV cm 337) (16+aV cw 300) (16+aV ct 600) p w':=by
 have l1:=bL cm 337 (by omega);have l2:=bL cw 300 (by omega);have l3:=bL ct 600 (by omega);obtain⟨mt,hj⟩:∃mt,mt=64+aV cm 337:=⟨_,rfl⟩;obtain⟨wi,hr⟩:∃wi,wi=16+aV cw 300:=⟨_,rfl⟩;obtain⟨tt,ho⟩:∃tt,tt=16+aV ct 600:=⟨_,rfl⟩;rw[<-hj,<-hr,<-ho];have X:=hid (U2 w mt wi tt hE hT h2)
 have q1:(64:Int)+((aV cm 337:Nat):Int)=(mt:Int):=by omega
 have q2:(16:Int)+((aV cw 300:Nat):Int)=(wi:Int):=by omega
 have q3:(16:Int)+((aV ct 600:Nat):Int)=(tt:Int):=by omega
 have b1:mt<=400:=by omega
 have b2:wi<=400:=by omega
 have b3:tt<=700:=by omega
 have b4:64<=mt/\16<=wi/\16<=tt:=by omega
 have HB:=hid b4;clear hE hT h2 hj hr ho b4;go_enter func21,ntmps21
 go_wp2_with (go_at_call 32;refine(iK _ _ (by assumption) (by decide) _).mono ?_;rintro ee w4 ⟨rfl,xj⟩;subst xj)
 generalize hN:w4.heap.size+1=N at *;generalize xe:w4.heap.size=c7 at *;clear hN xe q1 q2 q3 l1 l2 l3
 go_loopw [9] (fun s9 wr=>∃i:Nat,i<=2/\s9=.int .i64 i/\Hid (BuL w4 N mt wi tt c7 i wr)) (fun s9 _=>2-(intOf s9).toNat)
 case atStart=>exact⟨0,by omega,rfl,X⟩
 case round=>
  obtain⟨i,hi,rfl,HR⟩:=hrel;clear X
  by_cases h9:i<2
  ·have xm:(i:Int)<2:=by omega
   obtain⟨a,v,l,own,hg,rfl,rfl,rfl,h0,hl⟩:=HR.out.ex;have hc:=hid hg;clear hg;have c0:=h0.cf.1.cell 0;have c1:=h0.cf.1.cell 1;have c2:=h0.cf.1.cell 2;simp only[List.getElem?_cons_zero,List.getElem?_cons_succ]at c0 c1 c2;have X:=hid hl;have H0:=hid h0;have hb:=HB.out;have HN:=hid (Xp own (60*(i+1)) (by omega) a.aH a.win a.tot (by omega) (by omega) (by omega) wr);clear hl h0 hb HR
   go_wp2_with (first
    |(
      go_at_call 33
      refine HN.out.mono ?_;rintro e w3 ⟨C,rfl,hn⟩;obtain⟨S,bw,bl,bi,gV,h3⟩:=H0.out.side h9 (X.out 0 (by omega)) hn;obtain⟨a0,n0,k0,a2,n2,k2,w6,W,bR,v',l',d3,run,d6,f6,hW,h6,h8⟩:=h3.app' N hc.out 0 0 39 83 (by omega) rfl rfl rfl (.pointer (some ⟨C,0,none⟩)) rfl (by rw[X.out 0 (by omega)];omega) (fun _=>by rw[X.out 0 (by omega)];unfold Ad.side;simp) (fun e=>by omega) (fun e=>by omega) (fun e=>by omega)
      clear hn h3)
    |(at_builtin;refine tL _ rfl _ _ _ _ rfl _ _ rfl rfl _ _ (run _) ?_))
   have he:Hid (BuK w4 N a.aH a.win a.tot c7 i 0 (.slice none 0 0) W):=⟨a.side i C S bw bl bi,v',l',[],bR,hc.out,rfl,rfl,rfl,h6.out,by rw[h8.out.1,X.out 0 (by omega)],fun f hf xf=>by rw[h8.out.2 f hf];exact X.out f xf⟩;clear h6 h8 hW d6 f6 d3 run H0 X HN c0 c1 c2
   go_loopw [12,13] (fun xl ha wr=>∃k:Nat,k<=8/\ha=.int .i64 k/\Hid (BuK w4 N a.aH a.win a.tot c7 i k xl wr)) (fun _ ha _=>8-(intOf ha).toNat)
   case atStart=>exact⟨0,by omega,rfl,he⟩
   case round=>
    obtain⟨k,hk,rfl,Z⟩:=hrel;clear he
    by_cases xi:k<8
    ·have Yx:(k:Int)<8:=by omega
     obtain⟨a1,v1,l1,yK,aF,G,e2,e3,e4,h1,H,F⟩:=Z.out;obtain⟨a0,c0,a2,c2,w7,L9,ev,run,h7⟩:=h1.MG xi h9;have xd:Hid (BuK w4 N a.aH a.win a.tot c7 i (k+1) (.slice a2 (k+1) c2) w7):=⟨a1.MG i k wr.heap.size,v1,l1,_,L9,G,e2,e3,e4,h7,H,F⟩;subst ev;unfold Cq at run;clear G e2 e3 e4 h1 h7 H F Z
     go_wp2_with (first|(at_builtin;refine tL _ rfl _ _ _ _ rfl _ _ rfl rfl _ _ (run _) ?_)|go_in)
     go_roundw
     case rel=>exact⟨k+1,by omega,by simp,xd⟩
     case measure=>simp[intOf];omega
    ·obtain rfl:k=8:=by omega
     obtain⟨a1,v1,l1,yK,aF,G,e2,e3,e4,h1,H,F⟩:=Z.out;obtain⟨g,c,ev,h2⟩:=h1.close h9 (F 1 (by omega) (by omega));obtain⟨x0,x1,x2,y0,y1,y2,z0,W1,o1,v2,l2,d1,jm,t1,f1,xn,h3,q3⟩:=h2.app' N G 1 1 40 78 (by omega) rfl rfl rfl (.slice (some ⟨g,0,none⟩) 8 c) rfl (by rw[F 1 (by omega) (by omega)];omega) (fun e=>by omega) (fun _=>by rw[F 1 (by omega) (by omega)];unfold Ad.elp;simp) (fun e=>by omega) (fun e=>by omega);obtain⟨hu,I⟩:=q3.out
     have r2:(l2 2).length=i:=by rw[I 2 (by omega)];exact F 2 (by omega) (by omega)
     obtain⟨x3,x4,x5,y3,y4,y5,z1,W2,o2,v3,l3,d2,tQ,t2,f2,xo,h4,q4⟩:=h3.out.app' N G 2 2 41 49 (by omega) rfl rfl rfl (.slice none 0 0) rfl (by omega) (fun e=>by omega) (fun e=>by omega) (fun _=>rfl) (fun e=>by omega);obtain⟨hv,O⟩:=q4.out
     have r3:(l3 3).length=i:=by rw[O 3 (by omega),I 3 (by omega)];exact F 3 (by omega) (by omega)
     obtain⟨x6,x7,x8,y6,y7,y8,z2,W3,o3,v4,l4,d3,Xq,t3,f3,xp,h5,q5⟩:=h4.out.app' N G 3 3 42 43 (by omega) rfl rfl rfl (.int .u64 0) rfl (by omega) (fun e=>by omega) (fun e=>by omega) (fun e=>by omega) (fun e=>by omega);obtain⟨hx,U⟩:=q5.out
     have r4:(l4 4).length=i:=by rw[U 4 (by omega),O 4 (by omega),I 4 (by omega)];exact F 4 (by omega) (by omega)
     obtain⟨x9,xa,xb,y9,ya,yb,z3,W4,o4,v5,l5,d4,YD,t4,f4,yN,h6,q6⟩:=h5.out.app' N G 4 9 42 43 (by omega) rfl rfl rfl (.int .u64 0) rfl (by omega) (fun e=>by omega) (fun e=>by omega) (fun e=>by omega) (fun _=>rfl);obtain⟨hy,V⟩:=q6.out
     have HE:Hid (BuL w4 N a.aH a.win a.tot c7 (i+1) W4):=⟨a1.elp i g c,v5,l5,o4,G,e2,e3,e4,h6.out,fun f hf=>by
      rcases(show f=0\/f=1\/f=2\/f=3\/f=4 by omega)with rfl|rfl|rfl|rfl|rfl
      ·rw[V 0 (by omega),U 0 (by omega),O 0 (by omega),I 0 (by omega)];exact H
      ·rw[V 1 (by omega),U 1 (by omega),O 1 (by omega),hu,F 1 (by omega) (by omega)]
      ·rw[V 2 (by omega),U 2 (by omega),hv,r2]
      ·rw[V 3 (by omega),hx,r3]
      ·rw[hy,r4]⟩
     subst ev;clear h1 h2 h3 h4 h5 h6 q3 q4 q5 q6 hu I hv O hx U hy V r2 r3 r4 H F G e2 e3 e4 Z
     go_wp2_with (first
      |(at_builtin;refine tL _ rfl _ _ _ _ rfl _ _ rfl rfl _ _ (jm _) ?_;clear jm;(try have jm:=tQ);(try clear tQ);(try have tQ:=Xq);(try clear Xq);(try have Xq:=YD);(try clear YD))
      |go_in)
     go_roundw
     case rel=>exact⟨i+1,by omega,by simp,HE⟩
     case measure=>simp[intOf];omega
  ·obtain rfl:i=2:=by omega
   obtain⟨a,v,l,own,rfl,rfl,rfl,rfl,h0,hl⟩:=HR.out.ex;obtain⟨a',vb,G,e2,hM⟩:=h0.done hl;have HE:Hid (NwN w4 a.aH a.win a.tot (.pointer (some ⟨a.N,0,none⟩)) wr):=⟨a',own,vb,by rw[G],e2,hM,h0.kp⟩;clear h0 hl hM G e2 HR;go_wp2;go_ret;exact⟨_,rfl,HE.out⟩
end
end Go.Proofs.YtphbledmopchnaaGreatDoor.Sd
