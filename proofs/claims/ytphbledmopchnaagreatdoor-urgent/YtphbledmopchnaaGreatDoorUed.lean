import Derived.Test.YtphbledmopchnaaGreatDoorUde
import Derived.Test.YtphbledmopchnaaGreatDoorUeb
set_option maxHeartbeats 1000000
set_option maxRecDepth 100000
namespace Go.Proofs.YtphbledmopchnaaGreatDoor.Sd
open Go.RowKit Go.Lib Mm Tryz
section
theorem yQ{α:Type}(x:Option α)(f:α->Fr):∃(g:Fr) (b:Bool),jk (x.map f)=.tuple #[bR g nZ,.bool b]/\b=x.isSome/\∀y,x=some y->g=f y:=by
 cases x with
 |none=>exact⟨dS,false,rfl,rfl,fun y h=>by cases h⟩
 |some a=>exact⟨f a,true,rfl,rfl,fun y h=>by cases h;rfl⟩
theorem C8{α:Type}(d:α):∀(l:List α) (k:Nat),md l k (fun _=>l.getD k d)=l
 |[],_=>rfl
 |_::_,0=>rfl
 |a::t,k+1=>congrArg (a::·) (C8 d t k)
theorem MG(M:Side)(k:Nat):M.bf k (M.out k)=M:=by
 unfold Side.bf Side.out;rw[C8]
theorem MI(M:Side)(k:Nat):M.dA k (M.inn k)=M:=by
 unfold Side.dA Side.inn;rw[C8]
theorem uY{oZ:Own}{s:Nat}{w W y F:World}{S bw bl bi ab:Nat}{M:Side}{av:aP}(O:AnM oZ s w ab av)(hs:0<s)(U:aD w W)(hsz:w.heap.size<W.heap.size){α:Type}(r:Option (Fr×α))(upd:α->Side)(g:Fr)(b:Bool)(hb:b=r.isSome)(X:∀y,r=some y->g=y.1)(Z:∀y,r=some y->y.1.ranges=[])(q:fP s (loc oZ w.heap.size) W S bw bl bi ((r.map fun x=>upd x.2).getD M) y)(ht:je w.heap.size y F)(e:Ending)(V:e=.returned (.tuple #[bR g nZ,.bool b])):
  gP oZ s w S bw bl bi ab M av (r.map fun x=>(x.1,upd x.2,av)) e F:=by
 obtain⟨aC,K,I⟩:=Uz O hs U hsz q ht;refine⟨(g,none,0,0),b,aC,V,by rw[hb];cases r<;>rfl,K,?_,?_⟩
 ·cases r with
  |none=>exact I
  |some x=>exact I
 ·intro y G
  cases r with
  |none=>cases G
  |some x=>
   simp only[Option.map_some,Option.some.injEq]at G;subst G;have H:=X x rfl;exact⟨H,LW.none aC s F g (by rw[H];exact Z x rfl)⟩
section
variable {oZ:Own} {s:Nat} {w0:World} {S bw bl bi ab:Nat}
theorem MJ(k:Nat)(hk:k<8)(b1 b2 b3:Nat)(h1:Bx oZ s w0 b1 282 (ay S (4+27*k)))(h2:Bx oZ s w0 b2 3 (iZ k))(h3:Bx oZ s w0 b3 128 (ay S 0)):
  nQ oZ s w0 S bw bl bi ab 266 #[] #[ay b1 0,ay b2 0,ay b3 0] (fun M _=>(M.out k).waits M.aB) fun M av room=>((M.out k).next k room M.aB).map fun x=>(x.1,M.bf k x.2,av):=by
 intro aC w M av room K hE I h8 U;obtain⟨l,vc,hS,hA⟩:=hE;obtain⟨W,F⟩:∃W,W=w.alloc (.cells ko.toArray 65):=⟨_,rfl⟩
 have G:aD w W:=by rw[F];exact(Below.refl _ w).alloc (Nat.le_refl _) _
 have h4:aA W w.heap.size 65 ko:=by rw[F];exact aA.new w 65 _
 have hsz:w.heap.size<W.heap.size:=by rw[F];simp
 have uV:=hS.loc G;have x1:=((h1.kp K).below G).cell;have x2:=((h2.kp K).below G).cell;have x3:=((h3.kp K).below G).cell;have PY:=I.sent hS.lo k hk
 have h5:(M.out k).sent+M.aB<18446744073709551616:=by
  have:=I.lm;unfold Side.aB;unfold aZ at *;omega
 have H:∀q,aD W (W.drewN q):=fun q=>⟨rfl,rfl,rfl,Nat.le_refl _,fun _ _=>rfl⟩
 have HF:Hid (∀q,Calls prog 265 #[ay S 0] (W.drewN q) fun e w'=>e=.returned (uZ M.aB)/\w'=W.drewN q):=fun q=>Bj _ s S l M bw bl bi vc (W.drewN q) (uV.below (H q)) I.sp I.lm
 obtain⟨g,b,h7,h0,h6⟩:=yQ ((M.out k).next k room M.aB) Prod.fst
 have HN:Hid (∀q,Calls prog 267 #[(ay S (4+27*k)),iZ k,iZ room,uZ M.aB] (W.drewN q) fun e w'=>e=.returned (.tuple #[bR g nZ,.bool b])/\aA w' w.heap.size 65 ko/\Hid (fP s (loc aC w.heap.size) W S bw bl bi ((((M.out k).next k room M.aB).map fun x=>M.bf k x.2).getD M) w')):=fun q=>by
  have hq:=uV.below (H q);refine(UM s (s+1+5*k) _ S (4+27*k) (M.out k) k hk room M.aB l (W.drewN q) hq.blk hq.ow hq.s0 (by omega) (hq.out k hk) (I.ob k) h5 (I.oa k) h8 U).mono ?_;rintro e w' ⟨rfl,hO⟩;have Z:iF s (s+1+5*k) (loc aC w.heap.size) S (4+27*k) l W _ w':=iF.after (H q) hO;refine⟨by rw[h7],?_,?_⟩
  ·obtain⟨dx,l2,K2,_⟩:=Z;exact aO h4 K2 (by rw[fD _ _ _ (Nat.le_refl _)];have:=hS.s0;simp;omega)
  ·cases hX:(M.out k).next k room M.aB with
   |none=>
    rw[hX]at Z;have:=uV.bf k hk _ Z;have e0:M.bf k (M.out k)=M:=MG M k;simp only[Option.map_none,Option.getD_none]at this;rw[e0]at this;exact this
   |some x=>
    rw[hX]at Z;exact uV.bf k hk _ Z
 have HR:Hid (∀y,(M.out k).next k room M.aB=some y->y.1.ranges=[]):=fun y V=>by
  rw[Kk]at V;split at V
  ·cases V
  ·rename_i f hf;split at V
   ·cases V
   ·have:=Option.some.inj V;rw[<-this,(uW hf).2];rfl
 have HE:Hid (∀y Wf,fP s (loc aC w.heap.size) W S bw bl bi ((((M.out k).next k room M.aB).map fun x=>M.bf k x.2).getD M) y->je w.heap.size y Wf->gP aC s w S bw bl bi ab M av (((M.out k).next k room M.aB).map fun x=>(x.1,M.bf k x.2,av)) (.returned (.tuple #[bR g nZ,.bool b])) Wf):=fun y Wf q ht=>
  uY hA hS.s0 G hsz _ (fun o=>M.bf k o) g b h0 h6 HR.out q ht _ rfl
 show Calls prog 266 #[iZ room,ay b1 0,ay b2 0,ay b3 0] w fun e w'=>gP aC s w S bw bl bi ab M av (((M.out k).next k room M.aB).map fun x=>(x.1,M.bf k x.2,av)) e w'
 generalize (((M.out k).next k room M.aB).map fun x=>(x.1,M.bf k x.2,av))=X at *;generalize ((((M.out k).next k room M.aB).map fun x=>M.bf k x.2).getD M)=M' at *;generalize M.aB=C at *;clear h7 h0 h6 HR h5 PY uV hS hA I h8 h1 h2 h3 K H h4 G hsz;unfold bR at HN;unfold ko at F;go_enter func266,ntmps266
 go_wp2_with fail
 rw[<-F];clear F
 go_region_with (first|(go_at_call 265;refine(HF.out _).mono ?_;rintro e y ⟨rfl,rfl⟩)|(go_at_call 267;refine(HN.out _).mono ?_;rintro e y ⟨rfl,O,HP⟩;obtain⟨y0,y1,y2,y3,y4,y5,y6,y7,y8,y9,yf⟩:=aH O;have qB:=au O;clear O))
 all_goals
  clear HN
  go_wp2_with fail
  go_simp;rw[dI];have iB:=dh qB.out (iZ g.kind) (iZ g.stream) (uZ g.offset) (uZ g.reliable) (uZ g.limit) (.bool g.fin) (uZ g.id) (uZ g.deadline) (.string g.data) nZ;have lX:=dw y w.heap.size (iZ g.kind) (iZ g.stream) (uZ g.offset) (uZ g.reliable) (uZ g.limit) (.bool g.fin) (uZ g.id) (uZ g.deadline) (.string g.data) nZ;generalize iA y w.heap.size (iZ g.kind) (iZ g.stream) (uZ g.offset) (uZ g.reliable) (uZ g.limit) (.bool g.fin) (uZ g.id) (uZ g.deadline) (.string g.data) nZ=Wf at *;obtain⟨a0,a1,a2,a3,a4,a5,a6,a7,a8,a9,_⟩:=aH iB;exact bodyPost_ret (v:=.tuple #[bR g nZ,.bool b]) (by simp[results,results266,go_sem,a0,a1,a2,a3,a4,a5,a6,a7,a8,a9,bR]) rfl (HE.out y Wf HP.out lX)
end

