import Derived.Test.YtphbledmopchnaaGreatDoorKde
import Derived.Test.YtphbledmopchnaaGreatDoorKed
set_option maxHeartbeats 1000000
set_option maxRecDepth 100000
namespace Go.Proofs.YtphbledmopchnaaGreatDoor.Sd
open Go.RowKit Go.Lib Mm Tryz
section
theorem xM{α:Type}(x:Option α)(f:α->Fr):∃(g:Fr) (b:Bool),iI (x.map f)=.tuple #[bJ g (.slice none 0 0),.bool b]/\b=x.isSome/\∀y,x=some y->g=f y:=by
 cases x with
 |none=>exact⟨dW,false,rfl,rfl,fun y h=>by cases h⟩
 |some a=>exact⟨f a,true,rfl,rfl,fun y h=>by cases h;rfl⟩
theorem BO{α:Type}(d:α):∀(l:List α) (k:Nat),md l k (fun _=>l.getD k d)=l
 |[],_=>rfl
 |_::_,0=>rfl
 |a::t,k+1=>congrArg (a::·) (BO d t k)
theorem LC(M:Side)(k:Nat):M.aW k (M.out k)=M:=by
 unfold Side.aW Side.out;rw[BO]
theorem LD(M:Side)(k:Nat):M.bP k (M.inn k)=M:=by
 unfold Side.bP Side.inn;rw[BO]
theorem uh{own:Own}{s:Nat}{w W y F:World}{S bw bl bi ab:Nat}{M:Side}{left:List (Nat×Nat)}(O:AnM own s w ab left)(hs:0<s)(U:Below w.heap.size w W)(hsz:w.heap.size<W.heap.size){α:Type}(r:Option (Fr×α))(upd:α->Side)(g:Fr)(b:Bool)(hb:b=r.isSome)(X:∀y,r=some y->g=y.1)(Z:∀y,r=some y->y.1.ranges=[])(q:fQ s (loc own w.heap.size) W S bw bl bi ((r.map fun x=>upd x.2).getD M) y)(ht:jD w.heap.size y F)(e:Ending)(V:e=.returned (.tuple #[bJ g (.slice none 0 0),.bool b])):
  iJ own s w S bw bl bi ab M left (r.map fun x=>(x.1,upd x.2,left)) e F:=by
 obtain⟨own',K,I⟩:=S_ O hs U hsz q ht;refine⟨(g,none,0,0),b,own',V,by rw[hb];cases r<;>rfl,K,?_,?_⟩
 ·cases r with
  |none=>exact I
  |some x=>exact I
 ·intro y G
  cases r with
  |none=>cases G
  |some x=>
   simp only[Option.map_some,Option.some.injEq]at G;subst G;have H:=X x rfl;exact⟨H,MO.none own' s F g (by rw[H];exact Z x rfl)⟩
section
variable {own:Own} {s:Nat} {w0:World} {S bw bl bi ab:Nat}
theorem LG(k:Nat)(hk:k<8)(b1 b2 b3:Nat)(h1:Bx own s w0 b1 282 (.pointer (some ⟨S,4+27*k,none⟩)))(h2:Bx own s w0 b2 3 (.int .i64 k))(h3:Bx own s w0 b3 128 (.pointer (some ⟨S,0,none⟩))):
  iO own s w0 S bw bl bi ab 266 #[] #[.pointer (some ⟨b1,0,none⟩),.pointer (some ⟨b2,0,none⟩),.pointer (some ⟨b3,0,none⟩)] (fun M _=>(M.out k).waits M.au) fun M left room=>((M.out k).next k room M.au).map fun x=>(x.1,M.aW k x.2,left):=by
 intro own' w M left room K hE I h8 U;obtain⟨l,vc,hS,hA⟩:=hE;obtain⟨W,F⟩:∃W,W=w.alloc (.cells kD.toArray 65):=⟨_,rfl⟩
 have G:Below w.heap.size w W:=by rw[F];exact(Below.refl _ w).alloc (Nat.le_refl _) _
 have h4:ak W w.heap.size 65 kD:=by rw[F];exact ak.new w 65 _
 have hsz:w.heap.size<W.heap.size:=by rw[F];simp
 have yO:=hS.loc G;have x1:=((h1.kp K).below G).cell;have x2:=((h2.kp K).below G).cell;have x3:=((h3.kp K).below G).cell;have O3:=I.sent hS.lo k hk
 have h5:(M.out k).sent+M.au<18446744073709551616:=by
  have:=I.lm;unfold Side.au;unfold aU at *;omega
 have H:∀q,Below W.heap.size W (W.drewN q):=fun q=>⟨rfl,rfl,rfl,Nat.le_refl _,fun _ _=>rfl⟩
 have HF:Hid (∀q,Calls prog 265 #[.pointer (some ⟨S,0,none⟩)] (W.drewN q) fun e w'=>e=.returned (.int .u64 M.au)/\w'=W.drewN q):=fun q=>zW _ s S l M bw bl bi vc (W.drewN q) (yO.below (H q)) I.sp I.lm
 obtain⟨g,b,h7,h0,h6⟩:=xM ((M.out k).next k room M.au) Prod.fst
 have HN:Hid (∀q,Calls prog 267 #[.pointer (some ⟨S,4+27*k,none⟩),.int .i64 k,.int .i64 room,.int .u64 M.au] (W.drewN q) fun e w'=>e=.returned (.tuple #[bJ g (.slice none 0 0),.bool b])/\ak w' w.heap.size 65 kD/\Hid (fQ s (loc own' w.heap.size) W S bw bl bi ((((M.out k).next k room M.au).map fun x=>M.aW k x.2).getD M) w')):=fun q=>by
  have hq:=yO.below (H q);refine(Tz s (s+1+5*k) _ S (4+27*k) (M.out k) k hk room M.au l (W.drewN q) hq.blk hq.ow hq.s0 (by omega) (hq.out k hk) (I.ob k) h5 (I.oa k) h8 U).mono ?_;rintro e w' ⟨rfl,hO⟩;have Z:gP s (s+1+5*k) (loc own' w.heap.size) S (4+27*k) l W _ w':=gP.after (H q) hO;refine⟨by rw[h7],?_,?_⟩
  ·obtain⟨aL,l2,K2,_⟩:=Z;exact aK h4 K2 (by rw[eT _ _ _ (Nat.le_refl _)];have:=hS.s0;simp;omega)
  ·cases hX:(M.out k).next k room M.au with
   |none=>
    rw[hX]at Z;have:=yO.aW k hk _ Z;have e0:M.aW k (M.out k)=M:=LC M k;simp only[Option.map_none,Option.getD_none]at this;rw[e0]at this;exact this
   |some x=>
    rw[hX]at Z;exact yO.aW k hk _ Z
 have HR:Hid (∀y,(M.out k).next k room M.au=some y->y.1.ranges=[]):=fun y V=>by
  rw[Jr]at V;split at V
  ·cases V
  ·rename_i f hf;split at V
   ·cases V
   ·have:=Option.some.inj V;rw[<-this,(t_ hf).2];rfl
 have HE:Hid (∀y Wf,fQ s (loc own' w.heap.size) W S bw bl bi ((((M.out k).next k room M.au).map fun x=>M.aW k x.2).getD M) y->jD w.heap.size y Wf->iJ own' s w S bw bl bi ab M left (((M.out k).next k room M.au).map fun x=>(x.1,M.aW k x.2,left)) (.returned (.tuple #[bJ g (.slice none 0 0),.bool b])) Wf):=fun y Wf q ht=>
  uh hA hS.s0 G hsz _ (fun o=>M.aW k o) g b h0 h6 HR.out q ht _ rfl
 show Calls prog 266 #[.int .i64 room,.pointer (some ⟨b1,0,none⟩),.pointer (some ⟨b2,0,none⟩),.pointer (some ⟨b3,0,none⟩)] w fun e w'=>iJ own' s w S bw bl bi ab M left (((M.out k).next k room M.au).map fun x=>(x.1,M.aW k x.2,left)) e w'
 generalize (((M.out k).next k room M.au).map fun x=>(x.1,M.aW k x.2,left))=X at *;generalize ((((M.out k).next k room M.au).map fun x=>M.aW k x.2).getD M)=M' at *;generalize M.au=C at *;clear h7 h0 h6 HR h5 O3 yO hS hA I h8 h1 h2 h3 K H h4 G hsz;unfold bJ at HN;unfold kD at F;go_enter func266,ntmps266
 go_wp2_with fail
 rw[<-F];clear F
 go_region_with (first|(go_at_call 265;refine(HF.out _).mono ?_;rintro e y ⟨rfl,rfl⟩)|(go_at_call 267;refine(HN.out _).mono ?_;rintro e y ⟨rfl,O,HP⟩;obtain⟨y0,y1,y2,y3,y4,y5,y6,y7,y8,y9,yf⟩:=aA O;have qX:=hid O;clear O))
 all_goals
  clear HN
  go_wp2_with fail
  go_simp;rw[dw];have gU:=bY qX.out (.int .i64 g.kind) (.int .i64 g.stream) (.int .u64 g.offset) (.int .u64 g.reliable) (.int .u64 g.limit) (.bool g.fin) (.int .u64 g.id) (.int .u64 g.deadline) (.string g.data) (.slice none 0 0);have l7:=bZ y w.heap.size (.int .i64 g.kind) (.int .i64 g.stream) (.int .u64 g.offset) (.int .u64 g.reliable) (.int .u64 g.limit) (.bool g.fin) (.int .u64 g.id) (.int .u64 g.deadline) (.string g.data) (.slice none 0 0);generalize gZ y w.heap.size (.int .i64 g.kind) (.int .i64 g.stream) (.int .u64 g.offset) (.int .u64 g.reliable) (.int .u64 g.limit) (.bool g.fin) (.int .u64 g.id) (.int .u64 g.deadline) (.string g.data) (.slice none 0 0)=Wf at *;obtain⟨a0,a1,a2,a3,a4,a5,a6,a7,a8,a9,_⟩:=aA gU;exact bodyPost_ret (v:=.tuple #[bJ g (.slice none 0 0),.bool b]) (by simp[results,results266,go_sem,a0,a1,a2,a3,a4,a5,a6,a7,a8,a9,bJ]) rfl (HE.out y Wf HP.out l7)
end

end
end Go.Proofs.YtphbledmopchnaaGreatDoor.Sd
