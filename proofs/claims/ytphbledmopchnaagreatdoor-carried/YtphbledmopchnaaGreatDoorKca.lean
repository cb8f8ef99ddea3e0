import Derived.Test.YtphbledmopchnaaGreatDoorKbd
import Derived.LoopIn
import Derived.LoopNIn
import Derived.OwnWalkIn
import Derived.RangeFuncBound
import Derived.RangeFuncCalls
import Derived.RangeFuncLeaves
import Derived.RangeFuncNested
import Derived.Shelf.RegionOpen
import Derived.TacticsInMore
open Array renaming getElem?_eq_some_iff->tT,replicate_succ->Lb,replicate_zero->M4
open Go.RowKit.Below renaming refl->mR,heap_setCell->uj,heap_alloc->wz
open Go.Builtin renaming append_->qa0
open Go.Ending renaming returned->DJ
open Go.Fence renaming wide->Vp
open List renaming getElem?_cons_succ->Bu,getElem?_cons_zero->CK,nil_append->Gl,append_toArray->R3,push_toArray->Si,size_toArray->Vh,cons_append->Xw,length_cons->ZE,length_nil->qa1,getElem?_eq_none->qa3,getElem?_take->qa8,map_append->qab
open Nat renaming le_refl->jK,le_of_lt->Kt,reduceAdd->qa5,reduceSub->qa6,le_trans->qa9,zero_add->qad
open Go.Value renaming ownBlock->tL,slice->qaa
open Go.World renaming putObj_heap_other->nI,block_lt_of_cell?->KG,size_alloc->Z9,putObj_heap_same->qa2,alloc_heap_new->qa4
set_option maxHeartbeats 4000000
set_option maxRecDepth 100000
namespace Go.Proofs.YtphbledmopchnaaGreatDoor.Sd
open Go.RowKit Go.Lib Mm Tryz
theorem hid{p:Prop}(h:p):Hid p:=h
theorem qV{a b:Int}(h:a=b):DJ (.int .u64 a)=.returned (.int .u64 b):=by rw[h]
theorem aP{a b:Bool}(h:a=b):DJ (.bool a)=.returned (.bool b):=by rw[h]
theorem Dg(S o:Nat)(g:Gn)(free:Nat)(w:World)(l:List Value)(hB:ak w S TS l)(h:pU l o g)(I:g.ahead<=4096)(G:free<=aU):
  Calls prog 309 #[.pointer (some ⟨S,o,none⟩),.int .u64 free] w fun e w'=>e=.returned (.int .u64 (g.lim free:Int))/\w'=w:=by
 have c0:w.cell? ⟨S,o,none⟩=some (.int .u64 g.ahead):=by rw[hB.cell];exact h.c0
 obtain⟨m,U,F⟩:=min2 (free+g.ahead) 4611686018427387903
 have H:Hid (g.lim free=m):=by unfold Hid;rw[F];rfl
 generalize g.lim free=L at *;generalize g.ahead=A at *;unfold aU at G
 have O:(free+A:Nat)<18446744073709551616:=by omega
 clear h hB F G I;rw[Int.natCast_add,show((4611686018427387903:Nat):Int)=4611686018427387903 from rfl]at U;go_enter func309,ntmps309;go_wp2;go_ret;exact⟨qV (by rw[H.out]),rfl⟩
theorem Dh(S o:Nat)(g:Gn)(free:Nat)(w:World)(l:List Value)(hB:ak w S TS l)(h:pU l o g)(O:g.ahead<=4096)(I:free<=aU):
  Calls prog 251 #[.pointer (some ⟨S,o,none⟩),.int .u64 free] w fun e w'=>e=.returned (.bool (g.waits free))/\∃q,w'=w.drewN q:=by
 have c2:w.cell? ⟨S,o+2,none⟩=some (.int .u64 g.away):=by rw[hB.cell];exact h.c2
 have c3:w.cell? ⟨S,o+3,none⟩=some (.int .u64 g.came):=by rw[hB.cell];exact h.c3
 have H:=hid (fun q=>Dg S o g free (w.drewN q) l hB h O I);have G:Hid (g.waits free=decide (max g.away g.came<g.lim free)):=rfl;obtain⟨m,U,F⟩:=max2 g.away g.came;rw[<-F]at G;generalize g.waits free=B at *;generalize g.lim free=L at *;clear h hB F;go_enter func251,ntmps251;go_wp2
 go_quiet ((go_at_call 309;exact Calls.quiet_of_same (H.out _)))
 go_wp2;go_ret;exact⟨aP (by rw[G.out,decide_eq_decide]<;>omega),nq,rfl⟩
theorem zJ(S o:Nat)(g:Gn)(e:Nat)(w:World)(l:List Value)(hB:ak w S TS l)(h:pU l o g):
  Calls prog 296 #[.pointer (some ⟨S,o,none⟩),.int .u64 e] w fun F w'=>F=.returned (.bool (decide (e<=g.told)))/\w'=w:=by
 have c1:w.cell? ⟨S,o+1,none⟩=some (.int .u64 g.told):=by rw[hB.cell];exact h.c1
 clear h hB;go_enter func296,ntmps296;go_wp2;go_ret;exact⟨aP (by rw[decide_eq_decide]),rfl⟩
theorem IZ(S o:Nat)(g:Gn)(w:World)(l:List Value)(hB:ak w S TS l)(h:pU l o g):
  Calls prog 397 #[.pointer (some ⟨S,o,none⟩)] w fun e w'=>e=.returned (.tuple #[])/\∃l',cu w w' S l l' o 4/\pU l' o g.lose:=by
 have c2:w.cell? ⟨S,o+2,none⟩=some (.int .u64 g.away):=by rw[hB.cell];exact h.c2
 have f2:=hB.frozen (o+2)
 have F:Hid (cu w (w.setCell ⟨S,o+2,none⟩ (.int .u64 0)) S l (l.set (o+2) (.int .u64 0)) o 4/\pU (l.set (o+2) (.int .u64 0)) o g.lose):=
  ⟨cu.one hB _ _ _ _ (by omega) (by omega),by rw[aj _ _ _ _ (by omega),h.c0];rfl,by rw[aj _ _ _ _ (by omega),h.c1];rfl,aN _ _ _ _ h.c2,by rw[aj _ _ _ _ (by omega),h.c3];rfl⟩
 clear h hB;go_enter func397,ntmps397;go_wp2;go_end0;exact⟨rfl,_,F.out⟩
theorem Gn.st(S o:Nat)(g:Gn)(w:World)(l:List Value)(hB:ak w S TS l)(h:pU l o g):
  (∀x:Nat,cu w (w.setCell ⟨S,o+1,none⟩ (.int .u64 x)) S l (l.set (o+1) (.int .u64 x)) o 4/\pU (l.set (o+1) (.int .u64 x)) o {g with told:=x})/\
  (∀x:Nat,cu w (w.setCell ⟨S,o+2,none⟩ (.int .u64 x)) S l (l.set (o+2) (.int .u64 x)) o 4/\pU (l.set (o+2) (.int .u64 x)) o {g with away:=x})/\
  (∀x:Nat,cu w (w.setCell ⟨S,o+3,none⟩ (.int .u64 x)) S l (l.set (o+3) (.int .u64 x)) o 4/\pU (l.set (o+3) (.int .u64 x)) o {g with came:=x}):=
 ⟨fun x=>⟨cu.one hB _ _ _ _ (by omega) (by omega),by rw[aj _ _ _ _ (by omega),h.c0],aN _ _ _ _ h.c1,by rw[aj _ _ _ _ (by omega),h.c2],by rw[aj _ _ _ _ (by omega),h.c3]⟩,
 fun x=>⟨cu.one hB _ _ _ _ (by omega) (by omega),by rw[aj _ _ _ _ (by omega),h.c0],by rw[aj _ _ _ _ (by omega),h.c1],aN _ _ _ _ h.c2,by rw[aj _ _ _ _ (by omega),h.c3]⟩,
 fun x=>⟨cu.one hB _ _ _ _ (by omega) (by omega),by rw[aj _ _ _ _ (by omega),h.c0],by rw[aj _ _ _ _ (by omega),h.c1],by rw[aj _ _ _ _ (by omega),h.c2],aN _ _ _ _ h.c3⟩⟩
def bJ(f:Fr)(r:Value):Value:=.agg #[.int .i64 f.kind,.int .i64 f.stream,.int .u64 f.offset,.int .u64 f.reliable,.int .u64 f.limit,.bool f.fin,.int .u64 f.id,.int .u64 f.deadline,.string f.data,r]
theorem A_(S o:Nat)(g:Gn)(f:Fr)(rv:Value)(w:World)(l:List Value)(hB:ak w S TS l)(h:pU l o g):
  Calls prog 311 #[.pointer (some ⟨S,o,none⟩),bJ f rv] w fun e w'=>e=.returned (.tuple #[])/\∃l',cu w w' S l l' o 4/\pU l' o (g.aw f.limit):=by
 obtain⟨m,X,G⟩:=max2 g.away f.limit
 have U:Hid (g.aw f.limit={g with away:=m}):=by unfold Hid;rw[G];rfl
 obtain⟨W,H⟩:∃W,W=w.alloc (.cells #[.int .i64 f.kind,.int .i64 f.stream,.int .u64 f.offset,.int .u64 f.reliable,.int .u64 f.limit,.bool f.fin,.int .u64 f.id,.int .u64 f.deadline,.string f.data,rv] 65):=⟨_,rfl⟩
 have hb:ak W w.heap.size 65 [.int .i64 f.kind,.int .i64 f.stream,.int .u64 f.offset,.int .u64 f.reliable,.int .u64 f.limit,.bool f.fin,.int .u64 f.id,.int .u64 f.deadline,.string f.data,rv]:=by rw[H];exact ak.new w 65 _
 have F:ak W S TS l:=by rw[H];exact hB.alloc _
 have O:Below w.heap.size w W:=by rw[H];exact(mR _ w).alloc (jK _) _
 have I:=hid ((Gn.st S o g W l F h).2.1 m);have Z:W.cell? ⟨w.heap.size,4,none⟩=some (.int .u64 f.limit):=hb.cell 4
 have c2:W.cell? ⟨S,o+2,none⟩=some (.int .u64 g.away):=by rw[F.cell];exact h.c2
 have f2:=F.frozen (o+2);have V:=hid O;clear h hB hb F O G;unfold bJ;go_enter func311,ntmps311
 go_wp2_with fail
 rw[<-H];clear H
 go_region
 all_goals go_wp2
 all_goals go_end0
 all_goals exact⟨rfl,_,cu.after V.out I.out.1.drew,by rw[U.out];exact I.out.2⟩
theorem I4(S o:Nat)(g:Gn)(f:Fr)(rv:Value)(w:World)(l:List Value)(hB:ak w S TS l)(h:pU l o g):
  Calls prog 396 #[.pointer (some ⟨S,o,none⟩),bJ f rv] w fun e w'=>e=.returned (.tuple #[])/\∃l',cu w w' S l l' o 4/\pU l' o (g.cm f.limit):=by
 obtain⟨m,X,G⟩:=max2 g.came f.limit
 have U:Hid (g.cm f.limit={g with came:=m}):=by unfold Hid;rw[G];rfl
 obtain⟨W,H⟩:∃W,W=w.alloc (.cells #[.int .i64 f.kind,.int .i64 f.stream,.int .u64 f.offset,.int .u64 f.reliable,.int .u64 f.limit,.bool f.fin,.int .u64 f.id,.int .u64 f.deadline,.string f.data,rv] 65):=⟨_,rfl⟩
 have hb:ak W w.heap.size 65 [.int .i64 f.kind,.int .i64 f.stream,.int .u64 f.offset,.int .u64 f.reliable,.int .u64 f.limit,.bool f.fin,.int .u64 f.id,.int .u64 f.deadline,.string f.data,rv]:=by rw[H];exact ak.new w 65 _
 have F:ak W S TS l:=by rw[H];exact hB.alloc _
 have O:Below w.heap.size w W:=by rw[H];exact(mR _ w).alloc (jK _) _
 have I:=hid ((Gn.st S o g W l F h).2.2 m);have Z:W.cell? ⟨w.heap.size,4,none⟩=some (.int .u64 f.limit):=hb.cell 4
 have c3:W.cell? ⟨S,o+3,none⟩=some (.int .u64 g.came):=by rw[F.cell];exact h.c3
 have f2:=F.frozen (o+3);have V:=hid O;clear h hB hb F O G;unfold bJ;go_enter func396,ntmps396
 go_wp2_with fail
 rw[<-H];clear H
 go_region
 all_goals go_wp2
 all_goals go_end0
 all_goals exact⟨rfl,_,cu.after V.out I.out.1.drew,by rw[U.out];exact I.out.2⟩
abbrev bX(f:Fr)(rv:Value):List Value:=[.int .i64 f.kind,.int .i64 f.stream,.int .u64 f.offset,.int .u64 f.reliable,.int .u64 f.limit,.bool f.fin,.int .u64 f.id,.int .u64 f.deadline,.string f.data,rv]
abbrev kD:List Value:=[.int .i64 0,.int .i64 0,.int .u64 0,.int .u64 0,.int .u64 0,.bool false,.int .u64 0,.int .u64 0,.string ⟨#[]⟩,.slice none 0 0]
theorem Ba{w:World}{b:Nat}{t:TypeId}{f:Fr}{ra:Option Addr}{rc:Nat}(hB:ak w b t (bX f (.slice ra f.ranges.length rc)))(F:iT f)(G:fq w ra f.ranges):jN w b 0 f ra rc:=
 ⟨hB.cell 0,hB.cell 1,hB.cell 2,hB.cell 3,hB.cell 4,hB.cell 5,hB.cell 6,hB.cell 7,hB.cell 8,hB.cell 9,G,F.rlen,F.vX,F.k0,F.s0,F.u0⟩
structure Di (w:World) (f:Fr) (ra:Option Addr) (rc:Nat):Prop where
 snd:snd f=true
 ok:iT f
 rng:fq w ra f.ranges
 cap:f.ranges.length<=rc
 lt:∀x,ra=some x->x.block<w.heap.size
 len:(aB f).length<=1000000
theorem Di.below{w w':World}{f:Fr}{ra:Option Addr}{rc:Nat}(h:Di w f ra rc)(hb:Below w.heap.size w w'):Di w' f ra rc:=
 ⟨h.snd,h.ok,h.rng.below hb,h.cap,fun x F=>Nat.lt_of_lt_of_le (h.lt x F) hb.size,h.len⟩
theorem qW(f:Fr)(ra:Option Addr)(rc:Nat)(w:World)(h:Di w f ra rc):
  Calls prog 210 #[bJ f (.slice ra f.ranges.length rc)] w fun e w'=>e=.returned (.int .i64 ((aB f).length:Int))/\Below w.heap.size w w':=by
 obtain⟨W,X⟩:∃W,W=w.alloc (.cells (bX f (.slice ra f.ranges.length rc)).toArray 65):=⟨_,rfl⟩
 have hb:ak W w.heap.size 65 (bX f (.slice ra f.ranges.length rc)):=by rw[X];exact ak.new w 65 _
 have G:Below w.heap.size w W:=by rw[X];exact(mR _ w).alloc (jK _) _
 have hsz:W.heap.size=w.heap.size+1:=by rw[X];simp
 have F:=h.below G;have hF:=Ba hb F.ok F.rng;obtain⟨_,h0,sK,_⟩:=lV f h.snd;have c0:W.cell? ⟨w.heap.size,0,none⟩=some (.int .i64 f.kind):=hb.cell 0;have FW:=hid (lZ _ h0 sK W)
 have h4:∀(wl:World) (I fr:Value),Da (W.heap.size+1) wl f.kind I fr->Below W.heap.size W wl->
   ∃g cb,I=.func (.func g) #[] cb/\(∀args w,(callFunc g args).run prog w=.ok (.enter g args) w)/\
    Calls prog g (#[.slice none 0 0,.pointer (some ⟨w.heap.size,0,none⟩)]++cb) wl fun e w'=>∃a c,e=.returned (.slice a (aB f).length c)/\Below w.heap.size w w':=by
  intro wl I fr V H;obtain⟨g,cb,h1,h2,h3⟩:=IY f V h.snd w.heap.size 0 ra rc h.cap;refine⟨g,cb,h1,h2,?_⟩;have YS:=H.size;have hl:=h.len;refine(h3 wl (.slice none 0 0) [] ⟨⟨jK _,fun _ _ _=>rfl⟩,Buf.nil wl,fun j hj=>by simp[tL]at hj,hF.below H,by simp[tL],fun x hx=>by simp[tL],fun x hx=>by have:=F.lt x hx;omega⟩ (by simp;omega)).mono ?_;rintro e w' ⟨v',rfl,O,h5⟩;rw[Gl]at O;have Z:Below w.heap.size w w':=(G.trans (H.mono (by omega))).trans (h5.below (Own.nil _) (by omega))
  rcases O with⟨rfl,he⟩|⟨g',cap,cs,rfl,_⟩
  ·exact⟨none,0,by rw[he];rfl,Z⟩
  ·exact⟨_,_,rfl,Z⟩
 have U_:=hid h4;clear h4 hb G F hF h h0 sK;generalize (aB f).length=n at *;unfold bJ;unfold bX at X;go_enter func210,ntmps210
 go_wp2_with fail
 rw[<-X];refine FW.out.mono ?_;rintro e wl ⟨I,fr,rfl,V,H⟩;obtain⟨_,_,g2,J3,_,h6⟩:=V.shape;subst h6;obtain⟨g,cb,h7,eg,hC⟩:=U_.out wl I _ V H;subst h7;have HC:=hid hC;have h8:=XC g g2 cb J3;clear hC V H U_
 go_wp2_with fail
 refine HC.out.mono ?_;rintro e w' ⟨a,c,rfl,U⟩;have Q7:=hid U;clear U;go_wp2;go_ret;exact⟨rfl,Q7.out⟩
theorem wK(n:Nat)(w:World)(O:n<4611686018427387904):
  Calls prog 211 #[.slice none 0 0,.int .u64 n] w fun e w'=>∃a c,e=.returned (.slice a (Num.bytes n).length c)/\Below w.heap.size w w':=by
 refine(bf (.slice none 0 0) [] n w (Buf.nil w) O (by simp)).mono ?_;rintro e w' ⟨v',rfl,F,H⟩;rw[Gl]at F;have G:Below w.heap.size w w':=H.below (Own.nil _) (jK _)
 rcases F with⟨rfl,I⟩|⟨g',cap,cs,rfl,_⟩
 ·exact⟨none,0,by rw[I];rfl,G⟩
 ·exact⟨_,_,rfl,G⟩
theorem dL{a b:Int}(h:a=b):DJ (.int .i64 a)=.returned (.int .i64 b):=by rw[h]
theorem eF(n:Nat):1<=(Num.bytes n).length/\(Num.bytes n).length<=8:=by
 rw[Num.dJ];unfold Num.code
 repeat' split
 all_goals decide
theorem Nr(aH n:Nat)(w:World)(X:aH<=400)(I:n<4611686018427387904):
  Calls prog 157 #[.int .i64 aH,.int .u64 n] w fun e w'=>e=.returned (.int .i64 ((aH:Int)-((Num.bytes n).length:Int)-4))/\Below w.heap.size w w':=by
 have H:=hid (wK n w I);have hb:=eF n;generalize (Num.bytes n).length=k at *
 have h1:(aH:Int)-(k:Int)<9223372036854775808:=by omega
 have O: -9223372036854775808<=(aH:Int)-(k:Int):=by omega
 have U:(aH:Int)-(k:Int)-4<9223372036854775808:=by omega
 have V: -9223372036854775808<=(aH:Int)-(k:Int)-4:=by omega
 go_enter func157,ntmps157
 go_wp2_with fail
 refine H.out.mono ?_;rintro e w' ⟨a,c,rfl,F⟩;have G:=hid F;clear F;go_wp2;go_ret;exact⟨rfl,G.out⟩
theorem Ns(w:World)(a:Option Addr)(l:List UInt8)(c:Nat)(h:BytesAt w a l)(F:a=none->l=[]):(convert 60 9 (.slice a l.length c)).run prog w=.ok (.string ⟨l.toArray⟩) w:=by
 cases a with
 |none=>
  obtain rfl:=F rfl;show(convert 60 9 (.slice none 0 c)).run prog w=_;rw[run_convert_bytes_string w 60 9 5 none 0 c u29 (by kernel_rfl) u9];simp[Conv.bytesToString];rfl
 |some x=>exact run_convert_bytes_back (P:=prog) w 60 9 5 x c l u29 (by kernel_rfl) u9 (fun j G=>by
   obtain⟨b,off,H,h1⟩:=h j G;cases H;rw[Addr.add_lit]
   exact h1)
theorem aA{y:World}{R:Nat}{t:TypeId}{F G H v3 I O U V X v9:Value}(h:ak y R t [F,G,H,v3,I,O,U,V,X,v9]):
  y.cell? ⟨R,0,none⟩=some F/\y.cell? ⟨R,1,none⟩=some G/\y.cell? ⟨R,2,none⟩=some H/\y.cell? ⟨R,3,none⟩=some v3/\y.cell? ⟨R,4,none⟩=some I/\y.cell? ⟨R,5,none⟩=some O/\y.cell? ⟨R,6,none⟩=some U/\y.cell? ⟨R,7,none⟩=some V/\y.cell? ⟨R,8,none⟩=some X/\y.cell? ⟨R,9,none⟩=some v9/\∀j,y.frozen? ⟨R,j,none⟩=false:=
 ⟨h.cell 0,h.cell 1,h.cell 2,h.cell 3,h.cell 4,h.cell 5,h.cell 6,h.cell 7,h.cell 8,h.cell 9,fun j=>h.frozen j⟩
def iI(x:Option Fr):Value:=match x with
 |none=>.tuple #[bJ dW (.slice none 0 0),.bool false]
 |some g=>.tuple #[bJ g (.slice none 0 0),.bool true]
theorem BytesAt.take{w:World}{a:Option Addr}{l:List UInt8}(h:BytesAt w a l)(n:Nat):BytesAt w a (l.take n):=fun j G=>by
 obtain⟨b,off,h1,F⟩:=h j (by simp at G;omega);exact⟨b,off,h1,by rw[F];simp⟩
theorem BytesAt.below'{w w':World}{a:Option Addr}{l:List UInt8}(h:BytesAt w a l)(hb:Below w.heap.size w w'):BytesAt w' a l:=fun j G=>by
 obtain⟨b,off,h1,F⟩:=h j G;exact⟨b,off,h1,(hb.cell (p:=⟨b,off+j,none⟩) (KG _ _ F)).trans F⟩
theorem Dk(f:Fr)(a:Option Addr)(bs:List UInt8)(c:Nat)(room:Int)(w:World)(hF:Di w f none 0)(hr:f.ranges=[])(hb:BytesAt w a bs)(hn:a=none->bs=[])(hl:bs.length<=4096)(he:bs.length<=c)(h0: -1000000<=room/\room<=1000000):
  Calls prog 316 #[bJ f (.slice none 0 0),.slice a bs.length c,.int .i64 room] w fun e w'=>e=.returned (iI (ko f bs room))/\Below w.heap.size w w':=by
 obtain⟨W,U⟩:∃W,W=(w.alloc (.cells (bX f (.slice none 0 0)).toArray 65)).alloc (.cells (kD).toArray 65):=⟨_,rfl⟩
 have H:ak W w.heap.size 65 (bX f (.slice none 0 0)):=by rw[U];exact(ak.new w 65 _).alloc _
 have I:ak W (w.heap.size+1) 65 kD:=by
  rw[U];have:=ak.new (w.alloc (.cells (bX f (.slice none 0 0)).toArray 65)) 65 kD;rwa[Z9]at this
 have G:Below w.heap.size w W:=by rw[U];exact((mR _ w).alloc (jK _) _).alloc (by simp) _
 have hsz:W.heap.size=w.heap.size+2:=by rw[U];simp
 have hS:=qW f none 0 W (hF.below G);rw[hr]at hS;have HS:=hid hS;have h5:=hF.len;have zK:Hid (ko f bs room=if room<((aB f).length:Int)then none else some {f with data:=⟨(bs.take (min (min bs.length (room-((aB f).length:Int)).toNat) ((room-((aB f).length:Int)).toNat-((Num.bytes (min bs.length (room-((aB f).length:Int)).toNat)).length-1)))).toArray⟩}):=rfl;generalize ko f bs room=X at *;generalize (aB f).length=n at *;obtain⟨x0,x1,x2,x3,x4,x5,x6,x7,x8,x9,xf⟩:=aA H;have HB:=hid (And.intro H (And.intro I G));clear H I G hF hS
 have r1: -9223372036854775808<=room-(n:Int):=by omega
 have r2:room-(n:Int)<9223372036854775808:=by omega
 by_cases Z:room<(n:Int)
 ·have HX:Hid (X=none):=by unfold Hid;rw[zK.out,if_pos Z]
  have g1:room-(n:Int)<0:=by omega
  clear zK Z;unfold bJ;unfold bX kD at U;go_enter func316,ntmps316
  go_wp2_with fail
  rw[<-U];refine HS.out.mono ?_;rintro e y ⟨rfl,O⟩;obtain⟨H,I,G⟩:=HB.out;have F:=I.of_heap (O.block _ (by omega));obtain⟨y0,y1,y2,y3,y4,y5,y6,y7,y8,y9,yf⟩:=aA F;have qX:=hid (And.intro F (G.trans (O.mono (by omega))));clear O H I G F U
  go_wp2_with fail
  rw[dw];have gU:=bY qX.out.1 (.int .i64 0) (.int .i64 0) (.int .u64 0) (.int .u64 0) (.int .u64 0) (.bool false) (.int .u64 0) (.int .u64 0) (.string ⟨#[]⟩) (.slice none 0 0);have l7:=bZ y (w.heap.size+1) (.int .i64 0) (.int .i64 0) (.int .u64 0) (.int .u64 0) (.int .u64 0) (.bool false) (.int .u64 0) (.int .u64 0) (.string ⟨#[]⟩) (.slice none 0 0);generalize gZ y (w.heap.size+1) (.int .i64 0) (.int .i64 0) (.int .u64 0) (.int .u64 0) (.int .u64 0) (.bool false) (.int .u64 0) (.int .u64 0) (.string ⟨#[]⟩) (.slice none 0 0)=Wf at *;obtain⟨a0,a1,a2,a3,a4,a5,a6,a7,a8,a9,_⟩:=aA gU;exact bodyPost_ret (v:=iI X) (by rw[HX.out];simp[results,results316,go_sem,a0,a1,a2,a3,a4,a5,a6,a7,a8,a9,bJ,iI,dW]) rfl ⟨rfl,l7.below qX.out.2 (by omega)⟩
 ·obtain⟨r,hg⟩:∃r:Nat,room-(n:Int)=r:=⟨(room-(n:Int)).toNat,by omega⟩
  have h6:(room-(n:Int)).toNat=r:=by omega
  rw[if_neg Z,h6]at zK;obtain⟨m1,hu,YT⟩:=Nq (bs.length:Int) (room-(n:Int));obtain⟨k,hk⟩:∃k:Nat,k=min bs.length r:=⟨_,rfl⟩
  obtain rfl:m1=(k:Int):=by omega
  have ha:=eF k
  have hc:(Num.bytes k).length=1\/64<=k:=by
   by_cases h7:k<64
   ·left;rw[Num.dJ];unfold Num.code;rw[if_pos h7]
   ·exact .inr (by omega)
  have HN:=fun y=>hid (wK k y (by omega))
  rw[<-hk]at zK;generalize (Num.bytes k).length=d at *;obtain⟨m2,hv,YU⟩:=Nq (k:Int) (room-(n:Int)-((d:Int)-1));obtain⟨j,hj⟩:∃j:Nat,j=min k (r-(d-1)):=⟨_,rfl⟩
  obtain rfl:m2=(j:Int):=by omega
  rw[<-hj]at zK
  have h3:Hid (∀y,Below w.heap.size w y->(convert 60 9 (.slice a j c)).run prog y=.ok (.string ⟨(bs.take j).toArray⟩) y):=fun y hy=>by
   have hf:(bs.take j).length=j:=by simp;omega
   have:=Ns y a (bs.take j) c (BytesAt.below' (BytesAt.take hb j) hy) (fun e=>by rw[hn e];simp);rwa[hf]at this
  generalize (⟨(bs.take j).toArray⟩:ByteArray)=D at *
  have g1:¬(room-(n:Int)<0):=by omega
  have g2:(j:Int)<=(c:Int):=by omega
  have g3:(j:Int)<=(bs.length:Int):=by omega
  have g4: -9223372036854775808<=room-(n:Int)-((d:Int)-1):=by omega
  have g5:room-(n:Int)-((d:Int)-1)<9223372036854775808:=by omega
  have g6: -9223372036854775808<=(d:Int)-1:=by omega
  have g7:(d:Int)-1<9223372036854775808:=by omega
  have g8:k<18446744073709551616:=by omega
  clear hg Z h6 ha hl he h0 h5 YT YU hk hj hc hb hn;unfold bJ;unfold bX kD at U;go_enter func316,ntmps316
  go_wp2_with fail
  rw[<-U];refine HS.out.mono ?_;rintro e y ⟨rfl,O⟩;obtain⟨H,I,G⟩:=HB.out;have mX:=H.of_heap (O.block _ (by omega));have F:=I.of_heap (O.block _ (by omega));have XE:=G.trans (O.mono (by omega));have h4:=HN y;have qX:=hid (And.intro mX (And.intro F XE));have hm:=O.size;clear O H I G mX F XE HS HN U x0 x1 x2 x3 x4 x5 x6 x7 x8 x9 xf HB
  go_wp2_with fail
  refine h4.out.mono ?_;rintro e z ⟨a',c',rfl,V⟩;obtain⟨H,I,G⟩:=qX.out;have mX:=H.of_heap (V.block _ (by omega));have F:=I.of_heap (V.block _ (by omega));have yX:=G.trans (V.mono (by omega));have ho:=h3.out z yX;obtain⟨x0,x1,x2,x3,x4,x5,x6,x7,x8,x9,xf⟩:=aA mX;obtain⟨y0,y1,y2,y3,y4,y5,y6,y7,y8,y9,yf⟩:=aA F;have h2:=hid (And.intro mX (And.intro F yX));clear V H I G mX F yX h3 h4 qX hm
  go_wp2_with fail
  rw[dw];have h8:=h2.out.2.1.of_heap (uj z ⟨w.heap.size,8,none⟩ (.string D) (w.heap.size+1) (by simp));have h9:Below w.heap.size w (z.setCell ⟨w.heap.size,8,none⟩ (.string D)):=((jD.refl w.heap.size z).set 8 (.string D)).below h2.out.2.2 (jK _);have gU:=bY h8 (.int .i64 f.kind) (.int .i64 f.stream) (.int .u64 f.offset) (.int .u64 f.reliable) (.int .u64 f.limit) (.bool f.fin) (.int .u64 f.id) (.int .u64 f.deadline) (.string D) (.slice none 0 0);have l7:=bZ (z.setCell ⟨w.heap.size,8,none⟩ (.string D)) (w.heap.size+1) (.int .i64 f.kind) (.int .i64 f.stream) (.int .u64 f.offset) (.int .u64 f.reliable) (.int .u64 f.limit) (.bool f.fin) (.int .u64 f.id) (.int .u64 f.deadline) (.string D) (.slice none 0 0);generalize gZ (z.setCell ⟨w.heap.size,8,none⟩ (.string D)) (w.heap.size+1) (.int .i64 f.kind) (.int .i64 f.stream) (.int .u64 f.offset) (.int .u64 f.reliable) (.int .u64 f.limit) (.bool f.fin) (.int .u64 f.id) (.int .u64 f.deadline) (.string D) (.slice none 0 0)=Wf at *;obtain⟨a0,a1,a2,a3,a4,a5,a6,a7,a8,a9,_⟩:=aA gU;exact bodyPost_ret (v:=iI X) (by rw[zK.out];simp[results,results316,go_sem,a0,a1,a2,a3,a4,a5,a6,a7,a8,a9,bJ,iI]) rfl ⟨rfl,l7.below h9 (by omega)⟩
theorem lJ(n:Nat):(Num.bytes n).length<=8:=(eF n).2
theorem xJ(w:World)(f:Fr)(hs:snd f=true)(G:f.ranges=[])(hd:f.data.size<=4096)(hl:(aB f).length<=1000000):Di w f none 0:=by
 obtain⟨⟨s0,s8,n0,n1,n2,n3,n4⟩,k1,I,_⟩:=lV f hs;unfold aU at *;exact⟨hs,⟨by rw[G];simp,by omega,by omega,by omega,by omega,fun j F=>by rw[G]at F;simp at F⟩,fun j F=>by rw[G]at F;simp at F,by rw[G];simp,(fun x H=>by cases H),hl⟩
theorem Tx(w:World)(kind:Int)(F:kind=5\/kind=6)(k:Nat)(O:k<8)(x:Nat)(H:x<=aU):Di w (iq kind k x) none 0:=by
 have G:(0:Nat)<=aU:=by decide
 refine xJ w _ ?_ rfl (by show(0:Nat)<=4096;decide) ?_
 ·rcases F with rfl|rfl<;>simp[snd,kG,jf,iq,H,G]<;>omega
 ·have h1:=lJ k;have I:=lJ x
  rcases F with rfl|rfl
  ·simp[aB,aQ,iq,aX,aO,fieldAt];omega
  ·simp[aB,aQ,iq,aX,aO,fieldAt];omega
abbrev grL(kind:Int)(k:Nat)(x:Int):List Value:=[.int .i64 kind,.int .i64 k,.int .u64 0,.int .u64 0,.int .u64 x,.bool false,.int .u64 0,.int .u64 0,.string ⟨#[]⟩,.slice none 0 0]
theorem Jp(S o:Nat)(g:Gn)(kind:Int)(hk:kind=5\/kind=6)(k:Nat)(h8:k<8)(free:Nat)(room:Int)(w:World)(l:List Value)(hB:ak w S TS l)(h:pU l o g)(hg:g.ahead<=4096)(hf:free<=aU):
  Calls prog 254 #[.pointer (some ⟨S,o,none⟩),bJ (iq kind k 0) (.slice none 0 0),.int .u64 free,.int .i64 room] w fun e w'=>
   e=.returned (iI ((g.next kind k free room).map Prod.fst))/\∃l',cu w w' S l l' o 4/\pU l' o (((g.next kind k free room).map Prod.snd).getD g):=by
 obtain⟨L,hL⟩:∃L,L=g.lim free:=⟨_,rfl⟩
 have h4:L<=aU:=by rw[hL];unfold Gn.lim;omega
 obtain⟨W,hW⟩:∃W,W=(w.alloc (.cells (grL kind k 0).toArray 65)).alloc (.cells (kD).toArray 65):=⟨_,rfl⟩
 have h0:ak W w.heap.size 65 (grL kind k 0):=by rw[hW];exact(ak.new w 65 _).alloc _
 have h5:ak W (w.heap.size+1) 65 kD:=by
  rw[hW];have:=ak.new (w.alloc (.cells (grL kind k 0).toArray 65)) 65 kD;rwa[Z9]at this
 have h2:Below w.heap.size w W:=by rw[hW];exact((mR _ w).alloc (jK _) _).alloc (by simp) _
 have hsz:W.heap.size=w.heap.size+2:=by rw[hW];simp
 have h3:ak W S TS l:=hB.of_heap (h2.block _ hB.lt);have WI:=hid (Dg S o g free W l h3 h hg hf);rw[<-hL]at WI;obtain⟨W1,O⟩:∃W1,W1=W.setCell ⟨w.heap.size,4,none⟩ (.int .u64 L):=⟨_,rfl⟩
 have V:ak W1 w.heap.size 65 (grL kind k L):=by rw[O];exact h0.setCell 4 _
 have F:ak W1 (w.heap.size+1) 65 kD:=by rw[O];exact h5.of_heap (uj _ _ _ _ (by simp))
 have U:Below w.heap.size w W1:=by rw[O];exact((jD.refl w.heap.size W).set 4 _).below h2 (jK _)
 have hc:W1.heap.size=w.heap.size+2:=by rw[O];simpa using hsz
 have uF:=hid (qW _ none 0 W1 (Tx W1 kind hk k h8 L h4))
 have vZ:Hid (g.next kind k free room=if room<((aB (iq kind k L)).length:Int)then none else some (iq kind k L,({g with told:=L}:Gn).aw L)):=by unfold Hid;rw[hL];rfl
 generalize g.next kind k free room=X at *;generalize hn:(aB (iq kind k L)).length=n at *;have HB:=hid (And.intro hB (And.intro h hL));obtain⟨x0,x1,x2,x3,x4,x5,x6,x7,x8,x9,xf⟩:=aA h0;have HH:=hid (And.intro V (And.intro F U));have zl:=hB.lt;clear h0 h5 h2 h3 hB h V F U hg hf h4 hL;unfold bJ iq;unfold grL kD at hW
 by_cases h9:room<(n:Int)
 ·have HX:Hid (X=none):=by unfold Hid;rw[vZ.out,if_pos h9]
  clear vZ;go_enter func254,ntmps254
  go_wp2_with fail
  rw[<-hW];refine WI.out.mono ?_;rintro e y ⟨rfl,rfl⟩;obtain⟨V,F,U⟩:=HH.out;obtain⟨u0,u1,u2,u3,u4,u5,u6,u7,u8,u9,uf⟩:=aA V;have ha:=hid (And.intro F U);clear hW V F U
  go_wp2_with fail
  rw[<-O];refine uF.out.mono ?_;rintro e z ⟨rfl,G⟩;obtain⟨F,U⟩:=ha.out;have Lv:=F.of_heap (G.block _ (by omega));have yX:=U.trans (G.mono (by omega));obtain⟨y0,y1,y2,y3,y4,y5,y6,y7,y8,y9,yf⟩:=aA Lv;have HZ:=hid (And.intro Lv yX);clear G F U Lv yX u0 u1 u2 u3 u4 u5 u6 u7 u8 u9 uf x0 x1 x2 x3 x4 x5 x6 x7 x8 x9 xf
  go_wp2_with fail
  rw[dw];have gU:=bY HZ.out.1 (.int .i64 0) (.int .i64 0) (.int .u64 0) (.int .u64 0) (.int .u64 0) (.bool false) (.int .u64 0) (.int .u64 0) (.string ⟨#[]⟩) (.slice none 0 0);have l7:=bZ z (w.heap.size+1) (.int .i64 0) (.int .i64 0) (.int .u64 0) (.int .u64 0) (.int .u64 0) (.bool false) (.int .u64 0) (.int .u64 0) (.string ⟨#[]⟩) (.slice none 0 0);generalize gZ z (w.heap.size+1) (.int .i64 0) (.int .i64 0) (.int .u64 0) (.int .u64 0) (.int .u64 0) (.bool false) (.int .u64 0) (.int .u64 0) (.string ⟨#[]⟩) (.slice none 0 0)=Wf at *;obtain⟨a0,a1,a2,a3,a4,a5,a6,a7,a8,a9,_⟩:=aA gU;refine bodyPost_ret (v:=iI (X.map Prod.fst)) (by rw[HX.out];simp[results,results254,go_sem,a0,a1,a2,a3,a4,a5,a6,a7,a8,a9,bJ,iI,dW]) rfl ⟨rfl,l,(cu.refl HB.out.1 o 4).eP (l7.below HZ.out.2 (by omega)),?_⟩;rw[HX.out];exact HB.out.2.1
 ·have HX:Hid (X=some (iq kind k L,({g with told:=L}:Gn).aw L)):=by unfold Hid;rw[vZ.out,if_neg h9]
  clear vZ;go_enter func254,ntmps254
  go_wp2_with fail
  rw[<-hW];refine WI.out.mono ?_;rintro e y ⟨rfl,rfl⟩;obtain⟨V,F,U⟩:=HH.out;obtain⟨u0,u1,u2,u3,u4,u5,u6,u7,u8,u9,uf⟩:=aA V;clear hW V F U
  go_wp2_with fail
  rw[<-O];refine uF.out.mono ?_;rintro e z ⟨rfl,G⟩;obtain⟨V,F,U⟩:=HH.out;have WJ:=V.of_heap (G.block _ (by omega));have Lv:=F.of_heap (G.block _ (by omega));have yX:=U.trans (G.mono (by omega));have iC:=HB.out.1.of_heap (yX.block _ zl);have H:=(Gn.st S o g z l iC HB.out.2.1).1 L;have hr:=G.size;obtain⟨Z,hZ⟩:∃Z,Z=z.setCell ⟨S,o+1,none⟩ (.int .u64 L):=⟨_,rfl⟩;rw[<-hZ]at H;have OX:ak Z w.heap.size 65 _:=WJ.of_heap (by rw[hZ];exact uj _ _ _ _ (by simp;omega));have OY:ak Z (w.heap.size+1) 65 _:=Lv.of_heap (by rw[hZ];exact uj _ _ _ _ (by simp;omega))
  have hj:Z.heap.size=z.heap.size:=by rw[hZ];simp
  have Ri:=hid (A_ S o {g with told:=L} (iq kind k L) (.slice none 0 0) Z _ H.1.blk H.2)
  have c1:z.cell? ⟨S,o+1,none⟩=some (.int .u64 g.told):=by rw[iC.cell];exact HB.out.2.1.c1
  have f1:=iC.frozen (o+1);obtain⟨v0,v1,v2,v3,v4,v5,v6,v7,v8,v9,vf⟩:=aA WJ
  have hm:¬(S=w.heap.size):=by omega
  have ho:¬(w.heap.size=S):=by omega
  have HZ:=hid (And.intro OX (And.intro OY (And.intro H yX)));clear G V F U WJ Lv yX iC H u0 u1 u2 u3 u4 u5 u6 u7 u8 u9 uf x0 x1 x2 x3 x4 x5 x6 x7 x8 x9 xf OX OY
  go_wp2_with fail
  rw[<-hZ];refine Ri.out.mono ?_;rintro e y ⟨rfl,l',I,h6⟩;obtain⟨OX,OY,H,h7⟩:=HZ.out;have X4:=I.other OX (by omega);have WK:=I.other OY (by omega);obtain⟨x0,x1,x2,x3,x4,x5,x6,x7,x8,x9,xf⟩:=aA X4;obtain⟨y0,y1,y2,y3,y4,y5,y6,y7,y8,y9,yf⟩:=aA WK;have HY:=hid (And.intro WK (And.intro (cu.after h7 (H.1.trans I)) h6));clear I h6 OX OY H h7 X4 WK v0 v1 v2 v3 v4 v5 v6 v7 v8 v9 vf
  go_wp2_with fail
  rw[dw];have gU:=bY HY.out.1 (.int .i64 kind) (.int .i64 k) (.int .u64 0) (.int .u64 0) (.int .u64 L) (.bool false) (.int .u64 0) (.int .u64 0) (.string ⟨#[]⟩) (.slice none 0 0);have l7:=bZ y (w.heap.size+1) (.int .i64 kind) (.int .i64 k) (.int .u64 0) (.int .u64 0) (.int .u64 L) (.bool false) (.int .u64 0) (.int .u64 0) (.string ⟨#[]⟩) (.slice none 0 0);generalize he:gZ y (w.heap.size+1) (.int .i64 kind) (.int .i64 k) (.int .u64 0) (.int .u64 0) (.int .u64 L) (.bool false) (.int .u64 0) (.int .u64 0) (.string ⟨#[]⟩) (.slice none 0 0)=Wf at *;obtain⟨a0,a1,a2,a3,a4,a5,a6,a7,a8,a9,_⟩:=aA gU;refine bodyPost_ret (v:=iI (X.map Prod.fst)) (by rw[HX.out];simp[results,results254,go_sem,a0,a1,a2,a3,a4,a5,a6,a7,a8,a9,bJ,iI,iq]) rfl ⟨rfl,l',HY.out.2.1.tch l7 (by omega) (by omega),?_⟩;rw[HX.out];exact HY.out.2.2
theorem Nt.st(S o:Nat)(g:Nt)(w:World)(l:List Value)(hB:ak w S TS l)(h:yV l o g):
  (∀x:Nat,cu w (w.setCell ⟨S,o+2,none⟩ (.int .u64 x)) S l (l.set (o+2) (.int .u64 x)) o 4/\yV (l.set (o+2) (.int .u64 x)) o {g with away:=x})/\
  (∀x:Nat,cu w (w.setCell ⟨S,o+3,none⟩ (.int .u64 x)) S l (l.set (o+3) (.int .u64 x)) o 4/\yV (l.set (o+3) (.int .u64 x)) o {g with came:=x}):=
 ⟨fun x=>⟨cu.one hB _ _ _ _ (by omega) (by omega),by rw[aj _ _ _ _ (by omega),h.c0],by rw[aj _ _ _ _ (by omega),h.c1],aN _ _ _ _ h.c2,by rw[aj _ _ _ _ (by omega),h.c3]⟩,
 fun x=>⟨cu.one hB _ _ _ _ (by omega) (by omega),by rw[aj _ _ _ _ (by omega),h.c0],by rw[aj _ _ _ _ (by omega),h.c1],by rw[aj _ _ _ _ (by omega),h.c2],aN _ _ _ _ h.c3⟩⟩
theorem Tk(S o:Nat)(g:Nt)(w:World)(l:List Value)(hB:ak w S TS l)(h:yV l o g):
  Calls prog 395 #[.pointer (some ⟨S,o,none⟩)] w fun e w'=>e=.returned (.tuple #[])/\∃l',cu w w' S l l' o 4/\yV l' o g.lose:=by
 have c2:w.cell? ⟨S,o+2,none⟩=some (.int .u64 g.away):=by rw[hB.cell];exact h.c2
 have f2:=hB.frozen (o+2);have F:=hid ((Nt.st S o g w l hB h).1 18446744073709551615);rw[show((18446744073709551615:Nat):Int)=18446744073709551615 from rfl]at F;clear h hB;go_enter func395,ntmps395;go_wp2;go_end0;exact⟨rfl,_,F.out⟩
theorem Tp(S o:Nat)(g:Nt)(f:Fr)(rv:Value)(w:World)(l:List Value)(hB:ak w S TS l)(h:yV l o g):
  Calls prog 342 #[.pointer (some ⟨S,o,none⟩),bJ f rv] w fun e w'=>e=.returned (.tuple #[])/\∃l',cu w w' S l l' o 4/\yV l' o (g.aw f.reliable):=by
 obtain⟨m,X,G⟩:=min2 g.away f.reliable
 have U:Hid (g.aw f.reliable={g with away:=m}):=by unfold Hid;rw[G];rfl
 obtain⟨W,H⟩:∃W,W=w.alloc (.cells (bX f rv).toArray 65):=⟨_,rfl⟩
 have hb:ak W w.heap.size 65 (bX f rv):=by rw[H];exact ak.new w 65 _
 have F:ak W S TS l:=by rw[H];exact hB.alloc _
 have O:Below w.heap.size w W:=by rw[H];exact(mR _ w).alloc (jK _) _
 have I:=hid ((Nt.st S o g W l F h).1 m);have Z:W.cell? ⟨w.heap.size,3,none⟩=some (.int .u64 f.reliable):=hb.cell 3
 have c2:W.cell? ⟨S,o+2,none⟩=some (.int .u64 g.away):=by rw[F.cell];exact h.c2
 have f2:=F.frozen (o+2);have V:=hid O;clear h hB hb F O G;unfold bJ;unfold bX at H;go_enter func342,ntmps342
 go_wp2_with fail
 rw[<-H];clear H
 go_region
 all_goals go_wp2
 all_goals go_end0
 all_goals exact⟨rfl,_,cu.after V.out I.out.1.drew,by rw[U.out];exact I.out.2⟩
theorem Tt(S o:Nat)(g:Nt)(f:Fr)(rv:Value)(w:World)(l:List Value)(hB:ak w S TS l)(h:yV l o g):
  Calls prog 394 #[.pointer (some ⟨S,o,none⟩),bJ f rv] w fun e w'=>e=.returned (.tuple #[])/\∃l',cu w w' S l l' o 4/\yV l' o (g.cm f.reliable):=by
 obtain⟨m,X,G⟩:=min2 g.came f.reliable
 have U:Hid (g.cm f.reliable={g with came:=m}):=by unfold Hid;rw[G];rfl
 obtain⟨W,H⟩:∃W,W=w.alloc (.cells (bX f rv).toArray 65):=⟨_,rfl⟩
 have hb:ak W w.heap.size 65 (bX f rv):=by rw[H];exact ak.new w 65 _
 have F:ak W S TS l:=by rw[H];exact hB.alloc _
 have O:Below w.heap.size w W:=by rw[H];exact(mR _ w).alloc (jK _) _
 have I:=hid ((Nt.st S o g W l F h).2 m);have Z:W.cell? ⟨w.heap.size,3,none⟩=some (.int .u64 f.reliable):=hb.cell 3
 have c2:W.cell? ⟨S,o+3,none⟩=some (.int .u64 g.came):=by rw[F.cell];exact h.c3
 have f2:=F.frozen (o+3);have V:=hid O;clear h hB hb F O G;unfold bJ;unfold bX at H;go_enter func394,ntmps394
 go_wp2_with fail
 rw[<-H];clear H
 go_region
 all_goals go_wp2
 all_goals go_end0
 all_goals exact⟨rfl,_,cu.after V.out I.out.1.drew,by rw[U.out];exact I.out.2⟩
def jE(R:Nat):Nat->List Value->World->World
 |_,[],y=>y
 |j,v::vs,y=>jE R (j+1) vs (y.setCell ⟨R,j,none⟩ v)
theorem jd(R:Nat):∀(vs:List Value) (j:Nat) (y:World),jD R y (jE R j vs y)
 |[],_,y=>jD.refl R y
 |v::vs,j,y=>by
  have h:=(jD.refl R y).set j v;have F:=jd R vs (j+1) (y.setCell ⟨R,j,none⟩ v);exact⟨F.os.trans h.os,F.tape.trans h.tape,F.output.trans h.output,F.size.trans h.size,fun k G=>(F.block k G).trans (h.block k G)⟩
def iU:Nat->List Value->List Value->List Value
 |_,[],l=>l
 |j,v::vs,l=>iU (j+1) vs (l.set j v)
theorem jR{R:Nat}{t:TypeId}:∀(vs:List Value) (j:Nat) (y:World) (l:List Value),ak y R t l->ak (jE R j vs y) R t (iU j vs l)
 |[],_,_,_,h=>h
 |v::vs,j,_,_,h=>jR vs (j+1) _ _ (h.setCell j v)
theorem I8(n:Int)(w:World):Calls prog 126 #[.int .i64 n] w fun e w'=>e=.returned (.agg #[.int .i64 n,.int .u64 0,.slice none 0 0])/\Below w.heap.size w w':=by
 go_enter func126,ntmps126
 go_wp2_with fail
 exact bodyPost_ret (v:=.agg #[.int .i64 n,.int .u64 0,.slice none 0 0]) (by simp[results,results126,go_sem]) rfl ⟨rfl,(mR _ w).alloc (jK _) _⟩
theorem zR(n:Nat)(H:n<=4096)(w:World):Calls prog 142 #[.int .i64 n] w fun e w'=>e=.returned (.agg #[.int .u64 n,.int .u64 n,.int .u64 0,.int .u64 n])/\Below w.heap.size w w':=by
 have F:(0:Int)<=(n:Int):=by omega
 have G:(n:Int)<18446744073709551616:=by omega
 go_enter func142,ntmps142
 go_wp2_with fail
 exact bodyPost_ret (v:=.agg #[.int .u64 n,.int .u64 n,.int .u64 0,.int .u64 n]) (by simp[results,results142,go_sem]) rfl ⟨rfl,(mR _ w).alloc (jK _) _⟩
abbrev inZ:List Value:=[.int .u64 0,.int .u64 0,.int .u64 0,.int .u64 0,.int .u64 0,.slice none 0 0,.slice none 0 0,.int .u64 0,.bool false,.int .u64 0,.bool false,.int .u64 0,.int .i64 0]
abbrev vC(n:Nat):List Value:=[.int .u64 n,.int .u64 n,.int .u64 0,.int .u64 n,.int .u64 0,.slice none 0 0,.slice none 0 0,.int .u64 0,.bool false,.int .u64 0,.bool false,.int .u64 0,.int .i64 0]
abbrev Wl:List Value:=[.slice none 0 0,.bool false,.bool false,.int .u64 0,.int .u64 0,.int .u64 0,.int .u64 0,.int .u64 0,.int .i64 0,.int .u64 0,.slice none 0 0,.int .i64 0,.int .u64 0,.slice none 0 0]
abbrev jk(n:Nat):List Value:=[.slice none 0 0,.bool false,.bool false,.int .u64 0,.int .u64 0,.int .u64 0,.int .u64 n,.int .u64 0,.int .i64 2049,.int .u64 0,.slice none 0 0,.int .i64 2049,.int .u64 0,.slice none 0 0]
theorem Wm(n:Nat)(hn:n<=4096)(w:World):Calls prog 145 #[.int .i64 n] w fun e w'=>e=.returned (.agg (vC n).toArray)/\Below w.heap.size w w':=by
 have HG:=hid (fun y=>zR n hn y);obtain⟨W,O⟩:∃W,W=w.alloc (.cells inZ.toArray 198):=⟨_,rfl⟩
 have hb:ak W w.heap.size 198 inZ:=by rw[O];exact ak.new w 198 _
 have H:Below w.heap.size w W:=by rw[O];exact(mR _ w).alloc (jK _) _
 have hsz:w.heap.size<W.heap.size:=by rw[O];simp
 have HB:=hid (And.intro hb (And.intro H hsz));clear hb H hsz;unfold inZ at O;unfold vC;go_enter func145,ntmps145
 go_wp2_with fail
 rw[<-O];clear O;refine(HG.out W).mono ?_;rintro e y ⟨rfl,I⟩;obtain⟨hb,H,hsz⟩:=HB.out;have F:=hid (And.intro (hb.of_heap (I.block _ hsz)) (H.trans (I.mono (Kt hsz))));clear hb H hsz I;clear HB;have x0:=F.out.1.cell 0;have x1:=F.out.1.cell 1;have x2:=F.out.1.cell 2;have x3:=F.out.1.cell 3;have x4:=F.out.1.cell 4;have x5:=F.out.1.cell 5;have x6:=F.out.1.cell 6;have x7:=F.out.1.cell 7;have x8:=F.out.1.cell 8;have x9:=F.out.1.cell 9;have Z:=F.out.1.cell 10;have h0:=F.out.1.cell 11;have h2:=F.out.1.cell 12;have xf:=F.out.1.frozen;simp only[CK,Bu]at x0 x1 x2 x3 x4 x5 x6 x7 x8 x9 Z h0 h2
 go_wp2_with fail
 have G:ak (jE w.heap.size 0 (vC n) y) w.heap.size 198 (vC n):=jR _ 0 y _ F.out.1;have l7:=jd w.heap.size (vC n) 0 y;change bodyPost _ _ _ _ _ (jE w.heap.size 0 (vC n) y);generalize jE w.heap.size 0 (vC n) y=Wf at *;have a0:=G.cell 0;have a1:=G.cell 1;have a2:=G.cell 2;have a3:=G.cell 3;have a4:=G.cell 4;have a5:=G.cell 5;have a6:=G.cell 6;have a7:=G.cell 7;have a8:=G.cell 8;have a9:=G.cell 9;have U:=G.cell 10;have V:=G.cell 11;have X:=G.cell 12;simp only[CK,Bu]at a0 a1 a2 a3 a4 a5 a6 a7 a8 a9 U V X;exact bodyPost_ret (v:=.agg (vC n).toArray) (by simp[results,results145,go_sem,a0,a1,a2,a3,a4,a5,a6,a7,a8,a9,U,V,X]) rfl ⟨rfl,l7.below F.out.2 (jK _)⟩
theorem Sj(n:Nat)(hn:n<=4096)(w:World):Calls prog 144 #[.int .i64 n] w fun e w'=>e=.returned (.agg (jk n).toArray)/\Below w.heap.size w w':=by
 have h7:(0:Int)<=(n:Int):=by omega
 have h8:(n:Int)<18446744073709551616:=by omega
 have HG:=hid (fun y=>I8 2049 y);obtain⟨W,U⟩:∃W,W=w.alloc (.cells Wl.toArray 194):=⟨_,rfl⟩
 have hb:ak W w.heap.size 194 Wl:=by rw[U];exact ak.new w 194 _
 have H:Below w.heap.size w W:=by rw[U];exact(mR _ w).alloc (jK _) _
 have hsz:w.heap.size<W.heap.size:=by rw[U];simp
 have HB:=hid (And.intro hb (And.intro H hsz));clear hb H hsz;unfold Wl at U;unfold jk;go_enter func144,ntmps144
 go_wp2_with fail
 rw[<-U];clear U;refine(HG.out W).mono ?_;rintro e y1 ⟨rfl,I⟩
 go_wp2_with fail
 refine(HG.out y1).mono ?_;rintro e y ⟨rfl,h2⟩;obtain⟨hb,H,hsz⟩:=HB.out;have O:=I.trans (h2.mono I.size);have F:=hid (And.intro (hb.of_heap (O.block _ hsz)) (H.trans (O.mono (Kt hsz))));clear hb H hsz I h2 O;clear HB;have x0:=F.out.1.cell 0;have x1:=F.out.1.cell 1;have x2:=F.out.1.cell 2;have x3:=F.out.1.cell 3;have x4:=F.out.1.cell 4;have x5:=F.out.1.cell 5;have x6:=F.out.1.cell 6;have x7:=F.out.1.cell 7;have x8:=F.out.1.cell 8;have x9:=F.out.1.cell 9;have h3:=F.out.1.cell 10;have h4:=F.out.1.cell 11;have h5:=F.out.1.cell 12;have h6:=F.out.1.cell 13;have xf:=F.out.1.frozen;simp only[CK,Bu]at x0 x1 x2 x3 x4 x5 x6 x7 x8 x9 h3 h4 h5 h6
 go_wp2_with fail
 have G:ak (jE w.heap.size 0 (jk n) y) w.heap.size 194 (jk n):=jR _ 0 y _ F.out.1;have l7:=jd w.heap.size (jk n) 0 y;change bodyPost _ _ _ _ _ (jE w.heap.size 0 (jk n) y);generalize jE w.heap.size 0 (jk n) y=Wf at *;have a0:=G.cell 0;have a1:=G.cell 1;have a2:=G.cell 2;have a3:=G.cell 3;have a4:=G.cell 4;have a5:=G.cell 5;have a6:=G.cell 6;have a7:=G.cell 7;have a8:=G.cell 8;have a9:=G.cell 9;have V:=G.cell 10;have X:=G.cell 11;have Z:=G.cell 12;have h0:=G.cell 13;simp only[CK,Bu]at a0 a1 a2 a3 a4 a5 a6 a7 a8 a9 V X Z h0;exact bodyPost_ret (v:=.agg (jk n).toArray) (by simp[results,results144,go_sem,a0,a1,a2,a3,a4,a5,a6,a7,a8,a9,V,X,Z,h0]) rfl ⟨rfl,l7.below F.out.2 (jK _)⟩
end Go.Proofs.YtphbledmopchnaaGreatDoor.Sd
namespace Go.Proofs.YtphbledmopchnaaGreatDoor.St
open Go.RowKit Go.Lib Go.Shelf Mm Tryz
theorem fP.RZ{w:World}{sp:Nat}{base:Option Addr}{c:Nat}{rs:List (Nat×Nat)}(h:fP w sp base c rs)(G:rs.length<=c)(F:c<=9223372036854775807):bn 170 2 w (.slice base rs.length c) rs.length (aC rs):=by
 rcases h with⟨rfl,rfl,rfl⟩|⟨b,l,rfl,_,hB,hl,ht,h1⟩
 ·exact bn.nil _ _ _
 ·refine .inr ⟨b,c,l,rfl,hB,by omega,G,F,by rw[iY];omega,by rw[Nat.mul_comm,ht],h1⟩
theorem Ta(w:World):(binOp BinOp.eql 63 (.slice none 0 0) (.slice none 0 0)).run prog w=.ok (.bool true) w:=by kernel_rfl
theorem OH(w:World)(a:Addr)(n c:Nat):(binOp BinOp.eql 63 (.slice (some a) n c) (.slice none 0 0)).run prog w=.ok (.bool false) w:=by kernel_rfl
theorem K_(v:Value)(rs:List (Nat×Nat))(w:World)(h:bn 170 2 w v rs.length (aC rs))(hn:rs.length<=1000000):
  Calls prog 228 #[v] w fun e w'=>∃v',e=.returned v'/\bn 170 2 w' v' rs.length (aC rs)/\Own w.heap.size v'/\Below w.heap.size w w':=by
 rcases h with⟨rfl,hm,hg⟩|⟨g,cap,cs,rfl,hB,h2,h3,h4,h5,h6,h7⟩
 ·have HG:Hid (bn 170 2 w (.slice none 0 0) rs.length (aC rs)):=.inl ⟨rfl,hm,hg⟩;have q1:=Ta w;go_enter func228,ntmps228;go_wp2;go_ret;exact⟨_,rfl,HG.out,fun k Z=>by simp[tL]at Z,mR _ _⟩
 ·have q1:=OH w ⟨g,0,none⟩ rs.length cap;obtain⟨F,I⟩:∃F,F=w.alloc (.cells #[] 170):=⟨_,rfl⟩
  have O:ak F w.heap.size 170 []:=by rw[I];exact ak.new w 170 []
  have H:Below w.heap.size w F:=by rw[I];exact(mR _ w).alloc (jK _) _
  have ho:F.heap.size=w.heap.size+1:=by rw[I];simp
  have ha:ak F g 170 cs:=hB.of_heap (H.block g hB.lt)
  have G:∀j u,(aC rs)[j]?=some u->F.cell? ((⟨g,0,none⟩:Addr).add j)=some u:=fun j u X=>by
   rw[Addr.add_lit,qad,ha.cell];rw[<-h6,qa8]at X;split at X
   ·exact X
   ·cases X
  obtain⟨v',V,tF,U,Ra,h8⟩:∃v' V,(∀ty,(qa0 #[63,63] ty #[.slice (some ⟨w.heap.size,0,none⟩) 0 0,.slice (some ⟨g,0,none⟩) rs.length cap]).run prog F=.ok v' V)/\bn 170 2 V v' rs.length (aC rs)/\Own w.heap.size v'/\Below w.heap.size w V:=by
   by_cases h0:rs.length=0
   ·have hc:rs=[]:=List.length_eq_zero_iff.1 h0;subst hc
    have hf:=fun ty=>bS (P:=prog) (w:=F) 63 63 ty 170 _ 2 16 FX.ht FX.ht FX.hi (n:=0) (c:=0) (m:=0) (mc:=cap) O ⟨g,0,none⟩ (vs:=[]) rfl (fun j v X=>by simp at X) (fun v hv=>by cases hv) (jK _) (jK _)
    refine⟨_,_,hf,.inr ⟨w.heap.size,0,_,rfl,O.put _,rfl,jK _,by omega,rfl,rfl,fun v hv=>by cases hv⟩,fun k Z=>by simp[tL]at Z;omega,?_⟩;exact H.trans ((⟨(aT F w.heap.size _).os,(aT F w.heap.size _).tape,(aT F w.heap.size _).output,(aT F w.heap.size _).size,fun k Z=>dQ F _ k _ (by omega)⟩:Below w.heap.size F _))
   ·have h9:bn 170 2 F (.slice (some ⟨w.heap.size,0,none⟩) 0 0) 0 []:=.inr ⟨w.heap.size,0,[],rfl,O,rfl,jK _,by omega,rfl,rfl,fun v hv=>by cases hv⟩;obtain⟨v',V,tF,he,U⟩:=dY FX h9 ⟨g,0,none⟩ rs.length cap (aC rs) (by rw[iY];omega) (by omega) (iR rs) G (by omega)
    have hO:Own w.heap.size (.slice (some ⟨w.heap.size,0,none⟩) 0 0):=fun k Z=>by simp[tL]at Z;omega
    exact⟨v',V,tF,by simpa using he,U.own hO (by omega),H.trans (U.below hO (by omega))⟩
  obtain⟨a',c',rfl,_⟩:=U.shape;have HF:=hid (And.intro U (And.intro Ra h8));clear U Ra h8 G ha ho H O hB h2 h3 h4 h5 h6 h7;subst I;go_enter func228,ntmps228
  go_wp2_with (at_builtin;refine Lib.wpList_append_run _ rfl _ _ _ _ rfl _ _ rfl rfl _ _ (tF _) ?_)
  go_ret;exact⟨_,rfl,HF.out⟩
theorem BJ(a:Option Addr)(n c:Nat)(w:World):
  Calls prog 227 #[.slice a n c] w fun e w'=>e=.returned (.func (.func 293) #[] #[.pointer (some ⟨w.heap.size,0,none⟩)])/\w'=w.alloc (.cells #[.slice a n c] 63):=by
 have F:∀(fn:Fn) (first cap:Array Value) (w:World),(Instr.makeFunc fn first cap).run prog w=.ok (.func fn first cap) w:=fun _ _ _ _=>rfl
 go_enter func227,ntmps227;go_wp2;go_ret;exact⟨rfl,rfl⟩
section
attribute [local go_sem] Oper.semAt_some
def bw(rs:List (Nat×Nat))(k:Nat):List (Nat×Nat×Nat):=(List.range k).map fun j=>(rs.length-1-j,rs.getD (rs.length-1-j) (0,0))
theorem Tc(rs:List (Nat×Nat))(k:Nat):bw rs (k+1)=bw rs k++[(rs.length-1-k,rs.getD (rs.length-1-k) (0,0))]:=by simp[bw,List.range_succ]
theorem La(rs:List (Nat×Nat))(k:Nat):(bw rs k).length=k:=by simp[bw]
theorem OI(F:Fence)(n:Nat)(Y8:F.fn 293)(h8:F.round=none)(hn:1<=n)(l G:Nat)(v:Value)(rs:List (Nat×Nat))(he:rs.length<=1000000)(Kp:World->World->Prop)(h3:∀A B,Kp A B->B.heap[G]?=A.heap[G]?/\∀g,v.ownBlock=some g->B.heap[g]?=A.heap[g]?)(J Jx:List (Nat×Nat×Nat)->World->Prop)(hY:∀pre x W,J pre W->pre.length<rs.length->YieldAt F (n-1) prog l #[.int .i64 x.1,.agg #[.int .u64 x.2.1,.int .u64 x.2.2]] W fun e O=>
   (e=.returned (.bool true)/\J (pre++[x]) O/\Kp W O)\/(e=.returned (.bool false)/\Jx (pre++[x]) O))(W:World)(hb:ak W G 63 [v])(H:bn 170 2 W v rs.length (aC rs))(h0:J [] W):
  CallsIn F n prog 293 #[.func (.yield l) #[] #[],.pointer (some ⟨G,0,none⟩)] W fun e O=>(∃v,e=.returned v)/\
   ((∃ys,ys=bw rs rs.length/\J ys O)\/(∃pre,(∃k,k<=rs.length/\pre=bw rs k)/\Jx pre O)):=by
 obtain⟨a,c,rfl,hc⟩:=H.shape;have k0:W.cell? ⟨G,0,none⟩=some (.slice a rs.length c):=hb.cell 0;have HB:=hid hb;have HG:=hid H;have HY:=hid hY;have h5:=hid h3;clear hb H hY h3;refine callsIn_of_wp func293 rfl Y8 ?_ h8;simp only[ntmps293,Vh,ZE,qa1,qa5,qa6,Lb,M4,Si,R3,Gl,Xw]
 gi_wp2
 gi_loopw [3] (fun i wr=>∃k m:Nat,k+m=rs.length/\i=.int .i64 ((m:Int)-1)/\Hid (J (bw rs k) wr/\ak wr G 63 [.slice a rs.length c]/\bn 170 2 wr (.slice a rs.length c) rs.length (aC rs)))
  (fun i _=>(intOf i+1).toNat)
 case atStart=>exact⟨0,rs.length,by omega,rfl,h0,HB.out,HG.out⟩
 case round=>
  obtain⟨k,m,h9,rfl,U⟩:=hrel;obtain⟨hJ,hb,H⟩:=U.out;have hf:wr.cell? ⟨G,0,none⟩=some (.slice a rs.length c):=hb.cell 0
  cases m with
  |zero=>
   have e0:((0:Nat):Int)-1= -1:=by omega
   rw[e0]
   obtain rfl:k=rs.length:=by omega
   clear hJ hb H
   gi_wp2
   go_end0;exact⟨⟨_,rfl⟩,.inl ⟨_,rfl,U.out.1⟩⟩
  |succ m=>
   have e0:((m+1:Nat):Int)-1=(m:Int):=by omega
   rw[e0]
   have hm:m<rs.length:=by omega
   have ha:(m:Int)<(rs.length:Int):=by omega
   obtain⟨g,hg,c0,_⟩:=H.cell rfl (m*2) _ (oo rs m hm);obtain⟨g',Z,c1,_⟩:=H.cell rfl (m*2+1) _ (oq rs m hm);subst hg
   have h6:g'=g:=by simp at Z;exact Z.symm
   subst h6
   have h7:rs.length-1-k=m:=by omega
   have I:=hid (Tc rs k);rw[h7]at I;generalize rs.getD m (0,0)=xy at *;obtain⟨x,y⟩:=xy;dsimp only at c0 c1;obtain⟨fn,tmps,assign,body,hy,hR⟩:=HY.out _ (m,x,y) wr hJ (by rw[La];omega);dsimp only at hy;clear hJ hb H
   gi_wp2
   refine hR.mono ?_;rintro e W3 (⟨rfl,V,h2⟩|⟨rfl,X⟩)
   ·obtain⟨q1,q2⟩:=h5.out _ _ h2
    have h4:Hid (J (bw rs (k+1)) W3/\ak W3 G 63 [.slice (some ⟨g',0,none⟩) rs.length c]/\bn 170 2 W3 (.slice (some ⟨g',0,none⟩) rs.length c) rs.length (aC rs)):=
     ⟨by rw[I.out];exact V,U.out.2.1.of_heap q1,U.out.2.2.of_heap q2⟩
    clear V h2 q1 q2 U hR hy
    gi_wp2
    go_roundw
    case rel=>exact⟨k+1,m,by omega,by go_num,h4⟩
    case measure=>simp[intOf]
   ·gi_wp2
    refine bodyPost_ret (results_none rfl _ _ _) rfl ?_;exact⟨⟨_,rfl⟩,.inr ⟨_,⟨k+1,by omega,I.out.symm⟩,X⟩⟩
end
section
attribute [local go_sem] Oper.semAt_some
theorem BK{β:Type}(B b:Nat)(t:TypeId)(l:List Value):OwnFrom B (fun(_:β) W=>ak W b t l):=fun _ X Y row hs H I=>
 hs.of_heap (H.block b hs.lt (fun e=>by
  obtain⟨_,o,F,G⟩:=I b e.symm;rw[show X.heap[b]?=_ from hs]at F;cases F
  cases G))
def KpO(a E:Nat)(W F:World):Prop:=W.heap.size<=F.heap.size/\(∀k,a<=k->k<E->F.heap[k]?=W.heap[k]?)/\KeepsFrom a W F
def encR(x:Nat×Nat):Array Value:=#[.agg #[.int .u64 x.1,.int .u64 x.2]]
theorem OJ(rs:List (Nat×Nat))(k:Nat)(H:k<=rs.length):(bw rs k).map (·.2)=rs.reverse.take k:=by
 apply List.ext_getElem?;intro j
 by_cases F:j<k
 ·rw[qa8,if_pos F,List.getElem?_reverse (by omega)]
  have G:rs.length-1-j<rs.length:=by omega
  simp[bw,F,G]
 ·rw[qa3 (by simp[bw];omega),qa3 (by simp;omega)]
end
section
attribute [local go_sem] Oper.semAt_some
theorem OL(n:Nat)(hn:4<=n)(l sb sp:Nat)(rs:List (Nat×Nat))(A:World)(base:Option Addr)(c:Nat)(hv:A.cell? ⟨sp,227,none⟩=some (.slice base rs.length c))(ha:bn 170 2 A (.slice base rs.length c) rs.length (aC rs))(h7:ak A sb 273 [.pointer (some ⟨sp,225,none⟩)])(x5:rs.length<=1000000)(J Jx:Nat->List (Nat×Nat)->World->Prop)(hJ:∀E,OwnFrom A.heap.size (J E))(x2:∀E,OwnFrom A.heap.size (Jx E))(h0:∀E W,Below A.heap.size A W->J E [] W)(hY:∀m E pre x W,A.heap.size<=E->E<=W.heap.size->J E pre W->pre.length<rs.length->YieldAt Vp m prog l (encR x) W fun e W'=>
   (e=.returned (.bool true)/\J E (pre++[x]) W'/\KpO A.heap.size E W W')\/(e=.returned (.bool false)/\Jx E (pre++[x]) W'/\KpO A.heap.size E W W')):
  CallsIn Vp n prog 226 #[.func (.yield l) #[] #[],.pointer (some ⟨sb,0,none⟩)] A fun e W'=>(∃v,e=.returned v)/\∃E,A.heap.size<=E/\(J E rs.reverse W'\/(∃k,k<=rs.length/\Jx E (rs.reverse.take k) W')):=by
 have h1:1<=n:=by omega
 obtain⟨W0,hj⟩:∃W0,W0=A.alloc (.cells #[.func (.yield l) #[] #[]] 325):=⟨_,rfl⟩
 have I:Below A.heap.size A W0:=by rw[hj];exact(mR _ A).alloc (jK _) _
 have h8:ak W0 A.heap.size 325 [.func (.yield l) #[] #[]]:=by rw[hj];exact ak.new A 325 _
 have k0:A.cell? ⟨sb,0,none⟩=some (.pointer (some ⟨sp,225,none⟩)):=h7.cell 0;have OM:=h7.lt;have k1:W0.cell? ⟨sb,0,none⟩=some (.pointer (some ⟨sp,225,none⟩)):=(h7.of_heap (I.block sb OM)).cell 0;have k2:W0.cell? ⟨sp,227,none⟩=some (.slice base rs.length c):=cell_of hv (I.block sp (KG A _ (by rw[hv])));have x1:bn 170 2 W0 (.slice base rs.length c) rs.length (aC rs):=ha.of_heap (fun b hb=>I.block b (ha.lt b hb));have HC:=hid (K_ _ rs W0 x1 x5);have x0:=hid h8;have hw:=hid I;have HJ:=hid hJ;have hx:=hid x2;have H0:=hid h0;have HY:=hid hY;clear hv ha x1 I h8 hJ x2 h0 hY h7;refine callsIn_of_wp_marks func226 rfl trivial ?_ rfl;simp only[ntmps226,Vh,ZE,qa1,qa5,qa6,Lb,M4,Si,R3,Gl,Xw];subst hj
 gi_wp2_with (refine⟨trivial,?_⟩;gi_at_call 228;refine(callsIn_wide.2 HC.out).mono ?_;rintro e H ⟨v1,rfl,h3,wH,Z⟩)
 obtain⟨a1,c1,rfl,_⟩:=h3.shape;refine⟨trivial,?_⟩;refine(callsIn_wide.2 (BJ a1 rs.length c1 H)).mono ?_;rintro e G ⟨rfl,h5⟩
 have V:Hid (Below A.heap.size A G/\ak G A.heap.size 325 [.func (.yield l) #[] #[]]/\ak G H.heap.size 63 [.slice a1 rs.length c1]/\bn 170 2 G (.slice a1 rs.length c1) rs.length (aC rs)/\Own A.heap.size (.slice a1 rs.length c1)/\A.heap.size<H.heap.size/\G.heap.size=H.heap.size+1):=by
  have hm:Below H.heap.size H G:=by rw[h5];exact(mR _ H).alloc (jK _) _
  have hA1:Below A.heap.size A H:=hw.out.trans (Z.mono (by simp))
  have h6:A.heap.size<H.heap.size:=by have:=Z.size;simp at this;omega
  refine⟨hA1.trans (hm.mono hA1.size),x0.out.of_heap ?_,?_,h3.of_heap (fun b hb=>hm.block b (h3.lt b hb)),fun k hk=>?_,h6,?_⟩
  ·rw[hm.block _ h6,Z.block _ (by simp)]
  ·rw[h5];exact ak.new H 63 _
  ·have:=wH k hk;simp at this;omega
  ·rw[h5];simp
 clear h3 wH Z h5 x0 hw HC k0 k1 k2
 gi_wp2
 have h9:SeqStopsK Vp (n-1) prog 293 #[.pointer (some ⟨H.heap.size,0,none⟩)] (fun x:Nat×Nat×Nat=>#[.int .i64 x.1,.agg #[.int .u64 x.2.1,.int .u64 x.2.2]]) (fun X Y=>∀k,A.heap.size<=k->k<G.heap.size->Y.heap[k]?=X.heap[k]?) (fun ys=>ys=bw rs rs.length) (fun pre=>∃k,k<=rs.length/\pre=bw rs k) rs.length G:=fun l' J' x7 W hW _ _ xa x8=>by
  obtain⟨hA2,h8,x4,h4,x3,x9,xd⟩:=V.out;exact OI Vp (n-1) trivial rfl (by omega) l' H.heap.size _ rs x5 _ (fun X Y hk=>⟨hk _ (by omega) (by omega),fun g hg=>hk g (x3 g hg) (h4.lt g hg)⟩) J' x7 xa W (x4.of_heap (hW.block _ (by omega))) (h4.of_heap (fun b hb=>hW.block b (h4.lt b hb))) x8
 have OO:A.heap.size<G.heap.size:=by obtain⟨hA2,h8,x4,h4,x3,x9,xd⟩:=V.out;omega
 have aF:∀(Q:Nat->List (Nat×Nat)->World->Prop) (E:Nat),OwnFrom A.heap.size (Q E)->OwnFrom G.heap.size (fun(pre:List (Nat×Nat×Nat)) W=>Q E (pre.map (·.2)) W):=fun Q E h s X Y row hs hg hr=>h _ X Y row hs hg (fun r e=>⟨qa9 (Kt OO) (hr r e).1,(hr r e).2⟩)
 have XW:OwnFrom G.heap.size (fun(_:List (Nat×Nat×Nat)) (W:World)=>G.heap.size<=W.heap.size):=fun s X Y row hs hg hr=>qa9 hs hg.size
 refine wpIn_rangeFunc_ownH (F:=Vp) (w:=G) rfl h1 (gf:=293) (lb:=#[.pointer (some ⟨H.heap.size,0,none⟩)]) rfl trivial (enters_of func293 (by kernel_rfl) rfl) h9
  (fun h k i h1 h2=>(k i h1 h2).trans (h i h1 h2)) (fun W l' o o' xf ho _ _ i h1 h2=>nI (by omega)) (mR _ _) (fun _=>rfl)
  (fun pre W=>J G.heap.size (pre.map (·.2)) W/\ak W A.heap.size 325 [.func (.yield l) #[] #[]]/\G.heap.size<=W.heap.size)
  (fun c pre W=>c=.ret/\Jx G.heap.size (pre.map (·.2)) W)
  (OwnFrom.and (aF J _ (HJ.out _)) (OwnFrom.and (BK _ _ _ _) XW))
  (fun c=>OwnFrom.and (ownFrom_pure _ _) (aF Jx _ (hx.out _)))
  ⟨H0.out _ _ V.out.1,V.out.2.1,jK _⟩
  (fun x a' W=>∃bx,ak W bx 170 [.int .u64 x.2.1,.int .u64 x.2.2]/\a'={tmps:=#[.func (.yield l) #[] #[],.pointer (some ⟨sb,0,none⟩),.pointer (some ⟨A.heap.size,0,none⟩),undef,.pointer (some ⟨bx,0,none⟩),.pointer (some ⟨sp,225,none⟩),.pointer (some ⟨sp,225,none⟩),.pointer (some ⟨sp,227,none⟩),.slice base rs.length c,.slice a1 rs.length c1,.func (.func 293) #[] #[.pointer (some ⟨H.heap.size,0,none⟩)],.int .i64 x.1,.agg #[.int .u64 x.2.1,.int .u64 x.2.2],undef,undef,undef,undef],defers:=[]})
  (fun x a' _ X Y row hs hg hr=>by
   obtain⟨bx,h1,h2⟩:=hs
   exact⟨bx,BK _ _ _ _ () X Y row h1 hg hr,h2⟩)
  ?assign ?body ?done ?stop
 case assign=>
  rintro l' pre x W K ⟨i1,i2,i3⟩ hK
  gi_wp2
  refine hK _ _ ((KeepsOthers.alloc _ _).from _) (fun k h1 h2=>wz _ _ _ (by omega)) ⟨OwnFrom.alloc (aF J _ (HJ.out _)) _ i1,i2.alloc _,by simp;omega⟩ ⟨W.heap.size,ak.new W 170 [.int .u64 x.2.1,.int .u64 x.2.2],rfl⟩
 case body=>
  rintro l' pre x a' W hl ⟨r,hr⟩ ⟨i1,i2,i3⟩ ⟨bx,hu,rfl⟩ h6;obtain⟨fn,tmps,assign,body,hy,hR⟩:=HY.out (n-1-1-1) G.heap.size (pre.map (·.2)) x.2 W (Kt OO) i3 i1 (by simpa using h6);have hf:RoundIn (Fence.wide.inRound l') (n-1-1-1) prog l fn tmps assign body W _:=hR;unfold encR at hy;have y0:W.cell? ⟨A.heap.size,0,none⟩=some (.func (.yield l) #[] #[]):=i2.cell 0;have y1:W.cell? ⟨bx,0,none⟩=some (.int .u64 x.2.1):=hu.cell 0;have y2:W.cell? ⟨bx,1,none⟩=some (.int .u64 x.2.2):=hu.cell 1;have x6:=hid i2;clear hR h9 aF XW i1 i2 hu
  gi_wp2
  refine⟨fun _=>by omega,hf.mono ?_⟩;rintro e W3 (⟨rfl,O,U⟩|⟨rfl,O,U⟩)
  ·have HF:Hid (KeepsFrom G.heap.size W W3/\(∀k,A.heap.size<=k->k<G.heap.size->W3.heap[k]?=W.heap[k]?)/\J G.heap.size ((pre++[x]).map (·.2)) W3/\ak W3 A.heap.size 325 [.func (.yield l) #[] #[]]/\G.heap.size<=W3.heap.size):=by
    obtain⟨q1,q2,q3⟩:=U;refine⟨⟨q3.size,fun k o hk ho hc=>q3.same k o (by omega) ho hc⟩,q2,by rw[qab];exact O,x6.out.of_heap (q2 _ (jK _) OO),by omega⟩
   clear O U hf hy y0 y1 y2
   gi_wp2
   exact HF.out
  ·have HF:Hid (KeepsFrom G.heap.size W W3/\Jx G.heap.size ((pre++[x]).map (·.2)) W3):=by
    obtain⟨q1,q2,q3⟩:=U;exact⟨⟨q3.size,fun k o hk ho hc=>q3.same k o (by omega) ho hc⟩,by rw[qab];exact O⟩
   clear O U hf hy y0 y1 y2
   gi_wp2
   exact⟨HF.out.1,rfl,HF.out.2⟩
 case done=>
  rintro D ys W hD xe ⟨i1,_,_⟩ hK;subst xe
  have he:J G.heap.size rs.reverse (W.putObj D (.deferred none)):=by
   have:=(HJ.out G.heap.size).putObj (.deferred none) i1 (by omega) hK rfl;rwa[OJ rs rs.length (jK _),List.take_of_length_le (by simp)]at this
  gi_wp2
  refine⟨by simp,.inl ⟨_,_,rfl,run_takeDeferred hK,?_⟩⟩;exact⟨_,results_none rfl _ _ _,⟨_,rfl⟩,_,Kt OO,.inl he⟩
 case stop=>
  rintro D c' pre W hD ⟨k,hk,rfl⟩ ⟨rfl,i1⟩ hK
  have he:Jx G.heap.size (rs.reverse.take k) (W.putObj D (.deferred none)):=by
   have:=(hx.out G.heap.size).putObj (.deferred none) i1 (by omega) hK rfl;rwa[OJ rs k hk]at this
  gi_wp2
  refine⟨by simp,.inl ⟨_,_,rfl,run_takeDeferred hK,?_⟩⟩;exact⟨_,results_none rfl _ _ _,⟨_,rfl⟩,_,Kt OO,.inr ⟨k,hk,he⟩⟩
end
section
attribute [local go_sem] Oper.semAt_some
theorem OP{F:Fence}{n:Nat}{P:Program}(w:World){H:Array Oper}{rest:List Oper}{o:Oper}{a:Act}{Q:Exit->Act->World->Prop}(V:o.guard=none)(s x:Operand)(t:TypeId)(G:o.op=Op.call {callee:=Callee.builtin Builtin.append,args:=#[s,x],argTypes:=#[t,t]})(vs I:Value)(hs:a.eval s=vs)(Z:a.eval x=I)(v':Value)(w':World)(X:(qa0 #[t,t] o.type #[vs,I]).run P w=.ok v' w')(h:wpListIn F n P H Q rest (a.put o.dst v') w'):wpListIn F n P H Q (o::rest) a w:=
 wpListIn_plain V fun K O=>by
  unfold Oper.wpIn;constructor
  ·simp[Oper.about,G,resolve,Target.leads,Sem.run_pure]
  ·rw[Oper.semAt_plain F _ _ (by rw[G];intro c U;cases U)];simp[execOp,G,resolve,invoke,builtin,hs,Z,X,Result.andThen];exact O _ _ h
theorem abstractRange{F:Fence}{n:Nat}{P:Program}{Q:Exit->Act->World->Prop}{a:Act}{w:World}{g:Operand}{ps:Array Tmp}{assign body:Code}(h:∀H bd G,H=assign->bd=body->G=a->(Code.rangeFunc g ps H bd).wpIn F n P Q G w):(Code.rangeFunc g ps assign body).wpIn F n P Q a w:=h _ _ _ rfl rfl rfl
theorem Td{β:Type}{B:Nat}{I:β->World->Prop}(h:∀s X Y,I s X->Y.os=X.os->Y.tape=X.tape->Y.output=X.output->X.heap.size<=Y.heap.size->(∀k,k<X.heap.size->k<B->Y.heap[k]?=X.heap[k]?)->(∀k t l,ak X k t l->Y.heap[k]?=X.heap[k]?)->I s Y):OwnFrom B I:=fun s X Y row hs F G=>
 h s X Y hs F.os F.tape F.output F.size (fun k H hB=>F.block k H (fun e=>by have:=(G k e.symm).1;omega)) (fun k t l hb=>BK B k t l () X Y row hb F G |>.trans hb.symm)
theorem OQ{e:TypeId}{k:Nat}{w w':World}{v:Value}{n:Nat}{l:List Value}(h:bn e k w v n l)(G:∀b t l,ak w b t l->w'.heap[b]?=w.heap[b]?):bn e k w' v n l:=by
 rcases h with h|⟨g,cap,cs,rfl,hB,F⟩
 ·exact .inl h
 ·exact .inr ⟨g,cap,cs,rfl,hB.of_heap (G _ _ _ hB),F⟩
theorem WH{B:Nat}{wr:World}{v:Value}{out:List (Nat×Nat)}(h:bn 170 2 wr v out.length (aC out))(Z:Own B v)(hB:B<=wr.heap.size)(hl:out.length<=100000000)(lo hi:Nat):
  ∃g c G,(∀ty,(qa0 #[63,63] ty #[v,.slice (some ⟨wr.heap.size,0,none⟩) 1 1]).run prog (wr.alloc (.cells #[.int .u64 lo,.int .u64 hi] 170))=.ok (.slice (some ⟨g,0,none⟩) (out.length+1) c) G)/\
   bn 170 2 G (.slice (some ⟨g,0,none⟩) (out.length+1) c) (out++[(lo,hi)]).length (aC (out++[(lo,hi)]))/\Own B (.slice (some ⟨g,0,none⟩) (out.length+1) c)/\Below B wr G/\∀k,k<wr.heap.size->v.ownBlock≠some k->G.heap[k]?=wr.heap[k]?:=by
 have U:=h.lt;have XY:bn 170 2 (wr.alloc (.cells #[.int .u64 lo,.int .u64 hi] 170)) v out.length (aC out):=h.of_heap (fun b hb=>wz _ _ _ (U b hb))
 obtain⟨v',G,tF,F,I⟩:=dY FX XY ⟨wr.heap.size,0,none⟩ 1 1 [.int .u64 lo,.int .u64 hi] rfl (by decide) (fun v hv=>by simp at hv;rcases hv with rfl|rfl<;>rfl)
  (fun j u hu=>by
   rw[Addr.add_lit,qad,(ak.new wr 170 [.int .u64 lo,.int .u64 hi]).cell]
   exact hu) (by omega)
 have Ra:=I.own Z (by simp;omega);have Y9:=I.below Z (by simp;omega);have O:Below B wr (wr.alloc (.cells #[.int .u64 lo,.int .u64 hi] 170)):=(mR _ wr).alloc hB _
 obtain⟨g',H,rfl⟩:∃g' H,v'=.slice (some ⟨g',0,none⟩) (out.length+1) H:=by
  rcases F with⟨_,X,_⟩|⟨g',H,_,X,_⟩
  ·omega
  ·exact⟨g',H,X⟩
 have V:aC out++[.int .u64 lo,.int .u64 hi]=aC (out++[(lo,hi)]):=by rw[f_];rfl
 rw[V]at F;exact⟨g',H,G,tF,by rw[List.length_append];exact F,Ra,O.trans Y9,fun k hk hn=>by rw[I.1.block k (by simp;omega) (fun e=>hn e.symm),wz _ _ _ hk]⟩
def JC(w:World)(G L D:Nat)(F:Loop)(E:Nat)(pre:List (Nat×Nat))(W:World):Prop:=
 Below w.heap.size w W/\(∃v,ak W G 63 [v]/\bn 170 2 W v pre.length (aC pre)/\Own E v)/\W.heap[L]?=some (.loop F)/\W.heap[D]?=some (.deferred (some []))
theorem JC.own{w:World}{V L D:Nat}{H:Loop}{E B:Nat}(hL:L<B)(hD:D<B)(hw:w.heap.size<=B):OwnFrom B (JC w V L D H E):=Td fun s X Y hs Z e2 e3 e4 F hb=>by
 obtain⟨h1,⟨v,I,h4,h5⟩,O,U⟩:=hs;have lL:=(tT.1 O).1;have lD:=(tT.1 U).1;exact⟨⟨Z.trans h1.os,e2.trans h1.tape,e3.trans h1.output,qa9 h1.size e4,fun k G=>(F k (by have:=h1.size;omega) (by omega)).trans (h1.block k G)⟩,⟨v,I.of_heap (hb _ _ _ I),OQ h4 hb,h5⟩,(F L lL hL).trans O,(F D lD hD).trans U⟩
theorem zi(sb sp:Nat)(rs:List (Nat×Nat))(base:Option Addr)(c:Nat)(w:World)(hm:w.cell? ⟨sp,227,none⟩=some (.slice base rs.length c))(hG:bn 170 2 w (.slice base rs.length c) rs.length (aC rs))(h8:ak w sb 273 [.pointer (some ⟨sp,225,none⟩)])(xl:rs.length<=1000000):
  Calls prog 308 #[.slice none 0 0,.func (.func 226) #[] #[.pointer (some ⟨sb,0,none⟩)]] w fun e w'=>∃v',e=.returned v'/\bn 170 2 w' v' rs.reverse.length (aC rs.reverse)/\Own w.heap.size v'/\Below w.heap.size w w':=by
 have xj:∀(b:Nat) (W:World),(binOp BinOp.eql 234 (.func (.func 226) #[] #[.pointer (some ⟨b,0,none⟩)]) .nilFunc).run prog W=.ok (.bool false) W:=fun _ _=>by kernel_rfl
 have HS:=hid (And.intro hm (And.intro hG h8));have OM:=h8.lt;have XZ:=KG w _ (by rw[hm]);clear hm hG h8;refine(callsIn_wide (n:=10)).1 ?_;refine callsIn_of_wp_marks func308 rfl trivial ?_ rfl;simp only[ntmps308,Vh,ZE,qa1,qa5,qa6,Lb,M4,Si,R3,Gl,Xw]
 gi_wp2
 obtain⟨F,ho⟩:∃F,F=w.alloc (.cells #[.slice none 0 0] 63):=⟨_,rfl⟩;rw[<-ho]
 have hc:Hid (Below w.heap.size w F/\F.heap.size=w.heap.size+1/\ak F w.heap.size 63 [.slice none 0 0]):=by
  rw[ho];exact⟨(mR _ w).alloc (jK _) _,by simp,ak.new w 63 [.slice none 0 0]⟩
 clear ho xj;refine abstractRange (fun ag bd a0 has x1 hg=>wpIn_rangeFunc ?_);intro fn _
 obtain⟨I,G⟩:∃I:LoopState->Option Code->Loop,I=fun st pe=>{state:=st,pending:=pe,fn:=fn,tmps:=a0.tmps,params:=#[7],assign:=ag,body:=bd,defers:=F.heap.size}:=⟨_,rfl⟩
 obtain⟨A,hA⟩:∃A,A=(F.alloc (.deferred (some []))).alloc (.loop (I .ready none)):=⟨_,rfl⟩;obtain⟨hj,x6,x3⟩:=hc.out;obtain⟨r1,r2,r3⟩:=HS.out
 have x7:A.heap.size=F.heap.size+2:=by rw[hA];simp
 have OT:Below F.heap.size F A:=by rw[hA];exact((mR _ F).alloc (jK _) _).alloc (by simp) _
 have hf:A.heap[F.heap.size+1]?=some (.loop (I .ready none)):=by rw[hA];have:=qa4 (F.alloc (.deferred (some []))) (.loop (I .ready none));rwa[Z9]at this
 have he:A.heap[F.heap.size]?=some (.deferred (some [])):=by rw[hA];exact(wz _ _ _ (by simp)).trans (qa4 F _)
 have Lc:Below w.heap.size w A:=hj.trans (OT.mono (by omega));have y2:=r3.of_heap (Lc.block _ OM);have y3:=x3.of_heap (OT.block _ x3.lt);have y4:A.cell? ⟨sp,227,none⟩=some (.slice base rs.length c):=cell_of r1 (Lc.block _ XZ);have y5:bn 170 2 A (.slice base rs.length c) rs.length (aC rs):=r2.of_heap (fun b hb=>Lc.block b (r2.lt b hb));clear r1 r2 r3;refine⟨F.heap.size+1,[{target:=.collected F.heap.size,args:=#[]}],A,{target:=.fn (.func 226) #[.pointer (some ⟨sb,0,none⟩)],args:=#[.func (.yield (F.heap.size+1)) #[] #[]]},A,226,#[.func (.yield (F.heap.size+1)) #[] #[],.pointer (some ⟨sb,0,none⟩)],A,?_,?_,fun _ _=>trivial,?_,fun _=>by omega,?_⟩
 ·rw[hA,G];exact run_enterLoop_outer _ _ _ _ _
 ·rw[hg];simp[resolve,Act.eval,go_sem]
 ·simp[invoke,go_sem]
 ·refine(OL (10-1) (by omega) (F.heap.size+1) sb sp rs A base c y4 y5 y2 xl (JC w w.heap.size (F.heap.size+1) F.heap.size (I .ready none)) (fun _ _ _=>False)
   (fun E=>JC.own (by omega) (by omega) (by omega)) (fun E=>ownFrom_pure _ _) (fun E W hW=>?_) ?_).mono ?_
  ·exact⟨Lc.trans (hW.mono (by omega)),⟨_,y3.of_heap (hW.block _ (by omega)),bn.nil _ _ _,fun k H=>by simp[tL]at H⟩,(hW.block _ (by omega)).trans hf,(hW.block _ (by omega)).trans he⟩
  ·intro m E pre x W hE xx hJ xn;obtain⟨h1,⟨v',h3,h4,h5⟩,h6,h7⟩:=hJ;have hy:=run_yield (P:=prog) (args:=encR x) h6 (by rw[G];rfl);have Te:=(tT.1 h6).1;obtain⟨Wa,U⟩:∃Wa,Wa=W.alloc (.cells #[.int .u64 x.1,.int .u64 x.2] 170):=⟨_,rfl⟩
   have x0:Wa.heap[F.heap.size+1]?=some (.loop (I .ready none)):=by rw[U];exact(wz _ _ _ Te).trans h6
   obtain⟨Z,h0⟩:∃Z,Z=Wa.putObj (F.heap.size+1) (.loop {I .ready none with state:=.busy}):=⟨_,rfl⟩
   have x2:(Instr.beginRound (F.heap.size+1)).run prog Wa=.ok () Z:=by rw[h0];exact run_beginRound x0 (by rw[G])
   have h8:Z.heap.size=W.heap.size+1:=by rw[h0,U];simp
   have Rf:∀k,k<W.heap.size->k≠F.heap.size+1->Z.heap[k]?=W.heap[k]?:=fun k H hn=>by rw[h0,nI hn,U];exact wz _ _ _ H
   have x4:Z.heap[F.heap.size+1]?=some (.loop {I .ready none with state:=.busy}):=by rw[h0];exact qa2 (by rw[U];simp;omega)
   have hr:ak Z W.heap.size 170 [.int .u64 x.1,.int .u64 x.2]:=by
    have z:=ak.new W 170 [.int .u64 x.1,.int .u64 x.2];rw[h0];refine ak.of_heap (w:=Wa) (by rw[U];exact z) (nI (by omega))
   have Tf:Z.os=W.os/\Z.tape=W.tape/\Z.output=W.output:=by rw[h0,U];exact⟨rfl,rfl,rfl⟩
   have b3:=h3.of_heap (Rf _ h3.lt (by omega));have b4:bn 170 2 Z v' pre.length (aC pre):=h4.of_heap (fun k H=>Rf k (h4.lt k H) (by have:=h5 k H;omega));obtain⟨g,C,W5,tF,c1,c2,c3,c4⟩:=WH b4 h5 (by omega) (by omega) x.1 x.2;obtain⟨a9,c9,rfl,_⟩:=h4.shape;have d3:Z.cell? ⟨w.heap.size,0,none⟩=some (.slice a9 pre.length c9):=b3.cell 0
   have Ld:∀k,k<E->(qaa a9 pre.length c9).ownBlock≠some k:=fun k H e=>by have:=h5 k e;omega
   have e3:=b3.of_heap (c4 _ b3.lt (Ld _ (by omega)));have e6:=(c4 _ (by omega) (Ld _ (by omega))).trans x4;have xo:W5.cell? ⟨w.heap.size,0,none⟩=some (.slice a9 pre.length c9):=e3.cell 0;have xt:=e3.frozen 0;have xp:Z.cell? ⟨W.heap.size,0,none⟩=some (.int .u64 x.1):=hr.cell 0;have xr:Z.cell? ⟨W.heap.size,1,none⟩=some (.int .u64 x.2):=hr.cell 1;rw[G]at hy;refine⟨fn,_,ag,bd,hy,roundIn_of_wpIn trivial ?_⟩;clear hy
   have X0:∀(W6:World),W6=W5.setCell ⟨w.heap.size,0,none⟩ (.slice (some ⟨g,0,none⟩) (pre.length+1) C)->
     ∃O,(Instr.endRound (F.heap.size+1) none).run prog W6=.ok (.bool true) O/\O.heap[F.heap.size+1]?=some (.loop (I .ready none))/\KpO A.heap.size E W O/\Below w.heap.size w O/\(∃v,ak O w.heap.size 63 [v]/\bn 170 2 O v (pre++[x]).length (aC (pre++[x]))/\Own E v)/\O.heap[F.heap.size]?=some (.deferred (some [])):=by
    intro W6 Fj
    have hx:W6.heap[F.heap.size+1]?=some (.loop {I .ready none with state:=.busy}):=by rw[Fj,uj _ _ _ _ (by simp;omega)];exact e6
    have x5:=run_endRound (P:=prog) none hx;obtain⟨O,MQ⟩:∃O,O=W6.putObj (F.heap.size+1) (.loop (I .ready none)):=⟨_,rfl⟩;refine⟨O,?_,?_,?_⟩
    ·rw[x5,MQ,G];rfl
    ·rw[MQ];exact qa2 (tT.1 hx).1
    have o7:∀k,k≠F.heap.size+1->k≠w.heap.size->O.heap[k]?=W5.heap[k]?:=fun k n1 n2=>by rw[MQ,nI n1,Fj,uj _ _ _ _ n2]
    have s7:O.heap.size=W5.heap.size:=by rw[MQ,Fj];simp
    have hu:O.os=W5.os/\O.tape=W5.tape/\O.output=W5.output:=by rw[MQ,Fj];exact⟨rfl,rfl,rfl⟩
    have s5:=c3.size
    have oW:∀k,k<W.heap.size->k≠F.heap.size+1->k≠w.heap.size->(qaa a9 pre.length c9).ownBlock≠some k->O.heap[k]?=W.heap[k]?:=fun k H n1 n2 n3=>by
     rw[o7 k n1 n2,c4 k (by omega) n3,Rf k H n1]
    have xy:=c2 g rfl
    have xd:g≠F.heap.size+1:=by omega
    have xa:g≠w.heap.size:=by omega
    refine⟨⟨by omega,fun k k1 k2=>oW k (by omega) (by omega) (by omega) (Ld k k2),⟨by omega,fun k o k1 k2 k3=>?_⟩⟩,⟨?_,?_,?_,by have:=h1.size;omega,fun k H=>?_⟩,⟨_,?_,c1.of_heap (fun k H=>?_),c2⟩,?_⟩
    ·have xi:=(tT.1 k2).1;rw[oW k xi (by omega) (by omega) (fun e=>?_),k2]
     rcases h4 with⟨e',_⟩|⟨g',cap,cs,e',hB,_⟩
     ·rw[e']at e;simp[tL]at e
     ·rw[e']at e;simp[tL]at e;subst e;have:=hB.symm.trans k2;simp at this;rw[<-this]at k3;cases k3
    ·rw[hu.1,c3.os,Tf.1,h1.os]
    ·rw[hu.2.1,c3.tape,Tf.2.1,h1.tape]
    ·rw[hu.2.2,c3.output,Tf.2.2,h1.output]
    ·rw[oW k (by have:=h1.size;omega) (by omega) (by omega) (Ld k (by omega)),h1.block k H]
    ·rw[MQ];refine ak.of_heap (w:=W6) ?_ (nI (by omega));rw[Fj];exact e3.FN 0 _
    ·have xf:k=g:=by simp[tL]at H;omega
     subst xf;exact o7 k xd xa
    ·rw[oW _ (by omega) (by omega) (by omega) (Ld _ (by omega)),h7]
   have iG:=hid X0;have hw:=hid x2;clear X0 x2 x0 Rf x4 hr Tf b3 b4 c1 c2 c3 c4 e3 e6 h1 h3 h4 h5 h6 h7 Ld hf he OT Lc y2 y3 y4 y5 hj x3 HS hc hA x6 x7 h8 h0 Te G;subst has x1 hg;simp only[encR]
   gi_wp2
   rw[<-U];refine⟨Z,hw.out,?_⟩;clear U hw
   have xz:pre.length<=1000000:=by omega
   gi_wp2_with (gi_at_builtin;refine OP _ rfl _ _ _ rfl _ _ rfl rfl _ _ (tF _) ?_)
   obtain⟨O,r1,r2,r3,r4,r5,r6⟩:=iG.out _ rfl;exact⟨_,_,r1,.inl ⟨rfl,⟨r4,r5,r2,r6⟩,r3⟩⟩
  ·rintro e W ⟨⟨v,rfl⟩,E,xv,hJ|⟨k,H,hJ⟩⟩
   ·obtain⟨h1,⟨v',h3,h4,h5⟩,h6,h7⟩:=hJ;have hsz:=(tT.1 h6).1;obtain⟨X,yN⟩:∃X,X=W.putObj (F.heap.size+1) (.loop {I .ready none with state:=.exhausted}):=⟨_,rfl⟩
    have ha:(Instr.endLoop (F.heap.size+1)).run prog W=.ok none X:=by
     have:=run_endLoop (P:=prog) h6 (by rw[G];simp);rw[yN];rw[G]at this ⊢;exact this
    refine⟨none,X,ha,?_⟩
    have V:∀k,k≠F.heap.size+1->X.heap[k]?=W.heap[k]?:=fun k H=>by rw[yN];exact nI H
    have xm:X.heap.size=W.heap.size:=by rw[yN];simp
    have Ti:X.os=W.os/\X.tape=W.tape/\X.output=W.output:=by rw[yN];exact⟨rfl,rfl,rfl⟩
    have z3:=h3.of_heap (V _ (by omega));have z7:=(V _ (by omega)).trans h7;have h2:Below w.heap.size w X:=⟨Ti.1.trans h1.os,Ti.2.1.trans h1.tape,Ti.2.2.trans h1.output,by have:=h1.size;omega,fun k H=>(V k (by omega)).trans (h1.block k H)⟩;obtain⟨a9,c9,rfl,_⟩:=h4.shape;have zc:X.cell? ⟨w.heap.size,0,none⟩=some (.slice a9 (rs.reverse).length c9):=z3.cell 0
    have HF:Hid (bn 170 2 (X.putObj F.heap.size (.deferred none)) (.slice a9 (rs.reverse).length c9) (rs.reverse).length (aC rs.reverse)/\Own w.heap.size (.slice a9 (rs.reverse).length c9)/\Below w.heap.size w (X.putObj F.heap.size (.deferred none))):=by
     refine⟨?_,fun k H=>?_,⟨h2.os,h2.tape,h2.output,by have:=h2.size;simpa using this,fun k H=>(nI (by omega)).trans (h2.block k H)⟩⟩
     ·refine h4.of_heap (fun k H=>?_)
      have xe:∃t l,ak W k t l:=by
       rcases h4 with⟨e,_⟩|⟨g,cap,cs,e,hB,_⟩
       ·rw[e]at H;simp[tL]at H
       ·rw[e]at H;simp[tL]at H;subst H;exact⟨_,_,hB⟩
      obtain⟨t,l,h9⟩:=xe
      have n1:k≠F.heap.size+1:=fun e=>by rw[e]at h9;have:=h9.symm.trans h6;cases this
      have n2:k≠F.heap.size:=fun e=>by rw[e]at h9;have:=h9.symm.trans h7;cases this
      rw[nI n2,V k n1]
     ·have:=h5 k H;omega
    have x8:Hid (∀v,v=qaa a9 (rs.reverse).length c9->∃v',DJ v=DJ v'/\bn 170 2 (X.putObj F.heap.size (.deferred none)) v' rs.reverse.length (aC rs.reverse)/\Own w.heap.size v'/\Below w.heap.size w (X.putObj F.heap.size (.deferred none))):=fun v hv=>⟨v,rfl,by rw[hv];exact HF.out⟩
    clear HF;generalize x9:(rs.reverse).length=N9 at zc;clear h1 h3 h4 h5 h6 h7 ha V xm Ti z3 h2 hsz x7 OT hf he Lc y2 y3 y4 y5 hj x6 x3 hA yN G has x1 hc HS;subst hg
    gi_wp2
    refine⟨by simp,.inl ⟨_,_,rfl,run_takeDeferred z7,?_⟩⟩;exact⟨.slice a9 N9 c9,by simp[results,results308,go_sem],x8.out _ (by rw[x9])⟩
   ·exact hJ.elim
end
end Go.Proofs.YtphbledmopchnaaGreatDoor.St
