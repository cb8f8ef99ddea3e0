import Derived.Test.YtphbledmopchnaaGreatDoorKca
import Derived.Test.YtphbledmopchnaaGreatDoorKbe
import Derived.Deep.RegionHeld3
import Derived.Maps.RangeWalk
open Go.RowKit.Below renaming heap_setCell->mR,refl->tL
open Bool renaming and_eq_true->wz
open Go.Builtin renaming zeroCells->uj,append_->Vh,min_->Z9
open Go.Calls renaming quiet_of_same->tT
open Go.Ending renaming returned->Bu
open Int renaming toNat_of_nonneg->Kt,natCast_emod->R3
open List renaming length_append->nI,getElem?_eq_getElem->CK,length_map->DJ,length_singleton->Gl,length_drop->Si,length_set->Vp
open Nat renaming le_refl->jK,mul_comm->KG,zero_add->Lb,zero_le->M4
set_option maxHeartbeats 4000000
set_option maxRecDepth 100000
namespace Go.Proofs.YtphbledmopchnaaGreatDoor.Sd
open Go.RowKit Go.Lib Mm Tryz
def jc(own:Own)(t:Nat)(w:World)(S:Nat)(va:Value)(rs:List (Nat×Nat)):Prop:=
 ∃base c,va=.slice base rs.length c/\rs.length<=c/\c<=9223372036854775807/\St.fP w S base c rs/\∀b,base.map (·.block)=some b->own b=t
theorem jc.kp{own own':Own}{t:Nat}{w w':World}{S:Nat}{va:Value}{rs:List (Nat×Nat)}{T:List Nat}(h:jc own t w S va rs)(K:Kp T own own' w w')(U:t∉T):jc own' t w' S va rs:=by
 obtain⟨base,c,h1,I,O,G,H⟩:=h
 have hb:∀b,base.map (·.block)=some b->b<w.heap.size:=fun b hb=>(St.jP G b hb).2
 exact⟨base,c,h1,I,O,G.of_heap (fun b F=>by
  have e:base.map (·.block)=some b:=by rw[F];rfl
  exact K.blk b (hb b e) (by rw[H b e];exact U)),fun b e=>by rw[K.ext b (hb b e),H b e]⟩
structure Gf (l:List Value) (o:Nat) (m:Ot) (vb va vc:Value):Prop where
 c0:l[o]?=some vb
 c1:l[o+1]?=some (.bool m.fin)
 nt:yV l (o+2) m.nt
 c6:l[o+6]?=some (.int .u64 m.limit)
 c7:l[o+7]?=some (.int .u64 m.sent)
 c8:l[o+8]?=some (.int .i64 2049)
 c9:l[o+9]?=some (.int .u64 m.away.fl)
 c10:l[o+10]?=some va
 c11:l[o+11]?=some (.int .i64 2049)
 c12:l[o+12]?=some (.int .u64 m.came.fl)
 c13:l[o+13]?=some vc
theorem Gf.win{l l':List Value}{o o' n':Nat}{m:Ot}{vb va vc:Value}(h:Gf l o m vb va vc)(w:iH l l' o' n')(hd:o+14<=o'\/o'+n'<=o):Gf l' o m vb va vc:=
 ⟨by rw[w.2 _ (by omega),h.c0],by rw[w.2 _ (by omega),h.c1],h.nt.win w (by omega),by rw[w.2 _ (by omega),h.c6],by rw[w.2 _ (by omega),h.c7],by rw[w.2 _ (by omega),h.c8],by rw[w.2 _ (by omega),h.c9],by rw[w.2 _ (by omega),h.c10],
 by rw[w.2 _ (by omega),h.c11],by rw[w.2 _ (by omega),h.c12],by rw[w.2 _ (by omega),h.c13]⟩
def wM(own:Own)(t:Nat)(w:World)(S:Nat)(l:List Value)(o:Nat)(m:Ot):Prop:=
 ∃vb va vc,Gf l o m vb va vc/\GT own t 5 1 w vb m.bytes.length (aJ m.bytes)/\jc own (t+1) w S va m.away.rs/\jc own (t+2) w S vc m.came.rs
theorem wM.kp{own own':Own}{t:Nat}{w w':World}{S:Nat}{l l':List Value}{o o' n':Nat}{m:Ot}{T:List Nat}(h:wM own t w S l o m)(K:Kp T own own' w w')(U:t∉T)(F:t+1∉T)(G:t+2∉T)(wi:iH l l' o' n')(hd:o+14<=o'\/o'+n'<=o):wM own' t w' S l' o m:=by
 obtain⟨vb,va,vc,h1,H,I,O⟩:=h;exact⟨vb,va,vc,h1.win wi hd,H.kp K U,I.kp K F,O.kp K G⟩
theorem ou(S o n c:Nat)(a:Option Addr)(w:World)(F:n<=2048)(c0:w.cell? ⟨S,o,none⟩=some (.slice a n c)):
  Calls prog 188 #[.pointer (some ⟨S,o,none⟩)] w fun e w'=>e=.returned (.int .u64 n)/\w'=w:=by
 have h1:n<18446744073709551616:=by omega
 go_enter func188,ntmps188;go_wp2;go_ret;exact⟨rfl,rfl⟩
theorem zM(S o:Nat)(f g:Bool)(w:World)(c1:w.cell? ⟨S,o+1,none⟩=some (.bool f))(c2:w.cell? ⟨S,o+2,none⟩=some (.bool g)):
  Calls prog 186 #[.pointer (some ⟨S,o,none⟩)] w fun e w'=>e=.returned (.bool (f||g))/\w'=w:=by
 cases f
 all_goals
  go_enter func186,ntmps186;go_wp2;go_ret;exact⟨aP (by simp),rfl⟩
theorem R5(S o x:Nat)(w:World)(c7:w.cell? ⟨S,o+7,none⟩=some (.int .u64 x)):
  Calls prog 315 #[.pointer (some ⟨S,o,none⟩)] w fun e w'=>e=.returned (.int .u64 x)/\w'=w:=by
 go_enter func315,ntmps315;go_wp2;go_ret;exact⟨rfl,rfl⟩
theorem zN(S o:Nat)(w:World):
  Calls prog 241 #[.pointer (some ⟨S,o,none⟩)] w fun e w'=>e=.returned (.pointer (some ⟨S,o+2,none⟩))/\w'=w:=by
 go_enter func241,ntmps241;go_wp2;go_ret;exact⟨rfl,rfl⟩
theorem sZ(S o n c F:Nat)(a:Option Addr)(f g:Bool)(w:World)(H:n<=2048)(c0:w.cell? ⟨S,o,none⟩=some (.slice a n c))(c1:w.cell? ⟨S,o+1,none⟩=some (.bool f))(c2:w.cell? ⟨S,o+2,none⟩=some (.bool g)):
  Calls prog 317 #[.pointer (some ⟨S,o,none⟩),.int .u64 F] w fun e w'=>e=.returned (.bool (f&& !g&&decide (F=n)))/\w'=w:=by
 have G:=hid (ou S o n c a w H c0);clear c0;cases f
 ·go_enter func317,ntmps317;go_wp2;go_ret;exact⟨rfl,rfl⟩
 ·cases g
  ·go_enter func317,ntmps317
   go_wp2_with (go_at_call 188;refine G.out.mono ?_;rintro e w' ⟨rfl,rfl⟩)
   go_ret;exact⟨aP (by rw[Bool.eq_iff_iff];simp<;>omega),rfl⟩
  ·go_enter func317,ntmps317;go_wp2;go_ret;exact⟨rfl,rfl⟩
theorem g_(f:Fr)(rv:Value)(w:World)(I:f.offset<=aU)(hd:f.data.size<=1000000000):
  Calls prog 318 #[bJ f rv] w fun e w'=>e=.returned (.int .u64 (av f:Int))/\Below w.heap.size w w':=by
 obtain⟨W,G⟩:∃W,W=w.alloc (.cells (bX f rv).toArray 65):=⟨_,rfl⟩
 have hb:ak W w.heap.size 65 (bX f rv):=by rw[G];exact ak.new w 65 _
 have F:Below w.heap.size w W:=by rw[G];exact(tL _ w).alloc (jK _) _
 have c2:W.cell? ⟨w.heap.size,2,none⟩=some (.int .u64 f.offset):=hb.cell 2;have c8:W.cell? ⟨w.heap.size,8,none⟩=some (.string f.data):=hb.cell 8;have O:=hid F
 have H:((av f:Nat):Int)=(f.offset:Int)+(f.data.size:Int):=by unfold av;omega
 unfold aU at I
 have h1:f.offset+f.data.size<18446744073709551616:=by omega
 have U:f.data.size<18446744073709551616:=by omega
 rw[H];clear H I hd F hb;unfold bJ;unfold bX at G;go_enter func318,ntmps318
 go_wp2_with fail
 rw[<-G];go_wp2;go_ret;exact⟨rfl,O.out⟩
theorem YW(a b c:Nat):∃m:Nat,(∀F t w,(Z9 F t #[.int .u64 a,.int .u64 b,.int .u64 c]).run prog w=.ok (.int .u64 m) w)/\m=min (min a b) c:=by
 refine⟨min (min a b) c,fun F t w=>?_,rfl⟩;simp only[Z9,List.foldlM_cons,List.foldlM_nil,Builtin.min2];simp only[Sem.run_bind,Sem.run_pure,Result.andThen_ok]
 congr 2
 split<;>(try split)<;>omega
theorem Nz(S o n c lim sent au:Nat)(a:Option Addr)(w:World)(I:n<=2048)(hs:sent+au<18446744073709551616)(c0:w.cell? ⟨S,o,none⟩=some (.slice a n c))(c6:w.cell? ⟨S,o+6,none⟩=some (.int .u64 lim))(c7:w.cell? ⟨S,o+7,none⟩=some (.int .u64 sent)):
  Calls prog 343 #[.pointer (some ⟨S,o,none⟩),.int .u64 au] w fun e w'=>e=.returned (.int .u64 ((min (min n lim) (sent+au):Nat):Int))/\∃q,w'=w.drewN q:=by
 have G:=hid (fun q=>ou S o n c a (w.drewN q) I c0);obtain⟨m,H,F⟩:=YW n lim (sent+au);rw[<-F];rw[Int.natCast_add]at H;clear c0 F;go_enter func343,ntmps343;go_wp2
 go_quiet ((go_at_call 188;exact tT (G.out _)))
 go_wp2;go_ret;exact⟨rfl,nq,rfl⟩
theorem NA(S o:Nat)(n:Nt)(r:Nat)(w:World)(l:List Value)(hB:ak w S TS l)(h:yV l o n):
  Calls prog 312 #[.pointer (some ⟨S,o,none⟩),.int .u64 r] w fun e w'=>e=.returned (.bool (n.waits r))/\∃q,w'=w.drewN q:=by
 have c0:w.cell? ⟨S,o,none⟩=some (.bool n.given):=by rw[hB.cell];exact h.c0
 have c2:w.cell? ⟨S,o+2,none⟩=some (.int .u64 n.away):=by rw[hB.cell];exact h.c2
 have c3:w.cell? ⟨S,o+3,none⟩=some (.int .u64 n.came):=by rw[hB.cell];exact h.c3
 obtain⟨m,I,F⟩:=min2 n.away n.came
 have G:Hid (n.waits r=(n.given&&decide (r<m))):=by unfold Hid;rw[F];rfl
 generalize n.waits r=B at *;clear h hB F;cases H:n.given
 all_goals
  rw[H]at c0 G;go_enter func312,ntmps312;go_wp2
  go_quiet (fail)
  go_wp2;go_ret;exact⟨aP (by rw[G.out];simp),nq,rfl⟩
theorem wO(S o:Nat)(n:Nt)(k c:Nat)(a:Option Addr)(w:World)(l:List Value)(hB:ak w S TS l)(H:k<=2048)(c0:l[o]?=some (.slice a k c))(h:yV l (o+2) n):
  Calls prog 258 #[.pointer (some ⟨S,o,none⟩)] w fun e w'=>e=.returned (.bool (n.waits k))/\∃q,w'=w.drewN q:=by
 have F:=hid (fun q=>ou S o k c a (w.drewN q) H (by rw[show(w.drewN q).cell? ⟨S,o,none⟩=w.cell? ⟨S,o,none⟩from rfl,hB.cell];exact c0));have G:=hid (fun q=>NA S (o+2) n k (w.drewN q) l hB h);clear h hB;go_enter func258,ntmps258;go_wp2
 go_quiet ((first|(go_at_call 188;exact tT (F.out _))|(go_at_call 312;exact Calls.quiet_of (G.out _))))
 go_wp2;go_ret;exact⟨rfl,nq,rfl⟩
end Go.Proofs.YtphbledmopchnaaGreatDoor.Sd
namespace Go.Proofs.YtphbledmopchnaaGreatDoor
open Go.RowKit Go.Lib Go.Shelf Mm Tryz
theorem Gs(p q:Addr)(w:World):
  CallsD prog 160 #[.pointer (some p),.pointer (some q)] .returning w fun e I w'=>e=.returned (.tuple #[])/\I=.returning/\w'=w:=by
 have F:∀w:World,(binOp BinOp.eql 20 .nilIface .nilIface).run prog w=.ok (.bool true) w:=fun _=>by kernel_rfl
 refine callsD_of_wpS func160 rfl fun G cs H=>?_
 apply wpS_seq;apply wpS_region;simp[wpOpsS,go_sem,recoverD,H,ntmps160,Exit.thenS];refine wpS_of_wp ?_;simp[Array.replicate];go_wp2;cases G;simp_all[bodyPostS,results,results160]
theorem PK.same{w:World}{yb yo cap:Nat}{body:List UInt8}{n:Nat}{fs:List Fr}{wr W:World}{v9:Nat->Value}{k:Nat}{s:Value}{p bg:Nat}(h:PK w yb yo cap body n fs wr v9 k s p bg)(F:W.heap=wr.heap)(G:W.os=wr.os)(H:W.tape=wr.tape)(I:W.output=wr.output):PK w yb yo cap body n fs W v9 k s p bg:=
 h.frame ⟨G,H,I,by rw[F];exact jK _,fun _ _ _ _=>by rw[F]⟩ (h.rd.of (by rw[F]) (by rw[F]))
theorem KQ{w:World}{yb yo cap:Nat}{body:List UInt8}{n:Nat}{fs:List Fr}{wr:World}{v9:Nat->Value}{k:Nat}{V:Option Addr}{X p bg:Nat}(h:PK w yb yo cap body n (fs.map norm) wr v9 k (.slice V k X) p bg)(hk:k<fs.length)(hl:fs.length<=1000000000)(hs:snd (fs.getD k dW)=true/\iT (fs.getD k dW))(hd:body.drop p=dH n fs fs.length k)(F:Fr)(hF:norm (fs.getD k dW)=F)(W:World)(e1:W.heap=wr.heap)(e2:W.os=wr.os)(e3:W.tape=wr.tape)(e4:W.output=wr.output):
  Calls prog 164 #[.pointer (some ⟨w.heap.size+2,0,none⟩)] W fun e y=>∃ra rc H I G,e=.returned (.agg #[.int .i64 F.kind,.int .i64 F.stream,.int .u64 F.offset,.int .u64 F.reliable,.int .u64 F.limit,.bool F.fin,.int .u64 F.id,.int .u64 F.deadline,.string F.data,.slice ra F.ranges.length rc])/\
   y.cell? ⟨w.heap.size,1,none⟩=some (.slice V k X)/\w.heap.size<y.heap.size/\
   (∀ty,(Vh #[54,54] ty #[.slice V k X,.slice (some ⟨y.heap.size,0,none⟩) 1 1]).run prog (y.alloc (.cells #[.int .i64 F.kind,.int .i64 F.stream,.int .u64 F.offset,.int .u64 F.reliable,.int .u64 F.limit,.bool F.fin,.int .u64 F.id,.int .u64 F.deadline,.string F.data,.slice ra F.ranges.length rc] 65))=.ok (.slice H (k+1) I) G)/\
   G.cell? ⟨w.heap.size,1,none⟩=some (.slice V k X)/\G.frozen? ⟨w.heap.size,1,none⟩=false/\
   Hid (∃v9 p bg,PK w yb yo cap body n (fs.map norm) (G.setCell ⟨w.heap.size,1,none⟩ (.slice H (k+1) I)) v9 (k+1) (.slice H (k+1) I) p bg/\body.drop p=dH n fs fs.length (k+1)):=by
 have O:=h.same e1 e2 e3 e4;have hsz:=O.hsz;have h0:=O.yl;rw[oZ n fs fs.length k hk]at hd;have hC:=KO (fs.getD k dW) hs.1 hs.2 (w.heap.size+2) yb yo cap body p bg _ W O.rd hd (by omega) (by omega);rw[hF]at hC;refine hC.mono ?_;rintro e y ⟨h2,rfl,hG,hO,hR,hS⟩;obtain⟨ra,rc,hv,_⟩:=hG.shape;subst hv;have hy:=O.frame hS hR
 have Z:(fs.map norm).getD k dW=F:=by rw[getD_map fs k hk,hF]
 obtain⟨H,I,G,jm,U,hP⟩:=hy.app (by simpa using hk) (by simpa using hl) F Z ra rc hG (fun b hb=>by have:=hO b hb;omega) (fun b hb e=>by have:=hO b hb;have:=O.cp.buf.lt b e;omega);exact⟨ra,rc,H,I,G,rfl,hy.box.cell 1,by have:=hy.hsz;omega,jm,U.cell 1,U.frozen 1,_,_,_,hP,gH hd⟩
theorem fT{P:Program}(w:World){F:Array Oper}{o:Oper}{a:Act}{K:Act->World->Prop}{Q:Exit->Act->World->Prop}{E:Prop}(G:o.guard=none)(s x:Operand)(t H:TypeId)(O:o.op=.call {callee:=.builtin .append,args:=#[s,x],argTypes:=#[t,H]})(vs I:Value)(hs:a.eval s=vs)(X:a.eval x=I)(v':Value)(w':World)(U:(Vh #[t,H] o.type #[vs,I]).run P w=.ok v' w')(h:K (a.put o.dst v') w'):
  if Region.wanted o (yielded F a.tmps)=true then Oper.wp P o a w K Q else E:=by
 have V:Region.wanted o (yielded F a.tmps)=true:=by simp[Region.wanted,G]
 rw[if_pos V];exact Lib.wp_append_run w s x t H O vs I hs X v' w' U h
theorem qg{P:Program}(w:World){F:Array Oper}{o:Oper}{a:Act}{K:Act->World->Prop}{Q:Exit->Act->World->Prop}{E:Prop}(G:o.guard=none)(g:Nat)(x:Operand)(t:TypeId)(Z:o.op=.call {callee:=.value (.func g),args:=#[x],argTypes:=#[t]})(H:Value)(hx:a.eval x=H)(V:∀args w,(callFunc g args).run P w=.ok (.enter g args) w){R:Ending->World->Prop}(I:Calls P g #[H] w R)(h:∀e y,R e y->∃v,e=.returned v/\K (a.put o.dst v) y):
  if Region.wanted o (yielded F a.tmps)=true then Oper.wp P o a w K Q else E:=by
 have hw:Region.wanted o (yielded F a.tmps)=true:=by simp[Region.wanted,G]
 rw[if_pos hw];have X:a.eval (.func g)=.func (.func g) #[] #[]:=rfl
 have hr:(execOp a.eval o).run P w=.ok (.enter g #[H]) w:=by
  unfold execOp;simp only[Z,resolve,List.map_toArray,List.map_cons,List.map_nil,hx,X];simp[Deferred.ofValue,invoke,V]
 unfold Oper.wp;rw[hr,Oper.upon_enter];refine I.mono ?_;intro e y U;obtain⟨v,rfl,O⟩:=h e y U;exact O
def DC(P:Nat)(w:World):Nat:=match w.cell? ⟨P,1,none⟩with
 |some (.slice _ n _)=>n
 |_=>0
theorem xA(n:Nat)(fs:List Fr)(hn:n<4611686018427387904)(hs:∀j,j<fs.length->snd (fs.getD j dW)=true/\iT (fs.getD j dW))(hw:0<fs.length)(hl:fs.length<=1000000000)(yb yo cap:Nat)(body:List UInt8)(I:body=bH n fs)(w:World)(hb:BytesAt w (some ⟨yb,yo,none⟩) body)(O:body.length<cap)(h0:cap<=9223372036854775807)(x2:yb<w.heap.size):
  Calls prog 116 #[.slice (some ⟨yb,yo,none⟩) body.length cap] w fun e w'=>∃s v9,e=.returned (.tuple #[.agg #[.int .u64 n,s],.nilIface])/\qU (w.heap.size+3) w' s (fs.map norm) v9 fs.length/\Below w.heap.size w w':=by
 have x8:∀(fn:Fn) (first cap:Array Value) (w:World),(Instr.makeFunc fn first cap).run prog w=.ok (.func fn first cap) w:=fun _ _ _ _=>rfl
 obtain⟨V,H⟩:∃V,V=((w.alloc (.cells #[.int .u64 0,.slice none 0 0] 56)).alloc (.cells #[.nilIface] 94)).alloc (.cells #[.slice (some ⟨yb,yo,none⟩) body.length cap,.int .i64 0,.int .i64 0] 257):=⟨_,rfl⟩
 have x7:V.heap.size=w.heap.size+3:=by rw[H];simp
 have h8:Below w.heap.size w V:=by rw[H];exact(((tL _ w).alloc (jK _) _).alloc (by simp) _).alloc (by simp;omega) _
 have hA0:ak V w.heap.size 56 [.int .u64 0,.slice none 0 0]:=by rw[H];exact((ak.new w 56 _).alloc _).alloc _
 have hf:ak V (w.heap.size+1) 94 [.nilIface]:=by
  rw[H];have:=(ak.new (w.alloc (.cells #[.int .u64 0,.slice none 0 0] 56)) 94 [.nilIface]).alloc (.cells #[.slice (some ⟨yb,yo,none⟩) body.length cap,.int .i64 0,.int .i64 0] 257);simpa using this
 have hm:dG V (w.heap.size+2) yb yo cap body 0 0:=by
  refine⟨?_,hb.of (fun x hx=>by simp at hx;subst hx;exact h8.block _ x2),M4 _,O,h0,by omega⟩;rw[H];have:=ak.new ((w.alloc (.cells #[.int .u64 0,.slice none 0 0] 56)).alloc (.cells #[.nilIface] 94)) 257 [.slice (some ⟨yb,yo,none⟩) body.length cap,.int .i64 ((0:Nat):Int),.int .i64 ((0:Nat):Int)];simpa using this
 have h9:body.drop 0=Num.bytes n++dH n fs fs.length 0:=by
  rw[List.drop_zero,I];exact zh n fs fs.length
 have HN:=hid (eG (w.heap.size+2) yb yo cap body 0 0 n _ V hm hn h9);have hu:=gH h9
 have hg:∀w1,dG w1 (w.heap.size+2) yb yo cap body (0+(Num.bytes n).length) 0->cu (w.heap.size+2) V w1->w1.cell? ⟨w.heap.size,0,none⟩=some (.int .u64 0)/\w1.frozen? ⟨w.heap.size,0,none⟩=false/\PK w yb yo cap body n (fs.map norm) (w1.setCell ⟨w.heap.size,0,none⟩ (.int .u64 n)) (fun _=>.bool false) 0 (.slice none 0 0) (0+(Num.bytes n).length) 0:=fun w1 h1 h2=>by
  have hA1:=hA0.of_heap (h2.block _ (by omega))
  have U:∀b,b≠w.heap.size->(w1.setCell ⟨w.heap.size,0,none⟩ (.int .u64 n)).heap[b]?=w1.heap[b]?:=fun b hb=>mR _ _ _ _ hb
  have x6:Below w.heap.size w w1:=h8.trans ⟨h2.os,h2.tape,h2.output,Nat.le_of_eq h2.size.symm,fun b hb=>h2.block b (by omega)⟩;refine⟨hA1.cell 0,hA1.frozen 0,hA1.setCell 0 _,(hf.of_heap (h2.block _ (by omega))).of_heap (U _ (by omega)),h1.of (U _ (by omega)) (U _ (by omega)),⟨bn.nil _ _ _,Own.nil _,fun j hj=>absurd hj (Nat.not_lt_zero _)⟩,?_,x6.setCell (p:=⟨w.heap.size,0,none⟩) (jK _) _,x2⟩;have:=h2.size;simp;omega
 have hv:∀k p,k<fs.length->body.drop p=dH n fs fs.length k->p<body.length/\decide (p=body.length)=false:=fun k p hk hd=>by
  rw[oZ n fs fs.length k hk]at hd;obtain⟨x,t,hx,_⟩:=xw _ (hs k hk).1
  have h1:(body.drop p).length=(aB (fs.getD k dW)).length+(dH n fs fs.length (k+1)).length:=by rw[hd,nI]
  rw[Si,hx,List.length_cons]at h1;exact⟨by omega,by simp;omega⟩
 have XP:∀p,p<=body.length->body.drop p=dH n fs fs.length fs.length->decide (p=body.length)=true:=fun p hp hd=>by
  rw[Bv]at hd
  have h1:(body.drop p).length=0:=by rw[hd];rfl
  rw[Si]at h1;simp;omega
 have Vd:=hid hg;have h4:=hid hu;have h6:=hid hv;have XQ:=hid XP;have HS:=hid hs;clear hg hu hv XP h9 hm hf hA0 h8 x7 hs hb I O h0
 go_enter_defers func116,ntmps116
 go_wp2_with fail
 rw[<-H];clear H;refine HN.out.mono ?_;rintro e w1 ⟨rfl,sG,ho⟩;obtain⟨x0,z0,h7⟩:=Vd.out w1 sG ho;have he:=hid h7;have h5:=hid (zS _ _ _ _ _ _ _ _ h7.rd);rw[(h6.out 0 _ hw h4.out).2]at h5;clear h7 sG ho HN Vd
 go_wp2_with fail
 refine h5.out.mono ?_;rintro e w2 ⟨rfl,q,rfl⟩;have hc:Hid (∃v9 Z sc p bg,PK w yb yo cap body n (fs.map norm) (((w1.setCell ⟨w.heap.size,0,none⟩ (.int .u64 n))).drewN q) v9 0 (.slice Z 0 sc) p bg/\body.drop p=dH n fs fs.length 0):=⟨_,_,_,_,_,he.out.same rfl rfl rfl rfl,h4.out⟩;clear he h4 h5 x0 z0;generalize ((w1.setCell ⟨w.heap.size,0,none⟩ (.int .u64 n))).drewN q=w3 at *
 go_wp2_with fail
 go_loopw [25] (fun _ wr=>∃k:Nat,k<=fs.length/\Hid (∃v9 Z sc p bg,PK w yb yo cap body n (fs.map norm) wr v9 k (.slice Z k sc) p bg/\body.drop p=dH n fs fs.length k)) (fun _ wr=>fs.length-DC w.heap.size wr)
 case atStart=>exact⟨0,M4 _,hc.out⟩
 case round=>
  clear hc;obtain⟨k,hk,HI⟩:=hrel;obtain⟨v9,Z,sc,p,bg,X,hd⟩:=HI.out;have x1:wr.cell? ⟨w.heap.size,1,none⟩=some (.slice Z k sc):=X.box.cell 1
  have HM:Hid (DC w.heap.size wr=k):=by unfold Hid DC;rw[x1]
  have tu:=hid (zS _ _ _ _ _ _ _ _ X.rd)
  by_cases ha:k<fs.length
  ·rw[(h6.out k p ha hd).2]at tu;obtain⟨F,hF⟩:∃F,norm (fs.getD k dW)=F:=⟨_,rfl⟩;have HC:=hid (fun W e1 e2 e3 e4=>KQ X ha hl (HS.out k ha) hd F hF W e1 e2 e3 e4);clear X hd hF HI XQ h6 HS
   go_wp2_with fail
   refine tu.out.mono ?_;rintro e w4 ⟨rfl,q4,rfl⟩
   go_upto_region 7 with fail
   have x5:∀args w,(callFunc 164 args).run prog w=.ok (.enter 164 args) w:=enters_of func164 (by kernel_rfl) rfl;refine wp_region_noPanic ?_
   go_region_law (first|(refine qg _ (by rfl) 164 _ _ (by rfl) _ (by rfl) x5 (HC.out _ (by rfl) (by rfl) (by rfl) (by rfl)) ?_;rintro e y ⟨ra,rc,a',c',W5,rfl,t1,t2,jm,t3,t4,Q7⟩;refine⟨_,rfl,?_⟩)|(refine fT _ (by rfl) _ _ _ _ (by rfl) _ _ (by rfl) (by rfl) _ _ (jm _) ?_))
   all_goals(
    refine NoPanic.normal ?_
    have Gy:Hid (DC w.heap.size (W5.setCell ⟨w.heap.size,1,none⟩ (.slice a' (k+1) c'))=k+1):=by unfold Hid DC;rw[World.cell?_setCell_same' _ _ _ (by rw[t3];rfl)]
    obtain⟨J7,p',x4,G,hr⟩:=Q7.out;have x3:Hid (∃v9 Z sc p bg,PK w yb yo cap body n (fs.map norm) (W5.setCell ⟨w.heap.size,1,none⟩ (.slice a' (k+1) c')) v9 (k+1) (.slice Z (k+1) sc) p bg/\body.drop p=dH n fs fs.length (k+1)):=⟨J7,_,_,p',x4,G,hr⟩;clear G hr Q7 jm t1 t2 t3 t4
    go_wp2_with fail
    go_roundw
    case rel=>exact⟨k+1,by omega,x3⟩
    case measure=>rw[HM.out,Gy.out];omega)
  ·obtain rfl:k=fs.length:=by omega
   rw[XQ.out p X.rd.le hd]at tu;have hA:=X.box;have hE:=X.err
   have h3:∀q (x y z:Value),qU (w.heap.size+3) ((((wr.drewN q).setCell ⟨w.heap.size,0,none⟩ x).setCell ⟨w.heap.size,1,none⟩ y).setCell ⟨w.heap.size+1,0,none⟩ z) (.slice Z fs.length sc) (fs.map norm) v9 fs.length/\Below w.heap.size w ((((wr.drewN q).setCell ⟨w.heap.size,0,none⟩ x).setCell ⟨w.heap.size,1,none⟩ y).setCell ⟨w.heap.size+1,0,none⟩ z):=fun q x y z=>by
    have G:=X.same (W:=wr.drewN q) rfl rfl rfl rfl
    have hy:∀b,w.heap.size+3<=b->((((wr.drewN q).setCell ⟨w.heap.size,0,none⟩ x).setCell ⟨w.heap.size,1,none⟩ y).setCell ⟨w.heap.size+1,0,none⟩ z).heap[b]?=(wr.drewN q).heap[b]?:=fun b hb=>by
     rw[mR _ _ _ _ (by simp;omega),mR _ _ _ _ (by simp;omega),mR _ _ _ _ (by simp;omega)]
    refine⟨⟨G.cp.buf.of_heap (fun b hb=>hy b (G.cp.own b hb)),G.cp.own,fun j hj=>?_⟩,((G.bel.setCell (p:=⟨w.heap.size,0,none⟩) (jK _) _).setCell (p:=⟨w.heap.size,1,none⟩) (jK _) _).setCell (p:=⟨w.heap.size+1,0,none⟩) (by simp) _⟩;obtain⟨r1,r2,r3⟩:=G.cp.rng j hj;exact⟨r1.of_heap (fun b hb=>hy b (r2 b hb)),r2,r3⟩
   have a0:wr.cell? ⟨w.heap.size,0,none⟩=some (.int .u64 n):=hA.cell 0;have b0:wr.cell? ⟨w.heap.size+1,0,none⟩=some .nilIface:=hE.cell 0;have z0:=hA.frozen 0;have z1:=hA.frozen 1;have z2:=hE.frozen 0;have iG:=hid h3;clear h3 X hd hA hE HI HM
   go_wp2_with fail
   refine tu.out.mono ?_;rintro e w4 ⟨rfl,q4,rfl⟩
   go_wp2_with fail
   refine leaves_cons (f:=160) (args:=#[.pointer (some ⟨w.heap.size,0,none⟩),.pointer (some ⟨w.heap.size+1,0,none⟩)]) (by simp) (by simp[go_sem]) ?_;refine(Gs ⟨w.heap.size,0,none⟩ ⟨w.heap.size+1,0,none⟩ _).mono ?_;rintro e u' x9 ⟨rfl,rfl,rfl⟩;obtain⟨f1,f2⟩:=iG.out q4 (.int .u64 n) (.slice Z fs.length sc) .nilIface;simp[Leaves,settle,results,results116,go_sem,a0,x1,b0];exact⟨⟨_,f1⟩,f2⟩
theorem qU.mono{A B:Nat}{w:World}{s:Value}{fs:List Fr}{v9:Nat->Value}{k:Nat}(h:qU B w s fs v9 k)(F:A<=B):qU A w s fs v9 k:=
 ⟨h.buf,h.own.mono F,fun j G=>by obtain⟨H,I,O⟩:=h.rng j G;exact⟨H,I.mono F,O⟩⟩
theorem qU.of{B:Nat}{w w':World}{s:Value}{fs:List Fr}{v9:Nat->Value}{k:Nat}(h:qU B w s fs v9 k)(e:∀b,B<=b->b<w.heap.size->w'.heap[b]?=w.heap[b]?):qU B w' s fs v9 k:=
 ⟨h.buf.of_heap (fun b hb=>e b (h.own b hb) (h.buf.lt b hb)),h.own,fun j H=>by obtain⟨F,G,I⟩:=h.rng j H;exact⟨F.of_heap (fun b hb=>e b (G b hb) (F.lt b hb)),G,I⟩⟩
def jV(ok:Bool)(n:Nat)(fs:List Fr)(B:Nat)(w:World)(s err:Value):Prop:=
 if ok then err=.nilIface/\∃v9,qU B w s (fs.map norm) v9 fs.length else n=0/\s=.slice none 0 0/\err=.iface 57 (.int .i64 7)
theorem jV.shape{ok:Bool}{n:Nat}{fs:List Fr}{B:Nat}{w:World}{s err:Value}(h:jV ok n fs B w s err):∃a m c,s=.slice a m c:=by
 unfold jV at h;cases ok
 ·rw[if_neg (by decide)]at h;exact⟨_,_,_,h.2.1⟩
 ·rw[if_pos rfl]at h;obtain⟨_,v9,F⟩:=h;obtain⟨a,c,hs,_⟩:=F.buf.shape;exact⟨_,_,_,hs⟩
theorem jV.Wt{ok:Bool}{n:Nat}{fs:List Fr}{B:Nat}{w:World}{s err:Value}(h:jV ok n fs B w s err):err=.nilIface\/err=.iface 57 (.int .i64 7):=by
 unfold jV at h;cases ok
 ·rw[if_neg (by decide)]at h;exact .inr h.2.2
 ·rw[if_pos rfl]at h;exact .inl h.1
theorem jV.of{ok:Bool}{n:Nat}{fs:List Fr}{A B:Nat}{w w':World}{s err:Value}(h:jV ok n fs B w s err)(F:A<=B)(e:∀b,B<=b->b<w.heap.size->w'.heap[b]?=w.heap[b]?):jV ok n fs A w' s err:=by
 unfold jV at h ⊢;cases ok
 ·exact h
 ·rw[if_pos rfl]at h ⊢;obtain⟨h1,v9,G⟩:=h;exact⟨h1,v9,(G.of e).mono F⟩
def kL(ok:Bool)(n:Nat)(fs:List Fr)(l:List UInt8):Prop:=
 if ok then n<4611686018427387904/\(∀j,j<fs.length->snd (fs.getD j dW)=true/\iT (fs.getD j dW))/\0<fs.length/\fs.length<=1000000000/\l=aD n fs
 else n=0/\∃body F,l=body++F/\F.length=4/\Num.val 0 F≠Crc.sum body
theorem mo(l:List UInt8):Num.val 0 (dS l)=Crc.sum l:=by
 unfold dS;rw[Num.Fx,Nat.zero_mul,Lb];exact Nat.mod_eq_of_lt (Nat.lt_of_lt_of_le (Crc.sum_lt l) (by decide))
theorem jW(ok:Bool)(n:Nat)(fs:List Fr)(yb yo cap:Nat)(l:List UInt8)(w:World)(I:kL ok n fs l)(hb:BytesAt w (some ⟨yb,yo,none⟩) l)(ha:l.length<=1000000000)(hk:l.length<=cap)(h9:cap<=9223372036854775807)(hm:yb<w.heap.size)(hT:TabAt w)(h2:2<=w.heap.size):
  Calls prog 69 #[.slice (some ⟨yb,yo,none⟩) l.length cap] w fun e w'=>∃s err,e=.returned (.tuple #[.agg #[.int .u64 n,s],err])/\jV ok n fs (w.heap.size+1) w' s err/\Below w.heap.size w w':=by
 have hf:∃body V,l=body++V/\V.length=4/\decide (Num.val 0 V=Crc.sum body)=ok/\(ok=true->body=bH n fs):=by
  unfold kL at I;cases ok
  ·rw[if_neg (by decide)]at I;obtain⟨_,body,V,h1,h2,h3⟩:=I;exact⟨body,V,h1,h2,by simp[h3],fun h=>by cases h⟩
  ·rw[if_pos rfl]at I;exact⟨bH n fs,dS (bH n fs),I.2.2.2.2,Num.eY 4 _,by rw[mo];simp,fun _=>rfl⟩
 obtain⟨body,V,hl,h7,hj,h8⟩:=hf
 have hc:l.length=body.length+4:=by rw[hl,nI,h7]
 obtain⟨G,O⟩:∃G,G=w.alloc (.cells #[.int .u64 0,.slice none 0 0] 56):=⟨_,rfl⟩
 have H:G.heap.size=w.heap.size+1:=by rw[O];simp
 have F:Below w.heap.size w G:=by rw[O];exact(tL _ w).alloc (jK _) _
 have hA0:ak G w.heap.size 56 [.int .u64 0,.slice none 0 0]:=by rw[O];exact ak.new w 56 _
 have h5:BytesAt G (some ⟨yb,yo,none⟩) (body++V):=by rw[<-hl];exact hb.of (fun x hx=>by simp at hx;subst hx;exact F.block _ hm)
 have HC:=hid (FP yb yo body V cap G (by omega) h7 (by omega) h5 (hT.below F h2));rw[hj,<-hc]at HC
 have U:BytesAt G (some ⟨yb,yo,none⟩) body:=by
  have:=h5.cut body.length;rwa[List.take_left' rfl]at this
 have X:Hid (ok=true->∀q,Calls prog 116 #[.slice (some ⟨yb,yo,none⟩) body.length cap] (G.drewN q) fun e w'=>∃s v9,e=.returned (.tuple #[.agg #[.int .u64 n,s],.nilIface])/\qU (w.heap.size+4) w' s (fs.map norm) v9 fs.length/\Below (w.heap.size+1) G w'):=fun ho q=>by
  unfold kL at I;rw[if_pos ho]at I;obtain⟨d1,d2,d3,d4,_⟩:=I;have:=xA n fs d1 d2 d3 d4 yb yo cap body (h8 ho) (G.drewN q) U (by omega) h9 (by show yb<G.heap.size;omega);refine this.mono ?_;rintro e w' ⟨s,v9,h1,h3,h4⟩;have e1:(G.drewN q).heap.size=w.heap.size+1:=H;rw[e1]at h3 h4;exact⟨s,v9,h1,h3,h4.os,h4.tape,h4.output,h4.size,h4.block⟩
 have HW:=hid (And.intro H (And.intro F hA0))
 have HN:Hid (ok=false->n=0):=fun ho=>by
  unfold kL at I;rw[if_neg (by rw[ho];decide)]at I;exact I.1
 clear I hb ha hl h5 U H F hA0 h8 hc hT h7;generalize l.length=L at *;go_enter func69,ntmps69
 go_wp2_with fail
 rw[<-O];clear O;refine HC.out.mono ?_;rintro e w1 ⟨rfl,q,rfl⟩;obtain⟨H,F,hA0⟩:=HW.out;cases ok
 ·have hg:=HN.out rfl;subst hg;have a0:G.cell? ⟨w.heap.size,0,none⟩=some (.int .u64 0):=hA0.cell 0;have a1:G.cell? ⟨w.heap.size,1,none⟩=some (.slice none 0 0):=hA0.cell 1;have z0:=hA0.frozen 0;have z1:=hA0.frozen 1
  have HF:Hid (Below w.heap.size w (((G.drewN q).setCell ⟨w.heap.size,0,none⟩ (.int .u64 0)).setCell ⟨w.heap.size,1,none⟩ (.slice none 0 0))):=by
   have h1:Below w.heap.size w (G.drewN q):=⟨F.os,F.tape,F.output,F.size,F.block⟩;exact(h1.setCell (p:=⟨w.heap.size,0,none⟩) (jK _) _).setCell (p:=⟨w.heap.size,1,none⟩) (jK _) _
  clear H F hA0 HW X;go_wp2;exact bodyPost_ret (v:=.tuple #[.agg #[.int .u64 ((0:Nat):Int),.slice none 0 0],.iface 57 (.int .i64 7)]) (by simp[results,results69,go_sem,a0,a1]) rfl ⟨_,_,rfl,⟨rfl,rfl,rfl⟩,HF.out⟩
 ·have he:=hid (X.out rfl q);clear H F hA0 X
  go_wp2_with fail
  refine he.out.mono ?_;rintro e w2 ⟨s,v9,rfl,Z,h6⟩;obtain⟨sa,sc,hs,_⟩:=Z.buf.shape;subst hs;obtain⟨H,F,hA0⟩:=HW.out;have hA2:=hA0.of_heap (h6.block _ (by omega));have a0:w2.cell? ⟨w.heap.size,0,none⟩=some (.int .u64 0):=hA2.cell 0;have a1:w2.cell? ⟨w.heap.size,1,none⟩=some (.slice none 0 0):=hA2.cell 1;have z0:=hA2.frozen 0;have z1:=hA2.frozen 1
  have HF:Hid (∀x y:Value,jV true n fs (w.heap.size+1) ((w2.setCell ⟨w.heap.size,0,none⟩ x).setCell ⟨w.heap.size,1,none⟩ y) (.slice sa fs.length sc) .nilIface/\Below w.heap.size w ((w2.setCell ⟨w.heap.size,0,none⟩ x).setCell ⟨w.heap.size,1,none⟩ y)):=fun x y=>by
   refine⟨⟨rfl,v9,(Z.of (fun b h0 _=>?_)).mono (by omega)⟩,((F.trans (h6.mono (by omega))).setCell (p:=⟨w.heap.size,0,none⟩) (jK _) _).setCell (p:=⟨w.heap.size,1,none⟩) (jK _) _⟩;rw[mR _ _ _ _ (by simp;omega),mR _ _ _ _ (by simp;omega)]
  clear H F hA0 HW Z h6 hA2;go_wp2;obtain⟨f1,f2⟩:=HF.out (.int .u64 n) (.slice sa fs.length sc);exact bodyPost_ret (v:=.tuple #[.agg #[.int .u64 n,.slice sa fs.length sc],.nilIface]) (by simp[results,results69,go_sem,a0,a1]) rfl ⟨_,_,rfl,f1,f2⟩
theorem Bw(ok:Bool)(n:Nat)(fs:List Fr)(yb yo cap:Nat)(l:List UInt8)(w:World)(hD:kL ok n fs l)(hb:BytesAt w (some ⟨yb,yo,none⟩) l)(X:l.length<=1000000000)(O:l.length<=cap)(V:cap<=9223372036854775807)(h3:yb<w.heap.size)(hT:TabAt w)(h2:2<=w.heap.size):
  Calls prog 41 #[.slice (some ⟨yb,yo,none⟩) l.length cap] w fun e w'=>∃s err,e=.returned (.tuple #[.agg #[.int .u64 n,s],err])/\jV ok n fs (w.heap.size+1) w' s err/\Below w.heap.size w w':=by
 obtain⟨U,G⟩:∃U,U=w.alloc (.cells #[.int .u64 0,.slice none 0 0] 56):=⟨_,rfl⟩
 have H:U.heap.size=w.heap.size+1:=by rw[G];simp
 have F:Below w.heap.size w U:=by rw[G];exact(tL _ w).alloc (jK _) _
 have hA0:ak U w.heap.size 56 [.int .u64 0,.slice none 0 0]:=by rw[G];exact ak.new w 56 _
 have HC:=hid (jW ok n fs yb yo cap l U hD (hb.of (fun x hx=>by simp at hx;subst hx;exact F.block _ h3)) X O V (by omega) (hT.below F h2) (by omega));have HW:=hid (And.intro H (And.intro F hA0));clear hD hb H F hA0 hT;generalize l.length=L at *;go_enter func41,ntmps41
 go_wp2_with fail
 rw[<-G];clear G;refine HC.out.mono ?_;rintro e Z ⟨s,err,rfl,hR,I⟩;obtain⟨sa,sn,sc,hs⟩:=hR.shape;subst hs;obtain⟨H,F,hA0⟩:=HW.out;have hA2:=hA0.of_heap (I.block _ (by omega));have a0:Z.cell? ⟨w.heap.size,0,none⟩=some (.int .u64 0):=hA2.cell 0;have a1:Z.cell? ⟨w.heap.size,1,none⟩=some (.slice none 0 0):=hA2.cell 1;have z0:=hA2.frozen 0;have z1:=hA2.frozen 1
 have HF:Hid (∀x y:Value,jV ok n fs (w.heap.size+1) ((Z.setCell ⟨w.heap.size,0,none⟩ x).setCell ⟨w.heap.size,1,none⟩ y) (.slice sa sn sc) err/\Below w.heap.size w ((Z.setCell ⟨w.heap.size,0,none⟩ x).setCell ⟨w.heap.size,1,none⟩ y)):=fun x y=>by
  refine⟨hR.of (by omega) (fun b h0 _=>?_),((F.trans (I.mono (by omega))).setCell (p:=⟨w.heap.size,0,none⟩) (jK _) _).setCell (p:=⟨w.heap.size,1,none⟩) (jK _) _⟩;rw[mR _ _ _ _ (by simp;omega),mR _ _ _ _ (by simp;omega)]
 clear H F hA0 HW hR I hA2;go_wp2;obtain⟨f1,f2⟩:=HF.out (.int .u64 n) (.slice sa sn sc);exact bodyPost_ret (v:=.tuple #[.agg #[.int .u64 n,.slice sa sn sc],err]) (by simp[results,results41,go_sem,a0,a1]) rfl ⟨_,_,rfl,f1,f2⟩
theorem vF(ok:Bool)(n:Nat)(fs:List Fr)(yb yo cap:Nat)(l:List UInt8)(w:World)(hD:kL ok n fs l)(hb:BytesAt w (some ⟨yb,yo,none⟩) l)(x2:l.length<=1000000000)(h7:0<l.length)(x6:yb<w.heap.size)(hT:TabAt w)(hE:dP w)(h2:2<=w.heap.size)(ev:Int)(x0:ev=if ok then 0 else 7):
  Calls prog 24 #[.slice (some ⟨yb,yo,none⟩) l.length cap] w fun e w'=>∃s err,e=.returned (.tuple #[.agg #[.int .u64 n,s],.int .i64 ev,.int .i64 (-1)])/\jV ok n fs w.heap.size w' s err/\Below w.heap.size w w':=by
 have x3:=hid x0;clear x0;obtain⟨W0,h4⟩:∃W0,W0=w.alloc (.cells #[.int .u64 0,.slice none 0 0] 56):=⟨_,rfl⟩
 have O:W0.heap.size=w.heap.size+1:=by rw[h4];simp
 have hm:Below w.heap.size w W0:=by rw[h4];exact(tL _ w).alloc (jK _) _
 have hA0:ak W0 w.heap.size 56 [.int .u64 0,.slice none 0 0]:=by rw[h4];exact ak.new w 56 _
 have Yp:BytesAt W0 (some ⟨yb,yo,none⟩) l:=hb.of (fun x hx=>by simp at hx;subst hx;exact hm.block _ x6)
 obtain⟨v1,W1,jm,hw,hf⟩:=iB (Buf.nil W0) ⟨yb,yo,none⟩ l.length cap l rfl h7 (fun j u hu=>by
  have hj:j<l.length:=by
   have:=(List.getElem?_eq_some_iff.1 hu).1;rwa[aR]at this
  obtain⟨b,off,ha,hc⟩:=Yp j hj;simp at ha;obtain⟨rfl,rfl⟩:=ha;rw[Addr.add_lit,hc,<-hu]
  simp[aJ,hj]) (by simp;omega)
 rw[List.nil_append]at hw;have wH:Own W0.heap.size v1:=hf.own (Own.nil _) (jK _);have hn:Below W0.heap.size W0 W1:=hf.below (Own.nil _) (jK _)
 rcases hw with⟨_,x5⟩|⟨g,c1,cs,rfl,F,hcl,hc2,hc3,hc4,Et⟩
 ·rw[x5]at h7;simp at h7
 ·have I:W0.heap.size<=g:=wH g rfl;have G:=F.lt;have jq:Below w.heap.size w W1:=hm.trans (hn.mono (by omega))
  have nT:BytesAt W1 (some ⟨g,0,none⟩) l:=fun j hj=>by
   refine⟨g,0,rfl,?_⟩;rw[F.cell,Lb]
   have:(cs.take l.length)[j]?=(aJ l)[j]?:=by rw[hc4]
   rw[List.getElem?_take,if_pos hj]at this;rw[this];simp[aJ,hj]
  have HC:=hid (Bw ok n fs g 0 c1 l W1 hD nT x2 hc2 hc3 G (hT.below jq h2) (by omega));have HW:=hid (And.intro O (And.intro jq (And.intro (hA0.of_heap (hn.block _ (by omega))) (And.intro F (And.intro I G)))))
  have x4:Hid (l.length<=cs.length):=by unfold Hid;omega
  have HE:=hid hE;clear hD hb O hm hA0 Yp hn jq nT wH hf F hcl hc2 hc3 hc4 Et hT hE I G;generalize l.length=L at *;go_enter func24,ntmps24
  go_wp2_with (at_builtin;rw[<-h4];refine Lib.wpList_append_run _ rfl _ _ _ _ rfl _ _ rfl rfl _ _ (jm _) ?_)
  clear h4;refine HC.out.mono ?_;rintro e w2 ⟨s,err,rfl,V,h8⟩;obtain⟨sa,sn,sc,hs⟩:=V.shape;subst hs;have x8:=V.Wt;obtain⟨O,jq,hA1,F,I,G⟩:=HW.out;obtain⟨W3,h5⟩:∃W3,W3=w2.alloc (.cells #[.int .u64 n,.slice sa sn sc] 56):=⟨_,rfl⟩
  have Z:W3.heap.size=w2.heap.size+1:=by rw[h5];simp
  have h9:Below w2.heap.size w2 W3:=by rw[h5];exact(tL _ _).alloc (jK _) _
  have hy:ak W3 w2.heap.size 56 [.int .u64 n,.slice sa sn sc]:=by rw[h5];exact ak.new w2 56 _
  have H:=h8.size
  have he:∀k,k<W1.heap.size->W3.heap[k]?=W1.heap[k]?:=fun k hk=>by rw[h9.block k (by omega),h8.block k hk]
  have hv:Hid (ak W3 g 5 cs/\jV ok n fs (W1.heap.size+1) W3 (.slice sa sn sc) err/\Below w.heap.size w W3/\ak W3 w.heap.size 56 [.int .u64 0,.slice none 0 0]/\ak W3 w2.heap.size 56 [.int .u64 n,.slice sa sn sc]):=by
   refine⟨F.of_heap (he g G),V.of (jK _) (fun b _ hb=>h9.block b hb),(jq.trans (h8.mono (by omega))).trans (h9.mono (by omega)),hA1.of_heap (he _ (by omega)),hy⟩
  have uF:=hid (And.intro Z (And.intro H (And.intro O (And.intro I G))));clear V h8 O jq hA1 F I G Z h9 hy H he HW HC jm
  go_wp2_with fail
  rw[<-h5];clear h5
  go_loopw [20] (fun hr wr=>∃k:Nat,k<=L/\hr=.int .i64 k/\Hid (∃X,X.length=cs.length/\ak wr g 5 X/\jV ok n fs (W1.heap.size+1) wr (.slice sa sn sc) err/\Below w.heap.size w wr/\ak wr w.heap.size 56 [.int .u64 0,.slice none 0 0]/\ak wr w2.heap.size 56 [.int .u64 n,.slice sa sn sc])) (fun hr _=>L-(intOf hr).toNat)
  case atStart=>exact⟨0,M4 _,rfl,cs,rfl,hv.out⟩
  case round=>
   clear hv;obtain⟨k,hk,rfl,HI⟩:=hrel;obtain⟨X,ho,F,V,U,hA,hP⟩:=HI.out;obtain⟨Z,H,O,I,G⟩:=uF.out;have x1:=x4.out
   by_cases x9:k<L
   ·have x7:(k:Int)<(L:Int):=by omega
    have t1:=F.cell k;rw[CK (by omega)]at t1;generalize X[k]'(by omega)=xd at t1;have z1:=F.frozen k
    have h3:∀b,b≠g->∀v,(wr.setCell ⟨g,k,none⟩ v).heap[b]?=wr.heap[b]?:=fun b hb v=>mR _ _ _ _ hb
    have HN:Hid (∀v,∃X,X.length=cs.length/\ak (wr.setCell ⟨g,k,none⟩ v) g 5 X/\jV ok n fs (W1.heap.size+1) (wr.setCell ⟨g,k,none⟩ v) (.slice sa sn sc) err/\Below w.heap.size w (wr.setCell ⟨g,k,none⟩ v)/\ak (wr.setCell ⟨g,k,none⟩ v) w.heap.size 56 [.int .u64 0,.slice none 0 0]/\ak (wr.setCell ⟨g,k,none⟩ v) w2.heap.size 56 [.int .u64 n,.slice sa sn sc]):=fun v=>
     ⟨_,by rw[Vp];exact ho,F.setCell k v,V.of (jK _) (fun b h0 _=>h3 b (by omega) v),U.setCell (p:=⟨g,k,none⟩) (by simp;omega) v,hA.of_heap (h3 _ (by omega) v),hP.of_heap (h3 _ (by omega) v)⟩
    clear ho F V U hA hP Z H O I G h3 HI x1
    go_wp2_with fail
    go_roundw
    case rel=>exact⟨k+1,by omega,by go_num,HN.out _⟩
    case measure=>simp[intOf];omega
   ·obtain rfl:k=L:=by omega
    have Yq:dP wr:=cell_of HE.out (U.block 0 (by omega))
    have VE:Calls prog 42 #[err] wr fun e w'=>e=.returned (.tuple #[.int .i64 ev,.int .i64 (-1)])/\Below wr.heap.size wr w':=by
     rw[x3.out];unfold jV at V;cases ok
     ·rw[if_neg (by decide)]at V;rw[V.2.2];exact mF 7 eql7 wr Yq
     ·rw[if_pos rfl]at V;rw[V.1];exact rV wr
    have Yr:=hid VE;have HR:=hid (And.intro F (And.intro V (And.intro U (And.intro hA hP))));clear VE Yq ho F V U hA hP Z H O I G HI x1
    go_wp2_with fail
    refine Yr.out.mono ?_;rintro e w5 ⟨rfl,h6⟩;obtain⟨F,V,U,hA,hP⟩:=HR.out;obtain⟨Z,H,O,I,G⟩:=uF.out;have hA5:=hA.of_heap (h6.block _ hA.lt);have hg:=hP.of_heap (h6.block _ hP.lt);have a0:w5.cell? ⟨w.heap.size,0,none⟩=some (.int .u64 0):=hA5.cell 0;have a1:w5.cell? ⟨w.heap.size,1,none⟩=some (.slice none 0 0):=hA5.cell 1;have p0:w5.cell? ⟨w2.heap.size,0,none⟩=some (.int .u64 n):=hg.cell 0;have p1:w5.cell? ⟨w2.heap.size,1,none⟩=some (.slice sa sn sc):=hg.cell 1;have z0:=hA5.frozen 0;have z1:=hA5.frozen 1
    have xa:¬(w2.heap.size=w.heap.size):=by omega
    have HF:Hid (∀x y:Value,jV ok n fs w.heap.size ((w5.setCell ⟨w.heap.size,0,none⟩ x).setCell ⟨w.heap.size,1,none⟩ y) (.slice sa sn sc) err/\Below w.heap.size w ((w5.setCell ⟨w.heap.size,0,none⟩ x).setCell ⟨w.heap.size,1,none⟩ y)):=fun x y=>by
     refine⟨V.of (by omega) (fun b h0 hb=>?_),((U.trans (h6.mono U.size)).setCell (p:=⟨w.heap.size,0,none⟩) (jK _) _).setCell (p:=⟨w.heap.size,1,none⟩) (jK _) _⟩;rw[mR _ _ _ _ (by simp;omega),mR _ _ _ _ (by simp;omega),h6.block b hb]
    clear F V U hA hP Z H O I G hA5 hg h6
    go_wp2_with fail
    obtain⟨f1,f2⟩:=HF.out (.int .u64 n) (.slice sa sn sc);exact bodyPost_ret (v:=.tuple #[.agg #[.int .u64 n,.slice sa sn sc],.int .i64 ev,.int .i64 (-1)]) (by simp[results,results24,go_sem,a0,a1]) rfl ⟨_,err,rfl,f1,f2⟩
end Go.Proofs.YtphbledmopchnaaGreatDoor
namespace Go.Proofs.YtphbledmopchnaaGreatDoor
open Go.RowKit Go.Lib Mm Tryz
theorem val_inj:∀(l l':List UInt8) (a b:Nat),l.length=l'.length->Num.val a l=Num.val b l'->a=b/\l=l'
 |[],[],_,_,_,h=>⟨h,rfl⟩
 |[],_::_,_,_,hl,_=>by simp at hl
 |_::_,[],_,_,hl,_=>by simp at hl
 |x::t,y::u,a,b,hl,h=>by
  obtain⟨h1,F⟩:=val_inj t u (a*256+x.toNat) (b*256+y.toNat) (by simpa using hl) h;have G:=x.toNat_lt;have H:=y.toNat_lt
  have e:x.toNat=y.toNat:=by omega
  exact⟨by omega,by rw[UInt8.toNat_inj.1 e,F]⟩
theorem rX(l:List UInt8):(dS l).length=4:=by
 unfold dS;exact Num.eY _ _
theorem mH(n:Nat)(fs:List Fr):(aD n fs).length=(bH n fs).length+4:=by
 unfold aD;rw[nI,rX]
theorem H_(n:Nat)(fs:List Fr)(j:Nat)(y:UInt8)(I:j<(aD n fs).length)(F:(aD n fs)[j]≠y):kL false 0 [] ((aD n fs).set j y):=by
 unfold kL;rw[if_neg (by decide)];refine⟨rfl,?_⟩;unfold aD at I F ⊢;generalize bH n fs=B at I F ⊢;have H:=rX B
 by_cases h:j<B.length
 ·refine⟨B.set j y,dS B,by rw[List.set_append_left _ _ h],H,?_⟩;rw[mo];rw[List.getElem_append_left h]at F
  have U:B=B.take j++B[j]::B.drop (j+1):=by simp
  have V:B.set j y=B.take j++y::B.drop (j+1):=by rw[List.set_eq_take_append_cons_drop,if_pos h]
  have G:=Crc.Fw (B.take j) (B.drop (j+1)) B[j] y F;rw[<-U,<-V]at G;exact G
 ·rw[nI,H]at I;refine⟨B,(dS B).set (j-B.length) y,by rw[List.set_append_right _ _ (by omega)],by rw[Vp];exact H,?_⟩;intro O;rw[<-mo B]at O;have hq:=(val_inj _ _ 0 0 (by simp) O).2;rw[List.getElem_append_right (by omega)]at F;have g:((dS B).set (j-B.length) y)[j-B.length]?=some y:=List.getElem?_set_self (by omega);rw[hq,CK (by omega)]at g;exact F (Option.some.inj g)
theorem Ef(rs:List (Nat×Nat)):(cO rs).length<=24+16*rs.length:=by
 unfold cO gT;rw[nI,nI,nI];have h1:=eF (rs.getD 0 (0,0)).2;have F:=eF (rs.length-1);have G:=eF ((rs.getD 0 (0,0)).2-(rs.getD 0 (0,0)).1);have H:=CO rs (rs.length-1);omega
theorem Cc(f:Fr)(F:Nat×Nat):(aO f F).length<=24+f.data.size+16*f.ranges.length:=by
 have h1:=eF f.stream.toNat;have H:=eF (fieldAt f F.2);have I:=eF f.data.size;have O:=Ef f.ranges;have G:f.data.data.toList.length=f.data.size:=Array.length_toList;unfold aO;split
 ·simp only[Gl];omega
 ·split
  ·simp only[Gl];omega
  ·split
   ·omega
   ·split
    ·omega
    ·split
     ·rw[nI,G];omega
     ·omega
theorem yj(f:Fr)(F:List (Nat×Nat)):∀k,(aX (F.map (aO f)) k).length<=k*(24+f.data.size+16*f.ranges.length)
 |0=>by simp[aX]
 |k+1=>by
  have:=yj f F k;rw[aX,nI,Nat.succ_mul]
  have h:((F.map (aO f)).getD k []).length<=24+f.data.size+16*f.ranges.length:=by
   rw[List.getD_eq_getElem?_getD,List.getElem?_map]
   cases F[k]? with
   |none=>simp
   |some t=>exact Cc f t
  omega
theorem Ui(k:Int):(aQ k).length<=4:=by
 unfold aQ
 repeat' split
 all_goals simp
theorem Ia(f:Fr):(aB f).length<=96+64*(f.data.size+f.ranges.length):=by
 unfold aB;have h1:=yj f (aQ f.kind) (aQ f.kind).length;have F:=Ui f.kind;have G:(aQ f.kind).length*(24+f.data.size+16*f.ranges.length)<=4*(24+f.data.size+16*f.ranges.length):=Nat.mul_le_mul_right _ F;omega
def aV(c:Int)(n:Nat):Nat:=if c<0 then(-(c+1)).toNat % n else c.toNat % n
theorem Ah(c:Int)(m:Nat)(h:c<0): -(c+1).tmod (m:Int)=(aV c m:Nat):=by
 unfold aV;rw[if_pos h,<-Int.neg_tmod,Int.tmod_eq_emod_of_nonneg (by omega),R3,Kt (by omega)]
theorem Ai(c:Int)(m:Nat)(h:0<=c):c % (m:Int)=(aV c m:Nat):=by
 unfold aV;rw[if_neg (by omega),R3,Kt h]
theorem bL(c:Int)(m:Nat)(h:0<m):aV c m<m:=by
 unfold aV;split<;>exact Nat.mod_lt _ h
theorem iK(c:Int)(m:Nat)(O: -9223372036854775808<=c)(G:c<=9223372036854775807)(H:0<m)(I:m<=9000000000)(w:World):
  Calls prog 50 #[.int .i64 c,.int .i64 m] w fun e w'=>e=.returned (.int .i64 (aV c m:Nat))/\w'=w:=by
 have hl:=hid (bL c m H)
 by_cases h:c<0
 ·have F:=hid (Ah c m h);go_enter func50,ntmps50;go_wp2;go_ret;exact⟨iA F.out,rfl⟩
 ·have F:=hid (Ai c m (by omega));go_enter func50,ntmps50;go_wp2;go_ret;exact⟨iA F.out,rfl⟩
end Go.Proofs.YtphbledmopchnaaGreatDoor
namespace Go.Proofs.YtphbledmopchnaaGreatDoor.Sd
open Go.RowKit Go.Lib Mm Tryz
def OV(S k:Nat)(kd:Int):Value:=
 if kd=4 then .iface 282 (.pointer (some ⟨S,4+27*k,none⟩))else if kd=3 then .iface 335 (.pointer (some ⟨S,6+27*k,none⟩))else if kd=6 then .iface 336 (.pointer (some ⟨S,18+27*k,none⟩))else .iface 336 (.pointer (some ⟨S,221,none⟩))
theorem D9(S o:Nat)(w:World):Calls prog 242 #[.pointer (some ⟨S,o,none⟩)] w fun e w'=>e=.returned (.pointer (some ⟨S,o,none⟩))/\w'=w:=by
 go_enter func242,ntmps242;go_wp2;go_ret;exact⟨rfl,rfl⟩
theorem tY(S k:Nat)(V:k<8)(f:Fr)(hs:f.stream=(k:Int))(w:World):
  Calls prog 198 #[.pointer (some ⟨S,0,none⟩),bJ f (.slice none 0 0)] w fun e w'=>e=.returned (OV S k f.kind)/\Below w.heap.size w w':=by
 unfold bJ;rw[hs];clear hs;generalize f.kind=kd;generalize f.offset=f2;generalize f.reliable=f3;generalize f.limit=f4;generalize f.fin=f5;generalize f.id=f6;generalize f.deadline=f7;generalize f.data=f8;obtain⟨W,F⟩:∃W,W=w.alloc (.cells #[.int .i64 kd,.int .i64 k,.int .u64 f2,.int .u64 f3,.int .u64 f4,.bool f5,.int .u64 f6,.int .u64 f7,.string f8,.slice none 0 0] 65):=⟨_,rfl⟩
 have hb:Below w.heap.size w W:=by rw[F];exact(tL _ w).alloc (jK _) _
 have G:Hid (∀q,Below w.heap.size w (W.drewN q)):=fun q=>⟨hb.os,hb.tape,hb.output,hb.size,hb.block⟩
 have k1:W.cell? ⟨w.heap.size,1,none⟩=some (.int .i64 k):=by rw[F];exact(ak.new w 65 [.int .i64 kd,.int .i64 k,.int .u64 f2,.int .u64 f3,.int .u64 f4,.bool f5,.int .u64 f6,.int .u64 f7,.string f8,.slice none 0 0]).cell 1
 have U:(k:Int)<8:=by omega
 by_cases I:kd=4
 ·subst I;go_enter func198,ntmps198
  go_wp2_with fail
  rw[<-F];clear F
  go_quiet (fail)
  go_wp2;go_ret;refine⟨?_,G.out _⟩;show Bu (.iface 282 (.pointer (some ⟨S,4+k*27,none⟩)))=.returned (OV S k 4);unfold OV;rw[if_pos rfl,KG]
 ·by_cases H:kd=3
  ·subst H;go_enter func198,ntmps198
   go_wp2_with fail
   rw[<-F];clear F
   go_quiet ((go_at_call 241;exact tT (zN _ _ _)))
   go_wp2;go_ret;refine⟨?_,G.out _⟩;show Bu (.iface 335 (.pointer (some ⟨S,4+k*27+2,none⟩)))=.returned (OV S k 3);unfold OV;rw[if_neg (by decide),if_pos rfl,KG,show 4+27*k+2=6+27*k by omega]
  ·by_cases O:kd=6
   ·subst O;go_enter func198,ntmps198
    go_wp2_with fail
    rw[<-F];clear F
    go_quiet ((go_at_call 242;exact tT (D9 _ _ _)))
    go_wp2;go_ret;refine⟨?_,G.out _⟩;show Bu (.iface 336 (.pointer (some ⟨S,4+k*27+14,none⟩)))=.returned (OV S k 6);unfold OV;rw[if_neg (by decide),if_neg (by decide),if_pos rfl,KG,show 4+27*k+14=18+27*k by omega]
   ·go_enter func198,ntmps198;go_wp2;go_ret;refine⟨?_,by rw[<-F];exact hb⟩;show Bu (.iface 336 (.pointer (some ⟨S,221,none⟩)))=.returned (OV S k kd);unfold OV;rw[if_neg I,if_neg H,if_neg O]
def TH(S k:Nat):List Value:=[.iface 282 (.pointer (some ⟨S,4+k*27,none⟩)),.iface 335 (.pointer (some ⟨S,4+k*27+2,none⟩)),.iface 336 (.pointer (some ⟨S,4+k*27+14,none⟩))]
def Rl(S:Nat):Nat->List Value
 |0=>[.iface 336 (.pointer (some ⟨S,221,none⟩))]
 |k+1=>Rl S k++TH S k
theorem vN(S:Nat):∀k,(Rl S k).length=1+3*k
 |0=>rfl
 |k+1=>by show(Rl S k++TH S k).length=_;rw[nI,vN S k];simp[TH];omega
theorem LW(n:Nat):(uj (Value.nilIface).cells n).toList.length=n:=by simp[uj,Value.cells]
theorem LY(n:Nat):∀v∈(uj (Value.nilIface).cells n).toList,v.oneCell'=true:=by
 intro v F;simp[uj,Value.cells]at F;obtain⟨i,_,rfl⟩:=F
 have:i % 1=0:=by omega
 rw[this];rfl
theorem Ze:Df 291 294 .nilIface 1 16:=⟨by kernel_rfl,by kernel_rfl,fun n=>by rw[LW];omega,LY,by omega⟩
theorem Pd(S:Nat)(w:World):
  Calls prog 196 #[.pointer (some ⟨S,0,none⟩)] w fun e w'=>∃v',e=.returned v'/\bn 294 1 w' v' 25 (Rl S 8)/\YtphbledmopchnaaGreatDoor.Own w.heap.size v'/\Below w.heap.size w w':=by
 obtain⟨U,F⟩:∃U,U=w.alloc (.cells #[.iface 336 (.pointer (some ⟨S,221,none⟩))] 294):=⟨_,rfl⟩
 have H0:Hid (bn 294 1 U (.slice (some ⟨w.heap.size,0,none⟩) 1 1) (1+3*0) (Rl S 0)/\YtphbledmopchnaaGreatDoor.Own w.heap.size (.slice (some ⟨w.heap.size,0,none⟩) 1 1)/\Below w.heap.size w U):=by
  rw[F];exact⟨.inr ⟨w.heap.size,1,_,rfl,ak.new w 294 [.iface 336 (.pointer (some ⟨S,221,none⟩))],rfl,jK _,by omega,rfl,rfl,fun v V=>by rw[List.mem_singleton.1 V];rfl⟩,fun k hk=>by simp[Value.ownBlock]at hk;omega,(tL _ w).alloc (jK _) _⟩
 go_enter func196,ntmps196;go_wp2;rw[<-F];clear F
 go_loopw [3,11] (fun s3 H wr=>∃k:Nat,k<=8/\H=.int .i64 k/\Hid (bn 294 1 wr s3 (1+3*k) (Rl S k)/\YtphbledmopchnaaGreatDoor.Own w.heap.size s3/\Below w.heap.size w wr)) (fun _ H _=>8-(intOf H).toNat)
 case atStart=>exact⟨0,by omega,rfl,H0.out⟩
 case round=>
  obtain⟨k,hk,rfl,X⟩:=hrel
  by_cases h3:k<8
  ·have h2:(k:Int)<8:=by omega
   obtain⟨hG,hO,hb⟩:=X.out;obtain⟨W6,I⟩:∃W6,W6=wr.drew.alloc (.cells (TH S k).toArray 294):=⟨_,rfl⟩
   have G:Below wr.heap.size wr W6:=by rw[I];exact(tL _ wr).drew.alloc (jK _) _
   have B6:ak W6 wr.heap.size 294 (TH S k):=by rw[I];exact ak.new wr.drew 294 _
   have h0:W6.heap.size=wr.heap.size+1:=by rw[I,World.size_alloc];rfl
   obtain⟨v',W7,TI,O,Z⟩:=dY Ze (hG.of_heap (w':=W6) (fun b hb=>G.block b (hG.lt b hb))) ⟨wr.heap.size,0,none⟩ 3 3 (TH S k) rfl (by omega) (fun v V=>by simp[TH]at V;rcases V with rfl|rfl|rfl<;>rfl) (fun j y hy=>by
    have e:(⟨wr.heap.size,0,none⟩:Addr).add j=⟨wr.heap.size,j,none⟩:=by rw[Addr.add_lit,Lb]
    rw[e,B6.cell,hy]) (by omega)
   have HF:Hid (bn 294 1 W7 v' (1+3*(k+1)) (Rl S (k+1))/\YtphbledmopchnaaGreatDoor.Own w.heap.size v'/\Below w.heap.size w W7):=
    ⟨by rw[show 1+3*(k+1)=1+3*k+3 by omega];exact O,Z.own hO (by have:=hb.size;omega),hb.trans ((G.mono hb.size).trans (Z.below hO (by have:=hb.size;omega)))⟩
   have Zf:∀args w,(callFunc 241 args).run prog w=.ok (.enter 241 args) w:=enters_of func241 (by kernel_rfl) rfl;have Zg:∀args w,(callFunc 242 args).run prog w=.ok (.enter 242 args) w:=enters_of func242 (by kernel_rfl) rfl;unfold TH at I;subst I;clear hG hO hb G B6 h0 O Z X;go_wp2;generalize 4+k*27=o1 at *
   have HN:=fun y=>zN S o1 y
   have HM:=fun y=>D9 S (o1+14) y
   go_region_held3 (fun _=>True) (trivial) ((first|(refine fT _ (by rfl) _ _ _ _ (by rfl) _ _ (by rfl) (by rfl) _ _ (TI _) ?_)|(refine qg _ (by rfl) 241 _ _ (by rfl) (.pointer (some ⟨S,o1,none⟩)) (by rfl) Zf (HN _) ?_;rintro e y ⟨rfl,rfl⟩;refine⟨_,rfl,?_⟩)|(refine qg _ (by rfl) 242 _ _ (by rfl) (.pointer (some ⟨S,o1+14,none⟩)) (by rfl) Zg (HM _) ?_;rintro e y ⟨rfl,rfl⟩;refine⟨_,rfl,?_⟩)))
   all_goals(
    go_wp2;go_roundw
    case rel=>exact⟨k+1,by omega,by simp,HF.out⟩
    case measure=>simp[intOf];omega)
  ·obtain rfl:k=8:=by omega
   go_wp2;go_ret;exact⟨_,rfl,X.out⟩
end Go.Proofs.YtphbledmopchnaaGreatDoor.Sd
namespace Go.Proofs.YtphbledmopchnaaGreatDoor
open Go.RowKit Go.Lib Go.Shelf Mm Tryz
theorem yE{n:Nat}{fs:List Fr}(h:mW n fs=true):(∀i,i<fs.length->snd (fs.getD i dW)=true)/\n<=aU/\0<fs.length:=by
 unfold mW at h;rw[wz,wz]at h;exact⟨(qQ fs).1 h.1.1,of_decide_eq_true h.1.2,of_decide_eq_true h.2⟩
theorem Ap(n:Nat)(fs:List Fr)(hs:∀i,i<fs.length->snd (fs.getD i dW)=true):∀k,k<=fs.length->bQ n (fs.map norm) k=bQ n fs k
 |0,_=>rfl
 |k+1,h=>by
  rw[bQ,bQ,Ap n fs hs k (by omega),getD_map fs k (by omega),Gv _ (hs k (by omega))]
theorem Qc(n:Nat)(fs:List Fr)(hs:mW n fs=true):mW n (fs.map norm)=true/\bH n (fs.map norm)=bH n fs/\aD n (fs.map norm)=aD n fs:=by
 obtain⟨h1,F,G⟩:=yE hs
 have hb:bH n (fs.map norm)=bH n fs:=by
  unfold bH;rw[DJ];exact Ap n fs h1 _ (jK _)
 refine⟨?_,hb,by unfold aD;rw[hb]⟩;unfold mW;rw[wz,wz];refine⟨⟨(qQ _).2 (fun i hi=>?_),decide_eq_true F⟩,decide_eq_true (by rw[DJ];exact G)⟩;rw[DJ]at hi;rw[getD_map fs i hi];exact xu _ (h1 i hi)
end Go.Proofs.YtphbledmopchnaaGreatDoor
