import Derived.Test.YtphbledmopchnaaGreatDoorLbb
import Derived.Test.YtphbledmopchnaaGreatDoorLcc
open Go.RowKit.Below renaming refl->nA,heap_setCell->nP
open Go.Builtin renaming zeroCells->mY
open Go.Ending renaming returned->qy
open List renaming getElem?_eq_getElem->eB,getD_eq_getElem?_getD->j3,length_take->lg,getElem?_cons_succ->mE,getElem?_cons_zero->mI,mem_filter->mR,drop_eq_getElem_cons->nI,getElem?_append_left->og,any_eq_true->o8,nil_append->qA,take_of_length_le->rX,take_append_drop->sF,getElem?_set_ne->tL,filter_eq_self->tT,getElem_of_mem->uj,filter_append->xB,getElem?_take->xQ,length_append->yP,take_add_one->Cr,filter_nil->CZ,length_set->DU,drop_drop->Ea,mem_cons->Es
open Nat renaming le_refl->eT,lt_of_lt_of_le->mK,add_zero->qx,lt_of_le_of_lt->Bf,zero_add->Ev
open Prod renaming fst->tO
open Go.RowKit renaming intOf->nV
open Go.Value renaming ownBlock->tK
open Go.World renaming block_lt_of_cell?->nU,grownBy_alloc->wz,size_alloc->CP
set_option maxHeartbeats 4000000
set_option maxRecDepth 100000
namespace Go.Proofs.YtphbledmopchnaaGreatDoor.Sd
open Go.RowKit Go.Lib Mm Go.Maps Tryz
section
section
variable (w:World) {ops:Array Oper} {rest:List Oper} {o:Oper} {a:Act} {Q:Exit->Act->World->Prop}
theorem mO(g:o.guard=none)(m:Operand)(e:o.op=Op.range 203 m)(b:Nat)(l:List jA)(i:a.eval m=.map (some b))(h:kR w b l)(f:∀w',tJ w' b w.heap.size l l->w.grownBy w' none->w'.heap.size=w.heap.size+1->wpList prog ops Q rest (a.put o.dst (aI w.heap.size 0)) w'):wpList prog ops Q (o::rest) a w:=by refine wpList_plain g fun p d=>?_;obtain⟨w',c,j,k,n⟩:=h.range;unfold Oper.wp;simp[execOp,e,i,c,Result.andThen];exact d _ _ (f w' j k n)
theorem oq(j:o.guard=none)(it:Operand)(g:o.op=Op.next it false)(b r:Nat)(l lf:List jA)(hit:a.eval it=(aI r 0))(h:tJ w b r l lf)(d:lf=[]->wpList prog ops Q rest (a.put o.dst (.tuple #[.bool false])) w)(e:∀(x:jA) (w':World),x∈lf->x.1<18446744073709551616->tJ w' b r l (lf.filter fun y=> !decide (y.1=x.1))->w'.rangeLeft b r<w.rangeLeft b r->w.grownBy w' (some r)->w'.heap.size=w.heap.size->(Instr.entry (aI r 0)).run prog w'=.ok (.tuple #[uZ x.1,vT x.2]) w'->wpList prog ops Q rest (a.put o.dst (.tuple #[.bool true,uZ x.1,vT x.2])) w'):wpList prog ops Q (o::rest) a w:=by
 refine wpList_plain j fun k f=>?_;unfold Oper.wp;rcases h.next o.type with⟨i,c⟩|⟨x,w',h1,h2,c,h3,h4,h5,h6,h7⟩;·simp[execOp,g,hit,c,Result.andThen];exact f _ _ (d i)
 ·simp[execOp,g,hit,c,Result.andThen];exact f _ _ (e x w' h1 h2 h3 h4 h5 h6 h7)
theorem qB(g:o.guard=none)(m x:Operand)(e:o.op=Op.call {callee:=Callee.builtin Builtin.delete,args:=#[m,x],argTypes:=#[203,43]})(b r:Nat)(l lf:List jA)(i:a.eval m=.map (some b))(h:tJ w b r l lf)(n:Nat)(k:a.eval x=(uZ n))(j:n<18446744073709551616)(f:∀w',tJ w' b r (l.filter fun y=> !decide (y.1=n)) (lf.filter fun y=> !decide (y.1=n))->w'.rangeLeft b r<=w.rangeLeft b r->w.grownBy w' (some b)->wpList prog ops Q rest (a.put o.dst (.tuple #[])) w'):wpList prog ops Q (o::rest) a w:=by refine wpList_plain g fun t d=>?_;obtain⟨w',c,p,q,s⟩:=h.del n j o.type;unfold Oper.wp;simp[execOp,e,resolve,invoke,builtin,i,k,c,Result.andThen];exact d _ _ (f w' p q s)
theorem qD(j:o.guard=none)(m x v:Operand)(f:o.op=Op.mapUpdate 203 m x v)(b:Nat)(l:List jA)(k:a.eval m=.map (some b))(h:kR w b l)(hl:l.length<1000000)(e:jA)(q:a.eval x=(uZ e.1))(p:a.eval v=vT e.2)(i:e.1<18446744073709551616)(n:∀y∈l,y.1≠e.1)(g:∀w',kR w' b (e::l)->w.grownBy w' (some b)->wpList prog ops Q rest (a.put o.dst undef) w'):wpList prog ops Q (o::rest) a w:=by refine wpList_plain j fun t d=>?_;obtain⟨w',c,r,s⟩:=h.put hl e i n;unfold Oper.wp;simp[execOp,f,k,q,p,c,Result.andThen];exact d _ _ (g w' r s)
end


theorem Yc(b:Nat)(l:List jA)(w:World)(h:kR w b l)(hl:l.length<1000000):Calls prog 262 #[.map (some b)] w fun e w'=>e=.returned (.bool (decide (12<=l.length)))/\w'=w:=by have c:=h.len;go_enter func262,ntmps262;go_wp2;go_ret;exact⟨congrArg (fun b=>qy (.bool b)) (decide_eq_decide.2 aj),rfl⟩
theorem xC{l l':List jA}(h:l.Nodup)(b:l'.Nodup)(c:∀x,x∈l↔x∈l'):l.Perm l':=(List.perm_ext_iff_of_nodup h b).2 c
theorem Oc{l l':List jA}(h:l.Nodup)(c:l'.Nodup)(d:∀x,x∈l->x∈l'):l.length<=l'.length:=by
 classical
 have:l.Perm (l'.filter fun x=>decide (x∈l)):=xC h (c.filter _) fun x=>by rw[mR];exact⟨fun b=>⟨d x b,decide_eq_true b⟩,fun b=>of_decide_eq_true b.2⟩
 rw[this.length_eq];exact List.length_filter_le _ _
structure Od (w:World) (b b2 r:Nat) (l:List jA) (want:jA->Bool) (y:World) (cur lf tk:List jA):Prop where
 rg:tJ y b r cur lf
 mp:kR y b2 tk
 cur:∀x,x∈cur↔x∈l/\(x∈lf\/want x=false)
 tk:∀x,x∈tk↔x∈l/\x∉lf/\want x=true
 gr:w.grownBy y (some b)
theorem Od.len{w:World}{b b2 r:Nat}{l:List jA}{want:jA->Bool}{y:World}{cur lf tk:List jA}(h:Od w b b2 r l want y cur lf tk)(hl:l.Nodup):tk.length<=l.length:=
 Oc h.mp.nodup hl fun x c=>((h.tk x).1 c).1
theorem Od.done{w:World}{b b2 r:Nat}{l:List jA}{want:jA->Bool}{y:World}{cur tk:List jA}(h:Od w b b2 r l want y cur [] tk)(hl:l.Nodup):kR y b (l.filter fun x=> !want x)/\kR y b2 (l.filter want):=by
 refine⟨h.rg.map.perm (xC h.rg.map.nodup (hl.filter _) fun x=>?_),h.mp.perm (xC h.mp.nodup (hl.filter _) fun x=>?_)⟩;·rw[h.cur,mR];simp
 ·rw[h.tk,mR];simp
theorem Od.stay{w:World}{b b2 r:Nat}{l:List jA}{want:jA->Bool}{y z:World}{cur lf d tk:List jA}(h:Od w b b2 r l want y cur lf tk)(x:jA)(g:∀y,y∈l->(y∈d↔y∈lf/\y≠x))(i:want x=false)(j:tJ z b r cur d)(k:kR z b2 tk)(m:w.grownBy z (some b)):Od w b b2 r l want z cur d tk:=by
 refine⟨j,k,fun e=>?_,fun e=>?_,m⟩
 ·rw[h.cur];refine and_congr_right fun f=>?_;rw[g e f];by_cases c:e=x;·rw[c];simp[i]
  ·simp[c]
 ·rw[h.tk];refine and_congr_right fun f=>?_;rw[g e f];by_cases c:e=x;·rw[c];simp[i]
  ·simp[c]
theorem Od.go{w:World}{b b2 r:Nat}{l:List jA}{want:jA->Bool}{y z:World}{cur lf n tk:List jA}(h:Od w b b2 r l want y cur lf tk)(C:∀e∈l,∀q∈l,e.1=q.1->e=q)(x:jA)(D:x∈lf)(m:∀y,y∈l->(y∈n↔y∈lf/\y≠x))(s:want x=true)(u:tJ z b r (cur.filter fun e=> !decide (e.1=x.1)) (n.filter fun e=> !decide (e.1=x.1)))(v:kR z b2 (x::tk))(B:w.grownBy z (some b)):Od w b b2 r l want z (cur.filter fun e=> !decide (e.1=x.1)) (n.filter fun e=> !decide (e.1=x.1)) (x::tk):=by
 have i:x∈l:=((h.cur x).1 (h.rg.sub x D)).1;have f:∀e∈l,((!decide (e.1=x.1))=true↔e≠x):=fun e A=>by simp only[Bool.not_eq_true',decide_eq_false_iff_not];exact⟨fun p k=>p (by rw[k]),fun p k=>p (C e A x i k)⟩
 refine⟨u,v,fun e=>?_,fun e=>?_,B⟩
 ·rw[mR,mR,h.cur];constructor;·rintro⟨⟨h1,d⟩,j⟩;refine⟨h1,d.imp (fun c=>⟨(m e h1).2 ⟨c,(f e h1).1 j⟩,j⟩) id⟩
  ·rintro⟨h1,d⟩;rcases d with⟨c,t⟩|c;·exact⟨⟨h1,.inl ((m e h1).1 c).1⟩,t⟩
   ·refine⟨⟨h1,.inr c⟩,(f e h1).2 fun k=>?_⟩;rw[k,s]at c;cases c
 ·rw[Es,h.tk,mR];constructor
  ·rintro(h1|⟨h1,d,j⟩);·rw[h1];exact⟨i,fun d=>((f x i).1 d.2) rfl,s⟩
   ·exact⟨h1,fun c=>d ((m e h1).1 c.1).1,j⟩
  ·rintro⟨h1,d,j⟩;by_cases g:e=x;·exact .inl g
   ·exact .inr ⟨h1,fun c=>d ⟨(m e h1).2 ⟨c,g⟩,(f e h1).2 g⟩,j⟩
theorem fT{w w':World}{b r:Nat}(hb:w'.heap[b]?=w.heap[b]?)(c:w'.heap[r]?=w.heap[r]?):w'.rangeLeft b r=w.rangeLeft b r:=by unfold World.rangeLeft;rw[hb,c]
theorem jI{w w':World}(hb:bJ w w'):w.grownBy w' none:=⟨hb.os,hb.tape,hb.output,hb.size,fun i hi _=>hb.block i hi⟩
theorem gB{w w':World}{b:Nat}{t:TypeId}{l:bO}(hb:bJ w w')(h:aS w b t l):aS w' b t l:=h.of_heap (hb.block b h.lt)
theorem Yd(g:Nat)(p k:Array Value)(b:Nat)(l:List jA)(want:jA->Bool)(w:World)(eg:∀args w,(callFunc g args).run prog w=.ok (.enter g args) w)(h:kR w b l)(hl:l.length<100000)(hw:∀x∈l,∀W:World,w.grownBy W (some b)->Calls prog g (p++(#[uZ x.1,vT x.2]++k)) W fun e W'=>e=.returned (.bool (want x))/\bJ W W'):Calls prog 191 #[.map (some b),.func (.func g) p k] w fun e w'=>e=.returned (.map (some w.heap.size))/\kR w' b (l.filter fun x=> !want x)/\kR w' w.heap.size (l.filter want)/\w.grownBy w' (some b):=by
 have hf:=@run_makeMap prog;have M:=h.nodup;have S:=h.lt;obtain⟨W,N⟩:=bZ (w.alloc (.map #[] 0));have h4:w.grownBy W none:=by rw[N];exact wz _ _ _
 have Y:kR W b l:=h.kept (by rw[N];exact(MapKept.heap_alloc w _).2 b S);have h2:kR W w.heap.size []:=by rw[N];exact kR.made w
 have gQ:W.heap.size=w.heap.size+1:=by rw[N];simp
 go_enter func191,ntmps191;go_wp2_with (first|(at_range;refine mO _ rfl _ rfl b l rfl (by rw[<-N];exact Y) ?_;intro w0 E K h8)|go_in);have e1:(w.alloc (.map #[] 0)).heap.size=w.heap.size+1:=aP;rw[<-N]at K;rw[e1]at E h8 ⊢;go_frame;go_loopw [6] (fun _ wr=>∃cur lf tk:List jA,Hid (Od w b w.heap.size (w.heap.size+1) l want wr cur lf tk)) (fun _ wr=>wr.rangeLeft b (w.heap.size+1));case atStart=>exact⟨l,l,[],(⟨E,h2.kept ((K.block _ aj aP)),fun x=>⟨fun i=>⟨i,.inl i⟩,fun i=>i.1⟩,fun x=>⟨(fun i=>by cases i),fun i=>absurd i.1 i.2.1⟩,(h4.but _).andThen K (fun j q=>by cases q)⟩:Od w b w.heap.size (w.heap.size+1) l want w0 l l [])⟩
 case round=>
  obtain⟨cur,lf,tk,hrel⟩:=hrel;go_wp2_with (first|(at_next;refine oq _ rfl _ rfl b (w.heap.size+1) cur lf rfl hrel.out.rg ?_ ?_)|go_in);·intro h0;go_wp2;go_ret;subst h0;exact⟨rfl,(hrel.out.done M).1,(hrel.out.done M).2,hrel.out.gr⟩
  ·intro I F G xc J w1 i Me f h7 L h9 T;have H:=hrel.out;have h6:tk.length<1000000:=Bf (H.len M) aj;have s:(I,F,G,xc,J)∈l:=((H.cur _).1 (H.rg.sub _ i)).1;obtain⟨D,t⟩:=bZ (w1.alloc (.cells #[.slice F G xc,uZ J] 289));have R:aS D wr.heap.size 289 [.slice F G xc,uZ J]:=by rw[t,<-h9];exact aS.new w1 289 _
   have n:w1.grownBy D none:=by rw[t];exact wz _ _ _
   have v:w.grownBy D (some b):=(H.gr.andThen L (fun j q=>by cases q;exact .inl (Nat.le_succ _))).andThen n (fun j q=>by cases q);have O:=hw _ s D v;have hg:D.heap.size=w1.heap.size+1:=by rw[t];simp
   have V:tJ D b (w.heap.size+1) cur (lf.filter fun y=> !decide (y.1=I)):=f.kept (n.block _ f.map.lt aP) (n.block _ f.lt aP);have z:kR D w.heap.size tk:=H.mp.kept ((n.block _ (mK H.mp.lt L.size) aP).trans (L.block _ H.mp.lt aP));have A:D.rangeLeft b (w.heap.size+1)<wr.rangeLeft b (w.heap.size+1):=by rw[(fT (n.block _ f.map.lt aP) (n.block _ f.lt aP))];exact h7
   have m:∀y,y∈l->(y∈(lf.filter fun y=> !decide (y.1=I))↔y∈lf/\y≠(I,F,G,xc,J)):=fun y X=>by rw[mR];refine and_congr_right fun _=>?_;simp only[Bool.not_eq_true',decide_eq_false_iff_not];exact⟨fun B e=>B (by rw[e]),fun B e=>B (h.inj X s e)⟩
   cases r:want (I,F,G,xc,J)
   ·rw[r]at O;have C:=aG (dB s (dB m (dB r i)));have d:=aG (dB v (dB V (dB z A)));clear s m r i v V z A;simp only[vT]at T O ⊢;go_wp2_with (first|(go_at_fn g;rw[<-t];refine bN O ?_;rintro w2 c)|go_in);go_roundw;case rel=>exact⟨cur,_,tk,(H.stay _ C.out.2.1 C.out.2.2.1 (d.out.2.1.kept (c.block _ d.out.2.1.map.lt) (c.block _ d.out.2.1.lt)) (d.out.2.2.1.kept (c.block _ d.out.2.2.1.lt)) (d.out.1.andThen (jI c) (fun j q=>by cases q)):Od _ _ _ _ _ _ _ _ _ _)⟩
    case measure=>rw[fT (c.block _ d.out.2.1.map.lt) (c.block _ d.out.2.1.lt)];exact d.out.2.2.2
   ·rw[r]at O;have C:=aG (dB s (dB m (dB r i)));have d:=aG (dB v (dB V (dB z A)));clear s m r i v V z A;simp only[vT]at T O ⊢;go_wp2_with (first|(go_at_fn g;rw[<-t];refine bN O ?_;rintro w2 c;have y0:w2.cell? (aB wr.heap.size 0)=some (.slice F G xc):=(gB c R).cell 0;have y1:w2.cell? (aB wr.heap.size 1)=some (uZ J):=(gB c R).cell 1)|(at_mapUpdate;refine qD _ rfl _ _ _ rfl w.heap.size tk rfl (d.out.2.2.1.kept (c.block _ d.out.2.2.1.lt)) h6 (I,F,G,xc,J) rfl rfl Me (fun y X e=>((H.tk y).1 X).2.1 (by rw[h.inj ((H.tk y).1 X).1 C.out.1 e];exact C.out.2.2.2)) ?_;intro w3 P u)|(at_delete;refine qB _ rfl _ _ rfl b (w.heap.size+1) cur _ rfl (((d.out.2.1.kept (c.block _ d.out.2.1.map.lt) (c.block _ d.out.2.1.lt)).kept (u.block _ (mK d.out.2.1.map.lt c.size) (by simp;omega)) (u.block _ (mK d.out.2.1.lt c.size) aP))) I rfl Me ?_;intro w4 Z h5 U;go_frame)|go_in);have ha:=d.out.2.1.kept (c.block _ d.out.2.1.map.lt) (c.block _ d.out.2.1.lt);have B:w.heap.size≠b:=aj;refine⟨⟨_,_,_,(H.go (fun e he e' h3=>h.inj he h3) (I,F,G,xc,J) C.out.2.2.2 C.out.2.1 C.out.2.2.1 Z (P.kept (U.block _ P.lt (by simp;omega))) ((d.out.1.andThen (jI c) (fun j q=>by cases q)).andThen u (fun j q=>by cases q;exact .inl (eT _)) |>.andThen U (fun j q=>by cases q;exact .inr rfl)):Od _ _ _ _ _ _ _ _ _ _)⟩,?_⟩;refine Bf h5 ?_;rw[fT (u.block _ (mK d.out.2.1.map.lt c.size) (by simp;omega)) (u.block _ (mK d.out.2.1.lt c.size) aP),fT (c.block _ d.out.2.1.map.lt) (c.block _ d.out.2.1.lt)];exact d.out.2.2.2
end
end Go.Proofs.YtphbledmopchnaaGreatDoor.Sd
namespace Go.Proofs.YtphbledmopchnaaGreatDoor.Sd
open Go.RowKit Go.Lib Mm Tryz
abbrev gG(f:Fr)(rv:Value):bO:=[iZ f.aC,iZ f.aH,uZ f.aD,uZ f.aV,uZ f.aL,.bool f.bn,uZ f.id,uZ f.aW,.string f.data,rv]
abbrev pJ:bO:=[iZ 0,iZ 0,uZ 0,uZ 0,uZ 0,.bool false,uZ 0,uZ 0,.string ⟨#[]⟩,nZ]
theorem Gg{w:World}{b:Nat}{t:TypeId}{f:Fr}{ra:Option Addr}{rc:Nat}(hB:aS w b t (gG f (.slice ra f.ranges.length rc)))(a:lM f)(c:jg w ra f.ranges):nX w b 0 f ra rc:=
 ⟨hB.cell 0,hB.cell 1,hB.cell 2,hB.cell 3,hB.cell 4,hB.cell 5,hB.cell 6,hB.cell 7,hB.cell 8,hB.cell 9,c,a.Bv,a.Bw,a.k0,a.s0,a.u0⟩
structure Jb (w:World) (f:Fr) (ra:Option Addr) (rc:Nat):Prop where
 snd:snd f=true
 ok:lM f
 rT:jg w ra f.ranges
 cap:f.ranges.length<=rc
 lt:∀x,ra=some x->x.block<w.heap.size
 len:(bD f).length<=1000000
theorem Jb.below{w w':World}{f:Fr}{ra:Option Addr}{rc:Nat}(h:Jb w f ra rc)(hb:bJ w w'):Jb w' f ra rc:=
 ⟨h.snd,h.ok,h.rT.below hb,h.cap,fun x a=>mK (h.lt x a) hb.size,h.len⟩
theorem xw(f:Fr)(ra:Option Addr)(rc:Nat)(w:World)(h:Jb w f ra rc):Calls prog 210 #[fM f (.slice ra f.ranges.length rc)] w fun e w'=>e=.returned (iZ ((bD f).length:Int))/\bJ w w':=by
 obtain⟨W,q⟩:=bZ (w.alloc (.cells (gG f (.slice ra f.ranges.length rc)).toArray 65));have hb:aS W w.heap.size 65 (gG f (.slice ra f.ranges.length rc)):=by rw[q];exact aS.new w 65 _
 have d:bJ w W:=by rw[q];exact(nA _ w).alloc (eT _) _
 have gQ:W.heap.size=w.heap.size+1:=by rw[q];simp
 have b:=h.below d;have hF:=Gg hb b.ok b.rT;obtain⟨_,s,C,_⟩:=qU f h.snd;have c0:W.cell? (aB w.heap.size 0)=some (iZ f.aC):=hb.cell 0;have E:=aG (qX _ s C W);have t:∀(wl:World) (l fr:Value),I6 (W.heap.size+1) wl f.aC l fr->bJ W wl->∃g cb,l=.func (.func g) #[] cb/\(∀args w,(callFunc g args).run prog w=.ok (.enter g args) w)/\Calls prog g (#[nZ,aI w.heap.size 0]++cb) wl fun e w'=>∃a c,e=.returned (.slice a (bD f).length c)/\bJ w w':=by
  intro wl l fr p i;obtain⟨g,cb,h1,H,I⟩:=N8 f p h.snd w.heap.size 0 ra rc h.cap;refine⟨g,cb,h1,H,?_⟩;have M:=i.size;have hl:=h.len;refine(I wl nZ [] ⟨⟨eT _,fun _ _ _=>rfl⟩,kL.nil wl,fun j L=>by simp[tK]at L,hF.below i,by simp[tK],fun x B=>by simp[tK],fun x B=>bV (b.lt x B)⟩ (by simp;omega)).mono ?_;rintro e w' ⟨v',rfl,m,v⟩;rw[qA]at m;have r:bJ w w':=(d.trans (i.mono aj)).trans (v.below (Own.nil _) aj);rcases m with⟨rfl,J⟩|⟨g',cap,cs,rfl,_⟩;·exact⟨none,0,by rw[J];rfl,r⟩
  ·exact⟨_,_,rfl,r⟩
 have k:=aG t;clear t hb d b hF h s C;generalize (bD f).length=n at *
 unfold fM;unfold gG at q;go_enter func210,ntmps210;go_wp2_with fail;rw[<-q];refine E.out.mono ?_;rintro e wl ⟨l,fr,rfl,p,i⟩;obtain⟨_,_,G,F,_,y⟩:=p.shape;subst y;obtain⟨g,cb,z,N,A⟩:=k.out wl l _ p i;subst z;have D:=aG A;have K:=qdd g G cb F;clear A p i k;go_wp2_with fail;refine D.out.mono ?_;rintro e w' ⟨a,c,rfl,o⟩;have u:=aG o;clear o;go_wp2;go_ret;exact⟨rfl,u.out⟩
theorem BN(n:Nat)(w:World)(h:n<4611686018427387904):Calls prog 211 #[nZ,uZ n] w fun e w'=>∃a c,e=.returned (.slice a (Num.ay n).length c)/\bJ w w':=by
 refine(eU nZ [] n w (kL.nil w) h aP).mono ?_;rintro e w' ⟨v',rfl,b,f⟩;rw[qA]at b;have d:bJ w w':=f.below (Own.nil _) (eT _);rcases b with⟨rfl,g⟩|⟨g',cap,cs,rfl,_⟩;·exact⟨none,0,by rw[g];rfl,d⟩
 ·exact⟨_,_,rfl,d⟩
theorem ig{a b:Int}(h:a=b):qy (iZ a)=.returned (iZ b):=by rw[h]
theorem iR(n:Nat):1<=(Num.ay n).length/\(Num.ay n).length<=8:=by
 rw[Num.gy];unfold Num.code;repeat' split
 all_goals decide
theorem TL(bG n:Nat)(w:World)(l:bG<=400)(g:n<4611686018427387904):Calls prog 157 #[iZ bG,uZ n] w fun e w'=>e=.returned (iZ ((bG:Int)-((Num.ay n).length:Int)-4))/\bJ w w':=by
 have f:=aG (BN n w g);have hb:=iR n;generalize (Num.ay n).length=k at *
 have h1:(bG:Int)-(k:Int)<9223372036854775808:=aj;have h: -9223372036854775808<=(bG:Int)-(k:Int):=aj;have i:(bG:Int)-(k:Int)-4<9223372036854775808:=aj;have j: -9223372036854775808<=(bG:Int)-(k:Int)-4:=aj;go_enter func157,ntmps157;go_wp2_with fail;refine f.out.mono ?_;rintro e w' ⟨a,c,rfl,b⟩;have d:=aG b;clear b;go_wp2;go_ret;exact⟨rfl,d.out⟩
theorem TM(w:World)(a:Option Addr)(l:List UInt8)(c:Nat)(h:dV w a l)(d:a=none->l=[]):(convert 60 9 (.slice a l.length c)).run prog w=.ok (.string ⟨l.toArray⟩) w:=by
 cases a with
 |none=>obtain rfl:=d rfl;show(convert 60 9 (.slice none 0 c)).run prog w=_;rw[run_convert_bytes_string w 60 9 5 none 0 c u29 bH u9];simp[Conv.bytesToString];rfl
 |some x=>exact run_convert_bytes_back (P:=prog) w 60 9 5 x c l u29 bH u9 (fun j e=>by obtain⟨b,off,f,h1⟩:=h j e;cases f;rw[Addr.add_lit];exact h1)
theorem bL{y:World}{R:Nat}{t:TypeId}{a b c v3 d e f g i v9:Value}(h:aS y R t [a,b,c,v3,d,e,f,g,i,v9]):y.cell? (aB R 0)=some a/\y.cell? (aB R 1)=some b/\y.cell? (aB R 2)=some c/\y.cell? (aB R 3)=some v3/\y.cell? (aB R 4)=some d/\y.cell? (aB R 5)=some e/\y.cell? (aB R 6)=some f/\y.cell? (aB R 7)=some g/\y.cell? (aB R 8)=some i/\y.cell? (aB R 9)=some v9/\∀j,y.frozen? (aB R j)=false:=
 ⟨h.cell 0,h.cell 1,h.cell 2,h.cell 3,h.cell 4,h.cell 5,h.cell 6,h.cell 7,h.cell 8,h.cell 9,fun j=>h.frozen j⟩
def kX(x:Option Fr):Value:=match x with
 |none=>.tuple #[fM iM nZ,.bool false]
 |some g=>.tuple #[fM g nZ,.bool true]
theorem dV.take{w:World}{a:Option Addr}{l:List UInt8}(h:dV w a l)(n:Nat):dV w a (l.take n):=fun j d=>by obtain⟨b,off,h1,c⟩:=h j (by simp at d;omega);exact⟨b,off,h1,by rw[c];simp⟩
theorem dV.below'{w w':World}{a:Option Addr}{l:List UInt8}(h:dV w a l)(hb:bJ w w'):dV w' a l:=fun j d=>by obtain⟨b,off,h1,c⟩:=h j d;exact⟨b,off,h1,(hb.cell (p:=(aB b (off+j))) (nU _ _ c)).trans c⟩
theorem Jc(f:Fr)(a:Option Addr)(bs:List UInt8)(c:Nat)(au:Int)(w:World)(hF:Jb w f none 0)(hr:f.ranges=[])(hb:dV w a bs)(hn:a=none->bs=[])(hl:bs.length<=4096)(h2:bs.length<=c)(q: -1000000<=au/\au<=1000000):Calls prog 316 #[fM f nZ,.slice a bs.length c,iZ au] w fun e w'=>e=.returned (kX (mZ f bs au))/\bJ w w':=by
 obtain⟨W,m⟩:=bZ ((w.alloc (.cells (gG f nZ).toArray 65)).alloc (.cells (pJ).toArray 65));have h:aS W w.heap.size 65 (gG f nZ):=by rw[m];exact(aS.new w 65 _).alloc _
 have i:aS W (w.heap.size+1) 65 pJ:=by rw[m];have:=aS.new (w.alloc (.cells (gG f nZ).toArray 65)) 65 pJ;rwa[CP]at this
 have g:bJ w W:=by rw[m];exact((nA _ w).alloc (eT _) _).alloc aP _
 have gQ:W.heap.size=w.heap.size+2:=by rw[m];simp
 have Y:=xw f none 0 W (hF.below g);rw[hr]at Y;have I:=aG Y;have B:=hF.len;have s:Hid (mZ f bs au=if au<((bD f).length:Int)then none else some {f with data:=⟨(bs.take (min (min bs.length (au-((bD f).length:Int)).toNat) ((au-((bD f).length:Int)).toNat-((Num.ay (min bs.length (au-((bD f).length:Int)).toNat)).length-1)))).toArray⟩}):=rfl;generalize mZ f bs au=X at *
 generalize (bD f).length=n at *
 obtain⟨x0,x1,x2,x3,x4,x5,x6,x7,x8,x9,xf⟩:=bL h;have H:=aG (dB h (dB i g));clear h i g hF Y;have r1: -9223372036854775808<=au-(n:Int):=aj;have r2:au-(n:Int)<9223372036854775808:=aj;by_cases p:au<(n:Int)
 ·have HX:Hid (X=none):=by unfold Hid;rw[s.out,bK p]
  have g1:au-(n:Int)<0:=aj;clear s p;unfold fM;unfold gG pJ at m;go_enter func316,ntmps316;go_wp2_with fail;rw[<-m];refine bN I.out ?_;rintro y l;obtain⟨h,i,g⟩:=H.out;have b:=i.of_heap (l.block _ aj);obtain⟨y0,y1,y2,y3,y4,y5,y6,y7,y8,y9,yf⟩:=bL b;have F:=aG (dB b (g.trans (l.mono aj)));clear l h i g b m;go_wp2_with fail;rw[gT];have kr:=gI F.out.1 (iZ 0) (iZ 0) (uZ 0) (uZ 0) (uZ 0) (.bool false) (uZ 0) (uZ 0) (.string ⟨#[]⟩) nZ;have qZ:=gJ y (w.heap.size+1) (iZ 0) (iZ 0) (uZ 0) (uZ 0) (uZ 0) (.bool false) (uZ 0) (uZ 0) (.string ⟨#[]⟩) nZ;generalize kF y (w.heap.size+1) (iZ 0) (iZ 0) (uZ 0) (uZ 0) (uZ 0) (.bool false) (uZ 0) (uZ 0) (.string ⟨#[]⟩) nZ=Wf at *
  obtain⟨J,K,L,M,N,O,P,Q,R,S,_⟩:=bL kr;exact bodyPost_ret (v:=kX X) (by rw[HX.out];simp[results,results316,go_sem,J,K,L,M,N,O,P,Q,R,S,fM,kX,iM]) rfl ⟨rfl,qZ.below F.out.2 aj⟩
 ·obtain⟨r,h4⟩:∃r:Nat,au-(n:Int)=r:=⟨(au-(n:Int)).toNat,aj⟩;have C:(au-(n:Int)).toNat=r:=aj;rw[aU p,C]at s;obtain⟨m1,h9,h6⟩:=TK (bs.length:Int) (au-(n:Int));obtain⟨k,hk⟩:=bZ (min bs.length r:Nat);obtain rfl:m1=(k:Int):=aj;have Z:=iR k;have h0:(Num.ay k).length=1\/64<=k:=by
   by_cases T:k<64;·left;rw[Num.gy];unfold Num.code;rw[bK T]
   ·exact .inr aj
  have HN:=fun y=>aG (BN k y aj);rw[<-hk]at s;generalize (Num.ay k).length=d at *
  obtain⟨m2,ha,h7⟩:=TK (k:Int) (au-(n:Int)-((d:Int)-1));obtain⟨j,hj⟩:=bZ (min k (r-(d-1)):Nat);obtain rfl:m2=(j:Int):=aj;rw[<-hj]at s;have x:Hid (∀y,bJ w y->(convert 60 9 (.slice a j c)).run prog y=.ok (.string ⟨(bs.take j).toArray⟩) y):=fun y hy=>by
   have h3:(bs.take j).length=j:=by simp;omega
   have:=TM y a (bs.take j) c (dV.below' (dV.take hb j) hy) (fun e=>by rw[hn e];simp);rwa[h3]at this
  generalize (⟨(bs.take j).toArray⟩:ByteArray)=D at *
  have g1:¬(au-(n:Int)<0):=aj;have g2:(j:Int)<=(c:Int):=aj;have g3:(j:Int)<=(bs.length:Int):=aj;have g4: -9223372036854775808<=au-(n:Int)-((d:Int)-1):=aj;have g5:au-(n:Int)-((d:Int)-1)<9223372036854775808:=aj;have g6: -9223372036854775808<=(d:Int)-1:=aj;have g7:(d:Int)-1<9223372036854775808:=aj;have g8:k<18446744073709551616:=aj;clear h4 p C Z hl h2 q B h6 h7 hk hj h0 hb hn;unfold fM;unfold gG pJ at m;go_enter func316,ntmps316;go_wp2_with fail;rw[<-m];refine bN I.out ?_;rintro y l;obtain⟨h,i,g⟩:=H.out;have t:=h.of_heap (l.block _ aj);have b:=i.of_heap (l.block _ aj);have E:=g.trans (l.mono aj);have A:=HN y;have F:=aG (dB t (dB b E));have h5:=l.size;clear l h i g t b E I HN m x0 x1 x2 x3 x4 x5 x6 x7 x8 x9 xf H;go_wp2_with fail;refine A.out.mono ?_;rintro e z ⟨a',c',rfl,o⟩;obtain⟨h,i,g⟩:=F.out;have t:=h.of_heap (o.block _ aj);have b:=i.of_heap (o.block _ aj);have G:=g.trans (o.mono aj);have h8:=x.out z G;obtain⟨x0,x1,x2,x3,x4,x5,x6,x7,x8,x9,xf⟩:=bL t;obtain⟨y0,y1,y2,y3,y4,y5,y6,y7,y8,y9,yf⟩:=bL b;have u:=aG (dB t (dB b G));clear o h i g t b G x A F h5;go_wp2_with fail;rw[gT];have U:=u.out.2.1.of_heap (nP z (aB w.heap.size 8) (.string D) (w.heap.size+1) aP);have V:bJ w (z.setCell (aB w.heap.size 8) (.string D)):=((nE.refl w.heap.size z).set 8 (.string D)).below u.out.2.2 (eT _);have kr:=gI U (iZ f.aC) (iZ f.aH) (uZ f.aD) (uZ f.aV) (uZ f.aL) (.bool f.bn) (uZ f.id) (uZ f.aW) (.string D) nZ;have qZ:=gJ (z.setCell (aB w.heap.size 8) (.string D)) (w.heap.size+1) (iZ f.aC) (iZ f.aH) (uZ f.aD) (uZ f.aV) (uZ f.aL) (.bool f.bn) (uZ f.id) (uZ f.aW) (.string D) nZ;generalize kF (z.setCell (aB w.heap.size 8) (.string D)) (w.heap.size+1) (iZ f.aC) (iZ f.aH) (uZ f.aD) (uZ f.aV) (uZ f.aL) (.bool f.bn) (uZ f.id) (uZ f.aW) (.string D) nZ=Wf at *
  obtain⟨J,K,L,M,N,O,P,Q,R,S,_⟩:=bL kr;exact bodyPost_ret (v:=kX X) (by rw[s.out];simp[results,results316,go_sem,J,K,L,M,N,O,P,Q,R,S,fM,kX]) rfl ⟨rfl,qZ.below V aj⟩
theorem qL(n:Nat):(Num.ay n).length<=8:=(iR n).2
theorem CB(w:World)(f:Fr)(hs:snd f=true)(b:f.ranges=[])(hd:f.data.size<=4096)(hl:(bD f).length<=1000000):Jb w f none 0:=by
 obtain⟨⟨s0,s8,n0,n1,n2,n3,n4⟩,k1,d,_⟩:=qU f hs;unfold dK at *
 exact⟨hs,⟨by rw[b];simp,aj,aj,aj,aj,fun j a=>by rw[b]at a;simp at a⟩,fun j a=>by rw[b]at a;simp at a,by rw[b];simp,(fun x c=>by cases c),hl⟩
theorem YL(w:World)(aC:Int)(a:aC=5\/aC=6)(k:Nat)(e:k<8)(x:Nat)(c:x<=dK):Jb w (jO aC k x) none 0:=by
 have b:(0:Nat)<=dK:=iO;refine CB w _ ?_ rfl (by show(0:Nat)<=4096;decide) ?_;·rcases a with rfl|rfl<;>simp[snd,pQ,l7,jO,c,b]<;>omega
 ·have h1:=qL k;have d:=qL x;rcases a with rfl|rfl;·simp[bD,dJ,jO,eF,dH,fieldAt];omega
  ·simp[bD,dJ,jO,eF,dH,fieldAt];omega
abbrev grL(aC:Int)(k:Nat)(x:Int):bO:=[iZ aC,iZ k,uZ 0,uZ 0,uZ x,.bool false,uZ 0,uZ 0,.string ⟨#[]⟩,nZ]
theorem Oz(S o:Nat)(g:Gn)(aC:Int)(hk:aC=5\/aC=6)(k:Nat)(h8:k<8)(aQ:Nat)(au:Int)(w:World)(l:bO)(hB:aS w S TS l)(h:vX l o g)(hg:g.ahead<=4096)(hf:aQ<=dK):Calls prog 254 #[aI S o,fM (jO aC k 0) nZ,uZ aQ,iZ au] w fun e w'=>
   e=.returned (kX ((g.next aC k aQ au).map tO))/\∃l',gM w w' S l l' o 4/\vX l' o (((g.next aC k aQ au).map Prod.snd).getD g):=by
 obtain⟨L,G⟩:=bZ (g.iB aQ);have H:L<=dK:=by rw[G];unfold Gn.iB;omega
 obtain⟨W,m⟩:=bZ ((w.alloc (.cells (grL aC k 0).toArray 65)).alloc (.cells (pJ).toArray 65));have p:aS W w.heap.size 65 (grL aC k 0):=by rw[m];exact(aS.new w 65 _).alloc _
 have J:aS W (w.heap.size+1) 65 pJ:=by rw[m];have:=aS.new (w.alloc (.cells (grL aC k 0).toArray 65)) 65 pJ;rwa[CP]at this
 have q:bJ w W:=by rw[m];exact((nA _ w).alloc (eT _) _).alloc aP _
 have gQ:W.heap.size=w.heap.size+2:=by rw[m];simp
 have F:aS W S TS l:=hB.of_heap (q.block _ hB.lt);have r:=aG (I_ S o g aQ W l F h hg hf);rw[<-G]at r;obtain⟨A,f⟩:=bZ (W.setCell (aB w.heap.size 4) (uZ L));have j:aS A w.heap.size 65 (grL aC k L):=by rw[f];exact p.setCell 4 _
 have a:aS A (w.heap.size+1) 65 pJ:=by rw[f];exact J.of_heap (nP _ _ _ _ aP)
 have i:bJ w A:=by rw[f];exact((nE.refl w.heap.size W).set 4 _).below q (eT _)
 have h0:A.heap.size=w.heap.size+2:=by rw[f];simpa using gQ
 have zL:=aG (xw _ none 0 A (YL A aC hk k h8 L H));have P:Hid (g.next aC k aQ au=if au<((bD (jO aC k L)).length:Int)then none else some (jO aC k L,({g with dW:=L}:Gn).aw L)):=by unfold Hid;rw[G];rfl
 generalize g.next aC k aQ au=X at *
 generalize hn:(bD (jO aC k L)).length=n at *
 have B:=aG (dB hB (dB h G));obtain⟨x0,x1,x2,x3,x4,x5,x6,x7,x8,x9,xf⟩:=bL p;have U:=aG (dB j (dB a i));have El:=hB.lt;clear p J q F hB h j a i hg hf H G;unfold fM jO;unfold grL pJ at m;by_cases N:au<(n:Int)
 ·have C:Hid (X=none):=by unfold Hid;rw[P.out,bK N]
  clear P;go_enter func254,ntmps254;go_wp2_with fail;rw[<-m];refine bN r.out ?_;rintro y rfl;obtain⟨j,a,i⟩:=U.out;obtain⟨u0,u1,u2,u3,u4,u5,u6,u7,u8,u9,uf⟩:=bL j;have V:=aG (dB a i);clear m j a i;go_wp2_with fail;rw[<-f];refine bN zL.out ?_;rintro z b;obtain⟨a,i⟩:=V.out;have x:=a.of_heap (b.block _ aj);have u:=i.trans (b.mono aj);obtain⟨y0,y1,y2,y3,y4,y5,y6,y7,y8,y9,yf⟩:=bL x;have Q:=aG (dB x u);clear b a i x u u0 u1 u2 u3 u4 u5 u6 u7 u8 u9 uf x0 x1 x2 x3 x4 x5 x6 x7 x8 x9 xf;go_wp2_with fail;rw[gT];have kr:=gI Q.out.1 (iZ 0) (iZ 0) (uZ 0) (uZ 0) (uZ 0) (.bool false) (uZ 0) (uZ 0) (.string ⟨#[]⟩) nZ;have qZ:=gJ z (w.heap.size+1) (iZ 0) (iZ 0) (uZ 0) (uZ 0) (uZ 0) (.bool false) (uZ 0) (uZ 0) (.string ⟨#[]⟩) nZ;generalize kF z (w.heap.size+1) (iZ 0) (iZ 0) (uZ 0) (uZ 0) (uZ 0) (.bool false) (uZ 0) (uZ 0) (.string ⟨#[]⟩) nZ=Wf at *
  obtain⟨a0,a1,a2,a3,a4,a5,a6,a7,a8,a9,_⟩:=bL kr;refine bodyPost_ret (v:=kX (X.map tO)) (by rw[C.out];simp[results,results254,go_sem,a0,a1,a2,a3,a4,a5,a6,a7,a8,a9,fM,kX,iM]) rfl ⟨rfl,l,(gM.refl B.out.1 o 4).iW (qZ.below Q.out.2 aj),?_⟩;rw[C.out];exact B.out.2.1
 ·have C:Hid (X=some (jO aC k L,({g with dW:=L}:Gn).aw L)):=by unfold Hid;rw[P.out,aU N]
  clear P;go_enter func254,ntmps254;go_wp2_with fail;rw[<-m];refine bN r.out ?_;rintro y rfl;obtain⟨j,a,i⟩:=U.out;obtain⟨u0,u1,u2,u3,u4,u5,u6,u7,u8,u9,uf⟩:=bL j;clear m j a i;go_wp2_with fail;rw[<-f];refine bN zL.out ?_;rintro z b;obtain⟨j,a,i⟩:=U.out;have s:=j.of_heap (b.block _ aj);have x:=a.of_heap (b.block _ aj);have u:=i.trans (b.mono aj);have R:=B.out.1.of_heap (u.block _ El);have c:=(Gn.st S o g z l R B.out.2.1).1 L;have h6:=b.size;obtain⟨Z,I⟩:=bZ (z.setCell (aB S (o+1)) (uZ L));rw[<-I]at c;have D:aS Z w.heap.size 65 _:=s.of_heap (by rw[I];exact nP _ _ _ _ (by simp;omega));have E:aS Z (w.heap.size+1) 65 _:=x.of_heap (by rw[I];exact nP _ _ _ _ (by simp;omega));have h3:Z.heap.size=z.heap.size:=by rw[I];simp
  have T:=aG (Gf S o {g with dW:=L} (jO aC k L) nZ Z _ c.1.cZ c.2);have c1:z.cell? (aB S (o+1))=some (uZ g.dW):=by rw[R.cell];exact B.out.2.1.c1
  have f1:=R.frozen (o+1);obtain⟨v0,v1,v2,v3,v4,v5,v6,v7,v8,v9,vf⟩:=bL s;have h4:¬(S=w.heap.size):=aj;have h5:¬(w.heap.size=S):=aj;have Q:=aG (dB D (dB E (dB c u)));clear b j a i s x u R c u0 u1 u2 u3 u4 u5 u6 u7 u8 u9 uf x0 x1 x2 x3 x4 x5 x6 x7 x8 x9 xf D E;go_wp2_with fail;rw[<-I];refine bN T.out ?_;rintro y ⟨l',d,K⟩;obtain⟨D,E,c,M⟩:=Q.out;have O:=d.other D aj;have t:=d.other E aj;obtain⟨x0,x1,x2,x3,x4,x5,x6,x7,x8,x9,xf⟩:=bL O;obtain⟨y0,y1,y2,y3,y4,y5,y6,y7,y8,y9,yf⟩:=bL t;have Y:=aG (dB t (dB (gM.after M (c.1.trans d)) K));clear d K D E c M O t v0 v1 v2 v3 v4 v5 v6 v7 v8 v9 vf;go_wp2_with fail;rw[gT];have kr:=gI Y.out.1 (iZ aC) (iZ k) (uZ 0) (uZ 0) (uZ L) (.bool false) (uZ 0) (uZ 0) (.string ⟨#[]⟩) nZ;have qZ:=gJ y (w.heap.size+1) (iZ aC) (iZ k) (uZ 0) (uZ 0) (uZ L) (.bool false) (uZ 0) (uZ 0) (.string ⟨#[]⟩) nZ;generalize h2:kF y (w.heap.size+1) (iZ aC) (iZ k) (uZ 0) (uZ 0) (uZ L) (.bool false) (uZ 0) (uZ 0) (.string ⟨#[]⟩) nZ=Wf at *
  obtain⟨a0,a1,a2,a3,a4,a5,a6,a7,a8,a9,_⟩:=bL kr;refine bodyPost_ret (v:=kX (X.map tO)) (by rw[C.out];simp[results,results254,go_sem,a0,a1,a2,a3,a4,a5,a6,a7,a8,a9,fM,kX,jO]) rfl ⟨rfl,l',Y.out.2.1.tch qZ aj aj,?_⟩;rw[C.out];exact Y.out.2.2
theorem Nt.st(S o:Nat)(g:Nt)(w:World)(l:bO)(hB:aS w S TS l)(h:D_ l o g):(∀x:Nat,gM w (w.setCell (aB S (o+2)) (uZ x)) S l (l.set (o+2) (uZ x)) o 4/\D_ (l.set (o+2) (uZ x)) o {g with cK:=x})/\(∀x:Nat,gM w (w.setCell (aB S (o+3)) (uZ x)) S l (l.set (o+3) (uZ x)) o 4/\D_ (l.set (o+3) (uZ x)) o {g with aM:=x}):=
 ⟨fun x=>⟨gM.one hB _ _ _ _ aj aj,by rw[aA _ _ _ _ aj,h.c0],by rw[aA _ _ _ _ aj,h.c1],dG _ _ _ _ h.c2,by rw[aA _ _ _ _ aj,h.c3]⟩,fun x=>⟨gM.one hB _ _ _ _ aj aj,by rw[aA _ _ _ _ aj,h.c0],by rw[aA _ _ _ _ aj,h.c1],by rw[aA _ _ _ _ aj,h.c2],dG _ _ _ _ h.c3⟩⟩
theorem YH(S o:Nat)(g:Nt)(w:World)(l:bO)(hB:aS w S TS l)(h:D_ l o g):Calls prog 395 #[aI S o] w fun e w'=>e=.returned (.tuple #[])/\∃l',gM w w' S l l' o 4/\D_ l' o g.j5:=by
 have c2:w.cell? (aB S (o+2))=some (uZ g.cK):=by rw[hB.cell];exact h.c2
 have f2:=hB.frozen (o+2);have a:=aG ((Nt.st S o g w l hB h).1 18446744073709551615);rw[show((18446744073709551615:Nat):Int)=18446744073709551615 from rfl]at a;clear h hB;go_enter func395,ntmps395;go_wp2;go_end0;exact⟨rfl,_,a.out⟩
theorem YI(S o:Nat)(g:Nt)(f:Fr)(rv:Value)(w:World)(l:bO)(hB:aS w S TS l)(h:D_ l o g):Calls prog 342 #[aI S o,fM f rv] w fun e w'=>e=.returned (.tuple #[])/\∃l',gM w w' S l l' o 4/\D_ l' o (g.aw f.aV):=by
 obtain⟨m,n,b⟩:=min2 g.cK f.aV;have j:Hid (g.aw f.aV={g with cK:=m}):=by unfold Hid;rw[b];rfl
 obtain⟨W,c⟩:=bZ (w.alloc (.cells (gG f rv).toArray 65));have hb:aS W w.heap.size 65 (gG f rv):=by rw[c];exact aS.new w 65 _
 have a:aS W S TS l:=by rw[c];exact hB.alloc _
 have i:bJ w W:=by rw[c];exact(nA _ w).alloc (eT _) _
 have d:=aG ((Nt.st S o g W l a h).1 m);have p:W.cell? (aB w.heap.size 3)=some (uZ f.aV):=hb.cell 3;have c2:W.cell? (aB S (o+2))=some (uZ g.cK):=by rw[a.cell];exact h.c2
 have f2:=a.frozen (o+2);have k:=aG i;clear h hB hb a i b;unfold fM;unfold gG at c;go_enter func342,ntmps342;go_wp2_with fail;rw[<-c];clear c;go_region
 all_goals go_wp2
 all_goals go_end0
 all_goals exact⟨rfl,_,gM.after k.out d.out.1.drew,by rw[j.out];exact d.out.2⟩
theorem YJ(S o:Nat)(g:Nt)(f:Fr)(rv:Value)(w:World)(l:bO)(hB:aS w S TS l)(h:D_ l o g):Calls prog 394 #[aI S o,fM f rv] w fun e w'=>e=.returned (.tuple #[])/\∃l',gM w w' S l l' o 4/\D_ l' o (g.cm f.aV):=by
 obtain⟨m,n,b⟩:=min2 g.aM f.aV;have j:Hid (g.cm f.aV={g with aM:=m}):=by unfold Hid;rw[b];rfl
 obtain⟨W,c⟩:=bZ (w.alloc (.cells (gG f rv).toArray 65));have hb:aS W w.heap.size 65 (gG f rv):=by rw[c];exact aS.new w 65 _
 have a:aS W S TS l:=by rw[c];exact hB.alloc _
 have i:bJ w W:=by rw[c];exact(nA _ w).alloc (eT _) _
 have d:=aG ((Nt.st S o g W l a h).2 m);have p:W.cell? (aB w.heap.size 3)=some (uZ f.aV):=hb.cell 3;have c2:W.cell? (aB S (o+3))=some (uZ g.aM):=by rw[a.cell];exact h.c3
 have f2:=a.frozen (o+3);have k:=aG i;clear h hB hb a i b;unfold fM;unfold gG at c;go_enter func394,ntmps394;go_wp2_with fail;rw[<-c];clear c;go_region
 all_goals go_wp2
 all_goals go_end0
 all_goals exact⟨rfl,_,gM.after k.out d.out.1.drew,by rw[j.out];exact d.out.2⟩
abbrev FV:=Fr×Option Addr×Nat×Nat
def oO(x:FV):Value:=.slice x.2.1 x.2.2.1 x.2.2.2
def qR:List FV->bO
 |[]=>[]
 |x::t=>gG x.1 (oO x)++qR t
def iq:FV:=(iM,none,0,0)
def xD(w:World)(fa:Option Addr)(L:List FV):Prop:=
 ∀j,j<L.length->∃b off,fa=some (aB b off)/\∀i,i<10->w.cell? (aB b (off+j*10+i))=(gG (L.getD j iq).1 (oO (L.getD j iq)))[i]?
theorem xD.below{w w':World}{fa:Option Addr}{L:List FV}(h:xD w fa L)(hb:bJ w w'):xD w' fa L:=fun j e=>by
 obtain⟨b,off,d,h1⟩:=h j e;refine⟨b,off,d,fun i hi=>?_⟩;have c:b<w.heap.size:=by exact nU (a:=(aB b (off+j*10+0))) _ (h1 0 aj)
 rw[hb.cell (p:=(aB b (off+j*10+i))) c];exact h1 i hi
theorem Ye.qfx{w:World}{fa:Option Addr}{fs:List Fr}{ra:Nat->Option Addr}{rc:Nat->Nat}(h:Ye w fa fs ra rc)(L:List FV)(d:L.length=fs.length)(c:∀j,j<fs.length->L.getD j iq=(fs.getD j iM,ra j,(fs.getD j iM).ranges.length,rc j)):xD w fa L:=fun j e=>by
 obtain⟨b,off,a,h1⟩:=h j aj;refine⟨b,off,a,fun i hi=>?_⟩;rw[c j aj];match i,hi with
 |0,_=>exact h1.c0
 |1,_=>exact h1.c1
 |2,_=>exact h1.c2
 |3,_=>exact h1.c3
 |4,_=>exact h1.c4
 |5,_=>exact h1.c5
 |6,_=>exact h1.c6
 |7,_=>exact h1.c7
 |8,_=>exact h1.c8
 |9,_=>exact h1.c9
def za(P:FV->Bool)(fs:List FV):Int:=if fs.any P then(fs.findIdx P:Int)else -1
theorem P_{P:FV->Bool}{fs:List FV}(h:∀j,j<fs.length->P (fs.getD j iq)=false):za P fs= -1:=by unfold za;rw[aU];intro h1;obtain⟨x,b,hp⟩:=o8.1 h1;obtain⟨j,a,rfl⟩:=uj b;have:=h j a;rw[j3,eB a]at this;simp only[Option.getD_some]at this;rw[this]at hp;cases hp
theorem Qa{P:FV->Bool}{fs:List FV}(i:Nat)(hi:i<fs.length)(h:∀j,j<i->P (fs.getD j iq)=false)(hp:P (fs.getD i iq)=true):za P fs=(i:Int):=by
 have g:∀j (a:j<fs.length),fs.getD j iq=fs[j]:=fun j a=>by rw[j3,eB a];rfl
 unfold za;rw[bK (o8.2 ⟨fs[i],List.getElem_mem hi,by rw[<-g i hi];exact hp⟩)];have:fs.findIdx P=i:=by rw[List.findIdx_eq hi];exact⟨by rw[<-g i hi];exact hp,fun j a=>by rw[<-g j aj];exact h j a⟩
 rw[this]
theorem B_(g:Nat)(p k:Array Value)(P:FV->Bool)(fa:Option Addr)(fs:List FV)(C:Nat)(w:World)(J:∀args w,(callFunc g args).run prog w=.ok (.enter g args) w)(hl:fs.length<=1000000000)(hF:xD w fa fs)(y:∀j,j<fs.length->∀W:World,bJ w W->Calls prog g (p.push (fM (fs.getD j iq).1 (oO (fs.getD j iq)))++k) W fun e B=>e=.returned (.bool (P (fs.getD j iq)))/\bJ W B):Calls prog 190 #[.slice fa fs.length C,.func (.func g) p k] w fun e w'=>e=.returned (iZ (za P fs))/\bJ w w':=by
 have z:=aG hF;have A:=aG y;clear hF y;obtain⟨X,r⟩:=bZ (za P fs);have u:=aG r;rw[<-r];clear r;go_enter func190,ntmps190;go_wp2;go_loopw [8] (fun s8 wr=>∃i:Nat,i<=fs.length/\s8=(iZ i)/\Hid ((∀j,j<i->P (fs.getD j iq)=false)/\bJ w wr)) (fun s8 _=>fs.length-(nV s8).toNat);case atStart=>exact⟨0,Nat.zero_le _,rfl,(⟨fun j v=>absurd v (Nat.not_lt_zero _),nA _ _⟩:_/\_)⟩
 case round=>
  obtain⟨i,hi,rfl,d⟩:=hrel;by_cases m:i<fs.length
  ·have x:(i:Int)<(fs.length:Int):=aj;obtain⟨b,off,D,o⟩:=z.out i m;subst D;have c:∀n,n<10->wr.cell? (aB b (off+i*10+n))=(gG (fs.getD i iq).1 (oO (fs.getD i iq)))[n]?:=fun n s=>by
    rw[d.out.2.cell (p:=(aB b (off+i*10+n))) (nU (a:=(aB b (off+i*10+0))) _ (o 0 aj))];exact o n s
   have c0:=c 0 aj;have c1:=c 1 aj;have c2:=c 2 aj;have c3:=c 3 aj;have c4:=c 4 aj;have c5:=c 5 aj;have c6:=c 6 aj;have c7:=c 7 aj;have c8:=c 8 aj;have c9:=c 9 aj;have f:=A.out i m wr d.out.2;have t:Hid (∀b,P (fs.getD i iq)=b->P (fs.getD i iq)=b):=fun _ h=>h;cases hp:P (fs.getD i iq)
   ·rw[hp]at f;have q:=aG hp;clear hp c o t;generalize fs.getD i iq=F at c0 c1 c2 c3 c4 c5 c6 c7 c8 c9 f;obtain⟨F,E,G,H⟩:=F;unfold fM at f;simp only[oO,mI,mE,qx]at c0 c1 c2 c3 c4 c5 c6 c7 c8 c9 f;go_wp2_with (first|(go_at_fn g;refine bN f ?_;rintro I l)|go_in);go_roundw
    case rel=>exact⟨i+1,aj,aP,(⟨fun j v=>(by
     by_cases h:j=i;·rw[h];exact q.out
     ·exact d.out.1 j aj),d.out.2.trans (l.mono d.out.2.size)⟩:_/\_)⟩
    case measure=>simp[nV];omega
   ·rw[hp]at f;have q:=aG hp;clear hp c o t;generalize fs.getD i iq=F at c0 c1 c2 c3 c4 c5 c6 c7 c8 c9 f;obtain⟨F,E,G,H⟩:=F;unfold fM at f;simp only[oO,mI,mE,qx]at c0 c1 c2 c3 c4 c5 c6 c7 c8 c9 f;go_wp2_with (first|(go_at_fn g;refine bN f ?_;rintro I l)|go_in);go_ret;exact⟨by rw[u.out,Qa i m d.out.1 q.out];rfl,d.out.2.trans (l.mono d.out.2.size)⟩
  ·obtain rfl:i=fs.length:=aj;go_wp2;go_ret;exact⟨by rw[u.out,P_ d.out.1];rfl,d.out.2⟩
theorem Jk(g:Nat)(p k:Array Value)(P:FV->Bool)(fa:Option Addr)(fs:List FV)(b:Nat)(w:World)(i:∀args w,(callFunc g args).run prog w=.ok (.enter g args) w)(hl:fs.length<=1000000000)(hF:xD w fa fs)(c:∀j,j<fs.length->∀W:World,bJ w W->Calls prog g (p.push (fM (fs.getD j iq).1 (oO (fs.getD j iq)))++k) W fun e f=>e=.returned (.bool (P (fs.getD j iq)))/\bJ W f):Calls prog 231 #[.slice fa fs.length b,.func (.func g) p k] w fun e w'=>e=.returned (.bool (fs.any P))/\bJ w w':=by
 have d:=aG (B_ g p k P fa fs b w i hl hF c);have l:decide ((0:Int)<=za P fs)=fs.any P:=by
  unfold za;cases h:fs.any P;·rw[aU aP];rfl
  ·rw[bK rfl];exact decide_eq_true (Int.natCast_nonneg _)
 generalize fs.any P=B at *
 generalize za P fs=X at *
 clear c hF;go_enter func231,ntmps231;go_wp2_with (first|(go_at_call 190;refine bN d.out ?_;rintro m a)|go_in);go_ret;exact⟨rfl,a⟩
theorem qaz(f:Fr)(rv:Value)(w:World):Calls prog 232 #[fM f rv] w fun e w'=>e=.returned (.bool (decide (f.aC≠2)))/\bJ w w':=by unfold fM;go_enter func232,ntmps232;go_wp2;go_ret;refine⟨congrArg (fun b=>qy (.bool b)) ?_,(nA _ w).alloc (eT _) _⟩;rw[Bool.eq_iff_iff];simp
theorem EM(fa:Option Addr)(L:List FV)(b:Nat)(w:World)(hl:L.length<=1000000000)(hF:xD w fa L):Calls prog 182 #[.slice fa L.length b] w fun e w'=>e=.returned (.bool (eO (L.map tO)))/\bJ w w':=by
 have c:=aG (Jk 232 #[] #[] (fun f=>decide (f.1.aC≠2)) fa L b w (enters_of func232 bH rfl) hl hF (fun j _ W _=>qaz _ _ W));have e:eO (L.map tO)=L.any fun f=>decide (f.1.aC≠2):=by unfold eO;rw[List.any_map];rfl
 rw[e];generalize (L.any fun f=>decide (f.1.aC≠2))=B at *
 clear hF;go_enter func182,ntmps182;go_wp2_with (first|(go_at_call 231;refine bN c.out ?_;rintro d a)|go_in);go_ret;exact⟨rfl,a⟩
theorem uP:∀L:List FV,(qR L).length=L.length*10
 |[]=>rfl
 |x::t=>by show(gG x.1 (oO x)++qR t).length=_;rw[yP,uP t];simp;omega
theorem xE:∀L K:List FV,qR (L++K)=qR L++qR K
 |[],_=>rfl
 |x::t,K=>by show gG x.1 (oO x)++qR (t++K)=(gG x.1 (oO x)++qR t)++qR K;rw[xE t K,List.append_assoc]
theorem tV:∀(vs:bO) (j:Nat) (l:bO),j+vs.length<=l.length->lQ j vs l=aZ l j vs
 |[],j,l,h=>by show l=aZ l j [];simp[aZ]
 |v::vs,j,l,h=>by
  show lQ (j+1) vs (l.set j v)=aZ l j (v::vs);simp only[List.length_cons]at h;rw[tV vs (j+1) (l.set j v) (by rw[DU];omega)];refine List.ext_getElem? fun i=>?_;rw[jL _ _ _ (by rw[DU];omega),jL _ _ _ (by simp;omega)];by_cases h1:i<j;·rw[bK aj,bK h1,tL aj]
  ·by_cases b:i=j;·subst b;rw[bK aj,aU h1,bK aP,List.getElem?_set_self aj];simp
   ·rw[aU aj,aU h1];by_cases a:i<j+1+vs.length;·rw[bK a,bK (by simp;omega),show i-j=(i-(j+1))+1 by omega];simp
    ·rw[aU a,aU (by simp;omega),tL aj]
structure Gm (w:World) (b n:Nat) (L:List FV) (q:FV->Bool) (len:Nat) (i j:Nat) (cs:bO) (y:World):Prop where
 cZ:aS y b 65 cs
 len:cs.length=len
 done:cs.take (i*10)=qR ((L.take j).filter q)
 aF:(cs.take (n*10)).drop (j*10)=qR (L.drop j)
 one:∀v∈cs,v.oneCell'=true
 num:((L.take j).filter q).length=i
 gr:w.grownBy y (some b)
theorem Gm.cell{w:World}{b n:Nat}{L:List FV}{q:FV->Bool}{len i j:Nat}{cs:bO}{y:World}(h:Gm w b n L q len i j cs y)(a:j<L.length)(k:Nat)(c:k<10):y.cell? (aB b (j*10+k))=(gG (L.getD j iq).1 (oO (L.getD j iq)))[k]?:=by
 have e:L.drop j=L.getD j iq::L.drop (j+1):=by rw[j3,eB a];exact nI a
 have h1:((cs.take (n*10)).drop (j*10))[k]?=(gG (L.getD j iq).1 (oO (L.getD j iq)))[k]?:=by rw[h.aF,e];show(gG (L.getD j iq).1 (oO (L.getD j iq))++qR (L.drop (j+1)))[k]?=_;rw[og (by simpa using c)]
 rw[h.cZ.cell];rw[List.getElem?_drop,xQ]at h1;split at h1;·exact h1
 ·rename_i d;have:(gG (L.getD j iq).1 (oO (L.getD j iq)))[k]?.isSome=true:=by rw[eB (by simpa using c)];rfl
  rw[<-h1]at this;cases this
theorem Gm.skip{w:World}{b n:Nat}{L:List FV}{q:FV->Bool}{len i j:Nat}{cs:bO}{y z:World}(h:Gm w b n L q len i j cs y)(a:j<L.length)(hq:q (L.getD j iq)=false)(hB:aS z b 65 cs)(d:w.grownBy z (some b)):Gm w b n L q len i (j+1) cs z:=by
 have e:L.take (j+1)=L.take j++[L.getD j iq]:=by rw[j3,eB a,Cr,eB a];rfl
 have c:(L.take (j+1)).filter q=(L.take j).filter q:=by rw[e,xB,List.filter_cons_of_neg (by rw[hq];simp),CZ,List.append_nil]
 refine⟨hB,h.len,by rw[c];exact h.done,?_,h.one,by rw[c];exact h.num,d⟩;have:=congrArg (List.drop 10) h.aF;rw[Ea,nI a]at this;rw[show(j+1)*10=j*10+10 by omega,this];rfl
theorem Gm.yN{w:World}{b n:Nat}{L:List FV}{q:FV->Bool}{len i j:Nat}{cs:bO}{y z:World}(h:Gm w b n L q len i j cs y)(m:n*10<=len)(l:j<n)(k:i<j)(d:j<L.length)(hq:q (L.getD j iq)=true)(hB:aS z b 65 (lQ (i*10) (gG (L.getD j iq).1 (oO (L.getD j iq))) cs))(h1:∀v∈gG (L.getD j iq).1 (oO (L.getD j iq)),v.oneCell'=true)(g:w.grownBy z (some b)):Gm w b n L q len (i+1) (j+1) (lQ (i*10) (gG (L.getD j iq).1 (oO (L.getD j iq))) cs) z:=by
 have e:L.take (j+1)=L.take j++[L.getD j iq]:=by rw[j3,eB d,Cr,eB d];rfl
 have f:(L.take (j+1)).filter q=(L.take j).filter q++[L.getD j iq]:=by rw[e,xB,List.filter_cons_of_pos hq,CZ]
 have a:i*10+(gG (L.getD j iq).1 (oO (L.getD j iq))).length<=cs.length:=by rw[h.len];simp;omega
 have l10:(gG (L.getD j iq).1 (oO (L.getD j iq))).length=10:=rfl;refine⟨hB,by rw[Cb];exact h.len,?_,?_,Cc _ _ _ h.one h1,by rw[f,yP,h.num];rfl,g⟩;·rw[tV _ _ _ a,show(i+1)*10=i*10+(gG (L.getD j iq).1 (oO (L.getD j iq))).length by rw[l10];omega,iH _ _ _ a,h.done,f,xE];simp[qR]
 ·have hd:=congrArg (List.drop 10) h.aF;rw[Ea,nI d]at hd;have c:(cs.take (n*10)).drop ((j+1)*10)=qR (L.drop (j+1)):=by rw[show(j+1)*10=j*10+10 by omega,hd];rfl
  rw[<-c,ze,tV _ _ _ (by rw[lg,l10];omega),o_ _ _ _ _ (by rw[lg,l10];omega) (by rw[l10];omega)]
theorem Gm.below{w:World}{b n:Nat}{L:List FV}{q:FV->Bool}{len i j:Nat}{cs:bO}{y z:World}(h:Gm w b n L q len i j cs y)(hb:bJ y z):Gm w b n L q len i j cs z:=
 ⟨gB hb h.cZ,h.len,h.done,h.aF,h.one,h.num,h.gr.andThen (jI hb) (fun j a=>by cases a)⟩
theorem Gp:∀(L:List FV) (j k:Nat),j<L.length->k<10->(qR L)[j*10+k]?=(gG (L.getD j iq).1 (oO (L.getD j iq)))[k]?
 |[],_,_,h,_=>by simp at h
 |x::t,0,k,_,hk=>by show(gG x.1 (oO x)++qR t)[0*10+k]?=_;rw[og (by simpa using hk)];simp only[Nat.zero_mul,Ev];rfl
 |x::t,j+1,k,h,hk=>by show(gG x.1 (oO x)++qR t)[(j+1)*10+k]?=_;rw[List.getElem?_append_right (by simp;omega),show(j+1)*10+k-(gG x.1 (oO x)).length=j*10+k by simp;omega];exact Gp t j k (by simpa using h) hk
theorem Qb(P:FV->Bool)(L:List FV):(za P L= -1/\L.filter (fun x=> !P x)=L)\/∃i:Nat,za P L=(i:Int)/\i<L.length/\P (L.getD i iq)=true/\(L.take i).filter (fun x=> !P x)=L.take i:=by
 unfold za;cases h:L.any P;·refine .inl ⟨aP,tT.2 fun x a=>?_⟩;have:=List.any_eq_false.1 h x a;simpa using this
 ·rw[bK rfl];have hi:L.findIdx P<L.length:=List.findIdx_lt_length_of_exists (by obtain⟨x,a,hp⟩:=o8.1 h;exact⟨x,a,hp⟩);refine .inr ⟨_,rfl,hi,?_,tT.2 fun x a=>?_⟩;·rw[j3,eB hi];exact List.findIdx_getElem
  ·obtain⟨j,b,rfl⟩:=uj a;rw[lg]at b;rw[List.getElem_take];have:=List.not_of_lt_findIdx (p:=P) (xs:=L) (i:=j) aj;simpa using this
theorem Oh(f:Fr)(rv:Value)(h:rv.oneCell'=true):∀v∈gG f rv,v.oneCell'=true:=by intro v a;simp only[Es,List.not_mem_nil,or_false]at a;rcases a with rfl|rfl|rfl|rfl|rfl|rfl|rfl|rfl|rfl|rfl;all_goals first|rfl|exact h
theorem Ec(g:Nat)(p k:Array Value)(P:FV->Bool)(b n c:Nat)(L:List FV)(cs:bO)(w:World)(eg:∀args w,(callFunc g args).run prog w=.ok (.enter g args) w)(hn:L.length=n)(hl:n<=100000)(hg:n<=c)(hB:aS w b 65 cs)(N:n*10<=cs.length)(ht:cs.take (n*10)=qR L)(h1:∀v∈cs,v.oneCell'=true)(S:∀j,j<L.length->∀W:World,Calls prog g (p.push (fM (L.getD j iq).1 (oO (L.getD j iq)))++k) W fun e W'=>e=.returned (.bool (P (L.getD j iq)))/\bJ W W'):Calls prog 151 #[dP b n c,.func (.func g) p k] w fun e w'=>∃a,e=.returned (dP b (L.filter fun x=> !P x).length c)/\aS w' b 65 a/\a.length=cs.length/\a.take ((L.filter fun x=> !P x).length*10)=qR (L.filter fun x=> !P x)/\(∀v∈a,v.oneCell'=true)/\w.grownBy w' (some b):=by
 have h6:=hB.lt;have hF:xD w (some (aB b 0)) L:=fun j y=>⟨b,0,rfl,fun i hi=>by rw[hB.cell,<-Gp L j i y hi,<-ht,xQ,bK aj,Ev]⟩;have J:=aG (B_ g p k P (some (aB b 0)) L c w eg aj hF (fun j y W _=>S j y W));rw[hn]at J;have hu:=hB;rcases Qb P L with⟨e1,e2⟩|⟨i0,e1,hi0,hp0,hf0⟩;·rw[e1]at J;rw[e2,hn];have Q:Hid (∀H,bJ w H->aS H b 65 cs/\cs.take (n*10)=qR L/\(∀v∈cs,v.oneCell'=true)/\w.grownBy H (some b)):=fun H q=>⟨gB q hB,ht,h1,(jI q).but _⟩;clear hB ht h1 S hF hu e2;go_enter func151,ntmps151;go_wp2_with (first|(go_at_call 190;refine bN J.out ?_;rintro H q)|go_in);go_ret;obtain⟨Y,Z,a3,a4⟩:=Q.out _ q;exact⟨cs,rfl,Y,rfl,Z,a3,a4⟩
 ·rw[e1]at J;have O:Gm w b n L (fun x=> !P x) cs.length i0 (i0+1) cs w:=by
   have D:Gm w b n L (fun x=> !P x) cs.length i0 i0 cs w:=by
    refine⟨hB,rfl,?_,?_,h1,by rw[hf0,lg];omega,⟨rfl,rfl,rfl,eT _,fun _ _ _=>rfl⟩⟩
    ·rw[hf0];have e:=congrArg (List.take (i0*10)) ht;rw[List.take_take,Nat.min_eq_left aj]at e;rw[e];have e3:qR L=qR (L.take i0)++qR (L.drop i0):=by rw[<-xE,sF]
     rw[e3,List.take_append_of_le_length (by rw[uP,lg];omega),rX (by rw[uP,lg];omega)]
    ·rw[ht];have e3:qR L=qR (L.take i0)++qR (L.drop i0):=by rw[<-xE,sF]
     rw[e3,List.drop_append_of_le_length (by rw[uP,lg];omega),List.drop_of_length_le (by rw[uP,lg];omega),qA]
   exact D.skip hi0 (by rw[hp0];rfl) hB D.gr
  have HD:=aG O;have HW:=aG S;have he:i0<n:=aj;have h8:((i0:Int)== -1)=false:=by rw[beq_eq_false_iff_ne];omega
  clear O hB ht h1 S hF hu hf0 hp0;go_enter func151,ntmps151;go_wp2_with (first|(go_at_call 190;refine bN J.out ?_;rintro H q)|go_in);go_loopw [5,6] (fun s5 s6 wr=>∃(i j:Nat) (a:bO),i<j/\j<=n/\s5=(iZ i)/\s6=(iZ j)/\Hid (Gm w b n L (fun x=> !P x) cs.length i j a wr)) (fun _ s6 _=>n-(nV s6).toNat);case atStart=>exact⟨i0,i0+1,cs,aj,aj,rfl,aP,(HD.out.below q:Gm _ _ _ _ _ _ _ _ _ _)⟩
  case round=>
   obtain⟨i,j,a,h0,hf,rfl,rfl,f⟩:=hrel;by_cases h4:j<n
   ·have h7:(j:Int)<(n:Int):=aj;have c0:=f.out.cell aj 0 aj;have c1:=f.out.cell aj 1 aj;have c2:=f.out.cell aj 2 aj;have c3:=f.out.cell aj 3 aj;have c4:=f.out.cell aj 4 aj;have c5:=f.out.cell aj 5 aj;have c6:=f.out.cell aj 6 aj;have c7:=f.out.cell aj 7 aj;have c8:=f.out.cell aj 8 aj;have c9:=f.out.cell aj 9 aj;obtain⟨V,h⟩:=bZ (wr.alloc (.cells (gG (L.getD j iq).1 (oO (L.getD j iq))).toArray 65));have B:bJ wr V:=by rw[h];exact(nA _ wr).alloc (eT _) _
    have G:aS V wr.heap.size 65 (gG (L.getD j iq).1 (oO (L.getD j iq))):=by rw[h];exact aS.new wr 65 _
    have A:=HW.out j aj V;have I:=aG B;have T:Hid (∀v∈gG (L.getD j iq).1 (oO (L.getD j iq)),v.oneCell'=true):=Oh _ _ rfl;cases hp:P (L.getD j iq);·rw[hp]at A;have K:Hid (∀z,aS z b 65 (lQ (i*10) (gG (L.getD j iq).1 (oO (L.getD j iq))) a)->w.grownBy z (some b)->Gm w b n L (fun x=> !P x) cs.length (i+1) (j+1) (lQ (i*10) (gG (L.getD j iq).1 (oO (L.getD j iq))) a) z):=fun z R h3=>f.out.yN N h4 h0 aj (by rw[hp];rfl) R T.out h3;have E:=f.out.below B;have d:∀x,x<10->∃v,a[i*10+x]?=some v:=fun x hx=>⟨_,eB (by rw[f.out.len];omega)⟩;obtain⟨t0,q0⟩:=d 0 aj;obtain⟨t1,q1⟩:=d 1 aj;obtain⟨t2,q2⟩:=d 2 aj;obtain⟨t3,q3⟩:=d 3 aj;obtain⟨t4,q4⟩:=d 4 aj;obtain⟨t5,q5⟩:=d 5 aj;obtain⟨t6,q6⟩:=d 6 aj;obtain⟨t7,q7⟩:=d 7 aj;obtain⟨t8,q8⟩:=d 8 aj;obtain⟨t9,q9⟩:=d 9 aj;have Pv:=aG E.cZ;have zK:=aG G;have HG:=aG E.gr;have hk:(i:Int)<(n:Int):=aj;have h9:¬(wr.heap.size=b):=fun e=>bV f.out.cZ.lt;have ha:Hid (∀z,aS z b 65 a->∀j',z.cell? (aB b j')=a[j']?):=fun z hz j'=>hz.cell j';clear hp T B G E d;generalize L.getD j iq=F at c0 c1 c2 c3 c4 c5 c6 c7 c8 c9 A h K zK;obtain⟨F,r1,r2,r3⟩:=F;unfold fM at A;simp only[oO,mI,mE,qx]at c0 c1 c2 c3 c4 c5 c6 c7 c8 c9 A h K zK q0;go_wp2_with (first|(go_at_fn g;rw[<-h];refine bN A ?_;rintro r u;have m:=gB u Pv.out;have s:=gB u zK.out;have y0:r.cell? (aB b (i*10))=some t0:=(m.cell _).trans q0;have y1:r.cell? (aB b (i*10+1))=some t1:=(m.cell _).trans q1;have y2:r.cell? (aB b (i*10+2))=some t2:=(m.cell _).trans q2;have y3:r.cell? (aB b (i*10+3))=some t3:=(m.cell _).trans q3;have y4:r.cell? (aB b (i*10+4))=some t4:=(m.cell _).trans q4;have y5:r.cell? (aB b (i*10+5))=some t5:=(m.cell _).trans q5;have y6:r.cell? (aB b (i*10+6))=some t6:=(m.cell _).trans q6;have y7:r.cell? (aB b (i*10+7))=some t7:=(m.cell _).trans q7;have y8:r.cell? (aB b (i*10+8))=some t8:=(m.cell _).trans q8;have y9:r.cell? (aB b (i*10+9))=some t9:=(m.cell _).trans q9;have fz:=m.frozen;have x0:=s.cell 0;have x1:=s.cell 1;have x2:=s.cell 2;have x3:=s.cell 3;have x4:=s.cell 4;have x5:=s.cell 5;have x6:=s.cell 6;have x7:=s.cell 7;have x8:=s.cell 8;have x9:=s.cell 9;simp only[mI,mE]at x0 x1 x2 x3 x4 x5 x6 x7 x8 x9;replace m:=aG m;replace s:=aG s)|go_in);have M:=mq b (gG F (.slice r1 r2 r3)) (i*10) r;refine⟨⟨i+1,j+1,_,aj,aj,aP,aP,(K.out (nJ b (i*10) (gG F (.slice r1 r2 r3)) r) (ou _ _ _ _ m.out) ((HG.out.andThen (jI u) (fun j y=>by cases y)).andThen (row':=some b) ⟨M.os,M.tape,M.output,by rw[M.size];exact eT _,fun x _ hx=>M.block x (fun e=>hx (by rw[e]))⟩ (fun j y=>.inr (by rw[y]))):Gm _ _ _ _ _ _ _ _ _ _)⟩,by simp[nV];omega⟩
    ·rw[hp]at A;have K:Hid (∀z,bJ wr z->Gm w b n L (fun x=> !P x) cs.length i (j+1) a z):=fun z R=>f.out.skip aj (by rw[hp];rfl) (gB R f.out.cZ) (f.out.gr.andThen (jI R) (fun j y=>by cases y));clear hp T G B;generalize L.getD j iq=F at c0 c1 c2 c3 c4 c5 c6 c7 c8 c9 A h;obtain⟨F,r1,r2,r3⟩:=F;unfold fM at A;simp only[oO,mI,mE,qx]at c0 c1 c2 c3 c4 c5 c6 c7 c8 c9 A h;go_wp2_with (first|(go_at_fn g;rw[<-h];refine bN A ?_;rintro r u)|go_in);go_roundw;case rel=>exact⟨i,j+1,a,aj,aj,rfl,aP,(K.out _ (I.out.trans (u.mono I.out.size)):Gm _ _ _ _ _ _ _ _ _ _)⟩
     case measure=>simp[nV];omega
   ·obtain rfl:j=n:=aj;have t:=f.out;have C:(mY qY.cells (j-i)).toList.length=(j-i)*10:=Gc.hz _;have h5:∀ty cc,(Builtin.clear_ #[54] ty #[.slice (some (aB b (i*10))) (j-i) cc]).run prog wr=.ok (.tuple #[]) (put wr b (aZ a (i*10) (mY qY.cells (j-i)).toList)):=fun ty cc=>iA (P:=prog) (o:=i*10) (n:=j-i) (c:=cc) 54 65 ty _ Gc.ht (fun w=>bH) t.cZ aj (by rw[C,t.len];omega) (Gc.h1 _);have ef:L.filter (fun x=> !P x)=(L.take j).filter (fun x=> !P x):=by rw[rX aj]
    have U:=t.num;rw[<-ef]at U;have Q:Hid (∃l,l=aZ a (i*10) (mY qY.cells (j-i)).toList/\aS (put wr b (aZ a (i*10) (mY qY.cells (j-i)).toList)) b 65 l/\l.length=cs.length/\l.take (i*10)=qR (L.filter fun x=> !P x)/\(∀v∈l,v.oneCell'=true)/\w.grownBy (put wr b (aZ a (i*10) (mY qY.cells (j-i)).toList)) (some b)):=by refine⟨_,rfl,t.cZ.put _,by rw[bY _ _ _ (by rw[C,t.len];omega)];exact t.len,?_,dR t.one (Gc.h1 _),t.gr.andThen (dU wr b _) (fun j y=>.inr (by rw[y]))⟩;rw[gV _ _ _ _ (by rw[C,t.len];omega) (eT _),t.done,ef]
    have HN:=aG U;generalize aZ a (i*10) (mY qY.cells (j-i)).toList=X at h5 Q;clear ef U C t;have k1:(i:Int)<=(j:Int):=aj;have k2:(i:Int)<=(c:Int):=aj;have k3:(j:Int)<=(c:Int):=aj;have k4:i<=j:=aj;have k5:i<=c:=aj;go_wp2;go_ret;obtain⟨l,_,Y,Z,a3,a4,a5⟩:=Q.out;rw[HN.out];exact⟨l,rfl,Y,Z,a3,a4,a5⟩
