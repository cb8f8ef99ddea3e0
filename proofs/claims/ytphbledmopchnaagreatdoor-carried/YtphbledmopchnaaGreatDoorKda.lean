import Derived.Maps.RangeWalk
import Derived.Test.YtphbledmopchnaaGreatDoorKbe
import Derived.Test.YtphbledmopchnaaGreatDoorKce
import Derived.Deep.RegionHeld3
open Go.RowKit.Below renaming refl->KG
open Go.Builtin renaming zeroCells->Bu
open List renaming getElem?_eq_getElem->jK,getD_eq_getElem?_getD->mR,mem_filter->nI,length_take->tT,getElem?_cons_succ->uj,getElem?_cons_zero->wz,drop_eq_getElem_cons->CK,any_eq_true->Kt,mem_cons->Lb,filter_eq_self->M4,getElem?_append_left->R3,take_of_length_le->Vh,take_append_drop->Vp,getElem?_set_ne->Xw,getElem_of_mem->ZE,filter_append->qa1,getElem?_take->qa2,length_append->qa3,mem_map->qa4,take_add_one->qa7,filter_nil->qac,length_map->qad,length_set->qae,drop_drop->qaf
open Nat renaming le_refl->DJ,lt_of_lt_of_le->Gl,add_zero->Si,lt_of_le_of_lt->qa5,zero_add->qah
open Go.World renaming block_lt_of_cell?->tL,grownBy_alloc->Z9
set_option maxHeartbeats 4000000
set_option maxRecDepth 100000
namespace Go.Proofs.YtphbledmopchnaaGreatDoor.Sd
open Go.RowKit Go.Lib Mm Go.Maps Tryz
def pK(x:Option Addr×Nat×Nat×Nat):Value:=.agg #[.slice x.1 x.2.1 x.2.2.1,.int .u64 x.2.2.2]
def pcR(v:Value):Option (DataW Value×List MemPlace):=match v with
 |.agg a=>match a.toList with
  |[.slice _ _ _,.int .u64 t]=>if 0<=t then some (.held v,[])else none
  |_=>none
 |_=>none
theorem Ni(x:Option Addr×Nat×Nat×Nat):pcR (pK x)=some (.held (pK x),[]):=by
 show(if(0:Int)<=(x.2.2.2:Int)then some (DataW.held (pK x),([]:List MemPlace))else none)=_;rw[if_pos (Int.natCast_nonneg _)]
theorem RS(v:Value)(y:DataW Value×List MemPlace)(h:pcR v=some y):∃c,v=pK c:=by
 unfold pcR at h;split at h
 ·rename_i a;split at h
  ·rename_i F n c t G;split at h
   ·rename_i ht;refine⟨(F,n,c,t.toNat),?_⟩;unfold pK
    have:a=#[.slice F n c,.int .u64 t]:=by
     cases a;simpa using G
    rw[this];simp only;rw[Int.toNat_of_nonneg ht]
   ·cases h
  ·cases h
 ·cases h
def en(x:Nat×(Option Addr×Nat×Nat×Nat)):Lit×DataW Value:=(.int .u64 x.1,.held (pK x.2))
abbrev fO:=Nat×(Option Addr×Nat×Nat×Nat)
theorem Nj:Keyed prog 43:=int_keyed underlying43
theorem mmap:prog.underlying 203=some (.map 43 289):=by kernel_rfl
theorem Nk(n:Nat)(h:n<18446744073709551616):keyOf prog 43 (.int .u64 n)=some (.int .u64 n):=keyOf_int_mk underlying43 (WalkArith.wf_u64 (by omega))
def iD(w:World)(b:Nat)(l:List fO):Prop:=∃es,w.ownsMap prog 43 pcR b l.length (.map es)/\es.Perm (l.map en)
def nN(w:World)(b r:Nat)(l lf:List fO):Prop:=
 ∃es left cnt,w.ranges prog 43 pcR b r l.length (.map es) left cnt/\es.Perm (l.map en)/\(∀x∈l,left (.int .u64 x.1)=true↔x∈lf)/\(∀x∈lf,x∈l)
theorem iD.perm{w:World}{b:Nat}{l l':List fO}(h:iD w b l)(hp:l.Perm l'):iD w b l':=by
 obtain⟨es,h1,F⟩:=h;exact⟨es,by rw[<-hp.length_eq];exact h1,F.trans (hp.map en)⟩
theorem iD.lt{w:World}{b:Nat}{l:List fO}(h:iD w b l):b<w.heap.size:=by
 obtain⟨es,h1,_⟩:=h;exact h1.lt
theorem iD.kept{w w':World}{b:Nat}{l:List fO}(h:iD w b l)(hb:w'.heap[b]?=w.heap[b]?):iD w' b l:=by
 obtain⟨es,⟨F,c1,G,H⟩,I⟩:=h;exact⟨es,⟨F,c1,hb.trans G,H⟩,I⟩
theorem nN.kept{w w':World}{b r:Nat}{l lf:List fO}(h:nN w b r l lf)(hb:w'.heap[b]?=w.heap[b]?)(Z:w'.heap[r]?=w.heap[r]?):nN w' b r l lf:=by
 obtain⟨es,left,cnt,⟨F,c1,s1,n1,k1,G,H,I,O,U,V⟩,X⟩:=h;exact⟨es,left,cnt,⟨F,c1,s1,n1,k1,hb.trans G,H,I,O,Z.trans U,V⟩,X⟩
theorem nN.map{w:World}{b r:Nat}{l lf:List fO}(h:nN w b r l lf):iD w b l:=by
 obtain⟨es,left,cnt,h1,F,_⟩:=h;exact⟨es,h1.owns,F⟩
theorem nN.lt{w:World}{b r:Nat}{l lf:List fO}(h:nN w b r l lf):r<w.heap.size:=by
 obtain⟨es,left,cnt,h1,_⟩:=h;exact h1.lt
theorem nN.sub{w:World}{b r:Nat}{l lf:List fO}(h:nN w b r l lf):∀x∈lf,x∈l:=by
 obtain⟨es,left,cnt,_,_,_,F⟩:=h;exact F
theorem iD.keys{w:World}{b:Nat}{l:List fO}(h:iD w b l):l.Pairwise fun x y=>x.1≠y.1:=by
 obtain⟨es,h1,G⟩:=h;obtain⟨F,e,hp,_⟩:=h1.entries Nj;cases e;have:=(G.pairwise_iff (fun{_ _} hne=>Ne.symm hne)).1 hp;rw[List.pairwise_map]at this
 refine this.imp fun{x y} h e=>h ?_
 show Lit.int .u64 x.1=Lit.int .u64 y.1;rw[e]
theorem iD.nodup{w:World}{b:Nat}{l:List fO}(h:iD w b l):l.Nodup:=h.keys.imp fun F e=>F (by rw[e])
theorem Nl:∀{l:List fO},(l.Pairwise fun x y=>x.1≠y.1)->∀{x y:fO},x∈l->y∈l->x.1=y.1->x=y
 |[],_,_,_,hx,_,_=>by cases hx
 |a::t,hp,x,y,hx,hy,e=>by
  obtain⟨h1,F⟩:=List.pairwise_cons.1 hp
  rcases Lb.1 hx with hx'|hx'
  ·rcases Lb.1 hy with hy'|hy'
   ·rw[hx',hy']
   ·exact absurd e (by rw[hx'];exact h1 y hy')
  ·rcases Lb.1 hy with hy'|hy'
   ·exact absurd e.symm (by rw[hy'];exact h1 x hx')
   ·exact Nl F hx' hy' e
theorem iD.inj{w:World}{b:Nat}{l:List fO}(h:iD w b l){x y:fO}(F:x∈l)(G:y∈l)(e:x.1=y.1):x=y:=Nl h.keys F G e
theorem iD.made(w:World):iD (w.alloc (.map #[] 0)) w.heap.size []:=⟨[],World.ownsMap_made _ _ _ _,.refl _⟩
theorem gY(a b:Int):(Lit.int .u64 a).sameKey (.int .u64 b)=decide (a=b):=by
 by_cases h:a=b
 ·rw[h,WideAt.sameKey_self (by trivial)];simp
 ·rw[Maps.sameKey_ne (fun e=>h (by injection e))];simp[h]
theorem iD.len{w:World}{b:Nat}{l:List fO}(h:iD w b l)(F:TypeId):(Builtin.len_ #[203] F #[.map (some b)]).run prog w=.ok (.int .i64 l.length) w:=by
 obtain⟨es,h1,G⟩:=h;have:=h1.len mmap F;rw[Maps.size_eq,G.length_eq,qad]at this;exact this
theorem iD.put{w:World}{b:Nat}{l:List fO}(h:iD w b l)(hl:l.length<1000000)(x:fO)(H:x.1<18446744073709551616)(G:∀y∈l,y.1≠x.1):
  ∃w',(Instr.mapUpdate 203 (.map (some b)) (.int .u64 x.1) (pK x.2)).run prog w=.ok () w'/\iD w' b (x::l)/\w.grownBy w' (some b):=by
 obtain⟨es,h1,F⟩:=h;obtain⟨w',r,o,g⟩:=h1.update Nj mmap (by unfold maxLen;omega) (Nk x.1 H) (Ni x.2);refine⟨w',r,⟨_,o,?_⟩,g⟩;refine(WideShapes.insert_perm _ _).trans ?_
 have e:es.filter (fun p=> !p.1.sameKey (.int .u64 x.1))=es:=by
  refine M4.2 fun p hp=>?_
  obtain⟨y,I,rfl⟩:=qa4.1 (F.mem_iff.1 hp);show(!(Lit.int .u64 y.1).sameKey (.int .u64 x.1))=true;rw[gY];have:=G y I;simp;omega
 rw[e];exact F.cons _
theorem iD.range{w:World}{b:Nat}{l:List fO}(h:iD w b l):
  ∃w',(Instr.range 203 (.map (some b))).run prog w=.ok (.pointer (some ⟨w.heap.size,0,none⟩)) w'/\nN w' b w.heap.size l l/\w.grownBy w' none/\w'.heap.size=w.heap.size+1:=by
 obtain⟨es,h1,G⟩:=h;obtain⟨w',r,o,g,z⟩:=h1.range Nj mmap;refine⟨w',r,⟨es,_,_,o,G,fun x F=>⟨fun _=>F,fun _=>?_⟩,fun x F=>F⟩,g,z⟩;rw[Maps.has_eq];exact Kt.2 ⟨en x,G.mem_iff.2 (List.mem_map_of_mem F),WideAt.sameKey_self (by trivial)⟩
theorem nN.next{w:World}{b r:Nat}{l lf:List fO}(h:nN w b r l lf)(ty:TypeId):
  (lf=[]/\(Instr.next (.pointer (some ⟨r,0,none⟩)) false ty).run prog w=.ok (.tuple #[.bool false]) w)\/
  ∃x w',x∈lf/\x.1<18446744073709551616/\(Instr.next (.pointer (some ⟨r,0,none⟩)) false ty).run prog w=.ok (.tuple #[.bool true,.int .u64 x.1,pK x.2]) w'/\
   nN w' b r l (lf.filter fun y=> !decide (y.1=x.1))/\w'.rangeLeft b r<w.rangeLeft b r/\w.grownBy w' (some r)/\w'.heap.size=w.heap.size/\(Instr.entry (.pointer (some ⟨r,0,none⟩))).run prog w'=.ok (.tuple #[.int .u64 x.1,pK x.2]) w':=by
 have hM:=h.map;obtain⟨es,left,cnt,h1,O,U,h4⟩:=h
 rcases h1.next Nj ty with⟨_,hl,F⟩|⟨key,v,kl,y,w',cnt',hkey,hlk,hv,hat,F,hrg,hlt,hgr,hsz,hen⟩
 ·refine .inl ⟨?_,F⟩
  cases lf with
  |nil=>rfl
  |cons x t=>
   have:=(U x (h4 x (by simp))).2 (by simp);rw[hl]at this;cases this
 ·obtain⟨k,rfl,rfl,V⟩:=Maps.keyOf_int_inv underlying43 hkey;obtain⟨c,rfl⟩:=RS v y hv
  have hy:y=(.held (pK c),[]):=by rw[Ni]at hv;exact(Option.some.inj hv).symm
  have G:=Maps.has_true_of_atKey hat;rw[Maps.has_eq]at G;obtain⟨p,hp,hs⟩:=Kt.1 G;obtain⟨x,hx,rfl⟩:=qa4.1 (O.mem_iff.1 hp)
  have hk:(x.1:Int)=k:=by
   have:(Lit.int .u64 x.1).sameKey (.int .u64 k)=true:=hs;rw[gY]at this;simpa using this
  subst hk;have X:x∈lf:=(U x hx).1 hlk
  have hb:x.1<18446744073709551616:=by
   simp[Lit.wf,IntKind.min,IntKind.max,IntKind.signed,IntKind.bits]at V;omega
  have H:pK x.2=pK c:=by
   have e:=hat .nil;rw[hy]at e;unfold DataW.atKey at e;simp only at e
   cases I:es.find? (fun p=>p.1.sameKey (.int .u64 x.1))with
   |none=>exact absurd hs (by have:=List.find?_eq_none.1 I (en x) hp;exact this)
   |some q=>
    rw[I]at e;simp only at e;obtain⟨z,hz,rfl⟩:=qa4.1 (O.mem_iff.1 (List.mem_of_find?_eq_some I));have hq:(Lit.int .u64 z.1).sameKey (.int .u64 x.1)=true:=List.find?_some (p:=fun p:Lit×DataW Value=>p.1.sameKey (.int .u64 x.1)) I;rw[gY]at hq;have Z:z=x:=hM.inj hz hx (by simp at hq;omega);rw[Z]at e
    injection e
  refine .inr ⟨x,w',X,hb,by rw[F,H],⟨es,_,cnt',hrg,O,fun z hz=>?_,fun z hz=>h4 z (nI.1 hz).1⟩,by rw[hrg.left_eq,h1.left_eq];exact hlt,hgr,hsz,by rw[hen,H]⟩;rw[Bool.and_eq_true,U z hz,nI,gY];constructor
  ·rintro⟨a,b⟩;refine⟨a,?_⟩;simp at b ⊢;omega
  ·rintro⟨a,b⟩;refine⟨a,?_⟩;simp at b ⊢;omega
theorem nN.del{w:World}{b r:Nat}{l lf:List fO}(h:nN w b r l lf)(n:Nat)(hn:n<18446744073709551616)(X:TypeId):
  ∃w',(Builtin.delete_ #[203,43] X #[.map (some b),.int .u64 n]).run prog w=.ok (.tuple #[]) w'/\nN w' b r (l.filter fun y=> !decide (y.1=n)) (lf.filter fun y=> !decide (y.1=n))/\w'.rangeLeft b r<=w.rangeLeft b r/\w.grownBy w' (some b):=by
 obtain⟨es,left,cnt,h1,h2,h3,h4⟩:=h;obtain⟨w',F,I,H,O,U⟩:=h1.drop Nj mmap (Nk n hn) X
 have hp:(es.filter fun p=> !p.1.sameKey (.int .u64 n)).Perm ((l.filter fun y=> !decide (y.1=n)).map en):=by
  refine(h2.filter _).trans ?_;rw[List.filter_map];refine .of_eq ?_;refine congrArg (List.map en) (List.filter_congr fun x _=>?_);show(!(Lit.int .u64 x.1).sameKey (.int .u64 n))=_;rw[gY];exact congrArg (!·) (decide_eq_decide.2 (by omega))
 refine⟨w',I,⟨_,(fun x=>left x&& !x.sameKey (.int .u64 n)),F,?_,hp,fun z hz=>?_,fun z hz=>?_⟩,by rw[H.left_eq,h1.left_eq];exact O,U.grown⟩
 ·have e:=hp.length_eq;rw[qad]at e;obtain⟨Z,c1,s1,n1,k1,g1,g2,g3,G,g5⟩:=H;refine⟨Z,c1,s1,n1,k1,g1,g2,?_,G,g5⟩;rw[<-e];have:(DataW.map es).del (.int .u64 n)=.map (es.filter fun p=> !p.1.sameKey (.int .u64 n)):=rfl;rw[this]at G
  injection G with G
  rw[G,length_sorted];simp
 ·have V:=(nI.1 hz).1;rw[Bool.and_eq_true,h3 z V,nI,gY];constructor
  ·rintro⟨a,b⟩;refine⟨a,?_⟩;simp at b ⊢;omega
  ·rintro⟨a,b⟩;refine⟨a,?_⟩;simp at b ⊢;omega
 ·rw[nI]at hz ⊢;exact⟨h4 z hz.1,hz.2⟩
section
section
variable (w:World) {ops:Array Oper} {rest:List Oper} {o:Oper} {a:Act} {Q:Exit->Act->World->Prop}
theorem ji(O:o.guard=none)(m:Operand)(H:o.op=Op.range 203 m)(b:Nat)(l:List fO)(U:a.eval m=.map (some b))(h:iD w b l)(I:∀w',nN w' b w.heap.size l l->w.grownBy w' none->w'.heap.size=w.heap.size+1->wpList prog ops Q rest (a.put o.dst (.pointer (some ⟨w.heap.size,0,none⟩))) w'):
  wpList prog ops Q (o::rest) a w:=by
 refine wpList_plain O fun K' G=>?_
 obtain⟨w',F,V,X,Z⟩:=h.range;unfold Oper.wp;simp[execOp,H,U,F,Result.andThen];exact G _ _ (I w' V X Z)
theorem jQ(V:o.guard=none)(it:Operand)(O:o.op=Op.next it false)(b r:Nat)(l lf:List fO)(hit:a.eval it=.pointer (some ⟨r,0,none⟩))(h:nN w b r l lf)(G:lf=[]->wpList prog ops Q rest (a.put o.dst (.tuple #[.bool false])) w)(H:∀(x:fO) (w':World),x∈lf->x.1<18446744073709551616->nN w' b r l (lf.filter fun y=> !decide (y.1=x.1))->w'.rangeLeft b r<w.rangeLeft b r->w.grownBy w' (some r)->w'.heap.size=w.heap.size->
   (Instr.entry (.pointer (some ⟨r,0,none⟩))).run prog w'=.ok (.tuple #[.int .u64 x.1,pK x.2]) w'->wpList prog ops Q rest (a.put o.dst (.tuple #[.bool true,.int .u64 x.1,pK x.2])) w'):
  wpList prog ops Q (o::rest) a w:=by
 refine wpList_plain V fun X I=>?_
 unfold Oper.wp
 rcases h.next o.type with⟨U,F⟩|⟨x,w',h1,h2,F,h3,h4,h5,h6,h7⟩
 ·simp[execOp,O,hit,F,Result.andThen];exact I _ _ (G U)
 ·simp[execOp,O,hit,F,Result.andThen];exact I _ _ (H x w' h1 h2 h3 h4 h5 h6 h7)
theorem kY(O:o.guard=none)(m x:Operand)(H:o.op=Op.call {callee:=Callee.builtin Builtin.delete,args:=#[m,x],argTypes:=#[203,43]})(b r:Nat)(l lf:List fO)(U:a.eval m=.map (some b))(h:nN w b r l lf)(n:Nat)(X:a.eval x=.int .u64 n)(V:n<18446744073709551616)(I:∀w',nN w' b r (l.filter fun y=> !decide (y.1=n)) (lf.filter fun y=> !decide (y.1=n))->w'.rangeLeft b r<=w.rangeLeft b r->w.grownBy w' (some b)->wpList prog ops Q rest (a.put o.dst (.tuple #[])) w'):
  wpList prog ops Q (o::rest) a w:=by
 refine wpList_plain O fun K' G=>?_
 obtain⟨w',F,Z,r2,r3⟩:=h.del n V o.type;unfold Oper.wp;simp[execOp,H,resolve,invoke,builtin,U,X,F,Result.andThen];exact G _ _ (I w' Z r2 r3)
theorem kZ(U:o.guard=none)(m x v:Operand)(H:o.op=Op.mapUpdate 203 m x v)(b:Nat)(l:List fO)(V:a.eval m=.map (some b))(h:iD w b l)(hl:l.length<1000000)(e:fO)(hx:a.eval x=.int .u64 e.1)(Z:a.eval v=pK e.2)(O:e.1<18446744073709551616)(X:∀y∈l,y.1≠e.1)(I:∀w',iD w' b (e::l)->w.grownBy w' (some b)->wpList prog ops Q rest (a.put o.dst undef) w'):
  wpList prog ops Q (o::rest) a w:=by
 refine wpList_plain U fun K' G=>?_
 obtain⟨w',F,r1,r2⟩:=h.put hl e O X;unfold Oper.wp;simp[execOp,H,V,hx,Z,F,Result.andThen];exact G _ _ (I w' r1 r2)
end


theorem R_(b:Nat)(l:List fO)(w:World)(h:iD w b l)(hl:l.length<1000000):
  Calls prog 262 #[.map (some b)] w fun e w'=>e=.returned (.bool (decide (12<=l.length)))/\w'=w:=by
 have F:=h.len;go_enter func262,ntmps262;go_wp2;go_ret;exact⟨congrArg (fun b=>Ending.returned (.bool b)) (decide_eq_decide.2 (by omega)),rfl⟩
theorem qZ{l l':List fO}(h:l.Nodup)(F:l'.Nodup)(G:∀x,x∈l↔x∈l'):l.Perm l':=(List.perm_ext_iff_of_nodup h F).2 G
theorem I6{l l':List fO}(h:l.Nodup)(G:l'.Nodup)(H:∀x,x∈l->x∈l'):l.length<=l'.length:=by
 classical
 have:l.Perm (l'.filter fun x=>decide (x∈l)):=qZ h (G.filter _) fun x=>by
  rw[nI];exact⟨fun F=>⟨H x F,decide_eq_true F⟩,fun F=>of_decide_eq_true F.2⟩
 rw[this.length_eq];exact List.length_filter_le _ _
structure I7 (w:World) (b b2 r:Nat) (l:List fO) (want:fO->Bool) (y:World) (cur lf tk:List fO):Prop where
 rg:nN y b r cur lf
 mp:iD y b2 tk
 cur:∀x,x∈cur↔x∈l/\(x∈lf\/want x=false)
 tk:∀x,x∈tk↔x∈l/\x∉lf/\want x=true
 gr:w.grownBy y (some b)
theorem I7.len{w:World}{b b2 r:Nat}{l:List fO}{want:fO->Bool}{y:World}{cur lf tk:List fO}(h:I7 w b b2 r l want y cur lf tk)(hl:l.Nodup):tk.length<=l.length:=
 I6 h.mp.nodup hl fun x F=>((h.tk x).1 F).1
theorem I7.done{w:World}{b b2 r:Nat}{l:List fO}{want:fO->Bool}{y:World}{cur tk:List fO}(h:I7 w b b2 r l want y cur [] tk)(hl:l.Nodup):iD y b (l.filter fun x=> !want x)/\iD y b2 (l.filter want):=by
 refine⟨h.rg.map.perm (qZ h.rg.map.nodup (hl.filter _) fun x=>?_),h.mp.perm (qZ h.mp.nodup (hl.filter _) fun x=>?_)⟩
 ·rw[h.cur,nI];simp
 ·rw[h.tk,nI];simp
theorem I7.stay{w:World}{b b2 r:Nat}{l:List fO}{want:fO->Bool}{y z:World}{cur lf G tk:List fO}(h:I7 w b b2 r l want y cur lf tk)(x:fO)(I:∀y,y∈l->(y∈G↔y∈lf/\y≠x))(O:want x=false)(U:nN z b r cur G)(V:iD z b2 tk)(X:w.grownBy z (some b)):I7 w b b2 r l want z cur G tk:=by
 refine⟨U,V,fun e=>?_,fun e=>?_,X⟩
 ·rw[h.cur]
  refine and_congr_right fun H=>?_
  rw[I e H]
  by_cases F:e=x
  ·rw[F];simp[O]
  ·simp[F]
 ·rw[h.tk]
  refine and_congr_right fun H=>?_
  rw[I e H]
  by_cases F:e=x
  ·rw[F];simp[O]
  ·simp[F]
theorem I7.go{w:World}{b b2 r:Nat}{l:List fO}{want:fO->Bool}{y z:World}{cur lf Z tk:List fO}(h:I7 w b b2 r l want y cur lf tk)(hk:∀e∈l,∀e'∈l,e.1=e'.1->e=e')(x:fO)(hx:x∈lf)(X:∀y,y∈l->(y∈Z↔y∈lf/\y≠x))(hw:want x=true)(hR:nN z b r (cur.filter fun e=> !decide (e.1=x.1)) (Z.filter fun e=> !decide (e.1=x.1)))(hT:iD z b2 (x::tk))(hg:w.grownBy z (some b)):
  I7 w b b2 r l want z (cur.filter fun e=> !decide (e.1=x.1)) (Z.filter fun e=> !decide (e.1=x.1)) (x::tk):=by
 have O:x∈l:=((h.cur x).1 (h.rg.sub x hx)).1
 have H:∀e∈l,((!decide (e.1=x.1))=true↔e≠x):=fun e he=>by
  simp only[Bool.not_eq_true',decide_eq_false_iff_not];exact⟨fun hn V=>hn (by rw[V]),fun hn V=>hn (hk e he x O V)⟩
 refine⟨hR,hT,fun e=>?_,fun e=>?_,hg⟩
 ·rw[nI,nI,h.cur];constructor
  ·rintro⟨⟨h1,G⟩,U⟩;refine⟨h1,G.imp (fun F=>⟨(X e h1).2 ⟨F,(H e h1).1 U⟩,U⟩) id⟩
  ·rintro⟨h1,G⟩
   rcases G with⟨F,h5⟩|F
   ·exact⟨⟨h1,.inl ((X e h1).1 F).1⟩,h5⟩
   ·refine⟨⟨h1,.inr F⟩,(H e h1).2 fun V=>?_⟩;rw[V,hw]at F;cases F
 ·rw[Lb,h.tk,nI];constructor
  ·rintro(h1|⟨h1,G,U⟩)
   ·rw[h1];exact⟨O,fun G=>((H x O).1 G.2) rfl,hw⟩
   ·exact⟨h1,fun F=>G ((X e h1).1 F.1).1,U⟩
  ·rintro⟨h1,G,U⟩
   by_cases I:e=x
   ·exact .inl I
   ·exact .inr ⟨h1,fun F=>G ⟨(X e h1).2 ⟨F,I⟩,(H e h1).2 I⟩,U⟩
theorem bO{w w':World}{b r:Nat}(hb:w'.heap[b]?=w.heap[b]?)(F:w'.heap[r]?=w.heap[r]?):w'.rangeLeft b r=w.rangeLeft b r:=by
 unfold World.rangeLeft;rw[hb,F]
theorem gq{w w':World}(hb:Below w.heap.size w w'):w.grownBy w' none:=⟨hb.os,hb.tape,hb.output,hb.size,fun i hi _=>hb.block i hi⟩
theorem bV{w w':World}{b:Nat}{t:TypeId}{l:List Value}(hb:Below w.heap.size w w')(h:ak w b t l):ak w' b t l:=h.of_heap (hb.block b h.lt)
theorem Sb(g:Nat)(p k:Array Value)(b:Nat)(l:List fO)(want:fO->Bool)(w:World)(eg:∀args w,(callFunc g args).run prog w=.ok (.enter g args) w)(h:iD w b l)(hl:l.length<100000)(hw:∀x∈l,∀W:World,w.grownBy W (some b)->Calls prog g (p++(#[.int .u64 x.1,pK x.2]++k)) W fun e W'=>e=.returned (.bool (want x))/\Below W.heap.size W W'):
  Calls prog 191 #[.map (some b),.func (.func g) p k] w fun e w'=>e=.returned (.map (some w.heap.size))/\iD w' b (l.filter fun x=> !want x)/\iD w' w.heap.size (l.filter want)/\w.grownBy w' (some b):=by
 have x8:=@run_makeMap prog;have hf:=h.nodup;have hm:=h.lt;obtain⟨W,hW⟩:∃W,W=w.alloc (.map #[] 0):=⟨_,rfl⟩
 have x1:w.grownBy W none:=by rw[hW];exact Z9 _ _ _
 have hr:iD W b l:=h.kept (by rw[hW];exact(MapKept.heap_alloc w _).2 b hm)
 have hv:iD W w.heap.size []:=by rw[hW];exact iD.made w
 have hsz:W.heap.size=w.heap.size+1:=by rw[hW];simp
 go_enter func191,ntmps191
 go_wp2_with (first
  |(at_range;refine ji _ rfl _ rfl b l rfl (by rw[<-hW];exact hr) ?_;intro w0 h8 h9 x5)
  |go_in)
 have e1:(w.alloc (.map #[] 0)).heap.size=w.heap.size+1:=by simp
 rw[<-hW]at h9;rw[e1]at h8 x5 ⊢
 go_frame
 go_loopw [6] (fun _ wr=>∃cur lf tk:List fO,Hid (I7 w b w.heap.size (w.heap.size+1) l want wr cur lf tk)) (fun _ wr=>wr.rangeLeft b (w.heap.size+1))
 case atStart=>exact⟨l,l,[],(⟨h8,hv.kept ((h9.block _ (by omega) (by simp))),fun x=>⟨fun O=>⟨O,.inl O⟩,fun O=>O.1⟩,fun x=>⟨(fun O=>by cases O),fun O=>absurd O.1 O.2.1⟩,(x1.but _).andThen h9 (fun j X=>by cases X)⟩:I7 w b w.heap.size (w.heap.size+1) l want w0 l l [])⟩
 case round=>
  obtain⟨cur,lf,tk,hrel⟩:=hrel
  go_wp2_with (first
   |(at_next;refine jQ _ rfl _ rfl b (w.heap.size+1) cur lf rfl hrel.out.rg ?_ ?_)
   |go_in)
  ·intro h0;go_wp2;go_ret;subst h0;exact⟨rfl,(hrel.out.done hf).1,(hrel.out.done hf).2,hrel.out.gr⟩
  ·intro xn xa xl xc xt w1 O Gm I x4 ha x6 hn;have H:=hrel.out;have x3:tk.length<1000000:=qa5 (H.len hf) (by omega);have h2:(xn,xa,xl,xc,xt)∈l:=((H.cur _).1 (H.rg.sub _ O)).1;obtain⟨W3,h3⟩:∃W3,W3=w1.alloc (.cells #[.slice xa xl xc,.int .u64 xt] 289):=⟨_,rfl⟩
   have hk:ak W3 wr.heap.size 289 [.slice xa xl xc,.int .u64 xt]:=by rw[h3,<-x6];exact ak.new w1 289 _
   have V:w1.grownBy W3 none:=by rw[h3];exact Z9 _ _ _
   have h5:w.grownBy W3 (some b):=(H.gr.andThen ha (fun j X=>by cases X;exact .inl (Nat.le_succ _))).andThen V (fun j X=>by cases X);have hc:=hw _ h2 W3 h5
   have x9:W3.heap.size=w1.heap.size+1:=by rw[h3];simp
   have Cw:nN W3 b (w.heap.size+1) cur (lf.filter fun y=> !decide (y.1=xn)):=I.kept (V.block _ I.map.lt (by simp)) (V.block _ I.lt (by simp));have Sc:iD W3 w.heap.size tk:=H.mp.kept ((V.block _ (Gl H.mp.lt ha.size) (by simp)).trans (ha.block _ H.mp.lt (by simp)))
   have h6:W3.rangeLeft b (w.heap.size+1)<wr.rangeLeft b (w.heap.size+1):=by rw[(bO (V.block _ I.map.lt (by simp)) (V.block _ I.lt (by simp)))];exact x4
   have U:∀y,y∈l->(y∈(lf.filter fun y=> !decide (y.1=xn))↔y∈lf/\y≠(xn,xa,xl,xc,xt)):=fun y hy=>by
    rw[nI]
    refine and_congr_right fun _=>?_
    simp only[Bool.not_eq_true',decide_eq_false_iff_not];exact⟨fun h7 e=>h7 (by rw[e]),fun h7 e=>h7 (h.inj hy h2 e)⟩
   cases Z:want (xn,xa,xl,xc,xt)
   ·rw[Z]at hc;have HX:=hid (And.intro h2 (And.intro U (And.intro Z O)));have G:=hid (And.intro h5 (And.intro Cw (And.intro Sc h6)));clear h2 U Z O h5 Cw Sc h6;simp only[pK]at hn hc ⊢
    go_wp2_with (first
     |(go_at_fn g;rw[<-h3];refine hc.mono ?_;rintro e w2 ⟨rfl,F⟩)
     |go_in)
    go_roundw
    case rel=>
     exact⟨cur,_,tk,(H.stay _ HX.out.2.1 HX.out.2.2.1 (G.out.2.1.kept (F.block _ G.out.2.1.map.lt) (F.block _ G.out.2.1.lt)) (G.out.2.2.1.kept (F.block _ G.out.2.2.1.lt)) (G.out.1.andThen (gq F) (fun j X=>by cases X)):I7 _ _ _ _ _ _ _ _ _ _)⟩
    case measure=>rw[bO (F.block _ G.out.2.1.map.lt) (F.block _ G.out.2.1.lt)];exact G.out.2.2.2
   ·rw[Z]at hc;have HX:=hid (And.intro h2 (And.intro U (And.intro Z O)));have G:=hid (And.intro h5 (And.intro Cw (And.intro Sc h6)));clear h2 U Z O h5 Cw Sc h6;simp only[pK]at hn hc ⊢
    go_wp2_with (first
     |(go_at_fn g;rw[<-h3];refine hc.mono ?_;rintro e w2 ⟨rfl,F⟩;have y0:w2.cell? ⟨wr.heap.size,0,none⟩=some (.slice xa xl xc):=(bV F hk).cell 0;have y1:w2.cell? ⟨wr.heap.size,1,none⟩=some (.int .u64 xt):=(bV F hk).cell 1)
     |(at_mapUpdate;refine kZ _ rfl _ _ _ rfl w.heap.size tk rfl (G.out.2.2.1.kept (F.block _ G.out.2.2.1.lt)) x3 (xn,xa,xl,xc,xt) rfl rfl Gm (fun y hy e=>((H.tk y).1 hy).2.1 (by rw[h.inj ((H.tk y).1 hy).1 HX.out.1 e];exact HX.out.2.2.2)) ?_;intro w3 hg h4)
     |(at_delete;refine kY _ rfl _ _ rfl b (w.heap.size+1) cur _ rfl (((G.out.2.1.kept (F.block _ G.out.2.1.map.lt) (F.block _ G.out.2.1.lt)).kept (h4.block _ (Gl G.out.2.1.map.lt F.size) (by simp;omega)) (h4.block _ (Gl G.out.2.1.lt F.size) (by simp)))) xn rfl Gm ?_;intro w4 hu x2 ho;go_frame)
     |go_in)
    have x7:=G.out.2.1.kept (F.block _ G.out.2.1.map.lt) (F.block _ G.out.2.1.lt)
    have h7:w.heap.size≠b:=by omega
    refine⟨⟨_,_,_,(H.go (fun e he e' x0=>h.inj he x0) (xn,xa,xl,xc,xt) HX.out.2.2.2 HX.out.2.1 HX.out.2.2.1 hu (hg.kept (ho.block _ hg.lt (by simp;omega))) ((G.out.1.andThen (gq F) (fun j X=>by cases X)).andThen h4 (fun j X=>by cases X;exact .inl (DJ _)) |>.andThen ho (fun j X=>by cases X;exact .inr rfl)):I7 _ _ _ _ _ _ _ _ _ _)⟩,?_⟩;refine qa5 x2 ?_;rw[bO (h4.block _ (Gl G.out.2.1.map.lt F.size) (by simp;omega)) (h4.block _ (Gl G.out.2.1.lt F.size) (by simp)),bO (F.block _ G.out.2.1.map.lt) (F.block _ G.out.2.1.lt)];exact G.out.2.2.2
end
end Go.Proofs.YtphbledmopchnaaGreatDoor.Sd
namespace Go.Proofs.YtphbledmopchnaaGreatDoor.Sd
open Go.RowKit Go.Lib Mm Tryz
abbrev FV:=Fr×Option Addr×Nat×Nat
def j5(x:FV):Value:=.slice x.2.1 x.2.2.1 x.2.2.2
def lS:List FV->List Value
 |[]=>[]
 |x::t=>bX x.1 (j5 x)++lS t
def dM:FV:=(dW,none,0,0)
def ru(w:World)(fa:Option Addr)(L:List FV):Prop:=
 ∀j,j<L.length->∃b off,fa=some ⟨b,off,none⟩/\∀i,i<10->w.cell? ⟨b,off+j*10+i,none⟩=(bX (L.getD j dM).1 (j5 (L.getD j dM)))[i]?
theorem ru.below{w w':World}{fa:Option Addr}{L:List FV}(h:ru w fa L)(hb:Below w.heap.size w w'):ru w' fa L:=fun j H=>by
 obtain⟨b,off,G,h1⟩:=h j H;refine⟨b,off,G,fun i hi=>?_⟩
 have F:b<w.heap.size:=by
  exact tL (a:=⟨b,off+j*10+0,none⟩) _ (h1 0 (by omega))
 rw[hb.cell (p:=⟨b,off+j*10+i,none⟩) F];exact h1 i hi
theorem Sg.YX{w:World}{fa:Option Addr}{fs:List Fr}{ra:Nat->Option Addr}{rc:Nat->Nat}(h:Sg w fa fs ra rc)(L:List FV)(H:L.length=fs.length)(G:∀j,j<fs.length->L.getD j dM=(fs.getD j dW,ra j,(fs.getD j dW).ranges.length,rc j)):ru w fa L:=fun j I=>by
 obtain⟨b,off,F,h1⟩:=h j (by omega);refine⟨b,off,F,fun i hi=>?_⟩;rw[G j (by omega)]
 match i,hi with
 |0,_=>exact h1.c0
 |1,_=>exact h1.c1
 |2,_=>exact h1.c2
 |3,_=>exact h1.c3
 |4,_=>exact h1.c4
 |5,_=>exact h1.c5
 |6,_=>exact h1.c6
 |7,_=>exact h1.c7
 |8,_=>exact h1.c8
 |9,_=>exact h1.c9
def tJ(P:FV->Bool)(fs:List FV):Int:=if fs.any P then(fs.findIdx P:Int)else -1
theorem Kw{P:FV->Bool}{fs:List FV}(h:∀j,j<fs.length->P (fs.getD j dM)=false):tJ P fs= -1:=by
 unfold tJ;rw[if_neg];intro h1;obtain⟨x,G,hp⟩:=Kt.1 h1;obtain⟨j,F,rfl⟩:=ZE G;have:=h j F;rw[mR,jK F]at this;simp only[Option.getD_some]at this;rw[this]at hp;cases hp
theorem Ky{P:FV->Bool}{fs:List FV}(i:Nat)(hi:i<fs.length)(h:∀j,j<i->P (fs.getD j dM)=false)(hp:P (fs.getD i dM)=true):tJ P fs=(i:Int):=by
 have g:∀j (F:j<fs.length),fs.getD j dM=fs[j]:=fun j F=>by rw[mR,jK F];rfl
 unfold tJ;rw[if_pos (Kt.2 ⟨fs[i],List.getElem_mem hi,by rw[<-g i hi];exact hp⟩)]
 have:fs.findIdx P=i:=by
  rw[List.findIdx_eq hi];exact⟨by rw[<-g i hi];exact hp,fun j F=>by rw[<-g j (by omega)];exact h j F⟩
 rw[this]
theorem wU(g:Nat)(p k:Array Value)(P:FV->Bool)(fa:Option Addr)(fs:List FV)(fc:Nat)(w:World)(eg:∀args w,(callFunc g args).run prog w=.ok (.enter g args) w)(hl:fs.length<=1000000000)(hF:ru w fa fs)(hw:∀j,j<fs.length->∀W:World,Below w.heap.size w W->Calls prog g (p.push (bJ (fs.getD j dM).1 (j5 (fs.getD j dM)))++k) W fun e W'=>e=.returned (.bool (P (fs.getD j dM)))/\Below W.heap.size W W'):
  Calls prog 190 #[.slice fa fs.length fc,.func (.func g) p k] w fun e w'=>e=.returned (.int .i64 (tJ P fs))/\Below w.heap.size w w':=by
 have HF:=hid hF;have HW:=hid hw;clear hF hw;obtain⟨X,hX⟩:∃X,X=tJ P fs:=⟨_,rfl⟩;have HX:=hid hX;rw[<-hX];clear hX;go_enter func190,ntmps190;go_wp2
 go_loopw [8] (fun s8 wr=>∃i:Nat,i<=fs.length/\s8=.int .i64 i/\Hid ((∀j,j<i->P (fs.getD j dM)=false)/\Below w.heap.size w wr)) (fun s8 _=>fs.length-(intOf s8).toNat)
 case atStart=>exact⟨0,Nat.zero_le _,rfl,(⟨fun j hj=>absurd hj (Nat.not_lt_zero _),KG _ _⟩:_/\_)⟩
 case round=>
  obtain⟨i,hi,rfl,H⟩:=hrel
  by_cases U:i<fs.length
  ·have h2:(i:Int)<(fs.length:Int):=by omega
   obtain⟨b,off,ha,Z⟩:=HF.out i U;subst ha
   have G:∀V,V<10->wr.cell? ⟨b,off+i*10+V,none⟩=(bX (fs.getD i dM).1 (j5 (fs.getD i dM)))[V]?:=fun V h0=>by
    rw[H.out.2.cell (p:=⟨b,off+i*10+V,none⟩) (tL (a:=⟨b,off+i*10+0,none⟩) _ (Z 0 (by omega)))];exact Z V h0
   have c0:=G 0 (by omega);have c1:=G 1 (by omega);have c2:=G 2 (by omega);have c3:=G 3 (by omega);have c4:=G 4 (by omega);have c5:=G 5 (by omega);have c6:=G 6 (by omega);have c7:=G 7 (by omega);have c8:=G 8 (by omega);have c9:=G 9 (by omega);have I:=HW.out i U wr H.out.2
   have HP:Hid (∀b,P (fs.getD i dM)=b->P (fs.getD i dM)=b):=fun _ h=>h
   cases hp:P (fs.getD i dM)
   ·rw[hp]at I;have HQ:=hid hp;clear hp G Z HP;generalize fs.getD i dM=F at c0 c1 c2 c3 c4 c5 c6 c7 c8 c9 I;obtain⟨F,r1,r2,r3⟩:=F;unfold bJ at I;simp only[j5,wz,uj,Si]at c0 c1 c2 c3 c4 c5 c6 c7 c8 c9 I
    go_wp2_with (first
     |(go_at_fn g;refine I.mono ?_;rintro e w2 ⟨rfl,O⟩)
     |go_in)
    go_roundw
    case rel=>exact⟨i+1,by omega,by simp,(⟨fun j hj=>(by
     by_cases h:j=i
     ·rw[h];exact HQ.out
     ·exact H.out.1 j (by omega)),H.out.2.trans (O.mono H.out.2.size)⟩:_/\_)⟩
    case measure=>simp[intOf];omega
   ·rw[hp]at I;have HQ:=hid hp;clear hp G Z HP;generalize fs.getD i dM=F at c0 c1 c2 c3 c4 c5 c6 c7 c8 c9 I;obtain⟨F,r1,r2,r3⟩:=F;unfold bJ at I;simp only[j5,wz,uj,Si]at c0 c1 c2 c3 c4 c5 c6 c7 c8 c9 I
    go_wp2_with (first
     |(go_at_fn g;refine I.mono ?_;rintro e w2 ⟨rfl,O⟩)
     |go_in)
    go_ret;exact⟨by rw[HX.out,Ky i U H.out.1 HQ.out];rfl,H.out.2.trans (O.mono H.out.2.size)⟩
  ·obtain rfl:i=fs.length:=by omega
   go_wp2;go_ret;exact⟨by rw[HX.out,Kw H.out.1];rfl,H.out.2⟩
theorem Dv(g:Nat)(p k:Array Value)(P:FV->Bool)(fa:Option Addr)(fs:List FV)(G:Nat)(w:World)(U:∀args w,(callFunc g args).run prog w=.ok (.enter g args) w)(hl:fs.length<=1000000000)(hF:ru w fa fs)(H:∀j,j<fs.length->∀W:World,Below w.heap.size w W->Calls prog g (p.push (bJ (fs.getD j dM).1 (j5 (fs.getD j dM)))++k) W fun e O=>e=.returned (.bool (P (fs.getD j dM)))/\Below W.heap.size W O):
  Calls prog 231 #[.slice fa fs.length G,.func (.func g) p k] w fun e w'=>e=.returned (.bool (fs.any P))/\Below w.heap.size w w':=by
 have I:=hid (wU g p k P fa fs G w U hl hF H)
 have V:decide ((0:Int)<=tJ P fs)=fs.any P:=by
  unfold tJ;cases h:fs.any P
  ·rw[if_neg (by simp)];rfl
  ·rw[if_pos rfl];exact decide_eq_true (Int.natCast_nonneg _)
 generalize fs.any P=B at *;generalize tJ P fs=X at *;clear H hF;go_enter func231,ntmps231
 go_wp2_with (first
  |(go_at_call 190;refine I.out.mono ?_;rintro e Z ⟨rfl,F⟩)
  |go_in)
 go_ret;exact⟨rfl,F⟩
theorem Wj(f:Fr)(rv:Value)(w:World):Calls prog 232 #[bJ f rv] w fun e w'=>e=.returned (.bool (decide (f.kind≠2)))/\Below w.heap.size w w':=by
 unfold bJ;go_enter func232,ntmps232;go_wp2;go_ret;refine⟨congrArg (fun b=>Ending.returned (.bool b)) ?_,(KG _ w).alloc (DJ _) _⟩;rw[Bool.eq_iff_iff];simp
theorem zQ(fa:Option Addr)(L:List FV)(G:Nat)(w:World)(hl:L.length<=1000000000)(hF:ru w fa L):
  Calls prog 182 #[.slice fa L.length G] w fun e w'=>e=.returned (.bool (wants (L.map Prod.fst)))/\Below w.heap.size w w':=by
 have H:=hid (Dv 232 #[] #[] (fun f=>decide (f.1.kind≠2)) fa L G w (enters_of func232 (by kernel_rfl) rfl) hl hF (fun j _ W _=>Wj _ _ W))
 have e:wants (L.map Prod.fst)=L.any fun f=>decide (f.1.kind≠2):=by unfold wants;rw[List.any_map];rfl
 rw[e];generalize (L.any fun f=>decide (f.1.kind≠2))=B at *;clear hF;go_enter func182,ntmps182
 go_wp2_with (first
  |(go_at_call 231;refine H.out.mono ?_;rintro e I ⟨rfl,F⟩)
  |go_in)
 go_ret;exact⟨rfl,F⟩
theorem oz:∀L:List FV,(lS L).length=L.length*10
 |[]=>rfl
 |x::t=>by show(bX x.1 (j5 x)++lS t).length=_;rw[qa3,oz t];simp;omega
theorem rz:∀L K:List FV,lS (L++K)=lS L++lS K
 |[],_=>rfl
 |x::t,K=>by show bX x.1 (j5 x)++lS (t++K)=(bX x.1 (j5 x)++lS t)++lS K;rw[rz t K,List.append_assoc]
theorem nQ:∀(vs:List Value) (j:Nat) (l:List Value),j+vs.length<=l.length->iU j vs l=splice l j vs
 |[],j,l,h=>by show l=splice l j [];simp[splice]
 |v::vs,j,l,h=>by
  show iU (j+1) vs (l.set j v)=splice l j (v::vs);simp only[List.length_cons]at h;rw[nQ vs (j+1) (l.set j v) (by rw[qae];omega)]
  refine List.ext_getElem? fun i=>?_
  rw[gu _ _ _ (by rw[qae];omega),gu _ _ _ (by simp;omega)]
  by_cases h1:i<j
  ·rw[if_pos (by omega),if_pos h1,Xw (by omega)]
  ·by_cases G:i=j
   ·subst G;rw[if_pos (by omega),if_neg h1,if_pos (by simp),List.getElem?_set_self (by omega)];simp
   ·rw[if_neg (by omega),if_neg h1]
    by_cases F:i<j+1+vs.length
    ·rw[if_pos F,if_pos (by simp;omega),show i-j=(i-(j+1))+1 by omega];simp
    ·rw[if_neg F,if_neg (by simp;omega),Xw (by omega)]
structure Bh (w:World) (b n:Nat) (L:List FV) (q:FV->Bool) (len:Nat) (i j:Nat) (cs:List Value) (y:World):Prop where
 blk:ak y b 65 cs
 len:cs.length=len
 done:cs.take (i*10)=lS ((L.take j).filter q)
 left:(cs.take (n*10)).drop (j*10)=lS (L.drop j)
 one:∀v∈cs,v.oneCell'=true
 num:((L.take j).filter q).length=i
 gr:w.grownBy y (some b)
theorem Bh.cell{w:World}{b n:Nat}{L:List FV}{q:FV->Bool}{len i j:Nat}{cs:List Value}{y:World}(h:Bh w b n L q len i j cs y)(F:j<L.length)(k:Nat)(G:k<10):y.cell? ⟨b,j*10+k,none⟩=(bX (L.getD j dM).1 (j5 (L.getD j dM)))[k]?:=by
 have e:L.drop j=L.getD j dM::L.drop (j+1):=by
  rw[mR,jK F];exact CK F
 have h1:((cs.take (n*10)).drop (j*10))[k]?=(bX (L.getD j dM).1 (j5 (L.getD j dM)))[k]?:=by
  rw[h.left,e];show(bX (L.getD j dM).1 (j5 (L.getD j dM))++lS (L.drop (j+1)))[k]?=_;rw[R3 (by simpa using G)]
 rw[h.blk.cell];rw[List.getElem?_drop,qa2]at h1;split at h1
 ·exact h1
 ·rename_i H
  have:(bX (L.getD j dM).1 (j5 (L.getD j dM)))[k]?.isSome=true:=by
   rw[jK (by simpa using G)];rfl
  rw[<-h1]at this;cases this
theorem Bh.skip{w:World}{b n:Nat}{L:List FV}{q:FV->Bool}{len i j:Nat}{cs:List Value}{y z:World}(h:Bh w b n L q len i j cs y)(F:j<L.length)(hq:q (L.getD j dM)=false)(hB:ak z b 65 cs)(H:w.grownBy z (some b)):Bh w b n L q len i (j+1) cs z:=by
 have e:L.take (j+1)=L.take j++[L.getD j dM]:=by
  rw[mR,jK F,qa7,jK F];rfl
 have G:(L.take (j+1)).filter q=(L.take j).filter q:=by rw[e,qa1,List.filter_cons_of_neg (by rw[hq];simp),qac,List.append_nil]
 refine⟨hB,h.len,by rw[G];exact h.done,?_,h.one,by rw[G];exact h.num,H⟩;have:=congrArg (List.drop 10) h.left;rw[qaf,CK F]at this;rw[show(j+1)*10=j*10+10 by omega,this];rfl
theorem Bh.keep{w:World}{b n:Nat}{L:List FV}{q:FV->Bool}{len i j:Nat}{cs:List Value}{y z:World}(h:Bh w b n L q len i j cs y)(X:n*10<=len)(V:j<n)(U:i<j)(H:j<L.length)(hq:q (L.getD j dM)=true)(hB:ak z b 65 (iU (i*10) (bX (L.getD j dM).1 (j5 (L.getD j dM))) cs))(h1:∀v∈bX (L.getD j dM).1 (j5 (L.getD j dM)),v.oneCell'=true)(O:w.grownBy z (some b)):Bh w b n L q len (i+1) (j+1) (iU (i*10) (bX (L.getD j dM).1 (j5 (L.getD j dM))) cs) z:=by
 have e:L.take (j+1)=L.take j++[L.getD j dM]:=by
  rw[mR,jK H,qa7,jK H];rfl
 have I:(L.take (j+1)).filter q=(L.take j).filter q++[L.getD j dM]:=by rw[e,qa1,List.filter_cons_of_pos hq,qac]
 have F:i*10+(bX (L.getD j dM).1 (j5 (L.getD j dM))).length<=cs.length:=by rw[h.len];simp;omega
 have l10:(bX (L.getD j dM).1 (j5 (L.getD j dM))).length=10:=rfl;refine⟨hB,by rw[wX];exact h.len,?_,?_,wY _ _ _ h.one h1,by rw[I,qa3,h.num];rfl,O⟩
 ·rw[nQ _ _ _ F,show(i+1)*10=i*10+(bX (L.getD j dM).1 (j5 (L.getD j dM))).length by rw[l10];omega,dR _ _ _ F,h.done,I,rz];simp[lS]
 ·have hd:=congrArg (List.drop 10) h.left;rw[qaf,CK H]at hd
  have G:(cs.take (n*10)).drop ((j+1)*10)=lS (L.drop (j+1)):=by rw[show(j+1)*10=j*10+10 by omega,hd];rfl
  rw[<-G,tK,nQ _ _ _ (by rw[tT,l10];omega),kg _ _ _ _ (by rw[tT,l10];omega) (by rw[l10];omega)]
theorem Bh.below{w:World}{b n:Nat}{L:List FV}{q:FV->Bool}{len i j:Nat}{cs:List Value}{y z:World}(h:Bh w b n L q len i j cs y)(hb:Below y.heap.size y z):Bh w b n L q len i j cs z:=
 ⟨bV hb h.blk,h.len,h.done,h.left,h.one,h.num,h.gr.andThen (gq hb) (fun j F=>by cases F)⟩
theorem Bj:∀(L:List FV) (j k:Nat),j<L.length->k<10->(lS L)[j*10+k]?=(bX (L.getD j dM).1 (j5 (L.getD j dM)))[k]?
 |[],_,_,h,_=>by simp at h
 |x::t,0,k,_,hk=>by
  show(bX x.1 (j5 x)++lS t)[0*10+k]?=_;rw[R3 (by simpa using hk)];simp only[Nat.zero_mul,qah];rfl
 |x::t,j+1,k,h,hk=>by
  show(bX x.1 (j5 x)++lS t)[(j+1)*10+k]?=_;rw[List.getElem?_append_right (by simp;omega),show(j+1)*10+k-(bX x.1 (j5 x)).length=j*10+k by simp;omega];exact Bj t j k (by simpa using h) hk
theorem Kz(P:FV->Bool)(L:List FV):(tJ P L= -1/\L.filter (fun x=> !P x)=L)\/∃i:Nat,tJ P L=(i:Int)/\i<L.length/\P (L.getD i dM)=true/\(L.take i).filter (fun x=> !P x)=L.take i:=by
 unfold tJ;cases h:L.any P
 ·refine .inl ⟨by simp,M4.2 fun x F=>?_⟩;have:=List.any_eq_false.1 h x F;simpa using this
 ·rw[if_pos rfl];have hi:L.findIdx P<L.length:=List.findIdx_lt_length_of_exists (by obtain⟨x,F,hp⟩:=Kt.1 h;exact⟨x,F,hp⟩);refine .inr ⟨_,rfl,hi,?_,M4.2 fun x F=>?_⟩
  ·rw[mR,jK hi];exact List.findIdx_getElem
  ·obtain⟨j,G,rfl⟩:=ZE F;rw[tT]at G;rw[List.getElem_take];have:=List.not_of_lt_findIdx (p:=P) (xs:=L) (i:=j) (by omega);simpa using this
theorem I_(f:Fr)(rv:Value)(h:rv.oneCell'=true):∀v∈bX f rv,v.oneCell'=true:=by
 intro v F;simp only[Lb,List.not_mem_nil,or_false]at F
 rcases F with rfl|rfl|rfl|rfl|rfl|rfl|rfl|rfl|rfl|rfl
 all_goals first|rfl|exact h
theorem yZ(g:Nat)(p k:Array Value)(P:FV->Bool)(b n c:Nat)(L:List FV)(cs:List Value)(w:World)(eg:∀args w,(callFunc g args).run prog w=.ok (.enter g args) w)(hn:L.length=n)(hl:n<=100000)(xa:n<=c)(hB:ak w b 65 cs)(h9:n*10<=cs.length)(ht:cs.take (n*10)=lS L)(h1:∀v∈cs,v.oneCell'=true)(hw:∀j,j<L.length->∀W:World,Calls prog g (p.push (bJ (L.getD j dM).1 (j5 (L.getD j dM)))++k) W fun e W'=>e=.returned (.bool (P (L.getD j dM)))/\Below W.heap.size W W'):
  Calls prog 151 #[.slice (some ⟨b,0,none⟩) n c,.func (.func g) p k] w fun e w'=>∃G,e=.returned (.slice (some ⟨b,0,none⟩) (L.filter fun x=> !P x).length c)/\ak w' b 65 G/\G.length=cs.length/\G.take ((L.filter fun x=> !P x).length*10)=lS (L.filter fun x=> !P x)/\(∀v∈G,v.oneCell'=true)/\w.grownBy w' (some b):=by
 have hg:=hB.lt
 have hF:ru w (some ⟨b,0,none⟩) L:=fun j hj=>⟨b,0,rfl,fun i hi=>by
  rw[hB.cell,<-Bj L j i hj hi,<-ht,qa2,if_pos (by omega),qah]⟩
 have HI:=hid (wU g p k P (some ⟨b,0,none⟩) L c w eg (by omega) hF (fun j hj W _=>hw j hj W));rw[hn]at HI;have hu:=hB
 rcases Kz P L with⟨e1,e2⟩|⟨i0,e1,hi0,hp0,hf0⟩
 ·rw[e1]at HI;rw[e2,hn]
  have HF:Hid (∀w2,Below w.heap.size w w2->ak w2 b 65 cs/\cs.take (n*10)=lS L/\(∀v∈cs,v.oneCell'=true)/\w.grownBy w2 (some b)):=fun w2 Z=>⟨bV Z hB,ht,h1,(gq Z).but _⟩
  clear hB ht h1 hw hF hu e2;go_enter func151,ntmps151
  go_wp2_with (first
   |(go_at_call 190;refine HI.out.mono ?_;rintro e w2 ⟨rfl,Z⟩)
   |go_in)
  go_ret;obtain⟨a1,a2,a3,a4⟩:=HF.out _ Z;exact⟨cs,rfl,a1,rfl,a2,a3,a4⟩
 ·rw[e1]at HI
  have ha:Bh w b n L (fun x=> !P x) cs.length i0 (i0+1) cs w:=by
   have D:Bh w b n L (fun x=> !P x) cs.length i0 i0 cs w:=by
    refine⟨hB,rfl,?_,?_,h1,by rw[hf0,tT];omega,⟨rfl,rfl,rfl,DJ _,fun _ _ _=>rfl⟩⟩
    ·rw[hf0];have e:=congrArg (List.take (i0*10)) ht;rw[List.take_take,Nat.min_eq_left (by omega)]at e;rw[e]
     have e3:lS L=lS (L.take i0)++lS (L.drop i0):=by rw[<-rz,Vp]
     rw[e3,List.take_append_of_le_length (by rw[oz,tT];omega),Vh (by rw[oz,tT];omega)]
    ·rw[ht]
     have e3:lS L=lS (L.take i0)++lS (L.drop i0):=by rw[<-rz,Vp]
     rw[e3,List.drop_append_of_le_length (by rw[oz,tT];omega),List.drop_of_length_le (by rw[oz,tT];omega),List.nil_append]
   exact D.skip hi0 (by rw[hp0];rfl) hB D.gr
  have HD:=hid ha;have HW:=hid hw
  have hv:i0<n:=by omega
  have hm:((i0:Int)== -1)=false:=by rw[beq_eq_false_iff_ne];omega
  clear ha hB ht h1 hw hF hu hf0 hp0;go_enter func151,ntmps151
  go_wp2_with (first
   |(go_at_call 190;refine HI.out.mono ?_;rintro e w2 ⟨rfl,Z⟩)
   |go_in)
  go_loopw [5,6] (fun s5 s6 wr=>∃(i j:Nat) (G:List Value),i<j/\j<=n/\s5=.int .i64 i/\s6=.int .i64 j/\Hid (Bh w b n L (fun x=> !P x) cs.length i j G wr)) (fun _ s6 _=>n-(intOf s6).toNat)
  case atStart=>exact⟨i0,i0+1,cs,by omega,by omega,rfl,by simp,(HD.out.below Z:Bh _ _ _ _ _ _ _ _ _ _)⟩
  case round=>
   obtain⟨i,j,G,he,hy,rfl,rfl,I⟩:=hrel
   by_cases hf:j<n
   ·have hk:(j:Int)<(n:Int):=by omega
    have c0:=I.out.cell (by omega) 0 (by omega);have c1:=I.out.cell (by omega) 1 (by omega);have c2:=I.out.cell (by omega) 2 (by omega);have c3:=I.out.cell (by omega) 3 (by omega);have c4:=I.out.cell (by omega) 4 (by omega);have c5:=I.out.cell (by omega) 5 (by omega);have c6:=I.out.cell (by omega) 6 (by omega);have c7:=I.out.cell (by omega) 7 (by omega);have c8:=I.out.cell (by omega) 8 (by omega);have c9:=I.out.cell (by omega) 9 (by omega);obtain⟨W3,O⟩:∃W3,W3=wr.alloc (.cells (bX (L.getD j dM).1 (j5 (L.getD j dM))).toArray 65):=⟨_,rfl⟩
    have h4:Below wr.heap.size wr W3:=by rw[O];exact(KG _ wr).alloc (DJ _) _
    have h7:ak W3 wr.heap.size 65 (bX (L.getD j dM).1 (j5 (L.getD j dM))):=by rw[O];exact ak.new wr 65 _
    have hc:=HW.out j (by omega) W3;have h8:=hid h4;have H1:Hid (∀v∈bX (L.getD j dM).1 (j5 (L.getD j dM)),v.oneCell'=true):=I_ _ _ rfl;cases hp:P (L.getD j dM)
    ·rw[hp]at hc
     have HK:Hid (∀z,ak z b 65 (iU (i*10) (bX (L.getD j dM).1 (j5 (L.getD j dM))) G)->w.grownBy z (some b)->Bh w b n L (fun x=> !P x) cs.length (i+1) (j+1) (iU (i*10) (bX (L.getD j dM).1 (j5 (L.getD j dM))) G) z):=fun z h2 h3=>I.out.keep h9 hf he (by omega) (by rw[hp];rfl) h2 H1.out h3
     have h6:=I.out.below h4
     have H:∀x,x<10->∃v,G[i*10+x]?=some v:=fun x hx=>⟨_,jK (by rw[I.out.len];omega)⟩
     obtain⟨t0,q0⟩:=H 0 (by omega);obtain⟨t1,q1⟩:=H 1 (by omega);obtain⟨t2,q2⟩:=H 2 (by omega);obtain⟨t3,q3⟩:=H 3 (by omega);obtain⟨t4,q4⟩:=H 4 (by omega);obtain⟨t5,q5⟩:=H 5 (by omega);obtain⟨t6,q6⟩:=H 6 (by omega);obtain⟨t7,q7⟩:=H 7 (by omega);obtain⟨t8,q8⟩:=H 8 (by omega);obtain⟨t9,q9⟩:=H 9 (by omega);have J6:=hid h6.blk;have uE:=hid h7;have HG:=hid h6.gr
     have xd:(i:Int)<(n:Int):=by omega
     have ho:¬(wr.heap.size=b):=fun e=>by have:=I.out.blk.lt;omega
     have hr:Hid (∀z,ak z b 65 G->∀j',z.cell? ⟨b,j',none⟩=G[j']?):=fun z hz j'=>hz.cell j'
     clear hp H1 h4 h7 h6 H;generalize L.getD j dM=F at c0 c1 c2 c3 c4 c5 c6 c7 c8 c9 hc O HK uE;obtain⟨F,r1,r2,r3⟩:=F;unfold bJ at hc;simp only[j5,wz,uj,Si]at c0 c1 c2 c3 c4 c5 c6 c7 c8 c9 hc O HK uE q0
     go_wp2_with (first
      |(go_at_fn g;rw[<-O];refine hc.mono ?_;rintro e w3 ⟨rfl,h0⟩;have V:=bV h0 J6.out;have bx:=bV h0 uE.out;have y0:w3.cell? ⟨b,i*10,none⟩=some t0:=(V.cell _).trans q0;have y1:w3.cell? ⟨b,i*10+1,none⟩=some t1:=(V.cell _).trans q1;have y2:w3.cell? ⟨b,i*10+2,none⟩=some t2:=(V.cell _).trans q2;have y3:w3.cell? ⟨b,i*10+3,none⟩=some t3:=(V.cell _).trans q3;have y4:w3.cell? ⟨b,i*10+4,none⟩=some t4:=(V.cell _).trans q4;have y5:w3.cell? ⟨b,i*10+5,none⟩=some t5:=(V.cell _).trans q5;have y6:w3.cell? ⟨b,i*10+6,none⟩=some t6:=(V.cell _).trans q6;have y7:w3.cell? ⟨b,i*10+7,none⟩=some t7:=(V.cell _).trans q7;have y8:w3.cell? ⟨b,i*10+8,none⟩=some t8:=(V.cell _).trans q8;have y9:w3.cell? ⟨b,i*10+9,none⟩=some t9:=(V.cell _).trans q9;have fz:=V.frozen;have x0:=bx.cell 0;have x1:=bx.cell 1;have x2:=bx.cell 2;have x3:=bx.cell 3;have x4:=bx.cell 4;have x5:=bx.cell 5;have x6:=bx.cell 6;have x7:=bx.cell 7;have x8:=bx.cell 8;have x9:=bx.cell 9;simp only[wz,uj]at x0 x1 x2 x3 x4 x5 x6 x7 x8 x9;replace V:=hid V;replace bx:=hid bx)
      |go_in)
     have hT:=jd b (bX F (.slice r1 r2 r3)) (i*10) w3;refine⟨⟨i+1,j+1,_,by omega,by omega,by simp,by simp,(HK.out (jE b (i*10) (bX F (.slice r1 r2 r3)) w3) (jR _ _ _ _ V.out) ((HG.out.andThen (gq h0) (fun j hj=>by cases hj)).andThen (row':=some b) ⟨hT.os,hT.tape,hT.output,by rw[hT.size];exact DJ _,fun x _ hx=>hT.block x (fun e=>hx (by rw[e]))⟩ (fun j hj=>.inr (by rw[hj]))):Bh _ _ _ _ _ _ _ _ _ _)⟩,by simp[intOf];omega⟩
    ·rw[hp]at hc
     have HK:Hid (∀z,Below wr.heap.size wr z->Bh w b n L (fun x=> !P x) cs.length i (j+1) G z):=fun z h2=>I.out.skip (by omega) (by rw[hp];rfl) (bV h2 I.out.blk) (I.out.gr.andThen (gq h2) (fun j hj=>by cases hj))
     clear hp H1 h7 h4;generalize L.getD j dM=F at c0 c1 c2 c3 c4 c5 c6 c7 c8 c9 hc O;obtain⟨F,r1,r2,r3⟩:=F;unfold bJ at hc;simp only[j5,wz,uj,Si]at c0 c1 c2 c3 c4 c5 c6 c7 c8 c9 hc O
     go_wp2_with (first
      |(go_at_fn g;rw[<-O];refine hc.mono ?_;rintro e w3 ⟨rfl,h0⟩)
      |go_in)
     go_roundw
     case rel=>exact⟨i,j+1,G,by omega,by omega,rfl,by simp,(HK.out _ (h8.out.trans (h0.mono h8.out.size)):Bh _ _ _ _ _ _ _ _ _ _)⟩
     case measure=>simp[intOf];omega
   ·obtain rfl:j=n:=by omega
    have hS:=I.out;have h5:(Bu l6.cells (j-i)).toList.length=(j-i)*10:=A9.hz _
    have YZ:∀ty cc,(Builtin.clear_ #[54] ty #[.slice (some ⟨b,i*10,none⟩) (j-i) cc]).run prog wr=.ok (.tuple #[]) (put wr b (splice G (i*10) (Bu l6.cells (j-i)).toList)):=fun ty cc=>
     dO (P:=prog) (o:=i*10) (n:=j-i) (c:=cc) 54 65 ty _ A9.ht (fun w=>by kernel_rfl) hS.blk (by omega) (by rw[h5,hS.len];omega) (A9.h1 _)
    have ef:L.filter (fun x=> !P x)=(L.take j).filter (fun x=> !P x):=by rw[Vh (by omega)]
    have Wn:=hS.num;rw[<-ef]at Wn
    have HF:Hid (∃U,U=splice G (i*10) (Bu l6.cells (j-i)).toList/\ak (put wr b (splice G (i*10) (Bu l6.cells (j-i)).toList)) b 65 U/\U.length=cs.length/\U.take (i*10)=lS (L.filter fun x=> !P x)/\(∀v∈U,v.oneCell'=true)/\w.grownBy (put wr b (splice G (i*10) (Bu l6.cells (j-i)).toList)) (some b)):=by
     refine⟨_,rfl,hS.blk.put _,by rw[aG _ _ _ (by rw[h5,hS.len];omega)];exact hS.len,?_,aS hS.one (A9.h1 _),hS.gr.andThen (aT wr b _) (fun j hj=>.inr (by rw[hj]))⟩;rw[dz _ _ _ _ (by rw[h5,hS.len];omega) (DJ _),hS.done,ef]
    have HN:=hid Wn;generalize splice G (i*10) (Bu l6.cells (j-i)).toList=X at YZ HF;clear ef Wn h5 hS
    have k1:(i:Int)<=(j:Int):=by omega
    have k2:(i:Int)<=(c:Int):=by omega
    have k3:(j:Int)<=(c:Int):=by omega
    have k4:i<=j:=by omega
    have k5:i<=c:=by omega
    go_wp2;go_ret;obtain⟨U,_,a1,a2,a3,a4,a5⟩:=HF.out;rw[HN.out];exact⟨U,rfl,a1,a2,a3,a4,a5⟩
end Go.Proofs.YtphbledmopchnaaGreatDoor.Sd
namespace Go.Proofs.YtphbledmopchnaaGreatDoor.Sd
open Go.RowKit Go.Lib Mm Go.Maps Tryz
section
section
variable {F:Fence} {n:Nat} (w:World) {ops:Array Oper} {rest:List Oper} {o:Oper} {a:Act} {Q:Exit->Act->World->Prop}
theorem GK(V:o.guard=none)(m:Operand)(G:o.op=Op.range 203 m)(b:Nat)(l:List fO)(X:a.eval m=.map (some b))(h:iD w b l)(O:∀w',nN w' b w.heap.size l l->w.grownBy w' none->w'.heap.size=w.heap.size+1->wpListIn F n prog ops Q rest (a.put o.dst (.pointer (some ⟨w.heap.size,0,none⟩))) w'):
  wpListIn F n prog ops Q (o::rest) a w:=by
 refine wpListIn_plain V fun K' I=>?_
 obtain⟨w',H,Z,r2,r3⟩:=h.range;unfold Oper.wpIn;constructor
 ·simp[Oper.about,G]
 ·rw[Oper.semAt_plain F _ _ (by rw[G];intro c U;cases U)];simp[execOp,G,X,H,Result.andThen];exact I _ _ (O w' Z r2 r3)
theorem Le(Z:o.guard=none)(it:Operand)(H:o.op=Op.next it false)(b r:Nat)(l lf:List fO)(hit:a.eval it=.pointer (some ⟨r,0,none⟩))(h:nN w b r l lf)(I:lf=[]->wpListIn F n prog ops Q rest (a.put o.dst (.tuple #[.bool false])) w)(O:∀(x:fO) (w':World),x∈lf->x.1<18446744073709551616->nN w' b r l (lf.filter fun y=> !decide (y.1=x.1))->w'.rangeLeft b r<w.rangeLeft b r->w.grownBy w' (some r)->w'.heap.size=w.heap.size->
   (Instr.entry (.pointer (some ⟨r,0,none⟩))).run prog w'=.ok (.tuple #[.int .u64 x.1,pK x.2]) w'->wpListIn F n prog ops Q rest (a.put o.dst (.tuple #[.bool true,.int .u64 x.1,pK x.2])) w'):
  wpListIn F n prog ops Q (o::rest) a w:=by
 refine wpListIn_plain Z fun K' U=>?_
 unfold Oper.wpIn;constructor
 ·simp[Oper.about,H]
 ·rw[Oper.semAt_plain F _ _ (by rw[H];intro c X;cases X)]
  rcases h.next o.type with⟨V,G⟩|⟨x,w',h1,h2,G,h3,h4,h5,h6,h7⟩
  ·simp[execOp,H,hit,G,Result.andThen];exact U _ _ (I V)
  ·simp[execOp,H,hit,G,Result.andThen];exact U _ _ (O x w' h1 h2 h3 h4 h5 h6 h7)
end

end
end Go.Proofs.YtphbledmopchnaaGreatDoor.Sd
namespace Go.Proofs.YtphbledmopchnaaGreatDoor.Sd
open Go.RowKit Go.Lib Mm Tryz
theorem L6(S tick named n:Nat)(x:Option Addr×Nat×Nat×Nat)(w:World)(c3:w.cell? ⟨S,3,none⟩=some (.int .u64 tick))(c232:w.cell? ⟨S,232,none⟩=some (.int .u64 named))(ht:x.2.2.2<=tick)(h2:tick<18446744073709551616)(hn:n+3<18446744073709551616):
  Calls prog 192 #[.pointer (some ⟨S,0,none⟩),.int .u64 n,pK x] w fun e w'=>e=.returned (.bool (decide (6<=tick-x.2.2.2)||decide (n+3<named)))/\Below w.heap.size w w':=by
 obtain⟨fa,fl,G,t⟩:=x
 have h3:IntKind.u64.wrap ((tick:Int)-(t:Int))=((tick-t:Nat):Int):=by
  rw[IntKind.wrap_u64];have I:t<=tick:=ht;omega
 have h4:IntKind.u64.wrap ((n:Int)+3)=((n+3:Nat):Int):=by
  rw[IntKind.wrap_u64];omega
 have I:t<=tick:=ht;clear ht
 show Calls prog 192 #[.pointer (some ⟨S,0,none⟩),.int .u64 n,.agg #[.slice fa fl G,.int .u64 t]] w fun e w'=>e=.returned (.bool (decide (6<=tick-t)||decide (n+3<named)))/\Below w.heap.size w w'
 generalize X:tick-t=D at *;generalize Z:n+3=U at *;clear X Z;obtain⟨W,F⟩:∃W,W=w.alloc (.cells #[.slice fa fl G,.int .u64 t] 289):=⟨_,rfl⟩
 have hb:Below w.heap.size w W:=by rw[F];exact(KG _ w).alloc (DJ _) _
 have k3:W.cell? ⟨S,3,none⟩=some (.int .u64 tick):=cell_of c3 (hb.block _ (tL w _ (by rw[c3])));have k4:W.cell? ⟨S,232,none⟩=some (.int .u64 named):=cell_of c232 (hb.block _ (tL w _ (by rw[c232])))
 have k5:W.cell? ⟨w.heap.size,1,none⟩=some (.int .u64 t):=by rw[F];exact(ak.new w 289 [.slice fa fl G,.int .u64 t]).cell 1
 have O:Hid (∀q,Below w.heap.size w (W.drewN q)):=fun q=>⟨hb.os,hb.tape,hb.output,hb.size,hb.block⟩
 clear c3 c232 hb
 by_cases V:6<=D
 ·have H:(6:Int)<=(D:Int):=by omega
  rw[decide_eq_true V];go_enter func192,ntmps192;go_wp2;rw[<-F];clear F
  go_quiet (fail)
  go_wp2;go_ret;exact⟨rfl,O.out _⟩
 ·have H:decide ((6:Int)<=(D:Int))=false:=decide_eq_false (by omega);rw[decide_eq_false V]
  have h0:(decide ((U:Int)<(named:Int)))=decide (U<named):=by simp
  go_enter func192,ntmps192;go_wp2;rw[<-F];clear F
  go_quiet (fail)
  go_wp2;go_ret;exact⟨by simp,O.out _⟩
theorem WM(S b n nx:Nat)(x:Option Addr×Nat×Nat×Nat)(w:World)(c0:w.cell? ⟨b,0,none⟩=some (.pointer (some ⟨S,0,none⟩)))(c229:w.cell? ⟨S,229,none⟩=some (.int .u64 nx))(O:n+64<18446744073709551616):
  Calls prog 195 #[.int .u64 n,pK x,.pointer (some ⟨b,0,none⟩)] w fun e w'=>e=.returned (.bool (decide (n+64<nx)))/\Below w.heap.size w w':=by
 obtain⟨fa,fl,F,t⟩:=x
 have H:IntKind.u64.wrap ((n:Int)+64)=((n+64:Nat):Int):=by
  rw[IntKind.wrap_u64];omega
 show Calls prog 195 #[.int .u64 n,.agg #[.slice fa fl F,.int .u64 t],.pointer (some ⟨b,0,none⟩)] w fun e w'=>e=.returned (.bool (decide (n+64<nx)))/\Below w.heap.size w w'
 generalize G:n+64=I at *;clear G;have l1:b<w.heap.size:=tL w _ (by rw[c0]);have l2:S<w.heap.size:=tL w _ (by rw[c229]);go_enter func195,ntmps195;go_wp2;go_ret;exact⟨by simp,(KG _ w).alloc (DJ _) _⟩
theorem GZ{rs:List (Nat×Nat)}{k n:Nat}(F:k<rs.length):names (rs.drop k) n=(decide ((rs.getD k (0,0)).1<=n)&&decide (n<=(rs.getD k (0,0)).2)||names (rs.drop (k+1)) n):=by
 have e:rs.drop k=rs.getD k (0,0)::rs.drop (k+1):=by
  rw[CK F,mR,jK F];rfl
 rw[e];rfl
theorem L8(a:Option Addr)(rs:List (Nat×Nat))(c n:Nat)(w:World)(hr:fq w a rs)(hl:rs.length<=1000000):
  Calls prog 338 #[.slice a rs.length c,.int .u64 n] w fun e w'=>e=.returned (.bool (names rs n))/\Below w.heap.size w w':=by
 have HR:=hid hr;clear hr;go_enter func338,ntmps338;go_wp2
 go_loopw [9] (fun s9 wr=>∃k:Nat,k<=rs.length/\s9=.int .i64 k/\Hid (Below w.heap.size w wr/\names (rs.drop k) n=names rs n)) (fun s9 _=>rs.length-(intOf s9).toNat)
 case atStart=>exact⟨0,Nat.zero_le _,rfl,KG _ _,rfl⟩
 case round=>
  obtain⟨k,hk,rfl,HI⟩:=hrel;obtain⟨hb,F⟩:=HI.out
  by_cases O:k<rs.length
  ·have h0:(k:Int)<(rs.length:Int):=by omega
   obtain⟨b,o,rfl,c0,c1,_⟩:=(HR.out.below hb) k O;have G:=GZ (n:=n) O;rw[F]at G;generalize rs.getD k (0,0)=xy at *;obtain⟨lo,hi⟩:=xy;dsimp only at c0 c1 G
   have H:Hid (∀o,Below w.heap.size w (wr.alloc o)):=fun o=>hb.alloc hb.size _
   have I:=hid G;clear F G hb
   by_cases h1:lo<=n
   ·have X:(lo:Int)<=(n:Int):=by omega
    by_cases h2:n<=hi
    ·have Z:(n:Int)<=(hi:Int):=by omega
     go_wp2;go_ret;exact⟨by rw[I.out,decide_eq_true h1,decide_eq_true h2];rfl,H.out _⟩
    ·have Z:¬(n:Int)<=(hi:Int):=by omega
     have V:Hid (names (rs.drop (k+1)) n=names rs n):=by rw[Hid,I.out,decide_eq_false h2];simp
     go_wp2;go_roundw
     case rel=>exact⟨k+1,by omega,by simp,H.out _,V.out⟩
     case measure=>simp[intOf];omega
   ·have X:¬(lo:Int)<=(n:Int):=by omega
    have V:Hid (names (rs.drop (k+1)) n=names rs n):=by rw[Hid,I.out,decide_eq_false h1];simp
    go_wp2;go_roundw
    case rel=>exact⟨k+1,by omega,by simp,H.out _,V.out⟩
    case measure=>simp[intOf];omega
  ·obtain rfl:k=rs.length:=by omega
   have HN:Hid (names rs n=false):=by rw[Hid,<-F,List.drop_length];rfl
   have U:=hid hb;clear F hb HI;go_wp2;go_ret;exact⟨by rw[HN.out];rfl,U.out⟩
theorem Ph(b n:Nat)(a:Option Addr)(rs:List (Nat×Nat))(c:Nat)(x:Option Addr×Nat×Nat×Nat)(w:World)(c0:w.cell? ⟨b,0,none⟩=some (.slice a rs.length c))(H:fq w a rs)(hl:rs.length<=1000000):
  Calls prog 337 #[.int .u64 n,pK x,.pointer (some ⟨b,0,none⟩)] w fun e w'=>e=.returned (.bool (names rs n))/\Below w.heap.size w w':=by
 obtain⟨fa,fl,F,t⟩:=x
 show Calls prog 337 #[.int .u64 n,.agg #[.slice fa fl F,.int .u64 t],.pointer (some ⟨b,0,none⟩)] w fun e w'=>e=.returned (.bool (names rs n))/\Below w.heap.size w w'
 have l1:b<w.heap.size:=tL w _ (by rw[c0]);have hb:Below w.heap.size w (w.alloc (.cells #[.slice fa fl F,.int .u64 t] 289)):=(KG _ w).alloc (DJ _) _
 have I:Hid (Calls prog 338 #[.slice a rs.length c,.int .u64 n] (w.alloc (.cells #[.slice fa fl F,.int .u64 t] 289)) fun e w'=>e=.returned (.bool (names rs n))/\Below w.heap.size w w'):=by
  refine(L8 a rs c n _ (H.below hb) hl).mono ?_;rintro e w' ⟨rfl,G⟩;exact⟨rfl,hb.trans (G.mono hb.size)⟩
 clear hb H;go_enter func337,ntmps337
 go_wp2_with (go_at_call 338;refine I.out.mono ?_;rintro e w' ⟨rfl,hb⟩)
 go_ret;exact⟨rfl,hb⟩
end Go.Proofs.YtphbledmopchnaaGreatDoor.Sd
