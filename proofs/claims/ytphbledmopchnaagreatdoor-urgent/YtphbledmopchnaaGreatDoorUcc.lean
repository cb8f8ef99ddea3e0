import Derived.Maps.RangeWalk
import Derived.Test.YtphbledmopchnaaGreatDoorUca
import Derived.LoopIn
import Derived.LoopNIn
import Derived.OwnWalkIn
import Derived.RangeFuncBound
import Derived.RangeFuncCalls
import Derived.RangeFuncLeaves
import Derived.RangeFuncNested
import Derived.Shelf.RegionOpen
import Derived.TacticsInMore
import Derived.Deep.CutRange
import Derived.Deep.RegionHeld3
import Derived.Defers
import Derived.Laws.IdiomStrings
import Derived.Recover
open Array renaming getElem?_eq_some_iff->tL,replicate_succ->Lb,replicate_zero->M4
open Go.RowKit.Below renaming refl->mR,heap_alloc->wz,heap_setCell->qab
open Go.Builtin renaming append_->qa0
open Go.Ending renaming returned->E8
open Go.Fence renaming wide->WJ
open List renaming mem_filter->nI,getElem?_append_right->uj,getElem?_cons_succ->Am,getElem?_cons_zero->Av,getD_eq_getElem?_getD->DT,getElem?_eq_getElem->He,length_cons->KG,length_nil->R3,append_toArray->SF,mem_cons->Ui,push_toArray->Ur,size_toArray->WA,cons_append->YF,nil_append->qa1,getElem?_eq_none->qa3,getElem?_take->qae,length_append->qag,mem_map->qah,any_eq_true->qao,length_map->qaq,map_append->qar
open Nat renaming le_refl->fA,lt_of_lt_of_le->Aw,le_of_lt->Kt,reduceAdd->qa5,reduceSub->qa9,le_trans->qai,lt_of_le_of_lt->qaj,zero_add->qay
open Go.Oper renaming semAt_plain->ZH,about->qas,wp->qav,wpIn->qaw
open Go.Value renaming ownBlock->tT,slice->qam
open Go.World renaming putObj_heap_other->fB,block_lt_of_cell?->sQ,putObj_heap_same->qa2,alloc_heap_new->qa4,grownBy_alloc->qaa
set_option maxHeartbeats 4000000
set_option maxRecDepth 100000
namespace Go.Proofs.YtphbledmopchnaaGreatDoor.Sd
open Go.RowKit Go.Lib Mm Go.Maps Tryz
def qX(x:Option Addr×Nat×Nat×Nat):Value:=.agg #[.slice x.1 x.2.1 x.2.2.1,.int .u64 x.2.2.2]
def pcR(v:Value):Option (DataW Value×List MemPlace):=match v with
 |.agg a=>match a.toList with
  |[.slice _ _ _,.int .u64 t]=>if 0<=t then some (.held v,[])else none
  |_=>none
 |_=>none
theorem OL(x:Option Addr×Nat×Nat×Nat):pcR (qX x)=some (.held (qX x),[]):=by
 show(if(0:Int)<=(x.2.2.2:Int)then some (DataW.held (qX x),([]:List MemPlace))else none)=_;rw[if_pos (Int.natCast_nonneg _)]
theorem Ue(v:Value)(y:DataW Value×List MemPlace)(h:pcR v=some y):∃c,v=qX c:=by
 unfold pcR at h;split at h
 ·rename_i a;split at h
  ·rename_i F n c t G;split at h
   ·rename_i ht;refine⟨(F,n,c,t.toNat),?_⟩;unfold qX
    have:a=#[.slice F n c,.int .u64 t]:=by
     cases a;simpa using G
    rw[this];simp only;rw[Int.toNat_of_nonneg ht]
   ·cases h
  ·cases h
 ·cases h
def en(x:Nat×(Option Addr×Nat×Nat×Nat)):Lit×DataW Value:=(.int .u64 x.1,.held (qX x.2))
abbrev gM:=Nat×(Option Addr×Nat×Nat×Nat)
theorem OM:Keyed prog 43:=int_keyed underlying43
theorem mmap:prog.underlying 203=some (.map 43 289):=by kernel_rfl
theorem OO(n:Nat)(h:n<18446744073709551616):keyOf prog 43 (.int .u64 n)=some (.int .u64 n):=keyOf_int_mk underlying43 (WalkArith.wf_u64 (by omega))
def jh(w:World)(b:Nat)(l:List gM):Prop:=∃es,w.ownsMap prog 43 pcR b l.length (.map es)/\es.Perm (l.map en)
def oU(w:World)(b r:Nat)(l lf:List gM):Prop:=
 ∃es av cnt,w.ranges prog 43 pcR b r l.length (.map es) av cnt/\es.Perm (l.map en)/\(∀x∈l,av (.int .u64 x.1)=true↔x∈lf)/\(∀x∈lf,x∈l)
theorem jh.perm{w:World}{b:Nat}{l l':List gM}(h:jh w b l)(hp:l.Perm l'):jh w b l':=by
 obtain⟨es,h1,F⟩:=h;exact⟨es,by rw[<-hp.length_eq];exact h1,F.trans (hp.map en)⟩
theorem jh.lt{w:World}{b:Nat}{l:List gM}(h:jh w b l):b<w.heap.size:=by
 obtain⟨es,h1,_⟩:=h;exact h1.lt
theorem jh.kept{w w':World}{b:Nat}{l:List gM}(h:jh w b l)(hb:w'.heap[b]?=w.heap[b]?):jh w' b l:=by
 obtain⟨es,⟨F,c1,G,H⟩,I⟩:=h;exact⟨es,⟨F,c1,hb.trans G,H⟩,I⟩
theorem oU.kept{w w':World}{b r:Nat}{l lf:List gM}(h:oU w b r l lf)(hb:w'.heap[b]?=w.heap[b]?)(X:w'.heap[r]?=w.heap[r]?):oU w' b r l lf:=by
 obtain⟨es,av,cnt,⟨F,c1,Z,n1,k1,G,H,I,K,O,U⟩,V⟩:=h;exact⟨es,av,cnt,⟨F,c1,Z,n1,k1,hb.trans G,H,I,K,X.trans O,U⟩,V⟩
theorem oU.map{w:World}{b r:Nat}{l lf:List gM}(h:oU w b r l lf):jh w b l:=by
 obtain⟨es,av,cnt,h1,F,_⟩:=h;exact⟨es,h1.owns,F⟩
theorem oU.lt{w:World}{b r:Nat}{l lf:List gM}(h:oU w b r l lf):r<w.heap.size:=by
 obtain⟨es,av,cnt,h1,_⟩:=h;exact h1.lt
theorem oU.sub{w:World}{b r:Nat}{l lf:List gM}(h:oU w b r l lf):∀x∈lf,x∈l:=by
 obtain⟨es,av,cnt,_,_,_,F⟩:=h;exact F
theorem jh.keys{w:World}{b:Nat}{l:List gM}(h:jh w b l):l.Pairwise fun x y=>x.1≠y.1:=by
 obtain⟨es,h1,G⟩:=h;obtain⟨F,e,hp,_⟩:=h1.entries OM;cases e;have:=(G.pairwise_iff (fun{_ _} hne=>Ne.symm hne)).1 hp;rw[List.pairwise_map]at this
 refine this.imp fun{x y} h e=>h ?_
 show Lit.int .u64 x.1=Lit.int .u64 y.1;rw[e]
theorem jh.nodup{w:World}{b:Nat}{l:List gM}(h:jh w b l):l.Nodup:=h.keys.imp fun F e=>F (by rw[e])
theorem OP:∀{l:List gM},(l.Pairwise fun x y=>x.1≠y.1)->∀{x y:gM},x∈l->y∈l->x.1=y.1->x=y
 |[],_,_,_,hx,_,_=>by cases hx
 |a::t,hp,x,y,hx,hy,e=>by
  obtain⟨h1,F⟩:=List.pairwise_cons.1 hp
  rcases Ui.1 hx with hx'|hx'
  ·rcases Ui.1 hy with hy'|hy'
   ·rw[hx',hy']
   ·exact absurd e (by rw[hx'];exact h1 y hy')
  ·rcases Ui.1 hy with hy'|hy'
   ·exact absurd e.symm (by rw[hy'];exact h1 x hx')
   ·exact OP F hx' hy' e
theorem jh.inj{w:World}{b:Nat}{l:List gM}(h:jh w b l){x y:gM}(F:x∈l)(G:y∈l)(e:x.1=y.1):x=y:=OP h.keys F G e
theorem jh.made(w:World):jh (w.alloc (.map #[] 0)) w.heap.size []:=⟨[],World.ownsMap_made _ _ _ _,.refl _⟩
theorem iO(a b:Int):(Lit.int .u64 a).sameKey (.int .u64 b)=decide (a=b):=by
 by_cases h:a=b
 ·rw[h,WideAt.sameKey_self (by trivial)];simp
 ·rw[Maps.sameKey_ne (fun e=>h (by injection e))];simp[h]
theorem jh.len{w:World}{b:Nat}{l:List gM}(h:jh w b l)(ty:TypeId):(Builtin.len_ #[203] ty #[.map (some b)]).run prog w=.ok (.int .i64 l.length) w:=by
 obtain⟨es,h1,F⟩:=h;have:=h1.len mmap ty;rw[Maps.size_eq,F.length_eq,qaq]at this;exact this
theorem jh.put{w:World}{b:Nat}{l:List gM}(h:jh w b l)(hl:l.length<1000000)(x:gM)(H:x.1<18446744073709551616)(G:∀y∈l,y.1≠x.1):
  ∃w',(Instr.mapUpdate 203 (.map (some b)) (.int .u64 x.1) (qX x.2)).run prog w=.ok () w'/\jh w' b (x::l)/\w.grownBy w' (some b):=by
 obtain⟨es,h1,F⟩:=h;obtain⟨w',r,o,g⟩:=h1.update OM mmap (by unfold maxLen;omega) (OO x.1 H) (OL x.2);refine⟨w',r,⟨_,o,?_⟩,g⟩;refine(WideShapes.insert_perm _ _).trans ?_
 have e:es.filter (fun p=> !p.1.sameKey (.int .u64 x.1))=es:=by
  refine List.filter_eq_self.2 fun p hp=>?_
  obtain⟨y,I,rfl⟩:=qah.1 (F.mem_iff.1 hp);show(!(Lit.int .u64 y.1).sameKey (.int .u64 x.1))=true;rw[iO];have:=G y I;simp;omega
 rw[e];exact F.cons _
theorem jh.range{w:World}{b:Nat}{l:List gM}(h:jh w b l):
  ∃w',(Instr.range 203 (.map (some b))).run prog w=.ok (ay w.heap.size 0) w'/\oU w' b w.heap.size l l/\w.grownBy w' none/\w'.heap.size=w.heap.size+1:=by
 obtain⟨es,h1,G⟩:=h;obtain⟨w',r,o,g,z⟩:=h1.range OM mmap;refine⟨w',r,⟨es,_,_,o,G,fun x F=>⟨fun _=>F,fun _=>?_⟩,fun x F=>F⟩,g,z⟩;rw[Maps.has_eq];exact qao.2 ⟨en x,G.mem_iff.2 (List.mem_map_of_mem F),WideAt.sameKey_self (by trivial)⟩
theorem oU.next{w:World}{b r:Nat}{l lf:List gM}(h:oU w b r l lf)(ty:TypeId):
  (lf=[]/\(Instr.next (ay r 0) false ty).run prog w=.ok (.tuple #[.bool false]) w)\/
  ∃x w',x∈lf/\x.1<18446744073709551616/\(Instr.next (ay r 0) false ty).run prog w=.ok (.tuple #[.bool true,.int .u64 x.1,qX x.2]) w'/\
   oU w' b r l (lf.filter fun y=> !decide (y.1=x.1))/\w'.rangeLeft b r<w.rangeLeft b r/\w.grownBy w' (some r)/\w'.heap.size=w.heap.size/\(Instr.entry (ay r 0)).run prog w'=.ok (.tuple #[.int .u64 x.1,qX x.2]) w':=by
 have hM:=h.map;obtain⟨es,av,cnt,h1,K,O,Z⟩:=h
 rcases h1.next OM ty with⟨_,hl,F⟩|⟨key,v,kl,y,w',cnt',hkey,hlk,hv,hat,F,hrg,hlt,hgr,hsz,hen⟩
 ·refine .inl ⟨?_,F⟩
  cases lf with
  |nil=>rfl
  |cons x t=>
   have:=(O x (Z x (by simp))).2 (by simp);rw[hl]at this;cases this
 ·obtain⟨k,rfl,rfl,U⟩:=Maps.keyOf_int_inv underlying43 hkey;obtain⟨c,rfl⟩:=Ue v y hv
  have hy:y=(.held (qX c),[]):=by rw[OL]at hv;exact(Option.some.inj hv).symm
  have G:=Maps.has_true_of_atKey hat;rw[Maps.has_eq]at G;obtain⟨p,hp,hs⟩:=qao.1 G;obtain⟨x,hx,rfl⟩:=qah.1 (K.mem_iff.1 hp)
  have hk:(x.1:Int)=k:=by
   have:(Lit.int .u64 x.1).sameKey (.int .u64 k)=true:=hs;rw[iO]at this;simpa using this
  subst hk;have V:x∈lf:=(O x hx).1 hlk
  have hb:x.1<18446744073709551616:=by
   simp[Lit.wf,IntKind.min,IntKind.max,IntKind.signed,IntKind.bits]at U;omega
  have H:qX x.2=qX c:=by
   have e:=hat .nil;rw[hy]at e;unfold DataW.atKey at e;simp only at e
   cases I:es.find? (fun p=>p.1.sameKey (.int .u64 x.1))with
   |none=>exact absurd hs (by have:=List.find?_eq_none.1 I (en x) hp;exact this)
   |some q=>
    rw[I]at e;simp only at e;obtain⟨z,hz,rfl⟩:=qah.1 (K.mem_iff.1 (List.mem_of_find?_eq_some I));have hq:(Lit.int .u64 z.1).sameKey (.int .u64 x.1)=true:=List.find?_some (p:=fun p:Lit×DataW Value=>p.1.sameKey (.int .u64 x.1)) I;rw[iO]at hq;have X:z=x:=hM.inj hz hx (by simp at hq;omega);rw[X]at e
    injection e
  refine .inr ⟨x,w',V,hb,by rw[F,H],⟨es,_,cnt',hrg,K,fun z hz=>?_,fun z hz=>Z z (nI.1 hz).1⟩,by rw[hrg.left_eq,h1.left_eq];exact hlt,hgr,hsz,by rw[hen,H]⟩;rw[Bool.and_eq_true,O z hz,nI,iO];constructor
  ·rintro⟨a,b⟩;refine⟨a,?_⟩;simp at b ⊢;omega
  ·rintro⟨a,b⟩;refine⟨a,?_⟩;simp at b ⊢;omega
theorem oU.del{w:World}{b r:Nat}{l lf:List gM}(h:oU w b r l lf)(n:Nat)(hn:n<18446744073709551616)(ty:TypeId):
  ∃w',(Builtin.delete_ #[203,43] ty #[.map (some b),.int .u64 n]).run prog w=.ok (.tuple #[]) w'/\oU w' b r (l.filter fun y=> !decide (y.1=n)) (lf.filter fun y=> !decide (y.1=n))/\w'.rangeLeft b r<=w.rangeLeft b r/\w.grownBy w' (some b):=by
 obtain⟨es,av,cnt,h1,h2,h3,h4⟩:=h;obtain⟨w',F,I,H,K,O⟩:=h1.drop OM mmap (OO n hn) ty
 have hp:(es.filter fun p=> !p.1.sameKey (.int .u64 n)).Perm ((l.filter fun y=> !decide (y.1=n)).map en):=by
  refine(h2.filter _).trans ?_;rw[List.filter_map];refine .of_eq ?_;refine congrArg (List.map en) (List.filter_congr fun x _=>?_);show(!(Lit.int .u64 x.1).sameKey (.int .u64 n))=_;rw[iO];exact congrArg (!·) (decide_eq_decide.2 (by omega))
 refine⟨w',I,⟨_,(fun x=>av x&& !x.sameKey (.int .u64 n)),F,?_,hp,fun z hz=>?_,fun z hz=>?_⟩,by rw[H.left_eq,h1.left_eq];exact K,O.grown⟩
 ·have e:=hp.length_eq;rw[qaq]at e;obtain⟨V,c1,s1,n1,k1,X,Z,g3,G,g5⟩:=H;refine⟨V,c1,s1,n1,k1,X,Z,?_,G,g5⟩;rw[<-e];have:(DataW.map es).del (.int .u64 n)=.map (es.filter fun p=> !p.1.sameKey (.int .u64 n)):=rfl;rw[this]at G
  injection G with G
  rw[G,length_sorted];simp
 ·have U:=(nI.1 hz).1;rw[Bool.and_eq_true,h3 z U,nI,iO];constructor
  ·rintro⟨a,b⟩;refine⟨a,?_⟩;simp at b ⊢;omega
  ·rintro⟨a,b⟩;refine⟨a,?_⟩;simp at b ⊢;omega
 ·rw[nI]at hz ⊢;exact⟨h4 z hz.1,hz.2⟩
end Go.Proofs.YtphbledmopchnaaGreatDoor.Sd
namespace Go.Proofs.YtphbledmopchnaaGreatDoor.Sd
open Go.RowKit Go.Lib Mm Tryz
theorem au{p:Prop}(h:p):Hid p:=h
theorem sK{a b:Int}(h:a=b):E8 (uZ a)=.returned (uZ b):=by rw[h]
theorem aV{a b:Bool}(h:a=b):E8 (.bool a)=.returned (.bool b):=by rw[h]
theorem Ec(S o:Nat)(g:Gn)(free:Nat)(w:World)(l:aI)(hB:aA w S TS l)(h:qV l o g)(I:g.ahead<=4096)(G:free<=aZ):
  Calls prog 309 #[ay S o,uZ free] w fun e w'=>e=.returned (uZ (g.lim free:Int))/\w'=w:=by
 have c0:w.cell? (aj S o)=some (uZ g.ahead):=by rw[hB.cell];exact h.c0
 obtain⟨m,O,F⟩:=min2 (free+g.ahead) 4611686018427387903
 have H:Hid (g.lim free=m):=by unfold Hid;rw[F];rfl
 generalize g.lim free=L at *;generalize g.ahead=A at *;unfold aZ at G
 have K:(free+A:Nat)<18446744073709551616:=by omega
 clear h hB F G I;rw[Int.natCast_add,show((4611686018427387903:Nat):Int)=4611686018427387903 from rfl]at O;go_enter func309,ntmps309;go_wp2;go_ret;exact⟨sK (by rw[H.out]),rfl⟩
theorem Ed(S o:Nat)(g:Gn)(free:Nat)(w:World)(l:aI)(hB:aA w S TS l)(h:qV l o g)(K:g.ahead<=4096)(I:free<=aZ):
  Calls prog 251 #[ay S o,uZ free] w fun e w'=>e=.returned (.bool (g.waits free))/\∃q,w'=w.drewN q:=by
 have c2:w.cell? (aj S (o+2))=some (uZ g.away):=by rw[hB.cell];exact h.c2
 have c3:w.cell? (aj S (o+3))=some (uZ g.came):=by rw[hB.cell];exact h.c3
 have H:=au (fun q=>Ec S o g free (w.drewN q) l hB h K I);have G:Hid (g.waits free=decide (max g.away g.came<g.lim free)):=rfl;obtain⟨m,O,F⟩:=max2 g.away g.came;rw[<-F]at G;generalize g.waits free=B at *;generalize g.lim free=L at *;clear h hB F;go_enter func251,ntmps251;go_wp2
 go_quiet ((go_at_call 309;exact Calls.quiet_of_same (H.out _)))
 go_wp2;go_ret;exact⟨aV (by rw[G.out,decide_eq_decide]<;>omega),nq,rfl⟩
theorem AR(S o:Nat)(g:Gn)(e:Nat)(w:World)(l:aI)(hB:aA w S TS l)(h:qV l o g):
  Calls prog 296 #[ay S o,uZ e] w fun F w'=>F=.returned (.bool (decide (e<=g.told)))/\w'=w:=by
 have c1:w.cell? (aj S (o+1))=some (uZ g.told):=by rw[hB.cell];exact h.c1
 clear h hB;go_enter func296,ntmps296;go_wp2;go_ret;exact⟨aV (by rw[decide_eq_decide]),rfl⟩
theorem JV(S o:Nat)(g:Gn)(w:World)(l:aI)(hB:aA w S TS l)(h:qV l o g):
  Calls prog 397 #[ay S o] w fun e w'=>e=.returned (.tuple #[])/\∃l',dL w w' S l l' o 4/\qV l' o g.lose:=by
 have c2:w.cell? (aj S (o+2))=some (uZ g.away):=by rw[hB.cell];exact h.c2
 have f2:=hB.frozen (o+2)
 have F:Hid (dL w (w.setCell (aj S (o+2)) (uZ 0)) S l (l.set (o+2) (uZ 0)) o 4/\qV (l.set (o+2) (uZ 0)) o g.lose):=
  ⟨dL.one hB _ _ _ _ (by omega) (by omega),by rw[ak _ _ _ _ (by omega),h.c0];rfl,by rw[ak _ _ _ _ (by omega),h.c1];rfl,aU _ _ _ _ h.c2,by rw[ak _ _ _ _ (by omega),h.c3];rfl⟩
 clear h hB;go_enter func397,ntmps397;go_wp2;go_end0;exact⟨rfl,_,F.out⟩
theorem Gn.st(S o:Nat)(g:Gn)(w:World)(l:aI)(hB:aA w S TS l)(h:qV l o g):
  (∀x:Nat,dL w (w.setCell (aj S (o+1)) (uZ x)) S l (l.set (o+1) (uZ x)) o 4/\qV (l.set (o+1) (uZ x)) o {g with told:=x})/\
  (∀x:Nat,dL w (w.setCell (aj S (o+2)) (uZ x)) S l (l.set (o+2) (uZ x)) o 4/\qV (l.set (o+2) (uZ x)) o {g with away:=x})/\
  (∀x:Nat,dL w (w.setCell (aj S (o+3)) (uZ x)) S l (l.set (o+3) (uZ x)) o 4/\qV (l.set (o+3) (uZ x)) o {g with came:=x}):=
 ⟨fun x=>⟨dL.one hB _ _ _ _ (by omega) (by omega),by rw[ak _ _ _ _ (by omega),h.c0],aU _ _ _ _ h.c1,by rw[ak _ _ _ _ (by omega),h.c2],by rw[ak _ _ _ _ (by omega),h.c3]⟩,
 fun x=>⟨dL.one hB _ _ _ _ (by omega) (by omega),by rw[ak _ _ _ _ (by omega),h.c0],by rw[ak _ _ _ _ (by omega),h.c1],aU _ _ _ _ h.c2,by rw[ak _ _ _ _ (by omega),h.c3]⟩,
 fun x=>⟨dL.one hB _ _ _ _ (by omega) (by omega),by rw[ak _ _ _ _ (by omega),h.c0],by rw[ak _ _ _ _ (by omega),h.c1],by rw[ak _ _ _ _ (by omega),h.c2],aU _ _ _ _ h.c3⟩⟩
def bR(f:Fr)(r:Value):Value:=.agg #[iZ f.kind,iZ f.stream,uZ f.offset,uZ f.reliable,uZ f.limit,.bool f.fin,uZ f.id,uZ f.deadline,.string f.data,r]
theorem Cm(S o:Nat)(g:Gn)(f:Fr)(rv:Value)(w:World)(l:aI)(hB:aA w S TS l)(h:qV l o g):
  Calls prog 311 #[ay S o,bR f rv] w fun e w'=>e=.returned (.tuple #[])/\∃l',dL w w' S l l' o 4/\qV l' o (g.aw f.limit):=by
 obtain⟨m,V,G⟩:=max2 g.away f.limit
 have O:Hid (g.aw f.limit={g with away:=m}):=by unfold Hid;rw[G];rfl
 obtain⟨W,H⟩:∃W,W=w.alloc (.cells #[iZ f.kind,iZ f.stream,uZ f.offset,uZ f.reliable,uZ f.limit,.bool f.fin,uZ f.id,uZ f.deadline,.string f.data,rv] 65):=⟨_,rfl⟩
 have hb:aA W w.heap.size 65 [iZ f.kind,iZ f.stream,uZ f.offset,uZ f.reliable,uZ f.limit,.bool f.fin,uZ f.id,uZ f.deadline,.string f.data,rv]:=by rw[H];exact aA.new w 65 _
 have F:aA W S TS l:=by rw[H];exact hB.alloc _
 have K:aD w W:=by rw[H];exact(mR _ w).alloc (fA _) _
 have I:=au ((Gn.st S o g W l F h).2.1 m);have X:W.cell? (aj w.heap.size 4)=some (uZ f.limit):=hb.cell 4
 have c2:W.cell? (aj S (o+2))=some (uZ g.away):=by rw[F.cell];exact h.c2
 have f2:=F.frozen (o+2);have U:=au K;clear h hB hb F K G;unfold bR;go_enter func311,ntmps311
 go_wp2_with fail
 rw[<-H];clear H
 go_region
 all_goals go_wp2
 all_goals go_end0
 all_goals exact⟨rfl,_,dL.after U.out I.out.1.drew,by rw[O.out];exact I.out.2⟩
theorem JW(S o:Nat)(g:Gn)(f:Fr)(rv:Value)(w:World)(l:aI)(hB:aA w S TS l)(h:qV l o g):
  Calls prog 396 #[ay S o,bR f rv] w fun e w'=>e=.returned (.tuple #[])/\∃l',dL w w' S l l' o 4/\qV l' o (g.cm f.limit):=by
 obtain⟨m,V,G⟩:=max2 g.came f.limit
 have O:Hid (g.cm f.limit={g with came:=m}):=by unfold Hid;rw[G];rfl
 obtain⟨W,H⟩:∃W,W=w.alloc (.cells #[iZ f.kind,iZ f.stream,uZ f.offset,uZ f.reliable,uZ f.limit,.bool f.fin,uZ f.id,uZ f.deadline,.string f.data,rv] 65):=⟨_,rfl⟩
 have hb:aA W w.heap.size 65 [iZ f.kind,iZ f.stream,uZ f.offset,uZ f.reliable,uZ f.limit,.bool f.fin,uZ f.id,uZ f.deadline,.string f.data,rv]:=by rw[H];exact aA.new w 65 _
 have F:aA W S TS l:=by rw[H];exact hB.alloc _
 have K:aD w W:=by rw[H];exact(mR _ w).alloc (fA _) _
 have I:=au ((Gn.st S o g W l F h).2.2 m);have X:W.cell? (aj w.heap.size 4)=some (uZ f.limit):=hb.cell 4
 have c3:W.cell? (aj S (o+3))=some (uZ g.came):=by rw[F.cell];exact h.c3
 have f2:=F.frozen (o+3);have U:=au K;clear h hB hb F K G;unfold bR;go_enter func396,ntmps396
 go_wp2_with fail
 rw[<-H];clear H
 go_region
 all_goals go_wp2
 all_goals go_end0
 all_goals exact⟨rfl,_,dL.after U.out I.out.1.drew,by rw[O.out];exact I.out.2⟩
end Go.Proofs.YtphbledmopchnaaGreatDoor.Sd
namespace Go.Proofs.YtphbledmopchnaaGreatDoor.Sd
open Go.RowKit Go.Lib Mm Go.Maps Tryz
section
section
variable (w:World) {ops:Array Oper} {rest:List Oper} {o:Oper} {a:Act} {Q:Exit->Act->World->Prop}
theorem jM(K:o.guard=none)(m:Operand)(H:o.op=Op.range 203 m)(b:Nat)(l:List gM)(O:a.eval m=.map (some b))(h:jh w b l)(I:∀w',oU w' b w.heap.size l l->w.grownBy w' none->w'.heap.size=w.heap.size+1->wpList prog ops Q rest (a.put o.dst (ay w.heap.size 0)) w'):
  wpList prog ops Q (o::rest) a w:=by
 refine wpList_plain K fun Z G=>?_
 obtain⟨w',F,U,V,X⟩:=h.range;unfold qav;simp[execOp,H,O,F,Result.andThen];exact G _ _ (I w' U V X)
theorem kJ(U:o.guard=none)(it:Operand)(K:o.op=Op.next it false)(b r:Nat)(l lf:List gM)(hit:a.eval it=(ay r 0))(h:oU w b r l lf)(G:lf=[]->wpList prog ops Q rest (a.put o.dst (.tuple #[.bool false])) w)(H:∀(x:gM) (w':World),x∈lf->x.1<18446744073709551616->oU w' b r l (lf.filter fun y=> !decide (y.1=x.1))->w'.rangeLeft b r<w.rangeLeft b r->w.grownBy w' (some r)->w'.heap.size=w.heap.size->
   (Instr.entry (ay r 0)).run prog w'=.ok (.tuple #[uZ x.1,qX x.2]) w'->wpList prog ops Q rest (a.put o.dst (.tuple #[.bool true,uZ x.1,qX x.2])) w'):
  wpList prog ops Q (o::rest) a w:=by
 refine wpList_plain U fun V I=>?_
 unfold qav
 rcases h.next o.type with⟨O,F⟩|⟨x,w',h1,h2,F,h3,h4,h5,h6,h7⟩
 ·simp[execOp,K,hit,F,Result.andThen];exact I _ _ (G O)
 ·simp[execOp,K,hit,F,Result.andThen];exact I _ _ (H x w' h1 h2 h3 h4 h5 h6 h7)
theorem mD(K:o.guard=none)(m x:Operand)(H:o.op=Op.call {callee:=Callee.builtin Builtin.delete,args:=#[m,x],argTypes:=#[203,43]})(b r:Nat)(l lf:List gM)(O:a.eval m=.map (some b))(h:oU w b r l lf)(n:Nat)(V:a.eval x=(uZ n))(U:n<18446744073709551616)(I:∀w',oU w' b r (l.filter fun y=> !decide (y.1=n)) (lf.filter fun y=> !decide (y.1=n))->w'.rangeLeft b r<=w.rangeLeft b r->w.grownBy w' (some b)->wpList prog ops Q rest (a.put o.dst (.tuple #[])) w'):
  wpList prog ops Q (o::rest) a w:=by
 refine wpList_plain K fun K' G=>?_
 obtain⟨w',F,X,Z,r3⟩:=h.del n U o.type;unfold qav;simp[execOp,H,resolve,invoke,builtin,O,V,F,Result.andThen];exact G _ _ (I w' X Z r3)
theorem mF(O:o.guard=none)(m x v:Operand)(H:o.op=Op.mapUpdate 203 m x v)(b:Nat)(l:List gM)(U:a.eval m=.map (some b))(h:jh w b l)(hl:l.length<1000000)(e:gM)(Z:a.eval x=(uZ e.1))(X:a.eval v=qX e.2)(K:e.1<18446744073709551616)(V:∀y∈l,y.1≠e.1)(I:∀w',jh w' b (e::l)->w.grownBy w' (some b)->wpList prog ops Q rest (a.put o.dst undef) w'):
  wpList prog ops Q (o::rest) a w:=by
 refine wpList_plain O fun K' G=>?_
 obtain⟨w',F,r1,r2⟩:=h.put hl e K V;unfold qav;simp[execOp,H,U,Z,X,F,Result.andThen];exact G _ _ (I w' r1 r2)
end


theorem Uf(b:Nat)(l:List gM)(w:World)(h:jh w b l)(hl:l.length<1000000):
  Calls prog 262 #[.map (some b)] w fun e w'=>e=.returned (.bool (decide (12<=l.length)))/\w'=w:=by
 have F:=h.len;go_enter func262,ntmps262;go_wp2;go_ret;exact⟨congrArg (fun b=>E8 (.bool b)) (decide_eq_decide.2 (by omega)),rfl⟩
theorem sM{l l':List gM}(h:l.Nodup)(F:l'.Nodup)(G:∀x,x∈l↔x∈l'):l.Perm l':=(List.perm_ext_iff_of_nodup h F).2 G
theorem JX{l l':List gM}(h:l.Nodup)(G:l'.Nodup)(H:∀x,x∈l->x∈l'):l.length<=l'.length:=by
 classical
 have:l.Perm (l'.filter fun x=>decide (x∈l)):=sM h (G.filter _) fun x=>by
  rw[nI];exact⟨fun F=>⟨H x F,decide_eq_true F⟩,fun F=>of_decide_eq_true F.2⟩
 rw[this.length_eq];exact List.length_filter_le _ _
structure JY (w:World) (b b2 r:Nat) (l:List gM) (want:gM->Bool) (y:World) (cur lf tk:List gM):Prop where
 rg:oU y b r cur lf
 mp:jh y b2 tk
 cur:∀x,x∈cur↔x∈l/\(x∈lf\/want x=false)
 tk:∀x,x∈tk↔x∈l/\x∉lf/\want x=true
 gr:w.grownBy y (some b)
theorem JY.len{w:World}{b b2 r:Nat}{l:List gM}{want:gM->Bool}{y:World}{cur lf tk:List gM}(h:JY w b b2 r l want y cur lf tk)(hl:l.Nodup):tk.length<=l.length:=
 JX h.mp.nodup hl fun x F=>((h.tk x).1 F).1
theorem JY.done{w:World}{b b2 r:Nat}{l:List gM}{want:gM->Bool}{y:World}{cur tk:List gM}(h:JY w b b2 r l want y cur [] tk)(hl:l.Nodup):jh y b (l.filter fun x=> !want x)/\jh y b2 (l.filter want):=by
 refine⟨h.rg.map.perm (sM h.rg.map.nodup (hl.filter _) fun x=>?_),h.mp.perm (sM h.mp.nodup (hl.filter _) fun x=>?_)⟩
 ·rw[h.cur,nI];simp
 ·rw[h.tk,nI];simp
theorem JY.stay{w:World}{b b2 r:Nat}{l:List gM}{want:gM->Bool}{y z:World}{cur lf G tk:List gM}(h:JY w b b2 r l want y cur lf tk)(x:gM)(I:∀y,y∈l->(y∈G↔y∈lf/\y≠x))(K:want x=false)(O:oU z b r cur G)(U:jh z b2 tk)(V:w.grownBy z (some b)):JY w b b2 r l want z cur G tk:=by
 refine⟨O,U,fun e=>?_,fun e=>?_,V⟩
 ·rw[h.cur]
  refine and_congr_right fun H=>?_
  rw[I e H]
  by_cases F:e=x
  ·rw[F];simp[K]
  ·simp[F]
 ·rw[h.tk]
  refine and_congr_right fun H=>?_
  rw[I e H]
  by_cases F:e=x
  ·rw[F];simp[K]
  ·simp[F]
theorem JY.go{w:World}{b b2 r:Nat}{l:List gM}{want:gM->Bool}{y z:World}{cur lf X tk:List gM}(h:JY w b b2 r l want y cur lf tk)(hk:∀e∈l,∀e'∈l,e.1=e'.1->e=e')(x:gM)(hx:x∈lf)(V:∀y,y∈l->(y∈X↔y∈lf/\y≠x))(hw:want x=true)(hR:oU z b r (cur.filter fun e=> !decide (e.1=x.1)) (X.filter fun e=> !decide (e.1=x.1)))(hT:jh z b2 (x::tk))(hg:w.grownBy z (some b)):
  JY w b b2 r l want z (cur.filter fun e=> !decide (e.1=x.1)) (X.filter fun e=> !decide (e.1=x.1)) (x::tk):=by
 have K:x∈l:=((h.cur x).1 (h.rg.sub x hx)).1
 have H:∀e∈l,((!decide (e.1=x.1))=true↔e≠x):=fun e he=>by
  simp only[Bool.not_eq_true',decide_eq_false_iff_not];exact⟨fun Z U=>Z (by rw[U]),fun Z U=>Z (hk e he x K U)⟩
 refine⟨hR,hT,fun e=>?_,fun e=>?_,hg⟩
 ·rw[nI,nI,h.cur];constructor
  ·rintro⟨⟨h1,G⟩,O⟩;refine⟨h1,G.imp (fun F=>⟨(V e h1).2 ⟨F,(H e h1).1 O⟩,O⟩) id⟩
  ·rintro⟨h1,G⟩
   rcases G with⟨F,h5⟩|F
   ·exact⟨⟨h1,.inl ((V e h1).1 F).1⟩,h5⟩
   ·refine⟨⟨h1,.inr F⟩,(H e h1).2 fun U=>?_⟩;rw[U,hw]at F;cases F
 ·rw[Ui,h.tk,nI];constructor
  ·rintro(h1|⟨h1,G,O⟩)
   ·rw[h1];exact⟨K,fun G=>((H x K).1 G.2) rfl,hw⟩
   ·exact⟨h1,fun F=>G ((V e h1).1 F.1).1,O⟩
  ·rintro⟨h1,G,O⟩
   by_cases I:e=x
   ·exact .inl I
   ·exact .inr ⟨h1,fun F=>G ⟨(V e h1).2 ⟨F,I⟩,(H e h1).2 I⟩,O⟩
theorem cK{w w':World}{b r:Nat}(hb:w'.heap[b]?=w.heap[b]?)(F:w'.heap[r]?=w.heap[r]?):w'.rangeLeft b r=w.rangeLeft b r:=by
 unfold World.rangeLeft;rw[hb,F]
theorem fF{w w':World}(hb:aD w w'):w.grownBy w' none:=⟨hb.os,hb.tape,hb.output,hb.size,fun i hi _=>hb.block i hi⟩
theorem bI{w w':World}{b:Nat}{t:TypeId}{l:aI}(hb:aD w w')(h:aA w b t l):aA w' b t l:=h.of_heap (hb.block b h.lt)
theorem Ug(g:Nat)(p k:Array Value)(b:Nat)(l:List gM)(want:gM->Bool)(w:World)(eg:∀args w,(callFunc g args).run prog w=.ok (.enter g args) w)(h:jh w b l)(hl:l.length<100000)(hw:∀x∈l,∀W:World,w.grownBy W (some b)->Calls prog g (p++(#[uZ x.1,qX x.2]++k)) W fun e W'=>e=.returned (.bool (want x))/\aD W W'):
  Calls prog 191 #[.map (some b),.func (.func g) p k] w fun e w'=>e=.returned (.map (some w.heap.size))/\jh w' b (l.filter fun x=> !want x)/\jh w' w.heap.size (l.filter want)/\w.grownBy w' (some b):=by
 have x9:=@run_makeMap prog;have ha:=h.nodup;have hk:=h.lt;obtain⟨W,hW⟩:∃W,W=w.alloc (.map #[] 0):=⟨_,rfl⟩
 have x0:w.grownBy W none:=by rw[hW];exact qaa _ _ _
 have ho:jh W b l:=h.kept (by rw[hW];exact(MapKept.heap_alloc w _).2 b hk)
 have hu:jh W w.heap.size []:=by rw[hW];exact jh.made w
 have hsz:W.heap.size=w.heap.size+1:=by rw[hW];simp
 go_enter func191,ntmps191
 go_wp2_with (first
  |(at_range;refine jM _ rfl _ rfl b l rfl (by rw[<-hW];exact ho) ?_;intro w0 h7 h8 x6)
  |go_in)
 have e1:(w.alloc (.map #[] 0)).heap.size=w.heap.size+1:=by simp
 rw[<-hW]at h8;rw[e1]at h7 x6 ⊢
 go_frame
 go_loopw [6] (fun _ wr=>∃cur lf tk:List gM,Hid (JY w b w.heap.size (w.heap.size+1) l want wr cur lf tk)) (fun _ wr=>wr.rangeLeft b (w.heap.size+1))
 case atStart=>exact⟨l,l,[],(⟨h7,hu.kept ((h8.block _ (by omega) (by simp))),fun x=>⟨fun K=>⟨K,.inl K⟩,fun K=>K.1⟩,fun x=>⟨(fun K=>by cases K),fun K=>absurd K.1 K.2.1⟩,(x0.but _).andThen h8 (fun j V=>by cases V)⟩:JY w b w.heap.size (w.heap.size+1) l want w0 l l [])⟩
 case round=>
  obtain⟨cur,lf,tk,hrel⟩:=hrel
  go_wp2_with (first
   |(at_next;refine kJ _ rfl _ rfl b (w.heap.size+1) cur lf rfl hrel.out.rg ?_ ?_)
   |go_in)
  ·intro h0;go_wp2;go_ret;subst h0;exact⟨rfl,(hrel.out.done ha).1,(hrel.out.done ha).2,hrel.out.gr⟩
  ·intro xn xa xl xc xt w1 K Hf I x5 h9 x7 hm;have H:=hrel.out;have x4:tk.length<1000000:=qaj (H.len ha) (by omega);have Z:(xn,xa,xl,xc,xt)∈l:=((H.cur _).1 (H.rg.sub _ K)).1;obtain⟨W3,h2⟩:∃W3,W3=w1.alloc (.cells #[.slice xa xl xc,uZ xt] 289):=⟨_,rfl⟩
   have hg:aA W3 wr.heap.size 289 [.slice xa xl xc,uZ xt]:=by rw[h2,<-x7];exact aA.new w1 289 _
   have U:w1.grownBy W3 none:=by rw[h2];exact qaa _ _ _
   have h4:w.grownBy W3 (some b):=(H.gr.andThen h9 (fun j V=>by cases V;exact .inl (Nat.le_succ _))).andThen U (fun j V=>by cases V);have hc:=hw _ Z W3 h4
   have xd:W3.heap.size=w1.heap.size+1:=by rw[h2];simp
   have DF:oU W3 b (w.heap.size+1) cur (lf.filter fun y=> !decide (y.1=xn)):=I.kept (U.block _ I.map.lt (by simp)) (U.block _ I.lt (by simp));have Uh:jh W3 w.heap.size tk:=H.mp.kept ((U.block _ (Aw H.mp.lt h9.size) (by simp)).trans (h9.block _ H.mp.lt (by simp)))
   have h5:W3.rangeLeft b (w.heap.size+1)<wr.rangeLeft b (w.heap.size+1):=by rw[(cK (U.block _ I.map.lt (by simp)) (U.block _ I.lt (by simp)))];exact x5
   have O:∀y,y∈l->(y∈(lf.filter fun y=> !decide (y.1=xn))↔y∈lf/\y≠(xn,xa,xl,xc,xt)):=fun y hy=>by
    rw[nI]
    refine and_congr_right fun _=>?_
    simp only[Bool.not_eq_true',decide_eq_false_iff_not];exact⟨fun h6 e=>h6 (by rw[e]),fun h6 e=>h6 (h.inj hy Z e)⟩
   cases X:want (xn,xa,xl,xc,xt)
   ·rw[X]at hc;have HX:=au (And.intro Z (And.intro O (And.intro X K)));have G:=au (And.intro h4 (And.intro DF (And.intro Uh h5)));clear Z O X K h4 DF Uh h5;simp only[qX]at hm hc ⊢
    go_wp2_with (first
     |(go_at_fn g;rw[<-h2];refine hc.mono ?_;rintro e w2 ⟨rfl,F⟩)
     |go_in)
    go_roundw
    case rel=>
     exact⟨cur,_,tk,(H.stay _ HX.out.2.1 HX.out.2.2.1 (G.out.2.1.kept (F.block _ G.out.2.1.map.lt) (F.block _ G.out.2.1.lt)) (G.out.2.2.1.kept (F.block _ G.out.2.2.1.lt)) (G.out.1.andThen (fF F) (fun j V=>by cases V)):JY _ _ _ _ _ _ _ _ _ _)⟩
    case measure=>rw[cK (F.block _ G.out.2.1.map.lt) (F.block _ G.out.2.1.lt)];exact G.out.2.2.2
   ·rw[X]at hc;have HX:=au (And.intro Z (And.intro O (And.intro X K)));have G:=au (And.intro h4 (And.intro DF (And.intro Uh h5)));clear Z O X K h4 DF Uh h5;simp only[qX]at hm hc ⊢
    go_wp2_with (first
     |(go_at_fn g;rw[<-h2];refine hc.mono ?_;rintro e w2 ⟨rfl,F⟩;have y0:w2.cell? (aj wr.heap.size 0)=some (.slice xa xl xc):=(bI F hg).cell 0;have y1:w2.cell? (aj wr.heap.size 1)=some (uZ xt):=(bI F hg).cell 1)
     |(at_mapUpdate;refine mF _ rfl _ _ _ rfl w.heap.size tk rfl (G.out.2.2.1.kept (F.block _ G.out.2.2.1.lt)) x4 (xn,xa,xl,xc,xt) rfl rfl Hf (fun y hy e=>((H.tk y).1 hy).2.1 (by rw[h.inj ((H.tk y).1 hy).1 HX.out.1 e];exact HX.out.2.2.2)) ?_;intro w3 hf h3)
     |(at_delete;refine mD _ rfl _ _ rfl b (w.heap.size+1) cur _ rfl (((G.out.2.1.kept (F.block _ G.out.2.1.map.lt) (F.block _ G.out.2.1.lt)).kept (h3.block _ (Aw G.out.2.1.map.lt F.size) (by simp;omega)) (h3.block _ (Aw G.out.2.1.lt F.size) (by simp)))) xn rfl Hf ?_;intro w4 hr x3 hn;go_frame)
     |go_in)
    have x8:=G.out.2.1.kept (F.block _ G.out.2.1.map.lt) (F.block _ G.out.2.1.lt)
    have h6:w.heap.size≠b:=by omega
    refine⟨⟨_,_,_,(H.go (fun e he e' hv=>h.inj he hv) (xn,xa,xl,xc,xt) HX.out.2.2.2 HX.out.2.1 HX.out.2.2.1 hr (hf.kept (hn.block _ hf.lt (by simp;omega))) ((G.out.1.andThen (fF F) (fun j V=>by cases V)).andThen h3 (fun j V=>by cases V;exact .inl (fA _)) |>.andThen hn (fun j V=>by cases V;exact .inr rfl)):JY _ _ _ _ _ _ _ _ _ _)⟩,?_⟩;refine qaj x3 ?_;rw[cK (h3.block _ (Aw G.out.2.1.map.lt F.size) (by simp;omega)) (h3.block _ (Aw G.out.2.1.lt F.size) (by simp)),cK (F.block _ G.out.2.1.map.lt) (F.block _ G.out.2.1.lt)];exact G.out.2.2.2
end
end Go.Proofs.YtphbledmopchnaaGreatDoor.Sd
namespace Go.Proofs.YtphbledmopchnaaGreatDoor.Sd
open Go.RowKit Go.Lib Mm Tryz
def kr(R:Nat):Nat->aI->World->World
 |_,[],y=>y
 |j,v::vs,y=>kr R (j+1) vs (y.setCell (aj R j) v)
theorem jD(R:Nat):∀(vs:aI) (j:Nat) (y:World),je R y (kr R j vs y)
 |[],_,y=>je.refl R y
 |v::vs,j,y=>by
  have h:=(je.refl R y).set j v;have F:=jD R vs (j+1) (y.setCell (aj R j) v);exact⟨F.os.trans h.os,F.tape.trans h.tape,F.output.trans h.output,F.size.trans h.size,fun k G=>(F.block k G).trans (h.block k G)⟩
def jr:Nat->aI->aI->aI
 |_,[],l=>l
 |j,v::vs,l=>jr (j+1) vs (l.set j v)
theorem kQ{R:Nat}{t:TypeId}:∀(vs:aI) (j:Nat) (y:World) (l:aI),aA y R t l->aA (kr R j vs y) R t (jr j vs l)
 |[],_,_,_,h=>h
 |v::vs,j,_,_,h=>kQ vs (j+1) _ _ (h.setCell j v)
theorem J3(n:Int)(w:World):Calls prog 126 #[iZ n] w fun e w'=>e=.returned (.agg #[iZ n,uZ 0,nZ])/\aD w w':=by
 go_enter func126,ntmps126
 go_wp2_with fail
 exact bodyPost_ret (v:=.agg #[iZ n,uZ 0,nZ]) (by simp[results,results126,go_sem]) rfl ⟨rfl,(mR _ w).alloc (fA _) _⟩
theorem Ba(n:Nat)(H:n<=4096)(w:World):Calls prog 142 #[iZ n] w fun e w'=>e=.returned (.agg #[uZ n,uZ n,uZ 0,uZ n])/\aD w w':=by
 have F:(0:Int)<=(n:Int):=by omega
 have G:(n:Int)<18446744073709551616:=by omega
 go_enter func142,ntmps142
 go_wp2_with fail
 exact bodyPost_ret (v:=.agg #[uZ n,uZ n,uZ 0,uZ n]) (by simp[results,results142,go_sem]) rfl ⟨rfl,(mR _ w).alloc (fA _) _⟩
abbrev inZ:aI:=[uZ 0,uZ 0,uZ 0,uZ 0,uZ 0,nZ,nZ,uZ 0,.bool false,uZ 0,.bool false,uZ 0,iZ 0]
abbrev wM(n:Nat):aI:=[uZ n,uZ n,uZ 0,uZ n,uZ 0,nZ,nZ,uZ 0,.bool false,uZ 0,.bool false,uZ 0,iZ 0]
abbrev Xw:aI:=[nZ,.bool false,.bool false,uZ 0,uZ 0,uZ 0,uZ 0,uZ 0,iZ 0,uZ 0,nZ,iZ 0,uZ 0,nZ]
abbrev jO(n:Nat):aI:=[nZ,.bool false,.bool false,uZ 0,uZ 0,uZ 0,uZ n,uZ 0,iZ 2049,uZ 0,nZ,iZ 2049,uZ 0,nZ]
theorem Xx(n:Nat)(hn:n<=4096)(w:World):Calls prog 145 #[iZ n] w fun e w'=>e=.returned (.agg (wM n).toArray)/\aD w w':=by
 have HG:=au (fun y=>Ba n hn y);obtain⟨W,K⟩:∃W,W=w.alloc (.cells inZ.toArray 198):=⟨_,rfl⟩
 have hb:aA W w.heap.size 198 inZ:=by rw[K];exact aA.new w 198 _
 have H:aD w W:=by rw[K];exact(mR _ w).alloc (fA _) _
 have hsz:w.heap.size<W.heap.size:=by rw[K];simp
 have HB:=au (And.intro hb (And.intro H hsz));clear hb H hsz;unfold inZ at K;unfold wM;go_enter func145,ntmps145
 go_wp2_with fail
 rw[<-K];clear K;refine(HG.out W).mono ?_;rintro e y ⟨rfl,I⟩;obtain⟨hb,H,hsz⟩:=HB.out;have F:=au (And.intro (hb.of_heap (I.block _ hsz)) (H.trans (I.mono (Kt hsz))));clear hb H hsz I;clear HB;have x0:=F.out.1.cell 0;have x1:=F.out.1.cell 1;have x2:=F.out.1.cell 2;have x3:=F.out.1.cell 3;have x4:=F.out.1.cell 4;have x5:=F.out.1.cell 5;have x6:=F.out.1.cell 6;have x7:=F.out.1.cell 7;have x8:=F.out.1.cell 8;have x9:=F.out.1.cell 9;have X:=F.out.1.cell 10;have Z:=F.out.1.cell 11;have h0:=F.out.1.cell 12;have xf:=F.out.1.frozen;simp only[Av,Am]at x0 x1 x2 x3 x4 x5 x6 x7 x8 x9 X Z h0
 go_wp2_with fail
 have G:aA (kr w.heap.size 0 (wM n) y) w.heap.size 198 (wM n):=kQ _ 0 y _ F.out.1;have lX:=jD w.heap.size (wM n) 0 y;change bodyPost _ _ _ _ _ (kr w.heap.size 0 (wM n) y);generalize kr w.heap.size 0 (wM n) y=Wf at *;have a0:=G.cell 0;have a1:=G.cell 1;have a2:=G.cell 2;have a3:=G.cell 3;have a4:=G.cell 4;have a5:=G.cell 5;have a6:=G.cell 6;have a7:=G.cell 7;have a8:=G.cell 8;have a9:=G.cell 9;have O:=G.cell 10;have U:=G.cell 11;have V:=G.cell 12;simp only[Av,Am]at a0 a1 a2 a3 a4 a5 a6 a7 a8 a9 O U V;exact bodyPost_ret (v:=.agg (wM n).toArray) (by simp[results,results145,go_sem,a0,a1,a2,a3,a4,a5,a6,a7,a8,a9,O,U,V]) rfl ⟨rfl,lX.below F.out.2 (fA _)⟩
theorem Us(n:Nat)(hn:n<=4096)(w:World):Calls prog 144 #[iZ n] w fun e w'=>e=.returned (.agg (jO n).toArray)/\aD w w':=by
 have h6:(0:Int)<=(n:Int):=by omega
 have h7:(n:Int)<18446744073709551616:=by omega
 have HG:=au (fun y=>J3 2049 y);obtain⟨W,O⟩:∃W,W=w.alloc (.cells Xw.toArray 194):=⟨_,rfl⟩
 have hb:aA W w.heap.size 194 Xw:=by rw[O];exact aA.new w 194 _
 have H:aD w W:=by rw[O];exact(mR _ w).alloc (fA _) _
 have hsz:w.heap.size<W.heap.size:=by rw[O];simp
 have HB:=au (And.intro hb (And.intro H hsz));clear hb H hsz;unfold Xw at O;unfold jO;go_enter func144,ntmps144
 go_wp2_with fail
 rw[<-O];clear O;refine(HG.out W).mono ?_;rintro e y1 ⟨rfl,I⟩
 go_wp2_with fail
 refine(HG.out y1).mono ?_;rintro e y ⟨rfl,h0⟩;obtain⟨hb,H,hsz⟩:=HB.out;have K:=I.trans (h0.mono I.size);have F:=au (And.intro (hb.of_heap (K.block _ hsz)) (H.trans (K.mono (Kt hsz))));clear hb H hsz I h0 K;clear HB;have x0:=F.out.1.cell 0;have x1:=F.out.1.cell 1;have x2:=F.out.1.cell 2;have x3:=F.out.1.cell 3;have x4:=F.out.1.cell 4;have x5:=F.out.1.cell 5;have x6:=F.out.1.cell 6;have x7:=F.out.1.cell 7;have x8:=F.out.1.cell 8;have x9:=F.out.1.cell 9;have h2:=F.out.1.cell 10;have h3:=F.out.1.cell 11;have h4:=F.out.1.cell 12;have h5:=F.out.1.cell 13;have xf:=F.out.1.frozen;simp only[Av,Am]at x0 x1 x2 x3 x4 x5 x6 x7 x8 x9 h2 h3 h4 h5
 go_wp2_with fail
 have G:aA (kr w.heap.size 0 (jO n) y) w.heap.size 194 (jO n):=kQ _ 0 y _ F.out.1;have lX:=jD w.heap.size (jO n) 0 y;change bodyPost _ _ _ _ _ (kr w.heap.size 0 (jO n) y);generalize kr w.heap.size 0 (jO n) y=Wf at *;have a0:=G.cell 0;have a1:=G.cell 1;have a2:=G.cell 2;have a3:=G.cell 3;have a4:=G.cell 4;have a5:=G.cell 5;have a6:=G.cell 6;have a7:=G.cell 7;have a8:=G.cell 8;have a9:=G.cell 9;have U:=G.cell 10;have V:=G.cell 11;have X:=G.cell 12;have Z:=G.cell 13;simp only[Av,Am]at a0 a1 a2 a3 a4 a5 a6 a7 a8 a9 U V X Z;exact bodyPost_ret (v:=.agg (jO n).toArray) (by simp[results,results144,go_sem,a0,a1,a2,a3,a4,a5,a6,a7,a8,a9,U,V,X,Z]) rfl ⟨rfl,lX.below F.out.2 (fA _)⟩
theorem w9(a:Option Addr)(n c:Nat)(w:World):Calls prog 208 #[.slice a n c] w fun e w'=>e=.returned (iZ n)/\w'=w:=by
 go_enter func208,ntmps208;go_wp2;go_ret;exact⟨rfl,rfl⟩
theorem Ew(g n c i j:Nat)(hi:i<n)(K:j<n)(F G:Int)(w:World)(H:w.cell? (aj g (i*4))=some (iZ F))(I:w.cell? (aj g (j*4))=some (iZ G)):
  Calls prog 375 #[aS g n c,iZ i,iZ j] w fun e w'=>e=.returned (.bool (decide (F<G)))/\∃q,w'=w.drewN q:=by
 go_enter func375,ntmps375
 go_wp2_with fail
 go_quiet (fail)
 go_wp2;go_ret;exact⟨rfl,nq,rfl⟩
structure Src where
 u:Int
 f1:Fn
 p1:Array Value
 k1:Array Value
 f2:Fn
 p2:Array Value
 k2:Array Value
 y:Bool
abbrev gH(s:Src):aI:=[iZ s.u,.func s.f1 s.p1 s.k1,.func s.f2 s.p2 s.k2,.bool s.y]
def qC(D:Nat->Src):List Nat->aI
 |[]=>[]
 |u::Q=>gH (D u)++qC D Q
theorem Ii(D:Nat->Src):∀Q,(qC D Q).length=Q.length*4
 |[]=>rfl
 |u::Q=>by
  have:=Ii D Q;simp only[qC,qag,KG,R3,this];omega
theorem kR(D:Nat->Src):∀(Q:List Nat) (i:Nat) (u:Nat),Q[i]?=some u->(qC D Q)[i*4]?=some (iZ (D u).u)/\(qC D Q)[i*4+1]?=some (.func (D u).f1 (D u).p1 (D u).k1)/\(qC D Q)[i*4+2]?=some (.func (D u).f2 (D u).p2 (D u).k2)/\(qC D Q)[i*4+3]?=some (.bool (D u).y)
 |[],i,u,h=>by simp at h
 |x::Q,0,u,h=>by
  simp at h;subst h;exact⟨rfl,rfl,rfl,rfl⟩
 |x::Q,i+1,u,h=>by
  have:=kR D Q i u (by simpa using h)
  have e:∀r,(i+1)*4+r=4+(i*4+r):=by intro r;omega
  have F:(i+1)*4=4+i*4:=by omega
  refine⟨?_,?_,?_,?_⟩
  ·rw[F];show(gH (D x)++qC D Q)[4+i*4]?=_;rw[uj (by simp)];simpa using this.1
  ·rw[e];show(gH (D x)++qC D Q)[4+(i*4+1)]?=_;rw[uj (by simp)];simpa using this.2.1
  ·rw[e];show(gH (D x)++qC D Q)[4+(i*4+2)]?=_;rw[uj (by simp)];simpa using this.2.2.1
  ·rw[e];show(gH (D x)++qC D Q)[4+(i*4+3)]?=_;rw[uj (by simp)];simpa using this.2.2.2
theorem yj:∀(vs:aI) (j:Nat) (A l:aI),jr (A.length+j) vs (A++l)=A++jr j vs l
 |[],_,_,_=>rfl
 |v::vs,j,A,l=>by
  show jr (A.length+j+1) vs ((A++l).set (A.length+j) v)=A++jr (j+1) vs (l.set j v);rw[List.set_append_right _ _ (by omega),Nat.add_sub_cancel_left,Nat.add_assoc,yj vs (j+1) A]
theorem Pj(D:Nat->Src):∀(Q:List Nat) (i u:Nat),i<Q.length->jr (i*4) (gH (D u)) (qC D Q)=qC D (Q.set i u)
 |[],i,u,h=>by simp at h
 |x::Q,0,u,_=>rfl
 |x::Q,i+1,u,h=>by
  have:=Pj D Q i u (by simpa using h);show jr ((i+1)*4) (gH (D u)) (gH (D x)++qC D Q)=gH (D x)++qC D (Q.set i u)
  have e:(i+1)*4=(gH (D x)).length+i*4:=by simp;omega
  rw[e,yj,this]
theorem yt:∀(vs:aI) (j:Nat) (l:aI),(jr j vs l).length=l.length
 |[],_,_=>rfl
 |v::vs,j,l=>by show(jr (j+1) vs (l.set j v)).length=_;rw[yt vs];simp
theorem uS:∀(vs:aI) (j n:Nat) (l:aI),(jr j vs l).take n=jr j vs (l.take n)
 |[],_,_,_=>rfl
 |v::vs,j,n,l=>by show(jr (j+1) vs (l.set j v)).take n=jr (j+1) vs ((l.take n).set j v);rw[uS vs,List.take_set]
theorem yu{p:Value->Prop}:∀(vs:aI) (j:Nat) (l:aI),(∀v∈l,p v)->(∀v∈vs,p v)->∀v∈jr j vs l,p v
 |[],_,_,h,_=>h
 |x::vs,j,l,h,k=>yu vs (j+1) (l.set j x) (fun v F=>by
   rcases List.mem_or_eq_of_mem_set F with h1|h1
   ·exact h v h1
   ·rw[h1];exact k x (by simp)) (fun v F=>k v (by simp[F]))
theorem yw(s:Src):∀v∈gH s,v.oneCell'=true:=by
 intro v F;simp at F
 rcases F with rfl|rfl|rfl|rfl<;>rfl
def Gx(oZ:Own)(t:Nat)(D:Nat->Src)(w:World)(g c:Nat)(Q:List Nat):Prop:=oZ g=t/\GT oZ t 304 4 w (aS g Q.length c) Q.length (qC D Q)
theorem Gx.put{oZ:Own}{t:Nat}{D:Nat->Src}{w:World}{g c:Nat}{Q:List Nat}(h:Gx oZ t D w g c Q)(i u:Nat)(hi:i<Q.length):Gx oZ t D (kr g (i*4) (gH (D u)) w) g c (Q.set i u)/\Kp [t] oZ oZ w (kr g (i*4) (gH (D u)) w):=by
 obtain⟨G,h⟩:=h;have F:=jD g (gH (D u)) (i*4) w;refine⟨⟨G,?_⟩,⟨F.os,F.tape,F.output,by rw[F.size];exact fA _,fun b _ H=>F.block b (fun e=>H (by rw[e,G];simp)),fun _ _=>rfl⟩⟩
 rcases h with⟨h1,_⟩|⟨g',cap,cs,h1,h2,h3,h4,h5,h6,h7,h8,h9⟩
 ·cases h1
 ·simp only[Value.slice.injEq,Option.some.injEq,Addr.mk.injEq,true_and,and_true]at h1;obtain⟨rfl,rfl⟩:=h1;refine .inr ⟨g,c,jr (i*4) (gH (D u)) cs,by simp,G,kQ _ _ _ _ h3,by rw[yt];exact h4,by simpa using h5,h6,by rw[Ii],?_,yu _ _ _ h9 (yw _)⟩;rw[List.length_set,uS,h8,Pj D Q i u hi]
theorem Gx.drew{oZ:Own}{t:Nat}{D:Nat->Src}{w:World}{g c:Nat}{Q:List Nat}(h:Gx oZ t D w g c Q):Gx oZ t D w.drew g c Q:=⟨h.1,h.2.kp (T:=[]) (Kp.below (w':=w.drew) ⟨rfl,rfl,rfl,fA _,fun _ _=>rfl⟩) (by simp)⟩
theorem yx(oZ:Own)(t:Nat)(D:Nat->Src)(w:World)(g c:Nat)(Q:List Nat)(i j:Nat)(hi:i<Q.length)(hj:j<Q.length)(h:Gx oZ t D w g c Q):
  Calls prog 378 #[aS g Q.length c,iZ i,iZ j] w fun e w'=>e=.returned (.tuple #[])/\Gx oZ t D w' g c (sw Q i j)/\Kp [t] oZ oZ w w':=by
 obtain⟨a,ha⟩:∃a,a=Q.getD i 0:=⟨_,rfl⟩;obtain⟨b,hb⟩:∃b,b=Q.getD j 0:=⟨_,rfl⟩
 have ea:Q[i]?=some a:=by rw[ha,DT,He hi];rfl
 have eb:Q[j]?=some b:=by rw[hb,DT,He hj];rfl
 have hP:=h.put i b hi;have G:=hP.1.put j a (by simpa using hj)
 have HF:Hid (Gx oZ t D (kr g (j*4) (gH (D a)) (kr g (i*4) (gH (D b)) w)).drew g c (sw Q i j)/\Kp [t] oZ oZ w (kr g (j*4) (gH (D a)) (kr g (i*4) (gH (D b)) w)).drew):=by
  have e:sw Q i j=(Q.set i b).set j a:=by unfold sw;rw[ha,hb]
  rw[e];exact⟨G.1.drew,(hP.2.trans G.2).drew⟩
 obtain⟨I,K,O,U⟩:=kR D Q i a ea;obtain⟨V,X,Z,h0⟩:=kR D Q j b eb
 have F:∀k x,(qC D Q)[k]?=some x->w.cell? (aj g k)=some x:=fun k x hx=>by
  obtain⟨g',e,_,_,r,_⟩:=h.2.cell k x hx;cases e;exact r
 have hf:∀k,w.frozen? (aj g k)=false:=by
  rcases h.2 with⟨h1,_⟩|⟨g',cap,cs,h1,_,h3,_⟩
  ·cases h1
  ·cases h1;exact h3.frozen
 have x0:=F _ _ I;have x1:=F _ _ K;have x2:=F _ _ O;have x3:=F _ _ U;have y0:=F _ _ V;have y1:=F _ _ X;have y2:=F _ _ Z;have y3:=F _ _ h0
 have J4:Hid (i=j->a=b):=fun e=>by rw[ha,hb,e]
 generalize Q.length=n at *;clear ha hb ea eb hP G I K O U V X Z h0 F h
 by_cases H:i=j
 ·have h2:=J4.out H;subst H;subst h2;clear y0 y1 y2 y3 J4 hj;go_enter func378,ntmps378
  go_wp2_with fail
  go_region
  go_end0;exact⟨rfl,HF.out⟩
 ·have h4:¬(i*4=j*4):=by omega
  go_enter func378,ntmps378
  go_wp2_with fail
  go_region
  go_end0;exact⟨rfl,HF.out⟩
end Go.Proofs.YtphbledmopchnaaGreatDoor.Sd
namespace Go.Proofs.YtphbledmopchnaaGreatDoor.St
open Go.RowKit Go.Lib Go.Shelf Mm Tryz
theorem gN.TW{w:World}{sp:Nat}{base:Option Addr}{c:Nat}{rs:aP}(h:gN w sp base c rs)(G:rs.length<=c)(F:c<=9223372036854775807):bK 170 2 w (.slice base rs.length c) rs.length (aL rs):=by
 rcases h with⟨rfl,rfl,rfl⟩|⟨b,l,rfl,_,hB,hl,ht,h1⟩
 ·exact bK.nil _ _ _
 ·refine .inr ⟨b,c,l,rfl,hB,by omega,G,F,by rw[jA];omega,by rw[Nat.mul_comm,ht],h1⟩
theorem Va(w:World):(binOp BinOp.eql 63 nZ nZ).run prog w=.ok (.bool true) w:=by kernel_rfl
theorem QI(w:World)(a:Addr)(n c:Nat):(binOp BinOp.eql 63 (.slice (some a) n c) nZ).run prog w=.ok (.bool false) w:=by kernel_rfl
theorem MU(v:Value)(rs:aP)(w:World)(h:bK 170 2 w v rs.length (aL rs))(hn:rs.length<=1000000):
  Calls prog 228 #[v] w fun e w'=>∃v',e=.returned v'/\bK 170 2 w' v' rs.length (aL rs)/\Own w.heap.size v'/\aD w w':=by
 rcases h with⟨rfl,hg,hf⟩|⟨g,cap,cs,rfl,hB,h2,h3,h4,h5,h6,h7⟩
 ·have HG:Hid (bK 170 2 w nZ rs.length (aL rs)):=.inl ⟨rfl,hg,hf⟩;have q1:=Va w;go_enter func228,ntmps228;go_wp2;go_ret;exact⟨_,rfl,HG.out,fun k X=>by simp[tT]at X,mR _ _⟩
 ·have q1:=QI w (aj g 0) rs.length cap;obtain⟨F,I⟩:∃F,F=w.alloc (.cells #[] 170):=⟨_,rfl⟩
  have K:aA F w.heap.size 170 []:=by rw[I];exact aA.new w 170 []
  have H:aD w F:=by rw[I];exact(mR _ w).alloc (fA _) _
  have hm:F.heap.size=w.heap.size+1:=by rw[I];simp
  have h9:aA F g 170 cs:=hB.of_heap (H.block g hB.lt)
  have G:∀j u,(aL rs)[j]?=some u->F.cell? ((aj g 0).add j)=some u:=fun j u V=>by
   rw[Addr.add_lit,qay,h9.cell];rw[<-h6,qae]at V;split at V
   ·exact V
   ·cases V
  obtain⟨v',U,uQ,O,Ta,Z⟩:∃v' U,(∀ty,(qa0 #[63,63] ty #[aS w.heap.size 0 0,aS g rs.length cap]).run prog F=.ok v' U)/\bK 170 2 U v' rs.length (aL rs)/\Own w.heap.size v'/\aD w U:=by
   by_cases h0:rs.length=0
   ·have ha:rs=[]:=List.length_eq_zero_iff.1 h0;subst ha
    have he:=fun ty=>dz (P:=prog) (w:=F) 63 63 ty 170 _ 2 16 G7.ht G7.ht G7.hi (n:=0) (c:=0) (m:=0) (mc:=cap) K (aj g 0) (vs:=[]) rfl (fun j v V=>by simp at V) (fun v hv=>by cases hv) (fA _) (fA _)
    refine⟨_,_,he,.inr ⟨w.heap.size,0,_,rfl,K.put _,rfl,fA _,by omega,rfl,rfl,fun v hv=>by cases hv⟩,fun k X=>by simp[tT]at X;omega,?_⟩;exact H.trans ((⟨(bC F w.heap.size _).os,(bC F w.heap.size _).tape,(bC F w.heap.size _).output,(bC F w.heap.size _).size,fun k X=>dK F _ k _ (by omega)⟩:Below w.heap.size F _))
   ·have h8:bK 170 2 F (aS w.heap.size 0 0) 0 []:=.inr ⟨w.heap.size,0,[],rfl,K,rfl,fA _,by omega,rfl,rfl,fun v hv=>by cases hv⟩;obtain⟨v',U,uQ,hc,O⟩:=fE G7 h8 (aj g 0) rs.length cap (aL rs) (by rw[jA];omega) (by omega) (jq rs) G (by omega)
    have hO:Own w.heap.size (aS w.heap.size 0 0):=fun k X=>by simp[tT]at X;omega
    exact⟨v',U,uQ,by simpa using hc,O.own hO (by omega),H.trans (O.below hO (by omega))⟩
  obtain⟨a',c',rfl,_⟩:=O.shape;have HF:=au (And.intro O (And.intro Ta Z));clear O Ta Z G h9 hm H K hB h2 h3 h4 h5 h6 h7;subst I;go_enter func228,ntmps228
  go_wp2_with (at_builtin;refine Lib.wpList_append_run _ rfl _ _ _ _ rfl _ _ rfl rfl _ _ (uQ _) ?_)
  go_ret;exact⟨_,rfl,HF.out⟩
theorem Dl(a:Option Addr)(n c:Nat)(w:World):
  Calls prog 227 #[.slice a n c] w fun e w'=>e=.returned (.func (.func 293) #[] #[ay w.heap.size 0])/\w'=w.alloc (.cells #[.slice a n c] 63):=by
 have F:∀(fn:Fn) (first cap:Array Value) (w:World),(Instr.makeFunc fn first cap).run prog w=.ok (.func fn first cap) w:=fun _ _ _ _=>rfl
 go_enter func227,ntmps227;go_wp2;go_ret;exact⟨rfl,rfl⟩
section
attribute [local go_sem] Oper.semAt_some
def bw(rs:aP)(k:Nat):List (Nat×Nat×Nat):=(List.range k).map fun j=>(rs.length-1-j,rs.getD (rs.length-1-j) (0,0))
theorem Vb(rs:aP)(k:Nat):bw rs (k+1)=bw rs k++[(rs.length-1-k,rs.getD (rs.length-1-k) (0,0))]:=by simp[bw,List.range_succ]
theorem MV(rs:aP)(k:Nat):(bw rs k).length=k:=by simp[bw]
theorem QJ(F:Fence)(n:Nat)(h8:F.fn 293)(h7:F.round=none)(hn:1<=n)(l G:Nat)(v:Value)(rs:aP)(he:rs.length<=1000000)(Kp:World->World->Prop)(h2:∀A B,Kp A B->B.heap[G]?=A.heap[G]?/\∀g,v.ownBlock=some g->B.heap[g]?=A.heap[g]?)(J Jx:List (Nat×Nat×Nat)->World->Prop)(hY:∀pre x W,J pre W->pre.length<rs.length->YieldAt F (n-1) prog l #[iZ x.1,.agg #[uZ x.2.1,uZ x.2.2]] W fun e K=>
   (e=.returned (.bool true)/\J (pre++[x]) K/\Kp W K)\/(e=.returned (.bool false)/\Jx (pre++[x]) K))(W:World)(hb:aA W G 63 [v])(H:bK 170 2 W v rs.length (aL rs))(h0:J [] W):
  CallsIn F n prog 293 #[.func (.yield l) #[] #[],ay G 0] W fun e K=>(∃v,e=.returned v)/\
   ((∃ys,ys=bw rs rs.length/\J ys K)\/(∃pre,(∃k,k<=rs.length/\pre=bw rs k)/\Jx pre K)):=by
 obtain⟨a,c,rfl,hc⟩:=H.shape;have k0:W.cell? (aj G 0)=some (.slice a rs.length c):=hb.cell 0;have HB:=au hb;have HG:=au H;have HY:=au hY;have h4:=au h2;clear hb H hY h2;refine callsIn_of_wp func293 rfl h8 ?_ h7;simp only[ntmps293,WA,KG,R3,qa5,qa9,Lb,M4,Ur,SF,qa1,YF]
 gi_wp2
 gi_loopw [3] (fun i wr=>∃k m:Nat,k+m=rs.length/\i=(iZ ((m:Int)-1))/\Hid (J (bw rs k) wr/\aA wr G 63 [.slice a rs.length c]/\bK 170 2 wr (.slice a rs.length c) rs.length (aL rs)))
  (fun i _=>(intOf i+1).toNat)
 case atStart=>exact⟨0,rs.length,by omega,rfl,h0,HB.out,HG.out⟩
 case round=>
  obtain⟨k,m,h9,rfl,O⟩:=hrel;obtain⟨hJ,hb,H⟩:=O.out;have hf:wr.cell? (aj G 0)=some (.slice a rs.length c):=hb.cell 0
  cases m with
  |zero=>
   have e0:((0:Nat):Int)-1= -1:=by omega
   rw[e0]
   obtain rfl:k=rs.length:=by omega
   clear hJ hb H
   gi_wp2
   go_end0;exact⟨⟨_,rfl⟩,.inl ⟨_,rfl,O.out.1⟩⟩
  |succ m=>
   have e0:((m+1:Nat):Int)-1=(m:Int):=by omega
   rw[e0]
   have hm:m<rs.length:=by omega
   have ha:(m:Int)<(rs.length:Int):=by omega
   obtain⟨g,hg,c0,_⟩:=H.cell rfl (m*2) _ (pX rs m hm);obtain⟨g',X,c1,_⟩:=H.cell rfl (m*2+1) _ (pY rs m hm);subst hg
   have h5:g'=g:=by simp at X;exact X.symm
   subst h5
   have h6:rs.length-1-k=m:=by omega
   have I:=au (Vb rs k);rw[h6]at I;generalize rs.getD m (0,0)=xy at *;obtain⟨x,y⟩:=xy;dsimp only at c0 c1;obtain⟨fn,tmps,assign,body,hy,hR⟩:=HY.out _ (m,x,y) wr hJ (by rw[MV];omega);dsimp only at hy;clear hJ hb H
   gi_wp2
   refine hR.mono ?_;rintro e W3 (⟨rfl,U,Z⟩|⟨rfl,V⟩)
   ·obtain⟨q1,q2⟩:=h4.out _ _ Z
    have h3:Hid (J (bw rs (k+1)) W3/\aA W3 G 63 [aS g' rs.length c]/\bK 170 2 W3 (aS g' rs.length c) rs.length (aL rs)):=
     ⟨by rw[I.out];exact U,O.out.2.1.of_heap q1,O.out.2.2.of_heap q2⟩
    clear U Z q1 q2 O hR hy
    gi_wp2
    go_roundw
    case rel=>exact⟨k+1,m,by omega,by go_num,h3⟩
    case measure=>simp[intOf]
   ·gi_wp2
    refine bodyPost_ret (results_none rfl _ _ _) rfl ?_;exact⟨⟨_,rfl⟩,.inr ⟨_,⟨k+1,by omega,I.out.symm⟩,V⟩⟩
end
section
attribute [local go_sem] Oper.semAt_some
theorem Dm{β:Type}(B b:Nat)(t:TypeId)(l:aI):OwnFrom B (fun(_:β) W=>aA W b t l):=fun _ X Y row hs H I=>
 hs.of_heap (H.block b hs.lt (fun e=>by
  obtain⟨_,o,F,G⟩:=I b e.symm;rw[show X.heap[b]?=_ from hs]at F;cases F
  cases G))
def KpO(a E:Nat)(W F:World):Prop:=W.heap.size<=F.heap.size/\(∀k,a<=k->k<E->F.heap[k]?=W.heap[k]?)/\KeepsFrom a W F
def encR(x:Nat×Nat):Array Value:=#[.agg #[uZ x.1,uZ x.2]]
theorem QL(rs:aP)(k:Nat)(H:k<=rs.length):(bw rs k).map (·.2)=rs.reverse.take k:=by
 apply List.ext_getElem?;intro j
 by_cases F:j<k
 ·rw[qae,if_pos F,List.getElem?_reverse (by omega)]
  have G:rs.length-1-j<rs.length:=by omega
  simp[bw,F,G]
 ·rw[qa3 (by simp[bw];omega),qa3 (by simp;omega)]
end
section
attribute [local go_sem] Oper.semAt_some
theorem QM(n:Nat)(hn:4<=n)(l sb sp:Nat)(rs:aP)(A:World)(base:Option Addr)(c:Nat)(hv:A.cell? (aj sp 227)=some (.slice base rs.length c))(ha:bK 170 2 A (.slice base rs.length c) rs.length (aL rs))(h7:aA A sb 273 [ay sp 225])(x7:rs.length<=1000000)(J Jx:Nat->aP->World->Prop)(hJ:∀E,OwnFrom A.heap.size (J E))(x4:∀E,OwnFrom A.heap.size (Jx E))(h0:∀E W,aD A W->J E [] W)(hY:∀m E pre x W,A.heap.size<=E->E<=W.heap.size->J E pre W->pre.length<rs.length->YieldAt WJ m prog l (encR x) W fun e W'=>
   (e=.returned (.bool true)/\J E (pre++[x]) W'/\KpO A.heap.size E W W')\/(e=.returned (.bool false)/\Jx E (pre++[x]) W'/\KpO A.heap.size E W W')):
  CallsIn WJ n prog 226 #[.func (.yield l) #[] #[],ay sb 0] A fun e W'=>(∃v,e=.returned v)/\∃E,A.heap.size<=E/\(J E rs.reverse W'\/(∃k,k<=rs.length/\Jx E (rs.reverse.take k) W')):=by
 have h1:1<=n:=by omega
 obtain⟨W0,hj⟩:∃W0,W0=A.alloc (.cells #[.func (.yield l) #[] #[]] 325):=⟨_,rfl⟩
 have I:aD A W0:=by rw[hj];exact(mR _ A).alloc (fA _) _
 have h8:aA W0 A.heap.size 325 [.func (.yield l) #[] #[]]:=by rw[hj];exact aA.new A 325 _
 have k0:A.cell? (aj sb 0)=some (ay sp 225):=h7.cell 0;have QN:=h7.lt;have k1:W0.cell? (aj sb 0)=some (ay sp 225):=(h7.of_heap (I.block sb QN)).cell 0;have k2:W0.cell? (aj sp 227)=some (.slice base rs.length c):=cell_of hv (I.block sp (sQ A _ (by rw[hv])));have x3:bK 170 2 W0 (.slice base rs.length c) rs.length (aL rs):=ha.of_heap (fun b hb=>I.block b (ha.lt b hb));have HC:=au (MU _ rs W0 x3 x7);have x0:=au h8;have hw:=au I;have HJ:=au hJ;have hx:=au x4;have H0:=au h0;have HY:=au hY;clear hv ha x3 I h8 hJ x4 h0 hY h7;refine callsIn_of_wp_marks func226 rfl trivial ?_ rfl;simp only[ntmps226,WA,KG,R3,qa5,qa9,Lb,M4,Ur,SF,qa1,YF];subst hj
 gi_wp2_with (refine⟨trivial,?_⟩;gi_at_call 228;refine(callsIn_wide.2 HC.out).mono ?_;rintro e H ⟨v1,rfl,h3,wJ,Z⟩)
 obtain⟨a1,c1,rfl,_⟩:=h3.shape;refine⟨trivial,?_⟩;refine(callsIn_wide.2 (Dl a1 rs.length c1 H)).mono ?_;rintro e G ⟨rfl,h5⟩
 have V:Hid (aD A G/\aA G A.heap.size 325 [.func (.yield l) #[] #[]]/\aA G H.heap.size 63 [.slice a1 rs.length c1]/\bK 170 2 G (.slice a1 rs.length c1) rs.length (aL rs)/\Own A.heap.size (.slice a1 rs.length c1)/\A.heap.size<H.heap.size/\G.heap.size=H.heap.size+1):=by
  have hm:aD H G:=by rw[h5];exact(mR _ H).alloc (fA _) _
  have hA1:aD A H:=hw.out.trans (Z.mono (by simp))
  have h6:A.heap.size<H.heap.size:=by have:=Z.size;simp at this;omega
  refine⟨hA1.trans (hm.mono hA1.size),x0.out.of_heap ?_,?_,h3.of_heap (fun b hb=>hm.block b (h3.lt b hb)),fun k hk=>?_,h6,?_⟩
  ·rw[hm.block _ h6,Z.block _ (by simp)]
  ·rw[h5];exact aA.new H 63 _
  ·have:=wJ k hk;simp at this;omega
  ·rw[h5];simp
 clear h3 wJ Z h5 x0 hw HC k0 k1 k2
 gi_wp2
 have h9:SeqStopsK WJ (n-1) prog 293 #[ay H.heap.size 0] (fun x:Nat×Nat×Nat=>#[iZ x.1,.agg #[uZ x.2.1,uZ x.2.2]]) (fun X Y=>∀k,A.heap.size<=k->k<G.heap.size->Y.heap[k]?=X.heap[k]?) (fun ys=>ys=bw rs rs.length) (fun pre=>∃k,k<=rs.length/\pre=bw rs k) rs.length G:=fun l' J' x9 W hW _ _ xe xa=>by
  obtain⟨hA2,h8,x6,h4,x5,xd,xf⟩:=V.out;exact QJ WJ (n-1) trivial rfl (by omega) l' H.heap.size _ rs x7 _ (fun X Y hk=>⟨hk _ (by omega) (by omega),fun g hg=>hk g (x5 g hg) (h4.lt g hg)⟩) J' x9 xe W (x6.of_heap (hW.block _ (by omega))) (h4.of_heap (fun b hb=>hW.block b (h4.lt b hb))) xa
 have QO:A.heap.size<G.heap.size:=by obtain⟨hA2,h8,x6,h4,x5,xd,xf⟩:=V.out;omega
 have bD:∀(Q:Nat->aP->World->Prop) (E:Nat),OwnFrom A.heap.size (Q E)->OwnFrom G.heap.size (fun(pre:List (Nat×Nat×Nat)) W=>Q E (pre.map (·.2)) W):=fun Q E h s X Y row hs hg hr=>h _ X Y row hs hg (fun r e=>⟨qai (Kt QO) (hr r e).1,(hr r e).2⟩)
 have Zh:OwnFrom G.heap.size (fun(_:List (Nat×Nat×Nat)) (W:World)=>G.heap.size<=W.heap.size):=fun s X Y row hs hg hr=>qai hs hg.size
 refine wpIn_rangeFunc_ownH (F:=WJ) (w:=G) rfl h1 (gf:=293) (lb:=#[ay H.heap.size 0]) rfl trivial (enters_of func293 (by kernel_rfl) rfl) h9
  (fun h k i h1 h2=>(k i h1 h2).trans (h i h1 h2)) (fun W l' o o' xj ho _ _ i h1 h2=>fB (by omega)) (mR _ _) (fun _=>rfl)
  (fun pre W=>J G.heap.size (pre.map (·.2)) W/\aA W A.heap.size 325 [.func (.yield l) #[] #[]]/\G.heap.size<=W.heap.size)
  (fun c pre W=>c=.ret/\Jx G.heap.size (pre.map (·.2)) W)
  (OwnFrom.and (bD J _ (HJ.out _)) (OwnFrom.and (Dm _ _ _ _) Zh))
  (fun c=>OwnFrom.and (ownFrom_pure _ _) (bD Jx _ (hx.out _)))
  ⟨H0.out _ _ V.out.1,V.out.2.1,fA _⟩
  (fun x a' W=>∃bx,aA W bx 170 [uZ x.2.1,uZ x.2.2]/\a'={tmps:=#[.func (.yield l) #[] #[],ay sb 0,ay A.heap.size 0,undef,ay bx 0,ay sp 225,ay sp 225,ay sp 227,.slice base rs.length c,.slice a1 rs.length c1,.func (.func 293) #[] #[ay H.heap.size 0],iZ x.1,.agg #[uZ x.2.1,uZ x.2.2],undef,undef,undef,undef],defers:=[]})
  (fun x a' _ X Y row hs hg hr=>by
   obtain⟨bx,h1,h2⟩:=hs
   exact⟨bx,Dm _ _ _ _ () X Y row h1 hg hr,h2⟩)
  ?assign ?body ?done ?stop
 case assign=>
  rintro l' pre x W K ⟨i1,i2,i3⟩ hK
  gi_wp2
  refine hK _ _ ((KeepsOthers.alloc _ _).from _) (fun k h1 h2=>wz _ _ _ (by omega)) ⟨OwnFrom.alloc (bD J _ (HJ.out _)) _ i1,i2.alloc _,by simp;omega⟩ ⟨W.heap.size,aA.new W 170 [uZ x.2.1,uZ x.2.2],rfl⟩
 case body=>
  rintro l' pre x a' W hl ⟨r,hr⟩ ⟨i1,i2,i3⟩ ⟨bx,hu,rfl⟩ h6;obtain⟨fn,tmps,assign,body,hy,hR⟩:=HY.out (n-1-1-1) G.heap.size (pre.map (·.2)) x.2 W (Kt QO) i3 i1 (by simpa using h6);have hf:RoundIn (Fence.wide.inRound l') (n-1-1-1) prog l fn tmps assign body W _:=hR;unfold encR at hy;have y0:W.cell? (aj A.heap.size 0)=some (.func (.yield l) #[] #[]):=i2.cell 0;have y1:W.cell? (aj bx 0)=some (uZ x.2.1):=hu.cell 0;have y2:W.cell? (aj bx 1)=some (uZ x.2.2):=hu.cell 1;have x8:=au i2;clear hR h9 bD Zh i1 i2 hu
  gi_wp2
  refine⟨fun _=>by omega,hf.mono ?_⟩;rintro e W3 (⟨rfl,O,U⟩|⟨rfl,O,U⟩)
  ·have HF:Hid (KeepsFrom G.heap.size W W3/\(∀k,A.heap.size<=k->k<G.heap.size->W3.heap[k]?=W.heap[k]?)/\J G.heap.size ((pre++[x]).map (·.2)) W3/\aA W3 A.heap.size 325 [.func (.yield l) #[] #[]]/\G.heap.size<=W3.heap.size):=by
    obtain⟨q1,q2,q3⟩:=U;refine⟨⟨q3.size,fun k o hk ho hc=>q3.same k o (by omega) ho hc⟩,q2,by rw[qar];exact O,x8.out.of_heap (q2 _ (fA _) QO),by omega⟩
   clear O U hf hy y0 y1 y2
   gi_wp2
   exact HF.out
  ·have HF:Hid (KeepsFrom G.heap.size W W3/\Jx G.heap.size ((pre++[x]).map (·.2)) W3):=by
    obtain⟨q1,q2,q3⟩:=U;exact⟨⟨q3.size,fun k o hk ho hc=>q3.same k o (by omega) ho hc⟩,by rw[qar];exact O⟩
   clear O U hf hy y0 y1 y2
   gi_wp2
   exact⟨HF.out.1,rfl,HF.out.2⟩
 case done=>
  rintro D ys W hD xi ⟨i1,_,_⟩ hK;subst xi
  have he:J G.heap.size rs.reverse (W.putObj D (.deferred none)):=by
   have:=(HJ.out G.heap.size).putObj (.deferred none) i1 (by omega) hK rfl;rwa[QL rs rs.length (fA _),List.take_of_length_le (by simp)]at this
  gi_wp2
  refine⟨by simp,.inl ⟨_,_,rfl,run_takeDeferred hK,?_⟩⟩;exact⟨_,results_none rfl _ _ _,⟨_,rfl⟩,_,Kt QO,.inl he⟩
 case stop=>
  rintro D c' pre W hD ⟨k,hk,rfl⟩ ⟨rfl,i1⟩ hK
  have he:Jx G.heap.size (rs.reverse.take k) (W.putObj D (.deferred none)):=by
   have:=(hx.out G.heap.size).putObj (.deferred none) i1 (by omega) hK rfl;rwa[QL rs k hk]at this
  gi_wp2
  refine⟨by simp,.inl ⟨_,_,rfl,run_takeDeferred hK,?_⟩⟩;exact⟨_,results_none rfl _ _ _,⟨_,rfl⟩,_,Kt QO,.inr ⟨k,hk,he⟩⟩
end
section
attribute [local go_sem] Oper.semAt_some
theorem QS{F:Fence}{n:Nat}{P:Program}(w:World){H:Array Oper}{rest:List Oper}{o:Oper}{a:Act}{Q:Exit->Act->World->Prop}(V:o.guard=none)(s x:Operand)(t:TypeId)(G:o.op=Op.call {callee:=Callee.builtin Builtin.append,args:=#[s,x],argTypes:=#[t,t]})(vs I:Value)(hs:a.eval s=vs)(Z:a.eval x=I)(v':Value)(w':World)(X:(qa0 #[t,t] o.type #[vs,I]).run P w=.ok v' w')(h:wpListIn F n P H Q rest (a.put o.dst v') w'):wpListIn F n P H Q (o::rest) a w:=
 wpListIn_plain V fun K O=>by
  unfold qaw;constructor
  ·simp[qas,G,resolve,Target.leads,Sem.run_pure]
  ·rw[ZH F _ _ (by rw[G];intro c U;cases U)];simp[execOp,G,resolve,invoke,builtin,hs,Z,X,Result.andThen];exact O _ _ h
theorem abstractRange{F:Fence}{n:Nat}{P:Program}{Q:Exit->Act->World->Prop}{a:Act}{w:World}{g:Operand}{ps:Array Tmp}{assign body:Code}(h:∀H bd G,H=assign->bd=body->G=a->(Code.rangeFunc g ps H bd).wpIn F n P Q G w):(Code.rangeFunc g ps assign body).wpIn F n P Q a w:=h _ _ _ rfl rfl rfl
theorem Vd{β:Type}{B:Nat}{I:β->World->Prop}(h:∀s X Y,I s X->Y.os=X.os->Y.tape=X.tape->Y.output=X.output->X.heap.size<=Y.heap.size->(∀k,k<X.heap.size->k<B->Y.heap[k]?=X.heap[k]?)->(∀k t l,aA X k t l->Y.heap[k]?=X.heap[k]?)->I s Y):OwnFrom B I:=fun s X Y row hs F G=>
 h s X Y hs F.os F.tape F.output F.size (fun k H hB=>F.block k H (fun e=>by have:=(G k e.symm).1;omega)) (fun k t l hb=>Dm B k t l () X Y row hb F G |>.trans hb.symm)
theorem QT{e:TypeId}{k:Nat}{w w':World}{v:Value}{n:Nat}{l:aI}(h:bK e k w v n l)(G:∀b t l,aA w b t l->w'.heap[b]?=w.heap[b]?):bK e k w' v n l:=by
 rcases h with h|⟨g,cap,cs,rfl,hB,F⟩
 ·exact .inl h
 ·exact .inr ⟨g,cap,cs,rfl,hB.of_heap (G _ _ _ hB),F⟩
theorem X4{B:Nat}{wr:World}{v:Value}{out:aP}(h:bK 170 2 wr v out.length (aL out))(Z:Own B v)(hB:B<=wr.heap.size)(hl:out.length<=100000000)(lo hi:Nat):
  ∃g c G,(∀ty,(qa0 #[63,63] ty #[v,aS wr.heap.size 1 1]).run prog (wr.alloc (.cells #[uZ lo,uZ hi] 170))=.ok (aS g (out.length+1) c) G)/\
   bK 170 2 G (aS g (out.length+1) c) (out++[(lo,hi)]).length (aL (out++[(lo,hi)]))/\Own B (aS g (out.length+1) c)/\Below B wr G/\∀k,k<wr.heap.size->v.ownBlock≠some k->G.heap[k]?=wr.heap[k]?:=by
 have O:=h.lt;have Zi:bK 170 2 (wr.alloc (.cells #[uZ lo,uZ hi] 170)) v out.length (aL out):=h.of_heap (fun b hb=>wz _ _ _ (O b hb))
 obtain⟨v',G,uQ,F,I⟩:=fE G7 Zi (aj wr.heap.size 0) 1 1 [uZ lo,uZ hi] rfl (by decide) (fun v hv=>by simp at hv;rcases hv with rfl|rfl<;>rfl)
  (fun j u hu=>by
   rw[Addr.add_lit,qay,(aA.new wr 170 [uZ lo,uZ hi]).cell]
   exact hu) (by omega)
 have Ta:=I.own Z (by simp;omega);have V:=I.below Z (by simp;omega);have K:Below B wr (wr.alloc (.cells #[uZ lo,uZ hi] 170)):=(mR _ wr).alloc hB _
 obtain⟨g',H,rfl⟩:∃g' H,v'=(aS g' (out.length+1) H):=by
  rcases F with⟨_,X,_⟩|⟨g',H,_,X,_⟩
  ·omega
  ·exact⟨g',H,X⟩
 have U:aL out++[uZ lo,uZ hi]=aL (out++[(lo,hi)]):=by rw[gT];rfl
 rw[U]at F;exact⟨g',H,G,uQ,by rw[qag];exact F,Ta,K.trans V,fun k hk hn=>by rw[I.1.block k (by simp;omega) (fun e=>hn e.symm),wz _ _ _ hk]⟩
def JC(w:World)(G L D:Nat)(F:Loop)(E:Nat)(pre:aP)(W:World):Prop:=
 aD w W/\(∃v,aA W G 63 [v]/\bK 170 2 W v pre.length (aL pre)/\Own E v)/\W.heap[L]?=some (.loop F)/\W.heap[D]?=some (.deferred (some []))
theorem JC.own{w:World}{U L D:Nat}{H:Loop}{E B:Nat}(hL:L<B)(hD:D<B)(hw:w.heap.size<=B):OwnFrom B (JC w U L D H E):=Vd fun s X Y hs V Z e3 e4 F hb=>by
 obtain⟨h1,⟨v,I,h4,h5⟩,K,O⟩:=hs;have lL:=(tL.1 K).1;have lD:=(tL.1 O).1;exact⟨⟨V.trans h1.os,Z.trans h1.tape,e3.trans h1.output,qai h1.size e4,fun k G=>(F k (by have:=h1.size;omega) (by omega)).trans (h1.block k G)⟩,⟨v,I.of_heap (hb _ _ _ I),QT h4 hb,h5⟩,(F L lL hL).trans K,(F D lD hD).trans O⟩
theorem Aj(sb sp:Nat)(rs:aP)(base:Option Addr)(c:Nat)(w:World)(hj:w.cell? (aj sp 227)=some (.slice base rs.length c))(hG:bK 170 2 w (.slice base rs.length c) rs.length (aL rs))(h2:aA w sb 273 [ay sp 225])(xm:rs.length<=1000000):
  Calls prog 308 #[nZ,.func (.func 226) #[] #[ay sb 0]] w fun e w'=>∃v',e=.returned v'/\bK 170 2 w' v' rs.reverse.length (aL rs.reverse)/\Own w.heap.size v'/\aD w w':=by
 have xl:∀(b:Nat) (W:World),(binOp BinOp.eql 234 (.func (.func 226) #[] #[ay b 0]) .nilFunc).run prog W=.ok (.bool false) W:=fun _ _=>by kernel_rfl
 have HS:=au (And.intro hj (And.intro hG h2));have QN:=h2.lt;have Zj:=sQ w _ (by rw[hj]);clear hj hG h2;refine(callsIn_wide (n:=10)).1 ?_;refine callsIn_of_wp_marks func308 rfl trivial ?_ rfl;simp only[ntmps308,WA,KG,R3,qa5,qa9,Lb,M4,Ur,SF,qa1,YF]
 gi_wp2
 obtain⟨F,hm⟩:∃F,F=w.alloc (.cells #[nZ] 63):=⟨_,rfl⟩;rw[<-hm]
 have ha:Hid (aD w F/\F.heap.size=w.heap.size+1/\aA F w.heap.size 63 [nZ]):=by
  rw[hm];exact⟨(mR _ w).alloc (fA _) _,by simp,aA.new w 63 [nZ]⟩
 clear hm xl;refine abstractRange (fun ag bd a0 has x0 hf=>wpIn_rangeFunc ?_);intro fn _
 obtain⟨I,G⟩:∃I:LoopState->Option Code->Loop,I=fun st pe=>{state:=st,pending:=pe,fn:=fn,tmps:=a0.tmps,params:=#[7],assign:=ag,body:=bd,defers:=F.heap.size}:=⟨_,rfl⟩
 obtain⟨A,hA⟩:∃A,A=(F.alloc (.deferred (some []))).alloc (.loop (I .ready none)):=⟨_,rfl⟩;obtain⟨hg,x7,x3⟩:=ha.out;obtain⟨r1,r2,r3⟩:=HS.out
 have x8:A.heap.size=F.heap.size+2:=by rw[hA];simp
 have MW:aD F A:=by rw[hA];exact((mR _ F).alloc (fA _) _).alloc (by simp) _
 have he:A.heap[F.heap.size+1]?=some (.loop (I .ready none)):=by rw[hA];have:=qa4 (F.alloc (.deferred (some []))) (.loop (I .ready none));rwa[World.size_alloc]at this
 have hc:A.heap[F.heap.size]?=some (.deferred (some [])):=by rw[hA];exact(wz _ _ _ (by simp)).trans (qa4 F _)
 have MX:aD w A:=hg.trans (MW.mono (by omega));have y2:=r3.of_heap (MX.block _ QN);have y3:=x3.of_heap (MW.block _ x3.lt);have y4:A.cell? (aj sp 227)=some (.slice base rs.length c):=cell_of r1 (MX.block _ Zj);have y5:bK 170 2 A (.slice base rs.length c) rs.length (aL rs):=r2.of_heap (fun b hb=>MX.block b (r2.lt b hb));clear r1 r2 r3;refine⟨F.heap.size+1,[{target:=.collected F.heap.size,args:=#[]}],A,{target:=.fn (.func 226) #[ay sb 0],args:=#[.func (.yield (F.heap.size+1)) #[] #[]]},A,226,#[.func (.yield (F.heap.size+1)) #[] #[],ay sb 0],A,?_,?_,fun _ _=>trivial,?_,fun _=>by omega,?_⟩
 ·rw[hA,G];exact run_enterLoop_outer _ _ _ _ _
 ·rw[hf];simp[resolve,Act.eval,go_sem]
 ·simp[invoke,go_sem]
 ·refine(QM (10-1) (by omega) (F.heap.size+1) sb sp rs A base c y4 y5 y2 xm (JC w w.heap.size (F.heap.size+1) F.heap.size (I .ready none)) (fun _ _ _=>False)
   (fun E=>JC.own (by omega) (by omega) (by omega)) (fun E=>ownFrom_pure _ _) (fun E W hW=>?_) ?_).mono ?_
  ·exact⟨MX.trans (hW.mono (by omega)),⟨_,y3.of_heap (hW.block _ (by omega)),bK.nil _ _ _,fun k H=>by simp[tT]at H⟩,(hW.block _ (by omega)).trans he,(hW.block _ (by omega)).trans hc⟩
  ·intro m E pre x W hE xy hJ xo;obtain⟨h1,⟨v',h3,h4,h5⟩,h6,h7⟩:=hJ;have hy:=run_yield (P:=prog) (args:=encR x) h6 (by rw[G];rfl);have UY:=(tL.1 h6).1;obtain⟨Wa,O⟩:∃Wa,Wa=W.alloc (.cells #[uZ x.1,uZ x.2] 170):=⟨_,rfl⟩
   have hx:Wa.heap[F.heap.size+1]?=some (.loop (I .ready none)):=by rw[O];exact(wz _ _ _ UY).trans h6
   obtain⟨X,Z⟩:∃X,X=Wa.putObj (F.heap.size+1) (.loop {I .ready none with state:=.busy}):=⟨_,rfl⟩
   have x4:(Instr.beginRound (F.heap.size+1)).run prog Wa=.ok () X:=by rw[Z];exact run_beginRound hx (by rw[G])
   have h2:X.heap.size=W.heap.size+1:=by rw[Z,O];simp
   have Ti:∀k,k<W.heap.size->k≠F.heap.size+1->X.heap[k]?=W.heap[k]?:=fun k H hn=>by rw[Z,fB hn,O];exact wz _ _ _ H
   have x5:X.heap[F.heap.size+1]?=some (.loop {I .ready none with state:=.busy}):=by rw[Z];exact qa2 (by rw[O];simp;omega)
   have ho:aA X W.heap.size 170 [uZ x.1,uZ x.2]:=by
    have z:=aA.new W 170 [uZ x.1,uZ x.2];rw[Z];refine aA.of_heap (w:=Wa) (by rw[O];exact z) (fB (by omega))
   have Ve:X.os=W.os/\X.tape=W.tape/\X.output=W.output:=by rw[Z,O];exact⟨rfl,rfl,rfl⟩
   have b3:=h3.of_heap (Ti _ h3.lt (by omega));have b4:bK 170 2 X v' pre.length (aL pre):=h4.of_heap (fun k H=>Ti k (h4.lt k H) (by have:=h5 k H;omega));obtain⟨g,C,W5,uQ,c1,c2,c3,c4⟩:=X4 b4 h5 (by omega) (by omega) x.1 x.2;obtain⟨a9,c9,rfl,_⟩:=h4.shape;have d3:X.cell? (aj w.heap.size 0)=some (.slice a9 pre.length c9):=b3.cell 0
   have MZ:∀k,k<E->(qam a9 pre.length c9).ownBlock≠some k:=fun k H e=>by have:=h5 k e;omega
   have e3:=b3.of_heap (c4 _ b3.lt (MZ _ (by omega)));have e6:=(c4 _ (by omega) (MZ _ (by omega))).trans x5;have xp:W5.cell? (aj w.heap.size 0)=some (.slice a9 pre.length c9):=e3.cell 0;have xv:=e3.frozen 0;have xr:X.cell? (aj W.heap.size 0)=some (uZ x.1):=ho.cell 0;have xt:X.cell? (aj W.heap.size 1)=some (uZ x.2):=ho.cell 1;rw[G]at hy;refine⟨fn,_,ag,bd,hy,roundIn_of_wpIn trivial ?_⟩;clear hy
   have Zk:∀(W6:World),W6=W5.setCell (aj w.heap.size 0) (aS g (pre.length+1) C)->
     ∃K,(Instr.endRound (F.heap.size+1) none).run prog W6=.ok (.bool true) K/\K.heap[F.heap.size+1]?=some (.loop (I .ready none))/\KpO A.heap.size E W K/\aD w K/\(∃v,aA K w.heap.size 63 [v]/\bK 170 2 K v (pre++[x]).length (aL (pre++[x]))/\Own E v)/\K.heap[F.heap.size]?=some (.deferred (some [])):=by
    intro W6 Gw
    have hw:W6.heap[F.heap.size+1]?=some (.loop {I .ready none with state:=.busy}):=by rw[Gw,qab _ _ _ _ (by simp;omega)];exact e6
    have x6:=run_endRound (P:=prog) none hw;obtain⟨K,Oa⟩:∃K,K=W6.putObj (F.heap.size+1) (.loop (I .ready none)):=⟨_,rfl⟩;refine⟨K,?_,?_,?_⟩
    ·rw[x6,Oa,G];rfl
    ·rw[Oa];exact qa2 (tL.1 hw).1
    have o7:∀k,k≠F.heap.size+1->k≠w.heap.size->K.heap[k]?=W5.heap[k]?:=fun k n1 n2=>by rw[Oa,fB n1,Gw,qab _ _ _ _ n2]
    have s7:K.heap.size=W5.heap.size:=by rw[Oa,Gw];simp
    have hr:K.os=W5.os/\K.tape=W5.tape/\K.output=W5.output:=by rw[Oa,Gw];exact⟨rfl,rfl,rfl⟩
    have s5:=c3.size
    have oW:∀k,k<W.heap.size->k≠F.heap.size+1->k≠w.heap.size->(qam a9 pre.length c9).ownBlock≠some k->K.heap[k]?=W.heap[k]?:=fun k H n1 n2 n3=>by
     rw[o7 k n1 n2,c4 k (by omega) n3,Ti k H n1]
    have xz:=c2 g rfl
    have xe:g≠F.heap.size+1:=by omega
    have xd:g≠w.heap.size:=by omega
    refine⟨⟨by omega,fun k k1 k2=>oW k (by omega) (by omega) (by omega) (MZ k k2),⟨by omega,fun k o k1 k2 k3=>?_⟩⟩,⟨?_,?_,?_,by have:=h1.size;omega,fun k H=>?_⟩,⟨_,?_,c1.of_heap (fun k H=>?_),c2⟩,?_⟩
    ·have xj:=(tL.1 k2).1;rw[oW k xj (by omega) (by omega) (fun e=>?_),k2]
     rcases h4 with⟨e',_⟩|⟨g',cap,cs,e',hB,_⟩
     ·rw[e']at e;simp[tT]at e
     ·rw[e']at e;simp[tT]at e;subst e;have:=hB.symm.trans k2;simp at this;rw[<-this]at k3;cases k3
    ·rw[hr.1,c3.os,Ve.1,h1.os]
    ·rw[hr.2.1,c3.tape,Ve.2.1,h1.tape]
    ·rw[hr.2.2,c3.output,Ve.2.2,h1.output]
    ·rw[oW k (by have:=h1.size;omega) (by omega) (by omega) (MZ k (by omega)),h1.block k H]
    ·rw[Oa];refine aA.of_heap (w:=W6) ?_ (fB (by omega));rw[Gw];exact e3.Ho 0 _
    ·have xi:k=g:=by simp[tT]at H;omega
     subst xi;exact o7 k xe xd
    ·rw[oW _ (by omega) (by omega) (by omega) (MZ _ (by omega)),h7]
   have jd:=au Zk;have hu:=au x4;clear Zk x4 hx Ti x5 ho Ve b3 b4 c1 c2 c3 c4 e3 e6 h1 h3 h4 h5 h6 h7 MZ he hc MW MX y2 y3 y4 y5 hg x3 HS ha hA x7 x8 h2 Z UY G;subst has x0 hf;simp only[encR]
   gi_wp2
   rw[<-O];refine⟨X,hu.out,?_⟩;clear O hu
   have y0:pre.length<=1000000:=by omega
   gi_wp2_with (gi_at_builtin;refine QS _ rfl _ _ _ rfl _ _ rfl rfl _ _ (uQ _) ?_)
   obtain⟨K,r1,r2,r3,r4,r5,r6⟩:=jd.out _ rfl;exact⟨_,_,r1,.inl ⟨rfl,⟨r4,r5,r2,r6⟩,r3⟩⟩
  ·rintro e W ⟨⟨v,rfl⟩,E,xx,hJ|⟨k,H,hJ⟩⟩
   ·obtain⟨h1,⟨v',h3,h4,h5⟩,h6,h7⟩:=hJ;have hsz:=(tL.1 h6).1;obtain⟨V,um⟩:∃V,V=W.putObj (F.heap.size+1) (.loop {I .ready none with state:=.exhausted}):=⟨_,rfl⟩
    have h9:(Instr.endLoop (F.heap.size+1)).run prog W=.ok none V:=by
     have:=run_endLoop (P:=prog) h6 (by rw[G];simp);rw[um];rw[G]at this ⊢;exact this
    refine⟨none,V,h9,?_⟩
    have U:∀k,k≠F.heap.size+1->V.heap[k]?=W.heap[k]?:=fun k H=>by rw[um];exact fB H
    have xn:V.heap.size=W.heap.size:=by rw[um];simp
    have Vf:V.os=W.os/\V.tape=W.tape/\V.output=W.output:=by rw[um];exact⟨rfl,rfl,rfl⟩
    have z3:=h3.of_heap (U _ (by omega));have z7:=(U _ (by omega)).trans h7;have h0:aD w V:=⟨Vf.1.trans h1.os,Vf.2.1.trans h1.tape,Vf.2.2.trans h1.output,by have:=h1.size;omega,fun k H=>(U k (by omega)).trans (h1.block k H)⟩;obtain⟨a9,c9,rfl,_⟩:=h4.shape;have zc:V.cell? (aj w.heap.size 0)=some (.slice a9 (rs.reverse).length c9):=z3.cell 0
    have HF:Hid (bK 170 2 (V.putObj F.heap.size (.deferred none)) (.slice a9 (rs.reverse).length c9) (rs.reverse).length (aL rs.reverse)/\Own w.heap.size (.slice a9 (rs.reverse).length c9)/\aD w (V.putObj F.heap.size (.deferred none))):=by
     refine⟨?_,fun k H=>?_,⟨h0.os,h0.tape,h0.output,by have:=h0.size;simpa using this,fun k H=>(fB (by omega)).trans (h0.block k H)⟩⟩
     ·refine h4.of_heap (fun k H=>?_)
      have xf:∃t l,aA W k t l:=by
       rcases h4 with⟨e,_⟩|⟨g,cap,cs,e,hB,_⟩
       ·rw[e]at H;simp[tT]at H
       ·rw[e]at H;simp[tT]at H;subst H;exact⟨_,_,hB⟩
      obtain⟨t,l,h8⟩:=xf
      have n1:k≠F.heap.size+1:=fun e=>by rw[e]at h8;have:=h8.symm.trans h6;cases this
      have n2:k≠F.heap.size:=fun e=>by rw[e]at h8;have:=h8.symm.trans h7;cases this
      rw[fB n2,U k n1]
     ·have:=h5 k H;omega
    have x9:Hid (∀v,v=qam a9 (rs.reverse).length c9->∃v',E8 v=E8 v'/\bK 170 2 (V.putObj F.heap.size (.deferred none)) v' rs.reverse.length (aL rs.reverse)/\Own w.heap.size v'/\aD w (V.putObj F.heap.size (.deferred none))):=fun v hv=>⟨v,rfl,by rw[hv];exact HF.out⟩
    clear HF;generalize xa:(rs.reverse).length=N9 at zc;clear h1 h3 h4 h5 h6 h7 h9 U xn Vf z3 h0 hsz x8 MW he hc MX y2 y3 y4 y5 hg x7 x3 hA um G has x0 ha HS;subst hf
    gi_wp2
    refine⟨by simp,.inl ⟨_,_,rfl,run_takeDeferred z7,?_⟩⟩;exact⟨.slice a9 N9 c9,by simp[results,results308,go_sem],x9.out _ (by rw[xa])⟩
   ·exact hJ.elim
end
end Go.Proofs.YtphbledmopchnaaGreatDoor.St
namespace Go.Proofs.YtphbledmopchnaaGreatDoor.Sd
open Go.RowKit Go.Lib Mm Go.Maps Tryz
section
section
variable {F:Fence} {n:Nat} (w:World) {ops:Array Oper} {rest:List Oper} {o:Oper} {a:Act} {Q:Exit->Act->World->Prop}
theorem I6(U:o.guard=none)(m:Operand)(G:o.op=Op.range 203 m)(b:Nat)(l:List gM)(V:a.eval m=.map (some b))(h:jh w b l)(K:∀w',oU w' b w.heap.size l l->w.grownBy w' none->w'.heap.size=w.heap.size+1->wpListIn F n prog ops Q rest (a.put o.dst (ay w.heap.size 0)) w'):
  wpListIn F n prog ops Q (o::rest) a w:=by
 refine wpListIn_plain U fun K' I=>?_
 obtain⟨w',H,X,Z,r3⟩:=h.range;unfold qaw;constructor
 ·simp[qas,G]
 ·rw[ZH F _ _ (by rw[G];intro c O;cases O)];simp[execOp,G,V,H,Result.andThen];exact I _ _ (K w' X Z r3)
theorem M5(X:o.guard=none)(it:Operand)(H:o.op=Op.next it false)(b r:Nat)(l lf:List gM)(hit:a.eval it=(ay r 0))(h:oU w b r l lf)(I:lf=[]->wpListIn F n prog ops Q rest (a.put o.dst (.tuple #[.bool false])) w)(K:∀(x:gM) (w':World),x∈lf->x.1<18446744073709551616->oU w' b r l (lf.filter fun y=> !decide (y.1=x.1))->w'.rangeLeft b r<w.rangeLeft b r->w.grownBy w' (some r)->w'.heap.size=w.heap.size->
   (Instr.entry (ay r 0)).run prog w'=.ok (.tuple #[uZ x.1,qX x.2]) w'->wpListIn F n prog ops Q rest (a.put o.dst (.tuple #[.bool true,uZ x.1,qX x.2])) w'):
  wpListIn F n prog ops Q (o::rest) a w:=by
 refine wpListIn_plain X fun Z O=>?_
 unfold qaw;constructor
 ·simp[qas,H]
 ·rw[ZH F _ _ (by rw[H];intro c V;cases V)]
  rcases h.next o.type with⟨U,G⟩|⟨x,w',h1,h2,G,h3,h4,h5,h6,h7⟩
  ·simp[execOp,H,hit,G,Result.andThen];exact O _ _ (I U)
  ·simp[execOp,H,hit,G,Result.andThen];exact O _ _ (K x w' h1 h2 h3 h4 h5 h6 h7)
end

end
end Go.Proofs.YtphbledmopchnaaGreatDoor.Sd
namespace Go.Proofs.YtphbledmopchnaaGreatDoor.Sd
open Go.RowKit Go.Lib Mm Tryz
theorem Nv(S tick named n:Nat)(x:Option Addr×Nat×Nat×Nat)(w:World)(c3:w.cell? (aj S 3)=some (uZ tick))(c232:w.cell? (aj S 232)=some (uZ named))(ht:x.2.2.2<=tick)(h0:tick<18446744073709551616)(hn:n+3<18446744073709551616):
  Calls prog 192 #[ay S 0,uZ n,qX x] w fun e w'=>e=.returned (.bool (decide (6<=tick-x.2.2.2)||decide (n+3<named)))/\aD w w':=by
 obtain⟨fa,fl,G,t⟩:=x
 have h2:IntKind.u64.wrap ((tick:Int)-(t:Int))=((tick-t:Nat):Int):=by
  rw[IntKind.wrap_u64];have I:t<=tick:=ht;omega
 have h3:IntKind.u64.wrap ((n:Int)+3)=((n+3:Nat):Int):=by
  rw[IntKind.wrap_u64];omega
 have I:t<=tick:=ht;clear ht
 show Calls prog 192 #[ay S 0,uZ n,.agg #[.slice fa fl G,uZ t]] w fun e w'=>e=.returned (.bool (decide (6<=tick-t)||decide (n+3<named)))/\aD w w'
 generalize V:tick-t=D at *;generalize X:n+3=O at *;clear V X;obtain⟨W,F⟩:∃W,W=w.alloc (.cells #[.slice fa fl G,uZ t] 289):=⟨_,rfl⟩
 have hb:aD w W:=by rw[F];exact(mR _ w).alloc (fA _) _
 have k3:W.cell? (aj S 3)=some (uZ tick):=cell_of c3 (hb.block _ (sQ w _ (by rw[c3])));have k4:W.cell? (aj S 232)=some (uZ named):=cell_of c232 (hb.block _ (sQ w _ (by rw[c232])))
 have k5:W.cell? (aj w.heap.size 1)=some (uZ t):=by rw[F];exact(aA.new w 289 [.slice fa fl G,uZ t]).cell 1
 have K:Hid (∀q,aD w (W.drewN q)):=fun q=>⟨hb.os,hb.tape,hb.output,hb.size,hb.block⟩
 clear c3 c232 hb
 by_cases U:6<=D
 ·have H:(6:Int)<=(D:Int):=by omega
  rw[decide_eq_true U];go_enter func192,ntmps192;go_wp2;rw[<-F];clear F
  go_quiet (fail)
  go_wp2;go_ret;exact⟨rfl,K.out _⟩
 ·have H:decide ((6:Int)<=(D:Int))=false:=decide_eq_false (by omega);rw[decide_eq_false U]
  have Z:(decide ((O:Int)<(named:Int)))=decide (O<named):=by simp
  go_enter func192,ntmps192;go_wp2;rw[<-F];clear F
  go_quiet (fail)
  go_wp2;go_ret;exact⟨by simp,K.out _⟩
theorem X5(S b n nx:Nat)(x:Option Addr×Nat×Nat×Nat)(w:World)(c0:w.cell? (aj b 0)=some (ay S 0))(c229:w.cell? (aj S 229)=some (uZ nx))(K:n+64<18446744073709551616):
  Calls prog 195 #[uZ n,qX x,ay b 0] w fun e w'=>e=.returned (.bool (decide (n+64<nx)))/\aD w w':=by
 obtain⟨fa,fl,F,t⟩:=x
 have H:IntKind.u64.wrap ((n:Int)+64)=((n+64:Nat):Int):=by
  rw[IntKind.wrap_u64];omega
 show Calls prog 195 #[uZ n,.agg #[.slice fa fl F,uZ t],ay b 0] w fun e w'=>e=.returned (.bool (decide (n+64<nx)))/\aD w w'
 generalize G:n+64=I at *;clear G;have l1:b<w.heap.size:=sQ w _ (by rw[c0]);have l2:S<w.heap.size:=sQ w _ (by rw[c229]);go_enter func195,ntmps195;go_wp2;go_ret;exact⟨by simp,(mR _ w).alloc (fA _) _⟩
theorem I_{rs:aP}{k n:Nat}(F:k<rs.length):names (rs.drop k) n=(decide ((rs.getD k (0,0)).1<=n)&&decide (n<=(rs.getD k (0,0)).2)||names (rs.drop (k+1)) n):=by
 have e:rs.drop k=rs.getD k (0,0)::rs.drop (k+1):=by
  rw[List.drop_eq_getElem_cons F,DT,He F];rfl
 rw[e];rfl
theorem Nw(a:Option Addr)(rs:aP)(c n:Nat)(w:World)(hr:fV w a rs)(hl:rs.length<=1000000):
  Calls prog 338 #[.slice a rs.length c,uZ n] w fun e w'=>e=.returned (.bool (names rs n))/\aD w w':=by
 have HR:=au hr;clear hr;go_enter func338,ntmps338;go_wp2
 go_loopw [9] (fun Z wr=>∃k:Nat,k<=rs.length/\Z=(iZ k)/\Hid (aD w wr/\names (rs.drop k) n=names rs n)) (fun Z _=>rs.length-(intOf Z).toNat)
 case atStart=>exact⟨0,Nat.zero_le _,rfl,mR _ _,rfl⟩
 case round=>
  obtain⟨k,hk,rfl,HI⟩:=hrel;obtain⟨hb,F⟩:=HI.out
  by_cases K:k<rs.length
  ·have h0:(k:Int)<(rs.length:Int):=by omega
   obtain⟨b,o,rfl,c0,c1,_⟩:=(HR.out.below hb) k K;have G:=I_ (n:=n) K;rw[F]at G;generalize rs.getD k (0,0)=xy at *;obtain⟨lo,hi⟩:=xy;dsimp only at c0 c1 G
   have H:Hid (∀o,aD w (wr.alloc o)):=fun o=>hb.alloc hb.size _
   have I:=au G;clear F G hb
   by_cases h1:lo<=n
   ·have V:(lo:Int)<=(n:Int):=by omega
    by_cases h2:n<=hi
    ·have X:(n:Int)<=(hi:Int):=by omega
     go_wp2;go_ret;exact⟨by rw[I.out,decide_eq_true h1,decide_eq_true h2];rfl,H.out _⟩
    ·have X:¬(n:Int)<=(hi:Int):=by omega
     have U:Hid (names (rs.drop (k+1)) n=names rs n):=by rw[Hid,I.out,decide_eq_false h2];simp
     go_wp2;go_roundw
     case rel=>exact⟨k+1,by omega,by simp,H.out _,U.out⟩
     case measure=>simp[intOf];omega
   ·have V:¬(lo:Int)<=(n:Int):=by omega
    have U:Hid (names (rs.drop (k+1)) n=names rs n):=by rw[Hid,I.out,decide_eq_false h1];simp
    go_wp2;go_roundw
    case rel=>exact⟨k+1,by omega,by simp,H.out _,U.out⟩
    case measure=>simp[intOf];omega
  ·obtain rfl:k=rs.length:=by omega
   have HN:Hid (names rs n=false):=by rw[Hid,<-F,List.drop_length];rfl
   have O:=au hb;clear F hb HI;go_wp2;go_ret;exact⟨by rw[HN.out];rfl,O.out⟩
theorem Rh(b n:Nat)(a:Option Addr)(rs:aP)(c:Nat)(x:Option Addr×Nat×Nat×Nat)(w:World)(c0:w.cell? (aj b 0)=some (.slice a rs.length c))(H:fV w a rs)(hl:rs.length<=1000000):
  Calls prog 337 #[uZ n,qX x,ay b 0] w fun e w'=>e=.returned (.bool (names rs n))/\aD w w':=by
 obtain⟨fa,fl,F,t⟩:=x
 show Calls prog 337 #[uZ n,.agg #[.slice fa fl F,uZ t],ay b 0] w fun e w'=>e=.returned (.bool (names rs n))/\aD w w'
 have l1:b<w.heap.size:=sQ w _ (by rw[c0]);have hb:aD w (w.alloc (.cells #[.slice fa fl F,uZ t] 289)):=(mR _ w).alloc (fA _) _
 have I:Hid (Calls prog 338 #[.slice a rs.length c,uZ n] (w.alloc (.cells #[.slice fa fl F,uZ t] 289)) fun e w'=>e=.returned (.bool (names rs n))/\aD w w'):=by
  refine(Nw a rs c n _ (H.below hb) hl).mono ?_;rintro e w' ⟨rfl,G⟩;exact⟨rfl,hb.trans (G.mono hb.size)⟩
 clear hb H;go_enter func337,ntmps337
 go_wp2_with (go_at_call 338;refine I.out.mono ?_;rintro e w' ⟨rfl,hb⟩)
 go_ret;exact⟨rfl,hb⟩
