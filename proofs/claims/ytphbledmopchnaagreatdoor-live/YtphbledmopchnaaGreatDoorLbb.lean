import Derived.Test.YtphbledmopchnaaGreatDoorLba
import Derived.LoopIn
import Derived.LoopNIn
import Derived.OwnWalkIn
import Derived.RangeFuncBound
import Derived.RangeFuncCalls
import Derived.RangeFuncLeaves
import Derived.RangeFuncNested
import Derived.Shelf.RegionOpen
import Derived.TacticsInMore
open Array renaming getElem?_eq_some_iff->mE,replicate_succ->o8,replicate_zero->qx
open Go.RowKit.Below renaming refl->j3,heap_alloc->mR,heap_setCell->CZ
open Go.Builtin renaming append_->wz
open Go.Ending renaming returned->qy
open Go.Fence renaming wide->tO
open List renaming getElem?_append_right->mK,getElem?_cons_succ->mY,getElem?_cons_zero->nA,getD_eq_getElem?_getD->nI,mem_filter->nP,getElem?_eq_getElem->nU,length_cons->og,length_nil->qA,append_toArray->sF,push_toArray->tK,size_toArray->tL,cons_append->tT,nil_append->xB,getElem?_eq_none->yP,mem_cons->Bu,getElem?_take->DU,length_append->Ea,mem_map->Em,any_eq_true->EF,length_map->Fe,map_append->FR
open Nat renaming le_refl->eB,le_of_lt->nV,reduceAdd->Cr,reduceSub->CP,le_trans->Es,zero_add->Ht
open Go.Oper renaming semAt_plain->uj,about->FU,wpIn->Gt
open Go.RowKit renaming intOf->rX
open Go.Value renaming ownBlock->mI,slice->Ev
open Go.World renaming putObj_heap_other->eT,block_lt_of_cell?->lg,putObj_heap_same->xQ,alloc_heap_new->Bf
set_option maxHeartbeats 4000000
set_option maxRecDepth 100000
namespace Go.Proofs.YtphbledmopchnaaGreatDoor.Sd
open Go.RowKit Go.Lib Mm Go.Maps Tryz
def vT(x:Option Addr×Nat×Nat×Nat):Value:=.agg #[.slice x.1 x.2.1 x.2.2.1,.int .u64 x.2.2.2]
def pcR(v:Value):Option (DataW Value×List MemPlace):=match v with
 |.agg a=>match a.toList with
  |[.slice _ _ _,.int .u64 t]=>if 0<=t then some (.held v,[])else none
  |_=>none
 |_=>none
theorem TD(x:Option Addr×Nat×Nat×Nat):pcR (vT x)=some (.held (vT x),[]):=by show(if(0:Int)<=(x.2.2.2:Int)then some (DataW.held (vT x),([]:List MemPlace))else none)=_;rw[bK (Int.natCast_nonneg _)]
theorem XY(v:Value)(y:DataW Value×List MemPlace)(h:pcR v=some y):∃c,v=vT c:=by
 unfold pcR at h;split at h
 ·rename_i a;split at h
  ·rename_i b n c t d;split at h
   ·rename_i ht;refine⟨(b,n,c,t.toNat),?_⟩;unfold vT;have:a=#[.slice b n c,.int .u64 t]:=by cases a;simpa using d
    rw[this];simp only;rw[Int.toNat_of_nonneg ht]
   ·cases h
  ·cases h
 ·cases h
def en(x:Nat×(Option Addr×Nat×Nat×Nat)):Lit×DataW Value:=(.int .u64 x.1,.held (vT x.2))
abbrev jA:=Nat×(Option Addr×Nat×Nat×Nat)
theorem TF:Keyed prog 43:=int_keyed underlying43
theorem mmap:prog.underlying 203=some (.map 43 289):=bH
theorem TG(n:Nat)(h:n<18446744073709551616):keyOf prog 43 (.int .u64 n)=some (.int .u64 n):=keyOf_int_mk underlying43 (WalkArith.wf_u64 aj)
def kR(w:World)(b:Nat)(l:List jA):Prop:=∃es,w.ownsMap prog 43 pcR b l.length (.map es)/\es.Perm (l.map en)
def tJ(w:World)(b r:Nat)(l lf:List jA):Prop:=
 ∃es aF jP,w.ranges prog 43 pcR b r l.length (.map es) aF jP/\es.Perm (l.map en)/\(∀x∈l,aF (.int .u64 x.1)=true↔x∈lf)/\(∀x∈lf,x∈l)
theorem kR.perm{w:World}{b:Nat}{l l':List jA}(h:kR w b l)(hp:l.Perm l'):kR w b l':=by obtain⟨es,h1,a⟩:=h;exact⟨es,by rw[<-hp.length_eq];exact h1,a.trans (hp.map en)⟩
theorem kR.lt{w:World}{b:Nat}{l:List jA}(h:kR w b l):b<w.heap.size:=by obtain⟨es,h1,_⟩:=h;exact h1.lt
theorem kR.kept{w w':World}{b:Nat}{l:List jA}(h:kR w b l)(hb:w'.heap[b]?=w.heap[b]?):kR w' b l:=by obtain⟨es,⟨a,c1,c,d⟩,e⟩:=h;exact⟨es,⟨a,c1,hb.trans c,d⟩,e⟩
theorem tJ.kept{w w':World}{b r:Nat}{l lf:List jA}(h:tJ w b r l lf)(hb:w'.heap[b]?=w.heap[b]?)(k:w'.heap[r]?=w.heap[r]?):tJ w' b r l lf:=by obtain⟨es,aF,jP,⟨a,c1,s1,n1,k1,c,d,e,f,g,i⟩,j⟩:=h;exact⟨es,aF,jP,⟨a,c1,s1,n1,k1,hb.trans c,d,e,f,k.trans g,i⟩,j⟩
theorem tJ.map{w:World}{b r:Nat}{l lf:List jA}(h:tJ w b r l lf):kR w b l:=by obtain⟨es,aF,jP,h1,a,_⟩:=h;exact⟨es,h1.owns,a⟩
theorem tJ.lt{w:World}{b r:Nat}{l lf:List jA}(h:tJ w b r l lf):r<w.heap.size:=by obtain⟨es,aF,jP,h1,_⟩:=h;exact h1.lt
theorem tJ.sub{w:World}{b r:Nat}{l lf:List jA}(h:tJ w b r l lf):∀x∈lf,x∈l:=by obtain⟨es,aF,jP,_,_,_,a⟩:=h;exact a
theorem kR.keys{w:World}{b:Nat}{l:List jA}(h:kR w b l):l.Pairwise fun x y=>x.1≠y.1:=by obtain⟨es,h1,c⟩:=h;obtain⟨a,e,hp,_⟩:=h1.entries TF;cases e;have:=(c.pairwise_iff (fun{_ _} hne=>Ne.symm hne)).1 hp;rw[List.pairwise_map]at this;refine this.imp fun{x y} h e=>h ?_;show Lit.int .u64 x.1=Lit.int .u64 y.1;rw[e]
theorem kR.nodup{w:World}{b:Nat}{l:List jA}(h:kR w b l):l.Nodup:=h.keys.imp fun a e=>a (by rw[e])
theorem TH:∀{l:List jA},(l.Pairwise fun x y=>x.1≠y.1)->∀{x y:jA},x∈l->y∈l->x.1=y.1->x=y
 |[],_,_,_,hx,_,_=>by cases hx
 |a::t,hp,x,y,hx,hy,e=>by
  obtain⟨h1,b⟩:=List.pairwise_cons.1 hp;rcases Bu.1 hx with hx'|hx'
  ·rcases Bu.1 hy with hy'|hy';·rw[hx',hy']
   ·exact absurd e (by rw[hx'];exact h1 y hy')
  ·rcases Bu.1 hy with hy'|hy';·exact absurd e.symm (by rw[hy'];exact h1 x hx')
   ·exact TH b hx' hy' e
theorem kR.inj{w:World}{b:Nat}{l:List jA}(h:kR w b l){x y:jA}(a:x∈l)(c:y∈l)(e:x.1=y.1):x=y:=TH h.keys a c e
theorem kR.made(w:World):kR (w.alloc (.map #[] 0)) w.heap.size []:=⟨[],World.ownsMap_made _ _ _ _,.refl _⟩
theorem kE(a b:Int):(Lit.int .u64 a).sameKey (.int .u64 b)=decide (a=b):=by
 by_cases h:a=b;·rw[h,WideAt.sameKey_self (by trivial)];simp
 ·rw[Maps.sameKey_ne (fun e=>h (by injection e))];simp[h]
theorem kR.len{w:World}{b:Nat}{l:List jA}(h:kR w b l)(a:TypeId):(Builtin.len_ #[203] a #[.map (some b)]).run prog w=.ok (.int .i64 l.length) w:=by obtain⟨es,h1,c⟩:=h;have:=h1.len mmap a;rw[Maps.size_eq,c.length_eq,Fe]at this;exact this
theorem kR.put{w:World}{b:Nat}{l:List jA}(h:kR w b l)(hl:l.length<1000000)(x:jA)(d:x.1<18446744073709551616)(c:∀y∈l,y.1≠x.1):∃w',(Instr.mapUpdate 203 (.map (some b)) (.int .u64 x.1) (vT x.2)).run prog w=.ok () w'/\kR w' b (x::l)/\w.grownBy w' (some b):=by
 obtain⟨es,h1,a⟩:=h;obtain⟨w',r,o,g⟩:=h1.update TF mmap (by unfold maxLen;omega) (TG x.1 d) (TD x.2);refine⟨w',r,⟨_,o,?_⟩,g⟩;refine(WideShapes.insert_perm _ _).trans ?_;have e:es.filter (fun p=> !p.1.sameKey (.int .u64 x.1))=es:=by refine List.filter_eq_self.2 fun p hp=>?_;obtain⟨y,f,rfl⟩:=Em.1 (a.mem_iff.1 hp);show(!(Lit.int .u64 y.1).sameKey (.int .u64 x.1))=true;rw[kE];have:=c y f;simp;omega
 rw[e];exact a.cons _
theorem kR.range{w:World}{b:Nat}{l:List jA}(h:kR w b l):∃w',(Instr.range 203 (.map (some b))).run prog w=.ok (aI w.heap.size 0) w'/\tJ w' b w.heap.size l l/\w.grownBy w' none/\w'.heap.size=w.heap.size+1:=by obtain⟨es,h1,c⟩:=h;obtain⟨w',r,o,g,z⟩:=h1.range TF mmap;refine⟨w',r,⟨es,_,_,o,c,fun x a=>⟨fun _=>a,fun _=>?_⟩,fun x a=>a⟩,g,z⟩;rw[Maps.has_eq];exact EF.2 ⟨en x,c.mem_iff.2 (List.mem_map_of_mem a),WideAt.sameKey_self (by trivial)⟩
theorem tJ.next{w:World}{b r:Nat}{l lf:List jA}(h:tJ w b r l lf)(u:TypeId):(lf=[]/\(Instr.next (aI r 0) false u).run prog w=.ok (.tuple #[.bool false]) w)\/∃x w',x∈lf/\x.1<18446744073709551616/\(Instr.next (aI r 0) false u).run prog w=.ok (.tuple #[.bool true,.int .u64 x.1,vT x.2]) w'/\tJ w' b r l (lf.filter fun y=> !decide (y.1=x.1))/\w'.rangeLeft b r<w.rangeLeft b r/\w.grownBy w' (some r)/\w'.heap.size=w.heap.size/\(Instr.entry (aI r 0)).run prog w'=.ok (.tuple #[.int .u64 x.1,vT x.2]) w':=by
 have C:=h.map;obtain⟨es,aF,jP,h1,j,m,A⟩:=h;rcases h1.next TF u with⟨_,hl,d⟩|⟨key,v,kl,y,w',cnt',hkey,hlk,hv,hat,d,hrg,hlt,hgr,gQ,hen⟩
 ·refine .inl ⟨?_,d⟩;cases lf with
  |nil=>rfl
  |cons x t=>have:=(m x (A x aP)).2 aP;rw[hl]at this;cases this
 ·obtain⟨k,rfl,rfl,n⟩:=Maps.keyOf_int_inv underlying43 hkey;obtain⟨c,rfl⟩:=XY v y hv;have E:y=(.held (vT c),[]):=by rw[TD]at hv;exact(Option.some.inj hv).symm
  have f:=Maps.has_true_of_atKey hat;rw[Maps.has_eq]at f;obtain⟨p,hp,hs⟩:=EF.1 f;obtain⟨x,B,rfl⟩:=Em.1 (j.mem_iff.1 hp);have D:(x.1:Int)=k:=by have:(Lit.int .u64 x.1).sameKey (.int .u64 k)=true:=hs;rw[kE]at this;simpa using this
  subst D;have o:x∈lf:=(m x B).1 hlk;have hb:x.1<18446744073709551616:=by simp[Lit.wf,IntKind.min,IntKind.max,IntKind.signed,IntKind.bits]at n;omega
  have g:vT x.2=vT c:=by
   have e:=hat .nil;rw[E]at e;unfold DataW.atKey at e;simp only at e;cases i:es.find? (fun p=>p.1.sameKey (.int .u64 x.1))with
   |none=>exact absurd hs (by have:=List.find?_eq_none.1 i (en x) hp;exact this)
   |some q=>rw[i]at e;simp only at e;obtain⟨z,hz,rfl⟩:=Em.1 (j.mem_iff.1 (List.mem_of_find?_eq_some i));have hq:(Lit.int .u64 z.1).sameKey (.int .u64 x.1)=true:=List.find?_some (p:=fun p:Lit×DataW Value=>p.1.sameKey (.int .u64 x.1)) i;rw[kE]at hq;have s:z=x:=C.inj hz B (by simp at hq;omega);rw[s]at e;injection e
  refine .inr ⟨x,w',o,hb,by rw[d,g],⟨es,_,cnt',hrg,j,fun z hz=>?_,fun z hz=>A z (nP.1 hz).1⟩,by rw[hrg.left_eq,h1.left_eq];exact hlt,hgr,gQ,by rw[hen,g]⟩;rw[Bool.and_eq_true,m z hz,nP,kE];constructor;·rintro⟨a,b⟩;refine⟨a,?_⟩;simp at b ⊢;omega
  ·rintro⟨a,b⟩;refine⟨a,?_⟩;simp at b ⊢;omega
theorem tJ.del{w:World}{b r:Nat}{l lf:List jA}(h:tJ w b r l lf)(n:Nat)(B:n<18446744073709551616)(m:TypeId):∃w',(Builtin.delete_ #[203,43] m #[.map (some b),.int .u64 n]).run prog w=.ok (.tuple #[]) w'/\tJ w' b r (l.filter fun y=> !decide (y.1=n)) (lf.filter fun y=> !decide (y.1=n))/\w'.rangeLeft b r<=w.rangeLeft b r/\w.grownBy w' (some b):=by
 obtain⟨es,aF,jP,h1,u,v,A⟩:=h;obtain⟨w',c,g,f,i,j⟩:=h1.drop TF mmap (TG n B) m;have hp:(es.filter fun p=> !p.1.sameKey (.int .u64 n)).Perm ((l.filter fun y=> !decide (y.1=n)).map en):=by refine(u.filter _).trans ?_;rw[List.filter_map];refine .of_eq ?_;refine congrArg (List.map en) (List.filter_congr fun x _=>?_);show(!(Lit.int .u64 x.1).sameKey (.int .u64 n))=_;rw[kE];exact congrArg (!·) (decide_eq_decide.2 aj)
 refine⟨w',g,⟨_,(fun x=>aF x&& !x.sameKey (.int .u64 n)),c,?_,hp,fun z hz=>?_,fun z hz=>?_⟩,by rw[f.left_eq,h1.left_eq];exact i,j.grown⟩;·have e:=hp.length_eq;rw[Fe]at e;obtain⟨o,c1,s1,n1,k1,q,s,C,d,t⟩:=f;refine⟨o,c1,s1,n1,k1,q,s,?_,d,t⟩;rw[<-e];have:(DataW.map es).del (.int .u64 n)=.map (es.filter fun p=> !p.1.sameKey (.int .u64 n)):=rfl;rw[this]at d;injection d with d;rw[d,length_sorted];simp
 ·have k:=(nP.1 hz).1;rw[Bool.and_eq_true,v z k,nP,kE];constructor;·rintro⟨a,b⟩;refine⟨a,?_⟩;simp at b ⊢;omega
  ·rintro⟨a,b⟩;refine⟨a,?_⟩;simp at b ⊢;omega
 ·rw[nP]at hz ⊢;exact⟨A z hz.1,hz.2⟩
end Go.Proofs.YtphbledmopchnaaGreatDoor.Sd
namespace Go.Proofs.YtphbledmopchnaaGreatDoor.Sd
open Go.RowKit Go.Lib Mm Tryz
theorem aG{p:Prop}(h:p):Hid p:=h
theorem xu{a b:Int}(h:a=b):qy (uZ a)=.returned (uZ b):=by rw[h]
theorem dI{a b:Bool}(h:a=b):qy (.bool a)=.returned (.bool b):=by rw[h]
theorem I_(S o:Nat)(g:Gn)(aQ:Nat)(w:World)(l:bO)(hB:aS w S TS l)(h:vX l o g)(d:g.ahead<=4096)(b:aQ<=dK):Calls prog 309 #[aI S o,uZ aQ] w fun e w'=>e=.returned (uZ (g.iB aQ:Int))/\w'=w:=by
 have c0:w.cell? (aB S o)=some (uZ g.ahead):=by rw[hB.cell];exact h.c0
 obtain⟨m,i,a⟩:=min2 (aQ+g.ahead) 4611686018427387903;have c:Hid (g.iB aQ=m):=by unfold Hid;rw[a];rfl
 generalize g.iB aQ=L at *
 generalize g.ahead=A at *
 unfold dK at b;have f:(aQ+A:Nat)<18446744073709551616:=aj;clear h hB a b d;rw[Int.natCast_add,show((4611686018427387903:Nat):Int)=4611686018427387903 from rfl]at i;go_enter func309,ntmps309;go_wp2;go_ret;exact⟨xu (by rw[c.out]),rfl⟩
theorem Ja(S o:Nat)(g:Gn)(aQ:Nat)(w:World)(l:bO)(hB:aS w S TS l)(h:vX l o g)(f:g.ahead<=4096)(d:aQ<=dK):Calls prog 251 #[aI S o,uZ aQ] w fun e w'=>e=.returned (.bool (g.aK aQ))/\∃q,w'=w.drewN q:=by
 have c2:w.cell? (aB S (o+2))=some (uZ g.cK):=by rw[hB.cell];exact h.c2
 have c3:w.cell? (aB S (o+3))=some (uZ g.aM):=by rw[hB.cell];exact h.c3
 have c:=aG (fun q=>I_ S o g aQ (w.drewN q) l hB h f d);have b:Hid (g.aK aQ=decide (max g.cK g.aM<g.iB aQ)):=rfl;obtain⟨m,i,a⟩:=max2 g.cK g.aM;rw[<-a]at b;generalize g.aK aQ=B at *
 generalize g.iB aQ=L at *
 clear h hB a;go_enter func251,ntmps251;go_wp2;go_quiet ((go_at_call 309;exact Calls.quiet_of_same (c.out _)));go_wp2;go_ret;exact⟨dI (by rw[b.out,decide_eq_decide]<;>omega),nq,rfl⟩
theorem ED(S o:Nat)(g:Gn)(e:Nat)(w:World)(l:bO)(hB:aS w S TS l)(h:vX l o g):Calls prog 296 #[aI S o,uZ e] w fun a w'=>a=.returned (.bool (decide (e<=g.dW)))/\w'=w:=by
 have c1:w.cell? (aB S (o+1))=some (uZ g.dW):=by rw[hB.cell];exact h.c1
 clear h hB;go_enter func296,ntmps296;go_wp2;go_ret;exact⟨dI (by rw[decide_eq_decide]),rfl⟩
theorem N_(S o:Nat)(g:Gn)(w:World)(l:bO)(hB:aS w S TS l)(h:vX l o g):Calls prog 397 #[aI S o] w fun e w'=>e=.returned (.tuple #[])/\∃l',gM w w' S l l' o 4/\vX l' o g.j5:=by
 have c2:w.cell? (aB S (o+2))=some (uZ g.cK):=by rw[hB.cell];exact h.c2
 have f2:=hB.frozen (o+2);have a:Hid (gM w (w.setCell (aB S (o+2)) (uZ 0)) S l (l.set (o+2) (uZ 0)) o 4/\vX (l.set (o+2) (uZ 0)) o g.j5):=
  ⟨gM.one hB _ _ _ _ aj aj,by rw[aA _ _ _ _ aj,h.c0];rfl,by rw[aA _ _ _ _ aj,h.c1];rfl,dG _ _ _ _ h.c2,by rw[aA _ _ _ _ aj,h.c3];rfl⟩
 clear h hB;go_enter func397,ntmps397;go_wp2;go_end0;exact⟨rfl,_,a.out⟩
theorem Gn.st(S o:Nat)(g:Gn)(w:World)(l:bO)(hB:aS w S TS l)(h:vX l o g):(∀x:Nat,gM w (w.setCell (aB S (o+1)) (uZ x)) S l (l.set (o+1) (uZ x)) o 4/\vX (l.set (o+1) (uZ x)) o {g with dW:=x})/\(∀x:Nat,gM w (w.setCell (aB S (o+2)) (uZ x)) S l (l.set (o+2) (uZ x)) o 4/\vX (l.set (o+2) (uZ x)) o {g with cK:=x})/\(∀x:Nat,gM w (w.setCell (aB S (o+3)) (uZ x)) S l (l.set (o+3) (uZ x)) o 4/\vX (l.set (o+3) (uZ x)) o {g with aM:=x}):=
 ⟨fun x=>⟨gM.one hB _ _ _ _ aj aj,by rw[aA _ _ _ _ aj,h.c0],dG _ _ _ _ h.c1,by rw[aA _ _ _ _ aj,h.c2],by rw[aA _ _ _ _ aj,h.c3]⟩,fun x=>⟨gM.one hB _ _ _ _ aj aj,by rw[aA _ _ _ _ aj,h.c0],by rw[aA _ _ _ _ aj,h.c1],dG _ _ _ _ h.c2,by rw[aA _ _ _ _ aj,h.c3]⟩,fun x=>⟨gM.one hB _ _ _ _ aj aj,by rw[aA _ _ _ _ aj,h.c0],by rw[aA _ _ _ _ aj,h.c1],by rw[aA _ _ _ _ aj,h.c2],dG _ _ _ _ h.c3⟩⟩
def fM(f:Fr)(r:Value):Value:=.agg #[iZ f.aC,iZ f.aH,uZ f.aD,uZ f.aV,uZ f.aL,.bool f.bn,uZ f.id,uZ f.aW,.string f.data,r]
theorem Gf(S o:Nat)(g:Gn)(f:Fr)(rv:Value)(w:World)(l:bO)(hB:aS w S TS l)(h:vX l o g):Calls prog 311 #[aI S o,fM f rv] w fun e w'=>e=.returned (.tuple #[])/\∃l',gM w w' S l l' o 4/\vX l' o (g.aw f.aL):=by
 obtain⟨m,n,b⟩:=max2 g.cK f.aL;have j:Hid (g.aw f.aL={g with cK:=m}):=by unfold Hid;rw[b];rfl
 obtain⟨W,c⟩:=bZ (w.alloc (.cells #[iZ f.aC,iZ f.aH,uZ f.aD,uZ f.aV,uZ f.aL,.bool f.bn,uZ f.id,uZ f.aW,.string f.data,rv] 65));have hb:aS W w.heap.size 65 [iZ f.aC,iZ f.aH,uZ f.aD,uZ f.aV,uZ f.aL,.bool f.bn,uZ f.id,uZ f.aW,.string f.data,rv]:=by rw[c];exact aS.new w 65 _
 have a:aS W S TS l:=by rw[c];exact hB.alloc _
 have i:bJ w W:=by rw[c];exact(j3 _ w).alloc (eB _) _
 have d:=aG ((Gn.st S o g W l a h).2.1 m);have p:W.cell? (aB w.heap.size 4)=some (uZ f.aL):=hb.cell 4;have c2:W.cell? (aB S (o+2))=some (uZ g.cK):=by rw[a.cell];exact h.c2
 have f2:=a.frozen (o+2);have k:=aG i;clear h hB hb a i b;unfold fM;go_enter func311,ntmps311;go_wp2_with fail;rw[<-c];clear c;go_region
 all_goals go_wp2
 all_goals go_end0
 all_goals exact⟨rfl,_,gM.after k.out d.out.1.drew,by rw[j.out];exact d.out.2⟩
theorem Oa(S o:Nat)(g:Gn)(f:Fr)(rv:Value)(w:World)(l:bO)(hB:aS w S TS l)(h:vX l o g):Calls prog 396 #[aI S o,fM f rv] w fun e w'=>e=.returned (.tuple #[])/\∃l',gM w w' S l l' o 4/\vX l' o (g.cm f.aL):=by
 obtain⟨m,n,b⟩:=max2 g.aM f.aL;have j:Hid (g.cm f.aL={g with aM:=m}):=by unfold Hid;rw[b];rfl
 obtain⟨W,c⟩:=bZ (w.alloc (.cells #[iZ f.aC,iZ f.aH,uZ f.aD,uZ f.aV,uZ f.aL,.bool f.bn,uZ f.id,uZ f.aW,.string f.data,rv] 65));have hb:aS W w.heap.size 65 [iZ f.aC,iZ f.aH,uZ f.aD,uZ f.aV,uZ f.aL,.bool f.bn,uZ f.id,uZ f.aW,.string f.data,rv]:=by rw[c];exact aS.new w 65 _
 have a:aS W S TS l:=by rw[c];exact hB.alloc _
 have i:bJ w W:=by rw[c];exact(j3 _ w).alloc (eB _) _
 have d:=aG ((Gn.st S o g W l a h).2.2 m);have p:W.cell? (aB w.heap.size 4)=some (uZ f.aL):=hb.cell 4;have c3:W.cell? (aB S (o+3))=some (uZ g.aM):=by rw[a.cell];exact h.c3
 have f2:=a.frozen (o+3);have k:=aG i;clear h hB hb a i b;unfold fM;go_enter func396,ntmps396;go_wp2_with fail;rw[<-c];clear c;go_region
 all_goals go_wp2
 all_goals go_end0
 all_goals exact⟨rfl,_,gM.after k.out d.out.1.drew,by rw[j.out];exact d.out.2⟩
def nJ(R:Nat):Nat->bO->World->World
 |_,[],y=>y
 |j,v::vs,y=>nJ R (j+1) vs (y.setCell (aB R j) v)
theorem mq(R:Nat):∀(vs:bO) (j:Nat) (y:World),nE R y (nJ R j vs y)
 |[],_,y=>nE.refl R y
 |v::vs,j,y=>by have h:=(nE.refl R y).set j v;have a:=mq R vs (j+1) (y.setCell (aB R j) v);exact⟨a.os.trans h.os,a.tape.trans h.tape,a.output.trans h.output,a.size.trans h.size,fun k b=>(a.block k b).trans (h.block k b)⟩
def lQ:Nat->bO->bO->bO
 |_,[],l=>l
 |j,v::vs,l=>lQ (j+1) vs (l.set j v)
theorem ou{R:Nat}{t:TypeId}:∀(vs:bO) (j:Nat) (y:World) (l:bO),aS y R t l->aS (nJ R j vs y) R t (lQ j vs l)
 |[],_,_,_,h=>h
 |v::vs,j,_,_,h=>ou vs (j+1) _ _ (h.setCell j v)
theorem Oe(n:Int)(w:World):Calls prog 126 #[iZ n] w fun e w'=>e=.returned (.agg #[iZ n,uZ 0,nZ])/\bJ w w':=by go_enter func126,ntmps126;go_wp2_with fail;exact bodyPost_ret (v:=.agg #[iZ n,uZ 0,nZ]) (by simp[results,results126,go_sem]) rfl ⟨rfl,(j3 _ w).alloc (eB _) _⟩
theorem EN(n:Nat)(c:n<=4096)(w:World):Calls prog 142 #[iZ n] w fun e w'=>e=.returned (.agg #[uZ n,uZ n,uZ 0,uZ n])/\bJ w w':=by have a:(0:Int)<=(n:Int):=aj;have b:(n:Int)<18446744073709551616:=aj;go_enter func142,ntmps142;go_wp2_with fail;exact bodyPost_ret (v:=.agg #[uZ n,uZ n,uZ 0,uZ n]) (by simp[results,results142,go_sem]) rfl ⟨rfl,(j3 _ w).alloc (eB _) _⟩
abbrev inZ:bO:=[uZ 0,uZ 0,uZ 0,uZ 0,uZ 0,nZ,nZ,uZ 0,.bool false,uZ 0,.bool false,uZ 0,iZ 0]
abbrev AA(n:Nat):bO:=[uZ n,uZ n,uZ 0,uZ n,uZ 0,nZ,nZ,uZ 0,.bool false,uZ 0,.bool false,uZ 0,iZ 0]
abbrev qb4:bO:=[nZ,.bool false,.bool false,uZ 0,uZ 0,uZ 0,uZ 0,uZ 0,iZ 0,uZ 0,nZ,iZ 0,uZ 0,nZ]
abbrev mP(n:Nat):bO:=[nZ,.bool false,.bool false,uZ 0,uZ 0,uZ 0,uZ n,uZ 0,iZ 2049,uZ 0,nZ,iZ 2049,uZ 0,nZ]
theorem qb5(n:Nat)(C:n<=4096)(w:World):Calls prog 145 #[iZ n] w fun e w'=>e=.returned (.agg (AA n).toArray)/\bJ w w':=by
 have B:=aG (fun y=>EN n C y);obtain⟨W,f⟩:=bZ (w.alloc (.cells inZ.toArray 198));have hb:aS W w.heap.size 198 inZ:=by rw[f];exact aS.new w 198 _
 have c:bJ w W:=by rw[f];exact(j3 _ w).alloc (eB _) _
 have gQ:w.heap.size<W.heap.size:=by rw[f];simp
 have m:=aG (dB hb (dB c gQ));clear hb c gQ;unfold inZ at f;unfold AA;go_enter func145,ntmps145;go_wp2_with fail;rw[<-f];clear f;refine bN (B.out W) ?_;rintro y d;obtain⟨hb,c,gQ⟩:=m.out;have a:=aG (dB (hb.of_heap (d.block _ gQ)) (c.trans (d.mono (nV gQ))));clear hb c gQ d;clear m;have E:=a.out.1.cell 0;have F:=a.out.1.cell 1;have G:=a.out.1.cell 2;have H:=a.out.1.cell 3;have I:=a.out.1.cell 4;have J:=a.out.1.cell 5;have K:=a.out.1.cell 6;have L:=a.out.1.cell 7;have M:=a.out.1.cell 8;have N:=a.out.1.cell 9;have j:=a.out.1.cell 10;have k:=a.out.1.cell 11;have l:=a.out.1.cell 12;have P:=a.out.1.frozen;simp only[nA,mY]at E F G H I J K L M N j k l;go_wp2_with fail;have b:aS (nJ w.heap.size 0 (AA n) y) w.heap.size 198 (AA n):=ou _ 0 y _ a.out.1;have D:=mq w.heap.size (AA n) 0 y;change bodyPost _ _ _ _ _ (nJ w.heap.size 0 (AA n) y);generalize nJ w.heap.size 0 (AA n) y=O at *
 have o:=b.cell 0;have p:=b.cell 1;have q:=b.cell 2;have r:=b.cell 3;have s:=b.cell 4;have t:=b.cell 5;have u:=b.cell 6;have x:=b.cell 7;have z:=b.cell 8;have A:=b.cell 9;have g:=b.cell 10;have h:=b.cell 11;have i:=b.cell 12;simp only[nA,mY]at o p q r s t u x z A g h i;exact bodyPost_ret (v:=.agg (AA n).toArray) (by simp[results,results145,go_sem,o,p,q,r,s,t,u,x,z,A,g,h,i]) rfl ⟨rfl,D.below a.out.2 (eB _)⟩
theorem Yg(n:Nat)(V:n<=4096)(w:World):Calls prog 144 #[iZ n] w fun e w'=>e=.returned (.agg (mP n).toArray)/\bJ w w':=by
 have G:(0:Int)<=(n:Int):=aj;have H:(n:Int)<18446744073709551616:=aj;have s:=aG (fun y=>Oe 2049 y);obtain⟨W,g⟩:=bZ (w.alloc (.cells qb4.toArray 194));have hb:aS W w.heap.size 194 qb4:=by rw[g];exact aS.new w 194 _
 have c:bJ w W:=by rw[g];exact(j3 _ w).alloc (eB _) _
 have gQ:w.heap.size<W.heap.size:=by rw[g];simp
 have r:=aG (dB hb (dB c gQ));clear hb c gQ;unfold qb4 at g;unfold mP;go_enter func144,ntmps144;go_wp2_with fail;rw[<-g];clear g;refine bN (s.out W) ?_;rintro T d;go_wp2_with fail;refine bN (s.out T) ?_;rintro y l;obtain⟨hb,c,gQ⟩:=r.out;have f:=d.trans (l.mono d.size);have a:=aG (dB (hb.of_heap (f.block _ gQ)) (c.trans (f.mono (nV gQ))));clear hb c gQ d l f;clear r;have J:=a.out.1.cell 0;have K:=a.out.1.cell 1;have L:=a.out.1.cell 2;have M:=a.out.1.cell 3;have N:=a.out.1.cell 4;have O:=a.out.1.cell 5;have P:=a.out.1.cell 6;have Q:=a.out.1.cell 7;have R:=a.out.1.cell 8;have S:=a.out.1.cell 9;have m:=a.out.1.cell 10;have o:=a.out.1.cell 11;have p:=a.out.1.cell 12;have q:=a.out.1.cell 13;have X:=a.out.1.frozen;simp only[nA,mY]at J K L M N O P Q R S m o p q;go_wp2_with fail;have b:aS (nJ w.heap.size 0 (mP n) y) w.heap.size 194 (mP n):=ou _ 0 y _ a.out.1;have I:=mq w.heap.size (mP n) 0 y;change bodyPost _ _ _ _ _ (nJ w.heap.size 0 (mP n) y);generalize nJ w.heap.size 0 (mP n) y=U at *
 have t:=b.cell 0;have u:=b.cell 1;have x:=b.cell 2;have z:=b.cell 3;have A:=b.cell 4;have B:=b.cell 5;have C:=b.cell 6;have D:=b.cell 7;have E:=b.cell 8;have F:=b.cell 9;have h:=b.cell 10;have i:=b.cell 11;have j:=b.cell 12;have k:=b.cell 13;simp only[nA,mY]at t u x z A B C D E F h i j k;exact bodyPost_ret (v:=.agg (mP n).toArray) (by simp[results,results144,go_sem,t,u,x,z,A,B,C,D,E,F,h,i,j,k]) rfl ⟨rfl,I.below a.out.2 (eB _)⟩
theorem A8(a:Option Addr)(n c:Nat)(w:World):Calls prog 208 #[.slice a n c] w fun e w'=>e=.returned (iZ n)/\w'=w:=by go_enter func208,ntmps208;go_wp2;go_ret;exact⟨rfl,rfl⟩
theorem Jl(g n c i j:Nat)(hi:i<n)(h:j<n)(a b:Int)(w:World)(d:w.cell? (aB g (i*4))=some (iZ a))(f:w.cell? (aB g (j*4))=some (iZ b)):Calls prog 375 #[dP g n c,iZ i,iZ j] w fun e w'=>e=.returned (.bool (decide (a<b)))/\∃q,w'=w.drewN q:=by go_enter func375,ntmps375;go_wp2_with fail;go_quiet (fail);go_wp2;go_ret;exact⟨rfl,nq,rfl⟩
structure Src where
 u:Int
 f1:Fn
 p1:Array Value
 k1:Array Value
 f2:Fn
 p2:Array Value
 k2:Array Value
 y:Bool
abbrev jw(s:Src):bO:=[iZ s.u,.func s.f1 s.p1 s.k1,.func s.f2 s.p2 s.k2,.bool s.y]
def qC(D:Nat->Src):List Nat->bO
 |[]=>[]
 |u::Q=>jw (D u)++qC D Q
theorem Mg(D:Nat->Src):∀Q,(qC D Q).length=Q.length*4
 |[]=>rfl
 |u::Q=>by have:=Mg D Q;simp only[qC,Ea,og,qA,this];omega
theorem oz(D:Nat->Src):∀(Q:List Nat) (i:Nat) (u:Nat),Q[i]?=some u->(qC D Q)[i*4]?=some (iZ (D u).u)/\(qC D Q)[i*4+1]?=some (.func (D u).f1 (D u).p1 (D u).k1)/\(qC D Q)[i*4+2]?=some (.func (D u).f2 (D u).p2 (D u).k2)/\(qC D Q)[i*4+3]?=some (.bool (D u).y)
 |[],i,u,h=>by simp at h
 |x::Q,0,u,h=>by simp at h;subst h;exact⟨rfl,rfl,rfl,rfl⟩
 |x::Q,i+1,u,h=>by
  have:=oz D Q i u (by simpa using h);have e:∀r,(i+1)*4+r=4+(i*4+r):=by intro r;omega
  have a:(i+1)*4=4+i*4:=aj;refine⟨?_,?_,?_,?_⟩;·rw[a];show(jw (D x)++qC D Q)[4+i*4]?=_;rw[mK aP];simpa using this.1
  ·rw[e];show(jw (D x)++qC D Q)[4+(i*4+1)]?=_;rw[mK aP];simpa using this.2.1
  ·rw[e];show(jw (D x)++qC D Q)[4+(i*4+2)]?=_;rw[mK aP];simpa using this.2.2.1
  ·rw[e];show(jw (D x)++qC D Q)[4+(i*4+3)]?=_;rw[mK aP];simpa using this.2.2.2
theorem Ca:∀(vs:bO) (j:Nat) (A l:bO),lQ (A.length+j) vs (A++l)=A++lQ j vs l
 |[],_,_,_=>rfl
 |v::vs,j,A,l=>by show lQ (A.length+j+1) vs ((A++l).set (A.length+j) v)=A++lQ (j+1) vs (l.set j v);rw[List.set_append_right _ _ aj,Nat.add_sub_cancel_left,Nat.add_assoc,Ca vs (j+1) A]
theorem Ul(D:Nat->Src):∀(Q:List Nat) (i u:Nat),i<Q.length->lQ (i*4) (jw (D u)) (qC D Q)=qC D (Q.set i u)
 |[],i,u,h=>by simp at h
 |x::Q,0,u,_=>rfl
 |x::Q,i+1,u,h=>by
  have:=Ul D Q i u (by simpa using h);show lQ ((i+1)*4) (jw (D u)) (jw (D x)++qC D Q)=jw (D x)++qC D (Q.set i u);have e:(i+1)*4=(jw (D x)).length+i*4:=by simp;omega
  rw[e,Ca,this]
theorem Cb:∀(vs:bO) (j:Nat) (l:bO),(lQ j vs l).length=l.length
 |[],_,_=>rfl
 |v::vs,j,l=>by show(lQ (j+1) vs (l.set j v)).length=_;rw[Cb vs];simp
theorem ze:∀(vs:bO) (j n:Nat) (l:bO),(lQ j vs l).take n=lQ j vs (l.take n)
 |[],_,_,_=>rfl
 |v::vs,j,n,l=>by show(lQ (j+1) vs (l.set j v)).take n=lQ (j+1) vs ((l.take n).set j v);rw[ze vs,List.take_set]
theorem Cc{p:Value->Prop}:∀(vs:bO) (j:Nat) (l:bO),(∀v∈l,p v)->(∀v∈vs,p v)->∀v∈lQ j vs l,p v
 |[],_,_,h,_=>h
 |x::vs,j,l,h,k=>Cc vs (j+1) (l.set j x) (fun v a=>by
   rcases List.mem_or_eq_of_mem_set a with h1|h1;·exact h v h1
   ·rw[h1];exact k x aP) (fun v a=>k v (by simp[a]))
theorem Ce(s:Src):∀v∈jw s,v.oneCell'=true:=by intro v a;simp at a;rcases a with rfl|rfl|rfl|rfl<;>rfl
def Lc(oZ:Own)(t:Nat)(D:Nat->Src)(w:World)(g c:Nat)(Q:List Nat):Prop:=oZ g=t/\GT oZ t 304 4 w (dP g Q.length c) Q.length (qC D Q)
theorem Lc.put{oZ:Own}{t:Nat}{D:Nat->Src}{w:World}{g c:Nat}{Q:List Nat}(h:Lc oZ t D w g c Q)(i u:Nat)(hi:i<Q.length):Lc oZ t D (nJ g (i*4) (jw (D u)) w) g c (Q.set i u)/\Kp [t] oZ oZ w (nJ g (i*4) (jw (D u)) w):=by
 obtain⟨d,h⟩:=h;have a:=mq g (jw (D u)) (i*4) w;refine⟨⟨d,?_⟩,⟨a.os,a.tape,a.output,by rw[a.size];exact eB _,fun b _ f=>a.block b (fun e=>f (by rw[e,d];simp)),fun _ _=>rfl⟩⟩;rcases h with⟨h1,_⟩|⟨g',cap,cs,h1,h2,h3,h4,h5,h6,h7,h8,h9⟩;·cases h1
 ·simp only[Value.slice.injEq,Option.some.injEq,Addr.mk.injEq,true_and,and_true]at h1;obtain⟨rfl,rfl⟩:=h1;refine .inr ⟨g,c,lQ (i*4) (jw (D u)) cs,aP,d,ou _ _ _ _ h3,by rw[Cb];exact h4,by simpa using h5,h6,by rw[Mg],?_,Cc _ _ _ h9 (Ce _)⟩;rw[List.length_set,ze,h8,Ul D Q i u hi]
theorem Lc.drew{oZ:Own}{t:Nat}{D:Nat->Src}{w:World}{g c:Nat}{Q:List Nat}(h:Lc oZ t D w g c Q):Lc oZ t D w.drew g c Q:=⟨h.1,h.2.kp (T:=[]) (Kp.below (w':=w.drew) ⟨rfl,rfl,rfl,eB _,fun _ _=>rfl⟩) aP⟩
theorem Cg(oZ:Own)(t:Nat)(D:Nat->Src)(w:World)(g c:Nat)(Q:List Nat)(i j:Nat)(hi:i<Q.length)(C:j<Q.length)(h:Lc oZ t D w g c Q):Calls prog 378 #[dP g Q.length c,iZ i,iZ j] w fun e w'=>e=.returned (.tuple #[])/\Lc oZ t D w' g c (sw Q i j)/\Kp [t] oZ oZ w w':=by
 obtain⟨a,z⟩:=bZ (Q.getD i 0);obtain⟨b,hb⟩:=bZ (Q.getD j 0);have G:Q[i]?=some a:=by rw[z,nI,nU hi];rfl
 have eb:Q[j]?=some b:=by rw[hb,nI,nU C];rfl
 have A:=h.put i b hi;have f:=A.1.put j a (by simpa using C);have E:Hid (Lc oZ t D (nJ g (j*4) (jw (D a)) (nJ g (i*4) (jw (D b)) w)).drew g c (sw Q i j)/\Kp [t] oZ oZ w (nJ g (j*4) (jw (D a)) (nJ g (i*4) (jw (D b)) w)).drew):=by
  have e:sw Q i j=(Q.set i b).set j a:=by unfold sw;rw[z,hb]
  rw[e];exact⟨f.1.drew,(A.2.trans f.2).drew⟩
 obtain⟨m,o,p,q⟩:=oz D Q i a G;obtain⟨s,u,v,y⟩:=oz D Q j b eb;have d:∀k x,(qC D Q)[k]?=some x->w.cell? (aB g k)=some x:=fun k x H=>by obtain⟨g',e,_,_,r,_⟩:=h.2.cell k x H;cases e;exact r
 have N:∀k,w.frozen? (aB g k)=false:=by
  rcases h.2 with⟨h1,_⟩|⟨g',cap,cs,h1,_,h3,_⟩;·cases h1
  ·cases h1;exact h3.frozen
 have O:=d _ _ m;have P:=d _ _ o;have R:=d _ _ p;have S:=d _ _ q;have J:=d _ _ s;have K:=d _ _ u;have L:=d _ _ v;have M:=d _ _ y;have F:Hid (i=j->a=b):=fun e=>by rw[z,hb,e]
 generalize Q.length=n at *
 clear z hb G eb A f m o p q s u v y d h;by_cases l:i=j
 ·have B:=F.out l;subst l;subst B;clear J K L M F C;go_enter func378,ntmps378;go_wp2_with fail;go_region
  go_end0;exact⟨rfl,E.out⟩
 ·have I:¬(i*4=j*4):=aj;go_enter func378,ntmps378;go_wp2_with fail;go_region
  go_end0;exact⟨rfl,E.out⟩
end Go.Proofs.YtphbledmopchnaaGreatDoor.Sd
namespace Go.Proofs.YtphbledmopchnaaGreatDoor.St
open Go.RowKit Go.Lib Go.Shelf Mm Tryz
theorem jB.X5{w:World}{sp:Nat}{base:Option Addr}{c:Nat}{rs:bW}(h:jB w sp base c rs)(d:rs.length<=c)(a:c<=9223372036854775807):eX 170 2 w (.slice base rs.length c) rs.length (bQ rs):=by
 rcases h with⟨rfl,rfl,rfl⟩|⟨b,l,rfl,_,hB,hl,ht,h1⟩;·exact eX.nil _ _ _
 ·refine .inr ⟨b,c,l,rfl,hB,aj,d,a,by rw[l6];omega,by rw[Nat.mul_comm,ht],h1⟩
theorem YA(w:World):(binOp BinOp.eql 63 nZ nZ).run prog w=.ok (.bool true) w:=bH
theorem UY(w:World)(a:Addr)(n c:Nat):(binOp BinOp.eql 63 (.slice (some a) n c) nZ).run prog w=.ok (.bool false) w:=bH
theorem QC(v:Value)(rs:bW)(w:World)(h:eX 170 2 w v rs.length (bQ rs))(N:rs.length<=1000000):Calls prog 228 #[v] w fun e w'=>∃v',e=.returned v'/\eX 170 2 w' v' rs.length (bQ rs)/\Own w.heap.size v'/\bJ w w':=by
 rcases h with⟨rfl,D,C⟩|⟨g,cap,cs,rfl,hB,h2,h3,h4,h5,h6,h7⟩;·have J:Hid (eX 170 2 w nZ rs.length (bQ rs)):=.inl ⟨rfl,D,C⟩;have L:=YA w;go_enter func228,ntmps228;go_wp2;go_ret;exact⟨_,rfl,J.out,fun k q=>by simp[mI]at q,j3 _ _⟩
 ·have L:=UY w (aB g 0) rs.length cap;obtain⟨a,f⟩:=bZ (w.alloc (.cells #[] 170));have i:aS a w.heap.size 170 []:=by rw[f];exact aS.new w 170 []
  have d:bJ w a:=by rw[f];exact(j3 _ w).alloc (eB _) _
  have E:a.heap.size=w.heap.size+1:=by rw[f];simp
  have x:aS a g 170 cs:=hB.of_heap (d.block g hB.lt);have b:∀j u,(bQ rs)[j]?=some u->a.cell? ((aB g 0).add j)=some u:=fun j u p=>by
   rw[Addr.add_lit,Ht,x.cell];rw[<-h6,DU]at p;split at p;·exact p
   ·cases p
  obtain⟨v',o,G,l,r,s⟩:∃v' o,(∀F,(wz #[63,63] F #[dP w.heap.size 0 0,dP g rs.length cap]).run prog a=.ok v' o)/\eX 170 2 o v' rs.length (bQ rs)/\Own w.heap.size v'/\bJ w o:=by
   by_cases K:rs.length=0;·have y:rs=[]:=List.length_eq_zero_iff.1 K;subst y;have B:=fun F=>fZ (P:=prog) (w:=a) 63 63 F 170 _ 2 16 LQ.ht LQ.ht LQ.hi (n:=0) (c:=0) (m:=0) (mc:=cap) i (aB g 0) (vs:=[]) rfl (fun j v p=>by simp at p) (fun v z=>by cases z) (eB _) (eB _);refine⟨_,_,B,.inr ⟨w.heap.size,0,_,rfl,i.put _,rfl,eB _,aj,rfl,rfl,fun v z=>by cases z⟩,fun k q=>by simp[mI]at q;omega,?_⟩;exact d.trans ((⟨(dU a w.heap.size _).os,(dU a w.heap.size _).tape,(dU a w.heap.size _).output,(dU a w.heap.size _).size,fun k q=>iG a _ k _ aj⟩:Below w.heap.size a _))
   ·have t:eX 170 2 a (dP w.heap.size 0 0) 0 []:=.inr ⟨w.heap.size,0,[],rfl,i,rfl,eB _,aj,rfl,rfl,fun v z=>by cases z⟩;obtain⟨v',o,G,A,l⟩:=iQ LQ t (aB g 0) rs.length cap (bQ rs) (by rw[l6];omega) aj (lK rs) b aj;have H:Own w.heap.size (dP w.heap.size 0 0):=fun k q=>by simp[mI]at q;omega
    exact⟨v',o,G,by simpa using A,l.own H aj,d.trans (l.below H aj)⟩
  obtain⟨M,c',rfl,_⟩:=l.shape;have I:=aG (dB l (dB r s));clear l r s b x E d i hB h2 h3 h4 h5 h6 h7;subst f;go_enter func228,ntmps228;go_wp2_with (at_builtin;refine Lib.wpList_append_run _ rfl _ _ _ _ rfl _ _ rfl rfl _ _ (G _) ?_);go_ret;exact⟨_,rfl,I.out⟩
theorem GK(a:Option Addr)(n c:Nat)(w:World):Calls prog 227 #[.slice a n c] w fun e w'=>e=.returned (.func (.func 293) #[] #[aI w.heap.size 0])/\w'=w.alloc (.cells #[.slice a n c] 63):=by have b:∀(fn:Fn) (first cap:Array Value) (w:World),(Instr.makeFunc fn first cap).run prog w=.ok (.func fn first cap) w:=fun _ _ _ _=>rfl;go_enter func227,ntmps227;go_wp2;go_ret;exact⟨rfl,rfl⟩
section
attribute [local go_sem] Oper.semAt_some
def bw(rs:bW)(k:Nat):List (Nat×Nat×Nat):=(List.range k).map fun j=>(rs.length-1-j,rs.getD (rs.length-1-j) (0,0))
theorem YB(rs:bW)(k:Nat):bw rs (k+1)=bw rs k++[(rs.length-1-k,rs.getD (rs.length-1-k) (0,0))]:=by simp[bw,List.range_succ]
theorem QD(rs:bW)(k:Nat):(bw rs k).length=k:=by simp[bw]
theorem UZ(F:Fence)(n:Nat)(H:F.fn 293)(G:F.round=none)(hn:1<=n)(l b:Nat)(v:Value)(rs:bW)(Z:rs.length<=1000000)(Kp:World->World->Prop)(s:∀A B,Kp A B->B.heap[b]?=A.heap[b]?/\∀g,v.ownBlock=some g->B.heap[g]?=A.heap[g]?)(J I:List (Nat×Nat×Nat)->World->Prop)(L:∀pre x W,J pre W->pre.length<rs.length->YieldAt F (n-1) prog l #[iZ x.1,.agg #[uZ x.2.1,uZ x.2.2]] W fun e h=>
   (e=.returned (.bool true)/\J (pre++[x]) h/\Kp W h)\/(e=.returned (.bool false)/\I (pre++[x]) h))(W:World)(hb:aS W b 63 [v])(d:eX 170 2 W v rs.length (bQ rs))(U:J [] W):CallsIn F n prog 293 #[.func (.yield l) #[] #[],aI b 0] W fun e h=>(∃v,e=.returned v)/\((∃Q,Q=bw rs rs.length/\J Q h)\/(∃pre,(∃k,k<=rs.length/\pre=bw rs k)/\I pre h)):=by
 obtain⟨a,c,rfl,hc⟩:=d.shape;have k0:W.cell? (aB b 0)=some (.slice a rs.length c):=hb.cell 0;have R:=aG hb;have S:=aG d;have T:=aG L;have u:=aG s;clear hb d L s;refine callsIn_of_wp func293 rfl H ?_ G;simp only[ntmps293,tL,og,qA,Cr,CP,o8,qx,tK,sF,xB,tT];gi_wp2;gi_loopw [3] (fun i wr=>∃k m:Nat,k+m=rs.length/\i=(iZ ((m:Int)-1))/\Hid (J (bw rs k) wr/\aS wr b 63 [.slice a rs.length c]/\eX 170 2 wr (.slice a rs.length c) rs.length (bQ rs)))
  (fun i _=>(rX i+1).toNat)
 case atStart=>exact⟨0,rs.length,aj,rfl,U,R.out,S.out⟩
 case round=>
  obtain⟨k,m,X,rfl,j⟩:=hrel;obtain⟨C,hb,d⟩:=j.out;have h2:wr.cell? (aB b 0)=some (.slice a rs.length c):=hb.cell 0;cases m with
  |zero=>have z:((0:Nat):Int)-1= -1:=aj;rw[z];obtain rfl:k=rs.length:=aj;clear C hb d;gi_wp2;go_end0;exact⟨⟨_,rfl⟩,.inl ⟨_,rfl,j.out.1⟩⟩
  |succ m=>
   have z:((m+1:Nat):Int)-1=(m:Int):=aj;rw[z];have M:m<rs.length:=aj;have Y:(m:Int)<(rs.length:Int):=aj;obtain⟨g,V,c0,_⟩:=d.cell rfl (m*2) _ (uM rs m M);obtain⟨g',q,c1,_⟩:=d.cell rfl (m*2+1) _ (uN rs m M);subst V;have D:g'=g:=by simp at q;exact q.symm
   subst D;have E:rs.length-1-k=m:=aj;have f:=aG (YB rs k);rw[E]at f;generalize rs.getD m (0,0)=xy at *
   obtain⟨x,y⟩:=xy;dsimp only at c0 c1;obtain⟨fn,tmps,assign,body,N,K⟩:=T.out _ (m,x,y) wr C (by rw[QD];omega);dsimp only at N;clear C hb d;gi_wp2;refine K.mono ?_;rintro e w (⟨rfl,o,r⟩|⟨rfl,p⟩)
   ·obtain⟨O,P⟩:=u.out _ _ r;have t:Hid (J (bw rs (k+1)) w/\aS w b 63 [dP g' rs.length c]/\eX 170 2 w (dP g' rs.length c) rs.length (bQ rs)):=
     ⟨by rw[f.out];exact o,j.out.2.1.of_heap O,j.out.2.2.of_heap P⟩
    clear o r O P j K N;gi_wp2;go_roundw;case rel=>exact⟨k+1,m,aj,by go_num,t⟩
    case measure=>simp[rX]
   ·gi_wp2;refine bodyPost_ret (results_none rfl _ _ _) rfl ?_;exact⟨⟨_,rfl⟩,.inr ⟨_,⟨k+1,aj,f.out.symm⟩,p⟩⟩
end
section
attribute [local go_sem] Oper.semAt_some
theorem GL{β:Type}(B b:Nat)(t:TypeId)(l:bO):OwnFrom B (fun(_:β) W=>aS W b t l):=fun _ X Y row hs d f=>hs.of_heap (d.block b hs.lt (fun e=>by obtain⟨_,o,a,c⟩:=f b e.symm;rw[show X.heap[b]?=_ from hs]at a;cases a;cases c))
def KpO(a E:Nat)(W b:World):Prop:=W.heap.size<=b.heap.size/\(∀k,a<=k->k<E->b.heap[k]?=W.heap[k]?)/\KeepsFrom a W b
def encR(x:Nat×Nat):Array Value:=#[.agg #[uZ x.1,uZ x.2]]
theorem U0(rs:bW)(k:Nat)(c:k<=rs.length):(bw rs k).map (·.2)=rs.reverse.take k:=by
 apply List.ext_getElem?;intro j;by_cases a:j<k;·rw[DU,bK a,List.getElem?_reverse aj];have b:rs.length-1-j<rs.length:=aj;simp[bw,a,b]
 ·rw[yP (by simp[bw];omega),yP (by simp;omega)]
end
section
attribute [local go_sem] Oper.semAt_some
theorem U2(n:Nat)(hn:4<=n)(l sb sp:Nat)(rs:bW)(A:World)(base:Option Addr)(c:Nat)(h4:A.cell? (aB sp 227)=some (.slice base rs.length c))(R:eX 170 2 A (.slice base rs.length c) rs.length (bQ rs))(G:aS A sb 273 [aI sp 225])(hf:rs.length<=1000000)(J M:Nat->bW->World->Prop)(hJ:∀E,OwnFrom A.heap.size (J E))(h9:∀E,OwnFrom A.heap.size (M E))(h0:∀E W,bJ A W->J E [] W)(hY:∀m E pre x W,A.heap.size<=E->E<=W.heap.size->J E pre W->pre.length<rs.length->YieldAt tO m prog l (encR x) W fun e N=>
   (e=.returned (.bool true)/\J E (pre++[x]) N/\KpO A.heap.size E W N)\/(e=.returned (.bool false)/\M E (pre++[x]) N/\KpO A.heap.size E W N)):CallsIn tO n prog 226 #[.func (.yield l) #[] #[],aI sb 0] A fun e N=>(∃v,e=.returned v)/\∃E,A.heap.size<=E/\(J E rs.reverse N\/(∃k,k<=rs.length/\M E (rs.reverse.take k) N)):=by
 have h1:1<=n:=aj;obtain⟨W0,V⟩:=bZ (A.alloc (.cells #[.func (.yield l) #[] #[]] 325));have f:bJ A W0:=by rw[V];exact(j3 _ A).alloc (eB _) _
 have H:aS W0 A.heap.size 325 [.func (.yield l) #[] #[]]:=by rw[V];exact aS.new A 325 _
 have k0:A.cell? (aB sb 0)=some (aI sp 225):=G.cell 0;have U3:=G.lt;have k1:W0.cell? (aB sb 0)=some (aI sp 225):=(G.of_heap (f.block sb U3)).cell 0;have k2:W0.cell? (aB sp 227)=some (.slice base rs.length c):=cell_of h4 (f.block sp (lg A _ (by rw[h4])));have h8:eX 170 2 W0 (.slice base rs.length c) rs.length (bQ rs):=R.of_heap (fun b hb=>f.block b (R.lt b hb));have HC:=aG (QC _ rs W0 h8 hf);have h7:=aG H;have h5:=aG f;have HJ:=aG hJ;have h6:=aG h9;have H0:=aG h0;have HY:=aG hY;clear h4 R h8 f H hJ h9 h0 hY G;refine callsIn_of_wp_marks func226 rfl trivial ?_ rfl;simp only[ntmps226,tL,og,qA,Cr,CP,o8,qx,tK,sF,xB,tT];subst V;gi_wp2_with (refine⟨trivial,?_⟩;gi_at_call 228;refine(callsIn_wide.2 HC.out).mono ?_;rintro e d ⟨v1,rfl,u,BK,t⟩);obtain⟨a1,c1,rfl,_⟩:=u.shape;refine⟨trivial,?_⟩;refine(callsIn_wide.2 (GK a1 rs.length c1 d)).mono ?_;rintro e a ⟨rfl,z⟩;have q:Hid (bJ A a/\aS a A.heap.size 325 [.func (.yield l) #[] #[]]/\aS a d.heap.size 63 [.slice a1 rs.length c1]/\eX 170 2 a (.slice a1 rs.length c1) rs.length (bQ rs)/\Own A.heap.size (.slice a1 rs.length c1)/\A.heap.size<d.heap.size/\a.heap.size=d.heap.size+1):=by
  have Z:bJ d a:=by rw[z];exact(j3 _ d).alloc (eB _) _
  have hA1:bJ A d:=h5.out.trans (t.mono aP);have C:A.heap.size<d.heap.size:=by have:=t.size;simp at this;omega
  refine⟨hA1.trans (Z.mono hA1.size),h7.out.of_heap ?_,?_,u.of_heap (fun b hb=>Z.block b (u.lt b hb)),fun k B=>?_,C,?_⟩;·rw[Z.block _ C,t.block _ aP]
  ·rw[z];exact aS.new d 63 _
  ·have:=BK k B;simp at this;omega
  ·rw[z];simp
 clear u BK t z h7 h5 HC k0 k1 k2;gi_wp2;have L:SeqStopsK tO (n-1) prog 293 #[aI d.heap.size 0] (fun x:Nat×Nat×Nat=>#[iZ x.1,.agg #[uZ x.2.1,uZ x.2.2]]) (fun X Y=>∀k,A.heap.size<=k->k<a.heap.size->Y.heap[k]?=X.heap[k]?) (fun ys=>ys=bw rs rs.length) (fun pre=>∃k,k<=rs.length/\pre=bw rs k) rs.length a:=fun l' J' hu W hW _ _ hx hv=>by obtain⟨hA2,H,he,y,ha,hw,x0⟩:=q.out;exact UZ tO (n-1) trivial rfl aj l' d.heap.size _ rs hf _ (fun X Y B=>⟨B _ aj aj,fun g I=>B g (ha g I) (y.lt g I)⟩) J' hu hx W (he.of_heap (hW.block _ aj)) (y.of_heap (fun b hb=>hW.block b (y.lt b hb))) hv
 have U4:A.heap.size<a.heap.size:=by obtain⟨hA2,H,he,y,ha,hw,x0⟩:=q.out;omega
 have eZ:∀(Q:Nat->bW->World->Prop) (E:Nat),OwnFrom A.heap.size (Q E)->OwnFrom a.heap.size (fun(pre:List (Nat×Nat×Nat)) W=>Q E (pre.map (·.2)) W):=fun Q E h s X Y row hs I hr=>h _ X Y row hs I (fun r e=>⟨Es (nV U4) (hr r e).1,(hr r e).2⟩);have hj:OwnFrom a.heap.size (fun(_:List (Nat×Nat×Nat)) (W:World)=>a.heap.size<=W.heap.size):=fun s X Y row hs I hr=>Es hs I.size;refine wpIn_rangeFunc_ownH (F:=tO) (w:=a) rfl h1 (gf:=293) (lb:=#[aI d.heap.size 0]) rfl trivial (enters_of func293 bH rfl) L
  (fun h k i h1 h2=>(k i h1 h2).trans (h i h1 h2)) (fun W l' o o' x2 ho _ _ i h1 h2=>eT aj) (j3 _ _) (fun _=>rfl)
  (fun pre W=>J a.heap.size (pre.map (·.2)) W/\aS W A.heap.size 325 [.func (.yield l) #[] #[]]/\a.heap.size<=W.heap.size)
  (fun c pre W=>c=.ret/\M a.heap.size (pre.map (·.2)) W)
  (OwnFrom.and (eZ J _ (HJ.out _)) (OwnFrom.and (GL _ _ _ _) hj))
  (fun c=>OwnFrom.and (ownFrom_pure _ _) (eZ M _ (h6.out _)))
  ⟨H0.out _ _ q.out.1,q.out.2.1,eB _⟩
  (fun x a' W=>∃P,aS W P 170 [uZ x.2.1,uZ x.2.2]/\a'={tmps:=#[.func (.yield l) #[] #[],aI sb 0,aI A.heap.size 0,undef,aI P 0,aI sp 225,aI sp 225,aI sp 227,.slice base rs.length c,.slice a1 rs.length c1,.func (.func 293) #[] #[aI d.heap.size 0],iZ x.1,.agg #[uZ x.2.1,uZ x.2.2],undef,undef,undef,undef],defers:=[]})
  (fun x a' _ X Y row hs I hr=>by obtain⟨P,h1,h2⟩:=hs;exact⟨P,GL _ _ _ _ () X Y row h1 I hr,h2⟩)
  ?assign ?body ?done ?stop
 case assign=>rintro l' pre x W K ⟨i1,i2,i3⟩ T;gi_wp2;refine T _ _ ((KeepsOthers.alloc _ _).from _) (fun k h1 h2=>mR _ _ _ aj) ⟨OwnFrom.alloc (eZ J _ (HJ.out _)) _ i1,i2.alloc _,by simp;omega⟩ ⟨W.heap.size,aS.new W 170 [uZ x.2.1,uZ x.2.2],rfl⟩
 case body=>
  rintro l' pre x a' W hl ⟨r,hr⟩ ⟨i1,i2,i3⟩ ⟨P,h3,rfl⟩ C;obtain⟨fn,tmps,assign,body,hy,hR⟩:=HY.out (n-1-1-1) a.heap.size (pre.map (·.2)) x.2 W (nV U4) i3 i1 (by simpa using C);have U:RoundIn (Fence.wide.inRound l') (n-1-1-1) prog l fn tmps assign body W _:=hR;unfold encR at hy;have y0:W.cell? (aB A.heap.size 0)=some (.func (.yield l) #[] #[]):=i2.cell 0;have y1:W.cell? (aB P 0)=some (uZ x.2.1):=h3.cell 0;have y2:W.cell? (aB P 1)=some (uZ x.2.2):=h3.cell 1;have hm:=aG i2;clear hR L eZ hj i1 i2 h3;gi_wp2;refine⟨fun _=>aj,U.mono ?_⟩;rintro e O (⟨rfl,j,p⟩|⟨rfl,j,p⟩)
  ·have HF:Hid (KeepsFrom a.heap.size W O/\(∀k,A.heap.size<=k->k<a.heap.size->O.heap[k]?=W.heap[k]?)/\J a.heap.size ((pre++[x]).map (·.2)) O/\aS O A.heap.size 325 [.func (.yield l) #[] #[]]/\a.heap.size<=O.heap.size):=by
    obtain⟨q1,q2,q3⟩:=p;refine⟨⟨q3.size,fun k o B ho hc=>q3.same k o aj ho hc⟩,q2,by rw[FR];exact j,hm.out.of_heap (q2 _ (eB _) U4),aj⟩
   clear j p U hy y0 y1 y2;gi_wp2;exact HF.out
  ·have HF:Hid (KeepsFrom a.heap.size W O/\M a.heap.size ((pre++[x]).map (·.2)) O):=by
    obtain⟨q1,q2,q3⟩:=p;exact⟨⟨q3.size,fun k o B ho hc=>q3.same k o aj ho hc⟩,by rw[FR];exact j⟩
   clear j p U hy y0 y1 y2;gi_wp2;exact⟨HF.out.1,rfl,HF.out.2⟩
 case done=>
  rintro D ys W hD x1 ⟨i1,_,_⟩ T;subst x1;have S:J a.heap.size rs.reverse (W.putObj D (.deferred none)):=by have:=(HJ.out a.heap.size).putObj (.deferred none) i1 aj T rfl;rwa[U0 rs rs.length (eB _),List.take_of_length_le aP]at this
  gi_wp2;refine⟨aP,.inl ⟨_,_,rfl,run_takeDeferred T,?_⟩⟩;exact⟨_,results_none rfl _ _ _,⟨_,rfl⟩,_,nV U4,.inl S⟩
 case stop=>
  rintro D c' pre W hD ⟨k,B,rfl⟩ ⟨rfl,i1⟩ T;have S:M a.heap.size (rs.reverse.take k) (W.putObj D (.deferred none)):=by have:=(h6.out a.heap.size).putObj (.deferred none) i1 aj T rfl;rwa[U0 rs k B]at this
  gi_wp2;refine⟨aP,.inl ⟨_,_,rfl,run_takeDeferred T,?_⟩⟩;exact⟨_,results_none rfl _ _ _,⟨_,rfl⟩,_,nV U4,.inr ⟨k,B,S⟩⟩
end
section
attribute [local go_sem] Oper.semAt_some
theorem U5{F:Fence}{n:Nat}{P:Program}(w:World){d:Array Oper}{rest:List Oper}{o:Oper}{a:Act}{Q:Exit->Act->World->Prop}(i:o.guard=none)(s x:Operand)(t:TypeId)(b:o.op=Op.call {callee:=Callee.builtin Builtin.append,args:=#[s,x],argTypes:=#[t,t]})(vs e:Value)(hs:a.eval s=vs)(k:a.eval x=e)(v':Value)(w':World)(j:(wz #[t,t] o.type #[vs,e]).run P w=.ok v' w')(h:wpListIn F n P d Q rest (a.put o.dst v') w'):wpListIn F n P d Q (o::rest) a w:=
 wpListIn_plain i fun K f=>by
  unfold Gt;constructor;·simp[FU,b,resolve,Target.leads,Sem.run_pure]
  ·rw[uj F _ _ (by rw[b];intro c g;cases g)];simp[execOp,b,resolve,invoke,builtin,hs,k,j,Result.andThen];exact f _ _ h
theorem vK{F:Fence}{n:Nat}{P:Program}{Q:Exit->Act->World->Prop}{a:Act}{w:World}{g:Operand}{ps:Array Tmp}{assign body:Code}(h:∀c bd b,c=assign->bd=body->b=a->(Code.rangeFunc g ps c bd).wpIn F n P Q b w):(Code.rangeFunc g ps assign body).wpIn F n P Q a w:=h _ _ _ rfl rfl rfl
theorem YC{β:Type}{B:Nat}{I:β->World->Prop}(h:∀s X Y,I s X->Y.os=X.os->Y.tape=X.tape->Y.output=X.output->X.heap.size<=Y.heap.size->(∀k,k<X.heap.size->k<B->Y.heap[k]?=X.heap[k]?)->(∀k t l,aS X k t l->Y.heap[k]?=X.heap[k]?)->I s Y):OwnFrom B I:=fun s X Y row hs a b=>h s X Y hs a.os a.tape a.output a.size (fun k c hB=>a.block k c (fun e=>bV ((b k e.symm).1))) (fun k t l hb=>GL B k t l () X Y row hb a b |>.trans hb.symm)
theorem U6{e:TypeId}{k:Nat}{w w':World}{v:Value}{n:Nat}{l:bO}(h:eX e k w v n l)(c:∀b t l,aS w b t l->w'.heap[b]?=w.heap[b]?):eX e k w' v n l:=by
 rcases h with h|⟨g,cap,cs,rfl,hB,a⟩;·exact .inl h
 ·exact .inr ⟨g,cap,cs,rfl,hB.of_heap (c _ _ _ hB),a⟩
theorem qbl{B:Nat}{wr:World}{v:Value}{out:bW}(h:eX 170 2 wr v out.length (bQ out))(s:Own B v)(hB:B<=wr.heap.size)(hl:out.length<=100000000)(lo hi:Nat):∃g c d,(∀z,(wz #[63,63] z #[v,dP wr.heap.size 1 1]).run prog (wr.alloc (.cells #[uZ lo,uZ hi] 170))=.ok (dP g (out.length+1) c) d)/\eX 170 2 d (dP g (out.length+1) c) (out++[(lo,hi)]).length (bQ (out++[(lo,hi)]))/\Own B (dP g (out.length+1) c)/\Below B wr d/\∀k,k<wr.heap.size->v.ownBlock≠some k->d.heap[k]?=wr.heap[k]?:=by
 have n:=h.lt;have p:eX 170 2 (wr.alloc (.cells #[uZ lo,uZ hi] 170)) v out.length (bQ out):=h.of_heap (fun b hb=>mR _ _ _ (n b hb));obtain⟨v',d,A,a,i⟩:=iQ LQ p (aB wr.heap.size 0) 1 1 [uZ lo,uZ hi] rfl iO (fun v t=>by simp at t;rcases t with rfl|rfl<;>rfl)
  (fun j u y=>by rw[Addr.add_lit,Ht,(aS.new wr 170 [uZ lo,uZ hi]).cell];exact y) aj
 have l:=i.own s (by simp;omega);have q:=i.below s (by simp;omega);have m:Below B wr (wr.alloc (.cells #[uZ lo,uZ hi] 170)):=(j3 _ wr).alloc hB _;obtain⟨g',f,rfl⟩:∃g' f,v'=(dP g' (out.length+1) f):=by
  rcases a with⟨_,r,_⟩|⟨g',f,_,r,_⟩;·omega
  ·exact⟨g',f,r⟩
 have o:bQ out++[uZ lo,uZ hi]=bQ (out++[(lo,hi)]):=by rw[jH];rfl
 rw[o]at a;exact⟨g',f,d,A,by rw[Ea];exact a,l,m.trans q,fun k w x=>by rw[i.1.block k (by simp;omega) (fun e=>x e.symm),mR _ _ _ w]⟩
def JC(w:World)(b L D:Nat)(a:Loop)(E:Nat)(pre:bW)(W:World):Prop:=
 bJ w W/\(∃v,aS W b 63 [v]/\eX 170 2 W v pre.length (bQ pre)/\Own E v)/\W.heap[L]?=some (.loop a)/\W.heap[D]?=some (.deferred (some []))
theorem JC.own{w:World}{g L D:Nat}{c:Loop}{E B:Nat}(p:L<B)(o:D<B)(t:w.heap.size<=B):OwnFrom B (JC w g L D c E):=YC fun s X Y hs h i j l a hb=>by obtain⟨h1,⟨v,d,m,n⟩,e,f⟩:=hs;have r:=(mE.1 e).1;have q:=(mE.1 f).1;exact⟨⟨h.trans h1.os,i.trans h1.tape,j.trans h1.output,Es h1.size l,fun k b=>(a k (bV h1.size) aj).trans (h1.block k b)⟩,⟨v,d.of_heap (hb _ _ _ d),U6 m hb,n⟩,(a L r p).trans e,(a D q o).trans f⟩
theorem Ei(sb sp:Nat)(rs:bW)(base:Option Addr)(c:Nat)(w:World)(S:w.cell? (aB sp 227)=some (.slice base rs.length c))(hG:eX 170 2 w (.slice base rs.length c) rs.length (bQ rs))(y:aS w sb 273 [aI sp 225])(x2:rs.length<=1000000):Calls prog 308 #[nZ,.func (.func 226) #[] #[aI sb 0]] w fun e w'=>∃v',e=.returned v'/\eX 170 2 w' v' rs.reverse.length (bQ rs.reverse)/\Own w.heap.size v'/\bJ w w':=by
 have x1:∀(b:Nat) (W:World),(binOp BinOp.eql 234 (.func (.func 226) #[] #[aI b 0]) .nilFunc).run prog W=.ok (.bool false) W:=fun _ _=>bH;have HS:=aG (dB S (dB hG y));have U3:=y.lt;have x5:=lg w _ (by rw[S]);clear S hG y;refine(callsIn_wide (n:=10)).1 ?_;refine callsIn_of_wp_marks func308 rfl trivial ?_ rfl;simp only[ntmps308,tL,og,qA,Cr,CP,o8,qx,tK,sF,xB,tT];gi_wp2;obtain⟨a,T⟩:=bZ (w.alloc (.cells #[nZ] 63));rw[<-T];have J:Hid (bJ w a/\a.heap.size=w.heap.size+1/\aS a w.heap.size 63 [nZ]):=by rw[T];exact⟨(j3 _ w).alloc (eB _) _,aP,aS.new w 63 [nZ]⟩
 clear T x1;refine vK (fun ag bd a0 has h9 Q=>wpIn_rangeFunc ?_);intro fn _;obtain⟨h,d⟩:∃h:LoopState->Option Code->Loop,h=fun st pe=>{state:=st,pending:=pe,fn:=fn,tmps:=a0.tmps,params:=#[7],assign:=ag,body:=bd,defers:=a.heap.size}:=⟨_,rfl⟩;obtain⟨A,M⟩:=bZ ((a.alloc (.deferred (some []))).alloc (.loop (h .ready none)));obtain⟨R,hf,x3⟩:=J.out;obtain⟨r1,r2,r3⟩:=HS.out;have hg:A.heap.size=a.heap.size+2:=by rw[M];simp
 have U7:bJ a A:=by rw[M];exact((j3 _ a).alloc (eB _) _).alloc aP _
 have O:A.heap[a.heap.size+1]?=some (.loop (h .ready none)):=by rw[M];have:=Bf (a.alloc (.deferred (some []))) (.loop (h .ready none));rwa[World.size_alloc]at this
 have N:A.heap[a.heap.size]?=some (.deferred (some [])):=by rw[M];exact(mR _ _ _ aP).trans (Bf a _)
 have X:bJ w A:=R.trans (U7.mono aj);have y2:=r3.of_heap (X.block _ U3);have y3:=x3.of_heap (U7.block _ x3.lt);have y4:A.cell? (aB sp 227)=some (.slice base rs.length c):=cell_of r1 (X.block _ x5);have y5:eX 170 2 A (.slice base rs.length c) rs.length (bQ rs):=r2.of_heap (fun b hb=>X.block b (r2.lt b hb));clear r1 r2 r3;refine⟨a.heap.size+1,[{target:=.collected a.heap.size,args:=#[]}],A,{target:=.fn (.func 226) #[aI sb 0],args:=#[.func (.yield (a.heap.size+1)) #[] #[]]},A,226,#[.func (.yield (a.heap.size+1)) #[] #[],aI sb 0],A,?_,?_,fun _ _=>trivial,?_,fun _=>aj,?_⟩;·rw[M,d];exact run_enterLoop_outer _ _ _ _ _
 ·rw[Q];simp[resolve,Act.eval,go_sem]
 ·simp[invoke,go_sem]
 ·refine(U2 (10-1) aj (a.heap.size+1) sb sp rs A base c y4 y5 y2 x2 (JC w w.heap.size (a.heap.size+1) a.heap.size (h .ready none)) (fun _ _ _=>False)
   (fun E=>JC.own aj aj aj) (fun E=>ownFrom_pure _ _) (fun E W hW=>?_) ?_).mono ?_
  ·exact⟨X.trans (hW.mono aj),⟨_,y3.of_heap (hW.block _ aj),eX.nil _ _ _,fun k f=>by simp[mI]at f⟩,(hW.block _ aj).trans O,(hW.block _ aj).trans N⟩
  ·intro m E pre x W hE xe hJ x6;obtain⟨h1,⟨v',h3,D,L⟩,F,h7⟩:=hJ;have hy:=run_yield (P:=prog) (args:=encR x) F (by rw[d];rfl);have YD:=(mE.1 F).1;obtain⟨Wa,i⟩:=bZ (W.alloc (.cells #[uZ x.1,uZ x.2] 170));have h8:Wa.heap[a.heap.size+1]?=some (.loop (h .ready none)):=by rw[i];exact(mR _ _ _ YD).trans F
   obtain⟨r,s⟩:∃r,r=Wa.putObj (a.heap.size+1) (.loop {h .ready none with state:=.busy}):=⟨_,rfl⟩;have ha:(Instr.beginRound (a.heap.size+1)).run prog Wa=.ok () r:=by rw[s];exact run_beginRound h8 (by rw[d])
   have y:r.heap.size=W.heap.size+1:=by rw[s,i];simp
   have H:∀k,k<W.heap.size->k≠a.heap.size+1->r.heap[k]?=W.heap[k]?:=fun k f hn=>by rw[s,eT hn,i];exact mR _ _ _ f
   have hc:r.heap[a.heap.size+1]?=some (.loop {h .ready none with state:=.busy}):=by rw[s];exact xQ (by rw[i];simp;omega)
   have U:aS r W.heap.size 170 [uZ x.1,uZ x.2]:=by have z:=aS.new W 170 [uZ x.1,uZ x.2];rw[s];refine aS.of_heap (w:=Wa) (by rw[i];exact z) (eT aj)
   have YE:r.os=W.os/\r.tape=W.tape/\r.output=W.output:=by rw[s,i];exact⟨rfl,rfl,rfl⟩
   have b3:=h3.of_heap (H _ h3.lt aj);have b4:eX 170 2 r v' pre.length (bQ pre):=D.of_heap (fun k f=>H k (D.lt k f) (bV (L k f)));obtain⟨g,C,K,yY,c1,c2,c3,c4⟩:=qbl b4 L aj aj x.1 x.2;obtain⟨B,c9,rfl,_⟩:=D.shape;have d3:r.cell? (aB w.heap.size 0)=some (.slice B pre.length c9):=b3.cell 0;have Y:∀k,k<E->(Ev B pre.length c9).ownBlock≠some k:=fun k f e=>bV (L k e);have e3:=b3.of_heap (c4 _ b3.lt (Y _ aj));have e6:=(c4 _ aj (Y _ aj)).trans hc;have x7:K.cell? (aB w.heap.size 0)=some (.slice B pre.length c9):=e3.cell 0;have xa:=e3.frozen 0;have x8:r.cell? (aB W.heap.size 0)=some (uZ x.1):=U.cell 0;have x9:r.cell? (aB W.heap.size 1)=some (uZ x.2):=U.cell 1;rw[d]at hy;refine⟨fn,_,ag,bd,hy,roundIn_of_wpIn trivial ?_⟩;clear hy;have hj:∀(W6:World),W6=K.setCell (aB w.heap.size 0) (dP g (pre.length+1) C)->∃p,(Instr.endRound (a.heap.size+1) none).run prog W6=.ok (.bool true) p/\p.heap[a.heap.size+1]?=some (.loop (h .ready none))/\KpO A.heap.size E W p/\bJ w p/\(∃v,aS p w.heap.size 63 [v]/\eX 170 2 p v (pre++[x]).length (bQ (pre++[x]))/\Own E v)/\p.heap[a.heap.size]?=some (.deferred (some [])):=by
    intro W6 La;have h2:W6.heap[a.heap.size+1]?=some (.loop {h .ready none with state:=.busy}):=by rw[La,CZ _ _ _ _ (by simp;omega)];exact e6
    have he:=run_endRound (P:=prog) none h2;obtain⟨p,Z⟩:=bZ (W6.putObj (a.heap.size+1) (.loop (h .ready none)));refine⟨p,?_,?_,?_⟩;·rw[he,Z,d];rfl
    ·rw[Z];exact xQ (mE.1 h2).1
    have o7:∀k,k≠a.heap.size+1->k≠w.heap.size->p.heap[k]?=K.heap[k]?:=fun k n1 n2=>by rw[Z,eT n1,La,CZ _ _ _ _ n2]
    have s7:p.heap.size=K.heap.size:=by rw[Z,La];simp
    have V:p.os=K.os/\p.tape=K.tape/\p.output=K.output:=by rw[Z,La];exact⟨rfl,rfl,rfl⟩
    have s5:=c3.size;have oW:∀k,k<W.heap.size->k≠a.heap.size+1->k≠w.heap.size->(Ev B pre.length c9).ownBlock≠some k->p.heap[k]?=W.heap[k]?:=fun k f n1 n2 n3=>by rw[o7 k n1 n2,c4 k aj n3,H k f n1]
    have xf:=c2 g rfl;have hu:g≠a.heap.size+1:=aj;have hr:g≠w.heap.size:=aj;refine⟨⟨aj,fun k k1 k2=>oW k aj aj aj (Y k k2),⟨aj,fun k o k1 k2 k3=>?_⟩⟩,⟨?_,?_,?_,bV h1.size,fun k f=>?_⟩,⟨_,?_,c1.of_heap (fun k f=>?_),c2⟩,?_⟩
    ·have x0:=(mE.1 k2).1;rw[oW k x0 aj aj (fun e=>?_),k2];rcases D with⟨e',_⟩|⟨g',cap,cs,e',hB,_⟩;·rw[e']at e;simp[mI]at e
     ·rw[e']at e;simp[mI]at e;subst e;have:=hB.symm.trans k2;simp at this;rw[<-this]at k3;cases k3
    ·rw[V.1,c3.os,YE.1,h1.os]
    ·rw[V.2.1,c3.tape,YE.2.1,h1.tape]
    ·rw[V.2.2,c3.output,YE.2.2,h1.output]
    ·rw[oW k (bV h1.size) aj aj (Y k aj),h1.block k f]
    ·rw[Z];refine aS.of_heap (w:=W6) ?_ (eT aj);rw[La];exact e3.LH 0 _
    ·have hx:k=g:=by simp[mI]at f;omega
     subst hx;exact o7 k hu hr
    ·rw[oW _ aj aj aj (Y _ aj),h7]
   have kV:=aG hj;have h0:=aG ha;clear hj ha h8 H hc U YE b3 b4 c1 c2 c3 c4 e3 e6 h1 h3 D L F h7 Y O N U7 X y2 y3 y4 y5 R x3 HS J M hf hg y s YD d;subst has h9 Q;simp only[encR];gi_wp2;rw[<-i];refine⟨r,h0.out,?_⟩;clear i h0;have xi:pre.length<=1000000:=aj;gi_wp2_with (gi_at_builtin;refine U5 _ rfl _ _ _ rfl _ _ rfl rfl _ _ (yY _) ?_);obtain⟨p,r1,r2,r3,r4,r5,r6⟩:=kV.out _ rfl;exact⟨_,_,r1,.inl ⟨rfl,⟨r4,r5,r2,r6⟩,r3⟩⟩
  ·rintro e W ⟨⟨v,rfl⟩,E,xd,hJ|⟨k,f,hJ⟩⟩
   ·obtain⟨h1,⟨v',h3,D,L⟩,F,h7⟩:=hJ;have gQ:=(mE.1 F).1;obtain⟨q,DW⟩:∃q,q=W.putObj (a.heap.size+1) (.loop {h .ready none with state:=.exhausted}):=⟨_,rfl⟩;have I:(Instr.endLoop (a.heap.size+1)).run prog W=.ok none q:=by
     have:=run_endLoop (P:=prog) F (by rw[d];simp);rw[DW];rw[d]at this ⊢;exact this
    refine⟨none,q,I,?_⟩;have j:∀k,k≠a.heap.size+1->q.heap[k]?=W.heap[k]?:=fun k f=>by rw[DW];exact eT f
    have x4:q.heap.size=W.heap.size:=by rw[DW];simp
    have YF:q.os=W.os/\q.tape=W.tape/\q.output=W.output:=by rw[DW];exact⟨rfl,rfl,rfl⟩
    have z3:=h3.of_heap (j _ aj);have z7:=(j _ aj).trans h7;have u:bJ w q:=⟨YF.1.trans h1.os,YF.2.1.trans h1.tape,YF.2.2.trans h1.output,bV h1.size,fun k f=>(j k aj).trans (h1.block k f)⟩;obtain⟨B,c9,rfl,_⟩:=D.shape;have zc:q.cell? (aB w.heap.size 0)=some (.slice B (rs.reverse).length c9):=z3.cell 0;have HF:Hid (eX 170 2 (q.putObj a.heap.size (.deferred none)) (.slice B (rs.reverse).length c9) (rs.reverse).length (bQ rs.reverse)/\Own w.heap.size (.slice B (rs.reverse).length c9)/\bJ w (q.putObj a.heap.size (.deferred none))):=by
     refine⟨?_,fun k f=>?_,⟨u.os,u.tape,u.output,by have:=u.size;simpa using this,fun k f=>(eT aj).trans (u.block k f)⟩⟩
     ·refine D.of_heap (fun k f=>?_);have hw:∃t l,aS W k t l:=by
       rcases D with⟨e,_⟩|⟨g,cap,cs,e,hB,_⟩;·rw[e]at f;simp[mI]at f
       ·rw[e]at f;simp[mI]at f;subst f;exact⟨_,_,hB⟩
      obtain⟨t,l,G⟩:=hw;have n1:k≠a.heap.size+1:=fun e=>by rw[e]at G;have:=G.symm.trans F;cases this
      have n2:k≠a.heap.size:=fun e=>by rw[e]at G;have:=G.symm.trans h7;cases this
      rw[eT n2,j k n1]
     ·have:=L k f;omega
    have hm:Hid (∀v,v=Ev B (rs.reverse).length c9->∃v',qy v=qy v'/\eX 170 2 (q.putObj a.heap.size (.deferred none)) v' rs.reverse.length (bQ rs.reverse)/\Own w.heap.size v'/\bJ w (q.putObj a.heap.size (.deferred none))):=fun v hv=>⟨v,rfl,by rw[hv];exact HF.out⟩;clear HF;generalize ho:(rs.reverse).length=N9 at zc;clear h1 h3 D L F h7 I j x4 YF z3 u gQ hg U7 O N X y2 y3 y4 y5 R hf x3 M DW d has h9 J HS;subst Q;gi_wp2;refine⟨aP,.inl ⟨_,_,rfl,run_takeDeferred z7,?_⟩⟩;exact⟨.slice B N9 c9,by simp[results,results308,go_sem],hm.out _ (by rw[ho])⟩
   ·exact hJ.elim
end
end Go.Proofs.YtphbledmopchnaaGreatDoor.St
namespace Go.Proofs.YtphbledmopchnaaGreatDoor.Sd
open Go.RowKit Go.Lib Mm Go.Maps Tryz
section
section
variable {F:Fence} {n:Nat} (w:World) {ops:Array Oper} {rest:List Oper} {o:Oper} {a:Act} {Q:Exit->Act->World->Prop}
theorem ME(j:o.guard=none)(m:Operand)(d:o.op=Op.range 203 m)(b:Nat)(l:List jA)(k:a.eval m=.map (some b))(h:kR w b l)(g:∀w',tJ w' b w.heap.size l l->w.grownBy w' none->w'.heap.size=w.heap.size+1->wpListIn F n prog ops Q rest (a.put o.dst (aI w.heap.size 0)) w'):wpListIn F n prog ops Q (o::rest) a w:=by
 refine wpListIn_plain j fun s f=>?_;obtain⟨w',e,p,q,r⟩:=h.range;unfold Gt;constructor;·simp[FU,d]
 ·rw[uj F _ _ (by rw[d];intro c i;cases i)];simp[execOp,d,k,e,Result.andThen];exact f _ _ (g w' p q r)
theorem QG(m:o.guard=none)(it:Operand)(e:o.op=Op.next it false)(b r:Nat)(l lf:List jA)(hit:a.eval it=(aI r 0))(h:tJ w b r l lf)(f:lf=[]->wpListIn F n prog ops Q rest (a.put o.dst (.tuple #[.bool false])) w)(g:∀(x:jA) (w':World),x∈lf->x.1<18446744073709551616->tJ w' b r l (lf.filter fun y=> !decide (y.1=x.1))->w'.rangeLeft b r<w.rangeLeft b r->w.grownBy w' (some r)->w'.heap.size=w.heap.size->(Instr.entry (aI r 0)).run prog w'=.ok (.tuple #[uZ x.1,vT x.2]) w'->wpListIn F n prog ops Q rest (a.put o.dst (.tuple #[.bool true,uZ x.1,vT x.2])) w'):wpListIn F n prog ops Q (o::rest) a w:=by
 refine wpListIn_plain m fun p i=>?_;unfold Gt;constructor;·simp[FU,e]
 ·rw[uj F _ _ (by rw[e];intro c k;cases k)];rcases h.next o.type with⟨j,d⟩|⟨x,w',h1,h2,d,h3,h4,h5,h6,h7⟩;·simp[execOp,e,hit,d,Result.andThen];exact i _ _ (f j)
  ·simp[execOp,e,hit,d,Result.andThen];exact i _ _ (g x w' h1 h2 h3 h4 h5 h6 h7)
end

end
end Go.Proofs.YtphbledmopchnaaGreatDoor.Sd
namespace Go.Proofs.YtphbledmopchnaaGreatDoor.Sd
open Go.RowKit Go.Lib Mm Tryz
theorem Rp(S bE named n:Nat)(x:Option Addr×Nat×Nat×Nat)(w:World)(c3:w.cell? (aB S 3)=some (uZ bE))(nH:w.cell? (aB S 232)=some (uZ named))(ht:x.2.2.2<=bE)(l:bE<18446744073709551616)(p:n+3<18446744073709551616):Calls prog 192 #[aI S 0,uZ n,vT x] w fun e w'=>e=.returned (.bool (decide (6<=bE-x.2.2.2)||decide (n+3<named)))/\bJ w w':=by
 obtain⟨fa,fl,b,t⟩:=x;have m:IntKind.u64.wrap ((bE:Int)-(t:Int))=((bE-t:Nat):Int):=by rw[IntKind.wrap_u64];have d:t<=bE:=ht;omega
 have o:IntKind.u64.wrap ((n:Int)+3)=((n+3:Nat):Int):=by rw[IntKind.wrap_u64];omega
 have d:t<=bE:=ht;clear ht;show Calls prog 192 #[aI S 0,uZ n,.agg #[.slice fa fl b,uZ t]] w fun e w'=>e=.returned (.bool (decide (6<=bE-t)||decide (n+3<named)))/\bJ w w';generalize i:bE-t=D at *
 generalize j:n+3=g at *
 clear i j;obtain⟨W,a⟩:=bZ (w.alloc (.cells #[.slice fa fl b,uZ t] 289));have hb:bJ w W:=by rw[a];exact(j3 _ w).alloc (eB _) _
 have r:W.cell? (aB S 3)=some (uZ bE):=cell_of c3 (hb.block _ (lg w _ (by rw[c3])));have s:W.cell? (aB S 232)=some (uZ named):=cell_of nH (hb.block _ (lg w _ (by rw[nH])));have u:W.cell? (aB w.heap.size 1)=some (uZ t):=by rw[a];exact(aS.new w 289 [.slice fa fl b,uZ t]).cell 1
 have f:Hid (∀q,bJ w (W.drewN q)):=fun q=>⟨hb.os,hb.tape,hb.output,hb.size,hb.block⟩;clear c3 nH hb;by_cases h:6<=D;·have c:(6:Int)<=(D:Int):=aj;rw[decide_eq_true h];go_enter func192,ntmps192;go_wp2;rw[<-a];clear a;go_quiet (fail);go_wp2;go_ret;exact⟨rfl,f.out _⟩
 ·have c:decide ((6:Int)<=(D:Int))=false:=decide_eq_false aj;rw[decide_eq_false h];have k:(decide ((g:Int)<(named:Int)))=decide (g<named):=aP;go_enter func192,ntmps192;go_wp2;rw[<-a];clear a;go_quiet (fail);go_wp2;go_ret;exact⟨aP,f.out _⟩
theorem qbq(S b n nx:Nat)(x:Option Addr×Nat×Nat×Nat)(w:World)(c0:w.cell? (aB b 0)=some (aI S 0))(oo:w.cell? (aB S 229)=some (uZ nx))(g:n+64<18446744073709551616):Calls prog 195 #[uZ n,vT x,aI b 0] w fun e w'=>e=.returned (.bool (decide (n+64<nx)))/\bJ w w':=by
 obtain⟨fa,fl,a,t⟩:=x;have d:IntKind.u64.wrap ((n:Int)+64)=((n+64:Nat):Int):=by rw[IntKind.wrap_u64];omega
 show Calls prog 195 #[uZ n,.agg #[.slice fa fl a,uZ t],aI b 0] w fun e w'=>e=.returned (.bool (decide (n+64<nx)))/\bJ w w';generalize c:n+64=f at *
 clear c;have l1:b<w.heap.size:=lg w _ (by rw[c0]);have l2:S<w.heap.size:=lg w _ (by rw[oo]);go_enter func195,ntmps195;go_wp2;go_ret;exact⟨aP,(j3 _ w).alloc (eB _) _⟩
theorem MP{rs:bW}{k n:Nat}(a:k<rs.length):names (rs.drop k) n=(decide ((rs.getD k (0,0)).1<=n)&&decide (n<=(rs.getD k (0,0)).2)||names (rs.drop (k+1)) n):=by
 have e:rs.drop k=rs.getD k (0,0)::rs.drop (k+1):=by rw[List.drop_eq_getElem_cons a,nI,nU a];rfl
 rw[e];rfl
theorem Rq(a:Option Addr)(rs:bW)(c n:Nat)(w:World)(u:jg w a rs)(hl:rs.length<=1000000):Calls prog 338 #[.slice a rs.length c,uZ n] w fun e w'=>e=.returned (.bool (names rs n))/\bJ w w':=by
 have x:=aG u;clear u;go_enter func338,ntmps338;go_wp2;go_loopw [9] (fun q wr=>∃k:Nat,k<=rs.length/\q=(iZ k)/\Hid (bJ w wr/\names (rs.drop k) n=names rs n)) (fun q _=>rs.length-(rX q).toNat);case atStart=>exact⟨0,Nat.zero_le _,rfl,j3 _ _,rfl⟩
 case round=>
  obtain⟨k,z,rfl,r⟩:=hrel;obtain⟨hb,d⟩:=r.out;by_cases i:k<rs.length
  ·have t:(k:Int)<(rs.length:Int):=aj;obtain⟨b,o,rfl,c0,c1,_⟩:=(x.out.below hb) k i;have f:=MP (n:=n) i;rw[d]at f;generalize rs.getD k (0,0)=y at *
   obtain⟨lo,hi⟩:=y;dsimp only at c0 c1 f;have g:Hid (∀o,bJ w (wr.alloc o)):=fun o=>hb.alloc hb.size _;have h:=aG f;clear d f hb;by_cases h1:lo<=n
   ·have m:(lo:Int)<=(n:Int):=aj;by_cases s:n<=hi;·have p:(n:Int)<=(hi:Int):=aj;go_wp2;go_ret;exact⟨by rw[h.out,decide_eq_true h1,decide_eq_true s];rfl,g.out _⟩
    ·have p:¬(n:Int)<=(hi:Int):=aj;have l:Hid (names (rs.drop (k+1)) n=names rs n):=by rw[Hid,h.out,decide_eq_false s];simp
     go_wp2;go_roundw;case rel=>exact⟨k+1,aj,aP,g.out _,l.out⟩
     case measure=>simp[rX];omega
   ·have m:¬(lo:Int)<=(n:Int):=aj;have l:Hid (names (rs.drop (k+1)) n=names rs n):=by rw[Hid,h.out,decide_eq_false h1];simp
    go_wp2;go_roundw;case rel=>exact⟨k+1,aj,aP,g.out _,l.out⟩
    case measure=>simp[rX];omega
  ·obtain rfl:k=rs.length:=aj;have v:Hid (names rs n=false):=by rw[Hid,<-d,List.drop_length];rfl
   have j:=aG hb;clear d hb r;go_wp2;go_ret;exact⟨by rw[v.out];rfl,j.out⟩
theorem Vs(b n:Nat)(a:Option Addr)(rs:bW)(c:Nat)(x:Option Addr×Nat×Nat×Nat)(w:World)(c0:w.cell? (aB b 0)=some (.slice a rs.length c))(g:jg w a rs)(hl:rs.length<=1000000):Calls prog 337 #[uZ n,vT x,aI b 0] w fun e w'=>e=.returned (.bool (names rs n))/\bJ w w':=by
 obtain⟨fa,fl,d,t⟩:=x;show Calls prog 337 #[uZ n,.agg #[.slice fa fl d,uZ t],aI b 0] w fun e w'=>e=.returned (.bool (names rs n))/\bJ w w';have l1:b<w.heap.size:=lg w _ (by rw[c0]);have hb:bJ w (w.alloc (.cells #[.slice fa fl d,uZ t] 289)):=(j3 _ w).alloc (eB _) _;have h:Hid (Calls prog 338 #[.slice a rs.length c,uZ n] (w.alloc (.cells #[.slice fa fl d,uZ t] 289)) fun e w'=>e=.returned (.bool (names rs n))/\bJ w w'):=by refine bN (Rq a rs c n _ (g.below hb) hl) ?_;rintro w' f;exact⟨rfl,hb.trans (f.mono hb.size)⟩
 clear hb g;go_enter func337,ntmps337;go_wp2_with (go_at_call 338;refine bN h.out ?_;rintro w' hb);go_ret;exact⟨rfl,hb⟩
