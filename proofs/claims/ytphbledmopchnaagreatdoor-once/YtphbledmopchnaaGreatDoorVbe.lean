import Derived.Test.YtphbledmopchnaaGreatDoorVba
import Derived.Test.YtphbledmopchnaaGreatDoorVbb
import Derived.Test.YtphbledmopchnaaGreatDoorVbc
import Derived.Test.YtphbledmopchnaaGreatDoorVbd
open Go.Builtin renaming zeroCells->eB,append_->fE,min_->nA
open Go.Ending renaming returned->fA
open List renaming filter_nil->mE,drop_drop->mI
open Go.RowKit renaming intOf->fB
open Go.Value renaming ownBlock->eT,cells->kg,nilIface->mR,bool->nI
set_option maxHeartbeats 4000000
set_option maxRecDepth 100000
open Go renaming World->Wq,Value->WA,Calls->WB,TypeId->Vg,Addr->V3
set_option linter.all false
namespace Go.Proofs.YtphbledmopchnaaGreatDoor.Sd
open Go.RowKit Go.Lib Mm Go.Maps Tryz
variable {b r:Nat}{c:jQ->Bool}{d g l l' lf:List jQ}{w w' y z:Wq}
section
section
variable (w:Wq) {ops:Array Oper} {rest:List Oper} {o:Oper} {a:Act} {Q:Exit->Act->Wq->Prop}
def nS(i:o.guard=none)(m:Operand)(f:o.op=Op.range 203 m)(b:Nat)(l:List jQ)(j:a.eval m=.map (some b))(h:mD w b l)(g:∀c,tV c b w.heap.size l l->w.grownBy c none->c.heap.size=w.heap.size+1->wpList prog ops Q rest (a.put o.dst (aJ w.heap.size 0)) c):wpList prog ops Q (o::rest) a w:=by refine wpList_plain i fun q e=>?_;obtain⟨c,d,k,n,p⟩:=h.range;unfold Oper.wp;simp[execOp,f,j,d,Result.andThen];exact e _ _ (g c k n p)
def pK(m:o.guard=none)(j:Operand)(i:o.op=Op.next j false)(b r:Nat)(l lf:List jQ)(hit:a.eval j=(aJ r 0))(h:tV w b r l lf)(e:lf=[]->wpList prog ops Q rest (a.put o.dst (.tuple #[.bool false])) w)(f:∀(x:jQ) (d:Wq),x∈lf->x.1<18446744073709551616->tV d b r l (lf.filter fun y=> !decide (y.1=x.1))->d.rangeLeft b r<w.rangeLeft b r->w.grownBy d (some r)->d.heap.size=w.heap.size->(Instr.entry (aJ r 0)).run prog d=.ok (.tuple #[uZ x.1,wX x.2]) d->wpList prog ops Q rest (a.put o.dst (.tuple #[.bool true,uZ x.1,wX x.2])) d):wpList prog ops Q (o::rest) a w:=by
 refine wpList_plain m fun n g=>?_;unfold Oper.wp;rcases h.next o.type with⟨k,c⟩|⟨x,d,h1,h2,c,h3,h4,h5,h6,h7⟩;·simp[execOp,i,hit,c,Result.andThen];exact g _ _ (e k)
 ·simp[execOp,i,hit,c,Result.andThen];exact g _ _ (f x d h1 h2 h3 h4 h5 h6 h7)
def rO(i:o.guard=none)(m x:Operand)(f:o.op=Op.call {callee:=Callee.builtin Builtin.delete,args:=#[m,x],argTypes:=#[203,43]})(b r:Nat)(l lf:List jQ)(j:a.eval m=.map (some b))(h:tV w b r l lf)(n:Nat)(p:a.eval x=(uZ n))(k:n<18446744073709551616)(g:∀c,tV c b r (l.filter fun y=> !decide (y.1=n)) (lf.filter fun y=> !decide (y.1=n))->c.rangeLeft b r<=w.rangeLeft b r->w.grownBy c (some b)->wpList prog ops Q rest (a.put o.dst (.tuple #[])) c):wpList prog ops Q (o::rest) a w:=by refine wpList_plain i fun u e=>?_;obtain⟨c,d,q,s,t⟩:=h.del n k o.type;unfold Oper.wp;simp[execOp,f,resolve,invoke,builtin,j,p,d,Result.andThen];exact e _ _ (g c q s t)
def rP(k:o.guard=none)(m x v:Operand)(g:o.op=Op.mapUpdate 203 m x v)(b:Nat)(l:List jQ)(p:a.eval m=.map (some b))(h:mD w b l)(n:l.length<1000000)(e:jQ)(s:a.eval x=(uZ e.1))(r:a.eval v=wX e.2)(j:e.1<18446744073709551616)(q:∀y∈l,y.1≠e.1)(i:∀d,mD d b (e::l)->w.grownBy d (some b)->wpList prog ops Q rest (a.put o.dst undef) d):wpList prog ops Q (o::rest) a w:=by refine wpList_plain k fun z f=>?_;obtain⟨d,c,t,u⟩:=h.put n e j q;unfold Oper.wp;simp[execOp,g,p,s,r,c,Result.andThen];exact f _ _ (i d t u)
end


def Zr(l:List jQ)(h:mD w b l)(e:l.length<1000000):qH 262 #[.map (some b)] w (.bool (decide (12<=l.length))) fun d=>d=w:=by have c:=h.len;go_enter func262,ntmps262;go_wp2;go_ret;exact⟨congrArg (fun b=>fA (.bool b)) (decide_eq_decide.2 aj),rfl⟩
def yA(h:l.Nodup)(b:l'.Nodup)(c:∀x,x∈l↔x∈l'):l.Perm l':=(List.perm_ext_iff_of_nodup h b).2 c
def Pw(h:l.Nodup)(c:l'.Nodup)(d:∀x,x∈l->x∈l'):l.length<=l'.length:=by
 classical
 have:l.Perm (l'.filter fun x=>decide (x∈l)):=yA h (c.filter _) fun x=>by rw[qm4];exact⟨fun b=>⟨d x b,decide_eq_true b⟩,fun b=>of_decide_eq_true b.2⟩
 rw[this.length_eq];exact qo1 _ _
structure Px (w:Wq) (b b2 r:Nat) (l:List jQ) (want:jQ->Bool) (y:Wq) (cur lf tk:List jQ):Prop where
 rg:tV y b r cur lf
 mp:mD y b2 tk
 cur:∀x,x∈cur↔x∈l/\(x∈lf\/want x=false)
 tk:∀x,x∈tk↔x∈l/\x∉lf/\want x=true
 gr:w.grownBy y (some b)
def Px.len{f:Nat}{e:List jQ}(h:Px w b f r l c y d lf e)(g:l.Nodup):e.length<=l.length:=
 Pw h.mp.nodup g fun x i=>((h.tk x).1 i).1
def Px.done{e:Nat}(h:Px w b e r l c y d [] g)(f:l.Nodup):mD y b (l.filter fun x=> !c x)/\mD y e (l.filter c):=by
 refine⟨h.rg.map.perm (yA h.rg.map.nodup (f.filter _) fun x=>?_),h.mp.perm (yA h.mp.nodup (f.filter _) fun x=>?_)⟩;·rw[h.cur,qm4];simp
 ·rw[h.tk,qm4];simp
def Px.stay{i:Nat}{k:List jQ}(h:Px w b i r l c y d lf k)(x:jQ)(m:∀y,y∈l->(y∈g↔y∈lf/\y≠x))(n:c x=false)(p:tV z b r d g)(q:mD z i k)(s:w.grownBy z (some b)):Px w b i r l c z d g k:=by
 refine⟨p,q,fun e=>?_,fun e=>?_,s⟩
 ·rw[h.cur];refine and_congr_right fun j=>?_;rw[m e j];by_cases f:e=x;·rw[f];simp[n]
  ·simp[f]
 ·rw[h.tk];refine and_congr_right fun j=>?_;rw[m e j];by_cases f:e=x;·rw[f];simp[n]
  ·simp[f]
def Px.go{t:Nat}{f:jQ->Bool}{j s v:List jQ}(h:Px w b t r l f y j lf v)(H:∀e∈l,∀A∈l,e.1=A.1->e=A)(x:jQ)(I:x∈lf)(q:∀y,y∈l->(y∈s↔y∈lf/\y≠x))(B:f x=true)(D:tV z b r (j.filter fun e=> !decide (e.1=x.1)) (s.filter fun e=> !decide (e.1=x.1)))(E:mD z t (x::v))(G:w.grownBy z (some b)):Px w b t r l f z (j.filter fun e=> !decide (e.1=x.1)) (s.filter fun e=> !decide (e.1=x.1)) (x::v):=by
 have m:x∈l:=((h.cur x).1 (h.rg.sub x I)).1;have i:∀e∈l,((!decide (e.1=x.1))=true↔e≠x):=fun e F=>by simp only[qok,decide_eq_false_iff_not];exact⟨fun u p=>u (by rw[p]),fun u p=>u (H e F x m p)⟩
 refine⟨D,E,fun e=>?_,fun e=>?_,G⟩
 ·rw[qm4,qm4,h.cur];constructor;·rintro⟨⟨c,g⟩,n⟩;refine⟨c,g.imp (fun d=>⟨(q e c).2 ⟨d,(i e c).1 n⟩,n⟩) id⟩
  ·rintro⟨c,g⟩;rcases g with⟨d,C⟩|d;·exact⟨⟨c,.inl ((q e c).1 d).1⟩,C⟩
   ·refine⟨⟨c,.inr d⟩,(i e c).2 fun p=>?_⟩;rw[p,B]at d;cases d
 ·rw[qme,h.tk,qm4];constructor
  ·rintro(c|⟨c,g,n⟩);·rw[c];exact⟨m,fun g=>((i x m).1 g.2) rfl,B⟩
   ·exact⟨c,fun d=>g ((q e c).1 d.1).1,n⟩
  ·rintro⟨c,g,n⟩;by_cases k:e=x;·exact .inl k
   ·exact .inr ⟨c,fun d=>g ⟨(q e c).2 ⟨d,k⟩,(i e c).2 k⟩,n⟩
def gu(c:w'.heap[b]?=w.heap[b]?)(d:w'.heap[r]?=w.heap[r]?):w'.rangeLeft b r=w.rangeLeft b r:=by unfold World.rangeLeft;rw[c,d]
def jg(b:bE w w'):w.grownBy w' none:=⟨b.os,b.tape,b.output,b.size,fun i c _=>b.block i c⟩
def eY{t:Vg}{l:bJ}(c:bE w w')(h:aL w b t l):aL w' b t l:=h.of_heap (c.block b h.lt)
def Zt(g:Nat)(p k:Array WA)(l:List jQ)(f:jQ->Bool)(eg:∀args w,(callFunc g args).run prog w=.ok (.enter g args) w)(h:mD w b l)(hl:l.length<100000)(hw:∀x∈l,∀W:Wq,w.grownBy W (some b)->WB prog g (p++(#[uZ x.1,wX x.2]++k)) W fun e W'=>e=.returned (.bool (f x))/\bE W W'):qH 191 #[.map (some b),.func (.func g) p k] w (.map (some w.heap.size)) fun w'=>mD w' b (l.filter fun x=> !f x)/\mD w' w.heap.size (l.filter f)/\w.grownBy w' (some b):=by
 have hk:=@run_makeMap prog;have P:=h.nodup;have X:=h.lt;obtain⟨W,R⟩:=bT (w.alloc (.map #[] 0));have h6:w.grownBy W none:=by rw[R];exact qol _ _ _
 have h2:mD W b l:=h.kept (by rw[R];exact(MapKept.heap_alloc w _).2 b X);have h4:mD W w.heap.size []:=by rw[R];exact mD.made w
 have gT:W.heap.size=w.heap.size+1:=by rw[R];simp
 go_enter func191,ntmps191;go_wp2_with (first|(at_range;refine nS _ rfl _ rfl b l rfl (by rw[<-R];exact h2) ?_;intro w0 G N ha)|go_in);have e1:(w.alloc (.map #[] 0)).heap.size=w.heap.size+1:=aM;rw[<-R]at N;rw[e1]at G ha ⊢;go_frame;go_loopw [6] (fun _ wr=>∃q lf T:List jQ,Hid (Px w b w.heap.size (w.heap.size+1) l f wr q lf T)) (fun _ wr=>wr.rangeLeft b (w.heap.size+1));case atStart=>exact⟨l,l,[],(⟨G,h4.kept ((N.block _ aj aM)),fun x=>⟨fun m=>⟨m,.inl m⟩,fun m=>m.1⟩,fun x=>⟨(fun m=>by cases m),fun m=>absurd m.1 m.2.1⟩,(h6.but _).andThen N (fun j s=>by cases s)⟩:Px w b w.heap.size (w.heap.size+1) l f w0 l l [])⟩
 case round=>
  obtain⟨q,lf,T,hrel⟩:=hrel;go_wp2_with (first|(at_next;refine pK _ rfl _ rfl b (w.heap.size+1) q lf rfl hrel.out.rg ?_ ?_)|go_in);·intro h0;go_wp2;go_ret;subst h0;exact⟨rfl,(hrel.out.done P).1,(hrel.out.done P).2,hrel.out.gr⟩
  ·intro L I K J M w1 m GN i h9 O hf Y;have H:=hrel.out;have h8:T.length<1000000:=qoq (H.len P) aj;have u:(L,I,K,J,M)∈l:=((H.cur _).1 (H.rg.sub _ m)).1;obtain⟨F,v⟩:=bT (w1.alloc (.cells #[.slice I K J,uZ M] 289));have V:aL F wr.heap.size 289 [.slice I K J,uZ M]:=by rw[v,<-hf];exact aL.new w1 289 _
   have r:w1.grownBy F none:=by rw[v];exact qol _ _ _
   have A:w.grownBy F (some b):=(H.gr.andThen O (fun j s=>by cases s;exact .inl (Nat.le_succ _))).andThen r (fun j s=>by cases s);have S:=hw _ u F A;have hm:F.heap.size=w1.heap.size+1:=by rw[v];simp
   have Jb:tV F b (w.heap.size+1) q (lf.filter fun y=> !decide (y.1=L)):=i.kept (r.block _ i.map.lt aM) (r.block _ i.lt aM);have B:mD F w.heap.size T:=H.mp.kept ((r.block _ (qm9 H.mp.lt O.size) aM).trans (O.block _ H.mp.lt aM));have C:F.rangeLeft b (w.heap.size+1)<wr.rangeLeft b (w.heap.size+1):=by rw[(gu (r.block _ i.map.lt aM) (r.block _ i.lt aM))];exact h9
   have n:∀y,y∈l->(y∈(lf.filter fun y=> !decide (y.1=L))↔y∈lf/\y≠(L,I,K,J,M)):=fun y hy=>by rw[qm4];refine and_congr_right fun _=>?_;simp only[qok,decide_eq_false_iff_not];exact⟨fun D e=>D (by rw[e]),fun D e=>D (h.inj hy u e)⟩
   cases t:f (L,I,K,J,M)
   ·rw[t]at S;have E:=aF (dw u (dw n (dw t m)));have d:=aF (dw A (dw Jb (dw B C)));clear u n t m A Jb B C;simp only[wX]at Y S ⊢;go_wp2_with (first|(go_at_fn g;rw[<-v];refine bH S ?_;rintro w2 c)|go_in);go_roundw;case rel=>exact⟨q,_,T,(H.stay _ E.out.2.1 E.out.2.2.1 (d.out.2.1.kept (c.block _ d.out.2.1.map.lt) (c.block _ d.out.2.1.lt)) (d.out.2.2.1.kept (c.block _ d.out.2.2.1.lt)) (d.out.1.andThen (jg c) (fun j s=>by cases s)):Px _ _ _ _ _ _ _ _ _ _)⟩
    case measure=>rw[gu (c.block _ d.out.2.1.map.lt) (c.block _ d.out.2.1.lt)];exact d.out.2.2.2
   ·rw[t]at S;have E:=aF (dw u (dw n (dw t m)));have d:=aF (dw A (dw Jb (dw B C)));clear u n t m A Jb B C;simp only[wX]at Y S ⊢;go_wp2_with (first|(go_at_fn g;rw[<-v];refine bH S ?_;rintro w2 c;have y0:w2.cell? (ay wr.heap.size 0)=some (.slice I K J):=(eY c V).cell 0;have y1:w2.cell? (ay wr.heap.size 1)=some (uZ M):=(eY c V).cell 1)|(at_mapUpdate;refine rP _ rfl _ _ _ rfl w.heap.size T rfl (d.out.2.2.1.kept (c.block _ d.out.2.2.1.lt)) h8 (L,I,K,J,M) rfl rfl GN (fun y hy e=>((H.tk y).1 hy).2.1 (by rw[h.inj ((H.tk y).1 hy).1 E.out.1 e];exact E.out.2.2.2)) ?_;intro w3 U z)|(at_delete;refine rO _ rfl _ _ rfl b (w.heap.size+1) q _ rfl (((d.out.2.1.kept (c.block _ d.out.2.1.map.lt) (c.block _ d.out.2.1.lt)).kept (z.block _ (qm9 d.out.2.1.map.lt c.size) rR) (z.block _ (qm9 d.out.2.1.lt c.size) aM))) L rfl GN ?_;intro w4 h3 h7 Z;go_frame)|go_in);have hg:=d.out.2.1.kept (c.block _ d.out.2.1.map.lt) (c.block _ d.out.2.1.lt);have D:w.heap.size≠b:=aj;refine⟨⟨_,_,_,(H.go (fun e he e' h5=>h.inj he h5) (L,I,K,J,M) E.out.2.2.2 E.out.2.1 E.out.2.2.1 h3 (U.kept (Z.block _ U.lt rR)) ((d.out.1.andThen (jg c) (fun j s=>by cases s)).andThen z (fun j s=>by cases s;exact .inl (qj _)) |>.andThen Z (fun j s=>by cases s;exact .inr rfl)):Px _ _ _ _ _ _ _ _ _ _)⟩,?_⟩;refine qoq h7 ?_;rw[gu (z.block _ (qm9 d.out.2.1.map.lt c.size) rR) (z.block _ (qm9 d.out.2.1.lt c.size) aM),gu (c.block _ d.out.2.1.map.lt) (c.block _ d.out.2.1.lt)];exact d.out.2.2.2
end
end Go.Proofs.YtphbledmopchnaaGreatDoor.Sd
namespace Go.Proofs.YtphbledmopchnaaGreatDoor.Sd
open Go.RowKit Go.Lib Mm St Tryz
variable {rs:bZ}{w:Wq}
def qe0{j:Nat}(i:Nat)(l:bJ)(d b:Nat){base:Option V3}{c:Nat}(k:Int)(m:Nat)(p:Rg.gW rs)(o:Small rs)(r:rs.length<=1000000)(g:d<=b)(f:b<18446744073709551616)(s:nW w j i l k m base rs.length c)(R:jJ w j base c rs)(q:rs.length<=c)(a:c<=9223372036854775807):WB prog 168 #[aJ j i,.agg #[uZ d,uZ b]] w fun e t=>e=.returned (.tuple #[])/\∃n,GV t j i l k m (Rg.ins d b rs) (some n)/\Kept w t j (base.map (·.block))/\(some n=base.map (·.block)\/w.heap.size<=n):=by
 by_cases h:Rg.ku d rs<Rg.iW b rs;·exact Nh i d b k m l p o r g f s R q a h
 ·exact Ng i d b k m l p o r g f s R q a h
def Bn.cells{b a:Nat}{l:bJ}{e:Int}{f:Nat}{row:Option Nat}(h:Bn w b a l e f rs row):∃base c,w.cell? (ay b a)=some (iZ e)/\w.cell? (ay b (a+1))=some (uZ f)/\w.cell? (ay b (a+2))=some (.slice base rs.length c):=by obtain⟨base,c,d,_⟩:=h;exact⟨base,c,d.cell0,d.Fq,d.oF⟩
def Bn.drewN{w:Wq}{e d:Nat}{l:bJ}{a:Int}{b:Nat}{rs:bZ}{row:Option Nat}(h:Bn w e d l a b rs row)(q:Nat):Bn (w.drewN q) e d l a b rs row:=by obtain⟨base,c,f,g,i,j,k⟩:=h;exact⟨base,c,f,g,i,j,k.of_heap (fun _ _=>rfl)⟩
def Cq(c b:Nat)(a:Int)(w:Wq)(e:w.cell? (ay c b)=some (iZ a)):qH 169 #[aJ c b] w (iZ (max a 1)) fun d=>d=w:=by go_enter func169,ntmps169;go_wp2;go_ret;exact⟨St.l9 aj,rfl⟩
def Rh(f d:Nat)(F:bJ)(G:Int)(L:Nat)(rs:bZ)(row:Option Nat)(w:Wq)(E:Bn w f d F G L rs row)(t:2<=rs.length)(Z:rs.length<=1000001)(X:(rs.getD 0 (0,0)).2+1<18446744073709551616):qH 170 #[aJ f d] w (.tuple #[]) fun o=>∃g,GV o f d F G ((rs.getD 0 (0,0)).2+1) rs.tail (some g)/\Kept w o f row/\(some g=row\/w.heap.size<=g):=by
 obtain⟨base,c,r,U,V,M,N⟩:=E;have H:=N.qI (i:=0) aj;rcases N with⟨_,D,_⟩|⟨b,l,rfl,hb,hB,hl,ht,hone⟩;·simp[D]at t
 obtain⟨m,I⟩:∃m,rs.length=m+1:=⟨rs.length-1,aj⟩;obtain⟨g,C,_,_,W,_⟩:=H;simp at C;subst C;have A:Hid (rs.tail.length=m/\(l.take (2*(m+1))).drop 2=St.bQ rs.tail):=⟨rR,by rw[<-I,ht,St.JR]⟩;rw[I]at r U Z t;generalize rs.tail=rt at *
 generalize (rs.getD 0 (0,0)).2=x at *
 clear ht I;have Q:((x+1:Nat):Int)=(x:Int)+1:=aj;obtain⟨y,p⟩:=bT (w.setCell (ay f (d+1)) (uZ ((x:Int)+1)));have n:nW y f d (F.set (d+1) (uZ ((x+1:Nat):Int))) G (x+1) (some (ay b 0)) (m+1) c:=by rw[p,Q];exact⟨r.1.setCell (d+1) _,by rw[aA _ _ _ _ aj];exact r.2.1,by rw[cB _ _ _ _ r.2.2.1];rfl,by rw[aA _ _ _ _ aj];exact r.2.2.2⟩
 have B:aL y b 170 l:=by rw[p];exact hB.jO _ _ hb
 have K:=St.aF (GX m c aj aj V aj B hl hone);have k2:w.cell? (ay f (d+2))=some (dh b (m+1) c):=r.oF;have k1:w.cell? (ay f (d+1))=some (uZ L):=r.Fq;have f1:=r.1.frozen (d+1);have j2:y.cell? (ay f (d+2))=some (dh b (m+1) c):=n.oF;have q:Kept w y f row:=by rw[p];exact⟨rfl,rfl,rfl,aM,fun k _ j _=>qmd _ _ _ _ j⟩
 have J:y.heap.size=w.heap.size:=by rw[p];simp
 have u:=n.1.lt;have R:Hid (∀(e:Ending) (o:Wq),St.Out y o (some b) e m ((l.take (2*(m+1))).drop 2)->∃g s,e=.returned (dh g m s)/\o.cell? (ay f (d+2))=some (dh b (m+1) c)/\o.frozen? (ay f (d+2))=false/\(∃v,GV (o.setCell (ay f (d+2)) (dh g m s)) f d F G (x+1) rt (some v)/\Kept w (o.setCell (ay f (d+2)) (dh g m s)) f row/\(some v=row\/w.heap.size<=v))):=by
  rintro e o ⟨g,s,l',rfl,o1,o2,o3,o4,o5,o6,z,S⟩;have j:g≠f:=by
   rcases S with h|h;·simp at h;rw[h];exact hb
   ·omega
  have a:=n.of (w':=o) (z.block f u (fun e=>hb (by simpa using e.symm)));refine⟨g,s,rfl,a.oF,a.1.frozen (d+2),g,?_,?_,?_⟩
  ·refine⟨(F.set (d+1) (uZ ((x+1:Nat):Int))).set (d+2) (dh g m s),⟨some (ay g 0),s,?_,by rw[A.out.1];exact o3,o4,rfl,.inr ⟨g,l',rfl,j,o1.jO _ _ j,o2,by rw[A.out.1,o5,A.out.2],o6⟩⟩,?_⟩;·rw[A.out.1];exact⟨a.1.setCell (d+2) _,by rw[aA _ _ _ _ aj];exact a.2.1,by rw[aA _ _ _ _ aj];exact a.2.2.1,cB _ _ _ _ a.2.2.2⟩
   ·exact(kR.set _ _ _ _ _ aj aj).trans (kR.set _ _ _ _ _ aj aj)
  ·refine⟨z.os.trans q.os,z.tape.trans q.tape,z.output.trans q.output,?_,?_⟩;·have:=z.size;show w.heap.size<=(o.heap.modify _ _).size;simp;omega
   ·intro k Y j P;rw[qmd _ _ _ _ j,z.block k aj (fun e=>P (by rw[e,M];rfl)),q.block k Y j P]
  ·rcases S with h|h;·exact .inl (by rw[h,M];rfl)
   ·exact .inr aj
 clear n B q J u r hB hl hone A Q;go_enter func170,ntmps170;go_wp2_with fail;rw[<-p];clear p;go_wp2_with (go_at_call 225;refine K.out.mono ?_;intro e o O;obtain⟨g,s,rfl,q1,q2,T⟩:=R.out e o O;clear O R K);go_end0;exact⟨rfl,T⟩
def qd2(c e:Nat)(l:bJ)(d:Int)(row:Option Nat)(w:Wq)(x:Nat×bZ)(w':Wq):Prop:=
 ∃a,GV w' c e l d x.1 x.2 a/\Kept w w' c row/\(a=row\/∃b,a=some b/\w.heap.size<=b)
def Ri(k j:Nat)(l:bJ)(d e:Nat)(f:Int)(a:Nat)(rs:bZ)(row:Option Nat)(w:Wq)(p:Bn w k j l f a rs row)(g:Rg.Ok 18446744073709551616 1000000 a rs)(C:e<18446744073709551616):qH 127 #[aJ k j,uZ d,uZ e] w (.tuple #[]) fun B=>qd2 k j l f row w (Rg.add (max f 1).toNat a rs d e) B:=by
 have i:=p;obtain⟨base,c,K,S,T,U,V⟩:=p;have k1:w.cell? (ay k (j+1))=some (uZ a):=K.Fq;have t:((max d a:Nat):Int)=max (d:Int) (a:Int):=aj;by_cases o:e<max d a
 ·have HF:Hid (qd2 k j l f row w (Rg.add (max f 1).toNat a rs d e) w):=by
   unfold Hid Rg.add;rw[bM o];exact⟨row,⟨l,i,kR.refl _ _ _⟩,⟨rfl,rfl,rfl,qj _,fun _ _ _ _=>rfl⟩,.inl rfl⟩
  have P:(e:Int)<max (d:Int) (a:Int):=aj;clear K S T U V i t o;go_enter qqo,qqm;go_wp2_with fail;refine bodyPost_ret (results_none rfl _ _ _) rfl ?_;exact⟨rfl,HF.out⟩
 ·have E:=g.len;have X:=qe0 j l (max d a) e f a g.Ce (Vi g.Ce g.hi) E aj C K V S T;rw[<-U,t]at X;have P:¬((e:Int)<max (d:Int) (a:Int)):=aj;have J:Hid (Rg.add (max f 1).toNat a rs d e=if(max f 1).toNat<(Rg.ins (max d a) e rs).length then(((Rg.ins (max d a) e rs).getD 0 (0,0)).2+1,(Rg.ins (max d a) e rs).tail)else(a,Rg.ins (max d a) e rs)):=by unfold Hid Rg.add;rw[aV o]
  have z:=St.aF (Rg.mO rs (max d a) e aj g.Ce);have O:Hid (∀r∈Rg.ins (max d a) e rs,r.2<18446744073709551616):=fun r u=>by have:=Rg.wQ rs (max d a) e 18446744073709551615 aj (fun x hx=>bR (g.hi x hx)) r u;omega
  have h6:=Rg.pG rs (max d a) e;have G:=St.aF X;generalize Rg.ins (max d a) e rs=R at *
  generalize Rg.add (max f 1).toNat a rs d e=A at *
  clear X t K S T U V i o g C;by_cases h7:max f 1<(R.length:Int)
  ·have L:Hid (A=((R.getD 0 (0,0)).2+1,R.tail)):=by unfold Hid;rw[J.out,bM aj]
   have hx:(R.getD 0 (0,0)).2+1<18446744073709551616:=Rg.Pf z.out O.out aj;have HD:Hid (∀W y F,Bn W k j y f a R F->qH 170 #[aJ k j] W (.tuple #[]) fun B=>∃n,GV B k j y f ((R.getD 0 (0,0)).2+1) R.tail (some n)/\Kept W B k F/\(some n=F\/W.heap.size<=n)):=
    fun W y F hs=>Rh k j y f a R F W hs aj aj hx
   clear J z O;go_enter qqo,qqm;go_wp2_with (go_at_call 168;refine bH G.out ?_;rintro B ⟨n,b,D,u⟩);obtain⟨y,b,m⟩:=b;have q:=St.aF m;clear m;obtain⟨s,c',j0,j1,j2⟩:=b.cells;have N:=St.aF b;have H:=St.aF D;have I:=St.aF u;clear b D u G k1 P;go_quiet ((go_at_call 169;exact qn6 (Cq k j f _ (by simpa using j0))));have M:=St.aF (HD.out _ _ _ (Bn.drewN N.out nq));go_wp2_with (go_at_call 170;refine bH M.out ?_;rintro w2 ⟨b2,v,Y,Z⟩);go_end0;refine⟨rfl,some b2,by rw[L.out];obtain⟨l2,v,h0⟩:=v;exact⟨l2,v,q.out.trans h0⟩,?_,?_⟩
   ·refine(Kept.drewN H.out nq).trans Y ?_;rcases I.out with h|h;·exact .inl h
    ·exact .inr ⟨n,rfl,h⟩
   ·have gT:=H.out.size;rcases Z with h|h
    ·rw[h];rcases I.out with Q|Q;·exact .inl Q
     ·exact .inr ⟨n,rfl,Q⟩
    ·exact .inr ⟨b2,rfl,qlz gT h⟩
  ·have L:Hid (A=(a,R)):=by unfold Hid;rw[J.out,aV aj]
   clear J z O;go_enter qqo,qqm;go_wp2_with (go_at_call 168;refine bH G.out ?_;rintro B ⟨n,b,D,u⟩);obtain⟨y,b,m⟩:=b;have q:=St.aF m;clear m;obtain⟨s,c',j0,j1,j2⟩:=b.cells;have N:=St.aF b;have H:=St.aF D;have I:=St.aF u;clear b D u G k1 P;go_quiet ((go_at_call 169;exact qn6 (Cq k j f _ (by simpa using j0))));go_wp2;go_end0;refine⟨rfl,some n,by rw[L.out];exact⟨y,Bn.drewN N.out _,q.out⟩,Kept.drewN H.out _,?_⟩;rcases I.out with h|h;·exact .inl h
   ·exact .inr ⟨n,rfl,h⟩
end Go.Proofs.YtphbledmopchnaaGreatDoor.Sd
namespace Go.Proofs.YtphbledmopchnaaGreatDoor.Sd
open Go.RowKit Go.Lib Mm Tryz
variable {L:List FV}{S aB i j k n s t:Nat}{T:List Nat}{a b c v:WA}{aQ oZ:Own}{cs l:bJ}{f:Fr}{m m':Ot}{q:FV->Bool}{rs:bZ}{w w' y z:Wq}{x:NS}
def nG(oZ:Own)(t:Nat)(w:Wq)(S:Nat)(a:WA)(rs:bZ):Prop:=
 ∃base c,a=.slice base rs.length c/\rs.length<=c/\c<=9223372036854775807/\St.jJ w S base c rs/\∀b,base.map (·.block)=some b->oZ b=t
def nG.kp{i:WA}(h:nG oZ t w S i rs)(K:Kp T oZ aQ w w')(m:t∉T):nG aQ t w' S i rs:=by
 obtain⟨base,c,j,k,l,f,g⟩:=h;have a:∀b,base.map (·.block)=some b->b<w.heap.size:=fun b a=>(St.nT f b a).2;exact⟨base,c,j,k,l,f.of_heap (fun b d=>by
  have e:base.map (·.block)=some b:=by rw[d];rfl
  exact K.bY b (a b e) (by rw[g b e];exact m)),fun b e=>by rw[K.ext b (a b e),g b e]⟩
structure Jc (l:bJ) (o:Nat) (m:Ot) (vb va vc:WA):Prop where
 c0:l[o]?=some vb
 c1:l[o+1]?=some (.bool m.bG)
 nt:wV l (o+2) m.nt
 c6:l[o+6]?=some (uZ m.aT)
 c7:l[o+7]?=some (uZ m.dB)
 c8:l[o+8]?=some (iZ 2049)
 c9:l[o+9]?=some (uZ m.gK.fl)
 uh:l[o+10]?=some va
 w9:l[o+11]?=some (iZ 2049)
 xO:l[o+12]?=some (uZ m.aP.fl)
 c13:l[o+13]?=some vc
def Jc.dW{l l':bJ}{o o' n':Nat}{m:Ot}{b a c:WA}(h:Jc l o m b a c)(w:kR l l' o' n')(d:o+14<=o'\/o'+n'<=o):Jc l' o m b a c:=
 ⟨by rw[w.2 _ aj,h.c0],by rw[w.2 _ aj,h.c1],h.nt.dW w aj,by rw[w.2 _ aj,h.c6],by rw[w.2 _ aj,h.c7],by rw[w.2 _ aj,h.c8],by rw[w.2 _ aj,h.c9],by rw[w.2 _ aj,h.uh],by rw[w.2 _ aj,h.w9],by rw[w.2 _ aj,h.xO],by rw[w.2 _ aj,h.c13]⟩
def Bo(oZ:Own)(t:Nat)(w:Wq)(S:Nat)(l:bJ)(o:Nat)(m:Ot):Prop:=
 ∃b a c,Jc l o m b a c/\GT oZ t 5 1 w b m.aB.length (bX m.aB)/\nG oZ (t+1) w S a m.gK.rs/\nG oZ (t+2) w S c m.aP.rs
def Bo.kp{oZ aQ:Own}{t:Nat}{w w':Wq}{S:Nat}{l l':bJ}{o o' n':Nat}{m:Ot}{T:List Nat}(h:Bo oZ t w S l o m)(K:Kp T oZ aQ w w')(i:t∉T)(a:t+1∉T)(b:t+2∉T)(p:kR l l' o' n')(g:o+14<=o'\/o'+n'<=o):Bo aQ t w' S l' o m:=by obtain⟨k,j,n,c,d,e,f⟩:=h;exact⟨k,j,n,c.dW p g,d.kp K i,e.kp K a,f.kp K b⟩
def o_(S o n c:Nat)(a:Option V3)(w:Wq)(f:n<=2048)(d:w.cell? (ay S o)=some (.slice a n c)):qH 188 #[aJ S o] w (uZ n) fun b=>b=w:=by have e:n<18446744073709551616:=aj;go_enter func188,ntmps188;go_wp2;go_ret;exact⟨rfl,rfl⟩
def Fv(S o:Nat)(f g:Bool)(w:Wq)(b:w.cell? (ay S (o+1))=some (.bool f))(c:w.cell? (ay S (o+2))=some (.bool g)):qH 186 #[aJ S o] w (.bool (f||g)) fun a=>a=w:=by
 cases f;all_goals
  go_enter func186,ntmps186;go_wp2;go_ret;exact⟨dK aM,rfl⟩
def Zz(S o x:Nat)(w:Wq)(b:w.cell? (ay S (o+7))=some (uZ x)):qH 315 #[aJ S o] w (uZ x) fun a=>a=w:=by go_enter func315,ntmps315;go_wp2;go_ret;exact⟨rfl,rfl⟩
def Fw(S o:Nat)(w:Wq):qH 241 #[aJ S o] w (aJ S (o+2)) fun a=>a=w:=by go_enter func241,ntmps241;go_wp2;go_ret;exact⟨rfl,rfl⟩
def zJ(S o n c d:Nat)(a:Option V3)(f g:Bool)(w:Wq)(j:n<=2048)(b:w.cell? (ay S o)=some (.slice a n c))(k:w.cell? (ay S (o+1))=some (.bool f))(l:w.cell? (ay S (o+2))=some (.bool g)):qH 317 #[aJ S o,uZ d] w (.bool (f&& !g&&decide (d=n))) fun e=>e=w:=by
 have i:=aF (o_ S o n c a w j b);clear b;cases f;·go_enter func317,ntmps317;go_wp2;go_ret;exact⟨rfl,rfl⟩
 ·cases g;·go_enter func317,ntmps317;go_wp2_with (go_at_call 188;refine bH i.out ?_;rintro e rfl);go_ret;exact⟨dK (by rw[qpn];simp<;>omega),rfl⟩
  ·go_enter func317,ntmps317;go_wp2;go_ret;exact⟨rfl,rfl⟩
def lM(f:Fr)(d:WA)(w:Wq)(g:f.aC<=dH)(j:f.data.size<=1000000000):qH 318 #[eF f d] w (uZ (bL f:Int)) fun k=>bE w k:=by
 obtain⟨W,b⟩:=bT (w.alloc (.cells (fJ f d).toArray 65));have c:aL W w.heap.size 65 (fJ f d):=by rw[b];exact aL.new w 65 _
 have a:bE w W:=by rw[b];exact(qlw _ w).alloc (qj _) _
 have l:W.cell? (ay w.heap.size 2)=some (uZ f.aC):=c.cell 2;have m:W.cell? (ay w.heap.size 8)=some (.string f.data):=c.cell 8;have i:=aF a;have e:((bL f:Nat):Int)=(f.aC:Int)+(f.data.size:Int):=by unfold bL;omega
 unfold dH at g;have n:f.aC+f.data.size<18446744073709551616:=aj;have o:f.data.size<18446744073709551616:=aj;rw[e];clear e g j a c;unfold eF;unfold fJ at b;go_enter func318,ntmps318;go_wp2_with fail;rw[<-b];go_wp2;go_ret;exact⟨rfl,i.out⟩
def qit(a b c:Nat):∃m:Nat,(∀d t w,(nA d t #[uZ a,uZ b,uZ c]).run prog w=.ok (uZ m) w)/\m=min (min a b) c:=by
 refine⟨min (min a b) c,fun d t w=>?_,rfl⟩;simp only[nA,qpa,qpd,Builtin.min2];simp only[qnv,qow,qp8];congr 2
 split<;>(try split)<;>omega
def Vo(S o n c e dB d:Nat)(a:Option V3)(w:Wq)(j:n<=2048)(r:dB+d<18446744073709551616)(f:w.cell? (ay S o)=some (.slice a n c))(l:w.cell? (ay S (o+6))=some (uZ e))(p:w.cell? (ay S (o+7))=some (uZ dB)):qH 343 #[aJ S o,uZ d] w (uZ ((min (min n e) (dB+d):Nat):Int)) fun k=>∃q,k=w.drewN q:=by have g:=aF (fun q=>o_ S o n c a (w.drewN q) j f);obtain⟨m,i,b⟩:=qit n e (dB+d);rw[<-b];rw[qpy]at i;clear f b;go_enter func343,ntmps343;go_wp2;go_quiet ((go_at_call 188;exact qn6 (g.out _)));go_wp2;go_ret;exact⟨rfl,nq,rfl⟩
def Vp(o:Nat)(n:Nt)(r:Nat)(w:Wq)(b:aL w S TS l)(h:wV l o n):qH 312 #[aJ S o,uZ r] w (.bool (n.bD r)) fun f=>∃q,f=w.drewN q:=by
 have d:w.cell? (ay S o)=some (.bool n.bN):=by rw[b.cell];exact h.c0
 have g:w.cell? (ay S (o+2))=some (uZ n.gK):=by rw[b.cell];exact h.c2
 have i:w.cell? (ay S (o+3))=some (uZ n.aP):=by rw[b.cell];exact h.c3
 obtain⟨m,j,a⟩:=min2 n.gK n.aP;have c:Hid (n.bD r=(n.bN&&decide (r<m))):=by unfold Hid;rw[a];rfl
 generalize n.bD r=B at *
 clear h b a;cases e:n.bN;all_goals
  rw[e]at d c;go_enter func312,ntmps312;go_wp2;go_quiet (fail);go_wp2;go_ret;exact⟨dK (by rw[c.out];simp),nq,rfl⟩
def Cu(o:Nat)(n:Nt)(k c:Nat)(a:Option V3)(b:aL w S TS l)(g:k<=2048)(f:l[o]?=some (.slice a k c))(h:wV l (o+2) n):qH 258 #[aJ S o] w (.bool (n.bD k)) fun i=>∃q,i=w.drewN q:=by have d:=aF (fun q=>o_ S o k c a (w.drewN q) g (by rw[show(w.drewN q).cell? (ay S o)=w.cell? (ay S o)from rfl,b.cell];exact f));have e:=aF (fun q=>Vp (o+2) n k (w.drewN q) b h);clear h b;go_enter func258,ntmps258;go_wp2;go_quiet ((first|(go_at_call 188;exact qn6 (d.out _))|(go_at_call 312;exact Calls.quiet_of (e.out _))));go_wp2;go_ret;exact⟨rfl,nq,rfl⟩
def Kp.j_(h:Kp T (loc oZ w.heap.size) aQ w w'):Kp T oZ aQ w w':=
 ⟨h.os,h.tape,h.output,h.size,fun b a c=>h.bY b a (by rw[jo _ _ _ a];exact c),fun b a=>by rw[h.ext b a,jo _ _ _ a]⟩
def nG.loc{d:WA}(h:nG oZ t w S d rs):nG (loc oZ w.heap.size) t w S d rs:=by obtain⟨base,c,f,g,i,a,j⟩:=h;exact⟨base,c,f,g,i,a,fun b e=>by rw[jo _ _ _ (St.nT a b e).2,j b e]⟩
def GT.loc{e:Vg}(h:GT oZ t e k w v n l):GT (loc oZ w.heap.size) t e k w v n l:=by
 rcases h with h|⟨g,cap,b,c,d,a,f⟩;·exact .inl h
 ·exact .inr ⟨g,cap,b,c,by rw[jo _ _ _ a.lt,d],a,f⟩
def Vq{f:WA}{a:Nat}{d:Int}{e:Nat}(o:aL w S TS l)(g:l[a]?=some (iZ d))(h:l[a+1]?=some (uZ e))(i:l[a+2]?=some f)(p:nG oZ t w S f rs):∃row,Bn w S a l d e rs row/\∀b,row=some b->oZ b=t:=by obtain⟨base,c,rfl,j,k,m,n⟩:=p;exact⟨base.map (·.block),⟨base,c,⟨o,g,h,i⟩,j,k,rfl,m⟩,n⟩
def Rl(s t:Nat)(oZ:Own)(S c:Nat)(l:bJ)(e:Int)(w:Wq)(x:Nat×bZ)(w':Wq):Prop:=
 ∃d a b,Kp [s,t] oZ d w w'/\aL w' S TS a/\kR l a c 3/\a[c]?=some (iZ e)/\a[c+1]?=some (uZ x.1)/\a[c+2]?=some b/\nG d t w' S b x.2
def PG(s t:Nat)(f o j:Nat)(h:Int)(i:Nat){u:WA}(w:Wq)(D:aL w S TS l)(G:oZ S=s)(A:l[f]?=some (iZ h))(B:l[f+1]?=some (uZ i))(C:l[f+2]?=some u)(F:nG oZ t w S u rs)(n:St.Rg.Ok 18446744073709551616 1000000 i rs)(m:j<18446744073709551616):qH 127 #[aJ S f,uZ o,uZ j] w (.tuple #[]) fun p=>Rl s t oZ S f l h w (St.Rg.add (max h 1).toNat i rs o j) p:=by
 obtain⟨row,E,d⟩:=Vq D A B C F;refine bH (Ri S f l o j h i rs row w E n m) ?_;rintro p ⟨Q,⟨O,k,H⟩,g,K⟩;obtain⟨base,c,⟨v,x,y,z⟩,L,M,N,r⟩:=k;refine⟨rfl,fun b=>if w.heap.size<=b/\b<p.heap.size then t else oZ b,O,_,⟨g.os,g.tape,g.output,g.size,fun b a q=>g.block b a (fun e=>q (by rw[e,G];simp)) (fun e=>q (by rw[d b e.symm];simp)),fun b a=>aV aj⟩,v,H,x,y,z,base,c,rfl,L,M,r,fun b a=>?_⟩;have J:=(St.nT r b a).2;rw[<-N]at a;simp only[];rcases K with e|⟨P,e,I⟩
 ·split;·rfl
  ·exact d b (by rw[<-e,a])
 ·rw[e]at a;simp at a;rw[bM aj]
def ZE(t:Nat)(a v:Nat)(d:Int)(b:Nat){e:WA}(w:Wq)(j:aL w S TS l)(f:l[a]?=some (iZ d))(g:l[a+1]?=some (uZ b))(h:l[a+2]?=some e)(k:nG oZ t w S e rs)(m:St.Rg.gW rs)(n:rs.length<=1000000):qH 128 #[aJ S a,uZ v] w (.bool (NS.has ⟨b,rs⟩ v)) fun o=>bE w o:=by obtain⟨base,c,rfl,p,q,i,r⟩:=k;exact Ve a v d b l m n ⟨j,f,g,h⟩ i
structure zK (x:NS):Prop where
 fl:x.fl=0
 so:St.Rg.gW x.rs
 hi:∀r∈x.rs,r.2<=2048
def xg:∀(b:bZ) (a B:Nat),St.Rg.gW b->(∀r∈b,a<=r.1)->(∀r∈b,r.2<=B)->b.length<=B+1-a
 |[],_,_,_,_,_=>aM
 |r::t,a,B,h,ha,hb=>by have d:=h.1;have e:=ha r aM;have f:=hb r aM;have:=xg t (a+1) B h.2.2 (fun x c=>bR (h.2.1 x c)) (fun x c=>hb x (by simp[c]));simp only[qmp];omega
def zK.len(h:zK x):x.rs.length<=2049:=by have:=xg x.rs 0 2048 h.so (fun _ _=>qm2 _) h.hi;omega
def zK.ok(h:zK x):St.Rg.Ok 18446744073709551616 1000000 x.fl x.rs:=
 ⟨h.so,fun r a=>bR (h.hi r a),bR h.len,by rw[h.fl];omega⟩
def zK.add{x:NS}(h:zK x)(a b:Nat)(d:a<=b)(c:b<=2048):zK (x.add 2049 a b)/\x.add 2049 a b=⟨0,St.Rg.ins a b x.rs⟩:=by
 have f:=St.Rg.mO x.rs a b d h.so;have g:∀r∈St.Rg.ins a b x.rs,r.2<=2048:=St.Rg.wQ x.rs a b 2048 c h.hi;have i:=xg _ 0 2048 f (fun _ _=>qm2 _) g;have e:x.add 2049 a b=⟨0,St.Rg.ins a b x.rs⟩:=by unfold NS.add St.Rg.add;rw[h.fl,aV aj,show max a 0=a by omega,aV aj]
 rw[e];exact⟨⟨rfl,f,g⟩,rfl⟩
def vZ(s t:Nat)(k:Nat)(f:Fr)(C:WA)(x:NS){U:WA}(w:Wq)(D:aL w S TS l)(Q:oZ S=s)(L:l[k]?=some (iZ 2049))(M:l[k+1]?=some (uZ x.fl))(N:l[k+2]?=some U)(P:nG oZ t w S U x.rs)(u:zK x)(B:f.aC<=dH)(R:f.data.size<=1000000000)(H:f.bG=true\/0<bL f):qH 345 #[aJ S k,eF f C] w (.tuple #[]) fun o=>Rl s t oZ S k l 2049 w ((yj x f).fl,(yj x f).rs) o:=by
 obtain⟨W,i⟩:=bT (w.alloc (.cells (fJ f C).toArray 65));have G:aL W w.heap.size 65 (fJ f C):=by rw[i];exact aL.new w 65 _
 have p:bE w W:=by rw[i];exact(qlw _ w).alloc (qj _) _
 have gT:W.heap.size=w.heap.size+1:=by rw[i];simp
 have z:=aF (lM f C W B R);obtain⟨V,X,Y,Z,x4,x5,x6,x7,x8,x9,xf⟩:=bC G;have c:Hid (∀(y:Wq) (A:Nat),bE W y->A=(if f.bG then bL f else bL f-1)->qH 127 #[aJ S k,uZ f.aC,uZ A] y (.tuple #[]) fun o=>Rl s t oZ S k l 2049 w ((yj x f).fl,(yj x f).rs) o):=fun y A hy r=>by
  have g:bE w y:=p.trans (hy.mono aj);have q:bL f<18446744073709551616:=by unfold bL;unfold dH at B;omega
  refine(PG s t k f.aC A 2049 x.fl y (D.of_heap (g.block _ D.lt)) Q L M N (P.kp (Kp.below (T:=[]) g) aM) u.ok (by rw[r];split<;>omega)).mono ?_;rintro e o ⟨rfl,aQ,l',I,n,O⟩;refine⟨rfl,aQ,l',I,⟨n.os.trans g.os,n.tape.trans g.tape,n.output.trans g.output,qlz g.size n.size,fun b a hn=>(n.bY b (qm9 a g.size) hn).trans (g.block b a),fun b a=>n.ext b (qm9 a g.size)⟩,?_⟩;rw[r]at O;exact O
 have q:bL f<18446744073709551616:=by unfold bL;unfold dH at B;omega
 clear D P L M N u B R Q;generalize bL f=E at *
 have K:=aF G;clear G p;unfold eF;unfold fJ at i;rcases(qq2 f.bG).symm with hf|hf
 ·have h0:0<E:=by
   rcases H with h|h;·rw[hf]at h;cases h
   ·exact h
  rw[hf]at c;have j:((E-1:Nat):Int)=(E:Int)-1:=aj;have m:=aF hf;have h3:0<=(E:Int)-1:=aj;have h4:(E:Int)-1<18446744073709551616:=aj;clear hf;go_enter func345,ntmps345;go_wp2_with fail;rw[<-i];refine bH z.out ?_;rintro y d;have a:=K.out.of_heap (d.block _ aj);obtain⟨y0,y1,y2,y3,y4,J,y6,y7,y8,y9,yf⟩:=bC a;rw[m.out]at J;have v:=aF (c.out y (E-1) d rfl);rw[j]at v;clear d a V X Y Z x4 x5 x6 x7 x8 x9 xf c j i z;go_wp2_with fail;refine bH v.out ?_;rintro o F;go_wp2;go_end0;exact⟨rfl,F⟩
 ·rw[hf]at c;have m:=aF hf;clear hf;go_enter func345,ntmps345;go_wp2_with fail;rw[<-i];refine bH z.out ?_;rintro y d;have a:=K.out.of_heap (d.block _ aj);obtain⟨y0,y1,y2,y3,y4,J,y6,y7,y8,y9,yf⟩:=bC a;rw[m.out]at J;have v:=aF (c.out y E d rfl);clear d a V X Y Z x4 x5 x6 x7 x8 x9 xf c i z;go_wp2_with fail;refine bH v.out ?_;rintro o F;go_wp2;go_end0;exact⟨rfl,F⟩
def jU(s t:Nat)(oZ:Own)(S o:Nat)(l:bJ)(w:Wq)(m':Ot)(w':Wq):Prop:=
 ∃b a,Kp [s,t,t+1,t+2] oZ b w w'/\aL w' S TS a/\kR l a o 14/\Bo b t w' S a o m'
def jU.refl{s t:Nat}{oZ:Own}{S o:Nat}{l:bJ}{w w':Wq}{m:Ot}(b:aL w S TS l)(c:Bo oZ t w S l o m)(a:bE w w'):jU s t oZ S o l w m w':=
 ⟨oZ,l,Kp.below a,b.of_heap (a.block _ b.lt),kR.refl _ _ _,c.kp (Kp.below (T:=[]) a) aM aM aM (kR.refl l (o+14) 0) aj⟩
def jU.after{o:Nat}{W:Wq}(d:bE w W)(h:jU s t oZ S o l W m' w'):jU s t oZ S o l w m' w':=by obtain⟨a,e,b,c⟩:=h;exact⟨a,e,(Kp.below d).trans b,c⟩
def Vr{o:Nat}(p:s<t)(n:Bo oZ t w S l o m)(h:Rl s (t+1) oZ S (o+8) l 2049 w (x.fl,x.rs) w'):jU s t oZ S o l w {m with gK:=x} w':=by
 obtain⟨e,u,d,c,f,a,g,i,j,k⟩:=h;obtain⟨v,A,y,b,q,z,r⟩:=n;refine⟨e,u,c.mono aM,f,a.mono aj aj,v,d,y,⟨?_,?_,b.nt.dW a aj,?_,?_,g,i,j,?_,?_,?_⟩,q.kp c rR,k,r.kp c rR⟩;·rw[a.2 _ aj];exact b.c0
 ·rw[a.2 _ aj];exact b.c1
 ·rw[a.2 _ aj];exact b.c6
 ·rw[a.2 _ aj];exact b.c7
 ·rw[a.2 _ aj];exact b.w9
 ·rw[a.2 _ aj];exact b.xO
 ·rw[a.2 _ aj];exact b.c13
def Vs{o:Nat}(p:s<t)(n:Bo oZ t w S l o m)(h:Rl s (t+2) oZ S (o+11) l 2049 w (x.fl,x.rs) w'):jU s t oZ S o l w {m with aP:=x} w':=by
 obtain⟨e,u,d,c,f,a,g,i,j,k⟩:=h;obtain⟨y,v,A,b,q,r,z⟩:=n;refine⟨e,u,c.mono aM,f,a.mono aj aj,y,v,d,⟨?_,?_,b.nt.dW a aj,?_,?_,?_,?_,?_,g,i,j⟩,q.kp c rR,r.kp c rR,k⟩;·rw[a.2 _ aj];exact b.c0
 ·rw[a.2 _ aj];exact b.c1
 ·rw[a.2 _ aj];exact b.c6
 ·rw[a.2 _ aj];exact b.c7
 ·rw[a.2 _ aj];exact b.c8
 ·rw[a.2 _ aj];exact b.c9
 ·rw[a.2 _ aj];exact b.uh
structure xk (f:Fr):Prop where
 o:f.aC<=2048
 e:bL f<=2048
 ne:f.bG=true\/0<bL f
def xk.d(h:xk f):f.data.size<=1000000000:=by have:=h.e;unfold bL at this;omega
def xk.om(h:xk f):f.aC<=dH:=by have:=h.o;unfold dH;omega
def BH(s t:Nat)(o:Nat)(m:Ot)(f:Fr)(g:WA)(w:Wq)(k:aL w S TS l)(v:oZ S=s)(p:s<t)(u:Bo oZ t w S l o m)(e:zK m.gK)(i:xk f):qH 319 #[aJ S o,eF f g] w (.tuple #[]) fun b=>jU s t oZ S o l w (m.aw f) b:=by
 obtain⟨W,d⟩:=bT (w.alloc (.cells (fJ f g).toArray 65));have x:aL W w.heap.size 65 (fJ f g):=by rw[d];exact aL.new w 65 _
 have a:bE w W:=by rw[d];exact(qlw _ w).alloc (qj _) _
 have r:=u.kp (Kp.below (T:=[]) a) aM aM aM (kR.refl l (o+14) 0) aj;have c:=k.of_heap (a.block _ k.lt);have z:Hid (∀q,qH 345 #[(aJ S (o+8)),eF f g] (W.drewN q) (.tuple #[]) fun b=>jU s t oZ S o l w (m.aw f) b):=fun q=>by have n:=r.kp (Kp.below (w':=W.drewN q) (T:=[]) ⟨rfl,rfl,rfl,qj _,fun _ _=>rfl⟩) aM aM aM (kR.refl l (o+14) 0) aj;obtain⟨E,D,F,j,B,y,C⟩:=n;refine bH (vZ s (t+1) (o+8) f g m.gK (W.drewN q) c v j.c8 j.c9 j.uh y e i.om i.d i.ne) ?_;rintro b h;exact⟨rfl,jU.after (W:=W.drewN q) ⟨a.os,a.tape,a.output,a.size,a.block⟩ (Vr p ⟨E,D,F,j,B,y,C⟩ h)⟩
 obtain⟨G,H,I,J,K,L,M,N,O,P,Q⟩:=bC x;clear x a r c u k v e i;unfold eF at *
 unfold fJ at d;go_enter func319,ntmps319;go_wp2_with fail;rw[<-d];clear d;go_region_with (go_at_call 345;refine bH (z.out _) ?_;rintro b A);all_goals go_wp2
 all_goals go_end0
 all_goals exact⟨rfl,A⟩
def ZF(s t:Nat)(o:Nat)(m:Ot)(f:Fr)(c:WA)(k:aL w S TS l)(O:oZ S=s)(x:s<t)(Y:0<s)(N:Bo oZ t w S l o m)(v:zK m.gK)(E:zK m.aP)(u:xk f):qH 391 #[aJ S o,eF f c] w (.tuple #[]) fun d=>jU s t oZ S o l w (m.cm f) d:=by
 obtain⟨W,p⟩:=bT (w.alloc (.cells (fJ f c).toArray 65));have D:aL W w.heap.size 65 (fJ f c):=by rw[p];exact aL.new w 65 _
 have a:bE w W:=by rw[p];exact(qlw _ w).alloc (qj _) _
 obtain⟨P,b⟩:=bT (loc oZ w.heap.size);have e:P S=s:=by rw[b,jo _ _ _ k.lt,O]
 have K:Bo P t w S l o m:=by obtain⟨I,H,J,j,F,G,y⟩:=N;rw[b];exact⟨I,H,J,j,F.loc,G.loc,y.loc⟩
 have L:=K.kp (Kp.below (T:=[]) a) aM aM aM (kR.refl l (o+14) 0) aj;have n:=k.of_heap (a.block _ k.lt);have z:Hid (∀q,qH 345 #[(aJ S (o+11)),eF f c] (W.drewN q) (.tuple #[]) fun d=>aL d w.heap.size 65 (fJ f c)/\qH 319 #[aJ S o,eF f c] d (.tuple #[]) fun g=>jU s t oZ S o l w (m.cm f) g):=fun q=>by have B:=L.kp (Kp.below (w':=W.drewN q) (T:=[]) ⟨rfl,rfl,rfl,qj _,fun _ _=>rfl⟩) aM aM aM (kR.refl l (o+14) 0) aj;obtain⟨I,H,J,j,F,G,y⟩:=B;refine bH (vZ s (t+2) (o+11) f c m.aP (W.drewN q) n e j.w9 j.xO j.c13 y E u.om u.d u.ne) ?_;rintro d h;have X:=jU.after (W:=W.drewN q) ⟨a.os,a.tape,a.output,a.size,a.block⟩ (Vs x ⟨I,H,J,j,F,G,y⟩ h);obtain⟨eG,l1,h0,i,h2,_⟩:=h;refine⟨rfl,bU D ⟨i.os,i.tape,i.output,i.size,i.bY,i.ext⟩ (by rw[b,iY _ _ _ (qj _)];simp;omega),?_⟩;obtain⟨gy,l2,A,R,U,V⟩:=X;refine bH (BH s t o _ f c d R (by rw[A.ext _ k.lt,e]) x V v u) ?_;rintro g C;obtain⟨nP,Z,p1,p2,p3,p4⟩:=C;rw[b]at A;exact⟨rfl,nP,Z,A.j_.trans p1,p2,U.trans p3,p4⟩
 obtain⟨x0,x1,x2,x3,x4,x5,x6,x7,x8,x9,xf⟩:=bC D;clear D a L n N k O v u K b e;unfold eF at *
 unfold fJ at p z;go_enter func391,ntmps391;go_wp2_with fail;rw[<-p];clear p;go_region_with (go_at_call 345;refine bH (z.out _) ?_;rintro d ⟨r,M⟩;obtain⟨y0,y1,y2,y3,y4,y5,y6,y7,y8,y9,yf⟩:=bC r;have Q:=aF M;clear M r x0 x1 x2 x3 x4 x5 x6 x7 x8 x9 xf z);all_goals go_wp2_with fail
 all_goals(refine bH Q.out ?_;rintro g C)
 all_goals go_wp2
 all_goals go_end0
 all_goals exact⟨rfl,C⟩
def Cv{a b c d:Int}(h:a=c)(e:b=d):fA (.tuple #[uZ a,uZ b])=.returned (.tuple #[uZ c,uZ d]):=by rw[h,e]
def Rm(a:Nat)(rs:bZ)(e i:Nat)(b:i<rs.length):mP a (rs.drop i) e=if a<(rs.getD i (0,0)).1 then(a,min (rs.getD i (0,0)).1 e)else if e<=(rs.getD i (0,0)).2 then(e,e)else mP ((rs.getD i (0,0)).2+1) (rs.drop (i+1)) e:=by
 rw[qnq b];have:rs.getD i (0,0)=rs[i]:=by simp[b]
 rw[this];rfl
def Vt(t:Nat)(o d:Nat)(j:Nat){I:WA}(w:Wq)(x:aL w S TS l)(B:l[o+1]?=some (uZ j))(C:l[o+2]?=some I)(N:nG oZ t w S I rs)(_hn:rs.length<=1000000)(E:∀r∈rs,r.1<18446744073709551615/\r.2<18446744073709551615):qH 344 #[aJ S o,uZ d] w (.tuple #[(uZ ((NS.hole ⟨j,rs⟩ d).1:Int)),(uZ ((NS.hole ⟨j,rs⟩ d).2:Int))]) fun J=>bE w J:=by
 obtain⟨base,c,rfl,v,h3,D,M⟩:=N;have Y:w.cell? (ay S (o+1))=some (uZ j):=by rw[x.cell];exact B
 have Z:w.cell? (ay S (o+2))=some (.slice base rs.length c):=by rw[x.cell];exact C
 obtain⟨X,y⟩:=bT (NS.hole ⟨j,rs⟩ d);rw[<-y];have A:Hid (mP j (rs.drop 0) d=X):=by unfold Hid;rw[y];rfl
 have z:=aF D;have L:=aF E;have K:=aF (fun f i=>Rm f rs d i);clear D E x B C M y;go_enter func344,ntmps344;go_wp2_with fail;go_loopw [4,17] (fun s4 s wr=>∃(f i:Nat),i<=rs.length/\s4=(uZ f)/\s=(iZ i)/\Hid (mP f (rs.drop i) d=X)/\Hid (bE w wr)) (fun _ s _=>rs.length-(fB s).toNat);case atStart=>exact⟨j,0,qm2 _,rfl,rfl,A,qlw _ w⟩
 case round=>
  clear A Y Z;obtain⟨f,i,Q,rfl,rfl,p,g⟩:=hrel;by_cases k:i<rs.length
  ·have F:(i:Int)<(rs.length:Int):=aj;obtain⟨b,rfl,T,P,j2,j1⟩:=(z.out.of_heap (w':=wr) (fun b O=>g.out.block b (by
    have:=(St.nT z.out b (by rw[O];rfl)).2;exact this))).qI k
   have a:=K.out f i k;rw[p.out]at a;have G:rs.getD i (0,0)∈rs:=by rw[qly,qm3 k];exact qmz _
   obtain⟨U,V⟩:=L.out _ G;generalize (rs.getD i (0,0)).1=H at *
   generalize (rs.getD i (0,0)).2=q at *
   have m:=aF a;clear a p G;by_cases u:f<H
   ·obtain⟨mn,R,n⟩:=min2 H d;have e:Hid (X=(f,mn)):=by unfold Hid;rw[m.out,bM u,n]
    clear m n;go_wp2_with fail;go_region
    all_goals go_wp2
    all_goals go_ret2
    all_goals exact⟨Cv (by rw[e.out]) (by rw[e.out]),(g.out.alloc g.out.size _).drew⟩
   ·by_cases v:d<=q
    ·have e:Hid (X=(d,d)):=by unfold Hid;rw[m.out,aV u,bM v]
     clear m;go_wp2;go_ret2;exact⟨Cv (by rw[e.out]) (by rw[e.out]),g.out.alloc g.out.size _⟩
    ·have e:Hid (mP (q+1) (rs.drop (i+1)) d=X):=by unfold Hid;rw[m.out,aV u,aV v]
     clear m;have W:q+1<18446744073709551616:=aj;go_wp2_with fail;go_roundw;case rel=>exact⟨q+1,i+1,aj,by go_num,by go_num,e,g.out.alloc g.out.size _⟩
     case measure=>simp[fB];omega
  ·obtain rfl:i=rs.length:=aj;have e:Hid (X=(f,d)):=by unfold Hid;rw[<-p.out,qqj];rfl
   clear p;go_wp2;go_ret2;exact⟨Cv (by rw[e.out]) (by rw[e.out]),g.out⟩
def Bo.open{o:Nat}(h:Bo oZ t w S l o m)(d:aL w S TS l):∃a c e f,Jc l o m (.slice a m.aB.length c) e f/\m.aB.length<=c/\GT oZ t 5 1 w (.slice a m.aB.length c) m.aB.length (bX m.aB)/\nG oZ (t+1) w S e m.gK.rs/\nG oZ (t+2) w S f m.aP.rs/\w.cell? (ay S o)=some (.slice a m.aB.length c)/\w.cell? (ay S (o+1))=some (.bool m.bG)/\w.cell? (ay S (o+2))=some (.bool m.nt.bN)/\w.cell? (ay S (o+6))=some (uZ m.aT)/\w.cell? (ay S (o+7))=some (uZ m.dB):=by obtain⟨n,e,f,b,g,j,k⟩:=h;obtain⟨a,c,rfl,i,_⟩:=g.shape;exact⟨a,c,e,f,b,i,g,j,k,by rw[d.cell];exact b.c0,by rw[d.cell];exact b.c1,by rw[d.cell];exact b.nt.c0,by rw[d.cell];exact b.c6,by rw[d.cell];exact b.c7⟩
def Cw{o:Nat}(e:Nat)(p:aL w S TS l)(C:Bo oZ t w S l o m)(D:m.aB.length<=2048)(G:m.dB+e<18446744073709551616)(d:zK m.gK):qH 314 #[aJ S o,uZ e] w (.tuple #[(uZ ((m.dP e).1:Int)),(uZ ((m.dP e).2:Int))]) fun f=>bE w f:=by
 obtain⟨a,c,O,P,u,N,L,H,M,n,x,y,z,A⟩:=C.open p;have k:=aF (Vo S o m.aB.length c m.aT m.dB e a w D G n z A);obtain⟨E,s⟩:=bT (min (min m.aB.length m.aT) (m.dB+e));have I:=aF (fun q=>zJ S o m.aB.length c E a m.bG m.nt.bN (w.drewN q) D n x y);have v:=aF (fun q J=>Vt (t+1) (o+8) J m.gK.fl (w.drewN q) p u.c9 u.uh (H.kp (Kp.below (w':=w.drewN q) (T:=[]) ⟨rfl,rfl,rfl,qj _,fun _ _=>rfl⟩) aM) (bR d.len) (fun r F=>hwZ (d.hi r F) (d.so.le r F)));have j:Hid (m.dP e=m.gK.hole (if(m.bG&& !m.nt.bN&&decide (E=m.aB.length))then E+1 else E)):=by unfold Hid;rw[s];rfl
 have K:E<=2048:=aj;rw[<-s]at k;generalize m.dP e=X at *
 generalize (m.bG&& !m.nt.bN&&decide (E=m.aB.length))=B at *
 clear C p u L H M n x y z A d G s;cases B with
 |false=>go_enter func314,ntmps314;go_wp2_with fail;refine bH k.out ?_;rintro f ⟨q,rfl⟩;go_wp2_with fail;refine bH (I.out q) ?_;rintro f rfl;go_wp2_with fail;refine bH (v.out q E) ?_;rintro f i;have b:=aF i;clear i;go_wp2;go_ret2;exact⟨Cv (by rw[j.out];rfl) (by rw[j.out];rfl),b.out.os,b.out.tape,b.out.output,b.out.size,b.out.block⟩
 |true=>go_enter func314,ntmps314;go_wp2_with fail;refine bH k.out ?_;rintro f ⟨q,rfl⟩;go_wp2_with fail;refine bH (I.out q) ?_;rintro f rfl;go_wp2_with fail;have g:=aF (v.out q (E+1));rw[show((E+1:Nat):Int)=(E:Int)+1 by omega]at g;refine bH g.out ?_;rintro f i;have b:=aF i;clear i;go_wp2;go_ret2;exact⟨Cv (by rw[j.out];rfl) (by rw[j.out];rfl),b.out.os,b.out.tape,b.out.output,b.out.size,b.out.block⟩
def Vu(t:Nat)(o:Nat)(m:Ot)(a:Nat)(w:Wq)(c:aL w S TS l)(d:Bo oZ t w S l o m)(k:m.aB.length<=2048)(n:m.dB+a<18446744073709551616)(b:zK m.gK):qH 264 #[aJ S o,uZ a] w (.bool (m.bD a)) fun f=>bE w f:=by
 have i:=aF (Cw a c d k n b);have j:Hid (m.bD a=decide ((m.dP a).1<(m.dP a).2)):=rfl;generalize m.bD a=B at *
 generalize (m.dP a).1=q at *
 generalize (m.dP a).2=p at *
 clear c d b;go_enter func264,ntmps264;go_wp2_with fail;refine bH i.out ?_;rintro f e;have g:=aF e;clear e;go_wp2;go_ret;exact⟨dK (by rw[j.out,decide_eq_decide]<;>omega),g.out⟩
def BI{o:Nat}(p:aL w S TS l)(g:oZ S=s)(u:s<t)(q:Bo oZ t w S l o m)(j:Nat)(v:WA)(r:o<=j)(e:j<o+14)(h:∀c b d,Jc l o m c b d->Jc (l.set j v) o m' c b d)(i:m'.aB=m.aB)(k:m'.gK=m.gK)(n:m'.aP=m.aP):jU s t oZ S o l w m' (w.setCell (ay S j) v):=by
 have a:=f_.one p j v o 14 r e;obtain⟨c,b,d,x,y,z,A⟩:=q;have f:=a.kp g (T:=[s]) aM;refine⟨oZ,_,a.kp g aM,a.bY,a.dW,c,b,d,h _ _ _ x,?_,?_,?_⟩;·rw[i];exact y.kp f rR
 ·rw[k];exact z.kp f rR
 ·rw[n];exact A.kp f rR
def wV.set{l:bJ}{o j:Nat}{v:WA}{n:Nt}(h:wV l o n)(a:j<o\/o+4<=j):wV (l.set j v) o n:=
 ⟨(aA _ _ _ _ aj).trans h.c0,(aA _ _ _ _ aj).trans h.c1,(aA _ _ _ _ aj).trans h.c2,(aA _ _ _ _ aj).trans h.c3⟩
def ZG{o:Nat}{d:WA}(h:Jc l o m c a d)(b:Bool):Jc (l.set (o+1) (.bool b)) o {m with bG:=b} c a d:=
 ⟨(aA _ _ _ _ aj).trans h.c0,cB _ _ _ _ h.c1,h.nt.set aj,(aA _ _ _ _ aj).trans h.c6,(aA _ _ _ _ aj).trans h.c7,(aA _ _ _ _ aj).trans h.c8,(aA _ _ _ _ aj).trans h.c9,(aA _ _ _ _ aj).trans h.uh,(aA _ _ _ _ aj).trans h.w9,(aA _ _ _ _ aj).trans h.xO,(aA _ _ _ _ aj).trans h.c13⟩
def Ro{o:Nat}(h:Jc l o m b a c)(x:Nat):Jc (l.set (o+6) (uZ x)) o {m with aT:=x} b a c:=
 ⟨(aA _ _ _ _ aj).trans h.c0,(aA _ _ _ _ aj).trans h.c1,h.nt.set aj,cB _ _ _ _ h.c6,(aA _ _ _ _ aj).trans h.c7,(aA _ _ _ _ aj).trans h.c8,(aA _ _ _ _ aj).trans h.c9,(aA _ _ _ _ aj).trans h.uh,(aA _ _ _ _ aj).trans h.w9,(aA _ _ _ _ aj).trans h.xO,(aA _ _ _ _ aj).trans h.c13⟩
def JY{o:Nat}(h:Jc l o m b a c)(x:Nat):Jc (l.set (o+7) (uZ x)) o {m with dB:=x} b a c:=
 ⟨(aA _ _ _ _ aj).trans h.c0,(aA _ _ _ _ aj).trans h.c1,h.nt.set aj,(aA _ _ _ _ aj).trans h.c6,cB _ _ _ _ h.c7,(aA _ _ _ _ aj).trans h.c8,(aA _ _ _ _ aj).trans h.c9,(aA _ _ _ _ aj).trans h.uh,(aA _ _ _ _ aj).trans h.w9,(aA _ _ _ _ aj).trans h.xO,(aA _ _ _ _ aj).trans h.c13⟩
def Fx{o:Nat}{d:WA}(h:Jc l o m d a b)(v:WA)(c:List UInt8):Jc (l.set o v) o {m with aB:=c} v a b:=
 ⟨cB _ _ _ _ h.c0,(aA _ _ _ _ aj).trans h.c1,h.nt.set aj,(aA _ _ _ _ aj).trans h.c6,(aA _ _ _ _ aj).trans h.c7,(aA _ _ _ _ aj).trans h.c8,(aA _ _ _ _ aj).trans h.c9,(aA _ _ _ _ aj).trans h.uh,(aA _ _ _ _ aj).trans h.w9,(aA _ _ _ _ aj).trans h.xO,(aA _ _ _ _ aj).trans h.c13⟩
def lH(e:Nat):WA:=if e=0 then .nilIface else .iface 57 (iZ e)
def Rp(s t:Nat)(o:Nat)(m:Ot)(b:aL w S TS l)(v:oZ S=s)(f:s<t)(e:Bo oZ t w S l o m):qH 148 #[aJ S o] w (lH m.finish.2) fun g=>jU s t oZ S o l w m.finish.1 g:=by
 obtain⟨a,c,D,E,x,C,y,z,A,n,p,q,r,u⟩:=e.open b;have i:=aF (Fv S o m.bG m.nt.bN w p q);have f1:=b.frozen (o+1);have j:=aF (BI b v f e (o+1) (.bool true) aj aj (m':={m with bG:=true}) (fun _ _ _ h=>ZG h true) rfl rfl rfl);have k:=aF (jU.refl (s:=s) b e (qlw _ w));have d:Hid (m.finish=if(m.bG||m.nt.bN)then(m,4)else({m with bG:=true},0)):=rfl;generalize m.finish=X at *
 generalize (m.bG||m.nt.bN)=B at *
 clear e b x y z A n r u;cases B with
 |true=>go_enter func148,ntmps148;go_wp2_with fail;refine bH i.out ?_;rintro g rfl;go_wp2;go_ret;exact⟨by rw[d.out];rfl,by rw[d.out];exact k.out⟩
 |false=>go_enter func148,ntmps148;go_wp2_with fail;refine bH i.out ?_;rintro g rfl;go_wp2;go_ret;exact⟨by rw[d.out];rfl,by rw[d.out];exact j.out⟩
def Vv(s t:Nat)(o x:Nat)(m:Ot)(w:Wq)(d:aL w S TS l)(p:oZ S=s)(f:s<t)(e:Bo oZ t w S l o m):qH 237 #[aJ S o,uZ x] w (.tuple #[]) fun z=>jU s t oZ S o l w {m with aT:=max m.aT x} z:=by obtain⟨a,c,D,E,q,B,r,u,v,i,j,k,A,n⟩:=e.open d;have f6:=d.frozen (o+6);obtain⟨y,C,b⟩:=max2 m.aT x;rw[<-b];have g:=aF (BI d p f e (o+6) (uZ y) aj aj (m':={m with aT:=y}) (fun _ _ _ h=>Ro h y) rfl rfl rfl);clear e d q r u v i j k n b;go_enter func237,ntmps237;go_wp2;go_end0;exact⟨rfl,g.out⟩
def xq(oZ:Own)(t a b:Nat):Own:=fun k=>if a<=k/\k<b then t else oZ k
def sO(oZ:Own)(t a b k:Nat)(h:k<a):xq oZ t a b k=oZ k:=aV aj
def xu(oZ:Own)(t a b k:Nat)(h:a<=k)(c:k<b):xq oZ t a b k=t:=bM ⟨h,c⟩
def fO{t e:Vg}{z:WA}(E:GK t e z k aB){g:Nat}(h:GT oZ g e k w v n l)(a:V3)(m mc:Nat)(i:bJ)(G:i.length=m*k)(L:∀v∈i,v.oneCell'=true)(q:∀j u,i[j]?=some u->w.cell? (a.add j)=some u)(T:n+m<=1000000000000):∃K x A,(∀o,(fE #[t,t] o #[v,.slice (some a) m mc]).run prog w=.ok K x)/\GT A g e k x K (n+m) (l++i)/\Kp [g] oZ A w x:=by
 have C:(n+m)*aB<=140737488355328:=qlz (Nat.mul_le_mul T E.hb) gP;have O:=h.len;have V:(n+m)*k=n*k+m*k:=qpf _ _ _;have grow:∀base c (d:bJ),d=l->c<n+m->(base=none/\d=[]\/∃b:V3,base=some b/\d.length=n*k/\∀j v,d[j]?=some v->w.cell? (b.add j)=some v)->(∀v∈d,v.oneCell'=true)->∃K x A,(∀o,(fE #[t,t] o #[.slice base n c,.slice (some a) m mc]).run prog w=.ok K x)/\GT A g e k x K (n+m) (l++i)/\Kp [g] oZ A w x:=by
  intro base c d D J H I;have r:=fun o=>jv (P:=prog) (w:=w) t t o e _ k aB E.ht E.ht E.hi (base:=base) (n:=n) (c:=c) (m:=m) (mc:=mc) (cs:=d) H a (vs:=i) G q L J C aj;have M:=grownCap_ge w (n+m) c e;have p:=grownCap_le_maxLen w (n+m) c e (by unfold maxLen;omega);unfold maxLen at p;have N:d.length=n*k:=by rw[D,O]
  refine⟨_,_,xq oZ g w.heap.size (w.heap.size+1),r,.inr ⟨w.heap.size,_,_,rfl,xu _ _ _ _ _ (qj _) aj,aL.new w e _,?_,M,p,by rw[qm0];omega,?_,?_⟩,?_⟩
  ·rw[qm0,qm0,E.hz,N,G];have:(grownCap w (n+m) c e-(n+m))*k+(n+m)*k=grownCap w (n+m) c e*k:=by rw[<-qpf];congr 1;omega
   omega
  ·rw[qnz (by rw[qm0];omega),qmo (by rw[qm0];omega),D]
  ·intro u f;rcases qm7.1 f with f|f
   ·rcases qm7.1 f with f|f;·exact I u f
    ·exact L u f
   ·exact E.h1 _ u f
  ·have B:bE w (w.drew.alloc (.cells (d++i++(eB z.cells (grownCap w (n+m) c e-(n+m))).toList).toArray e)):=(qlw _ w).drew.alloc (qj _) _;exact⟨B.os,B.tape,B.output,B.size,fun b s _=>B.block b s,fun b s=>sO _ _ _ _ _ s⟩
 rcases h with⟨rfl,rfl,rfl⟩|⟨b,cap,d,rfl,ho,hB,h2,h3,h4,h5,h6,h7⟩
 ·by_cases U:m=0
  ·subst U;obtain rfl:i=[]:=by simpa using G
   exact⟨_,_,oZ,fun o=>Bh E w (some a) mc o,.inl ⟨rfl,rfl,rfl⟩,Kp.refl _ _ _⟩
  ·exact grow none 0 [] rfl aj (.inl ⟨rfl,rfl⟩) (fun v W=>by simp at W)
 ·by_cases J:n+m<=cap
  ·have R:(n+m)*k<=cap*k:=qpo _ J;have r:=fun o=>gG (P:=prog) (w:=w) t t o e _ k aB E.ht E.ht E.hi (n:=n) (c:=cap) (m:=m) (mc:=mc) hB a (vs:=i) G q L J aj;have Q:=iI d i (n*k) aj;refine⟨_,_,oZ,r,.inr ⟨b,cap,_,rfl,ho,hB.put _,?_,J,h4,by rw[qm0];omega,?_,dM h7 L⟩,?_⟩;·rw[bV _ _ _ aj];exact h2
   ·rw[V,<-G,Q,h6]
   ·have F:=dZ w b (aU d (n*k) i);exact⟨F.os,F.tape,F.output,F.size,fun j y S=>F.block j y (fun e=>by simp at e;rw[e,ho]at S;simp at S),fun _ _=>rfl⟩
  ·exact grow (some (ay b 0)) cap l rfl aj (.inr ⟨_,rfl,h5,fun j u y=>by
    rw[qmb,qm5,hB.cell];rw[<-h6,qm6]at y;split at y;·exact y
    ·cases y⟩) (fun u f=>h7 u (by rw[<-h6]at f;exact qn2 f))
def Jc.al{o:Nat}(h:Jc l o m b a c)(x:List UInt8):Jc l o {m with all:=x} b a c:=⟨h.c0,h.c1,h.nt,h.c6,h.c7,h.c8,h.c9,h.uh,h.w9,h.xO,h.c13⟩
def yC:GK 60 5 (.int .u8 0) 1 1:=⟨u29,Jp,fun n=>by rw[u_];omega,zw,aj⟩
def ZH(s t:Nat)(o:Nat)(m:Ot){d:List UInt8}(a:V3)(c:Nat)(n:aL w S TS l)(P:oZ S=s)(h0:s<t)(q:Bo oZ t w S l o m)(hl:m.aB.length<=2048)(g:dG w (some a) d)(_hbl:d.length<=1000000000):qH 147 #[aJ S o,.slice (some a) d.length c] w (lH (m.send d).2) fun E=>jU s t oZ S o l w (m.send d).1 E:=by
 obtain⟨U,V,va,vc,y,Q,A,C,D,W,Y,Z,G,H⟩:=q.open n;have F:=aF (Fv S o m.bG m.nt.bN w Y Z);have L:=aF (jU.refl (s:=s) n q (qlw _ w));have k:Hid (m.send d=if(m.bG||m.nt.bN)then(m,4)else if 2048<m.aB.length+d.length then(m,3)else({m with aB:=m.aB++d,all:=m.all++d},0)):=rfl;have r1: -9223372036854775808<=2048-(m.aB.length:Int):=aj;have r2:2048-(m.aB.length:Int)<9223372036854775808:=aj;generalize m.send d=X at *
 generalize (m.bG||m.nt.bN)=B at *
 cases B with
 |true=>clear q n y A C D W G H g;go_enter func147,ntmps147;go_wp2_with fail;refine bH F.out ?_;rintro E rfl;go_wp2;go_ret;exact⟨by rw[k.out];rfl,by rw[k.out];exact L.out⟩
 |false=>
  by_cases e:2048<m.aB.length+d.length;·have J:2048-(m.aB.length:Int)<(d.length:Int):=aj;rw[bM e]at k;clear q n y A C D G H g e;go_enter func147,ntmps147;go_wp2_with fail;refine bH F.out ?_;rintro E rfl;go_wp2;go_ret;exact⟨by rw[k.out];rfl,by rw[k.out];exact L.out⟩
  ·have J:¬(2048-(m.aB.length:Int)<(d.length:Int)):=aj;rw[aV e]at k;obtain⟨v',R,O,v,z,p⟩:=fO yC A a d.length c (bX d) (by rw[dN];omega) (iJ d) (fun j u K=>by
    have r:j<d.length:=by have:=(qo8.1 K).1;rwa[dN]at this
    obtain⟨b,h2,ha,Q⟩:=g j r;cases ha;rw[qmb,Q];simp[bX,r]at K;rw[<-K]) aj
   obtain⟨M,N,rfl,_,_⟩:=z.shape;rw[<-jV]at z;have x:oZ S∉[t]:=by rw[P];simp;omega
   have f:=bU n p x;have hQ:Hid (jU s t oZ S o l w {m with aB:=m.aB++d,all:=m.all++d} (R.setCell (ay S o) (.slice M (m.aB.length+d.length) N))):=by have I:=f_.one f o (.slice M (m.aB.length+d.length) N) o 14 aj aj;have i:=I.kp (s:=s) (oZ:=O) (by rw[p.ext _ n.lt,P]) (T:=[s]) aM;refine⟨O,_,(p.mono aM).trans (i.mono aM),I.bY,I.dW,_,va,vc,(Fx y _ _).al _,?_,(C.kp p aM).kp i rR,(D.kp p aM).kp i rR⟩;have:=z.kp i rR;show GT _ _ _ _ _ _ (m.aB++d).length _;rw[qm0];exact this
   have e0:R.cell? (ay S o)=some (.slice U m.aB.length V):=by rw[f.cell];exact y.c0
   have f0:=f.frozen o;clear q n y A C D G H g e z p f x;go_enter func147,ntmps147;go_wp2_with fail;refine bH F.out ?_;rintro E rfl;go_wp2_with (at_builtin;refine qmm _ rfl _ _ _ _ rfl _ _ rfl rfl _ _ (v _) ?_);go_wp2;go_ret;exact⟨by rw[k.out];rfl,by rw[k.out];exact hQ.out⟩
abbrev lQ(B:Nat)(v:WA):Prop:=Go.Proofs.YtphbledmopchnaaGreatDoor.Own B v
def Rd(k:Nat)(w:Wq)(v:WA)(n:Nat)(l:bJ):Prop:=
 v=nZ/\n=0/\l=[]\/∃g cap,v=(dh g n cap)/\g<w.heap.size/\l.length=n*k/\(∀j u,l[j]?=some u->w.cell? (ay g j)=some u)/\∀u∈l,u.oneCell'=true
def Rd.below(h:Rd k w v n l)(b:bE w w'):Rd k w' v n l:=by
 rcases h with h|⟨g,cap,c,a,d,e,f⟩;·exact .inl h
 ·exact .inr ⟨g,cap,c,qm9 a b.size,d,fun j u i=>(b.cell (p:=(ay g j)) a).trans (e j u i),f⟩
def GT.rd{e:Vg}(h:GT oZ t e k w v n l):Rd k w v n l:=by
 rcases h with h|⟨g,cap,o,f,p,b,q,r,s,i,c,m⟩;·exact .inl h
 ·refine .inr ⟨g,cap,f,b.lt,i,fun j u a=>?_,fun u d=>m u (by rw[<-c]at d;exact qn2 d)⟩;rw[b.cell];rw[<-c,qm6]at a;split at a;·exact a
  ·cases a
def nG.rd{d:WA}(h:nG oZ t w S d rs):Rd 2 w d rs.length (St.bQ rs):=by
 obtain⟨base,c,rfl,f,g,e,i⟩:=h;rcases e with⟨rfl,rfl,rfl⟩|⟨b,l,rfl,_,hB,hl,ht,h1⟩;·exact .inl ⟨rfl,rfl,rfl⟩
 ·refine .inr ⟨b,c,rfl,hB.lt,by rw[St.m_];omega,fun j u a=>?_,St.mQ rs⟩;rw[hB.cell];rw[<-ht,qm6]at a;split at a;·exact a
  ·cases a
def Fy(n:Nat):(eB (nI false).cells n).toList.length=n:=by simp[eB,kg]
def Rq(n:Nat):∀v∈(eB (nI false).cells n).toList,v.oneCell'=true:=by intro v a;simp[eB,kg]at a;obtain⟨i,_,rfl⟩:=a;have:i % 1=0:=aj;rw[this];rfl
def zM:GK 156 4 (.bool false) 1 1:=⟨bO,bO,fun n=>by rw[Fy];omega,Rq,aj⟩
def vC{t e:Vg}{z:WA}(E:GK t e z k aB)(w:Wq)(g n cap:Nat)(l:bJ)(L:g<w.heap.size)(H:l.length=n*k)(K:∀j u,l[j]?=some u->w.cell? (ay g j)=some u)(J:∀u∈l,u.oneCell'=true)(Q:n<=1000000):∃o q i,(∀D,(fE #[t,t] D #[dh w.heap.size 0 0,dh g n cap]).run prog (w.alloc (.cells #[] e))=.ok (.slice o n q) i)/\dY e k i (.slice o n q) n l/\lQ w.heap.size (.slice o n q)/\bE w i:=by
 obtain⟨a,b⟩:=bT (w.alloc (.cells #[] e));rw[<-b];have f:aL a w.heap.size e []:=by rw[b];exact aL.new w e []
 have d:bE w a:=by rw[b];exact(qlw _ w).alloc (qj _) _
 have M:a.heap.size=w.heap.size+1:=by rw[b];simp
 have h:∀j u,l[j]?=some u->a.cell? ((ay g 0).add j)=some u:=fun j u C=>by rw[qmb,qm5,d.cell (p:=(ay g j)) L];exact K j u C
 have G:lQ w.heap.size (dh w.heap.size 0 0):=fun k y=>by simp[eT]at y;omega
 by_cases I:n=0
 ·subst I;obtain rfl:l=[]:=by simpa using H
  have B:=fun D=>gG (P:=prog) (w:=a) t t D e _ k aB E.ht E.ht E.hi (n:=0) (c:=0) (m:=0) (mc:=cap) f (ay g 0) (vs:=[]) aM (fun j v C=>by simp at C) (fun v x=>by cases x) (qj _) aM;refine⟨_,_,_,B,.inr ⟨w.heap.size,0,_,rfl,f.put _,by rw[bV _ _ _ aM];simp,qj _,aj,aM,aM,fun v x=>by simp[aU]at x⟩,fun k y=>by simp[eT]at y;omega,?_⟩;exact d.trans (⟨(dZ a w.heap.size _).os,(dZ a w.heap.size _).tape,(dZ a w.heap.size _).output,(dZ a w.heap.size _).size,fun k y=>gY a _ k _ aj⟩:Below w.heap.size a _)
 ·have s:dY e k a (dh w.heap.size 0 0) 0 []:=.inr ⟨w.heap.size,0,[],rfl,f,aM,qj _,aj,aM,aM,fun v x=>by cases x⟩;obtain⟨O,i,N,A,F⟩:=je E s (ay g 0) n cap l H aj J h aj;have r:dY e k i O n l:=by simpa using A
  obtain⟨o,q,rfl,_⟩:=r.shape;exact⟨o,q,i,N,r,F.own G aj,d.trans (F.below G aj)⟩
def Nl(w:Wq):(binOp BinOp.eql 63 nZ nZ).run prog w=.ok (.bool true) w:=bO
def JZ(w:Wq)(a:V3)(n c:Nat):(binOp BinOp.eql 63 (.slice (some a) n c) nZ).run prog w=.ok (.bool false) w:=bO
def Nn(v:WA)(n:Nat)(l:bJ)(w:Wq)(h:Rd 2 w v n l)(i:n<=1000000):WB prog 228 #[v] w fun e b=>∃a c,e=.returned (.slice a n c)/\dY 170 2 b (.slice a n c) n l/\lQ w.heap.size (.slice a n c)/\bE w b:=by
 rcases h with⟨rfl,rfl,rfl⟩|⟨g,cap,rfl,h2,h3,h4,h5⟩;·have j:=Nl w;go_enter func228,ntmps228;go_wp2;go_ret;exact⟨none,0,rfl,.inl ⟨rfl,rfl,rfl⟩,fun k f=>by simp[eT]at f,qlw _ _⟩
 ·have j:=JZ w (ay g 0) n cap;obtain⟨p,q,o,m,hF⟩:=vC M5 w g n cap l h2 h3 h4 h5 i;have d:=aF hF;clear hF h2 h3 h4 h5;go_enter func228,ntmps228;go_wp2_with (at_builtin;refine qmm _ rfl _ _ _ _ rfl _ _ rfl rfl _ _ (m _) ?_);go_ret;exact⟨_,_,rfl,d.out⟩
def Cx(w:Wq):(binOp BinOp.eql 54 nZ nZ).run prog w=.ok (.bool true) w:=bO
def Aw(w:Wq)(a:V3)(n c:Nat):(binOp BinOp.eql 54 (.slice (some a) n c) nZ).run prog w=.ok (.bool false) w:=bO
def Np(v:WA)(n:Nat)(l:bJ)(w:Wq)(h:Rd 10 w v n l)(i:n<=1000000):WB prog 272 #[v] w fun e b=>∃a c,e=.returned (.slice a n c)/\dY 65 10 b (.slice a n c) n l/\lQ w.heap.size (.slice a n c)/\bE w b:=by
 rcases h with⟨rfl,rfl,rfl⟩|⟨g,cap,rfl,h2,h3,h4,h5⟩;·have j:=Cx w;go_enter func272,ntmps272;go_wp2;go_ret;exact⟨none,0,rfl,.inl ⟨rfl,rfl,rfl⟩,fun k f=>by simp[eT]at f,qlw _ _⟩
 ·have j:=Aw w (ay g 0) n cap;obtain⟨p,q,o,m,hF⟩:=vC qR w g n cap l h2 h3 h4 h5 i;have d:=aF hF;clear hF h2 h3 h4 h5;go_enter func272,ntmps272;go_wp2_with (at_builtin;refine qmm _ rfl _ _ _ _ rfl _ _ rfl rfl _ _ (m _) ?_);go_ret;exact⟨_,_,rfl,d.out⟩
def Nq(w:Wq):(binOp BinOp.eql 60 nZ nZ).run prog w=.ok (.bool true) w:=bO
def J2(w:Wq)(a:V3)(n c:Nat):(binOp BinOp.eql 60 (.slice (some a) n c) nZ).run prog w=.ok (.bool false) w:=bO
def Nr(v:WA)(n:Nat)(l:bJ)(w:Wq)(h:Rd 1 w v n l)(i:n<=1000000):WB prog 348 #[v] w fun e b=>∃a c,e=.returned (.slice a n c)/\dY 5 1 b (.slice a n c) n l/\lQ w.heap.size (.slice a n c)/\bE w b:=by
 rcases h with⟨rfl,rfl,rfl⟩|⟨g,cap,rfl,h2,h3,h4,h5⟩;·have j:=Nq w;go_enter func348,ntmps348;go_wp2;go_ret;exact⟨none,0,rfl,.inl ⟨rfl,rfl,rfl⟩,fun k f=>by simp[eT]at f,qlw _ _⟩
 ·have j:=J2 w (ay g 0) n cap;obtain⟨p,q,o,m,hF⟩:=vC yC w g n cap l h2 h3 h4 h5 i;have d:=aF hF;clear hF h2 h3 h4 h5;go_enter func348,ntmps348;go_wp2_with (at_builtin;refine qmm _ rfl _ _ _ _ rfl _ _ rfl rfl _ _ (m _) ?_);go_ret;exact⟨_,_,rfl,d.out⟩
def Ns(w:Wq):(binOp BinOp.eql 156 nZ nZ).run prog w=.ok (.bool true) w:=bO
def J3(w:Wq)(a:V3)(n c:Nat):(binOp BinOp.eql 156 (.slice (some a) n c) nZ).run prog w=.ok (.bool false) w:=bO
def Nu(v:WA)(n:Nat)(l:bJ)(w:Wq)(h:Rd 1 w v n l)(i:n<=1000000):WB prog 349 #[v] w fun e b=>∃a c,e=.returned (.slice a n c)/\dY 4 1 b (.slice a n c) n l/\lQ w.heap.size (.slice a n c)/\bE w b:=by
 rcases h with⟨rfl,rfl,rfl⟩|⟨g,cap,rfl,h2,h3,h4,h5⟩;·have j:=Ns w;go_enter func349,ntmps349;go_wp2;go_ret;exact⟨none,0,rfl,.inl ⟨rfl,rfl,rfl⟩,fun k f=>by simp[eT]at f,qlw _ _⟩
 ·have j:=J3 w (ay g 0) n cap;obtain⟨p,q,o,m,hF⟩:=vC zM w g n cap l h2 h3 h4 h5 i;have d:=aF hF;clear hF h2 h3 h4 h5;go_enter func349,ntmps349;go_wp2_with (at_builtin;refine qmm _ rfl _ _ _ _ rfl _ _ rfl rfl _ _ (m _) ?_);go_ret;exact⟨_,_,rfl,d.out⟩
def Ws(S k:Nat)(a:Int):WA:=
 if a=4 then .iface 282 (aJ S (4+27*k))else if a=3 then .iface 335 (aJ S (6+27*k))else if a=6 then .iface 336 (aJ S (18+27*k))else .iface 336 (aJ S 221)
def Kq(S o:Nat)(w:Wq):qH 242 #[aJ S o] w (aJ S o) fun a=>a=w:=by go_enter func242,ntmps242;go_wp2;go_ret;exact⟨rfl,rfl⟩
def zW(S k:Nat)(n:k<8)(f:Fr)(j:f.aG=(k:Int))(w:Wq):qH 198 #[aJ S 0,eF f nZ] w (Ws S k f.aD) fun m=>bE w m:=by
 unfold eF;rw[j];clear j;generalize f.aD=c;generalize f.aC=f2;generalize f.aN=f3;generalize f.aT=f4;generalize f.bG=f5;generalize f.id=f6;generalize f.aH=f7;generalize f.data=f8;obtain⟨W,a⟩:=bT (w.alloc (.cells #[iZ c,iZ k,uZ f2,uZ f3,uZ f4,.bool f5,uZ f6,uZ f7,.string f8,nZ] 65));have b:bE w W:=by rw[a];exact(qlw _ w).alloc (qj _) _
 have d:Hid (∀q,bE w (W.drewN q)):=fun q=>⟨b.os,b.tape,b.output,b.size,b.block⟩;have o:W.cell? (ay w.heap.size 1)=some (iZ k):=by rw[a];exact(aL.new w 65 [iZ c,iZ k,uZ f2,uZ f3,uZ f4,.bool f5,uZ f6,uZ f7,.string f8,nZ]).cell 1
 have l:(k:Int)<8:=aj;by_cases g:c=4;·subst g;go_enter func198,ntmps198;go_wp2_with fail;rw[<-a];clear a;go_quiet (fail);go_wp2;go_ret;refine⟨?_,d.out _⟩;show fA (.iface 282 (aJ S (4+k*27)))=.returned (Ws S k 4);unfold Ws;rw[bM rfl,qni]
 ·by_cases e:c=3;·subst e;go_enter func198,ntmps198;go_wp2_with fail;rw[<-a];clear a;go_quiet ((go_at_call 241;exact qn6 (Fw _ _ _)));go_wp2;go_ret;refine⟨?_,d.out _⟩;show fA (.iface 335 (aJ S (4+k*27+2)))=.returned (Ws S k 3);unfold Ws;rw[aV gP,bM rfl,qni,show 4+27*k+2=6+27*k by omega]
  ·by_cases i:c=6;·subst i;go_enter func198,ntmps198;go_wp2_with fail;rw[<-a];clear a;go_quiet ((go_at_call 242;exact qn6 (Kq _ _ _)));go_wp2;go_ret;refine⟨?_,d.out _⟩;show fA (.iface 336 (aJ S (4+k*27+14)))=.returned (Ws S k 6);unfold Ws;rw[aV gP,aV gP,bM rfl,qni,show 4+27*k+14=18+27*k by omega]
   ·go_enter func198,ntmps198;go_wp2;go_ret;refine⟨?_,by rw[<-a];exact b⟩;show fA (.iface 336 (aJ S 221))=.returned (Ws S k c);unfold Ws;rw[aV g,aV e,aV i]
def bk3(S k:Nat):bJ:=[.iface 282 (aJ S (4+k*27)),.iface 335 (aJ S (4+k*27+2)),.iface 336 (aJ S (4+k*27+14))]
def bks(S:Nat):Nat->bJ
 |0=>[.iface 336 (aJ S 221)]
 |k+1=>bks S k++bk3 S k
def BM(S:Nat):∀k,(bks S k).length=1+3*k
 |0=>rfl
 |k+1=>by show(bks S k++bk3 S k).length=_;rw[qm0,BM S k];simp[bk3];omega
def Sk(n:Nat):(eB (mR).cells n).toList.length=n:=by simp[eB,kg]
def Sl(n:Nat):∀v∈(eB (mR).cells n).toList,v.oneCell'=true:=by intro v a;simp[eB,kg]at a;obtain⟨i,_,rfl⟩:=a;have:i % 1=0:=aj;rw[this];rfl
def qj2:GK 291 294 .nilIface 1 16:=⟨bO,bO,fun n=>by rw[Sk];omega,Sl,aj⟩
def Wt(S:Nat)(w:Wq):WB prog 196 #[aJ S 0] w fun e A=>∃g,e=.returned g/\dY 294 1 A g 25 (bks S 8)/\YtphbledmopchnaaGreatDoor.Own w.heap.size g/\bE w A:=by
 obtain⟨C,a⟩:=bT (w.alloc (.cells #[.iface 336 (aJ S 221)] 294));have H:Hid (dY 294 1 C (dh w.heap.size 1 1) (1+3*0) (bks S 0)/\YtphbledmopchnaaGreatDoor.Own w.heap.size (dh w.heap.size 1 1)/\bE w C):=by rw[a];exact⟨.inr ⟨w.heap.size,1,_,rfl,aL.new w 294 [.iface 336 (aJ S 221)],rfl,qj _,aj,rfl,rfl,fun v n=>by rw[qmi.1 n];rfl⟩,fun k E=>by simp[eT]at E;omega,(qlw _ w).alloc (qj _) _⟩
 go_enter func196,ntmps196;go_wp2;rw[<-a];clear a;go_loopw [3,11] (fun G f wr=>∃k:Nat,k<=8/\f=(iZ k)/\Hid (dY 294 1 wr G (1+3*k) (bks S k)/\YtphbledmopchnaaGreatDoor.Own w.heap.size G/\bE w wr)) (fun _ f _=>8-(fB f).toNat);case atStart=>exact⟨0,aj,rfl,H.out⟩
 case round=>
  obtain⟨k,E,rfl,p⟩:=hrel;by_cases L:k<8
  ·have F:(k:Int)<8:=aj;obtain⟨r,s,c⟩:=p.out;obtain⟨m,i⟩:=bT (wr.drew.alloc (.cells (bk3 S k).toArray 294));have d:bE wr m:=by rw[i];exact(qlw _ wr).drew.alloc (qj _) _
   have B:aL m wr.heap.size 294 (bk3 S k):=by rw[i];exact aL.new wr.drew 294 _
   have t:m.heap.size=wr.heap.size+1:=by rw[i,qmx];rfl
   obtain⟨g,D,u,l,q⟩:=je qj2 (r.of_heap (w':=m) (fun b c=>d.block b (r.lt b c))) (ay wr.heap.size 0) 3 3 (bk3 S k) rfl aj (fun v n=>by simp[bk3]at n;rcases n with rfl|rfl|rfl<;>rfl) (fun j y M=>by
    have e:(ay wr.heap.size 0).add j=(ay wr.heap.size j):=by rw[qmb,qm5]
    rw[e,B.cell,M]) aj
   have I:Hid (dY 294 1 D g (1+3*(k+1)) (bks S (k+1))/\YtphbledmopchnaaGreatDoor.Own w.heap.size g/\bE w D):=
    ⟨by rw[show 1+3*(k+1)=1+3*k+3 by omega];exact l,q.own s (bR c.size),c.trans ((d.mono c.size).trans (q.below s (bR c.size)))⟩
   have x:∀args w,(callFunc 241 args).run prog w=.ok (.enter 241 args) w:=enters_of func241 bO rfl;have z:∀args w,(callFunc 242 args).run prog w=.ok (.enter 242 args) w:=enters_of func242 bO rfl;unfold bk3 at i;subst i;clear r s c d B t l q p;go_wp2;generalize 4+k*27=o at *
   have K:=fun y=>Fw S o y;have J:=fun y=>Kq S (o+14) y;go_region_held3 (fun _=>True) (trivial) ((first|(refine gD _ (by rfl) _ _ _ _ (by rfl) _ _ (by rfl) (by rfl) _ _ (u _) ?_)|(refine xC _ (by rfl) 241 _ _ (by rfl) (aJ S o) (by rfl) x (K _) ?_;rintro e y ⟨rfl,rfl⟩;refine⟨_,rfl,?_⟩)|(refine xC _ (by rfl) 242 _ _ (by rfl) (aJ S (o+14)) (by rfl) z (J _) ?_;rintro e y ⟨rfl,rfl⟩;refine⟨_,rfl,?_⟩)))
   all_goals(
    go_wp2;go_roundw;case rel=>exact⟨k+1,aj,aM,I.out⟩
    case measure=>simp[fB];omega)
  ·obtain rfl:k=8:=aj;go_wp2;go_ret;exact⟨_,rfl,p.out⟩
def vJ:∀L:List FV,(rz L).length=L.length*10
 |[]=>rfl
 |x::t=>by show(fJ x.1 (qx x)++rz t).length=_;rw[qm0,vJ t];simp;omega
def yO:∀L K:List FV,rz (L++K)=rz L++rz K
 |[],_=>rfl
 |x::t,K=>by show fJ x.1 (qx x)++rz (t++K)=(fJ x.1 (qx x)++rz t)++rz K;rw[yO t K,qmh]
def uQ:∀(a:bJ) (j:Nat) (l:bJ),j+a.length<=l.length->mU j a l=aU l j a
 |[],j,l,h=>by show l=aU l j [];simp[aU]
 |v::a,j,l,h=>by
  show mU (j+1) a (l.set j v)=aU l j (v::a);simp only[qmp]at h;rw[uQ a (j+1) (l.set j v) (by rw[qn3];omega)];refine qon fun i=>?_;rw[ko _ _ _ (by rw[qn3];omega),ko _ _ _ rR];by_cases b:i<j;·rw[bM aj,bM b,qn1 aj]
  ·by_cases d:i=j;·subst d;rw[bM aj,aV b,bM aM,qo0 aj];simp
   ·rw[aV aj,aV b];by_cases c:i<j+1+a.length;·rw[bM c,bM rR,show i-j=(i-(j+1))+1 by omega];simp
    ·rw[aV c,aV rR,qn1 aj]
structure Ia (w:Wq) (b n:Nat) (L:List FV) (q:FV->Bool) (len:Nat) (i j:Nat) (cs:bJ) (y:Wq):Prop where
 bY:aL y b 65 cs
 len:cs.length=len
 done:cs.take (i*10)=rz ((L.take j).filter q)
 aI:(cs.take (n*10)).drop (j*10)=rz (L.drop j)
 one:∀v∈cs,v.oneCell'=true
 num:((L.take j).filter q).length=i
 gr:w.grownBy y (some b)
def Ia.cell{w:Wq}{b n:Nat}{L:List FV}{q:FV->Bool}{len i j:Nat}{cs:bJ}{y:Wq}(h:Ia w b n L q len i j cs y)(c:j<L.length)(k:Nat)(d:k<10):y.cell? (ay b (j*10+k))=(fJ (L.getD j iP).1 (qx (L.getD j iP)))[k]?:=by
 have e:L.drop j=L.getD j iP::L.drop (j+1):=by rw[qly,qm3 c];exact qnq c
 have a:((cs.take (n*10)).drop (j*10))[k]?=(fJ (L.getD j iP).1 (qx (L.getD j iP)))[k]?:=by rw[h.aI,e];show(fJ (L.getD j iP).1 (qx (L.getD j iP))++rz (L.drop (j+1)))[k]?=_;rw[qmw (by simpa using d)]
 rw[h.bY.cell];rw[qmu,qm6]at a;split at a;·exact a
 ·rename_i f;have:(fJ (L.getD j iP).1 (qx (L.getD j iP)))[k]?.isSome=true:=by rw[qm3 (by simpa using d)];rfl
  rw[<-a]at this;cases this
def Ia.skip{b:Nat}{len:Nat}(h:Ia w b n L q len i j cs y)(a:j<L.length)(g:q (L.getD j iP)=false)(d:aL z b 65 cs)(f:w.grownBy z (some b)):Ia w b n L q len i (j+1) cs z:=by
 have e:L.take (j+1)=L.take j++[L.getD j iP]:=by rw[qly,qm3 a,qnh,qm3 a];rfl
 have c:(L.take (j+1)).filter q=(L.take j).filter q:=by rw[e,qqf,List.filter_cons_of_neg (by rw[g];simp),mE,qmv]
 refine⟨d,h.len,by rw[c];exact h.done,?_,h.one,by rw[c];exact h.num,f⟩;have:=congrArg (List.drop 10) h.aI;rw[mI,qnq a]at this;rw[show(j+1)*10=j*10+10 by omega,this];rfl
def Ia.fG{b:Nat}{len:Nat}(h:Ia w b n L q len i j cs y)(s:n*10<=len)(p:j<n)(o:i<j)(d:j<L.length)(r:q (L.getD j iP)=true)(l:aL z b 65 (mU (i*10) (fJ (L.getD j iP).1 (qx (L.getD j iP))) cs))(k:∀v∈fJ (L.getD j iP).1 (qx (L.getD j iP)),v.oneCell'=true)(m:w.grownBy z (some b)):Ia w b n L q len (i+1) (j+1) (mU (i*10) (fJ (L.getD j iP).1 (qx (L.getD j iP))) cs) z:=by
 have e:L.take (j+1)=L.take j++[L.getD j iP]:=by rw[qly,qm3 d,qnh,qm3 d];rfl
 have f:(L.take (j+1)).filter q=(L.take j).filter q++[L.getD j iP]:=by rw[e,qqf,List.filter_cons_of_pos r,mE]
 have a:i*10+(fJ (L.getD j iP).1 (qx (L.getD j iP))).length<=cs.length:=by rw[h.len];simp;omega
 have l10:(fJ (L.getD j iP).1 (qx (L.getD j iP))).length=10:=rfl;refine⟨l,by rw[CU];exact h.len,?_,?_,CV _ _ _ h.one k,by rw[f,qm0,h.num];rfl,m⟩;·rw[uQ _ _ _ a,show(i+1)*10=i*10+(fJ (L.getD j iP).1 (qx (L.getD j iP))).length by rw[l10];omega,iI _ _ _ a,h.done,f,yO];simp[rz]
 ·have g:=congrArg (List.drop 10) h.aI;rw[mI,qnq d]at g;have c:(cs.take (n*10)).drop ((j+1)*10)=rz (L.drop (j+1)):=by rw[show(j+1)*10=j*10+10 by omega,g];rfl
  rw[<-c,zS,uQ _ _ _ (by rw[qm8,l10];omega),qB _ _ _ _ (by rw[qm8,l10];omega) (by rw[l10];omega)]
def Ia.below{b:Nat}{len:Nat}(h:Ia w b n L q len i j cs y)(a:bE y z):Ia w b n L q len i j cs z:=
 ⟨eY a h.bY,h.len,h.done,h.aI,h.one,h.num,h.gr.andThen (jg a) (fun j c=>by cases c)⟩
def Ic:∀(L:List FV) (j k:Nat),j<L.length->k<10->(rz L)[j*10+k]?=(fJ (L.getD j iP).1 (qx (L.getD j iP)))[k]?
 |[],_,_,h,_=>by simp at h
 |x::t,0,k,_,hk=>by show(fJ x.1 (qx x)++rz t)[0*10+k]?=_;rw[qmw (by simpa using hk)];simp only[qpg,qm5];rfl
 |x::t,j+1,k,h,hk=>by show(fJ x.1 (qx x)++rz t)[(j+1)*10+k]?=_;rw[qn0 rR,show(j+1)*10+k-(fJ x.1 (qx x)).length=j*10+k by simp;omega];exact Ic t j k (by simpa using h) hk
def SH(P:FV->Bool)(L:List FV):(zN P L= -1/\L.filter (fun x=> !P x)=L)\/∃i:Nat,zN P L=(i:Int)/\i<L.length/\P (L.getD i iP)=true/\(L.take i).filter (fun x=> !P x)=L.take i:=by
 unfold zN;cases h:L.any P;·refine .inl ⟨aM,qo4.2 fun x a=>?_⟩;have:=List.any_eq_false.1 h x a;simpa using this
 ·rw[bM rfl];have b:L.findIdx P<L.length:=List.findIdx_lt_length_of_exists (by obtain⟨x,a,d⟩:=qo5.1 h;exact⟨x,a,d⟩);refine .inr ⟨_,rfl,b,?_,qo4.2 fun x a=>?_⟩;·rw[qly,qm3 b];exact List.findIdx_getElem
  ·obtain⟨j,c,rfl⟩:=List.getElem_of_mem a;rw[qm8]at c;rw[List.getElem_take];have:=List.not_of_lt_findIdx (p:=P) (xs:=L) (i:=j) aj;simpa using this
def Ie(f:Fr)(b:WA)(h:b.oneCell'=true):∀v∈fJ f b,v.oneCell'=true:=by intro v a;simp only[qme,qoc,or_false]at a;rcases a with rfl|rfl|rfl|rfl|rfl|rfl|rfl|rfl|rfl|rfl;all_goals first|rfl|exact h
def wu(g:Nat)(p k:Array WA)(P:FV->Bool){b:Nat}(n c:Nat)(L:List FV)(eg:∀args w,(callFunc g args).run prog w=.ok (.enter g args) w)(hn:L.length=n)(hl:n<=100000)(hg:n<=c)(G:aL w b 65 cs)(T:n*10<=cs.length)(M:cs.take (n*10)=rz L)(h1:∀v∈cs,v.oneCell'=true)(hw:∀j,j<L.length->∀W:Wq,w.grownBy W (some b)->WB prog g (p.push (eF (L.getD j iP).1 (qx (L.getD j iP)))++k) W fun e W'=>e=.returned (.bool (P (L.getD j iP)))/\bE W W'):WB prog 151 #[dh b n c,.func (.func g) p k] w fun e w'=>∃a,e=.returned (dh b (L.filter fun x=> !P x).length c)/\aL w' b 65 a/\a.length=cs.length/\a.take ((L.filter fun x=> !P x).length*10)=rz (L.filter fun x=> !P x)/\(∀v∈a,v.oneCell'=true)/\w.grownBy w' (some b):=by
 have h6:=G.lt;have hF:yE w (some (ay b 0)) L:=fun j s=>⟨b,0,rfl,fun i hi=>by rw[G.cell,<-Ic L j i s hi,<-M,qm6,bM aj,qm5]⟩;have Q:=aF (CG g p k P (some (ay b 0)) L c w eg aj hF (fun j s W hb=>hw j s W ((jg hb).but _)));rw[hn]at Q;have hu:=G;rcases SH P L with⟨e1,e2⟩|⟨i0,e1,hi0,hp0,hf0⟩;·rw[e1]at Q;rw[e2,hn];have V:Hid (∀N,bE w N->aL N b 65 cs/\cs.take (n*10)=rz L/\(∀v∈cs,v.oneCell'=true)/\w.grownBy N (some b)):=fun N r=>⟨eY r G,M,h1,(jg r).but _⟩;clear G M h1 hw hF hu e2;go_enter func151,ntmps151;go_wp2_with (first|(go_at_call 190;refine bH Q.out ?_;rintro N r)|go_in);go_ret;obtain⟨a1,a2,a3,a4⟩:=V.out _ r;exact⟨cs,rfl,a1,rfl,a2,a3,a4⟩
 ·rw[e1]at Q;have U:Ia w b n L (fun x=> !P x) cs.length i0 (i0+1) cs w:=by
   have D:Ia w b n L (fun x=> !P x) cs.length i0 i0 cs w:=by
    refine⟨G,rfl,?_,?_,h1,by rw[hf0,qm8];omega,⟨rfl,rfl,rfl,qj _,fun _ _ _=>rfl⟩⟩
    ·rw[hf0];have e:=congrArg (List.take (i0*10)) M;rw[qpe,Nat.min_eq_left aj]at e;rw[e];have e3:rz L=rz (L.take i0)++rz (L.drop i0):=by rw[<-yO,qq9]
     rw[e3,qnz (by rw[vJ,qm8];omega),qmo (by rw[vJ,qm8];omega)]
    ·rw[M];have e3:rz L=rz (L.take i0)++rz (L.drop i0):=by rw[<-yO,qq9]
     rw[e3,qqv (by rw[vJ,qm8];omega),qnj (by rw[vJ,qm8];omega),qmq]
   exact D.skip hi0 (by rw[hp0];rfl) G D.gr
  have HD:=aF U;have HW:=aF hw;have he:i0<n:=aj;have h8:((i0:Int)== -1)=false:=by rw[beq_eq_false_iff_ne];omega
  clear U G M h1 hw hF hu hf0 hp0;go_enter func151,ntmps151;go_wp2_with (first|(go_at_call 190;refine bH Q.out ?_;rintro N r)|go_in);go_loopw [5,6] (fun s5 s6 wr=>∃(i j:Nat) (a:bJ),i<j/\j<=n/\s5=(iZ i)/\s6=(iZ j)/\Hid (Ia w b n L (fun x=> !P x) cs.length i j a wr)) (fun _ s6 _=>n-(fB s6).toNat);case atStart=>exact⟨i0,i0+1,cs,aj,aj,rfl,aM,(HD.out.below r:Ia _ _ _ _ _ _ _ _ _ _)⟩
  case round=>
   obtain⟨i,j,a,h0,hf,rfl,rfl,f⟩:=hrel;by_cases h4:j<n
   ·have h7:(j:Int)<(n:Int):=aj;have Y:=f.out.cell aj 0 aj;have Z:=f.out.cell aj 1 aj;have c2:=f.out.cell aj 2 aj;have c3:=f.out.cell aj 3 aj;have c4:=f.out.cell aj 4 aj;have c5:=f.out.cell aj 5 aj;have c6:=f.out.cell aj 6 aj;have c7:=f.out.cell aj 7 aj;have c8:=f.out.cell aj 8 aj;have c9:=f.out.cell aj 9 aj;obtain⟨W3,l⟩:=bT (wr.alloc (.cells (fJ (L.getD j iP).1 (qx (L.getD j iP))).toArray 65));have A:bE wr W3:=by rw[l];exact(qlw _ wr).alloc (qj _) _
    have I:aL W3 wr.heap.size 65 (fJ (L.getD j iP).1 (qx (L.getD j iP))):=by rw[l];exact aL.new wr 65 _
    have C:=HW.out j aj W3 (f.out.gr.andThen (jg A) (fun j s=>by cases s));have O:=aF A;have H1:Hid (∀v∈fJ (L.getD j iP).1 (qx (L.getD j iP)),v.oneCell'=true):=Ie _ _ rfl;cases K:P (L.getD j iP);·rw[K]at C;have R:Hid (∀z,aL z b 65 (mU (i*10) (fJ (L.getD j iP).1 (qx (L.getD j iP))) a)->w.grownBy z (some b)->Ia w b n L (fun x=> !P x) cs.length (i+1) (j+1) (mU (i*10) (fJ (L.getD j iP).1 (qx (L.getD j iP))) a) z):=fun z h2 h3=>f.out.fG T h4 h0 aj (by rw[K];rfl) h2 H1.out h3;have H:=f.out.below A;have d:∀x,x<10->∃v,a[i*10+x]?=some v:=fun x hx=>⟨_,qm3 (by rw[f.out.len];omega)⟩;obtain⟨t0,q0⟩:=d 0 aj;obtain⟨t1,q1⟩:=d 1 aj;obtain⟨t2,q2⟩:=d 2 aj;obtain⟨t3,q3⟩:=d 3 aj;obtain⟨t4,q4⟩:=d 4 aj;obtain⟨t5,q5⟩:=d 5 aj;obtain⟨t6,q6⟩:=d 6 aj;obtain⟨t7,q7⟩:=d 7 aj;obtain⟨t8,q8⟩:=d 8 aj;obtain⟨t9,q9⟩:=d 9 aj;have Q5:=aF H.bY;have xW:=aF I;have HG:=aF H.gr;have hk:(i:Int)<(n:Int):=aj;have h9:¬(wr.heap.size=b):=fun e=>bR f.out.bY.lt;have ha:Hid (∀z,aL z b 65 a->∀j',z.cell? (ay b j')=a[j']?):=fun z hz j'=>hz.cell j';clear K H1 A I H d;generalize L.getD j iP=F at Y Z c2 c3 c4 c5 c6 c7 c8 c9 C l R xW;obtain⟨F,r1,r2,r3⟩:=F;unfold eF at C;simp only[qx,qml,qma,qnl]at Y Z c2 c3 c4 c5 c6 c7 c8 c9 C l R xW q0;go_wp2_with (first|(go_at_fn g;rw[<-l];refine bH C ?_;rintro t B;have q:=eY B Q5.out;have u:=eY B xW.out;have y0:t.cell? (ay b (i*10))=some t0:=(q.cell _).trans q0;have y1:t.cell? (ay b (i*10+1))=some t1:=(q.cell _).trans q1;have y2:t.cell? (ay b (i*10+2))=some t2:=(q.cell _).trans q2;have y3:t.cell? (ay b (i*10+3))=some t3:=(q.cell _).trans q3;have y4:t.cell? (ay b (i*10+4))=some t4:=(q.cell _).trans q4;have y5:t.cell? (ay b (i*10+5))=some t5:=(q.cell _).trans q5;have y6:t.cell? (ay b (i*10+6))=some t6:=(q.cell _).trans q6;have y7:t.cell? (ay b (i*10+7))=some t7:=(q.cell _).trans q7;have y8:t.cell? (ay b (i*10+8))=some t8:=(q.cell _).trans q8;have y9:t.cell? (ay b (i*10+9))=some t9:=(q.cell _).trans q9;have fz:=q.frozen;have x0:=u.cell 0;have x1:=u.cell 1;have x2:=u.cell 2;have x3:=u.cell 3;have x4:=u.cell 4;have x5:=u.cell 5;have x6:=u.cell 6;have x7:=u.cell 7;have x8:=u.cell 8;have x9:=u.cell 9;simp only[qml,qma]at x0 x1 x2 x3 x4 x5 x6 x7 x8 x9;replace q:=aF q;replace u:=aF u)|go_in);have S:=nK b (fJ F (.slice r1 r2 r3)) (i*10) t;refine⟨⟨i+1,j+1,_,aj,aj,aM,aM,(R.out (oQ b (i*10) (fJ F (.slice r1 r2 r3)) t) (pU _ _ _ _ q.out) ((HG.out.andThen (jg B) (fun j s=>by cases s)).andThen (row':=some b) ⟨S.os,S.tape,S.output,by rw[S.size];exact qj _,fun x _ hx=>S.block x (fun e=>hx (by rw[e]))⟩ (fun j s=>.inr (by rw[s]))):Ia _ _ _ _ _ _ _ _ _ _)⟩,by simp[fB];omega⟩
    ·rw[K]at C;have R:Hid (∀z,bE wr z->Ia w b n L (fun x=> !P x) cs.length i (j+1) a z):=fun z h2=>f.out.skip aj (by rw[K];rfl) (eY h2 f.out.bY) (f.out.gr.andThen (jg h2) (fun j s=>by cases s));clear K H1 I A;generalize L.getD j iP=F at Y Z c2 c3 c4 c5 c6 c7 c8 c9 C l;obtain⟨F,r1,r2,r3⟩:=F;unfold eF at C;simp only[qx,qml,qma,qnl]at Y Z c2 c3 c4 c5 c6 c7 c8 c9 C l;go_wp2_with (first|(go_at_fn g;rw[<-l];refine bH C ?_;rintro t B)|go_in);go_roundw;case rel=>exact⟨i,j+1,a,aj,aj,rfl,aM,(R.out _ (O.out.trans (B.mono O.out.size)):Ia _ _ _ _ _ _ _ _ _ _)⟩
     case measure=>simp[fB];omega
   ·obtain rfl:j=n:=aj;have y:=f.out;have E:(eB jY.cells (j-i)).toList.length=(j-i)*10:=qR.hz _;have h5:∀ty cc,(Builtin.clear_ #[54] ty #[.slice (some (ay b (i*10))) (j-i) cc]).run prog wr=.ok (.tuple #[]) (put wr b (aU a (i*10) (eB jY.cells (j-i)).toList)):=fun ty cc=>gQ (P:=prog) (o:=i*10) (n:=j-i) (c:=cc) 54 65 ty _ qR.ht (fun w=>bO) y.bY aj (by rw[E,y.len];omega) (qR.h1 _);have ef:L.filter (fun x=> !P x)=(L.take j).filter (fun x=> !P x):=by rw[qmo aj]
    have J:=y.num;rw[<-ef]at J;have V:Hid (∃m,m=aU a (i*10) (eB jY.cells (j-i)).toList/\aL (put wr b (aU a (i*10) (eB jY.cells (j-i)).toList)) b 65 m/\m.length=cs.length/\m.take (i*10)=rz (L.filter fun x=> !P x)/\(∀v∈m,v.oneCell'=true)/\w.grownBy (put wr b (aU a (i*10) (eB jY.cells (j-i)).toList)) (some b)):=by refine⟨_,rfl,y.bY.put _,by rw[bV _ _ _ (by rw[E,y.len];omega)];exact y.len,?_,dM y.one (qR.h1 _),y.gr.andThen (dZ wr b _) (fun j s=>.inr (by rw[s]))⟩;rw[gU _ _ _ _ (by rw[E,y.len];omega) (qj _),y.done,ef]
    have HN:=aF J;generalize aU a (i*10) (eB jY.cells (j-i)).toList=X at h5 V;clear ef J E y;have k1:(i:Int)<=(j:Int):=aj;have k2:(i:Int)<=(c:Int):=aj;have k3:(j:Int)<=(c:Int):=aj;have k4:i<=j:=aj;have k5:i<=c:=aj;go_wp2;go_ret;obtain⟨m,_,a1,a2,a3,a4,a5⟩:=V.out;rw[HN.out];exact⟨m,rfl,a1,a2,a3,a4,a5⟩
def Ig(f:Fr):Bool:=decide (f.aD=2)||decide (f.aD=7)||decide (f.aD=8)
def qel(f:Fr)(i:WA)(w:Wq):qH 273 #[eF f i] w (.bool (Ig f)) fun j=>bE w j:=by
 unfold Ig eF;by_cases a:f.aD=2
 ·have d:(f.aD==(2:Int))=true:=by simp[a]
  rw[decide_eq_true a];go_enter func273,ntmps273;go_wp2;go_ret;exact⟨rfl,(qlw _ w).alloc (qj _) _⟩
 ·have d:(f.aD==(2:Int))=false:=by simp[a]
  rw[decide_eq_false a];by_cases b:f.aD=7
  ·have e:(f.aD==(7:Int))=true:=by simp[b]
   rw[decide_eq_true b];go_enter func273,ntmps273;go_wp2;go_ret;exact⟨rfl,(qlw _ w).alloc (qj _) _⟩
  ·have e:(f.aD==(7:Int))=false:=by simp[b]
   rw[decide_eq_false b];by_cases c:f.aD=8
   ·have g:(f.aD==(8:Int))=true:=by simp[c]
    rw[decide_eq_true c];go_enter func273,ntmps273;go_wp2;go_ret;exact⟨rfl,(qlw _ w).alloc (qj _) _⟩
   ·have g:(f.aD==(8:Int))=false:=by simp[c]
    rw[decide_eq_false c];go_enter func273,ntmps273;go_wp2;go_ret;exact⟨rfl,(qlw _ w).alloc (qj _) _⟩
def dY.some{e:Vg}{a:Option V3}{c:Nat}(h:dY e k w (.slice a n c) n l)(f:0<n):∃g b,a=some (ay g 0)/\aL w g e b/\b.length=c*k/\n<=c/\c<=9223372036854775807/\b.take (n*k)=l/\∀v∈b,v.oneCell'=true:=by
 rcases h with⟨_,d,_⟩|⟨g,cap,b,h1,h2,h3,h4,h5,_,h7,h8⟩;·omega
 ·simp only[qn4,true_and]at h1;obtain⟨rfl,rfl⟩:=h1;exact⟨g,b,rfl,h2,h3,h4,h5,h7,h8⟩
def SI(p:Option V3)(L:List FV)(q:Nat)(w:Wq)(S:L.length<=100000)(G:0<L.length)(hF:Rd 10 w (.slice p L.length q) L.length (rz L)):WB prog 212 #[.slice p L.length q] w fun e m=>∃a c,e=.returned (.slice a (L.filter fun x=> !Ig x.1).length c)/\dY 65 10 m (.slice a (L.filter fun x=> !Ig x.1).length c) (L.filter fun x=> !Ig x.1).length (rz (L.filter fun x=> !Ig x.1))/\lQ w.heap.size (.slice a (L.filter fun x=> !Ig x.1).length c)/\bE w m:=by
 have s:=aF (Np _ _ _ w hF aj);have Q:(L.filter fun x=> !Ig x.1).length<=L.length:=qo1 _ _;have t:Hid (∀(b c:Nat) (f:bJ) (W:Wq),L.length<=c->aL W b 65 f->L.length*10<=f.length->f.take (L.length*10)=rz L->(∀v∈f,v.oneCell'=true)->WB prog 151 #[dh b L.length c,.func (.func 273) #[] #[]] W fun e m=>∃d,e=.returned (dh b (L.filter fun x=> !Ig x.1).length c)/\aL m b 65 d/\d.length=f.length/\d.take ((L.filter fun x=> !Ig x.1).length*10)=rz (L.filter fun x=> !Ig x.1)/\(∀v∈d,v.oneCell'=true)/\W.grownBy m (some b)):=fun b c f W H I J M N=>wu 273 #[] #[] (fun x=>Ig x.1) L.length c L (enters_of func273 bO rfl) rfl S H I J M N (fun j _ W _=>qel _ _ W);have o:=vJ (L.filter fun x=> !Ig x.1);generalize (L.filter fun x=> !Ig x.1)=K at *
 generalize L.length=n at *
 clear hF;go_enter func212,ntmps212;go_wp2_with (first|(go_at_call 272;refine s.out.mono ?_;rintro e U ⟨a,c,rfl,O,P,l⟩;obtain⟨g,f,rfl,B,r,C,D,E,F⟩:=dY.some O G)|(go_at_call 151;refine(t.out g c f U C B (by rw[r];omega) E F).mono ?_;rintro e X ⟨d,rfl,u,y,z,A,i⟩)|go_in);go_ret;have R:w.heap.size<=g:=P g rfl;refine⟨_,c,rfl,.inr ⟨g,c,d,rfl,u,by rw[y,r],aj,D,o,z,A⟩,fun x T=>?_,l.trans ⟨i.os,i.tape,i.output,i.size,fun k V=>i.block k (bR l.size) (fun e=>by cases e;omega)⟩⟩;simp[eT]at T;omega
