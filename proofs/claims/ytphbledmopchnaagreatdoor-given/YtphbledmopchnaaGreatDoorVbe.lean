import Derived.Test.YtphbledmopchnaaGreatDoorVba
import Derived.Test.YtphbledmopchnaaGreatDoorVbb
import Derived.Test.YtphbledmopchnaaGreatDoorVbc
import Derived.Test.YtphbledmopchnaaGreatDoorVbd
open Go.Builtin renaming zeroCells->eB,append_->l9,min_->nU
open Go.Ending renaming returned->fB
open List renaming getElem?_eq_getElem->fA,take_append_drop->mI,filter_eq_self->mK,take_add_one->mR,drop_drop->nA
open Go.RowKit renaming intOf->fE
open Go.Value renaming ownBlock->eT,cells->mE,nilIface->nL,bool->nV
set_option maxHeartbeats 4000000
set_option maxRecDepth 100000
open Go renaming World->Wq,Value->Wx,Calls->WA,TypeId->WK,Addr->XK
set_option linter.all false
namespace Go.Proofs.YtphbledmopchnaaGreatDoor.Sd
open Go.RowKit Go.Lib Mm Go.Maps Tryz
variable {b g r:Nat}{c:kL->Bool}{d f i l l' lf:List kL}{w w' y z:Wq}
section
section
variable (w:Wq) {ops:Array Oper} {rest:List Oper} {o:Oper} {a:Act} {Q:Exit->Act->Wq->Prop}
def qw(i:o.guard=none)(m)(f:o.op=Op.range 203 m)(b l)(j:a.eval m=.map (some b))(h:oH w b l)(g:∀c,xu c b w.heap.size l l->w.grownBy c none->c.heap.size=w.heap.size+1->wpList prog ops Q rest (a.put o.dst (aK w.heap.size 0)) c):wpList prog ops Q (o::rest) a w:=by refine wpList_plain i fun q e=>?_;obtain⟨c,d,k,n,p⟩:=h.range;unfold Oper.wp;simp[execOp,f,j,d,Result.andThen];exact e _ _ (g c k n p)
def rD(m:o.guard=none)(j)(i:o.op=Op.next j false)(b r l lf)(hit:a.eval j=(aK r 0))(h:xu w b r l lf)(e:lf=[]->wpList prog ops Q rest (a.put o.dst (.tuple #[.bool false])) w)(f:∀(x) (d),x∈lf->x.1<18446744073709551616->xu d b r l (lf.filter fun y=> !decide (y.1=x.1))->d.rangeLeft b r<w.rangeLeft b r->w.grownBy d (some r)->d.heap.size=w.heap.size->(Instr.entry (aK r 0)).run prog d=.ok (.tuple #[uZ x.1,zM x.2]) d->wpList prog ops Q rest (a.put o.dst (.tuple #[.bool true,uZ x.1,zM x.2])) d):wpList prog ops Q (o::rest) a w:=by
 refine wpList_plain m fun n g=>?_;unfold Oper.wp;rcases h.next o.type with⟨k,c⟩|⟨x,d,h1,h2,c,h3,h4,h5,h6,h7⟩;.simp[execOp,i,hit,c,Result.andThen];exact g _ _ (e k)
 .simp[execOp,i,hit,c,Result.andThen];exact g _ _ (f x d h1 h2 h3 h4 h5 h6 h7)
def uy(i:o.guard=none)(m x)(f:o.op=Op.call {callee:=Callee.builtin Builtin.delete,args:=#[m,x],argTypes:=#[203,43]})(b r l lf)(j:a.eval m=.map (some b))(h:xu w b r l lf)(n:Nat)(p:a.eval x=(uZ n))(k:n<18446744073709551616)(g:∀c,xu c b r (l.filter fun y=> !decide (y.1=n)) (lf.filter fun y=> !decide (y.1=n))->c.rangeLeft b r<=w.rangeLeft b r->w.grownBy c (some b)->wpList prog ops Q rest (a.put o.dst (.tuple #[])) c):wpList prog ops Q (o::rest) a w:=by refine wpList_plain i fun u e=>?_;obtain⟨c,d,q,s,t⟩:=h.del n k o.type;unfold Oper.wp;simp[execOp,f,resolve,invoke,builtin,j,p,d,Result.andThen];exact e _ _ (g c q s t)
def uz(k:o.guard=none)(m x v)(g:o.op=Op.mapUpdate 203 m x v)(b l)(p:a.eval m=.map (some b))(h:oH w b l)(n:l.length<1000000)(e)(s:a.eval x=(uZ e.1))(r:a.eval v=zM e.2)(j:e.1<18446744073709551616)(q:∀y∈l,y.1≠e.1)(i:∀d,oH d b (e::l)->w.grownBy d (some b)->wpList prog ops Q rest (a.put o.dst undef) d):wpList prog ops Q (o::rest) a w:=by refine wpList_plain k fun z f=>?_;obtain⟨d,c,t,u⟩:=h.put n e j q;unfold Oper.wp;simp[execOp,g,p,s,r,c,Result.andThen];exact f _ _ (i d t u)
end


def qfm(l)(h:oH w b l)(e:l.length<1000000):bN 262 #[.map (some b)] w (.bool (decide (12<=l.length))) fun d=>d=w:=by have c:=h.len;go_enter func262,ntmps262;go_wp2;go_ret;exact⟨congrArg (fun b=>fB (.bool b)) (decide_eq_decide.2 aj),rfl⟩
def Bl(h:l.Nodup)(b:l'.Nodup)(c:∀x,x∈l↔x∈l'):l.Perm l':=(List.perm_ext_iff_of_nodup h b).2 c
theorem UA(h:l.Nodup)(b:l'.Nodup)(c:∀x,x∈l->x∈l'):l.length<=l'.length:=by
 classical
 have:l.Perm (l'.filter fun x=>decide (x∈l)):=Bl h (b.filter _) fun x=>by grind
 rw[this.length_eq];exact tH _ _
structure UC (w:Wq) (b b2 r:Nat) (l:List kL) (want:kL->Bool) (y:Wq) (cur lf tk:List kL):Prop where
 rg:xu y b r cur lf
 mp:oH y b2 tk
 cur:∀x,x∈cur↔x∈l/\(x∈lf\/want x=false)
 tk:∀x,x∈tk↔x∈l/\x∉lf/\want x=true
 gr:w.grownBy y (some b)
def UC.len{f e}(h:UC w b f r l c y d lf e)(g:l.Nodup):e.length<=l.length:=
 UA h.mp.nodup g fun x i=>((h.tk x).1 i).1
def UC.done{e g}(h:UC w b e r l c y d [] g)(f:l.Nodup):oH y b (l.filter fun x=> !c x)/\oH y e (l.filter c):=by
 refine⟨h.rg.map.perm (Bl h.rg.map.nodup (f.filter _) fun x=>?_),h.mp.perm (Bl h.mp.nodup (f.filter _) fun x=>?_)⟩;.rw[h.cur,dY];simp
 .rw[h.tk,dY];simp
theorem UC.stay(h:UC w b g r l c y d lf i)(x)(n:∀y,y∈l->(y∈f↔y∈lf/\y≠x))(p:c x=false)(j:xu z b r d f)(k:oH z g i)(m:w.grownBy z (some b)):UC w b g r l c z d f i:=by
 refine⟨j,k,fun e=>?_,fun e=>?_,m⟩;.rw[h.cur];grind
 .rw[h.tk];grind
theorem UC.go(h:UC w b g r l c y d lf i)(v:∀e∈l,∀j∈l,e.1=j.1->e=j)(x)(q:x∈lf)(u:∀y,y∈l->(y∈f↔y∈lf/\y≠x))(A:c x=true)(k:xu z b r (d.filter fun e=> !decide (e.1=x.1)) (f.filter fun e=> !decide (e.1=x.1)))(m:oH z g (x::i))(n:w.grownBy z (some b)):UC w b g r l c z (d.filter fun e=> !decide (e.1=x.1)) (f.filter fun e=> !decide (e.1=x.1)) (x::i):=by
 have s:=((h.cur x).1 (h.rg.sub x q)).1;have p:∀e∈l,((!decide (e.1=x.1))=true↔e≠x):=fun e t=>by grind
 refine⟨k,m,fun e=>?_,fun e=>?_,n⟩;.rw[dY,dY,h.cur];grind
 .rw[nQ,h.tk,dY];grind
def gY(c:w'.heap[b]?=w.heap[b]?)(d:w'.heap[r]?=w.heap[r]?):w'.rangeLeft b r=w.rangeLeft b r:=by unfold World.rangeLeft;rw[c,d]
def jM(b:bJ w w'):w.grownBy w' none:=⟨b.os,b.tape,b.output,b.size,fun i c _=>b.block i c⟩
def fD{t l}(c:bJ w w')(h:aS w b t l):aS w' b t l:=h.of_heap (c.block b h.lt)
theorem qfn(g:Nat)(p k l f)(eg:∀args w,(callFunc g args).run prog w=.ok (.enter g args) w)(h:oH w b l)(hl:l.length<100000)(hw:∀x∈l,∀W,w.grownBy W (some b)->WA prog g (p++(#[uZ x.1,zM x.2]++k)) W fun e W'=>e=.returned (.bool (f x))/\bJ W W'):bN 191 #[.map (some b),.func (.func g) p k] w (.map (some w.heap.size)) fun w'=>oH w' b (l.filter fun x=> !f x)/\oH w' w.heap.size (l.filter f)/\w.grownBy w' (some b):=by
 have hk:=@run_makeMap prog;have P:=h.nodup;have ha:=h.lt;obtain⟨W,Z⟩:=bU (w.alloc (.map #[] 0));have h5:w.grownBy W none:=by rw[Z];exact ze _ _ _
 have hf:oH W b l:=h.kept (by grind [MapKept.heap_alloc]);have h3:oH W w.heap.size []:=by rw[Z];exact oH.made w
 have iD:W.heap.size=w.heap.size+1:=by rw[Z];simp
 go_enter func191,ntmps191;go_wp2_with (first|(at_range;refine qw _ rfl _ rfl b l rfl (by grind) ?_;intro w0 F N h9)|go_in);have e1:(w.alloc (.map #[] 0)).heap.size=w.heap.size+1:=aR;rw[<-Z]at N;rw[e1]at F h9 ⊢;go_frame;go_loopw [6] (fun _ wr=>∃q lf X:List kL,Hid (UC w b w.heap.size (w.heap.size+1) l f wr q lf X)) (fun _ wr=>wr.rangeLeft b (w.heap.size+1));case atStart=>exact⟨l,l,[],(⟨F,h3.kept ((N.block _ aj aR)),fun x=>⟨fun m=>⟨m,.inl m⟩,fun m=>m.1⟩,fun x=>⟨(fun m=>by cases m),fun m=>absurd m.1 m.2.1⟩,(h5.but _).andThen N (fun j z=>by cases z)⟩:UC w b w.heap.size (w.heap.size+1) l f w0 l l [])⟩
 case round=>
  obtain⟨q,lf,X,hrel⟩:=hrel;go_wp2_with (first|(at_next;refine rD _ rfl _ rfl b (w.heap.size+1) q lf rfl hrel.out.rg ?_ ?_)|go_in);.intro h0;go_wp2;go_ret;subst h0;exact⟨rfl,(hrel.out.done P).1,(hrel.out.done P).2,hrel.out.gr⟩
  .intro K G J I L w1 m LK i h8 O hn U;have H:=hrel.out;have h7:X.length<1000000:=Cn (H.len P) aj;have t:(K,G,J,I,L)∈l:=((H.cur _).1 (H.rg.sub _ m)).1;obtain⟨M,B⟩:=bU (w1.alloc (.cells #[.slice G J I,uZ L] 289));have T:aS M wr.heap.size 289 [.slice G J I,uZ L]:=by grind [aS.new]
   have r:w1.grownBy M none:=by rw[B];exact ze _ _ _
   have v:w.grownBy M (some b):=(H.gr.andThen O (fun j z=>by grind)).andThen r (fun j z=>by cases z);have R:=hw _ t M v;have ho:M.heap.size=w1.heap.size+1:=by rw[B];simp
   have Y:xu M b (w.heap.size+1) q (lf.filter fun y=> !decide (y.1=K)):=i.kept (r.block _ i.map.lt aR) (r.block _ i.lt aR);have A:=H.mp.kept ((r.block _ (gK H.mp.lt O.size) aR).trans (O.block _ H.mp.lt aR));have C:M.rangeLeft b (w.heap.size+1)<wr.rangeLeft b (w.heap.size+1):=by rw[(gY (r.block _ i.map.lt aR) (r.block _ i.lt aR))];exact h8
   have n:∀y,y∈l->(y∈(lf.filter fun y=> !decide (y.1=K))↔y∈lf/\y≠(K,G,J,I,L)):=fun y hy=>by rw[dY];refine and_congr_right fun _=>?_;simp only[Jr,decide_eq_false_iff_not];exact⟨fun D e=>D (by rw[e]),fun D e=>D (h.inj hy t e)⟩
   cases s:f (K,G,J,I,L)
   .rw[s]at R;have E:=aG (dz t (dz n (dz s m)));have d:=aG (dz v (dz Y (dz A C)));clear t n s m v Y A C;simp only[zM]at U R ⊢;go_wp2_with (first|(go_at_fn g;rw[<-B];refine bK R ?_;rintro w2 c)|go_in);go_roundw;case rel=>exact⟨q,_,X,(H.stay _ E.out.2.1 E.out.2.2.1 (d.out.2.1.kept (c.block _ d.out.2.1.map.lt) (c.block _ d.out.2.1.lt)) (d.out.2.2.1.kept (c.block _ d.out.2.2.1.lt)) (d.out.1.andThen (jM c) (fun j z=>by cases z)):UC _ _ _ _ _ _ _ _ _ _)⟩
    case measure=>rw[gY (c.block _ d.out.2.1.map.lt) (c.block _ d.out.2.1.lt)];exact d.out.2.2.2
   .rw[s]at R;have E:=aG (dz t (dz n (dz s m)));have d:=aG (dz v (dz Y (dz A C)));clear t n s m v Y A C;simp only[zM]at U R ⊢;go_wp2_with (first|(go_at_fn g;rw[<-B];refine bK R ?_;rintro w2 c;have y0:w2.cell? (aA wr.heap.size 0)=some (.slice G J I):=(fD c T).cell 0;have y1:w2.cell? (aA wr.heap.size 1)=some (uZ L):=(fD c T).cell 1)|(at_mapUpdate;refine uz _ rfl _ _ _ rfl w.heap.size X rfl (d.out.2.2.1.kept (c.block _ d.out.2.2.1.lt)) h7 (K,G,J,I,L) rfl rfl LK (fun y hy e=>((H.tk y).1 hy).2.1 (by rw[h.inj ((H.tk y).1 hy).1 E.out.1 e];exact E.out.2.2.2)) ?_;intro w3 S u)|(at_delete;refine uy _ rfl _ _ rfl b (w.heap.size+1) q _ rfl (((d.out.2.1.kept (c.block _ d.out.2.1.map.lt) (c.block _ d.out.2.1.lt)).kept (u.block _ (gK d.out.2.1.map.lt c.size) dZ) (u.block _ (gK d.out.2.1.lt c.size) aR))) K rfl LK ?_;intro w4 h2 h6 V;go_frame)|go_in);have hg:=d.out.2.1.kept (c.block _ d.out.2.1.map.lt) (c.block _ d.out.2.1.lt);have D:w.heap.size≠b:=aj;refine⟨⟨_,_,_,(H.go (fun e he e' h4=>h.inj he h4) (K,G,J,I,L) E.out.2.2.2 E.out.2.1 E.out.2.2.1 h2 (S.kept (V.block _ S.lt dZ)) ((d.out.1.andThen (jM c) (fun j z=>by cases z)).andThen u (fun j z=>by grind) |>.andThen V (fun j z=>by grind)):UC _ _ _ _ _ _ _ _ _ _)⟩,?_⟩;refine Cn h6 ?_;rw[gY (u.block _ (gK d.out.2.1.map.lt c.size) dZ) (u.block _ (gK d.out.2.1.lt c.size) aR),gY (c.block _ d.out.2.1.map.lt) (c.block _ d.out.2.1.lt)];exact d.out.2.2.2
end
end Go.Proofs.YtphbledmopchnaaGreatDoor.Sd
namespace Go.Proofs.YtphbledmopchnaaGreatDoor.Sd
open Go.RowKit Go.Lib Mm St Tryz
variable {rs:bY}{w:Wq}
def qkm{j}(i l)(d b:Nat){base c}(k m)(p:Rg.gP rs)(o:Small rs)(r:rs.length<=1000000)(g:d<=b)(f:b<18446744073709551616)(s:uU w j i l k m base rs.length c)(R:mG w j base c rs)(q:rs.length<=c)(a:c<=9223372036854775807):WA prog 168 #[aK j i,.agg #[uZ d,uZ b]] w fun e t=>e=.returned (.tuple #[])/\∃n,LH t j i l k m (Rg.ins d b rs) (some n)/\Kept w t j (base.map (·.block))/\(some n=base.map (·.block)\/w.heap.size<=n):=by
 by_cases h:Rg.l7 d rs<Rg.jU b rs;.exact Rt i d b k m l p o r g f s R q a h
 .exact Rs i d b k m l p o r g f s R q a h
def Ep.cells{b a l e f row}(h:Ep w b a l e f rs row):∃base c,w.cell? (aA b a)=some (iZ e)/\w.cell? (aA b (a+1))=some (uZ f)/\w.cell? (aA b (a+2))=some (.slice base rs.length c):=by obtain⟨base,c,d,_⟩:=h;exact⟨base,c,d.cell0,d.JO,d.qD⟩
def Ep.drewN{w e d l a b rs row}(h:Ep w e d l a b rs row)(q):Ep (w.drewN q) e d l a b rs row:=by obtain⟨base,c,f,g,i,j,k⟩:=h;exact⟨base,c,f,g,i,j,k.of_heap (fun _ _=>rfl)⟩
def FM(c b a w)(e:w.cell? (aA c b)=some (iZ a)):bN 169 #[aK c b] w (iZ (max a 1)) fun d=>d=w:=by go_enter func169,ntmps169;go_wp2;go_ret;exact⟨St.nS aj,rfl⟩
theorem VX(j d F G Q rs row w)(E:Ep w j d F G Q rs row)(t:2<=rs.length)(W:rs.length<=1000001)(U:(rs.getD 0 (0,0)).2+1<18446744073709551616):bN 170 #[aK j d] w (.tuple #[]) fun o=>∃f,LH o j d F G ((rs.getD 0 (0,0)).2+1) rs.tail (some f)/\Kept w o j row/\(some f=row\/w.heap.size<=f):=by
 obtain⟨base,c,r,R,S,h4,K⟩:=E;have H:=K.sI (i:=0) aj;rcases K with⟨_,D,_⟩|⟨b,l,rfl,hb,hB,hl,ht,hone⟩;.simp[D]at t
 obtain⟨m,M⟩:∃m,rs.length=m+1:=⟨rs.length-1,aj⟩;obtain⟨f,C,_,_,T,_⟩:=H;simp at C;subst C;have z:Hid (rs.tail.length=m/\(l.take (2*(m+1))).drop 2=St.bX rs.tail):=⟨dZ,by grind [St.Oa]⟩;rw[M]at r R W t;generalize rs.tail=rt at *
 generalize (rs.getD 0 (0,0)).2=x at *
 clear ht M;have O:((x+1:Nat):Int)=(x:Int)+1:=aj;obtain⟨A,p⟩:=bU (w.setCell (aA j (d+1)) (uZ ((x:Int)+1)));have n:uU A j d (F.set (d+1) (uZ ((x+1:Nat):Int))) G (x+1) (some (aA b 0)) (m+1) c:=by rw[p,O];exact⟨r.1.setCell (d+1) _,by rw[ay _ _ _ _ aj];exact r.2.1,by rw[cZ _ _ _ _ r.2.2.1];rfl,by rw[ay _ _ _ _ aj];exact r.2.2.2⟩
 have B:aS A b 170 l:=by rw[p];exact hB.kH _ _ hb
 have J:=St.aG (LJ m c aj aj S aj B hl hone);have k2:=r.qD;have k1:=r.JO;have f1:=r.1.frozen (d+1);have j2:=n.qD;have q:Kept w A j row:=by rw[p];exact⟨rfl,rfl,rfl,aR,fun k _ g _=>jg _ _ _ _ g⟩
 have I:A.heap.size=w.heap.size:=by rw[p];simp
 have u:=n.1.lt;have P:Hid (∀(e:Ending) (o:Wq),St.Out A o (some b) e m ((l.take (2*(m+1))).drop 2)->∃f s,e=.returned (dB f m s)/\o.cell? (aA j (d+2))=some (dB b (m+1) c)/\o.frozen? (aA j (d+2))=false/\(∃v,LH (o.setCell (aA j (d+2)) (dB f m s)) j d F G (x+1) rt (some v)/\Kept w (o.setCell (aA j (d+2)) (dB f m s)) j row/\(some v=row\/w.heap.size<=v))):=by
  rintro e o ⟨f,s,X,rfl,Y,Z,o3,o4,o5,o6,y,o8⟩;have g:f≠j:=by grind
  have a:=n.of (w':=o) (y.block j u (fun e=>hb (by grind)));refine⟨f,s,rfl,a.qD,a.1.frozen (d+2),f,?_,?_,?_⟩
  .refine⟨(F.set (d+1) (uZ ((x+1:Nat):Int))).set (d+2) (dB f m s),⟨some (aA f 0),s,?_,by rw[z.out.1];exact o3,o4,rfl,.inr ⟨f,X,rfl,g,Y.kH _ _ g,Z,by rw[z.out.1,o5,z.out.2],o6⟩⟩,?_⟩;.rw[z.out.1];exact⟨a.1.setCell (d+2) _,by rw[ay _ _ _ _ aj];exact a.2.1,by rw[ay _ _ _ _ aj];exact a.2.2.1,cZ _ _ _ _ a.2.2.2⟩
   .exact(ni.set _ _ _ _ _ aj aj).trans (ni.set _ _ _ _ _ aj aj)
  .refine⟨y.os.trans q.os,y.tape.trans q.tape,y.output.trans q.output,?_,?_⟩;.have:=y.size;show w.heap.size<=(o.heap.modify _ _).size;simp;omega
   .intro k V g N;rw[jg _ _ _ _ g,y.block k aj (fun e=>N (by grind)),q.block k V g N]
  grind
 clear n B q I u r hB hl hone z O;go_enter func170,ntmps170;go_wp2_with fail;rw[<-p];clear p;go_wp2_with (go_at_call 225;refine J.out.mono ?_;intro e o L;obtain⟨f,s,rfl,q1,q2,HQ⟩:=P.out e o L;clear L P J);go_end0;grind
def qja(c e:Nat)(l:bM)(d:Int)(row:Option Nat)(w:Wq)(x:Nat×bY)(w':Wq):Prop:=
 ∃a,LH w' c e l d x.1 x.2 a/\Kept w w' c row/\(a=row\/∃b,a=some b/\w.heap.size<=b)
theorem VY(m k l)(d e:Nat)(f a rs row w)(o:Ep w m k l f a rs row)(g:Rg.Ok 18446744073709551616 1000000 a rs)(E:e<18446744073709551616):bN 127 #[aK m k,uZ d,uZ e] w (.tuple #[]) fun C=>qja m k l f row w (Rg.add (max f 1).toNat a rs d e) C:=by
 have i:=o;obtain⟨base,c,K,Q,S,T,U⟩:=o;have k1:=K.JO;have t:((max d a:Nat):Int)=max (d:Int) (a:Int):=aj;by_cases s:e<max d a
 .have HF:Hid (qja m k l f row w (Rg.add (max f 1).toNat a rs d e) w):=by
   unfold Hid Rg.add;rw[dN s];exact⟨row,⟨l,i,ni.refl _ _ _⟩,⟨rfl,rfl,rfl,aI _,fun _ _ _ _=>rfl⟩,.inl rfl⟩
  have P:(e:Int)<max (d:Int) (a:Int):=aj;clear K Q S T U i t s;go_enter QG,QC;go_wp2_with fail;refine bodyPost_ret (results_none rfl _ _ _) rfl ?_;exact⟨rfl,HF.out⟩
 .have G:=g.len;have V:=qkm k l (max d a) e f a g.Q5 (Y7 g.Q5 g.hi) G aj E K U Q S;rw[<-T,t]at V;have P:¬((e:Int)<max (d:Int) (a:Int)):=aj;have n:Hid (Rg.add (max f 1).toNat a rs d e=if(max f 1).toNat<(Rg.ins (max d a) e rs).length then(((Rg.ins (max d a) e rs).getD 0 (0,0)).2+1,(Rg.ins (max d a) e rs).tail)else(a,Rg.ins (max d a) e rs)):=by unfold Hid Rg.add;grind
  have z:=St.aG (Rg.qZ rs (max d a) e aj g.Q5);have O:Hid (∀r∈Rg.ins (max d a) e rs,r.2<18446744073709551616):=fun r u=>by have:=Rg.xg rs (max d a) e 18446744073709551615 aj (fun x hx=>fT (g.hi x hx)) r u;omega
  have h0:=Rg.uP rs (max d a) e;have H:=St.aG V;generalize Rg.ins (max d a) e rs=R at *
  generalize Rg.add (max f 1).toNat a rs d e=A at *
  clear V t K Q S T U i s g E;by_cases h6:max f 1<(R.length:Int)
  .have L:Hid (A=((R.getD 0 (0,0)).2+1,R.tail)):=by unfold Hid;rw[n.out,dN aj]
   have hx:=Rg.qf5 z.out O.out aj;have HD:Hid (∀W y D,Ep W m k y f a R D->bN 170 #[aK m k] W (.tuple #[]) fun C=>∃B,LH C m k y f ((R.getD 0 (0,0)).2+1) R.tail (some B)/\Kept W C m D/\(some B=D\/W.heap.size<=B)):=
    fun W y D hs=>VX m k y f a R D W hs aj aj hx
   clear n z O;go_enter QG,QC;go_wp2_with (go_at_call 168;refine bK H.out ?_;rintro C ⟨B,b,F,u⟩);obtain⟨y,b,j⟩:=b;have p:=St.aG j;clear j;obtain⟨q,c',j0,j1,j2⟩:=b.cells;have N:=St.aG b;have I:=St.aG F;have J:=St.aG u;clear b F u H k1 P;go_quiet ((go_at_call 169;exact nC (FM m k f _ (by simpa using j0))));have M:=St.aG (HD.out _ _ _ (Ep.drewN N.out nq));go_wp2_with (go_at_call 170;refine bK M.out ?_;rintro w2 ⟨b2,v,X,Y⟩);go_end0;refine⟨rfl,some b2,by rw[L.out];obtain⟨l2,v,Z⟩:=v;exact⟨l2,v,p.out.trans Z⟩,?_,?_⟩
   .refine(Kept.drewN I.out nq).trans X ?_;rcases J.out with h|h;.exact .inl h
    grind
   .have iD:=I.out.size;rcases Y with h|h
    .rw[h];rcases J.out with h'|h';.exact .inl h'
     grind
    .exact .inr ⟨b2,rfl,dx iD h⟩
  .have L:Hid (A=(a,R)):=by unfold Hid;rw[n.out,b_ aj]
   clear n z O;go_enter QG,QC;go_wp2_with (go_at_call 168;refine bK H.out ?_;rintro C ⟨B,b,F,u⟩);obtain⟨y,b,j⟩:=b;have p:=St.aG j;clear j;obtain⟨q,c',j0,j1,j2⟩:=b.cells;have N:=St.aG b;have I:=St.aG F;have J:=St.aG u;clear b F u H k1 P;go_quiet ((go_at_call 169;exact nC (FM m k f _ (by simpa using j0))));go_wp2;go_end0;refine⟨rfl,some B,by rw[L.out];exact⟨y,Ep.drewN N.out _,p.out⟩,Kept.drewN I.out _,?_⟩;rcases J.out with h|h;.exact .inl h
   grind
end Go.Proofs.YtphbledmopchnaaGreatDoor.Sd
namespace Go.Proofs.YtphbledmopchnaaGreatDoor.Sd
open Go.RowKit Go.Lib Mm Tryz
variable {L:List FV}{S aB i j k n s t:Nat}{T:List Nat}{a b c v:Wx}{aX oZ:Own}{cs l:bM}{f:Fr}{m m':Ot}{q:FV->Bool}{rs:bY}{w w' y z:Wq}{x:NS}
def pU(oZ:Own)(t:Nat)(w:Wq)(S:Nat)(a:Wx)(rs:bY):Prop:=
 ∃base c,a=.slice base rs.length c/\rs.length<=c/\c<=9223372036854775807/\St.mG w S base c rs/\∀b,base.map (·.block)=some b->oZ b=t
theorem pU.kp{g}(h:pU oZ t w S g rs)(K:Kp T oZ aX w w')(m:t∉T):pU aX t w' S g rs:=by
 obtain⟨base,c,i,j,k,f,l⟩:=h;have a:=fun b a=>(St.rz f b a).2;exact⟨base,c,i,j,k,f.of_heap (fun b d=>by
  have e:base.map (·.block)=some b:=by rw[d];rfl
  exact K.cK b (a b e) (by grind)),fun b e=>by rw[K.ext b (a b e),l b e]⟩
structure Ng (l:bM) (o:Nat) (m:Ot) (vb va vc:Wx):Prop where
 c0:l[o]?=some vb
 c1:l[o+1]?=some (.bool m.bL)
 nt:zR l (o+2) m.nt
 c6:l[o+6]?=some (uZ m.aN)
 c7:l[o+7]?=some (uZ m.dI)
 c8:l[o+8]?=some (iZ 2049)
 c9:l[o+9]?=some (uZ m.eH.fl)
 wD:l[o+10]?=some va
 zT:l[o+11]?=some (iZ 2049)
 Aq:l[o+12]?=some (uZ m.aT.fl)
 c13:l[o+13]?=some vc
def Ng.iB{l l' o o' n' m b a c}(h:Ng l o m b a c)(w:ni l l' o' n')(d:o+14<=o'\/o'+n'<=o):Ng l' o m b a c:=
 ⟨by rw[w.2 _ aj,h.c0],by rw[w.2 _ aj,h.c1],h.nt.iB w aj,by rw[w.2 _ aj,h.c6],by rw[w.2 _ aj,h.c7],by rw[w.2 _ aj,h.c8],by rw[w.2 _ aj,h.c9],by rw[w.2 _ aj,h.wD],by rw[w.2 _ aj,h.zT],by rw[w.2 _ aj,h.Aq],by rw[w.2 _ aj,h.c13]⟩
def EC(oZ:Own)(t:Nat)(w:Wq)(S:Nat)(l:bM)(o:Nat)(m:Ot):Prop:=
 ∃b a c,Ng l o m b a c/\GT oZ t 5 1 w b m.aB.length (cO m.aB)/\pU oZ (t+1) w S a m.eH.rs/\pU oZ (t+2) w S c m.aT.rs
def EC.kp{oZ aX t w w' S l l' o o' n' m T}(h:EC oZ t w S l o m)(K:Kp T oZ aX w w')(i:t∉T)(a:t+1∉T)(b:t+2∉T)(p:ni l l' o' n')(g:o+14<=o'\/o'+n'<=o):EC aX t w' S l' o m:=by obtain⟨k,j,n,c,d,e,f⟩:=h;exact⟨k,j,n,c.iB p g,d.kp K i,e.kp K a,f.kp K b⟩
def qO(S o n c a)(w:Wq)(f:n<=2048)(d:w.cell? (aA S o)=some (.slice a n c)):bN 188 #[aK S o] w (uZ n) fun b=>b=w:=by have e:n<18446744073709551616:=aj;go_enter func188,ntmps188;go_wp2;go_ret;exact⟨rfl,rfl⟩
def JQ(S o f g w)(b:w.cell? (aA S (o+1))=some (.bool f))(c:w.cell? (aA S (o+2))=some (.bool g)):bN 186 #[aK S o] w (.bool (f||g)) fun a=>a=w:=by
 cases f;all_goals
  go_enter func186,ntmps186;go_wp2;go_ret;exact⟨dQ aR,rfl⟩
def qfg(S o x:Nat)(w)(b:w.cell? (aA S (o+7))=some (uZ x)):bN 315 #[aK S o] w (uZ x) fun a=>a=w:=by go_enter func315,ntmps315;go_wp2;go_ret;exact⟨rfl,rfl⟩
def JR(S o w):bN 241 #[aK S o] w (aK S (o+2)) fun a=>a=w:=by go_enter func241,ntmps241;go_wp2;go_ret;exact⟨rfl,rfl⟩
theorem CS(S o n c d:Nat)(a f g w)(j:n<=2048)(b:w.cell? (aA S o)=some (.slice a n c))(k:w.cell? (aA S (o+1))=some (.bool f))(l:w.cell? (aA S (o+2))=some (.bool g)):bN 317 #[aK S o,uZ d] w (.bool (f&& !g&&decide (d=n))) fun e=>e=w:=by
 have i:=aG (qO S o n c a w j b);clear b;cases f;.go_enter func317,ntmps317;go_wp2;go_ret;exact⟨rfl,rfl⟩
 .cases g;.go_enter func317,ntmps317;go_wp2_with (go_at_call 188;refine bK i.out ?_;rintro e rfl);go_ret;exact⟨dQ (by grind),rfl⟩
  .go_enter func317,ntmps317;go_wp2;go_ret;exact⟨rfl,rfl⟩
theorem nG(f d w)(g:f.aC<=dH)(j:f.data.size<=1000000000):bN 318 #[eX f d] w (uZ (bI f:Int)) fun k=>bJ w k:=by
 obtain⟨W,b⟩:=bU (w.alloc (.cells (f_ f d).toArray 65));have c:aS W w.heap.size 65 (f_ f d):=by grind [aS.new]
 have a:bJ w W:=by rw[b];exact(bP _ w).alloc (aI _) _
 have l:W.cell? (aA w.heap.size 2)=some (uZ f.aC):=c.cell 2;have m:W.cell? (aA w.heap.size 8)=some (.string f.data):=c.cell 8;have i:=aG a;have e:((bI f:Nat):Int)=(f.aC:Int)+(f.data.size:Int):=by unfold bI;omega
 unfold dH at g;have n:f.aC+f.data.size<18446744073709551616:=aj;have o:f.data.size<18446744073709551616:=aj;rw[e];clear e g j a c;unfold eX;unfold f_ at b;go_enter func318,ntmps318;go_wp2_with fail;rw[<-b];go_wp2;go_ret;exact⟨rfl,i.out⟩
theorem qpp(a b c:Nat):∃m:Nat,(∀d t w,(nU d t #[uZ a,uZ b,uZ c]).run prog w=.ok (uZ m) w)/\m=min (min a b) c:=by refine⟨min (min a b) c,fun d t w=>?_,rfl⟩;simp only[nU,Cu,Cv,Builtin.min2];grind [Sem.run_bind,Sem.run_pure,Result.andThen_ok]
def Y8(S o n c e dI d:Nat)(a w)(j:n<=2048)(r:dI+d<18446744073709551616)(f:w.cell? (aA S o)=some (.slice a n c))(l:w.cell? (aA S (o+6))=some (uZ e))(p:w.cell? (aA S (o+7))=some (uZ dI)):bN 343 #[aK S o,uZ d] w (uZ ((min (min n e) (dI+d):Nat):Int)) fun k=>∃q,k=w.drewN q:=by have g:=aG (fun q=>qO S o n c a (w.drewN q) j f);obtain⟨m,i,b⟩:=qpp n e (dI+d);rw[<-b];rw[YJ]at i;clear f b;go_enter func343,ntmps343;go_wp2;go_quiet ((go_at_call 188;exact nC (g.out _)));go_wp2;go_ret;exact⟨rfl,nq,rfl⟩
def Y9(o n)(r:Nat)(w)(b:aS w S TS l)(h:zR l o n):bN 312 #[aK S o,uZ r] w (.bool (n.aL r)) fun f=>∃q,f=w.drewN q:=by
 have d:w.cell? (aA S o)=some (.bool n.bG):=by rw[b.cell];exact h.c0
 have g:w.cell? (aA S (o+2))=some (uZ n.eH):=by rw[b.cell];exact h.c2
 have i:w.cell? (aA S (o+3))=some (uZ n.aT):=by rw[b.cell];exact h.c3
 obtain⟨m,j,a⟩:=min2 n.eH n.aT;have c:Hid (n.aL r=(n.bG&&decide (r<m))):=by unfold Hid;rw[a];rfl
 generalize n.aL r=B at *
 clear h b a;cases e:n.bG;all_goals
  rw[e]at d c;go_enter func312,ntmps312;go_wp2;go_quiet (fail);go_wp2;go_ret;exact⟨dQ (by rw[c.out];simp),nq,rfl⟩
def FN(o n k c a)(b:aS w S TS l)(g:k<=2048)(f:l[o]?=some (.slice a k c))(h:zR l (o+2) n):bN 258 #[aK S o] w (.bool (n.aL k)) fun i=>∃q,i=w.drewN q:=by have d:=aG (fun q=>qO S o k c a (w.drewN q) g (by rw[show(w.drewN q).cell? (aA S o)=w.cell? (aA S o)from rfl,b.cell];exact f));have e:=aG (fun q=>Y9 (o+2) n k (w.drewN q) b h);clear h b;go_enter func258,ntmps258;go_wp2;go_quiet ((first|(go_at_call 188;exact nC (d.out _))|(go_at_call 312;exact Calls.quiet_of (e.out _))));go_wp2;go_ret;exact⟨rfl,nq,rfl⟩
theorem Kp.lI(h:Kp T (loc oZ w.heap.size) aX w w'):Kp T oZ aX w w':=
 ⟨h.os,h.tape,h.output,h.size,fun b a c=>h.cK b a (by grind [jW]),fun b a=>by rw[h.ext b a,jW _ _ _ a]⟩
theorem pU.loc(h:pU oZ t w S a rs):pU (loc oZ w.heap.size) t w S a rs:=by obtain⟨base,c,d,f,g,i,j⟩:=h;exact⟨base,c,d,f,g,i,fun b e=>by grind [jW,St.rz]⟩
def GT.loc{e:WK}(h:GT oZ t e k w v n l):GT (loc oZ w.heap.size) t e k w v n l:=by
 rcases h with h|⟨g,cap,b,c,d,a,f⟩;.exact .inl h
 .exact .inr ⟨g,cap,b,c,by rw[jW _ _ _ a.lt,d],a,f⟩
def Y_{f a d}{e:Nat}(o:aS w S TS l)(g:l[a]?=some (iZ d))(h:l[a+1]?=some (uZ e))(i:l[a+2]?=some f)(p:pU oZ t w S f rs):∃row,Ep w S a l d e rs row/\∀b,row=some b->oZ b=t:=by obtain⟨base,c,rfl,j,k,m,n⟩:=p;exact⟨base.map (·.block),⟨base,c,⟨o,g,h,i⟩,j,k,rfl,m⟩,n⟩
def V3(s t:Nat)(oZ:Own)(S c:Nat)(l:bM)(e:Int)(w:Wq)(x:Nat×bY)(w':Wq):Prop:=
 ∃d a b,Kp [s,t] oZ d w w'/\aS w' S TS a/\ni l a c 3/\a[c]?=some (iZ e)/\a[c+1]?=some (uZ x.1)/\a[c+2]?=some b/\pU d t w' S b x.2
theorem Uz(s t)(a n i:Nat)(f)(g:Nat){u}(w)(D:aS w S TS l)(M:oZ S=s)(A:l[a]?=some (iZ f))(B:l[a+1]?=some (uZ g))(C:l[a+2]?=some u)(F:pU oZ t w S u rs)(m:St.Rg.Ok 18446744073709551616 1000000 g rs)(k:i<18446744073709551616):bN 127 #[aK S a,uZ n,uZ i] w (.tuple #[]) fun o=>V3 s t oZ S a l f w (St.Rg.add (max f 1).toNat g rs n i) o:=by obtain⟨row,E,q⟩:=Y_ D A B C F;refine bK (VY S a l n i f g rs row w E m k) ?_;rintro o ⟨L,⟨K,j,G⟩,d,N⟩;obtain⟨base,c,⟨v,x,y,z⟩,I,J,O,r⟩:=j;refine⟨rfl,fun b=>if w.heap.size<=b/\b<o.heap.size then t else oZ b,K,_,⟨d.os,d.tape,d.output,d.size,fun b h p=>d.block b h (fun e=>p (by grind)) (fun e=>p (by grind)),fun b h=>b_ aj⟩,v,G,x,y,z,base,c,rfl,I,J,r,fun b h=>?_⟩;have H:=(St.rz r b h).2;grind
def qfh(t)(a v:Nat)(d)(b:Nat){e}(w)(j:aS w S TS l)(f:l[a]?=some (iZ d))(g:l[a+1]?=some (uZ b))(h:l[a+2]?=some e)(k:pU oZ t w S e rs)(m:St.Rg.gP rs)(n:rs.length<=1000000):bN 128 #[aK S a,uZ v] w (.bool (NS.has ⟨b,rs⟩ v)) fun o=>bJ w o:=by obtain⟨base,c,rfl,p,q,i,r⟩:=k;exact Y6 a v d b l m n ⟨j,f,g,h⟩ i
structure Bh (x:NS):Prop where
 fl:x.fl=0
 so:St.Rg.gP x.rs
 hi:∀r∈x.rs,r.2<=2048
theorem zU:∀(b) (a B),St.Rg.gP b->(∀r∈b,a<=r.1)->(∀r∈b,r.2<=B)->b.length<=B+1-a
 |[],_,_,_,_,_=>aR
 |r::t,a,B,h,ha,hb=>by have d:=h.1;have e:=ha r aR;have f:=hb r aR;have:=zU t (a+1) B h.2.2 (fun x c=>fT (h.2.1 x c)) (fun x c=>hb x (by simp[c]));grind
def Bh.len(h:Bh x):x.rs.length<=2049:=by have:=zU x.rs 0 2048 h.so (fun _ _=>eG _) h.hi;omega
def Bh.ok(h:Bh x):St.Rg.Ok 18446744073709551616 1000000 x.fl x.rs:=
 ⟨h.so,fun r a=>fT (h.hi r a),fT h.len,by rw[h.fl];omega⟩
def Bh.add{x}(h:Bh x)(a b)(d:a<=b)(c:b<=2048):Bh (x.add 2049 a b)/\x.add 2049 a b=⟨0,St.Rg.ins a b x.rs⟩:=by
 have f:=St.Rg.qZ x.rs a b d h.so;have g:=St.Rg.xg x.rs a b 2048 c h.hi;have i:=zU _ 0 2048 f (fun _ _=>eG _) g;have e:x.add 2049 a b=⟨0,St.Rg.ins a b x.rs⟩:=by unfold NS.add St.Rg.add;rw[h.fl,b_ aj,show max a 0=a by omega,b_ aj]
 rw[e];exact⟨⟨rfl,f,g⟩,rfl⟩
theorem zo(s t j f A x){Q}(w)(B:aS w S TS l)(N:oZ S=s)(I:l[j]?=some (iZ 2049))(J:l[j+1]?=some (uZ x.fl))(K:l[j+2]?=some Q)(M:pU oZ t w S Q x.rs)(r:Bh x)(P:f.aC<=dH)(O:f.data.size<=1000000000)(h5:f.bL=true\/0<bI f):bN 345 #[aK S j,eX f A] w (.tuple #[]) fun o=>V3 s t oZ S j l 2049 w ((vG x f).fl,(vG x f).rs) o:=by
 obtain⟨W,m⟩:=bU (w.alloc (.cells (f_ f A).toArray 65));have C:aS W w.heap.size 65 (f_ f A):=by grind [aS.new]
 have p:bJ w W:=by rw[m];exact(bP _ w).alloc (aI _) _
 have iD:W.heap.size=w.heap.size+1:=by rw[m];simp
 have v:=aG (nG f A W P O);obtain⟨R,U,V,X,Y,Z,x6,x7,x8,x9,xf⟩:=bF C;have c:Hid (∀(y:Wq) (z:Nat),bJ W y->z=(if f.bL then bI f else bI f-1)->bN 127 #[aK S j,uZ f.aC,uZ z] y (.tuple #[]) fun o=>V3 s t oZ S j l 2049 w ((vG x f).fl,(vG x f).rs) o):=fun y z hy D=>by
  have g:=p.trans (hy.mono aj);have q:bI f<18446744073709551616:=by grind [bI,dH]
  refine(Uz s t j f.aC z 2049 x.fl y (B.of_heap (g.block _ B.lt)) N I J K (M.kp (Kp.below (T:=[]) g) aR) r.ok (by grind)).mono ?_;rintro e o ⟨rfl,aX,l',F,n,L⟩;refine⟨rfl,aX,l',F,⟨n.os.trans g.os,n.tape.trans g.tape,n.output.trans g.output,dx g.size n.size,fun b a hn=>(n.cK b (gK a g.size) hn).trans (g.block b a),fun b a=>n.ext b (gK a g.size)⟩,?_⟩;rw[D]at L;exact L
 have q:bI f<18446744073709551616:=by grind [bI,dH]
 clear B M I J K r P O N;generalize bI f=E at *
 have H:=aG C;clear C p;unfold eX;unfold f_ at m;rcases(Js f.bL).symm with hf|hf
 .have h0:0<E:=by
   grind
  rw[hf]at c;have i:((E-1:Nat):Int)=(E:Int)-1:=aj;have k:=aG hf;have h3:0<=(E:Int)-1:=aj;have h4:(E:Int)-1<18446744073709551616:=aj;clear hf;go_enter func345,ntmps345;go_wp2_with fail;rw[<-m];refine bK v.out ?_;rintro y d;have a:=H.out.of_heap (d.block _ aj);obtain⟨y0,y1,y2,y3,y4,G,y6,y7,y8,y9,yf⟩:=bF a;rw[k.out]at G;have u:=aG (c.out y (E-1) d rfl);rw[i]at u;clear d a R U V X Y Z x6 x7 x8 x9 xf c i m v;go_wp2_with fail;refine bK u.out ?_;rintro o hP;go_wp2;go_end0;grind
 .rw[hf]at c;have k:=aG hf;clear hf;go_enter func345,ntmps345;go_wp2_with fail;rw[<-m];refine bK v.out ?_;rintro y d;have a:=H.out.of_heap (d.block _ aj);obtain⟨y0,y1,y2,y3,y4,G,y6,y7,y8,y9,yf⟩:=bF a;rw[k.out]at G;have u:=aG (c.out y E d rfl);clear d a R U V X Y Z x6 x7 x8 x9 xf c m v;go_wp2_with fail;refine bK u.out ?_;rintro o hP;go_wp2;go_end0;grind
def mh(s t:Nat)(oZ:Own)(S o:Nat)(l:bM)(w:Wq)(m':Ot)(w':Wq):Prop:=
 ∃b a,Kp [s,t,t+1,t+2] oZ b w w'/\aS w' S TS a/\ni l a o 14/\EC b t w' S a o m'
theorem mh.refl{s t oZ S o l w w' m}(b:aS w S TS l)(c:EC oZ t w S l o m)(a:bJ w w'):mh s t oZ S o l w m w':=
 ⟨oZ,l,Kp.below a,b.of_heap (a.block _ b.lt),ni.refl _ _ _,c.kp (Kp.below (T:=[]) a) aR aR aR (ni.refl l (o+14) 0) aj⟩
def mh.after{o W}(d:bJ w W)(h:mh s t oZ S o l W m' w'):mh s t oZ S o l w m' w':=by obtain⟨a,e,b,c⟩:=h;exact⟨a,e,(Kp.below d).trans b,c⟩
def Za{o}(p:s<t)(n:EC oZ t w S l o m)(h:V3 s (t+1) oZ S (o+8) l 2049 w (x.fl,x.rs) w'):mh s t oZ S o l w {m with eH:=x} w':=by
 obtain⟨e,u,d,c,f,a,g,i,j,k⟩:=h;obtain⟨v,A,y,b,q,z,r⟩:=n;refine⟨e,u,c.mono aR,f,a.mono aj aj,v,d,y,⟨?_,?_,b.nt.iB a aj,?_,?_,g,i,j,?_,?_,?_⟩,q.kp c dZ,k,r.kp c dZ⟩;.rw[a.2 _ aj];exact b.c0
 .rw[a.2 _ aj];exact b.c1
 .rw[a.2 _ aj];exact b.c6
 .rw[a.2 _ aj];exact b.c7
 .rw[a.2 _ aj];exact b.zT
 .rw[a.2 _ aj];exact b.Aq
 .rw[a.2 _ aj];exact b.c13
def Zb{o}(p:s<t)(n:EC oZ t w S l o m)(h:V3 s (t+2) oZ S (o+11) l 2049 w (x.fl,x.rs) w'):mh s t oZ S o l w {m with aT:=x} w':=by
 obtain⟨e,u,d,c,f,a,g,i,j,k⟩:=h;obtain⟨y,v,A,b,q,r,z⟩:=n;refine⟨e,u,c.mono aR,f,a.mono aj aj,y,v,d,⟨?_,?_,b.nt.iB a aj,?_,?_,?_,?_,?_,g,i,j⟩,q.kp c dZ,r.kp c dZ,k⟩;.rw[a.2 _ aj];exact b.c0
 .rw[a.2 _ aj];exact b.c1
 .rw[a.2 _ aj];exact b.c6
 .rw[a.2 _ aj];exact b.c7
 .rw[a.2 _ aj];exact b.c8
 .rw[a.2 _ aj];exact b.c9
 .rw[a.2 _ aj];exact b.wD
structure vV (f:Fr):Prop where
 o:f.aC<=2048
 e:bI f<=2048
 ne:f.bL=true\/0<bI f
def vV.d(h:vV f):f.data.size<=1000000000:=by have:=h.e;unfold bI at this;omega
def vV.om(h:vV f):f.aC<=dH:=by have:=h.o;unfold dH;omega
theorem ED(s t o m f e w)(k:aS w S TS l)(v:oZ S=s)(p:s<t)(u:EC oZ t w S l o m)(d:Bh m.eH)(i:vV f):bN 319 #[aK S o,eX f e] w (.tuple #[]) fun b=>mh s t oZ S o l w (m.aw f) b:=by
 obtain⟨W,g⟩:=bU (w.alloc (.cells (f_ f e).toArray 65));have x:aS W w.heap.size 65 (f_ f e):=by grind [aS.new]
 have a:bJ w W:=by rw[g];exact(bP _ w).alloc (aI _) _
 have r:=u.kp (Kp.below (T:=[]) a) aR aR aR (ni.refl l (o+14) 0) aj;have c:=k.of_heap (a.block _ k.lt);have z:Hid (∀q,bN 345 #[(aK S (o+8)),eX f e] (W.drewN q) (.tuple #[]) fun b=>mh s t oZ S o l w (m.aw f) b):=fun q=>by have n:=r.kp (Kp.below (w':=W.drewN q) (T:=[]) ⟨rfl,rfl,rfl,aI _,fun _ _=>rfl⟩) aR aR aR (ni.refl l (o+14) 0) aj;obtain⟨D,C,E,j,A,y,B⟩:=n;refine bK (zo s (t+1) (o+8) f e m.eH (W.drewN q) c v j.c8 j.c9 j.wD y d i.om i.d i.ne) ?_;rintro b h;exact⟨rfl,mh.after (W:=W.drewN q) ⟨a.os,a.tape,a.output,a.size,a.block⟩ (Za p ⟨D,C,E,j,A,y,B⟩ h)⟩
 obtain⟨G,H,I,J,K,L,M,N,O,P,Q⟩:=bF x;clear x a r c u k v d i;unfold eX at *
 unfold f_ at g;go_enter func319,ntmps319;go_wp2_with fail;rw[<-g];clear g;go_region_with (go_at_call 345;refine bK (z.out _) ?_;rintro b F);all_goals go_wp2
 all_goals go_end0
 grind
theorem qfi(s t o m f c)(k:aS w S TS l)(O:oZ S=s)(v:s<t)(Y:0<s)(M:EC oZ t w S l o m)(u:Bh m.eH)(D:Bh m.aT)(r:vV f):bN 391 #[aK S o,eX f c] w (.tuple #[]) fun d=>mh s t oZ S o l w (m.cm f) d:=by
 obtain⟨W,x⟩:=bU (w.alloc (.cells (f_ f c).toArray 65));have C:aS W w.heap.size 65 (f_ f c):=by grind [aS.new]
 have a:bJ w W:=by rw[x];exact(bP _ w).alloc (aI _) _
 obtain⟨P,b⟩:=bU (loc oZ w.heap.size);have e:P S=s:=by rw[b,jW _ _ _ k.lt,O]
 have J:EC P t w S l o m:=by obtain⟨H,G,I,j,E,F,y⟩:=M;rw[b];exact⟨H,G,I,j,E.loc,F.loc,y.loc⟩
 have K:=J.kp (Kp.below (T:=[]) a) aR aR aR (ni.refl l (o+14) 0) aj;have n:=k.of_heap (a.block _ k.lt);have z:Hid (∀q,bN 345 #[(aK S (o+11)),eX f c] (W.drewN q) (.tuple #[]) fun d=>aS d w.heap.size 65 (f_ f c)/\bN 319 #[aK S o,eX f c] d (.tuple #[]) fun g=>mh s t oZ S o l w (m.cm f) g):=fun q=>by have B:=K.kp (Kp.below (w':=W.drewN q) (T:=[]) ⟨rfl,rfl,rfl,aI _,fun _ _=>rfl⟩) aR aR aR (ni.refl l (o+14) 0) aj;obtain⟨H,G,I,j,E,F,y⟩:=B;refine bK (zo s (t+2) (o+11) f c m.aT (W.drewN q) n e j.zT j.Aq j.c13 y D r.om r.d r.ne) ?_;rintro d h;have X:=mh.after (W:=W.drewN q) ⟨a.os,a.tape,a.output,a.size,a.block⟩ (Zb v ⟨H,G,I,j,E,F,y⟩ h);obtain⟨fP,l1,h0,i,h2,_⟩:=h;refine⟨rfl,bW C ⟨i.os,i.tape,i.output,i.size,i.cK,i.ext⟩ (by rw[b,jF _ _ _ (aI _)];simp;omega),?_⟩;obtain⟨iA,l2,A,R,U,V⟩:=X;refine bK (ED s t o _ f c d R (by rw[A.ext _ k.lt,e]) v V u r) ?_;rintro g N;obtain⟨qP,Z,p1,p2,p3,p4⟩:=N;rw[b]at A;exact⟨rfl,qP,Z,A.lI.trans p1,p2,U.trans p3,p4⟩
 obtain⟨x0,x1,x2,x3,x4,x5,x6,x7,x8,x9,xf⟩:=bF C;clear C a K n M k O u r J b e;unfold eX at *
 unfold f_ at x z;go_enter func391,ntmps391;go_wp2_with fail;rw[<-x];clear x;go_region_with (go_at_call 345;refine bK (z.out _) ?_;rintro d ⟨p,L⟩;obtain⟨y0,y1,y2,y3,y4,y5,y6,y7,y8,y9,yf⟩:=bF p;have Q:=aG L;clear L p x0 x1 x2 x3 x4 x5 x6 x7 x8 x9 xf z);all_goals go_wp2_with fail
 all_goals(refine bK Q.out ?_;rintro g N)
 all_goals go_wp2
 all_goals go_end0
 grind
def FP{a b c d}(h:a=c)(e:b=d):fB (.tuple #[uZ a,uZ b])=.returned (.tuple #[uZ c,uZ d]):=by rw[h,e]
def V4(a)(rs:bY)(e i)(b:i<rs.length):iN a (rs.drop i) e=if a<(rs.getD i (0,0)).1 then(a,min (rs.getD i (0,0)).1 e)else if e<=(rs.getD i (0,0)).2 then(e,e)else iN ((rs.getD i (0,0)).2+1) (rs.drop (i+1)) e:=by
 rw[Jp b];have:rs.getD i (0,0)=rs[i]:=by simp[b]
 rw[this];rfl
theorem Zc(t)(o d:Nat)(j:Nat){I}(w)(x:aS w S TS l)(B:l[o+1]?=some (uZ j))(C:l[o+2]?=some I)(N:pU oZ t w S I rs)(_hn:rs.length<=1000000)(E:∀r∈rs,r.1<18446744073709551615/\r.2<18446744073709551615):bN 344 #[aK S o,uZ d] w (.tuple #[(uZ ((NS.hole ⟨j,rs⟩ d).1:Int)),(uZ ((NS.hole ⟨j,rs⟩ d).2:Int))]) fun J=>bJ w J:=by
 obtain⟨base,c,rfl,v,h3,D,M⟩:=N;have Y:w.cell? (aA S (o+1))=some (uZ j):=by rw[x.cell];exact B
 have Z:w.cell? (aA S (o+2))=some (.slice base rs.length c):=by rw[x.cell];exact C
 obtain⟨X,y⟩:=bU (NS.hole ⟨j,rs⟩ d);rw[<-y];have A:Hid (iN j (rs.drop 0) d=X):=by unfold Hid;rw[y];rfl
 have z:=aG D;have L:=aG E;have K:=aG (fun f i=>V4 f rs d i);clear D E x B C M y;go_enter func344,ntmps344;go_wp2_with fail;go_loopw [4,17] (fun s4 s wr=>∃(f i:Nat),i<=rs.length/\s4=(uZ f)/\s=(iZ i)/\Hid (iN f (rs.drop i) d=X)/\Hid (bJ w wr)) (fun _ s _=>rs.length-(fE s).toNat);case atStart=>exact⟨j,0,eG _,rfl,rfl,A,bP _ w⟩
 case round=>
  clear A Y Z;obtain⟨f,i,Q,rfl,rfl,p,g⟩:=hrel;by_cases m:i<rs.length
  .have F:(i:Int)<(rs.length:Int):=aj;obtain⟨b,rfl,T,P,j2,j1⟩:=(z.out.of_heap (w':=wr) (fun b O=>g.out.block b (by
    have:=(St.rz z.out b (by rw[O];rfl)).2;exact this))).sI m
   have a:=K.out f i m;rw[p.out]at a;have G:rs.getD i (0,0)∈rs:=by grind
   obtain⟨U,V⟩:=L.out _ G;generalize (rs.getD i (0,0)).1=H at *
   generalize (rs.getD i (0,0)).2=q at *
   have k:=aG a;clear a p G;by_cases u:f<H
   .obtain⟨mn,R,n⟩:=min2 H d;have e:Hid (X=(f,mn)):=by unfold Hid;rw[k.out,dN u,n]
    clear k n;go_wp2_with fail;go_region
    all_goals go_wp2
    all_goals go_ret2
    all_goals exact⟨FP (by rw[e.out]) (by rw[e.out]),(g.out.alloc g.out.size _).drew⟩
   .by_cases v:d<=q
    .have e:Hid (X=(d,d)):=by unfold Hid;rw[k.out,b_ u,dN v]
     clear k;go_wp2;go_ret2;exact⟨FP (by rw[e.out]) (by rw[e.out]),g.out.alloc g.out.size _⟩
    .have e:Hid (iN (q+1) (rs.drop (i+1)) d=X):=by unfold Hid;rw[k.out,b_ u,b_ v]
     clear k;have W:q+1<18446744073709551616:=aj;go_wp2_with fail;go_roundw;case rel=>exact⟨q+1,i+1,aj,by go_num,by go_num,e,g.out.alloc g.out.size _⟩
     grind [fE]
  .obtain rfl:i=rs.length:=aj;have e:Hid (X=(f,d)):=by unfold Hid;rw[<-p.out,KZ];rfl
   clear p;go_wp2;go_ret2;exact⟨FP (by rw[e.out]) (by rw[e.out]),g.out⟩
def EC.open{o}(h:EC oZ t w S l o m)(d:aS w S TS l):∃a c e f,Ng l o m (.slice a m.aB.length c) e f/\m.aB.length<=c/\GT oZ t 5 1 w (.slice a m.aB.length c) m.aB.length (cO m.aB)/\pU oZ (t+1) w S e m.eH.rs/\pU oZ (t+2) w S f m.aT.rs/\w.cell? (aA S o)=some (.slice a m.aB.length c)/\w.cell? (aA S (o+1))=some (.bool m.bL)/\w.cell? (aA S (o+2))=some (.bool m.nt.bG)/\w.cell? (aA S (o+6))=some (uZ m.aN)/\w.cell? (aA S (o+7))=some (uZ m.dI):=by obtain⟨n,e,f,b,g,j,k⟩:=h;obtain⟨a,c,rfl,i,_⟩:=g.shape;exact⟨a,c,e,f,b,i,g,j,k,by rw[d.cell];exact b.c0,by rw[d.cell];exact b.c1,by rw[d.cell];exact b.nt.c0,by rw[d.cell];exact b.c6,by rw[d.cell];exact b.c7⟩
def FQ{o}(e)(p:aS w S TS l)(D:EC oZ t w S l o m)(F:m.aB.length<=2048)(H:m.dI+e<18446744073709551616)(d:Bh m.eH):bN 314 #[aK S o,uZ e] w (.tuple #[(uZ ((m.dF e).1:Int)),(uZ ((m.dF e).2:Int))]) fun f=>bJ w f:=by
 obtain⟨a,c,O,P,u,N,L,I,M,n,y,z,A,C⟩:=D.open p;have k:=aG (Y8 S o m.aB.length c m.aN m.dI e a w F H n A C);obtain⟨E,s⟩:=bU (min (min m.aB.length m.aN) (m.dI+e));have v:=aG (fun q=>CS S o m.aB.length c E a m.bL m.nt.bG (w.drewN q) F n y z);have x:=aG (fun q J=>Zc (t+1) (o+8) J m.eH.fl (w.drewN q) p u.c9 u.wD (I.kp (Kp.below (w':=w.drewN q) (T:=[]) ⟨rfl,rfl,rfl,aI _,fun _ _=>rfl⟩) aR) (fT d.len) (fun r G=>hwZ (d.hi r G) (d.so.le r G)));have j:Hid (m.dF e=m.eH.hole (if(m.bL&& !m.nt.bG&&decide (E=m.aB.length))then E+1 else E)):=by unfold Hid;rw[s];rfl
 have K:E<=2048:=aj;rw[<-s]at k;generalize m.dF e=X at *
 generalize (m.bL&& !m.nt.bG&&decide (E=m.aB.length))=B at *
 clear D p u L I M n y z A C d H s;cases B with
 |false=>go_enter func314,ntmps314;go_wp2_with fail;refine bK k.out ?_;rintro f ⟨q,rfl⟩;go_wp2_with fail;refine bK (v.out q) ?_;rintro f rfl;go_wp2_with fail;refine bK (x.out q E) ?_;rintro f i;have b:=aG i;clear i;go_wp2;go_ret2;exact⟨FP (by rw[j.out];rfl) (by rw[j.out];rfl),b.out.os,b.out.tape,b.out.output,b.out.size,b.out.block⟩
 |true=>go_enter func314,ntmps314;go_wp2_with fail;refine bK k.out ?_;rintro f ⟨q,rfl⟩;go_wp2_with fail;refine bK (v.out q) ?_;rintro f rfl;go_wp2_with fail;have g:=aG (x.out q (E+1));rw[show((E+1:Nat):Int)=(E:Int)+1 by omega]at g;refine bK g.out ?_;rintro f i;have b:=aG i;clear i;go_wp2;go_ret2;exact⟨FP (by rw[j.out];rfl) (by rw[j.out];rfl),b.out.os,b.out.tape,b.out.output,b.out.size,b.out.block⟩
def Zd(t o m a w)(c:aS w S TS l)(d:EC oZ t w S l o m)(k:m.aB.length<=2048)(n:m.dI+a<18446744073709551616)(b:Bh m.eH):bN 264 #[aK S o,uZ a] w (.bool (m.aL a)) fun f=>bJ w f:=by
 have i:=aG (FQ a c d k n b);have j:Hid (m.aL a=decide ((m.dF a).1<(m.dF a).2)):=rfl;generalize m.aL a=B at *
 generalize (m.dF a).1=q at *
 generalize (m.dF a).2=p at *
 clear c d b;go_enter func264,ntmps264;go_wp2_with fail;refine bK i.out ?_;rintro f e;have g:=aG e;clear e;go_wp2;go_ret;exact⟨dQ (by rw[j.out,decide_eq_decide]<;>omega),g.out⟩
def EF{o}(p:aS w S TS l)(g:oZ S=s)(u:s<t)(q:EC oZ t w S l o m)(j v)(r:o<=j)(e:j<o+14)(h:∀c b d,Ng l o m c b d->Ng (l.set j v) o m' c b d)(i:m'.aB=m.aB)(k:m'.eH=m.eH)(n:m'.aT=m.aT):mh s t oZ S o l w m' (w.setCell (aA S j) v):=by
 have a:=gZ.one p j v o 14 r e;obtain⟨c,b,d,x,y,z,A⟩:=q;have f:=a.kp g (T:=[s]) aR;refine⟨oZ,_,a.kp g aR,a.cK,a.iB,c,b,d,h _ _ _ x,?_,?_,?_⟩;.rw[i];exact y.kp f dZ
 .rw[k];exact z.kp f dZ
 .rw[n];exact A.kp f dZ
def zR.set{l o j v n}(h:zR l o n)(a:j<o\/o+4<=j):zR (l.set j v) o n:=
 ⟨(ay _ _ _ _ aj).trans h.c0,(ay _ _ _ _ aj).trans h.c1,(ay _ _ _ _ aj).trans h.c2,(ay _ _ _ _ aj).trans h.c3⟩
def qfj{o d}(h:Ng l o m c a d)(b):Ng (l.set (o+1) (.bool b)) o {m with bL:=b} c a d:=
 ⟨(ay _ _ _ _ aj).trans h.c0,cZ _ _ _ _ h.c1,h.nt.set aj,(ay _ _ _ _ aj).trans h.c6,(ay _ _ _ _ aj).trans h.c7,(ay _ _ _ _ aj).trans h.c8,(ay _ _ _ _ aj).trans h.c9,(ay _ _ _ _ aj).trans h.wD,(ay _ _ _ _ aj).trans h.zT,(ay _ _ _ _ aj).trans h.Aq,(ay _ _ _ _ aj).trans h.c13⟩
def V7{o}(h:Ng l o m b a c)(x:Nat):Ng (l.set (o+6) (uZ x)) o {m with aN:=x} b a c:=
 ⟨(ay _ _ _ _ aj).trans h.c0,(ay _ _ _ _ aj).trans h.c1,h.nt.set aj,cZ _ _ _ _ h.c6,(ay _ _ _ _ aj).trans h.c7,(ay _ _ _ _ aj).trans h.c8,(ay _ _ _ _ aj).trans h.c9,(ay _ _ _ _ aj).trans h.wD,(ay _ _ _ _ aj).trans h.zT,(ay _ _ _ _ aj).trans h.Aq,(ay _ _ _ _ aj).trans h.c13⟩
def Ob{o}(h:Ng l o m b a c)(x:Nat):Ng (l.set (o+7) (uZ x)) o {m with dI:=x} b a c:=
 ⟨(ay _ _ _ _ aj).trans h.c0,(ay _ _ _ _ aj).trans h.c1,h.nt.set aj,(ay _ _ _ _ aj).trans h.c6,cZ _ _ _ _ h.c7,(ay _ _ _ _ aj).trans h.c8,(ay _ _ _ _ aj).trans h.c9,(ay _ _ _ _ aj).trans h.wD,(ay _ _ _ _ aj).trans h.zT,(ay _ _ _ _ aj).trans h.Aq,(ay _ _ _ _ aj).trans h.c13⟩
def JU{o d}(h:Ng l o m d a b)(v c):Ng (l.set o v) o {m with aB:=c} v a b:=
 ⟨cZ _ _ _ _ h.c0,(ay _ _ _ _ aj).trans h.c1,h.nt.set aj,(ay _ _ _ _ aj).trans h.c6,(ay _ _ _ _ aj).trans h.c7,(ay _ _ _ _ aj).trans h.c8,(ay _ _ _ _ aj).trans h.c9,(ay _ _ _ _ aj).trans h.wD,(ay _ _ _ _ aj).trans h.zT,(ay _ _ _ _ aj).trans h.Aq,(ay _ _ _ _ aj).trans h.c13⟩
def nk(e:Nat):Wx:=if e=0 then .nilIface else .iface 57 (iZ e)
def V8(s t o m)(b:aS w S TS l)(v:oZ S=s)(f:s<t)(e:EC oZ t w S l o m):bN 148 #[aK S o] w (nk m.finish.2) fun g=>mh s t oZ S o l w m.finish.1 g:=by
 obtain⟨a,c,D,E,x,C,y,z,A,n,p,q,r,u⟩:=e.open b;have i:=aG (JQ S o m.bL m.nt.bG w p q);have f1:=b.frozen (o+1);have j:=aG (EF b v f e (o+1) (.bool true) aj aj (m':={m with bL:=true}) (fun _ _ _ h=>qfj h true) rfl rfl rfl);have k:=aG (mh.refl (s:=s) b e (bP _ w));have d:Hid (m.finish=if(m.bL||m.nt.bG)then(m,4)else({m with bL:=true},0)):=rfl;generalize m.finish=X at *
 generalize (m.bL||m.nt.bG)=B at *
 clear e b x y z A n r u;cases B with
 |true=>go_enter func148,ntmps148;go_wp2_with fail;refine bK i.out ?_;rintro g rfl;go_wp2;go_ret;exact⟨by rw[d.out];rfl,by rw[d.out];exact k.out⟩
 |false=>go_enter func148,ntmps148;go_wp2_with fail;refine bK i.out ?_;rintro g rfl;go_wp2;go_ret;exact⟨by rw[d.out];rfl,by rw[d.out];exact j.out⟩
def Ze(s t)(o x:Nat)(m w)(d:aS w S TS l)(p:oZ S=s)(f:s<t)(e:EC oZ t w S l o m):bN 237 #[aK S o,uZ x] w (.tuple #[]) fun z=>mh s t oZ S o l w {m with aN:=max m.aN x} z:=by obtain⟨a,c,D,E,q,B,r,u,v,i,j,k,A,n⟩:=e.open d;have f6:=d.frozen (o+6);obtain⟨y,C,b⟩:=max2 m.aN x;rw[<-b];have g:=aG (EF d p f e (o+6) (uZ y) aj aj (m':={m with aN:=y}) (fun _ _ _ h=>V7 h y) rfl rfl rfl);clear e d q r u v i j k n b;go_enter func237,ntmps237;go_wp2;go_end0;exact⟨rfl,g.out⟩
def zV(oZ:Own)(t a b:Nat):Own:=fun k=>if a<=k/\k<b then t else oZ k
theorem uV(oZ t a b k)(h:k<a):zV oZ t a b k=oZ k:=b_ aj
def zW(oZ t a b k)(h:a<=k)(c:k<b):zV oZ t a b k=t:=dN ⟨h,c⟩
theorem gI{t e z}(E:LA t e z k aB){g}(h:GT oZ g e k w v n l)(a m mc f)(M:f.length=m*k)(H:∀v∈f,v.oneCell'=true)(p:∀j u,f[j]?=some u->w.cell? (a.add j)=some u)(U:n+m<=1000000000000):∃G s x,(∀i,(l9 #[t,t] i #[v,.slice (some a) m mc]).run prog w=.ok G s)/\GT x g e k s G (n+m) (l++f)/\Kp [g] oZ x w s:=by
 have A:(n+m)*aB<=140737488355328:=dx (Nat.mul_le_mul U E.hb) kX;have L:=h.len;have V:(n+m)*k=n*k+m*k:=Cw _ _ _;have grow:∀base c (d:bM),d=l->c<n+m->(base=none/\d=[]\/∃b:XK,base=some b/\d.length=n*k/\∀j v,d[j]?=some v->w.cell? (b.add j)=some v)->(∀v∈d,v.oneCell'=true)->∃G s x,(∀i,(l9 #[t,t] i #[.slice base n c,.slice (some a) m mc]).run prog w=.ok G s)/\GT x g e k s G (n+m) (l++f)/\Kp [g] oZ x w s:=by
  intro base c d K D C Q;have q:=fun i=>jX (P:=prog) (w:=w) t t i e _ k aB E.ht E.ht E.hi (base:=base) (n:=n) (c:=c) (m:=m) (mc:=mc) (cs:=d) C a (vs:=f) M p H D A aj;have I:=grownCap_ge w (n+m) c e;have o:=grownCap_le_maxLen w (n+m) c e (by unfold maxLen;omega);unfold maxLen at o;have J:d.length=n*k:=by rw[K,L]
  refine⟨_,_,zV oZ g w.heap.size (w.heap.size+1),q,.inr ⟨w.heap.size,_,_,rfl,zW _ _ _ _ _ (aI _) aj,aS.new w e _,?_,I,o,by grind,?_,?_⟩,?_⟩
  .rw[lM,lM,E.hz,J,M];have:(grownCap w (n+m) c e-(n+m))*k+(n+m)*k=grownCap w (n+m) c e*k:=by rw[<-Cw];grind
   omega
  .grind
  .intro u F;rcases iJ.1 F with F|F;.grind
   .exact E.h1 _ u F
  .have y:bJ w (w.drew.alloc (.cells (d++f++(eB z.cells (grownCap w (n+m) c e-(n+m))).toList).toArray e)):=(bP _ w).drew.alloc (aI _) _;exact⟨y.os,y.tape,y.output,y.size,fun b r _=>y.block b r,fun b r=>uV _ _ _ _ _ r⟩
 rcases h with⟨rfl,rfl,rfl⟩|⟨b,cap,d,rfl,ho,hB,h2,h3,h4,h5,h6,h7⟩
 .by_cases R:m=0
  .subst R;obtain rfl:f=[]:=by grind
   exact⟨_,_,oZ,fun i=>Eo E w (some a) mc i,.inl ⟨rfl,rfl,rfl⟩,Kp.refl _ _ _⟩
  .exact grow none 0 [] rfl aj (.inl ⟨rfl,rfl⟩) (fun v T=>by simp at T)
 .by_cases D:n+m<=cap
  .have N:(n+m)*k<=cap*k:=EZ _ D;have q:=fun i=>ig (P:=prog) (w:=w) t t i e _ k aB E.ht E.ht E.hi (n:=n) (c:=cap) (m:=m) (mc:=mc) hB a (vs:=f) M p H D aj;have S:=jd d f (n*k) aj;refine⟨_,_,oZ,q,.inr ⟨b,cap,_,rfl,ho,hB.put _,?_,D,h4,by grind,?_,dS h7 H⟩,?_⟩;.grind [cu]
   .grind
   .have B:=eU w b (bC d (n*k) f);exact⟨B.os,B.tape,B.output,B.size,fun j O W=>B.block j O (fun e=>by grind),fun _ _=>rfl⟩
  .exact grow (some (aA b 0)) cap l rfl aj (.inr ⟨_,rfl,h5,fun j u O=>by rw[gT,gG,hB.cell];grind⟩) (fun u F=>h7 u (by grind))
def Ng.al{o}(h:Ng l o m b a c)(x):Ng l o {m with all:=x} b a c:=⟨h.c0,h.c1,h.nt,h.c6,h.c7,h.c8,h.c9,h.wD,h.zT,h.Aq,h.c13⟩
def Bj:LA 60 5 (.int .u8 0) 1 1:=⟨u29,Ny,fun n=>by rw[xW];omega,CF,aj⟩
theorem qfk(s t o m){d}(a c)(n:aS w S TS l)(Y:oZ S=s)(h0:s<t)(q:EC oZ t w S l o m)(hl:m.aB.length<=2048)(g:dX w (some a) d)(_hbl:d.length<=1000000000):bN 147 #[aK S o,.slice (some a) d.length c] w (nk (m.send d).2) fun D=>mh s t oZ S o l w (m.send d).1 D:=by
 obtain⟨P,Q,va,vc,x,Z,z,A,C,R,U,V,F,G⟩:=q.open n;have E:=aG (JQ S o m.bL m.nt.bG w U V);have K:=aG (mh.refl (s:=s) n q (bP _ w));have k:Hid (m.send d=if(m.bL||m.nt.bG)then(m,4)else if 2048<m.aB.length+d.length then(m,3)else({m with aB:=m.aB++d,all:=m.all++d},0)):=rfl;have r1: -9223372036854775808<=2048-(m.aB.length:Int):=aj;have r2:2048-(m.aB.length:Int)<9223372036854775808:=aj;generalize m.send d=X at *
 generalize (m.bL||m.nt.bG)=B at *
 cases B with
 |true=>clear q n x z A C R F G g;go_enter func147,ntmps147;go_wp2_with fail;refine bK E.out ?_;rintro D rfl;go_wp2;go_ret;exact⟨by rw[k.out];rfl,by rw[k.out];exact K.out⟩
 |false=>
  by_cases e:2048<m.aB.length+d.length;.have I:2048-(m.aB.length:Int)<(d.length:Int):=aj;rw[dN e]at k;clear q n x z A C F G g e;go_enter func147,ntmps147;go_wp2_with fail;refine bK E.out ?_;rintro D rfl;go_wp2;go_ret;exact⟨by rw[k.out];rfl,by rw[k.out];exact K.out⟩
  .have I:¬(2048-(m.aB.length:Int)<(d.length:Int)):=aj;rw[b_ e]at k;obtain⟨v',O,N,r,y,p⟩:=gI Bj z a d.length c (cO d) (by rw[fC];omega) (jT d) (fun j u hj=>by
    have J:j<d.length:=by grind [List.getElem?_eq_some_iff,fC]
    obtain⟨b,h2,ha,Z⟩:=g j J;grind [Addr.add_lit,cO]) aj
   obtain⟨L,M,rfl,_,_⟩:=y.shape;rw[<-kU]at y;have v:oZ S∉[t]:=by grind
   have f:=bW n p v;have W:Hid (mh s t oZ S o l w {m with aB:=m.aB++d,all:=m.all++d} (O.setCell (aA S o) (.slice L (m.aB.length+d.length) M))):=by have H:=gZ.one f o (.slice L (m.aB.length+d.length) M) o 14 aj aj;have i:=H.kp (s:=s) (oZ:=N) (by rw[p.ext _ n.lt,Y]) (T:=[s]) aR;refine⟨N,_,(p.mono aR).trans (i.mono aR),H.cK,H.iB,_,va,vc,(JU x _ _).al _,?_,(A.kp p aR).kp i dZ,(C.kp p aR).kp i dZ⟩;have:=y.kp i dZ;grind
   have e0:O.cell? (aA S o)=some (.slice P m.aB.length Q):=by rw[f.cell];exact x.c0
   have f0:=f.frozen o;clear q n x z A C F G g e y p f v;go_enter func147,ntmps147;go_wp2_with fail;refine bK E.out ?_;rintro D rfl;go_wp2_with (at_builtin;refine ji _ rfl _ _ _ _ rfl _ _ rfl rfl _ _ (r _) ?_);go_wp2;go_ret;exact⟨by rw[k.out];rfl,by rw[k.out];exact W.out⟩
abbrev nH(B:Nat)(v:Wx):Prop:=Go.Proofs.YtphbledmopchnaaGreatDoor.Own B v
def Rd(k:Nat)(w:Wq)(v:Wx)(n:Nat)(l:bM):Prop:=
 v=nZ/\n=0/\l=[]\/∃g cap,v=(dB g n cap)/\g<w.heap.size/\l.length=n*k/\(∀j u,l[j]?=some u->w.cell? (aA g j)=some u)/\∀u∈l,u.oneCell'=true
def Rd.below(h:Rd k w v n l)(b:bJ w w'):Rd k w' v n l:=by
 rcases h with h|⟨g,cap,c,a,d,e,f⟩;.exact .inl h
 .exact .inr ⟨g,cap,c,gK a b.size,d,fun j u i=>(b.cell (p:=(aA g j)) a).trans (e j u i),f⟩
theorem GT.rd{e}(h:GT oZ t e k w v n l):Rd k w v n l:=by
 rcases h with h|⟨g,cap,f,b,i,a,m,o,p,c,q,d⟩;.exact .inl h
 .refine .inr ⟨g,cap,b,a.lt,c,fun j u r=>?_,fun u s=>d u (by grind)⟩;rw[a.cell];grind
theorem pU.rd(h:pU oZ t w S a rs):Rd 2 w a rs.length (St.bX rs):=by
 obtain⟨base,c,rfl,e,f,d,g⟩:=h;rcases d with⟨rfl,rfl,rfl⟩|⟨b,l,rfl,_,hB,hl,ht,h1⟩;.exact .inl ⟨rfl,rfl,rfl⟩
 .refine .inr ⟨b,c,rfl,hB.lt,by grind,fun j u i=>?_,St.oJ rs⟩;rw[hB.cell];grind
def JV(n):(eB (nV false).cells n).toList.length=n:=by simp[eB,mE]
def V9(n):∀v∈(eB (nV false).cells n).toList,v.oneCell'=true:=by intro v a;simp[eB,mE]at a;obtain⟨i,_,rfl⟩:=a;have:i % 1=0:=aj;rw[this];rfl
def CV:LA 156 4 (.bool false) 1 1:=⟨bZ,bZ,fun n=>by rw[JV];omega,V9,aj⟩
theorem yt{t e z}(E:LA t e z k aB)(w g n cap l)(J:g<w.heap.size)(K:l.length=n*k)(O:∀j u,l[j]?=some u->w.cell? (aA g j)=some u)(H:∀u∈l,u.oneCell'=true)(Q:n<=1000000):∃o q i,(∀B,(l9 #[t,t] B #[dB w.heap.size 0 0,dB g n cap]).run prog (w.alloc (.cells #[] e))=.ok (.slice o n q) i)/\fO e k i (.slice o n q) n l/\nH w.heap.size (.slice o n q)/\bJ w i:=by
 obtain⟨a,d⟩:=bU (w.alloc (.cells #[] e));rw[<-d];have f:aS a w.heap.size e []:=by grind [aS.new]
 have b:bJ w a:=by rw[d];exact(bP _ w).alloc (aI _) _
 have L:a.heap.size=w.heap.size+1:=by rw[d];simp
 have h:∀j u,l[j]?=some u->a.cell? ((aA g 0).add j)=some u:=fun j u F=>by rw[gT,gG,b.cell (p:=(aA g j)) J];grind
 have D:nH w.heap.size (dB w.heap.size 0 0):=fun k y=>by simp[eT]at y;omega
 by_cases G:n=0
 .subst G;obtain rfl:l=[]:=by grind
  have A:=fun B=>ig (P:=prog) (w:=a) t t B e _ k aB E.ht E.ht E.hi (n:=0) (c:=0) (m:=0) (mc:=cap) f (aA g 0) (vs:=[]) aR (fun j v F=>by simp at F) (fun v x=>by cases x) (aI _) aR;refine⟨_,_,_,A,.inr ⟨w.heap.size,0,_,rfl,f.put _,by grind [cu],aI _,aj,aR,aR,fun v x=>by simp[bC]at x⟩,fun k y=>by simp[eT]at y;omega,?_⟩;exact b.trans (⟨(eU a w.heap.size _).os,(eU a w.heap.size _).tape,(eU a w.heap.size _).output,(eU a w.heap.size _).size,fun k y=>iI a _ k _ aj⟩:Below w.heap.size a _)
 .have s:fO e k a (dB w.heap.size 0 0) 0 []:=.inr ⟨w.heap.size,0,[],rfl,f,aR,aI _,aj,aR,aR,fun v x=>by cases x⟩;obtain⟨M,i,N,I,C⟩:=jL E s (aA g 0) n cap l K aj H h aj;have r:fO e k i M n l:=by grind
  obtain⟨o,q,rfl,_⟩:=r.shape;exact⟨o,q,i,N,r,C.own D aj,b.trans (C.below D aj)⟩
def Ru(w):(binOp BinOp.eql 63 nZ nZ).run prog w=.ok (.bool true) w:=bZ
def Oc(w a n c):(binOp BinOp.eql 63 (.slice (some a) n c) nZ).run prog w=.ok (.bool false) w:=bZ
def Rv(v n l w)(h:Rd 2 w v n l)(i:n<=1000000):WA prog 228 #[v] w fun e b=>∃a c,e=.returned (.slice a n c)/\fO 170 2 b (.slice a n c) n l/\nH w.heap.size (.slice a n c)/\bJ w b:=by
 rcases h with⟨rfl,rfl,rfl⟩|⟨g,cap,rfl,h2,h3,h4,h5⟩;.have j:=Ru w;go_enter func228,ntmps228;go_wp2;go_ret;exact⟨none,0,rfl,.inl ⟨rfl,rfl,rfl⟩,fun k f=>by simp[eT]at f,bP _ _⟩
 .have j:=Oc w (aA g 0) n cap;obtain⟨p,q,o,m,hF⟩:=yt Rl w g n cap l h2 h3 h4 h5 i;have d:=aG hF;clear hF h2 h3 h4 h5;go_enter func228,ntmps228;go_wp2_with (at_builtin;refine ji _ rfl _ _ _ _ rfl _ _ rfl rfl _ _ (m _) ?_);go_ret;exact⟨_,_,rfl,d.out⟩
def FT(w):(binOp BinOp.eql 54 nZ nZ).run prog w=.ok (.bool true) w:=bZ
def DV(w a n c):(binOp BinOp.eql 54 (.slice (some a) n c) nZ).run prog w=.ok (.bool false) w:=bZ
def Rw(v n l w)(h:Rd 10 w v n l)(i:n<=1000000):WA prog 272 #[v] w fun e b=>∃a c,e=.returned (.slice a n c)/\fO 65 10 b (.slice a n c) n l/\nH w.heap.size (.slice a n c)/\bJ w b:=by
 rcases h with⟨rfl,rfl,rfl⟩|⟨g,cap,rfl,h2,h3,h4,h5⟩;.have j:=FT w;go_enter func272,ntmps272;go_wp2;go_ret;exact⟨none,0,rfl,.inl ⟨rfl,rfl,rfl⟩,fun k f=>by simp[eT]at f,bP _ _⟩
 .have j:=DV w (aA g 0) n cap;obtain⟨p,q,o,m,hF⟩:=yt sU w g n cap l h2 h3 h4 h5 i;have d:=aG hF;clear hF h2 h3 h4 h5;go_enter func272,ntmps272;go_wp2_with (at_builtin;refine ji _ rfl _ _ _ _ rfl _ _ rfl rfl _ _ (m _) ?_);go_ret;exact⟨_,_,rfl,d.out⟩
def Rx(w):(binOp BinOp.eql 60 nZ nZ).run prog w=.ok (.bool true) w:=bZ
def Od(w a n c):(binOp BinOp.eql 60 (.slice (some a) n c) nZ).run prog w=.ok (.bool false) w:=bZ
def Ry(v n l w)(h:Rd 1 w v n l)(i:n<=1000000):WA prog 348 #[v] w fun e b=>∃a c,e=.returned (.slice a n c)/\fO 5 1 b (.slice a n c) n l/\nH w.heap.size (.slice a n c)/\bJ w b:=by
 rcases h with⟨rfl,rfl,rfl⟩|⟨g,cap,rfl,h2,h3,h4,h5⟩;.have j:=Rx w;go_enter func348,ntmps348;go_wp2;go_ret;exact⟨none,0,rfl,.inl ⟨rfl,rfl,rfl⟩,fun k f=>by simp[eT]at f,bP _ _⟩
 .have j:=Od w (aA g 0) n cap;obtain⟨p,q,o,m,hF⟩:=yt Bj w g n cap l h2 h3 h4 h5 i;have d:=aG hF;clear hF h2 h3 h4 h5;go_enter func348,ntmps348;go_wp2_with (at_builtin;refine ji _ rfl _ _ _ _ rfl _ _ rfl rfl _ _ (m _) ?_);go_ret;exact⟨_,_,rfl,d.out⟩
def Rz(w):(binOp BinOp.eql 156 nZ nZ).run prog w=.ok (.bool true) w:=bZ
def Oe(w a n c):(binOp BinOp.eql 156 (.slice (some a) n c) nZ).run prog w=.ok (.bool false) w:=bZ
def RA(v n l w)(h:Rd 1 w v n l)(i:n<=1000000):WA prog 349 #[v] w fun e b=>∃a c,e=.returned (.slice a n c)/\fO 4 1 b (.slice a n c) n l/\nH w.heap.size (.slice a n c)/\bJ w b:=by
 rcases h with⟨rfl,rfl,rfl⟩|⟨g,cap,rfl,h2,h3,h4,h5⟩;.have j:=Rz w;go_enter func349,ntmps349;go_wp2;go_ret;exact⟨none,0,rfl,.inl ⟨rfl,rfl,rfl⟩,fun k f=>by simp[eT]at f,bP _ _⟩
 .have j:=Oe w (aA g 0) n cap;obtain⟨p,q,o,m,hF⟩:=yt CV w g n cap l h2 h3 h4 h5 i;have d:=aG hF;clear hF h2 h3 h4 h5;go_enter func349,ntmps349;go_wp2_with (at_builtin;refine ji _ rfl _ _ _ _ rfl _ _ rfl rfl _ _ (m _) ?_);go_ret;exact⟨_,_,rfl,d.out⟩
def bkV(S k:Nat)(a:Int):Wx:=
 if a=4 then .iface 282 (aK S (4+27*k))else if a=3 then .iface 335 (aK S (6+27*k))else if a=6 then .iface 336 (aK S (18+27*k))else .iface 336 (aK S 221)
def OH(S o w):bN 242 #[aK S o] w (aK S o) fun a=>a=w:=by go_enter func242,ntmps242;go_wp2;go_ret;exact⟨rfl,rfl⟩
theorem Df(S k:Nat)(n:k<8)(f)(e:f.aF=(k:Int))(w):bN 198 #[aK S 0,eX f nZ] w (bkV S k f.aD) fun m=>bJ w m:=by
 unfold eX;rw[e];clear e;generalize f.aD=c;generalize f.aC=f2;generalize f.aO=f3;generalize f.aN=f4;generalize f.bL=f5;generalize f.id=f6;generalize f.aJ=f7;generalize f.data=f8;obtain⟨W,a⟩:=bU (w.alloc (.cells #[iZ c,iZ k,uZ f2,uZ f3,uZ f4,.bool f5,uZ f6,uZ f7,.string f8,nZ] 65));have b:bJ w W:=by rw[a];exact(bP _ w).alloc (aI _) _
 have d:Hid (∀q,bJ w (W.drewN q)):=fun q=>⟨b.os,b.tape,b.output,b.size,b.block⟩;have o:W.cell? (aA w.heap.size 1)=some (iZ k):=by rw[a];exact(aS.new w 65 [iZ c,iZ k,uZ f2,uZ f3,uZ f4,.bool f5,uZ f6,uZ f7,.string f8,nZ]).cell 1
 have l:(k:Int)<8:=aj;by_cases i:c=4;.subst i;go_enter func198,ntmps198;go_wp2_with fail;rw[<-a];clear a;go_quiet (fail);go_wp2;go_ret;refine⟨?_,d.out _⟩;show fB (.iface 282 (aK S (4+k*27)))=.returned (bkV S k 4);unfold bkV;grind
 .by_cases g:c=3;.subst g;go_enter func198,ntmps198;go_wp2_with fail;rw[<-a];clear a;go_quiet ((go_at_call 241;exact nC (JR _ _ _)));go_wp2;go_ret;refine⟨?_,d.out _⟩;show fB (.iface 335 (aK S (4+k*27+2)))=.returned (bkV S k 3);unfold bkV;grind
  .by_cases j:c=6;.subst j;go_enter func198,ntmps198;go_wp2_with fail;rw[<-a];clear a;go_quiet ((go_at_call 242;exact nC (OH _ _ _)));go_wp2;go_ret;refine⟨?_,d.out _⟩;show fB (.iface 336 (aK S (4+k*27+14)))=.returned (bkV S k 6);unfold bkV;grind
   .go_enter func198,ntmps198;go_wp2;go_ret;refine⟨?_,by rw[<-a];exact b⟩;show fB (.iface 336 (aK S 221))=.returned (bkV S k c);unfold bkV;grind
def bk3(S k:Nat):bM:=[.iface 282 (aK S (4+k*27)),.iface 335 (aK S (4+k*27+2)),.iface 336 (aK S (4+k*27+14))]
def bks(S:Nat):Nat->bM
 |0=>[.iface 336 (aK S 221)]
 |k+1=>bks S k++bk3 S k
def EM(S):∀k,(bks S k).length=1+3*k
 |0=>rfl
 |k+1=>by show(bks S k++bk3 S k).length=_;rw[lM,EM S k];simp[bk3];omega
def XE(n):(eB (nL).cells n).toList.length=n:=by simp[eB,mE]
def XF(n):∀v∈(eB (nL).cells n).toList,v.oneCell'=true:=by intro v a;simp[eB,mE]at a;obtain⟨i,_,rfl⟩:=a;have:i % 1=0:=aj;rw[this];rfl
def qq8:LA 291 294 .nilIface 1 16:=⟨bZ,bZ,fun n=>by rw[XE];omega,XF,aj⟩
theorem qak(S w):WA prog 196 #[aK S 0] w fun e A=>∃g,e=.returned g/\fO 294 1 A g 25 (bks S 8)/\YtphbledmopchnaaGreatDoor.Own w.heap.size g/\bJ w A:=by
 obtain⟨C,a⟩:=bU (w.alloc (.cells #[.iface 336 (aK S 221)] 294));have L:Hid (fO 294 1 C (dB w.heap.size 1 1) (1+3*0) (bks S 0)/\YtphbledmopchnaaGreatDoor.Own w.heap.size (dB w.heap.size 1 1)/\bJ w C):=by rw[a];exact⟨.inr ⟨w.heap.size,1,_,rfl,aS.new w 294 [.iface 336 (aK S 221)],rfl,aI _,aj,rfl,rfl,fun v n=>by rw[sD.1 n];rfl⟩,fun k E=>by simp[eT]at E;omega,(bP _ w).alloc (aI _) _⟩
 go_enter func196,ntmps196;go_wp2;rw[<-a];clear a;go_loopw [3,11] (fun G f wr=>∃k:Nat,k<=8/\f=(iZ k)/\Hid (fO 294 1 wr G (1+3*k) (bks S k)/\YtphbledmopchnaaGreatDoor.Own w.heap.size G/\bJ w wr)) (fun _ f _=>8-(fE f).toNat);case atStart=>grind
 case round=>
  obtain⟨k,E,rfl,p⟩:=hrel;by_cases J:k<8
  .have F:(k:Int)<8:=aj;obtain⟨r,s,c⟩:=p.out;obtain⟨m,i⟩:=bU (wr.drew.alloc (.cells (bk3 S k).toArray 294));have d:bJ wr m:=by rw[i];exact(bP _ wr).drew.alloc (aI _) _
   have B:aS m wr.heap.size 294 (bk3 S k):=by rw[i];exact aS.new wr.drew 294 _
   have t:m.heap.size=wr.heap.size+1:=by rw[i,yU];rfl
   obtain⟨g,D,u,l,q⟩:=jL qq8 (r.of_heap (w':=m) (fun b c=>d.block b (r.lt b c))) (aA wr.heap.size 0) 3 3 (bk3 S k) rfl aj (fun v n=>by simp[bk3]at n;rcases n with rfl|rfl|rfl<;>rfl) (fun j y K=>by
    have e:(aA wr.heap.size 0).add j=(aA wr.heap.size j):=by rw[gT,gG]
    rw[e,B.cell,K]) aj
   have M:Hid (fO 294 1 D g (1+3*(k+1)) (bks S (k+1))/\YtphbledmopchnaaGreatDoor.Own w.heap.size g/\bJ w D):=
    ⟨by rw[show 1+3*(k+1)=1+3*k+3 by omega];exact l,q.own s (fT c.size),c.trans ((d.mono c.size).trans (q.below s (fT c.size)))⟩
   have x:∀args w,(callFunc 241 args).run prog w=.ok (.enter 241 args) w:=enters_of func241 bZ rfl;have z:∀args w,(callFunc 242 args).run prog w=.ok (.enter 242 args) w:=enters_of func242 bZ rfl;unfold bk3 at i;subst i;clear r s c d B t l q p;go_wp2;generalize 4+k*27=o at *
   have I:=fun y=>JR S o y;have H:=fun y=>OH S (o+14) y;go_region_held3 (fun _=>True) (trivial) ((first|(refine iL _ (by rfl) _ _ _ _ (by rfl) _ _ (by rfl) (by rfl) _ _ (u _) ?_)|(refine zY _ (by rfl) 241 _ _ (by rfl) (aK S o) (by rfl) x (I _) ?_;rintro e y ⟨rfl,rfl⟩;refine⟨_,rfl,?_⟩)|(refine zY _ (by rfl) 242 _ _ (by rfl) (aK S (o+14)) (by rfl) z (H _) ?_;rintro e y ⟨rfl,rfl⟩;refine⟨_,rfl,?_⟩)))
   all_goals(
    go_wp2;go_roundw;case rel=>grind
    case measure=>simp[fE];omega)
  .obtain rfl:k=8:=aj;go_wp2;go_ret;exact⟨_,rfl,p.out⟩
theorem EJ:∀L,(vI L).length=L.length*10
 |[]=>rfl
 |x::t=>by show(f_ x.1 (rW x)++vI t).length=_;rw[lM,EJ t];simp;omega
theorem Bo:∀L K,vI (L++K)=vI L++vI K
 |[],_=>rfl
 |x::t,K=>by show f_ x.1 (rW x)++vI (t++K)=(f_ x.1 (rW x)++vI t)++vI K;rw[Bo t K,lC]
theorem xC:∀(a) (j) (l),j+a.length<=l.length->oK j a l=bC l j a
 |[],j,l,h=>by show l=bC l j [];simp[bC]
 |v::a,j,l,h=>by show oK (j+1) a (l.set j v)=bC l j (v::a);simp only[pI]at h;rw[xC a (j+1) (l.set j v) (by grind)];refine zh fun i=>?_;rw[lS _ _ _ (by grind),lS _ _ _ dZ];grind
structure LM (w:Wq) (b n:Nat) (L:List FV) (q:FV->Bool) (len:Nat) (i j:Nat) (cs:bM) (y:Wq):Prop where
 cK:aS y b 65 cs
 len:cs.length=len
 done:cs.take (i*10)=vI ((L.take j).filter q)
 aH:(cs.take (n*10)).drop (j*10)=vI (L.drop j)
 one:∀v∈cs,v.oneCell'=true
 num:((L.take j).filter q).length=i
 gr:w.grownBy y (some b)
theorem LM.cell{w b n L q len i j cs y}(h:LM w b n L q len i j cs y)(f:j<L.length)(k)(c:k<10):y.cell? (aA b (j*10+k))=(f_ (L.getD j jw).1 (rW (L.getD j jw)))[k]?:=by
 have e:L.drop j=L.getD j jw::L.drop (j+1):=by grind [fA,List.drop_eq_getElem_cons]
 have a:((cs.take (n*10)).drop (j*10))[k]?=(f_ (L.getD j jw).1 (rW (L.getD j jw)))[k]?:=by rw[h.aH,e];show(f_ (L.getD j jw).1 (rW (L.getD j jw))++vI (L.drop (j+1)))[k]?=_;rw[Av (by simpa using c)]
 rw[h.cK.cell];rw[Jm,pG]at a;split at a;.exact a
 .rename_i d;have:(f_ (L.getD j jw).1 (rW (L.getD j jw)))[k]?.isSome=true:=by rw[wH (by simpa using c)];rfl
  grind
theorem LM.skip{b len}(h:LM w b n L q len i j cs y)(f:j<L.length)(g:q (L.getD j jw)=false)(c:aS z b 65 cs)(d:w.grownBy z (some b)):LM w b n L q len i (j+1) cs z:=by
 have e:L.take (j+1)=L.take j++[L.getD j jw]:=by grind [fA,mR]
 have a:(L.take (j+1)).filter q=(L.take j).filter q:=by grind
 refine⟨c,h.len,by rw[a];exact h.done,?_,h.one,by rw[a];exact h.num,d⟩;have:=congrArg (List.drop 10) h.aH;rw[nA,Jp f]at this;rw[show(j+1)*10=j*10+10 by omega,this];rfl
theorem LM.fU{b len}(h:LM w b n L q len i j cs y)(p:n*10<=len)(o:j<n)(l:i<j)(m:j<L.length)(r:q (L.getD j jw)=true)(f:aS z b 65 (oK (i*10) (f_ (L.getD j jw).1 (rW (L.getD j jw))) cs))(d:∀v∈f_ (L.getD j jw).1 (rW (L.getD j jw)),v.oneCell'=true)(k:w.grownBy z (some b)):LM w b n L q len (i+1) (j+1) (oK (i*10) (f_ (L.getD j jw).1 (rW (L.getD j jw))) cs) z:=by
 have e:L.take (j+1)=L.take j++[L.getD j jw]:=by grind [fA,mR]
 have c:(L.take (j+1)).filter q=(L.take j).filter q++[L.getD j jw]:=by grind
 have a:i*10+(f_ (L.getD j jw).1 (rW (L.getD j jw))).length<=cs.length:=by rw[h.len];simp;omega
 have l10:(f_ (L.getD j jw).1 (rW (L.getD j jw))).length=10:=rfl;refine⟨f,by rw[Ga];exact h.len,?_,?_,Gb _ _ _ h.one d,by rw[c,lM,h.num];rfl,k⟩;.rw[xC _ _ _ a,show(i+1)*10=i*10+(f_ (L.getD j jw).1 (rW (L.getD j jw))).length by rw[l10];omega,jd _ _ _ a,h.done,c,Bo];simp[vI]
 .have g:=congrArg (List.drop 10) h.aH;rw[nA,Jp m]at g;grind [vI,CX,xC,List.length_take,sF]
def LM.below{b len}(h:LM w b n L q len i j cs y)(a:bJ y z):LM w b n L q len i j cs z:=
 ⟨fD a h.cK,h.len,h.done,h.aH,h.one,h.num,h.gr.andThen (jM a) (fun j c=>by cases c)⟩
theorem LP:∀(L) (j k),j<L.length->k<10->(vI L)[j*10+k]?=(f_ (L.getD j jw).1 (rW (L.getD j jw)))[k]?
 |[],_,_,h,_=>by simp at h
 |x::t,0,k,_,hk=>by show(f_ x.1 (rW x)++vI t)[0*10+k]?=_;rw[Av (by simpa using hk)];grind
 |x::t,j+1,k,h,hk=>by show(f_ x.1 (rW x)++vI t)[(j+1)*10+k]?=_;rw[Nq dZ,show(j+1)*10+k-(f_ x.1 (rW x)).length=j*10+k by simp;omega];exact LP t j k (by simpa using h) hk
theorem Ws(P L):(CW P L= -1/\L.filter (fun x=> !P x)=L)\/∃i:Nat,CW P L=(i:Int)/\i<L.length/\P (L.getD i jw)=true/\(L.take i).filter (fun x=> !P x)=L.take i:=by
 unfold CW;cases h:L.any P;.grind [mK,List.any_eq_false]
 .rw[dN rfl];have a:L.findIdx P<L.length:=List.findIdx_lt_length_of_exists (by grind);grind [mK,fA,List.findIdx_getElem,List.getElem_of_mem]
def LQ(f b)(h:b.oneCell'=true):∀v∈f_ f b,v.oneCell'=true:=by intro v a;simp only[nQ,qjy,or_false]at a;rcases a with rfl|rfl|rfl|rfl|rfl|rfl|rfl|rfl|rfl|rfl;all_goals first|rfl|exact h
theorem zq(g:Nat)(p k)(P:FV->Bool){b}(n c L)(eg:∀args w,(callFunc g args).run prog w=.ok (.enter g args) w)(hn:L.length=n)(hl:n<=100000)(hg:n<=c)(E:aS w b 65 cs)(Q:n*10<=cs.length)(S:cs.take (n*10)=vI L)(h1:∀v∈cs,v.oneCell'=true)(hw:∀j,j<L.length->∀W,w.grownBy W (some b)->WA prog g (p.push (eX (L.getD j jw).1 (rW (L.getD j jw)))++k) W fun e W'=>e=.returned (.bool (P (L.getD j jw)))/\bJ W W'):WA prog 151 #[dB b n c,.func (.func g) p k] w fun e w'=>∃a,e=.returned (dB b (L.filter fun x=> !P x).length c)/\aS w' b 65 a/\a.length=cs.length/\a.take ((L.filter fun x=> !P x).length*10)=vI (L.filter fun x=> !P x)/\(∀v∈a,v.oneCell'=true)/\w.grownBy w' (some b):=by
 have h6:=E.lt;have hF:Bn w (some (aA b 0)) L:=fun j s=>⟨b,0,rfl,fun i hi=>by rw[E.cell,<-LP L j i s hi,<-S,pG,dN aj,gG]⟩;have M:=aG (FZ g p k P (some (aA b 0)) L c w eg aj hF (fun j s W hb=>hw j s W ((jM hb).but _)));rw[hn]at M;have hu:=E;rcases Ws P L with⟨e1,e2⟩|⟨i0,e1,hi0,hp0,hf0⟩;.rw[e1]at M;rw[e2,hn];have T:Hid (∀J,bJ w J->aS J b 65 cs/\cs.take (n*10)=vI L/\(∀v∈cs,v.oneCell'=true)/\w.grownBy J (some b)):=fun J r=>⟨fD r E,S,h1,(jM r).but _⟩;clear E S h1 hw hF hu e2;go_enter func151,ntmps151;go_wp2_with (first|(go_at_call 190;refine bK M.out ?_;rintro J r)|go_in);go_ret;obtain⟨a1,a2,a3,a4⟩:=T.out _ r;exact⟨cs,rfl,a1,rfl,a2,a3,a4⟩
 .rw[e1]at M;have R:LM w b n L (fun x=> !P x) cs.length i0 (i0+1) cs w:=by
   have D:LM w b n L (fun x=> !P x) cs.length i0 i0 cs w:=by
    refine⟨E,rfl,?_,?_,h1,by grind,⟨rfl,rfl,rfl,aI _,fun _ _ _=>rfl⟩⟩;.rw[hf0];have e:=congrArg (List.take (i0*10)) S;rw[YG,Nat.min_eq_left aj]at e;grind [vI,Bo,mI,EJ]
    grind [vI,Bo,mI,EJ]
   exact D.skip hi0 (by rw[hp0];rfl) E D.gr
  have HD:=aG R;have HW:=aG hw;have he:i0<n:=aj;have h8:((i0:Int)== -1)=false:=by grind
  clear R E S h1 hw hF hu hf0 hp0;go_enter func151,ntmps151;go_wp2_with (first|(go_at_call 190;refine bK M.out ?_;rintro J r)|go_in);go_loopw [5,6] (fun s5 s6 wr=>∃(i j:Nat) (a:bM),i<j/\j<=n/\s5=(iZ i)/\s6=(iZ j)/\Hid (LM w b n L (fun x=> !P x) cs.length i j a wr)) (fun _ s6 _=>n-(fE s6).toNat);case atStart=>exact⟨i0,i0+1,cs,aj,aj,rfl,aR,(HD.out.below r:LM _ _ _ _ _ _ _ _ _ _)⟩
  case round=>
   obtain⟨i,j,a,h0,hf,rfl,rfl,f⟩:=hrel;by_cases h4:j<n
   .have h7:(j:Int)<(n:Int):=aj;have U:=f.out.cell aj 0 aj;have V:=f.out.cell aj 1 aj;have Y:=f.out.cell aj 2 aj;have Z:=f.out.cell aj 3 aj;have c4:=f.out.cell aj 4 aj;have c5:=f.out.cell aj 5 aj;have c6:=f.out.cell aj 6 aj;have c7:=f.out.cell aj 7 aj;have c8:=f.out.cell aj 8 aj;have c9:=f.out.cell aj 9 aj;obtain⟨W3,m⟩:=bU (wr.alloc (.cells (f_ (L.getD j jw).1 (rW (L.getD j jw))).toArray 65));have y:bJ wr W3:=by rw[m];exact(bP _ wr).alloc (aI _) _
    have H:aS W3 wr.heap.size 65 (f_ (L.getD j jw).1 (rW (L.getD j jw))):=by grind [aS.new]
    have B:=HW.out j aj W3 (f.out.gr.andThen (jM y) (fun j s=>by cases s));have K:=aG y;have H1:Hid (∀v∈f_ (L.getD j jw).1 (rW (L.getD j jw)),v.oneCell'=true):=LQ _ _ rfl;cases I:P (L.getD j jw);.rw[I]at B;have N:Hid (∀z,aS z b 65 (oK (i*10) (f_ (L.getD j jw).1 (rW (L.getD j jw))) a)->w.grownBy z (some b)->LM w b n L (fun x=> !P x) cs.length (i+1) (j+1) (oK (i*10) (f_ (L.getD j jw).1 (rW (L.getD j jw))) a) z):=fun z h2 h3=>f.out.fU Q h4 h0 aj (by rw[I];rfl) h2 H1.out h3;have G:=f.out.below y;have d:∀x,x<10->∃v,a[i*10+x]?=some v:=fun x hx=>⟨_,wH (by rw[f.out.len];omega)⟩;obtain⟨t0,q0⟩:=d 0 aj;obtain⟨t1,q1⟩:=d 1 aj;obtain⟨t2,q2⟩:=d 2 aj;obtain⟨t3,q3⟩:=d 3 aj;obtain⟨t4,q4⟩:=d 4 aj;obtain⟨t5,q5⟩:=d 5 aj;obtain⟨t6,q6⟩:=d 6 aj;obtain⟨t7,q7⟩:=d 7 aj;obtain⟨t8,q8⟩:=d 8 aj;obtain⟨t9,q9⟩:=d 9 aj;have VO:=aG G.cK;have AU:=aG H;have HG:=aG G.gr;have hk:(i:Int)<(n:Int):=aj;have h9:¬(wr.heap.size=b):=fun e=>fT f.out.cK.lt;have ha:Hid (∀z,aS z b 65 a->∀j',z.cell? (aA b j')=a[j']?):=fun z hz j'=>hz.cell j';clear I H1 y H G d;generalize L.getD j jw=F at U V Y Z c4 c5 c6 c7 c8 c9 B m N AU;obtain⟨F,r1,r2,r3⟩:=F;unfold eX at B;simp only[rW,jh,gN,sN]at U V Y Z c4 c5 c6 c7 c8 c9 B m N AU q0;go_wp2_with (first|(go_at_fn g;rw[<-m];refine bK B ?_;rintro w3 A;have q:=fD A VO.out;have t:=fD A AU.out;have y0:=(q.cell _).trans q0;have y1:=(q.cell _).trans q1;have y2:=(q.cell _).trans q2;have y3:=(q.cell _).trans q3;have y4:=(q.cell _).trans q4;have y5:=(q.cell _).trans q5;have y6:=(q.cell _).trans q6;have y7:=(q.cell _).trans q7;have y8:=(q.cell _).trans q8;have y9:=(q.cell _).trans q9;have fz:=q.frozen;have x0:=t.cell 0;have x1:=t.cell 1;have x2:=t.cell 2;have x3:=t.cell 3;have x4:=t.cell 4;have x5:=t.cell 5;have x6:=t.cell 6;have x7:=t.cell 7;have x8:=t.cell 8;have x9:=t.cell 9;simp only[jh,gN]at x0 x1 x2 x3 x4 x5 x6 x7 x8 x9;replace q:=aG q;replace t:=aG t)|go_in);have O:=pV b (f_ F (.slice r1 r2 r3)) (i*10) w3;refine⟨⟨i+1,j+1,_,aj,aj,aR,aR,(N.out (qJ b (i*10) (f_ F (.slice r1 r2 r3)) w3) (rE _ _ _ _ q.out) ((HG.out.andThen (jM A) (fun j s=>by cases s)).andThen (row':=some b) ⟨O.os,O.tape,O.output,by rw[O.size];grind,fun x _ hx=>O.block x (fun e=>hx (by rw[e]))⟩ (fun j s=>.inr (by rw[s]))):LM _ _ _ _ _ _ _ _ _ _)⟩,by simp[fE];omega⟩
    .rw[I]at B;have N:Hid (∀z,bJ wr z->LM w b n L (fun x=> !P x) cs.length i (j+1) a z):=fun z h2=>f.out.skip aj (by rw[I];rfl) (fD h2 f.out.cK) (f.out.gr.andThen (jM h2) (fun j s=>by cases s));clear I H1 H y;generalize L.getD j jw=F at U V Y Z c4 c5 c6 c7 c8 c9 B m;obtain⟨F,r1,r2,r3⟩:=F;unfold eX at B;simp only[rW,jh,gN,sN]at U V Y Z c4 c5 c6 c7 c8 c9 B m;go_wp2_with (first|(go_at_fn g;rw[<-m];refine bK B ?_;rintro w3 A)|go_in);go_roundw;case rel=>exact⟨i,j+1,a,aj,aj,rfl,aR,(N.out _ (K.out.trans (A.mono K.out.size)):LM _ _ _ _ _ _ _ _ _ _)⟩
     grind [fE]
   .obtain rfl:j=n:=aj;have u:=f.out;have C:(eB m_.cells (j-i)).toList.length=(j-i)*10:=sU.hz _;have h5:=fun ty cc=>iE (P:=prog) (o:=i*10) (n:=j-i) (c:=cc) 54 65 ty _ sU.ht (fun w=>bZ) u.cK aj (by rw[C,u.len];omega) (sU.h1 _);have ef:L.filter (fun x=> !P x)=(L.take j).filter (fun x=> !P x):=by grind
    have Wt:=u.num;rw[<-ef]at Wt;have T:Hid (∃l,l=bC a (i*10) (eB m_.cells (j-i)).toList/\aS (put wr b (bC a (i*10) (eB m_.cells (j-i)).toList)) b 65 l/\l.length=cs.length/\l.take (i*10)=vI (L.filter fun x=> !P x)/\(∀v∈l,v.oneCell'=true)/\w.grownBy (put wr b (bC a (i*10) (eB m_.cells (j-i)).toList)) (some b)):=by refine⟨_,rfl,u.cK.put _,by rw[cu _ _ _ (by rw[C,u.len];omega)];exact u.len,?_,dS u.one (sU.h1 _),u.gr.andThen (eU wr b _) (fun j s=>.inr (by rw[s]))⟩;rw[iF _ _ _ _ (by rw[C,u.len];omega) (aI _),u.done,ef]
    have HN:=aG Wt;generalize bC a (i*10) (eB m_.cells (j-i)).toList=X at h5 T;clear ef Wt C u;have k1:(i:Int)<=(j:Int):=aj;have k2:(i:Int)<=(c:Int):=aj;have k3:(j:Int)<=(c:Int):=aj;have k4:i<=j:=aj;have k5:i<=c:=aj;go_wp2;go_ret;obtain⟨l,_,a1,a2,a3,a4,a5⟩:=T.out;rw[HN.out];exact⟨l,rfl,a1,a2,a3,a4,a5⟩
def LU(f:Fr):Bool:=decide (f.aD=2)||decide (f.aD=7)||decide (f.aD=8)
def qkt(f i w):bN 273 #[eX f i] w (.bool (LU f)) fun j=>bJ w j:=by
 unfold LU eX;by_cases a:f.aD=2
 .have d:(f.aD==(2:Int))=true:=by simp[a]
  rw[decide_eq_true a];go_enter func273,ntmps273;go_wp2;go_ret;exact⟨rfl,(bP _ w).alloc (aI _) _⟩
 .have d:(f.aD==(2:Int))=false:=by simp[a]
  rw[decide_eq_false a];by_cases b:f.aD=7
  .have e:(f.aD==(7:Int))=true:=by simp[b]
   rw[decide_eq_true b];go_enter func273,ntmps273;go_wp2;go_ret;exact⟨rfl,(bP _ w).alloc (aI _) _⟩
  .have e:(f.aD==(7:Int))=false:=by simp[b]
   rw[decide_eq_false b];by_cases c:f.aD=8
   .have g:(f.aD==(8:Int))=true:=by simp[c]
    rw[decide_eq_true c];go_enter func273,ntmps273;go_wp2;go_ret;exact⟨rfl,(bP _ w).alloc (aI _) _⟩
   .have g:(f.aD==(8:Int))=false:=by simp[c]
    rw[decide_eq_false c];go_enter func273,ntmps273;go_wp2;go_ret;exact⟨rfl,(bP _ w).alloc (aI _) _⟩
theorem fO.some{e:WK}{a:Option XK}{c:Nat}(h:fO e k w (.slice a n c) n l)(f:0<n):∃g b,a=some (aA g 0)/\aS w g e b/\b.length=c*k/\n<=c/\c<=9223372036854775807/\b.take (n*k)=l/\∀v∈b,v.oneCell'=true:=by
 rcases h with⟨_,d,_⟩|⟨g,cap,b,h1,h2,h3,h4,h5,_,h7,h8⟩;.omega
 grind
theorem Wu(p L q w)(S:L.length<=100000)(G:0<L.length)(hF:Rd 10 w (.slice p L.length q) L.length (vI L)):WA prog 212 #[.slice p L.length q] w fun e m=>∃a c,e=.returned (.slice a (L.filter fun x=> !LU x.1).length c)/\fO 65 10 m (.slice a (L.filter fun x=> !LU x.1).length c) (L.filter fun x=> !LU x.1).length (vI (L.filter fun x=> !LU x.1))/\nH w.heap.size (.slice a (L.filter fun x=> !LU x.1).length c)/\bJ w m:=by
 have r:=aG (Rw _ _ _ w hF aj);have Q:(L.filter fun x=> !LU x.1).length<=L.length:=tH _ _;have s:Hid (∀(b c:Nat) (f:bM) (W:Wq),L.length<=c->aS W b 65 f->L.length*10<=f.length->f.take (L.length*10)=vI L->(∀v∈f,v.oneCell'=true)->WA prog 151 #[dB b L.length c,.func (.func 273) #[] #[]] W fun e m=>∃d,e=.returned (dB b (L.filter fun x=> !LU x.1).length c)/\aS m b 65 d/\d.length=f.length/\d.take ((L.filter fun x=> !LU x.1).length*10)=vI (L.filter fun x=> !LU x.1)/\(∀v∈d,v.oneCell'=true)/\W.grownBy m (some b)):=fun b c f W H I J M N=>zq 273 #[] #[] (fun x=>LU x.1) L.length c L (enters_of func273 bZ rfl) rfl S H I J M N (fun j _ W _=>qkt _ _ W);have o:=EJ (L.filter fun x=> !LU x.1);generalize (L.filter fun x=> !LU x.1)=K at *
 generalize L.length=n at *
 clear hF;go_enter func212,ntmps212;go_wp2_with (first|(go_at_call 272;refine r.out.mono ?_;rintro e U ⟨a,c,rfl,O,P,l⟩;obtain⟨g,f,rfl,A,B,C,D,E,F⟩:=fO.some O G)|(go_at_call 151;refine(s.out g c f U C A (by grind) E F).mono ?_;rintro e X ⟨d,rfl,t,u,y,z,i⟩)|go_in);go_ret;have R:=P g rfl;refine⟨_,c,rfl,.inr ⟨g,c,d,rfl,t,by rw[u,B],aj,D,o,y,z⟩,fun x T=>?_,l.trans ⟨i.os,i.tape,i.output,i.size,fun k V=>i.block k (fT l.size) (fun e=>by grind)⟩⟩;simp[eT]at T;omega
