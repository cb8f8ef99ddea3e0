import Derived.Test.YtphbledmopchnaaGreatDoorUae
import Derived.Test.YtphbledmopchnaaGreatDoorUbe
open Go.RowKit.Below renaming heap_setCell->tT,heap_alloc->qa5,refl->qai
open Bool renaming and_eq_true->He
open Go.Builtin renaming max_->Kt,min_->KG,max2->qab,min2->qae
open Int renaming natCast_nonneg->qa1,toNat_natCast->qa3,le_of_lt->qag
open List renaming prefix_refl->mR,getD_eq_getElem?_getD->nI,getElem?_eq_some_iff->tL,foldlM_cons->wz,foldlM_nil->Av,replicate->Aw,getElem?_drop->DT,range->E8,getElem?_take_of_lt->Lb,length_drop->M4,length_take->R3,take->WA,getElem?_eq_none->WJ,getElem?_set_ne->YF,getD_cons_succ->qa0,length_append->qa2,countP_congr->qa4,sum_cons->qaa
open Nat renaming le_refl->fA,le_trans->fB,lt_of_lt_of_le->sQ,le_add_right->Am,le_of_not_lt->qa9,le_of_lt->qah
open Option renaming map_eq_some_iff->uj
open Prod renaming fst->SF
open Go.Sem renaming run_bind->Ui,run_pure->Ur
set_option maxHeartbeats 2000000
set_option maxRecDepth 100000
namespace Go.Proofs.YtphbledmopchnaaGreatDoor.Sd
open St Tryz
def md{α:Type}:List α->Nat->(α->α)->List α
 |[],_,_=>[]
 |a::t,0,f=>f a::t
 |a::t,k+1,f=>a::md t k f
theorem eX{α:Type}:∀(l:List α) (k:Nat) (f:α->α),(md l k f).length=l.length
 |[],_,_=>rfl
 |_::_,0,_=>rfl
 |_::t,k+1,f=>congrArg (·+1) (eX t k f)
theorem Ch{α:Type}(d:α):∀(l:List α) (k:Nat) (f:α->α),k<l.length->(md l k f).getD k d=f (l.getD k d)
 |[],_,_,h=>by simp at h
 |_::_,0,_,_=>rfl
 |_::t,k+1,f,h=>by simpa[md]using Ch d t k f (by simpa using h)
theorem Oz{α:Type}(d:α):∀(l:List α) (k j:Nat) (f:α->α),j≠k->(md l k f).getD j d=l.getD j d
 |[],_,_,_,_=>rfl
 |_::_,0,0,_,h=>absurd rfl h
 |_::_,0,j+1,_,_=>rfl
 |_::_,k+1,0,_,_=>rfl
 |_::t,k+1,j+1,f,h=>by simpa[md]using Oz d t k j f (by omega)
def UT:Nat:=18446744073709551615
structure Gn where
 ahead:Nat
 told:Nat
 away:Nat
 came:Nat
def Gn.new(n:Nat):Gn:=⟨n,n,0,n⟩
def Gn.lim(g:Gn)(free:Nat):Nat:=min (free+g.ahead) aZ
def Gn.waits(g:Gn)(free:Nat):Bool:=decide (max g.away g.came<g.lim free)
def Gn.aw(g:Gn)(x:Nat):Gn:={g with away:=max g.away x}
def Gn.cm(g:Gn)(x:Nat):Gn:={g with came:=max g.came x}
def Gn.lose(g:Gn):Gn:={g with away:=0}
def iT(kind:Int)(k:Nat)(x:Nat):Fr:=⟨kind,(k:Int),0,0,x,false,0,0,⟨#[]⟩,[]⟩
def Gn.next(g:Gn)(kind:Int)(k:Nat)(free:Nat)(room:Int):Option (Fr×Gn):=
 if room<((aG (iT kind k (g.lim free))).length:Int)then none
 else some (iT kind k (g.lim free),({g with told:=g.lim free}:Gn).aw (g.lim free))
structure Nt where
 given:Bool
 offset:Nat
 away:Nat
 came:Nat
def Nt.waits(n:Nt)(r:Nat):Bool:=n.given&&decide (r<min n.away n.came)
def Nt.aw(n:Nt)(x:Nat):Nt:={n with away:=min n.away x}
def Nt.cm(n:Nt)(x:Nat):Nt:={n with came:=min n.came x}
def Nt.lose(n:Nt):Nt:={n with away:=UT}
def YK(k o r:Nat):Fr:=⟨3,(k:Int),o,r,0,false,0,0,⟨#[]⟩,[]⟩
def Nt.next(n:Nt)(k r:Nat)(room:Int):Option (Fr×Nt):=
 if room<((aG (YK k n.offset r)).length:Int)then none else some (YK k n.offset r,n.aw r)
structure NS where
 fl:Nat
 rs:aP
def NS.add(most:Nat)(s:NS)(lo hi:Nat):NS:=⟨(Rg.add most s.fl s.rs lo hi).1,(Rg.add most s.fl s.rs lo hi).2⟩
def NS.has(s:NS)(n:Nat):Bool:=decide (n<s.fl)||Rg.has n s.rs
def jo:Nat->aP->Nat->Nat×Nat
 |lo,[],e=>(lo,e)
 |lo,r::t,e=>if lo<r.1 then(lo,min r.1 e)else if e<=r.2 then(e,e)else jo (r.2+1) t e
def NS.hole(s:NS)(e:Nat):Nat×Nat:=jo s.fl s.rs e
structure Ot where
 bytes:List UInt8
 fin:Bool
 nt:Nt
 limit:Nat
 sent:Nat
 away:NS
 came:NS
def Ot.new(limit:Nat):Ot:=⟨[],false,⟨false,0,0,0⟩,limit,0,⟨0,[]⟩,⟨0,[]⟩⟩
def Ot.closed(o:Ot):Bool:=o.fin||o.nt.given
def Ot.send(o:Ot)(b:List UInt8):Ot×Nat:=
 if o.closed then(o,4)else if 2048<o.bytes.length+b.length then(o,3)else({o with bytes:=o.bytes++b},0)
def Ot.finish(o:Ot):Ot×Nat:=if o.closed then(o,4)else({o with fin:=true},0)
def Ot.reach(o:Ot)(aB:Nat):Nat:=min (min o.bytes.length o.limit) (o.sent+aB)
def Ot.eO(o:Ot)(e:Nat):Bool:=o.fin&& !o.nt.given&&decide (e=o.bytes.length)
def Ot.waiting(o:Ot)(aB:Nat):Nat×Nat:=
 o.away.hole (if o.eO (o.reach aB)then o.reach aB+1 else o.reach aB)
def Ot.waits(o:Ot)(aB:Nat):Bool:=decide ((o.waiting aB).1<(o.waiting aB).2)
def aJ(f:Fr):Nat:=f.offset+f.data.size
def sj(s:NS)(f:Fr):NS:=s.add 2049 f.offset (if f.fin then aJ f else aJ f-1)
def Ot.aw(o:Ot)(f:Fr):Ot:={o with away:=sj o.away f}
def Ot.cm(o:Ot)(f:Fr):Ot:={o with came:=sj o.came f,away:=sj o.away f}
def Ot.lose(o:Ot):Ot:={o with away:=o.came}
def kI(f:Fr)(b:List UInt8)(room:Int):Option Fr:=
 if room<((aG f).length:Int)then none
 else
  let r:=(room-((aG f).length:Int)).toNat
  let n:=min b.length r
  some {f with data:=⟨(b.take (min n (r-((Num.bytes n).length-1)))).toArray⟩}
def nX(k lo:Nat):Fr:=⟨4,(k:Int),lo,0,0,false,0,0,⟨#[]⟩,[]⟩
def Ot.next(o:Ot)(k:Nat)(room:Int)(aB:Nat):Option (Fr×Ot):=
 let lo:=(o.waiting aB).1
 let hi:=min (o.waiting aB).2 o.bytes.length
 match kI (nX k lo) ((o.bytes.take hi).drop lo) room with
 |none=>none
 |some f=>
  if lo<hi/\f.data.size=0 then none
  else
   let g:Fr:={f with fin:=o.eO (aJ f)}
   some (g,({o with sent:=max o.sent (aJ f)}:Ot).aw g)
structure bU where
 gr:Gn
 read:Nat
 held:List UInt8
 came:List Bool
 high:Nat
 ended:Bool
 dX:Nat
 given:Bool
 rel:Nat
 state:Nat
def bU.new(n:Nat):bU:=⟨Gn.new n,0,[],[],0,false,0,false,0,0⟩
def bU.free(i:bU):Nat:=if i.state=2 then i.dX else i.read
def bU.wanted(i:bU):Nat:=if i.given then i.rel else if i.ended then i.dX else aZ
def bU.refuse(i:bU)(f:Fr):Nat:=
 if i.ended/\i.dX<aJ f\/i.ended/\f.fin/\aJ f≠i.dX\/f.fin/\aJ f<i.high then 10 else if i.gr.told<aJ f then 9 else 0
def bF:List UInt8->Nat->List UInt8->List Bool->List UInt8×List Bool
 |[],_,h,c=>(h,c)
 |x::t,i,h,c=>if c.getD i false then bF t (i+1) h c else bF t (i+1) (h.set i x) (c.set i true)
def bU.hold(i:bU)(off:Nat)(d:List UInt8):bU:=
 let more:=off-i.read+d.length-i.held.length
 let x:=bF d (off-i.read) (i.held++Aw more 0) (i.came++Aw more false)
 {i with held:=x.1,came:=x.2}
def bU.take(i:bU)(f:Fr):bU:=
 let i1:bU:={i with high:=max i.high (aJ f),ended:=i.ended||f.fin,dX:=if f.fin then aJ f else i.dX}
 let lo:=max f.offset i1.read
 let hi:=min (aJ f) i1.wanted
 if lo<hi then i1.hold lo ((f.data.data.toList.take (hi-f.offset)).drop (lo-f.offset))else i1
def bU.JH(i:bU)(f:Fr):Nat:=if i.ended/\i.dX≠f.offset\/f.offset<i.high then 10 else 0
def bU.gJ(i:bU)(f:Fr):bU:=
 let r:=min i.wanted f.reliable
 let n:=min i.held.length (r-min r i.read)
 {i with rel:=r,given:=true,ended:=true,dX:=f.offset,held:=i.held.take n,came:=i.came.take n}
def bU.ready(i:bU):Nat:=(i.came.takeWhile id).length
def bU.cut(i:bU)(n:Nat):bU:={i with held:=i.held.drop n,came:=i.came.drop n,read:=i.read+n}
def bU.reached(i:bU):Nat:=if i.ended=false\/i.read<i.wanted then 0 else if i.given then 2 else 1
def bU.rd(i:bU)(most:Int):List UInt8×bU:=
 let n:=min i.ready (max most 0).toNat
 let j:=i.cut n
 (i.held.take n,{j with state:=if j.state=0 then j.reached else j.state})
def bU.eZ(i:bU):Bool:= !(i.ended&&decide (i.wanted<=i.high))&&i.gr.waits i.free
structure m_ where
 frames:List Fr
 tick:Nat
def su:Ot:=Ot.new 0
def uH:bU:=bU.new 0
structure Side where
 aM:Nat
 window:Nat
 total:Nat
 tick:Nat
 outs:List Ot
 ins:List bU
 limit:Nat
 gr:Gn
 came:NS
 answer:Bool
 next:Nat
 aF:List (Nat×m_)
 lost:List (Nat×m_)
 named:Nat
 queue:List Fr
 least:Nat
 msgs:List (Nat×ByteArray)
 greatest:Nat
 taken:List Nat
 why:Nat
 parted:Bool
 qv:Value
def Side.new(aM window total:Nat):Side:=
 ⟨aM,window,total,0,Aw 8 (Ot.new window),Aw 8 (bU.new window),total,Gn.new total,⟨0,[]⟩,false,0,[],[],0,[],0,[],0,[],0,false,nZ⟩
def Side.out(M:Side)(k:Nat):Ot:=M.outs.getD k su
def Side.inn(M:Side)(k:Nat):bU:=M.ins.getD k uH
def Side.bf(M:Side)(k:Nat)(o:Ot):Side:={M with outs:=md M.outs k fun _=>o}
def Side.dA(M:Side)(k:Nat)(i:bU):Side:={M with ins:=md M.ins k fun _=>i}
def Side.free(M:Side):Nat:=M.ins.foldl (fun s i=>min (s+i.free) aZ) 0
def Side.spent(M:Side):Nat:=(M.outs.map Ot.sent).sum
def Side.aB(M:Side):Nat:=M.limit-M.spent
def Side.full(M:Side):Bool:=decide (12<=M.aF.length)
def Side.cO(M:Side):Nat:=match M.queue with
 |[]=>0
 |f::_=>(aG f).length
def dR(rs:aP):Fr:=⟨2,0,0,0,0,false,0,0,⟨#[]⟩,rs⟩
def cB(av:aP)(room:Int):Nat->Nat
 |0=>0
 |n+1=>if((aG (dR (av.take (n+1)))).length:Int)<=room then n+1 else cB av room n
def Side.waits(M:Side)(av:aP)(u:Nat):Bool:=
 if u=0 then decide (0<av.length)
 else !M.full&&(if u=8 then M.gr.waits M.free else if u<24 then(M.inn (u-16)).eZ else if u<32 then(M.out (u-24)).nt.waits (M.out (u-24)).bytes.length
  else if u=32 then decide (0<M.queue.length)else(M.out (u-40)).waits M.aB)
def SV:Value->Value
 |.slice a n c=>.slice a (n-1) c
 |v=>v
def Side.frame(M:Side)(av:aP)(u:Nat)(room:Int):Option (Fr×Side×aP):=
 if u=0 then
  (if cB av room av.length=0 then none else some (dR (av.take (cB av room av.length)),M,av.drop (cB av room av.length)))
 else if u=8 then(M.gr.next 5 0 M.free (room-M.cO)).map fun x=>(x.1,{M with gr:=x.2},av)
 else if u<24 then((M.inn (u-16)).gr.next 6 (u-16) (M.inn (u-16)).free (room-M.cO)).map fun x=>(x.1,M.dA (u-16) {M.inn (u-16)with gr:=x.2},av)
 else if u<32 then((M.out (u-24)).nt.next (u-24) (M.out (u-24)).bytes.length (room-M.cO)).map fun x=>(x.1,M.bf (u-24) {M.out (u-24)with nt:=x.2},av)
 else if u=32 then(if room<M.cO then none else M.queue.head?.map fun f=>(f,{M with queue:=M.queue.tail,qv:=SV M.qv},av))
 else((M.out (u-40)).next (u-40) room M.aB).map fun x=>(x.1,M.bf (u-40) x.2,av)
def yields(u:Nat):Bool:=decide (8<=u)&&decide (u<32)
def sw(l:List Nat)(i j:Nat):List Nat:=(l.set i (l.getD j 0)).set j (l.getD i 0)
def xM:Nat->List Nat->Nat->List Nat
 |0,l,_=>l
 |n+1,l,j=>if j=0\/¬l.getD j 0<l.getD ((j-1) / 2) 0 then l else xM n (sw l ((j-1) / 2) j) ((j-1) / 2)
def iC:Nat->List Nat->Nat->Nat->List Nat
 |0,l,_,_=>l
 |k+1,l,i,n=>
  if n<=2*i+1 then l
  else
   let j:=if 2*i+2<n/\l.getD (2*i+2) 0<l.getD (2*i+1) 0 then 2*i+2 else 2*i+1
   if l.getD j 0<l.getD i 0 then iC k (sw l i j) j n else l
def bG(l:List Nat)(u:Nat):List Nat:=xM (l.length+1) (l++[u]) l.length
def jg(l:List Nat):List Nat:=(iC l.length (sw l 0 (l.length-1)) 0 (l.length-1)).take (l.length-1)
def q0:List Nat:=bG ((E8 8).foldl (fun q k=>bG (bG (bG q (16+k)) (24+k)) (40+k)) (bG (bG [] 0) 8)) 32
def bO:Nat->Side->aP->List Nat->List Nat->Int->List Fr->Side×aP×List Nat×List Fr
 |0,M,av,Q,later,_,l=>(M,av,later.foldl bG Q,l)
 |n+1,M,av,Q,later,room,l=>match Q with
  |[]=>(M,av,later.foldl bG Q,l)
  |u::_=>
   if M.waits av u then
    match M.frame av u room with
    |some (f,M',bH)=>bO n M' bH Q later (room-((aG f).length:Int)) (l++[f])
    |none=>if yields u then bO n M av (jg Q) (later++[u]) room l else(M,av,later.foldl bG Q,l)
   else bO n M av (jg Q) later room l
def fill(M:Side)(av:aP)(Q:List Nat)(room:Int):Side×aP×List Nat×List Fr:=
 bO (Q.length+room.toNat+1) M av Q [] room []
def wants(fs:List Fr):Bool:=fs.any fun f=>decide (f.kind≠2)
def again(fs:List Fr):List Fr:=fs.filter fun f=> !(decide (f.kind=2)||decide (f.kind=7)||decide (f.kind=8))
def Side.room(M:Side):Int:=(M.aM:Int)-((Num.bytes M.next).length:Int)-4
def Side.packet(M:Side)(fs:List Fr):Side:=
 {M with next:=M.next+1,aF:=if wants fs then M.aF++[(M.next,⟨again fs,M.tick⟩)]else M.aF}
def dJ:Nat->Side->aP->List Nat->List (Nat×List Fr)->Side×List (Nat×List Fr)
 |0,M,_,_,l=>(M,l)
 |n+1,M,av,Q,l=>
  if(fill M av Q M.room).2.2.2=[]then((fill M av Q M.room).1,l)
  else dJ n ((fill M av Q M.room).1.packet (fill M av Q M.room).2.2.2) (fill M av Q M.room).2.1 (fill M av Q M.room).2.2.1 (l++[(M.next,(fill M av Q M.room).2.2.2)])
def Side.dM(M:Side)(f:Fr):Side:=
 if f.kind=4 then M.bf f.stream.toNat ((M.out f.stream.toNat).aw f)
 else if f.kind=3 then M.bf f.stream.toNat {M.out f.stream.toNat with nt:=(M.out f.stream.toNat).nt.aw f.reliable}
 else if f.kind=6 then M.dA f.stream.toNat {M.inn f.stream.toNat with gr:=(M.inn f.stream.toNat).gr.aw f.limit}
 else{M with gr:=M.gr.aw f.limit}
def Side.bookC(M:Side)(f:Fr):Side:=
 if f.kind=4 then M.bf f.stream.toNat ((M.out f.stream.toNat).cm f)
 else if f.kind=3 then M.bf f.stream.toNat {M.out f.stream.toNat with nt:=(M.out f.stream.toNat).nt.cm f.reliable}
 else if f.kind=6 then M.dA f.stream.toNat {M.inn f.stream.toNat with gr:=(M.inn f.stream.toNat).gr.cm f.limit}
 else{M with gr:=M.gr.cm f.limit}
def gY(o:Ot):Ot:={o.lose with nt:=o.nt.lose}
def fZ(i:bU):bU:={i with gr:=i.gr.lose}
def frames(l:List (Nat×m_)):List Fr:=l.flatMap fun x=>x.2.frames
def Side.dN(M:Side)(x:Nat×m_):Bool:=decide (6<=M.tick-x.2.tick)||decide (x.1+3<M.named)
def Side.lose(M:Side):Side:=
 if M.aF.any M.dN then
  (frames (M.aF.filter fun x=> !M.dN x)).foldl Side.dM
   {M with
    aF:=M.aF.filter fun x=> !M.dN x
    lost:=(M.lost++M.aF.filter M.dN).filter fun x=> !decide (x.1+64<M.next)
    gr:=M.gr.lose
    outs:=M.outs.map gY
    ins:=M.ins.map fZ}
 else M
def names(l:aP)(n:Nat):Bool:=l.any fun r=>decide (r.1<=n)&&decide (n<=r.2)
def Side.land(M:Side)(l:aP):Side:=
 (frames (M.aF.filter (fun x=>names l x.1))++frames (M.lost.filter (fun x=>names l x.1))).foldl Side.bookC
  {M with
   named:=max M.named ((l.getD 0 (0,0)).2+1)
   aF:=M.aF.filter fun x=> !names l x.1
   lost:=M.lost.filter fun x=> !names l x.1}
def JK(x:Nat):Fr:=⟨8,0,0,0,x,false,0,0,⟨#[]⟩,[]⟩
def Side.part(M:Side):Side×List (Nat×List Fr):=
 if M.parted\/M.why=13 then(M,[])
 else({M with parted:=true}.packet [JK (if M.why=12 then 0 else M.why)],[(M.next,[JK (if M.why=12 then 0 else M.why)])])
def Side.Le(M:Side)(f:Fr):Side:=
 if f.deadline<M.tick\/f.id∈M.taken\/f.id+32<=M.greatest then M
 else{M with msgs:=M.msgs++[(f.id,f.data)],greatest:=max M.greatest f.id,taken:=(f.id::M.taken).filter fun x=> !decide (x+32<=max M.greatest f.id)}
def Side.oO(M:Side)(k e:Nat):Nat:=((E8 8).map fun j=>max (M.inn j).high (if j=k then e else 0)).sum
def Side.take(M:Side)(f:Fr):Side×Nat:=
 if f.kind=2 then(if M.next<=(f.ranges.getD 0 (0,0)).2 then(M,11)else(M.land f.ranges,0))
 else if f.kind=4 then
  (if(M.inn f.stream.toNat).refuse f≠0 then(M,(M.inn f.stream.toNat).refuse f)
  else if M.gr.told<M.oO f.stream.toNat (aJ f)then(M,9)
  else(M.dA f.stream.toNat ((M.inn f.stream.toNat).take f),0))
 else if f.kind=3 then
  (if(M.inn f.stream.toNat).JH f≠0 then(M,(M.inn f.stream.toNat).JH f)else(M.dA f.stream.toNat ((M.inn f.stream.toNat).gJ f),0))
 else if f.kind=8 then(M,13)
 else if f.kind=7 then(M.Le f,0)
 else if f.kind=5 then({M with limit:=max M.limit f.limit},0)
 else if f.kind=6 then(M.bf f.stream.toNat {M.out f.stream.toNat with limit:=max (M.out f.stream.toNat).limit f.limit},0)
 else(M,0)
def Side.ticks(M:Side):Side:={M with tick:=M.tick+1,queue:=M.queue.filter fun f=> !decide (f.deadline<M.tick+1)}
theorem JM{α:Type}:∀(l:List α) (k:Nat) (f:α->α),l.length<=k->md l k f=l
 |[],_,_,_=>rfl
 |_::_,0,_,h=>by simp at h
 |a::t,k+1,f,h=>congrArg (a::·) (JM t k f (by simpa using h))
theorem OC{α:Type}(d:α)(g:α->Nat):∀(l:List α) (k:Nat) (f:α->α),k<l.length->((md l k f).map g).sum+g (l.getD k d)=(l.map g).sum+g (f (l.getD k d))
 |[],_,_,h=>by simp at h
 |a::t,0,f,_=>by simp[md];omega
 |a::t,k+1,f,h=>by
  have:=OC d g t k f (by simpa using h);simp only[md,List.map_cons,qaa,qa0]at this ⊢;omega
theorem gK(M:Side)(k j:Nat)(o:Ot):(M.bf k o).out j=if j=k/\k<M.outs.length then o else M.out j:=by
 unfold Side.bf Side.out
 by_cases h:j=k
 ·subst h
  by_cases F:j<M.outs.length
  ·rw[if_pos ⟨rfl,F⟩];exact Ch su _ _ _ F
  ·rw[if_neg (fun x=>F x.2)];show(md M.outs j _).getD j su=_;rw[JM _ _ _ (by omega)]
 ·rw[if_neg (fun x=>h x.1)];exact Oz su _ _ _ _ h
theorem gL(M:Side)(k j:Nat)(o:bU):(M.dA k o).inn j=if j=k/\k<M.ins.length then o else M.inn j:=by
 unfold Side.dA Side.inn
 by_cases h:j=k
 ·subst h
  by_cases F:j<M.ins.length
  ·rw[if_pos ⟨rfl,F⟩];exact Ch uH _ _ _ F
  ·rw[if_neg (fun x=>F x.2)];show(md M.ins j _).getD j uH=_;rw[JM _ _ _ (by omega)]
 ·rw[if_neg (fun x=>h x.1)];exact Oz uH _ _ _ _ h
theorem xO(M:Side)(k:Nat)(o:Ot)(h:k<M.outs.length):(M.bf k o).spent+(M.out k).sent=M.spent+o.sent:=
 OC su Ot.sent M.outs k (fun _=>o) h
theorem vL:∀(l:List Nat) (k:Nat),l.getD k 0<=l.sum
 |[],_=>by simp
 |a::t,0=>by simp
 |a::t,k+1=>by have:=vL t k;simp only[qa0,qaa];omega
structure z_ (A A':Side):Prop where
 sent:∀k,(A.out k).sent<=(A'.out k).sent
 pre:∀k,(A.out k).bytes <+:(A'.out k).bytes
 fin:∀k,(A.out k).fin=true->(A'.out k).fin=true/\(A'.out k).bytes=(A.out k).bytes
 OD:∀k,(A.inn k).gr.told<=(A'.inn k).gr.told
 told:A.gr.told<=A'.gr.told
 next:A.next<=A'.next
theorem z_.refl(A:Side):z_ A A:=⟨fun _=>fA _,fun _=>mR _,fun _ h=>⟨h,rfl⟩,fun _=>fA _,fA _,fA _⟩
theorem z_.trans{A B C:Side}(h:z_ A B)(g:z_ B C):z_ A C:=
 ⟨fun k=>fB (h.sent k) (g.sent k),fun k=>(h.pre k).trans (g.pre k),
 fun k e=>⟨(g.fin k (h.fin k e).1).1,(g.fin k (h.fin k e).1).2.trans (h.fin k e).2⟩,
 fun k=>fB (h.OD k) (g.OD k),fB h.told g.told,fB h.next g.next⟩
structure G8 (o:Ot) (f:Fr):Prop where
 e:aJ f<=o.sent
 b:aJ f<=o.bytes.length
 d:f.data.data.toList=(o.bytes.take (aJ f)).drop f.offset
 fin:f.fin=true->o.fin=true/\aJ f=o.bytes.length
 ne:f.fin=true\/0<aJ f
def lV(A B:Side)(f:Fr):Prop:=
 (f.kind=2/\f.ranges≠[]/\(f.ranges.getD 0 (0,0)).2<B.next)\/
 (f.kind=4/\0<=f.stream/\f.stream<8/\G8 (A.out f.stream.toNat) f)\/
 (f.kind=5/\f.limit<=A.gr.told)\/
 (f.kind=6/\0<=f.stream/\f.stream<8/\f.limit<=(A.inn f.stream.toNat).gr.told)
theorem G8.mono{o o':Ot}{f:Fr}(h:G8 o f)(hs:o.sent<=o'.sent)(hp:o.bytes <+:o'.bytes)(F:o.fin=true->o'.fin=true/\o'.bytes=o.bytes):G8 o' f:=by
 obtain⟨t,ht⟩:=hp;refine⟨fB h.e hs,by rw[<-ht,qa2];have:=h.b;omega,?_,fun e=>?_,h.ne⟩
 ·rw[h.d,<-ht,List.take_append_of_le_length h.b]
 ·obtain⟨a,b⟩:=h.fin e;exact⟨(F a).1,by rw[(F a).2];exact b⟩
theorem lV.mono{A A' B I:Side}{f:Fr}(h:lV A B f)(H:z_ A A')(hb:z_ B I):lV A' I f:=by
 rcases h with⟨h1,F,G⟩|⟨h1,F,G,h4⟩|⟨h1,F⟩|⟨h1,F,G,h4⟩
 ·exact .inl ⟨h1,F,sQ G hb.next⟩
 ·exact .inr (.inl ⟨h1,F,G,h4.mono (H.sent _) (H.pre _) (H.fin _)⟩)
 ·exact .inr (.inr (.inl ⟨h1,fB F H.told⟩))
 ·exact .inr (.inr (.inr ⟨h1,F,G,fB h4 (H.OD _)⟩))
structure Wri (o:Ot):Prop where
 sl:o.sent<=o.limit
 sb:o.sent<=o.bytes.length
 given:o.nt.given=false
structure zQ (o:Ot) (i:bU):Prop where
 lim:o.limit<=i.gr.told
 high:i.high<=o.sent
 ended:i.ended=true->o.fin=true/\i.dX=o.bytes.length
 given:i.given=false
 st:i.state=0\/i.state=1/\i.ended=true/\i.read=o.bytes.length
 len:i.came.length=i.held.length
 rd:i.read<=o.bytes.length
 got:∀j,i.came.getD j false=true->o.bytes[i.read+j]?=some (i.held.getD j 0)
theorem zQ.free{o:Ot}{i:bU}(h:zQ o i):i.free=i.read:=by
 unfold bU.free;rw[if_neg];rcases h.st with e|⟨e,_⟩<;>omega
theorem zQ.mono{o o':Ot}{i:bU}(h:zQ o i)(hl:o'.limit=o.limit)(hs:o.sent<=o'.sent)(hp:o.bytes <+:o'.bytes)(F:o.fin=true->o'.fin=true/\o'.bytes=o.bytes):zQ o' i:=by
 refine⟨by rw[hl];exact h.lim,fB h.high hs,fun e=>?_,h.given,?_,h.len,fB h.rd hp.length_le,fun j e=>?_⟩
 ·obtain⟨a,b⟩:=h.ended e;exact⟨(F a).1,by rw[(F a).2];exact b⟩
 ·rcases h.st with e|⟨H,G,I⟩
  ·exact .inl e
  ·exact .inr ⟨H,G,by rw[(F (h.ended G).1).2];exact I⟩
 ·obtain⟨t,ht⟩:=hp;have g:=h.got j e;rw[<-ht,List.getElem?_append_left]
  ·exact g
  ·obtain⟨x,_⟩:=tL.1 g;exact x
structure dD (M:Side):Prop where
 lo:M.outs.length=8
 li:M.ins.length=8
 wr:∀k,Wri (M.out k)
 sp:M.spent<=M.limit
 it:∀k,(M.inn k).gr.told<=(M.inn k).gr.lim (M.inn k).free
 gt:M.gr.told<=M.gr.lim M.free
 why:M.why=0
 q:M.queue=[]
 qn:M.qv=nZ
structure bn (A B:Side):Prop where
 rd:∀k,zQ (A.out k) (B.inn k)
 lim:A.limit<=B.gr.told
 came:∀r∈B.came.rs,r.2<A.next
structure Stp (A B A':Side):Prop where
 loc:dD A'
 ab:bn A' B
 ba:bn B A'
 le:z_ A A'
theorem Stp.trans{A B A' F:Side}(h:Stp A B A')(g:Stp A' B F):Stp A B F:=⟨g.loc,g.ab,g.ba,h.le.trans g.le⟩
theorem iD{A B:Side}(F:dD A)(h1:bn A B)(H:bn B A)(k:Nat)(o:Ot)(O:Wri o)(hl:o.limit=(A.out k).limit)(hs:(A.out k).sent<=o.sent)(hp:(A.out k).bytes <+:o.bytes)(K:(A.out k).fin=true->o.fin=true/\o.bytes=(A.out k).bytes)(I:o.sent<=(A.out k).sent+A.aB):Stp A B (A.bf k o):=by
 have G:∀j,(A.bf k o).out j=if j=k/\k<A.outs.length then o else A.out j:=fun j=>gK A k j o
 refine⟨⟨(eX _ _ _).trans F.lo,F.li,fun j=>?_,?_,F.it,F.gt,F.why,F.q,F.qn⟩,⟨fun j=>?_,h1.lim,h1.came⟩,⟨H.rd,H.lim,H.came⟩,⟨fun j=>?_,fun j=>?_,fun j=>?_,fun _=>fA _,fA _,fA _⟩⟩
 ·rw[G];split
  ·exact O
  ·exact F.wr j
 ·show(A.bf k o).spent<=A.limit
  by_cases h:k<A.outs.length
  ·have e:=xO A k o h;have U:=F.sp;unfold Side.aB at I;omega
  ·have:A.bf k o=A:=by unfold Side.bf;rw[JM _ _ _ (by omega)]
   rw[this];exact F.sp
 ·rw[G];split
  ·rename_i e;rw[e.1];exact(h1.rd k).mono hl hs hp K
  ·exact h1.rd j
 ·rw[G];split
  ·rename_i e;rw[e.1];exact hs
  ·exact fA _
 ·rw[G];split
  ·rename_i e;rw[e.1];exact hp
  ·exact mR _
 ·rw[G];split
  ·rename_i e;rw[e.1];exact K
  ·exact fun x=>⟨x,rfl⟩
theorem AJ:∀(l l':List bU) (s F:Nat),s<=F->l.length=l'.length->(∀k,(l.getD k uH).free<=(l'.getD k uH).free)->
  l.foldl (fun s i=>min (s+i.free) aZ) s<=l'.foldl (fun s i=>min (s+i.free) aZ) F
 |[],[],s,F,h,_,_=>h
 |[],_::_,_,_,_,e,_=>by simp at e
 |_::_,[],_,_,_,e,_=>by simp at e
 |a::t,b::u,s,F,h,e,g=>by
  simp only[List.foldl_cons]
  refine AJ t u _ _ ?_ (by simpa using e) fun k=>by simpa using g (k+1)
  have:=g 0;simp only[List.getD_cons_zero]at this;omega
theorem oP{A B:Side}(F:dD A)(h1:bn A B)(H:bn B A)(k:Nat)(i:bU)(O:zQ (B.out k) i)(ht:(A.inn k).gr.told<=i.gr.told)(I:(A.inn k).free<=i.free)(K:i.gr.told<=i.gr.lim i.free):Stp A B (A.dA k i):=by
 have G:∀j,(A.dA k i).inn j=if j=k/\k<A.ins.length then i else A.inn j:=fun j=>gL A k j i
 refine⟨⟨F.lo,(eX _ _ _).trans F.li,F.wr,F.sp,fun j=>?_,?_,F.why,F.q,F.qn⟩,⟨h1.rd,h1.lim,h1.came⟩,⟨fun j=>?_,H.lim,H.came⟩,⟨fun _=>fA _,fun _=>mR _,fun _ e=>⟨e,rfl⟩,fun j=>?_,fA _,fA _⟩⟩
 ·rw[G];split
  ·exact K
  ·exact F.it j
 ·refine fB F.gt ?_;show A.gr.lim A.free<=A.gr.lim (A.dA k i).free
  have:A.free<=(A.dA k i).free:=AJ _ _ 0 0 (fA _) (eX _ _ _).symm fun j=>by
   show(A.inn j).free<=((A.dA k i).inn j).free;rw[G];split
   ·rename_i e;rw[e.1];exact I
   ·exact fA _
  unfold Gn.lim;omega
 ·rw[G];split
  ·rename_i e;rw[e.1];exact O
  ·exact H.rd j
 ·rw[G];split
  ·rename_i e;rw[e.1];exact ht
  ·exact fA _
theorem D8{A B:Side}(F:dD A)(h1:bn A B)(G:bn B A)(k:Nat)(b:List UInt8):Stp A B (A.bf k ((A.out k).send b).1):=by
 have w:=F.wr k;unfold Ot.send;split
 ·exact iD F h1 G k _ w rfl (fA _) (mR _) (fun e=>⟨e,rfl⟩) (Am _ _)
 ·rename_i H;split
  ·exact iD F h1 G k _ w rfl (fA _) (mR _) (fun e=>⟨e,rfl⟩) (Am _ _)
  ·refine iD F h1 G k _ ⟨w.sl,?_,w.given⟩ rfl (fA _) (List.prefix_append _ _) (fun e=>?_) (by simp)
   ·show(A.out k).sent<=((A.out k).bytes++b).length;rw[qa2];have:=w.sb;omega
   ·exact absurd (by unfold Ot.closed;rw[e];rfl) H
theorem G9{A B:Side}(F:dD A)(h1:bn A B)(G:bn B A)(k:Nat):Stp A B (A.bf k (A.out k).finish.1):=by
 have w:=F.wr k;unfold Ot.finish;split
 ·exact iD F h1 G k _ w rfl (fA _) (mR _) (fun e=>⟨e,rfl⟩) (Am _ _)
 ·exact iD F h1 G k _ ⟨w.sl,w.sb,w.given⟩ rfl (fA _) (mR _) (fun _=>⟨rfl,rfl⟩) (by simp)
theorem AL{A B:Side}(F:dD A)(h1:bn A B)(G:bn B A):Stp A B A.ticks:=
 ⟨⟨F.lo,F.li,F.wr,F.sp,F.it,F.gt,F.why,by show A.queue.filter _=[];rw[F.q];rfl,F.qn⟩,⟨h1.rd,h1.lim,h1.came⟩,⟨G.rd,G.lim,G.came⟩,⟨fun _=>fA _,fun _=>mR _,fun _ e=>⟨e,rfl⟩,fun _=>fA _,fA _,fA _⟩⟩
theorem lW:∀(c:List Bool) (j:Nat),j<(c.takeWhile id).length->c.getD j false=true
 |[],j,h=>by simp at h
 |a::t,j,h=>by
  cases a
  ·simp at h
  ·cases j
   ·rfl
   ·simpa using lW t _ (by simpa using h)
theorem vM{o:Ot}{i:bU}(h:zQ o i):i.read+i.ready<=o.bytes.length:=by
 by_cases hz:i.ready=0
 ·have:=h.rd;omega
 ·have g:=h.got (i.ready-1) (lW _ _ (by unfold bU.ready at *;omega));obtain⟨x,_⟩:=tL.1 g;omega
theorem xP{o:Ot}{i:bU}(h:zQ o i):i.ready<=i.held.length:=by
 rw[<-h.len];unfold bU.ready;exact(List.takeWhile_prefix _).length_le
theorem TY{o:Ot}{i:bU}(h:zQ o i)(n:Nat)(H:n<=i.ready):i.held.take n=(o.bytes.drop i.read).take n:=by
 have G:=xP h;have hb:=vM h
 refine List.ext_getElem? fun j=>?_
 by_cases F:j<n
 ·have g:=h.got j (lW _ _ (by unfold bU.ready at *;omega));rw[Lb F,Lb F,DT,g,nI];rw[List.getElem?_eq_getElem (by omega)];rfl
 ·rw[WJ (by simp;omega),WJ (by simp;omega)]
theorem WI{o:Ot}{i:bU}(h:zQ o i)(most:Int):zQ o (i.rd most).2/\(i.rd most).2.gr=i.gr/\i.free<=(i.rd most).2.free/\(i.rd most).2.read=i.read+(i.rd most).1.length/\(i.rd most).1=(o.bytes.drop i.read).take (i.rd most).1.length:=by
 have hh:=xP h;have hb:=vM h;have O:min i.ready (max most 0).toNat<=i.ready:=Nat.min_le_left _ _;have ht:=TY h _ O;obtain⟨n,H⟩:∃n,n=min i.ready (max most 0).toNat:=⟨_,rfl⟩;unfold bU.rd;simp only[<-H]at O ht ⊢
 have hl:(i.held.take n).length=n:=by rw[R3];omega
 have I:zQ o {i.cut n with state:=if(i.cut n).state=0 then(i.cut n).reached else(i.cut n).state}:=by
  refine⟨h.lim,h.high,h.ended,h.given,?_,?_,?_,fun j e=>?_⟩
  ·show(if i.state=0 then(i.cut n).reached else i.state)=0\/(if i.state=0 then(i.cut n).reached else i.state)=1/\i.ended=true/\i.read+n=o.bytes.length
   by_cases F:i.state=0
   ·rw[if_pos F];unfold bU.reached;split
    ·exact .inl rfl
    ·rename_i K;have Z:(i.cut n).given=false:=h.given;rw[Z,if_neg (by simp)]
     have G:i.ended=true:=by
      cases hx:i.ended
      ·exact absurd (Or.inl hx) K
      ·rfl
     refine .inr ⟨rfl,G,?_⟩
     have hw:(i.cut n).wanted=i.dX:=by
      unfold bU.wanted;rw[show(i.cut n).given=false from h.given,show(i.cut n).ended=true from G];rfl
     have hr:¬(i.cut n).read<(i.cut n).wanted:=fun x=>K (Or.inr x)
     rw[hw,(h.ended G).2,show(i.cut n).read=i.read+n from rfl]at hr;omega
   ·rw[if_neg F]
    rcases h.st with e|⟨V,X,e3⟩
    ·exact absurd e F
    ·exact .inr ⟨V,X,by omega⟩
  ·show(i.came.drop n).length=(i.held.drop n).length;rw[M4,M4,h.len]
  ·show i.read+n<=_;omega
  ·have U:i.came.getD (n+j) false=true:=by
    have:(i.came.drop n).getD j false=true:=e;rw[nI,DT]at this;rw[nI];exact this
   have g:=h.got _ U;show o.bytes[i.read+n+j]?=some ((i.held.drop n).getD j 0);rw[Nat.add_assoc,g,nI,nI,DT]
 refine⟨I,rfl,?_,?_,?_⟩
 ·rw[I.free,h.free];exact Am _ _
 ·rw[hl];rfl
 ·rw[hl];exact ht
theorem OE{A B:Side}(G:dD A)(h1:bn A B)(F:bn B A)(k:Nat)(most:Int):Stp A B (A.dA k ((A.inn k).rd most).2):=by
 obtain⟨r,g,fr,_,_⟩:=WI (F.rd k) most;refine oP G h1 F k _ r (by rw[g];exact fA _) fr ?_;rw[g];refine fB (G.it k) ?_;unfold Gn.lim;omega
theorem JN:∀(l:aP) (lo e:Nat),(jo lo l e).2<=e
 |[],_,_=>fA _
 |r::t,lo,e=>by
  unfold jo;split
  ·exact Nat.min_le_right _ _
  ·split
   ·exact fA _
   ·exact JN t _ e
theorem sI{f g:Fr}{b:List UInt8}{room:Int}(h:kI f b room=some g):∃n,n<=b.length/\g={f with data:=⟨(b.take n).toArray⟩}:=by
 unfold kI at h;split at h
 ·cases h
 ·refine⟨_,?_,(Option.some.inj h).symm⟩;omega
theorem wX{o o':Ot}{k:Nat}{room:Int}{aB:Nat}{f:Fr}(hw:Wri o)(h5:o.waits aB=true)(h:o.next k room aB=some (f,o')):
  f.kind=4/\f.stream=(k:Int)/\G8 o' f/\Wri o'/\o'.limit=o.limit/\o.sent<=o'.sent/\o'.sent<=o.sent+aB/\o'.bytes=o.bytes/\o'.fin=o.fin/\o'.nt=o.nt:=by
 have h2:(o.waiting aB).1<(o.waiting aB).2:=of_decide_eq_true h5;have K:(o.waiting aB).2<=(if o.eO (o.reach aB)then o.reach aB+1 else o.reach aB):=JN _ _ _
 have h8:o.reach aB<=o.bytes.length:=by unfold Ot.reach;omega
 have ha:o.reach aB<=o.limit:=by unfold Ot.reach;omega
 have h9:o.reach aB<=o.sent+aB:=by unfold Ot.reach;omega
 obtain⟨lo,h0⟩:∃lo,lo=(o.waiting aB).1:=⟨_,rfl⟩;obtain⟨w2,h4⟩:∃w2,w2=(o.waiting aB).2:=⟨_,rfl⟩;unfold Ot.next at h;simp only[<-h0,<-h4]at h h2 K
 have key:lo<=o.reach aB/\min w2 o.bytes.length<=o.reach aB/\(min w2 o.bytes.length<=lo->lo=o.bytes.length/\o.eO (o.reach aB)=true/\o.reach aB=o.bytes.length):=by
  by_cases O:o.eO (o.reach aB)=true
  ·rw[if_pos O]at K
   have e2:o.reach aB=o.bytes.length:=by
    unfold Ot.eO at O;simp only[He,decide_eq_true_eq]at O;exact O.2
   refine⟨by omega,by omega,fun h=>⟨by omega,O,e2⟩⟩
  ·rw[if_neg O]at K;refine⟨by omega,by omega,fun h=>by omega⟩
 cases hF:kI (nX k lo) ((o.bytes.take (min w2 o.bytes.length)).drop lo) room with
 |none=>rw[hF]at h;cases h
 |some g=>
  rw[hF]at h;simp only at h;split at h
  ·cases h
  ·rename_i h3;obtain⟨n,hn,X⟩:=sI hF;have V:=Option.some.inj h;have I:f={g with fin:=o.eO (aJ g)}:=(congrArg SF V).symm
   have F:o'=({o with sent:=max o.sent (aJ g)}:Ot).aw f:=by rw[I];exact(congrArg Prod.snd V).symm
   have hsz:g.data.size=n:=by
    rw[X];show(WA n _).toArray.size=n;rw[List.size_toArray,R3];omega
   have h7:((o.bytes.take (min w2 o.bytes.length)).drop lo).length=min w2 o.bytes.length-lo:=by
    rw[M4,R3];omega
   have Z:g.offset=lo:=by rw[X];rfl
   have U:aJ g=lo+n:=by unfold aJ;rw[hsz,Z]
   have G:aJ f=lo+n:=by rw[I];exact U
   have h6:lo+n<=o.reach aB:=by have:=key.1;have:=key.2.1;omega
   have hd:f.data.data.toList=(o.bytes.take (lo+n)).drop lo:=by
    rw[I,X];show(WA n (List.drop lo (WA (min w2 o.bytes.length) o.bytes)))=_;rw[List.take_drop,List.take_take]
    congr 2
    omega
   have H:f.fin=o.eO (lo+n):=by rw[I];show o.eO (aJ g)=_;rw[U]
   refine⟨by rw[I,X];rfl,by rw[I,X];rfl,⟨?_,?_,?_,fun e=>?_,?_⟩,⟨?_,?_,?_⟩,by rw[F];rfl,?_,?_,by rw[F];rfl,by rw[F];rfl,by rw[F];rfl⟩
   ·rw[G,F];show lo+n<=max o.sent (aJ g);omega
   ·rw[G,F];show lo+n<=o.bytes.length;omega
   ·rw[G,F,hd];show _=((o.bytes.take (lo+n)).drop f.offset);rw[show f.offset=lo by rw[I];exact Z]
   ·rw[H]at e;unfold Ot.eO at e;simp only[He,decide_eq_true_eq]at e;rw[F];exact⟨e.1.1,by rw[G];exact e.2⟩
   ·by_cases hz:0<lo+n
    ·rw[G];exact .inr hz
    ·left
     have hm:min w2 o.bytes.length<=lo:=by
      by_cases hc:lo<min w2 o.bytes.length
      ·exact absurd ⟨hc,by omega⟩ h3
      ·omega
     obtain⟨a,b,c⟩:=key.2.2 hm;rw[H,show lo+n=o.reach aB by omega];exact b
   ·rw[F];show max o.sent (aJ g)<=o.limit;have:=hw.sl;omega
   ·rw[F];show max o.sent (aJ g)<=o.bytes.length;have:=hw.sb;omega
   ·rw[F];exact hw.given
   ·rw[F];show o.sent<=max o.sent (aJ g);omega
   ·rw[F];show max o.sent (aJ g)<=_;omega
theorem G_{A B:Side}(F:dD A)(h1:bn A B)(G:bn B A)(g:Gn)(H:g.ahead=A.gr.ahead)(ht:A.gr.told<=g.told)(hl:g.told<=A.gr.lim A.free):Stp A B {A with gr:=g}:=
 ⟨⟨F.lo,F.li,F.wr,F.sp,F.it,by show g.told<=g.lim A.free;unfold Gn.lim at *;rw[H];exact hl,F.why,F.q,F.qn⟩,⟨h1.rd,h1.lim,h1.came⟩,⟨G.rd,fB G.lim ht,G.came⟩,⟨fun _=>fA _,fun _=>mR _,fun _ e=>⟨e,rfl⟩,fun _=>fA _,ht,fA _⟩⟩
theorem iE{A B:Side}(G:dD A)(h1:bn A B)(F:bn B A):Stp A B A:=⟨G,h1,F,z_.refl A⟩
theorem JO{o:Ot}{i:bU}(h:zQ o i)(g:Gn)(ht:i.gr.told<=g.told):zQ o {i with gr:=g}:=
 ⟨fB h.lim ht,h.high,h.ended,h.given,h.st,h.len,h.rd,h.got⟩
theorem mq{g g':Gn}{kind:Int}{k free:Nat}{room:Int}{f:Fr}(h:g.next kind k free room=some (f,g')):f=iT kind k (g.lim free)/\g'=({g with told:=g.lim free}:Gn).aw (g.lim free):=by
 unfold Gn.next at h;split at h
 ·cases h
 ·have:=Option.some.inj h;exact⟨(congrArg SF this).symm,(congrArg Prod.snd this).symm⟩
theorem D9{A B A':Side}(G:dD A)(h1:bn A B)(Z:bn B A)(av bH:aP)(u:Nat)(room:Int)(f:Fr)(hu:u<48)(hl:∀r∈av,r.2<B.next)(F:A.waits av u=true)(h:A.frame av u room=some (f,A',bH)):Stp A B A'/\lV A' B f/\(∀r∈bH,r.2<B.next):=by
 unfold Side.frame at h;unfold Side.waits at F
 by_cases u0:u=0
 ·rw[if_pos u0]at h;split at h
  ·cases h
  ·rename_i hn;have e:=Option.some.inj h;have O:dR (av.take (cB av room av.length))=f:=congrArg SF e;have K:A=A':=congrArg (fun x=>x.2.1) e;have el:av.drop (cB av room av.length)=bH:=congrArg (fun x=>x.2.2) e;subst O K el;refine⟨iE G h1 Z,.inl ⟨rfl,?_,?_⟩,fun r hr=>hl r (List.mem_of_mem_drop hr)⟩
   ·cases av with
    |nil=>exact absurd rfl hn
    |cons a t=>
     show WA _ (a::t)≠[];intro V;rw[List.take_eq_nil_iff]at V
     rcases V with V|V
     ·exact hn V
     ·cases V
   ·cases av with
    |nil=>exact absurd rfl hn
    |cons a t=>
     show((WA _ (a::t)).getD 0 (0,0)).2<B.next;obtain⟨m,hm⟩:∃m,cB (a::t) room (a::t).length=m+1:=⟨cB (a::t) room (a::t).length-1,by omega⟩;rw[hm];exact hl a (by simp)
 ·rw[if_neg u0]at h F;simp only[He]at F;replace F:=F.2
  have hq:A.cO=0:=by unfold Side.cO;rw[G.q]
  by_cases u8:u=8
  ·rw[if_pos u8]at h;obtain⟨⟨f1,U⟩,hx,e⟩:=uj.1 h;obtain⟨I,H⟩:=mq hx;have O:f1=f:=congrArg SF e;have K:{A with gr:=U}=A':=congrArg (fun x=>x.2.1) e;have el:av=bH:=congrArg (fun x=>x.2.2) e;subst O K el;refine⟨G_ G h1 Z U (by rw[H];rfl) (by rw[H];exact G.gt) (by rw[H];exact fA _),.inr (.inr (.inl ⟨by rw[I];rfl,?_⟩)),hl⟩;rw[I,H];exact fA _
  ·rw[if_neg u8]at h F
   by_cases u24:u<24
   ·rw[if_pos u24]at h;obtain⟨⟨f1,U⟩,hx,e⟩:=uj.1 h;obtain⟨I,H⟩:=mq hx;have O:f1=f:=congrArg SF e;have K:A.dA (u-16) {A.inn (u-16)with gr:=U}=A':=congrArg (fun x=>x.2.1) e;have el:av=bH:=congrArg (fun x=>x.2.2) e;subst O K el
    have ht:(A.inn (u-16)).gr.told<=U.told:=by rw[H];exact G.it _
    refine⟨oP G h1 Z (u-16) _ (JO (Z.rd _) U ht) ht (fA _) (by rw[H];exact fA _),.inr (.inr (.inr ⟨by rw[I];rfl,by rw[I];exact qa1 _,?_,?_⟩)),hl⟩
    ·rw[I];show((u-16:Nat):Int)<8;omega
    ·rw[I];show(A.inn (u-16)).gr.lim _<=((A.dA (u-16) _).inn (((u-16:Nat):Int).toNat)).gr.told;rw[qa3,gL,if_pos ⟨rfl,by rw[G.li];omega⟩,H];exact fA _
   ·rw[if_neg u24]at h F
    by_cases u32:u<32
    ·rw[if_pos u32]at F;unfold Nt.waits at F;rw[(G.wr _).given]at F;cases F
    ·rw[if_neg u32]at h F
     by_cases X:u=32
     ·rw[if_pos X]at F;rw[G.q]at F;simp at F
     ·rw[if_neg X]at h F;obtain⟨⟨f1,o1⟩,hx,e⟩:=uj.1 h;have O:f1=f:=congrArg SF e;have K:A.bf (u-40) o1=A':=congrArg (fun x=>x.2.1) e;have el:av=bH:=congrArg (fun x=>x.2.2) e;subst O K el;obtain⟨n1,n2,n3,n4,n5,n6,n7,n8,n9,_⟩:=wX (G.wr _) F hx;refine⟨iD G h1 Z (u-40) o1 n4 n5 n6 (by rw[n8];exact mR _) (fun x=>⟨by rw[n9];exact x,n8⟩) n7,.inr (.inl ⟨n1,by rw[n2];exact qa1 _,by rw[n2];omega,?_⟩),hl⟩;rw[n2,qa3,gK,if_pos ⟨rfl,by rw[G.lo];omega⟩];exact n3
end Go.Proofs.YtphbledmopchnaaGreatDoor.Sd
namespace Go.Proofs.YtphbledmopchnaaGreatDoor.Sd
open Go.RowKit Go.Lib Mm Tryz
abbrev Own:=Nat->Nat
structure Kp (T:List Nat) (oZ aC:Own) (w w':World):Prop where
 os:w'.os=w.os
 tape:w'.tape=w.tape
 output:w'.output=w.output
 size:w.heap.size<=w'.heap.size
 blk:∀b,b<w.heap.size->oZ b∉T->w'.heap[b]?=w.heap[b]?
 ext:∀b,b<w.heap.size->aC b=oZ b
theorem Kp.refl(T:List Nat)(oZ:Own)(w:World):Kp T oZ oZ w w:=⟨rfl,rfl,rfl,fA _,fun _ _ _=>rfl,fun _ _=>rfl⟩
theorem Kp.trans{T:List Nat}{o0 o1 G:Own}{w w1 w2:World}(h:Kp T o0 o1 w w1)(k:Kp T o1 G w1 w2):Kp T o0 G w w2:=
 ⟨k.os.trans h.os,k.tape.trans h.tape,k.output.trans h.output,fB h.size k.size,
 fun b hb F=>(k.blk b (sQ hb h.size) (by rw[h.ext b hb];exact F)).trans (h.blk b hb F),
 fun b hb=>(k.ext b (sQ hb h.size)).trans (h.ext b hb)⟩
theorem Kp.mono{T F:List Nat}{o o':Own}{w w':World}(h:Kp T o o' w w')(G:∀t∈T,t∈F):Kp F o o' w w':=
 ⟨h.os,h.tape,h.output,h.size,fun b hb I=>h.blk b hb (fun H=>I (G _ H)),h.ext⟩
theorem Kp.below{T:List Nat}{oZ:Own}{w w':World}(h:aD w w'):Kp T oZ oZ w w':=
 ⟨h.os,h.tape,h.output,h.size,fun b hb _=>h.block b hb,fun _ _=>rfl⟩
theorem Kp.fK{T:List Nat}{o o':Own}{w w1 w2:World}(h:Kp T o o' w w1)(k:aD w1 w2):Kp T o o' w w2:=h.trans (Kp.below k)
theorem Kp.drewN{T:List Nat}{o o':Own}{w w1:World}(h:Kp T o o' w w1)(q:Nat):Kp T o o' w (w1.drewN q):=⟨h.os,h.tape,h.output,h.size,h.blk,h.ext⟩
theorem Kp.set(oZ:Own)(w:World)(a:Addr)(v:Value)(T:List Nat)(h:oZ a.block∈T):Kp T oZ oZ w (w.setCell a v):=
 ⟨rfl,rfl,rfl,by simp,fun b _ F=>tT _ _ _ _ (fun e=>F (by rw[e];exact h)),fun _ _=>rfl⟩
theorem Kp.alloc(oZ:Own)(w:World)(o:Obj)(T:List Nat):Kp T oZ oZ w (w.alloc o):=Kp.below ((qai _ w).alloc (fA _) o)
theorem aO{T:List Nat}{o o':Own}{w w':World}{b:Nat}{t:TypeId}{l:aI}(h:aA w b t l)(k:Kp T o o' w w')(F:o b∉T):aA w' b t l:=h.of_heap (k.blk b h.lt F)
def GT(oZ:Own)(t:Nat)(e:TypeId)(k:Nat)(w:World)(v:Value)(n:Nat)(l:aI):Prop:=
 v=nZ/\n=0/\l=[]\/∃g cap cs,v=(aS g n cap)/\oZ g=t/\aA w g e cs/\cap*k<=cs.length/\n<=cap/\cap<=9223372036854775807/\l.length=n*k/\cs.take (n*k)=l/\∀v∈cs,v.oneCell'=true
theorem GT.kp{oZ aC:Own}{t:Nat}{e:TypeId}{k:Nat}{w w':World}{v:Value}{n:Nat}{l:aI}{T:List Nat}(h:GT oZ t e k w v n l)(K:Kp T oZ aC w w')(I:t∉T):GT aC t e k w' v n l:=by
 rcases h with h|⟨g,cap,cs,h1,F,G,H⟩
 ·exact .inl h
 ·exact .inr ⟨g,cap,cs,h1,by rw[K.ext g G.lt,F],aO G K (by rw[F];exact I),H⟩
theorem GT.len{oZ:Own}{t:Nat}{e:TypeId}{k:Nat}{w:World}{v:Value}{n:Nat}{l:aI}(h:GT oZ t e k w v n l):l.length=n*k:=by
 rcases h with⟨_,rfl,rfl⟩|⟨_,_,_,_,_,_,_,_,_,h,_⟩
 ·simp
 ·exact h
theorem GT.shape{oZ:Own}{t:Nat}{e:TypeId}{k:Nat}{w:World}{v:Value}{n:Nat}{l:aI}(h:GT oZ t e k w v n l):∃a c,v=.slice a n c/\n<=c/\c<=9223372036854775807:=by
 rcases h with⟨rfl,rfl,_⟩|⟨g,cap,cs,rfl,_,_,_,h,h',_⟩
 ·exact⟨_,_,rfl,fA _,by omega⟩
 ·exact⟨_,_,rfl,h,h'⟩
theorem GT.cell{oZ:Own}{t:Nat}{e:TypeId}{k:Nat}{w:World}{a:Option Addr}{n c:Nat}{l:aI}(h:GT oZ t e k w (.slice a n c) n l)(j:Nat)(x:Value)(F:l[j]?=some x):∃g,a=some (aj g 0)/\oZ g=t/\g<w.heap.size/\w.cell? (aj g j)=some x/\w.frozen? (aj g j)=false:=by
 rcases h with⟨_,rfl,rfl⟩|⟨g,cap,cs,hv,ho,hB,_,_,_,h4,h5,_⟩
 ·simp at F
 ·simp at hv;refine⟨g,hv.1,ho,hB.lt,?_,hB.frozen j⟩;rw[hB.cell];rw[<-h5,List.getElem?_take]at F;split at F
  ·exact F
  ·cases F
theorem GT.TW{oZ:Own}{t:Nat}{e:TypeId}{k:Nat}{w:World}{v:Value}{n:Nat}{l:aI}(h:bK e k w v n l)(H:∀b,v.ownBlock=some b->oZ b=t):GT oZ t e k w v n l:=by
 rcases h with h|⟨g,cap,cs,h1,F,I,G⟩
 ·exact .inl h
 ·exact .inr ⟨g,cap,cs,h1,H g (by rw[h1];rfl),F,by omega,G⟩
def iN(l l':aI)(o n:Nat):Prop:=l'.length=l.length/\∀j,j<o\/o+n<=j->l'[j]?=l[j]?
theorem iN.refl(l:aI)(o n:Nat):iN l l o n:=⟨rfl,fun _ _=>rfl⟩
theorem iN.trans{a b c:aI}{o n:Nat}(h:iN a b o n)(k:iN b c o n):iN a c o n:=⟨k.1.trans h.1,fun j F=>(k.2 j F).trans (h.2 j F)⟩
theorem iN.mono{a b:aI}{o n o' n':Nat}(h:iN a b o n)(h1:o'<=o)(F:o+n<=o'+n'):iN a b o' n':=⟨h.1,fun j G=>h.2 j (by omega)⟩
theorem iN.set(l:aI)(j:Nat)(v:Value)(o n:Nat)(h1:o<=j)(F:j<o+n):iN l (l.set j v) o n:=
 ⟨by simp,fun i hi=>by rw[YF (by omega)]⟩
abbrev TS:TypeId:=210
structure je (R:Nat) (y y':World):Prop where
 os:y'.os=y.os
 tape:y'.tape=y.tape
 output:y'.output=y.output
 size:y'.heap.size=y.heap.size
 block:∀k,k≠R->y'.heap[k]?=y.heap[k]?
theorem je.refl(R:Nat)(y:World):je R y y:=⟨rfl,rfl,rfl,rfl,fun _ _=>rfl⟩
theorem je.set{R:Nat}{y y':World}(h:je R y y')(o:Nat)(v:Value):je R y (y'.setCell (aj R o) v):=
 ⟨h.os,h.tape,h.output,by rw[<-h.size];simp,fun k F=>(tT y' (aj R o) v k F).trans (h.block k F)⟩
structure dL (w w':World) (S:Nat) (l l':aI) (o n:Nat):Prop where
 os:w'.os=w.os
 tape:w'.tape=w.tape
 output:w'.output=w.output
 size:w.heap.size<=w'.heap.size
 al:∀b,b<w.heap.size->b≠S->w'.heap[b]?=w.heap[b]?
 blk:aA w' S TS l'
 win:iN l l' o n
theorem dL.refl{w:World}{S:Nat}{l:aI}(hB:aA w S TS l)(o n:Nat):dL w w S l l o n:=⟨rfl,rfl,rfl,fA _,fun _ _ _=>rfl,hB,iN.refl _ _ _⟩
theorem dL.one{w:World}{S:Nat}{l:aI}(hB:aA w S TS l)(j:Nat)(v:Value)(o n:Nat)(h1:o<=j)(G:j<o+n):dL w (w.setCell (aj S j) v) S l (l.set j v) o n:=
 ⟨rfl,rfl,rfl,by simp,fun b _ F=>tT _ _ _ _ F,hB.setCell j v,iN.set l j v o n h1 G⟩
theorem dL.trans{w w1 w2:World}{S:Nat}{l l1 l2:aI}{o n:Nat}(h:dL w w1 S l l1 o n)(k:dL w1 w2 S l1 l2 o n):dL w w2 S l l2 o n:=
 ⟨k.os.trans h.os,k.tape.trans h.tape,k.output.trans h.output,fB h.size k.size,fun b hb F=>(k.al b (sQ hb h.size) F).trans (h.al b hb F),k.blk,h.win.trans k.win⟩
theorem dL.kp{w w':World}{S:Nat}{l l':aI}{o n:Nat}(h:dL w w' S l l' o n){s:Nat}{oZ:Own}(F:oZ S=s){T:List Nat}(G:s∈T):Kp T oZ oZ w w':=
 ⟨h.os,h.tape,h.output,h.size,fun b hb H=>h.al b hb (fun e=>H (by rw[e,F];exact G)),fun _ _=>rfl⟩
theorem Kp.drew{T:List Nat}{o o':Own}{w w1:World}(h:Kp T o o' w w1):Kp T o o' w w1.drew:=⟨h.os,h.tape,h.output,h.size,h.blk,h.ext⟩
theorem dL.drew{w w':World}{S:Nat}{l l':aI}{o n:Nat}(h:dL w w' S l l' o n):dL w w'.drew S l l' o n:=⟨h.os,h.tape,h.output,h.size,h.al,h.blk.drew,h.win⟩
theorem dL.drewN{w w':World}{S:Nat}{l l':aI}{o n:Nat}(h:dL w w' S l l' o n)(q:Nat):dL w (w'.drewN q) S l l' o n:=⟨h.os,h.tape,h.output,h.size,h.al,h.blk,h.win⟩
theorem dL.after{w W w':World}{S:Nat}{l l':aI}{o n:Nat}(k:aD w W)(h:dL W w' S l l' o n):dL w w' S l l' o n:=
 ⟨h.os.trans k.os,h.tape.trans k.tape,h.output.trans k.output,fB k.size h.size,fun b hb F=>(h.al b (sQ hb k.size) F).trans (k.block b hb),h.blk,h.win⟩
theorem dL.fK{w w1 w':World}{S:Nat}{l l':aI}{o n:Nat}(h:dL w w1 S l l' o n)(k:aD w1 w'):dL w w' S l l' o n:=
 ⟨k.os.trans h.os,k.tape.trans h.tape,k.output.trans h.output,fB h.size k.size,fun b hb F=>(k.block b (sQ hb h.size)).trans (h.al b hb F),h.blk.of_heap (k.block _ h.blk.lt),h.win⟩
theorem dL.tch{w w1 w':World}{S:Nat}{l l':aI}{o n:Nat}{R:Nat}(h:dL w w1 S l l' o n)(t:je R w1 w')(H:w.heap.size<=R)(F:S≠R):dL w w' S l l' o n:=
 ⟨t.os.trans h.os,t.tape.trans h.tape,t.output.trans h.output,by rw[t.size];exact h.size,fun b hb G=>(t.block b (by omega)).trans (h.al b hb G),h.blk.of_heap (t.block _ F),h.win⟩
theorem dL.other{w w':World}{S:Nat}{l l':aI}{o n:Nat}(h:dL w w' S l l' o n){b:Nat}{t:TypeId}{m:aI}(hb:aA w b t m)(F:b≠S):aA w' b t m:=hb.of_heap (h.al b hb.lt F)
def loc(oZ:Own)(n:Nat):Own:=fun b=>if b<n then oZ b else 0
theorem fM(oZ:Own)(n b:Nat)(h:b<n):loc oZ n b=oZ b:=if_pos h
theorem fD(oZ:Own)(n b:Nat)(h:n<=b):loc oZ n b=0:=if_neg (by omega)
structure qV (l:aI) (o:Nat) (g:Gn):Prop where
 c0:l[o]?=some (uZ g.ahead)
 c1:l[o+1]?=some (uZ g.told)
 c2:l[o+2]?=some (uZ g.away)
 c3:l[o+3]?=some (uZ g.came)
theorem qV.win{l l':aI}{o o' n':Nat}{g:Gn}(h:qV l o g)(w:iN l l' o' n')(hd:o+4<=o'\/o'+n'<=o):qV l' o g:=
 ⟨by rw[w.2 _ (by omega),h.c0],by rw[w.2 _ (by omega),h.c1],by rw[w.2 _ (by omega),h.c2],by rw[w.2 _ (by omega),h.c3]⟩
structure zY (l:aI) (o:Nat) (n:Nt):Prop where
 c0:l[o]?=some (.bool n.given)
 c1:l[o+1]?=some (uZ n.offset)
 c2:l[o+2]?=some (uZ n.away)
 c3:l[o+3]?=some (uZ n.came)
theorem zY.win{l l':aI}{o o' n':Nat}{g:Nt}(h:zY l o g)(w:iN l l' o' n')(hd:o+4<=o'\/o'+n'<=o):zY l' o g:=
 ⟨by rw[w.2 _ (by omega),h.c0],by rw[w.2 _ (by omega),h.c1],by rw[w.2 _ (by omega),h.c2],by rw[w.2 _ (by omega),h.c3]⟩
theorem max2(a b:Nat):∃m:Nat,(∀F t w,(Kt F t #[uZ a,uZ b]).run prog w=.ok (uZ m) w)/\m=max a b:=by
 refine⟨max a b,fun F t w=>?_,rfl⟩;simp only[Kt,wz,Av,qab];simp only[Ui,Ur,Result.andThen_ok]
 by_cases h:a<b
 ·simp[h,Nat.max_eq_right (qah h)]
 ·simp[h,Nat.max_eq_left (qa9 h)]
theorem min2(a b:Nat):∃m:Nat,(∀F t w,(KG F t #[uZ a,uZ b]).run prog w=.ok (uZ m) w)/\m=min a b:=by
 refine⟨min a b,fun F t w=>?_,rfl⟩;simp only[KG,wz,Av,qae];simp only[Ui,Ur,Result.andThen_ok]
 by_cases h:b<a
 ·simp[h,Nat.min_eq_right (qah h)]
 ·simp[h,Nat.min_eq_left (qa9 h)]
theorem OB(a b:Int):∃m:Int,(∀F t w,(KG F t #[iZ a,iZ b]).run prog w=.ok (iZ m) w)/\m=min a b:=by
 refine⟨min a b,fun F t w=>?_,rfl⟩;simp only[KG,wz,Av,qae];simp only[Ui,Ur,Result.andThen_ok]
 by_cases h:b<a
 ·simp[h,Int.min_eq_right (qag h)]
 ·simp[h,Int.min_eq_left (Int.not_lt.1 h)]
theorem YM(a b:Int):∃m:Int,(∀F t w,(Kt F t #[iZ a,iZ b]).run prog w=.ok (iZ m) w)/\m=max a b:=by
 refine⟨max a b,fun F t w=>?_,rfl⟩;simp only[Kt,wz,Av,qab];simp only[Ui,Ur,Result.andThen_ok]
 by_cases h:a<b
 ·simp[h,Int.max_eq_right (qag h)]
 ·simp[h,Int.max_eq_left (Int.not_lt.1 h)]
def iA(y:World)(R:Nat)(F G H v3 I K O U V v9:Value):World:=
 (((((((((y.setCell (aj R 0) F).setCell (aj R 1) G).setCell (aj R 2) H).setCell (aj R 3) v3).setCell (aj R 4) I).setCell (aj R 5) K).setCell (aj R 6) O).setCell (aj R 7) U).setCell (aj R 8) V).setCell (aj R 9) v9
theorem dI(y:World)(R:Nat)(F G H v3 I K O U V v9:Value):
  (((((((((y.setCell (aj R 0) F).setCell (aj R 1) G).setCell (aj R 2) H).setCell (aj R 3) v3).setCell (aj R 4) I).setCell (aj R 5) K).setCell (aj R 6) O).setCell (aj R 7) U).setCell (aj R 8) V).setCell (aj R 9) v9=iA y R F G H v3 I K O U V v9:=rfl
theorem dh{y:World}{R:Nat}{t:TypeId}{u0 u1 u2 u3 u4 u5 u6 u7 u8 u9:Value}(h:aA y R t [u0,u1,u2,u3,u4,u5,u6,u7,u8,u9])(F G H v3 I K O U V v9:Value):aA (iA y R F G H v3 I K O U V v9) R t [F,G,H,v3,I,K,O,U,V,v9]:=
 (((((((((h.setCell 0 F).setCell 1 G).setCell 2 H).setCell 3 v3).setCell 4 I).setCell 5 K).setCell 6 O).setCell 7 U).setCell 8 V).setCell 9 v9
theorem dw(y:World)(R:Nat)(F G H v3 I K O U V v9:Value):je R y (iA y R F G H v3 I K O U V v9):=
 ((((((((((je.refl R y).set 0 F).set 1 G).set 2 H).set 3 v3).set 4 I).set 5 K).set 6 O).set 7 U).set 8 V).set 9 v9
theorem je.below{R:Nat}{B:Nat}{w y y':World}(t:je R y y')(h:Below B w y)(G:B<=R):Below B w y':=
 ⟨t.os.trans h.os,t.tape.trans h.tape,t.output.trans h.output,by have:=h.size;rw[t.size];exact this,fun k F=>(t.block k (by omega)).trans (h.block k F)⟩
theorem je.kp{R:Nat}{T:List Nat}{o o':Own}{w y y':World}(t:je R y y')(h:Kp T o o' w y)(H:w.heap.size<=R):Kp T o o' w y':=
 ⟨t.os.trans h.os,t.tape.trans h.tape,t.output.trans h.output,by rw[t.size];exact h.size,fun k F G=>(t.block k (by omega)).trans (h.blk k F G),h.ext⟩
theorem aU(l:aI)(j:Nat)(v x:Value)(h:l[j]?=some x):(l.set j v)[j]?=some v:=by
 rw[List.getElem?_set_self (tL.1 h).1]
theorem ak(l:aI)(j i:Nat)(v:Value)(h:j≠i):(l.set j v)[i]?=l[i]?:=YF h
end Go.Proofs.YtphbledmopchnaaGreatDoor.Sd
namespace Go.Proofs.YtphbledmopchnaaGreatDoor.Sd
open Go.RowKit Go.Lib Mm St Tryz
def jN(w:World)(sp so:Nat)(l:aI)(most:Int)(fl:Nat)(base:Option Addr)(n c:Nat):Prop:=
 aA w sp TS l/\l[so]?=some (iZ most)/\l[so+1]?=some (uZ fl)/\l[so+2]?=some (.slice base n c)
theorem jN.of{w w':World}{sp so:Nat}{l:aI}{most:Int}{fl:Nat}{base:Option Addr}{n c:Nat}(h:jN w sp so l most fl base n c)(e:w'.heap[sp]?=w.heap[sp]?):jN w' sp so l most fl base n c:=⟨h.1.of_heap e,h.2⟩
theorem jN.cell0{w:World}{sp so:Nat}{l:aI}{most:Int}{fl:Nat}{base:Option Addr}{n c:Nat}(h:jN w sp so l most fl base n c):w.cell? (aj sp so)=some (iZ most):=by rw[h.1.cell];exact h.2.1
theorem jN.cell1{w:World}{sp so:Nat}{l:aI}{most:Int}{fl:Nat}{base:Option Addr}{n c:Nat}(h:jN w sp so l most fl base n c):w.cell? (aj sp (so+1))=some (uZ fl):=by rw[h.1.cell];exact h.2.2.1
theorem jN.jW{w:World}{sp so:Nat}{l:aI}{most:Int}{fl:Nat}{base:Option Addr}{n c:Nat}(h:jN w sp so l most fl base n c):w.cell? (aj sp (so+2))=some (.slice base n c):=by rw[h.1.cell];exact h.2.2.2
def wK(w:World)(sp so:Nat)(l:aI)(most:Int)(fl:Nat)(rs:aP)(row:Option Nat):Prop:=
 ∃base c,jN w sp so l most fl base rs.length c/\rs.length<=c/\c<=9223372036854775807/\row=base.map (·.block)/\gN w sp base c rs
def Cv(w:World)(sp so:Nat)(l:aI)(most:Int)(fl:Nat)(rs:aP)(row:Option Nat):Prop:=
 ∃l',wK w sp so l' most fl rs row/\iN l l' so 3
theorem Hu(bs G sp so b c n i lo x:Nat)(W:World)(hi:i<n)(_hn:n<4611686018427387904)(cs:W.cell? (aj bs 0)=some (ay sp so))(K:W.cell? (aj G 0)=some (uZ lo))(cl:W.cell? (aj sp (so+2))=some (aS b n c))(O:W.cell? (aj b (i*2+1))=some (uZ x))(F:lo<18446744073709551616)(I:x<18446744073709551616):
  Calls prog 221 (#[iZ i]++#[ay bs 0,ay G 0]) W fun e w'=>e=.returned (.bool (!decide (x+1<lo)))/\∃q,w'=W.drewN q:=by
 have H:(i:Int)<(n:Int):=by omega
 go_enter func221,ntmps221;go_wp2
 go_quiet ((go_at_call 222;exact Calls.quiet_of_same (St.AU _ _ I F _)))
 go_wp2;go_ret;exact⟨rfl,nq,rfl⟩
theorem Hw(bs G sp so b c n i hi x:Nat)(W:World)(H:i<n)(_hn:n<4611686018427387904)(cs:W.cell? (aj bs 0)=some (ay sp so))(O:W.cell? (aj G 1)=some (uZ hi))(cl:W.cell? (aj sp (so+2))=some (aS b n c))(U:W.cell? (aj b (i*2))=some (uZ x))(F:hi<18446744073709551616)(K:x<18446744073709551616):
  Calls prog 223 (#[iZ i]++#[ay G 0,ay bs 0]) W fun e w'=>e=.returned (.bool (decide (hi+1<x)))/\∃q,w'=W.drewN q:=by
 have I:(i:Int)<(n:Int):=by omega
 go_enter func223,ntmps223;go_wp2
 go_quiet ((go_at_call 222;exact Calls.quiet_of_same (St.AU _ _ F K _)))
 go_wp2;go_ret;exact⟨rfl,nq,rfl⟩
theorem Li(bs F sp so b c n i v x:Nat)(W:World)(G:i<n)(_hn:n<4611686018427387904)(cs:W.cell? (aj bs 0)=some (ay sp so))(I:W.cell? (aj F 0)=some (uZ v))(cl:W.cell? (aj sp (so+2))=some (aS b n c))(K:W.cell? (aj b (i*2+1))=some (uZ x)):
  Calls prog 172 (#[iZ i]++#[ay bs 0,ay F 0]) W fun e w'=>e=.returned (.bool (decide (v<=x)))/\∃q,w'=W.drewN q:=by
 have H:(i:Int)<(n:Int):=by omega
 go_enter func172,ntmps172;go_wp2
 go_quiet (fail)
 go_wp2;go_ret;exact⟨St.aV (by simp),nq,rfl⟩
theorem En(bs F sp so lo:Nat)(base:Option Addr)(c:Nat)(rs:aP)(W:World)(K:Rg.Sorted rs)(hB:Small rs)(V:rs.length<=1000000)(H:lo<18446744073709551616)(cs:W.cell? (aj bs 0)=some (ay sp so))(I:W.cell? (aj F 0)=some (uZ lo))(cl:W.cell? (aj sp (so+2))=some (.slice base rs.length c))(R:gN W sp base c rs):
  Calls prog 171 #[(iZ (rs.length:Nat)),.func (.func 221) #[] #[ay bs 0,ay F 0]] W fun e w'=>e=.returned (iZ (Rg.gX lo rs:Nat))/\∃q,w'=W.drewN q:=by
 have O:(E8 rs.length).countP (fun i=> !(!decide ((rs.getD i (0,0)).2+1<lo)))=Rg.gX lo rs:=by
  simp only[Bool.not_not];exact ji rs (fun r=>decide (r.2+1<lo))
 rw[<-O];refine qY 221 _ rs.length (fun i=> !decide ((rs.getD i (0,0)).2+1<lo)) W (enters_of func221 (by kernel_rfl) rfl) (by omega) (fun m i hi=>?_) (fun a b G hb h=>?_)
 ·obtain⟨b,rfl,_,_,h1,U⟩:=R.lH hi;exact Hu bs F sp so b c rs.length i lo _ (W.drewN m) hi (by omega) cs I cl h1 H (hB.get hi).2
 ·have:=(nk K G hb).2;simp only[Bool.not_eq_true',decide_eq_false_iff_not]at h ⊢;omega
theorem Eo(bs G sp so hi:Nat)(base:Option Addr)(c:Nat)(rs:aP)(W:World)(U:Rg.Sorted rs)(hB:Small rs)(X:rs.length<=1000000)(I:hi<18446744073709551616)(cs:W.cell? (aj bs 0)=some (ay sp so))(K:W.cell? (aj G 1)=some (uZ hi))(cl:W.cell? (aj sp (so+2))=some (.slice base rs.length c))(R:gN W sp base c rs):
  Calls prog 171 #[(iZ (rs.length:Nat)),.func (.func 223) #[] #[ay G 0,ay bs 0]] W fun e w'=>e=.returned (iZ (Rg.end' hi rs:Nat))/\∃q,w'=W.drewN q:=by
 have V:(E8 rs.length).countP (fun i=> !(decide (hi+1<(rs.getD i (0,0)).1)))=Rg.end' hi rs:=by
  rw[ji rs (fun r=> !decide (hi+1<r.1))];unfold Rg.end';apply qa4;intro x _;simp
 rw[<-V];refine qY 223 _ rs.length (fun i=>decide (hi+1<(rs.getD i (0,0)).1)) W (enters_of func223 (by kernel_rfl) rfl) (by omega) (fun m i F=>?_) (fun a b H hb h=>?_)
 ·obtain⟨b,rfl,_,_,h1,O⟩:=R.lH F;exact Hw bs G sp so b c rs.length i hi _ (W.drewN m) F (by omega) cs K cl O I (hB.get F).1
 ·have:=(nk U H hb).1;simp only[decide_eq_true_eq]at h ⊢;omega
theorem OV(bs F sp so v:Nat)(base:Option Addr)(c:Nat)(rs:aP)(W:World)(I:Rg.Sorted rs)(U:rs.length<=1000000)(cs:W.cell? (aj bs 0)=some (ay sp so))(H:W.cell? (aj F 0)=some (uZ v))(cl:W.cell? (aj sp (so+2))=some (.slice base rs.length c))(R:gN W sp base c rs):
  Calls prog 171 #[(iZ (rs.length:Nat)),.func (.func 172) #[] #[ay bs 0,ay F 0]] W fun e w'=>e=.returned (iZ (rs.countP (fun r=>decide (r.2<v)):Nat))/\∃q,w'=W.drewN q:=by
 have K:(E8 rs.length).countP (fun i=> !(decide (v<=(rs.getD i (0,0)).2)))=rs.countP (fun r=>decide (r.2<v)):=by
  rw[ji rs (fun r=> !decide (v<=r.2))];apply qa4;intro x _;simp
 rw[<-K];refine qY 172 _ rs.length (fun i=>decide (v<=(rs.getD i (0,0)).2)) W (enters_of func172 (by kernel_rfl) rfl) (by omega) (fun m i hi=>?_) (fun a b G hb h=>?_)
 ·obtain⟨b,rfl,_,_,h1,O⟩:=R.lH hi;exact Li bs F sp so b c rs.length i v _ (W.drewN m) hi (by omega) cs H cl h1
 ·have:=(nk I G hb).2;simp only[decide_eq_true_eq]at h ⊢;omega
theorem Hy{w Z w':World}{sp so:Nat}{l:aI}{base:Option Addr}{c:Nat}{most:Int}{fl:Nat}{rs F:aP}{G I:Nat}{l':aI}(hs:jN w sp so l most fl base rs.length c)(R:gN w sp base c rs)(K:aD w Z)(o1:aA w' G 170 l')(o2:l'.length=2*I)(o3:F.length<=I)(o4:I<=9223372036854775807)(o5:l'.take (2*F.length)=St.aL F)(o6:∀v∈l',v.oneCell'=true)(O:Z.grownBy w' (base.map (·.block)))(o8:some G=base.map (·.block)\/Z.heap.size<=G):
  Cv (w'.setCell (aj sp (so+2)) (aS G F.length I)) sp so l most fl F (some G)/\Kept w (w'.setCell (aj sp (so+2)) (aS G F.length I)) sp (base.map (·.block))/\(some G=base.map (·.block)\/w.heap.size<=G):=by
 have h0:=hs.1.lt;have hsz:=K.size
 have H:∀k,base.map (·.block)=some k->k≠sp:=by
  intro k V
  rcases R with⟨rfl,_⟩|⟨b,l,rfl,hb,_⟩
  ·cases V
  ·simp at V;rw[<-V];exact hb
 have U:G≠sp:=by
  rcases o8 with h|h
  ·exact H G h.symm
  ·omega
 have X:jN w' sp so l most fl base rs.length c:=
  (hs.of (K.block sp h0)).of (O.block sp (by omega) (fun e=>H sp e.symm rfl))
 refine⟨⟨l.set (so+2) (aS G F.length I),⟨some (aj G 0),I,⟨X.1.setCell (so+2) _,by rw[ak _ _ _ _ (by omega)];exact X.2.1,by rw[ak _ _ _ _ (by omega)];exact X.2.2.1,aU _ _ _ _ X.2.2.2⟩,o3,o4,rfl,.inr ⟨G,l',rfl,U,o1.gG _ _ U,o2,o5,o6⟩⟩,iN.set _ _ _ _ _ (by omega) (by omega)⟩,⟨?_,?_,?_,?_,?_⟩,?_⟩
 ·exact O.os.trans K.os
 ·exact O.tape.trans K.tape
 ·exact O.output.trans K.output
 ·have:=O.size;show w.heap.size<=(w'.heap.modify _ _).size;simp;omega
 ·intro k V h2 hr;rw[tT _ _ _ _ h2,O.block k (by omega) hr,K.block k V]
 ·rcases o8 with h|h
  ·exact .inl h
  ·exact .inr (by omega)
theorem qD(sp so lo hi:Nat)(base:Option Addr)(c:Nat)(most:Int)(fl:Nat)(rs:aP)(l:aI)(w W6:World)(hS:Rg.Sorted rs)(hn:rs.length<=1000000)(O:lo<=hi)(hs:jN w sp so l most fl base rs.length c)(R:gN w sp base c rs)(hc:rs.length<=c)(Z:c<=9223372036854775807)(V:aD w W6)(F:World)(K:F.heap=(W6.alloc (.cells #[(uZ ((Rg.zW lo hi rs).1:Int)),(uZ ((Rg.zW lo hi rs).2:Int))] 170)).heap)(h7:F.os=W6.os)(h9:F.tape=W6.tape)(h8:F.output=W6.output):
  Calls prog 224 #[.slice base rs.length c,(iZ (Rg.gX lo rs:Nat)),(iZ (Rg.end' hi rs:Nat)),aS W6.heap.size 1 1] F fun e w'=>
   ∃H U,e=.returned (aS H (Rg.ins lo hi rs).length U)/\(Cv (w'.setCell (aj sp (so+2)) (aS H (Rg.ins lo hi rs).length U)) sp so l most fl (Rg.ins lo hi rs) (some H)/\Kept w (w'.setCell (aj sp (so+2)) (aS H (Rg.ins lo hi rs).length U)) sp (base.map (·.block))/\(some H=base.map (·.block)\/w.heap.size<=H))
    /\F.grownBy w' (base.map (·.block)):=by
 have Xp:=Rg.r_ O hS;have h0:=Rg.wV hi rs;have hsz:=V.size;have he:=hs.1.lt
 have ha:aA F W6.heap.size 170 [(uZ ((Rg.zW lo hi rs).1:Int)),(uZ ((Rg.zW lo hi rs).2:Int))]:=
  (aA.new W6 170 _).of_heap (by rw[K])
 have X:aD w F:=⟨h7.trans V.os,h9.trans V.tape,h8.trans V.output,by rw[K];simp;omega,fun k hk=>by rw[K,qa5 _ _ _ (by omega)];exact V.block k hk⟩
 have I:Rg.gX lo rs+1+(rs.length-Rg.end' hi rs)=(Rg.ins lo hi rs).length:=by
  rw[Rg.Ce rs lo hi O hS];simp;omega
 have G:St.aL (Rg.ins lo hi rs)=(St.aL rs).take (2*Rg.gX lo rs)++[(uZ ((Rg.zW lo hi rs).1:Int)),(uZ ((Rg.zW lo hi rs).2:Int))]++(St.aL rs).drop (2*Rg.end' hi rs):=by
  rw[Rg.Ce rs lo hi O hS,St.gT,St.vO,St.vP];simp[St.aL]
 refine(El base rs.length c (Rg.gX lo rs) (Rg.end' hi rs) W6.heap.size (St.aL rs) [(uZ ((Rg.zW lo hi rs).1:Int)),(uZ ((Rg.zW lo hi rs).2:Int))] F Xp h0 hc Z hn ?_ ha rfl ?_).mono ?_
 ·rcases R with⟨rfl,rfl,rfl⟩|⟨b,l,h1,h2,h3,h4,h5,h6⟩
  ·exact .inl ⟨rfl,rfl,rfl,rfl⟩
  ·have:=h3.lt;exact .inr ⟨b,l,h1,h3.of_heap (X.block b h3.lt),h4,h5.symm,by omega,h6⟩
 ·intro v hv;simp at hv
  rcases hv with rfl|rfl<;>rfl
 ·rintro e w' ⟨H,U,l',rfl,o1,o2,o3,o4,o5,o6,o7,o8⟩;rw[I]at o3 o5;rw[I];exact⟨H,U,rfl,Hy hs R X o1 o2 o3 o4 (by rw[o5,G]) o6 o7 o8,o7⟩
theorem vS{w W6:World}{sp so:Nat}{l:aI}{base:Option Addr}{c n:Nat}{most:Int}{fl:Nat}{a b:Int}(hs:jN w sp so l most fl base n c)(F:∀k,base.map (·.block)=some k->k≠sp/\k<w.heap.size)(Z:aD w W6)(h1:aA W6 w.heap.size 273 [ay sp so])(K:aA W6 (w.heap.size+1) 170 [uZ a,uZ b]):
  W6.cell? (aj w.heap.size 0)=some (ay sp so)/\W6.cell? (aj (w.heap.size+1) 0)=some (uZ a)/\W6.cell? (aj (w.heap.size+1) 1)=some (uZ b)/\
  W6.cell? (aj sp (so+2))=some (.slice base n c)/\sp<W6.heap.size/\w.heap.size<W6.heap.size/\w.heap.size+1<W6.heap.size/\
  (∀(H w':World) (o:Obj),H.heap=(W6.alloc o).heap->H.grownBy w' (base.map (·.block))->(w'.cell? (aj w.heap.size 0)=some (ay sp so)/\w'.cell? (aj (w.heap.size+1) 0)=some (uZ a)/\w'.cell? (aj (w.heap.size+1) 1)=some (uZ b))/\w'.cell? (aj sp (so+2))=some (.slice base n c)/\w'.frozen? (aj sp (so+2))=false):=by
 have G:jN W6 sp so l most fl base n c:=hs.of (Z.block sp hs.1.lt);have l1:=h1.lt;have l2:=K.lt;have V:=G.1.lt;have l4:=hs.1.lt;refine⟨h1.cell 0,K.cell 0,K.cell 1,G.jW,V,l1,l2,?_⟩;intro H w' o I O
 have e:∀k,k<W6.heap.size->H.heap[k]?=W6.heap[k]?:=fun k hk=>by rw[I,qa5 _ _ _ hk]
 have sz:W6.heap.size<=H.heap.size:=by rw[I];simp
 have X:aA w' w.heap.size 273 _:=(h1.of_heap (e _ l1)).of_heap (O.block _ (by omega) (fun h=>by have:=(F _ h.symm).2;omega));have a2:jN w' sp so l most fl base n c:=(G.of (e _ V)).of (O.block _ (by omega) (fun h=>(F _ h.symm).1 rfl));have U:aA w' (w.heap.size+1) 170 _:=(K.of_heap (e _ l2)).of_heap (O.block _ (by omega) (fun h=>by have:=(F _ h.symm).2;omega));exact⟨⟨X.cell 0,U.cell 0,U.cell 1⟩,a2.jW,a2.1.frozen (so+2)⟩
theorem OW(sp so v:Nat)(base:Option Addr)(c:Nat)(most:Int)(fl:Nat)(rs:aP)(l:aI)(w:World)(hS:Rg.Sorted rs)(hn:rs.length<=1000000)(hs:jN w sp so l most fl base rs.length c)(R:gN w sp base c rs):
  Calls prog 128 #[ay sp so,uZ v] w fun e w'=>e=.returned (.bool (decide (v<fl)||Rg.has v rs))/\aD w w':=by
 obtain⟨W,hW⟩:∃W,W=(w.alloc (.cells #[ay sp so] 273)).alloc (.cells #[uZ v] 43):=⟨_,rfl⟩
 have O:aA W w.heap.size 273 [ay sp so]:=by rw[hW];exact(aA.new w 273 _).alloc _
 have K:aA W (w.heap.size+1) 43 [uZ v]:=by
  rw[hW];have:=aA.new (w.alloc (.cells #[ay sp so] 273)) 43 [uZ v];rwa[World.size_alloc]at this
 have hE:aD w W:=by rw[hW];exact((qai _ w).alloc (fA _) _).alloc (by simp) _
 have H:jN W sp so l most fl base rs.length c:=hs.of (hE.block sp hs.1.lt);have RW:gN W sp base c rs:=R.of_heap (fun b hb=>hE.block b (kK R b (by rw[hb];rfl)).2);have s1:=OV w.heap.size (w.heap.size+1) sp so v base c rs W hS hn (O.cell 0) (K.cell 0) (H.jW) RW;have h4:w.cell? (aj sp (so+2))=some (.slice base rs.length c):=hs.jW;have h5:sp<w.heap.size:=hs.1.lt;have G:=au (show Rg.has v rs=(decide (rs.countP (fun r=>decide (r.2<v))<rs.length)&&decide ((rs.getD (rs.countP (fun r=>decide (r.2<v))) (0,0)).1<=v))from rfl);have h3:rs.countP (fun r=>decide (r.2<v))<=rs.length:=List.countP_le_length;generalize rs.countP (fun r=>decide (r.2<v))=I at s1 G h3;have k0:W.cell? (aj w.heap.size 0)=some (ay sp so):=O.cell 0;have k1:W.cell? (aj (w.heap.size+1) 0)=some (uZ v):=K.cell 0;have k2:W.cell? (aj sp (so+1))=some (uZ fl):=H.cell1;have k3:W.cell? (aj sp (so+2))=some (.slice base rs.length c):=H.jW;have rW:=au s1;have V:=au hE;have Z:=au (And.intro k0 (And.intro k1 (And.intro k2 k3)));have HR:=au RW;clear s1 hE RW O K H hs k0 k1 k2 k3 R;subst hW;go_enter func128,ntmps128
 go_wp2_with fail
 refine rW.out.mono ?_;rintro e w' ⟨rfl,q1,rfl⟩
 go_wp2_with fail
 generalize U:((w.alloc (.cells #[ay sp so] 273)).alloc (.cells #[uZ v] 43)).drewN q1=X;obtain⟨k0,k1,k2,k3⟩:=Z.out
 have F:Hid (aD w X):=by rw[<-U];exact⟨V.out.os,V.out.tape,V.out.output,V.out.size,V.out.block⟩
 have j0:X.cell? (aj w.heap.size 0)=some (ay sp so):=by rw[<-U];exact k0
 have j1:X.cell? (aj (w.heap.size+1) 0)=some (uZ v):=by rw[<-U];exact k1
 have j2:X.cell? (aj sp (so+1))=some (uZ fl):=by rw[<-U];exact k2
 have j3:X.cell? (aj sp (so+2))=some (.slice base rs.length c):=by rw[<-U];exact k3
 have h0:Hid (gN X sp base c rs):=by rw[<-U];exact gN.of_heap HR.out (fun _ _=>rfl)
 clear U Z k0 k1 k2 k3 rW HR V h4
 by_cases h1:v<fl
 ·have g1:(v:Int)<(fl:Int):=by omega
  have HF:=au h1;clear h1
  go_quiet (fail)
  go_wp2;go_ret;exact⟨St.aV (by simp[HF.out]),F.out.os,F.out.tape,F.out.output,F.out.size,F.out.block⟩
 ·have g1:decide ((v:Int)<(fl:Int))=false:=by simp;omega
  by_cases h2:I<rs.length
  ·have g3:(I:Int)<((rs.length:Nat):Int):=by omega
   obtain⟨b,hb,_,_,_,k4⟩:=h0.out.lH h2;subst hb;generalize (rs.getD I (0,0)).1=x at k4 G
   go_quiet (fail)
   go_wp2;go_ret;exact⟨St.aV (by rw[G.out];simp[h1,h2]),F.out.os,F.out.tape,F.out.output,F.out.size,F.out.block⟩
  ·have g2:decide ((I:Int)<((rs.length:Nat):Int))=false:=by simp;omega
   go_quiet (fail)
   go_wp2;go_ret;exact⟨St.aV (by rw[G.out];simp[h1,h2]),F.out.os,F.out.tape,F.out.output,F.out.size,F.out.block⟩
