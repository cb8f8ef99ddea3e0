import Derived.Test.YtphbledmopchnaaGreatDoorKac
import Derived.Test.YtphbledmopchnaaGreatDoorKbc
open Go.RowKit.Below renaming heap_setCell->wz,heap_alloc->qaa,refl->qah
open Bool renaming and_eq_true->M4
open Go.Builtin renaming max_->R3,min_->Si,max2->qad,min2->qae
open Int renaming natCast_nonneg->qa6,toNat_natCast->qa8,le_of_lt->qaf
open List renaming prefix_refl->nI,getD_eq_getElem?_getD->tL,getElem?_eq_some_iff->uj,foldlM_cons->CK,foldlM_nil->Gl,replicate->Kt,getElem?_drop->KG,range->Lb,getElem?_take_of_lt->Vh,length_drop->Vp,length_take->Xw,take->qa1,getElem?_eq_none->qa2,getElem?_set_ne->qa3,getD_cons_succ->qa5,length_append->qa7,countP_congr->qa9,sum_cons->qac
open Nat renaming le_refl->jK,le_trans->mR,lt_of_lt_of_le->tT,le_add_right->DJ,le_of_not_lt->qab,le_of_lt->qag
open Option renaming map_eq_some_iff->Bu
open Prod renaming fst->ZE
open Go.Sem renaming run_bind->Z9,run_pure->qa0
set_option maxHeartbeats 2000000
set_option maxRecDepth 100000
namespace Go.Proofs.YtphbledmopchnaaGreatDoor.Sd
open St Tryz
def md{α:Type}:List α->Nat->(α->α)->List α
 |[],_,_=>[]
 |a::t,0,f=>f a::t
 |a::t,k+1,f=>a::md t k f
theorem fu{α:Type}:∀(l:List α) (k:Nat) (f:α->α),(md l k f).length=l.length
 |[],_,_=>rfl
 |_::_,0,_=>rfl
 |_::t,k+1,f=>congrArg (·+1) (fu t k f)
theorem AX{α:Type}(d:α):∀(l:List α) (k:Nat) (f:α->α),k<l.length->(md l k f).getD k d=f (l.getD k d)
 |[],_,_,h=>by simp at h
 |_::_,0,_,_=>rfl
 |_::t,k+1,f,h=>by simpa[md]using AX d t k f (by simpa using h)
theorem Nf{α:Type}(d:α):∀(l:List α) (k j:Nat) (f:α->α),j≠k->(md l k f).getD j d=l.getD j d
 |[],_,_,_,_=>rfl
 |_::_,0,0,_,h=>absurd rfl h
 |_::_,0,j+1,_,_=>rfl
 |_::_,k+1,0,_,_=>rfl
 |_::t,k+1,j+1,f,h=>by simpa[md]using Nf d t k j f (by omega)
def UT:Nat:=18446744073709551615
structure Gn where
 ahead:Nat
 told:Nat
 away:Nat
 came:Nat
def Gn.new(n:Nat):Gn:=⟨n,n,0,n⟩
def Gn.lim(g:Gn)(free:Nat):Nat:=min (free+g.ahead) aU
def Gn.waits(g:Gn)(free:Nat):Bool:=decide (max g.away g.came<g.lim free)
def Gn.aw(g:Gn)(x:Nat):Gn:={g with away:=max g.away x}
def Gn.cm(g:Gn)(x:Nat):Gn:={g with came:=max g.came x}
def Gn.lose(g:Gn):Gn:={g with away:=0}
def iq(kind:Int)(k:Nat)(x:Nat):Fr:=⟨kind,(k:Int),0,0,x,false,0,0,⟨#[]⟩,[]⟩
def Gn.next(g:Gn)(kind:Int)(k:Nat)(free:Nat)(room:Int):Option (Fr×Gn):=
 if room<((aB (iq kind k (g.lim free))).length:Int)then none
 else some (iq kind k (g.lim free),({g with told:=g.lim free}:Gn).aw (g.lim free))
structure Nt where
 given:Bool
 offset:Nat
 away:Nat
 came:Nat
def Nt.waits(n:Nt)(r:Nat):Bool:=n.given&&decide (r<min n.away n.came)
def Nt.aw(n:Nt)(x:Nat):Nt:={n with away:=min n.away x}
def Nt.cm(n:Nt)(x:Nat):Nt:={n with came:=min n.came x}
def Nt.lose(n:Nt):Nt:={n with away:=UT}
def XB(k o r:Nat):Fr:=⟨3,(k:Int),o,r,0,false,0,0,⟨#[]⟩,[]⟩
def Nt.next(n:Nt)(k r:Nat)(room:Int):Option (Fr×Nt):=
 if room<((aB (XB k n.offset r)).length:Int)then none else some (XB k n.offset r,n.aw r)
structure NS where
 fl:Nat
 rs:List (Nat×Nat)
def NS.add(most:Nat)(s:NS)(lo hi:Nat):NS:=⟨(Rg.add most s.fl s.rs lo hi).1,(Rg.add most s.fl s.rs lo hi).2⟩
def NS.has(s:NS)(n:Nat):Bool:=decide (n<s.fl)||Rg.has n s.rs
def iP:Nat->List (Nat×Nat)->Nat->Nat×Nat
 |lo,[],e=>(lo,e)
 |lo,r::t,e=>if lo<r.1 then(lo,min r.1 e)else if e<=r.2 then(e,e)else iP (r.2+1) t e
def NS.hole(s:NS)(e:Nat):Nat×Nat:=iP s.fl s.rs e
structure Ot where
 bytes:List UInt8
 fin:Bool
 nt:Nt
 limit:Nat
 sent:Nat
 away:NS
 came:NS
def Ot.new(limit:Nat):Ot:=⟨[],false,⟨false,0,0,0⟩,limit,0,⟨0,[]⟩,⟨0,[]⟩⟩
def Ot.closed(o:Ot):Bool:=o.fin||o.nt.given
def Ot.send(o:Ot)(b:List UInt8):Ot×Nat:=
 if o.closed then(o,4)else if 2048<o.bytes.length+b.length then(o,3)else({o with bytes:=o.bytes++b},0)
def Ot.finish(o:Ot):Ot×Nat:=if o.closed then(o,4)else({o with fin:=true},0)
def Ot.reach(o:Ot)(au:Nat):Nat:=min (min o.bytes.length o.limit) (o.sent+au)
def Ot.dK(o:Ot)(e:Nat):Bool:=o.fin&& !o.nt.given&&decide (e=o.bytes.length)
def Ot.waiting(o:Ot)(au:Nat):Nat×Nat:=
 o.away.hole (if o.dK (o.reach au)then o.reach au+1 else o.reach au)
def Ot.waits(o:Ot)(au:Nat):Bool:=decide ((o.waiting au).1<(o.waiting au).2)
def av(f:Fr):Nat:=f.offset+f.data.size
def qN(s:NS)(f:Fr):NS:=s.add 2049 f.offset (if f.fin then av f else av f-1)
def Ot.aw(o:Ot)(f:Fr):Ot:={o with away:=qN o.away f}
def Ot.cm(o:Ot)(f:Fr):Ot:={o with came:=qN o.came f,away:=qN o.away f}
def Ot.lose(o:Ot):Ot:={o with away:=o.came}
def ko(f:Fr)(b:List UInt8)(room:Int):Option Fr:=
 if room<((aB f).length:Int)then none
 else
  let r:=(room-((aB f).length:Int)).toNat
  let n:=min b.length r
  some {f with data:=⟨(b.take (min n (r-((Num.bytes n).length-1)))).toArray⟩}
def mV(k lo:Nat):Fr:=⟨4,(k:Int),lo,0,0,false,0,0,⟨#[]⟩,[]⟩
def Ot.next(o:Ot)(k:Nat)(room:Int)(au:Nat):Option (Fr×Ot):=
 let lo:=(o.waiting au).1
 let hi:=min (o.waiting au).2 o.bytes.length
 match ko (mV k lo) ((o.bytes.take hi).drop lo) room with
 |none=>none
 |some f=>
  if lo<hi/\f.data.size=0 then none
  else
   let g:Fr:={f with fin:=o.dK (av f)}
   some (g,({o with sent:=max o.sent (av f)}:Ot).aw g)
structure bI where
 gr:Gn
 read:Nat
 held:List UInt8
 came:List Bool
 high:Nat
 ended:Bool
 dD:Nat
 given:Bool
 rel:Nat
 state:Nat
def bI.new(n:Nat):bI:=⟨Gn.new n,0,[],[],0,false,0,false,0,0⟩
def bI.free(i:bI):Nat:=if i.state=2 then i.dD else i.read
def bI.wanted(i:bI):Nat:=if i.given then i.rel else if i.ended then i.dD else aU
def bI.refuse(i:bI)(f:Fr):Nat:=
 if i.ended/\i.dD<av f\/i.ended/\f.fin/\av f≠i.dD\/f.fin/\av f<i.high then 10 else if i.gr.told<av f then 9 else 0
def aY:List UInt8->Nat->List UInt8->List Bool->List UInt8×List Bool
 |[],_,h,c=>(h,c)
 |x::t,i,h,c=>if c.getD i false then aY t (i+1) h c else aY t (i+1) (h.set i x) (c.set i true)
def bI.hold(i:bI)(off:Nat)(d:List UInt8):bI:=
 let more:=off-i.read+d.length-i.held.length
 let x:=aY d (off-i.read) (i.held++Kt more 0) (i.came++Kt more false)
 {i with held:=x.1,came:=x.2}
def bI.take(i:bI)(f:Fr):bI:=
 let i1:bI:={i with high:=max i.high (av f),ended:=i.ended||f.fin,dD:=if f.fin then av f else i.dD}
 let lo:=max f.offset i1.read
 let hi:=min (av f) i1.wanted
 if lo<hi then i1.hold lo ((f.data.data.toList.take (hi-f.offset)).drop (lo-f.offset))else i1
def bI.IJ(i:bI)(f:Fr):Nat:=if i.ended/\i.dD≠f.offset\/f.offset<i.high then 10 else 0
def bI.fK(i:bI)(f:Fr):bI:=
 let r:=min i.wanted f.reliable
 let n:=min i.held.length (r-min r i.read)
 {i with rel:=r,given:=true,ended:=true,dD:=f.offset,held:=i.held.take n,came:=i.came.take n}
def bI.ready(i:bI):Nat:=(i.came.takeWhile id).length
def bI.cut(i:bI)(n:Nat):bI:={i with held:=i.held.drop n,came:=i.came.drop n,read:=i.read+n}
def bI.reached(i:bI):Nat:=if i.ended=false\/i.read<i.wanted then 0 else if i.given then 2 else 1
def bI.rd(i:bI)(most:Int):List UInt8×bI:=
 let n:=min i.ready (max most 0).toNat
 let j:=i.cut n
 (i.held.take n,{j with state:=if j.state=0 then j.reached else j.state})
def bI.eO(i:bI):Bool:= !(i.ended&&decide (i.wanted<=i.high))&&i.gr.waits i.free
structure lX where
 frames:List Fr
 tick:Nat
def sF:Ot:=Ot.new 0
def sQ:bI:=bI.new 0
structure Side where
 aH:Nat
 window:Nat
 total:Nat
 tick:Nat
 outs:List Ot
 ins:List bI
 limit:Nat
 gr:Gn
 came:NS
 answer:Bool
 next:Nat
 ay:List (Nat×lX)
 lost:List (Nat×lX)
 named:Nat
 queue:List Fr
 least:Nat
 msgs:List (Nat×ByteArray)
 greatest:Nat
 taken:List Nat
 why:Nat
 parted:Bool
def Side.new(aH window total:Nat):Side:=
 ⟨aH,window,total,0,Kt 8 (Ot.new window),Kt 8 (bI.new window),total,Gn.new total,⟨0,[]⟩,false,0,[],[],0,[],0,[],0,[],0,false⟩
def Side.out(M:Side)(k:Nat):Ot:=M.outs.getD k sF
def Side.inn(M:Side)(k:Nat):bI:=M.ins.getD k sQ
def Side.aW(M:Side)(k:Nat)(o:Ot):Side:={M with outs:=md M.outs k fun _=>o}
def Side.bP(M:Side)(k:Nat)(i:bI):Side:={M with ins:=md M.ins k fun _=>i}
def Side.free(M:Side):Nat:=M.ins.foldl (fun s i=>min (s+i.free) aU) 0
def Side.spent(M:Side):Nat:=(M.outs.map Ot.sent).sum
def Side.au(M:Side):Nat:=M.limit-M.spent
def Side.full(M:Side):Bool:=decide (12<=M.ay.length)
def Side.kW(M:Side):Nat:=match M.queue with
 |[]=>0
 |f::_=>(aB f).length
def cZ(rs:List (Nat×Nat)):Fr:=⟨2,0,0,0,0,false,0,0,⟨#[]⟩,rs⟩
def bN(left:List (Nat×Nat))(room:Int):Nat->Nat
 |0=>0
 |n+1=>if((aB (cZ (left.take (n+1)))).length:Int)<=room then n+1 else bN left room n
def Side.waits(M:Side)(left:List (Nat×Nat))(u:Nat):Bool:=
 if u=0 then decide (0<left.length)
 else !M.full&&(if u=8 then M.gr.waits M.free else if u<24 then(M.inn (u-16)).eO else if u<32 then(M.out (u-24)).nt.waits (M.out (u-24)).bytes.length
  else if u=32 then decide (0<M.queue.length)else(M.out (u-40)).waits M.au)
def Side.frame(M:Side)(left:List (Nat×Nat))(u:Nat)(room:Int):Option (Fr×Side×List (Nat×Nat)):=
 if u=0 then
  (if bN left room left.length=0 then none else some (cZ (left.take (bN left room left.length)),M,left.drop (bN left room left.length)))
 else if u=8 then(M.gr.next 5 0 M.free (room-M.kW)).map fun x=>(x.1,{M with gr:=x.2},left)
 else if u<24 then((M.inn (u-16)).gr.next 6 (u-16) (M.inn (u-16)).free (room-M.kW)).map fun x=>(x.1,M.bP (u-16) {M.inn (u-16)with gr:=x.2},left)
 else if u<32 then((M.out (u-24)).nt.next (u-24) (M.out (u-24)).bytes.length (room-M.kW)).map fun x=>(x.1,M.aW (u-24) {M.out (u-24)with nt:=x.2},left)
 else if u=32 then(if room<M.kW then none else M.queue.head?.map fun f=>(f,{M with queue:=M.queue.tail},left))
 else((M.out (u-40)).next (u-40) room M.au).map fun x=>(x.1,M.aW (u-40) x.2,left)
def yields(u:Nat):Bool:=decide (8<=u)&&decide (u<32)
def sw(l:List Nat)(i j:Nat):List Nat:=(l.set i (l.getD j 0)).set j (l.getD i 0)
def wo:Nat->List Nat->Nat->List Nat
 |0,l,_=>l
 |n+1,l,j=>if j=0\/¬l.getD j 0<l.getD ((j-1) / 2) 0 then l else wo n (sw l ((j-1) / 2) j) ((j-1) / 2)
def gK:Nat->List Nat->Nat->Nat->List Nat
 |0,l,_,_=>l
 |k+1,l,i,n=>
  if n<=2*i+1 then l
  else
   let j:=if 2*i+2<n/\l.getD (2*i+2) 0<l.getD (2*i+1) 0 then 2*i+2 else 2*i+1
   if l.getD j 0<l.getD i 0 then gK k (sw l i j) j n else l
def aZ(l:List Nat)(u:Nat):List Nat:=wo (l.length+1) (l++[u]) l.length
def iQ(l:List Nat):List Nat:=(gK l.length (sw l 0 (l.length-1)) 0 (l.length-1)).take (l.length-1)
def q0:List Nat:=aZ ((Lb 8).foldl (fun q k=>aZ (aZ (aZ q (16+k)) (24+k)) (40+k)) (aZ (aZ [] 0) 8)) 32
def cB:Nat->Side->List (Nat×Nat)->List Nat->List Nat->Int->List Fr->Side×List (Nat×Nat)×List Nat×List Fr
 |0,M,left,Q,later,_,l=>(M,left,later.foldl aZ Q,l)
 |n+1,M,left,Q,later,room,l=>match Q with
  |[]=>(M,left,later.foldl aZ Q,l)
  |u::_=>
   if M.waits left u then
    match M.frame left u room with
    |some (f,M',left')=>cB n M' left' Q later (room-((aB f).length:Int)) (l++[f])
    |none=>if yields u then cB n M left (iQ Q) (later++[u]) room l else(M,left,later.foldl aZ Q,l)
   else cB n M left (iQ Q) later room l
def fill(M:Side)(left:List (Nat×Nat))(Q:List Nat)(room:Int):Side×List (Nat×Nat)×List Nat×List Fr:=
 cB (Q.length+room.toNat+1) M left Q [] room []
def wants(fs:List Fr):Bool:=fs.any fun f=>decide (f.kind≠2)
def again(fs:List Fr):List Fr:=fs.filter fun f=> !(decide (f.kind=2)||decide (f.kind=7)||decide (f.kind=8))
def Side.room(M:Side):Int:=(M.aH:Int)-((Num.bytes M.next).length:Int)-4
def Side.packet(M:Side)(fs:List Fr):Side:=
 {M with next:=M.next+1,ay:=if wants fs then M.ay++[(M.next,⟨again fs,M.tick⟩)]else M.ay}
def dX:Nat->Side->List (Nat×Nat)->List Nat->List (Nat×List Fr)->Side×List (Nat×List Fr)
 |0,M,_,_,l=>(M,l)
 |n+1,M,left,Q,l=>
  if(fill M left Q M.room).2.2.2=[]then((fill M left Q M.room).1,l)
  else dX n ((fill M left Q M.room).1.packet (fill M left Q M.room).2.2.2) (fill M left Q M.room).2.1 (fill M left Q M.room).2.2.1 (l++[(M.next,(fill M left Q M.room).2.2.2)])
def Side.fD(M:Side)(f:Fr):Side:=
 if f.kind=4 then M.aW f.stream.toNat ((M.out f.stream.toNat).aw f)
 else if f.kind=3 then M.aW f.stream.toNat {M.out f.stream.toNat with nt:=(M.out f.stream.toNat).nt.aw f.reliable}
 else if f.kind=6 then M.bP f.stream.toNat {M.inn f.stream.toNat with gr:=(M.inn f.stream.toNat).gr.aw f.limit}
 else{M with gr:=M.gr.aw f.limit}
def Side.bookC(M:Side)(f:Fr):Side:=
 if f.kind=4 then M.aW f.stream.toNat ((M.out f.stream.toNat).cm f)
 else if f.kind=3 then M.aW f.stream.toNat {M.out f.stream.toNat with nt:=(M.out f.stream.toNat).nt.cm f.reliable}
 else if f.kind=6 then M.bP f.stream.toNat {M.inn f.stream.toNat with gr:=(M.inn f.stream.toNat).gr.cm f.limit}
 else{M with gr:=M.gr.cm f.limit}
def gD(o:Ot):Ot:={o.lose with nt:=o.nt.lose}
def fA(i:bI):bI:={i with gr:=i.gr.lose}
def frames(l:List (Nat×lX)):List Fr:=l.flatMap fun x=>x.2.frames
def Side.dF(M:Side)(x:Nat×lX):Bool:=decide (6<=M.tick-x.2.tick)||decide (x.1+3<M.named)
def Side.lose(M:Side):Side:=
 if M.ay.any M.dF then
  (frames (M.ay.filter fun x=> !M.dF x)).foldl Side.fD
   {M with
    ay:=M.ay.filter fun x=> !M.dF x
    lost:=(M.lost++M.ay.filter M.dF).filter fun x=> !decide (x.1+64<M.next)
    gr:=M.gr.lose
    outs:=M.outs.map gD
    ins:=M.ins.map fA}
 else M
def names(l:List (Nat×Nat))(n:Nat):Bool:=l.any fun r=>decide (r.1<=n)&&decide (n<=r.2)
def Side.land(M:Side)(l:List (Nat×Nat)):Side:=
 (frames (M.ay.filter (fun x=>names l x.1))++frames (M.lost.filter (fun x=>names l x.1))).foldl Side.bookC
  {M with
   named:=max M.named ((l.getD 0 (0,0)).2+1)
   ay:=M.ay.filter fun x=> !names l x.1
   lost:=M.lost.filter fun x=> !names l x.1}
def IK(x:Nat):Fr:=⟨8,0,0,0,x,false,0,0,⟨#[]⟩,[]⟩
def Side.part(M:Side):Side×List (Nat×List Fr):=
 if M.parted\/M.why=13 then(M,[])
 else({M with parted:=true}.packet [IK (if M.why=12 then 0 else M.why)],[(M.next,[IK (if M.why=12 then 0 else M.why)])])
def Side.RN(M:Side)(f:Fr):Side:=
 if f.deadline<M.tick\/f.id∈M.taken\/f.id+32<=M.greatest then M
 else{M with msgs:=M.msgs++[(f.id,f.data)],greatest:=max M.greatest f.id,taken:=(f.id::M.taken).filter fun x=> !decide (x+32<=max M.greatest f.id)}
def Side.nL(M:Side)(k e:Nat):Nat:=((Lb 8).map fun j=>max (M.inn j).high (if j=k then e else 0)).sum
def Side.take(M:Side)(f:Fr):Side×Nat:=
 if f.kind=2 then(if M.next<=(f.ranges.getD 0 (0,0)).2 then(M,11)else(M.land f.ranges,0))
 else if f.kind=4 then
  (if(M.inn f.stream.toNat).refuse f≠0 then(M,(M.inn f.stream.toNat).refuse f)
  else if M.gr.told<M.nL f.stream.toNat (av f)then(M,9)
  else(M.bP f.stream.toNat ((M.inn f.stream.toNat).take f),0))
 else if f.kind=3 then
  (if(M.inn f.stream.toNat).IJ f≠0 then(M,(M.inn f.stream.toNat).IJ f)else(M.bP f.stream.toNat ((M.inn f.stream.toNat).fK f),0))
 else if f.kind=8 then(M,13)
 else if f.kind=7 then(M.RN f,0)
 else if f.kind=5 then({M with limit:=max M.limit f.limit},0)
 else if f.kind=6 then(M.aW f.stream.toNat {M.out f.stream.toNat with limit:=max (M.out f.stream.toNat).limit f.limit},0)
 else(M,0)
def Side.ticks(M:Side):Side:={M with tick:=M.tick+1,queue:=M.queue.filter fun f=> !decide (f.deadline<M.tick+1)}
theorem IL{α:Type}:∀(l:List α) (k:Nat) (f:α->α),l.length<=k->md l k f=l
 |[],_,_,_=>rfl
 |_::_,0,_,h=>by simp at h
 |a::t,k+1,f,h=>congrArg (a::·) (IL t k f (by simpa using h))
theorem Ng{α:Type}(d:α)(g:α->Nat):∀(l:List α) (k:Nat) (f:α->α),k<l.length->((md l k f).map g).sum+g (l.getD k d)=(l.map g).sum+g (f (l.getD k d))
 |[],_,_,h=>by simp at h
 |a::t,0,f,_=>by simp[md];omega
 |a::t,k+1,f,h=>by
  have:=Ng d g t k f (by simpa using h);simp only[md,List.map_cons,qac,qa5]at this ⊢;omega
theorem gL(M:Side)(k j:Nat)(o:Ot):(M.aW k o).out j=if j=k/\k<M.outs.length then o else M.out j:=by
 unfold Side.aW Side.out
 by_cases h:j=k
 ·subst h
  by_cases F:j<M.outs.length
  ·rw[if_pos ⟨rfl,F⟩];exact AX sF _ _ _ F
  ·rw[if_neg (fun x=>F x.2)];show(md M.outs j _).getD j sF=_;rw[IL _ _ _ (by omega)]
 ·rw[if_neg (fun x=>h x.1)];exact Nf sF _ _ _ _ h
theorem fM(M:Side)(k j:Nat)(o:bI):(M.bP k o).inn j=if j=k/\k<M.ins.length then o else M.inn j:=by
 unfold Side.bP Side.inn
 by_cases h:j=k
 ·subst h
  by_cases F:j<M.ins.length
  ·rw[if_pos ⟨rfl,F⟩];exact AX sQ _ _ _ F
  ·rw[if_neg (fun x=>F x.2)];show(md M.ins j _).getD j sQ=_;rw[IL _ _ _ (by omega)]
 ·rw[if_neg (fun x=>h x.1)];exact Nf sQ _ _ _ _ h
theorem wu(M:Side)(k:Nat)(o:Ot)(h:k<M.outs.length):(M.aW k o).spent+(M.out k).sent=M.spent+o.sent:=
 Ng sF Ot.sent M.outs k (fun _=>o) h
theorem uG:∀(l:List Nat) (k:Nat),l.getD k 0<=l.sum
 |[],_=>by simp
 |a::t,0=>by simp
 |a::t,k+1=>by have:=uG t k;simp only[qa5,qac];omega
structure yT (A A':Side):Prop where
 sent:∀k,(A.out k).sent<=(A'.out k).sent
 pre:∀k,(A.out k).bytes <+:(A'.out k).bytes
 fin:∀k,(A.out k).fin=true->(A'.out k).fin=true/\(A'.out k).bytes=(A.out k).bytes
 Nh:∀k,(A.inn k).gr.told<=(A'.inn k).gr.told
 told:A.gr.told<=A'.gr.told
 next:A.next<=A'.next
theorem yT.refl(A:Side):yT A A:=⟨fun _=>jK _,fun _=>nI _,fun _ h=>⟨h,rfl⟩,fun _=>jK _,jK _,jK _⟩
theorem yT.trans{A B C:Side}(h:yT A B)(g:yT B C):yT A C:=
 ⟨fun k=>mR (h.sent k) (g.sent k),fun k=>(h.pre k).trans (g.pre k),
 fun k e=>⟨(g.fin k (h.fin k e).1).1,(g.fin k (h.fin k e).1).2.trans (h.fin k e).2⟩,
 fun k=>mR (h.Nh k) (g.Nh k),mR h.told g.told,mR h.next g.next⟩
structure FJ (o:Ot) (f:Fr):Prop where
 e:av f<=o.sent
 b:av f<=o.bytes.length
 d:f.data.data.toList=(o.bytes.take (av f)).drop f.offset
 fin:f.fin=true->o.fin=true/\av f=o.bytes.length
 ne:f.fin=true\/0<av f
def kH(A B:Side)(f:Fr):Prop:=
 (f.kind=2/\f.ranges≠[]/\(f.ranges.getD 0 (0,0)).2<B.next)\/
 (f.kind=4/\0<=f.stream/\f.stream<8/\FJ (A.out f.stream.toNat) f)\/
 (f.kind=5/\f.limit<=A.gr.told)\/
 (f.kind=6/\0<=f.stream/\f.stream<8/\f.limit<=(A.inn f.stream.toNat).gr.told)
theorem FJ.mono{o o':Ot}{f:Fr}(h:FJ o f)(hs:o.sent<=o'.sent)(hp:o.bytes <+:o'.bytes)(F:o.fin=true->o'.fin=true/\o'.bytes=o.bytes):FJ o' f:=by
 obtain⟨t,ht⟩:=hp;refine⟨mR h.e hs,by rw[<-ht,qa7];have:=h.b;omega,?_,fun e=>?_,h.ne⟩
 ·rw[h.d,<-ht,List.take_append_of_le_length h.b]
 ·obtain⟨a,b⟩:=h.fin e;exact⟨(F a).1,by rw[(F a).2];exact b⟩
theorem kH.mono{A A' B I:Side}{f:Fr}(h:kH A B f)(H:yT A A')(hb:yT B I):kH A' I f:=by
 rcases h with⟨h1,F,G⟩|⟨h1,F,G,h4⟩|⟨h1,F⟩|⟨h1,F,G,h4⟩
 ·exact .inl ⟨h1,F,tT G hb.next⟩
 ·exact .inr (.inl ⟨h1,F,G,h4.mono (H.sent _) (H.pre _) (H.fin _)⟩)
 ·exact .inr (.inr (.inl ⟨h1,mR F H.told⟩))
 ·exact .inr (.inr (.inr ⟨h1,F,G,mR h4 (H.Nh _)⟩))
structure Wri (o:Ot):Prop where
 sl:o.sent<=o.limit
 sb:o.sent<=o.bytes.length
 given:o.nt.given=false
structure yL (o:Ot) (i:bI):Prop where
 lim:o.limit<=i.gr.told
 high:i.high<=o.sent
 ended:i.ended=true->o.fin=true/\i.dD=o.bytes.length
 given:i.given=false
 st:i.state=0\/i.state=1/\i.ended=true/\i.read=o.bytes.length
 len:i.came.length=i.held.length
 rd:i.read<=o.bytes.length
 got:∀j,i.came.getD j false=true->o.bytes[i.read+j]?=some (i.held.getD j 0)
theorem yL.free{o:Ot}{i:bI}(h:yL o i):i.free=i.read:=by
 unfold bI.free;rw[if_neg];rcases h.st with e|⟨e,_⟩<;>omega
theorem yL.mono{o o':Ot}{i:bI}(h:yL o i)(hl:o'.limit=o.limit)(hs:o.sent<=o'.sent)(hp:o.bytes <+:o'.bytes)(F:o.fin=true->o'.fin=true/\o'.bytes=o.bytes):yL o' i:=by
 refine⟨by rw[hl];exact h.lim,mR h.high hs,fun e=>?_,h.given,?_,h.len,mR h.rd hp.length_le,fun j e=>?_⟩
 ·obtain⟨a,b⟩:=h.ended e;exact⟨(F a).1,by rw[(F a).2];exact b⟩
 ·rcases h.st with e|⟨H,G,I⟩
  ·exact .inl e
  ·exact .inr ⟨H,G,by rw[(F (h.ended G).1).2];exact I⟩
 ·obtain⟨t,ht⟩:=hp;have g:=h.got j e;rw[<-ht,List.getElem?_append_left]
  ·exact g
  ·obtain⟨x,_⟩:=uj.1 g;exact x
structure dh (M:Side):Prop where
 lo:M.outs.length=8
 li:M.ins.length=8
 wr:∀k,Wri (M.out k)
 sp:M.spent<=M.limit
 it:∀k,(M.inn k).gr.told<=(M.inn k).gr.lim (M.inn k).free
 gt:M.gr.told<=M.gr.lim M.free
 why:M.why=0
 q:M.queue=[]
structure bF (A B:Side):Prop where
 rd:∀k,yL (A.out k) (B.inn k)
 lim:A.limit<=B.gr.told
 came:∀r∈B.came.rs,r.2<A.next
structure Stp (A B A':Side):Prop where
 loc:dh A'
 ab:bF A' B
 ba:bF B A'
 le:yT A A'
theorem Stp.trans{A B A' F:Side}(h:Stp A B A')(g:Stp A' B F):Stp A B F:=⟨g.loc,g.ab,g.ba,h.le.trans g.le⟩
theorem gM{A B:Side}(F:dh A)(h1:bF A B)(H:bF B A)(k:Nat)(o:Ot)(U:Wri o)(hl:o.limit=(A.out k).limit)(hs:(A.out k).sent<=o.sent)(hp:(A.out k).bytes <+:o.bytes)(O:(A.out k).fin=true->o.fin=true/\o.bytes=(A.out k).bytes)(I:o.sent<=(A.out k).sent+A.au):Stp A B (A.aW k o):=by
 have G:∀j,(A.aW k o).out j=if j=k/\k<A.outs.length then o else A.out j:=fun j=>gL A k j o
 refine⟨⟨(fu _ _ _).trans F.lo,F.li,fun j=>?_,?_,F.it,F.gt,F.why,F.q⟩,⟨fun j=>?_,h1.lim,h1.came⟩,⟨H.rd,H.lim,H.came⟩,⟨fun j=>?_,fun j=>?_,fun j=>?_,fun _=>jK _,jK _,jK _⟩⟩
 ·rw[G];split
  ·exact U
  ·exact F.wr j
 ·show(A.aW k o).spent<=A.limit
  by_cases h:k<A.outs.length
  ·have e:=wu A k o h;have V:=F.sp;unfold Side.au at I;omega
  ·have:A.aW k o=A:=by unfold Side.aW;rw[IL _ _ _ (by omega)]
   rw[this];exact F.sp
 ·rw[G];split
  ·rename_i e;rw[e.1];exact(h1.rd k).mono hl hs hp O
  ·exact h1.rd j
 ·rw[G];split
  ·rename_i e;rw[e.1];exact hs
  ·exact jK _
 ·rw[G];split
  ·rename_i e;rw[e.1];exact hp
  ·exact nI _
 ·rw[G];split
  ·rename_i e;rw[e.1];exact O
  ·exact fun x=>⟨x,rfl⟩
theorem zD:∀(l l':List bI) (s F:Nat),s<=F->l.length=l'.length->(∀k,(l.getD k sQ).free<=(l'.getD k sQ).free)->
  l.foldl (fun s i=>min (s+i.free) aU) s<=l'.foldl (fun s i=>min (s+i.free) aU) F
 |[],[],s,F,h,_,_=>h
 |[],_::_,_,_,_,e,_=>by simp at e
 |_::_,[],_,_,_,e,_=>by simp at e
 |a::t,b::u,s,F,h,e,g=>by
  simp only[List.foldl_cons]
  refine zD t u _ _ ?_ (by simpa using e) fun k=>by simpa using g (k+1)
  have:=g 0;simp only[List.getD_cons_zero]at this;omega
theorem nM{A B:Side}(F:dh A)(h1:bF A B)(H:bF B A)(k:Nat)(i:bI)(U:yL (B.out k) i)(ht:(A.inn k).gr.told<=i.gr.told)(I:(A.inn k).free<=i.free)(O:i.gr.told<=i.gr.lim i.free):Stp A B (A.bP k i):=by
 have G:∀j,(A.bP k i).inn j=if j=k/\k<A.ins.length then i else A.inn j:=fun j=>fM A k j i
 refine⟨⟨F.lo,(fu _ _ _).trans F.li,F.wr,F.sp,fun j=>?_,?_,F.why,F.q⟩,⟨h1.rd,h1.lim,h1.came⟩,⟨fun j=>?_,H.lim,H.came⟩,⟨fun _=>jK _,fun _=>nI _,fun _ e=>⟨e,rfl⟩,fun j=>?_,jK _,jK _⟩⟩
 ·rw[G];split
  ·exact O
  ·exact F.it j
 ·refine mR F.gt ?_;show A.gr.lim A.free<=A.gr.lim (A.bP k i).free
  have:A.free<=(A.bP k i).free:=zD _ _ 0 0 (jK _) (fu _ _ _).symm fun j=>by
   show(A.inn j).free<=((A.bP k i).inn j).free;rw[G];split
   ·rename_i e;rw[e.1];exact I
   ·exact jK _
  unfold Gn.lim;omega
 ·rw[G];split
  ·rename_i e;rw[e.1];exact U
  ·exact H.rd j
 ·rw[G];split
  ·rename_i e;rw[e.1];exact ht
  ·exact jK _
theorem CS{A B:Side}(F:dh A)(h1:bF A B)(G:bF B A)(k:Nat)(b:List UInt8):Stp A B (A.aW k ((A.out k).send b).1):=by
 have w:=F.wr k;unfold Ot.send;split
 ·exact gM F h1 G k _ w rfl (jK _) (nI _) (fun e=>⟨e,rfl⟩) (DJ _ _)
 ·rename_i H;split
  ·exact gM F h1 G k _ w rfl (jK _) (nI _) (fun e=>⟨e,rfl⟩) (DJ _ _)
  ·refine gM F h1 G k _ ⟨w.sl,?_,w.given⟩ rfl (jK _) (List.prefix_append _ _) (fun e=>?_) (by simp)
   ·show(A.out k).sent<=((A.out k).bytes++b).length;rw[qa7];have:=w.sb;omega
   ·exact absurd (by unfold Ot.closed;rw[e];rfl) H
theorem wD{A B:Side}(F:dh A)(h1:bF A B)(G:bF B A)(k:Nat):Stp A B (A.aW k (A.out k).finish.1):=by
 have w:=F.wr k;unfold Ot.finish;split
 ·exact gM F h1 G k _ w rfl (jK _) (nI _) (fun e=>⟨e,rfl⟩) (DJ _ _)
 ·exact gM F h1 G k _ ⟨w.sl,w.sb,w.given⟩ rfl (jK _) (nI _) (fun _=>⟨rfl,rfl⟩) (by simp)
theorem zF{A B:Side}(F:dh A)(h1:bF A B)(G:bF B A):Stp A B A.ticks:=
 ⟨⟨F.lo,F.li,F.wr,F.sp,F.it,F.gt,F.why,by show A.queue.filter _=[];rw[F.q];rfl⟩,⟨h1.rd,h1.lim,h1.came⟩,⟨G.rd,G.lim,G.came⟩,⟨fun _=>jK _,fun _=>nI _,fun _ e=>⟨e,rfl⟩,fun _=>jK _,jK _,jK _⟩⟩
theorem kI:∀(c:List Bool) (j:Nat),j<(c.takeWhile id).length->c.getD j false=true
 |[],j,h=>by simp at h
 |a::t,j,h=>by
  cases a
  ·simp at h
  ·cases j
   ·rfl
   ·simpa using kI t _ (by simpa using h)
theorem uH{o:Ot}{i:bI}(h:yL o i):i.read+i.ready<=o.bytes.length:=by
 by_cases hz:i.ready=0
 ·have:=h.rd;omega
 ·have g:=h.got (i.ready-1) (kI _ _ (by unfold bI.ready at *;omega));obtain⟨x,_⟩:=uj.1 g;omega
theorem wE{o:Ot}{i:bI}(h:yL o i):i.ready<=i.held.length:=by
 rw[<-h.len];unfold bI.ready;exact(List.takeWhile_prefix _).length_le
theorem RO{o:Ot}{i:bI}(h:yL o i)(n:Nat)(H:n<=i.ready):i.held.take n=(o.bytes.drop i.read).take n:=by
 have G:=wE h;have hb:=uH h
 refine List.ext_getElem? fun j=>?_
 by_cases F:j<n
 ·have g:=h.got j (kI _ _ (by unfold bI.ready at *;omega));rw[Vh F,Vh F,KG,g,tL];rw[List.getElem?_eq_getElem (by omega)];rfl
 ·rw[qa2 (by simp;omega),qa2 (by simp;omega)]
theorem Va{o:Ot}{i:bI}(h:yL o i)(most:Int):yL o (i.rd most).2/\(i.rd most).2.gr=i.gr/\i.free<=(i.rd most).2.free/\(i.rd most).2.read=i.read+(i.rd most).1.length/\(i.rd most).1=(o.bytes.drop i.read).take (i.rd most).1.length:=by
 have hh:=wE h;have hb:=uH h;have U:min i.ready (max most 0).toNat<=i.ready:=Nat.min_le_left _ _;have ht:=RO h _ U;obtain⟨n,H⟩:∃n,n=min i.ready (max most 0).toNat:=⟨_,rfl⟩;unfold bI.rd;simp only[<-H]at U ht ⊢
 have hl:(i.held.take n).length=n:=by rw[Xw];omega
 have I:yL o {i.cut n with state:=if(i.cut n).state=0 then(i.cut n).reached else(i.cut n).state}:=by
  refine⟨h.lim,h.high,h.ended,h.given,?_,?_,?_,fun j e=>?_⟩
  ·show(if i.state=0 then(i.cut n).reached else i.state)=0\/(if i.state=0 then(i.cut n).reached else i.state)=1/\i.ended=true/\i.read+n=o.bytes.length
   by_cases F:i.state=0
   ·rw[if_pos F];unfold bI.reached;split
    ·exact .inl rfl
    ·rename_i O;have hg:(i.cut n).given=false:=h.given;rw[hg,if_neg (by simp)]
     have G:i.ended=true:=by
      cases hx:i.ended
      ·exact absurd (Or.inl hx) O
      ·rfl
     refine .inr ⟨rfl,G,?_⟩
     have hw:(i.cut n).wanted=i.dD:=by
      unfold bI.wanted;rw[show(i.cut n).given=false from h.given,show(i.cut n).ended=true from G];rfl
     have hr:¬(i.cut n).read<(i.cut n).wanted:=fun x=>O (Or.inr x)
     rw[hw,(h.ended G).2,show(i.cut n).read=i.read+n from rfl]at hr;omega
   ·rw[if_neg F]
    rcases h.st with e|⟨X,Z,e3⟩
    ·exact absurd e F
    ·exact .inr ⟨X,Z,by omega⟩
  ·show(i.came.drop n).length=(i.held.drop n).length;rw[Vp,Vp,h.len]
  ·show i.read+n<=_;omega
  ·have V:i.came.getD (n+j) false=true:=by
    have:(i.came.drop n).getD j false=true:=e;rw[tL,KG]at this;rw[tL];exact this
   have g:=h.got _ V;show o.bytes[i.read+n+j]?=some ((i.held.drop n).getD j 0);rw[Nat.add_assoc,g,tL,tL,KG]
 refine⟨I,rfl,?_,?_,?_⟩
 ·rw[I.free,h.free];exact DJ _ _
 ·rw[hl];rfl
 ·rw[hl];exact ht
theorem CU{A B:Side}(G:dh A)(h1:bF A B)(F:bF B A)(k:Nat)(most:Int):Stp A B (A.bP k ((A.inn k).rd most).2):=by
 obtain⟨r,g,fr,_,_⟩:=Va (F.rd k) most;refine nM G h1 F k _ r (by rw[g];exact jK _) fr ?_;rw[g];refine mR (G.it k) ?_;unfold Gn.lim;omega
theorem IQ:∀(l:List (Nat×Nat)) (lo e:Nat),(iP lo l e).2<=e
 |[],_,_=>jK _
 |r::t,lo,e=>by
  unfold iP;split
  ·exact Nat.min_le_right _ _
  ·split
   ·exact jK _
   ·exact IQ t _ e
theorem qO{f g:Fr}{b:List UInt8}{room:Int}(h:ko f b room=some g):∃n,n<=b.length/\g={f with data:=⟨(b.take n).toArray⟩}:=by
 unfold ko at h;split at h
 ·cases h
 ·refine⟨_,?_,(Option.some.inj h).symm⟩;omega
theorem vJ{o o':Ot}{k:Nat}{room:Int}{au:Nat}{f:Fr}(hw:Wri o)(h6:o.waits au=true)(h:o.next k room au=some (f,o')):
  f.kind=4/\f.stream=(k:Int)/\FJ o' f/\Wri o'/\o'.limit=o.limit/\o.sent<=o'.sent/\o'.sent<=o.sent+au/\o'.bytes=o.bytes/\o'.fin=o.fin/\o'.nt=o.nt:=by
 have h3:(o.waiting au).1<(o.waiting au).2:=of_decide_eq_true h6;have U:(o.waiting au).2<=(if o.dK (o.reach au)then o.reach au+1 else o.reach au):=IQ _ _ _
 have h9:o.reach au<=o.bytes.length:=by unfold Ot.reach;omega
 have hj:o.reach au<=o.limit:=by unfold Ot.reach;omega
 have ha:o.reach au<=o.sent+au:=by unfold Ot.reach;omega
 obtain⟨lo,h2⟩:∃lo,lo=(o.waiting au).1:=⟨_,rfl⟩;obtain⟨H,h5⟩:∃H,H=(o.waiting au).2:=⟨_,rfl⟩;unfold Ot.next at h;simp only[<-h2,<-h5]at h h3 U
 have key:lo<=o.reach au/\min H o.bytes.length<=o.reach au/\(min H o.bytes.length<=lo->lo=o.bytes.length/\o.dK (o.reach au)=true/\o.reach au=o.bytes.length):=by
  by_cases V:o.dK (o.reach au)=true
  ·rw[if_pos V]at U
   have e2:o.reach au=o.bytes.length:=by
    unfold Ot.dK at V;simp only[M4,decide_eq_true_eq]at V;exact V.2
   refine⟨by omega,by omega,fun h=>⟨by omega,V,e2⟩⟩
  ·rw[if_neg V]at U;refine⟨by omega,by omega,fun h=>by omega⟩
 cases hF:ko (mV k lo) ((o.bytes.take (min H o.bytes.length)).drop lo) room with
 |none=>rw[hF]at h;cases h
 |some g=>
  rw[hF]at h;simp only at h;split at h
  ·cases h
  ·rename_i h4;obtain⟨n,hn,hg⟩:=qO hF;have Z:=Option.some.inj h;have O:f={g with fin:=o.dK (av g)}:=(congrArg ZE Z).symm
   have F:o'=({o with sent:=max o.sent (av g)}:Ot).aw f:=by rw[O];exact(congrArg Prod.snd Z).symm
   have hsz:g.data.size=n:=by
    rw[hg];show(qa1 n _).toArray.size=n;rw[List.size_toArray,Xw];omega
   have h8:((o.bytes.take (min H o.bytes.length)).drop lo).length=min H o.bytes.length-lo:=by
    rw[Vp,Xw];omega
   have h0:g.offset=lo:=by rw[hg];rfl
   have X:av g=lo+n:=by unfold av;rw[hsz,h0]
   have G:av f=lo+n:=by rw[O];exact X
   have h7:lo+n<=o.reach au:=by have:=key.1;have:=key.2.1;omega
   have hd:f.data.data.toList=(o.bytes.take (lo+n)).drop lo:=by
    rw[O,hg];show(qa1 n (List.drop lo (qa1 (min H o.bytes.length) o.bytes)))=_;rw[List.take_drop,List.take_take]
    congr 2
    omega
   have I:f.fin=o.dK (lo+n):=by rw[O];show o.dK (av g)=_;rw[X]
   refine⟨by rw[O,hg];rfl,by rw[O,hg];rfl,⟨?_,?_,?_,fun e=>?_,?_⟩,⟨?_,?_,?_⟩,by rw[F];rfl,?_,?_,by rw[F];rfl,by rw[F];rfl,by rw[F];rfl⟩
   ·rw[G,F];show lo+n<=max o.sent (av g);omega
   ·rw[G,F];show lo+n<=o.bytes.length;omega
   ·rw[G,F,hd];show _=((o.bytes.take (lo+n)).drop f.offset);rw[show f.offset=lo by rw[O];exact h0]
   ·rw[I]at e;unfold Ot.dK at e;simp only[M4,decide_eq_true_eq]at e;rw[F];exact⟨e.1.1,by rw[G];exact e.2⟩
   ·by_cases hz:0<lo+n
    ·rw[G];exact .inr hz
    ·left
     have hm:min H o.bytes.length<=lo:=by
      by_cases hc:lo<min H o.bytes.length
      ·exact absurd ⟨hc,by omega⟩ h4
      ·omega
     obtain⟨a,b,c⟩:=key.2.2 hm;rw[I,show lo+n=o.reach au by omega];exact b
   ·rw[F];show max o.sent (av g)<=o.limit;have:=hw.sl;omega
   ·rw[F];show max o.sent (av g)<=o.bytes.length;have:=hw.sb;omega
   ·rw[F];exact hw.given
   ·rw[F];show o.sent<=max o.sent (av g);omega
   ·rw[F];show max o.sent (av g)<=_;omega
theorem FK{A B:Side}(F:dh A)(h1:bF A B)(G:bF B A)(g:Gn)(H:g.ahead=A.gr.ahead)(ht:A.gr.told<=g.told)(hl:g.told<=A.gr.lim A.free):Stp A B {A with gr:=g}:=
 ⟨⟨F.lo,F.li,F.wr,F.sp,F.it,by show g.told<=g.lim A.free;unfold Gn.lim at *;rw[H];exact hl,F.why,F.q⟩,⟨h1.rd,h1.lim,h1.came⟩,⟨G.rd,mR G.lim ht,G.came⟩,⟨fun _=>jK _,fun _=>nI _,fun _ e=>⟨e,rfl⟩,fun _=>jK _,ht,jK _⟩⟩
theorem gN{A B:Side}(G:dh A)(h1:bF A B)(F:bF B A):Stp A B A:=⟨G,h1,F,yT.refl A⟩
theorem IU{o:Ot}{i:bI}(h:yL o i)(g:Gn)(ht:i.gr.told<=g.told):yL o {i with gr:=g}:=
 ⟨mR h.lim ht,h.high,h.ended,h.given,h.st,h.len,h.rd,h.got⟩
theorem kX{g g':Gn}{kind:Int}{k free:Nat}{room:Int}{f:Fr}(h:g.next kind k free room=some (f,g')):f=iq kind k (g.lim free)/\g'=({g with told:=g.lim free}:Gn).aw (g.lim free):=by
 unfold Gn.next at h;split at h
 ·cases h
 ·have:=Option.some.inj h;exact⟨(congrArg ZE this).symm,(congrArg Prod.snd this).symm⟩
theorem wG{A B A':Side}(G:dh A)(h1:bF A B)(h2:bF B A)(left left':List (Nat×Nat))(u:Nat)(room:Int)(f:Fr)(hu:u<48)(hl:∀r∈left,r.2<B.next)(F:A.waits left u=true)(h:A.frame left u room=some (f,A',left')):Stp A B A'/\kH A' B f/\(∀r∈left',r.2<B.next):=by
 unfold Side.frame at h;unfold Side.waits at F
 by_cases u0:u=0
 ·rw[if_pos u0]at h;split at h
  ·cases h
  ·rename_i hn;have e:=Option.some.inj h;have U:cZ (left.take (bN left room left.length))=f:=congrArg ZE e;have O:A=A':=congrArg (fun x=>x.2.1) e;have el:left.drop (bN left room left.length)=left':=congrArg (fun x=>x.2.2) e;subst U O el;refine⟨gN G h1 h2,.inl ⟨rfl,?_,?_⟩,fun r hr=>hl r (List.mem_of_mem_drop hr)⟩
   ·cases left with
    |nil=>exact absurd rfl hn
    |cons a t=>
     show qa1 _ (a::t)≠[];intro X;rw[List.take_eq_nil_iff]at X
     rcases X with X|X
     ·exact hn X
     ·cases X
   ·cases left with
    |nil=>exact absurd rfl hn
    |cons a t=>
     show((qa1 _ (a::t)).getD 0 (0,0)).2<B.next;obtain⟨m,hm⟩:∃m,bN (a::t) room (a::t).length=m+1:=⟨bN (a::t) room (a::t).length-1,by omega⟩;rw[hm];exact hl a (by simp)
 ·rw[if_neg u0]at h F;simp only[M4]at F;replace F:=F.2
  have hq:A.kW=0:=by unfold Side.kW;rw[G.q]
  by_cases u8:u=8
  ·rw[if_pos u8]at h;obtain⟨⟨f1,V⟩,hx,e⟩:=Bu.1 h;obtain⟨I,H⟩:=kX hx;have U:f1=f:=congrArg ZE e;have O:{A with gr:=V}=A':=congrArg (fun x=>x.2.1) e;have el:left=left':=congrArg (fun x=>x.2.2) e;subst U O el;refine⟨FK G h1 h2 V (by rw[H];rfl) (by rw[H];exact G.gt) (by rw[H];exact jK _),.inr (.inr (.inl ⟨by rw[I];rfl,?_⟩)),hl⟩;rw[I,H];exact jK _
  ·rw[if_neg u8]at h F
   by_cases u24:u<24
   ·rw[if_pos u24]at h;obtain⟨⟨f1,V⟩,hx,e⟩:=Bu.1 h;obtain⟨I,H⟩:=kX hx;have U:f1=f:=congrArg ZE e;have O:A.bP (u-16) {A.inn (u-16)with gr:=V}=A':=congrArg (fun x=>x.2.1) e;have el:left=left':=congrArg (fun x=>x.2.2) e;subst U O el
    have ht:(A.inn (u-16)).gr.told<=V.told:=by rw[H];exact G.it _
    refine⟨nM G h1 h2 (u-16) _ (IU (h2.rd _) V ht) ht (jK _) (by rw[H];exact jK _),.inr (.inr (.inr ⟨by rw[I];rfl,by rw[I];exact qa6 _,?_,?_⟩)),hl⟩
    ·rw[I];show((u-16:Nat):Int)<8;omega
    ·rw[I];show(A.inn (u-16)).gr.lim _<=((A.bP (u-16) _).inn (((u-16:Nat):Int).toNat)).gr.told;rw[qa8,fM,if_pos ⟨rfl,by rw[G.li];omega⟩,H];exact jK _
   ·rw[if_neg u24]at h F
    by_cases u32:u<32
    ·rw[if_pos u32]at F;unfold Nt.waits at F;rw[(G.wr _).given]at F;cases F
    ·rw[if_neg u32]at h F
     by_cases Z:u=32
     ·rw[if_pos Z]at F;rw[G.q]at F;simp at F
     ·rw[if_neg Z]at h F;obtain⟨⟨f1,o1⟩,hx,e⟩:=Bu.1 h;have U:f1=f:=congrArg ZE e;have O:A.aW (u-40) o1=A':=congrArg (fun x=>x.2.1) e;have el:left=left':=congrArg (fun x=>x.2.2) e;subst U O el;obtain⟨n1,n2,n3,n4,n5,n6,n7,n8,n9,_⟩:=vJ (G.wr _) F hx;refine⟨gM G h1 h2 (u-40) o1 n4 n5 n6 (by rw[n8];exact nI _) (fun x=>⟨by rw[n9];exact x,n8⟩) n7,.inr (.inl ⟨n1,by rw[n2];exact qa6 _,by rw[n2];omega,?_⟩),hl⟩;rw[n2,qa8,gL,if_pos ⟨rfl,by rw[G.lo];omega⟩];exact n3
end Go.Proofs.YtphbledmopchnaaGreatDoor.Sd
namespace Go.Proofs.YtphbledmopchnaaGreatDoor.Sd
open Go.RowKit Go.Lib Mm Tryz
abbrev Own:=Nat->Nat
structure Kp (T:List Nat) (own own':Own) (w w':World):Prop where
 os:w'.os=w.os
 tape:w'.tape=w.tape
 output:w'.output=w.output
 size:w.heap.size<=w'.heap.size
 blk:∀b,b<w.heap.size->own b∉T->w'.heap[b]?=w.heap[b]?
 ext:∀b,b<w.heap.size->own' b=own b
theorem Kp.refl(T:List Nat)(own:Own)(w:World):Kp T own own w w:=⟨rfl,rfl,rfl,jK _,fun _ _ _=>rfl,fun _ _=>rfl⟩
theorem Kp.trans{T:List Nat}{o0 o1 G:Own}{w w1 H:World}(h:Kp T o0 o1 w w1)(k:Kp T o1 G w1 H):Kp T o0 G w H:=
 ⟨k.os.trans h.os,k.tape.trans h.tape,k.output.trans h.output,mR h.size k.size,
 fun b hb F=>(k.blk b (tT hb h.size) (by rw[h.ext b hb];exact F)).trans (h.blk b hb F),
 fun b hb=>(k.ext b (tT hb h.size)).trans (h.ext b hb)⟩
theorem Kp.mono{T F:List Nat}{o o':Own}{w w':World}(h:Kp T o o' w w')(G:∀t∈T,t∈F):Kp F o o' w w':=
 ⟨h.os,h.tape,h.output,h.size,fun b hb I=>h.blk b hb (fun H=>I (G _ H)),h.ext⟩
theorem Kp.below{T:List Nat}{own:Own}{w w':World}(h:Below w.heap.size w w'):Kp T own own w w':=
 ⟨h.os,h.tape,h.output,h.size,fun b hb _=>h.block b hb,fun _ _=>rfl⟩
theorem Kp.eP{T:List Nat}{o o':Own}{w w1 F:World}(h:Kp T o o' w w1)(k:Below w1.heap.size w1 F):Kp T o o' w F:=h.trans (Kp.below k)
theorem Kp.drewN{T:List Nat}{o o':Own}{w w1:World}(h:Kp T o o' w w1)(q:Nat):Kp T o o' w (w1.drewN q):=⟨h.os,h.tape,h.output,h.size,h.blk,h.ext⟩
theorem Kp.set(own:Own)(w:World)(a:Addr)(v:Value)(T:List Nat)(h:own a.block∈T):Kp T own own w (w.setCell a v):=
 ⟨rfl,rfl,rfl,by simp,fun b _ F=>wz _ _ _ _ (fun e=>F (by rw[e];exact h)),fun _ _=>rfl⟩
theorem Kp.alloc(own:Own)(w:World)(o:Obj)(T:List Nat):Kp T own own w (w.alloc o):=Kp.below ((qah _ w).alloc (jK _) o)
theorem aK{T:List Nat}{o o':Own}{w w':World}{b:Nat}{t:TypeId}{l:List Value}(h:ak w b t l)(k:Kp T o o' w w')(F:o b∉T):ak w' b t l:=h.of_heap (k.blk b h.lt F)
def GT(own:Own)(t:Nat)(e:TypeId)(k:Nat)(w:World)(v:Value)(n:Nat)(l:List Value):Prop:=
 v=.slice none 0 0/\n=0/\l=[]\/∃g cap cs,v=.slice (some ⟨g,0,none⟩) n cap/\own g=t/\ak w g e cs/\cap*k<=cs.length/\n<=cap/\cap<=9223372036854775807/\l.length=n*k/\cs.take (n*k)=l/\∀v∈cs,v.oneCell'=true
theorem GT.kp{own own':Own}{t:Nat}{e:TypeId}{k:Nat}{w w':World}{v:Value}{n:Nat}{l:List Value}{T:List Nat}(h:GT own t e k w v n l)(K:Kp T own own' w w')(I:t∉T):GT own' t e k w' v n l:=by
 rcases h with h|⟨g,cap,cs,h1,F,G,H⟩
 ·exact .inl h
 ·exact .inr ⟨g,cap,cs,h1,by rw[K.ext g G.lt,F],aK G K (by rw[F];exact I),H⟩
theorem GT.len{own:Own}{t:Nat}{e:TypeId}{k:Nat}{w:World}{v:Value}{n:Nat}{l:List Value}(h:GT own t e k w v n l):l.length=n*k:=by
 rcases h with⟨_,rfl,rfl⟩|⟨_,_,_,_,_,_,_,_,_,h,_⟩
 ·simp
 ·exact h
theorem GT.shape{own:Own}{t:Nat}{e:TypeId}{k:Nat}{w:World}{v:Value}{n:Nat}{l:List Value}(h:GT own t e k w v n l):∃a c,v=.slice a n c/\n<=c/\c<=9223372036854775807:=by
 rcases h with⟨rfl,rfl,_⟩|⟨g,cap,cs,rfl,_,_,_,h,h',_⟩
 ·exact⟨_,_,rfl,jK _,by omega⟩
 ·exact⟨_,_,rfl,h,h'⟩
theorem GT.cell{own:Own}{t:Nat}{e:TypeId}{k:Nat}{w:World}{a:Option Addr}{n c:Nat}{l:List Value}(h:GT own t e k w (.slice a n c) n l)(j:Nat)(x:Value)(F:l[j]?=some x):∃g,a=some ⟨g,0,none⟩/\own g=t/\g<w.heap.size/\w.cell? ⟨g,j,none⟩=some x/\w.frozen? ⟨g,j,none⟩=false:=by
 rcases h with⟨_,rfl,rfl⟩|⟨g,cap,cs,hv,ho,hB,_,_,_,h4,h5,_⟩
 ·simp at F
 ·simp at hv;refine⟨g,hv.1,ho,hB.lt,?_,hB.frozen j⟩;rw[hB.cell];rw[<-h5,List.getElem?_take]at F;split at F
  ·exact F
  ·cases F
theorem GT.RZ{own:Own}{t:Nat}{e:TypeId}{k:Nat}{w:World}{v:Value}{n:Nat}{l:List Value}(h:bn e k w v n l)(H:∀b,v.ownBlock=some b->own b=t):GT own t e k w v n l:=by
 rcases h with h|⟨g,cap,cs,h1,F,I,G⟩
 ·exact .inl h
 ·exact .inr ⟨g,cap,cs,h1,H g (by rw[h1];rfl),F,by omega,G⟩
def iH(l l':List Value)(o n:Nat):Prop:=l'.length=l.length/\∀j,j<o\/o+n<=j->l'[j]?=l[j]?
theorem iH.refl(l:List Value)(o n:Nat):iH l l o n:=⟨rfl,fun _ _=>rfl⟩
theorem iH.trans{a b c:List Value}{o n:Nat}(h:iH a b o n)(k:iH b c o n):iH a c o n:=⟨k.1.trans h.1,fun j F=>(k.2 j F).trans (h.2 j F)⟩
theorem iH.mono{a b:List Value}{o n o' n':Nat}(h:iH a b o n)(h1:o'<=o)(F:o+n<=o'+n'):iH a b o' n':=⟨h.1,fun j G=>h.2 j (by omega)⟩
theorem iH.set(l:List Value)(j:Nat)(v:Value)(o n:Nat)(h1:o<=j)(F:j<o+n):iH l (l.set j v) o n:=
 ⟨by simp,fun i hi=>by rw[qa3 (by omega)]⟩
abbrev TS:TypeId:=210
structure jD (R:Nat) (y y':World):Prop where
 os:y'.os=y.os
 tape:y'.tape=y.tape
 output:y'.output=y.output
 size:y'.heap.size=y.heap.size
 block:∀k,k≠R->y'.heap[k]?=y.heap[k]?
theorem jD.refl(R:Nat)(y:World):jD R y y:=⟨rfl,rfl,rfl,rfl,fun _ _=>rfl⟩
theorem jD.set{R:Nat}{y y':World}(h:jD R y y')(o:Nat)(v:Value):jD R y (y'.setCell ⟨R,o,none⟩ v):=
 ⟨h.os,h.tape,h.output,by rw[<-h.size];simp,fun k F=>(wz y' ⟨R,o,none⟩ v k F).trans (h.block k F)⟩
structure cu (w w':World) (S:Nat) (l l':List Value) (o n:Nat):Prop where
 os:w'.os=w.os
 tape:w'.tape=w.tape
 output:w'.output=w.output
 size:w.heap.size<=w'.heap.size
 al:∀b,b<w.heap.size->b≠S->w'.heap[b]?=w.heap[b]?
 blk:ak w' S TS l'
 win:iH l l' o n
theorem cu.refl{w:World}{S:Nat}{l:List Value}(hB:ak w S TS l)(o n:Nat):cu w w S l l o n:=⟨rfl,rfl,rfl,jK _,fun _ _ _=>rfl,hB,iH.refl _ _ _⟩
theorem cu.one{w:World}{S:Nat}{l:List Value}(hB:ak w S TS l)(j:Nat)(v:Value)(o n:Nat)(h1:o<=j)(G:j<o+n):cu w (w.setCell ⟨S,j,none⟩ v) S l (l.set j v) o n:=
 ⟨rfl,rfl,rfl,by simp,fun b _ F=>wz _ _ _ _ F,hB.setCell j v,iH.set l j v o n h1 G⟩
theorem cu.trans{w w1 G:World}{S:Nat}{l l1 l2:List Value}{o n:Nat}(h:cu w w1 S l l1 o n)(k:cu w1 G S l1 l2 o n):cu w G S l l2 o n:=
 ⟨k.os.trans h.os,k.tape.trans h.tape,k.output.trans h.output,mR h.size k.size,fun b hb F=>(k.al b (tT hb h.size) F).trans (h.al b hb F),k.blk,h.win.trans k.win⟩
theorem cu.kp{w w':World}{S:Nat}{l l':List Value}{o n:Nat}(h:cu w w' S l l' o n){s:Nat}{own:Own}(F:own S=s){T:List Nat}(G:s∈T):Kp T own own w w':=
 ⟨h.os,h.tape,h.output,h.size,fun b hb H=>h.al b hb (fun e=>H (by rw[e,F];exact G)),fun _ _=>rfl⟩
theorem Kp.drew{T:List Nat}{o o':Own}{w w1:World}(h:Kp T o o' w w1):Kp T o o' w w1.drew:=⟨h.os,h.tape,h.output,h.size,h.blk,h.ext⟩
theorem cu.drew{w w':World}{S:Nat}{l l':List Value}{o n:Nat}(h:cu w w' S l l' o n):cu w w'.drew S l l' o n:=⟨h.os,h.tape,h.output,h.size,h.al,h.blk.drew,h.win⟩
theorem cu.drewN{w w':World}{S:Nat}{l l':List Value}{o n:Nat}(h:cu w w' S l l' o n)(q:Nat):cu w (w'.drewN q) S l l' o n:=⟨h.os,h.tape,h.output,h.size,h.al,h.blk,h.win⟩
theorem cu.after{w W w':World}{S:Nat}{l l':List Value}{o n:Nat}(k:Below w.heap.size w W)(h:cu W w' S l l' o n):cu w w' S l l' o n:=
 ⟨h.os.trans k.os,h.tape.trans k.tape,h.output.trans k.output,mR k.size h.size,fun b hb F=>(h.al b (tT hb k.size) F).trans (k.block b hb),h.blk,h.win⟩
theorem cu.eP{w w1 w':World}{S:Nat}{l l':List Value}{o n:Nat}(h:cu w w1 S l l' o n)(k:Below w1.heap.size w1 w'):cu w w' S l l' o n:=
 ⟨k.os.trans h.os,k.tape.trans h.tape,k.output.trans h.output,mR h.size k.size,fun b hb F=>(k.block b (tT hb h.size)).trans (h.al b hb F),h.blk.of_heap (k.block _ h.blk.lt),h.win⟩
theorem cu.tch{w w1 w':World}{S:Nat}{l l':List Value}{o n:Nat}{R:Nat}(h:cu w w1 S l l' o n)(t:jD R w1 w')(H:w.heap.size<=R)(F:S≠R):cu w w' S l l' o n:=
 ⟨t.os.trans h.os,t.tape.trans h.tape,t.output.trans h.output,by rw[t.size];exact h.size,fun b hb G=>(t.block b (by omega)).trans (h.al b hb G),h.blk.of_heap (t.block _ F),h.win⟩
theorem cu.other{w w':World}{S:Nat}{l l':List Value}{o n:Nat}(h:cu w w' S l l' o n){b:Nat}{t:TypeId}{m:List Value}(hb:ak w b t m)(F:b≠S):ak w' b t m:=hb.of_heap (h.al b hb.lt F)
def loc(own:Own)(n:Nat):Own:=fun b=>if b<n then own b else 0
theorem fH(own:Own)(n b:Nat)(h:b<n):loc own n b=own b:=if_pos h
theorem eT(own:Own)(n b:Nat)(h:n<=b):loc own n b=0:=if_neg (by omega)
structure pU (l:List Value) (o:Nat) (g:Gn):Prop where
 c0:l[o]?=some (.int .u64 g.ahead)
 c1:l[o+1]?=some (.int .u64 g.told)
 c2:l[o+2]?=some (.int .u64 g.away)
 c3:l[o+3]?=some (.int .u64 g.came)
theorem pU.win{l l':List Value}{o o' n':Nat}{g:Gn}(h:pU l o g)(w:iH l l' o' n')(hd:o+4<=o'\/o'+n'<=o):pU l' o g:=
 ⟨by rw[w.2 _ (by omega),h.c0],by rw[w.2 _ (by omega),h.c1],by rw[w.2 _ (by omega),h.c2],by rw[w.2 _ (by omega),h.c3]⟩
structure yV (l:List Value) (o:Nat) (n:Nt):Prop where
 c0:l[o]?=some (.bool n.given)
 c1:l[o+1]?=some (.int .u64 n.offset)
 c2:l[o+2]?=some (.int .u64 n.away)
 c3:l[o+3]?=some (.int .u64 n.came)
theorem yV.win{l l':List Value}{o o' n':Nat}{g:Nt}(h:yV l o g)(w:iH l l' o' n')(hd:o+4<=o'\/o'+n'<=o):yV l' o g:=
 ⟨by rw[w.2 _ (by omega),h.c0],by rw[w.2 _ (by omega),h.c1],by rw[w.2 _ (by omega),h.c2],by rw[w.2 _ (by omega),h.c3]⟩
theorem max2(a b:Nat):∃m:Nat,(∀F t w,(R3 F t #[.int .u64 a,.int .u64 b]).run prog w=.ok (.int .u64 m) w)/\m=max a b:=by
 refine⟨max a b,fun F t w=>?_,rfl⟩;simp only[R3,CK,Gl,qad];simp only[Z9,qa0,Result.andThen_ok]
 by_cases h:a<b
 ·simp[h,Nat.max_eq_right (qag h)]
 ·simp[h,Nat.max_eq_left (qab h)]
theorem min2(a b:Nat):∃m:Nat,(∀F t w,(Si F t #[.int .u64 a,.int .u64 b]).run prog w=.ok (.int .u64 m) w)/\m=min a b:=by
 refine⟨min a b,fun F t w=>?_,rfl⟩;simp only[Si,CK,Gl,qae];simp only[Z9,qa0,Result.andThen_ok]
 by_cases h:b<a
 ·simp[h,Nat.min_eq_right (qag h)]
 ·simp[h,Nat.min_eq_left (qab h)]
theorem Nq(a b:Int):∃m:Int,(∀F t w,(Si F t #[.int .i64 a,.int .i64 b]).run prog w=.ok (.int .i64 m) w)/\m=min a b:=by
 refine⟨min a b,fun F t w=>?_,rfl⟩;simp only[Si,CK,Gl,qae];simp only[Z9,qa0,Result.andThen_ok]
 by_cases h:b<a
 ·simp[h,Int.min_eq_right (qaf h)]
 ·simp[h,Int.min_eq_left (Int.not_lt.1 h)]
theorem XD(a b:Int):∃m:Int,(∀F t w,(R3 F t #[.int .i64 a,.int .i64 b]).run prog w=.ok (.int .i64 m) w)/\m=max a b:=by
 refine⟨max a b,fun F t w=>?_,rfl⟩;simp only[R3,CK,Gl,qad];simp only[Z9,qa0,Result.andThen_ok]
 by_cases h:a<b
 ·simp[h,Int.max_eq_right (qaf h)]
 ·simp[h,Int.max_eq_left (Int.not_lt.1 h)]
def gZ(y:World)(R:Nat)(F G H v3 I O U V X v9:Value):World:=
 (((((((((y.setCell ⟨R,0,none⟩ F).setCell ⟨R,1,none⟩ G).setCell ⟨R,2,none⟩ H).setCell ⟨R,3,none⟩ v3).setCell ⟨R,4,none⟩ I).setCell ⟨R,5,none⟩ O).setCell ⟨R,6,none⟩ U).setCell ⟨R,7,none⟩ V).setCell ⟨R,8,none⟩ X).setCell ⟨R,9,none⟩ v9
theorem dw(y:World)(R:Nat)(F G H v3 I O U V X v9:Value):
  (((((((((y.setCell ⟨R,0,none⟩ F).setCell ⟨R,1,none⟩ G).setCell ⟨R,2,none⟩ H).setCell ⟨R,3,none⟩ v3).setCell ⟨R,4,none⟩ I).setCell ⟨R,5,none⟩ O).setCell ⟨R,6,none⟩ U).setCell ⟨R,7,none⟩ V).setCell ⟨R,8,none⟩ X).setCell ⟨R,9,none⟩ v9=gZ y R F G H v3 I O U V X v9:=rfl
theorem bY{y:World}{R:Nat}{t:TypeId}{u0 u1 u2 u3 u4 u5 u6 u7 u8 u9:Value}(h:ak y R t [u0,u1,u2,u3,u4,u5,u6,u7,u8,u9])(F G H v3 I O U V X v9:Value):ak (gZ y R F G H v3 I O U V X v9) R t [F,G,H,v3,I,O,U,V,X,v9]:=
 (((((((((h.setCell 0 F).setCell 1 G).setCell 2 H).setCell 3 v3).setCell 4 I).setCell 5 O).setCell 6 U).setCell 7 V).setCell 8 X).setCell 9 v9
theorem bZ(y:World)(R:Nat)(F G H v3 I O U V X v9:Value):jD R y (gZ y R F G H v3 I O U V X v9):=
 ((((((((((jD.refl R y).set 0 F).set 1 G).set 2 H).set 3 v3).set 4 I).set 5 O).set 6 U).set 7 V).set 8 X).set 9 v9
theorem jD.below{R:Nat}{B:Nat}{w y y':World}(t:jD R y y')(h:Below B w y)(G:B<=R):Below B w y':=
 ⟨t.os.trans h.os,t.tape.trans h.tape,t.output.trans h.output,by have:=h.size;rw[t.size];exact this,fun k F=>(t.block k (by omega)).trans (h.block k F)⟩
theorem jD.kp{R:Nat}{T:List Nat}{o o':Own}{w y y':World}(t:jD R y y')(h:Kp T o o' w y)(H:w.heap.size<=R):Kp T o o' w y':=
 ⟨t.os.trans h.os,t.tape.trans h.tape,t.output.trans h.output,by rw[t.size];exact h.size,fun k F G=>(t.block k (by omega)).trans (h.blk k F G),h.ext⟩
theorem aN(l:List Value)(j:Nat)(v x:Value)(h:l[j]?=some x):(l.set j v)[j]?=some v:=by
 rw[List.getElem?_set_self (uj.1 h).1]
theorem aj(l:List Value)(j i:Nat)(v:Value)(h:j≠i):(l.set j v)[i]?=l[i]?:=qa3 h
end Go.Proofs.YtphbledmopchnaaGreatDoor.Sd
namespace Go.Proofs.YtphbledmopchnaaGreatDoor.Sd
open Go.RowKit Go.Lib Mm St Tryz
def jh(w:World)(sp so:Nat)(l:List Value)(most:Int)(fl:Nat)(base:Option Addr)(n c:Nat):Prop:=
 ak w sp TS l/\l[so]?=some (.int .i64 most)/\l[so+1]?=some (.int .u64 fl)/\l[so+2]?=some (.slice base n c)
theorem jh.of{w w':World}{sp so:Nat}{l:List Value}{most:Int}{fl:Nat}{base:Option Addr}{n c:Nat}(h:jh w sp so l most fl base n c)(e:w'.heap[sp]?=w.heap[sp]?):jh w' sp so l most fl base n c:=⟨h.1.of_heap e,h.2⟩
theorem jh.cell0{w:World}{sp so:Nat}{l:List Value}{most:Int}{fl:Nat}{base:Option Addr}{n c:Nat}(h:jh w sp so l most fl base n c):w.cell? ⟨sp,so,none⟩=some (.int .i64 most):=by rw[h.1.cell];exact h.2.1
theorem jh.cell1{w:World}{sp so:Nat}{l:List Value}{most:Int}{fl:Nat}{base:Option Addr}{n c:Nat}(h:jh w sp so l most fl base n c):w.cell? ⟨sp,so+1,none⟩=some (.int .u64 fl):=by rw[h.1.cell];exact h.2.2.1
theorem jh.jy{w:World}{sp so:Nat}{l:List Value}{most:Int}{fl:Nat}{base:Option Addr}{n c:Nat}(h:jh w sp so l most fl base n c):w.cell? ⟨sp,so+2,none⟩=some (.slice base n c):=by rw[h.1.cell];exact h.2.2.2
def vw(w:World)(sp so:Nat)(l:List Value)(most:Int)(fl:Nat)(rs:List (Nat×Nat))(row:Option Nat):Prop:=
 ∃base c,jh w sp so l most fl base rs.length c/\rs.length<=c/\c<=9223372036854775807/\row=base.map (·.block)/\fP w sp base c rs
def Bc(w:World)(sp so:Nat)(l:List Value)(most:Int)(fl:Nat)(rs:List (Nat×Nat))(row:Option Nat):Prop:=
 ∃l',vw w sp so l' most fl rs row/\iH l l' so 3
theorem FZ(bs G sp so b c n i lo x:Nat)(W:World)(hi:i<n)(_hn:n<4611686018427387904)(cs:W.cell? ⟨bs,0,none⟩=some (.pointer (some ⟨sp,so,none⟩)))(O:W.cell? ⟨G,0,none⟩=some (.int .u64 lo))(cl:W.cell? ⟨sp,so+2,none⟩=some (.slice (some ⟨b,0,none⟩) n c))(U:W.cell? ⟨b,i*2+1,none⟩=some (.int .u64 x))(F:lo<18446744073709551616)(I:x<18446744073709551616):
  Calls prog 221 (#[.int .i64 i]++#[.pointer (some ⟨bs,0,none⟩),.pointer (some ⟨G,0,none⟩)]) W fun e w'=>e=.returned (.bool (!decide (x+1<lo)))/\∃q,w'=W.drewN q:=by
 have H:(i:Int)<(n:Int):=by omega
 go_enter func221,ntmps221;go_wp2
 go_quiet ((go_at_call 222;exact Calls.quiet_of_same (St.zG _ _ I F _)))
 go_wp2;go_ret;exact⟨rfl,nq,rfl⟩
theorem F9(bs G sp so b c n i hi x:Nat)(W:World)(H:i<n)(_hn:n<4611686018427387904)(cs:W.cell? ⟨bs,0,none⟩=some (.pointer (some ⟨sp,so,none⟩)))(U:W.cell? ⟨G,1,none⟩=some (.int .u64 hi))(cl:W.cell? ⟨sp,so+2,none⟩=some (.slice (some ⟨b,0,none⟩) n c))(V:W.cell? ⟨b,i*2,none⟩=some (.int .u64 x))(F:hi<18446744073709551616)(O:x<18446744073709551616):
  Calls prog 223 (#[.int .i64 i]++#[.pointer (some ⟨G,0,none⟩),.pointer (some ⟨bs,0,none⟩)]) W fun e w'=>e=.returned (.bool (decide (hi+1<x)))/\∃q,w'=W.drewN q:=by
 have I:(i:Int)<(n:Int):=by omega
 go_enter func223,ntmps223;go_wp2
 go_quiet ((go_at_call 222;exact Calls.quiet_of_same (St.zG _ _ F O _)))
 go_wp2;go_ret;exact⟨rfl,nq,rfl⟩
theorem J8(bs F sp so b c n i v x:Nat)(W:World)(G:i<n)(_hn:n<4611686018427387904)(cs:W.cell? ⟨bs,0,none⟩=some (.pointer (some ⟨sp,so,none⟩)))(I:W.cell? ⟨F,0,none⟩=some (.int .u64 v))(cl:W.cell? ⟨sp,so+2,none⟩=some (.slice (some ⟨b,0,none⟩) n c))(O:W.cell? ⟨b,i*2+1,none⟩=some (.int .u64 x)):
  Calls prog 172 (#[.int .i64 i]++#[.pointer (some ⟨bs,0,none⟩),.pointer (some ⟨F,0,none⟩)]) W fun e w'=>e=.returned (.bool (decide (v<=x)))/\∃q,w'=W.drewN q:=by
 have H:(i:Int)<(n:Int):=by omega
 go_enter func172,ntmps172;go_wp2
 go_quiet (fail)
 go_wp2;go_ret;exact⟨St.aP (by simp),nq,rfl⟩
theorem Dl(bs F sp so lo:Nat)(base:Option Addr)(c:Nat)(rs:List (Nat×Nat))(W:World)(O:Rg.Sorted rs)(hB:Small rs)(X:rs.length<=1000000)(H:lo<18446744073709551616)(cs:W.cell? ⟨bs,0,none⟩=some (.pointer (some ⟨sp,so,none⟩)))(I:W.cell? ⟨F,0,none⟩=some (.int .u64 lo))(cl:W.cell? ⟨sp,so+2,none⟩=some (.slice base rs.length c))(R:fP W sp base c rs):
  Calls prog 171 #[.int .i64 (rs.length:Nat),.func (.func 221) #[] #[.pointer (some ⟨bs,0,none⟩),.pointer (some ⟨F,0,none⟩)]] W fun e w'=>e=.returned (.int .i64 (Rg.gB lo rs:Nat))/\∃q,w'=W.drewN q:=by
 have U:(Lb rs.length).countP (fun i=> !(!decide ((rs.getD i (0,0)).2+1<lo)))=Rg.gB lo rs:=by
  simp only[Bool.not_not];exact iE rs (fun r=>decide (r.2+1<lo))
 rw[<-U];refine pO 221 _ rs.length (fun i=> !decide ((rs.getD i (0,0)).2+1<lo)) W (enters_of func221 (by kernel_rfl) rfl) (by omega) (fun m i hi=>?_) (fun a b G hb h=>?_)
 ·obtain⟨b,rfl,_,_,h1,V⟩:=R.ku hi;exact FZ bs F sp so b c rs.length i lo _ (W.drewN m) hi (by omega) cs I cl h1 H (hB.get hi).2
 ·have:=(lY O G hb).2;simp only[Bool.not_eq_true',decide_eq_false_iff_not]at h ⊢;omega
theorem Dm(bs G sp so hi:Nat)(base:Option Addr)(c:Nat)(rs:List (Nat×Nat))(W:World)(V:Rg.Sorted rs)(hB:Small rs)(Z:rs.length<=1000000)(I:hi<18446744073709551616)(cs:W.cell? ⟨bs,0,none⟩=some (.pointer (some ⟨sp,so,none⟩)))(O:W.cell? ⟨G,1,none⟩=some (.int .u64 hi))(cl:W.cell? ⟨sp,so+2,none⟩=some (.slice base rs.length c))(R:fP W sp base c rs):
  Calls prog 171 #[.int .i64 (rs.length:Nat),.func (.func 223) #[] #[.pointer (some ⟨G,0,none⟩),.pointer (some ⟨bs,0,none⟩)]] W fun e w'=>e=.returned (.int .i64 (Rg.end' hi rs:Nat))/\∃q,w'=W.drewN q:=by
 have X:(Lb rs.length).countP (fun i=> !(decide (hi+1<(rs.getD i (0,0)).1)))=Rg.end' hi rs:=by
  rw[iE rs (fun r=> !decide (hi+1<r.1))];unfold Rg.end';apply qa9;intro x _;simp
 rw[<-X];refine pO 223 _ rs.length (fun i=>decide (hi+1<(rs.getD i (0,0)).1)) W (enters_of func223 (by kernel_rfl) rfl) (by omega) (fun m i F=>?_) (fun a b H hb h=>?_)
 ·obtain⟨b,rfl,_,_,h1,U⟩:=R.ku F;exact F9 bs G sp so b c rs.length i hi _ (W.drewN m) F (by omega) cs O cl U I (hB.get F).1
 ·have:=(lY V H hb).1;simp only[decide_eq_true_eq]at h ⊢;omega
theorem Nu(bs F sp so v:Nat)(base:Option Addr)(c:Nat)(rs:List (Nat×Nat))(W:World)(I:Rg.Sorted rs)(V:rs.length<=1000000)(cs:W.cell? ⟨bs,0,none⟩=some (.pointer (some ⟨sp,so,none⟩)))(H:W.cell? ⟨F,0,none⟩=some (.int .u64 v))(cl:W.cell? ⟨sp,so+2,none⟩=some (.slice base rs.length c))(R:fP W sp base c rs):
  Calls prog 171 #[.int .i64 (rs.length:Nat),.func (.func 172) #[] #[.pointer (some ⟨bs,0,none⟩),.pointer (some ⟨F,0,none⟩)]] W fun e w'=>e=.returned (.int .i64 (rs.countP (fun r=>decide (r.2<v)):Nat))/\∃q,w'=W.drewN q:=by
 have O:(Lb rs.length).countP (fun i=> !(decide (v<=(rs.getD i (0,0)).2)))=rs.countP (fun r=>decide (r.2<v)):=by
  rw[iE rs (fun r=> !decide (v<=r.2))];apply qa9;intro x _;simp
 rw[<-O];refine pO 172 _ rs.length (fun i=>decide (v<=(rs.getD i (0,0)).2)) W (enters_of func172 (by kernel_rfl) rfl) (by omega) (fun m i hi=>?_) (fun a b G hb h=>?_)
 ·obtain⟨b,rfl,_,_,h1,U⟩:=R.ku hi;exact J8 bs F sp so b c rs.length i v _ (W.drewN m) hi (by omega) cs H cl h1
 ·have:=(lY I G hb).2;simp only[decide_eq_true_eq]at h ⊢;omega
theorem Ga{w W' w':World}{sp so:Nat}{l:List Value}{base:Option Addr}{c:Nat}{most:Int}{fl:Nat}{rs F:List (Nat×Nat)}{G I:Nat}{l':List Value}(hs:jh w sp so l most fl base rs.length c)(R:fP w sp base c rs)(O:Below w.heap.size w W')(o1:ak w' G 170 l')(o2:l'.length=2*I)(o3:F.length<=I)(o4:I<=9223372036854775807)(o5:l'.take (2*F.length)=St.aC F)(o6:∀v∈l',v.oneCell'=true)(U:W'.grownBy w' (base.map (·.block)))(o8:some G=base.map (·.block)\/W'.heap.size<=G):
  Bc (w'.setCell ⟨sp,so+2,none⟩ (.slice (some ⟨G,0,none⟩) F.length I)) sp so l most fl F (some G)/\Kept w (w'.setCell ⟨sp,so+2,none⟩ (.slice (some ⟨G,0,none⟩) F.length I)) sp (base.map (·.block))/\(some G=base.map (·.block)\/w.heap.size<=G):=by
 have h0:=hs.1.lt;have hsz:=O.size
 have H:∀k,base.map (·.block)=some k->k≠sp:=by
  intro k X
  rcases R with⟨rfl,_⟩|⟨b,l,rfl,hb,_⟩
  ·cases X
  ·simp at X;rw[<-X];exact hb
 have V:G≠sp:=by
  rcases o8 with h|h
  ·exact H G h.symm
  ·omega
 have Z:jh w' sp so l most fl base rs.length c:=
  (hs.of (O.block sp h0)).of (U.block sp (by omega) (fun e=>H sp e.symm rfl))
 refine⟨⟨l.set (so+2) (.slice (some ⟨G,0,none⟩) F.length I),⟨some ⟨G,0,none⟩,I,⟨Z.1.setCell (so+2) _,by rw[aj _ _ _ _ (by omega)];exact Z.2.1,by rw[aj _ _ _ _ (by omega)];exact Z.2.2.1,aN _ _ _ _ Z.2.2.2⟩,o3,o4,rfl,.inr ⟨G,l',rfl,V,o1.iF _ _ V,o2,o5,o6⟩⟩,iH.set _ _ _ _ _ (by omega) (by omega)⟩,⟨?_,?_,?_,?_,?_⟩,?_⟩
 ·exact U.os.trans O.os
 ·exact U.tape.trans O.tape
 ·exact U.output.trans O.output
 ·have:=U.size;show w.heap.size<=(w'.heap.modify _ _).size;simp;omega
 ·intro k X h2 hr;rw[wz _ _ _ _ h2,U.block k (by omega) hr,O.block k X]
 ·rcases o8 with h|h
  ·exact .inl h
  ·exact .inr (by omega)
theorem oU(sp so lo hi:Nat)(base:Option Addr)(c:Nat)(most:Int)(fl:Nat)(rs:List (Nat×Nat))(l:List Value)(w W6:World)(hS:Rg.Sorted rs)(hn:rs.length<=1000000)(U:lo<=hi)(hs:jh w sp so l most fl base rs.length c)(R:fP w sp base c rs)(hc:rs.length<=c)(h0:c<=9223372036854775807)(X:Below w.heap.size w W6)(F:World)(O:F.heap=(W6.alloc (.cells #[.int .u64 ((Rg.yS lo hi rs).1:Int),.int .u64 ((Rg.yS lo hi rs).2:Int)] 170)).heap)(h8:F.os=W6.os)(ha:F.tape=W6.tape)(h9:F.output=W6.output):
  Calls prog 224 #[.slice base rs.length c,.int .i64 (Rg.gB lo rs:Nat),.int .i64 (Rg.end' hi rs:Nat),.slice (some ⟨W6.heap.size,0,none⟩) 1 1] F fun e w'=>
   ∃H V,e=.returned (.slice (some ⟨H,0,none⟩) (Rg.ins lo hi rs).length V)/\(Bc (w'.setCell ⟨sp,so+2,none⟩ (.slice (some ⟨H,0,none⟩) (Rg.ins lo hi rs).length V)) sp so l most fl (Rg.ins lo hi rs) (some H)/\Kept w (w'.setCell ⟨sp,so+2,none⟩ (.slice (some ⟨H,0,none⟩) (Rg.ins lo hi rs).length V)) sp (base.map (·.block))/\(some H=base.map (·.block)\/w.heap.size<=H))
    /\F.grownBy w' (base.map (·.block)):=by
 have V8:=Rg.qM U hS;have h7:=Rg.vI hi rs;have hsz:=X.size;have hf:=hs.1.lt
 have he:ak F W6.heap.size 170 [.int .u64 ((Rg.yS lo hi rs).1:Int),.int .u64 ((Rg.yS lo hi rs).2:Int)]:=
  (ak.new W6 170 _).of_heap (by rw[O])
 have Z:Below w.heap.size w F:=⟨h8.trans X.os,ha.trans X.tape,h9.trans X.output,by rw[O];simp;omega,fun k hk=>by rw[O,qaa _ _ _ (by omega)];exact X.block k hk⟩
 have I:Rg.gB lo rs+1+(rs.length-Rg.end' hi rs)=(Rg.ins lo hi rs).length:=by
  rw[Rg.AU rs lo hi U hS];simp;omega
 have G:St.aC (Rg.ins lo hi rs)=(St.aC rs).take (2*Rg.gB lo rs)++[.int .u64 ((Rg.yS lo hi rs).1:Int),.int .u64 ((Rg.yS lo hi rs).2:Int)]++(St.aC rs).drop (2*Rg.end' hi rs):=by
  rw[Rg.AU rs lo hi U hS,St.f_,St.uJ,St.uK];simp[St.aC]
 refine(C9 base rs.length c (Rg.gB lo rs) (Rg.end' hi rs) W6.heap.size (St.aC rs) [.int .u64 ((Rg.yS lo hi rs).1:Int),.int .u64 ((Rg.yS lo hi rs).2:Int)] F V8 h7 hc h0 hn ?_ he rfl ?_).mono ?_
 ·rcases R with⟨rfl,rfl,rfl⟩|⟨b,l,h1,h2,h3,h4,h5,h6⟩
  ·exact .inl ⟨rfl,rfl,rfl,rfl⟩
  ·have:=h3.lt;exact .inr ⟨b,l,h1,h3.of_heap (Z.block b h3.lt),h4,h5.symm,by omega,h6⟩
 ·intro v hv;simp at hv
  rcases hv with rfl|rfl<;>rfl
 ·rintro e w' ⟨H,V,l',rfl,o1,o2,o3,o4,o5,o6,o7,o8⟩;rw[I]at o3 o5;rw[I];exact⟨H,V,rfl,Ga hs R Z o1 o2 o3 o4 (by rw[o5,G]) o6 o7 o8,o7⟩
theorem uP{w W6:World}{sp so:Nat}{l:List Value}{base:Option Addr}{c n:Nat}{most:Int}{fl:Nat}{a b:Int}(hs:jh w sp so l most fl base n c)(F:∀k,base.map (·.block)=some k->k≠sp/\k<w.heap.size)(hE:Below w.heap.size w W6)(h1:ak W6 w.heap.size 273 [.pointer (some ⟨sp,so,none⟩)])(O:ak W6 (w.heap.size+1) 170 [.int .u64 a,.int .u64 b]):
  W6.cell? ⟨w.heap.size,0,none⟩=some (.pointer (some ⟨sp,so,none⟩))/\W6.cell? ⟨w.heap.size+1,0,none⟩=some (.int .u64 a)/\W6.cell? ⟨w.heap.size+1,1,none⟩=some (.int .u64 b)/\
  W6.cell? ⟨sp,so+2,none⟩=some (.slice base n c)/\sp<W6.heap.size/\w.heap.size<W6.heap.size/\w.heap.size+1<W6.heap.size/\
  (∀(H w':World) (o:Obj),H.heap=(W6.alloc o).heap->H.grownBy w' (base.map (·.block))->(w'.cell? ⟨w.heap.size,0,none⟩=some (.pointer (some ⟨sp,so,none⟩))/\w'.cell? ⟨w.heap.size+1,0,none⟩=some (.int .u64 a)/\w'.cell? ⟨w.heap.size+1,1,none⟩=some (.int .u64 b))/\w'.cell? ⟨sp,so+2,none⟩=some (.slice base n c)/\w'.frozen? ⟨sp,so+2,none⟩=false):=by
 have G:jh W6 sp so l most fl base n c:=hs.of (hE.block sp hs.1.lt);have l1:=h1.lt;have l2:=O.lt;have Z:=G.1.lt;have l4:=hs.1.lt;refine⟨h1.cell 0,O.cell 0,O.cell 1,G.jy,Z,l1,l2,?_⟩;intro H w' o I U
 have e:∀k,k<W6.heap.size->H.heap[k]?=W6.heap[k]?:=fun k hk=>by rw[I,qaa _ _ _ hk]
 have sz:W6.heap.size<=H.heap.size:=by rw[I];simp
 have a1:ak w' w.heap.size 273 _:=(h1.of_heap (e _ l1)).of_heap (U.block _ (by omega) (fun h=>by have:=(F _ h.symm).2;omega));have V:jh w' sp so l most fl base n c:=(G.of (e _ Z)).of (U.block _ (by omega) (fun h=>(F _ h.symm).1 rfl));have X:ak w' (w.heap.size+1) 170 _:=(O.of_heap (e _ l2)).of_heap (U.block _ (by omega) (fun h=>by have:=(F _ h.symm).2;omega));exact⟨⟨a1.cell 0,X.cell 0,X.cell 1⟩,V.jy,V.1.frozen (so+2)⟩
theorem Nv(sp so v:Nat)(base:Option Addr)(c:Nat)(most:Int)(fl:Nat)(rs:List (Nat×Nat))(l:List Value)(w:World)(hS:Rg.Sorted rs)(hn:rs.length<=1000000)(hs:jh w sp so l most fl base rs.length c)(R:fP w sp base c rs):
  Calls prog 128 #[.pointer (some ⟨sp,so,none⟩),.int .u64 v] w fun e w'=>e=.returned (.bool (decide (v<fl)||Rg.has v rs))/\Below w.heap.size w w':=by
 obtain⟨W,hW⟩:∃W,W=(w.alloc (.cells #[.pointer (some ⟨sp,so,none⟩)] 273)).alloc (.cells #[.int .u64 v] 43):=⟨_,rfl⟩
 have U:ak W w.heap.size 273 [.pointer (some ⟨sp,so,none⟩)]:=by rw[hW];exact(ak.new w 273 _).alloc _
 have O:ak W (w.heap.size+1) 43 [.int .u64 v]:=by
  rw[hW];have:=ak.new (w.alloc (.cells #[.pointer (some ⟨sp,so,none⟩)] 273)) 43 [.int .u64 v];rwa[World.size_alloc]at this
 have hE:Below w.heap.size w W:=by rw[hW];exact((qah _ w).alloc (jK _) _).alloc (by simp) _
 have H:jh W sp so l most fl base rs.length c:=hs.of (hE.block sp hs.1.lt);have RW:fP W sp base c rs:=R.of_heap (fun b hb=>hE.block b (jP R b (by rw[hb];rfl)).2);have s1:=Nu w.heap.size (w.heap.size+1) sp so v base c rs W hS hn (U.cell 0) (O.cell 0) (H.jy) RW;have h5:w.cell? ⟨sp,so+2,none⟩=some (.slice base rs.length c):=hs.jy;have h6:sp<w.heap.size:=hs.1.lt;have G:=hid (show Rg.has v rs=(decide (rs.countP (fun r=>decide (r.2<v))<rs.length)&&decide ((rs.getD (rs.countP (fun r=>decide (r.2<v))) (0,0)).1<=v))from rfl);have h4:rs.countP (fun r=>decide (r.2<v))<=rs.length:=List.countP_le_length;generalize rs.countP (fun r=>decide (r.2<v))=I at s1 G h4;have k0:W.cell? ⟨w.heap.size,0,none⟩=some (.pointer (some ⟨sp,so,none⟩)):=U.cell 0;have k1:W.cell? ⟨w.heap.size+1,0,none⟩=some (.int .u64 v):=O.cell 0;have k2:W.cell? ⟨sp,so+1,none⟩=some (.int .u64 fl):=H.cell1;have k3:W.cell? ⟨sp,so+2,none⟩=some (.slice base rs.length c):=H.jy;have qI:=hid s1;have X:=hid hE;have h0:=hid (And.intro k0 (And.intro k1 (And.intro k2 k3)));have HR:=hid RW;clear s1 hE RW U O H hs k0 k1 k2 k3 R;subst hW;go_enter func128,ntmps128
 go_wp2_with fail
 refine qI.out.mono ?_;rintro e w' ⟨rfl,q1,rfl⟩
 go_wp2_with fail
 generalize V:((w.alloc (.cells #[.pointer (some ⟨sp,so,none⟩)] 273)).alloc (.cells #[.int .u64 v] 43)).drewN q1=Z;obtain⟨k0,k1,k2,k3⟩:=h0.out
 have F:Hid (Below w.heap.size w Z):=by rw[<-V];exact⟨X.out.os,X.out.tape,X.out.output,X.out.size,X.out.block⟩
 have j0:Z.cell? ⟨w.heap.size,0,none⟩=some (.pointer (some ⟨sp,so,none⟩)):=by rw[<-V];exact k0
 have j1:Z.cell? ⟨w.heap.size+1,0,none⟩=some (.int .u64 v):=by rw[<-V];exact k1
 have j2:Z.cell? ⟨sp,so+1,none⟩=some (.int .u64 fl):=by rw[<-V];exact k2
 have j3:Z.cell? ⟨sp,so+2,none⟩=some (.slice base rs.length c):=by rw[<-V];exact k3
 have h3:Hid (fP Z sp base c rs):=by rw[<-V];exact fP.of_heap HR.out (fun _ _=>rfl)
 clear V h0 k0 k1 k2 k3 qI HR X h5
 by_cases h1:v<fl
 ·have g1:(v:Int)<(fl:Int):=by omega
  have HF:=hid h1;clear h1
  go_quiet (fail)
  go_wp2;go_ret;exact⟨St.aP (by simp[HF.out]),F.out.os,F.out.tape,F.out.output,F.out.size,F.out.block⟩
 ·have g1:decide ((v:Int)<(fl:Int))=false:=by simp;omega
  by_cases h2:I<rs.length
  ·have g3:(I:Int)<((rs.length:Nat):Int):=by omega
   obtain⟨b,hb,_,_,_,k4⟩:=h3.out.ku h2;subst hb;generalize (rs.getD I (0,0)).1=x at k4 G
   go_quiet (fail)
   go_wp2;go_ret;exact⟨St.aP (by rw[G.out];simp[h1,h2]),F.out.os,F.out.tape,F.out.output,F.out.size,F.out.block⟩
  ·have g2:decide ((I:Int)<((rs.length:Nat):Int))=false:=by simp;omega
   go_quiet (fail)
   go_wp2;go_ret;exact⟨St.aP (by rw[G.out];simp[h1,h2]),F.out.os,F.out.tape,F.out.output,F.out.size,F.out.block⟩
end Go.Proofs.YtphbledmopchnaaGreatDoor.Sd
