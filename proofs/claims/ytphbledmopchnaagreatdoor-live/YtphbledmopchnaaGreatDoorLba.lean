import Derived.Test.YtphbledmopchnaaGreatDoorLad
import Derived.Test.YtphbledmopchnaaGreatDoorLae
import Derived.Deep.CutRange
import Derived.Deep.RegionHeld3
import Derived.Defers
import Derived.Laws.IdiomStrings
import Derived.Maps.RangeWalk
import Derived.Recover
open Go.RowKit.Below renaming heap_setCell->mY,heap_alloc->CZ,refl->Fe
open Bool renaming and_eq_true->rX,false_eq_true->Bf
open Go.Builtin renaming max_->sF,min_->tK,max2->Es,min2->Ev
open Int renaming natCast_nonneg->Bu,toNat_natCast->Cr,le_of_lt->Ew
open List renaming getD_eq_getElem?_getD->eT,prefix_refl->lg,replicate->mI,getElem?_drop->mK,getElem?_eq_some_iff->mR,foldlM_cons->nI,length_drop->nP,length_take->nU,getElem?_eq_none->og,foldlM_nil->o8,length_append->qx,getElem?_append_left->qy,range->qA,getElem?_take_of_lt->tL,take->wz,getElem?_set_ne->xB,getD_cons_succ->yP,countP_congr->CP,sum_cons->Em
open Nat renaming le_refl->eB,le_trans->j3,lt_of_lt_of_le->mE,le_add_right->nV,le_of_not_lt->DU,min_eq_left->Ea,le_of_lt->EF
open Option renaming map_eq_some_iff->nA
open Prod renaming fst->tO
open Go.Sem renaming run_bind->tT,run_pure->uj
set_option maxHeartbeats 2000000
set_option maxRecDepth 100000
namespace Go.Proofs.YtphbledmopchnaaGreatDoor.Sd
open St Tryz
def md{α:Type}:List α->Nat->(α->α)->List α
 |[],_,_=>[]
 |a::t,0,f=>f a::t
 |a::t,k+1,f=>a::md t k f
theorem iP{α:Type}:∀(l:List α) (k:Nat) (f:α->α),(md l k f).length=l.length
 |[],_,_=>rfl
 |_::_,0,_=>rfl
 |_::t,k+1,f=>congrArg (·+1) (iP t k f)
theorem FZ{α:Type}(d:α):∀(l:List α) (k:Nat) (f:α->α),k<l.length->(md l k f).getD k d=f (l.getD k d)
 |[],_,_,h=>by simp at h
 |_::_,0,_,_=>rfl
 |_::t,k+1,f,h=>by simpa[md]using FZ d t k f (by simpa using h)
theorem Tw{α:Type}(d:α):∀(l:List α) (k j:Nat) (f:α->α),j≠k->(md l k f).getD j d=l.getD j d
 |[],_,_,_,_=>rfl
 |_::_,0,0,_,h=>absurd rfl h
 |_::_,0,j+1,_,_=>rfl
 |_::_,k+1,0,_,_=>rfl
 |_::t,k+1,j+1,f,h=>by simpa[md]using Tw d t k j f aj
def UT:Nat:=18446744073709551615
structure Gn where
 ahead:Nat
 dW:Nat
 cK:Nat
 aM:Nat
def Gn.new(n:Nat):Gn:=⟨n,n,0,n⟩
def Gn.iB(g:Gn)(aQ:Nat):Nat:=min (aQ+g.ahead) dK
def Gn.aK(g:Gn)(aQ:Nat):Bool:=decide (max g.cK g.aM<g.iB aQ)
def Gn.aw(g:Gn)(x:Nat):Gn:={g with cK:=max g.cK x}
def Gn.cm(g:Gn)(x:Nat):Gn:={g with aM:=max g.aM x}
def Gn.j5(g:Gn):Gn:={g with cK:=0}
def jO(aC:Int)(k:Nat)(x:Nat):Fr:=⟨aC,(k:Int),0,0,x,false,0,0,⟨#[]⟩,[]⟩
def Gn.next(g:Gn)(aC:Int)(k:Nat)(aQ:Nat)(au:Int):Option (Fr×Gn):=
 if au<((bD (jO aC k (g.iB aQ))).length:Int)then none
 else some (jO aC k (g.iB aQ),({g with dW:=g.iB aQ}:Gn).aw (g.iB aQ))
structure Nt where
 bX:Bool
 aD:Nat
 cK:Nat
 aM:Nat
def Nt.aK(n:Nt)(r:Nat):Bool:=n.bX&&decide (r<min n.cK n.aM)
def Nt.aw(n:Nt)(x:Nat):Nt:={n with cK:=min n.cK x}
def Nt.cm(n:Nt)(x:Nat):Nt:={n with aM:=min n.aM x}
def Nt.j5(n:Nt):Nt:={n with cK:=UT}
def qdc(k o r:Nat):Fr:=⟨3,(k:Int),o,r,0,false,0,0,⟨#[]⟩,[]⟩
def Nt.next(n:Nt)(k r:Nat)(au:Int):Option (Fr×Nt):=
 if au<((bD (qdc k n.aD r)).length:Int)then none else some (qdc k n.aD r,n.aw r)
structure NS where
 fl:Nat
 rs:bW
def NS.add(bf:Nat)(s:NS)(lo hi:Nat):NS:=⟨(Rg.add bf s.fl s.rs lo hi).1,(Rg.add bf s.fl s.rs lo hi).2⟩
def NS.has(s:NS)(n:Nat):Bool:=decide (n<s.fl)||Rg.has n s.rs
def gL:Nat->bW->Nat->Nat×Nat
 |lo,[],e=>(lo,e)
 |lo,r::t,e=>if lo<r.1 then(lo,min r.1 e)else if e<=r.2 then(e,e)else gL (r.2+1) t e
def NS.hole(s:NS)(e:Nat):Nat×Nat:=gL s.fl s.rs e
structure Ot where
 ay:List UInt8
 bn:Bool
 nt:Nt
 aL:Nat
 dw:Nat
 cK:NS
 aM:NS
def Ot.new(aL:Nat):Ot:=⟨[],false,⟨false,0,0,0⟩,aL,0,⟨0,[]⟩,⟨0,[]⟩⟩
def Ot.closed(o:Ot):Bool:=o.bn||o.nt.bX
def Ot.send(o:Ot)(b:List UInt8):Ot×Nat:=
 if o.closed then(o,4)else if 2048<o.ay.length+b.length then(o,3)else({o with ay:=o.ay++b},0)
def Ot.finish(o:Ot):Ot×Nat:=if o.closed then(o,4)else({o with bn:=true},0)
def Ot.reach(o:Ot)(aN:Nat):Nat:=min (min o.ay.length o.aL) (o.dw+aN)
def Ot.fO(o:Ot)(e:Nat):Bool:=o.bn&& !o.nt.bX&&decide (e=o.ay.length)
def Ot.b_(o:Ot)(aN:Nat):Nat×Nat:=
 o.cK.hole (if o.fO (o.reach aN)then o.reach aN+1 else o.reach aN)
def Ot.aK(o:Ot)(aN:Nat):Bool:=decide ((o.b_ aN).1<(o.b_ aN).2)
def bC(f:Fr):Nat:=f.aD+f.data.size
def rU(s:NS)(f:Fr):NS:=s.add 2049 f.aD (if f.bn then bC f else bC f-1)
def Ot.aw(o:Ot)(f:Fr):Ot:={o with cK:=rU o.cK f}
def Ot.cm(o:Ot)(f:Fr):Ot:={o with aM:=rU o.aM f,cK:=rU o.cK f}
def Ot.j5(o:Ot):Ot:={o with cK:=o.aM}
def mZ(f:Fr)(b:List UInt8)(au:Int):Option Fr:=
 if au<((bD f).length:Int)then none
 else
  let r:=(au-((bD f).length:Int)).toNat
  let n:=min b.length r
  some {f with data:=⟨(b.take (min n (r-((Num.ay n).length-1)))).toArray⟩}
def nD(k lo:Nat):Fr:=⟨4,(k:Int),lo,0,0,false,0,0,⟨#[]⟩,[]⟩
def Ot.next(o:Ot)(k:Nat)(au:Int)(aN:Nat):Option (Fr×Ot):=
 let lo:=(o.b_ aN).1
 let hi:=min (o.b_ aN).2 o.ay.length
 match mZ (nD k lo) ((o.ay.take hi).drop lo) au with
 |none=>none
 |some f=>
  if lo<hi/\f.data.size=0 then none
  else
   let g:Fr:={f with bn:=o.fO (bC f)}
   some (g,({o with dw:=max o.dw (bC f)}:Ot).aw g)
structure eH where
 gr:Gn
 aR:Nat
 bU:List UInt8
 aM:List Bool
 fF:Nat
 bM:Bool
 fU:Nat
 bX:Bool
 rel:Nat
 state:Nat
def eH.new(n:Nat):eH:=⟨Gn.new n,0,[],[],0,false,0,false,0,0⟩
def eH.aQ(i:eH):Nat:=if i.state=2 then i.fU else i.aR
def eH.wanted(i:eH):Nat:=if i.bX then i.rel else if i.bM then i.fU else dK
def eH.refuse(i:eH)(f:Fr):Nat:=
 if i.bM/\i.fU<bC f\/i.bM/\f.bn/\bC f≠i.fU\/f.bn/\bC f<i.fF then 10 else if i.gr.dW<bC f then 9 else 0
def dS:List UInt8->Nat->List UInt8->List Bool->List UInt8×List Bool
 |[],_,h,c=>(h,c)
 |x::t,i,h,c=>if c.getD i false then dS t (i+1) h c else dS t (i+1) (h.set i x) (c.set i true)
def eH.hold(i:eH)(off:Nat)(d:List UInt8):eH:=
 let more:=off-i.aR+d.length-i.bU.length
 let x:=dS d (off-i.aR) (i.bU++mI more 0) (i.aM++mI more false)
 {i with bU:=x.1,aM:=x.2}
def eH.take(i:eH)(f:Fr):eH:=
 let i1:eH:={i with fF:=max i.fF (bC f),bM:=i.bM||f.bn,fU:=if f.bn then bC f else i.fU}
 let lo:=max f.aD i1.aR
 let hi:=min (bC f) i1.wanted
 if lo<hi then i1.hold lo ((f.data.data.toList.take (hi-f.aD)).drop (lo-f.aD))else i1
def eH.NT(i:eH)(f:Fr):Nat:=if i.bM/\i.fU≠f.aD\/f.aD<i.fF then 10 else 0
def eH.iN(i:eH)(f:Fr):eH:=
 let r:=min i.wanted f.aV
 let n:=min i.bU.length (r-min r i.aR)
 {i with rel:=r,bX:=true,bM:=true,fU:=f.aD,bU:=i.bU.take n,aM:=i.aM.take n}
def eH.ready(i:eH):Nat:=(i.aM.takeWhile id).length
def eH.cut(i:eH)(n:Nat):eH:={i with bU:=i.bU.drop n,aM:=i.aM.drop n,aR:=i.aR+n}
def eH.h_(i:eH):Nat:=if i.bM=false\/i.aR<i.wanted then 0 else if i.bX then 2 else 1
def eH.rd(i:eH)(bf:Int):List UInt8×eH:=
 let n:=min i.ready (max bf 0).toNat
 let j:=i.cut n
 (i.bU.take n,{j with state:=if j.state=0 then j.h_ else j.state})
def eH.dh(i:eH):Bool:= !(i.bM&&decide (i.wanted<=i.fF))&&i.gr.aK i.aQ
structure pz where
 bI:List Fr
 bE:Nat
def rV:Ot:=Ot.new 0
def sK:eH:=eH.new 0
structure av where
 bG:Nat
 aO:Nat
 aX:Nat
 bE:Nat
 outs:List Ot
 ins:List eH
 aL:Nat
 gr:Gn
 aM:NS
 aT:Bool
 next:Nat
 aJ:List (Nat×pz)
 bP:List (Nat×pz)
 named:Nat
 fq:List Fr
 least:Nat
 msgs:List (Nat×ByteArray)
 w9:Nat
 taken:List Nat
 mJ:Nat
 parted:Bool
def av.new(bG aO aX:Nat):av:=
 ⟨bG,aO,aX,0,mI 8 (Ot.new aO),mI 8 (eH.new aO),aX,Gn.new aX,⟨0,[]⟩,false,0,[],[],0,[],0,[],0,[],0,false⟩
def av.out(M:av)(k:Nat):Ot:=M.outs.getD k rV
def av.bF(M:av)(k:Nat):eH:=M.ins.getD k sK
def av.dD(M:av)(k:Nat)(o:Ot):av:={M with outs:=md M.outs k fun _=>o}
def av.eG(M:av)(k:Nat)(i:eH):av:={M with ins:=md M.ins k fun _=>i}
def av.aQ(M:av):Nat:=M.ins.foldl (fun s i=>min (s+i.aQ) dK) 0
def av.l9(M:av):Nat:=(M.outs.map Ot.dw).sum
def av.aN(M:av):Nat:=M.aL-M.l9
def av.full(M:av):Bool:=decide (12<=M.aJ.length)
def av.n_(M:av):Nat:=match M.fq with
 |[]=>0
 |f::_=>(bD f).length
def gH(rs:bW):Fr:=⟨2,0,0,0,0,false,0,0,⟨#[]⟩,rs⟩
def fA(aF:bW)(au:Int):Nat->Nat
 |0=>0
 |n+1=>if((bD (gH (aF.take (n+1)))).length:Int)<=au then n+1 else fA aF au n
def av.aK(M:av)(aF:bW)(u:Nat):Bool:=
 if u=0 then decide (0<aF.length)
 else !M.full&&(if u=8 then M.gr.aK M.aQ else if u<24 then(M.bF (u-16)).dh else if u<32 then(M.out (u-24)).nt.aK (M.out (u-24)).ay.length
  else if u=32 then decide (0<M.fq.length)else(M.out (u-40)).aK M.aN)
def av.frame(M:av)(aF:bW)(u:Nat)(au:Int):Option (Fr×av×bW):=
 if u=0 then
  (if fA aF au aF.length=0 then none else some (gH (aF.take (fA aF au aF.length)),M,aF.drop (fA aF au aF.length)))
 else if u=8 then(M.gr.next 5 0 M.aQ (au-M.n_)).map fun x=>(x.1,{M with gr:=x.2},aF)
 else if u<24 then((M.bF (u-16)).gr.next 6 (u-16) (M.bF (u-16)).aQ (au-M.n_)).map fun x=>(x.1,M.eG (u-16) {M.bF (u-16)with gr:=x.2},aF)
 else if u<32 then((M.out (u-24)).nt.next (u-24) (M.out (u-24)).ay.length (au-M.n_)).map fun x=>(x.1,M.dD (u-24) {M.out (u-24)with nt:=x.2},aF)
 else if u=32 then(if au<M.n_ then none else M.fq.head?.map fun f=>(f,{M with fq:=M.fq.tail},aF))
 else((M.out (u-40)).next (u-40) au M.aN).map fun x=>(x.1,M.dD (u-40) x.2,aF)
def jr(u:Nat):Bool:=decide (8<=u)&&decide (u<32)
def sw(l:List Nat)(i j:Nat):List Nat:=(l.set i (l.getD j 0)).set j (l.getD i 0)
def Ar:Nat->List Nat->Nat->List Nat
 |0,l,_=>l
 |n+1,l,j=>if j=0\/¬l.getD j 0<l.getD ((j-1) / 2) 0 then l else Ar n (sw l ((j-1) / 2) j) ((j-1) / 2)
def jK:Nat->List Nat->Nat->Nat->List Nat
 |0,l,_,_=>l
 |k+1,l,i,n=>
  if n<=2*i+1 then l
  else
   let j:=if 2*i+2<n/\l.getD (2*i+2) 0<l.getD (2*i+1) 0 then 2*i+2 else 2*i+1
   if l.getD j 0<l.getD i 0 then jK k (sw l i j) j n else l
def dZ(l:List Nat)(u:Nat):List Nat:=Ar (l.length+1) (l++[u]) l.length
def j6(l:List Nat):List Nat:=(jK l.length (sw l 0 (l.length-1)) 0 (l.length-1)).take (l.length-1)
def q0:List Nat:=dZ ((qA 8).foldl (fun q k=>dZ (dZ (dZ q (16+k)) (24+k)) (40+k)) (dZ (dZ [] 0) 8)) 32
def fD:Nat->av->bW->List Nat->List Nat->Int->List Fr->av×bW×List Nat×List Fr
 |0,M,aF,Q,later,_,l=>(M,aF,later.foldl dZ Q,l)
 |n+1,M,aF,Q,later,au,l=>match Q with
  |[]=>(M,aF,later.foldl dZ Q,l)
  |u::_=>
   if M.aK aF u then
    match M.frame aF u au with
    |some (f,M',cu)=>fD n M' cu Q later (au-((bD f).length:Int)) (l++[f])
    |none=>if jr u then fD n M aF (j6 Q) (later++[u]) au l else(M,aF,later.foldl dZ Q,l)
   else fD n M aF (j6 Q) later au l
def fill(M:av)(aF:bW)(Q:List Nat)(au:Int):av×bW×List Nat×List Fr:=
 fD (Q.length+au.toNat+1) M aF Q [] au []
def eO(fs:List Fr):Bool:=fs.any fun f=>decide (f.aC≠2)
def again(fs:List Fr):List Fr:=fs.filter fun f=> !(decide (f.aC=2)||decide (f.aC=7)||decide (f.aC=8))
def av.au(M:av):Int:=(M.bG:Int)-((Num.ay M.next).length:Int)-4
def av.dz(M:av)(fs:List Fr):av:=
 {M with next:=M.next+1,aJ:=if eO fs then M.aJ++[(M.next,⟨again fs,M.bE⟩)]else M.aJ}
def fQ:Nat->av->bW->List Nat->List (Nat×List Fr)->av×List (Nat×List Fr)
 |0,M,_,_,l=>(M,l)
 |n+1,M,aF,Q,l=>
  if(fill M aF Q M.au).2.2.2=[]then((fill M aF Q M.au).1,l)
  else fQ n ((fill M aF Q M.au).1.dz (fill M aF Q M.au).2.2.2) (fill M aF Q M.au).2.1 (fill M aF Q M.au).2.2.1 (l++[(M.next,(fill M aF Q M.au).2.2.2)])
def av.eP(M:av)(f:Fr):av:=
 if f.aC=4 then M.dD f.aH.toNat ((M.out f.aH.toNat).aw f)
 else if f.aC=3 then M.dD f.aH.toNat {M.out f.aH.toNat with nt:=(M.out f.aH.toNat).nt.aw f.aV}
 else if f.aC=6 then M.eG f.aH.toNat {M.bF f.aH.toNat with gr:=(M.bF f.aH.toNat).gr.aw f.aL}
 else{M with gr:=M.gr.aw f.aL}
def av.dx(M:av)(f:Fr):av:=
 if f.aC=4 then M.dD f.aH.toNat ((M.out f.aH.toNat).cm f)
 else if f.aC=3 then M.dD f.aH.toNat {M.out f.aH.toNat with nt:=(M.out f.aH.toNat).nt.cm f.aV}
 else if f.aC=6 then M.eG f.aH.toNat {M.bF f.aH.toNat with gr:=(M.bF f.aH.toNat).gr.cm f.aL}
 else{M with gr:=M.gr.cm f.aL}
def jh(o:Ot):Ot:={o.j5 with nt:=o.nt.j5}
def iC(i:eH):eH:={i with gr:=i.gr.j5}
def bI(l:List (Nat×pz)):List Fr:=l.flatMap fun x=>x.2.bI
def av.gF(M:av)(x:Nat×pz):Bool:=decide (6<=M.bE-x.2.bE)||decide (x.1+3<M.named)
def av.j5(M:av):av:=
 if M.aJ.any M.gF then
  (bI (M.aJ.filter fun x=> !M.gF x)).foldl av.eP
   {M with
    aJ:=M.aJ.filter fun x=> !M.gF x
    bP:=(M.bP++M.aJ.filter M.gF).filter fun x=> !decide (x.1+64<M.next)
    gr:=M.gr.j5
    outs:=M.outs.map jh
    ins:=M.ins.map iC}
 else M
def names(l:bW)(n:Nat):Bool:=l.any fun r=>decide (r.1<=n)&&decide (n<=r.2)
def av.land(M:av)(l:bW):av:=
 (bI (M.aJ.filter (fun x=>names l x.1))++bI (M.bP.filter (fun x=>names l x.1))).foldl av.dx
  {M with
   named:=max M.named ((l.getD 0 (0,0)).2+1)
   aJ:=M.aJ.filter fun x=> !names l x.1
   bP:=M.bP.filter fun x=> !names l x.1}
def NU(x:Nat):Fr:=⟨8,0,0,0,x,false,0,0,⟨#[]⟩,[]⟩
def av.part(M:av):av×List (Nat×List Fr):=
 if M.parted\/M.mJ=13 then(M,[])
 else({M with parted:=true}.dz [NU (if M.mJ=12 then 0 else M.mJ)],[(M.next,[NU (if M.mJ=12 then 0 else M.mJ)])])
def av.Tx(M:av)(f:Fr):av:=
 if f.aW<M.bE\/f.id∈M.taken\/f.id+32<=M.w9 then M
 else{M with msgs:=M.msgs++[(f.id,f.data)],w9:=max M.w9 f.id,taken:=(f.id::M.taken).filter fun x=> !decide (x+32<=max M.w9 f.id)}
def av.tq(M:av)(k e:Nat):Nat:=((qA 8).map fun j=>max (M.bF j).fF (if j=k then e else 0)).sum
def av.take(M:av)(f:Fr):av×Nat:=
 if f.aC=2 then(if M.next<=(f.ranges.getD 0 (0,0)).2 then(M,11)else(M.land f.ranges,0))
 else if f.aC=4 then
  (if(M.bF f.aH.toNat).refuse f≠0 then(M,(M.bF f.aH.toNat).refuse f)
  else if M.gr.dW<M.tq f.aH.toNat (bC f)then(M,9)
  else(M.eG f.aH.toNat ((M.bF f.aH.toNat).take f),0))
 else if f.aC=3 then
  (if(M.bF f.aH.toNat).NT f≠0 then(M,(M.bF f.aH.toNat).NT f)else(M.eG f.aH.toNat ((M.bF f.aH.toNat).iN f),0))
 else if f.aC=8 then(M,13)
 else if f.aC=7 then(M.Tx f,0)
 else if f.aC=5 then({M with aL:=max M.aL f.aL},0)
 else if f.aC=6 then(M.dD f.aH.toNat {M.out f.aH.toNat with aL:=max (M.out f.aH.toNat).aL f.aL},0)
 else(M,0)
def av.iD(M:av):av:={M with bE:=M.bE+1,fq:=M.fq.filter fun f=> !decide (f.aW<M.bE+1)}
theorem NV{α:Type}:∀(l:List α) (k:Nat) (f:α->α),l.length<=k->md l k f=l
 |[],_,_,_=>rfl
 |_::_,0,_,h=>by simp at h
 |a::t,k+1,f,h=>congrArg (a::·) (NV t k f (by simpa using h))
theorem Tz{α:Type}(d:α)(g:α->Nat):∀(l:List α) (k:Nat) (f:α->α),k<l.length->((md l k f).map g).sum+g (l.getD k d)=(l.map g).sum+g (f (l.getD k d))
 |[],_,_,h=>by simp at h
 |a::t,0,f,_=>by simp[md];omega
 |a::t,k+1,f,h=>by have:=Tz d g t k f (by simpa using h);simp only[md,List.map_cons,Em,yP]at this ⊢;omega
theorem fB(M:av)(k j:Nat)(o:Ot):(M.dD k o).out j=if j=k/\k<M.outs.length then o else M.out j:=by
 unfold av.dD av.out;by_cases h:j=k
 ·subst h;by_cases a:j<M.outs.length;·rw[bK ⟨rfl,a⟩];exact FZ rV _ _ _ a
  ·rw[aU (fun x=>a x.2)];show(md M.outs j _).getD j rV=_;rw[NV _ _ _ aj]
 ·rw[aU (fun x=>h x.1)];exact Tw rV _ _ _ _ h
theorem dQ(M:av)(k j:Nat)(o:eH):(M.eG k o).bF j=if j=k/\k<M.ins.length then o else M.bF j:=by
 unfold av.eG av.bF;by_cases h:j=k
 ·subst h;by_cases a:j<M.ins.length;·rw[bK ⟨rfl,a⟩];exact FZ sK _ _ _ a
  ·rw[aU (fun x=>a x.2)];show(md M.ins j _).getD j sK=_;rw[NV _ _ _ aj]
 ·rw[aU (fun x=>h x.1)];exact Tw sK _ _ _ _ h
theorem vS(M:av)(k:Nat)(o:Ot)(h:k<M.outs.length):(M.dD k o).l9+(M.out k).dw=M.l9+o.dw:=
 Tz rV Ot.dw M.outs k (fun _=>o) h
theorem zM:∀(l:List Nat) (k:Nat),l.getD k 0<=l.sum
 |[],_=>aP
 |a::t,0=>aP
 |a::t,k+1=>by have:=zM t k;simp only[yP,Em];omega
structure Au (A A':av):Prop where
 dw:∀k,(A.out k).dw<=(A'.out k).dw
 pre:∀k,(A.out k).ay <+:(A'.out k).ay
 bn:∀k,(A.out k).bn=true->(A'.out k).bn=true/\(A'.out k).ay=(A.out k).ay
 TB:∀k,(A.bF k).gr.dW<=(A'.bF k).gr.dW
 dW:A.gr.dW<=A'.gr.dW
 next:A.next<=A'.next
theorem Au.refl(A:av):Au A A:=⟨fun _=>eB _,fun _=>lg _,fun _ h=>⟨h,rfl⟩,fun _=>eB _,eB _,eB _⟩
theorem Au.trans{A B C:av}(h:Au A B)(g:Au B C):Au A C:=
 ⟨fun k=>j3 (h.dw k) (g.dw k),fun k=>(h.pre k).trans (g.pre k),fun k e=>⟨(g.bn k (h.bn k e).1).1,(g.bn k (h.bn k e).1).2.trans (h.bn k e).2⟩,fun k=>j3 (h.TB k) (g.TB k),j3 h.dW g.dW,j3 h.next g.next⟩
structure IQ (o:Ot) (f:Fr):Prop where
 e:bC f<=o.dw
 b:bC f<=o.ay.length
 d:f.data.data.toList=(o.ay.take (bC f)).drop f.aD
 bn:f.bn=true->o.bn=true/\bC f=o.ay.length
 ne:f.bn=true\/0<bC f
def lJ(A B:av)(f:Fr):Prop:=
 (f.aC=2/\f.ranges≠[]/\(f.ranges.getD 0 (0,0)).2<B.next)\/(f.aC=4/\0<=f.aH/\f.aH<8/\IQ (A.out f.aH.toNat) f)\/(f.aC=5/\f.aL<=A.gr.dW)\/(f.aC=6/\0<=f.aH/\f.aH<8/\f.aL<=(A.bF f.aH.toNat).gr.dW)
theorem IQ.mono{o o':Ot}{f:Fr}(h:IQ o f)(hs:o.dw<=o'.dw)(hp:o.ay <+:o'.ay)(c:o.bn=true->o'.bn=true/\o'.ay=o.ay):IQ o' f:=by
 obtain⟨t,ht⟩:=hp;refine⟨j3 h.e hs,by rw[<-ht,qx];have:=h.b;omega,?_,fun e=>?_,h.ne⟩;·rw[h.d,<-ht,List.take_append_of_le_length h.b]
 ·obtain⟨a,b⟩:=h.bn e;exact⟨(c a).1,by rw[(c a).2];exact b⟩
theorem lJ.mono{A A' B B':av}{f:Fr}(h:lJ A B f)(c:Au A A')(hb:Au B B'):lJ A' B' f:=by
 rcases h with⟨h1,a,b⟩|⟨h1,a,b,h4⟩|⟨h1,a⟩|⟨h1,a,b,h4⟩;·exact .inl ⟨h1,a,mE b hb.next⟩
 ·exact .inr (.inl ⟨h1,a,b,h4.mono (c.dw _) (c.pre _) (c.bn _)⟩)
 ·exact .inr (.inr (.inl ⟨h1,j3 a c.dW⟩))
 ·exact .inr (.inr (.inr ⟨h1,a,b,j3 h4 (c.TB _)⟩))
structure Wri (o:Ot):Prop where
 sl:o.dw<=o.aL
 sb:o.dw<=o.ay.length
 bX:o.nt.bX=false
structure AX (o:Ot) (i:eH):Prop where
 iB:o.aL<=i.gr.dW
 fF:i.fF<=o.dw
 bM:i.bM=true->o.bn=true/\i.fU=o.ay.length
 bX:i.bX=false
 st:i.state=0\/i.state=1/\i.bM=true/\i.aR=o.ay.length
 len:i.aM.length=i.bU.length
 rd:i.aR<=o.ay.length
 got:∀j,i.aM.getD j false=true->o.ay[i.aR+j]?=some (i.bU.getD j 0)
theorem AX.aQ{o:Ot}{i:eH}(h:AX o i):i.aQ=i.aR:=by unfold eH.aQ;rw[aU];rcases h.st with e|⟨e,_⟩<;>omega
theorem AX.mono{o o':Ot}{i:eH}(h:AX o i)(hl:o'.aL=o.aL)(hs:o.dw<=o'.dw)(hp:o.ay <+:o'.ay)(c:o.bn=true->o'.bn=true/\o'.ay=o.ay):AX o' i:=by
 refine⟨by rw[hl];exact h.iB,j3 h.fF hs,fun e=>?_,h.bX,?_,h.len,j3 h.rd hp.length_le,fun j e=>?_⟩;·obtain⟨a,b⟩:=h.bM e;exact⟨(c a).1,by rw[(c a).2];exact b⟩
 ·rcases h.st with e|⟨f,d,k⟩;·exact .inl e
  ·exact .inr ⟨f,d,by rw[(c (h.bM d).1).2];exact k⟩
 ·obtain⟨t,ht⟩:=hp;have g:=h.got j e;rw[<-ht,qy];·exact g
  ·obtain⟨x,_⟩:=mR.1 g;exact x
structure fE (M:av):Prop where
 lo:M.outs.length=8
 li:M.ins.length=8
 wr:∀k,Wri (M.out k)
 sp:M.l9<=M.aL
 it:∀k,(M.bF k).gr.dW<=(M.bF k).gr.iB (M.bF k).aQ
 gt:M.gr.dW<=M.gr.iB M.aQ
 mJ:M.mJ=0
 q:M.fq=[]
structure dO (A B:av):Prop where
 rd:∀k,AX (A.out k) (B.bF k)
 iB:A.aL<=B.gr.dW
 aM:∀r∈B.aM.rs,r.2<A.next
structure tu (A B A':av):Prop where
 loc:fE A'
 ab:dO A' B
 ba:dO B A'
 le:Au A A'
theorem tu.trans{A B A' a:av}(h:tu A B A')(g:tu A' B a):tu A B a:=⟨g.loc,g.ab,g.ba,h.le.trans g.le⟩
theorem j_{A B:av}(a:fE A)(h1:dO A B)(c:dO B A)(k:Nat)(o:Ot)(g:Wri o)(hl:o.aL=(A.out k).aL)(hs:(A.out k).dw<=o.dw)(hp:(A.out k).ay <+:o.ay)(f:(A.out k).bn=true->o.bn=true/\o.ay=(A.out k).ay)(d:o.dw<=(A.out k).dw+A.aN):tu A B (A.dD k o):=by
 have b:∀j,(A.dD k o).out j=if j=k/\k<A.outs.length then o else A.out j:=fun j=>fB A k j o;refine⟨⟨(iP _ _ _).trans a.lo,a.li,fun j=>?_,?_,a.it,a.gt,a.mJ,a.q⟩,⟨fun j=>?_,h1.iB,h1.aM⟩,⟨c.rd,c.iB,c.aM⟩,⟨fun j=>?_,fun j=>?_,fun j=>?_,fun _=>eB _,eB _,eB _⟩⟩
 ·rw[b];split;·exact g
  ·exact a.wr j
 ·show(A.dD k o).l9<=A.aL;by_cases h:k<A.outs.length;·have e:=vS A k o h;have i:=a.sp;unfold av.aN at d;omega
  ·have:A.dD k o=A:=by unfold av.dD;rw[NV _ _ _ aj]
   rw[this];exact a.sp
 ·rw[b];split;·rename_i e;rw[e.1];exact(h1.rd k).mono hl hs hp f
  ·exact h1.rd j
 ·rw[b];split;·rename_i e;rw[e.1];exact hs
  ·exact eB _
 ·rw[b];split;·rename_i e;rw[e.1];exact hp
  ·exact lg _
 ·rw[b];split;·rename_i e;rw[e.1];exact f
  ·exact fun x=>⟨x,rfl⟩
theorem uI:∀(l l':List eH) (s c:Nat),s<=c->l.length=l'.length->(∀k,(l.getD k sK).aQ<=(l'.getD k sK).aQ)->l.foldl (fun s i=>min (s+i.aQ) dK) s<=l'.foldl (fun s i=>min (s+i.aQ) dK) c
 |[],[],s,c,h,_,_=>h
 |[],_::_,_,_,_,e,_=>by simp at e
 |_::_,[],_,_,_,e,_=>by simp at e
 |a::t,b::u,s,c,h,e,g=>by
  simp only[List.foldl_cons];refine uI t u _ _ ?_ (by simpa using e) fun k=>by simpa using g (k+1)
  have:=g 0;simp only[List.getD_cons_zero]at this;omega
theorem tC{A B:av}(a:fE A)(h1:dO A B)(c:dO B A)(k:Nat)(i:eH)(g:AX (B.out k) i)(ht:(A.bF k).gr.dW<=i.gr.dW)(d:(A.bF k).aQ<=i.aQ)(f:i.gr.dW<=i.gr.iB i.aQ):tu A B (A.eG k i):=by
 have b:∀j,(A.eG k i).bF j=if j=k/\k<A.ins.length then i else A.bF j:=fun j=>dQ A k j i;refine⟨⟨a.lo,(iP _ _ _).trans a.li,a.wr,a.sp,fun j=>?_,?_,a.mJ,a.q⟩,⟨h1.rd,h1.iB,h1.aM⟩,⟨fun j=>?_,c.iB,c.aM⟩,⟨fun _=>eB _,fun _=>lg _,fun _ e=>⟨e,rfl⟩,fun j=>?_,eB _,eB _⟩⟩
 ·rw[b];split;·exact f
  ·exact a.it j
 ·refine j3 a.gt ?_;show A.gr.iB A.aQ<=A.gr.iB (A.eG k i).aQ;have:A.aQ<=(A.eG k i).aQ:=uI _ _ 0 0 (eB _) (iP _ _ _).symm fun j=>by
   show(A.bF j).aQ<=((A.eG k i).bF j).aQ;rw[b];split;·rename_i e;rw[e.1];exact d
   ·exact eB _
  unfold Gn.iB;omega
 ·rw[b];split;·rename_i e;rw[e.1];exact g
  ·exact c.rd j
 ·rw[b];split;·rename_i e;rw[e.1];exact ht
  ·exact eB _
theorem IU{A B:av}(a:fE A)(h1:dO A B)(c:dO B A)(k:Nat)(b:List UInt8):tu A B (A.dD k ((A.out k).send b).1):=by
 have w:=a.wr k;unfold Ot.send;split;·exact j_ a h1 c k _ w rfl (eB _) (lg _) (fun e=>⟨e,rfl⟩) (nV _ _)
 ·rename_i d;split;·exact j_ a h1 c k _ w rfl (eB _) (lg _) (fun e=>⟨e,rfl⟩) (nV _ _)
  ·refine j_ a h1 c k _ ⟨w.sl,?_,w.bX⟩ rfl (eB _) (List.prefix_append _ _) (fun e=>?_) aP;·show(A.out k).dw<=((A.out k).ay++b).length;rw[qx];have:=w.sb;omega
   ·exact absurd (by unfold Ot.closed;rw[e];rfl) d
theorem BH{A B:av}(a:fE A)(h1:dO A B)(b:dO B A)(k:Nat):tu A B (A.dD k (A.out k).finish.1):=by
 have w:=a.wr k;unfold Ot.finish;split;·exact j_ a h1 b k _ w rfl (eB _) (lg _) (fun e=>⟨e,rfl⟩) (nV _ _)
 ·exact j_ a h1 b k _ ⟨w.sl,w.sb,w.bX⟩ rfl (eB _) (lg _) (fun _=>⟨rfl,rfl⟩) aP
theorem yQ{A B:av}(a:fE A)(h1:dO A B)(b:dO B A):tu A B A.iD:=
 ⟨⟨a.lo,a.li,a.wr,a.sp,a.it,a.gt,a.mJ,by show A.fq.filter _=[];rw[a.q];rfl⟩,⟨h1.rd,h1.iB,h1.aM⟩,⟨b.rd,b.iB,b.aM⟩,⟨fun _=>eB _,fun _=>lg _,fun _ e=>⟨e,rfl⟩,fun _=>eB _,eB _,eB _⟩⟩
theorem pR:∀(c:List Bool) (j:Nat),j<(c.takeWhile id).length->c.getD j false=true
 |[],j,h=>by simp at h
 |a::t,j,h=>by
  cases a;·simp at h
  ·cases j;·rfl
   ·simpa using pR t _ (by simpa using h)
theorem zN{o:Ot}{i:eH}(h:AX o i):i.aR+i.ready<=o.ay.length:=by
 by_cases hz:i.ready=0;·have:=h.rd;omega
 ·have g:=h.got (i.ready-1) (pR _ _ (by unfold eH.ready at *;omega));obtain⟨x,_⟩:=mR.1 g;omega
theorem BI{o:Ot}{i:eH}(h:AX o i):i.ready<=i.bU.length:=by rw[<-h.len];unfold eH.ready;exact(List.takeWhile_prefix _).length_le
theorem XW{o:Ot}{i:eH}(h:AX o i)(n:Nat)(c:n<=i.ready):i.bU.take n=(o.ay.drop i.aR).take n:=by
 have b:=BI h;have hb:=zN h;refine List.ext_getElem? fun j=>?_;by_cases a:j<n;·have g:=h.got j (pR _ _ (by unfold eH.ready at *;omega));rw[tL a,tL a,mK,g,eT];rw[List.getElem?_eq_getElem aj];rfl
 ·rw[og (by simp;omega),og (by simp;omega)]
theorem Z5{o:Ot}{i:eH}(h:AX o i)(bf:Int):AX o (i.rd bf).2/\(i.rd bf).2.gr=i.gr/\i.aQ<=(i.rd bf).2.aQ/\(i.rd bf).2.aR=i.aR+(i.rd bf).1.length/\(i.rd bf).1=(o.ay.drop i.aR).take (i.rd bf).1.length:=by
 have v:=BI h;have hb:=zN h;have k:min i.ready (max bf 0).toNat<=i.ready:=Nat.min_le_left _ _;have ht:=XW h _ k;obtain⟨n,c⟩:=bZ (min i.ready (max bf 0).toNat);unfold eH.rd;simp only[<-c]at k ht ⊢;have hl:(i.bU.take n).length=n:=by rw[nU];omega
 have d:AX o {i.cut n with state:=if(i.cut n).state=0 then(i.cut n).h_ else(i.cut n).state}:=by
  refine⟨h.iB,h.fF,h.bM,h.bX,?_,?_,?_,fun j e=>?_⟩
  ·show(if i.state=0 then(i.cut n).h_ else i.state)=0\/(if i.state=0 then(i.cut n).h_ else i.state)=1/\i.bM=true/\i.aR+n=o.ay.length;by_cases a:i.state=0
   ·rw[bK a];unfold eH.h_;split;·exact .inl rfl
    ·rename_i f;have q:(i.cut n).bX=false:=h.bX;rw[q,aU aP];have b:i.bM=true:=by
      cases t:i.bM;·exact absurd (Or.inl t) f
      ·rfl
     refine .inr ⟨rfl,b,?_⟩;have s:(i.cut n).wanted=i.fU:=by unfold eH.wanted;rw[show(i.cut n).bX=false from h.bX,show(i.cut n).bM=true from b];rfl
     have r:¬(i.cut n).aR<(i.cut n).wanted:=fun x=>f (Or.inr x);rw[s,(h.bM b).2,show(i.cut n).aR=i.aR+n from rfl]at r;omega
   ·rw[aU a];rcases h.st with e|⟨m,p,u⟩;·exact absurd e a
    ·exact .inr ⟨m,p,aj⟩
  ·show(i.aM.drop n).length=(i.bU.drop n).length;rw[nP,nP,h.len]
  ·show i.aR+n<=_;omega
  ·have l:i.aM.getD (n+j) false=true:=by
    have:(i.aM.drop n).getD j false=true:=e;rw[eT,mK]at this;rw[eT];exact this
   have g:=h.got _ l;show o.ay[i.aR+n+j]?=some ((i.bU.drop n).getD j 0);rw[Nat.add_assoc,g,eT,eT,mK]
 refine⟨d,rfl,?_,?_,?_⟩;·rw[d.aQ,h.aQ];exact nV _ _
 ·rw[hl];rfl
 ·rw[hl];exact ht
theorem BJ{A B:av}(b:fE A)(h1:dO A B)(a:dO B A)(k:Nat)(bf:Int):tu A B (A.eG k ((A.bF k).rd bf).2):=by obtain⟨r,g,fr,_,_⟩:=Z5 (a.rd k) bf;refine tC b h1 a k _ r (by rw[g];exact eB _) fr ?_;rw[g];refine j3 (b.it k) ?_;unfold Gn.iB;omega
theorem uJ:∀(l:bW) (lo e:Nat),(gL lo l e).2<=e
 |[],_,_=>eB _
 |r::t,lo,e=>by
  unfold gL;split;·exact Nat.min_le_right _ _
  ·split;·exact eB _
   ·exact uJ t _ e
theorem tF{f g:Fr}{b:List UInt8}{au:Int}(h:mZ f b au=some g):∃n,n<=b.length/\g={f with data:=⟨(b.take n).toArray⟩}:=by
 unfold mZ at h;split at h;·cases h
 ·refine⟨_,?_,(Option.some.inj h).symm⟩;omega
theorem uK{o o':Ot}{k:Nat}{au:Int}{aN:Nat}{f:Fr}(y:Wri o)(A:o.aK aN=true)(h:o.next k au aN=some (f,o')):f.aC=4/\f.aH=(k:Int)/\IQ o' f/\Wri o'/\o'.aL=o.aL/\o.dw<=o'.dw/\o'.dw<=o.dw+aN/\o'.ay=o.ay/\o'.bn=o.bn/\o'.nt=o.nt:=by
 have w:(o.b_ aN).1<(o.b_ aN).2:=of_decide_eq_true A;have p:(o.b_ aN).2<=(if o.fO (o.reach aN)then o.reach aN+1 else o.reach aN):=uJ _ _ _;have G:o.reach aN<=o.ay.length:=by unfold Ot.reach;omega
 have I:o.reach aN<=o.aL:=by unfold Ot.reach;omega
 have H:o.reach aN<=o.dw+aN:=by unfold Ot.reach;omega
 obtain⟨lo,v⟩:=bZ ((o.b_ aN).1);obtain⟨l,z⟩:=bZ ((o.b_ aN).2);unfold Ot.next at h;simp only[<-v,<-z]at h w p;have key:lo<=o.reach aN/\min l o.ay.length<=o.reach aN/\(min l o.ay.length<=lo->lo=o.ay.length/\o.fO (o.reach aN)=true/\o.reach aN=o.ay.length):=by
  by_cases q:o.fO (o.reach aN)=true
  ·rw[bK q]at p;have C:o.reach aN=o.ay.length:=by
    unfold Ot.fO at q;simp only[rX,decide_eq_true_eq]at q;exact q.2
   refine⟨aj,aj,fun h=>⟨aj,q,C⟩⟩
  ·rw[aU q]at p;refine⟨aj,aj,fun h=>aj⟩
 cases hF:mZ (nD k lo) ((o.ay.take (min l o.ay.length)).drop lo) au with
 |none=>rw[hF]at h;cases h
 |some g=>
  rw[hF]at h;simp only at h;split at h;·cases h
  ·rename_i x;obtain⟨n,J,t⟩:=tF hF;have s:=Option.some.inj h;have m:f={g with bn:=o.fO (bC g)}:=(congrArg tO s).symm;have d:o'=({o with dw:=max o.dw (bC g)}:Ot).aw f:=by rw[m];exact(congrArg Prod.snd s).symm
   have gQ:g.data.size=n:=by rw[t];show(wz n _).toArray.size=n;rw[List.size_toArray,nU];omega
   have D:((o.ay.take (min l o.ay.length)).drop lo).length=min l o.ay.length-lo:=by rw[nP,nU];omega
   have u:g.aD=lo:=by rw[t];rfl
   have r:bC g=lo+n:=by unfold bC;rw[gQ,u]
   have i:bC f=lo+n:=by rw[m];exact r
   have B:lo+n<=o.reach aN:=FN key.1 key.2.1;have hd:f.data.data.toList=(o.ay.take (lo+n)).drop lo:=by
    rw[m,t];show(wz n (List.drop lo (wz (min l o.ay.length) o.ay)))=_;rw[List.take_drop,List.take_take];congr 2
    omega
   have j:f.bn=o.fO (lo+n):=by rw[m];show o.fO (bC g)=_;rw[r]
   refine⟨by rw[m,t];rfl,by rw[m,t];rfl,⟨?_,?_,?_,fun e=>?_,?_⟩,⟨?_,?_,?_⟩,by rw[d];rfl,?_,?_,by rw[d];rfl,by rw[d];rfl,by rw[d];rfl⟩;·rw[i,d];show lo+n<=max o.dw (bC g);omega
   ·rw[i,d];show lo+n<=o.ay.length;omega
   ·rw[i,d,hd];show _=((o.ay.take (lo+n)).drop f.aD);rw[show f.aD=lo by rw[m];exact u]
   ·rw[j]at e;unfold Ot.fO at e;simp only[rX,decide_eq_true_eq]at e;rw[d];exact⟨e.1.1,by rw[i];exact e.2⟩
   ·by_cases hz:0<lo+n;·rw[i];exact .inr hz
    ·left;have F:min l o.ay.length<=lo:=by
      by_cases E:lo<min l o.ay.length;·exact absurd ⟨E,aj⟩ x
      ·omega
     obtain⟨a,b,c⟩:=key.2.2 F;rw[j,show lo+n=o.reach aN by omega];exact b
   ·rw[d];show max o.dw (bC g)<=o.aL;have:=y.sl;omega
   ·rw[d];show max o.dw (bC g)<=o.ay.length;have:=y.sb;omega
   ·rw[d];exact y.bX
   ·rw[d];show o.dw<=max o.dw (bC g);omega
   ·rw[d];show max o.dw (bC g)<=_;omega
theorem LC{A B:av}(a:fE A)(h1:dO A B)(b:dO B A)(g:Gn)(c:g.ahead=A.gr.ahead)(ht:A.gr.dW<=g.dW)(hl:g.dW<=A.gr.iB A.aQ):tu A B {A with gr:=g}:=
 ⟨⟨a.lo,a.li,a.wr,a.sp,a.it,by show g.dW<=g.iB A.aQ;unfold Gn.iB at *;rw[c];exact hl,a.mJ,a.q⟩,⟨h1.rd,h1.iB,h1.aM⟩,⟨b.rd,j3 b.iB ht,b.aM⟩,⟨fun _=>eB _,fun _=>lg _,fun _ e=>⟨e,rfl⟩,fun _=>eB _,ht,eB _⟩⟩
theorem kg{A B:av}(b:fE A)(h1:dO A B)(a:dO B A):tu A B A:=⟨b,h1,a,Au.refl A⟩
theorem NW{o:Ot}{i:eH}(h:AX o i)(g:Gn)(ht:i.gr.dW<=g.dW):AX o {i with gr:=g}:=
 ⟨j3 h.iB ht,h.fF,h.bM,h.bX,h.st,h.len,h.rd,h.got⟩
theorem iT{g g':Gn}{aC:Int}{k aQ:Nat}{au:Int}{f:Fr}(h:g.next aC k aQ au=some (f,g')):f=jO aC k (g.iB aQ)/\g'=({g with dW:=g.iB aQ}:Gn).aw (g.iB aQ):=by
 unfold Gn.next at h;split at h;·cases h
 ·have:=Option.some.inj h;exact⟨(congrArg tO this).symm,(congrArg Prod.snd this).symm⟩
theorem tH{A B A':av}(d:fE A)(h1:dO A B)(o:dO B A)(aF cu:bW)(u:Nat)(au:Int)(f:Fr)(E:u<48)(hl:∀r∈aF,r.2<B.next)(c:A.aK aF u=true)(h:A.frame aF u au=some (f,A',cu)):tu A B A'/\lJ A' B f/\(∀r∈cu,r.2<B.next):=by
 unfold av.frame at h;unfold av.aK at c;by_cases u0:u=0
 ·rw[bK u0]at h;split at h;·cases h
  ·rename_i q;have e:=Option.some.inj h;have j:gH (aF.take (fA aF au aF.length))=f:=congrArg tO e;have i:A=A':=congrArg (fun x=>x.2.1) e;have el:aF.drop (fA aF au aF.length)=cu:=congrArg (fun x=>x.2.2) e;subst j i el;refine⟨kg d h1 o,.inl ⟨rfl,?_,?_⟩,fun r w=>hl r (List.mem_of_mem_drop w)⟩
   ·cases aF with
    |nil=>exact absurd rfl q
    |cons a t=>
     show wz _ (a::t)≠[];intro l;rw[List.take_eq_nil_iff]at l;rcases l with l|l;·exact q l
     ·cases l
   ·cases aF with
    |nil=>exact absurd rfl q
    |cons a t=>show((wz _ (a::t)).getD 0 (0,0)).2<B.next;obtain⟨m,v⟩:∃m,fA (a::t) au (a::t).length=m+1:=⟨fA (a::t) au (a::t).length-1,aj⟩;rw[v];exact hl a aP
 ·rw[aU u0]at h c;simp only[rX]at c;replace c:=c.2;have hq:A.n_=0:=by unfold av.n_;rw[d.q]
  by_cases u8:u=8;·rw[bK u8]at h;obtain⟨⟨f1,k⟩,p,e⟩:=nA.1 h;obtain⟨g,b⟩:=iT p;have j:f1=f:=congrArg tO e;have i:{A with gr:=k}=A':=congrArg (fun x=>x.2.1) e;have el:aF=cu:=congrArg (fun x=>x.2.2) e;subst j i el;refine⟨LC d h1 o k (by rw[b];rfl) (by rw[b];exact d.gt) (by rw[b];exact eB _),.inr (.inr (.inl ⟨by rw[g];rfl,?_⟩)),hl⟩;rw[g,b];exact eB _
  ·rw[aU u8]at h c;by_cases u24:u<24
   ·rw[bK u24]at h;obtain⟨⟨f1,k⟩,p,e⟩:=nA.1 h;obtain⟨g,b⟩:=iT p;have j:f1=f:=congrArg tO e;have i:A.eG (u-16) {A.bF (u-16)with gr:=k}=A':=congrArg (fun x=>x.2.1) e;have el:aF=cu:=congrArg (fun x=>x.2.2) e;subst j i el;have ht:(A.bF (u-16)).gr.dW<=k.dW:=by rw[b];exact d.it _
    refine⟨tC d h1 o (u-16) _ (NW (o.rd _) k ht) ht (eB _) (by rw[b];exact eB _),.inr (.inr (.inr ⟨by rw[g];rfl,by rw[g];exact Bu _,?_,?_⟩)),hl⟩;·rw[g];show((u-16:Nat):Int)<8;omega
    ·rw[g];show(A.bF (u-16)).gr.iB _<=((A.eG (u-16) _).bF (((u-16:Nat):Int).toNat)).gr.dW;rw[Cr,dQ,bK ⟨rfl,by rw[d.li];omega⟩,b];exact eB _
   ·rw[aU u24]at h c;by_cases u32:u<32;·rw[bK u32]at c;unfold Nt.aK at c;rw[(d.wr _).bX]at c;cases c
    ·rw[aU u32]at h c;by_cases n:u=32;·rw[bK n]at c;rw[d.q]at c;simp at c
     ·rw[aU n]at h c;obtain⟨⟨f1,o1⟩,p,e⟩:=nA.1 h;have j:f1=f:=congrArg tO e;have i:A.dD (u-40) o1=A':=congrArg (fun x=>x.2.1) e;have el:aF=cu:=congrArg (fun x=>x.2.2) e;subst j i el;obtain⟨n1,n2,n3,n4,y,z,C,s,D,_⟩:=uK (d.wr _) c p;refine⟨j_ d h1 o (u-40) o1 n4 y z (by rw[s];exact lg _) (fun x=>⟨by rw[D];exact x,s⟩) C,.inr (.inl ⟨n1,by rw[n2];exact Bu _,by rw[n2];omega,?_⟩),hl⟩;rw[n2,Cr,fB,bK ⟨rfl,by rw[d.lo];omega⟩];exact n3
end Go.Proofs.YtphbledmopchnaaGreatDoor.Sd
namespace Go.Proofs.YtphbledmopchnaaGreatDoor.Sd
open Go.RowKit Go.Lib Mm Tryz
abbrev Own:=Nat->Nat
structure Kp (T:List Nat) (oZ aY:Own) (w w':World):Prop where
 os:w'.os=w.os
 tape:w'.tape=w.tape
 output:w'.output=w.output
 size:w.heap.size<=w'.heap.size
 cZ:∀b,b<w.heap.size->oZ b∉T->w'.heap[b]?=w.heap[b]?
 ext:∀b,b<w.heap.size->aY b=oZ b
theorem Kp.refl(T:List Nat)(oZ:Own)(w:World):Kp T oZ oZ w w:=⟨rfl,rfl,rfl,eB _,fun _ _ _=>rfl,fun _ _=>rfl⟩
theorem Kp.trans{T:List Nat}{o0 o1 c:Own}{w w1 d:World}(h:Kp T o0 o1 w w1)(k:Kp T o1 c w1 d):Kp T o0 c w d:=
 ⟨k.os.trans h.os,k.tape.trans h.tape,k.output.trans h.output,j3 h.size k.size,fun b hb a=>(k.cZ b (mE hb h.size) (by rw[h.ext b hb];exact a)).trans (h.cZ b hb a),fun b hb=>(k.ext b (mE hb h.size)).trans (h.ext b hb)⟩
theorem Kp.mono{T a:List Nat}{o o':Own}{w w':World}(h:Kp T o o' w w')(c:∀t∈T,t∈a):Kp a o o' w w':=
 ⟨h.os,h.tape,h.output,h.size,fun b hb e=>h.cZ b hb (fun d=>e (c _ d)),h.ext⟩
theorem Kp.below{T:List Nat}{oZ:Own}{w w':World}(h:bJ w w'):Kp T oZ oZ w w':=
 ⟨h.os,h.tape,h.output,h.size,fun b hb _=>h.block b hb,fun _ _=>rfl⟩
theorem Kp.iW{T:List Nat}{o o':Own}{w w1 a:World}(h:Kp T o o' w w1)(k:bJ w1 a):Kp T o o' w a:=h.trans (Kp.below k)
theorem Kp.drewN{T:List Nat}{o o':Own}{w w1:World}(h:Kp T o o' w w1)(q:Nat):Kp T o o' w (w1.drewN q):=⟨h.os,h.tape,h.output,h.size,h.cZ,h.ext⟩
theorem Kp.set(oZ:Own)(w:World)(a:Addr)(v:Value)(T:List Nat)(h:oZ a.block∈T):Kp T oZ oZ w (w.setCell a v):=
 ⟨rfl,rfl,rfl,aP,fun b _ c=>mY _ _ _ _ (fun e=>c (by rw[e];exact h)),fun _ _=>rfl⟩
theorem Kp.alloc(oZ:Own)(w:World)(o:Obj)(T:List Nat):Kp T oZ oZ w (w.alloc o):=Kp.below ((Fe _ w).alloc (eB _) o)
theorem cO{T:List Nat}{o o':Own}{w w':World}{b:Nat}{t:TypeId}{l:bO}(h:aS w b t l)(k:Kp T o o' w w')(a:o b∉T):aS w' b t l:=h.of_heap (k.cZ b h.lt a)
def GT(oZ:Own)(t:Nat)(e:TypeId)(k:Nat)(w:World)(v:Value)(n:Nat)(l:bO):Prop:=
 v=nZ/\n=0/\l=[]\/∃g cap cs,v=(dP g n cap)/\oZ g=t/\aS w g e cs/\cap*k<=cs.length/\n<=cap/\cap<=9223372036854775807/\l.length=n*k/\cs.take (n*k)=l/\∀v∈cs,v.oneCell'=true
theorem GT.kp{oZ aY:Own}{t:Nat}{e:TypeId}{k:Nat}{w w':World}{v:Value}{n:Nat}{l:bO}{T:List Nat}(h:GT oZ t e k w v n l)(K:Kp T oZ aY w w')(d:t∉T):GT aY t e k w' v n l:=by
 rcases h with h|⟨g,cap,cs,h1,a,b,c⟩;·exact .inl h
 ·exact .inr ⟨g,cap,cs,h1,by rw[K.ext g b.lt,a],cO b K (by rw[a];exact d),c⟩
theorem GT.len{oZ:Own}{t:Nat}{e:TypeId}{k:Nat}{w:World}{v:Value}{n:Nat}{l:bO}(h:GT oZ t e k w v n l):l.length=n*k:=by
 rcases h with⟨_,rfl,rfl⟩|⟨_,_,_,_,_,_,_,_,_,h,_⟩;·simp
 ·exact h
theorem GT.shape{oZ:Own}{t:Nat}{e:TypeId}{k:Nat}{w:World}{v:Value}{n:Nat}{l:bO}(h:GT oZ t e k w v n l):∃a c,v=.slice a n c/\n<=c/\c<=9223372036854775807:=by
 rcases h with⟨rfl,rfl,_⟩|⟨g,cap,cs,rfl,_,_,_,h,h',_⟩;·exact⟨_,_,rfl,eB _,aj⟩
 ·exact⟨_,_,rfl,h,h'⟩
theorem GT.cell{oZ:Own}{t:Nat}{e:TypeId}{k:Nat}{w:World}{a:Option Addr}{n c:Nat}{l:bO}(h:GT oZ t e k w (.slice a n c) n l)(j:Nat)(x:Value)(b:l[j]?=some x):∃g,a=some (aB g 0)/\oZ g=t/\g<w.heap.size/\w.cell? (aB g j)=some x/\w.frozen? (aB g j)=false:=by
 rcases h with⟨_,rfl,rfl⟩|⟨g,cap,cs,hv,ho,hB,_,_,_,h4,h5,_⟩;·simp at b
 ·simp at hv;refine⟨g,hv.1,ho,hB.lt,?_,hB.frozen j⟩;rw[hB.cell];rw[<-h5,List.getElem?_take]at b;split at b;·exact b
  ·cases b
theorem GT.X5{oZ:Own}{t:Nat}{e:TypeId}{k:Nat}{w:World}{v:Value}{n:Nat}{l:bO}(h:eX e k w v n l)(d:∀b,v.ownBlock=some b->oZ b=t):GT oZ t e k w v n l:=by
 rcases h with h|⟨g,cap,cs,h1,a,f,c⟩;·exact .inl h
 ·exact .inr ⟨g,cap,cs,h1,d g (by rw[h1];rfl),a,aj,c⟩
def kW(l l':bO)(o n:Nat):Prop:=l'.length=l.length/\∀j,j<o\/o+n<=j->l'[j]?=l[j]?
theorem kW.refl(l:bO)(o n:Nat):kW l l o n:=⟨rfl,fun _ _=>rfl⟩
theorem kW.trans{a b c:bO}{o n:Nat}(h:kW a b o n)(k:kW b c o n):kW a c o n:=⟨k.1.trans h.1,fun j d=>(k.2 j d).trans (h.2 j d)⟩
theorem kW.mono{a b:bO}{o n o' n':Nat}(h:kW a b o n)(h1:o'<=o)(c:o+n<=o'+n'):kW a b o' n':=⟨h.1,fun j d=>h.2 j aj⟩
theorem kW.set(l:bO)(j:Nat)(v:Value)(o n:Nat)(h1:o<=j)(a:j<o+n):kW l (l.set j v) o n:=
 ⟨aP,fun i hi=>by rw[xB aj]⟩
abbrev TS:TypeId:=210
structure nE (R:Nat) (y y':World):Prop where
 os:y'.os=y.os
 tape:y'.tape=y.tape
 output:y'.output=y.output
 size:y'.heap.size=y.heap.size
 block:∀k,k≠R->y'.heap[k]?=y.heap[k]?
theorem nE.refl(R:Nat)(y:World):nE R y y:=⟨rfl,rfl,rfl,rfl,fun _ _=>rfl⟩
theorem nE.set{R:Nat}{y y':World}(h:nE R y y')(o:Nat)(v:Value):nE R y (y'.setCell (aB R o) v):=
 ⟨h.os,h.tape,h.output,by rw[<-h.size];simp,fun k a=>(mY y' (aB R o) v k a).trans (h.block k a)⟩
structure gM (w w':World) (S:Nat) (l l':bO) (o n:Nat):Prop where
 os:w'.os=w.os
 tape:w'.tape=w.tape
 output:w'.output=w.output
 size:w.heap.size<=w'.heap.size
 al:∀b,b<w.heap.size->b≠S->w'.heap[b]?=w.heap[b]?
 cZ:aS w' S TS l'
 gN:kW l l' o n
theorem gM.refl{w:World}{S:Nat}{l:bO}(hB:aS w S TS l)(o n:Nat):gM w w S l l o n:=⟨rfl,rfl,rfl,eB _,fun _ _ _=>rfl,hB,kW.refl _ _ _⟩
theorem gM.one{w:World}{S:Nat}{l:bO}(hB:aS w S TS l)(j:Nat)(v:Value)(o n:Nat)(h1:o<=j)(c:j<o+n):gM w (w.setCell (aB S j) v) S l (l.set j v) o n:=
 ⟨rfl,rfl,rfl,aP,fun b _ a=>mY _ _ _ _ a,hB.setCell j v,kW.set l j v o n h1 c⟩
theorem gM.trans{w w1 c:World}{S:Nat}{l l1 l2:bO}{o n:Nat}(h:gM w w1 S l l1 o n)(k:gM w1 c S l1 l2 o n):gM w c S l l2 o n:=
 ⟨k.os.trans h.os,k.tape.trans h.tape,k.output.trans h.output,j3 h.size k.size,fun b hb a=>(k.al b (mE hb h.size) a).trans (h.al b hb a),k.cZ,h.gN.trans k.gN⟩
theorem gM.kp{w w':World}{S:Nat}{l l':bO}{o n:Nat}(h:gM w w' S l l' o n){s:Nat}{oZ:Own}(a:oZ S=s){T:List Nat}(c:s∈T):Kp T oZ oZ w w':=
 ⟨h.os,h.tape,h.output,h.size,fun b hb d=>h.al b hb (fun e=>d (by rw[e,a];exact c)),fun _ _=>rfl⟩
theorem Kp.drew{T:List Nat}{o o':Own}{w w1:World}(h:Kp T o o' w w1):Kp T o o' w w1.drew:=⟨h.os,h.tape,h.output,h.size,h.cZ,h.ext⟩
theorem gM.drew{w w':World}{S:Nat}{l l':bO}{o n:Nat}(h:gM w w' S l l' o n):gM w w'.drew S l l' o n:=⟨h.os,h.tape,h.output,h.size,h.al,h.cZ.drew,h.gN⟩
theorem gM.drewN{w w':World}{S:Nat}{l l':bO}{o n:Nat}(h:gM w w' S l l' o n)(q:Nat):gM w (w'.drewN q) S l l' o n:=⟨h.os,h.tape,h.output,h.size,h.al,h.cZ,h.gN⟩
theorem gM.after{w W w':World}{S:Nat}{l l':bO}{o n:Nat}(k:bJ w W)(h:gM W w' S l l' o n):gM w w' S l l' o n:=
 ⟨h.os.trans k.os,h.tape.trans k.tape,h.output.trans k.output,j3 k.size h.size,fun b hb a=>(h.al b (mE hb k.size) a).trans (k.block b hb),h.cZ,h.gN⟩
theorem gM.iW{w w1 w':World}{S:Nat}{l l':bO}{o n:Nat}(h:gM w w1 S l l' o n)(k:bJ w1 w'):gM w w' S l l' o n:=
 ⟨k.os.trans h.os,k.tape.trans h.tape,k.output.trans h.output,j3 h.size k.size,fun b hb a=>(k.block b (mE hb h.size)).trans (h.al b hb a),h.cZ.of_heap (k.block _ h.cZ.lt),h.gN⟩
theorem gM.tch{w w1 w':World}{S:Nat}{l l':bO}{o n:Nat}{R:Nat}(h:gM w w1 S l l' o n)(t:nE R w1 w')(d:w.heap.size<=R)(a:S≠R):gM w w' S l l' o n:=
 ⟨t.os.trans h.os,t.tape.trans h.tape,t.output.trans h.output,by rw[t.size];exact h.size,fun b hb c=>(t.block b aj).trans (h.al b hb c),h.cZ.of_heap (t.block _ a),h.gN⟩
theorem gM.other{w w':World}{S:Nat}{l l':bO}{o n:Nat}(h:gM w w' S l l' o n){b:Nat}{t:TypeId}{m:bO}(hb:aS w b t m)(a:b≠S):aS w' b t m:=hb.of_heap (h.al b hb.lt a)
def loc(oZ:Own)(n:Nat):Own:=fun b=>if b<n then oZ b else 0
theorem jv(oZ:Own)(n b:Nat)(h:b<n):loc oZ n b=oZ b:=bK h
theorem iX(oZ:Own)(n b:Nat)(h:n<=b):loc oZ n b=0:=aU aj
structure vX (l:bO) (o:Nat) (g:Gn):Prop where
 c0:l[o]?=some (uZ g.ahead)
 c1:l[o+1]?=some (uZ g.dW)
 c2:l[o+2]?=some (uZ g.cK)
 c3:l[o+3]?=some (uZ g.aM)
theorem vX.gN{l l':bO}{o o' n':Nat}{g:Gn}(h:vX l o g)(w:kW l l' o' n')(hd:o+4<=o'\/o'+n'<=o):vX l' o g:=
 ⟨by rw[w.2 _ aj,h.c0],by rw[w.2 _ aj,h.c1],by rw[w.2 _ aj,h.c2],by rw[w.2 _ aj,h.c3]⟩
structure D_ (l:bO) (o:Nat) (n:Nt):Prop where
 c0:l[o]?=some (.bool n.bX)
 c1:l[o+1]?=some (uZ n.aD)
 c2:l[o+2]?=some (uZ n.cK)
 c3:l[o+3]?=some (uZ n.aM)
theorem D_.gN{l l':bO}{o o' n':Nat}{g:Nt}(h:D_ l o g)(w:kW l l' o' n')(hd:o+4<=o'\/o'+n'<=o):D_ l' o g:=
 ⟨by rw[w.2 _ aj,h.c0],by rw[w.2 _ aj,h.c1],by rw[w.2 _ aj,h.c2],by rw[w.2 _ aj,h.c3]⟩
theorem max2(a b:Nat):∃m:Nat,(∀c t w,(sF c t #[uZ a,uZ b]).run prog w=.ok (uZ m) w)/\m=max a b:=by
 refine⟨max a b,fun c t w=>?_,rfl⟩;simp only[sF,nI,o8,Es];simp only[tT,uj,Result.andThen_ok];by_cases h:a<b;·simp[h,Nat.max_eq_right (EF h)]
 ·simp[h,Nat.max_eq_left (DU h)]
theorem min2(a b:Nat):∃m:Nat,(∀c t w,(tK c t #[uZ a,uZ b]).run prog w=.ok (uZ m) w)/\m=min a b:=by
 refine⟨min a b,fun c t w=>?_,rfl⟩;simp only[tK,nI,o8,Ev];simp only[tT,uj,Result.andThen_ok];by_cases h:b<a;·simp[h,Nat.min_eq_right (EF h)]
 ·simp[h,Ea (DU h)]
theorem TK(a b:Int):∃m:Int,(∀c t w,(tK c t #[iZ a,iZ b]).run prog w=.ok (iZ m) w)/\m=min a b:=by
 refine⟨min a b,fun c t w=>?_,rfl⟩;simp only[tK,nI,o8,Ev];simp only[tT,uj,Result.andThen_ok];by_cases h:b<a;·simp[h,Int.min_eq_right (Ew h)]
 ·simp[h,Int.min_eq_left (Int.not_lt.1 h)]
theorem qde(a b:Int):∃m:Int,(∀c t w,(sF c t #[iZ a,iZ b]).run prog w=.ok (iZ m) w)/\m=max a b:=by
 refine⟨max a b,fun c t w=>?_,rfl⟩;simp only[sF,nI,o8,Es];simp only[tT,uj,Result.andThen_ok];by_cases h:a<b;·simp[h,Int.max_eq_right (Ew h)]
 ·simp[h,Int.max_eq_left (Int.not_lt.1 h)]
def kF(y:World)(R:Nat)(a b c v3 d e f g h v9:Value):World:=
 (((((((((y.setCell (aB R 0) a).setCell (aB R 1) b).setCell (aB R 2) c).setCell (aB R 3) v3).setCell (aB R 4) d).setCell (aB R 5) e).setCell (aB R 6) f).setCell (aB R 7) g).setCell (aB R 8) h).setCell (aB R 9) v9
theorem gT(y:World)(R:Nat)(a b c v3 d e f g h v9:Value):(((((((((y.setCell (aB R 0) a).setCell (aB R 1) b).setCell (aB R 2) c).setCell (aB R 3) v3).setCell (aB R 4) d).setCell (aB R 5) e).setCell (aB R 6) f).setCell (aB R 7) g).setCell (aB R 8) h).setCell (aB R 9) v9=kF y R a b c v3 d e f g h v9:=rfl
theorem gI{y:World}{R:Nat}{t:TypeId}{u0 u1 u2 u3 u4 u5 u6 u7 u8 u9:Value}(h:aS y R t [u0,u1,u2,u3,u4,u5,u6,u7,u8,u9])(a b c v3 d e f g i v9:Value):aS (kF y R a b c v3 d e f g i v9) R t [a,b,c,v3,d,e,f,g,i,v9]:=
 (((((((((h.setCell 0 a).setCell 1 b).setCell 2 c).setCell 3 v3).setCell 4 d).setCell 5 e).setCell 6 f).setCell 7 g).setCell 8 i).setCell 9 v9
theorem gJ(y:World)(R:Nat)(a b c v3 d e f g h v9:Value):nE R y (kF y R a b c v3 d e f g h v9):=
 ((((((((((nE.refl R y).set 0 a).set 1 b).set 2 c).set 3 v3).set 4 d).set 5 e).set 6 f).set 7 g).set 8 h).set 9 v9
theorem nE.below{R:Nat}{B:Nat}{w y y':World}(t:nE R y y')(h:Below B w y)(b:B<=R):Below B w y':=
 ⟨t.os.trans h.os,t.tape.trans h.tape,t.output.trans h.output,by have:=h.size;rw[t.size];exact this,fun k a=>(t.block k aj).trans (h.block k a)⟩
theorem nE.kp{R:Nat}{T:List Nat}{o o':Own}{w y y':World}(t:nE R y y')(h:Kp T o o' w y)(c:w.heap.size<=R):Kp T o o' w y':=
 ⟨t.os.trans h.os,t.tape.trans h.tape,t.output.trans h.output,by rw[t.size];exact h.size,fun k a b=>(t.block k aj).trans (h.cZ k a b),h.ext⟩
theorem dG(l:bO)(j:Nat)(v x:Value)(h:l[j]?=some x):(l.set j v)[j]?=some v:=by rw[List.getElem?_set_self (mR.1 h).1]
theorem aA(l:bO)(j i:Nat)(v:Value)(h:j≠i):(l.set j v)[i]?=l[i]?:=xB h
end Go.Proofs.YtphbledmopchnaaGreatDoor.Sd
namespace Go.Proofs.YtphbledmopchnaaGreatDoor.Sd
open Go.RowKit Go.Lib Mm St Tryz
def mM(w:World)(sp so:Nat)(l:bO)(bf:Int)(fl:Nat)(base:Option Addr)(n c:Nat):Prop:=
 aS w sp TS l/\l[so]?=some (iZ bf)/\l[so+1]?=some (uZ fl)/\l[so+2]?=some (.slice base n c)
theorem mM.of{w w':World}{sp so:Nat}{l:bO}{bf:Int}{fl:Nat}{base:Option Addr}{n c:Nat}(h:mM w sp so l bf fl base n c)(e:w'.heap[sp]?=w.heap[sp]?):mM w' sp so l bf fl base n c:=⟨h.1.of_heap e,h.2⟩
theorem mM.cell0{w:World}{sp so:Nat}{l:bO}{bf:Int}{fl:Nat}{base:Option Addr}{n c:Nat}(h:mM w sp so l bf fl base n c):w.cell? (aB sp so)=some (iZ bf):=by rw[h.1.cell];exact h.2.1
theorem mM.EH{w:World}{sp so:Nat}{l:bO}{bf:Int}{fl:Nat}{base:Option Addr}{n c:Nat}(h:mM w sp so l bf fl base n c):w.cell? (aB sp (so+1))=some (uZ fl):=by rw[h.1.cell];exact h.2.2.1
theorem mM.m_{w:World}{sp so:Nat}{l:bO}{bf:Int}{fl:Nat}{base:Option Addr}{n c:Nat}(h:mM w sp so l bf fl base n c):w.cell? (aB sp (so+2))=some (.slice base n c):=by rw[h.1.cell];exact h.2.2.2
def Ay(w:World)(sp so:Nat)(l:bO)(bf:Int)(fl:Nat)(rs:bW)(row:Option Nat):Prop:=
 ∃base c,mM w sp so l bf fl base rs.length c/\rs.length<=c/\c<=9223372036854775807/\row=base.map (·.block)/\jB w sp base c rs
def Gj(w:World)(sp so:Nat)(l:bO)(bf:Int)(fl:Nat)(rs:bW)(row:Option Nat):Prop:=
 ∃l',Ay w sp so l' bf fl rs row/\kW l l' so 3
theorem LV(bs d sp so b c n i lo x:Nat)(W:World)(hi:i<n)(_hn:n<4611686018427387904)(cs:W.cell? (aB bs 0)=some (aI sp so))(h:W.cell? (aB d 0)=some (uZ lo))(cl:W.cell? (aB sp (so+2))=some (dP b n c))(j:W.cell? (aB b (i*2+1))=some (uZ x))(a:lo<18446744073709551616)(g:x<18446744073709551616):Calls prog 221 (#[iZ i]++#[aI bs 0,aI d 0]) W fun e w'=>e=.returned (.bool (!decide (x+1<lo)))/\∃q,w'=W.drewN q:=by have f:(i:Int)<(n:Int):=aj;go_enter func221,ntmps221;go_wp2;go_quiet ((go_at_call 222;exact Calls.quiet_of_same (St.EA _ _ g a _)));go_wp2;go_ret;exact⟨rfl,nq,rfl⟩
theorem LW(bs d sp so b c n i hi x:Nat)(W:World)(f:i<n)(_hn:n<4611686018427387904)(cs:W.cell? (aB bs 0)=some (aI sp so))(j:W.cell? (aB d 1)=some (uZ hi))(cl:W.cell? (aB sp (so+2))=some (dP b n c))(k:W.cell? (aB b (i*2))=some (uZ x))(a:hi<18446744073709551616)(h:x<18446744073709551616):Calls prog 223 (#[iZ i]++#[aI d 0,aI bs 0]) W fun e w'=>e=.returned (.bool (decide (hi+1<x)))/\∃q,w'=W.drewN q:=by have g:(i:Int)<(n:Int):=aj;go_enter func223,ntmps223;go_wp2;go_quiet ((go_at_call 222;exact Calls.quiet_of_same (St.EA _ _ a h _)));go_wp2;go_ret;exact⟨rfl,nq,rfl⟩
theorem Px(bs a sp so b c n i v x:Nat)(W:World)(d:i<n)(_hn:n<4611686018427387904)(cs:W.cell? (aB bs 0)=some (aI sp so))(g:W.cell? (aB a 0)=some (uZ v))(cl:W.cell? (aB sp (so+2))=some (dP b n c))(h:W.cell? (aB b (i*2+1))=some (uZ x)):Calls prog 172 (#[iZ i]++#[aI bs 0,aI a 0]) W fun e w'=>e=.returned (.bool (decide (v<=x)))/\∃q,w'=W.drewN q:=by have f:(i:Int)<(n:Int):=aj;go_enter func172,ntmps172;go_wp2;go_quiet (fail);go_wp2;go_ret;exact⟨St.dI aP,nq,rfl⟩
theorem Jd(bs d sp so lo:Nat)(base:Option Addr)(c:Nat)(rs:bW)(W:World)(k:Rg.fI rs)(hB:Small rs)(o:rs.length<=1000000)(g:lo<18446744073709551616)(cs:W.cell? (aB bs 0)=some (aI sp so))(j:W.cell? (aB d 0)=some (uZ lo))(cl:W.cell? (aB sp (so+2))=some (.slice base rs.length c))(R:jB W sp base c rs):Calls prog 171 #[(iZ (rs.length:Nat)),.func (.func 221) #[] #[aI bs 0,aI d 0]] W fun e w'=>e=.returned (iZ (Rg.jN lo rs:Nat))/\∃q,w'=W.drewN q:=by
 have l:(qA rs.length).countP (fun i=> !(!decide ((rs.getD i (0,0)).2+1<lo)))=Rg.jN lo rs:=by simp only[Bool.not_not];exact kS rs (fun r=>decide (r.2+1<lo))
 rw[<-l];refine vU 221 _ rs.length (fun i=> !decide ((rs.getD i (0,0)).2+1<lo)) W (enters_of func221 bH rfl) aj (fun m i hi=>?_) (fun a b f hb h=>?_);·obtain⟨b,rfl,_,_,h1,n⟩:=R.pG hi;exact LV bs d sp so b c rs.length i lo _ (W.drewN m) hi aj cs j cl h1 g (hB.get hi).2
 ·have:=(qW k f hb).2;simp only[Bool.not_eq_true',decide_eq_false_iff_not]at h ⊢;omega
theorem Je(bs f sp so hi:Nat)(base:Option Addr)(c:Nat)(rs:bW)(W:World)(n:Rg.fI rs)(hB:Small rs)(p:rs.length<=1000000)(j:hi<18446744073709551616)(cs:W.cell? (aB bs 0)=some (aI sp so))(k:W.cell? (aB f 1)=some (uZ hi))(cl:W.cell? (aB sp (so+2))=some (.slice base rs.length c))(R:jB W sp base c rs):Calls prog 171 #[(iZ (rs.length:Nat)),.func (.func 223) #[] #[aI f 0,aI bs 0]] W fun e w'=>e=.returned (iZ (Rg.iJ hi rs:Nat))/\∃q,w'=W.drewN q:=by
 have o:(qA rs.length).countP (fun i=> !(decide (hi+1<(rs.getD i (0,0)).1)))=Rg.iJ hi rs:=by rw[kS rs (fun r=> !decide (hi+1<r.1))];unfold Rg.iJ;apply CP;intro x _;simp
 rw[<-o];refine vU 223 _ rs.length (fun i=>decide (hi+1<(rs.getD i (0,0)).1)) W (enters_of func223 bH rfl) aj (fun m i d=>?_) (fun a b g hb h=>?_);·obtain⟨b,rfl,_,_,h1,l⟩:=R.pG d;exact LW bs f sp so b c rs.length i hi _ (W.drewN m) d aj cs k cl l j (hB.get d).1
 ·have:=(qW n g hb).1;simp only[decide_eq_true_eq]at h ⊢;omega
theorem TP(bs d sp so v:Nat)(base:Option Addr)(c:Nat)(rs:bW)(W:World)(j:Rg.fI rs)(n:rs.length<=1000000)(cs:W.cell? (aB bs 0)=some (aI sp so))(g:W.cell? (aB d 0)=some (uZ v))(cl:W.cell? (aB sp (so+2))=some (.slice base rs.length c))(R:jB W sp base c rs):Calls prog 171 #[(iZ (rs.length:Nat)),.func (.func 172) #[] #[aI bs 0,aI d 0]] W fun e w'=>e=.returned (iZ (rs.countP (fun r=>decide (r.2<v)):Nat))/\∃q,w'=W.drewN q:=by
 have k:(qA rs.length).countP (fun i=> !(decide (v<=(rs.getD i (0,0)).2)))=rs.countP (fun r=>decide (r.2<v)):=by rw[kS rs (fun r=> !decide (v<=r.2))];apply CP;intro x _;simp
 rw[<-k];refine vU 172 _ rs.length (fun i=>decide (v<=(rs.getD i (0,0)).2)) W (enters_of func172 bH rfl) aj (fun m i hi=>?_) (fun a b f hb h=>?_);·obtain⟨b,rfl,_,_,h1,l⟩:=R.pG hi;exact Px bs d sp so b c rs.length i v _ (W.drewN m) hi aj cs g cl h1
 ·have:=(qW j f hb).2;simp only[decide_eq_true_eq]at h ⊢;omega
theorem LY{w n w':World}{sp so:Nat}{l:bO}{base:Option Addr}{c:Nat}{bf:Int}{fl:Nat}{rs rs':bW}{a c':Nat}{l':bO}(hs:mM w sp so l bf fl base rs.length c)(R:jB w sp base c rs)(f:bJ w n)(o1:aS w' a 170 l')(s:l'.length=2*c')(t:rs'.length<=c')(u:c'<=9223372036854775807)(x:l'.take (2*rs'.length)=St.bQ rs')(y:∀v∈l',v.oneCell'=true)(g:n.grownBy w' (base.map (·.block)))(q:some a=base.map (·.block)\/n.heap.size<=a):Gj (w'.setCell (aB sp (so+2)) (dP a rs'.length c')) sp so l bf fl rs' (some a)/\Kept w (w'.setCell (aB sp (so+2)) (dP a rs'.length c')) sp (base.map (·.block))/\(some a=base.map (·.block)\/w.heap.size<=a):=by
 have o:=hs.1.lt;have gQ:=f.size;have d:∀k,base.map (·.block)=some k->k≠sp:=by
  intro k j;rcases R with⟨rfl,_⟩|⟨b,l,rfl,hb,_⟩;·cases j
  ·simp at j;rw[<-j];exact hb
 have i:a≠sp:=by
  rcases q with h|h;·exact d a h.symm
  ·omega
 have m:mM w' sp so l bf fl base rs.length c:=
  (hs.of (f.block sp o)).of (g.block sp aj (fun e=>d sp e.symm rfl))
 refine⟨⟨l.set (so+2) (dP a rs'.length c'),⟨some (aB a 0),c',⟨m.1.setCell (so+2) _,by rw[aA _ _ _ _ aj];exact m.2.1,by rw[aA _ _ _ _ aj];exact m.2.2.1,dG _ _ _ _ m.2.2.2⟩,t,u,rfl,.inr ⟨a,l',rfl,i,o1.kU _ _ i,s,x,y⟩⟩,kW.set _ _ _ _ _ aj aj⟩,⟨?_,?_,?_,?_,?_⟩,?_⟩;·exact g.os.trans f.os
 ·exact g.tape.trans f.tape
 ·exact g.output.trans f.output
 ·have:=g.size;show w.heap.size<=(w'.heap.modify _ _).size;simp;omega
 ·intro k j p r;rw[mY _ _ _ _ p,g.block k aj r,f.block k j]
 ·rcases q with h|h;·exact .inl h
  ·exact .inr aj
theorem vG(sp so lo hi:Nat)(base:Option Addr)(c:Nat)(bf:Int)(fl:Nat)(rs:bW)(l:bO)(w W6:World)(o:Rg.fI rs)(E:rs.length<=1000000)(i:lo<=hi)(hs:mM w sp so l bf fl base rs.length c)(R:jB w sp base c rs)(B:rs.length<=c)(n:c<=9223372036854775807)(j:bJ w W6)(a:World)(h:a.heap=(W6.alloc (.cells #[(uZ ((Rg.D8 lo hi rs).1:Int)),(uZ ((Rg.D8 lo hi rs).2:Int))] 170)).heap)(q:a.os=W6.os)(s:a.tape=W6.tape)(r:a.output=W6.output):Calls prog 224 #[.slice base rs.length c,(iZ (Rg.jN lo rs:Nat)),(iZ (Rg.iJ hi rs:Nat)),dP W6.heap.size 1 1] a fun e w'=>
   ∃f c',e=.returned (dP f (Rg.ins lo hi rs).length c')/\(Gj (w'.setCell (aB sp (so+2)) (dP f (Rg.ins lo hi rs).length c')) sp so l bf fl (Rg.ins lo hi rs) (some f)/\Kept w (w'.setCell (aB sp (so+2)) (dP f (Rg.ins lo hi rs).length c')) sp (base.map (·.block))/\(some f=base.map (·.block)\/w.heap.size<=f))
    /\a.grownBy w' (base.map (·.block)):=by
 have u:=Rg.wY i o;have p:=Rg.AU hi rs;have gQ:=j.size;have D:=hs.1.lt;have t:aS a W6.heap.size 170 [(uZ ((Rg.D8 lo hi rs).1:Int)),(uZ ((Rg.D8 lo hi rs).2:Int))]:=
  (aS.new W6 170 _).of_heap (by rw[h])
 have m:bJ w a:=⟨q.trans j.os,s.trans j.tape,r.trans j.output,by rw[h];simp;omega,fun k C=>by rw[h,CZ _ _ _ aj];exact j.block k C⟩;have g:Rg.jN lo rs+1+(rs.length-Rg.iJ hi rs)=(Rg.ins lo hi rs).length:=by rw[Rg.FX rs lo hi i o];simp;omega
 have d:St.bQ (Rg.ins lo hi rs)=(St.bQ rs).take (2*Rg.jN lo rs)++[(uZ ((Rg.D8 lo hi rs).1:Int)),(uZ ((Rg.D8 lo hi rs).2:Int))]++(St.bQ rs).drop (2*Rg.iJ hi rs):=by rw[Rg.FX rs lo hi i o,St.jH,St.zP,St.zQ];simp[St.bQ]
 refine(I4 base rs.length c (Rg.jN lo rs) (Rg.iJ hi rs) W6.heap.size (St.bQ rs) [(uZ ((Rg.D8 lo hi rs).1:Int)),(uZ ((Rg.D8 lo hi rs).2:Int))] a u p B n E ?_ t rfl ?_).mono ?_
 ·rcases R with⟨rfl,rfl,rfl⟩|⟨b,l,h1,h2,h3,h4,h5,h6⟩;·exact .inl ⟨rfl,rfl,rfl,rfl⟩
  ·have:=h3.lt;exact .inr ⟨b,l,h1,h3.of_heap (m.block b h3.lt),h4,h5.symm,aj,h6⟩
 ·intro v x;simp at x;rcases x with rfl|rfl<;>rfl
 ·rintro e w' ⟨f,c',l',rfl,o1,F,y,G,z,H,A,I⟩;rw[g]at y z;rw[g];exact⟨f,c',rfl,LY hs R m o1 F y G (by rw[z,d]) H A I,A⟩
theorem zX{w W6:World}{sp so:Nat}{l:bO}{base:Option Addr}{c n:Nat}{bf:Int}{fl:Nat}{a b:Int}(hs:mM w sp so l bf fl base n c)(d:∀k,base.map (·.block)=some k->k≠sp/\k<w.heap.size)(t:bJ w W6)(h1:aS W6 w.heap.size 273 [aI sp so])(j:aS W6 (w.heap.size+1) 170 [uZ a,uZ b]):W6.cell? (aB w.heap.size 0)=some (aI sp so)/\W6.cell? (aB (w.heap.size+1) 0)=some (uZ a)/\W6.cell? (aB (w.heap.size+1) 1)=some (uZ b)/\W6.cell? (aB sp (so+2))=some (.slice base n c)/\sp<W6.heap.size/\w.heap.size<W6.heap.size/\w.heap.size+1<W6.heap.size/\(∀(g w':World) (o:Obj),g.heap=(W6.alloc o).heap->g.grownBy w' (base.map (·.block))->(w'.cell? (aB w.heap.size 0)=some (aI sp so)/\w'.cell? (aB (w.heap.size+1) 0)=some (uZ a)/\w'.cell? (aB (w.heap.size+1) 1)=some (uZ b))/\w'.cell? (aB sp (so+2))=some (.slice base n c)/\w'.frozen? (aB sp (so+2))=false):=by
 have f:mM W6 sp so l bf fl base n c:=hs.of (t.block sp hs.1.lt);have l1:=h1.lt;have l2:=j.lt;have r:=f.1.lt;have v:=hs.1.lt;refine⟨h1.cell 0,j.cell 0,j.cell 1,f.m_,r,l1,l2,?_⟩;intro g w' o i m;have e:∀k,k<W6.heap.size->g.heap[k]?=W6.heap[k]?:=fun k u=>by rw[i,CZ _ _ _ u]
 have sz:W6.heap.size<=g.heap.size:=by rw[i];simp
 have s:aS w' w.heap.size 273 _:=(h1.of_heap (e _ l1)).of_heap (m.block _ aj (fun h=>bV ((d _ h.symm).2)));have p:mM w' sp so l bf fl base n c:=(f.of (e _ r)).of (m.block _ aj (fun h=>(d _ h.symm).1 rfl));have q:aS w' (w.heap.size+1) 170 _:=(j.of_heap (e _ l2)).of_heap (m.block _ aj (fun h=>bV ((d _ h.symm).2)));exact⟨⟨s.cell 0,q.cell 0,q.cell 1⟩,p.m_,p.1.frozen (so+2)⟩
theorem TQ(sp so v:Nat)(base:Option Addr)(c:Nat)(bf:Int)(fl:Nat)(rs:bW)(l:bO)(w:World)(D:Rg.fI rs)(F:rs.length<=1000000)(hs:mM w sp so l bf fl base rs.length c)(R:jB w sp base c rs):Calls prog 128 #[aI sp so,uZ v] w fun e w'=>e=.returned (.bool (decide (v<fl)||Rg.has v rs))/\bJ w w':=by
 obtain⟨W,p⟩:=bZ ((w.alloc (.cells #[aI sp so] 273)).alloc (.cells #[uZ v] 43));have h:aS W w.heap.size 273 [aI sp so]:=by rw[p];exact(aS.new w 273 _).alloc _
 have g:aS W (w.heap.size+1) 43 [uZ v]:=by rw[p];have:=aS.new (w.alloc (.cells #[aI sp so] 273)) 43 [uZ v];rwa[World.size_alloc]at this
 have o:bJ w W:=by rw[p];exact((Fe _ w).alloc (eB _) _).alloc aP _
 have f:mM W sp so l bf fl base rs.length c:=hs.of (o.block sp hs.1.lt);have s:jB W sp base c rs:=R.of_heap (fun b hb=>o.block b (oh R b (by rw[hb];rfl)).2);have s1:=TP w.heap.size (w.heap.size+1) sp so v base c rs W D F (h.cell 0) (g.cell 0) (f.m_) s;have y:w.cell? (aB sp (so+2))=some (.slice base rs.length c):=hs.m_;have E:sp<w.heap.size:=hs.1.lt;have d:=aG (show Rg.has v rs=(decide (rs.countP (fun r=>decide (r.2<v))<rs.length)&&decide ((rs.getD (rs.countP (fun r=>decide (r.2<v))) (0,0)).1<=v))from rfl);have u:rs.countP (fun r=>decide (r.2<v))<=rs.length:=List.countP_le_length;generalize rs.countP (fun r=>decide (r.2<v))=I at s1 d u;have k0:W.cell? (aB w.heap.size 0)=some (aI sp so):=h.cell 0;have k1:W.cell? (aB (w.heap.size+1) 0)=some (uZ v):=g.cell 0;have k2:W.cell? (aB sp (so+1))=some (uZ fl):=f.EH;have n:W.cell? (aB sp (so+2))=some (.slice base rs.length c):=f.m_;have A:=aG s1;have j:=aG o;have m:=aG (dB k0 (dB k1 (dB k2 n)));have z:=aG s;clear s1 o s h g f hs k0 k1 k2 n R;subst p;go_enter func128,ntmps128;go_wp2_with fail;refine bN A.out ?_;rintro w' ⟨H,rfl⟩;go_wp2_with fail;generalize i:((w.alloc (.cells #[aI sp so] 273)).alloc (.cells #[uZ v] 43)).drewN H=k;obtain⟨k0,k1,k2,n⟩:=m.out;have a:Hid (bJ w k):=by rw[<-i];exact⟨j.out.os,j.out.tape,j.out.output,j.out.size,j.out.block⟩
 have L:k.cell? (aB w.heap.size 0)=some (aI sp so):=by rw[<-i];exact k0
 have M:k.cell? (aB (w.heap.size+1) 0)=some (uZ v):=by rw[<-i];exact k1
 have N:k.cell? (aB sp (so+1))=some (uZ fl):=by rw[<-i];exact k2
 have O:k.cell? (aB sp (so+2))=some (.slice base rs.length c):=by rw[<-i];exact n
 have q:Hid (jB k sp base c rs):=by rw[<-i];exact jB.of_heap z.out (fun _ _=>rfl)
 clear i m k0 k1 k2 n A z j y;by_cases h1:v<fl;·have C:(v:Int)<(fl:Int):=aj;have B:=aG h1;clear h1;go_quiet (fail);go_wp2;go_ret;exact⟨St.dI (by simp[B.out]),a.out.os,a.out.tape,a.out.output,a.out.size,a.out.block⟩
 ·have C:decide ((v:Int)<(fl:Int))=false:=by simp;omega
  by_cases t:I<rs.length;·have K:(I:Int)<((rs.length:Nat):Int):=aj;obtain⟨b,hb,_,_,_,G⟩:=q.out.pG t;subst hb;generalize (rs.getD I (0,0)).1=x at G d;go_quiet (fail);go_wp2;go_ret;exact⟨St.dI (by rw[d.out];simp[h1,t]),a.out.os,a.out.tape,a.out.output,a.out.size,a.out.block⟩
  ·have J:decide ((I:Int)<((rs.length:Nat):Int))=false:=by simp;omega
   go_quiet (fail);go_wp2;go_ret;exact⟨St.dI (by rw[d.out];simp[h1,t]),a.out.os,a.out.tape,a.out.output,a.out.size,a.out.block⟩
end Go.Proofs.YtphbledmopchnaaGreatDoor.Sd
namespace Go.Proofs.YtphbledmopchnaaGreatDoor.Sd
open St Tryz
def DZ(i:eH)(p:Nat):Prop:=p<i.aR\/(i.aR<=p/\i.aM.getD (p-i.aR) false=true)\/(i.bM=true/\i.fU=p)
def Pl(f:Fr)(p:Nat):Prop:=f.aD<=p/\(p<bC f\/f.bn=true/\p=bC f)
theorem Ns(c:List Bool)(i j:Nat)(h:i<c.length):(c.set i true).getD j false=true↔(j=i\/c.getD j false=true):=by
 rw[eT,eT,List.getElem?_set];by_cases e:i=j;·subst e;simp[h]
 ·rw[aU e];constructor;·exact .inr
  ·rintro(a|a);·exact absurd a.symm e
   ·exact a
theorem uw:∀(d:List UInt8) (i:Nat) (h:List UInt8) (c:List Bool),i+d.length<=c.length->∀j,(dS d i h c).2.getD j false=true↔c.getD j false=true\/(i<=j/\j<i+d.length)
 |[],i,h,c,_,j=>by
  show c.getD j false=true↔_;constructor;·exact .inl
  ·rintro(h|⟨h1,b⟩);·exact h
   ·simp at b;omega
 |x::t,i,h,c,hl,j=>by
  simp only[List.length_cons]at hl ⊢;unfold dS;split
  ·rename_i a;rw[uw t (i+1) h c aj j];by_cases e:j=i;·subst e;exact⟨fun _=>.inl a,fun _=>.inl a⟩
   ·constructor
    ·rintro(h|h);·exact .inl h
     ·exact .inr aj
    ·rintro(h|h);·exact .inl h
     ·exact .inr aj
  ·rw[uw t (i+1) _ (c.set i true) (by rw[List.length_set];omega) j,Ns c i j aj];constructor
   ·rintro((h|h)|h);·exact .inr aj
    ·exact .inl h
    ·exact .inr aj
   ·rintro(h|h);·exact .inl (.inr h)
    ·by_cases e:j=i;·exact .inl (.inl e)
     ·exact .inr aj
theorem Wu(c:List Bool)(n j:Nat):(c++mI n false).getD j false=c.getD j false:=by
 rw[eT,eT];by_cases h:j<c.length;·rw[qy h]
 ·rw[List.getElem?_append_right aj,og (l:=c) aj,List.getElem?_replicate];split<;>rfl
theorem Kj{i:eH}(hl:i.aM.length=i.bU.length)(lo:Nat)(d:List UInt8)(f:i.aR<=lo)(p:Nat):DZ (i.hold lo d) p↔DZ i p\/(lo<=p/\p<lo+d.length):=by
 have e:∀j,(i.hold lo d).aM.getD j false=true↔i.aM.getD j false=true\/(lo-i.aR<=j/\j<lo-i.aR+d.length):=fun j=>by show(dS d (lo-i.aR) (i.bU++mI (lo-i.aR+d.length-i.bU.length) 0) (i.aM++mI (lo-i.aR+d.length-i.bU.length) false)).2.getD j false=true↔_;rw[uw d _ _ _ (by rw[qx,List.length_replicate,hl];omega) j,Wu]
 unfold DZ;have a:(i.hold lo d).aR=i.aR:=rfl;have b:(i.hold lo d).bM=i.bM:=rfl;have c:(i.hold lo d).fU=i.fU:=rfl;rw[a,b,c,e];constructor
 ·rintro(h|⟨h1,h|h⟩|h);·exact .inl (.inl h)
  ·exact .inl (.inr (.inl ⟨h1,h⟩))
  ·exact .inr aj
  ·exact .inl (.inr (.inr h))
 ·rintro((h|h|h)|h);·exact .inl h
  ·exact .inr (.inl ⟨h.1,.inl h.2⟩)
  ·exact .inr (.inr h)
  ·exact .inr (.inl ⟨aj,.inr aj⟩)
theorem Wv{o:Ot}{i:eH}(h:AX o i)(f:Fr)(l:IQ o f)(hb:o.ay.length<=dK):(∀p,Pl f p->DZ (i.take f) p)/\(∀p,DZ i p->DZ (i.take f) p):=by
 have r:bC f=f.aD+f.data.size:=rfl;have k:f.data.data.toList.length=f.data.size:=aP;obtain⟨i1,d⟩:∃i1:eH,i1={i with fF:=max i.fF (bC f),bM:=i.bM||f.bn,fU:=if f.bn then bC f else i.fU}:=⟨_,rfl⟩;have u:bC f<=i1.wanted:=by
  rw[d];unfold eH.wanted;simp only[h.bX,Bf,if_false];have:=l.b;cases a:f.bn with
  |true=>simp
  |false=>
   simp only[Bool.or_false,Bf,if_false];split;·rename_i s;rw[(h.bM s).2];exact l.b
   ·omega
 have q:∀p,DZ i p->DZ i1 p:=fun p hp=>by
  rw[d];rcases hp with hp|hp|⟨h1,b⟩;·exact .inl hp
  ·exact .inr (.inl hp)
  ·refine .inr (.inr ⟨by simp[h1],?_⟩);show(if f.bn then bC f else i.fU)=p;split;·rename_i a;rw[(l.bn a).2,<-(h.bM h1).2,b]
   ·exact b
 have gf:f.bn=true->DZ i1 (bC f):=fun a=>by rw[d];exact .inr (.inr ⟨by simp[a],by simp[a]⟩)
 have t:i1.aR=i.aR:=by rw[d]
 have e:i1.aM.length=i1.bU.length:=by rw[d];exact h.len
 have n:i.take f=if max f.aD i1.aR<min (bC f) i1.wanted then i1.hold (max f.aD i1.aR) ((f.data.data.toList.take (min (bC f) i1.wanted-f.aD)).drop (max f.aD i1.aR-f.aD))else i1:=by rw[d];rfl
 rw[n,Ea u];clear n;have c:∀p,p<i.aR->DZ i1 p:=fun p hp=>.inl (by rw[t];exact hp);split
 ·rename_i m;have j:((f.data.data.toList.take (bC f-f.aD)).drop (max f.aD i1.aR-f.aD)).length=bC f-max f.aD i1.aR:=by rw[nP,nU,k];omega
  refine⟨fun p hp=>?_,fun p hp=>(Kj e _ _ aj p).2 (.inl (q p hp))⟩;rw[Kj e _ _ aj p,j];rcases hp with⟨h1,b|⟨b,g⟩⟩
  ·by_cases hp:p<i.aR;·exact .inl (c p hp)
   ·exact .inr aj
  ·rw[g];exact .inl (gf b)
 ·rename_i m;refine⟨fun p hp=>?_,fun p hp=>q p hp⟩;rcases hp with⟨h1,b|⟨b,g⟩⟩;·exact c p aj
  ·rw[g];exact gf b
theorem Ww(i:eH)(bf:Int)(p:Nat)(h:DZ i p):DZ (i.rd bf).2 p:=by
 obtain⟨n,a⟩:=bZ (min i.ready (max bf 0).toNat);have b:(i.rd bf).2.aR=i.aR+n:=by rw[a];rfl
 have c:(i.rd bf).2.aM=i.aM.drop n:=by rw[a];rfl
 have d:(i.rd bf).2.bM=i.bM:=rfl;have e:(i.rd bf).2.fU=i.fU:=rfl;unfold DZ;rw[b,c,d,e];rcases h with h|⟨h1,f⟩|h;·exact .inl aj
 ·by_cases hp:p<i.aR+n;·exact .inl hp
  ·refine .inr (.inl ⟨aj,?_⟩);rw[eT,mK,show n+(p-(i.aR+n))=p-i.aR by omega,<-eT];exact f
 ·exact .inr (.inr h)
theorem qch(i:eH)(h:i.ready<=4096):¬((i.rd (4096:Nat)).2.aM.getD 0 false=true):=by
 have a:(i.rd (4096:Nat)).2.aM=i.aM.drop i.ready:=by
  show i.aM.drop (min i.ready (max ((4096:Nat):Int) 0).toNat)=_;congr 1
  omega
 rw[a,eT,mK,Nat.add_zero,<-eT];unfold eH.ready;have key:∀c:List Bool,¬(c.getD (c.takeWhile id).length false=true):=fun c=>by
  induction c with
  |nil=>simp
  |cons b t d=>
   cases b with
   |true=>simpa using d
   |false=>simp
 exact key _
def Tk(B:av)(f:Fr):Prop:=
 (f.aC=4->∀p,Pl f p->DZ (B.bF f.aH.toNat) p)/\(f.aC=5->f.aL<=B.aL)/\(f.aC=6->f.aL<=(B.out f.aH.toNat).aL)
structure qh (B B':av):Prop where
 got:∀k p,DZ (B.bF k) p->DZ (B'.bF k) p
 iB:B.aL<=B'.aL
 Nu:∀k,(B.out k).aL<=(B'.out k).aL
 ga:B'.gr.ahead=B.gr.ahead
 ia:∀k,(B'.bF k).gr.ahead=(B.bF k).gr.ahead
theorem qh.refl(B:av):qh B B:=⟨fun _ _ h=>h,eB _,fun _=>eB _,rfl,fun _=>rfl⟩
theorem qh.trans{A B C:av}(h:qh A B)(g:qh B C):qh A C:=⟨fun k p x=>g.got k p (h.got k p x),j3 h.iB g.iB,fun k=>j3 (h.Nu k) (g.Nu k),g.ga.trans h.ga,fun k=>(g.ia k).trans (h.ia k)⟩
theorem Tk.mono{B B':av}{f:Fr}(h:Tk B f)(g:qh B B'):Tk B' f:=
 ⟨fun k p hp=>g.got _ p (h.1 k p hp),fun k=>j3 (h.2.1 k) g.iB,fun k=>j3 (h.2.2 k) (g.Nu _)⟩
