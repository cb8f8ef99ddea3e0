import Derived.Test.YtphbledmopchnaaGreatDoorUib
import Derived.Test.YtphbledmopchnaaGreatDoorUic
open Go.RowKit.Below renaming refl->sQ
open List renaming getD_eq_getElem?_getD->fA,getElem?_eq_getElem->fB,getElem?_cons_succ->tL,getElem?_cons_zero->tT,mem_singleton->wz,length_append->Am,length_map->Aw,mem_append->DT,replicate->E8
open Nat renaming le_refl->mR,zero_le->nI,lt_of_le_of_lt->Av,le_trans->He
open Go.World renaming block_lt_of_cell?->uj
set_option maxHeartbeats 8000000
set_option maxRecDepth 100000
namespace Go.Proofs.YtphbledmopchnaaGreatDoor.Sd
open Go.RowKit Go.Lib Mm Tryz
section
theorem ZK:DC 49 52 (.pointer none) 1 8:=Js (by kernel_rfl) (by kernel_rfl) rfl rfl (by omega)
def Net.dgN(n:Net)(S:ByteArray)(v gv:Value):Net:={n.bY 0 ((n.x 0).dg (uo n.nx (n.now+5) S) v)with gv:=gv,gl:=n.gl+1,nx:=n.nx+1}
section
variable {oZ:Own} {w:World} {a:Ad} {n:Net} {vb:Value}
theorem bL.gnb{E:Nat->Nat->aI}(h:bL oZ w a n vb E):w.cell? (aj a.nb 0)=some (uZ n.nx)/\w.cell? (aj a.gb 0)=some n.gv/\w.cell? (aj a.N 3)=some (aS a.nb 2 a.nc):=by
 obtain⟨⟨g,r,hB⟩,_⟩:=h.ns;obtain⟨⟨G,H,F⟩,_⟩:=h.gs;exact⟨hB.cell 0,F.cell 0,by rw[h.net.1.cell];rfl⟩
theorem NN{bQ dx:Own}{w0 w2:World}(g:bL dx w2 a n vb (ends n))(K:Kp TN bQ dx w0 w2)(bx dl:Nat)(S:ByteArray)(hb:aA w2 bx 37 (nW 4 0 5 0 S))(ho:dx bx=0)(hc:n.gl<=1000)(wR:World->Prop)(hP:∀gv w',nL bQ w0 a {n with gv:=gv,gl:=n.gl+1,nx:=n.nx+1} w'->wR w'):DgR a.N a.gb a.gc a.nb a.nc bx n.nx dl S wR w2:=by
 obtain⟨e1,e2,e3⟩:=g.gnb;obtain⟨_,_,c2,_⟩:=g.cells;obtain⟨l,hG⟩:=g.gt;obtain⟨⟨gg,gr,h0⟩,I⟩:=g.gs;obtain⟨⟨ng,nr,h2⟩,on⟩:=g.ns;obtain⟨ga,gp,X⟩:=fC hG;obtain⟨H,O⟩:∃H,H=w2.alloc (.cells #[uZ n.nx,uZ dl,.string S,.bool false] 51):=⟨_,rfl⟩;obtain⟨WB,U⟩:∃WB,WB=(H.alloc (.cells [ay w2.heap.size 0].toArray 52)).drew:=⟨_,rfl⟩
 have h8:H.heap.size=w2.heap.size+1:=by rw[O];simp
 have MW:aD w2 H:=by rw[O];exact(sQ _ w2).alloc (mR _) _
 have h5:aD w2 WB:=by
  rw[U];have:=MW.alloc (by omega) (.cells [ay w2.heap.size 0].toArray 52);exact⟨this.os,this.tape,this.output,this.size,this.block⟩
 have BB:aA WB H.heap.size 52 [ay w2.heap.size 0]:=by rw[U];exact aA.new H 52 _
 obtain⟨v6,w6,G,run,h3,K6⟩:=bW ZK (hG.kp (Kp.below (T:=[]) h5) (by simp)) (aj H.heap.size 0) 1 1 [ay w2.heap.size 0] rfl (fun z hz=>by rw[wz.1 hz];rfl) (fun t y hy=>by
  have e:(aj H.heap.size 0).add t=(aj H.heap.size t):=by rw[Addr.add_lit,Nat.zero_add]
  rw[e,BB.cell,hy]) (by omega)
 obtain⟨a2,c6,rfl⟩:=fC h3;have F:Kp [205] dx G w2 w6:=(Kp.below h5).trans K6;have Oe:=g.rO F (by simp);have V:=aO h0 F (by rw[I];simp);have Z:=aO h2 F (by rw[on];simp);have h4:=aO hb F (by rw[ho];simp)
 have n1:a.gb≠a.N:=fun e=>by rw[e,g.net.2]at I;cases I
 have n2:a.gb≠a.nb:=fun e=>by rw[e,on]at I;cases I
 have n3:a.gb≠bx:=fun e=>by rw[e,ho]at I;cases I
 have n4:a.nb≠a.N:=fun e=>by rw[e,g.net.2]at on;cases on
 have n5:a.nb≠bx:=fun e=>by rw[e,ho]at on;cases on
 refine⟨c2,e3,e1,hb.cell 3,hb.cell 4,ga,n.gl,gp,a2,n.gl+1,c6,w6,by rw[e2,X],fun ty=>?_,by rw[V.cell,<-X];rfl,V.frozen 0,by rw[Oe.cell];rfl,by rw[Oe.cell];rfl,Z.cell 0,Z.frozen 0,h4.cell 3,h4.cell 4,n1,n2,n3,n4,n5,fun q=>?_⟩
 ·have:=run ty;rw[h8,X,U,O]at this;exact this
 ·have h6:G a.gb=201:=by rw[F.ext _ h0.lt];exact I
  have h7:G a.nb=202:=by rw[F.ext _ h2.lt];exact on
  have K7:Kp [201] G G w6 (w6.setCell (aj a.gb 0) (.slice a2 (n.gl+1) c6)):=Kp.set G w6 _ _ _ (by show G a.gb∈_;rw[h6];simp);have K8:Kp [202] G G (w6.setCell (aj a.gb 0) (.slice a2 (n.gl+1) c6)) ((w6.setCell (aj a.gb 0) (.slice a2 (n.gl+1) c6)).setCell (aj a.nb 0) (uZ ((n.nx:Int)+1))):=Kp.set G _ _ _ _ (by show G a.nb∈_;rw[h7];simp);have KA:Kp [201,202,205] dx G w2 ((w6.setCell (aj a.gb 0) (.slice a2 (n.gl+1) c6)).setCell (aj a.nb 0) (uZ ((n.nx:Int)+1))):=(F.mono (by simp)).trans ((K7.mono (by simp)).trans (K8.mono (by simp)));have h9:=aO (V.setCell 0 (.slice a2 (n.gl+1) c6)) K8 (by rw[h6];simp);have ha:=(aO Z K7 (by rw[h7];simp)).setCell 0 (uZ ((n.nx:Int)+1));have r:=g.Le KA (.slice a2 (n.gl+1) c6) (n.gl+1) (n.nx+1) ⟨gg,gr,h9⟩ ⟨_,(h3.kp K7 (by simp)).kp K8 (by simp)⟩ ⟨ng,nr,by simpa using ha⟩;refine hP (.slice a2 (n.gl+1) c6) _ ⟨G,vb,r.below (dF _ q),K.trans ((KA.mono fun x hx=>iK.2 (by simp at hx;omega)).trans (Kp.below (dF _ q)))⟩
theorem V6(n:Net)(f:Fr)(v:Value)(i k:Nat):ends n i k=ends (n.bY 0 ((n.x 0).dg f v)) i k:=nM (n:=n) (i:=0) (M:=(n.x 0).dg f v) ⟨fun _=>⟨rfl,rfl⟩,fun _=>⟨rfl,rfl⟩⟩ i k
theorem FT(h:bL oZ w a n vb (ends n))(S:ByteArray)(hy:(n.x 0).why=0)(hl:(n.x 0).least<=n.nx)(X:n.nx<4611686018427387000)(Ym:n.now<4611686018427387000)(hm:(n.x 0).aM=a.aM)(I:64<=a.aM/\a.aM<=400)(hS:S.size+40<=a.aM)(hq:(n.x 0).queue.length<16)(hd:∀f∈(n.x 0).queue,(n.x 0).tick<=f.deadline)(ht:(n.x 0).tick<=n.now+5)(V:n.gl<=1000):
  Calls prog 37 #[ay a.N 0,iZ 0,.agg #[iZ 4,iZ 0,iZ 5,iZ 0,.string S]] w fun e w'=>e=.returned (.bool true)/\∃v gv,nL oZ w a (n.dgN S v gv) w':=by
 obtain⟨w1,G⟩:∃w1,w1=w.alloc (.cells (nW 4 0 5 0 S).toArray 37):=⟨_,rfl⟩
 have H:aD w w1:=by rw[G];exact(sQ _ w).alloc (mR _) _
 have B1:aA w1 w.heap.size 37 (nW 4 0 5 0 S):=by rw[G];exact aA.new w 37 _
 have O:=h.loc.below H;have ob:loc oZ w.heap.size w.heap.size=0:=fD _ _ _ (mR _);have K1:Kp TN (loc oZ w.heap.size) (loc oZ w.heap.size) w w1:=Kp.below H;obtain⟨c0,_,_,c4,c5,_⟩:=O.cells;obtain⟨e1,_,e3⟩:=O.gnb
 have e5:((n.now+5:Nat):Int)=(n.now:Int)+5:=by omega
 refine Jr a.N a.xb a.xc a.gb a.gc a.nb a.nc (a.C 0) n.now n.nx a.aM S hS I.2 Ym X w w1 (fun w'=>∃v gv,nL oZ w a (n.dgN S v gv) w') G c0 e3 c4 c5 (O.xs 0 (by omega)).1 e1 (fun y F=>?_);have h3:=O.below F;have:=FQ h3 n.nx (n.now+5) S hy (by omega) (by omega) hl (by rw[hm];exact I) (by rw[hm];exact hS) hq hd ht;rw[e5]at this;refine this.mono ?_;rintro e w2 ⟨rfl,v,o2,K,U⟩;obtain⟨d0,_⟩:=K.cells;obtain⟨f1,_,f3⟩:=K.gnb;have B2:aA w2 w.heap.size 37 (nW 4 0 5 0 S):=aO (bI F B1) U (by rw[ob];exact fun e=>by have:=bN.1 e;omega)
 have Z:o2 w.heap.size=0:=by rw[U.ext _ (bI F B1).lt];exact ob
 refine⟨rfl,⟨d0,(K.xs 0 (by omega)).1,f3,f1,B2.cell 4⟩,?_⟩;have g3:=K.Al (E':=ends (n.bY 0 ((n.x 0).dg (uo n.nx (n.now+5) S) v))) (fun j k _ _=>V6 n _ v j k)
 exact NN (bQ:=loc oZ w.heap.size) (w0:=w) g3 (K1.trans ((Kp.below F).trans (U.mono (pR 0 (by omega))))) w.heap.size (n.now+5) S B2 Z V _ fun gv w' hF=>⟨v,gv,nL.jm hF⟩
theorem V7(N xb xc C:Nat)(S:ByteArray)(w w1:World)(wR:World->Prop)(F:w1=w.alloc (.cells (nW 4 0 5 0 S).toArray 37))(c0:w1.cell? (aj N 0)=some (aS xb 2 xc))(x1:w1.cell? (aj xb 0)=some (ay C 0))(H:Calls prog 37 #[ay N 0,iZ 0,.agg #[iZ 4,iZ 0,iZ 5,iZ 0,.string S]] w1 fun x w2=>x=.returned (.bool true)/\wR w2):
  Calls prog 22 #[ay N 0,.agg #[iZ 4,iZ 0,iZ 5,iZ 0,.string S]] w fun e w'=>e=.returned (.bool true)/\wR w':=by
 have p1:bX 0 2=0:=by decide
 have p2:bX 5 8=5:=by decide
 have B1:aA w1 w.heap.size 37 (nW 4 0 5 0 S):=by rw[F];exact aA.new w 37 _
 have b0:=B1.cell 0;have U:=B1.cell 1;have b2:=B1.cell 2;have b3:=B1.cell 3;have b4:=B1.cell 4;simp only[nW,tT,tL]at b0 U b2 b3 b4;have K:=au H;have X:w.alloc (.cells #[iZ 4,iZ 0,iZ 5,iZ 0,.string S] 37)=w1:=F.symm
 have i5:nN 5:=by unfold nN;omega
 have Z:nN 0:=by unfold nN;omega
 clear H F B1;go_enter func22,ntmps22
 go_wp2_with (first
  |(go_at_call 32;refine(iH _ _ (by assumption) (by decide) _).mono ?_;rintro V w4 ⟨rfl,G⟩;subst G)
  |(go_at_call 37;refine K.out.mono ?_;rintro V w2 ⟨rfl,I⟩;have O:=au I;clear I))
 go_ret;exact⟨rfl,O.out⟩
theorem FW(h:bL oZ w a n vb (ends n))(S:ByteArray)(hy:(n.x 0).why=0)(hl:(n.x 0).least<=n.nx)(O:n.nx<4611686018427387000)(V:n.now<4611686018427387000)(hm:(n.x 0).aM=a.aM)(K:64<=a.aM/\a.aM<=400)(hS:S.size+40<=a.aM)(hq:(n.x 0).queue.length<16)(hd:∀f∈(n.x 0).queue,(n.x 0).tick<=f.deadline)(ht:(n.x 0).tick<=n.now+5)(I:n.gl<=1000):
  Calls prog 22 #[ay a.N 0,.agg #[iZ 4,iZ 0,iZ 5,iZ 0,.string S]] w fun e w'=>e=.returned (.bool true)/\∃v gv,nL oZ w a (n.dgN S v gv) w':=by
 obtain⟨w1,G⟩:∃w1,w1=w.alloc (.cells (nW 4 0 5 0 S).toArray 37):=⟨_,rfl⟩
 have F:aD w w1:=by rw[G];exact(sQ _ w).alloc (mR _) _
 have H:=h.below F;obtain⟨c0,_⟩:=H.cells;refine V7 a.N a.xb a.xc (a.C 0) S w w1 (fun w'=>∃v gv,nL oZ w a (n.dgN S v gv) w') G c0 (H.xs 0 (by omega)).1 ((FT H S hy hl O V hm K hS hq hd ht I).mono ?_);rintro e w' ⟨rfl,v,gv,o,U,X,Z⟩;exact⟨rfl,v,gv,o,U,X,(Kp.below F).trans Z⟩
end

end
structure UgP (aM j:Nat) (n:Net):Prop where
 loc:dD (n.x 0).nq
 ab:bn (n.x 0) (n.x 1)
 ba:bn (n.x 1) (n.x 0)
 bd:Bd (n.x 0)
 mt:(n.x 0).aM=aM
 ct:n.cnt 0=(n.x 0).next
 Og:KQ (n.x 0)
 wy:(n.x 0).aF=[]
 an:(n.x 0).answer=false
 ql:(n.x 0).queue.length=j
 qf:∀f∈(n.x 0).queue,QF f
 tk:(n.x 0).tick=0
 ls:(n.x 0).least=j
 nb:rR n 0
 bg:n.bP=[]
 nw:n.now=0
 gl:n.gl=j
 nx:n.nx=j
theorem V9(aM:Nat):KQ (Side.new aM 315 615):=by
 refine⟨rfl,?_,fun k G=>?_,fun k=>?_,fun f F=>by cases F⟩
 ·show(Gn.new 615).waits ((E8 8 (bU.new 315)).foldl (fun s i=>min (s+i.free) aZ) 0)=false
  decide +kernel
 ·rcases(show k=0\/k=1\/k=2\/k=3\/k=4\/k=5\/k=6\/k=7 by omega)with rfl|rfl|rfl|rfl|rfl|rfl|rfl|rfl<;>rfl
 ·by_cases G:k<8
  ·rcases(show k=0\/k=1\/k=2\/k=3\/k=4\/k=5\/k=6\/k=7 by omega)with rfl|rfl|rfl|rfl|rfl|rfl|rfl|rfl<;>rfl
  ·show((E8 8 (Ot.new 315)).getD k su).nt.given=false;rw[fA,List.getElem?_eq_none (by simp;omega)];rfl
theorem Yr(aM:Nat)(G:64<=aM/\aM<=400):UgP aM 0 (Net.new aM 315 615):=by
 have p:=zK aM 315 615 G (by omega) (by omega);exact⟨(p.loc 0 (by omega)).nq,p.two 0 (by omega),p.two' 0 (by omega),p.bd 0 (by omega),rfl,rfl,V9 aM,rfl,rfl,rfl,(fun f F=>by cases F),rfl,rfl,⟨fun i hi=>⟨by show 0+_<aZ;decide,by show 0+0<_;decide⟩,by show 0+0<_;decide⟩,rfl,rfl,rfl,rfl⟩
theorem V_{aM:Nat}{n:Net}(p:eY aM n)(h:UgP aM 0 n)(k:Nat)(S:ByteArray):eY aM (n.jJ 0 k S)/\UgP aM 0 (n.jJ 0 k S):=by
 have p2:eY aM (n.jJ 0 k S):=jI p 0 (by omega) _ (D8 (p.loc 0 (by omega)) (p.two 0 (by omega)) (p.two' 0 (by omega)) _ _) (J7 (p.bd 0 (by omega)) _ _) rfl rfl;have e:(n.jJ 0 k S).x 0=(n.x 0).bf k (((n.x 0).out k).send S.data.toList).1:=b_ _ _ _
 have F:∀(o:Ot) b,(o.send b).1.nt=o.nt:=fun o b=>by unfold Ot.send;split;rfl;split<;>rfl
 refine⟨p2,(p2.loc 0 (by omega)).nq,p2.two 0 (by omega),p2.two' 0 (by omega),p2.bd 0 (by omega),p2.mt 0 (by omega),p2.ct 0 (by omega),?_,by rw[e];exact h.wy,by rw[e];exact h.an,by rw[e];exact h.ql,by rw[e];exact h.qf,by rw[e];exact h.tk,by rw[e];exact h.ls,h.nb.bY 0 rfl rfl,h.bg,h.nw,h.gl,h.nx⟩;rw[e];refine⟨(eX _ _ _).trans h.Og.lo,h.Og.gr,h.Og.inn,fun i=>?_,h.Og.qk⟩;rw[gK];split
 ·rw[F];exact h.Og.nt k
 ·exact h.Og.nt i
theorem ZM(id dl:Nat)(S:ByteArray)(h1:id<=aZ)(I:dl<=aZ)(V:S.size<=1000):QF (uo id dl S):=by
 have z:0<=aZ:=nI _
 have F:aZ<18446744073709551616:=by decide
 have G:(0:Nat)<18446744073709551616:=by decide
 refine⟨rfl,rfl,⟨nI _,by show S.size<=_;omega,by show(-9223372036854775808:Int)<=7/\(7:Int)<=9223372036854775807;decide,by show(-9223372036854775808:Int)<=0/\(0:Int)<=9223372036854775807;decide,⟨G,G,G,Av h1 F,Av I F⟩,fun j U=>absurd U (Nat.not_lt_zero _)⟩,snd_mk _ (by show(1:Int)<=7/\(7:Int)<=8;decide) ⟨z,z,z,h1,I⟩ (by show(0:Int)<=0/\(0:Int)<8;decide) rfl,rfl,?_⟩;have e:aG (uo id dl S)=([]++aR (uo id dl S) (0,48)++aR (uo id dl S) (3,284)++aR (uo id dl S) (3,285)++aR (uo id dl S) (4,0)):=rfl;have K:aR (uo id dl S) (4,0)=Num.bytes S.size++S.data.toList:=rfl
 have H:∀k,aR (uo id dl S) (3,k)=Num.bytes (fieldAt (uo id dl S) k):=fun _=>rfl
 have O:aR (uo id dl S) (0,48)=[UInt8.ofNat 48]:=rfl;rw[e,K,H,H,O];have:=dQ (fieldAt (uo id dl S) 284);have:=dQ (fieldAt (uo id dl S) 285);have:=dQ S.size
 have hs:S.data.toList.length=S.size:=by simp
 simp only[Am,List.length_nil,List.length_cons];omega
theorem ZN{aM j:Nat}{n:Net}(h:UgP aM j n)(S:ByteArray)(K:S.size<=1000)(V:j<=1000)(v gv:Value):UgP aM (j+1) (n.dgN S v gv):=by
 have e:(n.dgN S v gv).x 0=(n.x 0).dg (uo n.nx (n.now+5) S) v:=b_ n 0 _;have H:(n.dgN S v gv).x 1=n.x 1:=eU n 0 1 ((n.x 0).dg (uo n.nx (n.now+5) S) v) (by omega);have I:=h.nx;have O:=h.nw;have U:aZ=4611686018427387903:=rfl;have G:=h.loc;have hB:=h.bd;refine⟨?_,?_,?_,?_,by rw[e];exact h.mt,by rw[e];exact h.ct,?_,by rw[e];exact h.wy,by rw[e];exact h.an,?_,?_,by rw[e];exact h.tk,?_,?_,h.bg,h.nw,by show n.gl+1=_;rw[h.gl],by show n.nx+1=_;rw[h.nx]⟩
 ·rw[e];exact⟨G.lo,G.li,G.wr,G.sp,G.it,G.gt,G.why,rfl,rfl⟩
 ·rw[e,H];exact⟨h.ab.rd,h.ab.lim,h.ab.came⟩
 ·rw[e,H];exact⟨h.ba.rd,h.ba.lim,h.ba.came⟩
 ·rw[e];exact⟨hB.o,hB.i,hB.g,hB.lm,hB.mt,hB.wy,hB.ls,hB.ky,hB.wl,hB.ll,hB.nm,hB.cm,hB.tk⟩
 ·rw[e];refine⟨h.Og.lo,h.Og.gr,h.Og.inn,h.Og.nt,fun f F=>?_⟩
  rcases DT.1 F with F|F
  ·exact h.Og.qk f F
  ·rw[wz.1 F];rfl
 ·rw[e];show((n.x 0).queue++[_]).length=_;rw[Am,h.ql];rfl
 ·rw[e];intro f F
  rcases DT.1 F with F|F
  ·exact h.qf f F
  ·rw[wz.1 F];exact ZM _ _ _ (by omega) (by omega) K
 ·rw[e];show n.nx+1=_;rw[I]
 ·refine⟨fun i hi=>?_,h.nb.2⟩
  rcases(show i=0\/i=1 by omega)with rfl|rfl
  ·rw[e];exact h.nb.1 0 (by omega)
  ·rw[H];exact h.nb.1 1 (by omega)
theorem R4(x:Int×Int)(f:Fr)(hs:snd f=true):oz x (norm f)=oz x f/\(f.kind=4->(norm f).stream=f.stream):=by
 have G:=mQ f hs
 have F:f.kind=4->(norm f).stream=f.stream:=fun k=>by
  rw[norm_eq f hs,if_neg (by omega),if_neg (by omega),if_neg (by omega),if_pos k]
 refine⟨?_,F⟩;unfold oz;rw[G]
 by_cases k:f.kind=4
 ·rw[F k]
 ·rw[if_neg k,if_neg k]
theorem BQ:∀(l:List Fr) (x:Int×Int),(∀f∈l,snd f=true)->NP x l->NP x (l.map norm)/\(l.map norm).foldl oz x=l.foldl oz x
 |[],_,_,_=>⟨trivial,rfl⟩
 |f::t,x,hs,h=>by
  obtain⟨e,F⟩:=R4 x f (hs f (by simp));obtain⟨G,H⟩:=BQ t (oz x f) (fun g I=>hs g (by simp[I])) h.2;refine⟨⟨fun k=>?_,by rw[e];exact G⟩,by show(t.map norm).foldl oz (oz x (norm f))=_;rw[e,H];rfl⟩;rw[mQ f (hs f (by simp))]at k;rw[F k];exact h.1 k
theorem BR:∀(l:List (Nat×List Fr)) (x:Int×Int),(∀p∈l,∀f∈p.2,snd f=true)->FY x l->FY x (vE l)
 |[],_,_,_=>trivial
 |p::t,x,hs,h=>by
  obtain⟨G,F⟩:=BQ p.2 x (hs p (by simp)) h.1;have:=BR t _ (fun q hq=>hs q (by simp[hq])) h.2.2;refine⟨G,?_,?_⟩
  ·show¬(0<((p.2.map norm).foldl oz x).1/\0<=((p.2.map norm).foldl oz x).2);rw[F];exact h.2.1
  ·show FY ((p.2.map norm).foldl oz x) (vE t);rw[F];exact this
section
def s0:ByteArray:=⟨#[]⟩
def SsW(w:World)(oa:Option Addr)(L:List ByteArray):Prop:=∀j,j<L.length->∃b off,oa=some (aj b off)/\w.cell? (aj b (off+j))=some (.string (L.getD j s0))/\(L.getD j s0).size<=140737488351232
theorem SsW.below{w w':World}{oa:Option Addr}{L:List ByteArray}(h:SsW w oa L)(hb:aD w w'):SsW w' oa L:=fun j G=>by
 obtain⟨b,off,e,h1,F⟩:=h j G;exact⟨b,off,e,cell_of h1 (hb.block b (uj w (aj b _) (by rw[h1]))),F⟩
def UgT(oZ:Own)(w w1:World)(a:Ad)(mt:Nat)(wr:World):Prop:=∃n,eY a.aM n/\UgP a.aM 0 n/\nL oZ w1 a n wr/\a.aM=mt/\Kp TN (fun _=>0) oZ w w1
def UgS(oZ:Own)(w w1:World)(a:Ad)(mt j:Nat)(wr:World):Prop:=∃n,UgP a.aM j n/\nL oZ w1 a n wr/\a.aM=mt/\Kp TN (fun _=>0) oZ w w1
structure UgB (w:World) (N mt:Nat) (sa:Option Addr) (sc:Nat) (Y:List (Nat×List Fr)) (wr:World):Prop where
 PO:aD w wr
 c8:wr.cell? (aj N 8)=some (.slice sa Y.length sc)
 at_:∀i,i<Y.length->∃g,sa=some (aj g 0)/\wr.cell? (aj g (i*2+1))=some (sV (aK (Y.getD i (0,[])).1 (Y.getD i (0,[])).2))
 ln:Y.length<=24
 pk:∀y∈Y,PkC mt y
 tab:TabAt wr
 er:eF wr
 sz:2<=wr.heap.size
section
variable {oZ:Own} {w w1:World} {a:Ad} {mt j:Nat} {wr:World}
theorem UgS.below(h:UgS oZ w w1 a mt j wr):aD w wr:=by
 obtain⟨n,_,⟨o,vb,h1,F⟩,_,K⟩:=h;exact zP (K.trans F)
theorem UgT.s(h:UgT oZ w w1 a mt wr):UgS oZ w w1 a mt 0 wr:=by
 obtain⟨n,_,h⟩:=h;exact⟨n,h⟩
theorem UgB.to{N:Nat}{sa:Option Addr}{sc:Nat}{Y:List (Nat×List Fr)}{w':World}(h:UgB w N mt sa sc Y wr)(hb:aD wr w'):UgB w N mt sa sc Y w':=by
 have F:∀b j v,wr.cell? (aj b j)=some v->w'.cell? (aj b j)=some v:=fun b j v e=>cell_of e (hb.block b (uj wr (aj b j) (by rw[e])))
 refine⟨h.PO.trans (hb.mono h.PO.size),F _ _ _ h.c8,fun i hi=>?_,h.ln,h.pk,fun k G=>F _ _ _ (h.tab k G),F _ _ _ h.er,He h.sz hb.size⟩;obtain⟨g,e,c⟩:=h.at_ i hi;exact⟨g,e,F _ _ _ c⟩
theorem Sz(h:UgT oZ w w1 a mt wr)(k:Nat)(O:k<8)(S:ByteArray)(I:S.size<=300):
  Calls prog 22 #[ay a.N 0,.agg #[iZ 1,iZ 0,iZ k,iZ 0,.string S]] wr fun e w'=>e=.returned (.bool true)/\Hid (UgT oZ w w1 a mt w'):=by
 obtain⟨n,p,u,⟨o,vb,h1,F⟩,m,K⟩:=h;refine(KP h1 p 0 (k:Int) 0 (by unfold nN;omega) (by unfold nN;omega) S (by omega)).mono ?_;rintro e w' ⟨rfl,q⟩;rw[show bX 0 2=0 by decide]at q;obtain⟨G,H⟩:=V_ p u (bX (k:Int) 8) S;exact⟨rfl,_,G,H,q.then F,m,K⟩
theorem SC(h:UgS oZ w w1 a mt j wr)(I:64<=mt/\mt<=400)(H:j<16)(S:ByteArray)(G:S.size<=24):
  Calls prog 22 #[ay a.N 0,.agg #[iZ 4,iZ 0,iZ 5,iZ 0,.string S]] wr fun e w'=>e=.returned (.bool true)/\Hid (UgS oZ w w1 a mt (j+1) w'):=by
 obtain⟨n,u,⟨o,vb,h1,F⟩,m,K⟩:=h;have u1:=u.nx;have u2:=u.nw;have u3:=u.gl;have u4:=u.ls;have u5:=u.ql;have u6:=u.tk;refine(FW h1 S u.loc.why (by omega) (by omega) (by omega) u.mt (by omega) (by omega) (by omega) (fun f _=>by omega) (by omega) (by omega)).mono ?_;rintro e w' ⟨rfl,v,gv,q⟩;exact⟨rfl,_,ZN u S (by omega) (by omega) v gv,q.then F,m,K⟩
theorem SE(h:UgS oZ w w1 a mt j wr)(hm:mt<=400)(hj:j<=16):
  Calls prog 23 #[ay a.N 0,iZ 0] wr fun e w'=>e=.returned (.bool true)/\Hid (∃sa sc Y,FY ((j:Int),-1) Y/\UgB w a.N mt sa sc Y w'):=by
 have X:=h.below;obtain⟨n,u,⟨o,vb,h1,h2⟩,m,K⟩:=h;refine(BU h1 0 (by omega) u.loc ⟨u.qf,by rw[u.ql];exact hj⟩ u.ab u.ba u.bd u.mt u.ct u.nb (by omega) (by rw[u.bg];exact nI _) (fun M pk _ x _ f _ _=>by rw[u.nw];exact nI _)).mono ?_;rintro e w' ⟨rfl,M,pk,I,o1,o2,h0,G,g2⟩;have ok:=V8 I u.wy u.an u.Og;rw[u.ql]at ok;have U:=BR pk _ (fun p hp f hf=>((o1.ok p hp).1.fs f hf).sn) ok
 have Z:(vE pk).length=pk.length:=by unfold vE;rw[Aw]
 have VZ:(n.KL 0 M pk).bP=(vE pk).map fun y=>(1,y):=by
  show n.bP++_=_;rw[u.bg];rfl
 have F:=G.bg;rw[VZ]at F;have H:((vE pk).map fun y=>((1,y):Nat×Nat×List Fr)).length=(vE pk).length:=Aw _;obtain⟨sa,sc,O⟩:=fC F;rw[H]at O;have hsz:=G.gd.sz
 have c8:w'.cell? (aj a.N 8)=some (.slice sa (vE pk).length sc):=by rw[G.net.1.cell,<-O];rfl
 refine⟨rfl,sa,sc,vE pk,U,zP (K.trans (h2.trans g2)),c8,fun i hi=>?_,by have:=o1.next;have:=o1.top;omega,fun y hy=>?_,G.gd.tab,G.er,by omega⟩
 ·obtain⟨g,c,e,_,V⟩:=R9 F i (by rw[H];exact hi);rw[O]at e;simp only[Value.slice.injEq]at e;refine⟨g,e.1,?_⟩;rw[fA,List.getElem?_map,fB hi]at V;rw[fA,fB hi];exact V
 ·obtain⟨x,hx,rfl⟩:=List.mem_map.1 hy;have:=(xq (o1.ok x hx).1).1;rw[u.mt,m]at this;exact this
end

end
structure UoS (Y:List (Nat×List Fr)) (i:Nat) (x1 x2:Int):Prop where
 ok:FY (x1,x2) (Y.drop i)
 lo: -(400*(i:Int))<=x1
 hi:x1<=16
structure UiS (fs:List Fr) (i j:Nat) (y1 y2 x1 x2:Int):Prop where
 ok:NP (x1,x2) (fs.drop j)
 eq:(fs.drop j).foldl oz (x1,x2)=(y1,y2)
 lo: -(400*(i:Int)+(j:Int))<=x1
 hi:x1<=16
theorem drop_at{α:Type}(l:List α)(j:Nat)(d:α)(h:j<l.length):l.drop j=l.getD j d::l.drop (j+1):=by
 rw[fA,fB h];exact List.drop_eq_getElem_cons h
theorem UoS.begin{Y:List (Nat×List Fr)}{i:Nat}{x1 x2:Int}(h:UoS Y i x1 x2)(hi:i<Y.length):∃y1 y2,UiS (Y.getD i (0,[])).2 i 0 y1 y2 x1 x2/\¬(0<y1/\0<=y2)/\(-(400*(i+1:Int))<=y1->y1<=16->UoS Y (i+1) y1 y2):=by
 have h1:=h.ok;rw[drop_at Y i (0,[]) hi]at h1;obtain⟨a,b,c⟩:=h1;obtain⟨⟨y1,y2⟩,F⟩:∃y,y=(Y.getD i (0,[])).2.foldl oz (x1,x2):=⟨_,rfl⟩;rw[<-F]at b c;exact⟨y1,y2,⟨a,F.symm,by have:=h.lo;omega,h.hi⟩,b,fun l1 l2=>⟨c,by omega,l2⟩⟩
theorem UiS.next{fs:List Fr}{i j:Nat}{y1 y2 x1 x2:Int}(h:UiS fs i j y1 y2 x1 x2)(I:j<fs.length):((fs.getD j dS).kind=4->x2<=(fs.getD j dS).stream)/\∀F G,(F,G)=oz (x1,x2) (fs.getD j dS)->UiS fs i (j+1) y1 y2 F G:=by
 have h1:=h.ok;have H:=h.eq;rw[drop_at fs j dS I]at h1 H;refine⟨h1.1,fun F G hz=>⟨by rw[hz];exact h1.2,by rw[hz];exact H,?_,?_⟩⟩
 ·have hq:=congrArg Prod.fst hz;unfold oz at hq;simp only at hq;have:=h.lo;split at hq<;>omega
 ·have hq:=congrArg Prod.fst hz;unfold oz at hq;simp only at hq;have:=h.hi;split at hq<;>omega
theorem UiS.fin{fs:List Fr}{i:Nat}{y1 y2 x1 x2:Int}(h:UiS fs i fs.length y1 y2 x1 x2):y1=x1/\y2=x2:=by
 have:=h.eq;rw[List.drop_length]at this;simp only[List.foldl_nil,Prod.mk.injEq]at this;exact⟨this.1.symm,this.2.symm⟩
theorem Gq(ta:Option Addr)(ts:List ByteArray)(tc:Nat)(ga:Option Addr)(gs:List ByteArray)(gc:Nat)(cm:Int)(hm:nN cm)(w:World)(hT:SsW w ta ts)(hG:SsW w ga gs)(hE:eF w)(hB:TabAt w)(h2:2<=w.heap.size):
  Calls prog 12 #[.slice ta ts.length tc,.slice ga gs.length gc,iZ cm] w fun e w'=>e=.returned (.bool true)/\aD w w':=by
 have l1:=fI cm 337 (by omega);obtain⟨mt,hn⟩:∃mt,mt=64+bX cm 337:=⟨_,rfl⟩
 have WG:64<=mt/\mt<=400:=by omega
 have HW:=au (Sy w hE hB h2)
 have HB:Hid (∀y,aD w y->Calls prog 21 #[iZ cm,iZ 299,iZ 599] y fun e w'=>∃N,e=.returned (ay N 0)/\Hid (∃a oZ,a.N=N/\UgT oZ y w' a mt w')):=fun y hb=>by
  have H:∀b j v,w.cell? (aj b j)=some v->y.cell? (aj b j)=some v:=fun b j v e=>cell_of e (hb.block b (uj w (aj b j) (by rw[e])))
  refine(Gp cm 299 599 hm (by unfold nN;omega) (by unfold nN;omega) y (H _ _ _ hE) (fun k hk=>H _ _ _ (hB k hk)) (He h2 hb.size)).mono ?_;rintro e w' ⟨p,rfl,a,oZ,vb,rfl,e1,g1,g2⟩;rw[<-hn,show 16+bX 299 300=315 by decide,show 16+bX 599 600=615 by decide]at g1;rw[<-hn]at e1;exact⟨a.N,rfl,a,oZ,rfl,_,by rw[e1];exact zK mt _ _ WG (by omega) (by omega),by rw[e1];exact Yr mt WG,⟨oZ,vb,g1,Kp.refl _ _ _⟩,e1,g2⟩
 have HT:=au hT;have HG:=au hG;obtain⟨m1,e1⟩:∃m1,m1=ts.length:=⟨_,rfl⟩;obtain⟨m2,e2⟩:∃m2,m2=gs.length:=⟨_,rfl⟩;have xy:=au e1;have EN:=au e2;rw[<-e1,<-e2];clear hT hG e1 e2 hE hB h2 hn l1
 by_cases h8:m1<=8
 ·have y4:¬((8:Int)<(m1:Int)):=by omega
  by_cases y0:m2<=16
  ·have y9:¬((16:Int)<(m2:Int)):=by omega
   go_enter func12,ntmps12
   go_wp2_with (first
    |(go_at_call 15;refine HW.out.mono ?_;rintro e wa ⟨rfl,G⟩;have O:=au G;clear G)
    |(go_at_call 21;refine(HB.out _ O.out).mono ?_;rintro e wb ⟨N,rfl,h1⟩))
   obtain⟨a,oZ,rfl,hU⟩:=h1.out;have Z:=au hU;clear hU h1 HB HW
   go_loopw [9] (fun s9 wr=>∃k:Nat,k<=m1/\s9=(iZ k)/\Hid (UgT oZ wa wb a mt wr)) (fun s9 _=>m1-(intOf s9).toNat)
   case atStart=>exact⟨0,nI _,rfl,Z⟩
   case round=>
    obtain⟨k,hk,rfl,HR⟩:=hrel;clear Z
    by_cases yq:k<m1
    ·have ye:(k:Int)<(m1:Int):=by omega
     have HY:Hid (aD w wr):=O.out.trans (HR.out.s.below.mono O.out.size);obtain⟨b,off,rfl,d0,d1⟩:=(HT.out.below HY.out) k (by have:=xy.out;omega);generalize ts.getD k s0=D at *
     by_cases ya:D.size<=300
     ·have ZX:¬((300:Int)<(D.size:Int)):=by omega
      have HC:=au (Sz HR.out k (by omega) D ya)
      go_wp2_with (go_at_call 22;refine HC.out.mono ?_;rintro e w2 ⟨rfl,h9⟩)
      go_roundw
      case rel=>exact⟨k+1,by omega,by simp,h9⟩
      case measure=>simp[intOf];omega
     ·have ZX:(300:Int)<(D.size:Int):=by omega
      go_wp2;go_ret;exact⟨rfl,HY.out⟩
    ·obtain rfl:k=m1:=by omega
     have I4:=au HR.out.s;clear HR;go_wp2
     go_loopw [11] (fun hr wr=>∃k:Nat,k<=m2/\hr=(iZ k)/\Hid (UgS oZ wa wb a mt k wr)) (fun hr _=>m2-(intOf hr).toNat)
     case atStart=>exact⟨0,nI _,rfl,I4⟩
     case round=>
      obtain⟨k2,ym,rfl,HR⟩:=hrel;clear I4;have HY:Hid (aD w wr):=O.out.trans (HR.out.below.mono O.out.size)
      by_cases yf:k2<m2
      ·have yv:(k2:Int)<(m2:Int):=by omega
       obtain⟨b,off,rfl,d0,d1⟩:=(HG.out.below HY.out) k2 (by have:=EN.out;omega);generalize gs.getD k2 s0=D at *
       by_cases y3:D.size<=24
       ·have yd:¬((24:Int)<(D.size:Int)):=by omega
        have HC:=au (SC HR.out WG (by omega) D y3)
        go_wp2_with (go_at_call 22;refine HC.out.mono ?_;rintro e w2 ⟨rfl,h9⟩)
        go_roundw
        case rel=>exact⟨k2+1,by omega,by simp,h9⟩
        case measure=>simp[intOf];omega
       ·have yd:(24:Int)<(D.size:Int):=by omega
        go_wp2;go_ret;exact⟨rfl,HY.out⟩
      ·obtain rfl:k2=m2:=by omega
       have HF:=au (SE HR.out WG.2 y0);clear HR HT HG
       go_wp2_with (go_at_call 23;refine HF.out.mono ?_;rintro e w2 ⟨rfl,H1⟩)
       obtain⟨sa,sc,Y,xt,he⟩:=H1.out;clear HF H1 HY;obtain⟨m,em⟩:∃m,m=Y.length:=⟨_,rfl⟩;have HM:=au em;have x7:=au he
       have yy:m<=24:=by have:=he.ln;omega
       have HO:Hid (UoS Y 0 (k2:Int) (-1)):=⟨xt,by omega,by omega⟩;clear xt he em
       go_loopw [14,15,16] (fun hu hv hw wr=>∃(i:Nat) (x1 x2:Int),i<=m/\hw=(iZ i)/\hv=(iZ x1)/\hu=(iZ x2)/\Hid (UoS Y i x1 x2)/\Hid (UgB wa a.N mt sa sc Y wr)) (fun _ _ hw _=>m-(intOf hw).toNat)
       case atStart=>exact⟨0,(k2:Int),-1,nI _,rfl,rfl,rfl,HO,x7⟩
       case round=>
        obtain⟨i,x1,x2,hi,rfl,rfl,rfl,HO,Z⟩:=hrel;clear x7;have c8:=Z.out.c8;rw[<-HM.out]at c8
        by_cases Tt:i<m
        ·have Yb:(i:Int)<(m:Int):=by omega
         have hg:i<Y.length:=by have:=HM.out;omega
         obtain⟨g,rfl,d0⟩:=Z.out.at_ i hg;obtain⟨y,ey⟩:∃y,y=Y.getD i (0,[]):=⟨_,rfl⟩;have hy:PkC mt y:=Z.out.pk y (by rw[ey,fA,fB hg];exact List.getElem_mem _);obtain⟨y1,y2,ha,xr,V⟩:=HO.out.begin hg;rw[<-ey]at d0 ha;have h7:=au ha;have wG:=au V;have xz:=au xr;obtain⟨D,hD⟩:∃D:ByteArray,D=⟨(aK y.1 y.2).toArray⟩:=⟨_,rfl⟩
         have xa:D.data.toList=aK y.1 y.2:=by rw[hD]
         have y5:D.size=(aK y.1 y.2).length:=by rw[hD];exact(iI _).2
         unfold sV at d0;rw[<-hD]at d0;have hsz:=hy.sz;have y8:=hy.ps;obtain⟨cp,W,y6,xi,xj,xe,xf,xv⟩:=jH wr D (by omega);have U:=Z.out.to xe;have xl:=BM y D wr.heap.size cp W (by rw[xa];exact hy.dec) hy.nm xf (by omega) (by omega) xv.lt U.tab U.er U.sz;have HD:=au xl;obtain⟨fs,hf⟩:∃fs,fs=y.2:=⟨_,rfl⟩;rw[<-hf]at HD h7;obtain⟨I,Mk⟩:∃I,I=fs.length:=⟨_,rfl⟩;rw[<-Mk]at HD
         have yz:I<=400:=by rw[Mk,hf];exact hy.ln
         have x4:=au Mk;have x8:=au U;generalize y.1=yn at *;clear xl U xf xv xa y5 hD hsz y8 hy V xr ha HO Mk hf ey xe
         go_wp2_with (go_at_call 24;refine HD.out.mono ?_;rintro e w3 ⟨Ju,Oh,rfl,xd,xo⟩;have h6:=au xd;have x3:=au xo;clear xd xo)
         obtain⟨W4,um⟩:∃W4,W4=w3.alloc (.cells #[uZ yn,.slice Ju I Oh] 56):=⟨_,rfl⟩;obtain⟨pb,ho⟩:∃pb,pb=w3.heap.size:=⟨_,rfl⟩
         have x9:aD W W4:=by rw[um];exact h6.out.alloc h6.out.size _
         have B5:aA W4 pb 56 [uZ yn,.slice Ju I Oh]:=by rw[um,ho];exact aA.new w3 56 _
         have xp:GD W.heap.size W4 Ju fs:=by rw[um];exact x3.out.below ((sQ w3.heap.size w3).alloc (mR _) _)
         have H4:=au (And.intro (x8.out.to x9) (And.intro B5 xp));rw[<-um,<-ho];clear um ho x9 B5 xp h6 x3 x8 HD y6 d0 c8 xi xj Z
         go_loopw [14,15,20] (fun hu hv hx x0=>∃(j:Nat) (z1 z2:Int),j<=I/\hx=(iZ j)/\hv=(iZ z1)/\hu=(iZ z2)/\Hid (UiS fs i j y1 y2 z1 z2)/\Hid (UgB wa a.N mt (some (aj g 0)) sc Y x0/\aA x0 pb 56 [uZ yn,.slice Ju I Oh]/\GD W.heap.size x0 Ju fs)) (fun _ _ hx _=>I-(intOf hx).toNat)
         case atStart=>exact⟨0,x1,x2,nI _,rfl,rfl,rfl,h7,H4⟩
         case round=>
          obtain⟨j,z1,z2,hj,rfl,rfl,rfl,HI,H5⟩:=hrel;clear h7 H4;obtain⟨h3,B5,h4⟩:=H5.out;have b1:=B5.cell 1;simp only[tT,tL]at b1
          by_cases yp:j<I
          ·have ys:(j:Int)<(I:Int):=by omega
           have xn:j<fs.length:=by have:=x4.out;omega
           obtain⟨b,off,ra,rn,rc,rfl,_,H⟩:=h4 j xn;obtain⟨xx,V⟩:=HI.out.next xn;have X:=au V;have y7:=HI.out.lo;have xm:=HI.out.hi;obtain⟨F,hF⟩:∃F,F=fs.getD j dS:=⟨_,rfl⟩;rw[<-hF]at H xx X;have q0:=H 0 (by omega);have q1:=H 1 (by omega);have q2:=H 2 (by omega);have q3:=H 3 (by omega);have q4:=H 4 (by omega);have q5:=H 5 (by omega);have q6:=H 6 (by omega);have q7:=H 7 (by omega);have q8:=H 8 (by omega);have q9:=H 9 (by omega);simp only[tT,tL,Nat.add_zero]at q0 q1 q2 q3 q4 q5 q6 q7 q8 q9
           have H6:Hid (∀W5,aD wr W5->UgB wa a.N mt (some (aj g 0)) sc Y W5/\aA W5 pb 56 [uZ yn,.slice (some (aj b off)) I Oh]/\GD W.heap.size W5 (some (aj b off)) fs):=fun W5 h5=>⟨h3.to h5,bI h5 B5,h4.below h5⟩
           clear h3 B5 h4 H H5 hF V;unfold oz at X;simp only at X
           have yr:IntKind.i64.wrap (z1-1)=z1-1:=by rw[IntKind.wrap_i64];omega
           by_cases k7:F.kind=7
           ·have e7:(F.kind==(7:Int))=true:=by simp[k7]
            have e4:(F.kind==(4:Int))=false:=by simp[k7]
            rw[if_pos k7,if_neg (by omega)]at X;have K:=au (X.out _ _ rfl);go_wp2;go_roundw
            case rel=>exact⟨j+1,_,_,by omega,by simp,rfl,rfl,K,au (H6.out _ ((sQ wr.heap.size wr).alloc (mR _) _))⟩
            case measure=>simp[intOf];omega
           ·have e7:(F.kind==(7:Int))=false:=by simp[k7]
            rw[if_neg k7]at X
            by_cases k4:F.kind=4
            ·have e4:(F.kind==(4:Int))=true:=by simp[k4]
             rw[if_pos k4]at X
             have yi:¬(F.stream<z2):=by have:=xx k4;omega
             have K:=au (X.out _ _ rfl);go_wp2;go_roundw
             case rel=>exact⟨j+1,_,_,by omega,by simp,rfl,rfl,K,au (H6.out _ ((sQ wr.heap.size wr).alloc (mR _) _))⟩
             case measure=>simp[intOf];omega
            ·have e4:(F.kind==(4:Int))=false:=by simp[k4]
             rw[if_neg k4]at X;have K:=au (X.out _ _ rfl);go_wp2;go_roundw
             case rel=>exact⟨j+1,_,_,by omega,by simp,rfl,rfl,K,au (H6.out _ ((sQ wr.heap.size wr).alloc (mR _) _))⟩
             case measure=>simp[intOf];omega
          ·obtain rfl:j=I:=by omega
           have hI:=HI.out;have y7:=hI.lo;have xm:=hI.hi;rw[x4.out]at hI;obtain⟨rfl,rfl⟩:=hI.fin;have x5:=au (wG.out (by omega) xm);have x6:=au h3;clear hI HI H5 h3 B5 h4
           by_cases h0:0<y1
           ·have yk:¬(0<=y2):=fun h=>xz.out ⟨h0,h⟩
            go_wp2;go_roundw
            case rel=>exact⟨i+1,_,_,by omega,by simp,rfl,rfl,x5,x6⟩
            case measure=>simp[intOf];omega
           ·go_wp2;go_roundw
            case rel=>exact⟨i+1,_,_,by omega,by simp,rfl,rfl,x5,x6⟩
            case measure=>simp[intOf];omega
        ·obtain rfl:i=m:=by omega
         have HZ:Hid (aD w wr):=O.out.trans (Z.out.PO.mono O.out.size);clear Z HO;go_wp2;go_ret;exact⟨rfl,HZ.out⟩
  ·have y9:(16:Int)<(m2:Int):=by omega
   clear HB HT HG;go_enter func12,ntmps12
   go_wp2_with (go_at_call 15;refine HW.out.mono ?_;rintro e wa ⟨rfl,G⟩;have O:=au G;clear G)
   go_ret;exact⟨rfl,O.out⟩
 ·have y4:(8:Int)<(m1:Int):=by omega
  clear HB HT HG;go_enter func12,ntmps12
  go_wp2_with (go_at_call 15;refine HW.out.mono ?_;rintro e wa ⟨rfl,G⟩;have O:=au G;clear G)
  go_ret;exact⟨rfl,O.out⟩
