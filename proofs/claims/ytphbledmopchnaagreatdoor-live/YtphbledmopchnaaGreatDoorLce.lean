import Derived.Test.YtphbledmopchnaaGreatDoorLcc
import Derived.Deep.RegionHeld3
open Go.RowKit.Below renaming heap_setCell->eB,heap_alloc->lg,refl->mI
open Bool renaming and_eq_true->mE
open Int renaming toNat_of_nonneg->nP,natCast_emod->nV
open List renaming length_append->j3,getElem?_eq_getElem->mK,length_map->nA,length_singleton->nI,length_drop->og,length_set->qx
open Nat renaming le_refl->eT,zero_add->mR,zero_le->nU
set_option maxHeartbeats 4000000
set_option maxRecDepth 100000
namespace Go.Proofs.YtphbledmopchnaaGreatDoor
open Go.RowKit Go.Lib Go.Shelf Mm Tryz
theorem Mh(p q:Addr)(w:World):CallsD prog 160 #[.pointer (some p),.pointer (some q)] .returning w fun e d w'=>e=.returned (.tuple #[])/\d=.returning/\w'=w:=by have a:∀w:World,(binOp BinOp.eql 20 .nilIface .nilIface).run prog w=.ok (.bool true) w:=fun _=>bH;refine callsD_of_wpS func160 rfl fun b cs c=>?_;apply wpS_seq;apply wpS_region;simp[wpOpsS,go_sem,recoverD,c,ntmps160,Exit.thenS];refine wpS_of_wp ?_;simp[Array.replicate];go_wp2;cases b;simp_all[bodyPostS,results,results160]
theorem qb8(w:World)(a:Addr)(v:Value):(w.setCell a v).os=w.os:=rfl
theorem Uy(w:World)(a:Addr)(v:Value):(w.setCell a v).tape=w.tape:=rfl
theorem Mq(w:World)(a:Addr)(v:Value):(w.setCell a v).output=w.output:=rfl
theorem Uz(w:World)(a:Addr)(v:Value):(w.setCell a v).heap.size=w.heap.size:=aP
theorem Gg{w:World}{fb:Nat}{f:Fr}{ra:Option Addr}{rc:Nat}(hF:aS w fb 65 (iL f (.slice ra f.ranges.length rc)))(c:eX 170 2 w (.slice ra f.ranges.length rc) f.ranges.length (bQ f.ranges))(ok:lM f):nX w fb 0 f ra rc:=
 ⟨hF.cell 0,hF.cell 1,hF.cell 2,hF.cell 3,hF.cell 4,hF.cell 5,hF.cell 6,hF.cell 7,hF.cell 8,hF.cell 9,fun i hi=>by obtain⟨h,j⟩:=vW _ i hi;obtain⟨d,a,e,_⟩:=c.cell rfl _ _ h;obtain⟨b2,b,g,_⟩:=c.cell rfl _ _ j;rw[a]at b;cases b;exact⟨d,0,a,by rw[mR];exact e,by rw[mR];exact g,ok.r0 i hi⟩,ok.Bv,ok.Bw,ok.k0,ok.s0,ok.u0⟩
theorem Qq(f:Fr)(hs:snd f=true)(ok:lM f)(rb yb yo cap:Nat)(body:List UInt8)(p bg:Nat)(rest:List UInt8)(w:World)(h:gZ w rb yb yo cap body p bg)(hb:body.drop p=bD f++rest)(h9:rb<w.heap.size)(ha:yb<w.heap.size):Calls prog 164 #[aI rb 0] w fun e w'=>∃v9,e=.returned (.agg (iL (norm f) v9).toArray)/\eX 170 2 w' v9 (norm f).ranges.length (bQ (norm f).ranges)/\Own (w.heap.size+1) v9/\gZ w' rb yb yo cap body (p+(bD f).length) p/\uQ w.heap.size rb rb w w':=by
 obtain⟨F,hF⟩:∃F,norm f=F:=⟨_,rfl⟩;have C:Hid (norm f=F/\snd F=true/\lM F):=⟨hF,by rw[<-hF];exact Cn f hs,by rw[<-hF];exact Oo f hs ok⟩;rw[hF];clear hF;obtain⟨x,t,B,hK⟩:=Co f hs;have R:body.drop p=[x]++(t++rest):=by rw[hb,B];rfl
 obtain⟨hp,G⟩:=zh R;have S:=h.byte p hp;rw[G]at S;have x0:w.cell? (aB rb 0)=some (.slice (some (aB yb yo)) body.length cap):=h.cZ.cell 0;have x1:w.cell? (aB rb 1)=some (iZ p):=h.cZ.cell 1;have x2:w.cell? (aB rb 2)=some (iZ bg):=h.cZ.cell 2;have z2:=h.cZ.frozen 2;have hj:=h.ne;have hm:(p:Int)<(body.length:Int):=aj;have HK:=aG hK;have HH:=aG h;have HB:=aG hb;have zK:=aG G;clear hK h hb R B G;go_enter func164,ntmps164;go_upto_region 2 with fail;generalize Q:(w.setCell (aB rb 2) (iZ p)).alloc (.cells #[iZ 0,iZ 0,uZ 0,uZ 0,uZ 0,.bool false,uZ 0,uZ 0,.string ⟨#[]⟩,nZ] 65)=W;have q:W.heap.size=w.heap.size+1:=by rw[<-Q];simp
 have s:gZ W rb yb yo cap body p p:=by have h:=HH.out;rw[<-Q];have h2:gZ (w.setCell (aB rb 2) (iZ p)) rb yb yo cap body p p:=⟨h.cZ.setCell 2 _,h.bts.of (fun x B=>by simp at B;subst B;exact eB _ _ _ _ (Ne.symm h.ne)),h.le,h.au,h.cap,h.ne⟩;exact h2.of (lg _ _ _ (by simpa using h9)) (lg _ _ _ (by simpa using ha))
 have E:aS W w.heap.size 65 [iZ 0,iZ 0,uZ 0,uZ 0,uZ 0,.bool false,uZ 0,uZ 0,.string ⟨#[]⟩,nZ]:=by rw[<-Q];have:=aS.new (w.setCell (aB rb 2) (iZ p)) 65 [iZ 0,iZ 0,uZ 0,uZ 0,uZ 0,.bool false,uZ 0,uZ 0,.string ⟨#[]⟩,nZ];simpa using this
 have j:uQ w.heap.size rb rb w W:=by rw[<-Q];exact⟨rfl,rfl,rfl,aP,fun k n h1 _=>by rw[lg _ _ _ (by simpa using n),eB _ _ _ _ h1]⟩
 have k0:W.cell? (aB rb 0)=some (.slice (some (aB yb yo)) body.length cap):=s.cZ.cell 0;have k1:W.cell? (aB rb 1)=some (iZ p):=s.cZ.cell 1;have kb:=s.byte p hp;rw[zK.out]at kb;have l1:rb<W.heap.size:=aj;have l2:yb<W.heap.size:=aj;have HW:=aG (dB q (dB s (dB E j)));clear Q q s E j x0 x1 x2 z2 S HH;go_cut [3]from 11 to 22 (fun s3 Z=>s3=(aI W.heap.size 0)/\Z.heap=(W.alloc (.cells #[iZ f.aC,iZ 0,uZ 0,uZ 0,uZ 0,.bool false,uZ 0,uZ 0,.string ⟨#[]⟩,nZ] 65)).heap/\Z.os=W.os/\Z.tape=W.tape/\Z.output=W.output);case first=>go_region_with (go_at_call 215;refine bN (HK.out _) ?_;rintro w4 J;subst J);all_goals((try go_wp2_with fail);go_meet;exact⟨rfl,rfl,rfl,rfl,rfl⟩)
 case rest=>
  obtain⟨rfl,Y,T,ht,m⟩:=hcut;obtain⟨q,s,E,j⟩:=HW.out;have u:wc.heap.size=W.heap.size+1:=by rw[Y];simp
  have hold:∀b,b<W.heap.size->wc.heap[b]?=W.heap[b]?:=fun b hb=>by rw[Y];exact lg _ _ _ hb
  have hF:aS wc W.heap.size 65 (iL (DV f.aC) nZ):=(aS.new W 65 (iL (DV f.aC) nZ)).of_heap (by rw[Y];rfl);have y0:wc.cell? (aB W.heap.size 0)=some (iZ f.aC):=hF.cell 0;obtain⟨_,H,yL,_⟩:=qU f hs;have D:=aG (Br f.aC wc);rw[decide_eq_true (p:=1<=f.aC/\f.aC<=8) ⟨H,yL⟩]at D;have LP:=aG (qX f.aC H yL wc);have U:∀(wl:World) (fw fr:Value),I6 (wc.heap.size+1) wl f.aC fw fr->bJ wc wl->∃g cb,fr=.func (.func g) #[] cb/\(∀args w,(callFunc g args).run prog w=.ok (.enter g args) w)/\Calls prog g (#[aI rb 0,aI W.heap.size 0]++cb) wl fun e y=>e=.returned (.tuple #[])/\∃v9,RP (wc.heap.size+1) wl.heap.size rb W.heap.size yb yo cap body y (p+(bD f).length) p (F) v9/\uQ wl.heap.size rb W.heap.size wl y:=by
   intro wl fw fr M a;obtain⟨g,cb,h1,h2,h3⟩:=Yj f M hs ok.Bw ok.Bv rb W.heap.size yb yo cap body p;have gQ:wc.heap.size+1<=wl.heap.size:=by
    rcases M with⟨_,o⟩|⟨_,pb,qb,_,_,hB,_⟩
    ·rcases o with⟨_,xb,B,_⟩|⟨h,_⟩|⟨h,_⟩|⟨h,_⟩|⟨h,_⟩|⟨h,_⟩
     ·have:=World.block_lt_of_cell? _ _ B.2;have:=B.1;simp at *
      omega
     all_goals simp at h
    ·have:=World.block_lt_of_cell? _ _ hB.2;have:=hB.1;simp at *
     omega
   refine⟨g,cb,h1,h2,?_⟩;refine(h3 wl p (DV f.aC) nZ rest ⟨eT _,fun _ _ _=>rfl⟩ ⟨?_,hF.of_heap (a.block _ aj),eX.nil _ _ _,Own.nil _,gQ,eT _,aj,aj,aj,aj,aj⟩ rfl HB.out).mono ?_;·exact s.of (by rw[a.block _ aj,hold _ l1]) (by rw[a.block _ aj,hold _ l2])
   ·rintro e y ⟨he,v9,o,X⟩;have P:RP (wc.heap.size+1) wl.heap.size rb W.heap.size yb yo cap body y (p+(bD f).length) p (norm f) v9:=o;rw[C.out.1]at P;exact⟨he,v9,P,X⟩
  have N:=aG U;have h4:=aG (dB u (dB hold (dB T (dB ht m))));clear U Y T ht m q s E j u hold hF H yL k0 k1 kb;go_wp2_with fail;refine bN D.out ?_;rintro w4 J;subst J;go_wp2_with fail;refine LP.out.mono ?_;rintro e wl ⟨fw,fr,rfl,M,a⟩;obtain⟨g1,h5,_,_,h7,_⟩:=M.shape;subst h7;obtain⟨g,cb,h6,eg,hC⟩:=N.out wl _ fr M a;subst h6;have HC:=aG hC;have h0:=aG a;have hg:=qfr g1 g h5 cb;clear hC M a N LP D y0;go_wp2_with fail;refine bN HC.out ?_;rintro y ⟨v9,o,X⟩;obtain⟨ra,rc,hv,_⟩:=o.rT.shape;subst hv;have O:nX y W.heap.size 0 (F) ra rc:=Gg o.sS o.rT C.out.2.2;have X3:=aG (sQ W.heap.size 0 (F) ra rc y O);rw[C.out.2.1]at X3;have HP:=aG o;have L:=aG X;clear o X O HC;go_wp2_with fail;refine bN X3.out ?_;rintro K l;obtain⟨u,hold,T,ht,m⟩:=h4.out;obtain⟨q,s,E,j⟩:=HW.out;have a:=h0.out;have h8:=a.size;have hc:=L.out.size;have d:=HP.out.sS.of_heap (l.block _ aj);have I:∀k,k<W.heap.size->k≠rb->K.heap[k]?=W.heap[k]?:=fun k n h1=>by rw[l.block k aj,L.out.block k aj h1 aj,a.block k aj,hold k n]
  have r:=E.of_heap (I w.heap.size aj aj);have n0:=d.cell 0;have n1:=d.cell 1;have n2:=d.cell 2;have n3:=d.cell 3;have n4:=d.cell 4;have n5:=d.cell 5;have n6:=d.cell 6;have n7:=d.cell 7;have n8:=d.cell 8;have n9:=d.cell 9;have c:=aG (show∀i:Nat,K.frozen? (aB w.heap.size i)=false from fun i=>r.frozen i);have r0:=r.cell 0;have r1:=r.cell 1;have r2:=r.cell 2;have r3:=r.cell 3;have r4:=r.cell 4;have r5:=r.cell 5;have r6:=r.cell 6;have r7:=r.cell 7;have r8:=r.cell 8;have r9:=r.cell 9;have z0:=c.out 0;have z1:=c.out 1;have z2:=c.out 2;have z3:=c.out 3;have z4:=c.out 4;have z5:=c.out 5;have z6:=c.out 6;have z7:=c.out 7;have z8:=c.out 8;have z9:=c.out 9;simp only[iL,List.getElem?_cons_zero,List.getElem?_cons_succ]at n0 n1 n2 n3 n4 n5 n6 n7 n8 n9 r0 r1 r2 r3 r4 r5 r6 r7 r8 r9;have hf:¬(W.heap.size=w.heap.size):=aj;have A:∀z:World,z.os=K.os->z.tape=K.tape->z.output=K.output->z.heap.size=K.heap.size->(∀k,k≠w.heap.size->z.heap[k]?=K.heap[k]?)->eX 170 2 z (.slice ra (F).ranges.length rc) (F).ranges.length (bQ (F).ranges)/\Own (w.heap.size+1) (.slice ra (F).ranges.length rc)/\gZ z rb yb yo cap body (p+(bD f).length) p/\uQ w.heap.size rb rb w z:=fun z e1 e2 e3 e4 V=>by
   have o:=HP.out;refine⟨o.rT.of_heap (fun b hb=>?_),o.own.mono aj,o.rd.of ?_ ?_,?_⟩;·have:=o.own b hb;rw[V b aj,l.block b (o.rT.lt b hb)]
   ·rw[V rb aj,l.block rb aj]
   ·rw[V yb aj,l.block yb aj]
   ·refine⟨?_,?_,?_,by rw[e4];have:=l.size;omega,fun k n h1 _=>?_⟩;·rw[e1,l.os,L.out.os,a.os,T,j.os]
    ·rw[e2,l.tape,L.out.tape,a.tape,ht,j.tape]
    ·rw[e3,l.output,L.out.output,a.output,m,j.output]
    ·rw[V k aj,I k aj h1,j.block k n h1 h1]
  have kV:=aG A;clear A u hold T ht m q s E j a h8 hc d I r l c HP L;go_wp2_with fail;exact bodyPost_ret (v:=.agg #[(iZ (F).aC),(iZ (F).aH),(uZ ((F).aD:Int)),(uZ ((F).aV:Int)),(uZ ((F).aL:Int)),.bool (F).bn,(uZ ((F).id:Int)),(uZ ((F).aW:Int)),.string (F).data,.slice ra (F).ranges.length rc]) (by simp[results,results164,go_sem,r0,r1,r2,r3,r4,r5,r6,r7,r8,r9]) rfl ⟨.slice ra (F).ranges.length rc,rfl,kV.out _ (by simp only[qb8]) (by simp only[Uy]) (by simp only[Mq]) (by simp only[Uz]) (fun k n=>by rw[eB _ _ _ _ n,eB _ _ _ _ n,eB _ _ _ _ n,eB _ _ _ _ n,eB _ _ _ _ n,eB _ _ _ _ n,eB _ _ _ _ n,eB _ _ _ _ n,eB _ _ _ _ n,eB _ _ _ _ n])⟩
theorem PK.same{w:World}{yb yo cap:Nat}{body:List UInt8}{n:Nat}{fs:List Fr}{wr W:World}{v9:Nat->Value}{k:Nat}{s:Value}{p bg:Nat}(h:PK w yb yo cap body n fs wr v9 k s p bg)(a:W.heap=wr.heap)(b:W.os=wr.os)(c:W.tape=wr.tape)(d:W.output=wr.output):PK w yb yo cap body n fs W v9 k s p bg:=
 h.frame ⟨b,c,d,by rw[a];exact eT _,fun _ _ _ _=>by rw[a]⟩ (h.rd.of (by rw[a]) (by rw[a]))
theorem Qs{w:World}{yb yo cap:Nat}{body:List UInt8}{n:Nat}{fs:List Fr}{wr:World}{v9:Nat->Value}{k:Nat}{g:Option Addr}{i p bg:Nat}(h:PK w yb yo cap body n (fs.map norm) wr v9 k (.slice g k i) p bg)(l:k<fs.length)(hl:fs.length<=1000000000)(hs:snd (fs.getD k iM)=true/\lM (fs.getD k iM))(hd:body.drop p=g_ n fs fs.length k)(F:Fr)(hF:norm (fs.getD k iM)=F)(W:World)(s:W.heap=wr.heap)(t:W.os=wr.os)(u:W.tape=wr.tape)(v:W.output=wr.output):Calls prog 164 #[(aI (w.heap.size+2) 0)] W fun e y=>∃ra rc c c' a,e=.returned (.agg #[iZ F.aC,iZ F.aH,uZ F.aD,uZ F.aV,uZ F.aL,.bool F.bn,uZ F.id,uZ F.aW,.string F.data,.slice ra F.ranges.length rc])/\y.cell? (aB w.heap.size 1)=some (.slice g k i)/\w.heap.size<y.heap.size/\(∀E,(Builtin.append_ #[54,54] E #[.slice g k i,dP y.heap.size 1 1]).run prog (y.alloc (.cells #[iZ F.aC,iZ F.aH,uZ F.aD,uZ F.aV,uZ F.aL,.bool F.bn,uZ F.id,uZ F.aW,.string F.data,.slice ra F.ranges.length rc] 65))=.ok (.slice c (k+1) c') a)/\a.cell? (aB w.heap.size 1)=some (.slice g k i)/\a.frozen? (aB w.heap.size 1)=false/\Hid (∃v9 p bg,PK w yb yo cap body n (fs.map norm) (a.setCell (aB w.heap.size 1) (.slice c (k+1) c')) v9 (k+1) (.slice c (k+1) c') p bg/\body.drop p=g_ n fs fs.length (k+1)):=by
 have d:=h.same s t u v;have gQ:=d.gQ;have C:=d.yl;rw[vI n fs fs.length k l]at hd;have o:=Qq (fs.getD k iM) hs.1 hs.2 (w.heap.size+2) yb yo cap body p bg _ W d.rd hd aj aj;rw[hF]at o;refine o.mono ?_;rintro e y ⟨G,rfl,q,r,z,A⟩;obtain⟨ra,rc,B,_⟩:=q.shape;subst B;have m:=d.frame A z;have j:(fs.map norm).getD k iM=F:=by rw[getD_map fs k l,hF]
 obtain⟨c,c',a,D,f,x⟩:=m.app (by simpa using l) (by simpa using hl) F j ra rc q (fun b hb=>bV (r b hb)) (fun b hb e=>FN (r b hb) (d.cp.buf.lt b e));exact⟨ra,rc,c,c',a,rfl,m.box.cell 1,bV m.gQ,D,f.cell 1,f.frozen 1,_,_,_,x,jW hd⟩
theorem jD{P:Program}(w:World){b:Array Oper}{o:Oper}{a:Act}{K:Act->World->Prop}{Q:Exit->Act->World->Prop}{E:Prop}(c:o.guard=none)(s x:Operand)(t d:TypeId)(f:o.op=.call {callee:=.builtin .append,args:=#[s,x],argTypes:=#[t,d]})(vs e:Value)(hs:a.eval s=vs)(j:a.eval x=e)(v':Value)(w':World)(g:(Builtin.append_ #[t,d] o.type #[vs,e]).run P w=.ok v' w')(h:K (a.put o.dst v') w'):if Region.wanted o (yielded b a.tmps)=true then Oper.wp P o a w K Q else E:=by
 have i:Region.wanted o (yielded b a.tmps)=true:=by simp[Region.wanted,c]
 rw[bK i];exact Lib.wp_append_run w s x t d f vs e hs j v' w' g h
theorem wD{P:Program}(w:World){b:Array Oper}{o:Oper}{a:Act}{K:Act->World->Prop}{Q:Exit->Act->World->Prop}{E:Prop}(c:o.guard=none)(g:Nat)(x:Operand)(t:TypeId)(m:o.op=.call {callee:=.value (.func g),args:=#[x],argTypes:=#[t]})(d:Value)(q:a.eval x=d)(k:∀args w,(callFunc g args).run P w=.ok (.enter g args) w){R:Ending->World->Prop}(f:Calls P g #[d] w R)(h:∀e y,R e y->∃v,e=.returned v/\K (a.put o.dst v) y):if Region.wanted o (yielded b a.tmps)=true then Oper.wp P o a w K Q else E:=by
 have p:Region.wanted o (yielded b a.tmps)=true:=by simp[Region.wanted,c]
 rw[bK p];have l:a.eval (.func g)=.func (.func g) #[] #[]:=rfl;have n:(execOp a.eval o).run P w=.ok (.enter g #[d]) w:=by unfold execOp;simp only[m,resolve,List.map_toArray,List.map_cons,List.map_nil,q,l];simp[Deferred.ofValue,invoke,k]
 unfold Oper.wp;rw[n,Oper.upon_enter];refine f.mono ?_;intro e y j;obtain⟨v,rfl,i⟩:=h e y j;exact i
def Jq(P:Nat)(w:World):Nat:=match w.cell? (aB P 1)with
 |some (.slice _ n _)=>n
 |_=>0
theorem Cq(n:Nat)(fs:List Fr)(hn:n<4611686018427387904)(hs:∀j,j<fs.length->snd (fs.getD j iM)=true/\lM (fs.getD j iM))(T:0<fs.length)(hl:fs.length<=1000000000)(yb yo cap:Nat)(body:List UInt8)(d:body=fK n fs)(w:World)(hb:dV w (some (aB yb yo)) body)(g:body.length<cap)(r:cap<=9223372036854775807)(V:yb<w.heap.size):Calls prog 116 #[.slice (some (aB yb yo)) body.length cap] w fun e w'=>∃s v9,e=.returned (.tuple #[.agg #[uZ n,s],.nilIface])/\xq (w.heap.size+3) w' s (fs.map norm) v9 fs.length/\Below w.heap.size w w':=by
 have h7:∀(fn:Fn) (first cap:Array Value) (w:World),(Instr.makeFunc fn first cap).run prog w=.ok (.func fn first cap) w:=fun _ _ _ _=>rfl;obtain⟨C,c⟩:=bZ (((w.alloc (.cells #[uZ 0,nZ] 56)).alloc (.cells #[.nilIface] 94)).alloc (.cells #[.slice (some (aB yb yo)) body.length cap,iZ 0,iZ 0] 257));have h6:C.heap.size=w.heap.size+3:=by rw[c];simp
 have E:Below w.heap.size w C:=by rw[c];exact(((mI _ w).alloc (eT _) _).alloc aP _).alloc (by simp;omega) _
 have hA0:aS C w.heap.size 56 [uZ 0,nZ]:=by rw[c];exact((aS.new w 56 _).alloc _).alloc _
 have M:aS C (w.heap.size+1) 94 [.nilIface]:=by rw[c];have:=(aS.new (w.alloc (.cells #[uZ 0,nZ] 56)) 94 [.nilIface]).alloc (.cells #[.slice (some (aB yb yo)) body.length cap,iZ 0,iZ 0] 257);simpa using this
 have O:gZ C (w.heap.size+2) yb yo cap body 0 0:=by refine⟨?_,hb.of (fun x hx=>by simp at hx;subst hx;exact E.block _ V),nU _,g,r,aj⟩;rw[c];have:=aS.new ((w.alloc (.cells #[uZ 0,nZ] 56)).alloc (.cells #[.nilIface] 94)) 257 [.slice (some (aB yb yo)) body.length cap,(iZ ((0:Nat):Int)),(iZ ((0:Nat):Int))];simpa using this
 have G:body.drop 0=Num.ay n++g_ n fs fs.length 0:=by rw[List.drop_zero,d];exact Ef n fs fs.length
 have HN:=aG (iU (w.heap.size+2) yb yo cap body 0 0 n _ C O hn G);have R:=jW G;have N:∀w1,gZ w1 (w.heap.size+2) yb yo cap body (0+(Num.ay n).length) 0->gM (w.heap.size+2) C w1->w1.cell? (aB w.heap.size 0)=some (uZ 0)/\w1.frozen? (aB w.heap.size 0)=false/\PK w yb yo cap body n (fs.map norm) (w1.setCell (aB w.heap.size 0) (uZ n)) (fun _=>.bool false) 0 nZ (0+(Num.ay n).length) 0:=fun w1 h1 o=>by have hA1:=hA0.of_heap (o.block _ aj);have h:∀b,b≠w.heap.size->(w1.setCell (aB w.heap.size 0) (uZ n)).heap[b]?=w1.heap[b]?:=fun b hb=>eB _ _ _ _ hb;have h5:Below w.heap.size w w1:=E.trans ⟨o.os,o.tape,o.output,Nat.le_of_eq o.size.symm,fun b hb=>o.block b aj⟩;refine⟨hA1.cell 0,hA1.frozen 0,hA1.setCell 0 _,(M.of_heap (o.block _ aj)).of_heap (h _ aj),h1.of (h _ aj) (h _ aj),⟨eX.nil _ _ _,Own.nil _,fun j hj=>absurd hj (Nat.not_lt_zero _)⟩,?_,h5.setCell (p:=(aB w.heap.size 0)) (eT _) _,V⟩;have:=o.size;simp;omega
 have S:∀k p,k<fs.length->body.drop p=g_ n fs fs.length k->p<body.length/\decide (p=body.length)=false:=fun k p hk hd=>by
  rw[vI n fs fs.length k hk]at hd;obtain⟨x,t,hx,_⟩:=Co _ (hs k hk).1;have h1:(body.drop p).length=(bD (fs.getD k iM)).length+(g_ n fs fs.length (k+1)).length:=by rw[hd,j3]
  rw[og,hx,List.length_cons]at h1;exact⟨aj,by simp;omega⟩
 have X:∀p,p<=body.length->body.drop p=g_ n fs fs.length fs.length->decide (p=body.length)=true:=fun p hp hd=>by
  rw[Gw]at hd;have h1:(body.drop p).length=0:=by rw[hd];rfl
  rw[og]at h1;simp;omega
 have L:=aG N;have v:=aG R;have B:=aG S;have Y:=aG X;have HS:=aG hs;clear N R S X G O M hA0 E h6 hs hb d g r;go_enter_defers func116,ntmps116
 go_wp2_with fail;rw[<-c];clear c;refine bN HN.out ?_;rintro w1 ⟨yF,P⟩;obtain⟨x0,z0,D⟩:=L.out w1 yF P;have K:=aG D;have A:=aG (EO _ _ _ _ _ _ _ _ D.rd);rw[(B.out 0 _ T v.out).2]at A;clear D yF P HN L;go_wp2_with fail;refine bN A.out ?_;rintro w2 ⟨q,rfl⟩;have J:Hid (∃v9 l m p bg,PK w yb yo cap body n (fs.map norm) (((w1.setCell (aB w.heap.size 0) (uZ n))).drewN q) v9 0 (.slice l 0 m) p bg/\body.drop p=g_ n fs fs.length 0):=⟨_,_,_,_,_,K.out.same rfl rfl rfl rfl,v.out⟩;clear K v A x0 z0;generalize ((w1.setCell (aB w.heap.size 0) (uZ n))).drewN q=w3 at *
 go_wp2_with fail;go_loopw [25] (fun _ wr=>∃k:Nat,k<=fs.length/\Hid (∃v9 l m p bg,PK w yb yo cap body n (fs.map norm) wr v9 k (.slice l k m) p bg/\body.drop p=g_ n fs fs.length k)) (fun _ wr=>fs.length-Jq w.heap.size wr);case atStart=>exact⟨0,nU _,J.out⟩
 case round=>
  clear J;obtain⟨k,hk,HI⟩:=hrel;obtain⟨v9,l,m,p,bg,i,hd⟩:=HI.out;have x1:wr.cell? (aB w.heap.size 1)=some (.slice l k m):=i.box.cell 1;have HM:Hid (Jq w.heap.size wr=k):=by unfold Hid Jq;rw[x1]
  have yV:=aG (EO _ _ _ _ _ _ _ _ i.rd);by_cases H:k<fs.length
  ·rw[(B.out k p H hd).2]at yV;obtain⟨F,hF⟩:∃F,norm (fs.getD k iM)=F:=⟨_,rfl⟩;have HC:=aG (fun W e1 e2 e3 e4=>Qs i H hl (HS.out k H) hd F hF W e1 e2 e3 e4);clear i hd hF HI Y B HS;go_wp2_with fail;refine bN yV.out ?_;rintro w4 ⟨q4,rfl⟩;go_upto_region 7 with fail;have h4:∀args w,(callFunc 164 args).run prog w=.ok (.enter 164 args) w:=enters_of func164 bH rfl;refine wp_region_noPanic ?_;go_region_law (first|(refine wD _ (by rfl) 164 _ _ (by rfl) _ (by rfl) h4 (HC.out _ (by rfl) (by rfl) (by rfl) (by rfl)) ?_;rintro e y ⟨ra,rc,a',c',W5,rfl,t1,t2,mU,t3,t4,I⟩;refine⟨_,rfl,?_⟩)|(refine jD _ (by rfl) _ _ _ _ (by rfl) _ _ (by rfl) (by rfl) _ _ (mU _) ?_))
   all_goals(
    refine NoPanic.normal ?_;have Ms:Hid (Jq w.heap.size (W5.setCell (aB w.heap.size 1) (.slice a' (k+1) c'))=k+1):=by unfold Hid Jq;rw[World.cell?_setCell_same' _ _ _ (by rw[t3];rfl)]
    obtain⟨Pw,p',h3,a,Q⟩:=I.out;have h0:Hid (∃v9 l m p bg,PK w yb yo cap body n (fs.map norm) (W5.setCell (aB w.heap.size 1) (.slice a' (k+1) c')) v9 (k+1) (.slice l (k+1) m) p bg/\body.drop p=g_ n fs fs.length (k+1)):=⟨Pw,_,_,p',h3,a,Q⟩;clear a Q I mU t1 t2 t3 t4;go_wp2_with fail;go_roundw;case rel=>exact⟨k+1,aj,h0⟩
    case measure=>rw[HM.out,Ms.out];omega)
  ·obtain rfl:k=fs.length:=aj;rw[Y.out p i.rd.le hd]at yV;have Z:=i.box;have hE:=i.err;have u:∀q (x y z:Value),xq (w.heap.size+3) ((((wr.drewN q).setCell (aB w.heap.size 0) x).setCell (aB w.heap.size 1) y).setCell (aB (w.heap.size+1) 0) z) (.slice l fs.length m) (fs.map norm) v9 fs.length/\Below w.heap.size w ((((wr.drewN q).setCell (aB w.heap.size 0) x).setCell (aB w.heap.size 1) y).setCell (aB (w.heap.size+1) 0) z):=fun q x y z=>by
    have a:=i.same (W:=wr.drewN q) rfl rfl rfl rfl;have U:∀b,w.heap.size+3<=b->((((wr.drewN q).setCell (aB w.heap.size 0) x).setCell (aB w.heap.size 1) y).setCell (aB (w.heap.size+1) 0) z).heap[b]?=(wr.drewN q).heap[b]?:=fun b hb=>by rw[eB _ _ _ _ (by simp;omega),eB _ _ _ _ (by simp;omega),eB _ _ _ _ (by simp;omega)]
    refine⟨⟨a.cp.buf.of_heap (fun b hb=>U b (a.cp.own b hb)),a.cp.own,fun j hj=>?_⟩,((a.bel.setCell (p:=(aB w.heap.size 0)) (eT _) _).setCell (p:=(aB w.heap.size 1)) (eT _) _).setCell (p:=(aB (w.heap.size+1) 0)) aP _⟩;obtain⟨r1,r2,r3⟩:=a.cp.rT j hj;exact⟨r1.of_heap (fun b hb=>U b (r2 b hb)),r2,r3⟩
   have a0:wr.cell? (aB w.heap.size 0)=some (uZ n):=Z.cell 0;have b0:wr.cell? (aB (w.heap.size+1) 0)=some .nilIface:=hE.cell 0;have z0:=Z.frozen 0;have z1:=Z.frozen 1;have z2:=hE.frozen 0;have kV:=aG u;clear u i hd Z hE HI HM;go_wp2_with fail;refine bN yV.out ?_;rintro w4 ⟨q4,rfl⟩;go_wp2_with fail;refine leaves_cons (f:=160) (args:=#[aI w.heap.size 0,(aI (w.heap.size+1) 0)]) aP (by simp[go_sem]) ?_;refine(Mh (aB w.heap.size 0) (aB (w.heap.size+1) 0) _).mono ?_;rintro e u' h8 ⟨rfl,rfl,rfl⟩;obtain⟨f1,f2⟩:=kV.out q4 (uZ n) (.slice l fs.length m) .nilIface;simp[Leaves,settle,results,results116,go_sem,a0,x1,b0];exact⟨⟨_,f1⟩,f2⟩
theorem xq.mono{A B:Nat}{w:World}{s:Value}{fs:List Fr}{v9:Nat->Value}{k:Nat}(h:xq B w s fs v9 k)(a:A<=B):xq A w s fs v9 k:=
 ⟨h.buf,h.own.mono a,fun j b=>by obtain⟨c,d,e⟩:=h.rT j b;exact⟨c,d.mono a,e⟩⟩
theorem xq.of{B:Nat}{w w':World}{s:Value}{fs:List Fr}{v9:Nat->Value}{k:Nat}(h:xq B w s fs v9 k)(e:∀b,B<=b->b<w.heap.size->w'.heap[b]?=w.heap[b]?):xq B w' s fs v9 k:=
 ⟨h.buf.of_heap (fun b hb=>e b (h.own b hb) (h.buf.lt b hb)),h.own,fun j d=>by obtain⟨a,c,f⟩:=h.rT j d;exact⟨a.of_heap (fun b hb=>e b (c b hb) (a.lt b hb)),c,f⟩⟩
def oG(ok:Bool)(n:Nat)(fs:List Fr)(B:Nat)(w:World)(s err:Value):Prop:=
 if ok then err=.nilIface/\∃v9,xq B w s (fs.map norm) v9 fs.length else n=0/\s=nZ/\err=.iface 57 (iZ 7)
theorem oG.shape{ok:Bool}{n:Nat}{fs:List Fr}{B:Nat}{w:World}{s err:Value}(h:oG ok n fs B w s err):∃a m c,s=.slice a m c:=by
 unfold oG at h;cases ok;·rw[aU iO]at h;exact⟨_,_,_,h.2.1⟩
 ·rw[bK rfl]at h;obtain⟨_,v9,b⟩:=h;obtain⟨a,c,hs,_⟩:=b.buf.shape;exact⟨_,_,_,hs⟩
theorem oG.qb9{ok:Bool}{n:Nat}{fs:List Fr}{B:Nat}{w:World}{s err:Value}(h:oG ok n fs B w s err):err=.nilIface\/err=.iface 57 (iZ 7):=by
 unfold oG at h;cases ok;·rw[aU iO]at h;exact .inr h.2.2
 ·rw[bK rfl]at h;exact .inl h.1
theorem oG.of{ok:Bool}{n:Nat}{fs:List Fr}{A B:Nat}{w w':World}{s err:Value}(h:oG ok n fs B w s err)(a:A<=B)(e:∀b,B<=b->b<w.heap.size->w'.heap[b]?=w.heap[b]?):oG ok n fs A w' s err:=by
 unfold oG at h ⊢;cases ok;·exact h
 ·rw[bK rfl]at h ⊢;obtain⟨h1,v9,c⟩:=h;exact⟨h1,v9,(c.of e).mono a⟩
def oV(ok:Bool)(n:Nat)(fs:List Fr)(l:List UInt8):Prop:=
 if ok then n<4611686018427387904/\(∀j,j<fs.length->snd (fs.getD j iM)=true/\lM (fs.getD j iM))/\0<fs.length/\fs.length<=1000000000/\l=bT n fs
 else n=0/\∃body a,l=body++a/\a.length=4/\Num.val 0 a≠Crc.sum body
theorem rD(l:List UInt8):Num.val 0 (iK l)=Crc.sum l:=by unfold iK;rw[Num.Li,Nat.zero_mul,mR];exact Nat.mod_eq_of_lt (Nat.lt_of_lt_of_le (Crc.sum_lt l) iO)
theorem oH(ok:Bool)(n:Nat)(fs:List Fr)(yb yo cap:Nat)(l:List UInt8)(w:World)(f:oV ok n fs l)(hb:dV w (some (aB yb yo)) l)(B:l.length<=1000000000)(Q:l.length<=cap)(A:cap<=9223372036854775807)(R:yb<w.heap.size)(V:j4 w)(M:2<=w.heap.size):Calls prog 69 #[.slice (some (aB yb yo)) l.length cap] w fun e w'=>∃s err,e=.returned (.tuple #[.agg #[uZ n,s],err])/\oG ok n fs (w.heap.size+1) w' s err/\Below w.heap.size w w':=by
 have N:∃body j,l=body++j/\j.length=4/\decide (Num.val 0 j=Crc.sum body)=ok/\(ok=true->body=fK n fs):=by
  unfold oV at f;cases ok;·rw[aU iO]at f;obtain⟨_,body,j,h1,M,E⟩:=f;exact⟨body,j,h1,M,by simp[E],fun h=>by cases h⟩
  ·rw[bK rfl]at f;exact⟨fK n fs,iK (fK n fs),f.2.2.2.2,Num.je 4 _,by rw[rD];simp,fun _=>rfl⟩
 obtain⟨body,j,hl,t,P,z⟩:=N;have C:l.length=body.length+4:=by rw[hl,j3,t]
 obtain⟨d,g⟩:=bZ (w.alloc (.cells #[uZ 0,nZ] 56));have c:d.heap.size=w.heap.size+1:=by rw[g];simp
 have a:Below w.heap.size w d:=by rw[g];exact(mI _ w).alloc (eT _) _
 have hA0:aS d w.heap.size 56 [uZ 0,nZ]:=by rw[g];exact aS.new w 56 _
 have o:dV d (some (aB yb yo)) (body++j):=by rw[<-hl];exact hb.of (fun x W=>by simp at W;subst W;exact a.block _ R)
 have U:=aG (LJ yb yo body j cap d aj t aj o (V.below a M));rw[P,<-C]at U;have i:dV d (some (aB yb yo)) body:=by have:=o.cut body.length;rwa[List.take_left' rfl]at this
 have k:Hid (ok=true->∀q,Calls prog 116 #[.slice (some (aB yb yo)) body.length cap] (d.drewN q) fun e w'=>∃s v9,e=.returned (.tuple #[.agg #[uZ n,s],.nilIface])/\xq (w.heap.size+4) w' s (fs.map norm) v9 fs.length/\Below (w.heap.size+1) d w'):=fun F q=>by unfold oV at f;rw[bK F]at f;obtain⟨Y,Z,d3,d4,_⟩:=f;have:=Cq n fs Y Z d3 d4 yb yo cap body (z F) (d.drewN q) i aj A (by show yb<d.heap.size;omega);refine this.mono ?_;rintro e w' ⟨s,v9,h1,E,u⟩;have e1:(d.drewN q).heap.size=w.heap.size+1:=c;rw[e1]at E u;exact⟨s,v9,h1,E,u.os,u.tape,u.output,u.size,u.block⟩
 have D:=aG (dB c (dB a hA0));have X:Hid (ok=false->n=0):=fun F=>by unfold oV at f;rw[aU (by rw[F];decide)]at f;exact f.1
 clear f hb B hl o i c a hA0 z C V t;generalize l.length=L at *
 go_enter func69,ntmps69;go_wp2_with fail;rw[<-g];clear g;refine bN U.out ?_;rintro w1 ⟨q,rfl⟩;obtain⟨c,a,hA0⟩:=D.out;cases ok
 ·have O:=X.out rfl;subst O;have J:d.cell? (aB w.heap.size 0)=some (uZ 0):=hA0.cell 0;have K:d.cell? (aB w.heap.size 1)=some nZ:=hA0.cell 1;have z0:=hA0.frozen 0;have z1:=hA0.frozen 1;have H:Hid (Below w.heap.size w (((d.drewN q).setCell (aB w.heap.size 0) (uZ 0)).setCell (aB w.heap.size 1) nZ)):=by
   have h1:Below w.heap.size w (d.drewN q):=⟨a.os,a.tape,a.output,a.size,a.block⟩;exact(h1.setCell (p:=(aB w.heap.size 0)) (eT _) _).setCell (p:=(aB w.heap.size 1)) (eT _) _
  clear c a hA0 D k;go_wp2;exact bodyPost_ret (v:=.tuple #[.agg #[(uZ ((0:Nat):Int)),nZ],.iface 57 (iZ 7)]) (by simp[results,results69,go_sem,J,K]) rfl ⟨_,_,rfl,⟨rfl,rfl,rfl⟩,H.out⟩
 ·have I:=aG (k.out rfl q);clear c a hA0 k;go_wp2_with fail;refine I.out.mono ?_;rintro e G ⟨s,v9,rfl,m,r⟩;obtain⟨S,T,hs,_⟩:=m.buf.shape;subst hs;obtain⟨c,a,hA0⟩:=D.out;have hA2:=hA0.of_heap (r.block _ aj);have J:G.cell? (aB w.heap.size 0)=some (uZ 0):=hA2.cell 0;have K:G.cell? (aB w.heap.size 1)=some nZ:=hA2.cell 1;have z0:=hA2.frozen 0;have z1:=hA2.frozen 1;have H:Hid (∀x y:Value,oG true n fs (w.heap.size+1) ((G.setCell (aB w.heap.size 0) x).setCell (aB w.heap.size 1) y) (.slice S fs.length T) .nilIface/\Below w.heap.size w ((G.setCell (aB w.heap.size 0) x).setCell (aB w.heap.size 1) y)):=fun x y=>by
   refine⟨⟨rfl,v9,(m.of (fun b h0 _=>?_)).mono aj⟩,((a.trans (r.mono aj)).setCell (p:=(aB w.heap.size 0)) (eT _) _).setCell (p:=(aB w.heap.size 1)) (eT _) _⟩;rw[eB _ _ _ _ (by simp;omega),eB _ _ _ _ (by simp;omega)]
  clear c a hA0 D m r hA2;go_wp2;obtain⟨f1,f2⟩:=H.out (uZ n) (.slice S fs.length T);exact bodyPost_ret (v:=.tuple #[.agg #[uZ n,.slice S fs.length T],.nilIface]) (by simp[results,results69,go_sem,J,K]) rfl ⟨_,_,rfl,f1,f2⟩
theorem Gx(ok:Bool)(n:Nat)(fs:List Fr)(yb yo cap:Nat)(l:List UInt8)(w:World)(u:oV ok n fs l)(hb:dV w (some (aB yb yo)) l)(i:l.length<=1000000000)(g:l.length<=cap)(h:cap<=9223372036854775807)(o:yb<w.heap.size)(z:j4 w)(F:2<=w.heap.size):Calls prog 41 #[.slice (some (aB yb yo)) l.length cap] w fun e w'=>∃s err,e=.returned (.tuple #[.agg #[uZ n,s],err])/\oG ok n fs (w.heap.size+1) w' s err/\Below w.heap.size w w':=by
 obtain⟨j,c⟩:=bZ (w.alloc (.cells #[uZ 0,nZ] 56));have d:j.heap.size=w.heap.size+1:=by rw[c];simp
 have a:Below w.heap.size w j:=by rw[c];exact(mI _ w).alloc (eT _) _
 have hA0:aS j w.heap.size 56 [uZ 0,nZ]:=by rw[c];exact aS.new w 56 _
 have B:=aG (oH ok n fs yb yo cap l j u (hb.of (fun x A=>by simp at A;subst A;exact a.block _ o)) i g h aj (z.below a F) aj);have t:=aG (dB d (dB a hA0));clear u hb d a hA0 z;generalize l.length=L at *
 go_enter func41,ntmps41;go_wp2_with fail;rw[<-c];clear c;refine B.out.mono ?_;rintro e k ⟨s,err,rfl,m,f⟩;obtain⟨q,sn,r,hs⟩:=m.shape;subst hs;obtain⟨d,a,hA0⟩:=t.out;have hA2:=hA0.of_heap (f.block _ aj);have D:k.cell? (aB w.heap.size 0)=some (uZ 0):=hA2.cell 0;have E:k.cell? (aB w.heap.size 1)=some nZ:=hA2.cell 1;have H:=hA2.frozen 0;have I:=hA2.frozen 1;have C:Hid (∀x y:Value,oG ok n fs (w.heap.size+1) ((k.setCell (aB w.heap.size 0) x).setCell (aB w.heap.size 1) y) (.slice q sn r) err/\Below w.heap.size w ((k.setCell (aB w.heap.size 0) x).setCell (aB w.heap.size 1) y)):=fun x y=>by refine⟨m.of aj (fun b G _=>?_),((a.trans (f.mono aj)).setCell (p:=(aB w.heap.size 0)) (eT _) _).setCell (p:=(aB w.heap.size 1)) (eT _) _⟩;rw[eB _ _ _ _ (by simp;omega),eB _ _ _ _ (by simp;omega)]
 clear d a hA0 t m f hA2;go_wp2;obtain⟨f1,f2⟩:=C.out (uZ n) (.slice q sn r);exact bodyPost_ret (v:=.tuple #[.agg #[uZ n,.slice q sn r],err]) (by simp[results,results41,go_sem,D,E]) rfl ⟨_,_,rfl,f1,f2⟩
theorem AL(ok:Bool)(n:Nat)(fs:List Fr)(yb yo cap:Nat)(l:List UInt8)(w:World)(hD:oV ok n fs l)(hb:dV w (some (aB yb yo)) l)(h4:l.length<=1000000000)(E:0<l.length)(hf:yb<w.heap.size)(hT:j4 w)(hE:iE w)(h2:2<=w.heap.size)(ev:Int)(Z:ev=if ok then 0 else 7):Calls prog 24 #[.slice (some (aB yb yo)) l.length cap] w fun e w'=>∃s err,e=.returned (.tuple #[.agg #[uZ n,s],iZ ev,(iZ (-1))])/\oG ok n fs w.heap.size w' s err/\Below w.heap.size w w':=by
 have h8:=aG Z;clear Z;obtain⟨F,B⟩:=bZ (w.alloc (.cells #[uZ 0,nZ] 56));have h:F.heap.size=w.heap.size+1:=by rw[B];simp
 have Q:Below w.heap.size w F:=by rw[B];exact(mI _ w).alloc (eT _) _
 have hA0:aS F w.heap.size 56 [uZ 0,nZ]:=by rw[B];exact aS.new w 56 _
 have h6:dV F (some (aB yb yo)) l:=hb.of (fun x hx=>by simp at hx;subst hx;exact Q.block _ hf);obtain⟨v1,G,mU,X,O⟩:=kM (kL.nil F) (aB yb yo) l.length cap l rfl E (fun j u hu=>by
  have hj:j<l.length:=by have:=(List.getElem?_eq_some_iff.1 hu).1;rwa[dM]at this
  obtain⟨b,off,ha,hc⟩:=h6 j hj;simp at ha;obtain⟨rfl,rfl⟩:=ha;rw[Addr.add_lit,hc,<-hu];simp[cB,hj]) (by simp;omega)
 rw[List.nil_append]at X;have BK:Own F.heap.size v1:=O.own (Own.nil _) (eT _);have R:Below F.heap.size F G:=O.below (Own.nil _) (eT _);rcases X with⟨_,he⟩|⟨g,c1,cs,rfl,a,hcl,hc2,hc3,hc4,JY⟩;·rw[he]at E;simp at E
 ·have f:F.heap.size<=g:=BK g rfl;have c:=a.lt;have U:Below w.heap.size w G:=Q.trans (R.mono aj);have tZ:dV G (some (aB g 0)) l:=fun j hj=>by
   refine⟨g,0,rfl,?_⟩;rw[a.cell,mR];have:(cs.take l.length)[j]?=(cB l)[j]?:=by rw[hc4]
   rw[List.getElem?_take,bK hj]at this;rw[this];simp[cB,hj]
  have HC:=aG (Gx ok n fs g 0 c1 l G hD tZ h4 hc2 hc3 c (hT.below U h2) aj);have HW:=aG (dB h (dB U (dB (hA0.of_heap (R.block _ aj)) (dB a (dB f c)))));have h9:Hid (l.length<=cs.length):=by unfold Hid;omega
  have HE:=aG hE;clear hD hb h Q hA0 h6 R U tZ BK O a hcl hc2 hc3 hc4 JY hT hE f c;generalize l.length=L at *
  go_enter func24,ntmps24;go_wp2_with (at_builtin;rw[<-B];refine Lib.wpList_append_run _ rfl _ _ _ _ rfl _ _ rfl rfl _ _ (mU _) ?_);clear B;refine HC.out.mono ?_;rintro e A ⟨s,err,rfl,m,I⟩;obtain⟨t,sn,z,hs⟩:=m.shape;subst hs;have hn:=m.qb9;obtain⟨h,U,hA1,a,f,c⟩:=HW.out;obtain⟨H,C⟩:=bZ (A.alloc (.cells #[uZ n,.slice t sn z] 56));have q:H.heap.size=A.heap.size+1:=by rw[C];simp
  have J:Below A.heap.size A H:=by rw[C];exact(mI _ _).alloc (eT _) _
  have Y:aS H A.heap.size 56 [uZ n,.slice t sn z]:=by rw[C];exact aS.new A 56 _
  have d:=I.size;have N:∀k,k<G.heap.size->H.heap[k]?=G.heap[k]?:=fun k hk=>by rw[J.block k aj,I.block k hk]
  have W:Hid (aS H g 5 cs/\oG ok n fs (G.heap.size+1) H (.slice t sn z) err/\Below w.heap.size w H/\aS H w.heap.size 56 [uZ 0,nZ]/\aS H A.heap.size 56 [uZ n,.slice t sn z]):=by refine⟨a.of_heap (N g c),m.of (eT _) (fun b _ hb=>J.block b hb),(U.trans (I.mono aj)).trans (J.mono aj),hA1.of_heap (N _ aj),Y⟩
  have zL:=aG (dB q (dB d (dB h (dB f c))));clear m I h U hA1 a f c q J Y d N HW HC mU;go_wp2_with fail;rw[<-C];clear C;go_loopw [20] (fun T wr=>∃k:Nat,k<=L/\T=(iZ k)/\Hid (∃o,o.length=cs.length/\aS wr g 5 o/\oG ok n fs (G.heap.size+1) wr (.slice t sn z) err/\Below w.heap.size w wr/\aS wr w.heap.size 56 [uZ 0,nZ]/\aS wr A.heap.size 56 [uZ n,.slice t sn z])) (fun T _=>L-(RowKit.intOf T).toNat);case atStart=>exact⟨0,nU _,rfl,cs,rfl,W.out⟩
  case round=>
   clear W;obtain⟨k,hk,rfl,HI⟩:=hrel;obtain⟨o,S,a,m,i,K,M⟩:=HI.out;obtain⟨q,d,h,f,c⟩:=zL.out;have h3:=h9.out;by_cases ho:k<L
   ·have hm:(k:Int)<(L:Int):=aj;have t1:=a.cell k;rw[mK aj]at t1;generalize o[k]'aj=hv at t1;have z1:=a.frozen k;have r:∀b,b≠g->∀v,(wr.setCell (aB g k) v).heap[b]?=wr.heap[b]?:=fun b hb v=>eB _ _ _ _ hb;have HN:Hid (∀v,∃o,o.length=cs.length/\aS (wr.setCell (aB g k) v) g 5 o/\oG ok n fs (G.heap.size+1) (wr.setCell (aB g k) v) (.slice t sn z) err/\Below w.heap.size w (wr.setCell (aB g k) v)/\aS (wr.setCell (aB g k) v) w.heap.size 56 [uZ 0,nZ]/\aS (wr.setCell (aB g k) v) A.heap.size 56 [uZ n,.slice t sn z]):=fun v=>⟨_,by rw[qx];exact S,a.setCell k v,m.of (eT _) (fun b h0 _=>r b aj v),i.setCell (p:=(aB g k)) (by simp;omega) v,K.of_heap (r _ aj v),M.of_heap (r _ aj v)⟩;clear S a m i K M q d h f c r HI h3;go_wp2_with fail;go_roundw;case rel=>exact⟨k+1,aj,by go_num,HN.out _⟩
    case measure=>simp[RowKit.intOf];omega
   ·obtain rfl:k=L:=aj;have h7:iE wr:=cell_of HE.out (i.block 0 aj);have h5:Calls prog 42 #[err] wr fun e w'=>e=.returned (.tuple #[iZ ev,(iZ (-1))])/\Below wr.heap.size wr w':=by
     rw[h8.out];unfold oG at m;cases ok;·rw[aU iO]at m;rw[m.2.2];exact rH 7 eql7 wr h7
     ·rw[bK rfl]at m;rw[m.1];exact xX wr
    have hg:=aG h5;have HR:=aG (dB a (dB m (dB i (dB K M))));clear h5 h7 S a m i K M q d h f c HI h3;go_wp2_with fail;refine bN hg.out ?_;rintro V D;obtain⟨a,m,i,K,M⟩:=HR.out;obtain⟨q,d,h,f,c⟩:=zL.out;have hA5:=K.of_heap (D.block _ K.lt);have P:=M.of_heap (D.block _ M.lt);have a0:V.cell? (aB w.heap.size 0)=some (uZ 0):=hA5.cell 0;have a1:V.cell? (aB w.heap.size 1)=some nZ:=hA5.cell 1;have p0:V.cell? (aB A.heap.size 0)=some (uZ n):=P.cell 0;have p1:V.cell? (aB A.heap.size 1)=some (.slice t sn z):=P.cell 1;have z0:=hA5.frozen 0;have z1:=hA5.frozen 1;have hr:¬(A.heap.size=w.heap.size):=aj;have HF:Hid (∀x y:Value,oG ok n fs w.heap.size ((V.setCell (aB w.heap.size 0) x).setCell (aB w.heap.size 1) y) (.slice t sn z) err/\Below w.heap.size w ((V.setCell (aB w.heap.size 0) x).setCell (aB w.heap.size 1) y)):=fun x y=>by refine⟨m.of aj (fun b h0 hb=>?_),((i.trans (D.mono i.size)).setCell (p:=(aB w.heap.size 0)) (eT _) _).setCell (p:=(aB w.heap.size 1)) (eT _) _⟩;rw[eB _ _ _ _ (by simp;omega),eB _ _ _ _ (by simp;omega),D.block b hb]
    clear a m i K M q d h f c hA5 P D;go_wp2_with fail;obtain⟨f1,f2⟩:=HF.out (uZ n) (.slice t sn z);exact bodyPost_ret (v:=.tuple #[.agg #[uZ n,.slice t sn z],iZ ev,(iZ (-1))]) (by simp[results,results24,go_sem,a0,a1]) rfl ⟨_,err,rfl,f1,f2⟩
end Go.Proofs.YtphbledmopchnaaGreatDoor
namespace Go.Proofs.YtphbledmopchnaaGreatDoor
open Go.RowKit Go.Lib Mm Tryz
theorem val_inj:∀(l l':List UInt8) (a b:Nat),l.length=l'.length->Num.val a l=Num.val b l'->a=b/\l=l'
 |[],[],_,_,_,h=>⟨h,rfl⟩
 |[],_::_,_,_,hl,_=>by simp at hl
 |_::_,[],_,_,hl,_=>by simp at hl
 |x::t,y::u,a,b,hl,h=>by obtain⟨h1,c⟩:=val_inj t u (a*256+x.toNat) (b*256+y.toNat) (by simpa using hl) h;have d:=x.toNat_lt;have f:=y.toNat_lt;have e:x.toNat=y.toNat:=aj;exact⟨aj,by rw[UInt8.toNat_inj.1 e,c]⟩
theorem xZ(l:List UInt8):(iK l).length=4:=by unfold iK;exact Num.je _ _
theorem rM(n:Nat)(fs:List Fr):(bT n fs).length=(fK n fs).length+4:=by unfold bT;rw[j3,xZ]
theorem Nb(n:Nat)(fs:List Fr)(j:Nat)(y:UInt8)(d:j<(bT n fs).length)(b:(bT n fs)[j]≠y):oV false 0 [] ((bT n fs).set j y):=by
 unfold oV;rw[aU iO];refine⟨rfl,?_⟩;unfold bT at d b ⊢;generalize fK n fs=B at d b ⊢;have a:=xZ B;by_cases h:j<B.length
 ·refine⟨B.set j y,iK B,by rw[List.set_append_left _ _ h],a,?_⟩;rw[rD];rw[List.getElem_append_left h]at b;have f:B=B.take j++B[j]::B.drop (j+1):=aP;have i:B.set j y=B.take j++y::B.drop (j+1):=by rw[List.set_eq_take_append_cons_drop,bK h]
  have c:=Crc.Lh (B.take j) (B.drop (j+1)) B[j] y b;rw[<-f,<-i]at c;exact c
 ·rw[j3,a]at d;refine⟨B,(iK B).set (j-B.length) y,by rw[List.set_append_right _ _ aj],by rw[qx];exact a,?_⟩;intro e;rw[<-rD B]at e;have hq:=(val_inj _ _ 0 0 aP e).2;rw[List.getElem_append_right aj]at b;have g:((iK B).set (j-B.length) y)[j-B.length]?=some y:=List.getElem?_set_self aj;rw[hq,mK aj]at g;exact b (Option.some.inj g)
theorem JO(rs:bW):(gK rs).length<=24+16*rs.length:=by unfold gK jV;rw[j3,j3,j3];have h1:=iR (rs.getD 0 (0,0)).2;have a:=iR (rs.length-1);have b:=iR ((rs.getD 0 (0,0)).2-(rs.getD 0 (0,0)).1);have c:=II rs (rs.length-1);omega
theorem Hf(f:Fr)(a:Nat×Nat):(dH f a).length<=24+f.data.size+16*f.ranges.length:=by
 have h1:=iR f.aH.toNat;have c:=iR (fieldAt f a.2);have d:=iR f.data.size;have e:=JO f.ranges;have b:f.data.data.toList.length=f.data.size:=Array.length_toList;unfold dH;split;·simp only[nI];omega
 ·split;·simp only[nI];omega
  ·split;·omega
   ·split;·omega
    ·split;·rw[j3,b];omega
     ·omega
theorem Db(f:Fr)(a:bW):∀k,(eF (a.map (dH f)) k).length<=k*(24+f.data.size+16*f.ranges.length)
 |0=>by simp[eF]
 |k+1=>by
  have:=Db f a k;rw[eF,j3,Nat.succ_mul];have h:((a.map (dH f)).getD k []).length<=24+f.data.size+16*f.ranges.length:=by
   rw[List.getD_eq_getElem?_getD,List.getElem?_map];cases a[k]? with
   |none=>simp
   |some t=>exact Hf f t
  omega
theorem Zc(k:Int):(dJ k).length<=4:=by
 unfold dJ;repeat' split
 all_goals simp
theorem Nc(f:Fr):(bD f).length<=96+64*(f.data.size+f.ranges.length):=by unfold bD;have h1:=Db f (dJ f.aC) (dJ f.aC).length;have a:=Zc f.aC;have b:(dJ f.aC).length*(24+f.data.size+16*f.ranges.length)<=4*(24+f.data.size+16*f.ranges.length):=Nat.mul_le_mul_right _ a;omega
def dL(c:Int)(n:Nat):Nat:=if c<0 then(-(c+1)).toNat % n else c.toNat % n
theorem Fa(c:Int)(m:Nat)(h:c<0): -(c+1).tmod (m:Int)=(dL c m:Nat):=by unfold dL;rw[bK h,<-Int.neg_tmod,Int.tmod_eq_emod_of_nonneg aj,nV,nP aj]
theorem Fb(c:Int)(m:Nat)(h:0<=c):c % (m:Int)=(dL c m:Nat):=by unfold dL;rw[aU aj,nV,nP h]
theorem fC(c:Int)(m:Nat)(h:0<m):dL c m<m:=by unfold dL;split<;>exact Nat.mod_lt _ h
theorem lu(c:Int)(m:Nat)(g: -9223372036854775808<=c)(b:c<=9223372036854775807)(d:0<m)(f:m<=9000000000)(w:World):Calls prog 50 #[iZ c,iZ m] w fun e w'=>e=.returned (iZ (dL c m:Nat))/\w'=w:=by
 have hl:=aG (fC c m d);by_cases h:c<0;·have a:=aG (Fa c m h);go_enter func50,ntmps50;go_wp2;go_ret;exact⟨kK a.out,rfl⟩
 ·have a:=aG (Fb c m aj);go_enter func50,ntmps50;go_wp2;go_ret;exact⟨kK a.out,rfl⟩
end Go.Proofs.YtphbledmopchnaaGreatDoor
namespace Go.Proofs.YtphbledmopchnaaGreatDoor
open Go.RowKit Go.Lib Go.Shelf Mm Tryz
theorem Dm{n:Nat}{fs:List Fr}(h:sD n fs=true):(∀i,i<fs.length->snd (fs.getD i iM)=true)/\n<=dK/\0<fs.length:=by unfold sD at h;rw[mE,mE]at h;exact⟨(xg fs).1 h.1.1,of_decide_eq_true h.1.2,of_decide_eq_true h.2⟩
theorem Fu(n:Nat)(fs:List Fr)(hs:∀i,i<fs.length->snd (fs.getD i iM)=true):∀k,k<=fs.length->fV n (fs.map norm) k=fV n fs k
 |0,_=>rfl
 |k+1,h=>by rw[fV,fV,Fu n fs hs k aj,getD_map fs k aj,Ml _ (hs k aj)]
theorem V8(n:Nat)(fs:List Fr)(hs:sD n fs=true):sD n (fs.map norm)=true/\fK n (fs.map norm)=fK n fs/\bT n (fs.map norm)=bT n fs:=by
 obtain⟨h1,a,b⟩:=Dm hs;have hb:fK n (fs.map norm)=fK n fs:=by unfold fK;rw[nA];exact Fu n fs h1 _ (eT _)
 refine⟨?_,hb,by unfold bT;rw[hb]⟩;unfold sD;rw[mE,mE];refine⟨⟨(xg _).2 (fun i hi=>?_),decide_eq_true a⟩,decide_eq_true (by rw[nA];exact b)⟩;rw[nA]at hi;rw[getD_map fs i hi];exact Cn _ (h1 i hi)
