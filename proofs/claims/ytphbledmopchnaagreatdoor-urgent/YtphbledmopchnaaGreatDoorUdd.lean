import Derived.Test.YtphbledmopchnaaGreatDoorUdc
import Derived.Test.YtphbledmopchnaaGreatDoorUdb
open Go.Addr renaming add_lit->Aw
open Go.RowKit.Below renaming refl->tT
open Go.Builtin renaming zeroCells->fA,append_->wz,clear_->R3,firstCells->SF
open Go.Calls renaming quiet_of_same->sQ,quiet_of->qae
open Go.Lib renaming wpList_append_run->DT
open List renaming length_append->fB,replicate->nI,getElem?_take->uj,mem_of_mem_take->Am,mem_append->KG,take_append_of_le_length->M4,length_cons->Ui,drop_of_length_le->WA,take_of_length_le->WJ,mem_of_mem_drop->qa0,replicate_zero->qa1,takeWhile_cons->qa2,getElem?_drop->qa3,ext_getElem->qaa,append_nil->qab,take_zero->qag,map_set->qai
open Nat renaming le_refl->mR,mul_one->He,mul_le_mul_right->Lb,sub_self->Ur,add_mul->YF,zero_le->ZH,lt_of_lt_of_le->qa4,zero_add->qa5,mul_le_mul->qah,le_trans->qaj,zero_mul->qak
open Go.Value renaming bool->tL,int->Av,ownBlock->E8,cells->Kt
set_option maxHeartbeats 4000000
set_option maxRecDepth 100000
namespace Go.Proofs.YtphbledmopchnaaGreatDoor.Sd
open Go.RowKit Go.Lib Mm Tryz
section
def fO(l:List Bool):aI:=l.map .bool
structure vQ (l:aI) (o:Nat) (m:bU) (vh vc:Value):Prop where
 gr:qV l o m.gr
 c4:l[o+4]?=some (uZ m.read)
 c5:l[o+5]?=some vh
 c6:l[o+6]?=some vc
 c7:l[o+7]?=some (uZ m.high)
 c8:l[o+8]?=some (.bool m.ended)
 c9:l[o+9]?=some (uZ m.dX)
 c10:l[o+10]?=some (.bool m.given)
 c11:l[o+11]?=some (uZ m.rel)
 c12:l[o+12]?=some (iZ m.state)
theorem vQ.win{l l':aI}{o o' n':Nat}{m:bU}{vh vc:Value}(h:vQ l o m vh vc)(w:iN l l' o' n')(hd:o+13<=o'\/o'+n'<=o):vQ l' o m vh vc:=
 ⟨h.gr.win w (by omega),by rw[w.2 _ (by omega),h.c4],by rw[w.2 _ (by omega),h.c5],by rw[w.2 _ (by omega),h.c6],by rw[w.2 _ (by omega),h.c7],by rw[w.2 _ (by omega),h.c8],by rw[w.2 _ (by omega),h.c9],
 by rw[w.2 _ (by omega),h.c10],by rw[w.2 _ (by omega),h.c11],by rw[w.2 _ (by omega),h.c12]⟩
def AX(oZ:Own)(t:Nat)(w:World)(l:aI)(o:Nat)(m:bU):Prop:=
 ∃vh vc,vQ l o m vh vc/\GT oZ t 5 1 w vh m.held.length (aQ m.held)/\GT oZ (t+1) 4 1 w vc m.came.length (fO m.came)
theorem AX.kp{oZ aC:Own}{t:Nat}{w w':World}{l l':aI}{o o' n':Nat}{m:bU}{T:List Nat}(h:AX oZ t w l o m)(K:Kp T oZ aC w w')(I:t∉T)(F:t+1∉T)(wi:iN l l' o' n')(hd:o+13<=o'\/o'+n'<=o):AX aC t w' l' o m:=by
 obtain⟨vh,vc,h1,G,H⟩:=h;exact⟨vh,vc,h1.win wi hd,G.kp K I,H.kp K F⟩
structure SX (m:bU):Prop where
 gr:m.gr.ahead<=4096/\m.gr.told<=aZ/\m.gr.away<=aZ/\m.gr.came<=aZ
 rd:m.read<=aZ
 hi:m.high<=aZ
 fe:m.dX<=aZ
 re:m.rel<=aZ
 hl:m.held.length<=1000000
 cl:m.came.length=m.held.length
 st:m.state<=2
theorem SX.free{m:bU}(h:SX m):m.free<=aZ:=by
 unfold bU.free;split
 ·exact h.fe
 ·exact h.rd
section
variable (S o:Nat) (m:bU) (vh vc:Value) (w:World) (l:aI) (hB:aA w S TS l) (h:vQ l o m vh vc)
 include hB h
theorem in4:w.cell? (aj S (o+4))=some (uZ m.read):=by rw[hB.cell];exact h.c4
theorem in5:w.cell? (aj S (o+5))=some vh:=by rw[hB.cell];exact h.c5
theorem in6:w.cell? (aj S (o+6))=some vc:=by rw[hB.cell];exact h.c6
theorem in7:w.cell? (aj S (o+7))=some (uZ m.high):=by rw[hB.cell];exact h.c7
theorem in8:w.cell? (aj S (o+8))=some (.bool m.ended):=by rw[hB.cell];exact h.c8
theorem in9:w.cell? (aj S (o+9))=some (uZ m.dX):=by rw[hB.cell];exact h.c9
theorem YO:w.cell? (aj S (o+10))=some (.bool m.given):=by rw[hB.cell];exact h.c10
theorem qa6:w.cell? (aj S (o+11))=some (uZ m.rel):=by rw[hB.cell];exact h.c11
theorem Xo:w.cell? (aj S (o+12))=some (iZ m.state):=by rw[hB.cell];exact h.c12
theorem Cu:Calls prog 310 #[ay S o] w fun e w'=>e=.returned (uZ m.free)/\w'=w:=by
 have c4:=in4 S o m vh vc w l hB h;have c9:=in9 S o m vh vc w l hB h;have c12:=Xo S o m vh vc w l hB h;have G:Hid (m.free=if m.state=2 then m.dX else m.read):=rfl;generalize m.free=F at *;clear h hB
 by_cases hs:m.state=2
 ·have g:((m.state:Int)==2)=true:=by simp;omega
  rw[if_pos hs]at G;clear hs;go_enter func310,ntmps310;go_wp2;go_ret;exact⟨sK (by rw[G.out]),rfl⟩
 ·have g:((m.state:Int)==2)=false:=by simp;omega
  rw[if_neg hs]at G;clear hs;go_enter func310,ntmps310;go_wp2;go_ret;exact⟨sK (by rw[G.out]),rfl⟩
theorem vR(F:Nat):Calls prog 339 #[ay S o,uZ F] w fun e w'=>e=.returned (uZ ((max m.high F:Nat):Int))/\w'=w:=by
 have c7:=in7 S o m vh vc w l hB h;obtain⟨x,H,G⟩:=max2 m.high F;rw[<-G];clear h hB G;go_enter func339,ntmps339;go_wp2;go_ret;exact⟨rfl,rfl⟩
theorem uL:Calls prog 306 #[ay S o] w fun e w'=>e=.returned (uZ m.wanted)/\w'=w:=by
 have c8:=in8 S o m vh vc w l hB h;have c9:=in9 S o m vh vc w l hB h;have c10:=YO S o m vh vc w l hB h;have c11:=qa6 S o m vh vc w l hB h;have G:Hid (m.wanted=if m.given then m.rel else if m.ended then m.dX else 4611686018427387903):=rfl;generalize m.wanted=F at *;clear h hB;cases H:m.given
 ·cases I:m.ended
  all_goals
   rw[H]at c10 G;rw[I]at c8 G;go_enter func306,ntmps306;go_wp2;go_ret;exact⟨sK (by rw[G.out];rfl),rfl⟩
 ·rw[H]at c10 G;go_enter func306,ntmps306;go_wp2;go_ret;exact⟨sK (by rw[G.out];rfl),rfl⟩
theorem Hr:Calls prog 240 #[ay S o] w fun e w'=>e=.returned (iZ m.reached)/\∃q,w'=w.drewN q:=by
 have c4:=in4 S o m vh vc w l hB h;have c8:=in8 S o m vh vc w l hB h;have c10:=YO S o m vh vc w l hB h;have H:=au (fun q=>uL S o m vh vc (w.drewN q) l hB h);have G:Hid (m.reached=if m.ended=false\/m.read<m.wanted then 0 else if m.given then 2 else 1):=rfl;generalize m.wanted=W at *;generalize m.reached=F at *;clear h hB;cases I:m.ended
 ·rw[I]at c8 G;go_enter func240,ntmps240;go_wp2
  go_quiet ((go_at_call 306;exact sQ (H.out _)))
  go_wp2;go_ret;exact⟨eP (by rw[G.out];simp),nq,rfl⟩
 ·by_cases K:m.read<W
  ·rw[I]at c8 G;rw[if_pos (.inr K)]at G;go_enter func240,ntmps240;go_wp2
   go_quiet ((go_at_call 306;exact sQ (H.out _)))
   go_wp2;go_ret;exact⟨eP (by rw[G.out];rfl),nq,rfl⟩
  ·rw[I]at c8 G;rw[if_neg (by simp;omega)]at G;cases O:m.given
   all_goals
    rw[O]at c10 G;go_enter func240,ntmps240;go_wp2
    go_quiet ((go_at_call 306;exact sQ (H.out _)))
    go_wp2;go_ret;exact⟨eP (by rw[G.out];rfl),nq,rfl⟩
theorem Ab(ok:SX m):Calls prog 255 #[ay S o] w fun e w'=>e=.returned (.bool m.eZ)/\∃q,w'=w.drewN q:=by
 have c7:=in7 S o m vh vc w l hB h;have c8:=in8 S o m vh vc w l hB h;have Z:=au (fun q=>uL S o m vh vc (w.drewN q) l hB h);have X:=au (fun q U=>Cu S o m vh vc ((w.drewN q).drewN U) l hB h);have V:=au (fun q U=>Ed S o m.gr m.free ((w.drewN q).drewN U) l hB h.gr ok.gr.1 ok.free);have I:Hid (m.eZ=(!(m.ended&&decide (m.wanted<=m.high))&&m.gr.waits m.free)):=rfl;generalize m.wanted=W at *;generalize m.eZ=F at *;generalize m.gr.waits m.free=B at *;generalize m.free=R at *;clear h hB ok;cases he:m.ended
 ·rw[he]at c8 I;go_enter func255,ntmps255;go_wp2
  go_quiet ((go_at_call 306;exact sQ (Z.out _)))
  go_wp2_with fail
  have G:=au (X.out nq);have K:=au (V.out nq);generalize H:w.drewN nq=w1 at *
  go_quiet ((first|(go_at_call 310;exact sQ (G.out _))|(go_at_call 251;exact qae (K.out _))))
  go_wp2;go_ret;exact⟨aV (by rw[I.out];simp),_,by rw[<-H,World.drewN_drewN]⟩
 ·by_cases O:W<=m.high
  all_goals
   rw[he]at c8 I;go_enter func255,ntmps255;go_wp2
   go_quiet ((go_at_call 306;exact sQ (Z.out _)))
   go_wp2_with fail
   have G:=au (X.out nq);have K:=au (V.out nq);generalize H:w.drewN nq=w1 at *
   go_quiet ((first|(go_at_call 310;exact sQ (G.out _))|(go_at_call 251;exact qae (K.out _))))
   go_wp2;go_ret;exact⟨aV (by rw[I.out];simp[O]),_,by rw[<-H,World.drewN_drewN]⟩
end

end
def rz(oZ:Own)(t a b:Nat):Own:=fun k=>if a<=k/\k<b then t else oZ k
theorem ny(oZ:Own)(t a b k:Nat)(h:k<a):rz oZ t a b k=oZ k:=if_neg (by omega)
theorem rA(oZ:Own)(t a b k:Nat)(h:a<=k)(F:k<b):rz oZ t a b k=t:=if_pos ⟨h,F⟩
theorem bW{t e:TypeId}{z:Value}{k bytes:Nat}(E:DC t e z k bytes){oZ:Own}{g:Nat}{w:World}{v:Value}{n:Nat}{l:aI}(h:GT oZ g e k w v n l)(a:Addr)(m mc:Nat)(ns:aI)(Z:ns.length=m*k)(h1:∀v∈ns,v.oneCell'=true)(H:∀j u,ns[j]?=some u->w.cell? (a.add j)=some u)(hsz:n+m<=1000000000000):
  ∃v' w' aC,(∀ty,(wz #[t,t] ty #[v,.slice (some a) m mc]).run prog w=.ok v' w')/\GT aC g e k w' v' (n+m) (l++ns)/\Kp [g] oZ aC w w':=by
 have U:(n+m)*bytes<=140737488355328:=qaj (qah hsz E.hb) (by decide);have hc:=h.len;have hk:(n+m)*k=n*k+m*k:=YF _ _ _
 have grow:∀base c (cs:aI),cs=l->c<n+m->(base=none/\cs=[]\/∃b:Addr,base=some b/\cs.length=n*k/\∀j v,cs[j]?=some v->w.cell? (b.add j)=some v)->(∀v∈cs,v.oneCell'=true)->∃v' w' aC,(∀ty,(wz #[t,t] ty #[.slice base n c,.slice (some a) m mc]).run prog w=.ok v' w')/\GT aC g e k w' v' (n+m) (l++ns)/\Kp [g] oZ aC w w':=by
  intro base c cs V hr hold h8
  have I:=fun ty=>fQ (P:=prog) (w:=w) t t ty e _ k bytes E.ht E.ht E.hi (base:=base) (n:=n) (c:=c) (m:=m) (mc:=mc) (cs:=cs) hold a (vs:=ns) Z H h1 hr U (by omega)
  have h9:=grownCap_ge w (n+m) c e;have G:=grownCap_le_maxLen w (n+m) c e (by unfold maxLen;omega);unfold maxLen at G
  have ha:cs.length=n*k:=by rw[V,hc]
  refine⟨_,_,rz oZ g w.heap.size (w.heap.size+1),I,.inr ⟨w.heap.size,_,_,rfl,rA _ _ _ _ _ (mR _) (by omega),aA.new w e _,?_,h9,G,by rw[fB];omega,?_,?_⟩,?_⟩
  ·rw[fB,fB,E.hz,ha,Z]
   have:(grownCap w (n+m) c e-(n+m))*k+(n+m)*k=grownCap w (n+m) c e*k:=by rw[<-YF];congr 1;omega
   omega
  ·rw[M4 (by rw[fB];omega),WJ (by rw[fB];omega),V]
  ·intro u F
   rcases KG.1 F with F|F
   ·rcases KG.1 F with F|F
    ·exact h8 u F
    ·exact h1 u F
   ·exact E.h1 _ u F
  ·have hb:aD w (w.drew.alloc (.cells (cs++ns++(fA z.cells (grownCap w (n+m) c e-(n+m))).toList).toArray e)):=(tT _ w).drew.alloc (mR _) _;exact⟨hb.os,hb.tape,hb.output,hb.size,fun b K _=>hb.block b K,fun b K=>ny _ _ _ _ _ K⟩
 rcases h with⟨rfl,rfl,rfl⟩|⟨b,cap,cs,rfl,ho,hB,h2,h3,h4,h5,h6,h7⟩
 ·by_cases h0:m=0
  ·subst h0
   obtain rfl:ns=[]:=by simpa using Z
   exact⟨_,_,oZ,fun ty=>wI E w (some a) mc ty,.inl ⟨rfl,rfl,rfl⟩,Kp.refl _ _ _⟩
  ·exact grow none 0 [] rfl (by omega) (.inl ⟨rfl,rfl⟩) (fun v hv=>by simp at hv)
 ·by_cases hr:n+m<=cap
  ·have hf:(n+m)*k<=cap*k:=Lb _ hr
   have I:=fun ty=>dz (P:=prog) (w:=w) t t ty e _ k bytes E.ht E.ht E.hi (n:=n) (c:=cap) (m:=m) (mc:=mc) hB a (vs:=ns) Z H h1 hr (by omega)
   have he:=dV cs ns (n*k) (by omega);refine⟨_,_,oZ,I,.inr ⟨b,cap,_,rfl,ho,hB.put _,?_,hr,h4,by rw[fB];omega,?_,aW h7 h1⟩,?_⟩
   ·rw[aN _ _ _ (by omega)];exact h2
   ·rw[hk,<-Z,he,h6]
   ·have X:=bC w b (splice cs (n*k) ns);exact⟨X.os,X.tape,X.output,X.size,fun j O hn=>X.block j O (fun e=>by simp at e;rw[e,ho]at hn;simp at hn),fun _ _=>rfl⟩
  ·exact grow (some (aj b 0)) cap l rfl (by omega) (.inr ⟨_,rfl,h5,fun j u O=>by
    rw[Aw,qa5,hB.cell];rw[<-h6,uj]at O;split at O
    ·exact O
    ·cases O⟩) (fun u F=>h7 u (by rw[<-h6]at F;exact Am F))
theorem uP:DC 60 5 (.int .u8 0) 1 1:=⟨u29,info5,fun n=>by rw[pU];omega,uw,by omega⟩
theorem Uo(s t:Nat)(oZ:Own)(S o:Nat)(m:Ot)(bs:List UInt8)(a:Addr)(c:Nat)(l:aI)(w:World)(hB:aA w S TS l)(hS:oZ S=s)(h3:s<t)(U:xW oZ t w S l o m)(hl:m.bytes.length<=2048)(H:BytesAt w (some a) bs)(_hbl:bs.length<=1000000000):
  Calls prog 147 #[ay S o,.slice (some a) bs.length c] w fun e w'=>e=.returned (nu (m.send bs).2)/\iF s t oZ S o l w (m.send bs).1 w':=by
 obtain⟨a1,c1,va,vc,k1,hc,k2,k3,k4,d0,d1,d2,d6,d7⟩:=U.open hB;have HC:=au (AY S o m.fin m.nt.given w d1 d2);have HN:=au (iF.refl (s:=s) hB U (tT _ w));have K:Hid (m.send bs=if(m.fin||m.nt.given)then(m,4)else if 2048<m.bytes.length+bs.length then(m,3)else({m with bytes:=m.bytes++bs},0)):=rfl
 have r1: -9223372036854775808<=2048-(m.bytes.length:Int):=by omega
 have r2:2048-(m.bytes.length:Int)<9223372036854775808:=by omega
 generalize m.send bs=X at *;generalize (m.fin||m.nt.given)=B at *
 cases B with
 |true=>
  clear U hB k1 k2 k3 k4 d0 d6 d7 H;go_enter func147,ntmps147
  go_wp2_with fail
  refine HC.out.mono ?_;rintro e w' ⟨rfl,rfl⟩;go_wp2;go_ret;exact⟨by rw[K.out];rfl,by rw[K.out];exact HN.out⟩
 |false=>
  by_cases F:2048<m.bytes.length+bs.length
  ·have h2:2048-(m.bytes.length:Int)<(bs.length:Int):=by omega
   rw[if_pos F]at K;clear U hB k1 k2 k3 k4 d6 d7 H F;go_enter func147,ntmps147
   go_wp2_with fail
   refine HC.out.mono ?_;rintro e w' ⟨rfl,rfl⟩;go_wp2;go_ret;exact⟨by rw[K.out];rfl,by rw[K.out];exact HN.out⟩
  ·have h2:¬(2048-(m.bytes.length:Int)<(bs.length:Int)):=by omega
   rw[if_neg F]at K
   obtain⟨v',w1,bD,Z,hG,O⟩:=bW uP k2 a bs.length c (aQ bs) (by rw[aY];omega) (dW bs) (fun j u hj=>by
    have V:j<bs.length:=by have:=(List.getElem?_eq_some_iff.1 hj).1;rwa[aY]at this
    obtain⟨b,off,ha,hc⟩:=H j V;cases ha;rw[Aw,hc];simp[aQ,V]at hj
    rw[<-hj]) (by omega)
   obtain⟨a2,c2,rfl,_,_⟩:=hG.shape;rw[<-gQ]at hG
   have h0:oZ S∉[t]:=by rw[hS];simp;omega
   have G:=aO hB O h0
   have hQ:Hid (iF s t oZ S o l w {m with bytes:=m.bytes++bs} (w1.setCell (aj S o) (.slice a2 (m.bytes.length+bs.length) c2))):=by
    have h1:=dL.one G o (.slice a2 (m.bytes.length+bs.length) c2) o 14 (by omega) (by omega);have I:=h1.kp (s:=s) (oZ:=bD) (by rw[O.ext _ hB.lt,hS]) (T:=[s]) (by simp);refine⟨bD,_,(O.mono (by simp)).trans (I.mono (by simp)),h1.blk,h1.win,_,va,vc,LA k1 _ _,?_,(k3.kp O (by simp)).kp I (by simp;omega),(k4.kp O (by simp)).kp I (by simp;omega)⟩;have:=hG.kp I (by simp;omega);show GT _ _ _ _ _ _ (m.bytes++bs).length _;rw[fB];exact this
   have e0:w1.cell? (aj S o)=some (.slice a1 m.bytes.length c1):=by rw[G.cell];exact k1.c0
   have f0:=G.frozen o;clear U hB k1 k2 k3 k4 d6 d7 H F hG O G h0;go_enter func147,ntmps147
   go_wp2_with fail
   refine HC.out.mono ?_;rintro e w' ⟨rfl,rfl⟩
   go_wp2_with (at_builtin;refine DT _ rfl _ _ _ _ rfl _ _ rfl rfl _ _ (Z _) ?_)
   go_wp2;go_ret;exact⟨by rw[K.out];rfl,by rw[K.out];exact hQ.out⟩
abbrev jX(B:Nat)(v:Value):Prop:=Go.Proofs.YtphbledmopchnaaGreatDoor.Own B v
def Rd(k:Nat)(w:World)(v:Value)(n:Nat)(l:aI):Prop:=
 v=nZ/\n=0/\l=[]\/∃g cap,v=(aS g n cap)/\g<w.heap.size/\l.length=n*k/\(∀j u,l[j]?=some u->w.cell? (aj g j)=some u)/\∀u∈l,u.oneCell'=true
theorem Rd.below{k:Nat}{w w':World}{v:Value}{n:Nat}{l:aI}(h:Rd k w v n l)(hb:aD w w'):Rd k w' v n l:=by
 rcases h with h|⟨g,cap,h1,F,G,H,I⟩
 ·exact .inl h
 ·exact .inr ⟨g,cap,h1,qa4 F hb.size,G,fun j u K=>(hb.cell (p:=(aj g j)) F).trans (H j u K),I⟩
theorem GT.rd{oZ:Own}{t:Nat}{e:TypeId}{k:Nat}{w:World}{v:Value}{n:Nat}{l:aI}(h:GT oZ t e k w v n l):Rd k w v n l:=by
 rcases h with h|⟨g,cap,cs,h1,U,G,V,X,Z,K,H,O⟩
 ·exact .inl h
 ·refine .inr ⟨g,cap,h1,G.lt,K,fun j u F=>?_,fun u I=>O u (by rw[<-H]at I;exact Am I)⟩;rw[G.cell];rw[<-H,uj]at F;split at F
  ·exact F
  ·cases F
theorem jC.rd{oZ:Own}{t:Nat}{w:World}{S:Nat}{va:Value}{rs:aP}(h:jC oZ t w S va rs):Rd 2 w va rs.length (St.aL rs):=by
 obtain⟨base,c,rfl,H,I,G,K⟩:=h
 rcases G with⟨rfl,rfl,rfl⟩|⟨b,l,rfl,_,hB,hl,ht,h1⟩
 ·exact .inl ⟨rfl,rfl,rfl⟩
 ·refine .inr ⟨b,c,rfl,hB.lt,by rw[St.jA];omega,fun j u F=>?_,St.jq rs⟩;rw[hB.cell];rw[<-ht,uj]at F;split at F
  ·exact F
  ·cases F
theorem A8(n:Nat):(fA (tL false).cells n).toList.length=n:=by simp[fA,Kt]
theorem LD(n:Nat):∀v∈(fA (tL false).cells n).toList,v.oneCell'=true:=by
 intro v F;simp[fA,Kt]at F;obtain⟨i,_,rfl⟩:=F
 have:i % 1=0:=by omega
 rw[this];rfl
theorem wL:DC 156 4 (.bool false) 1 1:=⟨by kernel_rfl,by kernel_rfl,fun n=>by rw[A8];omega,LD,by omega⟩
theorem A9{t e:TypeId}{z:Value}{k bytes:Nat}(E:DC t e z k bytes)(w:World)(g n cap:Nat)(l:aI)(hg:g<w.heap.size)(hl:l.length=n*k)(hc:∀j u,l[j]?=some u->w.cell? (aj g j)=some u)(h1:∀u∈l,u.oneCell'=true)(hn:n<=1000000):
  ∃U V O,(∀ty,(wz #[t,t] ty #[aS w.heap.size 0 0,aS g n cap]).run prog (w.alloc (.cells #[] e))=.ok (.slice U n V) O)/\bK e k O (.slice U n V) n l/\jX w.heap.size (.slice U n V)/\aD w O:=by
 obtain⟨F,G⟩:∃F,F=w.alloc (.cells #[] e):=⟨_,rfl⟩;rw[<-G]
 have I:aA F w.heap.size e []:=by rw[G];exact aA.new w e []
 have H:aD w F:=by rw[G];exact(tT _ w).alloc (mR _) _
 have h4:F.heap.size=w.heap.size+1:=by rw[G];simp
 have K:∀j u,l[j]?=some u->F.cell? ((aj g 0).add j)=some u:=fun j u hj=>by
  rw[Aw,qa5,H.cell (p:=(aj g j)) hg];exact hc j u hj
 have hO:jX w.heap.size (aS w.heap.size 0 0):=fun k hk=>by simp[E8]at hk;omega
 by_cases h0:n=0
 ·subst h0
  obtain rfl:l=[]:=by simpa using hl
  have h3:=fun ty=>dz (P:=prog) (w:=F) t t ty e _ k bytes E.ht E.ht E.hi (n:=0) (c:=0) (m:=0) (mc:=cap) I (aj g 0) (vs:=[]) (by simp) (fun j v hj=>by simp at hj) (fun v hv=>by cases hv) (mR _) (by simp)
  refine⟨_,_,_,h3,.inr ⟨w.heap.size,0,_,rfl,I.put _,by rw[aN _ _ _ (by simp)];simp,mR _,by omega,by simp,by simp,fun v hv=>by simp[splice]at hv⟩,fun k hk=>by simp[E8]at hk;omega,?_⟩;exact H.trans (⟨(bC F w.heap.size _).os,(bC F w.heap.size _).tape,(bC F w.heap.size _).output,(bC F w.heap.size _).size,fun k hk=>dK F _ k _ (by omega)⟩:Below w.heap.size F _)
 ·have Z:bK e k F (aS w.heap.size 0 0) 0 []:=.inr ⟨w.heap.size,0,[],rfl,I,by simp,mR _,by omega,by simp,by simp,fun v hv=>by cases hv⟩;obtain⟨v',O,uQ,h2,DI⟩:=fE E Z (aj g 0) n cap l hl (by omega) h1 K (by omega)
  have X:bK e k O v' n l:=by simpa using h2
  obtain⟨U,V,rfl,_⟩:=X.shape;exact⟨U,V,O,uQ,X,DI.own hO (by omega),H.trans (DI.below hO (by omega))⟩
theorem Ib(w:World):(binOp BinOp.eql 63 nZ nZ).run prog w=.ok (.bool true) w:=by kernel_rfl
theorem Es(w:World)(a:Addr)(n c:Nat):(binOp BinOp.eql 63 (.slice (some a) n c) nZ).run prog w=.ok (.bool false) w:=by kernel_rfl
theorem Ic(v:Value)(n:Nat)(l:aI)(w:World)(h:Rd 2 w v n l)(H:n<=1000000):
  Calls prog 228 #[v] w fun e w'=>∃a c,e=.returned (.slice a n c)/\bK 170 2 w' (.slice a n c) n l/\jX w.heap.size (.slice a n c)/\aD w w':=by
 rcases h with⟨rfl,rfl,rfl⟩|⟨g,cap,rfl,h2,h3,h4,h5⟩
 ·have I:=Ib w;go_enter func228,ntmps228;go_wp2;go_ret;exact⟨none,0,rfl,.inl ⟨rfl,rfl,rfl⟩,fun k G=>by simp[E8]at G,tT _ _⟩
 ·have I:=Es w (aj g 0) n cap;obtain⟨U,V,O,K,hF⟩:=A9 G7 w g n cap l h2 h3 h4 h5 H;have F:=au hF;clear hF h2 h3 h4 h5;go_enter func228,ntmps228
  go_wp2_with (at_builtin;refine DT _ rfl _ _ _ _ rfl _ _ rfl rfl _ _ (K _) ?_)
  go_ret;exact⟨_,_,rfl,F.out⟩
theorem yc(w:World):(binOp BinOp.eql 54 nZ nZ).run prog w=.ok (.bool true) w:=by kernel_rfl
theorem vT(w:World)(a:Addr)(n c:Nat):(binOp BinOp.eql 54 (.slice (some a) n c) nZ).run prog w=.ok (.bool false) w:=by kernel_rfl
theorem Ie(v:Value)(n:Nat)(l:aI)(w:World)(h:Rd 10 w v n l)(H:n<=1000000):
  Calls prog 272 #[v] w fun e w'=>∃a c,e=.returned (.slice a n c)/\bK 65 10 w' (.slice a n c) n l/\jX w.heap.size (.slice a n c)/\aD w w':=by
 rcases h with⟨rfl,rfl,rfl⟩|⟨g,cap,rfl,h2,h3,h4,h5⟩
 ·have I:=yc w;go_enter func272,ntmps272;go_wp2;go_ret;exact⟨none,0,rfl,.inl ⟨rfl,rfl,rfl⟩,fun k G=>by simp[E8]at G,tT _ _⟩
 ·have I:=vT w (aj g 0) n cap;obtain⟨U,V,O,K,hF⟩:=A9 lS w g n cap l h2 h3 h4 h5 H;have F:=au hF;clear hF h2 h3 h4 h5;go_enter func272,ntmps272
  go_wp2_with (at_builtin;refine DT _ rfl _ _ _ _ rfl _ _ rfl rfl _ _ (K _) ?_)
  go_ret;exact⟨_,_,rfl,F.out⟩
theorem LG(b m n c:Nat)(l:aI)(w:World)(hm:1<=m)(ho:1<=n)(hr:m+n<=c)(_hc:c<=9223372036854775807)(_hbig:m+n<=1000000)(h:aA w b 5 l)(hl:c<=l.length)(h1:∀v∈l,v.oneCell'=true):
  Calls prog 303 #[(aS b (m+n) c),iZ 0,iZ n] w fun e w'=>
   ∃l',e=.returned (aS b m c)/\aA w' b 5 l'/\l'.length=l.length/\l'.take m=(l.take (m+n)).drop n/\(∀v∈l',v.oneCell'=true)/\je b w w':=by
 have h3:((l.take (m+n)).drop n).length=m:=by simp;omega
 have O:∀v∈(l.take (m+n)).drop n,v.oneCell'=true:=fun v hv=>h1 v (Am (qa0 hv))
 have H:∀j v,((l.take (m+n)).drop n)[j]?=some v->l[n+j]?=some v:=fun j v hj=>by
  rw[qa3,uj]at hj;split at hj
  ·exact hj
  ·cases hj
 have h0:(loadCellsFrom (aj b n) 0 (m*1) #[]).run prog w.drew=.ok ((l.take (m+n)).drop n).toArray w.drew:=by
  have hf:=run_firstCells_some (P:=prog) w.drew 1 m (aj b n) m (c-n) ((l.take (m+n)).drop n) (by omega) (fun j v hj=>by
   rw[Aw];exact(aA.cell h (n+j)).trans (H j v hj))
  simpa[SF,loadCells]using hf
 rw[He]at h0
 have h2:(storeCells (aj b 0) ((l.take (m+n)).drop n)).run prog w.drew=.ok () (put w.drew b (splice l 0 ((l.take (m+n)).drop n))):=
  cu (P:=prog) (w:=w.drew) (o:=0) h _ (by omega) O
 have U:(splice l 0 ((l.take (m+n)).drop n)).length=l.length:=aN _ _ _ (by omega)
 have G:(splice l 0 ((l.take (m+n)).drop n)).take m=(l.take (m+n)).drop n:=by
  have:=dV l ((l.take (m+n)).drop n) 0 (by omega);rw[h3]at this;simpa using this
 have I:∀v∈splice l 0 ((l.take (m+n)).drop n),v.oneCell'=true:=aW h1 O;have F:aA (put w.drew b (splice l 0 ((l.take (m+n)).drop n))) b 5 (splice l 0 ((l.take (m+n)).drop n)):=aA.put (w:=w.drew) h _;generalize splice l 0 ((l.take (m+n)).drop n)=l1 at h2 U G I F;generalize (l.take (m+n)).drop n=X at G h0 h2 ⊢
 have h7:∀ty cc,(R3 #[60] ty #[.slice (some (aj b m)) n cc]).run prog (put w.drew b l1)=.ok (.tuple #[]) (put (put w.drew b l1) b (splice l1 m (fA (Av .u8 0).cells n).toList)):=fun ty cc=>
  dG (P:=prog) (o:=m) (n:=n) (c:=cc) 60 5 ty _ uP.ht (fun w=>by kernel_rfl) F (by omega) (by rw[uP.hz];omega) (uP.h1 _)
 have Z:(splice l1 m (fA (Av .u8 0).cells n).toList).take m=X:=by
  rw[dH _ _ _ _ (by rw[uP.hz];omega) (mR _),G]
 have V:(splice l1 m (fA (Av .u8 0).cells n).toList).length=l.length:=by rw[aN _ _ _ (by rw[uP.hz];omega),U]
 have K:∀v∈splice l1 m (fA (Av .u8 0).cells n).toList,v.oneCell'=true:=aW I (uP.h1 _);generalize splice l1 m (fA (Av .u8 0).cells n).toList=l2 at h7 Z V K;have h6:Hid _:=Z;have N7:Hid _:=K;have h5:Hid _:=V;have h4:Hid (aA (put w.drew b l1) b 5 l1):=F;have HG:Hid (je b w (put (put w.drew b l1) b l2)):=⟨rfl,rfl,rfl,by simp[put],fun k hk=>by rw[dK _ _ _ _ hk,dK _ _ _ _ hk];rfl⟩;clear G Z K V I U F O H h3 h1 hl h
 have hg:m<=c:=by omega
 have h8:(n:Int)<=(m:Int)+(n:Int):=by omega
 have h9:(m:Int)+(n:Int)<=(c:Int):=by omega
 have ha:(n:Int)<=(c:Int):=by omega
 have hc:¬(c=m):=by omega
 have he:¬(c=n):=by omega
 have hn:¬((0:Int)=(n:Int)):=by omega
 have Xu:((0:Int)==(n:Int))=false:=by simp;omega
 have e1:m+n-m=n:=by omega
 have e2:m+n-n=m:=by omega
 go_enter func303,ntmps303;go_wp2
 go_region
 go_wp2;go_ret;exact⟨l2,rfl,aA.put h4.out l2,h5.out,h6.out,N7.out,HG.out⟩
theorem LH(b m n c:Nat)(l:aI)(w:World)(hm:1<=m)(ho:1<=n)(hr:m+n<=c)(_hc:c<=9223372036854775807)(_hbig:m+n<=1000000)(h:aA w b 4 l)(hl:c<=l.length)(h1:∀v∈l,v.oneCell'=true):
  Calls prog 304 #[(aS b (m+n) c),iZ 0,iZ n] w fun e w'=>
   ∃l',e=.returned (aS b m c)/\aA w' b 4 l'/\l'.length=l.length/\l'.take m=(l.take (m+n)).drop n/\(∀v∈l',v.oneCell'=true)/\je b w w':=by
 have h3:((l.take (m+n)).drop n).length=m:=by simp;omega
 have O:∀v∈(l.take (m+n)).drop n,v.oneCell'=true:=fun v hv=>h1 v (Am (qa0 hv))
 have H:∀j v,((l.take (m+n)).drop n)[j]?=some v->l[n+j]?=some v:=fun j v hj=>by
  rw[qa3,uj]at hj;split at hj
  ·exact hj
  ·cases hj
 have h0:(loadCellsFrom (aj b n) 0 (m*1) #[]).run prog w.drew=.ok ((l.take (m+n)).drop n).toArray w.drew:=by
  have hf:=run_firstCells_some (P:=prog) w.drew 1 m (aj b n) m (c-n) ((l.take (m+n)).drop n) (by omega) (fun j v hj=>by
   rw[Aw];exact(aA.cell h (n+j)).trans (H j v hj))
  simpa[SF,loadCells]using hf
 rw[He]at h0
 have h2:(storeCells (aj b 0) ((l.take (m+n)).drop n)).run prog w.drew=.ok () (put w.drew b (splice l 0 ((l.take (m+n)).drop n))):=
  cu (P:=prog) (w:=w.drew) (o:=0) h _ (by omega) O
 have U:(splice l 0 ((l.take (m+n)).drop n)).length=l.length:=aN _ _ _ (by omega)
 have G:(splice l 0 ((l.take (m+n)).drop n)).take m=(l.take (m+n)).drop n:=by
  have:=dV l ((l.take (m+n)).drop n) 0 (by omega);rw[h3]at this;simpa using this
 have I:∀v∈splice l 0 ((l.take (m+n)).drop n),v.oneCell'=true:=aW h1 O;have F:aA (put w.drew b (splice l 0 ((l.take (m+n)).drop n))) b 4 (splice l 0 ((l.take (m+n)).drop n)):=aA.put (w:=w.drew) h _;generalize splice l 0 ((l.take (m+n)).drop n)=l1 at h2 U G I F;generalize (l.take (m+n)).drop n=X at G h0 h2 ⊢
 have h7:∀ty cc,(R3 #[156] ty #[.slice (some (aj b m)) n cc]).run prog (put w.drew b l1)=.ok (.tuple #[]) (put (put w.drew b l1) b (splice l1 m (fA (tL false).cells n).toList)):=fun ty cc=>
  dG (P:=prog) (o:=m) (n:=n) (c:=cc) 156 4 ty _ wL.ht (fun w=>by kernel_rfl) F (by omega) (by rw[wL.hz];omega) (wL.h1 _)
 have Z:(splice l1 m (fA (tL false).cells n).toList).take m=X:=by
  rw[dH _ _ _ _ (by rw[wL.hz];omega) (mR _),G]
 have V:(splice l1 m (fA (tL false).cells n).toList).length=l.length:=by rw[aN _ _ _ (by rw[wL.hz];omega),U]
 have K:∀v∈splice l1 m (fA (tL false).cells n).toList,v.oneCell'=true:=aW I (wL.h1 _);generalize splice l1 m (fA (tL false).cells n).toList=l2 at h7 Z V K;have h6:Hid _:=Z;have N7:Hid _:=K;have h5:Hid _:=V;have h4:Hid (aA (put w.drew b l1) b 4 l1):=F;have HG:Hid (je b w (put (put w.drew b l1) b l2)):=⟨rfl,rfl,rfl,by simp[put],fun k hk=>by rw[dK _ _ _ _ hk,dK _ _ _ _ hk];rfl⟩;clear G Z K V I U F O H h3 h1 hl h
 have hg:m<=c:=by omega
 have h8:(n:Int)<=(m:Int)+(n:Int):=by omega
 have h9:(m:Int)+(n:Int)<=(c:Int):=by omega
 have ha:(n:Int)<=(c:Int):=by omega
 have hc:¬(c=m):=by omega
 have he:¬(c=n):=by omega
 have hn:¬((0:Int)=(n:Int)):=by omega
 have Xu:((0:Int)==(n:Int))=false:=by simp;omega
 have e1:m+n-m=n:=by omega
 have e2:m+n-n=m:=by omega
 go_enter func304,ntmps304;go_wp2
 go_region
 go_wp2;go_ret;exact⟨l2,rfl,aA.put h4.out l2,h5.out,h6.out,N7.out,HG.out⟩
theorem O8(b n c:Nat)(l:aI)(w:World)(Z:1<=n)(h0:n<=c)(h:aA w b 5 l)(hl:c<=l.length)(h1:∀v∈l,v.oneCell'=true):
  Calls prog 303 #[aS b n c,iZ 0,iZ n] w fun e w'=>
   ∃l',e=.returned (aS b 0 c)/\aA w' b 5 l'/\l'.length=l.length/\(∀v∈l',v.oneCell'=true)/\je b w w':=by
 have H:∀ty cc,(R3 #[60] ty #[aS b n cc]).run prog w.drew=.ok (.tuple #[]) (put w.drew b (splice l 0 (fA (Av .u8 0).cells n).toList)):=fun ty cc=>
  dG (P:=prog) (o:=0) (n:=n) (c:=cc) 60 5 ty _ uP.ht (fun w=>by kernel_rfl) (aA.drew h) (by omega) (by rw[uP.hz];omega) (uP.h1 _)
 have G:(splice l 0 (fA (Av .u8 0).cells n).toList).length=l.length:=aN _ _ _ (by rw[uP.hz];omega);have F:∀v∈splice l 0 (fA (Av .u8 0).cells n).toList,v.oneCell'=true:=aW h1 (uP.h1 _);generalize splice l 0 (fA (Av .u8 0).cells n).toList=l2 at H G F;have K:Hid (aA (put w.drew b l2) b 5 l2/\l2.length=l.length/\(∀v∈l2,v.oneCell'=true)/\je b w (put w.drew b l2)):=⟨aA.put (w:=w.drew) h l2,G,F,rfl,rfl,rfl,by simp[put],fun k V=>by rw[dK _ _ _ _ V];rfl⟩;clear G F h h1 hl
 have U:(n:Int)<=(c:Int):=by omega
 have X:¬((0:Int)=(n:Int)):=by omega
 have Xu:((0:Int)==(n:Int))=false:=by simp;omega
 have O:¬(c=0):=by omega
 by_cases I:c=n
 all_goals
  go_enter func303,ntmps303;go_wp2
  go_region
  go_wp2;go_ret;exact⟨l2,St.mG rfl (by first|rfl|exact I.symm),K.out⟩
theorem O9(b n c:Nat)(l:aI)(w:World)(Z:1<=n)(h0:n<=c)(h:aA w b 4 l)(hl:c<=l.length)(h1:∀v∈l,v.oneCell'=true):
  Calls prog 304 #[aS b n c,iZ 0,iZ n] w fun e w'=>
   ∃l',e=.returned (aS b 0 c)/\aA w' b 4 l'/\l'.length=l.length/\(∀v∈l',v.oneCell'=true)/\je b w w':=by
 have H:∀ty cc,(R3 #[156] ty #[aS b n cc]).run prog w.drew=.ok (.tuple #[]) (put w.drew b (splice l 0 (fA (tL false).cells n).toList)):=fun ty cc=>
  dG (P:=prog) (o:=0) (n:=n) (c:=cc) 156 4 ty _ wL.ht (fun w=>by kernel_rfl) (aA.drew h) (by omega) (by rw[wL.hz];omega) (wL.h1 _)
 have G:(splice l 0 (fA (tL false).cells n).toList).length=l.length:=aN _ _ _ (by rw[wL.hz];omega);have F:∀v∈splice l 0 (fA (tL false).cells n).toList,v.oneCell'=true:=aW h1 (wL.h1 _);generalize splice l 0 (fA (tL false).cells n).toList=l2 at H G F;have K:Hid (aA (put w.drew b l2) b 4 l2/\l2.length=l.length/\(∀v∈l2,v.oneCell'=true)/\je b w (put w.drew b l2)):=⟨aA.put (w:=w.drew) h l2,G,F,rfl,rfl,rfl,by simp[put],fun k V=>by rw[dK _ _ _ _ V];rfl⟩;clear G F h h1 hl
 have U:(n:Int)<=(c:Int):=by omega
 have X:¬((0:Int)=(n:Int)):=by omega
 have Xu:((0:Int)==(n:Int))=false:=by simp;omega
 have O:¬(c=0):=by omega
 by_cases I:c=n
 all_goals
  go_enter func304,ntmps304;go_wp2
  go_region
  go_wp2;go_ret;exact⟨l2,St.mG rfl (by first|rfl|exact I.symm),K.out⟩
theorem O_(oZ:Own)(t n:Nat)(bs:List UInt8)(a:Option Addr)(c:Nat)(w:World)(hn:1<=n)(h0:n<=bs.length)(hb:bs.length<=1000000)(h:GT oZ t 5 1 w (.slice a bs.length c) bs.length (aQ bs)):
  Calls prog 303 #[.slice a bs.length c,iZ 0,iZ n] w fun e w'=>∃U V,e=.returned (.slice U (bs.length-n) V)/\GT oZ t 5 1 w' (.slice U (bs.length-n) V) (bs.drop n).length (aQ (bs.drop n))/\Kp [t] oZ oZ w w':=by
 rcases h with⟨h1,G,_⟩|⟨g,cap,cs,hv,ho,hB,G,h3,h4,h5,h6,h7⟩
 ·omega
 ·simp at hv;obtain⟨rfl,rfl⟩:=hv
  have X:∀w',je g w w'->Kp [t] oZ oZ w w':=fun w' ht=>⟨ht.os,ht.tape,ht.output,by rw[ht.size];exact mR _,fun b _ I=>ht.block b (fun e=>I (by rw[e,ho];simp)),fun _ _=>rfl⟩
  have F:(bs.drop n).length=bs.length-n:=by simp
  rw[He]at h6 G
  by_cases Z:bs.length=n
  ·have:=O8 g n c cs w hn (by omega) hB G h7;rw[Z];refine this.mono ?_;rintro e w' ⟨l',rfl,k1,k2,K,O⟩;refine⟨_,_,by rw[Ur],?_,X w' O⟩;rw[F,Z,Ur];refine .inr ⟨g,c,l',rfl,ho,k1,by omega,by omega,h4,?_,?_,K⟩
   ·rw[aY,F];omega
   ·rw[qak,qag,WA (by omega)];rfl
  ·obtain⟨m,H⟩:∃m,bs.length=m+n:=⟨bs.length-n,by omega⟩;have:=LG g m n c cs w (by omega) hn (by omega) h4 (by omega) hB G h7;rw[<-H]at this;refine this.mono ?_;rintro e w' ⟨l',rfl,k1,k2,K,O,k5⟩;refine⟨_,_,by rw[show bs.length-n=m by omega],?_,X w' k5⟩;rw[F,show bs.length-n=m by omega];refine .inr ⟨g,c,l',rfl,ho,k1,by omega,by omega,h4,?_,?_,O⟩
   ·rw[aY,F];omega
   ·rw[He,K,h6];simp[aQ]
theorem Pb(oZ:Own)(t n:Nat)(bs:List Bool)(a:Option Addr)(c:Nat)(w:World)(hn:1<=n)(h0:n<=bs.length)(hb:bs.length<=1000000)(h:GT oZ t 4 1 w (.slice a bs.length c) bs.length (fO bs)):
  Calls prog 304 #[.slice a bs.length c,iZ 0,iZ n] w fun e w'=>∃V X,e=.returned (.slice V (bs.length-n) X)/\GT oZ t 4 1 w' (.slice V (bs.length-n) X) (bs.drop n).length (fO (bs.drop n))/\Kp [t] oZ oZ w w':=by
 have G:∀l:List Bool,(fO l).length=l.length:=fun l=>by simp[fO]
 rcases h with⟨h1,H,_⟩|⟨g,cap,cs,hv,ho,hB,H,h3,h4,h5,h6,h7⟩
 ·omega
 ·simp at hv;obtain⟨rfl,rfl⟩:=hv
  have Z:∀w',je g w w'->Kp [t] oZ oZ w w':=fun w' ht=>⟨ht.os,ht.tape,ht.output,by rw[ht.size];exact mR _,fun b _ K=>ht.block b (fun e=>K (by rw[e,ho];simp)),fun _ _=>rfl⟩
  have F:(bs.drop n).length=bs.length-n:=by simp
  rw[He]at h6 H
  by_cases hm:bs.length=n
  ·have:=O9 g n c cs w hn (by omega) hB H h7;rw[hm];refine this.mono ?_;rintro e w' ⟨l',rfl,k1,k2,O,U⟩;refine⟨_,_,by rw[Ur],?_,Z w' U⟩;rw[F,hm,Ur];refine .inr ⟨g,c,l',rfl,ho,k1,by omega,by omega,h4,?_,?_,O⟩
   ·rw[G,F];omega
   ·rw[qak,qag,WA (by omega)];rfl
  ·obtain⟨m,I⟩:∃m,bs.length=m+n:=⟨bs.length-n,by omega⟩;have:=LH g m n c cs w (by omega) hn (by omega) h4 (by omega) hB H h7;rw[<-I]at this;refine this.mono ?_;rintro e w' ⟨l',rfl,k1,k2,O,U,k5⟩;refine⟨_,_,by rw[show bs.length-n=m by omega],?_,Z w' k5⟩;rw[F,show bs.length-n=m by omega];refine .inr ⟨g,c,l',rfl,ho,k1,by omega,by omega,h4,?_,?_,U⟩
   ·rw[G,F];omega
   ·rw[He,O,h6];simp[fO]
theorem LJ{l:List Bool}{i:Nat}(hi:i<=l.length)(h:∀j,j<i->l.getD j false=true):i<=(l.takeWhile id).length:=by
 induction l generalizing i with
 |nil=>simpa using hi
 |cons b t G=>
  cases i with
  |zero=>exact ZH _
  |succ i=>
   have F:b=true:=h 0 (by omega);subst F;have:=G (i:=i) (by simpa using hi) (fun j H=>by simpa using h (j+1) (by omega));simp only[qa2,id,if_true,Ui];omega
theorem yg(l:List Bool):(l.takeWhile id).length<=l.length:=(List.takeWhile_prefix _).length_le
theorem Ig{l:List Bool}{i:Nat}(hi:i<l.length)(h:l.getD i false=false):(l.takeWhile id).length<=i:=by
 induction l generalizing i with
 |nil=>simp at hi
 |cons b t G=>
  cases i with
  |zero=>
   have F:b=false:=h;subst F;simp
  |succ i=>
   cases b with
   |false=>simp
   |true=>
    have:=G (i:=i) (by simpa using hi) (by simpa using h);simp only[qa2,id,if_true,Ui];omega
theorem LK(oZ:Own)(t:Nat)(bs:List Bool)(a:Option Addr)(c:Nat)(w:World)(hb:bs.length<=1000000)(h:GT oZ t 4 1 w (.slice a bs.length c) bs.length (fO bs)):
  Calls prog 305 #[.slice a bs.length c,.bool false] w fun e w'=>e=.returned (iZ (if(bs.takeWhile id).length=bs.length then -1 else((bs.takeWhile id).length:Int)))/\w'=w:=by
 have HG:=au h;have U:=au (And.intro (fun i hi Z=>LJ (l:=bs) (i:=i) hi Z) (fun i hi Z=>Ig (l:=bs) (i:=i) hi Z));have h3:=yg bs
 obtain⟨R,X⟩:∃R:Int,R=if(bs.takeWhile id).length=bs.length then -1 else((bs.takeWhile id).length:Int):=⟨_,rfl⟩
 rw[<-X];have HR:=au X;clear h X;generalize (bs.takeWhile id).length=T at *;go_enter func305,ntmps305
 go_wp2_with fail
 go_loopw [8] (fun s8 wr=>∃i:Nat,i<=bs.length/\s8=(iZ i)/\wr=w/\Hid (∀j,j<i->bs.getD j false=true)) (fun s8 _=>bs.length-(intOf s8).toNat)
 case atStart=>exact⟨0,ZH _,rfl,rfl,fun j hj=>by omega⟩
 case round=>
  obtain⟨i,hi,rfl,rfl,H⟩:=hrel
  by_cases K:i<bs.length
  ·have h0:(i:Int)<(bs.length:Int):=by omega
   have hc:(fO bs)[i]?=some (.bool (bs.getD i false)):=by simp[fO,K]
   obtain⟨g,rfl,_,hg,F,_⟩:=HG.out.cell i _ hc;clear hc;cases I:bs.getD i false
   ·have h1:=U.out.2 i K I;have V:=U.out.1 i (by omega) H.out
    have G:Hid (R=(i:Int)):=by unfold Hid;rw[HR.out,if_neg (by omega)];omega
    rw[I]at F;clear I H h1 V;go_wp2;go_ret;exact⟨eP (by rw[G.out]),rfl⟩
   ·have O:Hid (∀j,j<i+1->bs.getD j false=true):=fun j hj=>by
     by_cases e:j=i
     ·rw[e];exact I
     ·exact H.out j (by omega)
    rw[I]at F;clear I H
    go_wp2_with fail
    go_roundw
    case rel=>exact⟨i+1,by omega,by go_num,by first|rfl|trivial,O⟩
    case measure=>simp[intOf];omega
  ·obtain rfl:i=bs.length:=by omega
   have V:=U.out.1 bs.length (mR _) H.out
   have G:Hid (R= -1):=by unfold Hid;rw[HR.out,if_pos (by omega)]
   clear H V;go_wp2;go_ret;exact⟨eP (by rw[G.out]),rfl⟩
theorem Pd(oZ:Own)(t S o:Nat)(m:bU)(vh vc:Value)(l:aI)(w:World)(hB:aA w S TS l)(h:vQ l o m vh vc)(H:GT oZ t 4 1 w vc m.came.length (fO m.came))(hl:m.came.length<=1000000):
  Calls prog 239 #[ay S o] w fun e w'=>e=.returned (iZ m.ready)/\w'=w:=by
 have c6:=in6 S o m vh vc w l hB h;obtain⟨a,c,rfl,U,_⟩:=H.shape;have G:=au (LK oZ t m.came a c w hl H);have I:Hid (m.ready=(m.came.takeWhile id).length):=rfl;have O:=yg m.came;generalize m.ready=R at *;generalize (m.came.takeWhile id).length=T at *;clear H h hB
 by_cases F:T=m.came.length
 ·rw[if_pos F]at G;have K:=au F;clear F;go_enter func239,ntmps239
  go_wp2_with fail
  refine G.out.mono ?_;rintro e w' ⟨rfl,rfl⟩;go_wp2;go_ret;exact⟨eP (by rw[I.out,K.out]),rfl⟩
 ·rw[if_neg F]at G;clear F;go_enter func239,ntmps239
  go_wp2_with fail
  refine G.out.mono ?_;rintro e w' ⟨rfl,rfl⟩;go_wp2;go_ret;exact⟨eP (by rw[I.out]),rfl⟩
def Pe(s t:Nat)(oZ:Own)(S o:Nat)(l:aI)(w:World)(m':bU)(w':World):Prop:=
 ∃aC l',Kp [s,t,t+1] oZ aC w w'/\aA w' S TS l'/\iN l l' o 13/\AX aC t w' l' o m'
theorem qV.set{l:aI}{o j:Nat}{v:Value}{g:Gn}(h:qV l o g)(F:j<o\/o+4<=j):qV (l.set j v) o g:=
 ⟨(ak _ _ _ _ (by omega)).trans h.c0,(ak _ _ _ _ (by omega)).trans h.c1,(ak _ _ _ _ (by omega)).trans h.c2,(ak _ _ _ _ (by omega)).trans h.c3⟩
theorem Pf{l:aI}{o:Nat}{m:bU}{vh vc:Value}(h:vQ l o m vh vc)(x:Nat):vQ (l.set (o+4) (uZ x)) o {m with read:=x} vh vc:=
 ⟨h.gr.set (by omega),aU _ _ _ _ h.c4,(ak _ _ _ _ (by omega)).trans h.c5,(ak _ _ _ _ (by omega)).trans h.c6,(ak _ _ _ _ (by omega)).trans h.c7,(ak _ _ _ _ (by omega)).trans h.c8,(ak _ _ _ _ (by omega)).trans h.c9,(ak _ _ _ _ (by omega)).trans h.c10,(ak _ _ _ _ (by omega)).trans h.c11,(ak _ _ _ _ (by omega)).trans h.c12⟩
theorem Et{l:aI}{o:Nat}{m:bU}{vh vc:Value}(h:vQ l o m vh vc)(v:Value)(bs:List UInt8):vQ (l.set (o+5) v) o {m with held:=bs} v vc:=
 ⟨h.gr.set (by omega),(ak _ _ _ _ (by omega)).trans h.c4,aU _ _ _ _ h.c5,(ak _ _ _ _ (by omega)).trans h.c6,(ak _ _ _ _ (by omega)).trans h.c7,(ak _ _ _ _ (by omega)).trans h.c8,(ak _ _ _ _ (by omega)).trans h.c9,(ak _ _ _ _ (by omega)).trans h.c10,(ak _ _ _ _ (by omega)).trans h.c11,(ak _ _ _ _ (by omega)).trans h.c12⟩
theorem Eu{l:aI}{o:Nat}{m:bU}{vh vc:Value}(h:vQ l o m vh vc)(v:Value)(bs:List Bool):vQ (l.set (o+6) v) o {m with came:=bs} vh v:=
 ⟨h.gr.set (by omega),(ak _ _ _ _ (by omega)).trans h.c4,(ak _ _ _ _ (by omega)).trans h.c5,aU _ _ _ _ h.c6,(ak _ _ _ _ (by omega)).trans h.c7,(ak _ _ _ _ (by omega)).trans h.c8,(ak _ _ _ _ (by omega)).trans h.c9,(ak _ _ _ _ (by omega)).trans h.c10,(ak _ _ _ _ (by omega)).trans h.c11,(ak _ _ _ _ (by omega)).trans h.c12⟩
theorem Pg{l:aI}{o:Nat}{m:bU}{vh vc:Value}(h:vQ l o m vh vc)(x:Nat):vQ (l.set (o+7) (uZ x)) o {m with high:=x} vh vc:=
 ⟨h.gr.set (by omega),(ak _ _ _ _ (by omega)).trans h.c4,(ak _ _ _ _ (by omega)).trans h.c5,(ak _ _ _ _ (by omega)).trans h.c6,aU _ _ _ _ h.c7,(ak _ _ _ _ (by omega)).trans h.c8,(ak _ _ _ _ (by omega)).trans h.c9,(ak _ _ _ _ (by omega)).trans h.c10,(ak _ _ _ _ (by omega)).trans h.c11,(ak _ _ _ _ (by omega)).trans h.c12⟩
theorem LM{l:aI}{o:Nat}{m:bU}{vh vc:Value}(h:vQ l o m vh vc)(x:Bool):vQ (l.set (o+8) (.bool x)) o {m with ended:=x} vh vc:=
 ⟨h.gr.set (by omega),(ak _ _ _ _ (by omega)).trans h.c4,(ak _ _ _ _ (by omega)).trans h.c5,(ak _ _ _ _ (by omega)).trans h.c6,(ak _ _ _ _ (by omega)).trans h.c7,aU _ _ _ _ h.c8,(ak _ _ _ _ (by omega)).trans h.c9,(ak _ _ _ _ (by omega)).trans h.c10,(ak _ _ _ _ (by omega)).trans h.c11,(ak _ _ _ _ (by omega)).trans h.c12⟩
theorem Ph{l:aI}{o:Nat}{m:bU}{vh vc:Value}(h:vQ l o m vh vc)(x:Nat):vQ (l.set (o+9) (uZ x)) o {m with dX:=x} vh vc:=
 ⟨h.gr.set (by omega),(ak _ _ _ _ (by omega)).trans h.c4,(ak _ _ _ _ (by omega)).trans h.c5,(ak _ _ _ _ (by omega)).trans h.c6,(ak _ _ _ _ (by omega)).trans h.c7,(ak _ _ _ _ (by omega)).trans h.c8,aU _ _ _ _ h.c9,(ak _ _ _ _ (by omega)).trans h.c10,(ak _ _ _ _ (by omega)).trans h.c11,(ak _ _ _ _ (by omega)).trans h.c12⟩
theorem LP{l:aI}{o:Nat}{m:bU}{vh vc:Value}(h:vQ l o m vh vc)(x:Nat):vQ (l.set (o+12) (iZ x)) o {m with state:=x} vh vc:=
 ⟨h.gr.set (by omega),(ak _ _ _ _ (by omega)).trans h.c4,(ak _ _ _ _ (by omega)).trans h.c5,(ak _ _ _ _ (by omega)).trans h.c6,(ak _ _ _ _ (by omega)).trans h.c7,(ak _ _ _ _ (by omega)).trans h.c8,(ak _ _ _ _ (by omega)).trans h.c9,(ak _ _ _ _ (by omega)).trans h.c10,(ak _ _ _ _ (by omega)).trans h.c11,aU _ _ _ _ h.c12⟩
theorem AX.loc{oZ:Own}{t:Nat}{w:World}{l:aI}{o:Nat}{m:bU}(h:AX oZ t w l o m):AX (loc oZ w.heap.size) t w l o m:=by
 obtain⟨vh,vc,h1,F,G⟩:=h;exact⟨vh,vc,h1,F.loc,G.loc⟩
theorem U2(S o:Nat)(w:World):Calls prog 238 #[ay S o,iZ 0] w fun e w'=>e=.returned nZ/\w'=w:=by
 go_enter func238,ntmps238;go_wp2;go_ret;exact⟨rfl,rfl⟩
theorem Qr(m:bU):m.cut 0=m:=by
 cases m;simp[bU.cut]
theorem U3{s t:Nat}{oZ:Own}{S o:Nat}{l:aI}{w:World}{m m':bU}(hB:aA w S TS l)(G:oZ S=s)(V:s<t)(O:AX oZ t w l o m)(j:Nat)(v:Value)(U:o<=j)(F:j<o+13)(h:∀vh vc,vQ l o m vh vc->vQ (l.set j v) o m' vh vc)(I:m'.held=m.held)(K:m'.came=m.came):Pe s t oZ S o l w m' (w.setCell (aj S j) v):=by
 have h1:=dL.one hB j v o 13 U F;obtain⟨vh,vc,k1,k2,X⟩:=O;have H:=h1.kp G (T:=[s]) (by simp);refine⟨oZ,_,h1.kp G (by simp),h1.blk,h1.win,vh,vc,h _ _ k1,?_,?_⟩
 ·rw[I];exact k2.kp H (by simp;omega)
 ·rw[K];exact X.kp H (by simp;omega)
theorem Qs{v v':Value}{a b:Int}(h:v=v')(F:a=b):Ending.returned (.tuple #[v,iZ a])=.returned (.tuple #[v',iZ b]):=by rw[h,F]
theorem jZ{t e:TypeId}{z:Value}{k bytes:Nat}(E:DC t e z k bytes)(x6:0<k){oZ:Own}{g:Nat}{w:World}{v:Value}{n:Nat}{l:aI}(h:GT oZ g e k w v n l)(m:Nat)(hm:0<m)(hsz:n+m<=1000000000):
  ∃v' w' aC,(∀ty,(wz #[t,3] ty #[v,iZ m]).run prog w=.ok v' w')/\GT aC g e k w' v' (n+m) (l++(fA z.cells m).toList)/\Kp [g] oZ aC w w':=by
 obtain⟨i,hi,hz,hs,hb⟩:=info_parts E.hi
 have he:prog.underlying 3=some (.int .i64):=by kernel_rfl
 have Z:(n+m)*bytes<=140737488355328:=qaj (qah hsz E.hb) (by decide);have x7:m*bytes<=(n+m)*bytes:=Lb _ (by omega);have hy:=h.len;have hk:(n+m)*k=n*k+m*k:=YF _ _ _;have x4:=E.hz m
 have grow:∀base c (cs:aI),cs=l->c<n+m->(base=none/\cs=[]\/∃b:Addr,base=some b/\cs.length=n*k/\∀j v,cs[j]?=some v->w.cell? (b.add j)=some v)->(∀v∈cs,v.oneCell'=true)->∃v' w' aC,(∀ty,(wz #[t,3] ty #[.slice base n c,iZ m]).run prog w=.ok v' w')/\GT aC g e k w' v' (n+m) (l++(fA z.cells m).toList)/\Kp [g] oZ aC w w':=by
  intro base c cs h0 U hold h9
  have hO:(SF i.size n (.slice base n c)).run prog w.drew=.ok cs.toArray w.drew:=by
   rcases hold with⟨rfl,rfl⟩|⟨b,rfl,hl,hc⟩
   ·exact run_firstCells_none w.drew i.size n n c
   ·rw[hs];exact run_firstCells_some w.drew k n b n c cs hl hc
  have H:=fun ty=>Lib.run_append_grow_zeros (P:=prog) w t 3 ty e i z .i64 .i64 E.ht he hi hz base n c cs hO m hm (by omega) U (by omega) (by rw[hb];omega) (by rw[hb];exact growslice_fits U Z)
  have hf:=grownCap_ge w (n+m) c e;have I:=grownCap_le_maxLen w (n+m) c e (by unfold maxLen;omega);unfold maxLen at I
  have hx:cs.length=n*k:=by rw[h0,hy]
  have X:(cs.toArray++fA z.cells m++fA z.cells (grownCap w (n+m) c e-(n+m)))=(cs++(fA z.cells m).toList++(fA z.cells (grownCap w (n+m) c e-(n+m))).toList).toArray:=by
   apply Array.ext';simp
  rw[X]at H;refine⟨_,_,rz oZ g w.heap.size (w.heap.size+1),H,.inr ⟨w.heap.size,_,_,rfl,rA _ _ _ _ _ (mR _) (by omega),aA.new w e _,?_,hf,I,by rw[fB];omega,?_,?_⟩,?_⟩
  ·rw[fB,fB,E.hz,E.hz,hx]
   have:(grownCap w (n+m) c e-(n+m))*k+(n+m)*k=grownCap w (n+m) c e*k:=by rw[<-YF];congr 1;omega
   omega
  ·rw[M4 (by rw[fB];omega),WJ (by rw[fB];omega),h0]
  ·intro u F
   rcases KG.1 F with F|F
   ·rcases KG.1 F with F|F
    ·exact h9 u F
    ·exact E.h1 _ u F
   ·exact E.h1 _ u F
  ·have G:aD w (w.drew.alloc (.cells (cs++(fA z.cells m).toList++(fA z.cells (grownCap w (n+m) c e-(n+m))).toList).toArray e)):=(tT _ w).drew.alloc (mR _) _;exact⟨G.os,G.tape,G.output,G.size,fun b K _=>G.block b K,fun b K=>ny _ _ _ _ _ K⟩
 rcases h with⟨rfl,rfl,rfl⟩|⟨b,cap,cs,rfl,ho,hB,h2,h3,h4,h5,h6,h7⟩
 ·exact grow none 0 [] rfl (by omega) (.inl ⟨rfl,rfl⟩) (fun v hv=>by simp at hv)
 ·by_cases U:n+m<=cap
  ·have x5:(n+m)*k<=cap*k:=Lb _ U;have ha:=cu (P:=prog) (w:=w) (o:=n*k) hB (fA z.cells m).toList (by omega) (E.h1 _)
   have H:∀ty,(wz #[t,3] ty #[aS b n cap,iZ m]).run prog w=.ok (aS b (n+m) cap) (put w b (splice cs (n*k) (fA z.cells m).toList)):=fun ty=>by
    have hw:IntKind.i64.wrap (m:Int)=m:=by rw[IntKind.wrap_i64];omega
    have h8:¬((m:Int)<0):=by omega
    have V:¬(281474976710656<(m:Int)*(i.bytes:Int)):=by
     rw[hb,<-Int.natCast_mul];omega
    have x0:¬(m*i.size=0):=Nat.mul_ne_zero (by omega) (by omega);rw[<-hs]at ha ⊢;simp[wz,run_underlying E.ht,run_underlying he,sizeOf,typeInfo,zeroValue,hi,hz,asInt,asIntOf,hw,U,h8,x0,V,Aw,ha]
   have x3:=dV cs (fA z.cells m).toList (n*k) (by omega);refine⟨_,_,oZ,H,.inr ⟨b,cap,_,rfl,ho,hB.put _,?_,U,h4,by rw[fB];omega,?_,aW h7 (E.h1 _)⟩,?_⟩
   ·rw[aN _ _ _ (by omega)];exact h2
   ·rw[hk,<-x4,x3,h6]
   ·have hg:=bC w b (splice cs (n*k) (fA z.cells m).toList);exact⟨hg.os,hg.tape,hg.output,hg.size,fun j O hn=>hg.block j O (fun e=>by simp at e;rw[e,ho]at hn;simp at hn),fun _ _=>rfl⟩
  ·exact grow (some (aj b 0)) cap l rfl (by omega) (.inr ⟨_,rfl,h5,fun j u O=>by
    rw[Aw,qa5,hB.cell];rw[<-h6,uj]at O;split at O
    ·exact O
    ·cases O⟩) (fun u F=>h7 u (by rw[<-h6]at F;exact Am F))
theorem XZ(m:Nat):(fA (Av .u8 0).cells m).toList=aQ (nI m 0):=by
 apply qaa
 ·rw[pU,aY,List.length_replicate]
 ·intro i h1 F
  have e:i % 1=0:=by omega
  simp[fA,Kt,aQ,e]
theorem X0(m:Nat):(fA (tL false).cells m).toList=fO (nI m false):=by
 apply qaa
 ·rw[A8];simp[fO]
 ·intro i h1 F
  have e:i % 1=0:=by omega
  simp[fA,Kt,fO,e]
theorem lU:∀(a b:List UInt8) (i:Nat) (h:List UInt8) (c:List Bool),bF (a++b) i h c=bF b (i+a.length) (bF a i h c).1 (bF a i h c).2
 |[],b,i,h,c=>by simp[bF]
 |x::t,b,i,h,c=>by
  simp only[List.cons_append,bF,Ui];split
  ·rw[lU t b,show i+1+t.length=i+(t.length+1) by omega]
  ·rw[lU t b,show i+1+t.length=i+(t.length+1) by omega]
theorem qW:∀(d:List UInt8) (i:Nat) (h:List UInt8) (c:List Bool),(bF d i h c).1.length=h.length/\(bF d i h c).2.length=c.length
 |[],_,_,_=>⟨rfl,rfl⟩
 |x::t,i,h,c=>by
  simp only[bF];split
  ·exact qW t _ _ _
  ·have:=qW t (i+1) (h.set i x) (c.set i true);simpa using this
theorem D7(d:List UInt8)(k f:Nat)(h:List UInt8)(c:List Bool)(F:k<d.length):
  bF (d.take (k+1)) f h c=if(bF (d.take k) f h c).2.getD (f+k) false then bF (d.take k) f h c else((bF (d.take k) f h c).1.set (f+k) d[k],(bF (d.take k) f h c).2.set (f+k) true):=by
 have e:d.take (k+1)=d.take k++[d[k]]:=by simp
 have hl:(d.take k).length=k:=by simp;omega
 rw[e,lU,hl];simp only[bF]
theorem GT.Xk{oZ:Own}{t:Nat}{e:TypeId}{w:World}{a:Option Addr}{n c:Nat}{l:aI}(h:GT oZ t e 1 w (.slice a n c) n l)(j:Nat)(H:j<n)(x:Value)(G:x.oneCell'=true):
  ∃g,a=some (aj g 0)/\oZ g=t/\g<w.heap.size/\GT oZ t e 1 (w.setCell (aj g j) x) (.slice a n c) n (l.set j x):=by
 rcases h with⟨_,rfl,_⟩|⟨g,cap,cs,F,ho,hB,h2,h3,h4,h5,h6,h7⟩
 ·omega
 ·simp at F;obtain⟨rfl,rfl⟩:=F;refine⟨g,rfl,ho,hB.lt,.inr ⟨g,c,cs.set j x,rfl,ho,hB.setCell j x,by simpa using h2,h3,h4,by simpa using h5,?_,?_⟩⟩
  ·rw[<-h6,List.take_set]
  ·intro v F
   rcases List.mem_or_eq_of_mem_set F with h|h
   ·exact h7 v h
   ·rw[h];exact G
structure nS (oZ:Own) (s t S o:Nat) (l:aI) (w0:World) (ah:Option Addr) (ch:Nat) (ac:Option Addr) (cc L:Nat) (h:List UInt8) (c:List Bool) (wr:World):Prop where
 kp:Kp [t,t+1] oZ oZ w0 wr
 blk:aA wr S TS l
 gh:GT oZ t 5 1 wr (.slice ah L ch) L (aQ h)
 gc:GT oZ (t+1) 4 1 wr (.slice ac L cc) L (fO c)
 lh:h.length=L
 lc:c.length=L
theorem qM(oZ:Own)(s t S o:Nat)(l:aI)(w0:World)(ah:Option Addr)(ch:Nat)(ac:Option Addr)(cc L:Nat)(h:List UInt8)(c:List Bool)(wr:World)(H:nS oZ s t S o l w0 ah ch ac cc L h c wr)(U:oZ S=s)(h0:s<t)(j:Nat)(V:j<L)(x:UInt8):
  ∃g g',ah=some (aj g 0)/\ac=some (aj g' 0)/\g≠g'/\g<wr.heap.size/\g'<wr.heap.size/\g≠S/\g'≠S/\
   nS oZ s t S o l w0 ah ch ac cc L (h.set j x) (c.set j true) ((wr.setCell (aj g j) (.int .u8 ((x.toNat:Nat):Int))).setCell (aj g' j) (.bool true)):=by
 obtain⟨g,hg,og,lg,G1⟩:=H.gh.Xk j V (.int .u8 ((x.toNat:Nat):Int)) rfl;obtain⟨g',K,I,Z,_⟩:=H.gc.Xk j V (.bool true) rfl
 have X:g≠g':=fun e=>by rw[e,I]at og;omega
 have F:Kp [t] oZ oZ wr (wr.setCell (aj g j) (.int .u8 ((x.toNat:Nat):Int))):=Kp.set oZ wr _ _ _ (by simp[og]);obtain⟨g2,O,_,_,G2⟩:=(H.gc.kp F (by simp)).Xk j V (.bool true) rfl;rw[K]at O;cases O;have G:Kp [t+1] oZ oZ (wr.setCell (aj g j) (.int .u8 ((x.toNat:Nat):Int))) ((wr.setCell (aj g j) (.int .u8 ((x.toNat:Nat):Int))).setCell (aj g' j) (.bool true)):=Kp.set oZ _ _ _ _ (by simp[I]);refine⟨g,g',hg,K,X,lg,Z,fun e=>by rw[e,U]at og;omega,fun e=>by rw[e,U]at I;omega,?_⟩;refine⟨(H.kp.trans (F.mono (by simp))).trans (G.mono (by simp)),aO (aO H.blk F (by rw[U];simp;omega)) G (by rw[U];simp;omega),?_,?_,by simp[H.lh],by simp[H.lc]⟩
 ·have:=G1.kp G (by simp)
  have e:aQ (h.set j x)=(aQ h).set j (.int .u8 ((x.toNat:Nat):Int)):=by simp[aQ,qai]
  rw[e];exact this
 ·have e:fO (c.set j true)=(fO c).set j (.bool true):=by simp[fO,qai]
  rw[e];exact G2
theorem nS.cellC{oZ:Own}{s t S o:Nat}{l:aI}{w0:World}{ah:Option Addr}{ch:Nat}{ac:Option Addr}{cc L:Nat}{h:List UInt8}{c:List Bool}{wr:World}(H:nS oZ s t S o l w0 ah ch ac cc L h c wr)(j:Nat)(K:j<L):
  ∃g',ac=some (aj g' 0)/\wr.cell? (aj g' j)=some (.bool (c.getD j false))/\wr.frozen? (aj g' j)=false:=by
 have F:j<c.length:=by rw[H.lc];exact K
 obtain⟨g',h1,_,_,G,I⟩:=H.gc.cell j (.bool (c.getD j false)) (by simp[fO,F]);exact⟨g',h1,G,I⟩
theorem nS.WW{oZ:Own}{s t S o:Nat}{l:aI}{w0:World}{ah:Option Addr}{ch:Nat}{ac:Option Addr}{cc L:Nat}{h:List UInt8}{c:List Bool}{wr:World}(H:nS oZ s t S o l w0 ah ch ac cc L h c wr)(j:Nat)(K:j<L):
  ∃g v,ah=some (aj g 0)/\wr.cell? (aj g j)=some v/\wr.frozen? (aj g j)=false:=by
 have F:j<h.length:=by rw[H.lh];exact K
 obtain⟨g',h1,_,_,G,I⟩:=H.gh.cell j (.int .u8 ((h[j].toNat:Nat):Int)) (by simp[aQ,F]);exact⟨g',_,h1,G,I⟩
theorem Kw(s t:Nat)(oZ:Own)(S o off:Nat)(D:ByteArray)(m:bU)(l:aI)(w:World)(hB:aA w S TS l)(hS:oZ S=s)(xr:s<t)(hO:AX oZ t w l o m)(x8:m.came.length=m.held.length)(hl:m.held.length<=1000000)(ho:m.read<=off)(y5:off<=aZ)(y7:off-m.read+D.size<=1000000):
  Calls prog 340 #[ay S o,uZ off,.string D] w fun e w'=>e=.returned (.tuple #[])/\Pe s t oZ S o l w (m.hold off D.data.toList) w':=by
 obtain⟨vh,vc,k1,k2,k3⟩:=hO;obtain⟨h3,h4,rfl,_,_⟩:=k2.shape;obtain⟨h6,h0,rfl,_,_⟩:=k3.shape;have y4:=hB.lt;unfold aZ at y5;obtain⟨f,hf⟩:∃f,f=off-m.read:=⟨_,rfl⟩
 have xm:((f:Nat):Int)=(off:Int)-(m.read:Int):=by omega
 have hm:D.data.toList.length=D.size:=Array.length_toList;obtain⟨dn,x9⟩:∃dn,dn=D.size:=⟨_,rfl⟩;obtain⟨X,hX⟩:∃X,X=bF D.data.toList f (m.held++nI (f+dn-m.held.length) 0) (m.came++nI (f+dn-m.held.length) false):=⟨_,rfl⟩
 have HX:Hid (m.hold off D.data.toList={m with held:=X.1,came:=X.2}):=by unfold Hid;rw[hX,hf,x9];unfold bU.hold;rw[hm]
 generalize m.hold off D.data.toList=MH at *;have c4:=in4 S o m _ _ w l hB k1;have c5:=in5 S o m _ _ w l hB k1;have c6:=in6 S o m _ _ w l hB k1
 have J_:Hid (∀(h:List UInt8) (c:List Bool) (k:Nat) (hk:k<D.size),bF (D.data.toList.take (k+1)) f h c=if(bF (D.data.toList.take k) f h c).2.getD (f+k) false then bF (D.data.toList.take k) f h c else((bF (D.data.toList.take k) f h c).1.set (f+k) D[k],(bF (D.data.toList.take k) f h c).2.set (f+k) true)):=fun h c k hk=>by
  have:=D7 D.data.toList k f h c (by rw[hm];exact hk);rw[Array.getElem_toList]at this;exact this
 have xj:=au (And.intro hf ho)
 have WX:Hid (D.data.toList.take D.size=D.data.toList):=by unfold Hid;rw[<-hm,List.take_length]
 have g0:0<=(off:Int)-(m.read:Int):=by omega
 have g1:(off:Int)-(m.read:Int)<18446744073709551616:=by omega
 have g2:(off:Int)-(m.read:Int)<9223372036854775808:=by omega
 have g3:(off:Int)-(m.read:Int)+(D.size:Int)<9223372036854775808:=by omega
 have g4: -9223372036854775808<=(off:Int)-(m.read:Int)+(D.size:Int):=by omega
 have g5:(off:Int)-(m.read:Int)+(D.size:Int)-(m.held.length:Int)<9223372036854775808:=by omega
 have g6: -9223372036854775808<=(off:Int)-(m.read:Int)+(D.size:Int)-(m.held.length:Int):=by omega
 have Ac:=au x8
 by_cases hn:m.held.length<f+dn
 ·obtain⟨G,xp⟩:∃G,G=f+dn-m.held.length:=⟨_,rfl⟩
  have g7:(0:Int)<(off:Int)-(m.read:Int)+(D.size:Int)-(m.held.length:Int):=by omega
  have xo:((G:Nat):Int)=(off:Int)-(m.read:Int)+(D.size:Int)-(m.held.length:Int):=by omega
  obtain⟨v1,w1,bD,jQ,G1,K1⟩:=jZ uP (by omega) k2 G (by omega) (by omega);obtain⟨a1,c1,rfl,_,_⟩:=G1.shape;have h9:=aO hB K1 (by rw[hS];simp;omega)
  have hx:bD S=s:=by rw[K1.ext _ y4,hS]
  have hu:=dL.one h9 (o+5) (.slice a1 (m.held.length+G) c1) o 13 (by omega) (by omega);have hy:=hu.kp hx (T:=[s]) (by simp);obtain⟨v2,w2,dx,vo,G2,K2⟩:=jZ wL (by omega) ((k3.kp K1 (by simp)).kp hy (by simp;omega)) G (by omega) (by omega);obtain⟨a2,c2,rfl,_,_⟩:=G2.shape;have hw:=aO hu.blk K2 (by rw[hx];simp;omega)
  have he:dx S=s:=by rw[K2.ext _ hu.blk.lt,hx]
  have x3:=dL.one hw (o+6) (.slice a2 (m.came.length+G) c2) o 13 (by omega) (by omega);have x0:=x3.kp he (T:=[s]) (by simp);have i2:=Eu (Et k1 (.slice a1 (m.held.length+G) c1) (m.held++nI G 0)) (.slice a2 (m.came.length+G) c2) (m.came++nI G false);have Q1:=(G1.kp hy (by simp;omega)).kp K2 (by simp);have Q2:=Q1.kp x0 (by simp;omega);have Q3:=G2.kp x0 (by simp;omega);rw[XZ,<-gQ]at Q2
  have eo:fO m.came++(fA (tL false).cells G).toList=fO (m.came++nI G false):=by rw[X0];simp[fO]
  rw[eo]at Q3;have KK:Kp [s,t,t+1] oZ dx w (w2.setCell (aj S (o+6)) (.slice a2 (m.came.length+G) c2)):=(((K1.mono (by simp)).trans (hy.mono (by simp))).trans (K2.mono (by simp))).trans (x0.mono (by simp));have I:=hu.win.trans x3.win;obtain⟨l2,xe⟩:∃l2,l2=(l.set (o+5) (.slice a1 (m.held.length+G) c1)).set (o+6) (.slice a2 (m.came.length+G) c2):=⟨_,rfl⟩;rw[<-xe]at I i2;have Z:=x3.blk;rw[<-xe]at Z
  have x5:w1.cell? (aj S (o+5))=some (.slice h3 m.held.length h4):=by rw[h9.cell];exact k1.c5
  have x6:w1.cell? (aj S (o+6))=some (.slice h6 m.came.length h0):=by rw[h9.cell];exact k1.c6
  have xf:=h9.frozen (o+5)
  have y6:w2.cell? (aj S (o+6))=some (.slice h6 m.came.length h0):=by rw[hw.cell,ak _ _ _ _ (by omega)];exact k1.c6
  have yf:=hw.frozen (o+6);obtain⟨w3,hr⟩:∃w3,w3=w2.setCell (aj S (o+6)) (.slice a2 (m.came.length+G) c2):=⟨_,rfl⟩;rw[<-hr]at Z Q2 Q3 KK;rw[Ac.out]at Q3 i2 hr y6 x6 vo;have I4:Hid (nS dx s t S o l2 w3 a1 c1 a2 c2 (m.held.length+G) (m.held++nI G 0) (m.came++nI G false) w3):=⟨Kp.refl _ _ _,Z,Q2,Q3,by simp,by simp[Ac.out]⟩;have h7:=au (And.intro KK (And.intro I (And.intro i2 he)))
  have xl:X=bF D.data.toList f (m.held++nI G 0) (m.came++nI G false):=by rw[hX,xp]
  have h8:=au xl;obtain⟨L,hL⟩:∃L,L=m.held.length+G:=⟨_,rfl⟩;rw[<-hL]at I4 jQ vo hr i2;have h2:=au i2;rw[xo]at jQ vo
  have xx:f+D.size<=L:=by omega
  have xy:L<=1000001:=by omega
  have run:=jQ;clear hf xm x9 hm;clear jQ x8 xo hB k1 k2 k3 G1 G2 K1 K2 h9 hw hu x3 hy x0 hx he i2 Q1 Q2 Q3 KK I Z xe xl hX xp hL eo;go_enter func340,ntmps340
  go_wp2_with (at_builtin;refine DT _ rfl _ _ _ _ rfl _ _ rfl rfl _ _ (run _) ?_;clear run;have run:=vo)
  obtain⟨O,hc⟩:∃O,O=m.held++nI G 0:=⟨_,rfl⟩;obtain⟨K,ha⟩:∃K,K=m.came++nI G false:=⟨_,rfl⟩;rw[<-hc,<-ha]at h8 I4;clear hc ha run vo x5 x6 xf y6 yf c4 c5 c6 g7 hn
  go_loopw [48] (fun h5 wr=>∃k:Nat,k<=D.size/\h5=(iZ k)/\Hid (nS dx s t S o l2 w3 a1 c1 a2 c2 L (bF (D.data.toList.take k) f O K).1 (bF (D.data.toList.take k) f O K).2 wr)) (fun h5 _=>D.size-(intOf h5).toNat)
  case atStart=>exact⟨0,ZH _,rfl,by unfold Hid;rw[<-hr];exact I4.out⟩
  case round=>
   clear hr I4;obtain⟨k,hk,rfl,F⟩:=hrel
   by_cases xd:k<D.size
   ·have xn:(k:Int)<(D.size:Int):=by omega
    have tQ:=J_.out O K k xd;obtain⟨Hk,V⟩:∃Hk,Hk=(bF (D.data.toList.take k) f O K).1:=⟨_,rfl⟩;obtain⟨Ck,QC⟩:∃Ck,Ck=(bF (D.data.toList.take k) f O K).2:=⟨_,rfl⟩;rw[<-V,<-QC]at F
    have e5:wr.cell? (aj S (o+5))=some (.slice a1 L c1):=by rw[F.out.blk.cell];exact h2.out.c5
    have e6:wr.cell? (aj S (o+6))=some (.slice a2 L c2):=by rw[F.out.blk.cell];exact h2.out.c6
    obtain⟨g',xa,hj,xz⟩:=F.out.cellC (f+k) (by omega);obtain⟨hf,ho⟩:=xj.out
    have i1:0<=(off:Int)-(m.read:Int)+(k:Int):=by omega
    have i2:(off:Int)-(m.read:Int)+(k:Int)<(L:Int):=by omega
    have i3:((off:Int)-(m.read:Int)+(k:Int)).toNat=f+k:=by omega
    have i4:(off:Int)-(m.read:Int)+(k:Int)<9223372036854775808:=by omega
    have i5: -9223372036854775808<=(off:Int)-(m.read:Int)+(k:Int):=by omega
    clear hf ho;subst xa;cases hv:Ck.getD (f+k) false
    ·rw[hv]at hj;rw[<-QC,hv,<-V]at tQ;obtain⟨g,vv,hg,y0,y3⟩:=F.out.WW (f+k) (by omega);obtain⟨g2,xv,q1,q2,q3,q4,q5,q6,q7,HN⟩:=qM dx s t S o l2 w3 a1 c1 _ c2 L Hk Ck wr F.out h7.out.2.2.2 xr (f+k) (by omega) D[k];subst hg;cases q1;cases q2;have x7:=au HN;have U:=au tQ;have n1:¬(g=g'):=q3
     have n2:¬(g'=g):=fun e=>q3 e.symm
     have n3:¬(S=g):=fun e=>q6 e.symm
     have n4:¬(S=g'):=fun e=>q7 e.symm
     clear HN tQ F q3 q6 q7 hv
     go_wp2_with fail
     go_region
     all_goals go_wp2_with fail
     all_goals
      refine⟨⟨k+1,by omega,by go_num,?_⟩,?_⟩
      ·unfold Hid;rw[U.out];have H:=x7.out;exact⟨⟨H.kp.os,H.kp.tape,H.kp.output,H.kp.size,H.kp.blk,H.kp.ext⟩,H.blk,H.gh.kp (Kp.below (T:=[]) ⟨rfl,rfl,rfl,mR _,fun _ _=>rfl⟩) (by simp),H.gc.kp (Kp.below (T:=[]) ⟨rfl,rfl,rfl,mR _,fun _ _=>rfl⟩) (by simp),H.lh,H.lc⟩
      ·simp[intOf];omega
    ·rw[hv]at hj;rw[<-QC,hv]at tQ;have U:=au tQ
     have wG:Hid (nS dx s t S o l2 w3 a1 c1 (some (aj g' 0)) c2 L (bF (D.data.toList.take (k+1)) f O K).1 (bF (D.data.toList.take (k+1)) f O K).2 wr):=by
      unfold Hid;rw[U.out,if_pos rfl,<-V,<-QC];exact F.out
     clear tQ U F V QC hv
     go_wp2_with fail
     go_roundw
     case rel=>exact⟨k+1,by omega,by go_num,wG⟩
     case measure=>simp[intOf];omega
   ·obtain rfl:k=D.size:=by omega
    rw[WX.out,<-h8.out]at F
    have jd:Hid (Pe s t oZ S o l w MH wr):=by
     obtain⟨KK,I,i2,he⟩:=h7.out;have H:=F.out;refine⟨dx,l2,KK.trans (H.kp.mono (by simp)),H.blk,I,.slice a1 L c1,.slice a2 L c2,?_,?_,?_⟩
     ·rw[HX.out];have:=h2.out;exact⟨this.gr,this.c4,this.c5,this.c6,this.c7,this.c8,this.c9,this.c10,this.c11,this.c12⟩
     ·rw[HX.out];show GT _ _ _ _ _ _ X.1.length _;rw[H.lh];exact H.gh
     ·rw[HX.out];show GT _ _ _ _ _ _ X.2.length _;rw[H.lc];exact H.gc
    clear F;go_wp2;go_end0;exact⟨rfl,jd.out⟩
 ·have g7:(off:Int)-(m.read:Int)+(D.size:Int)-(m.held.length:Int)<=0:=by omega
  have xt:f+dn-m.held.length=0:=by omega
  rw[xt,qa1,qab,qa1,qab]at hX;obtain⟨L,hL⟩:∃L,L=m.held.length:=⟨_,rfl⟩;have x4:=k3;have xi:=k2;have i2:=k1;rw[Ac.out]at x4 c6 i2;rw[<-hL]at xi x4 c5 c6 i2;have I4:Hid (nS oZ s t S o l w h3 h4 h6 h0 L m.held m.came w):=⟨Kp.refl _ _ _,hB,xi,x4,hL.symm,by rw[Ac.out,hL]⟩;have h2:=au i2;have h7:=au (And.intro (Kp.refl [s,t,t+1] oZ w) (And.intro (iN.refl l o 13) (And.intro i2 hS)));have h8:=au hX
  have xx:f+D.size<=L:=by omega
  have xy:L<=1000001:=by omega
  obtain⟨O,hc⟩:∃O,O=m.held:=⟨_,rfl⟩;obtain⟨K,ha⟩:∃K,K=m.came:=⟨_,rfl⟩;rw[<-hc,<-ha]at h8 I4;rw[<-hL]at g5 g6 g7;clear hf xm x9 hm xt hn hX x8 hB k1 k2 k3 xi x4 i2 hL hc ha;go_enter func340,ntmps340
  go_wp2_with fail
  clear c4 c5 c6
  go_loopw [48] (fun h5 wr=>∃k:Nat,k<=D.size/\h5=(iZ k)/\Hid (nS oZ s t S o l w h3 h4 h6 h0 L (bF (D.data.toList.take k) f O K).1 (bF (D.data.toList.take k) f O K).2 wr)) (fun h5 _=>D.size-(intOf h5).toNat)
  case atStart=>exact⟨0,ZH _,rfl,I4⟩
  case round=>
   clear I4;obtain⟨k,hk,rfl,F⟩:=hrel
   by_cases xd:k<D.size
   ·have xn:(k:Int)<(D.size:Int):=by omega
    have tQ:=J_.out O K k xd;obtain⟨Hk,V⟩:∃Hk,Hk=(bF (D.data.toList.take k) f O K).1:=⟨_,rfl⟩;obtain⟨Ck,QC⟩:∃Ck,Ck=(bF (D.data.toList.take k) f O K).2:=⟨_,rfl⟩;rw[<-V,<-QC]at F
    have e5:wr.cell? (aj S (o+5))=some (.slice h3 L h4):=by rw[F.out.blk.cell];exact h2.out.c5
    have e6:wr.cell? (aj S (o+6))=some (.slice h6 L h0):=by rw[F.out.blk.cell];exact h2.out.c6
    obtain⟨g',xa,hj,xz⟩:=F.out.cellC (f+k) (by omega);obtain⟨hf,ho⟩:=xj.out
    have i1:0<=(off:Int)-(m.read:Int)+(k:Int):=by omega
    have i2:(off:Int)-(m.read:Int)+(k:Int)<(L:Int):=by omega
    have i3:((off:Int)-(m.read:Int)+(k:Int)).toNat=f+k:=by omega
    have i4:(off:Int)-(m.read:Int)+(k:Int)<9223372036854775808:=by omega
    have i5: -9223372036854775808<=(off:Int)-(m.read:Int)+(k:Int):=by omega
    clear hf ho;subst xa;cases hv:Ck.getD (f+k) false
    ·rw[hv]at hj;rw[<-QC,hv,<-V]at tQ;obtain⟨g,vv,hg,y0,y3⟩:=F.out.WW (f+k) (by omega);obtain⟨g2,xv,q1,q2,q3,q4,q5,q6,q7,HN⟩:=qM oZ s t S o l w h3 h4 _ h0 L Hk Ck wr F.out h7.out.2.2.2 xr (f+k) (by omega) D[k];subst hg;cases q1;cases q2;have x7:=au HN;have U:=au tQ;have n1:¬(g=g'):=q3
     have n2:¬(g'=g):=fun e=>q3 e.symm
     have n3:¬(S=g):=fun e=>q6 e.symm
     have n4:¬(S=g'):=fun e=>q7 e.symm
     clear HN tQ F q3 q6 q7 hv
     go_wp2_with fail
     go_region
     all_goals go_wp2_with fail
     all_goals
      refine⟨⟨k+1,by omega,by go_num,?_⟩,?_⟩
      ·unfold Hid;rw[U.out];have H:=x7.out;exact⟨⟨H.kp.os,H.kp.tape,H.kp.output,H.kp.size,H.kp.blk,H.kp.ext⟩,H.blk,H.gh.kp (Kp.below (T:=[]) ⟨rfl,rfl,rfl,mR _,fun _ _=>rfl⟩) (by simp),H.gc.kp (Kp.below (T:=[]) ⟨rfl,rfl,rfl,mR _,fun _ _=>rfl⟩) (by simp),H.lh,H.lc⟩
      ·simp[intOf];omega
    ·rw[hv]at hj;rw[<-QC,hv]at tQ;have U:=au tQ
     have wG:Hid (nS oZ s t S o l w h3 h4 (some (aj g' 0)) h0 L (bF (D.data.toList.take (k+1)) f O K).1 (bF (D.data.toList.take (k+1)) f O K).2 wr):=by
      unfold Hid;rw[U.out,if_pos rfl,<-V,<-QC];exact F.out
     clear tQ U F V QC hv
     go_wp2_with fail
     go_roundw
     case rel=>exact⟨k+1,by omega,by go_num,wG⟩
     case measure=>simp[intOf];omega
   ·obtain rfl:k=D.size:=by omega
    rw[WX.out,<-h8.out]at F
    have jd:Hid (Pe s t oZ S o l w MH wr):=by
     obtain⟨KK,I,i2,he⟩:=h7.out;have H:=F.out;refine⟨oZ,l,KK.trans (H.kp.mono (by simp)),H.blk,I,.slice h3 L h4,.slice h6 L h0,?_,?_,?_⟩
     ·rw[HX.out];have:=h2.out;exact⟨this.gr,this.c4,this.c5,this.c6,this.c7,this.c8,this.c9,this.c10,this.c11,this.c12⟩
     ·rw[HX.out];show GT _ _ _ _ _ _ X.1.length _;rw[H.lh];exact H.gh
     ·rw[HX.out];show GT _ _ _ _ _ _ X.2.length _;rw[H.lc];exact H.gc
    clear F;go_wp2;go_end0;exact⟨rfl,jd.out⟩
def Iz:Value:=.agg #[iZ 0,.nilFunc,.nilFunc,.bool false]
theorem Y2:DC 300 304 Iz 4 32:=⟨by kernel_rfl,by kernel_rfl,fun n=>by simp[Iz,fA,Kt],fun n v F=>by
 simp[Iz,fA,Kt]at F;obtain⟨i,_,rfl⟩:=F
 have:i % 4=0\/i % 4=1\/i % 4=2\/i % 4=3:=by omega
 rcases this with h|h|h|h<;>rw[h]<;>rfl,by omega⟩
structure wO (oZ:Own) (t:Nat) (D:Nat->Src) (w:World) (p:Nat) (v:Value) (Q:List Nat):Prop where
 op:oZ p=t+1
 pb:aA w p 300 [v]
 sr:GT oZ t 304 4 w v Q.length (qC D Q)
theorem uU(D:Nat->Src):∀(Q:List Nat) (u:Nat),qC D (Q++[u])=qC D Q++gH (D u)
 |[],u=>by simp[qC]
 |x::Q,u=>by show gH (D x)++qC D (Q++[u])=(gH (D x)++qC D Q)++gH (D u);rw[uU D Q u,List.append_assoc]
theorem PS(oZ:Own)(t:Nat)(D:Nat->Src)(w:World)(p:Nat)(v:Value)(Q:List Nat)(u:Nat)(hl:Q.length<=1000)(h:wO oZ t D w p v Q):
  Calls prog 377 #[ay p 0,.iface 304 (.agg #[(iZ (D u).u),.func (D u).f1 (D u).p1 (D u).k1,.func (D u).f2 (D u).p2 (D u).k2,.bool (D u).y])] w fun e w'=>e=.returned (.tuple #[])/\Hid (∃aC v',wO aC t D w' p v' (Q++[u])/\Kp [t,t+1] oZ aC w w'):=by
 obtain⟨a,c,rfl,_,_⟩:=h.sr.shape;have hp:w.cell? (aj p 0)=some (.slice a Q.length c):=h.pb.cell 0;have O:=h.pb.lt;obtain⟨W,Z⟩:∃W,W=(w.alloc (.cells (gH (D u)).toArray 304)).drew:=⟨_,rfl⟩
 have hb:aA W w.heap.size 304 (gH (D u)):=by rw[Z];exact aA.new w 304 _
 have G:aD w W:=by
  rw[Z];have F:=(tT w.heap.size w).alloc (mR _) (.cells (gH (D u)).toArray 304);exact⟨F.os,F.tape,F.output,F.size,F.block⟩
 obtain⟨v',w',aC,run,hG,X⟩:=bW Y2 (h.sr.kp (T:=[]) (Kp.below G) (by simp)) (aj w.heap.size 0) 1 1 (gH (D u)) (by simp) (yw _) (fun j x hx=>by
  have e:(aj w.heap.size 0).add j=(aj w.heap.size j):=by simp[Addr.add];omega
  rw[e,hb.cell,hx]) (by omega)
 have I:=aO (h.pb.of_heap (G.block _ O)) X (by rw[h.op];simp);obtain⟨U,V,rfl,_,_⟩:=hG.shape;have y0:=I.cell 0;have yf:=I.frozen 0;simp only[List.getElem?_cons_zero]at y0
 have H:aC p=t+1:=by rw[X.ext _ (qa4 O G.size),h.op]
 have K:Kp [t+1] aC aC w' (w'.setCell (aj p 0) (.slice U (Q.length+1) V)):=((je.refl p w').set 0 _).kpt (by rw[H];simp)
 have HF:Hid (∃aC h0,wO aC t D (w'.setCell (aj p 0) (.slice U (Q.length+1) V)) p h0 (Q++[u])/\Kp [t,t+1] oZ aC w (w'.setCell (aj p 0) (.slice U (Q.length+1) V))):=by
  refine⟨aC,.slice U (Q.length+1) V,⟨H,I.setCell 0 _,?_⟩,(((Kp.below G).trans (X.mono (by simp))).trans (K.mono (by simp)))⟩;rw[uU,fB];exact hG.kp K (by simp)
 have h2:∀w',(Instr.typeAssert (.iface 304 (.agg #[(iZ (D u).u),.func (D u).f1 (D u).p1 (D u).k1,.func (D u).f2 (D u).p2 (D u).k2,.bool (D u).y])) 20 304 false).run prog w'=.ok (.agg #[(iZ (D u).u),.func (D u).f1 (D u).p1 (D u).k1,.func (D u).f2 (D u).p2 (D u).k2,.bool (D u).y]) w':=fun _=>by kernel_rfl
 rw[Z]at run;clear hG X I H K hb G Z h hl;go_enter func377,ntmps377
 go_wp2_with fail
 go_region_law (refine dB _ (by rfl) _ _ _ _ (by rfl) _ _ (by rfl) (by rfl) _ _ (run _) ?_)
 all_goals go_wp2_with fail
 all_goals go_end0
 all_goals exact⟨rfl,HF⟩
theorem wO.hp{oZ:Own}{t:Nat}{D:Nat->Src}{w:World}{p:Nat}{v:Value}{Q:List Nat}(h:wO oZ t D w p v Q)(F:0<Q.length):∃g c,v=(aS g Q.length c)/\sP oZ t D w p g c Q:=by
 have hs:=h.sr
 rcases hs with⟨_,G,_⟩|⟨g,cap,cs,rfl,ho,h3⟩
 ·omega
 ·exact⟨g,cap,rfl,h.op,h.pb,ho,h.sr⟩
theorem sP.hq{oZ:Own}{t:Nat}{D:Nat->Src}{w:World}{p g c:Nat}{Q:List Nat}(h:sP oZ t D w p g c Q):wO oZ t D w p (aS g Q.length c) Q:=⟨h.op,h.pb,h.sr.2⟩
theorem Kg:∀(k:Nat) (l:List Nat) (j:Nat),(xM k l j).length=l.length
 |0,_,_=>rfl
 |k+1,l,j=>by
  simp only[xM];split
  ·rfl
  ·rw[Kg k,jP]
theorem Ml(oZ:Own)(t:Nat)(D:Nat->Src)(hD:∀u:Nat,(D u).u=(u:Int))(w:World)(p:Nat)(v:Value)(Q:List Nat)(u:Nat)(hl:Q.length<1000)(h:wO oZ t D w p v Q):
  Calls prog 244 #[.iface 250 (ay p 0),.iface 304 (.agg #[(iZ (D u).u),.func (D u).f1 (D u).p1 (D u).k1,.func (D u).f2 (D u).p2 (D u).k2,.bool (D u).y])] w fun e w'=>e=.returned (.tuple #[])/\Hid (∃aC v',wO aC t D w' p v' (bG Q u)/\Kp [t,t+1] oZ aC w w'):=by
 have U:=au (PS oZ t D w p v Q u (by omega) h);obtain⟨n,hn⟩:∃n,n=Q.length:=⟨_,rfl⟩;have O:=au (And.intro hn hl)
 have h7:n<1000:=by omega
 have h6:=Xy p
 have g1:(n:Int)+1-1=(n:Int):=by omega
 clear hn hl h;generalize (.agg #[(iZ (D u).u),.func (D u).f1 (D u).p1 (D u).k1,.func (D u).f2 (D u).p2 (D u).k2,.bool (D u).y]:Value)=xv at *;go_enter func244,ntmps244
 go_wp2_with fail
 refine U.out.mono ?_;rintro e y ⟨rfl,X⟩;obtain⟨Z,v1,h1,h2⟩:=X.out;obtain⟨g,c,rfl,I⟩:=h1.hp (by simp)
 have F:(Q++[u]).length=n+1:=by have:=O.out.1;simp;omega
 have hp:y.cell? (aj p 0)=some (aS g (n+1) c):=by rw[I.pb.cell,<-F];rfl
 have h0:=WL p y _ _ _ hp;have H:=au (w9 (some (aj g 0)) (n+1) c y);have V:=au (Uv Z t D hD y p g c (Q++[u]) n (by omega) (by omega) I);have K:=au h2
 have G:Hid (bG Q u=xM (n+1) (Q++[u]) n):=by unfold Hid bG;rw[<-O.out.1]
 clear h1 h2 I hp F X U hD
 go_wp2_with fail
 refine H.out.mono ?_;rintro e z ⟨rfl,rfl⟩
 go_wp2_with fail
 refine V.out.mono ?_;rintro e z2 ⟨rfl,h4,h5⟩
 have HF:Hid (∃aC v',wO aC t D z2 p v' (bG Q u)/\Kp [t,t+1] oZ aC w z2):=by
  rw[G.out];exact⟨Z,_,h4.hq,K.out.trans (h5.mono (by simp))⟩
 clear h4 h5 V K G
 go_wp2_with fail
 go_end0;exact⟨rfl,HF⟩
def isA(f:Fr):Bool:=decide (f.kind=2)||decide (f.kind=7)||decide (f.kind=8)
theorem XG(f:Fr)(rv:Value)(w:World):Calls prog 273 #[bR f rv] w fun e w'=>e=.returned (.bool (isA f))/\aD w w':=by
 unfold isA bR
 by_cases F:f.kind=2
 ·have I:(f.kind==(2:Int))=true:=by simp[F]
  rw[decide_eq_true F];go_enter func273,ntmps273;go_wp2;go_ret;exact⟨rfl,(tT _ w).alloc (mR _) _⟩
 ·have I:(f.kind==(2:Int))=false:=by simp[F]
  rw[decide_eq_false F]
  by_cases G:f.kind=7
  ·have K:(f.kind==(7:Int))=true:=by simp[G]
   rw[decide_eq_true G];go_enter func273,ntmps273;go_wp2;go_ret;exact⟨rfl,(tT _ w).alloc (mR _) _⟩
  ·have K:(f.kind==(7:Int))=false:=by simp[G]
   rw[decide_eq_false G]
   by_cases H:f.kind=8
   ·have O:(f.kind==(8:Int))=true:=by simp[H]
    rw[decide_eq_true H];go_enter func273,ntmps273;go_wp2;go_ret;exact⟨rfl,(tT _ w).alloc (mR _) _⟩
   ·have O:(f.kind==(8:Int))=false:=by simp[H]
    rw[decide_eq_false H];go_enter func273,ntmps273;go_wp2;go_ret;exact⟨rfl,(tT _ w).alloc (mR _) _⟩
theorem bK.some{e:TypeId}{k:Nat}{w:World}{a:Option Addr}{n c:Nat}{l:aI}(h:bK e k w (.slice a n c) n l)(G:0<n):∃g cs,a=some (aj g 0)/\aA w g e cs/\cs.length=c*k/\n<=c/\c<=9223372036854775807/\cs.take (n*k)=l/\∀v∈cs,v.oneCell'=true:=by
 rcases h with⟨_,F,_⟩|⟨g,cap,cs,h1,h2,h3,h4,h5,_,h7,h8⟩
 ·omega
 ·simp only[Value.slice.injEq,true_and]at h1;obtain⟨rfl,rfl⟩:=h1;exact⟨g,cs,rfl,h2,h3,h4,h5,h7,h8⟩
theorem Mx(fa:Option Addr)(L:List FV)(O:Nat)(w:World)(hl:L.length<=100000)(h0:0<L.length)(hF:Rd 10 w (.slice fa L.length O) L.length (l6 L)):
  Calls prog 212 #[.slice fa L.length O] w fun e w'=>∃a c,e=.returned (.slice a (L.filter fun x=> !isA x.1).length c)/\bK 65 10 w' (.slice a (L.filter fun x=> !isA x.1).length c) (L.filter fun x=> !isA x.1).length (l6 (L.filter fun x=> !isA x.1))/\jX w.heap.size (.slice a (L.filter fun x=> !isA x.1).length c)/\aD w w':=by
 have V:=au (Ie _ _ _ w hF (by omega));have h6:(L.filter fun x=> !isA x.1).length<=L.length:=List.length_filter_le _ _
 have X:Hid (∀(b c:Nat) (cs:aI) (W:World),L.length<=c->aA W b 65 cs->L.length*10<=cs.length->cs.take (L.length*10)=l6 L->(∀v∈cs,v.oneCell'=true)->Calls prog 151 #[aS b L.length c,.func (.func 273) #[] #[]] W fun e w'=>∃F,e=.returned (aS b (L.filter fun x=> !isA x.1).length c)/\aA w' b 65 F/\F.length=cs.length/\F.take ((L.filter fun x=> !isA x.1).length*10)=l6 (L.filter fun x=> !isA x.1)/\(∀v∈F,v.oneCell'=true)/\W.grownBy w' (some b)):=fun b c cs W h1 h2 h3 h4 h5=>
  qJ 273 #[] #[] (fun x=>isA x.1) b L.length c L cs W (enters_of func273 (by kernel_rfl) rfl) rfl hl h1 h2 h3 h4 h5 (fun j _ W _=>XG _ _ W)
 have I:=qh (L.filter fun x=> !isA x.1);generalize (L.filter fun x=> !isA x.1)=K at *;generalize L.length=n at *;clear hF;go_enter func212,ntmps212
 go_wp2_with (first
  |(go_at_call 272;refine V.out.mono ?_;rintro e w1 ⟨a,c,rfl,hG,hO,H⟩;obtain⟨g,cs,rfl,g1,U,g3,g4,g5,g6⟩:=bK.some hG h0)
  |(go_at_call 151;refine(X.out g c cs w1 g3 g1 (by rw[U];omega) g5 g6).mono ?_;rintro e w2 ⟨F,rfl,Z,d2,d3,d4,G⟩)
  |go_in)
 go_ret;have h7:w.heap.size<=g:=hO g rfl;refine⟨_,c,rfl,.inr ⟨g,c,F,rfl,Z,by rw[d2,U],by omega,g4,I,d3,d4⟩,fun x hx=>?_,H.trans ⟨G.os,G.tape,G.output,G.size,fun k hk=>G.block k (by have:=H.size;omega) (fun e=>by cases e;omega)⟩⟩;simp[E8]at hx;omega
