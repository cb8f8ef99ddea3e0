import Derived.Test.YtphbledmopchnaaGreatDoorKdb
import Derived.Test.YtphbledmopchnaaGreatDoorKda
open Go.Addr renaming add_lit->KG
open Go.RowKit.Below renaming refl->uj
open Go.Builtin renaming zeroCells->jK,append_->DJ,clear_->Lb,firstCells->M4
open Go.Calls renaming quiet_of_same->nI,quiet_of->qa5
open List renaming length_append->tT,getElem?_take->wz,mem_of_mem_take->CK,drop_of_length_le->Si,mem_of_mem_drop->Xw,takeWhile_cons->Z9,getElem?_drop->qa0,ext_getElem->qa2,length_cons->qa3,mem_append->qa4,replicate->qa6,take_zero->qa7
open Nat renaming le_refl->mR,mul_one->Kt,sub_self->R3,mul_le_mul_right->ZE,zero_add->qa8,zero_mul->qa9
open Go.Value renaming bool->tL,int->Bu,ownBlock->Gl,cells->Vh
set_option maxHeartbeats 2000000
set_option maxRecDepth 100000
namespace Go.Proofs.YtphbledmopchnaaGreatDoor.Sd
open Go.RowKit Go.Lib Mm Tryz
section
def eU(l:List Bool):List Value:=l.map .bool
structure uN (l:List Value) (o:Nat) (m:bI) (vh vc:Value):Prop where
 gr:pU l o m.gr
 c4:l[o+4]?=some (.int .u64 m.read)
 c5:l[o+5]?=some vh
 c6:l[o+6]?=some vc
 c7:l[o+7]?=some (.int .u64 m.high)
 c8:l[o+8]?=some (.bool m.ended)
 c9:l[o+9]?=some (.int .u64 m.dD)
 c10:l[o+10]?=some (.bool m.given)
 c11:l[o+11]?=some (.int .u64 m.rel)
 c12:l[o+12]?=some (.int .i64 m.state)
theorem uN.win{l l':List Value}{o o' n':Nat}{m:bI}{vh vc:Value}(h:uN l o m vh vc)(w:iH l l' o' n')(hd:o+13<=o'\/o'+n'<=o):uN l' o m vh vc:=
 ⟨h.gr.win w (by omega),by rw[w.2 _ (by omega),h.c4],by rw[w.2 _ (by omega),h.c5],by rw[w.2 _ (by omega),h.c6],by rw[w.2 _ (by omega),h.c7],by rw[w.2 _ (by omega),h.c8],by rw[w.2 _ (by omega),h.c9],
 by rw[w.2 _ (by omega),h.c10],by rw[w.2 _ (by omega),h.c11],by rw[w.2 _ (by omega),h.c12]⟩
def zL(own:Own)(t:Nat)(w:World)(l:List Value)(o:Nat)(m:bI):Prop:=
 ∃vh vc,uN l o m vh vc/\GT own t 5 1 w vh m.held.length (aJ m.held)/\GT own (t+1) 4 1 w vc m.came.length (eU m.came)
theorem zL.kp{own own':Own}{t:Nat}{w w':World}{l l':List Value}{o o' n':Nat}{m:bI}{T:List Nat}(h:zL own t w l o m)(K:Kp T own own' w w')(I:t∉T)(F:t+1∉T)(wi:iH l l' o' n')(hd:o+13<=o'\/o'+n'<=o):zL own' t w' l' o m:=by
 obtain⟨vh,vc,h1,G,H⟩:=h;exact⟨vh,vc,h1.win wi hd,G.kp K I,H.kp K F⟩
structure Q8 (m:bI):Prop where
 gr:m.gr.ahead<=4096/\m.gr.told<=aU/\m.gr.away<=aU/\m.gr.came<=aU
 rd:m.read<=aU
 hi:m.high<=aU
 fe:m.dD<=aU
 re:m.rel<=aU
 hl:m.held.length<=1000000
 cl:m.came.length=m.held.length
 st:m.state<=2
theorem Q8.free{m:bI}(h:Q8 m):m.free<=aU:=by
 unfold bI.free;split
 ·exact h.fe
 ·exact h.rd
section
variable (S o:Nat) (m:bI) (vh vc:Value) (w:World) (l:List Value) (hB:ak w S TS l) (h:uN l o m vh vc)
 include hB h
theorem in4:w.cell? ⟨S,o+4,none⟩=some (.int .u64 m.read):=by rw[hB.cell];exact h.c4
theorem in5:w.cell? ⟨S,o+5,none⟩=some vh:=by rw[hB.cell];exact h.c5
theorem in6:w.cell? ⟨S,o+6,none⟩=some vc:=by rw[hB.cell];exact h.c6
theorem in7:w.cell? ⟨S,o+7,none⟩=some (.int .u64 m.high):=by rw[hB.cell];exact h.c7
theorem in8:w.cell? ⟨S,o+8,none⟩=some (.bool m.ended):=by rw[hB.cell];exact h.c8
theorem in9:w.cell? ⟨S,o+9,none⟩=some (.int .u64 m.dD):=by rw[hB.cell];exact h.c9
theorem XF:w.cell? ⟨S,o+10,none⟩=some (.bool m.given):=by rw[hB.cell];exact h.c10
theorem YV:w.cell? ⟨S,o+11,none⟩=some (.int .u64 m.rel):=by rw[hB.cell];exact h.c11
theorem V7:w.cell? ⟨S,o+12,none⟩=some (.int .i64 m.state):=by rw[hB.cell];exact h.c12
theorem Bb:Calls prog 310 #[.pointer (some ⟨S,o,none⟩)] w fun e w'=>e=.returned (.int .u64 m.free)/\w'=w:=by
 have c4:=in4 S o m vh vc w l hB h;have c9:=in9 S o m vh vc w l hB h;have c12:=V7 S o m vh vc w l hB h;have G:Hid (m.free=if m.state=2 then m.dD else m.read):=rfl;generalize m.free=F at *;clear h hB
 by_cases hs:m.state=2
 ·have g:((m.state:Int)==2)=true:=by simp;omega
  rw[if_pos hs]at G;clear hs;go_enter func310,ntmps310;go_wp2;go_ret;exact⟨qV (by rw[G.out]),rfl⟩
 ·have g:((m.state:Int)==2)=false:=by simp;omega
  rw[if_neg hs]at G;clear hs;go_enter func310,ntmps310;go_wp2;go_ret;exact⟨qV (by rw[G.out]),rfl⟩
theorem uO(F:Nat):Calls prog 339 #[.pointer (some ⟨S,o,none⟩),.int .u64 F] w fun e w'=>e=.returned (.int .u64 ((max m.high F:Nat):Int))/\w'=w:=by
 have c7:=in7 S o m vh vc w l hB h;obtain⟨x,H,G⟩:=max2 m.high F;rw[<-G];clear h hB G;go_enter func339,ntmps339;go_wp2;go_ret;exact⟨rfl,rfl⟩
theorem sW:Calls prog 306 #[.pointer (some ⟨S,o,none⟩)] w fun e w'=>e=.returned (.int .u64 m.wanted)/\w'=w:=by
 have c8:=in8 S o m vh vc w l hB h;have c9:=in9 S o m vh vc w l hB h;have c10:=XF S o m vh vc w l hB h;have c11:=YV S o m vh vc w l hB h;have G:Hid (m.wanted=if m.given then m.rel else if m.ended then m.dD else 4611686018427387903):=rfl;generalize m.wanted=F at *;clear h hB;cases H:m.given
 ·cases I:m.ended
  all_goals
   rw[H]at c10 G;rw[I]at c8 G;go_enter func306,ntmps306;go_wp2;go_ret;exact⟨qV (by rw[G.out];rfl),rfl⟩
 ·rw[H]at c10 G;go_enter func306,ntmps306;go_wp2;go_ret;exact⟨qV (by rw[G.out];rfl),rfl⟩
theorem FY:Calls prog 240 #[.pointer (some ⟨S,o,none⟩)] w fun e w'=>e=.returned (.int .i64 m.reached)/\∃q,w'=w.drewN q:=by
 have c4:=in4 S o m vh vc w l hB h;have c8:=in8 S o m vh vc w l hB h;have c10:=XF S o m vh vc w l hB h;have H:=hid (fun q=>sW S o m vh vc (w.drewN q) l hB h);have G:Hid (m.reached=if m.ended=false\/m.read<m.wanted then 0 else if m.given then 2 else 1):=rfl;generalize m.wanted=W at *;generalize m.reached=F at *;clear h hB;cases I:m.ended
 ·rw[I]at c8 G;go_enter func240,ntmps240;go_wp2
  go_quiet ((go_at_call 306;exact nI (H.out _)))
  go_wp2;go_ret;exact⟨dL (by rw[G.out];simp),nq,rfl⟩
 ·by_cases O:m.read<W
  ·rw[I]at c8 G;rw[if_pos (.inr O)]at G;go_enter func240,ntmps240;go_wp2
   go_quiet ((go_at_call 306;exact nI (H.out _)))
   go_wp2;go_ret;exact⟨dL (by rw[G.out];rfl),nq,rfl⟩
  ·rw[I]at c8 G;rw[if_neg (by simp;omega)]at G;cases U:m.given
   all_goals
    rw[U]at c10 G;go_enter func240,ntmps240;go_wp2
    go_quiet ((go_at_call 306;exact nI (H.out _)))
    go_wp2;go_ret;exact⟨dL (by rw[G.out];rfl),nq,rfl⟩
theorem yY(ok:Q8 m):Calls prog 255 #[.pointer (some ⟨S,o,none⟩)] w fun e w'=>e=.returned (.bool m.eO)/\∃q,w'=w.drewN q:=by
 have c7:=in7 S o m vh vc w l hB h;have c8:=in8 S o m vh vc w l hB h;have HW:=hid (fun q=>sW S o m vh vc (w.drewN q) l hB h);have Z:=hid (fun q V=>Bb S o m vh vc ((w.drewN q).drewN V) l hB h);have X:=hid (fun q V=>Dh S o m.gr m.free ((w.drewN q).drewN V) l hB h.gr ok.gr.1 ok.free);have I:Hid (m.eO=(!(m.ended&&decide (m.wanted<=m.high))&&m.gr.waits m.free)):=rfl;generalize m.wanted=W at *;generalize m.eO=F at *;generalize m.gr.waits m.free=B at *;generalize m.free=R at *;clear h hB ok;cases he:m.ended
 ·rw[he]at c8 I;go_enter func255,ntmps255;go_wp2
  go_quiet ((go_at_call 306;exact nI (HW.out _)))
  go_wp2_with fail
  have G:=hid (Z.out nq);have O:=hid (X.out nq);generalize H:w.drewN nq=w1 at *
  go_quiet ((first|(go_at_call 310;exact nI (G.out _))|(go_at_call 251;exact qa5 (O.out _))))
  go_wp2;go_ret;exact⟨aP (by rw[I.out];simp),_,by rw[<-H,World.drewN_drewN]⟩
 ·by_cases U:W<=m.high
  all_goals
   rw[he]at c8 I;go_enter func255,ntmps255;go_wp2
   go_quiet ((go_at_call 306;exact nI (HW.out _)))
   go_wp2_with fail
   have G:=hid (Z.out nq);have O:=hid (X.out nq);generalize H:w.drewN nq=w1 at *
   go_quiet ((first|(go_at_call 310;exact nI (G.out _))|(go_at_call 251;exact qa5 (O.out _))))
   go_wp2;go_ret;exact⟨aP (by rw[I.out];simp[U]),_,by rw[<-H,World.drewN_drewN]⟩
end

end
abbrev jA(B:Nat)(v:Value):Prop:=Go.Proofs.YtphbledmopchnaaGreatDoor.Own B v
def Rd(k:Nat)(w:World)(v:Value)(n:Nat)(l:List Value):Prop:=
 v=.slice none 0 0/\n=0/\l=[]\/∃g cap,v=.slice (some ⟨g,0,none⟩) n cap/\g<w.heap.size/\l.length=n*k/\(∀j u,l[j]?=some u->w.cell? ⟨g,j,none⟩=some u)/\∀u∈l,u.oneCell'=true
theorem Rd.below{k:Nat}{w w':World}{v:Value}{n:Nat}{l:List Value}(h:Rd k w v n l)(hb:Below w.heap.size w w'):Rd k w' v n l:=by
 rcases h with h|⟨g,cap,h1,F,G,H,I⟩
 ·exact .inl h
 ·exact .inr ⟨g,cap,h1,Nat.lt_of_lt_of_le F hb.size,G,fun j u O=>(hb.cell (p:=⟨g,j,none⟩) F).trans (H j u O),I⟩
theorem GT.rd{own:Own}{t:Nat}{e:TypeId}{k:Nat}{w:World}{v:Value}{n:Nat}{l:List Value}(h:GT own t e k w v n l):Rd k w v n l:=by
 rcases h with h|⟨g,cap,cs,h1,V,G,X,Z,h6,O,H,U⟩
 ·exact .inl h
 ·refine .inr ⟨g,cap,h1,G.lt,O,fun j u F=>?_,fun u I=>U u (by rw[<-H]at I;exact CK I)⟩;rw[G.cell];rw[<-H,wz]at F;split at F
  ·exact F
  ·cases F
theorem jc.rd{own:Own}{t:Nat}{w:World}{S:Nat}{va:Value}{rs:List (Nat×Nat)}(h:jc own t w S va rs):Rd 2 w va rs.length (St.aC rs):=by
 obtain⟨base,c,rfl,H,I,G,O⟩:=h
 rcases G with⟨rfl,rfl,rfl⟩|⟨b,l,rfl,_,hB,hl,ht,h1⟩
 ·exact .inl ⟨rfl,rfl,rfl⟩
 ·refine .inr ⟨b,c,rfl,hB.lt,by rw[St.iY];omega,fun j u F=>?_,St.iR rs⟩;rw[hB.cell];rw[<-ht,wz]at F;split at F
  ·exact F
  ·cases F
theorem zO(n:Nat):(jK (tL false).cells n).toList.length=n:=by simp[jK,Vh]
theorem Km(n:Nat):∀v∈(jK (tL false).cells n).toList,v.oneCell'=true:=by
 intro v F;simp[jK,Vh]at F;obtain⟨i,_,rfl⟩:=F
 have:i % 1=0:=by omega
 rw[this];rfl
theorem vB:Df 156 4 (.bool false) 1 1:=⟨by kernel_rfl,by kernel_rfl,fun n=>by rw[zO];omega,Km,by omega⟩
theorem zP{t e:TypeId}{z:Value}{k bytes:Nat}(E:Df t e z k bytes)(w:World)(g n cap:Nat)(l:List Value)(hg:g<w.heap.size)(hl:l.length=n*k)(hc:∀j u,l[j]?=some u->w.cell? ⟨g,j,none⟩=some u)(h1:∀u∈l,u.oneCell'=true)(hn:n<=1000000):
  ∃V X U,(∀ty,(DJ #[t,t] ty #[.slice (some ⟨w.heap.size,0,none⟩) 0 0,.slice (some ⟨g,0,none⟩) n cap]).run prog (w.alloc (.cells #[] e))=.ok (.slice V n X) U)/\bn e k U (.slice V n X) n l/\jA w.heap.size (.slice V n X)/\Below w.heap.size w U:=by
 obtain⟨F,G⟩:∃F,F=w.alloc (.cells #[] e):=⟨_,rfl⟩;rw[<-G]
 have I:ak F w.heap.size e []:=by rw[G];exact ak.new w e []
 have H:Below w.heap.size w F:=by rw[G];exact(uj _ w).alloc (mR _) _
 have h5:F.heap.size=w.heap.size+1:=by rw[G];simp
 have O:∀j u,l[j]?=some u->F.cell? ((⟨g,0,none⟩:Addr).add j)=some u:=fun j u hj=>by
  rw[KG,qa8,H.cell (p:=⟨g,j,none⟩) hg];exact hc j u hj
 have hO:jA w.heap.size (.slice (some ⟨w.heap.size,0,none⟩) 0 0):=fun k hk=>by simp[Gl]at hk;omega
 by_cases h0:n=0
 ·subst h0
  obtain rfl:l=[]:=by simpa using hl
  have h4:=fun ty=>bS (P:=prog) (w:=F) t t ty e _ k bytes E.ht E.ht E.hi (n:=0) (c:=0) (m:=0) (mc:=cap) I ⟨g,0,none⟩ (vs:=[]) (by simp) (fun j v hj=>by simp at hj) (fun v hv=>by cases hv) (mR _) (by simp)
  refine⟨_,_,_,h4,.inr ⟨w.heap.size,0,_,rfl,I.put _,by rw[aG _ _ _ (by simp)];simp,mR _,by omega,by simp,by simp,fun v hv=>by simp[splice]at hv⟩,fun k hk=>by simp[Gl]at hk;omega,?_⟩;exact H.trans (⟨(aT F w.heap.size _).os,(aT F w.heap.size _).tape,(aT F w.heap.size _).output,(aT F w.heap.size _).size,fun k hk=>dQ F _ k _ (by omega)⟩:Below w.heap.size F _)
 ·have h2:bn e k F (.slice (some ⟨w.heap.size,0,none⟩) 0 0) 0 []:=.inr ⟨w.heap.size,0,[],rfl,I,by simp,mR _,by omega,by simp,by simp,fun v hv=>by cases hv⟩;obtain⟨v',U,tF,h3,Cv⟩:=dY E h2 ⟨g,0,none⟩ n cap l hl (by omega) h1 O (by omega)
  have Z:bn e k U v' n l:=by simpa using h3
  obtain⟨V,X,rfl,_⟩:=Z.shape;exact⟨V,X,U,tF,Z,Cv.own hO (by omega),H.trans (Cv.below hO (by omega))⟩
theorem Gg(w:World):(binOp BinOp.eql 63 (.slice none 0 0) (.slice none 0 0)).run prog w=.ok (.bool true) w:=by kernel_rfl
theorem Dr(w:World)(a:Addr)(n c:Nat):(binOp BinOp.eql 63 (.slice (some a) n c) (.slice none 0 0)).run prog w=.ok (.bool false) w:=by kernel_rfl
theorem Gh(v:Value)(n:Nat)(l:List Value)(w:World)(h:Rd 2 w v n l)(H:n<=1000000):
  Calls prog 228 #[v] w fun e w'=>∃a c,e=.returned (.slice a n c)/\bn 170 2 w' (.slice a n c) n l/\jA w.heap.size (.slice a n c)/\Below w.heap.size w w':=by
 rcases h with⟨rfl,rfl,rfl⟩|⟨g,cap,rfl,h2,h3,h4,h5⟩
 ·have I:=Gg w;go_enter func228,ntmps228;go_wp2;go_ret;exact⟨none,0,rfl,.inl ⟨rfl,rfl,rfl⟩,fun k G=>by simp[Gl]at G,uj _ _⟩
 ·have I:=Dr w ⟨g,0,none⟩ n cap;obtain⟨V,X,U,O,hF⟩:=zP FX w g n cap l h2 h3 h4 h5 H;have F:=hid hF;clear hF h2 h3 h4 h5;go_enter func228,ntmps228
  go_wp2_with (at_builtin;refine Lib.wpList_append_run _ rfl _ _ _ _ rfl _ _ rfl rfl _ _ (O _) ?_)
  go_ret;exact⟨_,_,rfl,F.out⟩
theorem wR(w:World):(binOp BinOp.eql 54 (.slice none 0 0) (.slice none 0 0)).run prog w=.ok (.bool true) w:=by kernel_rfl
theorem uQ(w:World)(a:Addr)(n c:Nat):(binOp BinOp.eql 54 (.slice (some a) n c) (.slice none 0 0)).run prog w=.ok (.bool false) w:=by kernel_rfl
theorem Gi(v:Value)(n:Nat)(l:List Value)(w:World)(h:Rd 10 w v n l)(H:n<=1000000):
  Calls prog 272 #[v] w fun e w'=>∃a c,e=.returned (.slice a n c)/\bn 65 10 w' (.slice a n c) n l/\jA w.heap.size (.slice a n c)/\Below w.heap.size w w':=by
 rcases h with⟨rfl,rfl,rfl⟩|⟨g,cap,rfl,h2,h3,h4,h5⟩
 ·have I:=wR w;go_enter func272,ntmps272;go_wp2;go_ret;exact⟨none,0,rfl,.inl ⟨rfl,rfl,rfl⟩,fun k G=>by simp[Gl]at G,uj _ _⟩
 ·have I:=uQ w ⟨g,0,none⟩ n cap;obtain⟨V,X,U,O,hF⟩:=zP A9 w g n cap l h2 h3 h4 h5 H;have F:=hid hF;clear hF h2 h3 h4 h5;go_enter func272,ntmps272
  go_wp2_with (at_builtin;refine Lib.wpList_append_run _ rfl _ _ _ _ rfl _ _ rfl rfl _ _ (O _) ?_)
  go_ret;exact⟨_,_,rfl,F.out⟩
theorem Kn(b m n c:Nat)(l:List Value)(w:World)(hm:1<=m)(hr:1<=n)(hu:m+n<=c)(_hc:c<=9223372036854775807)(_hbig:m+n<=1000000)(h:ak w b 5 l)(hl:c<=l.length)(h1:∀v∈l,v.oneCell'=true):
  Calls prog 303 #[.slice (some ⟨b,0,none⟩) (m+n) c,.int .i64 0,.int .i64 n] w fun e w'=>
   ∃l',e=.returned (.slice (some ⟨b,0,none⟩) m c)/\ak w' b 5 l'/\l'.length=l.length/\l'.take m=(l.take (m+n)).drop n/\(∀v∈l',v.oneCell'=true)/\jD b w w':=by
 have h4:((l.take (m+n)).drop n).length=m:=by simp;omega
 have U:∀v∈(l.take (m+n)).drop n,v.oneCell'=true:=fun v hv=>h1 v (CK (Xw hv))
 have H:∀j v,((l.take (m+n)).drop n)[j]?=some v->l[n+j]?=some v:=fun j v hj=>by
  rw[qa0,wz]at hj;split at hj
  ·exact hj
  ·cases hj
 have h2:(loadCellsFrom ⟨b,n,none⟩ 0 (m*1) #[]).run prog w.drew=.ok ((l.take (m+n)).drop n).toArray w.drew:=by
  have hf:=run_firstCells_some (P:=prog) w.drew 1 m ⟨b,n,none⟩ m (c-n) ((l.take (m+n)).drop n) (by omega) (fun j v hj=>by
   rw[KG];exact(ak.cell h (n+j)).trans (H j v hj))
  simpa[M4,loadCells]using hf
 rw[Kt]at h2
 have h3:(storeCells ⟨b,0,none⟩ ((l.take (m+n)).drop n)).run prog w.drew=.ok () (put w.drew b (splice l 0 ((l.take (m+n)).drop n))):=
  bW (P:=prog) (w:=w.drew) (o:=0) h _ (by omega) U
 have V:(splice l 0 ((l.take (m+n)).drop n)).length=l.length:=aG _ _ _ (by omega)
 have G:(splice l 0 ((l.take (m+n)).drop n)).take m=(l.take (m+n)).drop n:=by
  have:=dR l ((l.take (m+n)).drop n) 0 (by omega);rw[h4]at this;simpa using this
 have I:∀v∈splice l 0 ((l.take (m+n)).drop n),v.oneCell'=true:=aS h1 U;have F:ak (put w.drew b (splice l 0 ((l.take (m+n)).drop n))) b 5 (splice l 0 ((l.take (m+n)).drop n)):=ak.put (w:=w.drew) h _;generalize splice l 0 ((l.take (m+n)).drop n)=l1 at h3 V G I F;generalize (l.take (m+n)).drop n=X at G h2 h3 ⊢
 have h8:∀ty cc,(Lb #[60] ty #[.slice (some ⟨b,m,none⟩) n cc]).run prog (put w.drew b l1)=.ok (.tuple #[]) (put (put w.drew b l1) b (splice l1 m (jK (Bu .u8 0).cells n).toList)):=fun ty cc=>
  dO (P:=prog) (o:=m) (n:=n) (c:=cc) 60 5 ty _ tC.ht (fun w=>by kernel_rfl) F (by omega) (by rw[tC.hz];omega) (tC.h1 _)
 have h0:(splice l1 m (jK (Bu .u8 0).cells n).toList).take m=X:=by
  rw[dz _ _ _ _ (by rw[tC.hz];omega) (mR _),G]
 have Z:(splice l1 m (jK (Bu .u8 0).cells n).toList).length=l.length:=by rw[aG _ _ _ (by rw[tC.hz];omega),V]
 have O:∀v∈splice l1 m (jK (Bu .u8 0).cells n).toList,v.oneCell'=true:=aS I (tC.h1 _);generalize splice l1 m (jK (Bu .u8 0).cells n).toList=l2 at h8 h0 Z O;have h7:Hid _:=h0;have Q6:Hid _:=O;have h6:Hid _:=Z;have h5:Hid (ak (put w.drew b l1) b 5 l1):=F;have HG:Hid (jD b w (put (put w.drew b l1) b l2)):=⟨rfl,rfl,rfl,by simp[put],fun k hk=>by rw[dQ _ _ _ _ hk,dQ _ _ _ _ hk];rfl⟩;clear G h0 O Z I V F U H h4 h1 hl h
 have hn:m<=c:=by omega
 have h9:(n:Int)<=(m:Int)+(n:Int):=by omega
 have ha:(m:Int)+(n:Int)<=(c:Int):=by omega
 have hc:(n:Int)<=(c:Int):=by omega
 have he:¬(c=m):=by omega
 have hg:¬(c=n):=by omega
 have ho:¬((0:Int)=(n:Int)):=by omega
 have Wi:((0:Int)==(n:Int))=false:=by simp;omega
 have e1:m+n-m=n:=by omega
 have e2:m+n-n=m:=by omega
 go_enter func303,ntmps303;go_wp2
 go_region
 go_wp2;go_ret;exact⟨l2,rfl,ak.put h5.out l2,h6.out,h7.out,Q6.out,HG.out⟩
theorem Ko(b m n c:Nat)(l:List Value)(w:World)(hm:1<=m)(hr:1<=n)(hu:m+n<=c)(_hc:c<=9223372036854775807)(_hbig:m+n<=1000000)(h:ak w b 4 l)(hl:c<=l.length)(h1:∀v∈l,v.oneCell'=true):
  Calls prog 304 #[.slice (some ⟨b,0,none⟩) (m+n) c,.int .i64 0,.int .i64 n] w fun e w'=>
   ∃l',e=.returned (.slice (some ⟨b,0,none⟩) m c)/\ak w' b 4 l'/\l'.length=l.length/\l'.take m=(l.take (m+n)).drop n/\(∀v∈l',v.oneCell'=true)/\jD b w w':=by
 have h4:((l.take (m+n)).drop n).length=m:=by simp;omega
 have U:∀v∈(l.take (m+n)).drop n,v.oneCell'=true:=fun v hv=>h1 v (CK (Xw hv))
 have H:∀j v,((l.take (m+n)).drop n)[j]?=some v->l[n+j]?=some v:=fun j v hj=>by
  rw[qa0,wz]at hj;split at hj
  ·exact hj
  ·cases hj
 have h2:(loadCellsFrom ⟨b,n,none⟩ 0 (m*1) #[]).run prog w.drew=.ok ((l.take (m+n)).drop n).toArray w.drew:=by
  have hf:=run_firstCells_some (P:=prog) w.drew 1 m ⟨b,n,none⟩ m (c-n) ((l.take (m+n)).drop n) (by omega) (fun j v hj=>by
   rw[KG];exact(ak.cell h (n+j)).trans (H j v hj))
  simpa[M4,loadCells]using hf
 rw[Kt]at h2
 have h3:(storeCells ⟨b,0,none⟩ ((l.take (m+n)).drop n)).run prog w.drew=.ok () (put w.drew b (splice l 0 ((l.take (m+n)).drop n))):=
  bW (P:=prog) (w:=w.drew) (o:=0) h _ (by omega) U
 have V:(splice l 0 ((l.take (m+n)).drop n)).length=l.length:=aG _ _ _ (by omega)
 have G:(splice l 0 ((l.take (m+n)).drop n)).take m=(l.take (m+n)).drop n:=by
  have:=dR l ((l.take (m+n)).drop n) 0 (by omega);rw[h4]at this;simpa using this
 have I:∀v∈splice l 0 ((l.take (m+n)).drop n),v.oneCell'=true:=aS h1 U;have F:ak (put w.drew b (splice l 0 ((l.take (m+n)).drop n))) b 4 (splice l 0 ((l.take (m+n)).drop n)):=ak.put (w:=w.drew) h _;generalize splice l 0 ((l.take (m+n)).drop n)=l1 at h3 V G I F;generalize (l.take (m+n)).drop n=X at G h2 h3 ⊢
 have h8:∀ty cc,(Lb #[156] ty #[.slice (some ⟨b,m,none⟩) n cc]).run prog (put w.drew b l1)=.ok (.tuple #[]) (put (put w.drew b l1) b (splice l1 m (jK (tL false).cells n).toList)):=fun ty cc=>
  dO (P:=prog) (o:=m) (n:=n) (c:=cc) 156 4 ty _ vB.ht (fun w=>by kernel_rfl) F (by omega) (by rw[vB.hz];omega) (vB.h1 _)
 have h0:(splice l1 m (jK (tL false).cells n).toList).take m=X:=by
  rw[dz _ _ _ _ (by rw[vB.hz];omega) (mR _),G]
 have Z:(splice l1 m (jK (tL false).cells n).toList).length=l.length:=by rw[aG _ _ _ (by rw[vB.hz];omega),V]
 have O:∀v∈splice l1 m (jK (tL false).cells n).toList,v.oneCell'=true:=aS I (vB.h1 _);generalize splice l1 m (jK (tL false).cells n).toList=l2 at h8 h0 Z O;have h7:Hid _:=h0;have Q6:Hid _:=O;have h6:Hid _:=Z;have h5:Hid (ak (put w.drew b l1) b 4 l1):=F;have HG:Hid (jD b w (put (put w.drew b l1) b l2)):=⟨rfl,rfl,rfl,by simp[put],fun k hk=>by rw[dQ _ _ _ _ hk,dQ _ _ _ _ hk];rfl⟩;clear G h0 O Z I V F U H h4 h1 hl h
 have hn:m<=c:=by omega
 have h9:(n:Int)<=(m:Int)+(n:Int):=by omega
 have ha:(m:Int)+(n:Int)<=(c:Int):=by omega
 have hc:(n:Int)<=(c:Int):=by omega
 have he:¬(c=m):=by omega
 have hg:¬(c=n):=by omega
 have ho:¬((0:Int)=(n:Int)):=by omega
 have Wi:((0:Int)==(n:Int))=false:=by simp;omega
 have e1:m+n-m=n:=by omega
 have e2:m+n-n=m:=by omega
 go_enter func304,ntmps304;go_wp2
 go_region
 go_wp2;go_ret;exact⟨l2,rfl,ak.put h5.out l2,h6.out,h7.out,Q6.out,HG.out⟩
theorem NK(b n c:Nat)(l:List Value)(w:World)(h2:1<=n)(h3:n<=c)(h:ak w b 5 l)(hl:c<=l.length)(h1:∀v∈l,v.oneCell'=true):
  Calls prog 303 #[.slice (some ⟨b,0,none⟩) n c,.int .i64 0,.int .i64 n] w fun e w'=>
   ∃l',e=.returned (.slice (some ⟨b,0,none⟩) 0 c)/\ak w' b 5 l'/\l'.length=l.length/\(∀v∈l',v.oneCell'=true)/\jD b w w':=by
 have H:∀O cc,(Lb #[60] O #[.slice (some ⟨b,0,none⟩) n cc]).run prog w.drew=.ok (.tuple #[]) (put w.drew b (splice l 0 (jK (Bu .u8 0).cells n).toList)):=fun O cc=>
  dO (P:=prog) (o:=0) (n:=n) (c:=cc) 60 5 O _ tC.ht (fun w=>by kernel_rfl) (ak.drew h) (by omega) (by rw[tC.hz];omega) (tC.h1 _)
 have G:(splice l 0 (jK (Bu .u8 0).cells n).toList).length=l.length:=aG _ _ _ (by rw[tC.hz];omega);have F:∀v∈splice l 0 (jK (Bu .u8 0).cells n).toList,v.oneCell'=true:=aS h1 (tC.h1 _);generalize splice l 0 (jK (Bu .u8 0).cells n).toList=l2 at H G F;have U:Hid (ak (put w.drew b l2) b 5 l2/\l2.length=l.length/\(∀v∈l2,v.oneCell'=true)/\jD b w (put w.drew b l2)):=⟨ak.put (w:=w.drew) h l2,G,F,rfl,rfl,rfl,by simp[put],fun k Z=>by rw[dQ _ _ _ _ Z];rfl⟩;clear G F h h1 hl
 have X:(n:Int)<=(c:Int):=by omega
 have h0:¬((0:Int)=(n:Int)):=by omega
 have Wi:((0:Int)==(n:Int))=false:=by simp;omega
 have V:¬(c=0):=by omega
 by_cases I:c=n
 all_goals
  go_enter func303,ntmps303;go_wp2
  go_region
  go_wp2;go_ret;exact⟨l2,St.oh rfl (by first|rfl|exact I.symm),U.out⟩
theorem NM(b n c:Nat)(l:List Value)(w:World)(h2:1<=n)(h3:n<=c)(h:ak w b 4 l)(hl:c<=l.length)(h1:∀v∈l,v.oneCell'=true):
  Calls prog 304 #[.slice (some ⟨b,0,none⟩) n c,.int .i64 0,.int .i64 n] w fun e w'=>
   ∃l',e=.returned (.slice (some ⟨b,0,none⟩) 0 c)/\ak w' b 4 l'/\l'.length=l.length/\(∀v∈l',v.oneCell'=true)/\jD b w w':=by
 have H:∀O cc,(Lb #[156] O #[.slice (some ⟨b,0,none⟩) n cc]).run prog w.drew=.ok (.tuple #[]) (put w.drew b (splice l 0 (jK (tL false).cells n).toList)):=fun O cc=>
  dO (P:=prog) (o:=0) (n:=n) (c:=cc) 156 4 O _ vB.ht (fun w=>by kernel_rfl) (ak.drew h) (by omega) (by rw[vB.hz];omega) (vB.h1 _)
 have G:(splice l 0 (jK (tL false).cells n).toList).length=l.length:=aG _ _ _ (by rw[vB.hz];omega);have F:∀v∈splice l 0 (jK (tL false).cells n).toList,v.oneCell'=true:=aS h1 (vB.h1 _);generalize splice l 0 (jK (tL false).cells n).toList=l2 at H G F;have U:Hid (ak (put w.drew b l2) b 4 l2/\l2.length=l.length/\(∀v∈l2,v.oneCell'=true)/\jD b w (put w.drew b l2)):=⟨ak.put (w:=w.drew) h l2,G,F,rfl,rfl,rfl,by simp[put],fun k Z=>by rw[dQ _ _ _ _ Z];rfl⟩;clear G F h h1 hl
 have X:(n:Int)<=(c:Int):=by omega
 have h0:¬((0:Int)=(n:Int)):=by omega
 have Wi:((0:Int)==(n:Int))=false:=by simp;omega
 have V:¬(c=0):=by omega
 by_cases I:c=n
 all_goals
  go_enter func304,ntmps304;go_wp2
  go_region
  go_wp2;go_ret;exact⟨l2,St.oh rfl (by first|rfl|exact I.symm),U.out⟩
theorem NN(own:Own)(t n:Nat)(bs:List UInt8)(a:Option Addr)(c:Nat)(w:World)(hn:1<=n)(h0:n<=bs.length)(hb:bs.length<=1000000)(h:GT own t 5 1 w (.slice a bs.length c) bs.length (aJ bs)):
  Calls prog 303 #[.slice a bs.length c,.int .i64 0,.int .i64 n] w fun e w'=>∃V X,e=.returned (.slice V (bs.length-n) X)/\GT own t 5 1 w' (.slice V (bs.length-n) X) (bs.drop n).length (aJ (bs.drop n))/\Kp [t] own own w w':=by
 rcases h with⟨h1,G,_⟩|⟨g,cap,cs,hv,ho,hB,G,h3,h4,h5,h6,h7⟩
 ·omega
 ·simp at hv;obtain⟨rfl,rfl⟩:=hv
  have Z:∀w',jD g w w'->Kp [t] own own w w':=fun w' ht=>⟨ht.os,ht.tape,ht.output,by rw[ht.size];exact mR _,fun b _ I=>ht.block b (fun e=>I (by rw[e,ho];simp)),fun _ _=>rfl⟩
  have F:(bs.drop n).length=bs.length-n:=by simp
  rw[Kt]at h6 G
  by_cases hm:bs.length=n
  ·have:=NK g n c cs w hn (by omega) hB G h7;rw[hm];refine this.mono ?_;rintro e w' ⟨l',rfl,k1,k2,O,U⟩;refine⟨_,_,by rw[R3],?_,Z w' U⟩;rw[F,hm,R3];refine .inr ⟨g,c,l',rfl,ho,k1,by omega,by omega,h4,?_,?_,O⟩
   ·rw[aR,F];omega
   ·rw[qa9,qa7,Si (by omega)];rfl
  ·obtain⟨m,H⟩:∃m,bs.length=m+n:=⟨bs.length-n,by omega⟩;have:=Kn g m n c cs w (by omega) hn (by omega) h4 (by omega) hB G h7;rw[<-H]at this;refine this.mono ?_;rintro e w' ⟨l',rfl,k1,k2,O,U,k5⟩;refine⟨_,_,by rw[show bs.length-n=m by omega],?_,Z w' k5⟩;rw[F,show bs.length-n=m by omega];refine .inr ⟨g,c,l',rfl,ho,k1,by omega,by omega,h4,?_,?_,U⟩
   ·rw[aR,F];omega
   ·rw[Kt,O,h6];simp[aJ]
theorem NP(own:Own)(t n:Nat)(bs:List Bool)(a:Option Addr)(c:Nat)(w:World)(hn:1<=n)(h0:n<=bs.length)(hb:bs.length<=1000000)(h:GT own t 4 1 w (.slice a bs.length c) bs.length (eU bs)):
  Calls prog 304 #[.slice a bs.length c,.int .i64 0,.int .i64 n] w fun e w'=>∃X Z,e=.returned (.slice X (bs.length-n) Z)/\GT own t 4 1 w' (.slice X (bs.length-n) Z) (bs.drop n).length (eU (bs.drop n))/\Kp [t] own own w w':=by
 have G:∀l:List Bool,(eU l).length=l.length:=fun l=>by simp[eU]
 rcases h with⟨h1,H,_⟩|⟨g,cap,cs,hv,ho,hB,H,h3,h4,h5,h6,h7⟩
 ·omega
 ·simp at hv;obtain⟨rfl,rfl⟩:=hv
  have hk:∀w',jD g w w'->Kp [t] own own w w':=fun w' ht=>⟨ht.os,ht.tape,ht.output,by rw[ht.size];exact mR _,fun b _ O=>ht.block b (fun e=>O (by rw[e,ho];simp)),fun _ _=>rfl⟩
  have F:(bs.drop n).length=bs.length-n:=by simp
  rw[Kt]at h6 H
  by_cases hm:bs.length=n
  ·have:=NM g n c cs w hn (by omega) hB H h7;rw[hm];refine this.mono ?_;rintro e w' ⟨l',rfl,k1,k2,U,V⟩;refine⟨_,_,by rw[R3],?_,hk w' V⟩;rw[F,hm,R3];refine .inr ⟨g,c,l',rfl,ho,k1,by omega,by omega,h4,?_,?_,U⟩
   ·rw[G,F];omega
   ·rw[qa9,qa7,Si (by omega)];rfl
  ·obtain⟨m,I⟩:∃m,bs.length=m+n:=⟨bs.length-n,by omega⟩;have:=Ko g m n c cs w (by omega) hn (by omega) h4 (by omega) hB H h7;rw[<-I]at this;refine this.mono ?_;rintro e w' ⟨l',rfl,k1,k2,U,V,k5⟩;refine⟨_,_,by rw[show bs.length-n=m by omega],?_,hk w' k5⟩;rw[F,show bs.length-n=m by omega];refine .inr ⟨g,c,l',rfl,ho,k1,by omega,by omega,h4,?_,?_,V⟩
   ·rw[G,F];omega
   ·rw[Kt,U,h6];simp[eU]
theorem Kq{l:List Bool}{i:Nat}(hi:i<=l.length)(h:∀j,j<i->l.getD j false=true):i<=(l.takeWhile id).length:=by
 induction l generalizing i with
 |nil=>simpa using hi
 |cons b t G=>
  cases i with
  |zero=>exact Nat.zero_le _
  |succ i=>
   have F:b=true:=h 0 (by omega);subst F;have:=G (i:=i) (by simpa using hi) (fun j H=>by simpa using h (j+1) (by omega));simp only[Z9,id,if_true,qa3];omega
theorem wT(l:List Bool):(l.takeWhile id).length<=l.length:=(List.takeWhile_prefix _).length_le
theorem Gj{l:List Bool}{i:Nat}(hi:i<l.length)(h:l.getD i false=false):(l.takeWhile id).length<=i:=by
 induction l generalizing i with
 |nil=>simp at hi
 |cons b t G=>
  cases i with
  |zero=>
   have F:b=false:=h;subst F;simp
  |succ i=>
   cases b with
   |false=>simp
   |true=>
    have:=G (i:=i) (by simpa using hi) (by simpa using h);simp only[Z9,id,if_true,qa3];omega
theorem Kr(own:Own)(t:Nat)(bs:List Bool)(a:Option Addr)(c:Nat)(w:World)(hb:bs.length<=1000000)(h:GT own t 4 1 w (.slice a bs.length c) bs.length (eU bs)):
  Calls prog 305 #[.slice a bs.length c,.bool false] w fun e w'=>e=.returned (.int .i64 (if(bs.takeWhile id).length=bs.length then -1 else((bs.takeWhile id).length:Int)))/\w'=w:=by
 have HG:=hid h;have V:=hid (And.intro (fun i hi hh=>Kq (l:=bs) (i:=i) hi hh) (fun i hi hh=>Gj (l:=bs) (i:=i) hi hh));have h3:=wT bs
 obtain⟨R,Z⟩:∃R:Int,R=if(bs.takeWhile id).length=bs.length then -1 else((bs.takeWhile id).length:Int):=⟨_,rfl⟩
 rw[<-Z];have HR:=hid Z;clear h Z;generalize (bs.takeWhile id).length=T at *;go_enter func305,ntmps305
 go_wp2_with fail
 go_loopw [8] (fun s8 wr=>∃i:Nat,i<=bs.length/\s8=.int .i64 i/\wr=w/\Hid (∀j,j<i->bs.getD j false=true)) (fun s8 _=>bs.length-(intOf s8).toNat)
 case atStart=>exact⟨0,Nat.zero_le _,rfl,rfl,fun j hj=>by omega⟩
 case round=>
  obtain⟨i,hi,rfl,rfl,H⟩:=hrel
  by_cases O:i<bs.length
  ·have h0:(i:Int)<(bs.length:Int):=by omega
   have hc:(eU bs)[i]?=some (.bool (bs.getD i false)):=by simp[eU,O]
   obtain⟨g,rfl,_,hg,F,_⟩:=HG.out.cell i _ hc;clear hc;cases I:bs.getD i false
   ·have h1:=V.out.2 i O I;have X:=V.out.1 i (by omega) H.out
    have G:Hid (R=(i:Int)):=by unfold Hid;rw[HR.out,if_neg (by omega)];omega
    rw[I]at F;clear I H h1 X;go_wp2;go_ret;exact⟨dL (by rw[G.out]),rfl⟩
   ·have U:Hid (∀j,j<i+1->bs.getD j false=true):=fun j hj=>by
     by_cases e:j=i
     ·rw[e];exact I
     ·exact H.out j (by omega)
    rw[I]at F;clear I H
    go_wp2_with fail
    go_roundw
    case rel=>exact⟨i+1,by omega,by go_num,by first|rfl|trivial,U⟩
    case measure=>simp[intOf];omega
  ·obtain rfl:i=bs.length:=by omega
   have X:=V.out.1 bs.length (mR _) H.out
   have G:Hid (R= -1):=by unfold Hid;rw[HR.out,if_pos (by omega)]
   clear H X;go_wp2;go_ret;exact⟨dL (by rw[G.out]),rfl⟩
theorem NQ(own:Own)(t S o:Nat)(m:bI)(vh vc:Value)(l:List Value)(w:World)(hB:ak w S TS l)(h:uN l o m vh vc)(H:GT own t 4 1 w vc m.came.length (eU m.came))(hl:m.came.length<=1000000):
  Calls prog 239 #[.pointer (some ⟨S,o,none⟩)] w fun e w'=>e=.returned (.int .i64 m.ready)/\w'=w:=by
 have c6:=in6 S o m vh vc w l hB h;obtain⟨a,c,rfl,V,_⟩:=H.shape;have G:=hid (Kr own t m.came a c w hl H);have I:Hid (m.ready=(m.came.takeWhile id).length):=rfl;have U:=wT m.came;generalize m.ready=R at *;generalize (m.came.takeWhile id).length=T at *;clear H h hB
 by_cases F:T=m.came.length
 ·rw[if_pos F]at G;have O:=hid F;clear F;go_enter func239,ntmps239
  go_wp2_with fail
  refine G.out.mono ?_;rintro e w' ⟨rfl,rfl⟩;go_wp2;go_ret;exact⟨dL (by rw[I.out,O.out]),rfl⟩
 ·rw[if_neg F]at G;clear F;go_enter func239,ntmps239
  go_wp2_with fail
  refine G.out.mono ?_;rintro e w' ⟨rfl,rfl⟩;go_wp2;go_ret;exact⟨dL (by rw[I.out]),rfl⟩
def NR(s t:Nat)(own:Own)(S o:Nat)(l:List Value)(w:World)(m':bI)(w':World):Prop:=
 ∃own' l',Kp [s,t,t+1] own own' w w'/\ak w' S TS l'/\iH l l' o 13/\zL own' t w' l' o m'
theorem pU.set{l:List Value}{o j:Nat}{v:Value}{g:Gn}(h:pU l o g)(F:j<o\/o+4<=j):pU (l.set j v) o g:=
 ⟨by rw[aj _ _ _ _ (by omega)];exact h.c0,by rw[aj _ _ _ _ (by omega)];exact h.c1,by rw[aj _ _ _ _ (by omega)];exact h.c2,by rw[aj _ _ _ _ (by omega)];exact h.c3⟩
theorem NT{l:List Value}{o:Nat}{m:bI}{vh vc:Value}(h:uN l o m vh vc)(x:Nat):uN (l.set (o+4) (.int .u64 x)) o {m with read:=x} vh vc:=
 ⟨h.gr.set (by omega),aN _ _ _ _ h.c4,by rw[aj _ _ _ _ (by omega)];exact h.c5,by rw[aj _ _ _ _ (by omega)];exact h.c6,by rw[aj _ _ _ _ (by omega)];exact h.c7,by rw[aj _ _ _ _ (by omega)];exact h.c8,by rw[aj _ _ _ _ (by omega)];exact h.c9,by rw[aj _ _ _ _ (by omega)];exact h.c10,by rw[aj _ _ _ _ (by omega)];exact h.c11,by rw[aj _ _ _ _ (by omega)];exact h.c12⟩
theorem Dt{l:List Value}{o:Nat}{m:bI}{vh vc:Value}(h:uN l o m vh vc)(v:Value)(bs:List UInt8):uN (l.set (o+5) v) o {m with held:=bs} v vc:=
 ⟨h.gr.set (by omega),by rw[aj _ _ _ _ (by omega)];exact h.c4,aN _ _ _ _ h.c5,by rw[aj _ _ _ _ (by omega)];exact h.c6,by rw[aj _ _ _ _ (by omega)];exact h.c7,by rw[aj _ _ _ _ (by omega)];exact h.c8,by rw[aj _ _ _ _ (by omega)];exact h.c9,by rw[aj _ _ _ _ (by omega)];exact h.c10,by rw[aj _ _ _ _ (by omega)];exact h.c11,by rw[aj _ _ _ _ (by omega)];exact h.c12⟩
theorem Du{l:List Value}{o:Nat}{m:bI}{vh vc:Value}(h:uN l o m vh vc)(v:Value)(bs:List Bool):uN (l.set (o+6) v) o {m with came:=bs} vh v:=
 ⟨h.gr.set (by omega),by rw[aj _ _ _ _ (by omega)];exact h.c4,by rw[aj _ _ _ _ (by omega)];exact h.c5,aN _ _ _ _ h.c6,by rw[aj _ _ _ _ (by omega)];exact h.c7,by rw[aj _ _ _ _ (by omega)];exact h.c8,by rw[aj _ _ _ _ (by omega)];exact h.c9,by rw[aj _ _ _ _ (by omega)];exact h.c10,by rw[aj _ _ _ _ (by omega)];exact h.c11,by rw[aj _ _ _ _ (by omega)];exact h.c12⟩
theorem NU{l:List Value}{o:Nat}{m:bI}{vh vc:Value}(h:uN l o m vh vc)(x:Nat):uN (l.set (o+7) (.int .u64 x)) o {m with high:=x} vh vc:=
 ⟨h.gr.set (by omega),by rw[aj _ _ _ _ (by omega)];exact h.c4,by rw[aj _ _ _ _ (by omega)];exact h.c5,by rw[aj _ _ _ _ (by omega)];exact h.c6,aN _ _ _ _ h.c7,by rw[aj _ _ _ _ (by omega)];exact h.c8,by rw[aj _ _ _ _ (by omega)];exact h.c9,by rw[aj _ _ _ _ (by omega)];exact h.c10,by rw[aj _ _ _ _ (by omega)];exact h.c11,by rw[aj _ _ _ _ (by omega)];exact h.c12⟩
theorem Ku{l:List Value}{o:Nat}{m:bI}{vh vc:Value}(h:uN l o m vh vc)(x:Bool):uN (l.set (o+8) (.bool x)) o {m with ended:=x} vh vc:=
 ⟨h.gr.set (by omega),by rw[aj _ _ _ _ (by omega)];exact h.c4,by rw[aj _ _ _ _ (by omega)];exact h.c5,by rw[aj _ _ _ _ (by omega)];exact h.c6,by rw[aj _ _ _ _ (by omega)];exact h.c7,aN _ _ _ _ h.c8,by rw[aj _ _ _ _ (by omega)];exact h.c9,by rw[aj _ _ _ _ (by omega)];exact h.c10,by rw[aj _ _ _ _ (by omega)];exact h.c11,by rw[aj _ _ _ _ (by omega)];exact h.c12⟩
theorem NV{l:List Value}{o:Nat}{m:bI}{vh vc:Value}(h:uN l o m vh vc)(x:Nat):uN (l.set (o+9) (.int .u64 x)) o {m with dD:=x} vh vc:=
 ⟨h.gr.set (by omega),by rw[aj _ _ _ _ (by omega)];exact h.c4,by rw[aj _ _ _ _ (by omega)];exact h.c5,by rw[aj _ _ _ _ (by omega)];exact h.c6,by rw[aj _ _ _ _ (by omega)];exact h.c7,by rw[aj _ _ _ _ (by omega)];exact h.c8,aN _ _ _ _ h.c9,by rw[aj _ _ _ _ (by omega)];exact h.c10,by rw[aj _ _ _ _ (by omega)];exact h.c11,by rw[aj _ _ _ _ (by omega)];exact h.c12⟩
theorem Kv{l:List Value}{o:Nat}{m:bI}{vh vc:Value}(h:uN l o m vh vc)(x:Nat):uN (l.set (o+12) (.int .i64 x)) o {m with state:=x} vh vc:=
 ⟨h.gr.set (by omega),by rw[aj _ _ _ _ (by omega)];exact h.c4,by rw[aj _ _ _ _ (by omega)];exact h.c5,by rw[aj _ _ _ _ (by omega)];exact h.c6,by rw[aj _ _ _ _ (by omega)];exact h.c7,by rw[aj _ _ _ _ (by omega)];exact h.c8,by rw[aj _ _ _ _ (by omega)];exact h.c9,by rw[aj _ _ _ _ (by omega)];exact h.c10,by rw[aj _ _ _ _ (by omega)];exact h.c11,aN _ _ _ _ h.c12⟩
theorem zL.loc{own:Own}{t:Nat}{w:World}{l:List Value}{o:Nat}{m:bI}(h:zL own t w l o m):zL (loc own w.heap.size) t w l o m:=by
 obtain⟨vh,vc,h1,F,G⟩:=h;exact⟨vh,vc,h1,F.loc,G.loc⟩
theorem Sw(S o:Nat)(w:World):Calls prog 238 #[.pointer (some ⟨S,o,none⟩),.int .i64 0] w fun e w'=>e=.returned (.slice none 0 0)/\w'=w:=by
 go_enter func238,ntmps238;go_wp2;go_ret;exact⟨rfl,rfl⟩
theorem Oj(m:bI):m.cut 0=m:=by
 cases m;simp[bI.cut]
theorem Sy{s t:Nat}{own:Own}{S o:Nat}{l:List Value}{w:World}{m m':bI}(hB:ak w S TS l)(G:own S=s)(X:s<t)(U:zL own t w l o m)(j:Nat)(v:Value)(V:o<=j)(F:j<o+13)(h:∀vh vc,uN l o m vh vc->uN (l.set j v) o m' vh vc)(I:m'.held=m.held)(O:m'.came=m.came):NR s t own S o l w m' (w.setCell ⟨S,j,none⟩ v):=by
 have h1:=cu.one hB j v o 13 V F;obtain⟨vh,vc,k1,k2,Z⟩:=U;have H:=h1.kp G (T:=[s]) (by simp);refine⟨own,_,h1.kp G (by simp),h1.blk,h1.win,vh,vc,h _ _ k1,?_,?_⟩
 ·rw[I];exact k2.kp H (by simp;omega)
 ·rw[O];exact Z.kp H (by simp;omega)
theorem Ol{v v':Value}{a b:Int}(h:v=v')(F:a=b):Ending.returned (.tuple #[v,.int .i64 a])=.returned (.tuple #[v',.int .i64 b]):=by rw[h,F]
theorem jB{t e:TypeId}{z:Value}{k bytes:Nat}(E:Df t e z k bytes)(x6:0<k){own:Own}{g:Nat}{w:World}{v:Value}{n:Nat}{l:List Value}(h:GT own g e k w v n l)(m:Nat)(hm:0<m)(hsz:n+m<=1000000000):
  ∃v' w' own',(∀O,(DJ #[t,3] O #[v,.int .i64 m]).run prog w=.ok v' w')/\GT own' g e k w' v' (n+m) (l++(jK z.cells m).toList)/\Kp [g] own own' w w':=by
 obtain⟨i,hi,hz,hs,hb⟩:=info_parts E.hi
 have hx:prog.underlying 3=some (.int .i64):=by kernel_rfl
 have h8:(n+m)*bytes<=140737488355328:=Nat.le_trans (Nat.mul_le_mul hsz E.hb) (by decide);have x7:m*bytes<=(n+m)*bytes:=ZE _ (by omega);have x1:=h.len;have hk:(n+m)*k=n*k+m*k:=Nat.add_mul _ _ _;have x4:=E.hz m
 have grow:∀base c (cs:List Value),cs=l->c<n+m->(base=none/\cs=[]\/∃b:Addr,base=some b/\cs.length=n*k/\∀j v,cs[j]?=some v->w.cell? (b.add j)=some v)->(∀v∈cs,v.oneCell'=true)->∃v' w' own',(∀O,(DJ #[t,3] O #[.slice base n c,.int .i64 m]).run prog w=.ok v' w')/\GT own' g e k w' v' (n+m) (l++(jK z.cells m).toList)/\Kp [g] own own' w w':=by
  intro base c cs h9 X hold he
  have hO:(M4 i.size n (.slice base n c)).run prog w.drew=.ok cs.toArray w.drew:=by
   rcases hold with⟨rfl,rfl⟩|⟨b,rfl,hl,hc⟩
   ·exact run_firstCells_none w.drew i.size n n c
   ·rw[hs];exact run_firstCells_some w.drew k n b n c cs hl hc
  have H:=fun O=>Lib.run_append_grow_zeros (P:=prog) w t 3 O e i z .i64 .i64 E.ht hx hi hz base n c cs hO m hm (by omega) X (by omega) (by rw[hb];omega) (by rw[hb];exact growslice_fits X h8)
  have hy:=grownCap_ge w (n+m) c e;have I:=grownCap_le_maxLen w (n+m) c e (by unfold maxLen;omega);unfold maxLen at I
  have x0:cs.length=n*k:=by rw[h9,x1]
  have h0:(cs.toArray++jK z.cells m++jK z.cells (grownCap w (n+m) c e-(n+m)))=(cs++(jK z.cells m).toList++(jK z.cells (grownCap w (n+m) c e-(n+m))).toList).toArray:=by
   apply Array.ext';simp
  rw[h0]at H;refine⟨_,_,pX own g w.heap.size (w.heap.size+1),H,.inr ⟨w.heap.size,_,_,rfl,pY _ _ _ _ _ (mR _) (by omega),ak.new w e _,?_,hy,I,by rw[tT];omega,?_,?_⟩,?_⟩
  ·rw[tT,tT,E.hz,E.hz,x0]
   have:(grownCap w (n+m) c e-(n+m))*k+(n+m)*k=grownCap w (n+m) c e*k:=by rw[<-Nat.add_mul];congr 1;omega
   omega
  ·rw[List.take_append_of_le_length (by rw[tT];omega),List.take_of_length_le (by rw[tT];omega),h9]
  ·intro u F
   rcases qa4.1 F with F|F
   ·rcases qa4.1 F with F|F
    ·exact he u F
    ·exact E.h1 _ u F
   ·exact E.h1 _ u F
  ·have G:Below w.heap.size w (w.drew.alloc (.cells (cs++(jK z.cells m).toList++(jK z.cells (grownCap w (n+m) c e-(n+m))).toList).toArray e)):=(uj _ w).drew.alloc (mR _) _;exact⟨G.os,G.tape,G.output,G.size,fun b U _=>G.block b U,fun b U=>mg _ _ _ _ _ U⟩
 rcases h with⟨rfl,rfl,rfl⟩|⟨b,cap,cs,rfl,ho,hB,h2,h3,h4,h5,h6,h7⟩
 ·exact grow none 0 [] rfl (by omega) (.inl ⟨rfl,rfl⟩) (fun v hv=>by simp at hv)
 ·by_cases X:n+m<=cap
  ·have x5:(n+m)*k<=cap*k:=ZE _ X;have hf:=bW (P:=prog) (w:=w) (o:=n*k) hB (jK z.cells m).toList (by omega) (E.h1 _)
   have H:∀O,(DJ #[t,3] O #[.slice (some ⟨b,0,none⟩) n cap,.int .i64 m]).run prog w=.ok (.slice (some ⟨b,0,none⟩) (n+m) cap) (put w b (splice cs (n*k) (jK z.cells m).toList)):=fun O=>by
    have hw:IntKind.i64.wrap (m:Int)=m:=by rw[IntKind.wrap_i64];omega
    have ha:¬((m:Int)<0):=by omega
    have Z:¬(281474976710656<(m:Int)*(i.bytes:Int)):=by
     rw[hb,<-Int.natCast_mul];omega
    have x2:¬(m*i.size=0):=Nat.mul_ne_zero (by omega) (by omega);rw[<-hs]at hf ⊢;simp[DJ,run_underlying E.ht,run_underlying hx,sizeOf,typeInfo,zeroValue,hi,hz,asInt,asIntOf,hw,X,ha,x2,Z,KG,hf]
   have x3:=dR cs (jK z.cells m).toList (n*k) (by omega);refine⟨_,_,own,H,.inr ⟨b,cap,_,rfl,ho,hB.put _,?_,X,h4,by rw[tT];omega,?_,aS h7 (E.h1 _)⟩,?_⟩
   ·rw[aG _ _ _ (by omega)];exact h2
   ·rw[hk,<-x4,x3,h6]
   ·have hg:=aT w b (splice cs (n*k) (jK z.cells m).toList);exact⟨hg.os,hg.tape,hg.output,hg.size,fun j V hn=>hg.block j V (fun e=>by simp at e;rw[e,ho]at hn;simp at hn),fun _ _=>rfl⟩
  ·exact grow (some ⟨b,0,none⟩) cap l rfl (by omega) (.inr ⟨_,rfl,h5,fun j u V=>by
    rw[KG,qa8,hB.cell];rw[<-h6,wz]at V;split at V
    ·exact V
    ·cases V⟩) (fun u F=>h7 u (by rw[<-h6]at F;exact CK F))
theorem Wu(m:Nat):(jK (Bu .u8 0).cells m).toList=aJ (qa6 m 0):=by
 apply qa2
 ·rw[nZ,aR,List.length_replicate]
 ·intro i h1 F
  have e:i % 1=0:=by omega
  simp[jK,Vh,aJ,e]
theorem Wv(m:Nat):(jK (tL false).cells m).toList=eU (qa6 m false):=by
 apply qa2
 ·rw[zO];simp[eU]
 ·intro i h1 F
  have e:i % 1=0:=by omega
  simp[jK,Vh,eU,e]
theorem GN(x:Option Fr):∃(g:Fr) (b:Bool),iI x=.tuple #[bJ g (.slice none 0 0),.bool b]:=by
 cases x with
 |none=>exact⟨dW,false,rfl⟩
 |some g=>exact⟨g,true,rfl⟩
theorem BL(S o:Nat)(m:bI)(vh vc:Value)(k:Nat)(h8:k<8)(room:Int)(w:World)(l:List Value)(hB:ak w S TS l)(h:uN l o m vh vc)(ok:Q8 m):
  Calls prog 257 #[.pointer (some ⟨S,o,none⟩),.int .i64 k,.int .i64 room] w fun e w'=>
   e=.returned (iI ((m.gr.next 6 k m.free room).map Prod.fst))/\∃l',cu w w' S l l' o 4/\pU l' o (((m.gr.next 6 k m.free room).map Prod.snd).getD m.gr):=by
 have Z:=hB.lt;obtain⟨W,O⟩:∃W,W=w.alloc (.cells kD.toArray 65):=⟨_,rfl⟩
 have hb:ak W w.heap.size 65 kD:=by rw[O];exact ak.new w 65 _
 have F:Below w.heap.size w W:=by rw[O];exact(uj _ w).alloc (mR _) _
 have G:=hB.of_heap (F.block _ Z)
 have HF:Hid (∀q,Calls prog 310 #[.pointer (some ⟨S,o,none⟩)] (W.drewN q) fun e w'=>e=.returned (.int .u64 m.free)/\w'=W.drewN q):=fun q=>Bb S o m vh vc (W.drewN q) l G h
 generalize hX:m.gr.next 6 k m.free room=X at *;obtain⟨g,b,I⟩:=GN (X.map Prod.fst)
 have U:Hid (∀q,Calls prog 254 #[.pointer (some ⟨S,o,none⟩),bJ (iq 6 k 0) (.slice none 0 0),.int .u64 m.free,.int .i64 room] (W.drewN q) fun e w'=>e=.returned (.tuple #[bJ g (.slice none 0 0),.bool b])/\ak w' w.heap.size 65 kD/\Hid (∃l',cu w w' S l l' o 4/\pU l' o ((X.map Prod.snd).getD m.gr))):=fun q=>by
  refine(Jp S o m.gr 6 (.inr rfl) k h8 m.free room (W.drewN q) l G h.gr ok.gr.1 ok.free).mono ?_;rintro e w' ⟨rfl,l',h1,V⟩;rw[hX]at *;refine⟨by rw[I],h1.other hb (by omega),l',?_,V⟩;exact cu.after (W:=W.drewN q) ⟨F.os,F.tape,F.output,F.size,F.block⟩ h1
 generalize m.free=FR at *;rw[I];clear I hX hb F G h ok;unfold bJ iq at U;unfold kD at O;go_enter func257,ntmps257
 go_wp2_with fail
 rw[<-O];clear O
 go_region_with (first|(go_at_call 310;refine(HF.out _).mono ?_;rintro e y ⟨rfl,rfl⟩)|(go_at_call 254;refine(U.out _).mono ?_;rintro e y ⟨rfl,H,HP⟩;obtain⟨y0,y1,y2,y3,y4,y5,y6,y7,y8,y9,yf⟩:=aA H;have qX:=hid H;clear H U HF))
 go_wp2_with fail
 go_simp;rw[dw];have gU:=bY qX.out (.int .i64 g.kind) (.int .i64 g.stream) (.int .u64 g.offset) (.int .u64 g.reliable) (.int .u64 g.limit) (.bool g.fin) (.int .u64 g.id) (.int .u64 g.deadline) (.string g.data) (.slice none 0 0);have l7:=bZ y w.heap.size (.int .i64 g.kind) (.int .i64 g.stream) (.int .u64 g.offset) (.int .u64 g.reliable) (.int .u64 g.limit) (.bool g.fin) (.int .u64 g.id) (.int .u64 g.deadline) (.string g.data) (.slice none 0 0);generalize gZ y w.heap.size (.int .i64 g.kind) (.int .i64 g.stream) (.int .u64 g.offset) (.int .u64 g.reliable) (.int .u64 g.limit) (.bool g.fin) (.int .u64 g.id) (.int .u64 g.deadline) (.string g.data) (.slice none 0 0)=Wf at *;obtain⟨a0,a1,a2,a3,a4,a5,a6,a7,a8,a9,_⟩:=aA gU;obtain⟨l',h1,V⟩:=HP.out;exact bodyPost_ret (v:=.tuple #[bJ g (.slice none 0 0),.bool b]) (by simp[results,results257,go_sem,a0,a1,a2,a3,a4,a5,a6,a7,a8,a9,bJ]) rfl ⟨rfl,l',h1.tch l7 (mR _) (by omega),V⟩
def isA(f:Fr):Bool:=decide (f.kind=2)||decide (f.kind=7)||decide (f.kind=8)
theorem Wo(f:Fr)(rv:Value)(w:World):Calls prog 273 #[bJ f rv] w fun e w'=>e=.returned (.bool (isA f))/\Below w.heap.size w w':=by
 unfold isA bJ
 by_cases F:f.kind=2
 ·have I:(f.kind==(2:Int))=true:=by simp[F]
  rw[decide_eq_true F];go_enter func273,ntmps273;go_wp2;go_ret;exact⟨rfl,(uj _ w).alloc (mR _) _⟩
 ·have I:(f.kind==(2:Int))=false:=by simp[F]
  rw[decide_eq_false F]
  by_cases G:f.kind=7
  ·have O:(f.kind==(7:Int))=true:=by simp[G]
   rw[decide_eq_true G];go_enter func273,ntmps273;go_wp2;go_ret;exact⟨rfl,(uj _ w).alloc (mR _) _⟩
  ·have O:(f.kind==(7:Int))=false:=by simp[G]
   rw[decide_eq_false G]
   by_cases H:f.kind=8
   ·have U:(f.kind==(8:Int))=true:=by simp[H]
    rw[decide_eq_true H];go_enter func273,ntmps273;go_wp2;go_ret;exact⟨rfl,(uj _ w).alloc (mR _) _⟩
   ·have U:(f.kind==(8:Int))=false:=by simp[H]
    rw[decide_eq_false H];go_enter func273,ntmps273;go_wp2;go_ret;exact⟨rfl,(uj _ w).alloc (mR _) _⟩
theorem bn.some{e:TypeId}{k:Nat}{w:World}{a:Option Addr}{n c:Nat}{l:List Value}(h:bn e k w (.slice a n c) n l)(G:0<n):∃g cs,a=some ⟨g,0,none⟩/\ak w g e cs/\cs.length=c*k/\n<=c/\c<=9223372036854775807/\cs.take (n*k)=l/\∀v∈cs,v.oneCell'=true:=by
 rcases h with⟨_,F,_⟩|⟨g,cap,cs,h1,h2,h3,h4,h5,_,h7,h8⟩
 ·omega
 ·simp only[Value.slice.injEq,true_and]at h1;obtain⟨rfl,rfl⟩:=h1;exact⟨g,cs,rfl,h2,h3,h4,h5,h7,h8⟩
theorem KA(fa:Option Addr)(L:List FV)(O:Nat)(w:World)(hl:L.length<=100000)(h0:0<L.length)(hF:Rd 10 w (.slice fa L.length O) L.length (lS L)):
  Calls prog 212 #[.slice fa L.length O] w fun e w'=>∃a c,e=.returned (.slice a (L.filter fun x=> !isA x.1).length c)/\bn 65 10 w' (.slice a (L.filter fun x=> !isA x.1).length c) (L.filter fun x=> !isA x.1).length (lS (L.filter fun x=> !isA x.1))/\jA w.heap.size (.slice a (L.filter fun x=> !isA x.1).length c)/\Below w.heap.size w w':=by
 have V:=hid (Gi _ _ _ w hF (by omega));have h6:(L.filter fun x=> !isA x.1).length<=L.length:=List.length_filter_le _ _
 have X:Hid (∀(b c:Nat) (cs:List Value) (W:World),L.length<=c->ak W b 65 cs->L.length*10<=cs.length->cs.take (L.length*10)=lS L->(∀v∈cs,v.oneCell'=true)->Calls prog 151 #[.slice (some ⟨b,0,none⟩) L.length c,.func (.func 273) #[] #[]] W fun e w'=>∃F,e=.returned (.slice (some ⟨b,0,none⟩) (L.filter fun x=> !isA x.1).length c)/\ak w' b 65 F/\F.length=cs.length/\F.take ((L.filter fun x=> !isA x.1).length*10)=lS (L.filter fun x=> !isA x.1)/\(∀v∈F,v.oneCell'=true)/\W.grownBy w' (some b)):=fun b c cs W h1 h2 h3 h4 h5=>
  yZ 273 #[] #[] (fun x=>isA x.1) b L.length c L cs W (enters_of func273 (by kernel_rfl) rfl) rfl hl h1 h2 h3 h4 h5 (fun j _ W=>Wo _ _ W)
 have I:=oz (L.filter fun x=> !isA x.1);generalize (L.filter fun x=> !isA x.1)=K at *;generalize L.length=n at *;clear hF;go_enter func212,ntmps212
 go_wp2_with (first
  |(go_at_call 272;refine V.out.mono ?_;rintro e w1 ⟨a,c,rfl,hG,hO,H⟩;obtain⟨g,cs,rfl,g1,U,g3,g4,g5,g6⟩:=bn.some hG h0)
  |(go_at_call 151;refine(X.out g c cs w1 g3 g1 (by rw[U];omega) g5 g6).mono ?_;rintro e w2 ⟨F,rfl,Z,d2,d3,d4,G⟩)
  |go_in)
 go_ret;have h7:w.heap.size<=g:=hO g rfl;refine⟨_,c,rfl,.inr ⟨g,c,F,rfl,Z,by rw[d2,U],by omega,g4,I,d3,d4⟩,fun x hx=>?_,H.trans ⟨G.os,G.tape,G.output,G.size,fun k hk=>G.block k (by have:=H.size;omega) (fun e=>by cases e;omega)⟩⟩;simp[Gl]at hx;omega
end Go.Proofs.YtphbledmopchnaaGreatDoor.Sd
