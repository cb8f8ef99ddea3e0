import Derived.Test.YtphbledmopchnaaGreatDoorKec
import Derived.Test.YtphbledmopchnaaGreatDoorKga
import Derived.Deep.MidRow
open Array renaming getElem?_eq_some_iff->tT,length_toList->Bu
open Go.RowKit.Below renaming refl->mR,heap_alloc->uj
open List renaming length_take->wz
open Nat renaming le_refl->jK,lt_of_lt_of_le->nI,not_lt_zero->Gl,le_of_lt->Kt
open Go.Value renaming ownBlock->tL,int->CK
set_option maxHeartbeats 8000000
set_option maxRecDepth 100000
namespace Go.Proofs.YtphbledmopchnaaGreatDoor.Sd
open Go.RowKit Go.Lib Mm Tryz
theorem rF(S:Nat)(y:Nat)(w:World)(c:w.cell? ⟨S,238,none⟩=some (.int .i64 y)):
  Calls prog 137 #[.pointer (some ⟨S,0,none⟩)] w fun e w'=>e=.returned (.bool (decide (y=0)))/\w'=w:=by
 go_enter func137,ntmps137;go_wp2;go_ret;refine⟨congrArg (fun b=>Ending.returned (.bool b)) ?_,rfl⟩;rw[Bool.eq_iff_iff];simp
theorem oF(n a b:Int)(w:World):Calls prog 185 #[.int .i64 n,.int .i64 a,.int .i64 b] w fun e w'=>e=.returned (.bool (decide (a<=n/\n<=b)))/\w'=w:=by
 by_cases h1:a<=n
 ·by_cases F:n<=b
  ·rw[decide_eq_true (show a<=n/\n<=b from⟨h1,F⟩)];go_enter func185,ntmps185;go_wp2;go_ret;exact⟨rfl,rfl⟩
  ·rw[decide_eq_false (show¬(a<=n/\n<=b)from fun h=>F h.2)];go_enter func185,ntmps185;go_wp2;go_ret;exact⟨rfl,rfl⟩
 ·rw[decide_eq_false (show¬(a<=n/\n<=b)from fun h=>h1 h.1)];go_enter func185,ntmps185;go_wp2;go_ret;exact⟨rfl,rfl⟩
theorem tN(S k:Nat)(H:k<8)(w:World)(c:w.cell? ⟨S,238,none⟩=some (.int .i64 ((0:Nat):Int))):
  Calls prog 146 #[.pointer (some ⟨S,0,none⟩),.int .i64 k] w fun e w'=>e=.returned (.tuple #[.pointer (some ⟨S,4+27*k,none⟩),.nilIface])/\w'=w:=by
 have G:=hid (rF S 0 w c);have F:=hid (oF (k:Int) 0 7 w);rw[decide_eq_true (show(0:Int)<=(k:Int)/\(k:Int)<=7 by omega)]at F;go_enter func146,ntmps146
 go_wp2_with (first
  |(go_at_call 137;refine G.out.mono ?_;rintro e w' ⟨rfl,rfl⟩)
  |(go_at_call 185;refine F.out.mono ?_;rintro e w' ⟨rfl,rfl⟩)
  |go_in)
 go_ret2;rw[Nat.mul_comm 27 k];exact⟨rfl,rfl⟩
theorem bM.open{own:Own}{s:Nat}{w:World}{S:Nat}{l:List Value}{M:Side}{bw bl bi:Nat}{vc:Value}(h:bM own s w S l M bw bl bi vc)(F:M.why=0):w.cell? ⟨S,238,none⟩=some (.int .i64 ((0:Nat):Int)):=by
 rw[h.blk.cell,h.cells.j_,F]
theorem Sz(own:Own)(s:Nat)(S:Nat)(l:List Value)(M:Side)(bw bl bi:Nat)(vc:Value)(k:Nat)(H:k<8)(bs:List UInt8)(a:Addr)(c:Nat)(w:World)(h:bM own s w S l M bw bl bi vc)(U:M.why=0)(hl:(M.out k).bytes.length<=2048)(G:BytesAt w (some a) bs)(F:bs.length<=1000000000):
  Calls prog 108 #[.pointer (some ⟨S,0,none⟩),.int .i64 k,.slice (some a) bs.length c] w fun e w'=>e=.returned (l9 ((M.out k).send bs).2)/\fQ s own w S bw bl bi (M.aW k ((M.out k).send bs).1) w':=by
 have O:=hid (tN S k H w (h.open U));have I:=hid ((R9 s (s+1+5*k) own S (4+27*k) (M.out k) bs a c l w h.blk h.ow (by omega) (h.out k H) hl G F).mono fun e w' (q:_/\_)=>(⟨q.1,h.aW k H _ q.2⟩:e=.returned (l9 ((M.out k).send bs).2)/\fQ s own w S bw bl bi (M.aW k ((M.out k).send bs).1) w'));go_enter func108,ntmps108
 go_wp2_with (first
  |(go_at_call 146;refine O.out.mono ?_;rintro e w' ⟨rfl,rfl⟩)
  |(go_at_call 147;refine I.out.mono ?_;rintro e w' ⟨rfl,hq⟩)
  |go_in)
 go_ret;exact⟨rfl,hq⟩
theorem KR(own:Own)(s:Nat)(S:Nat)(l:List Value)(M:Side)(bw bl bi:Nat)(vc:Value)(k:Nat)(F:k<8)(w:World)(h:bM own s w S l M bw bl bi vc)(I:M.why=0):
  Calls prog 109 #[.pointer (some ⟨S,0,none⟩),.int .i64 k] w fun e w'=>e=.returned (l9 (M.out k).finish.2)/\fQ s own w S bw bl bi (M.aW k (M.out k).finish.1) w':=by
 have H:=hid (tN S k F w (h.open I));have G:=hid ((Kl s (s+1+5*k) own S (4+27*k) (M.out k) l w h.blk h.ow (by omega) (h.out k F)).mono fun e w' (q:_/\_)=>(⟨q.1,h.aW k F _ q.2⟩:e=.returned (l9 (M.out k).finish.2)/\fQ s own w S bw bl bi (M.aW k (M.out k).finish.1) w'));go_enter func109,ntmps109
 go_wp2_with (first
  |(go_at_call 146;refine H.out.mono ?_;rintro e w' ⟨rfl,rfl⟩)
  |(go_at_call 148;refine G.out.mono ?_;rintro e w' ⟨rfl,hq⟩)
  |go_in)
 go_ret;exact⟨rfl,hq⟩
theorem xC(l:List Value)(j:Nat)(v:Value)(h:l[j]?=some v):l.set j v=l:=by
 refine List.ext_getElem? fun i=>?_
 by_cases e:j=i
 ·subst e;rw[aN l j v v h,h]
 ·rw[aj l j i v e]
theorem Gz(g:Nat)(p k:Array Value)(w:World)(O:∀args w,(callFunc g args).run prog w=.ok (.enter g args) w):
  Calls prog 151 #[.slice none 0 0,.func (.func g) p k] w fun e w'=>e=.returned (.slice none 0 0)/\Below w.heap.size w w':=by
 have H:=hid (wU g p k (fun _=>false) none [] 0 w O (by decide) (fun j G=>absurd G (Gl _)) (fun j G=>absurd G (Gl _)));have I:tJ (fun _=>false) []= -1:=rfl;rw[I]at H;go_enter func151,ntmps151
 go_wp2_with (go_at_call 190;refine H.out.mono ?_;rintro e w1 ⟨rfl,F⟩)
 go_ret;exact⟨rfl,F⟩
theorem BD(own:Own)(s:Nat)(S:Nat)(l:List Value)(M:Side)(bw bl bi:Nat)(vc:Value)(tk:Nat)(w:World)(h:bM own s w S l M bw bl bi vc):
  Calls prog 113 #[.pointer (some ⟨S,233,none⟩),.int .u64 tk] w fun e w'=>e=.returned (.tuple #[])/\fQ s own w S bw bl bi M w':=by
 have h0:∀(fn:Fn) (first cap:Array Value) (w:World),(Instr.makeFunc fn first cap).run prog w=.ok (.func fn first cap) w:=fun _ _ _ _=>rfl
 obtain⟨W,U⟩:∃W,W=w.alloc (.cells #[.int .u64 tk] 43):=⟨_,rfl⟩
 have G:Below w.heap.size w W:=by rw[U];exact(mR _ w).alloc (jK _) _
 have O:=h.below G
 have c0:w.cell? ⟨S,233,none⟩=some (.slice none 0 0):=by rw[h.blk.cell];exact h.cells.c233
 have Z:=h.blk.lt;have V:=hid (Gz 152 #[] #[.pointer (some ⟨w.heap.size,0,none⟩)] W (enters_of func152 (by kernel_rfl) rfl))
 have X:Hid (∀w1,Below W.heap.size W w1->w1.frozen? ⟨S,233,none⟩=false/\w1.cell? ⟨S,233,none⟩=some (.slice none 0 0)/\fQ s own w S bw bl bi M (w1.setCell ⟨S,233,none⟩ (.slice none 0 0))):=fun w1 h1=>by
  have F:=O.below h1;refine⟨F.blk.frozen 233,by rw[F.blk.cell];exact F.cells.c233,?_⟩;have q:=cu.one F.blk 233 (.slice none 0 0) 233 1 (jK _) (by omega);rw[xC l 233 _ F.cells.c233]at q;obtain⟨o',l',v',a,b⟩:=F.cell 233 1 (by omega) q F.cells rfl rfl rfl rfl rfl;exact⟨o',l',v',a,(Kp.below (G.trans (h1.mono G.size))).trans b⟩
 clear O G h;go_enter func113,ntmps113
 go_wp2_with (go_at_call 151;rw[<-U];refine V.out.mono ?_;rintro e w1 ⟨rfl,I⟩;obtain⟨f1,f2,H⟩:=X.out w1 I;have H:=hid H)
 go_end0;exact⟨rfl,H.out⟩
theorem SF(own:Own)(s:Nat)(S:Nat)(l:List Value)(M:Side)(bw bl bi:Nat)(vc:Value)(w:World)(h:bM own s w S l M bw bl bi vc)(ht:M.tick+1<18446744073709551616):
  Calls prog 66 #[.pointer (some ⟨S,0,none⟩)] w fun e w'=>e=.returned (.tuple #[])/\fQ s own w S bw bl bi M.ticks w':=by
 have c3:w.cell? ⟨S,3,none⟩=some (.int .u64 M.tick):=by rw[h.blk.cell];exact h.cells.c3
 have f3:=h.blk.frozen 3
 have hw:IntKind.u64.wrap ((M.tick:Int)+1)=((M.tick+1:Nat):Int):=by
  rw[IntKind.wrap_u64];omega
 obtain⟨W,G⟩:∃W,W=w.setCell ⟨S,3,none⟩ (.int .u64 ((M.tick+1:Nat):Int)):=⟨_,rfl⟩
 have F:Hid (fQ s own w S bw bl bi M.ticks W):=by
  rw[G];have q:=cu.one h.blk 3 (.int .u64 ((M.tick+1:Nat):Int)) 3 1 (jK _) (by omega);have c:=h.cells
  have e:∀j,j≠3->(l.set 3 (.int .u64 ((M.tick+1:Nat):Int)))[j]?=l[j]?:=fun j V=>aj l 3 j _ (Ne.symm V)
  refine h.cell 3 1 (by omega) q ⟨q.win.1.trans c.len,by rw[e _ (by omega)];exact c.c0,by rw[e _ (by omega)];exact c.c1,by rw[e _ (by omega)];exact c.c2,aN l 3 _ _ c.c3,by rw[e _ (by omega)];exact c.mh,c.gr.win q.win (by omega),
   by rw[e _ (by omega)];exact c.nP,by rw[e _ (by omega)];exact c.c226,by rw[e _ (by omega)];exact c.c227,by rw[e _ (by omega)];exact c.c228,by rw[e _ (by omega)];exact c.c229,by rw[e _ (by omega)];exact c.j6,by rw[e _ (by omega)];exact c.mY,by rw[e _ (by omega)];exact c.c232,by rw[e _ (by omega)];exact c.c233,
   by rw[e _ (by omega)];exact c.c234,by rw[e _ (by omega)];exact c.mZ,by rw[e _ (by omega)];exact c.c236,by rw[e _ (by omega)];exact c.oO,by rw[e _ (by omega)];exact c.j_,by rw[e _ (by omega)];exact c.oP⟩ rfl rfl rfl rfl rfl
 have k3:W.cell? ⟨S,3,none⟩=some (.int .u64 ((M.tick+1:Nat):Int)):=by
  obtain⟨o',l',v',a,b⟩:=F.out;rw[a.blk.cell];exact a.cells.c3
 have H:Hid (∀q,Calls prog 113 #[.pointer (some ⟨S,233,none⟩),.int .u64 ((M.tick+1:Nat):Int)] (W.drewN q) fun e w'=>e=.returned (.tuple #[])/\fQ s own w S bw bl bi M.ticks w'):=fun q=>by
  obtain⟨o',l',v',a,b⟩:=F.out;have O:bM o' s (W.drewN q) S l' M.ticks bw bl bi v':=a.below (lG (mR _ W));refine(BD o' s S l' M.ticks bw bl bi v' (M.tick+1) (W.drewN q) O).mono ?_;rintro e w' ⟨rfl,X,l2,Z,U,b3⟩;exact⟨rfl,X,l2,Z,U,(b.drewN q).trans b3⟩
 clear h F ht;generalize M.tick+1=tk at *;go_enter func66,ntmps66;go_wp2;rw[<-G];clear G
 go_region_with (go_at_call 113;refine(H.out _).mono ?_;rintro e w1 ⟨rfl,I⟩)
 go_end0;exact⟨rfl,I⟩
section
theorem mG(C S:Nat)(w:World)(hc:w.cell? ⟨C,0,none⟩=some (.pointer (some ⟨S,0,none⟩))):
  Calls prog 65 #[.pointer (some ⟨C,0,none⟩)] w fun e w'=>e=.returned (.pointer (some ⟨S,0,none⟩))/\w'=w:=by
 go_enter func65,ntmps65;go_wp2;go_ret;exact⟨rfl,rfl⟩
section
variable (C S:Nat) (w:World) (hc:w.cell? ⟨C,0,none⟩=some (.pointer (some ⟨S,0,none⟩)))
 include hc
theorem Ua(R:World->Prop)(h:Calls prog 66 #[.pointer (some ⟨S,0,none⟩)] w fun e w'=>e=.returned (.tuple #[])/\R w'):Calls prog 38 #[.pointer (some ⟨C,0,none⟩)] w fun e w'=>e=.returned (.tuple #[])/\R w':=by
 have H:=hid (mG C S w hc);have G:=hid h;clear h hc;go_enter func38,ntmps38
 go_wp2_with (first
  |(go_at_call 65;refine H.out.mono ?_;rintro e w' ⟨rfl,U⟩;have F:=U.symm;subst F)
  |(go_at_call 66;refine G.out.mono ?_;rintro e w' ⟨rfl,O⟩;have I:=hid O))
 go_end0;exact⟨rfl,I.out⟩
theorem Ub(k:Int)(v:Value)(R:Value->World->Prop)(h:Calls prog 108 #[.pointer (some ⟨S,0,none⟩),.int .i64 k,v] w fun e w'=>∃x,e=.returned x/\R x w'):Calls prog 61 #[.pointer (some ⟨C,0,none⟩),.int .i64 k,v] w fun e w'=>∃x,e=.returned x/\R x w':=by
 have H:=hid (mG C S w hc);have G:=hid h;clear h hc;go_enter func61,ntmps61
 go_wp2_with (first
  |(go_at_call 65;refine H.out.mono ?_;rintro e w' ⟨rfl,U⟩;have F:=U.symm;subst F)
  |(go_at_call 108;refine G.out.mono ?_;rintro e w' ⟨x,rfl,O⟩;have I:=hid O))
 go_ret;exact⟨_,rfl,I.out⟩
theorem Ma(k:Int)(R:Value->World->Prop)(h:Calls prog 109 #[.pointer (some ⟨S,0,none⟩),.int .i64 k] w fun e w'=>∃x,e=.returned x/\R x w'):Calls prog 62 #[.pointer (some ⟨C,0,none⟩),.int .i64 k] w fun e w'=>∃x,e=.returned x/\R x w':=by
 have H:=hid (mG C S w hc);have G:=hid h;clear h hc;go_enter func62,ntmps62
 go_wp2_with (first
  |(go_at_call 65;refine H.out.mono ?_;rintro e w' ⟨rfl,U⟩;have F:=U.symm;subst F)
  |(go_at_call 109;refine G.out.mono ?_;rintro e w' ⟨x,rfl,O⟩;have I:=hid O))
 go_ret;exact⟨_,rfl,I.out⟩
theorem He(R:Value->World->Prop)(h:Calls prog 114 #[.pointer (some ⟨S,0,none⟩)] w fun e w'=>∃x,e=.returned x/\R x w'):Calls prog 68 #[.pointer (some ⟨C,0,none⟩)] w fun e w'=>∃x,e=.returned x/\R x w':=by
 have H:=hid (mG C S w hc);have G:=hid h;clear h hc;go_enter func68,ntmps68
 go_wp2_with (first
  |(go_at_call 65;refine H.out.mono ?_;rintro e w' ⟨rfl,U⟩;have F:=U.symm;subst F)
  |(go_at_call 114;refine G.out.mono ?_;rintro e w' ⟨x,rfl,O⟩;have I:=hid O))
 go_ret;exact⟨_,rfl,I.out⟩
theorem Hf(v:Value)(R:Value->World->Prop)(h:Calls prog 104 #[.pointer (some ⟨S,0,none⟩),v] w fun e w'=>∃x,e=.returned x/\R x w'):Calls prog 56 #[.pointer (some ⟨C,0,none⟩),v] w fun e w'=>∃x,e=.returned x/\R x w':=by
 have H:=hid (mG C S w hc);have G:=hid h;clear h hc;go_enter func56,ntmps56
 go_wp2_with (first
  |(go_at_call 65;refine H.out.mono ?_;rintro e w' ⟨rfl,U⟩;have F:=U.symm;subst F)
  |(go_at_call 104;refine G.out.mono ?_;rintro e w' ⟨x,rfl,O⟩;have I:=hid O))
 go_ret;exact⟨_,rfl,I.out⟩
theorem Uc(k most:Int)(R:Value->Value->Value->World->Prop)(h:Calls prog 140 #[.pointer (some ⟨S,0,none⟩),.int .i64 k,.int .i64 most] w fun e w'=>∃x y z,e=.returned (.tuple #[x,y,z])/\R x y z w'):Calls prog 106 #[.pointer (some ⟨C,0,none⟩),.int .i64 k,.int .i64 most] w fun e w'=>∃x y z,e=.returned (.tuple #[x,y,z])/\R x y z w':=by
 have H:=hid (mG C S w hc);have G:=hid h;clear h hc;go_enter func106,ntmps106
 go_wp2_with (first
  |(go_at_call 65;refine H.out.mono ?_;rintro e w' ⟨rfl,U⟩;have F:=U.symm;subst F)
  |(go_at_call 140;refine G.out.mono ?_;rintro e w' ⟨x,y,z,rfl,O⟩;have I:=hid O))
 refine bodyPost_ret (v:=.tuple #[x,y,z]) (by simp[results,results106,go_sem]) rfl ?_;exact⟨_,_,_,rfl,I.out⟩
end

theorem BR(own:Own)(s:Nat)(S:Nat)(l:List Value)(M:Side)(bw bl bi:Nat)(vc:Value)(w:World)(h:bM own s w S l M bw bl bi vc):
  Calls prog 105 #[.pointer (some ⟨S,0,none⟩)] w fun e w'=>e=.returned (.slice none 0 0)/\fQ s own w S bw bl bi M w':=by
 have c0:w.cell? ⟨S,235,none⟩=some (.slice none 0 0):=by rw[h.blk.cell];exact h.cells.mZ
 have f0:=h.blk.frozen 235
 have F:Hid (fQ s own w S bw bl bi M (w.setCell ⟨S,235,none⟩ (.slice none 0 0))):=by
  have q:=cu.one h.blk 235 (.slice none 0 0) 235 1 (jK _) (by omega);rw[xC l 235 _ h.cells.mZ]at q;exact h.cell 235 1 (by omega) q h.cells rfl rfl rfl rfl rfl
 clear h;go_enter func105,ntmps105;go_wp2;go_ret;exact⟨rfl,F.out⟩
theorem BU(C S:Nat)(w:World)(hc:w.cell? ⟨C,0,none⟩=some (.pointer (some ⟨S,0,none⟩)))(R:World->Prop)(h:Calls prog 105 #[.pointer (some ⟨S,0,none⟩)] w fun e w'=>e=.returned (.slice none 0 0)/\R w'):Calls prog 57 #[.pointer (some ⟨C,0,none⟩)] w fun e w'=>e=.returned (.slice none 0 0)/\R w':=by
 have H:=hid (mG C S w hc);have G:=hid h;clear h hc;go_enter func57,ntmps57
 go_wp2_with (first
  |(go_at_call 65;refine H.out.mono ?_;rintro e w' ⟨rfl,U⟩;have F:=U.symm;subst F)
  |(go_at_call 105;refine G.out.mono ?_;rintro e w' ⟨rfl,O⟩;have I:=hid O))
 go_ret;exact⟨rfl,I.out⟩
end
theorem eql3(w:World):(binOp .eql 94 (.iface 57 (.int .i64 3)) (.iface 57 (.int .i64 3))).run prog w=.ok (.bool true) w:=by kernel_rfl
theorem eql4(w:World):(binOp .eql 94 (.iface 57 (.int .i64 4)) (.iface 57 (.int .i64 4))).run prog w=.ok (.bool true) w:=by kernel_rfl
def Hg(e:Nat):Prop:=e=0\/e=3\/e=4\/e=7
theorem Ee(e:Nat)(G:Hg e)(w:World)(F:dP w):Calls prog 42 #[l9 e] w fun r w'=>r=.returned (.tuple #[.int .i64 e,.int .i64 (-1)])/\Below w.heap.size w w':=by
 rcases G with rfl|rfl|rfl|rfl
 ·exact rV w
 ·exact mF 3 eql3 w F
 ·exact mF 4 eql4 w F
 ·exact mF 7 eql7 w F
theorem xY(e:Nat)(G:Hg e)(w:World)(F:dP w):Calls prog 60 #[l9 e] w fun r w'=>r=.returned (.int .i64 e)/\Below w.heap.size w w':=um (l9 e) e (-1) w _ (Ee e G w F)
theorem Ud(o:Ot)(b:List UInt8):Hg (o.send b).2:=by
 unfold Ot.send Hg;split
 ·exact .inr (.inr (.inl rfl))
 ·split
  ·exact .inr (.inl rfl)
  ·exact .inl rfl
theorem Mc(o:Ot):Hg o.finish.2:=by
 unfold Ot.finish Hg;split
 ·exact .inr (.inr (.inl rfl))
 ·exact .inl rfl
theorem Md(own:Own)(s:Nat)(C S:Nat)(l:List Value)(M:Side)(bw bl bi:Nat)(vc:Value)(k:Nat)(hk:k<8)(w:World)(h:bM own s w S l M bw bl bi vc)(U:w.cell? ⟨C,0,none⟩=some (.pointer (some ⟨S,0,none⟩)))(X:M.why=0)(F:dP w)(O:own 0∉T0 s):
  Calls prog 35 #[.pointer (some ⟨C,0,none⟩),.int .i64 k] w fun e w'=>e=.returned (.int .i64 ((M.out k).finish.2:Int))/\fQ s own w S bw bl bi (M.aW k (M.out k).finish.1) w':=by
 have Z:Hid (Calls prog 62 #[.pointer (some ⟨C,0,none⟩),.int .i64 k] w fun e w'=>∃x,e=.returned x/\x=l9 (M.out k).finish.2/\fQ s own w S bw bl bi (M.aW k (M.out k).finish.1) w'):=
  Ma C S w U k (fun x w'=>x=l9 (M.out k).finish.2/\fQ s own w S bw bl bi (M.aW k (M.out k).finish.1) w') ((KR own s S l M bw bl bi vc k hk w h X).mono fun e w' V=>⟨_,V.1,rfl,V.2⟩)
 have G:0<w.heap.size:=World.block_lt_of_cell? w ⟨0,0,none⟩ (by unfold dP at F;rw[F])
 have HN:Hid (∀w1,fQ s own w S bw bl bi (M.aW k (M.out k).finish.1) w1->Calls prog 60 #[l9 (M.out k).finish.2] w1 fun r w'=>r=.returned (.int .i64 ((M.out k).finish.2:Int))/\fQ s own w S bw bl bi (M.aW k (M.out k).finish.1) w'):=fun w1 hq=>by
  obtain⟨o1,l1,v1,g1,I⟩:=hq;refine(xY _ (Mc _) w1 (cell_of F (I.blk 0 G O))).mono ?_;rintro e w' ⟨rfl,hb⟩;exact⟨rfl,o1,l1,v1,g1.below hb,I.eP hb⟩
 clear h U X F O;generalize (M.out k).finish.2=en at *;go_enter func35,ntmps35
 go_wp2_with (first
  |(go_at_call 62;refine Z.out.mono ?_;rintro e w1 ⟨x,rfl,rfl,hq⟩)
  |(go_at_call 60;refine(HN.out _ hq).mono ?_;rintro e w2 ⟨rfl,H⟩))
 go_ret;exact⟨rfl,H⟩
def uo(s t:Nat)(own:Own)(S o:Nat)(l:List Value)(w:World)(m':bI)(w':World)(v:Value):Prop:=
 ∃own' l',Kp [s,t,t+1] own own' w w'/\ak w' S TS l'/\iH l l' o 13/\zL own' t w' l' o m'/\∀b,v.ownBlock=some b->own' b=0
theorem uo.drewN{s t:Nat}{own:Own}{S o:Nat}{l:List Value}{w w':World}{m:bI}{v:Value}(h:uo s t own S o l w m w' v)(q:Nat):uo s t own S o l w m (w'.drewN q) v:=by
 obtain⟨own',l',h1,F,G,H,I⟩:=h;exact⟨own',l',h1.drewN q,F,G,H.kp (Kp.below (w':=w'.drewN q) (T:=[]) ⟨rfl,rfl,rfl,jK _,fun _ _=>rfl⟩) (by simp) (by simp) (iH.refl l' (o+13) 0) (by omega),I⟩
def Pt(s:Nat)(own:Own)(w:World)(S:Nat)(bw bl bi:Nat)(M':Side)(w':World)(v:Value):Prop:=∃own' l' F,bM own' s w' S l' M' bw bl bi F/\Kp (T0 s) own own' w w'/\∀b,v.ownBlock=some b->own' b=0
theorem Uf(s t:Nat)(own:Own)(S o n:Nat)(m:bI)(l:List Value)(w:World)(hB:ak w S TS l)(hS:own S=s)(xn:0<s)(xo:s<t)(hO:zL own t w l o m)(x1:1<=n)(hn:n<=m.held.length)(hw:m.came.length=m.held.length)(hl:m.held.length<=1000000)(hr:m.read+n<=aU):
  Calls prog 238 #[.pointer (some ⟨S,o,none⟩),.int .i64 n] w fun e w'=>∃a c,e=.returned (.slice a n c)/\bn 5 1 w' (.slice a n c) n (aJ (m.held.take n))/\jA w.heap.size (.slice a n c)/\uo s t own S o l w (m.cut n) w' (.slice a n c):=by
 obtain⟨ow,G⟩:∃ow,ow=loc own w.heap.size:=⟨_,rfl⟩
 have I:ow S=s:=by rw[G,fH _ _ _ hB.lt,hS]
 have Vn:zL ow t w l o m:=by rw[G];exact hO.loc
 obtain⟨vh,vc,k1,k2,k3⟩:=Vn;obtain⟨ah,ch,rfl,xa,_⟩:=k2.shape;obtain⟨ac,cc,rfl,x9,_⟩:=k3.shape;have xi:=hB.lt;obtain⟨i5,x0,x4,he,hu⟩:=info_parts info5;have ha:=run_makeSlice (P:=prog) w 60 5 i5 _ u29 x0 x4 .i64 .i64 (n:Int) (n:Int) (by omega) (Int.le_refl _) (by rw[he];omega) (by rw[hu];omega) (by omega);obtain⟨ZA,h8⟩:∃ZA,ZA=madeCells (CK .u8 0).cells ((n:Int).toNat*i5.size):=⟨_,rfl⟩
 have x5:ZA.toList.length=n:=by
  rw[h8,Bu,size_madeCells,he];omega
 rw[<-h8]at ha;obtain⟨W1,Z⟩:∃W1,W1=w.alloc (.cells ZA 5):=⟨_,rfl⟩;rw[<-Z]at ha;simp only[Int.toNat_natCast]at ha
 have h9:ak W1 w.heap.size 5 ZA.toList:=by rw[Z];exact ak.new w 5 _
 have jq:Below w.heap.size w W1:=by rw[Z];exact(mR _ w).alloc (jK _) _
 have xj:W1.heap.size=w.heap.size+1:=by rw[Z];simp
 have h6:=hB.of_heap (jq.block _ xi);have x6:=k2.kp (Kp.below (T:=[]) jq) (by simp)
 obtain⟨g,hg⟩:∃g,ah=some ⟨g,0,none⟩:=by
  rcases k2 with⟨h1,h2,_⟩|⟨g,cap,cs,hv,_⟩
  ·omega
  ·simp at hv;exact⟨g,hv.1⟩
 subst hg
 have hx:=fun ty=>fE (P:=prog) (w:=W1) 60 60 ty 5 (g:=w.heap.size) (o:=0) (dLen:=n) (dCap:=n) h9 ⟨g,0,none⟩ m.held.length ch 1 n (aJ (m.held.take n)) u29 (by kernel_rfl) (by show min m.held.length n=n;omega) (by rw[aR];simp;omega) (fun j v hj=>by
  rw[Addr.add_lit,Nat.zero_add]
  obtain⟨g',xd,_,_,hc,_⟩:=x6.cell j v (by
   have xe:(aJ m.held)[j]?=some v:=by
    have:(aJ (m.held.take n))=(aJ m.held).take n:=by simp[aJ]
    rw[this,List.getElem?_take]at hj;split at hj
    ·exact hj
    ·cases hj
   exact xe)
  cases xd
  exact hc) (by rw[x5,aR];simp;omega) (dB _)
 have x2:splice ZA.toList 0 (aJ (m.held.take n))=aJ (m.held.take n):=by
  have xf:(aJ (m.held.take n)).length=n:=by rw[aR];simp;omega
  unfold splice;rw[List.take_zero,xf,List.drop_of_length_le (by omega)];simp
 rw[x2]at hx;obtain⟨W2,h0⟩:∃W2,W2=put W1 w.heap.size (aJ (m.held.take n)):=⟨_,rfl⟩
 have Pv:ak W2 w.heap.size 5 (aJ (m.held.take n)):=by rw[h0];exact h9.put _
 have h5:jD w.heap.size W1 W2:=by rw[h0];exact⟨rfl,rfl,rfl,by simp[put],fun k hk=>dQ _ _ _ _ hk⟩
 have F:=h5.below jq (jK _);have U:=h6.of_heap (h5.block _ (by omega));have Yb:=k2.kp (Kp.below (T:=[]) F) (by simp);have Yc:=k3.kp (Kp.below (T:=[]) F) (by simp);rw[<-h0]at hx
 have d5:W1.cell? ⟨S,o+5,none⟩=some (.slice (some ⟨g,0,none⟩) m.held.length ch):=by rw[h6.cell];exact k1.c5
 have e5:W2.cell? ⟨S,o+5,none⟩=some (.slice (some ⟨g,0,none⟩) m.held.length ch):=by rw[U.cell];exact k1.c5
 have HD:=hid (NN ow t n m.held (some ⟨g,0,none⟩) ch W2 x1 hn hl Yb);have HK:=hid (And.intro U (And.intro k1 (And.intro Yc (And.intro Pv F))));have HH:=hid (And.intro I G)
 have h4:ow w.heap.size=0:=by rw[G,eT _ _ _ (jK _)]
 have xp:W2.heap.size=w.heap.size+1:=by rw[h5.size,xj]
 have g1:((n:Int)==0)=false:=by simp;omega
 have g2:(0:Int)<=(n:Int):=by omega
 clear k1 k2 k3 x6 Yb Yc hB h6 U h9 Pv jq F h5 x2 hO I G h0 xa x9 x5 x0 x4 he hu h8 Z;have za:=hid hw;clear hw;go_enter func238,ntmps238
 go_wp2_with fail
 refine HD.out.mono ?_;rintro e y ⟨a1,c1,rfl,V,H⟩;obtain⟨U,k1,k3,Pv,F⟩:=HK.out;obtain⟨I,G⟩:=HH.out;have Bz:=aK U H (by rw[I];simp;omega);have Pw:=aK Pv H (by rw[h4];simp;omega);have x7:=k3.kp H (by simp)
 have d5:y.cell? ⟨S,o+5,none⟩=some (.slice (some ⟨g,0,none⟩) m.held.length ch):=by rw[Bz.cell];exact k1.c5
 have d6:y.cell? ⟨S,o+6,none⟩=some (.slice ac m.came.length cc):=by rw[Bz.cell];exact k1.c6
 have f5:=Bz.frozen (o+5);have hy:=cu.one Bz (o+5) (.slice a1 (m.held.length-n) c1) o 13 (by omega) (by omega);obtain⟨Y1,h7⟩:∃Y1,Y1=y.setCell ⟨S,o+5,none⟩ (.slice a1 (m.held.length-n) c1):=⟨_,rfl⟩;rw[<-h7]at hy;have O:=hy.kp I (T:=[s]) (by simp);have hm:=hid (NP ow (t+1) n m.came ac cc Y1 x1 (by rw[za.out];exact hn) (by rw[za.out];exact hl) (x7.kp O (by simp;omega)));have Nw:=hid (And.intro hy (And.intro (V.kp O (by simp;omega)) (And.intro (aK Pw O (by rw[h4];simp;omega)) (And.intro H O))));clear U k3 Pv Bz Pw x7 V H hy O e5 HD
 go_wp2_with fail
 rw[<-h7];clear h7 d5 d6 f5;refine hm.out.mono ?_;rintro e z ⟨a2,c2,rfl,ho,X⟩;obtain⟨hy,V,Pw,H,O⟩:=Nw.out;have iC:=aK hy.blk X (by rw[I];simp;omega);have Yd:=aK Pw X (by rw[h4];simp);have i1:=Dt k1 (.slice a1 (m.held.length-n) c1) (m.held.drop n)
 have d6:z.cell? ⟨S,o+6,none⟩=some (.slice ac m.came.length cc):=by rw[iC.cell];exact i1.c6
 have d4:z.cell? ⟨S,o+4,none⟩=some (.int .u64 m.read):=by rw[iC.cell];exact i1.c4
 have ff:=fun j=>iC.frozen j
 have HF:Hid (bn 5 1 ((z.setCell ⟨S,o+6,none⟩ (.slice a2 (m.came.length-n) c2)).setCell ⟨S,o+4,none⟩ (.int .u64 ((m.read+n:Nat):Int))) (.slice (some ⟨w.heap.size,0,none⟩) n n) n (aJ (m.held.take n))/\jA w.heap.size (.slice (some ⟨w.heap.size,0,none⟩) n n)/\uo s t own S o l w (m.cut n) ((z.setCell ⟨S,o+6,none⟩ (.slice a2 (m.came.length-n) c2)).setCell ⟨S,o+4,none⟩ (.int .u64 ((m.read+n:Nat):Int))) (.slice (some ⟨w.heap.size,0,none⟩) n n)):=by
  have x3:=cu.one iC (o+6) (.slice a2 (m.came.length-n) c2) o 13 (by omega) (by omega);have hf:=x3.trans (cu.one x3.blk (o+4) (.int .u64 ((m.read+n:Nat):Int)) o 13 (by omega) (by omega));have h3:=hf.kp I (T:=[s]) (by simp);have x8:=aK Yd h3 (by rw[h4];simp;omega);refine⟨.inr ⟨w.heap.size,n,_,rfl,x8,by rw[aR,wz];omega,jK _,by omega,by rw[aR,wz];omega,by rw[Nat.mul_one];exact List.take_of_length_le (by rw[aR,wz];omega),dB _⟩,fun k hk=>by simp[tL]at hk;omega,?_⟩
  have hK:Kp [s,t,t+1] ow ow w ((z.setCell ⟨S,o+6,none⟩ (.slice a2 (m.came.length-n) c2)).setCell ⟨S,o+4,none⟩ (.int .u64 ((m.read+n:Nat):Int))):=
   ((((Kp.below F).trans (H.mono (by simp))).trans (O.mono (by simp))).trans (X.mono (by simp))).trans (h3.mono (by simp))
  rw[G]at hK;refine⟨_,_,hK.iN,hf.blk,hy.win.trans hf.win,⟨.slice a1 (m.held.length-n) c1,.slice a2 (m.came.length-n) c2,NT (Du i1 (.slice a2 (m.came.length-n) c2) (m.came.drop n)) (m.read+n),?_,?_⟩,fun b hb=>by simp[tL]at hb;rw[<-hb];exact eT _ _ _ (jK _)⟩
  ·have:=(V.kp X (by simp)).kp h3 (by simp;omega);rw[G]at this;exact this
  ·have:=ho.kp h3 (by simp;omega);rw[G]at this;exact this
 rw[show((m.read+n:Nat):Int)=(m.read:Int)+(n:Int) by omega]at HF
 have xl:m.read+n<18446744073709551616:=by unfold aU at hr;omega
 have xm:n<18446744073709551616:=by omega
 clear hy V Pw H O iC Yd i1 ho X k1 F Nw hm I G HH HK hr;go_wp2;go_ret;exact⟨_,_,rfl,HF.out⟩
theorem Px(s t:Nat)(own:Own)(S o n:Nat)(m:bI)(l:List Value)(w:World)(hB:ak w S TS l)(U:own S=s)(G:0<s)(H:s<t)(I:zL own t w l o m)(X:n<=m.held.length)(F:m.came.length=m.held.length)(hl:m.held.length<=1000000)(Z:m.read+n<=aU):
  Calls prog 238 #[.pointer (some ⟨S,o,none⟩),.int .i64 n] w fun e w'=>∃a c,e=.returned (.slice a n c)/\bn 5 1 w' (.slice a n c) n (aJ (m.held.take n))/\jA w.heap.size (.slice a n c)/\uo s t own S o l w (m.cut n) w' (.slice a n c):=by
 by_cases O:n=0
 ·subst O;refine(Sw S o w).mono ?_;rintro e w' ⟨rfl,rfl⟩;exact⟨none,0,rfl,.inl ⟨rfl,rfl,by simp[aJ]⟩,fun k V=>by simp[tL]at V,by rw[Oj];exact⟨own,l,Kp.refl _ _ _,hB,iH.refl _ _ _,I,fun b hb=>by simp[tL]at hb⟩⟩
 ·exact Uf s t own S o n m l w hB U G H I (by omega) X F hl Z
theorem Py(s t:Nat)(own:Own)(S o:Nat)(most:Int)(m:bI)(l:List Value)(w:World)(hB:ak w S TS l)(hS:own S=s)(ha:0<s)(h5:s<t)(hO:zL own t w l o m)(ok:Q8 m)(hr:m.read+m.held.length<=aU):
  Calls prog 184 #[.pointer (some ⟨S,o,none⟩),.int .i64 most] w fun e w'=>∃a c,e=.returned (.tuple #[.slice a (m.rd most).1.length c,.int .i64 ((m.rd most).2.state:Int)])/\bn 5 1 w' (.slice a (m.rd most).1.length c) (m.rd most).1.length (aJ (m.rd most).1)/\jA w.heap.size (.slice a (m.rd most).1.length c)/\uo s t own S o l w (m.rd most).2 w' (.slice a (m.rd most).1.length c):=by
 have h8:=hB.lt;obtain⟨vh,vc,k1,k2,k3⟩:=hO;have Sr:=hid (NQ own (t+1) S o m vh vc l w hB k1 k3 (by rw[ok.cl];exact ok.hl))
 have h9:m.ready<=m.held.length:=by rw[<-ok.cl];exact wT m.came
 obtain⟨n,hn⟩:∃n,n=min m.ready (max most 0).toNat:=⟨_,rfl⟩;obtain⟨x1,he,Zn⟩:=XD most 0;obtain⟨x2,hf,Zo⟩:=Nq (m.ready:Int) x1
 obtain rfl:x2=(n:Int):=by omega
 have h0:(m.held.take n).length=n:=by simp;omega
 have sG:Hid ((m.rd most).1=m.held.take n):=by unfold Hid;rw[hn];rfl
 have F:Hid ((m.rd most).2={m.cut n with state:=if(m.cut n).state=0 then(m.cut n).reached else(m.cut n).state}):=by unfold Hid;rw[hn];rfl
 generalize m.rd most=X at *;rw[sG.out,h0];have HC:=hid (Px s t own S o n m l w hB hS ha h5 ⟨vh,vc,k1,k2,k3⟩ (by omega) ok.cl ok.hl (by omega));have G:Hid ((m.cut n).state=m.state):=rfl;generalize m.cut n=M at *;generalize m.ready=RD at *;clear hn Zn Zo h9 hB k1 k2 k3 hr ok
 by_cases Hr:m.state=0
 ·rw[G.out,if_pos Hr]at F;go_enter func184,ntmps184
  go_wp2_with fail
  refine Sr.out.mono ?_;rintro e y ⟨rfl,rfl⟩
  go_wp2_with fail
  refine HC.out.mono ?_;rintro e z ⟨a,c,rfl,O,hF,aF,l1,h1,I,h3,h4,hz⟩;obtain⟨vh,vc,i1,i2,i3⟩:=h4;have H:z.cell? ⟨S,o+12,none⟩=some (.int .i64 M.state):=V7 S o M vh vc z l1 I i1;rw[G.out,Hr]at H;have V:=hid (FY S o M vh vc z l1 I i1)
  have HK:Hid (∀q,uo s t own S o l y {M with state:=M.reached} ((z.drewN q).setCell ⟨S,o+12,none⟩ (.int .i64 M.reached)) (.slice a n c)/\bn 5 1 ((z.drewN q).setCell ⟨S,o+12,none⟩ (.int .i64 M.reached)) (.slice a n c) n (aJ (m.held.take n))):=fun q=>by
   have h7:aF S=s:=by rw[h1.ext _ h8,hS]
   have h6:zL aF t (z.drewN q) l1 o M:=zL.kp ⟨vh,vc,i1,i2,i3⟩ (Kp.below (w':=z.drewN q) (T:=[]) ⟨rfl,rfl,rfl,jK _,fun _ _=>rfl⟩) (by simp) (by simp) (iH.refl l1 (o+13) 0) (by omega);obtain⟨aL,l2,g1,g2,g3,g4⟩:=Sy (w:=z.drewN q) I h7 h5 h6 (o+12) (.int .i64 M.reached) (by omega) (by omega) (m':={M with state:=M.reached}) (fun _ _ h=>Kv h _) rfl rfl;exact⟨⟨aL,l2,(h1.drewN q).trans g1,g2,h3.trans g3,g4,fun b hb=>by rw[g1.ext b (O.lt b hb),hz b hb]⟩,O.of_heap (fun b hb=>Below.heap_setCell _ _ _ _ (by have:=hF b hb;simp;omega))⟩
  have f12:=I.frozen (o+12);have HF:=hid hF;clear h1 I h3 i1 i2 i3 O hF Hr hz;generalize M.reached=R at *
  go_wp2_with fail
  refine V.out.mono ?_;rintro e v ⟨rfl,q,rfl⟩;have U:=hid (HK.out q);have hc:(z.drewN q).cell? ⟨S,o+12,none⟩=some (.int .i64 0):=H;have ef:(z.drewN q).frozen? ⟨S,o+12,none⟩=false:=f12;generalize z.drewN q=Z at *;clear H f12 V HK HC Sr
  go_wp2_with fail
  go_quiet (fail)
  go_wp2;go_ret2;refine⟨a,c,Ol rfl (by rw[F.out]),?_,HF.out,?_⟩
  ·exact bn.of_heap U.out.2 (fun _ _=>rfl)
  ·rw[F.out];exact uo.drewN U.out.1 _
 ·rw[G.out,if_neg Hr]at F
  have rG:((m.state:Int)==0)=false:=by simp;omega
  have HM:Hid (({M with state:=m.state}:bI)=M):=by unfold Hid;rw[<-G.out]
  go_enter func184,ntmps184
  go_wp2_with fail
  refine Sr.out.mono ?_;rintro e y ⟨rfl,rfl⟩
  go_wp2_with fail
  refine HC.out.mono ?_;rintro e z ⟨a,c,rfl,O,hF,hQ⟩;obtain⟨aF,l1,h1,I,h3,h4,hz⟩:=hQ;have HQ:Hid (uo s t own S o l y M z (.slice a n c)):=⟨aF,l1,h1,I,h3,h4,hz⟩;obtain⟨vh,vc,i1,i2,i3⟩:=h4;have H:z.cell? ⟨S,o+12,none⟩=some (.int .i64 M.state):=V7 S o M vh vc z l1 I i1;rw[G.out]at H;have HG:=hid (And.intro O hF);clear h1 I h3 i1 i2 i3 O hF Hr HC Sr hz
  go_wp2_with fail
  go_quiet (fail)
  go_wp2;go_ret2;refine⟨a,c,Ol rfl (by rw[F.out]),?_,HG.out.2,?_⟩
  ·exact bn.of_heap HG.out.1 (fun _ _=>rfl)
  ·rw[F.out,HM.out];exact uo.drewN HQ.out _
theorem bM.Ye{own:Own}{s:Nat}{w w':World}{S:Nat}{l:List Value}{M:Side}{bw bl bi:Nat}{vc:Value}(h:bM own s w S l M bw bl bi vc)(k:Nat)(U:k<8)(m:bI)(v:Value)(q:uo s (s+4+5*k) own S (18+27*k) l w m w' v):Pt s own w S bw bl bi (M.bP k m) w' v:=by
 obtain⟨own',l',K,hB,wi,O,hz⟩:=q
 have F:∀x,x∈[s,s+4+5*k,s+4+5*k+1]->x=s\/(s+4+5*k<=x/\x<=s+5+5*k):=fun x I=>by
  simp only[List.mem_cons,List.not_mem_nil,or_false]at I;omega
 have V:∀j,(M.bP k m).inn j=if j=k then m else M.inn j:=fun j=>by
  rw[fM,h.li]
  by_cases G:j=k
  ·rw[if_pos ⟨G,U⟩,if_pos G]
  ·rw[if_neg (fun x=>G x.1),if_neg G]
 refine⟨own',l',vc,⟨by rw[K.ext S h.blk.lt,h.ow],h.s0,hB,?_,fun j G=>?_,fun j G=>?_,h.row.kp K (fun e=>by have:=F _ e;omega),h.way.kp K (fun e=>by have:=F _ e;omega) (fun e=>by have:=F _ e;omega),h.lost.kp K (fun e=>by have:=F _ e;omega) (fun e=>by have:=F _ e;omega),h.lo,(fu _ _ _).trans h.li⟩,K.mono fun x I=>bG.2 (by have:=F x I;omega),hz⟩
 ·have c:=h.cells.win wi (by omega) (by omega);exact⟨c.len,c.c0,c.c1,c.c2,c.c3,c.mh,c.gr,c.nP,c.c226,c.c227,c.c228,c.c229,c.j6,c.mY,c.c232,c.c233,c.c234,c.mZ,c.c236,c.oO,c.j_,c.oP⟩
 ·exact(h.out j G).kp K (fun e=>by have:=F _ e;omega) (fun e=>by have:=F _ e;omega) (fun e=>by have:=F _ e;omega) wi (by omega)
 ·rw[V]
  by_cases H:j=k
  ·subst H;rw[if_pos rfl];exact O
  ·rw[if_neg H];exact(h.inn j G).kp K (fun e=>by have:=F _ e;omega) (fun e=>by have:=F _ e;omega) wi (by omega)
theorem Pz(own:Own)(s:Nat)(S:Nat)(l:List Value)(M:Side)(bw bl bi:Nat)(vc:Value)(k:Nat)(I:k<8)(most:Int)(w:World)(h:bM own s w S l M bw bl bi vc)(Z:M.why=0)(ok:Q8 (M.inn k))(V:(M.inn k).read+(M.inn k).held.length<=aU):
  Calls prog 140 #[.pointer (some ⟨S,0,none⟩),.int .i64 k,.int .i64 most] w fun e w'=>∃a c,e=.returned (.tuple #[.slice a ((M.inn k).rd most).1.length c,.int .i64 (((M.inn k).rd most).2.state:Int),.nilIface])/\bn 5 1 w' (.slice a ((M.inn k).rd most).1.length c) ((M.inn k).rd most).1.length (aJ ((M.inn k).rd most).1)/\jA w.heap.size (.slice a ((M.inn k).rd most).1.length c)/\Pt s own w S bw bl bi (M.bP k ((M.inn k).rd most).2) w' (.slice a ((M.inn k).rd most).1.length c):=by
 have O:=hid (tN S k I w (h.open Z))
 have F:18+27*k=4+27*k+14:=by omega
 have G:=Py s (s+4+5*k) own S (18+27*k) most (M.inn k) l w h.blk h.ow h.s0 (by omega) (h.inn k I) ok V;rw[F]at G
 have H:∀w' v,uo s (s+4+5*k) own S (4+27*k+14) l w ((M.inn k).rd most).2 w' v->Pt s own w S bw bl bi (M.bP k ((M.inn k).rd most).2) w' v:=fun w' v q=>h.Ye k I _ v (by rw[F];exact q)
 replace G:=hid G;replace H:=hid H;generalize (M.inn k).rd most=X at *;go_enter func140,ntmps140
 go_wp2_with (first
  |(go_at_call 146;refine O.out.mono ?_;rintro e w' ⟨rfl,rfl⟩)
  |(go_at_call 184;refine G.out.mono ?_;rintro e w' ⟨a,c,rfl,h1,U,hq⟩)
  |go_in)
 go_ret3
 exact⟨a,c,rfl,h1,U,H.out _ _ hq⟩
theorem MC(w:World):Calls prog 143 #[] w fun e w'=>∃b,e=.returned (.agg #[.slice none 0 0,.int .u64 0,.map (some b)])/\Below w.heap.size w w':=by
 have F:=@run_makeMap prog;go_enter func143,ntmps143;go_wp2;exact bodyPost_ret (v:=.agg #[.slice none 0 0,.int .u64 0,.map (some (w.heap.size+1))]) (by simp[results,results143,go_sem]) rfl ⟨_,rfl,((mR _ w).alloc (jK _) _).alloc (by simp) _⟩
theorem QB(aH window total:Nat)(U:64<=aH/\aH<=400)(V:16<=window/\window<=4096)(ht:16<=total/\total<=4096)(w:World):
  Calls prog 141 #[.agg #[.int .i64 aH,.int .i64 window,.int .i64 total]] w fun e w'=>e=.returned (.bool true)/\Below w.heap.size w w':=by
 have H:Hid (∀y,Calls prog 185 #[.int .i64 aH,.int .i64 64,.int .i64 400] y fun e w'=>e=.returned (.bool true)/\w'=y):=fun y=>by
  have:=oF (aH:Int) 64 400 y;rwa[decide_eq_true (by omega)]at this
 have I:Hid (∀y,Calls prog 185 #[.int .i64 window,.int .i64 16,.int .i64 4096] y fun e w'=>e=.returned (.bool true)/\w'=y):=fun y=>by
  have:=oF (window:Int) 16 4096 y;rwa[decide_eq_true (by omega)]at this
 have O:Hid (∀y,Calls prog 185 #[.int .i64 total,.int .i64 16,.int .i64 4096] y fun e w'=>e=.returned (.bool true)/\w'=y):=fun y=>by
  have:=oF (total:Int) 16 4096 y;rwa[decide_eq_true (by omega)]at this
 clear U V ht;go_enter func141,ntmps141
 go_wp2_with (first
  |(go_at_call_has 185 (CK .i64 aH);refine(H.out _).mono ?_;rintro e y ⟨rfl,G⟩;have F:=G.symm;subst F)
  |(go_at_call_has 185 (CK .i64 window);refine(I.out _).mono ?_;rintro e y ⟨rfl,G⟩;have F:=G.symm;subst F)
  |(go_at_call_has 185 (CK .i64 total);refine(O.out _).mono ?_;rintro e y ⟨rfl,G⟩;have F:=G.symm;subst F))
 go_ret;exact⟨rfl,(mR _ w).alloc (jK _) _⟩
section
theorem UU{c:Code}{K:Act->World->Prop}{X:Exit->Act->World->Prop}{a:Act}{w:World}(act:Nat->Nat->Nat->Nat->Array Value->Act)(R:Nat->Nat->Nat->Nat->Array Value->World->Prop)(h:c.wp prog (Exit.then (fun V w'=>∃G H I O U,V=act G H I O U/\R G H I O U w') fun _ _ _=>False) a w)(hk:∀G H I O U w',R G H I O U w'->K (act G H I O U) w'):c.wp prog (Exit.then K X) a w:=
 wp_mono h fun e V w' F=>by
  cases e with
  |normal=>obtain⟨G,H,I,O,U,rfl,Z⟩:=F;exact hk _ _ _ _ _ _ Z
  |ret=>exact F.elim
  |exit i=>exact F.elim
  |goto i=>exact F.elim
  |panic c=>exact F.elim
  |outgrown=>exact F.elim
theorem jL{z y:World}(h:Below z.heap.size z y):Below z.heap.size z y.drew:=⟨h.os,h.tape,h.output,h.size,h.block⟩
theorem jM{z y:World}(o:Obj)(h:Below z.heap.size z y):Below z.heap.size z (y.alloc o):=h.alloc h.size o
theorem QF{Y:World}(z:World)(h:Below (z.alloc (.map #[] 0)).heap.size (z.alloc (.map #[] 0)) Y):Y.heap[z.heap.size]?=some (.map #[] 0):=(h.block _ (by simp)).trans (World.alloc_heap_new z _)
theorem UW{Y:World}(z:World)(o:Obj)(h:Below ((z.alloc o).alloc (.map #[] 0)).heap.size ((z.alloc o).alloc (.map #[] 0)) Y):Y.heap[z.heap.size+1]?=some (.map #[] 0):=by
 have:=QF (z.alloc o) h;rwa[World.size_alloc]at this
def ZR(aH window total:Nat)(F:World)(S bw bl bi:Nat)(A:Array Value)(w':World):Prop:=
 ∃Y,w'=Y.alloc (.cells A 210)/\S=Y.heap.size/\UQ aH window total bw bl bi A/\Below F.heap.size F Y/\Y.heap[bw]?=some (.map #[] 0)/\Y.heap[bl]?=some (.map #[] 0)/\bw≠bl/\F.heap.size<=bw/\F.heap.size<=bl
def YB(aH window total F:Nat)(S bw bl bi:Nat)(A:Array Value):Act:={tmps:=#[.agg #[.int .i64 aH,.int .i64 window,.int .i64 total],.pointer (some ⟨F,0,none⟩),.pointer none,.nilIface,.pointer (some ⟨S,0,none⟩),undef,.agg #[.int .i64 aH,.int .i64 window,.int .i64 total],.bool true,.bool false,undef,.agg #[.int .i64 aH,.int .i64 window,.int .i64 total],.pointer (some ⟨F,2,none⟩),.int .i64 total,.int .u64 (IntKind.u64.wrap (total:Int)),.pointer (some ⟨F,2,none⟩),.int .i64 total,.agg #[.int .u64 total,.int .u64 total,.int .u64 0,.int .u64 total],.agg #[.int .i64 8,.int .u64 0,.slice none 0 0],.map (some bw),.map (some bl),.agg #[.slice none 0 0,.int .u64 0,.map (some bi)],.agg A,.pointer (some ⟨S,0,none⟩),undef,undef,undef,undef,undef,undef,undef,undef,undef,undef,undef,undef,undef,undef,undef,undef,undef],defers:=[]}
theorem pF(R:Nat):∀(vs:List Value) (j:Nat) (y:World),y.setCells R j vs=jE R j vs y
 |[],_,_=>rfl
 |v::vs,j,y=>by
  show(y.setCell ⟨R,j,none⟩ v).setCells R (j+1) vs=jE R (j+1) vs (y.setCell ⟨R,j,none⟩ v);exact pF R vs (j+1) _
theorem UY(y:World)(S o window:Nat)(h:y.there S o 27):(storeVar 200 ⟨S,o,none⟩ (.agg #[.slice none 0 0,.bool false,.bool false,.int .u64 0,.int .u64 0,.int .u64 0,.int .u64 window,.int .u64 0,.int .i64 2049,.int .u64 0,.slice none 0 0,.int .i64 2049,.int .u64 0,.slice none 0 0,.int .u64 window,.int .u64 window,.int .u64 0,.int .u64 window,.int .u64 0,.slice none 0 0,.slice none 0 0,.int .u64 0,.bool false,.int .u64 0,.bool false,.int .u64 0,.int .i64 0])).run prog y=.ok () (jE S o (jk window++vC window) y):=by
 rw[<-pF];exact run_storeVar_mid y S o 200 (jk window++vC window).toArray h (by kernel_rfl) (by simp[Value.oneCell'])
attribute [-go_sem] storeVar
theorem Xn(own:Own)(s:Nat)(hs:0<s)(aH window total:Nat)(hm:64<=aH/\aH<=400)(hw:16<=window/\window<=4096)(ht:16<=total/\total<=4096)(w:World):
  Calls prog 107 #[.agg #[.int .i64 aH,.int .i64 window,.int .i64 total]] w fun e w'=>∃S bw bl bi own' l vc,e=.returned (.tuple #[.pointer (some ⟨S,0,none⟩),.nilIface])/\bM own' s w' S l (Side.new aH window total) bw bl bi vc/\Kp [] own own' w w'/\∀b,w.heap.size<=b->own' b=s\/own' b=s+42\/own' b=s+43\/own' b=0:=by
 have x3:=@run_makeMap prog;have hc:=hid (fun y=>QB aH window total hm hw ht y)
 have HG:Hid (∀y,Calls prog 142 #[.int .i64 total] y fun e y'=>e=.returned (.agg #[.int .u64 total,.int .u64 total,.int .u64 0,.int .u64 total])/\∀z:World,Below z.heap.size z y->Below z.heap.size z y'):=fun y=>(zR total ht.2 y).mono fun e y' hh=>⟨hh.1,fun z hz=>hz.trans (hh.2.mono hz.size)⟩
 have HS:Hid (∀y,Calls prog 126 #[.int .i64 8] y fun e y'=>e=.returned (.agg #[.int .i64 8,.int .u64 0,.slice none 0 0])/\∀z:World,Below z.heap.size z y->Below z.heap.size z y'):=fun y=>(I8 8 y).mono fun e y' hh=>⟨hh.1,fun z hz=>hz.trans (hh.2.mono hz.size)⟩
 have HI:Hid (∀y,Calls prog 143 #[] y fun e y'=>∃b,e=.returned (.agg #[.slice none 0 0,.int .u64 0,.map (some b)])/\∀z:World,Below z.heap.size z y->Below z.heap.size z y'):=fun y=>(MC y).mono fun e y' ⟨b,h1,h2⟩=>⟨b,h1,fun z hz=>hz.trans (h2.mono hz.size)⟩
 obtain⟨W0,h0⟩:∃W0,W0=w.alloc (.cells #[.int .i64 aH,.int .i64 window,.int .i64 total] 45):=⟨_,rfl⟩
 have h8:ak W0 w.heap.size 45 [.int .i64 aH,.int .i64 window,.int .i64 total]:=by rw[h0];exact ak.new w 45 _
 have zl:w.heap.size<W0.heap.size:=h8.lt
 have h7:Below w.heap.size w W0:=by rw[h0];exact(mR _ w).alloc (jK _) _
 go_enter func107,ntmps107
 go_wp2_with (go_at_call 141;rw[<-h0];refine(hc.out W0).mono ?_;rintro e I ⟨rfl,F⟩)
 have O:=h8.of_heap (F.block _ zl);have G:w.heap.size<I.heap.size:=O.lt;have c0:I.cell? ⟨w.heap.size,0,none⟩=some (.int .i64 aH):=O.cell 0;have c1:I.cell? ⟨w.heap.size,1,none⟩=some (.int .i64 window):=O.cell 1;have c2:I.cell? ⟨w.heap.size,2,none⟩=some (.int .i64 total):=O.cell 2
 have HC:Hid (∀y:World,Below I.heap.size I y->y.cell? ⟨w.heap.size,0,none⟩=some (.int .i64 aH)/\y.cell? ⟨w.heap.size,1,none⟩=some (.int .i64 window)/\y.cell? ⟨w.heap.size,2,none⟩=some (.int .i64 total)/\w.heap.size<y.heap.size):=fun y hb=>
  ⟨cell_of c0 (hb.block _ G),cell_of c1 (hb.block _ G),cell_of c2 (hb.block _ G),nI G hb.size⟩
 have Ki:=hid (And.intro O (h7.trans (F.mono h7.size)));clear h8 O hc h0 h7 F;have hv:Below I.heap.size I I:=mR _ _;refine UU (YB aH window total w.heap.size) (ZR aH window total I) ?_ (fun S bw bl bi A w2 hR=>?_)
 ·go_region_held3 (fun y=>y.cell? ⟨w.heap.size,0,none⟩=some (.int .i64 aH)/\y.cell? ⟨w.heap.size,1,none⟩=some (.int .i64 window)/\y.cell? ⟨w.heap.size,2,none⟩=some (.int .i64 total)/\w.heap.size<y.heap.size) ((go_keep<;>(first|omega|(rw[World.size_alloc];omega))))
   ((first
    |(go_at_call 142;refine(HG.out _).mono ?_;rintro e X ⟨rfl,hb⟩;have H:Below I.heap.size I X:=hb _ (by repeat(first|assumption|refine jM _ ?_|refine jL ?_));have hsz:=H.size;have V:=(hb _ (mR _ _)).size;(try simp at V);obtain⟨d0,d1,d2,d3⟩:=HC.out X H)
    |(go_at_call 126;refine(HS.out _).mono ?_;rintro e X ⟨rfl,hb⟩;have H:Below I.heap.size I X:=hb _ (by repeat(first|assumption|refine jM _ ?_|refine jL ?_));have hsz:=H.size;have V:=(hb _ (mR _ _)).size;(try simp at V);obtain⟨d0,d1,d2,d3⟩:=HC.out X H)
    |(go_at_call 143;refine(HI.out _).mono ?_;rintro e X ⟨b,rfl,hb⟩;have H:Below I.heap.size I X:=hb _ (by repeat(first|assumption|refine jM _ ?_|refine jL ?_));have hsz:=H.size;have V:=(hb _ (mR _ _)).size;(try simp at V);obtain⟨d0,d1,d2,d3⟩:=HC.out X H)))
  all_goals refine⟨_,_,_,_,_,rfl,_,rfl,(by first|rfl|simp),rfl,(by repeat(first|assumption|refine jM _ ?_|refine jL ?_)),?_,?_,?_,?_,?_⟩
  all_goals first
   |omega
   |exact QF _ (by repeat(first|exact mR _ _|assumption|refine jM _ ?_|refine jL ?_|refine(by assumption:∀z:World,Below z.heap.size z _->Below z.heap.size z _) _ ?_))
   |exact UW _ (.map #[] 0) (by repeat(first|exact mR _ _|assumption|refine jM _ ?_|refine jL ?_|refine(by assumption:∀z:World,Below z.heap.size z _->Below z.heap.size z _) _ ?_))
 ·obtain⟨Y,rfl,rfl,hA,Rh,m1,m2,h4,l1,l2⟩:=hR;have hf:A.size=240:=(hA.cells ht.2).1;have HO:=hid (fun y=>Sj window hw.2 y);have HN:=hid (fun y=>Wm window hw.2 y);have hV:(jk window++vC window).length=27:=rfl;obtain⟨W3,h6⟩:∃W3,W3=Y.alloc (.cells A 210):=⟨_,rfl⟩
  have he:Hid (ak W3 Y.heap.size TS (CF A.toList (jk window++vC window) 0)/\W3.heap[bw]?=some (.map #[] 0)/\W3.heap[bl]?=some (.map #[] 0)/\ak W3 w.heap.size 45 [.int .i64 aH,.int .i64 window,.int .i64 total]/\Below w.heap.size w W3/\w.heap.size<Y.heap.size/\bw<Y.heap.size/\bl<Y.heap.size):=by
   have b1:bw<Y.heap.size:=(tT.1 m1).1;have b2:bl<Y.heap.size:=(tT.1 m2).1;have b3:w.heap.size<Y.heap.size:=nI G Rh.size;rw[QC _ _ (by rw[Bu];exact hf),h6];refine⟨by have:=ak.new Y 210 A.toList;rwa[Array.toArray_toList]at this,(uj _ _ _ b1).trans m1,(uj _ _ _ b2).trans m2,(Ki.out.1.of_heap (Rh.block _ G)).of_heap (uj _ _ _ b3),?_,b3,b1,b2⟩;have:=Ki.out.2.trans (Rh.mono (Kt G));exact this.alloc (Kt b3) _
  unfold YB;rw[<-h6];have kJ:=hid (And.intro hA (And.intro h4 (And.intro l1 (And.intro l2 G))));clear h6 hA Rh m1 m2 h4 l1 l2 hv c0 c1 c2 hf;generalize Y.heap.size=S at *;go_wp2
  go_loopw [23] (fun h9 wr=>∃j:Nat,j<=8/\h9=.int .i64 j/\Hid (ak wr S TS (CF A.toList (jk window++vC window) j)/\wr.heap[bw]?=some (.map #[] 0)/\wr.heap[bl]?=some (.map #[] 0)/\ak wr w.heap.size 45 [.int .i64 aH,.int .i64 window,.int .i64 total]/\Below w.heap.size w wr/\w.heap.size<S/\bw<S/\bl<S)) (fun h9 _=>8-(intOf h9).toNat)
  case atStart=>exact⟨0,by omega,rfl,he⟩
  case round=>
   obtain⟨j,hj,rfl,HR⟩:=hrel;clear he
   by_cases x0:j<8
   ·have x2:(j:Int)<8:=by omega
    have c1:wr.cell? ⟨w.heap.size,1,none⟩=some (.int .i64 window):=HR.out.2.2.2.1.cell 1;have hg:w.heap.size<wr.heap.size:=HR.out.2.2.2.1.lt;have yO:S<wr.heap.size:=HR.out.1.lt;go_wp2
    have hu:S≠w.heap.size:=by have:=HR.out.2.2.2.2.2.1;omega
    have ZT:∀(o:Nat) (vs:List Value) (y:World),(jE S o vs y).cell? ⟨w.heap.size,1,none⟩=y.cell? ⟨w.heap.size,1,none⟩:=fun o vs y=>by
     have:=(jd S vs o y).block w.heap.size (Ne.symm hu);unfold World.cell?;simp only[this]
    go_region_held3 (fun y=>y.cell? ⟨w.heap.size,1,none⟩=some (.int .i64 window)) (go_keep)
     ((first
      |(go_at_call 144;refine(HO.out _).mono ?_;rintro e X ⟨rfl,F⟩;have d1:X.cell? ⟨w.heap.size,1,none⟩=some (.int .i64 window):=cell_of c1 (F.block _ (by simpa using hg)))
      |(go_at_call 145;refine(HN.out _).mono ?_;rintro e y2 ⟨rfl,h3⟩;have d2:y2.cell? ⟨w.heap.size,1,none⟩=some (.int .i64 window):=cell_of d1 (h3.block _ (nI (by simpa using hg) F.size));have Z:ak y2 S TS (CF A.toList (jk window++vC window) j):=(HR.out.1.of_heap (F.block _ (by simpa using yO))).of_heap (h3.block _ (nI (by simpa using yO) F.size));have x1:=UY y2 S (4+j*27) window (fun i hi=>⟨by rw[Z.cell,oN _ _ j _ (by omega)];rfl,Z.frozen _⟩);have ha:=hid Z;clear Z)))
    obtain⟨W5,qD⟩:∃W5,W5=jE S (4+j*27) (jk window++vC window) y2:=⟨_,rfl⟩
    have hr:Hid (ak W5 S TS (CF A.toList (jk window++vC window) (j+1))/\W5.heap[bw]?=some (.map #[] 0)/\W5.heap[bl]?=some (.map #[] 0)/\ak W5 w.heap.size 45 [.int .i64 aH,.int .i64 window,.int .i64 total]/\Below w.heap.size w W5/\w.heap.size<S/\bw<S/\bl<S):=by
     obtain⟨r1,r2,r3,r4,r5,r6,r7,r8⟩:=HR.out;have tc:=jd S (jk window++vC window) (4+j*27) y2;have h5:Below wr.heap.size wr X:=⟨F.os,F.tape,F.output,F.size,F.block⟩;have hy:Below wr.heap.size wr y2:=h5.trans (h3.mono h5.size);rw[<-qD]at tc
     have U:∀k,k<wr.heap.size->k≠S->W5.heap[k]?=wr.heap[k]?:=fun k hk hn=>(tc.block k hn).trans (hy.block k hk)
     refine⟨?_,(U bw (by omega) (by omega)).trans r2,(U bl (by omega) (by omega)).trans r3,r4.of_heap (U _ (by omega) (by omega)),?_,r6,r7,r8⟩
     ·rw[<-QD _ _ hV j x0,show 4+27*j=4+j*27 by omega,qD];exact jR _ _ y2 _ ha.out
     ·exact tc.below (r5.trans (hy.mono r5.size)) (by omega)
    change Exit.inBlock _ _ _ _ (jE S (4+j*27) (jk window++vC window) y2);rw[<-qD];clear qD F h3 x1 ha HR d1 d2 ZT c1;go_wp2;go_roundw
    case rel=>exact⟨j+1,by omega,by simp,hr⟩
    case measure=>simp[intOf];omega
   ·obtain rfl:j=8:=by omega
    go_wp2;refine bodyPost_ret (v:=.tuple #[.pointer (some ⟨S,0,none⟩),.nilIface]) (by simp[results,results107,go_sem]) rfl ?_;obtain⟨r1,r2,r3,r4,r5,r6,r7,r8⟩:=HR.out;obtain⟨hA,h4,l1,l2,G⟩:=kJ.out
    obtain⟨own',ho⟩:∃own':Own,own'=fun x=>if x<w.heap.size then own x else if x=S then s else if x=bw then s+42 else if x=bl then s+43 else 0:=⟨_,rfl⟩
    have o1:own' S=s:=by rw[ho];simp only;rw[if_neg (by omega),if_pos trivial]
    have o2:own' bw=s+42:=by rw[ho];simp only;rw[if_neg (by omega),if_neg (by omega),if_pos trivial]
    have o3:own' bl=s+43:=by rw[ho];simp only;rw[if_neg (by omega),if_neg (by omega),if_neg (Ne.symm h4),if_pos trivial]
    refine⟨S,bw,bl,bi,own',_,_,rfl,Xm hA ht.2 hs r1 r2 r3 o1 o2 o3,⟨r5.os,r5.tape,r5.output,r5.size,fun x hx _=>r5.block x hx,fun x hx=>by rw[ho];exact if_pos hx⟩,fun b hb=>?_⟩;rw[ho];simp only;rw[if_neg (by omega)]
    by_cases e1:b=S
    ·rw[if_pos e1];exact .inl rfl
    ·rw[if_neg e1]
     by_cases e2:b=bw
     ·rw[if_pos e2];exact .inr (.inl rfl)
     ·rw[if_neg e2]
      by_cases e3:b=bl
      ·rw[if_pos e3];exact .inr (.inr (.inl rfl))
      ·rw[if_neg e3];exact .inr (.inr (.inr rfl))
end
end Go.Proofs.YtphbledmopchnaaGreatDoor.Sd
