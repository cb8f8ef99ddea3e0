import Derived.Test.YtphbledmopchnaaGreatDoorVed
open Go.RowKit renaming intOf->eB
set_option maxHeartbeats 4000000
set_option maxRecDepth 100000
set_option linter.all false
open Go renaming World->Wq
set_option linter.all false
namespace Go.Proofs.YtphbledmopchnaaGreatDoor.Sd
open St Tryz
variable {A A' M:av}{b:bY}
def QI(M:av)(a:bY)(Q:List Nat):Prop:=∀u∈q0,u∈Q\/M.aL a u=false
def M_:∀u:Fin 48,(u.val=0\/u.val=8\/(16<=u.val/\u.val<33)\/40<=u.val)->u.val∈q0:=by decide +kernel
def qe1{d u c f}(a:A.aQ=[])(g:A.frame b u c=some (f,A',d)):A'.aQ=[]:=by rcases oV g with⟨e,n,_,rfl,rfl,rfl⟩|⟨e0,rfl,⟨e,rfl,rfl⟩|⟨_,e,rfl,rfl⟩|⟨_,e,rfl,rfl⟩|⟨e,q,hq',rfl⟩|⟨e,o,hx,rfl⟩⟩;all_goals first|exact a|(rw[a]at hq';cases hq')
structure FE (M:av) (aH:bY) (au:Int) (l:List Fr) (x:av×bY×List Nat×List Fr) (m:List Fr):Prop where
 eq:x.2.2.2=l++m
 y:Kn m+x.1.Y x.2.1<=M.Y aH
 en:au-(Kn m:Int)<10\/∀u∈q0,x.1.aL x.2.1 u=false
 q:x.1.aQ=[]
 qi:QI x.1 x.2.1 x.2.2.1
 wl:∀v,x.1.aL x.2.1 v=true->M.aL aH v=true
 u:x.1.U<=M.U
 ak:∀r∈aH,r∈x.2.1\/∃g∈m,g.aD=2/\r∈g.ranges
 sub:∀r∈x.2.1,r∈aH
 fr:∀f∈m,∃u,u<48/\M.aL aH u=true/\(f.aD=2↔u=0)
 nl:KM M x.1
theorem Vy{Q a:List Nat}{d l}(g:M.aQ=[])(h:∀u∈q0,u∈Q\/u∈a\/M.aL b u=false)(i:d<10\/∀u∈q0,M.aL b u=false):∃m,FE M b d l (M,b,a.foldl eY Q,l) m:=
 ⟨[],(lG l).symm,Nat.le_of_eq (gG _),by grind,g,fun u j=>by grind [IL],fun _=>id,aI _,fun r c=>.inl c,fun r c=>c,(fun f e=>by cases e),KM.refl _⟩
theorem yP{B}:∀(n) {M} (aH) (Q later) (au) (l),Cq B M aH->M.aQ=[]->Sml aH->Lq Q->(∀u∈q0,u∈Q\/u∈later\/M.aL aH u=false)->(later≠[]->au<10)->0<=au->Q.length+au.toNat<n->∃m,FE M aH au l (fV n M aH Q later au l) m
 |0,M,aH,Q,later,au,l,_,_,_,_,_,_,_,hn=>absurd hn (jZ _)
 |n+1,M,aH,[],later,au,l,hC,h0,hs,hQ,hq,hL,a,hn=>Vy h0 hq (by grind)
 |n+1,M,aH,u::Q,later,au,l,hC,h0,hs,hQ,hq,hL,a,hn=>by
  have d:=hQ u aR;have q:(mO (u::Q)).length=Q.length:=by rw[BM];rfl
  have s:=fun v h=>qiw (u:=u) (x:=v) (t:=Q) h;simp only[pI]at hn;unfold fV;by_cases b:M.aL aH u=true
  .simp only[b,if_true];cases hF:M.frame aH u au with
   |none=>
    have c:=TP hC.loc hC.bd h0 d hs b hF;simp only;split;.exact yP n aH (mO (u::Q)) (later++[u]) au l hC h0 hs hQ.pop (fun v k=>by grind) (fun _=>c) a aj
    .exact Vy h0 hq (.inl c)
   |some x=>
    obtain⟨f,y,i⟩:=x;simp only;have Y:=qiy hC.loc hC.bd h0 d hs hC.l8 b hF;obtain⟨z,_,A,C,_⟩:=Aa hC.loc aH i u au f d hC.dn b hF;obtain⟨_,_,o,_⟩:=Po hF;have E:=lZ f;have j:=Y.w;obtain⟨m,t⟩:=yP n i (u::Q) later (au-((bf f).length:Int)) (l++[f]) (hC.frame d b hF) (qe1 h0 hF) (fun r a=>hs r (o r a)) hQ (fun v k=>by grind) (fun e=>by grind) aj (by grind);have w:Kn (f::m)=(bf f).length+Kn m:=by unfold Kn;simp
    have p:∀r∈aH,r∈i\/f.aD=2/\r∈f.ranges:=fun r a=>by
     rcases oV hF with⟨e,n,_,rfl,rfl,rfl⟩|⟨e0,rfl,_⟩;.rw[<-qk3 n aH]at a;exact(iJ.1 a).symm.imp id fun h=>⟨rfl,h⟩
     grind
    refine⟨f::m,by rw[t.eq];simp,by grind [cases FE,cases FrY],t.en.imp (by grind) id,t.q,t.qi,fun v h=>j v (t.wl v h),dx t.u Y.u,fun r a=>?_,fun r a=>o r (t.sub r a),fun g D=>?_,Y.n.trans t.nl⟩;.grind [cases FE]
    .grind [cases FE]
  .simp only[b];exact yP n aH (mO (u::Q)) later au l hC h0 hs hQ.pop (fun v k=>by grind) hL a aj
theorem Vz{a}(h:∀u∈q0,M.aL a u=false)(u)(c:u<48):M.aL a u=false:=by
 have d:=h 16 (M_ ⟨16,aj⟩ aR);have e:=h 40 (M_ ⟨40,aj⟩ aR);by_cases b:u=0\/u=8\/(16<=u/\u<33)\/40<=u;.exact h u (M_ ⟨u,c⟩ b)
 grind [av.aL]
theorem Eh:∀(n) (M) (a) (Q) (b) (l),(∀u,u<48->M.aL a u=false)->Lq Q->(fV n M a Q [] b l).1=M/\(fV n M a Q [] b l).2.2.2=l
 |0,_,_,_,_,_,_,_=>⟨rfl,rfl⟩
 |_+1,_,_,[],_,_,_,_=>⟨rfl,rfl⟩
 |n+1,M,a,u::Q,b,l,h,hQ=>by unfold fV;simp only[h u (hQ u aR),Bool.false_eq_true,if_false];exact Eh n M a _ b l h hQ.pop
theorem Ei:∀(n) (M) (a) (Q) (l),(∀u,u<48->M.aL a u=false)->Lq Q->gQ n M a Q l=(M,l)
 |0,_,_,_,_,_,_=>rfl
 |n+1,M,a,Q,l,h,hQ=>by grind [fill,Eh,Lq,gQ]
structure PE (M:av) (aH:bY) (l:List (Nat×List Fr)) (x:av×List (Nat×List Fr)):Prop where
 y:47*x.1.aM.length+x.1.Y []<=47+47*M.aM.length+M.Y aH
 no:∀u∈q0,x.1.aL [] u=false
 u:x.1.U<=M.U
 ak:∀r∈aH,∃y∈x.2,∃g∈y.2,g.aD=2/\r∈g.ranges
 fr:∀y∈x.2,y∈l\/∀f∈y.2,∃u,u<48/\M.aL aH u=true/\(f.aD=2↔u=0)
 sub:∀y∈l,y∈x.2
 pre:∃t,x.1.aM=M.aM++t
 q:x.1.aQ=[]
 nl:KM M x.1
theorem KN{B N}(L:N<1073741824):∀(n) {M} (aH) (Q) (l),PP B N M aH->M.aQ=[]->Sml aH->QI M aH Q->Lq Q->mu M aH<n->PE M aH l (gQ n M aH Q l)
 |0,M,aH,Q,l,_,_,_,_,_,hn=>absurd hn (jZ _)
 |n+1,M,aH,Q,l,h,h0,hs,hq,hQ,hn=>by
  have X:dH=4611686018427387903:=rfl;obtain⟨G,r1⟩:=EO h.bd;have o:(fill M aH Q M.au).1.next=M.next:=rO _ aH Q [] M.au []
  obtain⟨m,t⟩:=yP (B:=B) (Q.length+M.au.toNat+1) aH Q [] M.au [] h.cq h0 hs hQ (fun u E=>(hq u E).elim .inl fun e=>.inr (.inr e)) (fun e=>absurd rfl e) G aj;obtain⟨V,H⟩:=qU (Q.length+M.au.toNat+1) aH Q [] M.au [] h.loc h.ab h.ba h.bd h.dn h.l8 h.hi hQ (fun x U=>by simp at U) G;have b:FE M aH M.au [] (fill M aH Q M.au) m:=t;have j:FlB B M aH M.au [] (fill M aH Q M.au) V:=H;clear t H;have z:=fun i=>MP (Q:=Q) h (show N<dH by omega) hQ i;have D:56<=M.au:=by have J:=h.nx;have:=(kJ M.next).2.2 (by grind);have:=h.bd.mt;grind [av.au]
  unfold gQ;generalize fill M aH Q M.au=x at b o z j;obtain⟨A,d,q,a⟩:=x;have wy:=j.wy;simp only at o z ⊢;have I:a=m:=b.eq;subst I;have w:(∀u∈q0,A.aL d u=false)->d=[]:=fun c=>by have J:decide (0<d.length)=false:=c 0 (M_ ⟨0,aj⟩ aR);simp_all
  have f:=b.y;have k:=b.en;simp only at f k;split
  .rename_i R;have hz:Kn a=0:=by rw[R];rfl
   have c:=k.resolve_left aj;have e:=w c;rw[e]at c f;refine⟨by grind,c,b.u,fun r p=>?_,fun y f=>.inl f,fun y f=>f,⟨[],by grind⟩,b.q,b.nl⟩;grind [cases FE,cases PP]
  .rename_i i;obtain⟨W,p2,p3,p4,p5,p6⟩:=z i;have Z:(A.eO a).aM=if fZ a then A.aM++[(A.next,(⟨again a,A.aV⟩:sS))]else A.aM:=rfl;have F:(A.eO a).aM.length<=M.aM.length+1/\A.aM.length<=(A.eO a).aM.length:=by grind
   have T:∀v,(A.eO a).aL d v=true->A.aL d v=true:=
    KM.aL (A:=A) (A':=A.eO a) ⟨id,fun _=>id,fun _=>id⟩ id (fun Y=>by grind [av.full]) b.q (fun _=>id)
   have C:QI (A.eO a) d q:=fun u E=>(b.qi u E).imp id fun e=>by grind
   have P:=KN L n d q (l++[(M.next,a)]) W b.q (fun r p=>hs r (b.sub r p)) C j.q aj;have s:(M.next,a)∈(gQ n (A.eO a) d q (l++[(M.next,a)])).2:=P.sub _ aR;have O:(A.eO a).Y d=A.Y d:=rfl;refine⟨?_,P.no,dx P.u b.u,fun r p=>?_,fun y f=>?_,fun y f=>P.sub y (by simp[f]),?_,P.q,b.nl.trans ⟨P.nl.g,P.nl.i,P.nl.n⟩⟩;.grind [cases PE,aG,Vz,Ei,cases FlB]
   .rcases b.ak r p with h|⟨g,S,K⟩;.exact P.ak r h
    .exact⟨_,s,g,S,K⟩
   .grind [cases PE,cases PP,List.mem_singleton,cases FE]
   grind [cases PE]
theorem qe2{B j}(n:fG A)(k:dL A B)(l:dL B A)(f:Bd A)(p:A.aQ=[])(o:A.next+24<1073741824)(s:B.next<=1073741824)(h:A.jA A' j):∃a,A.kD a/\PE {a with bn:=false} (lf a) [] (A',j):=by
 obtain⟨a,i,e⟩:=h;obtain⟨c,b,m⟩:=uJ n k l f i;have P:=KN o ((lf a).length+14) (lf a) q0 [] c ((ER f i).qu.trans p) (fun r d=>by
  have:=c.hi r d;have:r.1<=r.2:=by
   have g:=c.dn;clear this b m c e;generalize lf a=L at d g;induction L with
   |nil=>cases d
   |cons x t v=>unfold Dn at g;grind
  omega) (fun u q=>.inl q) lq0 b
 grind
end Go.Proofs.YtphbledmopchnaaGreatDoor.Sd
set_option linter.all false
namespace Go.Proofs.YtphbledmopchnaaGreatDoor.Sd
open St Tryz
variable {c:Nat}{s:NS}
def Tp(s:NS)(a c:Nat):Prop:=a<=c/\(∀r∈s.rs,r.2<c)/\s.fl<=c/\(c=a\/∃r∈s.rs,r.1<=a/\r.2+1=c)
def Tp.mem{d p}(h:Tp s d c)(g:d<=p)(i:p<c):Rg.Mem s.rs p:=by
 rcases h.2.2.2 with e|⟨r,f,a,b⟩;.omega
 .exact⟨r,f,aj,aj⟩
theorem Tp.new{a}(h:Tp s a c)(b:Rg.gP s.rs):s.has c=false:=by grind [Tp,Rg.Lm,NS.has,Rg.Mem]
theorem VA:∀(b) (c),Rg.gP b->(∀r∈b,r.2<c)->∃t a,Rg.ins c c b=t++[(a,c)]/\a<=c/\(∀r∈b,r.2+1=c->a<=r.1)
 |[],c,_,_=>⟨[],c,rfl,aI _,fun r f=>by cases f⟩
 |r::t,c,hs,h=>by
  obtain⟨p,k,i⟩:=hs;have f:=h r aR;unfold Rg.ins;by_cases d:r.2+1<c;.rw[dN d];obtain⟨l,a,e,m,n⟩:=VA t c i fun x g=>h x (by simp[g]);grind
  .rw[b_ d,b_ aj];have j:t=[]:=by
    cases t with
    |nil=>rfl
    |cons x l=>have:=k x aR;have:=h x aR;have:=i.1;omega
   rw[j];refine⟨[],min c r.1,?_,Nat.min_le_left _ _,fun x g o=>by grind⟩;show[(min c r.1,max c r.2)]=_;grind
theorem Tp.add{s f c}(h:Tp s f c)(j:Rg.gP s.rs):Tp (s.add 8 c c) f (c+1):=by
 obtain⟨l,i,m,n⟩:=h;have q:max c s.fl=c:=aj;obtain⟨t,a,e,o,p⟩:=VA s.rs c j i;have g:∀r∈Rg.ins c c s.rs,r.2<c+1:=fun r d=>by have:=Rg.xg s.rs c c c (aI _) (fun x u=>by grind) r d;omega
 have b:a<=f:=by grind
 have k:(s.add 8 c c).rs=if 8<(Rg.ins c c s.rs).length then(Rg.ins c c s.rs).tail else Rg.ins c c s.rs:=by unfold NS.add Rg.add;grind
 refine⟨aj,fun r d=>?_,qcr aj (fun r d=>by grind) aj,.inr ⟨(a,c),?_,b,rfl⟩⟩;.grind [List.mem_of_mem_tail]
 grind
def kM(l:List (Nat×Nat×List Fr))(i:Nat):Nat->Nat
 |0=>0
 |j+1=>kM l i j+(if(l.getD j (0,0,[])).1=i then 1 else 0)
structure CI (aZ w t:Nat) (l:List (Nat×Nat×List Fr)) (n2 m:Net):Prop where
 p:dU aZ {m with dJ:=l}
 nl:NL w t {m with dJ:=l}
 b:m.dJ=[]
 mo:∀i,i<2->Mo (n2.x i) (m.x i)
structure CJ (l:List (Nat×Nat×List Fr)) (n0 s:Nat->Nat) (n2:Net) (j:Nat) (m:Net):Prop where
 nm:∀i,i<2->(m.x i).named<=s i
 tp:∀i,i<2->Tp (m.x i).aT (n0 (1-i)) (s (1-i)+kM l i j)
 ak:∀j',j'<j->∀g∈(l.getD j' (0,0,[])).2.2,g.aD=2->∀z∈(m.x (l.getD j' (0,0,[])).1).aM,names g.ranges z.1=false
 an:∀i,i<2->((m.x i).bn=true↔(n2.x i).bn=true\/∃j',j'<j/\(l.getD j' (0,0,[])).1=i/\fZ (l.getD j' (0,0,[])).2.2=true)
def qmn(A):Mo A A.emp:=⟨fun t k x h=>by rcases t with _|_|_|t<;>exact h,fun t k x h=>by rcases t with _|_|_|t<;>exact h,fun t k x h=>by rcases t with _|_|_|t<;>exact h,List.Sublist.refl _,List.Sublist.refl _,⟨rfl,rfl,rfl⟩,fun _=>⟨rfl,rfl,rfl,rfl,rfl,rfl⟩,fun _=>⟨aI _,id,aI _,fun _=>rfl⟩,rfl,fun _=>rfl⟩
def qe3(n:Net)(i M):((n.dM i M).iW i).x i=M.emp:=by show(if i=i then((n.dM i M).x i).emp else _)=_;rw[dN rfl,dD]
def qe4(n:Net)(i j M)(h:j≠i):((n.dM i M).iW i).x j=n.x j:=by show(if j=i then _ else(n.dM i M).x j)=_;rw[b_ h,gu _ _ _ _ h]
theorem qiz{O w t l F m j}(h:CI O w t l F m)(X:j<l.length)(Y:∀i,i<2->(F.x i).next<=dH){M}(I:(m.x (l.getD j (0,0,[])).1).jJ (l.getD j (0,0,[])).2.1 (l.getD j (0,0,[])).2.2 M 0):CI O w t l F ((m.dM (l.getD j (0,0,[])).1 M).iW (l.getD j (0,0,[])).1)/\∀N s,CJ l N s F j m->(l.getD j (0,0,[])).2.1=s (1-(l.getD j (0,0,[])).1)+kM l (l.getD j (0,0,[])).1 j->(∀g∈(l.getD j (0,0,[])).2.2,g.aD=2->(g.ranges.getD 0 (0,0)).2<s (l.getD j (0,0,[])).1)->CJ l N s F (j+1) ((m.dM (l.getD j (0,0,[])).1 M).iW (l.getD j (0,0,[])).1):=by
 have G:l.getD j (0,0,[])∈l:=by grind
 have d:∀i,kM l i (j+1)=kM l i j+(if(l.getD j (0,0,[])).1=i then 1 else 0):=fun _=>rfl;have L:∀n,n<j+1->n<j\/n=j:=fun n h=>aj;generalize Q:l.getD j (0,0,[])=y at *
 obtain⟨a,y⟩:=y;simp only at I d ⊢;obtain⟨c,R⟩:=h.p.dJ _ G;simp only at c;have u:=R;have A:(m.x (1-a)).next<=dH:=by rw[(h.mo _ aj).nx.1];grind
 obtain⟨_,W,b,U,S⟩:=OG (h.p.loc a c) (h.p.loc (1-a) aj) (h.p.two a c) (h.p.mU a c) (h.p.bd a c) (h.p.bd (1-a) aj) y.1 y.2 u.lt A u.fr I;obtain⟨T,r⟩:=h.nl.come h.p a c G A I;have V:=jq h.p a c M W b S U;have p:=qe3 m a M;have P:=fun i=>qe4 m a i M;refine⟨⟨?_,?_,h.b,fun i x=>?_⟩,fun N s J B H=>?_⟩
 .have q:=jq V a c M.emp (by grind [dD,gu,Vn,cases rV]) (by exact qd2 b) (by rw[dD];rfl) (by rw[dD];rfl);have e:(Net.dM {m.dM a M with dJ:=l} a M.emp).x=((m.dM a M).iW a).x:=by grind [dD,gu]
  exact⟨by rw[<-e];exact q.loc,by rw[<-e];exact q.two,by rw[<-e];exact q.bd,by rw[<-e];exact q.mt,by rw[<-e];exact q.ct,by rw[<-e];exact q.dJ⟩
 .have q:=T.turn (M:=M.emp) a c (by rw[dD];exact Ca rfl) (by show∀f∈M.aQ,f.aJ<=M.aV+8;rw[r.mo.nx.2.1,r.mo.nx.2.2];exact h.nl.dq a c);refine q.sub ?_ (fun y G=>G);grind [dD,gu]
 .by_cases e:i=a;.rw[e,p];exact(h.mo a c).trans (r.mo.trans (qmn M))
  grind [cases CI]
 .have C:=(h.p.bd a c).cm.so;have D:=J.tp a c;have v:=D.new C;rw[<-B]at v;obtain⟨f1,f2,f3,f4⟩:=r.fr v;refine⟨fun i x=>?_,fun i x=>?_,fun n o g K k z E=>?_,fun i x=>?_⟩
  .by_cases e:i=a;.rw[e,p];exact f3 _ (J.nm a c) H
   grind [cases CJ]
  .rw[d];by_cases e:i=a;.rw[e,p,dN rfl];show Tp M.aT _ _;rw[f1,B,<-KW];exact D.add C
   .rw[P i e,b_ (fun h=>e h.symm)];exact J.tp i x
  .rcases L n o with o|rfl
   .by_cases e:(l.getD n (0,0,[])).1=a;.rw[e,p]at E;exact J.ak n o g K k z (by rw[e];exact r.mo.ow.subset E)
    grind [cases CJ]
   .rw[Q]at K E;rw[p]at E;exact f4 g K k z E
  .have:=J.an i x;by_cases e:i=a;.rw[e,p];show M.bn=true↔_;grind
   grind
theorem qe5{d w t l c}(f:CI d w t l c {c with dJ:=[]})(n:∀i,i<2->(c.x i).next<=dH):∀j,j<=l.length->∀m,CmR l j {c with dJ:=[]} m->CI d w t l c m/\∀e s,CJ l e s c 0 {c with dJ:=[]}->(∀j,j<l.length->(l.getD j (0,0,[])).2.1=s (1-(l.getD j (0,0,[])).1)+kM l (l.getD j (0,0,[])).1 j)->(∀j,j<l.length->∀g∈(l.getD j (0,0,[])).2.2,g.aD=2->(g.ranges.getD 0 (0,0)).2<s (l.getD j (0,0,[])).1)->CJ l e s c j m
 |0,_,m,h=>by grind [CmR]
 |j+1,hj,m,h=>by obtain⟨o,k,M,p,rfl⟩:=h;obtain⟨a,b⟩:=qe5 f n j aj o k;grind [qiz]
def RdD(i:dP):Prop:=¬(i.aT.getD 0 false=true)/\(i.cB=true->i.wanted<=i.aY->i.state≠0)
theorem qmo{i}(h:Dc i):RdD (i.rd (4096:Nat)).2:=by
 have d:i.ready<=4096:=by grind [dP.ready,List.takeWhile_prefix,cases Dc]
 refine⟨qm2 i d,fun b c=>?_⟩;obtain⟨n,e⟩:=bU (min i.ready (max ((4096:Nat):Int) 0).toNat);have a:(i.rd (4096:Nat)).2={i.cut n with state:=if i.state=0 then(i.cut n).iO else i.state}:=by rw[e];rfl
 rw[a]at b c ⊢;have f:({i.cut n with state:=if i.state=0 then(i.cut n).iO else i.state}:dP).wanted=(i.cut n).wanted:=rfl;grind [dP.iO]
structure RI (aZ w t:Nat) (n3:Net) (c:Nat) (m:Net):Prop where
 p:dU aZ m
 nl:NL w t m
 b:m.dJ=[]
 mo:∀i,i<2->Mo (n3.x i) (m.x i)
 eq:∀i,i<2->(m.x i).named=(n3.x i).named/\(m.x i).aT=(n3.x i).aT/\(m.x i).aM=(n3.x i).aM/\(m.x i).bn=(n3.x i).bn
 rd:∀c',c'<c->RdD ((m.x (c' / 8)).bH (c' % 8))
theorem qe6{j w t b}(o:dU j b)(n:NL w t b)(l:b.dJ=[]):∀c,c<=16->∀m,ReR c b m->RI j w t b c m
 |0,_,m,h=>by have e:m=b:=h;rw[e];exact⟨o,n,l,fun i _=>Mo.refl _,fun _ _=>⟨rfl,rfl,rfl,rfl⟩,fun d h=>absurd h (jZ _)⟩
 |c+1,hc,m,h=>by
  obtain⟨g,p,_,rfl⟩:=h;have I:=qe6 o n l c aj g p;have a:c / 8<2:=aj;have f:c % 8<(g.x (c / 8)).ins.length:=by rw[(I.p.loc _ a).li];grind
  obtain⟨s,u⟩:=qjn (g.x (c / 8)) (c % 8) (4096:Nat);unfold rdN;refine⟨jq I.p _ a _ (Fx (I.p.loc _ a) (I.p.loc _ aj) (I.p.two _ a) (I.p.mU _ a) _ _) (Mk (I.p.bd _ a) _ _) rfl rfl,I.nl.turn _ a u (I.nl.dq _ a),I.b,fun i r=>?_,fun i r=>?_,fun d q=>?_⟩
  .by_cases e:i=c / 8;.rw[e,dD];exact(I.mo _ a).trans s
   grind [gu,cases RI]
  .by_cases e:i=c / 8;.rw[e,dD];exact I.eq _ a
   grind [gu,cases RI]
  .by_cases e:d / 8=c / 8
   .rw[e,dD,fQ];by_cases k:d % 8=c % 8;.rw[dN ⟨k,f⟩];exact qmo ((I.p.bd _ a).i _)
    .rw[b_ (fun h=>k h.1),<-e];exact I.rd d aj
   grind [gu,cases RI]
end Go.Proofs.YtphbledmopchnaaGreatDoor.Sd
set_option linter.all false
namespace Go.Proofs.YtphbledmopchnaaGreatDoor.Sd
open St Tryz
variable {n:Net}{t w:Nat}
theorem IV:∀(a),(∀f∈a,snd f=true)->fZ (a.map norm)=fZ a
 |[],_=>rfl
 |f::t,h=>by grind [fZ,nJ]
theorem qrl{j c}(a:dU j n)(u:NL w t n)(o:∀i,i<2->(n.x i).next+24<dH)(h:FlR 2 n c):∃d:Nat->List (Nat×List Fr),(∀i,i<2->(n.x i).jA (c.x i) (d i))/\c.dJ=n.dJ++(vN (d 0)).map (fun y=>(1,y))++(vN (d 1)).map (fun y=>(0,y))/\dU j c/\NL w t c:=by
 obtain⟨q,⟨p,C,g,z,q0,k⟩,r,A,D,l⟩:=h;have e:p=n:=C;subst e;have key:∀{m:Net} {i:Nat} {M:av} {d:List (Nat×List Fr)},i<2->dU j m->NL w t m->(m.x i).next+24<dH->(m.x i).jA M d->dU j (m.vO i M d)/\NL w t (m.vO i M d):=fun b a u o s=>⟨Tw a _ b (xO (a.loc _ b) (a.two _ b) (a.mU _ b) (a.bd _ b) o s),u.vO a _ b o s fun f B=>by rw[(xR (fun f B=>((a.loc _ b).q f B).kd) s).q];grind⟩
 have v:=key (i:=0) aj a u (o 0 aj) q0;rw[<-k]at v;have F:q.x 1=p.x 1:=by rw[k];exact gu p 0 1 g aj
 have E:q.x 0=g:=by rw[k];exact dD p 0 g
 have x:=key (i:=1) aj v.1 v.2 (by grind) D;rw[<-l]at x;refine⟨fun i=>if i=0 then z else A,fun i b=>?_,by rw[l,k];rfl,x.1,x.2⟩;rcases(show i=0\/i=1 by omega)with rfl|rfl
 .have:c.x 0=g:=by rw[l];exact(gu q 1 0 r aj).trans E
  grind
 .have:c.x 1=r:=by rw[l];exact dD q 1 r
  grind
structure R0 (aZ w t:Nat) (n n1 n2 n3 n':Net) (pk:Nat->List (Nat×List Fr)):Prop where
 x1:∀i,i<2->∃v,n1.x i=(n.x i).IG v
 p1:dU aZ n1
 l1:NL w t n1
 pr:∀i,i<2->(n1.x i).jA (n2.x i) (pk i)
 bg:n2.dJ=(vN (pk 0)).map (fun y=>(1,y))++(vN (pk 1)).map (fun y=>(0,y))
 p2:dU aZ n2
 l2:NL w t n2
 ci:CI aZ w t n2.dJ n2 n3
 cj:∀n0 s,CJ n2.dJ n0 s n2 0 {n2 with dJ:=[]}->(∀j,j<n2.dJ.length->(n2.dJ.getD j (0,0,[])).2.1=s (1-(n2.dJ.getD j (0,0,[])).1)+kM n2.dJ (n2.dJ.getD j (0,0,[])).1 j)->
  (∀j,j<n2.dJ.length->∀g∈(n2.dJ.getD j (0,0,[])).2.2,g.aD=2->(g.ranges.getD 0 (0,0)).2<s (n2.dJ.getD j (0,0,[])).1)->CJ n2.dJ n0 s n2 n2.dJ.length n3
 ri:RI aZ w t n3 16 n'
 nx:∀i,i<2->(n'.x i).next=(n2.x i).next/\(n2.x i).next<=(n.x i).next+24/\(n'.x i).aV=(n.x i).aV+1
 po:∀i,i<2->PkO (n1.x i) (n1.x (1-i)) (n2.x i) (pk i)
 pa:∀i,i<2->PaL (n1.x i) (n2.x i) (pk i)
theorem qe7{r n'}(N:dU r n)(M:NL w t n)(G:n.dJ=[])(L:∀i,i<2->(n.x i).next+24<dH)(O:RoR n n'):∃Q m g x,R0 r w t n Q m g n' x:=by
 obtain⟨o,p,m,K,g,H,u⟩:=O;have q:=fun i d=>vw n o p i d;have f:=PX N o p;have k:=Vt M o p;have j:∀i,i<2->((n.jK o p).x i).next+24<dH:=fun i d=>by obtain⟨v,e⟩:=q i d;rw[e];exact L i d
 obtain⟨x,h,z,E,D⟩:=qrl f k j K;have s:(n.jK o p).dJ=[]:=G;rw[s,pJ]at z;have A:=fun i d=>xO (f.loc i d) (f.two i d) (f.mU i d) (f.bd i d) (j i d) (h i d);have F:∀i,i<2->(m.x i).next<=(n.x i).next+24:=fun i d=>by have:=(A i d).top;obtain⟨v,e⟩:=q i d;rw[e]at this;exact this
 obtain⟨I,J⟩:=qe5 (l:=m.dJ) (w:=w) (t:=t) ⟨E,D,rfl,fun i _=>Mo.refl _⟩ (fun i d=>by grind) _ (aI _) g H;have S:({({g with dJ:=m.dJ}:Net)with dJ:=[],now:=g.now}:Net)=g:=by have:=I.b;cases g;simp_all
 have R:dU r g:=by have:=I.p.sub [] (fun y C=>by cases C) g.now;grind
 have P:NL w t g:=I.nl.sub rfl (fun y C=>by grind);have B:=qe6 R P I.b 16 (aI _) n' u;refine⟨_,m,g,x,q,f,k,h,z,E,D,I,J,B,fun i d=>?_,A,fun i d=>yJ (k.li i d).aw (f.loc i d) (f.two i d) (f.mU i d) (f.bd i d) (j i d) (h i d)⟩;have a:=(I.mo i d).nx;have b:=(B.mo i d).nx;obtain⟨v,e⟩:=q i d;have c:=B_ (h i d);rw[e]at c;exact⟨b.1.trans a.1,F i d,b.2.1.trans (a.2.1.trans c)⟩
theorem VB{l w t D}:∀(T) {n n'},dU l n->NL w t n->n.dJ=[]->(∀i,i<2->∀f∈(n.x i).aQ,f.aJ<=D)->Aj T n n'->(∀i,i<2->(n.x i).next+24*T<dH)->dU l n'/\NL w t n'/\n'.dJ=[]/\(∀i,i<2->(n'.x i).next<=(n.x i).next+24*T/\(n'.x i).aV=(n.x i).aV+T/\(∀f∈(n'.x i).aQ,f.aJ<=D/\(0<T->(n'.x i).aV<=f.aJ))/\∀k,SmO ((n.x i).out k) ((n'.x i).out k))
 |0,n,n',hp,hl,hb,hD,h,_=>by have e:n'=n:=h;rw[e];exact⟨hp,hl,hb,fun i g=>⟨aI _,rfl,fun f j=>⟨hD i g f j,fun h=>absurd h (KP _)⟩,fun k=>Cj _⟩⟩
 |T+1,n,n',hp,hl,hb,hD,h,hm=>by
  obtain⟨m,r,s⟩:=h;obtain⟨a,b,c,d⟩:=VB T hp hl hb hD r fun i g=>by grind
  obtain⟨y,C,E,F,R⟩:=qe7 a b c (fun i g=>by grind) s;refine⟨R.ri.p,R.ri.nl,R.ri.b,fun i g=>?_⟩;obtain⟨v,e⟩:=R.x1 i g;have q:=R.nx i g;have p:=d i g;have u:=(R.ri.mo i g).nx.2.2.trans (R.ci.mo i g).nx.2.2;have x:=(xR (fun f j=>((R.p1.loc i g).q f j).kd) (R.pr i g)).q;refine⟨aj,aj,fun f j=>?_,fun k=>?_⟩
  .rw[u]at j;have o:f∈(y.x i).aQ:=by grind
   rw[e]at o;obtain⟨A,B⟩:=dY.1 o;grind
  .have H:=p.2.2.2 k;have z:=(BR (R.pr i g)).o k;have G:=(TK (m.x i) v).o k;rw[e]at z;have I:=(R.ci.mo i g).ot k;have J:=(R.ri.mo i g).ot k;grind [SmO]
end Go.Proofs.YtphbledmopchnaaGreatDoor.Sd
set_option linter.all false
namespace Go.Proofs.YtphbledmopchnaaGreatDoor.Sd
open St Tryz
structure FI (aZ w t:Nat) (n0 T0:Nat->Nat) (n:Net):Prop where
 p:dU aZ n
 nl:NL w t n
 b:n.dJ=[]
 q:∀i,i<2->(n.x i).aQ=[]
 tp:∀i,i<2->Tp (n.x i).aT (n0 (1-i)) (n.x (1-i)).next
 Ar:∀i,i<2->∀z∈(n.x i).aM,(n0 i<=z.1/\z.2.aV=(n.x i).aV/\(n.x i).named<=z.1)\/(z.1<n0 i/\z.2.aV<=T0 i/\(n.x i).aV<T0 i+6)
 an:∀i,i<2->(∃z∈(n.x i).aM,n0 i<=z.1)->(n.x (1-i)).bn=true
structure RF (A A2 A':av) (pk:List (Nat×List Fr)):Prop where
 pe:∃v M1,(A.IG v).kD M1/\PE {M1 with bn:=false} (lf M1) [] (A2,pk)/\(A.IG v).jA A2 pk/\fG (A.IG v)/\Bd (A.IG v)
 hm:Hm A A2
 le:EB A A2
 s1:Sm A A2
 ah:A2.gr.ahead=A.gr.ahead/\∀k,(A2.bH k).gr.ahead=(A.bH k).gr.ahead
 mo:Mo A2 A'
 rd:∀k,k<8->RdD (A'.bH k)
 nx:A'.next<=A.next+24/\A'.aV=A.aV+1
theorem qmp{a b:List (Nat×List Fr)}{s:Nat->Nat}(k:∀j,j<a.length->(a.getD j (0,[])).1=s 0+j)(m:∀j,j<b.length->(b.getD j (0,[])).1=s 1+j)(l)(o:l=a.map (fun y=>(1,y))++b.map (fun y=>(0,y))):l.length=a.length+b.length/\(∀j,j<=l.length->kM l 1 j=min j a.length/\kM l 0 j=j-a.length)/\(∀j,j<l.length->(l.getD j (0,0,[])).2.1=s (1-(l.getD j (0,0,[])).1)+kM l (l.getD j (0,0,[])).1 j):=by
 have e:l.length=a.length+b.length:=by grind
 have h:∀j,j<a.length->l.getD j (0,0,[])=(1,a.getD j (0,[])):=fun j d=>by grind
 have i:∀j,a.length<=j->j<a.length+b.length->l.getD j (0,0,[])=(0,b.getD (j-a.length) (0,[])):=fun j d f=>by grind
 have c:∀j,j<=l.length->kM l 1 j=min j a.length/\kM l 0 j=j-a.length:=fun j=>by
  induction j with
  |zero=>intro _;exact⟨by simp[kM],by simp[kM]⟩
  |succ j g=>
   intro d;obtain⟨p,q⟩:=g aj;unfold kM;by_cases n:j<a.length;.grind
   .grind
 grind
theorem round{aZ w t C T0 n n'}(h:FI aZ w t C T0 n)(hm:∀i,i<2->(n.x i).next+24<1073741824)(hr:RoR n n'):FI aZ w t C T0 n'/\(∀i,i<2->∀z∈(n'.x i).aM,C i<=z.1->(n.x i).next<=z.1)/\∃(E:Net) (c:Nat->List (Nat×List Fr)),dU aZ E/\(∀i,i<2->RF (n.x i) (E.x i) (n'.x i) (c i))/\(∀i,i<2->(n'.x i).bn=true->∃y∈c (1-i),fZ y.2=true):=by
 have hM:dH=4611686018427387903:=rfl;obtain⟨D,E,n3,c,R⟩:=qe7 h.p h.nl h.b (fun i a=>by grind) hr;have X:∀i,i<2->(D.x i).next=(n.x i).next/\(D.x i).aT=(n.x i).aT/\(D.x i).named=(n.x i).named/\(D.x i).bn=(n.x i).bn/\(D.x i).aM=(n.x i).aM/\(D.x i).aV=(n.x i).aV+1/\(D.x i).aQ=[]:=fun i a=>by obtain⟨v,e⟩:=R.x1 i a;rw[e];exact⟨rfl,rfl,rfl,rfl,rfl,rfl,by show(n.x i).aQ.filter _=[];rw[h.q i a];rfl⟩
 have A:=fun i a=>qe2 (R.p1.loc i a) (R.p1.two i a) (R.p1.mU i a) (R.p1.bd i a) (X i a).2.2.2.2.2.2 (by grind) (by grind) (R.pr i a);have Wt:∀i,i<2->∀j,j<(vN (c i)).length->((vN (c i)).getD j (0,[])).1=(n.x i).next+j:=fun i a j d=>by
  have B:j<(c i).length:=by grind [vN,List.length_map]
  have:=(R.po i a).nm j B;grind [vN]
 obtain⟨l,hl⟩:=bU E.dJ;have Y:=R.bg;have I:=R.cj;rw[<-hl]at Y I;obtain⟨b1,b4,b5⟩:=qmp (s:=fun i=>(n.x i).next) (Wt 0 aj) (Wt 1 aj) l Y;have K:∀i,i<2->∀x∈c i,∃j,j<l.length/\l.getD j (0,0,[])=(1-i,(x.1,x.2.map norm)):=fun i a x b=>by
  have hv:(1-i,(x.1,x.2.map norm))∈l:=by have hw:(x.1,x.2.map norm)∈vN (c i):=jH.2 ⟨x,b,rfl⟩;grind
  grind [List.getElem_of_mem]
 have u:∀j,j<l.length->∃i,i<2/\∃x∈c i,l.getD j (0,0,[])=(1-i,(x.1,x.2.map norm)):=fun j d=>by
  have b:l.getD j (0,0,[])∈l:=by grind
  generalize l.getD j (0,0,[])=y at b ⊢;rw[Y]at b;rcases iJ.1 b with b|b;.obtain⟨z,o,rfl⟩:=jH.1 b;obtain⟨x,h6,rfl⟩:=jH.1 o;grind
  .obtain⟨z,o,rfl⟩:=jH.1 b;obtain⟨x,h6,rfl⟩:=jH.1 o;grind
 have m:=fun i a x b f V=>(((R.po i a).ok x b).1.fs f V).sn;have h2:∀j,j<l.length->∀g∈(l.getD j (0,0,[])).2.2,g.aD=2->(g.ranges.getD 0 (0,0)).2<(n.x (l.getD j (0,0,[])).1).next:=fun j d g W k=>by
  obtain⟨i,a,x,b,e⟩:=u j d;rw[e]at W ⊢;obtain⟨f,V,rfl⟩:=jH.1 W;have hs:=m i a x b f V;rw[nJ f hs]at k;rw[Iz f hs k];rcases((R.po i a).ok x b).2.2 f V with⟨_,_,q⟩|⟨q,_⟩|⟨q,_⟩|⟨q,_⟩|⟨q,_⟩|q;.grind
  .omega
  .omega
  .omega
  .omega
  .have:=q.kd;omega
 have ho:∀i,(vN (c i)).length=(c i).length:=fun i=>by unfold vN;grind
 have J:=I C (fun i=>(n.x i).next) ⟨fun i a=>by show(E.x i).named<=_;rw[(R.pa i a).sm.2.1,(X i a).2.2.1];exact(h.p.bd i a).nm,fun i a=>by show Tp (E.x i).aT _ ((n.x (1-i)).next+0);rw[(R.pa i a).sm.1,(X i a).2.1];exact h.tp i a,fun j' B=>absurd B (jZ _),fun i _=>⟨.inl,fun h=>h.elim id fun⟨j',h1,_⟩=>absurd h1 (jZ _)⟩⟩ b5 h2;have mo:=fun i a=>(R.ci.mo i a).trans (R.ri.mo i a);have hc:∀i,i<2->(n'.x i).next=(n.x i).next+(c i).length/\(n'.x i).aV=(n.x i).aV+1:=fun i a=>by
  have:=(R.po i a).next
  grind [cases R0]
 have hn:∀i,i<2->Tp (n'.x i).aT (C (1-i)) (n'.x (1-i)).next:=fun i a=>by have h1:=J.tp i a;rw[(R.ri.eq i a).2.1,(hc (1-i) aj).1];grind
 have Z:∀i,i<2->∀z∈(n'.x i).aM,((n.x i).next<=z.1/\z.2.aV=(n.x i).aV+1/\∃G,(z.1,G)∈c i/\fZ G=true)\/(z.1<C i/\z.2.aV<=T0 i/\(n.x i).aV+1<T0 i+6):=fun i a z o=>by
  have h8:z∈(n3.x i).aM:=by rw[<-(R.ri.eq i a).2.2.1];exact o
  have h7:=(R.ci.mo i a).ow.subset h8;have x:=X i a;rcases(R.pa i a).wo z h7 with⟨p,x0⟩|⟨q0,q1,G,q2,q3⟩
  .right;rw[x.2.2.2.2.1]at p;rcases h.Ar i a z p with⟨F,a2,T⟩|⟨F,a2,T⟩
   .exfalso;have h5:=((h.p.bd i a).wy z p).1;have Q:=h.tp (1-i) aj;rw[show 1-(1-i)=i by omega]at Q;obtain⟨r,hr,r1,r2⟩:=Q.mem F h5;have XO:=h.an i a ⟨z,p,F⟩;obtain⟨h0,he,P'⟩:=A (1-i) aj;have lo:=ER (R.p1.bd _ aj) he;have x':=X (1-i) aj;have h4:r∈lf h0:=by
     unfold lf;rw[dN (lo.an.trans (x'.2.2.2.1.trans XO)),KY,lo.ca,x'.2.1];exact hr
    obtain⟨y,hy,g,W,k2,hu⟩:=P'.ak r h4;obtain⟨j,d,ej⟩:=K (1-i) aj y hy;have hs:=m (1-i) aj y hy g W;have:=J.ak j d (norm g) (by grind) (by grind [nJ]) z (by grind);grind [Iz,names,List.any_eq_false]
   grind [av.g_,Bool.or_eq_false_iff,of_decide_eq_false]
  grind
 have x3:∀i,i<2->(n'.x i).named<=(n.x i).next:=fun i a=>by rw[(R.ri.eq i a).1];exact J.nm i a
 have x2:∀i,i<2->C i<=(n.x i).next:=fun i a=>by have:=(h.tp (1-i) aj).1;grind
 refine⟨⟨R.ri.p,R.ri.nl,R.ri.b,fun i a=>?_,hn,fun i a z o=>?_,fun i a ⟨z,o,h9⟩=>?_⟩,fun i a z o h9=>?_,E,c,R.p2,fun i a=>?_,fun i a U=>?_⟩;.obtain⟨M1,_,P⟩:=A i a;exact(mo i a).nx.2.2.trans P.q
 .grind
 .rcases Z i a z o with⟨F,a2,G,T,a4⟩|⟨F,_⟩;.rw[(R.ri.eq (1-i) aj).2.2.2,J.an (1-i) aj];right;obtain⟨j,d,ej⟩:=K i a _ T;exact⟨j,d,by rw[ej],by rw[ej];simp only;rw[IV G (m i a _ T)];exact a4⟩
  .omega
 .grind
 .obtain⟨M1,M,P⟩:=A i a;obtain⟨v,e⟩:=R.x1 i a;have pa:=R.pa i a;have O:=R.pr i a;have L:=R.p1.loc i a;have H:=R.p1.bd i a;have S:=(R.po i a).stp.le;have sm:=BR (R.pr i a);have N:=pa.hm;have ah:=pa.ah;rw[e]at M S sm N ah O L H;refine⟨⟨v,M1,M,P,O,L,H⟩,fun t k x q=>N t k x (by rcases t with _|_|_|t<;>exact q),⟨S.out,S.NG,S.eF,S.next⟩,(TK _ v).trans sm,ah,mo i a,fun k hk=>?_,?_⟩;.have:=R.ri.rd (8*i+k) aj;rwa[show(8*i+k) / 8=i by omega,show(8*i+k) % 8=k by omega]at this
  grind [cases R0]
 .rw[(R.ri.eq i a).2.2.2,J.an i a,(R.pa i a).sm.2.2.1]at U;rcases U with U|⟨j,d,e1,e2⟩;.cases U
  .obtain⟨i',h3,x,b,e⟩:=u j d;rw[e]at e1 e2;simp only at e1 e2;rw[IV _ (m i' h3 x b)]at e2;have:i'=1-i:=aj;grind
end Go.Proofs.YtphbledmopchnaaGreatDoor.Sd
section
set_option linter.all false
namespace Go.Proofs.YtphbledmopchnaaGreatDoor.Sd
open St Tryz
variable {i:dP}{o:Ot}
def Std(T0:Nat->Nat)(n:Net):Prop:=∀i,i<2->T0 i+6<=(n.x i).aV
section
variable {aZ w t:Nat} {n0 T0:Nat->Nat} {n n':Net}
theorem TQ(h:FI aZ w t n0 T0 n)(b:Std T0 n)(i)(a:i<2):∀z∈(n.x i).aM,n0 i<=z.1/\z.2.aV=(n.x i).aV/\(n.x i).named<=z.1:=fun z c=>by grind [Std,cases FI]
theorem VD(h:FI aZ w t n0 T0 n)(g:Std T0 n)(i)(d:i<2){A a}(f:A.aM=(n.x i).aM)(j:A.aV<=(n.x i).aV+1)(e:A.named=(n.x i).named)(b:Bd A)(c:A.kD a):a=A:=by refine(ER b c).no fun z k=>?_;grind [TQ,av.g_]
def Am(h:FI aZ w t n0 T0 n)(m:Std T0 n)(i)(j:i<2)(a k x)(d:Aw (n.x i) a k x\/Cm (n.x i) a k x):Has (n.x (1-i)) a k x:=by
 have L:=h.nl.li i j;rcases d with d|d
 .rcases L.aw a k x d with g|⟨f,e,c⟩;.exact L.cm a k x g
  .obtain⟨z,l,e⟩:=sQ.1 e;have b:=h.tp (1-i) aj;rw[show 1-(1-i)=i by omega]at b;exact L.wt z (Az _ l) (b.mem (TQ h m i j z l).1 ((h.p.bd i j).wy z l).1) f e a k x c
 .exact L.cm a k x d
end

def qmq{aZ w t n0 T0 n}(h:FI aZ w t n0 T0 n)(b:Std T0 n)(i)(a:i<2):max (n.x i).gr.eH (n.x i).gr.aT<=(n.x (1-i)).aN/\∀k,max ((n.x i).bH k).gr.eH ((n.x i).bH k).gr.aT<=((n.x (1-i)).out k).aN:=
 ⟨uN.2 ⟨Am h b i a 1 0 _ (.inl (aI _)),Am h b i a 1 0 _ (.inr (aI _))⟩,fun k=>uN.2 ⟨Am h b i a 2 k _ (.inl (aI _)),Am h b i a 2 k _ (.inr (aI _))⟩⟩
def qe8{M:av}(i:M.outs.length=8):M.pO=su (fun k=>(M.out k).dI) 8:=by
 unfold av.pO av.out;generalize M.outs=l at *
 match l,i with
 |[a,b,c,d,e,f,g,h],_=>simp only[KQ,List.map_nil,qk6,List.sum_nil,su,E9,Dw];omega
theorem qj0{o' a}(w':vS o')(h:nN o i)(b:nN o' a)(d:i.aY<=a.aY)(e:i.state≠0->a.state=i.state)(c:o.nt.bG=true->o'.nt.aC=o.nt.aC):i.aP<=a.aP:=by grind [cases nN,cases vS,dP.aP]
theorem Ql(h:nN o i)(d:RdD i)(e)(b:e<=o.all.length)(a:o.nt.bG=true->e<=o.nt.aC)(c:∀p,p<e->Got i p):e<=i.aP/\(i.state=0->e<=i.aY):=by grind [cases nN,RdD,Got,dP.wanted,dP.aP]
def Srd(n:Net)(i:Nat):Nat:=su (fun k=>((n.x (1-i)).bH k).aP) 8
def L2(w t:Nat)(n:Net)(i m:Nat):Prop:=∃ρ:Nat->Nat,(∀k,k<8->ρ k<=((n.x (1-i)).bH k).aP)/\m<=su ρ 8/\(∀k,k<8->ρ k+w<=((n.x i).out k).aN\/((n.x i).out k).aB.length<=((n.x i).out k).dI)/\su ρ 8+t<=(n.x i).aN
structure DnK (A:av) (k:Nat) (r:dP):Prop where
 b:∀p,p<(A.out k).aB.length->Aw A 0 k p
 e:(A.out k).bL=true->(A.out k).nt.bG=false->Aw A 0 k (A.out k).aB.length
 n:(A.out k).nw=false
 g:(A.out k).nt.bG=true->r.bG=true/\r.state≠0
 f:(A.out k).nt.bG=false->r.aY=(A.out k).all.length/\((A.out k).bL=true->r.state=1)
def Dne(n:Net)(i:Nat):Prop:=∀k,k<8->DnK (n.x i) k ((n.x (1-i)).bH k)
theorem IW(M:av)(c:M.aM.length<12)(h:∀u∈q0,M.aL [] u=false):M.gr.aL M.aP=false/\(∀k,k<8->(M.bH k).fF=false)/\(∀k,k<8->(M.out k).nw=false)/\∀k,k<8->(M.out k).aL M.aU=false:=by have a:M.full=false:=decide_eq_false aj;have key:=Vz h;unfold av.aL at key;rw[a]at key;refine⟨by have:=key 8;grind,fun k b=>by have:=key (16+k);grind,fun k b=>by have:=key (24+k);unfold Ot.nw;grind,fun k b=>by have:=key (40+k);grind⟩
section
variable {aZ w t:Nat} {n0 T0:Nat->Nat} {n n2 n':Net} {pk:Nat->List (Nat×List Fr)}
theorem Na(h:dU aZ n)(d:dU aZ n2)(R:∀i,i<2->RF (n.x i) (n2.x i) (n'.x i) (pk i))(i)(c:i<2)(k):((n2.x (1-i)).bH k).aP=((n.x (1-i)).bH k).aP:=by have s:=(R (1-i) aj).s1.i k;have g:=((R i c).le.out k).gv;have a:=((h.two i c).rd k);have b:=((d.two i c).rd k);grind [cases nN,dP.aP]
def IX(b:dU aZ n')(c:dU aZ n2)(R:∀i,i<2->RF (n.x i) (n2.x i) (n'.x i) (pk i))(i)(a:i<2)(k):((n2.x (1-i)).bH k).aP<=((n'.x (1-i)).bH k).aP:=by have m:=(R (1-i) aj).mo.h k;have o:=(R i a).mo.ot k;exact qj0 ((b.loc i a).wr k) ((c.two i a).rd k) ((b.two i a).rd k) m.2.2.1 m.2.2.2 fun _=>o.2.2.2.2.1
theorem Yu(h:FI aZ w t n0 T0 n)(p:FI aZ w t n0 T0 n')(l:Std T0 n')(c:dU aZ n2)(R:∀i,i<2->RF (n.x i) (n2.x i) (n'.x i) (pk i))(E:w<=4096/\t<=4096)(i)(j:i<2)(D:(n2.x (1-i)).aM.length<12):L2 w t n' i (Srd n i):=by
 have H:dH=4611686018427387903:=rfl;have a:1-i<2:=aj;have d:=R (1-i) a;obtain⟨_,F,_,P,_⟩:=d.pe;have m:=qmq p l (1-i) a;rw[show 1-(1-i)=i by omega]at m;have v:=h.nl.ah (1-i) a;have e:=Na h.p c R i j;obtain⟨y,z,_⟩:=IW _ D P.no;have g:=d.mo.aw;have f:=d.mo.cg;refine⟨fun k=>((n.x (1-i)).bH k).aP,fun k _=>dx (Nat.le_of_eq (e k).symm) (IX p.p c R i j k),aI _,fun k x=>?_,?_⟩
 .have b:=z k x;have o:=(c.two i j).rd k;have s:=(R i j).mo.ot k;unfold dP.fF at b;rw[Bool.and_eq_false_iff]at b;rcases b with b|b;.right;simp only[Bool.not_eq_false',iY,decide_eq_true_eq]at b;have G:=o.cB b.1;have r:=o.bG;have u:=o.fq;have C:=((c.loc i j).wr k).pr.length_le;grind [dP.wanted]
  .left;show((n.x (1-i)).bH k).aP+w<=((n'.x i).out k).aN;have q:=of_decide_eq_false b;rw[e k]at q;have A:((n2.x (1-i)).bH k).gr.eH<=((n'.x (1-i)).bH k).gr.eH:=g 2 k _ (aI _);have B:((n2.x (1-i)).bH k).gr.aT<=((n'.x (1-i)).bH k).gr.aT:=f 2 k _ (aI _);have r:=m.2 k;have s:=(d.ah.2 k).trans (v.2 k x);have u:=jB (h.p.bd (1-i) a) k;grind [Gn.jI]
 .have q:=of_decide_eq_false y;have A:(n2.x (1-i)).gr.eH<=(n'.x (1-i)).gr.eH:=g 1 0 _ (aI _);have B:(n2.x (1-i)).gr.aT<=(n'.x (1-i)).gr.aT:=f 1 0 _ (aI _);have r:=m.1;have s:=d.ah.1.trans v.1;have u:=vB (c.loc (1-i) a) (c.bd (1-i) a);have C:(n2.x (1-i)).aP=su (fun k=>((n.x (1-i)).bH k).aP) 8:=by
   rw[yM (c.loc (1-i) a).li fun k=>jB (c.bd (1-i) a) k];grind
  grind [Gn.jI]
theorem Yv(h:FI aZ w t n0 T0 n)(z:FI aZ w t n0 T0 n')(v:Std T0 n')(l:dU aZ n2)(R:∀i,i<2->RF (n.x i) (n2.x i) (n'.x i) (pk i))(i)(b:i<2)(ho:(n2.x i).aM.length<12)(m)(hL:L2 w t n i m):Dne n' i\/m+min w t<=Srd n' i:=by
 obtain⟨ρ,r1,r2,r3,r4⟩:=hL;have c:=R i b;have J:=R (1-i) aj;obtain⟨_,M1,_,P,_⟩:=c.pe;obtain⟨_,_,T,W4⟩:=IW _ ho P.no;have x:∀k,k<8->∀p,p<((n2.x i).out k).upto (n2.x i).aU->Aw (n'.x i) 0 k p:=fun k a p g=>c.mo.aw 0 k p (Classical.byContradiction fun hn=>by have:=(yO ((l.bd i b).o k).a (n2.x i).aU).2 ⟨p,g,hn⟩;simp_all);have y:=fun k=>(z.p.two i b).rd k;have F:=fun k=>c.mo.ot k;have f:=fun k=>(l.loc i b).wr k;have E:=fun k=>M9 ((n2.x i).out k) (n2.x i).aU;have D:∀k,k<8->((n2.x i).out k).nt.bG=true->Has (n'.x (1-i)) 3 k ((n2.x i).out k).aB.length:=fun k a I=>by
  have q:=T k a;have d:=((l.bd i b).o k).b;have hU:UT=18446744073709551615:=rfl;have A:Aw (n2.x i) 3 k ((n2.x i).out k).aB.length\/Cm (n2.x i) 3 k ((n2.x i).out k).aB.length:=by grind [Ot.nw,Nt.aL,Aw,Cm]
  exact Am z v i b 3 k _ (A.imp (c.mo.aw 3 k _) (c.mo.cg 3 k _))
 have O:∀k,((n2.x i).out k).reach (n2.x i).aU<=((n2.x i).out k).aB.length:=fun k=>by unfold Ot.reach;omega
 have G:∀k,k<8->∀p,p<((n2.x i).out k).reach (n2.x i).aU\/p<((n2.x i).out k).dI->Got ((n'.x (1-i)).bH k) p:=fun k a p g=>by
  by_cases e:p<((n2.x i).out k).upto (n2.x i).aU;.exact Am z v i b 0 k p (.inl (x k a p e))
  .have q:=(E k).2;have d:=f k;have A:=d.sl;have H:=d.sb;have B:=d.ng;have U:((n2.x i).out k).aB.length<=p:=by grind [Ot.reach]
   have Z:((n2.x i).out k).nt.bG=true:=by grind
   have h8:((n'.x (1-i)).bH k).bG=true/\((n'.x (1-i)).bH k).rel<=((n2.x i).out k).aB.length:=D k a Z;exact .inr (.inr (.inr ⟨h8.1,aj⟩))
 have s:∀k,k<8->(((n2.x i).out k).reach (n2.x i).aU<=((n'.x (1-i)).bH k).aP/\(((n'.x (1-i)).bH k).state=0->((n2.x i).out k).reach (n2.x i).aU<=((n'.x (1-i)).bH k).aY))/\((n2.x i).out k).dI<=((n'.x (1-i)).bH k).aP:=fun k a=>by have d:=f k;have A:=d.pr.length_le;have H:=d.gv;have o:=F k;have B:=O k;have U:=d.sb;exact⟨Ql (y k) (J.rd k a) _ (by rw[o.2.2.2.2.2];omega) (by rw[o.2.2.2.1,o.2.2.2.2.1];grind) fun p g=>G k a p (.inl g),(Ql (y k) (J.rd k a) _ (by simp_all) (by simp_all) fun p g=>G k a p (.inr g)).1⟩
 have S:∀k,k<8->ρ k<=((n'.x (1-i)).bH k).aP:=fun k a=>dx (r1 k a) (by rw[<-Na h.p l R i b k];exact IX z.p l R i b k);have Y:(n.x i).aN<=(n2.x i).aN:=c.hm 1 0 _ (aI _);have Q:∀k,((n.x i).out k).aN<=((n2.x i).out k).aN:=fun k=>c.hm 2 k _ (aI _);by_cases L:∃k,k<8/\((n2.x i).out k).dI+(n2.x i).aU<=min ((n2.x i).out k).aB.length ((n2.x i).out k).aN
 .obtain⟨k,a,N⟩:=L;right;have q:su (fun k=>((n2.x i).out k).dI) 8+(if k<8 then(n2.x i).aU else 0)<=Srd n' i:=Al (j:=k) 8 (fun j M _=>(s j M).2) fun _=>by grind [Ot.reach]
  rw[<-qe8 (l.loc i b).lo,dN a]at q;have d:=(l.loc i b).sp;have A:(n2.x i).aU=(n2.x i).aN-(n2.x i).pO:=rfl;omega
 .by_cases W:∃k,k<8/\((n2.x i).out k).aN<((n2.x i).out k).aB.length
  .obtain⟨k,a,N⟩:=W;right;have q:su ρ 8+(if k<8 then w else 0)<=Srd n' i:=Al (j:=k) 8 (fun j M _=>S j M) fun _=>by
    have q:=(s k a).1.1;have d:¬(((n2.x i).out k).dI+(n2.x i).aU<=min ((n2.x i).out k).aB.length ((n2.x i).out k).aN):=fun e=>L ⟨k,a,e⟩;have A:=Q k;have H:=(f k).sl;have B:=(c.le.out k).dI;have U:=(c.s1.o k).2.1;grind [Ot.reach]
   rw[dN a]at q;omega
  .left;intro k a;have d:¬(((n2.x i).out k).dI+(n2.x i).aU<=min ((n2.x i).out k).aB.length ((n2.x i).out k).aN):=fun e=>L ⟨k,a,e⟩;have A:¬(((n2.x i).out k).aN<((n2.x i).out k).aB.length):=fun e=>W ⟨k,a,e⟩;have H:((n2.x i).out k).reach (n2.x i).aU=((n2.x i).out k).aB.length:=by unfold Ot.reach;omega
   obtain⟨⟨_,B⟩,_⟩:=s k a;rw[H]at B;obtain⟨o1,o2,o3,o4,o5,o6⟩:=F k;have hr:=J.rd k a;have C:((n2.x i).out k).bL=true->((n2.x i).out k).nt.bG=false->Aw (n'.x i) 0 k ((n2.x i).out k).aB.length:=fun X I=>x k a _ (by grind [Ot.upto,Ot.iH]);have r:=y k;have w':=(z.p.loc i b).wr k;refine⟨fun p g=>x k a p (by rw[o2]at g;have:=(E k).2;omega),fun X I=>by simp_all,?_,fun I=>?_,fun I=>?_⟩;.have V:=((l.bd i b).o k).b;have hU:UT=18446744073709551615:=rfl;have q:=T k a;have a1:=c.mo.aw 3 k ((n2.x i).out k).aB.length;have a2:=c.mo.cg 3 k ((n2.x i).out k).aB.length;grind [Aw,Cm,Ot.nw,Nt.aL]
   .obtain⟨K,g2⟩:((n'.x (1-i)).bH k).bG=true/\((n'.x (1-i)).bH k).rel<=((n2.x i).out k).aB.length:=D k a (by simp_all);refine⟨K,fun e=>hr.2 (r.bG K).1 ?_ e⟩;unfold dP.wanted;rw[dN K];have:=B e;omega
   .have V:=(f k).ng (by simp_all);have h9:((n'.x (1-i)).bH k).bG=false:=by have:=r.bG;grind
    have ha:=r.ro w';have he:=r.st;have u:((n'.x (1-i)).bH k).aY=((n'.x i).out k).all.length:=by
     rw[o6]at *
     rw[V]at B;grind
    refine⟨u,fun X=>?_⟩;have h0:Got ((n'.x (1-i)).bH k) ((n2.x i).out k).aB.length:=Am z v i b 0 k _ (.inl (C (by simp_all) (by simp_all)));grind [cases nN,RdD,Got,dP.wanted]
end

end Go.Proofs.YtphbledmopchnaaGreatDoor.Sd
end
section
set_option linter.all false
namespace Go.Proofs.YtphbledmopchnaaGreatDoor.Sd
open St Tryz
variable {A A':av}
theorem qjw(h:Mo A A')(k)(c:(A.out k).aB.length<=2048)(d:(A'.out k).nw=true):(A.out k).nw=true:=by have o:=h.ot k;have a:=h.aw 3 k (A.out k).aB.length;have b:=h.cg 3 k (A.out k).aB.length;grind [UT,Aw,Cm,Ot.nw,Nt.aL]
theorem qrp(h:Mo A A')(b:Bd A)(a:Bd A'):A'.U<=A.U:=Ce 8 fun k _=>by have:=IQ (rs:=(A.out k).eH.rs) (rs':=(A'.out k).eH.rs) (b.o k).a.so (a.o k).a.so (h.aw 0 k) 0 0 (fun p _ c=>absurd c (jZ _)) ((A.out k).aB.length+1);have d:=qjw h k (b.o k).b;grind [Ot.u,cases Mo]
theorem qe9{α:Type}{l a b:List α}(p:α->Bool)(h:l.Sublist (a++b))(e:∀x∈l,p x=true)(d:∀x∈a,p x=false):l.length<=b.length:=by have c:=h.filter p;grind [List.filter_eq_self,List.filter_eq_nil_iff,Nat.le_trans]
def qea{B pk}(o:fG A)(i:dL A B)(m:dL B A)(g:Bd A)(s:A.next+24<dH)(v:A.jA A' pk)(r:∀a,A.kD a->a=A):∀t k x,Aw A t k x->Aw A' t k x:=by obtain⟨a,b,e⟩:=v;obtain⟨C,_,_⟩:=uJ o i m g b;have h:=r a b;subst h;obtain⟨_,j⟩:=Ah s (fun M _ _ _=>∀t k x,Aw a t k x->Aw M t k x) (fun M d u E f D F l pk c j y z p t k x q=>(Pk c.loc c.bd y z p).2.1 (j t k x q)) (fun M d l pk j _ t k x q=>by have:=j t k x q;rcases t with _|_|_|t<;>exact this) _ _ (lf a) q0 [] C lq0 (fun t k x q=>by rcases t with _|_|_|t<;>exact q);rw[e]at j;exact j
def Gi(P:Nat->Nat)(n:Net):Prop:=∀i,i<2->(n.x i).U<=P i/\47*(n.x i).aM.length+7*(n.x i).U<=164+7*P i
def NoG(M:av):Prop:=M.gr.aL M.aP=false/\∀k,k<8->(M.bH k).fF=false
section
variable {aZ w t:Nat} {n0 T0:Nat->Nat} {n n2 n':Net} {pk:Nat->List (Nat×List Fr)}
theorem VE(h:FI aZ w t n0 T0 n)(j:Std T0 n)(m:∀i,i<2->(n.x i).next+24<1073741824)(R:∀i,i<2->RF (n.x i) (n2.x i) (n'.x i) (pk i))(i)(c:i<2):(∃v,PE {(n.x i).IG v with bn:=false} (lf (n.x i)) [] (n2.x i,pk i)/\fG ((n.x i).IG v)/\Bd ((n.x i).IG v))/\∀t k x,Aw (n.x i) t k x->Aw (n2.x i) t k x:=by obtain⟨v,b,d,P,g,f,a⟩:=(R i c).pe;have key:∀b,((n.x i).IG v).kD b->b=(n.x i).IG v:=fun b d=>VD h j i c rfl (aI _) rfl a d;have e:=key b d;subst e;have l:dH=4611686018427387903:=rfl;have s:=MX (h.p.loc i c) (h.p.two i c) (h.p.mU i c) v;exact⟨⟨v,P,f,a⟩,fun t k x q=>qea s.loc s.ab s.ba a (by show(n.x i).next+24<dH;grind) g key t k x (by rcases t with _|_|_|t<;>exact q)⟩
theorem qeb(h:FI aZ w t n0 T0 n)(k:Std T0 n)(j:∀i,i<2->(n.x i).next+24<1073741824)(e:FI aZ w t n0 T0 n')(c:Std T0 n')(l:∀i,i<2->∀z∈(n'.x i).aM,n0 i<=z.1->(n.x i).next<=z.1)(m:dU aZ n2)(R:∀i,i<2->RF (n.x i) (n2.x i) (n'.x i) (pk i))(i)(a:i<2):47*(n2.x i).aM.length+7*(n2.x i).U<=164+47*(n.x i).aM.length+7*(n.x i).U/\(n'.x i).aM.length+(n.x i).aM.length<=(n2.x i).aM.length/\(n'.x i).U<=(n2.x i).U/\(n2.x i).U<=(n.x i).U:=by
 obtain⟨⟨v,P,_⟩,_⟩:=VE h k j R i a;have o:47*(n2.x i).aM.length+(n2.x i).Y []<=47+47*(n.x i).aM.length+(n.x i).Y (lf (n.x i)):=P.y;have p:=qrk (n.x i) (lf (n.x i));have q:=qbk (h.p.bd i a);have r:7*(n2.x i).U<=(n2.x i).Y []:=by unfold av.Y;omega
 have g:(n2.x i).U<=(n.x i).U:=P.u;obtain⟨f,d⟩:∃f,(n2.x i).aM=(n.x i).aM++f:=P.pre;refine⟨aj,?_,qrp (R i a).mo (m.bd i a) (e.p.bd i a),g⟩;have s:=qe9 (fun z=>decide ((n.x i).next<=z.1)) (by rw[<-d];exact(R i a).mo.ow) (fun z b=>decide_eq_true (l i a z b (TQ e c i a z b).1)) (fun z b=>decide_eq_false (fT (((h.p.bd i a).wy z b).1)));grind
def qjx(h:dU aZ n)(c:dU aZ n')(b:dU aZ n2)(R:∀i,i<2->RF (n.x i) (n2.x i) (n'.x i) (pk i))(i)(a:i<2)(k):((n.x (1-i)).bH k).aP<=((n'.x (1-i)).bH k).aP:=by rw[<-Na h b R i a k];exact IX c b R i a k
theorem qpa(h:dU aZ n)(j:dU aZ n')(o:dU aZ n2)(R:∀i,i<2->RF (n.x i) (n2.x i) (n'.x i) (pk i))(i)(f:i<2){m}(l:L2 w t n i m):L2 w t n' i m:=by obtain⟨ρ,p,q,s,r⟩:=l;have e:=R i f;refine⟨ρ,fun k g=>dx (p k g) (qjx h j o R i f k),q,fun k g=>?_,dx r (e.mo.hm 1 0 _ (e.hm 1 0 _ (aI _)))⟩;have a:((n.x i).out k).aN<=((n'.x i).out k).aN:=e.mo.hm 2 k _ (e.hm 2 k _ (aI _));have b:=e.mo.ot k;have c:=(e.s1.o k).2.1;have d:=(e.le.out k).dI;grind
theorem Nb(h:FI aZ w t n0 T0 n)(y:Std T0 n)(s:∀i,i<2->(n.x i).next+24<1073741824)(e:FI aZ w t n0 T0 n')(R:∀i,i<2->RF (n.x i) (n2.x i) (n'.x i) (pk i))(i)(a:i<2)(q:Dne n i):Dne n' i:=fun k r=>by
 have d:=q k r;have b:=R i a;have c:=R (1-i) aj;obtain⟨⟨v,P,_⟩,m⟩:=VE h y s R i a;have G:=fun p u=>b.mo.aw 0 k p (m 0 k p u);obtain⟨M,z,A,B,N,C⟩:=b.mo.ot k;obtain⟨D,j,E,F⟩:=b.s1.o k;have O:=c.s1.i k;have Q:=c.mo.h k;have L:=fun g=>(c.mo.hm 3 k _ (c.hm 3 k ((n.x (1-i)).bH k).rel ⟨g,aI _⟩)).1;have x:=((e.p.two i a).rd k).ro ((e.p.loc i a).wr k);have I:=z.trans j;have K:=B.trans F;have J:=A.trans E;have H:=C.trans D;refine⟨by grind [cases DnK],by grind [cases DnK],?_,fun g=>?_,fun g=>?_⟩
 .cases o:((n'.x i).out k).nw with
  |false=>rfl
  |true=>have l:=P.nl.n k (qjw b.mo k (by rw[j];exact((h.p.bd i a).o k).b) o);have f:((n.x i).out k).nw=true:=l;rw[d.n]at f;cases f
 .grind [cases DnK]
 grind [cases DnK]
theorem qec(h:FI aZ w t n0 T0 n)(j:FI aZ w t n0 T0 n')(p:dU aZ n2)(R:∀i,i<2->RF (n.x i) (n2.x i) (n'.x i) (pk i))(i)(e:i<2)(z:Dne n (1-i))(v:NoG (n2.x i)):NoG (n'.x i):=by
 have c:=R i e;have q:=R (1-i) aj;have l:∀k,k<8->((n'.x i).bH k).aP=((n2.x i).bH k).aP/\(((n2.x i).bH k).cB=true->((n2.x i).bH k).wanted<=((n2.x i).bH k).fq->((n'.x i).bH k).wanted<=((n'.x i).bH k).fq):=fun k f=>by have d:=z k f;rw[show 1-(1-i)=i by omega]at d;have J:=d.g;have K:=d.f;have s:=c.s1.i k;have O:=q.s1.o k;have o:=q.mo.ot k;have m:=c.mo.h k;have L:=fun g=>c.hm 3 k ((n.x i).bH k).rel ⟨g,aI _⟩;have M:=fun g=>c.mo.hm 3 k ((n2.x i).bH k).rel ⟨g,aI _⟩;have a:=(p.mU i e).rd k;have b:=(j.p.mU i e).rd k;have x:=a.st;have y:=a.bG;have B:=a.cB;have D:=b.st;have E:=b.bG;have F:=b.cB;have G:=b.ro ((j.p.loc _ aj).wr k);grind [SmO,Has,dP.aP,dP.wanted]
 have C:∀k,k<8->((n2.x i).bH k).gr.ahead=((n'.x i).bH k).gr.ahead:=fun k f=>((c.mo.ah).2 k).symm;have x:∀k,((n2.x i).bH k).gr.eH<=((n'.x i).bH k).gr.eH:=fun k=>c.mo.aw 2 k _ (aI _);have y:∀k,((n2.x i).bH k).gr.aT<=((n'.x i).bH k).gr.aT:=fun k=>c.mo.cg 2 k _ (aI _);have H:(n2.x i).gr.eH<=(n'.x i).gr.eH:=c.mo.aw 1 0 _ (aI _);have I:(n2.x i).gr.aT<=(n'.x i).gr.aT:=c.mo.cg 1 0 _ (aI _);refine⟨?_,fun k f=>?_⟩
 .have r:=of_decide_eq_false v.1;have A:(n'.x i).aP=(n2.x i).aP:=by
   rw[yM (p.loc i e).li fun k=>jB (p.bd i e) k,yM (j.p.loc i e).li fun k=>jB (j.p.bd i e) k];grind [Cg]
  refine decide_eq_false fun u=>r ?_;unfold Gn.jI at u ⊢;rw[A,c.mo.ah.1]at u;omega
 .have r:=v.2 k f;obtain⟨f1,f2⟩:=l k f;have N:=(c.mo.h k).2.1;grind [dP.fF,Gn.aL,Gn.jI]
theorem qee(a:Bd A)(c k){r}(d:DnK A k r):(A.out k).aL c=false:=by
 cases f:(A.out k).aL c with
 |false=>rfl
 |true=>
  exfalso;obtain⟨p,g,h⟩:=(yO (a.o k).a c).1 f;have i:(A.out k).reach c<=(A.out k).aB.length:=by unfold Ot.reach;omega
  have b:=d.b p;have e:=d.e;simp only[Aw]at b e;unfold Ot.upto Ot.iH at g;grind
theorem idle(e:Bd A)(p:A.aQ=[])(d:NoG A){r:Nat->dP}(b:∀k,k<8->DnK A k (r k))(a:bY)(u)(q:u<48)(g:u=0->a=[]):A.aL a u=false:=by have i:=fun c=>qee e c (u-40) (r:=r (u-40));have j:=b (u-40);have f:=b (u-24);have l:=d.1;have m:=d.2 (u-16);have o:u-24<8->(A.out (u-24)).nt.aL (A.out (u-24)).aB.length=false:=fun h=>(f h).n;unfold av.aL;grind
end

def Q1(n:Net):Prop:=∀i,i<2->Dne n i/\NoG (n.x i)
def Prg(w t:Nat)(n:Net)(i c:Nat):Prop:=Dne n i\/(∃m,c=2*m/\m*min w t<=Srd n i)\/∃m,c=2*m+1/\L2 w t n i (m*min w t)
section
variable {aZ w t:Nat} {n0 T0:Nat->Nat} {n n':Net}
theorem IY(h:FI aZ w t n0 T0 n)(l:Std T0 n)(j:∀i,i<2->(n.x i).next+24<1073741824)(b:Q1 n)(C:RoR n n'):FI aZ w t n0 T0 n'/\Std T0 n'/\Q1 n'/\(∀i,i<2->(n'.x i).bn=false)/\∀i,i<2->(n'.x i).next<=(n.x i).next+24:=by
 obtain⟨m,I,n2,pk,F,R,s⟩:=round h j C;have q:Std T0 n':=fun i a=>by have:=l i a;rw[(R i a).nx.2];omega
 refine⟨m,q,fun i a=>⟨Nb h l j m R i a (b i a).1,?_⟩,fun i a=>?_,fun i a=>(R i a).nx.1⟩;.obtain⟨⟨v,P,_⟩,_⟩:=VE h l j R i a;have B:=(b i a).2;have G:(n2.x i).gr.aL (n2.x i).aP=true->(n.x i).gr.aL (n.x i).aP=true:=P.nl.g;have H:∀k,((n2.x i).bH k).fF=true->((n.x i).bH k).fF=true:=P.nl.i;exact qec h m F R i a (b (1-i) aj).1 ⟨by have:=B.1;grind,fun k g=>by grind [NoG]⟩
 .cases x:(n'.x i).bn with
  |false=>rfl
  |true=>
   exfalso;obtain⟨y,E,D⟩:=s i a x;have c:1-i<2:=aj;obtain⟨⟨v,P,_,o⟩,_⟩:=VE h l j R (1-i) c;obtain⟨f,z,g⟩:=za.1 D;have p:=of_decide_eq_true g;rcases P.fr y E with h1|h1;.cases h1
   .obtain⟨u,u1,u2,u3⟩:=h1 f z;have:=idle (A:={(n.x (1-i)).IG v with bn:=false}) (r:=fun k=>(n.x (1-(1-i))).bH k) (o.qnk false) (by show(n.x (1-i)).aQ.filter _=[];rw[h.q _ c];rfl) (b _ c).2 (fun k g=>by have d:=(b _ c).1 k g;exact⟨d.b,d.e,d.n,d.g,d.f⟩) (lf (n.x (1-i))) u u1 (fun e=>absurd (u3.2 e) p);grind
end

end Go.Proofs.YtphbledmopchnaaGreatDoor.Sd
end
section
set_option linter.all false
namespace Go.Proofs.YtphbledmopchnaaGreatDoor.Sd
open St Tryz
variable {B c:Nat}
def yT(n:Net)(i:Nat):Nat:=su (fun k=>((n.x i).out k).all.length) 8
section
variable {aZ w t:Nat} {n0 T0:Nat->Nat} {n n':Net}
theorem qmr(h:dU aZ n)(i)(a:i<2):Srd n i<=yT n i:=Ce 8 fun k _=>by have r:=(h.two i a).rd k;have w:=(h.loc i a).wr k;grind [cases nN,cases vS,dP.aP]
theorem qj1(h:dU aZ n)(i)(e:i<2)(k:yT n i<=B)(j:0<min w t)(g:Prg w t n i c)(d:2*(B / min w t)+2<=c):Dne n i:=by
 have l:=qmr h i e;have key:∀m,B / min w t+1<=m->¬m*min w t<=B:=fun m f d=>by have a:=Nat.lt_mul_div_succ B j;have b:(B / min w t+1)*min w t<=m*min w t:=EZ _ f;grind
 rcases g with h|⟨m,a,b⟩|⟨m,a,ρ,r1,r2,_⟩;.exact h
 .exact absurd aj (key m aj)
 .have:su ρ 8<=Srd n i:=Ce 8 r1;exact absurd aj (key m aj)
structure Rn (aZ w t:Nat) (n0 T0:Nat->Nat) (B V0 T:Nat) (n:Net) (P:Nat->Nat) (c f:Nat):Prop where
 fi:FI aZ w t n0 T0 n
 st:Std T0 n
 gi:Gi P n
 cf:c+f=T
 v:32*f+(P 0+(n.x 0).U+(P 1+(n.x 1).U))<=V0
 pr:∀i,i<2->Prg w t n i c
 q:2*(B / min w t)+2<c->Q1 n
 by':∀i,i<2->yT n i<=B
theorem qj2{u T P f}(I:0<min w t)(r:w<=4096/\t<=4096)(h:Rn aZ w t n0 T0 B u T n P c f)(l:∀i,i<2->(n.x i).next+24<1073741824)(z:RoR n n'):(∃A F G,Rn aZ w t n0 T0 B u (T+1) n' A F G)/\∀i,i<2->(n'.x i).next<=(n.x i).next+24:=by
 obtain⟨b,J,s,Y,o,R,V⟩:=round h.fi l z;have g:Std T0 n':=fun i a=>by have:=h.st i a;rw[(R i a).nx.2];omega
 have C:=fun i a=>qeb h.fi h.st l b g J o R i a;have v:∀i,i<2->yT n' i<=B:=fun i a=>by
  have:yT n' i=yT n i:=Cg 8 fun k _=>by rw[((R i a).mo.ot k).2.2.2.2.2,((R i a).s1.o k).1]
  grind [cases Rn]
 have p:Gi (fun i=>(n.x i).U) n':=fun i a=>by grind
 have S:=h.gi 0 aj;have U:=h.gi 1 aj;have O:=C 0 aj;have Q:=C 1 aj;have X:=h.v;have H:=h.cf;refine⟨?_,fun i a=>(R i a).nx.1⟩;by_cases W:(s.x 0).aM.length<12/\(s.x 1).aM.length<12
 .have j:∀i,i<2->(s.x i).aM.length<12:=fun i a=>by
   grind
  refine⟨fun i=>(n.x i).U,c+1,f,b,g,p,aj,?_,fun i a=>?_,fun x=>?_,v⟩;.grind
  .rcases h.pr i a with d|⟨m,e,q⟩|⟨m,e,q⟩;.exact .inl (Nb h.fi h.st l b R i a d)
   .obtain⟨ρ,K,L,M⟩:=Yu h.fi b g o R r i a (j _ aj);exact .inr (.inr ⟨m,aj,ρ,K,dx q L,M⟩)
   .rcases Yv h.fi b g o R i a (j i a) _ q with d|d;.exact .inl d
    .exact .inr (.inl ⟨m+1,aj,by grind⟩)
  .have y:=fun i a=>qj1 h.fi.p i a (h.by' i a) I (h.pr i a) aj;refine fun i a=>⟨Nb h.fi h.st l b R i a (y i a),qec h.fi b o R i a (y (1-i) aj) ?_⟩;obtain⟨_,N,_,P,_⟩:=(R i a).pe;obtain⟨D,E,_⟩:=IW _ (j i a) P.no;exact⟨D,E⟩
 .refine⟨fun i=>(n.x i).U,c,f+1,b,g,p,aj,?_,fun i a=>?_,fun x=>(IY h.fi h.st l (h.q x) z).2.2.1,v⟩;.grind
  .rcases h.pr i a with d|⟨m,e,q⟩|⟨m,e,q⟩;.exact .inl (Nb h.fi h.st l b R i a d)
   .exact .inr (.inl ⟨m,e,dx q (Ce 8 fun k _=>qjx h.fi.p b.p o R i a k)⟩)
   .exact .inr (.inr ⟨m,e,qpa h.fi.p b.p o R i a q⟩)
theorem qef{B d P}(g:0<min w t)(a:w<=4096/\t<=4096)(h:Rn aZ w t n0 T0 B d 0 n P 0 0):∀(T) (n'),Aj T n n'->(∀i,i<2->(n.x i).next+24*T<1073741824)->(∃b c f,Rn aZ w t n0 T0 B d T n' b c f)/\∀i,i<2->(n'.x i).next<=(n.x i).next+24*T
 |0,n',hr,_=>by grind [Aj]
 |T+1,n',hr,hm=>by
  obtain⟨j,e,k⟩:=hr;obtain⟨⟨b,c,f,I⟩,m⟩:=qef g a h T j e fun i l=>by grind
  grind [qj2]
theorem qeg(h:FI aZ w t n0 T0 n):∀(T) (n'),Aj T n n'->(∀i,i<2->(n.x i).next+24*T<1073741824)->FI aZ w t n0 T0 n'/\∀i,i<2->(n'.x i).next<=(n.x i).next+24*T/\(n'.x i).aV=(n.x i).aV+T
 |0,n',hr,_=>by grind [Aj]
 |T+1,n',hr,hm=>by
  obtain⟨d,b,c⟩:=hr;obtain⟨I,e⟩:=qeg h T d b fun i a=>by grind
  obtain⟨J,_,f,j,g,R,_⟩:=round I (fun i a=>by grind) c;exact⟨J,fun i a=>hwZ (e i a) ((R i a).nx)⟩
theorem ET:∀(b a) (n n'),Aj (a+b) n n'->∃c,Aj a n c/\Aj b c n'
 |0,a,n,n',h=>⟨n',h,rfl⟩
 |b+1,a,n,n',h=>by obtain⟨c,d,e⟩:=h;obtain⟨i,f,g⟩:=ET b a n c d;grind [Aj,RoR]
def qeh(b:dU aZ n)(e:NL w t n)(f:n.dJ=[])(g:∀i,i<2->(n.x i).aQ=[]):FI aZ w t (fun i=>(n.x i).next) (fun i=>(n.x i).aV) n:=by refine⟨b,e,f,g,fun i a=>⟨aI _,(b.mU i a).aT,e.fl i a,.inl rfl⟩,fun i a z c=>.inr ⟨((b.bd i a).wy z c).1,(b.bd i a).tk z c,Nat.lt_add_of_pos_right kX⟩,fun i a ⟨z,c,d⟩=>?_⟩;exact absurd ((b.bd i a).wy z c).1 (Nat.not_lt.2 d)
theorem qpb(h:dU aZ n)(i)(a:i<2):(n.x i).U<=yT n i+16:=by
 have b:(n.x i).U<=su (fun k=>((n.x i).out k).all.length+2) 8:=Ce 8 fun k _=>by have:=Vw ((n.x i).out k).eH.rs (((n.x i).out k).aB.length+1);have:=((h.loc i a).wr k).pr.length_le;unfold Ot.u;grind
 have c:su (fun k=>((n.x i).out k).all.length+2) 8=yT n i+16:=by unfold yT;simp only[su];omega
 omega
structure Fin (aZ w t:Nat) (n0 T0:Nat->Nat) (n:Net):Prop where
 fi:FI aZ w t n0 T0 n
 st:Std T0 n
 q:Q1 n
 an:∀i,i<2->(n.x i).bn=false
theorem TR(M:dU aZ n)(L:NL w t n)(K:n.dJ=[])(hw:0<min w t)(x:w<=4096/\t<=4096)(h0:(n.x 0).aV=(n.x 1).aV)(B E)(hB:yT n 0+yT n 1=B)(hE:E=60+2*(B / min w t+1)+B / 16)(s:∀i,i<2->(n.x i).next+24*E<1073741824)(v:Aj E n n'):(∃n0 T0,Fin aZ w t n0 T0 n')/\∀i,i<2->(n'.x i).next<=(n.x i).next+24*E/\∀k,SmO ((n.x i).out k) ((n'.x i).out k):=by
 have hM:dH=4611686018427387903:=rfl;have J:∀i,i<2->∀f∈(n.x i).aQ,f.aJ<=(n.x 0).aV+8:=fun i a f q=>by grind [cases NL]
 have X:=(VB E M L K J v fun i a=>fT (s i a)).2.2.2;obtain⟨T,Z⟩:∃T,E=9+(6+(1+(T+1))):=⟨E-17,aj⟩;rw[Z]at v;obtain⟨d,r9,r⟩:=ET _ _ _ _ v;obtain⟨b,S,r⟩:=ET _ _ _ _ r;obtain⟨h,m,r⟩:=ET _ _ _ _ r;obtain⟨O,ra,rb⟩:=r;obtain⟨Q,N,H,z⟩:=VB 9 M L K J r9 fun i a=>fT (s i a);have q9:∀i,i<2->(d.x i).aQ=[]:=fun i a=>List.eq_nil_iff_forall_not_mem.2 fun f q=>by
  obtain⟨_,t9,W,_⟩:=z i a;have:=W f q;have:(n.x i).aV=(n.x 0).aV:=by rcases(show i=0\/i=1 by omega)with rfl|rfl<;>omega
  omega
 have U:=qeh Q N H q9;have g:∀i,i<2->(d.x i).next+24*(T+8)<1073741824:=fun i a=>hwZ ((z i a).1) (s i a)
 obtain⟨l,x6⟩:=qeg U 6 b S fun i a=>fT (g i a);have F:Std (fun i=>(d.x i).aV) b:=fun i a=>by simp_all
 obtain⟨y,Y,m⟩:=m;have o:y=b:=Y;rw[o]at m;have j:∀i,i<2->(b.x i).next+24<1073741824:=fun i a=>by constructor<;>grind
 obtain⟨A,hz,n2,pk,p2,R,_⟩:=round l j m;have G:Std (fun i=>(d.x i).aV) h:=fun i a=>by have:=F i a;rw[(R i a).nx.2];omega
 have C:=fun i a=>qeb l F j A G hz p2 R i a;have y6:=fun i a=>((VB (D:=(d.x 0).aV+8) 6 Q N H (fun i a f q=>by simp_all) S fun i a=>fT (g i a)).2.2.2 i a).2.2.2;have e:∀i,i<2->yT b i=yT n i:=fun i a=>Cg 8 fun k _=>by rw[(y6 i a k).1,((z i a).2.2.2 k).1]
 have p:∀i,i<2->yT h i=yT n i:=fun i a=>(Cg 8 fun k _=>by rw[((R i a).mo.ot k).2.2.2.2.2,((R i a).s1.o k).1]).trans (e i a);have u0:=qpb l.p 0 aj;have u1:=qpb l.p 1 aj;have c0:=C 0 aj;have c1:=C 1 aj;rw[e 0 aj]at u0;rw[e 1 aj]at u1;have V:Rn aZ w t (fun i=>(d.x i).next) (fun i=>(d.x i).aV) B (2*B+64) 0 h (fun i=>(b.x i).U) 0 0:=by
  refine⟨A,G,fun i a=>?_,rfl,?_,fun i a=>.inr (.inl ⟨0,rfl,aj⟩),fun hc=>absurd hc aj,fun i a=>?_⟩;.constructor<;>grind
  .show 32*0+((b.x 0).U+(h.x 0).U+((b.x 1).U+(h.x 1).U))<=2*B+64;omega
  .rw[p i a];rcases(show i=0\/i=1 by omega)with rfl|rfl<;>omega
 have u:∀i,i<2->(h.x i).next<=(d.x i).next+168:=fun i a=>by have:=(x6 i a).1;have:=(R i a).nx.1;omega
 obtain⟨⟨P,c,f,I⟩,xa⟩:=qef hw x V T O ra fun i a=>by constructor<;>grind
 have hq:Q1 O:=I.q (by grind [cases Rn]);obtain⟨f1,f2,f3,f4,f5⟩:=IY I.fi I.st (fun i a=>by have:=xa i a;have:=u i a;have:=g i a;omega) hq rb;exact⟨⟨_,_,f1,f2,f3,f4⟩,fun i a=>⟨(X i a).1,(X i a).2.2.2⟩⟩
theorem VF(h:Fin aZ w t n0 T0 n):∀(T) (n'),Aj T n n'->(∀i,i<2->(n.x i).next+24*T<1073741824)->Fin aZ w t n0 T0 n'/\∀i,i<2->(n'.x i).next<=(n.x i).next+24*T
 |0,n',hr,_=>by grind [Aj]
 |T+1,n',hr,hm=>by
  obtain⟨d,b,c⟩:=hr;obtain⟨I,e⟩:=VF h T d b fun i a=>by grind
  obtain⟨f1,f2,f3,f4,f5⟩:=IY I.fi I.st (fun i a=>by grind) I.q c;exact⟨⟨f1,f2,f3,f4⟩,fun i a=>by grind⟩
def qei(h:Fin aZ w t n0 T0 n)(i)(a:i<2){M f}(b:(n.x i).jA M f):f=[]/\M=n.x i:=by
 obtain⟨m,j,e⟩:=b;have g:=VD h.fi h.st i a rfl (Nat.le_succ _) rfl (h.fi.p.bd i a) j;rw[g]at e;have c:lf (n.x i)=[]:=by unfold lf;rw[b_ (by rw[h.an i a];decide)]
 rw[c,Ei _ _ _ _ _ (fun u l=>idle (A:={n.x i with bn:=false}) (r:=fun k=>(n.x (1-i)).bH k) ((h.fi.p.bd i a).qnk false) (h.fi.q i a) (h.q i a).2 (fun k b=>by have d:=(h.q i a).1 k b;exact⟨d.b,d.e,d.n,d.g,d.f⟩) [] u l fun _=>rfl) lq0]at e;refine⟨(congrArg Prod.snd e).symm,(congrArg Prod.fst e).symm.trans ?_⟩;show{n.x i with bn:=false}=n.x i;rw[<-h.an i a]
end

end Go.Proofs.YtphbledmopchnaaGreatDoor.Sd
end
set_option linter.all false
namespace Go.Proofs.YtphbledmopchnaaGreatDoor.Sd
open Go.RowKit Go.Lib Mm Tryz
variable {a:Ad}{n:Net}{oZ:Own}{w wr:Wq}
theorem EU{g c}:∀n,(∀k,k<n->g k<=c)->su g n<=c*n
 |0,_=>eG _
 |n+1,h=>by have a:=EU n fun k b=>h k aj;grind [su,Nat.mul_succ]
theorem qej(b t:Nat)(i:b<=16384*2):Ending.returned (iZ (wrap64 (wrap64 (60+wrap64 (2*wrap64 (wrap64 ((b:Int) / (t:Int))+1)))+(b:Int) / 16)))=.returned (iZ ((60+2*(b / t+1)+b / 16:Nat):Int)):=by
 have g:=Nat.div_le_self b t;have e:(b:Int) / (t:Int)=((b / t:Nat):Int):=aR;have f:(b:Int) / 16=((b / 16:Nat):Int):=aR;have h:=Nat.div_le_self b 16;rw[e,f];generalize b / t=c at *
 generalize b / 16=d at *
 have k:∀x:Int,-9223372036854775808<=x->x<=9223372036854775807->wrap64 x=x:=fun x a b=>by unfold wrap64;omega
 grind
def EnC(w:Wq)(a:Ad)(n:Net)(i k:Nat):Prop:=w.cell? (aA a.eb i)=some (dB (a.el i) 8 (a.Ji i))/\w.cell? (aA (a.el i) k)=some (aK (a.e i k) 0)/\w.cell? (aA (a.e i k) 0)=some (.string ⟨((n.x i).out k).all.toArray⟩)/\w.cell? (aA (a.e i k) 1)=some (.bool ((n.x i).out k).bL)/\w.cell? (aA (a.e i k) 2)=some (.bool ((n.x i).out k).nt.bG)/\w.cell? (aA (a.e i k) 4)=some (iZ (((n.x (1-i)).bH k).aY:Int))/\w.cell? (aA (a.e i k) 5)=some (iZ (((n.x (1-i)).bH k).state:Int))
def qek{g}(h:dW oZ w a n g (ends n))(i k)(b:i<2)(c:k<8):EnC w a n i k:=by obtain⟨d,f,_⟩:=h.Ky i k b c;have B:=(h.en i k b c).1;have e:ends n i k=Eu ((n.x i).out k) ((n.x (1-i)).bH k):=rfl;rw[e]at B;exact⟨d,f,B.cell 0,B.cell 1,B.cell 2,B.cell 4,B.cell 5⟩
theorem Yw{vb}(h:dW oZ w a n vb (ends n))(S:dU a.aZ n)(hw:16<=a.iB/\a.iB<=4096)(ht:16<=a.vM/\a.vM<=4096):bN 17 #[aK a.N 0] w (iZ ((60+2*((yT n 0+yT n 1) / min a.iB a.vM+1)+(yT n 0+yT n 1) / 16:Nat):Int)) fun w'=>w'=w:=by
 have o:=fun i k q=>((S.loc i q).wr k).sz;have N:Hid (∀i k,i<2->k<8->EnC w a n i k):=fun i k q H=>qek h i k q H;have s:∀i k,i<2->k<=8->su (fun k=>((n.x i).out k).all.length) k<=16384:=fun i k q H=>by have:=EU (g:=fun k=>((n.x i).out k).all.length) (c:=2048) k fun j _=>o i j q;omega
 have C:=aG s;have A:=aG o;obtain⟨_,P,_⟩:=h.cells;have B:=h.qA.1;have x:=B.cell 6;have y:=B.cell 7;simp only[qhl,jh,gN]at x y;obtain⟨u,l⟩:=bU a.iB;obtain⟨t,f⟩:=bU a.vM;rw[<-l]at x hw;rw[<-f]at y ht;obtain⟨E,z⟩:=bU (60+2*((yT n 0+yT n 1) / min a.iB a.vM+1)+(yT n 0+yT n 1) / 16);rw[<-z];rw[<-l,<-f]at z;have r:=aG z;clear h S o s B l f z;go_enter func17,ntmps17;go_wp2;go_loopw [3,4] (fun J K wr=>∃i b:Nat,i<=2/\K=(iZ i)/\J=(iZ b)/\b<=16384*i/\Hid (wr=w/\b=su (yT n) i)) (fun _ K _=>2-(eB K).toNat);case atStart=>exact⟨0,0,eG _,rfl,rfl,eG _,rfl,rfl⟩
 case round=>
  obtain⟨i,b,q,rfl,rfl,Q,e⟩:=hrel;by_cases p:i<2
  .have R:(i:Int)<2:=aj;go_wp2;go_loopw [3,5] (fun J L M=>∃k c:Nat,k<=8/\L=(iZ k)/\J=(iZ c)/\c<=b+16384/\Hid (M=w/\c=b+su (fun k=>((n.x i).out k).all.length) k)) (fun _ L _=>8-(eB L).toNat);case atStart=>exact⟨0,b,eG _,rfl,rfl,aj,e.out.1,rfl⟩
   case round=>
    obtain⟨k,c,H,rfl,rfl,F,d⟩:=hrel;by_cases I:k<8
    .have h4:(k:Int)<8:=aj;obtain⟨W,X,Y,_⟩:=N.out i k p I;have T:=P;rw[<-d.out.1]at T W X Y;have iD:(⟨((n.x i).out k).all.toArray⟩:ByteArray).size=((n.x i).out k).all.length:=(kQ _).2;have O:Hid (wr=w/\c+((n.x i).out k).all.length=b+su (fun k=>((n.x i).out k).all.length) (k+1)):=⟨d.out.1,by
      have:=d.out.2;grind [su]⟩
     have h2:c+((n.x i).out k).all.length<=b+16384:=by have:=C.out i (k+1) p aj;have:=O.out.2;omega
     have h3:=A.out i k p;clear d;generalize ((n.x i).out k).all.length=m at *
     generalize (⟨((n.x i).out k).all.toArray⟩:ByteArray)=D at *
     go_wp2;grind [eB]
    .obtain rfl:k=8:=aj;have O:Hid (wr=w/\c=su (yT n) (i+1)):=⟨d.out.1,by
      have:=d.out.2;have:=e.out.2;grind [su,yT]⟩
     clear e d;go_wp2;grind [eB]
  .obtain rfl:i=2:=aj;have U:=x;have V:=y;rw[<-e.out.1]at U V;have v:Hid (wr=w/\b=yT n 0+yT n 1):=⟨e.out.1,by
    have:=e.out.2;grind [su]⟩
   clear e x y P N;by_cases F:t<u;.have G:(t:Int)<(u:Int):=aj;have Z:¬((t:Int)=0):=aj;go_wp2;go_ret;rw[r.out,Nat.min_eq_right (AB F),<-v.out.2];exact⟨qej b t Q,v.out.1⟩
   .have G:¬((t:Int)<(u:Int)):=aj;have Z:¬((u:Int)=0):=aj;go_wp2;go_ret;rw[r.out,Nat.min_eq_left (Nat.not_lt.1 F),<-v.out.2];exact⟨qej b u Q,v.out.1⟩
def Yx(h:ny oZ w a n wr)(i k)(c:i<2)(d:k<8):wr.cell? (aA a.N 1)=some (dB a.eb 2 a.ec)/\EnC wr a n i k:=by obtain⟨o,e,b,_⟩:=h;exact⟨b.cells.2.1,qek b i k c d⟩
def qel(h:ny oZ w a n wr)(q):ny oZ w a n (wr.drewN q):=by obtain⟨o,d,b,c⟩:=h;exact⟨o,d,b.below (dG wr q),c.trans (Kp.below (dG wr q))⟩
theorem TT(h:ny oZ w a n w)(B:∀i,i<2->Dne n i)(A:∀i k,i<2->((n.x i).out k).all.length<=2048):bN 19 #[aK a.N 0] w (.bool true) fun H=>ny oZ w a n H:=by
 have y:=aG h;have F:=aG B;have E:=aG A;clear h B A;go_enter func19,ntmps19;go_wp2;go_loopw [3] (fun u wr=>∃i:Nat,i<=2/\u=(iZ i)/\Hid (ny oZ w a n wr)) (fun u _=>2-(eB u).toNat);case atStart=>exact⟨0,eG _,rfl,y⟩
 case round=>
  obtain⟨i,L,rfl,z⟩:=hrel;clear y;by_cases e:i<2
  .have C:(i:Int)<2:=aj;go_wp2;go_loopw [4] (fun v x=>∃k:Nat,k<=8/\v=(iZ k)/\Hid (ny oZ w a n x)) (fun v _=>8-(eB v).toNat);case atStart=>grind
   case round=>
    obtain⟨k,M,rfl,d⟩:=hrel;clear z;by_cases g:k<8
    .have G:(k:Int)<8:=aj;obtain⟨I,J,K,f0,f1,f2,f4,f5⟩:=Yx d.out i k e g;obtain⟨_,_,_,o,p⟩:=F.out i e k g;have m:(⟨((n.x i).out k).all.toArray⟩:ByteArray).size=((n.x i).out k).all.length:=(kQ _).2;have t:=E.out i k e;rw[<-m]at t;have c:Hid (∀q,ny oZ w a n (wr.drewN q)):=fun q=>qel d.out q;clear d;cases f:((n.x i).out k).nt.bG with
     |true=>
      obtain⟨_,j⟩:=o f;rw[f]at f2;have l:¬((((n.x (1-i)).bH k).state:Int)=0):=aj;clear o p j m f;generalize (⟨((n.x i).out k).all.toArray⟩:ByteArray)=D at *
      generalize ((n.x (1-i)).bH k).state=s at *
      generalize ((n.x (1-i)).bH k).aY=r at *
      cases b:((n.x i).out k).bL with
      |true=>
       rw[b]at f1;clear b;go_wp2;go_quiet (fail);go_wp2;go_roundw;case rel=>exact⟨k+1,aj,aR,c.out _⟩
       case measure=>simp[eB];omega
      |false=>
       rw[b]at f1;clear b;go_wp2;go_quiet (fail);go_wp2;go_roundw;case rel=>exact⟨k+1,aj,aR,c.out _⟩
       case measure=>simp[eB];omega
     |false=>
      obtain⟨j,l⟩:=p f;rw[f]at f2;rw[j,<-m]at f4;clear o p j m f;generalize (⟨((n.x i).out k).all.toArray⟩:ByteArray)=D at *
      cases b:((n.x i).out k).bL with
      |true=>
       rw[b]at f1;rw[l b]at f5;clear l b;go_wp2;go_quiet (fail);go_wp2;go_roundw;case rel=>exact⟨k+1,aj,aR,c.out _⟩
       case measure=>simp[eB];omega
      |false=>
       rw[b]at f1;clear l b;go_wp2;go_quiet (fail);go_wp2;go_roundw;case rel=>exact⟨k+1,aj,aR,c.out _⟩
       case measure=>simp[eB];omega
    .obtain rfl:k=8:=aj;go_wp2;go_roundw;case rel=>exact⟨i+1,aj,aR,d⟩
     case measure=>simp[eB];omega
  .obtain rfl:i=2:=aj;go_wp2;go_ret;exact⟨rfl,z.out⟩
end Go.Proofs.YtphbledmopchnaaGreatDoor.Sd
section
set_option linter.all false
namespace Go.Proofs.YtphbledmopchnaaGreatDoor.Sd
open Go.RowKit Go.Lib Mm Tryz
variable {N:Nat}{w wr:Wq}
def Qf(a:Ad)(n:Net):Prop:=∃b T0,Fin a.aZ a.iB a.vM b T0 n
theorem qem{a n d}(h:Qf a n)(p:dU a.aZ d)(c:∀i,i<2->d.x i=n.x i)(f:d.dJ=[])(j:∀w t,NL w t n->NL w t d):Qf a d:=by obtain⟨l,T0,F⟩:=h;have e:∀i,i<2->d.x (1-i)=n.x (1-i):=fun i b=>c (1-i) aj;refine⟨l,T0,⟨p,j _ _ F.fi.nl,f,fun i b=>by rw[c i b];exact F.fi.q i b,fun i b=>by rw[c i b,e i b];exact F.fi.tp i b,fun i b=>by rw[c i b];exact F.fi.Ar i b,fun i b=>by rw[c i b,e i b];exact F.fi.an i b⟩,fun i b=>by rw[c i b];exact F.st i b,fun i b=>⟨fun k g=>?_,by rw[c i b];exact(F.q i b).2⟩,fun i b=>by rw[c i b];exact F.an i b⟩;have:=(F.q i b).1 k g;grind
section
variable {oZ:Own} {w wr:Wq} {a:Ad} {B:Nat}
theorem Qm(h:Fs oZ w a (B+1) (Qf a) wr)(c:a.aZ<=400)(i:Nat)(d:i<2):bN 23 #[aK a.N 0,iZ i] wr (.bool true) fun g=>Hid (Fs oZ w a B (Qf a) g):=by
 refine bK (PZ h c i d (fun n b=>by obtain⟨_,_,F⟩:=b;rw[F.fi.b];simp)) ?_;rintro g q;refine⟨rfl,?_⟩;obtain⟨u,⟨n,b,M,x,r,rfl,_⟩,e,p⟩:=q.out;refine⟨_,?_,e,p⟩;obtain⟨v,T0,F⟩:=id b;obtain⟨m,o⟩:=qei F i d r;subst m o;have f:(n.vO i (n.x i) []).x=n.x:=by show(fun j=>if j=i then n.x i else n.x j)=n.x;grind
 have l:(n.vO i (n.x i) []).dJ=[]:=by show n.dJ++[]=[];rw[F.fi.b];rfl
 exact qem b e (fun i _=>by rw[f]) l (fun w t k=>k.sub f (fun y s=>by grind))
theorem qj3(h:Fs oZ w a 38 (fun n=>Qf a n/\∀i,i<2->(n.x i).next+480<1073741824) wr)(d:a.aZ<=400):bN 18 #[aK a.N 0,iZ 12] wr (.bool true) fun k=>Hid (Fs oZ w a 2 (Qf a) k):=by
 obtain⟨n,t,s,p,r,o,y,m,K⟩:=h;obtain⟨⟨u,T0,F⟩,x⟩:=t;refine bK (MZ m s 12 2 aj r p d) ?_;rintro k ⟨j,g,f,b,c,q⟩;have e:({n with dJ:=[]}:Net)=n:=by have:=F.fi.b;cases n;simp_all
 rw[e]at g;obtain⟨l,_⟩:=VF F 12 j g fun i v=>by grind
 exact⟨rfl,j,⟨u,T0,l⟩,f,b,c,q.then K⟩
def qen(h:Fs oZ w a 38 (fun n=>Qf a n/\∀i,i<2->(n.x i).next+480<1073741824) wr)(d:a.aZ<=400):bN 20 #[aK a.N 0] wr (.bool true) fun e=>∃n,ny oZ w a n e:=by
 have q:=aG (qj3 h d);have l:Hid (∀b,Hid (Fs oZ w a 2 (Qf a) b)->bN 23 #[aK a.N 0,iZ 0] b (.bool true) fun e=>Hid (Fs oZ w a 1 (Qf a) e)):=fun b c=>Qm c.out d 0 aj;have m:Hid (∀b,Hid (Fs oZ w a 1 (Qf a) b)->bN 23 #[aK a.N 0,iZ 1] b (.bool true) fun e=>Hid (Fs oZ w a 0 (Qf a) e)):=fun b c=>Qm c.out d 1 aj;have p:Hid (∀b,Hid (Fs oZ w a 0 (Qf a) b)->∃f g,b.cell? (aA a.N 8)=some (.slice f 0 g)/\Hid (∃n,ny oZ w a n b)):=fun b c=>by obtain⟨n,⟨u,T0,F⟩,_,_,_,o,v,k,K⟩:=c.out;obtain⟨_,_,_,_,_,j,_⟩:=k.cells;obtain⟨f,g,rfl⟩:=iX k.bg;rw[F.fi.b]at j;exact⟨f,g,j,n,o,_,k,K⟩
 clear h;go_enter func20,ntmps20;go_wp2_with (first|(go_at_call 18;refine bK q.out ?_;rintro x r;clear q)|(go_at_call 23;refine bK (l.out _ r) ?_;rintro b c;clear l r)|(go_at_call 23;refine bK (m.out _ c) ?_;rintro y s;clear m c;obtain⟨f,g,j,t⟩:=p.out _ s;clear p s));go_ret;exact⟨rfl,t.out⟩
end


def LvP(w:Wq)(N:Nat)(wr:Wq):Prop:=∃a oZ n c b,a.N=N/\dW oZ wr a n c (ends n)/\dU a.aZ n/\qV n 90000/\iP 8192 n/\NL a.iB a.vM n/\(∀j,j<2->(n.x j).next<=196608)/\a.aZ<=400/\(16<=a.iB/\a.iB<=4096)/\(16<=a.vM/\a.vM<=4096)/\bJ w b/\Kp TN (fun _=>0) oZ b wr
def LvQ(w:Wq)(N:Nat)(wr:Wq):Prop:=∃a oZ b c,a.N=N/\a.aZ<=400/\Fs oZ b a 38 (fun n=>Qf a n/\∀i,i<2->(n.x i).next+480<1073741824) wr/\bJ w c/\Kp TN (fun _=>0) oZ c b
theorem qms(h:LvP w N wr):∃T:Nat,T<=1000000/\Hid (bN 17 #[aK N 0] wr (iZ T) fun l=>l=wr)/\Hid (bN 18 #[aK N 0,iZ T] wr (.bool true) fun l=>Hid (LvQ w N l)):=by
 obtain⟨a,oZ,n,vb,W,rfl,C,f,D,r,P,hx,d,H,G,M,K⟩:=h;have Y:dH=4611686018427387903:=rfl;obtain⟨B,o⟩:=bU (yT n 0+yT n 1);obtain⟨T,z⟩:=bU (60+2*(B / min a.iB a.vM+1)+B / 16);have O:B<=32768:=by have X:=EU (g:=fun k=>((n.x 0).out k).all.length) (c:=2048) 8 fun j _=>((f.loc 0 aj).wr j).sz;have L:=EU (g:=fun k=>((n.x 1).out k).all.length) (c:=2048) 8 fun j _=>((f.loc 1 aj).wr j).sz;unfold yT at o;omega
 have Z:T<=6300:=by have L:B / min a.iB a.vM<=B / 16:=Nat.div_le_div_left aj aj;omega
 have v:0<min a.iB a.vM:=aj;have A:=Yw C f H G;rw[<-o,<-z]at A;refine⟨T,aj,A,(MZ C f T 38 aj ⟨8192,aj,r⟩ ⟨fun i t=>fT (D.1 i t),fT D.2⟩ d).mono ?_⟩;rintro e l ⟨rfl,S,E,u,p,s,q⟩;obtain⟨m,b⟩:∃m:Net,m={n with dJ:=[]}:=⟨_,rfl⟩;have U:dU a.aZ m:=by rw[b];exact f.sub [] (fun y x=>by cases x) n.now
 have R:NL a.iB a.vM m:=by rw[b];exact P.sub rfl fun y x=>by cases x
 have I:∀i,(m.x i)=n.x i:=fun i=>by rw[b]
 have J:m.dJ=[]:=by rw[b]
 have V:yT m 0+yT m 1=B:=by rw[o,b];rfl
 rw[<-b]at E;have Q:∀i,i<2->(m.x i).next+24*T<1073741824:=fun i t=>by grind
 obtain⟨F,nx⟩:=TR U R J v ⟨H.2,G.2⟩ (by rw[I,I,r.tk 0 aj,r.tk 1 aj]) B T V z Q E;refine⟨rfl,a,oZ,wr,W,rfl,d,⟨S,⟨F,fun i t=>?_⟩,u,p,s,q⟩,M,K⟩;grind
def TU(h:LvQ w N wr):bN 19 #[aK N 0] wr (.bool true) fun f=>Hid (LvQ w N f):=by obtain⟨a,oZ,s,t,rfl,c,⟨n,e,d,m,p,o,r,l,g⟩,j,K⟩:=h;obtain⟨u,T0,F⟩:=id e.1;refine bK (TT ⟨o,r,l,Kp.refl _ _ _⟩ (fun i b=>(F.q i b).1) fun i k b=>((d.loc i b).wr k).sz) ?_;rintro f q;exact⟨rfl,a,oZ,s,t,rfl,c,⟨n,e,d,m,p,q.then g⟩,j,K⟩
def qeo(h:LvQ w N wr):bN 20 #[aK N 0] wr (.bool true) fun d=>Hid (bJ w d):=by obtain⟨a,oZ,g,i,rfl,b,hF,c,K⟩:=h;refine bK (qen hF b) ?_;rintro d ⟨n,o,f,_,e⟩;exact⟨rfl,c.trans ((IK (K.trans e)).mono c.size)⟩
theorem TV(F c A u x v)(W:mW u)(Y:mW x)(X:mW v)(w)(H:StW w F c)(Q:c.length<=140737488351232)(G:iM w)(E:mM w)(z:2<=w.heap.size):bN 10 #[.slice F c.length A,iZ u,iZ x,iZ v] w (.bool true) fun d=>bJ w d:=by
 have t:Hid (Calls prog 14 #[.slice F c.length A] w fun e d=>∃b:Bool,e=.returned (.bool b)/\Hid ((b=true->c.length<=8192/\∀j,j<c.length->(c.getD j MS).S.size<=8192)/\d=w)):=by refine(qdv c A H Q).mono ?_;rintro e d ⟨b,y,z,D⟩;exact⟨b,y,z,D⟩
 have M:Hid (∀l,l=w->bN 15 #[] l (.bool true) fun d=>Hid (bJ w d)):=fun l e=>by subst e;exact qdu l G E z
 have L:Hid (∀C,bJ w C->(c.length<=8192/\∀j,j<c.length->(c.getD j MS).S.size<=8192)->Calls prog 16 #[.slice F c.length A,nZ,iZ u,iZ x,iZ v] C fun e d=>∃N,e=.returned (.tuple #[aK N 0,.bool true])/\Hid (LvP w N d)):=fun C f I=>by refine(qdw c A u x v W Y X (H.below f) I.1 I.2 (cell_of G (f.block 0 aj)) (fun k V=>cell_of (E k V) (f.block 1 aj)) (dx z f.size)).mono ?_;rintro e d ⟨N,rfl,q⟩;obtain⟨a,oZ,l,rfl,n,p,g,b,_,⟨o,vb,q1,q2⟩,⟨m1,Z,m3⟩,K,R,nx⟩:=q.out;have l1:=dR u 337 aj;have l2:=dR x 300 aj;have l3:=dR v 600 aj;rw[<-Z,<-m3]at R;exact⟨_,rfl,a,o,n,vb,_,rfl,q1,p,⟨fun i U=>by have:=b.1 i U;grind,by have:=b.2;grind⟩,g.mono I.1,R,fun j hj=>by grind,aj,aj,aj,f,K.trans q2⟩
 clear H Q G E z;generalize c.length=m at *
 go_enter func10,ntmps10;go_wp2_with (first|(go_at_call 14;refine t.out.mono ?_;rintro e l ⟨b,rfl,y⟩;clear t)|(go_at_call 15;refine bK (M.out _ y.out.2) ?_;rintro C f;clear M)|(go_at_call 16;refine(L.out C f.out (y.out.1 Nc)).mono ?_;rintro e w3 ⟨N,rfl,D⟩;clear L y;obtain⟨T,E,r,s⟩:=qms D.out;clear D)|(go_at_call 17;refine bK r.out ?_;rintro w4 J;subst J;clear r)|(go_at_call 18;refine bK s.out ?_;rintro w5 O;clear s)|(go_at_call 19;refine bK (TU O.out) ?_;rintro w6 P;clear O)|(go_at_call 20;refine bK (qeo P.out) ?_;rintro w7 S;clear P));.go_ret;exact⟨rfl,S.out⟩
 .go_ret;exact⟨rfl,f.out⟩
