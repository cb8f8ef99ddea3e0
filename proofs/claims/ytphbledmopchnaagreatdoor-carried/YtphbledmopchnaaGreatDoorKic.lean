import Derived.Test.YtphbledmopchnaaGreatDoorKib
open List renaming getElem?_cons_succ->jK,getElem?_cons_zero->mR,length_map->nI,getD_eq_getElem?_getD->tL,getElem?_eq_getElem->tT,getElem?_drop->wz,length_append->Bu
open Nat renaming le_add_right->uj
set_option maxHeartbeats 8000000
set_option maxRecDepth 100000
namespace Go.Proofs.YtphbledmopchnaaGreatDoor.Sd
open Go.RowKit Go.Lib Mm Tryz
section
section
variable {aI:Own} {w0 w w':World} {a:Ad} {L:List (Nat×TypeId×List Value)} {n:Net}
theorem Qv(A:Side):Sm A A.ticks:=⟨fun _=>⟨rfl,rfl⟩,fun _=>⟨rfl,rfl⟩⟩
theorem JU(h:jI aI w0 a L n w)(i:Nat)(hi:i<2)(ht:(n.x i).tick+1<18446744073709551616):
  Calls prog 38 #[.pointer (some ⟨a.C i,0,none⟩)] w fun e w'=>e=.returned (.tuple #[])/\jI aI w0 a L (n.bK i (n.x i).ticks) w':=by
 obtain⟨o,vb,h1,H,I,_⟩:=h.ex;refine(Us h1 i hi ht).mono ?_;rintro e w' ⟨rfl,o',F,G⟩;exact⟨rfl,jI.go H I (F.Co fun j k _ _=>oK (Qv _) j k) (G.mono (pz i hi))⟩
theorem jI.now(h:jI aI w0 a L n w)(t:Nat):jI aI w0 a L {n with now:=t} (w.setCell ⟨a.N,4,none⟩ (.int .u64 t)):=by
 obtain⟨o,vb,h1,F,G,_⟩:=h.ex;exact jI.go F G (n':={n with now:=t}) (h1.Xd t) (Kp.set o w _ _ TN (by rw[h1.net.2];exact iM.2 (by omega)))
theorem jI.ZC(h:jI aI w0 a L n w):w.cell? ⟨a.N,4,none⟩=some (.int .u64 n.now)/\w.frozen? ⟨a.N,4,none⟩=false:=by
 obtain⟨o,vb,h1,F,G,_⟩:=h.ex;obtain⟨_,_,_,c4,_⟩:=h1.cells;exact⟨c4,h1.net.1.frozen 4⟩
theorem mU.then{own o:Own}{w w1 F:World}{n:Net}(K:Kp TN own o w w1)(h:mU o w1 a n F):mU own w a n F:=by
 obtain⟨o',vb,h1,G⟩:=h;exact⟨o',vb,h1,K.trans G⟩
theorem EO(h:jI aI w0 a L n w)(hp:dx a.aH n)(hb:ni n 0)(F:a.aH<=400)(hl:n.bD.length<=1000000000)(K Sd A B:Int)(S:ByteArray)(H:jJ A)(hB:jJ B):
  Calls prog 39 #[.pointer (some ⟨a.N,0,none⟩),.agg #[.int .i64 K,.int .i64 Sd,.int .i64 A,.int .i64 B,.string S]] w fun e w'=>e=.returned (.bool true)/\Hid (∃n',Cz a.aH n n'/\(n.bD=[]->n'=n)/\mU aI w0 a n' w'):=by
 obtain⟨o,vb,h1,G,V,_⟩:=h.ex;refine(Qs h1 hp hb F hl K Sd A B S H hB).mono ?_;rintro e w' ⟨rfl,n',I,O,U⟩;exact⟨rfl,n',I,O,U.then G⟩
end

def Net.gG(n:Net):Net:={(n.bK 0 (n.x 0).ticks).bK 1 (n.x 1).ticks with now:=n.now+1}
theorem Qw{aH:Nat}{n:Net}(h:dx aH n):dx aH n.gG:=by
 have F:dx aH {n with now:=n.now+1}:=h.sub n.bD (fun _ h=>h) (n.now+1);have h1:=gQ F 0 (by omega) (n.x 0).ticks (zF (F.loc 0 (by omega)) (F.two 0 (by omega)) (F.two' 0 (by omega))) (D8 (F.bd 0 (by omega))) rfl rfl;exact gQ h1 1 (by omega) (n.x 1).ticks (zF (h1.loc 1 (by omega)) (h1.two 1 (by omega)) (h1.two' 1 (by omega))) (D8 (h1.bd 1 (by omega))) rfl rfl
theorem yJ{n:Net}{B:Nat}(h:ni n (B+1)):ni n.gG B:=⟨fun i hi=>by
 have h1:=h.1 i hi
 have e:(n.gG.x i).next=(n.x i).next/\(n.gG.x i).tick=(n.x i).tick+1:=by
  rcases(show i=0\/i=1 by omega)with rfl|rfl<;>exact⟨rfl,rfl⟩
 rw[e.1,e.2];omega,by have:=h.2;show n.now+1+B<_;omega⟩
section
variable {own:Own} {w:World} {a:Ad} {n:Net} {vb:Value}
theorem JV(h:bE own w a n vb (ends n))(hp:dx a.aH n)(hb:ni n 1)(h6:a.aH<=400)(hl:n.bD.length<=1000000000)(Sd A B:Int)(h8:jJ Sd)(hA:jJ A)(hB:jJ B)(S:ByteArray):
  Calls prog 22 #[.pointer (some ⟨a.N,0,none⟩),.agg #[.int .i64 5,.int .i64 Sd,.int .i64 A,.int .i64 B,.string S]] w fun e w'=>e=.returned (.bool true)/\∃n',Cz a.aH n.gG n'/\(n.bD=[]->n'=n.gG)/\mU own w a n' w':=by
 obtain⟨i,p1⟩:∃i,aV Sd 2=i:=⟨_,rfl⟩
 have hi:i<2:=by rw[<-p1];exact bL Sd 2 (by omega)
 have hk:aV A 8<8:=bL A 8 (by omega);have G:=(uy h).alloc 37 (nu 5 Sd A B S);obtain⟨w1,H⟩:∃w1,w1=w.alloc (.cells (nu 5 Sd A B S).toArray 37):=⟨_,rfl⟩;rw[<-H]at G;have b0:=G.cell (.head _) 0;have b1:=G.cell (.head _) 1;have b2:=G.cell (.head _) 2;obtain⟨c0,x1⟩:=G.xc i hi;simp only[nu,mR,jK]at b0 b1 b2;obtain⟨c4,z4⟩:=G.ZC;have h2:=hb.1 0 (by omega);have h5:=hb.1 1 (by omega);have h9:=hb.2;have U:=G.now (n.now+1);obtain⟨w2,I⟩:∃w2,w2=w1.setCell ⟨a.N,4,none⟩ (.int .u64 ((n.now+1:Nat):Int)):=⟨_,rfl⟩;rw[<-I]at U;obtain⟨d0,y0⟩:=U.xc 0 (by omega);have O:=hid (JU U 0 (by omega) (by show(n.x 0).tick+1<_;omega))
 have h0:Hid (∀V,jI (loc own w.heap.size) w a [(w.heap.size,37,nu 5 Sd A B S)] (Net.bK {n with now:=n.now+1} 0 (n.x 0).ticks) V->Calls prog 38 #[.pointer (some ⟨a.C 1,0,none⟩)] V fun e w'=>e=.returned (.tuple #[])/\jI (loc own w.heap.size) w a [(w.heap.size,37,nu 5 Sd A B S)] n.gG w'):=
  fun V h3=>JU h3 1 (by omega) (by show(n.x 1).tick+1<_;omega)
 have HC:Hid (∀X,jI (loc own w.heap.size) w a [(w.heap.size,37,nu 5 Sd A B S)] n.gG X->Calls prog 39 #[.pointer (some ⟨a.N,0,none⟩),.agg #[.int .i64 5,.int .i64 Sd,.int .i64 A,.int .i64 B,.string S]] X fun e w'=>e=.returned (.bool true)/\Hid (∃n',Cz a.aH n.gG n'/\(n.bD=[]->n'=n.gG)/\mU own w a n' w')):=fun X h4=>by
  refine(EO h4 (Qw hp) (yJ hb) h6 hl 5 Sd A B S hA hB).mono ?_;rintro e w' ⟨rfl,n',q1,q2,q3⟩;exact⟨rfl,n',q1,q2,q3.iN⟩
 have EM:w.alloc (.cells #[.int .i64 5,.int .i64 Sd,.int .i64 A,.int .i64 B,.string S] 37)=w1:=H.symm;have hc:w1.setCell ⟨a.N,4,none⟩ (.int .u64 ((n.now:Int)+1))=w2:=I.symm
 have ha:(i:Int)<2:=by omega
 clear H I h hp hb G U h2 h5;go_enter func22,ntmps22
 go_wp2_with (first
  |(go_at_call 32;refine(iK _ _ (by assumption) (by decide) _).mono ?_;rintro ee X ⟨rfl,h7⟩;subst h7)
  |(go_at_call 38;refine O.out.mono ?_;rintro ee V ⟨rfl,F⟩;clear O;have HQ:=hid F;obtain⟨d1,y1⟩:=F.xc 1 (by omega);clear F)
  |(go_at_call 38;refine(h0.out _ HQ.out).mono ?_;rintro ee w5 ⟨rfl,F⟩;have Z:=hid F;have s0:=F.cell (.head _) 0;have s1:=F.cell (.head _) 1;have s2:=F.cell (.head _) 2;have s3:=F.cell (.head _) 3;have s4:=F.cell (.head _) 4;simp only[nu,mR,jK]at s0 s1 s2 s3 s4;clear F)
  |(go_at_call 39;refine(HC.out _ Z.out).mono ?_;rintro ee w6 ⟨rfl,F⟩))
 go_ret;exact⟨rfl,F.out⟩
theorem Qx(h:bE own w a n vb (ends n))(hp:dx a.aH n)(hb:ni n 0)(H:a.aH<=400)(hl:n.bD.length<=1000000000)(K Sd A B:Int)(k1:¬K=1)(k2:¬K=2)(k3:¬K=3)(k4:¬K=4)(k5:¬K=5)(k6:¬K=6)(h3:¬K=10)(h0:jJ Sd)(Z:jJ A)(hB:jJ B)(S:ByteArray):
  Calls prog 22 #[.pointer (some ⟨a.N,0,none⟩),.agg #[.int .i64 K,.int .i64 Sd,.int .i64 A,.int .i64 B,.string S]] w fun e w'=>e=.returned (.bool true)/\∃n',Cz a.aH n n'/\mU own w a n' w':=by
 obtain⟨i,p1⟩:∃i,aV Sd 2=i:=⟨_,rfl⟩
 have hi:i<2:=by rw[<-p1];exact bL Sd 2 (by omega)
 have hk:aV A 8<8:=bL A 8 (by omega);have F:=(uy h).alloc 37 (nu K Sd A B S);obtain⟨w1,G⟩:∃w1,w1=w.alloc (.cells (nu K Sd A B S).toArray 37):=⟨_,rfl⟩;rw[<-G]at F;have b0:=F.cell (.head _) 0;have U:=F.cell (.head _) 1;have b2:=F.cell (.head _) 2;have b3:=F.cell (.head _) 3;have V:=F.cell (.head _) 4;obtain⟨c0,x1⟩:=F.xc i hi;simp only[nu,mR,jK]at b0 U b2 b3 V
 have O:Hid (Calls prog 39 #[.pointer (some ⟨a.N,0,none⟩),.agg #[.int .i64 K,.int .i64 Sd,.int .i64 A,.int .i64 B,.string S]] w1 fun e w'=>e=.returned (.bool true)/\Hid (∃n',Cz a.aH n n'/\mU own w a n' w')):=by
  refine(EO F hp hb H hl K Sd A B S Z hB).mono ?_;rintro e w' ⟨rfl,n',q1,q2,q3⟩;exact⟨rfl,n',q1,q3.iN⟩
 have EM:w.alloc (.cells #[.int .i64 K,.int .i64 Sd,.int .i64 A,.int .i64 B,.string S] 37)=w1:=G.symm
 have h2:(i:Int)<2:=by omega
 clear G h hp hb F;go_enter func22,ntmps22
 go_wp2_with (first
  |(go_at_call 32;refine(iK _ _ (by assumption) (by decide) _).mono ?_;rintro X w4 ⟨rfl,I⟩;subst I)
  |(go_at_call 39;refine O.out.mono ?_;rintro X w6 ⟨rfl,hr⟩))
 go_ret;exact⟨rfl,hr.out⟩
structure StO (aH B:Nat) (n n':Net):Prop where
 p:dx aH n'
 nb:ni n' B
 bl:n'.bD.length<=n.bD.length+24
theorem Cz.sto{aH B:Nat}{n n0 n':Net}(h:Cz aH n0 n')(hb:ni n0 B)(hl:n0.bD=n.bD):StO aH B n n':=⟨h.p,h.nb hb,by have:=h.bl;rw[hl]at this;omega⟩
theorem UF(h:bE own w a n vb (ends n))(hp:dx a.aH n)(X:Nat)(hb:ni n (X+1))(G:a.aH<=400)(hl:n.bD.length<=1000000000)(K Sd A B:Int)(k3:K≠3)(k4:K≠4)(F:jJ Sd)(H:jJ A)(hB:jJ B)(S:ByteArray)(hS:S.size<=1000000):
  Calls prog 22 #[.pointer (some ⟨a.N,0,none⟩),.agg #[.int .i64 K,.int .i64 Sd,.int .i64 A,.int .i64 B,.string S]] w fun e w'=>e=.returned (.bool true)/\∃n',StO a.aH X n n'/\mU own w a n' w':=by
 have hi:aV Sd 2<2:=bL Sd 2 (by omega)
 by_cases k1:K=1
 ·subst k1;refine(JR h hp Sd A B F H S hS).mono ?_;rintro e w' ⟨rfl,q⟩;exact⟨rfl,_,⟨gQ hp _ hi _ (CS (hp.loc _ hi) (hp.two _ hi) (hp.two' _ hi) _ _) (Jm (hp.bd _ hi) _ _) rfl rfl,hb.less.bK _ rfl rfl,uj _ _⟩,q⟩
 by_cases k2:K=2
 ·subst k2;refine(AB h hp Sd A B F H S).mono ?_;rintro e w' ⟨rfl,q⟩;exact⟨rfl,_,⟨gQ hp _ hi _ (wD (hp.loc _ hi) (hp.two _ hi) (hp.two' _ hi) _) (Ab (hp.bd _ hi) _) rfl rfl,hb.less.bK _ rfl rfl,uj _ _⟩,q⟩
 by_cases Z:K=5
 ·subst Z;refine(JV h hp ⟨fun i hi=>by have:=hb.1 i hi;omega,by have:=hb.2;omega⟩ G hl Sd A B F H hB S).mono ?_;rintro e w' ⟨rfl,n',O,U,V⟩;exact⟨rfl,n',O.sto (yJ hb) rfl,V⟩
 by_cases k6:K=6
 ·subst k6;refine(Qu h hp hb.to G hl Sd A B F H S).mono ?_;rintro e w' ⟨rfl,M,pk,O,U,V⟩;refine⟨rfl,_,⟨Qj hp _ hi U,Ql hb _ U (EK O),?_⟩,V⟩;show(n.bD++(Ay pk).map _).length<=_;rw[Bu,nI];unfold Ay;rw[nI];have:=U.next;have:=U.top;omega
 by_cases I:K=10
 ·subst I;refine(UE h hp Sd A B F H hB S).mono ?_;rintro e w' ⟨rfl,q⟩;exact⟨rfl,_,⟨gQ hp _ hi _ (CU (hp.loc _ hi) (hp.two _ hi) (hp.two' _ hi) _ _) (Jo (hp.bd _ hi) _ _) rfl rfl,hb.less.bK _ rfl rfl,uj _ _⟩,q⟩
 refine(Qx h hp hb.to G hl K Sd A B k1 k2 k3 k4 Z k6 I F H hB S).mono ?_;rintro e w' ⟨rfl,n',O,V⟩;exact⟨rfl,n',O.sto hb.less rfl,V⟩
end

end
section
def VG:Nat->Net->Net->Prop
 |0,n,n'=>n'=n
 |i+1,n,n'=>∃n1,VG i n n1/\∃M pk,(n1.x i).mQ M pk/\n'=n1.JM i M pk
def VH(l:List (Nat×Nat×List Fr)):Nat->Net->Net->Prop
 |0,n,n'=>n'=n
 |j+1,n,n'=>∃n1,VH l j n n1/\(∀f∈(l.getD j (0,0,[])).2.2,f.kind≠3)/\∃M,(n1.x (l.getD j (0,0,[])).1).h_ (l.getD j (0,0,[])).2.1 (l.getD j (0,0,[])).2.2 M 0/\n'=n1.bK (l.getD j (0,0,[])).1 M
def UG(n:Net)(i k:Nat):Net:=n.bK i ((n.x i).bP k (((n.x i).inn k).rd (4096:Nat)).2)
def MX:Nat->Net->Net->Prop
 |0,n,n'=>n'=n
 |c+1,n,n'=>∃n1,MX c n n1/\RdK ((n1.x (1-c / 8)).out (c % 8)) ((n1.x (c / 8)).inn (c % 8)) 4096/\n'=UG n1 (c / 8) (c % 8)
def RoR(n n':Net):Prop:=∃n2,VG 2 n.gG n2/\∃n3,VH n2.bD n2.bD.length {n2 with bD:=[]} n3/\MX 16 n3 n'
def CB:Nat->Net->Net->Prop
 |0,n,n'=>n'=n
 |t+1,n,n'=>∃n1,CB t n n1/\RoR n1 n'
structure AJ (aI:Own) (w0:World) (a:Ad) (l:List (Nat×Nat×List Fr)) (vl:Value) (B:Nat) (n:Net) (w:World):Prop where
 ex:∃o vb,bE o w a n vb (ends n)/\Kp TN aI o w0 w/\GT o 204 62 2 w vl l.length (fJ l)
 p:dx a.aH {n with bD:=l}
 nb:ni n B
 b0:n.bD=[]
section
variable {aI:Own} {w0 w w':World} {a:Ad} {l:List (Nat×Nat×List Fr)} {vl:Value} {n:Net} {B:Nat}
theorem AJ.below(h:AJ aI w0 a l vl B n w)(hb:Below w.heap.size w w'):AJ aI w0 a l vl B n w':=by
 obtain⟨o,vb,h1,F,G⟩:=h.ex;exact⟨⟨o,vb,h1.below hb,F.trans (Kp.below hb),G.kp (Kp.below (T:=[]) hb) (by simp)⟩,h.p,h.nb,h.b0⟩
theorem AJ.xc(h:AJ aI w0 a l vl B n w)(i:Nat)(hi:i<2):w.cell? ⟨a.N,0,none⟩=some (.slice (some ⟨a.xb,0,none⟩) 2 a.xc)/\w.cell? ⟨a.xb,i,none⟩=some (.pointer (some ⟨a.C i,0,none⟩)):=by
 obtain⟨o,vb,h1,F,G⟩:=h.ex;exact⟨h1.cells.1,(h1.xs i hi).1⟩
theorem Xl{own:Own}(h:GT own 204 62 2 w vl l.length (fJ l))(k:Nat)(H:k<l.length):∃g c,vl=.slice (some ⟨g,0,none⟩) l.length c/\w.cell? ⟨g,k*2,none⟩=some (.int .i64 ((l.getD k (0,0,[])).1:Int))/\w.cell? ⟨g,k*2+1,none⟩=some (sV (aD (l.getD k (0,0,[])).2.1 (l.getD k (0,0,[])).2.2)):=by
 rcases h with⟨_,e,_⟩|⟨g,cap,cs,ev,ho,hB,hc1,hc2,hc3,hc4,Et,_⟩
 ·omega
 have hd:(fJ l).drop (k*2)=fJ (l.drop k):=(oJ l k).symm
 have G:l.drop k=l.getD k (0,0,[])::l.drop (k+1):=by
  rw[List.drop_eq_getElem_cons H,tL,tT H];rfl
 have F:∀j v,j<l.length*2->(fJ l)[j]?=some v->w.cell? ⟨g,j,none⟩=some v:=fun j v O I=>by
  rw[hB.cell];rw[<-Et,List.getElem?_take,if_pos O]at I;exact I
 refine⟨g,cap,ev,F _ _ (by omega) ?_,F _ _ (by omega) ?_⟩
 ·have:((fJ l).drop (k*2))[0]?=(fJ l)[k*2]?:=by rw[wz];rfl
  rw[<-this,hd,G];rfl
 ·have:((fJ l).drop (k*2))[1]?=(fJ l)[k*2+1]?:=by rw[wz]
  rw[<-this,hd,G];rfl
theorem AJ.at(h:AJ aI w0 a l vl B n w)(k:Nat)(G:k<l.length):∃g c,vl=.slice (some ⟨g,0,none⟩) l.length c/\w.cell? ⟨g,k*2,none⟩=some (.int .i64 ((l.getD k (0,0,[])).1:Int))/\w.cell? ⟨g,k*2+1,none⟩=some (sV (aD (l.getD k (0,0,[])).2.1 (l.getD k (0,0,[])).2.2)):=by
 obtain⟨o,vb,h1,H,F⟩:=h.ex;exact Xl F k G
theorem AJ.mem(h:AJ aI w0 a l vl B n w)(k:Nat)(F:k<l.length):(l.getD k (0,0,[])).1<2/\Eu a.aH (n.x (1-(l.getD k (0,0,[])).1)) (n.x (l.getD k (0,0,[])).1) (l.getD k (0,0,[])).2:=
 h.p.bD (l.getD k (0,0,[])) (by rw[tL,tT F];exact List.getElem_mem _)
theorem UH(h:AJ aI w0 a l vl B n w)(O:a.aH<=400)(k:Nat)(hk:k<l.length):
  Calls prog 29 #[.pointer (some ⟨a.C (l.getD k (0,0,[])).1,0,none⟩),sV (aD (l.getD k (0,0,[])).2.1 (l.getD k (0,0,[])).2.2)] w fun e w'=>e=.returned (.tuple #[.int .i64 0,.int .i64 (-1)])/\∃M,(n.x (l.getD k (0,0,[])).1).h_ (l.getD k (0,0,[])).2.1 (l.getD k (0,0,[])).2.2 M 0/\(∀f∈(l.getD k (0,0,[])).2.2,f.kind≠3)/\AJ aI w0 a l vl B (n.bK (l.getD k (0,0,[])).1 M) w':=by
 obtain⟨o,vb,h1,Z,h3⟩:=h.ex;obtain⟨hi,G⟩:=h.mem k hk;generalize l.getD k (0,0,[])=y at *
 have F:dx a.aH n:=by
  have:=h.p.sub [] (fun y G=>by cases G) n.now
  have e:n={n with bD:=[]}:=by
   have:=h.b0;cases n;simp_all
  rw[e];exact this
 have H:∀f∈y.2.2,f.kind≠3:=fun f hf=>by rcases(G.fr f hf).kd with e|e|e|e<;>omega
 refine(JG h1 F h.nb.to y.1 hi y.2 G O).mono ?_;rintro e w' ⟨rfl,U,I,o',X,V⟩;have s:=yD H I;have h0:=(h.nb.1 (1-y.1) (by omega)).1;obtain⟨_,st,b,nx,mt⟩:=D7 (F.loc y.1 hi) (F.loc (1-y.1) (by omega)) (F.two y.1 hi) (F.two' y.1 hi) (F.bd y.1 hi) (F.bd (1-y.1) (by omega)) y.2.1 y.2.2 G.lt (by omega) G.fr I;exact⟨rfl,U,I,H,⟨o',vb,X.Co fun j k _ _=>oK s j k,Z.trans (V.mono (pz y.1 hi)),h3.kp V (fun e=>by have:=bG.1 e;omega)⟩,gQ h.p y.1 hi U st b mt nx,h.nb.bK y.1 nx (EJ I),h.b0⟩
theorem UJ(h:AJ aI w0 a l vl B n w)(i:Nat)(hi:i<2):
  Calls prog 30 #[.pointer (some ⟨a.N,0,none⟩),.int .i64 i] w fun e w'=>e=.returned (.bool true)/\AJ aI w0 a l vl B n w':=by
 obtain⟨o,vb,h1,H,I⟩:=h.ex;refine(JH h1 i hi).mono ?_;rintro e w' ⟨rfl,o',G,F⟩;exact⟨rfl,⟨o',vb,G,H.trans (F.mono (pz i hi)),I.kp F (fun e=>by have:=bG.1 e;omega)⟩,h.p,h.nb,h.b0⟩
end

end
section
def FsQ(own:Own)(w:World)(a:Ad)(B:Nat)(P:Net->Prop)(w':World):Prop:=∃n,P n/\dx a.aH n/\ni n B/\mU own w a n w'
section
variable {own:Own} {w wr:World} {a:Ad} {B:Nat} {P Q:Net->Prop}
theorem FsQ.imp(h:FsQ own w a B P wr)(hi:∀n,P n->Q n):FsQ own w a B Q wr:=by
 obtain⟨n,p,q⟩:=h;exact⟨n,hi n p,q⟩
theorem UK(h:FsQ own w a (B+1) P wr)(G:a.aH<=400)(I:∀n,P n->n.bD=[]):
  Calls prog 22 #[.pointer (some ⟨a.N,0,none⟩),.agg #[.int .i64 5,.int .i64 0,.int .i64 0,.int .i64 0,.string ⟨#[]⟩]] wr fun e w'=>e=.returned (.bool true)/\Hid (FsQ own w a B (fun n'=>∃n,P n/\n'=n.gG) w'):=by
 obtain⟨n,p,hp,hb,o,vb,O,K⟩:=h
 have H:jJ 0:=by unfold jJ;omega
 have F:=I n p;refine(JV O hp ⟨fun i hi=>by have:=hb.1 i hi;omega,by have:=hb.2;omega⟩ G (by rw[F];simp) 0 0 0 H H H ⟨#[]⟩).mono ?_;rintro e w' ⟨rfl,n',U,V,X⟩;obtain rfl:=V F;exact⟨rfl,n.gG,⟨n,p,rfl⟩,U.p,yJ hb,X.then K⟩
theorem Qy(h:FsQ own w a (B+1) P wr)(G:a.aH<=400)(i:Nat)(hi:i<2)(I:∀n,P n->n.bD.length<=1000):
  Calls prog 23 #[.pointer (some ⟨a.N,0,none⟩),.int .i64 i] wr fun e w'=>e=.returned (.bool true)/\Hid (FsQ own w a B (fun n'=>∃n,P n/\∃M pk,(n.x i).mQ M pk/\n'=n.JM i M pk/\n'.bD.length<=n.bD.length+24) w'):=by
 obtain⟨n,p,hp,hb,o,vb,O,K⟩:=h;have U:=I n p;refine(EI O hp hb.to i hi G (by omega)).mono ?_;rintro e w' ⟨rfl,M,pk,H,F,V⟩;refine⟨rfl,n.JM i M pk,⟨n,p,M,pk,H,rfl,?_⟩,Qj hp i hi F,Ql hb i F (EK H),V.then K⟩;show(n.bD++(Ay pk).map _).length<=_;rw[Bu,nI];unfold Ay;rw[nI];have:=F.next;have:=F.top;omega
theorem UL(h:FsQ own w a B P wr)(i k:Nat)(hi:i<2)(G:k<8):
  Calls prog 31 #[.pointer (some ⟨a.N,0,none⟩),.int .i64 i,.int .i64 k,.int .i64 4096] wr fun e w'=>e=.returned (.bool true)/\Hid (FsQ own w a B (fun n'=>∃n,P n/\RdK ((n.x (1-i)).out k) ((n.x i).inn k) 4096/\n'=UG n i k) w'):=by
 obtain⟨n,p,hp,hb,o,vb,F,K⟩:=h;refine(JK F hp i k 4096 hi G (by omega)).mono ?_;rintro e w' ⟨rfl,H⟩;exact⟨rfl,_,⟨n,p,Qi ((hp.two' i hi).rd k) 4096,rfl⟩,gQ hp _ hi _ (CU (hp.loc _ hi) (hp.two _ hi) (hp.two' _ hi) _ _) (Jo (hp.bd _ hi) _ _) rfl rfl,hb.bK _ rfl rfl,H.then K⟩
theorem Qz(h:FsQ own w a B P wr):∃G n0 c0,wr.cell? ⟨a.N,8,none⟩=some (.slice G n0 c0)/\wr.frozen? ⟨a.N,8,none⟩=false/\Hid (∃n,P n/\n0=n.bD.length/\AJ own w a n.bD (.slice G n0 c0) B {n with bD:=[]} (wr.setCell ⟨a.N,8,none⟩ (.slice none 0 0))):=by
 obtain⟨n,p,hp,hb,o,vb,F,K⟩:=h;obtain⟨_,_,_,_,_,c8,_⟩:=F.cells;obtain⟨G,c0,rfl⟩:=fV F.bg;have H:Kp [200] o o wr (wr.setCell ⟨a.N,8,none⟩ (.slice none 0 0)):=Kp.set o wr _ _ _ (by rw[F.net.2];simp);exact⟨G,_,c0,c8,F.net.1.frozen 8,n,p,rfl,⟨o,_,F.Qf [] (.inl ⟨rfl,rfl,rfl⟩),K.trans (H.mono fun x I=>iM.2 (by simp at I;omega)),F.bg.kp H (by simp)⟩,hp,hb,rfl⟩
theorem AJ.fs{l:List (Nat×Nat×List Fr)}{vl:Value}{n:Net}(h:AJ own w a l vl B n wr)(p:P n):FsQ own w a B P wr:=by
 obtain⟨o,vb,h1,G,I⟩:=h.ex
 have F:dx a.aH n:=by
  have:=h.p.sub [] (fun y H=>by cases H) n.now
  have e:n={n with bD:=[]}:=by
   have:=h.b0;cases n;simp_all
  rw[e];exact this
 exact⟨n,p,F,h.nb,o,vb,h1,G⟩
end

theorem QA(c i j:Nat)(h1:c / 8=i)(F:c % 8=j){n3 n4:Net}(h:MX c n3 n4)(p:RdK ((n4.x (1-i)).out j) ((n4.x i).inn j) 4096):MX (c+1) n3 (UG n4 i j):=by
 subst h1 F;exact⟨n4,h,p,rfl⟩
def RoC(n n3:Net):Prop:=∃n2,VG 2 n.gG n2/\VH n2.bD n2.bD.length {n2 with bD:=[]} n3
theorem UM{own:Own}{w:World}{a:Ad}{n:Net}{vb:Value}(h:bE own w a n vb (ends n))(hp:dx a.aH n)(T:Nat)(hT:T<=1000000)(hb:ni n (3*T))(h3:a.aH<=400):
  Calls prog 18 #[.pointer (some ⟨a.N,0,none⟩),.int .i64 T] w fun e w'=>e=.returned (.bool true)/\FsQ own w a 0 (CB T {n with bD:=[]}) w':=by
 have I:Hid (FsQ own w a (3*T) (fun n'=>n'=n) w):=⟨n,rfl,hp,hb,own,vb,h,Kp.refl _ _ _⟩;obtain⟨a0,n0,c0,c8,z8,hD⟩:=Qz I.out;obtain⟨w1,hx⟩:∃w1,w.setCell ⟨a.N,8,none⟩ (.slice none 0 0)=w1:=⟨_,rfl⟩;rw[hx]at hD
 have H0:Hid (FsQ own w a (3*(T-0)) (fun n'=>CB 0 {n with bD:=[]} n'/\n'.bD=[]) w1):=by
  obtain⟨n1,rfl,_,h1⟩:=hD.out;exact h1.fs ⟨rfl,rfl⟩
 clear h hp hb I hD;go_enter func18,ntmps18;go_wp2
 go_loopw [5] (fun s5 wr=>∃t:Nat,t<=T/\s5=.int .i64 t/\Hid (FsQ own w a (3*(T-t)) (fun n'=>CB t {n with bD:=[]} n'/\n'.bD=[]) wr)) (fun s5 _=>T-(intOf s5).toNat)
 case atStart=>exact⟨0,Nat.zero_le _,rfl,H0⟩
 case round=>
  obtain⟨t,ht,rfl,F⟩:=hrel;clear H0 c8 z8 hx
  by_cases xf:t<T
  ·have x7:(t:Int)<(T:Int):=by omega
   obtain⟨B,hB⟩:∃B,B=3*(T-(t+1)):=⟨_,rfl⟩;have HB:=hid hB
   have e3:3*(T-t)=B+2+1:=by omega
   have V:=hid (UK (P:=fun n'=>CB t {n with bD:=[]} n'/\n'.bD=[]) (by have:=F.out;rw[e3]at this;exact this) h3 (fun n h=>h.2));clear F e3 hB
   go_wp2_with (go_at_call 22;refine V.out.mono ?_;rintro e w2 ⟨rfl,X⟩)
   clear V
   have hc:Hid (FsQ own w a (B+2-0) (fun n'=>∃n1,CB t {n with bD:=[]} n1/\VG 0 n1.gG n'/\n'.bD.length<=24*0) w2):=X.out.imp (by
    rintro n' ⟨n1,⟨p1,p2⟩,rfl⟩
    exact⟨n1,p1,rfl,by show n1.bD.length<=_;rw[p2];simp⟩)
   clear X
   go_loopw [6,7] (fun s6 s7 wr=>s6=.bool true/\∃i:Nat,i<=2/\s7=.int .i64 i/\Hid (FsQ own w a (B+2-i) (fun n'=>∃n1,CB t {n with bD:=[]} n1/\VG i n1.gG n'/\n'.bD.length<=24*i) wr)) (fun _ s7 _=>2-(intOf s7).toNat)
   case atStart=>exact⟨rfl,0,by omega,rfl,hc⟩
   case round=>
    obtain⟨rfl,i,hi,rfl,F⟩:=hrel;clear hc
    by_cases Uo:i<2
    ·have Yv:(i:Int)<2:=by omega
     have e2:B+2-i=B+2-(i+1)+1:=by omega
     have V:=hid (Qy (P:=fun n'=>∃n1,CB t {n with bD:=[]} n1/\VG i n1.gG n'/\n'.bD.length<=24*i) (by have:=F.out;rw[e2]at this;exact this) h3 i Uo (fun n h=>by obtain⟨_,_,_,q⟩:=h;omega));clear F e2
     go_wp2_with (go_at_call 23;refine V.out.mono ?_;rintro e w2 ⟨rfl,X⟩)
     clear V
     have I:Hid (FsQ own w a (B+2-(i+1)) (fun n'=>∃n1,CB t {n with bD:=[]} n1/\VG (i+1) n1.gG n'/\n'.bD.length<=24*(i+1)) w2):=X.out.imp (by
      rintro n' ⟨n2,⟨n1,p1,p2,p3⟩,M,pk,p4,p5,p6⟩
      exact⟨n1,p1,⟨n2,p2,M,pk,p4,p5⟩,by omega⟩)
     clear X;go_roundw
     case rel=>exact⟨rfl,i+1,by omega,by simp,I⟩
     case measure=>simp[intOf];omega
    ·obtain rfl:i=2:=by omega
     obtain⟨a0,n0,c0,c8,z8,hD⟩:=Qz F.out;obtain⟨w3,x2⟩:∃w3,wr.setCell ⟨a.N,8,none⟩ (.slice none 0 0)=w3:=⟨_,rfl⟩;rw[x2,show B+2-2=B by omega]at hD;obtain⟨n2,⟨n1,p1,p2,p3⟩,hv,hu⟩:=hD.out;have qB:=hid (And.intro p1 p2);have hf:=hid hv
     have xi:n0<=48:=by omega
     have ha:Hid (∃n3,VH n2.bD 0 {n2 with bD:=[]} n3/\AJ own w a n2.bD (.slice a0 n0 c0) B n3 w3):=⟨_,rfl,hu⟩;clear hD p1 p2 p3 hv hu F;simp only[show((2:Nat):Int)=2 from rfl];go_wp2;clear c8 z8 x2
     go_loopw [6,10] (fun s6 h7 wr=>s6=.bool true/\∃k:Nat,k<=n0/\h7=.int .i64 k/\Hid (∃n3,VH n2.bD k {n2 with bD:=[]} n3/\AJ own w a n2.bD (.slice a0 n0 c0) B n3 wr)) (fun _ h7 _=>n0-(intOf h7).toNat)
     case atStart=>exact⟨rfl,0,Nat.zero_le _,rfl,ha⟩
     case round=>
      obtain⟨rfl,k,hk,rfl,F⟩:=hrel;clear ha
      by_cases xe:k<n0
      ·have Yx:(k:Int)<(n0:Int):=by omega
       obtain⟨n3,q1,q2⟩:=F.out
       have U:k<n2.bD.length:=by have:=hf.out;omega
       obtain⟨g,cg,ev,d0,d1⟩:=q2.at k U;obtain⟨G,x3⟩:=q2.mem k U
       have h4:=fun w' hb=>UH (q2.below (w':=w') hb) h3 k U
       obtain⟨y,Z⟩:∃y,y=n2.bD.getD k (0,0,[]):=⟨_,rfl⟩;simp only[Value.slice.injEq]at ev;obtain⟨rfl,hz,rfl⟩:=ev;clear hz;obtain⟨i,H⟩:∃i,i=y.1:=⟨_,rfl⟩;obtain⟨D,O⟩:∃D:ByteArray,D=⟨(aD y.2.1 y.2.2).toArray⟩:=⟨_,rfl⟩;unfold sV at d1 h4;rw[<-Z]at d0 d1 G x3;rw[<-H]at d0 G;rw[<-O]at d1;obtain⟨x0,x1⟩:=q2.xc i G
       have hm:Hid (Calls prog 29 #[.pointer (some ⟨a.C i,0,none⟩),.string D] wr.drew fun e w5=>e=.returned (.tuple #[.int .i64 0,.int .i64 (-1)])/\(w5.cell? ⟨a.N,0,none⟩=some (.slice (some ⟨a.xb,0,none⟩) 2 a.xc)/\w5.cell? ⟨a.xb,i,none⟩=some (.pointer (some ⟨a.C i,0,none⟩))/\w5.cell? ⟨g,k*2,none⟩=some (.int .i64 i)/\w5.cell? ⟨g,k*2+1,none⟩=some (.string D))/\Hid (∃n4,VH n2.bD (k+1) {n2 with bD:=[]} n4/\AJ own w a n2.bD (.slice (some ⟨g,0,none⟩) n0 c0) B n4 w5)):=by
        have h5:=h4 wr.drew ⟨rfl,rfl,rfl,Nat.le_refl _,fun _ _=>rfl⟩;rw[<-Z,<-H,<-O]at h5;refine h5.mono ?_;rintro e w5 ⟨rfl,M,r1,r2,r3⟩;obtain⟨g',x8,hr,ho,h0⟩:=r3.at k U;simp only[Value.slice.injEq,Option.some.injEq,Addr.mk.injEq]at hr;obtain⟨⟨rfl,_,_⟩,_,_⟩:=hr;unfold sV at h0;rw[<-Z,<-H]at ho;rw[<-Z,<-O]at h0;refine⟨rfl,⟨(r3.xc i G).1,(r3.xc i G).2,ho,h0⟩,_,⟨n3,q1,?_,M,?_,rfl⟩,?_⟩
        ·rw[<-Z];exact r2
        ·rw[<-Z,<-H];exact r1
        ·rw[<-Z,<-H];exact r3
       have x9:(0:Int)<=(i:Int):=by omega
       have xa:(i:Int)<2:=by omega
       have xd:(0:Int)<=(k:Int):=by omega
       clear h4 Z H O x3 q1 q2 F;go_wp2
       go_region_held3 (fun y=>y.cell? ⟨a.N,0,none⟩=some (.slice (some ⟨a.xb,0,none⟩) 2 a.xc)/\y.cell? ⟨a.xb,i,none⟩=some (.pointer (some ⟨a.C i,0,none⟩))/\y.cell? ⟨g,k*2,none⟩=some (.int .i64 i)/\y.cell? ⟨g,k*2+1,none⟩=some (.string D)) (first|assumption|go_keep) ((first|(go_at_call 29;refine hm.out.mono ?_;rintro e w5 ⟨rfl,x5,hw⟩)))
       obtain⟨_,_,s0,_⟩:=x5
       have x4:Hid (Calls prog 30 #[.pointer (some ⟨a.N,0,none⟩),.int .i64 i] w5 fun e w6=>e=.returned (.bool true)/\Hid (∃n4,VH n2.bD (k+1) {n2 with bD:=[]} n4/\AJ own w a n2.bD (.slice (some ⟨g,0,none⟩) n0 c0) B n4 w6)):=by
        obtain⟨n4,r1,r2⟩:=hw.out;refine(UJ r2 i G).mono ?_;rintro e w6 ⟨rfl,r3⟩;exact⟨rfl,n4,r1,r3⟩
       clear hw d0 d1 x0 x1 hm
       go_wp2_with (go_at_call 30;refine x4.out.mono ?_;rintro e w6 ⟨rfl,h6⟩)
       go_roundw
       case rel=>exact⟨rfl,k+1,by omega,by simp,h6⟩
       case measure=>simp[intOf];omega
      ·obtain rfl:k=n0:=by omega
       have hg:Hid (FsQ own w a B (fun n'=>∃n1 n3,CB t {n with bD:=[]} n1/\RoC n1 n3/\MX (8*0) n3 n'/\n'.bD=[]) wr):=by
        obtain⟨n3,q1,q2⟩:=F.out;have hn:=hf.out;rw[hn]at q1;exact q2.fs ⟨n1,n3,qB.out.1,⟨n2,qB.out.2,q1⟩,rfl,q2.b0⟩
       clear F;go_wp2
       go_loopw [6,14] (fun s6 h8 wr=>s6=.bool true/\∃i:Nat,i<=2/\h8=.int .i64 i/\Hid (FsQ own w a B (fun n'=>∃n1 n3,CB t {n with bD:=[]} n1/\RoC n1 n3/\MX (8*i) n3 n'/\n'.bD=[]) wr)) (fun _ h8 _=>2-(intOf h8).toNat)
       case atStart=>exact⟨rfl,0,by omega,rfl,hg⟩
       case round=>
        obtain⟨rfl,i,hi,rfl,F⟩:=hrel;clear hg
        by_cases Uo:i<2
        ·have Yv:(i:Int)<2:=by omega
         have he:Hid (FsQ own w a B (fun n'=>∃n1 n3,CB t {n with bD:=[]} n1/\RoC n1 n3/\MX (8*i+0) n3 n'/\n'.bD=[]) wr):=F.out;clear F;go_wp2
         go_loopw [6,15] (fun s6 h9 wr=>s6=.bool true/\∃k:Nat,k<=8/\h9=.int .i64 k/\Hid (FsQ own w a B (fun n'=>∃n1 n3,CB t {n with bD:=[]} n1/\RoC n1 n3/\MX (8*i+k) n3 n'/\n'.bD=[]) wr)) (fun _ h9 _=>8-(intOf h9).toNat)
         case atStart=>exact⟨rfl,0,by omega,rfl,he⟩
         case round=>
          obtain⟨rfl,j,hj,rfl,F⟩:=hrel;clear he
          by_cases x6:j<8
          ·have xj:(j:Int)<8:=by omega
           have V:=hid (UL F.out i j Uo x6);clear F
           go_wp2_with (go_at_call 31;refine V.out.mono ?_;rintro e w2 ⟨rfl,X⟩)
           clear V
           have I:Hid (FsQ own w a B (fun n'=>∃n1 n3,CB t {n with bD:=[]} n1/\RoC n1 n3/\MX (8*i+(j+1)) n3 n'/\n'.bD=[]) w2):=X.out.imp (by
            rintro n' ⟨n4,⟨n1,n3,p1,p2,p3,p4⟩,p5,rfl⟩
            exact⟨n1,n3,p1,p2,QA (8*i+j) i j (by omega) (by omega) p3 p5,p4⟩)
           clear X;go_roundw
           case rel=>exact⟨rfl,j+1,by omega,by simp,I⟩
           case measure=>simp[intOf];omega
          ·obtain rfl:j=8:=by omega
           have I:Hid (FsQ own w a B (fun n'=>∃n1 n3,CB t {n with bD:=[]} n1/\RoC n1 n3/\MX (8*(i+1)) n3 n'/\n'.bD=[]) wr):=F.out;clear F;go_wp2;go_roundw
           case rel=>exact⟨rfl,i+1,by omega,by simp,I⟩
           case measure=>simp[intOf];omega
        ·obtain rfl:i=2:=by omega
         have I:Hid (FsQ own w a (3*(T-(t+1))) (fun n'=>CB (t+1) {n with bD:=[]} n'/\n'.bD=[]) wr):=by
          rw[<-HB.out]
          exact F.out.imp (by
           rintro n' ⟨n1,n3,p1,⟨n2,p2,p5⟩,p3,p4⟩
           exact⟨⟨n1,p1,n2,p2,n3,p5,p3⟩,p4⟩)
         clear F;go_wp2;go_roundw
         case rel=>exact⟨t+1,by omega,by simp,I⟩
         case measure=>simp[intOf];omega
  ·obtain rfl:t=T:=by omega
   have HE:Hid (FsQ own w a 0 (CB t {n with bD:=[]}) wr):=by
    have:=F.out;rw[Nat.sub_self]at this
    exact this.imp fun n h=>h.1
   go_wp2;go_ret;exact⟨rfl,HE.out⟩
end
end Go.Proofs.YtphbledmopchnaaGreatDoor.Sd
