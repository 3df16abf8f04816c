import Derived.Test.YtjnmokmchdfchaaGreatDoorZWj
set_option maxRecDepth 1000000
set_option maxHeartbeats 0
set_option linter.all false
namespace Go.Proofs.YtjnmokmchdfchaaGreatDoor
open Go.RowKit Tryz
attribute[local go_sem↓]Go.wp_at_zero Go.wp_at_succ
variable{k n:Nat}{X:Sd}{x y z:Value}{V W w:World}{D:aQ}
theorem CH(o:Ot)(p:Pc):o.jF p={o with aE:=(o.jF p).aE}:=by unfold Ot.jF;split<;>rfl
theorem vz(k:Nat)(a:Int):∀(m:Nat)(x:Ld),(fE k a m x).o={x.o with aE:=(fE k a m x).o.aE}:=by
 intro m;induction m with
 |zero=>exact λx=>rfl
 |succ m b=>
  intro x;unfold fE;split;have c:=b (x.step k (x.o.next x.d (a-x.fr.length)).1);rw[c];have e:=CH x.o (x.o.next x.d (a-x.fr.length)).1;show({(x.o.jF _)with aE:=_}:Ot)=_;rw[e];rfl
theorem Lm(o:Ot)(ps:List Pc)(m:Nat)(h:m<=ps.length):iQ o (nH o ps m):=by
 induction m with
 |zero=>exact⟨ux _ _,λm a=>by have:=(qW _ _ m).1 a;exact this.1⟩
 |succ m b=>
  rw[uM o ps m (by omega)];exact(b (by omega)).leave _
theorem Ln(s:Sd)(lf:List Kt)(k:Nat)(h:s.az=lf.map (·.1)):iQ (s.out k) (s.due k):=by
 rw[xr s lf k h];exact Lm _ _ _ (aI _)
theorem Lo(l:List Kt)(k:Int)(h:∀x∈l,x.1.ps.length<=1000):(dz l k).length<=l.length*1000:=by
 induction l with
 |nil=>simp[dz]
 |cons x l a=>
  have c:=a (λy b=>h y (by simp[b]));have d:=h x (by simp);have e:dz (x::l) k=(if x.1.st=k then x.1.ps else[])++dz l k:=rfl;rw[e,bG,dJ];split;omega;simp only[fH];omega
structure ti(s:Sd)(k:Nat)(a:Sd):Prop where
 eq:a={s with out:=aw s.out k {s.out k with aE:=(a.out k).aE},az:=a.az,count:=a.count}
 aE:0<=(a.out k).aE/\(a.out k).aE<=4096
 fl:a.az.length<=10
 fp:∀x∈a.az,x.ps.length<=1000
 cU:s.count<=a.count/\a.count<=s.count+10
structure CI(o:Ot):Prop where
 nice:o.h.nice
 en:o.en<=4096
 aE:0<=o.aE/\o.aE<=4096
 code:0<=o.code/\o.code<=4611686018427387903
 cl:o.h.ag.length<=5000
theorem Lp(j:k<4)(n:16<=X.ao/\X.ao<=1000)(p:0<=(X.out k).h.fr)(q:(X.out k).en<=4096):∀(m:Nat)(x:Pz),lG X k x->ti X k x.s->x.s.count<=X.count+x.s.az.length->ti X k (iB k m x).s/\(iB k m x).l.length<=10:=by
 intro m;induction m with
 |zero=>exact λx i u D=>⟨u,by have:=i.lf;have:=i.fl;unfold iB;omega⟩
 |succ m v=>
  intro x g a E;have F:=g.lf;have w:=g.fl;have L:=g.ld j n p q;have z:=vz k (x.s.ao-16) ((x.s.ao-16).toNat+1) ⟨x.s.out k,x.d,[],[]⟩;have A:(x.load k).o={x.s.out k with aE:=(x.load k).o.aE}:=z;have B:x.s.out k={X.out k with aE:=(x.s.out k).aE}:=by
   have:=fj (λt=>t.out k) a.eq;simpa only[bm]using this
  have C:(x.load k).o={X.out k with aE:=(x.load k).o.aE}:=by
   rw[A];rw[B]
  have r:aw x.s.out k (x.load k).o=aw X.out k {X.out k with aE:=(x.load k).o.aE}:=by
   have e:x.s.out=aw X.out k {X.out k with aE:=(x.s.out k).aE}:=fj (·.out) a.eq;rw[e,uN,<-C]
  have s:∀(o:Nat->Ot)(f:List Pk)(c:Int),({x.s with out:=o,az:=f,count:=c}:Sd)={X with out:=o,az:=f,count:=c}:=λo f c=>by rw[a.eq]
  unfold iB;split;exact⟨a,by omega⟩
  split;refine⟨⟨?_,?_,w,a.fp,a.cU⟩,by show x.l.length<=10;omega⟩
  show({x.s with out:=aw x.s.out k (x.load k).o}:Sd)=_;have:=s (aw x.s.out k (x.load k).o) x.s.az x.s.count;rw[show({x.s with out:=aw x.s.out k (x.load k).o}:Sd)={x.s with out:=aw x.s.out k (x.load k).o,az:=x.s.az,count:=x.s.count}from rfl,this,r];simp only[Pz.stay,bm]
  show 0<=(aw x.s.out k (x.load k).o k).aE/\(aw x.s.out k (x.load k).o k).aE<=4096;rw[bm];exact L.aE;rename_i G h0;refine v (x.fN k) (g.fN j n p q (by omega)) ⟨?_,?_,?_,?_,?_⟩ ?_;have:=s (aw x.s.out k (x.load k).o) (x.s.az++[⟨x.s.count,x.s.tick,k,(x.load k).ps⟩]) (x.s.count+1);show({x.s with out:=aw x.s.out k (x.load k).o,az:=x.s.az++[⟨x.s.count,x.s.tick,k,(x.load k).ps⟩],count:=x.s.count+1}:Sd)=_;rw[this,r];simp only[Pz.fN,bm]
  show 0<=(aw x.s.out k (x.load k).o k).aE/\(aw x.s.out k (x.load k).o k).aE<=4096;rw[bm];exact L.aE;unfold Pz.fN;simp only[bG,dJ,fH];omega;intro y b;unfold Pz.fN at b;simp only at b;obtain b|b:=ck.1 b
  exact a.fp y b;rw[dB.1 b];have:=L.pl;have:=L.fl;have:=g.ao;simp only;omega;have i:=a.cU;unfold Pz.fN;simp only
  have:(x.s.az.length:Int)<=9:=by omega
  omega;unfold Pz.fN;simp only[bG,dJ,fH];omega
structure lJ(s:Sd):Prop where
 key:di s.key
 ao:56<=s.ao/\s.ao<=1000
 out:∀k,k<4->CI (s.out k)
 fl:s.az.length<=10
 fp:∀x∈s.az,x.ps.length<=1000
theorem lJ.pz{a:Sd}(h:lJ X)(R:ti X k a):lJ a:=by
 rw[R.eq];refine⟨h.key,h.ao,λj b=>?_,R.fl,R.fp⟩
 by_cases e:j=k;subst e;simp only[bm]
 have:=h.out j b;exact⟨this.nice,this.en,R.aE,this.code,this.cl⟩
 simp only[bq _ _ e]
 exact h.out j b
theorem lJ.p0(h:lJ X)(k:Nat)(b:k<4)(e:0<=X.count/\X.count<=4611686018427386000)(lf:List Kt)(a:X.az=lf.map (·.1)):(X.out k).h.ag.length+(dz lf k).length<=100000/\(X.due k).l.length<=800000/\iQ (X.out k) (X.due k):=by
 have f:=Lo lf k (λx c=>h.fp x.1 (by rw[a];exact lM c));have g:lf.length<=10:=by have:=fj List.length a;rw[dY]at this;have:=h.fl;omega
 have i:=(h.out k b).cl;have d:=AJ (X.out k) (dz lf k) _ (aI _);rw[<-xr X lf k a]at d;exact⟨by omega,by omega,Ln X lf k a⟩
theorem xS(h:lJ X)(k:Nat)(a:k<4)(c:0<=X.count/\X.count<=4611686018427386000)(lf:List Kt)(d:X.az=lf.map (·.1)):ti X k (X.pieces k).s/\(X.pieces k).l.length<=10:=by
 obtain⟨f,g,e⟩:=h.p0 k a c lf d;have ho:=h.out k a;have b:=h.fl;refine Lp a (by have:=h.ao;omega) ho.nice.1 ho.en 11 ⟨X,X.due k,[]⟩ ⟨rfl,rfl,rfl,rfl,rfl,ho.aE,e,by simp only;omega,b,by simp only;omega,by simp⟩ ⟨?_,ho.aE,b,h.fp,by simp only;omega⟩ (by simp only;omega);show X={X with out:=aw X.out k (X.out k),az:=X.az,count:=X.count}
 rw[wT]
theorem Lq(w:World)(a sb k:Nat)(cs:Array Value)(v:aQ)(s:Sd)(H:bg w a sb cs v s)(h:lJ s)(b:k<4)(c:0<=s.count/\s.count<=4611686018427386000):
 Calls prog 159 #[.pointer (some ⟨sb,0,none⟩),.int .i64 (k:Int)] w (uU w a sb v (s.pieces k)):=by
 obtain⟨d,e,f⟩:=h.p0 k b c v.lf H.az;have ho:=h.out k b;exact I6 w a sb k cs v s H b h.key ho.nice ho.en ho.aE ho.code (by have:=h.ao;omega) h.fl c d f e
def bJ(s:Sd):Nat->Sd×List (List Int)
 |0=>(s.eX.s,s.eX.l)
 |k+1=>(((bJ s k).1.pieces k).s,(bJ s k).2++((bJ s k).1.pieces k).l)
def Sd.eY(s:Sd):Sd×List (List Int):=bJ s 4
theorem Lr(m:Nat):∀x:Ak,∃c,(lW m x).s={x.s with count:=c}/\x.s.count<=c/\c<=x.s.count+m/\(lW m x).l.length<=x.l.length+m:=by
 induction m with
 |zero=>exact λx=>⟨x.s.count,rfl,fI _,by simp,aI _⟩
 |succ m d=>
  intro x;unfold lW;split;exact⟨x.s.count,rfl,fI _,by omega,by omega⟩
  obtain⟨c,f,a,b,g⟩:=d x.step;refine⟨c,by rw[f];rfl,?_,?_,?_⟩
  unfold Ak.step at a;simp only at a;omega;unfold Ak.step at b;simp only at b;omega;have e:x.step.l.length=x.l.length+1:=by unfold Ak.step;simp
  omega
theorem xU(s:Sd):∃c,s.eX.s={s with dU:=false,count:=c}/\s.count<=c/\c<=s.count+10/\s.eX.l.length<=10:=by
 unfold Sd.eX;cases h:s.dU;simp only[gM,gp]
 exact⟨s.count,by rw[<-h],fI _,by omega,by simp⟩
 simp only[fJ]
 obtain⟨c,a,b,d,e⟩:=Lr 10 ⟨{s with dU:=false},fW s.ag s.ag.length,[]⟩;exact⟨c,a,b,d,by simpa using e⟩
theorem lJ.eX(h:lJ X):lJ X.eX.s:=by
 obtain⟨c,e,-⟩:=xU X;rw[e];exact⟨h.key,h.ao,h.out,h.fl,h.fp⟩
theorem eO.join{f:aQ}{i m:List El}(h:eO w n k D i y)(u:n<=w.heap.size)(r:cP w.heap.size w W k D f)(l:eO W w.heap.size k f m x)(v:je W k f)(A:dZ V n z (i++m))(g:W.grownBy V y.ownBlock)(d:z.ownBlock=y.ownBlock\/z.ownBlock=some W.heap.size):eO V n k f (i++m) z/\∀j,y.ownBlock=some j->¬dQ k f j:=by
 have p:eO W n k f i y:=h.next (X:=λ_=>False) (r.aq.mono (λ_ _ h=>.inl h)) (λ_ _=>id) (λ_ _=>id) r.ar;have s:gI W n (i++m):=p.at_.app ⟨λe c=>⟨bC u (l.at_.at_ e c).1,(l.at_.at_ e c).2⟩,l.at_.sep⟩ (λa q b B e=>by have:=h.at_.lt q;have:=(l.at_.at_ b B).1;omega);have t:∀e∈i++m,y.ownBlock≠some e.1:=λe c e1=>by
  obtain c|c:=ck.1 c
  exact h.s5 e c e1;have:=(h.own.lt _ e1).2;have:=(l.at_.at_ e c).1;omega
 refine⟨⟨A,s.aq (ak.of g) (λe c e1=>t e c e1),λj e1 q=>?_,λe c=>?_,λe c e1=>?_⟩,p.a5⟩
 obtain d|d:=d
 rw[d]at e1;exact p.a5 j e1 q;rw[d]at e1;have:=aJ e1;have:=mT v q;omega;obtain c|c:=ck.1 c
 exact p.ae e c;exact l.ae e c;obtain d|d:=d
 rw[d]at e1;exact t e c e1;rw[d]at e1;have:=aJ e1;have:=s.lt c;omega
theorem Ls(h:lJ X)(g:0<=X.count/\X.count<=4611686018427385000)(k:Nat)(i:k<=4):lJ (bJ X k).1/\0<=(bJ X k).1.count/\(bJ X k).1.count<=X.count+10+10*k/\(bJ X k).2.length<=10+10*k:=by
 induction k with
 |zero=>
  obtain⟨c,e,a,b,d⟩:=xU X;have j:(bJ X 0).1.count=c:=by show X.eX.s.count=c;rw[e]
  exact⟨h.eX,by omega,by omega,by show X.eX.l.length<=_;omega⟩
 |succ k f=>
  obtain⟨a,b,d,m⟩:=f (by omega);obtain⟨R,hl⟩:=xS a k (by omega) (by omega) ((bJ X k).1.az.map (λx=>(x,Value.slice none 0 0))) (by rw[pF];show _=List.map id _;rw[List.map_id]);have n:=R.cU;refine⟨a.pz R,?_,?_,?_⟩
  show 0<=((bJ X k).1.pieces k).s.count;omega;show((bJ X k).1.pieces k).s.count<=_;omega;show((bJ X k).2++((bJ X k).1.pieces k).l).length<=_;rw[bG];omega
def CJ(w:World)(g sb:Nat)(v:aQ)(r:Sd×List (List Int))(e:Ending)(b:World):Prop:=
 ∃a n c h d f,e=.returned (.slice a n c)/\bg b g sb h d r.1/\cP w.heap.size w b sb v d/\eO b w.heap.size sb d f (.slice a n c)/\f.map (·.2)=r.2
theorem Lt(w:World)(c sb:Nat)(cs:Array Value)(v:aQ)(s:Sd)(H:bg w c sb cs v s)(h:lJ s)(hc:0<=s.count/\s.count<=4611686018427385000)(bb:s.ag.length<=8)(z:aZ s.ag)(A:∀r∈s.ag,0<=r.lo/\r.hi<=4611686018427387904):
 Calls prog 130 #[.pointer (some ⟨sb,0,none⟩)] w (CJ w c sb v s.eY):=by
 obtain⟨R,q⟩:=exq (CJ w c sb v s.eY);rw[<-q];replace q:=J q;have B:=J (mW w sb 0 H.ks);have V:=J (λW(g:w.grownBy W none)=>Je W c sb cs v s (H.ah g) h.key h.ao (by omega) bb z A);have bL:=H.bd.fu;replace z:=J z;replace A:=J A;replace H:=J H;replace h:=J h;simp only[ne_eq,tJ,se]at B;go_enter func130,ntmps130;go_wp2_with fail;refine(Z B).mono ?_;rintro e w1⟨rfl,C⟩;go_wp2_with fail;refine(Z V _ C).mono ?_;rintro e D⟨a2,n2,c2,Y,t,E,rfl,S2,al,d,e2⟩;have F:=C.size;have bj:Hid (bg D c sb Y t (bJ s 0).1/\cP w.heap.size w D sb v t/\eO D w.heap.size sb t E (.slice a2 n2 c2)/\E.map (·.2)=(bJ s 0).2):=J ⟨S2,(cP.ah C).trans (al.mono F),⟨d.own.low F,⟨λe he=>⟨bC F (d.at_.at_ e he).1,(d.at_.at_ e he).2⟩,d.at_.sep⟩,d.a5,d.ae,d.s5⟩,e2⟩;clear S2 al d e2 V B;go_upto_region 5 with fail;go_loopg [3,11] 5 (λg v3 br wr=>∃(k:Nat)(m:Array Value)(b:aQ)(a:List El),k<=4/\br=.int .i64 (k:Int)/\g=5-k/\bg wr c sb m b (bJ s k).1/\cP w.heap.size w wr sb v b/\eO wr w.heap.size sb b a v3/\a.map (·.2)=(bJ s k).2);case atStart=>exact⟨0,Y,t,E,by omega,rfl,by omega,Z bj⟩
 case round=>
  obtain⟨k,m,b,a,bt,rfl,rfl,S,f,L,i⟩:=hrel;obtain⟨G,c3,rfl⟩:=L.slice;by_cases ax:k<4
  ·have d1:decide ((k:Int)<4)=true:=bp (by omega);obtain⟨u,p2,p3,p4⟩:=Ls (Z h) hc k bt;have I:=J (Lq wr c sb k m b _ S u ax (by omega));have bM:a.length<=100:=by have:=fj List.length i;rw[dY]at this;omega
   have x:=(xS u k ax (by omega) b.lf S.az).2;have K:Hid (bJ s (k+1)=(((bJ s k).1.pieces k).s,(bJ s k).2++((bJ s k).1.pieces k).l)):=J rfl;obtain⟨pz,a0⟩:=exq ((bJ s k).1.pieces k);rw[<-a0]at I x K;clear a0;replace S:=J S;replace L:=J L;replace f:=J f;replace u:=J u;replace i:=J i;replace x:=J x;go_wp2_with fail;refine(Z I).mono ?_;rintro e w4⟨a4,n4,c4,bx,v4,M,rfl,S4,n,N,O⟩;have P:=(Z f).aq.size;have a1:eO w4 w.heap.size sb v4 a (.slice G a.length c3):=(Z L).next (X:=λ_=>False) (n.aq.mono (λ_ _ h=>.inl h)) (λ_ _=>id) (λ_ _=>id) n.ar;have bP:M.length<=10:=by have:=fj List.length O;rw[dY]at this;have:=Z x;omega
   obtain⟨a5,n5,c5,Q,T,o5,y,a3⟩:=HU (w:=w4) 206 w.heap.size _ a a1.own wr.heap.size _ M N.own (by omega) (bC P n.aq.size);obtain⟨a8,a9⟩:=(Z L).join P n N S4.bd o5 y a3;have hrel:Hid (∃(p:Nat)(m:Array Value)(b:aQ)(a:List El),p<=4/\(Value.int .i64 ((k:Int)+1))=.int .i64 (p:Int)/\5-(k+1)=5-p/\bg Q c sb m b (bJ s p).1/\cP w.heap.size w Q sb v b/\eO Q w.heap.size sb b a (.slice a5 n5 c5)/\a.map (·.2)=(bJ s p).2):=J (by
    refine⟨k+1,bx,v4,a++M,by omega,by push_cast;rfl,rfl,?_,?_,a8,?_⟩
    rw[Z K];exact S4.other (ak.of y) (λj _ e=>a9 j e);have U:=(Z f).trans (n.mono P);refine⟨(U.aq.trans (ak.of y)).mono (λj hj e=>e.elim id (λe=>by have:=((Z L).own.lt j e).1;omega)),U.ft,U.ar⟩
    ·rw[Z K,mf,Z i,O])
   clear a1 a8 a9 S4 n N O o5 y a3 I;replace T:=J T;go_wp2_with (at_builtin;refine oR (by rfl) 206 206 (by rfl) _ _ (by rfl) _ _ _ (by rfl) (by rfl) (Z T) ?_);go_roundg (5-(k+1));case measure=>omega
   case rel=>exact Z hrel
  obtain rfl:k=4:=by omega
  have bz:Hid (R (.returned (.slice G a.length c3)) wr):=J (by rw[Z q];exact⟨G,_,c3,m,b,a,rfl,S,f,L,i⟩);replace S:=J S;replace L:=J L;replace f:=J f;replace i:=J i;go_wp2_with fail;exact Z bz
