import Derived.Test.YtjnmokmchdfchaaGreatDoorZg
set_option maxRecDepth 1000000
set_option maxHeartbeats 8000000
set_option linter.all false
namespace Go.Proofs.YtjnmokmchdfchaaGreatDoor
open Go.RowKit Tryz
attribute[local go_sem↓]Go.wp_at_zero Go.wp_at_succ
section
variable{G:Fr}{p:Int}{i k m n:Nat}{S:Nat->Prop}{x:Value}{W v w:World}{Y:aj}
theorem Ep(b:ByteArray)(i j:Nat):aG (b.extract i j)=((aG b).drop i).take (j-i):=by
 unfold aG;rw[wY,Array.toList_extract,List.extract_eq_take_drop,List.map_take,List.map_drop]
structure mJ(m a:aj):Prop where
 le:∀k,k<4->kY (m.outs k) (a.outs k)
 oi:∀k,k<4->OI (a.outs k)
 kp:∀k,k<4->mI (m.outs k) (a.outs k)
 cm:∀k,k<4->(a.outs k).af=(m.outs k).af
 ins:a.ins=m.ins
 bU:a.bU=m.bU
 key:a.key=m.key
 me:a.me=m.me
 ag:a.ag=m.ag
 an:a.an=m.an
theorem mI.trans{o p q:cV}(h:mI o p)(g:mI p q):mI o q:=⟨g.data.trans h.data,g.fin.trans h.fin,g.gv.trans h.gv,g.code.trans h.code,Int.le_trans h.pre g.pre⟩
theorem mJ.trans{b c:aj}(h:mJ Y b)(g:mJ b c):mJ Y c:=
 ⟨λk a=>(h.le k a).trans (g.le k a),g.oi,λk a=>(h.kp k a).trans (g.kp k a),λk a=>(g.cm k a).trans (h.cm k a),g.ins.trans h.ins,g.bU.trans h.bU,g.key.trans h.key,g.me.trans h.me,g.ag.trans h.ag,g.an.trans h.an⟩
theorem mJ.rfl'{a:aj}(ho:∀k,k<4->OI (Y.outs k))(b:a.outs=Y.outs)(c:a.ins=Y.ins)(d:a.bU=Y.bU)(e:a.key=Y.key)(f:a.me=Y.me)(g:a.ag=Y.ag)(h:a.an=Y.an):mJ Y a:=
 ⟨λk _=>by rw[b];exact kY.rfl' _,λk i=>by rw[b];exact ho k i,λk _=>by rw[b];exact mI.rfl' _,λk _=>by rw[b],c,d,e,f,g,h⟩
theorem Ps(h:rh Y G)(ho:∀k,k<4->OI (Y.outs k)):mJ Y (Y.dH G)/\qA (Y.dH G).outs G:=by
 by_cases c:G.kind=5;obtain⟨d,f,b⟩:=h.k5 c;have a:G.stream.toNat<4:=by omega
 have e:Y.dH G={Y with outs:=ai Y.outs G.stream.toNat ((Y.outs G.stream.toNat).qY G)}:=by unfold aj.dH;rw[ah (by omega),az c]
 have hs:=(ho _ a).hs;have g:=b.en;have i:=b.gv;have key:∀k,k<4->kY (Y.outs k) (ai Y.outs G.stream.toNat ((Y.outs G.stream.toNat).qY G) k)/\OI (ai Y.outs G.stream.toNat ((Y.outs G.stream.toNat).qY G) k)/\mI (Y.outs k) (ai Y.outs G.stream.toNat ((Y.outs G.stream.toNat).qY G) k)/\(ai Y.outs G.stream.toNat ((Y.outs G.stream.toNat).qY G) k).af=(Y.outs k).af:=λk l=>by
  by_cases q:k=G.stream.toNat;subst q;simp only[bk]
  refine⟨⟨aP _,λ_ _=>rfl,λh=>⟨h,rfl⟩,λh=>⟨h,rfl,rfl⟩,by show(Y.outs G.stream.toNat).high<=max (Y.outs G.stream.toNat).high (aT G);omega⟩,⟨by show 0<=max (Y.outs G.stream.toNat).high (aT G)/\max (Y.outs G.stream.toNat).high (aT G)<=((Y.outs G.stream.toNat).data.size:Int);omega,λq=>?_,(ho _ a).sz⟩,⟨rfl,rfl,rfl,rfl,cW _⟩,rfl⟩
  have q:(Y.outs G.stream.toNat).given=true:=q;rw[i]at q;cases q;rw[bl _ _ q];exact⟨kY.rfl' _,ho k l,mI.rfl' _,rfl⟩
 rw[e];refine⟨⟨λk a=>(key k a).1,λk a=>(key k a).2.1,λk a=>(key k a).2.2.1,λk a=>(key k a).2.2.2,rfl,rfl,rfl,rfl,rfl,rfl⟩,⟨h.kind,λq=>by omega,λ_=>?_⟩⟩
 simp only[bk]
 refine⟨d,f,b.off,by show aT G<=max _ (aT G);omega,λj t u=>?_,λq=>?_⟩
 show _=(aG (Y.outs G.stream.toNat).data).getD j 0;have g:aT G=G.offset+G.data.size:=rfl;rw[<-b.mG,Ep];simp only[List.getD,jA,kG]
 rw[az (by omega),show G.offset.toNat+(j-G.offset.toNat)=j by omega];have:=b.fin;rw[q]at this;have:=this.symm;simp only[mg,nA]at this;exact this;have e:(Y.dH G).outs=Y.outs/\(Y.dH G).ins=Y.ins/\(Y.dH G).bU=Y.bU/\(Y.dH G).key=Y.key/\(Y.dH G).me=Y.me/\(Y.dH G).ag=Y.ag/\(Y.dH G).an=Y.an:=by
  unfold aj.dH;split;exact⟨rfl,rfl,rfl,rfl,rfl,rfl,rfl⟩
  first|exact⟨rfl,rfl,rfl,rfl,rfl,rfl,rfl⟩|(rw[ah c];exact⟨rfl,rfl,rfl,rfl,rfl,rfl,rfl⟩)
 obtain⟨e1,e2,m,n,p,r,s⟩:=e;refine⟨mJ.rfl' ho e1 e2 m n p r s,⟨h.kind,λq=>by rw[e1];exact h.k4 q,λq=>absurd q c⟩⟩
theorem Pt:∀(q:List Fr)(m:aj),(∀j,j<q.length->rh ((q.take j).foldl aj.dH m) (yZ q j))->(∀k,k<4->OI (m.outs k))->mJ m (q.foldl aj.dH m)/\∀f∈q,qA (q.foldl aj.dH m).outs f/\(f.kind=3->∀r∈f.ranges,ue m.bU.l r=true):=by
 intro q;induction q with
 |nil=>intro m _ ho;exact⟨mJ.rfl' ho rfl rfl rfl rfl rfl rfl rfl,λf a=>by cases a⟩
 |cons g q d=>
  intro m h ho;have h0:rh m g:=h 0 (by simp);obtain⟨t1,t2⟩:=Ps h0 ho;obtain⟨b,e⟩:=d (m.dH g) (λj n=>h (j+1) (by simp;omega)) t1.oi;refine⟨t1.trans b,λf a=>?_⟩
  obtain rfl|a:=fk.1 a
  exact⟨t2.le b.le t1.oi,h0.k3⟩
  obtain⟨i,c⟩:=e f a;exact⟨i,by rw[t1.bU]at c;exact c⟩
structure sI(a b:aj):Prop where
 may:mJ a b
 sub:∀x∈a.aA,x∈b.aA
theorem Pu{b:aj}(ho:∀k,k<4->OI (Y.outs k))(D:cE Y b)(E:cE b Y){p:ByteArray}{c:List Fr}(h:qz Y p c):
 cE (Y.jJ c) b/\cE b (Y.jJ c)/\sI Y (Y.jJ c)/\oN Y (aG p) (Y.next,c)/\(Y.next,c)∈(Y.jJ c).aA/\(Y.jJ c).next=Y.next+1:=by
 obtain⟨m1,t⟩:=Pt c {Y with next:=Y.next+1} h.may ho;obtain⟨e1,e2,I,K,r⟩:=D0 c {Y with next:=Y.next+1};obtain⟨e,v⟩:∃e,e=c.foldl aj.dH {Y with next:=Y.next+1}:=⟨_,rfl⟩
 have z:Y.jJ c={e with aA:=Y.aA++[(Y.next,c)]}:=by rw[v];rfl
 rw[<-v]at m1 t r;have A:=wu h.op.dec;have L:=h.op.nx;rw[z];have B:∀x∈Y.aA,x∈Y.aA++[(Y.next,c)]:=λx a=>iH _ a
 have C:mJ Y {e with aA:=Y.aA++[(Y.next,c)]}:=⟨m1.le,m1.oi,m1.kp,m1.cm,m1.ins,m1.bU,m1.key,m1.me,m1.ag,m1.an⟩
 refine⟨⟨D.key.trans m1.key.symm,?_,D.ag.trans m1.ag.symm,?_,?_,?_,?_,λk g=>(D.aJ k g).le (m1.le k g) (m1.oi k g),?_,?_,λk g m q=>?_⟩,E.same m1.ins m1.bU m1.key m1.me m1.ag,⟨C,B⟩,⟨h.op.ok,h.op.num,h.op.dec⟩,by simp,r⟩
 show e.me=_;rw[m1.me];exact D.me;intro x a;show 0<=x.1/\x.1<e.next;rw[r];obtain a|a:=bQ.1 a
 have:=D.sn x a;simp only;omega;rw[cS.1 a];simp only;omega;intro x a y j l;obtain a|a:=bQ.1 a<;>rcases bQ.1 j with j|j
 exact D.aS x a y j l;have:=D.sn x a;rw[cS.1 j]at l;simp only at l;omega;have:=D.sn y j;rw[cS.1 a]at l;simp only at l;omega;rw[cS.1 a,cS.1 j];intro x a f d;obtain a|a:=bQ.1 a
 exact⟨(D.fr x a f d).1.le m1.le ho,(D.fr x a f d).2⟩
 rw[cS.1 a]at d;exact⟨(t f d).1,A f d⟩
 intro x a f d w n s;show Sm e.bU.sp n;rw[m1.bU];obtain a|a:=bQ.1 a
 exact D.ak x a f d w n s;rw[cS.1 a]at d;obtain⟨i,hi,M,n2⟩:=(xV _ _).1 s;have F:au f.ranges i∈f.ranges:=by unfold au;rw[pW,eD hi];simp
 have:=(t f d).2 w _ F;unfold ue at this;obtain⟨q,G,H⟩:=qH.1 this;simp only[mg,nA]at H;exact⟨cM q,eQ.2 ⟨q,G,rfl⟩,by simp only[cM];omega,by simp only[cM];omega⟩
 intro n s;have:=D.ev n s;show n<e.next;rw[r];simp only;omega;intro x a u f d k g m q;obtain a|a:=bQ.1 a
 exact D.tk x a u f d k g m q;rw[cS.1 a]at u;have:=D.ev _ u;simp only at this;omega;have q:Sm (e.outs k).af.sp m:=q;rw[m1.cm k g]at q;exact D.cm k g m q
theorem sI.trans{b c:aj}(h:sI Y b)(g:sI b c):sI Y c:=⟨h.may.trans g.may,λx a=>g.sub x (h.sub x a)⟩
theorem Pv:∀(b:List (List Fr))(bs:List ByteArray)(a:aj),b.length=bs.length->(∀j,j<bs.length->qz (a.dW (b.take j)) (eJ bs j) (b.getD j []))->(∀k,k<4->OI (a.outs k))->cE a Y->cE Y a->
 cE (a.dW b) Y/\cE Y (a.dW b)/\sI a (a.dW b)/\(a.dW b).next=a.next+bs.length/\∀j,j<bs.length->∃x∈(a.dW b).aA,oN a (aG (eJ bs j)) x/\x.1=a.next+j/\((eJ bs j).size:Int)<=a.an:=by
 intro b;induction b with
 |nil=>
  intro bs a hl _ ho D E;have:bs=[]:=by cases bs with|nil=>rfl|cons=>simp at hl
  subst this;exact⟨D,E,⟨mJ.rfl' ho rfl rfl rfl rfl rfl rfl rfl,λx d=>d⟩,by show a.next=a.next+0;omega,λj c=>by simp at c⟩
 |cons f b l=>
  intro bs a hl g ho D E;cases bs with
  |nil=>simp at hl
  |cons p bs=>
   have h0:qz a p f:=g 0 (by simp);obtain⟨d1,d2,d3,d4,d5,d6⟩:=Pu ho D E h0;obtain⟨m,n,h,q,r⟩:=l bs (a.jJ f) (by simpa using hl) (λj c=>g (j+1) (by simp;omega)) d3.may.oi d1 d2;refine⟨m,n,d3.trans h,?_,λj c=>?_⟩
   show((a.jJ f).dW b).next=_;rw[q,d6,dq];push_cast;omega;cases j with
   |zero=>exact⟨(a.next,f),h.sub _ d5,d4,by simp,h0.op.len⟩
   |succ j=>
    obtain⟨x,d,e,s,i⟩:=r j (by simpa using c);refine⟨x,d,?_,by rw[s,d6];push_cast;omega,by rw[d3.may.an]at i;exact i⟩
    unfold oN at e⊢;rw[d3.may.key,d3.may.me]at e;exact e
structure End where
 wrote:ByteArray
 finished:Bool
 given:Bool
 code:Int
 read:Int
 state:Int
 af:Int
structure lE(o:cV)(i:aL)(e:End):Prop where
 wrote:e.wrote=o.data
 fin:e.finished=o.finished
 gv:e.given=o.given
 code:e.given=true->e.code=o.code
 read:e.read=i.read
 state:e.state=i.state
 af:0<=e.af/\e.af<=o.af.eF
theorem cE.qW{b:aj}(D:cE Y b)(ho:∀k,k<4->OI (Y.outs k)){o:cV}(h:kY (Y.outs k) o)(i:OI o)(l:o.af=(Y.outs k).af):cE {Y with outs:=ai Y.outs k o} b:=by
 have c:∀j,j<4->kY (Y.outs j) (ai Y.outs k o j):=λj _=>by
  by_cases e:j=k;subst e;rw[bk];exact h;rw[bl _ _ e];exact kY.rfl' _
 have n:∀j,j<4->OI (ai Y.outs k o j):=λj a=>by
  by_cases e:j=k;subst e;rw[bk];exact i;rw[bl _ _ e];exact ho j a
 refine⟨D.key,D.me,D.ag,D.sn,D.aS,λx d f g=>⟨(D.fr x d f g).1.le c ho,(D.fr x d f g).2⟩,D.ak,λj a=>(D.aJ j a).le (c j a) (n j a),D.ev,D.tk,λj a m q=>?_⟩
 have q:Sm (ai Y.outs k o j).af.sp m:=q;by_cases e:j=k;subst e;rw[bk,l]at q;exact D.cm j a m q;rw[bl _ _ e]at q;exact D.cm j a m q
theorem cE.nk{b:aj}(D:cE Y b){i:aL}(d:iQ (Y.outs k) i)(g:∀m,jy (b.ins k) m->jy i m):cE Y {b with ins:=ai b.ins k i}:=by
 have c:∀j m,jy (b.ins j) m->jy (ai b.ins k i j) m:=λj m q=>by
  by_cases e:j=k;subst e;rw[bk];exact g m q;rw[bl _ _ e];exact q
 refine⟨D.key,D.me,D.ag,D.sn,D.aS,D.fr,D.ak,λj a=>?_,D.ev,λx h l f n j a m q=>c j m (D.tk x h l f n j a m q),λj a m q=>c j m (D.cm j a m q)⟩
 show iQ (Y.outs j) (ai b.ins k i j);by_cases e:j=k;subst e;rw[bk];exact d;rw[bl _ _ e];exact D.aJ j a
theorem Pw{a b:ByteArray}(h:m<a.size):(aG (a++b)).getD m 0=(aG a).getD m 0:=by
 rw[zj];simp only[List.getD,List.getElem?_append]
 rw[az (by rw[fu];exact h)]
theorem sJ(a b:ByteArray):(a++b).size=a.size+b.size:=ByteArray.size_append
theorem Er{b:aj}(a:nZ Y n)(D:cE Y b)(E:cE b Y)(f:k<4)(d:ByteArray):
 cE (Y.write k d).2.2 b/\cE b (Y.write k d).2.2/\(Y.write k d).2.2.aA=Y.aA/\(Y.write k d).2.2.next=Y.next/\
 ((((Y.outs k).finished||(Y.outs k).given)=true/\(Y.write k d).1=0/\(Y.write k d).2.1=3/\(Y.write k d).2.2=Y)\/
  (((Y.outs k).finished||(Y.outs k).given)=false/\(Y.write k d).2.1=0/\0<=(Y.write k d).1/\(Y.write k d).1<=d.size/\(Y.outs k).data.size+(Y.write k d).1-(Y.outs k).af.eF<=Y.ag/\(Y.write k d).2.2={Y with outs:=ai Y.outs k {Y.outs k with data:=(Y.outs k).data++d.extract 0 (Y.write k d).1.toNat}})):=by
 have i:Y.of (k:Int)=0:=by unfold aj.of;rw[ah (by rw[a.cl];decide),ah (by omega)]
 have j:((k:Int)).toNat=k:=by omega
 unfold aj.write;rw[i,j,ah (by decide)];by_cases e:((Y.outs k).finished||(Y.outs k).given)=true;rw[az e];exact⟨D,E,rfl,rfl,.inl ⟨e,rfl,rfl,rfl⟩⟩
 rw[ah e];have g:((Y.outs k).finished||(Y.outs k).given)=false:=by simpa using e
 have c:=g;rw[oh]at c;have l:=a.fr k f;have t:=l.2 c.2;have u:=(a.out k f).sz;have h:0<=Y.fv k d.size/\Y.fv k d.size<=d.size/\Y.fv k d.size<=Y.ag-((Y.outs k).data.size-(Y.outs k).af.eF)/\Y.fv k d.size<=4096-(Y.outs k).data.size:=by unfold aj.fv;omega
 have p:(d.extract 0 (Y.fv k d.size).toNat).size=(Y.fv k d.size).toNat:=by rw[rz];omega
 refine⟨D.qW a.out ?_ ?_ rfl,E.same rfl rfl rfl rfl rfl,rfl,rfl,.inr ⟨g,rfl,h.1,h.2.1,by omega,rfl⟩⟩
 refine⟨by rw[sJ];omega,λm r=>Pw r,λq=>?_,λq=>?_,cW _⟩
 rw[c.1]at q;cases q;rw[c.2]at q;cases q;have s:=(a.out k f).hs;refine⟨⟨s.1,?_⟩,λq=>?_,?_⟩
 show(Y.outs k).high<=(((Y.outs k).data++d.extract 0 (Y.fv k d.size).toNat).size:Nat);rw[sJ];push_cast;omega;have q:(Y.outs k).given=true:=q;rw[c.2]at q;cases q;show((Y.outs k).data++d.extract 0 (Y.fv k d.size).toNat).size<=4096;rw[sJ,p];omega
theorem Px{b:aj}(c:nZ Y n)(D:cE Y b)(E:cE b Y)(e:k<4):
 cE (Y.finish k).2 b/\cE b (Y.finish k).2/\(Y.finish k).2.aA=Y.aA/\(Y.finish k).2.next=Y.next/\
 ((((Y.outs k).finished||(Y.outs k).given)=true/\(Y.finish k).1=3/\(Y.finish k).2=Y)\/
  (((Y.outs k).finished||(Y.outs k).given)=false/\(Y.finish k).1=0/\(Y.finish k).2={Y with outs:=ai Y.outs k {Y.outs k with finished:=true}})):=by
 have f:Y.of (k:Int)=0:=by unfold aj.of;rw[ah (by rw[c.cl];decide),ah (by omega)]
 have g:((k:Int)).toNat=k:=by omega
 unfold aj.finish;rw[f,g,ah (by decide)];by_cases a:((Y.outs k).finished||(Y.outs k).given)=true;rw[az a];exact⟨D,E,rfl,rfl,.inl ⟨a,rfl,rfl⟩⟩
 rw[ah a];have d:=c.out k e;refine⟨D.qW c.out ⟨aP _,λ_ _=>rfl,λ_=>⟨rfl,rfl⟩,λh=>⟨h,rfl,rfl⟩,cW _⟩ ⟨d.hs,d.gv,d.sz⟩ rfl,E.same rfl rfl rfl rfl rfl,rfl,rfl,.inr ⟨by simpa using a,rfl,rfl⟩⟩
theorem Py{b:aj}(c:nZ Y n)(D:cE Y b)(E:cE b Y)(e:k<4)(i:p<=4611686018427387903):
 cE (Y.giveUp k p).2 b/\cE b (Y.giveUp k p).2/\(Y.giveUp k p).2.aA=Y.aA/\(Y.giveUp k p).2.next=Y.next/\
 (((Y.outs k).given=true/\(Y.giveUp k p).1=3/\(Y.giveUp k p).2=Y)\/
  ((Y.outs k).given=false/\(Y.giveUp k p).1=0/\(Y.giveUp k p).2={Y with outs:=ai Y.outs k {Y.outs k with given:=true,code:=p,end_:=(Y.outs k).high}})):=by
 have f:Y.of (k:Int)=0:=by unfold aj.of;rw[ah (by rw[c.cl];decide),ah (by omega)]
 have g:((k:Int)).toNat=k:=by omega
 unfold aj.giveUp;rw[f,g,ah (by decide)];by_cases a:(Y.outs k).given=true;rw[az (.inl a)];exact⟨D,E,rfl,rfl,.inl ⟨a,rfl,rfl⟩⟩
 rw[ah (λq=>q.elim a (λq=>by omega))];have d:=c.out k e;refine⟨D.qW c.out ⟨aP _,λ_ _=>rfl,λh=>⟨h,rfl⟩,λh=>absurd h a,cW _⟩ ⟨d.hs,λ_=>rfl,d.sz⟩ rfl,E.same rfl rfl rfl rfl rfl,rfl,rfl,.inr ⟨by simpa using a,rfl,rfl⟩⟩
theorem PB{b:aj}(h:nZ Y n)(e:nZ b i)(D:cE Y b)(E:cE b Y)(c:k<4)(j:0<=p):
 ∃a,a=(b.read k p).2.2.2.2/\cE Y a/\cE a Y/\a.aA=b.aA/\a.next=b.next/\a.outs=b.outs/\(b.read k p).2.2.2.1=0/\
 ((b.read k p).1.length:Int)<=p/\(b.ins k).read+(b.read k p).1.length<=(Y.outs k).data.size/\(b.read k p).1=((aG (Y.outs k).data).drop (b.ins k).read.toNat).take (b.read k p).1.length/\
 ((b.ins k).state≠0->(b.read k p).1=[]/\(b.read k p).2.1=(b.ins k).state)/\
 a.ins=ai b.ins k ((b.ins k).dD p)/\(a.ins k).read=(b.ins k).read+(b.read k p).1.length/\(a.ins k).state=(b.read k p).2.1/\
 (((b.read k p).2.1=0/\(b.read k p).2.2.1=0)\/((b.read k p).2.1=1/\(Y.outs k).finished=true/\(a.ins k).read=(Y.outs k).data.size/\(b.read k p).2.2.1=0)\/((b.read k p).2.1=2/\(Y.outs k).given=true/\(b.read k p).2.2.1=(Y.outs k).code)):=by
 have l:b.of (k:Int)=0:=by unfold aj.of;rw[ah (by rw[e.cl];decide),ah (by omega)]
 have m:((k:Int)).toNat=k:=by omega
 unfold aj.read;rw[l,m,ah (by decide)];obtain⟨t1,t2,t3,t4,t5⟩:=(D.aJ k c).text (h.out k c) (e.gD k c) p j;obtain⟨d,r⟩:=(D.aJ k c).dD (e.gD k c) p;refine⟨_,rfl,D.nk d r,⟨E.key,E.me,E.ag,E.sn,E.aS,E.fr,E.ak,E.aJ,E.ev,E.tk,E.cm⟩,rfl,rfl,rfl,rfl,t1,t2,t3,t5,rfl,?_,?_,?_⟩
 simp only[bk];exact t4;simp only[bk]
 simp only[bk]
 unfold aL.jm;obtain q|q|q:=d.s0
 left;exact⟨q,by rw[ah (by omega)]⟩
 right;left;obtain⟨f,g⟩:=d.s1 q;exact⟨q,f,g,by rw[ah (by omega)]⟩
 right;right;obtain⟨f,g,s,t⟩:=d.gv (d.s2 q);exact⟨q,f,by rw[az q];exact s⟩
theorem Es{b:aj}(d:nZ Y n)(c:nZ b i)(D:cE Y b)(a:k<4)(e:(Y.outs k).given=false):(Y.outs k).af.eF<=(b.ins k).read+Y.ag:=by
 obtain⟨j,f,l⟩:=sD (d.ck k a);have g:=c.rd k a;have m:=(c.gD k a).rd;rw[D.ag]at g;by_cases hp:(Y.outs k).af.eF=0;have:=(c.gD k a).rd;have p:0<=Y.ag:=by
  have:=d.fr k a;have:=this.2 e;omega
 omega;obtain q|⟨r,h⟩:=D.cm k a _ (f ((Y.outs k).af.eF-1) (by omega) (by omega))
 have:=((D.aJ k a).gv q).1;rw[e]at this;cases this;have:=Ph (c.gD k a) h;omega
structure Nw where
 an:Int
 ag:Int
 key:List Int
 xb:Nat->Nat
 sb:Nat->Nat
 st:Nat->aQ
 A:Nat->Nat->Prop
 xr:Nat
 xc:Nat
 er:Nat
 ec:Nat
 el:Nat->Nat
 lc:Nat->Nat
 eb:Nat->Nat->Nat
 e:Nat->Nat->End
 cr:Nat
 cc:Nat
 bn:Nat->Int
 aZ:List (Int×ByteArray)
 vb:Value
def oO(e:End):Array Value:= #[.string e.wrote,.bool e.finished,.bool e.given,.int .u64 e.code,.int .i64 e.read,.int .i64 e.state,.int .i64 e.af]
def iR(x:Int×ByteArray):List Value:=[.int .i64 x.1,.string x.2]
def Nw.cells(V:Nw):Array Value:=(([.slice (some ⟨V.xr,0,none⟩) 2 V.xc,.slice (some ⟨V.er,0,none⟩) 2 V.ec,.int .i64 V.an,.int .i64 V.ag]:List Value)++bv V.key++[V.vb,.slice (some ⟨V.cr,0,none⟩) 2 V.cc]).toArray
def Nw.Own(V:Nw)(nb k:Nat):Prop:=k=nb\/k=V.xr\/k=V.er\/k=V.cr\/(∃i,i<2/\k=V.el i)\/(∃i j,i<2/\j<4/\k=V.eb i j)\/V.vb.ownBlock=some k
structure bS(w:World)(nb:Nat)(V:Nw):Prop where
 aN:w.heap[nb]?=some (.cells V.cells 80 (0,0))
 key:dw V.key
 cap:(2<=V.xc/\V.xc<=maxLen)/\(2<=V.ec/\V.ec<=maxLen)/\(2<=V.cc/\V.cc<=maxLen)/\∀i,i<2->4<=V.lc i/\V.lc i<=maxLen
 tx:Ty w V.xr 33
 x:∀i,i<2->w.cell? ⟨V.xr,i,none⟩=some (.pointer (some ⟨V.xb i,0,none⟩))
 te:Ty w V.er 141
 er:∀i,i<2->w.cell? ⟨V.er,i,none⟩=some (.slice (some ⟨V.el i,0,none⟩) 4 (V.lc i))
 tl:∀i,i<2->Ty w (V.el i) 140
 el:∀i,i<2->∀k,k<4->w.cell? ⟨V.el i,k,none⟩=some (.pointer (some ⟨V.eb i k,0,none⟩))
 en:∀i,i<2->∀k,k<4->w.heap[V.eb i k]?=some (.cells (oO (V.e i k)) 143 (0,0))
 ed:∀i j k l,i<2->j<2->k<4->l<4->V.eb i k=V.eb j l->i=j/\k=l
 bn:∃cs,w.heap[V.cr]?=some (.cells cs 30 (0,0))/\∀i,i<2->cs[i]?=some (.int .u64 (V.bn i))
 aZ:w.ownsRow 0 83 2 V.vb V.aZ.length (V.aZ.flatMap iR)
 side:∀i,i<2->cq w (V.xb i) (V.sb i) (V.st i) (V.A i)
 apart:∀i j,i<2->j<2->i≠j->∀k,V.A i k->¬V.A j k
 own:∀k,V.Own nb k->k≠0/\∀i,i<2->¬V.A i k
theorem bS.uk{V:Nw}(h:bS w n V):Ty w V.cr 30:=by obtain⟨cs,a,-⟩:=h.bn;exact⟨_,_,a⟩
theorem bS.fx{V:Nw}(h:bS w n V)(k:Nat)(a:V.Own n k):k<w.heap.size:=by
 obtain rfl|rfl|rfl|rfl|⟨i,hi,rfl⟩|⟨i,j,hi,b,rfl⟩|e:=a
 exact(aY.1 h.aN).1;exact h.tx.lt;exact h.te.lt;exact h.uk.lt;exact(h.tl i hi).lt;exact(aY.1 (h.en i hi j b)).1;exact(iP h.aZ k e).lt
theorem bS.ai{V:Nw}(h:bS w n V)(C:av w W S)(m:∀k,k<w.heap.size->S k->∀i,i<2->¬V.A i k)(j:¬S V.xr)(l:¬S V.er)(hl:∀i,i<2->¬S (V.el i))
 (d:Nat->Nat->End) (f:Nat->Int) (c:List (Int×ByteArray)) (a:Value)
 (p:W.heap[n]?=some (.cells {V with e:=d,bn:=f,aZ:=c,vb:=a}.cells 80 (0,0)))
 (r:∀i,i<2->∀k,k<4->W.heap[V.eb i k]?=some (.cells (oO (d i k)) 143 (0,0)))
 (s:∃cs,W.heap[V.cr]?=some (.cells cs 30 (0,0))/\∀i,i<2->cs[i]?=some (.int .u64 (f i)))
 (t:W.ownsRow 0 83 2 a c.length (c.flatMap iR)) (u:a.ownBlock=V.vb.ownBlock\/∀k,a.ownBlock=some k->w.heap.size<=k):bS W n {V with e:=d,bn:=f,aZ:=c,vb:=a}:=by
 refine⟨p,h.key,h.cap,h.tx.aw C j,λi hi=>C.cell (h.x i hi) j,h.te.aw C l,λi hi=>C.cell (h.er i hi) l,λi hi=>(h.tl i hi).aw C (hl i hi),λi hi k b=>C.cell (h.el i hi k b) (hl i hi),r,h.ed,s,t,λi hi=>(h.side i hi).other C (λk b e g=>m k b e i hi g),h.apart,λk b=>?_⟩
 obtain e|e|e|e|e|e|e:=b
 exact h.own k (.inl e);exact h.own k (.inr (.inl e));exact h.own k (.inr (.inr (.inl e)));exact h.own k (.inr (.inr (.inr (.inl e))));exact h.own k (.inr (.inr (.inr (.inr (.inl e)))));exact h.own k (.inr (.inr (.inr (.inr (.inr (.inl e))))));have e:a.ownBlock=some k:=e;obtain q|q:=u
 exact h.own k (.inr (.inr (.inr (.inr (.inr (.inr (q▸e)))))));have q:=q k e;refine⟨by have:=h.fx n (.inl rfl);omega,λi hi g=>?_⟩
 have:=(h.side i hi).lt k g;omega
theorem bS.other{V:Nw}(h:bS w n V)(C:av w W S)(b:∀k,k<w.heap.size->S k->¬V.Own n k/\∀i,i<2->¬V.A i k):bS W n V:=by
 have ho:∀k,V.Own n k->¬S k:=λk a e=>(b k (h.fx k a) e).1 a
 refine h.ai C (λk a e=>(b k a e).2) (ho _ (.inr (.inl rfl))) (ho _ (.inr (.inr (.inl rfl)))) (λi hi=>ho _ (.inr (.inr (.inr (.inr (.inl ⟨i,hi,rfl⟩)))))) V.e V.bn V.aZ V.vb ?_ (λi hi k a=>?_) ?_ ?_ (.inl rfl);exact(C.block n (h.fx n (.inl rfl)) (ho n (.inl rfl))).trans h.aN;have q:V.Own n (V.eb i k):=.inr (.inr (.inr (.inr (.inr (.inl ⟨i,k,hi,a,rfl⟩)))));exact(C.block _ (h.fx _ q) (ho _ q)).trans (h.en i hi k a);have q:V.Own n V.cr:=.inr (.inr (.inr (.inl rfl)));obtain⟨cs,c,d⟩:=h.bn;exact⟨cs,(C.block _ (h.fx _ q) (ho _ q)).trans c,d⟩
 exact kB h.aZ C (λk e=>ho k (.inr (.inr (.inr (.inr (.inr (.inr e)))))))
theorem bS.ao{V:Nw}(h:bS w n V)(g:w.grownBy W none):bS W n V:=h.other (av.of g) (λk _ e=>by cases e)
theorem bS.jw{V:Nw}(h:bS w n V)(hi:i<2){g:aQ}(C:av w W (V.A i))(p:cq W (V.xb i) (V.sb i) g S)(m:∀k,S k->V.A i k\/w.heap.size<=k):bS W n {V with st:=Go.Proofs.YtjnmokmchdfchaaGreatDoor.ai V.st i g,A:=Go.Proofs.YtjnmokmchdfchaaGreatDoor.ai V.A i S}:=by
 have ho:∀k,V.Own n k->¬V.A i k:=λk b=>(h.own k b).2 i hi
 have a:∀j,j<2->j≠i->∀k,V.A j k->¬S k:=λj a d k b e=>by
  obtain e|e:=m k e
  exact h.apart j i a hi d k b e;have:=(h.side j a).lt k b;omega
 refine⟨(C.block n (h.fx n (.inl rfl)) (ho n (.inl rfl))).trans h.aN,h.key,h.cap,h.tx.aw C (ho _ (.inr (.inl rfl))),λj a=>C.cell (h.x j a) (ho _ (.inr (.inl rfl))),h.te.aw C (ho _ (.inr (.inr (.inl rfl)))),λj a=>C.cell (h.er j a) (ho _ (.inr (.inr (.inl rfl)))),λj a=>(h.tl j a).aw C (ho _ (.inr (.inr (.inr (.inr (.inl ⟨j,a,rfl⟩)))))),λj a k b=>C.cell (h.el j a k b) (ho _ (.inr (.inr (.inr (.inr (.inl ⟨j,a,rfl⟩)))))),λj a k b=>?_,h.ed,?_,kB h.aZ C (λk e=>ho k (.inr (.inr (.inr (.inr (.inr (.inr e))))))),λj c=>?_,λj l c hl d k b=>?_,λk b=>⟨(h.own k b).1,λj c=>?_⟩⟩
 have q:V.Own n (V.eb j k):=.inr (.inr (.inr (.inr (.inr (.inl ⟨j,k,a,b,rfl⟩)))));exact(C.block _ (h.fx _ q) (ho _ q)).trans (h.en j a k b);have q:V.Own n V.cr:=.inr (.inr (.inr (.inl rfl)));obtain⟨cs,r,s⟩:=h.bn;exact⟨cs,(C.block _ (h.fx _ q) (ho _ q)).trans r,s⟩
 show cq W (V.xb j) (V.sb j) (Go.Proofs.YtjnmokmchdfchaaGreatDoor.ai V.st i g j) (Go.Proofs.YtjnmokmchdfchaaGreatDoor.ai V.A i S j);by_cases e:j=i;subst e;rw[bk,bk];exact p;rw[bl _ _ e,bl _ _ e];exact(h.side j c).other C (λk _ e2 t=>h.apart j i c hi e k t e2);have f:Go.Proofs.YtjnmokmchdfchaaGreatDoor.ai V.A i S j k:=b;show¬Go.Proofs.YtjnmokmchdfchaaGreatDoor.ai V.A i S l k;by_cases e:j=i;subst e;rw[bk]at f;rw[bl _ _ (λq=>d q.symm)];exact λq=>a l hl (λq=>d q.symm) k q f
 rw[bl _ _ e]at f;by_cases e2:l=i;subst e2;rw[bk];exact a j c e k f;rw[bl _ _ e2];exact h.apart j l c hl d k f;show¬Go.Proofs.YtjnmokmchdfchaaGreatDoor.ai V.A i S j k;by_cases e:j=i;subst e;rw[bk];intro q;obtain q|q:=m k q
 exact ho k b q;have:=h.fx k b;omega;rw[bl _ _ e];exact(h.own k b).2 j c
theorem PH(V:Nw)(a:dw V.key):V.cells[0]?=some (.slice (some ⟨V.xr,0,none⟩) 2 V.xc)/\V.cells[1]?=some (.slice (some ⟨V.er,0,none⟩) 2 V.ec)/\V.cells[2]?=some (.int .i64 V.an)/\V.cells[3]?=some (.int .i64 V.ag)/\V.cells[20]?=some V.vb/\V.cells[21]?=some (.slice (some ⟨V.cr,0,none⟩) 2 V.cc)/\V.cells.size=22:=by
 have hl:(bv V.key).length=16:=by rw[fC];exact a.1
 unfold Nw.cells;simp[List.getElem?_append,hl]
theorem bS.c{V:Nw}(h:bS w n V):(w.cell? ⟨n,0,none⟩=some (.slice (some ⟨V.xr,0,none⟩) 2 V.xc)/\w.cell? ⟨n,1,none⟩=some (.slice (some ⟨V.er,0,none⟩) 2 V.ec)/\w.cell? ⟨n,2,none⟩=some (.int .i64 V.an)/\w.cell? ⟨n,3,none⟩=some (.int .i64 V.ag)/\w.cell? ⟨n,20,none⟩=some V.vb/\w.cell? ⟨n,21,none⟩=some (.slice (some ⟨V.cr,0,none⟩) 2 V.cc))/\∀o,w.frozen? ⟨n,o,none⟩=false:=by
 obtain⟨a,b,d,e,f,a5,-⟩:=PH V h.key;refine⟨⟨?_,?_,?_,?_,?_,?_⟩,λo=>by simp[World.frozen?,h.aN]⟩<;>rw[aX h.aN]<;>assumption
theorem bS.ce{V:Nw}(h:bS w n V)(hi:i<2)(a:k<4):(w.cell? ⟨V.eb i k,0,none⟩=some (.string (V.e i k).wrote)/\w.cell? ⟨V.eb i k,1,none⟩=some (.bool (V.e i k).finished)/\w.cell? ⟨V.eb i k,2,none⟩=some (.bool (V.e i k).given)/\w.cell? ⟨V.eb i k,3,none⟩=some (.int .u64 (V.e i k).code)/\w.cell? ⟨V.eb i k,4,none⟩=some (.int .i64 (V.e i k).read)/\w.cell? ⟨V.eb i k,5,none⟩=some (.int .i64 (V.e i k).state)/\w.cell? ⟨V.eb i k,6,none⟩=some (.int .i64 (V.e i k).af))/\∀o,w.frozen? ⟨V.eb i k,o,none⟩=false:=by
 have b:=h.en i hi k a;simp[World.cell?,World.frozen?,b,oO]
def eh{α:Type}(f:Nat->Nat->α)(i k:Nat)(x:α):Nat->Nat->α:=λj l=>if j=i/\l=k then x else f j l
theorem bS.Ev{V:Nw}(h:bS w n V)(hi:i<2)(a:k<4):V.eb i k≠n/\V.eb i k≠V.xr/\V.eb i k≠V.er/\V.eb i k≠V.cr/\(∀j,j<2->V.eb i k≠V.el j)/\V.vb.ownBlock≠some (V.eb i k):=by
 have t:Ty w (V.eb i k) 143:=⟨_,_,h.en i hi k a⟩
 exact⟨t.ne ⟨_,_,h.aN⟩ (by decide),t.ne h.tx (by decide),t.ne h.te (by decide),t.ne h.uk (by decide),λj b=>t.ne (h.tl j b) (by decide),λe=>t.ne (iP h.aZ _ e) (by decide) rfl⟩
theorem bS.wa{V:Nw}(h:bS w n V)(hi:i<2)(c:k<4){x:End}(C:av w W (λb=>b=V.eb i k))(d:W.heap[V.eb i k]?=some (.cells (oO x) 143 (0,0))):bS W n {V with e:=eh V.e i k x}:=by
 obtain⟨f,n2,g,m,n5,p⟩:=h.Ev hi c;refine h.ai C (λb _ e j a=>?_) (λe=>n2 e.symm) (λe=>g e.symm) (λj a e=>n5 j a e.symm) (eh V.e i k x) V.bn V.aZ V.vb ?_ (λj a l hl=>?_) ?_ ?_ (.inl rfl);subst e;exact(h.own _ (.inr (.inr (.inr (.inr (.inr (.inl ⟨i,k,hi,c,rfl⟩))))))).2 j a;exact(C.block n (h.fx n (.inl rfl)) (λe=>f e.symm)).trans h.aN;unfold eh;by_cases e:j=i/\l=k;rw[az e,e.1,e.2];exact d;rw[ah e];have q:V.Own n (V.eb j l):=.inr (.inr (.inr (.inr (.inr (.inl ⟨j,l,a,hl,rfl⟩)))));exact(C.block _ (h.fx _ q) (λe2=>e (h.ed j i l k a hi hl c e2))).trans (h.en j a l hl);obtain⟨cs,r,s⟩:=h.bn;exact⟨cs,(C.block _ (h.fx _ (.inr (.inr (.inr (.inl rfl))))) (λe=>m e.symm)).trans r,s⟩
 exact kB h.aZ C (λb e e2=>p (e2▸e))
def Nw.jK(V:Nw)(nb k:Nat):Prop:=V.Own nb k\/∃i,i<2/\V.A i k
structure bO(w:World)(nb:Nat)(V b:Nw)(a:World):Prop where
 at_:bS a nb b
 aw:av w a (V.jK nb)
 all:∀k,b.jK nb k->V.jK nb k\/w.heap.size<=k
 laid:Laid a
theorem bS.wT{V:Nw}(h:bS w n V)(k:Nat)(a:V.jK n k):k<w.heap.size:=by
 obtain e|⟨i,hi,e⟩:=a
 exact h.fx k e;exact(h.side i hi).lt k e
theorem bO.refl{V:Nw}(h:bS w n V)(g:w.grownBy W none)(a:Laid w):bO w n V V W:=⟨h.ao g,(av.of g).mono (λk _ e=>by cases e),λk b=>.inl b,a.gb g (by simp)⟩
theorem bO.trans{V a b:Nw}(h:bO w n V a W)(g:bO W n a b v):bO w n V b v:=by
 refine⟨g.at_,(h.aw.trans g.aw).mono (λk c e=>e.elim id (λe=>(h.all k e).elim id (λq=>by omega))),λk c=>?_,g.laid⟩
 obtain q|q:=g.all k c
 exact h.all k q;have:=h.aw.size;exact .inr (by omega)
theorem bO.gb{V a:Nw}(h:bO w n V a W)(g:W.grownBy v none):bO w n V a v:=h.trans (bO.refl h.at_ g h.laid)
theorem bO.pre{V a:Nw}(b:bS w n V)(c:Laid w)(g:w.grownBy W none)(h:bO W n V a v):bO w n V a v:=(bO.refl b g c).trans h
theorem bS.Ew{V:Nw}(h:bS w n V)(d:Laid w)(hi:i<2){a:aQ}(C:av w W (V.A i))(f:cq W (V.xb i) (V.sb i) a S)(b:∀k,S k->V.A i k\/w.heap.size<=k):bO w n V {V with st:=Go.Proofs.YtjnmokmchdfchaaGreatDoor.ai V.st i a,A:=Go.Proofs.YtjnmokmchdfchaaGreatDoor.ai V.A i S} W:=by
 refine⟨h.jw hi C f b,C.mono (λk _ e=>.inr ⟨i,hi,e⟩),λk g=>?_,d.aw C (h.side i hi).n0⟩
 obtain e|⟨j,c,e⟩:=g
 exact .inl (.inl e);have e:Go.Proofs.YtjnmokmchdfchaaGreatDoor.ai V.A i S j k:=e;by_cases q:j=i;subst q;rw[bk]at e;exact(b k e).imp (λe=>.inr ⟨j,c,e⟩) id;rw[bl _ _ q]at e;exact .inl (.inr ⟨j,c,e⟩)
theorem bS.uo{V:Nw}(h:bS w n V)(d:Laid w)(hi:i<2)(c:k<4){x:End}(C:av w W (λb=>b=V.eb i k))(a:W.heap[V.eb i k]?=some (.cells (oO x) 143 (0,0))):bO w n V {V with e:=eh V.e i k x} W:=by
 have q:V.Own n (V.eb i k):=.inr (.inr (.inr (.inr (.inr (.inl ⟨i,k,hi,c,rfl⟩)))));exact⟨h.wa hi c C a,C.mono (λb _ e=>.inl (e▸q)),λb a=>.inl a,d.aw C (λe=>(h.own _ q).1 e.symm)⟩
variable{d:Nw}
def iu(e:Nat->Nat->End)(i:Nat)(p:Nat->Int)(j:Nat):Nat->Nat->End:=λa k=>if a=i/\k<j then{e a k with af:=p k}else e a k
theorem Ex(e:Nat->Nat->End)(i:Nat)(p:Nat->Int)(j:Nat):iu e i p j i j=e i j:=by unfold iu;rw[ah (by omega)]
theorem PI(e:Nat->Nat->End)(i:Nat)(p:Nat->Int)(j:Nat):eh (iu e i p j) i j {e i j with af:=p j}=iu e i p (j+1):=by
 funext a k;unfold eh iu;by_cases b:a=i;subst b;by_cases c:k=j;subst c;rw[az ⟨rfl,rfl⟩,az ⟨rfl,by omega⟩];rw[ah (λq=>c q.2)];by_cases d:k<j;rw[az ⟨rfl,d⟩,az ⟨rfl,by omega⟩];rw[ah (λq=>d q.2),ah (by omega)];rw[ah (λq=>b q.1),ah (λq=>b q.1),ah (λq=>b q.1)]
def gG(V:Nw)(i:Nat)(p:Nat->Int)(j:Nat)(a:Nat->Prop):Nw:={V with A:=ai V.A i a,e:=iu V.e i p j}
structure qB(V:Nw)(i k:Nat)(p:Int):Prop where
 lo:(V.e i k).af<=p
 hi:p<=(V.e i k).wrote.size
 wn:(V.e i k).given=false->(V.e i k).state=0->p<=(V.e i k).read+V.ag
 rd:0<=(V.e i k).read/\(V.e i k).read<=1000000000
theorem oa(w:World)(b o:Nat)(v:Value):av w (w.setCell ⟨b,o,none⟩ v) (λk=>k=b):=(av.of (aI (aB w (some b)) ⟨b,o,none⟩ v (.inr rfl))).mono (λk _ e=>(aO e).symm)
theorem bO.PJ{wr:World}{a:Nw}(T:bO w n d a wr)(hi:i<2)(b:cq W (a.xb i) (a.sb i) (a.st i) S)(c:∀k,S k->a.A i k\/wr.heap.size<=k)(C:av wr W (a.A i)):bO w n d {a with A:=ai a.A i S} W:=by
 have:=T.trans (T.at_.Ew T.laid hi C b c);rw[ml]at this;exact this
theorem Ey(w:World)(nb:Nat)(V:Nw)(H:bS w nb V)(Q:Laid w)(i:Nat)(hi:i<2)(n:Nat)(ax:dY n (V.st i))(hn:n<=100000)(hw:0<=V.ag/\V.ag<=1000000000)(p:Nat->Int)(hp:∀k:Nat,k<4->(V.st i).af (k:Int)=(p k,0))(B:∀k,k<4->qB V i k (p k)):
 Calls prog 82 #[.pointer (some ⟨nb,0,none⟩),.int .i64 i] w λe w'=>e=.returned (.bool true)/\∃g,bO w nb V (gG V i p 4 g) w':=by
 have i0:(0:Int)<=(i:Int):=by omega
 have i1:(i:Int)<2:=by omega
 have D:bO w nb V (gG V i p 0 (V.A i)) w:=by
  have e1:gG V i p 0 (V.A i)=V:=by
   have e2:iu V.e i p 0=V.e:=by funext a k;unfold iu;rw[ah (by omega)]
   unfold gG;rw[e2,ml]
  rw[e1];exact bO.refl H (aB _ _) Q
 replace D:=J D;replace hp:=J hp;replace B:=J B;replace H:=J H;clear Q;go_enter func82,ntmps82;go_wp2_with fail;go_loopw [5] (λE wr=>∃(j:Nat)(g:Nat->Prop),j<=4/\E=.int .i64 (j:Int)/\bO w nb V (gG V i p j g) wr) (λE _=>4-(intOf E).toNat);case atStart=>exact⟨0,V.A i,by omega,rfl,Z D⟩
 case round=>
  obtain⟨j,g,hj,rfl,T⟩:=hrel;by_cases r:j<4
  ·have d1:decide ((j:Int)<4)=true:=bK (by omega);have j0:(0:Int)<=(j:Int):=by omega
   have j1:(j:Int)<4:=by omega
   have l:=T.at_;obtain⟨⟨c0,c1,-,-,-,-⟩,-⟩:=l.c;have R:=l.x i hi;have ce:=l.er i hi;have cl:=l.el i hi j r;have S:aQ.do (V.st i) ⟨9,(j:Int),0,0,⟨#[]⟩⟩=(⟨0,-1,p j,0,[],[]⟩,V.st i):=by
    unfold aQ.do;simp[Z hp j r]
   have q:=Et wr (V.xb i) (V.sb i) (V.st i) g n (by have:=l.side i hi;simpa only[gG,bk]using this) ax hn T.laid ⟨9,(j:Int),0,0,⟨#[]⟩⟩ (by simp[aV]) (jh _);rw[S]at q;clear S;have hC:=Z B j r;have U:=J (λ(f:World)(d:Nat->Prop)(v:cq f (V.xb i) (V.sb i) (V.st i) d)(y:∀k,d k->g k\/wr.heap.size<=k) (C:av wr f g)=>(show bO w nb V (gG V i p j d) f by
    have:=T.PJ hi (S:=d) v (by simpa only[gG,bk]using y) (by simpa only[gG,bk]using C);simpa only[gG,qR]using this))
   unfold cG uj lF at q;simp only[pP]at q;replace q:=J q;replace T:=J T;replace l:=J l;simp only[gG]at c0 c1 R ce cl;go_upto_region 6 with(go_at_call 28;refine(Z q).mono ?_;rintro e f⟨a,m,c,rfl,-,d,v,y,C,-⟩;have F:=Z U f d v y C;clear v y C)
   obtain⟨s,z⟩:=exq (f.alloc (.cells #[.int .i64 0,.int .i64 (-1),.int .i64 (p j),.int .u64 0,.string ⟨#[]⟩,.slice a m c] 46));have g5:f.grownBy s none:=by rw[z];exact aH _ _ _
   have G:s.heap[f.heap.size]?=some (.cells #[.int .i64 0,.int .i64 (-1),.int .i64 (p j),.int .u64 0,.string ⟨#[]⟩,.slice a m c] 46 (0,0)):=by rw[z];exact aM _ _
   rw[<-z];clear z;have h:=F.gb g5;obtain⟨y0,y2⟩:s.cell? ⟨f.heap.size,0,none⟩=some (.int .i64 0)/\s.cell? ⟨f.heap.size,2,none⟩=some (.int .i64 (p j)):=by simp[World.cell?,G]
   obtain⟨⟨-,-,-,f3,-,-⟩,-⟩:=h.at_.c;obtain⟨⟨e0,-,e2,-,I,K,L⟩,ef⟩:=h.at_.ce hi r;simp only[gG,Ex]at f3 e0 e2 I K L ef;have t:=J (λ(M:World)(C:av s M (λb=>b=V.eb i j)) (hb:M.heap[V.eb i j]?=some (.cells (oO {V.e i j with af:=p j}) 143 (0,0)))=>(show bO w nb V (gG V i p (j+1) d) M by
    have:=h.trans (h.at_.uo h.laid hi r C hb);simpa only[gG,PI]using this))
   have u:=h.at_.en i hi j r;simp only[gG,Ex]at u;replace G:=J G;replace u:=J u;replace F:=J F;replace h:=J h;obtain⟨W,X,N,Y⟩:=hC;obtain⟨⟨wrote,fin,gv,code,read,state,af⟩,hE⟩:∃x,x=V.e i j:=⟨_,rfl⟩
   rw[<-hE]at e0 e2 I K L t u W X N Y;simp only at e0 e2 I K L t W X N Y;clear hE U q;have k1:decide (p j<af)=false:=bI (by omega);have k2:decide ((wrote.size:Int)<p j)=false:=bI (by omega);have k3:IntKind.i64.wrap (read+V.ag)=read+V.ag:=by simp[IntKind.wrap,IntKind.bits,IntKind.signed];omega
   clear c0 c1 R ce cl;have O:=J (heap_set (o:=6) (Z u) (.int .i64 (p j)));have P:=J (oa s (V.eb i j) 6 (.int .i64 (p j)));cases gv
   ·by_cases hs:state=0
    ·have k4:decide (read+V.ag<p j)=false:=bI (by have:=N rfl hs;omega);subst hs;go_region;go_upto_region 8 with fail;go_region;go_wp2_with fail;exact⟨⟨j+1,d,by omega,rfl,(Z t _ (Z P) (Z O)).gb (aW (aW (aB _ none)))⟩,by simp[intOf];omega⟩
    have k5:(state==0)=false:=by simpa using hs
    go_region;go_upto_region 8 with fail;go_region;go_wp2_with fail;exact⟨⟨j+1,d,by omega,rfl,(Z t _ (Z P) (Z O)).gb (aW (aW (aB _ none)))⟩,by simp[intOf];omega⟩
   go_region;go_upto_region 8 with fail;go_region;go_wp2_with fail;exact⟨⟨j+1,d,by omega,rfl,(Z t _ (Z P) (Z O)).gb (aW (aW (aB _ none)))⟩,by simp[intOf];omega⟩
  have d1:decide ((j:Int)<4)=false:=bI (by omega);have a4:j=4:=by omega
  subst a4;replace T:=J T;go_wp2_with fail;go_ret;exact⟨rfl,g,Z T⟩
theorem bS.qu(h:bS w n d):w.rangeAt n 4 (bv d.key):=λj u a=>by
 have b:(bv d.key).length=16:=by rw[fC,h.key.1]
 have c:j<16:=by have:=(kF.1 a).1;omega
 rw[aX h.aN];unfold Nw.cells;rw[sS,mc (by simp[b];omega),jz (by simp)];simpa using a
def ma(w wr:World)(nb:Nat)(V b:Nw)(i:Nat)(r:Rs)(d:aQ)(e:Ending)(f:World):Prop:=
 ∃a m c g,e=.returned (.agg (lF r (.slice a m c)))/\fP f wr.heap.size (.slice a m c) r.dh/\bO w nb V {b with st:=ai b.st i d,A:=ai b.A i g} f/\∀j,(Value.slice a m c).ownBlock=some j->¬Nw.jK {b with st:=ai b.st i d,A:=ai b.A i g} nb j
theorem np{wr:World}{b:Nw}(T:bO w k d b wr)(hi:i<2)(s:dY n (b.st i))(t:n<=100000)(q:fY)(u:aV q.code)(hd:q.data.size<=1000000){r:Rs}{f:aQ}(v:(b.st i).do q=(r,f)):
 Calls prog 28 #[.pointer (some ⟨b.xb i,0,none⟩),.agg (cG q)] wr (ma w wr k d b i r f):=by
 have g:=Et wr (b.xb i) (b.sb i) (b.st i) (b.A i) n (T.at_.side i hi) s t T.laid q u hd;rw[v]at g;refine g.mono ?_;rintro e D⟨a,m,c,rfl,h,p,x,y,C,z⟩;refine⟨a,m,c,p,rfl,h,T.trans (T.at_.Ew T.laid hi C x y),λj e B=>?_⟩
 have E:=(h.lt j e).1;obtain q|⟨l,hl,q⟩:=B
 have:=T.at_.fx j q;omega;have q:ai b.A i p l j:=q;by_cases el:l=i;subst el;rw[bk]at q;exact z j e q;rw[bl _ _ el]at q;have:=(T.at_.side l hl).lt j q;omega
theorem Ez(V:Nw)(i:Nat)(a:aQ)(c b:Nat->Prop)(p:Nat->Int):gG {V with st:=ai V.st i a,A:=ai V.A i c} i p 4 b=gG {V with st:=ai V.st i a} i p 4 b:=by
 unfold gG;simp only[qR]
theorem EA(w:World)(nb:Nat)(V:Nw)(H:bS w nb V)(B:Laid w)(i:Nat)(hi:i<2)(n:Nat)(N:dY n (V.st i))(G:n<=100000)(O:0<=V.ag/\V.ag<=1000000000)(b:ByteArray)(P:b.size<=1000000)(r:Rs)(d:aQ)(Q:(V.st i).do ⟨6,0,0,0,b⟩=(r,d))(s:r.e=0\/r.e=6)(R:dY n d)(p:Nat->Int)(hp:∀k:Nat,k<4->d.af (k:Int)=(p k,0))(g:∀k,k<4->qB V i k (p k)):
 Calls prog 86 #[.pointer (some ⟨nb,0,none⟩),.int .i64 i,.string b] w λe f=>e=.returned (.bool true)/\∃h,bO w nb V (gG {V with st:=ai V.st i d} i p 4 h) f:=by
 have i0:(0:Int)<=(i:Int):=by omega
 have i1:(i:Int)<2:=by omega
 have D:=bO.refl H (aB w none) B;have j:=np D hi N G ⟨6,0,0,0,b⟩ (by simp[aV]) P Q;obtain⟨⟨c0,-,-,-,-,-⟩,-⟩:=H.c;have S:=H.x i hi;have I:=J (λ(W:World)(l:Nat->Prop)(T:bO w nb V {V with st:=ai V.st i d,A:=ai V.A i l} W)=>(show Calls prog 82 #[.pointer (some ⟨nb,0,none⟩),.int .i64 i] W (λe f=>e=.returned (.bool true)/\(∃h,bO w nb V (gG {V with st:=ai V.st i d} i p 4 h) f)/\av W f (λk=>k<W.heap.size->Nw.jK {V with st:=ai V.st i d,A:=ai V.A i l} nb k)) by
  refine(Ey W nb _ T.at_ T.laid i hi n (by simp only[bk];exact R) G O p (by simp only[bk];exact hp) (λk v=>⟨(g k v).lo,(g k v).hi,(g k v).wn,(g k v).rd⟩)).mono ?_;rintro e f⟨rfl,h,K⟩;exact⟨rfl,⟨h,by rw[<-Ez V i d l h p];exact T.trans K⟩,K.aw.mono (λk _ e _=>e)⟩))
 unfold cG ma lF at j;simp only at j;replace j:=J j;replace H:=J H;replace D:=J D;replace B:=J B;replace g:=J g;replace hp:=J hp;go_enter func86,ntmps86;go_upto_region 2 with(go_at_call 28;refine(Z j).mono ?_;rintro e t⟨a,m,c,l,rfl,-,y,-⟩)
 obtain⟨q,u⟩:=exq (t.alloc (.cells #[.int .i64 r.e,.int .i64 r.at_,.int .i64 r.n,.int .u64 r.code,.string (strOfNums r.data),.slice a m c] 46));have U:t.grownBy q none:=by rw[u];exact aH _ _ _
 have X:t.heap.size<q.heap.size:=by rw[u,dQ];omega
 have E:q.heap[t.heap.size]?=some (.cells #[.int .i64 r.e,.int .i64 r.at_,.int .i64 r.n,.int .u64 r.code,.string (strOfNums r.data),.slice a m c] 46 (0,0)):=by rw[u];exact aM _ _
 rw[<-u];clear u;have F:=y.gb U;have Y:=J (Z I q l F);have al:Hid (∀f,av q f (λk=>k<q.heap.size->Nw.jK {V with st:=ai V.st i d,A:=ai V.A i l} nb k)->f.cell? ⟨t.heap.size,0,none⟩=some (.int .i64 r.e)):=J (λf C=>by
  refine C.cell (by simp[World.cell?,E]) (λe=>?_);have:=y.at_.wT _ (e X);simp only at this;omega)
 replace E:=J E;replace y:=J y;replace F:=J F;clear j I c0 S;go_upto_region 3 with(go_at_call 82;refine(Z Y).mono ?_;rintro e w6⟨rfl,z,L⟩;have M:=Z al w6 L;clear L;replace z:=J z)
 obtain s|s:=s
 ·rw[s]at M;go_wp2_with fail;go_ret;exact⟨rfl,Z z⟩
 rw[s]at M;go_wp2_with fail;go_ret;exact⟨rfl,Z z⟩
theorem zr(w:World)(nb:Nat)(V:Nw)(H:bS w nb V)(q:Laid w)(i:Nat)(hi:i<2)(n:Nat)(z:dY n (V.st i))(B:n<=100000)(b:ByteArray)(C:b.size<=1000000)(s:¬eC V.key (aS (decide (i≠0))) (aG b)->(V.st i).do ⟨6,0,0,0,b⟩=(⟨4,-1,0,0,[],[]⟩,V.st i)):
 Calls prog 84 #[.pointer (some ⟨nb,0,none⟩),.int .i64 i,.string b] w λe D=>e=.returned (.bool true)/\∃E,bO w nb V {V with A:=ai V.A i E} D:=by
 have N:(0:Int)<=(i:Int):=by omega
 have O:(i:Int)<2:=by omega
 obtain⟨f,t⟩:=exq (decide (i≠0));have P:((i:Int) !=0)=f:=by
  rw[t];have r:i=0\/i=1:=by omega
  obtain r|r:=r<;>subst r<;>decide
 rw[<-t]at s;clear t;have v:w.grownBy (Lib.bytesWorld w 5 b) none:=uP _ _;have Q:=mR b;have l:=Eu (Lib.bytesWorld w 5 b) V.key f _ _ _ _ H.key (q.gb v (by simp)) (xq w b (by omega)) (by rw[fu];omega);have j:=bO.refl H v q;have k:=λ(d:World)(h:(Lib.bytesWorld w 5 b).grownBy d none)(p:¬eC V.key (aS f) (aG b))=>np (j.gb h) hi z B ⟨6,0,0,0,b⟩ (by simp[aV]) C (s p)
 have F:=J (λ(d:World)(h:(Lib.bytesWorld w 5 b).grownBy d none)=>j.gb h);obtain⟨⟨c0,-,-,-,-,-⟩,-⟩:=H.c;have G:=J H.qu;have I:Hid ((prog.info? 24).map (·.size)=some (bv V.key).length):=J (by rw[fC,H.key.1];exact mQ);have K:Hid (∀W,(Lib.bytesWorld w 5 b).grownBy W none->W.cell? ⟨nb,0,none⟩=some (.slice (some ⟨V.xr,0,none⟩) 2 V.xc)/\W.cell? ⟨V.xr,i,none⟩=some (.pointer (some ⟨V.xb i,0,none⟩))):=J (λW g=>⟨(j.gb g).at_.c.1.1,(j.gb g).at_.x i hi⟩);unfold cG ma lF at k;unfold cJ wR at l;simp only[pP,ml]at k;replace k:=J k;replace l:=J l;replace H:=J H;replace j:=J j;replace q:=J q;clear s;go_enter func84,ntmps84;go_upto_region 2 with(first|(refine wpList_load_mid (by rfl) 24 _ (by rfl) nb 4 (by rfl) (bv V.key) _ (Z G) underlying24 (by rfl) (Z I) ?_)|(go_at_call 61;refine(Z l).mono ?_;rintro e d⟨⟨y,R,S,rfl,-,-⟩|⟨p,rfl⟩,h⟩))
 ·replace y:=J y;go_wp2_with fail;go_ret;exact⟨rfl,V.A i,by rw[ml];exact Z F d h⟩
 have L:=J (Z k d h p);obtain⟨T,U⟩:=Z K d h;replace p:=J p;clear c0 k l;go_upto_region 5 with(go_at_call 28;refine(Z L).mono ?_;rintro e X⟨a,m,c,M,rfl,-,u,-⟩;replace u:=J u)
 go_wp2_with fail;go_ret;exact⟨rfl,M,(Z u).gb (aH _ _ _)⟩
theorem bS.PK(h:bS w n d)(g:Laid w)(hi:i<2)(c:Int):bO w n d {d with bn:=Go.Proofs.YtjnmokmchdfchaaGreatDoor.ai d.bn i c} (w.setCell ⟨d.cr,i,none⟩ (.int .u64 c)):=by
 have t:=h.uk;have C:=oa w d.cr i (.int .u64 c);have q:d.Own n d.cr:=.inr (.inr (.inr (.inl rfl)));refine⟨?_,C.mono (λb _ e=>.inl (e▸q)),λb k=>.inl k,g.aw C (λe=>(h.own _ q).1 e.symm)⟩
 refine h.ai C (λb _ e j a=>by subst e;exact(h.own _ q).2 j a) (t.ne h.tx (by decide)∘Eq.symm) (t.ne h.te (by decide)∘Eq.symm) (λj a e=>t.ne (h.tl j a) (by decide) e.symm) d.e (Go.Proofs.YtjnmokmchdfchaaGreatDoor.ai d.bn i c) d.aZ d.vb ?_ (λj a l hl=>?_) ?_ ?_ (.inl rfl);exact(C.block n (h.fx n (.inl rfl)) (λe=>t.ne ⟨_,_,h.aN⟩ (by decide) e.symm)).trans h.aN;have m:d.Own n (d.eb j l):=.inr (.inr (.inr (.inr (.inr (.inl ⟨j,l,a,hl,rfl⟩)))));exact(C.block _ (h.fx _ m) (λe=>(h.Ev a hl).2.2.2.1 e)).trans (h.en j a l hl);obtain⟨cs,p,f⟩:=h.bn;refine⟨_,heap_set p _,λj a=>?_⟩
 by_cases e:j=i;subst e;rw[bk];have:=(aY.1 (f j a)).1;simp[kE,this];rw[bl _ _ e,bg (λq=>e q.symm)];exact f j a;exact kB h.aZ C (λb e e2=>t.ne (iP h.aZ b e) (by decide) e2.symm)
theorem PL(V:Nw)(a:dw V.key)(v:Value):V.cells.setIfInBounds 20 v={V with vb:=v}.cells:=by
 obtain⟨_,_,_,_,_,_,_,_,_,_,_,_,_,_,_,_,e⟩:=wC (bv V.key) (by rw[fC,a.1]);unfold Nw.cells;rw[e];rfl
theorem bS.PM(h:bS w n d)(z:Laid w){c:List (Int×ByteArray)}(g:w.grownBy W d.vb.ownBlock)(A:W.ownsRow 0 83 2 x c.length (c.flatMap iR))(ho:x.ownBlock=d.vb.ownBlock\/x.ownBlock=some w.heap.size):bO w n d {d with aZ:=c,vb:=x} (W.setCell ⟨n,20,none⟩ x):=by
 have B:=h.fx n (.inl rfl);have s:∀k,d.vb.ownBlock=some k->Ty w k 83:=iP h.aZ;have u:Ty w n 80:=⟨_,_,h.aN⟩
 have nn:d.vb.ownBlock≠some n:=λe=>(u.ne (s n e) (by decide)) rfl
 have b1:W.heap[n]?=some (.cells d.cells 80 (0,0)):=(g.block n B (λe=>nn e.symm)).trans h.aN;have v:=oa W n 20 x;have C:av w (W.setCell ⟨n,20,none⟩ x) (λk=>d.vb.ownBlock=some k\/k=n):=(av.of g).trans v;have i:∀k,(d.vb.ownBlock=some k\/k=n)->d.Own n k:=λk e=>e.elim (λe=>.inr (.inr (.inr (.inr (.inr (.inr e)))))) (λe=>.inl e)
 have f:∀{b:Nat}{t:TypeId},Ty w b t->t≠83->t≠80->¬(d.vb.ownBlock=some b\/b=n):=λy p r e=>e.elim (λe=>y.ne (s _ e) p rfl) (λe=>y.ne u r e)
 have D:∀k,x.ownBlock=some k->k≠n:=λk e e2=>by
  subst e2;obtain m|m:=ho
  exact nn (m▸e);rw[e]at m;have:=aO m;omega
 have E:∀k,Nw.jK {d with aZ:=c,vb:=x} n k->d.jK n k\/w.heap.size<=k:=λk F=>by
  obtain(e|e|e|e|e|e|e)|e:=F
  exact .inl (.inl (.inl e));exact .inl (.inl (.inr (.inl e)));exact .inl (.inl (.inr (.inr (.inl e))));exact .inl (.inl (.inr (.inr (.inr (.inl e)))));exact .inl (.inl (.inr (.inr (.inr (.inr (.inl e))))));exact .inl (.inl (.inr (.inr (.inr (.inr (.inr (.inl e)))))));have e:x.ownBlock=some k:=e;obtain q|q:=ho
  exact .inl (.inl (i k (.inl (q▸e))));rw[e]at q;have:=aO q;exact .inr (by omega);exact .inl (.inr e)
 refine⟨?_,C.mono (λb _ e=>.inl (i b e)),E,z.aw C (λe=>(h.own _ (i 0 e)).1 rfl)⟩
 refine h.ai C (λb _ e j a=>(h.own b (i b e)).2 j a) (f h.tx (by decide) (by decide)) (f h.te (by decide) (by decide)) (λj a=>f (h.tl j a) (by decide) (by decide)) d.e d.bn c x ?_ (λj a l hl=>?_) ?_ ?_ ?_;have:=heap_set (o:=20) b1 x;rw[PL d h.key x]at this;exact this;exact(C.block _ (h.fx _ (.inr (.inr (.inr (.inr (.inr (.inl ⟨j,l,a,hl,rfl⟩))))))) (f ⟨_,_,h.en j a l hl⟩ (by decide) (by decide))).trans (h.en j a l hl);obtain⟨cs,p,r⟩:=h.bn;exact⟨cs,(C.block _ h.uk.lt (f h.uk (by decide) (by decide))).trans p,r⟩
 exact kB A v (λb e e2=>D b e e2);obtain q|q:=ho
 exact .inl q;exact .inr (λk e=>by rw[e]at q;have:=aO q;omega)
theorem PO:(prog.info? 83).map (λi=>(i.zero,i.size,i.bytes))=some (some (.agg #[.int .i64 0,.string ⟨#[]⟩]),2,24):=by kernel_rfl
theorem PQ(l:List (Int×ByteArray)):∀u∈l.flatMap iR,u.oneCell'=true:=by
 intro u b;obtain⟨x,-,a⟩:=uI.1 b;simp only[iR,fk,qG,oT]at a;obtain rfl|rfl:=a<;>rfl
theorem PR(v:Value)(l:List (Int×ByteArray))(n:w.ownsRow 0 83 2 v l.length (l.flatMap iR))(b c:Nat)(x:Int×ByteArray)(h0:w.heap[b]?=some (.cells #[.int .i64 x.1,.string x.2] 83 (0,0)))(B:l.length<=10000000):
 ∃d e f a,(Builtin.append_ #[77,77] 77 #[v,.slice (some ⟨b,0,none⟩) 1 c]).run prog w=.ok (.slice d e f) a/\a.ownsRow 0 83 2 (.slice d e f) (l++[x]).length ((l++[x]).flatMap iR)/\w.grownBy a v.ownBlock/\((Value.slice d e f).ownBlock=v.ownBlock\/(Value.slice d e f).ownBlock=some w.heap.size):=by
 obtain⟨p,hi,q,r,s⟩:=lg PO;obtain⟨t,a,i,y,k,_,m⟩:=run_append_own_at (P:=prog) w 0 77 77 83 p (.agg #[.int .i64 0,.string ⟨#[]⟩]) 2 24 underlying77 hi q r s rfl (by decide) v l.length (l.flatMap iR) n ⟨b,0,none⟩ 1 c (iR x) (by rfl) (λj u z=>by
  rw[Addr.add_mid,dR,aX h0];have:(#[Value.int .i64 x.1,.string x.2]:Array Value)[j]?=(iR x)[j]? :=by unfold iR;rw[<-sS]
  rw[this];exact z) (λu A=>PQ [x] u (by simpa using A)) (by simp[maxLen];omega) (by omega) (jh _)
 have h:a.ownsRow 0 83 2 t (l++[x]).length ((l++[x]).flatMap iR):=by
  rw[bH,List.flatMap_append];have:[x].flatMap iR=iR x:=by simp
  rw[this];exact y
 obtain⟨-,⟨rfl,e2⟩|⟨g,cap,C,rfl,_⟩⟩:=id h;exact⟨_,_,_,a,i,h,k,m⟩
 exact⟨_,_,_,a,i,h,k,m⟩
end
section
variable{C c:Array Value}{p q r:Int}{L:List Int}{i j k l n:Nat}{d:Nw}{a:Option Addr}{x:Value}{W w:World}
structure mK(w:World)(nb:Nat)(V a:Nw)(R:Nat)(cs:Array Value)(sl:Value)(ps:List (List Int))(wr:World):Prop where
 T:bO w nb V a wr
 rb:wr.heap[R]?=some (.cells cs 46 (0,0))
 own:fP wr 0 sl ps
 nR:¬a.jK nb R
 nO:∀k,sl.ownBlock=some k->¬a.jK nb k
theorem mK.go{a b:Nw}{ps:List (List Int)}{wr:World}(h:mK w n d a i c x ps wr)(S:bO wr n a b W):mK w n d b i c x ps W:=by
 have g:=(aY.1 h.rb).1;refine⟨h.T.trans S,(S.aw.block i g h.nR).trans h.rb,h.own.aw S.aw h.nO,λe=>(S.all i e).elim h.nR (λq=>by omega),λk f e=>(S.all k e).elim (h.nO k f) (λq=>by have:=(h.own.lt k f).2;omega)⟩
theorem mK.gb{a:Nw}{ps:List (List Int)}{wr:World}(h:mK w n d a k c x ps wr)(g:wr.grownBy W none):mK w n d a k c x ps W:=h.go (bO.refl h.T.at_ g h.T.laid)
theorem mK.pk{f:Nw}{ps:List (List Int)}{wr:World}(h:mK w k d f i C (.slice a n l) ps wr)(b:j<ps.length):n=ps.length/\∃g,a=some ⟨g,0,none⟩/\wr.cell? ⟨g,j,none⟩=some (.string (eJ (ps.map strOfNums) j)):=by
 obtain⟨-,⟨e,r⟩|⟨g,cap,c,e,-,m,-,-,s,p⟩⟩:=h.own;omega;obtain⟨rfl,rfl,rfl⟩:=jg e;refine⟨rfl,g,rfl,?_⟩
 rw[aX m,<-pZ];have q:(c.toList.take (ps.length*1))[j]?=c.toList[j]? :=by rw[jA,az (by omega)]
 rw[<-q,p,List.getElem?_map,eD b];simp[eJ,List.getD,b]
def jL(V:Nw)(i:Nat)(a:Int)(c:aQ)(bs:List ByteArray)(j:Nat)(d:Nat->Prop)(v:Value):Nw:={V with st:=ai V.st i c,A:=ai V.A i d,bn:=ai V.bn i (V.bn i+j),aZ:=V.aZ++(bs.take j).map (λb=>(a,b)),vb:=v}
structure EC(V:Nw)(i:Nat)(b:ByteArray)(j:Nat):Prop where
 ok:eC V.key (aS (decide (i=0))) (aG b)
 num:bp (aG b)=V.bn i+j
 len:(b.size:Int)<=V.an
 ne:16<b.size
theorem PS{bs:List ByteArray}(h:j<bs.length):bs.take (j+1)=bs.take j++[eJ bs j]:=by
 rw[qF,eD h];simp[eJ,List.getD,h]
theorem bS.PT(h:bS w n d)(hi:i<2):w.cell? ⟨d.cr,i,none⟩=some (.int .u64 (d.bn i))/\w.frozen? ⟨d.cr,i,none⟩=false:=by
 obtain⟨cs,a,b⟩:=h.bn;exact⟨by rw[aX a];exact b i hi,by simp[World.frozen?,a]⟩
theorem PU(V:Nw)(i:Nat)(a:Int)(c:aQ)(bs:List ByteArray)(j:Nat)(f:j<bs.length)(d:Nat->Prop)(v e:Value):{jL V i a c bs j d v with bn:=ai (ai V.bn i (V.bn i+j)) i (V.bn i+j+1),aZ:=(V.aZ++(bs.take j).map (λb=>(a,b)))++[(a,eJ bs j)],vb:=e}=jL V i a c bs (j+1) d e:=by
 unfold jL;simp only[qR]
 rw[PS f,mO,fg];congr 1;push_cast;rw[Int.add_assoc]
theorem ED(w:World)(nb:Nat)(V:Nw)(H:bS w nb V)(S:Laid w)(i:Nat)(b:Int)(hi:i<2)(eo:(1:Int)-(i:Int)=b)(n:Nat)(ch:dY n (V.st i))(hn:n<=100000)(ps:List (List Int))(ew:ps.length<=1000)(ey:V.aZ.length<=9000000)(ez:0<=V.bn i/\V.bn i<=1000000000000)(l:aQ)
 (U:(V.st i).do ⟨5,0,0,0,⟨#[]⟩⟩=(⟨0,-1,0,0,[],ps⟩,l)) (hF:∀j,j<ps.length->EC V i (eJ (ps.map strOfNums) j) j):
 Calls prog 29 #[.pointer (some ⟨nb,0,none⟩),.int .i64 i] w λe G=>e=.returned (.bool true)/\∃A' v,bO w nb V (jL V i b l (ps.map strOfNums) ps.length A' v) G:=by
 have i0:(0:Int)<=(i:Int):=by omega
 have i1:(i:Int)<2:=by omega
 have eS:IntKind.i64.wrap b=b:=by simp[IntKind.wrap,IntKind.bits,IntKind.signed];omega
 have W:=bO.refl H (aB w none) S;have u:=np W hi ch hn ⟨5,0,0,0,⟨#[]⟩⟩ (by simp[aV]) (jh _) U;obtain⟨⟨c0,-,-,-,-,-⟩,-⟩:=H.c;have cx:=H.x i hi;unfold cG ma lF at u;simp only[pP]at u;replace u:=J u;have X:=H.key;have cw:Hid ((prog.info? 24).map (·.size)=some (bv V.key).length):=J (by rw[fC,H.key.1];exact mQ);obtain⟨f,Y⟩:=exq (decide (i=0));have e3:((i:Int)==0)=f:=by
  rw[Y];have I:i=0\/i=1:=by omega
  obtain I|I:=I<;>subst I<;>decide
 have bj:Hid (∀j,j<ps.length->eC V.key (aS f) (aG (eJ (ps.map strOfNums) j))/\bp (aG (eJ (ps.map strOfNums) j))=V.bn i+j/\((eJ (ps.map strOfNums) j).size:Int)<=V.an/\16<(eJ (ps.map strOfNums) j).size):=J (λj B=>by rw[Y];exact⟨(hF j B).ok,(hF j B).num,(hF j B).len,(hF j B).ne⟩);clear hF Y;obtain⟨bs,y⟩:=exq (ps.map strOfNums);have e4:bs.length=ps.length:=by rw[y,dA]
 rw[<-y]at bj⊢;replace y:=J y;replace H:=J H;replace W:=J W;replace S:=J S;replace X:=J X;replace U:=J U;go_enter func29,ntmps29;go_upto_region 2 with(go_at_call 28;refine(Z u).mono ?_;rintro e w3⟨a,m,c,d,rfl,br,T3,bt⟩)
 obtain⟨W5,K⟩:=exq (w3.alloc (.cells #[.int .i64 0,.int .i64 (-1),.int .i64 0,.int .u64 0,.string ⟨#[]⟩,.slice a m c] 46));obtain⟨R,hR⟩:=exq w3.heap.size;have g5:w3.grownBy W5 none:=by rw[K];exact aH _ _ _
 have b5:W5.heap[R]?=some (.cells #[.int .i64 0,.int .i64 (-1),.int .i64 0,.int .u64 0,.string ⟨#[]⟩,.slice a m c] 46 (0,0)):=by rw[K,hR];exact aM _ _
 have F0:Hid (mK w nb V (jL V i b l bs 0 d V.vb) R #[.int .i64 0,.int .i64 (-1),.int .i64 0,.int .u64 0,.string ⟨#[]⟩,.slice a m c] (.slice a m c) ps W5):=J (by
  have e:jL V i b l bs 0 d V.vb={V with st:=ai V.st i l,A:=ai V.A i d}:=by
   unfold jL;have e1:ai V.bn i (V.bn i+((0:Nat):Int))=V.bn:=by rw[show V.bn i+((0:Nat):Int)=V.bn i by simp,ml]
   rw[e1];simp
  rw[e];refine⟨T3.gb g5,b5,(br.aw (av.of g5) (λk _ e=>by cases e)).low (jh _),λe=>?_,bt⟩
  have:=T3.at_.wT R e;omega)
 rw[<-K,<-hR];clear K T3 bt br b5 g5 u c0 cx hR;have hm:(m:Int)=(ps.length:Int):=by
  have:=(Z F0).own;obtain⟨a1,c1,e⟩:=this.gy;have:=(jg e).2.1;omega
 go_wp2_with fail;go_loopw [6] (λjv wr=>∃(j:Nat)(d:Nat->Prop)(v:Value),j<=ps.length/\jv=.int .i64 (j:Int)/\mK w nb V (jL V i b l bs j d v) R #[.int .i64 0,.int .i64 (-1),.int .i64 0,.int .u64 0,.string ⟨#[]⟩,.slice a m c] (.slice a m c) ps wr) (λjv _=>ps.length-(intOf jv).toNat);case atStart=>exact⟨0,d,V.vb,by omega,rfl,Z F0⟩
 case round=>
  clear F0 d;obtain⟨j,d,v,B,rfl,F⟩:=hrel;obtain⟨va,vc,z,-⟩:=qX F.T.at_.aZ;have z:v=.slice va (jL V i b l bs j d v).aZ.length vc:=z;obtain⟨vn,bz⟩:=exq ((jL V i b l bs j d v).aZ.length);rw[<-bz]at z;clear bz;replace z:=J z;have r5:wr.cell? ⟨R,5,none⟩=some (.slice a m c):=by simp[World.cell?,F.rb]
  by_cases a4:j<ps.length
  ·have d1:decide ((j:Int)<(m:Int))=true:=bK (by omega);have j0:(0:Int)<=(j:Int):=by omega
   have j1:(j:Int)<(m:Int):=by omega
   obtain⟨-,g,ha,cp⟩:=F.pk a4;rw[<-Z y]at cp;subst ha;obtain⟨f1,f2,f3,f4⟩:=Z bj j a4;have fa:(eJ bs j).size<=300:=by have:=f1.2.1;rw[fu]at this;exact this
   have fb:=mR (eJ bs j);have C:=F.gb (uP wr (eJ bs j));have hU:=Eu (Lib.bytesWorld wr 5 (eJ bs j)) V.key f _ _ _ _ (Z X) C.T.laid (xq wr (eJ bs j) (by omega)) (by rw[fu];omega);have b3:=J C.T.at_.qu;have hA:=J (λ(r:World)(g2:(Lib.bytesWorld wr 5 (eJ bs j)).grownBy r none)=>(show(r.cell? ⟨nb,2,none⟩=some (.int .i64 V.an)/\r.cell? ⟨nb,21,none⟩=some (.slice (some ⟨V.cr,0,none⟩) 2 V.cc)/\r.cell? ⟨V.cr,i,none⟩=some (.int .u64 (V.bn i+j))/\r.frozen? ⟨V.cr,i,none⟩=false)/\mK w nb V {jL V i b l bs j d v with bn:=ai (ai V.bn i (V.bn i+j)) i (V.bn i+j+1)} R #[.int .i64 0,.int .i64 (-1),.int .i64 0,.int .u64 0,.string ⟨#[]⟩,.slice (some ⟨g,0,none⟩) m c] (.slice (some ⟨g,0,none⟩) m c) ps (r.setCell ⟨V.cr,i,none⟩ (.int .u64 (V.bn i+j+1))) by
    have D:=C.gb g2;obtain⟨⟨-,-,y2,-,-,y5⟩,-⟩:=D.T.at_.c;obtain⟨y6,y7⟩:=D.T.at_.PT hi;simp only[jL,bk]at y6;exact⟨⟨y2,y5,y6,y7⟩,D.go (D.T.at_.PK D.T.laid hi (V.bn i+j+1))⟩))
   have hB:=J (λ(h:World)(p:mK w nb V {jL V i b l bs j d v with bn:=ai (ai V.bn i (V.bn i+j)) i (V.bn i+j+1)} R #[.int .i64 0,.int .i64 (-1),.int .i64 0,.int .u64 0,.string ⟨#[]⟩,.slice (some ⟨g,0,none⟩) m c] (.slice (some ⟨g,0,none⟩) m c) ps h)=>(show(h.cell? ⟨nb,20,none⟩=some v/\h.cell? ⟨R,5,none⟩=some (.slice (some ⟨g,0,none⟩) m c)/\h.cell? ⟨g,j,none⟩=some (.string (eJ bs j))/\nb<h.heap.size/\R<h.heap.size/\g<h.heap.size)/\∃a7 s c7 t,(Builtin.append_ #[77,77] 77 #[v,.slice (some ⟨h.heap.size,0,none⟩) 1 1]).run prog (h.alloc (.cells #[.int .i64 b,.string (eJ bs j)] 83)).drew=.ok (.slice a7 s c7) t/\t.cell? ⟨nb,20,none⟩=some v/\t.frozen? ⟨nb,20,none⟩=false/\mK w nb V (jL V i b l bs (j+1) d (.slice a7 s c7)) R #[.int .i64 0,.int .i64 (-1),.int .i64 0,.int .u64 0,.string ⟨#[]⟩,.slice (some ⟨g,0,none⟩) m c] (.slice (some ⟨g,0,none⟩) m c) ps (t.setCell ⟨nb,20,none⟩ (.slice a7 s c7)) by
    have gB:h.grownBy (h.alloc (.cells #[.int .i64 b,.string (eJ bs j)] 83)).drew none:=aW (aH _ _ _);have q:=p.gb gB;obtain⟨⟨-,-,-,-,y4,-⟩,-⟩:=p.T.at_.c;obtain⟨⟨-,-,-,-,z4,-⟩,zf⟩:=q.T.at_.c;obtain⟨-,g',eg,b7⟩:=p.pk a4;have du:g=g':=by have:=aO eg;exact fm Addr.block this
    subst du;rw[<-Z y]at b7;obtain⟨a7,s,c7,t,hr,hO,g7,h7⟩:=PR v _ q.T.at_.aZ h.heap.size 1 (b,eJ bs j) (aM h _) (by
     simp only[jL,bH,dA,ct];omega)
    have nn:v.ownBlock≠some nb:=λe=>(show Ty _ nb 80 from⟨_,_,q.T.at_.aN⟩).ne (iP q.T.at_.aZ nb e) (by decide) rfl
    have ca:=(g7.block nb (q.T.at_.fx nb (.inl rfl)) (λe=>nn e.symm)).trans q.T.at_.aN;refine⟨⟨y4,by simp[World.cell?,p.rb],b7,p.T.at_.fx nb (.inl rfl),(aY.1 p.rb).1,(p.own.lt g rfl).2⟩,a7,s,c7,t,hr,?_,by simp[World.frozen?,ca],?_⟩
    rw[aX ca,<-aX q.T.at_.aN];exact z4
    ·have:=q.go (q.T.at_.PM q.T.laid g7 hO h7);rw[<-PU V i b l bs j (by omega) d v (.slice a7 s c7)];exact this))
   obtain⟨L,M⟩:=exq ((aG (eJ bs j)).length-16);have fo:((L:Int)==0)=false:=by rw[M,fu];simp;omega
   have N:Calls prog 61 #[.agg (bv V.key).toArray,.bool f,.slice (some ⟨wr.heap.size,0,none⟩) (eJ bs j).size (grownCap wr (eJ bs j).size 0 5)] (Lib.bytesWorld wr 5 (eJ bs j)) λe G=>(∃O P,e=.returned (.tuple #[.int .u64 (V.bn i+j),.slice O L P,.int .i64 0]))/\(Lib.bytesWorld wr 5 (eJ bs j)).grownBy G none:=by
    refine hU.mono ?_;rintro e G⟨⟨-,O,P,rfl,-,-⟩|⟨ea,-⟩,g⟩;exact⟨⟨O,P,by rw[f2,M]⟩,g⟩
    exact absurd f1 ea
   have q1:decide (V.an<((eJ bs j).size:Int))=false:=bI (by omega);have q2:IntKind.u64.wrap (V.bn i+j+1)=V.bn i+j+1:=by simp[IntKind.wrap,IntKind.bits,IntKind.signed];omega
   replace N:=J N;replace F:=J F;replace C:=J C;replace f1:=J f1;replace f2:=J f2;replace M:=J M;clear hU;go_upto_region 7 with(first|(refine wpList_load_mid (by rfl) 24 _ (by rfl) nb 4 (by rfl) (bv V.key) _ (Z b3) underlying24 (by rfl) (Z cw) ?_)|(go_at_call 61;refine(Z N).mono ?_;rintro e r⟨⟨O,P,rfl⟩,g2⟩))
   obtain⟨⟨y2,ee,yc,yf⟩,p⟩:=Z hA r g2;obtain⟨h,E⟩:=exq (r.setCell ⟨V.cr,i,none⟩ (.int .u64 (V.bn i+j+1)));rw[<-E]at p;obtain⟨⟨ej,zR,zg,n1,n2,n3⟩,a7,s,c7,t,Q,u20,uf,FE⟩:=Z hB h p;rw[Z z]at ej Q u20;replace FE:=J FE;replace p:=J p;replace Q:=J Q;replace E:=J E;clear hA hB b3 r5 cp N;go_upto_region 10 with fail;rw[<-Z E];clear E y2 ee yc yf;go_region_law ((refine yq (by rfl) 77 77 (by rfl) _ _ (by rfl) _ _ _ (by rfl) (by rfl) (Z Q) ?_));all_goals
    go_wp2_with fail
    exact⟨⟨j+1,d,_,by omega,rfl,Z FE⟩,by simp[intOf];omega⟩
  have d1:decide ((j:Int)<(m:Int))=false:=bI (by omega);have ek:j=ps.length:=by omega
  replace F:=J F;go_wp2_with fail;go_ret;exact⟨rfl,d,v,by rw[<-ek];exact(Z F).T⟩
structure uq(o:End)(aE N code:Int)(data:List Int):Prop where
 rd:0<=o.read
 len:(data.length:Int)<=aE
 fit:o.read+data.length<=o.wrote.size
 mG:data=((aG o.wrote).drop o.read.toNat).take data.length
 st:o.state≠0->data=[]/\N=o.state
 cs:(N=0/\code=0)\/(N=1/\o.finished=true/\o.read+data.length=o.wrote.size/\code=0)\/(N=2/\o.given=true/\code=o.code)
theorem uq.str{o:End}(h:uq o p q r L):strOfNums L=o.wrote.extract o.read.toNat (o.read+L.length).toNat/\(o.wrote.extract o.read.toNat (o.read+L.length).toNat).size=L.length:=by
 have a:=h.rd;have b:=h.fit;have e:aG (o.wrote.extract o.read.toNat (o.read+L.length).toNat)=L:=by
  rw[Ep,show(o.read+(L.length:Int)).toNat-o.read.toNat=L.length by omega];exact h.mG.symm
 refine⟨by rw[<-wQ (o.wrote.extract o.read.toNat (o.read+L.length).toNat),e],?_⟩
 rw[rz];omega
theorem EE(w:World)(nb:Nat)(V:Nw)(H:bS w nb V)(M:Laid w)(i b:Nat)(hi:i<2)(j:b<2)(ca:(1:Int)-(i:Int)=(b:Int))(n:Nat)(a9:dY n (V.st i))(hn:n<=100000)(k:Nat)(t:k<4)(aE:Int)(ch:0<=aE/\aE<=1000000)(N code:Int)(data:List Int)(u:aQ)
 (O:(V.st i).do ⟨7,(k:Int),aE,0,⟨#[]⟩⟩=(⟨0,-1,N,code,data,[]⟩,u)) (hR:uq (V.e b k) aE N code data) (bj:(V.e b k).wrote.size<=1000000):
 Calls prog 83 #[.pointer (some ⟨nb,0,none⟩),.int .i64 i,.int .i64 k,.int .i64 aE] w λe w'=>e=.returned (.bool true)/\∃l,bO w nb V {V with st:=ai V.st i u,A:=ai V.A i l,e:=eh V.e b k {V.e b k with read:=(V.e b k).read+data.length,state:=N}} w':=by
 have i0:(0:Int)<=(i:Int):=by omega
 have i1:(i:Int)<2:=by omega
 have j0:(0:Int)<=(b:Int):=by omega
 have j1:(b:Int)<2:=by omega
 have k0:(0:Int)<=(k:Int):=by omega
 have k1:(k:Int)<4:=by omega
 have P:=bO.refl H (aB w none) M;have d:=np P hi a9 hn ⟨7,(k:Int),aE,0,⟨#[]⟩⟩ (by simp[aV]) (jh _) O;obtain⟨⟨c0,c1,-,-,-,-⟩,-⟩:=H.c;have cx:=H.x i hi;have ce:=H.er b j;have cl:=H.el b j k t;obtain⟨q,B⟩:=hR.str;obtain⟨h1,h2,h3,-,C,Q⟩:=hR;unfold cG ma lF at d;simp only at d;rw[q]at d;obtain⟨o,y⟩:=exq (V.e b k);rw[<-y]at q B h1 h3 C Q bj d⊢;have a2:=J (λ(W:World)(h:Nat->Prop)(T:bO w nb V {V with st:=ai V.st i u,A:=ai V.A i h} W)=>(show(W.cell? ⟨V.eb b k,0,none⟩=some (.string o.wrote)/\W.cell? ⟨V.eb b k,1,none⟩=some (.bool o.finished)/\W.cell? ⟨V.eb b k,2,none⟩=some (.bool o.given)/\W.cell? ⟨V.eb b k,3,none⟩=some (.int .u64 o.code)/\W.cell? ⟨V.eb b k,4,none⟩=some (.int .i64 o.read)/\W.cell? ⟨V.eb b k,5,none⟩=some (.int .i64 o.state))/\∀p,W.frozen? ⟨V.eb b k,p,none⟩=false by
  obtain⟨⟨e0,e1,e2,R,S,U,-⟩,ef⟩:=T.at_.ce j t;simp only[<-y]at e0 e1 e2 R S U;exact⟨⟨e0,e1,e2,R,S,U⟩,ef⟩))
 have X:=J (λ(W:World)(h:Nat->Prop)(T:bO w nb V {V with st:=ai V.st i u,A:=ai V.A i h} W)=>(show∃l,bO w nb V {V with st:=ai V.st i u,A:=ai V.A i l,e:=eh V.e b k {o with read:=o.read+data.length,state:=N}} ((W.setCell ⟨V.eb b k,4,none⟩ (.int .i64 (o.read+data.length))).setCell ⟨V.eb b k,5,none⟩ (.int .i64 N)) by
  have hb:=T.at_.en b j k t;simp only[<-y]at hb;have:=T.trans (T.at_.uo T.laid j t (x:={o with read:=o.read+data.length,state:=N}) (((oa W (V.eb b k) 4 (.int .i64 (o.read+data.length))).trans (oa _ (V.eb b k) 5 (.int .i64 N))).mono (λk _ e=>e.elim id id)) (heap_set (heap_set hb _) _));exact⟨h,this⟩))
 obtain⟨D,r⟩:=exq (o.wrote.extract o.read.toNat (o.read+data.length).toNat);rw[<-r]at q B d;obtain⟨m,Y⟩:=exq data.length;rw[<-Y]at B h2 h3 Q r X⊢;replace d:=J d;replace H:=J H;replace P:=J P;replace M:=J M;replace q:=J q;replace y:=J y;replace r:=J r;obtain⟨wrote,fin,gv,cd,read,state,af⟩:=o;simp only at *;go_enter func83,ntmps83;go_upto_region 3 with(go_at_call 28;refine(Z d).mono ?_;rintro e g⟨a,m1,m2,h,rfl,-,E,-⟩)
 obtain⟨f,F⟩:=exq (g.alloc (.cells #[.int .i64 0,.int .i64 (-1),.int .i64 N,.int .u64 code,.string D,.slice a m1 m2] 46));have g5:g.grownBy f none:=by rw[F];exact aH _ _ _
 have b5:f.heap[g.heap.size]?=some (.cells #[.int .i64 0,.int .i64 (-1),.int .i64 N,.int .u64 code,.string D,.slice a m1 m2] 46 (0,0)):=by rw[F];exact aM _ _
 rw[<-F];clear F;have G:=E.gb g5;obtain⟨y0,y2,y3,y4⟩:f.cell? ⟨g.heap.size,0,none⟩=some (.int .i64 0)/\f.cell? ⟨g.heap.size,2,none⟩=some (.int .i64 N)/\f.cell? ⟨g.heap.size,3,none⟩=some (.int .u64 code)/\f.cell? ⟨g.heap.size,4,none⟩=some (.string D):=by simp[World.cell?,b5]
 obtain⟨⟨e0,e1,e2,R,S,U⟩,ef⟩:=Z a2 f h G;have hf:=J (Z X f h G);have dg:g.heap.size≠V.eb b k:=λe=>by
  have:=E.at_.fx (V.eb b k) (.inr (.inr (.inr (.inr (.inr (.inl ⟨b,k,j,t,rfl⟩))))));omega
 replace Y:=J Y;subst B;have b0:wrote.extract read.toNat (read+(D.size:Int)).toNat=D:=(Z r).symm;have d1:decide (aE<(D.size:Int))=false:=bI (by omega);have s1:IntKind.i64.wrap ((wrote.size:Int)-read)=wrote.size-read:=by simp[IntKind.wrap,IntKind.bits,IntKind.signed];omega
 have d2:decide ((wrote.size:Int)-read<(D.size:Int))=false:=bI (by omega);have s2:IntKind.i64.wrap (read+(D.size:Int))=read+D.size:=by simp[IntKind.wrap,IntKind.bits,IntKind.signed];omega
 have l1:read<=read+(D.size:Int):=by omega
 have l2:read+(D.size:Int)<=(wrote.size:Int):=by omega
 clear d X a2 r c0 c1 cx ce cl;replace b5:=J b5;replace E:=J E;replace G:=J G;replace O:=J O;go_cut [101] (λv wx=>v=.bool false/\∃nq,wx=f.drewN nq);case first=>
  by_cases s:state=0
  ·subst s;dsimp only[List.append]
   go_quiet (fail);go_wp2_with fail;go_meet;exact⟨rfl,_,rfl⟩
  obtain⟨b4,I⟩:=C s;have q1:(state !=0)=true:=by simpa using s
  have dn:(state==0)=false:=by simpa using s
  have K:D=⟨#[]⟩:=by rw[<-Z q,b4];rfl
  have q3:(D.toList==(⟨#[]⟩:ByteArray).toList)=true:=by rw[K];simp
  have q4:D.toList=[]:=by rw[K,ByteArray.toList_eq]
  have q7:D.toList.isEmpty=true:=by rw[q4];rfl
  have q5:(N==state)=true:=by rw[I];simp
  have q6:(N !=state)=false:=by rw[I];simp
  replace K:=J K;replace I:=J I;replace s:=J s;dsimp only[List.append]
  go_quiet (fail);go_wp2_with fail;go_meet;exact⟨rfl,_,rfl⟩
 case rest=>
  obtain⟨rfl,nq,a8⟩:=hcut;rw[a8];clear a8 d1 d2 s1 l1 b0;replace C:=J C;obtain⟨z,L⟩|⟨z,b7,aC,L⟩|⟨z,b8,L⟩:=Q
  ·subst z L;go_upto_region 5 with fail;go_region;go_wp2_with fail;go_ret;exact⟨rfl,(Z hf).imp (λl T=>T.gb ⟨rfl,rfl,rfl,aP _,λ_ _ _=>rfl⟩)⟩
  ·subst z L b7;have q1:(read+(D.size:Int)==(wrote.size:Int))=true:=by simpa using aC
   replace aC:=J aC;go_upto_region 5 with fail;go_region;go_upto_region 11 with fail;go_region;go_wp2_with fail;go_ret;exact⟨rfl,(Z hf).imp (λl T=>T.gb ⟨rfl,rfl,rfl,aP _,λ_ _ _=>rfl⟩)⟩
  subst z b8;go_upto_region 5 with fail;go_region;go_upto_region 13 with fail;go_region;go_wp2_with fail;go_ret;exact⟨rfl,(Z hf).imp (λl T=>T.gb ⟨rfl,rfl,rfl,aP _,λ_ _ _=>rfl⟩)⟩
end
