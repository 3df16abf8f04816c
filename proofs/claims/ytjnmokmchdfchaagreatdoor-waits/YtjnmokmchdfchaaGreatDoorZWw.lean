import Derived.Test.YtjnmokmchdfchaaGreatDoorZWs
import Derived.Test.YtjnmokmchdfchaaGreatDoorZWu
set_option maxRecDepth 1000000
set_option maxHeartbeats 0
set_option linter.all false
namespace Go.Proofs.YtjnmokmchdfchaaGreatDoor
open Go.RowKit Tryz
attribute[local go_sem↓]Go.wp_at_zero Go.wp_at_succ
variable{B:Bool}{H:Fr}{p t:Int}{Y:List Rg}{i j k l m n:Nat}{a:Option Addr}{d:Ot}{X:Sd}{x y:Value}{W w:World}{s:aB}
theorem OL(L:List (Int×Pc))(k:Nat):∀(out:Nat->Ot),(dy out L k).tE=true↔(out k).tE=true\/∃x∈L,x.1.toNat=k/\x.2.e=true:=by
 induction L with
 |nil=>intro out;simp[dy]
 |cons x L d=>
  intro out;show(dy (aw out x.1.toNat ((out x.1.toNat).eU x.2)) L k).tE=true↔_;rw[d];by_cases e:k=x.1.toNat;rw[e,bm];show((out x.1.toNat).tE||x.2.e)=true\/_↔_;rw[qh];constructor;rintro((h|h)|⟨y,a,b⟩);exact .inl h;exact .inr ⟨x,by simp,rfl,h⟩;exact .inr ⟨y,by simp[a],b⟩;rintro(h|⟨y,a,b,c⟩);exact .inl (.inl h);obtain rfl|a:=eJ.1 a
  exact .inl (.inr c);exact .inr ⟨y,a,b,c⟩;rw[bq _ _ e];constructor;rintro(h|⟨y,a,b⟩);exact .inl h;exact .inr ⟨y,by simp[a],b⟩;rintro(h|⟨y,a,b,c⟩);exact .inl h;obtain rfl|a:=eJ.1 a
  exact absurd b.symm e;exact .inr ⟨y,a,b,c⟩
theorem OM(A:eD d)(c:∀m,Sm d.h.ag m->m<d.en){p:Pc}(hp:jD p)(i:p.x.hi<=d.en):(d.eU p).en=d.en/\∀m,Sm (d.eU p).h.ag m->m<d.en:=by
 have f:=oG p.x A.ok;obtain⟨j,k,g,l⟩:=wY A f (λm a=>(lT p.x A.ok m).2 (.inl a)) (wZ A hp);have b:∀m,Sm (dT d.h.ag p.x) m->m<d.en:=λm a=>by
  obtain q|q:=(lT p.x A.ok m).1 a
  exact c m q;omega
 have n:=A.fr;have r:dK ⟨d.h.fr,d.h.bytes,dT d.h.ag p.x⟩<=d.h.bytes.length:=by
  by_cases e:dK ⟨d.h.fr,d.h.bytes,dT d.h.ag p.x⟩<=d.h.bytes.length;exact e;have:=b d.en (g d.en (by unfold Ot.en;omega) (by unfold Ot.en;omega));omega
 refine⟨?_,b⟩
 show d.h.fr+((dK ⟨d.h.fr,d.h.bytes,dT d.h.ag p.x⟩).toNat:Int)+((d.h.bytes.drop (dK ⟨d.h.fr,d.h.bytes,dT d.h.ag p.x⟩).toNat).length:Nat)=_;rw[dO];unfold Ot.en;omega
theorem ON(L:List (Int×Pc))(k:Nat):∀(out:Nat->Ot),(∀k,k<4->eD (out k)/\∀m,Sm (out k).h.ag m->m<(out k).en)->(∀x∈L,jD x.2/\x.1.toNat<4/\x.2.x.hi<=(out x.1.toNat).en)->k<4->(dy out L k).en=(out k).en/\∀m,Sm (dy out L k).h.ag m->m<(out k).en:=by
 induction L with
 |nil=>intro out d _ f;exact⟨rfl,(d k f).2⟩
 |cons x L p=>
  intro out d g f;obtain⟨i,q,r⟩:=g x (by simp);obtain⟨A,s⟩:=d _ q;obtain⟨l,t⟩:=OM A s i r;have n:∀j,(aw out x.1.toNat ((out x.1.toNat).eU x.2) j).en=(out j).en:=λj=>by
   by_cases e:j=x.1.toNat;rw[e,bm];exact l;rw[bq _ _ e]
  show(dy (aw out x.1.toNat ((out x.1.toNat).eU x.2)) L k).en=_/\∀m,Sm (dy (aw out x.1.toNat ((out x.1.toNat).eU x.2)) L k).h.ag m->_;have I:=p (aw out x.1.toNat ((out x.1.toNat).eU x.2)) (λj u=>?_) (λy v=>?_) f;rw[n]at I;exact I;by_cases e:j=x.1.toNat;rw[e,bm,l];exact⟨A.eU i,t⟩
  rw[bq _ _ e];exact d j u;obtain⟨a,b,c⟩:=g y (by simp[v]);exact⟨a,b,by rw[n];exact c⟩
theorem OO(d:aZ Y)(h:∀m,t<=m->iC Y p m=false):∀m,t+1<=m->iC (fX Y p t).1 (fX Y p t).2 m=false:=by
 intro m u;have f:∀x,t<=x->¬Sm Y x/\¬x<p:=λx b=>by
  have:=h x b;unfold iC at this;rw[Bool.or_eq_false_iff,vO]at this;refine⟨λ⟨r,j,k,l⟩=>?_,this.1⟩
  have g:=this.2;rw[List.any_eq_false]at g;exact g r j (by simp[k,l])
 have n:∀x,Sm (dT Y ⟨t,t+1⟩) x->x<=t:=λx b=>by
  obtain q|q:=(lT ⟨t,t+1⟩ d x).1 b
  by_cases e:t<=x;exact absurd q (f x e).1;omega;have:=q.2;simp only at this;omega
 have s:=oG ⟨t,t+1⟩ d;have c:∀r∈dT Y ⟨t,t+1⟩,r.hi<=t+1:=λr a=>by
  have:=s.2 r a;have:=n (r.hi-1) ⟨r,a,by omega,by omega⟩;omega
 unfold iC;rw[Bool.or_eq_false_iff,vO,List.any_eq_false];unfold fX;split;rename_i v;refine⟨?_,λr a=>?_⟩
 have:=c _ (mm (Y:=dT Y ⟨t,t+1⟩) (i:=0) (by omega));simp only;omega;have:=c r (iZ a);simp only[ja,kh];omega;refine⟨(f m (by omega)).2,λr a=>?_⟩
 have:=c r a;simp only[ja,kh];omega
theorem yw(ps:List Pt)(k j:Nat):nQ ps k j=true↔∃q∈ps,q.st=k/\q.fr<=j/\j<q.en:=by unfold nQ;simp only[oh,kh]
theorem yx(ps:List Pt)(k:Nat):nT ps k=true↔∃q∈ps,q.st=k/\q.fin=true:=by unfold nT;simp only[oh,kh]
theorem cM.forget{V:aB}{Q:Nat->Pk}(h:cM V X Q):cM V X.forget Q:=by
 refine⟨h.key,h.first,h.ao,h.ai,h.dU,h.cU,h.tick,h.wait,h.wt,h.aV,h.num,h.out,h.pk,h.az,λx p=>h.lost x ((jR.1 p).1),λi hi s t=>?_,h.nm,h.c⟩
 obtain q|q:=h.un i hi s t
 by_cases e:(Q i).ps.all (kx (X.out (Q i).st.toNat))=true;refine .inr (λz l=>?_);have P:=h.pk i hi;rw[P.parts]at l;obtain⟨c,g,rfl⟩:=fh.1 l;have d:=List.all_eq_true.1 e c g;obtain⟨-,w,p2,p3⟩:=P.ps c g;have st:=P.st;have R:=h.out (Q i).st.toNat (by omega);unfold kx at d;simp only[ja,qh,kh,oh,beq_iff_eq]at d;refine⟨λj m n=>?_,λf=>?_⟩
 show(V.o (Q i).st.toNat).ag j=true;have m:c.x.lo.toNat<=j:=m;have n:j<c.x.hi.toNat:=n;obtain y|⟨r,u,a,b⟩:=d.1
 omega;exact(R.cm j).2 ⟨r,u,by omega,by omega⟩;show(V.o (Q i).st.toNat).eP=true;have f:c.e=true:=f;have k:=d.2.1;have v:=P.fe c g f;unfold Ot.uE at k;rw[f,R.sE,v,R.tE]at k;simpa using k.symm;exact .inl (jR.2 ⟨q,by simpa using e⟩);exact .inr q
theorem cM.answer{V:aB}{Q:Nat->Pk}(h:cM V X Q)(hs:cF X n)(ch:l<=k)(cj:k<V.n)(H:List Fr)(bx:H.any mD=false):
 cM (j9 {V with aV:=V.aV+1} l k) ((X.dr V.aV H).dR [⟨l,k⟩]) Q:=by
 obtain⟨I,w⟩:∃I:aB,I={V with aV:=V.aV+1}:=⟨_,rfl⟩
 have bz:I.fG:=by rw[w];exact h.c
 have N:=rV I bz l (k+1-l);unfold j9;rw[<-w];obtain⟨W,hW⟩:=exq (kE I l (k+1-l));rw[<-hW]at N⊢;have O:l+(k+1-l)=k+1:=by omega
 have F:I.o=V.o:=by rw[w]
 have K:I.p=V.p:=by rw[w]
 have B:I.n=V.n:=by rw[w]
 have S:∀i,W.p i=if l<=i/\i<k+1 then{V.p i with named:=true}else V.p i:=λi=>by rw[N.p i,O,K]
 have C:∀i:Nat,bw [⟨l,k⟩] (i:Int)=true↔l<=i/\i<k+1:=λi=>by unfold bw;simp;omega
 have bM:∀i:Nat,(W.p i).on=((V.p i).on&& !bw [⟨l,k⟩] (i:Int)):=λi=>by
  rw[S];by_cases e:l<=i/\i<k+1;rw[aM e,(C i).2 e];simp[ct.on];rw[ay e];cases e2:bw [⟨l,k⟩] (i:Int)with
  |false=>simp
  |true=>exact absurd ((C i).1 e2) e
 have T:∀i,(W.p i).parts=(V.p i).parts/\(W.p i).tick=(V.p i).tick/\(W.p i).quiet=(V.p i).quiet/\(W.p i).lost=(V.p i).lost:=λi=>by rw[S];split<;>exact⟨rfl,rfl,rfl,rfl⟩
 have bP:∀x∈X.az++X.lost,0<=x.st/\x.st<4/\∀p∈x.ps,jD p:=hs.pk;obtain⟨L,hL⟩:=exq (mu (λx=>bw [⟨l,k⟩] x.num) X.az++mu (λx=>bw [⟨l,k⟩] x.num) X.lost);have U:∀y,y∈L↔∃i,i<V.n/\(l<=i/\i<k+1)/\(Q i∈X.az\/Q i∈X.lost)/\y.1=(Q i).st/\y.2∈(Q i).ps:=λy=>by
  rw[hL,ck,CZ,CZ];constructor;rintro(⟨x,u,g,s,t⟩|⟨x,u,g,s,t⟩);obtain⟨i,f,-,rfl⟩:=h.l9.1 u;simp only[(h.pk i f).num]at g;exact⟨i,f,(C i).1 g,.inl u,s,t⟩
  obtain⟨i,f,rfl,-⟩:=h.lost x u;simp only[(h.pk i f).num]at g;exact⟨i,f,(C i).1 g,.inr u,s,t⟩
  rintro⟨i,f,g,D|D,s,t⟩;exact .inl ⟨Q i,D,by simp only[(h.pk i f).num];exact(C i).2 g,s,t⟩;exact .inr ⟨Q i,D,by simp only[(h.pk i f).num];exact(C i).2 g,s,t⟩
 have bS:∀x∈L,jD x.2/\x.1.toNat<4/\x.2.x.hi<=(X.out x.1.toNat).en:=λy Y=>by
  obtain⟨i,f,-,D,s,t⟩:=(U y).1 Y;have P:=h.pk i f;have st:=P.st;have:=P.ps _ t;refine⟨(bP (Q i) (by obtain D|D:=D<;>simp[D])).2.2 _ t,by rw[s];omega,?_⟩
  rw[s,(h.out (Q i).st.toNat (by omega)).en];exact this.2.2.2
 have b0:∀r,r<4->eD (X.out r)/\∀m,Sm (X.out r).h.ag m->m<(X.out r).en:=λr M=>⟨hs.out r M,(h.out r M).hi⟩
 have a3:∀i,l<=i->i<k+1->∀c∈(Q i).ps,((Q i).st,c)∈L\/((∀j:Nat,c.x.lo<=(j:Int)->(j:Int)<c.x.hi->Sm (X.out (Q i).st.toNat).h.ag (j:Int))/\(c.e=true->(X.out (Q i).st.toNat).tE=true)):=λi a b c v=>by
  have G:i<V.n:=by omega
  have P:=h.pk i G;have st:=P.st;have R:=h.out (Q i).st.toNat (by omega);have key:(∀q∈(V.p i).parts,lK V q)->(∀j:Nat,c.x.lo<=(j:Int)->(j:Int)<c.x.hi->Sm (X.out (Q i).st.toNat).h.ag (j:Int))/\(c.e=true->(X.out (Q i).st.toNat).tE=true):=λz=>by
   have:=z (nV (Q i).st c) (by rw[P.parts];exact lM v);refine⟨λj s t=>(R.cm j).1 (this.1 j (by show c.x.lo.toNat<=j;omega) (by show j<c.x.hi.toNat;omega)),λhe=>by rw[R.tE];exact this.2 he⟩
  cases e1:(V.p i).named;cases e2:(V.p i).lost;exact .inl ((U _).2 ⟨i,G,⟨a,b⟩,.inl (h.l9.2 ⟨i,G,by simp[ct.on,e1,e2,P.quiet],rfl⟩),rfl,v⟩);obtain q|q:=h.un i G e2 e1
  exact .inl ((U _).2 ⟨i,G,⟨a,b⟩,.inr q,rfl,v⟩);exact .inr (key q);exact .inr (key (h.nm i G e1))
 have b3:∀r,r<4->tu (W.o r) (dy X.out L r):=λr M=>by
  have R:=h.out r M;obtain⟨s1,s2,s3,s4⟩:=MO L X.out r;obtain⟨a4,b4⟩:=ON L r X.out b0 bS M;obtain⟨-,sm⟩:=MP L r X.out (hs.out r M).ok;obtain⟨w1,w2,w3⟩:=N.src r;refine⟨by rw[s3];exact R.sG,by rw[s2,w3,F];exact R.sE,?_,by rw[a4,w2,F];exact R.en,by rw[w1,w2,F];exact R.sz,λj=>?_,λm D=>by rw[a4];exact b4 m D⟩
  rw[Bool.eq_iff_iff,OL,N.fin,F,K,O,R.tE];constructor;rintro(q|⟨y,Y,s,t⟩);exact .inl q;obtain⟨i,f,hr,-,A,E⟩:=(U y).1 Y;refine .inr ⟨i,hr.1,hr.2,(yx _ _).2 ⟨nV (Q i).st y.2,by rw[(h.pk i f).parts];exact lM E,by show(Q i).st.toNat=r;rw[<-A];exact s,t⟩⟩;rintro(q|⟨i,a,b,v⟩);exact .inl q;obtain⟨q,g,A,E⟩:=(yx _ _).1 v;rw[(h.pk i (by omega)).parts]at g;obtain⟨c,v,rfl⟩:=fh.1 g;have A:(Q i).st.toNat=r:=A;obtain z|z:=a3 i a b c v
  exact .inr ⟨_,z,A,E⟩;have:=z.2 E;rw[A,R.tE]at this;exact .inl this;rw[N.ag,F,K,O,sm,R.cm];constructor;rintro(q|⟨i,a,b,v⟩);exact .inl q;obtain⟨q,g,A,E,g3⟩:=(yw _ _ _).1 v;have P:=h.pk i (by omega);rw[P.parts]at g;obtain⟨c,v,rfl⟩:=fh.1 g;have A:(Q i).st.toNat=r:=A;have E:c.x.lo.toNat<=j:=E;have g3:j<c.x.hi.toNat:=g3;obtain z|z:=a3 i a b c v
  exact .inr ⟨_,z,A,by show c.x.lo<=(j:Int);omega,by show(j:Int)<c.x.hi;omega⟩;have:=z.1 j (by omega) (by omega);rw[A]at this;exact .inl this;rintro(q|⟨y,Y,s,t,h3⟩);exact .inl q;obtain⟨i,f,hr,-,A,E⟩:=(U y).1 Y;have:=(h.pk i f).ps _ E;refine .inr ⟨i,hr.1,hr.2,(yw _ _ _).2 ⟨nV (Q i).st y.2,by rw[(h.pk i f).parts];exact lM E,by show(Q i).st.toNat=r;rw[<-A];exact s,by show y.2.x.lo.toNat<=j;omega,by show j<y.2.x.hi.toNat;omega⟩⟩
 have bb:∀q,q.st<4->lK V q->lK W q:=λq g v=>by
  unfold lK at *;exact⟨λj a b=>(N.ag _ _).2 (.inl (by rw[F];exact v.1 j a b)),λe=>(N.fin _).2 (.inl (by rw[F];exact v.2 e))⟩
 have bj:∀i,i<V.n->∀q∈(V.p i).parts,q.st<4:=λi f q g=>by
  have P:=h.pk i f;rw[P.parts]at g;obtain⟨c,-,rfl⟩:=fh.1 g;show(Q i).st.toNat<4;have:=P.st;omega
 have b7:(if X.az.any (λx=>bw [⟨l,k⟩] x.num)then(4:Int)else X.wait)=W.wait:=by
  have e:X.az.any (λx=>bw [⟨l,k⟩] x.num)=true↔∃i,l<=i/\i<k+1/\(V.p i).on=true:=by
   rw[oh];constructor;rintro⟨x,u,g⟩;obtain⟨i,f,ho,rfl⟩:=h.l9.1 u;rw[(h.pk i f).num]at g;exact⟨i,((C i).1 g).1,((C i).1 g).2,ho⟩
   rintro⟨i,a,b,ho⟩;exact⟨Q i,h.l9.2 ⟨i,by omega,ho,rfl⟩,by rw[(h.pk i (by omega)).num];exact(C i).2 ⟨a,b⟩⟩
  obtain⟨a,b⟩|⟨a,b⟩:=N.wait
  rw[O,K]at a;rw[aM (e.2 a),b];rw[O,K]at a;rw[ay (λz=>a (e.1 z)),b,w];exact h.wait
 have b8:4<=W.wait/\W.wait<=32:=by
  obtain⟨-,b⟩|⟨-,b⟩:=N.wait
  rw[b];omega;rw[b,w];exact h.wt
 have W1:cM W {X.dr V.aV H with out:=dy X.out L,az:=X.az.filter (λx=> !bw [⟨l,k⟩] x.num),lost:=X.lost.filter (λx=> !bw [⟨l,k⟩] x.num),wait:=if X.az.any (λx=>bw [⟨l,k⟩] x.num)then 4 else X.wait} Q:=by
  refine⟨by rw[N.key,w];exact h.key,h.first,by rw[N.ao,w];exact h.ao,by rw[N.ai,w];exact h.ai,?_,by rw[N.n,B];exact h.cU,by rw[N.now,w];exact h.tick,b7,b8,by rw[N.aV,w];have:=h.aV;show 0<=V.aV+1;omega,?_,b3,λi f=>?_,?_,λx u=>?_,λi f s t=>?_,λi f s q g=>?_,N.cU⟩
  show(X.dU||H.any mD)=false;rw[h.dU,bx];rfl;rw[N.aV,w];exact OO hs.nd h.num;rw[N.n,B]at f;have P:=h.pk i f;obtain⟨a,b,c,d⟩:=T i;exact⟨P.num,by rw[b];exact P.tick,P.st,by rw[a];exact P.parts,λx u=>by rw[(N.src _).2.1,F];exact P.ps x u,by rw[c];exact P.quiet,λx u he=>by rw[(N.src _).2.2,F];exact P.fe x u he⟩
  show X.az.filter _=_;rw[h.az,List.filter_map,List.filter_filter,N.n,B];congr 1;apply List.filter_congr;intro i f;rw[bM i,Bool.and_comm];simp only[Function.comp_apply,(h.pk i (mJ.1 f)).num]
  obtain⟨i,a,b,c⟩:=h.lost x ((jR.1 u).1);exact⟨i,by rw[N.n,B];exact a,b,by rw[(T i).2.2.2];exact c⟩
  rw[N.n,B]at f;rw[(T i).2.2.2]at s;rw[(T i).1];have br:¬(l<=i/\i<k+1):=λe=>by rw[S,aM e]at t;cases t
  rw[S,ay br]at t;obtain z|z:=h.un i f s t
  refine .inl (jR.2 ⟨z,?_⟩);rw[(h.pk i f).num];cases e:bw [⟨l,k⟩] (i:Int)with
  |false=>rfl
  |true=>exact absurd ((C i).1 e) br
  exact .inr (λq g=>bb q (bj i f q g) (z q g));rw[N.n,B]at f;rw[(T i).1]at g;by_cases e:l<=i/\i<k+1;have e2:i<l+(k+1-l):=by omega
  refine⟨λj a b=>(N.ag _ _).2 (.inr ⟨i,e.1,e2,by rw[K];exact(yw _ _ _).2 ⟨q,g,rfl,a,b⟩⟩),λa=>(N.fin _).2 (.inr ⟨i,e.1,e2,by rw[K];exact(yx _ _).2 ⟨q,g,rfl,a⟩⟩)⟩
  rw[S,ay e]at s;exact bb q (bj i f q g) (h.nm i f s q g)
 have a1:∀i,i<V.n->(decide ((Q i).num+3<=(au [(⟨l,k⟩:Rg)] 0).hi)=decide (i<k-2)):=λi f=>by
  rw[(h.pk i f).num];have:(au [(⟨l,k⟩:Rg)] 0).hi=(k:Int):=rfl;rw[this,Bool.eq_iff_iff,kh,kh];omega
 have W2:=W1.uB (k-2) (by rw[N.n,B];omega) ((X.dr V.aV H).eN [⟨l,k⟩]) (by
  have e:((X.dr V.aV H).eN [⟨l,k⟩])={({X.dr V.aV H with out:=dy X.out L,az:=X.az.filter (λx=> !bw [⟨l,k⟩] x.num),lost:=X.lost.filter (λx=> !bw [⟨l,k⟩] x.num),wait:=if X.az.any (λx=>bw [⟨l,k⟩] x.num)then 4 else X.wait}:Sd)with az:=(X.az.filter (λx=> !bw [⟨l,k⟩] x.num)).filter (λx=> !decide (x.num+3<=(au [(⟨l,k⟩:Rg)] 0).hi)),lost:=((X.dr V.aV H).eN [⟨l,k⟩]).lost}:=by
   rw[hL];rfl
  have e2:(X.az.filter (λx=> !bw [⟨l,k⟩] x.num)).filter (λx=> !decide (x.num+3<=(au [(⟨l,k⟩:Rg)] 0).hi))=((List.range W.n).filter (λi=>(bT W.p (k-2) i).on)).map Q:=by
   have e3:X.az.filter (λx=> !bw [⟨l,k⟩] x.num)=((List.range W.n).filter (λi=>(W.p i).on)).map Q:=W1.az;rw[e3,List.filter_map,List.filter_filter];congr 1;apply List.filter_congr;intro i f;have f:=mJ.1 f;rw[N.n,B]at f;simp only[Function.comp_apply]
   rw[a1 i f];by_cases q:i<k-2;rw[DB _ _ _ q];simp[q];unfold bT;rw[ay (λz=>q z.1)];simp[q]
  rw[e2]at e;exact e) (λx=>by
  show x∈X.lost.filter _++(X.az.filter _).filter _↔_;rw[ck];refine or_congr_right ?_;constructor;intro u;obtain⟨cg,bt⟩:=jR.1 u;obtain⟨i,a,b,rfl⟩:=W1.l9.1 cg;rw[N.n,B]at a;rw[a1 i a]at bt;exact⟨i,by simpa using bt,b,rfl⟩
  ·rintro⟨i,a,b,rfl⟩;have G:i<V.n:=by omega
   exact jR.2 ⟨W1.l9.2 ⟨i,by rw[N.n,B];exact G,b,rfl⟩,by rw[a1 i G];simpa using a⟩)
 exact W2.forget
def OP(d:Du)(c:Pc):Prop:=(c.x.lo<c.x.hi/\Sm d.l c.x.lo)\/(c.e=true/\d.e=true)
theorem OQ{o:Ot}{d:Du}(b:o.sG=false)(h:iQ o d)(a:(o.next d p).2=true):OP d (o.next d p).1:=by
 unfold Ot.next at a⊢;rw[b]at a⊢;simp only[gM,gp]at a⊢;unfold Ot.fV at a⊢;split at a;cases a;rename_i c;rw[ay c];simp only[qh,kh,ja]at a;obtain a|a:=a
 refine .inl ⟨a,?_⟩;show Sm d.l (o.dL d.l).lo;unfold Ot.dL at a⊢;split at a;simp only at a;omega;rename_i h0;rw[ay h0];have:=mm (Y:=d.l) (i:=0) (by omega);exact⟨_,this,fI _,by omega⟩
 exact .inr ⟨by show(o.sE&&_)=true;rw[ja];exact a.1,a.2⟩
theorem OR{o:Ot}{d:Du}(f:o.sG=false)(h:iQ o d)(n:48<=p)(q:0<=o.h.fr)(g:o.en<=4096)(j:d.e=true->o.sE=true)(a:(o.next d p).2=false):d.l=[]/\d.e=false:=by
 unfold Ot.next at a;rw[f]at a;simp only[gM,gp]at a;have k:0<=o.en:=by unfold Ot.en;omega
 have r:0<=(o.dL d.l).lo/\(o.dL d.l).lo<=4096:=by
  unfold Ot.dL;split;exact⟨k,g⟩
  rename_i h0;have:=h.mem (mm (Y:=d.l) (i:=0) (by omega));omega
 have s:bZ (o.dL d.l).lo<=2:=by unfold bZ;split<;>(try split)<;>omega
 have c:43<=iO (p-(2+bZ (o.dL d.l).lo)):=by unfold iO;split<;>(try split)<;>omega
 unfold Ot.fV at a;rw[ay (by omega)]at a;simp only[Bool.or_eq_false_iff,vO]at a;obtain⟨m,b⟩:=a;by_cases h0:d.l.length=0;refine⟨fR h0,?_⟩
 have ex:o.dL d.l=⟨o.en,o.en⟩:=by unfold Ot.dL;rw[aM h0]
 rw[ex]at b;cases e:d.e with
 |false=>rfl
 |true=>
  rw[e,j e]at b;have:min o.en (o.en+iO (p-(2+bZ o.en)))=o.en:=by rw[ex]at c;simp only at c;omega
  simp only at b;rw[this]at b;simp at b
 have ex:o.dL d.l=au d.l 0:=by unfold Ot.dL;rw[ay h0]
 have:=h.mem (mm (Y:=d.l) (i:=0) (by omega));rw[ex]at m c;omega
def nx(V:aB)(f:List Fr):aB:=ts V ⟨V.now,f.map dS,false,false,false⟩ V.pl V.vs V.tag
def cQ(V:aB):List (List Fr)->aB
 |[]=>V
 |f::r=>cQ (nx V f) r
def jN:aB->List (List Int)->List (List Fr)->Prop
 |_,[],[]=>True
 |V,b::bs,f::a=>p7 V (strOfNums b) f/\jN (nx V f) bs a
 |_,_,_=>False
theorem yy(a b:List (List Fr)):∀V,cQ V (a++b)=cQ (cQ V a) b:=by
 induction a with
 |nil=>intro V;rfl
 |cons f a c=>intro V;exact c (nx V f)
theorem jN.app{b:List (List Int)}{g:List (List Fr)}:∀{a:List (List Int)}{f:List (List Fr)}{V:aB},jN V a f->jN (cQ V f) b g->jN V (a++b) (f++g):=by
 intro a;induction a with
 |nil=>
  intro f V h c;cases f with
  |nil=>exact c
  |cons x f=>exact h.elim
 |cons y a d=>
  intro f V h c;cases f with
  |nil=>exact h.elim
  |cons x f=>exact⟨h.1,d h.2 c⟩
theorem jN.len:∀{a:List (List Int)}{f:List (List Fr)}{V:aB},jN V a f->a.length=f.length:=by
 intro a;induction a with
 |nil=>intro f V h;cases f with
  |nil=>rfl
  |cons x f=>exact h.elim
 |cons y a b=>intro f V h;cases f with
  |nil=>exact h.elim
  |cons x f=>simp[b h.2]
def ma(V:aB)(k:Nat):Prop:=(∀j,j<(V.o k).n->(V.o k).wb j=false)/\((V.o k).finished&& !(V.o k).eP&&((V.o k).dX==0))=false
theorem OS(V:aB)(f:List Fr)(k:Nat):((nx V f).o k).wrote=(V.o k).wrote/\((nx V f).o k).n=(V.o k).n/\((nx V f).o k).ag=(V.o k).ag/\((nx V f).o k).finished=(V.o k).finished/\((nx V f).o k).eP=(V.o k).eP:=⟨rfl,rfl,rfl,rfl,rfl⟩
theorem OT(h:s.fG)(f:List Fr)(k:Nat):(∀j,((nx s f).o k).fl j=(s.o k).fl j+gZ (f.map dS) k j)/\((nx s f).o k).dX=(s.o k).dX+hb (f.map dS) k:=by
 obtain⟨a,b⟩:=h k;refine⟨λj=>?_,?_⟩
 show eQ (aw s.p s.n _) k j s.n+_=_;rw[yt _ _ _ _ _ (aI _),bm,a j];rfl;show eZ (aw s.p s.n _) k s.n+_=_;rw[yu _ _ _ _ (aI _),bm,b];rfl
theorem OU(p:Nat->ct)(k j:Nat):∀n,0<=eQ p k j n:=by
 intro n;induction n with
 |zero=>simp[eQ]
 |succ n a=>have:=qC (p n).parts k j;unfold eQ;split<;>omega
theorem OV(p:Nat->ct)(k:Nat):∀n,0<=eZ p k n:=by
 intro n;induction n with
 |zero=>simp[eZ]
 |succ n a=>have:=qD (p n).parts k;unfold eZ;split<;>omega
theorem ma.nx(h:ma s k)(b:s.fG)(f:List Fr):ma (nx s f) k:=by
 obtain⟨c1,c2⟩:=OT b f k;obtain⟨-,en,ec,ef,g⟩:=OS s f k;refine⟨λj d=>?_,?_⟩
 have a:=h.1 j (by rw[en]at d;exact d);unfold Src.wb at a⊢;rw[ec,c1 j];cases e:(s.o k).ag j with
 |true=>rfl
 |false=>
  rw[e]at a;have h0:¬(s.o k).fl j=0:=by simpa using a
  have c:=OU s.p k j s.n;rw[<-(b k).1 j]at c;have n2:=(qC (f.map dS) k j).1;simp;omega
 have a:=h.2;rw[ef,g,c2];cases e:((s.o k).finished&& !(s.o k).eP)with
 |false=>rfl
 |true=>
  rw[e]at a;have h0:¬(s.o k).dX=0:=by simpa using a
  have c:=OV s.p k s.n;rw[<-(b k).2]at c;have n2:=(qD (f.map dS) k).1;simp;omega
theorem DC:∀(g:List (List Fr)){V:aB},V.fG->(cQ V g).fG:=by
 intro g;induction g with
 |nil=>intro V h;exact h
 |cons f g a=>intro V h;exact a (tp _ _)
theorem ma.seq:∀(g:List (List Fr)){V:aB},V.fG->ma V k->ma (cQ V g) k:=by
 intro g;induction g with
 |nil=>intro V _ h;exact h
 |cons f g a=>intro V b h;exact a (tp _ _) (h.nx b f)
theorem cM.aE{V:aB}{Q:Nat->Pk}(h:cM V X Q)(k:Nat)(y:Int):cM V {X with out:=aw X.out k {X.out k with aE:=y}} Q:=by
 refine⟨h.key,h.first,h.ao,h.ai,h.dU,h.cU,h.tick,h.wait,h.wt,h.aV,h.num,λj a=>?_,h.pk,h.az,h.lost,h.un,h.nm,h.c⟩
 show tu (V.o j) (aw X.out k {X.out k with aE:=y} j);by_cases e:j=k;subst e;rw[bm];have R:=h.out j a;exact⟨R.sG,R.sE,R.tE,R.en,R.sz,R.cm,R.hi⟩
 rw[bq _ _ e];exact h.out j a
theorem cM.join{V:aB}{Q:Nat->Pk}(h:cM V X Q)(D:k<4)(ps:List Pc)(f:List Fr)(y:f.map dS=ps.map (nV (k:Int)))(u:∀c∈ps,c.g=false/\0<=c.x.lo/\c.x.lo<=c.x.hi/\c.x.hi<=(V.o k).n/\(c.e=true->(V.o k).finished=true)):
 cM (nx V f) {X with az:=X.az++[⟨X.count,X.tick,k,ps⟩],count:=X.count+1} (aw Q V.n ⟨X.count,X.tick,k,ps⟩):=by
 have hp:∀i,i<V.n->(nx V f).p i=V.p i:=λi hi=>bq _ _ (by omega)
 have m:(nx V f).p V.n=⟨V.now,f.map dS,false,false,false⟩:=bm _ _ _;have r:∀i,i<V.n->aw Q V.n ⟨X.count,X.tick,k,ps⟩ i=Q i:=λi hi=>bq _ _ (by omega)
 have s:∀{i},i<(nx V f).n->i<V.n\/i=V.n:=λ{i} hi=>by have:i<V.n+1:=hi;omega
 refine⟨h.key,h.first,h.ao,h.ai,h.dU,by show X.count+1=((V.n+1:Nat):Int);rw[h.cU];simp,h.tick,h.wait,h.wt,h.aV,h.num,λj z=>?_,λi hi=>?_,?_,λx A=>?_,λi hi l v=>?_,λi hi l q w=>?_,tp _ _⟩
 have R:=h.out j z;exact⟨R.sG,R.sE,R.tE,R.en,R.sz,R.cm,R.hi⟩
 obtain e|rfl:=s hi
 rw[r i e];have P:=h.pk i e;exact⟨P.num,by rw[hp i e];exact P.tick,P.st,by rw[hp i e];exact P.parts,P.ps,by rw[hp i e];exact P.quiet,P.fe⟩
 rw[bm];refine⟨h.cU,by rw[m];exact h.tick,⟨by show(0:Int)<=k;omega,by show(k:Int)<4;omega⟩,by rw[m];exact y,λc t=>?_,by rw[m],λc t B=>?_⟩
 obtain⟨a,b,C,d,-⟩:=u c t;exact⟨a,b,C,d⟩
 exact(u c t).2.2.2.2 B;show X.az++_=((List.range (V.n+1)).filter (λi=>((nx V f).p i).on)).map _;rw[pD,List.filter_append,mf,h.az];congr 1;have e:(List.range V.n).filter (λi=>((nx V f).p i).on)=(List.range V.n).filter (λi=>(V.p i).on):=by
  apply List.filter_congr;intro i hi;rw[hp i (mJ.1 hi)]
 rw[e];apply r9;intro i hi;exact(r i (mJ.1 (jR.1 hi).1)).symm;have e:((nx V f).p V.n).on=true:=by rw[m];rfl
 simp[e,bm];obtain⟨i,a,b,c⟩:=h.lost x A;exact⟨i,by show i<V.n+1;omega,by rw[r i a];exact b,by rw[hp i a];exact c⟩
 obtain e|rfl:=s hi
 rw[hp i e]at l v⊢;rw[r i e];exact h.un i e l v;rw[m]at l;cases l;obtain e|rfl:=s hi
 rw[hp i e]at l w;exact h.nm i e l q w;rw[m]at l;cases l
structure yz(o:Ot)(k:Nat)(p:Pc)(f:Fr):Prop where
 ok:f.ok/\dm f/\(f.ranges.length:Int)<=4611686018427387903
 norm:iF f=f
 kind:f.kind=5
 st:f.stream=(k:Int)
 off:f.offset=p.x.lo
 len:(f.data.size:Int)=p.x.hi-p.x.lo
 fin:f.fin=p.e
 g:p.g=false
 jC:0<=p.x.lo/\p.x.lo<=p.x.hi/\p.x.hi<=o.en
 e:p.e=true->o.sE=true
theorem qA.OW{p:Pc}(h:qA d k p H)(f:d.sG=false)(a:eD d)(m:k<4):yz d k p H:=by
 obtain⟨b,-⟩|⟨-,g,n,i,c,j,q,rfl⟩:=h
 rw[f]at b;cases b;have s:=a.fr;have t:=a.en;have hl:((((d.h.bytes.drop (p.x.lo-d.h.fr).toNat).take (p.x.hi-p.x.lo).toNat).length:Nat):Int)=p.x.hi-p.x.lo:=by
  rw[cC,dO];unfold Ot.en at c;omega
 have hd:((strOfNums ((d.h.bytes.drop (p.x.lo-d.h.fr).toNat).take (p.x.hi-p.x.lo).toNat)).size:Int)=p.x.hi-p.x.lo:=by rw[strOfNums_size];exact hl
 refine⟨⟨⟨by simp[gC],by simp[gC];omega,by simp[aR];omega,by simp[aR],λr l=>by cases l⟩,⟨⟨?_,?_⟩,?_,by simp,by simp⟩,by simp⟩,rfl,rfl,rfl,rfl,hd,rfl,g,⟨by omega,i,c⟩,λe=>?_⟩
 all_goals first|(simp only;omega)|skip
 exact⟨λe=>by simp at e,λ_=>by simp only;omega⟩
 rw[j]at e;rw[ja]at e;exact e.1
theorem DD{p:Pc}(h:yz d k p H):dS H=nV (k:Int) p:=by
 unfold dS nV;rw[h.st,h.off,h.fin];have a:=h.len;have b:=h.jC;have:p.x.lo.toNat+H.data.size=p.x.hi.toNat:=by omega
 rw[this]
theorem OX(s:Sd)(k:Nat)(h:(s.due k).e=true):(s.out k).sE=true:=by
 unfold Sd.due at h;have:=((Dy _ _).1 h).1;have:(s.out k).uE=true:=this;unfold Ot.uE at this;rw[ja]at this;exact this.1
theorem OY{x:Ld}{L:Told}(b:x.ps=[])(hl:(fE k p (m+1) x).ps=L.map (·.1))(c:L≠[])(f:∀y:Ld,∃l,(fE k p m y).ps=y.ps++l):(x.o.next x.d (p-x.fr.length)).2=true/\∃z r,L=z::r/\z.1=(x.o.next x.d (p-x.fr.length)).1:=by
 unfold fE at hl;cases e:(x.o.next x.d (p-x.fr.length)).2 with
 |false=>
  rw[e]at hl;simp only[gM,gp]at hl;rw[b]at hl;cases L with
  |nil=>exact absurd rfl c
  |cons a r=>cases hl
 |true=>
  rw[e]at hl;simp only[fJ]at hl;obtain⟨l,g⟩:=f (x.step k (x.o.next x.d (p-x.fr.length)).1);rw[g]at hl;have:(x.step k (x.o.next x.d (p-x.fr.length)).1).ps=[(x.o.next x.d (p-x.fr.length)).1]:=by show x.ps++[_]=_;rw[b];rfl
  rw[this]at hl;cases L with
  |nil=>cases hl
  |cons a r=>exact⟨rfl,a,r,rfl,by have:=List.cons.inj hl;exact this.1.symm⟩
theorem DE(k:Nat)(a:Int):∀(m:Nat)(y:Ld),∃l,(fE k a m y).ps=y.ps++l:=by
 intro m;induction m with
 |zero=>intro y;exact⟨[],by simp[fE]⟩
 |succ m b=>
  intro y;unfold fE;split;obtain⟨l,e⟩:=b (y.step k (y.o.next y.d (a-y.fr.length)).1);exact⟨_::l,by rw[e];show(y.ps++[_])++l=_;rw[eA];rfl⟩
  exact⟨[],by simp⟩
structure yA(s0:Sd)(k:Nat)(V:aB)(Q:Nat->Pk)(x:Pz):Prop where
 W:cM V x.s Q
 O:∀j,j<4->eD (x.s.out j)
 due:x.d=x.s.due k
 P:lG s0 k x
 ao:64<=x.s.ao/\x.s.ao<=300
 cU:0<=x.s.count/\x.s.count+10-x.s.az.length<=100000000
theorem OZ(p:k<4)(D:16<=X.ao/\X.ao<=1000)(E:0<=(X.out k).h.fr)(F:(X.out k).en<=4096){V:aB}{Q:Nat->Pk}{x:Pz}(h:yA X k V Q x)(U:x.s.az.length<10)(Y:(x.load k).ps.length≠0):
 ∃f Q',p7 V (strOfNums (cT x.s.key (sd x.s.first) x.s.count (x.load k).fr)) f/\yA X k (nx V f) Q' (x.fN k):=by
 have q:=h.W;have R:=q.out k p;have A:=h.O k p;have G:=h.P.ld p D E F;have bt:=h.ao;have bx:=h.cU;obtain⟨L,v,t,l3,l4,B⟩:=CL (a:=x.s.out k) (d0:=x.d) (q:=x.s.ao-16) p (by omega) A.fr A.en ((x.s.ao-16).toNat+1) ⟨x.s.out k,x.d,[],[]⟩ ⟨rfl,rfl,rfl,h.P.aE,h.P.jZ,by simp,by simp;omega,by simp⟩ rfl (λ_=>rfl);replace v:(x.load k).fr=bu (L.map (·.2)):=v.trans (by simp);replace t:(x.load k).ps=L.map (·.1):=t.trans (by simp);replace B:(x.load k).d=xW x.d L:=B;have H:L≠[]:=λe=>Y (by rw[t,e];rfl)
 have u:∀z∈L,yz (x.s.out k) k z.1 z.2:=λz i=>(l3 z i).OW R.sG A p
 have I:∀f∈L.map (·.2),f.ok/\dm f/\(f.ranges.length:Int)<=4611686018427387903:=λf C=>by
  obtain⟨z,i,rfl⟩:=fh.1 C;exact(u z i).ok
 have a0:(L.map (·.2)).map iF=L.map (·.2):=by
  rw[pF];apply r9;intro z i;exact(u z i).norm
 have K:=De I;have a1:=G.fl;rw[v]at a1;have bM:(bu (L.map (·.2))).length<=284:=by omega
 have M:aR x.s.count:=by unfold aR;omega
 have a2:∀y∈cT x.s.key (sd x.s.first) x.s.count (bu (L.map (·.2))),W8 y:=s9 K;have e1:=Dd a2;have e2:bN (cT x.s.key (sd x.s.first) x.s.count (bu (L.map (·.2))))=x.s.count:=yj M;have N:L.map (·.2)≠[]:=by simpa using H
 have a3:(L.map (·.2)).map dS=(L.map (·.1)).map (nV (k:Int)):=by
  rw[pF,pF];apply r9;intro z i;exact DD (u z i)
 have S:sd x.s.first=sd true:=by rw[q.first]
 refine⟨L.map (·.2),aw Q V.n ⟨x.s.count,x.s.tick,k,L.map (·.1)⟩,?_,?_⟩
 rw[v];refine⟨?_,?_,?_,λf C=>?_,np.2 N,?_,?_,λj w=>(q.out j w).sz⟩
 rw[e1,<-q.key,<-S,Dc M];omega;rw[e1,e2];exact q.cU;rw[e1,e2,yk,<-q.key,<-S,Db _ _ _ _ K,C9 I N,a0];obtain⟨z,i,rfl⟩:=fh.1 C;have P:=u z i;have r:=P.jC;have l:=P.len;rw[R.en]at r;refine⟨P.kind,by rw[P.st];omega,by rw[P.off];omega,?_⟩
 rw[P.st,P.off];simp only[jP];omega;have:=G.pl;rw[t,dY,v]at this;rw[dY];omega;obtain⟨a4,z,r,eL,ez⟩:=OY (k:=k) (p:=x.s.ao-16) (m:=(x.s.ao-16).toNat) (x:=⟨x.s.out k,x.d,[],[]⟩) rfl t H (DE k _ _);have T:=OQ R.sG h.P.jZ a4;have i:z∈L:=by rw[eL];simp
 have P:=u z i;refine⟨z.2,lM i,?_⟩
 rw[DD P,P.st];simp only[jP]
 rw[<-ez,h.due]at T;have rg:=P.jC;rw[R.en]at rg;obtain⟨a,b⟩|⟨a,b⟩:=T
 left;refine⟨z.1.x.lo.toNat,aI _,by show z.1.x.lo.toNat<z.1.x.hi.toNat;omega,?_⟩
 have:=(q.wb h.O p z.1.x.lo.toNat).2 (by rw[show((z.1.x.lo.toNat:Nat):Int)=z.1.x.lo by omega];exact b);exact this.1;right;have:=(q.we p).2 b;show(z.1.e&&_&&_&&_)=true;rw[a,Bool.true_and];exact this;have bb:=(q.aE k (x.load k).o.aE).join p (L.map (·.1)) (L.map (·.2)) a3 (λc hc=>by
  obtain⟨z,i,rfl⟩:=fh.1 hc;have P:=u z i;have r:=P.jC;rw[R.en]at r;exact⟨P.g,r.1,r.2.1,r.2.2,λe=>by rw[<-R.sE];exact P.e e⟩)
 have br:(x.load k).o={x.s.out k with aE:=(x.load k).o.aE}:=vz k (x.s.ao-16) ((x.s.ao-16).toNat+1) ⟨x.s.out k,x.d,[],[]⟩;have ed:(x.fN k).s={({x.s with out:=aw x.s.out k {x.s.out k with aE:=(x.load k).o.aE}}:Sd)with az:=x.s.az++[⟨x.s.count,x.s.tick,k,L.map (·.1)⟩],count:=x.s.count+1}:=by
  unfold Pz.fN;simp only
  rw[<-br,t]
 refine⟨by rw[ed];exact bb,λj w=>?_,?_,h.P.fN p D E F U,h.ao,⟨by show 0<=x.s.count+1;omega,?_⟩⟩
 rw[ed];show eD (aw x.s.out k {x.s.out k with aE:=(x.load k).o.aE} j);by_cases e:j=k;subst e;rw[bm];exact(h.O j w).same rfl;rw[bq _ _ e];exact h.O j w;show(x.load k).d=_;rw[B,h.due,ed];unfold Sd.due;simp only[bm]
 rw[vS,List.foldl_append];have e1:(({x.s.out k with aE:=(x.load k).o.aE}:Ot)).sS=(x.s.out k).sS:=rfl;rw[e1];simp only[pC,List.flatMap_nil,fJ,nw]
 unfold xW;rw[List.foldl_map];show x.s.count+1+10-((x.s.az++[_]).length:Nat)<=100000000;rw[bG,List.length_singleton];omega
theorem cM.O0{V:aB}{Q:Nat->Pk}(h:cM V X Q)(c:∀k,k<4->eD (X.out k))(a:k<4)(d:(X.due k).l=[])(b:(X.due k).e=false):ma V k:=by
 refine⟨λj f=>?_,?_⟩
 cases e:(V.o k).wb j with
 |false=>rfl
 |true=>
  have:=(h.wb c a j).1 ⟨e,f⟩;rw[d]at this;exact absurd this (by simp[ij])
 cases e:((V.o k).finished&& !(V.o k).eP&&((V.o k).dX==0))with
 |false=>rfl
 |true=>rw[(h.we a).1 e]at b;cases b
theorem O3(b:k<4)(i:16<=X.ao/\X.ao<=1000)(j:0<=(X.out k).h.fr)(n:(X.out k).en<=4096):∀(m:Nat)(V:aB)(Q:Nat->Pk)(x:Pz),yA X k V Q x->
 ∃bs a c,(iB k m x).l=x.l++bs/\jN V bs a/\cM (cQ V a) (iB k m x).s c/\(10<=(iB k m x).s.az.length\/m+x.s.az.length<=10\/ma (cQ V a) k):=by
 intro m;induction m with
 |zero=>intro V Q x h;exact⟨[],[],Q,by simp[iB],trivial,h.W,.inr (.inl (by have:=h.P.fl;omega))⟩
 |succ m p=>
  intro V Q x h;unfold iB;split;rename_i g;exact⟨[],[],Q,by simp,trivial,h.W,.inl g⟩
  rename_i g;have R:=h.W.out k b;have A:=h.O k b;have D:=h.ao;split;rename_i h0;have r:(x.load k).o={x.s.out k with aE:=(x.load k).o.aE}:=vz k (x.s.ao-16) ((x.s.ao-16).toNat+1) ⟨x.s.out k,x.d,[],[]⟩;refine⟨[],[],Q,by simp[Pz.stay],trivial,?_,.inr (.inr ?_)⟩
  show cM V {x.s with out:=aw x.s.out k (x.load k).o} Q;rw[r];exact h.W.aE k _;have t:((x.s.out k).next x.d (x.s.ao-16-(([]:List Int).length:Nat))).2=false:=by
   cases e:((x.s.out k).next x.d (x.s.ao-16-(([]:List Int).length:Nat))).2 with
   |false=>rfl
   |true=>
    have h0:(fE k (x.s.ao-16) ((x.s.ao-16).toNat+1) ⟨x.s.out k,x.d,[],[]⟩).ps.length=0:=h0;unfold fE at h0;simp only at h0;rw[e]at h0;simp only[fJ]at h0;obtain⟨l,hl⟩:=DE k (x.s.ao-16) (x.s.ao-16).toNat (Ld.step ⟨x.s.out k,x.d,[],[]⟩ k ((x.s.out k).next x.d (x.s.ao-16-(([]:List Int).length:Nat))).1);rw[hl]at h0;simp[Ld.step]at h0
  obtain⟨d1,d2⟩:=OR R.sG h.P.jZ (by simp;omega) A.fr A.en (λe=>by rw[h.due]at e;exact OX _ _ e) t;rw[h.due]at d1 d2;exact h.W.O0 h.O b d1 d2;rename_i h0;obtain⟨f,u,v,w⟩:=OZ b i j n h (by omega) h0;obtain⟨bs,a,c,y,z,B,C⟩:=p (nx V f) u (x.fN k) w;refine⟨_::bs,f::a,c,?_,⟨v,z⟩,B,?_⟩
  rw[y];show(x.l++[_])++bs=_;rw[eA];rfl;obtain q|q|q:=C
  exact .inl q;refine .inr (.inl ?_);have:(x.fN k).s.az.length=x.s.az.length+1:=by show(x.s.az++[_]).length=_;simp
  omega;exact .inr (.inr q)
theorem O4{V:aB}{Q:Nat->Pk}(h:cM V X Q)(hs:cF X n)(m:n<=100000):∀k,k<=4->∃a d,jN V (bJ X k).2 a/\cM (cQ V a) (bJ X k).1 d/\(10<=(bJ X k).1.az.length\/∀j,j<k->ma (cQ V a) j):=by
 intro k;induction k with
 |zero=>
  intro _;have e:X.eX=⟨X,[],[]⟩:=by unfold Sd.eX;rw[h.dU];simp
  refine⟨[],Q,?_,?_,.inr (λj p=>by omega)⟩
  show jN V X.eX.l [];rw[e];trivial;show cM V X.eX.s Q;rw[e];exact h
 |succ k r=>
  intro F;obtain⟨a,s,t,u,v⟩:=r (by omega);obtain⟨b,G,H,I,-,-⟩:=CQ hs m k (by omega);show∃a d,jN V ((bJ X k).2++((bJ X k).1.pieces k).l) a/\cM (cQ V a) ((bJ X k).1.pieces k).s d/\(10<=((bJ X k).1.pieces k).s.az.length\/∀j,j<k+1->ma (cQ V a) j)
  generalize (bJ X k).1=s1 at *;generalize (bJ X k).2=K at *;have g:=b.cU;have w:=b.vA;obtain⟨L,M,y⟩:=w.p0 k (by omega) ⟨g.1,by omega⟩ (s1.az.map (λx=>(x,Value.slice none 0 0))) (by rw[pF];show _=List.map id _;rw[List.map_id]);have ho:=b.xV (show k<4 by omega);have A:=b.fl;have B:=b.ao;have C:lG s1 k ⟨s1,s1.due k,[]⟩:=⟨rfl,rfl,rfl,rfl,rfl,ho.aE,y,by simp only;omega,A,by simp only;omega,by simp⟩
  obtain⟨bs,i,D,f,p2,p3,p4⟩:=O3 (X:=s1) (show k<4 by omega) (by omega) ho.nice.1 ho.en 11 (cQ V a) s ⟨s1,s1.due k,[]⟩ ⟨u,b.out,rfl,C,B,⟨g.1,by simp only;omega⟩⟩;have f:(s1.pieces k).l=bs:=f.trans (by simp);have E:(cQ V a).fG:=DC a h.c;refine⟨a++i,D,?_,by rw[yy];exact p3,?_⟩
  rw[f];exact t.app p2;obtain q|q:=v
  left;have:s1.pieces k=⟨s1,s1.due k,[]⟩:=by
   unfold Sd.pieces iB;rw[aM q]
  rw[this];exact q;obtain z|z|z:=p4
  exact .inl z;simp only at z;left;by_cases e:10<=s1.az.length;have:s1.pieces k=⟨s1,s1.due k,[]⟩:=by
   unfold Sd.pieces iB;rw[aM e]
  rw[this];exact e;omega;refine .inr (λj p=>?_);rw[yy];by_cases e:j=k;subst e;exact z;exact(q j (by omega)).seq i E
theorem Ps{l:List cu}{q:cu}(h:w.rangeAt n 0 (ji l))(c:l[j]?=some q):w.rangeAt n (j*7) (eM q.1 q.2):=by
 intro m u b;have e:m<7:=by have:=(iX.1 b).1;exact this
 have key:∀(l:List cu)(j:Nat),l[j]?=some q->(ji l)[j*7+m]?=some u:=by
  intro l;induction l with
  |nil=>intro j h;simp at h
  |cons x l d=>
   intro j a;simp only[ji,pC]
   cases j with
   |zero=>
    simp only[List.getElem?_cons_zero,kM]at a;subst a;rw[nk (by simp[eM];omega)];simpa using b
   |succ j=>
    rw[kZ (by simp[eM];omega)];have:(j+1)*7+m-(eM x.1 x.2).length=j*7+m:=by simp[eM];omega
    rw[this];exact d j (by simpa using a)
 have:=h (j*7+m) u (key l j c);rw[dv]at this;exact this
structure kY(w:World)(sb:Nat)(V:aB)(P:Nat)(a:Value)(af:List cu)(v:Value)(ps:List Pt)(b:Bool)(wr:World):Prop where
 T:aY w sb V V wr
 F:wr.ownsRow 0 158 7 a af.length (ji af)
 tF:∀k,a.ownBlock=some k->V.tag k=none
 pk:pd wr V w.heap.size P v ⟨V.now,ps,b,false,false⟩
theorem kY.gb{af:List cu}{ps:List Pt}{wr:World}(h:kY w n s i x af y ps B wr)(g:wr.grownBy W none):kY w n s i x af y ps B W:=
 ⟨h.T.gb g,fY h.F (ak.of g) (λk _ e=>by cases e),h.tF,h.pk.gb g⟩
theorem kY.Pu{af:List cu}{ps:List Pt}{wr:World}(h:kY w n s i x af y ps B wr)(h0:0<w.heap.size):kY w n s i x af y ps false (wr.setCell ⟨i,2,none⟩ (.bool false)):=by
 have C:=jl wr i 2 (.bool false);have tP:=h.pk.at_.ty;refine⟨h.T.other C h0 (λk e=>by subst e;exact⟨h.pk.tP,h.pk.lP⟩),fY h.F C (λk e e2=>by subst e2;exact(dM h.F _ e).ne tP (by decide) rfl),h.tF,⟨⟨heap_set h.pk.at_.aG _,fY h.pk.at_.parts C (λk e e2=>by subst e2;exact(dM h.pk.at_.parts _ e).ne tP (by decide) rfl)⟩,h.pk.tP,h.pk.tv,h.pk.lP,h.pk.lv⟩⟩
theorem kY.fr{af:List cu}{ps:List Pt}{wr:World}(h:kY w n s k (.slice a m j) af x ps B wr){q:cu}(b:af[i]?=some q):∃g,a=some ⟨g,0,none⟩/\wr.cell? ⟨g,i*7,none⟩=some (.int .i64 q.1.kind)/\wr.cell? ⟨g,i*7+1,none⟩=some (.int .i64 q.1.stream)/\wr.cell? ⟨g,i*7+2,none⟩=some (.int .u64 q.1.offset)/\wr.cell? ⟨g,i*7+4,none⟩=some (.bool q.1.fin)/\wr.cell? ⟨g,i*7+5,none⟩=some (.string q.1.data):=by
 obtain⟨l,p,e,-,-,d,c⟩:=ix h.F;obtain⟨rfl,rfl,rfl⟩:=fS e;cases a with
 |none=>have:=(d rfl).1;rw[r8 (by omega)]at b;cases b
 |some y=>
  obtain⟨f,c⟩:=c y rfl;have R:=Ps c b;exact⟨y.block,by rw[f],R 0 _ rfl,R 1 _ rfl,R 2 _ rfl,R 4 _ rfl,R 5 _ rfl⟩
theorem kY.app{af:List cu}{ps:List Pt}{wr:World}(h:kY w n s i x af y ps false wr)(h0:0<w.heap.size)(q:Pt)(hl:ps.length<=1000000)(g:W=(wr.alloc (.cells (kX q) 150)).drew):
 ∃a7 c c7 a,(Builtin.append_ #[194,194] 194 #[y,.slice (some ⟨wr.heap.size,0,none⟩) 1 1]).run prog W=.ok (.slice a7 c c7) a/\a.cell? ⟨i,1,none⟩=some y/\a.frozen? ⟨i,1,none⟩=false/\kY w n s i x af (.slice a7 c c7) (ps++[q]) false (a.setCell ⟨i,1,none⟩ (.slice a7 c c7))/\∀b ob,b≠i->y.ownBlock≠some b->wr.heap[b]?=some ob->a.heap[b]?=some ob:=by
 obtain⟨a7,c,c7,a,j,l,m,p,C⟩:=h.pk.app h.T.at_ h.T.aq.size q hl g;refine⟨a7,c,c7,a,j,l,m,⟨h.T.other C h0 (λk e=>?_),fY h.F C (λk e e2=>?_),h.tF,p⟩,λb ob d r f=>?_⟩
 obtain rfl|e:=e
 exact⟨h.pk.tP,h.pk.lP⟩
 exact⟨h.pk.tv k e,h.pk.lv k e⟩
 obtain rfl|e2:=e2
 exact(dM h.F _ e).ne h.pk.at_.ty (by decide) rfl;exact(dM h.F _ e).ne (dM h.pk.at_.parts k e2) (by decide) rfl;have t:=(aO.1 f).1;have e1:=(C.block b t (λe=>e.elim d r)).trans f;have u:=jl a i 1 (.slice a7 c c7);have v:b<a.heap.size:=by
  have:=(aO.1 e1).1;rw[World.size_setCell]at this;exact this
 rw[u.block b v d]at e1;exact e1
theorem Pv(w:World)(sb:Nat)(V:aB)(H:bH w sb V)(hL:Laid w)(hC:V.fG)(hV:fO V)(b:ByteArray)(a:List Fr)(hT:p7 V b a):
 Calls prog 55 #[.pointer (some ⟨sb,0,none⟩),.string b] w λe m=>e=.returned (.bool true)/\∃ez eK eL,aY w sb V (ts V ⟨V.now,a.map dS,false,false,false⟩ ez eK eL) m:=by
 have gz:b.size<=300:=by have:=hT.ok.2.1;rw[iJ]at this;exact this
 have cw:0<w.heap.size:=hL.lt;have T0:=aY.refl H (av w none) hL;have eV:Hid ((prog.info? 24).map (·.size)=some (bv V.key).length):=J (by rw[fK,H.key.1];exact mh);have e3:=mM b;have T1:=T0.gb (vW w b);have hU:=Nb (Lib.bytesWorld w 5 b) V.key true _ _ _ _ H.key T1.laid (yN w b (by omega)) (by rw[iJ];omega);have cx:=J H.pS;obtain⟨va,vc,hv,-⟩:=ix H.aE;have e6:=hV.n;obtain⟨f1,f2,f3,f4,f5,f6,f7,f8⟩:=hT;obtain⟨L,a3⟩:=exq ((bl b).length-16);have bt:Calls prog 61 #[.agg (bv V.key).toArray,.bool true,.slice (some ⟨w.heap.size,0,none⟩) b.size (grownCap w b.size 0 5)] (Lib.bytesWorld w 5 b) λe m=>∃s t,e=.returned (.tuple #[.int .u64 (V.n:Int),.slice s L t,.int .i64 0])/\aY w sb V V m/\bh m s L t (eu V.key (sd true) (bN (bl b)) (bQ (bl b))):=by
  refine hU.mono ?_;rintro e m⟨⟨-,s,t,rfl,M,-⟩|⟨e7,-⟩,g⟩;exact⟨s,t,by rw[f2,a3],T1.gb g,by rw[a3];exact M⟩
  exact absurd f1 e7
 have cy:Hid (∀(s:Option Addr)(t:Nat)(W:World),aY w sb V V W->bh W s L t (eu V.key (sd true) (bN (bl b)) (bQ (bl b)))->Calls prog 87 #[.slice s L t] W λe m=>∃af E d A,e=.returned (.tuple #[.slice E d A,.int .i64 0,.int .i64 (-1)])/\af.map (·.1)=a/\aY w sb V V m/\m.ownsRow 0 158 7 (.slice E d A) af.length (ji af)/\∀k,(Value.slice E d A).ownBlock=some k->V.tag k=none):=J (λs t W T aa=>by
  refine(N7 W s L t _ aa (by
   have:=aa.2.1;rw[<-this,a3,iJ];omega) T.laid).mono ?_
  rintro e m⟨g,⟨af,E,d,A,hd,rfl,hO⟩|⟨p,hd,-⟩⟩;rw[f3]at hd;have:=(Prod.mk.inj hd).1;have:=aJ this;exact⟨af,E,d,A,rfl,this.symm,T.gb g,MD hO.1 (mg _),λk e=>T.at_.fresh (hO.lt k e).1⟩
  ·rw[f3]at hd;have:=(Prod.mk.inj hd).1;cases this)
 have fP:∀W,aY w sb V V W->W.cell? ⟨sb,20,none⟩=some (.slice va V.n vc):=λW T=>by rw[<-hv];exact T.at_.c.1.2.2.2.2.1
 have bx:∀W,aY w sb V V W->W.cell? ⟨sb,21,none⟩=some (.int .i64 V.now):=λW T=>T.at_.c.1.2.2.2.2.2.1
 have gA:IntKind.u64.wrap (V.n:Int)=(V.n:Int):=by simp[IntKind.wrap,IntKind.bits,IntKind.signed];omega
 replace bt:=J bt;replace H:=J H;replace hL:=J hL;replace T0:=J T0;replace T1:=J T1;replace f1:=J f1;replace f2:=J f2;replace f3:=J f3;replace f4:=J f4;replace f7:=J f7;replace f8:=J f8;replace a3:=J a3;replace hC:=J hC;replace hV:=J hV;replace fP:=J fP;replace bx:=J bx;replace hv:=J hv;clear hU;go_enter func55,ntmps55;go_upto_region 2 with(first|(refine wpList_load_mid (by rfl) 24 _ (by rfl) sb 3 (by rfl) (bv V.key) _ (Z cx) underlying24 (by rfl) (Z eV) ?_)|(go_at_call 61;refine(Z bt).mono ?_;rintro e w2⟨s,t,rfl,T2,bz⟩))
 have e8:=Z fP w2 T2;have cR:=J (Z cy s t w2 T2 bz);replace T2:=J T2;replace bz:=J bz;clear cy bt cx e3;go_upto_region 7 with(go_at_call 87;refine(Z cR).mono ?_;rintro e w3⟨af,E,d,A,rfl,a4,U,a8,bL⟩)
 have e9:=Z bx w3 U;obtain⟨P,hP⟩:=exq w3.heap.size;obtain⟨w4,bM⟩:=exq (w3.alloc (.cells #[.int .i64 V.now,.slice none 0 0,.bool true,.bool false,.bool false] 196));have g4:w3.grownBy w4 none:=by rw[bM];exact aC _ _ _
 have l:w4.heap[P]?=some (.cells #[.int .i64 V.now,.slice none 0 0,.bool true,.bool false,.bool false] 196 (0,0)):=by rw[bM,hP];exact aH _ _
 have TW:Hid (kY w sb V P (.slice E d A) af (.slice none 0 0) [] true w4):=J ⟨U.gb g4,fY a8 (ak.of g4) (λk _ e=>by cases e),bL,⟨⟨l,mI _ _ _ _⟩,U.at_.fresh (by omega),(λk e=>by cases e),(by rw[hP];exact U.aq.size),(λk e=>by cases e)⟩⟩;have al:(d:Int)=(a.length:Int):=by
  obtain⟨a1,c1,e,-⟩:=ix a8;have:=(fS e).2.1;rw[this,<-a4,dY]
 replace U:=J U;replace a8:=J a8;replace bL:=J bL;replace a4:=J a4;replace l:=J l;replace al:=J al;go_upto_region 8 with fail;rw[<-bM,<-hP];clear bM e9 e8 T2 bz cR U a8 bL l;replace hP:=J hP;go_wp2_with fail;go_loopw [11,12] (λuv iv wr=>∃(i:Nat)(u:Bool)(v:Value),i<=a.length/\iv=.int .i64 (i:Int)/\uv=.bool u/\(u=true↔∃f∈a.take i,(V.o f.stream.toNat).pY (dS f))/\kY w sb V P (.slice E d A) af v ((a.take i).map dS) (decide (i=0)) wr) (λ_ iv _=>a.length-(intOf iv).toNat);case atStart=>exact⟨0,false,.slice none 0 0,by omega,rfl,rfl,by simp,Z TW⟩
 case round=>
  clear TW;obtain⟨i,u,v,hi,rfl,rfl,hu,K⟩:=hrel;have i0:(0:Int)<=(i:Int):=by omega
  by_cases b6:i<a.length
  ·have d1:decide ((i:Int)<(d:Int))=true:=bp (by have:=Z al;omega);have i1:(i:Int)<(d:Int):=by have:=Z al;omega
   refine qd λy=>?_
   have fa:i<af.length:=by have h:=fj List.length (Z a4);rw[dY]at h;omega
   have bP:=eF fa;have c9:a[i]=(af[i]).1:=by
    have z:(af.map (·.1))[i]?=a[i]? :=by rw[Z a4]
    rw[List.getElem?_map,bP,eF b6]at z;exact(aJ z).symm
   have b7:a.take (i+1)=a.take i++[a[i]]:=by rw[nr,eF b6];rfl
   obtain⟨h5,⟨fb,fc⟩,ff,b8⟩:=Z f4 a[i] (nt b6);have ax:Hid (∀(b:Bool),(b=true↔(V.o a[i].stream.toNat).pY (dS a[i]))->((u||b)=true↔∃f∈a.take (i+1),(V.o f.stream.toNat).pY (dS f))):=J (λb aa=>by
    rw[b7,qh,aa,hu];constructor;rintro(⟨f,z,M⟩|h);exact⟨f,oe _ z,M⟩
    exact⟨_,px _ (dB.2 rfl),h⟩
    ·rintro⟨f,z,M⟩;obtain z|z:=ck.1 z
     exact .inl ⟨f,z,M⟩
     ·rw[dB.1 z]at M;exact .inr M)
   have a0:(a.take (i+1)).map dS=(a.take i).map dS++[dS a[i]]:=by rw[b7,mf];rfl
   have db:((a.take i).map dS).length<=1000000:=by rw[dY,cC];omega
   obtain⟨g,rfl,e0,-,-,-,-⟩:=K.fr bP;obtain⟨⟨-,-,p2,-,-⟩,pf⟩:=K.pk.at_.c;have N:=K.Pu cw;obtain⟨W1,ca⟩:=exq (wr.setCell ⟨P,2,none⟩ (.bool false));rw[<-ca]at N;obtain⟨g',eg,O,R,G,S,I⟩:=N.fr bP;have fo:g=g':=by have:=aJ eg;exact fj Addr.block this
   subst fo;rw[<-c9]at e0 O R G S I;generalize a[i]=f at *;rw[h5]at e0 O;obtain⟨st,de⟩:∃st:Nat,f.stream=(st:Int):=⟨f.stream.toNat,by omega⟩
   obtain⟨off,cf⟩:∃off:Nat,f.offset=(off:Int):=⟨f.offset.toNat,by omega⟩
   have cg:f.stream.toNat=st:=by omega
   have dg:f.offset.toNat=off:=by omega
   rw[de]at R;rw[cf]at G;have a9:st<4:=by omega
   rw[cg]at b8 ax;obtain⟨⟨-,-,-,gl,-,-,-,-⟩,-⟩:=N.T.at_.c;have co:=N.T.at_.outs st a9;obtain⟨⟨s0,-,-,-,-,-⟩,-⟩:=(N.T.at_.src st a9).c;obtain⟨lb,dk⟩:=exq ((V.sl st).1);rw[<-dk]at co s0;obtain⟨wt,ch⟩:=exq ((V.o st).wrote);rw[<-ch]at s0;have fq:wt.size=(V.o st).n:=by rw[ch];exact Z f8 st a9
   have dn:=(Z hV).sz st a9;have B:dS f=⟨st,off,off+f.data.size,f.fin⟩:=by unfold dS;rw[cg,dg]
   rw[B]at ax a0;have ds:off+f.data.size<=wt.size:=by rw[cf]at b8;omega
   have bS:=J (λ(W:World)(g:W1.grownBy W none)=>Di W sb V (N.T.at_.ah g) ⟨st,off,off+f.data.size,f.fin⟩ a9 (by show off+f.data.size<=(V.o st).n;omega) dn (by show off<=1000000;omega));obtain⟨D,hD⟩:=exq f.data;obtain⟨fin,du⟩:=exq f.fin;rw[<-hD]at I ds ax a0 bS;rw[<-du]at S ax a0 bS;clear hD du dk ch de cf cg dg c9 b7 b8 ff fb fc h5 B hu bP eg;replace a0:=J a0;replace K:=J K;have kg:=J N;have O:=kc O;have R:=kc R;have G:=kc G;have S:=kc S;have I:=kc I;have gl:=kc gl;have co:=kc co;have s0:=kc s0;have gr:W1.grownBy W1 none:=av _ _;have j0:(0:Int)<=(st:Int):=by omega
   have j4:(st:Int)<4:=by omega
   have r1:decide ((st:Int)<0)=false:=bB (by omega);have r2:decide ((4:Int)<=(st:Int))=false:=bB (by omega);have q1:IntKind.u64.wrap (wt.size:Int)=(wt.size:Int):=by simp[IntKind.wrap,IntKind.bits,IntKind.signed];omega
   have q2:IntKind.i64.wrap (off:Int)=(off:Int):=by simp[IntKind.wrap,IntKind.bits,IntKind.signed];omega
   have q3:decide ((wt.size:Int)<(off:Int))=false:=bB (by omega);have fs:decide (wt.size<off)=false:=bB (by omega);have q4:IntKind.i64.wrap ((wt.size:Int)-(off:Int))=(wt.size:Int)-(off:Int):=by simp[IntKind.wrap,IntKind.bits,IntKind.signed];omega
   have q5:decide ((wt.size:Int)-(off:Int)<(D.size:Int))=false:=bB (by omega);have q6:IntKind.i64.wrap ((off:Int)+(D.size:Int))=(off:Int)+(D.size:Int):=by simp[IntKind.wrap,IntKind.bits,IntKind.signed];omega
   clear N ds fq dn;refine y ?_;clear y;go_upto_region 14 with fail;rw[<-ca];clear ca p2 pf e0;go_upto_region 16 with fail;go_cut [13]from 53 to 100 (λv wx=>v=.pointer (some ⟨lb,0,none⟩)/\W1.grownBy wx none);case first=>
    go_region;go_wp2_with fail;go_meet;exact⟨rfl,aP gr⟩
   case rest=>
   rename World=>wa
   obtain⟨rfl,ga⟩:=hcut;have fv:=kc (G wa ga);have fy:=kc (I wa ga);have fA:=kc (s0 wa ga);have dx:wa.grownBy wa none:=av _ _;clear gl co s0;replace O:=J O;replace R:=J R;replace G:=J G;replace S:=J S;replace I:=J I;go_upto_region 17 with fail;go_cut [133]from 101 to 133 (λv wx=>v=.bool false/\wa.grownBy wx none);case first=>
    go_quiet (fail);go_wp2_with fail;go_meet;exact⟨rfl,dh dx _⟩
   case rest=>
   rename World=>wx
   obtain⟨rfl,gd⟩:=hcut;have gx:=aj ga gd;clear fv fy fA dx;refine qd λy=>?_
   clear r1 r2 q1 q3 fs q4 q5;have e0:=Z O wx gx;have e1:=Z R wx gx;have e2:=Z G wx gx;have e4:=Z S wx gx;have e5:=Z I wx gx;have gf:g<wx.heap.size:=by
    have:=((Z kg).gb gx).F;exact(dM this g rfl).lt
   clear O R G S I;refine y ?_;clear y;go_upto_region 19 with fail;go_cut [14]from 134 to 163 (λv wy=>∃Q,v=.pointer (some ⟨Q,0,none⟩)/\wx.heap.size<=Q/\wy.heap[Q]?=some (.cells #[.int .i64 st,.int .i64 off,.int .i64 ((off:Int)+(D.size:Int)),.bool fin] 150 (0,0))/\wx.grownBy wy none);case first=>
    go_region;go_wp2_with fail;go_meet;exact⟨_,rfl,aI _,aH wx _,aP (aC _ _ _)⟩
   case rest=>
   rename World=>W4
   obtain⟨Q,rfl,hQ,l,g4⟩:=hcut;refine qd λy=>?_
   clear e0 e1 e2 e4 e5 gf q2 q6;replace hQ:=J hQ;have b0:∀W,W4.grownBy W none->W.cell? ⟨Q,0,none⟩=some (.int .i64 st)/\W.cell? ⟨Q,1,none⟩=some (.int .i64 off)/\W.cell? ⟨Q,2,none⟩=some (.int .i64 ((off:Int)+(D.size:Int)))/\W.cell? ⟨Q,3,none⟩=some (.bool fin):=λW gW=>by
    have:=bf l gW;simp[World.cell?,this]
   have a2:=Z bS W4 (aj gx g4);unfold kX at a2;simp only[Int.natCast_add]at a2;have dE:Hid (v.ownBlock≠some Q):=J (λe=>by
    have:=(dM ((Z kg).gb gx).pk.at_.parts Q e).lt;have:=Z hQ;omega)
   have K4:=((Z kg).gb gx).gb g4;have gg:Hid (∀W,W4.grownBy W none->W.rangeAt Q 0 [.int .i64 st,.int .i64 off,.int .i64 ((off:Int)+(D.size:Int)),.bool fin]):=J (λW gW j u hj=>by
    have:=bf l gW;rw[dv,aU this];rw[<-od]at hj;exact hj)
   have dG:=J (Z gg W4 (av _ _));have gh:=J Dk;replace b0:=J b0;replace a2:=J a2;replace K4:=J K4;replace l:=J l;clear kg bS;refine y ?_;clear y;go_upto_region 20 with fail;go_cut [15]from 164 to 166 (λv wz=>∃C,v=.bool C/\(C=true↔(V.o st).pY ⟨st,off,off+D.size,fin⟩)/\W4.grownBy wz none);case first=>
    go_wp2_with (first|(refine wpList_load_mid (by rfl) 150 _ (by rfl) Q 0 (by rfl) [.int .i64 st,.int .i64 off,.int .i64 ((off:Int)+(D.size:Int)),.bool fin] _ (Z dG) underlying150 (by rfl) (Z gh) ?_)|(go_at_call 57;refine(Z a2).mono ?_;rintro e X⟨C,rfl,b3,Y⟩));go_meet;exact⟨C,rfl,b3,Y⟩
   case rest=>
   rename World=>X
   obtain⟨C,rfl,b3,Y⟩:=hcut;clear a2 dG;refine qd λy=>?_
   have K5:=(Z K4).gb Y;have b4:=Z ax C b3;obtain⟨y0,y1,y2,y3⟩:=Z b0 X Y;clear ax b3 K4 b0;have gB:Q<X.heap.size:=by have:=(aO.1 (Z l)).1;have:=Y.size;omega
   have gU:P<X.heap.size:=K5.pk.at_.ty.lt;obtain⟨⟨-,p1,-,-,-⟩,-⟩:=K5.pk.at_.c;obtain⟨gi,gj,bb,-⟩:=ix K5.pk.at_.parts;obtain⟨a7,n7,c7,w7,r,u1,u2,KE,ee⟩:=K5.app cw ⟨st,off,off+D.size,fin⟩ db rfl;have gn:Q≠P:=λe=>by
    have cj:=bf (Z l) Y;have:=K5.pk.at_.ty;rw[<-e]at this;exact(show Ty X Q 150 from⟨_,_,cj⟩).ne this (by decide) rfl
   have gX:Hid (w7.rangeAt Q 0 [.int .i64 st,.int .i64 off,.int .i64 ((off:Int)+(D.size:Int)),.bool fin]):=J (by
    have cj:=bf (Z l) Y;intro j x hj;rw[dv,aU (ee Q _ gn (Z dE) cj)];rw[<-od]at hj;exact hj)
   rw[<-Z a0]at KE;unfold kX at r;simp only[Int.natCast_add]at r;obtain⟨vn,ei⟩:=exq (((a.take i).map dS).length);replace bb:v=.slice gi vn gj:=by rw[ei];exact bb
   replace p1:X.cell? ⟨P,1,none⟩=some v:=p1;rw[bb]at p1 r u1;replace r:=J r;replace KE:=J KE;replace bb:=J bb;replace b4:=J b4;replace l:=J l;clear K5 ei db ee dE;have gq:Hid (decide (i+1=0)=false):=J (bB (by omega));have hE:Hid ((∃(bj:Nat)(ej:Bool)(v:Value),bj<=a.length/\Value.int .i64 ((i:Int)+1)=.int .i64 (bj:Int)/\Value.bool (u||C)=.bool ej/\(ej=true↔∃f∈a.take bj,(V.o f.stream.toNat).pY (dS f))/\kY w sb V P (.slice (some ⟨g,0,none⟩) d A) af v ((a.take bj).map dS) (decide (bj=0)) (w7.setCell ⟨P,1,none⟩ (.slice a7 n7 c7)))/\a.length-(intOf (.int .i64 ((i:Int)+1))).toNat<a.length-(intOf (.int .i64 (i:Int))).toNat):=J ⟨⟨i+1,u||C,.slice a7 n7 c7,by omega,rfl,rfl,Z b4,by rw[Z gq];exact Z KE⟩,by simp[intOf];omega⟩;clear b4;refine y ?_;clear y;go_upto_region 21 with fail;go_cut [11]from 167 to 170 (λv wx=>v=.bool (u||C)/\wx=X);case first=>
    go_wp2_with fail;all_goals go_meet
    all_goals refine⟨?_,rfl⟩
    all_goals first
     |(rw[show u=true by with_reducible assumption];rfl)
     |(rw[show u=false by with_reducible assumption];rfl)
     |(rw[show u=false from Bool.eq_false_iff.2 (by with_reducible assumption)];rfl)
   case rest=>
   rename World=>wx
   obtain⟨rfl,ek⟩:=hcut;rw[ek];clear ek;generalize (u||C)=uu at *;go_upto_region 22 with fail;go_region_law ((refine xt (by rfl) 194 194 (by rfl) _ _ (by rfl) _ _ _ (by rfl) (by rfl) (Z r) ?_));all_goals go_wp2_with fail
   all_goals exact Z hE
  have d1:decide ((i:Int)<(d:Int))=false:=bB (by have:=Z al;omega);have g0:¬(i<d):=by have:=Z al;omega
  have b5:i=a.length:=by omega
  have gu:u=true:=hu.2 (by rw[b5,lh];exact Z f7);have K:kY w sb V P (.slice E d A) af v (a.map dS) false wr:=by
   have e:decide (i=0)=false:=bB (by omega);rw[b5,lh]at K;rw[<-b5,e]at K;exact K
  subst gu;clear hu b5;obtain⟨⟨-,-,-,-,eo,-,-,-⟩,-⟩:=K.T.at_.c;rw[Z hv]at eo;obtain⟨a7,n7,c7,w7,r,u1,u2,gw,T8⟩:=K.pk.join K.T (Z H) e6 rfl;rw[Z hv]at r u1;obtain⟨w8,cp⟩:=exq (w7.setCell ⟨sb,20,none⟩ (.slice a7 n7 c7));rw[<-cp]at T8;have br:aw V.p V.n ⟨V.now,a.map dS,false,false,false⟩ V.n=⟨V.now,a.map dS,false,false,false⟩:=bm _ _ _;have hB:=(Z hV).tr (Z hC);have ep:=ys w8 sb _ T8.at_ T8.laid V.n (Nat.lt_succ_self _) 1 (.inl rfl) (λq B=>by
   have B:q∈(aw V.p V.n ⟨V.now,a.map dS,false,false,false⟩ V.n).parts:=B;rw[br]at B;obtain⟨f,hf,rfl⟩:=fh.1 B;obtain⟨-,⟨z,M⟩,h3,h4⟩:=Z f4 f hf;exact⟨by show f.stream.toNat<4;omega,by show f.offset.toNat<=f.offset.toNat+f.data.size;omega,by show f.offset.toNat+f.data.size<=(V.o f.stream.toNat).n;omega⟩) ⟨hB.n,hB.fl,hB.on⟩ (by
   show(aw V.p V.n ⟨V.now,a.map dS,false,false,false⟩ V.n).parts.length<=1000000;rw[br];show(a.map dS).length<=1000000;rw[dY];omega)
  have cv:Calls prog 88 #[.pointer (some ⟨sb,0,none⟩),.pointer (some ⟨P,0,none⟩),.int .i64 1] w8 λe m=>e=.returned (.tuple #[])/\m.cell? ⟨P,2,none⟩=some (.bool false)/\aY w sb V (ts V ⟨V.now,a.map dS,false,false,false⟩ (aw V.pl V.n (P,v)) (.slice a7 n7 c7) gw) m:=by
   have e1:(aw V.pl V.n (P,v) V.n).1=P:=by rw[bm]
   have ew:=ep;simp only[br,e1]at ew;refine ew.mono ?_;rintro e w9⟨rfl,T9⟩;have ey:=T8.trans T9;have B:=(ey.at_.pk V.n (Nat.lt_succ_self _)).c.1.2.2.1;simp only[br,e1]at B;refine⟨rfl,B,?_⟩
   rw[<-N8 (Z hC) ⟨V.now,a.map dS,false,false,false⟩ rfl];exact ey
  replace r:=J r;replace cv:=J cv;replace T8:=J T8;replace K:=J K;clear ep hB br fP bx;go_upto_region 24 with(at_builtin;refine oR (by rfl) 61 61 (by rfl) _ _ (by rfl) _ _ _ (by rfl) (by rfl) (Z r) ?_)
  rw[<-cp];clear cp r u1 u2 eo;go_wp2_with (go_at_call 88;refine(Z cv).mono ?_;rintro e w9⟨rfl,g1,T9⟩;replace T9:=J T9);go_ret;exact⟨rfl,_,_,_,Z T9⟩
