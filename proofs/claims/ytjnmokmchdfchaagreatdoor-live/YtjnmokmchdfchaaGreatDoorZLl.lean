import Derived.Test.YtjnmokmchdfchaaGreatDoorZLk
set_option maxRecDepth 1000000
set_option maxHeartbeats 0
set_option linter.all false
namespace Go.Proofs.YtjnmokmchdfchaaGreatDoor
open Go.RowKit Tryz
open Go.Value renaming int→ι,slice→σ,bool→β,pointer→π,agg→ε,string→ς,tuple→τ
open Go.IntKind renaming i64→δ,u64→η,u8→Δ
open Go.Ending renaming returned→ξ
open Go.Obj renaming cells→ο
open Or renaming inl→φ,inr→ψ
open Option renaming some→μ,none→ν
open Bool renaming true→ρ,false→θ
open Go renaming World→ω,Value→υ
open Go.World renaming grownBy→γ,cell?→κ,frozen?→χ,setCell→ζ
attribute[local go_sem↓]Go.wp_at_zero Go.wp_at_succ
variable{B:Bool}{I:Fr}{p q r t:Int}{E:It}{K L:List Int}{Y:List Rg}{b i k l m n:Nat}{P S:Nat->Prop}{a:Option Addr}{G:Ot}{s:Sd}{T:TypeId}{x y z:υ}{V W w:ω}{X:an}
def yu(x:Pz)(k:Nat):(x.load k).o={x.s.out k with av:=(x.load k).o.av}:=yk k (x.s.aj-16) ((x.s.aj-16).toNat+1) ⟨x.s.out k,x.d,[],[]⟩
def EX(x:Pz)(k:Nat):(x.load k).d=(x.load k).ps.foldl Du.leave x.d:=by
 obtain⟨l,a,b⟩:=Ay k (x.s.aj-16) ((x.s.aj-16).toNat+1) ⟨x.s.out k,x.d,[],[]⟩;change (x.load k).ps=[]++l at a;change (x.load k).d=l.foldl Du.leave x.d at b;rw[a,b];rfl
def PD{x:Pz}(h:x.d=x.s.due k):(x.gp k).d=(x.gp k).s.due k:=by
 show(x.load k).d=_;rw[EX,h];unfold Sd.due Pz.gp;simp only[aR]
 rw[wF,List.foldl_append,yu];simp only[rI,List.flatMap_nil,dC,mW]
 rfl
def PE{x:Pz}(h:x.d=x.s.due k)(h0:(x.load k).ps.length=0):(x.stay k).d=x.d/\(x.stay k).s.due k=x.s.due k:=by
 have e:(x.load k).ps=[]:=kJ h0;refine⟨?_,?_⟩
 show(x.load k).d=x.d;rw[EX,e];rfl;unfold Sd.due Pz.stay;simp only[aR]
 rw[yu];rfl
structure PF(k:Nat)(x z:Pz)(new:List Pk):Prop where
 aw:z.s.aw=x.s.aw++new
 pk:∀y∈new,y.tick=x.s.tick/\y.st=(k:Int)/\x.s.count<=y.num/\y.num<z.s.count
 ba:z.s.count=x.s.count+new.length
 due:z.d=z.s.due k
 ph:z.d.ph (x.s.out k)+5*(new.length:Int)<=x.d.ph (x.s.out k)
 tick:z.s.tick=x.s.tick
 out:∀j,j≠k->z.s.out j=x.s.out j
 o:∃y,z.s.out k={x.s.out k with av:=y}
def PG{s0:Sd}(e:k<4)(n:64<=s0.aj/\s0.aj<=300)(f:0<=(s0.out k).h.fr)(g:(s0.out k).en<=4096):∀(m:Nat)(x:Pz),ma s0 k x->x.d=x.s.due k->
 ∃new,PF k x (ik k m x) new/\(10<=(ik k m x).s.aw.length\/m+x.s.aw.length<=10\/(ik k m x).d.jt (x.s.out k)):=by
 intro m;induction m with
 |zero=>intro x h hd;exact⟨[],⟨by simp[ik],λy a=>(by cases a),by simp[ik],hd,by simp[ik],rfl,λj _=>rfl,⟨_,rfl⟩⟩,ψ (φ (by have:=h.fl;omega))⟩
 |succ m p=>
  intro x h hd;obtain⟨r,t⟩:=PC e n f g h (by rw[hd];exact PB _ _);unfold ik;split;rename_i l;exact⟨[],⟨by simp,λy a=>(by cases a),by simp,hd,by simp,rfl,λj _=>rfl,⟨_,rfl⟩⟩,φ l⟩
  rename_i l;split;rename_i h0;obtain⟨e1,e2⟩:=PE hd h0;refine⟨[],⟨by simp[Pz.stay],λy a=>(by cases a),by simp[Pz.stay],by rw[e1,e2];exact hd,by rw[e1];simp,rfl,λj b=>?_,⟨(x.load k).o.av,?_⟩⟩,ψ (ψ (by rw[e1];exact r h0))⟩
  show ah x.s.out k (x.load k).o j=x.s.out j;rw[aX _ _ b];show ah x.s.out k (x.load k).o k=_;rw[aR];exact yu x k;rename_i h0;have hP:=h.gp e (by omega) f g (by omega);obtain⟨new,L,i⟩:=p (x.gp k) hP (PD hd);have c:(x.gp k).s.out k={x.s.out k with av:=(x.load k).o.av}:=by
   show ah x.s.out k (x.load k).o k=_;rw[aR];exact yu x k
  have v:=t h0;have ec:(x.gp k).s.count=x.s.count+1:=rfl;have ef:(x.gp k).s.aw=x.s.aw++[⟨x.s.count,x.s.tick,k,(x.load k).ps⟩]:=rfl;have u:=L.ba;rw[ec]at u;refine⟨⟨x.s.count,x.s.tick,k,(x.load k).ps⟩::new,⟨?_,λy a=>?_,?_,L.due,?_,L.tick,λj b=>?_,?_⟩,?_⟩
  rw[L.aw,ef];simp;obtain q|q:=dY.1 a
  subst q;exact⟨rfl,rfl,cE _,by show x.s.count<_;omega⟩
  have:=L.pk y q;rw[ec]at this;exact⟨this.1,this.2.1,by omega,this.2.2.2⟩
  rw[cS];push_cast;omega;have q:=L.ph;rw[c]at q;have w:(ik k m (x.gp k)).d.ph (x.s.out k)+5*(new.length:Int)<=(x.load k).d.ph (x.s.out k):=q;rw[cS];push_cast;omega;rw[L.out j b];show ah x.s.out k (x.load k).o j=x.s.out j;rw[aX _ _ b];obtain⟨y,a⟩:=L.o;exact⟨y,by rw[a,c]⟩
  obtain q|q|q:=i
  exact φ q;refine ψ (φ ?_);rw[ef,bF,wB]at q;omega;rw[c]at q;exact ψ (ψ q)
def jb(s:Sd)(k:Nat):Int:=(s.due k).ph (s.out k)
def eW(s:Sd):Int:=jb s 0+jb s 1+jb s 2+jb s 3
def PH{a:Sd}{new:List Pk}(b:a.aw=s.aw++new)(ho:a.out k=s.out k)(c:∀y∈new,y.st≠(k:Int)):a.due k=s.due k:=by
 unfold Sd.due;rw[b,ho,wF];have:new.flatMap (λ(x:Pk)=>if x.st=(k:Int)then x.ps else[])=[]:=by
  rw[List.flatMap_eq_nil_iff];intro x d;rw[aB (c x d)]
 rw[this,mW]
structure yv(s a:Sd)(new:List Pk):Prop where
 aw:a.aw=s.aw++new
 pk:∀y∈new,y.tick=s.tick/\s.count<=y.num/\y.num<a.count/\0<=y.st/\y.st<4
 tick:a.tick=s.tick
 ba:s.count<=a.count
 ph:eW a+5*(new.length:Int)<=eW s
 oo:∀k,∃y,a.out k={s.out k with av:=y}
def PI(hs:bO s n)(C:n<=100001)(l:k<4):∃new,yv s (s.pieces k).s new/\(∀j,j≠k->(s.pieces k).s.due j=s.due j/\(s.pieces k).s.out j=s.out j)/\(10<=(s.pieces k).s.aw.length\/((s.pieces k).s.due k).jt ((s.pieces k).s.out k)):=by
 have r:=hs.ba;have t:=hs.tR;obtain⟨D,E,u⟩:=t.p0 k l ⟨r.1,by omega⟩ (s.aw.map (λx=>(x,Value.slice ν 0 0))) (by rw[pV];show _=List.map id _;rw[rK]);have ho:=hs.yn l;have v:=hs.fl;have w:=hs.aj;have A:ma s k ⟨s,s.due k,[]⟩:=⟨rfl,rfl,rfl,rfl,rfl,ho.av,u,by simp only;omega,v,by simp only;omega,by simp⟩
 obtain⟨new,L,i⟩:=PG l w ho.nice.1 ho.en 11 ⟨s,s.due k,[]⟩ A rfl;obtain⟨y,m⟩:=L.o;have g:∀j,j≠k->(s.pieces k).s.due j=s.due j/\(s.pieces k).s.out j=s.out j:=λj h=>by
  have e:=L.out j h;exact⟨PH (a:=(s.pieces k).s) L.aw e (λz p=>by rw[(L.pk z p).2.1];omega),e⟩
 have G:jb (s.pieces k).s k+5*(new.length:Int)<=jb s k:=by
  have q:=L.ph;unfold jb;have e1:(s.pieces k).s.out k={s.out k with av:=y}:=m;have e2:(s.pieces k).s.due k=(s.pieces k).d:=L.due.symm;rw[e1,e2];exact q
 have f:∀j,j≠k->jb (s.pieces k).s j=jb s j:=λj h=>by unfold jb;rw[(g j h).1,(g j h).2]
 refine⟨new,⟨L.aw,λz p=>?_,L.tick,?_,?_,λj=>?_⟩,g,?_⟩
 obtain⟨a,b,c,d⟩:=L.pk z p;exact⟨a,c,d,by omega,by omega⟩
 have:=L.ba;show s.count<=(ik k 11 ⟨s,s.due k,[]⟩).s.count;rw[this];simp only;omega;unfold eW;have B:k=0\/k=1\/k=2\/k=3:=by omega
 obtain e|e|e|e:=B<;>subst e
 rw[f 1 (by omega),f 2 (by omega),f 3 (by omega)];omega;rw[f 0 (by omega),f 2 (by omega),f 3 (by omega)];omega;rw[f 0 (by omega),f 1 (by omega),f 3 (by omega)];omega;rw[f 0 (by omega),f 1 (by omega),f 2 (by omega)];omega;by_cases e:j=k;subst e;exact⟨y,m⟩
 exact⟨(s.out j).av,by rw[(g j e).2]⟩
 obtain q|q|q:=i
 exact φ q;left;simp only at q;by_cases e:10<=s.aw.length;have:s.pieces k=⟨s,s.due k,[]⟩:=by unfold Sd.pieces ik;rw[aG e]
 rw[this];exact e;omega;right;have e1:(s.pieces k).s.out k={s.out k with av:=y}:=m;have e2:(s.pieces k).s.due k=(s.pieces k).d:=L.due.symm;rw[e1,e2];exact q
def PJ(hs:bO s n)(m:n<=100000):∀k,k<=4->∃new,yv s (bY s k).1 new/\(10<=(bY s k).1.aw.length\/∀j,j<k->((bY s k).1.due j).jt ((bY s k).1.out j)):=by
 intro k;induction k with
 |zero=>
  intro _;obtain⟨c,e,p,-,-⟩:=vF s;refine⟨[],⟨?_,λy g=>(by cases g),?_,?_,?_,λk=>⟨(s.out k).av,?_⟩⟩,ψ (λj r=>by omega)⟩
  all_goals show _;first|(show s.eY.s.aw=_;rw[e];simp)|(show s.eY.s.tick=_;rw[e])|(show s.count<=s.eY.s.count;rw[e];exact p)|(show eW s.eY.s+_<=_;rw[e];simp;exact cE _)|(show s.eY.s.out k=_;rw[e])
 |succ k t=>
  intro B;obtain⟨new,L,i⟩:=t (by omega);obtain⟨o1,-⟩:=vH hs m k (by omega);obtain⟨u,f,l,v⟩:=PI o1 (by omega) (show k<4 by omega);have e:(bY s (k+1)).1=((bY s k).1.pieces k).s:=rfl;rw[e];have c1:=L.ba;have c2:=f.ba;refine⟨new++u,⟨by rw[f.aw,L.aw,fm],λy g=>?_,f.tick.trans L.tick,by omega,?_,λj=>?_⟩,?_⟩
  obtain q|q:=bL.1 g
  obtain⟨a,b,c,d⟩:=L.pk y q;exact⟨a,b,by omega,d⟩
  obtain⟨a,b,c,d⟩:=f.pk y q;exact⟨a.trans L.tick,by omega,c,d⟩
  have:=L.ph;have:=f.ph;rw[bF];push_cast;omega;obtain⟨C,w⟩:=L.oo j;obtain⟨x,A⟩:=f.oo j;exact⟨x,by rw[A,w]⟩
  obtain q|q:=i
  left;rw[f.aw,bF];omega;obtain z|z:=v
  exact φ z;refine ψ (λj r=>?_);by_cases h:j=k;subst h;exact z;rw[(l j h).1,(l j h).2];exact q j (by omega)
open Classical in
noncomputable def mQ(P:Nat->Prop):Nat->Nat
 |0=>0
 |n+1=>mQ P n+if P n then 1 else 0
def EY{P Q:Nat->Prop}:∀n,(∀m,m<n->P m->Q m)->mQ P n<=mQ Q n:=by
 intro n;induction n with
 |zero=>intro _;exact aP _
 |succ n a=>
  intro h;have b:=a (λm c=>h m (by omega));unfold mQ;by_cases p:P n;rw[aG p,aG (h n (by omega) p)];omega;rw[aB p];split<;>omega
def PK{P Q:Nat->Prop}:∀n,(∀m,m<n->¬(P m/\Q m))->mQ (λm=>P m\/Q m) n=mQ P n+mQ Q n:=by
 intro n;induction n with
 |zero=>intro _;rfl
 |succ n a=>
  intro h;have b:=a (λm d=>h m (by omega));have c:=h n (by omega);unfold mQ;rw[b];by_cases p:P n;have q:¬Q n:=λq=>c ⟨p,q⟩
  rw[aG (Or.inl p),aG p,aB q];omega;by_cases q:Q n;rw[aG (Or.inr q),aB p,aG q];omega;rw[aB (λz=>z.elim p q),aB p,aB q];omega
def EZ(a b:Nat):∀n,mQ (λm=>a<=m/\m<b) n=min n b-a:=by
 intro n;induction n with
 |zero=>show 0=_;omega
 |succ n c=>
  unfold mQ;rw[c];by_cases p:a<=n/\n<b;rw[aG p];omega;rw[aB p];omega
def E0{N:Nat}{l:List Rg}:aU l->(∀m,Sm l m->0<=m/\m<N)->kZ l=mQ (λm=>Sm l (m:Int)) N:=by
 induction l with
 |nil=>
  intro _ _;have:mQ (λm=>Sm [] (m:Int)) N=0:=by
   have:=EY (P:=λm=>Sm [] (m:Int)) (Q:=λm=>0<=m/\m<0) N (λm _ q=>absurd q (fP _));rw[EZ]at this;omega
  rw[this];rfl
 |cons r t c=>
  intro h a;have d:aU t:=⟨(kK.1 h.1).2,λx b=>h.2 x (by simp[b])⟩
  have i:=c d (λm f=>a m ((dH r t m).2 (ψ f)));have g:=h.2 r (by simp);have h0:=a r.lo ((dH r t _).2 (φ ⟨cE _,g⟩));have j:=a (r.hi-1) ((dH r t _).2 (φ ⟨by omega,by omega⟩));have e:kZ (r::t)=r.hi-r.lo+kZ t:=rfl;have e2:mQ (λm=>Sm (r::t) (m:Int)) N=mQ (λm=>(r.lo.toNat<=m/\m<r.hi.toNat)\/Sm t (m:Int)) N:=by
   have:(λm:Nat=>Sm (r::t) (m:Int))=(λm:Nat=>(r.lo.toNat<=m/\m<r.hi.toNat)\/Sm t (m:Int)):=by
    funext m;rw[dH];have:(r.lo<=(m:Int)/\(m:Int)<r.hi)↔(r.lo.toNat<=m/\m<r.hi.toNat):=by omega
    rw[this]
   rw[this]
  rw[e2,PK N (λm _ q=>by
   obtain⟨k,x,b,n⟩:=q;have:=(kK.1 h.1).1 x b;omega),EZ,e,i]
  push_cast;omega
def E1{l a:List Rg}{N:Nat}(h:aU l)(c:aU a)(b:∀m,Sm l m->0<=m/\m<N)(hs:∀m,Sm a m->Sm l m):kZ a<=kZ l:=by
 rw[E0 h b,E0 c (λm q=>b m (hs m q))];have:=EY (P:=λm=>Sm a (m:Int)) (Q:=λm=>Sm l (m:Int)) N (λm _ q=>hs m q);omega
structure Du.le(G:Bool)(a d:Du):Prop where
 l:G=θ->∀m,Sm a.l m->Sm d.l m
 e:a.e=ρ->d.e=ρ
 g:a.g=ρ->d.g=ρ
def Du.le.wt{o b:Ot}{d a:Du}(h:Du.le o.sG a d)(c:b.sG=o.sG)(hd:fv o d)(f:fv b a)(j:0<=o.h.fr)(k:o.en<=4096):a.wt b<=d.wt o:=by
 unfold Du.wt;rw[c];cases i:o.sG;have hl:=E1 (N:=4097) hd.1 f.1 (λm q=>by have:=hd.2 m q;omega) (h.l i);simp only[eN,eA]
 cases q:a.e with
 |false=>simp only[eN,eA];split<;>omega
 |true=>rw[h.e q];simp only[dC];omega
 simp only[dC]
 cases q:a.g with
 |false=>simp only[eN,eA];split<;>omega
 |true=>rw[h.g q];simp only[dC];omega
def Du.le.ph{o a:Ot}{d b:Du}(h:Du.le o.sG b d)(c:a.sG=o.sG)(hd:fv o d)(e:fv a b)(f:0<=o.h.fr)(g:o.en<=4096):b.ph a<=d.ph o:=by
 have:=h.wt c hd e f g;have:=(Du.vI hd).1;unfold Du.ph;split;rw[iP_];omega;split<;>omega
def E3(ps:List Pc):∀(d:Du),(∀m,Sm (ps.foldl Du.leave d).l m↔Sm d.l m/\∀c∈ps,¬(c.x.lo<=m/\m<c.x.hi))/\((ps.foldl Du.leave d).e=ρ↔d.e=ρ/\∀c∈ps,c.e=θ)/\((ps.foldl Du.leave d).g=ρ↔d.g=ρ/\∀c∈ps,c.g=θ):=by
 induction ps with
 |nil=>intro d;exact⟨λm=>⟨λq=>⟨q,λc h=>(by cases h)⟩,λq=>q.1⟩,⟨λq=>⟨q,λc h=>(by cases h)⟩,λq=>q.1⟩,⟨λq=>⟨q,λc h=>(by cases h)⟩,λq=>q.1⟩⟩
 |cons p ps i=>
  intro d;obtain⟨j,k,n⟩:=i (d.leave p);refine⟨λm=>?_,?_,?_⟩
  rw[lD,j m];show Sm (jP d.l p.x) m/\_↔_;rw[rO];constructor;rintro⟨⟨a,b⟩,c⟩;exact⟨a,λz f=>by obtain q|q:=dY.1 f;(·subst q;exact b);exact c z q⟩
  rintro⟨a,b⟩;exact⟨⟨a,b p (by simp)⟩,λz f=>b z (by simp[f])⟩
  rw[lD,k];show(d.e&& !p.e)=ρ/\_↔_;rw[iu,qH];constructor;rintro⟨⟨a,b⟩,c⟩;exact⟨a,λz f=>by obtain q|q:=dY.1 f;(·subst q;exact b);exact c z q⟩
  rintro⟨a,b⟩;exact⟨⟨a,b p (by simp)⟩,λz f=>b z (by simp[f])⟩
  rw[lD,n];show(d.g&& !p.g)=ρ/\_↔_;rw[iu,qH];constructor;rintro⟨⟨a,b⟩,c⟩;exact⟨a,λz f=>by obtain q|q:=dY.1 f;(·subst q;exact b);exact c z q⟩
  rintro⟨a,b⟩;exact⟨⟨a,b p (by simp)⟩,λz f=>b z (by simp[f])⟩
def PU(h:aU Y)(a:∀r∈Y,p<=r.lo/\r.hi<=t):Y=[]\/(Y.length:Int)<=t-p:=by
 induction Y generalizing p with
 |nil=>exact φ rfl
 |cons r Y c=>
  right;have d:=a r (by simp);have f:=h.2 r (by simp);obtain e|e:=c (p:=r.hi) h.tail (λq b=>⟨by have:=(kK.1 h.1).1 q b;omega,(a q (by simp[b])).2⟩)
  subst e;simp;omega;simp only[cS];push_cast;omega
structure fR(z:cW):Prop where
 ok:aU z.sp
 bd:∀r∈z.l,0<=r.lo/\r.hi<4096
 fl:z.floor=0
 mo:z.aH=1073741824
def fR.len{z:cW}(h:fR z):z.l.length<=4096:=by
 have:=PU (p:=0) (t:=4096) h.ok (λr c=>by
  obtain⟨q,d,rfl⟩:=eU.1 c;have:=h.bd q d;simp only[cX]
  omega)
 have e:z.sp.length=z.l.length:=by unfold cW.sp;rw[dd]
 obtain h0|h0:=this
 rw[h0]at e;simp at e;omega;omega
def fR.new:fR ⟨[],0,1073741824⟩:=⟨aU.nil,λr a=>(by cases a),rfl,rfl⟩
def fR.E6{z:cW}(h:fR z)(c:0<=p)(b:p<=q)(d:q<4096):z.add p q={z with l:=(qv p q z.l).end_}/\(z.add p q).sp=cD z.sp ⟨p,q+1⟩:=by
 have e1:max p z.floor=p:=by rw[h.fl];omega
 have e2:=yw (Y:=z.l) b h.ok;have e:(qv p q z.l).end_.length<=z.l.length+1:=by
  have:=uM (z.l.map cX) ⟨p,q+1⟩;rw[<-e2,dd,dd]at this;exact this
 have a:z.add p q={z with l:=(qv p q z.l).end_}:=by
  unfold cW.add cW.put;rw[e1,iN_,aB (by rw[h.mo];have:=h.len;omega)]
 exact⟨a,by rw[a];exact e2⟩
def fR.add{z:cW}(h:fR z)(f:0<=p)(g:p<=t)(i:t<4096):fR (z.add p t):=by
 obtain⟨e1,e2⟩:=h.E6 f g i;refine⟨by rw[e2];exact lV _ h.ok,λr j=>?_,by rw[e1];exact h.fl,by rw[e1];exact h.mo⟩
 have a:cX r∈(z.add p t).sp:=eU.2 ⟨r,j,rfl⟩;have k:aU (z.add p t).sp:=by rw[e2];exact lV _ h.ok
 have hp:=k.2 _ a;have d:∀n,Sm (z.add p t).sp n->0<=n/\n<4096:=λn e=>by
  rw[e2,iK _ h.ok]at e;obtain⟨q,l,b,c⟩|⟨b,c⟩:=e
  obtain⟨m,s,rfl⟩:=eU.1 l;have:=h.bd m s;simp only[cX]at b c;omega;simp only at b c;omega
 simp only[cX]at hp;have u:=d r.lo ⟨_,a,by simp only[cX];omega,by simp only[cX];omega⟩;have v:=d r.hi ⟨_,a,by simp only[cX];omega,by simp only[cX];omega⟩;omega
def pL(o:Nat->da)(f:Fr):Nat->da:=if f.kind=5/\0<f.data.size then ah o f.stream.toNat {o f.stream.toNat with af:=(o f.stream.toNat).af.add f.offset (f.offset+f.data.size-1)}else o
def oS(l:List Rg)(o:Nat->da)(x:Int×List Fr):Nat->da:=if bp l x.1 then x.2.foldl pL o else o
def an.lP(s:an)(l:List Rg):an:={s with outs:=s.av.foldl (oS l) s.outs}
def ry(f:Fr):Prop:=f.kind=5->0<f.data.size->0<=f.stream/\f.stream<4/\0<=f.offset/\f.offset+f.data.size<=4096
def vJ(s:an):Prop:=∀x∈s.av,∀f∈x.2,ry f
def E7{o:Nat->da}(h:∀k,k<4->fR (o k).af)(c:ry I):∀k,k<4->fR (pL o I k).af:=by
 intro k a;unfold pL;split;rename_i b;obtain⟨e,f,d,g⟩:=c b.1 b.2;unfold ah;split;exact(h _ (by omega)).add d (by omega) (by omega);exact h k a;exact h k a
def PV{q:List Fr}(a:∀f∈q,ry f){o:Nat->da}(h:∀k,k<4->fR (o k).af):∀k,k<4->fR (q.foldl pL o k).af:=by
 induction q generalizing o with
 |nil=>exact h
 |cons f q b=>
  rw[lD];exact b (λg c=>a g (by simp[c])) (E7 h (a f (by simp)))
def E8{x:Int×List Fr}(a:∀f∈x.2,ry f){o:Nat->da}(h:∀k,k<4->fR (o k).af):∀k,k<4->fR (oS Y o x k).af:=by
 unfold oS;split;exact PV a h;exact h
def AD(l:List Fr)(j:Nat):Fr:=l.getD j ⟨0,0,0,0,θ,⟨#[]⟩,[]⟩
def aL.reset(i:aL)(f:Fr):aL:={i with ended:=ρ,end_:=f.offset,code:=if i.given then i.code else f.code,given:=ρ}
def aL.vK(i:aL)(f:Fr):Bool:=(i.ended&&(i.end_ !=f.offset))||decide (f.offset<i.high)
def an.take(s:an)(f:Fr):Int×an:=
 if f.kind=3 then(if s.next<=(ao f.ranges 0).hi then(8,s)else(0,s.lP f.ranges))
 else if f.kind=4 then(if(s.ins f.stream.toNat).vK f then(7,s)else(0,{s with ins:=ah s.ins f.stream.toNat ((s.ins f.stream.toNat).reset f)}))
 else if f.kind=5 then(((s.ins f.stream.toNat).bytes f).1,{s with ins:=ah s.ins f.stream.toNat ((s.ins f.stream.toNat).bytes f).2})
 else if f.kind=6 then(10,s)
 else(0,s)
structure E9(o:da)(f:Fr):Prop where
 gv:o.given=θ
 off:0<=f.offset
 en:aT f<=o.data.size
 nw:o.data.extract f.offset.toNat (aT f).toNat=f.data
 fin:f.fin=(o.finished&&decide (aT f=o.data.size))
 ne:f.data.size=0->f.fin=ρ
 sz:o.data.size<=4096
def da.sk(o:da)(f:Fr):da:={o with high:=max o.high (aT f)}
def vL(l:List Rg)(r:Rg):Bool:=l.any (λq=>decide (q.lo<=r.lo)&&decide (r.hi<=q.hi))
def an.told(s:an)(l:List Rg)(n:Int):Bool:=decide (n<s.dN.floor)||bp l n
def an.bT(s:an)(f:Fr):an:={s with due:=s.due.filter (λn=> !s.told f.ranges n)}
def an.fH(s:an)(f:Fr):Bool:=decide (f.kind=5)&&(decide ((s.ins f.stream.toNat).state≠2)&&(!(s.ins f.stream.toNat).given&&decide ((s.ins f.stream.toNat).read+s.ag<aT f)))
def an.AE(s:an)(f:Fr)(n:Int):Bool:=kz f&&(decide (s.due.length=0)||(s.due.getD (s.due.length-1) 0 !=n))
def an.note(s:an)(f:Fr)(n:Int):an:=if s.AE f n then{s with due:=s.due++[n]}else s
def an.fail(s:an)(e:Int):an:={s with closed:=e,code:=e,said:=decide (e=10)}
def an.fI(n:Int):List Fr->an->Int×an
 |[],s=>(0,s)
 |f::t,s=>if(s.take f).1=0 then an.fI n t ((s.take f).2.note f n)else((s.take f).1,(s.take f).2.fail (s.take f).1)
def an.mark(s:an)(n:Int):an:={s with dN:=s.dN.add n n,bG:=s.bG.add n n}
noncomputable def an.qw(s:an)(n:Int)(b:List Int):Int×Int×an:=
 match fu b with
  |(ν,q)=>(5,q,{s with closed:=5,code:=5})
  |(μ a,_)=>
   if a.any s.fH then(6,-1,s)
   else((an.fI n a (s.mark n)).1,-1,(an.fI n a (s.mark n)).2)
noncomputable def an.fx(s:an)(p:List Int):Int×Int×an:=
 if s.closed≠0 then(9,-1,s)
 else if¬eH s.key (1-s.me) p then(4,-1,s)
 else if s.dN.has (bm p)then(0,-1,s)
 else s.qw (bm p) (dJ s.key (1-s.me) (bm p) (bX p))
def gz.bytes{i:aL}(h:gz i)(ho:0<=I.offset)(d:aT I<=4611686018427387903)(hs:i.given=θ->aT I<=100000000):gz (i.bytes I).2:=by
 unfold aL.bytes;split;exact h;split;exact h;rename_i a;have a:i.given=θ:=by simpa using a
 have e:=hs a;have q:=h.dl;have f:=h.tl;have g:=h.hi;have j:=h.rd;have k:0<=aT I:=by unfold aT;omega
 obtain⟨M,b⟩:=exq ((max i.high (aT I)).toNat-i.data.length);rw[<-b];have hl:(((i.grow I).pad M).fill I I.data.size).data.length=i.data.length+M:=by
  show(lh _ _ _ _).1.length=_;rw[(Az _ _ _ _).1];simp[aL.pad,aL.grow]
 have c:(((i.grow I).pad M).fill I I.data.size).there.length=i.there.length+M:=by
  show(lh _ _ _ _).2.length=_;rw[(Az _ _ _ _).2];simp[aL.pad,aL.grow]
 refine⟨?_,?_,?_,?_,?_⟩
 rw[hl];show _=max i.high (aT I);omega;rw[hl,c];omega;show max i.high (aT I)<=_;omega;show 0<=(if I.fin then aT I else i.end_)/\(if I.fin then aT I else i.end_)<=_;split;omega;exact h.e0;show 0<=i.read/\i.read<=max i.high (aT I);omega
def gz.reset{i:aL}(h:gz i)(ho:0<=I.offset)(a:I.offset<=4611686018427387903):gz (i.reset I):=⟨h.dl,h.tl,h.hi,by show 0<=I.offset/\I.offset<=_;omega,h.rd⟩
def PY{i:aL}(h:(i.bytes I).2.given=θ):i.given=θ:=by
 unfold aL.bytes at h;split at h;exact h;split at h;exact h;exact h
structure sq(s a:an):Prop where
 aj:a.aj=s.aj
 ag:a.ag=s.ag
 key:a.key=s.key
 me:a.me=s.me
 closed:a.closed=s.closed
 code:a.code=s.code
 said:a.said=s.said
 next:a.next=s.next
 dN:a.dN=s.dN
 bG:a.bG=s.bG
 av:a.av=s.av
def yy(s:an)(f:Fr):sq s (s.take f).2/\(s.take f).2.due=s.due:=by
 unfold an.take;split;split;exact⟨⟨rfl,rfl,rfl,rfl,rfl,rfl,rfl,rfl,rfl,rfl,rfl⟩,rfl⟩
 exact⟨⟨rfl,rfl,rfl,rfl,rfl,rfl,rfl,rfl,rfl,rfl,rfl⟩,rfl⟩
 split;split;exact⟨⟨rfl,rfl,rfl,rfl,rfl,rfl,rfl,rfl,rfl,rfl,rfl⟩,rfl⟩
 exact⟨⟨rfl,rfl,rfl,rfl,rfl,rfl,rfl,rfl,rfl,rfl,rfl⟩,rfl⟩
 split;exact⟨⟨rfl,rfl,rfl,rfl,rfl,rfl,rfl,rfl,rfl,rfl,rfl⟩,rfl⟩
 split;exact⟨⟨rfl,rfl,rfl,rfl,rfl,rfl,rfl,rfl,rfl,rfl,rfl⟩,rfl⟩
 exact⟨⟨rfl,rfl,rfl,rfl,rfl,rfl,rfl,rfl,rfl,rfl,rfl⟩,rfl⟩
def Fc{q:List (Int×List Fr)}(a:∀x∈q,∀f∈x.2,ry f){o:Nat->da}(h:∀k,k<4->fR (o k).af):∀k,k<4->fR (q.foldl (oS Y) o k).af:=by
 induction q generalizing o with
 |nil=>exact h
 |cons x q b=>
  rw[lD];exact b (λy c=>a y (by simp[c])) (E8 (a x (by simp)) h)
def tS(s:an)(f:Fr)(n:Int):sq s (s.note f n)/\(s.note f n).outs=s.outs/\(s.note f n).ins=s.ins/\(s.note f n).due.length<=s.due.length+1:=by
 unfold an.note;split;exact⟨⟨rfl,rfl,rfl,rfl,rfl,rfl,rfl,rfl,rfl,rfl,rfl⟩,rfl,rfl,by simp⟩
 exact⟨⟨rfl,rfl,rfl,rfl,rfl,rfl,rfl,rfl,rfl,rfl,rfl⟩,rfl,rfl,by omega⟩
def PZ(f:Fr)(h:X.due=L\/X.due=L++[p]):(X.note f p).due=L\/(X.note f p).due=L++[p]:=by
 unfold an.note;split;rename_i a;obtain h|h:=h
 right;simp only;rw[h];exfalso;unfold an.AE at a;rw[h]at a;simp[List.getD]at a;exact h
structure yz(s:an)(b:ByteArray)(a:List Fr):Prop where
 ok:eH s.key s.me (aI b)
 len:(b.size:Int)<=s.aj
 num:bm (aI b)=s.next
 dec:fu (dJ s.key s.me (bm (aI b)) (bX (aI b)))=(μ a,-1)
 enc:bA a=dJ s.key s.me (bm (aI b)) (bX (aI b))
 T8:uV a
 T9:gN a<=30000000
 me:s.me=0\/s.me=1
 nx:0<=s.next/\s.next<=4611686018427387903
structure sr(s:an)(f:Fr):Prop where
 kind:f.kind=3\/f.kind=4\/f.kind=5
 k3:f.kind=3->∀r∈f.ranges,vL s.bG.l r=ρ
 k4:f.kind=4->0<=f.stream/\f.stream<4/\(s.outs f.stream.toNat).given=ρ/\f.offset=(s.outs f.stream.toNat).end_/\f.code=(s.outs f.stream.toNat).code
 k5:f.kind=5->0<=f.stream/\f.stream<4/\E9 (s.outs f.stream.toNat) f
def an.dS(s:an)(f:Fr):an:=if f.kind=3 then s.bT f else if f.kind=5 then{s with outs:=ah s.outs f.stream.toNat ((s.outs f.stream.toNat).sk f)}else s
def P7(s:an)(f:Fr):(s.dS f).due.length<=s.due.length/\(s.dS f).av=s.av/\(s.dS f).bG=s.bG/\(s.dS f).dN=s.dN/\(s.dS f).next=s.next:=by
 unfold an.dS;split;exact⟨oC _ _,rfl,rfl,rfl,rfl⟩
 split;exact⟨aP _,rfl,rfl,rfl,rfl⟩
 exact⟨aP _,rfl,rfl,rfl,rfl⟩
def Fe(a:List Fr):∀s:an,(a.foldl an.dS s).due.length<=s.due.length/\(a.foldl an.dS s).av=s.av/\(a.foldl an.dS s).bG=s.bG/\(a.foldl an.dS s).dN=s.dN/\(a.foldl an.dS s).next=s.next:=by
 induction a with
 |nil=>intro s;exact⟨aP _,rfl,rfl,rfl,rfl⟩
 |cons f a b=>
  intro s;obtain⟨c,d,e,g,h⟩:=b (s.dS f);obtain⟨i,j,k3,k4,k5⟩:=P7 s f;rw[lD];exact⟨bK c i,d.trans j,e.trans k3,g.trans k4,h.trans k5⟩
def an.jV(s:an)(a:List Fr):an:={a.foldl an.dS {s with next:=s.next+1}with av:=s.av++[(s.next,a)]}
structure rz(s:an)(b:ByteArray)(a:List Fr):Prop where
 op:yz s b a
 may:∀j,j<a.length->sr ((a.take j).foldl an.dS {s with next:=s.next+1}) (AD a j)
 due:s.due.length<=1000000
 av:s.av.length<=100000000
def fj(l:List ByteArray)(j:Nat):ByteArray:=l.getD j ⟨#[]⟩
def an.dX(s:an)(a:List (List Fr)):an:=a.foldl an.jV s
structure yA(s:an)(bs:List ByteArray)(a:List (List Fr)):Prop where
 len:a.length=bs.length
 each:∀j,j<bs.length->rz (s.dX (a.take j)) (fj bs j) (a.getD j [])
 due:∀n∈(s.dX a).due,n<(s.dX a).dN.floor
 cl:s.closed=0
def cW.Qa:cW:=⟨[],0,8⟩
def cW.yB:cW:=⟨[],0,1073741824⟩
def da.new:da:=⟨⟨#[]⟩,cW.yB,θ,θ,0,0,0⟩
def aL.new:aL:=⟨[],[],0,0,θ,θ,0,0,0⟩
def an.new(aj ag:Int)(key:List Int)(f:Bool):an:=⟨aj,ag,key,if f then 0 else 1,0,0,θ,0,cW.Qa,cW.yB,[],λ_=>da.new,λ_=>aL.new,[]⟩
def oT(f:Nat->Nat)(j:Nat):List υ:=(List.range j).map (λk=>π (μ ⟨f k,0,ν⟩))
def Ff(f:Nat->Nat)(j x:Nat):oT (ah f j x) (j+1)=oT f j++[π (μ ⟨x,0,ν⟩)]:=by
 unfold oT;rw[wI,mV];congr 1;apply wD;intro k a;rw[aX _ _ (by have:=List.mem_range.1 a;omega)];simp[aR]
def Qb(L cs:List Int)(off k:Nat)(h:off+cs.length<=L.length):(splice L off cs).getD k 0=if off<=k/\k<off+cs.length then cs.getD (k-off) 0 else L.getD k 0:=by
 unfold splice;simp only[List.getD]
 by_cases a:k<off;rw[iN_,mm (by rw[ct];omega),List.getElem?_take_of_lt a];have hl:(L.take off).length=off:=by rw[ct];omega
 rw[gR_,hl];by_cases b:k<off+cs.length;rw[aG ⟨by omega,b⟩,mm (by omega)];rw[iN_,gR_,lC];congr 2;omega
def Qc(fr:Int)(b:List Int)(x:Rg)(k:Nat):(nQ fr b x).getD k 0=b.getD k 0:=by
 unfold nQ;simp only[List.getD]
 by_cases h:k<b.length;rw[mm h];rw[gR_,nG (l:=b) (by omega),yR];split<;>rfl
def Qd{x:Rg}(a:p<=x.lo)(b:q<=x.lo)(c:x.lo<=x.hi)(d:x.hi<=q+L.length)(m:Int)(e:p<=m):(mE p q L K x).getD (m-p).toNat 0=if x.lo<=m/\m<x.hi then L.getD (m-q).toNat 0 else K.getD (m-p).toNat 0:=by
 unfold mE;have hl:((L.drop (x.lo-q).toNat).take (x.hi-x.lo).toNat).length=(x.hi-x.lo).toNat:=by rw[ct,dO];omega
 rw[Qb _ _ _ _ (by rw[hl,xv];omega),hl,Qc];by_cases h:x.lo<=m/\m<x.hi;rw[iP_,aG h];simp only[List.getD]
 rw[List.getElem?_take_of_lt (by omega),lC];congr 2;omega;rw[iN_,aB h]
def Qe(M:List Rg):∀(b:List Int),(∀x∈M,p<=x.lo/\q<=x.lo/\x.lo<=x.hi/\x.hi<=q+L.length)->∀m,p<=m->((Sm M m->(hb p q L M b).getD (m-p).toNat 0=L.getD (m-q).toNat 0)/\(¬Sm M m->(hb p q L M b).getD (m-p).toNat 0=b.getD (m-p).toNat 0)):=by
 induction M with
 |nil=>intro b _ m _;exact⟨λh=>absurd h (fP m),λ_=>rfl⟩
 |cons x M i=>
  intro b h m f;obtain⟨j,k,l,n⟩:=h x (by simp);have hp:=Qd (K:=b) j k l n m f;obtain⟨r,g⟩:=i (mE p q L b x) (λy s=>h y (by simp[s])) m f;have e:hb p q L (x::M) b=hb p q L M (mE p q L b x):=rfl;rw[e];by_cases a:Sm M m;exact⟨λ_=>r a,λd=>absurd ((dH x M m).2 (ψ a)) d⟩
  refine⟨λhs=>?_,λd=>?_⟩
  obtain c|c:=(dH x M m).1 hs
  rw[g a,hp,aG c];exact absurd c a;rw[g a,hp,aB (λc=>d ((dH x M m).2 (φ c)))]
def Fg{α:Type}(l:List α)(i k:Nat)(v d:α)(hi:i<l.length):(l.set i v).getD k d=if k=i then v else l.getD k d:=by
 simp only[List.getD,List.getElem?_set]
 by_cases h:i=k;subst h;rw[aG rfl,aG hi,aG rfl];rfl;rw[aB h,aB (λe=>h e.symm)]
def Fh(off:Nat)(d:List Int)(x:List Int×List Bool)(j:x.1.length=x.2.length)(n:Nat)(m:off+n<=x.2.length):∀k,(lh off d x n).2.getD k θ=(x.2.getD k θ||decide (off<=k/\k<off+n))/\(lh off d x n).1.getD k 0=if x.2.getD k θ=θ/\off<=k/\k<off+n then d.getD (k-off) 0 else x.1.getD k 0:=by
 induction n with
 |zero=>
  intro k;refine⟨?_,?_⟩
  unfold lh;simp;omega;unfold lh;rw[iN_]
 |succ n f=>
  intro k;obtain⟨g,h⟩:=f (by omega) k;obtain⟨l,p⟩:=f (by omega) (off+n);have hl:=Az off d x n;have i:(lh off d x n).2.getD (off+n) θ=x.2.getD (off+n) θ:=by rw[l,dF_,uw]
  unfold lh;split;rename_i b;rw[i]at b;refine⟨?_,?_⟩
  rw[g];by_cases a:k=off+n;subst a;rw[b];rfl;congr 1;apply decide_eq_decide.2;omega;rw[h];by_cases a:k=off+n;subst a;rw[iN_,aB (by rw[b];simp)];by_cases c:x.2.getD k θ=θ/\off<=k/\k<off+n;rw[aG c,aG ⟨c.1,c.2.1,by omega⟩];rw[aB c,aB (λe=>c ⟨e.1,e.2.1,by omega⟩)];rename_i b;rw[i]at b;simp only
  rw[Fg _ _ _ _ _ (by rw[hl.2];omega),Fg _ _ _ _ _ (by rw[hl.1,j];omega)];refine⟨?_,?_⟩
  by_cases a:k=off+n;subst a;rw[aG rfl,dT_,Bool.or_true];rw[aB a,g];congr 1;apply decide_eq_decide.2;omega;by_cases a:k=off+n;subst a;rw[aG rfl,aG ⟨by simpa using b,by omega,by omega⟩];congr 1;omega;rw[aB a,h];by_cases c:x.2.getD k θ=θ/\off<=k/\k<off+n;rw[aG c,aG ⟨c.1,c.2.1,by omega⟩];rw[aB c,aB (λe=>c ⟨e.1,e.2.1,by omega⟩)]
structure ju(i:It)(r:aL):Prop where
 ended:i.ended=r.ended
 last:i.ended=ρ->i.last=r.end_
 given:i.given=r.given
 code:i.given=ρ->i.code=r.code
 fr:i.h.fr=r.read
 high:i.given=θ->i.high=r.high
 hl:i.ended=ρ->i.high<=i.last/\r.high<=i.last
 ge:i.given=ρ->i.ended=ρ
 over:i.over=ρ↔r.state=1
 st:r.state=0\/r.state=1\/(r.state=2/\i.given=ρ)
 ov:i.over=ρ->i.ended=ρ/\i.h.fr=i.last
 th:i.given=θ->∀m:Nat,r.there.getD m θ=ρ↔Sm i.h.af m
 nw:i.given=θ->∀m:Nat,i.h.fr<=m->r.there.getD m θ=ρ->i.h.bytes.getD ((m:Int)-i.h.fr).toNat 0=r.data.getD m 0
def ju.new:ju It.new aL.new:=by
 refine⟨rfl,λh=>(by cases h),rfl,λh=>(by cases h),rfl,λ_=>rfl,λh=>(by cases h),λh=>(by cases h),?_,φ rfl,λh=>(by cases h),λ_ m=>?_,λ_ m _ h=>?_⟩
 simp[It.new,aL.new];simp[It.new,aL.new,fP];simp[aL.new]at h
def ju.bad{r:aL}(h:ju E r)(f:Fr):E.bad f=r.bad f:=by
 unfold It.bad aL.bad It.gO;rw[h.ended];by_cases a:r.ended=ρ;have hl:=h.last (h.ended.trans a);have d:=h.hl (h.ended.trans a);rw[hl]at *;rw[a];by_cases b:f.fin=ρ;rw[b];simp only[sO]
 by_cases c1:r.end_<aT f;rw[eT c1];simp;by_cases c2:aT f=r.end_;rw[fc c1,dF_,dF_];simp;have:(aT f !=r.end_)=ρ:=by simpa using c2
 rw[this];simp;have b:f.fin=θ:=by simpa using b
 rw[b];simp;have a:r.ended=θ:=by simpa using a
 rw[a];have c:E.given=θ:=by
  by_cases c:E.given=ρ;have:=h.ge c;rw[h.ended,a]at this;cases this;simpa using c
 rw[h.high c];simp
def ju.data{r:aL}(h:ju E r)(ho:iq p E)(s:gz r)(f:Fr)(h0:0<=f.offset)(w:E.bad f=θ)(U:E.given=θ->aT f<=E.h.fr+p):(r.bytes f).1=0/\ju (E.data f) (r.bytes f).2:=by
 have F:r.bad f=θ:=by rw[<-h.bad];exact w
 unfold aL.bytes;rw[F];simp only[eN,eA]
 have V:aT f=f.offset+f.data.size:=rfl;have g:=w;unfold It.bad It.gO at g;by_cases a:E.given=ρ;have n:r.given=ρ:=h.given▸a;rw[n];simp only[dC]
 have i:=h.ge a;have hl:=h.last i;rw[i]at g;simp only[sO,oD,qD,Bool.and_eq_false_iff]at g;have W:aT f<=E.last:=by omega
 have G:f.fin=ρ->aT f=E.last:=λb=>by
  obtain d|d:=g.2
  rw[b]at d;cases d;have:=d.1;simpa using this
 have t:(E.data f).last=E.last:=by
  show(if f.fin then aT f else E.last)=E.last;split;rename_i b;exact G b;rfl
 have j:(E.data f).h=E.h:=by show(if E.given then E.h else _)=E.h;rw[a];rfl
 refine⟨trivial,⟨?_,λ_=>by rw[t];exact hl,h.given,h.code,by rw[j];exact h.fr,λe=>?_,λ_=>?_,λ_=>?_,h.over,h.st,λe=>?_,λe=>?_,λe=>?_⟩⟩
 show(E.ended||f.fin)=r.ended;rw[i,<-h.ended,i];rfl;exact absurd (show E.given=θ from e) (by rw[a];simp);have:=h.hl i;rw[t];show max E.high (aT f)<=E.last/\r.high<=E.last;omega;show(E.ended||f.fin)=ρ;rw[i];rfl;have:=h.ov e;rw[t,j];exact⟨by show(E.ended||f.fin)=ρ;rw[i];rfl,this.2⟩
 exact absurd (show E.given=θ from e) (by rw[a];simp);exact absurd (show E.given=θ from e) (by rw[a];simp);have a:E.given=θ:=by simpa using a
 have n:r.given=θ:=h.given▸a;rw[n];simp only[eN,eA]
 have y:=h.high a;obtain⟨M,H⟩:=exq ((max r.high (aT f)).toNat-r.data.length);rw[<-H];have X:=s.dl;have Y:=s.tl;have q4:=s.rd;have ax:((r.grow f).pad M).there.length=r.there.length+M:=by simp[aL.pad,aL.grow]
 have aC:((r.grow f).pad M).data.length=r.data.length+M:=by simp[aL.pad,aL.grow]
 have z:∀k,((r.grow f).pad M).there.getD k θ=r.there.getD k θ:=λk=>by
  simp only[aL.pad,aL.grow,List.getD]
  by_cases u:k<r.there.length;rw[mm u];rw[gR_,nG (l:=r.there) (by omega),yR];split<;>rfl
 have I:∀k,((r.grow f).pad M).data.getD k 0=r.data.getD k 0:=λk=>by
  simp only[aL.pad,aL.grow,List.getD]
  by_cases u:k<r.data.length;rw[mm u];rw[gR_,nG (l:=r.data) (by omega),yR];split<;>rfl
 have A:=Fh f.offset.toNat (aI f.data) (((r.grow f).pad M).data,((r.grow f).pad M).there) (by simp only;omega) f.data.size (by simp only;omega);have K:∀k,(((r.grow f).pad M).fill f f.data.size).there.getD k θ=(r.there.getD k θ||decide (f.offset.toNat<=k/\k<f.offset.toNat+f.data.size)):=λk=>by
  have:=(A k).1;rw[z k]at this;exact this
 have L:∀k,(((r.grow f).pad M).fill f f.data.size).data.getD k 0=if r.there.getD k θ=θ/\f.offset.toNat<=k/\k<f.offset.toNat+f.data.size then(aI f.data).getD (k-f.offset.toNat) 0 else r.data.getD k 0:=λk=>by
  have:=(A k).2;rw[z k,I k]at this;exact this
 have j:(E.data f).h=⟨E.h.fr,hb E.h.fr f.offset (aI f.data) (iA E.h.af ⟨f.offset,aT f⟩) E.h.bytes,cD E.h.af ⟨f.offset,aT f⟩⟩:=by show(if E.given then E.h else _)=_;rw[a];rfl
 have B:∀m:Nat,(((r.grow f).pad M).fill f f.data.size).there.getD m θ=ρ↔Sm (cD E.h.af ⟨f.offset,aT f⟩) m:=λm=>by
  rw[K,wJ,mu,h.th a m,iK _ ho.ok];simp only
  constructor;rintro(e|e);exact φ e;exact ψ (by omega);rintro(e|e);exact φ e;exact ψ (by omega)
 have N:∀x∈iA E.h.af ⟨f.offset,aT f⟩,E.h.fr<=x.lo/\f.offset<=x.lo/\x.lo<=x.hi/\x.hi<=f.offset+(aI f.data).length:=λx v=>by
  have hp:=(uN E.h.af ⟨f.offset,aT f⟩).2 x v;have C:=(nP E.h.af ⟨f.offset,aT f⟩ x.lo).1 ⟨x,v,by omega,by omega⟩;have O:=(nP E.h.af ⟨f.offset,aT f⟩ (x.hi-1)).1 ⟨x,v,by omega,by omega⟩;simp only at C O;have a0:E.h.fr<=x.lo:=by
   by_cases c:E.h.fr<=x.lo;exact c;exact absurd (ho.low a x.lo (by omega) (by omega)) C.2
  rw[fN];omega
 refine⟨trivial,⟨?_,λe=>?_,a.trans n.symm,λe=>?_,by rw[j];exact h.fr,λ_=>?_,λe=>?_,λe=>?_,h.over,?_,λe=>?_,λ_ m=>by rw[j];exact B m,λ_ m q P=>?_⟩⟩
 show(E.ended||f.fin)=(r.ended||f.fin);rw[h.ended];show(if f.fin then aT f else E.last)=(if f.fin then aT f else r.end_)
 by_cases b:f.fin=ρ;rw[b];rfl;have b:f.fin=θ:=by simpa using b
 rw[b];have e2:(E.ended||f.fin)=ρ:=e;rw[b,uw]at e2;exact h.last e2;exact absurd (show E.given=ρ from e) (by rw[a];simp);show max E.high (aT f)=max r.high (aT f);rw[y];have e2:(E.ended||f.fin)=ρ:=e;show max E.high (aT f)<=(if f.fin then aT f else E.last)/\max r.high (aT f)<=(if f.fin then aT f else E.last);rw[<-y];simp only[oD,Bool.and_eq_false_iff,qD]at g;by_cases b:f.fin=ρ;rw[b];simp only[dC]
 obtain d|d:=g.2
 rw[b]at d;cases d;have:=d.2;omega;have b:f.fin=θ:=by simpa using b
 rw[b,uw]at e2;rw[b];simp only[eN,eA]
 have:=(h.hl e2).1;obtain d|d:=g.1
 rw[e2]at d;cases d;omega;exact absurd (show E.given=ρ from e) (by rw[a];simp);obtain e|e|⟨e,e2⟩:=h.st
 exact φ e;exact ψ (φ e);rw[a]at e2;cases e2;obtain⟨e1,e2⟩:=h.ov e;rw[j];refine⟨by show(E.ended||f.fin)=ρ;rw[e1];rfl,?_⟩
 show E.h.fr=(if f.fin then aT f else E.last)
 rw[e1]at g;simp only[sO,oD,qD,Bool.and_eq_false_iff]at g;split;rename_i b;obtain d|d:=g.2
 rw[b]at d;cases d;have:=d.1;have:aT f=E.last:=by simpa using this
 omega;exact e2;rw[j]at q⊢;simp only at q⊢;rw[L m];obtain⟨Q,R⟩:=Qe (iA E.h.af ⟨f.offset,aT f⟩) E.h.bytes N (m:Int) q;have hs:=(nP E.h.af ⟨f.offset,aT f⟩ (m:Int))
 simp only at hs;by_cases c:Sm E.h.af (m:Int);rw[R (λe=>(hs.1 e).2 c)];have D:=(h.th a m).2 c;rw[aB (by rw[D];simp)];exact h.nw a m q D;have S:f.offset<=(m:Int)/\(m:Int)<aT f:=by
  obtain e|e:=(iK _ ho.ok (m:Int)).1 ((B m).1 P)
  exact absurd e c;exact e
 have T:r.there.getD m θ=θ:=by
  obtain e|e:=Bool.eq_false_or_eq_true (r.there.getD m θ)
  exact absurd ((h.th a m).1 e) c;exact e
 rw[Q (hs.2 ⟨S,c⟩),aG ⟨T,by omega,by omega⟩];congr 1;omega
def ju.gO{r:aL}(h:ju E r)(f:Fr):E.gO f.offset=r.vK f:=by
 unfold It.gO aL.vK;rw[h.ended];by_cases a:r.ended=ρ;have hl:=h.last (h.ended.trans a);have g:=h.hl (h.ended.trans a);rw[hl]at *;rw[a];by_cases c2:f.offset=r.end_;rw[dF_,dF_,c2];have c:(f.offset !=r.end_)=ρ:=by simpa using c2
 have d:(r.end_ !=f.offset)=ρ:=by simpa using λe=>c2 e.symm
 rw[c,d];rfl;have a:r.ended=θ:=by simpa using a
 have b:E.given=θ:=by
  by_cases b:E.given=ρ;have:=h.ge b;rw[h.ended,a]at this;cases this;simpa using b
 rw[a,h.high b];rfl
def ju.reset{r:aL}(h:ju E r)(f:Fr)(j:E.gO f.offset=θ):ju (E.reset f) (r.reset f):=by
 have c:=j;unfold It.gO at c;simp only[oD,Bool.and_eq_false_iff,qD]at c;have d:E.ended=ρ->f.offset=E.last:=λe=>by
  obtain b|b:=c.1
  rw[e]at b;cases b;simpa using b
 have g:(E.reset f).h.fr=E.h.fr:=by
  show(if E.given then E.h else⟨E.h.fr,[],[]⟩:Hd).fr=E.h.fr;split<;>rfl
 refine⟨rfl,λ_=>rfl,rfl,λ_=>?_,by rw[g];exact h.fr,λe=>(by cases e),λ_=>?_,λ_=>rfl,h.over,?_,λe=>?_,λe=>(by cases e),λe=>(by cases e)⟩
 show(if E.given then E.code else f.code)=(if r.given then r.code else f.code)
 rw[<-h.given];split;rename_i a;exact h.code a;rfl;show E.high<=f.offset/\r.high<=f.offset;refine⟨by omega,?_⟩
 by_cases a:E.given=ρ;have i:=h.ge a;have:=(h.hl i).2;rw[d i];exact this;have a:E.given=θ:=by simpa using a
 rw[<-h.high a];omega;obtain e|e|⟨e,-⟩:=h.st
 exact φ e;exact ψ (φ e);exact ψ (ψ ⟨e,rfl⟩);obtain⟨e1,e2⟩:=h.ov e;exact⟨rfl,by rw[g];show E.h.fr=f.offset;rw[d e1];exact e2⟩
def ju.busy{r:aL}(h:ju E r)(f:Fr)(ag:Int):E.busy f ag=(decide (r.state≠2)&&(!r.given&&decide (r.read+ag<aT f))):=by
 unfold It.busy;rw[h.given,h.fr];obtain e|e|⟨e,e2⟩:=h.st
 rw[e];simp;rw[e];simp;rw[h.given]at e2;rw[e2];simp
def AF{h:Hd}(d:aU h.af)(f:∀m,0<=m->m<h.fr->Sm h.af m)(q:0<=h.fr)(hp:∀m,Sm h.af m->0<=m)(e:0<=cL h):(∀j:Int,0<=j->j<cL h->Sm h.af (h.fr+j))/\¬Sm h.af (h.fr+cL h):=by
 unfold cL at *;cases k:h.af with
 |nil=>
  simp only[fM,true_or,dC]
  exact⟨λj b g=>by omega,fP _⟩
 |cons a l=>
  rw[k]at d e f;have e0:ao (a::l) 0=a:=rfl;rw[e0]at e⊢;have i:∀m,Sm (a::l) m->a.lo<=m:=λm n=>by
   obtain b|b:=(dH a l m).1 n
   omega;have:=d.behind b;have:=d.2 a (by simp);omega
  by_cases c:0<a.lo;rw[aG (ψ c)];refine⟨λj b g=>by omega,λhs=>?_⟩
  have r:=i _ hs;have p:=f 0 (by omega) (by omega);have:=i _ p;omega;rw[aB (by simp;omega)]at e⊢;refine⟨λj b g=>(dH a l _).2 (φ (by omega)),λhs=>?_⟩
  obtain b|b:=(dH a l _).1 hs
  omega;have:=d.behind b;omega
def Qf{r:aL}(h:ju E r)(ho:iq p E)(d:gz r)(b:E.given=θ):(r.iF:Int)=cL E.h:=by
 have e:=ho.whole;obtain⟨f,g⟩:=AF ho.ok (ho.low b) ho.fr (λm i=>(ho.lK m i).1) e.1;have k:=d.rd;have l:=h.fr;have n:(r.read.toNat:Int)=E.h.fr:=by omega
 by_cases c1:(r.iF:Int)<cL E.h;exfalso;have hs:=f r.iF (by omega) c1;have a:=(h.th b (r.read.toNat+r.iF)).2 (by rw[show((r.read.toNat+r.iF:Nat):Int)=E.h.fr+r.iF by push_cast;omega];exact hs);have hl:r.read.toNat+r.iF<r.there.length:=by
  by_cases c:r.read.toNat+r.iF<r.there.length;exact c;rw[List.getD,nG (by omega)]at a;cases a
 have:=E5 r hl;rw[List.getD,this]at a;cases a;by_cases c2:cL E.h<(r.iF:Int);exfalso;have j:=E4 r (cL E.h).toNat (by omega);have a:r.there.getD (r.read.toNat+(cL E.h).toNat) θ=ρ:=by rw[List.getD,j];rfl
 have:=(h.th b _).1 a;rw[show((r.read.toNat+(cL E.h).toNat:Nat):Int)=E.h.fr+cL E.h by push_cast;omega]at this;exact g this;omega
def gz.cR{r:aL}(a:gz r)(aH:Int):gz (r.cR aH):=by
 have hs:gz r.start:=by
  unfold aL.start;split;exact⟨a.dl,a.tl,a.hi,a.e0,a.rd⟩
  exact a
 have c:=AB (p:=aH) hs;have b:gz (r.start.lq (r.start.ba aH)):=⟨hs.dl,hs.tl,hs.hi,hs.e0,by have:=hs.rd;show 0<=r.start.read+_/\r.start.read+_<=r.start.high;omega⟩
 unfold aL.cR aL.stop;split;exact⟨b.dl,b.tl,b.hi,b.e0,b.rd⟩
 exact b
def ju.read{r:aL}(h:ju E r)(ho:iq p E)(k:gz r)(aH:Int):
 r.text aH=E.out aH/\(r.cR aH).state=E.state aH/\(r.cR aH).jB=E.jB/\ju (E.read aH) (r.cR aH):=by
 have v:=ho.whole;by_cases w:E.given=ρ/\E.over=θ;obtain⟨a,b⟩:=w;have x:r.given=ρ:=h.given▸a;have y:r.state≠1:=λe=>by have:=h.over.2 e;rw[b]at this;cases this
 have i:r.start={r with state:=2}:=by
  unfold aL.start;obtain e|e|⟨e,-⟩:=h.st
  rw[aG ⟨x,e⟩];exact absurd e y;rw[aB (λq=>by have:=q.2;omega),<-e]
 have f:r.start.ba aH=0:=by rw[i];unfold aL.ba;rw[aB (by simp)]
 have g:r.cR aH={r with state:=2}:=by
  unfold aL.cR;rw[f,i];unfold aL.stop aL.lq;rw[aB (by simp)];simp
 have d:(E.given&& !E.over)=ρ:=by rw[a,b];rfl
 have l:E.read aH=E:=by unfold It.read;rw[aG d]
 refine⟨?_,?_,?_,?_⟩
 unfold aL.text It.out;rw[f,aG d];rfl;rw[g];unfold It.state;rw[aG d];rw[g];unfold aL.jB It.jB;rw[aG rfl,aG d];exact(h.code a).symm;rw[l,g];exact⟨h.ended,h.last,h.given,h.code,h.fr,h.high,h.hl,h.ge,by simp[b],ψ (ψ ⟨rfl,a⟩),h.ov,h.th,h.nw⟩
 have d:(E.given&& !E.over)=θ:=by
  cases a:E.given;rfl;cases b:E.over;exact absurd ⟨a,b⟩ w;rfl
 by_cases b:E.over=ρ;have y:=h.over.1 b;obtain⟨C,H⟩:=h.ov b;have i:r.start=r:=by unfold aL.start;rw[aB (λq=>by have:=q.2;omega)]
 have f:r.start.ba aH=0:=by rw[i];unfold aL.ba;rw[iN_]
 have g:r.cR aH=r:=by
  unfold aL.cR;rw[f,i];unfold aL.stop aL.lq;rw[aB (λq=>by have:=q.2.2;simp only at this;omega)];simp
 have M:cL E.h<=0:=by
  by_cases a:E.given=ρ;unfold cL;rw[(ho.tO a).1];simp;have a:E.given=θ:=by simpa using a
  by_cases c:cL E.h<=0;exact c;exfalso;obtain⟨z,-⟩:=AF ho.ok (ho.low a) ho.fr (λm n=>(ho.lK m n).1) v.1;have hs:=z 0 (by omega) (by omega);have I:=ho.fr;have s:=(h.th a E.h.fr.toNat).2 (by rw[show((E.h.fr.toNat:Nat):Int)=E.h.fr+0 by omega];exact hs);have hl:E.h.fr.toNat<r.there.length:=by
   by_cases c:E.h.fr.toNat<r.there.length;exact c;rw[List.getD,nG (by omega)]at s;cases s
  have:=(h.hl C).2;have:=k.dl;have:=k.tl;omega
 have D:E.iW aH=0:=by unfold It.iW;omega
 have l:E.read aH=E:=by
  unfold It.read;rw[aB (by rw[d];simp),D];have e1:(E.ended&&(E.h.fr+((0:Nat):Int)==E.last))=E.over:=by rw[C,b];simp[H]
  rw[e1];simp
 refine⟨?_,?_,?_,?_⟩
 unfold aL.text It.out;rw[f,aB (by rw[d];simp),D];rfl;rw[g];unfold It.state;rw[aB (by rw[d];simp),l,aG b];exact y;rw[g];unfold aL.jB It.jB;rw[iN_,aB (by rw[d];simp)];rw[l,g];exact h;have b:E.over=θ:=by simpa using b
 have a:E.given=θ:=by
  by_cases a:E.given=ρ;exact absurd ⟨a,b⟩ w;simpa using a
 have x:r.given=θ:=h.given▸a;have A:r.state=0:=by
  obtain e|e|⟨-,e⟩:=h.st
  exact e;have:=h.over.2 e;rw[b]at this;cases this;rw[a]at e;cases e
 have i:r.start=r:=by unfold aL.start;rw[aB (λq=>by have:=q.1;rw[x]at this;cases this)]
 have O:=Qf h ho k a;have f:r.start.ba aH=E.iW aH:=by
  rw[i];unfold aL.ba It.iW;rw[aG A];omega
 have K:=AB (p:=aH) k;obtain⟨N,t⟩:=exq (E.iW aH);rw[<-t]at f;have P:(N:Int)<=cL E.h:=by rw[t];exact EO E aH v
 rw[i]at f;rw[f]at K;have F:=h.fr;have I:=ho.fr;obtain⟨z,-⟩:=AF ho.ok (ho.low a) ho.fr (λm n=>(ho.lK m n).1) v.1;have L:∀j:Nat,(j:Int)<cL E.h->r.there.getD (r.read.toNat+j) θ=ρ:=λj u=>(h.th a _).2 (by rw[show((r.read.toNat+j:Nat):Int)=E.h.fr+j by push_cast;have:=k.rd;omega];exact z j (by omega) u)
 have l:E.read aH={E with h:=⟨E.h.fr+N,E.h.bytes.drop N,E.h.af⟩,over:=E.ended&&(E.h.fr+N==E.last)}:=by
  unfold It.read;rw[aB (by rw[d];simp),<-t]
 have g:r.cR aH=(r.lq N).stop:=by unfold aL.cR;rw[i,f]
 have Q:=k.dl;have R:=k.tl;have S:=k.rd;have B:(r.lq N).stop={r.lq N with state:=if r.ended=ρ/\r.read+N=r.end_ then 1 else 0}:=by
  unfold aL.stop;by_cases c:r.ended=ρ/\r.read+N=r.end_;rw[aG ⟨c.1,c.2,A⟩,aG c];rw[aB (λq=>c ⟨q.1,q.2.1⟩),aB c];unfold aL.lq;rw[<-A]
 have G:(E.ended&&(E.h.fr+N==E.last))=decide (r.ended=ρ/\r.read+N=r.end_):=by
  rw[h.ended,F];by_cases c:r.ended=ρ;rw[h.last (h.ended.trans c),c];by_cases c2:r.read+N=r.end_;rw[eT ⟨rfl,c2⟩];simpa using c2;rw[fc (λq=>c2 q.2)];simpa using c2;have c:r.ended=θ:=by simpa using c
  rw[c,fc (λq=>by cases q.1)];rfl
 refine⟨?_,?_,?_,?_⟩
 unfold aL.text It.out;rw[i,f,aB (by rw[d];simp),<-t];apply List.ext_getElem?;intro j;by_cases u:j<N;rw[List.getElem?_take_of_lt u,List.getElem?_take_of_lt u,lC];have hd:=h.nw a (r.read.toNat+j) (by push_cast;omega) (L j (by omega));rw[show((((r.read.toNat+j:Nat)):Int)-E.h.fr).toNat=j by push_cast;omega]at hd;have b1:j<E.h.bytes.length:=by omega
 have b2:r.read.toNat+j<r.data.length:=by omega
 simp only[List.getD,dT b1,dT b2,Option.getD_some]at hd;rw[dT b1,dT b2,hd];rw[nG (by rw[ct];omega),nG (by rw[ct];omega)];have e1:E.state aH=if(E.ended&&(E.h.fr+N==E.last))=ρ then 1 else 0:=by
  unfold It.state;rw[aB (by rw[d];simp),l]
 rw[e1,G,g,B];show(if r.ended=ρ/\r.read+N=r.end_ then(1:Int)else 0)=_;by_cases c:r.ended=ρ/\r.read+N=r.end_;rw[aG c,aG (eT c)];rw[aB c,aB (by rw[fc c];simp)];have e2:E.jB=0:=by unfold It.jB;rw[aB (by rw[d];simp)]
 rw[e2,g,B];unfold aL.jB;apply aB;show¬(if r.ended=ρ/\r.read+N=r.end_ then(1:Int)else 0)=2;split<;>omega;rw[l,g,B];refine⟨h.ended,h.last,h.given,λe=>absurd (show E.given=ρ from e) (by rw[a];simp),?_,h.high,h.hl,h.ge,?_,?_,λe=>?_,h.th,λ_ m n s=>?_⟩
 show E.h.fr+N=r.read+N;rw[F];show(E.ended&&(E.h.fr+N==E.last))=ρ↔(if r.ended=ρ/\r.read+N=r.end_ then(1:Int)else 0)=1;rw[G,mu];by_cases c:r.ended=ρ/\r.read+N=r.end_;rw[aG c];simp[c];rw[aB c];simp[c];show(if r.ended=ρ/\r.read+N=r.end_ then(1:Int)else 0)=0\/_;by_cases c:r.ended=ρ/\r.read+N=r.end_;right;left;show(if r.ended=ρ/\r.read+N=r.end_ then(1:Int)else 0)=1;rw[aG c];left;rw[aB c];have e2:(E.ended&&(E.h.fr+N==E.last))=ρ:=e;simp only[iu,beq_iff_eq]at e2;exact e2;have T:E.h.fr+N<=(m:Int):=n;have hd:=h.nw a m (by omega) s;show(E.h.bytes.drop N).getD ((m:Int)-(E.h.fr+N)).toNat 0=r.data.getD m 0;rw[<-hd];simp only[List.getD,lC]
 congr 2;omega
structure gC(o:Ot)(r:da):Prop where
 af:o.h.af=r.af.sp
 ck:fR r.af
 fr:o.h.fr=r.af.eR
 sg:o.sG=r.given
 se:r.given=θ->o.sE=r.finished
 av:o.av=r.high
 gv:r.given=ρ->o.code=r.code/\r.end_=r.high/\o.sE=θ
 mc:r.given=θ->o.h.bytes=(aI r.data).drop o.h.fr.toNat
 sz:r.data.size<=4096
 su:o.h.fr<=r.data.size
 hs:0<=r.high/\r.high<=r.data.size
 cb:∀m,Sm o.h.af m->m<r.data.size
def gC.new:gC Ot.new da.new:=by
 refine⟨rfl,fR.new,?_,rfl,λ_=>rfl,rfl,λe=>(by cases e),λ_=>rfl,jm _,cE _,⟨cE _,cE _⟩,λm a=>absurd a (fP m)⟩
 simp[Ot.new,da.new,cW.yB,cW.eR]
def gC.vM{r:da}(h:gC G r)(a:r.given=θ)(h0:0<=G.h.fr):(G.h.bytes.length:Int)=r.data.size-G.h.fr:=by
 rw[h.mc a,dO,fN];have:=h.su;omega
def gC.fT{r:da}(h:gC G r)(a:r.given=θ)(h0:0<=G.h.fr)(b:(G.h.bytes.length:Int)<=p)(n:Nat):((G.fT n p:Nat):Int)=min (min (p-(r.data.size-r.af.eR)) (4096-r.data.size)) n:=by
 have c:=h.vM a h0;have d:=h.fr;have e:=h.sz;unfold Ot.fT;omega
def AG(a b:ByteArray):aI (a++b)=aI a++aI b:=by
 unfold aI;rw[ByteArray.data_append,Array.toList_append,mV]
def Fi(b:ByteArray)(n:Nat):aI (b.extract 0 n)=(aI b).take n:=by
 unfold aI;rw[yS,Array.toList_extract];simp[List.extract]
def gC.write{r:da}(h:gC G r)(b:r.given=θ)(h0:0<=G.h.fr)(c:(G.h.bytes.length:Int)<=p)(d:ByteArray):gC (G.wrote (aI d) p) {r with data:=r.data++d.extract 0 (G.fT (aI d).length p)}:=by
 have f:=h.fT b h0 c (aI d).length;have g:=h.sz;have i:=h.su;have a:(r.data++d.extract 0 (G.fT (aI d).length p)).size=r.data.size+G.fT (aI d).length p:=by
  rw[<-fN,AG,Fi,bF,fN,ct];omega
 refine⟨h.af,h.ck,h.fr,h.sg,h.se,h.av,h.gv,λ_=>?_,?_,?_,?_,λm e=>?_⟩
 show G.h.bytes++(aI d).take _=(aI (r.data++_)).drop G.h.fr.toNat;rw[AG,Fi,Br (by rw[fN];omega),h.mc b];show(r.data++_).size<=4096;rw[a];omega;show G.h.fr<=((r.data++_).size:Int);rw[a];omega;have:=h.hs;show 0<=r.high/\r.high<=((r.data++_).size:Int);rw[a];omega;have:=h.cb m e;show m<((r.data++_).size:Int);rw[a];omega
def gC.finish{r:da}(h:gC G r)(a:r.given=θ):gC {G with sE:=ρ} {r with finished:=ρ}:=
 ⟨h.af,h.ck,h.fr,h.sg,λ_=>rfl,h.av,λe=>absurd (show r.given=ρ from e) (by rw[a];simp),h.mc,h.sz,h.su,h.hs,h.cb⟩
def gC.giveUp{r:da}(h:gC G r)(code:Int):gC (G.giveUp code) {r with given:=ρ,code:=code,end_:=r.high}:=
 ⟨h.af,h.ck,h.fr,rfl,λe=>(by cases e),h.av,λ_=>⟨rfl,rfl,rfl⟩,λe=>(by cases e),h.sz,h.su,h.hs,h.cb⟩
def Qg(z:cW):z.eR=if z.sp.length=0\/0<(ao z.sp 0).lo then 0 else(ao z.sp 0).hi:=by
 unfold cW.eR cW.sp;cases z.l with
 |nil=>simp
 |cons a l=>simp[ao,cX]
structure Fj(o a:Ot):Prop where
 av:a.av=o.av
 sE:a.sE=o.sE
 sG:a.sG=o.sG
 code:a.code=o.code
def yC(L:List (Int×Pc)):∀(out:Nat->Ot)(k:Nat),Fj (out k) (cP out L k):=by
 induction L with
 |nil=>intro out k;exact⟨rfl,rfl,rfl,rfl⟩
 |cons x L b=>
  intro out k;have e:cP out (x::L)=cP (ah out x.1.toNat ((out x.1.toNat).eG x.2)) L:=rfl;rw[e];obtain⟨c,d,f,g⟩:=b (ah out x.1.toNat ((out x.1.toNat).eG x.2)) k;have a:Fj (out k) (ah out x.1.toNat ((out x.1.toNat).eG x.2) k):=by
   unfold ah;split;rename_i h;rw[h];exact⟨rfl,rfl,rfl,rfl⟩
   exact⟨rfl,rfl,rfl,rfl⟩
  exact⟨c.trans a.av,d.trans a.sE,f.trans a.sG,g.trans a.code⟩
def Fk(L:List (Int×Pc))(k:Nat):∀(out:Nat->Ot),aU (out k).h.af->aU (cP out L k).h.af/\∀m,Sm (cP out L k).h.af m↔Sm (out k).h.af m\/∃x∈L,x.1.toNat=k/\x.2.x.lo<=m/\m<x.2.x.hi:=by
 induction L with
 |nil=>intro out h;exact⟨h,λm=>⟨φ,λe=>e.elim id (λ⟨x,d,_⟩=>by cases d)⟩⟩
 |cons x L f=>
  intro out h;have e:cP out (x::L)=cP (ah out x.1.toNat ((out x.1.toNat).eG x.2)) L:=rfl;rw[e];have c:aU (ah out x.1.toNat ((out x.1.toNat).eG x.2) k).h.af/\∀m,Sm (ah out x.1.toNat ((out x.1.toNat).eG x.2) k).h.af m↔Sm (out k).h.af m\/(x.1.toNat=k/\x.2.x.lo<=m/\m<x.2.x.hi):=by
   by_cases b:k=x.1.toNat;subst b;rw[aR];refine⟨lV _ h,λm=>?_⟩
   rw[show((out x.1.toNat).eG x.2).h.af=cD (out x.1.toNat).h.af x.2.x from rfl,iK _ h];simp;rw[aX _ _ b];refine⟨h,λm=>⟨φ,λq=>q.elim id (λq=>absurd q.1.symm b)⟩⟩
  obtain⟨g,i⟩:=f _ c.1;refine⟨g,λm=>?_⟩
  rw[i m,c.2 m];constructor;rintro((q|q)|⟨y,a,q⟩);exact φ q;exact ψ ⟨x,by simp,q⟩;exact ψ ⟨y,by simp[a],q⟩;rintro(q|⟨y,a,q⟩);exact φ (φ q);obtain rfl|a:=dY.1 a
  exact φ (ψ q);exact ψ ⟨y,a,q⟩
def Qh(h0:0<=G.h.fr)(h:G.h.bytes=L.drop G.h.fr.toNat)(p:Pc):0<=(G.eG p).h.fr/\(G.eG p).h.bytes=L.drop (G.eG p).h.fr.toNat:=by
 obtain⟨W,a⟩:=exq ((cL ⟨G.h.fr,G.h.bytes,cD G.h.af p.x⟩).toNat);have e1:(G.eG p).h.fr=G.h.fr+(W:Int):=by rw[a];rfl
 have e2:(G.eG p).h.bytes=G.h.bytes.drop W:=by rw[a];rfl
 refine⟨by omega,?_⟩
 rw[e2,e1,h,uv];congr 1;omega
def Qi(L:List (Int×Pc))(d:List Int)(k:Nat):∀(out:Nat->Ot),0<=(out k).h.fr->(out k).h.bytes=d.drop (out k).h.fr.toNat->0<=(cP out L k).h.fr/\(cP out L k).h.bytes=d.drop (cP out L k).h.fr.toNat:=by
 induction L with
 |nil=>intro out h0 h;exact⟨h0,h⟩
 |cons x L b=>
  intro out h0 h;have e:cP out (x::L)=cP (ah out x.1.toNat ((out x.1.toNat).eG x.2)) L:=rfl;rw[e];by_cases a:k=x.1.toNat;have:=Qh h0 h x.2;refine b _ ?_ ?_<;>rw[a,aR,<-a];exact this.1;exact this.2;refine b _ ?_ ?_<;>rw[aX _ _ a];exact h0;exact h
def oU(f:Fr)(k:Nat)(m:Int):Prop:=f.kind=5/\0<f.data.size/\f.stream.toNat=k/\f.offset<=m/\m<aT f
def Qj{o:Nat->da}(h:∀k,k<4->fR (o k).af)(d:ry I)(k:Nat)(c:k<4):
 (∃z,pL o I k={o k with af:=z})/\∀m,Sm (pL o I k).af.sp m↔Sm (o k).af.sp m\/oU I k m:=by
 unfold pL;split;rename_i a;obtain⟨f,g,e,i⟩:=d a.1 a.2;by_cases b:k=I.stream.toNat;subst b;rw[aR];obtain⟨e1,e2⟩:=(h _ c).E6 e (show I.offset<=I.offset+I.data.size-1 by omega) (by omega);refine⟨⟨_,rfl⟩,λm=>?_⟩
 simp only
 rw[e2,iK _ (h _ c).ok];unfold oU aT;simp only
 constructor;rintro(q|q);exact φ q;exact ψ ⟨a.1,a.2,trivial,by omega,by omega⟩;rintro(q|q);exact φ q;exact ψ (by omega);rw[aX _ _ b];exact⟨⟨_,rfl⟩,λm=>⟨φ,λq=>q.elim id (λq=>absurd q.2.2.1.symm b)⟩⟩
 rename_i a;exact⟨⟨_,rfl⟩,λm=>⟨φ,λq=>q.elim id (λq=>absurd ⟨q.1,q.2.1⟩ a)⟩⟩
def Qk(q:List Fr):∀{o:Nat->da},(∀f∈q,ry f)->(∀k,k<4->fR (o k).af)->∀(k:Nat),k<4->(∃z,q.foldl pL o k={o k with af:=z})/\∀m,Sm (q.foldl pL o k).af.sp m↔Sm (o k).af.sp m\/∃f∈q,oU f k m:=by
 induction q with
 |nil=>intro o _ _ k _;exact⟨⟨_,rfl⟩,λm=>⟨φ,λe=>e.elim id (λ⟨f,b,_⟩=>by cases b)⟩⟩
 |cons f q i=>
  intro o b h k d;obtain⟨⟨n,e1⟩,j⟩:=Qj h (b f (by simp)) k d;obtain⟨⟨z2,e2⟩,l⟩:=i (o:=pL o f) (λg a=>b g (by simp[a])) (E7 h (b f (by simp))) k d;rw[lD];refine⟨⟨z2,by rw[e2,e1]⟩,λm=>?_⟩
  rw[l m,j m];constructor;rintro((c|c)|⟨g,a,c⟩);exact φ c;exact ψ ⟨f,by simp,c⟩;exact ψ ⟨g,by simp[a],c⟩;rintro(c|⟨g,a,c⟩);exact φ (φ c);obtain rfl|a:=dY.1 a
  exact φ (ψ c);exact ψ ⟨g,a,c⟩
def sw(l:List Rg)(q:List (Int×List Fr)):∀{o:Nat->da},(∀x∈q,∀f∈x.2,ry f)->(∀k,k<4->fR (o k).af)->∀(k:Nat),k<4->(∃z,q.foldl (oS l) o k={o k with af:=z})/\∀m,Sm (q.foldl (oS l) o k).af.sp m↔Sm (o k).af.sp m\/∃x∈q,bp l x.1=ρ/\∃f∈x.2,oU f k m:=by
 induction q with
 |nil=>intro o _ _ k _;exact⟨⟨_,rfl⟩,λm=>⟨φ,λe=>e.elim id (λ⟨f,b,_⟩=>by cases b)⟩⟩
 |cons x q j=>
  intro o b h k i;obtain⟨⟨z2,e2⟩,n⟩:=j (o:=oS l o x) (λg a=>b g (by simp[a])) (E8 (b x (by simp)) h) k i;have p:(∃z,oS l o x k={o k with af:=z})/\∀m,Sm (oS l o x k).af.sp m↔Sm (o k).af.sp m\/(bp l x.1=ρ/\∃f∈x.2,oU f k m):=by
   unfold oS;split;rename_i d;obtain⟨r,s⟩:=Qk x.2 (b x (by simp)) h k i;exact⟨r,λm=>by rw[s m];simp[d]⟩
   rename_i d;exact⟨⟨_,rfl⟩,λm=>⟨φ,λc=>c.elim id (λc=>absurd c.1 d)⟩⟩
  obtain⟨⟨u,e1⟩,t⟩:=p;rw[lD];refine⟨⟨z2,by rw[e2,e1]⟩,λm=>?_⟩
  rw[n m,t m];constructor;rintro((c|c)|⟨g,a,c⟩);exact φ c;exact ψ ⟨x,by simp,c⟩;exact ψ ⟨g,by simp[a],c⟩;rintro(c|⟨g,a,c⟩);exact φ (φ c);obtain rfl|a:=dY.1 a
  exact φ (ψ c);exact ψ ⟨g,a,c⟩
def sx{z:cW}(h:fR z):0<=z.eR/\(∀m,0<=m->m<z.eR->Sm z.sp m)/\¬Sm z.sp z.eR:=by
 have h0:∀m,Sm z.sp m->0<=m:=λm ⟨r,f,e,b⟩=>by
  obtain⟨q,g,rfl⟩:=eU.1 f;have:=(h.bd q g).1;simp only[cX]at e;omega
 rw[Qg];by_cases c:z.sp.length=0\/0<(ao z.sp 0).lo;rw[aG c];refine⟨cE _,λm e b=>by omega,λhs=>?_⟩
 have d:=h.ok;cases hl:z.sp with
 |nil=>rw[hl]at hs;exact fP 0 hs
 |cons a q=>
  rw[hl]at hs c d;obtain c|c:=c
  simp at c;have c:0<a.lo:=c;obtain b|b:=(dH a q 0).1 hs
  omega;have:=d.behind b;have:=d.2 a (by simp);omega
 rw[aB c];obtain⟨k,l,i,j⟩:=CG h.ok h0 c;exact⟨by omega,i,j⟩
def Ql{S:Int->Prop}(a:0<=p)(b:0<=q)(e:∀m,0<=m->m<p->S m)(f:¬S p)(g:∀m,0<=m->m<q->S m)(h:¬S q):p=q:=by
 by_cases c:p<q;exact absurd (g p a c) f;by_cases d:q<p;exact absurd (e q b d) h;omega
def rA(L:List (Int×List Fr))(P:Int->Prop)(k:Nat)(e g:Bool):Prop:=(e=ρ->∃x∈L,P x.1/\∃f∈x.2,f.stream.toNat=k/\(f.kind=4\/(f.kind=5/\f.fin=ρ)))/\(g=ρ->∃x∈L,P x.1/\∃f∈x.2,f.stream.toNat=k/\f.kind=4)
def rA.mono{L d:List (Int×List Fr)}{P Q:Int->Prop}{g:Bool}(h:rA L P k B g)(e:∀x∈L,x∈d)(hP:∀x∈L,P x.1->Q x.1):rA d Q k B g:=
 ⟨λq=>by obtain⟨x,a,b,c⟩:=h.1 q;exact⟨x,e x a,hP x a b,c⟩,λq=>by obtain⟨x,a,b,c⟩:=h.2 q;exact⟨x,e x a,hP x a b,c⟩⟩
structure qx(s:Sd)(m:an):Prop where
 told:∀x∈m.av,∀f∈x.2,∀k,k<4->∀b,oU f k b->Sm (s.out k).h.af b\/∃p∈s.aw++s.lost,p.num=x.1/\p.st.toNat=k/\∃q∈p.ps,q.x.lo<=b/\b<q.x.hi
 back:∀p∈s.aw++s.lost,∀q∈p.ps,∀b,q.x.lo<=b->b<q.x.hi->∃x∈m.av,x.1=p.num/\∃f∈x.2,oU f p.st.toNat b
 fz:∀x∈m.av,∀f∈x.2,f.kind=5->0<f.data.size->aT f<=(m.outs f.stream.toNat).data.size
 kD:vJ m
 eg:∀p∈s.aw++s.lost,∀q∈p.ps,rA m.av (λn=>n=p.num) p.st.toNat q.e q.g
def yD{q:Pk->Bool}{l:List Pk}{y:Int×Pc}:y∈iZ q l↔∃x∈l,q x=ρ/\y.1=x.st/\y.2∈x.ps:=by
 unfold iZ;rw[sM];constructor;rintro⟨x,a,h⟩;split at h;rename_i b;obtain⟨p,hp,rfl⟩:=eU.1 h;exact⟨x,a,b,rfl,hp⟩
 cases h;rintro⟨x,a,b,c,d⟩;refine⟨x,a,?_⟩
 rw[aG b];exact eU.2 ⟨y.2,d,by rw[<-c]⟩
def Qm(ho:∀k,k<4->gC (s.out k) (X.outs k))(g:qx s X)(F:∀k,k<4->fG (s.out k))(al:∀x∈s.aw++s.lost,0<=x.st/\x.st<4/\∀p∈x.ps,jQ p)(l:List Rg):
 (∀k,k<4->gC ((s.bT l).out k) ((X.lP l).outs k))/\qx (s.bT l) (X.lP l):=by
 obtain⟨L,P⟩:=exq (iZ (λx=>bp l x.num) s.aw++iZ (λx=>bp l x.num) s.lost);have G:∀y,y∈L↔∃p∈s.aw++s.lost,bp l p.num=ρ/\y.1=p.st/\y.2∈p.ps:=λy=>by
  rw[P,bL,yD,yD];constructor;rintro(⟨x,d,h⟩|⟨x,d,h⟩);exact⟨x,fC _ d,h⟩
  exact⟨x,ir _ d,h⟩
  rintro⟨x,d,h⟩;obtain d|d:=bL.1 d
  exact φ ⟨x,d,h⟩;exact ψ ⟨x,d,h⟩
 have C:(s.bT l).out=cP s.out L:=by rw[P];rfl
 have w:∀k,k<4->fG ((s.bT l).out k):=λk a=>by
  rw[C];exact xI F L (λy H=>by
   obtain⟨p,hp,-,-,h⟩:=(G y).1 H;exact(al p hp).2.2 _ h) k a
 have A:∀k,k<4->fR (X.outs k).af:=λk a=>(ho k a).ck
 have I:∀k,k<4->∀b,Sm ((s.bT l).out k).h.af b↔Sm (s.out k).h.af b\/∃p∈s.aw++s.lost,bp l p.num=ρ/\p.st.toNat=k/\∃q∈p.ps,q.x.lo<=b/\b<q.x.hi:=λk a b=>by
  rw[C,(Fk L k s.out (F k a).ok).2 b];constructor;rintro(h|⟨y,H,i,u⟩);exact φ h;obtain⟨p,hp,m,e1,e2⟩:=(G y).1 H;exact ψ ⟨p,hp,m,by rw[<-e1];exact i,y.2,e2,u⟩;rintro(h|⟨p,hp,m,i,q,v,u⟩);exact φ h;exact ψ ⟨(p.st,q),(G _).2 ⟨p,hp,m,rfl,v⟩,i,u⟩
 have Q:∀k,k<4->∀b,Sm ((s.bT l).out k).h.af b↔Sm ((X.lP l).outs k).af.sp b:=λk a b=>by
  rw[I k a b];have hd:=(sw l X.av g.kD A k a).2 b;rw[show((X.lP l).outs k)=X.av.foldl (oS l) X.outs k from rfl,hd,<-(ho k a).af];constructor;rintro(h|⟨p,hp,m,i,q,v,u,K⟩);exact φ h;obtain⟨x,d,e1,f,n,t⟩:=g.back p hp q v b u K;exact ψ ⟨x,d,by rw[e1];exact m,f,n,by rw[<-i];exact t⟩;rintro(h|⟨x,d,m,f,n,t⟩);exact φ h;obtain h|⟨p,hp,e1,e2,h⟩:=g.told x d f n k a b t
  exact φ h;exact ψ ⟨p,hp,by rw[e1];exact m,e2,h⟩
 have T:∀p,p∈(s.bT l).aw++(s.bT l).lost->p∈s.aw++s.lost:=λp hp=>by
  have ax:∀p,p∈(s.cg l).aw++(s.cg l).lost->p∈s.aw++s.lost:=λp hp=>by
   unfold Sd.cg at hp;simp only at hp;obtain hp|hp:=bL.1 hp
   exact fC _ (eO.1 (eO.1 hp).1).1;obtain hp|hp:=bL.1 hp
   exact ir _ (eO.1 hp).1;exact fC _ (eO.1 (eO.1 hp).1).1
  apply ax;obtain hp|hp:=bL.1 hp
  exact fC _ hp;exact ir _ (eO.1 hp).1
 refine⟨λk a=>?_,⟨λx d f n k a b t=>?_,λp hp q v b i u=>g.back p (T p hp) q v b i u,λx d f n D h0=>?_,g.kD,λp hp=>g.eg p (T p hp)⟩⟩
 obtain⟨⟨z,j⟩,-⟩:=sw l X.av g.kD A k a;have j:(X.lP l).outs k={X.outs k with af:=z}:=j;have M:fR ((X.lP l).outs k).af:=Fc g.kD A k a;have U:((s.bT l).out k).h.af=((X.lP l).outs k).af.sp:=(w k a).ok.unique M.ok (Q k a);obtain⟨p0,V,p2⟩:=sx M;have aC:((s.bT l).out k).h.fr=((X.lP l).outs k).af.eR:=by
  rw[<-U]at V p2;exact Ql (S:=λb=>Sm ((s.bT l).out k).h.af b) (w k a).fr p0 (w k a).low (w k a).hole V p2
 have R:=ho k a;have W:∀b,Sm ((s.bT l).out k).h.af b->b<(X.outs k).data.size:=λb hb=>by
  have hd:=(sw l X.av g.kD A k a).2 b;obtain h|⟨x,d,-,f,n,t⟩:=hd.1 ((Q k a b).1 hb)
  rw[<-R.af]at h;exact R.cb b h;have:=g.fz x d f n t.1 t.2.1;rw[t.2.2.1]at this;have:=t.2.2.2.2;omega
 have sm:=yC L s.out k;rw[<-C]at sm;have B:((X.lP l).outs k).data=(X.outs k).data:=by rw[j]
 have E:((X.lP l).outs k).given=(X.outs k).given:=by rw[j]
 have a1:((X.lP l).outs k).finished=(X.outs k).finished:=by rw[j]
 have N:((X.lP l).outs k).high=(X.outs k).high:=by rw[j]
 have a2:((X.lP l).outs k).code=(X.outs k).code:=by rw[j]
 have a3:((X.lP l).outs k).end_=(X.outs k).end_:=by rw[j]
 refine⟨U,M,aC,by rw[sm.sG,E];exact R.sg,λe=>?_,by rw[sm.av,N];exact R.av,λe=>?_,λe=>?_,by rw[B];exact R.sz,?_,by rw[N,B];exact R.hs,by rw[B];exact W⟩
 rw[E]at e;rw[sm.sE,a1];exact R.se e;rw[E]at e;rw[sm.code,sm.sE,a2,a3,N];exact R.gv e;rw[E]at e;have:=(Qi L (aI (X.outs k).data) k s.out (F k a).fr (R.mc e)).2;rw[<-C]at this;rw[B];exact this;rw[B];by_cases c:((s.bT l).out k).h.fr=0;omega;have h0:=(w k a).fr;have:=W _ ((w k a).low (((s.bT l).out k).h.fr-1) (by omega) (by omega));omega;obtain h|⟨p,hp,e1,e2,q,v,h⟩:=g.told x d f n k a b t
 exact φ ((I k a b).2 (φ h));by_cases m:bp l p.num=ρ;exact φ ((I k a b).2 (ψ ⟨p,hp,m,e2,q,v,h⟩));by_cases Y:p∈(s.bT l).aw++(s.bT l).lost;exact ψ ⟨p,Y,e1,e2,q,v,h⟩;left;have O:(!bp l p.num)=ρ:=by simpa using m
 have i:p∈(s.cg l).aw++(s.cg l).lost:=by
  unfold Sd.cg;simp only
  obtain hp|hp:=bL.1 hp
  by_cases c:decide (p.num+3<=(ao l 0).hi)=ρ;exact ir _ (ir _ (eO.2 ⟨eO.2 ⟨hp,O⟩,c⟩));exact fC _ (eO.2 ⟨eO.2 ⟨hp,O⟩,by simpa using c⟩);exact ir _ (fC _ (eO.2 ⟨hp,O⟩))
 have u:p.ps.all (kq ((s.cg l).out p.st.toNat))=ρ:=by
  by_cases c:p.ps.all (kq ((s.cg l).out p.st.toNat))=ρ;exact c;exfalso;apply Y;obtain i|i:=bL.1 i
  exact fC _ i;exact ir _ (eO.2 ⟨i,by simpa using c⟩)
 have K:=List.all_eq_true.1 u q v;have h4:=(Db _ _).1 K;obtain D|⟨r,hr,D,h6⟩:=h4.1
 omega;have:Sm ((s.cg l).out p.st.toNat).h.af b:=⟨r,hr,by omega,by omega⟩
 rw[e2]at this;exact this;have bb:=g.kD x d f n D h0;have a:f.stream.toNat<4:=by omega
 obtain⟨⟨z,j⟩,-⟩:=sw l X.av g.kD A _ a;have j:(X.lP l).outs f.stream.toNat={X.outs f.stream.toNat with af:=z}:=j;rw[j];exact g.fz x d f n D h0
structure iS(s:Sd)(m:an):Prop where
 aj:m.aj=s.aj
 ag:m.ag=s.ag
 key:m.key=s.key
 me:m.me=if s.first then 0 else 1
 cl:m.closed=0
 said:m.said=θ
 next:m.next=s.count
 out:∀k,k<4->gC (s.out k) (m.outs k)
 aF:∀k,k<4->ju (s.aF k) (m.ins k)
 fU:∀k,k<4->gz (m.ins k)
 fl:qx s m
def qx.ins(h:qx s X)(i:Nat->It)(j:Nat->aL):qx {s with aF:=i} {X with ins:=j}:=⟨h.told,h.back,h.fz,h.kD,h.eg⟩
def iS.oh(h:iS s X)(k:Nat)(i:It)(r:aL)(b:k<4->ju i r)(c:k<4->gz r):iS {s with aF:=ah s.aF k i} {X with ins:=ah X.ins k r}:=by
 refine⟨h.aj,h.ag,h.key,h.me,h.cl,h.said,h.next,h.out,λj a=>?_,λj a=>?_,h.fl.ins _ _⟩
 by_cases e:j=k;subst e;simp only[aR];exact b a;simp only[aX _ _ e];exact h.aF j a;by_cases e:j=k;subst e;simp only[aR];exact c a;simp only[aX _ _ e];exact h.fU j a
def iS.due(h:iS s X)(d:List Int):iS s {X with due:=d}:=⟨h.aj,h.ag,h.key,h.me,h.cl,h.said,h.next,h.out,h.aF,h.fU,⟨h.fl.told,h.fl.back,h.fl.fz,h.fl.kD,h.fl.eg⟩⟩
def iS.nums(h:iS s X)(c:List Rg)(fl:Int)(o:Bool)(g e:cW):iS {s with af:=c,floor:=fl,bQ:=o} {X with dN:=g,bG:=e}:=⟨h.aj,h.ag,h.key,h.me,h.cl,h.said,h.next,h.out,h.aF,h.fU,⟨h.fl.told,h.fl.back,h.fl.fz,h.fl.kD,h.fl.eg⟩⟩
def iS.note(h:iS s X)(f:Fr)(n:Int):iS s (X.note f n):=by
 unfold an.note;split;exact h.due _;exact h
def iS.busy(h:iS s X)(f:Fr)(b:f.kind=5->0<=f.stream/\f.stream<4):s.fH f=X.fH f:=by
 unfold Sd.fH an.fH;by_cases a:f.kind=5;have:=b a;rw[(h.aF f.stream.toNat (by omega)).busy f s.ag,h.ag];rw[fc a];rfl
def Qt(h:iS s X)(hs:bO s n)(f:cO I)(ho:0<=I.offset)(i:nr s I)(j:I.kind=5->(X.ins I.stream.toNat).given=θ->aT I<=100000000):(X.take I).1=(s.take I).1/\iS (s.take I).2 (X.take I).2:=by
 have r:=f.st;have a:I.stream.toNat<4:=by omega
 unfold Sd.take an.take;by_cases c:I.kind=3;rw[aG c,aG c,h.next];split;exact⟨rfl,h⟩
 obtain⟨k,l⟩:=Qm h.out h.fl hs.out hs.pk I.ranges;exact⟨rfl,⟨h.aj,h.ag,h.key,h.me,h.cl,h.said,h.next,k,h.aF,h.fU,l⟩⟩
 rw[aB c,aB c];by_cases d:I.kind=4;rw[aG d,aG d,(h.aF _ a).gO I];split;exact⟨rfl,h⟩
 rename_i m;have p:(s.aF I.stream.toNat).gO I.offset=θ:=by rw[(h.aF _ a).gO I];simpa using m
 exact⟨rfl,h.oh _ _ _ (λ_=>(h.aF _ a).reset I p) (λ_=>(h.fU _ a).reset ho f.1.1)⟩
 rw[aB d,aB d];by_cases b:I.kind=5;rw[aG b,aG b];cases g:(s.aF I.stream.toNat).bad I;have t:(s.aF I.stream.toNat).given=(X.ins I.stream.toNat).given:=(h.aF _ a).given;obtain⟨d1,d2⟩:=(h.aF _ a).data (hs.aF _ a) (h.fU _ a) I ho g (λe=>i b e);rw[d1];exact⟨rfl,h.oh _ _ _ (λ_=>d2) (λ_=>(h.fU _ a).bytes ho (f.en b) (j b))⟩
 have q:(X.ins I.stream.toNat).bad I=ρ:=by rw[<-(h.aF _ a).bad I];exact g
 have e:(X.ins I.stream.toNat).bytes I=(7,X.ins I.stream.toNat):=by unfold aL.bytes;rw[q];rfl
 rw[e];refine⟨rfl,?_⟩
 simp only[dC,m8]
 exact h;rw[aB b,aB b];split;exact⟨rfl,h⟩
 exact⟨rfl,h⟩
def Qu(q:n<=100000)(num:Int):∀(a:List Fr)(s:Sd)(m:an),iS s m->bO s n->(∀f∈a,cO f/\0<=f.offset/\nr s f/\(f.kind=5->(m.ins f.stream.toNat).given=θ->aT f<=100000000))->
 (an.fI num a m).1=(di s a).1/\((di s a).1=0->iS (di s a).2 (an.fI num a m).2)/\((di s a).1≠0->∃b,iS (di s a).2 b/\(an.fI num a m).2=b.fail (di s a).1):=by
 intro a;induction a with
 |nil=>intro s m h _ _;exact⟨rfl,λ_=>h,λe=>absurd rfl e⟩
 |cons f a r=>
  intro s m h hs d;obtain⟨f1,f2,f3,f4⟩:=d f (by simp);obtain⟨t1,t2⟩:=Qt h hs f1 f2 f3 f4;have i:=take_same s f;have e1:di s (f::a)=if(s.take f).1=0 then di (s.take f).2 a else s.take f:=rfl
  have e2:an.fI num (f::a) m=if(m.take f).1=0 then an.fI num a ((m.take f).2.note f num)else((m.take f).1,(m.take f).2.fail (m.take f).1):=rfl
  rw[e1,e2,t1];by_cases c:(s.take f).1=0;rw[aG c,aG c];refine r _ _ (t2.note f num) (Ax hs q f1 f2 f3) (λg t=>?_);obtain⟨j,u,v,w⟩:=d g (by simp[t]);refine⟨j,u,v.same i,λx k=>w x ?_⟩
  have l:g.stream.toNat<4:=by have:=j.st;omega
  have p:((m.take f).2.ins g.stream.toNat).given=θ:=by rw[(tS _ f num).2.2.1]at k;exact k
  rw[<-(t2.aF _ l).given]at p;have:=(i.aF g.stream.toNat).2;rw[<-(h.aF _ l).given];exact this p;rw[aB c,aB c];exact⟨rfl,λe=>absurd e c,λ_=>⟨_,t2,rfl⟩⟩
structure tT(af:List Rg)(floor:Int)(z:cW):Prop where
 sp:z.sp=af
 fl:z.floor=floor
 mo:z.aH=8
 f0:0<=floor/\floor<=4611686018427387904
 ab:∀n,Sm af n->floor<=n
 ne:floor=0\/∃d,Sm af d
def tT.has{z:cW}(h:tT Y p z)(n:Int):z.has n=im Y p n:=by
 unfold cW.has im;rw[h.fl,<-h.sp];unfold cW.sp;rw[List.any_map];congr 1;congr 1;funext r;simp only[Function.comp,cX]
 congr 1;apply decide_eq_decide.2;omega
def Qv(l:List Rg)(i:Nat)(h:i<l.length):ao (l.map cX) i=cX (ao l i):=by
 simp[ao,List.getD,h]
def tT.add{z:cW}(h:tT Y p z)(hs:aU Y)(n:∀r∈Y,0<=r.lo/\r.hi<=4611686018427387904)(D:0<=t/\t<=4611686018427387903)(hp:im Y p t=θ):
 tT (eJ Y p t).1 (eJ Y p t).2 (z.add t t)/\p<=(eJ Y p t).2/\∀d,(Sm Y d\/d=t)->d<(eJ Y p t).2\/Sm (eJ Y p t).1 d:=by
 obtain⟨F,G⟩:=Ev hp;have k:=h.sp;have H:=h.f0;have e1:max t z.floor=t:=by rw[h.fl];omega
 have e2:=yw (Y:=z.l) (cE t) (by rw[show z.l.map cX=z.sp from rfl,k];exact hs);rw[show z.l.map cX=z.sp from rfl,k]at e2;obtain⟨E,m⟩:=exq ((qv t t z.l).end_);rw[<-m]at e2;have s:z.add t t=z.put E:=by unfold cW.add;rw[e1,iN_,m]
 have i:E.length=(cD Y ⟨t,t+1⟩).length:=by rw[<-e2,dd]
 have f:aU (cD Y ⟨t,t+1⟩):=lV _ hs;have b:∀d,Sm (cD Y ⟨t,t+1⟩) d↔Sm Y d\/(t<=d/\d<t+1):=λd=>iK _ hs d
 have j:∀d,Sm (cD Y ⟨t,t+1⟩) d->p<=d:=λd hd=>by
  obtain q|q:=(b d).1 hd
  exact h.ab d q;omega
 unfold eJ;rw[s];unfold cW.put;rw[h.mo,i];by_cases c:8<(cD Y ⟨t,t+1⟩).length;rw[aG c,aG (show(8:Int)<((cD Y ⟨t,t+1⟩).length:Int) by omega)];simp only
 cases hl:cD Y ⟨t,t+1⟩with
 |nil=>rw[hl]at c;simp at c
 |cons a q=>
  have e0:ao (a::q) 0=a:=rfl;rw[e0];rw[hl]at e2 f b j i;have u:0<E.length:=by rw[i];simp
  have v:cX (ao E 0)=a:=by rw[<-Qv E 0 u,e2];rfl
  have w:=f.2 a (by simp);have I:=j a.lo ((dH a q _).2 (φ ⟨cE _,w⟩));have x:(ao E 0).hi+1=a.hi:=by rw[<-v];rfl
  have A:a.hi<=4611686018427387904:=by
   obtain⟨r,B,K,L⟩|g:=(b (a.hi-1)).1 ((dH a q _).2 (φ ⟨by omega,by omega⟩))
   have:=(n r B).2;omega;omega
  refine⟨⟨?_,x,rfl,⟨by omega,A⟩,λd hd=>?_,?_⟩,by omega,λd hd=>?_⟩
  show(E.drop 1).map cX=q;rw[List.map_drop,e2];rfl;have:=f.behind hd;omega;cases q with
  |nil=>rw[hl]at c;simp at c
  |cons y q=>exact ψ ⟨y.lo,(dH y q _).2 (φ ⟨cE _,f.2 y (by simp)⟩)⟩
  have C:Sm (a::q) d:=(b d).2 (hd.imp id (λe=>by omega));obtain g|g:=(dH a q d).1 C
  exact φ g.2;exact ψ g
 rw[aB c,aB (show¬(8:Int)<((cD Y ⟨t,t+1⟩).length:Int) by omega)];simp only
 refine⟨⟨e2,h.fl,rfl,h.f0,j,ψ ⟨t,(b t).2 (ψ ⟨cE _,by omega⟩)⟩⟩,cE _,λd hd=>ψ ((b d).2 (hd.imp id (λe=>by omega)))⟩
structure tU(af:List Rg)(z:cW)(n:Nat):Prop where
 ok:aU z.sp
 bd:∀r∈z.l,0<=r.lo/\r.hi<=4611686018427387903
 fl:z.floor=0
 mo:z.aH=1073741824
 len:z.l.length<=n
 all:∀d,Sm af d->Sm z.sp d
def tU.add{g:List Rg}{z:cW}(h:tU Y z n)(w:n<=1000000)(x:0<=p/\p<=4611686018427387903)(k:∀d,Sm g d->Sm Y d\/d=p):tU g (z.add p p) (n+1):=by
 have e1:max p z.floor=p:=by rw[h.fl];omega
 have e2:=yw (Y:=z.l) (cE p) h.ok;obtain⟨E,i⟩:=exq ((qv p p z.l).end_);rw[<-i]at e2;have y:E.length<=z.l.length+1:=by
  have:=uM (z.l.map cX) ⟨p,p+1⟩;rw[<-e2,dd,dd]at this;exact this
 have a:z.add p p={z with l:=E}:=by
  unfold cW.add cW.put;rw[e1,iN_,<-i,aB (by rw[h.mo];have:=h.len;omega)]
 have b:(z.add p p).sp=cD z.sp ⟨p,p+1⟩:=by rw[a];exact e2
 refine⟨by rw[b];exact lV _ h.ok,λr m=>?_,by rw[a];exact h.fl,by rw[a];exact h.mo,?_,λd hd=>?_⟩
 have c:cX r∈(z.add p p).sp:=eU.2 ⟨r,m,rfl⟩;have s:aU (z.add p p).sp:=by rw[b];exact lV _ h.ok
 have hp:=s.2 _ c;have j:∀d,Sm (z.add p p).sp d->0<=d/\d<=4611686018427387903:=λd hd=>by
  rw[b,iK _ h.ok]at hd;obtain⟨q,t,e,f⟩|⟨e,f⟩:=hd
  obtain⟨u,v,rfl⟩:=eU.1 t;have:=h.bd u v;simp only[cX]at e f;omega;simp only at e f;omega
 simp only[cX]at hp;have A:=j r.lo ⟨_,c,by simp only[cX];omega,by simp only[cX];omega⟩;have B:=j r.hi ⟨_,c,by simp only[cX];omega,by simp only[cX];omega⟩;omega;rw[a];have:=h.len;show E.length<=n+1;omega;rw[b,iK _ h.ok];obtain q|q:=k d hd
 exact φ (h.all d q);exact ψ (by simp only;omega)
def sA(m:an)(n:Nat):Prop:=∀k,k<4->(m.ins k).read<=1024*n/\(m.ins k).high<=(m.ins k).read+m.ag
structure dc(s:Sd)(m:an)(n:Nat):Prop where
 c:iS s m
 dN:tT s.af s.floor m.dN
 bG:tU s.af m.bG n
 due:∀d∈m.due,d<s.floor\/(Sm s.af d/\s.bQ=ρ)
 dl:m.due.length<=n
 rd:sA m n
 sl:(m.av.length:Int)<=m.next
def Rel:aE->an->Nat->Prop
 |.ai s,m,n=>dc s m n
 |.shut _ _,m,_=>m.closed≠0
def dc.mono(h:dc s X n)(a:n<=i):dc s X i:=
 ⟨h.c,h.dN,⟨h.bG.ok,h.bG.bd,h.bG.fl,h.bG.mo,bK h.bG.len a,h.bG.all⟩,h.due,bK h.dl a,λk b=>by have:=h.rd k b;omega,h.sl⟩
def iS.aK(h:iS s X):X.me=aK s.first/\1-X.me=aK (!s.first)/\(X.me=0\/X.me=1):=by
 rw[h.me];cases s.first<;>simp[Go.Proofs.YtjnmokmchdfchaaGreatDoor.aK]
def Fp(num:Int):∀(c:List Fr)(m:an),sq m (an.fI num c m).2\/(an.fI num c m).1≠0:=by
 intro c;induction c with
 |nil=>intro m;exact φ ⟨rfl,rfl,rfl,rfl,rfl,rfl,rfl,rfl,rfl,rfl,rfl⟩
 |cons f c d=>
  intro m;have e2:an.fI num (f::c) m=if(m.take f).1=0 then an.fI num c ((m.take f).2.note f num)else((m.take f).1,(m.take f).2.fail (m.take f).1):=rfl
  rw[e2];split;obtain h|h:=d ((m.take f).2.note f num)
  left;have a:=(yy m f).1;have b:=(tS (m.take f).2 f num).1;exact⟨h.aj.trans (b.aj.trans a.aj),h.ag.trans (b.ag.trans a.ag),h.key.trans (b.key.trans a.key),h.me.trans (b.me.trans a.me),h.closed.trans (b.closed.trans a.closed),h.code.trans (b.code.trans a.code),h.said.trans (b.said.trans a.said),h.next.trans (b.next.trans a.next),h.dN.trans (b.dN.trans a.dN),h.bG.trans (b.bG.trans a.bG),h.av.trans (b.av.trans a.av)⟩
  exact ψ h;rename_i e;exact ψ e
def Qw(num:Int)(d:List Int):∀(a:List Fr)(m:an),(m.due=d\/(m.due=d++[num]))->((an.fI num a m).2.due=d\/((an.fI num a m).2.due=d++[num]))/\(a.any kz=θ->(an.fI num a m).2.due=m.due):=by
 intro a;induction a with
 |nil=>intro m h;exact⟨h,λ_=>rfl⟩
 |cons f a c=>
  intro m h;have e2:an.fI num (f::a) m=if(m.take f).1=0 then an.fI num a ((m.take f).2.note f num)else((m.take f).1,(m.take f).2.fail (m.take f).1):=rfl
  rw[e2];have hd:=(yy m f).2;split;obtain⟨e,g⟩:=c ((m.take f).2.note f num) (PZ f (by rw[hd];exact h));refine⟨e,λb=>?_⟩
  simp only[List.any_cons,oD]at b;rw[g b.2];unfold an.note an.AE;rw[b.1];simp only[Bool.false_and,eN,eA]
  exact hd;refine⟨?_,λ_=>hd⟩
  show(m.take f).2.due=d\/(m.take f).2.due=d++[num];rw[hd];exact h
def Qx(h:sA X n)(d:I.kind=5->I.stream.toNat<4->(X.ins I.stream.toNat).given=θ->aT I<=(X.ins I.stream.toNat).read+X.ag):sA (X.take I).2 n/\∀k,((X.take I).2.ins k).read=(X.ins k).read:=by
 have key:∀(a:Nat)(r:aL),r.read=(X.ins a).read->(a<4->r.high<=(X.ins a).read+X.ag)->sA {X with ins:=ah X.ins a r} n/\∀k,(ah X.ins a r k).read=(X.ins k).read:=λa r e1 e2=>by
  refine⟨λk b=>?_,λk=>?_⟩
  by_cases e:k=a;subst e;have:=h k b;simp only[aR]
  rw[e1];exact⟨this.1,e2 b⟩
  simp only[aX _ _ e];exact h k b;by_cases e:k=a;subst e;rw[aR];exact e1;rw[aX _ _ e]
 unfold an.take;split;split;exact⟨h,λk=>rfl⟩
 exact⟨h,λk=>rfl⟩
 split;split;exact⟨h,λk=>rfl⟩
 exact key _ _ rfl (λb=>(h _ b).2);split;rename_i f;refine key _ _ ?_ (λb=>?_);unfold aL.bytes;split;rfl;split;rfl;rfl;have c:=(h _ b).2;unfold aL.bytes;split;exact c;split;exact c;rename_i g;have:=d f b (by simpa using g);show max _ _<=_;omega;split;exact⟨h,λk=>rfl⟩
 exact⟨h,λk=>rfl⟩
def Qy(num:Int):∀(a:List Fr)(m:an),sA m n->(∀f∈a,f.kind=5->f.stream.toNat<4->(m.ins f.stream.toNat).given=θ->aT f<=(m.ins f.stream.toNat).read+m.ag)->(an.fI num a m).1=0->sA (an.fI num a m).2 n:=by
 intro a;induction a with
 |nil=>intro m h _ _;exact h
 |cons f a p=>
  intro m h i h0;have e2:an.fI num (f::a) m=if(m.take f).1=0 then an.fI num a ((m.take f).2.note f num)else((m.take f).1,(m.take f).2.fail (m.take f).1):=rfl
  rw[e2]at h0⊢;obtain⟨q,r⟩:=Qx h (i f (by simp));have c:=tS (m.take f).2 f num;have j:((m.take f).2.note f num).ag=m.ag:=c.1.ag.trans (yy m f).1.ag;split;rename_i b;rw[aG b]at h0;have s:sA ((m.take f).2.note f num) n:=λk d=>by
   have:=q k d;rw[c.2.2.1,j];rw[(yy m f).1.ag]at this;exact this
  refine p _ s (λg t u d l=>?_) h0;rw[c.2.2.1]at l⊢;rw[j,r];refine i g (by simp[t]) u d ?_;have v:∀k,((m.take f).2.ins k).given=θ->(m.ins k).given=θ:=λk=>by
   unfold an.take;split;split;exact id;exact id;split;split;exact id;simp only[ah]
   split;intro e;cases e;exact id;split;simp only[ah]
   split;rename_i w;rw[w];exact PY;exact id;split;exact id;exact id
  exact v _ l;rename_i b;rw[aB b]at h0;exact absurd h0 b
def Qz(s:Sd)(f:Fr):(s.take f).2.af=s.af/\(s.take f).2.floor=s.floor/\(s.take f).2.bQ=s.bQ/\((s.take f).1=0\/(s.take f).1=7\/(s.take f).1=8\/(s.take f).1=10):=by
 unfold Sd.take;split;split;exact⟨rfl,rfl,rfl,ψ (ψ (φ rfl))⟩
 exact⟨rfl,rfl,rfl,φ rfl⟩
 split;split;exact⟨rfl,rfl,rfl,ψ (φ rfl)⟩
 exact⟨rfl,rfl,rfl,φ rfl⟩
 split;split;exact⟨rfl,rfl,rfl,ψ (φ rfl)⟩
 exact⟨rfl,rfl,rfl,φ rfl⟩
 split;exact⟨rfl,rfl,rfl,ψ (ψ (ψ rfl))⟩
 exact⟨rfl,rfl,rfl,φ rfl⟩
def QA(a:List Fr):∀s:Sd,(di s a).2.af=s.af/\(di s a).2.floor=s.floor/\(di s a).2.bQ=s.bQ:=by
 induction a with
 |nil=>intro s;exact⟨rfl,rfl,rfl⟩
 |cons f a e=>
  intro s;obtain⟨b,c,d,-⟩:=Qz s f;have e1:di s (f::a)=if(s.take f).1=0 then di (s.take f).2 a else s.take f:=rfl
  rw[e1];split;obtain⟨g,h,i⟩:=e (s.take f).2;exact⟨g.trans b,h.trans c,i.trans d⟩
  exact⟨b,c,d⟩
def QB(hs:aU Y)(h:Sm (eJ Y p t).1 r):Sm Y r\/r=t:=by
 have a:Sm (cD Y ⟨t,t+1⟩) r:=by
  unfold eJ at h;split at h;obtain⟨b,c,d⟩:=h;exact⟨b,iH c,d⟩
  exact h
 obtain q|q:=(iK _ hs r).1 a
 exact φ q;right;simp only at q;omega
def QC(h:dc s X n)(hs:bO s n)(hn:n<=90000)(hp:∀x∈L,W8 x):
 (X.fx L).1=(s.recv L).1/\(X.fx L).2.1=(s.recv L).2.1/\Rel (s.recv L).2.2 (X.fx L).2.2 (n+1):=by
 have C:=h.c;obtain⟨d1,d2,d3⟩:=C.aK;have v:=ET hp;have Q:X.fx L=if¬eH s.key (aK (!s.first)) L then(4,-1,X)else if im s.af s.floor (bm L)then(0,-1,X)else X.qw (bm L) (dJ s.key (aK (!s.first)) (bm L) (bX L)):=by
  unfold an.fx;rw[aB (by simpa using C.cl),d2,C.key,h.dN.has]
 rw[Q];by_cases r:eH s.key (aK (!s.first)) L;have t:¬¬eH s.key (aK (!s.first)) L:=λe=>e r
 have w:=r.2.2.2;cases y:im s.af s.floor (bm L);have z:(if¬eH s.key (aK (!s.first)) L then((4:Int),(-1:Int),X)else if θ=ρ then(0,-1,X)else X.qw (bm L) (dJ s.key (aK (!s.first)) (bm L) (bX L)))=X.qw (bm L) (dJ s.key (aK (!s.first)) (bm L) (bX L)):=by rw[aB t,aB (by simp)]
 rw[z];unfold Sd.recv;rw[aB t,aB (by rw[y];simp)];unfold an.qw;obtain⟨b,G⟩:=exq (dJ s.key (aK (!s.first)) (bm L) (bX L));have R:∀x∈b,W8 x:=by rw[G];exact vB (ES hp)
 rw[<-G];cases hd:fu b with
 |mk o q=>
  cases o with
  |none=>
   refine⟨rfl,rfl,?_⟩
   show(5:Int)≠0;omega
  |some a=>
   have u:=Ar hd;subst u;simp only
   have A:=yd hd;have S:=ER R hd;have T:a.any X.fH=a.any s.fH:=by
    have U:∀q:List Fr,(∀f∈q,cO f)->q.any X.fH=q.any s.fH:=λq=>by
     induction q with
     |nil=>intro _;rfl
     |cons g q V=>
      intro u;rw[List.any_cons,List.any_cons,V (λf i=>u f (by simp[i])),C.busy g (λ_=>(u g (by simp)).st)]
    exact U a A
   rw[T];cases W:a.any s.fH;simp only[eN,eA]
   have H:∀f∈a,s.fH f=θ:=λf i=>by
    have:=List.any_eq_false.1 W f i;simpa using this
   have Y:=EU hs ⟨v,w⟩ a;obtain⟨g1,g2,I⟩:=h.dN.add hs.kY hs.cr ⟨v,w⟩ y;have C1:iS (s.dM (bm L) a) (X.mark (bm L)):=C.nums _ _ _ _ _;have K:∀f∈a,f.kind=5->f.stream.toNat<4->(X.ins f.stream.toNat).given=θ->aT f<=(X.ins f.stream.toNat).read+X.ag:=λf i B l D=>by
    have M:=C.aF _ l;have N:=An (H f i) B (by rw[M.given];exact D);rw[<-M.fr,C.ag];exact N
   obtain⟨t1,t2,t3⟩:=Qu (n:=n) (by omega) (bm L) a _ _ C1 Y (λf i=>⟨A f i,(S f i).1,An (H f i),λB D=>by
    have a4:=(A f i).st;have l:f.stream.toNat<4:=by omega
    have N:=K f i B l D;have h2:=(h.rd _ l).1;have h3:=hs.ag;have h4:=C.ag;omega⟩)
   have E:=Qw (bm L) X.due a (X.mark (bm L)) (φ rfl);rw[t1];by_cases c0:(di (s.dM (bm L) a) a).1=0;rw[aG c0];refine⟨c0,rfl,?_⟩
   have O:=t2 c0;have hsame:=(Fp (bm L) a (X.mark (bm L))).resolve_right (by rw[t1];simpa using c0);have m:(di (s.dM (bm L) a) a).2.af=(eJ s.af s.floor (bm L)).1/\(di (s.dM (bm L) a) a).2.floor=(eJ s.af s.floor (bm L)).2/\(di (s.dM (bm L) a) a).2.bQ=(s.bQ||a.any kz):=QA a (s.dM (bm L) a);refine⟨O,?_,?_,λd p=>?_,?_,?_,?_⟩
   rw[m.1,m.2.1,hsame.dN];exact g1;rw[m.1,hsame.bG];refine h.bG.add (by omega) ⟨v,w⟩ (λd aC=>?_);exact QB hs.kY aC;rw[m.1,m.2.1,m.2.2];have a0:d∈X.due\/(d=bm L/\a.any kz=ρ):=by
    cases F:a.any kz;left;rw[E.2 F]at p;exact p;obtain e|e:=E.1
    rw[e]at p;exact φ p;rw[e]at p;obtain q|q:=bL.1 p
    exact φ q;exact ψ ⟨cA.1 q,rfl⟩
   obtain q|⟨q,F⟩:=a0
   obtain P|⟨P,q2⟩:=h.due d q
   exact φ (by omega);obtain j|j:=I d (φ P)
   exact φ j;exact ψ ⟨j,by rw[q2];rfl⟩;obtain j|j:=I d (ψ q)
   exact φ j;exact ψ ⟨j,by rw[F];simp⟩;have:=h.dl;obtain e|e:=E.1<;>rw[e]
   omega;simp;omega;have:=Qy (n:=n) (bm L) a (X.mark (bm L)) h.rd K (by rw[t1];exact c0);exact λk l=>by have:=this k l;omega
   rw[hsame.av,hsame.next];exact h.sl;rw[aB c0];obtain⟨m',O,e⟩:=t3 c0;refine⟨rfl,rfl,?_⟩
   rw[e];exact c0;exact⟨rfl,rfl,h.mono (by omega)⟩
 have z:(if¬eH s.key (aK (!s.first)) L then((4:Int),(-1:Int),X)else if ρ=ρ then(0,-1,X)else X.qw (bm L) (dJ s.key (aK (!s.first)) (bm L) (bX L)))=(0,-1,X):=by rw[aB t,aG rfl]
 rw[z];unfold Sd.recv;rw[aB t,aG y];exact⟨rfl,rfl,h.mono (by omega)⟩
 rw[aG r];unfold Sd.recv;rw[aG r];exact⟨rfl,rfl,h.mono (by omega)⟩
def qx.vN(h:qx s X)(k:Nat)(o:Ot)(r:da)(e1:o.h.af=(s.out k).h.af)(e2:(X.outs k).data.size<=r.data.size):qx {s with out:=ah s.out k o} {X with outs:=ah X.outs k r}:=by
 refine⟨λx a f c j d b g=>?_,h.back,λx a f c i h0=>?_,h.kD,h.eg⟩
 obtain q|q:=h.told x a f c j d b g
 left;show Sm (ah s.out k o j).h.af b;by_cases e:j=k;subst e;rw[aR,e1];exact q;rw[aX _ _ e];exact q;exact ψ q;have:=h.fz x a f c i h0;show aT f<=((ah X.outs k r f.stream.toNat).data.size:Int);by_cases e:f.stream.toNat=k;rw[e]at this;rw[e,aR];omega;rw[aX _ _ e];exact this
def dc.vN(h:dc s X n)(k:Nat)(o:Ot)(r:da)(e1:o.h.af=(s.out k).h.af)(e2:(X.outs k).data.size<=r.data.size)(b:k<4->gC o r):dc {s with out:=ah s.out k o} {X with outs:=ah X.outs k r} n:=by
 have C:=h.c;refine⟨⟨C.aj,C.ag,C.key,C.me,C.cl,C.said,C.next,λj a=>?_,C.aF,C.fU,C.fl.vN k o r e1 e2⟩,h.dN,h.bG,h.due,h.dl,h.rd,h.sl⟩
 by_cases e:j=k;subst e;simp only[aR];exact b a;simp only[aX _ _ e];exact C.out j a
def vO(h:X.closed=0)(k:Int):X.of k=if k<0\/4<=k then 2 else 0:=by
 unfold an.of;rw[aB (by simpa using h)]
def gC.shut{r:da}(h:gC G r):(r.finished||r.given)=(G.sE||G.sG):=by
 rw[h.sg];cases a:r.given;rw[h.se a];simp
def QD(h:dc s X n)(hs:bO s n)(k:Int)(d:ByteArray):
 (X.write k d).1=(aE.write (.ai s) k (aI d)).1/\(X.write k d).2.1=(aE.write (.ai s) k (aI d)).2.1/\Rel (aE.write (.ai s) k (aI d)).2.2 (X.write k d).2.2 n:=by
 have a:=vO h.c.cl k;unfold an.write aE.write;by_cases b:k<0\/4<=k;rw[aG b]at a;rw[a];simp only[aG b]
 exact⟨by first|rfl|trivial,by first|rfl|trivial,h⟩
 rw[aB b]at a;rw[a];simp only[aB b]
 have e:k.toNat<4:=by omega
 have R:=h.c.out _ e;have g:=hs.out _ e;have f:=R.shut;rw[aB (by simp),f];unfold Sd.write;cases l:((s.out k.toNat).sE||(s.out k.toNat).sG);simp only[eN,eA]
 have i:(X.outs k.toNat).given=θ:=by
  rw[l,oD]at f;exact f.2
 have j:=hs.og _ e;have m:=R.fT i g.fr j (aI d).length;have e1:X.fT k.toNat d.size=((s.out k.toNat).fT (aI d).length s.ag:Nat):=by
  rw[m];unfold an.fT;rw[h.c.ag,fN]
 rw[e1];refine⟨by first|rfl|trivial,by first|rfl|trivial,?_⟩
 rw[oE];refine h.vN _ _ _ rfl ?_ (λ_=>R.write i g.fr j d);show _<=((X.outs k.toNat).data++_).size;rw[ByteArray.size_append];omega;simp only[dC]
 exact⟨by first|rfl|trivial,by first|rfl|trivial,h⟩
def QE(h:dc s X n)(k:Int):(X.finish k).1=(aE.finish (.ai s) k).1/\Rel (aE.finish (.ai s) k).2 (X.finish k).2 n:=by
 have a:=vO h.c.cl k;unfold an.finish aE.finish;by_cases b:k<0\/4<=k;rw[aG b]at a;rw[a];simp only[aG b]
 exact⟨by first|rfl|trivial,h⟩
 rw[aB b]at a;rw[a];simp only[aB b]
 have e:k.toNat<4:=by omega
 have R:=h.c.out _ e;have d:=R.shut;rw[aB (by simp),d];unfold Sd.finish;cases f:((s.out k.toNat).sE||(s.out k.toNat).sG);simp only[eN,eA]
 have g:(X.outs k.toNat).given=θ:=by
  rw[f,oD]at d;exact d.2
 exact⟨by first|rfl|trivial,h.vN _ _ _ rfl (aP _) (λ_=>R.finish g)⟩
 simp only[dC]
 exact⟨by first|rfl|trivial,h⟩
def QF(h:dc s X n)(k code:Int):(X.giveUp k code).1=(aE.giveUp (.ai s) k code).1/\Rel (aE.giveUp (.ai s) k code).2 (X.giveUp k code).2 n:=by
 have a:=vO h.c.cl k;unfold an.giveUp aE.giveUp;by_cases b:k<0\/4<=k;rw[aG b]at a;rw[a];simp only[aG b]
 exact⟨by first|rfl|trivial,h⟩
 rw[aB b]at a;rw[a];simp only[aB b]
 have e:k.toNat<4:=by omega
 have R:=h.c.out _ e;rw[aB (by simp),<-R.sg];unfold Sd.giveUp;by_cases d:(s.out k.toNat).sG=ρ\/4611686018427387903<code;rw[aG d,aG d];exact⟨by first|rfl|trivial,h⟩
 rw[aB d,aB d];exact⟨by first|rfl|trivial,h.vN _ _ _ rfl (aP _) (λ_=>R.giveUp code)⟩
def Fq(h:dc s X n)(k:Int):X.af k=aE.af (.ai s) k:=by
 have a:=vO h.c.cl k;unfold an.af aE.af;by_cases b:k<0\/4<=k;rw[aG b]at a;rw[a];simp only[aG b]
 rfl;rw[aB b]at a;rw[a];simp only[aB b]
 rw[aB (by simp),(h.c.out k.toNat (by omega)).fr]
def QG(h:dc s X n)(hs:bO s n)(k aH:Int):
 (X.read k aH).1=(aE.read (.ai s) k aH).1/\(X.read k aH).2.1=(aE.read (.ai s) k aH).2.1/\(X.read k aH).2.2.1=(aE.read (.ai s) k aH).2.2.1/\(X.read k aH).2.2.2.1=(aE.read (.ai s) k aH).2.2.2.1/\Rel (aE.read (.ai s) k aH).2.2.2.2 (X.read k aH).2.2.2.2 (n+1):=by
 have a:=vO h.c.cl k;unfold an.read aE.read;by_cases b:k<0\/4<=k;rw[aG b]at a;rw[a];simp only[aG b]
 exact⟨rfl,rfl,rfl,rfl,h.mono (by omega)⟩
 rw[aB b]at a;rw[a];simp only[aB b]
 have d:k.toNat<4:=by omega
 have R:=h.c.aF _ d;have i:=hs.aF _ d;have f:=h.c.fU _ d;obtain⟨l,m,p,q⟩:=R.read i f aH;rw[aB (by simp)];refine⟨l,m,p,rfl,?_⟩
 have r:=h.c.oh k.toNat _ _ (λ_=>q) (λ_=>f.cR aH);refine⟨r,h.dN,⟨h.bG.ok,h.bG.bd,h.bG.fl,h.bG.mo,bK h.bG.len (by omega),h.bG.all⟩,h.due,bK h.dl (by omega),λj t=>?_,h.sl⟩
 have v:=h.rd j t;by_cases e:j=k.toNat;subst e;have w:=hs.ag;have x:=h.c.ag;have u:=(f.cR aH).rd;have g:((X.ins k.toNat).cR aH).high=(X.ins k.toNat).high:=by
  unfold aL.cR aL.stop aL.lq aL.start;split<;>split<;>rfl
 have y:(X.ins k.toNat).read<=((X.ins k.toNat).cR aH).read:=by
  unfold aL.cR aL.stop aL.lq aL.start;split<;>split<;>(simp only;omega)
 show(ah X.ins k.toNat _ k.toNat).read<=_/\(ah X.ins k.toNat _ k.toNat).high<=(ah X.ins k.toNat _ k.toNat).read+X.ag;rw[aR,g];rw[g]at u;omega;show(ah X.ins k.toNat _ j).read<=_/\(ah X.ins k.toNat _ j).high<=(ah X.ins k.toNat _ j).read+X.ag;rw[aX _ _ e];omega
def QH(h:dc s X n):dc s.bC X n:=by
 have C:=h.c;have a:∀p,p∈s.bC.aw++s.bC.lost↔p∈s.aw++s.lost:=λp=>by
  unfold Sd.bC;split;simp only[jL,bL]
  exact Or.comm;exact Iff.rfl
 have d:s.bC.out=s.out:=by unfold Sd.bC;split<;>rfl
 have e:s.bC.aF=s.aF:=by unfold Sd.bC;split<;>rfl
 have g:s.bC.aj=s.aj/\s.bC.ag=s.ag/\s.bC.key=s.key/\s.bC.first=s.first/\s.bC.count=s.count/\s.bC.af=s.af/\s.bC.floor=s.floor/\s.bC.bQ=s.bQ:=by
  unfold Sd.bC;split<;>exact⟨rfl,rfl,rfl,rfl,rfl,rfl,rfl,rfl⟩
 obtain⟨i,j,l,m,a5,a6,a7,r⟩:=g;refine⟨⟨by rw[i];exact C.aj,by rw[j];exact C.ag,by rw[l];exact C.key,by rw[m];exact C.me,C.cl,C.said,by rw[a5];exact C.next,by rw[d];exact C.out,by rw[e];exact C.aF,C.fU,⟨λx t f u k v b w=>?_,λp hp=>C.fl.back p ((a p).1 hp),C.fl.fz,C.fl.kD,λp hp=>C.fl.eg p ((a p).1 hp)⟩⟩,by rw[a6,a7];exact h.dN,by rw[a6];exact h.bG,by rw[a6,a7,r];exact h.due,h.dl,h.rd,h.sl⟩
 rw[d];obtain q|⟨p,hp,q⟩:=C.fl.told x t f u k v b w
 exact φ q;exact ψ ⟨p,(a p).2 hp,q⟩
def QI(h:dc s X n)(code:Int):(X.close code).1=(aE.close (.ai s) code).1/\Rel (aE.close (.ai s) code).2 (X.close code).2 n:=by
 have a:¬X.closed≠0:=λe=>e h.c.cl
 unfold an.close aE.close;rw[aB a];by_cases c:4611686018427387903<code;simp only[aG c]
 exact⟨by first|rfl|trivial,h⟩
 simp only[aB c]
 exact⟨by first|rfl|trivial,show(9:Int)≠0 by omega⟩
def QJ(h:jT q t):dc (Sd.new q t L B) (an.new q t L B) 0:=by
 have b:0<=t:=by unfold jT at h;omega
 refine⟨⟨rfl,rfl,rfl,rfl,rfl,rfl,rfl,λk _=>gC.new,λk _=>ju.new,λk _=>⟨rfl,rfl,by simp[an.new,aL.new],by simp[an.new,aL.new],by simp[an.new,aL.new]⟩,⟨λx a=>(by cases a),λp hp=>(by cases hp),λx a=>(by cases a),λx a=>(by cases a),λp hp=>(by cases hp)⟩⟩,⟨rfl,rfl,rfl,by simp[Sd.new],λn c=>absurd c (fP n),φ rfl⟩,⟨aU.nil,λr e=>(by cases e),rfl,rfl,aP _,λd hd=>absurd hd (fP d)⟩,λd hd=>(by cases hd),aP _,λk _=>by simp[an.new,aL.new];exact b,by simp[an.new]⟩
def mh(r:Rs)(v:υ):Array υ:= #[ι δ r.e,ι δ r.at_,ι δ r.n,ι η r.code,ς (strOfNums r.data),v]
def vS(w:ω)(xb sb:Nat)(A:Nat->Prop)(r:Rs×aE)(e:Ending)(b:ω):Prop:=
 ∃a n c,e=ξ (ε (mh r.1 (σ a n c)))/\gH b w.heap.size (σ a n c) r.1.bB/\∃d,cI b xb sb r.2 d/\(∀k,d k->A k\/w.heap.size<=k)/\ay w b A/\∀j,(Value.slice a n c).ownBlock=μ j->¬d j
def RL(a c d f g a5:υ):ay w ((((((ζ w ⟨b,0,ν⟩ a).setCell ⟨b,1,ν⟩ c).setCell ⟨b,2,ν⟩ d).setCell ⟨b,3,ν⟩ f).setCell ⟨b,4,ν⟩ g).setCell ⟨b,5,ν⟩ a5) (λj=>j=b):=
 (ay.of (aM (aM (aM (aM (aM (aM (aD w (μ b)) ⟨b,0,ν⟩ a (ψ rfl)) ⟨b,1,ν⟩ c (ψ rfl)) ⟨b,2,ν⟩ d (ψ rfl)) ⟨b,3,ν⟩ f (ψ rfl)) ⟨b,4,ν⟩ g (ψ rfl)) ⟨b,5,ν⟩ a5 (ψ rfl))).mono (λk _ e=>(aQ e).symm)
def RM{g i j:υ}(h:w.heap[b]?=μ (ο #[x,y,z,g,i,j] T (0,0)))(a c d e f a5:υ):((((((ζ w ⟨b,0,ν⟩ a).setCell ⟨b,1,ν⟩ c).setCell ⟨b,2,ν⟩ d).setCell ⟨b,3,ν⟩ e).setCell ⟨b,4,ν⟩ f).setCell ⟨b,5,ν⟩ a5).heap[b]?=μ (ο #[a,c,d,e,f,a5] T (0,0)):=
 heap_set (heap_set (heap_set (heap_set (heap_set (heap_set h a) c) d) e) f) a5
def RN:(prog.info? 46).map (·.size)=μ 6:=by kernel_rfl
def vS.of{d:ω}{r:Rs×aE}(g:γ w W ν)(p:∀k,S k->k<w.heap.size)(f:gH V W.heap.size (σ a n m) r.1.bB)(s:cI V i l r.2 P)(h:∀k,P k->S k\/W.heap.size<=k)(C:ay W V S)(t:∀j,(Value.slice a n m).ownBlock=μ j->¬P j){R:Nat}(z:w.heap.size<=R)(A:R<W.heap.size)(b:ay V d (λk=>k=R))(u:x=ε (mh r.1 (σ a n m))):vS w i l S r (ξ x) d:=by
 refine⟨a,n,m,by rw[u],(f.aA b (λk e e2=>?_)).low g.size,P,s.other b (λk _ e v=>?_),λk c=>(h k c).imp id (λq=>bK g.size q),?_,t⟩
 have:=(f.lt k e).1;omega;obtain q|q:=h k v
 have:=p k q;omega;omega;refine⟨b.os.trans (C.os.trans g.os),b.tape.trans (C.tape.trans g.tape),b.output.trans (C.output.trans g.output),bK g.size (bK C.size b.size),λk c y=>?_⟩
 rw[b.block k (by have:=C.size;omega) (by omega),C.block k (by omega) y];exact g.block k c (by simp)
def FJ(w:ω)(xb sb:Nat)(st:aE)(A:Nat->Prop)(n:Nat)(h:cI w xb sb st A)(F:fh n st)(G:n<=100000)(H:Laid w)(q:gy)(I:aW q.code)(hd:q.data.size<=1000000)(B:Aw q (st.do q).2):
 Calls prog 28 #[π (μ ⟨xb,0,ν⟩),ε (dB q)] w (vS w xb sb A (st.do q)):=by
 obtain⟨d,f⟩:=exq ((w.alloc (ο (dB q) 32)).alloc (ο #[ι δ 0,ι δ 0,ι δ 0,ι η 0,ς ⟨#[]⟩,σ ν 0 0] 46));have t:γ w d ν:=by rw[f];exact aq (aJ _ _ ν) (aJ _ _ ν)
 have Q:d.heap.size=w.heap.size+2:=by rw[f,eh,eh]
 have u:d.heap[w.heap.size]?=μ (ο (dB q) 32 (0,0)):=by rw[f];exact(heap_alloc_old _ _ (by rw[eh];omega)).trans (aO _ _)
 have b1:d.heap[w.heap.size+1]?=μ (ο #[ι δ 0,ι δ 0,ι δ 0,ι η 0,ς ⟨#[]⟩,σ ν 0 0] 46 (0,0)):=by rw[f];have:=aO (w.alloc (ο (dB q) 32)) (ο #[ι δ 0,ι δ 0,ι δ 0,ι η 0,ς ⟨#[]⟩,σ ν 0 0] 46);rw[eh]at this;exact this
 have s:=O5 d xb sb st A n (h.au t) F G (H.gb t) q I hd B;clear B;have D:=h.lt;have x:∀b,ay d b A->b.heap[w.heap.size+1]?=μ (ο #[ι δ 0,ι δ 0,ι δ 0,ι η 0,ς ⟨#[]⟩,σ ν 0 0] 46 (0,0)):=λb C=>(C.block _ (by omega) (λe=>by have:=D _ e;omega)).trans b1
 obtain⟨d0,d1,d2,d3,d4⟩:κ d ⟨w.heap.size,0,ν⟩=μ (ι δ q.op)/\κ d ⟨w.heap.size,1,ν⟩=μ (ι δ q.stream)/\κ d ⟨w.heap.size,2,ν⟩=μ (ι δ q.n)/\κ d ⟨w.heap.size,3,ν⟩=μ (ι η q.code)/\κ d ⟨w.heap.size,4,ν⟩=μ (ς q.data):=by simp[World.cell?,u,dB]
 obtain⟨op,stream,K,code,data⟩:=q;simp only at *;unfold dB at *;obtain⟨r,E⟩:=exq (st.do ⟨op,stream,K,code,data⟩);rw[<-E]at s⊢;clear E;replace⟨u,b1,x,s⟩:=fE u b1 x s;have L:=J (λ(b M:ω)(g:Nat->Prop)(a:Option Addr)(m c:Nat)(i:gH b d.heap.size (σ a m c) r.1.bB)(l:cI b xb sb r.2 g)(y:∀k,g k->A k\/d.heap.size<=k) (C:ay d b A) (z:∀j,(Value.slice a m c).ownBlock=μ j->¬g j) (N:ay b M (λk=>k=w.heap.size+1)) (v:υ) (O:v=ε (mh r.1 (σ a m c)))=>vS.of (R:=w.heap.size+1) t D i l y C z (by omega) (by omega) N O);replace h:=J h;go_enter func28,ntmps28;go_upto_region 1 with fail;rw[<-f];clear f;go_wp2_with (go_at_call 60;apply(Z s).mono;rintro e b⟨a,m,c,rfl,i,g,l,y,C,z⟩;have p:=Z x b C;obtain⟨S,T,U,V,W,X⟩:κ b ⟨w.heap.size+1,0,ν⟩=μ (ι δ 0)/\κ b ⟨w.heap.size+1,1,ν⟩=μ (ι δ 0)/\κ b ⟨w.heap.size+1,2,ν⟩=μ (ι δ 0)/\κ b ⟨w.heap.size+1,3,ν⟩=μ (ι η 0)/\κ b ⟨w.heap.size+1,4,ν⟩=μ (ς ⟨#[]⟩)/\κ b ⟨w.heap.size+1,5,ν⟩=μ (σ ν 0 0):=(by simp[World.cell?,p]);have fz:∀o,χ b ⟨w.heap.size+1,o,ν⟩=θ:=(λo=>by simp[World.frozen?,p]);replace p:=J p;replace l:=J l;replace i:=J i);have P:=RM (Z p) (ι δ r.1.e) (ι δ r.1.at_) (ι δ r.1.n) (ι η r.1.code) (ς (strOfNums r.1.data)) (σ a m c);exact df (results_cell_row results28 _ _ (w.heap.size+1) 46 _ (0,0) _ (by rfl) P underlying46 (by rfl) RN) rfl (Z L _ _ g a m c (Z i) (Z l) y C z (RL _ _ _ _ _ _) _ rfl)
def yK(key:List Int)(f:Bool)(l:List Int)(c:Nat)(bad d:υ)(e:Ending)(g:ω):Prop:=
 (eH key (aK f) l/\∃a b,e=ξ (τ #[ι η (bm l),σ a (l.length-16) b,d])/\bN g a (l.length-16) b (dJ key (aK f) (bm l) (bX l))/\∀x,a=μ x->c<=x.block)\/
   (¬eH key (aK f) l/\e=ξ (τ #[ι η 0,σ ν 0 0,bad]))
def RO(w:ω)(key:List Int)(f:Bool)(a:Option Addr)(m cap:Nat)(l:List Int)(i:eP key)(d:bN w a m cap l):
 Calls prog 135 #[ε (cV key),β f,σ a m cap] w λe b=>yK key f l w.heap.size (.iface 34 (ι δ 4)) .nilIface e b/\γ w b ν:=by
 by_cases hl:l.length<16\/300<l.length;apply(Ei key f a m cap l w d hl).mono;rintro e b⟨rfl,g⟩;exact⟨ψ ⟨λh=>by have:=h.1;have:=h.2.1;omega,rfl⟩,g⟩
 apply(Eo key f a m cap l w i d).mono;rintro e b⟨h,g⟩;refine⟨?_,g⟩
 obtain⟨c,j,k,rfl,n,p,-⟩|⟨c,rfl⟩:=h
 exact φ ⟨c,j,k,rfl,n,p⟩;exact ψ ⟨c,rfl⟩
def RP(w:ω)(key:List Int)(f:Bool)(a:Option Addr)(m cap:Nat)(l:List Int)(h:eP key)(k:bN w a m cap l):
 Calls prog 102 #[ε (cV key),β f,σ a m cap] w λe i=>yK key f l w.heap.size (.iface 34 (ι δ 4)) .nilIface e i/\γ w i ν:=by
 have n:=qm h;have c:=aO w (ο (cV key) 24);have p:=J (RO (w.alloc (ο (cV key) 24)) key f a m cap l h (k.au (aJ _ _ _)));generalize cV key=K at *;replace c:=J c;go_enter func102,ntmps102;go_wp2_with (refine rM _ (by rfl) (by rfl) _ (by rfl) K ?_ n ?_;exact Z c);apply(Z p).mono;rintro e u⟨⟨b,q,r,rfl,d,s⟩|⟨b,rfl⟩,j⟩
 ·have g:=J b;clear b;replace d:=J d;go_wp2;go_ret3;exact⟨φ ⟨Z g,q,r,rfl,Z d,λx t=>(by have:=s x t;rw[eh]at this;omega)⟩,aq (aJ _ _ _) j⟩
 have g:=J b;clear b;go_wp2;go_ret3;exact⟨ψ ⟨Z g,rfl⟩,aq (aJ _ _ _) j⟩
def FK(w:ω)(key:List Int)(f:Bool)(a:Option Addr)(m cap:Nat)(l:List Int)(B:eP key)(s:Laid w)(p:bN w a m cap l)(hl:l.length<=50000000):
 Calls prog 61 #[ε (cV key),β f,σ a m cap] w λe C=>yK key f l w.heap.size (ι δ 4) (ι δ 0) e C/\γ w C ν:=by
 have G:=qm B;obtain⟨D,q⟩:=exq (w.alloc (ο (cV key) 24));have d:γ w D ν:=by rw[q];exact aJ _ _ _
 have t:D.heap[w.heap.size]?=μ (ο (cV key) 24 (0,0)):=by rw[q];exact aO _ _
 have H:=J (p.au d);replace t:=J t;have I:=J (λ(a:Option Addr)(m cap:Nat)(W:ω)(p:bN W a m cap l)=>RP W key f a m cap l B p);generalize cV key=K at *;clear p;have E:=J (s.gb d);have R:=s.lt;clear s;go_enter func61,ntmps61;go_upto_region 1 with fail;rw[<-q];clear q;go_wp2_with (first|(refine BH (by rfl) _ (by rfl) _ _ _ l (by rfl) (Z H) (by omega) ?_;intro S c2 T b c;replace b:=J b)|(refine rM _ (by rfl) (by rfl) _ (by rfl) K ?_ G ?_;exact ja (Z t) c));apply(Z I _ _ _ _ (Z b).iy).mono;rintro e U⟨⟨n,L,M,rfl,u,F⟩|⟨n,rfl⟩,g⟩
 ·have v:=J n;clear n;replace u:=J u;have y:=J ((Z b).au g);go_wp2_with fail;apply(wU _ _ _ l _ _ (Z y) (by omega)).mono;rintro e z⟨rfl,h⟩;have N:=d.size;have i:=J (Z b).lt;have k:Laid z:=(((Z E).gb c).gb g).gb h (λe=>by have:=Z i _ e;omega);replace k:=J k;go_wp2_with fail;apply(Al _).mono;rintro e O⟨rfl,r⟩;go_wp2;go_ret3;have P:=(Z u).gb h (λj e=>ψ (ψ (λx A=>by have V:=F x A;have X:=Z i _ e;have Q:=c.size;omega)));exact⟨φ ⟨Z v,L,M,rfl,P.au r,λx A=>(by have:=F x A;have Q:=c.size;omega)⟩,aq (cT (aq (aq d c) g) h (λj e=>φ (by have:=Z i _ e;omega))) r⟩
 have v:=J n;clear n;have y:=J ((Z b).au g);go_wp2_with fail;apply(wU _ _ _ l _ _ (Z y) (by omega)).mono;rintro e z⟨rfl,h⟩;have N:=d.size;have i:=J (Z b).lt;have k:Laid z:=(((Z E).gb c).gb g).gb h (λe=>by have:=Z i _ e;omega);replace k:=J k;go_wp2_with fail;apply(Ea 4 _ (Z k)).mono;rintro e O⟨rfl,r⟩;go_wp2;go_ret3;exact⟨ψ ⟨Z v,rfl⟩,aq (cT (aq (aq d c) g) h (λj e=>φ (by have:=Z i _ e;omega))) r⟩
def bh(c n:Int):Nat:=((if c<0 then-(c+1)else c) %n).toNat
def fk(c:Int)(a:0<p):(bh c p:Int)<p:=by
 unfold bh;have b:=Int.emod_nonneg (if c<0 then-(c+1)else c) (show p≠0 by omega);have d:=Int.emod_lt_of_pos (if c<0 then-(c+1)else c) a;omega
def fJ(c n:Int)(w:ω)(d: -9223372036854775808<=c)(f:c<=9223372036854775807)(j:0<n:=by omega)(k:n<=1000000000:=by omega):
 Calls prog 23 #[ι δ c,ι δ n] w λe g=>e=ξ (ι δ (bh c n:Int))/\g=w:=by
 have a:∀x:Int,-9223372036854775808<=x->x<=9223372036854775807->IntKind.i64.wrap x=x:=λx d f=>by simp[IntKind.wrap,IntKind.bits,IntKind.signed];omega
 replace a:=J a;have l:(n==0)=θ:=by simp;omega
 have hp:∀x:Int,(0<=x)->x.tmod n=((x %n).toNat:Int):=λx h=>by
  rw[Int.tmod_eq_emod_of_nonneg h];have:=Int.emod_nonneg x (show n≠0 by omega);omega
 replace hp:=J hp;by_cases b:c<0
 ·have i:decide (c<0)=ρ:=by simp[b]
  have e1:=Z a (c+1) (by omega) (by omega);have e2:=Z a (-(c+1)) (by omega) (by omega);have m:=Z a (-1+ -c) (by omega) (by omega);go_enter func23,ntmps23;go_wp2;go_ret;have hi:=Z hp (-(c+1)) (by omega);rw[Int.neg_tmod]at hi;refine⟨?_,rfl⟩
  rw[hi];unfold bh;rw[aG b];rfl
 have i:decide (c<0)=θ:=by simp[b]
 go_enter func23,ntmps23;go_wp2;go_ret;have hi:=Z hp c (by omega);refine⟨?_,rfl⟩
 unfold bh;rw[aB (show¬c<0 by omega)];rw[<-hi,Int.tmod_eq_emod_of_nonneg (show(0:Int)<=c by omega)];rfl
