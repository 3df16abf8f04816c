import Derived.Test.YtjnmokmchdfchaaGreatDoorZLp
set_option maxRecDepth 1000000
set_option maxHeartbeats 0
set_option linter.all false
namespace Go.Proofs.YtjnmokmchdfchaaGreatDoor
open Go.RowKit Tryz
open Go.Value renaming int→ι,slice→σ,bool→β,pointer→π,agg→ε,string→ς,tuple→τ
open Go.IntKind renaming i64→δ,u64→η,u8→Δ
open Go.Ending renaming returned→ξ
open Go.Obj renaming cells→ο
open Or renaming inl→φ,inr→ψ
open Option renaming some→μ,none→ν
open Bool renaming true→ρ,false→θ
open Go renaming World→ω,Value→υ
open Go.World renaming grownBy→γ,cell?→κ,frozen?→χ,setCell→ζ
attribute[local go_sem↓]Go.wp_at_zero Go.wp_at_succ
section
variable{p q r:Int}{L:List Int}{Y:List Rg}{i j k l m n o:Nat}{F:Nat->an}{f:Ns}{D:Nw}{s:Sd}{W w:ω}{X:an}
def SW{B:List (Int×ByteArray)}{a b:List (List Int)}{u1:Sd}(E:f.V.aN=B++(a.map (λp=>((1:Int),strOfNums p))++b.map (λp=>((0:Int),strOfNums p))))(h0:f.V.st 0=.ai s)(F:f.V.st 1=.ai u1):
 ∀c,c<=a.length+b.length->∀k,Steps (λq=>lS (B.length+q)) c f k->∃t u,k.V.st 0=.ai t/\k.V.st 1=.ai u/\lr u1 ((jJ a).take c) u/\lr s ((jJ b).take (c-a.length)) t/\k.V.aN=f.V.aN:=by
 intro c;induction c with
 |zero=>
  intro _ k h;have e:f=k:=h;subst e;exact⟨s,u1,h0,F,by simp[lr],by simp[lr],rfl⟩
 |succ c G=>
  intro L k h;obtain⟨d,hd,H⟩:=h;obtain⟨t,u,e0,e1,y,z,eb⟩:=G (by omega) d hd;obtain⟨-,-,i,r,l,p,M,hi,m,g,n,-⟩:=H;have A:k.V.aN=f.V.aN:=by rw[n];exact eb
  rw[eb,E]at m g;by_cases v:c<a.length;have eq:jf (B++(a.map (λp=>((1:Int),strOfNums p))++b.map (λp=>((0:Int),strOfNums p)))) (B.length+c)=(1,strOfNums a[c]):=by
   unfold jf;rw[oy,gR_,show B.length+c-B.length=c by omega,mm (by simpa using v),uo,dT v];rfl
  rw[eq]at m g;have w:i=1:=by simp only at m;omega
  subst w;simp only at g;rw[e1]at g;obtain⟨I,K,x⟩:=AS g;refine⟨t,l,?_,?_,?_,?_,A⟩
  rw[n];show ah d.V.st 1 (.ai l) 0=_;rw[aX _ _];exact e0;rw[n];show ah d.V.st 1 (.ai l) 1=_;rw[aR];have:(jJ a).take (c+1)=(jJ a).take c++[aI (strOfNums a[c])]:=by
   rw[pS];unfold jJ;rw[uo,dT v];rfl
  rw[this];exact y.snoc x;rw[show c+1-a.length=c-a.length by omega];exact z;obtain⟨j,C⟩:=exq (c-a.length);have D:j<b.length:=by omega
  have eq:jf (B++(a.map (λp=>((1:Int),strOfNums p))++b.map (λp=>((0:Int),strOfNums p)))) (B.length+c)=(0,strOfNums b[j]):=by
   unfold jf;rw[oy,gR_,show B.length+c-B.length=c by omega,mU (by simp;omega),dd,<-C,uo,dT D];rfl
  rw[eq]at m g;have w:i=0:=by simp only at m;omega
  subst w;simp only at g;rw[e0]at g;obtain⟨I,K,x⟩:=AS g;refine⟨l,u,?_,?_,?_,?_,A⟩
  rw[n];show ah d.V.st 0 (.ai l) 0=_;rw[aR];rw[n];show ah d.V.st 0 (.ai l) 1=_;rw[aX _ _];exact e1;have:(jJ a).take (c+1)=(jJ a).take c:=by
   rw[jx (by unfold jJ;simp;omega),jx (by unfold jJ;simp;omega)]
  rw[this];exact y;have:(jJ b).take (c+1-a.length)=(jJ b).take (c-a.length)++[aI (strOfNums b[j])]:=by
   rw[show c+1-a.length=c-a.length+1 by omega,<-C,pS];unfold jJ;rw[uo,dT D];rfl
  rw[this];exact z.snoc x
def Gn{a:Sd}{r:Rs}(h:(aE.ai s).do ⟨4,0,0,0,⟨#[]⟩⟩=(r,.ai a)):a=s.bC:=by
 have e:(aE.ai s).do ⟨4,0,0,0,⟨#[]⟩⟩=(⟨0,-1,0,0,[],[]⟩,.ai s.bC):=by
  unfold aE.do;simp only[aE.tick]
  simp
 rw[e]at h;exact(aE.ai.inj (jl h).2).symm
def Bi{a:Sd}{r:Rs}(h:(aE.ai s).do ⟨5,0,0,0,⟨#[]⟩⟩=(r,.ai a)):a=s.bB.1/\r.bB=s.bB.2:=by
 have e:(aE.ai s).do ⟨5,0,0,0,⟨#[]⟩⟩=(⟨0,-1,0,0,[],s.bB.2⟩,.ai s.bB.1):=by
  unfold aE.do;simp only[aE.bB]
  simp
 rw[e]at h;have b:=jl h;exact⟨(aE.ai.inj b.2).symm,by rw[<-b.1]⟩
def SX{a:Sd}{r:Rs}(b:k<4)(h:(aE.ai s).do ⟨7,(k:Int),5000,0,⟨#[]⟩⟩=(r,.ai a)):∃I,a={s with aF:=I}:=by
 have e:((aE.ai s).do ⟨7,(k:Int),5000,0,⟨#[]⟩⟩).2=((aE.ai s).read (k:Int) 5000).2.2.2.2:=by
  unfold aE.do;simp
 have e2:((aE.ai s).read (k:Int) 5000).2.2.2.2=.ai {s with aF:=ah s.aF ((k:Int)).toNat ((s.aF ((k:Int)).toNat).read 5000)}:=by
  unfold aE.read;simp only
  rw[iN_]
 rw[h]at e;exact⟨_,aE.ai.inj (e.trans e2)⟩
def SY(e:Nat->Nat->End)(i:Nat)(p:Nat->Int):∀j x k,(gT e i p j x k).wrote=(e x k).wrote:=by
 intro j x k;unfold gT;split<;>rfl
def SZ:∀c(a b:Ns),a.ok->Steps (λq=>lS (j+q)) c a b->b.ok/\b.n=a.n+c/\∀i k,(b.V.e i k).wrote=(a.V.e i k).wrote:=by
 intro c;induction c with
 |zero=>intro a b h q;have e:a=b:=q;subst e;exact⟨h,rfl,λ_ _=>rfl⟩
 |succ c f=>
  intro a b h q;obtain⟨d,hd,g⟩:=q;obtain⟨-,l,m⟩:=f a d h hd;obtain⟨s,t,i,r,v,p,w,-,-,-,u,-⟩:=g;exact⟨s,by rw[t,l];omega,λx k=>by rw[u];exact(SY d.V.e i p 4 x k).trans (m x k)⟩
def Gp(hi:i<2):∀c,c<=4->∀(d e:Ns),d.ok->Steps (ml i) c d e->e.ok/\e.n=d.n+c/\e.V.aN=d.V.aN/\(∀x k,(e.V.e x k).wrote=(d.V.e x k).wrote)/\(∀j s,d.V.st j=.ai s->∃I,e.V.st j=.ai {s with aF:=I})/\(∀j,j≠i->e.m j=d.m j)/\(∃I,e.m i={d.m i with ins:=I})/\∀k,k<c->pO ((e.m i).ins k):=by
 intro c;induction c with
 |zero=>
  intro _ d e h q;have q:d=e:=q;subst q;exact⟨h,rfl,rfl,λ_ _=>rfl,λj s q=>⟨s.aF,q⟩,λ_ _=>rfl,⟨(d.m i).ins,rfl⟩,λk A=>by omega⟩
 |succ c B=>
  intro b d e h q;obtain⟨x,C,D⟩:=q;obtain⟨E,G,H,L,M,O,⟨ax,P⟩,Q⟩:=B (by omega) d x h C;obtain⟨R,S,f,N,code,data,A',l,-,-,a,g⟩:=D;have K:bl x.V x.m x.n:=E;have F:=K.dR hi;have T:(x.m i).of (c:Int)=0:=by unfold an.of;rw[aB (by rw[F.cl];decide),iN_]
  have U:((x.m i).read (c:Int) 5000).2.2.2.2={x.m i with ins:=ah (x.m i).ins c (((x.m i).ins c).cR 5000)}:=by
   unfold an.read;rw[T,aB (by decide),show((c:Int)).toNat=c by omega]
  rw[U]at g;have p:e.m i={x.m i with ins:=ah (x.m i).ins c (((x.m i).ins c).cR 5000)}:=by rw[g,aR]
  obtain⟨r,t,-⟩:=K.aK i hi;have W:∃I,f={r with aF:=I}:=by rw[t]at l;exact SX (by omega) l
  refine⟨R,by rw[S,G];omega,by rw[a];exact H,λy k=>?_,λj s q=>?_,λj u=>by rw[g,aX _ _ u];exact O j u,⟨_,by rw[p,P]⟩,λk A=>?_⟩
  rw[a];show(dZ x.V.e (1-i) c {x.V.e (1-i) c with read:=(x.V.e (1-i) c).read+data.length,state:=N} y k).wrote=_;rw[<-L y k];unfold dZ;split;rename_i b;rw[b.1,b.2];rfl;obtain⟨I,v⟩:=M j s q;by_cases w:j=i;subst w;obtain⟨X,Y⟩:=W;have:r={s with aF:=I}:=aE.ai.inj (t.symm.trans v);refine⟨X,?_⟩
  rw[a];show ah x.V.st j (.ai f) j=_;rw[aR,Y,this];refine⟨I,?_⟩
  rw[a];show ah x.V.st i (.ai f) j=_;rw[aX _ _ w];exact v;rw[p];show pO (ah (x.m i).ins c (((x.m i).ins c).cR 5000) k);by_cases z:k=c;subst z;rw[aR];have al:1-i≠i:=by omega
  have h1:=((K.dir (1-i) i (by omega) hi al).aF k (by omega)).hi;have h2:=((K.dR (show 1-i<2 by omega)).out k (by omega)).hs;have h3:=((K.dR (show 1-i<2 by omega)).out k (by omega)).sz;exact R7 (F.fU k (by omega)) (by omega);rw[aX _ _ z];exact Q k (by omega)
structure Rp(a b:Ns)(s v w:Nat->Sd):Prop where
 st:∀i,i<2->a.V.st i=.ai (s i)
 rel:∀i,i<2->∃m n,dc (s i).bC m n/\bO (s i).bC n/\n<=a.n+4
 Gq:∀i,i<2->∃m n,dc (s i).bC.bB.1 m n/\bO (s i).bC.bB.1 n/\n<=a.n+4
 rc:∀i j,i<2->j<2->i≠j->lr (s j).bC.bB.1 (jJ (s i).bC.bB.2) (v j)
 wv:∀i,i<2->∃I,w i={v i with aF:=I}
 rE:∀i,i<2->b.V.st i=.ai (w i)
 ok:b.ok
 n:a.n+12<=b.n/\b.n<=a.n+112
 wr:∀i k,(b.V.e i k).wrote=(a.V.e i k).wrote
 rd:∀i k,i<2->k<4->pO ((b.m i).ins k)
 still:(s 0).bC.bB.2=[]->(s 1).bC.bB.2=[]->b.V.aN=a.V.aN/\∀i,i<2->∃I,b.m i={a.m i with due:=[],ins:=I}
def Gr(i:Int)(ps:List (List Int)):((ps.map strOfNums).take ps.length).map (λb=>(i,b))=ps.map (λp=>(i,strOfNums p)):=by
 rw[jx (by simp),pV];rfl
def Gs{a:List (List Fr)}(h:yA X ([].map strOfNums) a):{X.dX a with due:=[]}={X with due:=[]}:=by
 have:a=[]:=kJ (by have:=h.len;simpa using this);rw[this];rfl
def Round.parts{b:Ns}(h:Round f b)(ha:f.ok):∃s v w,Rp f b s v w:=by
 obtain⟨a,d,x,c,hT,hF,L,D,hR⟩:=h;obtain⟨g,⟨x0,e0,F0⟩,F1⟩:=hF;have e0:a=x0:=e0;subst e0;have K:bl f.V f.m f.n:=ha;obtain⟨s0,M,-,-⟩:=K.aK 0 (by omega);obtain⟨s1,N,-,-⟩:=K.aK 1 (by omega);obtain⟨t1,t2,t3,p0,p1,A',d0,d1,B⟩:=hT;rw[M]at d0;rw[N]at d1;have g0:=Gn d0;have y:=Gn d1;subst g0;subst y;have O:a.V.st 0=.ai s0.bC:=by rw[B];show ah (ah f.V.st 0 (.ai s0.bC)) 1 (.ai s1.bC) 0=_;rw[aX _ _,aR]
 have bb:a.V.st 1=.ai s1.bC:=by rw[B];show ah (ah f.V.st 0 (.ai s0.bC)) 1 (.ai s1.bC) 1=_;rw[aR]
 have b1:a.V.aN=f.V.aN:=by rw[B]
 obtain⟨f1,f2,P,u,A0,w0,f3,f4,f5,dE,f6,f7⟩:=F0;rw[O]at f3;obtain⟨y1,z⟩:=Bi f3;have z:u=s0.bC.bB.2:=z;have br:g.V.st 0=.ai s0.bC.bB.1:=by rw[f5,<-y1];exact aR a.V.st 0 (.ai P)
 have Q:g.V.st 1=.ai s1.bC:=by rw[f5];exact(aX a.V.st (.ai P) (show 1≠0 by omega)).trans bb
 have bx:g.V.aN=f.V.aN++u.map (λp=>((1:Int),strOfNums p)):=by
  rw[f5];show a.V.aN++((u.map strOfNums).take u.length).map (λb=>(((1-0:Nat):Int),b))=_;rw[Gr,b1];rfl
 obtain⟨y,g2,R,A,A1,w1,S,g4,C,ej,g6,E⟩:=F1;rw[Q]at S;obtain⟨z1,z2⟩:=Bi S;have z2:A=s1.bC.bB.2:=z2;have T:d.V.st 0=.ai s0.bC.bB.1:=by rw[C];exact(aX g.V.st (.ai R) (show 0≠1 by omega)).trans br
 have U:d.V.st 1=.ai s1.bC.bB.1:=by rw[C,<-z1];exact aR g.V.st 1 (.ai R)
 have b2:d.V.aN=f.V.aN++(u.map (λp=>((1:Int),strOfNums p))++A.map (λp=>((0:Int),strOfNums p))):=by
  rw[C];show g.V.aN++((A.map strOfNums).take A.length).map (λb=>(((1-1:Nat):Int),b))=_;rw[Gr,bx,fm];rfl
 have ec:c=u.length+A.length:=by
  rw[b2]at L;simp only[bF,dd]at L;omega
 obtain⟨c1,c2,c3⟩:=SZ c d x y D;obtain⟨u0,u1,bM,b0,F,G,b3⟩:=SW b2 T U c (by omega) x D;rw[jx (by unfold jJ;simp;omega)]at F;rw[jx (by unfold jJ;simp;omega)]at G;obtain⟨W,⟨x3,H,b4⟩,b5⟩:=hR;have H:x=x3:=H;subst H;obtain⟨k1,k2,k3,k8,k4,k5,⟨I0,k6⟩,k7⟩:=Gp (i:=0) (by omega) 4 (aP _) x W c1 b4;obtain⟨l1,l2,l3,l8,X,Y,⟨I1,l6⟩,l7⟩:=Gp (i:=1) (by omega) 4 (aP _) W b k1 b5;obtain⟨eu,j0⟩:=k4 0 u0 bM;obtain⟨al,cC⟩:=X 0 _ j0;obtain⟨ew,j1⟩:=k4 1 u1 b0;obtain⟨ax,db⟩:=X 1 _ j1;have r:∀i,i<2->i=0\/i=1:=λi hi=>by omega
 refine⟨λi=>if i=0 then s0 else s1,λi=>if i=0 then u0 else u1,λi=>if i=0 then{u0 with aF:=al}else{u1 with aF:=ax},λi hi=>?_,λi hi=>?_,λi hi=>?_,λi j hi hj ez=>?_,λi hi=>?_,λi hi=>?_,l1,?_,λi k=>?_,λi k hi hk=>?_,λh0 I=>?_⟩
 obtain e|e:=r i hi<;>subst e
 exact M;exact N;obtain e|e:=r i hi<;>subst e
 obtain⟨s,t,l,q⟩:=(show bl a.V a.m a.n from t1).aK 0 (by omega);have:=aE.ai.inj (O.symm.trans t);subst this;exact⟨_,_,l,q,by omega⟩
 obtain⟨s,t,l,q⟩:=(show bl g.V g.m g.n from f1).aK 1 (by omega);have:=aE.ai.inj (Q.symm.trans t);subst this;exact⟨_,_,l,q,by omega⟩
 obtain e|e:=r i hi<;>subst e
 obtain⟨s,t,l,q⟩:=(show bl d.V d.m d.n from y).aK 0 (by omega);have e:=aE.ai.inj (T.symm.trans t);rw[<-e]at l q;exact⟨_,_,l,q,by omega⟩
 obtain⟨s,t,l,q⟩:=(show bl d.V d.m d.n from y).aK 1 (by omega);have e:=aE.ai.inj (U.symm.trans t);rw[<-e]at l q;exact⟨_,_,l,q,by omega⟩
 obtain e|e:=r i hi<;>subst e
 have:j=1:=by omega
 subst this;rw[z]at F;exact F;have:j=0:=by omega
 subst this;rw[z2]at G;exact G;obtain e|e:=r i hi<;>subst e
 exact⟨al,rfl⟩
 exact⟨ax,rfl⟩
 obtain e|e:=r i hi<;>subst e
 exact cC;exact db;omega;rw[l8,k8,c3,C];show(g.V.e i k).wrote=_;rw[f5];show(a.V.e i k).wrote=_;rw[B];obtain e|e:=r i hi<;>subst e
 rw[Y 0 (by omega)];exact k7 k hk;exact l7 k hk;have h0:s0.bC.bB.2=[]:=h0;have I:s1.bC.bB.2=[]:=I;rw[h0]at z;rw[I]at z2;subst z;subst z2;have de:c=0:=ec;subst de;have dg:d=x:=D;subst dg;rw[Gs f6]at f7;rw[Gs g6]at E;refine⟨by rw[l3,k3,b2];simp,λi hi=>?_⟩
 obtain e|e:=r i hi<;>subst e
 refine⟨I0,?_⟩
 rw[Y 0 (by omega),k6,E,aX _ _ (show(0:Nat)≠1 by omega),f7,aR,t2];refine⟨I1,?_⟩
 rw[l6,k5 1 (by omega),E,aR,f7,aX _ _ (show(1:Nat)≠0 by omega),t2]
structure S0(s a:Sd):Prop where
 count:a.count=s.count
 af:a.af=s.af
 floor:a.floor=s.floor
 bQ:a.bQ=s.bQ
 aF:a.aF=s.aF
 out:a.out=s.out
 key:a.key=s.key
 first:a.first=s.first
 ag:a.ag=s.ag
 tick:a.tick=s.tick+1
def sD(s:Sd):S0 s s.bC:=by
 unfold Sd.bC;split<;>exact⟨rfl,rfl,rfl,rfl,rfl,rfl,rfl,rfl,rfl,rfl⟩
structure ox(s t w z:Sd)(new:List Pk)(C:List (List Rg)):Prop where
 pl:yv s.bC s.bC.bB.1 new
 jt:10<=s.bC.bB.1.aw.length\/∀j,j<4->(s.bC.bB.1.due j).jt (s.bC.bB.1.out j)
 lost:s.bC.bB.1.lost=s.bC.lost
 oi:sy s.bC.bB.1
 du:∀k,k<4->fv (s.bC.bB.1.out k) (s.bC.bB.1.due k)
 dw:∀k,k<4->fv (w.out k) (w.due k)
 out:gS (C.foldl Sd.bT s.bC.bB.1) w
 all:t.bQ=ρ->C.flatten=eX t.af t.af.length
 no:t.bQ=θ->C=[]
 vR:∀c∈C,AV t.af c
 lt:∀m,Sm t.af m->m<s.count
 o0:new=[]->z.bQ=θ
 o1:new≠[]->z.bQ=ρ
 top:s.count<s.bC.bB.1.count->jW z.af s.count s.bC.bB.1.count
 nil:s.bQ=θ->new=[]->s.bC.bB.2=[]/\s.bC.bB.1.count=s.count
def Rp.Gt{b:Ns}{s v w:Nat->Sd}(R:Rp f b s v w)(ha:f.ok)(hn:f.n<=89000)(P:∀i k,i<2->k<4->pO ((f.m i).ins k))(hi:i<2)(a:j<2)(p:i≠j):∃new C,ox (s i) (s j) (w i) (w j) new C:=by
 obtain⟨mi,ni,ri,oi,db⟩:=R.rel i hi;obtain⟨mj,nj,rj,G,dg⟩:=R.rel j a;obtain⟨Q,H,B,g⟩:=AX ri oi (by omega);obtain⟨I,S,T,t⟩:=AX rj G (by omega);obtain⟨m2,n2,r2,L,u⟩:=R.Gq i hi;obtain⟨m3,n3,r3,o3,h3⟩:=R.Gq j a;have K:bl f.V f.m f.n:=ha;have D:=sD (s i);have E:=sD (s j);have ci:=L.ba;have cj:=o3.ba;have U:=K.FZ hi a p (R.st i hi) (R.st j a);have F2:=K.FZ a hi (Ne.symm p) (R.st j a) (R.st i hi);have N1:=K.nb hi a p (λk h=>P j k a h) (R.st i hi) (R.st j a);have N2:=K.nb a hi (Ne.symm p) (λk h=>P i k hi h) (R.st j a) (R.st i hi);obtain⟨W,X⟩:=K.R8 hi a p (R.st i hi) (R.st j a);have dN:∀(x y:Sd)(nx:Nat)(M:List (List Rg))(F:List (List Fr))(Y:List Pk)(Cy:List (List Rg))(Dy:List (List Fr))(aC:List Pk)(z:Sd),bO x.bC nx->nx<=99999->AW x.bC M F Y->AW y.bC Cy Dy aC->x.bC.bB.1.count<=1000000000->y.key=x.key->x.first= !y.first->pM y x.count->NB x.out y->lr y.bC.bB.1 (jJ x.bC.bB.2) z->
  jX y.bC.bB.1 z x.bC.count x.bC.bB.1.count/\gS (M.foldl Sd.bT y.bC.bB.1) z/\(F=[]->z.bQ=y.bC.bB.1.bQ)/\(F≠[]->z.bQ=ρ):=λx y nx M F Y Cy Dy aC z hx bx Px r bz h hf hF hN hr=>by
  have tx:=sD x;have ty:=sD y;refine RK hx bx Px.a Px.d bz ?_ ?_ ?_ ?_ hr;rw[r.s.cfg.2.2.1,ty.key,tx.key];exact h;rw[r.s.cfg.2.2.2,ty.first,tx.first];exact hf;rw[tx.count];exact⟨by rw[r.s.af,ty.af];exact hF.ok,by rw[r.s.af,ty.af];exact hF.lt,by rw[r.s.floor,ty.floor];exact hF.fl⟩
  intro k b4 A u;rw[r.s.aF,ty.aF]at u⊢;rw[r.s.cfg.2.1,ty.ag];rw[tx.out]at A⊢;exact hN k b4 A u
 obtain⟨A1,-,A3,A4⟩:=dN (s i) (s j) ni Q H B I S T (v j) oi (by omega) g t (by omega) W X U N1 (R.rc i j hi a p);obtain⟨-,B2,-,-⟩:=dN (s j) (s i) nj I S T Q H B (v i) G (by omega) t g (by omega) W.symm (by rw[X];simp) F2 N2 (R.rc j i a hi (Ne.symm p));obtain⟨Ii,ei⟩:=R.wv i hi;obtain⟨Ij,N⟩:=R.wv j a;have O:B=[]↔H=[]:=by
  rw[<-List.length_eq_zero_iff,<-List.length_eq_zero_iff,g.nl]
 refine⟨B,I,g.l,g.jt,g.s.lost,R6 r2 L,λk h=>vW L (by omega) h,λk h=>?_,?_,λq=>?_,λq=>?_,λc hc=>?_,U.lt,λq=>?_,λq=>?_,λq=>?_,λq1 q2=>?_⟩
 obtain⟨x,x1,-,x2⟩:=(show bl b.V b.m b.n from R.ok).aK i hi;have e:=aE.ai.inj ((R.rE i hi).symm.trans x1);rw[e];have:=R.n;exact vW x2 (by omega) h;rw[ei];exact B2.trans ⟨rfl,rfl,rfl,rfl,rfl,rfl⟩;have:=t.a.all (by rw[E.bQ];exact q);rw[E.af]at this;exact this;exact t.a.no (by rw[E.bQ];exact q);have:=t.a.vR G c hc;rw[E.af]at this;exact this;rw[N];show(v j).bQ=θ;rw[A3 (O.1 q)];exact t.s.bQ;rw[N];exact A4 (λe=>q (O.2 e));rw[N];have:=A1.t0 (by rw[D.count];exact q);rw[D.count]at this;exact this;have eC:=g.a.no (by rw[D.bQ];exact q1);have eD:=O.1 q2;have A:=g.d.l;have u:=g.d.ba;rw[eC,eD]at A u;exact⟨A,by rw[u,D.count];simp⟩
def S7:∀(C:List (List Rg))(s:Sd)(x:Pk),x∈(C.foldl Sd.bT s).aw->x∈s.aw/\∀c∈C,bp c x.num=θ:=by
 intro C;induction C with
 |nil=>intro s x h;exact⟨h,λc b=>(by cases b)⟩
 |cons c C f=>
  intro s x h;obtain⟨a,g⟩:=f (s.bT c) x h;have a:x∈(s.aw.filter (λx=> !bp c x.num)).filter (λx=> !decide (x.num+3<=(ao c 0).hi)):=a;obtain⟨i,j⟩:=eO.1 (eO.1 a).1;refine⟨i,λd hd=>?_⟩
  obtain e|e:=dY.1 hd
  rw[e];simpa using j;exact g d e
def Gu:∀(C:List (List Rg))(s:Sd),(C.foldl Sd.bT s).tick=s.tick/\(C.foldl Sd.bT s).count=s.count:=by
 intro C;induction C with
 |nil=>intro s;exact⟨rfl,rfl⟩
 |cons c C a=>intro s;exact a (s.bT c)
def Gd(b:Int)(s t:Sd):Prop:=∀x∈s.aw,x.tick<=b\/(x.tick=s.tick/\t.bQ=ρ/\∃a,jW t.af a s.count/\a<=x.num/\x.num<s.count)
def ox.tick{t w z:Sd}{new:List Pk}{C:List (List Rg)}(R:ox s t w z new C):w.tick=s.tick+1/\w.count=s.bC.bB.1.count:=by
 have tk:=sD s;refine⟨?_,?_⟩
 rw[R.out.tick,(Gu C _).1,R.pl.tick,tk.tick];rw[R.out.count,(Gu C _).2]
def ox.named{t w z:Sd}{new:List Pk}{C:List (List Rg)}(R:ox s t w z new C){x:Pk}(f:t.bQ=ρ)(g:∃a,jW t.af a s.count/\a<=x.num/\x.num<s.count):∃c b,C=c::b/\bp c x.num=ρ:=by
 obtain⟨a,h,i,j⟩:=g;obtain⟨q,rest,e,k,n2,-⟩:=h.named i j;have d:=R.all f;rw[e]at d;cases C with
 |nil=>cases d
 |cons c b=>
  refine⟨c,b,rfl,?_⟩
  have l:=(R.vR c (by simp)).ne;cases c with
  |nil=>exact absurd rfl l
  |cons r m=>
   have:r=q:=(List.cons.inj d).1;subst this;unfold bp;rw[List.any_cons];simp[k,n2]
def ox.gd{t w z:Sd}{new:List Pk}{C:List (List Rg)}(R:ox s t w z new C)(h:Gd p s t):Gd p w z/\(s.wait<=32->32<=s.tick+1-p->Gd (-1) w z):=by
 obtain⟨e1,e2⟩:=R.tick;have tk:=sD s;have key:∀x∈w.aw,(x.tick=w.tick/\z.bQ=ρ/\∃a,jW z.af a w.count/\a<=x.num/\x.num<w.count)\/(x∈s.bC.aw/\x.tick<=p):=λx b=>by
  rw[R.out.aw]at b;obtain⟨f,g⟩:=S7 C _ x b;rw[R.pl.aw]at f;obtain q|q:=bL.1 f
  right;refine⟨q,?_⟩
  have i:x∈s.aw:=by
   unfold Sd.bC at q;split at q;cases q;exact q
  obtain z|⟨n,z2,j⟩:=h x i
  exact z;exfalso;obtain⟨c,r,e,k⟩:=R.named z2 j;have:=g c (by rw[e];simp);rw[k]at this;cases this;left;obtain⟨l,p2,p3,-⟩:=R.pl.pk x q;rw[tk.count]at p2;rw[tk.tick]at l;refine⟨by omega,R.o1 (λe=>by rw[e]at q;cases q),s.count,?_,p2,by omega⟩
  rw[e2];exact R.top (by omega)
 refine⟨λx b=>?_,λu v x b=>?_⟩
 obtain q|q:=key x b
 exact ψ q;exact φ q.2;obtain q|⟨d,y⟩:=key x b
 exact ψ q;exfalso;unfold Sd.bC at d;split at d;cases d;rename_i m;refine m (oG.2 ⟨x,d,eT ?_⟩);omega
def rF(h:fv (s.out k) (s.due k)):0<=jb s k:=by
 unfold jb Du.ph;have:=(Du.vI h).1;split<;>omega
def Bj(h:∀k,k<4->fv (s.out k) (s.due k)):0<=eW s:=by
 have h0:=rF (h 0 (by omega));have a:=rF (h 1 (by omega));have b:=rF (h 2 (by omega));have c:=rF (h 3 (by omega));unfold eW;omega
def ox.clean{t w z:Sd}{new:List Pk}{C:List (List Rg)}(R:ox s t w z new C)(h:Gd (-1) s t)(n:∀x∈s.aw,0<=x.tick)(D:4<=s.wait):s.bC={s with tick:=s.tick+1}/\w.aw=new/\eW w+5*(new.length:Int)<=eW s/\(10<=s.aw.length+new.length\/eW w=0)/\0<=eW w:=by
 have tk:=sD s;have d:∀x∈s.aw,x.tick=s.tick/\t.bQ=ρ/\∃a,jW t.af a s.count/\a<=x.num/\x.num<s.count:=λx d=>by
  obtain q|q:=h x d
  have:=n x d;omega;exact q
 have e1:s.bC={s with tick:=s.tick+1}:=by
  unfold Sd.bC;rw[aB];intro q;obtain⟨x,f,i⟩:=oG.1 q;have i:=of_decide_eq_true i;have:=(d x f).1;omega
 have ef:s.bC.bB.1.aw=s.aw++new:=by rw[R.pl.aw,e1]
 obtain⟨f1,f2,f3⟩:=Qr C s.bC.bB.1 s.aw R.oi ef (λx f=>by
  obtain⟨c,E,e,p⟩:=R.named (d x f).2.1 (d x f).2.2;exact⟨c,by rw[e];rfl,p⟩) (λy r c u=>by
  have A:=R.vR c u;obtain⟨-,p2,-⟩:=R.pl.pk y r;rw[tk.count]at p2;refine⟨?_,?_⟩
  rw[uq];intro q;have:=R.lt _ (A.nm _ q);omega
  ·obtain⟨m,v,e⟩:=A.hd;have:=R.lt _ v;omega)
 have b:∀k,k<4->jb w k<=jb s.bC.bB.1 k:=λk b=>by
  obtain⟨j,l⟩:=f3 k b;rw[<-R.out.due]at j;rw[<-R.out.out]at l;unfold jb;exact j.ph l (R.du k b) (R.dw k b) (R.oi.o k b).1.fr (R.oi.o k b).1.en
 have F:=b 0 (by omega);have G:=b 1 (by omega);have H:=b 2 (by omega);have k3:=b 3 (by omega);have I:eW w<=eW s.bC.bB.1:=by unfold eW;omega
 have hp:=R.pl.ph;have K:eW s.bC=eW s:=by rw[e1];rfl
 have B:=Bj R.dw;refine⟨e1,by rw[R.out.aw];exact f1,by omega,?_,B⟩
 obtain q|q:=R.jt
 left;rw[ef,bF]at q;exact q;right;have g:∀k,k<4->jb s.bC.bB.1 k=0:=λk b=>by
  unfold jb Du.ph;rw[aB];rw[(Du.yt (R.du k b)).1 (q k b)];omega
 have L:=g 0 (by omega);have M:=g 1 (by omega);have z2:=g 2 (by omega);have N:=g 3 (by omega);have:eW s.bC.bB.1=0:=by unfold eW;omega
 omega
def fK(f:Nat->Nat):Nat->Nat
 |0=>0
 |k+1=>fK f k+f k
def Nw.bytes(V:Nw):Nat:=fK (λi=>fK (λk=>(V.e i k).wrote.size) 4) 2
def sF(B:Nat)(ag:Int):Int:=120+3*((B:Int)/ag+1)+(B:Int)/16
def ud{f:Nat->Nat}:∀n,(∀k,k<n->f k<=m)->fK f n<=m*n:=by
 intro n;induction n with
 |zero=>intro _;exact jm _
 |succ n a=>
  intro h;have b:=a (λk c=>h k (by omega));have d:=h n (by omega);unfold fK;rw[Nat.mul_succ];omega
def S8(w:ω)(nb:Nat)(V:Nw)(H:bV w nb V)(hs:∀i k,i<2->k<4->(V.e i k).wrote.size<=1000000)(R:16<=V.ag/\V.ag<=1024):
 Calls prog 52 #[π (μ ⟨nb,0,ν⟩)] w λe F=>e=ξ (ι δ (sF V.bytes V.ag))/\F=w:=by
 have d:∀i,i<2->fK (λk=>(V.e i k).wrote.size) 4<=1000000*4:=λi hi=>ud 4 (λk u=>hs i k hi u)
 have G:V.bytes<=1000000*4*2:=ud 2 d;have c3:=H.c.1.2.2.2.1;have v:(V.bytes:Int)/V.ag<=8000000:=by
  have:=Int.ediv_le_self V.ag (show(0:Int)<=V.bytes by omega);omega
 have x:0<=(V.bytes:Int)/V.ag:=Int.ediv_nonneg (by omega) (by omega);replace⟨hs,d,H⟩:=cz hs d H;go_enter func52,ntmps52;go_wp2;go_loopw [3,4] (λbv l wr=>∃i:Nat,i<=2/\l=ι δ i/\bv=ι δ (fK (λi=>fK (λk=>(V.e i k).wrote.size) 4) i:Int)/\wr=w) (λ_ l _=>2-(intOf l).toNat);case atStart=>exact⟨0,by omega,rfl,rfl,rfl⟩
 case round=>
  obtain⟨i,hi,rfl,rfl,a⟩:=hrel;rw[a];clear a;by_cases f:i<2
  ·have d1:decide ((i:Int)<2)=ρ:=dT_;have U:(0:Int)<=i:=by omega
   have W:(i:Int)<2:=by omega
   have I:fK (λi=>fK (λk=>(V.e i k).wrote.size) 4) i<=1000000*4*i:=ud i (λj K=>Z d j (by omega));obtain⟨S,m⟩:=exq (fK (λi=>fK (λk=>(V.e i k).wrote.size) 4) i);have L:Hid (fK (λi=>fK (λk=>(V.e i k).wrote.size) 4) (i+1)=S+fK (λk=>(V.e i k).wrote.size) 4):=J (by rw[m];rfl);rw[<-m]at I⊢;clear m;go_wp2;go_loopw [3,5] (λbv n wr=>∃k:Nat,k<=4/\n=ι δ k/\bv=ι δ ((S+fK (λk=>(V.e i k).wrote.size) k:Nat):Int)/\wr=w) (λ_ n _=>4-(intOf n).toNat);case atStart=>exact⟨0,by omega,rfl,rfl,rfl⟩
   case round=>
    obtain⟨k,u,rfl,rfl,a⟩:=hrel;rw[a];clear a;by_cases p:k<4
    ·have d2:decide ((k:Int)<4)=ρ:=dT_;have Y:(0:Int)<=k:=by omega
     have k1:(k:Int)<4:=by omega
     obtain⟨-,c1,-,ce,cl⟩:=(Z H).mT f p;obtain⟨⟨e0,-⟩,-⟩:=(Z H).ce f p;have M:fK (λk=>(V.e i k).wrote.size) k<=1000000*k:=ud k (λj K=>Z hs i j f (by omega));have N:=Z hs i k f p;obtain⟨T,s⟩:=exq (fK (λk=>(V.e i k).wrote.size) k);obtain⟨z,t⟩:=exq ((V.e i k).wrote);have y:Hid (Value.int δ (((S+T:Nat):Int)+(z.size:Int))=ι δ ((S+fK (λk=>(V.e i k).wrote.size) (k+1):Nat):Int)):=J (by
      have:fK (λk=>(V.e i k).wrote.size) (k+1)=T+z.size:=by rw[s,t];rfl
      rw[this];congr 1;push_cast;omega)
     rw[<-s]at M⊢;rw[<-t]at e0 N;clear s t;have O:IntKind.i64.wrap (((S+T:Nat):Int)+(z.size:Int))=((S+T:Nat):Int)+(z.size:Int):=wI_;obtain⟨ST,A⟩:=exq (S+T);rw[<-A]at O y⊢;clear A;go_wp2;exact⟨⟨k+1,by omega,rfl,Z y,by trivial⟩,by simp[intOf];omega⟩
    have d2:decide ((k:Int)<4)=θ:=dF_;obtain rfl:k=4:=by omega
    have C:Hid (Value.int δ ((S+fK (λk=>(V.e i k).wrote.size) 4:Nat):Int)=ι δ (fK (λi=>fK (λk=>(V.e i k).wrote.size) 4) (i+1):Int)):=J (by rw[Z L]);obtain⟨X,D⟩:=exq (S+fK (λk=>(V.e i k).wrote.size) 4);rw[<-D]at C⊢;clear D;go_wp2;exact⟨⟨i+1,by omega,rfl,Z C,by trivial⟩,by simp[intOf];omega⟩
  have d1:decide ((i:Int)<2)=θ:=dF_;obtain rfl:i=2:=by omega
  obtain⟨B,b⟩:∃B:Nat,B=V.bytes:=⟨_,rfl⟩
  have E:fK (λi=>fK (λk=>(V.e i k).wrote.size) 4) 2=B:=by rw[b];rfl
  rw[<-b]at G v x;rw[E];clear E;replace b:=J b;have P:0<=(B:Int)/16/\(B:Int)/16<=8000000:=by omega
  obtain⟨q,g⟩:=exq ((B:Int)/V.ag);obtain⟨r,h⟩:=exq ((B:Int)/16);have t1:Int.tdiv (B:Int) V.ag=q:=by rw[g];exact Int.tdiv_eq_ediv_of_nonneg (by omega)
  have t2:Int.tdiv (B:Int) 16=r:=by rw[h];exact Int.tdiv_eq_ediv_of_nonneg (by omega)
  rw[<-g]at x v;rw[<-h]at P;have Q:Hid (120+3*(q+1)+r=sF V.bytes V.ag):=J (by rw[g,h,Z b];rfl);clear g h;have w0:V.ag≠0:=by omega
  go_wp2;go_ret;exact⟨by rw[Z Q];rfl,rfl⟩
def wa(e:End):Prop:=if e.given then e.state≠0 else(e.finished=ρ->e.state=1)/\e.read=e.wrote.size/\e.af=e.wrote.size
def S9(w:ω)(nb:Nat)(V:Nw)(H:bV w nb V)(f:∀i k,i<2->k<4->wa (V.e i k)):
 Calls prog 53 #[π (μ ⟨nb,0,ν⟩)] w λe u=>e=ξ (β ρ)/\γ w u ν:=by
 replace⟨H,f⟩:=bD H f;go_enter func53,ntmps53;go_wp2;go_loopw [3] (λh wr=>∃i:Nat,i<=2/\h=ι δ i/\γ w wr ν) (λh _=>2-(intOf h).toNat);case atStart=>exact⟨0,by omega,rfl,aD _ _⟩
 case round=>
  obtain⟨i,hi,rfl,g⟩:=hrel;by_cases j:i<2
  ·have d1:decide ((i:Int)<2)=ρ:=dT_;have y:(0:Int)<=i:=by omega
   have z:(i:Int)<2:=by omega
   go_wp2;go_loopw [4] (λl wr=>∃k:Nat,k<=4/\l=ι δ k/\γ w wr ν) (λl _=>4-(intOf l).toNat);case atStart=>exact⟨0,by omega,rfl,g⟩
   case round=>
    clear g;obtain⟨k,A,rfl,g⟩:=hrel;by_cases m:k<4
    ·have d2:decide ((k:Int)<4)=ρ:=dT_;have B:(0:Int)<=k:=by omega
     have C:(k:Int)<4:=by omega
     have n:=(Z H).au g;obtain⟨-,c1,-,ce,cl⟩:=n.mT j m;obtain⟨⟨e0,e1,e2,-,b,c,d⟩,-⟩:=n.ce j m;have a:=Z f i k j m;clear n;obtain⟨eb,q⟩:=exq (V.eb i k);obtain⟨x,r⟩:=exq (V.e i k);rw[<-q]at cl e0 e1 e2 b c d;rw[<-r]at e0 e1 e2 b c d a;clear q r;obtain⟨wrote,fin,gv,code,rd,st,cm⟩:=x;unfold wa at a;simp only at e0 e1 e2 b c d a;cases gv
     ·simp only[eN,eA]at a;obtain⟨s,rfl,rfl⟩:=a;have f0:=kc e0;have f1:=kc e1;have f4:=kc b;have f5:=kc c;have f6:=kc d;have t:γ wr wr ν:=aD _ _;cases fin
      ·clear s;go_upto_region 11 with fail;go_cut [67]from 33 to 67 (λv wx=>v=β θ/\γ wr wx ν);case first=>
        go_quiet (fail);go_wp2;go_meet;exact⟨rfl,dv t _⟩
       case rest=>
       rename ω=>wx
       obtain⟨rfl,gx⟩:=hcut;have p:=J (aq g gx);go_wp2;exact⟨⟨k+1,by omega,rfl,Z p⟩,by simp[intOf];omega⟩
      obtain rfl:st=1:=s rfl;go_upto_region 11 with fail;go_cut [67]from 33 to 67 (λv wx=>v=β θ/\γ wr wx ν);case first=>
       go_quiet (fail);go_wp2;go_meet;exact⟨rfl,dv t _⟩
      case rest=>
      rename ω=>wx
      obtain⟨rfl,gx⟩:=hcut;have p:=J (aq g gx);go_wp2;exact⟨⟨k+1,by omega,rfl,Z p⟩,by simp[intOf];omega⟩
     simp only[dC]at a;have D:(st==0)=θ:=by simpa using a
     replace g:=J g;go_wp2;exact⟨⟨k+1,by omega,rfl,Z g⟩,by simp[intOf];omega⟩
    have d2:decide ((k:Int)<4)=θ:=dF_;replace g:=J g;go_wp2;exact⟨⟨i+1,by omega,rfl,Z g⟩,by simp[intOf];omega⟩
  have d1:decide ((i:Int)<2)=θ:=dF_;replace g:=J g;go_wp2;go_ret;exact⟨rfl,Z g⟩
def Ta(h:aU Y)(b:∀m,Sm Y m->p<=m/\m<q)(i:0<=p)(j:p<=q):kZ Y<=q-p:=by
 by_cases e:p<q;have g:aU [⟨p,q⟩]:=⟨wu _ _,λr c=>by rw[cA.1 c];exact e⟩
 have hs:∀m,Sm [⟨p,q⟩] m->0<=m/\m<(q.toNat:Nat):=λm ⟨r,c,a,d⟩=>by
  rw[cA.1 c]at a d;simp only at a d;omega
 have a:=E1 (N:=q.toNat) g h hs (λm f=>⟨⟨p,q⟩,by simp,(b m f).1,(b m f).2⟩);have e2:kZ [⟨p,q⟩]=q-p+0:=rfl;omega;have:Y=[]:=by
  cases Y with
  |nil=>rfl
  |cons r t=>
   exfalso;have a:=h.2 r (by simp);have:=b r.lo ⟨r,by simp,cE _,a⟩;omega
 rw[this];show(0:Int)<=_;omega
def yP(h:dc s X i)(hs:bO s n)(b:n<=100001)(a:k<4):jb s k<=(X.outs k).data.size+5/\jb s k<=1029:=by
 have D:=vW hs b a;have A:=hs.out k a;have d:=A.fr;have hl:=hs.og k a;have l:=hs.ag;have m:(s.due k).wt (s.out k)<=(X.outs k).data.size+1/\(s.due k).wt (s.out k)<=1025:=by
  unfold Du.wt;cases f:(s.out k).sG;have p:=(h.c.out k a).en A f;have e:(s.out k).en=(s.out k).h.fr+(s.out k).h.bytes.length:=rfl;have q:=Ta D.1 D.2 d (by omega);have j:(if(s.due k).e=ρ then(1:Int)else 0)<=1:=by split<;>omega
  simp only[eN,eA]
  exact⟨by omega,by omega⟩
  have j:(if(s.due k).g=ρ then(1:Int)else 0)<=1:=by split<;>omega
  simp only[dC]
  exact⟨by omega,by omega⟩
 unfold jb Du.ph;split;exact⟨by omega,by omega⟩
 exact⟨by omega,by omega⟩
def Tb(h:dc s X i)(hs:bO s n)(a:n<=100001):eW s<=((fK (λk=>(X.outs k).data.size) 4:Nat):Int)+20/\eW s<=4116:=by
 have h0:=yP h hs a (k:=0) (by omega);have b:=yP h hs a (k:=1) (by omega);have c:=yP h hs a (k:=2) (by omega);have d:=yP h hs a (k:=3) (by omega);have e:fK (λk=>(X.outs k).data.size) 4=0+(X.outs 0).data.size+(X.outs 1).data.size+(X.outs 2).data.size+(X.outs 3).data.size:=rfl;rw[e];unfold eW;push_cast;exact⟨by omega,by omega⟩
def bl.ph(K:bl D F n)(b:n<=100001)(hi:i<2)(c:D.st i=.ai s):eW s<=(D.bytes:Int)+20/\eW s<=4116:=by
 obtain⟨j,e,R,S⟩:=K.aK i hi;have e:=aE.ai.inj (c.symm.trans e);subst e;obtain⟨l,d⟩:=Tb R S b;have a:∀k,k<4->(D.e i k).wrote.size=((F i).outs k).data.size:=λk f=>by
  rw[(K.en i (1-i) hi (by omega) (by omega) k f).wrote]
 have g:fK (λk=>(D.e i k).wrote.size) 4=fK (λk=>((F i).outs k).data.size) 4:=by
  show 0+(D.e i 0).wrote.size+(D.e i 1).wrote.size+(D.e i 2).wrote.size+(D.e i 3).wrote.size=0+((F i).outs 0).data.size+((F i).outs 1).data.size+((F i).outs 2).data.size+((F i).outs 3).data.size;rw[a 0 (by omega),a 1 (by omega),a 2 (by omega),a 3 (by omega)]
 have h:fK (λk=>(D.e i k).wrote.size) 4<=D.bytes:=by
  have:D.bytes=0+fK (λk=>(D.e 0 k).wrote.size) 4+fK (λk=>(D.e 1 k).wrote.size) 4:=rfl;rw[this];obtain e|e:=(show i=0\/i=1 by omega)<;>subst e<;>omega
 rw[g]at h;exact⟨by omega,d⟩
def bl.low(K:bl D F n)(h:∀i s,i<2->D.st i=.ai s->s.tick<=j/\s.count<=100*j/\s.lost.length+s.aw.length<=100*j/\∀x∈s.aw,x.num<=100*j)(d:∀i,i<2->(F i).due.length<=j/\(F i).bG.l.length<=j/\∀k,k<4->((F i).ins k).read<=1024*j)(f:D.aN.length<=100*j):bl D F j:=by
 refine⟨λi hi=>?_,K.dir,K.en,K.aN,f,K.cfg,K.lu,K.te⟩
 obtain⟨s,e,R,S⟩:=K.aK i hi;obtain⟨g,m,p,q⟩:=h i s hi e;obtain⟨m1,r,t⟩:=d i hi;exact⟨s,e,⟨R.c,R.dN,⟨R.bG.ok,R.bG.bd,R.bG.fl,R.bG.mo,r,R.bG.all⟩,R.due,m1,λk a=>⟨t k a,(R.rd k a).2⟩,R.sl⟩,⟨S.key,S.aj,S.ag,S.out,S.og,S.av,S.code,S.aF,S.pk,λx b=>⟨(S.num x b).1,q x b⟩,S.fl,S.fp,S.ft,⟨S.tick.1,g⟩,S.wait,⟨S.ba.1,m⟩,p,S.kY,S.c8,S.cr⟩⟩
def Dn(P:Int)(R:Nat)(a:Int)(j:Nat)(s t:Sd):Prop:=
 s.tick=a+j/\Gd a s t/\(32<=j->Gd (-1) s t/\(eW s=0\/2*eW s+5*(s.aw.length:Int)+50*((j:Int)-32)<=2*P+50))/\(R<=j->eW s=0)/\(R+1<=j->s.aw=[]/\t.bQ=θ)
def Dn.step(hP:2*p+50<50*((n:Int)-32))(l:33<=n){t w z:Sd}{new:List Pk}{C:List (List Rg)}(H:ox s t w z new C)(h:Dn p n r j s t)(c:∀x∈s.aw,0<=x.tick)(a:4<=s.wait/\s.wait<=32)(hp:eW w<=p)(hl:w.aw.length<=10):Dn p n r (j+1) w z:=by
 obtain⟨d1,d2,d3,d4,d5⟩:=h;obtain⟨e1,-⟩:=H.tick;obtain⟨g,i⟩:=H.gd d2;have m:=Bj H.dw;have d:32<=j+1->Gd (-1) w z/\(eW w=0\/2*eW w+5*(w.aw.length:Int)+50*(((j+1:Nat):Int)-32)<=2*p+50):=λf=>by
  by_cases e:j=31;subst e;refine⟨i a.2 (by omega),ψ ?_⟩
  push_cast;omega;obtain⟨c1,c2⟩:=d3 (by omega);obtain⟨-,b,k3,k4,-⟩:=H.clean c1 c a.1;refine⟨(H.gd c1).1,?_⟩
  rw[b];obtain q|q:=c2
  left;omega;obtain z|z:=k4
  right;push_cast;omega;exact φ z
 have k:n<=j+1->eW w=0:=λf=>by
  obtain q|q:=(d (by omega)).2
  exact q;push_cast at q;omega
 refine⟨by rw[e1,d1];push_cast;omega,g,d,k,λf=>?_⟩
 obtain⟨c1,-⟩:=d3 (by omega);obtain⟨-,b,k3,-,k5⟩:=H.clean c1 c a.1;have u:=d4 (by omega);have en:new=[]:=eN_;exact⟨by rw[b];exact en,H.o0 en⟩
def ox.still{t w z:Sd}{new:List Pk}{C:List (List Rg)}(H:ox s t w z new C)(c1:Gd (-1) s t)(a:∀x∈s.aw,0<=x.tick)(b:4<=s.wait)(i:eW s=0)(c:t.bQ=θ)(d:s.bQ=θ):s.bC.bB.2=[]/\w.count=s.count/\w.lost=s.lost/\w.aw=[]/\w.tick=s.tick+1:=by
 obtain⟨e,f,k3,-,k5⟩:=H.clean c1 a b;have en:new=[]:=eN_;have g:=H.no c;obtain⟨h,n2⟩:=H.nil d en;obtain⟨t1,t2⟩:=H.tick;have hl:w.lost=(C.foldl Sd.bT s.bC.bB.1).lost:=H.out.lost;rw[g,List.foldl_nil,H.lost]at hl;have e2:s.bC.lost=s.lost:=by rw[e]
 exact⟨h,t2.trans n2,hl.trans e2,by rw[f];exact en,t1⟩
structure Lv(c:Ns)(P:Nat)(R:Nat)(T:Nat->Int)(j:Nat)(b:Ns):Prop where
 ok:b.ok
 rd:∀i k,i<2->k<4->pO ((b.m i).ins k)
 n4:4<=b.n
 n:b.n<=c.n+112*(1+min j (R+1))+j
 wr:∀i k,(b.V.e i k).wrote=(c.V.e i k).wrote
 d:∀i a,i<2->a<2->i≠a->∀s t,b.V.st i=.ai s->b.V.st a=.ai t->Dn P R (T i) j s t
structure qA(a:Ns)(P R:Nat):Prop where
 p:P=min (a.V.bytes+20) 4116
 r:R=33+(2*P+50)/50
def qA.hP(h:qA f n k):2*(n:Int)+50<50*((k:Int)-32)/\33<=k/\k<=199:=by
 have a:=h.p;have b:=h.r;omega
def Tc{a:Nw}(h:∀i k,(a.e i k).wrote=(D.e i k).wrote):a.bytes=D.bytes:=by
 unfold Nw.bytes;simp only[h]
def Td(L:qA f j l){b:Ns}(K:b.ok)(a:b.n<=100001)(c:∀i k,(b.V.e i k).wrote=(f.V.e i k).wrote)(hi:i<2)(d:b.V.st i=.ai s):eW s<=(j:Int):=by
 obtain⟨g,h⟩:=bl.ph (show bl b.V b.m b.n from K) a hi d;rw[Tc c]at g;have:=L.p;omega
def Te{b:Ns}(L:qA f k j)(c:f.ok)(d:Round f b):∃T,Lv f k j T 0 b:=by
 obtain⟨s,v,w,X⟩:=d.parts c;have l:=L.hP.2.1;have p:=X.n;refine⟨λi=>(w i).tick,X.ok,X.rd,by omega,by omega,X.wr,λi r hi t u z A e1 e2=>?_⟩
 have e1:=aE.ai.inj (e1.symm.trans (X.rE i hi));subst e1;obtain⟨x,g,-,a⟩:=(show bl b.V b.m b.n from X.ok).aK i hi;have e:=aE.ai.inj ((X.rE i hi).symm.trans g);rw[<-e]at a;exact⟨by simp,λy h=>φ (a.ft y h).2,λq=>by omega,λq=>by omega,λq=>by omega⟩
def Gv{b c:Ns}(L:qA f o k){T:Nat->Int}(h:Lv f o k T j b)(Y:b.n<=88000)(O:Round b c):∃z:Ns,z.V=c.V/\z.m=c.m/\z.ok/\Lv f o k T (j+1) z:=by
 obtain⟨s,v,w,X⟩:=O.parts h.ok;obtain⟨hP,P,-⟩:=L.hP;have al:=X.n;have E:∀i p,(c.V.e i p).wrote=(f.V.e i p).wrote:=λi p=>(X.wr i p).trans (h.wr i p)
 have K:bl b.V b.m b.n:=h.ok;have r:bl c.V c.m c.n:=X.ok;have A:∀i,i<2->bO (s i) b.n:=λi hi=>by
  obtain⟨x,t,-,u⟩:=K.aK i hi;have e:=aE.ai.inj ((X.st i hi).symm.trans t);rw[e];exact u
 have Q:∀i,i<2->bO (w i) c.n:=λi hi=>by
  obtain⟨x,t,-,u⟩:=r.aK i hi;have e:=aE.ai.inj ((X.rE i hi).symm.trans t);rw[e];exact u
 have wt:∀i,i<2->4<=(s i).wait:=λi hi=>by
  obtain⟨x,t,u⟩:=K.te i (1-i) hi (by omega) (by omega);have e:=aE.ai.inj ((X.st i hi).symm.trans t);rw[e];exact u.w
 have R:∀i a,i<2->a<2->i≠a->Dn o k (T i) (j+1) (w i) (w a):=λi a hi g q=>by
  obtain⟨new,C,H⟩:=X.Gt h.ok (by omega) h.rd hi g q;exact Dn.step hP P H (h.d i a hi g q (s i) (s a) (X.st i hi) (X.st a g)) (λx y=>((A i hi).ft x y).1) ⟨wt i hi,(A i hi).wait.2⟩ (Td L X.ok (by omega) E hi (X.rE i hi)) (Q i hi).fl
 have G:∀i a,i<2->a<2->i≠a->∀B F,c.V.st i=.ai B->c.V.st a=.ai F->Dn o k (T i) (j+1) B F:=λi a hi g q B F e1 e2=>by
  rw[aE.ai.inj (e1.symm.trans (X.rE i hi)),aE.ai.inj (e2.symm.trans (X.rE a g))];exact R i a hi g q
 have hb:=h.n;have h4:=h.n4;by_cases M:k+1<=j
 ·
  have st:∀i,i<2->(s i).bC.bB.2=[]/\(w i).count=(s i).count/\(w i).lost=(s i).lost/\(w i).aw=[]/\(w i).tick=(s i).tick+1:=λi hi=>by
   have q:i≠1-i:=by omega
   have g:1-i<2:=by omega
   obtain⟨new,C,H⟩:=X.Gt h.ok (by omega) h.rd hi g q;obtain⟨d1,d2,d3,d4,d5⟩:=h.d i (1-i) hi g q (s i) (s (1-i)) (X.st i hi) (X.st _ g);obtain⟨-,-,-,-,f5⟩:=h.d (1-i) i g hi (Ne.symm q) (s (1-i)) (s i) (X.st _ g) (X.st i hi);exact H.still (d3 (by omega)).1 (λx y=>((A i hi).ft x y).1) (wt i hi) (d4 (by omega)) (d5 M).2 (f5 M).2
  obtain⟨b1,b2⟩:=X.still (st 0 (by omega)).1 (st 1 (by omega)).1
  have N:bl c.V c.m (b.n+1):=by
   refine r.low (λi B hi e=>?_) (λi hi=>?_) ?_;have e:=aE.ai.inj (e.symm.trans (X.rE i hi));rw[e];obtain⟨-,s2,s3,U,s5⟩:=st i hi;have S:=A i hi;have t1:=S.tick;have t2:=S.ba;have t3:=S.ll;rw[s2,s3,U,s5];refine⟨by push_cast;omega,by push_cast;omega,by simp only[fM];omega,λx y=>(by cases y)⟩
   obtain⟨I,e⟩:=b2 i hi;obtain⟨x,-,W,-⟩:=K.aK i hi;refine⟨by rw[e];exact jm _,?_,λp D=>?_⟩
   rw[e];have:=W.bG.len;show(b.m i).bG.l.length<=_;omega;have h1:=((r.dR hi).fU p D).rd;have h2:=((r.dir (1-i) i (by omega) hi (by omega)).aF p D).hi;have h3:=((r.dR (show 1-i<2 by omega)).out p D).hs;have h5:=((r.dR (show 1-i<2 by omega)).out p D).sz;push_cast;omega;have:=K.lb;rw[b1];omega
  refine⟨⟨c.V,c.m,b.n+1⟩,rfl,rfl,N,N,X.rd,by show 4<=b.n+1;omega,?_,E,G⟩
  show b.n+1<=_
  omega
 exact⟨c,rfl,rfl,X.ok,X.ok,X.rd,by omega,by omega,E,G⟩
def Tf(hd:∀k,k<4->fv (s.out k) (s.due k))(hp:eW s=0)(a:k<4):(s.due k).jt (s.out k):=by
 have h0:=rF (hd 0 (by omega));have c:=rF (hd 1 (by omega));have d:=rF (hd 2 (by omega));have f:=rF (hd 3 (by omega));have b:jb s k=0:=by
  unfold eW at hp;obtain e|e|e|e:=(show k=0\/k=1\/k=2\/k=3 by omega)<;>subst e<;>omega
 have g:=(Du.vI (hd k a)).1;refine(Du.yt (hd k a)).2 ?_;unfold jb Du.ph at b;split at b<;>omega
def bl.Bk(K:bl D F n)(P:n<=100001)(hi:i<2)(l:j<2)(m:i≠j)(a:k<4)(w:pO ((F j).ins k))(G:D.st i=.ai s)(Q:s.aw=[])(hp:eW s=0):wa (D.e i k):=by
 obtain⟨s',e1,R,H⟩:=K.aK i hi;obtain⟨s2,e2,te⟩:=K.te i j hi l m;have e1:=aE.ai.inj (G.symm.trans e1);have e2:=aE.ai.inj (G.symm.trans e2);subst e1;subst e2;have E:=K.en i j hi l m k a;have p:=K.dir i j hi l m;have I:=p.aF k a;have A:=H.out k a;have O:=R.c.out k a;have d:=Tf (λk a=>vW H P a) hp a;have S:s.due k=(s.out k).tw:=by unfold Sd.due;rw[Q];rfl
 rw[S]at d;unfold Du.jt at d;obtain⟨T,U⟩:=te.te k a;unfold wa;rw[E.gv];cases g:((F i).outs k).given;have q:(s.out k).sG=θ:=O.sg.trans g;rw[q]at d;simp only[eN,eA]at d⊢;obtain⟨y,b⟩:=d;have y:iA (s.out k).h.af ⟨(s.out k).h.fr,(s.out k).h.fr+(s.out k).h.bytes.length⟩=[]:=y;have b:(s.out k).uE=θ:=b;have hb:(s.out k).h.bytes.length=0:=by
  by_cases z:(s.out k).h.bytes.length=0;exact z;exfalso;have:=(nP (s.out k).h.af ⟨(s.out k).h.fr,(s.out k).h.fr+(s.out k).h.bytes.length⟩ (s.out k).h.fr).2 ⟨⟨by simp,by simp only;omega⟩,A.hole⟩;rw[y]at this;exact fP _ this
 have a0:=O.vM g A.fr;have a1:=O.fr;have r:((F j).ins k).given=θ:=by
  cases z:((F j).ins k).given;rfl;have:=(I.gv z).1;rw[g]at this;cases this
 have a2:=K.FY hi l m a w r;have h1:=((K.dR l).fU k a).rd;have h2:=I.hi;have h3:=((K.dR hi).out k a).hs;have L:((F j).ins k).read=((F i).outs k).data.size:=by omega
 refine⟨λM=>?_,by rw[E.read,E.wrote];exact L,by rw[E.af.2,E.wrote];omega⟩
 rw[E.fin]at M;have V:(s.out k).sE=ρ:=(O.se g).trans M;unfold Ot.uE at b;rw[V]at b;have W:(s.out k).tE=ρ:=by
  cases z:(s.out k).tE;rw[z]at b;cases b;rfl
 obtain⟨x,t,B,f,u,v,C⟩:=T W;rw[E.state];have N:((F j).ins k).ended=ρ:=by
  obtain z|⟨X,z2⟩:=C
  exfalso;have:=((p.fr x t f u).1.k4 z).2.2.1;rw[v,g]at this;cases this;have:=(p.tf x t B f u).1 X z2;rw[v]at this;exact this
 have Y:=(I.en N r).2.1;obtain z|z|z:=I.s0
 exact absurd ⟨N,L.trans Y.symm⟩ (w.2 r z).2;exact z;have:=I.s2 z;rw[r]at this;cases this;have q:(s.out k).sG=ρ:=O.sg.trans g;rw[q]at d;simp only[dC]at d⊢;have b:(s.out k).uG=θ:=d;unfold Ot.uG at b;rw[q]at b;have al:(s.out k).tG=ρ:=by
  cases z:(s.out k).tG;rw[z]at b;cases b;rfl
 obtain⟨x,t,B,f,u,v,C⟩:=U al;have:=((p.tf x t B f u).2 C).1;rw[v]at this;rw[E.state];exact w.1 this
def Tg(h:dc s X n)(hs:bO s n)(c:n<=99999)(ho:s.bQ=θ)(hp:eW s=0)(e:bO s.bB.1 i)(f:i<=100001):s.bB.2=[]:=by
 obtain⟨C,D,new,P⟩:=AX h hs c;have m:=P.l.ph;have p:=Bj (s:=s.bB.1) (λk g=>vW e f g);have j:D=[]:=kJ (by have:=P.nl;omega);have b:=P.d.l;rw[P.a.no ho,j]at b;exact b
def Lv.Bk{b:Ns}{T:Nat->Int}(h:Lv f l o T j b)(c:o+1<=j)(g:b.n<=100001):∀i k,i<2->k<4->wa (b.V.e i k):=λi k hi a=>by
 have K:bl b.V b.m b.n:=h.ok;obtain⟨s,e1,-,-⟩:=K.aK i hi;obtain⟨t,e2,-,-⟩:=K.aK (1-i) (by omega);obtain⟨-,-,-,d4,d5⟩:=h.d i (1-i) hi (by omega) (by omega) s t e1 e2;exact K.Bk g hi (show 1-i<2 by omega) (by omega) a (h.rd (1-i) k (by omega) a) e1 (d5 c).1 (d4 (by omega))
def ly.still{b:Ns}(h:ly i f b)(p:f.ok)(hi:i<2)(C:f.n<=90000)(g:f.V.st i=.ai s)(ho:s.bQ=θ)(hp:eW s=0):b.V.aN.length=f.V.aN.length/\(∀j,j≠i->b.V.st j=f.V.st j)/\b.n=f.n+1:=by
 obtain⟨q,r,c,ps,D,v,k,-,d,-⟩:=h;rw[g]at k;obtain⟨t,a⟩:=Bi k;have a:ps=s.bB.2:=a;obtain⟨x,u,R,S⟩:=(show bl f.V f.m f.n from p).aK i hi;have e:=aE.ai.inj (g.symm.trans u);rw[<-e]at R S;obtain⟨z,w,-,l⟩:=(show bl b.V b.m b.n from q).aK i hi;have eb:b.V.st i=.ai c:=by rw[d];exact aR f.V.st i (.ai c)
 have y:=aE.ai.inj (eb.symm.trans w);rw[<-y,t]at l;have A:=Tg R S (by omega) ho hp l (by omega);rw[A]at a;refine⟨?_,λj B=>?_,r⟩
 rw[d,a];show(f.V.aN++((List.map strOfNums []).take 0).map (λb=>(((1-i:Nat):Int),b))).length=_;simp;rw[d];exact aX f.V.st (.ai c) B
def Lv.quiet{b:Ns}{T:Nat->Int}(h:Lv f k l T j b)(a:l+1<=j)(hi:i<2):∃s,b.V.st i=.ai s/\s.bQ=θ/\eW s=0:=by
 have K:bl b.V b.m b.n:=h.ok;obtain⟨s,e1,-,-⟩:=K.aK i hi;obtain⟨t,e2,-,-⟩:=K.aK (1-i) (by omega);obtain⟨-,-,-,d4,-⟩:=h.d i (1-i) hi (by omega) (by omega) s t e1 e2;obtain⟨-,-,-,-,f5⟩:=h.d (1-i) i (by omega) hi (by omega) t s e2 e1;exact⟨s,e1,(f5 a).2,d4 (by omega)⟩
def Lv.Th{b d e:Ns}{T:Nat->Int}(h:Lv f k l T j b)(a:l+1<=j)(p:b.n<=88000)(h0:ly 0 b d)(c:ly 1 d e):e.V.aN.length=b.V.aN.length:=by
 obtain⟨s,e1,e2,g⟩:=h.quiet a (i:=0) (by omega);obtain⟨t,f1,f2,f3⟩:=h.quiet a (i:=1) (by omega);obtain⟨q,m,r⟩:=h0.still h.ok (by omega) (by omega) e1 e2 g;obtain⟨b1,-,-⟩:=c.still h0.1 (by omega) (by omega) ((m 1 (by omega)).trans f1) f2 f3;omega
def bl.Ti(K:bl D F n):(∀i k,i<2->k<4->(D.e i k).wrote.size<=4096)/\D.bytes<=32768:=by
 have h:∀i k,i<2->k<4->(D.e i k).wrote.size<=4096:=λi k hi a=>by
  rw[(K.en i (1-i) hi (by omega) (by omega) k a).wrote];exact((K.dR hi).out k a).sz
 exact⟨h,ud (m:=4096*4) 2 (λi hi=>ud 4 (λk a=>h i k hi a))⟩
def Tj(d:n<=32768)(a:16<=p/\p<=1024):∃t:Nat,sF n p=(t:Int)/\t<=8400/\∀P R,P=min (n+20) 4116->R=33+(2*P+50)/50->R+2<=t:=by
 have h0:0<=(n:Int)/p:=Int.ediv_nonneg (by omega) (by omega);have e:(n:Int)/p<=(n:Int)/16:=by
  rw[Int.le_ediv_iff_mul_le (by omega)];have b:=Int.ediv_mul_le (n:Int) (show p≠0 by omega);have c:(n:Int)/p*16<=(n:Int)/p*p:=Int.mul_le_mul_of_nonneg_left a.1 h0;omega
 refine⟨(sF n p).toNat,?_,?_,λP R b c=>?_⟩
 unfold sF;omega;unfold sF;omega;unfold sF;omega
def Gw(a:Ns)(P R j:Nat)(b:Ns):Prop:=(j=0->b=a)/\∀i,j=i+1->∃T,Lv a P R T i b
def Lv.qB{b:Ns}{T:Nat->Int}(L:qA f k i)(h:Lv f k i T j b)(a:f.n<=16384)(c:j<=9000):b.n<=60000:=by
 have d:=h.n;have e:=L.hP.2.2;have:min j (i+1)<=200:=by omega
 omega
def Tk(h:fB W w k f)(g:f.n<=16384)(L:qA f l m)(x:o<=8400):
 Calls prog 51 #[π (μ ⟨k,0,ν⟩),ι δ o] w λe r=>e=ξ (β ρ)/\∃b,Gw f l m o b/\fB W r k b:=by
 refine Bh W w k f h o (by omega) (Gw f l m) ⟨λ_=>rfl,λi hi=>by omega⟩ (λj b c s d p=>?_) (λj b s d=>?_);cases j with
 |zero=>
  have e:=d.1 rfl;subst e;obtain⟨T,a⟩:=Te L h.ok p;exact⟨c,rfl,rfl,a.ok,λq=>by omega,λi hi=>⟨T,by rw[show i=0 by omega];exact a⟩⟩
 |succ j=>
  obtain⟨T,a⟩:=d.2 j rfl;obtain⟨t,e1,e2,u,v⟩:=Gv L a (by have:=a.qB L g (by omega);omega) p;exact⟨t,e1,e2,u,λq=>by omega,λi hi=>⟨T,by rw[show i=j+1 by omega];exact v⟩⟩
 cases j with
 |zero=>
  have e:=d.1 rfl;subst e;omega
 |succ j=>
  obtain⟨T,a⟩:=d.2 j rfl;have:=a.qB L g (by omega);omega
def Tl{b:Ns}(h:fB W w k b)(d:f.n<=16384)(L:qA f i l){T:Nat->Int}(a:Lv f i l T m b)(g:m<=8400):
 Calls prog 51 #[π (μ ⟨k,0,ν⟩),ι δ 40] w λe p=>e=ξ (β ρ)/\∃c,Lv f i l T (m+40) c/\fB W p k c:=by
 refine Bh W w k b h 40 (by omega) (λj c=>Lv f i l T (m+j) c) a (λj b c g a q=>?_) (λj b g a=>?_);exact Gv L a (by have:=a.qB L d (by omega);omega) q;have:=a.qB L d (by omega);omega
def Gy(p w:ω)(nb:Nat)(a:Ns)(h:fB p w nb a)(s:a.n<=16384):
 Calls prog 22 #[π (μ ⟨nb,0,ν⟩)] w λe l=>e=ξ (β ρ)/\γ p l ν:=by
 obtain⟨PP,u⟩:∃P:Ending->ω->Prop,P=λe l=>e=ξ (β ρ)/\γ p l ν:=⟨_,rfl⟩
 rw[<-u];have B:=J (λ(l:ω)(g:γ p l ν)=>(show PP (ξ (β ρ)) l by rw[u];exact⟨rfl,g⟩));replace u:=J u;have K:bl a.V a.m a.n:=h.ok;obtain⟨C,D⟩:=K.Ti;obtain⟨t,E,ht,F⟩:=Tj D K.lu.2.2;have q:=S8 w nb a.V h.at_ (λi k hi hk=>by have:=C i k hi hk;omega) K.lu.2.2;rw[E]at q;clear E;obtain⟨P,hP⟩:=exq (min (a.V.bytes+20) 4116);obtain⟨R,x⟩:=exq (33+(2*P+50)/50);have F:=F P R hP x;have L:qA a P R:=⟨hP,x⟩
 have hF:=J (Tk h s L ht);replace q:=J q;clear C D hP x K h;replace L:=J L;go_enter func22,ntmps22;go_upto_region 2 with(go_at_call 52;apply(Z q).mono;rintro e w1⟨rfl,rfl⟩)
 clear q;go_upto_region 5 with(go_at_call 51;apply(Z hF).mono;rintro e G⟨rfl,b,H,y⟩)
 clear hF;obtain⟨T,j⟩:=H.2 (t-1) (by omega);clear H;have I:=j.qB (Z L) s (by omega);have M:=J (S9 G nb b.V y.at_ (j.Bk (by omega) (by omega)));have N:=J (λW(g:γ G W ν)=>Tl (lR.gb y g:fB p W nb b) s (Z L) j (by omega));clear j y I;go_upto_region 6 with(go_at_call 53;apply(Z M).mono;rintro e w3⟨rfl,O⟩)
 have Q:=J (Z N w3 O);clear M N O;go_upto_region 7 with(go_at_call 51;apply(Z Q).mono;rintro e w4⟨rfl,c,j,z⟩)
 clear Q;have I:=j.qB (Z L) s (by omega);obtain⟨va,vc,S⟩:=z.len;obtain⟨U,v⟩:=exq c.V.aN.length;rw[<-v]at S;have X:=J (Bg z (by omega) (i:=0) (by omega));have Y:=J (λd e(q1:ly 0 c d)(q2:ly 1 d e)=>(j.Th (by omega) (by omega) q1 q2).trans v.symm);clear j z;replace v:=J v;go_upto_region 8 with fail;clear S;go_upto_region 9 with(go_at_call 29;apply(Z X).mono;rintro e w5⟨rfl,d,r,N5⟩)
 clear X;have bz:=r.2.1;have ax:=J (Bg N5 (by omega) (i:=1) (by omega));clear N5;replace r:=J r;go_upto_region 10 with(go_at_call 29;apply(Z ax).mono;rintro e w6⟨rfl,f,aC,A⟩)
 clear ax;obtain⟨bM,b0,d20⟩:=A.len;rw[Z Y d f (Z r) aC]at d20;have hf:=J (Z B w6 A.g);clear r aC A Y B;have b3:((U:Int)==(U:Int))=ρ:=by simp
 go_wp2_with fail;first|exact Z hf|(go_ret;exact Z hf)
def wS:ByteArray:=⟨#[115,111,109,101,32,98,121,116,101,115,32,111,102,32,97,32,115,116,114,101,97,109]⟩
def pd:Fr:=⟨5,3,0,0,ρ,wS,[]⟩
def Bl:Sd:=((Sd.new 64 116 gM ρ).write 3 (aI wS)).2.2
def wg:Sd:=(Bl.finish 3).2
noncomputable def wP:List Int:=dq gM 0 0 (bA [pd])
def wN:an:=an.new 64 116 gM θ
def wM:an:=(an.fI 0 [pd] (wN.mark 0)).2
def Tm:wg.bC.bB.2=[wP]:=by kernel_rfl
def Tn:(Sd.new 64 116 gM θ).bC.bB.2=[]:=by kernel_rfl
def To:(bA [pd]).all (λx=>decide (0<=x)&&decide (x<256))=ρ:=by kernel_rfl
def Tp:(bA [pd]).length=26:=by kernel_rfl
def Gz:∀x∈bA [pd],W8 x:=λx a=>by
 have:=List.all_eq_true.1 To x a;simp only[iu,mu]at this;exact this
def Tq:eH gM 0 wP:=(AK (by unfold aW;omega)).2 ⟨by rw[Tp];decide,by decide⟩
def Bm:bm wP=0:=yI (by unfold aW;omega)
def Tr:dJ gM 0 0 (bX wP)=bA [pd]:=by
 unfold wP;rw[yJ];exact AJ _ _ _ _ Gz
def Ts:fu (bA [pd])=(μ [pd],-1):=by
 refine AI (a:=[pd]) (λf a=>?_) (by simp);simp only[cA]at a;subst a;refine⟨⟨?_,?_,?_,?_,λq b=>(by cases b)⟩,⟨⟨?_,?_,?_,?_⟩,⟨?_,?_⟩,?_,?_⟩,?_⟩<;>simp[pd,dD,aW,show wS.size=22 from rfl]
def Tt:aI (strOfNums wP)=wP:=vP (tJ Gz)
def Tu{a:List Fr}(h0:X.closed=0)(b:eH X.key (1-X.me) L)(c:X.dN.has (bm L)=θ)(d:fu (dJ X.key (1-X.me) (bm L) (bX L))=(μ a,q))(e:a.any X.fH=θ):(X.fx L).2.2=(an.fI (bm L) a (X.mark (bm L))).2:=by
 unfold an.fx;rw[aB (by simp[h0]),aB (by simp[b]),aB (by simp[c])];unfold an.qw;rw[d];simp[e]
def Tv:(wN.fx wP).2.2=wM:=by
 have h:=Tu (X:=wN) (L:=wP) (a:=[pd]) (q:= -1) rfl Tq (by rw[Bm];kernel_rfl) (by rw[Bm];exact(fD fu Tr).trans Ts) (by kernel_rfl);rw[h,Bm];rfl
def pQ(m:an)(k:Int):an:=(m.read k 5000).2.2.2.2
def GA:((pQ (pQ (pQ wM 0) 1) 2).read 3 5000).1.length=22/\((pQ (pQ (pQ wM 0) 1) 2).read 3 5000).2.1=1:=⟨by kernel_rfl,by kernel_rfl⟩
end
section
variable{i k n:Nat}{F:Nat->an}{f:Ns}{D:Nw}{W w:ω}
def GB(s:Sd):(aE.ai s).do ⟨4,0,0,0,⟨#[]⟩⟩=(⟨0,-1,0,0,[],[]⟩,.ai s.bC):=by simp[aE.do,aE.tick]
def GC(s:Sd):(aE.ai s).do ⟨5,0,0,0,⟨#[]⟩⟩=(⟨0,-1,0,0,[],s.bB.2⟩,.ai s.bB.1):=by simp[aE.do,aE.bB]
structure ue(a:Ns):Prop where
 s0:a.V.st 0=.ai wg
 s1:a.V.st 1=.ai (Sd.new 64 116 gM θ)
 m1:a.m 1=wN
 aN:a.V.aN=[]
 rd:(a.V.e 0 3).read=0
def kH(a:Ns):Prop:=(a.V.e 0 3).read=22/\(a.V.e 0 3).state=1
def ly.e{b:Ns}(h:ly i f b):b.V.e=f.V.e:=by
 obtain⟨-,-,c,ps,d,v,-,-,a,-⟩:=h;rw[a];rfl
def sC.e{b:Ns}(h:sC f b):b.V.e=f.V.e:=by
 obtain⟨-,-,-,s0,s1,c,-,-,a⟩:=h;rw[a]
def lS.e{b:Ns}(h:lS n f b)(i k:Nat):(b.V.e i k).read=(f.V.e i k).read/\(b.V.e i k).state=(f.V.e i k).state:=by
 obtain⟨-,-,j,r,c,p,d,-,-,-,a,-⟩:=h;rw[a];show(gT f.V.e j p 4 i k).read=_/\(gT f.V.e j p 4 i k).state=_;unfold gT;split<;>exact⟨rfl,rfl⟩
def ml.cM{b:Ns}(h:ml i k f b)(H:kH f):kH b:=by
 obtain⟨-,-,n,N,code,data,p,-,a,-,g,-⟩:=h;unfold kH;rw[g];show(dZ f.V.e (1-i) k _ 0 3).read=_/\(dZ f.V.e (1-i) k _ 0 3).state=_;unfold dZ;split;rename_i j;obtain⟨c,d⟩:=j;rw[<-c,<-d]at a;obtain⟨l,m⟩:=a.st (by rw[H.2];decide);rw[l,m,<-c,<-d];exact⟨by simpa using H.1,H.2⟩
 exact H
def Steps.cM{R:Nat->Ns->Ns->Prop}{S:Ns->Prop}(h:∀q a b,R q a b->S a->S b):∀(c:Nat)(a b:Ns),Steps R c a b->S a->S b:=by
 intro c;induction c with
 |zero=>intro a b e H;cases e;exact H
 |succ c f=>rintro a b⟨d,g,i⟩ H;exact h c d b i (f a d g H)
def Round.cM{b:Ns}(h:Round f b)(H:kH f):kH b:=by
 obtain⟨i,d,g,c,j,hF,-,k,l⟩:=h;have m:kH i:=by unfold kH;rw[j.e];exact H
 have n:kH d:=Steps.cM (S:=kH) (λq x y r a=>by unfold kH;rw[ly.e r];exact a) 2 i d hF m;have p:kH g:=Steps.cM (S:=kH) (λq x y r a=>by unfold kH;rw[(lS.e r 0 3).1,(lS.e r 0 3).2];exact a) c d g k n;exact Steps.cM (S:=kH) (λq x y r a=>Steps.cM (S:=kH) (λq x y r a=>ml.cM r a) 4 x y r a) 2 g b l p
def ml.m{b:Ns}(h:ml i k f b)(j:Nat):b.m j=if j=i then pQ (f.m i) k else f.m j:=by
 obtain⟨-,-,c,N,code,data,d,-,-,-,-,a⟩:=h;rw[a];show ah f.m i _ j=_;unfold ah;rfl
def ml.rd{b:Ns}(h:ml i k f b)(a:¬(0=1-i/\3=k)):(b.V.e 0 3).read=(f.V.e 0 3).read:=by
 obtain⟨-,-,d,N,code,data,g,-,-,-,c,-⟩:=h;rw[c];show(dZ f.V.e (1-i) k _ 0 3).read=_;unfold dZ;rw[aB a]
def ue.round{b:Ns}(H:ue f)(h:Round f b):kH b:=by
 obtain⟨q,u,y,c,s,hF,z,t,P⟩:=h;have Q:=s.2.1;have R:=s.e;have S:=s.aN;obtain⟨-,-,-,s0,s1,A0,t0,t1,l⟩:=s;rw[H.s0,GB]at t0;rw[H.s1,GB]at t1;have e0:wg.bC=s0:=by simpa using t0
 have e1:(Sd.new 64 116 gM θ).bC=s1:=by simpa using t1
 have A:q.V.st 0=.ai wg.bC:=by rw[l,e0];rfl
 have B:q.V.st 1=.ai (Sd.new 64 116 gM θ).bC:=by rw[l,e1];rfl
 clear l t0 t1 e0 e1;obtain⟨d,⟨d0,rfl,f0⟩,f1⟩:=hF;have T:=ly.e f0;have U:=ly.e f1;obtain⟨-,-,W,ps,A1,v,a,-,w,bz,-,C⟩:=f0;rw[A,GC,Tm]at a;have x:ps=[wP]:=by
  have:=fD (λr=>r.1.bB) a;exact this.symm
 subst x;have X:d.V.st 1=.ai (Sd.new 64 116 gM θ).bC:=by rw[w];exact B
 have yb:d.V.aN=[(1,strOfNums wP)]:=by rw[w];show q.V.aN++_=_;rw[S,H.aN];rfl
 have Y:d.m 1=wN:=by rw[C];show q.m 1=_;rw[Q,H.m1]
 clear a w C A B;obtain⟨-,-,s2,ps,A2,v2,a,-,D,al,E,F⟩:=f1;rw[X,GC,Tn]at a;have x:ps=[]:=by
  have:=fD (λr=>r.1.bB) a;exact this.symm
 subst x;have G:u.V.aN=[(1,strOfNums wP)]:=by rw[D];show d.V.aN++_=_;rw[yb];rfl
 have ax:al=[]:=kJ E.len;subst ax;have zm:u.m 1=wN:=by rw[F];show({(d.m 1).dX []with due:=[]}:an)=_;rw[Y];rfl
 clear a D F E;have a0:c=1:=by rw[G,H.aN]at z;simpa using z
 subst a0;obtain⟨d2,e,t⟩:=t;cases e;have gE:=lS.e t 0 3;obtain⟨-,-,i,r,s3,p,A3,hi,I,-,-,K⟩:=t;rw[H.aN,G]at I K;have a2:i=1:=by
  have:(1:Int)=((i:Nat):Int):=I;omega
 subst a2;have L:y.m 1=wM:=by
  rw[K];show((u.m 1).fx (aI (strOfNums wP))).2.2=_;rw[zm,Tt,Tv]
 have M:(y.V.e 0 3).read=0:=by rw[gE.1,U,T,R,H.rd]
 obtain⟨b1,⟨b0,e,a3⟩,a4⟩:=P;cases e;obtain⟨p3,⟨p2,⟨p1,⟨p0,e,g⟩,j⟩,k⟩,n⟩:=a3;cases e;have vm:b1.m 1=wM:=by rw[n.m 1,aB (by decide),k.m 1,aB (by decide),j.m 1,aB (by decide),g.m 1,aB (by decide),L]
 have vr:(b1.V.e 0 3).read=0:=by rw[n.rd (by decide),k.rd (by decide),j.rd (by decide),g.rd (by decide),M]
 clear g j k n L M;obtain⟨p3,⟨p2,⟨p1,⟨p0,e,g⟩,j⟩,k⟩,n⟩:=a4;cases e;have km:p3.m 1=pQ (pQ (pQ wM 0) 1) 2:=by
  rw[k.m 1,j.m 1,g.m 1,vm];rfl
 have kr:(p3.V.e 0 3).read=0:=by rw[k.rd (by decide),j.rd (by decide),g.rd (by decide),vr]
 obtain⟨-,-,W,N,code,data,A',-,-,⟨hd,O⟩,l,-⟩:=n;rw[km]at hd O;unfold kH;rw[l];show(p3.V.e 0 3).read+(data.length:Int)=22/\N=1;rw[kr,hd,O];exact⟨by have:=GA.1;push_cast;omega,GA.2⟩
def ue.rounds(H:ue f):∀(t:Nat)(b:Ns),Steps (λ_=>Round) (t+1) f b->kH b:=by
 intro t;induction t with
 |zero=>rintro b⟨d,e,h⟩;cases e;exact H.round h
 |succ t a=>rintro b⟨d,e,h⟩;exact Round.cM h (a d e)
structure Bp(V:Nw)(m:Nat->an):Prop where
 s0:V.st 0=.ai Bl
 s1:V.st 1=.ai (Sd.new 64 116 gM θ)
 m1:m 1=wN
 aN:V.aN=[]
 rd:(V.e 0 3).read=0
 fi:((V.e 0 3).finished||(V.e 0 3).given)=θ
def GD:bh 0 2=0/\bh 3 4=3/\bh 0 237=0/\bh 100 300=100:=by decide
def Tw(B:lR w W n D F 0)(h0:D.st 0=.ai (Sd.new 64 116 gM ρ))(h:D.st 1=.ai (Sd.new 64 116 gM θ))(j:F 1=wN)(d:∀i k,D.e i k=End.zero)(l:D.aN=[]):
 Calls prog 50 #[π (μ ⟨n,0,ν⟩),ε #[ι δ 1,ι δ 0,ι δ 3,ι δ 0,ς wS]] W λe g=>e=ξ (β ρ)/\∃a b,lR w g n a b 1/\Bp a b:=by
 have hs:cY.ok ⟨1,0,3,0,wS⟩:=⟨by simp[dD],by simp[dD],by simp[dD],by simp[dD],by show wS.size<=_;rw[show wS.size=22 from rfl];omega⟩
 have m:=F5 W n D F 0 B.at_ B.laid B.ok (by omega) ⟨1,0,3,0,wS⟩ hs;refine(m (λa=>∃b,bl a b 1/\Bp a b) rfl (by show((D.e 0 3).finished||(D.e 0 3).given)=θ;rw[d];rfl) (λf N p r c K=>⟨_,K,?_⟩)).mono ?_;replace c:(D.st 0).do ⟨1,3,0,0,wS⟩=(⟨0,-1,N,0,[],[]⟩,.ai f):=c;rw[h0]at c;have e1:aE.ai Bl=.ai f:=(fD Prod.snd c:_)
 refine⟨?_,?_,?_,l,?_,?_⟩
 show aE.ai f=_;rw[e1];exact h;exact j;show(D.e 0 3).read=0;rw[d];rfl;show((D.e 0 3).finished||(D.e 0 3).given)=θ;rw[d];rfl;rintro e g⟨rfl,a,T,b,K,q⟩;exact⟨rfl,a,b,B.go T K,q⟩
def Tx(B:lR w W k D F 1)(H:Bp D F):
 Calls prog 50 #[π (μ ⟨k,0,ν⟩),ε #[ι δ 2,ι δ 0,ι δ 3,ι δ 0,ς ⟨#[]⟩]] W λe g=>e=ξ (β ρ)/\∃b:Ns,fB w g k b/\ue b/\b.n=2:=by
 have hs:cY.ok ⟨2,0,3,0,⟨#[]⟩⟩:=⟨by simp[dD],by simp[dD],by simp[dD],by simp[dD],jm _⟩
 have h:=Gg W k D F 1 B.at_ B.laid B.ok (by omega) ⟨2,0,3,0,⟨#[]⟩⟩ hs;refine(h (λa=>∃c,bl a c 2/\ue ⟨a,c,2⟩) rfl H.fi (λf j d K=>⟨_,K,?_⟩)).mono ?_;replace d:(D.st 0).do ⟨2,3,0,0,⟨#[]⟩⟩=(⟨0,-1,0,0,[],[]⟩,.ai f):=d;rw[H.s0]at d;have e1:aE.ai wg=.ai f:=(fD Prod.snd d:_)
 refine⟨?_,H.s1,H.m1,H.aN,H.rd⟩
 show aE.ai f=_;rw[e1];rintro e g⟨rfl,a,T,c,K,i⟩;exact⟨rfl,⟨a,c,2⟩,B.go T K,i,rfl⟩
def Bq{R:Nat->Ns->Ns->Prop}(h:∀q a b,R q a b->b.n=a.n+1):∀c a b,Steps R c a b->b.n=a.n+c:=by
 intro c;induction c with
 |zero=>intro a b q;have e:a=b:=q;subst e;rfl
 |succ c f=>
  intro a b q;obtain⟨d,hd,g⟩:=q;have:=f a d hd;have:=h c d b g;omega
def Round.qB{b:Ns}(h:Round f b):b.ok/\b.n<=f.n+112:=by
 obtain⟨l,m,a,c,e,⟨x,⟨p,e0,g⟩,i⟩,y,r,⟨j,⟨s,f0,t⟩,k⟩⟩:=h;have e0:l=p:=e0;have f0:a=s:=f0;subst e0;subst f0;have u:=g.aN;have b1:=i.aN;have v:=e.aN;have n0:=e.2.2.1;have z:=g.2.1;have n2:=i.2.1;have A:=Bq (R:=λq=>lS (_+q)) (λq f b h=>h.2.1) c m a r;have n4:=Bq (R:=ml 0) (λq f b h=>h.2.1) 4 a j t;have n5:=Bq (R:=ml 1) (λq f b h=>h.2.1) 4 j b k;rw[v]at u;obtain⟨d,-,w⟩:=k;exact⟨w.1,by omega⟩
def GF(w:ω)(E:Laid w):Calls prog 20 #[] w λe a=>e=ξ (β ρ)/\γ w a ν/\Laid a:=by
 have h:=Gi w E 0 100 (by simp[dD]) (by simp[dD]);rw[GD.2.2.1,GD.2.2.2]at h;replace h:=J h;obtain⟨P,hP⟩:∃P:Ending->ω->Prop,P=λe a=>e=ξ (β ρ)/\γ w a ν/\Laid a:=⟨_,rfl⟩
 rw[<-hP];have t:=J (λ(a:ω)(g:γ w a ν)(l:Laid a)=>(show P (ξ (β ρ)) a by rw[hP];exact⟨rfl,g,l⟩));replace hP:=J hP;go_enter func20,ntmps20;go_upto_region 2 with(go_at_call 49;apply(Z h).mono;rintro e O⟨nb,Q,rfl,f⟩)
 have u:=f.Gl (by decide);have m:=Tw u (f.st 0 (by decide)) (f.st 1 (by decide)) (by rw[f.cfg.2.2];rfl) f.e f.aN;unfold wS at m;replace m:=J m;clear u f h;go_upto_region 5 with(go_at_call 50;apply(Z m).mono;rintro e R⟨rfl,S,T,v,x⟩)
 have y:=J (Tx v x);clear v x m;go_upto_region 6 with(go_at_call 50;apply(Z y).mono;rintro e F⟨rfl,b,z,q,G⟩)
 have A:=J (Bh w F nb b z 4 (by omega) (λj c=>Steps (λ_=>Round) j b c/\c.n<=b.n+112*j) ⟨rfl,by omega⟩ (λj c d H r s=>⟨d,rfl,rfl,s.qB.1,⟨c,r.1,s⟩,by have:=s.qB.2;have:=r.2;omega⟩) (λj c H r=>by have:=r.2;omega));replace q:=J q;clear z y G;go_upto_region 7 with(go_at_call 51;apply(Z A).mono;rintro e I⟨rfl,c,⟨B,K⟩,p⟩)
 obtain⟨C,D⟩:=(Z q).rounds 3 c B;obtain⟨-,c1,-,ce,cl⟩:=p.at_.mT (i:=0) (k:=3) (by decide) (by decide);obtain⟨⟨-,-,-,-,L,M,-⟩,-⟩:=p.at_.ce (i:=0) (k:=3) (by decide) (by decide);rw[C]at L;rw[D]at M;have N:=J (Z t I p.g p.laid);clear C D p B K t A q;go_wp2_with fail;exact Z N
def Tz(w:ω)(q:Laid w)(a:Option Addr)(n cap:Nat)(d:List cY)(H:pP w a n cap d)(mt p:Int)(r:dD mt)(t:dD p):
 Calls prog 7 #[σ a n cap,ι δ mt,ι δ p] w λe C=>e=ξ (β ρ)/\γ w C ν:=by
 have f:=Gk w a n cap d H;unfold Bf at f;replace f:=J f;have u:=J (λW(g:γ w W ν)=>GF W (q.gb g));have hP:=J (λW(g:γ w W ν)(l:Laid W)(j:d.length<=8192)(k:∀s∈d,s.s.size<=8192)=>Gm W l a n cap d (H.au g) j k 3 mt p r t);clear H q r t;go_enter func7,ntmps7;go_upto_region 2 with(go_at_call 19;apply(Z f).mono;rintro e D⟨v,b,rfl,h⟩)
 have x:=J (Z u D v);clear u f;replace h:=J h;go_upto_region 3 with(go_at_call 20;apply(Z x).mono;rintro e y⟨rfl,E,F⟩)
 have c:=aq v E;clear x;cases b
 ·clear h hP;replace c:=J c;go_wp2_with fail;first|exact⟨rfl,Z c⟩|(go_ret;exact⟨rfl,Z c⟩)
 obtain⟨j,k⟩:=Z h rfl;have i:=Z hP y c F j k;unfold yO at i;replace i:=J i;clear h hP j k;replace c:=J c;go_upto_region 6 with(go_at_call 21;apply(Z i).mono;rintro e G⟨nb,V,m,I,rfl,K,B⟩)
 have L:=J (Gy y G nb ⟨V,m,I⟩ B K);clear B i;go_wp2_with (go_at_call 22;apply(Z L).mono;rintro e M⟨rfl,z⟩;have A:=J (aq (Z c) z);clear z);first|exact⟨rfl,Z A⟩|(go_ret;exact⟨rfl,Z A⟩)
def given_any(w:ω)(q:Laid w)(a:Option Addr)(n cap:Nat)(d:List cY)(H:pP w a n cap d)(mt p:Int)(r:dD mt)(t:dD p):
 Calls prog 9 #[σ a n cap,ι δ mt,ι δ p] w λe C=>e=ξ (β ρ)/\γ w C ν:=by
 have f:=Gk w a n cap d H;unfold Bf at f;replace f:=J f;have u:=J (λW(g:γ w W ν)=>GF W (q.gb g));have hP:=J (λW(g:γ w W ν)(l:Laid W)(j:d.length<=8192)(k:∀s∈d,s.s.size<=8192)=>Gm W l a n cap d (H.au g) j k 0 mt p r t);clear H q r t;go_enter func9,ntmps9;go_upto_region 2 with(go_at_call 19;apply(Z f).mono;rintro e D⟨v,b,rfl,h⟩)
 have x:=J (Z u D v);clear u f;replace h:=J h;go_upto_region 3 with(go_at_call 20;apply(Z x).mono;rintro e y⟨rfl,E,F⟩)
 have c:=aq v E;clear x;cases b
 ·clear h hP;replace c:=J c;go_wp2_with fail;first|exact⟨rfl,Z c⟩|(go_ret;exact⟨rfl,Z c⟩)
 obtain⟨j,k⟩:=Z h rfl;have i:=Z hP y c F j k;unfold yO at i;replace i:=J i;clear h hP j k;replace c:=J c;go_upto_region 6 with(go_at_call 21;apply(Z i).mono;rintro e G⟨nb,V,m,I,rfl,K,B⟩)
 have L:=J (Gy y G nb ⟨V,m,I⟩ B K);clear B i;go_wp2_with (go_at_call 22;apply(Z L).mono;rintro e M⟨rfl,z⟩;have A:=J (aq (Z c) z);clear z);first|exact⟨rfl,Z A⟩|(go_ret;exact⟨rfl,Z A⟩)
end
