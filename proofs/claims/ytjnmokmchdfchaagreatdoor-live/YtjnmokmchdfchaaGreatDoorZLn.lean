import Derived.Test.YtjnmokmchdfchaaGreatDoorZLm
set_option maxRecDepth 1000000
set_option maxHeartbeats 0
set_option linter.all false
namespace Go.Proofs.YtjnmokmchdfchaaGreatDoor
open Go.RowKit Tryz
open Go.Value renaming int→ι,slice→σ,bool→β,pointer→π,agg→ε,string→ς,tuple→τ
open Go.IntKind renaming i64→δ,u64→η,u8→Δ
open Go.Ending renaming returned→ξ
open Go.Obj renaming cells→ο
open Or renaming inl→φ,inr→ψ
open Option renaming some→μ,none→ν
open Bool renaming true→ρ,false→θ
open Go renaming World→ω,Value→υ
open Go.World renaming grownBy→γ,cell?→κ,frozen?→χ,setCell→ζ
attribute[local go_sem↓]Go.wp_at_zero Go.wp_at_succ
variable{C c:Array υ}{B:Bool}{I:Fr}{p q r t:Int}{L:List Int}{Y:List Rg}{i j k l n:Nat}{D:Nw}{a:Option Addr}{G:Ot}{s:Sd}{x:υ}{W w:ω}{X:an}
def Fl(L:List (Int×Pc))(k:Nat):∀(out:Nat->Ot),(cP out L k).tE=ρ↔(out k).tE=ρ\/∃x∈L,x.1.toNat=k/\x.2.e=ρ:=by
 induction L with
 |nil=>intro out;simp[cP]
 |cons x L d=>
  intro out;show(cP (ah out x.1.toNat ((out x.1.toNat).eG x.2)) L k).tE=ρ↔_;rw[d];by_cases e:k=x.1.toNat;rw[e,aR];show((out x.1.toNat).tE||x.2.e)=ρ\/_↔_;rw[wJ];constructor;rintro((h|h)|⟨y,a,b⟩);exact φ h;exact ψ ⟨x,by simp,rfl,h⟩;exact ψ ⟨y,by simp[a],b⟩;rintro(h|⟨y,a,b,c⟩);exact φ (φ h);obtain rfl|a:=dY.1 a
  exact φ (ψ c);exact ψ ⟨y,a,b,c⟩;rw[aX _ _ e];constructor;rintro(h|⟨y,a,b⟩);exact φ h;exact ψ ⟨y,by simp[a],b⟩;rintro(h|⟨y,a,b,c⟩);exact φ h;obtain rfl|a:=dY.1 a
  exact absurd b.symm e;exact ψ ⟨y,a,b,c⟩
def Fm(L:List (Int×Pc))(k:Nat):∀(out:Nat->Ot),(cP out L k).tG=ρ↔(out k).tG=ρ\/∃x∈L,x.1.toNat=k/\x.2.g=ρ:=by
 induction L with
 |nil=>intro out;simp[cP]
 |cons x L d=>
  intro out;show(cP (ah out x.1.toNat ((out x.1.toNat).eG x.2)) L k).tG=ρ↔_;rw[d];by_cases e:k=x.1.toNat;rw[e,aR];show((out x.1.toNat).tG||x.2.g)=ρ\/_↔_;rw[wJ];constructor;rintro((h|h)|⟨y,a,b⟩);exact φ h;exact ψ ⟨x,by simp,rfl,h⟩;exact ψ ⟨y,by simp[a],b⟩;rintro(h|⟨y,a,b,c⟩);exact φ (φ h);obtain rfl|a:=dY.1 a
  exact φ (ψ c);exact ψ ⟨y,a,b,c⟩;rw[aX _ _ e];constructor;rintro(h|⟨y,a,b⟩);exact φ h;exact ψ ⟨y,by simp[a],b⟩;rintro(h|⟨y,a,b,c⟩);exact φ h;obtain rfl|a:=dY.1 a
  exact absurd b.symm e;exact ψ ⟨y,a,b,c⟩
def Qn{q:Pk->Bool}{l:List Pk}{x:Pk}(a:x∈l)(b:q x=ρ){c:Pc}(d:c∈x.ps):(x.st,c)∈iZ q l:=by
 unfold iZ;refine sM.2 ⟨x,a,?_⟩;rw[aG b];exact eU.2 ⟨c,d,rfl⟩
def yE{c:Pc}:c∈s.aw.flatMap (λ(x:Pk)=>if x.st=(k:Int)then x.ps else[])↔∃x∈s.aw,x.st=(k:Int)/\c∈x.ps:=by
 rw[sM];constructor;rintro⟨x,b,a⟩;split at a;rename_i e;exact⟨x,b,e,a⟩
 cases a;rintro⟨x,b,e,a⟩;exact⟨x,b,by rw[aG e];exact a⟩
def Qo(l:fG (s.out k))(j:(s.out k).sG=θ->((s.cg Y).out k).en<=(s.out k).en)(hF:0<=((s.cg Y).out k).h.fr)(r:∀x∈s.aw,bp Y x.num=ρ\/¬(x.num+3<=(ao Y 0).hi)):Du.le (s.out k).sG ((s.bT Y).due k) (s.due k):=by
 have e0:(s.bT Y).due k=(s.cg Y).due k:=rfl;rw[e0];obtain⟨L,n⟩:=exq (iZ (λx=>bp Y x.num) s.aw++iZ (λx=>bp Y x.num) s.lost);have i:(s.cg Y).out=cP s.out L:=by rw[n];rfl
 obtain⟨t,u,v⟩:=E3 (s.aw.flatMap (λ(x:Pk)=>if x.st=(k:Int)then x.ps else[])) (s.out k).tw;obtain⟨b1,b2,w⟩:=E3 ((s.cg Y).aw.flatMap (λ(x:Pk)=>if x.st=(k:Int)then x.ps else[])) ((s.cg Y).out k).tw;have sm:=Fk L k s.out l.ok;have hs:=yC L s.out k;have key:∀x∈s.aw,x.st=(k:Int)->∀c∈x.ps,(bp Y x.num=ρ/\((x.st,c)∈L))\/c∈(s.cg Y).aw.flatMap (λ(x:Pk)=>if x.st=(k:Int)then x.ps else[]):=λx b a c d=>by
  by_cases q:bp Y x.num=ρ;left;refine⟨q,?_⟩
  rw[n];exact fC _ (Qn b q d);right;have y:x∈(s.cg Y).aw:=by
   show x∈(s.aw.filter (λx=> !bp Y x.num)).filter (λx=> !decide (x.num+3<=(ao Y 0).hi));refine eO.2 ⟨eO.2 ⟨b,by simp[q]⟩,?_⟩;obtain z|z:=r x b
   exact absurd z q;simp only[qH,qD];exact z
  exact yE.2 ⟨x,y,a,d⟩
 refine⟨λA m e=>?_,λe=>?_,λe=>?_⟩
 have j:=j A;obtain⟨c1,c2⟩:=(b1 m).1 e;refine(t m).2 ⟨?_,λc d=>?_⟩;have c1:Sm (iA ((s.cg Y).out k).h.af ⟨((s.cg Y).out k).h.fr,((s.cg Y).out k).h.fr+((s.cg Y).out k).h.bytes.length⟩) m:=c1;rw[nP]at c1;obtain⟨⟨B,C⟩,f⟩:=c1;rw[i,sm.2 m]at f;have p:¬Sm (s.out k).h.af m:=λq=>f (φ q)
 have D:m<(s.out k).en:=by unfold Ot.en at j;simp only at C;unfold Ot.en;omega
 show Sm (iA (s.out k).h.af ⟨(s.out k).h.fr,(s.out k).h.fr+(s.out k).h.bytes.length⟩) m;rw[nP];refine⟨⟨?_,D⟩,p⟩
 simp only at B⊢;by_cases z:(s.out k).h.fr<=m;exact z;exact absurd (l.low m (by omega) (by omega)) p;obtain⟨x,b,a,g⟩:=yE.1 d;obtain⟨-,q⟩|q:=key x b a c g
 intro z;have c1:Sm (iA ((s.cg Y).out k).h.af ⟨((s.cg Y).out k).h.fr,((s.cg Y).out k).h.fr+((s.cg Y).out k).h.bytes.length⟩) m:=c1;rw[nP]at c1;have f:=c1.2;rw[i,sm.2 m]at f;exact f (ψ ⟨_,q,by simp only;rw[a];rfl,z.1,z.2⟩);exact c2 c q;obtain⟨c1,c2⟩:=b2.1 e;have c1:((s.cg Y).out k).uE=ρ:=c1;unfold Ot.uE at c1;rw[i,iu,qH,hs.sE]at c1;have nt:¬(cP s.out L k).tE=ρ:=by rw[c1.2];simp
 rw[Fl]at nt;refine u.2 ⟨?_,λc d=>?_⟩;show(s.out k).uE=ρ;unfold Ot.uE;rw[c1.1,sO,qH];exact uq.2 (λz=>nt (φ z));obtain⟨x,b,a,g⟩:=yE.1 d;obtain⟨-,q⟩|q:=key x b a c g
 exact uq.2 (λz=>nt (ψ ⟨_,q,by simp only;rw[a];rfl,z⟩));exact c2 c q;obtain⟨c1,c2⟩:=w.1 e;have c1:((s.cg Y).out k).uG=ρ:=c1;unfold Ot.uG at c1;rw[i,iu,qH,hs.sG]at c1;have nt:¬(cP s.out L k).tG=ρ:=by rw[c1.2];simp
 rw[Fm]at nt;refine v.2 ⟨?_,λc d=>?_⟩;show(s.out k).uG=ρ;unfold Ot.uG;rw[c1.1,sO,qH];exact uq.2 (λz=>nt (φ z));obtain⟨x,b,a,g⟩:=yE.1 d;obtain⟨-,q⟩|q:=key x b a c g
 exact uq.2 (λz=>nt (ψ ⟨_,q,by simp only;rw[a];rfl,z⟩));exact c2 c q
def Qp(A:fG G)(c:∀m,Sm G.h.af m->m<G.en){p:Pc}(hp:jQ p)(d:p.x.lo<p.x.hi->p.x.hi<=G.en):(G.eG p).en=G.en/\∀m,Sm (G.eG p).h.af m->m<G.en:=by
 have f:=lV p.x A.ok;obtain⟨i,j,g,k⟩:=zP A f (λm a=>(iK p.x A.ok m).2 (φ a)) (zQ A hp);have b:∀m,Sm (cD G.h.af p.x) m->m<G.en:=λm a=>by
  obtain q|q:=(iK p.x A.ok m).1 a
  exact c m q;have:=d (by omega);omega
 have l:=A.fr;have n:cL ⟨G.h.fr,G.h.bytes,cD G.h.af p.x⟩<=G.h.bytes.length:=by
  by_cases e:cL ⟨G.h.fr,G.h.bytes,cD G.h.af p.x⟩<=G.h.bytes.length;exact e;have:=b G.en (g G.en (by unfold Ot.en;omega) (by unfold Ot.en;omega));omega
 refine⟨?_,b⟩
 show G.h.fr+((cL ⟨G.h.fr,G.h.bytes,cD G.h.af p.x⟩).toNat:Int)+((G.h.bytes.drop (cL ⟨G.h.fr,G.h.bytes,cD G.h.af p.x⟩).toNat).length:Nat)=_;rw[dO];unfold Ot.en;omega
def Qq(L:List (Int×Pc))(k:Nat):∀(out:Nat->Ot),fG (out k)->(∀m,Sm (out k).h.af m->m<(out k).en)->(∀x∈L,x.1.toNat=k->jQ x.2/\(x.2.x.lo<x.2.x.hi->x.2.x.hi<=(out k).en))->(cP out L k).en=(out k).en/\∀m,Sm (cP out L k).h.af m->m<(out k).en:=by
 induction L with
 |nil=>intro out _ b _;exact⟨rfl,b⟩
 |cons x L i=>
  intro out A b c;show(cP (ah out x.1.toNat ((out x.1.toNat).eG x.2)) L k).en=_/\∀m,Sm (cP (ah out x.1.toNat ((out x.1.toNat).eG x.2)) L k).h.af m->_;by_cases e:k=x.1.toNat;obtain⟨j,l⟩:=c x (by simp) e.symm;obtain⟨d,n⟩:=Qp A b j l;rw[<-e];have a:ah out k ((out k).eG x.2) k=(out k).eG x.2:=aR _ _ _;have I:=i (ah out k ((out k).eG x.2)) (by rw[a];exact A.eG j) (by rw[a,d];exact n) (λy f g=>by rw[a,d];exact c y (by simp[f]) g);rw[a,d]at I;exact I;have a:ah out x.1.toNat ((out x.1.toNat).eG x.2) k=out k:=aX _ _ e;have I:=i (ah out x.1.toNat ((out x.1.toNat).eG x.2)) (by rw[a];exact A) (by rw[a];exact b) (λy f g=>by rw[a];exact c y (by simp[f]) g);rw[a]at I;exact I
structure sy(s:Sd):Prop where
 o:∀k,k<4->fG (s.out k)/\((s.out k).sG=θ->∀m,Sm (s.out k).h.af m->m<(s.out k).en)
 pk:∀x∈s.aw++s.lost,0<=x.st/\x.st<4/\∀p∈x.ps,jQ p/\((s.out x.st.toNat).sG=θ->p.x.lo<p.x.hi->p.x.hi<=(s.out x.st.toNat).en)
def sy.yF{s:Sd}(h:sy s)(l:List Rg):sy (s.bT l)/\(∀k,k<4->(s.out k).sG=θ->((s.bT l).out k).en=(s.out k).en)/\(∀x∈(s.bT l).aw++(s.bT l).lost,x∈s.aw++s.lost):=by
 obtain⟨L,r⟩:=exq (iZ (λx=>bp l x.num) s.aw++iZ (λx=>bp l x.num) s.lost);have j:(s.bT l).out=cP s.out L:=by rw[r];rfl
 have eg:∀k,((s.bT l).out k).sG=(s.out k).sG:=λk=>by rw[j];exact(yC L s.out k).sG
 have n:∀y∈L,jQ y.2/\y.1.toNat<4/\((s.out y.1.toNat).sG=θ->y.2.x.lo<y.2.x.hi->y.2.x.hi<=(s.out y.1.toNat).en):=λy f=>by
  rw[r]at f;have:∃x∈s.aw++s.lost,y.1=x.st/\y.2∈x.ps:=by
   obtain q|q:=bL.1 f
   obtain⟨x,e,a,b⟩:=xM q;exact⟨x,fC _ e,a,b⟩
   obtain⟨x,e,a,b⟩:=xM q;exact⟨x,ir _ e,a,b⟩
  obtain⟨x,e,a,b⟩:=this;obtain⟨t,u,g⟩:=h.pk x e;obtain⟨w,A⟩:=g _ b;rw[a];exact⟨w,by omega,A⟩
 have i:∀k,k<4->(s.out k).sG=θ->((s.bT l).out k).en=(s.out k).en/\∀m,Sm ((s.bT l).out k).h.af m->m<(s.out k).en:=λk d c=>by
  rw[j];exact Qq L k s.out (h.o k d).1 ((h.o k d).2 c) (λy f B=>⟨(n y f).1,by have:=(n y f).2.2;rw[B]at this;exact this c⟩)
 have v:∀x∈(s.bT l).aw++(s.bT l).lost,x∈s.aw++s.lost:=λx e=>by
  obtain q|q:=bL.1 e
  have q:x∈(s.aw.filter (λx=> !bp l x.num)).filter (λx=> !decide (x.num+3<=(ao l 0).hi)):=q;exact fC _ (eO.1 (eO.1 q).1).1;have q:x∈(s.cg l).lost:=(eO.1 q).1;have q:x∈s.lost.filter (λx=> !bp l x.num)++(s.aw.filter (λx=> !bp l x.num)).filter (λx=>decide (x.num+3<=(ao l 0).hi)):=q;obtain z|z:=bL.1 q
  exact ir _ (eO.1 z).1;exact fC _ (eO.1 (eO.1 z).1).1
 refine⟨⟨λk d=>⟨?_,λc m C=>?_⟩,λx e=>?_⟩,λk d c=>(i k d c).1,v⟩
 rw[j];exact xI (λk d=>(h.o k d).1) L (λy f=>(n y f).1) k d;rw[eg]at c;rw[(i k d c).1];exact(i k d c).2 m C;obtain⟨t,u,g⟩:=h.pk x (v x e);refine⟨t,u,λp hp=>⟨(g p hp).1,λc=>?_⟩⟩
 rw[eg]at c;rw[(i x.st.toNat (by omega) c).1];exact(g p hp).2 c
def Du.le.refl(G:Bool)(d:Du):Du.le G d d:=⟨λ_ _ h=>h,λh=>h,λh=>h⟩
def Du.le.trans{a b c:Du}(h:Du.le B a b)(g:Du.le B b c):Du.le B a c:=⟨λz m q=>g.l z m (h.l z m q),λq=>g.e (h.e q),λq=>g.g (h.g q)⟩
def Qr{new:List Pk}:∀(C:List (List Rg))(s:Sd)(F:List Pk),sy s->s.aw=F++new->(∀x∈F,∃c,C.head?=μ c/\bp c x.num=ρ)->(∀y∈new,∀c∈C,bp c y.num=θ/\¬(y.num+3<=(ao c 0).hi))->
 (C.foldl Sd.bT s).aw=new/\sy (C.foldl Sd.bT s)/\(∀k,k<4->Du.le (s.out k).sG ((C.foldl Sd.bT s).due k) (s.due k)/\((C.foldl Sd.bT s).out k).sG=(s.out k).sG):=by
 intro C;induction C with
 |nil=>
  intro s F b d hF g;have:F=[]:=by
   cases F with
   |nil=>rfl
   |cons x F=>obtain⟨c,t,-⟩:=hF x (by simp);cases t
  exact⟨by rw[List.foldl_nil,d,this];rfl,b,λk _=>⟨Du.le.refl _ _,rfl⟩⟩
 |cons c C u=>
  intro s F b d hF g;have n:∀x∈F,bp c x.num=ρ:=λx a=>by
   obtain⟨i,e,h⟩:=hF x a;have:c=i:=aQ e;rw[this];exact h
  have j:∀y∈new,bp c y.num=θ/\¬(y.num+3<=(ao c 0).hi):=λy m=>g y m c (by simp)
  obtain⟨p,v,-⟩:=b.yF c;have w:(s.bT c).aw=[]++new:=by
   show(s.aw.filter (λx=> !bp c x.num)).filter (λx=> !decide (x.num+3<=(ao c 0).hi))=[]++new;rw[d,List.filter_append];have e1:F.filter (λx=> !bp c x.num)=[]:=by
    rw[List.filter_eq_nil_iff];intro x a;simp[n x a]
   have e2:new.filter (λx=> !bp c x.num)=new:=by
    rw[List.filter_eq_self];intro x a;simp[(j x a).1]
   have z:new.filter (λx=> !decide (x.num+3<=(ao c 0).hi))=new:=by
    rw[List.filter_eq_self];intro x a;simp only[qH,qD];exact(j x a).2
   rw[e1,e2,jL,z]
  obtain⟨A,B,D⟩:=u (s.bT c) [] p w (λx a=>(by cases a)) (λy m i E=>g y m i (by simp[E]));refine⟨A,B,λk f=>?_⟩
  obtain⟨r,G⟩:=D k f;have eg:((s.bT c).out k).sG=(s.out k).sG:=(yC _ s.out k).sG;rw[eg]at r;have hd:=Qo (Y:=c) (k:=k) (b.o k f).1 (λH=>by have:=v k f H;show((s.bT c).out k).en<=_;omega) (p.o k f).1.fr (λx a=>by
   rw[d]at a;obtain q|q:=bL.1 a
   exact φ (n x q)
   ·exact ψ (j x q).2)
  exact⟨r.trans hd,G.trans eg⟩
structure jW(l:List Rg)(a b:Int):Prop where
 ok:aU l
 lt:∀m,Sm l m->m<b
 la:∃c r,l=c++[r]/\r.lo<=a/\r.hi=b
def AH{r:Rg}:Sm (Y++[r]) p↔Sm Y p\/(r.lo<=p/\p<r.hi):=by
 constructor;rintro⟨x,a,h⟩;obtain q|q:=bL.1 a
 exact φ ⟨x,q,h⟩;rw[cA.1 q]at h;exact ψ h;rintro(⟨x,a,h⟩|h);exact⟨x,fC _ a,h⟩
 exact⟨r,by simp,h⟩
def Fo(h:jW Y p t)(b:8<Y.length):jW (Y.drop 1) p t:=by
 obtain⟨c,r,e,d,f⟩:=h.la;have hs:∀x∈Y.drop 1,x∈Y:=λx a=>iH a
 refine⟨⟨h.ok.1.sublist (List.drop_sublist 1 Y),λx a=>h.ok.2 x (hs x a)⟩,λm ⟨x,a,q⟩=>h.lt m ⟨x,hs x a,q⟩,c.drop 1,r,?_,d,f⟩
 rw[e];rw[e]at b;rw[bF,wB]at b;rw[Br (by omega)]
def Qs(d:aU Y)(u:∀m,Sm Y m->m<q):jW (eJ Y p q).1 q (q+1)/\(∀a,jW Y a q->jW (eJ Y p q).1 a (q+1)):=by
 have i:=lV (Y:=Y) ⟨q,q+1⟩ d;have j:∀m,Sm (cD Y ⟨q,q+1⟩) m↔Sm Y m\/(q<=m/\m<q+1):=λm=>iK ⟨q,q+1⟩ d m
 have v:∀m,Sm (cD Y ⟨q,q+1⟩) m->m<q+1:=λm b=>by
  obtain z|z:=(j m).1 b
  have:=u m z;omega;exact z.2
 have w:∀x∈Y,x.hi<=q:=λx c=>by
  have:=d.2 x c;have:=u (x.hi-1) ⟨x,c,by omega,by omega⟩;omega
 have H:∃f r,cD Y ⟨q,q+1⟩=f++[r]/\r.lo<=q/\r.hi=q+1/\∀a,jW Y a q->r.lo<=a:=by
  by_cases k:∃f r,Y=f++[r]/\r.hi=q;obtain⟨f,r,e,N⟩:=k;have O:=d.2 r (by rw[e];simp);have h:=d.1;rw[e,uj]at h;obtain⟨I,-,p3⟩:=h;have l:aU (f++[⟨r.lo,q+1⟩]):=by
   refine⟨uj.2 ⟨I,wu _ _,λx c y g=>?_⟩,λx c=>?_⟩
   rw[cA.1 g];exact p3 x c r (by simp);obtain b|b:=bL.1 c
   exact d.2 x (by rw[e];simp[b]);rw[cA.1 b];show r.lo<q+1;omega
  refine⟨f,⟨r.lo,q+1⟩,i.unique l (λm=>?_),by show r.lo<=q;omega,rfl,λa T=>?_⟩
  rw[j,e,AH,AH];constructor;rintro((b|b)|b);exact φ b;exact ψ ⟨b.1,by simp only;omega⟩;exact ψ ⟨by simp only;omega,b.2⟩;rintro(b|b);exact φ (φ b);simp only at b;by_cases z:m<r.hi;exact φ (ψ ⟨b.1,z⟩);exact ψ ⟨by omega,b.2⟩;obtain⟨A,B,e1,n,C⟩:=T.la;rw[e]at e1;have:=(List.append_inj' e1 rfl).2;have:=List.cons.inj this;rw[this.1];exact n;have K:∀x∈Y,x.hi<q:=λx c=>by
   have n:=w x c;by_cases z:x.hi=q;exfalso;obtain⟨s,t,e⟩:=List.append_of_mem c;cases t with
   |nil=>exact k ⟨s,x,e,z⟩
   |cons y t=>
    have h:=d.1;rw[e,uj]at h;have:=(kK.1 h.2.1).1 y (by simp);have g:y∈Y:=by rw[e];simp
    have:=d.2 y g;have:=w y g;omega
   omega
  have l:aU (Y++[⟨q,q+1⟩]):=by
   refine⟨uj.2 ⟨d.1,wu _ _,λx c y g=>?_⟩,λx c=>?_⟩
   rw[cA.1 g];exact K x c;obtain b|b:=bL.1 c
   exact d.2 x b;rw[cA.1 b];show q<q+1;omega
  refine⟨Y,⟨q,q+1⟩,i.unique l (λm=>?_),cE _,rfl,λa T=>?_⟩
  rw[j,AH];obtain⟨A,B,e1,n,C⟩:=T.la;exact absurd ⟨A,B,e1,C⟩ k
 obtain⟨f,r,e,L,D,M⟩:=H;have E:jW (cD Y ⟨q,q+1⟩) q (q+1):=⟨i,v,f,r,e,L,D⟩
 have F:∀a,jW Y a q->jW (cD Y ⟨q,q+1⟩) a (q+1):=λa T=>⟨i,v,f,r,e,M a T,D⟩
 unfold eJ;split;rename_i G;exact⟨Fo E G,λa T=>Fo (F a T) G⟩
 exact⟨E,F⟩
def jW.named(h:jW Y p q)(g:p<=r)(i:r<q):∃a t,eX Y Y.length=a::t/\a.lo<=r/\r<=a.hi/\a.hi=q-1:=by
 obtain⟨b,d,e,j,l⟩:=h.la;have c:Y.length=b.length+1:=by rw[e];simp
 have e0:∀k,eX Y (k+1)=⟨(ao Y (Y.length-1)).lo,(ao Y (Y.length-1)).hi-1⟩::(eX Y (k+1)).drop 1:=by
  intro k;induction k with
  |zero=>rfl
  |succ k f=>
   have:eX Y (k+1+1)=eX Y (k+1)++[⟨(ao Y (Y.length-1-(k+1))).lo,(ao Y (Y.length-1-(k+1))).hi-1⟩]:=rfl;rw[this,f];rfl
 have er:ao Y (Y.length-1)=d:=by
  rw[e];simp[ao,List.getD]
 rw[c,e0 b.length,<-c,er];exact⟨_,_,rfl,by simp only;omega,by simp only;omega,by simp only;omega⟩
def Fw{num:Int}{a:List Fr}(d:∀f∈a,f.ok/\cO f/\(f.ranges.length:Int)<=4611686018427387903)(h0:a≠[])(i:a.map gL=a)(u:0<=num/\num<=4611686018427387903)(hl:(bA a).length<=284)(j:im s.af s.floor num=θ)(k:a.any s.fH=θ){st:Sd}(h:s.recv (dq s.key (aK (!s.first)) num (bA a))=(p,r,.ai st)):p=0/\(di (s.dM num a) a).1=0/\st=(di (s.dM num a) a).2:=by
 have l:∀x∈bA a,W8 x:=vQ d;have g:aW num:=by unfold aW;omega
 have m:eH s.key (aK (!s.first)) (dq s.key (aK (!s.first)) num (bA a)):=(AK g).2 ⟨by omega,by omega⟩;have n:bm (dq s.key (aK (!s.first)) num (bA a))=num:=yI g;have t:fu (dJ s.key (aK (!s.first)) num (bX (dq s.key (aK (!s.first)) num (bA a))))=(μ a,-1):=by
  rw[yJ,AJ _ _ _ _ l,AI d h0,i]
 unfold Sd.recv at h;rw[aB (λe=>e m),n,aB (by rw[j];simp),t]at h;simp only at h;rw[k]at h;simp only[eN,eA]at h;split at h;rename_i q;have b:=jl h;have c:=jl b.2;exact⟨b.1.symm,q,(aE.ai.inj c.2).symm⟩
 have b:=jl h;have c:=jl b.2;cases c.2
def Q1(h:I.kind=4\/I.kind=5):(s.take I).2={s with aF:=(s.take I).2.aF}:=by
 unfold Sd.take;have a:¬I.kind=3:=by omega
 rw[aB a];obtain h|h:=h
 rw[aG h];split<;>rfl;rw[iN_,aG h];split<;>rfl
def Fx:∀(a:List Fr)(s:Sd),(∀f∈a,f.kind=4\/f.kind=5)->(di s a).2={s with aF:=(di s a).2.aF}:=by
 intro a;induction a with
 |nil=>intro s _;rfl
 |cons f a c=>
  intro s h;have b:=Q1 (s:=s) (h f (by simp));rw[r9];split;have:=c (s.take f).2 (λg d=>h g (by simp[d]));rw[this];simp only
  rw[b];exact b
structure gS(s a:Sd):Prop where
 out:a.out=s.out
 aw:a.aw=s.aw
 lost:a.lost=s.lost
 wait:a.wait=s.wait
 tick:a.tick=s.tick
 count:a.count=s.count
def gS.due{a:Sd}(h:gS s a)(k:Nat):a.due k=s.due k:=by unfold Sd.due;rw[h.aw,h.out]
def gS.yF{s s':Sd}(h:gS s s')(l:List Rg):gS (s.bT l) (s'.bT l):=by
 have e1:(s'.cg l).out=(s.cg l).out:=by show cP s'.out _=cP s.out _;rw[h.out,h.aw,h.lost]
 have e2:(s'.cg l).lost=(s.cg l).lost:=by
  show s'.lost.filter _++(s'.aw.filter _).filter _=s.lost.filter _++(s.aw.filter _).filter _;rw[h.aw,h.lost]
 refine⟨e1,?_,?_,?_,h.tick,h.count⟩
 show(s'.aw.filter _).filter _=(s.aw.filter _).filter _;rw[h.aw];show(s'.cg l).lost.filter (λx=> !x.ps.all (kq ((s'.cg l).out x.st.toNat)))=(s.cg l).lost.filter (λx=> !x.ps.all (kq ((s.cg l).out x.st.toNat)));rw[e1,e2];show(if s'.aw.any _ then 4 else s'.wait)=(if s.aw.any _ then 4 else s.wait)
 rw[h.aw,h.wait]
def gS.trans{b c:Sd}(h:gS s b)(g:gS b c):gS s c:=⟨g.out.trans h.out,g.aw.trans h.aw,g.lost.trans h.lost,g.wait.trans h.wait,g.tick.trans h.tick,g.count.trans h.count⟩
def gS.refl(s:Sd):gS s s:=⟨rfl,rfl,rfl,rfl,rfl,rfl⟩
def Q2{num:Int}{a:List Fr}(h:∀f∈a,f.kind=4\/f.kind=5):gS s (di (s.dM num a) a).2:=by
 rw[Fx a _ h];exact⟨rfl,rfl,rfl,rfl,rfl,rfl⟩
structure FI(s a:Sd):Prop where
 lost:a.lost=s.lost
 wait:a.wait=s.wait
 tick:a.tick=s.tick
 af:a.af=s.af
 floor:a.floor=s.floor
 aF:a.aF=s.aF
 cfg:a.aj=s.aj/\a.ag=s.ag/\a.key=s.key/\a.first=s.first
 bQ:a.bQ=θ
 out:∀k,∃y,a.out k={s.out k with av:=y}
def AQ(hs:bO s n)(b:n<=100000):∀k,k<=4->FI s (bY s k).1:=by
 intro k;induction k with
 |zero=>
  intro _;obtain⟨c,e,-⟩:=vF s;have e0:(bY s 0).1={s with bQ:=θ,count:=c}:=e;rw[e0];exact⟨rfl,rfl,rfl,rfl,rfl,rfl,⟨rfl,rfl,rfl,rfl⟩,rfl,λk=>⟨_,rfl⟩⟩
 |succ k d=>
  intro f;have h:=d (by omega);obtain⟨o1,-⟩:=vH hs b k (by omega);have R:=(yq o1 (by omega) k (by omega)).1.eq;have e:(bY s (k+1)).1=((bY s k).1.pieces k).s:=rfl;rw[e,R];refine⟨h.lost,h.wait,h.tick,h.af,h.floor,h.aF,h.cfg,h.bQ,λj=>?_⟩
  obtain⟨y,a⟩:=h.out j;by_cases q:j=k;subst q;simp only[aR]
  rw[a];exact⟨_,rfl⟩
  simp only[aX _ _ q]
  exact⟨y,a⟩
structure mR(s:Sd)(a b:an):Prop where
 w:4<=s.wait
 te:∀k,k<4->rA a.av (λn=>Sm b.bG.sp n) k (s.out k).tE (s.out k).tG
def kE(s a:Sd):Prop:=(4<=s.wait->4<=a.wait)/\∀k,(a.out k).tE=(s.out k).tE/\(a.out k).tG=(s.out k).tG
def mR.cM{a:Sd}{c b e:an}(h:mR s X b)(k:kE s a)(hs:∀x∈X.av,x∈c.av)(f:∀d,Sm b.bG.sp d->Sm e.bG.sp d):mR a c e:=
 ⟨k.1 h.w,λj g=>by rw[(k.2 j).1,(k.2 j).2];exact(h.te j g).mono hs (λ_ _ q=>f _ q)⟩
def AR(a:G.tE=(s.out k).tE)(b:G.tG=(s.out k).tG):kE s {s with out:=ah s.out k G}:=⟨λh=>h,λj=>by
 by_cases e:j=k;subst e;simp only[aR];exact⟨a,b⟩
 ·simp only[aX _ _ e];exact⟨trivial,trivial⟩⟩
def kE.refl(s:Sd):kE s s:=⟨λh=>h,λ_=>⟨rfl,rfl⟩⟩
def Rx{a:Sd}{q:gy}{r:Rs}(b:q.op≠5)(c:q.op≠6)(h:(aE.ai s).do q=(r,.ai a)):kE s a:=by
 unfold aE.do at h;split at h;have h:=(jl h).2;simp only[aE.write]at h;split at h;rw[<-aE.ai.inj h];exact kE.refl s;simp only at h;rw[<-aE.ai.inj h];unfold Sd.write;split;exact kE.refl s;exact AR rfl rfl;split at h;have h:=(jl h).2;simp only[aE.finish]at h;split at h;rw[<-aE.ai.inj h];exact kE.refl s;simp only at h;rw[<-aE.ai.inj h];unfold Sd.finish;split;exact kE.refl s;exact AR rfl rfl;split at h;have h:=(jl h).2;simp only[aE.giveUp]at h;split at h;rw[<-aE.ai.inj h];exact kE.refl s;simp only at h;rw[<-aE.ai.inj h];unfold Sd.giveUp;split;exact kE.refl s;exact AR rfl rfl;split at h;have h:=(jl h).2;simp only[aE.tick]at h;rw[<-aE.ai.inj h];unfold Sd.bC;split;exact⟨λq=>by show 4<=min (2*s.wait) 32;omega,λ_=>⟨rfl,rfl⟩⟩
 exact⟨λq=>q,λ_=>⟨rfl,rfl⟩⟩
 split at h;have h:=(jl h).2;simp only[aE.read]at h;split at h;rw[<-aE.ai.inj h];exact kE.refl s;simp only at h;rw[<-aE.ai.inj h];exact⟨λq=>q,λ_=>⟨rfl,rfl⟩⟩
 split at h;have h:=(jl h).2;simp only[aE.close]at h;split at h;rw[<-aE.ai.inj h];exact kE.refl s;cases h;split at h;rw[<-aE.ai.inj (jl h).2];exact kE.refl s;rw[<-aE.ai.inj (jl h).2];exact kE.refl s
def Ry(hs:bO s n)(a:n<=100000):kE s s.bB.1:=by
 have h:=AQ hs a 4 (aP _);refine⟨λq=>by rw[show s.bB.1.wait=s.wait from h.wait];exact q,λk=>?_⟩
 obtain⟨y,b⟩:=h.out k;rw[show s.bB.1.out k=_ from b];exact⟨rfl,rfl⟩
def Rz{b:an}(hF:∀p∈s.aw++s.lost,∀q∈p.ps,rA X.av (λn=>n=p.num) p.st.toNat q.e q.g)(f:I.kind=3->∀n,bp I.ranges n=ρ->Sm b.bG.sp n)(h:mR s X b):
 (∀p∈(s.take I).2.aw++(s.take I).2.lost,p∈s.aw++s.lost)/\mR (s.take I).2 X b:=by
 by_cases d:I.kind=3;unfold Sd.take;rw[aG d];split;exact⟨λp hp=>hp,h⟩
 have i:∀p∈(s.bT I.ranges).aw++(s.bT I.ranges).lost,p∈s.aw++s.lost:=λp hp=>by
  obtain q|q:=bL.1 hp
  have q:p∈(s.aw.filter (λx=> !bp I.ranges x.num)).filter (λx=> !decide (x.num+3<=(ao I.ranges 0).hi)):=q;exact fC _ (eO.1 (eO.1 q).1).1;have q:p∈(s.cg I.ranges).lost:=(eO.1 q).1;have q:p∈s.lost.filter (λx=> !bp I.ranges x.num)++(s.aw.filter (λx=> !bp I.ranges x.num)).filter (λx=>decide (x.num+3<=(ao I.ranges 0).hi)):=q;obtain z|z:=bL.1 q
  exact ir _ (eO.1 z).1;exact fC _ (eO.1 (eO.1 z).1).1
 refine⟨i,⟨?_,λk j=>?_⟩⟩
 show 4<=(if s.aw.any _ then 4 else s.wait);split;omega;exact h.w;have l:(s.bT I.ranges).out=cP s.out (iZ (λx=>bp I.ranges x.num) s.aw++iZ (λx=>bp I.ranges x.num) s.lost):=rfl;have key:∀y∈iZ (λx=>bp I.ranges x.num) s.aw++iZ (λx=>bp I.ranges x.num) s.lost,rA X.av (λn=>Sm b.bG.sp n) y.1.toNat y.2.e y.2.g:=λy a=>by
  have:∃p∈s.aw++s.lost,bp I.ranges p.num=ρ/\y.1=p.st/\y.2∈p.ps:=by
   obtain q|q:=bL.1 a
   obtain⟨p,hp,c⟩:=yD.1 q;exact⟨p,fC _ hp,c⟩
   obtain⟨p,hp,c⟩:=yD.1 q;exact⟨p,ir _ hp,c⟩
  obtain⟨p,hp,c1,c2,c3⟩:=this;rw[c2];exact(hF p hp _ c3).mono (λ_ q=>q) (λx _ e=>by
   have e:x.1=p.num:=e;show Sm b.bG.sp x.1;rw[e];exact f d _ c1)
 have h0:=h.te k j;simp only[l]
 refine⟨λe=>?_,λe=>?_⟩
 obtain q|⟨y,a,e1,e2⟩:=(Fl _ k s.out).1 e
 exact h0.1 q;rw[<-e1];exact(key y a).1 e2;obtain q|⟨y,a,e1,e2⟩:=(Fm _ k s.out).1 e
 exact h0.2 q;rw[<-e1];exact(key y a).2 e2;have e:(s.take I).2={s with aF:=(s.take I).2.aF}:=by
  unfold Sd.take;rw[aB d];split;split<;>rfl;split;split<;>rfl;split<;>rfl
 rw[e];exact⟨λp hp=>hp,h.w,h.te⟩
def RA{b:an}:∀(a:List Fr)(s:Sd),(∀p∈s.aw++s.lost,∀q∈p.ps,rA X.av (λn=>n=p.num) p.st.toNat q.e q.g)->(∀f∈a,f.kind=3->∀n,bp f.ranges n=ρ->Sm b.bG.sp n)->mR s X b->mR (di s a).2 X b:=by
 intro a;induction a with
 |nil=>intro s _ _ h;exact h
 |cons f a d=>
  intro s hF c h;obtain⟨t1,t2⟩:=Rz hF (c f (by simp)) h;rw[r9];split;exact d _ (λp hp=>hF p (t1 p hp)) (λg i=>c g (by simp[i])) t2;exact t2
def AS{a:Sd}{b:ByteArray}{r:Rs}(h:(aE.ai s).do ⟨6,0,0,0,b⟩=(r,.ai a)):∃c d,s.recv (aI b)=(c,d,.ai a):=by
 have e:(aE.ai s).do ⟨6,0,0,0,b⟩=(⟨(s.recv (aI b)).1,(s.recv (aI b)).2.1,0,0,[],[]⟩,(s.recv (aI b)).2.2):=by
  unfold aE.do;simp only[aE.recv]
  simp
 rw[e]at h;have:=(jl h).2;exact⟨(s.recv (aI b)).1,(s.recv (aI b)).2.1,by rw[<-this]⟩
def RB{d:Sd}{b:an}(R:dc s X n)(D:cN b X)(h:mR s X b){x:Int×List Fr}(i:x∈b.av)(hp:oX b L x)(a:s.recv L=(q,r,.ai d)):mR d X b:=by
 obtain⟨g,p2,p3⟩:=hp;have j:b.me=aK (!s.first):=by have:=R.c.aK.2.1;have:=D.me;omega
 have k:b.key=s.key:=by rw[<-D.key];exact R.c.key
 rw[j,k]at g p3;unfold Sd.recv at a;rw[aB (λe=>e g)]at a;split at a;rw[<-aE.ai.inj (jl (jl a).2).2];exact h;rw[p3]at a;simp only at a;split at a;rw[<-aE.ai.inj (jl (jl a).2).2];exact h;split at a;rw[<-aE.ai.inj (jl (jl a).2).2];exact RA x.2 (s.dM (bm L) x.2) R.c.fl.eg (λf l m=>D.ak x i f l m) ⟨h.w,h.te⟩;cases(jl (jl a).2).2
structure AT(o:Nat->Ot)(f:Fr):Prop where
 ok:f.ok/\cO f/\(f.ranges.length:Int)<=4611686018427387903
 nf:gL f=f
 kind:f.kind=4\/f.kind=5
 st:0<=f.stream/\f.stream<4
 k5:f.kind=5->(o f.stream.toNat).sG=θ/\aT f<=(o f.stream.toNat).en
structure AU(s b:Sd)(l:List (List Int))(C:List (List Rg))(D:List (List Fr)):Prop where
 l:l=gI s.key (aK s.first) s.count ((C.map λc=>[bw c])++D)
 ba:b.count=s.count+C.length+D.length
 aw:b.aw.length=s.aw.length+D.length
 d:∀a∈D,a≠[]/\((bA a).length:Int)<=s.aj-16/\∀f∈a,AT s.out f
def RD(h:dc s X n)(hs:bO s n)(Q:n<=99999){C:List (List Rg)}(A:sd s C):∀k,k<=4->∃D,AU s (bY s k).1 (bY s k).2 C D:=by
 intro k;induction k with
 |zero=>
  intro _;refine⟨[],?_,?_,?_,λm b=>(by cases b)⟩
  show s.eY.l=_;rw[A.l,mW];show s.eY.s.count=_;rw[A.st];simp;show s.eY.s.aw.length=_;rw[A.st];simp
 |succ k j=>
  intro U;have g:k<4:=by omega
  obtain⟨D,P⟩:=j (by omega);obtain⟨o1,-⟩:=vH hs (by omega) k (by omega);obtain⟨V,-,R,-⟩:=FD h hs (by omega) k (by omega);have S:=AQ hs (by omega) k (by omega);obtain⟨E,L⟩:=OW o1 (by omega) k g;have w:((bY s k).1.pieces k).l=gI (bY s k).1.key (aK (bY s k).1.first) (bY s k).1.count (E.map λL=>L.map (·.2)):=L.l;have B:((bY s k).1.pieces k).s.aw=(bY s k).1.aw++lO (bY s k).1.tick k (bY s k).1.count (E.map λL=>L.map (·.1)):=L.aw;have G:((bY s k).1.pieces k).s.count=(bY s k).1.count+E.length:=L.count;have H:∀(i:List (List Pc))(a:Int)(c:Int),(lO a k c i).length=i.length:=λi=>by
   induction i with
   |nil=>intro a c;rfl
   |cons x i j=>intro a c;simp only[lO,cS,j]
  refine⟨D++E.map (λL=>L.map (·.2)),?_,?_,?_,λm b=>?_⟩
  show(bY s k).2++((bY s k).1.pieces k).l=_;have e:(bY s k).1.count=s.count+(((C.map λc=>[bw c])++D).length:Nat):=by
   rw[P.ba,bF,dd];push_cast;omega
  rw[w,P.l,S.cfg.2.2.1,S.cfg.2.2.2,e,<-fm,EF _ _ (_++D) _];show((bY s k).1.pieces k).s.count=_;rw[G,P.ba,bF,dd];push_cast;omega;show((bY s k).1.pieces k).s.aw.length=_;rw[B,bF,H,dd,P.aw,bF,dd];omega;obtain q|q:=bL.1 b
  exact P.d m q;obtain⟨T,I,rfl⟩:=eU.1 q;obtain⟨K,p,r⟩:=L.fr T I;refine⟨λe=>K (List.map_eq_nil_iff.1 e),by rw[S.cfg.1]at p;exact p,λf b=>?_⟩
  obtain⟨z,t,rfl⟩:=eU.1 b;have F:=(r z t).AM (R.c.out k g) (o1.out k g) g (o1.code k g);obtain⟨y,u⟩:=S.out k;have M:z.2.stream.toNat=k:=by rw[F.st];omega
  refine⟨F.ok,F.nf,F.kind,by rw[F.st];omega,λN=>?_⟩
  rw[M];have q:=F.k5 N;have O:(s.out k).sG=θ:=by have:=q.1;rw[u]at this;exact this
  refine⟨O,?_⟩
  obtain⟨v,-⟩|⟨-,-,-,-,a5,-⟩:=r z t
  rw[q.1]at v;cases v;rw[q.2.2.1];rw[u]at a5;exact a5
structure AV(af:List Rg)(c:List Rg):Prop where
 ok:(bw c).ok/\cO (bw c)/\((bw c).ranges.length:Int)<=4611686018427387903
 len:(bA [bw c]).length<=284
 nm:∀m,bp c m=ρ->Sm af m
 hd:∃m,Sm af m/\(ao c 0).hi=m
 ne:c≠[]
def sd.vR{C:List (List Rg)}(g:sd s C)(hs:bO s n):∀c∈C,AV s.af c:=λc d=>by
 obtain⟨f1,f2⟩:=g.fr c d;have p:=hs.aj;have q:s.bQ=ρ:=by
  cases ho:s.bQ;rw[g.no ho]at d;cases d;rfl
 have k:∀r∈c,∃i,i<s.af.length/\r=⟨(ao s.af i).lo,(ao s.af i).hi-1⟩:=λr f=>by
  have:r∈C.flatten:=List.mem_flatten.2 ⟨c,d,f⟩;rw[g.all q]at this;obtain⟨i,-,l,w⟩:=(AN s.af.length (aP _)).1 this;exact⟨i,l,w⟩
 have hl:c.length<=8:=by
  have t:c.length<=C.flatten.length:=by
   obtain⟨a,b,rfl⟩:=List.append_of_mem d;simp;omega
  rw[g.all q,lZ]at t;have:=hs.c8;omega
 refine⟨⟨⟨by simp[bw,dD],by simp[bw,dD],by simp[bw,aW],by simp[bw,aW],λr f=>?_⟩,⟨⟨by simp[bw],by simp[bw],by simp[bw],by simp[bw]⟩,⟨λ_=>f1,λe=>(by simp[bw]at e)⟩,by simp[bw],by simp[bw]⟩,?_⟩,by omega,λm p=>?_,?_,λe=>by have h0:=f1.1;rw[e]at h0;exact absurd h0 (Nat.lt_irrefl 0)⟩
 obtain⟨i,hi,rfl⟩:=k r f;have u:=kh hi;have t:=hs.cr _ u;have l:=hs.kY.2 _ u;unfold Rg.ok aW;simp only
 omega;show(c.length:Int)<=_;omega;obtain⟨i,hi,v,n2⟩:=(xB _ _).1 p;have f:ao c i∈c:=by unfold ao;rw[oy,dT hi];simp
 obtain⟨j,h,e⟩:=k _ f;rw[e]at v n2;simp only at v n2;exact⟨_,kh h,by omega,by omega⟩
 have h0:0<c.length:=f1.1;obtain⟨j,h,e⟩:=k _ (kh h0);have l:=hs.kY.2 _ (kh h);exact⟨(ao s.af j).hi-1,⟨_,kh h,by omega,by omega⟩,by rw[e]⟩
structure AW(s:Sd)(C:List (List Rg))(D:List (List Fr))(new:List Pk):Prop where
 a:sd s C
 d:AU s s.bB.1 s.bB.2 C D
 l:yv s s.bB.1 new
 nl:new.length=D.length
 jt:10<=s.bB.1.aw.length\/∀j,j<4->(s.bB.1.due j).jt (s.bB.1.out j)
 s:FI s s.bB.1
def AX(h:dc s X n)(hs:bO s n)(a:n<=99999):∃C D new,AW s C D new:=by
 obtain⟨C,A⟩:=EI hs;obtain⟨D,P⟩:=RD h hs a A 4 (aP _);obtain⟨new,L,i⟩:=PJ hs (by omega) 4 (aP _);refine⟨C,D,new,A,P,L,?_,i,AQ hs (by omega) 4 (aP _)⟩
 have e1:=P.aw;have e2:=L.aw;have b:(bY s 4).1.aw.length=s.aw.length+new.length:=by rw[e2,bF]
 omega
def lr:Sd->List (List Int)->Sd->Prop
 |s,[],a=>a=s
 |s,p::ps,a=>∃b c t,s.recv p=(b,c,.ai t)/\lr t ps a
def lr.snoc:∀{ps:List (List Int)}{s t f:Sd}{p:List Int}{g i:Int},lr s ps t->t.recv p=(g,i,.ai f)->lr s (ps++[p]) f:=by
 intro ps;induction ps with
 |nil=>intro s t f p g i h q;rw[show t=s from h]at q;exact⟨g,i,f,q,rfl⟩
 |cons x ps j=>
  intro s t f p g i h q;obtain⟨a,b,c,d,e⟩:=h;exact⟨a,b,c,d,j e q⟩
def lr.split:∀{a b:List (List Int)}{s c:Sd},lr s (a++b) c->∃t,lr s a t/\lr t b c:=by
 intro a;induction a with
 |nil=>intro b s c h;exact⟨s,rfl,h⟩
 |cons x a d=>
  intro b s c h;obtain⟨e,f,t,g,i⟩:=h;obtain⟨j,k,l⟩:=d i;exact⟨j,⟨e,f,t,g,k⟩,l⟩
def jJ(ps:List (List Int)):List (List Int):=ps.map (λp=>aI (strOfNums p))
structure pM(t:Sd)(n:Int):Prop where
 ok:aU t.af
 lt:∀m,Sm t.af m->m<n
 fl:t.floor<=n
def pM.np(h:pM s p):im s.af s.floor p=θ:=by
 unfold im;rw[fc (by have:=h.fl;omega),ux];rw[uq];intro q;obtain⟨r,a,e⟩:=oG.1 q;simp only[iu,mu]at e;have:=h.lt p ⟨r,a,e⟩;omega
def RE(a:aU Y)(c:∀m,Sm Y m->m<r)(f:p<=r):(eJ Y p r).2<=r+1:=by
 have d:=lV (Y:=Y) ⟨r,r+1⟩ a;unfold eJ;split;rename_i g;show(ao (cD Y ⟨r,r+1⟩) 0).hi<=r+1;have b:=kh (Y:=cD Y ⟨r,r+1⟩) (i:=0) (by omega);have h:=d.2 _ b;have e:=(iK ⟨r,r+1⟩ a ((ao (cD Y ⟨r,r+1⟩) 0).hi-1)).1 ⟨_,b,by omega,by omega⟩;obtain q|q:=e
 have:=c _ q;omega;simp only at q;omega;show p<=r+1;omega
structure jX(u v:Sd)(n0 n:Int):Prop where
 fr:pM v n
 tp:∀a,jW u.af a n0->jW v.af a n
 t0:n0<n->jW v.af n0 n
 le:n0<=n
 cfg:v.key=u.key/\v.first=u.first/\v.ag=u.ag
 ins:∀k,(v.aF k).h.fr=(u.aF k).h.fr/\((v.aF k).given=θ->(u.aF k).given=θ)
def jX.refl(h:pM s p):jX s s p p:=⟨h,λ_ q=>q,λq=>by omega,cE _,⟨rfl,rfl,rfl⟩,λ_=>⟨rfl,id⟩⟩
def jX.trans{t v:Sd}(h:jX s t p r)(g:jX t v r q):jX s v p q:=by
 have b:=h.le;have c:=g.le;refine⟨g.fr,λx a=>g.tp x (h.tp x a),λa=>?_,by omega,⟨g.cfg.1.trans h.cfg.1,g.cfg.2.1.trans h.cfg.2.1,g.cfg.2.2.trans h.cfg.2.2⟩,λk=>⟨(g.ins k).1.trans (h.ins k).1,λa=>(h.ins k).2 ((g.ins k).2 a)⟩⟩
 by_cases e:p<r;exact g.tp _ (h.t0 e);have:p=r:=by omega
 subst this;exact g.t0 a
def jX.step{t:Sd}(h:pM s p)(c:t.af=(eJ s.af s.floor p).1)(d:t.floor=(eJ s.af s.floor p).2)(e:t.key=s.key/\t.first=s.first/\t.ag=s.ag)(hi:∀k,(t.aF k).h.fr=(s.aF k).h.fr/\((t.aF k).given=θ->(s.aF k).given=θ)):jX s t p (p+1):=by
 obtain⟨a,b⟩:=Qs (p:=s.floor) h.ok h.lt;rw[<-c]at a b;exact⟨⟨a.ok,a.lt,by rw[d];exact RE h.ok h.lt h.fl⟩,b,λ_=>a,by omega,e,hi⟩
def RF{num:Int}(h:(di (s.dM num [bw Y]) [bw Y]).1=0):(di (s.dM num [bw Y]) [bw Y]).2=(s.dM num [bw Y]).bT Y:=by
 have e:di (s.dM num [bw Y]) [bw Y]=if((s.dM num [bw Y]).take (bw Y)).1=0 then(0,((s.dM num [bw Y]).take (bw Y)).2)else(s.dM num [bw Y]).take (bw Y):=by
  rw[r9];rfl
 have a:(s.dM num [bw Y]).take (bw Y)=if(s.dM num [bw Y]).count<=(ao Y 0).hi then(8,s.dM num [bw Y])else(0,(s.dM num [bw Y]).bT Y):=by
  unfold Sd.take;rw[aG (show(bw Y).kind=3 from rfl)];rfl
 rw[e]at h⊢;by_cases z:(s.dM num [bw Y]).count<=(ao Y 0).hi;rw[a,aG z]at h;simp at h;rw[a,aB z];simp only[dC]
def gS.RG:∀(C:List (List Rg)){a b:Sd},gS a b->gS (C.foldl Sd.bT a) (C.foldl Sd.bT b):=by
 intro C;induction C with
 |nil=>intro a b h;exact h
 |cons c C d=>intro a b h;exact d (h.yF c)
def RH:∀(C:List (List Rg))(u v:Sd)(n0:Int),pM u n0->0<=n0->n0+C.length<=4611686018427387903->(∀c∈C,AV Y c)->lr u (jJ (gI u.key (aK (!u.first)) n0 (C.map λc=>[bw c]))) v->
 jX u v n0 (n0+C.length)/\gS (C.foldl Sd.bT u) v/\v.bQ=u.bQ:=by
 intro C;induction C with
 |nil=>
  intro u v n0 hF h0 i j h;have e:v=u:=h;subst e;rw[show n0+(([]:List (List Rg)).length:Int)=n0 by simp];exact⟨jX.refl hF,gS.refl _,rfl⟩
 |cons c C m=>
  intro u v n0 hF h0 i j h;obtain⟨n,p,t,b,q⟩:=h;rw[cS]at i;push_cast at i;have A:=j c (by simp);have l:∀f∈[bw c],f.ok/\cO f/\(f.ranges.length:Int)<=4611686018427387903:=λf r=>by
   rw[cA.1 r];exact A.ok
  have b:u.recv (aI (strOfNums (dq u.key (aK !u.first) n0 (bA [bw c]))))=(n,p,aE.ai t):=b;rw[vP (tJ (vQ l))]at b;obtain⟨-,w,a⟩:=Fw l (by simp) rfl ⟨h0,by omega⟩ A.len hF.np (by simp[Sd.fH,bw]) b;rw[RF w]at a;have g:jX u t n0 (n0+1):=jX.step hF (by rw[a];rfl) (by rw[a];rfl) (by rw[a];exact⟨rfl,rfl,rfl⟩) (λk=>by rw[a];exact⟨rfl,id⟩);have x:gS (u.bT c) t:=by
   rw[a];exact gS.yF (s:=u) (s':=u.dM n0 [bw c]) ⟨rfl,rfl,rfl,rfl,rfl,rfl⟩ c
  have y:t.bQ=u.bQ:=by
   rw[a];show(u.bQ||[bw c].any kz)=u.bQ;simp[kz,bw]
  have e1:t.key=u.key:=g.cfg.1;have e2:t.first=u.first:=g.cfg.2.1;obtain⟨z,B,D⟩:=m t v (n0+1) g.fr (by omega) (by omega) (λd hd=>j d (by simp[hd])) (by rw[e1,e2];exact q);have en:n0+((c::C).length:Int)=n0+1+C.length:=by rw[cS];push_cast;omega
  rw[en];exact⟨g.trans z,(gS.RG C x).trans B,D.trans y⟩
def RI:∀(a:List Fr)(s:Sd),kW s (di s a).2:=by
 intro a;induction a with
 |nil=>intro s;exact kW.rfl' s
 |cons f a b=>
  intro s;rw[r9];split;exact(take_same s f).trans (b _);exact take_same s f
def NB(o:Nat->Ot)(u:Sd):Prop:=∀k,k<4->(o k).sG=θ->(u.aF k).given=θ->(o k).en<=(u.aF k).h.fr+u.ag
def NB.cM{o:Nat->Ot}{v:Sd}(h:NB o s)(r:jX s v p q):NB o v:=λk a b c=>by
 rw[(r.ins k).1,r.cfg.2.2];exact h k a b ((r.ins k).2 c)
def NB.not{o:Nat->Ot}(h:NB o s){c:List Fr}(d:∀f∈c,AT o f):c.any s.fH=θ:=by
 rw[uq];intro q;obtain⟨f,g,e⟩:=oG.1 q;have F:=d f g;unfold Sd.fH It.busy at e;simp only[iu,mu,qH]at e;obtain⟨e1,e2,i⟩:=e;obtain⟨a,b⟩:=F.k5 e1;have j:=F.st;have:=h f.stream.toNat (by omega) a e2;omega
def RJ{o:Nat->Ot}(H:p<=300):∀(D:List (List Fr))(u v:Sd)(n0:Int),pM u n0->0<=n0->n0+D.length<=4611686018427387903->(∀a∈D,a≠[]/\((bA a).length:Int)<=p-16/\∀f∈a,AT o f)->NB o u->lr u (jJ (gI u.key (aK (!u.first)) n0 D)) v->
 jX u v n0 (n0+D.length)/\gS u v/\(D=[]->v.bQ=u.bQ)/\(D≠[]\/u.bQ=ρ->v.bQ=ρ):=by
 intro D;induction D with
 |nil=>
  intro u v n0 hF h0 i j l h;have e:v=u:=h;subst e;rw[show n0+(([]:List (List Fr)).length:Int)=n0 by simp];exact⟨jX.refl hF,gS.refl _,λ_=>rfl,λq=>q.elim (λq=>absurd rfl q) id⟩
 |cons a D w=>
  intro u v n0 hF h0 i j l h;obtain⟨x,y,t,g,z⟩:=h;rw[cS]at i;push_cast at i;obtain⟨d1,d2,d3⟩:=j a (by simp);have n:∀f∈a,f.ok/\cO f/\(f.ranges.length:Int)<=4611686018427387903:=λf b=>(d3 f b).ok
  have A:a.map gL=a:=by
   conv=>rhs;rw[<-rK a]
   apply wD;intro f b;exact(d3 f b).nf
  have g:u.recv (aI (strOfNums (dq u.key (aK !u.first) n0 (bA a))))=(x,y,aE.ai t):=g;rw[vP (tJ (vQ n))]at g;obtain⟨-,I,r⟩:=Fw n d1 A ⟨h0,by omega⟩ (by omega) hF.np (l.not d3) g;have m:∀f∈a,f.kind=4\/f.kind=5:=λf b=>(d3 f b).kind
  have ed:=Fx a (u.dM n0 a) m;have s:=(RI a (u.dM n0 a)).aF;rw[<-r]at ed s;have c:jX u t n0 (n0+1):=jX.step hF (by rw[ed];rfl) (by rw[ed];rfl) (by rw[ed];exact⟨rfl,rfl,rfl⟩) (λk=>s k);have B:gS u t:=by rw[r];exact Q2 m
  have C:t.bQ=ρ:=by
   rw[ed];show(u.bQ||a.any kz)=ρ;cases a with
   |nil=>exact absurd rfl d1
   |cons f a=>
    have:kz f=ρ:=by
     unfold kz;obtain q|q:=m f (by simp)<;>rw[q]<;>rfl
    rw[List.any_cons,this];simp
  have e1:t.key=u.key:=c.cfg.1;have e2:t.first=u.first:=c.cfg.2.1;obtain⟨E,F,-,G⟩:=w t v (n0+1) c.fr (by omega) (by omega) (λd hd=>j d (by simp[hd])) (l.cM c) (by rw[e1,e2];exact z);have en:n0+((a::D).length:Int)=n0+1+D.length:=by rw[cS];push_cast;omega
  rw[en];exact⟨c.trans E,B.trans F,λe=>(by cases e),λ_=>G (ψ C)⟩
def RK{u v:Sd}{C:List (List Rg)}{D:List (List Fr)}{b:Sd}{ps:List (List Int)}(hs:bO s n)(y:n<=99999)(A:sd s C)(P:AU s b ps C D)(z:b.count<=1000000000)(g:u.key=s.key)(i:s.first= !u.first)(hF:pM u s.count)(j:NB s.out u)(h:lr u (jJ ps) v):
 jX u v s.count b.count/\gS (C.foldl Sd.bT u) v/\(D=[]->v.bQ=u.bQ)/\(D≠[]->v.bQ=ρ):=by
 have k:=hs.ba;have m:=hs.aj;have p:=P.ba;rw[P.l,EF]at h;unfold jJ at h;rw[mV]at h;obtain⟨t,f,c⟩:=h.split;rw[i,<-g]at f c;obtain⟨a,q,r⟩:=RH C u t s.count hF k.1 (by omega) (A.vR hs) f;rw[dd]at c;obtain⟨b1,b2,w,x⟩:=RJ m.2 D t v (s.count+C.length) a.fr (by omega) (by omega) P.d (j.cM a) (by rw[a.cfg.1,a.cfg.2.1];exact c);rw[p];exact⟨a.trans b1,q.trans b2,λe=>(w e).trans r,λe=>x (φ e)⟩
def bV.RT(h:bV w n D)(f:Laid w)(hi:i<2)(c:Int):bS w n D {D with ba:=Go.Proofs.YtjnmokmchdfchaaGreatDoor.ah D.ba i c} (ζ w ⟨D.cr,i,ν⟩ (ι η c)):=by
 have t:=h.vT;have C:=oY w D.cr i (ι η c);have q:D.Own n D.cr:=ψ (ψ (ψ (φ rfl)));refine⟨?_,C.mono (λb _ e=>φ (e▸q)),λb g=>φ g,f.aA C (λe=>(h.own _ q).1 e.symm)⟩
 refine h.ah C (λb _ e j a=>by subst e;exact(h.own _ q).2 j a) (t.ne h.tx (by decide)∘Eq.symm) (t.ne h.te (by decide)∘Eq.symm) (λj a e=>t.ne (h.tl j a) (by decide) e.symm) D.e (Go.Proofs.YtjnmokmchdfchaaGreatDoor.ah D.ba i c) D.aN D.vb ?_ (λj a l hl=>?_) ?_ ?_ (φ rfl);exact(C.block n (h.fV n (φ rfl)) (λe=>t.ne ⟨_,_,h.aV⟩ (by decide) e.symm)).trans h.aV;have k:D.Own n (D.eb j l):=ψ (ψ (ψ (ψ (ψ (φ ⟨j,l,a,hl,rfl⟩)))));exact(C.block _ (h.fV _ k) (λe=>(h.FL a hl).2.2.2.1 e)).trans (h.en j a l hl);obtain⟨cs,m,d⟩:=h.ba;refine⟨_,heap_set m _,λj a=>?_⟩
 by_cases e:j=i;subst e;rw[aR];have:=(bg.1 (d j a)).1;simp[lz,this];rw[aX _ _ e,Array.getElem?_setIfInBounds_ne (λq=>e q.symm)];exact d j a;exact lg h.aN C (λb e e2=>t.ne (jc h.aN b e) (by decide) e2.symm)
def RU(V:Nw)(a:eP V.key)(v:υ):V.cells.setIfInBounds 20 v={V with vb:=v}.cells:=by
 obtain⟨_,_,_,_,_,_,_,_,_,_,_,_,_,_,_,_,e⟩:=yi (bv V.key) (by rw[fX,a.1]);unfold Nw.cells;rw[e];rfl
def bV.RV(h:bV w n D)(y:Laid w){c:List (Int×ByteArray)}(g:γ w W D.vb.ownBlock)(z:W.ownsRow 0 83 2 x c.length (c.flatMap je))(ho:x.ownBlock=D.vb.ownBlock\/x.ownBlock=μ w.heap.size):bS w n D {D with aN:=c,vb:=x} (ζ W ⟨n,20,ν⟩ x):=by
 have A:=h.fV n (φ rfl);have r:∀k,D.vb.ownBlock=μ k->Ty w k 83:=jc h.aN;have s:Ty w n 80:=⟨_,_,h.aV⟩
 have nn:D.vb.ownBlock≠μ n:=λe=>(s.ne (r n e) (by decide)) rfl
 have b1:W.heap[n]?=μ (ο D.cells 80 (0,0)):=(g.block n A (λe=>nn e.symm)).trans h.aV;have u:=oY W n 20 x;have C:ay w (ζ W ⟨n,20,ν⟩ x) (λk=>D.vb.ownBlock=μ k\/k=n):=(ay.of g).trans u;have f:∀k,(D.vb.ownBlock=μ k\/k=n)->D.Own n k:=λk e=>e.elim (λe=>ψ (ψ (ψ (ψ (ψ (ψ e)))))) (λe=>φ e)
 have d:∀{b:Nat}{t:TypeId},Ty w b t->t≠83->t≠80->¬(D.vb.ownBlock=μ b\/b=n):=λv m p e=>e.elim (λe=>v.ne (r _ e) m rfl) (λe=>v.ne s p e)
 have B:∀k,x.ownBlock=μ k->k≠n:=λk e e2=>by
  subst e2;obtain i|i:=ho
  exact nn (i▸e);rw[e]at i;have:=aQ i;omega
 have E:∀k,Nw.jY {D with aN:=c,vb:=x} n k->D.jY n k\/w.heap.size<=k:=λk F=>by
  obtain(e|e|e|e|e|e|e)|e:=F
  exact φ (φ (φ e));exact φ (φ (ψ (φ e)));exact φ (φ (ψ (ψ (φ e))));exact φ (φ (ψ (ψ (ψ (φ e)))));exact φ (φ (ψ (ψ (ψ (ψ (φ e))))));exact φ (φ (ψ (ψ (ψ (ψ (ψ (φ e)))))));have e:x.ownBlock=μ k:=e;obtain q|q:=ho
  exact φ (φ (f k (φ (q▸e))));rw[e]at q;have:=aQ q;exact ψ (by omega);exact φ (ψ e)
 refine⟨?_,C.mono (λb _ e=>φ (f b e)),E,y.aA C (λe=>(h.own _ (f 0 e)).1 rfl)⟩
 refine h.ah C (λb _ e j a=>(h.own b (f b e)).2 j a) (d h.tx (by decide) (by decide)) (d h.te (by decide) (by decide)) (λj a=>d (h.tl j a) (by decide) (by decide)) D.e D.ba c x ?_ (λj a l hl=>?_) ?_ ?_ ?_;have:=heap_set (o:=20) b1 x;rw[RU D h.key x]at this;exact this;exact(C.block _ (h.fV _ (ψ (ψ (ψ (ψ (ψ (φ ⟨j,l,a,hl,rfl⟩))))))) (d ⟨_,_,h.en j a l hl⟩ (by decide) (by decide))).trans (h.en j a l hl);obtain⟨cs,m,p⟩:=h.ba;exact⟨cs,(C.block _ h.vT.lt (d h.vT (by decide) (by decide))).trans m,p⟩
 exact lg z u (λb e e2=>B b e e2);obtain q|q:=ho
 exact φ q;exact ψ (λk e=>by rw[e]at q;have:=aQ q;omega)
def RW:(prog.info? 83).map (λi=>(i.zero,i.size,i.bytes))=μ (μ (ε #[ι δ 0,ς ⟨#[]⟩]),2,24):=by kernel_rfl
def RX(l:List (Int×ByteArray)):∀u∈l.flatMap je,u.oneCell'=ρ:=by
 intro u b;obtain⟨x,-,a⟩:=sM.1 b;simp only[je,dY,sL,or_false]at a;obtain rfl|rfl:=a<;>rfl
def RY(v:υ)(l:List (Int×ByteArray))(n:w.ownsRow 0 83 2 v l.length (l.flatMap je))(b c:Nat)(x:Int×ByteArray)(h0:w.heap[b]?=μ (ο #[ι δ x.1,ς x.2] 83 (0,0)))(B:l.length<=10000000):
 ∃d e f a,(Builtin.append_ #[77,77] 77 #[v,σ (μ ⟨b,0,ν⟩) 1 c]).run prog w=.ok (σ d e f) a/\a.ownsRow 0 83 2 (σ d e f) (l++[x]).length ((l++[x]).flatMap je)/\γ w a v.ownBlock/\((Value.slice d e f).ownBlock=v.ownBlock\/(Value.slice d e f).ownBlock=μ w.heap.size):=by
 obtain⟨p,hi,q,r,s⟩:=lU RW;obtain⟨t,a,i,y,k,_,m⟩:=run_append_own_at (P:=prog) w 0 77 77 83 p (ε #[ι δ 0,ς ⟨#[]⟩]) 2 24 underlying77 hi q r s rfl (by decide) v l.length (l.flatMap je) n ⟨b,0,ν⟩ 1 c (je x) (by rfl) (λj u z=>by
  rw[Addr.add_mid,ep,aZ h0];have:(#[Value.int δ x.1,ς x.2]:Array υ)[j]?=(je x)[j]? :=by unfold je;rw[<-ui]
  rw[this];exact z) (λu A=>RX [x] u (by simpa using A)) (by simp[maxLen];omega) (by omega) (jm _)
 have h:a.ownsRow 0 83 2 t (l++[x]).length ((l++[x]).flatMap je):=by
  rw[bF,wF];have:[x].flatMap je=je x:=by simp
  rw[this];exact y
 obtain⟨-,⟨rfl,e2⟩|⟨g,cap,C,rfl,_⟩⟩:=id h;exact⟨_,_,_,a,i,h,k,m⟩
 exact⟨_,_,_,a,i,h,k,m⟩
structure nE(w:ω)(nb:Nat)(V a:Nw)(R:Nat)(cs:Array υ)(sl:υ)(ps:List (List Int))(wr:ω):Prop where
 T:bS w nb V a wr
 rb:wr.heap[R]?=μ (ο cs 46 (0,0))
 own:gH wr 0 sl ps
 nR:¬a.jY nb R
 nO:∀k,sl.ownBlock=μ k->¬a.jY nb k
def nE.go{a b:Nw}{ps:List (List Int)}{wr:ω}(h:nE w n D a i c x ps wr)(S:bS wr n a b W):nE w n D b i c x ps W:=by
 have f:=(bg.1 h.rb).1;refine⟨h.T.trans S,(S.aA.block i f h.nR).trans h.rb,h.own.aA S.aA h.nO,λe=>(S.all i e).elim h.nR (λq=>by omega),λk d e=>(S.all k e).elim (h.nO k d) (λq=>by have:=(h.own.lt k d).2;omega)⟩
def nE.gb{a:Nw}{ps:List (List Int)}{wr:ω}(h:nE w n D a k c x ps wr)(g:γ wr W ν):nE w n D a k c x ps W:=h.go (bS.refl h.T.at_ g h.T.laid)
def nE.pk{d:Nw}{ps:List (List Int)}{wr:ω}(h:nE w k D d i C (σ a n l) ps wr)(b:j<ps.length):n=ps.length/\∃g,a=μ ⟨g,0,ν⟩/\κ wr ⟨g,j,ν⟩=μ (ς (fj (ps.map strOfNums) j)):=by
 obtain⟨-,⟨e,q⟩|⟨g,cap,c,e,-,f,-,-,r,m⟩⟩:=h.own;omega;obtain⟨rfl,rfl,rfl⟩:=jy e;refine⟨rfl,g,rfl,?_⟩
 rw[aZ f,<-qF];have p:(c.toList.take (ps.length*1))[j]?=c.toList[j]? :=by rw[jK,iP_]
 rw[<-p,m,uo,dT b];simp[fj,List.getD,b]
def jZ(V:Nw)(i:Nat)(a:Int)(c:aE)(bs:List ByteArray)(j:Nat)(d:Nat->Prop)(v:υ):Nw:={V with st:=ah V.st i c,A:=ah V.A i d,ba:=ah V.ba i (V.ba i+j),aN:=V.aN++(bs.take j).map (λb=>(a,b)),vb:=v}
structure FU(V:Nw)(i:Nat)(b:ByteArray)(j:Nat):Prop where
 ok:eH V.key (aK (decide (i=0))) (aI b)
 num:bm (aI b)=V.ba i+j
 len:(b.size:Int)<=V.aj
 ne:16<b.size
def RZ{bs:List ByteArray}(h:j<bs.length):bs.take (j+1)=bs.take j++[fj bs j]:=by
 rw[pS,dT h];simp[fj,List.getD,h]
def bV.R3(h:bV w n D)(hi:i<2):κ w ⟨D.cr,i,ν⟩=μ (ι η (D.ba i))/\χ w ⟨D.cr,i,ν⟩=θ:=by
 obtain⟨cs,a,b⟩:=h.ba;exact⟨by rw[aZ a];exact b i hi,by simp[World.frozen?,a]⟩
def R4(V:Nw)(i:Nat)(a:Int)(c:aE)(bs:List ByteArray)(j:Nat)(f:j<bs.length)(d:Nat->Prop)(v e:υ):{jZ V i a c bs j d v with ba:=ah (ah V.ba i (V.ba i+j)) i (V.ba i+j+1),aN:=(V.aN++(bs.take j).map (λb=>(a,b)))++[(a,fj bs j)],vb:=e}=jZ V i a c bs (j+1) d e:=by
 unfold jZ;simp only[rV]
 rw[RZ f,mV,fm];congr 1;push_cast;rw[Int.add_assoc]
def FV(w:ω)(nb:Nat)(V:Nw)(H:bV w nb V)(S:Laid w)(i:Nat)(b:Int)(hi:i<2)(et:(1:Int)-i=b)(n:Nat)(ch:fh n (V.st i))(hn:n<=100000)(ps:List (List Int))(eu:ps.length<=1000)(ew:V.aN.length<=9000000)(ey:0<=V.ba i/\V.ba i<=1000000000000)(l:aE)
 (U:(V.st i).do ⟨5,0,0,0,⟨#[]⟩⟩=(⟨0,-1,0,0,[],ps⟩,l)) (hF:∀j,j<ps.length->FU V i (fj (ps.map strOfNums) j) j):
 Calls prog 29 #[π (μ ⟨nb,0,ν⟩),ι δ i] w λe G=>e=ξ (β ρ)/\∃A' v,bS w nb V (jZ V i b l (ps.map strOfNums) ps.length A' v) G:=by
 have i0:(0:Int)<=i:=by omega
 have i1:(i:Int)<2:=by omega
 have eD:IntKind.i64.wrap b=b:=wI_;have W:=bS.refl H (aD w ν) S;have u:=oq W hi ch hn ⟨5,0,0,0,⟨#[]⟩⟩ (by simp[aW]) (jm _) U ⟨by simp,by simp,λe=>by simp at e⟩;obtain⟨⟨c0,-,-,-,-,-⟩,-⟩:=H.c;have cx:=H.x i hi;unfold dB mS mh at u;simp only[qu]at u;replace u:=J u;have X:=H.key;have cw:Hid ((prog.info? 24).map (·.size)=μ (bv V.key).length):=J (by rw[fX,H.key.1];exact nJ);obtain⟨f,Y⟩:=exq (decide (i=0));have eK:((i:Int)==0)=f:=by
  rw[Y];have I:i=0\/i=1:=by omega
  obtain I|I:=I<;>subst I<;>decide
 have bj:Hid (∀j,j<ps.length->eH V.key (aK f) (aI (fj (ps.map strOfNums) j))/\bm (aI (fj (ps.map strOfNums) j))=V.ba i+j/\((fj (ps.map strOfNums) j).size:Int)<=V.aj/\16<(fj (ps.map strOfNums) j).size):=J (λj B=>by rw[Y];exact⟨(hF j B).ok,(hF j B).num,(hF j B).len,(hF j B).ne⟩);clear hF Y;obtain⟨bs,y⟩:=exq (ps.map strOfNums);have eL:bs.length=ps.length:=by rw[y,dd]
 rw[<-y]at bj⊢;replace⟨y,H,W,S,X,U⟩:=pH y H W S X U;go_enter func29,ntmps29;go_upto_region 2 with(go_at_call 28;apply(Z u).mono;rintro e w3⟨a,m,c,d,rfl,br,T3,bt⟩)
 obtain⟨W5,K⟩:=exq (w3.alloc (ο #[ι δ 0,ι δ (-1),ι δ 0,ι η 0,ς ⟨#[]⟩,σ a m c] 46));obtain⟨R,hR⟩:=exq w3.heap.size;have g5:γ w3 W5 ν:=by rw[K];exact aJ _ _ _
 have b5:W5.heap[R]?=μ (ο #[ι δ 0,ι δ (-1),ι δ 0,ι η 0,ς ⟨#[]⟩,σ a m c] 46 (0,0)):=by rw[K,hR];exact aO _ _
 have F0:Hid (nE w nb V (jZ V i b l bs 0 d V.vb) R #[ι δ 0,ι δ (-1),ι δ 0,ι η 0,ς ⟨#[]⟩,σ a m c] (σ a m c) ps W5):=J (by
  have e:jZ V i b l bs 0 d V.vb={V with st:=ah V.st i l,A:=ah V.A i d}:=by
   unfold jZ;have e1:ah V.ba i (V.ba i+((0:Nat):Int))=V.ba:=by rw[show V.ba i+((0:Nat):Int)=V.ba i by simp,m8]
   rw[e1];simp
  rw[e];refine⟨T3.gb g5,b5,(br.aA (ay.of g5) (λk _ e=>by cases e)).low (jm _),λe=>?_,bt⟩
  have:=T3.at_.yL R e;omega)
 rw[<-K,<-hR];clear K T3 bt br b5 g5 u c0 cx hR;have hm:(m:Int)=ps.length:=by
  have:=(Z F0).own;obtain⟨a1,c1,e⟩:=this.gR;have:=(jy e).2.1;omega
 go_wp2;go_loopw [6] (λjv wr=>∃(j:Nat)(d:Nat->Prop)(v:υ),j<=ps.length/\jv=ι δ j/\nE w nb V (jZ V i b l bs j d v) R #[ι δ 0,ι δ (-1),ι δ 0,ι η 0,ς ⟨#[]⟩,σ a m c] (σ a m c) ps wr) (λjv _=>ps.length-(intOf jv).toNat);case atStart=>exact⟨0,d,V.vb,by omega,rfl,Z F0⟩
 case round=>
  clear F0 d;obtain⟨j,d,v,B,rfl,F⟩:=hrel;obtain⟨va,vc,z,-⟩:=sh F.T.at_.aN;have z:v=σ va (jZ V i b l bs j d v).aN.length vc:=z;obtain⟨vn,bz⟩:=exq ((jZ V i b l bs j d v).aN.length);rw[<-bz]at z;clear bz;replace z:=J z;have r5:κ wr ⟨R,5,ν⟩=μ (σ a m c):=by simp[World.cell?,F.rb]
  by_cases a4:j<ps.length
  ·have d1:decide ((j:Int)<m)=ρ:=dT_;have j0:(0:Int)<=j:=by omega
   have j1:(j:Int)<m:=by omega
   obtain⟨-,g,ha,cp⟩:=F.pk a4;rw[<-Z y]at cp;subst ha;obtain⟨f1,f2,f3,f4⟩:=Z bj j a4;have e7:(fj bs j).size<=300:=by have:=f1.2.1;rw[fN]at this;exact this
   have e8:=pD (fj bs j);have C:=F.gb (wT wr (fj bs j));have hU:=FK (Lib.bytesWorld wr 5 (fj bs j)) V.key f _ _ _ _ (Z X) C.T.laid (yZ wr (fj bs j)) (by rw[fN];omega);have b3:=J C.T.at_.rZ;have hA:=J (λ(r:ω)(g2:(Lib.bytesWorld wr 5 (fj bs j)).grownBy r ν)=>(show(κ r ⟨nb,2,ν⟩=μ (ι δ V.aj)/\κ r ⟨nb,21,ν⟩=μ (σ (μ ⟨V.cr,0,ν⟩) 2 V.cc)/\κ r ⟨V.cr,i,ν⟩=μ (ι η (V.ba i+j))/\χ r ⟨V.cr,i,ν⟩=θ)/\nE w nb V {jZ V i b l bs j d v with ba:=ah (ah V.ba i (V.ba i+j)) i (V.ba i+j+1)} R #[ι δ 0,ι δ (-1),ι δ 0,ι η 0,ς ⟨#[]⟩,σ (μ ⟨g,0,ν⟩) m c] (σ (μ ⟨g,0,ν⟩) m c) ps (ζ r ⟨V.cr,i,ν⟩ (ι η (V.ba i+j+1))) by
    have D:=C.gb g2;obtain⟨⟨-,-,y2,-,-,y5⟩,-⟩:=D.T.at_.c;obtain⟨y6,y7⟩:=D.T.at_.R3 hi;simp only[jZ,aR]at y6;exact⟨⟨y2,y5,y6,y7⟩,D.go (D.T.at_.RT D.T.laid hi (V.ba i+j+1))⟩))
   have hB:=J (λ(h:ω)(p:nE w nb V {jZ V i b l bs j d v with ba:=ah (ah V.ba i (V.ba i+j)) i (V.ba i+j+1)} R #[ι δ 0,ι δ (-1),ι δ 0,ι η 0,ς ⟨#[]⟩,σ (μ ⟨g,0,ν⟩) m c] (σ (μ ⟨g,0,ν⟩) m c) ps h)=>(show(κ h ⟨nb,20,ν⟩=μ v/\κ h ⟨R,5,ν⟩=μ (σ (μ ⟨g,0,ν⟩) m c)/\κ h ⟨g,j,ν⟩=μ (ς (fj bs j))/\nb<h.heap.size/\R<h.heap.size/\g<h.heap.size)/\∃a7 s c7 t,(Builtin.append_ #[77,77] 77 #[v,σ (μ ⟨h.heap.size,0,ν⟩) 1 1]).run prog (h.alloc (ο #[ι δ b,ς (fj bs j)] 83)).drew=.ok (σ a7 s c7) t/\κ t ⟨nb,20,ν⟩=μ v/\χ t ⟨nb,20,ν⟩=θ/\nE w nb V (jZ V i b l bs (j+1) d (σ a7 s c7)) R #[ι δ 0,ι δ (-1),ι δ 0,ι η 0,ς ⟨#[]⟩,σ (μ ⟨g,0,ν⟩) m c] (σ (μ ⟨g,0,ν⟩) m c) ps (ζ t ⟨nb,20,ν⟩ (σ a7 s c7)) by
    have gB:γ h (h.alloc (ο #[ι δ b,ς (fj bs j)] 83)).drew ν:=aY (aJ _ _ _);have q:=p.gb gB;obtain⟨⟨-,-,-,-,y4,-⟩,-⟩:=p.T.at_.c;obtain⟨⟨-,-,-,-,z4,-⟩,zf⟩:=q.T.at_.c;obtain⟨-,g',eg,b7⟩:=p.pk a4;have ds:g=g':=by have:=aQ eg;exact fD Addr.block this
    subst ds;rw[<-Z y]at b7;obtain⟨a7,s,c7,t,hr,hO,g7,h7⟩:=RY v _ q.T.at_.aN h.heap.size 1 (b,fj bs j) (aO h _) (by
     simp only[jZ,bF,dd,ct];omega)
    have nn:v.ownBlock≠μ nb:=λe=>(show Ty _ nb 80 from⟨_,_,q.T.at_.aV⟩).ne (jc q.T.at_.aN nb e) (by decide) rfl
    have ca:=(g7.block nb (q.T.at_.fV nb (φ rfl)) (λe=>nn e.symm)).trans q.T.at_.aV;refine⟨⟨y4,by simp[World.cell?,p.rb],b7,p.T.at_.fV nb (φ rfl),(bg.1 p.rb).1,(p.own.lt g rfl).2⟩,a7,s,c7,t,hr,?_,by simp[World.frozen?,ca],?_⟩
    rw[aZ ca,<-aZ q.T.at_.aV];exact z4
    ·have:=q.go (q.T.at_.RV q.T.laid g7 hO h7);rw[<-R4 V i b l bs j (by omega) d v (σ a7 s c7)];exact this))
   obtain⟨L,M⟩:=exq ((aI (fj bs j)).length-16);have fa:((L:Int)==0)=θ:=by rw[M,fN];simp;omega
   have N:Calls prog 61 #[ε (bv V.key).toArray,β f,σ (μ ⟨wr.heap.size,0,ν⟩) (fj bs j).size (grownCap wr (fj bs j).size 0 5)] (Lib.bytesWorld wr 5 (fj bs j)) λe G=>(∃O P,e=ξ (τ #[ι η (V.ba i+j),σ O L P,ι δ 0]))/\(Lib.bytesWorld wr 5 (fj bs j)).grownBy G ν:=by
    apply hU.mono;rintro e G⟨⟨-,O,P,rfl,-,-⟩|⟨ea,-⟩,g⟩;exact⟨⟨O,P,by rw[f2,M]⟩,g⟩
    exact absurd f1 ea
   have q1:decide (V.aj<((fj bs j).size:Int))=θ:=dF_;have q2:IntKind.u64.wrap (V.ba i+j+1)=V.ba i+j+1:=wU_;replace⟨N,F,C,f1,f2,M⟩:=pH N F C f1 f2 M;clear hU;go_upto_region 7 with(first|(refine wpList_load_mid (by rfl) 24 _ (by rfl) nb 4 (by rfl) (bv V.key) _ (Z b3) underlying24 (by rfl) (Z cw) ?_)|(go_at_call 61;apply(Z N).mono;rintro e r⟨⟨O,P,rfl⟩,g2⟩))
   obtain⟨⟨y2,ee,yc,yf⟩,p⟩:=Z hA r g2;obtain⟨h,E⟩:=exq (ζ r ⟨V.cr,i,ν⟩ (ι η (V.ba i+j+1)));rw[<-E]at p;obtain⟨⟨ek,zR,zg,n1,n2,n3⟩,a7,s,c7,t,Q,u20,uf,FE⟩:=Z hB h p;rw[Z z]at ek Q u20;replace⟨FE,p,Q,E⟩:=fE FE p Q E;clear hA hB b3 r5 cp N;go_upto_region 10 with fail;rw[<-Z E];clear E y2 ee yc yf;go_region_law ((refine Dk (by rfl) 77 77 (by rfl) _ _ (by rfl) _ _ _ (by rfl) (by rfl) (Z Q) ?_));all_goals
    go_wp2
    exact⟨⟨j+1,d,_,by omega,rfl,Z FE⟩,by simp[intOf];omega⟩
  have d1:decide ((j:Int)<m)=θ:=dF_;have eo:j=ps.length:=by omega
  replace F:=J F;go_wp2;go_ret;exact⟨rfl,d,v,by rw[<-eo];exact(Z F).T⟩
