import Derived.Test.YtjnmokmchdfchaaGreatDoorZLl
set_option maxRecDepth 1000000
set_option maxHeartbeats 0
set_option linter.all false
namespace Go.Proofs.YtjnmokmchdfchaaGreatDoor
open Go.RowKit Tryz
open Go.Value renaming int→ι,slice→σ,bool→β,pointer→π,agg→ε,string→ς,tuple→τ
open Go.IntKind renaming i64→δ,u64→η,u8→Δ
open Go.Ending renaming returned→ξ
open Go.Obj renaming cells→ο
open Or renaming inl→φ,inr→ψ
open Option renaming some→μ,none→ν
open Bool renaming true→ρ,false→θ
open Go renaming World→ω,Value→υ
open Go.World renaming grownBy→γ,cell?→κ,frozen?→χ,setCell→ζ
attribute[local go_sem↓]Go.wp_at_zero Go.wp_at_succ
variable{I:Fr}{p:Int}{L:List Int}{Y:List Rg}{i j k m n:Nat}{S:Nat->Prop}{G:Ot}{s:Sd}{W v w:ω}{X:an}
def vP(h:∀x∈L,W8 x):aI (strOfNums L)=L:=by
 unfold aI;rw[strOfNums_data,pV];conv=>rhs;rw[<-rK L]
 apply wD;intro x a;have:=h x a;unfold W8 at this;simp only[Function.comp,id,UInt8.toNat_ofNat']
 omega
def QW{a b:ByteArray}(h:aI a=aI b):a=b:=by rw[<-yH a,<-yH b,h]
def Fv{a:List Fr}(b:∀f∈a,f.ok/\cO f/\(f.ranges.length:Int)<=4611686018427387903)(h0:a≠[])(g:a.map gL=a)(c:∀x∈bA a,W8 x)(hl:((bA a).length:Int)<=X.aj-16)(m:X.aj<=300)(h:0<=X.next/\X.next<=4611686018427387903)(j:X.me=0\/X.me=1)(k:gN a<=30000000):
 yz X (strOfNums (dq X.key X.me X.next (bA a))) a:=by
 have l:∀x∈dq X.key X.me X.next (bA a),W8 x:=tJ c;have e1:aI (strOfNums (dq X.key X.me X.next (bA a)))=dq X.key X.me X.next (bA a):=vP l;have d:aW X.next:=by unfold aW;omega
 have e2:bm (dq X.key X.me X.next (bA a))=X.next:=yI d;have e:dJ X.key X.me (bm (dq X.key X.me X.next (bA a))) (bX (dq X.key X.me X.next (bA a)))=bA a:=by
  rw[e2,yJ];exact AJ _ _ _ _ c
 refine⟨?_,?_,?_,?_,?_,⟨pq.2 h0,λi hi=>?_⟩,k,j,h⟩
 rw[e1,AK d];omega;rw[strOfNums_size,qX];push_cast;omega;rw[e1];exact e2;rw[e1,e,AI b h0,g];rw[e1,e];have:nd a i∈a:=by unfold nd;simp[List.getD,dT hi]
 exact(b _ this).2.1
def ns.with{p:Pc}(h:ns G k p I)(x:Int)(b:G.sG=ρ->x=G.av):ns {G with av:=x} k p I:=by
 obtain⟨a,c,d,e⟩|h:=h
 exact φ ⟨a,c,d,by rw[e,b a]⟩;exact ψ h
structure AL(o:Ot)(r:da)(k:Nat)(p:Pc)(f:Fr):Prop where
 st:f.stream=(k:Int)
 kind:f.kind=4\/f.kind=5
 k4:f.kind=4->o.sG=ρ/\r.given=ρ/\f.offset=r.high/\f.code=r.code/\p.x=⟨0,0⟩
 k5:f.kind=5->o.sG=θ/\f.offset=p.x.lo/\aT f=p.x.hi/\E9 r f/\0<=p.x.lo/\p.x.hi<=4096
 ok:f.ok/\cO f/\(f.ranges.length:Int)<=4611686018427387903
 nf:gL f=f
 rg:f.ranges=[]
def ns.AM{r:da}{p:Pc}(h:ns G k p I)(R:gC G r)(j:fG G)(B:k<4)(l:0<=G.code/\G.code<=4611686018427387903):AL G r k p I:=by
 have m:=R.sz;have C:=R.hs;obtain⟨b,n,i,rfl⟩|⟨b,n,i,D,E,s,t,rfl⟩:=h
 have a:r.given=ρ:=by rw[<-R.sg];exact b
 obtain⟨u,F,H⟩:=R.gv a;have v:=R.av;refine⟨rfl,φ rfl,λ_=>⟨b,a,v,u,i⟩,λe=>(by simp at e),⟨⟨?_,?_,?_,?_,λq f=>(by cases f)⟩,⟨⟨by simp only;omega,l.2,by simp only;omega,by simp only;omega⟩,⟨λe=>(by simp at e),λe=>(by simp at e)⟩,by simp,by simp⟩,by simp⟩,?_,rfl⟩
 unfold dD;simp only;omega;unfold dD;simp only;omega;unfold aW;simp only;omega;unfold aW;simp only;omega;unfold gL;rfl;have a:r.given=θ:=by rw[<-R.sg];exact b
 have w:=j.fr;have K:=R.vM a w;have y:G.en=r.data.size:=by unfold Ot.en;omega
 have hd:strOfNums ((G.h.bytes.drop (p.x.lo-G.h.fr).toNat).take (p.x.hi-p.x.lo).toNat)=r.data.extract p.x.lo.toNat p.x.hi.toNat:=by
  apply QW;have z:∀x∈(G.h.bytes.drop (p.x.lo-G.h.fr).toNat).take (p.x.hi-p.x.lo).toNat,W8 x:=λx A=>by
   have:=iH (jg A);rw[R.mc a]at this;exact qM _ x (iH this)
  rw[vP z,R.mc a,uv];unfold aI;rw[yS,Array.toList_extract,List.extract_eq_take_drop,List.map_take,List.map_drop];congr 1;omega;congr 1;omega
 have g:(strOfNums ((G.h.bytes.drop (p.x.lo-G.h.fr).toNat).take (p.x.hi-p.x.lo).toNat)).size=(p.x.hi-p.x.lo).toNat:=by
  rw[strOfNums_size,ct,dO];omega
 have d:aT (⟨5,k,p.x.lo,0,p.e,strOfNums ((G.h.bytes.drop (p.x.lo-G.h.fr).toNat).take (p.x.hi-p.x.lo).toNat),[]⟩:Fr)=p.x.hi:=by
  unfold aT;simp only;rw[g];omega
 refine⟨rfl,ψ rfl,λe=>(by simp at e),λ_=>⟨b,rfl,d,⟨a,by simp only;omega,by rw[d];omega,?_,?_,λe=>?_,m⟩,by omega,by omega⟩,⟨⟨?_,?_,?_,?_,λq f=>(by cases f)⟩,⟨⟨by simp only;omega,by simp,by simp only;omega,by simp only;omega⟩,⟨λe=>(by simp at e),λ_=>by simp only;rw[g];omega⟩,by simp,by simp⟩,by simp⟩,?_,rfl⟩
 rw[d,hd];rw[d];simp only
 rw[s,y,R.se a];by_cases c:p.x.hi=(r.data.size:Int)
 rw[eT c];simp[c];rw[fc c];have:(p.x.hi==(r.data.size:Int))=θ:=by simpa using c
 rw[this];simp only at e⊢;rw[g]at e;obtain q|q:=t
 omega;exact q;unfold dD;simp only;omega;unfold dD;simp only;omega;unfold aW;simp only;omega;unfold aW;simp only;omega;unfold gL;rfl
def QX(s:k<4):∀(L:Told)(m:an),gC {G with av:=(m.outs k).high} (m.outs k)->fG G->(0<=G.code/\G.code<=4611686018427387903)->(G.sG=ρ->(m.outs k).high=G.av)->(∀z∈L,ns G k z.1 z.2)->
 (L.map (·.2)).foldl an.dS m={m with outs:=ah m.outs k {m.outs k with high:=dr G (m.outs k).high L}}/\∀j,j<L.length->sr (((L.map (·.2)).take j).foldl an.dS m) (AD (L.map (·.2)) j):=by
 intro L;induction L with
 |nil=>
  intro m R c d hs f;refine⟨?_,λj g=>by simp at g⟩
  have e:dr G (m.outs k).high []=(m.outs k).high:=by unfold dr nu;simp
  rw[e];show m={m with outs:=ah m.outs k (m.outs k)}
  rw[m8]
 |cons z L t=>
  intro m R c d hs f;have u:=(f z (by simp)).with (m.outs k).high hs;have F:=u.AM R (c.same rfl) s d;have h:z.2.stream.toNat=k:=by rw[F.st];simp
  have v:sr m z.2:=by
   refine⟨by obtain q|q:=F.kind;(·exact ψ (φ q));(·exact ψ (ψ q)),λe=>?_,λe=>?_,λe=>?_⟩
   obtain q|q:=F.kind<;>omega
   obtain⟨p,b,i,w,-⟩:=F.k4 e;rw[h];exact⟨by rw[F.st];omega,by rw[F.st];omega,b,by rw[i];exact((R.gv b).2.1).symm,w⟩
   rw[h];exact⟨by rw[F.st];omega,by rw[F.st];omega,(F.k5 e).2.2.2.1⟩
  have r:m.dS z.2={m with outs:=ah m.outs k {m.outs k with high:=dr G (m.outs k).high [z]}}:=by
   unfold an.dS dr nu;obtain q|q:=F.kind
   rw[iN_,iN_];have:=(F.k4 q).1;have a:G.sG=ρ:=this;rw[aG a];show m={m with outs:=ah m.outs k (m.outs k)}
   rw[m8];rw[iN_,aG q,h];have a:G.sG=θ:=(F.k5 q).1;rw[aB (by rw[a];simp)];unfold da.sk;rw[(F.k5 q).2.2.1];simp only[lD,List.foldl_nil]
  have l:((m.dS z.2).outs k)={m.outs k with high:=dr G (m.outs k).high [z]}:=by rw[r];simp only[aR]
  have n:((m.dS z.2).outs k).high=dr G (m.outs k).high [z]:=by rw[l]
  have x:gC {G with av:=((m.dS z.2).outs k).high} ((m.dS z.2).outs k):=by
   rw[n,l];have E:(m.outs k).high<=dr G (m.outs k).high [z]/\dr G (m.outs k).high [z]<=(m.outs k).data.size:=by
    have H:=R.hs;unfold dr nu;obtain q|q:=F.kind
    rw[aG (show G.sG=ρ from(F.k4 q).1)];omega;have a:G.sG=θ:=(F.k5 q).1;rw[aB (by rw[a];simp)];have:=(F.k5 q).2.2.2.1.en;rw[(F.k5 q).2.2.1]at this;simp only[lD,List.foldl_nil]
    omega
   refine⟨R.af,R.ck,R.fr,R.sg,R.se,rfl,λe=>?_,R.mc,R.sz,R.su,by have:=R.hs;show 0<=dr G (m.outs k).high [z]/\dr G (m.outs k).high [z]<=((m.outs k).data.size:Int);omega,R.cb⟩
   have e2:(m.outs k).given=ρ:=e;obtain⟨p,b,i⟩:=R.gv e2;refine⟨p,?_,i⟩
   show(m.outs k).end_=dr G (m.outs k).high [z];have A:G.sG=ρ:=R.sg.trans e2;unfold dr;rw[aG A];exact b
  obtain⟨B,C⟩:=t (m.dS z.2) x c d (λe=>by rw[n];unfold dr;rw[aG e];exact hs e) (λy D=>f y (by simp[D]));refine⟨?_,λj g=>?_⟩
  rw[kM,lD,B,n,At,l,r];simp only[List.singleton_append,rV]
  cases j with
  |zero=>exact v
  |succ j=>
   rw[kM,List.take_succ_cons,lD];exact C j (by simpa using g)
def QY(b:I.ok)(g:cO I)(h:(I.ranges.length:Int)<=4611686018427387903):∀x∈dm I,W8 x:=by
 obtain⟨⟨b1,b2,m,n⟩,⟨i,j⟩,p,q⟩:=g;have c:eB I.offset:=⟨b.2.2.1.1,b1⟩
 have e:eB I.code:=⟨b.2.2.2.1.1,b2⟩
 have f:eB I.stream:=by unfold eB;omega
 intro x a;unfold dm at a;split at a;rw[cA.1 a];unfold W8;omega;split at a;rw[cA.1 a];unfold W8;omega;split at a;rename_i k;obtain rfl|a:=dY.1 a
 unfold W8;omega;unfold gJ at a;have d:=i k;obtain a|a:=bL.1 a
 exact GW b.2.2.2.2 d h x a;exact BI b.2.2.2.2 d _ (by have:=d.1;omega) x a;split at a;obtain rfl|a:=dY.1 a
 unfold W8;omega;obtain a|a:=bL.1 a
 obtain a|a:=bL.1 a
 exact nK f x a;exact nK e x a;exact nK c x a;split at a;rename_i l;obtain rfl|a:=dY.1 a
 unfold W8;split<;>omega;obtain a|a:=bL.1 a
 obtain a|a:=bL.1 a
 obtain a|a:=bL.1 a
 exact nK f x a;exact nK c x a;refine nK ?_ x a;have:=j l;have:=c.1;unfold eB;omega;exact qM _ x a;obtain rfl|a:=dY.1 a
 unfold W8;omega;exact nK e x a
def vQ:∀{b:List Fr},(∀f∈b,f.ok/\cO f/\(f.ranges.length:Int)<=4611686018427387903)->∀x∈bA b,W8 x:=by
 intro b;induction b with
 |nil=>intro _ x a;cases a
 |cons f b c=>
  intro h x a;have e2:bA (f::b)=dm f++bA b:=rfl;rw[e2]at a;obtain a|a:=bL.1 a
  exact QY (h f (by simp)).1 (h f (by simp)).2.1 (h f (by simp)).2.2 x a;exact c (λg d=>h g (by simp[d])) x a
def QZ:∀a:List Fr,(∀f∈a,f.ranges=[]/\(f.kind=4\/f.kind=5)/\gL f=f)->gN a<=26*(bA a).length:=by
 intro a;induction a with
 |nil=>intro _;simp[gN]
 |cons f a b=>
  intro h;obtain⟨c,d,j⟩:=h f (by simp);have i:=b (λg k=>h g (by simp[k]));have e:gN (f::a)=mZ f+gN a:=rfl;have e2:bA (f::a)=dm f++bA a:=rfl;rw[e,e2,bF];have l:mZ f<=26*(dm f).length:=by
   unfold mZ dm;rw[c];obtain q|q:=d
   rw[iN_,iN_,iN_,aG q];have hd:f.data.size=0:=by
    rw[<-j];unfold gL;rw[iN_,iN_,iN_,aG q];rfl
   simp only[fM,cS]
   omega;rw[iN_,iN_,iN_,iN_,aG q];simp only[fM,cS,bF,fN]
   omega
  omega
def Q0(h:dc s X n)(M:∀k,k<4->fG (s.out k))(N:∀k,k<4->0<=(s.out k).code/\(s.out k).code<=4611686018427387903)(bb:64<=s.aj/\s.aj<=300)(bj:0<=s.count/\s.count<=90000000)(hn:n<=100000)(m:k<4){L:Told}(U:L≠[])(br:((bA (L.map (·.2))).length:Int)<=s.aj-16)(D:∀z∈L,ns (s.out k) k z.1 z.2)(tick:Int):
 rz X (strOfNums (dq s.key (aK s.first) s.count (bA (L.map (·.2))))) (L.map (·.2))/\dc {s with count:=s.count+1,aw:=s.aw++[⟨s.count,tick,k,L.map (·.1)⟩],out:=ah s.out k {s.out k with av:=dr (s.out k) (s.out k).av L}} (X.jV (L.map (·.2))) n:=by
 have C:=h.c;have R:=C.out k m;obtain⟨d1,-,d3⟩:=C.aK;have bt:=C.next;have bx:=C.aj;have hF:∀z∈L,AL (s.out k) (X.outs k) k z.1 z.2:=λz a=>(D z a).AM R (M k m) m (N k m)
 obtain⟨V,W⟩:=exq (L.map (·.2));have bz:∀f∈V,∃z∈L,z.2=f:=λf g=>by rw[W]at g;exact eU.1 g
 have jq:=h.sl;have bM:=h.dl;obtain⟨Y,E⟩:=QX m L {X with next:=X.next+1} (G:=s.out k) (by show gC {s.out k with av:=(X.outs k).high} (X.outs k);rw[<-R.av];exact R) (M k m) (N k m) (λ_=>R.av.symm) D;have al:yz X (strOfNums (dq s.key (aK s.first) s.count (bA (L.map (·.2))))) (L.map (·.2)):=by
  rw[<-d1,<-C.key,<-C.next];refine Fv (λf g=>?_) (by simpa using U) ?_ (vQ (λf g=>?_)) (by omega) (by omega) (by omega) d3 ?_;obtain⟨z,a,rfl⟩:=eU.1 g;exact(hF z a).ok;rw[pV];apply wD;intro z a;exact(hF z a).nf;obtain⟨z,a,rfl⟩:=eU.1 g;exact(hF z a).ok;have:=QZ (L.map (·.2)) (λf g=>by obtain⟨z,a,rfl⟩:=eU.1 g;exact⟨(hF z a).rg,(hF z a).kind,(hF z a).nf⟩);omega
 refine⟨⟨al,λj r=>?_,by omega,by omega⟩,?_⟩
 rw[dd]at r;exact E j r;have em:X.jV (L.map (·.2))={X with next:=X.next+1,outs:=ah X.outs k {X.outs k with high:=dr (s.out k) (X.outs k).high L},av:=X.av++[(X.next,L.map (·.2))]}:=by
  unfold an.jV;rw[Y]
 rw[em];obtain⟨S,u⟩:=exq (dr (s.out k) (X.outs k).high L);have ax:dr (s.out k) (s.out k).av L=S:=by rw[u,R.av]
 rw[ax,<-u];have b0:(X.outs k).high<=S/\S<=(X.outs k).data.size:=by
  rw[u];unfold dr;have aa:=R.hs;split;omega;unfold nu;have aC:∀(Q:Told),(∀z∈Q,AL (s.out k) (X.outs k) k z.1 z.2)->(s.out k).sG=θ->∀x,x<=((X.outs k).data.size:Int)->x<=Q.foldl (λX y=>max X y.1.x.hi) x/\Q.foldl (λX y=>max X y.1.x.hi) x<=((X.outs k).data.size:Int):=λQ=>by
   induction Q with
   |nil=>intro _ _ x d;exact⟨cE _,d⟩
   |cons z Q ih=>
    intro O v x d;have a:=O z (by simp);have l:z.2.kind=5:=by
     obtain q|q:=a.kind
     have:=(a.k4 q).1;rw[v]at this;cases this;exact q
    have G:=(a.k5 l).2.2.2.1.en;rw[(a.k5 l).2.2.1]at G;obtain⟨i1,i2⟩:=ih (λy hy=>O y (by simp[hy])) v (max x z.1.x.hi) (by omega);rw[lD];exact⟨by omega,i2⟩
  rename_i v;exact aC L hF (by simpa using v) _ aa.2
 have a0:(X.outs k).given=ρ->S=(X.outs k).high:=λe=>by
  rw[u];unfold dr;rw[aG (R.sg.trans e)]
 refine⟨⟨C.aj,C.ag,C.key,C.me,C.cl,C.said,by show X.next+1=s.count+1;omega,λj r=>?_,C.aF,C.fU,⟨λx d f g j r b P=>?_,λp hp q t b w A=>?_,λx d f g l h0=>?_,λx d f g=>?_,λp hp q t=>?_⟩⟩,h.dN,h.bG,h.due,h.dl,h.rd,?_⟩
 by_cases e:j=k;subst e;show gC (ah s.out j _ j) (ah X.outs j _ j);rw[aR,aR];refine⟨R.af,R.ck,R.fr,R.sg,R.se,rfl,λe=>?_,R.mc,R.sz,R.su,?_,R.cb⟩
 have e2:(X.outs j).given=ρ:=e;obtain⟨a1,B,a3⟩:=R.gv e2;exact⟨a1,by show(X.outs j).end_=S;rw[a0 e2];exact B,a3⟩
 have:=R.hs;show 0<=S/\S<=((X.outs j).data.size:Int);omega;show gC (ah s.out k _ j) (ah X.outs k _ j);rw[aX _ _ e,aX _ _ e];exact C.out j r;have a2:(ah s.out k {s.out k with av:=S} j).h.af=(s.out j).h.af:=by
  by_cases e:j=k;subst e;rw[aR];rw[aX _ _ e]
 show Sm (ah s.out k {s.out k with av:=S} j).h.af b\/_;rw[a2];obtain d|d:=bL.1 d
 obtain q|⟨p,hp,q⟩:=C.fl.told x d f g j r b P
 exact φ q;refine ψ ⟨p,?_,q⟩;obtain hp|hp:=bL.1 hp
 exact fC _ (fC _ hp);exact ir _ hp;rw[cA.1 d]at g⊢;obtain⟨z,a,rfl⟩:=eU.1 g;have F:=hF z a;obtain⟨t1,t2,t3,t4,t5⟩:=P;have a4:k=j:=by rw[F.st]at t3;simpa using t3
 subst a4;refine ψ ⟨⟨s.count,tick,k,L.map (·.1)⟩,fC _ (ir _ (by simp)),by show s.count=X.next;omega,by simp,z.1,pf a,?_⟩;have i:=F.k5 t1;rw[i.2.1]at t4;rw[i.2.2.1]at t5;exact⟨t4,t5⟩
 have H:p∈s.aw++s.lost\/p=⟨s.count,tick,k,L.map (·.1)⟩:=by
  obtain hp|hp:=bL.1 hp
  obtain hp|hp:=bL.1 hp
  exact φ (fC _ hp);exact ψ (cA.1 hp);exact φ (ir _ hp)
 obtain hp|rfl:=H
 obtain⟨x,d,E⟩:=C.fl.back p hp q t b w A;exact⟨x,fC _ d,E⟩
 obtain⟨z,a,rfl⟩:=eU.1 t;have F:=hF z a;have l:z.2.kind=5:=by
  obtain q|q:=F.kind
  have:=(F.k4 q).2.2.2.2;rw[this]at w A;simp only at w A;omega;exact q
 have i:=F.k5 l;refine⟨(X.next,L.map (·.2)),ir _ (by simp),by show X.next=s.count;omega,z.2,pf a,l,?_,by rw[F.st],?_,?_⟩
 have e1:=i.2.1;have e2:=i.2.2.1;unfold aT at e2;omega;rw[i.2.1];exact w;rw[i.2.2.1];exact A;have a9:(ah X.outs k {X.outs k with high:=S} f.stream.toNat).data=(X.outs f.stream.toNat).data:=by
  by_cases e:f.stream.toNat=k;rw[e,aR];rw[aX _ _ e]
 show aT f<=((ah X.outs k {X.outs k with high:=S} f.stream.toNat).data.size:Int);rw[a9];obtain d|d:=bL.1 d
 exact C.fl.fz x d f g l h0;rw[cA.1 d]at g;obtain⟨z,a,rfl⟩:=eU.1 g;have F:=hF z a;rw[F.st];exact(F.k5 l).2.2.2.1.en;obtain d|d:=bL.1 d
 exact C.fl.kD x d f g;rw[cA.1 d]at g;obtain⟨z,a,rfl⟩:=eU.1 g;have F:=hF z a;intro l h0;have i:=F.k5 l;have G:=i.2.2.1;unfold aT at G;rw[F.st,i.2.1];have e1:=i.2.1;exact⟨by omega,by omega,i.2.2.2.2.1,by omega⟩
 have H:p∈s.aw++s.lost\/p=⟨s.count,tick,k,L.map (·.1)⟩:=by
  obtain hp|hp:=bL.1 hp
  obtain hp|hp:=bL.1 hp
  exact φ (fC _ hp);exact ψ (cA.1 hp);exact φ (ir _ hp)
 obtain hp|rfl:=H
 exact(C.fl.eg p hp q t).mono (λx d=>fC _ d) (λ_ _ e=>e);obtain⟨z,a,rfl⟩:=eU.1 t;have mem:(X.next,L.map (·.2))∈X.av++[(X.next,L.map (·.2))]:=ir _ (by simp);have I:X.next=s.count:=by omega
 have K:z.2∈L.map (·.2):=pf a;obtain⟨-,B,-,T⟩|⟨-,B,-,-,-,-,-,a8⟩:=D z a
 refine⟨λ_=>⟨_,mem,I,z.2,K,?_⟩,λ_=>⟨_,mem,I,z.2,K,?_⟩⟩
 rw[T];exact⟨by simp,φ rfl⟩
 rw[T];exact⟨by simp,rfl⟩
 refine⟨λe=>⟨_,mem,I,z.2,K,?_⟩,λe=>?_⟩
 rw[a8];exact⟨by simp,ψ ⟨rfl,e⟩⟩
 rw[B]at e;cases e;show((X.av++[(X.next,L.map (·.2))]).length:Int)<=X.next+1;rw[bF];simp only[wB]
 omega
def om:an->List (List Int)->List (List Fr)->Prop
 |_,[],[]=>True
 |m,p::ps,f::a=>rz m (strOfNums p) f/\om (m.jV f) ps a
 |_,_,_=>False
def om.app:∀{ps:List (List Int)}{a:List (List Fr)}{m:an}{c:List (List Int)}{d:List (List Fr)},om m ps a->om (m.dX a) c d->om m (ps++c) (a++d):=by
 intro ps;induction ps with
 |nil=>
  intro a m c d b e;cases a with
  |nil=>exact e
  |cons f a=>exact b.elim
 |cons p ps g=>
  intro a m c d b e;cases a with
  |nil=>exact b.elim
  |cons f a=>exact⟨b.1,g b.2 e⟩
def Fy(m:an)(a b:List (List Fr)):m.dX (a++b)=(m.dX a).dX b:=by unfold an.dX;rw[List.foldl_append]
def om.each:∀{ps:List (List Int)}{a:List (List Fr)}{m:an},om m ps a->a.length=ps.length/\∀j,j<ps.length->rz (m.dX (a.take j)) (fj (ps.map strOfNums) j) (a.getD j []):=by
 intro ps;induction ps with
 |nil=>
  intro a m h;cases a with
  |nil=>exact⟨rfl,λj b=>by simp at b⟩
  |cons f a=>exact h.elim
 |cons p ps c=>
  intro a m h;cases a with
  |nil=>exact h.elim
  |cons f a=>
   obtain⟨d,e⟩:=c h.2;refine⟨by simp[d],λj b=>?_⟩
   cases j with
   |zero=>exact h.1
   |succ j=>exact e j (by simpa using b)
structure Fz(s:Sd)(n:Nat)(N:Int):Prop where
 arr:∀k,k<4->fG (s.out k)
 code:∀k,k<4->0<=(s.out k).code/\(s.out k).code<=4611686018427387903
 aj:64<=s.aj/\s.aj<=300
 ba:0<=s.count/\s.count+N<=90000000
def Q3(q:n<=100000)(r:k<4)(tick:Int):∀(E:List Told)(s:Sd)(m:an),dc s m n->Fz s n E.length->(∀L∈E,L≠[]/\((bA (L.map (·.2))).length:Int)<=s.aj-16/\∀z∈L,ns (s.out k) k z.1 z.2)->
 om m (gI s.key (aK s.first) s.count (E.map (·.map (·.2)))) (E.map (·.map (·.2)))/\
 dc {s with out:=ah s.out k {s.out k with av:=dr (s.out k) (s.out k).av E.flatten},aw:=s.aw++lO tick k s.count (E.map (·.map (·.1))),count:=s.count+E.length} (m.dX (E.map (·.map (·.2)))) n:=by
 intro E;induction E with
 |nil=>
  intro s m h a f;refine⟨trivial,?_⟩
  have e1:dr (s.out k) (s.out k).av ([]:List Told).flatten=(s.out k).av:=by unfold dr nu;simp
  rw[e1];show dc {s with out:=ah s.out k (s.out k),aw:=s.aw++[],count:=s.count+((0:Nat):Int)} m n;rw[m8,mW,show s.count+((0:Nat):Int)=s.count by omega];exact h
 |cons L E t=>
  intro s m h a f;obtain⟨u,v,w⟩:=f L (by simp);have g:=a.ba;simp only[cS]at g;push_cast at g;obtain⟨x,p2⟩:=Q0 h a.arr a.code a.aj ⟨g.1,by omega⟩ q r u v w tick;obtain⟨s1,b⟩:∃s1:Sd,s1={s with count:=s.count+1,aw:=s.aw++[(⟨s.count,tick,k,L.map (·.1)⟩:Pk)],out:=ah s.out k {s.out k with av:=dr (s.out k) (s.out k).av L}}:=⟨_,rfl⟩
  rw[<-b]at p2;have d:s1.out k={s.out k with av:=dr (s.out k) (s.out k).av L}:=by rw[b];simp only[aR]
  have i:∀j,j≠k->s1.out j=s.out j:=λj c=>by rw[b];simp only[aX _ _ c]
  have y:Fz s1 n E.length:=by
   refine⟨λj c=>?_,λj c=>?_,by rw[b];exact a.aj,by rw[b];show 0<=s.count+1/\s.count+1+_<=_;omega⟩
   by_cases e:j=k;subst e;rw[d];exact(a.arr j c).same rfl;rw[i j e];exact a.arr j c;by_cases e:j=k;subst e;rw[d];exact a.code j c;rw[i j e];exact a.code j c
  obtain⟨l,p⟩:=t s1 (m.jV (L.map (·.2))) p2 y (λM A=>by
   obtain⟨B,C,D⟩:=f M (by simp[A]);refine⟨B,by rw[b];exact C,λz F=>?_⟩
   rw[d];exact(D z F).with _ (λe=>by unfold dr;rw[aG e]))
  have G:s1.key=s.key:=by rw[b]
  have H:s1.first=s.first:=by rw[b]
  have k3:s1.count=s.count+1:=by rw[b]
  rw[G,H,k3]at l;refine⟨⟨x,l⟩,?_⟩
  have I:dr (s1.out k) (s1.out k).av E.flatten=dr (s.out k) (s.out k).av (L::E).flatten:=by
   rw[d,List.flatten_cons,<-At];rfl
  have K:({s1 with out:=ah s1.out k {s1.out k with av:=dr (s1.out k) (s1.out k).av E.flatten},aw:=s1.aw++lO tick k s1.count (E.map (·.map (·.1))),count:=s1.count+E.length}:Sd)={s with out:=ah s.out k {s.out k with av:=dr (s.out k) (s.out k).av (L::E).flatten},aw:=s.aw++lO tick k s.count ((L::E).map (·.map (·.1))),count:=s.count+(L::E).length}:=by
   rw[I,d,k3];rw[b];simp only[rV,cS,kM,fm]
   congr 1;push_cast;omega
  rw[K]at p;exact p
def Q4(h:dc s X n)(hs:bO s i)(e:n<=100000)(c:i<=100001)(f:s.count+10<=100*i)(hl:s.lost.length+s.aw.length+10<=100*i)(b:k<4):
 ∃d,om X (s.pieces k).l d/\dc (s.pieces k).s (X.dX d) n:=by
 obtain⟨-,E,a,p⟩:=EK hs c f hl k b;obtain⟨R,-⟩:=yq hs c k b;have g:=hs.ba;obtain⟨j,m⟩:=Q3 e b s.tick E s X h ⟨hs.out,hs.code,hs.aj,⟨g.1,by omega⟩⟩ a.fr;refine⟨E.map (·.map (·.2)),?_,?_⟩
 have:=a.l;rw[this];exact j;have eq:=R.eq;rw[a.av,a.aw,a.count]at eq;rw[eq];exact m
structure FC(m:an)(aj:Int)(c:List Rg):Prop where
 tK:iT c
 len:((bA [bw c]).length:Int)<=aj-16
 l8:c.length<=100
 each:∀r∈c,0<=r.lo/\r.lo<=r.hi/\r.hi<=4611686018427387903/\vL m.bG.l r=ρ
def Q5(hn:n<=100000):∀(C:List (List Rg))(s:Sd)(m:an),dc s m n->(64<=s.aj/\s.aj<=300)->(0<=s.count/\s.count+C.length<=90000000)->(∀c∈C,FC m s.aj c)->
 om m (gI s.key (aK s.first) s.count (C.map λc=>[bw c])) (C.map λc=>[bw c])/\dc {s with count:=s.count+C.length} (m.dX (C.map λc=>[bw c])) n/\(∀d∈(m.dX (C.map λc=>[bw c])).due,d∈m.due/\∀c∈C,m.told c d=θ):=by
 intro C;induction C with
 |nil=>
  intro s m h z l t;refine⟨trivial,?_,λd hd=>⟨hd,λc l=>(by cases l)⟩⟩
  show dc {s with count:=s.count+((0:Nat):Int)} m n;rw[show s.count+((0:Nat):Int)=s.count by omega];exact h
 |cons c C F=>
  intro s m h z l t;have X:=h.c;obtain⟨d1,-,d3⟩:=X.aK;have a3:=X.next;have a4:=X.aj;have a8:=h.dl;have jq:=h.sl;have G:=t c (by simp);have A:=l;simp only[cS]at A;push_cast at A;have H:cO (bw c):=⟨⟨by simp[bw],by simp[bw],by simp[bw],by simp[bw]⟩,⟨λ_=>G.tK,λe=>(by simp[bw]at e)⟩,by simp[bw],by simp[bw]⟩
  have I:(bw c).ok:=by
   refine⟨by simp[bw,dD],by simp[bw,dD],by simp[bw,aW],by simp[bw,aW],λr u=>?_⟩
   have:=G.each r u;unfold Rg.ok aW;omega
  have K:((bw c).ranges.length:Int)<=4611686018427387903:=by
   have:=G.l8;show(c.length:Int)<=_;omega
  have B:∀f∈[bw c],f.ok/\cO f/\(f.ranges.length:Int)<=4611686018427387903:=λf g=>by
   rw[cA.1 g];exact⟨I,H,K⟩
  have hl:=G.len;have L:yz m (strOfNums (dq s.key (aK s.first) s.count (bA [bw c]))) [bw c]:=by
   rw[<-d1,<-X.key,<-X.next];refine Fv B (by simp) ?_ (vQ B) (by omega) (by omega) (by omega) d3 ?_;show[gL (bw c)]=[bw c];rfl;have:=G.l8;show mZ (bw c)+0<=30000000;unfold mZ;show 25+16*c.length+0+0<=30000000;omega
  have M:sr {m with next:=m.next+1} (bw c):=⟨φ rfl,λ_ r u=>(G.each r u).2.2.2,λe=>(by simp[bw]at e),λe=>(by simp[bw]at e)⟩
  have N:rz m (strOfNums (dq s.key (aK s.first) s.count (bA [bw c]))) [bw c]:=by
   refine⟨L,λj O=>?_,by omega,by omega⟩
   have P:j=0:=by simpa using O
   subst P;exact M
  have Q:m.jV [bw c]={m with next:=m.next+1,due:=m.due.filter (λd=> !m.told c d),av:=m.av++[(m.next,[bw c])]}:=rfl;have v:∀x∈m.av++[(m.next,[bw c])],∀f∈x.2,(x∈m.av)\/f.kind=3:=λx a f g=>by
   obtain a|a:=bL.1 a
   exact φ a;rw[cA.1 a]at g;rw[cA.1 g];exact ψ rfl
  have R:dc {s with count:=s.count+1} (m.jV [bw c]) n:=by
   rw[Q];refine⟨⟨X.aj,X.ag,X.key,X.me,X.cl,X.said,by show m.next+1=s.count+1;omega,X.out,X.aF,X.fU,⟨λx a f g k S b D=>?_,λp hp q w b T U=>?_,λx a f g E h0=>?_,λx a f g=>?_,λp hp q w=>(X.fl.eg p hp q w).mono (λx a=>fC _ a) (λ_ _ e=>e)⟩⟩,h.dN,h.bG,λd hd=>h.due d (eO.1 hd).1,?_,h.rd,?_⟩
   obtain q|q:=v x a f g
   exact X.fl.told x q f g k S b D;have:=D.1;omega;obtain⟨x,a,V⟩:=X.fl.back p hp q w b T U;exact⟨x,fC _ a,V⟩
   obtain q|q:=v x a f g
   exact X.fl.fz x q f g E h0;omega;obtain q|q:=v x a f g
   exact X.fl.kD x q f g;intro E;omega;exact bK (oC _ _) h.dl;show((m.av++[(m.next,[bw c])]).length:Int)<=m.next+1;rw[bF];simp only[wB]
   omega
  obtain⟨W,Y,i3⟩:=F {s with count:=s.count+1} (m.jV [bw c]) R z ⟨by show 0<=s.count+1;omega,by show s.count+1+_<=_;omega⟩ (λe i=>by
   have:=t e (by simp[i]);exact⟨this.tK,this.len,this.l8,this.each⟩)
  refine⟨⟨N,W⟩,?_,λd hd=>?_⟩
  have eS:({s with count:=s.count+(((c::C).length:Nat):Int)}:Sd)={s with count:=s.count+1+C.length}:=by
   simp only[cS]
   congr 1;push_cast;omega
  rw[eS];exact Y;obtain⟨y,j2⟩:=i3 d hd;have y:d∈m.due.filter (λd=> !m.told c d):=y;obtain⟨j3,j4⟩:=eO.1 y;refine⟨j3,λe i=>?_⟩
  obtain rfl|i:=dY.1 i
  simpa using j4;exact j2 e i
def AN{r:Rg}:∀j,j<=Y.length->(r∈eX Y j↔∃i,Y.length-j<=i/\i<Y.length/\r=⟨(ao Y i).lo,(ao Y i).hi-1⟩):=by
 intro j;induction j with
 |zero=>intro _;simp[eX];omega
 |succ j c=>
  intro f;rw[show eX Y (j+1)=eX Y j++[⟨(ao Y (Y.length-1-j)).lo,(ao Y (Y.length-1-j)).hi-1⟩]from rfl,bL,c (by omega),cA];constructor;rintro(⟨i,d,b,a⟩|h);exact⟨i,by omega,b,a⟩
  exact⟨Y.length-1-j,by omega,by omega,h⟩
  rintro⟨i,d,b,a⟩;by_cases e:i=Y.length-1-j;subst e;exact ψ a;exact φ ⟨i,by omega,b,a⟩
def Q6(h:dc s X n)(hs:bO s k)(z:n<=100000)(A:s.count+10<=100*k)(V:k<=100001):
 ∃u,om X s.eY.l u/\dc s.eY.s (X.dX u) n/\∀d∈(X.dX u).due,d<s.floor:=by
 obtain⟨-,C,f,W⟩:=EL hs A;have B:=hs.ba;have Y:=h.c;have D:∀c∈C,FC X s.aj c:=λc g=>by
  obtain⟨f1,f2⟩:=f.fr c g;have w:s.bQ=ρ:=by
   cases ho:s.bQ;rw[f.no ho]at g;cases g;rfl
  have E:∀r∈c,∃i,i<s.af.length/\r=⟨(ao s.af i).lo,(ao s.af i).hi-1⟩:=λr m=>by
   have:r∈C.flatten:=List.mem_flatten.2 ⟨c,g,m⟩;rw[f.all w]at this;obtain⟨i,-,p,j⟩:=(AN s.af.length (aP _)).1 this;exact⟨i,p,j⟩
  refine⟨f1,f2,?_,λr m=>?_⟩
  have t:c.length<=C.flatten.length:=by
   obtain⟨a,b,rfl⟩:=List.append_of_mem g;simp;omega
  rw[f.all w,lZ]at t;have:=hs.c8;omega;obtain⟨i,hi,rfl⟩:=E r m;have v:=kh hi;have t:=hs.cr _ v;have p:=hs.kY.2 _ v;refine⟨t.1,by simp only;omega,by simp only;omega,?_⟩
  have j:=(G9 (x:=ao s.af i) h.bG.ok p).2 (λb F G=>h.bG.all b ⟨_,v,F,G⟩);obtain⟨q,H,I,K⟩:=j;obtain⟨L,M,rfl⟩:=eU.1 H;simp only[cX]at I K;unfold vL;refine oG.2 ⟨L,M,?_⟩;simp only[iu,mu]
  omega
 obtain⟨N,e,O⟩:=Q5 z C s X h hs.aj ⟨B.1,by omega⟩ D;have y:∀d∈(X.dX (C.map λc=>[bw c])).due,d<s.floor:=λd hd=>by
  obtain⟨P,Q⟩:=O d hd;obtain q|⟨R,S⟩:=h.due d P
  exact q;exfalso;obtain⟨r,m,t,p⟩:=R;obtain⟨i,hi,rfl⟩:=j8.1 m;have er:s.af[i]=ao s.af i:=by simp[ao,List.getD,hi]
  rw[er]at t p;have T:(⟨(ao s.af i).lo,(ao s.af i).hi-1⟩:Rg)∈C.flatten:=by
   rw[f.all S];exact(AN s.af.length (aP _)).2 ⟨i,by omega,hi,rfl⟩
  obtain⟨c,g,U⟩:=List.mem_flatten.1 T;have:=Q c g;unfold an.told at this;rw[oD]at this;have j:bp c d=ρ:=by
   unfold bp;refine oG.2 ⟨_,U,?_⟩;simp only[iu,mu]
   omega
  rw[this.2]at j;cases j
 refine⟨C.map λc=>[bw c],by rw[f.l];exact N,?_,y⟩
 rw[f.st];exact⟨⟨e.c.aj,e.c.ag,e.c.key,e.c.me,e.c.cl,e.c.said,e.c.next,e.c.out,e.c.aF,e.c.fU,⟨e.c.fl.told,e.c.fl.back,e.c.fl.fz,e.c.fl.kD,e.c.fl.eg⟩⟩,e.dN,e.bG,λd hd=>φ (y d hd),e.dl,e.rd,e.sl⟩
def Q7(m:an)(a:List Fr):∀d∈(m.jV a).due,d∈m.due:=by
 have b:∀(m:an)(f:Fr),∀d∈(m.dS f).due,d∈m.due:=λm f d hd=>by
  unfold an.dS at hd;split at hd;exact(eO.1 hd).1;split at hd;exact hd;exact hd
 have c:∀(q:List Fr)(m:an),∀d∈(q.foldl an.dS m).due,d∈m.due:=λq=>by
  induction q with
  |nil=>intro m d hd;exact hd
  |cons f q e=>intro m d hd;exact b m f d (e _ d hd)
 exact λd hd=>c a {m with next:=m.next+1} d hd
def Q8:∀(a:List (List Fr))(m:an),(m.dX a).dN=m.dN:=by
 intro a;induction a with
 |nil=>intro m;rfl
 |cons f a b=>
  intro m;show((m.jV f).dX a).dN=m.dN;rw[b];exact(Fe f {m with next:=m.next+1}).2.2.2.1
def Q9:∀(a:List (List Fr))(m:an),∀d∈(m.dX a).due,d∈m.due:=by
 intro a;induction a with
 |nil=>intro m d hd;exact hd
 |cons f a b=>intro m d hd;exact Q7 m f d (b _ d hd)
def FD(h:dc s X n)(hs:bO s n)(b:n<=100000):∀k,k<=4->∃a,om X (bY s k).2 a/\dc (bY s k).1 (X.dX a) n/\∀d∈(X.dX a).due,d<s.floor:=by
 intro k;induction k with
 |zero=>
  intro _;have j:=hs.ba;exact Q6 h (hs.mono (cf n)) b (by push_cast;omega) (by omega)
 |succ k e=>
  intro l;obtain⟨a,e1,e2,f⟩:=e (by omega);obtain⟨o1,m,p,-,-,-⟩:=vH hs b k (by omega);have q:k<=3:=by omega
  obtain⟨c,g,i⟩:=Q4 e2 o1 b (by omega) (by push_cast;omega) (by omega) (k:=k) (by omega);refine⟨a++c,e1.app g,?_,λd hd=>?_⟩
  rw[Fy];exact i;rw[Fy]at hd;exact f d (Q9 c _ d hd)
def Ra(h:dc s X n)(hs:bO s n)(e:n<=100000):
 ∃a,yA X (s.bB.2.map strOfNums) a/\dc s.bB.1 {X.dX a with due:=[]} n:=by
 obtain⟨a,e1,e2,f⟩:=FD h hs e 4 (aP _);obtain⟨g,i⟩:=e1.each;refine⟨a,⟨by rw[dd];exact g,λj b=>i j (by rw[dd]at b;exact b),λd hd=>?_,h.c.cl⟩,?_⟩
 rw[Q8,h.dN.fl];exact f d hd;exact⟨e2.c.due [],e2.dN,e2.bG,λd hd=>(by cases hd),jm _,e2.rd,e2.sl⟩
noncomputable def an.ask(m:an)(q:gy):Rs×an:=
 if q.op=1 then(⟨(m.write q.stream q.data).2.1,-1,(m.write q.stream q.data).1,0,[],[]⟩,(m.write q.stream q.data).2.2)
 else if q.op=2 then(⟨(m.finish q.stream).1,-1,0,0,[],[]⟩,(m.finish q.stream).2)
 else if q.op=3 then(⟨(m.giveUp q.stream q.code).1,-1,0,0,[],[]⟩,(m.giveUp q.stream q.code).2)
 else if q.op=6 then(⟨(m.fx (aI q.data)).1,(m.fx (aI q.data)).2.1,0,0,[],[]⟩,(m.fx (aI q.data)).2.2)
 else if q.op=7 then(⟨(m.read q.stream q.n).2.2.2.1,-1,(m.read q.stream q.n).2.1,(m.read q.stream q.n).2.2.1,(m.read q.stream q.n).1,[]⟩,(m.read q.stream q.n).2.2.2.2)
 else if q.op=8 then(⟨(m.close q.code).1,-1,0,0,[],[]⟩,(m.close q.code).2)
 else if q.op=9 then(⟨(m.af q.stream).2,-1,(m.af q.stream).1,0,[],[]⟩,m)
 else(⟨0,-1,0,0,[],[]⟩,m)
def Rel.mono{st:aE}(h:Rel st X n)(a:n<=k):Rel st X k:=by
 cases st with
 |ai s=>exact dc.mono h a
 |shut cQ l=>exact h
def Rb{st:aE}(h:Rel st X n)(e:fh n st)(f:n<=90000)(q:gy)(g:q.op≠5):(X.ask q).1=(st.do q).1/\Rel (st.do q).2 (X.ask q).2 (n+1):=by
 cases st with
 |shut cQ l=>
  exact False.elim e
 |ai s=>
  have h:dc s X n:=h;have hs:bO s n:=e;unfold an.ask aE.do;by_cases c1:q.op=1;rw[aG c1,aG c1];obtain⟨a,b,c⟩:=QD h hs q.stream q.data;exact⟨by rw[a,b],c.mono (by omega)⟩
  rw[aB c1,aB c1];by_cases c2:q.op=2;rw[aG c2,aG c2];obtain⟨a,b⟩:=QE h q.stream;exact⟨by rw[a],b.mono (by omega)⟩
  rw[aB c2,aB c2];by_cases c3:q.op=3;rw[aG c3,aG c3];obtain⟨a,b⟩:=QF h q.stream q.code;exact⟨by rw[a],b.mono (by omega)⟩
  rw[aB c3,aB c3];by_cases c4:q.op=4;rw[aG c4,iN_,iN_,iN_,iN_];exact⟨rfl,(QH h).mono (by omega)⟩
  rw[aB c4,aB g];by_cases c6:q.op=6;rw[aG c6,aG c6];obtain⟨a,b,c⟩:=QC h hs f (qM q.data);exact⟨by show(⟨_,_,0,0,[],[]⟩:Rs)=⟨_,_,0,0,[],[]⟩;rw[a,b];rfl,c⟩
  rw[aB c6,aB c6];by_cases c7:q.op=7;rw[aG c7,aG c7];obtain⟨a,b,c,i,a5⟩:=QG h hs q.stream q.n;exact⟨by rw[a,b,c,i],a5⟩
  rw[aB c7,aB c7];by_cases c8:q.op=8;rw[aG c8,aG c8];obtain⟨a,b⟩:=QI h q.code;exact⟨by rw[a],b.mono (by omega)⟩
  rw[aB c8,aB c8];by_cases d:q.op=9;rw[aG d,aG d];exact⟨by rw[Fq h q.stream],h.mono (by omega)⟩
  rw[aB d,aB d];exact⟨rfl,h.mono (by omega)⟩
def jI(i:aL)(m:Int):Prop:=i.given=ρ\/(0<=m/\i.there.getD m.toNat θ=ρ)
structure OI(o:da):Prop where
 hs:0<=o.high/\o.high<=o.data.size
 gv:o.given=ρ->o.end_=o.high
 sz:o.data.size<=4096
structure lQ(o a:da):Prop where
 sz:o.data.size<=a.data.size
 nw:∀m:Nat,m<o.data.size->(aI a.data).getD m 0=(aI o.data).getD m 0
 fin:o.finished=ρ->a.finished=ρ/\a.data.size=o.data.size
 gv:o.given=ρ->a.given=ρ/\a.end_=o.end_/\a.code=o.code
 hi:o.high<=a.high
structure jd(o:da)(i:aL):Prop where
 th:∀m:Nat,i.there.getD m θ=ρ->m<o.data.size/\i.data.getD m 0=(aI o.data).getD m 0
 hi:i.high<=o.high
 en:i.ended=ρ->i.given=θ->o.finished=ρ/\i.end_=o.data.size/\o.high=o.data.size
 gv:i.given=ρ->o.given=ρ/\i.end_=o.end_/\i.code=o.code/\i.ended=ρ
 s1:i.state=1->o.finished=ρ/\i.read=o.data.size
 s2:i.state=2->i.given=ρ
 s0:i.state=0\/i.state=1\/i.state=2
structure rB(o:Nat->da)(f:Fr):Prop where
 kind:f.kind=3\/f.kind=4\/f.kind=5
 k4:f.kind=4->0<=f.stream/\f.stream<4/\(o f.stream.toNat).given=ρ/\f.offset=(o f.stream.toNat).end_/\f.code=(o f.stream.toNat).code
 k5:f.kind=5->0<=f.stream/\f.stream<4/\0<=f.offset/\aT f<=(o f.stream.toNat).high/\(∀m:Nat,f.offset<=m->(m:Int)<aT f->(aI f.data).getD (m-f.offset.toNat) 0=(aI (o f.stream.toNat).data).getD m 0)/\(f.fin=ρ->(o f.stream.toNat).finished=ρ/\aT f=(o f.stream.toNat).data.size)
def lQ.rfl'(o:da):lQ o o:=⟨aP _,λ_ _=>rfl,λh=>⟨h,rfl⟩,λh=>⟨h,rfl,rfl⟩,cE _⟩
def lQ.trans{o p q:da}(h:lQ o p)(g:lQ p q):lQ o q:=
 ⟨bK h.sz g.sz,λm a=>(g.nw m (cu a h.sz)).trans (h.nw m a),λe=>⟨(g.fin (h.fin e).1).1,(g.fin (h.fin e).1).2.trans (h.fin e).2⟩,λe=>⟨(g.gv (h.gv e).1).1,(g.gv (h.gv e).1).2.1.trans (h.gv e).2.1,(g.gv (h.gv e).1).2.2.trans (h.gv e).2.2⟩,Int.le_trans h.hi g.hi⟩
def jd.le{o f:da}{i:aL}(h:jd o i)(L:lQ o f)(j:OI f):jd f i:=by
 refine⟨λm k=>?_,Int.le_trans h.hi L.hi,λe g=>?_,λg=>?_,λe=>?_,h.s2,h.s0⟩
 obtain⟨a,b⟩:=h.th m k;exact⟨cu a L.sz,b.trans (L.nw m a).symm⟩
 obtain⟨a,b,c⟩:=h.en e g;obtain⟨d1,d2⟩:=L.fin a;have:=L.hi;have:=j.hs;exact⟨d1,by rw[d2];exact b,by omega⟩
 obtain⟨a,b,c,d⟩:=h.gv g;obtain⟨d1,d2,d3⟩:=L.gv a;exact⟨d1,b.trans d2.symm,c.trans d3.symm,d⟩
 obtain⟨a,b⟩:=h.s1 e;obtain⟨d1,d2⟩:=L.fin a;exact⟨d1,by rw[d2];exact b⟩
def rB.le{o j:Nat->da}(h:rB o I)(L:∀k,k<4->lQ (o k) (j k))(ho:∀k,k<4->OI (o k)):rB j I:=by
 refine⟨h.kind,λe=>?_,λe=>?_⟩
 obtain⟨a,b,c,d,g⟩:=h.k4 e;obtain⟨d1,d2,d3⟩:=(L I.stream.toNat (by omega)).gv c;exact⟨a,b,d1,d.trans d2.symm,g.trans d3.symm⟩
 obtain⟨a,b,c,d,g,i⟩:=h.k5 e;have l:I.stream.toNat<4:=by omega
 have f:=L _ l;have t:=(ho _ l).hs;refine⟨a,b,c,Int.le_trans d f.hi,λm n p=>(g m n p).trans (f.nw m (by omega)).symm,λq=>?_⟩
 obtain⟨r,s⟩:=i q;obtain⟨d1,d2⟩:=f.fin r;exact⟨d1,by rw[d2];exact s⟩
def Rc{α:Type}(l:List α)(n m:Nat)(d:α):(l++List.replicate n d).getD m d=l.getD m d:=by
 simp only[List.getD,List.getElem?_append]
 split;rfl;rename_i h;rw[nG (l:=l) (by omega),yR];split<;>rfl
def Re{i:aL}(a:gz i)(h:i.there.getD m θ=ρ):(m:Int)<i.high:=by
 by_cases b:m<i.there.length;have:=a.tl;have:=a.dl;omega;rw[List.getD,nG (by omega)]at h;cases h
def jd.bytes{o:da}{i:aL}(h:jd o i)(ho:OI o)(l:gz i)(h0:0<=I.offset)(z:aT I<=o.high)(hd:∀m:Nat,I.offset<=m->(m:Int)<aT I->(aI I.data).getD (m-I.offset.toNat) 0=(aI o.data).getD m 0)(k:I.fin=ρ->o.finished=ρ/\aT I=o.data.size):
 (i.bytes I).1=0/\jd o (i.bytes I).2/\(∀m,jI i m->jI (i.bytes I).2 m)/\∀m,I.offset<=m->m<aT I->jI (i.bytes I).2 m:=by
 have hs:=ho.hs;have A:=h.hi;have v:i.ended=ρ->aT I<=i.end_/\(I.fin=ρ->aT I=i.end_):=λe=>by
  cases j:i.given;obtain⟨a,b,c⟩:=h.en e j;exact⟨by omega,λq=>by rw[b];exact(k q).2⟩
  obtain⟨a,b,c,d⟩:=h.gv j;have:=ho.gv a;exact⟨by omega,λq=>by have:=(k q).2;omega⟩
 have w:i.bad I=θ:=by
  unfold aL.bad;have p:(I.fin&&decide (aT I<i.high))=θ:=by
   cases q:I.fin;rfl;have:=(k q).2;simp only[sO,qD]
   omega
  rw[p,uw];cases e:i.ended;rfl;obtain⟨a,b⟩:=v e;rw[dF_];cases q:I.fin;rfl;have:=b q;simp[this]
 unfold aL.bytes;rw[aB (by rw[w];decide)];cases j:i.given;rw[aB (by decide)];have x:(i.data++List.replicate ((max i.high (aT I)).toNat-i.data.length) (0:Int)).length=(max i.high (aT I)).toNat:=by
  have:=l.dl;rw[bF,wC];omega
 have r:(i.there++List.replicate ((max i.high (aT I)).toNat-i.data.length) θ).length=(max i.high (aT I)).toNat:=by
  have:=l.dl;have:=l.tl;rw[bF,wC];omega
 have B:aT I=I.offset+I.data.size:=rfl;have P:=Fh I.offset.toNat (aI I.data) (i.data++List.replicate ((max i.high (aT I)).toNat-i.data.length) (0:Int),i.there++List.replicate ((max i.high (aT I)).toNat-i.data.length) θ) (x.trans r.symm) I.data.size (by rw[r];omega);simp only[Rc]at P;have n:∀m:Nat,(((i.grow I).pad ((max i.high (aT I)).toNat-i.data.length)).fill I I.data.size).there.getD m θ=(i.there.getD m θ||decide (I.offset.toNat<=m/\m<I.offset.toNat+I.data.size)):=λm=>(P m).1
 have y:∀m:Nat,(((i.grow I).pad ((max i.high (aT I)).toNat-i.data.length)).fill I I.data.size).data.getD m 0=if i.there.getD m θ=θ/\I.offset.toNat<=m/\m<I.offset.toNat+I.data.size then(aI I.data).getD (m-I.offset.toNat) 0 else i.data.getD m 0:=λm=>(P m).2
 refine⟨rfl,⟨λm f=>?_,?_,λe g=>?_,λg=>?_,h.s1,h.s2,h.s0⟩,λm f=>?_,λm C p=>?_⟩
 simp only at f⊢;rw[n]at f;rw[y];cases s:i.there.getD m θ;rw[s]at f;simp only[ux,mu]at f;rw[aG ⟨rfl,f⟩];exact⟨by omega,hd m (by omega) (by omega)⟩
 rw[aB (by simp)];exact h.th m s;show max i.high (aT I)<=o.high;omega;show o.finished=ρ/\(if I.fin then aT I else i.end_)=o.data.size/\_;cases q:I.fin;have t:(i.ended||I.fin)=ρ:=e;rw[q,uw]at t;simp only[eN,eA]
 exact h.en t j;obtain⟨a,b⟩:=k q;simp only[dC]
 exact⟨a,b,by omega⟩
 have u:i.given=ρ:=g;rw[j]at u;cases u;obtain f|⟨a,b⟩:=f
 rw[j]at f;cases f;exact ψ ⟨a,by simp only;rw[n,b];rfl⟩;refine ψ ⟨by omega,?_⟩;simp only
 rw[n,dT_,Bool.or_true];rw[aG rfl];exact⟨rfl,h,λm f=>f,λm _ _=>φ j⟩
def jd.reset{o:da}{i:aL}(h:jd o i)(ho:OI o)(a:o.given=ρ)(b:I.offset=o.end_)(c:I.code=o.code):
 i.vK I=θ/\jd o (i.reset I)/\∀m,jI i m->jI (i.reset I) m:=by
 have hs:=ho.hs;have d:=h.hi;have f:=ho.gv a;refine⟨?_,⟨h.th,h.hi,λ_ g=>?_,λ_=>⟨a,b,?_,rfl⟩,h.s1,λ_=>rfl,h.s0⟩,λm _=>φ rfl⟩
 unfold aL.vK;rw[dF_,uw];cases e:i.ended;rfl;have:i.end_=I.offset:=by
  cases q:i.given;have:=h.en e q;omega;rw[b];exact(h.gv q).2.1
 simp[this];cases(show(ρ:Bool)=θ from g);show(if i.given then i.code else I.code)=o.code;split;rename_i q;exact(h.gv q).2.2.1;exact c
def jd.cR{o:da}{i:aL}(h:jd o i)(v:gz i)(aH:Int):jd o (i.cR aH)/\(∀m,jI i m->jI (i.cR aH) m):=by
 have e1:(i.cR aH).there=i.there/\(i.cR aH).data=i.data/\(i.cR aH).high=i.high/\(i.cR aH).end_=i.end_/\(i.cR aH).ended=i.ended/\(i.cR aH).given=i.given/\(i.cR aH).code=i.code:=by
  unfold aL.cR aL.stop aL.lq aL.start;repeat(first|split|exact⟨rfl,rfl,rfl,rfl,rfl,rfl,rfl⟩)
 obtain⟨n,r,s,p,a5,a6,a7⟩:=e1;have f:((i.cR aH).state=i.state/\(i.state≠0->(i.cR aH).read=i.read))\/(i.state=0/\(i.cR aH).state=2/\i.given=ρ)\/(i.state=0/\(i.cR aH).state=1/\i.given=θ/\i.ended=ρ/\(i.cR aH).read=i.end_):=by
  unfold aL.cR;by_cases c:i.given=ρ/\i.state=0;have j:i.start={i with state:=2}:=by unfold aL.start;rw[aG c]
  right;left;refine⟨c.2,?_,c.1⟩
  rw[j];unfold aL.stop aL.lq;rw[aB (λq=>by simp at q)];have j:i.start=i:=by unfold aL.start;rw[aB c]
  rw[j];unfold aL.stop;by_cases d:(i.lq (i.ba aH)).ended=ρ/\(i.lq (i.ba aH)).read=(i.lq (i.ba aH)).end_/\(i.lq (i.ba aH)).state=0;rw[aG d];have d3:i.state=0:=d.2.2;right;right;refine⟨d3,rfl,?_,d.1,d.2.1⟩
  cases q:i.given;rfl;exact absurd ⟨q,d3⟩ c;rw[aB d];left;refine⟨rfl,λt=>?_⟩
  show i.read+((i.ba aH:Nat):Int)=i.read;unfold aL.ba;rw[aB t];simp
 refine⟨⟨λm b=>?_,by rw[s];exact h.hi,λe g=>?_,λg=>?_,λe=>?_,λe=>?_,?_⟩,λm b=>?_⟩
 rw[n]at b;rw[r];exact h.th m b;rw[a5]at e;rw[a6]at g;rw[p];exact h.en e g;rw[a6]at g;rw[p,a7,a5];exact h.gv g;obtain⟨b1,b2⟩|⟨b1,b2,a⟩|⟨b1,b2,a,k,l⟩:=f
 have u:=b1.symm.trans e;rw[b2 (by omega)];exact h.s1 u;omega;obtain⟨c1,c2,c3⟩:=h.en k a;exact⟨c1,l.trans c2⟩
 rw[a6];obtain⟨b1,b2⟩|⟨b1,b2,a⟩|⟨b1,b2,a,k,l⟩:=f
 exact h.s2 (b1.symm.trans e);exact a;omega;obtain⟨b1,b2⟩|⟨b1,b2,a⟩|⟨b1,b2,a,k,l⟩:=f
 rw[b1];exact h.s0;exact ψ (ψ b2);exact ψ (φ b2);unfold jI at b⊢;rw[a6,n];exact b
def jd.text{o:da}{i:aL}(h:jd o i)(ho:OI o)(e:gz i)(aH:Int)(v:0<=aH):
 ((i.text aH).length:Int)<=aH/\i.read+(i.text aH).length<=o.data.size/\i.text aH=((aI o.data).drop i.read.toNat).take (i.text aH).length/\(i.cR aH).read=i.read+(i.text aH).length/\(i.state≠0->i.text aH=[]/\(i.cR aH).state=i.state):=by
 have k:gz i.start:=by unfold aL.start;split<;>exact⟨e.dl,e.tl,e.hi,e.e0,e.rd⟩
 have f:i.start.read=i.read/\i.start.there=i.there/\i.start.high=i.high:=by unfold aL.start;split<;>exact⟨rfl,rfl,rfl⟩
 obtain⟨c,d⟩:=exq (i.start.ba aH);have w:i.read+c<=i.high:=by have:=AB (p:=aH) k;rw[f.1,f.2.2,<-d]at this;exact this
 have r:(c:Int)<=aH:=by rw[d];unfold aL.ba;split<;>omega
 have hd:=e.dl;have x:=e.rd;have hl:(i.text aH).length=c:=by unfold aL.text;rw[<-d,ct,dO];omega
 have hs:=ho.hs;have y:=h.hi;rw[hl];refine⟨r,by omega,?_,?_,λg=>?_⟩
 apply List.ext_getElem?;intro j;unfold aL.text;rw[<-d,jK,jK];split;rename_i s;have l:=(PS k (j:=j) (by rw[<-d];exact s)).2.2.2;rw[f.1,f.2.1]at l;have t:i.there.getD (i.read.toNat+j) θ=ρ:=by rw[List.getD,l];rfl
 obtain⟨a,b⟩:=h.th _ t;rw[lC,lC];have m:i.read.toNat+j<i.data.length:=by omega
 have n:i.read.toNat+j<(aI o.data).length:=by rw[fN];exact a
 rw[List.getD,List.getD,dT m,dT n]at b;rw[dT m,dT n];simpa using b;rfl;unfold aL.cR;rw[<-d];have:∀j:aL,j.stop.read=j.read:=λj=>by unfold aL.stop;split<;>rfl
 rw[this];show i.start.read+(c:Int)=i.read+(c:Int)
 rw[f.1];have p:i.start=i:=by unfold aL.start;rw[aB (λq=>g q.2)]
 have u:c=0:=by rw[d,p];unfold aL.ba;rw[aB g]
 refine⟨by unfold aL.text;rw[<-d,u];rfl,?_⟩
 unfold aL.cR aL.stop;rw[p,aB (λq=>g q.2.2)];rfl
def sB(i:Nat->aL)(f:Fr):Prop:=(f.kind=5->f.fin=ρ->(i f.stream.toNat).ended=ρ)/\(f.kind=4->(i f.stream.toNat).given=ρ/\(i f.stream.toNat).ended=ρ)
def tV(i a:Nat->aL):Prop:=∀k,((i k).ended=ρ->(a k).ended=ρ)/\((i k).given=ρ->(a k).given=ρ)
def sB.mono{i c:Nat->aL}(h:sB i I)(H:tV i c):sB c I:=⟨λa b=>(H _).1 (h.1 a b),λa=>⟨(H _).2 (h.2 a).1,(H _).1 (h.2 a).2⟩⟩
def tV.ah{i:Nat->aL}{r:aL}(a:(i k).ended=ρ->r.ended=ρ)(b:(i k).given=ρ->r.given=ρ):tV i (Go.Proofs.YtjnmokmchdfchaaGreatDoor.ah i k r):=λj=>by
 by_cases e:j=k;subst e;rw[aR];exact⟨a,b⟩
 rw[aX _ _ e];exact⟨λq=>q,λq=>q⟩
structure cN(a b:an):Prop where
 key:b.key=a.key
 me:a.me=1-b.me
 ag:b.ag=a.ag
 sn:∀x∈a.av,0<=x.1/\x.1<a.next
 aK:∀x∈a.av,∀y∈a.av,x.1=y.1->x=y
 fr:∀x∈a.av,∀f∈x.2,rB a.outs f/\cO f
 ak:∀x∈a.av,∀f∈x.2,f.kind=3->∀n,bp f.ranges n=ρ->Sm a.bG.sp n
 aF:∀k,k<4->jd (a.outs k) (b.ins k)
 ev:∀n,Sm b.bG.sp n->n<a.next
 tk:∀x∈a.av,Sm b.bG.sp x.1->∀f∈x.2,∀k,k<4->∀m,oU f k m->jI (b.ins k) m
 cm:∀k,k<4->∀m,Sm (a.outs k).af.sp m->jI (b.ins k) m
 tf:∀x∈a.av,Sm b.bG.sp x.1->∀f∈x.2,sB b.ins f
structure oW(m:an)(n:Nat):Prop where
 cl:m.closed=0
 out:∀k,k<4->OI (m.outs k)
 ck:∀k,k<4->fR (m.outs k).af
 fr:∀k,k<4->(m.outs k).af.eR<=(m.outs k).data.size/\((m.outs k).given=θ->(m.outs k).data.size-(m.outs k).af.eR<=m.ag)
 fU:∀k,k<4->gz (m.ins k)
 rd:∀k,k<4->(m.ins k).high<=(m.ins k).read+m.ag
 kD:vJ m
 bG:∃c,tU c m.bG n
def dc.dR(h:dc s X n)(hs:bO s n):oW X n:=by
 refine⟨h.c.cl,λk a=>?_,λk a=>(h.c.out k a).ck,λk a=>?_,h.c.fU,λk a=>(h.rd k a).2,h.c.fl.kD,_,h.bG⟩
 have R:=h.c.out k a;exact⟨R.hs,λe=>(R.gv e).2.1,R.sz⟩
 have R:=h.c.out k a;have b:=R.su;have h0:=(hs.out k a).fr;refine⟨by rw[<-R.fr];exact b,λd=>?_⟩
 have f:=R.vM d h0;have g:=hs.og k a;rw[<-R.fr,h.c.ag];omega
def Rf{z:cW}(h:tU Y z n)(g:n<=1000000)(i:0<=p)(d:Int):Sm (z.add p p).sp d↔Sm z.sp d\/d=p:=by
 have e1:max p z.floor=p:=by rw[h.fl];omega
 have e2:=yw (Y:=z.l) (cE p) h.ok;obtain⟨E,a⟩:=exq ((qv p p z.l).end_);rw[<-a]at e2;have j:E.length<=z.l.length+1:=by
  have:=uM (z.l.map cX) ⟨p,p+1⟩;rw[<-e2,dd,dd]at this;exact this
 have b:z.add p p={z with l:=E}:=by
  unfold cW.add cW.put;rw[e1,iN_,<-a,aB (by rw[h.mo];have:=h.len;omega)]
 have c:(z.add p p).sp=cD z.sp ⟨p,p+1⟩:=by rw[b];exact e2
 rw[c,iK _ h.ok];constructor;rintro(q|⟨e,f⟩);exact φ q;simp only at e f;exact ψ (by omega);rintro(q|q);exact φ q;exact ψ ⟨by simp only;omega,by simp only;omega⟩
structure ny(a b c:an):Prop where
 aF:∀k,k<4->jd (a.outs k) (c.ins k)
 fU:∀k,k<4->gz (c.ins k)
 rs:∀k,(c.ins k).read=(b.ins k).read/\(c.ins k).state=(b.ins k).state
 th:∀k m,jI (b.ins k) m->jI (c.ins k) m
 hd:tV b.ins c.ins
 out:∀k,k<4->∃z,c.outs k={b.outs k with af:=z}
 ck:∀k,k<4->fR (c.outs k).af
 cm:∀k,k<4->∀m,Sm (b.outs k).af.sp m->Sm (c.outs k).af.sp m
 cn:∀k,k<4->∀m,Sm (c.outs k).af.sp m->Sm (b.outs k).af.sp m\/∃x∈b.av,Sm a.bG.sp x.1/\∃g∈x.2,oU g k m
 same:sq b c
def ny.trans{b c d:an}(h:ny X b c)(g:ny X c d):ny X b d:=by
 refine⟨g.aF,g.fU,λk=>⟨(g.rs k).1.trans (h.rs k).1,(g.rs k).2.trans (h.rs k).2⟩,λk m q=>g.th k m (h.th k m q),λk=>⟨λq=>(g.hd k).1 ((h.hd k).1 q),λq=>(g.hd k).2 ((h.hd k).2 q)⟩,λk a=>?_,g.ck,λk a m q=>g.cm k a m (h.cm k a m q),λk a m q=>?_,?_⟩
 obtain⟨z,e⟩:=h.out k a;obtain⟨y,f⟩:=g.out k a;exact⟨y,by rw[f,e]⟩
 obtain q|q:=g.cn k a m q
 exact h.cn k a m q;rw[h.same.av]at q;exact ψ q;have x:=h.same;have y:=g.same;exact⟨y.aj.trans x.aj,y.ag.trans x.ag,y.key.trans x.key,y.me.trans x.me,y.closed.trans x.closed,y.code.trans x.code,y.said.trans x.said,y.next.trans x.next,y.dN.trans x.dN,y.bG.trans x.bG,y.av.trans x.av⟩
def sq.refl(b:an):sq b b:=⟨rfl,rfl,rfl,rfl,rfl,rfl,rfl,rfl,rfl,rfl,rfl⟩
def ny.note{b c:an}(h:ny X b c)(f:Fr)(n:Int):ny X b (c.note f n):=by
 obtain⟨s,o,i,-⟩:=tS c f n;refine h.trans ⟨λk a=>by rw[i];exact h.aF k a,λk a=>by rw[i];exact h.fU k a,λk=>by rw[i];exact⟨rfl,rfl⟩,λk m q=>by rw[i];exact q,λk=>by rw[i];exact⟨λq=>q,λq=>q⟩,λk a=>⟨(c.outs k).af,by rw[o]⟩,λk a=>by rw[o];exact h.ck k a,λk a m q=>by rw[o];exact q,λk a m q=>by rw[o]at q;exact φ q,s⟩
def ny.oh{b:an}(c:∀k,k<4->jd (X.outs k) (b.ins k))(d:∀k,k<4->gz (b.ins k))(f:∀k,k<4->fR (b.outs k).af){i:aL}(g:jd (X.outs k) i)(h:gz i)(l:i.read=(b.ins k).read/\i.state=(b.ins k).state)(n:∀m,jI (b.ins k) m->jI i m)(p:(b.ins k).ended=ρ->i.ended=ρ)(r:(b.ins k).given=ρ->i.given=ρ):ny X b {b with ins:=ah b.ins k i}:=by
 refine⟨λj a=>?_,λj a=>?_,λj=>?_,λj m q=>?_,tV.ah p r,λj _=>⟨_,rfl⟩,f,λj a m q=>q,λj a m q=>φ q,⟨rfl,rfl,rfl,rfl,rfl,rfl,rfl,rfl,rfl,rfl,rfl⟩⟩
 by_cases e:j=k;subst e;simp only[aR];exact g;simp only[aX _ _ e];exact c j a;by_cases e:j=k;subst e;simp only[aR];exact h;simp only[aX _ _ e];exact d j a;by_cases e:j=k;subst e;simp only[aR];exact l;rw[show({b with ins:=ah b.ins k i}:an).ins j=b.ins j from aX _ _ e];exact⟨rfl,rfl⟩
 by_cases e:j=k;subst e;simp only[aR];exact n m q;simp only[aX _ _ e];exact q
def Rh(i:aL)(f:Fr):(i.bytes f).2.read=i.read/\(i.bytes f).2.state=i.state:=by
 unfold aL.bytes;split;exact⟨rfl,rfl⟩
 split<;>exact⟨rfl,rfl⟩
def AO(i:aL)(f:Fr):(i.ended=ρ->(i.bytes f).2.ended=ρ)/\(i.given=ρ->(i.bytes f).2.given=ρ)/\((i.bytes f).1=0->f.fin=ρ->(i.given=ρ->i.ended=ρ)->(i.bytes f).2.ended=ρ):=by
 unfold aL.bytes;split;refine⟨λq=>q,λq=>q,λq=>?_⟩
 simp at q;split;rename_i g;exact⟨λq=>q,λq=>q,λ_ _ q=>q (by simpa using g)⟩
 refine⟨λq=>?_,λq=>q,λ_ q _=>?_⟩
 show(i.ended||f.fin)=ρ;rw[q];rfl;show(i.ended||f.fin)=ρ;rw[q];simp
def Ri{b:an}(ho:∀k,k<4->OI (X.outs k))(c:∀k,k<4->jd (X.outs k) (b.ins k))(d:∀k,k<4->gz (b.ins k))(i:vJ b)(f:∀k,k<4->fR (b.outs k).af)(j:rB X.outs I)(hs:cO I)
 (s:I.kind=3->(ao I.ranges 0).hi<b.next/\∀n,bp I.ranges n=ρ->Sm X.bG.sp n):(b.take I).1=0/\ny X b (b.take I).2/\(∀k,k<4->∀m,oU I k m->jI ((b.take I).2.ins k) m)/\sB (b.take I).2.ins I:=by
 unfold an.take;obtain e|e|e:=j.kind
 obtain⟨t,r⟩:=s e;rw[aG e,iN_];refine⟨rfl,⟨c,d,λk=>⟨rfl,rfl⟩,λk m q=>q,λk=>⟨λq=>q,λq=>q⟩,λk a=>(sw I.ranges b.av i f k a).1,Fc i f,λk a m q=>((sw I.ranges b.av i f k a).2 m).2 (φ q),λk a m q=>?_,⟨rfl,rfl,rfl,rfl,rfl,rfl,rfl,rfl,rfl,rfl,rfl⟩⟩,λk _ m q=>?_,λq=>by omega,λq=>by omega⟩
 obtain q|⟨x,u,v,w⟩:=((sw I.ranges b.av i f k a).2 m).1 q
 exact φ q;exact ψ ⟨x,u,r _ v,w⟩;have:=q.1;omega;obtain⟨y,z,h,l,a5⟩:=j.k4 e;have a:I.stream.toNat<4:=by omega
 obtain⟨b1,b2,p⟩:=(c _ a).reset (ho _ a) h l a5;rw[iN_,aG e,aB (by rw[b1];decide)];have h0:0<=I.offset:=by have:=(ho _ a).gv h;have:=(ho _ a).hs;omega
 refine⟨rfl,ny.oh c d f b2 ((d _ a).reset h0 (by have:=hs.1.1;omega)) ⟨rfl,rfl⟩ p (λ_=>rfl) (λ_=>rfl),λk _ m q=>?_,λq=>by omega,λ_=>?_⟩
 have:=q.1;omega;simp only[aR];exact⟨rfl,rfl⟩
 obtain⟨y,z,h,l,a5,a6⟩:=j.k5 e;have a:I.stream.toNat<4:=by omega
 obtain⟨b1,b2,p,A⟩:=(c _ a).bytes (ho _ a) (d _ a) h l a5 a6;rw[iN_,iN_,aG e];have t:=(ho _ a).hs;have r:=(ho _ a).sz;refine⟨b1,ny.oh c d f b2 ((d _ a).bytes h (by omega) (λ_=>by omega)) (Rh _ I) p (AO _ I).1 (AO _ I).2.1,λk E m q=>?_,λ_ q=>?_,λq=>by omega⟩
 obtain⟨-,-,B,C,D⟩:=q;subst B;simp only[aR]
 exact A m C D;simp only[aR]
 exact(AO _ I).2.2 b1 q (λg=>((c _ a).gv g).2.2.2)
def Rj(ho:∀k,k<4->OI (X.outs k))(num:Int):∀(a:List Fr)(b:an),(∀k,k<4->jd (X.outs k) (b.ins k))->(∀k,k<4->gz (b.ins k))->vJ b->(∀k,k<4->fR (b.outs k).af)->
 (∀f∈a,rB X.outs f/\cO f/\(f.kind=3->(ao f.ranges 0).hi<b.next/\∀n,bp f.ranges n=ρ->Sm X.bG.sp n))->
 (an.fI num a b).1=0/\ny X b (an.fI num a b).2/\(∀f∈a,∀k,k<4->∀m,oU f k m->jI ((an.fI num a b).2.ins k) m)/\∀f∈a,sB (an.fI num a b).2.ins f:=by
 intro a;induction a with
 |nil=>
  intro b d e h i _;exact⟨rfl,⟨d,e,λk=>⟨rfl,rfl⟩,λk m q=>q,λk=>⟨λq=>q,λq=>q⟩,λk _=>⟨_,rfl⟩,i,λk _ m q=>q,λk _ m q=>φ q,sq.refl b⟩,λf j=>(by cases j),λf j=>(by cases j)⟩
 |cons f a s=>
  intro b d e h i p;obtain⟨f1,f2,f3⟩:=p f (by simp);obtain⟨t1,t2,t3,t5⟩:=Ri ho d e h i f1 f2 f3;have e2:an.fI num (f::a) b=if(b.take f).1=0 then an.fI num a ((b.take f).2.note f num)else((b.take f).1,(b.take f).2.fail (b.take f).1):=rfl
  rw[e2,aG t1];have t4:=t2.note f num;obtain⟨t,l,u,v⟩:=s _ t4.aF t4.fU (by unfold vJ;rw[t4.same.av];exact h) t4.ck (λg c=>by rw[t4.same.next];exact p g (by simp[c]));refine⟨t,t4.trans l,λg c k r m q=>?_,λg c=>?_⟩
  obtain rfl|c:=dY.1 c
  refine l.th k m ?_;rw[(tS _ _ _).2.2.1];exact t3 k r m q;exact u g c k r m q;obtain rfl|c:=dY.1 c
  refine sB.mono ?_ l.hd;rw[(tS _ _ _).2.2.1];exact t5;exact v g c
def oX(a:an)(p:List Int)(x:Int×List Fr):Prop:=eH a.key a.me p/\bm p=x.1/\fu (dJ a.key a.me (bm p) (bX p))=(μ x.2,-1)
structure nz(o a:da):Prop where
 data:a.data=o.data
 fin:a.finished=o.finished
 gv:a.given=o.given
 code:a.code=o.code
 pre:o.af.eR<=a.af.eR
def nz.rfl'(o:da):nz o o:=⟨rfl,rfl,rfl,rfl,cE _⟩
def Rk{z a:cW}(h:fR z)(b:fR a)(hs:∀m,Sm z.sp m->Sm a.sp m):z.eR<=a.eR:=by
 obtain⟨f,d,g⟩:=sx h;obtain⟨b1,b2,e⟩:=sx b;by_cases c:z.eR<=a.eR;exact c;exact absurd (hs _ (d _ b1 (by omega))) e
def cN.same{b a:an}(D:cN X b)(i:a.ins=b.ins)(e:a.bG=b.bG)(k:a.key=b.key)(m:a.me=b.me)(w:a.ag=b.ag):cN X a:=
 ⟨k.trans D.key,by rw[m];exact D.me,w.trans D.ag,D.sn,D.aK,D.fr,D.ak,by rw[i];exact D.aF,by rw[e];exact D.ev,by rw[e,i];exact D.tk,by rw[i];exact D.cm,by rw[e,i];exact D.tf⟩
def cN.Rl{b:an}(D:cN X b)(E:cN b X){x:Int×List Fr}(a:x∈X.av)(c:I∈x.2)(d:I.kind=3):(ao I.ranges 0).hi<b.next:=by
 obtain⟨e,p2⟩:=(D.fr x a I c).2.2.1.1 d;have p3:=p2 0 e;exact E.ev _ (D.ak x a I c d _ ((xB _ _).2 ⟨0,e,p3.1,cE _⟩))
def Rm{b:an}(F:oW X i)(r:oW b j)(G:j<=1000000)(D:cN X b)(E:cN b X){x:Int×List Fr}(u:x∈X.av)(hp:oX X L x):
 ((b.fx L).1=0\/(b.fx L).1=6)/\cN X (b.fx L).2.2/\cN (b.fx L).2.2 X/\(∀k,k<4->nz (b.outs k) ((b.fx L).2.2.outs k))/\(∀k,((b.fx L).2.2.ins k).read=(b.ins k).read/\((b.fx L).2.2.ins k).state=(b.ins k).state)/\(b.fx L).2.2.next=b.next/\(b.fx L).2.2.av=b.av/\∀d,Sm b.bG.sp d->Sm (b.fx L).2.2.bG.sp d:=by
 obtain⟨H,p2,p3⟩:=hp;have I:1-b.me=X.me:=D.me.symm;have same:cN X b/\cN b X/\(∀k,k<4->nz (b.outs k) (b.outs k))/\(∀k,(b.ins k).read=(b.ins k).read/\(b.ins k).state=(b.ins k).state)/\b.next=b.next/\b.av=b.av/\∀d,Sm b.bG.sp d->Sm b.bG.sp d:=⟨D,E,λk _=>nz.rfl' _,λk=>⟨rfl,rfl⟩,rfl,rfl,λ_ q=>q⟩
 unfold an.fx;rw[aB (by rw[r.cl];decide),I,D.key,aB (by simpa using H)];split;exact⟨φ rfl,same⟩
 unfold an.qw;rw[p3];simp only
 split;exact⟨ψ rfl,same⟩
 have K:=D.sn x u;obtain⟨t1,t2,t3,t9⟩:=Rj (X:=X) F.out (bm L) x.2 (b.mark (bm L)) D.aF r.fU r.kD r.ck (λf l=>⟨(D.fr x u f l).1,(D.fr x u f l).2,λA=>⟨D.Rl E u l A,D.ak x u f l A⟩⟩);obtain⟨t,M⟩:=exq ((an.fI (bm L) x.2 (b.mark (bm L))).2);rw[<-M]at t2 t3 t9⊢;obtain⟨c,N⟩:=r.bG;have v:∀d,Sm t.bG.sp d↔Sm b.bG.sp d\/d=x.1:=λd=>by
  rw[t2.same.bG];show Sm (b.bG.add (bm L) (bm L)).sp d↔_;rw[p2];exact Rf N G K.1 d
 have C:∀k,k<4->lQ (b.outs k) (t.outs k):=λk a=>by
  obtain⟨z,e⟩:=t2.out k a;have e:t.outs k={b.outs k with af:=z}:=e;rw[e];exact⟨aP _,λ_ _=>rfl,λh=>⟨h,rfl⟩,λh=>⟨h,rfl,rfl⟩,cE _⟩
 have O:∀k,k<4->OI (t.outs k):=λk a=>by
  obtain⟨z,e⟩:=t2.out k a;have e:t.outs k={b.outs k with af:=z}:=e;rw[e];exact⟨(r.out k a).hs,(r.out k a).gv,(r.out k a).sz⟩
 have hs:t.av=b.av:=t2.same.av;have w:t.next=b.next:=t2.same.next;refine⟨φ t1,?_,?_,λk a=>?_,t2.rs,w,hs,λd q=>(v d).2 (φ q)⟩
 refine⟨t2.same.key.trans D.key,?_,t2.same.ag.trans D.ag,D.sn,D.aK,D.fr,D.ak,t2.aF,λn w=>?_,λy p B f l k a m q=>?_,λk a m q=>t2.th k m (D.cm k a m q),λy p B f l=>?_⟩
 rw[t2.same.me];exact D.me;obtain q|q:=(v n).1 w
 exact D.ev n q;omega;obtain s|s:=(v y.1).1 B
 exact t2.th k m (D.tk y p s f l k a m q);have:=D.aK y p x u s;subst this;exact t3 f l k a m q;obtain s|s:=(v y.1).1 B
 exact(D.tf y p s f l).mono t2.hd;have:=D.aK y p x u s;subst this;exact t9 f l;refine⟨E.key.trans t2.same.key.symm,?_,E.ag.trans t2.same.ag.symm,?_,?_,?_,?_,λk a=>(E.aF k a).le (C k a) (O k a),?_,?_,λk a m q=>?_,by rw[hs];exact E.tf⟩
 rw[t2.same.me];exact E.me;rw[hs,w];exact E.sn;rw[hs];exact E.aK;rw[hs];exact λy p f l=>⟨(E.fr y p f l).1.le C r.out,(E.fr y p f l).2⟩
 rw[hs];exact λy p f l A n q=>(v n).2 (φ (E.ak y p f l A n q))
 rw[w];exact E.ev;rw[hs];exact E.tk;obtain s|⟨y,p,P,g,Q,R⟩:=t2.cn k a m q
 exact E.cm k a m s;exact E.tk y p P g Q k a m R;obtain⟨z,e⟩:=t2.out k a;have e:t.outs k={b.outs k with af:=z}:=e;refine⟨by rw[e],by rw[e],by rw[e],by rw[e],Rk (r.ck k a) (t2.ck k a) (t2.cm k a)⟩
def FF(b:ByteArray)(i j:Nat):aI (b.extract i j)=((aI b).drop i).take (j-i):=by
 unfold aI;rw[yS,Array.toList_extract,List.extract_eq_take_drop,List.map_take,List.map_drop]
structure nA(m a:an):Prop where
 le:∀k,k<4->lQ (m.outs k) (a.outs k)
 oi:∀k,k<4->OI (a.outs k)
 kp:∀k,k<4->nz (m.outs k) (a.outs k)
 cm:∀k,k<4->(a.outs k).af=(m.outs k).af
 ins:a.ins=m.ins
 bG:a.bG=m.bG
 key:a.key=m.key
 me:a.me=m.me
 ag:a.ag=m.ag
 aj:a.aj=m.aj
def nz.trans{o p q:da}(h:nz o p)(g:nz p q):nz o q:=⟨g.data.trans h.data,g.fin.trans h.fin,g.gv.trans h.gv,g.code.trans h.code,Int.le_trans h.pre g.pre⟩
def nA.trans{b c:an}(h:nA X b)(g:nA b c):nA X c:=
 ⟨λk a=>(h.le k a).trans (g.le k a),g.oi,λk a=>(h.kp k a).trans (g.kp k a),λk a=>(g.cm k a).trans (h.cm k a),g.ins.trans h.ins,g.bG.trans h.bG,g.key.trans h.key,g.me.trans h.me,g.ag.trans h.ag,g.aj.trans h.aj⟩
def nA.rfl'{a:an}(ho:∀k,k<4->OI (X.outs k))(b:a.outs=X.outs)(c:a.ins=X.ins)(d:a.bG=X.bG)(e:a.key=X.key)(f:a.me=X.me)(g:a.ag=X.ag)(h:a.aj=X.aj):nA X a:=
 ⟨λk _=>by rw[b];exact lQ.rfl' _,λk i=>by rw[b];exact ho k i,λk _=>by rw[b];exact nz.rfl' _,λk _=>by rw[b],c,d,e,f,g,h⟩
def Rn(h:sr X I)(ho:∀k,k<4->OI (X.outs k)):nA X (X.dS I)/\rB (X.dS I).outs I:=by
 by_cases c:I.kind=5;obtain⟨d,f,b⟩:=h.k5 c;have a:I.stream.toNat<4:=by omega
 have e:X.dS I={X with outs:=ah X.outs I.stream.toNat ((X.outs I.stream.toNat).sk I)}:=by unfold an.dS;rw[iN_,aG c]
 have hs:=(ho _ a).hs;have g:=b.en;have i:=b.gv;have key:∀k,k<4->lQ (X.outs k) (ah X.outs I.stream.toNat ((X.outs I.stream.toNat).sk I) k)/\OI (ah X.outs I.stream.toNat ((X.outs I.stream.toNat).sk I) k)/\nz (X.outs k) (ah X.outs I.stream.toNat ((X.outs I.stream.toNat).sk I) k)/\(ah X.outs I.stream.toNat ((X.outs I.stream.toNat).sk I) k).af=(X.outs k).af:=λk l=>by
  by_cases q:k=I.stream.toNat;subst q;simp only[aR]
  refine⟨⟨aP _,λ_ _=>rfl,λh=>⟨h,rfl⟩,λh=>⟨h,rfl,rfl⟩,by show(X.outs I.stream.toNat).high<=max (X.outs I.stream.toNat).high (aT I);omega⟩,⟨by show 0<=max (X.outs I.stream.toNat).high (aT I)/\max (X.outs I.stream.toNat).high (aT I)<=((X.outs I.stream.toNat).data.size:Int);omega,λq=>?_,(ho _ a).sz⟩,⟨rfl,rfl,rfl,rfl,cE _⟩,rfl⟩
  have q:(X.outs I.stream.toNat).given=ρ:=q;rw[i]at q;cases q;rw[aX _ _ q];exact⟨lQ.rfl' _,ho k l,nz.rfl' _,rfl⟩
 rw[e];refine⟨⟨λk a=>(key k a).1,λk a=>(key k a).2.1,λk a=>(key k a).2.2.1,λk a=>(key k a).2.2.2,rfl,rfl,rfl,rfl,rfl,rfl⟩,⟨h.kind,λq=>by omega,λ_=>?_⟩⟩
 simp only[aR]
 refine⟨d,f,b.off,by show aT I<=max _ (aT I);omega,λj t u=>?_,λq=>?_⟩
 show _=(aI (X.outs I.stream.toNat).data).getD j 0;have g:aT I=I.offset+I.data.size:=rfl;rw[<-b.nw,FF];simp only[List.getD,jK,lC]
 rw[iP_,show I.offset.toNat+(j-I.offset.toNat)=j by omega];have:=b.fin;rw[q]at this;have:=this.symm;simp only[iu,mu]at this;exact this;have e:(X.dS I).outs=X.outs/\(X.dS I).ins=X.ins/\(X.dS I).bG=X.bG/\(X.dS I).key=X.key/\(X.dS I).me=X.me/\(X.dS I).ag=X.ag/\(X.dS I).aj=X.aj:=by
  unfold an.dS;split;exact⟨rfl,rfl,rfl,rfl,rfl,rfl,rfl⟩
  first|exact⟨rfl,rfl,rfl,rfl,rfl,rfl,rfl⟩|(rw[aB c];exact⟨rfl,rfl,rfl,rfl,rfl,rfl,rfl⟩)
 obtain⟨e1,e2,m,n,p,r,s⟩:=e;refine⟨nA.rfl' ho e1 e2 m n p r s,⟨h.kind,λq=>by rw[e1];exact h.k4 q,λq=>absurd q c⟩⟩
def Ro:∀(q:List Fr)(m:an),(∀j,j<q.length->sr ((q.take j).foldl an.dS m) (AD q j))->(∀k,k<4->OI (m.outs k))->nA m (q.foldl an.dS m)/\∀f∈q,rB (q.foldl an.dS m).outs f/\(f.kind=3->∀r∈f.ranges,vL m.bG.l r=ρ):=by
 intro q;induction q with
 |nil=>intro m _ ho;exact⟨nA.rfl' ho rfl rfl rfl rfl rfl rfl rfl,λf a=>by cases a⟩
 |cons g q d=>
  intro m h ho;have h0:sr m g:=h 0 (by simp);obtain⟨t1,t2⟩:=Rn h0 ho;obtain⟨b,e⟩:=d (m.dS g) (λj n=>h (j+1) (by simp;omega)) t1.oi;refine⟨t1.trans b,λf a=>?_⟩
  obtain rfl|a:=dY.1 a
  exact⟨t2.le b.le t1.oi,h0.k3⟩
  obtain⟨i,c⟩:=e f a;exact⟨i,by rw[t1.bG]at c;exact c⟩
structure tW(a b:an):Prop where
 may:nA a b
 sub:∀x∈a.av,x∈b.av
def Rq{b:an}(ho:∀k,k<4->OI (X.outs k))(D:cN X b)(E:cN b X){p:ByteArray}{c:List Fr}(h:rz X p c):
 cN (X.jV c) b/\cN b (X.jV c)/\tW X (X.jV c)/\oX X (aI p) (X.next,c)/\(X.next,c)∈(X.jV c).av/\(X.jV c).next=X.next+1:=by
 obtain⟨m1,u⟩:=Ro c {X with next:=X.next+1} h.may ho;obtain⟨e1,e2,I,K,s⟩:=Fe c {X with next:=X.next+1};obtain⟨e,v⟩:∃e,e=c.foldl an.dS {X with next:=X.next+1}:=⟨_,rfl⟩
 have z:X.jV c={e with av:=X.av++[(X.next,c)]}:=by rw[v];rfl
 rw[<-v]at m1 u s;have A:=yd h.op.dec;have L:=h.op.nx;rw[z];have B:∀x∈X.av,x∈X.av++[(X.next,c)]:=λx a=>fC _ a
 have C:nA X {e with av:=X.av++[(X.next,c)]}:=⟨m1.le,m1.oi,m1.kp,m1.cm,m1.ins,m1.bG,m1.key,m1.me,m1.ag,m1.aj⟩
 refine⟨⟨D.key.trans m1.key.symm,?_,D.ag.trans m1.ag.symm,?_,?_,?_,?_,λk g=>(D.aF k g).le (m1.le k g) (m1.oi k g),?_,?_,λk g m q=>?_,λx a j f d=>?_⟩,E.same m1.ins m1.bG m1.key m1.me m1.ag,⟨C,B⟩,⟨h.op.ok,h.op.num,h.op.dec⟩,by simp,s⟩
 show e.me=_;rw[m1.me];exact D.me;intro x a;show 0<=x.1/\x.1<e.next;rw[s];obtain a|a:=bL.1 a
 have:=D.sn x a;simp only;omega;rw[cA.1 a];simp only;omega;intro x a y l r;obtain a|a:=bL.1 a<;>rcases bL.1 l with l|l
 exact D.aK x a y l r;have:=D.sn x a;rw[cA.1 l]at r;simp only at r;omega;have:=D.sn y l;rw[cA.1 a]at r;simp only at r;omega;rw[cA.1 a,cA.1 l];intro x a f d;obtain a|a:=bL.1 a
 exact⟨(D.fr x a f d).1.le m1.le ho,(D.fr x a f d).2⟩
 rw[cA.1 a]at d;exact⟨(u f d).1,A f d⟩
 intro x a f d w n t;show Sm e.bG.sp n;rw[m1.bG];obtain a|a:=bL.1 a
 exact D.ak x a f d w n t;rw[cA.1 a]at d;obtain⟨i,hi,M,n2⟩:=(xB _ _).1 t;have F:ao f.ranges i∈f.ranges:=by unfold ao;rw[oy,dT hi];simp
 have:=(u f d).2 w _ F;unfold vL at this;obtain⟨q,G,H⟩:=oG.1 this;simp only[iu,mu]at H;exact⟨cX q,eU.2 ⟨q,G,rfl⟩,by simp only[cX];omega,by simp only[cX];omega⟩
 intro n t;have:=D.ev n t;show n<e.next;rw[s];simp only;omega;intro x a j f d k g m q;obtain a|a:=bL.1 a
 exact D.tk x a j f d k g m q;rw[cA.1 a]at j;have:=D.ev _ j;simp only at this;omega;have q:Sm (e.outs k).af.sp m:=q;rw[m1.cm k g]at q;exact D.cm k g m q;obtain a|a:=bL.1 a
 exact D.tf x a j f d;rw[cA.1 a]at j;have:=D.ev _ j;simp only at this;omega
def tW.trans{b c:an}(h:tW X b)(g:tW b c):tW X c:=⟨h.may.trans g.may,λx a=>g.sub x (h.sub x a)⟩
def Rr:∀(b:List (List Fr))(bs:List ByteArray)(a:an),b.length=bs.length->(∀j,j<bs.length->rz (a.dX (b.take j)) (fj bs j) (b.getD j []))->(∀k,k<4->OI (a.outs k))->cN a X->cN X a->
 cN (a.dX b) X/\cN X (a.dX b)/\tW a (a.dX b)/\(a.dX b).next=a.next+bs.length/\∀j,j<bs.length->∃x∈(a.dX b).av,oX a (aI (fj bs j)) x/\x.1=a.next+j/\((fj bs j).size:Int)<=a.aj:=by
 intro b;induction b with
 |nil=>
  intro bs a hl _ ho D E;have:bs=[]:=by cases bs with|nil=>rfl|cons=>simp at hl
  subst this;exact⟨D,E,⟨nA.rfl' ho rfl rfl rfl rfl rfl rfl rfl,λx d=>d⟩,by show a.next=a.next+0;omega,λj c=>by simp at c⟩
 |cons f b l=>
  intro bs a hl g ho D E;cases bs with
  |nil=>simp at hl
  |cons p bs=>
   have h0:rz a p f:=g 0 (by simp);obtain⟨d1,d2,d3,d4,d5,d6⟩:=Rq ho D E h0;obtain⟨m,n,h,q,r⟩:=l bs (a.jV f) (by simpa using hl) (λj c=>g (j+1) (by simp;omega)) d3.may.oi d1 d2;refine⟨m,n,d3.trans h,?_,λj c=>?_⟩
   show((a.jV f).dX b).next=_;rw[q,d6,cS];push_cast;omega;cases j with
   |zero=>exact⟨(a.next,f),h.sub _ d5,d4,by simp,h0.op.len⟩
   |succ j=>
    obtain⟨x,d,e,s,i⟩:=r j (by simpa using c);refine⟨x,d,?_,by rw[s,d6];push_cast;omega,by rw[d3.may.aj]at i;exact i⟩
    unfold oX at e⊢;rw[d3.may.key,d3.may.me]at e;exact e
structure End where
 wrote:ByteArray
 finished:Bool
 given:Bool
 code:Int
 read:Int
 state:Int
 af:Int
structure mg(o:da)(i:aL)(e:End):Prop where
 wrote:e.wrote=o.data
 fin:e.finished=o.finished
 gv:e.given=o.given
 code:e.given=ρ->e.code=o.code
 read:e.read=i.read
 state:e.state=i.state
 af:0<=e.af/\e.af=o.af.eR
def cN.sf{b:an}(D:cN X b)(ho:∀k,k<4->OI (X.outs k)){o:da}(h:lQ (X.outs k) o)(i:OI o)(l:o.af=(X.outs k).af):cN {X with outs:=ah X.outs k o} b:=by
 have c:∀j,j<4->lQ (X.outs j) (ah X.outs k o j):=λj _=>by
  by_cases e:j=k;subst e;rw[aR];exact h;rw[aX _ _ e];exact lQ.rfl' _
 have n:∀j,j<4->OI (ah X.outs k o j):=λj a=>by
  by_cases e:j=k;subst e;rw[aR];exact i;rw[aX _ _ e];exact ho j a
 refine⟨D.key,D.me,D.ag,D.sn,D.aK,λx d f g=>⟨(D.fr x d f g).1.le c ho,(D.fr x d f g).2⟩,D.ak,λj a=>(D.aF j a).le (c j a) (n j a),D.ev,D.tk,λj a m q=>?_,D.tf⟩
 have q:Sm (ah X.outs k o j).af.sp m:=q;by_cases e:j=k;subst e;rw[aR,l]at q;exact D.cm j a m q;rw[aX _ _ e]at q;exact D.cm j a m q
def cN.oh{b:an}(D:cN X b){i:aL}(l:jd (X.outs k) i)(n:∀m,jI (b.ins k) m->jI i m)(p:(b.ins k).ended=ρ->i.ended=ρ)(r:(b.ins k).given=ρ->i.given=ρ):cN X {b with ins:=ah b.ins k i}:=by
 have h:∀j m,jI (b.ins j) m->jI (ah b.ins k i j) m:=λj m q=>by
  by_cases e:j=k;subst e;rw[aR];exact n m q;rw[aX _ _ e];exact q
 refine⟨D.key,D.me,D.ag,D.sn,D.aK,D.fr,D.ak,λj a=>?_,D.ev,λx c d f g j a m q=>h j m (D.tk x c d f g j a m q),λj a m q=>h j m (D.cm j a m q),λx c d f g=>(D.tf x c d f g).mono (tV.ah p r)⟩
 show jd (X.outs j) (ah b.ins k i j);by_cases e:j=k;subst e;rw[aR];exact l;rw[aX _ _ e];exact D.aF j a
def Rt{a b:ByteArray}(h:m<a.size):(aI (a++b)).getD m 0=(aI a).getD m 0:=by
 rw[AG];simp only[List.getD,List.getElem?_append]
 rw[aG (by rw[fN];exact h)]
def tX(a b:ByteArray):(a++b).size=a.size+b.size:=ByteArray.size_append
def FG{b:an}(a:oW X n)(D:cN X b)(E:cN b X)(f:k<4)(d:ByteArray):
 cN (X.write k d).2.2 b/\cN b (X.write k d).2.2/\(X.write k d).2.2.av=X.av/\(X.write k d).2.2.next=X.next/\
 ((((X.outs k).finished||(X.outs k).given)=ρ/\(X.write k d).1=0/\(X.write k d).2.1=3/\(X.write k d).2.2=X)\/
  (((X.outs k).finished||(X.outs k).given)=θ/\(X.write k d).2.1=0/\0<=(X.write k d).1/\(X.write k d).1<=d.size/\(X.outs k).data.size+(X.write k d).1-(X.outs k).af.eR<=X.ag/\(X.write k d).2.2={X with outs:=ah X.outs k {X.outs k with data:=(X.outs k).data++d.extract 0 (X.write k d).1.toNat}})):=by
 have i:X.of (k:Int)=0:=by unfold an.of;rw[aB (by rw[a.cl];decide),iN_]
 have j:((k:Int)).toNat=k:=by omega
 unfold an.write;rw[i,j,aB (by decide)];by_cases e:((X.outs k).finished||(X.outs k).given)=ρ;rw[aG e];exact⟨D,E,rfl,rfl,φ ⟨e,rfl,rfl,rfl⟩⟩
 rw[aB e];have g:((X.outs k).finished||(X.outs k).given)=θ:=by simpa using e
 have c:=g;rw[oD]at c;have l:=a.fr k f;have t:=l.2 c.2;have u:=(a.out k f).sz;have h:0<=X.fT k d.size/\X.fT k d.size<=d.size/\X.fT k d.size<=X.ag-((X.outs k).data.size-(X.outs k).af.eR)/\X.fT k d.size<=4096-(X.outs k).data.size:=by unfold an.fT;omega
 have p:(d.extract 0 (X.fT k d.size).toNat).size=(X.fT k d.size).toNat:=by rw[sI];omega
 refine⟨D.sf a.out ?_ ?_ rfl,E.same rfl rfl rfl rfl rfl,rfl,rfl,ψ ⟨g,rfl,h.1,h.2.1,by omega,rfl⟩⟩
 refine⟨by rw[tX];omega,λm r=>Rt r,λq=>?_,λq=>?_,cE _⟩
 rw[c.1]at q;cases q;rw[c.2]at q;cases q;have s:=(a.out k f).hs;refine⟨⟨s.1,?_⟩,λq=>?_,?_⟩
 show(X.outs k).high<=(((X.outs k).data++d.extract 0 (X.fT k d.size).toNat).size:Nat);rw[tX];push_cast;omega;have q:(X.outs k).given=ρ:=q;rw[c.2]at q;cases q;show((X.outs k).data++d.extract 0 (X.fT k d.size).toNat).size<=4096;rw[tX,p];omega
def Ru{b:an}(c:oW X n)(D:cN X b)(E:cN b X)(e:k<4):
 cN (X.finish k).2 b/\cN b (X.finish k).2/\(X.finish k).2.av=X.av/\(X.finish k).2.next=X.next/\
 ((((X.outs k).finished||(X.outs k).given)=ρ/\(X.finish k).1=3/\(X.finish k).2=X)\/
  (((X.outs k).finished||(X.outs k).given)=θ/\(X.finish k).1=0/\(X.finish k).2={X with outs:=ah X.outs k {X.outs k with finished:=ρ}})):=by
 have f:X.of (k:Int)=0:=by unfold an.of;rw[aB (by rw[c.cl];decide),iN_]
 have g:((k:Int)).toNat=k:=by omega
 unfold an.finish;rw[f,g,aB (by decide)];by_cases a:((X.outs k).finished||(X.outs k).given)=ρ;rw[aG a];exact⟨D,E,rfl,rfl,φ ⟨a,rfl,rfl⟩⟩
 rw[aB a];have d:=c.out k e;refine⟨D.sf c.out ⟨aP _,λ_ _=>rfl,λ_=>⟨rfl,rfl⟩,λh=>⟨h,rfl,rfl⟩,cE _⟩ ⟨d.hs,d.gv,d.sz⟩ rfl,E.same rfl rfl rfl rfl rfl,rfl,rfl,ψ ⟨by simpa using a,rfl,rfl⟩⟩
def Rv{b:an}(c:oW X n)(D:cN X b)(E:cN b X)(e:k<4)(i:p<=4611686018427387903):
 cN (X.giveUp k p).2 b/\cN b (X.giveUp k p).2/\(X.giveUp k p).2.av=X.av/\(X.giveUp k p).2.next=X.next/\
 (((X.outs k).given=ρ/\(X.giveUp k p).1=3/\(X.giveUp k p).2=X)\/
  ((X.outs k).given=θ/\(X.giveUp k p).1=0/\(X.giveUp k p).2={X with outs:=ah X.outs k {X.outs k with given:=ρ,code:=p,end_:=(X.outs k).high}})):=by
 have f:X.of (k:Int)=0:=by unfold an.of;rw[aB (by rw[c.cl];decide),iN_]
 have g:((k:Int)).toNat=k:=by omega
 unfold an.giveUp;rw[f,g,aB (by decide)];by_cases a:(X.outs k).given=ρ;rw[aG (φ a)];exact⟨D,E,rfl,rfl,φ ⟨a,rfl,rfl⟩⟩
 rw[aB (λq=>q.elim a (λq=>by omega))];have d:=c.out k e;refine⟨D.sf c.out ⟨aP _,λ_ _=>rfl,λh=>⟨h,rfl⟩,λh=>absurd h a,cE _⟩ ⟨d.hs,λ_=>rfl,d.sz⟩ rfl,E.same rfl rfl rfl rfl rfl,rfl,rfl,ψ ⟨by simpa using a,rfl,rfl⟩⟩
def AP(i:aL)(aH:Int):(i.ended=ρ->(i.cR aH).ended=ρ)/\(i.given=ρ->(i.cR aH).given=ρ):=by
 have e1:i.start.ended=i.ended/\i.start.given=i.given:=by unfold aL.start;split<;>exact⟨rfl,rfl⟩
 have e2:∀j:aL,j.stop.ended=j.ended/\j.stop.given=j.given:=λj=>by unfold aL.stop;split<;>exact⟨rfl,rfl⟩
 unfold aL.cR;rw[(e2 _).1,(e2 _).2];exact⟨λq=>e1.1.trans q,λq=>e1.2.trans q⟩
def Rw{b:an}(h:oW X n)(e:oW b i)(D:cN X b)(E:cN b X)(c:k<4)(j:0<=p):
 ∃a,a=(b.read k p).2.2.2.2/\cN X a/\cN a X/\a.av=b.av/\a.next=b.next/\a.outs=b.outs/\(b.read k p).2.2.2.1=0/\
 ((b.read k p).1.length:Int)<=p/\(b.ins k).read+(b.read k p).1.length<=(X.outs k).data.size/\(b.read k p).1=((aI (X.outs k).data).drop (b.ins k).read.toNat).take (b.read k p).1.length/\
 ((b.ins k).state≠0->(b.read k p).1=[]/\(b.read k p).2.1=(b.ins k).state)/\
 a.ins=ah b.ins k ((b.ins k).cR p)/\(a.ins k).read=(b.ins k).read+(b.read k p).1.length/\(a.ins k).state=(b.read k p).2.1/\
 (((b.read k p).2.1=0/\(b.read k p).2.2.1=0)\/((b.read k p).2.1=1/\(X.outs k).finished=ρ/\(a.ins k).read=(X.outs k).data.size/\(b.read k p).2.2.1=0)\/((b.read k p).2.1=2/\(X.outs k).given=ρ/\(b.read k p).2.2.1=(X.outs k).code)):=by
 have l:b.of (k:Int)=0:=by unfold an.of;rw[aB (by rw[e.cl];decide),iN_]
 have m:((k:Int)).toNat=k:=by omega
 unfold an.read;rw[l,m,aB (by decide)];obtain⟨t1,t2,t3,t4,t5⟩:=(D.aF k c).text (h.out k c) (e.fU k c) p j;obtain⟨d,r⟩:=(D.aF k c).cR (e.fU k c) p;refine⟨_,rfl,D.oh d r (AP _ _).1 (AP _ _).2,⟨E.key,E.me,E.ag,E.sn,E.aK,E.fr,E.ak,E.aF,E.ev,E.tk,E.cm,E.tf⟩,rfl,rfl,rfl,rfl,t1,t2,t3,t5,rfl,?_,?_,?_⟩
 simp only[aR];exact t4;simp only[aR]
 simp only[aR]
 unfold aL.jB;obtain q|q|q:=d.s0
 left;exact⟨q,by rw[iN_]⟩
 right;left;obtain⟨f,g⟩:=d.s1 q;exact⟨q,f,g,by rw[iN_]⟩
 right;right;obtain⟨f,g,s,t⟩:=d.gv (d.s2 q);exact⟨q,f,by rw[aG q];exact s⟩
def FH{b:an}(d:oW X n)(c:oW b i)(D:cN X b)(a:k<4)(e:(X.outs k).given=θ):(X.outs k).af.eR<=(b.ins k).read+X.ag:=by
 obtain⟨j,f,l⟩:=sx (d.ck k a);have g:=c.rd k a;have m:=(c.fU k a).rd;rw[D.ag]at g;by_cases hp:(X.outs k).af.eR=0;have:=(c.fU k a).rd;have p:0<=X.ag:=by
  have:=d.fr k a;have:=this.2 e;omega
 omega;obtain q|⟨r,h⟩:=D.cm k a _ (f ((X.outs k).af.eR-1) (by omega) (by omega))
 have:=((D.aF k a).gv q).1;rw[e]at this;cases this;have:=Re (c.fU k a) h;omega
structure Nw where
 aj:Int
 ag:Int
 key:List Int
 xb:Nat->Nat
 sb:Nat->Nat
 st:Nat->aE
 A:Nat->Nat->Prop
 xr:Nat
 xc:Nat
 er:Nat
 ec:Nat
 el:Nat->Nat
 lc:Nat->Nat
 eb:Nat->Nat->Nat
 e:Nat->Nat->End
 cr:Nat
 cc:Nat
 ba:Nat->Int
 aN:List (Int×ByteArray)
 vb:υ
def pN(e:End):Array υ:= #[ς e.wrote,β e.finished,β e.given,ι η e.code,ι δ e.read,ι δ e.state,ι δ e.af]
def je(x:Int×ByteArray):List υ:=[ι δ x.1,ς x.2]
def Nw.cells(V:Nw):Array υ:=(([σ (μ ⟨V.xr,0,ν⟩) 2 V.xc,σ (μ ⟨V.er,0,ν⟩) 2 V.ec,ι δ V.aj,ι δ V.ag]:List υ)++bv V.key++[V.vb,σ (μ ⟨V.cr,0,ν⟩) 2 V.cc]).toArray
def Nw.Own(V:Nw)(nb k:Nat):Prop:=k=nb\/k=V.xr\/k=V.er\/k=V.cr\/(∃i,i<2/\k=V.el i)\/(∃i j,i<2/\j<4/\k=V.eb i j)\/V.vb.ownBlock=μ k
structure bV(w:ω)(nb:Nat)(V:Nw):Prop where
 aV:w.heap[nb]?=μ (ο V.cells 80 (0,0))
 key:eP V.key
 cap:(2<=V.xc/\V.xc<=maxLen)/\(2<=V.ec/\V.ec<=maxLen)/\(2<=V.cc/\V.cc<=maxLen)/\∀i,i<2->4<=V.lc i/\V.lc i<=maxLen
 tx:Ty w V.xr 33
 x:∀i,i<2->κ w ⟨V.xr,i,ν⟩=μ (π (μ ⟨V.xb i,0,ν⟩))
 te:Ty w V.er 141
 er:∀i,i<2->κ w ⟨V.er,i,ν⟩=μ (σ (μ ⟨V.el i,0,ν⟩) 4 (V.lc i))
 tl:∀i,i<2->Ty w (V.el i) 140
 el:∀i,i<2->∀k,k<4->κ w ⟨V.el i,k,ν⟩=μ (π (μ ⟨V.eb i k,0,ν⟩))
 en:∀i,i<2->∀k,k<4->w.heap[V.eb i k]?=μ (ο (pN (V.e i k)) 143 (0,0))
 ed:∀i j k l,i<2->j<2->k<4->l<4->V.eb i k=V.eb j l->i=j/\k=l
 ba:∃cs,w.heap[V.cr]?=μ (ο cs 30 (0,0))/\∀i,i<2->cs[i]?=μ (ι η (V.ba i))
 aN:w.ownsRow 0 83 2 V.vb V.aN.length (V.aN.flatMap je)
 side:∀i,i<2->cI w (V.xb i) (V.sb i) (V.st i) (V.A i)
 apart:∀i j,i<2->j<2->i≠j->∀k,V.A i k->¬V.A j k
 own:∀k,V.Own nb k->k≠0/\∀i,i<2->¬V.A i k
def bV.vT{V:Nw}(h:bV w n V):Ty w V.cr 30:=by obtain⟨cs,a,-⟩:=h.ba;exact⟨_,_,a⟩
def bV.fV{V:Nw}(h:bV w n V)(k:Nat)(a:V.Own n k):k<w.heap.size:=by
 obtain rfl|rfl|rfl|rfl|⟨i,hi,rfl⟩|⟨i,j,hi,b,rfl⟩|e:=a
 exact(bg.1 h.aV).1;exact h.tx.lt;exact h.te.lt;exact h.vT.lt;exact(h.tl i hi).lt;exact(bg.1 (h.en i hi j b)).1;exact(jc h.aN k e).lt
def bV.ah{V:Nw}(h:bV w n V)(C:ay w W S)(m:∀k,k<w.heap.size->S k->∀i,i<2->¬V.A i k)(j:¬S V.xr)(l:¬S V.er)(hl:∀i,i<2->¬S (V.el i))
 (d:Nat->Nat->End) (f:Nat->Int) (c:List (Int×ByteArray)) (a:υ)
 (p:W.heap[n]?=μ (ο {V with e:=d,ba:=f,aN:=c,vb:=a}.cells 80 (0,0)))
 (r:∀i,i<2->∀k,k<4->W.heap[V.eb i k]?=μ (ο (pN (d i k)) 143 (0,0)))
 (s:∃cs,W.heap[V.cr]?=μ (ο cs 30 (0,0))/\∀i,i<2->cs[i]?=μ (ι η (f i)))
 (t:W.ownsRow 0 83 2 a c.length (c.flatMap je)) (u:a.ownBlock=V.vb.ownBlock\/∀k,a.ownBlock=μ k->w.heap.size<=k):bV W n {V with e:=d,ba:=f,aN:=c,vb:=a}:=by
 refine⟨p,h.key,h.cap,h.tx.aA C j,λi hi=>C.cell (h.x i hi) j,h.te.aA C l,λi hi=>C.cell (h.er i hi) l,λi hi=>(h.tl i hi).aA C (hl i hi),λi hi k b=>C.cell (h.el i hi k b) (hl i hi),r,h.ed,s,t,λi hi=>(h.side i hi).other C (λk b e g=>m k b e i hi g),h.apart,λk b=>?_⟩
 obtain e|e|e|e|e|e|e:=b
 exact h.own k (φ e);exact h.own k (ψ (φ e));exact h.own k (ψ (ψ (φ e)));exact h.own k (ψ (ψ (ψ (φ e))));exact h.own k (ψ (ψ (ψ (ψ (φ e)))));exact h.own k (ψ (ψ (ψ (ψ (ψ (φ e))))));have e:a.ownBlock=μ k:=e;obtain q|q:=u
 exact h.own k (ψ (ψ (ψ (ψ (ψ (ψ (q▸e)))))));have q:=q k e;refine⟨by have:=h.fV n (φ rfl);omega,λi hi g=>?_⟩
 have:=(h.side i hi).lt k g;omega
def bV.other{V:Nw}(h:bV w n V)(C:ay w W S)(b:∀k,k<w.heap.size->S k->¬V.Own n k/\∀i,i<2->¬V.A i k):bV W n V:=by
 have ho:∀k,V.Own n k->¬S k:=λk a e=>(b k (h.fV k a) e).1 a
 refine h.ah C (λk a e=>(b k a e).2) (ho _ (ψ (φ rfl))) (ho _ (ψ (ψ (φ rfl)))) (λi hi=>ho _ (ψ (ψ (ψ (ψ (φ ⟨i,hi,rfl⟩)))))) V.e V.ba V.aN V.vb ?_ (λi hi k a=>?_) ?_ ?_ (φ rfl);exact(C.block n (h.fV n (φ rfl)) (ho n (φ rfl))).trans h.aV;have q:V.Own n (V.eb i k):=ψ (ψ (ψ (ψ (ψ (φ ⟨i,k,hi,a,rfl⟩)))));exact(C.block _ (h.fV _ q) (ho _ q)).trans (h.en i hi k a);have q:V.Own n V.cr:=ψ (ψ (ψ (φ rfl)));obtain⟨cs,c,d⟩:=h.ba;exact⟨cs,(C.block _ (h.fV _ q) (ho _ q)).trans c,d⟩
 exact lg h.aN C (λk e=>ho k (ψ (ψ (ψ (ψ (ψ (ψ e)))))))
def bV.au{V:Nw}(h:bV w n V)(g:γ w W ν):bV W n V:=h.other (ay.of g) (λk _ e=>by cases e)
def bV.jH{V:Nw}(h:bV w n V)(hi:i<2){g:aE}(C:ay w W (V.A i))(p:cI W (V.xb i) (V.sb i) g S)(m:∀k,S k->V.A i k\/w.heap.size<=k):bV W n {V with st:=Go.Proofs.YtjnmokmchdfchaaGreatDoor.ah V.st i g,A:=Go.Proofs.YtjnmokmchdfchaaGreatDoor.ah V.A i S}:=by
 have ho:∀k,V.Own n k->¬V.A i k:=λk b=>(h.own k b).2 i hi
 have a:∀j,j<2->j≠i->∀k,V.A j k->¬S k:=λj a d k b e=>by
  obtain e|e:=m k e
  exact h.apart j i a hi d k b e;have:=(h.side j a).lt k b;omega
 refine⟨(C.block n (h.fV n (φ rfl)) (ho n (φ rfl))).trans h.aV,h.key,h.cap,h.tx.aA C (ho _ (ψ (φ rfl))),λj a=>C.cell (h.x j a) (ho _ (ψ (φ rfl))),h.te.aA C (ho _ (ψ (ψ (φ rfl)))),λj a=>C.cell (h.er j a) (ho _ (ψ (ψ (φ rfl)))),λj a=>(h.tl j a).aA C (ho _ (ψ (ψ (ψ (ψ (φ ⟨j,a,rfl⟩)))))),λj a k b=>C.cell (h.el j a k b) (ho _ (ψ (ψ (ψ (ψ (φ ⟨j,a,rfl⟩)))))),λj a k b=>?_,h.ed,?_,lg h.aN C (λk e=>ho k (ψ (ψ (ψ (ψ (ψ (ψ e))))))),λj c=>?_,λj l c hl d k b=>?_,λk b=>⟨(h.own k b).1,λj c=>?_⟩⟩
 have q:V.Own n (V.eb j k):=ψ (ψ (ψ (ψ (ψ (φ ⟨j,k,a,b,rfl⟩)))));exact(C.block _ (h.fV _ q) (ho _ q)).trans (h.en j a k b);have q:V.Own n V.cr:=ψ (ψ (ψ (φ rfl)));obtain⟨cs,r,s⟩:=h.ba;exact⟨cs,(C.block _ (h.fV _ q) (ho _ q)).trans r,s⟩
 show cI W (V.xb j) (V.sb j) (Go.Proofs.YtjnmokmchdfchaaGreatDoor.ah V.st i g j) (Go.Proofs.YtjnmokmchdfchaaGreatDoor.ah V.A i S j);by_cases e:j=i;subst e;rw[aR,aR];exact p;rw[aX _ _ e,aX _ _ e];exact(h.side j c).other C (λk _ e2 t=>h.apart j i c hi e k t e2);have f:Go.Proofs.YtjnmokmchdfchaaGreatDoor.ah V.A i S j k:=b;show¬Go.Proofs.YtjnmokmchdfchaaGreatDoor.ah V.A i S l k;by_cases e:j=i;subst e;rw[aR]at f;rw[aX _ _ (λq=>d q.symm)];exact λq=>a l hl (λq=>d q.symm) k q f
 rw[aX _ _ e]at f;by_cases e2:l=i;subst e2;rw[aR];exact a j c e k f;rw[aX _ _ e2];exact h.apart j l c hl d k f;show¬Go.Proofs.YtjnmokmchdfchaaGreatDoor.ah V.A i S j k;by_cases e:j=i;subst e;rw[aR];intro q;obtain q|q:=m k q
 exact ho k b q;have:=h.fV k b;omega;rw[aX _ _ e];exact(h.own k b).2 j c
def RQ(V:Nw)(a:eP V.key):V.cells[0]?=μ (σ (μ ⟨V.xr,0,ν⟩) 2 V.xc)/\V.cells[1]?=μ (σ (μ ⟨V.er,0,ν⟩) 2 V.ec)/\V.cells[2]?=μ (ι δ V.aj)/\V.cells[3]?=μ (ι δ V.ag)/\V.cells[20]?=μ V.vb/\V.cells[21]?=μ (σ (μ ⟨V.cr,0,ν⟩) 2 V.cc)/\V.cells.size=22:=by
 have hl:(bv V.key).length=16:=by rw[fX];exact a.1
 unfold Nw.cells;simp[List.getElem?_append,hl]
def bV.c{V:Nw}(h:bV w n V):(κ w ⟨n,0,ν⟩=μ (σ (μ ⟨V.xr,0,ν⟩) 2 V.xc)/\κ w ⟨n,1,ν⟩=μ (σ (μ ⟨V.er,0,ν⟩) 2 V.ec)/\κ w ⟨n,2,ν⟩=μ (ι δ V.aj)/\κ w ⟨n,3,ν⟩=μ (ι δ V.ag)/\κ w ⟨n,20,ν⟩=μ V.vb/\κ w ⟨n,21,ν⟩=μ (σ (μ ⟨V.cr,0,ν⟩) 2 V.cc))/\∀o,χ w ⟨n,o,ν⟩=θ:=by
 obtain⟨a,b,d,e,f,a5,-⟩:=RQ V h.key;refine⟨⟨?_,?_,?_,?_,?_,?_⟩,λo=>by simp[World.frozen?,h.aV]⟩<;>rw[aZ h.aV]<;>assumption
def bV.ce{V:Nw}(h:bV w n V)(hi:i<2)(a:k<4):(κ w ⟨V.eb i k,0,ν⟩=μ (ς (V.e i k).wrote)/\κ w ⟨V.eb i k,1,ν⟩=μ (β (V.e i k).finished)/\κ w ⟨V.eb i k,2,ν⟩=μ (β (V.e i k).given)/\κ w ⟨V.eb i k,3,ν⟩=μ (ι η (V.e i k).code)/\κ w ⟨V.eb i k,4,ν⟩=μ (ι δ (V.e i k).read)/\κ w ⟨V.eb i k,5,ν⟩=μ (ι δ (V.e i k).state)/\κ w ⟨V.eb i k,6,ν⟩=μ (ι δ (V.e i k).af))/\∀o,χ w ⟨V.eb i k,o,ν⟩=θ:=by
 have b:=h.en i hi k a;simp[World.cell?,World.frozen?,b,pN]
def dZ{α:Type}(f:Nat->Nat->α)(i k:Nat)(x:α):Nat->Nat->α:=λj l=>if j=i/\l=k then x else f j l
def bV.FL{V:Nw}(h:bV w n V)(hi:i<2)(a:k<4):V.eb i k≠n/\V.eb i k≠V.xr/\V.eb i k≠V.er/\V.eb i k≠V.cr/\(∀j,j<2->V.eb i k≠V.el j)/\V.vb.ownBlock≠μ (V.eb i k):=by
 have t:Ty w (V.eb i k) 143:=⟨_,_,h.en i hi k a⟩
 exact⟨t.ne ⟨_,_,h.aV⟩ (by decide),t.ne h.tx (by decide),t.ne h.te (by decide),t.ne h.vT (by decide),λj b=>t.ne (h.tl j b) (by decide),λe=>t.ne (jc h.aN _ e) (by decide) rfl⟩
def bV.Ai{V:Nw}(h:bV w n V)(hi:i<2)(c:k<4){x:End}(C:ay w W (λb=>b=V.eb i k))(d:W.heap[V.eb i k]?=μ (ο (pN x) 143 (0,0))):bV W n {V with e:=dZ V.e i k x}:=by
 obtain⟨f,n2,g,n4,n5,m⟩:=h.FL hi c;refine h.ah C (λb _ e j a=>?_) (λe=>n2 e.symm) (λe=>g e.symm) (λj a e=>n5 j a e.symm) (dZ V.e i k x) V.ba V.aN V.vb ?_ (λj a l hl=>?_) ?_ ?_ (φ rfl);subst e;exact(h.own _ (ψ (ψ (ψ (ψ (ψ (φ ⟨i,k,hi,c,rfl⟩))))))).2 j a;exact(C.block n (h.fV n (φ rfl)) (λe=>f e.symm)).trans h.aV;unfold dZ;by_cases e:j=i/\l=k;rw[aG e,e.1,e.2];exact d;rw[aB e];have q:V.Own n (V.eb j l):=ψ (ψ (ψ (ψ (ψ (φ ⟨j,l,a,hl,rfl⟩)))));exact(C.block _ (h.fV _ q) (λe2=>e (h.ed j i l k a hi hl c e2))).trans (h.en j a l hl);obtain⟨cs,p,r⟩:=h.ba;exact⟨cs,(C.block _ (h.fV _ (ψ (ψ (ψ (φ rfl))))) (λe=>n4 e.symm)).trans p,r⟩
 exact lg h.aN C (λb e e2=>m (e2▸e))
def Nw.jY(V:Nw)(nb k:Nat):Prop:=V.Own nb k\/∃i,i<2/\V.A i k
structure bS(w:ω)(nb:Nat)(V b:Nw)(a:ω):Prop where
 at_:bV a nb b
 aA:ay w a (V.jY nb)
 all:∀k,b.jY nb k->V.jY nb k\/w.heap.size<=k
 laid:Laid a
def bV.yL{V:Nw}(h:bV w n V)(k:Nat)(a:V.jY n k):k<w.heap.size:=by
 obtain e|⟨i,hi,e⟩:=a
 exact h.fV k e;exact(h.side i hi).lt k e
def bS.refl{V:Nw}(h:bV w n V)(g:γ w W ν)(a:Laid w):bS w n V V W:=⟨h.au g,(ay.of g).mono (λk _ e=>by cases e),λk b=>φ b,a.gb g⟩
def bS.trans{V a b:Nw}(h:bS w n V a W)(g:bS W n a b v):bS w n V b v:=by
 refine⟨g.at_,(h.aA.trans g.aA).mono (λk c e=>e.elim id (λe=>(h.all k e).elim id (λq=>by omega))),λk c=>?_,g.laid⟩
 obtain q|q:=g.all k c
 exact h.all k q;have:=h.aA.size;exact ψ (by omega)
def bS.gb{V a:Nw}(h:bS w n V a W)(g:γ W v ν):bS w n V a v:=h.trans (bS.refl h.at_ g h.laid)
def bS.pre{V a:Nw}(b:bV w n V)(c:Laid w)(g:γ w W ν)(h:bS W n V a v):bS w n V a v:=(bS.refl b g c).trans h
def bV.FM{V:Nw}(h:bV w n V)(d:Laid w)(hi:i<2){a:aE}(C:ay w W (V.A i))(f:cI W (V.xb i) (V.sb i) a S)(b:∀k,S k->V.A i k\/w.heap.size<=k):bS w n V {V with st:=Go.Proofs.YtjnmokmchdfchaaGreatDoor.ah V.st i a,A:=Go.Proofs.YtjnmokmchdfchaaGreatDoor.ah V.A i S} W:=by
 refine⟨h.jH hi C f b,C.mono (λk _ e=>ψ ⟨i,hi,e⟩),λk g=>?_,d.aA C (h.side i hi).n0⟩
 obtain e|⟨j,c,e⟩:=g
 exact φ (φ e);have e:Go.Proofs.YtjnmokmchdfchaaGreatDoor.ah V.A i S j k:=e;by_cases q:j=i;subst q;rw[aR]at e;exact(b k e).imp (λe=>ψ ⟨j,c,e⟩) id;rw[aX _ _ q]at e;exact φ (ψ ⟨j,c,e⟩)
def bV.vU{V:Nw}(h:bV w n V)(d:Laid w)(hi:i<2)(c:k<4){x:End}(C:ay w W (λb=>b=V.eb i k))(a:W.heap[V.eb i k]?=μ (ο (pN x) 143 (0,0))):bS w n V {V with e:=dZ V.e i k x} W:=by
 have q:V.Own n (V.eb i k):=ψ (ψ (ψ (ψ (ψ (φ ⟨i,k,hi,c,rfl⟩)))));exact⟨h.Ai hi c C a,C.mono (λb _ e=>φ (e▸q)),λb a=>φ a,d.aA C (λe=>(h.own _ q).1 e.symm)⟩
variable{D:Nw}
def gT(e:Nat->Nat->End)(i:Nat)(p:Nat->Int)(j:Nat):Nat->Nat->End:=λa k=>if a=i/\k<j then{e a k with af:=p k}else e a k
def FO(e:Nat->Nat->End)(i:Nat)(p:Nat->Int)(j:Nat):gT e i p j i j=e i j:=by unfold gT;rw[iN_]
def RR(e:Nat->Nat->End)(i:Nat)(p:Nat->Int)(j:Nat):dZ (gT e i p j) i j {e i j with af:=p j}=gT e i p (j+1):=by
 funext a k;unfold dZ gT;by_cases b:a=i;subst b;by_cases c:k=j;subst c;rw[aG ⟨rfl,rfl⟩,aG ⟨rfl,by omega⟩];rw[aB (λq=>c q.2)];by_cases d:k<j;rw[aG ⟨rfl,d⟩,aG ⟨rfl,by omega⟩];rw[aB (λq=>d q.2),iN_];rw[aB (λq=>b q.1),aB (λq=>b q.1),aB (λq=>b q.1)]
def gV(V:Nw)(i:Nat)(p:Nat->Int)(j:Nat)(a:Nat->Prop):Nw:={V with A:=ah V.A i a,e:=gT V.e i p j}
structure rC(V:Nw)(i k:Nat)(p:Int):Prop where
 lo:(V.e i k).af<=p
 hi:p<=(V.e i k).wrote.size
 wn:(V.e i k).given=θ->(V.e i k).state=0->p<=(V.e i k).read+V.ag
 rd:0<=(V.e i k).read/\(V.e i k).read<=1000000000
def oY(w:ω)(b o:Nat)(v:υ):ay w (ζ w ⟨b,o,ν⟩ v) (λk=>k=b):=(ay.of (aM (aD w (μ b)) ⟨b,o,ν⟩ v (ψ rfl))).mono (λk _ e=>(aQ e).symm)
def bS.RS{wr:ω}{a:Nw}(T:bS w n D a wr)(hi:i<2)(b:cI W (a.xb i) (a.sb i) (a.st i) S)(c:∀k,S k->a.A i k\/wr.heap.size<=k)(C:ay wr W (a.A i)):bS w n D {a with A:=ah a.A i S} W:=by
 have:=T.trans (T.at_.FM T.laid hi C b c);rw[m8]at this;exact this
def FP(w:ω)(nb:Nat)(V:Nw)(H:bV w nb V)(Q:Laid w)(i:Nat)(hi:i<2)(n:Nat)(ax:fh n (V.st i))(hn:n<=100000)(hw:0<=V.ag/\V.ag<=1000000000)(p:Nat->Int)(hp:∀k:Nat,k<4->(V.st i).af (k:Int)=(p k,0))(B:∀k,k<4->rC V i k (p k)):
 Calls prog 82 #[π (μ ⟨nb,0,ν⟩),ι δ i] w λe w'=>e=ξ (β ρ)/\∃g,bS w nb V (gV V i p 4 g) w':=by
 have i0:(0:Int)<=i:=by omega
 have i1:(i:Int)<2:=by omega
 have D:bS w nb V (gV V i p 0 (V.A i)) w:=by
  have e1:gV V i p 0 (V.A i)=V:=by
   have e2:gT V.e i p 0=V.e:=by funext a k;unfold gT;rw[iN_]
   unfold gV;rw[e2,m8]
  rw[e1];exact bS.refl H (aD _ _) Q
 replace⟨D,hp,B,H⟩:=fE D hp B H;clear Q;go_enter func82,ntmps82;go_wp2;go_loopw [5] (λE wr=>∃(j:Nat)(g:Nat->Prop),j<=4/\E=ι δ j/\bS w nb V (gV V i p j g) wr) (λE _=>4-(intOf E).toNat);case atStart=>exact⟨0,V.A i,by omega,rfl,Z D⟩
 case round=>
  obtain⟨j,g,hj,rfl,T⟩:=hrel;by_cases r:j<4
  ·have d1:decide ((j:Int)<4)=ρ:=dT_;have j0:(0:Int)<=j:=by omega
   have j1:(j:Int)<4:=by omega
   have l:=T.at_;obtain⟨⟨c0,c1,-,-,-,-⟩,-⟩:=l.c;have R:=l.x i hi;have ce:=l.er i hi;have cl:=l.el i hi j r;have S:aE.do (V.st i) ⟨9,(j:Int),0,0,⟨#[]⟩⟩=(⟨0,-1,p j,0,[],[]⟩,V.st i):=by
    unfold aE.do;simp[Z hp j r]
   have q:=FJ wr (V.xb i) (V.sb i) (V.st i) g n (by have:=l.side i hi;simpa only[gV,aR]using this) ax hn T.laid ⟨9,(j:Int),0,0,⟨#[]⟩⟩ (by simp[aW]) (jm _) ⟨by simp,⟨j0,j1⟩,λe=>by simp at e⟩;rw[S]at q;clear S;have hC:=Z B j r;have U:=J (λ(f:ω)(d:Nat->Prop)(v:cI f (V.xb i) (V.sb i) (V.st i) d)(y:∀k,d k->g k\/wr.heap.size<=k) (C:ay wr f g)=>(show bS w nb V (gV V i p j d) f by
    have:=T.RS hi (S:=d) v (by simpa only[gV,aR]using y) (by simpa only[gV,aR]using C);simpa only[gV,rV]using this))
   unfold dB vS mh at q;simp only[qu]at q;replace⟨q,T,l⟩:=cz q T l;simp only[gV]at c0 c1 R ce cl;go_upto_region 6 with(go_at_call 28;apply(Z q).mono;rintro e f⟨a,m,c,rfl,-,d,v,y,C,-⟩;have F:=Z U f d v y C;clear v y C)
   obtain⟨s,z⟩:=exq (f.alloc (ο #[ι δ 0,ι δ (-1),ι δ (p j),ι η 0,ς ⟨#[]⟩,σ a m c] 46));have g5:γ f s ν:=by rw[z];exact aJ _ _ _
   have G:s.heap[f.heap.size]?=μ (ο #[ι δ 0,ι δ (-1),ι δ (p j),ι η 0,ς ⟨#[]⟩,σ a m c] 46 (0,0)):=by rw[z];exact aO _ _
   rw[<-z];clear z;have h:=F.gb g5;obtain⟨y0,y2⟩:κ s ⟨f.heap.size,0,ν⟩=μ (ι δ 0)/\κ s ⟨f.heap.size,2,ν⟩=μ (ι δ (p j)):=by simp[World.cell?,G]
   obtain⟨⟨-,-,-,f3,-,-⟩,-⟩:=h.at_.c;obtain⟨⟨e0,-,e2,-,I,K,L⟩,ef⟩:=h.at_.ce hi r;simp only[gV,FO]at f3 e0 e2 I K L ef;have t:=J (λ(M:ω)(C:ay s M (λb=>b=V.eb i j)) (hb:M.heap[V.eb i j]?=μ (ο (pN {V.e i j with af:=p j}) 143 (0,0)))=>(show bS w nb V (gV V i p (j+1) d) M by
    have:=h.trans (h.at_.vU h.laid hi r C hb);simpa only[gV,RR]using this))
   have u:=h.at_.en i hi j r;simp only[gV,FO]at u;replace⟨G,u,F,h⟩:=fE G u F h;obtain⟨W,X,N,Y⟩:=hC;obtain⟨⟨wrote,fin,gv,code,read,state,af⟩,hE⟩:∃x,x=V.e i j:=⟨_,rfl⟩
   rw[<-hE]at e0 e2 I K L t u W X N Y;simp only at e0 e2 I K L t W X N Y;clear hE U q;have k1:decide (p j<af)=θ:=dF_;have k2:decide ((wrote.size:Int)<p j)=θ:=dF_;have k3:IntKind.i64.wrap (read+V.ag)=read+V.ag:=wI_;clear c0 c1 R ce cl;have O:=J (heap_set (o:=6) (Z u) (ι δ (p j)));have P:=J (oY s (V.eb i j) 6 (ι δ (p j)));cases gv
   ·by_cases hs:state=0
    ·have k4:decide (read+V.ag<p j)=θ:=fc (by have:=N rfl hs;omega);subst hs;go_region;go_upto_region 8 with fail;go_region;go_wp2;exact⟨⟨j+1,d,by omega,rfl,(Z t _ (Z P) (Z O)).gb (aY (aY (aD _ ν)))⟩,by simp[intOf];omega⟩
    have k5:(state==0)=θ:=by simpa using hs
    go_region;go_upto_region 8 with fail;go_region;go_wp2;exact⟨⟨j+1,d,by omega,rfl,(Z t _ (Z P) (Z O)).gb (aY (aY (aD _ ν)))⟩,by simp[intOf];omega⟩
   go_region;go_upto_region 8 with fail;go_region;go_wp2;exact⟨⟨j+1,d,by omega,rfl,(Z t _ (Z P) (Z O)).gb (aY (aY (aD _ ν)))⟩,by simp[intOf];omega⟩
  have d1:decide ((j:Int)<4)=θ:=dF_;have a9:j=4:=by omega
  subst a9;replace T:=J T;go_wp2;go_ret;exact⟨rfl,g,Z T⟩
def bV.rZ(h:bV w n D):w.rangeAt n 4 (bv D.key):=λj u a=>by
 have b:(bv D.key).length=16:=by rw[fX,h.key.1]
 have c:j<16:=by have:=(lA.1 a).1;omega
 rw[aZ h.aV];unfold Nw.cells;rw[ui,mm (by simp[b];omega),mU (by simp)];simpa using a
def mS(w wr:ω)(nb:Nat)(V b:Nw)(i:Nat)(r:Rs)(d:aE)(e:Ending)(f:ω):Prop:=
 ∃a m c g,e=ξ (ε (mh r (σ a m c)))/\gH f wr.heap.size (σ a m c) r.bB/\bS w nb V {b with st:=ah b.st i d,A:=ah b.A i g} f/\∀j,(Value.slice a m c).ownBlock=μ j->¬Nw.jY {b with st:=ah b.st i d,A:=ah b.A i g} nb j
def fh.op{st:aE}(h:fh n st):∃s,st=.ai s:=by
 cases st with
 |ai s=>exact⟨s,rfl⟩
 |shut _ _=>exact False.elim h
def oq{wr:ω}{b:Nw}(T:bS w k D b wr)(hi:i<2)(s:fh n (b.st i))(t:n<=100000)(q:gy)(u:aW q.code)(hd:q.data.size<=1000000){r:Rs}{d:aE}(f:(b.st i).do q=(r,d))(v:Aw q d):
 Calls prog 28 #[π (μ ⟨b.xb i,0,ν⟩),ε (dB q)] wr (mS w wr k D b i r d):=by
 have g:=FJ wr (b.xb i) (b.sb i) (b.st i) (b.A i) n (T.at_.side i hi) s t T.laid q u hd (by rw[f];exact v);rw[f]at g;apply g.mono;rintro e E⟨a,m,c,rfl,h,p,x,y,C,z⟩;refine⟨a,m,c,p,rfl,h,T.trans (T.at_.FM T.laid hi C x y),λj e B=>?_⟩
 have F:=(h.lt j e).1;obtain q|⟨l,hl,q⟩:=B
 have:=T.at_.fV j q;omega;have q:ah b.A i p l j:=q;by_cases el:l=i;subst el;rw[aR]at q;exact z j e q;rw[aX _ _ el]at q;have:=(T.at_.side l hl).lt j q;omega
def FQ(V:Nw)(i:Nat)(a:aE)(c b:Nat->Prop)(p:Nat->Int):gV {V with st:=ah V.st i a,A:=ah V.A i c} i p 4 b=gV {V with st:=ah V.st i a} i p 4 b:=by
 unfold gV;simp only[rV]
def FR(w:ω)(nb:Nat)(V:Nw)(H:bV w nb V)(B:Laid w)(i:Nat)(hi:i<2)(n:Nat)(O:fh n (V.st i))(G:n<=100000)(P:0<=V.ag/\V.ag<=1000000000)(b:ByteArray)(Q:b.size<=1000000)(r:Rs)(d:aE)(R:(V.st i).do ⟨6,0,0,0,b⟩=(r,d))(s:r.e=0\/r.e=6)(I:fh n d)(p:Nat->Int)(hp:∀k:Nat,k<4->d.af (k:Int)=(p k,0))(g:∀k,k<4->rC V i k (p k)):
 Calls prog 86 #[π (μ ⟨nb,0,ν⟩),ι δ i,ς b] w λe f=>e=ξ (β ρ)/\∃h,bS w nb V (gV {V with st:=ah V.st i d} i p 4 h) f:=by
 have i0:(0:Int)<=i:=by omega
 have i1:(i:Int)<2:=by omega
 have D:=bS.refl H (aD w ν) B;have j:=oq D hi O G ⟨6,0,0,0,b⟩ (by simp[aW]) Q R ⟨by simp,by simp,λ_=>I.op⟩;obtain⟨⟨c0,-,-,-,-,-⟩,-⟩:=H.c;have S:=H.x i hi;have K:=J (λ(W:ω)(l:Nat->Prop)(T:bS w nb V {V with st:=ah V.st i d,A:=ah V.A i l} W)=>(show Calls prog 82 #[π (μ ⟨nb,0,ν⟩),ι δ i] W (λe f=>e=ξ (β ρ)/\(∃h,bS w nb V (gV {V with st:=ah V.st i d} i p 4 h) f)/\ay W f (λk=>k<W.heap.size->Nw.jY {V with st:=ah V.st i d,A:=ah V.A i l} nb k)) by
  refine(FP W nb _ T.at_ T.laid i hi n (by simp only[aR];exact I) G P p (by simp only[aR];exact hp) (λk v=>⟨(g k v).lo,(g k v).hi,(g k v).wn,(g k v).rd⟩)).mono ?_;rintro e f⟨rfl,h,L⟩;exact⟨rfl,⟨h,by rw[<-FQ V i d l h p];exact T.trans L⟩,L.aA.mono (λk _ e _=>e)⟩))
 unfold dB mS mh at j;simp only at j;replace⟨j,H,D,B,g,hp⟩:=pH j H D B g hp;go_enter func86,ntmps86;go_upto_region 2 with(go_at_call 28;apply(Z j).mono;rintro e t⟨a,m,c,l,rfl,-,y,-⟩)
 obtain⟨q,u⟩:=exq (t.alloc (ο #[ι δ r.e,ι δ r.at_,ι δ r.n,ι η r.code,ς (strOfNums r.data),σ a m c] 46));have U:γ t q ν:=by rw[u];exact aJ _ _ _
 have X:t.heap.size<q.heap.size:=by rw[u,eh];omega
 have E:q.heap[t.heap.size]?=μ (ο #[ι δ r.e,ι δ r.at_,ι δ r.n,ι η r.code,ς (strOfNums r.data),σ a m c] 46 (0,0)):=by rw[u];exact aO _ _
 rw[<-u];clear u;have F:=y.gb U;have Y:=J (Z K q l F);have al:Hid (∀f,ay q f (λk=>k<q.heap.size->Nw.jY {V with st:=ah V.st i d,A:=ah V.A i l} nb k)->κ f ⟨t.heap.size,0,ν⟩=μ (ι δ r.e)):=J (λf C=>by
  refine C.cell (by simp[World.cell?,E]) (λe=>?_);have:=y.at_.yL _ (e X);simp only at this;omega)
 replace⟨E,y,F⟩:=cz E y F;clear j K c0 S;go_upto_region 3 with(go_at_call 82;apply(Z Y).mono;rintro e w6⟨rfl,z,M⟩;have N:=Z al w6 M;clear M;replace z:=J z)
 obtain s|s:=s
 ·rw[s]at N;go_wp2;go_ret;exact⟨rfl,Z z⟩
 rw[s]at N;go_wp2;go_ret;exact⟨rfl,Z z⟩
def AY(w:ω)(nb:Nat)(V:Nw)(H:bV w nb V)(q:Laid w)(i:Nat)(hi:i<2)(n:Nat)(v:fh n (V.st i))(B:n<=100000)(b:ByteArray)(C:b.size<=1000000)(s:¬eH V.key (aK (decide (i≠0))) (aI b)->(V.st i).do ⟨6,0,0,0,b⟩=(⟨4,-1,0,0,[],[]⟩,V.st i)):
 Calls prog 84 #[π (μ ⟨nb,0,ν⟩),ι δ i,ς b] w λe D=>e=ξ (β ρ)/\∃E,bS w nb V {V with A:=ah V.A i E} D:=by
 have N:(0:Int)<=i:=by omega
 have O:(i:Int)<2:=by omega
 obtain⟨f,t⟩:=exq (decide (i≠0));have P:((i:Int) !=0)=f:=by
  rw[t];have r:i=0\/i=1:=by omega
  obtain r|r:=r<;>subst r<;>decide
 rw[<-t]at s;clear t;have y:γ w (Lib.bytesWorld w 5 b) ν:=wT _ _;have Q:=pD b;have l:=FK (Lib.bytesWorld w 5 b) V.key f _ _ _ _ H.key (q.gb y) (yZ w b) (by rw[fN];omega);have j:=bS.refl H y q;have k:=λ(d:ω)(h:(Lib.bytesWorld w 5 b).grownBy d ν)(p:¬eH V.key (aK f) (aI b))=>oq (j.gb h) hi v B ⟨6,0,0,0,b⟩ (by simp[aW]) C (s p) ⟨by simp,by simp,λ_=>v.op⟩
 have F:=J (λ(d:ω)(h:(Lib.bytesWorld w 5 b).grownBy d ν)=>j.gb h);obtain⟨⟨c0,-,-,-,-,-⟩,-⟩:=H.c;have G:=J H.rZ;have I:Hid ((prog.info? 24).map (·.size)=μ (bv V.key).length):=J (by rw[fX,H.key.1];exact nJ);have K:Hid (∀W,(Lib.bytesWorld w 5 b).grownBy W ν->κ W ⟨nb,0,ν⟩=μ (σ (μ ⟨V.xr,0,ν⟩) 2 V.xc)/\κ W ⟨V.xr,i,ν⟩=μ (π (μ ⟨V.xb i,0,ν⟩))):=J (λW g=>⟨(j.gb g).at_.c.1.1,(j.gb g).at_.x i hi⟩);unfold dB mS mh at k;unfold cV yK at l;simp only[qu,m8]at k;replace⟨k,l,H,j,q⟩:=fF k l H j q;clear s;go_enter func84,ntmps84;go_upto_region 2 with(first|(refine wpList_load_mid (by rfl) 24 _ (by rfl) nb 4 (by rfl) (bv V.key) _ (Z G) underlying24 (by rfl) (Z I) ?_)|(go_at_call 61;apply(Z l).mono;rintro e d⟨⟨z,R,S,rfl,-,-⟩|⟨p,rfl⟩,h⟩))
 ·replace z:=J z;go_wp2;go_ret;exact⟨rfl,V.A i,by rw[m8];exact Z F d h⟩
 have L:=J (Z k d h p);obtain⟨T,U⟩:=Z K d h;replace p:=J p;clear c0 k l;go_upto_region 5 with(go_at_call 28;apply(Z L).mono;rintro e X⟨a,m,c,M,rfl,-,u,-⟩;replace u:=J u)
 go_wp2;go_ret;exact⟨rfl,M,(Z u).gb (aJ _ _ _)⟩
