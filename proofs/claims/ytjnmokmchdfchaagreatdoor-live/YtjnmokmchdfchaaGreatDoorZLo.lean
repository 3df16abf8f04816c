import Derived.Test.YtjnmokmchdfchaaGreatDoorZLn
set_option maxRecDepth 1000000
set_option maxHeartbeats 0
set_option linter.all false
namespace Go.Proofs.YtjnmokmchdfchaaGreatDoor
open Go.RowKit Tryz
open Go.Value renaming int→ι,slice→σ,bool→β,pointer→π,agg→ε,string→ς,tuple→τ
open Go.IntKind renaming i64→δ,u64→η,u8→Δ
open Go.Ending renaming returned→ξ
open Go.Obj renaming cells→ο
open Or renaming inl→φ,inr→ψ
open Option renaming some→μ,none→ν
open Bool renaming true→ρ,false→θ
open Go renaming World→ω,Value→υ
open Go.World renaming grownBy→γ,cell?→κ,frozen?→χ,setCell→ζ
attribute[local go_sem↓]Go.wp_at_zero Go.wp_at_succ
variable{p q r:Int}{L:List Int}{b i j k l n:Nat}{S:Nat->Prop}{F:Nat->an}{D:Nw}{G:Ot}{s:Sd}{W v w:ω}{X:an}
structure vV(o:End)(aH N code:Int)(data:List Int):Prop where
 rd:0<=o.read
 len:(data.length:Int)<=aH
 fit:o.read+data.length<=o.wrote.size
 nw:data=((aI o.wrote).drop o.read.toNat).take data.length
 st:o.state≠0->data=[]/\N=o.state
 cs:(N=0/\code=0)\/(N=1/\o.finished=ρ/\o.read+data.length=o.wrote.size/\code=0)\/(N=2/\o.given=ρ/\code=o.code)
def vV.str{o:End}(h:vV o p q r L):strOfNums L=o.wrote.extract o.read.toNat (o.read+L.length).toNat/\(o.wrote.extract o.read.toNat (o.read+L.length).toNat).size=L.length:=by
 have a:=h.rd;have b:=h.fit;have e:aI (o.wrote.extract o.read.toNat (o.read+L.length).toNat)=L:=by
  rw[FF,show(o.read+(L.length:Int)).toNat-o.read.toNat=L.length by omega];exact h.nw.symm
 refine⟨by rw[<-yH (o.wrote.extract o.read.toNat (o.read+L.length).toNat),e],?_⟩
 rw[sI];omega
def FW(w:ω)(nb:Nat)(V:Nw)(H:bV w nb V)(M:Laid w)(i b:Nat)(hi:i<2)(j:b<2)(ca:(1:Int)-i=b)(n:Nat)(a9:fh n (V.st i))(hn:n<=100000)(k:Nat)(t:k<4)(aH:Int)(ch:0<=aH/\aH<=1000000)(N code:Int)(data:List Int)(u:aE)
 (O:(V.st i).do ⟨7,(k:Int),aH,0,⟨#[]⟩⟩=(⟨0,-1,N,code,data,[]⟩,u)) (hR:vV (V.e b k) aH N code data) (bj:(V.e b k).wrote.size<=1000000):
 Calls prog 83 #[π (μ ⟨nb,0,ν⟩),ι δ i,ι δ k,ι δ aH] w λe w'=>e=ξ (β ρ)/\∃l,bS w nb V {V with st:=ah V.st i u,A:=ah V.A i l,e:=dZ V.e b k {V.e b k with read:=(V.e b k).read+data.length,state:=N}} w':=by
 have i0:(0:Int)<=i:=by omega
 have i1:(i:Int)<2:=by omega
 have j0:(0:Int)<=b:=by omega
 have j1:(b:Int)<2:=by omega
 have k0:(0:Int)<=k:=by omega
 have k1:(k:Int)<4:=by omega
 have P:=bS.refl H (aD w ν) M;have d:=oq P hi a9 hn ⟨7,(k:Int),aH,0,⟨#[]⟩⟩ (by simp[aW]) (jm _) O ⟨by simp,⟨by simp,by simp;omega⟩,λe=>by simp at e⟩;obtain⟨⟨c0,c1,-,-,-,-⟩,-⟩:=H.c;have cx:=H.x i hi;have ce:=H.er b j;have cl:=H.el b j k t;obtain⟨q,B⟩:=hR.str;obtain⟨h1,h2,h3,-,C,Q⟩:=hR;unfold dB mS mh at d;simp only at d;rw[q]at d;obtain⟨o,y⟩:=exq (V.e b k);rw[<-y]at q B h1 h3 C Q bj d⊢;have a2:=J (λ(W:ω)(h:Nat->Prop)(T:bS w nb V {V with st:=ah V.st i u,A:=ah V.A i h} W)=>(show(κ W ⟨V.eb b k,0,ν⟩=μ (ς o.wrote)/\κ W ⟨V.eb b k,1,ν⟩=μ (β o.finished)/\κ W ⟨V.eb b k,2,ν⟩=μ (β o.given)/\κ W ⟨V.eb b k,3,ν⟩=μ (ι η o.code)/\κ W ⟨V.eb b k,4,ν⟩=μ (ι δ o.read)/\κ W ⟨V.eb b k,5,ν⟩=μ (ι δ o.state))/\∀p,χ W ⟨V.eb b k,p,ν⟩=θ by
  obtain⟨⟨e0,e1,e2,R,S,U,-⟩,ef⟩:=T.at_.ce j t;simp only[<-y]at e0 e1 e2 R S U;exact⟨⟨e0,e1,e2,R,S,U⟩,ef⟩))
 have X:=J (λ(W:ω)(h:Nat->Prop)(T:bS w nb V {V with st:=ah V.st i u,A:=ah V.A i h} W)=>(show∃l,bS w nb V {V with st:=ah V.st i u,A:=ah V.A i l,e:=dZ V.e b k {o with read:=o.read+data.length,state:=N}} ((ζ W ⟨V.eb b k,4,ν⟩ (ι δ (o.read+data.length))).setCell ⟨V.eb b k,5,ν⟩ (ι δ N)) by
  have hb:=T.at_.en b j k t;simp only[<-y]at hb;have:=T.trans (T.at_.vU T.laid j t (x:={o with read:=o.read+data.length,state:=N}) (((oY W (V.eb b k) 4 (ι δ (o.read+data.length))).trans (oY _ (V.eb b k) 5 (ι δ N))).mono (λk _ e=>e.elim id id)) (heap_set (heap_set hb _) _));exact⟨h,this⟩))
 obtain⟨D,r⟩:=exq (o.wrote.extract o.read.toNat (o.read+data.length).toNat);rw[<-r]at q B d;obtain⟨m,Y⟩:=exq data.length;rw[<-Y]at B h2 h3 Q r X⊢;replace⟨d,H,P,M,q,y,r⟩:=iU d H P M q y r;obtain⟨wrote,fin,gv,cd,read,state,af⟩:=o;simp only at *;go_enter func83,ntmps83;go_upto_region 3 with(go_at_call 28;apply(Z d).mono;rintro e g⟨a,m1,m2,h,rfl,-,E,-⟩)
 obtain⟨f,F⟩:=exq (g.alloc (ο #[ι δ 0,ι δ (-1),ι δ N,ι η code,ς D,σ a m1 m2] 46));have g5:γ g f ν:=by rw[F];exact aJ _ _ _
 have b5:f.heap[g.heap.size]?=μ (ο #[ι δ 0,ι δ (-1),ι δ N,ι η code,ς D,σ a m1 m2] 46 (0,0)):=by rw[F];exact aO _ _
 rw[<-F];clear F;have G:=E.gb g5;obtain⟨y0,y2,y3,y4⟩:κ f ⟨g.heap.size,0,ν⟩=μ (ι δ 0)/\κ f ⟨g.heap.size,2,ν⟩=μ (ι δ N)/\κ f ⟨g.heap.size,3,ν⟩=μ (ι η code)/\κ f ⟨g.heap.size,4,ν⟩=μ (ς D):=by simp[World.cell?,b5]
 obtain⟨⟨e0,e1,e2,R,S,U⟩,ef⟩:=Z a2 f h G;have hf:=J (Z X f h G);have dg:g.heap.size≠V.eb b k:=λe=>by
  have:=E.at_.fV (V.eb b k) (ψ (ψ (ψ (ψ (ψ (φ ⟨b,k,j,t,rfl⟩))))));omega
 replace Y:=J Y;subst B;have b0:wrote.extract read.toNat (read+(D.size:Int)).toNat=D:=(Z r).symm;have d1:decide (aH<(D.size:Int))=θ:=dF_;have s1:IntKind.i64.wrap ((wrote.size:Int)-read)=wrote.size-read:=by simp[IntKind.wrap,IntKind.bits,IntKind.signed];omega
 have d2:decide ((wrote.size:Int)-read<D.size)=θ:=dF_;have s2:IntKind.i64.wrap (read+(D.size:Int))=read+D.size:=by simp[IntKind.wrap,IntKind.bits,IntKind.signed];omega
 have l1:read<=read+(D.size:Int):=by omega
 have l2:read+(D.size:Int)<=(wrote.size:Int):=by omega
 clear d X a2 r c0 c1 cx ce cl;replace⟨b5,E,G,O⟩:=fE b5 E G O;go_cut [101] (λv wx=>v=β θ/\∃nq,wx=f.drewN nq);case first=>
  by_cases s:state=0
  ·subst s;dsimp only[List.append]
   go_quiet (fail);go_wp2;go_meet;exact⟨rfl,_,rfl⟩
  obtain⟨b4,I⟩:=C s;have q1:(state !=0)=ρ:=by simpa using s
  have dn:(state==0)=θ:=by simpa using s
  have K:D=⟨#[]⟩:=by rw[<-Z q,b4];rfl
  have q3:(D.toList==(⟨#[]⟩:ByteArray).toList)=ρ:=by rw[K];simp
  have q4:D.toList=[]:=by rw[K,ByteArray.toList_eq]
  have q7:D.toList.isEmpty=ρ:=by rw[q4];rfl
  have q5:(N==state)=ρ:=by rw[I];simp
  have q6:(N !=state)=θ:=by rw[I];simp
  replace⟨K,I,s⟩:=cz K I s;dsimp only[List.append]
  go_quiet (fail);go_wp2;go_meet;exact⟨rfl,_,rfl⟩
 case rest=>
  obtain⟨rfl,nq,a8⟩:=hcut;rw[a8];clear a8 d1 d2 s1 l1 b0;replace C:=J C;obtain⟨z,L⟩|⟨z,b7,aC,L⟩|⟨z,b8,L⟩:=Q
  ·subst z L;go_upto_region 5 with fail;go_region;go_wp2;go_ret;exact⟨rfl,(Z hf).imp (λl T=>T.gb ⟨rfl,rfl,rfl,aP _,λ_ _ _=>rfl⟩)⟩
  ·subst z L b7;have q1:(read+(D.size:Int)==(wrote.size:Int))=ρ:=by simpa using aC
   replace aC:=J aC;go_upto_region 5 with fail;go_region;go_upto_region 11 with fail;go_region;go_wp2;go_ret;exact⟨rfl,(Z hf).imp (λl T=>T.gb ⟨rfl,rfl,rfl,aP _,λ_ _ _=>rfl⟩)⟩
  subst z b8;go_upto_region 5 with fail;go_region;go_upto_region 13 with fail;go_region;go_wp2;go_ret;exact⟨rfl,(Z hf).imp (λl T=>T.gb ⟨rfl,rfl,rfl,aP _,λ_ _ _=>rfl⟩)⟩
structure bl(V:Nw)(m:Nat->an)(n:Nat):Prop where
 aK:∀i,i<2->∃s,V.st i=.ai s/\dc s (m i) n/\bO s n
 dir:∀i j,i<2->j<2->i≠j->cN (m i) (m j)
 en:∀i j,i<2->j<2->i≠j->∀k,k<4->mg ((m i).outs k) ((m j).ins k) (V.e i k)
 aN:∀x∈V.aN,∃i j:Nat,i<2/\j<2/\i≠j/\x.1=(j:Int)/\∃y∈(m i).av,oX (m i) (aI x.2) y
 lb:V.aN.length<=100*n
 cfg:∀i,i<2->V.ba i=(m i).next/\(m i).aj=V.aj/\(m i).ag=V.ag/\(m i).key=V.key/\(m i).me=(i:Int)
 lu:64<=V.aj/\V.aj<=300/\16<=V.ag/\V.ag<=1024
 te:∀i j,i<2->j<2->i≠j->∃s,V.st i=.ai s/\mR s (m i) (m j)
def bl.dR(K:bl D F n)(hi:i<2):oW (F i) n:=by
 obtain⟨s,-,a,b⟩:=K.aK i hi;exact a.dR b
def bl.ok(K:bl D F n)(hi:i<2):fh n (D.st i):=by
 obtain⟨s,e,-,a⟩:=K.aK i hi;rw[e];exact a
structure R5(a b:an):Prop where
 sub:∀x∈a.av,x∈b.av
 key:b.key=a.key
 me:b.me=a.me
 aj:b.aj=a.aj
 ag:b.ag=a.ag
 ev:∀d,Sm a.bG.sp d->Sm b.bG.sp d
def bl.jH{V':Nw}(K:bl D F n)(hi:i<2)(r:j<2)(t:i≠j)(w:n<=l){u:aE}(z:V'.st=ah D.st i u)(C:∃s,u=.ai s/\dc s X l/\bO s l)(d1:cN X (F j))(d2:cN (F j) X)(g:R5 (F i) X)
 (e1:∀k,k<4->mg (X.outs k) ((F j).ins k) (V'.e i k)) (e2:∀k,k<4->mg ((F j).outs k) (X.ins k) (V'.e j k)) (m:∀x∈V'.aN,x∈D.aN\/(x.1=(j:Int)/\∃y∈X.av,oX X (aI x.2) y)) (E:V'.aN.length<=100*l) (G:V'.ba i=X.next) (H:V'.ba j=D.ba j) (hl:V'.aj=D.aj/\V'.ag=D.ag/\V'.key=D.key) (I:∀s,D.st i=.ai s->mR s (F i) (F j)->∃A,u=.ai A/\mR A X (F j)):bl V' (ah F i X) l:=by
 have v:∀a b:Nat,a<2->b<2->a≠b->(a=i/\b=j)\/(a=j/\b=i):=λa b _ _ _=>by omega
 have h:j≠i:=λe=>t e.symm
 refine⟨λa c=>?_,λa b c m p=>?_,λa b c m p=>?_,λx L=>?_,E,λa c=>?_,?_,λa b c m p=>?_⟩
 rw[z];by_cases e:a=i;subst e;rw[aR,aR];exact C;rw[aX _ _ e,aX _ _ e];obtain⟨s,f,d,M⟩:=K.aK a c;exact⟨s,f,d.mono w,M.mono w⟩
 obtain⟨rfl,rfl⟩|⟨rfl,rfl⟩:=v a b c m p
 rw[aR,aX _ _ h];exact d1;rw[aR,aX _ _ h];exact d2;obtain⟨rfl,rfl⟩|⟨rfl,rfl⟩:=v a b c m p
 rw[aR,aX _ _ h];exact e1;rw[aR,aX _ _ h];exact e2;obtain q|⟨f,d⟩:=m x L
 obtain⟨a,b,c,N,p,f,y,B,d⟩:=K.aN x q;refine⟨a,b,c,N,p,f,?_⟩
 by_cases e:a=i;subst e;rw[aR];refine⟨y,g.sub y B,?_⟩
 unfold oX at d⊢;rw[g.key,g.me];exact d;rw[aX _ _ e];exact⟨y,B,d⟩
 exact⟨i,j,hi,r,t,f,by rw[aR];exact d⟩
 rw[hl.1,hl.2.1,hl.2.2];by_cases e:a=i;subst e;rw[aR,G,g.aj,g.ag,g.key,g.me];exact⟨rfl,(K.cfg a c).2⟩
 have:a=j:=by omega
 subst this;rw[aX _ _ e,H];exact K.cfg a c;rw[hl.1,hl.2.1];exact K.lu;rw[z];obtain⟨rfl,rfl⟩|⟨rfl,rfl⟩:=v a b c m p
 obtain⟨s,f,d⟩:=K.te a b hi r t;rw[aR,aR,aX _ _ h];exact I s f d;obtain⟨s,f,d⟩:=K.te a b r hi h;rw[aX _ _ h,aX _ _ h,aR];exact⟨s,f,d.cM (kE.refl s) (λ_ q=>q) g.ev⟩
def tY{st:aE}{q:gy}{r:Rs}{c b:an}(h:st.do q=(r,.ai s))(f:q.op≠5)(g:q.op≠6)(hs:∀x∈X.av,x∈c.av):∀a,st=.ai a->mR a X b->∃d,aE.ai s=.ai d/\mR d c b:=λa e t=>by
 subst e;exact⟨s,rfl,t.cM (Rx f g h) hs (λ_ q=>q)⟩
def bl.ask(K:bl D F n)(hi:i<2)(g:n<=90000)(q:gy)(h:aW q.code)(j:q.op≠5)(c:((F i).ask q).2.closed=0):∃a,(D.st i).do q=(((F i).ask q).1,.ai a)/\dc a ((F i).ask q).2 (n+1)/\bO a (n+1):=by
 obtain⟨s,e,k,v⟩:=K.aK i hi;have m:Rel (D.st i) (F i) n:=by rw[e];exact k
 obtain⟨d,b⟩:=Rb m (K.ok hi) g q j;have f:=EV (K.ok hi) (by omega) q h (λcQ l p=>by rw[p]at b;exact b c);obtain⟨⟨r,t⟩,u⟩:∃x,x=(D.st i).do q:=⟨_,rfl⟩
 rw[<-u]at d b f⊢;cases t with
 |ai a=>exact⟨a,by rw[d],b,f⟩
 |shut cQ l=>
  exact absurd c b
def bl.af{V:Nw}{m:Nat->an}(h:dc s X n)(b:k<4):(aE.ai s).af (k:Int)=((X.outs k).af.eR,0):=by
 rw[<-Fq h];have a:X.of (k:Int)=0:=by unfold an.of;rw[aB (by rw[h.c.cl];decide),iN_]
 unfold an.af;rw[a,aB (by decide),show((k:Int)).toNat=k by omega]
def bl.FX(K:bl D F n)(hi:i<2)(b:j<2)(c:i≠j)(a:k<4)(g:((F i).outs k).af.eR<=p)(e:p<=((F i).outs k).data.size)(f:((F i).outs k).given=θ->p<=((F j).ins k).read+(F i).ag):rC D i k p:=by
 have E:=K.en i j hi b c k a;have h:=((K.dR b).fU k a).rd;have l:=((K.dir i j hi b c).aF k a).hi;have hs:=((K.dR hi).out k a).hs;have m:=((K.dR hi).out k a).sz;refine⟨by have:=E.af;omega,by rw[E.wrote];exact e,λd _=>?_,by rw[E.read];omega⟩
 rw[E.gv]at d;rw[E.read,<-(K.cfg i hi).2.2.1];exact f d
def vW(hs:bO s n)(d:n<=100001)(a:k<4):fv (s.out k) (s.due k):=by
 have b:=hs.ba;obtain⟨-,-,c⟩:=hs.tR.p0 k a ⟨b.1,by omega⟩ (s.aw.map (λx=>(x,Value.slice ν 0 0))) (by rw[pV];show _=List.map id _;rw[rK]);exact c
def gC.en{r:da}(R:gC G r)(a:fG G)(b:G.sG=θ):G.en=r.data.size:=by
 have:=R.vM (by rw[<-R.sg];exact b) a.fr;unfold Ot.en;omega
def R6(h:dc s X n)(hs:bO s i):sy s:=by
 refine⟨λk a=>⟨hs.out k a,λd b g=>?_⟩,λx e=>?_⟩
 rw[(h.c.out k a).en (hs.out k a) d];exact(h.c.out k a).cb b g;obtain⟨j,l,m⟩:=hs.pk x e;refine⟨j,l,λp hp=>⟨m p hp,λd u=>?_⟩⟩
 have a:x.st.toNat<4:=by omega
 rw[(h.c.out _ a).en (hs.out _ a) d];obtain⟨y,q,e1,f,r,t⟩:=h.c.fl.back x e p hp (p.x.hi-1) (by omega) (by omega);have:=h.c.fl.fz y q f r t.1 t.2.1;rw[t.2.2.1]at this;have:=t.2.2.2.2;omega
def pO(i:aL):Prop:=(i.given=ρ->i.state≠0)/\(i.given=θ->i.state=0->i.there.getD i.read.toNat θ=θ/\¬(i.ended=ρ/\i.read=i.end_))
def R7{i:aL}(d:gz i)(f:i.high<=5000):pO (i.cR 5000):=by
 have hl:=AA i;have g:=d.dl;have h:=d.tl;have j:=d.rd;unfold pO;cases a:i.given;have b:i.start=i:=by unfold aL.start;rw[aB (λq=>by rw[a]at q;cases q.1)]
 have er:i.cR 5000=(i.lq (i.ba 5000)).stop:=by unfold aL.cR;rw[b]
 rw[er];unfold aL.stop;split;refine⟨λq=>?_,λ_ q=>?_⟩
 have q:i.given=ρ:=q;rw[a]at q;cases q;have q:(1:Int)=0:=q;omega;rename_i c;refine⟨λq=>?_,λ_ q=>?_⟩
 have q:i.given=ρ:=q;rw[a]at q;cases q;have q:i.state=0:=q;have ec:i.ba 5000=i.iF:=by
  unfold aL.ba;rw[aG q];show min 5000 i.iF=i.iF;omega
 rw[ec]at c⊢;refine⟨?_,λz=>c ⟨z.1,z.2,q⟩⟩
 show i.there.getD (i.read+((i.iF:Nat):Int)).toNat θ=θ;rw[show(i.read+((i.iF:Nat):Int)).toNat=i.read.toNat+i.iF by omega];by_cases e:i.read.toNat+i.iF<i.there.length;rw[List.getD,E5 i e];rfl;rw[List.getD,nG (by omega)];rfl;have b:i.start.state≠0:=by
  unfold aL.start;split;show(2:Int)≠0;omega;rename_i c;exact λq=>c ⟨a,q⟩
 refine⟨λ_=>?_,λq=>?_⟩
 unfold aL.cR aL.stop;rw[aB (λq=>b q.2.2)];exact b;rw[(AP i 5000).2 a]at q;cases q
def bl.FY(K:bl D F n)(hi:i<2)(c:j<2)(f:i≠j)(a:k<4)(g:pO ((F j).ins k))(b:((F j).ins k).given=θ):((F i).outs k).af.eR<=((F j).ins k).read:=by
 have d:=K.dir i j hi c f;have e:=K.dR hi;have I:=d.aF k a;obtain⟨m,p2,-⟩:=sx (e.ck k a);have h:=((K.dR c).fU k a).rd;have p:=(e.fr k a).1;by_cases l:((F i).outs k).af.eR<=((F j).ins k).read;exact l;exfalso;obtain q|⟨-,q⟩:=d.cm k a _ (p2 _ h.1 (by omega))
 rw[b]at q;cases q;obtain z|z|z:=I.s0
 rw[(g.2 b z).1]at q;cases q;have:=(I.s1 z).2;omega;have:=I.s2 z;rw[b]at this;cases this
def bl.nb(K:bl D F n)(hi:i<2)(b:j<2)(e:i≠j)(h:∀k,k<4->pO ((F j).ins k)){t:Sd}(l:D.st i=.ai s)(m:D.st j=.ai t):NB s.out t:=λk a f p=>by
 obtain⟨v,e1,g,q⟩:=K.aK i hi;obtain⟨w,e2,d,x⟩:=K.aK j b;have e1:=aE.ai.inj (l.symm.trans e1);have e2:=aE.ai.inj (m.symm.trans e2);subst e1;subst e2;have r:((F j).ins k).given=θ:=by rw[<-(d.c.aF k a).given];exact p
 have u:((F i).outs k).given=θ:=by rw[<-(g.c.out k a).sg];exact f
 have hp:=K.FY hi b e a (h k a) r;have y:=((K.dR hi).fr k a).2 u;rw[(g.c.out k a).en (q.out k a) f,(d.c.aF k a).fr];have z:=d.c.ag;have A:=(K.dir i j hi b e).ag;omega
def bl.FZ(K:bl D F n)(hi:i<2)(b:j<2)(f:i≠j){t:Sd}(g:D.st i=.ai s)(h:D.st j=.ai t):pM t s.count:=by
 obtain⟨p,e1,k,l⟩:=K.aK i hi;obtain⟨r,e2,a,m⟩:=K.aK j b;have e1:=aE.ai.inj (g.symm.trans e1);have e2:=aE.ai.inj (h.symm.trans e2);subst e1;subst e2;have e:∀d,Sm t.af d->d<s.count:=λd hd=>by
  have:=(K.dir i j hi b f).ev d (a.bG.all d hd);rw[k.c.next]at this;exact this
 refine⟨m.kY,e,?_⟩
 obtain q|⟨d,hd⟩:=a.dN.ne
 have:=l.ba;omega;have:=a.dN.ab d hd;have:=e d hd;omega
def bl.R8(K:bl D F n)(hi:i<2)(a:j<2)(g:i≠j){t:Sd}(h:D.st i=.ai s)(k:D.st j=.ai t):t.key=s.key/\s.first= !t.first:=by
 obtain⟨r,e1,e,u⟩:=K.aK i hi;obtain⟨v,e2,f,w⟩:=K.aK j a;have e1:=aE.ai.inj (h.symm.trans e1);have e2:=aE.ai.inj (k.symm.trans e2);subst e1;subst e2;refine⟨?_,?_⟩
 rw[<-e.c.key,<-f.c.key];exact(K.dir i j hi a g).key;have b:=e.c.me;have d:=f.c.me;have l:=(K.cfg i hi).2.2.2.2;have m:=(K.cfg j a).2.2.2.2;rw[l]at b;rw[m]at d;cases p:s.first<;>cases q:t.first<;>rw[p]at b<;>rw[q]at d<;>simp at b d⊢<;>omega
structure cY where
 kind:Int
 side:Int
 a:Int
 b:Int
 s:ByteArray
structure cY.ok(s:cY):Prop where
 kind:dD s.kind
 side:dD s.side
 a:dD s.a
 b:dD s.b
 len:s.s.size<=100000
def dj(s:cY):Array υ:= #[ι δ s.kind,ι δ s.side,ι δ s.a,ι δ s.b,ς s.s]
def eM(w:ω)(nb:Nat)(V:Nw)(n:Nat)(e:Ending)(c:ω):Prop:=e=ξ (β ρ)/\∃a d b,b<=n+2/\bS w nb V a c/\bl a d b
def bS.loc{a:Nw}(T:bS w n D a W)(d:b<w.heap.size)(c:¬D.jY n b):W.heap[b]?=w.heap[b]? /\¬a.jY n b:=⟨T.aA.block b d c,λe=>(T.all b e).elim c (λq=>by omega)⟩
structure iG(w:ω)(nb:Nat)(V:Nw)(s:cY)(a:ω):Prop where
 e:a=w.alloc (ο (dj s) 137)
 g:γ w a ν
 z:a.heap.size=w.heap.size+1
 b:a.heap[w.heap.size]?=μ (ο (dj s) 137 (0,0))
 T:bS a nb V V a
 nB:¬V.jY nb w.heap.size
def iG.mk'(H:bV w n D)(a:Laid w)(s:cY):∃b,iG w n D s b:=by
 have g:=aJ w (ο (dj s) 137) ν;exact⟨_,rfl,g,eh _ _,aO _ _,bS.refl (H.au g) (aD _ ν) (a.gb g),λe=>by have:=H.yL _ e;omega⟩
def iG.cells{c:Nw}{s:cY}(S:iG w n D s v)(T:bS v n D c W):κ W ⟨w.heap.size,0,ν⟩=μ (ι δ s.kind)/\κ W ⟨w.heap.size,1,ν⟩=μ (ι δ s.side)/\κ W ⟨w.heap.size,2,ν⟩=μ (ι δ s.a)/\κ W ⟨w.heap.size,3,ν⟩=μ (ι δ s.b)/\κ W ⟨w.heap.size,4,ν⟩=μ (ς s.s):=by
 have d:=(T.loc (by rw[S.z];omega) S.nB).1.trans S.b;simp[World.cell?,d,dj]
def iG.fin{a:Nw}{s:cY}(S:iG w k D s v)(H:bV w k D)(b:Laid w)(T:bS v k D a W){n:Nat}(c:i<=n+2)(K:bl a F i):eM w k D n (ξ (β ρ)) W:=⟨rfl,a,F,i,c,bS.pre H b S.g T,K⟩
def ot(w:ω)(nb:Nat)(V:Nw)(Q:Nw->Prop)(e:Ending)(b:ω):Prop:=e=ξ (β ρ)/\∃a,bS w nb V a b/\Q a
def iG.AZ{a:Nw}{s:cY}(S:iG w n D s v)(H:bV w n D)(b:Laid w)(T:bS v n D a W){Q:Nw->Prop}(c:Q a):ot w n D Q (ξ (β ρ)) W:=⟨rfl,a,bS.pre H b S.g T,c⟩
def ot.post{e:Ending}(h:ot w k D (λb=>∃c a,a<=n+2/\bl b c a) e W):eM w k D n e W:=by
 obtain⟨rfl,b,T,c,a,d,f⟩:=h;exact⟨rfl,b,c,a,d,T,f⟩
def tZ(m:an)(k:Nat)(d:ByteArray):m.ask ⟨1,(k:Int),0,0,d⟩=(⟨(m.write k d).2.1,-1,(m.write k d).1,0,[],[]⟩,(m.write k d).2.2):=rfl
def bl.R9(K:bl D F n)(hi:i<2)(a:j<2)(b:i≠j)(s:n<=90000)(m:k<4)(d:ByteArray)(p:((D.e i k).finished||(D.e i k).given)=ρ):
 ∃c,(D.st i).do ⟨1,(k:Int),0,0,d⟩=(⟨3,-1,0,0,[],[]⟩,.ai c)/\∀f,bl {D with st:=ah D.st i (.ai c),A:=f} F (n+1):=by
 have E:=K.en i j hi a b k m;obtain⟨d1,d2,d3,d4,⟨-,t,u,g⟩|⟨v,-⟩⟩:=FG (K.dR hi) (K.dir i j hi a b) (K.dir j i a hi (λe=>b e.symm)) m d;obtain⟨c,h,r,w⟩:=K.ask hi s ⟨1,(k:Int),0,0,d⟩ (by simp[aW]) (by simp) (by rw[tZ,g];exact(K.dR hi).cl);rw[tZ,t,u,g]at h;rw[tZ,g]at r;refine⟨c,h,λf=>?_⟩
 have:=K.jH (V':={D with st:=ah D.st i (.ai c),A:=f}) hi a b (cf n) rfl ⟨c,rfl,r,w⟩ (K.dir i j hi a b) (K.dir j i a hi (λe=>b e.symm)) ⟨λx l=>l,rfl,rfl,rfl,rfl,λ_ q=>q⟩ (K.en i j hi a b) (K.en j i a hi (λe=>b e.symm)) (λx l=>φ l) (by have:=K.lb;show D.aN.length<=100*(n+1);omega) (K.cfg i hi).1 rfl ⟨rfl,rfl,rfl⟩ (tY h (by simp) (by simp) (λ_ q=>q));rw[m8]at this;exact this;rw[E.fin,E.gv,v]at p;cases p
def bl.Sa(K:bl D F n)(hi:i<2)(b:j<2)(c:i≠j)(H:n<=90000)(m:k<4)(d:ByteArray)(u:((D.e i k).finished||(D.e i k).given)=θ):
 ∃(f:Sd)(N:Int)(p:Nat->Int),(D.st i).do ⟨1,(k:Int),0,0,d⟩=(⟨0,-1,N,0,[],[]⟩,.ai f)/\fh (n+1) (.ai f)/\(∀l:Nat,l<4->(aE.ai f).af (l:Int)=(p l,0))/\(∀l,l<4->rC D i l (p l))/\0<=N/\N<=d.size/\(D.e i k).wrote.size+N-p k<=D.ag/\0<=p k/\(D.e i k).wrote.size<=4096/\
  ∀v,bl {D with st:=ah D.st i (.ai f),A:=v,e:=dZ (gT D.e i p 4) i k {D.e i k with af:=p k,wrote:=(D.e i k).wrote++d.extract 0 N.toNat}} (ah F i {F i with outs:=ah (F i).outs k {(F i).outs k with data:=((F i).outs k).data++d.extract 0 N.toNat}}) (n+1):=by
 have E:=K.en i j hi b c k m;have r:j≠i:=λe=>c e.symm
 obtain⟨d1,d2,d3,d4,⟨w,-⟩|⟨w,I,y,z,B,C⟩⟩:=FG (K.dR hi) (K.dir i j hi b c) (K.dir j i b hi r) m d;rw[E.fin,E.gv,w]at u;cases u;obtain⟨f,h,g,G⟩:=K.ask hi H ⟨1,(k:Int),0,0,d⟩ (by simp[aW]) (by simp) (by rw[tZ,C];exact(K.dR hi).cl);rw[tZ,I]at h;rw[tZ]at g;obtain⟨N,L⟩:=exq (((F i).write k d).1);rw[C]at g d1 d2;rw[<-L]at y z B h g d1 d2;simp only at h g;have M:∀l,(ah (F i).outs k {(F i).outs k with data:=((F i).outs k).data++d.extract 0 N.toNat} l).af=((F i).outs l).af:=λl=>by
  by_cases e:l=k;subst e;rw[aR];rw[aX _ _ e]
 have hp:∀l,l<4->rC D i l ((F i).outs l).af.eR:=λl hl=>K.FX hi b c hl (cE _) ((K.dR hi).fr l hl).1 (λO=>FH (K.dR hi) (K.dR b) (K.dir i j hi b c) hl O)
 have s:∀l,l<4->0<=((F i).outs l).af.eR:=λl hl=>(sx ((K.dR hi).ck l hl)).1
 refine⟨f,N,λl=>((F i).outs l).af.eR,h,G,λl hl=>?_,hp,y,z,by rw[E.wrote,<-(K.cfg i hi).2.2.1];exact B,s k m,by rw[E.wrote];exact((K.dR hi).out k m).sz,λv=>?_⟩
 rw[bl.af (V:=D) (m:=F) g hl];show((ah (F i).outs k {(F i).outs k with data:=((F i).outs k).data++d.extract 0 N.toNat} l).af.eR,(0:Int))=_;rw[M];refine K.jH hi b c (cf n) rfl ⟨f,rfl,g,G⟩ d1 d2 ⟨λx t=>t,rfl,rfl,rfl,rfl,λ_ q=>q⟩ (λl hl=>?_) (λl hl=>?_) (λx t=>φ t) (by have:=K.lb;show D.aN.length<=100*(n+1);omega) (K.cfg i hi).1 rfl ⟨rfl,rfl,rfl⟩ (tY h (by simp) (by simp) (λ_ q=>q));have a:=K.en i j hi b c l hl;show mg (ah (F i).outs k _ l) ((F j).ins l) (dZ (gT D.e i _ 4) i k _ i l);unfold dZ gT;by_cases e:l=k;subst e;rw[aR,aG ⟨rfl,rfl⟩];exact⟨by simp only;rw[a.wrote],a.fin,a.gv,a.code,a.read,a.state,⟨s l hl,rfl⟩⟩
 rw[aX _ _ e,aB (λq=>e q.2),aG ⟨rfl,hl⟩];exact⟨a.wrote,a.fin,a.gv,a.code,a.read,a.state,⟨s l hl,rfl⟩⟩
 show mg ((F j).outs l) ((F i).ins l) (dZ (gT D.e i _ 4) i k _ j l);unfold dZ gT;rw[aB (λq=>r q.1),aB (λq=>r q.1)];exact K.en j i b hi r l hl
def bV.mT(h:bV w n D)(hi:i<2)(a:k<4):κ w ⟨n,0,ν⟩=μ (σ (μ ⟨D.xr,0,ν⟩) 2 D.xc)/\κ w ⟨n,1,ν⟩=μ (σ (μ ⟨D.er,0,ν⟩) 2 D.ec)/\κ w ⟨D.xr,i,ν⟩=μ (π (μ ⟨D.xb i,0,ν⟩))/\κ w ⟨D.er,i,ν⟩=μ (σ (μ ⟨D.el i,0,ν⟩) 4 (D.lc i))/\κ w ⟨D.el i,k,ν⟩=μ (π (μ ⟨D.eb i k,0,ν⟩)):=
 ⟨h.c.1.1,h.c.1.2.1,h.x i hi,h.er i hi,h.el i hi k a⟩
def Sb(w:ω)(nb:Nat)(V:Nw)(m:Nat->an)(n:Nat)(H:bV w nb V)(g:Laid w)(K:bl V m n)(I:n<=90000)(s:cY)(hs:s.ok)(L:s.kind=1)(b:((V.e (bh s.side 2) (bh s.a 4)).finished||(V.e (bh s.side 2) (bh s.a 4)).given)=ρ):
 Calls prog 50 #[π (μ ⟨nb,0,ν⟩),ε (dj s)] w (eM w nb V n):=by
 obtain⟨p,S⟩:=iG.mk' H g s;obtain⟨i,C⟩:=exq (bh s.side 2);obtain⟨k,D⟩:=exq (bh s.a 4);have hi:i<2:=by have:=fk s.side (p:=2) (by decide);omega
 have q:k<4:=by have:=fk s.a (p:=4) (by decide);omega
 have r:=J (fJ s.side 2 p hs.side.1 hs.side.2 (by decide) (by decide));have t:=J (fJ s.a 4 p hs.a.1 hs.a.2 (by decide) (by decide));rw[<-C]at r b;rw[<-D]at t b;clear C D;have R:(0:Int)<=i:=by omega
 have U:(i:Int)<2:=by omega
 have X:(0:Int)<=k:=by omega
 have Y:(k:Int)<4:=by omega
 obtain⟨c0,c1,M,ce,cl⟩:=S.T.at_.mT hi q;obtain⟨d0,d1,d2,d3,d4⟩:=S.cells S.T;obtain⟨N,u,v⟩:=K.R9 hi (show 1-i<2 by omega) (show i≠1-i by omega) I q s.s b;have c:=oq S.T hi (K.ok hi) (by omega) ⟨1,(k:Int),0,0,s.s⟩ (by simp[aW]) (by have:=hs.len;show s.s.size<=_;omega) u ⟨by simp,⟨by simp,by simp;omega⟩,λe=>by simp at e⟩;have x:=J (λ(W:ω)(y:Nat->Prop)(T:bS p nb V {V with st:=ah V.st i (.ai N),A:=ah V.A i y} W)=>S.fin H g T (n:=n) (cf (n+1)) (v _));unfold dB mS mh at c;simp only[qu]at c;obtain⟨P,hP⟩:=exq (eM w nb V n);rw[<-hP]at x⊢;replace⟨hP,c⟩:=bD hP c;have E:=S.e;replace⟨S,H,g,K,hs,v,u⟩:=iU S H g K hs v u;obtain⟨kind,side,sa,ax,str⟩:=s;simp only at *;subst L;unfold dj at *;simp only at *;go_enter func50,ntmps50;go_upto_region 1 with fail;rw[<-E];clear E;go_upto_region 2 with(go_at_call 23;apply(Z r).mono;rintro e O⟨rfl,rfl⟩)
 go_upto_region 4 with(go_at_call 23;apply(Z t).mono;rintro e O⟨rfl,rfl⟩)
 go_upto_region 8 with(go_at_call 28;apply(Z c).mono;rintro e d⟨a,m1,F,y,rfl,-,z,-⟩)
 obtain⟨f,h⟩:=exq (d.alloc (ο #[ι δ 3,ι δ (-1),ι δ 0,ι η 0,ς ⟨#[]⟩,σ a m1 F] 46));have Q:γ d f ν:=by rw[h];exact aJ _ _ _
 have B:f.heap[d.heap.size]?=μ (ο #[ι δ 3,ι δ (-1),ι δ 0,ι η 0,ς ⟨#[]⟩,σ a m1 F] 46 (0,0)):=by rw[h];exact aO _ _
 rw[<-h];clear h;have j:=z.gb Q;obtain⟨y0,y2⟩:κ f ⟨d.heap.size,0,ν⟩=μ (ι δ 3)/\κ f ⟨d.heap.size,2,ν⟩=μ (ι δ 0):=by simp[World.cell?,B]
 obtain⟨⟨-,e1,e2,-,-,-,-⟩,-⟩:=j.at_.ce hi q;simp only at e1 e2;have l:=J (Z x f y j);replace⟨B,z,j⟩:=cz B z j;clear x c r t c0 c1 M ce cl d0 d1 d2 d3 d4;cases G:(V.e i k).finished
 ·rw[G]at e1 b;rw[ux]at b;rw[b]at e2;go_wp2_with fail;first|exact Z l|(go_ret;exact Z l)
 rw[G]at e1;go_wp2_with fail;first|exact Z l|(go_ret;exact Z l)
def Sc(hi:i<2){a:aE}(T:bS w j D {D with st:=ah D.st i a,A:=ah D.A i S} W)(h:fh n a)(l:n<=100000)(m:0<=D.ag/\D.ag<=1000000000){p:Nat->Int}(hp:∀k:Nat,k<4->a.af (k:Int)=(p k,0))(b:∀k,k<4->rC D i k (p k)):
 Calls prog 82 #[π (μ ⟨j,0,ν⟩),ι δ i] W (λe f=>e=ξ (β ρ)/\(∃c,bS w j D (gV {D with st:=ah D.st i a} i p 4 c) f)/\ay W f (Nw.jY {D with st:=ah D.st i a,A:=ah D.A i S} j)):=by
 refine(FP W j _ T.at_ T.laid i hi n (by simp only[aR];exact h) l m p (by simp only[aR];exact hp) (λk d=>⟨(b k d).lo,(b k d).hi,(b k d).wn,(b k d).rd⟩)).mono ?_;rintro e f⟨rfl,c,g⟩;exact⟨rfl,⟨c,by rw[<-FQ D i a S c p];exact T.trans g⟩,g.aA⟩
def A5(x y:ByteArray)(h:((x.size+y.size:Nat):Int)<=9223372036854775807)(W:ω):(Op.stringOp .add x y).run prog W=.ok (ς (x++y)) W:=by
 unfold Op.stringOp;have:¬(((x.size+y.size:Nat):Int)>IntKind.i64.max):=by
  have:IntKind.i64.max=9223372036854775807:=by decide
  omega
 simp only[this,eA]
 rfl
def F5(w:ω)(nb:Nat)(V:Nw)(m:Nat->an)(n:Nat)(H:bV w nb V)(u:Laid w)(K:bl V m n)(hn:n<=90000)(s:cY)(hs:s.ok)(Q:Nw->Prop)(bt:s.kind=1)(f:((V.e (bh s.side 2) (bh s.a 4)).finished||(V.e (bh s.side 2) (bh s.a 4)).given)=θ)(l:∀(b:Sd)(N:Int)(p:Nat->Int)(v:Nat->Nat->Prop),(V.st (bh s.side 2)).do ⟨1,((bh s.a 4):Int),0,0,s.s⟩=(⟨0,-1,N,0,[],[]⟩,.ai b)->bl {V with st:=ah V.st (bh s.side 2) (.ai b),A:=v,e:=dZ (gT V.e (bh s.side 2) p 4) (bh s.side 2) (bh s.a 4) {V.e (bh s.side 2) (bh s.a 4)with af:=p (bh s.a 4),wrote:=(V.e (bh s.side 2) (bh s.a 4)).wrote++s.s.extract 0 N.toNat}} (ah m (bh s.side 2) {m (bh s.side 2)with outs:=ah (m (bh s.side 2)).outs (bh s.a 4) {(m (bh s.side 2)).outs (bh s.a 4)with data:=((m (bh s.side 2)).outs (bh s.a 4)).data++s.s.extract 0 N.toNat}}) (n+1)->Q {V with st:=ah V.st (bh s.side 2) (.ai b),A:=v,e:=dZ (gT V.e (bh s.side 2) p 4) (bh s.side 2) (bh s.a 4) {V.e (bh s.side 2) (bh s.a 4)with af:=p (bh s.a 4),wrote:=(V.e (bh s.side 2) (bh s.a 4)).wrote++s.s.extract 0 N.toNat}}):
 Calls prog 50 #[π (μ ⟨nb,0,ν⟩),ε (dj s)] w (ot w nb V Q):=by
 obtain⟨y,S⟩:=iG.mk' H u s;obtain⟨i,ax⟩:=exq (bh s.side 2);obtain⟨k,aC⟩:=exq (bh s.a 4);have hi:i<2:=by have:=fk s.side (p:=2) (by decide);omega
 have d:k<4:=by have:=fk s.a (p:=4) (by decide);omega
 have O:=J (fJ s.side 2 y hs.side.1 hs.side.2 (by decide) (by decide));have R:=J (fJ s.a 4 y hs.a.1 hs.a.2 (by decide) (by decide));rw[<-ax]at O f l;rw[<-aC]at R f l;clear ax aC;have i0:(0:Int)<=i:=by omega
 have i1:(i:Int)<2:=by omega
 have k0:(0:Int)<=k:=by omega
 have k1:(k:Int)<4:=by omega
 have hj:1-i<2:=by omega
 have bx:i≠1-i:=by omega
 have hw:=K.lu;obtain⟨c0,c1,cx,ce,cl⟩:=S.T.at_.mT hi d;obtain⟨d0,d1,d2,d3,d4⟩:=S.cells S.T;obtain⟨b,N,p,z,U,X,B,b4,bz,a0,bM,b0,Y⟩:=K.Sa hi hj bx hn d s.s f;have jq:=hs.len;have a1:=(B k d).hi;have j:=oq S.T hi (K.ok hi) (by omega) ⟨1,(k:Int),0,0,s.s⟩ (by simp[aW]) (by show s.s.size<=_;omega) z ⟨by simp,⟨by simp,by simp;omega⟩,λe=>by simp at e⟩;have a2:=J (λ(W:ω)(q:Nat->Prop)(T:bS y nb V {V with st:=ah V.st i (.ai b),A:=ah V.A i q} W)=>Sc hi T U (by omega) (by omega) X B);have a3:=J (λ(W:ω)(v:Nat->Prop)(T:bS y nb V (gV {V with st:=ah V.st i (.ai b)} i p 4 v) W)=>(show(κ W ⟨nb,3,ν⟩=μ (ι δ V.ag)/\κ W ⟨w.heap.size,4,ν⟩=μ (ς s.s)/\κ W ⟨V.eb i k,0,ν⟩=μ (ς (V.e i k).wrote)/\κ W ⟨V.eb i k,6,ν⟩=μ (ι δ (p k))/\χ W ⟨V.eb i k,0,ν⟩=θ)/\∀W',(ζ W ⟨V.eb i k,0,ν⟩ (ς ((V.e i k).wrote++s.s.extract 0 N.toNat))).grownBy W' ν->ot w nb V Q (ξ (β ρ)) W' by
  have he:gT V.e i p 4 i k={V.e i k with af:=p k}:=by unfold gT;rw[aG ⟨rfl,d⟩]
  obtain⟨⟨D,-,-,-,-,-,E⟩,qf⟩:=T.at_.ce hi d;have aa:=T.at_.en i hi k d;simp only[gV,he]at D E qf aa;have T7:=T.trans (T.at_.vU T.laid hi d (x:={V.e i k with af:=p k,wrote:=(V.e i k).wrote++s.s.extract 0 N.toNat}) (oY W (V.eb i k) 0 (ς ((V.e i k).wrote++s.s.extract 0 N.toNat))) (heap_set aa _));exact⟨⟨T.at_.c.1.2.2.2.1,(S.cells T).2.2.2.2,D,E,qf 0⟩,λW' g=>S.AZ H u (T7.gb g) (l b N p _ z (Y _))⟩))
 have al:=a3;clear a3;unfold dB mS mh at j;simp only[qu]at j;have b3:=A5 (V.e i k).wrote (s.s.extract 0 N.toNat) (by rw[sI];omega);replace j:=J j;obtain⟨P,hP⟩:=exq (ot w nb V Q);rw[<-hP]at al⊢;replace hP:=J hP;have a4:=S.e;replace⟨S,H,u,K,hs,l,Y,z,U⟩:=qU S H u K hs l Y z U;replace⟨B,X⟩:=bD B X;obtain⟨kind,side,sa,b5,str⟩:=s;simp only at *;subst bt;unfold dj at *;simp only at *;go_enter func50,ntmps50;go_upto_region 1 with fail;rw[<-a4];clear a4;go_upto_region 2 with(go_at_call 23;apply(Z O).mono;rintro e w2⟨rfl,rfl⟩)
 go_upto_region 4 with(go_at_call 23;apply(Z R).mono;rintro e w2⟨rfl,rfl⟩)
 go_upto_region 8 with(go_at_call 28;apply(Z j).mono;rintro e h⟨a,m1,m2,q,rfl,-,F,-⟩)
 obtain⟨r,t⟩:=exq (h.alloc (ο #[ι δ 0,ι δ (-1),ι δ N,ι η 0,ς ⟨#[]⟩,σ a m1 m2] 46));have g5:γ h r ν:=by rw[t];exact aJ _ _ _
 have z5:h.heap.size<r.heap.size:=by rw[t,eh];omega
 have G:r.heap[h.heap.size]?=μ (ο #[ι δ 0,ι δ (-1),ι δ N,ι η 0,ς ⟨#[]⟩,σ a m1 m2] 46 (0,0)):=by rw[t];exact aO _ _
 rw[<-t];clear t;have I:=F.gb g5;obtain⟨⟨-,e1,e2,-,-,-,-⟩,-⟩:=I.at_.ce hi d;simp only at e1 e2;have a8:=J (Z a2 r q I);have a9:Hid (∀L,ay r L (Nw.jY {V with st:=ah V.st i (.ai b),A:=ah V.A i q} nb)->κ L ⟨h.heap.size,0,ν⟩=μ (ι δ 0)/\κ L ⟨h.heap.size,2,ν⟩=μ (ι δ N)):=J (λL C=>by
  have bb:¬Nw.jY {V with st:=ah V.st i (.ai b),A:=ah V.A i q} nb h.heap.size:=λe=>by have:=F.at_.yL _ e;omega
  exact⟨C.cell (by simp[World.cell?,G]) bb,C.cell (by simp[World.cell?,G]) bb⟩)
 replace⟨G,F,I⟩:=cz G F I;rw[oD]at f;rw[f.1]at e1;rw[f.2]at e2;clear a2 j O R c0 c1 cx ce cl d0 d1 d2 d3 d4 f;go_upto_region 11 with(go_at_call 82;apply(Z a8).mono;rintro e w6⟨rfl,⟨A6,T6⟩,C6⟩;obtain⟨y0,y2⟩:=Z a9 w6 C6;obtain⟨⟨f3,f4,D,E,qf⟩,M⟩:=Z al w6 A6 T6;clear C6 T6;replace M:=J M)
 clear a8 a9 al e1 e2;obtain⟨wr,bj⟩:=exq ((V.e i k).wrote);rw[<-bj]at D M b3 a0 b0 a1;obtain⟨pk,br⟩:=exq (p k);rw[<-br]at E a0 bM a1;clear bj br;have r1:decide (N<0)=θ:=dF_;have r2:decide ((str.size:Int)<N)=θ:=dF_;have r3:IntKind.i64.wrap ((wr.size:Int)+N)=wr.size+N:=by simp[IntKind.wrap,IntKind.bits,IntKind.signed];omega
 have r4:IntKind.i64.wrap ((wr.size:Int)+N-pk)=wr.size+N-pk:=by simp[IntKind.wrap,IntKind.bits,IntKind.signed];omega
 have r5:decide (V.ag<(wr.size:Int)+N-pk)=θ:=dF_;go_quiet (fail);go_upto_region 13 with fail;clear r1 r2 r3 r4 r5;have r6:N<=(str.size:Int):=bz;go_region;go_wp2_with fail;exact Z M _ ⟨rfl,rfl,rfl,aP _,λ_ _ _=>rfl⟩
def Se(w:ω)(nb:Nat)(V:Nw)(m:Nat->an)(n:Nat)(H:bV w nb V)(b:Laid w)(K:bl V m n)(c:n<=90000)(s:cY)(hs:s.ok)(d:s.kind=1)(f:((V.e (bh s.side 2) (bh s.a 4)).finished||(V.e (bh s.side 2) (bh s.a 4)).given)=θ):
 Calls prog 50 #[π (μ ⟨nb,0,ν⟩),ε (dj s)] w (eM w nb V n):=
 (F5 w nb V m n H b K c s hs _ d f (λ_ _ _ _ _ h=>⟨_,_,cf (n+1),h⟩)).mono (λ_ _ h=>h.post)
def bl.A(K:bl D F n)(a:Nat->Nat->Prop):bl {D with A:=a} F n:=⟨K.aK,K.dir,K.en,K.aN,K.lb,K.cfg,K.lu,K.te⟩
def bl.same(K:bl D F n)(hi:i<2)(a:j<2)(b:i≠j)(f:dc s (F i) (n+1))(g:bO s (n+1)){q:gy}{r:Rs}(h:(D.st i).do q=(r,.ai s))(k:q.op≠5)(l:q.op≠6)(d:Nat->Nat->Prop):bl {D with st:=ah D.st i (.ai s),A:=d} F (n+1):=by
 have:=K.jH (V':={D with st:=ah D.st i (.ai s),A:=d}) hi a b (cf n) rfl ⟨s,rfl,f,g⟩ (K.dir i j hi a b) (K.dir j i a hi (λe=>b e.symm)) ⟨λx c=>c,rfl,rfl,rfl,rfl,λ_ q=>q⟩ (K.en i j hi a b) (K.en j i a hi (λe=>b e.symm)) (λx c=>φ c) (by have:=K.lb;show D.aN.length<=100*(n+1);omega) (K.cfg i hi).1 rfl ⟨rfl,rfl,rfl⟩ (tY h k l (λ_ q=>q));rw[m8]at this;exact this
def bl.F6(K:bl D F n)(hi:i<2)(c:j<2)(d:i≠j)(e:n<=90000):
 ∃a,(D.st i).do ⟨4,0,0,0,⟨#[]⟩⟩=(⟨0,-1,0,0,[],[]⟩,.ai a)/\∀f,bl {D with st:=ah D.st i (.ai a),A:=f} F (n+1):=by
 obtain⟨a,b,g,h⟩:=K.ask hi e ⟨4,0,0,0,⟨#[]⟩⟩ (by simp[aW]) (by simp) (K.dR hi).cl;exact⟨a,b,K.same hi c d g h b (by simp) (by simp)⟩
def bl.xD(K:bl D F n)(hi:i<2)(b:j<2)(f:i≠j)(w:n<=90000)(y:k<4):
 ∃a,(((D.e i k).finished||(D.e i k).given)=ρ/\(D.st i).do ⟨2,(k:Int),0,0,⟨#[]⟩⟩=(⟨3,-1,0,0,[],[]⟩,.ai a)/\∀p,bl {D with st:=ah D.st i (.ai a),A:=p} F (n+1))\/
  (((D.e i k).finished||(D.e i k).given)=θ/\(D.st i).do ⟨2,(k:Int),0,0,⟨#[]⟩⟩=(⟨0,-1,0,0,[],[]⟩,.ai a)/\∀p,∃z,bl {D with st:=ah D.st i (.ai a),A:=p,e:=dZ D.e i k {D.e i k with finished:=ρ}} z (n+1)/\z=ah F i {F i with outs:=ah (F i).outs k {(F i).outs k with finished:=ρ}}):=by
 have E:=K.en i j hi b f k y;have r:j≠i:=λe=>f e.symm
 have g:(F i).ask ⟨2,(k:Int),0,0,⟨#[]⟩⟩=(⟨((F i).finish k).1,-1,0,0,[],[]⟩,((F i).finish k).2):=rfl;obtain⟨d1,d2,d3,d4,⟨s,t,m⟩|⟨s,t,m⟩⟩:=Ru (K.dR hi) (K.dir i j hi b f) (K.dir j i b hi r) y;obtain⟨a,c,h,u⟩:=K.ask hi w ⟨2,(k:Int),0,0,⟨#[]⟩⟩ (by simp[aW]) (by simp) (by rw[g,m];exact(K.dR hi).cl);rw[g,t]at c;rw[g,m]at h;exact⟨a,φ ⟨by rw[E.fin,E.gv];exact s,c,K.same hi b f h u c (by simp) (by simp)⟩⟩
 obtain⟨a,c,h,u⟩:=K.ask hi w ⟨2,(k:Int),0,0,⟨#[]⟩⟩ (by simp[aW]) (by simp) (by rw[g,m];exact(K.dR hi).cl);rw[g,t]at c;rw[g]at h;rw[m]at h d1 d2;refine⟨a,ψ ⟨by rw[E.fin,E.gv];exact s,c,λp=>⟨_,K.jH hi b f (cf n) rfl ⟨a,rfl,h,u⟩ d1 d2 ⟨λx v=>v,rfl,rfl,rfl,rfl,λ_ q=>q⟩ (λl hl=>?_) (λl hl=>?_) (λx v=>φ v) (by have:=K.lb;show D.aN.length<=100*(n+1);omega) (K.cfg i hi).1 rfl ⟨rfl,rfl,rfl⟩ (tY c (by simp) (by simp) (λ_ q=>q)),rfl⟩⟩⟩
 have d:=K.en i j hi b f l hl;show mg (ah (F i).outs k _ l) ((F j).ins l) (dZ D.e i k _ i l);unfold dZ;by_cases e:l=k;subst e;rw[aR,aG ⟨rfl,rfl⟩];exact⟨d.wrote,rfl,d.gv,d.code,d.read,d.state,d.af⟩
 rw[aX _ _ e,aB (λq=>e q.2)];exact d;show mg ((F j).outs l) ((F i).ins l) (dZ D.e i k _ j l);unfold dZ;rw[aB (λq=>r q.1)];exact K.en j i b hi r l hl
def bl.F7(K:bl D F n)(hi:i<2)(b:j<2)(d:i≠j)(y:n<=90000)(z:k<4)(G:0<=p/\p<=1000):
 ∃a,((D.e i k).given=ρ/\(D.st i).do ⟨3,(k:Int),0,p,⟨#[]⟩⟩=(⟨3,-1,0,0,[],[]⟩,.ai a)/\∀r,bl {D with st:=ah D.st i (.ai a),A:=r} F (n+1))\/
  ((D.e i k).given=θ/\(D.st i).do ⟨3,(k:Int),0,p,⟨#[]⟩⟩=(⟨0,-1,0,0,[],[]⟩,.ai a)/\∀r,∃C,bl {D with st:=ah D.st i (.ai a),A:=r,e:=dZ D.e i k {D.e i k with given:=ρ,code:=p}} C (n+1)):=by
 have E:=K.en i j hi b d k z;have s:j≠i:=λe=>d e.symm
 have B:aW p:=by unfold aW;omega
 have f:(F i).ask ⟨3,(k:Int),0,p,⟨#[]⟩⟩=(⟨((F i).giveUp k p).1,-1,0,0,[],[]⟩,((F i).giveUp k p).2):=rfl;obtain⟨d1,d2,d3,d4,⟨t,u,m⟩|⟨t,u,m⟩⟩:=Rv (K.dR hi) (K.dir i j hi b d) (K.dir j i b hi s) z (p:=p) (by omega);obtain⟨a,c,g,v⟩:=K.ask hi y ⟨3,(k:Int),0,p,⟨#[]⟩⟩ B (by simp) (by rw[f,m];exact(K.dR hi).cl);rw[f,u]at c;rw[f,m]at g;exact⟨a,φ ⟨by rw[E.gv];exact t,c,K.same hi b d g v c (by simp) (by simp)⟩⟩
 obtain⟨a,c,g,v⟩:=K.ask hi y ⟨3,(k:Int),0,p,⟨#[]⟩⟩ B (by simp) (by rw[f,m];exact(K.dR hi).cl);rw[f,u]at c;rw[f]at g;rw[m]at g d1 d2;refine⟨a,ψ ⟨by rw[E.gv];exact t,c,λr=>⟨_,K.jH hi b d (cf n) rfl ⟨a,rfl,g,v⟩ d1 d2 ⟨λx w=>w,rfl,rfl,rfl,rfl,λ_ q=>q⟩ (λl hl=>?_) (λl hl=>?_) (λx w=>φ w) (by have:=K.lb;show D.aN.length<=100*(n+1);omega) (K.cfg i hi).1 rfl ⟨rfl,rfl,rfl⟩ (tY c (by simp) (by simp) (λ_ q=>q))⟩⟩⟩
 have h:=K.en i j hi b d l hl;show mg (ah (F i).outs k _ l) ((F j).ins l) (dZ D.e i k _ i l);unfold dZ;by_cases e:l=k;subst e;rw[aR,aG ⟨rfl,rfl⟩];exact⟨h.wrote,h.fin,rfl,λ_=>rfl,h.read,h.state,h.af⟩
 rw[aX _ _ e,aB (λq=>e q.2)];exact h;show mg ((F j).outs l) ((F i).ins l) (dZ D.e i k _ j l);unfold dZ;rw[aB (λq=>s q.1)];exact K.en j i b hi s l hl
def bl.F8(K:bl D F n)(hi:i<2)(a:j<2)(g:i≠j)(M:n<=90000)(r:k<4)(O:0<=p):
 ∃m N code data,(D.st i).do ⟨7,(k:Int),p,0,⟨#[]⟩⟩=(⟨0,-1,N,code,data,[]⟩,.ai m)/\vV (D.e j k) p N code data/\(D.e j k).wrote.size<=4096/\(data=((F i).read k p).1/\N=((F i).read k p).2.1)/\∀C,∃G,bl {D with st:=ah D.st i (.ai m),A:=C,e:=dZ D.e j k {D.e j k with read:=(D.e j k).read+data.length,state:=N}} G (n+1)/\G=ah F i ((F i).read k p).2.2.2.2:=by
 have t:j≠i:=λe=>g e.symm
 have E:=K.en j i a hi t k r;have u:(F i).ask ⟨7,(k:Int),p,0,⟨#[]⟩⟩=(⟨((F i).read k p).2.2.2.1,-1,((F i).read k p).2.1,((F i).read k p).2.2.1,((F i).read k p).1,[]⟩,((F i).read k p).2.2.2.2):=rfl;obtain⟨b,s,d1,d2,b1,b2,P,Q,R,S,T,U,V,H,W,X⟩:=Rw (K.dR a) (K.dR hi) (K.dir j i a hi t) (K.dir i j hi a g) r O;have f:b.closed=(F i).closed/\b.key=(F i).key/\b.me=(F i).me/\b.aj=(F i).aj/\b.ag=(F i).ag/\b.bG=(F i).bG:=by
  rw[s];unfold an.read;split<;>exact⟨rfl,rfl,rfl,rfl,rfl,rfl⟩
 obtain⟨m,v,I,Y⟩:=K.ask hi M ⟨7,(k:Int),p,0,⟨#[]⟩⟩ (by simp[aW]) (by simp) (by rw[u,<-s,f.1];exact(K.dR hi).cl);rw[u,Q]at v;rw[u,<-s]at I;refine⟨m,_,_,_,v,⟨by rw[E.read];exact((K.dR hi).fU k r).rd.1,R,by rw[E.read,E.wrote];exact S,by rw[E.read,E.wrote];exact T,λh=>by rw[E.state]at h⊢;exact U h,?_⟩,by rw[E.wrote];exact((K.dR a).out k r).sz,⟨rfl,rfl⟩,λC=>⟨_,K.jH hi a g (cf n) rfl ⟨m,rfl,I,Y⟩ d2 d1 ⟨λx w=>by rw[b1];exact w,f.2.1,f.2.2.1,f.2.2.2.1,f.2.2.2.2.1,λd q=>by rw[f.2.2.2.2.2];exact q⟩ (λl hl=>?_) (λl hl=>?_) (λx w=>φ w) (by have:=K.lb;show D.aN.length<=100*(n+1);omega) (by rw[b2];exact(K.cfg i hi).1) rfl ⟨rfl,rfl,rfl⟩ (tY v (by simp) (by simp) (λx q=>by rw[b1];exact q)),by rw[s]⟩⟩
 obtain q|⟨y,z,B,q4⟩|⟨y,z,B⟩:=X
 exact φ q;refine ψ (φ ⟨y,by rw[E.fin];exact z,?_,q4⟩);rw[E.read,E.wrote,<-H];exact B;have L:(D.e j k).given=ρ:=by rw[E.gv];exact z
 exact ψ (ψ ⟨y,L,by rw[E.code L];exact B⟩);show mg (b.outs l) ((F j).ins l) (dZ D.e j k _ i l);unfold dZ;rw[P,aB (λq=>g q.1)];exact K.en i j hi a g l hl;have c:=K.en j i a hi t l hl;show mg ((F j).outs l) (b.ins l) (dZ D.e j k _ j l);unfold dZ;by_cases e:l=k;subst e;rw[aG ⟨rfl,rfl⟩];exact⟨c.wrote,c.fin,c.gv,c.code,by rw[H];simp only;rw[c.read],W.symm,c.af⟩
 rw[V,aX _ _ e,aB (λq=>e q.2)];exact c
def bl.A7(K:bl D F n)(hi:i<2)(b:ByteArray)(h:¬eH D.key (Go.Proofs.YtjnmokmchdfchaaGreatDoor.aK (decide (i≠0))) (aI b)):(D.st i).do ⟨6,0,0,0,b⟩=(⟨4,-1,0,0,[],[]⟩,D.st i):=by
 obtain⟨s,e,a,-⟩:=K.aK i hi;obtain⟨-,-,-,f,g⟩:=K.cfg i hi;have j:s.key=D.key:=a.c.key.symm.trans f;have k:(!s.first)=decide (i≠0):=by
  have d:=a.c.me;rw[g]at d;have l:i=0\/i=1:=by omega
  cases m:s.first<;>rw[m]at d<;>rcases l with q|q<;>subst q<;>simp_all
 rw[e];have:(aE.ai s).recv (aI b)=(4,-1,.ai s):=by
  show s.recv (aI b)=_;unfold Sd.recv;rw[j,k,aG h]
 unfold aE.do;simp[this]
def cN.Sf{b:an}(D:cN X b)(d:List Int):cN {X with due:=d} b:=⟨D.key,D.me,D.ag,D.sn,D.aK,D.fr,D.ak,D.aF,D.ev,D.tk,D.cm,D.tf⟩
def cN.Sg{b:an}(D:cN X b)(d:List Int):cN X {b with due:=d}:=D.same rfl rfl rfl rfl rfl
def Ga{x:Int×List Fr}(h:oX X L x):16<L.length:=by
 obtain⟨b,-,a⟩:=h;by_cases c:L.length=16;have:(dJ X.key X.me (bm L) (bX L)).length=0:=by
  rw[oa];unfold bX;rw[ct,dO];omega
 unfold fu at a;rw[aG this]at a;cases a;have:=b.1;omega
def bl.Gb(K:bl D F n)(hi:i<2)(p:j<2)(r:i≠j)(X:n<=90000):
 ∃E ps,(D.st i).do ⟨5,0,0,0,⟨#[]⟩⟩=(⟨0,-1,0,0,[],ps⟩,.ai E)/\ps.length<=50/\(0<=D.ba i/\D.ba i<=1000000000000)/\(∀l,l<ps.length->FU D i (fj (ps.map strOfNums) l) l)/\
  ∃G,(∃a,yA (F i) (ps.map strOfNums) a/\G=ah F i {(F i).dX a with due:=[]})/\∀H v,bl (jZ D i (j:Int) (.ai E) (ps.map strOfNums) ps.length H v) G (n+1):=by
 have u:j≠i:=λe=>r e.symm
 obtain⟨s,e,I,w⟩:=K.aK i hi;obtain⟨z,P,Y,Q,R⟩:=K.cfg i hi;have A:(D.st i).do ⟨5,0,0,0,⟨#[]⟩⟩=(⟨0,-1,0,0,[],s.bB.2⟩,.ai s.bB.1):=by rw[e];rfl
 have L:=EV (K.ok hi) (by omega) ⟨5,0,0,0,⟨#[]⟩⟩ (by simp[aW]) (λcQ l M=>by rw[A]at M;cases M);rw[A]at L;obtain⟨hl,-⟩:=aE.EN (K.ok hi) (by omega);rw[e]at hl;have hl:s.bB.2.length<=50:=hl;obtain⟨a,B,S⟩:=Ra I w (by omega);obtain⟨d1,d2,d3,d4,d5⟩:=Rr a (s.bB.2.map strOfNums) (F i) B.len B.each (K.dR hi).out (K.dir i j hi p r) (K.dir j i p hi u);have hc:=w.ba;have T:D.ba i=s.count:=by rw[z,I.c.next]
 rw[dd]at d4 d5;refine⟨_,_,A,hl,by rw[T];omega,λl h=>?_,ah F i {(F i).dX a with due:=[]},⟨a,B,rfl⟩,λH v=>?_⟩
 obtain⟨x,f,m,p2,p3⟩:=d5 l h;have N:=Ga m;rw[fN]at N;refine⟨?_,by rw[m.2.1,p2,z],by rw[<-P];exact p3,N⟩
 have:=m.1;rw[Q,R]at this;have U:i=0\/i=1:=by omega
 obtain q|q:=U<;>subst q<;>simpa [Go.Proofs.YtjnmokmchdfchaaGreatDoor.aK]using this
 have V:∀l,l<s.bB.2.length->∃y∈((F i).dX a).av,oX {(F i).dX a with due:=[]} (aI (fj (s.bB.2.map strOfNums) l)) y:=λl h=>by
  obtain⟨x,f,m,-,-⟩:=d5 l h;refine⟨x,f,?_⟩
  unfold oX at m⊢;show eH ((F i).dX a).key ((F i).dX a).me _/\_;rw[d3.may.key,d3.may.me];exact m
 refine K.jH hi p r (cf n) rfl ⟨_,rfl,S.mono (cf n),L⟩ (d1.Sf []) (d2.Sg []) ⟨d3.sub,d3.may.key,d3.may.me,d3.may.aj,d3.may.ag,λd q=>by show Sm ((F i).dX a).bG.sp d;rw[d3.may.bG];exact q⟩ (λl h=>?_) (λl h=>?_) (λx f=>?_) ?_ ?_ ?_ ⟨rfl,rfl,rfl⟩ (λs2 e2 t=>⟨_,rfl,by
  rw[e]at e2;rw[<-aE.ai.inj e2]at t;exact t.cM (Ry w (by omega)) d3.sub (λ_ q=>q)⟩)
 have k:=K.en i j hi p r l h;have o:=d3.may.kp l h;show mg (((F i).dX a).outs l) ((F j).ins l) (D.e i l);exact⟨k.wrote.trans o.data.symm,k.fin.trans o.fin.symm,k.gv.trans o.gv.symm,λg=>(k.code g).trans o.code.symm,k.read,k.state,k.af.1,k.af.2.trans (by rw[d3.may.cm l h])⟩
 show mg ((F j).outs l) (((F i).dX a).ins l) (D.e j l);rw[d3.may.ins];exact K.en j i p hi u l h;have f:x∈D.aN++((s.bB.2.map strOfNums).take s.bB.2.length).map (λb=>((j:Int),b)):=f;obtain f|f:=bL.1 f
 exact φ f;right;obtain⟨b,O,rfl⟩:=eU.1 f;rw[jx (by rw[dd];exact aP _)]at O;obtain⟨l,C,W⟩:=j8.1 O;rw[dd]at C;have:fj (s.bB.2.map strOfNums) l=b:=by
  unfold fj;rw[oy,dT (by rw[dd];exact C),W];rfl
 rw[<-this];exact⟨rfl,V l C⟩
 have:=K.lb;show(D.aN++((s.bB.2.map strOfNums).take s.bB.2.length).map (λb=>((j:Int),b))).length<=_;rw[bF,dd,ct,dd];omega;show ah D.ba i (D.ba i+s.bB.2.length) i=((F i).dX a).next;rw[aR,d4,z];show ah D.ba i (D.ba i+s.bB.2.length) j=D.ba j;rw[aX _ _ u]
def Si(num:Int):∀(a:List Fr)(m:an),(an.fI num a m).1≠6:=by
 intro a;induction a with
 |nil=>intro m;show(0:Int)≠6;decide
 |cons f a b=>
  intro m;have e2:an.fI num (f::a) m=if(m.take f).1=0 then an.fI num a ((m.take f).2.note f num)else((m.take f).1,(m.take f).2.fail (m.take f).1):=rfl
  rw[e2];split;exact b _;show(m.take f).1≠6;unfold an.take;split;split<;>simp;split;split<;>simp;split;show((m.ins f.stream.toNat).bytes f).1≠6;unfold aL.bytes;split;simp;split<;>simp;split<;>simp
def Sj(h:(X.fx L).1=0\/(X.fx L).1=6):(X.fx L).2.2.closed=X.closed/\(X.fx L).2.2.aj=X.aj:=by
 unfold an.fx at h⊢;split;exact⟨rfl,rfl⟩
 rename_i a;rw[aB a]at h;split;exact⟨rfl,rfl⟩
 rename_i b;rw[aB b]at h;split;exact⟨rfl,rfl⟩
 rename_i c;rw[aB c]at h;unfold an.qw at h⊢;split;rename_i hd;rw[hd]at h;simp only at h;omega;rename_i d _ hd;rw[hd]at h;simp only at h;split;exact⟨rfl,rfl⟩
 rename_i f;rw[aB f]at h;simp only at h⊢;obtain q|q:=Fp (bm L) d (X.mark (bm L))
 exact⟨q.closed,q.aj⟩
 exact absurd h (λe=>e.elim q (Si _ _ _))
def bl.yM(K:bl D F n)(M:n<=90000){x:Int×ByteArray}(N:x∈D.aN):
 ∃i r d p,i<2/\x.1=((i:Nat):Int)/\x.2.size<=300/\16<x.2.size/\(D.st i).do ⟨6,0,0,0,x.2⟩=(r,.ai d)/\(r.e=0\/r.e=6)/\fh (n+1) (.ai d)/\(∀l:Nat,l<4->(aE.ai d).af (l:Int)=(p l,0))/\(∀l,l<4->rC D i l (p l))/\
  ∃C,C=ah F i ((F i).fx (aI x.2)).2.2/\∀E,bl (gV {D with st:=ah D.st i (.ai d)} i p 4 E) C (n+1):=by
 obtain⟨j,i,b,hi,k,O,y,h,hP⟩:=K.aN x N;have f:i≠j:=λe=>k e.symm
 obtain⟨t1,t2,t3,t4,t5,t6,t7,t8⟩:=Rm (K.dR b) (K.dR hi) (by omega) (K.dir j i b hi k) (K.dir i j hi b f) h hP;have A:(F i).ask ⟨6,0,0,0,x.2⟩=(⟨((F i).fx (aI x.2)).1,((F i).fx (aI x.2)).2.1,0,0,[],[]⟩,((F i).fx (aI x.2)).2.2):=rfl;obtain⟨s,e,P,X⟩:=K.aK i hi;have G:=hP.1.2.1;have H:=Ga hP;rw[fN]at G H;obtain⟨c,m⟩:=exq (((F i).fx (aI x.2)).2.2);obtain⟨I,L⟩:=Sj t1;rw[<-m]at I L;have Q:c.closed=0:=I.trans (K.dR hi).cl;obtain⟨d,u,v,B⟩:=K.ask hi M ⟨6,0,0,0,x.2⟩ (by simp[aW]) (by simp) (by rw[A,<-m];exact Q);rw[A]at u;rw[A,<-m]at v;rw[<-m]at t2 t3 t4 t5 t6 t7 t8;have hF:=v.dR B;have hp:∀l,l<4->rC D i l (c.outs l).af.eR:=λl hl=>K.FX hi b f hl (t4 l hl).pre (by rw[<-(t4 l hl).data];exact(hF.fr l hl).1) (λR=>by
  have:=FH hF (K.dR b) t3 hl (by rw[(t4 l hl).gv];exact R);rw[<-t3.ag]at this;rw[<-(K.dir i j hi b f).ag];exact this)
 have S:∀l,l<4->0<=(c.outs l).af.eR:=λl hl=>(sx (hF.ck l hl)).1
 refine⟨i,_,d,λl=>(c.outs l).af.eR,hi,O,G,H,u,t1,B,λl hl=>bl.af (V:=D) (m:=F) v hl,hp,ah F i c,by rw[m],λE=>?_⟩
 have T:c.key=(F i).key:=by have w:=t3.key;have z:=(K.dir i j hi b f).key;exact w.symm.trans z
 have U:c.ag=(F i).ag:=by have w:=t3.ag;have z:=(K.dir i j hi b f).ag;exact w.symm.trans z
 have V:c.me=(F i).me:=by have w:=t3.me;have z:=(K.dir i j hi b f).me;omega
 refine K.jH hi b f (cf n) rfl ⟨d,rfl,v,B⟩ t3 t2 ⟨λy h=>by rw[t7];exact h,T,V,L,U,t8⟩ (λl hl=>?_) (λl hl=>?_) (λy h=>φ h) (by have:=K.lb;show D.aN.length<=100*(n+1);omega) (by rw[t6];exact(K.cfg i hi).1) rfl ⟨rfl,rfl,rfl⟩ (λs2 e2 t=>⟨d,rfl,by
  rw[e]at e2;rw[<-aE.ai.inj e2]at t;rw[e]at u;obtain⟨Y,r2,W⟩:=AS u;exact(RB P (K.dir j i b hi k) t h hP W).cM (kE.refl _) (λy q=>by rw[t7];exact q) (λ_ q=>q)⟩)
 have a:=K.en i j hi b f l hl;have o:=t4 l hl;show mg (c.outs l) ((F j).ins l) (gT D.e i (λl=>(c.outs l).af.eR) 4 i l);unfold gT;rw[aG ⟨rfl,hl⟩];exact⟨a.wrote.trans o.data.symm,a.fin.trans o.fin.symm,a.gv.trans o.gv.symm,λg=>(a.code g).trans o.code.symm,a.read,a.state,S l hl,rfl⟩
 have a:=K.en j i b hi k l hl;show mg ((F j).outs l) (c.ins l) (gT D.e i (λl=>(c.outs l).af.eR) 4 j l);unfold gT;rw[aB (λq=>k q.1)];exact⟨a.wrote,a.fin,a.gv,a.code,a.read.trans (t5 l).1.symm,a.state.trans (t5 l).2.symm,a.af⟩
def jf(l:List (Int×ByteArray))(q:Nat):Int×ByteArray:=l.getD q (0,⟨#[]⟩)
def vX{l:List (Int×ByteArray)}(h:n<l.length):jf l n∈l:=by
 unfold jf;rw[oy,dT h];exact uu h
def Sk:∀(l:List (Int×ByteArray))(q:Nat),q<l.length->(l.flatMap je)[q*2]?=μ (ι δ (jf l q).1)/\(l.flatMap je)[q*2+1]?=μ (ς (jf l q).2):=by
 intro l;induction l with
 |nil=>intro q h;simp at h
 |cons x l c=>
  intro q h;cases q with
  |zero=>exact⟨rfl,rfl⟩
  |succ q=>
   obtain⟨a,b⟩:=c q (by simpa using h);have e:(x::l).flatMap je=je x++l.flatMap je:=rI;rw[e,mU (by simp[je];omega),mU (by simp[je];omega)];simp only[je,cS,fM]
   rw[show(q+1)*2-(0+1+1)=q*2 by omega,show(q+1)*2+1-(0+1+1)=q*2+1 by omega];exact⟨a,b⟩
def bV.ua(h:bV w n D)(j:k<D.aN.length):∃g c,D.vb=σ (μ ⟨g,0,ν⟩) D.aN.length c/\κ w ⟨n,20,ν⟩=μ (σ (μ ⟨g,0,ν⟩) D.aN.length c)/\κ w ⟨g,k*2,ν⟩=μ (ι δ (jf D.aN k).1)/\κ w ⟨g,k*2+1,ν⟩=μ (ς (jf D.aN k).2):=by
 obtain⟨a,c,e,-,-,l,m⟩:=sh h.aN;cases a with
 |none=>have:=(l rfl).1;omega
 |some y=>
  obtain⟨b,d⟩:=m y rfl;obtain⟨f1,f2⟩:=Sk D.aN k j;have f:=d _ _ f1;have i:=d _ _ f2;rw[ep]at f i;refine⟨y.block,c,by rw[e,<-b],?_,f,i⟩
  rw[h.c.1.2.2.2.2.1,e,<-b]
def Gc(w:ω)(nb:Nat)(V:Nw)(m:Nat->an)(n:Nat)(H:bV w nb V)(f:Laid w)(K:bl V m n)(Q:n<=90000)(s:cY)(hs:s.ok)(h:s.kind≠6/\s.kind≠9/\s.kind≠8)(h0:V.aN.length≠0):
 Calls prog 85 #[π (μ ⟨nb,0,ν⟩),ε (dj s)] w λe I=>e=ξ (β ρ)/\bS w nb V V I:=by
 obtain⟨b,S⟩:=iG.mk' H f s;obtain⟨d0,d1,d2,d3,d4⟩:=S.cells S.T;have M:=K.lb;obtain⟨L,z⟩:=exq V.aN.length;obtain⟨q,A⟩:=exq (bh s.a L);have R:q<L:=by have:=fk s.a (p:=L) (by omega);omega
 have B:=J (λW=>fJ s.a L W hs.a.1 hs.a.2);rw[<-A]at B;have k:=vX (l:=V.aN) (n:=q) (by omega);obtain⟨g,vc,N,p,r,t⟩:=S.T.at_.ua (k:=q) (by omega);rw[<-z]at p;have U:(0:Int)<=q:=by omega
 have X:(q:Int)<L:=by omega
 have Y:((L:Int)==0)=θ:=by simp;omega
 obtain⟨x,C⟩:=exq (jf V.aN q);rw[<-C]at k r t;have D:=S.e;have k1:(s.kind==6)=θ:=by simpa using h.1
 have k2:(s.kind==9)=θ:=by simpa using h.2.1
 have k3:(s.kind==8)=θ:=by simpa using h.2.2
 have O:=J (λ(W:ω)(g:γ b W ν)=>bS.pre H f S.g (S.T.gb g));have P:=J (λ(W:ω)(g:γ b W ν)=>S.cells (S.T.gb g));replace⟨S,H,f,K,hs,k⟩:=pH S H f K hs k;clear z A C N M;obtain⟨kind,side,sa,a0,str⟩:=s;obtain⟨u,v⟩:=x;simp only at *;clear h;unfold dj at *;simp only at *;go_enter func85,ntmps85;go_upto_region 1 with fail;rw[<-D];clear D;go_upto_region 3 with fail;go_quiet (first|(go_at_call 23;refine Calls.quiet_of_same (Z B _)));obtain⟨c,i⟩:=exq (b.drewN nq);have E:γ b c ν:=by rw[i];exact dv (aD _ ν) _
 have F:∀a,κ c a=κ b a:=λa=>by rw[i];rfl
 rw[<-F]at d0 d1 d2 d3 d4 p r t;rw[<-i];clear i F;go_upto_region 5 with fail;obtain⟨d,j⟩:=exq (c.alloc (ο #[ι δ u,ς v] 83));have G:γ b d ν:=by rw[j];exact aq E (aJ _ _ _)
 have z5:b.heap.size<=c.heap.size:=E.size;have y:d.heap[c.heap.size]?=μ (ο #[ι δ u,ς v] 83 (0,0)):=by rw[j];exact aO _ _
 obtain⟨f0,f1⟩:κ d ⟨c.heap.size,0,ν⟩=μ (ι δ u)/\κ d ⟨c.heap.size,1,ν⟩=μ (ς v):=by simp[World.cell?,y]
 rw[<-j];clear j p r t;replace y:=J y;obtain⟨d0,d1,d2,d3,d4⟩:=Z P d G;go_wp2;go_ret;exact⟨rfl,Z O d G⟩
def bl.Ge(K:bl D F n)(hi:i<2):fh (n+1) (D.st i):=by
 obtain⟨s,e,-,a⟩:=K.aK i hi;rw[e];exact a.mono (cf n)
def Gf(w:ω)(nb:Nat)(V:Nw)(m:Nat->an)(n:Nat)(H:bV w nb V)(b:Laid w)(K:bl V m n)(k:n<=90000)(s:cY)(hs:s.ok)(h0:V.aN.length=0):
 Calls prog 85 #[π (μ ⟨nb,0,ν⟩),ε (dj s)] w λe h=>e=ξ (β ρ)/\bS w nb V V h:=by
 obtain⟨l,S⟩:=iG.mk' H b s;obtain⟨a,c,d,-⟩:=sh S.T.at_.aN;have i:=S.T.at_.c.1.2.2.2.2.1;rw[d,h0]at i;have j:=J (bS.pre H b S.g S.T);have f:=S.e;replace⟨S,H,b,K,hs⟩:=fF S H b K hs;clear d;obtain⟨kind,side,p,q,str⟩:=s;unfold dj at *;simp only at *;go_enter func85,ntmps85;go_upto_region 1 with fail;rw[<-f];clear f;go_wp2;go_ret;exact⟨rfl,Z j⟩
def Sl(w:ω)(nb:Nat)(V:Nw)(m:Nat->an)(n:Nat)(H:bV w nb V)(f:Laid w)(K:bl V m n)(hn:n<=90000)(s:cY)(hs:s.ok)(hk:s.kind=6)(h0:V.aN.length≠0):
 Calls prog 85 #[π (μ ⟨nb,0,ν⟩),ε (dj s)] w (eM w nb V n):=by
 obtain⟨b,S⟩:=iG.mk' H f s;obtain⟨d0,d1,d2,d3,d4⟩:=S.cells S.T;have a3:=K.lb;obtain⟨L,N⟩:=exq V.aN.length;obtain⟨q,O⟩:=exq (bh s.a L);have hq:q<L:=by have:=fk s.a (p:=L) (by omega);omega
 have Q:=J (λW=>fJ s.a L W hs.a.1 hs.a.2);rw[<-O]at Q;have j:=vX (l:=V.aN) (n:=q) (by omega);obtain⟨g,vc,hv,v,k,y⟩:=S.T.at_.ua (k:=q) (by omega);rw[<-N]at v;have q0:(0:Int)<=q:=by omega
 have q1:(q:Int)<L:=by omega
 have l0:((L:Int)==0)=θ:=by simp;omega
 obtain⟨x,R⟩:=exq (jf V.aN q);rw[<-R]at j k y;have U:=S.e;obtain⟨i,r,X,p,hi,a8,b0,-,z,hr,A,B,C,m',-,D⟩:=K.yM hn j;have hw:=K.lu;have bb:=J (λ(W:ω)(g:γ b W ν)=>S.cells (S.T.gb g));have E:=λ(W:ω)(g:γ b W ν)=>FR W nb V (S.T.gb g).at_ (S.T.gb g).laid i hi (n+1) (K.Ge hi) (by omega) (by omega) x.2 (by omega) r (.ai X) z hr A p B C
 have Y:=J (λ(W w':ω)(g:γ b W ν)(h:∃F,bS W nb V (gV {V with st:=ah V.st i (.ai X)} i p 4 F) w')=>(show eM w nb V n (ξ (β ρ)) w' from h.elim (λF T=>S.fin H f ((S.T.gb g).trans T) (cf (n+1)) (D F))));obtain⟨P,hP⟩:=exq (eM w nb V n);rw[<-hP]at Y⊢;replace hP:=J hP;rw[a8]at k;replace⟨E,z,A,B,C,D,S,H,f⟩:=qU E z A B C D S H f;replace⟨K,hs,j⟩:=cz K hs j;clear N O R hv a3;obtain⟨kind,side,sa,b6,str⟩:=s;obtain⟨xt,G⟩:=x;simp only at *;subst hk;unfold dj at *;simp only at *;go_enter func85,ntmps85;go_upto_region 1 with fail;rw[<-U];clear U;go_upto_region 3 with fail;go_quiet (first|(go_at_call 23;refine Calls.quiet_of_same (Z Q _)));obtain⟨c,t⟩:=exq (b.drewN nq);have g2:γ b c ν:=by rw[t];exact dv (aD _ ν) _
 have aC:∀a,κ c a=κ b a:=λa=>by rw[t];rfl
 rw[<-aC]at d0 d1 d2 d3 d4 v k y;rw[<-t];clear t aC;go_upto_region 5 with fail;obtain⟨d,u⟩:=exq (c.alloc (ο #[ι δ i,ς G] 83));have I:γ b d ν:=by rw[u];exact aq g2 (aJ _ _ _)
 have z5:b.heap.size<=c.heap.size:=g2.size;have M:d.heap[c.heap.size]?=μ (ο #[ι δ i,ς G] 83 (0,0)):=by rw[u];exact aO _ _
 obtain⟨f0,f1⟩:κ d ⟨c.heap.size,0,ν⟩=μ (ι δ i)/\κ d ⟨c.heap.size,1,ν⟩=μ (ς G):=by simp[World.cell?,M]
 rw[<-u];clear u v k y;replace M:=J M;obtain⟨d0,d1,d2,d3,d4⟩:=Z bb d I;go_wp2_with (go_at_call 86;apply(Z E d I).mono;rintro e w6⟨rfl,h6⟩;have hf:=J (Z Y d w6 I h6));first|exact Z hf|(go_ret;exact Z hf)
def Sn(w:ω)(nb:Nat)(V:Nw)(m:Nat->an)(n:Nat)(H:bV w nb V)(j:Laid w)(K:bl V m n)(Y:n<=90000)(s:cY)(hs:s.ok)(hk:s.kind=9)(h0:V.aN.length≠0):
 Calls prog 85 #[π (μ ⟨nb,0,ν⟩),ε (dj s)] w (eM w nb V n):=by
 obtain⟨b,S⟩:=iG.mk' H j s;obtain⟨d0,d1,d2,d3,d4⟩:=S.cells S.T;have ax:=K.lb;obtain⟨L,E⟩:=exq V.aN.length;obtain⟨q,F⟩:=exq (bh s.a L);have hq:q<L:=by have:=fk s.a (p:=L) (by omega);omega
 have G:=J (λW=>fJ s.a L W hs.a.1 hs.a.2);rw[<-F]at G;have k:=vX (l:=V.aN) (n:=q) (by omega);obtain⟨g,vc,hv,u,p,v⟩:=S.T.at_.ua (k:=q) (by omega);rw[<-E]at u;have q0:(0:Int)<=q:=by omega
 have q1:(q:Int)<L:=by omega
 have l0:((L:Int)==0)=θ:=by simp;omega
 obtain⟨x,I⟩:=exq (jf V.aN q);rw[<-I]at k p v;have M:=S.e;obtain⟨i,-,-,-,hi,a0,bj,-⟩:=K.yM Y k;obtain⟨f,br⟩:∃f:Nat,(1:Int)-i=f:=⟨1-i,by omega⟩
 have y:f<2:=by omega
 have a1:=J (λ(W:ω)(g:γ b W ν)=>S.cells (S.T.gb g));have z:=λ(W:ω)(g:γ b W ν)=>AY W nb V (S.T.gb g).at_ (S.T.gb g).laid f y n (K.ok y) (by omega) x.2 (by omega) (K.A7 y x.2)
 have N:=J (λ(W O:ω)(g:γ b W ν)(h:∃Q,bS W nb V {V with A:=ah V.A f Q} O)=>(show eM w nb V n (ξ (β ρ)) O from h.elim (λQ T=>S.fin H j ((S.T.gb g).trans T) (by omega) (K.A _))));obtain⟨P,hP⟩:=exq (eM w nb V n);rw[<-hP]at N⊢;replace hP:=J hP;rw[a0]at p;replace⟨z,S,H,j,K,hs,k⟩:=iU z S H j K hs k;clear E F I hv ax;obtain⟨kind,side,sa,bx,str⟩:=s;obtain⟨xt,B⟩:=x;simp only at *;subst hk;unfold dj at *;simp only at *;go_enter func85,ntmps85;go_upto_region 1 with fail;rw[<-M];clear M;go_upto_region 3 with fail;go_quiet (first|(go_at_call 23;refine Calls.quiet_of_same (Z G _)));obtain⟨c,r⟩:=exq (b.drewN nq);have R:γ b c ν:=by rw[r];exact dv (aD _ ν) _
 have U:∀a,κ c a=κ b a:=λa=>by rw[r];rfl
 rw[<-U]at d0 d1 d2 d3 d4 u p v;rw[<-r];clear r U;go_upto_region 5 with fail;obtain⟨d,t⟩:=exq (c.alloc (ο #[ι δ i,ς B] 83));have C:γ b d ν:=by rw[t];exact aq R (aJ _ _ _)
 have z5:b.heap.size<=c.heap.size:=R.size;have D:d.heap[c.heap.size]?=μ (ο #[ι δ i,ς B] 83 (0,0)):=by rw[t];exact aO _ _
 obtain⟨f0,f1⟩:κ d ⟨c.heap.size,0,ν⟩=μ (ι δ i)/\κ d ⟨c.heap.size,1,ν⟩=μ (ς B):=by simp[World.cell?,D]
 rw[<-t];clear t u p v;replace D:=J D;obtain⟨d0,d1,d2,d3,d4⟩:=Z a1 d C;go_wp2_with (go_at_call 84;apply(Z z d C).mono;rintro e w6⟨rfl,h6⟩;have X:=J (Z N d w6 C h6));first|exact Z X|(go_ret;exact Z X)
