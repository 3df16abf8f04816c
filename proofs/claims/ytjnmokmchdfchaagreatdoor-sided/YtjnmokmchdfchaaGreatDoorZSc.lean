import Derived.Test.YtjnmokmchdfchaaGreatDoorZS8
import Derived.Test.YtjnmokmchdfchaaGreatDoorZSa
import Derived.Test.YtjnmokmchdfchaaGreatDoorZSb
set_option maxRecDepth 1000000
set_option maxHeartbeats 0
set_option linter.all false
namespace Go.Proofs.YtjnmokmchdfchaaGreatDoor
open Go.RowKit Tryz
open Go.Value renaming int→I,slice→Y,bool→β,pointer→π,agg→ε,string→ς,tuple→τ
open Go.IntKind renaming i64→X,u64→U,u8→Δ
open Go.Ending renaming returned→ξ
open Go.Obj renaming cells→ο
open Or renaming inl→φ,inr→ψ
open Option renaming some→E,none→N
open Bool renaming true→ρ,false→θ
open Go renaming World→D,Value→υ
open Go.World renaming grownBy→G,cell?→κ,frozen?→χ,setCell→ζ
attribute[local go_sem]Oper.semAt_some
variable{p:Int}{s:List Rg}{i j k l m n:Nat}{S:Nat->Prop}{H:Ot}{T:TypeId}{x y z:υ}{W v w:D}
def eB(l:List Kt)(k:Int):List Pc:=l.flatMap (λx=>if x.1.st=k then x.1.ps else[])
def Dy(l:List Kt)(k:Int)(j:Nat)(a:j<l.length):eB (l.take (j+1)) k=eB (l.take j) k++(if(bZ l j).1.st=k then(bZ l j).1.ps else[]):=by
 unfold eB;rw[tq,pq a,List.flatMap_append];simp
def K1(l:List Kt)(k:Int)(j q:Nat)(a:j<l.length)(b:(bZ l j).1.st=k)(c:q<(bZ l j).1.ps.length):(eB (l.take j) k).length+q<(eB l k).length/\fT (eB l k) ((eB (l.take j) k).length+q)=fT (bZ l j).1.ps q:=by
 have e:eB l k=eB (l.take j) k++((bZ l j).1.ps++eB (l.drop (j+1)) k):=by
  have d:l=l.take (j+1)++l.drop (j+1):=(qp _ _).symm;have f:eB l k=eB (l.take (j+1)) k++eB (l.drop (j+1)) k:=by
   conv=>lhs;rw[d]
   unfold eB;rw[List.flatMap_append]
  rw[f,Dy l k j a,aH b,eF]
 rw[e];refine⟨Ψ,?_⟩
 unfold fT;rw[List.getD,ã,sZ,qo c];rfl
def qJ{a:υ}(h:W.heap[i]?=E (ο #[x,y,z,a] T (0,0))):κ W ⟨i,0,N⟩=E x/\κ W ⟨i,0+1,N⟩=E y/\κ W ⟨i,0+1+1,N⟩=E z/\κ W ⟨i,0+1+1+1,N⟩=E a:=by simp[κ,h]
def K2(l b1 b2 sb fo da t:Nat)(k:Int)(fa:Option Addr)(n C:Nat)(lf:List Kt)(S:Nat->Prop)(d:Nat->D->Prop)
 (F:∀m W p,d m W->G W p N->d m p)
 (y:∀m W,d m W->κ W ⟨b1,0,N⟩=E (π (E ⟨sb,fo,N⟩))/\κ W ⟨b2,0,N⟩=E (I X k)/\κ W ⟨sb,fo+3,N⟩=E (.slice fa n C)/\df W da (.slice fa n C) lf/\oF W S lf)
 (hY:∀m W,d m W->m<(eB lf k).length->YieldAt Fence.wide 1 prog l #[ε (pA (fT (eB lf k) m))] W λe p=>e=ξ (β ρ)/\d (m+1) p/\aj W p (λi=>i<t))
 (W:D) (hB:t<=W.heap.size) (h0:d 0 W):
 CallsIn Fence.wide 2 prog 280 #[.func (.yield l) #[] #[],π (E ⟨b1,0,N⟩),π (E ⟨b2,0,N⟩)] W λe p=>(∃v,e=ξ v)/\d (eB lf k).length p:=by
 apply uU.2;obtain⟨p1,p2,p3,po,-⟩:=y _ _ h0;let⟨a',dc,e',ed,a2⟩:=po.fU
 have H:=(lJ e').2.1;obtain rfl:C=dc:=(lJ e').2.2;clear e';have ee:(n:Int)<=9223372036854775807:=by unfold maxLen at a2;omega
 have ei:n<=C:=O;replace⟨F,y,hY,a2,H⟩:=gT F y hY a2 H;clear po;go_enter func280,ntmps280;go_wp2;go_loopg [13] (n+1) (λg i wr=>∃j:Nat,j<=n/\g=n+1-j/\i=I X j/\d (eB (lf.take j) k).length wr/\t<=wr.heap.size);case atStart=>exact⟨0,O,O,Q,h0,hB⟩
 case round=>
  obtain⟨j,hj,rfl,rfl,z,de⟩:=hrel;by_cases ek:j<n
  .have d1:decide ((j:Int)<n)=ρ:=α;have i1:(j:Int)<n:=O;have A:j<lf.length:=by have:=Z H;omega
   obtain⟨-,-,-,ho,B⟩:=Z y _ _ z;obtain⟨g,rfl,b6⟩:=ho.cell O;let⟨K,L,P,R⟩:=b6 j A
   clear b6 ho;rw[eM]at K L P R;obtain⟨pa,a,pp,a4,f,-⟩:=B _ (pX A);clear B;have u:=f.2.1;have er:=f.2.2.1;have dg:=f.2.2.2.1;unfold maxLen at dg;clear f;have a8:=J (Dy lf k j A);have T:=J (λq=>K1 lf k j q A);have a9:=pX A;obtain⟨kt,b7⟩:=í (bZ lf j);rw[<-b7]at K L P R a4 u a8 T a9;clear b7;let⟨⟨num,tk,st,ps⟩,sv⟩:=kt
   simp only at K L P R a4 u a8 T a9;subst a4;replace u:=J u;obtain⟨W3,V⟩:=í (wr.alloc (ο #[I U num,I X tk,I X st,.slice pa a pp] 325));have g3:G wr W3 N:=by rw[V];exact aC _ _ _
   have s:W3.heap[wr.heap.size]?=E (ο #[I U num,I X tk,I X st,.slice pa a pp] 325 (0,0)):=by rw[V];exact aM _ _
   have j3:=Z F _ _ _ z g3;have dk:t<=W3.heap.size:=by have:=g3.size;omega
   obtain⟨ca,hX⟩:=í wr.heap.size;rw[<-hX]at s;let⟨b0,ev,ey,b3⟩:=m8 s
   replace s:=J s;go_upto_region 3 with fail;rw[<-V,<-hX];rw[<-hX]at de;clear V hX K L P R z g3;go_wp2_with fail;have s:=Z s;obtain⟨M,hM⟩:=í ((eB (lf.take j) k).length);rw[<-hM]at j3 T;go_loopg [20] (a+1) (λg i br=>∃q:Nat,q<=a/\g=a+1-q/\i=I X q/\d (M+if st=k then q else 0) br/\br.heap[ca]?=E (ο #[I U num,I X tk,I X st,.slice pa a pp] 325 (0,0))/\t<=br.heap.size);case atStart=>exact⟨0,O,O,Q,by simpa using j3,s,dk⟩
   case round=>
    obtain⟨q,hq,rfl,rfl,w,dm,dn⟩:=hrel;by_cases eL:q<a
    .have d2:decide ((q:Int)<a)=ρ:=α;have i2:(q:Int)<a:=O;have cf:q<ps.length:=by have:=Z u;omega
     obtain⟨-,q2,-,-,B⟩:=Z y _ _ w;obtain⟨a1,n1,c1,e1,f,-⟩:=B _ a9;clear B;simp only at e1 f;obtain⟨rfl,rfl,rfl⟩:=lJ e1;clear e1;have du:∃b o,pa=E ⟨b,o,N⟩:=by
      obtain h|⟨b,o,h,-⟩:=f.2.2.2.2
      omega;exact⟨b,o,h⟩
     obtain⟨pb,po,rfl⟩:=du;let⟨x0,x1,x2,x3⟩:=f.cell q cf
     clear f;have cm:=J (λc=>Z T q c cf);obtain⟨⟨xl,xh⟩,xe,xg,cx⟩:∃(r:Rg)(e g:Bool),fT ps q=⟨r,e,g⟩:=⟨_,_,_,Q⟩
     rw[cx]at x0 x1 x2 x3 cm;clear cx;simp only at x0 x1 x2 x3;obtain⟨W5,ak⟩:=í (wr.alloc (ο #[I U xl,I U xh,β xe,β xg] 377));have g5:G wr W5 N:=by rw[ak];exact aC _ _ _
     have bM:W5.heap[wr.heap.size]?=E (ο #[I U xl,I U xh,β xe,β xg] 377 (0,0)):=by rw[ak];exact aM _ _
     let⟨z0,z1,z2,z3⟩:=qJ bM
     have j5:=Z F _ _ _ w g5;have x:=bp dm g5;have e9:=(m8 x).2.2.1;have q5:=ì g5 q2;have dv:t<=W5.heap.size:=by have:=g5.size;omega
     clear q2;replace⟨bM,x⟩:=aT bM x;go_upto_region 6 with fail;rw[<-ak];generalize wr.heap.size=Y at *;clear ak x0 x1 x2 x3;by_cases c:st=k
     .let⟨hm,hp⟩:=Z cm c
      rw[aH c]at j5;let⟨fn,fc,ff,fi,hy,hR⟩:=Z hY _ _ j5 hm
      rw[hp]at hy;unfold pA at hy;simp only at hy;subst c;apply(wpIn_wide (n:=2)).1;gi_wp2;apply hR.mono;clear hy hR;rintro e W6⟨rfl,ea,C6⟩;gi_wp2;go_wp2;go_roundg (a+1-(q+1));case measure=>omega
      case rel=>exact⟨q+1,O,Q,by go_num,by rw[aH trivial];exact ea,(C6.block ca (aV.1 (Z x)).1 O).trans (Z x),by have:=C6.size;omega⟩
     have hd:((st:Int)==k)=θ:=by simpa using c
     rw[aE c]at j5;go_wp2;go_roundg (a+1-(q+1));case measure=>omega
     case rel=>exact⟨q+1,O,Q,by go_num,by rw[aE c];exact j5,Z x,dv⟩
    obtain rfl:q=a:=O;have d2:decide ((q:Int)<q)=θ:=é;go_wp2;go_roundg (n+1-(j+1));case measure=>omega
    case rel=>
     refine⟨j+1,O,Q,by go_num,?_,dn⟩
     rw[Z a8,bS,<-hM];have:=Z u;by_cases c:st=k;rw[aH c]at w⊢;rw[<-this];exact w;rw[aE c]at w⊢;exact w
  obtain rfl:j=n:=O;have d1:decide ((j:Int)<j)=θ:=é;go_wp2;apply eP (dV Q _ _ _) Q;refine⟨⟨_,Q⟩,?_⟩
  rw[Z H,kC]at z;exact z
structure Du where
 l:List Rg
 e:Bool
 g:Bool
def Du.leave(d:Du)(p:Pc):Du:=⟨mV d.l p.x,d.e&& !p.e,d.g&& !p.g⟩
def Ot.Ab(o:Ot):Du:=⟨kK o.h.af ⟨o.h.fr,o.h.fr+o.h.bytes.length⟩,o.uE,o.uG⟩
def qa(o:Ot)(ps:List Pc)(m:Nat):Du:=(ps.take m).foldl Du.leave o.Ab
def xY(o:Ot)(ps:List Pc)(m:Nat)(h:m<ps.length):qa o ps (m+1)=(qa o ps m).leave (fT ps m):=by
 unfold qa;rw[tq,xJ h,wU];rfl
def Li(l:List Rg)(x:Rg)(c:x.lo<x.hi)(h:∀r∈l,x.hi<=r.lo):(mU l x).length<=l.length:=by
 induction l with
 |nil=>exact aP _
 |cons r l b=>
  have e:mU (r::l) x=((if r.lo<min r.hi x.lo then[⟨r.lo,min r.hi x.lo⟩]else[])++(if max r.lo x.hi<r.hi then[⟨max r.lo x.hi,r.hi⟩]else[]))++mU l x:=rfl;have a:=h r Γ;have:=b (λr a=>h r (by simp[a]));rw[e,ê,bS,bS,dY];split<;>simp<;>omega
def Lj(l:List Rg)(x:Rg)(h:bk l)(a:x.lo<x.hi):(mU l x).length<=l.length+1:=by
 induction l with
 |nil=>simp[mU]
 |cons r l b=>
  have e:mU (r::l) x=((if r.lo<min r.hi x.lo then[⟨r.lo,min r.hi x.lo⟩]else[])++(if max r.lo x.hi<r.hi then[⟨max r.lo x.hi,r.hi⟩]else[]))++mU l x:=rfl;have g:=b h.tail;rw[e,bS,bS,dY];by_cases c:r.lo<min r.hi x.lo;by_cases d:max r.lo x.hi<r.hi;have i:=Li l x a (λy f=>by
   have:=(qW.1 h.1).1 y f;omega)
  rw[aH c,aH d];simp;omega;grind;grind
def Ac(x:Rg)(h:bk s):(mV s x).length<=s.length+1:=by
 unfold mV;split;exact Lj s x h O;omega
def Lk(af:List Rg)(x:Rg):(kK af x).length<=af.length+1:=by
 unfold kK;have key:∀(c l:List Rg),bk l->(c.foldl mV l).length<=c.length+l.length:=by
  intro c;induction c with
  |nil=>intro l _;simp
  |cons r c b=>
   intro l hl;have:=b (mV l r) (vq r hl);have a:=Ac r hl;simp only[pd,dY]
   omega
 have:=key af (eu [] x) (oD x bk.nil);have a:=xF [] x;simp at a;omega
def DE(o:Ot)(ps:List Pc)(m:Nat)(h:m<=ps.length):bk (qa o ps m).l:=by
 induction m with
 |zero=>exact vr _ _
 |succ m a=>
  rw[xY o ps m O];exact vq _ (a O)
def DF(o:Ot)(ps:List Pc)(m:Nat)(h:m<=ps.length):(qa o ps m).l.length<=o.h.af.length+1+m:=by
 induction m with
 |zero=>exact Lk _ _
 |succ m a=>
  rw[xY o ps m O];have b:=Ac (fT ps m).x (DE o ps m O);unfold Du.leave;simp only
  omega
def gD(W:D)(b f:Nat)(h:Nat->Prop)(d:Du):Prop:=∃a n c,W.heap[b]?=E (ο #[Y a n c,β d.e,β d.g] 332 (0,0))/\bq W a n c d.l/\(d.l≠[]->∀y,a=E y->f<=y.block/\¬h y.block)
def gD.ag{d:Du}(h:gD W k i S d)(g:G W w N):gD w k i S d:=by
 let⟨a,n,c,b,e,f⟩:=h
 exact⟨a,n,c,j9 b g,e.ag g,f⟩
def gD.put{W':D}{j:Nat}{d:Du}(h:gD W k i S d)(g:G W W' (E j))(p:j≠k)(q:S j):gD W' k i S d:=by
 let⟨a,n,c,b,f,l⟩:=h
 exact⟨a,n,c,(g.block k (aV.1 b).1 (λe=>p (aR e).symm)).trans b,f.dR (λhl y m=>g.block _ (by subst m;exact f.lt hl) (λe=>(l hl y m).2 ((aR e)▸q))),l⟩
def DG(w:D)(b h:Nat)(f:Nat->Prop)(d:Du)(p:Pc)(u:gD w b h f d)(v:f b)(P:∀k,f k->k<w.heap.size)(R:h<=w.heap.size)(m:bk d.l)(z:p.x.ok)(S:d.l.length<=1000000):
 Calls prog 241 #[π (E ⟨b,0,N⟩),ε (pA p)] w λr i=>r=ξ (τ #[])/\gD i b h f (d.leave p)/\G w i (E b):=by
 let⟨a,n,c,A,q,s⟩:=u
 refine(Lh w b 0 _ _ a n c _ _ _ _ _ _ A Q Q Q q (λhl y j e=>(s hl y j).2 (e▸v)) m z (by have:=q.2.1;omega)).mono ?_;rintro r i⟨rfl,B,C,F,T,g,H,K,t,L,V,M⟩;have e:=IT m L M;subst e;refine⟨Q,⟨B,C,F,by rw[H];rfl,K,λhl y j=>?_⟩,g⟩
 obtain rfl|t:=t
 refine s (λe0=>hl ?_) y j;unfold Du.leave;simp only[e0]
 unfold mV;split<;>rfl;grind
structure vH(w:D)(c sb b a:Nat)(o:Ot)(k:Int)(ps:List Pc)(r:Loop)(m:Nat)(W:D):Prop where
 mL:m<=ps.length
 box:gD W a b (λj=>(a<=j/\j<=a+4)\/j=b) (qa o ps m)
 b1:W.heap[a+1]?=E (ο #[π (E ⟨sb,91,N⟩)] 321 (0,0))
 b2:W.heap[a+2]?=E (ο #[I X k] 3 (0,0))
 tT:W.heap[a+3]?=E (.deferred (E []))
 lS:W.heap[a+4]?=E (.loop r)
 res:W.heap[b]?=E (ο #[Y N 0 0,β θ,β θ] 332 (0,0))
 gb:G w W N
def vH.dR{ps:List Pc}{r:Loop}(h:vH w n i j l H p ps r m W)(g:G W v N):vH w n i j l H p ps r m v:=
 ⟨h.mL,h.box.ag g,j9 h.b1 g,j9 h.b2 g,j9 h.tT g,j9 h.lS g,j9 h.res g,aq h.gb g⟩
def Sd.due(s:Sd)(k:Nat):Du:=(s.aO.flatMap (λ(x:Pk)=>if x.st=(k:Int)then x.ps else[])).foldl Du.leave (s.out k).Ab
def Ad(s:Sd)(lf:List Kt)(k:Nat)(h:s.aO=lf.map (·.1)):s.due k=qa (s.out k) (eB lf k) (eB lf k).length:=by
 unfold Sd.due qa eB;rw[kC,h,List.flatMap_map]
def Ll(w:World)(a1 sb:Nat)(cs:Array υ)(v:aY)(s:Sd)(H:bF w a1 sb cs v s)(k:Nat)(hk:k<4)(hn:(s.out k).h.nice)(hl:(s.out k).h.af.length+(eB v.lf k).length<=900000):
 CallsIn Fence.wide 3 prog 207 #[π (E ⟨sb,0,N⟩),I .i64 k] w λe w'=>(∃a n c,e=ξ (ε #[Y a n c,β (s.due k).e,β (s.due k).g])/\bq w' a n c (s.due k).l/\((s.due k).l≠[]->∀y,a=E y->w.heap.size<=y.block))/\G w w' N:=by
 refine callsIn_of_wp_marks func207 Q trivial ?_ Q;simp only[ntmps207,wR,dY,eJ,Nat.reduceAdd,Nat.reduceSub,Array.replicate_succ,Array.replicate_zero,List.push_toArray,List.append_toArray,mg,rU]
 apply wpIn_wide.2;let⟨ab,nb,cb,ac,nc,cc,du,dv⟩:=(H.out k hk).oE
 have P:=H.out k hk;rw[du,dv]at P;have hM:=J (λW(g:G w W _)=>Je W sb _ ab nb cb ac nc cc _ ((P.ag g).hd (j9 H.aG g) hn) ((P.ag g).tail (j9 H.aG g)));have hF:=J (λW=>Ks ⟨sb,91,N⟩ (k:Int) W);rw[<-show 19+k*9=19+9*k by omega]at hM;have i1:(k:Int)<4:=O;have d1:decide ((k:Int)<4)=ρ:=bU i1;obtain⟨W1,a3⟩:=í (w.alloc (ο #[Y N 0 0,β θ,β θ] 332));have g1:G w W1 N:=by rw[a3];exact aC _ _ _
 have t:W1.heap[w.heap.size]?=E (ο #[Y N 0 0,β θ,β θ] 332 (0,0)):=by rw[a3];exact aM _ _
 replace⟨P,t⟩:=aT P t;go_upto_region 1 with fail;rw[<-a3];clear a3;go_wp2_with fail;apply(Z hM W1 g1).mono;rintro e f⟨⟨a2,n2,c2,l2,rfl,m1,m2,m3,m4,m5⟩,g2⟩;have dx:=Co (x:=⟨(s.out k).h.fr,_⟩) m2 m5;subst dx;obtain⟨q,S⟩:=í (f.alloc (ο #[Y a2 n2 c2,β (s.out k).uE,β (s.out k).uG] 332));have g3:G f q N:=by rw[S];exact aC _ _ _
 have b4:q.heap[f.heap.size]?=E (ο #[Y a2 n2 c2,β (s.out k).uE,β (s.out k).uG] 332 (0,0)):=by rw[S];exact aM _ _
 have z3:q.heap.size=f.heap.size+1:=by rw[S];simp
 have ea:=J (j9 (Z t) (aq g2 g3));have eb:=(aV.1 (j9 (Z t) g2)).1;have b5:gD q f.heap.size w.heap.size (λj=>(f.heap.size<=j/\j<=f.heap.size+4)\/j=w.heap.size) (s.out k).Ab:=⟨a2,n2,c2,b4,m1.ag g3,λhl y A=>by
  have h1:=m3 y A;have T:y.block<f.heap.size:=by subst A;exact m1.lt hl
  have h3:=(aV.1 (Z t)).1;refine⟨by have:=g1.size;omega,λh=>?_⟩
  obtain h|h:=h<;>omega⟩
 replace⟨b5,b4⟩:=aT b5 b4;go_upto_region 2 with fail;rw[<-S];clear S;go_wp2_with (go_at_call 240;apply(Z hF _).mono;rintro e w'⟨rfl,rfl⟩);obtain⟨b,V⟩:=í ((q.alloc (ο #[π (E ⟨sb,91,N⟩)] 321)).alloc (ο #[I .i64 k] 3));rw[<-V];have g6:G q b N:=by rw[V];exact aW (aW (au _ _) _) _
 have z6:b.heap.size=f.heap.size+3:=by rw[V];simp[z3]
 have f1:b.heap[f.heap.size+1]?=E (ο #[π (E ⟨sb,91,N⟩)] 321 (0,0)):=by rw[V,fE _ _ _ (by simp[z3]),<-z3];exact aM _ _
 have f2:b.heap[f.heap.size+2]?=E (ο #[I .i64 k] 3 (0,0)):=by
  have:=aM (q.alloc (ο #[π (E ⟨sb,91,N⟩)] 321)) (ο #[I .i64 k] 3);rw[dJ,z3]at this;rw[V];exact this
 have ec:=aq g1 (aq g2 (aq g3 g6));have ed:=(Z b5).ag g6;have ee:=j9 (Z ea) g6;generalize e6:f.heap.size=D at *;have e7:=eb;apply(wpIn_wide (n:=3)).1;apply Dx (n:=280) Q (enters_of func280 Φ Q);intro fn;generalize u:Loop.mk _ _ _ _ _ _ _ _=d;have g8:G b ((b.alloc (.deferred (E []))).alloc (.loop d)) N:=aW (aW (au b _) _) _;have c9:((b.alloc (.deferred (E []))).alloc (.loop d)).heap[b.heap.size+1]?=E (.loop d):=by
  have:=aM (b.alloc (.deferred (E []))) (.loop d);rwa[dJ]at this
 have da:((b.alloc (.deferred (E []))).alloc (.loop d)).heap[b.heap.size]?=E (.deferred (E [])):=by
  rw[fE _ _ _ Γ];exact aM _ _
 have z8:((b.alloc (.deferred (E []))).alloc (.loop d)).heap.size=b.heap.size+2:=Γ;generalize (b.alloc (.deferred (E []))).alloc (.loop d)=W8 at *;rw[z6]at c9 da z8⊢;let⟨fa,ei,db,ej,ek⟩:=H.fl.of.fU
 have b6:=H.fl.of;rw[db]at b6;have b7:=(ba H.aG _).trans H.fl.c3;rw[db]at b7;have b8:=H.bB.iG.sub (m:=v.lf) (λx hx=>jK _ hx);have dc:vH w a1 sb w.heap.size D (s.out k) (k:Int) (eB v.lf k) d 0 W8:=⟨O,ed.ag g8,j9 f1 g8,j9 f2 g8,da,c9,j9 ee g8,aq ec g8⟩
 refine(K2 (D+4) _ (D+2) sb 91 a1 (D+5) _ fa _ ei v.lf _ _ (λm W W' h g=>h.dR g) (λm W h=>⟨(qI h.b1).1,(qI h.b2).1,ì h.gb b7,b6.ag h.gb,b8.aA (aj.of h.gb) (λk _ e=>by cases e)⟩) ?hY _ O dc).mono ?post;case post=>
  rintro e q⟨⟨v3,rfl⟩,h⟩;clear dc b8 b6 b7 ej ek;let⟨eo,ai,a4,a8,hd,hr,ak,hg⟩:=h
  have de:=(aV.1 hr).1;have er:d.pending=N:=by rw[<-u]
  refine⟨_,_,run_endLoop hr (by rw[<-u];simp),?_⟩
  obtain⟨B,a9⟩:∃W,W=q.putObj (D+4) (.loop {d with state:=.exhausted}):=⟨_,rfl⟩
  rw[<-a9,er];have r:∀i,i≠D+4->B.heap[i]?=q.heap[i]? :=λi hi=>by rw[a9];exact World.putObj_heap_other hi
  have g4:G q B (E (D+4)):=by rw[a9];exact grownBy_putObj' q _ _
  have ca:B.heap[D+3]?=E (.deferred (E [])):=by rw[r _ O];exact hd
  have bb:=(r _ O).trans ak;let⟨K,n4,c4,q1,q2,q3⟩:=ai.put g4 O (φ ⟨O,O⟩)
  obtain⟨⟨p0,p1,p2⟩,-⟩:=sh q1;let⟨⟨e8,e9,fb⟩,z0,z1,z2⟩:=sh bb
  rw[<-Ad s v.lf k H.aO]at p1 p2 q1 q2 q3;clear a9 a4 a8 hd hr ak ai;replace⟨r,u,ca,q1,q3,bb,H⟩:=mX r u ca q1 q3 bb H;dsimp only
  gi_wp2;go_wp2;obtain⟨L,al⟩:=í (((ζ B ⟨w.heap.size,0,N⟩ (Y K n4 c4)).setCell ⟨w.heap.size,1,N⟩ (β (s.due k).e)).setCell ⟨w.heap.size,2,N⟩ (β (s.due k).g));rw[<-al];have et:L.heap[D+3]?=E (.deferred (E [])):=by
   rw[al,dr _ _ _ _ (by simp<;>omega),dr _ _ _ _ (by simp<;>omega),dr _ _ _ _ (by simp<;>omega)];exact Z ca
  have ev:L.heap[w.heap.size]?=E (ο #[Y K n4 c4,β (s.due k).e,β (s.due k).g] 332 (0,0)):=by
   rw[al];have h1:=heap_set (o:=0) (Z bb) (Y K n4 c4);have T:=heap_set (o:=1) h1 (β (s.due k).e);have h3:=heap_set (o:=2) T (β (s.due k).g);exact h3
  have g5:G B L (E w.heap.size):=by rw[al];exact aD (aD (aD (au B _) ⟨_,0,_⟩ _ (ψ Q)) ⟨_,1,_⟩ _ (ψ Q)) _ _ (ψ Q)
  clear al;refine⟨Γ,φ ⟨_,_,Q,run_takeDeferred et,?_⟩⟩
  have g7:=grownBy_putObj' L (D+3) (.deferred N);have ey:(L.putObj (D+3) (.deferred N)).heap[w.heap.size]?=E (ο #[Y K n4 c4,β (s.due k).e,β (s.due k).g] 332 (0,0)):=by rw[World.putObj_heap_other O];exact ev
  generalize L.putObj (D+3) (.deferred N)=W7 at *;obtain⟨⟨s0,s1,s2⟩,-⟩:=sh ey;have ez:∀y,(s.due k).l≠[]->K=E y->y.block<B.heap.size:=λy hl hy=>by subst hy;exact q2.lt hl
  have eK:=q2.dR (λhl y A=>by
   have h1:=ez y hl A;have T:=(Z q3 hl y A).2;rw[g7.block _ (by have:=g5.size;omega) (λe=>T (φ (by have:y.block=D+3:=aR e;omega))),g5.block _ h1 (λe=>T (ψ (aR e)))])
  refine⟨_,?_,⟨K,n4,c4,Q,eK,λhl y A=>(Z q3 hl y A).1⟩,?_⟩
  .simp[results,results207,go_sem, *]
  exact cO (cO (cO hg g4 (λj e=>by cases e;left;omega)) g5 (λj e=>by cases e;left;omega)) g7 (λj e=>by cases e;left;omega)
 case hY=>
  intro m W h hm;suffices eL:∀R:Ending->World->Prop,(∀W',vH w a1 sb w.heap.size D (s.out k) (k:Int) (eB v.lf k) d (m+1) W'->aj W W' (λi=>i<D+5)->R (ξ (β ρ)) W')->
   YieldAt Fence.wide 1 prog (D+4) #[ε (pA (fT (eB v.lf k) m))] W R from eL _ (λW' h C=>⟨Q,h,C⟩)
  intro R cf;replace cf:=J cf;have dg:(fT (eB v.lf k) m).x.ok:=by
   have dk:=xK hm;unfold eB at dk;let⟨x,hx,ch⟩:=List.mem_flatMap.1 dk
   split at ch;obtain⟨a,n,c,e,hp,-⟩:=b8 x hx;exact hp.1 _ ch;cases ch
  have bj:=xY (s.out k) _ m hm;have eS:=DE (s.out k) (eB v.lf k) m O;have fc:=DF (s.out k) (eB v.lf k) m O;refine⟨_,_,_,_,run_yield h.lS (by rw[<-u];rfl),roundIn_of_wpIn trivial ?_⟩
  obtain⟨r1,t⟩:=í d;have e3:r1.state=.ready:=by rw[t,<-u]
  rw[<-t]at h;have e4:Hid (r1=d):=t;rw[<-u];dsimp only
  clear t;replace u:=J u;obtain⟨p,hp⟩:=í (fT (eB v.lf k) m);rw[<-hp]at dg bj⊢;clear hp;replace H:=J H;let⟨⟨xl,xh⟩,pe,pg⟩:=p
  unfold pA;gi_wp2;obtain⟨M,br⟩:=í (W.alloc (ο #[I U xl,I U xh,β pe,β pg] 377));have ga:G W M N:=by rw[br];exact aC _ _ _
  have dm:M.heap[W.heap.size]?=E (ο #[I U xl,I U xh,β pe,β pg] 377 (0,0)):=by rw[br];exact aM _ _
  rw[<-br];clear br;have hX:=(aV.1 h.lS).1;replace h:=h.dR ga;refine⟨_,run_beginRound h.lS e3,?_⟩
  have de:=(aV.1 h.lS).1;obtain⟨z,ao⟩:∃z,z=M.putObj (D+4) (.loop {r1 with state:=.busy}):=⟨_,rfl⟩
  rw[<-ao];have r:∀i,i≠D+4->z.heap[i]?=M.heap[i]? :=λi hi=>by rw[ao];exact World.putObj_heap_other hi
  have bt:z.heap[D+4]?=E (.loop {r1 with state:=.busy}):=by rw[ao];exact World.putObj_heap_same de
  have ax:G M z (E (D+4)):=by rw[ao];exact grownBy_putObj' M _ _
  clear ao;let⟨eo,ai,a4,a8,hd,hr,ak,hg⟩:=h
  have dn:=ai.put ax O (φ ⟨O,O⟩);have bw:=(r _ O).trans a4;have bx:=(r _ O).trans a8;have bz:=(r _ O).trans hd;have bA:=(r _ O).trans ak;have bM:=(r _ O).trans dm;have ff:D+5<=z.heap.size:=by have:=ax.size;omega
  have a0:=J (DG z D w.heap.size _ (qa (s.out k) (eB v.lf k) m) ⟨⟨xl,xh⟩,pe,pg⟩ dn (φ ⟨O,O⟩) (λj hj=>by obtain h|h:=hj<;>omega) O eS dg O);rw[<-bj]at a0;unfold pA at a0;simp only at a0;let⟨x0,x1,x2,x3⟩:=qJ bM
  clear r ai a4 a8 hd hr ak dm dn;replace⟨bt,bz,bw,bx,bA,bM,bj⟩:=mX bt bz bw bx bA bM bj;generalize W.heap.size=X at *;gi_wp2;refine⟨trivial,(CallsIn.inRound _ (uU.2 (Z a0))).mono ?_⟩
  rintro e Wc⟨rfl,cm,gc⟩;have F:∀i,i<z.heap.size->i≠D->Wc.heap[i]?=z.heap[i]? :=λi hi h=>gc.block i hi (λe=>h (aR e))
  have b3:=(F _ O O).trans (Z bt);have cp:=(F _ O O).trans (Z bz);have ct:=(F _ O O).trans (Z bw);have cv:=(F _ O O).trans (Z bx);have cw:=(F _ O O).trans (Z bA);have cx:=cO (cO hg ax (λj e=>by cases e;left;omega)) gc (λj e=>by cases e;left;omega);have cy:aj W Wc (λi=>i<D+5):=(((aj.of ga).trans (aj.of ax)).trans (aj.of gc)).mono (λk _ e=>by
   obtain(e|e)|e:=e
   cases e;have:=aR e;omega
   .have:=aR e;omega)
  clear a0 gc ax ga hg bt bz bw bx bA bM x0 x1 x2 x3;replace⟨b3,cp,ct,cv,cw,cm,cx,cy,F⟩:=rC b3 cp ct cv cw cm cx cy F;gi_wp2;refine⟨_,_,run_endRound _ (Z b3),Z cf _ ?_ ?_⟩
  have e5:=(aV.1 (Z b3)).1;refine⟨O,(Z cm).put (grownBy_putObj' _ _ _) O (φ ⟨O,O⟩),?_,?_,?_,?_,?_,?_⟩
  rw[World.putObj_heap_other O];exact Z ct;rw[World.putObj_heap_other O];exact Z cv;rw[World.putObj_heap_other O];exact Z cp;rw[World.putObj_heap_same e5,Z e4,<-Z u];rfl;rw[World.putObj_heap_other O];exact Z cw;exact cO (Z cx) (grownBy_putObj' _ _ _) (λj e=>by cases e;left;omega);exact((Z cy).trans (aj.of (grownBy_putObj' _ (D+4) _))).mono (λk _ e=>e.elim id (λe=>by have:=aR e;omega))
def Lm(w:D)(b sb:Nat)(d:Array υ)(v:aY)(s:Sd)(H:bF w b sb d v s)(k:Nat)(i:k<4)(j:(s.out k).h.nice)(hl:(s.out k).h.af.length+(eB v.lf k).length<=900000):
 Calls prog 207 #[π (E ⟨sb,0,N⟩),I X k] w λe f=>(∃a n c,e=ξ (ε #[Y a n c,β (s.due k).e,β (s.due k).g])/\bq f a n c (s.due k).l/\((s.due k).l≠[]->∀y,a=E y->w.heap.size<=y.block))/\G w f N:=
 uU.1 (Ll w b sb d v s H k i j hl)
