import Derived.Test.YtjnmokmchdfchaaGreatDoorZL8
import Derived.Test.YtjnmokmchdfchaaGreatDoorZLb
import Derived.Test.YtjnmokmchdfchaaGreatDoorZLc
set_option maxRecDepth 1000000
set_option maxHeartbeats 0
set_option linter.all false
namespace Go.Proofs.YtjnmokmchdfchaaGreatDoor
open Go.RowKit Tryz
open Go.Value renaming int→ι,slice→σ,bool→β,pointer→π,agg→ε,string→ς,tuple→τ
open Go.IntKind renaming i64→δ,u64→η,u8→Δ
open Go.Ending renaming returned→ξ
open Go.Obj renaming cells→ο
open Or renaming inl→φ,inr→ψ
open Option renaming some→μ,none→ν
open Bool renaming true→ρ,false→θ
open Go renaming World→ω,Value→υ
open Go.World renaming grownBy→γ,cell?→κ,frozen?→χ,setCell→ζ
attribute[local go_sem]Oper.semAt_some
variable{H:Act}{c:Array υ}{u:Exit->Act->ω->Prop}{p:Int}{Y:List Rg}{i j k l m n:Nat}{S:Nat->Prop}{U:Oper}{a:Option Addr}{G:Ot}{T:TypeId}{x y z:υ}{W v w:ω}
def qi(h:W.heap[i]?=μ (ο #[x] T (0,0))):κ W ⟨i,0,ν⟩=μ x/\χ W ⟨i,0,ν⟩=θ:=by simp[World.cell?,World.frozen?,h]
def jE{o:Obj}(h:W.heap[i]?=μ o)(g:γ W w ν):w.heap[i]?=μ o:=(g.block i (bg.1 h).1 (by simp)).trans h
def C9{g:Operand}{ps:Array Tmp}{assign body:Code}(a:H.eval g=.func (.func n) #[] c)(eg:∀args w,(callFunc n args).run prog w=.ok (.enter n args) w)
 (h:∀fn,CallsIn Fence.wide 2 prog n (#[.func (.yield (w.heap.size+1)) #[] #[]]++c) ((w.alloc (.deferred (μ []))).alloc (.loop {state:=.ready,pending:=ν,fn,tmps:=H.tmps,params:=ps,assign,body,defers:=w.heap.size}))
   (rangePost Fence.wide 3 prog (w.heap.size+1) u {H with defers:=[{target:=.collected w.heap.size,args:= #[]}]++H.defers})):
 (Code.rangeFunc g ps assign body).wpIn Fence.wide 3 prog u H w:=by
 refine wpIn_rangeFunc λfn _=>?_
 refine⟨w.heap.size+1,[{target:=.collected w.heap.size,args:= #[]}],(w.alloc (.deferred (μ []))).alloc (.loop {state:=.ready,pending:=ν,fn,tmps:=H.tmps,params:=ps,assign,body,defers:=w.heap.size}),{target:=.fn (.func n) c,args:= #[.func (.yield (w.heap.size+1)) #[] #[]]},(w.alloc (.deferred (μ []))).alloc (.loop {state:=.ready,pending:=ν,fn,tmps:=H.tmps,params:=ps,assign,body,defers:=w.heap.size}),n,#[.func (.yield (w.heap.size+1)) #[] #[]]++c,(w.alloc (.deferred (μ []))).alloc (.loop {state:=.ready,pending:=ν,fn,tmps:=H.tmps,params:=ps,assign,body,defers:=w.heap.size}),?_,?_,?_,?_,?_,?_⟩
 exact run_enterLoop_outer _ _ _ _ _
 ·simp only[resolve,a]
  simp[go_sem]
 exact λ_ _=>trivial
 ·simp[invoke,go_sem,eg]
 exact λ_=>by omega
 exact h fn
def Ko{F:Fence}{a:Array Oper}{rest:List Oper}(e:U.guard=ν)(s x:Operand)(ty:TypeId)(f:U.type=ty)
 (ho:U.op=.call {callee:=.builtin .append,args:= #[s,x],argTypes:= #[133,133]}) (v b d:υ) (hs:H.eval s=v) (g:H.eval x=b)
 (i:(Builtin.append_ #[133,133] ty #[v,b]).run prog w=.ok d W) (h:wpListIn F n prog a u rest (H.put U.dst d) W):wpListIn F n prog a u (U::rest) H w:=by
 refine wpListIn_plain e λK j=>?_
 unfold Oper.wpIn;refine⟨?_,?_⟩
 simp[Oper.about,ho,resolve,Target.leads,mX];rw[Oper.semAt_plain F _ _ (by rw[ho];intro c k;cases k)];simp[execOp,ho,resolve,invoke,builtin,hs,g,f,i,Result.andThen];exact j _ _ h
def eX(L:List Rg):Nat->List Rg
 |0=>[]
 |k+1=>eX L k++[⟨(ao L (L.length-1-k)).lo,(ao L (L.length-1-k)).hi-1⟩]
def lZ(L:List Rg)(k:Nat):(eX L k).length=k:=by
 induction k with
 |zero=>rfl
 |succ k a=>simp[eX,a]
structure uZ(w:ω)(a:Option Addr)(n c:Nat)(L:List Rg)(r:Loop)(k:Nat)(W:ω):Prop where
 kL:k<=L.length
 box:∃b d e,W.heap[w.heap.size]?=μ (ο #[σ b d e] 133 (0,0))/\iO W (w.heap.size+4) (σ b d e) (eX L k)
 set:W.heap[w.heap.size+1]?=μ (ο #[σ a n c] 227 (0,0))
 gb:γ w W ν
 lL:W.heap[w.heap.size+2+1]?=μ (.loop r)
 tt:W.heap[w.heap.size+2]?=μ (.deferred (μ []))
def uZ.cM{r:Loop}(h:uZ w a n i Y r k W)(g:γ W v ν):uZ w a n i Y r k v:=by
 obtain⟨b,c,d,e,f⟩:=h.box;exact⟨h.kL,⟨b,c,d,jE e g,f.au g⟩,jE h.set g,aq h.gb g,jE h.lL g,jE h.tt g⟩
def Kp(w:ω)(sb no:Nat)(a:Option Addr)(n c:Nat)(L:List Rg)(c0:κ w ⟨sb,no,ν⟩=μ (σ a n c))(hs:bq w a n c L)(c9:∀r∈L,1<=r.hi)(hn:n<=1000000):
 CallsIn Fence.wide 3 prog 201 #[π (μ ⟨sb,no,ν⟩)] w λe w'=>∃v,e=ξ v/\iO w' (w.heap.size+4) v (eX L L.length)/\γ w w' ν:=by
 refine callsIn_of_wp_marks func201 rfl trivial ?_ rfl;simp only[ntmps201,uk,cS,fM,Nat.reduceAdd,Nat.reduceSub,Array.replicate_succ,Array.replicate_zero,List.push_toArray,List.append_toArray,jL,pT]
 refine wpIn_wide.2 ?_;have hB:=J (λW=>JK a n c W);have u0:∀o,(w.alloc o).cell? ⟨sb,no,ν⟩=μ (σ a n c):=λo=>(aJ _ _ ν).cell c0 (by simp)
 clear c0;go_wp2_with (go_at_call 237;apply(Z hB _).mono;rintro e w'⟨rfl,rfl⟩);obtain⟨f,u⟩:=exq ((w.alloc (ο #[σ ν 0 0] 133)).alloc (ο #[σ a n c] 227));rw[<-u];have g6:γ w f ν:=by rw[u];exact bk (bk (aD w ν) _) _
 have z6:f.heap.size=w.heap.size+2:=by rw[u];simp
 have f0:f.heap[w.heap.size]?=μ (ο #[σ ν 0 0] 133 (0,0)):=by rw[u,fS _ _ _ (by simp)];exact aO _ _
 have f1:f.heap[w.heap.size+1]?=μ (ο #[σ a n c] 227 (0,0)):=by
  have:=aO (w.alloc (ο #[σ ν 0 0] 133)) (ο #[σ a n c] 227);rw[eh]at this;rw[u];exact this
 clear u u0 hB;refine(wpIn_wide (n:=3)).1 ?_;refine C9 (n:=277) rfl (enters_of func277 (by kernel_rfl) rfl) ?_;intro fn;generalize l:Loop.mk _ _ _ _ _ _ _ _=b;have A:γ f ((f.alloc (.deferred (μ []))).alloc (.loop b)) ν:=bk (bk (aD f ν) _) _;have I:((f.alloc (.deferred (μ []))).alloc (.loop b)).heap[f.heap.size+1]?=μ (.loop b):=by
  have:=aO (f.alloc (.deferred (μ []))) (.loop b);rwa[eh]at this
 have K:((f.alloc (.deferred (μ []))).alloc (.loop b)).heap[f.heap.size]?=μ (.deferred (μ [])):=by
  rw[fS _ _ _ (by simp)];exact aO _ _
 generalize (f.alloc (.deferred (μ []))).alloc (.loop b)=W8 at *;rw[z6]at I K⊢;clear z6;refine(JL (w.heap.size+2+1) (w.heap.size+1) a n c L (uZ w a n c L b) (λk W M h g=>h.cM g) (λk W h=>⟨(qi h.set).1,hs.au h.gb⟩) ?hY _ ?h0).mono ?post;case h0=>exact⟨by omega,⟨_,_,_,jE f0 A,⟨λx hx=>by simp[eX]at hx,pr _ _ _ _⟩⟩,jE f1 A,aq g6 A,I,K⟩
 case post=>
  clear f0 f1 g6 A I K;rintro e B⟨⟨v,rfl⟩,h⟩;obtain⟨de,⟨a',n',c',C,y⟩,N,hg,D,hd⟩:=h;have b5:w.heap.size+2+1<B.heap.size:=(bg.1 D).1;have dg:b.pending=ν:=by rw[<-l]
  refine⟨b.pending,_,run_endLoop D (by rw[<-l];simp),?_⟩
  obtain⟨O,P⟩:∃W,W=B.putObj (w.heap.size+2+1) (.loop {b with state:=.exhausted}):=⟨_,rfl⟩
  rw[<-P,dg];have m:∀i,i≠w.heap.size+2+1->O.heap[i]?=B.heap[i]? :=λi hi=>by rw[P];exact World.putObj_heap_other hi
  have a4:O.heap[w.heap.size+2]?=μ (.deferred (μ [])):=by rw[m _ (by omega)];exact hd
  have g4:γ B O (μ (w.heap.size+2+1)):=by rw[P];exact grownBy_putObj' B _ _
  have a8:=(m w.heap.size (by omega)).trans C;obtain⟨cb,-⟩:=qi a8;replace l:=J l;clear P C N D hd;replace⟨m,a4,a8⟩:=cz m a4 a8;dsimp only
  gi_wp2;go_wp2;refine⟨by simp,φ ⟨_,_,rfl,run_takeDeferred (Z a4),?_⟩⟩
  refine⟨_,results_tmp rfl _ _ _,_,rfl,?_,?_⟩
  have o4:iO O (w.heap.size+4) (σ a' n' c') (eX L L.length):=y.gb g4 (ψ (λe=>by have:=(y.lt _ e).1;omega));exact o4.gb (grownBy_putObj' _ _ _) (ψ (λe=>by have:=(o4.lt _ e).1;omega));exact cT (cT hg g4 (λj e=>by cases e;left;omega)) (grownBy_putObj' _ _ _) (λj e=>by cases e;left;omega)
 case hY=>
  clear f0 f1 g6 A I K;intro k W h hk;suffices dk:∀R:Ending->ω->Prop,(∀M,uZ w a n c L b (k+1) M->R (ξ (β ρ)) M)->
   YieldAt Fence.wide 1 prog (w.heap.size+2+1) #[ι δ ((L.length-1-k:Nat):Int),ε #[ι η (ao L (L.length-1-k)).lo,ι η (ao L (L.length-1-k)).hi]] W R from dk _ (λM h=>⟨rfl,h⟩)
  intro R a9;replace a9:=J a9;refine⟨b.fn,_,b.assign,b.body,run_yield h.lL (by rw[<-l];rfl),roundIn_of_wpIn trivial ?_⟩
  obtain⟨E,Q⟩:=exq b;have dn:E.state=.ready:=by rw[Q,<-l]
  rw[<-Q]at h;have ds:Hid (E=b):=Q;rw[<-l];dsimp only
  clear Q;replace l:=J l;gi_wp2;obtain⟨p,S⟩:=exq (W.alloc (ο #[ι η (ao L (L.length-1-k)).lo,ι η (ao L (L.length-1-k)).hi] 341));have ga:γ W p ν:=by rw[S];exact aJ _ _ _
  have ca:p.heap[W.heap.size]?=μ (ο #[ι η (ao L (L.length-1-k)).lo,ι η (ao L (L.length-1-k)).hi] 341 (0,0)):=by rw[S];exact aO _ _
  rw[<-S];clear S;have hX:w.heap.size+2+1<W.heap.size:=(bg.1 h.lL).1;replace h:=h.cM ga;clear ga;generalize W.heap.size=X at *;refine⟨_,run_beginRound h.lL dn,?_⟩
  have b5:w.heap.size+2+1<p.heap.size:=(bg.1 h.lL).1;obtain⟨d,F⟩:∃d,d=p.putObj (w.heap.size+2+1) (.loop {E with state:=.busy}):=⟨_,rfl⟩
  rw[<-F];have m:∀i,i≠w.heap.size+2+1->d.heap[i]?=p.heap[i]? :=λi hi=>by rw[F];exact World.putObj_heap_other hi
  have T:d.heap[w.heap.size+2+1]?=μ (.loop {E with state:=.busy}):=by rw[F];exact World.putObj_heap_same b5
  have bb:γ p d (μ (w.heap.size+2+1)):=by rw[F];exact grownBy_putObj' p _ _
  clear F;obtain⟨de,⟨a',n',c',C,y⟩,N,hg,D,hd⟩:=h;have z:=(m w.heap.size (by omega)).trans C;have U:=(m (w.heap.size+1) (by omega)).trans N;have V:=(m (w.heap.size+2) (by omega)).trans hd;have bj:iO d (w.heap.size+4) (σ a' n' c') (eX L k):=y.gb bb (ψ (λe=>by have:=(y.lt _ e).1;omega));have Y:=(m X (by omega)).trans ca;clear m C N D hd y ca;replace⟨T,V,U⟩:=cz T V U;obtain⟨cb,fb⟩:=qi z;replace z:=J z;generalize ch:ao L (L.length-1-k)=x at *;have x0:κ d ⟨X,0,ν⟩=μ (ι η x.lo):=by simp[World.cell?,Y]
  have x1:κ d ⟨X,0+1,ν⟩=μ (ι η x.hi):=by simp[World.cell?,Y]
  replace Y:=J Y;have cj:1<=x.hi/\x.ok:=by
   rw[<-ch];refine⟨?_,pF hs.1 _⟩
   unfold ao;rw[List.getD,dT (by omega)];exact c9 _ (uu _)
  have hw:IntKind.u64.wrap (x.hi-1)=x.hi-1:=by rw[fW];have:=cj.2;unfold Rg.ok aW at this;omega
  have cp:(eX L k).length<=100000000:=by rw[lZ];have:=hs.2.1;omega
  have eu:w.heap.size+4<=d.heap.size:=by have:=bb.size;omega
  obtain⟨Wc,G⟩:=exq (d.alloc (ο #[ι η x.lo,ι η (x.hi-1)] 200));have H:γ d Wc ν:=by rw[G];exact aJ _ _ _
  have bt:Wc.heap[d.heap.size]?=μ (ο #[ι η x.lo,ι η (x.hi-1)] 200 (0,0)):=by rw[G];exact aO _ _
  obtain⟨q,n2,c2,s,al,cv,g2,ew⟩:=C4 (w:=Wc) 133 (w.heap.size+4) _ _ (bj.au H) d.heap.size 0 1 ⟨x.lo,x.hi-1⟩ (by have:=cj.2;unfold Rg.ok aW at *;simp only;omega) (by simp[World.cell?,bt]) (by simp[World.cell?,bt]) cp (by have:=H.size;omega);have t:∀i,i<w.heap.size+4->s.heap[i]?=d.heap[i]? :=λi hi=>by
   rw[g2.block i (by have:=H.size;omega) (λe=>by have:=(bj.lt i e.symm).1;omega),H.block i (by omega) (by simp)]
  have cd:=qi ((t w.heap.size (by omega)).trans (Z z));have bx:=(t w.heap.size (by omega)).trans (Z z);have bz:=(t (w.heap.size+2+1) (by omega)).trans (Z T);have bM:=(t (w.heap.size+1) (by omega)).trans (Z U);have b0:=(t (w.heap.size+2) (by omega)).trans (Z V);obtain⟨cd,fd⟩:=cd;rw[G]at al;replace⟨al,G⟩:=bD al G;clear T V U z cp bt;replace⟨t,bz,bx,bM,b0⟩:=fF t bz bx bM b0;gi_wp2_with (first|(refine Ko (by rfl) _ _ 133 (by rfl) (by rfl) _ _ _ (by rfl) (by rfl) (Z al) ?_));have cx:(ζ s ⟨w.heap.size,0,ν⟩ (σ q n2 c2)).heap[w.heap.size+2+1]?=μ (.loop {E with state:=.busy}):=by
   rw[dK _ _ _ _ (by simp<;>omega)];exact Z bz
  refine⟨_,_,run_endRound ν cx,Z a9 _ ?_⟩
  have dx:w.heap.size+2+1<(ζ s ⟨w.heap.size,0,ν⟩ (σ q n2 c2)).heap.size:=(bg.1 cx).1;have gs:γ s (ζ s ⟨w.heap.size,0,ν⟩ (σ q n2 c2)) (μ w.heap.size):=aM (aD s _) _ _ (ψ rfl);have o3:iO (ζ s ⟨w.heap.size,0,ν⟩ (σ q n2 c2)) (w.heap.size+4) (σ q n2 c2) (eX L k++[⟨x.lo,x.hi-1⟩]):=cv.gb gs (ψ (λe=>by have:=(cv.lt _ e).1;omega));refine⟨by omega,⟨q,n2,c2,?_,?_⟩,?_,?_,?_,?_⟩
  rw[World.putObj_heap_other (by omega)];exact heap_set (o:=0) (Z bx) (σ q n2 c2);rw[show eX L (k+1)=eX L k++[⟨x.lo,x.hi-1⟩] by rw[<-ch];rfl];exact o3.gb (grownBy_putObj' _ _ _) (ψ (λe=>by have:=(o3.lt _ e).1;omega));rw[World.putObj_heap_other (by omega),dK _ _ _ _ (by simp<;>omega)];exact Z bM;refine cT (cT (cT (aq (cT hg bb (λj e=>by cases e;left;omega)) H) g2 (λj e=>?_)) gs (λj e=>by cases e;left;omega)) (grownBy_putObj' _ _ _) (λj e=>by cases e;left;omega);left;have:=(bj.lt j e).1;omega;rw[World.putObj_heap_same dx,Z ds,<-Z l];rfl;rw[World.putObj_heap_other (by omega),dK _ _ _ _ (by simp<;>omega)];exact Z b0
def Kq(w:ω)(sb no:Nat)(a:Option Addr)(n c:Nat)(L:List Rg)(c0:κ w ⟨sb,no,ν⟩=μ (σ a n c))(hs:bq w a n c L)(d:∀r∈L,1<=r.hi)(f:n<=1000000):
 Calls prog 201 #[π (μ ⟨sb,no,ν⟩)] w λe b=>∃v,e=ξ v/\iO b (w.heap.size+4) v (eX L L.length)/\γ w b ν:=
 uz.1 (Kp w sb no a n c L c0 hs d f)
def dW(l:List Kt)(k:Int):List Pc:=l.flatMap (λx=>if x.1.st=k then x.1.ps else[])
def Da(l:List Kt)(k:Int)(j:Nat)(a:j<l.length):dW (l.take (j+1)) k=dW (l.take j) k++(if(bP l j).1.st=k then(bP l j).1.ps else[]):=by
 unfold dW;rw[pS,oK a,wF];simp
def Kr(l:List Kt)(k:Int)(j q:Nat)(a:j<l.length)(b:(bP l j).1.st=k)(c:q<(bP l j).1.ps.length):(dW (l.take j) k).length+q<(dW l k).length/\fZ (dW l k) ((dW (l.take j) k).length+q)=fZ (bP l j).1.ps q:=by
 have e:dW l k=dW (l.take j) k++((bP l j).1.ps++dW (l.drop (j+1)) k):=by
  have d:l=l.take (j+1)++l.drop (j+1):=(pR _ _).symm;have f:dW l k=dW (l.take (j+1)) k++dW (l.drop (j+1)) k:=by
   conv=>lhs;rw[d]
   unfold dW;rw[wF]
  rw[f,Da l k j a,aG b,fm]
 rw[e];refine⟨by simp;omega,?_⟩
 unfold fZ;rw[List.getD,gR_,uh,mm c];rfl
def qk{a:υ}(h:W.heap[i]?=μ (ο #[x,y,z,a] T (0,0))):κ W ⟨i,0,ν⟩=μ x/\κ W ⟨i,0+1,ν⟩=μ y/\κ W ⟨i,0+1+1,ν⟩=μ z/\κ W ⟨i,0+1+1+1,ν⟩=μ a:=by simp[World.cell?,h]
def Ks(l b1 b2 sb fo bj t:Nat)(k:Int)(fa:Option Addr)(n C:Nat)(lf:List Kt)(S:Nat->Prop)(d:Nat->ω->Prop)
 (D:∀m W p,d m W->γ W p ν->d m p)
 (y:∀m W,d m W->κ W ⟨b1,0,ν⟩=μ (π (μ ⟨sb,fo,ν⟩))/\κ W ⟨b2,0,ν⟩=μ (ι δ k)/\κ W ⟨sb,fo+3,ν⟩=μ (σ fa n C)/\cq W bj (σ fa n C) lf/\nV W S lf)
 (hY:∀m W,d m W->m<(dW lf k).length->YieldAt Fence.wide 1 prog l #[ε (pA (fZ (dW lf k) m))] W λe p=>e=ξ (β ρ)/\d (m+1) p/\ay W p (λi=>i<t))
 (W:ω) (hB:t<=W.heap.size) (h0:d 0 W):
 CallsIn Fence.wide 2 prog 280 #[.func (.yield l) #[] #[],π (μ ⟨b1,0,ν⟩),π (μ ⟨b2,0,ν⟩)] W λe p=>(∃v,e=ξ v)/\d (dW lf k).length p:=by
 refine uz.2 ?_;obtain⟨p1,p2,p3,T,-⟩:=y _ _ h0;obtain⟨a',br,U,b8,V⟩:=T.gR;have E:n=lf.length:=(jy U).2.1;obtain rfl:C=br:=(jy U).2.2;clear U;have ca:(n:Int)<=9223372036854775807:=by unfold maxLen at V;omega
 have ch:n<=C:=by omega
 replace⟨D,y,hY,V,E⟩:=fF D y hY V E;clear T;go_enter func280,ntmps280;go_wp2;go_loopg [13] (n+1) (λg i wr=>∃j:Nat,j<=n/\g=n+1-j/\i=ι δ j/\d (dW (lf.take j) k).length wr/\t<=wr.heap.size);case atStart=>exact⟨0,by omega,by omega,rfl,h0,hB⟩
 case round=>
  obtain⟨j,hj,rfl,rfl,z,bt⟩:=hrel;by_cases cj:j<n
  ·have d1:decide ((j:Int)<n)=ρ:=dT_;have i1:(j:Int)<n:=by omega
   have A:j<lf.length:=by have:=Z E;omega
   obtain⟨-,-,-,ho,B⟩:=Z y _ _ z;obtain⟨g,rfl,a3⟩:=ho.cell (by omega);obtain⟨F,G,H,I⟩:=a3 j A;clear a3 ho;rw[ep]at F G H I;obtain⟨pa,a,pp,al,f,-⟩:=B _ (pI A);clear B;have u:=f.2.1;have cp:=f.2.2.1;have bx:=f.2.2.2.1;unfold maxLen at bx;clear f;have ax:=J (Da lf k j A);have K:=J (λq=>Kr lf k j q A);have aC:=pI A;obtain⟨kt,a4⟩:=exq (bP lf j);rw[<-a4]at F G H I al u ax K aC;clear a4;obtain⟨⟨num,tk,st,ps⟩,sv⟩:=kt;simp only at F G H I al u ax K aC;subst al;replace u:=J u;obtain⟨W3,L⟩:=exq (wr.alloc (ο #[ι η num,ι δ tk,ι δ st,σ pa a pp] 325));have g3:γ wr W3 ν:=by rw[L];exact aJ _ _ _
   have s:W3.heap[wr.heap.size]?=μ (ο #[ι η num,ι δ tk,ι δ st,σ pa a pp] 325 (0,0)):=by rw[L];exact aO _ _
   have j3:=Z D _ _ _ z g3;have bz:t<=W3.heap.size:=by have:=g3.size;omega
   obtain⟨X,N⟩:=exq wr.heap.size;rw[<-N]at s;obtain⟨b0,cv,cw,b3⟩:=mG s;replace s:=J s;go_upto_region 3 with fail;rw[<-L,<-N];rw[<-N]at bt;clear L N F G H I z g3;go_wp2_with fail;have s:=Z s;obtain⟨M,hM⟩:=exq ((dW (lf.take j) k).length);rw[<-hM]at j3 K;go_loopg [20] (a+1) (λg i a0=>∃q:Nat,q<=a/\g=a+1-q/\i=ι δ q/\d (M+if st=k then q else 0) a0/\a0.heap[X]?=μ (ο #[ι η num,ι δ tk,ι δ st,σ pa a pp] 325 (0,0))/\t<=a0.heap.size);case atStart=>exact⟨0,by omega,by omega,rfl,by simpa using j3,s,bz⟩
   case round=>
    obtain⟨q,hq,rfl,rfl,w,bM,b4⟩:=hrel;by_cases cx:q<a
    ·have d2:decide ((q:Int)<a)=ρ:=dT_;have i2:(q:Int)<a:=by omega
     have a8:q<ps.length:=by have:=Z u;omega
     obtain⟨-,q2,-,-,B⟩:=Z y _ _ w;obtain⟨a1,n1,c1,e1,f,-⟩:=B _ aC;clear B;simp only at e1 f;obtain⟨rfl,rfl,rfl⟩:=jy e1;clear e1;have b5:∃b o,pa=μ ⟨b,o,ν⟩:=by
      obtain h|⟨b,o,h,-⟩:=f.2.2.2.2
      omega;exact⟨b,o,h⟩
     obtain⟨pb,T,rfl⟩:=b5;obtain⟨x0,x1,x2,x3⟩:=f.cell q a8;clear f;have a9:=J (λc=>Z K q c a8);obtain⟨⟨xl,xh⟩,xe,xg,bb⟩:∃(r:Rg)(e g:Bool),fZ ps q=⟨r,e,g⟩:=⟨_,_,_,rfl⟩
     rw[bb]at x0 x1 x2 x3 a9;clear bb;simp only at x0 x1 x2 x3;obtain⟨W5,O⟩:=exq (wr.alloc (ο #[ι η xl,ι η xh,β xe,β xg] 377));have P:γ wr W5 ν:=by rw[O];exact aJ _ _ _
     have a2:W5.heap[wr.heap.size]?=μ (ο #[ι η xl,ι η xh,β xe,β xg] 377 (0,0)):=by rw[O];exact aO _ _
     obtain⟨z0,z1,z2,z3⟩:=qk a2;have Q:=Z D _ _ _ w P;have x:=bE bM P;have cy:=(mG x).2.2.1;have q5:=gC_ P q2;have b6:t<=W5.heap.size:=by have:=P.size;omega
     clear q2;replace⟨a2,x⟩:=bD a2 x;go_upto_region 6 with fail;rw[<-O];generalize wr.heap.size=Y at *;clear O x0 x1 x2 x3;by_cases c:st=k
     ·obtain⟨hm,hp⟩:=Z a9 c;rw[aG c]at Q;obtain⟨fn,cC,c9,db,R,hR⟩:=Z hY _ _ Q hm;rw[hp]at R;unfold pA at R;simp only at R;subst c;refine(wpIn_wide (n:=2)).1 ?_;gi_wp2;apply hR.mono;clear R hR;rintro e W6⟨rfl,b7,C6⟩;gi_wp2;go_wp2;go_roundg (a+1-(q+1));case measure=>omega
      case rel=>exact⟨q+1,by omega,rfl,by go_num,by rw[aG trivial];exact b7,(C6.block X (bg.1 (Z x)).1 (by omega)).trans (Z x),by have:=C6.size;omega⟩
     have hd:((st:Int)==k)=θ:=by simpa using c
     rw[aB c]at Q;go_wp2;go_roundg (a+1-(q+1));case measure=>omega
     case rel=>exact⟨q+1,by omega,rfl,by go_num,by rw[aB c];exact Q,Z x,b6⟩
    obtain rfl:q=a:=by omega
    have d2:decide ((q:Int)<q)=θ:=dF_;go_wp2;go_roundg (n+1-(j+1));case measure=>omega
    case rel=>
     refine⟨j+1,by omega,rfl,by go_num,?_,b4⟩
     rw[Z ax,bF,<-hM];have:=Z u;by_cases c:st=k;rw[aG c]at w⊢;rw[<-this];exact w;rw[aB c]at w⊢;exact w
  obtain rfl:j=n:=by omega
  have d1:decide ((j:Int)<j)=θ:=dF_;go_wp2;refine gD (fe rfl _ _ _) rfl ?_;refine⟨⟨_,rfl⟩,?_⟩
  rw[Z E,pt]at z;exact z
structure Du where
 l:List Rg
 e:Bool
 g:Bool
def Du.leave(d:Du)(p:Pc):Du:=⟨jP d.l p.x,d.e&& !p.e,d.g&& !p.g⟩
def Ot.tw(o:Ot):Du:=⟨iA o.h.af ⟨o.h.fr,o.h.fr+o.h.bytes.length⟩,o.uE,o.uG⟩
def pK(o:Ot)(ps:List Pc)(m:Nat):Du:=(ps.take m).foldl Du.leave o.tw
def xN(o:Ot)(ps:List Pc)(m:Nat)(h:m<ps.length:=by omega):pK o ps (m+1)=(pK o ps m).leave (fZ ps m):=by
 unfold pK;rw[pS,xz h,List.foldl_append];rfl
def KF(l:List Rg)(x:Rg)(c:x.lo<x.hi)(h:∀r∈l,x.hi<=r.lo):(mD l x).length<=l.length:=by
 induction l with
 |nil=>exact aP _
 |cons r l b=>
  have e:mD (r::l) x=((if r.lo<min r.hi x.lo then[⟨r.lo,min r.hi x.lo⟩]else[])++(if max r.lo x.hi<r.hi then[⟨max r.lo x.hi,r.hi⟩]else[]))++mD l x:=rfl;have a:=h r (by simp);have:=b (λr a=>h r (by simp[a]));rw[e,iN_,bF,bF,cS];split<;>simp<;>omega
def KG(l:List Rg)(x:Rg)(h:aU l)(c:x.lo<x.hi):(mD l x).length<=l.length+1:=by
 induction l with
 |nil=>simp[mD]
 |cons r l d=>
  have e:mD (r::l) x=((if r.lo<min r.hi x.lo then[⟨r.lo,min r.hi x.lo⟩]else[])++(if max r.lo x.hi<r.hi then[⟨max r.lo x.hi,r.hi⟩]else[]))++mD l x:=rfl;have g:=d h.tail;rw[e,bF,bF,cS];by_cases a:r.lo<min r.hi x.lo;by_cases b:max r.lo x.hi<r.hi;have i:=KF l x c (λy f=>by
   have:=(kK.1 h.1).1 y f;omega)
  rw[aG a,aG b];simp;omega;rw[aG a,aB b];simp;omega;rw[aB a];split<;>simp<;>omega
def zW(x:Rg)(h:aU Y):(jP Y x).length<=Y.length+1:=by
 unfold jP;split;exact KG Y x h (by assumption);omega
def KH(af:List Rg)(x:Rg):(iA af x).length<=af.length+1:=by
 unfold iA;have key:∀(c l:List Rg),aU l->(c.foldl jP l).length<=c.length+l.length:=by
  intro c;induction c with
  |nil=>intro l _;simp
  |cons r c b=>
   intro l hl;have:=b (jP l r) (qO r hl);have a:=zW r hl;simp only[lD,cS]
   omega
 have:=key af (cD [] x) (lV x aU.nil);have a:=uM [] x;simp at a;omega
def Df(o:Ot)(ps:List Pc)(m:Nat)(h:m<=ps.length):aU (pK o ps m).l:=by
 induction m with
 |zero=>exact uN _ _
 |succ m a=>
  rw[xN o ps m];exact qO _ (a (by omega))
def Dg(o:Ot)(ps:List Pc)(m:Nat)(h:m<=ps.length):(pK o ps m).l.length<=o.h.af.length+1+m:=by
 induction m with
 |zero=>exact KH _ _
 |succ m a=>
  rw[xN o ps m];have:=a (by omega);have b:=zW (fZ ps m).x (Df o ps m (by omega));unfold Du.leave;simp only
  omega
def gG(W:ω)(D N:Nat)(X:Nat->Prop)(d:Du):Prop:=∃a n c,W.heap[D]?=μ (ο #[σ a n c,β d.e,β d.g] 332 (0,0))/\bq W a n c d.l/\(d.l≠[]->∀y,a=μ y->N<=y.block/\¬X y.block)
def gG.au{d:Du}(h:gG W k i S d)(g:γ W w ν):gG w k i S d:=by
 obtain⟨a,n,c,b,e,f⟩:=h;exact⟨a,n,c,jE b g,e.au g,f⟩
def gG.put{W':ω}{d:Du}(h:gG W k i S d)(g:γ W W' (μ j))(p:j≠k)(q:S j):gG W' k i S d:=by
 obtain⟨a,n,c,b,f,l⟩:=h;exact⟨a,n,c,(g.block k (bg.1 b).1 (λe=>p (aQ e).symm)).trans b,f.cM (λhl y m=>g.block _ (by subst m;exact f.lt hl) (λe=>(l hl y m).2 ((aQ e)▸q))),l⟩
def Dh(w:ω)(D N:Nat)(X:Nat->Prop)(d:Du)(p:Pc)(s:gG w D N X d)(t:X D)(u:∀k,X k->k<w.heap.size)(H:N<=w.heap.size)(j:aU d.l)(f:p.x.ok)(I:d.l.length<=1000000):
 Calls prog 241 #[π (μ ⟨D,0,ν⟩),ε (pA p)] w λr h=>r=ξ (τ #[])/\gG h D N X (d.leave p)/\γ w h (μ D):=by
 obtain⟨a,n,c,v,m,q⟩:=s;refine(KE w D 0 _ _ a n c d.l d.e d.g p.x p.e p.g v rfl rfl rfl m (λhl y b e=>(q hl y b).2 (e▸t)) j f (by have:=m.2.1;omega)).mono ?_;rintro r h⟨rfl,z,A,B,K,g,C,E,i,F,L,G⟩;have e:=HZ j F G;subst e;refine⟨rfl,⟨z,A,B,by rw[C];rfl,E,λhl y b=>?_⟩,g⟩
 obtain rfl|i:=i
 refine q (λe0=>hl ?_) y b;unfold Du.leave;simp only[e0]
 unfold jP;split<;>rfl;have:=i y b;exact⟨by omega,λf=>by have:=u _ f;omega⟩
structure tz(w:ω)(b sb a D:Nat)(o:Ot)(k:Int)(ps:List Pc)(r:Loop)(m:Nat)(W:ω):Prop where
 mL:m<=ps.length
 box:gG W D a (λj=>(D<=j/\j<=D+4)\/j=a) (pK o ps m)
 b1:W.heap[D+1]?=μ (ο #[π (μ ⟨sb,91,ν⟩)] 321 (0,0))
 b2:W.heap[D+2]?=μ (ο #[ι δ k] 3 (0,0))
 tt:W.heap[D+3]?=μ (.deferred (μ []))
 lL:W.heap[D+4]?=μ (.loop r)
 res:W.heap[a]?=μ (ο #[σ ν 0 0,β θ,β θ] 332 (0,0))
 gb:γ w W ν
def tz.cM{ps:List Pc}{r:Loop}(h:tz w n i j l G p ps r m W)(g:γ W v ν):tz w n i j l G p ps r m v:=
 ⟨h.mL,h.box.au g,jE h.b1 g,jE h.b2 g,jE h.tt g,jE h.lL g,jE h.res g,aq h.gb g⟩
def Sd.due(s:Sd)(k:Nat):Du:=(s.aw.flatMap (λ(x:Pk)=>if x.st=(k:Int)then x.ps else[])).foldl Du.leave (s.out k).tw
def zX(s:Sd)(lf:List Kt)(k:Nat)(h:s.aw=lf.map (·.1)):s.due k=pK (s.out k) (dW lf k) (dW lf k).length:=by
 unfold Sd.due pK dW;rw[pt,h,List.flatMap_map]
def KI(w:ω)(M sb:Nat)(cs:Array υ)(v:bf)(s:Sd)(H:bI w M sb cs v s)(k:Nat)(hk:k<4)(hn:(s.out k).h.nice)(hl:(s.out k).h.af.length+(dW v.lf k).length<=900000):
 CallsIn Fence.wide 3 prog 207 #[π (μ ⟨sb,0,ν⟩),ι δ k] w λe w'=>(∃a n c,e=ξ (ε #[σ a n c,β (s.due k).e,β (s.due k).g])/\bq w' a n c (s.due k).l/\((s.due k).l≠[]->∀y,a=μ y->w.heap.size<=y.block))/\γ w w' ν:=by
 refine callsIn_of_wp_marks func207 rfl trivial ?_ rfl;simp only[ntmps207,uk,cS,fM,Nat.reduceAdd,Nat.reduceSub,Array.replicate_succ,Array.replicate_zero,List.push_toArray,List.append_toArray,jL,pT]
 refine wpIn_wide.2 ?_;obtain⟨ab,nb,cb,ac,nc,cc,eo,et⟩:=(H.out k hk).nT;have N:=H.out k hk;rw[eo,et]at N;have hM:=J (λW(g:γ w W ν)=>Ir W sb (19+9*k) ab nb cb ac nc cc (s.out k) ((N.au g).hd (jE H.aV g) hn) ((N.au g).tail (jE H.aV g)));have hF:=J (λW=>JM ⟨sb,91,ν⟩ (k:Int) W);rw[<-show 19+k*9=19+9*k by omega]at hM;have i1:(k:Int)<4:=by omega
 have d1:decide ((k:Int)<4)=ρ:=eT i1;obtain⟨W1,a1⟩:=exq (w.alloc (ο #[σ ν 0 0,β θ,β θ] 332));have g1:γ w W1 ν:=by rw[a1];exact aJ _ _ _
 have r:W1.heap[w.heap.size]?=μ (ο #[σ ν 0 0,β θ,β θ] 332 (0,0)):=by rw[a1];exact aO _ _
 replace⟨N,r⟩:=bD N r;go_upto_region 1 with fail;rw[<-a1];clear a1;go_wp2_with fail;apply(Z hM W1 g1).mono;rintro e f⟨⟨a2,n2,c2,l2,rfl,m1,m2,m3,m4,m5⟩,g2⟩;have eu:=Cb (x:=⟨(s.out k).h.fr,(s.out k).h.fr+(s.out k).h.bytes.length⟩) m2 m5;subst eu;obtain⟨q,O⟩:=exq (f.alloc (ο #[σ a2 n2 c2,β (s.out k).uE,β (s.out k).uG] 332));have g3:γ f q ν:=by rw[O];exact aJ _ _ _
 have a3:q.heap[f.heap.size]?=μ (ο #[σ a2 n2 c2,β (s.out k).uE,β (s.out k).uG] 332 (0,0)):=by rw[O];exact aO _ _
 have P:q.heap.size=f.heap.size+1:=by rw[O];simp
 have dg:=J (jE (Z r) (aq g2 g3));have dk:w.heap.size<f.heap.size:=(bg.1 (jE (Z r) g2)).1;have a4:gG q f.heap.size w.heap.size (λj=>(f.heap.size<=j/\j<=f.heap.size+4)\/j=w.heap.size) (s.out k).tw:=⟨a2,n2,c2,a3,m1.au g3,λhl y B=>by
  have h1:=m3 y B;have Q:y.block<f.heap.size:=by subst B;exact m1.lt hl
  have h3:=(bg.1 (Z r)).1;refine⟨by have:=g1.size;omega,λh=>?_⟩
  obtain h|h:=h<;>omega⟩
 replace⟨a4,a3⟩:=bD a4 a3;clear m1 m2 m3 m4 m5 hM;go_upto_region 2 with fail;rw[<-O];clear O;go_wp2_with (go_at_call 240;apply(Z hF _).mono;rintro e w'⟨rfl,rfl⟩);obtain⟨d,I⟩:=exq ((q.alloc (ο #[π (μ ⟨sb,91,ν⟩)] 321)).alloc (ο #[ι δ k] 3));rw[<-I];have g6:γ q d ν:=by rw[I];exact bk (bk (aD _ ν) _) _
 have z6:d.heap.size=f.heap.size+3:=by rw[I];simp[P]
 have f1:d.heap[f.heap.size+1]?=μ (ο #[π (μ ⟨sb,91,ν⟩)] 321 (0,0)):=by rw[I,fS _ _ _ (by simp[P]),<-P];exact aO _ _
 have f2:d.heap[f.heap.size+2]?=μ (ο #[ι δ k] 3 (0,0)):=by
  have:=aO (q.alloc (ο #[π (μ ⟨sb,91,ν⟩)] 321)) (ο #[ι δ k] 3);rw[eh,P]at this;rw[I];exact this
 have dn:γ w d ν:=aq g1 (aq g2 (aq g3 g6));have ds:=(Z a4).au g6;have dx:=jE (Z dg) g6;clear I hF a4 dg r a3 g6 P;generalize ew:f.heap.size=D at *;clear ew g2 g3 g1;have ff:w.heap.size<D:=dk;clear dk;refine(wpIn_wide (n:=3)).1 ?_;refine C9 (n:=280) rfl (enters_of func280 (by kernel_rfl) rfl) ?_;intro fn;generalize u:Loop.mk _ _ _ _ _ _ _ _=b;have K:γ d ((d.alloc (.deferred (μ []))).alloc (.loop b)) ν:=bk (bk (aD d ν) _) _;have b6:((d.alloc (.deferred (μ []))).alloc (.loop b)).heap[d.heap.size+1]?=μ (.loop b):=by
  have:=aO (d.alloc (.deferred (μ []))) (.loop b);rwa[eh]at this
 have b7:((d.alloc (.deferred (μ []))).alloc (.loop b)).heap[d.heap.size]?=μ (.deferred (μ [])):=by
  rw[fS _ _ _ (by simp)];exact aO _ _
 have z8:((d.alloc (.deferred (μ []))).alloc (.loop b)).heap.size=d.heap.size+2:=by simp
 generalize (d.alloc (.deferred (μ []))).alloc (.loop b)=W8 at *;rw[z6]at b6 b7 z8⊢;clear z6;obtain⟨fa,ey,dE,ez,eC⟩:=H.fl.of.gR;have b8:=H.fl.of;rw[dE]at b8;have ca:=(aZ H.aV _).trans H.fl.c3;rw[dE]at ca;have ch:=H.bu.gF.sub (m:=v.lf) (λx hx=>fC _ hx);have dG:tz w M sb w.heap.size D (s.out k) (k:Int) (dW v.lf k) b 0 W8:=⟨by omega,ds.au K,jE f1 K,jE f2 K,b7,b6,jE dx K,aq dn K⟩
 clear f1 f2 b6 b7 dx ds K dn;refine(Ks (D+4) (D+1) (D+2) sb 91 M (D+5) (k:Int) fa v.lf.length ey v.lf (cG sb v) (tz w M sb w.heap.size D (s.out k) (k:Int) (dW v.lf k) b) (λm W S h g=>h.cM g) (λm W h=>⟨(qi h.b1).1,(qi h.b2).1,gC_ h.gb ca,b8.au h.gb,ch.aA (ay.of h.gb) (λk _ e=>by cases e)⟩) ?hY _ (by omega) dG).mono ?post;case post=>
  rintro e q⟨⟨v3,rfl⟩,h⟩;clear dG ch b8 ca ez eC;obtain⟨eD,T,a8,a9,hd,U,V,hg⟩:=h;have ea:D+4<q.heap.size:=(bg.1 U).1;have eK:b.pending=ν:=by rw[<-u]
  refine⟨b.pending,_,run_endLoop U (by rw[<-u];simp),?_⟩
  obtain⟨E,bb⟩:∃W,W=q.putObj (D+4) (.loop {b with state:=.exhausted}):=⟨_,rfl⟩
  rw[<-bb,eK];have t:∀i,i≠D+4->E.heap[i]?=q.heap[i]? :=λi hi=>by rw[bb];exact World.putObj_heap_other hi
  have g4:γ q E (μ (D+4)):=by rw[bb];exact grownBy_putObj' q _ _
  have cj:E.heap[D+3]?=μ (.deferred (μ [])):=by rw[t _ (by omega)];exact hd
  have bj:=(t w.heap.size (by omega)).trans V;obtain⟨z,n4,c4,q1,q2,Y⟩:=T.put g4 (by omega) (φ ⟨by omega,by omega⟩);obtain⟨⟨p0,p1,p2⟩,-⟩:=rP q1;obtain⟨⟨fo,fq,fs⟩,z0,z1,z2⟩:=rP bj;rw[<-zX s v.lf k H.aw]at p1 p2 q1 q2 Y;clear bb a8 a9 hd U V T;replace⟨t,u,cj,q1,Y,bj,H⟩:=iU t u cj q1 Y bj H;dsimp only
  gi_wp2;go_wp2;obtain⟨L,al⟩:=exq (((ζ E ⟨w.heap.size,0,ν⟩ (σ z n4 c4)).setCell ⟨w.heap.size,1,ν⟩ (β (s.due k).e)).setCell ⟨w.heap.size,2,ν⟩ (β (s.due k).g));rw[<-al];have eL:L.heap[D+3]?=μ (.deferred (μ [])):=by
   rw[al,dK _ _ _ _ (by simp<;>omega),dK _ _ _ _ (by simp<;>omega),dK _ _ _ _ (by simp<;>omega)];exact Z cj
  have eS:L.heap[w.heap.size]?=μ (ο #[σ z n4 c4,β (s.due k).e,β (s.due k).g] 332 (0,0)):=by
   rw[al];have h1:=heap_set (o:=0) (Z bj) (σ z n4 c4);have Q:=heap_set (o:=1) h1 (β (s.due k).e);have h3:=heap_set (o:=2) Q (β (s.due k).g);exact h3
  have g5:γ E L (μ w.heap.size):=by rw[al];exact aM (aM (aM (aD E _) ⟨w.heap.size,0,ν⟩ (σ z n4 c4) (ψ rfl)) ⟨w.heap.size,1,ν⟩ (β (s.due k).e) (ψ rfl)) ⟨w.heap.size,2,ν⟩ (β (s.due k).g) (ψ rfl)
  clear al;refine⟨by simp,φ ⟨_,_,rfl,run_takeDeferred eL,?_⟩⟩
  have g7:=grownBy_putObj' L (D+3) (.deferred ν);have e3:(L.putObj (D+3) (.deferred ν)).heap[w.heap.size]?=μ (ο #[σ z n4 c4,β (s.due k).e,β (s.due k).g] 332 (0,0)):=by rw[World.putObj_heap_other (by omega)];exact eS
  generalize L.putObj (D+3) (.deferred ν)=W7 at *;obtain⟨⟨s0,s1,s2⟩,-⟩:=rP e3;have e4:∀y,(s.due k).l≠[]->z=μ y->y.block<E.heap.size:=λy hl hy=>by subst hy;exact q2.lt hl
  have e5:bq W7 z n4 c4 (s.due k).l:=q2.cM (λhl y B=>by
   have h1:=e4 y hl B;have Q:=(Z Y hl y B).2;rw[g7.block _ (by have:=g5.size;omega) (λe=>Q (φ (by have:y.block=D+3:=aQ e;omega))),g5.block _ h1 (λe=>Q (ψ (aQ e)))])
  refine⟨ε #[σ z n4 c4,β (s.due k).e,β (s.due k).g],?_,⟨z,n4,c4,rfl,e5,λhl y B=>(Z Y hl y B).1⟩,?_⟩
  ·simp[results,results207,go_sem, *]
  exact cT (cT (cT hg g4 (λj e=>by cases e;left;omega)) g5 (λj e=>by cases e;left;omega)) g7 (λj e=>by cases e;left;omega)
 case hY=>
  intro m W h hm;suffices e6:∀R:Ending->ω->Prop,(∀S,tz w M sb w.heap.size D (s.out k) (k:Int) (dW v.lf k) b (m+1) S->ay W S (λi=>i<D+5)->R (ξ (β ρ)) S)->
   YieldAt Fence.wide 1 prog (D+4) #[ε (pA (fZ (dW v.lf k) m))] W R from e6 _ (λS h C=>⟨rfl,h,C⟩)
  intro R cp;replace cp:=J cp;have ee:(fZ (dW v.lf k) m).x.ok:=by
   have ei:=xA hm;unfold dW at ei;obtain⟨x,hx,cv⟩:=sM.1 ei;split at cv;obtain⟨a,n,c,e,hp,-⟩:=ch x hx;exact hp.1 _ cv;cases cv
  have br:=xN (s.out k) (dW v.lf k) m hm;have e7:=Df (s.out k) (dW v.lf k) m (by omega);have fy:=Dg (s.out k) (dW v.lf k) m (by omega);refine⟨b.fn,_,b.assign,b.body,run_yield h.lL (by rw[<-u];rfl),roundIn_of_wpIn trivial ?_⟩
  obtain⟨r1,r⟩:=exq b;have e8:r1.state=.ready:=by rw[r,<-u]
  rw[<-r]at h;have e9:Hid (r1=b):=r;rw[<-u];dsimp only
  clear r;replace u:=J u;obtain⟨p,hp⟩:=exq (fZ (dW v.lf k) m);rw[<-hp]at ee br⊢;clear hp;replace H:=J H;obtain⟨⟨xl,xh⟩,pe,pg⟩:=p;unfold pA;gi_wp2;obtain⟨F,bt⟩:=exq (W.alloc (ο #[ι η xl,ι η xh,β pe,β pg] 377));have ga:γ W F ν:=by rw[bt];exact aJ _ _ _
  have ej:F.heap[W.heap.size]?=μ (ο #[ι η xl,ι η xh,β pe,β pg] 377 (0,0)):=by rw[bt];exact aO _ _
  rw[<-bt];clear bt;have hX:D+4<W.heap.size:=(bg.1 h.lL).1;replace h:=h.cM ga;refine⟨_,run_beginRound h.lL e8,?_⟩
  have ea:D+4<F.heap.size:=(bg.1 h.lL).1;obtain⟨A,ax⟩:∃A,A=F.putObj (D+4) (.loop {r1 with state:=.busy}):=⟨_,rfl⟩
  rw[<-ax];have t:∀i,i≠D+4->A.heap[i]?=F.heap[i]? :=λi hi=>by rw[ax];exact World.putObj_heap_other hi
  have bx:A.heap[D+4]?=μ (.loop {r1 with state:=.busy}):=by rw[ax];exact World.putObj_heap_same ea
  have aC:γ F A (μ (D+4)):=by rw[ax];exact grownBy_putObj' F _ _
  clear ax;obtain⟨eD,T,a8,a9,hd,U,V,hg⟩:=h;have ek:=T.put aC (by omega) (φ ⟨by omega,by omega⟩);have bz:=(t (D+1) (by omega)).trans a8;have bM:=(t (D+2) (by omega)).trans a9;have b0:=(t (D+3) (by omega)).trans hd;have b3:=(t w.heap.size (by omega)).trans V;have b4:=(t W.heap.size (by omega)).trans ej;have fA:D+5<=A.heap.size:=by have:=aC.size;omega
  have a0:=J (Dh A D w.heap.size _ (pK (s.out k) (dW v.lf k) m) ⟨⟨xl,xh⟩,pe,pg⟩ ek (φ ⟨by omega,by omega⟩) (λj hj=>by obtain h|h:=hj<;>omega) (by omega) e7 ee (by omega));rw[<-br]at a0;unfold pA at a0;simp only at a0;obtain⟨x0,x1,x2,x3⟩:=qk b4;clear t T a8 a9 hd U V ej ek;replace⟨bx,b0,bz,bM,b3,b4,br⟩:=iU bx b0 bz bM b3 b4 br;generalize W.heap.size=X at *;gi_wp2;refine⟨trivial,(CallsIn.inRound (D+4) (uz.2 (Z a0))).mono ?_⟩
  rintro e Wc⟨rfl,cw,gc⟩;have G:∀i,i<A.heap.size->i≠D->Wc.heap[i]?=A.heap[i]? :=λi hi h=>gc.block i hi (λe=>h (aQ e))
  have b5:=(G (D+4) (by omega) (by omega)).trans (Z bx);have cx:=(G (D+3) (by omega) (by omega)).trans (Z b0);have cy:=(G (D+1) (by omega) (by omega)).trans (Z bz);have cC:=(G (D+2) (by omega) (by omega)).trans (Z bM);have c9:=(G w.heap.size (by omega) (by omega)).trans (Z b3);have db:γ w Wc ν:=cT (cT hg aC (λj e=>by cases e;left;omega)) gc (λj e=>by cases e;left;omega);have de:ay W Wc (λi=>i<D+5):=(((ay.of ga).trans (ay.of aC)).trans (ay.of gc)).mono (λk _ e=>by
   obtain(e|e)|e:=e
   cases e;have:=aQ e;omega
   ·have:=aQ e;omega)
  clear a0 gc aC ga hg bx b0 bz bM b3 b4 x0 x1 x2 x3;replace⟨b5,cx,cy,cC,c9,cw,db,de,G⟩:=qU b5 cx cy cC c9 cw db de G;gi_wp2;refine⟨_,_,run_endRound ν (Z b5),Z cp _ ?_ ?_⟩
  have fb:D+4<Wc.heap.size:=(bg.1 (Z b5)).1;refine⟨by omega,(Z cw).put (grownBy_putObj' _ _ _) (by omega) (φ ⟨by omega,by omega⟩),?_,?_,?_,?_,?_,?_⟩
  rw[World.putObj_heap_other (by omega)];exact Z cy;rw[World.putObj_heap_other (by omega)];exact Z cC;rw[World.putObj_heap_other (by omega)];exact Z cx;rw[World.putObj_heap_same fb,Z e9,<-Z u];rfl;rw[World.putObj_heap_other (by omega)];exact Z c9;exact cT (Z db) (grownBy_putObj' _ _ _) (λj e=>by cases e;left;omega);exact((Z de).trans (ay.of (grownBy_putObj' _ (D+4) _))).mono (λk _ e=>e.elim id (λe=>by have:=aQ e;omega))
def KJ(w:ω)(b sb:Nat)(cs:Array υ)(v:bf)(s:Sd)(H:bI w b sb cs v s)(k:Nat)(f:k<4)(i:(s.out k).h.nice)(hl:(s.out k).h.af.length+(dW v.lf k).length<=900000):
 Calls prog 207 #[π (μ ⟨sb,0,ν⟩),ι δ k] w λe d=>(∃a n c,e=ξ (ε #[σ a n c,β (s.due k).e,β (s.due k).g])/\bq d a n c (s.due k).l/\((s.due k).l≠[]->∀y,a=μ y->w.heap.size<=y.block))/\γ w d ν:=
 uz.1 (KI w b sb cs v s H k f i hl)
