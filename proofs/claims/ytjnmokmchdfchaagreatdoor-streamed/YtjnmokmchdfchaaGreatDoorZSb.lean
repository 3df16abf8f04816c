import Derived.LoopIn
import Derived.LoopNIn
import Derived.OwnWalkIn
import Derived.RangeFuncBound
import Derived.RangeFuncCalls
import Derived.RangeFuncLeaves
import Derived.RangeFuncNested
import Derived.Shelf.Abstract
import Derived.Shelf.RegionOpen
import Derived.TacticsInMore
import Derived.Test.YtjnmokmchdfchaaGreatDoorZS3
import Derived.Test.YtjnmokmchdfchaaGreatDoorZS9
set_option maxRecDepth 1000000
set_option maxHeartbeats 0
set_option linter.all false
namespace Go.Proofs.YtjnmokmchdfchaaGreatDoor
open Go.RowKit Tryz
open Go.Value renaming int→I,slice→Y,bool→β,pointer→π,agg→ε,string→ς,tuple→τ
open Go.IntKind renaming i64→X,u64→U,u8→Δ
open Go.Ending renaming returned→ξ
open Go.Obj renaming cells→ο
open Or renaming inl→φ,inr→ψ
open Option renaming some→E,none→N
open Bool renaming true→ρ,false→θ
open Go renaming World→D,Value→υ
open Go.World renaming grownBy→G,cell?→κ,frozen?→χ,setCell→ζ
attribute[local go_sem]Oper.semAt_some
variable{c:Array υ}{p q:Int}{K L M:List Int}{s:List Rg}{i j k l m n o:Nat}{a:Option Addr}{T:TypeId}{x:υ}{W v w:D}
def Kq(a:Option Addr)(n c:Nat)(w:D):Calls prog 237 #[Y a n c] w λe b=>
 e=ξ (.func (.func 277) #[] #[π (E ⟨w.heap.size,0,N⟩)])/\b=w.alloc (ο #[Y a n c] 227):=by
 go_enter func237,ntmps237;go_wp2;go_ret;exact⟨Q,Q⟩
def Kr(l p:Nat)(a:Option Addr)(n c:Nat)(L:List Rg)(d:Nat->D->Prop)
 (A:∀k W j,d k W->G W j N->d k j)
 (f:∀k W,d k W->κ W ⟨p,0,N⟩=E (Y a n c)/\bq W a n c L)
 (hY:∀k W,d k W->k<L.length->YieldAt Fence.wide 1 prog l #[I X ((L.length-1-k:Nat):Int),ε #[I U (an L (L.length-1-k)).lo,I U (an L (L.length-1-k)).hi]] W λe j=>e=ξ (β ρ)/\d (k+1) j)
 (W:D) (h0:d 0 W):
 CallsIn Fence.wide 2 prog 277 #[.func (.yield l) #[] #[],π (E ⟨p,0,N⟩)] W λe j=>(∃v,e=ξ v)/\d L.length j:=by
 apply uU.2;have B:=(f _ _ h0).1;have q:=(f _ _ h0).2.2.1;have s:n<=c/\c<=maxLen:=⟨(f _ _ h0).2.2.2.1,(f _ _ h0).2.2.2.2.1⟩
 have C:(n:Int)<=9223372036854775807:=by unfold maxLen at s;omega
 replace⟨f,hY⟩:=aT f hY;go_enter func277,ntmps277;go_wp2;go_loopg [3] (n+1) (λg i wr=>∃k:Nat,k<=n/\g=n+1-k/\i=I X ((n:Int)-1-k)/\d k wr);case atStart=>exact⟨0,O,O,by go_num,h0⟩
 case round=>
  obtain⟨k,F,rfl,rfl,m⟩:=hrel;let⟨c1,r⟩:=Z f _ _ m
  by_cases H:k<n
  .have d1:decide ((n:Int)-1-k≥0)=ρ:=α;have t:∃b o,a=E ⟨b,o,N⟩:=by
    obtain h|⟨b,o,h,-⟩:=r.2.2.2.2
    omega;exact⟨b,o,h⟩
   obtain⟨b,o,rfl⟩:=t;let⟨K,M⟩:=r.cell (n-1-k) O
   let⟨P,R,S,T,u,w⟩:=Z hY _ _ m O
   rw[<-q]at u;generalize an L (n-1-k)=x at *;have y:(n:Int)-1-k=((n-1-k:Nat):Int):=O;rw[y]at d1⊢;generalize n-1-k=i at *;go_upto_region 3 with fail;apply(wpIn_wide (n:=2)).1;gi_wp2;apply w.mono;rintro e V⟨rfl,z⟩;gi_wp2;go_wp2;go_roundg (n+1-(k+1));case measure=>omega
   case rel=>exact⟨k+1,O,Q,by go_num,z⟩
  obtain rfl:k=n:=O;go_wp2;apply eP (dV Q _ _ _) Q;exact⟨⟨_,Q⟩,q▸m⟩
def Ks(p:Addr)(k:Int)(w:D):Calls prog 240 #[π (E p),I X k] w λe a=>
 e=ξ (.func (.func 280) #[] #[π (E ⟨w.heap.size,0,N⟩),π (E ⟨w.heap.size+1,0,N⟩)])/\a=(w.alloc (ο #[π (E p)] 321)).alloc (ο #[I X k] 3):=by
 go_enter func240,ntmps240;go_wp2;go_ret;exact⟨Q,Q⟩
def qI(h:W.heap[i]?=E (ο #[x] T (0,0))):κ W ⟨i,0,N⟩=E x/\χ W ⟨i,0,N⟩=θ:=by simp[κ,χ,h]
def j9{o:Obj}(h:W.heap[i]?=E o)(g:G W w N):w.heap[i]?=E o:=(g.block i (aV.1 h).1 Γ).trans h
def Dx{g:Operand}{ps:Array Tmp}{assign body:Code}{b:Exit->Act->D->Prop}{a:Act}(d:a.eval g=.func (.func n) #[] c)(eg:∀args w,(callFunc n args).run prog w=.ok (.enter n args) w)
 (h:∀fn,CallsIn Fence.wide 2 prog n (#[.func (.yield (w.heap.size+1)) #[] #[]]++c) ((w.alloc (.deferred (E []))).alloc (.loop {state:=.ready,pending:=N,fn,tmps:=a.tmps,params:=ps,assign,body,defers:=w.heap.size}))
   (rangePost Fence.wide 3 prog (w.heap.size+1) b {a with defers:=[{target:=.collected w.heap.size,args:= #[]}]++a.defers})):
 (Code.rangeFunc g ps assign body).wpIn Fence.wide 3 prog b a w:=by
 refine wpIn_rangeFunc λfn _=>?_
 refine⟨w.heap.size+1,[{target:=.collected w.heap.size,args:= #[]}],(w.alloc (.deferred (E []))).alloc (.loop {state:=.ready,pending:=N,fn,tmps:=a.tmps,params:=ps,assign,body,defers:=w.heap.size}),{target:=.fn (.func n) c,args:= #[.func (.yield (w.heap.size+1)) #[] #[]]},(w.alloc (.deferred (E []))).alloc (.loop {state:=.ready,pending:=N,fn,tmps:=a.tmps,params:=ps,assign,body,defers:=w.heap.size}),n,#[.func (.yield (w.heap.size+1)) #[] #[]]++c,(w.alloc (.deferred (E []))).alloc (.loop {state:=.ready,pending:=N,fn,tmps:=a.tmps,params:=ps,assign,body,defers:=w.heap.size}),?_,?_,?_,?_,?_,?_⟩
 exact run_enterLoop_outer _ _ _ _ _
 .simp only[resolve,d]
  simp[go_sem]
 exact λ_ _=>trivial
 .simp[invoke,go_sem,eg]
 omega;grind
def KY{F:Fence}{b:Array Oper}{rest:List Oper}{o:Oper}{a:Act}{c:Exit->Act->D->Prop}(e:o.guard=N)(s x:Operand)(ty:TypeId)(f:o.type=ty)
 (d:o.op=.call {callee:=.builtin .append,args:= #[s,x],argTypes:= #[133,133]}) (v vx u:υ) (hs:a.eval s=v) (g:a.eval x=vx)
 (i:(Builtin.append_ #[133,133] ty #[v,vx]).run prog w=.ok u W) (h:wpListIn F n prog b c rest (a.put o.dst u) W):wpListIn F n prog b c (o::rest) a w:=by
 refine wpListIn_plain e λK j=>?_
 refine⟨?_,?_⟩
 simp[Oper.about,d,resolve,Target.leads,ny];rw[Oper.semAt_plain F _ _ (by grind)];simp[execOp,d,resolve,invoke,builtin,hs,g,f,i,Result.andThen];exact j _ _ h
def ir(L:List Rg):Nat->List Rg
 |0=>[]
 |k+1=>ir L k++[⟨(an L (L.length-1-k)).lo,(an L (L.length-1-k)).hi-1⟩]
def ng(L:List Rg)(k:Nat):(ir L k).length=k:=by
 induction k with
 |zero=>rfl
 |succ k a=>simp[ir,a]
structure vG(w:D)(a:Option Addr)(n c:Nat)(L:List Rg)(r:Loop)(k:Nat)(W:D):Prop where
 kL:k<=L.length
 box:∃b d e,W.heap[w.heap.size]?=E (ο #[Y b d e] 133 (0,0))/\fJ W (w.heap.size+4) (Y b d e) (ir L k)
 set:W.heap[w.heap.size+1]?=E (ο #[Y a n c] 227 (0,0))
 gb:G w W N
 lS:W.heap[w.heap.size+2+1]?=E (.loop r)
 tT:W.heap[w.heap.size+2]?=E (.deferred (E []))
def vG.dR{r:Loop}(h:vG w a n i s r k W)(g:G W v N):vG w a n i s r k v:=by
 let⟨b,c,d,e,f⟩:=h.box
 exact⟨h.kL,⟨b,c,d,j9 e g,f.ag g⟩,j9 h.set g,aq h.gb g,j9 h.lS g,j9 h.tT g⟩
def KZ(w:D)(sb no:Nat)(a:Option Addr)(n c:Nat)(L:List Rg)(c0:κ w ⟨sb,no,N⟩=E (Y a n c))(hs:bq w a n c L)(b8:∀r∈L,1<=r.hi)(hn:n<=1000000):
 CallsIn Fence.wide 3 prog 201 #[π (E ⟨sb,no,N⟩)] w λe w'=>∃v,e=ξ v/\fJ w' (w.heap.size+4) v (ir L L.length)/\G w w' N:=by
 refine callsIn_of_wp_marks func201 Q trivial ?_ Q;simp only[ntmps201,wR,dY,eJ,Nat.reduceAdd,Nat.reduceSub,Array.replicate_succ,Array.replicate_zero,List.push_toArray,List.append_toArray,mg,rU]
 apply wpIn_wide.2;have hB:=J (λW=>Kq a n c W);have u0:∀o,(w.alloc o).cell? ⟨sb,no,N⟩=E (Y a n c):=λo=>(aC _ _ N).cell c0 Γ
 clear c0;go_wp2_with (go_at_call 237;apply(Z hB _).mono;rintro e w'⟨rfl,rfl⟩);obtain⟨b,q⟩:=í ((w.alloc (ο #[Y N 0 0] 133)).alloc (ο #[Y a n c] 227));rw[<-q];have g6:G w b N:=by rw[q];exact aW (aW (au w _) _) _
 have z6:b.heap.size=w.heap.size+2:=by rw[q];simp
 have f0:b.heap[w.heap.size]?=E (ο #[Y N 0 0] 133 (0,0)):=by rw[q,fE _ _ _ Γ];exact aM _ _
 have f1:b.heap[w.heap.size+1]?=E (ο #[Y a n c] 227 (0,0)):=by
  have:=aM (w.alloc (ο #[Y N 0 0] 133)) (ο #[Y a n c] 227);rw[dJ]at this;rw[q];exact this
 clear q u0 hB;apply(wpIn_wide (n:=3)).1;apply Dx (n:=277) Q (enters_of func277 Φ Q);intro fn;generalize l:Loop.mk _ _ _ _ _ _ _ _=f;have y:G b ((b.alloc (.deferred (E []))).alloc (.loop f)) N:=aW (aW (au b _) _) _;have M:((b.alloc (.deferred (E []))).alloc (.loop f)).heap[b.heap.size+1]?=E (.loop f):=by
  have:=aM (b.alloc (.deferred (E []))) (.loop f);rwa[dJ]at this
 have P:((b.alloc (.deferred (E []))).alloc (.loop f)).heap[b.heap.size]?=E (.deferred (E [])):=by
  rw[fE _ _ _ Γ];exact aM _ _
 generalize (b.alloc (.deferred (E []))).alloc (.loop f)=W8 at *;rw[z6]at M P⊢;clear z6;refine(Kr _ _ a n c L (vG w a n c L f) (λk W S h g=>h.dR g) (λk W h=>⟨(qI h.set).1,hs.ag h.gb⟩) ?hY _ ?h0).mono ?post;case h0=>exact⟨O,⟨_,_,_,j9 f0 y,⟨λx hx=>by simp[ir]at hx,lI _ _ _ _⟩⟩,j9 f1 y,aq g6 y,M,P⟩
 case post=>
  clear f0 f1 g6 y M P;rintro e T⟨⟨v,rfl⟩,h⟩;let⟨ca,⟨a',n',c',z,s⟩,V,hg,A,hd⟩:=h
  have bA:=(aV.1 A).1;have cc:f.pending=N:=by rw[<-l]
  refine⟨_,_,run_endLoop A (by rw[<-l];simp),?_⟩
  obtain⟨W4,ai⟩:∃W,W=T.putObj (w.heap.size+2+1) (.loop {f with state:=.exhausted}):=⟨_,rfl⟩
  rw[<-ai,cc];have m:∀i,i≠w.heap.size+2+1->W4.heap[i]?=T.heap[i]? :=λi hi=>by rw[ai];exact World.putObj_heap_other hi
  have a4:W4.heap[w.heap.size+2]?=E (.deferred (E [])):=by rw[m _ O];exact hd
  have g4:G T W4 (E (w.heap.size+2+1)):=by rw[ai];exact grownBy_putObj' T _ _
  have a8:=(m _ O).trans z;obtain⟨cb,-⟩:=qI a8;replace l:=J l;clear ai z V A hd;replace⟨m,a4,a8⟩:=cA m a4 a8;dsimp only
  gi_wp2;go_wp2;refine⟨Γ,φ ⟨_,_,Q,run_takeDeferred (Z a4),?_⟩⟩
  refine⟨_,results_tmp Q _ _ _,_,Q,?_,?_⟩
  have o4:=s.gb g4 (ψ (λe=>by have:=(s.lt _ e).1;omega));exact o4.gb (grownBy_putObj' _ _ _) (ψ (λe=>by have:=(o4.lt _ e).1;omega));exact cO (cO hg g4 (λj e=>by cases e;left;omega)) (grownBy_putObj' _ _ _) (λj e=>by cases e;left;omega)
 case hY=>
  clear f0 f1 g6 y M P;intro k W h hk;suffices cf:∀R:Ending->D->Prop,(∀S,vG w a n c L f (k+1) S->R (ξ (β ρ)) S)->
   YieldAt Fence.wide 1 prog (w.heap.size+2+1) #[I .i64 ((L.length-1-k:Nat):Int),ε #[I U (an L (L.length-1-k)).lo,I U (an L (L.length-1-k)).hi]] W R from cf _ (λS h=>⟨Q,h⟩)
  intro R a9;replace a9:=J a9;refine⟨_,_,_,_,run_yield h.lS (by rw[<-l];rfl),roundIn_of_wpIn trivial ?_⟩
  obtain⟨B,ak⟩:=í f;have ch:B.state=.ready:=by rw[ak,<-l]
  rw[<-ak]at h;have cm:Hid (B=f):=ak;rw[<-l];dsimp only
  clear ak;replace l:=J l;gi_wp2;obtain⟨t,al⟩:=í (W.alloc (ο #[I U (an L (L.length-1-k)).lo,I U (an L (L.length-1-k)).hi] 341));have ga:G W t N:=by rw[al];exact aC _ _ _
  have bM:t.heap[W.heap.size]?=E (ο #[I U (an L (L.length-1-k)).lo,I U (an L (L.length-1-k)).hi] 341 (0,0)):=by rw[al];exact aM _ _
  rw[<-al];clear al;have hX:=(aV.1 h.lS).1;replace h:=h.dR ga;clear ga;generalize W.heap.size=X at *;refine⟨_,run_beginRound h.lS ch,?_⟩
  have bA:=(aV.1 h.lS).1;obtain⟨d,C⟩:∃d,d=t.putObj (w.heap.size+2+1) (.loop {B with state:=.busy}):=⟨_,rfl⟩
  rw[<-C];have m:∀i,i≠w.heap.size+2+1->d.heap[i]?=t.heap[i]? :=λi hi=>by rw[C];exact World.putObj_heap_other hi
  have ao:d.heap[w.heap.size+2+1]?=E (.loop {B with state:=.busy}):=by rw[C];exact World.putObj_heap_same bA
  have bb:G t d (E (w.heap.size+2+1)):=by rw[C];exact grownBy_putObj' t _ _
  clear C;let⟨ca,⟨a',n',c',z,s⟩,V,hg,A,hd⟩:=h
  have u:=(m _ O).trans z;have ax:=(m _ O).trans V;have a0:=(m _ O).trans hd;have bj:=s.gb bb (ψ (λe=>by have:=(s.lt _ e).1;omega));have a1:=(m X O).trans bM;clear m z V A hd s bM;replace⟨ao,a0,ax⟩:=cA ao a0 ax;let⟨cb,fb⟩:=qI u
  replace u:=J u;generalize b3:an L (L.length-1-k)=x at *;have x0:κ d ⟨X,0,N⟩=E (I U x.lo):=by simp[κ,a1]
  have x1:κ d ⟨X,0+1,N⟩=E (I U x.hi):=by simp[κ,a1]
  replace a1:=J a1;have b4:1<=x.hi/\x.ok:=by
   rw[<-b3];refine⟨?_,oC hs.1 _⟩
   unfold an;rw[List.getD,dB O];exact b8 _ (tt _)
  have hw:U.wrap (x.hi-1)=x.hi-1:=by rw[cZ];have:=b4.2;unfold Rg.ok aZ at this;omega
  have b5:(ir L k).length<=100000000:=by rw[ng];have:=hs.2.1;omega
  have ct:w.heap.size+4<=d.heap.size:=by have:=bb.size;omega
  obtain⟨Wc,F⟩:=í (d.alloc (ο #[I U x.lo,I U (x.hi-1)] 200));have H:G d Wc N:=by rw[F];exact aC _ _ _
  have br:Wc.heap[d.heap.size]?=E (ο #[I U x.lo,I U (x.hi-1)] 200 (0,0)):=by rw[F];exact aM _ _
  let⟨a2,n2,c2,K,a3,b6,g2,cv⟩:=zZ (w:=Wc) 133 _ _ _ (bj.ag H) d.heap.size 0 1 ⟨x.lo,x.hi-1⟩ (by have:=b4.2;unfold Rg.ok aZ at *;simp only;omega) (by simp[κ,br]) (by simp[κ,br]) b5 (by have:=H.size;omega)
  have p:∀i,i<w.heap.size+4->K.heap[i]?=d.heap[i]? :=λi hi=>by
   rw[g2.block i (by have:=H.size;omega) (λe=>by have:=(bj.lt i e.symm).1;omega),H.block i O Γ]
  have cd:=qI ((p _ O).trans (Z u));have bt:=(p _ O).trans (Z u);have bw:=(p _ O).trans (Z ao);have bx:=(p _ O).trans (Z ax);have bz:=(p _ O).trans (Z a0);let⟨cd,fd⟩:=cd
  rw[F]at a3;replace⟨a3,F⟩:=aT a3 F;clear ao a0 ax u b5 br;replace⟨p,bw,bt,bx,bz⟩:=gT p bw bt bx bz;gi_wp2_with (first|(refine KY Ξ _ _ 133 Ξ Ξ _ _ _ Ξ Ξ (Z a3) ?_));have b7:(ζ K ⟨w.heap.size,0,N⟩ (Y a2 n2 c2)).heap[w.heap.size+2+1]?=E (.loop {B with state:=.busy}):=by
   rw[dr _ _ _ _ (by simp<;>omega)];exact Z bw
  refine⟨_,_,run_endRound _ b7,Z a9 _ ?_⟩
  have cp:=(aV.1 b7).1;have gs:G K (ζ K ⟨w.heap.size,0,N⟩ (Y a2 n2 c2)) (E w.heap.size):=aD (au K _) _ _ (ψ Q);have o3:=b6.gb gs (ψ (λe=>by have:=(b6.lt _ e).1;omega));refine⟨O,⟨a2,n2,c2,?_,?_⟩,?_,?_,?_,?_⟩
  rw[World.putObj_heap_other O];exact heap_set (o:=0) (Z bt) _;rw[show ir L (k+1)=ir L k++[⟨x.lo,x.hi-1⟩] by rw[<-b3];rfl];exact o3.gb (grownBy_putObj' _ _ _) (ψ (λe=>by have:=(o3.lt _ e).1;omega));rw[World.putObj_heap_other O,dr _ _ _ _ (by simp<;>omega)];exact Z bx;refine cO (cO (cO (aq (cO hg bb (λj e=>by cases e;left;omega)) H) g2 (λj e=>?_)) gs (λj e=>by cases e;left;omega)) (grownBy_putObj' _ _ _) (λj e=>by cases e;left;omega);left;have:=(bj.lt j e).1;omega;rw[World.putObj_heap_same cp,Z cm,<-Z l];rfl;rw[World.putObj_heap_other O,dr _ _ _ _ (by simp<;>omega)];exact Z bz
def K0(w:D)(sb no:Nat)(a:Option Addr)(n c:Nat)(L:List Rg)(c0:κ w ⟨sb,no,N⟩=E (Y a n c))(hs:bq w a n c L)(d:∀r∈L,1<=r.hi)(f:n<=1000000):
 Calls prog 201 #[π (E ⟨sb,no,N⟩)] w λe b=>∃v,e=ξ v/\fJ b (w.heap.size+4) v (ir L L.length)/\G w b N:=
 uU.1 (KZ w sb no a n c L c0 hs d f)
def Mi(K:Array υ)(s n:Int)(w:D)(b:K.size=16):Calls prog 224 #[ε K,I Δ s,I U n] w λe a=>
 e=ξ (.func (.func 264) #[] #[π (E ⟨w.heap.size,0,N⟩),π (E ⟨w.heap.size+1,0,N⟩),π (E ⟨w.heap.size+2,0,N⟩)])/\
 a=((w.alloc (ο K 24)).alloc (ο #[I Δ s] 5)).alloc (ο #[I U n] 30):=by
 go_enter func224,ntmps224;go_wp2;go_ret;exact⟨Q,Q⟩
def uc{wr:D}(h:(w.rangeAt k 0 (bv L)/\κ w ⟨i,0,N⟩=E (I Δ p)/\κ w ⟨j,0,N⟩=E (I U q)/\G wr w N))(g:G w W N):(W.rangeAt k 0 (bv L)/\κ W ⟨i,0,N⟩=E (I Δ p)/\κ W ⟨j,0,N⟩=E (I U q)/\G wr W N):=
 ⟨jE h.1 g Γ,ì g h.2.1,ì g h.2.2.1,aq h.2.2.2 g⟩
def Eb{wr:D}(h:(w.rangeAt k 0 (bv L)/\κ w ⟨i,0,N⟩=E (I Δ p)/\κ w ⟨j,0,N⟩=E (I U q)/\G wr w N))(o:aS w m x K)(a:wr.heap.size<=m)(b:k<wr.heap.size)(c:i<wr.heap.size)(d:j<wr.heap.size)(g:G w W x.ownBlock):(W.rangeAt k 0 (bv L)/\κ W ⟨i,0,N⟩=E (I Δ p)/\κ W ⟨j,0,N⟩=E (I U q)/\G wr W N):=
 ⟨jE h.1 g (λe=>by have:=(o.lt _ e).1;omega),g.cell h.2.1 (λe=>by have:=(o.lt _ e.symm).1;dsimp only at this;omega),g.cell h.2.2.1 (λe=>by have:=(o.lt _ e.symm).1;dsimp only at this;omega),ot (pV (wX h.2.2.2) o g h.2.2.2.size a)⟩
def Mj{wr:D}(h:(w.rangeAt k 0 (bv L)/\κ w ⟨i,0,N⟩=E (I Δ p)/\κ w ⟨j,0,N⟩=E (I U q)/\G wr w N))(o:aS W w.heap.size x K)(g:G w W N):(W.rangeAt k 0 (bv L)/\κ W ⟨i,0,N⟩=E (I Δ p)/\κ W ⟨j,0,N⟩=E (I U q)/\G wr W N)/\aS W wr.heap.size x K/\wr.heap.size<=W.heap.size:=
 ⟨uc h g,o.lower h.2.2.2.size,bG h.2.2.2.size g.size⟩
def Mk(key:List Int)(s n:Int)(l q sb m L:Nat)(d:Nat->D->Prop)(T:D->Prop)(A:cI key)(hs:W8 s)(hn:aZ n)
 (r:∀k W f,d k W->G W f N->d k f)
 (t:∀k W,d k W->(W.heap[q]?=E (ο (bY key) 24 (0,0))/\κ W ⟨sb,0,N⟩=E (I Δ s)/\κ W ⟨m,0,N⟩=E (I U n))/\k<=L)
 (hY:∀k W,d k W->YieldAt Fence.wide 1 prog l #[I Δ (lz key s n k)] W λe f=>(e=ξ (β ρ)/\d (k+1) f)\/(e=ξ (β θ)/\T f))
 (W:D) (h0:d 0 W):
 CallsIn Fence.wide 2 prog 264 #[.func (.yield l) #[] #[],π (E ⟨q,0,N⟩),π (E ⟨sb,0,N⟩),π (E ⟨m,0,N⟩)] W λe f=>(∃v,e=ξ v)/\T f:=by
 have br:(prog.info? 24).map (·.size)=E (bv key).length:=by rw[gy,A.1];exact mh
 have bt:=underlying24;refine uU.2 ?_;replace⟨r,t,hY⟩:=cA r t hY;go_enter func264,ntmps264;go_wp2;go_loopg [5] (L+8) (λg i wr=>∃b:Nat,g=L+8-8*b/\i=I Δ ((b:Int) %256)/\d (8*b) wr);case atStart=>exact⟨0,O,Q,h0⟩
 case round=>
  obtain⟨b,rfl,rfl,B⟩:=hrel;let⟨⟨c1,c2,c3⟩,hL⟩:=Z t _ _ B
  have C:W8 ((b:Int) %256):=by unfold W8;omega
  have V:=(aV.1 c1).1;have l2:sb<wr.heap.size:=eI wr _ c2;have l3:m<wr.heap.size:=eI wr _ c3;have F:(wr.rangeAt q 0 (bv key)/\κ wr ⟨sb,0,N⟩=E (I Δ s)/\κ wr ⟨m,0,N⟩=E (I U n)/\G wr wr N):=⟨mj c1,c2,c3,au _ _⟩
  have ai:=J (λ(a:Option Addr)(n a2:Nat)(l:List Int)(W:D)=>DX key a n a2 l W A);have ak:=J (λW=>D8 s 1 n W hs (by unfold W8;omega) hn);have H:=J (λ(W:D)=>ph W ((b:Int) %256) C);clear c1;go_upto_region 2 with fail;go_cut [6] (λv wx=>v=I U (cQ key (bh s 1 n++[(b:Int) %256]))/\G wr wx N);case first=>
   go_region_held3 (λu=>(u.rangeAt q 0 (bv key)/\κ u ⟨sb,0,N⟩=E (I Δ s)/\κ u ⟨m,0,N⟩=E (I U n)/\G wr u N))
    (with_reducible first|exact al|exact K|exact w|exact uc w (aC _ _ N)|exact uc F (aK (aC _ _ N))|exact uc F (aK (au _ N)))
    (first
      |(go_at_call 223;apply(Z ak _).mono;rintro e w1⟨a1,c1,rfl,o1,g1⟩;obtain⟨w,y,bw⟩:=Mj (wr:=wr) Ω o1 g1)
      |(refine uX Ξ _ _ Ξ wr.heap.size _ (bh s 1 n) Ξ (y.ag (aC _ _ N)) _ _ _ [(b:Int) %256] Ξ (Z H _) (by rw[pI];simp) Ψ ?_;intro a3 c3 w3 o3 M _;have K:=Eb (uc w (aC _ _ N)) (y.ag (aC _ _ N)) (aP _) V l2 l3 M)
      |(refine uX Ξ _ _ Ξ wr.heap.size _ (bh s 1 n) Ξ y _ _ _ [(b:Int) %256] Ξ ((Z H wr).ag (aq (aK (au _ N)) g1)) (by rw[pI];simp) O ?_;intro a3 c3 w3 o3 M _;have K:=Eb w y (aP _) V l2 l3 M)
      |(go_at_call 222;refine(Z ai _ _ _ (bh s 1 n++[(b:Int) %256]) _ o3.eV (by rw[bS,pI];simp)).mono ?_;rintro e w4⟨rfl,g4⟩;have al:=uc K g4))
   all_goals
    go_wp2
    go_meet
    exact⟨Q,al.2.2.2⟩
  case rest=>
   obtain⟨rfl,ao⟩:=hcut;have ax:=Z r _ _ _ B ao;have a0:aZ (cQ key (bh s 1 n++[(b:Int) %256])):=ye key _ A (λx P=>(b9.1 P).elim (Mb hs (by unfold W8;omega) x) (λh=>by rw[eE.1 h];exact C));have p:∀(j:Nat)(W:D),j<8->(Instr.index 300 (ε (bv (eA (cQ key (bh s 1 n++[(b:Int) %256])))).toArray) (I X j)).run prog W=.ok (I Δ (lz key s n (8*b+j))) W:=by
    intro j W a4;have e:lz key s n (8*b+j)=(eA (cQ key (bh s 1 n++[(b:Int) %256]))).getD j 0:=by
     unfold lz;rw[show(8*b+j)/8=b by omega,show(8*b+j) %8=j by omega];generalize cQ key (bh s 1 n++[(b:Int) %256])=h;have e:j=0\/j=1\/j=2\/j=3\/j=4\/j=5\/j=6\/j=7:=O;obtain rfl|rfl|rfl|rfl|rfl|rfl|rfl|rfl:=e<;>rfl
    rw[e];exact DZ _ _ _ _ _ _ _ _ j a4 W
   obtain⟨h,hh⟩:=í (cQ key (bh s 1 n++[(b:Int) %256]));rw[<-hh]at a0 p⊢;clear hh F c2 c3 ai ak H C;obtain⟨K8,R⟩:=í ((bv (eA h)).toArray);rw[<-R]at p;have z:=λW=>yd h W a0
   simp only[<-R]at z;replace⟨z,p⟩:=aT z p;clear R;go_wp2_with (go_at_call 194;apply(Z z _).mono;rintro e w5⟨rfl,g5⟩);have a8:=Z r _ _ _ ax g5;clear ax g5 ao B;go_loopg [21] 8 (λg j a9=>∃c:Nat,c<=8/\g=8-c/\j=I X c/\d (8*b+c) a9);case atStart=>exact⟨0,O,O,Q,a8⟩
   case round=>
    obtain⟨c,bx,rfl,rfl,S⟩:=hrel;by_cases bb:c<8
    .have bz:=λW=>Z p c W bb
     obtain⟨fn,bA,bM,b3,hy,hR⟩:=Z hY _ _ S;go_upto_region 6 with fail;refine(wpIn_wide (n:=2)).1 ?_;gi_wp2;apply hR.mono;clear hy hR;rintro e W3(⟨rfl,bj⟩|⟨rfl,P⟩)
     .gi_wp2;go_wp2;go_roundg (8-(c+1));case measure=>omega
      case rel=>exact⟨c+1,O,Q,by go_num,bj⟩
     gi_wp2;go_wp2;refine cC (dV Q _ _ _) Q ?_;exact⟨⟨_,Q⟩,P⟩
    obtain rfl:c=8:=O;have b4:=(Z t _ _ S).2;go_wp2;go_roundg (L+8-8*(b+1));case measure=>omega
    case rel=>exact⟨b+1,Q,Γ,S⟩
def jO{o:Obj}(h:W.heap[i]?=E o)(g:G W w N):w.heap[i]?=E o:=(g.block i (aV.1 h).1 Γ).trans h
def yg(h:W.heap[i]?=E (ο #[x] T (0,0))):κ W ⟨i,0,N⟩=E x/\χ W ⟨i,0,N⟩=θ:=by simp[κ,χ,h]
def Ml(a m:List Int)(o:Nat)(h:o+m.length<a.length):(splice a o m).getD (o+m.length) 0=a.getD (o+m.length) 0:=by
 simp only[splice,uH]
 rw[pQ (by grind),pQ (by grind)];simp only[dK,tp]
 congr 2;omega
def Mm(a m:List Int)(o:Nat)(y:Int)(h:o+m.length<a.length):(bv (splice a o m)).toArray.setIfInBounds (o+m.length) (I Δ y)=(bv (splice a o (m++[y]))).toArray:=by
 rw[lH];congr 1;have b:(a.take o).length=o:=by grind
 simp only[bv,splice,oj]
 rw[List.set_append_right _ _ (by grind)];congr 1;simp only[fF,b]
 rw[List.set_append_right _ _ Γ];simp only[fF,bS,eF]
 congr 1;rw[show o+m.length-o-m.length=0 by omega];rw[wH (l:=a) (i:=o+m.length) h];simp[pS]
def Mn(a m:List Int)(o:Nat)(h:o+m.length<=a.length):(splice a o m).length=a.length:=length_splice _ _ _ h
def Mo(a:List Int)(o:Nat):splice a o []=a:=by simp[splice]
def Mp(w:D)(a g b c d f:Obj):((((((w.alloc a).alloc g).alloc b).alloc c).alloc d).alloc f).heap[w.heap.size]?=E a/\((((((w.alloc a).alloc g).alloc b).alloc c).alloc d).alloc f).heap[w.heap.size+1+1]?=E b/\
 ((((((w.alloc a).alloc g).alloc b).alloc c).alloc d).alloc f).heap[w.heap.size+1+1+1]?=E c/\((((((w.alloc a).alloc g).alloc b).alloc c).alloc d).alloc f).heap[w.heap.size+1+1+1+1]?=E d/\((((((w.alloc a).alloc g).alloc b).alloc c).alloc d).alloc f).heap[w.heap.size+1+1+1+2]?=E f:=by
 have at_:∀(W:D)(o:Obj)(i:Nat),i=W.heap.size->(W.alloc o).heap[i]?=E o:=λW o i e=>by rw[e];exact aM W o
 refine⟨?_,?_,?_,?_,?_⟩
 .iterate 5 rw[fE _ _ _ (by grind)]
  exact at_ _ _ _ Q
 .iterate 3 rw[fE _ _ _ Γ]
  exact at_ _ _ _ Γ
 .iterate 2 rw[fE _ _ _ Γ]
  exact at_ _ _ _ Γ
 .iterate 1 rw[fE _ _ _ Γ]
  exact at_ _ _ _ Γ
 exact at_ _ _ _ Γ
def Mq{g:Operand}{ps:Array Tmp}{assign body:Code}{b:Exit->Act->D->Prop}{a:Act}(d:a.eval g=.func (.func n) #[] c)(eg:∀args w,(callFunc n args).run prog w=.ok (.enter n args) w)
 (h:∀fn,CallsIn Fence.wide 2 prog n (#[.func (.yield (w.heap.size+1)) #[] #[]]++c) ((w.alloc (.deferred (E []))).alloc (.loop {state:=.ready,pending:=N,fn,tmps:=a.tmps,params:=ps,assign,body,defers:=w.heap.size}))
   (rangePost Fence.wide 3 prog (w.heap.size+1) b {a with defers:=[{target:=.collected w.heap.size,args:= #[]}]++a.defers})):
 (Code.rangeFunc g ps assign body).wpIn Fence.wide 3 prog b a w:=by
 refine wpIn_rangeFunc λfn _=>?_
 refine⟨w.heap.size+1,[{target:=.collected w.heap.size,args:= #[]}],(w.alloc (.deferred (E []))).alloc (.loop {state:=.ready,pending:=N,fn,tmps:=a.tmps,params:=ps,assign,body,defers:=w.heap.size}),{target:=.fn (.func n) c,args:= #[.func (.yield (w.heap.size+1)) #[] #[]]},(w.alloc (.deferred (E []))).alloc (.loop {state:=.ready,pending:=N,fn,tmps:=a.tmps,params:=ps,assign,body,defers:=w.heap.size}),n,#[.func (.yield (w.heap.size+1)) #[] #[]]++c,(w.alloc (.deferred (E []))).alloc (.loop {state:=.ready,pending:=N,fn,tmps:=a.tmps,params:=ps,assign,body,defers:=w.heap.size}),?_,?_,?_,?_,?_,?_⟩
 exact run_enterLoop_outer _ _ _ _ _
 .simp only[resolve,d]
  simp[go_sem]
 exact λ_ _=>trivial
 .simp[invoke,go_sem,eg]
 omega;simp_all
structure Inv(key:List Int)(s n:Int)(w:D)(a bo L d:Nat)(e f:List Int)(t:TypeId)(c:Nat)(r:Loop)(k:Nat)(W:D):Prop where
 kL:k<=L
 i:W.heap[w.heap.size+1+1]?=E (ο #[I X k] 3 (0,0))
 b:W.heap[w.heap.size]?=E (ο #[Y (E ⟨a,bo,N⟩) L d] 112 (0,0))
 lA:W.heap[a]?=E (ο (bv (splice e bo (ke key s n f k))).toArray t (0,0))
 Au:W.heap[w.heap.size+1+1+1]?=E (ο (bY key) 24 (0,0))
 s_:W.heap[w.heap.size+1+1+1+1]?=E (ο #[I Δ s] 5 (0,0))
 n_:W.heap[w.heap.size+1+1+1+2]?=E (ο #[I U n] 30 (0,0))
 gb:G w W (E a)
 lS:W.heap[c+1]?=E (.loop r)
 tT:W.heap[c]?=E (.deferred (E []))
def Inv.dR{a:List Int}{c:Nat}{r:Loop}(h:Inv K p q w l m o j M a T c r k W)(g:G W v N):Inv K p q w l m o j M a T c r k v:=
 ⟨h.kL,jO h.i g,jO h.b g,jO h.lA g,jO h.Au g,jO h.s_ g,jO h.n_ g,cO h.gb g (λd e=>by cases e),jO h.lS g,jO h.tT g⟩
def Mr(key:List Int)(s n:Int)(c bo L p:Nat)(d:List Int)(t:TypeId)(w:World)(hk:cI key)(hs:W8 s)(hn:aZ n)(cf:∀x∈d,W8 x)(ch:bo+L<=d.length)(cm:L<=p)(b5:p<=maxLen)(bt:w.heap[c]?=E (ο (bv d).toArray t (0,0))):
 CallsIn Fence.wide 3 prog 174 #[Y (E ⟨c,bo,N⟩) L p,ε (bY key),I Δ s,I U n] w λe w'=>
  e=ξ (τ #[])/\w'.heap[c]?=E (ο (bv (splice d bo (cV key s n ((d.drop bo).take L)))).toArray t (0,0))/\G w w' (E c):=by
 have ax:=ly hk;have cp:=(aV.1 bt).1;obtain⟨K,S⟩:=í (bY key);rw[<-S]at ax⊢;replace S:=J S;refine callsIn_of_wp_marks func174 Q trivial ?_ Q;simp only[ntmps174,wR,dY,eJ,Nat.reduceAdd,Nat.reduceSub,Array.replicate_succ,Array.replicate_zero,List.push_toArray,List.append_toArray,mg,rU]
 have bw:=aM (w.alloc (ο #[Y (E ⟨c,bo,N⟩) L p] 112)) (ο K 24);rw[dJ]at bw;have a0:(((w.alloc (ο #[Y (E ⟨c,bo,N⟩) L p] 112)).alloc (ο K 24)).alloc (ο #[I X 0] 3)).heap[w.heap.size+1]?=E (ο K 24 (0,0)):=by
  rw[fE _ _ _ Γ];exact bw
 replace a0:=J a0;apply wpIn_wide.2;go_wp2_with (first|(refine lK _ Ξ Ξ _ Ξ K ?_ ax ?_;exact Z a0)|(go_at_call 224;apply(Mi K s n _ ax).mono;rintro e w'⟨rfl,rfl⟩));obtain⟨m,T⟩:=í ((((((w.alloc (ο #[Y (E ⟨c,bo,N⟩) L p] 112)).alloc (ο K 24)).alloc (ο #[I X 0] 3)).alloc (ο K 24)).alloc (ο #[I Δ s] 5)).alloc (ο #[I U n] 30));rw[<-T];have V:G w m N:=by rw[T];exact aW (aW (aW (aW (aW (aW (au w N) _) _) _) _) _) _
 have z6:m.heap.size=w.heap.size+6:=by rw[T];simp
 have f6:=Mp w (ο #[Y (E ⟨c,bo,N⟩) L p] 112) (ο K 24) (ο #[I X 0] 3) (ο K 24) (ο #[I Δ s] 5) (ο #[I U n] 30);rw[<-T]at f6;rw[Z S]at f6;let⟨f0,f1,f2,f3,f4⟩:=f6
 have a1:=jO bt V;obtain⟨a,F⟩:=í ((d.drop bo).take L);have b6:a.length=L:=by rw[F];simp;omega
 replace F:=J F;apply(wpIn_wide (n:=3)).1;apply Mq (n:=264) Q (enters_of func264 Φ Q);intro fn;generalize q:Loop.mk _ _ _ _ _ _ _ _=f;have r:G m ((m.alloc (.deferred (E []))).alloc (.loop f)) N:=aW (aW (au m N) _) _;have a2:((m.alloc (.deferred (E []))).alloc (.loop f)).heap[m.heap.size+1]?=E (.loop f):=by
  have:=aM (m.alloc (.deferred (E []))) (.loop f);rwa[dJ]at this
 have a3:((m.alloc (.deferred (E []))).alloc (.loop f)).heap[m.heap.size]?=E (.deferred (E [])):=by
  rw[fE _ _ _ Γ];exact aM _ _
 generalize (m.alloc (.deferred (E []))).alloc (.loop f)=W8 at *;generalize m.heap.size=D at *;have zD:w.heap.size+6<=D:=O;clear z6;have a4:∀k,k<L->(bv (splice d bo (ke key s n a k))).toArray[bo+k]?=E (I Δ (a.getD k 0)):=by
  intro k bx;have h1:=Ml d (ke key s n a k) bo (by rw[rF];omega);rw[rF]at h1;have h2:=uW (splice d bo (ke key s n a k)) (bo+k) (by rw[Mn _ _ _ (by rw[rF];omega)];omega);rw[h1]at h2;have h3:a.getD k 0=d.getD (bo+k) 0:=by
   rw[Z F,uH,uH,tn,aH bx,tp]
  rw[h3];simpa using h2
 have a8:∀k,k<L->(bv (splice d bo (ke key s n a k))).toArray.setIfInBounds (bo+k) (I Δ (x8 (a.getD k 0) (lz key s n k)))=(bv (splice d bo (ke key s n a (k+1)))).toArray:=by
  intro k bx;have:=Mm d (ke key s n a k) bo (x8 (a.getD k 0) (lz key s n k)) (by rw[rF];omega);rw[rF]at this;rw[this,D2]
 refine(Mk key s n (D+1) (w.heap.size+1+1+1) (w.heap.size+1+1+1+1) (w.heap.size+1+1+1+2) L (Inv key s n w c bo L p d a t D f)
  (λl=>l.heap[c]?=E (ο (bv (splice d bo (ke key s n a L))).toArray t (0,0))/\G w l (E c)/\l.heap[D+1]?=E (.loop {f with state:=.done,pending:=E (.exit 0)})/\l.heap[D]?=E (.deferred (E [])))
  hk hs hn (λk W l h g=>h.dR g) (λk W h=>⟨⟨h.Au,(yg h.s_).1,(yg h.n_).1⟩,h.kL⟩) ?hY _ ?h0).mono ?post
 case h0=>
  refine⟨O,jO f1 r,jO f0 r,?_,jO f2 r,jO f3 r,jO f4 r,cK (aq V r) _,a2,a3⟩
  rw[show ke key s n a 0=[]from Q,Mo];exact jO a1 r
 case post=>
  rintro e W3⟨⟨v,rfl⟩,a9,hg,hr,hd⟩;have bz:=(aV.1 hr).1;refine⟨E (.exit 0),_,run_endLoop hr Γ,?_⟩
  have b7:(W3.putObj (D+1) (.loop {{f with state:=.done,pending:=E (.exit 0)}with state:=.exhausted})).heap[D]?=E (.deferred (E [])):=by rw[World.putObj_heap_other O];exact hd
  replace⟨a9,hr,hd,hg,q⟩:=gT a9 hr hd hg q;clear f0 f1 f2 f3 f4 a1 V r a2 a3;dsimp only
  gi_wp2;refine⟨Γ,φ ⟨_,_,Q,run_takeDeferred b7,?_⟩⟩
  refine⟨_,dV Q _ _ _,Q,?_,?_⟩
  rw[World.putObj_heap_other O,World.putObj_heap_other O,<-Z F];rw[show cV key s n a=ke key s n a L by unfold cV;rw[b6]];exact Z a9;exact cO (cO (Z hg) (grownBy_putObj' _ (D+1) _) (λj e=>by cases e;left;omega)) (grownBy_putObj' _ D _) (λj e=>by cases e;left;omega)
 case hY=>
  clear f0 f1 f2 f3 f4 a1 V r a2 a3;intro k W h;suffices b8:∀R:Ending->World->Prop,(∀l,Inv key s n w c bo L p d a t D f (k+1) l->R (ξ (β ρ)) l)->
   (∀l,(l.heap[c]?=E (ο (bv (splice d bo (ke key s n a L))).toArray t (0,0))/\G w l (E c)/\l.heap[D+1]?=E (.loop {f with state:=.done,pending:=E (.exit 0)})/\l.heap[D]?=E (.deferred (E [])))->R (ξ (β θ)) l)->
   YieldAt Fence.wide 1 prog (D+1) #[I Δ (lz key s n k)] W R from b8 _ (λl h=>φ ⟨Q,h⟩) (λl h=>ψ ⟨Q,h⟩)
  intro R bb bj;replace⟨bb,bj⟩:=aT bb bj;refine⟨f.fn,_,f.assign,f.body,run_yield h.lS (by rw[<-q];rfl),roundIn_of_wpIn trivial ?_⟩
  obtain⟨H,ai⟩:=í f;have ca:H.state=.ready:=by rw[ai,<-q]
  rw[<-ai]at h;have bA:Hid (H=f):=ai;rw[<-q];dsimp only
  clear ai;replace q:=J q;gi_wp2;refine⟨_,run_beginRound h.lS ca,?_⟩
  have bz:=(aV.1 h.lS).1;obtain⟨u,M⟩:∃u,u=W.putObj (D+1) (.loop {H with state:=.busy}):=⟨_,rfl⟩
  rw[<-M];have y:∀i,i≠D+1->u.heap[i]?=W.heap[i]? :=λi hi=>by rw[M];exact World.putObj_heap_other hi
  have P:u.heap[D+1]?=E (.loop {H with state:=.busy}):=by rw[M];exact World.putObj_heap_same bz
  have bM:G W u (E (D+1)):=by rw[M];exact grownBy_putObj' W (D+1) _
  clear M;have ak:=(y (w.heap.size+1+1) O).trans h.i;have al:=(y w.heap.size O).trans h.b;have A:=(y c O).trans h.lA;have ao:=(y D O).trans h.tT;let⟨ci,fi⟩:=yg ak
  let⟨cb,fb⟩:=yg al
  replace⟨y,P,ao,ak,al⟩:=gT y P ao ak al;by_cases b3:k<L
  .have he:((k:Int)==(L:Int))=θ:=Ψ;have ct:(k:Int)+1<=9223372036854775807:=by unfold maxLen at b5;omega
   have cy:κ u ⟨c,bo+k,N⟩=E (I Δ (a.getD k 0)):=by
    simp only[κ,A];simpa using a4 k b3
   have fy:χ u ⟨c,bo+k,N⟩=θ:=ç A;have cc:=J (a8 k b3);replace A:=J A;generalize a.getD k 0=x at *;replace⟨a4,a8⟩:=aT a4 a8;have h':=h;replace h:=J h;clear h';gi_wp2;have b4:((ζ u ⟨c,bo+k,N⟩ (I Δ (bits .xor Δ x (lz key s n k)))).setCell ⟨w.heap.size+1+1,0,N⟩ (I X ((k:Int)+1))).heap[D+1]?=E (.loop {H with state:=.busy}):=by
    rw[dr _ _ _ _ (by simp<;>omega),dr _ _ _ _ (by simp<;>omega)];exact Z P
   refine⟨_,_,run_endRound N b4,Z bb _ ?_⟩
   have C:=Z h;have br:=(aV.1 b4).1;refine⟨O,?_,?_,?_,?_,?_,?_,?_,?_,?_⟩
   rw[World.putObj_heap_other O];have:=heap_set (o:=0) (n:=w.heap.size+1+1) (w:=ζ u ⟨c,bo+k,N⟩ (I Δ (bits .xor Δ x (lz key s n k)))) (by rw[dr _ _ _ _ (by simp<;>omega)];exact Z ak) (I X ((k:Int)+1));exact this;rw[World.putObj_heap_other O,dr _ _ _ _ (by simp<;>omega),dr _ _ _ _ (by simp<;>omega)];exact Z al;rw[World.putObj_heap_other O,dr _ _ _ _ (by simp<;>omega)];have:=heap_set (o:=bo+k) (Z A) (I Δ (bits .xor Δ x (lz key s n k)));rw[this];exact fR (λz=>E (Obj.cells z t (0,0))) (Z cc);rw[World.putObj_heap_other O,dr _ _ _ _ (by simp<;>omega),dr _ _ _ _ (by simp<;>omega),Z y _ O];exact C.Au;rw[World.putObj_heap_other O,dr _ _ _ _ (by simp<;>omega),dr _ _ _ _ (by simp<;>omega),Z y _ O];exact C.s_;rw[World.putObj_heap_other O,dr _ _ _ _ (by simp<;>omega),dr _ _ _ _ (by simp<;>omega),Z y _ O];exact C.n_;refine cO (aD (aD (cO C.gb bM (λj e=>by cases e;left;omega)) _ _ (ψ Q)) _ _ (φ (by simp<;>omega))) (grownBy_putObj' _ (D+1) _) (λj e=>by cases e;left;omega);rw[World.putObj_heap_same br];rw[Z bA,<-Z q];rfl;rw[World.putObj_heap_other O,dr _ _ _ _ (by simp<;>omega),dr _ _ _ _ (by simp<;>omega)];exact Z ao
  obtain rfl:k=L:=by have:=h.kL;omega
  have he:((k:Int)==(k:Int))=ρ:=Γ;replace h:=J h;gi_wp2;refine⟨_,_,run_endRound (E (.exit 0)) (Z P),Z bj _ ?_⟩
  have C:=Z h;have br:=(aV.1 (Z P)).1;refine⟨?_,?_,?_,?_⟩
  rw[World.putObj_heap_other O];exact Z A;exact cO (cO C.gb bM (λj e=>by cases e;left;omega)) (grownBy_putObj' _ (D+1) _) (λj e=>by cases e;left;omega);rw[World.putObj_heap_same br,Z bA,<-Z q];rfl;rw[World.putObj_heap_other O];exact Z ao
def Ec(key:List Int)(s n:Int)(b bo L c:Nat)(a:List Int)(t:TypeId)(w:D)(f:cI key)(hs:W8 s)(g:aZ n)(h:∀x∈a,W8 x)(i:bo+L<=a.length)(j:L<=c)(k:c<=maxLen)(l:w.heap[b]?=E (ο (bv a).toArray t (0,0))):
 Calls prog 174 #[Y (E ⟨b,bo,N⟩) L c,ε (bY key),I Δ s,I U n] w λe d=>
  e=ξ (τ #[])/\d.heap[b]?=E (ο (bv (splice a bo (cV key s n ((a.drop bo).take L)))).toArray t (0,0))/\G w d (E b):=
 uU.1 (Mr key s n b bo L c a t w f hs g h i j k l)
