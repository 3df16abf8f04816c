import Derived.Test.YtjnmokmchdfchaaGreatDoorZ8
import Derived.Test.YtjnmokmchdfchaaGreatDoorZa
set_option maxRecDepth 1000000
set_option maxHeartbeats 8000000
set_option linter.all false
namespace Go.Proofs.YtjnmokmchdfchaaGreatDoor
open Go.RowKit Tryz
attribute[local go_sem]Oper.semAt_some
variable{I:Act}{c:Array Value}{F:Exit->Act->World->Prop}{p:Int}{X:List Rg}{i j k l m n:Nat}{S:Nat->Prop}{H:Oper}{a:Option Addr}{f:Ot}{T:TypeId}{x y z:Value}{W v w:World}
theorem pD(h:W.heap[i]?=some (.cells #[x] T (0,0))):W.cell? ⟨i,0,none⟩=some x/\W.frozen? ⟨i,0,none⟩=false:=by simp[World.cell?,World.frozen?,h]
theorem jq{o:Obj}(h:W.heap[i]?=some o)(g:W.grownBy w none):w.heap[i]?=some o:=(g.block i (aY.1 h).1 (by simp)).trans h
theorem BA{g:Operand}{ps:Array Tmp}{assign body:Code}(a:I.eval g=.func (.func n) #[] c)(b:∀args w,(callFunc n args).run prog w=.ok (.enter n args) w)
 (h:∀fn,CallsIn Fence.wide 2 prog n (#[.func (.yield (w.heap.size+1)) #[] #[]]++c) ((w.alloc (.deferred (some []))).alloc (.loop {state:=.ready,pending:=none,fn,tmps:=I.tmps,params:=ps,assign,body,defers:=w.heap.size}))
   (rangePost Fence.wide 3 prog (w.heap.size+1) F {I with defers:=[{target:=.collected w.heap.size,args:= #[]}]++I.defers})):
 (Code.rangeFunc g ps assign body).wpIn Fence.wide 3 prog F I w:=by
 refine wpIn_rangeFunc λfn _=>?_
 refine⟨w.heap.size+1,[{target:=.collected w.heap.size,args:= #[]}],(w.alloc (.deferred (some []))).alloc (.loop {state:=.ready,pending:=none,fn,tmps:=I.tmps,params:=ps,assign,body,defers:=w.heap.size}),{target:=.fn (.func n) c,args:= #[.func (.yield (w.heap.size+1)) #[] #[]]},(w.alloc (.deferred (some []))).alloc (.loop {state:=.ready,pending:=none,fn,tmps:=I.tmps,params:=ps,assign,body,defers:=w.heap.size}),n,#[.func (.yield (w.heap.size+1)) #[] #[]]++c,(w.alloc (.deferred (some []))).alloc (.loop {state:=.ready,pending:=none,fn,tmps:=I.tmps,params:=ps,assign,body,defers:=w.heap.size}),?_,?_,?_,?_,?_,?_⟩
 exact run_enterLoop_outer _ _ _ _ _
 ·simp only[resolve,a]
  simp[go_sem]
 exact λ_ _=>trivial
 ·simp[invoke,go_sem,b]
 exact λ_=>by omega
 exact h fn
theorem I0{F:Fence}{a:Array Oper}{rest:List Oper}{Q:Exit->Act->World->Prop}(d:H.guard=none)(s x:Operand)(ty:TypeId)(e:H.type=ty)
 (ho:H.op=.call {callee:=.builtin .append,args:= #[s,x],argTypes:= #[133,133]}) (v b u:Value) (hs:I.eval s=v) (f:I.eval x=b)
 (g:(Builtin.append_ #[133,133] ty #[v,b]).run prog w=.ok u W) (h:wpListIn F n prog a Q rest (I.put H.dst u) W):wpListIn F n prog a Q (H::rest) I w:=by
 refine wpListIn_plain d λK i=>?_
 unfold Oper.wpIn;refine⟨?_,?_⟩
 simp[Oper.about,ho,resolve,Target.leads,mi];rw[Oper.semAt_plain F _ _ (by rw[ho];intro c j;cases j)];simp[execOp,ho,resolve,invoke,builtin,hs,f,e,g,Result.andThen];exact i _ _ h
def fG(L:List Rg):Nat->List Rg
 |0=>[]
 |k+1=>fG L k++[⟨(au L (L.length-1-k)).lo,(au L (L.length-1-k)).hi-1⟩]
theorem lU(L:List Rg)(k:Nat):(fG L k).length=k:=by
 induction k with
 |zero=>rfl
 |succ k a=>simp[fG,a]
structure tL(w:World)(a:Option Addr)(n c:Nat)(L:List Rg)(r:Loop)(k:Nat)(W:World):Prop where
 kL:k<=L.length
 box:∃b d e,W.heap[w.heap.size]?=some (.cells #[.slice b d e] 133 (0,0))/\iB W (w.heap.size+4) (.slice b d e) (fG L k)
 set:W.heap[w.heap.size+1]?=some (.cells #[.slice a n c] 227 (0,0))
 gb:w.grownBy W none
 kR:W.heap[w.heap.size+2+1]?=some (.loop r)
 rZ:W.heap[w.heap.size+2]?=some (.deferred (some []))
theorem tL.df{r:Loop}(h:tL w a n i X r k W)(g:W.grownBy v none):tL w a n i X r k v:=by
 obtain⟨b,c,d,e,f⟩:=h.box;exact⟨h.kL,⟨b,c,d,jq e g,f.ao g⟩,jq h.set g,aq h.gb g,jq h.kR g,jq h.rZ g⟩
theorem I1(w:World)(sb no:Nat)(a:Option Addr)(n c:Nat)(L:List Rg)(c0:w.cell? ⟨sb,no,none⟩=some (.slice a n c))(hs:bu w a n c L)(c9:∀r∈L,1<=r.hi)(hn:n<=1000000):
 CallsIn Fence.wide 3 prog 201 #[.pointer (some ⟨sb,no,none⟩)] w λe w'=>∃v,e=.returned v/\iB w' (w.heap.size+4) v (fG L L.length)/\w.grownBy w' none:=by
 refine callsIn_of_wp_marks func201 rfl trivial ?_ rfl;simp only[ntmps201,sT,dq,fB,Nat.reduceAdd,Nat.reduceSub,Array.replicate_succ,Array.replicate_zero,List.push_toArray,List.append_toArray,jQ,qa]
 refine wpIn_wide.2 ?_;have hB:=J (λW=>Ii a n c W);have u0:∀o,(w.alloc o).cell? ⟨sb,no,none⟩=some (.slice a n c):=λo=>(aH _ _ none).cell c0 (by simp)
 clear c0;go_wp2_with (go_at_call 237;refine(Z hB _).mono ?_;rintro e w'⟨rfl,rfl⟩);obtain⟨f,u⟩:=exq ((w.alloc (.cells #[.slice none 0 0] 133)).alloc (.cells #[.slice a n c] 227));rw[<-u];have g6:w.grownBy f none:=by rw[u];exact ba (ba (aB w none) _) _
 have z6:f.heap.size=w.heap.size+2:=by rw[u];simp
 have f0:f.heap[w.heap.size]?=some (.cells #[.slice none 0 0] 133 (0,0)):=by rw[u,fj _ _ _ (by simp)];exact aM _ _
 have f1:f.heap[w.heap.size+1]?=some (.cells #[.slice a n c] 227 (0,0)):=by
  have:=aM (w.alloc (.cells #[.slice none 0 0] 133)) (.cells #[.slice a n c] 227);rw[dQ]at this;rw[u];exact this
 clear u u0 hB;refine(wpIn_wide (n:=3)).1 ?_;refine BA (n:=277) rfl (enters_of func277 (by kernel_rfl) rfl) ?_;intro fn;generalize l:Loop.mk _ _ _ _ _ _ _ _=b;have A:f.grownBy ((f.alloc (.deferred (some []))).alloc (.loop b)) none:=ba (ba (aB f none) _) _;have I:((f.alloc (.deferred (some []))).alloc (.loop b)).heap[f.heap.size+1]?=some (.loop b):=by
  have:=aM (f.alloc (.deferred (some []))) (.loop b);rwa[dQ]at this
 have K:((f.alloc (.deferred (some []))).alloc (.loop b)).heap[f.heap.size]?=some (.deferred (some [])):=by
  rw[fj _ _ _ (by simp)];exact aM _ _
 generalize (f.alloc (.deferred (some []))).alloc (.loop b)=W8 at *;rw[z6]at I K⊢;clear z6;refine(Ij (w.heap.size+2+1) (w.heap.size+1) a n c L (tL w a n c L b) (λk W M h g=>h.df g) (λk W h=>⟨(pD h.set).1,hs.ao h.gb⟩) ?hY _ ?h0).mono ?post;case h0=>exact⟨by omega,⟨_,_,_,jq f0 A,⟨λx hx=>by simp[fG]at hx,om _ _ _ _⟩⟩,jq f1 A,aq g6 A,I,K⟩
 case post=>
  clear f0 f1 g6 A I K;rintro e B⟨⟨v,rfl⟩,h⟩;obtain⟨de,⟨a',n',c',C,y⟩,N,hg,D,hd⟩:=h;have b5:w.heap.size+2+1<B.heap.size:=(aY.1 D).1;have dg:b.pending=none:=by rw[<-l]
  refine⟨b.pending,_,run_endLoop D (by rw[<-l];simp),?_⟩
  obtain⟨O,P⟩:∃W,W=B.putObj (w.heap.size+2+1) (.loop {b with state:=.exhausted}):=⟨_,rfl⟩
  rw[<-P,dg];have m:∀i,i≠w.heap.size+2+1->O.heap[i]?=B.heap[i]? :=λi hi=>by rw[P];exact World.putObj_heap_other hi
  have a4:O.heap[w.heap.size+2]?=some (.deferred (some [])):=by rw[m _ (by omega)];exact hd
  have g4:B.grownBy O (some (w.heap.size+2+1)):=by rw[P];exact grownBy_putObj' B _ _
  have a8:=(m w.heap.size (by omega)).trans C;obtain⟨cb,-⟩:=pD a8;replace l:=J l;clear P C N D hd;replace m:=J m;replace a4:=J a4;replace a8:=J a8;dsimp only
  gi_wp2;go_wp2;refine⟨by simp,.inl ⟨_,_,rfl,run_takeDeferred (Z a4),?_⟩⟩
  refine⟨_,results_tmp rfl _ _ _,_,rfl,?_,?_⟩
  have o4:iB O (w.heap.size+4) (.slice a' n' c') (fG L L.length):=y.gb g4 (.inr (λe=>by have:=(y.lt _ e).1;omega));exact o4.gb (grownBy_putObj' _ _ _) (.inr (λe=>by have:=(o4.lt _ e).1;omega));exact cF (cF hg g4 (λj e=>by cases e;left;omega)) (grownBy_putObj' _ _ _) (λj e=>by cases e;left;omega)
 case hY=>
  clear f0 f1 g6 A I K;intro k W h hk;suffices dk:∀R:Ending->World->Prop,(∀M,tL w a n c L b (k+1) M->R (.returned (.bool true)) M)->
   YieldAt Fence.wide 1 prog (w.heap.size+2+1) #[.int .i64 ((L.length-1-k:Nat):Int),.agg #[.int .u64 (au L (L.length-1-k)).lo,.int .u64 (au L (L.length-1-k)).hi]] W R from dk _ (λM h=>⟨rfl,h⟩)
  intro R a9;replace a9:=J a9;refine⟨b.fn,_,b.assign,b.body,run_yield h.kR (by rw[<-l];rfl),roundIn_of_wpIn trivial ?_⟩
  obtain⟨E,Q⟩:=exq b;have dn:E.state=.ready:=by rw[Q,<-l]
  rw[<-Q]at h;have ds:Hid (E=b):=Q;rw[<-l];dsimp only
  clear Q;replace l:=J l;gi_wp2;obtain⟨p,S⟩:=exq (W.alloc (.cells #[.int .u64 (au L (L.length-1-k)).lo,.int .u64 (au L (L.length-1-k)).hi] 341));have ga:W.grownBy p none:=by rw[S];exact aH _ _ _
  have ca:p.heap[W.heap.size]?=some (.cells #[.int .u64 (au L (L.length-1-k)).lo,.int .u64 (au L (L.length-1-k)).hi] 341 (0,0)):=by rw[S];exact aM _ _
  rw[<-S];clear S;have hX:w.heap.size+2+1<W.heap.size:=(aY.1 h.kR).1;replace h:=h.df ga;clear ga;generalize W.heap.size=X at *;refine⟨_,run_beginRound h.kR dn,?_⟩
  have b5:w.heap.size+2+1<p.heap.size:=(aY.1 h.kR).1;obtain⟨d,F⟩:∃d,d=p.putObj (w.heap.size+2+1) (.loop {E with state:=.busy}):=⟨_,rfl⟩
  rw[<-F];have m:∀i,i≠w.heap.size+2+1->d.heap[i]?=p.heap[i]? :=λi hi=>by rw[F];exact World.putObj_heap_other hi
  have T:d.heap[w.heap.size+2+1]?=some (.loop {E with state:=.busy}):=by rw[F];exact World.putObj_heap_same b5
  have bb:p.grownBy d (some (w.heap.size+2+1)):=by rw[F];exact grownBy_putObj' p _ _
  clear F;obtain⟨de,⟨a',n',c',C,y⟩,N,hg,D,hd⟩:=h;have z:=(m w.heap.size (by omega)).trans C;have U:=(m (w.heap.size+1) (by omega)).trans N;have V:=(m (w.heap.size+2) (by omega)).trans hd;have bj:iB d (w.heap.size+4) (.slice a' n' c') (fG L k):=y.gb bb (.inr (λe=>by have:=(y.lt _ e).1;omega));have Y:=(m X (by omega)).trans ca;clear m C N D hd y ca;replace T:=J T;replace V:=J V;replace U:=J U;obtain⟨cb,fb⟩:=pD z;replace z:=J z;generalize ch:au L (L.length-1-k)=x at *;have x0:d.cell? ⟨X,0,none⟩=some (.int .u64 x.lo):=by simp[World.cell?,Y]
  have x1:d.cell? ⟨X,0+1,none⟩=some (.int .u64 x.hi):=by simp[World.cell?,Y]
  replace Y:=J Y;have cj:1<=x.hi/\x.ok:=by
   rw[<-ch];refine⟨?_,oD hs.1 _⟩
   unfold au;rw[List.getD,eD (by omega)];exact c9 _ (sU _)
  have hw:IntKind.u64.wrap (x.hi-1)=x.hi-1:=by rw[fh];have:=cj.2;unfold Rg.ok aV at this;omega
  have cp:(fG L k).length<=100000000:=by rw[lU];have:=hs.2.1;omega
  have eo:w.heap.size+4<=d.heap.size:=by have:=bb.size;omega
  obtain⟨Wc,G⟩:=exq (d.alloc (.cells #[.int .u64 x.lo,.int .u64 (x.hi-1)] 200));have H:d.grownBy Wc none:=by rw[G];exact aH _ _ _
  have bt:Wc.heap[d.heap.size]?=some (.cells #[.int .u64 x.lo,.int .u64 (x.hi-1)] 200 (0,0)):=by rw[G];exact aM _ _
  obtain⟨q,n2,c2,s,al,cv,g2,ew⟩:=Bz (w:=Wc) 133 (w.heap.size+4) _ _ (bj.ao H) d.heap.size 0 1 ⟨x.lo,x.hi-1⟩ (by have:=cj.2;unfold Rg.ok aV at *;simp only;omega) (by simp[World.cell?,bt]) (by simp[World.cell?,bt]) cp (by have:=H.size;omega);have t:∀i,i<w.heap.size+4->s.heap[i]?=d.heap[i]? :=λi hi=>by
   rw[g2.block i (by have:=H.size;omega) (λe=>by have:=(bj.lt i e.symm).1;omega),H.block i (by omega) (by simp)]
  have cd:=pD ((t w.heap.size (by omega)).trans (Z z));have bx:=(t w.heap.size (by omega)).trans (Z z);have bz:=(t (w.heap.size+2+1) (by omega)).trans (Z T);have bM:=(t (w.heap.size+1) (by omega)).trans (Z U);have b0:=(t (w.heap.size+2) (by omega)).trans (Z V);obtain⟨cd,fd⟩:=cd;rw[G]at al;replace al:=J al;replace G:=J G;clear T V U z cp bt;replace t:=J t;replace bz:=J bz;replace bx:=J bx;replace bM:=J bM;replace b0:=J b0;gi_wp2_with (first|(refine I0 (by rfl) _ _ 133 (by rfl) (by rfl) _ _ _ (by rfl) (by rfl) (Z al) ?_));have cx:(s.setCell ⟨w.heap.size,0,none⟩ (.slice q n2 c2)).heap[w.heap.size+2+1]?=some (.loop {E with state:=.busy}):=by
   rw[dy _ _ _ _ (by simp<;>omega)];exact Z bz
  refine⟨_,_,run_endRound none cx,Z a9 _ ?_⟩
  have du:w.heap.size+2+1<(s.setCell ⟨w.heap.size,0,none⟩ (.slice q n2 c2)).heap.size:=(aY.1 cx).1;have gs:s.grownBy (s.setCell ⟨w.heap.size,0,none⟩ (.slice q n2 c2)) (some w.heap.size):=aI (aB s _) _ _ (.inr rfl);have o3:iB (s.setCell ⟨w.heap.size,0,none⟩ (.slice q n2 c2)) (w.heap.size+4) (.slice q n2 c2) (fG L k++[⟨x.lo,x.hi-1⟩]):=cv.gb gs (.inr (λe=>by have:=(cv.lt _ e).1;omega));refine⟨by omega,⟨q,n2,c2,?_,?_⟩,?_,?_,?_,?_⟩
  rw[World.putObj_heap_other (by omega)];exact heap_set (o:=0) (Z bx) (.slice q n2 c2);rw[show fG L (k+1)=fG L k++[⟨x.lo,x.hi-1⟩] by rw[<-ch];rfl];exact o3.gb (grownBy_putObj' _ _ _) (.inr (λe=>by have:=(o3.lt _ e).1;omega));rw[World.putObj_heap_other (by omega),dy _ _ _ _ (by simp<;>omega)];exact Z bM;refine cF (cF (cF (aq (cF hg bb (λj e=>by cases e;left;omega)) H) g2 (λj e=>?_)) gs (λj e=>by cases e;left;omega)) (grownBy_putObj' _ _ _) (λj e=>by cases e;left;omega);left;have:=(bj.lt j e).1;omega;rw[World.putObj_heap_same du,Z ds,<-Z l];rfl;rw[World.putObj_heap_other (by omega),dy _ _ _ _ (by simp<;>omega)];exact Z b0
theorem I2(w:World)(sb no:Nat)(a:Option Addr)(n c:Nat)(L:List Rg)(c0:w.cell? ⟨sb,no,none⟩=some (.slice a n c))(hs:bu w a n c L)(d:∀r∈L,1<=r.hi)(f:n<=1000000):
 Calls prog 201 #[.pointer (some ⟨sb,no,none⟩)] w λe b=>∃v,e=.returned v/\iB b (w.heap.size+4) v (fG L L.length)/\w.grownBy b none:=
 s8.1 (I1 w sb no a n c L c0 hs d f)
def dL(l:List Kt)(k:Int):List Pc:=l.flatMap (λx=>if x.1.st=k then x.1.ps else[])
theorem BB(l:List Kt)(k:Int)(j:Nat)(a:j<l.length):dL (l.take (j+1)) k=dL (l.take j) k++(if(bJ l j).1.st=k then(bJ l j).1.ps else[]):=by
 unfold dL;rw[qF,nJ a,List.flatMap_append];simp
theorem I3(l:List Kt)(k:Int)(j q:Nat)(a:j<l.length)(b:(bJ l j).1.st=k)(c:q<(bJ l j).1.ps.length):(dL (l.take j) k).length+q<(dL l k).length/\fF (dL l k) ((dL (l.take j) k).length+q)=fF (bJ l j).1.ps q:=by
 have e:dL l k=dL (l.take j) k++((bJ l j).1.ps++dL (l.drop (j+1)) k):=by
  have d:l=l.take (j+1)++l.drop (j+1):=(oQ _ _).symm;have f:dL l k=dL (l.take (j+1)) k++dL (l.drop (j+1)) k:=by
   conv=>lhs;rw[d]
   unfold dL;rw[List.flatMap_append]
  rw[f,BB l k j a,az b,fg]
 rw[e];refine⟨by simp;omega,?_⟩
 unfold fF;rw[List.getD,jz (by omega),sQ,mc c];rfl
theorem pF{a:Value}(h:W.heap[i]?=some (.cells #[x,y,z,a] T (0,0))):W.cell? ⟨i,0,none⟩=some x/\W.cell? ⟨i,0+1,none⟩=some y/\W.cell? ⟨i,0+1+1,none⟩=some z/\W.cell? ⟨i,0+1+1+1,none⟩=some a:=by simp[World.cell?,h]
theorem I4(l b1 b2 sb fo bj t:Nat)(k:Int)(fa:Option Addr)(n C:Nat)(lf:List Kt)(S:Nat->Prop)(d:Nat->World->Prop)
 (D:∀m W p,d m W->W.grownBy p none->d m p)
 (y:∀m W,d m W->W.cell? ⟨b1,0,none⟩=some (.pointer (some ⟨sb,fo,none⟩))/\W.cell? ⟨b2,0,none⟩=some (.int .i64 k)/\W.cell? ⟨sb,fo+3,none⟩=some (.slice fa n C)/\cf W bj (.slice fa n C) lf/\m8 W S lf)
 (hY:∀m W,d m W->m<(dL lf k).length->YieldAt Fence.wide 1 prog l #[.agg (pA (fF (dL lf k) m))] W λe p=>e=.returned (.bool true)/\d (m+1) p/\av W p (λi=>i<t))
 (W:World) (hB:t<=W.heap.size) (h0:d 0 W):
 CallsIn Fence.wide 2 prog 280 #[.func (.yield l) #[] #[],.pointer (some ⟨b1,0,none⟩),.pointer (some ⟨b2,0,none⟩)] W λe p=>(∃v,e=.returned v)/\d (dL lf k).length p:=by
 refine s8.2 ?_;obtain⟨p1,p2,p3,T,-⟩:=y _ _ h0;obtain⟨a',br,U,b8,V⟩:=T.gy;have E:n=lf.length:=(jg U).2.1;obtain rfl:C=br:=(jg U).2.2;clear U;have ca:(n:Int)<=9223372036854775807:=by unfold maxLen at V;omega
 have ch:n<=C:=by omega
 replace D:=J D;replace y:=J y;replace hY:=J hY;replace V:=J V;replace E:=J E;clear T;go_enter func280,ntmps280;go_wp2_with fail;go_loopg [13] (n+1) (λg i wr=>∃j:Nat,j<=n/\g=n+1-j/\i=.int .i64 (j:Int)/\d (dL (lf.take j) k).length wr/\t<=wr.heap.size);case atStart=>exact⟨0,by omega,by omega,rfl,h0,hB⟩
 case round=>
  obtain⟨j,hj,rfl,rfl,z,bt⟩:=hrel;by_cases cj:j<n
  ·have d1:decide ((j:Int)<(n:Int))=true:=bK (by omega);have i1:(j:Int)<(n:Int):=by omega
   have A:j<lf.length:=by have:=Z E;omega
   obtain⟨-,-,-,ho,B⟩:=Z y _ _ z;obtain⟨g,rfl,a3⟩:=ho.cell (by omega);obtain⟨F,G,H,I⟩:=a3 j A;clear a3 ho;rw[dR]at F G H I;obtain⟨pa,a,pp,al,f,-⟩:=B _ (oE A);clear B;have u:=f.2.1;have cp:=f.2.2.1;have bx:=f.2.2.2.1;unfold maxLen at bx;clear f;have ax:=J (BB lf k j A);have K:=J (λq=>I3 lf k j q A);have aC:=oE A;obtain⟨kt,a4⟩:=exq (bJ lf j);rw[<-a4]at F G H I al u ax K aC;clear a4;obtain⟨⟨num,tk,st,ps⟩,sv⟩:=kt;simp only at F G H I al u ax K aC;subst al;replace u:=J u;obtain⟨W3,L⟩:=exq (wr.alloc (.cells #[.int .u64 num,.int .i64 tk,.int .i64 st,.slice pa a pp] 325));have g3:wr.grownBy W3 none:=by rw[L];exact aH _ _ _
   have s:W3.heap[wr.heap.size]?=some (.cells #[.int .u64 num,.int .i64 tk,.int .i64 st,.slice pa a pp] 325 (0,0)):=by rw[L];exact aM _ _
   have j3:=Z D _ _ _ z g3;have bz:t<=W3.heap.size:=by have:=g3.size;omega
   obtain⟨X,N⟩:=exq wr.heap.size;rw[<-N]at s;obtain⟨b0,cv,cw,b3⟩:=lS s;replace s:=J s;go_upto_region 3 with fail;rw[<-L,<-N];rw[<-N]at bt;clear L N F G H I z g3;go_wp2_with fail;have s:=Z s;obtain⟨M,hM⟩:=exq ((dL (lf.take j) k).length);rw[<-hM]at j3 K;go_loopg [20] (a+1) (λg i a0=>∃q:Nat,q<=a/\g=a+1-q/\i=.int .i64 (q:Int)/\d (M+if st=k then q else 0) a0/\a0.heap[X]?=some (.cells #[.int .u64 num,.int .i64 tk,.int .i64 st,.slice pa a pp] 325 (0,0))/\t<=a0.heap.size);case atStart=>exact⟨0,by omega,by omega,rfl,by simpa using j3,s,bz⟩
   case round=>
    obtain⟨q,hq,rfl,rfl,w,bM,b4⟩:=hrel;by_cases cx:q<a
    ·have d2:decide ((q:Int)<(a:Int))=true:=bK (by omega);have i2:(q:Int)<(a:Int):=by omega
     have a8:q<ps.length:=by have:=Z u;omega
     obtain⟨-,q2,-,-,B⟩:=Z y _ _ w;obtain⟨a1,n1,c1,e1,f,-⟩:=B _ aC;clear B;simp only at e1 f;obtain⟨rfl,rfl,rfl⟩:=jg e1;clear e1;have b5:∃b o,pa=some ⟨b,o,none⟩:=by
      obtain h|⟨b,o,h,-⟩:=f.2.2.2.2
      omega;exact⟨b,o,h⟩
     obtain⟨pb,T,rfl⟩:=b5;obtain⟨x0,x1,x2,x3⟩:=f.cell q a8;clear f;have a9:=J (λc=>Z K q c a8);obtain⟨⟨xl,xh⟩,xe,xg,bb⟩:∃(r:Rg)(e g:Bool),fF ps q=⟨r,e,g⟩:=⟨_,_,_,rfl⟩
     rw[bb]at x0 x1 x2 x3 a9;clear bb;simp only at x0 x1 x2 x3;obtain⟨W5,O⟩:=exq (wr.alloc (.cells #[.int .u64 xl,.int .u64 xh,.bool xe,.bool xg] 377));have P:wr.grownBy W5 none:=by rw[O];exact aH _ _ _
     have a2:W5.heap[wr.heap.size]?=some (.cells #[.int .u64 xl,.int .u64 xh,.bool xe,.bool xg] 377 (0,0)):=by rw[O];exact aM _ _
     obtain⟨z0,z1,z2,z3⟩:=pF a2;have Q:=Z D _ _ _ w P;have x:=bA bM P;have cy:=(lS x).2.2.1;have q5:=P.cell q2 (by simp);have b6:t<=W5.heap.size:=by have:=P.size;omega
     clear q2;replace a2:=J a2;replace x:=J x;go_upto_region 6 with fail;rw[<-O];generalize wr.heap.size=Y at *;clear O x0 x1 x2 x3;by_cases c:st=k
     ·obtain⟨hm,hp⟩:=Z a9 c;rw[az c]at Q;obtain⟨fn,cC,c9,db,R,hR⟩:=Z hY _ _ Q hm;rw[hp]at R;unfold pA at R;simp only at R;subst c;refine(wpIn_wide (n:=2)).1 ?_;gi_wp2;refine hR.mono ?_;clear R hR;rintro e W6⟨rfl,b7,C6⟩;gi_wp2;go_wp2;go_roundg (a+1-(q+1));case measure=>omega
      case rel=>exact⟨q+1,by omega,rfl,by go_num,by rw[az trivial];exact b7,(C6.block X (aY.1 (Z x)).1 (by omega)).trans (Z x),by have:=C6.size;omega⟩
     have hd:((st:Int)==k)=false:=by simpa using c
     rw[ah c]at Q;go_wp2_with fail;go_roundg (a+1-(q+1));case measure=>omega
     case rel=>exact⟨q+1,by omega,rfl,by go_num,by rw[ah c];exact Q,Z x,b6⟩
    obtain rfl:q=a:=by omega
    have d2:decide ((q:Int)<(q:Int))=false:=bI (by omega);go_wp2_with fail;go_roundg (n+1-(j+1));case measure=>omega
    case rel=>
     refine⟨j+1,by omega,rfl,by go_num,?_,b4⟩
     rw[Z ax,bH,<-hM];have:=Z u;by_cases c:st=k;rw[az c]at w⊢;rw[<-this];exact w;rw[ah c]at w⊢;exact w
  obtain rfl:j=n:=by omega
  have d1:decide ((j:Int)<(j:Int))=false:=bI (by omega);go_wp2;refine eW (et rfl _ _ _) rfl ?_;refine⟨⟨_,rfl⟩,?_⟩
  rw[Z E,oq]at z;exact z
structure Du where
 l:List Rg
 e:Bool
 g:Bool
def Du.leave(d:Du)(p:Pc):Du:=⟨lP d.l p.x,d.e&& !p.e,d.g&& !p.g⟩
def Ot.yn(o:Ot):Du:=⟨jk o.h.af ⟨o.h.fr,o.h.fr+o.h.bytes.length⟩,o.uE,o.uG⟩
def oG(o:Ot)(ps:List Pc)(m:Nat):Du:=(ps.take m).foldl Du.leave o.yn
theorem vI(o:Ot)(ps:List Pc)(m:Nat)(h:m<ps.length):oG o ps (m+1)=(oG o ps m).leave (fF ps m):=by
 unfold oG;rw[qF,vy h,List.foldl_append];rfl
theorem Jg(l:List Rg)(x:Rg)(c:x.lo<x.hi)(h:∀r∈l,x.hi<=r.lo):(lO l x).length<=l.length:=by
 induction l with
 |nil=>exact aP _
 |cons r l b=>
  have e:lO (r::l) x=((if r.lo<min r.hi x.lo then[⟨r.lo,min r.hi x.lo⟩]else[])++(if max r.lo x.hi<r.hi then[⟨max r.lo x.hi,r.hi⟩]else[]))++lO l x:=rfl;have a:=h r (by simp);have:=b (λr a=>h r (by simp[a]));rw[e,ah (by omega),bH,bH,dq];split<;>simp<;>omega
theorem Jh(l:List Rg)(x:Rg)(h:bh l)(c:x.lo<x.hi):(lO l x).length<=l.length+1:=by
 induction l with
 |nil=>simp[lO]
 |cons r l d=>
  have e:lO (r::l) x=((if r.lo<min r.hi x.lo then[⟨r.lo,min r.hi x.lo⟩]else[])++(if max r.lo x.hi<r.hi then[⟨max r.lo x.hi,r.hi⟩]else[]))++lO l x:=rfl;have g:=d h.tail;rw[e,bH,bH,dq];by_cases a:r.lo<min r.hi x.lo;by_cases b:max r.lo x.hi<r.hi;have i:=Jg l x c (λy f=>by
   have:=(p8.1 h.1).1 y f;omega)
  rw[az a,az b];simp;omega;rw[az a,ah b];simp;omega;rw[ah a];split<;>simp<;>omega
theorem yo(x:Rg)(h:bh X):(lP X x).length<=X.length+1:=by
 unfold lP;split;exact Jh X x h (by assumption);omega
theorem Ji(af:List Rg)(x:Rg):(jk af x).length<=af.length+1:=by
 unfold jk;have key:∀(c l:List Rg),bh l->(c.foldl lP l).length<=c.length+l.length:=by
  intro c;induction c with
  |nil=>intro l _;simp
  |cons r c b=>
   intro l hl;have:=b (lP l r) (tu r hl);have a:=yo r hl;simp only[mh,dq]
   omega
 have:=key af (dv [] x) (mW x bh.nil);have a:=tt [] x;simp at a;omega
theorem BJ(o:Ot)(ps:List Pc)(m:Nat)(h:m<=ps.length):bh (oG o ps m).l:=by
 induction m with
 |zero=>exact tw _ _
 |succ m a=>
  rw[vI o ps m (by omega)];exact tu _ (a (by omega))
theorem BK(o:Ot)(ps:List Pc)(m:Nat)(h:m<=ps.length):(oG o ps m).l.length<=o.h.af.length+1+m:=by
 induction m with
 |zero=>exact Ji _ _
 |succ m a=>
  rw[vI o ps m (by omega)];have:=a (by omega);have b:=yo (fF ps m).x (BJ o ps m (by omega));unfold Du.leave;simp only
  omega
def fO(W:World)(D N:Nat)(X:Nat->Prop)(d:Du):Prop:=∃a n c,W.heap[D]?=some (.cells #[.slice a n c,.bool d.e,.bool d.g] 332 (0,0))/\bu W a n c d.l/\(d.l≠[]->∀y,a=some y->N<=y.block/\¬X y.block)
theorem fO.ao{d:Du}(h:fO W k i S d)(g:W.grownBy w none):fO w k i S d:=by
 obtain⟨a,n,c,b,e,f⟩:=h;exact⟨a,n,c,jq b g,e.ao g,f⟩
theorem fO.put{W':World}{d:Du}(h:fO W k i S d)(g:W.grownBy W' (some j))(p:j≠k)(q:S j):fO W' k i S d:=by
 obtain⟨a,n,c,b,f,l⟩:=h;exact⟨a,n,c,(g.block k (aY.1 b).1 (λe=>p (aO e).symm)).trans b,f.df (λhl y m=>g.block _ (by subst m;exact f.lt hl) (λe=>(l hl y m).2 ((aO e)▸q))),l⟩
theorem BL(w:World)(D N:Nat)(X:Nat->Prop)(d:Du)(p:Pc)(s:fO w D N X d)(t:X D)(u:∀k,X k->k<w.heap.size)(H:N<=w.heap.size)(j:bh d.l)(f:p.x.ok)(I:d.l.length<=1000000):
 Calls prog 241 #[.pointer (some ⟨D,0,none⟩),.agg (pA p)] w λr h=>r=.returned (.tuple #[])/\fO h D N X (d.leave p)/\w.grownBy h (some D):=by
 obtain⟨a,n,c,v,m,q⟩:=s;refine(Jf w D 0 _ _ a n c d.l d.e d.g p.x p.e p.g v rfl rfl rfl m (λhl y b e=>(q hl y b).2 (e▸t)) j f (by have:=m.2.1;omega)).mono ?_;rintro r h⟨rfl,z,A,B,K,g,C,E,i,F,L,G⟩;have e:=Ge j F G;subst e;refine⟨rfl,⟨z,A,B,by rw[C];rfl,E,λhl y b=>?_⟩,g⟩
 obtain rfl|i:=i
 refine q (λe0=>hl ?_) y b;unfold Du.leave;simp only[e0]
 unfold lP;split<;>rfl;have:=i y b;exact⟨by omega,λf=>by have:=u _ f;omega⟩
structure sc(w:World)(b sb a D:Nat)(o:Ot)(k:Int)(ps:List Pc)(r:Loop)(m:Nat)(W:World):Prop where
 mL:m<=ps.length
 box:fO W D a (λj=>(D<=j/\j<=D+4)\/j=a) (oG o ps m)
 b1:W.heap[D+1]?=some (.cells #[.pointer (some ⟨sb,91,none⟩)] 321 (0,0))
 b2:W.heap[D+2]?=some (.cells #[.int .i64 k] 3 (0,0))
 rZ:W.heap[D+3]?=some (.deferred (some []))
 kR:W.heap[D+4]?=some (.loop r)
 res:W.heap[a]?=some (.cells #[.slice none 0 0,.bool false,.bool false] 332 (0,0))
 gb:w.grownBy W none
theorem sc.df{ps:List Pc}{r:Loop}(h:sc w n i j l f p ps r m W)(g:W.grownBy v none):sc w n i j l f p ps r m v:=
 ⟨h.mL,h.box.ao g,jq h.b1 g,jq h.b2 g,jq h.rZ g,jq h.kR g,jq h.res g,aq h.gb g⟩
def Sd.due(s:Sd)(k:Nat):Du:=(s.aK.flatMap (λ(x:Pk)=>if x.st=(k:Int)then x.ps else[])).foldl Du.leave (s.out k).yn
theorem yp(s:Sd)(lf:List Kt)(k:Nat)(h:s.aK=lf.map (·.1)):s.due k=oG (s.out k) (dL lf k) (dL lf k).length:=by
 unfold Sd.due oG dL;rw[oq,h,List.flatMap_map]
theorem Jj(w:World)(N sb:Nat)(cs:Array Value)(v:aU)(s:Sd)(H:bB w N sb cs v s)(k:Nat)(hk:k<4)(hn:(s.out k).h.nice)(hl:(s.out k).h.af.length+(dL v.lf k).length<=900000):
 CallsIn Fence.wide 3 prog 207 #[.pointer (some ⟨sb,0,none⟩),.int .i64 (k:Int)] w λe w'=>(∃a n c,e=.returned (.agg #[.slice a n c,.bool (s.due k).e,.bool (s.due k).g])/\bu w' a n c (s.due k).l/\((s.due k).l≠[]->∀y,a=some y->w.heap.size<=y.block))/\w.grownBy w' none:=by
 refine callsIn_of_wp_marks func207 rfl trivial ?_ rfl;simp only[ntmps207,sT,dq,fB,Nat.reduceAdd,Nat.reduceSub,Array.replicate_succ,Array.replicate_zero,List.push_toArray,List.append_toArray,jQ,qa]
 refine wpIn_wide.2 ?_;obtain⟨ab,nb,cb,ac,nc,cc,ej,ek⟩:=(H.out k hk).mY;have O:=H.out k hk;rw[ej,ek]at O;have hM:=J (λW(g:w.grownBy W none)=>Gy W sb (19+9*k) ab nb cb ac nc cc (s.out k) ((O.ao g).hd (jq H.aN g) hn) ((O.ao g).tail (jq H.aN g)));have hF:=J (λW=>Ik ⟨sb,91,none⟩ (k:Int) W);rw[<-show 19+k*9=19+9*k by omega]at hM;have i1:(k:Int)<4:=by omega
 have d1:decide ((k:Int)<4)=true:=bK i1;obtain⟨W1,a1⟩:=exq (w.alloc (.cells #[.slice none 0 0,.bool false,.bool false] 332));have g1:w.grownBy W1 none:=by rw[a1];exact aH _ _ _
 have r:W1.heap[w.heap.size]?=some (.cells #[.slice none 0 0,.bool false,.bool false] 332 (0,0)):=by rw[a1];exact aM _ _
 replace O:=J O;replace r:=J r;go_upto_region 1 with fail;rw[<-a1];clear a1;go_wp2_with fail;refine(Z hM W1 g1).mono ?_;rintro e f⟨⟨a2,n2,c2,l2,rfl,m1,m2,m3,m4,m5⟩,g2⟩;have eo:=As (x:=⟨(s.out k).h.fr,(s.out k).h.fr+(s.out k).h.bytes.length⟩) m2 m5;subst eo;obtain⟨q,P⟩:=exq (f.alloc (.cells #[.slice a2 n2 c2,.bool (s.out k).uE,.bool (s.out k).uG] 332));have g3:f.grownBy q none:=by rw[P];exact aH _ _ _
 have a3:q.heap[f.heap.size]?=some (.cells #[.slice a2 n2 c2,.bool (s.out k).uE,.bool (s.out k).uG] 332 (0,0)):=by rw[P];exact aM _ _
 have Q:q.heap.size=f.heap.size+1:=by rw[P];simp
 have dg:=J (jq (Z r) (aq g2 g3));have dk:w.heap.size<f.heap.size:=(aY.1 (jq (Z r) g2)).1;have a4:fO q f.heap.size w.heap.size (λj=>(f.heap.size<=j/\j<=f.heap.size+4)\/j=w.heap.size) (s.out k).yn:=⟨a2,n2,c2,a3,m1.ao g3,λhl y E=>by
  have h1:=m3 y E;have S:y.block<f.heap.size:=by subst E;exact m1.lt hl
  have h3:=(aY.1 (Z r)).1;refine⟨by have:=g1.size;omega,λh=>?_⟩
  obtain h|h:=h<;>omega⟩
 replace a4:=J a4;replace a3:=J a3;clear m1 m2 m3 m4 m5 hM;go_upto_region 2 with fail;rw[<-P];clear P;go_wp2_with (go_at_call 240;refine(Z hF _).mono ?_;rintro e w'⟨rfl,rfl⟩);obtain⟨d,K⟩:=exq ((q.alloc (.cells #[.pointer (some ⟨sb,91,none⟩)] 321)).alloc (.cells #[.int .i64 (k:Int)] 3));rw[<-K];have g6:q.grownBy d none:=by rw[K];exact ba (ba (aB _ none) _) _
 have z6:d.heap.size=f.heap.size+3:=by rw[K];simp[Q]
 have f1:d.heap[f.heap.size+1]?=some (.cells #[.pointer (some ⟨sb,91,none⟩)] 321 (0,0)):=by rw[K,fj _ _ _ (by simp[Q]),<-Q];exact aM _ _
 have f2:d.heap[f.heap.size+2]?=some (.cells #[.int .i64 (k:Int)] 3 (0,0)):=by
  have:=aM (q.alloc (.cells #[.pointer (some ⟨sb,91,none⟩)] 321)) (.cells #[.int .i64 (k:Int)] 3);rw[dQ,Q]at this;rw[K];exact this
 have dn:w.grownBy d none:=aq g1 (aq g2 (aq g3 g6));have ds:=(Z a4).ao g6;have du:=jq (Z dg) g6;clear K hF a4 dg r a3 g6 Q;generalize ew:f.heap.size=D at *;clear ew g2 g3 g1;have fq:w.heap.size<D:=dk;clear dk;refine(wpIn_wide (n:=3)).1 ?_;refine BA (n:=280) rfl (enters_of func280 (by kernel_rfl) rfl) ?_;intro fn;generalize u:Loop.mk _ _ _ _ _ _ _ _=b;have L:d.grownBy ((d.alloc (.deferred (some []))).alloc (.loop b)) none:=ba (ba (aB d none) _) _;have b6:((d.alloc (.deferred (some []))).alloc (.loop b)).heap[d.heap.size+1]?=some (.loop b):=by
  have:=aM (d.alloc (.deferred (some []))) (.loop b);rwa[dQ]at this
 have b7:((d.alloc (.deferred (some []))).alloc (.loop b)).heap[d.heap.size]?=some (.deferred (some [])):=by
  rw[fj _ _ _ (by simp)];exact aM _ _
 have z8:((d.alloc (.deferred (some []))).alloc (.loop b)).heap.size=d.heap.size+2:=by simp
 generalize (d.alloc (.deferred (some []))).alloc (.loop b)=W8 at *;rw[z6]at b6 b7 z8⊢;clear z6;obtain⟨fa,ey,dx,ez,eK⟩:=H.fl.of.gy;have b8:=H.fl.of;rw[dx]at b8;have ca:=(aX H.aN _).trans H.fl.c3;rw[dx]at ca;have ch:=H.bq.fN.sub (m:=v.lf) (λx hx=>iH _ hx);have dE:sc w N sb w.heap.size D (s.out k) (k:Int) (dL v.lf k) b 0 W8:=⟨by omega,ds.ao L,jq f1 L,jq f2 L,b7,b6,jq du L,aq dn L⟩
 clear f1 f2 b6 b7 du ds L dn;refine(I4 (D+4) (D+1) (D+2) sb 91 N (D+5) (k:Int) fa v.lf.length ey v.lf (cg sb v) (sc w N sb w.heap.size D (s.out k) (k:Int) (dL v.lf k) b) (λm W T h g=>h.df g) (λm W h=>⟨(pD h.b1).1,(pD h.b2).1,h.gb.cell ca (by simp),b8.ao h.gb,ch.aw (av.of h.gb) (λk _ e=>by cases e)⟩) ?hY _ (by omega) dE).mono ?post;case post=>
  rintro e q⟨⟨v3,rfl⟩,h⟩;clear dE ch b8 ca ez eK;obtain⟨eL,U,a8,a9,hd,V,Y,hg⟩:=h;have dG:D+4<q.heap.size:=(aY.1 V).1;have eS:b.pending=none:=by rw[<-u]
  refine⟨b.pending,_,run_endLoop V (by rw[<-u];simp),?_⟩
  obtain⟨F,bb⟩:∃W,W=q.putObj (D+4) (.loop {b with state:=.exhausted}):=⟨_,rfl⟩
  rw[<-bb,eS];have t:∀i,i≠D+4->F.heap[i]?=q.heap[i]? :=λi hi=>by rw[bb];exact World.putObj_heap_other hi
  have g4:q.grownBy F (some (D+4)):=by rw[bb];exact grownBy_putObj' q _ _
  have cj:F.heap[D+3]?=some (.deferred (some [])):=by rw[t _ (by omega)];exact hd
  have bj:=(t w.heap.size (by omega)).trans Y;obtain⟨z,B,c4,q1,q2,q3⟩:=U.put g4 (by omega) (.inl ⟨by omega,by omega⟩);obtain⟨⟨p0,p1,p2⟩,-⟩:=qM q1;obtain⟨⟨fs,fy,fA⟩,z0,z1,z2⟩:=qM bj;rw[<-yp s v.lf k H.aK]at p1 p2 q1 q2 q3;clear bb a8 a9 hd V Y U;replace t:=J t;replace u:=J u;replace cj:=J cj;replace q1:=J q1;replace q3:=J q3;replace bj:=J bj;replace H:=J H;dsimp only
  gi_wp2;go_wp2;obtain⟨M,al⟩:=exq (((F.setCell ⟨w.heap.size,0,none⟩ (.slice z B c4)).setCell ⟨w.heap.size,1,none⟩ (.bool (s.due k).e)).setCell ⟨w.heap.size,2,none⟩ (.bool (s.due k).g));rw[<-al];have e3:M.heap[D+3]?=some (.deferred (some [])):=by
   rw[al,dy _ _ _ _ (by simp<;>omega),dy _ _ _ _ (by simp<;>omega),dy _ _ _ _ (by simp<;>omega)];exact Z cj
  have e4:M.heap[w.heap.size]?=some (.cells #[.slice z B c4,.bool (s.due k).e,.bool (s.due k).g] 332 (0,0)):=by
   rw[al];have h1:=heap_set (o:=0) (Z bj) (.slice z B c4);have S:=heap_set (o:=1) h1 (.bool (s.due k).e);have h3:=heap_set (o:=2) S (.bool (s.due k).g);exact h3
  have g5:F.grownBy M (some w.heap.size):=by rw[al];exact aI (aI (aI (aB F _) ⟨w.heap.size,0,none⟩ (.slice z B c4) (.inr rfl)) ⟨w.heap.size,1,none⟩ (.bool (s.due k).e) (.inr rfl)) ⟨w.heap.size,2,none⟩ (.bool (s.due k).g) (.inr rfl)
  clear al;refine⟨by simp,.inl ⟨_,_,rfl,run_takeDeferred e3,?_⟩⟩
  have g7:=grownBy_putObj' M (D+3) (.deferred none);have e5:(M.putObj (D+3) (.deferred none)).heap[w.heap.size]?=some (.cells #[.slice z B c4,.bool (s.due k).e,.bool (s.due k).g] 332 (0,0)):=by rw[World.putObj_heap_other (by omega)];exact e4
  generalize M.putObj (D+3) (.deferred none)=W7 at *;obtain⟨⟨s0,s1,s2⟩,-⟩:=qM e5;have e6:∀y,(s.due k).l≠[]->z=some y->y.block<F.heap.size:=λy hl hy=>by subst hy;exact q2.lt hl
  have e7:bu W7 z B c4 (s.due k).l:=q2.df (λhl y E=>by
   have h1:=e6 y hl E;have S:=(Z q3 hl y E).2;rw[g7.block _ (by have:=g5.size;omega) (λe=>S (.inl (by have:y.block=D+3:=aO e;omega))),g5.block _ h1 (λe=>S (.inr (aO e)))])
  refine⟨.agg #[.slice z B c4,.bool (s.due k).e,.bool (s.due k).g],?_,⟨z,B,c4,rfl,e7,λhl y E=>(Z q3 hl y E).1⟩,?_⟩
  ·simp[results,results207,go_sem, *]
  exact cF (cF (cF hg g4 (λj e=>by cases e;left;omega)) g5 (λj e=>by cases e;left;omega)) g7 (λj e=>by cases e;left;omega)
 case hY=>
  intro m W h hm;suffices e8:∀R:Ending->World->Prop,(∀T,sc w N sb w.heap.size D (s.out k) (k:Int) (dL v.lf k) b (m+1) T->av W T (λi=>i<D+5)->R (.returned (.bool true)) T)->
   YieldAt Fence.wide 1 prog (D+4) #[.agg (pA (fF (dL v.lf k) m))] W R from e8 _ (λT h C=>⟨rfl,h,C⟩)
  intro R cp;replace cp:=J cp;have ea:(fF (dL v.lf k) m).x.ok:=by
   have ee:=vz hm;unfold dL at ee;obtain⟨x,hx,cv⟩:=uI.1 ee;split at cv;obtain⟨a,n,c,e,hp,-⟩:=ch x hx;exact hp.1 _ cv;cases cv
  have br:=vI (s.out k) (dL v.lf k) m hm;have e9:=BJ (s.out k) (dL v.lf k) m (by omega);have gd:=BK (s.out k) (dL v.lf k) m (by omega);refine⟨b.fn,_,b.assign,b.body,run_yield h.kR (by rw[<-u];rfl),roundIn_of_wpIn trivial ?_⟩
  obtain⟨r1,r⟩:=exq b;have fb:r1.state=.ready:=by rw[r,<-u]
  rw[<-r]at h;have ff:Hid (r1=b):=r;rw[<-u];dsimp only
  clear r;replace u:=J u;obtain⟨p,hp⟩:=exq (fF (dL v.lf k) m);rw[<-hp]at ea br⊢;clear hp;replace H:=J H;obtain⟨⟨xl,xh⟩,pe,pg⟩:=p;unfold pA;gi_wp2;obtain⟨G,bt⟩:=exq (W.alloc (.cells #[.int .u64 xl,.int .u64 xh,.bool pe,.bool pg] 377));have ga:W.grownBy G none:=by rw[bt];exact aH _ _ _
  have eg:G.heap[W.heap.size]?=some (.cells #[.int .u64 xl,.int .u64 xh,.bool pe,.bool pg] 377 (0,0)):=by rw[bt];exact aM _ _
  rw[<-bt];clear bt;have hX:D+4<W.heap.size:=(aY.1 h.kR).1;replace h:=h.df ga;refine⟨_,run_beginRound h.kR fb,?_⟩
  have dG:D+4<G.heap.size:=(aY.1 h.kR).1;obtain⟨A,ax⟩:∃A,A=G.putObj (D+4) (.loop {r1 with state:=.busy}):=⟨_,rfl⟩
  rw[<-ax];have t:∀i,i≠D+4->A.heap[i]?=G.heap[i]? :=λi hi=>by rw[ax];exact World.putObj_heap_other hi
  have bx:A.heap[D+4]?=some (.loop {r1 with state:=.busy}):=by rw[ax];exact World.putObj_heap_same dG
  have aC:G.grownBy A (some (D+4)):=by rw[ax];exact grownBy_putObj' G _ _
  clear ax;obtain⟨eL,U,a8,a9,hd,V,Y,hg⟩:=h;have ei:=U.put aC (by omega) (.inl ⟨by omega,by omega⟩);have bz:=(t (D+1) (by omega)).trans a8;have bM:=(t (D+2) (by omega)).trans a9;have b0:=(t (D+3) (by omega)).trans hd;have b3:=(t w.heap.size (by omega)).trans Y;have b4:=(t W.heap.size (by omega)).trans eg;have gg:D+5<=A.heap.size:=by have:=aC.size;omega
  have a0:=J (BL A D w.heap.size _ (oG (s.out k) (dL v.lf k) m) ⟨⟨xl,xh⟩,pe,pg⟩ ei (.inl ⟨by omega,by omega⟩) (λj hj=>by obtain h|h:=hj<;>omega) (by omega) e9 ea (by omega));rw[<-br]at a0;unfold pA at a0;simp only at a0;obtain⟨x0,x1,x2,x3⟩:=pF b4;clear t U a8 a9 hd V Y eg ei;replace bx:=J bx;replace b0:=J b0;replace bz:=J bz;replace bM:=J bM;replace b3:=J b3;replace b4:=J b4;replace br:=J br;generalize W.heap.size=X at *;gi_wp2;refine⟨trivial,(CallsIn.inRound (D+4) (s8.2 (Z a0))).mono ?_⟩
  rintro e Wc⟨rfl,cw,gc⟩;have I:∀i,i<A.heap.size->i≠D->Wc.heap[i]?=A.heap[i]? :=λi hi h=>gc.block i hi (λe=>h (aO e))
  have b5:=(I (D+4) (by omega) (by omega)).trans (Z bx);have cx:=(I (D+3) (by omega) (by omega)).trans (Z b0);have cy:=(I (D+1) (by omega) (by omega)).trans (Z bz);have cC:=(I (D+2) (by omega) (by omega)).trans (Z bM);have c9:=(I w.heap.size (by omega) (by omega)).trans (Z b3);have db:w.grownBy Wc none:=cF (cF hg aC (λj e=>by cases e;left;omega)) gc (λj e=>by cases e;left;omega);have de:av W Wc (λi=>i<D+5):=(((av.of ga).trans (av.of aC)).trans (av.of gc)).mono (λk _ e=>by
   obtain(e|e)|e:=e
   cases e;have:=aO e;omega
   ·have:=aO e;omega)
  clear a0 gc aC ga hg bx b0 bz bM b3 b4 x0 x1 x2 x3;replace b5:=J b5;replace cx:=J cx;replace cy:=J cy;replace cC:=J cC;replace c9:=J c9;replace cw:=J cw;replace db:=J db;replace de:=J de;replace I:=J I;gi_wp2;refine⟨_,_,run_endRound none (Z b5),Z cp _ ?_ ?_⟩
  have fo:D+4<Wc.heap.size:=(aY.1 (Z b5)).1;refine⟨by omega,(Z cw).put (grownBy_putObj' _ _ _) (by omega) (.inl ⟨by omega,by omega⟩),?_,?_,?_,?_,?_,?_⟩
  rw[World.putObj_heap_other (by omega)];exact Z cy;rw[World.putObj_heap_other (by omega)];exact Z cC;rw[World.putObj_heap_other (by omega)];exact Z cx;rw[World.putObj_heap_same fo,Z ff,<-Z u];rfl;rw[World.putObj_heap_other (by omega)];exact Z c9;exact cF (Z db) (grownBy_putObj' _ _ _) (λj e=>by cases e;left;omega);exact((Z de).trans (av.of (grownBy_putObj' _ (D+4) _))).mono (λk _ e=>e.elim id (λe=>by have:=aO e;omega))
theorem Jk(w:World)(b sb:Nat)(cs:Array Value)(v:aU)(s:Sd)(H:bB w b sb cs v s)(k:Nat)(f:k<4)(i:(s.out k).h.nice)(hl:(s.out k).h.af.length+(dL v.lf k).length<=900000):
 Calls prog 207 #[.pointer (some ⟨sb,0,none⟩),.int .i64 (k:Int)] w λe d=>(∃a n c,e=.returned (.agg #[.slice a n c,.bool (s.due k).e,.bool (s.due k).g])/\bu d a n c (s.due k).l/\((s.due k).l≠[]->∀y,a=some y->w.heap.size<=y.block))/\w.grownBy d none:=
 s8.1 (Jj w b sb cs v s H k f i hl)
