import Derived.LoopIn
import Derived.LoopNIn
import Derived.OwnWalkIn
import Derived.RangeFuncBound
import Derived.RangeFuncCalls
import Derived.RangeFuncLeaves
import Derived.RangeFuncNested
import Derived.Shelf.Abstract
import Derived.Shelf.RegionOpen
import Derived.TacticsInMore
import Derived.Test.YtjnmokmchdfchaaGreatDoorZW8
import Derived.Test.YtjnmokmchdfchaaGreatDoorZWb
import Derived.Test.YtjnmokmchdfchaaGreatDoorZWc
set_option maxRecDepth 1000000
set_option maxHeartbeats 0
set_option linter.all false
namespace Go.Proofs.YtjnmokmchdfchaaGreatDoor
open Go.RowKit Tryz
attribute[local go_sem]Oper.semAt_some
variable{f:Act}{c:Array Value}{G:Exit->Act->World->Prop}{p q:Int}{K L M:List Int}{Y:List Rg}{i j k l m n o:Nat}{I:Oper}{a:Option Addr}{T:TypeId}{x y z:Value}{W v w:World}
theorem GA(a:Option Addr)(n c:Nat)(w:World):Calls prog 237 #[.slice a n c] w λe b=>
 e=.returned (.func (.func 277) #[] #[.pointer (some ⟨w.heap.size,0,none⟩)])/\b=w.alloc (.cells #[.slice a n c] 227):=by
 go_enter func237,ntmps237;go_wp2;go_ret;exact⟨rfl,rfl⟩
theorem GB(l p:Nat)(a:Option Addr)(n c:Nat)(L:List Rg)(d:Nat->World->Prop)
 (q:∀k W j,d k W->W.grownBy j none->d k j)
 (f:∀k W,d k W->W.cell? ⟨p,0,none⟩=some (.slice a n c)/\ba W a n c L)
 (hY:∀k W,d k W->k<L.length->YieldAt Fence.wide 1 prog l #[.int .i64 ((L.length-1-k:Nat):Int),.agg #[.int .u64 (au L (L.length-1-k)).lo,.int .u64 (au L (L.length-1-k)).hi]] W λe j=>e=.returned (.bool true)/\d (k+1) j)
 (W:World) (h0:d 0 W):
 CallsIn Fence.wide 2 prog 277 #[.func (.yield l) #[] #[],.pointer (some ⟨p,0,none⟩)] W λe j=>(∃v,e=.returned v)/\d L.length j:=by
 refine sg.2 ?_;replace q:=J q;have B:=(f _ _ h0).1;have r:n=L.length:=(f _ _ h0).2.2.1;have w:n<=c/\c<=maxLen:=⟨(f _ _ h0).2.2.2.1,(f _ _ h0).2.2.2.2.1⟩
 have C:(n:Int)<=9223372036854775807:=by unfold maxLen at w;omega
 replace f:=J f;replace hY:=J hY;go_enter func277,ntmps277;go_wp2_with fail;go_loopg [3] (n+1) (λg i wr=>∃k:Nat,k<=n/\g=n+1-k/\i=.int .i64 ((n:Int)-1-k)/\d k wr);case atStart=>exact⟨0,by omega,by omega,by go_num,h0⟩
 case round=>
  obtain⟨k,D,rfl,rfl,m⟩:=hrel;obtain⟨c1,s⟩:=Z f _ _ m;by_cases E:k<n
  ·have d1:decide ((n:Int)-1-k≥0)=true:=bp (by omega);have y:∃b o,a=some ⟨b,o,none⟩:=by
    obtain h|⟨b,o,h,-⟩:=s.2.2.2.2
    omega;exact⟨b,o,h⟩
   obtain⟨b,o,rfl⟩:=y;have hi:n-1-k<L.length:=by omega
   obtain⟨F,G⟩:=s.cell (n-1-k) hi;obtain⟨H,I,K,M,t,u⟩:=Z hY _ _ m (by omega);rw[<-r]at t;generalize au L (n-1-k)=x at *;have z:(n:Int)-1-k=((n-1-k:Nat):Int):=by omega
   rw[z]at d1⊢;have d2:n-1-k<n:=by omega
   generalize n-1-k=i at *;go_upto_region 3 with fail;refine(wpIn_wide (n:=2)).1 ?_;gi_wp2;refine u.mono ?_;clear t u;rintro e N⟨rfl,A⟩;gi_wp2;go_wp2;go_roundg (n+1-(k+1));case measure=>omega
   case rel=>exact⟨k+1,by omega,rfl,by go_num,A⟩
  obtain rfl:k=n:=by omega
  have d1:decide ((k:Int)-1-k≥0)=false:=bB (by omega);go_wp2;refine dP (dj rfl _ _ _) rfl ?_;exact⟨⟨_,rfl⟩,r▸m⟩
theorem GC(p:Addr)(k:Int)(w:World):Calls prog 240 #[.pointer (some p),.int .i64 k] w λe a=>
 e=.returned (.func (.func 280) #[] #[.pointer (some ⟨w.heap.size,0,none⟩),.pointer (some ⟨w.heap.size+1,0,none⟩)])/\a=(w.alloc (.cells #[.pointer (some p)] 321)).alloc (.cells #[.int .i64 k] 3):=by
 go_enter func240,ntmps240;go_wp2;go_ret;exact⟨rfl,rfl⟩
theorem oP(h:W.heap[i]?=some (.cells #[x] T (0,0))):W.cell? ⟨i,0,none⟩=some x/\W.frozen? ⟨i,0,none⟩=false:=by simp[World.cell?,World.frozen?,h]
theorem jh{o:Obj}(h:W.heap[i]?=some o)(g:W.grownBy w none):w.heap[i]?=some o:=(g.block i (aO.1 h).1 (by simp)).trans h
theorem AB{g:Operand}{ps:Array Tmp}{assign body:Code}(a:f.eval g=.func (.func n) #[] c)(b:∀args w,(callFunc n args).run prog w=.ok (.enter n args) w)
 (h:∀fn,CallsIn Fence.wide 2 prog n (#[.func (.yield (w.heap.size+1)) #[] #[]]++c) ((w.alloc (.deferred (some []))).alloc (.loop {state:=.ready,pending:=none,fn,tmps:=f.tmps,params:=ps,assign,body,defers:=w.heap.size}))
   (rangePost Fence.wide 3 prog (w.heap.size+1) G {f with defers:=[{target:=.collected w.heap.size,args:= #[]}]++f.defers})):
 (Code.rangeFunc g ps assign body).wpIn Fence.wide 3 prog G f w:=by
 refine wpIn_rangeFunc λfn _=>?_
 refine⟨w.heap.size+1,[{target:=.collected w.heap.size,args:= #[]}],(w.alloc (.deferred (some []))).alloc (.loop {state:=.ready,pending:=none,fn,tmps:=f.tmps,params:=ps,assign,body,defers:=w.heap.size}),{target:=.fn (.func n) c,args:= #[.func (.yield (w.heap.size+1)) #[] #[]]},(w.alloc (.deferred (some []))).alloc (.loop {state:=.ready,pending:=none,fn,tmps:=f.tmps,params:=ps,assign,body,defers:=w.heap.size}),n,#[.func (.yield (w.heap.size+1)) #[] #[]]++c,(w.alloc (.deferred (some []))).alloc (.loop {state:=.ready,pending:=none,fn,tmps:=f.tmps,params:=ps,assign,body,defers:=w.heap.size}),?_,?_,?_,?_,?_,?_⟩
 exact run_enterLoop_outer _ _ _ _ _
 ·simp only[resolve,a]
  simp[go_sem]
 exact λ_ _=>trivial
 ·simp[invoke,go_sem,b]
 exact λ_=>by omega
 exact h fn
theorem Hk{F:Fence}{a:Array Oper}{rest:List Oper}(d:I.guard=none)(s x:Operand)(ty:TypeId)(e:I.type=ty)
 (ho:I.op=.call {callee:=.builtin .append,args:= #[s,x],argTypes:= #[133,133]}) (v b u:Value) (hs:f.eval s=v) (g:f.eval x=b)
 (i:(Builtin.append_ #[133,133] ty #[v,b]).run prog w=.ok u W) (h:wpListIn F n prog a G rest (f.put I.dst u) W):wpListIn F n prog a G (I::rest) f w:=by
 refine wpListIn_plain d λK j=>?_
 unfold Oper.wpIn;refine⟨?_,?_⟩
 simp[Oper.about,ho,resolve,Target.leads,kN];rw[Oper.semAt_plain F _ _ (by rw[ho];intro c k;cases k)];simp[execOp,ho,resolve,invoke,builtin,hs,g,e,i,Result.andThen];exact j _ _ h
def fW(L:List Rg):Nat->List Rg
 |0=>[]
 |k+1=>fW L k++[⟨(au L (L.length-1-k)).lo,(au L (L.length-1-k)).hi-1⟩]
theorem lV(L:List Rg)(k:Nat):(fW L k).length=k:=by
 induction k with
 |zero=>rfl
 |succ k a=>simp[fW,a]
structure sO(w:World)(a:Option Addr)(n c:Nat)(L:List Rg)(r:Loop)(k:Nat)(W:World):Prop where
 kL:k<=L.length
 box:∃b d e,W.heap[w.heap.size]?=some (.cells #[.slice b d e] 133 (0,0))/\dV W (w.heap.size+4) (.slice b d e) (fW L k)
 set:W.heap[w.heap.size+1]?=some (.cells #[.slice a n c] 227 (0,0))
 gb:w.grownBy W none
 ku:W.heap[w.heap.size+2+1]?=some (.loop r)
 rD:W.heap[w.heap.size+2]?=some (.deferred (some []))
theorem sO.cW{r:Loop}(h:sO w a n i Y r k W)(g:W.grownBy v none):sO w a n i Y r k v:=by
 obtain⟨b,c,d,e,f⟩:=h.box;exact⟨h.kL,⟨b,c,d,jh e g,f.ah g⟩,jh h.set g,aj h.gb g,jh h.ku g,jh h.rD g⟩
theorem Hl(w:World)(sb no:Nat)(a:Option Addr)(n c:Nat)(L:List Rg)(c0:w.cell? ⟨sb,no,none⟩=some (.slice a n c))(hs:ba w a n c L)(cw:∀r∈L,1<=r.hi)(hn:n<=1000000):
 CallsIn Fence.wide 3 prog 201 #[.pointer (some ⟨sb,no,none⟩)] w λe w'=>∃v,e=.returned v/\dV w' (w.heap.size+4) v (fW L L.length)/\w.grownBy w' none:=by
 refine callsIn_of_wp_marks func201 rfl trivial ?_ rfl;simp only[ntmps201,sa,dJ,fH,Nat.reduceAdd,Nat.reduceSub,Array.replicate_succ,Array.replicate_zero,List.push_toArray,List.append_toArray,jQ,nu]
 refine wpIn_wide.2 ?_;have hB:=J (λW=>GA a n c W);have u0:∀o,(w.alloc o).cell? ⟨sb,no,none⟩=some (.slice a n c):=λo=>(aC _ _ none).cell c0 (by simp)
 clear c0;go_wp2_with (go_at_call 237;refine(Z hB _).mono ?_;rintro e w'⟨rfl,rfl⟩);obtain⟨f,u⟩:=exq ((w.alloc (.cells #[.slice none 0 0] 133)).alloc (.cells #[.slice a n c] 227));rw[<-u];have g6:w.grownBy f none:=by rw[u];exact aS (aS (av w none) _) _
 have z6:f.heap.size=w.heap.size+2:=by rw[u];simp
 have f0:f.heap[w.heap.size]?=some (.cells #[.slice none 0 0] 133 (0,0)):=by rw[u,eI _ _ _ (by simp)];exact aH _ _
 have f1:f.heap[w.heap.size+1]?=some (.cells #[.slice a n c] 227 (0,0)):=by
  have:=aH (w.alloc (.cells #[.slice none 0 0] 133)) (.cells #[.slice a n c] 227);rw[dC]at this;rw[u];exact this
 clear u u0 hB;refine(wpIn_wide (n:=3)).1 ?_;refine AB (n:=277) rfl (enters_of func277 (by kernel_rfl) rfl) ?_;intro fn;generalize l:Loop.mk _ _ _ _ _ _ _ _=b;have A:f.grownBy ((f.alloc (.deferred (some []))).alloc (.loop b)) none:=aS (aS (av f none) _) _;have I:((f.alloc (.deferred (some []))).alloc (.loop b)).heap[f.heap.size+1]?=some (.loop b):=by
  have:=aH (f.alloc (.deferred (some []))) (.loop b);rwa[dC]at this
 have K:((f.alloc (.deferred (some []))).alloc (.loop b)).heap[f.heap.size]?=some (.deferred (some [])):=by
  rw[eI _ _ _ (by simp)];exact aH _ _
 generalize (f.alloc (.deferred (some []))).alloc (.loop b)=W8 at *;rw[z6]at I K⊢;clear z6;refine(GB (w.heap.size+2+1) (w.heap.size+1) a n c L (sO w a n c L b) (λk W M h g=>h.cW g) (λk W h=>⟨(oP h.set).1,hs.ah h.gb⟩) ?hY _ ?h0).mono ?post;case h0=>exact⟨by omega,⟨_,_,_,jh f0 A,⟨λx hx=>by simp[fW]at hx,mI _ _ _ _⟩⟩,jh f1 A,aj g6 A,I,K⟩
 case post=>
  clear f0 f1 g6 A I K;rintro e B⟨⟨v,rfl⟩,h⟩;obtain⟨cy,⟨a',n',c',C,y⟩,N,hg,D,hd⟩:=h;have b3:w.heap.size+2+1<B.heap.size:=(aO.1 D).1;have cR:b.pending=none:=by rw[<-l]
  refine⟨b.pending,_,run_endLoop D (by rw[<-l];simp),?_⟩
  obtain⟨O,P⟩:∃W,W=B.putObj (w.heap.size+2+1) (.loop {b with state:=.exhausted}):=⟨_,rfl⟩
  rw[<-P,cR];have m:∀i,i≠w.heap.size+2+1->O.heap[i]?=B.heap[i]? :=λi hi=>by rw[P];exact World.putObj_heap_other hi
  have a8:O.heap[w.heap.size+2]?=some (.deferred (some [])):=by rw[m _ (by omega)];exact hd
  have g4:B.grownBy O (some (w.heap.size+2+1)):=by rw[P];exact grownBy_putObj' B _ _
  have a9:=(m w.heap.size (by omega)).trans C;obtain⟨cb,-⟩:=oP a9;replace l:=J l;clear P C N D hd;replace m:=J m;replace a8:=J a8;replace a9:=J a9;dsimp only
  gi_wp2;go_wp2;refine⟨by simp,.inl ⟨_,_,rfl,run_takeDeferred (Z a8),?_⟩⟩
  refine⟨_,results_tmp rfl _ _ _,_,rfl,?_,?_⟩
  have o4:dV O (w.heap.size+4) (.slice a' n' c') (fW L L.length):=y.gb g4 (.inr (λe=>by have:=(y.lt _ e).1;omega));exact o4.gb (grownBy_putObj' _ _ _) (.inr (λe=>by have:=(o4.lt _ e).1;omega));exact cA (cA hg g4 (λj e=>by cases e;left;omega)) (grownBy_putObj' _ _ _) (λj e=>by cases e;left;omega)
 case hY=>
  clear f0 f1 g6 A I K;intro k W h hk;suffices c9:∀R:Ending->World->Prop,(∀M,sO w a n c L b (k+1) M->R (.returned (.bool true)) M)->
   YieldAt Fence.wide 1 prog (w.heap.size+2+1) #[.int .i64 ((L.length-1-k:Nat):Int),.agg #[.int .u64 (au L (L.length-1-k)).lo,.int .u64 (au L (L.length-1-k)).hi]] W R from c9 _ (λM h=>⟨rfl,h⟩)
  intro R bb;replace bb:=J bb;refine⟨b.fn,_,b.assign,b.body,run_yield h.ku (by rw[<-l];rfl),roundIn_of_wpIn trivial ?_⟩
  obtain⟨E,Q⟩:=exq b;have db:E.state=.ready:=by rw[Q,<-l]
  rw[<-Q]at h;have de:Hid (E=b):=Q;rw[<-l];dsimp only
  clear Q;replace l:=J l;gi_wp2;obtain⟨p,S⟩:=exq (W.alloc (.cells #[.int .u64 (au L (L.length-1-k)).lo,.int .u64 (au L (L.length-1-k)).hi] 341));have ga:W.grownBy p none:=by rw[S];exact aC _ _ _
  have b7:p.heap[W.heap.size]?=some (.cells #[.int .u64 (au L (L.length-1-k)).lo,.int .u64 (au L (L.length-1-k)).hi] 341 (0,0)):=by rw[S];exact aH _ _
  rw[<-S];clear S;have hX:w.heap.size+2+1<W.heap.size:=(aO.1 h.ku).1;replace h:=h.cW ga;clear ga;generalize W.heap.size=X at *;refine⟨_,run_beginRound h.ku db,?_⟩
  have b3:w.heap.size+2+1<p.heap.size:=(aO.1 h.ku).1;obtain⟨d,F⟩:∃d,d=p.putObj (w.heap.size+2+1) (.loop {E with state:=.busy}):=⟨_,rfl⟩
  rw[<-F];have m:∀i,i≠w.heap.size+2+1->d.heap[i]?=p.heap[i]? :=λi hi=>by rw[F];exact World.putObj_heap_other hi
  have T:d.heap[w.heap.size+2+1]?=some (.loop {E with state:=.busy}):=by rw[F];exact World.putObj_heap_same b3
  have bj:p.grownBy d (some (w.heap.size+2+1)):=by rw[F];exact grownBy_putObj' p _ _
  clear F;obtain⟨cy,⟨a',n',c',C,y⟩,N,hg,D,hd⟩:=h;have z:=(m w.heap.size (by omega)).trans C;have U:=(m (w.heap.size+1) (by omega)).trans N;have V:=(m (w.heap.size+2) (by omega)).trans hd;have br:dV d (w.heap.size+4) (.slice a' n' c') (fW L k):=y.gb bj (.inr (λe=>by have:=(y.lt _ e).1;omega));have Y:=(m X (by omega)).trans b7;clear m C N D hd y b7;replace T:=J T;replace V:=J V;replace U:=J U;obtain⟨cb,fb⟩:=oP z;replace z:=J z;generalize b8:au L (L.length-1-k)=x at *;have x0:d.cell? ⟨X,0,none⟩=some (.int .u64 x.lo):=by simp[World.cell?,Y]
  have x1:d.cell? ⟨X,0+1,none⟩=some (.int .u64 x.hi):=by simp[World.cell?,Y]
  replace Y:=J Y;have ca:1<=x.hi/\x.ok:=by
   rw[<-b8];refine⟨?_,nB hs.1 _⟩
   unfold au;rw[List.getD,eF (by omega)];exact cw _ (nt _)
  have hw:IntKind.u64.wrap (x.hi-1)=x.hi-1:=by rw[eH];have:=ca.2;unfold Rg.ok aR at this;omega
  have cf:(fW L k).length<=100000000:=by rw[lV];have:=hs.2.1;omega
  have ei:w.heap.size+4<=d.heap.size:=by have:=bj.size;omega
  obtain⟨Wc,G⟩:=exq (d.alloc (.cells #[.int .u64 x.lo,.int .u64 (x.hi-1)] 200));have H:d.grownBy Wc none:=by rw[G];exact aC _ _ _
  have bx:Wc.heap[d.heap.size]?=some (.cells #[.int .u64 x.lo,.int .u64 (x.hi-1)] 200 (0,0)):=by rw[G];exact aH _ _
  obtain⟨q,n2,c2,s,al,cg,g2,ej⟩:=AA (w:=Wc) 133 (w.heap.size+4) _ _ (br.ah H) d.heap.size 0 1 ⟨x.lo,x.hi-1⟩ (by have:=ca.2;unfold Rg.ok aR at *;simp only;omega) (by simp[World.cell?,bx]) (by simp[World.cell?,bx]) cf (by have:=H.size;omega);have t:∀i,i<w.heap.size+4->s.heap[i]?=d.heap[i]? :=λi hi=>by
   rw[g2.block i (by have:=H.size;omega) (λe=>by have:=(br.lt i e.symm).1;omega),H.block i (by omega) (by simp)]
  have cd:=oP ((t w.heap.size (by omega)).trans (Z z));have bz:=(t w.heap.size (by omega)).trans (Z z);have bL:=(t (w.heap.size+2+1) (by omega)).trans (Z T);have bM:=(t (w.heap.size+1) (by omega)).trans (Z U);have bP:=(t (w.heap.size+2) (by omega)).trans (Z V);obtain⟨cd,fd⟩:=cd;rw[G]at al;replace al:=J al;replace G:=J G;clear T V U z cf bx;replace t:=J t;replace bL:=J bL;replace bz:=J bz;replace bM:=J bM;replace bP:=J bP;gi_wp2_with (first|(refine Hk (by rfl) _ _ 133 (by rfl) (by rfl) _ _ _ (by rfl) (by rfl) (Z al) ?_));have cj:(s.setCell ⟨w.heap.size,0,none⟩ (.slice q n2 c2)).heap[w.heap.size+2+1]?=some (.loop {E with state:=.busy}):=by
   rw[cY _ _ _ _ (by simp<;>omega)];exact Z bL
  refine⟨_,_,run_endRound none cj,Z bb _ ?_⟩
  have dg:w.heap.size+2+1<(s.setCell ⟨w.heap.size,0,none⟩ (.slice q n2 c2)).heap.size:=(aO.1 cj).1;have gs:s.grownBy (s.setCell ⟨w.heap.size,0,none⟩ (.slice q n2 c2)) (some w.heap.size):=aD (av s _) _ _ (.inr rfl);have o3:dV (s.setCell ⟨w.heap.size,0,none⟩ (.slice q n2 c2)) (w.heap.size+4) (.slice q n2 c2) (fW L k++[⟨x.lo,x.hi-1⟩]):=cg.gb gs (.inr (λe=>by have:=(cg.lt _ e).1;omega));refine⟨by omega,⟨q,n2,c2,?_,?_⟩,?_,?_,?_,?_⟩
  rw[World.putObj_heap_other (by omega)];exact heap_set (o:=0) (Z bz) (.slice q n2 c2);rw[show fW L (k+1)=fW L k++[⟨x.lo,x.hi-1⟩] by rw[<-b8];rfl];exact o3.gb (grownBy_putObj' _ _ _) (.inr (λe=>by have:=(o3.lt _ e).1;omega));rw[World.putObj_heap_other (by omega),cY _ _ _ _ (by simp<;>omega)];exact Z bM;refine cA (cA (cA (aj (cA hg bj (λj e=>by cases e;left;omega)) H) g2 (λj e=>?_)) gs (λj e=>by cases e;left;omega)) (grownBy_putObj' _ _ _) (λj e=>by cases e;left;omega);left;have:=(br.lt j e).1;omega;rw[World.putObj_heap_same dg,Z de,<-Z l];rfl;rw[World.putObj_heap_other (by omega),cY _ _ _ _ (by simp<;>omega)];exact Z bP
theorem Hm(w:World)(sb no:Nat)(a:Option Addr)(n c:Nat)(L:List Rg)(c0:w.cell? ⟨sb,no,none⟩=some (.slice a n c))(hs:ba w a n c L)(d:∀r∈L,1<=r.hi)(f:n<=1000000):
 Calls prog 201 #[.pointer (some ⟨sb,no,none⟩)] w λe b=>∃v,e=.returned v/\dV b (w.heap.size+4) v (fW L L.length)/\w.grownBy b none:=
 sg.1 (Hl w sb no a n c L c0 hs d f)
def dz(l:List Kt)(k:Int):List Pc:=l.flatMap (λx=>if x.1.st=k then x.1.ps else[])
theorem AD(l:List Kt)(k:Int)(j:Nat)(a:j<l.length):dz (l.take (j+1)) k=dz (l.take j) k++(if(bD l j).1.st=k then(bD l j).1.ps else[]):=by
 unfold dz;rw[nr,mQ a,vS];simp
theorem Hn(l:List Kt)(k:Int)(j q:Nat)(a:j<l.length)(b:(bD l j).1.st=k)(c:q<(bD l j).1.ps.length):(dz (l.take j) k).length+q<(dz l k).length/\eT (dz l k) ((dz (l.take j) k).length+q)=eT (bD l j).1.ps q:=by
 have e:dz l k=dz (l.take j) k++((bD l j).1.ps++dz (l.drop (j+1)) k):=by
  have d:l=l.take (j+1)++l.drop (j+1):=(nZ _ _).symm;have f:dz l k=dz (l.take (j+1)) k++dz (l.drop (j+1)) k:=by
   conv=>lhs;rw[d]
   unfold dz;rw[vS]
  rw[f,AD l k j a,aM b,eA]
 rw[e];refine⟨by simp;omega,?_⟩
 unfold eT;rw[List.getD,kZ (by omega),rZ,nk c];rfl
theorem oQ{a:Value}(h:W.heap[i]?=some (.cells #[x,y,z,a] T (0,0))):W.cell? ⟨i,0,none⟩=some x/\W.cell? ⟨i,0+1,none⟩=some y/\W.cell? ⟨i,0+1+1,none⟩=some z/\W.cell? ⟨i,0+1+1+1,none⟩=some a:=by simp[World.cell?,h]
theorem Ho(l b1 b2 sb fo br t:Nat)(k:Int)(fa:Option Addr)(n C:Nat)(lf:List Kt)(S:Nat->Prop)(d:Nat->World->Prop)
 (D:∀m W p,d m W->W.grownBy p none->d m p)
 (y:∀m W,d m W->W.cell? ⟨b1,0,none⟩=some (.pointer (some ⟨sb,fo,none⟩))/\W.cell? ⟨b2,0,none⟩=some (.int .i64 k)/\W.cell? ⟨sb,fo+3,none⟩=some (.slice fa n C)/\bU W br (.slice fa n C) lf/\mq W S lf)
 (hY:∀m W,d m W->m<(dz lf k).length->YieldAt Fence.wide 1 prog l #[.agg (pA (eT (dz lf k) m))] W λe p=>e=.returned (.bool true)/\d (m+1) p/\ak W p (λi=>i<t))
 (W:World) (hB:t<=W.heap.size) (h0:d 0 W):
 CallsIn Fence.wide 2 prog 280 #[.func (.yield l) #[] #[],.pointer (some ⟨b1,0,none⟩),.pointer (some ⟨b2,0,none⟩)] W λe p=>(∃v,e=.returned v)/\d (dz lf k).length p:=by
 refine sg.2 ?_;obtain⟨p1,p2,p3,T,-⟩:=y _ _ h0;obtain⟨a',bt,U,b6,V⟩:=T.fL;have E:n=lf.length:=(fS U).2.1;obtain rfl:C=bt:=(fS U).2.2;clear U;have b7:(n:Int)<=9223372036854775807:=by unfold maxLen at V;omega
 have b8:n<=C:=by omega
 replace D:=J D;replace y:=J y;replace hY:=J hY;replace V:=J V;replace E:=J E;clear T;go_enter func280,ntmps280;go_wp2_with fail;go_loopg [13] (n+1) (λg i wr=>∃j:Nat,j<=n/\g=n+1-j/\i=.int .i64 (j:Int)/\d (dz (lf.take j) k).length wr/\t<=wr.heap.size);case atStart=>exact⟨0,by omega,by omega,rfl,h0,hB⟩
 case round=>
  obtain⟨j,hj,rfl,rfl,z,bx⟩:=hrel;by_cases ca:j<n
  ·have d1:decide ((j:Int)<(n:Int))=true:=bp (by omega);have i1:(j:Int)<(n:Int):=by omega
   have A:j<lf.length:=by have:=Z E;omega
   obtain⟨-,-,-,ho,B⟩:=Z y _ _ z;obtain⟨g,rfl,a4⟩:=ho.cell (by omega);obtain⟨F,G,H,I⟩:=a4 j A;clear a4 ho;rw[dv]at F G H I;obtain⟨pa,a,pp,al,f,-⟩:=B _ (nF A);clear B;have u:=f.2.1;have cf:=f.2.2.1;have bz:=f.2.2.2.1;unfold maxLen at bz;clear f;have ax:=J (AD lf k j A);have K:=J (λq=>Hn lf k j q A);have a0:=nF A;obtain⟨kt,a8⟩:=exq (bD lf j);rw[<-a8]at F G H I al u ax K a0;clear a8;obtain⟨⟨num,tk,st,ps⟩,sv⟩:=kt;simp only at F G H I al u ax K a0;subst al;replace u:=J u;obtain⟨W3,L⟩:=exq (wr.alloc (.cells #[.int .u64 num,.int .i64 tk,.int .i64 st,.slice pa a pp] 325));have g3:wr.grownBy W3 none:=by rw[L];exact aC _ _ _
   have s:W3.heap[wr.heap.size]?=some (.cells #[.int .u64 num,.int .i64 tk,.int .i64 st,.slice pa a pp] 325 (0,0)):=by rw[L];exact aH _ _
   have j3:=Z D _ _ _ z g3;have bL:t<=W3.heap.size:=by have:=g3.size;omega
   obtain⟨X,N⟩:=exq wr.heap.size;rw[<-N]at s;obtain⟨b0,cg,ch,b3⟩:=lA s;replace s:=J s;go_upto_region 3 with fail;rw[<-L,<-N];rw[<-N]at bx;clear L N F G H I z g3;go_wp2_with fail;have s:=Z s;obtain⟨M,hM⟩:=exq ((dz (lf.take j) k).length);rw[<-hM]at j3 K;go_loopg [20] (a+1) (λg i a2=>∃q:Nat,q<=a/\g=a+1-q/\i=.int .i64 (q:Int)/\d (M+if st=k then q else 0) a2/\a2.heap[X]?=some (.cells #[.int .u64 num,.int .i64 tk,.int .i64 st,.slice pa a pp] 325 (0,0))/\t<=a2.heap.size);case atStart=>exact⟨0,by omega,by omega,rfl,by simpa using j3,s,bL⟩
   case round=>
    obtain⟨q,hq,rfl,rfl,w,bM,bP⟩:=hrel;by_cases cj:q<a
    ·have d2:decide ((q:Int)<(a:Int))=true:=bp (by omega);have i2:(q:Int)<(a:Int):=by omega
     have a9:q<ps.length:=by have:=Z u;omega
     obtain⟨-,q2,-,-,B⟩:=Z y _ _ w;obtain⟨a1,n1,c1,e1,f,-⟩:=B _ a0;clear B;simp only at e1 f;obtain⟨rfl,rfl,rfl⟩:=fS e1;clear e1;have bS:∃b o,pa=some ⟨b,o,none⟩:=by
      obtain h|⟨b,o,h,-⟩:=f.2.2.2.2
      omega;exact⟨b,o,h⟩
     obtain⟨pb,T,rfl⟩:=bS;obtain⟨x0,x1,x2,x3⟩:=f.cell q a9;clear f;have bb:=J (λc=>Z K q c a9);obtain⟨⟨xl,xh⟩,xe,xg,bj⟩:∃(r:Rg)(e g:Bool),eT ps q=⟨r,e,g⟩:=⟨_,_,_,rfl⟩
     rw[bj]at x0 x1 x2 x3 bb;clear bj;simp only at x0 x1 x2 x3;obtain⟨W5,O⟩:=exq (wr.alloc (.cells #[.int .u64 xl,.int .u64 xh,.bool xe,.bool xg] 377));have P:wr.grownBy W5 none:=by rw[O];exact aC _ _ _
     have a3:W5.heap[wr.heap.size]?=some (.cells #[.int .u64 xl,.int .u64 xh,.bool xe,.bool xg] 377 (0,0)):=by rw[O];exact aH _ _
     obtain⟨z0,z1,z2,z3⟩:=oQ a3;have Q:=Z D _ _ _ w P;have x:=bf bM P;have cp:=(lA x).2.2.1;have q5:=P.cell q2 (by simp);have b4:t<=W5.heap.size:=by have:=P.size;omega
     clear q2;replace a3:=J a3;replace x:=J x;go_upto_region 6 with fail;rw[<-O];generalize wr.heap.size=Y at *;clear O x0 x1 x2 x3;by_cases c:st=k
     ·obtain⟨hm,hp⟩:=Z bb c;rw[aM c]at Q;obtain⟨fn,cv,cw,cx,R,hR⟩:=Z hY _ _ Q hm;rw[hp]at R;unfold pA at R;simp only at R;subst c;refine(wpIn_wide (n:=2)).1 ?_;gi_wp2;refine hR.mono ?_;clear R hR;rintro e W6⟨rfl,b5,C6⟩;gi_wp2;go_wp2;go_roundg (a+1-(q+1));case measure=>omega
      case rel=>exact⟨q+1,by omega,rfl,by go_num,by rw[aM trivial];exact b5,(C6.block X (aO.1 (Z x)).1 (by omega)).trans (Z x),by have:=C6.size;omega⟩
     have hd:((st:Int)==k)=false:=by simpa using c
     rw[ay c]at Q;go_wp2_with fail;go_roundg (a+1-(q+1));case measure=>omega
     case rel=>exact⟨q+1,by omega,rfl,by go_num,by rw[ay c];exact Q,Z x,b4⟩
    obtain rfl:q=a:=by omega
    have d2:decide ((q:Int)<(q:Int))=false:=bB (by omega);go_wp2_with fail;go_roundg (n+1-(j+1));case measure=>omega
    case rel=>
     refine⟨j+1,by omega,rfl,by go_num,?_,bP⟩
     rw[Z ax,bG,<-hM];have:=Z u;by_cases c:st=k;rw[aM c]at w⊢;rw[<-this];exact w;rw[ay c]at w⊢;exact w
  obtain rfl:j=n:=by omega
  have d1:decide ((j:Int)<(j:Int))=false:=bB (by omega);go_wp2;refine dP (dj rfl _ _ _) rfl ?_;refine⟨⟨_,rfl⟩,?_⟩
  rw[Z E,lh]at z;exact z
theorem IL(K:Array Value)(s n:Int)(w:World)(b:K.size=16):Calls prog 224 #[.agg K,.int .u8 s,.int .u64 n] w λe a=>
 e=.returned (.func (.func 264) #[] #[.pointer (some ⟨w.heap.size,0,none⟩),.pointer (some ⟨w.heap.size+1,0,none⟩),.pointer (some ⟨w.heap.size+2,0,none⟩)])/\
 a=((w.alloc (.cells K 24)).alloc (.cells #[.int .u8 s] 5)).alloc (.cells #[.int .u64 n] 30):=by
 go_enter func224,ntmps224;go_wp2;go_ret;exact⟨rfl,rfl⟩
theorem rK{wr:World}(h:(w.rangeAt k 0 (bv L)/\w.cell? ⟨i,0,none⟩=some (.int .u8 p)/\w.cell? ⟨j,0,none⟩=some (.int .u64 q)/\wr.grownBy w none))(g:w.grownBy W none):(W.rangeAt k 0 (bv L)/\W.cell? ⟨i,0,none⟩=some (.int .u8 p)/\W.cell? ⟨j,0,none⟩=some (.int .u64 q)/\wr.grownBy W none):=
 ⟨iK h.1 g (by simp),g.cell h.2.1 (by simp),g.cell h.2.2.1 (by simp),aj h.2.2.2 g⟩
theorem Bj{wr:World}(h:(w.rangeAt k 0 (bv L)/\w.cell? ⟨i,0,none⟩=some (.int .u8 p)/\w.cell? ⟨j,0,none⟩=some (.int .u64 q)/\wr.grownBy w none))(o:aX w m x K)(a:wr.heap.size<=m)(b:k<wr.heap.size)(c:i<wr.heap.size)(d:j<wr.heap.size)(g:w.grownBy W x.ownBlock):(W.rangeAt k 0 (bv L)/\W.cell? ⟨i,0,none⟩=some (.int .u8 p)/\W.cell? ⟨j,0,none⟩=some (.int .u64 q)/\wr.grownBy W none):=
 ⟨iK h.1 g (λe=>by have:=(o.lt _ e).1;omega),g.cell h.2.1 (λe=>by have:=(o.lt _ e.symm).1;dsimp only at this;omega),g.cell h.2.2.1 (λe=>by have:=(o.lt _ e.symm).1;dsimp only at this;omega),sh (yH (vT h.2.2.2) o g h.2.2.2.size a)⟩
theorem IM{wr:World}(h:(w.rangeAt k 0 (bv L)/\w.cell? ⟨i,0,none⟩=some (.int .u8 p)/\w.cell? ⟨j,0,none⟩=some (.int .u64 q)/\wr.grownBy w none))(o:aX W w.heap.size x K)(g:w.grownBy W none):(W.rangeAt k 0 (bv L)/\W.cell? ⟨i,0,none⟩=some (.int .u8 p)/\W.cell? ⟨j,0,none⟩=some (.int .u64 q)/\wr.grownBy W none)/\aX W wr.heap.size x K/\wr.heap.size<=W.heap.size:=
 ⟨rK h g,o.lower h.2.2.2.size,bC h.2.2.2.size g.size⟩
theorem IN(key:List Int)(s n:Int)(l m sb nb L:Nat)(d:Nat->World->Prop)(K:World->Prop)(z:di key)(hs:W8 s)(hn:aR n)
 (q:∀k W f,d k W->W.grownBy f none->d k f)
 (r:∀k W,d k W->(W.heap[m]?=some (.cells (b9 key) 24 (0,0))/\W.cell? ⟨sb,0,none⟩=some (.int .u8 s)/\W.cell? ⟨nb,0,none⟩=some (.int .u64 n))/\k<=L)
 (hY:∀k W,d k W->YieldAt Fence.wide 1 prog l #[.int .u8 (kS key s n k)] W λe f=>(e=.returned (.bool true)/\d (k+1) f)\/(e=.returned (.bool false)/\K f))
 (W:World) (h0:d 0 W):
 CallsIn Fence.wide 2 prog 264 #[.func (.yield l) #[] #[],.pointer (some ⟨m,0,none⟩),.pointer (some ⟨sb,0,none⟩),.pointer (some ⟨nb,0,none⟩)] W λe f=>(∃v,e=.returned v)/\K f:=by
 have bx:(prog.info? 24).map (·.size)=some (bv key).length:=by rw[fK,z.1];exact mh
 have bz:=underlying24;refine sg.2 ?_;replace q:=J q;replace r:=J r;replace hY:=J hY;go_enter func264,ntmps264;go_wp2_with fail;go_loopg [5] (L+8) (λg i wr=>∃b:Nat,g=L+8-8*b/\i=.int .u8 ((b:Int) %256)/\d (8*b) wr);case atStart=>exact⟨0,by omega,rfl,h0⟩
 case round=>
  obtain⟨b,rfl,rfl,A⟩:=hrel;obtain⟨⟨c1,c2,c3⟩,hL⟩:=Z r _ _ A;have B:W8 ((b:Int) %256):=by unfold W8;omega
  have M:m<wr.heap.size:=(aO.1 c1).1;have N:sb<wr.heap.size:=dN wr _ c2;have O:nb<wr.heap.size:=dN wr _ c3;have C:(wr.rangeAt m 0 (bv key)/\wr.cell? ⟨sb,0,none⟩=some (.int .u8 s)/\wr.cell? ⟨nb,0,none⟩=some (.int .u64 n)/\wr.grownBy wr none):=⟨jm c1,c2,c3,av _ _⟩
  have P:=J (λ(a:Option Addr)(n cap:Nat)(l:List Int)(W:World)=>A5 key a n cap l W z);have Q:=J (λW=>Bg s 1 n W hs (by unfold W8;omega) hn);have D:=J (λ(W:World)=>tT W ((b:Int) %256) B);clear c1;go_upto_region 2 with fail;go_cut [6] (λv wx=>v=.int .u64 (cN key (aL s 1 n++[(b:Int) %256]))/\wr.grownBy wx none);case first=>
   go_region_held3 (λt=>(t.rangeAt m 0 (bv key)/\t.cell? ⟨sb,0,none⟩=some (.int .u8 s)/\t.cell? ⟨nb,0,none⟩=some (.int .u64 n)/\wr.grownBy t none))
    (first|with_reducible exact R|with_reducible exact E|with_reducible exact u|with_reducible exact rK u (aC _ _ none)|with_reducible exact rK C (aP (aC _ _ none))|with_reducible exact rK C (aP (av _ none)))
    (first
      |(go_at_call 223;refine(Z Q _).mono ?_;rintro e w1⟨a1,c1,rfl,o1,S⟩;obtain⟨u,w,bS⟩:=IM (wr:=wr) (by assumption) o1 S)
      |(refine tW (by rfl) _ _ (by rfl) wr.heap.size _ (aL s 1 n) (by rfl) (w.ah (aC _ _ none)) _ _ _ [(b:Int) %256] (by rfl) (Z D _) (by rw[sZ];simp) (by simp;omega) ?_;intro a3 c3 w3 T F _;have E:=Bj (rK u (aC _ _ none)) (w.ah (aC _ _ none)) (aI _) M N O F)
      |(refine tW (by rfl) _ _ (by rfl) wr.heap.size _ (aL s 1 n) (by rfl) w _ _ _ [(b:Int) %256] (by rfl) ((Z D wr).ah (aj (aP (av _ none)) S)) (by rw[sZ];simp) (by omega) ?_;intro a3 c3 w3 T F _;have E:=Bj u w (aI _) M N O F)
      |(go_at_call 222;refine(Z P _ _ _ (aL s 1 n++[(b:Int) %256]) _ T.fB (by rw[bG,sZ];simp)).mono ?_;rintro e w4⟨rfl,g4⟩;have R:=rK E g4))
   all_goals
    go_wp2_with fail
    go_meet
    exact⟨rfl,R.2.2.2⟩
  case rest=>
   obtain⟨rfl,U⟩:=hcut;have V:=Z q _ _ _ A U;have X:aR (cN key (aL s 1 n++[(b:Int) %256])):=Be key _ z (λx G=>(ck.1 G).elim (IF hs (by unfold W8;omega) x) (λh=>by rw[dB.1 h];exact B));have p:∀(j:Nat)(W:World),j<8->(Instr.index 300 (.agg (bv (eW (cN key (aL s 1 n++[(b:Int) %256])))).toArray) (.int .i64 (j:Int))).run prog W=.ok (.int .u8 (kS key s n (8*b+j))) W:=by
    intro j W a8;have e:kS key s n (8*b+j)=(eW (cN key (aL s 1 n++[(b:Int) %256]))).getD j 0:=by
     unfold kS;rw[show(8*b+j)/8=b by omega,show(8*b+j) %8=j by omega];generalize cN key (aL s 1 n++[(b:Int) %256])=h;have e:j=0\/j=1\/j=2\/j=3\/j=4\/j=5\/j=6\/j=7:=by omega
     obtain rfl|rfl|rfl|rfl|rfl|rfl|rfl|rfl:=e<;>rfl
    rw[e];exact Bb _ _ _ _ _ _ _ _ j a8 W
   obtain⟨h,Y⟩:=exq (cN key (aL s 1 n++[(b:Int) %256]));rw[<-Y]at X p⊢;clear Y C c2 c3 P Q D B;obtain⟨K8,H⟩:=exq ((bv (eW h)).toArray);rw[<-H]at p;have y:=λW=>uP h W X
   simp only[<-H]at y;replace y:=J y;replace p:=J p;clear H;go_wp2_with (go_at_call 194;refine(Z y _).mono ?_;rintro e w5⟨rfl,g5⟩);have a9:=Z q _ _ _ V g5;clear V g5 U A;go_loopg [21] 8 (λg j bb=>∃c:Nat,c<=8/\g=8-c/\j=.int .i64 (c:Int)/\d (8*b+c) bb);case atStart=>exact⟨0,by omega,by omega,rfl,a9⟩
   case round=>
    obtain⟨c,b5,rfl,rfl,I⟩:=hrel;by_cases bj:c<8
    ·have b6:=λW=>Z p c W bj
     obtain⟨fn,b8,ca,cf,hy,hR⟩:=Z hY _ _ I;go_upto_region 6 with fail;refine(wpIn_wide (n:=2)).1 ?_;gi_wp2;refine hR.mono ?_;clear hy hR;rintro e W3(⟨rfl,bt⟩|⟨rfl,G⟩)
     ·gi_wp2;go_wp2;go_roundg (8-(c+1));case measure=>omega
      case rel=>exact⟨c+1,by omega,rfl,by go_num,bt⟩
     gi_wp2;go_wp2;refine cz (dj rfl _ _ _) rfl ?_;exact⟨⟨_,rfl⟩,G⟩
    obtain rfl:c=8:=by omega
    have ch:=(Z r _ _ I).2;go_wp2;go_roundg (L+8-8*(b+1));case measure=>omega
    case rel=>exact⟨b+1,rfl,by simp,I⟩
theorem iq{o:Obj}(h:W.heap[i]?=some o)(g:W.grownBy w none):w.heap[i]?=some o:=(g.block i (aO.1 h).1 (by simp)).trans h
theorem uQ(h:W.heap[i]?=some (.cells #[x] T (0,0))):W.cell? ⟨i,0,none⟩=some x/\W.frozen? ⟨i,0,none⟩=false:=by simp[World.cell?,World.frozen?,h]
theorem IP(a m:List Int)(o:Nat)(h:o+m.length<a.length):(splice a o m).getD (o+m.length) 0=a.getD (o+m.length) 0:=by
 simp only[splice,tC]
 rw[kZ (by simp;omega),kZ (by simp;omega)];simp only[cC,qg]
 congr 2;omega
theorem IQ(a m:List Int)(o:Nat)(y:Int)(h:o+m.length<a.length):(bv (splice a o m)).toArray.setIfInBounds (o+m.length) (.int .u8 y)=(bv (splice a o (m++[y]))).toArray:=by
 rw[ke];congr 1;have b:(a.take o).length=o:=by simp;omega
 simp only[bv,splice,mf]
 rw[List.set_append_right _ _ (by simp;omega)];congr 1;simp only[dY,b]
 rw[List.set_append_right _ _ (by simp)];simp only[dY,bG,eA]
 congr 1;rw[show o+m.length-o-m.length=0 by omega];rw[yE (l:=a) (i:=o+m.length) h];simp[oq]
theorem IS(a m:List Int)(o:Nat)(h:o+m.length<=a.length):(splice a o m).length=a.length:=length_splice _ _ _ h
theorem IT(a:List Int)(o:Nat):splice a o []=a:=by simp[splice]
theorem IU(w:World)(a g b c d f:Obj):((((((w.alloc a).alloc g).alloc b).alloc c).alloc d).alloc f).heap[w.heap.size]?=some a/\((((((w.alloc a).alloc g).alloc b).alloc c).alloc d).alloc f).heap[w.heap.size+1+1]?=some b/\
 ((((((w.alloc a).alloc g).alloc b).alloc c).alloc d).alloc f).heap[w.heap.size+1+1+1]?=some c/\((((((w.alloc a).alloc g).alloc b).alloc c).alloc d).alloc f).heap[w.heap.size+1+1+1+1]?=some d/\((((((w.alloc a).alloc g).alloc b).alloc c).alloc d).alloc f).heap[w.heap.size+1+1+1+2]?=some f:=by
 have at_:∀(W:World)(o:Obj)(i:Nat),i=W.heap.size->(W.alloc o).heap[i]?=some o:=λW o i e=>by rw[e];exact aH W o
 refine⟨?_,?_,?_,?_,?_⟩
 ·iterate 5 rw[eI _ _ _ (by simp;try omega)]
  exact at_ _ _ _ rfl
 ·iterate 3 rw[eI _ _ _ (by simp;try omega)]
  exact at_ _ _ _ (by simp)
 ·iterate 2 rw[eI _ _ _ (by simp;try omega)]
  exact at_ _ _ _ (by simp)
 ·iterate 1 rw[eI _ _ _ (by simp;try omega)]
  exact at_ _ _ _ (by simp)
 exact at_ _ _ _ (by simp)
theorem IV{g:Operand}{ps:Array Tmp}{assign body:Code}(a:f.eval g=.func (.func n) #[] c)(b:∀args w,(callFunc n args).run prog w=.ok (.enter n args) w)
 (h:∀fn,CallsIn Fence.wide 2 prog n (#[.func (.yield (w.heap.size+1)) #[] #[]]++c) ((w.alloc (.deferred (some []))).alloc (.loop {state:=.ready,pending:=none,fn,tmps:=f.tmps,params:=ps,assign,body,defers:=w.heap.size}))
   (rangePost Fence.wide 3 prog (w.heap.size+1) G {f with defers:=[{target:=.collected w.heap.size,args:= #[]}]++f.defers})):
 (Code.rangeFunc g ps assign body).wpIn Fence.wide 3 prog G f w:=by
 refine wpIn_rangeFunc λfn _=>?_
 refine⟨w.heap.size+1,[{target:=.collected w.heap.size,args:= #[]}],(w.alloc (.deferred (some []))).alloc (.loop {state:=.ready,pending:=none,fn,tmps:=f.tmps,params:=ps,assign,body,defers:=w.heap.size}),{target:=.fn (.func n) c,args:= #[.func (.yield (w.heap.size+1)) #[] #[]]},(w.alloc (.deferred (some []))).alloc (.loop {state:=.ready,pending:=none,fn,tmps:=f.tmps,params:=ps,assign,body,defers:=w.heap.size}),n,#[.func (.yield (w.heap.size+1)) #[] #[]]++c,(w.alloc (.deferred (some []))).alloc (.loop {state:=.ready,pending:=none,fn,tmps:=f.tmps,params:=ps,assign,body,defers:=w.heap.size}),?_,?_,?_,?_,?_,?_⟩
 exact run_enterLoop_outer _ _ _ _ _
 ·simp only[resolve,a]
  simp[go_sem]
 exact λ_ _=>trivial
 ·simp[invoke,go_sem,b]
 exact λ_=>by omega
 exact h fn
structure Inv(key:List Int)(s n:Int)(w:World)(a bo L cap:Nat)(c d:List Int)(t:TypeId)(D:Nat)(r:Loop)(k:Nat)(W:World):Prop where
 kL:k<=L
 i:W.heap[w.heap.size+1+1]?=some (.cells #[.int .i64 (k:Int)] 3 (0,0))
 b:W.heap[w.heap.size]?=some (.cells #[.slice (some ⟨a,bo,none⟩) L cap] 112 (0,0))
 cD:W.heap[a]?=some (.cells (bv (splice c bo (jG key s n d k))).toArray t (0,0))
 xG:W.heap[w.heap.size+1+1+1]?=some (.cells (b9 key) 24 (0,0))
 s_:W.heap[w.heap.size+1+1+1+1]?=some (.cells #[.int .u8 s] 5 (0,0))
 n_:W.heap[w.heap.size+1+1+1+2]?=some (.cells #[.int .u64 n] 30 (0,0))
 gb:w.grownBy W (some a)
 ku:W.heap[D+1]?=some (.loop r)
 rD:W.heap[D]?=some (.deferred (some []))
theorem Inv.cW{a:List Int}{D:Nat}{r:Loop}(h:Inv K p q w l m o j M a T D r k W)(g:W.grownBy v none):Inv K p q w l m o j M a T D r k v:=
 ⟨h.kL,iq h.i g,iq h.b g,iq h.cD g,iq h.xG g,iq h.s_ g,iq h.n_ g,cA h.gb g (λc e=>by cases e),iq h.ku g,iq h.rD g⟩
theorem IW(key:List Int)(s n:Int)(a bo L cap:Nat)(d:List Int)(t:TypeId)(w:World)(hk:di key)(hs:W8 s)(hn:aR n)(cp:∀x∈d,W8 x)(cv:bo+L<=d.length)(cw:L<=cap)(b4:cap<=maxLen)(X:w.heap[a]?=some (.cells (bv d).toArray t (0,0))):
 CallsIn Fence.wide 3 prog 174 #[.slice (some ⟨a,bo,none⟩) L cap,.agg (b9 key),.int .u8 s,.int .u64 n] w λe Y=>
  e=.returned (.tuple #[])/\Y.heap[a]?=some (.cells (bv (splice d bo (eu key s n ((d.drop bo).take L)))).toArray t (0,0))/\w.grownBy Y (some a):=by
 have al:=mY hk;have cx:a<w.heap.size:=(aO.1 X).1;obtain⟨K,N⟩:=exq (b9 key);rw[<-N]at al⊢;replace N:=J N;refine callsIn_of_wp_marks func174 rfl trivial ?_ rfl;simp only[ntmps174,sa,dJ,fH,Nat.reduceAdd,Nat.reduceSub,Array.replicate_succ,Array.replicate_zero,List.push_toArray,List.append_toArray,jQ,nu]
 have ax:=aH (w.alloc (.cells #[.slice (some ⟨a,bo,none⟩) L cap] 112)) (.cells K 24);rw[dC]at ax;have O:(((w.alloc (.cells #[.slice (some ⟨a,bo,none⟩) L cap] 112)).alloc (.cells K 24)).alloc (.cells #[.int .i64 0] 3)).heap[w.heap.size+1]?=some (.cells K 24 (0,0)):=by
  rw[eI _ _ _ (by simp)];exact ax
 replace O:=J O;clear ax;refine wpIn_wide.2 ?_;go_wp2_with (first|(refine oy _ (by rfl) (by rfl) _ (by rfl) K ?_ al ?_;exact Z O)|(go_at_call 224;refine(IL K s n _ al).mono ?_;rintro e Y⟨rfl,rfl⟩));obtain⟨m,F⟩:=exq ((((((w.alloc (.cells #[.slice (some ⟨a,bo,none⟩) L cap] 112)).alloc (.cells K 24)).alloc (.cells #[.int .i64 0] 3)).alloc (.cells K 24)).alloc (.cells #[.int .u8 s] 5)).alloc (.cells #[.int .u64 n] 30));rw[<-F];have P:w.grownBy m none:=by rw[F];exact aS (aS (aS (aS (aS (aS (av w none) _) _) _) _) _) _
 have z6:m.heap.size=w.heap.size+6:=by rw[F];simp
 have f6:=IU w (.cells #[.slice (some ⟨a,bo,none⟩) L cap] 112) (.cells K 24) (.cells #[.int .i64 0] 3) (.cells K 24) (.cells #[.int .u8 s] 5) (.cells #[.int .u64 n] 30);rw[<-F]at f6;rw[Z N]at f6;obtain⟨f0,f1,f2,f3,f4⟩:=f6;have a0:m.heap[a]?=some (.cells (bv d).toArray t (0,0)):=iq X P;clear F O X;obtain⟨c,G⟩:=exq ((d.drop bo).take L);have b6:c.length=L:=by rw[G];simp;omega
 replace G:=J G;refine(wpIn_wide (n:=3)).1 ?_;refine IV (n:=264) rfl (enters_of func264 (by kernel_rfl) rfl) ?_;intro fn;generalize q:Loop.mk _ _ _ _ _ _ _ _=f;have r:m.grownBy ((m.alloc (.deferred (some []))).alloc (.loop f)) none:=aS (aS (av m none) _) _;have a1:((m.alloc (.deferred (some []))).alloc (.loop f)).heap[m.heap.size+1]?=some (.loop f):=by
  have:=aH (m.alloc (.deferred (some []))) (.loop f);rwa[dC]at this
 have a2:((m.alloc (.deferred (some []))).alloc (.loop f)).heap[m.heap.size]?=some (.deferred (some [])):=by
  rw[eI _ _ _ (by simp)];exact aH _ _
 generalize (m.alloc (.deferred (some []))).alloc (.loop f)=W8 at *;generalize m.heap.size=D at *;have zD:w.heap.size+6<=D:=by omega
 clear z6;have A:∀k,k<L->(bv (splice d bo (jG key s n c k))).toArray[bo+k]?=some (.int .u8 (c.getD k 0)):=by
  intro k br;have h1:=IP d (jG key s n c k) bo (by rw[rJ];omega);rw[rJ]at h1;have h2:=sk (splice d bo (jG key s n c k)) (bo+k) (by rw[IS _ _ _ (by rw[rJ];omega)];omega);rw[h1]at h2;have h3:c.getD k 0=d.getD (bo+k) 0:=by
   rw[Z G,tC,tC,jO,aM br,qg]
  rw[h3];simpa using h2
 have C:∀k,k<L->(bv (splice d bo (jG key s n c k))).toArray.setIfInBounds (bo+k) (.int .u8 (x8 (c.getD k 0) (kS key s n k)))=(bv (splice d bo (jG key s n c (k+1)))).toArray:=by
  intro k br;have:=IQ d (jG key s n c k) bo (x8 (c.getD k 0) (kS key s n k)) (by rw[rJ];omega);rw[rJ]at this;rw[this,IE]
 refine(IN key s n (D+1) (w.heap.size+1+1+1) (w.heap.size+1+1+1+1) (w.heap.size+1+1+1+2) L (Inv key s n w a bo L cap d c t D f)
  (λl=>l.heap[a]?=some (.cells (bv (splice d bo (jG key s n c L))).toArray t (0,0))/\w.grownBy l (some a)/\l.heap[D+1]?=some (.loop {f with state:=.done,pending:=some (.exit 0)})/\l.heap[D]?=some (.deferred (some [])))
  hk hs hn (λk W l h g=>h.cW g) (λk W h=>⟨⟨h.xG,(uQ h.s_).1,(uQ h.n_).1⟩,h.kL⟩) ?hY _ ?h0).mono ?post
 case h0=>
  refine⟨by omega,iq f1 r,iq f0 r,?_,iq f2 r,iq f3 r,iq f4 r,cO (aj P r) _,a1,a2⟩
  rw[show jG key s n c 0=[]from rfl,IT];exact iq a0 r
 case post=>
  clear A C;rintro e W3⟨⟨v,rfl⟩,a3,hg,Q,hd⟩;have bL:D+1<W3.heap.size:=(aO.1 Q).1;refine⟨some (.exit 0),_,run_endLoop Q (by simp),?_⟩
  have b8:(W3.putObj (D+1) (.loop {{f with state:=.done,pending:=some (.exit 0)}with state:=.exhausted})).heap[D]?=some (.deferred (some [])):=by rw[World.putObj_heap_other (by omega)];exact hd
  replace a3:=J a3;replace Q:=J Q;replace hd:=J hd;replace hg:=J hg;replace q:=J q;clear f0 f1 f2 f3 f4 a0 P r a1 a2;dsimp only
  gi_wp2;refine⟨by simp,.inl ⟨_,_,rfl,run_takeDeferred b8,?_⟩⟩
  refine⟨_,dj rfl _ _ _,rfl,?_,?_⟩
  rw[World.putObj_heap_other (by omega),World.putObj_heap_other (by omega),<-Z G];rw[show eu key s n c=jG key s n c L by unfold eu;rw[b6]];exact Z a3;exact cA (cA (Z hg) (grownBy_putObj' _ (D+1) _) (λj e=>by cases e;left;omega)) (grownBy_putObj' _ D _) (λj e=>by cases e;left;omega)
 case hY=>
  clear f0 f1 f2 f3 f4 a0 P r a1 a2;intro k W h;suffices ca:∀R:Ending->World->Prop,(∀l,Inv key s n w a bo L cap d c t D f (k+1) l->R (.returned (.bool true)) l)->
   (∀l,(l.heap[a]?=some (.cells (bv (splice d bo (jG key s n c L))).toArray t (0,0))/\w.grownBy l (some a)/\l.heap[D+1]?=some (.loop {f with state:=.done,pending:=some (.exit 0)})/\l.heap[D]?=some (.deferred (some [])))->R (.returned (.bool false)) l)->
   YieldAt Fence.wide 1 prog (D+1) #[.int .u8 (kS key s n k)] W R from ca _ (λl h=>.inl ⟨rfl,h⟩) (λl h=>.inr ⟨rfl,h⟩)
  intro R a8 a9;replace a8:=J a8;replace a9:=J a9;refine⟨f.fn,_,f.assign,f.body,run_yield h.ku (by rw[<-q];rfl),roundIn_of_wpIn trivial ?_⟩
  obtain⟨H,S⟩:=exq f;have cf:H.state=.ready:=by rw[S,<-q]
  rw[<-S]at h;have bM:Hid (H=f):=S;rw[<-q];dsimp only
  clear S;replace q:=J q;gi_wp2;refine⟨_,run_beginRound h.ku cf,?_⟩
  have bL:D+1<W.heap.size:=(aO.1 h.ku).1;obtain⟨p,I⟩:∃p,p=W.putObj (D+1) (.loop {H with state:=.busy}):=⟨_,rfl⟩
  rw[<-I];have u:∀i,i≠D+1->p.heap[i]?=W.heap[i]? :=λi hi=>by rw[I];exact World.putObj_heap_other hi
  have M:p.heap[D+1]?=some (.loop {H with state:=.busy}):=by rw[I];exact World.putObj_heap_same bL
  have bP:W.grownBy p (some (D+1)):=by rw[I];exact grownBy_putObj' W (D+1) _
  clear I;have T:=(u (w.heap.size+1+1) (by omega)).trans h.i;have U:=(u w.heap.size (by omega)).trans h.b;have y:=(u a (by omega)).trans h.cD;have V:=(u D (by omega)).trans h.rD;obtain⟨ci,fi⟩:=uQ T;obtain⟨cb,fb⟩:=uQ U;replace u:=J u;replace M:=J M;replace V:=J V;replace T:=J T;replace U:=J U;by_cases bS:k<L
  ·have he:((k:Int)==(L:Int))=false:=by simp;omega
   have de:(k:Int)+1<=9223372036854775807:=by unfold maxLen at b4;omega
   have cy:p.cell? ⟨a,bo+k,none⟩=some (.int .u8 (c.getD k 0)):=by
    simp only[World.cell?,y];simpa using A k bS
   have fy:p.frozen? ⟨a,bo+k,none⟩=false:=by simp[World.frozen?,y]
   have ch:=J (C k bS);replace y:=J y;generalize c.getD k 0=x at *;replace A:=J A;replace C:=J C;have h':=h;replace h:=J h;clear h';gi_wp2;have b0:((p.setCell ⟨a,bo+k,none⟩ (.int .u8 (bits .xor .u8 x (kS key s n k)))).setCell ⟨w.heap.size+1+1,0,none⟩ (.int .i64 ((k:Int)+1))).heap[D+1]?=some (.loop {H with state:=.busy}):=by
    rw[cY _ _ _ _ (by simp<;>omega),cY _ _ _ _ (by simp<;>omega)];exact Z M
   refine⟨_,_,run_endRound none b0,Z a8 _ ?_⟩
   have E:=Z h;have bb:D+1<((p.setCell ⟨a,bo+k,none⟩ (.int .u8 (bits .xor .u8 x (kS key s n k)))).setCell ⟨w.heap.size+1+1,0,none⟩ (.int .i64 ((k:Int)+1))).heap.size:=(aO.1 b0).1;refine⟨by omega,?_,?_,?_,?_,?_,?_,?_,?_,?_⟩
   rw[World.putObj_heap_other (by omega)];have:=heap_set (o:=0) (n:=w.heap.size+1+1) (w:=p.setCell ⟨a,bo+k,none⟩ (.int .u8 (bits .xor .u8 x (kS key s n k)))) (by rw[cY _ _ _ _ (by simp<;>omega)];exact Z T) (.int .i64 ((k:Int)+1));exact this;rw[World.putObj_heap_other (by omega),cY _ _ _ _ (by simp<;>omega),cY _ _ _ _ (by simp<;>omega)];exact Z U;rw[World.putObj_heap_other (by omega),cY _ _ _ _ (by simp<;>omega)];have:=heap_set (o:=bo+k) (Z y) (.int .u8 (bits .xor .u8 x (kS key s n k)));rw[this];exact fj (λz=>some (Obj.cells z t (0,0))) (Z ch);rw[World.putObj_heap_other (by omega),cY _ _ _ _ (by simp<;>omega),cY _ _ _ _ (by simp<;>omega),Z u _ (by omega)];exact E.xG;rw[World.putObj_heap_other (by omega),cY _ _ _ _ (by simp<;>omega),cY _ _ _ _ (by simp<;>omega),Z u _ (by omega)];exact E.s_;rw[World.putObj_heap_other (by omega),cY _ _ _ _ (by simp<;>omega),cY _ _ _ _ (by simp<;>omega),Z u _ (by omega)];exact E.n_;refine cA (aD (aD (cA E.gb bP (λj e=>by cases e;left;omega)) _ _ (.inr rfl)) _ _ (.inl (by simp<;>omega))) (grownBy_putObj' _ (D+1) _) (λj e=>by cases e;left;omega);rw[World.putObj_heap_same bb];rw[Z bM,<-Z q];rfl;rw[World.putObj_heap_other (by omega),cY _ _ _ _ (by simp<;>omega),cY _ _ _ _ (by simp<;>omega)];exact Z V
  obtain rfl:k=L:=by have:=h.kL;omega
  have he:((k:Int)==(k:Int))=true:=by simp
  replace h:=J h;replace y:=J y;replace A:=J A;replace C:=J C;gi_wp2;refine⟨_,_,run_endRound (some (.exit 0)) (Z M),Z a9 _ ?_⟩
  have E:=Z h;have bb:D+1<p.heap.size:=(aO.1 (Z M)).1;refine⟨?_,?_,?_,?_⟩
  rw[World.putObj_heap_other (by omega)];exact Z y;exact cA (cA E.gb bP (λj e=>by cases e;left;omega)) (grownBy_putObj' _ (D+1) _) (λj e=>by cases e;left;omega);rw[World.putObj_heap_same bb,Z bM,<-Z q];rfl;rw[World.putObj_heap_other (by omega)];exact Z V
theorem Bk(key:List Int)(s n:Int)(b bo L cap:Nat)(a:List Int)(t:TypeId)(w:World)(d:di key)(hs:W8 s)(f:aR n)(g:∀x∈a,W8 x)(h:bo+L<=a.length)(i:L<=cap)(j:cap<=maxLen)(k:w.heap[b]?=some (.cells (bv a).toArray t (0,0))):
 Calls prog 174 #[.slice (some ⟨b,bo,none⟩) L cap,.agg (b9 key),.int .u8 s,.int .u64 n] w λe c=>
  e=.returned (.tuple #[])/\c.heap[b]?=some (.cells (bv (splice a bo (eu key s n ((a.drop bo).take L)))).toArray t (0,0))/\w.grownBy c (some b):=
 sg.1 (IW key s n b bo L cap a t w d hs f g h i j k)
