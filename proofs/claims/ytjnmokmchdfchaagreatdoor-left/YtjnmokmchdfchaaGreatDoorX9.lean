import Derived.Test.YtjnmokmchdfchaaGreatDoorX4
import Derived.Test.YtjnmokmchdfchaaGreatDoorX5
import Derived.Test.YtjnmokmchdfchaaGreatDoorX8
set_option maxRecDepth 1000000
set_option maxHeartbeats 0
set_option linter.all false
namespace Go.Proofs.YtjnmokmchdfchaaGreatDoor
open Go.RowKit Tryz
attribute[local go_sem]Oper.semAt_some
variable{F:Act}{c:Array Value}{H:Exit->Act->World->Prop}{p:Int}{D:List Rg}{i j k l m n:Nat}{S:Nat->Prop}{u:Oper}{a:Option Addr}{f:Ot}{T:TypeId}{x y z:Value}{W v w:World}
def pU(h:W.heap[i]?=some (.cells #[x] T (0,0))):W.cell? ⟨i,0,none⟩=some x/\W.frozen? ⟨i,0,none⟩=false:=by simp[World.cell?,World.frozen?,h]
def jA{o:Obj}(h:W.heap[i]?=some o)(g:W.grownBy w none):w.heap[i]?=some o:=(g.block i (aZ.1 h).1 (by simp)).trans h
def Ch{g:Operand}{ps:Array Tmp}{assign body:Code}(a:F.eval g=.func (.func n) #[] c)(b:∀args w,(callFunc n args).run prog w=.ok (.enter n args) w)
 (h:∀fn,CallsIn Fence.wide 2 prog n (#[.func (.yield (w.heap.size+1)) #[] #[]]++c) ((w.alloc (.deferred (some []))).alloc (.loop {state:=.ready,pending:=none,fn,tmps:=F.tmps,params:=ps,assign,body,defers:=w.heap.size}))
   (rangePost Fence.wide 3 prog (w.heap.size+1) H {F with defers:=[{target:=.collected w.heap.size,args:= #[]}]++F.defers})):
 (Code.rangeFunc g ps assign body).wpIn Fence.wide 3 prog H F w:=by
 refine wpIn_rangeFunc λfn _=>?_
 refine⟨w.heap.size+1,[{target:=.collected w.heap.size,args:= #[]}],(w.alloc (.deferred (some []))).alloc (.loop {state:=.ready,pending:=none,fn,tmps:=F.tmps,params:=ps,assign,body,defers:=w.heap.size}),{target:=.fn (.func n) c,args:= #[.func (.yield (w.heap.size+1)) #[] #[]]},(w.alloc (.deferred (some []))).alloc (.loop {state:=.ready,pending:=none,fn,tmps:=F.tmps,params:=ps,assign,body,defers:=w.heap.size}),n,#[.func (.yield (w.heap.size+1)) #[] #[]]++c,(w.alloc (.deferred (some []))).alloc (.loop {state:=.ready,pending:=none,fn,tmps:=F.tmps,params:=ps,assign,body,defers:=w.heap.size}),?_,?_,?_,?_,?_,?_⟩
 exact run_enterLoop_outer _ _ _ _ _
 ·simp only[resolve,a]
  simp[go_sem]
 exact λ_ _=>trivial
 ·simp[invoke,go_sem,b]
 exact λ_=>by omega
 exact h fn
def JB{F:Fence}{b:Array Oper}{rest:List Oper}{a:Act}(f:u.guard=none)(s x:Operand)(ty:TypeId)(g:u.type=ty)
 (ho:u.op=.call {callee:=.builtin .append,args:= #[s,x],argTypes:= #[133,133]}) (v d e:Value) (hs:a.eval s=v) (i:a.eval x=d)
 (j:(Builtin.append_ #[133,133] ty #[v,d]).run prog w=.ok e W) (h:wpListIn F n prog b H rest (a.put u.dst e) W):wpListIn F n prog b H (u::rest) a w:=by
 refine wpListIn_plain f λK k=>?_
 unfold Oper.wpIn;refine⟨?_,?_⟩
 simp[Oper.about,ho,resolve,Target.leads,mr];rw[Oper.semAt_plain F _ _ (by rw[ho];intro c l;cases l)];simp[execOp,ho,resolve,invoke,builtin,hs,i,g,j,Result.andThen];exact k _ _ h
def fP(L:List Rg):Nat->List Rg
 |0=>[]
 |k+1=>fP L k++[⟨(au L (L.length-1-k)).lo,(au L (L.length-1-k)).hi-1⟩]
def ma(L:List Rg)(k:Nat):(fP L k).length=k:=by
 induction k with
 |zero=>rfl
 |succ k a=>simp[fP,a]
structure uh(w:World)(a:Option Addr)(n c:Nat)(L:List Rg)(r:Loop)(k:Nat)(W:World):Prop where
 kL:k<=L.length
 box:∃b d e,W.heap[w.heap.size]?=some (.cells #[.slice b d e] 133 (0,0))/\iJ W (w.heap.size+4) (.slice b d e) (fP L k)
 set:W.heap[w.heap.size+1]?=some (.cells #[.slice a n c] 227 (0,0))
 gb:w.grownBy W none
 kZ:W.heap[w.heap.size+2+1]?=some (.loop r)
 sD:W.heap[w.heap.size+2]?=some (.deferred (some []))
def uh.dr{r:Loop}(h:uh w a n i D r k W)(g:W.grownBy v none):uh w a n i D r k v:=by
 obtain⟨b,c,d,e,f⟩:=h.box;exact⟨h.kL,⟨b,c,d,jA e g,f.an g⟩,jA h.set g,aq h.gb g,jA h.kZ g,jA h.sD g⟩
def JC(w:World)(sb no:Nat)(a:Option Addr)(n c:Nat)(L:List Rg)(c0:w.cell? ⟨sb,no,none⟩=some (.slice a n c))(hs:bw w a n c L)(cB:∀r∈L,1<=r.hi)(hn:n<=1000000):
 CallsIn Fence.wide 3 prog 201 #[.pointer (some ⟨sb,no,none⟩)] w λe w'=>∃v,e=.returned v/\iJ w' (w.heap.size+4) v (fP L L.length)/\w.grownBy w' none:=by
 refine callsIn_of_wp_marks func201 rfl trivial ?_ rfl;simp only[ntmps201,tt,dc,fe,Nat.reduceAdd,Nat.reduceSub,Array.replicate_succ,Array.replicate_zero,List.push_toArray,List.append_toArray,jZ,qv]
 refine wpIn_wide.2 ?_;have hB:=J (λW=>IW a n c W);have u0:∀o,(w.alloc o).cell? ⟨sb,no,none⟩=some (.slice a n c):=λo=>(aH _ _ none).cell c0 (by simp)
 clear c0;go_wp2_with (go_at_call 237;apply(Z hB _).mono;rintro e w'⟨rfl,rfl⟩);obtain⟨f,u⟩:=exq ((w.alloc (.cells #[.slice none 0 0] 133)).alloc (.cells #[.slice a n c] 227));rw[<-u];have g6:w.grownBy f none:=by rw[u];exact aY (aY (aB w none) _) _
 have z6:f.heap.size=w.heap.size+2:=by rw[u];simp
 have f0:f.heap[w.heap.size]?=some (.cells #[.slice none 0 0] 133 (0,0)):=by rw[u,fE _ _ _ (by simp)];exact aO _ _
 have f1:f.heap[w.heap.size+1]?=some (.cells #[.slice a n c] 227 (0,0)):=by
  have:=aO (w.alloc (.cells #[.slice none 0 0] 133)) (.cells #[.slice a n c] 227);rw[dL]at this;rw[u];exact this
 clear u u0 hB;refine(wpIn_wide (n:=3)).1 ?_;refine Ch (n:=277) rfl (enters_of func277 (by kernel_rfl) rfl) ?_;intro fn;generalize l:Loop.mk _ _ _ _ _ _ _ _=b;have A:f.grownBy ((f.alloc (.deferred (some []))).alloc (.loop b)) none:=aY (aY (aB f none) _) _;have I:((f.alloc (.deferred (some []))).alloc (.loop b)).heap[f.heap.size+1]?=some (.loop b):=by
  have:=aO (f.alloc (.deferred (some []))) (.loop b);rwa[dL]at this
 have K:((f.alloc (.deferred (some []))).alloc (.loop b)).heap[f.heap.size]?=some (.deferred (some [])):=by
  rw[fE _ _ _ (by simp)];exact aO _ _
 generalize (f.alloc (.deferred (some []))).alloc (.loop b)=W8 at *;rw[z6]at I K⊢;clear z6;refine(IX (w.heap.size+2+1) (w.heap.size+1) a n c L (uh w a n c L b) (λk W M h g=>h.dr g) (λk W h=>⟨(pU h.set).1,hs.an h.gb⟩) ?hY _ ?h0).mono ?post;case h0=>exact⟨by omega,⟨_,_,_,jA f0 A,⟨λx hx=>by simp[fP]at hx,oJ _ _ _ _⟩⟩,jA f1 A,aq g6 A,I,K⟩
 case post=>
  clear f0 f1 g6 A I K;rintro e B⟨⟨v,rfl⟩,h⟩;obtain⟨c9,⟨a',n',c',C,y⟩,N,hg,D,hd⟩:=h;have b5:w.heap.size+2+1<B.heap.size:=(aZ.1 D).1;have db:b.pending=none:=by rw[<-l]
  refine⟨b.pending,_,run_endLoop D (by rw[<-l];simp),?_⟩
  obtain⟨O,P⟩:∃W,W=B.putObj (w.heap.size+2+1) (.loop {b with state:=.exhausted}):=⟨_,rfl⟩
  rw[<-P,db];have m:∀i,i≠w.heap.size+2+1->O.heap[i]?=B.heap[i]? :=λi hi=>by rw[P];exact World.putObj_heap_other hi
  have a4:O.heap[w.heap.size+2]?=some (.deferred (some [])):=by rw[m _ (by omega)];exact hd
  have g4:B.grownBy O (some (w.heap.size+2+1)):=by rw[P];exact grownBy_putObj' B _ _
  have a8:=(m w.heap.size (by omega)).trans C;obtain⟨cb,-⟩:=pU a8;replace l:=J l;clear P C N D hd;replace⟨m,a4,a8⟩:=cg m a4 a8;dsimp only
  gi_wp2;go_wp2;refine⟨by simp,.inl ⟨_,_,rfl,run_takeDeferred (Z a4),?_⟩⟩
  refine⟨_,results_tmp rfl _ _ _,_,rfl,?_,?_⟩
  have o4:iJ O (w.heap.size+4) (.slice a' n' c') (fP L L.length):=y.gb g4 (.inr (λe=>by have:=(y.lt _ e).1;omega));exact o4.gb (grownBy_putObj' _ _ _) (.inr (λe=>by have:=(o4.lt _ e).1;omega));exact cJ (cJ hg g4 (λj e=>by cases e;left;omega)) (grownBy_putObj' _ _ _) (λj e=>by cases e;left;omega)
 case hY=>
  clear f0 f1 g6 A I K;intro k W h hk;suffices de:∀R:Ending->World->Prop,(∀M,uh w a n c L b (k+1) M->R (.returned (.bool true)) M)->
   YieldAt Fence.wide 1 prog (w.heap.size+2+1) #[.int .i64 ((L.length-1-k:Nat):Int),.agg #[.int .u64 (au L (L.length-1-k)).lo,.int .u64 (au L (L.length-1-k)).hi]] W R from de _ (λM h=>⟨rfl,h⟩)
  intro R a9;replace a9:=J a9;refine⟨b.fn,_,b.assign,b.body,run_yield h.kZ (by rw[<-l];rfl),roundIn_of_wpIn trivial ?_⟩
  obtain⟨E,Q⟩:=exq b;have dg:E.state=.ready:=by rw[Q,<-l]
  rw[<-Q]at h;have dk:Hid (E=b):=Q;rw[<-l];dsimp only
  clear Q;replace l:=J l;gi_wp2;obtain⟨p,S⟩:=exq (W.alloc (.cells #[.int .u64 (au L (L.length-1-k)).lo,.int .u64 (au L (L.length-1-k)).hi] 341));have ga:W.grownBy p none:=by rw[S];exact aH _ _ _
  have ca:p.heap[W.heap.size]?=some (.cells #[.int .u64 (au L (L.length-1-k)).lo,.int .u64 (au L (L.length-1-k)).hi] 341 (0,0)):=by rw[S];exact aO _ _
  rw[<-S];clear S;have hX:w.heap.size+2+1<W.heap.size:=(aZ.1 h.kZ).1;replace h:=h.dr ga;clear ga;generalize W.heap.size=X at *;refine⟨_,run_beginRound h.kZ dg,?_⟩
  have b5:w.heap.size+2+1<p.heap.size:=(aZ.1 h.kZ).1;obtain⟨d,F⟩:∃d,d=p.putObj (w.heap.size+2+1) (.loop {E with state:=.busy}):=⟨_,rfl⟩
  rw[<-F];have m:∀i,i≠w.heap.size+2+1->d.heap[i]?=p.heap[i]? :=λi hi=>by rw[F];exact World.putObj_heap_other hi
  have T:d.heap[w.heap.size+2+1]?=some (.loop {E with state:=.busy}):=by rw[F];exact World.putObj_heap_same b5
  have bb:p.grownBy d (some (w.heap.size+2+1)):=by rw[F];exact grownBy_putObj' p _ _
  clear F;obtain⟨c9,⟨a',n',c',C,y⟩,N,hg,D,hd⟩:=h;have z:=(m w.heap.size (by omega)).trans C;have U:=(m (w.heap.size+1) (by omega)).trans N;have V:=(m (w.heap.size+2) (by omega)).trans hd;have bj:iJ d (w.heap.size+4) (.slice a' n' c') (fP L k):=y.gb bb (.inr (λe=>by have:=(y.lt _ e).1;omega));have Y:=(m X (by omega)).trans ca;clear m C N D hd y ca;replace⟨T,V,U⟩:=cg T V U;obtain⟨cb,fb⟩:=pU z;replace z:=J z;generalize ch:au L (L.length-1-k)=x at *;have x0:d.cell? ⟨X,0,none⟩=some (.int .u64 x.lo):=by simp[World.cell?,Y]
  have x1:d.cell? ⟨X,0+1,none⟩=some (.int .u64 x.hi):=by simp[World.cell?,Y]
  replace Y:=J Y;have cj:1<=x.hi/\x.ok:=by
   rw[<-ch];refine⟨?_,oQ hs.1 _⟩
   unfold au;rw[List.getD,eI (by omega)];exact cB _ (tu _)
  have hw:IntKind.u64.wrap (x.hi-1)=x.hi-1:=by rw[fD];have:=cj.2;unfold Rg.ok aS at this;omega
  have cp:(fP L k).length<=100000000:=by rw[ma];have:=hs.2.1;omega
  have ej:w.heap.size+4<=d.heap.size:=by have:=bb.size;omega
  obtain⟨Wc,G⟩:=exq (d.alloc (.cells #[.int .u64 x.lo,.int .u64 (x.hi-1)] 200));have H:d.grownBy Wc none:=by rw[G];exact aH _ _ _
  have bt:Wc.heap[d.heap.size]?=some (.cells #[.int .u64 x.lo,.int .u64 (x.hi-1)] 200 (0,0)):=by rw[G];exact aO _ _
  obtain⟨q,n2,c2,s,al,cv,g2,ek⟩:=Cg (w:=Wc) 133 (w.heap.size+4) _ _ (bj.an H) d.heap.size 0 1 ⟨x.lo,x.hi-1⟩ (by have:=cj.2;unfold Rg.ok aS at *;simp only;omega) (by simp[World.cell?,bt]) (by simp[World.cell?,bt]) cp (by have:=H.size;omega);have t:∀i,i<w.heap.size+4->s.heap[i]?=d.heap[i]? :=λi hi=>by
   rw[g2.block i (by have:=H.size;omega) (λe=>by have:=(bj.lt i e.symm).1;omega),H.block i (by omega) (by simp)]
  have cd:=pU ((t w.heap.size (by omega)).trans (Z z));have bx:=(t w.heap.size (by omega)).trans (Z z);have bz:=(t (w.heap.size+2+1) (by omega)).trans (Z T);have bM:=(t (w.heap.size+1) (by omega)).trans (Z U);have b0:=(t (w.heap.size+2) (by omega)).trans (Z V);obtain⟨cd,fd⟩:=cd;rw[G]at al;replace⟨al,G⟩:=bA al G;clear T V U z cp bt;replace⟨t,bz,bx,bM,b0⟩:=eR t bz bx bM b0;gi_wp2_with (first|(refine JB (by rfl) _ _ 133 (by rfl) (by rfl) _ _ _ (by rfl) (by rfl) (Z al) ?_));have cx:(s.setCell ⟨w.heap.size,0,none⟩ (.slice q n2 c2)).heap[w.heap.size+2+1]?=some (.loop {E with state:=.busy}):=by
   rw[dF _ _ _ _ (by simp<;>omega)];exact Z bz
  refine⟨_,_,run_endRound none cx,Z a9 _ ?_⟩
  have dn:w.heap.size+2+1<(s.setCell ⟨w.heap.size,0,none⟩ (.slice q n2 c2)).heap.size:=(aZ.1 cx).1;have gs:s.grownBy (s.setCell ⟨w.heap.size,0,none⟩ (.slice q n2 c2)) (some w.heap.size):=aK (aB s _) _ _ (.inr rfl);have o3:iJ (s.setCell ⟨w.heap.size,0,none⟩ (.slice q n2 c2)) (w.heap.size+4) (.slice q n2 c2) (fP L k++[⟨x.lo,x.hi-1⟩]):=cv.gb gs (.inr (λe=>by have:=(cv.lt _ e).1;omega));refine⟨by omega,⟨q,n2,c2,?_,?_⟩,?_,?_,?_,?_⟩
  rw[World.putObj_heap_other (by omega)];exact heap_set (o:=0) (Z bx) (.slice q n2 c2);rw[show fP L (k+1)=fP L k++[⟨x.lo,x.hi-1⟩] by rw[<-ch];rfl];exact o3.gb (grownBy_putObj' _ _ _) (.inr (λe=>by have:=(o3.lt _ e).1;omega));rw[World.putObj_heap_other (by omega),dF _ _ _ _ (by simp<;>omega)];exact Z bM;refine cJ (cJ (cJ (aq (cJ hg bb (λj e=>by cases e;left;omega)) H) g2 (λj e=>?_)) gs (λj e=>by cases e;left;omega)) (grownBy_putObj' _ _ _) (λj e=>by cases e;left;omega);left;have:=(bj.lt j e).1;omega;rw[World.putObj_heap_same dn,Z dk,<-Z l];rfl;rw[World.putObj_heap_other (by omega),dF _ _ _ _ (by simp<;>omega)];exact Z b0
def JD(w:World)(sb no:Nat)(a:Option Addr)(n c:Nat)(L:List Rg)(c0:w.cell? ⟨sb,no,none⟩=some (.slice a n c))(hs:bw w a n c L)(d:∀r∈L,1<=r.hi)(f:n<=1000000):
 Calls prog 201 #[.pointer (some ⟨sb,no,none⟩)] w λe b=>∃v,e=.returned v/\iJ b (w.heap.size+4) v (fP L L.length)/\w.grownBy b none:=
 tF.1 (JC w sb no a n c L c0 hs d f)
def dR(l:List Kt)(k:Int):List Pc:=l.flatMap (λx=>if x.1.st=k then x.1.ps else[])
def Ci(l:List Kt)(k:Int)(j:Nat)(a:j<l.length):dR (l.take (j+1)) k=dR (l.take j) k++(if(bK l j).1.st=k then(bK l j).1.ps else[]):=by
 unfold dR;rw[qW,oa a,List.flatMap_append];simp
def JE(l:List Kt)(k:Int)(j q:Nat)(a:j<l.length)(b:(bK l j).1.st=k)(c:q<(bK l j).1.ps.length):(dR (l.take j) k).length+q<(dR l k).length/\fO (dR l k) ((dR (l.take j) k).length+q)=fO (bK l j).1.ps q:=by
 have e:dR l k=dR (l.take j) k++((bK l j).1.ps++dR (l.drop (j+1)) k):=by
  have d:l=l.take (j+1)++l.drop (j+1):=(pr _ _).symm;have f:dR l k=dR (l.take (j+1)) k++dR (l.drop (j+1)) k:=by
   conv=>lhs;rw[d]
   unfold dR;rw[List.flatMap_append]
  rw[f,Ci l k j a,aD b,fC]
 rw[e];refine⟨by simp;omega,?_⟩
 unfold fO;rw[List.getD,gR_,tr,mm c];rfl
def pV{a:Value}(h:W.heap[i]?=some (.cells #[x,y,z,a] T (0,0))):W.cell? ⟨i,0,none⟩=some x/\W.cell? ⟨i,0+1,none⟩=some y/\W.cell? ⟨i,0+1+1,none⟩=some z/\W.cell? ⟨i,0+1+1+1,none⟩=some a:=by simp[World.cell?,h]
def JF(l b1 b2 sb fo bj t:Nat)(k:Int)(fa:Option Addr)(n C:Nat)(lf:List Kt)(S:Nat->Prop)(d:Nat->World->Prop)
 (D:∀m W p,d m W->W.grownBy p none->d m p)
 (y:∀m W,d m W->W.cell? ⟨b1,0,none⟩=some (.pointer (some ⟨sb,fo,none⟩))/\W.cell? ⟨b2,0,none⟩=some (.int .i64 k)/\W.cell? ⟨sb,fo+3,none⟩=some (.slice fa n C)/\cf W bj (.slice fa n C) lf/\nr W S lf)
 (hY:∀m W,d m W->m<(dR lf k).length->YieldAt Fence.wide 1 prog l #[.agg (pA (fO (dR lf k) m))] W λe p=>e=.returned (.bool true)/\d (m+1) p/\ao W p (λi=>i<t))
 (W:World) (hB:t<=W.heap.size) (h0:d 0 W):
 CallsIn Fence.wide 2 prog 280 #[.func (.yield l) #[] #[],.pointer (some ⟨b1,0,none⟩),.pointer (some ⟨b2,0,none⟩)] W λe p=>(∃v,e=.returned v)/\d (dR lf k).length p:=by
 refine tF.2 ?_;obtain⟨p1,p2,p3,T,-⟩:=y _ _ h0;obtain⟨a',br,U,b8,V⟩:=T.gK;have E:n=lf.length:=(js U).2.1;obtain rfl:C=br:=(js U).2.2;clear U;have ca:(n:Int)<=9223372036854775807:=by unfold maxLen at V;omega
 have ch:n<=C:=by omega
 replace⟨D,y,hY,V,E⟩:=eR D y hY V E;clear T;go_enter func280,ntmps280;go_wp2;go_loopg [13] (n+1) (λg i wr=>∃j:Nat,j<=n/\g=n+1-j/\i=.int .i64 j/\d (dR (lf.take j) k).length wr/\t<=wr.heap.size);case atStart=>exact⟨0,by omega,by omega,rfl,h0,hB⟩
 case round=>
  obtain⟨j,hj,rfl,rfl,z,bt⟩:=hrel;by_cases cj:j<n
  ·have d1:decide ((j:Int)<n)=true:=dT_;have i1:(j:Int)<n:=by omega
   have A:j<lf.length:=by have:=Z E;omega
   obtain⟨-,-,-,ho,B⟩:=Z y _ _ z;obtain⟨g,rfl,a3⟩:=ho.cell (by omega);obtain⟨F,G,H,I⟩:=a3 j A;clear a3 ho;rw[dY]at F G H I;obtain⟨pa,a,pp,al,f,-⟩:=B _ (oR A);clear B;have u:=f.2.1;have cp:=f.2.2.1;have bx:=f.2.2.2.1;unfold maxLen at bx;clear f;have ax:=J (Ci lf k j A);have K:=J (λq=>JE lf k j q A);have aC:=oR A;obtain⟨kt,a4⟩:=exq (bK lf j);rw[<-a4]at F G H I al u ax K aC;clear a4;obtain⟨⟨num,tk,st,ps⟩,sv⟩:=kt;simp only at F G H I al u ax K aC;subst al;replace u:=J u;obtain⟨W3,L⟩:=exq (wr.alloc (.cells #[.int .u64 num,.int .i64 tk,.int .i64 st,.slice pa a pp] 325));have g3:wr.grownBy W3 none:=by rw[L];exact aH _ _ _
   have s:W3.heap[wr.heap.size]?=some (.cells #[.int .u64 num,.int .i64 tk,.int .i64 st,.slice pa a pp] 325 (0,0)):=by rw[L];exact aO _ _
   have j3:=Z D _ _ _ z g3;have bz:t<=W3.heap.size:=by have:=g3.size;omega
   obtain⟨X,N⟩:=exq wr.heap.size;rw[<-N]at s;obtain⟨b0,cv,cw,b3⟩:=l7 s;replace s:=J s;go_upto_region 3 with fail;rw[<-L,<-N];rw[<-N]at bt;clear L N F G H I z g3;go_wp2_with fail;have s:=Z s;obtain⟨M,hM⟩:=exq ((dR (lf.take j) k).length);rw[<-hM]at j3 K;go_loopg [20] (a+1) (λg i a0=>∃q:Nat,q<=a/\g=a+1-q/\i=.int .i64 q/\d (M+if st=k then q else 0) a0/\a0.heap[X]?=some (.cells #[.int .u64 num,.int .i64 tk,.int .i64 st,.slice pa a pp] 325 (0,0))/\t<=a0.heap.size);case atStart=>exact⟨0,by omega,by omega,rfl,by simpa using j3,s,bz⟩
   case round=>
    obtain⟨q,hq,rfl,rfl,w,bM,b4⟩:=hrel;by_cases cx:q<a
    ·have d2:decide ((q:Int)<a)=true:=dT_;have i2:(q:Int)<a:=by omega
     have a8:q<ps.length:=by have:=Z u;omega
     obtain⟨-,q2,-,-,B⟩:=Z y _ _ w;obtain⟨a1,n1,c1,e1,f,-⟩:=B _ aC;clear B;simp only at e1 f;obtain⟨rfl,rfl,rfl⟩:=js e1;clear e1;have b5:∃b o,pa=some ⟨b,o,none⟩:=by
      obtain h|⟨b,o,h,-⟩:=f.2.2.2.2
      omega;exact⟨b,o,h⟩
     obtain⟨pb,T,rfl⟩:=b5;obtain⟨x0,x1,x2,x3⟩:=f.cell q a8;clear f;have a9:=J (λc=>Z K q c a8);obtain⟨⟨xl,xh⟩,xe,xg,bb⟩:∃(r:Rg)(e g:Bool),fO ps q=⟨r,e,g⟩:=⟨_,_,_,rfl⟩
     rw[bb]at x0 x1 x2 x3 a9;clear bb;simp only at x0 x1 x2 x3;obtain⟨W5,O⟩:=exq (wr.alloc (.cells #[.int .u64 xl,.int .u64 xh,.bool xe,.bool xg] 377));have P:wr.grownBy W5 none:=by rw[O];exact aH _ _ _
     have a2:W5.heap[wr.heap.size]?=some (.cells #[.int .u64 xl,.int .u64 xh,.bool xe,.bool xg] 377 (0,0)):=by rw[O];exact aO _ _
     obtain⟨z0,z1,z2,z3⟩:=pV a2;have Q:=Z D _ _ _ w P;have x:=bB bM P;have cy:=(l7 x).2.2.1;have q5:=gC_ P q2;have b6:t<=W5.heap.size:=by have:=P.size;omega
     clear q2;replace⟨a2,x⟩:=bA a2 x;go_upto_region 6 with fail;rw[<-O];generalize wr.heap.size=Y at *;clear O x0 x1 x2 x3;by_cases c:st=k
     ·obtain⟨hm,hp⟩:=Z a9 c;rw[aD c]at Q;obtain⟨fn,cA,cB,cC,R,hR⟩:=Z hY _ _ Q hm;rw[hp]at R;unfold pA at R;simp only at R;subst c;refine(wpIn_wide (n:=2)).1 ?_;gi_wp2;apply hR.mono;clear R hR;rintro e W6⟨rfl,b7,C6⟩;gi_wp2;go_wp2;go_roundg (a+1-(q+1));case measure=>omega
      case rel=>exact⟨q+1,by omega,rfl,by go_num,by rw[aD trivial];exact b7,(C6.block X (aZ.1 (Z x)).1 (by omega)).trans (Z x),by have:=C6.size;omega⟩
     have hd:((st:Int)==k)=false:=by simpa using c
     rw[az c]at Q;go_wp2;go_roundg (a+1-(q+1));case measure=>omega
     case rel=>exact⟨q+1,by omega,rfl,by go_num,by rw[az c];exact Q,Z x,b6⟩
    obtain rfl:q=a:=by omega
    have d2:decide ((q:Int)<q)=false:=dF_;go_wp2;go_roundg (n+1-(j+1));case measure=>omega
    case rel=>
     refine⟨j+1,by omega,rfl,by go_num,?_,b4⟩
     rw[Z ax,bH,<-hM];have:=Z u;by_cases c:st=k;rw[aD c]at w⊢;rw[<-this];exact w;rw[az c]at w⊢;exact w
  obtain rfl:j=n:=by omega
  have d1:decide ((j:Int)<j)=false:=dF_;go_wp2;refine fm (eF rfl _ _ _) rfl ?_;refine⟨⟨_,rfl⟩,?_⟩
  rw[Z E,oK]at z;exact z
structure Du where
 l:List Rg
 e:Bool
 g:Bool
def Du.leave(d:Du)(p:Pc):Du:=⟨lW d.l p.x,d.e&& !p.e,d.g&& !p.g⟩
def Ot.yP(o:Ot):Du:=⟨ju o.h.af ⟨o.h.fr,o.h.fr+o.h.bytes.length⟩,o.uE,o.uG⟩
def oT(o:Ot)(ps:List Pc)(m:Nat):Du:=(ps.take m).foldl Du.leave o.yP
def wB(o:Ot)(ps:List Pc)(m:Nat)(h:m<ps.length:=by omega):oT o ps (m+1)=(oT o ps m).leave (fO ps m):=by
 unfold oT;rw[qW,vV h,List.foldl_append];rfl
def JR(l:List Rg)(x:Rg)(c:x.lo<x.hi)(h:∀r∈l,x.hi<=r.lo):(lV l x).length<=l.length:=by
 induction l with
 |nil=>exact aR _
 |cons r l b=>
  have e:lV (r::l) x=((if r.lo<min r.hi x.lo then[⟨r.lo,min r.hi x.lo⟩]else[])++(if max r.lo x.hi<r.hi then[⟨max r.lo x.hi,r.hi⟩]else[]))++lV l x:=rfl;have a:=h r (by simp);have:=b (λr a=>h r (by simp[a]));rw[e,iN_,bH,bH,dc];split<;>simp<;>omega
def JS(l:List Rg)(x:Rg)(h:bl l)(c:x.lo<x.hi):(lV l x).length<=l.length+1:=by
 induction l with
 |nil=>simp[lV]
 |cons r l d=>
  have e:lV (r::l) x=((if r.lo<min r.hi x.lo then[⟨r.lo,min r.hi x.lo⟩]else[])++(if max r.lo x.hi<r.hi then[⟨max r.lo x.hi,r.hi⟩]else[]))++lV l x:=rfl;have g:=d h.tail;rw[e,bH,bH,dc];by_cases a:r.lo<min r.hi x.lo;by_cases b:max r.lo x.hi<r.hi;have i:=JR l x c (λy f=>by
   have:=(qu.1 h.1).1 y f;omega)
  rw[aD a,aD b];simp;omega;rw[aD a,az b];simp;omega;rw[az a];split<;>simp<;>omega
def yQ(x:Rg)(h:bl D):(lW D x).length<=D.length+1:=by
 unfold lW;split;exact JS D x h (by assumption);omega
def JT(af:List Rg)(x:Rg):(ju af x).length<=af.length+1:=by
 unfold ju;have key:∀(c l:List Rg),bl l->(c.foldl lW l).length<=c.length+l.length:=by
  intro c;induction c with
  |nil=>intro l _;simp
  |cons r c b=>
   intro l hl;have:=b (lW l r) (tT r hl);have a:=yQ r hl;simp only[mq,dc]
   omega
 have:=key af (dB [] x) (nj x bl.nil);have a:=tS [] x;simp at a;omega
def Co(o:Ot)(ps:List Pc)(m:Nat)(h:m<=ps.length):bl (oT o ps m).l:=by
 induction m with
 |zero=>exact tU _ _
 |succ m a=>
  rw[wB o ps m];exact tT _ (a (by omega))
def Cp(o:Ot)(ps:List Pc)(m:Nat)(h:m<=ps.length):(oT o ps m).l.length<=o.h.af.length+1+m:=by
 induction m with
 |zero=>exact JT _ _
 |succ m a=>
  rw[wB o ps m];have:=a (by omega);have b:=yQ (fO ps m).x (Co o ps m (by omega));unfold Du.leave;simp only
  omega
def fW(W:World)(D N:Nat)(X:Nat->Prop)(d:Du):Prop:=∃a n c,W.heap[D]?=some (.cells #[.slice a n c,.bool d.e,.bool d.g] 332 (0,0))/\bw W a n c d.l/\(d.l≠[]->∀y,a=some y->N<=y.block/\¬X y.block)
def fW.an{d:Du}(h:fW W k i S d)(g:W.grownBy w none):fW w k i S d:=by
 obtain⟨a,n,c,b,e,f⟩:=h;exact⟨a,n,c,jA b g,e.an g,f⟩
def fW.put{W':World}{d:Du}(h:fW W k i S d)(g:W.grownBy W' (some j))(p:j≠k)(q:S j):fW W' k i S d:=by
 obtain⟨a,n,c,b,f,l⟩:=h;exact⟨a,n,c,(g.block k (aZ.1 b).1 (λe=>p (aQ e).symm)).trans b,f.dr (λhl y m=>g.block _ (by subst m;exact f.lt hl) (λe=>(l hl y m).2 ((aQ e)▸q))),l⟩
def Cq(w:World)(D N:Nat)(X:Nat->Prop)(d:Du)(p:Pc)(s:fW w D N X d)(t:X D)(u:∀k,X k->k<w.heap.size)(H:N<=w.heap.size)(j:bl d.l)(f:p.x.ok)(I:d.l.length<=1000000):
 Calls prog 241 #[.pointer (some ⟨D,0,none⟩),.agg (pA p)] w λr h=>r=.returned (.tuple #[])/\fW h D N X (d.leave p)/\w.grownBy h (some D):=by
 obtain⟨a,n,c,v,m,q⟩:=s;refine(JQ w D 0 _ _ a n c d.l d.e d.g p.x p.e p.g v rfl rfl rfl m (λhl y b e=>(q hl y b).2 (e▸t)) j f (by have:=m.2.1;omega)).mono ?_;rintro r h⟨rfl,z,A,B,K,g,C,E,i,F,L,G⟩;have e:=GS j F G;subst e;refine⟨rfl,⟨z,A,B,by rw[C];rfl,E,λhl y b=>?_⟩,g⟩
 obtain rfl|i:=i
 refine q (λe0=>hl ?_) y b;unfold Du.leave;simp only[e0]
 unfold lW;split<;>rfl;have:=i y b;exact⟨by omega,λf=>by have:=u _ f;omega⟩
structure sH(w:World)(b sb a D:Nat)(o:Ot)(k:Int)(ps:List Pc)(r:Loop)(m:Nat)(W:World):Prop where
 mL:m<=ps.length
 box:fW W D a (λj=>(D<=j/\j<=D+4)\/j=a) (oT o ps m)
 b1:W.heap[D+1]?=some (.cells #[.pointer (some ⟨sb,91,none⟩)] 321 (0,0))
 b2:W.heap[D+2]?=some (.cells #[.int .i64 k] 3 (0,0))
 sD:W.heap[D+3]?=some (.deferred (some []))
 kZ:W.heap[D+4]?=some (.loop r)
 res:W.heap[a]?=some (.cells #[.slice none 0 0,.bool false,.bool false] 332 (0,0))
 gb:w.grownBy W none
def sH.dr{ps:List Pc}{r:Loop}(h:sH w n i j l f p ps r m W)(g:W.grownBy v none):sH w n i j l f p ps r m v:=
 ⟨h.mL,h.box.an g,jA h.b1 g,jA h.b2 g,jA h.sD g,jA h.kZ g,jA h.res g,aq h.gb g⟩
def Sd.due(s:Sd)(k:Nat):Du:=(s.aM.flatMap (λ(x:Pk)=>if x.st=(k:Int)then x.ps else[])).foldl Du.leave (s.out k).yP
def yR(s:Sd)(lf:List Kt)(k:Nat)(h:s.aM=lf.map (·.1)):s.due k=oT (s.out k) (dR lf k) (dR lf k).length:=by
 unfold Sd.due oT dR;rw[oK,h,List.flatMap_map]
def JU(w:World)(N sb:Nat)(cs:Array Value)(v:aX)(s:Sd)(H:bC w N sb cs v s)(k:Nat)(hk:k<4)(hn:(s.out k).h.nice)(hl:(s.out k).h.af.length+(dR v.lf k).length<=900000):
 CallsIn Fence.wide 3 prog 207 #[.pointer (some ⟨sb,0,none⟩),.int .i64 k] w λe w'=>(∃a n c,e=.returned (.agg #[.slice a n c,.bool (s.due k).e,.bool (s.due k).g])/\bw w' a n c (s.due k).l/\((s.due k).l≠[]->∀y,a=some y->w.heap.size<=y.block))/\w.grownBy w' none:=by
 refine callsIn_of_wp_marks func207 rfl trivial ?_ rfl;simp only[ntmps207,tt,dc,fe,Nat.reduceAdd,Nat.reduceSub,Array.replicate_succ,Array.replicate_zero,List.push_toArray,List.append_toArray,jZ,qv]
 refine wpIn_wide.2 ?_;obtain⟨ab,nb,cb,ac,nc,cc,eg,ei⟩:=(H.out k hk).nm;have O:=H.out k hk;rw[eg,ei]at O;have hM:=J (λW(g:w.grownBy W none)=>Hi W sb (19+9*k) ab nb cb ac nc cc (s.out k) ((O.an g).hd (jA H.aP g) hn) ((O.an g).tail (jA H.aP g)));have hF:=J (λW=>IY ⟨sb,91,none⟩ (k:Int) W);rw[<-show 19+k*9=19+9*k by omega]at hM;have i1:(k:Int)<4:=by omega
 have d1:decide ((k:Int)<4)=true:=dO i1;obtain⟨W1,a1⟩:=exq (w.alloc (.cells #[.slice none 0 0,.bool false,.bool false] 332));have g1:w.grownBy W1 none:=by rw[a1];exact aH _ _ _
 have r:W1.heap[w.heap.size]?=some (.cells #[.slice none 0 0,.bool false,.bool false] 332 (0,0)):=by rw[a1];exact aO _ _
 replace⟨O,r⟩:=bA O r;go_upto_region 1 with fail;rw[<-a1];clear a1;go_wp2_with fail;apply(Z hM W1 g1).mono;rintro e f⟨⟨a2,n2,c2,l2,rfl,m1,m2,m3,m4,m5⟩,g2⟩;have ej:=A9 (x:=⟨(s.out k).h.fr,(s.out k).h.fr+(s.out k).h.bytes.length⟩) m2 m5;subst ej;obtain⟨q,P⟩:=exq (f.alloc (.cells #[.slice a2 n2 c2,.bool (s.out k).uE,.bool (s.out k).uG] 332));have g3:f.grownBy q none:=by rw[P];exact aH _ _ _
 have a3:q.heap[f.heap.size]?=some (.cells #[.slice a2 n2 c2,.bool (s.out k).uE,.bool (s.out k).uG] 332 (0,0)):=by rw[P];exact aO _ _
 have Q:q.heap.size=f.heap.size+1:=by rw[P];simp
 have db:=J (jA (Z r) (aq g2 g3));have de:w.heap.size<f.heap.size:=(aZ.1 (jA (Z r) g2)).1;have a4:fW q f.heap.size w.heap.size (λj=>(f.heap.size<=j/\j<=f.heap.size+4)\/j=w.heap.size) (s.out k).yP:=⟨a2,n2,c2,a3,m1.an g3,λhl y E=>by
  have h1:=m3 y E;have S:y.block<f.heap.size:=by subst E;exact m1.lt hl
  have h3:=(aZ.1 (Z r)).1;refine⟨by have:=g1.size;omega,λh=>?_⟩
  obtain h|h:=h<;>omega⟩
 replace⟨a4,a3⟩:=bA a4 a3;clear m1 m2 m3 m4 m5 hM;go_upto_region 2 with fail;rw[<-P];clear P;go_wp2_with (go_at_call 240;apply(Z hF _).mono;rintro e w'⟨rfl,rfl⟩);obtain⟨d,K⟩:=exq ((q.alloc (.cells #[.pointer (some ⟨sb,91,none⟩)] 321)).alloc (.cells #[.int .i64 k] 3));rw[<-K];have g6:q.grownBy d none:=by rw[K];exact aY (aY (aB _ none) _) _
 have z6:d.heap.size=f.heap.size+3:=by rw[K];simp[Q]
 have f1:d.heap[f.heap.size+1]?=some (.cells #[.pointer (some ⟨sb,91,none⟩)] 321 (0,0)):=by rw[K,fE _ _ _ (by simp[Q]),<-Q];exact aO _ _
 have f2:d.heap[f.heap.size+2]?=some (.cells #[.int .i64 k] 3 (0,0)):=by
  have:=aO (q.alloc (.cells #[.pointer (some ⟨sb,91,none⟩)] 321)) (.cells #[.int .i64 k] 3);rw[dL,Q]at this;rw[K];exact this
 have dg:w.grownBy d none:=aq g1 (aq g2 (aq g3 g6));have dk:=(Z a4).an g6;have dn:=jA (Z db) g6;clear K hF a4 db r a3 g6 Q;generalize ek:f.heap.size=D at *;clear ek g2 g3 g1;have ff:w.heap.size<D:=de;clear de;refine(wpIn_wide (n:=3)).1 ?_;refine Ch (n:=280) rfl (enters_of func280 (by kernel_rfl) rfl) ?_;intro fn;generalize u:Loop.mk _ _ _ _ _ _ _ _=b;have L:d.grownBy ((d.alloc (.deferred (some []))).alloc (.loop b)) none:=aY (aY (aB d none) _) _;have b6:((d.alloc (.deferred (some []))).alloc (.loop b)).heap[d.heap.size+1]?=some (.loop b):=by
  have:=aO (d.alloc (.deferred (some []))) (.loop b);rwa[dL]at this
 have b7:((d.alloc (.deferred (some []))).alloc (.loop b)).heap[d.heap.size]?=some (.deferred (some [])):=by
  rw[fE _ _ _ (by simp)];exact aO _ _
 have z8:((d.alloc (.deferred (some []))).alloc (.loop b)).heap.size=d.heap.size+2:=by simp
 generalize (d.alloc (.deferred (some []))).alloc (.loop b)=W8 at *;rw[z6]at b6 b7 z8⊢;clear z6;obtain⟨fa,eo,ds,ew,ey⟩:=H.fl.of.gK;have b8:=H.fl.of;rw[ds]at b8;have ca:=(ba H.aP _).trans H.fl.c3;rw[ds]at ca;have ch:=H.bu.fV.sub (m:=v.lf) (λx hx=>iO _ hx);have du:sH w N sb w.heap.size D (s.out k) (k:Int) (dR v.lf k) b 0 W8:=⟨by omega,dk.an L,jA f1 L,jA f2 L,b7,b6,jA dn L,aq dg L⟩
 clear f1 f2 b6 b7 dn dk L dg;refine(JF (D+4) (D+1) (D+2) sb 91 N (D+5) (k:Int) fa v.lf.length eo v.lf (cq sb v) (sH w N sb w.heap.size D (s.out k) (k:Int) (dR v.lf k) b) (λm W T h g=>h.dr g) (λm W h=>⟨(pU h.b1).1,(pU h.b2).1,gC_ h.gb ca,b8.an h.gb,ch.av (ao.of h.gb) (λk _ e=>by cases e)⟩) ?hY _ (by omega) du).mono ?post;case post=>
  rintro e q⟨⟨v3,rfl⟩,h⟩;clear du ch b8 ca ew ey;obtain⟨ez,U,a8,a9,hd,V,Y,hg⟩:=h;have dx:D+4<q.heap.size:=(aZ.1 V).1;have eK:b.pending=none:=by rw[<-u]
  refine⟨b.pending,_,run_endLoop V (by rw[<-u];simp),?_⟩
  obtain⟨F,bb⟩:∃W,W=q.putObj (D+4) (.loop {b with state:=.exhausted}):=⟨_,rfl⟩
  rw[<-bb,eK];have t:∀i,i≠D+4->F.heap[i]?=q.heap[i]? :=λi hi=>by rw[bb];exact World.putObj_heap_other hi
  have g4:q.grownBy F (some (D+4)):=by rw[bb];exact grownBy_putObj' q _ _
  have cj:F.heap[D+3]?=some (.deferred (some [])):=by rw[t _ (by omega)];exact hd
  have bj:=(t w.heap.size (by omega)).trans Y;obtain⟨z,B,c4,q1,q2,q3⟩:=U.put g4 (by omega) (.inl ⟨by omega,by omega⟩);obtain⟨⟨p0,p1,p2⟩,-⟩:=rq q1;obtain⟨⟨fo,fq,fs⟩,z0,z1,z2⟩:=rq bj;rw[<-yR s v.lf k H.aM]at p1 p2 q1 q2 q3;clear bb a8 a9 hd V Y U;replace⟨t,u,cj,q1,q3,bj,H⟩:=iR t u cj q1 q3 bj H;dsimp only
  gi_wp2;go_wp2;obtain⟨M,al⟩:=exq (((F.setCell ⟨w.heap.size,0,none⟩ (.slice z B c4)).setCell ⟨w.heap.size,1,none⟩ (.bool (s.due k).e)).setCell ⟨w.heap.size,2,none⟩ (.bool (s.due k).g));rw[<-al];have eL:M.heap[D+3]?=some (.deferred (some [])):=by
   rw[al,dF _ _ _ _ (by simp<;>omega),dF _ _ _ _ (by simp<;>omega),dF _ _ _ _ (by simp<;>omega)];exact Z cj
  have eS:M.heap[w.heap.size]?=some (.cells #[.slice z B c4,.bool (s.due k).e,.bool (s.due k).g] 332 (0,0)):=by
   rw[al];have h1:=heap_set (o:=0) (Z bj) (.slice z B c4);have S:=heap_set (o:=1) h1 (.bool (s.due k).e);have h3:=heap_set (o:=2) S (.bool (s.due k).g);exact h3
  have g5:F.grownBy M (some w.heap.size):=by rw[al];exact aK (aK (aK (aB F _) ⟨w.heap.size,0,none⟩ (.slice z B c4) (.inr rfl)) ⟨w.heap.size,1,none⟩ (.bool (s.due k).e) (.inr rfl)) ⟨w.heap.size,2,none⟩ (.bool (s.due k).g) (.inr rfl)
  clear al;refine⟨by simp,.inl ⟨_,_,rfl,run_takeDeferred eL,?_⟩⟩
  have g7:=grownBy_putObj' M (D+3) (.deferred none);have e3:(M.putObj (D+3) (.deferred none)).heap[w.heap.size]?=some (.cells #[.slice z B c4,.bool (s.due k).e,.bool (s.due k).g] 332 (0,0)):=by rw[World.putObj_heap_other (by omega)];exact eS
  generalize M.putObj (D+3) (.deferred none)=W7 at *;obtain⟨⟨s0,s1,s2⟩,-⟩:=rq e3;have e4:∀y,(s.due k).l≠[]->z=some y->y.block<F.heap.size:=λy hl hy=>by subst hy;exact q2.lt hl
  have e5:bw W7 z B c4 (s.due k).l:=q2.dr (λhl y E=>by
   have h1:=e4 y hl E;have S:=(Z q3 hl y E).2;rw[g7.block _ (by have:=g5.size;omega) (λe=>S (.inl (by have:y.block=D+3:=aQ e;omega))),g5.block _ h1 (λe=>S (.inr (aQ e)))])
  refine⟨.agg #[.slice z B c4,.bool (s.due k).e,.bool (s.due k).g],?_,⟨z,B,c4,rfl,e5,λhl y E=>(Z q3 hl y E).1⟩,?_⟩
  ·simp[results,results207,go_sem, *]
  exact cJ (cJ (cJ hg g4 (λj e=>by cases e;left;omega)) g5 (λj e=>by cases e;left;omega)) g7 (λj e=>by cases e;left;omega)
 case hY=>
  intro m W h hm;suffices e6:∀R:Ending->World->Prop,(∀T,sH w N sb w.heap.size D (s.out k) (k:Int) (dR v.lf k) b (m+1) T->ao W T (λi=>i<D+5)->R (.returned (.bool true)) T)->
   YieldAt Fence.wide 1 prog (D+4) #[.agg (pA (fO (dR v.lf k) m))] W R from e6 _ (λT h C=>⟨rfl,h,C⟩)
  intro R cp;replace cp:=J cp;have dE:(fO (dR v.lf k) m).x.ok:=by
   have dG:=vW hm;unfold dR at dG;obtain⟨x,hx,cv⟩:=vu.1 dG;split at cv;obtain⟨a,n,c,e,hp,-⟩:=ch x hx;exact hp.1 _ cv;cases cv
  have br:=wB (s.out k) (dR v.lf k) m hm;have e7:=Co (s.out k) (dR v.lf k) m (by omega);have fy:=Cp (s.out k) (dR v.lf k) m (by omega);refine⟨b.fn,_,b.assign,b.body,run_yield h.kZ (by rw[<-u];rfl),roundIn_of_wpIn trivial ?_⟩
  obtain⟨r1,r⟩:=exq b;have e8:r1.state=.ready:=by rw[r,<-u]
  rw[<-r]at h;have e9:Hid (r1=b):=r;rw[<-u];dsimp only
  clear r;replace u:=J u;obtain⟨p,hp⟩:=exq (fO (dR v.lf k) m);rw[<-hp]at dE br⊢;clear hp;replace H:=J H;obtain⟨⟨xl,xh⟩,pe,pg⟩:=p;unfold pA;gi_wp2;obtain⟨G,bt⟩:=exq (W.alloc (.cells #[.int .u64 xl,.int .u64 xh,.bool pe,.bool pg] 377));have ga:W.grownBy G none:=by rw[bt];exact aH _ _ _
  have ea:G.heap[W.heap.size]?=some (.cells #[.int .u64 xl,.int .u64 xh,.bool pe,.bool pg] 377 (0,0)):=by rw[bt];exact aO _ _
  rw[<-bt];clear bt;have hX:D+4<W.heap.size:=(aZ.1 h.kZ).1;replace h:=h.dr ga;refine⟨_,run_beginRound h.kZ e8,?_⟩
  have dx:D+4<G.heap.size:=(aZ.1 h.kZ).1;obtain⟨A,ax⟩:∃A,A=G.putObj (D+4) (.loop {r1 with state:=.busy}):=⟨_,rfl⟩
  rw[<-ax];have t:∀i,i≠D+4->A.heap[i]?=G.heap[i]? :=λi hi=>by rw[ax];exact World.putObj_heap_other hi
  have bx:A.heap[D+4]?=some (.loop {r1 with state:=.busy}):=by rw[ax];exact World.putObj_heap_same dx
  have aC:G.grownBy A (some (D+4)):=by rw[ax];exact grownBy_putObj' G _ _
  clear ax;obtain⟨ez,U,a8,a9,hd,V,Y,hg⟩:=h;have ee:=U.put aC (by omega) (.inl ⟨by omega,by omega⟩);have bz:=(t (D+1) (by omega)).trans a8;have bM:=(t (D+2) (by omega)).trans a9;have b0:=(t (D+3) (by omega)).trans hd;have b3:=(t w.heap.size (by omega)).trans Y;have b4:=(t W.heap.size (by omega)).trans ea;have fA:D+5<=A.heap.size:=by have:=aC.size;omega
  have a0:=J (Cq A D w.heap.size _ (oT (s.out k) (dR v.lf k) m) ⟨⟨xl,xh⟩,pe,pg⟩ ee (.inl ⟨by omega,by omega⟩) (λj hj=>by obtain h|h:=hj<;>omega) (by omega) e7 dE (by omega));rw[<-br]at a0;unfold pA at a0;simp only at a0;obtain⟨x0,x1,x2,x3⟩:=pV b4;clear t U a8 a9 hd V Y ea ee;replace⟨bx,b0,bz,bM,b3,b4,br⟩:=iR bx b0 bz bM b3 b4 br;generalize W.heap.size=X at *;gi_wp2;refine⟨trivial,(CallsIn.inRound (D+4) (tF.2 (Z a0))).mono ?_⟩
  rintro e Wc⟨rfl,cw,gc⟩;have I:∀i,i<A.heap.size->i≠D->Wc.heap[i]?=A.heap[i]? :=λi hi h=>gc.block i hi (λe=>h (aQ e))
  have b5:=(I (D+4) (by omega) (by omega)).trans (Z bx);have cx:=(I (D+3) (by omega) (by omega)).trans (Z b0);have cy:=(I (D+1) (by omega) (by omega)).trans (Z bz);have cA:=(I (D+2) (by omega) (by omega)).trans (Z bM);have cB:=(I w.heap.size (by omega) (by omega)).trans (Z b3);have cC:w.grownBy Wc none:=cJ (cJ hg aC (λj e=>by cases e;left;omega)) gc (λj e=>by cases e;left;omega);have c9:ao W Wc (λi=>i<D+5):=(((ao.of ga).trans (ao.of aC)).trans (ao.of gc)).mono (λk _ e=>by
   obtain(e|e)|e:=e
   cases e;have:=aQ e;omega
   ·have:=aQ e;omega)
  clear a0 gc aC ga hg bx b0 bz bM b3 b4 x0 x1 x2 x3;replace⟨b5,cx,cy,cA,cB,cw,cC,c9,I⟩:=pT b5 cx cy cA cB cw cC c9 I;gi_wp2;refine⟨_,_,run_endRound none (Z b5),Z cp _ ?_ ?_⟩
  have fb:D+4<Wc.heap.size:=(aZ.1 (Z b5)).1;refine⟨by omega,(Z cw).put (grownBy_putObj' _ _ _) (by omega) (.inl ⟨by omega,by omega⟩),?_,?_,?_,?_,?_,?_⟩
  rw[World.putObj_heap_other (by omega)];exact Z cy;rw[World.putObj_heap_other (by omega)];exact Z cA;rw[World.putObj_heap_other (by omega)];exact Z cx;rw[World.putObj_heap_same fb,Z e9,<-Z u];rfl;rw[World.putObj_heap_other (by omega)];exact Z cB;exact cJ (Z cC) (grownBy_putObj' _ _ _) (λj e=>by cases e;left;omega);exact((Z c9).trans (ao.of (grownBy_putObj' _ (D+4) _))).mono (λk _ e=>e.elim id (λe=>by have:=aQ e;omega))
def JV(w:World)(b sb:Nat)(cs:Array Value)(v:aX)(s:Sd)(H:bC w b sb cs v s)(k:Nat)(f:k<4)(i:(s.out k).h.nice)(hl:(s.out k).h.af.length+(dR v.lf k).length<=900000):
 Calls prog 207 #[.pointer (some ⟨sb,0,none⟩),.int .i64 k] w λe d=>(∃a n c,e=.returned (.agg #[.slice a n c,.bool (s.due k).e,.bool (s.due k).g])/\bw d a n c (s.due k).l/\((s.due k).l≠[]->∀y,a=some y->w.heap.size<=y.block))/\w.grownBy d none:=
 tF.1 (JU w b sb cs v s H k f i hl)
