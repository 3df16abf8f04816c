import Derived.LoopIn
import Derived.LoopNIn
import Derived.OwnWalkIn
import Derived.RangeFuncBound
import Derived.RangeFuncCalls
import Derived.RangeFuncLeaves
import Derived.RangeFuncNested
import Derived.Shelf.Abstract
import Derived.Shelf.RegionOpen
import Derived.TacticsInMore
import Derived.Test.YtjnmokmchdfchaaGreatDoorZ6
set_option maxRecDepth 1000000
set_option maxHeartbeats 8000000
set_option linter.all false
namespace Go.Proofs.YtjnmokmchdfchaaGreatDoor
open Go.RowKit Tryz
attribute[local go_sem]Oper.semAt_some
variable{I:Act}{c:Array Value}{F:Exit->Act->World->Prop}{p q:Int}{K L M:List Int}{i j k l m n o:Nat}{T:TypeId}{x:Value}{W v w:World}
theorem Ii(a:Option Addr)(n c:Nat)(w:World):Calls prog 237 #[.slice a n c] w λe b=>
 e=.returned (.func (.func 277) #[] #[.pointer (some ⟨w.heap.size,0,none⟩)])/\b=w.alloc (.cells #[.slice a n c] 227):=by
 go_enter func237,ntmps237;go_wp2;go_ret;exact⟨rfl,rfl⟩
theorem Ij(l p:Nat)(a:Option Addr)(n c:Nat)(L:List Rg)(d:Nat->World->Prop)
 (q:∀k W j,d k W->W.grownBy j none->d k j)
 (f:∀k W,d k W->W.cell? ⟨p,0,none⟩=some (.slice a n c)/\bu W a n c L)
 (hY:∀k W,d k W->k<L.length->YieldAt Fence.wide 1 prog l #[.int .i64 ((L.length-1-k:Nat):Int),.agg #[.int .u64 (au L (L.length-1-k)).lo,.int .u64 (au L (L.length-1-k)).hi]] W λe j=>e=.returned (.bool true)/\d (k+1) j)
 (W:World) (h0:d 0 W):
 CallsIn Fence.wide 2 prog 277 #[.func (.yield l) #[] #[],.pointer (some ⟨p,0,none⟩)] W λe j=>(∃v,e=.returned v)/\d L.length j:=by
 refine s8.2 ?_;replace q:=J q;have B:=(f _ _ h0).1;have r:n=L.length:=(f _ _ h0).2.2.1;have w:n<=c/\c<=maxLen:=⟨(f _ _ h0).2.2.2.1,(f _ _ h0).2.2.2.2.1⟩
 have C:(n:Int)<=9223372036854775807:=by unfold maxLen at w;omega
 replace f:=J f;replace hY:=J hY;go_enter func277,ntmps277;go_wp2_with fail;go_loopg [3] (n+1) (λg i wr=>∃k:Nat,k<=n/\g=n+1-k/\i=.int .i64 ((n:Int)-1-k)/\d k wr);case atStart=>exact⟨0,by omega,by omega,by go_num,h0⟩
 case round=>
  obtain⟨k,D,rfl,rfl,m⟩:=hrel;obtain⟨c1,s⟩:=Z f _ _ m;by_cases E:k<n
  ·have d1:decide ((n:Int)-1-k≥0)=true:=bK (by omega);have y:∃b o,a=some ⟨b,o,none⟩:=by
    obtain h|⟨b,o,h,-⟩:=s.2.2.2.2
    omega;exact⟨b,o,h⟩
   obtain⟨b,o,rfl⟩:=y;have hi:n-1-k<L.length:=by omega
   obtain⟨F,G⟩:=s.cell (n-1-k) hi;obtain⟨H,I,K,M,t,u⟩:=Z hY _ _ m (by omega);rw[<-r]at t;generalize au L (n-1-k)=x at *;have z:(n:Int)-1-k=((n-1-k:Nat):Int):=by omega
   rw[z]at d1⊢;have d2:n-1-k<n:=by omega
   generalize n-1-k=i at *;go_upto_region 3 with fail;refine(wpIn_wide (n:=2)).1 ?_;gi_wp2;refine u.mono ?_;clear t u;rintro e N⟨rfl,A⟩;gi_wp2;go_wp2;go_roundg (n+1-(k+1));case measure=>omega
   case rel=>exact⟨k+1,by omega,rfl,by go_num,A⟩
  obtain rfl:k=n:=by omega
  have d1:decide ((k:Int)-1-k≥0)=false:=bI (by omega);go_wp2;refine eW (et rfl _ _ _) rfl ?_;exact⟨⟨_,rfl⟩,r▸m⟩
theorem Ik(p:Addr)(k:Int)(w:World):Calls prog 240 #[.pointer (some p),.int .i64 k] w λe a=>
 e=.returned (.func (.func 280) #[] #[.pointer (some ⟨w.heap.size,0,none⟩),.pointer (some ⟨w.heap.size+1,0,none⟩)])/\a=(w.alloc (.cells #[.pointer (some p)] 321)).alloc (.cells #[.int .i64 k] 3):=by
 go_enter func240,ntmps240;go_wp2;go_ret;exact⟨rfl,rfl⟩
theorem J4(K:Array Value)(s n:Int)(w:World)(b:K.size=16):Calls prog 224 #[.agg K,.int .u8 s,.int .u64 n] w λe a=>
 e=.returned (.func (.func 264) #[] #[.pointer (some ⟨w.heap.size,0,none⟩),.pointer (some ⟨w.heap.size+1,0,none⟩),.pointer (some ⟨w.heap.size+2,0,none⟩)])/\
 a=((w.alloc (.cells K 24)).alloc (.cells #[.int .u8 s] 5)).alloc (.cells #[.int .u64 n] 30):=by
 go_enter func224,ntmps224;go_wp2;go_ret;exact⟨rfl,rfl⟩
theorem sk{wr:World}(h:(w.rangeAt k 0 (bv L)/\w.cell? ⟨i,0,none⟩=some (.int .u8 p)/\w.cell? ⟨j,0,none⟩=some (.int .u64 q)/\wr.grownBy w none))(g:w.grownBy W none):(W.rangeAt k 0 (bv L)/\W.cell? ⟨i,0,none⟩=some (.int .u8 p)/\W.cell? ⟨j,0,none⟩=some (.int .u64 q)/\wr.grownBy W none):=
 ⟨iX h.1 g (by simp),g.cell h.2.1 (by simp),g.cell h.2.2.1 (by simp),aq h.2.2.2 g⟩
theorem Ch{wr:World}(h:(w.rangeAt k 0 (bv L)/\w.cell? ⟨i,0,none⟩=some (.int .u8 p)/\w.cell? ⟨j,0,none⟩=some (.int .u64 q)/\wr.grownBy w none))(o:bm w m x K)(a:wr.heap.size<=m)(b:k<wr.heap.size)(c:i<wr.heap.size)(d:j<wr.heap.size)(g:w.grownBy W x.ownBlock):(W.rangeAt k 0 (bv L)/\W.cell? ⟨i,0,none⟩=some (.int .u8 p)/\W.cell? ⟨j,0,none⟩=some (.int .u64 q)/\wr.grownBy W none):=
 ⟨iX h.1 g (λe=>by have:=(o.lt _ e).1;omega),g.cell h.2.1 (λe=>by have:=(o.lt _ e.symm).1;dsimp only at this;omega),g.cell h.2.2.1 (λe=>by have:=(o.lt _ e.symm).1;dsimp only at this;omega),tc (zL (xk h.2.2.2) o g h.2.2.2.size a)⟩
theorem J5{wr:World}(h:(w.rangeAt k 0 (bv L)/\w.cell? ⟨i,0,none⟩=some (.int .u8 p)/\w.cell? ⟨j,0,none⟩=some (.int .u64 q)/\wr.grownBy w none))(o:bm W w.heap.size x K)(g:w.grownBy W none):(W.rangeAt k 0 (bv L)/\W.cell? ⟨i,0,none⟩=some (.int .u8 p)/\W.cell? ⟨j,0,none⟩=some (.int .u64 q)/\wr.grownBy W none)/\bm W wr.heap.size x K/\wr.heap.size<=W.heap.size:=
 ⟨sk h g,o.lower h.2.2.2.size,bD h.2.2.2.size g.size⟩
theorem J6(key:List Int)(s n:Int)(l m sb nb L:Nat)(d:Nat->World->Prop)(K:World->Prop)(z:dw key)(hs:W8 s)(hn:aV n)
 (q:∀k W f,d k W->W.grownBy f none->d k f)
 (r:∀k W,d k W->(W.heap[m]?=some (.cells (cJ key) 24 (0,0))/\W.cell? ⟨sb,0,none⟩=some (.int .u8 s)/\W.cell? ⟨nb,0,none⟩=some (.int .u64 n))/\k<=L)
 (hY:∀k W,d k W->YieldAt Fence.wide 1 prog l #[.int .u8 (lu key s n k)] W λe f=>(e=.returned (.bool true)/\d (k+1) f)\/(e=.returned (.bool false)/\K f))
 (W:World) (h0:d 0 W):
 CallsIn Fence.wide 2 prog 264 #[.func (.yield l) #[] #[],.pointer (some ⟨m,0,none⟩),.pointer (some ⟨sb,0,none⟩),.pointer (some ⟨nb,0,none⟩)] W λe f=>(∃v,e=.returned v)/\K f:=by
 have bt:(prog.info? 24).map (·.size)=some (bv key).length:=by rw[fC,z.1];exact mQ
 have bx:=underlying24;refine s8.2 ?_;replace q:=J q;replace r:=J r;replace hY:=J hY;go_enter func264,ntmps264;go_wp2_with fail;go_loopg [5] (L+8) (λg i wr=>∃b:Nat,g=L+8-8*b/\i=.int .u8 ((b:Int) %256)/\d (8*b) wr);case atStart=>exact⟨0,by omega,rfl,h0⟩
 case round=>
  obtain⟨b,rfl,rfl,A⟩:=hrel;obtain⟨⟨c1,c2,c3⟩,hL⟩:=Z r _ _ A;have B:W8 ((b:Int) %256):=by unfold W8;omega
  have M:m<wr.heap.size:=(aY.1 c1).1;have N:sb<wr.heap.size:=ep wr _ c2;have O:nb<wr.heap.size:=ep wr _ c3;have C:(wr.rangeAt m 0 (bv key)/\wr.cell? ⟨sb,0,none⟩=some (.int .u8 s)/\wr.cell? ⟨nb,0,none⟩=some (.int .u64 n)/\wr.grownBy wr none):=⟨kj c1,c2,c3,aB _ _⟩
  have P:=J (λ(a:Option Addr)(n cap:Nat)(l:List Int)(W:World)=>B7 key a n cap l W z);have Q:=J (λW=>Ce s 1 n W hs (by unfold W8;omega) hn);have D:=J (λ(W:World)=>uM W ((b:Int) %256) B);clear c1;go_upto_region 2 with fail;go_cut [6] (λv wx=>v=.int .u64 (cT key (aD s 1 n++[(b:Int) %256]))/\wr.grownBy wx none);case first=>
   go_region_held3 (λt=>(t.rangeAt m 0 (bv key)/\t.cell? ⟨sb,0,none⟩=some (.int .u8 s)/\t.cell? ⟨nb,0,none⟩=some (.int .u64 n)/\wr.grownBy t none))
    (first|with_reducible exact R|with_reducible exact E|with_reducible exact u|with_reducible exact sk u (aH _ _ none)|with_reducible exact sk C (aW (aH _ _ none))|with_reducible exact sk C (aW (aB _ none)))
    (first
      |(go_at_call 223;refine(Z Q _).mono ?_;rintro e w1⟨a1,c1,rfl,o1,S⟩;obtain⟨u,w,b3⟩:=J5 (wr:=wr) (by assumption) o1 S)
      |(refine uN (by rfl) _ _ (by rfl) wr.heap.size _ (aD s 1 n) (by rfl) (w.ao (aH _ _ none)) _ _ _ [(b:Int) %256] (by rfl) (Z D _) (by rw[tT];simp) (by simp;omega) ?_;intro a3 c3 w3 T F _;have E:=Ch (sk u (aH _ _ none)) (w.ao (aH _ _ none)) (aP _) M N O F)
      |(refine uN (by rfl) _ _ (by rfl) wr.heap.size _ (aD s 1 n) (by rfl) w _ _ _ [(b:Int) %256] (by rfl) ((Z D wr).ao (aq (aW (aB _ none)) S)) (by rw[tT];simp) (by omega) ?_;intro a3 c3 w3 T F _;have E:=Ch u w (aP _) M N O F)
      |(go_at_call 222;refine(Z P _ _ _ (aD s 1 n++[(b:Int) %256]) _ T.gI (by rw[bH,tT];simp)).mono ?_;rintro e w4⟨rfl,g4⟩;have R:=sk E g4))
   all_goals
    go_wp2_with fail
    go_meet
    exact⟨rfl,R.2.2.2⟩
  case rest=>
   obtain⟨rfl,U⟩:=hcut;have V:=Z q _ _ _ A U;have X:aV (cT key (aD s 1 n++[(b:Int) %256])):=Cc key _ z (λx G=>(bQ.1 G).elim (JY hs (by unfold W8;omega) x) (λh=>by rw[cS.1 h];exact B));have p:∀(j:Nat)(W:World),j<8->(Instr.index 300 (.agg (bv (fH (cT key (aD s 1 n++[(b:Int) %256])))).toArray) (.int .i64 (j:Int))).run prog W=.ok (.int .u8 (lu key s n (8*b+j))) W:=by
    intro j W a4;have e:lu key s n (8*b+j)=(fH (cT key (aD s 1 n++[(b:Int) %256]))).getD j 0:=by
     unfold lu;rw[show(8*b+j)/8=b by omega,show(8*b+j) %8=j by omega];generalize cT key (aD s 1 n++[(b:Int) %256])=h;have e:j=0\/j=1\/j=2\/j=3\/j=4\/j=5\/j=6\/j=7:=by omega
     obtain rfl|rfl|rfl|rfl|rfl|rfl|rfl|rfl:=e<;>rfl
    rw[e];exact Ca _ _ _ _ _ _ _ _ j a4 W
   obtain⟨h,Y⟩:=exq (cT key (aD s 1 n++[(b:Int) %256]));rw[<-Y]at X p⊢;clear Y C c2 c3 P Q D B;obtain⟨K8,H⟩:=exq ((bv (fH h)).toArray);rw[<-H]at p;have y:=λW=>vK h W X
   simp only[<-H]at y;replace y:=J y;replace p:=J p;clear H;go_wp2_with (go_at_call 194;refine(Z y _).mono ?_;rintro e w5⟨rfl,g5⟩);have a8:=Z q _ _ _ V g5;clear V g5 U A;go_loopg [21] 8 (λg j a9=>∃c:Nat,c<=8/\g=8-c/\j=.int .i64 (c:Int)/\d (8*b+c) a9);case atStart=>exact⟨0,by omega,by omega,rfl,a8⟩
   case round=>
    obtain⟨c,b7,rfl,rfl,I⟩:=hrel;by_cases bb:c<8
    ·have b8:=λW=>Z p c W bb
     obtain⟨fn,ch,cj,cp,hy,hR⟩:=Z hY _ _ I;go_upto_region 6 with fail;refine(wpIn_wide (n:=2)).1 ?_;gi_wp2;refine hR.mono ?_;clear hy hR;rintro e W3(⟨rfl,br⟩|⟨rfl,G⟩)
     ·gi_wp2;go_wp2;go_roundg (8-(c+1));case measure=>omega
      case rel=>exact⟨c+1,by omega,rfl,by go_num,br⟩
     gi_wp2;go_wp2;refine cA (et rfl _ _ _) rfl ?_;exact⟨⟨_,rfl⟩,G⟩
    obtain rfl:c=8:=by omega
    have cw:=(Z r _ _ I).2;go_wp2;go_roundg (L+8-8*(b+1));case measure=>omega
    case rel=>exact⟨b+1,rfl,by simp,I⟩
theorem iN{o:Obj}(h:W.heap[i]?=some o)(g:W.grownBy w none):w.heap[i]?=some o:=(g.block i (aY.1 h).1 (by simp)).trans h
theorem vL(h:W.heap[i]?=some (.cells #[x] T (0,0))):W.cell? ⟨i,0,none⟩=some x/\W.frozen? ⟨i,0,none⟩=false:=by simp[World.cell?,World.frozen?,h]
theorem J7(a m:List Int)(o:Nat)(h:o+m.length<a.length):(splice a o m).getD (o+m.length) 0=a.getD (o+m.length) 0:=by
 simp only[splice,pW]
 rw[jz (by simp;omega),jz (by simp;omega)];simp only[ct,kG]
 congr 2;omega
theorem J8(a m:List Int)(o:Nat)(y:Int)(h:o+m.length<a.length):(bv (splice a o m)).toArray.setIfInBounds (o+m.length) (.int .u8 y)=(bv (splice a o (m++[y]))).toArray:=by
 rw[kZ];congr 1;have b:(a.take o).length=o:=by simp;omega
 simp only[bv,splice,mO]
 rw[List.set_append_right _ _ (by simp;omega)];congr 1;simp only[dA,b]
 rw[List.set_append_right _ _ (by simp)];simp only[dA,bH,fg]
 congr 1;rw[show o+m.length-o-m.length=0 by omega];rw[zG (l:=a) (i:=o+m.length) h];simp[qc]
theorem J9(a m:List Int)(o:Nat)(h:o+m.length<=a.length):(splice a o m).length=a.length:=length_splice _ _ _ h
theorem Ka(a:List Int)(o:Nat):splice a o []=a:=by simp[splice]
theorem Kb(w:World)(a g b c d f:Obj):((((((w.alloc a).alloc g).alloc b).alloc c).alloc d).alloc f).heap[w.heap.size]?=some a/\((((((w.alloc a).alloc g).alloc b).alloc c).alloc d).alloc f).heap[w.heap.size+1+1]?=some b/\
 ((((((w.alloc a).alloc g).alloc b).alloc c).alloc d).alloc f).heap[w.heap.size+1+1+1]?=some c/\((((((w.alloc a).alloc g).alloc b).alloc c).alloc d).alloc f).heap[w.heap.size+1+1+1+1]?=some d/\((((((w.alloc a).alloc g).alloc b).alloc c).alloc d).alloc f).heap[w.heap.size+1+1+1+2]?=some f:=by
 have at_:∀(W:World)(o:Obj)(i:Nat),i=W.heap.size->(W.alloc o).heap[i]?=some o:=λW o i e=>by rw[e];exact aM W o
 refine⟨?_,?_,?_,?_,?_⟩
 ·iterate 5 rw[fj _ _ _ (by simp;try omega)]
  exact at_ _ _ _ rfl
 ·iterate 3 rw[fj _ _ _ (by simp;try omega)]
  exact at_ _ _ _ (by simp)
 ·iterate 2 rw[fj _ _ _ (by simp;try omega)]
  exact at_ _ _ _ (by simp)
 ·iterate 1 rw[fj _ _ _ (by simp;try omega)]
  exact at_ _ _ _ (by simp)
 exact at_ _ _ _ (by simp)
theorem Kc{g:Operand}{ps:Array Tmp}{assign body:Code}(a:I.eval g=.func (.func n) #[] c)(b:∀args w,(callFunc n args).run prog w=.ok (.enter n args) w)
 (h:∀fn,CallsIn Fence.wide 2 prog n (#[.func (.yield (w.heap.size+1)) #[] #[]]++c) ((w.alloc (.deferred (some []))).alloc (.loop {state:=.ready,pending:=none,fn,tmps:=I.tmps,params:=ps,assign,body,defers:=w.heap.size}))
   (rangePost Fence.wide 3 prog (w.heap.size+1) F {I with defers:=[{target:=.collected w.heap.size,args:= #[]}]++I.defers})):
 (Code.rangeFunc g ps assign body).wpIn Fence.wide 3 prog F I w:=by
 refine wpIn_rangeFunc λfn _=>?_
 refine⟨w.heap.size+1,[{target:=.collected w.heap.size,args:= #[]}],(w.alloc (.deferred (some []))).alloc (.loop {state:=.ready,pending:=none,fn,tmps:=I.tmps,params:=ps,assign,body,defers:=w.heap.size}),{target:=.fn (.func n) c,args:= #[.func (.yield (w.heap.size+1)) #[] #[]]},(w.alloc (.deferred (some []))).alloc (.loop {state:=.ready,pending:=none,fn,tmps:=I.tmps,params:=ps,assign,body,defers:=w.heap.size}),n,#[.func (.yield (w.heap.size+1)) #[] #[]]++c,(w.alloc (.deferred (some []))).alloc (.loop {state:=.ready,pending:=none,fn,tmps:=I.tmps,params:=ps,assign,body,defers:=w.heap.size}),?_,?_,?_,?_,?_,?_⟩
 exact run_enterLoop_outer _ _ _ _ _
 ·simp only[resolve,a]
  simp[go_sem]
 exact λ_ _=>trivial
 ·simp[invoke,go_sem,b]
 exact λ_=>by omega
 exact h fn
structure Inv(key:List Int)(s n:Int)(w:World)(a bo L cap:Nat)(c d:List Int)(t:TypeId)(D:Nat)(r:Loop)(k:Nat)(W:World):Prop where
 kL:k<=L
 i:W.heap[w.heap.size+1+1]?=some (.cells #[.int .i64 (k:Int)] 3 (0,0))
 b:W.heap[w.heap.size]?=some (.cells #[.slice (some ⟨a,bo,none⟩) L cap] 112 (0,0))
 qT:W.heap[a]?=some (.cells (bv (splice c bo (jZ key s n d k))).toArray t (0,0))
 yC:W.heap[w.heap.size+1+1+1]?=some (.cells (cJ key) 24 (0,0))
 s_:W.heap[w.heap.size+1+1+1+1]?=some (.cells #[.int .u8 s] 5 (0,0))
 n_:W.heap[w.heap.size+1+1+1+2]?=some (.cells #[.int .u64 n] 30 (0,0))
 gb:w.grownBy W (some a)
 kR:W.heap[D+1]?=some (.loop r)
 rZ:W.heap[D]?=some (.deferred (some []))
theorem Inv.df{a:List Int}{D:Nat}{r:Loop}(h:Inv K p q w l m o j M a T D r k W)(g:W.grownBy v none):Inv K p q w l m o j M a T D r k v:=
 ⟨h.kL,iN h.i g,iN h.b g,iN h.qT g,iN h.yC g,iN h.s_ g,iN h.n_ g,cF h.gb g (λc e=>by cases e),iN h.kR g,iN h.rZ g⟩
theorem Kd(key:List Int)(s n:Int)(a bo L cap:Nat)(d:List Int)(t:TypeId)(w:World)(hk:dw key)(hs:W8 s)(hn:aV n)(b6:∀x∈d,W8 x)(b7:bo+L<=d.length)(b8:L<=cap)(bz:cap<=maxLen)(X:w.heap[a]?=some (.cells (bv d).toArray t (0,0))):
 CallsIn Fence.wide 3 prog 174 #[.slice (some ⟨a,bo,none⟩) L cap,.agg (cJ key),.int .u8 s,.int .u64 n] w λe Y=>
  e=.returned (.tuple #[])/\Y.heap[a]?=some (.cells (bv (splice d bo (dN key s n ((d.drop bo).take L)))).toArray t (0,0))/\w.grownBy Y (some a):=by
 have al:=pI hk;have ca:a<w.heap.size:=(aY.1 X).1;obtain⟨K,N⟩:=exq (cJ key);rw[<-N]at al⊢;replace N:=J N;refine callsIn_of_wp_marks func174 rfl trivial ?_ rfl;simp only[ntmps174,sT,dq,fB,Nat.reduceAdd,Nat.reduceSub,Array.replicate_succ,Array.replicate_zero,List.push_toArray,List.append_toArray,jQ,qa]
 have ax:=aM (w.alloc (.cells #[.slice (some ⟨a,bo,none⟩) L cap] 112)) (.cells K 24);rw[dQ]at ax;have O:(((w.alloc (.cells #[.slice (some ⟨a,bo,none⟩) L cap] 112)).alloc (.cells K 24)).alloc (.cells #[.int .i64 0] 3)).heap[w.heap.size+1]?=some (.cells K 24 (0,0)):=by
  rw[fj _ _ _ (by simp)];exact ax
 replace O:=J O;clear ax;refine wpIn_wide.2 ?_;go_wp2_with (first|(refine qK _ (by rfl) (by rfl) _ (by rfl) K ?_ al ?_;exact Z O)|(go_at_call 224;refine(J4 K s n _ al).mono ?_;rintro e Y⟨rfl,rfl⟩));obtain⟨m,F⟩:=exq ((((((w.alloc (.cells #[.slice (some ⟨a,bo,none⟩) L cap] 112)).alloc (.cells K 24)).alloc (.cells #[.int .i64 0] 3)).alloc (.cells K 24)).alloc (.cells #[.int .u8 s] 5)).alloc (.cells #[.int .u64 n] 30));rw[<-F];have P:w.grownBy m none:=by rw[F];exact ba (ba (ba (ba (ba (ba (aB w none) _) _) _) _) _) _
 have z6:m.heap.size=w.heap.size+6:=by rw[F];simp
 have f6:=Kb w (.cells #[.slice (some ⟨a,bo,none⟩) L cap] 112) (.cells K 24) (.cells #[.int .i64 0] 3) (.cells K 24) (.cells #[.int .u8 s] 5) (.cells #[.int .u64 n] 30);rw[<-F]at f6;rw[Z N]at f6;obtain⟨f0,f1,f2,f3,f4⟩:=f6;have aC:m.heap[a]?=some (.cells (bv d).toArray t (0,0)):=iN X P;clear F O X;obtain⟨c,G⟩:=exq ((d.drop bo).take L);have bM:c.length=L:=by rw[G];simp;omega
 replace G:=J G;refine(wpIn_wide (n:=3)).1 ?_;refine Kc (n:=264) rfl (enters_of func264 (by kernel_rfl) rfl) ?_;intro fn;generalize q:Loop.mk _ _ _ _ _ _ _ _=f;have r:m.grownBy ((m.alloc (.deferred (some []))).alloc (.loop f)) none:=ba (ba (aB m none) _) _;have a0:((m.alloc (.deferred (some []))).alloc (.loop f)).heap[m.heap.size+1]?=some (.loop f):=by
  have:=aM (m.alloc (.deferred (some []))) (.loop f);rwa[dQ]at this
 have a1:((m.alloc (.deferred (some []))).alloc (.loop f)).heap[m.heap.size]?=some (.deferred (some [])):=by
  rw[fj _ _ _ (by simp)];exact aM _ _
 generalize (m.alloc (.deferred (some []))).alloc (.loop f)=W8 at *;generalize m.heap.size=D at *;have zD:w.heap.size+6<=D:=by omega
 clear z6;have A:∀k,k<L->(bv (splice d bo (jZ key s n c k))).toArray[bo+k]?=some (.int .u8 (c.getD k 0)):=by
  intro k a9;have h1:=J7 d (jZ key s n c k) bo (by rw[si];omega);rw[si]at h1;have h2:=tf (splice d bo (jZ key s n c k)) (bo+k) (by rw[J9 _ _ _ (by rw[si];omega)];omega);rw[h1]at h2;have h3:c.getD k 0=d.getD (bo+k) 0:=by
   rw[Z G,pW,pW,jA,az a9,kG]
  rw[h3];simpa using h2
 have C:∀k,k<L->(bv (splice d bo (jZ key s n c k))).toArray.setIfInBounds (bo+k) (.int .u8 (x8 (c.getD k 0) (lu key s n k)))=(bv (splice d bo (jZ key s n c (k+1)))).toArray:=by
  intro k a9;have:=J8 d (jZ key s n c k) bo (x8 (c.getD k 0) (lu key s n k)) (by rw[si];omega);rw[si]at this;rw[this,JX]
 refine(J6 key s n (D+1) (w.heap.size+1+1+1) (w.heap.size+1+1+1+1) (w.heap.size+1+1+1+2) L (Inv key s n w a bo L cap d c t D f)
  (λl=>l.heap[a]?=some (.cells (bv (splice d bo (jZ key s n c L))).toArray t (0,0))/\w.grownBy l (some a)/\l.heap[D+1]?=some (.loop {f with state:=.done,pending:=some (.exit 0)})/\l.heap[D]?=some (.deferred (some [])))
  hk hs hn (λk W l h g=>h.df g) (λk W h=>⟨⟨h.yC,(vL h.s_).1,(vL h.n_).1⟩,h.kL⟩) ?hY _ ?h0).mono ?post
 case h0=>
  refine⟨by omega,iN f1 r,iN f0 r,?_,iN f2 r,iN f3 r,iN f4 r,cX (aq P r) _,a0,a1⟩
  rw[show jZ key s n c 0=[]from rfl,Ka];exact iN aC r
 case post=>
  clear A C;rintro e W3⟨⟨v,rfl⟩,a2,hg,Q,hd⟩;have bb:D+1<W3.heap.size:=(aY.1 Q).1;refine⟨some (.exit 0),_,run_endLoop Q (by simp),?_⟩
  have b0:(W3.putObj (D+1) (.loop {{f with state:=.done,pending:=some (.exit 0)}with state:=.exhausted})).heap[D]?=some (.deferred (some [])):=by rw[World.putObj_heap_other (by omega)];exact hd
  replace a2:=J a2;replace Q:=J Q;replace hd:=J hd;replace hg:=J hg;replace q:=J q;clear f0 f1 f2 f3 f4 aC P r a0 a1;dsimp only
  gi_wp2;refine⟨by simp,.inl ⟨_,_,rfl,run_takeDeferred b0,?_⟩⟩
  refine⟨_,et rfl _ _ _,rfl,?_,?_⟩
  rw[World.putObj_heap_other (by omega),World.putObj_heap_other (by omega),<-Z G];rw[show dN key s n c=jZ key s n c L by unfold dN;rw[bM]];exact Z a2;exact cF (cF (Z hg) (grownBy_putObj' _ (D+1) _) (λj e=>by cases e;left;omega)) (grownBy_putObj' _ D _) (λj e=>by cases e;left;omega)
 case hY=>
  clear f0 f1 f2 f3 f4 aC P r a0 a1;intro k W h;suffices b3:∀R:Ending->World->Prop,(∀l,Inv key s n w a bo L cap d c t D f (k+1) l->R (.returned (.bool true)) l)->
   (∀l,(l.heap[a]?=some (.cells (bv (splice d bo (jZ key s n c L))).toArray t (0,0))/\w.grownBy l (some a)/\l.heap[D+1]?=some (.loop {f with state:=.done,pending:=some (.exit 0)})/\l.heap[D]?=some (.deferred (some [])))->R (.returned (.bool false)) l)->
   YieldAt Fence.wide 1 prog (D+1) #[.int .u8 (lu key s n k)] W R from b3 _ (λl h=>.inl ⟨rfl,h⟩) (λl h=>.inr ⟨rfl,h⟩)
  intro R a3 a4;replace a3:=J a3;replace a4:=J a4;refine⟨f.fn,_,f.assign,f.body,run_yield h.kR (by rw[<-q];rfl),roundIn_of_wpIn trivial ?_⟩
  obtain⟨H,S⟩:=exq f;have b4:H.state=.ready:=by rw[S,<-q]
  rw[<-S]at h;have bj:Hid (H=f):=S;rw[<-q];dsimp only
  clear S;replace q:=J q;gi_wp2;refine⟨_,run_beginRound h.kR b4,?_⟩
  have bb:D+1<W.heap.size:=(aY.1 h.kR).1;obtain⟨p,I⟩:∃p,p=W.putObj (D+1) (.loop {H with state:=.busy}):=⟨_,rfl⟩
  rw[<-I];have u:∀i,i≠D+1->p.heap[i]?=W.heap[i]? :=λi hi=>by rw[I];exact World.putObj_heap_other hi
  have M:p.heap[D+1]?=some (.loop {H with state:=.busy}):=by rw[I];exact World.putObj_heap_same bb
  have br:W.grownBy p (some (D+1)):=by rw[I];exact grownBy_putObj' W (D+1) _
  clear I;have T:=(u (w.heap.size+1+1) (by omega)).trans h.i;have U:=(u w.heap.size (by omega)).trans h.b;have y:=(u a (by omega)).trans h.qT;have V:=(u D (by omega)).trans h.rZ;obtain⟨ci,fi⟩:=vL T;obtain⟨cb,fb⟩:=vL U;replace u:=J u;replace M:=J M;replace V:=J V;replace T:=J T;replace U:=J U;by_cases bt:k<L
  ·have he:((k:Int)==(L:Int))=false:=by simp;omega
   have ch:(k:Int)+1<=9223372036854775807:=by unfold maxLen at bz;omega
   have cy:p.cell? ⟨a,bo+k,none⟩=some (.int .u8 (c.getD k 0)):=by
    simp only[World.cell?,y];simpa using A k bt
   have fy:p.frozen? ⟨a,bo+k,none⟩=false:=by simp[World.frozen?,y]
   have b5:=J (C k bt);replace y:=J y;generalize c.getD k 0=x at *;replace A:=J A;replace C:=J C;have h':=h;replace h:=J h;clear h';gi_wp2;have bx:((p.setCell ⟨a,bo+k,none⟩ (.int .u8 (bits .xor .u8 x (lu key s n k)))).setCell ⟨w.heap.size+1+1,0,none⟩ (.int .i64 ((k:Int)+1))).heap[D+1]?=some (.loop {H with state:=.busy}):=by
    rw[dy _ _ _ _ (by simp<;>omega),dy _ _ _ _ (by simp<;>omega)];exact Z M
   refine⟨_,_,run_endRound none bx,Z a3 _ ?_⟩
   have E:=Z h;have a8:D+1<((p.setCell ⟨a,bo+k,none⟩ (.int .u8 (bits .xor .u8 x (lu key s n k)))).setCell ⟨w.heap.size+1+1,0,none⟩ (.int .i64 ((k:Int)+1))).heap.size:=(aY.1 bx).1;refine⟨by omega,?_,?_,?_,?_,?_,?_,?_,?_,?_⟩
   rw[World.putObj_heap_other (by omega)];have:=heap_set (o:=0) (n:=w.heap.size+1+1) (w:=p.setCell ⟨a,bo+k,none⟩ (.int .u8 (bits .xor .u8 x (lu key s n k)))) (by rw[dy _ _ _ _ (by simp<;>omega)];exact Z T) (.int .i64 ((k:Int)+1));exact this;rw[World.putObj_heap_other (by omega),dy _ _ _ _ (by simp<;>omega),dy _ _ _ _ (by simp<;>omega)];exact Z U;rw[World.putObj_heap_other (by omega),dy _ _ _ _ (by simp<;>omega)];have:=heap_set (o:=bo+k) (Z y) (.int .u8 (bits .xor .u8 x (lu key s n k)));rw[this];exact fm (λz=>some (Obj.cells z t (0,0))) (Z b5);rw[World.putObj_heap_other (by omega),dy _ _ _ _ (by simp<;>omega),dy _ _ _ _ (by simp<;>omega),Z u _ (by omega)];exact E.yC;rw[World.putObj_heap_other (by omega),dy _ _ _ _ (by simp<;>omega),dy _ _ _ _ (by simp<;>omega),Z u _ (by omega)];exact E.s_;rw[World.putObj_heap_other (by omega),dy _ _ _ _ (by simp<;>omega),dy _ _ _ _ (by simp<;>omega),Z u _ (by omega)];exact E.n_;refine cF (aI (aI (cF E.gb br (λj e=>by cases e;left;omega)) _ _ (.inr rfl)) _ _ (.inl (by simp<;>omega))) (grownBy_putObj' _ (D+1) _) (λj e=>by cases e;left;omega);rw[World.putObj_heap_same a8];rw[Z bj,<-Z q];rfl;rw[World.putObj_heap_other (by omega),dy _ _ _ _ (by simp<;>omega),dy _ _ _ _ (by simp<;>omega)];exact Z V
  obtain rfl:k=L:=by have:=h.kL;omega
  have he:((k:Int)==(k:Int))=true:=by simp
  replace h:=J h;replace y:=J y;replace A:=J A;replace C:=J C;gi_wp2;refine⟨_,_,run_endRound (some (.exit 0)) (Z M),Z a4 _ ?_⟩
  have E:=Z h;have a8:D+1<p.heap.size:=(aY.1 (Z M)).1;refine⟨?_,?_,?_,?_⟩
  rw[World.putObj_heap_other (by omega)];exact Z y;exact cF (cF E.gb br (λj e=>by cases e;left;omega)) (grownBy_putObj' _ (D+1) _) (λj e=>by cases e;left;omega);rw[World.putObj_heap_same a8,Z bj,<-Z q];rfl;rw[World.putObj_heap_other (by omega)];exact Z V
theorem Ci(key:List Int)(s n:Int)(b bo L cap:Nat)(a:List Int)(t:TypeId)(w:World)(d:dw key)(hs:W8 s)(f:aV n)(g:∀x∈a,W8 x)(h:bo+L<=a.length)(i:L<=cap)(j:cap<=maxLen)(k:w.heap[b]?=some (.cells (bv a).toArray t (0,0))):
 Calls prog 174 #[.slice (some ⟨b,bo,none⟩) L cap,.agg (cJ key),.int .u8 s,.int .u64 n] w λe c=>
  e=.returned (.tuple #[])/\c.heap[b]?=some (.cells (bv (splice a bo (dN key s n ((a.drop bo).take L)))).toArray t (0,0))/\w.grownBy c (some b):=
 s8.1 (Kd key s n b bo L cap a t w d hs f g h i j k)
