import Derived.LoopIn
import Derived.LoopNIn
import Derived.OwnWalkIn
import Derived.RangeFuncBound
import Derived.RangeFuncCalls
import Derived.RangeFuncLeaves
import Derived.RangeFuncNested
import Derived.Shelf.Abstract
import Derived.Shelf.RegionOpen
import Derived.TacticsInMore
import Derived.Test.YtjnmokmchdfchaaGreatDoorZLa
set_option maxRecDepth 1000000
set_option maxHeartbeats 0
set_option linter.all false
namespace Go.Proofs.YtjnmokmchdfchaaGreatDoor
open Go.RowKit Tryz
open Go.Value renaming int→ι,slice→σ,bool→β,pointer→π,agg→ε,string→ς,tuple→τ
open Go.IntKind renaming i64→δ,u64→η,u8→Δ
open Go.Ending renaming returned→ξ
open Go.Obj renaming cells→ο
open Or renaming inl→φ,inr→ψ
open Option renaming some→μ,none→ν
open Bool renaming true→ρ,false→θ
open Go renaming World→ω,Value→υ
open Go.World renaming grownBy→γ,cell?→κ,frozen?→χ,setCell→ζ
attribute[local go_sem]Oper.semAt_some
variable{H:Act}{c:Array υ}{u:Exit->Act->ω->Prop}{p q:Int}{K L M:List Int}{i j k l m n o:Nat}{T:TypeId}{x:υ}{W v w:ω}
def JK(a:Option Addr)(n c:Nat)(w:ω):Calls prog 237 #[σ a n c] w λe b=>
 e=ξ (.func (.func 277) #[] #[π (μ ⟨w.heap.size,0,ν⟩)])/\b=w.alloc (ο #[σ a n c] 227):=by
 go_enter func237,ntmps237;go_wp2;go_ret;exact⟨rfl,rfl⟩
def JL(l p:Nat)(a:Option Addr)(n c:Nat)(L:List Rg)(d:Nat->ω->Prop)
 (q:∀k W j,d k W->γ W j ν->d k j)
 (f:∀k W,d k W->κ W ⟨p,0,ν⟩=μ (σ a n c)/\bq W a n c L)
 (hY:∀k W,d k W->k<L.length->YieldAt Fence.wide 1 prog l #[ι δ ((L.length-1-k:Nat):Int),ε #[ι η (ao L (L.length-1-k)).lo,ι η (ao L (L.length-1-k)).hi]] W λe j=>e=ξ (β ρ)/\d (k+1) j)
 (W:ω) (h0:d 0 W):
 CallsIn Fence.wide 2 prog 277 #[.func (.yield l) #[] #[],π (μ ⟨p,0,ν⟩)] W λe j=>(∃v,e=ξ v)/\d L.length j:=by
 refine uz.2 ?_;replace q:=J q;have B:=(f _ _ h0).1;have r:n=L.length:=(f _ _ h0).2.2.1;have w:n<=c/\c<=maxLen:=⟨(f _ _ h0).2.2.2.1,(f _ _ h0).2.2.2.2.1⟩
 have C:(n:Int)<=9223372036854775807:=by unfold maxLen at w;omega
 replace⟨f,hY⟩:=bD f hY;go_enter func277,ntmps277;go_wp2;go_loopg [3] (n+1) (λg i wr=>∃k:Nat,k<=n/\g=n+1-k/\i=ι δ ((n:Int)-1-k)/\d k wr);case atStart=>exact⟨0,by omega,by omega,by go_num,h0⟩
 case round=>
  obtain⟨k,D,rfl,rfl,m⟩:=hrel;obtain⟨c1,s⟩:=Z f _ _ m;by_cases E:k<n
  ·have d1:decide ((n:Int)-1-k≥0)=ρ:=dT_;have y:∃b o,a=μ ⟨b,o,ν⟩:=by
    obtain h|⟨b,o,h,-⟩:=s.2.2.2.2
    omega;exact⟨b,o,h⟩
   obtain⟨b,o,rfl⟩:=y;have hi:n-1-k<L.length:=by omega
   obtain⟨F,G⟩:=s.cell (n-1-k) hi;obtain⟨H,I,K,M,t,u⟩:=Z hY _ _ m (by omega);rw[<-r]at t;generalize ao L (n-1-k)=x at *;have z:(n:Int)-1-k=((n-1-k:Nat):Int):=by omega
   rw[z]at d1⊢;have d2:n-1-k<n:=by omega
   generalize n-1-k=i at *;go_upto_region 3 with fail;refine(wpIn_wide (n:=2)).1 ?_;gi_wp2;apply u.mono;clear t u;rintro e N⟨rfl,A⟩;gi_wp2;go_wp2;go_roundg (n+1-(k+1));case measure=>omega
   case rel=>exact⟨k+1,by omega,rfl,by go_num,A⟩
  obtain rfl:k=n:=by omega
  have d1:decide ((k:Int)-1-k≥0)=θ:=dF_;go_wp2;refine gD (fe rfl _ _ _) rfl ?_;exact⟨⟨_,rfl⟩,r▸m⟩
def JM(p:Addr)(k:Int)(w:ω):Calls prog 240 #[π (μ p),ι δ k] w λe a=>
 e=ξ (.func (.func 280) #[] #[π (μ ⟨w.heap.size,0,ν⟩),π (μ ⟨w.heap.size+1,0,ν⟩)])/\a=(w.alloc (ο #[π (μ p)] 321)).alloc (ο #[ι δ k] 3):=by
 go_enter func240,ntmps240;go_wp2;go_ret;exact⟨rfl,rfl⟩
def LA(K:Array υ)(s n:Int)(w:ω)(b:K.size=16):Calls prog 224 #[ε K,ι Δ s,ι η n] w λe a=>
 e=ξ (.func (.func 264) #[] #[π (μ ⟨w.heap.size,0,ν⟩),π (μ ⟨w.heap.size+1,0,ν⟩),π (μ ⟨w.heap.size+2,0,ν⟩)])/\
 a=((w.alloc (ο K 24)).alloc (ο #[ι Δ s] 5)).alloc (ο #[ι η n] 30):=by
 go_enter func224,ntmps224;go_wp2;go_ret;exact⟨rfl,rfl⟩
def tH{wr:ω}(h:(w.rangeAt k 0 (bv L)/\κ w ⟨i,0,ν⟩=μ (ι Δ p)/\κ w ⟨j,0,ν⟩=μ (ι η q)/\γ wr w ν))(g:γ w W ν):(W.rangeAt k 0 (bv L)/\κ W ⟨i,0,ν⟩=μ (ι Δ p)/\κ W ⟨j,0,ν⟩=μ (ι η q)/\γ wr W ν):=
 ⟨jn h.1 g (by simp),gC_ g h.2.1,gC_ g h.2.2.1,aq h.2.2.2 g⟩
def DQ{wr:ω}(h:(w.rangeAt k 0 (bv L)/\κ w ⟨i,0,ν⟩=μ (ι Δ p)/\κ w ⟨j,0,ν⟩=μ (ι η q)/\γ wr w ν))(o:bn w m x K)(a:wr.heap.size<=m)(b:k<wr.heap.size)(c:i<wr.heap.size)(d:j<wr.heap.size)(g:γ w W x.ownBlock):(W.rangeAt k 0 (bv L)/\κ W ⟨i,0,ν⟩=μ (ι Δ p)/\κ W ⟨j,0,ν⟩=μ (ι η q)/\γ wr W ν):=
 ⟨jn h.1 g (λe=>by have:=(o.lt _ e).1;omega),g.cell h.2.1 (λe=>by have:=(o.lt _ e.symm).1;dsimp only at this;omega),g.cell h.2.2.1 (λe=>by have:=(o.lt _ e.symm).1;dsimp only at this;omega),uA (By (yW h.2.2.2) o g h.2.2.2.size a)⟩
def LC{wr:ω}(h:(w.rangeAt k 0 (bv L)/\κ w ⟨i,0,ν⟩=μ (ι Δ p)/\κ w ⟨j,0,ν⟩=μ (ι η q)/\γ wr w ν))(o:bn W w.heap.size x K)(g:γ w W ν):(W.rangeAt k 0 (bv L)/\κ W ⟨i,0,ν⟩=μ (ι Δ p)/\κ W ⟨j,0,ν⟩=μ (ι η q)/\γ wr W ν)/\bn W wr.heap.size x K/\wr.heap.size<=W.heap.size:=
 ⟨tH h g,o.lower h.2.2.2.size,bK h.2.2.2.size g.size⟩
def LD(key:List Int)(s n:Int)(l m sb nb L:Nat)(d:Nat->ω->Prop)(K:ω->Prop)(z:eP key)(hs:W8 s)(hn:aW n)
 (q:∀k W f,d k W->γ W f ν->d k f)
 (r:∀k W,d k W->(W.heap[m]?=μ (ο (cV key) 24 (0,0))/\κ W ⟨sb,0,ν⟩=μ (ι Δ s)/\κ W ⟨nb,0,ν⟩=μ (ι η n))/\k<=L)
 (hY:∀k W,d k W->YieldAt Fence.wide 1 prog l #[ι Δ (l9 key s n k)] W λe f=>(e=ξ (β ρ)/\d (k+1) f)\/(e=ξ (β θ)/\K f))
 (W:ω) (h0:d 0 W):
 CallsIn Fence.wide 2 prog 264 #[.func (.yield l) #[] #[],π (μ ⟨m,0,ν⟩),π (μ ⟨sb,0,ν⟩),π (μ ⟨nb,0,ν⟩)] W λe f=>(∃v,e=ξ v)/\K f:=by
 have a4:(prog.info? 24).map (·.size)=μ (bv key).length:=by rw[fX,z.1];exact nJ
 have a8:=underlying24;refine uz.2 ?_;replace⟨q,r,hY⟩:=cz q r hY;go_enter func264,ntmps264;go_wp2;go_loopg [5] (L+8) (λg i wr=>∃b:Nat,g=L+8-8*b/\i=ι Δ ((b:Int) %256)/\d (8*b) wr);case atStart=>exact⟨0,by omega,rfl,h0⟩
 case round=>
  obtain⟨b,rfl,rfl,A⟩:=hrel;obtain⟨⟨c1,c2,c3⟩,hL⟩:=Z r _ _ A;have B:W8 ((b:Int) %256):=by unfold W8;omega
  have M:m<wr.heap.size:=(bg.1 c1).1;have N:sb<wr.heap.size:=eZ wr _ c2;have O:nb<wr.heap.size:=eZ wr _ c3;have C:(wr.rangeAt m 0 (bv key)/\κ wr ⟨sb,0,ν⟩=μ (ι Δ s)/\κ wr ⟨nb,0,ν⟩=μ (ι η n)/\γ wr wr ν):=⟨kN c1,c2,c3,aD _ _⟩
  have P:=J (λ(a:Option Addr)(n cap:Nat)(l:List Int)(W:ω)=>DG key a n cap l W z);have Q:=J (λW=>DN s 1 n W hs (by unfold W8;omega) hn);have D:=J (λ(W:ω)=>wO W ((b:Int) %256) B);clear c1;go_upto_region 2 with fail;go_cut [6] (λv wx=>v=ι η (dh key (ai s 1 n++[(b:Int) %256]))/\γ wr wx ν);case first=>
   go_region_held3 (λt=>(t.rangeAt m 0 (bv key)/\κ t ⟨sb,0,ν⟩=μ (ι Δ s)/\κ t ⟨nb,0,ν⟩=μ (ι η n)/\γ wr t ν))
    (with_reducible first|exact R|exact E|exact u|exact tH u (aJ _ _ ν)|exact tH C (aY (aJ _ _ ν))|exact tH C (aY (aD _ ν)))
    (first
      |(go_at_call 223;apply(Z Q _).mono;rintro e w1⟨a1,c1,rfl,o1,S⟩;obtain⟨u,w,a9⟩:=LC (wr:=wr) (by assumption) o1 S)
      |(refine wQ (by rfl) _ _ (by rfl) wr.heap.size _ (ai s 1 n) (by rfl) (w.au (aJ _ _ ν)) _ _ _ [(b:Int) %256] (by rfl) (Z D _) (by rw[vz];simp) (by simp;omega) ?_;intro a3 c3 w3 T F _;have E:=DQ (tH u (aJ _ _ ν)) (w.au (aJ _ _ ν)) (aP _) M N O F)
      |(refine wQ (by rfl) _ _ (by rfl) wr.heap.size _ (ai s 1 n) (by rfl) w _ _ _ [(b:Int) %256] (by rfl) ((Z D wr).au (aq (aY (aD _ ν)) S)) (by rw[vz];simp) (by omega) ?_;intro a3 c3 w3 T F _;have E:=DQ u w (aP _) M N O F)
      |(go_at_call 222;refine(Z P _ _ _ (ai s 1 n++[(b:Int) %256]) _ T.iy (by rw[bF,vz];simp)).mono ?_;rintro e w4⟨rfl,g4⟩;have R:=tH E g4))
   all_goals
    go_wp2
    go_meet
    exact⟨rfl,R.2.2.2⟩
  case rest=>
   obtain⟨rfl,U⟩:=hcut;have V:=Z q _ _ _ A U;have X:aW (dh key (ai s 1 n++[(b:Int) %256])):=DL key _ z (λx G=>(bL.1 G).elim (Ls hs (by unfold W8;omega) x) (λh=>by rw[cA.1 h];exact B));have p:∀(j:Nat)(W:ω),j<8->(Instr.index 300 (ε (bv (gl (dh key (ai s 1 n++[(b:Int) %256])))).toArray) (ι δ j)).run prog W=.ok (ι Δ (l9 key s n (8*b+j))) W:=by
    intro j W al;have e:l9 key s n (8*b+j)=(gl (dh key (ai s 1 n++[(b:Int) %256]))).getD j 0:=by
     unfold l9;rw[show(8*b+j)/8=b by omega,show(8*b+j) %8=j by omega];generalize dh key (ai s 1 n++[(b:Int) %256])=h;have e:j=0\/j=1\/j=2\/j=3\/j=4\/j=5\/j=6\/j=7:=by omega
     obtain rfl|rfl|rfl|rfl|rfl|rfl|rfl|rfl:=e<;>rfl
    rw[e];exact DJ _ _ _ _ _ _ _ _ j al W
   obtain⟨h,Y⟩:=exq (dh key (ai s 1 n++[(b:Int) %256]));rw[<-Y]at X p⊢;clear Y C c2 c3 P Q D B;obtain⟨K8,H⟩:=exq ((bv (gl h)).toArray);rw[<-H]at p;have y:=λW=>xR h W X
   simp only[<-H]at y;replace⟨y,p⟩:=bD y p;clear H;go_wp2_with (go_at_call 194;apply(Z y _).mono;rintro e w5⟨rfl,g5⟩);have ax:=Z q _ _ _ V g5;clear V g5 U A;go_loopg [21] 8 (λg j aC=>∃c:Nat,c<=8/\g=8-c/\j=ι δ c/\d (8*b+c) aC);case atStart=>exact⟨0,by omega,by omega,rfl,ax⟩
   case round=>
    obtain⟨c,bb,rfl,rfl,I⟩:=hrel;by_cases a0:c<8
    ·have bj:=λW=>Z p c W a0
     obtain⟨fn,br,bt,bx,hy,hR⟩:=Z hY _ _ I;go_upto_region 6 with fail;refine(wpIn_wide (n:=2)).1 ?_;gi_wp2;apply hR.mono;clear hy hR;rintro e W3(⟨rfl,a2⟩|⟨rfl,G⟩)
     ·gi_wp2;go_wp2;go_roundg (8-(c+1));case measure=>omega
      case rel=>exact⟨c+1,by omega,rfl,by go_num,a2⟩
     gi_wp2;go_wp2;refine df (fe rfl _ _ _) rfl ?_;exact⟨⟨_,rfl⟩,G⟩
    obtain rfl:c=8:=by omega
    have bz:=(Z r _ _ I).2;go_wp2;go_roundg (L+8-8*(b+1));case measure=>omega
    case rel=>exact⟨b+1,rfl,by simp,I⟩
def ja{o:Obj}(h:W.heap[i]?=μ o)(g:γ W w ν):w.heap[i]?=μ o:=(g.block i (bg.1 h).1 (by simp)).trans h
def xS(h:W.heap[i]?=μ (ο #[x] T (0,0))):κ W ⟨i,0,ν⟩=μ x/\χ W ⟨i,0,ν⟩=θ:=by simp[World.cell?,World.frozen?,h]
def LF(a m:List Int)(o:Nat)(h:o+m.length<a.length):(splice a o m).getD (o+m.length) 0=a.getD (o+m.length) 0:=by
 simp only[splice,oy]
 rw[mU (by simp;omega),mU (by simp;omega)];simp only[ct,lC]
 congr 2;omega
def LG(a m:List Int)(o:Nat)(y:Int)(h:o+m.length<a.length):(bv (splice a o m)).toArray.setIfInBounds (o+m.length) (ι Δ y)=(bv (splice a o (m++[y]))).toArray:=by
 rw[lT];congr 1;have b:(a.take o).length=o:=by simp;omega
 simp only[bv,splice,mV]
 rw[List.set_append_right _ _ (by simp;omega)];congr 1;simp only[dd,b]
 rw[List.set_append_right _ _ (by simp)];simp only[dd,bF,fm]
 congr 1;rw[show o+m.length-o-m.length=0 by omega];rw[Bt (l:=a) (i:=o+m.length) h];simp[qJ]
def LH(a m:List Int)(o:Nat)(h:o+m.length<=a.length):(splice a o m).length=a.length:=length_splice _ _ _ h
def LI(a:List Int)(o:Nat):splice a o []=a:=by simp[splice]
def LJ(w:ω)(o0 o1 a b c d:Obj):((((((w.alloc o0).alloc o1).alloc a).alloc b).alloc c).alloc d).heap[w.heap.size]?=μ o0/\((((((w.alloc o0).alloc o1).alloc a).alloc b).alloc c).alloc d).heap[w.heap.size+1+1]?=μ a/\
 ((((((w.alloc o0).alloc o1).alloc a).alloc b).alloc c).alloc d).heap[w.heap.size+1+1+1]?=μ b/\((((((w.alloc o0).alloc o1).alloc a).alloc b).alloc c).alloc d).heap[w.heap.size+1+1+1+1]?=μ c/\((((((w.alloc o0).alloc o1).alloc a).alloc b).alloc c).alloc d).heap[w.heap.size+1+1+1+2]?=μ d:=by
 have at_:∀(W:ω)(o:Obj)(i:Nat),i=W.heap.size->(W.alloc o).heap[i]?=μ o:=λW o i e=>by rw[e];exact aO W o
 refine⟨?_,?_,?_,?_,?_⟩
 ·iterate 5 rw[fS _ _ _ (by simp;try omega)]
  exact at_ _ _ _ rfl
 ·iterate 3 rw[fS _ _ _ (by simp;try omega)]
  exact at_ _ _ _ (by simp)
 ·iterate 2 rw[fS _ _ _ (by simp;try omega)]
  exact at_ _ _ _ (by simp)
 ·iterate 1 rw[fS _ _ _ (by simp;try omega)]
  exact at_ _ _ _ (by simp)
 exact at_ _ _ _ (by simp)
def LK{g:Operand}{ps:Array Tmp}{assign body:Code}(a:H.eval g=.func (.func n) #[] c)(eg:∀args w,(callFunc n args).run prog w=.ok (.enter n args) w)
 (h:∀fn,CallsIn Fence.wide 2 prog n (#[.func (.yield (w.heap.size+1)) #[] #[]]++c) ((w.alloc (.deferred (μ []))).alloc (.loop {state:=.ready,pending:=ν,fn,tmps:=H.tmps,params:=ps,assign,body,defers:=w.heap.size}))
   (rangePost Fence.wide 3 prog (w.heap.size+1) u {H with defers:=[{target:=.collected w.heap.size,args:= #[]}]++H.defers})):
 (Code.rangeFunc g ps assign body).wpIn Fence.wide 3 prog u H w:=by
 refine wpIn_rangeFunc λfn _=>?_
 refine⟨w.heap.size+1,[{target:=.collected w.heap.size,args:= #[]}],(w.alloc (.deferred (μ []))).alloc (.loop {state:=.ready,pending:=ν,fn,tmps:=H.tmps,params:=ps,assign,body,defers:=w.heap.size}),{target:=.fn (.func n) c,args:= #[.func (.yield (w.heap.size+1)) #[] #[]]},(w.alloc (.deferred (μ []))).alloc (.loop {state:=.ready,pending:=ν,fn,tmps:=H.tmps,params:=ps,assign,body,defers:=w.heap.size}),n,#[.func (.yield (w.heap.size+1)) #[] #[]]++c,(w.alloc (.deferred (μ []))).alloc (.loop {state:=.ready,pending:=ν,fn,tmps:=H.tmps,params:=ps,assign,body,defers:=w.heap.size}),?_,?_,?_,?_,?_,?_⟩
 exact run_enterLoop_outer _ _ _ _ _
 ·simp only[resolve,a]
  simp[go_sem]
 exact λ_ _=>trivial
 ·simp[invoke,go_sem,eg]
 exact λ_=>by omega
 exact h fn
structure Inv(key:List Int)(s n:Int)(w:ω)(a bo L cap:Nat)(c d:List Int)(t:TypeId)(D:Nat)(r:Loop)(k:Nat)(W:ω):Prop where
 kL:k<=L
 i:W.heap[w.heap.size+1+1]?=μ (ο #[ι δ k] 3 (0,0))
 b:W.heap[w.heap.size]?=μ (ο #[σ (μ ⟨a,bo,ν⟩) L cap] 112 (0,0))
 rY:W.heap[a]?=μ (ο (bv (splice c bo (kx key s n d k))).toArray t (0,0))
 Ae:W.heap[w.heap.size+1+1+1]?=μ (ο (cV key) 24 (0,0))
 s_:W.heap[w.heap.size+1+1+1+1]?=μ (ο #[ι Δ s] 5 (0,0))
 n_:W.heap[w.heap.size+1+1+1+2]?=μ (ο #[ι η n] 30 (0,0))
 gb:γ w W (μ a)
 lL:W.heap[D+1]?=μ (.loop r)
 tt:W.heap[D]?=μ (.deferred (μ []))
def Inv.cM{a:List Int}{D:Nat}{r:Loop}(h:Inv K p q w l m o j M a T D r k W)(g:γ W v ν):Inv K p q w l m o j M a T D r k v:=
 ⟨h.kL,ja h.i g,ja h.b g,ja h.rY g,ja h.Ae g,ja h.s_ g,ja h.n_ g,cT h.gb g (λc e=>by cases e),ja h.lL g,ja h.tt g⟩
def LL(key:List Int)(s n:Int)(a bo L cap:Nat)(d:List Int)(t:TypeId)(w:ω)(hk:eP key)(hs:W8 s)(hn:aW n)(b6:∀x∈d,W8 x)(b7:bo+L<=d.length)(b8:L<=cap)(bz:cap<=maxLen)(X:w.heap[a]?=μ (ο (bv d).toArray t (0,0))):
 CallsIn Fence.wide 3 prog 174 #[σ (μ ⟨a,bo,ν⟩) L cap,ε (cV key),ι Δ s,ι η n] w λe Y=>
  e=ξ (τ #[])/\Y.heap[a]?=μ (ο (bv (splice d bo (dJ key s n ((d.drop bo).take L)))).toArray t (0,0))/\γ w Y (μ a):=by
 have al:=qm hk;have ca:a<w.heap.size:=(bg.1 X).1;obtain⟨K,N⟩:=exq (cV key);rw[<-N]at al⊢;replace N:=J N;refine callsIn_of_wp_marks func174 rfl trivial ?_ rfl;simp only[ntmps174,uk,cS,fM,Nat.reduceAdd,Nat.reduceSub,Array.replicate_succ,Array.replicate_zero,List.push_toArray,List.append_toArray,jL,pT]
 have ax:=aO (w.alloc (ο #[σ (μ ⟨a,bo,ν⟩) L cap] 112)) (ο K 24);rw[eh]at ax;have O:(((w.alloc (ο #[σ (μ ⟨a,bo,ν⟩) L cap] 112)).alloc (ο K 24)).alloc (ο #[ι δ 0] 3)).heap[w.heap.size+1]?=μ (ο K 24 (0,0)):=by
  rw[fS _ _ _ (by simp)];exact ax
 replace O:=J O;clear ax;refine wpIn_wide.2 ?_;go_wp2_with (first|(refine rM _ (by rfl) (by rfl) _ (by rfl) K ?_ al ?_;exact Z O)|(go_at_call 224;apply(LA K s n _ al).mono;rintro e Y⟨rfl,rfl⟩));obtain⟨m,F⟩:=exq ((((((w.alloc (ο #[σ (μ ⟨a,bo,ν⟩) L cap] 112)).alloc (ο K 24)).alloc (ο #[ι δ 0] 3)).alloc (ο K 24)).alloc (ο #[ι Δ s] 5)).alloc (ο #[ι η n] 30));rw[<-F];have P:γ w m ν:=by rw[F];exact bk (bk (bk (bk (bk (bk (aD w ν) _) _) _) _) _) _
 have z6:m.heap.size=w.heap.size+6:=by rw[F];simp
 have f6:=LJ w (ο #[σ (μ ⟨a,bo,ν⟩) L cap] 112) (ο K 24) (ο #[ι δ 0] 3) (ο K 24) (ο #[ι Δ s] 5) (ο #[ι η n] 30);rw[<-F]at f6;rw[Z N]at f6;obtain⟨f0,f1,f2,f3,f4⟩:=f6;have aC:m.heap[a]?=μ (ο (bv d).toArray t (0,0)):=ja X P;clear F O X;obtain⟨c,G⟩:=exq ((d.drop bo).take L);have bM:c.length=L:=by rw[G];simp;omega
 replace G:=J G;refine(wpIn_wide (n:=3)).1 ?_;refine LK (n:=264) rfl (enters_of func264 (by kernel_rfl) rfl) ?_;intro fn;generalize q:Loop.mk _ _ _ _ _ _ _ _=f;have r:γ m ((m.alloc (.deferred (μ []))).alloc (.loop f)) ν:=bk (bk (aD m ν) _) _;have a0:((m.alloc (.deferred (μ []))).alloc (.loop f)).heap[m.heap.size+1]?=μ (.loop f):=by
  have:=aO (m.alloc (.deferred (μ []))) (.loop f);rwa[eh]at this
 have a1:((m.alloc (.deferred (μ []))).alloc (.loop f)).heap[m.heap.size]?=μ (.deferred (μ [])):=by
  rw[fS _ _ _ (by simp)];exact aO _ _
 generalize (m.alloc (.deferred (μ []))).alloc (.loop f)=W8 at *;generalize m.heap.size=D at *;have zD:w.heap.size+6<=D:=by omega
 clear z6;have A:∀k,k<L->(bv (splice d bo (kx key s n c k))).toArray[bo+k]?=μ (ι Δ (c.getD k 0)):=by
  intro k a9;have h1:=LF d (kx key s n c k) bo (by rw[tF];omega);rw[tF]at h1;have h2:=uC (splice d bo (kx key s n c k)) (bo+k) (by rw[LH _ _ _ (by rw[tF];omega)];omega);rw[h1]at h2;have h3:c.getD k 0=d.getD (bo+k) 0:=by
   rw[Z G,oy,oy,jK,aG a9,lC]
  rw[h3];simpa using h2
 have C:∀k,k<L->(bv (splice d bo (kx key s n c k))).toArray.setIfInBounds (bo+k) (ι Δ (x8 (c.getD k 0) (l9 key s n k)))=(bv (splice d bo (kx key s n c (k+1)))).toArray:=by
  intro k a9;have:=LG d (kx key s n c k) bo (x8 (c.getD k 0) (l9 key s n k)) (by rw[tF];omega);rw[tF]at this;rw[this,Lr]
 refine(LD key s n (D+1) (w.heap.size+1+1+1) (w.heap.size+1+1+1+1) (w.heap.size+1+1+1+2) L (Inv key s n w a bo L cap d c t D f)
  (λl=>l.heap[a]?=μ (ο (bv (splice d bo (kx key s n c L))).toArray t (0,0))/\γ w l (μ a)/\l.heap[D+1]?=μ (.loop {f with state:=.done,pending:=μ (.exit 0)})/\l.heap[D]?=μ (.deferred (μ [])))
  hk hs hn (λk W l h g=>h.cM g) (λk W h=>⟨⟨h.Ae,(xS h.s_).1,(xS h.n_).1⟩,h.kL⟩) ?hY _ ?h0).mono ?post
 case h0=>
  refine⟨by omega,ja f1 r,ja f0 r,?_,ja f2 r,ja f3 r,ja f4 r,dy (aq P r) _,a0,a1⟩
  rw[show kx key s n c 0=[]from rfl,LI];exact ja aC r
 case post=>
  clear A C;rintro e W3⟨⟨v,rfl⟩,a2,hg,Q,hd⟩;have bb:D+1<W3.heap.size:=(bg.1 Q).1;refine⟨μ (.exit 0),_,run_endLoop Q (by simp),?_⟩
  have b0:(W3.putObj (D+1) (.loop {{f with state:=.done,pending:=μ (.exit 0)}with state:=.exhausted})).heap[D]?=μ (.deferred (μ [])):=by rw[World.putObj_heap_other (by omega)];exact hd
  replace⟨a2,Q,hd,hg,q⟩:=fF a2 Q hd hg q;clear f0 f1 f2 f3 f4 aC P r a0 a1;dsimp only
  gi_wp2;refine⟨by simp,φ ⟨_,_,rfl,run_takeDeferred b0,?_⟩⟩
  refine⟨_,fe rfl _ _ _,rfl,?_,?_⟩
  rw[World.putObj_heap_other (by omega),World.putObj_heap_other (by omega),<-Z G];rw[show dJ key s n c=kx key s n c L by unfold dJ;rw[bM]];exact Z a2;exact cT (cT (Z hg) (grownBy_putObj' _ (D+1) _) (λj e=>by cases e;left;omega)) (grownBy_putObj' _ D _) (λj e=>by cases e;left;omega)
 case hY=>
  clear f0 f1 f2 f3 f4 aC P r a0 a1;intro k W h;suffices b3:∀R:Ending->ω->Prop,(∀l,Inv key s n w a bo L cap d c t D f (k+1) l->R (ξ (β ρ)) l)->
   (∀l,(l.heap[a]?=μ (ο (bv (splice d bo (kx key s n c L))).toArray t (0,0))/\γ w l (μ a)/\l.heap[D+1]?=μ (.loop {f with state:=.done,pending:=μ (.exit 0)})/\l.heap[D]?=μ (.deferred (μ [])))->R (ξ (β θ)) l)->
   YieldAt Fence.wide 1 prog (D+1) #[ι Δ (l9 key s n k)] W R from b3 _ (λl h=>φ ⟨rfl,h⟩) (λl h=>ψ ⟨rfl,h⟩)
  intro R a3 a4;replace⟨a3,a4⟩:=bD a3 a4;refine⟨f.fn,_,f.assign,f.body,run_yield h.lL (by rw[<-q];rfl),roundIn_of_wpIn trivial ?_⟩
  obtain⟨H,S⟩:=exq f;have b4:H.state=.ready:=by rw[S,<-q]
  rw[<-S]at h;have bj:Hid (H=f):=S;rw[<-q];dsimp only
  clear S;replace q:=J q;gi_wp2;refine⟨_,run_beginRound h.lL b4,?_⟩
  have bb:D+1<W.heap.size:=(bg.1 h.lL).1;obtain⟨p,I⟩:∃p,p=W.putObj (D+1) (.loop {H with state:=.busy}):=⟨_,rfl⟩
  rw[<-I];have u:∀i,i≠D+1->p.heap[i]?=W.heap[i]? :=λi hi=>by rw[I];exact World.putObj_heap_other hi
  have M:p.heap[D+1]?=μ (.loop {H with state:=.busy}):=by rw[I];exact World.putObj_heap_same bb
  have br:γ W p (μ (D+1)):=by rw[I];exact grownBy_putObj' W (D+1) _
  clear I;have T:=(u (w.heap.size+1+1) (by omega)).trans h.i;have U:=(u w.heap.size (by omega)).trans h.b;have y:=(u a (by omega)).trans h.rY;have V:=(u D (by omega)).trans h.tt;obtain⟨ci,fi⟩:=xS T;obtain⟨cb,fb⟩:=xS U;replace⟨u,M,V,T,U⟩:=fF u M V T U;by_cases bt:k<L
  ·have he:((k:Int)==(L:Int))=θ:=by simp;omega
   have ch:(k:Int)+1<=9223372036854775807:=by unfold maxLen at bz;omega
   have cy:κ p ⟨a,bo+k,ν⟩=μ (ι Δ (c.getD k 0)):=by
    simp only[World.cell?,y];simpa using A k bt
   have fy:χ p ⟨a,bo+k,ν⟩=θ:=fZ_ y;have b5:=J (C k bt);replace y:=J y;generalize c.getD k 0=x at *;replace⟨A,C⟩:=bD A C;have h':=h;replace h:=J h;clear h';gi_wp2;have bx:((ζ p ⟨a,bo+k,ν⟩ (ι Δ (bits .xor Δ x (l9 key s n k)))).setCell ⟨w.heap.size+1+1,0,ν⟩ (ι δ ((k:Int)+1))).heap[D+1]?=μ (.loop {H with state:=.busy}):=by
    rw[dK _ _ _ _ (by simp<;>omega),dK _ _ _ _ (by simp<;>omega)];exact Z M
   refine⟨_,_,run_endRound ν bx,Z a3 _ ?_⟩
   have E:=Z h;have a8:D+1<((ζ p ⟨a,bo+k,ν⟩ (ι Δ (bits .xor Δ x (l9 key s n k)))).setCell ⟨w.heap.size+1+1,0,ν⟩ (ι δ ((k:Int)+1))).heap.size:=(bg.1 bx).1;refine⟨by omega,?_,?_,?_,?_,?_,?_,?_,?_,?_⟩
   rw[World.putObj_heap_other (by omega)];have:=heap_set (o:=0) (n:=w.heap.size+1+1) (w:=ζ p ⟨a,bo+k,ν⟩ (ι Δ (bits .xor Δ x (l9 key s n k)))) (by rw[dK _ _ _ _ (by simp<;>omega)];exact Z T) (ι δ ((k:Int)+1));exact this;rw[World.putObj_heap_other (by omega),dK _ _ _ _ (by simp<;>omega),dK _ _ _ _ (by simp<;>omega)];exact Z U;rw[World.putObj_heap_other (by omega),dK _ _ _ _ (by simp<;>omega)];have:=heap_set (o:=bo+k) (Z y) (ι Δ (bits .xor Δ x (l9 key s n k)));rw[this];exact fD (λz=>μ (Obj.cells z t (0,0))) (Z b5);rw[World.putObj_heap_other (by omega),dK _ _ _ _ (by simp<;>omega),dK _ _ _ _ (by simp<;>omega),Z u _ (by omega)];exact E.Ae;rw[World.putObj_heap_other (by omega),dK _ _ _ _ (by simp<;>omega),dK _ _ _ _ (by simp<;>omega),Z u _ (by omega)];exact E.s_;rw[World.putObj_heap_other (by omega),dK _ _ _ _ (by simp<;>omega),dK _ _ _ _ (by simp<;>omega),Z u _ (by omega)];exact E.n_;refine cT (aM (aM (cT E.gb br (λj e=>by cases e;left;omega)) _ _ (ψ rfl)) _ _ (φ (by simp<;>omega))) (grownBy_putObj' _ (D+1) _) (λj e=>by cases e;left;omega);rw[World.putObj_heap_same a8];rw[Z bj,<-Z q];rfl;rw[World.putObj_heap_other (by omega),dK _ _ _ _ (by simp<;>omega),dK _ _ _ _ (by simp<;>omega)];exact Z V
  obtain rfl:k=L:=by have:=h.kL;omega
  have he:((k:Int)==(k:Int))=ρ:=by simp
  replace⟨h,y,A,C⟩:=fE h y A C;gi_wp2;refine⟨_,_,run_endRound (μ (.exit 0)) (Z M),Z a4 _ ?_⟩
  have E:=Z h;have a8:D+1<p.heap.size:=(bg.1 (Z M)).1;refine⟨?_,?_,?_,?_⟩
  rw[World.putObj_heap_other (by omega)];exact Z y;exact cT (cT E.gb br (λj e=>by cases e;left;omega)) (grownBy_putObj' _ (D+1) _) (λj e=>by cases e;left;omega);rw[World.putObj_heap_same a8,Z bj,<-Z q];rfl;rw[World.putObj_heap_other (by omega)];exact Z V
def DR(key:List Int)(s n:Int)(b bo L cap:Nat)(a:List Int)(t:TypeId)(w:ω)(d:eP key)(hs:W8 s)(f:aW n)(g:∀x∈a,W8 x)(h:bo+L<=a.length)(i:L<=cap)(j:cap<=maxLen)(k:w.heap[b]?=μ (ο (bv a).toArray t (0,0))):
 Calls prog 174 #[σ (μ ⟨b,bo,ν⟩) L cap,ε (cV key),ι Δ s,ι η n] w λe c=>
  e=ξ (τ #[])/\c.heap[b]?=μ (ο (bv (splice a bo (dJ key s n ((a.drop bo).take L)))).toArray t (0,0))/\γ w c (μ b):=
 uz.1 (LL key s n b bo L cap a t w d hs f g h i j k)
