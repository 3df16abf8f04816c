import Derived.Laws.CopyRow
import Derived.Lib.AppendStr
import Derived.Test.YtjnmokmchdfchaaGreatDoorZL0
set_option maxRecDepth 1000000
set_option maxHeartbeats 0
set_option linter.all false
namespace Go.Proofs.YtjnmokmchdfchaaGreatDoor
open Go.RowKit Tryz
open Go.Value renaming int→ι,slice→σ,bool→β,pointer→π,agg→ε,string→ς,tuple→τ
open Go.IntKind renaming i64→δ,u64→η,u8→Δ
open Go.Ending renaming returned→ξ
open Go.Obj renaming cells→ο
open Or renaming inl→φ,inr→ψ
open Option renaming some→μ,none→ν
open Bool renaming true→ρ,false→θ
open Go renaming World→ω,Value→υ
open Go.World renaming grownBy→γ,cell?→κ,frozen?→χ,setCell→ζ
attribute[local go_sem↓]Go.wp_at_zero Go.wp_at_succ
variable{H:Act}{c:Array υ}{u:Exit->Act->ω->Prop}{I:Fr}{p q:Int}{K L M:List Int}{Y:List Rg}{i j k l m n:Nat}{U:Oper}{a:Option Addr}{T:TypeId}{x z:υ}{W v w:ω}
def xj(x:Rg)(w:ω):Calls prog 244 #[ε #[ι η x.lo,ι η x.hi]] w λe a=>e=ξ (β (decide (x.hi<=x.lo)))/\γ w a ν:=by
 go_enter func244,ntmps244;go_wp2_with fail;first
  |go_quiet (fail)
  |skip
 go_wp2;go_ret;exact⟨rfl,by repeat(first|exact aD _ _|apply dv|apply aY|apply bk)⟩
def bE{o:Obj}(h:W.heap[i]?=μ o)(g:γ W w ν):w.heap[i]?=μ o:=(g.block i (bg.1 h).1 (by simp)).trans h
def xk:prog.elem 227=341:=by kernel_rfl
def BR(W:ω):(sizeOf 341).run prog W=.ok 2 W:=by kernel_rfl
def BT(a:Option Addr)(n cap i:Nat)(h:i<=cap)(W:ω):(Instr.slice 227 (σ a n cap) ν (μ (ι δ i)) (μ (ι δ i))).run prog W=.ok (σ a i i) W:=by
 rw[run_slice_hm W 227 a n cap (by rw[xk];exact underlying227) δ δ (i:Int) (i:Int) (by omega) (cE _) (by omega),xk,BR];simp only[jh,sliced,oE,oH,Nat.sub_zero]
 congr 1;cases a with
 |none=>simp
 |some y=>simp[Addr.add]
def BU(a:Option Addr)(n cap j:Nat)(h:j<=n)(W:ω):(Instr.slice 227 (σ a n cap) (μ (ι δ j)) ν ν).run prog W=.ok (σ (if cap=j then a else a.map (·.add (j*2))) (n-j) (cap-j)) W:=by
 rw[run_slice_l W 227 a n cap (by rw[xk];exact underlying227) δ (j:Int) (by omega) (by omega),xk,BR];simp only[jh,sliced,oE]
def zi{wc:ω}{a b:υ}(h:κ w ⟨k,0,ν⟩=μ z/\κ w ⟨i,0,ν⟩=μ a/\κ w ⟨i,1,ν⟩=μ b/\γ wc w (μ n))(g:γ w W ν):κ W ⟨k,0,ν⟩=μ z/\κ W ⟨i,0,ν⟩=μ a/\κ W ⟨i,1,ν⟩=μ b/\γ wc W (μ n):=
 ⟨gC_ g h.1,gC_ g h.2.1,gC_ g h.2.2.1,aq h.2.2.2 (dy g _)⟩
def dp.lt(h:dp w n x Y):∀k,x.ownBlock=μ k->n<=k/\k<w.heap.size:=h.2.lt
def BV{wc:ω}(h:γ wc w ν)(o:dp w n x Y)(a:wc.heap.size<=n)(g:γ w W x.ownBlock):γ wc W ν:=cT h g (λj e=>φ (bK a (o.lt _ e).1))
def Hv{wc:ω}{a b c:υ}(h:κ w ⟨k,0,ν⟩=μ z/\κ w ⟨i,0,ν⟩=μ a/\κ w ⟨i,1,ν⟩=μ b/\γ wc w (μ n))(o:dp w m c Y)(d:wc.heap.size<=m)(f:k<m)(l:i<m)(g:γ w W c.ownBlock):κ W ⟨k,0,ν⟩=μ z/\κ W ⟨i,0,ν⟩=μ a/\κ W ⟨i,1,ν⟩=μ b/\γ wc W (μ n):=
 ⟨g.cell h.1 (λe=>by have:m<=k:=(o.lt _ e.symm).1;omega),g.cell h.2.1 (λe=>by have:m<=i:=(o.lt _ e.symm).1;omega),g.cell h.2.2.1 (λe=>by have:m<=i:=(o.lt _ e.symm).1;omega),cT h.2.2.2 g (λj e=>φ (bK d (o.lt _ e).1))⟩
def Hw{wc:ω}{a b u:υ}(h:κ W ⟨i,0,ν⟩=μ z/\κ W ⟨j,0,ν⟩=μ a/\κ W ⟨j,1,ν⟩=μ b/\γ wc W (μ n))(d:i≠n)(c:j≠n):(ζ W ⟨n,k,ν⟩ u).cell? ⟨i,0,ν⟩=μ z/\(ζ W ⟨n,k,ν⟩ u).cell? ⟨j,0,ν⟩=μ a/\(ζ W ⟨n,k,ν⟩ u).cell? ⟨j,1,ν⟩=μ b/\γ wc (ζ W ⟨n,k,ν⟩ u) (μ n):=
 ⟨(mn (w:=W) (dK _ _ _ _ d)).trans h.1,(mn (w:=W) (dK _ _ _ _ c)).trans h.2.1,(mn (w:=W) (dK _ _ _ _ c)).trans h.2.2.1,aM h.2.2.2 _ _ (ψ rfl)⟩
def bq.ah{sb:Nat}(h:bq w a n k Y)(d:∀z,a=μ z->z.block≠sb)(so:Nat)(v:υ):bq (ζ w ⟨sb,so,ν⟩ v) a n k Y:=by
 obtain⟨e,f,g,i,c⟩:=h;refine⟨e,f,g,i,?_⟩
 obtain c|⟨b,o,rfl,c⟩:=c
 exact φ c;exact ψ ⟨b,o,rfl,λj u l=>(mn (w:=w) (a:=⟨b,o+j,ν⟩) (dK _ _ _ _ (d _ rfl))).trans (c j u l)⟩
def zj(w a:ω)(sb so:Nat)(v:υ):Prop:=
 γ w a (μ sb)/\∀cs t,w.heap[sb]?=μ (ο cs t (0,0))->a.heap[sb]?=μ (ο (cs.setIfInBounds so v) t (0,0))
def p8(w d:ω)(sb so:Nat)(a:Option Addr)(q:List Rg->Prop):Prop:=
 ∃b e f c,zj w d sb so (σ b e f)/\bq d b e f c/\(b=a\/∀y,b=μ y->w.heap.size<=y.block)/\aU c/\q c
def uL(w d:ω)(sb so:Nat)(a:Option Addr)(n cap:Nat)(l:List Rg)(q:List Rg->Prop):Prop:=
 ∃b e f c,zj w d sb so (σ b e f)/\bq d b e f c/\((b=a/\e=n/\f=cap/\c=l)\/∀y,b=μ y->w.heap.size<=y.block/\y.block<d.heap.size)/\aU c/\q c
def uL.set{w:ω}{q:List Rg->Prop}(h:uL w W k i a n j Y q):p8 w W k i a q:=by
 obtain⟨b,c,d,e,f,g,l,m⟩:=h;exact⟨b,c,d,e,f,g,l.imp (λh=>h.1) (λh y p=>(h y p).1),m⟩
def zk(w f:ω)(sb so:Nat)(a:Option Addr)(n cap:Nat)(l:List Rg)(q:List Rg->Prop):Prop:=
 ∃c d e b,zj w f sb so (σ c d e)/\bq f c d e b/\((c=a/\d=n/\e=cap/\b=l)\/dp f w.heap.size (σ c d e) b)/\aU b/\q b
def zk.to{q:List Rg->Prop}(h:zk w W k i a n j Y q):uL w W k i a n j Y q:=by
 obtain⟨b,c,d,e,f,g,l,m⟩:=h;refine⟨b,c,d,e,f,g,l.imp id (λh y p=>?_),m⟩
 subst p;exact h.lt y.block rfl
def BW(w:ω)(sb so:Nat)(cs:Array υ)(t:TypeId)(a:Option Addr)(n cap:Nat)(l:List Rg)(x:Rg)(N:w.heap[sb]?=μ (ο cs t (0,0)))(O:cs[so]?=μ (σ a n cap))(hs:bq w a n cap l)(ee:∀y,a=μ y->y.block≠sb)(r:aU l)(P:x.ok)(hn:n<=1000000):
 Calls prog 215 #[π (μ ⟨sb,so,ν⟩),ε #[ι η x.lo,ι η x.hi]] w λe C=>e=ξ (τ #[])/\zk w C sb so a n cap l (λl'=>l'.length<=l.length+1/\∀m,Sm l' m↔Sm l m\/(x.lo<=m/\m<x.hi)):=by
 obtain⟨c,d⟩:=x;have Q:κ w ⟨sb,so,ν⟩=μ (σ a n cap):=by simp[World.cell?,N,O]
 by_cases he:d<=c
 ·have hd:decide (d<=c)=ρ:=eT he;go_enter func215,ntmps215;go_wp2_with fail;apply(xj ⟨c,d⟩ _).mono;rintro e f⟨rfl,R⟩;have S:decide ((⟨c,d⟩:Rg).hi<=(⟨c,d⟩:Rg).lo)=ρ:=hd;rw[S];have A:γ w f ν:=aq (aJ _ _ _) R;replace⟨hs,r⟩:=bD hs r;go_wp2_with fail;refine df (fe rfl _ _ _) rfl ⟨rfl,a,n,cap,l,⟨dy A _,λb0 t' h=>?_⟩,(Z hs).au A,φ ⟨rfl,rfl,rfl,rfl⟩,Z r,by omega,λm=>⟨λh=>φ h,λh=>h.elim id (λh=>by omega)⟩⟩;rw[bE h A];obtain⟨rfl,rfl⟩:b0=cs/\t'=t:=by rw[N]at h;cases h;exact⟨rfl,rfl⟩
  congr 2;obtain⟨h1,h2⟩:=bg.1 O;rw[Array.setIfInBounds,dif_pos h1,<-h2,Array.set_getElem_self]
 have hd:decide (d<=c)=θ:=fc he;go_enter func215,ntmps215;go_wp2_with fail;apply(xj ⟨c,d⟩ _).mono;rintro e f⟨rfl,R⟩;have S:decide ((⟨c,d⟩:Rg).hi<=(⟨c,d⟩:Rg).lo)=θ:=hd;rw[S];have A:γ w f ν:=aq (aJ _ _ _) R;have cx:=gC_ A Q;have T:f.heap[w.heap.size]?=μ (ο #[ι η c,ι η d] 341 (0,0)):=(R.block w.heap.size (by simp) (by simp)).trans (aO _ _);have x0:κ f ⟨w.heap.size,0,ν⟩=μ (ι η c):=by simp[World.cell?,T]
 have x1:κ f ⟨w.heap.size,1,ν⟩=μ (ι η d):=by simp[World.cell?,T]
 have ei:=(bg.1 T).1;obtain⟨H,aC⟩:=exq (f.alloc (ο #[σ a n cap] 227));have I:γ f H ν:=by rw[aC];exact aJ _ _ _
 have b3:H.heap[f.heap.size]?=μ (ο #[σ a n cap] 227 (0,0)):=by rw[aC];exact aO _ _
 have K:p7 H f.heap.size w.heap.size a n cap l ⟨c,d⟩:=⟨by simp[World.cell?,b3],gC_ I x0,gC_ I x1,hs.au (aq A I),P⟩
 have B:n=l.length:=hs.2.1;have b4:=J (xd n 249 #[π (μ ⟨f.heap.size,0,ν⟩),π (μ ⟨w.heap.size,0,ν⟩)] H (λk=>c<=(ao l k).hi) (by omega) (λi j D hj hp=>by
  obtain h|rfl:=sJ D
  have:=r.lt h (by omega);have:=r.pos (i:=j) (by omega);show c<=_;omega
  ·exact hp) (λ_ _=>by kernel_rfl) (λW h g hh=>Hi W _ _ h n cap a l ⟨c,d⟩ (K.au g) hh))
 have b5:=J (λW(gW:γ H W ν)=>xd n 250 #[π (μ ⟨f.heap.size,0,ν⟩),π (μ ⟨w.heap.size,0,ν⟩)] W (λk=>d<(ao l k).lo) (by omega) (λi j D hj hp=>by
  obtain h|rfl:=sJ D
  have:=r.lt h (by omega);have:=r.pos (i:=i) (by omega);show d<_;omega
  ·exact hp) (λ_ _=>by kernel_rfl) (λW' h g hh=>Hj W' _ _ h n cap a l ⟨c,d⟩ (K.au (aq gW g)) hh))
 clear hd S;replace⟨B,K,r,hs⟩:=fE B K r hs;go_wp2_with fail;rw[<-aC];apply(Z b4).mono;rintro e w3⟨⟨i,rfl,a0⟩,s⟩;have a8:=(Z K).au s;have cy:=a8.1;clear b4;go_wp2_with fail;apply(Z b5 _ s).mono;rintro e E⟨⟨j,rfl,a9⟩,U⟩;have b6:=a8.au U;obtain⟨k1,k2,k3,k4,-⟩:=id b6;have b7:γ w E ν:=aq A (aq I (aq s U));have cC:=gC_ b7 Q;have c9:i<=n:=a0.1;have db:j<=n:=a9.1;have V:mz l.length i (λk=>c<=(ao l k).hi):=by rw[<-Z B];exact a0
 have X:mz l.length j (λk=>d<(ao l k).lo):=by rw[<-Z B];exact a9
 have L:E.heap[w.heap.size]?=μ (ο #[ι η c,ι η d] 341 (0,0)):=bE T (aq I (aq s U));have bb:E.heap[f.heap.size]?=μ (ο #[σ a n cap] 227 (0,0)):=bE b3 (aq s U);have bj:=J (GY (Z r) (x:=⟨c,d⟩) (show c<d by omega) V X);have de:i<=j:=GX (Z r) (show c<d by omega) V X;have dg:Hid ((l.take i).length+((l.drop j).length+1)<=l.length+1):=J (by rw[ct,dO];have:=V.1;have:=X.1;omega);clear b5 a8 cy x0 x1 cx a0 a9 V X de;have ej:n<=cap:=(Z hs).2.2.1;have dk:=(Z hs).2.2.2.1;unfold maxLen at dk;obtain⟨y,F⟩:∃y:Rg,y=(if i<j then⟨min c (ao l i).lo,max d (ao l (j-1)).hi⟩else⟨c,d⟩):=⟨_,rfl⟩
 have b8:wX l ⟨c,d⟩ i j=l.take i++(y::l.drop j):=by rw[F];rfl
 rw[b8]at bj;clear b8;replace F:=J F;go_upto_if 22 with fail;go_cut [] (λwx=>wx.heap[w.heap.size]?=μ (ο #[ι η y.lo,ι η y.hi] 341 (0,0))/\γ E wx (μ w.heap.size));case first=>
  by_cases D:i<j
  ·obtain⟨b,o,rfl⟩:∃b o,a=μ ⟨b,o,ν⟩:=by
    obtain⟨-,-,-,-,h0|⟨b,o,rfl,-⟩⟩:=Z hs;omega;exact⟨b,o,rfl⟩
   obtain⟨y0,-⟩:=k4.cell i (by have:=Z B;omega);obtain⟨-,y1⟩:=k4.cell (j-1) (by have:=Z B;omega);obtain⟨p,hp⟩:=exq ((ao l i).lo);obtain⟨q,Y⟩:=exq ((ao l (j-1)).hi);rw[<-hp]at y0;rw[<-Y]at y1;have br:Hid (y=⟨min c p,max d q⟩):=J (by rw[Z F,aG D,<-hp,<-Y]);have d1:decide ((i:Int)<j)=ρ:=dT_;have e1:(j:Int)-1=((j-1:Nat):Int):=by omega
   have e2:IntKind.i64.wrap ((j:Int)-1)=((j-1:Nat):Int):=by simp[IntKind.wrap,IntKind.bits,IntKind.signed];omega
   have i1:(i:Int)<n:=by omega
   have i2:((j-1:Nat):Int)<(n:Int):=by omega
   replace⟨hp,Y⟩:=bD hp Y;have f0:χ E ⟨w.heap.size,0,ν⟩=θ:=fZ_ L;have f1:χ E ⟨w.heap.size,1,ν⟩=θ:=fZ_ L;go_wp2_with fail;go_region;all_goals go_wp2_with fail
   all_goals go_meet
   all_goals
    refine⟨Eq.trans (heap_set (heap_set L _) _) ?_,aY (aM (aM (aD _ _) _ _ (ψ rfl)) _ _ (ψ rfl))⟩
    rw[Z br]
    simp
    omega
  have d1:decide ((i:Int)<j)=θ:=dF_;have br:y=⟨c,d⟩:=by rw[Z F,aB D]
  go_wp2;go_meet;rw[br];exact⟨L,aD _ _⟩
 case rest=>
  obtain⟨ca,gc⟩:=hcut;have bt:γ w wc ν:=qK (cT (dy b7 (μ w.heap.size)) gc (λj e=>ψ rfl)) (aP _);have bx:bq wc a n cap l:=(Z hs).au bt;have ch:wc.heap[f.heap.size]?=μ (ο #[σ a n cap] 227 (0,0)):=(gc.block _ (bg.1 bb).1 (by simp;omega)).trans bb;have c1:κ wc ⟨f.heap.size,0,ν⟩=μ (σ a n cap):=by simp[World.cell?,ch]
  have c2:κ wc ⟨w.heap.size,0,ν⟩=μ (ι η y.lo):=by simp[World.cell?,ca]
  have c3:κ wc ⟨w.heap.size,1,ν⟩=μ (ι η y.hi):=by simp[World.cell?,ca]
  have c4:=gC_ bt Q;have dn:y.ok:=by
   rw[Z F];split;have a1:=P.1;have a2:=P.2;have a3:=(pF (Z hs).1 i).1;have a4:=(pF (Z hs).1 (j-1)).2;simp only[Rg.ok,aW]at a1 a2 a3 a4⊢;omega;exact P
  clear k1 k2 k3 k4 cC L bb b6;obtain⟨a2,al⟩:=exq ((if cap=j then a else a.map (·.add (j*2))));have ek:∀W,(Instr.slice 227 (σ a n cap) ν (μ (ι δ i)) (μ (ι δ i))).run prog W=.ok (σ a i i) W:=λW=>BT a n cap i (by omega) W
  have eo:∀W,(Instr.slice 227 (σ a n cap) (μ (ι δ j)) ν ν).run prog W=.ok (σ a2 (n-j) (cap-j)) W:=λW=>by rw[al];exact BU a n cap j (by omega) W
  have ds:=J (bx.front i c9);have dx:=J (bx.back (O:=a2) j db (by
   obtain⟨-,-,-,-,h0|⟨b,o,rfl,-⟩⟩:=bx;left;omega
   ·by_cases O:cap=j;left;omega
    ·right;rw[al,aB O];exact⟨b,o,rfl,by simp only[sN,Addr.add_mid]⟩))
  have dE:Hid ((l.take i++[y]).length+(l.drop j).length<=100000000):=J (by have:=Z B;simp;omega);have v:γ wc (wc.alloc (ο #[ι η y.lo,ι η y.hi] 341)).drew ν:=aY (aJ _ _ _);have et:=(bg.1 N).1;have eu:f.heap.size<wc.heap.size:=(bg.1 ch).1;have ew:w.heap.size<wc.heap.size:=by omega
  have bz:κ wc ⟨f.heap.size,0,ν⟩=μ (σ a n cap)/\κ wc ⟨w.heap.size,0,ν⟩=μ (ι η y.lo)/\κ wc ⟨w.heap.size,1,ν⟩=μ (ι η y.hi)/\γ wc wc (μ sb):=⟨c1,c2,c3,aD _ _⟩
  have dG:=zi bz (aY (aD wc ν));have cj:=zi bz v;have bM:(wc.alloc (ο #[ι η y.lo,ι η y.hi] 341)).drew.heap[wc.heap.size]?=μ (ο #[ι η y.lo,ι η y.hi] 341 (0,0)):=aO wc _;have q0:(wc.alloc (ο #[ι η y.lo,ι η y.hi] 341)).drew.cell? ⟨wc.heap.size,0,ν⟩=μ (ι η y.lo):=by simp only[World.cell?,bM];rfl
  have M:(wc.alloc (ο #[ι η y.lo,ι η y.hi] 341)).drew.cell? ⟨wc.heap.size,0+1,ν⟩=μ (ι η y.hi):=by simp only[World.cell?,bM];rfl
  replace al:=J al;clear bM bz;replace⟨q0,M⟩:=bD q0 M;clear c1 c2 c3;go_wp2_with fail;go_region_held3 (λC=>κ C ⟨f.heap.size,0,ν⟩=μ (σ a n cap)/\κ C ⟨w.heap.size,0,ν⟩=μ (ι η y.lo)/\κ C ⟨w.heap.size,1,ν⟩=μ (ι η y.hi)/\γ wc C (μ sb))
   (with_reducible first|exact ea|exact cv|exact cw|exact cj|exact dG)
   (first
     |(refine Ho (by rfl) _ _ (by rfl) _ i (l.take i) (by rfl) ((Z ds).au v) wc.heap.size 0 1 y dn (by rfl) (Z q0) (Z M) (by omega) ?_;intro a3 n3 c3 w3 o3 s;have cw:=zi cj s)
     |(refine Hp (by rfl) _ _ (by rfl) (wc.alloc (ο #[ι η y.lo,ι η y.hi] 341)).drew.heap.size _ (l.take i++[y]) (by rfl) o3 _ _ _ (l.drop j) (by rfl) ((Z dx).au (aq v s)) (Z dE) s.size ?_;intro a5 n5 c5 w5 o5 g5;have cv:=Hv cw o3 v.size (by show f.heap.size<_;have:=v.size;omega) (by show w.heap.size<_;have:=v.size;omega) g5;have ax:γ w w5 ν:=(aq bt (BV (aq v s) o3 v.size g5));have ey:=gC_ ax Q;have f5:χ w5 ⟨sb,so,ν⟩=θ:=(by simp[World.frozen?,bE N ax]);have ea:=Hw (k:=so) (u:=σ a5 n5 c5) cv (by omega) (by omega)))
  refine gD (fe rfl _ _ _) rfl ⟨rfl,a5,n5,c5,l.take i++y::l.drop j,⟨aM (dy ax _) _ _ (ψ rfl),λb0 t' h=>heap_set (bE h ax) _⟩,?_,ψ ?_,(Z bj).1,by rw[bF,cS];exact Z dg,(Z bj).2⟩;have G:=o5.nN.1;rw[fm,List.singleton_append]at G;refine G.ah (λz hz=>?_) so _;have:=o5.nN.2 z hz;have:=v.size;omega;have h2:=v.size;have G:=o5.gb (aM (aD w5 (μ sb)) ⟨sb,so,ν⟩ (σ a5 n5 c5) (ψ rfl)) (ψ (λe=>by have:=(o5.lt _ e).1;omega));rw[fm,List.singleton_append]at G;refine⟨G.1,?_⟩
  obtain⟨e1,e2⟩:=G.2;refine⟨e1,?_⟩
  obtain e2|⟨g,cp,cur,M,q2,q3⟩:=e2
  exact φ e2;exact ψ ⟨g,cp,cur,M,by omega,q3⟩
def zl(w:ω)(sb so:Nat)(cs:Array υ)(t:TypeId)(a:Option Addr)(n cap:Nat)(l:List Rg)(x:Rg)(c:w.heap[sb]?=μ (ο cs t (0,0)))(d:cs[so]?=μ (σ a n cap))(hs:bq w a n cap l)(f:∀y,a=μ y->y.block≠sb)(g:aU l)(i:x.ok)(j:n<=1000000):
 Calls prog 215 #[π (μ ⟨sb,so,ν⟩),ε #[ι η x.lo,ι η x.hi]] w λe k=>e=ξ (τ #[])/\uL w k sb so a n cap l (λb=>b.length<=l.length+1/\∀m,Sm b m↔Sm l m\/(x.lo<=m/\m<x.hi)):=
 (BW w sb so cs t a n cap l x c d hs f g i j).mono (λ_ _ h=>⟨h.1,h.2.to⟩)
def Hy(w:ω)(sb so:Nat)(cs:Array υ)(t:TypeId)(a:Option Addr)(n cap:Nat)(l:List Rg)(x:Rg)(c:w.heap[sb]?=μ (ο cs t (0,0)))(d:cs[so]?=μ (σ a n cap))(hs:bq w a n cap l)(f:∀y,a=μ y->y.block≠sb)(g:aU l)(i:x.ok)(j:n<=1000000):
 Calls prog 215 #[π (μ ⟨sb,so,ν⟩),ε #[ι η x.lo,ι η x.hi]] w λe k=>e=ξ (τ #[])/\p8 w k sb so a (λb=>b.length<=l.length+1/\∀m,Sm b m↔Sm l m\/(x.lo<=m/\m<x.hi)):=
 (zl w sb so cs t a n cap l x c d hs f g i j).mono (λ_ _ h=>⟨h.1,h.2.set⟩)
def xm{x:Rg}(h:x.hi<=x.lo)(w:ω):Calls prog 244 #[ε #[ι η x.lo,ι η x.hi]] w λe a=>e=ξ (β ρ)/\γ w a ν:=
 (xj x w).mono λe a ⟨b,c⟩=>⟨by rw[b,eT h],c⟩
def xp{x:Rg}(h:¬x.hi<=x.lo)(w:ω):Calls prog 244 #[ε #[ι η x.lo,ι η x.hi]] w λe a=>e=ξ (β θ)/\γ w a ν:=
 (xj x w).mono λe a ⟨b,c⟩=>⟨by rw[b,fc h],c⟩
def p8.same{q:List Rg->Prop}(b:w.heap[k]?=μ (ο c T (0,0)))(d:c[i]?=μ (σ a n j))(hs:bq w a n j Y)(e:aU Y)(g:γ w W ν)(f:q Y):p8 w W k i a q:=by
 refine⟨a,n,j,Y,⟨dy g _,λl m h=>?_⟩,hs.au g,φ rfl,e,f⟩
 rw[bE h g];obtain⟨rfl,rfl⟩:l=c/\m=T:=by rw[b]at h;cases h;exact⟨rfl,rfl⟩
 congr 2;obtain⟨p,r⟩:=bg.1 d;rw[Array.setIfInBounds,dif_pos p,<-r,Array.set_getElem_self]
def dp.mono(h:dp w n x Y)(e:k<=n):dp w k x Y:=by
 obtain⟨b,c,a⟩:=h;refine⟨b,c,?_⟩
 obtain a|⟨g,cap,cur,e1,e2,d⟩:=a
 exact φ a;exact ψ ⟨g,cap,cur,e1,by omega,d⟩
def Kept.au(h:Kept w k a x Y)(g:γ w W ν):Kept W k a x Y:=by
 obtain⟨n,rfl,h⟩|h:=h
 exact φ ⟨n,rfl,h.au g⟩;exact ψ (h.au g)
def BX{z:Array Oper}{rest:List Oper}(A:U.guard=ν)(s x:Operand)
 (ho:U.op=.call {callee:=.builtin .append,args:= #[s,x],argTypes:= #[227,227]})
 (m:ω) (q:Option Addr) (v:υ) (l:List Rg) (hs:H.eval s=v) (F:Kept w m.heap.size q v l) (p:γ m w ν) (b f c:Nat) (r:Rg) (B:r.ok) (C:H.eval x=σ (μ ⟨b,f,ν⟩) 1 c) (h0:κ w ⟨b,f,ν⟩=μ (ι η r.lo)) (D:κ w ⟨b,f+1,ν⟩=μ (ι η r.hi)) (L:l.length<=2000000) (G:1<=c) (M:c<=10)
 (h:∀e i k a,Kept a m.heap.size q (σ e i k) (l++[r])->γ m a ν->wpList prog z u rest (H.put U.dst (σ e i k)) a):wpList prog z u (U::rest) H w:=by
 obtain⟨n,rfl,hl⟩|E:=F
 have N:n=l.length:=hl.2.1;exact Hs A s x ho q n l hs hl b f c r B C h0 D (by omega) (λe i k a t g=>h e i k a (ψ (t.mono p.size)) (aq p g));have I:bq w (μ ⟨b,f,ν⟩) 1 c [r]:=by
  refine⟨λy K=>by rw[cA.1 K];exact B,rfl,G,by simp only[maxLen];omega,ψ ⟨b,f,rfl,λj O d=>?_⟩⟩
  match j,d with
  |0,d=>simp[cF]at d;rw[<-d];exact h0
  |1,d=>simp[cF]at d;rw[<-d];exact D
 exact Ht A s x ho m.heap.size v l hs E (μ ⟨b,f,ν⟩) 1 c [r] C I (by simp;omega) p.size (λe i k a t g=>h e i k a (ψ t) (BV p E (aP _) g))
def Hz(p r s q:υ)(W:ω):(Instr.index 410 (ε #[p,r,s,q]) (ι δ 0)).run prog W=.ok (ε #[p,r]) W:=by kernel_rfl
def HB(p r s q:υ)(W:ω):(Instr.index 410 (ε #[p,r,s,q]) (ι δ 1)).run prog W=.ok (ε #[s,q]) W:=by kernel_rfl
def HC{j:Array Oper}{rest:List Oper}(n:U.guard=ν)(s x:Operand)
 (ho:U.op=.call {callee:=.builtin .append,args:= #[s,x],argTypes:= #[227,227]})
 (b:Nat) (f:Option Addr) (v:υ) (l:List Rg) (hs:H.eval s=v) (p:Kept w b f v l) (g:Option Addr) (nx i:Nat) (m:List Rg) (q:H.eval x=σ g nx i) (t:bq w g nx i m) (z:l.length+m.length<=100000000) (A:b<=w.heap.size)
 (h:∀a d e c,bq c a d e (l++m)->(a=f\/∀y,a=μ y->b<=y.block)->(∃r,γ w c r/\∀k,r=μ k->b<=k)->wpList prog j u rest (H.put U.dst (σ a d e)) c):wpList prog j u (U::rest) H w:=
 uy n λ_ B=>by
  obtain⟨a,d,e,c,C,D,E,F⟩:=Hu (w:=w) U.type b f v l p g nx i m t z A;unfold Oper.wp execOp;simp only[ho,resolve,invoke,builtin,ka,mX,jh,oF,kM,nI,hs,q,C]
  exact B _ _ (h a d e c D E F)
def iz(p a b q:Int):Nat->List Rg
 |0=>[]
 |1=>if p<a then[⟨p,a⟩]else[]
 |_=>(if p<a then[⟨p,a⟩]else[])++(if b<q then[⟨b,q⟩]else[])
def xq(p a b q:Int)(c:Nat):(iz p a b q c).length<=2:=by
 unfold iz;split;simp;split<;>simp;split<;>split<;>simp
def BY(w:ω)(sb so:Nat)(cs:Array υ)(t:TypeId)(a:Option Addr)(n cap:Nat)(l:List Rg)(x:Rg)(S:w.heap[sb]?=μ (ο cs t (0,0)))(T:cs[so]?=μ (σ a n cap))(hs:bq w a n cap l)(a8:l≠[]->∀y,a=μ y->y.block≠sb)(C:aU l)(hx:x.ok)(hn:n<=1000000):
 Calls prog 281 #[π (μ ⟨sb,so,ν⟩),ε #[ι η x.lo,ι η x.hi]] w λe w'=>e=ξ (τ #[])/\p8 w w' sb so a (λl'=>l'.length<=l.length+1/\∀m,Sm l' m↔Sm l m/\¬(x.lo<=m/\m<x.hi)):=by
 obtain⟨d,f⟩:=x;have b7:κ w ⟨sb,so,ν⟩=μ (σ a n cap):=by simp[World.cell?,S,T]
 obtain⟨D,U⟩:=exq (w.alloc (ο #[ι η d,ι η f] 341));have bM:γ w D ν:=by rw[U];exact aJ _ _ _
 have b0:D.heap[w.heap.size]?=μ (ο #[ι η d,ι η f] 341 (0,0)):=by rw[U];exact aO _ _
 have b8:D.heap.size=w.heap.size+1:=by rw[U];simp
 have x0:κ D ⟨w.heap.size,0,ν⟩=μ (ι η d):=by simp[World.cell?,b0]
 have x1:κ D ⟨w.heap.size,1,ν⟩=μ (ι η f):=by simp[World.cell?,b0]
 obtain⟨V,al⟩:=exq (D.alloc (ο #[σ a n cap] 227));have g2:γ D V ν:=by rw[al];exact aJ _ _ _
 have b3:V.heap[D.heap.size]?=μ (ο #[σ a n cap] 227 (0,0)):=by rw[al];exact aO _ _
 have Q:p7 V D.heap.size w.heap.size a n cap l ⟨d,f⟩:=⟨by simp[World.cell?,b3],gC_ g2 x0,gC_ g2 x1,hs.au (aq bM g2),hx⟩
 rw[b8]at Q b3;have F:n=l.length:=hs.2.1;have b4:=J (xd n 297 #[π (μ ⟨w.heap.size+1,0,ν⟩),π (μ ⟨w.heap.size,0,ν⟩)] V (λk=>d<(ao l k).hi) (by omega) (λi j X hj hp=>by
  obtain h|rfl:=sJ X
  have:=C.lt h (by omega);have:=C.pos (i:=j) (by omega);show d<_;omega
  ·exact hp) (λ_ _=>by kernel_rfl) (λW h g hh=>Hk W _ _ h n cap a l ⟨d,f⟩ (Q.au g) hh))
 have b5:=J (λW(gW:γ V W ν)=>xd n 298 #[π (μ ⟨w.heap.size+1,0,ν⟩),π (μ ⟨w.heap.size,0,ν⟩)] W (λk=>f<=(ao l k).lo) (by omega) (λi j X hj hp=>by
  obtain h|rfl:=sJ X
  have:=C.lt h (by omega);have:=C.pos (i:=i) (by omega);show f<=_;omega
  ·exact hp) (λ_ _=>by kernel_rfl) (λW' h g hh=>Hl W' _ _ h n cap a l ⟨d,f⟩ (Q.au (aq gW g)) hh))
 have ds:sb<w.heap.size:=(bg.1 S).1;replace⟨F,Q,C,hs⟩:=fE F Q C hs;rw[U]at al;clear U x0 x1;go_enter func281,ntmps281;go_wp2_with fail;rw[<-al];apply(Z b4).mono;rintro e w3⟨⟨i,rfl,a9⟩,g3⟩;have bb:=(Z Q).au g3;have ca:=bb.1;clear b4;go_wp2_with fail;apply(Z b5 _ g3).mono;rintro e w4⟨⟨j,rfl,bj⟩,g4⟩;have R:=bb.au g4;obtain⟨k1,k2,k3,k4,-⟩:=id R;have br:γ w w4 ν:=aq bM (aq g2 (aq g3 g4));have ch:i<=n:=a9.1;have cj:j<=n:=bj.1;have ax:mz l.length i (λk=>d<(ao l k).hi):=by rw[<-Z F];exact a9
 have aC:mz l.length j (λk=>f<=(ao l k).lo):=by rw[<-Z F];exact bj
 have dx:n<=cap:=(Z hs).2.2.1;have cp:=(Z hs).2.2.2.1;unfold maxLen at cp;clear b5 bb ca;by_cases he:f<=d
 ·have hE:=J (λW=>xm (x:=⟨d,f⟩) he W);go_wp2_with fail;apply(Z hE _).mono;rintro e I⟨rfl,G⟩;go_wp2_with fail;exact df (fe rfl _ _ _) rfl ⟨rfl,p8.same S T (Z hs) (Z C) (aq br G) ⟨by omega,λm=>⟨λh=>⟨h,by omega⟩,λh=>h.1⟩⟩⟩
 have hE:=J (λW=>xp (x:=⟨d,f⟩) he W);by_cases X:i<j
 ·replace a8:=a8 (λe=>by have:=Z F;rw[e]at this;simp at this;omega);have cw:decide ((j:Int)<=i)=θ:=dF_;have dE:decide (j<=i)=θ:=dF_;have hcut:=J (G7 (Z C) (x:=⟨d,f⟩) (show d<f by omega) X ax aC);have cx:Hid ((l.take i).length+(l.drop j).length+1<=l.length):=J (by rw[ct,dO];have:=ax.1;have:=aC.1;omega);clear a9 bj ax aC;obtain⟨b,o,rfl⟩:∃b o,a=μ ⟨b,o,ν⟩:=by
   obtain⟨-,-,-,-,h0|⟨b,o,rfl,-⟩⟩:=Z hs;omega;exact⟨b,o,rfl⟩
  go_wp2_with fail;apply(Z hE _).mono;rintro e I⟨rfl,G⟩;have a0:=aq br G;obtain⟨k1,k2,k3,k4,-⟩:=R.au G;obtain⟨y0,-⟩:=k4.cell i (by have:=Z F;omega);obtain⟨-,y1⟩:=k4.cell (j-1) (by have:=Z F;omega);have o0:=pF (Z hs).1 i;have o1:=pF (Z hs).1 (j-1);unfold wY at hcut;obtain⟨p,hp⟩:=exq ((ao l i).lo);obtain⟨q,hq⟩:=exq ((ao l (j-1)).hi);rw[<-hp]at y0 hcut;rw[<-hq]at y1 hcut;replace o0:aW p:=by rw[hp];exact o0.1
  replace o1:aW q:=by rw[hq];exact o1.2
  clear hp hq;have e1:(j:Int)-1=((j-1:Nat):Int):=by omega
  have e2:IntKind.i64.wrap ((j:Int)-1)=((j-1:Nat):Int):=by simp[IntKind.wrap,IntKind.bits,IntKind.signed];omega
  have i1:(i:Int)<n:=by omega
  have i2:((j-1:Nat):Int)<(n:Int):=by omega
  have dG:∀W,(Instr.slice 227 (σ (μ ⟨b,o,ν⟩) n cap) ν (μ (ι δ i)) (μ (ι δ i))).run prog W=.ok (σ (μ ⟨b,o,ν⟩) i i) W:=λW=>BT _ n cap i (by omega) W
  replace⟨o0,o1⟩:=bD o0 o1;go_wp2_with fail;go_quiet (fail);go_wp2_with fail;have cy:=(R.au G).2.2.2.1.front i ch;have ea:l.length<=1000000:=by have:=Z F;omega
  replace R:=J R;clear k1 k2 k3 k4 y0 y1;go_loopw [7,50] (λv cv wr=>∃c:Nat,c<=2/\cv=ι δ c/\Kept wr I.heap.size (μ ⟨b,o,ν⟩) v (l.take i++iz p d f q c)/\γ I wr ν) (λ_ cv _=>2-(intOf cv).toNat);case atStart=>exact⟨0,by omega,rfl,φ ⟨i,rfl,by rw[show iz p d f q 0=[]from rfl,mW];exact cy.au (dv (aD _ _) _)⟩,dv (aD _ _) _⟩
  case round=>
   obtain⟨c,cC,rfl,A,K⟩:=hrel;have c9:=Hz (ι η p) (ι η d) (ι η f) (ι η q);have db:=HB (ι η p) (ι η d) (ι η f) (ι η q);match c,cC with
   |0,_=>
    by_cases hp:p<d
    ·have L:=J (λW=>xp (x:=⟨p,d⟩) (show¬d<=p by omega) W);have u:iz p d f q 1=iz p d f q 0++[⟨p,d⟩]:=by simp[iz,hp]
     replace u:=J u;go_wp2_with fail;apply(Z L _).mono;rintro e s⟨rfl,E⟩;have B:γ wr s ν:=aq (aJ _ _ _) E;have M:s.heap[wr.heap.size]?=μ (ο #[ι η p,ι η d] 341 (0,0)):=(E.block wr.heap.size (by simp) (by simp)).trans (aO _ _);have r0:κ s ⟨wr.heap.size,0,ν⟩=μ (ι η p):=by simp[World.cell?,M]
     have r1:κ s ⟨wr.heap.size,1,ν⟩=μ (ι η d):=by simp[World.cell?,M]
     have N:=aJ s (ο #[ι η p,ι η d] 341) ν;have bt:=J (A.au (aq B N));have bx:=J (aq K (aq B N));have O:(s.alloc (ο #[ι η p,ι η d] 341)).heap[s.heap.size]?=μ (ο #[ι η p,ι η d] 341 (0,0)):=aO s _;have s0:Hid ((s.alloc (ο #[ι η p,ι η d] 341)).cell? ⟨s.heap.size,0,ν⟩=μ (ι η p)):=J (by simp only[World.cell?,O];rfl);have s1:Hid ((s.alloc (ο #[ι η p,ι η d] 341)).cell? ⟨s.heap.size,0+1,ν⟩=μ (ι η d)):=J (by simp only[World.cell?,O];rfl);have bz:Hid ((⟨p,d⟩:Rg).ok):=J ⟨Z o0,hx.1⟩;have Y:Hid ((l.take i++iz p d f q 0).length<=2000000):=J (by have:=xq p d f q 0;simp;omega);clear M N O;go_wp2_with (at_builtin;refine BX (by rfl) _ _ (by rfl) I (μ ⟨b,o,ν⟩) _ (l.take i++iz p d f q 0) (by rfl) (Z bt) (Z bx) s.heap.size 0 1 ⟨p,d⟩ (Z bz) (by rfl) (Z s0) (Z s1) (Z Y) (by decide) (by decide) ?_;intro a7 n7 c7 w7 P H);go_roundw;case rel=>exact⟨1,by omega,rfl,by rw[Z u,<-fm];exact P,H⟩
     case measure=>simp[intOf]
    have L:=J (λW=>xm (x:=⟨p,d⟩) (show d<=p by omega) W);have u:iz p d f q 1=iz p d f q 0:=by simp[iz,hp]
    replace⟨u,A⟩:=bD u A;go_wp2_with fail;apply(Z L _).mono;rintro e s⟨rfl,E⟩;have B:γ wr s ν:=aq (aJ _ _ _) E;go_wp2;go_roundw;case rel=>exact⟨1,by omega,rfl,by rw[Z u];exact(Z A).au B,aq K B⟩
    case measure=>simp[intOf]
   |1,_=>
    by_cases hp:f<q
    ·have L:=J (λW=>xp (x:=⟨f,q⟩) (show¬q<=f by omega) W);have u:iz p d f q 2=iz p d f q 1++[⟨f,q⟩]:=by simp[iz,hp]
     replace u:=J u;go_wp2_with fail;apply(Z L _).mono;rintro e s⟨rfl,E⟩;have B:γ wr s ν:=aq (aJ _ _ _) E;have M:s.heap[wr.heap.size]?=μ (ο #[ι η f,ι η q] 341 (0,0)):=(E.block wr.heap.size (by simp) (by simp)).trans (aO _ _);have r0:κ s ⟨wr.heap.size,0,ν⟩=μ (ι η f):=by simp[World.cell?,M]
     have r1:κ s ⟨wr.heap.size,1,ν⟩=μ (ι η q):=by simp[World.cell?,M]
     have N:=aJ s (ο #[ι η f,ι η q] 341) ν;have bt:=J (A.au (aq B N));have bx:=J (aq K (aq B N));have O:(s.alloc (ο #[ι η f,ι η q] 341)).heap[s.heap.size]?=μ (ο #[ι η f,ι η q] 341 (0,0)):=aO s _;have s0:Hid ((s.alloc (ο #[ι η f,ι η q] 341)).cell? ⟨s.heap.size,0,ν⟩=μ (ι η f)):=J (by simp only[World.cell?,O];rfl);have s1:Hid ((s.alloc (ο #[ι η f,ι η q] 341)).cell? ⟨s.heap.size,0+1,ν⟩=μ (ι η q)):=J (by simp only[World.cell?,O];rfl);have bz:Hid ((⟨f,q⟩:Rg).ok):=J ⟨hx.2,Z o1⟩;have Y:Hid ((l.take i++iz p d f q 1).length<=2000000):=J (by have:=xq p d f q 1;simp;omega);clear M N O;go_wp2_with (at_builtin;refine BX (by rfl) _ _ (by rfl) I (μ ⟨b,o,ν⟩) _ (l.take i++iz p d f q 1) (by rfl) (Z bt) (Z bx) s.heap.size 0 1 ⟨f,q⟩ (Z bz) (by rfl) (Z s0) (Z s1) (Z Y) (by decide) (by decide) ?_;intro a7 n7 c7 w7 P H);go_roundw;case rel=>exact⟨2,by omega,rfl,by rw[Z u,<-fm];exact P,H⟩
     case measure=>simp[intOf]
    have L:=J (λW=>xm (x:=⟨f,q⟩) (show q<=f by omega) W);have u:iz p d f q 2=iz p d f q 1:=by simp[iz,hp]
    replace⟨u,A⟩:=bD u A;go_wp2_with fail;apply(Z L _).mono;rintro e s⟨rfl,E⟩;have B:γ wr s ν:=aq (aJ _ _ _) E;go_wp2;go_roundw;case rel=>exact⟨2,by omega,rfl,by rw[Z u];exact(Z A).au B,aq K B⟩
    case measure=>simp[intOf]
   |2,_=>
    clear c9 db;have a1:=(Z R).au (aq G K);have c1:=a1.1;obtain⟨a2,a3⟩:=exq ((if cap=j then μ (⟨b,o,ν⟩:Addr)else(μ (⟨b,o,ν⟩:Addr)).map (·.add (j*2))));have ee:∀W,(Instr.slice 227 (σ (μ ⟨b,o,ν⟩) n cap) (μ (ι δ j)) ν ν).run prog W=.ok (σ a2 (n-j) (cap-j)) W:=λW=>by rw[a3];exact BU _ n cap j (by omega) W
    have de:=J (a1.2.2.2.1.back (O:=a2) j cj (by
     by_cases T:cap=j;left;omega
     ·right;rw[a3,aB T];exact⟨b,o,rfl,by simp only[sN,Addr.add_mid]⟩))
    have Y:Hid ((l.take i++iz p d f q 2).length+(l.drop j).length<=100000000):=J (by have:=xq p d f q 2;simp;omega);have dg:=aq a0 K;have dk:=K.size;replace⟨a3,A,a1⟩:=cz a3 A a1;have b6:Hid (l.take i++iz p d f q 2++l.drop j=l.take i++((if p<d then[⟨p,d⟩]else[])++((if f<q then[⟨f,q⟩]else[])++l.drop j))):=J (by simp[iz]);go_wp2_with (at_builtin;refine HC (by rfl) _ _ (by rfl) I.heap.size (μ ⟨b,o,ν⟩) _ (l.take i++iz p d f q 2) (by rfl) (Z A) _ _ _ (l.drop j) (by rfl) (Z de) (Z Y) dk ?_;intro a7 n7 c7 w7 P f7 H;have a4:γ w w7 ν:=(by obtain⟨r7,H,h7⟩:=H;exact cT dg H (λk e=>φ (bK a0.size (h7 k e))));clear H;replace P:=J P;replace f7:=J f7;have ei:=gC_ a4 b7;have ej:χ w7 ⟨sb,so,ν⟩=θ:=(by simp[World.frozen?,bE S a4]));refine gD (fe rfl _ _ _) rfl ⟨rfl,a7,n7,c7,_,⟨aM (dy a4 _) _ _ (ψ rfl),λek t' h=>heap_set (bE h a4) _⟩,?_,?_,(Z hcut).1,?_,(Z hcut).2⟩;have h5:=Z P;rw[Z b6]at h5;refine h5.ah (λz hz=>?_) so _;obtain rfl|hf:=Z f7
    exact a8 z hz;have:=hf z hz;have:=a0.size;omega;obtain rfl|hf:=Z f7
    exact φ rfl;exact ψ (λz hz=>bK a0.size (hf z hz));rw[<-Z b6,bF,bF];have:=xq p d f q 2;have:=Z cx;omega
 have cw:decide ((j:Int)<=i)=ρ:=dT_;go_wp2_with fail;apply(Z hE _).mono;rintro e I⟨rfl,G⟩;go_wp2_with fail;refine df (fe rfl _ _ _) rfl ⟨rfl,p8.same S T (Z hs) (Z C) (aq br G) ⟨by omega,λm=>⟨λh=>⟨h,?_⟩,λh=>h.1⟩⟩⟩;obtain⟨r,hr,h1,h2⟩:=h;obtain⟨k,hk,rfl⟩:=j8.1 hr;have er:ao l k=l[k]:=by simp[ao,List.getD,hk]
 by_cases dn:k<i;have:¬d<(ao l k).hi:=ax.2.1 k dn;rw[er]at this;omega;have:f<=(ao l k).lo:=aC.2.2 k (by omega) hk;rw[er]at this;omega
def HE(a:Option Addr)(n cap f:Nat)(lb:Array υ)(l:List Rg)(w:ω)(p:Nat->Prop)(hs:bq w a n cap l)
 (eg:∀args w,(callFunc f args).run prog w=.ok (.enter f args) w)
 (s:∀(W:ω)(h:Nat),γ w W ν->h<n->Calls prog f (#[ε #[ι η (ao l h).lo,ι η (ao l h).hi]]++lb) W (λe F=>dU (p h) e/\γ W F ν)):
 Calls prog 286 #[σ a n cap,.func (.func f) #[] lb] w λe d=>(∃k:Int,e=ξ (ι δ k)/\((0<=k/\k<n)↔∃i,i<n/\p i)/\(k= -1\/0<=k/\k<n))/\γ w d ν:=by
 obtain⟨R,m⟩:∃R:Ending->Prop,R=λe=>∃k:Int,e=ξ (ι δ k)/\((0<=k/\k<n)↔∃i,i<n/\p i)/\(k= -1\/0<=k/\k<n):=⟨_,rfl⟩
 have u:∀k:Nat,k<n->p k->R (ξ (ι δ k)):=λk c v=>by rw[m];exact⟨k,rfl,⟨λ_=>⟨k,c,v⟩,λ_=>by omega⟩,ψ (by omega)⟩
 have x:(∀i,i<n->¬p i)->R (ξ (ι δ (-1))):=λh=>by rw[m];exact⟨-1,rfl,⟨λh=>by omega,λ⟨i,c,v⟩=>absurd v (h i c)⟩,φ rfl⟩
 have A:(λe d=>(∃k:Int,e=ξ (ι δ k)/\((0<=k/\k<n)↔∃i,i<n/\p i)/\(k= -1\/0<=k/\k<n))/\γ w d ν)=λe d=>R e/\γ w d ν:=by rw[m]
 rw[A];clear A m;have y:=hs.2.1;have L:=hs.2.2.1;have G:=hs.2.2.2.1;unfold maxLen at G;replace⟨y,u,x,s⟩:=fE y u x s;go_enter func286,ntmps286;go_wp2;go_loopw [8] (λz wr=>∃j:Nat,j<=n/\z=ι δ j/\(∀i,i<j->¬p i)/\γ w wr ν) (λz _=>n-(intOf z).toNat);case atStart=>exact⟨0,by omega,rfl,λi hi=>by omega,aD _ _⟩
 case round=>
  obtain⟨j,M,rfl,q,g⟩:=hrel;replace q:=J q;by_cases B:j<n
  ·have d1:decide ((j:Int)<n)=ρ:=dT_;have c:=hs.au g;obtain⟨-,-,-,-,h0|⟨b,o,rfl,-⟩⟩:=id c;omega;obtain⟨c1,c2⟩:=c.cell j (by have:=Z y;omega);have hF:=Z s wr j g B;obtain⟨lo,C⟩:=exq ((ao l j).lo);obtain⟨hi,D⟩:=exq ((ao l j).hi);rw[<-C]at c1 hF;rw[<-D]at c2 hF;replace hF:=J hF;clear C D;have N:(j:Int)<n:=by omega
   go_wp2_with fail;apply(Z hF).mono;rintro e O⟨⟨t,rfl,r⟩,E⟩;cases t
   ·have H:Hid (¬p j):=J (λhp=>by cases r.2 hp);clear r;go_wp2;go_roundw;case rel=>
     refine⟨j+1,by omega,by simp,λi I=>?_,aq g E⟩
     obtain h|rfl:=qC.1 I
     exact Z q i h;exact Z H
    case measure=>simp[intOf];omega
   have K:Hid (p j):=J (r.1 rfl);clear r;go_wp2;go_ret;exact⟨Z u j B (Z K),aq g E⟩
  have d1:decide ((j:Int)<n)=θ:=dF_;go_wp2;go_ret;exact⟨Z x (λi hi=>Z q i (by omega)),g⟩
def HG(W:ω)(d:Nat)(y x:Rg)(h0:κ W ⟨d,0,ν⟩=μ (ι η x.lo))(l:κ W ⟨d,1,ν⟩=μ (ι η x.hi)):
 Calls prog 246 #[ε #[ι η y.lo,ι η y.hi],π (μ ⟨d,0,ν⟩)] W λe k=>dU (y.lo<=x.lo/\x.hi<=y.hi) e/\γ W k ν:=by
 obtain⟨a,f⟩:=y;obtain⟨b,g⟩:=x;have m:d<W.heap.size:=eZ W _ h0;obtain⟨R,c⟩:∃R:Prop,R=(a<=b/\g<=f):=⟨_,rfl⟩
 have j:((⟨a,f⟩:Rg).lo<=(⟨b,g⟩:Rg).lo/\(⟨b,g⟩:Rg).hi<=(⟨a,f⟩:Rg).hi)=R:=c.symm;rw[j];clear j;replace c:=J c;go_enter func246,ntmps246;by_cases i:a<=b
 ·have d1:decide (a<=b)=ρ:=eT i;go_wp2;go_ret;exact⟨oJ (by rw[Z c];exact⟨λh=>⟨i,h⟩,λh=>h.2⟩),aJ _ _ _⟩
 have d1:decide (a<=b)=θ:=fc i;go_wp2;go_ret;exact⟨mC (by rw[Z c];exact λh=>by have:=h.1;omega),aJ _ _ _⟩
def HH(a:Option Addr)(n cap b:Nat)(lb:Array υ)(l:List Rg)(w:ω)(p:Nat->Prop)(hs:bq w a n cap l)
 (eg:∀args w,(callFunc b args).run prog w=.ok (.enter b args) w)
 (f:∀(W:ω)(h:Nat),γ w W ν->h<n->Calls prog b (#[ε #[ι η (ao l h).lo,ι η (ao l h).hi]]++lb) W (λe j=>dU (p h) e/\γ W j ν)):
 Calls prog 245 #[σ a n cap,.func (.func b) #[] lb] w λe m=>dU (∃i,i<n/\p i) e/\γ w m ν:=by
 have q:=J (HE a n cap b lb l w p hs eg f);obtain⟨R,c⟩:∃R:Prop,R=(∃i,i<n/\p i):=⟨_,rfl⟩
 rw[<-c];replace c:=J c;clear f hs;go_enter func245,ntmps245;go_wp2_with fail;apply(Z q).mono;rintro e t⟨⟨k,rfl,g,r⟩,s⟩;have d:R↔0<=k:=by rw[Z c,<-g];omega
 replace d:=J d;clear g r;go_wp2;go_ret;exact⟨oJ (Z d).symm,s⟩
def BZ(a:Option Addr)(n cap:Nat)(l:List Rg)(x:Rg)(w:ω)(hs:bq w a n cap l):
 Calls prog 211 #[σ a n cap,ε #[ι η x.lo,ι η x.hi]] w λe y=>dU (x.hi<=x.lo\/∃r∈l,r.lo<=x.lo/\x.hi<=r.hi) e/\γ w y ν:=by
 obtain⟨R,f⟩:∃R:Prop,R=(x.hi<=x.lo\/∃r∈l,r.lo<=x.lo/\x.hi<=r.hi):=⟨_,rfl⟩
 rw[<-f];have j:(∃i,i<n/\((ao l i).lo<=x.lo/\x.hi<=(ao l i).hi))↔∃r∈l,r.lo<=x.lo/\x.hi<=r.hi:=by
  rw[hs.2.1];constructor;rintro⟨i,hi,h⟩;exact⟨_,kh hi,h⟩
  rintro⟨r,z,h⟩;obtain⟨i,hi,rfl⟩:=j8.1 z;exact⟨i,hi,by simpa [ao,List.getD,hi]using h⟩
 replace⟨f,j⟩:=bD f j;obtain⟨b,c⟩:=x;have k:γ w (w.alloc (ο #[ι η b,ι η c] 341)) ν:=aJ _ _ _;have m:(w.alloc (ο #[ι η b,ι η c] 341)).heap[w.heap.size]?=μ (ο #[ι η b,ι η c] 341 (0,0)):=aO _ _;have A:Hid ((w.alloc (ο #[ι η b,ι η c] 341)).cell? ⟨w.heap.size,0,ν⟩=μ (ι η b)):=J (by simp only[World.cell?,m];rfl);have B:Hid ((w.alloc (ο #[ι η b,ι η c] 341)).cell? ⟨w.heap.size,1,ν⟩=μ (ι η c)):=J (by simp only[World.cell?,m];rfl);replace hs:=J hs;clear m;by_cases p:c<=b
 ·have q:=J (λW=>xm (x:=⟨b,c⟩) p W);go_enter func211,ntmps211;go_wp2_with fail;apply(Z q _).mono;rintro e u⟨rfl,d⟩;go_wp2;go_ret;exact⟨sV (by rw[Z f];exact φ p),aq k d⟩
 have q:=J (λW=>xp (x:=⟨b,c⟩) p W);go_enter func211,ntmps211;go_wp2_with fail;apply(Z q _).mono;rintro e u⟨rfl,d⟩;have C:=J (HH a n cap 246 #[π (μ ⟨w.heap.size,0,ν⟩)] l u (λi=>(ao l i).lo<=b/\c<=(ao l i).hi) ((Z hs).au (aq k d)) (λ_ _=>by kernel_rfl) (λW h g _=>HG W w.heap.size (ao l h) ⟨b,c⟩ ((aq d g).cell (Z A) (by simp)) ((aq d g).cell (Z B) (by simp))));go_wp2_with fail;apply(Z C).mono;rintro e E⟨⟨t,rfl,v⟩,D⟩;have s:t=ρ↔R:=by
  rw[v,Z f,Z j];constructor;exact ψ;rintro(h|h);omega;exact h
 replace s:=J s;clear v;go_wp2;go_ret;exact⟨⟨t,rfl,Z s⟩,aq k (aq d D)⟩
structure Hd where
 fr:Int
 bytes:List Int
 af:List Rg
def Hd.nice(h:Hd):Prop:=0<=h.fr/\h.fr+h.bytes.length<=4611686018427387903/\aU h.af/\h.bytes.length<=1000000/\h.af.length<=100000
def gZ(w:ω)(sb ho:Nat)(ab:Option Addr)(nb cb:Nat)(ac:Option Addr)(nc cc:Nat)(h:Hd):Prop:=
 κ w ⟨sb,ho,ν⟩=μ (ι η h.fr)/\κ w ⟨sb,ho+1,ν⟩=μ (σ ab nb cb)/\κ w ⟨sb,ho+2,ν⟩=μ (σ ac nc cc)/\bN w ab nb cb h.bytes/\bq w ac nc cc h.af/\h.nice
def gZ.au{ac:Option Addr}{h:Hd}(H:gZ w n k a i j ac l m h)(g:γ w W ν):gZ W n k a i j ac l m h:=
 ⟨gC_ g H.1,gC_ g H.2.1,gC_ g H.2.2.1,H.2.2.2.1.au g,H.2.2.2.2.1.au g,H.2.2.2.2.2⟩
def B1(w:ω)(sb ho:Nat)(ab:Option Addr)(nb cb:Nat)(ac:Option Addr)(nc cc:Nat)(h:Hd)(H:gZ w sb ho ab nb cb ac nc cc h):
 Calls prog 196 #[π (μ ⟨sb,ho,ν⟩)] w λe c=>e=ξ (ι η (h.fr+h.bytes.length))/\γ w c ν:=by
 obtain⟨c0,c1,c2,a,-,⟨f,d,-,k3,-⟩⟩:=H;obtain⟨fr,bytes,af⟩:=h;simp only at *;have b:nb=bytes.length:=a.2.1;rw[<-b]at d k3⊢;clear b a;have g:IntKind.u64.wrap (fr+(nb:Int))=fr+(nb:Int):=by rw[fW];omega
 go_enter func196,ntmps196;go_wp2_with fail;first
  |go_quiet (fail)
  |skip
 go_wp2;go_ret;exact⟨rfl,by repeat(first|exact aD _ _|apply dv|apply aY|apply bk)⟩
def cL(h:Hd):Int:=if h.af.length=0\/0<(ao h.af 0).lo then 0 else(ao h.af 0).hi-h.fr
def B6(w:ω)(sb ho:Nat)(ab:Option Addr)(nb cb:Nat)(ac:Option Addr)(nc cc:Nat)(h:Hd)(H:gZ w sb ho ab nb cb ac nc cc h)(c:0<=cL h/\cL h<=4611686018427387903):
 Calls prog 220 #[π (μ ⟨sb,ho,ν⟩)] w λe j=>e=ξ (ι δ (cL h))/\γ w j ν:=by
 obtain⟨c0,c1,c2,-,a,⟨p,q,-,k3,-⟩⟩:=H;obtain⟨fr,bytes,af⟩:=h;simp only at *;have d:nc=af.length:=a.2.1;have r:=a.2.2.1;have k:=a.2.2.2.1;unfold maxLen at k;by_cases f:nc=0
 ·have g:cL ⟨fr,bytes,af⟩=0:=by unfold cL;rw[aG];left;simp only;omega
  rw[g];subst f;clear g c d;go_enter func220,ntmps220;go_wp2_with fail;first
   |go_quiet (fail)
   |skip
  go_wp2;go_ret;exact⟨rfl,by repeat(first|exact aD _ _|apply dv|apply aY|apply bk)⟩
 obtain⟨b,o,rfl⟩:∃b o,ac=μ ⟨b,o,ν⟩:=by
  obtain⟨-,-,-,-,h0|⟨b,o,rfl,-⟩⟩:=a;omega;exact⟨b,o,rfl⟩
 obtain⟨l,m⟩:=a.cell 0 (by omega);have n:=pF a.1 0;obtain⟨⟨s,t⟩,u,v⟩:=n;have i:cL ⟨fr,bytes,af⟩=if 0<(ao af 0).lo then 0 else(ao af 0).hi-fr:=by
  unfold cL;by_cases h0:0<(ao af 0).lo;rw[aG (ψ h0),aG h0];rw[aB (by simp only;omega),aB h0]
 rw[i]at c⊢;clear i;generalize (ao af 0).lo=lo at *;generalize (ao af 0).hi=hi at *;rw[oH,px]at l m;clear a d;have x:((nc:Int)==0)=θ:=by simp[f]
 have y:(0:Int)<nc:=by omega
 by_cases h0:0<lo
 ·have d0:decide (0<lo)=ρ:=eT h0;rw[aG h0];clear c;go_enter func220,ntmps220;go_wp2_with fail;first
   |go_quiet (fail)
   |skip
  go_wp2;go_ret;exact⟨rfl,by repeat(first|exact aD _ _|apply dv|apply aY|apply bk)⟩
 have d0:decide (0<lo)=θ:=fc h0;rw[aB h0]at c⊢;have z:IntKind.u64.wrap (hi-fr)=hi-fr:=by rw[fW];omega
 have A:IntKind.i64.wrap (hi-fr)=hi-fr:=wI_;go_enter func220,ntmps220;go_wp2_with fail;first
  |go_quiet (fail)
  |skip
 go_wp2_with fail;first
  |go_quiet (fail)
  |skip
 go_wp2;go_ret;exact⟨rfl,by repeat(first|exact aD _ _|apply dv|apply aY|apply bk)⟩
def HJ(s:ByteArray)(n:Nat):((s.extract 0 n).data.map λb=>Value.int Δ (b.toNat:Int))=(bv ((aI s).take n)).toArray:=by
 apply Array.ext';simp[bv,aI,yS,Function.comp_def]
def HK(s:ByteArray)(k:Nat):aI (s.extract k s.size)=(aI s).drop k:=by
 unfold aI;have hs:s.data.toList.length=s.size:=by rw[qG];rfl
 rw[yS,Array.toList_extract,List.extract_eq_take_drop,jx (by rw[dO];omega),List.map_drop]
def HM{α:Type}(a b m:List α)(off n:Nat)(h:a.take n=b)(d:off+m.length<=n)(e:off<=a.length):(a.take off++(m++a.drop (off+m.length))).take n=splice b off m:=by
 subst h;unfold splice;have e1:(a.take off).length=off:=by rw[ct];omega
 have e2:(a.take off).take n=a.take off:=jx (by rw[e1];omega);have c:m.take (n-off)=m:=tL_;rw[List.take_take,Nat.min_eq_left (by omega),List.drop_take,List.take_append,e2,e1,List.take_append,c,Nat.sub_sub]
def HP(ty:TypeId)(i g off n c a m:Nat)(l:List Int)(p:bn w i (σ (μ ⟨g,0,ν⟩) n c) l)(s:ByteArray)(q:off+((aI s).take a).length<=n):
 ∃d,(Builtin.copy_ #[112,9] ty #[σ (μ ⟨g,off,ν⟩) a m,ς s]).run prog w=.ok (goInt ((aI s).take a).length) d/\bn d i (σ (μ ⟨g,0,ν⟩) n c) (splice l off ((aI s).take a))/\γ w d (μ g):=by
 obtain⟨j,G,⟨h0,-⟩|⟨H,cap,e,r,t,k,v,z,I,A⟩⟩:=p;cases h0;cases r;have B:Nat.min s.size a=((aI s).take a).length:=by rw[ct,fN,Nat.min_comm]
 have C:(aI s).take (Nat.min s.size a)=(aI s).take a:=by
  by_cases h:s.size<=a;rw[show Nat.min s.size a=s.size from Nat.min_eq_left h,jx (by rw[fN];exact aP _),jx (by rw[fN];exact h)];rw[show Nat.min s.size a=a from Nat.min_eq_right (by omega)]
 have D:=run_storeCells_at prog g off 5 (bv ((aI s).take a)) 0 e w k (by rw[fX];omega) (by
  intro u E;obtain⟨y,_,rfl⟩:=eU.1 E;rfl)
 have F:∀w,(sizeOf 5).run prog w=.ok 1 w:=λW=>by kernel_rfl
 have f:(splice l off ((aI s).take a)).length=l.length:=length_splice _ _ _ (by omega);refine⟨w.setRow g (e.toList.take (off+0)++bv ((aI s).take a)++e.toList.drop (off+0+(bv ((aI s).take a)).length)).toArray,?_,⟨?_,?_⟩,wR _ _ _⟩
 simp only[Builtin.copy_,wK underlying112,Builtin.lenOf,Builtin.firstCells,ka,mX,jh,F,HJ]
 have e1:bv ((aI s).take (min a (aI s).length))=bv ((aI s).take a):=by rw[<-C,fN,Nat.min_comm]
 simp[Builtin.lenOf,B,e1,D];intro x b;unfold splice at b;obtain b|b:=bL.1 b
 exact j x (jg b);obtain b|b:=bL.1 b
 exact qM s x (jg b);exact j x (iH b);refine⟨by rw[fX,Nat.mul_one],ψ ⟨g,c,_,by rw[f],t,setRow_heap w g _ _ _ _ k,by rw[f];exact v,z,?_,?_⟩⟩
 simp only[uk,bF,ct,dO,qG,fX]
 rw[ct]at q;omega;rw[f,BD,fm];exact HM _ _ _ _ _ A (by rw[fX];omega) (by rw[qG];omega)
def HQ{f:Array Oper}{K:Act->ω->Prop}{E:Prop}(d s:Operand)
 (ho:U.op=.call {callee:=.builtin .copy,args:= #[d,s],argTypes:= #[112,9]}) (j:U.guard=ν)
 (e g off n c a i:Nat) (hd:H.eval d=σ (μ ⟨g,off,ν⟩) a i) (str:ByteArray) (hs:H.eval s=ς str)
 (l:List Int) (k:bn w e (σ (μ ⟨g,0,ν⟩) n c) l) (m:off+((aI str).take a).length<=n)
 (h:∀b,bn b e (σ (μ ⟨g,0,ν⟩) n c) (splice l off ((aI str).take a))->γ w b (μ g)->K (H.put U.dst (goInt ((aI str).take a).length)) b):
 if Region.wanted U (yielded f H.tmps)=ρ then Oper.wp prog U H w K u else E:=by
 have p:Region.wanted U (yielded f H.tmps)=ρ:=by simp[Region.wanted,j]
 rw[aG p];obtain⟨b,q,r,t⟩:=HP (w:=w) U.type e g off n c a i l k str m;unfold Oper.wp execOp;simp only[ho,resolve,invoke,builtin,ka,mX,jh,oF,kM,nI,hd,hs,q]
 exact h b r t
def OwnSet(b w:ω)(N:Nat)(l:List Rg):Prop:=
 ∃a n c,w.heap[N]?=μ (ο #[σ a n c] 227 (0,0))/\bq w a n c l/\aU l/\(∀y,a=μ y->b.heap.size<=y.block/\y.block≠N)
def OwnSet.au(h:OwnSet W w k Y)(g:γ w v ν):OwnSet W v k Y:=by
 obtain⟨a,n,c,b,d,e,f⟩:=h;exact⟨a,n,c,bE b g,d.au g,e,f⟩
def OwnSet.of{w0:ω}{q:List Rg->Prop}(d:w.heap[k]?=μ (ο #[σ a n i] 227 (0,0)))(f:∀y,a=μ y->w0.heap.size<=y.block/\y.block≠k)(u:w0.heap.size<=w.heap.size)(h:p8 w W k 0 a q):∃b,OwnSet w0 W k b/\q b:=by
 obtain⟨j,l,m,b,⟨g,p⟩,r,c,s,t⟩:=h;have v:=(bg.1 d).1;refine⟨b,⟨j,l,m,(p _ _ d).trans rfl,r,s,λy e=>?_⟩,t⟩
 obtain rfl|c:=c
 exact f y e;have:=c y e;omega
def Cd(w:ω)(sb ho:Nat)(ab:Option Addr)(nb cb:Nat)(ac:Option Addr)(nc cc:Nat)(h:Hd)(H:gZ w sb ho ab nb cb ac nc cc h)(x:Rg)(hx:x.ok):
 Calls prog 278 #[π (μ ⟨sb,ho,ν⟩),ε #[ι η x.lo,ι η x.hi]] w λe p=>(∃a n c l,e=ξ (σ a n c)/\bq p a n c l/\aU l/\(∀y,a=μ y->w.heap.size<=y.block)/\l.length<=h.af.length+1/\∀m,Sm l m↔(x.lo<=m/\m<x.hi)/\¬Sm h.af m)/\γ w p ν:=by
 obtain⟨c0,c1,c2,-,d,⟨-,-,ax,-,cp⟩⟩:=H;obtain⟨fr,bytes,af⟩:=h;simp only at *;obtain⟨R,D⟩:∃R:Ending->ω->Prop,R=λe p=>(∃a n c l,e=ξ (σ a n c)/\bq p a n c l/\aU l/\(∀y,a=μ y->w.heap.size<=y.block)/\l.length<=af.length+1/\∀m,Sm l m↔(x.lo<=m/\m<x.hi)/\¬Sm af m)/\γ w p ν:=⟨_,rfl⟩
 rw[<-D];replace D:=J D;obtain⟨E,F⟩:=x;have s:nc=af.length:=d.2.1;have cv:=d.2.2.1;have a3:=d.2.2.2.1;unfold maxLen at a3;have cw:=eZ w _ c0;replace⟨d,ax,s⟩:=cz d ax s;go_enter func278,ntmps278;obtain⟨N,G⟩:=exq ((w.alloc (ο #[ι η E,ι η F] 341)).alloc (ο #[σ ν 0 0] 227));have g1:γ w N ν:=by rw[G];exact bk (bk (aD _ _) _) _
 have B:N.heap[w.heap.size+1]?=μ (ο #[σ ν 0 0] 227 (0,0)):=by
  have:=aO (w.alloc (ο #[ι η E,ι η F] 341)) (ο #[σ ν 0 0] 227);rw[eh]at this;rw[G];exact this
 have hA:=J (Hy N (w.heap.size+1) 0 #[σ ν 0 0] 227 ν 0 0 [] ⟨E,F⟩ B rfl ⟨λr d=>by simp at d,rfl,aP _,by simp[maxLen],φ rfl⟩ (λy t=>by cases t) aU.nil hx (by omega));replace B:=J B;go_wp2_with fail;rw[<-G];clear G;apply(Z hA).mono;rintro e w2⟨rfl,u⟩;have g2:γ w w2 ν:=by
  obtain⟨a',n',c',f,⟨g,-⟩,-⟩:=u;exact qK (cT (dy g1 (μ (w.heap.size+1))) g (λk e=>ψ rfl))
 obtain⟨l1,O,P,Q⟩:=OwnSet.of (w0:=w) (Z B) (λy t=>by cases t) g1.size u;replace⟨O,Q,P⟩:=cz O Q P;have d2:=gC_ g2 c2;clear hA u B;go_wp2;go_loopw [15] (λS wr=>∃(j:Nat)(f:List Rg),j<=nc/\S=ι δ j/\OwnSet w wr (w.heap.size+1) f/\f.length<=j+1/\(∀m,Sm f m↔(E<=m/\m<F)/\∀i,i<j->¬((ao af i).lo<=m/\m<(ao af i).hi))/\γ w wr ν) (λS _=>nc-(intOf S).toNat);case atStart=>exact⟨0,l1,by omega,rfl,Z O,Z P,λm=>by rw[Z Q m];exact⟨λh=>h.elim (λh=>absurd h (fP m)) (λh=>⟨h,λi hi=>by omega⟩),λh=>ψ h.1⟩,g2⟩
 case round=>
  obtain⟨j,f,hj,rfl,T,cy,C,g⟩:=hrel;by_cases cC:j<nc
  ·have d1:decide ((j:Int)<nc)=ρ:=dT_;have I:=(Z d).au g;obtain⟨-,-,-,-,h0|⟨b,o,rfl,-⟩⟩:=id I;omega;obtain⟨y0,y1⟩:=I.cell j (by have:=Z s;omega);have K:=pF I.1 j;have bz:Hid (∀m,((ao af j).lo<=m/\m<(ao af j).hi)↔((ao af j).lo<=m/\m<(ao af j).hi)):=J (λm=>Iff.rfl);obtain⟨r,L⟩:=exq (ao af j);rw[<-L]at y0 y1 K;have U:=aJ wr (ο #[ι η r.lo,ι η r.hi] 341) ν;obtain⟨v,z,c3,A,p2,p3,p4⟩:=T.au U;have hC:=J (BY (wr.alloc (ο #[ι η r.lo,ι η r.hi] 341)) (w.heap.size+1) 0 #[σ v z c3] 227 v z c3 f r A rfl p2 (λ_ y t=>(p4 y t).2) p3 K (by have:=p2.2.1;have:=Z s;omega));have b0:=J (λp(q:List Rg->Prop)(b3:p8 (wr.alloc (ο #[ι η r.lo,ι η r.hi] 341)) p (w.heap.size+1) 0 v q)=>OwnSet.of (w0:=w) A p4 (bK g.size U.size) b3);have i1:(j:Int)<nc:=by omega
   replace⟨L,C,K⟩:=cz L C K;clear A p2 p3 p4 T I bz;go_wp2_with fail;apply(Z hC).mono;rintro e w4⟨rfl,u⟩;have g4:γ w w4 ν:=by
    obtain⟨a',n',c',f,⟨g5,-⟩,-⟩:=u;exact qK (cT (dy (aq g U) (μ (w.heap.size+1))) g5 (λk e=>ψ rfl))
   obtain⟨l4,V,db,W⟩:=Z b0 _ _ u;replace⟨W,V⟩:=bD W V;clear u;go_wp2;go_roundw;case rel=>
    refine⟨j+1,l4,by omega,by simp,Z V,by omega,λm=>?_,g4⟩
    rw[Z W m,Z C m,Z L];constructor;rintro⟨⟨X,M⟩,h7⟩;refine⟨X,λi hi=>?_⟩
    obtain h8|rfl:=qC.1 hi
    exact M i h8;exact h7;rintro⟨X,M⟩;exact⟨⟨X,λi hi=>M i (by omega)⟩,M j (by omega)⟩
   case measure=>simp[intOf];omega
  have d1:decide ((j:Int)<nc)=θ:=dF_;obtain rfl:j=nc:=by omega
  obtain⟨v,z,c3,A,p2,p3,p4⟩:=T;have s0:κ wr ⟨w.heap.size+1,0,ν⟩=μ (σ v z c3):=by simp[World.cell?,A]
  have Y:R (ξ (σ v z c3)) wr:=by
   rw[Z D];refine⟨⟨v,z,c3,f,rfl,p2,p3,λy t=>(p4 y t).1,by have:=Z s;omega,λm=>?_⟩,g⟩
   rw[C m];refine and_congr_right λ_=>⟨λh ⟨r,ch,h3⟩=>?_,λh i hi h3=>h ⟨_,kh (by have:=Z s;omega),h3⟩⟩
   obtain⟨k,hk,rfl⟩:=j8.1 ch;have er:ao af k=af[k]:=by simp[ao,List.getD,hk]
   exact h k (by have:=Z s;omega) (by rw[er];exact h3)
  replace Y:=J Y;clear A p2 p3 p4 C;go_wp2_with fail;exact Z Y
def bZ(n:Int):Int:=if n<64 then 1 else if n<16384 then 2 else if n<1073741824 then 4 else 8
def xw(n:Int):((aS n).length:Int)=bZ n:=by
 unfold aS bZ;split;simp;split;simp;split<;>simp
def uQ(n:Int):1<=bZ n/\bZ n<=8:=by
 unfold bZ;split;omega;split;omega;split<;>omega
def IK(n:Int):pw n=0/\bZ n=1\/pw n=1/\bZ n=2\/pw n=2/\bZ n=4\/pw n=3/\bZ n=8:=by
 unfold pw bZ;split;simp;split;simp;split<;>simp
def xx(n:Int)(w:ω):Calls prog 299 #[ι η n] w λe c=>e=ξ (ι δ (bZ n))/\c=w:=by
 have hP:=J (λW=>BK n W);obtain⟨a,b⟩|⟨a,b⟩|⟨a,b⟩|⟨a,b⟩:=IK n
 all_goals
  rw[a]at hP
  rw[b]
  clear a b
  go_enter func299,ntmps299
  go_wp2_with (first|(go_at_call 295;apply(Z hP _).mono;rintro e d⟨rfl,rfl⟩))
  go_ret
  exact⟨rfl,rfl⟩
def IL(a c:Int)(w:ω):Calls prog 283 #[ι η a,ι η c] w λe b=>e=ξ (ι δ (2+bZ c+bZ a))/\b=w:=by
 have d:=J (λW=>xx a W);have f:=J (λW=>xx c W);have b1:=uQ a;have b2:=uQ c;generalize bZ a=x at *;generalize bZ c=y at *;have e1:IntKind.i64.wrap (2+y)=2+y:=wI_;have e2:IntKind.i64.wrap (2+y+x)=2+y+x:=wI_;go_enter func283,ntmps283;go_wp2_with fail;apply(Z f _).mono;rintro e g⟨rfl,rfl⟩;go_wp2_with fail;apply(Z d _).mono;rintro e h⟨rfl,rfl⟩;go_wp2;go_ret;exact⟨rfl,rfl⟩
def zC(r m:Int):Prop:=m<=r-1/\(r-1<=0->m=r-1)/\(0<=r-1->0<=m)/\(0<m->bZ m+m<=r)/\∀n,m<n->n<=r-1->r<bZ n+n
def IM(off a:Int)(w:ω)(D: -1000000000000<=a/\a<=1000000000000):Calls prog 284 #[ι η off,ι δ a] w λe l=>∃m,e=ξ (ι δ m)/\zC (a-(2+bZ off)) m/\l=w:=by
 have p:=J (λn W=>xx n W);have b1:=uQ off;generalize d:bZ off=x at *;replace d:=J d;obtain⟨r,f⟩:=exq (a-(2+x));rw[<-f];have e1:IntKind.i64.wrap (2+x)=2+x:=wI_;have e2:IntKind.i64.wrap (a-(2+x))=r:=by simp[IntKind.wrap,IntKind.bits,IntKind.signed];omega
 have E:IntKind.i64.wrap (r-1)=r-1:=wI_;have F: -1000000000100<=r/\r<=1000000000000:=by omega
 replace f:=J f;go_enter func284,ntmps284;go_wp2_with fail;apply(Z p _ _).mono;rintro e q⟨rfl,rfl⟩;rw[Z d];go_wp2;go_loopw [5] (λi wr=>∃N:Int,i=ι δ N/\N<=r-1/\(r-1<=0->N=r-1)/\(0<=r-1->0<=N)/\(∀n,N<n->n<=r-1->r<bZ n+n)/\wr=q) (λi _=>(intOf i).toNat);case atStart=>exact⟨r-1,rfl,by omega,λ_=>rfl,λh=>h,λn s k=>by omega,rfl⟩
 case round=>
  obtain⟨N,rfl,s,k,t,b,rfl⟩:=hrel;replace b:=J b;by_cases h0:0<N
  ·have u:decide (0<N)=ρ:=eT h0;have u1:IntKind.u64.wrap N=N:=by rw[fW];omega
   have v:=uQ N;have g:=J (λW=>xx N W);obtain⟨y,c⟩:=exq (bZ N);rw[<-c]at g v;replace c:=J c;have u2:IntKind.i64.wrap (y+N)=y+N:=wI_;have u3:IntKind.i64.wrap (N-1)=N-1:=wI_;by_cases j:r<y+N
   ·have z:decide (r<y+N)=ρ:=eT j;go_wp2_with (first|(go_at_call 299;apply(Z g _).mono;rintro e A⟨rfl,rfl⟩));go_roundw;case rel=>exact⟨N-1,rfl,by omega,λh=>by omega,λh=>by omega,λn G B=>by
     by_cases C:n=N;subst C;rw[<-Z c];exact j
     ·exact Z b n (by omega) B,trivial⟩
    case measure=>simp only[intOf];omega
   have z:decide (r<y+N)=θ:=fc j;go_wp2_with (first|(go_at_call 299;apply(Z g _).mono;rintro e A⟨rfl,rfl⟩));go_ret;exact⟨N,rfl,⟨by omega,λh=>by omega,λh=>by omega,λ_=>by rw[<-Z c];omega,Z b⟩,rfl⟩
  have u:decide (0<N)=θ:=fc h0;go_wp2;go_ret;exact⟨N,rfl,⟨by omega,k,t,λh=>by omega,Z b⟩,rfl⟩
def JN(r:Nat)(a:Option Addr)(c:Nat)(l:List Int)(n:Int)(w:ω)(ho:bn w r (σ a l.length c) l)(B:eB n)(T:r<=w.heap.size)(hl:l.length<=90000000):
 Calls prog 266 #[σ a l.length c,ι η n] w λe z=>
  ∃g h,e=ξ (σ g (l.length+(aS n).length) h)/\dP w r (σ a l.length c) z (σ g (l.length+(aS n).length) h) (l++aS n):=by
 have F:=B;obtain⟨n0,U⟩:=B;obtain⟨k,p,H,C,d,hp,G,D⟩:∃(k p:Nat)(H:Int),aS n=ki (n+H) k/\((k=1/\p=0/\H=0)\/(k=2/\p=1/\H=16384)\/(k=4/\p=2/\H=2147483648)\/(k=8/\p=3/\H=13835058055282163712))/\pw n=(p:Int)/\bits .or η n H=n+H/\0<=n+H/\n+H<18446744073709551616:=by
  by_cases b:n<64;refine⟨1,0,0,by rw[Int.add_zero];exact Hb b n0,φ ⟨rfl,rfl,rfl⟩,by simp[pw,b],?_,by omega⟩
  have:=wZ n 0 6 n0 (by simpa using b) (by decide);simpa using this;by_cases f:n<16384;exact⟨2,1,16384,Hc b f,ψ (φ ⟨rfl,rfl,rfl⟩),by simp[pw,b,f],by simpa using wZ n 1 14 n0 (by simpa using f) (by decide),by omega⟩
  by_cases t:n<1073741824;exact⟨4,2,2147483648,He b f t,ψ (ψ (φ ⟨rfl,rfl,rfl⟩)),by simp[pw,b,f,t],by simpa using wZ n 2 30 n0 (by simpa using t) (by decide),by omega⟩
  exact⟨8,3,13835058055282163712,Hf b f t F,ψ (ψ (ψ ⟨rfl,rfl,rfl⟩)),by simp[pw,b,f,t],by simpa using wZ n 3 62 n0 (by simp;omega) (by decide),by omega⟩
 have m:=BL (n+H) k;have u:=Ha (n+H) k;rw[C];rw[m];clear C;replace⟨m,u⟩:=bD m u;have V:1<=k/\k<=8:=by omega
 obtain⟨S,q⟩:∃S:Int,S=8*(k:Int)-8:=⟨_,rfl⟩
 replace q:=J q;obtain⟨M,A⟩:=exq (n+H);rw[<-A]at G D u m⊢;replace A:=J A;obtain⟨d,rfl,rfl⟩|⟨d,rfl,rfl⟩|⟨d,rfl,rfl⟩|⟨d,rfl,rfl⟩:=d
 all_goals
  replace d:=J d
  go_enter func266,ntmps266
  go_wp2_with (go_at_call 295;apply(BK n _).mono;rintro e z⟨rfl,rfl⟩;rw[hp])
  go_loopw [0,7] (λv i wr=>∃(j:Nat)(g:Option Addr)(h:Nat),j<=k/\i=ι δ (S-8*(j:Int))/\v=σ g (l.length+j) h/\dP z r (σ a l.length c) wr v (l++(ki M k).take j)) (λ_ i _=>(intOf i+8).toNat)
  case atStart=>exact⟨0,a,c,by omega,fD (Value.int δ) (by have:=Z d;have:=Z q;omega),rfl,by simpa using dP.refl ho⟩
  case round=>
   obtain⟨j,g,h,W,rfl,rfl,o1⟩:=hrel
   by_cases I:j<k
   ·obtain⟨s,hs⟩:∃s:Nat,(s:Int)=S-8*(j:Int):=⟨8*(k-1)-8*j,by have:=Z q;omega⟩
    have E:s=8*(k-1)-8*j:=by have:=Z q;omega
    have X:s<64:=by omega
    rw[<-hs];replace hs:=J hs;have x:=Z u j I;rw[<-E]at x;replace x:=J x;clear E;have Y:=o1.size;have K:W8 (M/2^s %256):=by unfold W8;omega
    have L:=J (wO wr _ K);have N:=J (o1.still (aJ wr (ο #[ι Δ (M/2^s %256)] 5) ν)).own;have y:(l++(ki M k).take j).length=l.length+j:=by simp[Z m];omega
    replace⟨y,o1⟩:=bD y o1;obtain⟨al,ax⟩:=D;go_wp2_with (at_builtin;refine sS (by rfl) _ _ (by rfl) r _ (l++(ki M k).take j) (by rfl) (Z N) _ _ _ [M/2^s %256] (by rfl) (Z L) ?_ ?_ ?_;(rw[Z y];simp;omega);(simp;omega);rw[Z y];intro O c3 w3 P Q R);go_roundw;case rel=>
     refine⟨j+1,O,c3,by omega,by have:=Z hs;simp;omega,rfl,?_⟩
     rw[Z x,<-fm];exact(Z o1).app (aJ _ _ _) P Q R
    case measure=>have:=Z hs;simp[intOf];omega
   obtain rfl:j=k:=by omega
   have a0:¬(0:Int)<=S-8*(j:Int):=by have:=Z q;omega
   go_wp2
   go_ret
   refine⟨g,h,rfl,?_⟩
   rw[jx (by rw[Z m];exact aP _)]at o1
   exact o1
def JO(s:ByteArray):Lib.strCells s=bv (aI s):=by
 unfold Lib.strCells bv aI;rw[pV];rfl
def JP(ty:TypeId)(e:Nat)(v:υ)(l:List Int)(h:bn w e v l)(s:ByteArray)(H:l.length+s.size<=100000000)(u:e<=w.heap.size):
 ∃b i c d,(Builtin.append_ #[112,9] ty #[v,ς s]).run prog w=.ok (σ b i c) d/\bn d e (σ b i c) (l++aI s)/\γ w d v.ownBlock/\((Value.slice b i c).ownBlock=v.ownBlock\/(Value.slice b i c).ownBlock=μ w.heap.size):=by
 obtain⟨j,hi,k,m,n⟩:=lU yY;obtain⟨p,d,f,r,x,z⟩:=Lib.run_append_own_string (P:=prog) w e 112 9 ty 5 j underlying112 underlying9 hi k m n v l.length (bv l) h.2 s (by simp[maxLen];omega) (by omega) u;have t:p.ownBlock=v.ownBlock\/p.ownBlock=μ w.heap.size:=by
  obtain⟨-,hl,⟨rfl,I⟩|⟨g,cap,A,rfl,K,B,L,M,C,N⟩⟩:=id h;by_cases D:s.size=0;rw[z.2 ⟨rfl,D⟩];exact φ rfl;have a:=run_append_nil_string (P:=prog) w 112 9 ty 5 j _ underlying112 underlying9 hi k s (by omega) (by omega) (by rw[n];omega);rw[f]at a;simp only[Result.ok.injEq]at a;rw[a.1];exact ψ rfl;by_cases E:l.length+s.size<=cap;have a:=Lib.run_append_room_string (P:=prog) w 112 9 ty 5 j underlying112 underlying9 hi m g l.length cap A B s E (by rw[C];omega);rw[f]at a;simp only[Result.ok.injEq]at a;rw[a.1];exact φ rfl;have a:=Lib.run_append_grow_string (P:=prog) w 112 9 ty 5 j _ underlying112 underlying9 hi k ⟨g,0,ν⟩ l.length cap (bv l) (by rw[m,fX];omega) (h.2.cells (g:=g) rfl) s (by omega) (by omega) (by rw[n];exact growslice_fits (by omega) (by omega));rw[f]at a;simp only[Result.ok.injEq]at a;rw[a.1];exact ψ rfl
 have q:bn d e p (l++aI s):=by
  refine⟨λy F=>(bL.1 F).elim (h.1 y) (qM s y),?_⟩
  rw[JO]at r;rw[bF,fN];simpa [bv]using r
 obtain⟨b,c,G,_⟩:=q.bs;rw[G]at f q t;exact⟨b,_,c,d,f,q,x,t⟩
def JQ{K:Act->ω->Prop}(s x:Operand)
 (ho:U.op=.call {callee:=.builtin .append,args:= #[s,x],argTypes:= #[112,9]})
 (f:Nat) (v:υ) (l:List Int) (hs:H.eval s=v) (g:bn w f v l) (d:ByteArray) (i:H.eval x=ς d) (j:l.length+d.size<=100000000) (k:f<=w.heap.size)
 (h:∀a b c e,bn e f (σ a b c) (l++aI d)->γ w e v.ownBlock->((Value.slice a b c).ownBlock=v.ownBlock\/(Value.slice a b c).ownBlock=μ w.heap.size)->
   K (H.put U.dst (σ a b c)) e):Oper.wp prog U H w K u:=by
 obtain⟨a,b,c,e,m,n,p,q⟩:=JP (w:=w) U.type f v l g d j k;unfold Oper.wp execOp;simp only[ho,resolve,invoke,builtin,ka,mX,jh,oF,kM,nI,hs,i,m]
 exact h a b c e n p q
def JR{g:Array Oper}{K:Act->ω->Prop}{E:Prop}(i:U.guard=ν)(s x:Operand)
 (ho:U.op=.call {callee:=.builtin .append,args:= #[s,x],argTypes:= #[112,9]})
 (a:Nat) (v:υ) (l:List Int) (hs:H.eval s=v) (j:bn w a v l) (d:ByteArray) (k:H.eval x=ς d) (m:l.length+d.size<=100000000) (n:a<=w.heap.size)
 (h:∀b c e f,bn f a (σ b c e) (l++aI d)->γ w f v.ownBlock->((Value.slice b c e).ownBlock=v.ownBlock\/(Value.slice b c e).ownBlock=μ w.heap.size)->
   K (H.put U.dst (σ b c e)) f):if Region.wanted U (yielded g H.tmps)=ρ then Oper.wp prog U H w K u else E:=by
 have p:Region.wanted U (yielded g H.tmps)=ρ:=by simp[Region.wanted,i]
 rw[aG p];exact JQ s x ho a v l hs j d k m n h
def yG(A C:List Int)(k:Nat):(A++C).getD (A.length+k) 0=C.getD k 0:=by
 simp[List.getD,mU]
def qy(A C:List Int):(A++C).getD A.length 0=C.getD 0 0:=yG A C 0
def QK(A B:List Int)(h:eB p):cZ (A++(aS p++B)) A.length=μ (p,A.length+(aS p).length):=by
 unfold eB at h;unfold cZ;by_cases b:p<64;have a:aS p=[p]:=by simp[aS,b]
 rw[a,qy];have hs:fO (([p]++B).getD 0 0)=1:=by
  simp only[fO,pT,yV]
  rw[iP_]
 rw[hs,aG (by simp)];simp only[jo,sP,qy]
 simp;omega;by_cases c:p<16384;have a:aS p=[p/256+64,p %256]:=by simp[aS,b,c]
 rw[a,qy];have hs:fO (([p/256+64,p %256]++B).getD 0 0)=2:=by
  simp only[fO,pT,yV]
  rw[iN_,iP_]
 rw[hs,aG (by simp)];simp only[jo,qJ,Nat.reduceAdd,Nat.reduceSub,yG,qy]
 simp;omega;by_cases d:p<1073741824;have a:aS p=[p/16777216+128,p/65536 %256,p/256 %256,p %256]:=by simp[aS,b,c,d]
 rw[a,qy];have hs:fO (([p/16777216+128,p/65536 %256,p/256 %256,p %256]++B).getD 0 0)=4:=by
  simp only[fO,pT,yV]
  rw[iN_,iN_,iP_]
 rw[hs,aG (by simp)];simp only[jo,qJ,Nat.reduceAdd,Nat.reduceSub,yG,qy]
 simp;omega;have a:aS p=[p/72057594037927936+192,p/281474976710656 %256,p/1099511627776 %256,p/4294967296 %256,p/16777216 %256,p/65536 %256,p/256 %256,p %256]:=by simp[aS,b,c,d]
 rw[a,qy];have hs:fO (([p/72057594037927936+192,p/281474976710656 %256,p/1099511627776 %256,p/4294967296 %256,p/16777216 %256,p/65536 %256,p/256 %256,p %256]++B).getD 0 0)=8:=by
  simp only[fO,pT,yV]
  rw[iN_,iN_,iN_]
 rw[hs,aG (by simp)];simp only[jo,qJ,Nat.reduceAdd,Nat.reduceSub,yG,qy]
 simp;omega
def oV(a:L=K++(aS q++M))(hp:k=K.length)(h:eB q):cZ L k=μ (q,k+(aS q).length):=by
 subst a hp;exact QK K M h
def jw(l:List Rg):Nat->Nat->List Int
 |_,0=>[]
 |j,k+1=>uH l j++jw l (j+1) k
def QL(l:List Rg)(k:Nat):∀j,jM l (j+k)=jM l j++jw l j k:=by
 induction k with
 |zero=>intro j;simp[jw]
 |succ k a=>
  intro j;rw[show j+(k+1)=(j+1)+k by omega,a (j+1)];simp[jM,jw]
def Fs(h:i<Y.length):ao Y i=Y[i]:=by
 simp[ao,List.getD,h]
def QM(f:∀r∈Y,r.ok)(e:iT Y)(B:List Int)(k:Nat):∀(j:Nat)(A:List Int),j+1+k=Y.length->
 jN (A++(jw Y j k++B)) k A.length (ao Y j).lo (Y.take (j+1))=μ (Y,A.length+(jw Y j k).length):=by
 induction k with
 |zero=>
  intro j A h;simp only[jN,jw,fM,px,nH,rJ,and_true]
  exact tL_
 |succ k i=>
  intro j A h;have a:=pZ f e j;have b:=pZ f e (j+1);have c:=e.2 (j+1) (by omega);unfold nL at c;simp only[sK]at c;unfold eB at a b;obtain⟨x,l⟩:=exq ((ao Y j).lo-(ao Y (j+1)).hi-2);obtain⟨y,m⟩:=exq ((ao Y (j+1)).hi-(ao Y (j+1)).lo);have d:jw Y j (k+1)=aS x++(aS y++jw Y (j+1) k):=by simp[jw,uH,l,m]
  have n:eB x:=by unfold eB;omega
  have p:eB y:=by unfold eB;omega
  have q:cZ (A++(jw Y j (k+1)++B)) A.length=μ (x,A.length+(aS x).length):=oV (M:=aS y++jw Y (j+1) k++B) (by rw[d];simp) rfl n;have n2:cZ (A++(jw Y j (k+1)++B)) (A.length+(aS x).length)=μ (y,A.length+(aS x).length+(aS y).length):=oV (K:=A++aS x) (M:=jw Y (j+1) k++B) (by rw[d];simp) (by simp) p;have e1:(ao Y j).lo-2-x=(ao Y (j+1)).hi:=by omega
  have e2:(ao Y (j+1)).hi-y=(ao Y (j+1)).lo:=by omega
  have s:A++(jw Y j (k+1)++B)=(A++aS x++aS y)++(jw Y (j+1) k++B):=by rw[d];simp
  have g:j+1<Y.length:=by omega
  have t:Y.take (j+1)++[ao Y (j+1)]=Y.take (j+1+1):=by rw[sH g,Fs g]
  simp only[jN,q,n2,fL,e1,e2]
  rw[iP_];have:=i (j+1) (A++aS x++aS y) (by omega);rw[<-s]at this;rw[t];simp only[bF]at this;rw[this,d];simp only[bF]
  congr 2;omega
def QN(g:∀r∈Y,r.ok)(d:iT Y)(hl:(Y.length:Int)<=4611686018427387903)(e:L=K++(gJ Y++M))(hp:n=K.length):jO L n=μ (Y,n+(gJ Y).length):=by
 subst hp;have f:=d.1;have a:=pZ g d 0 f;have c:=(d.2 0 f).1;unfold eB at a;obtain⟨x,h⟩:=exq ((ao Y 0).hi);obtain⟨y,i⟩:∃y:Int,y=(Y.length:Int)-1:=⟨_,rfl⟩
 obtain⟨z,j⟩:=exq ((ao Y 0).hi-(ao Y 0).lo);have b:gJ Y=aS x++(aS y++(aS z++jw Y 0 (Y.length-1))):=by
  have:=QL Y (Y.length-1) 0;simp only[ep,jM,jL]at this;simp[gJ,my,this,h,i,j]
 have k:cZ L K.length=μ (x,K.length+(aS x).length):=oV (K:=K) (M:=aS y++(aS z++jw Y 0 (Y.length-1))++M) (by rw[e,b];simp) rfl (by unfold eB;omega);have n2:cZ L (K.length+(aS x).length)=μ (y,K.length+(aS x).length+(aS y).length):=oV (K:=K++aS x) (M:=aS z++jw Y 0 (Y.length-1)++M) (by rw[e,b];simp) (by simp) (by unfold eB;omega);have l:cZ L (K.length+(aS x).length+(aS y).length)=μ (z,K.length+(aS x).length+(aS y).length+(aS z).length):=oV (K:=K++aS x++aS y) (M:=jw Y 0 (Y.length-1)++M) (by rw[e,b];simp) (by simp;omega) (by unfold eB;omega);have e1:x-z=(ao Y 0).lo:=by omega
 have e2:y.toNat=Y.length-1:=by omega
 have m:L=(K++aS x++aS y++aS z)++(jw Y 0 (Y.length-1)++M):=by rw[e,b];simp
 have p:[(⟨(ao Y 0).lo,x⟩:Rg)]=Y.take (0+1):=by
  rw[sH (by omega),h,Fs f];simp
 simp only[jO,k,n2,l,fL,e1,e2,p]
 rw[iP_];have:=QM g d M (Y.length-1) 0 (K++aS x++aS y++aS z) (by omega);rw[<-m]at this;simp only[bF]at this;rw[show K.length+(aS x).length+(aS y).length+(aS z).length=K.length+(aS x).length+(aS y).length+(aS z).length from rfl,this,b];simp only[bF]
 congr 2;omega
def gL(f:Fr):Fr:=
 if f.kind=1 then cB 1 θ else if f.kind=2 then cB 2 θ else if f.kind=3 then{cB 3 θ with ranges:=f.ranges}
 else if f.kind=4 then{cB 4 θ with stream:=f.stream,code:=f.code,offset:=f.offset}
 else if f.kind=5 then{cB 5 f.fin with stream:=f.stream,offset:=f.offset,data:=f.data}
 else{cB 6 θ with code:=f.code}
def yH(d:ByteArray):strOfNums (aI d)=d:=by
 apply ByteArray.ext;apply Array.toList_inj.1;rw[strOfNums_data,aI,pV];refine(wD (g:=id) λx _=>?_).trans (rK _);simp
def Ft(a:L=K++(aS q++M))(hp:k=K.length)(h0:0<=q)(b:q<4):ke L k=μ (q,k+(aS q).length):=by
 unfold ke;rw[oV a hp ⟨h0,by omega⟩];simp[b]
def QO{d:ByteArray}(a:L=K++(aS d.size++(aI d++M)))(hp:k=K.length)(hd:(d.size:Int)<=4611686018427387903):oI L k=μ (d,k+(aS d.size).length+d.size):=by
 unfold oI;rw[oV (q:=d.size) a hp ⟨by omega,hd⟩];simp only[fL]
 have b:L.length=K.length+(aS d.size).length+d.size+M.length:=by rw[a];simp[fN];omega
 rw[aG (by rw[b,hp];push_cast;omega)];have e:(L.drop (k+(aS d.size).length)).take d.size=aI d:=by
  rw[a,show K++(aS (d.size:Int)++(aI d++M))=(K++aS (d.size:Int))++(aI d++M) by simp,show k+(aS (d.size:Int)).length=(K++aS (d.size:Int)).length by simp[hp],List.drop_left,<-fN d,List.take_left]
 simp only[oE,e,yH]
def QP(u:I.ok)(hs:cO I)(hl:(I.ranges.length:Int)<=4611686018427387903)(i:L=K++(dm I++M)):nM L K.length=μ (gL I,K.length+(dm I).length):=by
 obtain⟨⟨b1,b2,k,l⟩,⟨q,v⟩,y,z⟩:=id hs;obtain⟨o1,A,⟨r,-⟩,⟨s,-⟩,w⟩:=u;have c:I.kind=1\/I.kind=2\/I.kind=3\/I.kind=4\/I.kind=5\/I.kind=6:=by omega
 have e0:L.getD K.length 0=(dm I++M).getD 0 0:=by rw[i];exact qy K _
 unfold nM;rw[e0];obtain c|c|c|c|c|c:=c
 have a:dm I=[0]:=by simp[dm,c]
 have f:gL I=cB 1 θ:=by simp[gL,c]
 rw[a,f];have e:cO (cB 1 θ):=by simp[cO,pY,qN,cB]
 simp[fY,e];have a:dm I=[1]:=by simp[dm,c]
 have f:gL I=cB 2 θ:=by simp[gL,c]
 rw[a,f];have e:cO (cB 2 θ):=by simp[cO,pY,qN,cB]
 simp[fY,e];have a:dm I=2::gJ I.ranges:=by simp[dm,c]
 have f:gL I={cB 3 θ with ranges:=I.ranges}:=by simp[gL,c]
 have x:jO L (K.length+1)=μ (I.ranges,K.length+1+(gJ I.ranges).length):=QN (K:=K++[2]) (M:=M) w (q c) hl (by rw[i,a];simp) (by simp);rw[a,f];have e:cO {cB 3 θ with ranges:=I.ranges}:=by
  refine⟨?_,⟨λ_=>q c,λh=>?_⟩,?_⟩<;>simp[pY,cB]at *
 simp[fY,x,e];omega;have a:dm I=4::(aS I.stream++aS I.code++aS I.offset):=by simp[dm,c]
 have f:gL I={cB 4 θ with stream:=I.stream,code:=I.code,offset:=I.offset}:=by simp[gL,c]
 have g:=Ft (L:=L) (K:=K++[4]) (M:=aS I.code++(aS I.offset++M)) (q:=I.stream) (k:=K.length+1) (by rw[i,a];simp) (by simp) k l;have n2:=oV (L:=L) (K:=K++[4]++aS I.stream) (M:=aS I.offset++M) (q:=I.code) (k:=K.length+1+(aS I.stream).length) (by rw[i,a];simp) (by simp;omega) ⟨s,b2⟩;have j:=oV (L:=L) (K:=K++[4]++aS I.stream++aS I.code) (M:=M) (q:=I.offset) (k:=K.length+1+(aS I.stream).length+(aS I.code).length) (by rw[i,a];simp) (by simp;omega) ⟨r,b1⟩;rw[a,f];have e:cO {cB 4 θ with stream:=I.stream,code:=I.code,offset:=I.offset}:=by
  refine⟨⟨b1,b2,k,l⟩,⟨λh=>?_,λh=>?_⟩,?_⟩<;>simp[cB]at *
 simp[fY,g,n2,j,e];omega;have hd:=v c;have g:=λt:Int=>λa:dm I=t::(aS I.stream++aS I.offset++aS I.data.size++aI I.data)=>Ft (L:=L) (K:=K++[t]) (M:=aS I.offset++(aS I.data.size++(aI I.data++M))) (q:=I.stream) (k:=K.length+1) (by rw[i,a];simp) (by simp) k l
 have n2:=λt:Int=>λa:dm I=t::(aS I.stream++aS I.offset++aS I.data.size++aI I.data)=>oV (L:=L) (K:=K++[t]++aS I.stream) (M:=aS I.data.size++(aI I.data++M)) (q:=I.offset) (k:=K.length+1+(aS I.stream).length) (by rw[i,a];simp) (by simp;omega) ⟨r,b1⟩
 have j:=λt:Int=>λa:dm I=t::(aS I.stream++aS I.offset++aS I.data.size++aI I.data)=>QO (L:=L) (K:=K++[t]++aS I.stream++aS I.offset) (M:=M) (d:=I.data) (k:=K.length+1+(aS I.stream).length+(aS I.offset).length) (by rw[i,a];simp) (by simp;omega) (by omega)
 have e:∀b,cO {cB 5 b with stream:=I.stream,offset:=I.offset,data:=I.data}:=λb=>by
  refine⟨⟨b1,by simp[cB],k,l⟩,⟨λh=>?_,λh=>hd⟩,?_⟩<;>simp[cB]at *
 cases m:I.fin with
 |true=>
  have a:dm I=9::(aS I.stream++aS I.offset++aS I.data.size++aI I.data):=by simp[dm,c,m]
  have f:gL I={cB 5 ρ with stream:=I.stream,offset:=I.offset,data:=I.data}:=by simp[gL,c,m]
  replace g:=g 9 a;replace n2:=n2 9 a;replace j:=j 9 a;replace e:=e ρ;rw[a,f];simp[fY,g,n2,j,e,fN];omega
 |false=>
  have a:dm I=8::(aS I.stream++aS I.offset++aS I.data.size++aI I.data):=by simp[dm,c,m]
  have f:gL I={cB 5 θ with stream:=I.stream,offset:=I.offset,data:=I.data}:=by simp[gL,c,m]
  replace g:=g 8 a;replace n2:=n2 8 a;replace j:=j 8 a;replace e:=e θ;rw[a,f];simp[fY,g,n2,j,e,fN];omega
 have a:dm I=28::aS I.code:=by simp[dm,c]
 have f:gL I={cB 6 θ with code:=I.code}:=by simp[gL,c]
 have g:=oV (L:=L) (K:=K++[28]) (M:=M) (q:=I.code) (k:=K.length+1) (by rw[i,a];simp) (by simp) ⟨s,b2⟩;rw[a,f];have e:cO {cB 6 θ with code:=I.code}:=by
  refine⟨⟨by simp[cB],b2,by simp[cB],by simp[cB]⟩,⟨λh=>?_,λh=>?_⟩,?_⟩<;>simp[cB]at *
 simp[fY,g,e];omega
def QQ(a:List Fr):∀(A:List Int)(k:Nat)(b:List Fr),(∀f∈a,f.ok/\cO f/\(f.ranges.length:Int)<=4611686018427387903)->a.length<k->iJ (A++bA a) k A.length b=(μ (b++a.map gL),-1):=by
 induction a with
 |nil=>
  intro A k b _ c;obtain⟨k,rfl⟩:∃m,k=m+1:=⟨k-1,by simp at c;omega⟩
  simp[iJ,bA]
 |cons f r d=>
  intro A k b h c;obtain⟨k,rfl⟩:∃m,k=m+1:=⟨k-1,by simp at c;omega⟩
  obtain⟨e,i,j⟩:=h f (by simp);have l:=QP e i j (L:=A++bA (f::r)) (K:=A) (M:=bA r) rfl;have q:=(wW f).1;have n:A.length<(A++bA (f::r)).length:=by simp[bA];omega
  simp only[iJ,aG n,l]
  have:=d (A++dm f) k (b++[gL f]) (λg p=>h g (by simp[p])) (by simp at c;omega);simp only[bF]at this;rw[show A++bA (f::r)=A++dm f++bA r by simp[bA],this];simp
def QR(a:List Fr):a.length<=(bA a).length:=by
 induction a with
 |nil=>simp[bA]
 |cons f r b=>have:=(wW f).1;simp[bA];omega
def AI{a:List Fr}(h:∀f∈a,f.ok/\cO f/\(f.ranges.length:Int)<=4611686018427387903)(h0:a≠[]):fu (bA a)=(μ (a.map gL),-1):=by
 have hl:=QR a;have hp:=pq.2 h0;unfold fu;rw[iN_];have:=QQ a [] ((bA a).length+1) [] h (by omega);simpa using this
