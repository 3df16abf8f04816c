import Derived.Test.YtjnmokmchdfchaaGreatDoorZL2
import Derived.Test.YtjnmokmchdfchaaGreatDoorZL3
set_option maxRecDepth 1000000
set_option maxHeartbeats 0
set_option linter.all false
namespace Go.Proofs.YtjnmokmchdfchaaGreatDoor
open Go.RowKit Tryz
open Go.Value renaming int→ι,slice→σ,bool→β,pointer→π,agg→ε,string→ς,tuple→τ
open Go.IntKind renaming i64→δ,u64→η,u8→Δ
open Go.Ending renaming returned→ξ
open Go.Obj renaming cells→ο
open Or renaming inl→φ,inr→ψ
open Option renaming some→μ,none→ν
open Bool renaming true→ρ,false→θ
open Go renaming World→ω,Value→υ
open Go.World renaming grownBy→γ,cell?→κ,frozen?→χ,setCell→ζ
attribute[local go_sem↓]Go.wp_at_zero Go.wp_at_succ
variable{A:Addr}{Y:List Rg}{b i j k l m n o:Nat}{a:Option Addr}{x y z:υ}{W w:ω}
def lH(h:κ W A=μ y)(a:A.block≠n):(ζ W ⟨n,o,ν⟩ x).cell? A=μ y:=
 (mn (w:=W) (dK _ _ _ _ a)).trans h
def IN{d e f:Nat}{g p q u1 u2 u3 u4:υ}(h:κ W ⟨m,i,ν⟩=μ u1/\κ W ⟨m,j,ν⟩=μ u2/\κ W ⟨o,k,ν⟩=μ u3/\κ W ⟨o,l,ν⟩=μ u4)(a:m≠n)(c:o≠n):
 ((((ζ W ⟨n,b,ν⟩ z).setCell ⟨n,d,ν⟩ g).setCell ⟨n,e,ν⟩ p).setCell ⟨n,f,ν⟩ q).cell? ⟨m,i,ν⟩=μ u1/\((((ζ W ⟨n,b,ν⟩ z).setCell ⟨n,d,ν⟩ g).setCell ⟨n,e,ν⟩ p).setCell ⟨n,f,ν⟩ q).cell? ⟨m,j,ν⟩=μ u2/\((((ζ W ⟨n,b,ν⟩ z).setCell ⟨n,d,ν⟩ g).setCell ⟨n,e,ν⟩ p).setCell ⟨n,f,ν⟩ q).cell? ⟨o,k,ν⟩=μ u3/\((((ζ W ⟨n,b,ν⟩ z).setCell ⟨n,d,ν⟩ g).setCell ⟨n,e,ν⟩ p).setCell ⟨n,f,ν⟩ q).cell? ⟨o,l,ν⟩=μ u4:=
 ⟨lH (lH (lH (lH h.1 a) a) a) a,lH (lH (lH (lH h.2.1 a) a) a) a,lH (lH (lH (lH h.2.2.1 c) c) c) c,lH (lH (lH (lH h.2.2.2 c) c) c) c⟩
def IP(w:ω)(sb oo:Nat)(o:Ot)(T:kn w sb oo o)(G:o.sG=ρ)(m:υ)(c d:Bool)(n:Int):
 Calls prog 242 #[π (μ ⟨sb,oo,ν⟩),ε #[m,β c,β d],ι δ n] w λr f=>r=ξ (τ #[ε #[ι η 0,ι η 0,β c,β d],β (d&&decide (2+bZ o.code+bZ o.av<=n))])/\γ w f ν:=by
 have x:=J (λW(g:γ w W ν)=>zt W sb oo o (T.au g));rw[G]at x;have y:=J (λW=>IL o.av o.code W);obtain⟨c3,c4,c5,c6,c7,c8,-,-⟩:=T;have H:Hid (sb<w.heap.size):=J (eZ w _ c3);clear c4 c5 c6 c7;obtain⟨z,A⟩:=exq (2+bZ o.code+bZ o.av);rw[<-A]at y⊢;clear A;generalize o.av=av at *;generalize o.code=code at *;obtain⟨h,i⟩:=exq (w.alloc (ο #[m,β c,β d] 332));have I:γ w h ν:=by rw[i];exact aJ _ _ _
 have p:h.heap[w.heap.size]?=μ (ο #[m,β c,β d] 332 (0,0)):=by rw[i];exact aO _ _
 have q:h.heap.size=w.heap.size+1:=by rw[i];simp
 obtain⟨B,j⟩:=exq (h.alloc (ο #[ι η 0,ι η 0,β θ,β θ] 377));have C:γ h B ν:=by rw[j];exact aJ _ _ _
 have s:B.heap[w.heap.size+1]?=μ (ο #[ι η 0,ι η 0,β θ,β θ] 377 (0,0)):=by rw[j,<-q];exact aO _ _
 have t:=bE p C;have D:=aq I C;replace⟨p,s,t,q⟩:=fE p s t q;go_enter func242,ntmps242;go_wp2_with fail;rw[<-i,<-j];clear i j;apply(Z x _ D).mono;rintro e a⟨rfl,u⟩;have k:=aq D u;have b:=bE (Z s) u;have l:=bE (Z t) u;have d3:=gC_ k c3;have d8:=gC_ k c8;have K:κ a ⟨w.heap.size,1,ν⟩=μ (β c):=by simp[World.cell?,l]
 have E:κ a ⟨w.heap.size,2,ν⟩=μ (β d):=by simp[World.cell?,l]
 have M:κ a ⟨w.heap.size,1+1,ν⟩=μ (β d):=E;have N:κ a ⟨w.heap.size+1,0,ν⟩=μ (ι η 0):=by simp[World.cell?,b]
 have m1:κ a ⟨w.heap.size+1,1,ν⟩=μ (ι η 0):=by simp[World.cell?,b]
 have O:κ a ⟨w.heap.size+1,2,ν⟩=μ (β θ):=by simp[World.cell?,b]
 have P:κ a ⟨w.heap.size+1,3,ν⟩=μ (β θ):=by simp[World.cell?,b]
 have Q:χ a ⟨w.heap.size+1,0,ν⟩=θ:=fZ_ b;have R:χ a ⟨w.heap.size+1,1,ν⟩=θ:=fZ_ b;have z2:χ a ⟨w.heap.size+1,2,ν⟩=θ:=fZ_ b;have S:χ a ⟨w.heap.size+1,3,ν⟩=θ:=fZ_ b;clear c3 c8;replace⟨b,l⟩:=bD b l;go_wp2_with fail;cases d
 ·go_big_region;go_wp2_with fail;refine df (v:=τ #[ε #[ι η 0,ι η 0,β c,β θ],β θ]) ?_ rfl ⟨rfl,aY (aM (aM (aM (aM (k) _ _ (φ (cf _))) _ _ (φ (cf _))) _ _ (φ (cf _))) _ _ (φ (cf _)))⟩;simp[results,results242,go_sem, *]
 have gd:γ w a.drew ν:=aY k;have U:sb<w.heap.size:=Z H;have L:w.heap.size≠w.heap.size+1:=by omega
 have n2:sb≠w.heap.size+1:=by omega
 have F:a.drew.cell? ⟨w.heap.size,1,ν⟩=μ (β c)/\a.drew.cell? ⟨w.heap.size,2,ν⟩=μ (β ρ)/\a.drew.cell? ⟨sb,oo+3,ν⟩=μ (ι η av)/\a.drew.cell? ⟨sb,oo+8,ν⟩=μ (ι η code):=⟨K,E,d3,d8⟩
 go_region_held3 (λf=>κ f ⟨w.heap.size,1,ν⟩=μ (β c)/\κ f ⟨w.heap.size,2,ν⟩=μ (β ρ)/\κ f ⟨sb,oo+3,ν⟩=μ (ι η av)/\κ f ⟨sb,oo+8,ν⟩=μ (ι η code))
  (first|with_reducible exact F|exact IN F L n2)
  (first|(go_at_call 283;apply(Z y _).mono;rintro e V⟨rfl,rfl⟩))
 all_goals go_wp2_with fail
 all_goals
  refine df (v:=τ #[ε #[ι η 0,ι η 0,β c,β ρ],β (decide (z<=n))]) ?_ rfl ⟨by simp,aM (aM (aM (aM (gd) _ _ (φ (cf _))) _ _ (φ (cf _))) _ _ (φ (cf _))) _ _ (φ (cf _))⟩
  simp[results,results242,go_sem, *]
def JC(w:ω)(sb oo:Nat)(o:Ot)(T:kn w sb oo o)(k:Int)(x:Rg)(g:Bool):
 Calls prog 243 #[π (μ ⟨sb,oo,ν⟩),ι δ k,ε #[ι η x.lo,ι η x.hi,β g,β ρ]] w λe p=>e=ξ (ε #[ι δ 4,ι δ k,ι η o.av,ι η o.code,β θ,ς ⟨#[]⟩,σ ν 0 0])/\γ w p ν:=by
 obtain⟨c3,c4,c5,c6,c7,c8,-,-⟩:=T;obtain⟨m,n⟩:=x;obtain⟨c,d⟩:=exq (w.alloc (ο #[ι η m,ι η n,β g,β ρ] 377));have h:γ w c ν:=by rw[d];exact aJ _ _ _
 have i:c.heap[w.heap.size]?=μ (ο #[ι η m,ι η n,β g,β ρ] 377 (0,0)):=by rw[d];exact aO _ _
 have p3:κ c ⟨w.heap.size,2+1,ν⟩=μ (β ρ):=by simp[World.cell?,i]
 have q:κ c ⟨w.heap.size,3,ν⟩=μ (β ρ):=p3;have d3:=gC_ h c3;have d8:=gC_ h c8;clear c3 c4 c5 c6 c7 c8;generalize o.av=av at *;generalize o.code=code at *;replace i:=J i;have j:c.heap.size=w.heap.size+1:=by rw[d];simp
 obtain⟨a,f⟩:=exq (c.alloc (ο #[ι δ 0,ι δ 0,ι η 0,ι η 0,β θ,ς ⟨#[]⟩,σ ν 0 0] 158));have l:γ c a ν:=by rw[f];exact aJ _ _ _
 have b:a.heap[w.heap.size+1]?=μ (ο #[ι δ 0,ι δ 0,ι η 0,ι η 0,β θ,ς ⟨#[]⟩,σ ν 0 0] 158 (0,0)):=by rw[f,<-j];exact aO _ _
 have r:=gC_ l d3;have s:=gC_ l d8;have t:κ a ⟨w.heap.size+1,0,ν⟩=μ (ι δ 0):=by simp[World.cell?,b]
 have u:χ a ⟨w.heap.size+1,0,ν⟩=θ:=fZ_ b;have y:κ a ⟨w.heap.size+1,1,ν⟩=μ (ι δ 0):=by simp[World.cell?,b]
 have z:χ a ⟨w.heap.size+1,1,ν⟩=θ:=fZ_ b;have A:κ a ⟨w.heap.size+1,2,ν⟩=μ (ι η 0):=by simp[World.cell?,b]
 have z2:χ a ⟨w.heap.size+1,2,ν⟩=θ:=fZ_ b;have B:κ a ⟨w.heap.size+1,3,ν⟩=μ (ι η 0):=by simp[World.cell?,b]
 have C:χ a ⟨w.heap.size+1,3,ν⟩=θ:=fZ_ b;have D:κ a ⟨w.heap.size+1,4,ν⟩=μ (β θ):=by simp[World.cell?,b]
 have E:χ a ⟨w.heap.size+1,4,ν⟩=θ:=fZ_ b;have F:κ a ⟨w.heap.size+1,5,ν⟩=μ (ς ⟨#[]⟩):=by simp[World.cell?,b]
 have G:χ a ⟨w.heap.size+1,5,ν⟩=θ:=fZ_ b;have H:κ a ⟨w.heap.size+1,6,ν⟩=μ (σ ν 0 0):=by simp[World.cell?,b]
 have I:χ a ⟨w.heap.size+1,6,ν⟩=θ:=fZ_ b;replace⟨b,j⟩:=bD b j;go_enter func243,ntmps243;go_wp2_with fail;rw[<-d];clear d;go_wp2_with fail;rw[<-f];clear f d3 d8 p3 q;go_region;go_wp2_with fail;refine df (v:=ε #[ι δ 4,ι δ k,ι η av,ι η code,β θ,ς ⟨#[]⟩,σ ν 0 0]) ?_ rfl ⟨rfl,aY (aM (aM (aM (aM (aM (aM (aM (aq h l) _ _ (φ (cf _))) _ _ (φ (cf _))) _ _ (φ (cf _))) _ _ (φ (cf _))) _ _ (φ (cf _))) _ _ (φ (cf _))) _ _ (φ (cf _)))⟩;simp[results,results243,go_sem, *]
def bq.De(h:bq w a n k Y)(b:Y≠[]->∀z,a=μ z->z.block≠i)(so:Nat)(v:υ):bq (ζ w ⟨i,so,ν⟩ v) a n k Y:=
 h.cM (λhl z c=>dK _ _ _ _ (b hl z c))
def KE(w:ω)(c b:Nat)(cs:Array υ)(t:TypeId)(a:Option Addr)(n cap:Nat)(l:List Rg)(e g:Bool)(x:Rg)(p j:Bool)(E:w.heap[c]?=μ (ο cs t (0,0)))(c0:cs[b]?=μ (σ a n cap))(c1:cs[b+1]?=μ (β e))(c2:cs[b+2]?=μ (β g))(hr:bq w a n cap l)(P:l≠[]->∀y,a=μ y->y.block≠c)(aC:aU l)(hx:x.ok)(hn:n<=1000000):
 Calls prog 241 #[π (μ ⟨c,b,ν⟩),ε #[ι η x.lo,ι η x.hi,β p,β j]] w λr Q=>r=ξ (τ #[])/\
  ∃(f:Option Addr)(A B:Nat)(k:List Rg),γ w Q (μ c)/\Q.heap[c]?=μ (ο (((cs.setIfInBounds b (σ f A B)).setIfInBounds (b+1) (β (e&& !p))).setIfInBounds (b+2) (β (g&& !j))) t (0,0))/\bq Q f A B k/\(f=a\/∀y,f=μ y->w.heap.size<=y.block)/\aU k/\k.length<=l.length+1/\∀m,Sm k m↔Sm l m/\¬(x.lo<=m/\m<x.hi):=by
 have b6:c<w.heap.size:=(bg.1 E).1;obtain⟨u,v⟩:=x;obtain⟨F,R⟩:=exq ((e&& !p));obtain⟨G,S⟩:=exq ((g&& !j));rw[<-R,<-S];have a1:=J (λW=>zr e g p j W);rw[<-R,<-S]at a1;clear R S;obtain⟨d,C⟩:=exq (w.alloc (ο #[ι η u,ι η v,β p,β j] 377));have T:γ w d ν:=by rw[C];exact aJ _ _ _
 have D:d.heap[w.heap.size]?=μ (ο #[ι η u,ι η v,β p,β j] 377 (0,0)):=by rw[C];exact aO _ _
 have b7:d.heap.size=w.heap.size+1:=by rw[C];simp
 have p0:κ d ⟨w.heap.size,0,ν⟩=μ (ι η u):=by simp[World.cell?,D]
 have p1:κ d ⟨w.heap.size,1,ν⟩=μ (ι η v):=by simp[World.cell?,D]
 have H:=bE E T;have hA:=J (λW(g:γ d W ν)=>BY W c b cs t a n cap l ⟨u,v⟩ (bE H g) c0 (hr.au (aq T g)) P aC hx hn);replace D:=J D;go_enter func241,ntmps241;go_wp2_with fail;rw[<-C];clear C;go_region_with (first|(go_at_call 281;apply(Z hA d.drew (aY (aD _ _))).mono;rintro e i⟨rfl,f,A,B,k,⟨I,hU⟩,a4,q,U,a8,V⟩));go_wp2_with fail;have a9:γ w i (μ c):=aq (dy (aY T) _) I;have s:=hU cs t H;have b8:d.heap.size<=i.heap.size:=I.size;have K:i.heap[w.heap.size]?=μ (ο #[ι η u,ι η v,β p,β j] 377 (0,0)):=(I.block _ (by show w.heap.size<d.heap.size;omega) (λe=>by cases e;omega)).trans (Z D);have X:k≠[]->∀y,f=μ y->y.block≠c:=λhl y e=>by
  obtain q|q:=q
  refine P (λe0=>hl ?_) y (q▸e);cases k with
  |nil=>rfl
  |cons r k=>
   have h1:=(V r.lo).1 ⟨r,by simp,cE _,U.2 r (by simp)⟩;rw[e0]at h1;exact absurd h1.1 (fP _)
  have:d.heap.size<=y.block:=q y e;omega
 have bj:f=a\/∀y,f=μ y->w.heap.size<=y.block:=q.imp id (λh y e=>by have:d.heap.size<=y.block:=h y e;omega);obtain⟨br,z⟩:=exq (cs.setIfInBounds b (σ f A B));rw[<-z]at s;have d1:br[b+1]?=μ (β e):=by rw[z];simpa [lz]using c1
 have d2:br[b+1+1]?=μ (β g):=by rw[z,show b+1+1=b+2 from rfl];simpa [lz]using c2
 have m1:κ i ⟨c,b+1,ν⟩=μ (β e):=(aZ s _).trans d1;have m2:κ i ⟨c,b+1+1,ν⟩=μ (β g):=(aZ s _).trans d2;have q2:κ i ⟨w.heap.size,2,ν⟩=μ (β p):=by simp[World.cell?,K]
 have q3:κ i ⟨w.heap.size,2+1,ν⟩=μ (β j):=by simp[World.cell?,K]
 have ch:κ i ⟨w.heap.size,3,ν⟩=μ (β j):=q3;have b4:Hid (∀W,γ i W ν->∃(L:Option Addr)(n₁ c₁:Nat)(M:List Rg),γ w ((ζ W ⟨c,b+1,ν⟩ (β F)).setCell ⟨c,b+1+1,ν⟩ (β G)) (μ c)/\((ζ W ⟨c,b+1,ν⟩ (β F)).setCell ⟨c,b+1+1,ν⟩ (β G)).heap[c]?=μ (ο (((cs.setIfInBounds b (σ L n₁ c₁)).setIfInBounds (b+1) (β F)).setIfInBounds (b+2) (β G)) t (0,0))/\bq ((ζ W ⟨c,b+1,ν⟩ (β F)).setCell ⟨c,b+1+1,ν⟩ (β G)) L n₁ c₁ M/\(L=a\/∀y,L=μ y->w.heap.size<=y.block)/\aU M/\M.length<=l.length+1/\∀m,Sm M m↔Sm l m/\¬(u<=m/\m<v)):=J (λW Y=>
  ⟨f,A,B,k,aM (aM (aq a9 (dy Y _)) _ _ (ψ rfl)) _ _ (ψ rfl),by rw[<-z];exact heap_set (heap_set (bE s Y) _) _,((a4.au Y).De X _ _).De X _ _,bj,U,a8,V⟩)
 replace⟨s,K,H,E,z⟩:=fF s K H E z;clear hU hA a4 q bj U a8 V hr aC P X c0 c1 c2 d1 d2 p0 p1 I a9 hx;go_region_with (first|(go_at_call 282;apply(Z a1 _).mono;rintro e w5⟨rfl,g5⟩;have N:γ i w5 ν:=(aq (aY (aD _ _)) g5);have O:=bE (Z s) N;have b1:=gC_ N m1;have b2:=gC_ N m2;have z1:χ w5 ⟨c,b+1,ν⟩=θ:=(by simp[World.frozen?,O]);have z2:χ w5 ⟨c,b+1+1,ν⟩=θ:=(by simp[World.frozen?,O]);replace O:=J O));all_goals go_wp2_with fail
 all_goals exact gD (fe rfl _ _ _) rfl ⟨rfl,Z b4 _ N⟩
