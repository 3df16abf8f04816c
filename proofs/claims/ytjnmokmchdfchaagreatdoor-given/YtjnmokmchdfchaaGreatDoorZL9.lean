import Derived.Test.YtjnmokmchdfchaaGreatDoorZL6
set_option maxRecDepth 1000000
set_option maxHeartbeats 0
set_option linter.all false
namespace Go.Proofs.YtjnmokmchdfchaaGreatDoor
open Go.RowKit Tryz
open Go.Value renaming int→ι,slice→σ,bool→β,pointer→π,agg→ε,string→ς,tuple→τ
open Go.IntKind renaming i64→δ,u64→η,u8→Δ
open Go.Ending renaming returned→ξ
open Go.Obj renaming cells→ο
open Or renaming inl→φ,inr→ψ
open Option renaming some→μ,none→ν
open Bool renaming true→ρ,false→θ
open Go renaming World→ω,Value→υ
open Go.World renaming grownBy→γ,cell?→κ,frozen?→χ,setCell→ζ
attribute[local go_sem↓]Go.wp_at_zero Go.wp_at_succ
def JD(w:ω)(sb oo:Nat)(cs:Array υ)(t:TypeId)(ab:Option Addr)(nb cb:Nat)(ac:Option Addr)(nc cc:Nat)(o:Ot)(s:w.heap[sb]?=μ (ο cs t (0,0)))(H:gZ w sb oo ab nb cb ac nc cc o.h)(T:kn w sb oo o)(k:Int)(x:Rg)(f:Bool)(i j:Nat)(hi:i<=j)(hj:j<=o.h.bytes.length)(B:x.lo=o.h.fr+i)(C:x.hi=o.h.fr+j)(aC:∀y,ab=μ y->y.block≠sb)(a0:∀y,ac=μ y->y.block≠sb):
 Calls prog 243 #[π (μ ⟨sb,oo,ν⟩),ι δ k,ε #[ι η x.lo,ι η x.hi,β f,β θ]] w λe V=>e=ξ (ε #[ι δ 5,ι δ k,ι η x.lo,ι η 0,β f,ς (strOfNums ((o.h.bytes.drop i).take (j-i))),σ ν 0 0])/\γ w V (μ sb)/\V.heap[sb]?=μ (ο (cs.setIfInBounds (oo+3) (ι η (max o.av x.hi))) t (0,0)):=by
 have a1:sb<w.heap.size:=(bg.1 s).1;obtain⟨c3,c4,c5,c6,c7,c8,-,-⟩:=T;obtain⟨m,d⟩:=x;simp only at B C⊢;obtain⟨n,u⟩:=exq (w.alloc (ο #[ι η m,ι η d,β f,β θ] 377));have L:γ w n ν:=by rw[u];exact aJ _ _ _
 have D:n.heap[w.heap.size]?=μ (ο #[ι η m,ι η d,β f,β θ] 377 (0,0)):=by rw[u];exact aO _ _
 have p3:κ n ⟨w.heap.size,3,ν⟩=μ (β θ):=by simp[World.cell?,D]
 have M:n.heap.size=w.heap.size+1:=by rw[u];simp
 obtain⟨z,E⟩:=exq (n.alloc (ο #[ι δ 0,ι δ 0,ι η 0,ι η 0,β θ,ς ⟨#[]⟩,σ ν 0 0] 158));have F:γ n z ν:=by rw[E];exact aJ _ _ _
 have N:z.heap[w.heap.size+1]?=μ (ο #[ι δ 0,ι δ 0,ι η 0,ι η 0,β θ,ς ⟨#[]⟩,σ ν 0 0] 158 (0,0)):=by rw[E,<-M];exact aO _ _
 have G:=bE D F;have p1:κ z ⟨w.heap.size,1,ν⟩=μ (ι η d):=by simp[World.cell?,G]
 have I:=bE (bE s L) F;have d3:=F.cell (gC_ L c3) (by simp);have f3:χ z ⟨sb,oo+3,ν⟩=θ:=fZ_ I;clear c3 c4 c5 c6 c7 c8;replace⟨B,C,D,N,G,I,s,M⟩:=qT B C D N G I s M;go_enter func243,ntmps243;go_wp2_with fail;rw[<-u];clear u;go_wp2_with fail;rw[<-E];clear E;go_region;obtain⟨O,P⟩:=exq (if o.av<d then d else o.av);rw[<-P];have Q:max o.av d=O:=by rw[P];split<;>omega
 replace Q:=J Q;obtain⟨c,p⟩:=exq ((ζ z ⟨sb,oo+3,ν⟩ (ι η O)).drew);rw[<-p];have R:γ w c (μ sb):=by rw[p];exact aY (aM (aq (dy L _) (dy F _)) _ _ (ψ rfl))
 have q:c.heap[sb]?=μ (ο (cs.setIfInBounds (oo+3) (ι η O)) t (0,0)):=by rw[p];exact heap_set (Z I) _
 have A:c.heap[w.heap.size]?=μ (ο #[ι η m,ι η d,β f,β θ] 377 (0,0)):=by rw[p];exact(dK _ _ _ _ (by show w.heap.size≠sb;omega)).trans (Z G)
 have S:c.heap[w.heap.size+1]?=μ (ο #[ι δ 0,ι δ 0,ι η 0,ι η 0,β θ,ς ⟨#[]⟩,σ ν 0 0] 158 (0,0)):=by rw[p];exact(dK _ _ _ _ (by show w.heap.size+1≠sb;omega)).trans (Z N)
 have H3:gZ c sb oo ab nb cb ac nc cc o.h:=by
  obtain⟨X,Y,a2,a3,a4,a5⟩:=H;rw[aZ (Z s)]at X Y a2;refine⟨?_,?_,?_,a3.gb R (λj e=>ψ (ψ (λy ey=>by cases e;exact aC y ey))),a4.gb R (λy e e'=>a0 y e (by cases e';rfl)),a5⟩
  rw[aZ q];simpa [lz]using X;rw[aZ q];simpa [lz]using Y;rw[aZ q];simpa [lz]using a2
 clear P p H d3 f3 p1;have al:=J (λW(g:γ c W ν)=>Cm W sb oo ab nb cb ac nc cc o.h (H3.au g) i j hi hj m d (Z B) (Z C));obtain⟨l,hl⟩:=exq ((o.h.bytes.drop i).take (j-i));rw[<-hl]at al;have q0:κ c ⟨w.heap.size,0,ν⟩=μ (ι η m):=by simp[World.cell?,A]
 have q1:κ c ⟨w.heap.size,1,ν⟩=μ (ι η d):=by simp[World.cell?,A]
 have q2:κ c ⟨w.heap.size,2,ν⟩=μ (β f):=by simp[World.cell?,A]
 replace⟨A,S,q,hl⟩:=fE A S q hl;go_wp2_with fail;go_region_with (first|(go_at_call 285;apply(Z al c.drew (aY (aD _ _))).mono;rintro e b⟨a5,rfl,U,ax,K⟩;have r:γ c b ν:=aq (aY (aD _ _)) K;have a:=bE (Z S) r;have a8:=uF (U.au K);have r0:=gC_ r q0;have r1:=gC_ r q1;have r2:=gC_ r q2;have m0:κ b ⟨w.heap.size+1,0,ν⟩=μ (ι δ 0):=(by simp[World.cell?,a]);have z0:χ b ⟨w.heap.size+1,0,ν⟩=θ:=(by simp[World.frozen?,a]);have m1:κ b ⟨w.heap.size+1,1,ν⟩=μ (ι δ 0):=(by simp[World.cell?,a]);have z1:χ b ⟨w.heap.size+1,1,ν⟩=θ:=(by simp[World.frozen?,a]);have m2:κ b ⟨w.heap.size+1,2,ν⟩=μ (ι η 0):=(by simp[World.cell?,a]);have z2:χ b ⟨w.heap.size+1,2,ν⟩=θ:=(by simp[World.frozen?,a]);have m3:κ b ⟨w.heap.size+1,3,ν⟩=μ (ι η 0):=(by simp[World.cell?,a]);have z3:χ b ⟨w.heap.size+1,3,ν⟩=θ:=(by simp[World.frozen?,a]);have m4:κ b ⟨w.heap.size+1,4,ν⟩=μ (β θ):=(by simp[World.cell?,a]);have z4:χ b ⟨w.heap.size+1,4,ν⟩=θ:=(by simp[World.frozen?,a]);have m5:κ b ⟨w.heap.size+1,5,ν⟩=μ (ς ⟨#[]⟩):=(by simp[World.cell?,a]);have z5:χ b ⟨w.heap.size+1,5,ν⟩=θ:=(by simp[World.frozen?,a]);have m6:κ b ⟨w.heap.size+1,6,ν⟩=μ (σ ν 0 0):=(by simp[World.cell?,a]);have z6:χ b ⟨w.heap.size+1,6,ν⟩=θ:=(by simp[World.frozen?,a]);replace a:=J a;replace K:=J K;replace ax:=J ax;replace U:=J U));all_goals go_wp2_with fail
 all_goals
  rw[Z Q,<-Z hl]
  refine df (v:=ε #[ι δ 5,ι δ k,ι η m,ι η 0,β f,ς (strOfNums l),σ ν 0 0]) ?_ rfl ⟨rfl,(aM (aM (aM (aM (aM (aM (aM (aq R (dy r _)) _ _ (φ (cf _))) _ _ (φ (cf _))) _ _ (φ (cf _))) _ _ (φ (cf _))) _ _ (φ (cf _))) _ _ (φ (cf _))) _ _ (φ (cf _))),(dK _ _ _ _ (by show sb≠w.heap.size+1;omega)).trans ((dK _ _ _ _ (by show sb≠w.heap.size+1;omega)).trans ((dK _ _ _ _ (by show sb≠w.heap.size+1;omega)).trans ((dK _ _ _ _ (by show sb≠w.heap.size+1;omega)).trans ((dK _ _ _ _ (by show sb≠w.heap.size+1;omega)).trans ((dK _ _ _ _ (by show sb≠w.heap.size+1;omega)).trans ((dK _ _ _ _ (by show sb≠w.heap.size+1;omega)).trans (bE (Z q) r)))))))⟩
  simp[results,results243,go_sem, *]
