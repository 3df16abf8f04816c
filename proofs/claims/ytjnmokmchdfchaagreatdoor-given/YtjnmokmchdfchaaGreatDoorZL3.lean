import Derived.Deep.RegionLaw
import Derived.Test.YtjnmokmchdfchaaGreatDoorZL1
set_option maxRecDepth 1000000
set_option maxHeartbeats 0
set_option linter.all false
namespace Go.Proofs.YtjnmokmchdfchaaGreatDoor
open Go.RowKit Tryz
open Go.Value renaming int→ι,slice→σ,bool→β,pointer→π,agg→ε,string→ς,tuple→τ
open Go.IntKind renaming i64→δ,u64→η,u8→Δ
open Go.Ending renaming returned→ξ
open Go.Obj renaming cells→ο
open Or renaming inl→φ,inr→ψ
open Option renaming some→μ,none→ν
open Bool renaming true→ρ,false→θ
open Go renaming World→ω,Value→υ
open Go.World renaming grownBy→γ,cell?→κ,frozen?→χ,setCell→ζ
attribute[local go_sem↓]Go.wp_at_zero Go.wp_at_succ
variable{H:Act}{c:Array υ}{B:Bool}{u:Exit->Act->ω->Prop}{p q:Int}{L:List Int}{Y:List Rg}{b i j k n o:Nat}{P S:Nat->Prop}{U:Oper}{O a:Option Addr}{N:Option Nat}{T:TypeId}{x y z:υ}{V W v w:ω}{R:ω->Prop}
def H9(w:ω)(a:Nat)(b:a<=w.heap.size):bn (w.alloc (ο #[] 5)) a (σ (μ ⟨w.heap.size,0,ν⟩) 0 0) []:=
 ⟨(λx c=>by cases c),by simp[bv],ψ ⟨w.heap.size,0,#[],rfl,b,aO w _,aP _,by simp[maxLen],by simp,by simp[bv]⟩⟩
def Ia(w:ω):(binOp .eql 112 (σ ν 0 0) (σ ν 0 0)).run prog w=.ok (β ρ) w:=by
 have h:∀d:Nat,(Op.equalIn (d+1) 112 (σ ν 0 0) (σ ν 0 0)).run prog w=.ok ρ w:=λd=>by
  simp[Op.equalIn,wK underlying112]
 simp only[binOp]
 simp[Op.equal,Op.maxDepth,h 9999]
def Ib(w:ω)(y:Addr)(n c:Nat):(binOp .eql 112 (σ (μ y) n c) (σ ν 0 0)).run prog w=.ok (β θ) w:=by
 have h:∀d:Nat,(Op.equalIn (d+1) 112 (σ (μ y) n c) (σ ν 0 0)).run prog w=.ok θ w:=λd=>by
  simp[Op.equalIn,wK underlying112]
 simp only[binOp]
 simp[Op.equal,Op.maxDepth,h 9999]
def Ic(a:Option Addr)(n c:Nat)(l:List Int)(w:ω)(f:bN w a n c l)(hl:l.length<=2000000):
 Calls prog 259 #[σ a n c] w λe g=>(∃i j,e=ξ (σ i n j)/\bn g w.heap.size (σ i n j) l)/\γ w g ν:=by
 obtain⟨R,d⟩:∃R:Ending->ω->Prop,R=λe g=>(∃i j,e=ξ (σ i n j)/\bn g w.heap.size (σ i n j) l)/\γ w g ν:=⟨_,rfl⟩
 rw[<-d];replace d:=J d;have m:n=l.length:=f.2.1;cases a with
 |none=>
  have s:n=0:=by
   obtain⟨-,-,t,-,⟨-,h⟩|⟨b,o,h,-⟩⟩:=f;omega;cases h
  have u:c=0:=by
   obtain⟨-,-,t,-,⟨-,h⟩|⟨b,o,h,-⟩⟩:=f;exact h;cases h
  subst s u;have v:l=[]:=eN_;subst v;have p:Hid (R (ξ (σ ν 0 0)) w):=J (by rw[Z d];exact⟨⟨ν,0,rfl,bn.nil _ _⟩,aD _ _⟩);have x:=Ia;clear f hl m d;go_enter func259,ntmps259;go_wp2_with fail;exact Z p
 |some y=>
  have o1:=J (H9 w w.heap.size (aP _));have z:=J (f.au (aJ w (ο #[] 5) ν));replace m:=J m;have x:=λW=>Ib W y n c
  go_enter func259,ntmps259;go_wp2_with (at_builtin;refine sS (by rfl) _ _ (by rfl) w.heap.size _ [] (by rfl) (Z o1) _ _ _ l (by rfl) (Z z) (by simp;omega) (by simp) ?_;intro q c3 A r B _;simp only[fM,ep,jL]at r⊢);have p:R (ξ (σ q l.length c3)) A:=by
   rw[Z d];refine⟨⟨q,c3,by rw[Z m],?_⟩,cT (aJ w (ο #[] 5) ν) B (λk e=>φ ((Z o1).lt k e).1)⟩
   rw[Z m];simpa using r
  exact p
def bn.low{b2:Nat}(h:bn w n x L)(b:b2<=n):bn w b2 x L:=by
 obtain⟨c,d,a⟩:=h;refine⟨c,d,?_⟩
 obtain a|⟨g,cap,cur,e1,e2,e⟩:=a
 exact φ a;exact ψ ⟨g,cap,cur,e1,bK b e2,e⟩
def bn.ah{sb:Nat}(h:bn w n x L)(a:x.ownBlock≠μ sb)(so:Nat)(u:υ):bn (ζ w ⟨sb,so,ν⟩ u) n x L:=
 h.gb (aM (aD w (μ sb)) ⟨sb,so,ν⟩ u (ψ rfl)) (ψ a)
def Ce(h:BS w b o L)(n:Nat):BS w b (o+n) (L.drop n):=by
 refine⟨λi hi=>?_,λx a=>h.2 x (iH a)⟩
 rw[dO]at hi;have:=h.1 (n+i) (by omega);rw[show o+n+i=o+(n+i) by omega,this];simp[lC]
def sY:prog.elem 112=5:=by kernel_rfl
def zp(W:ω):(sizeOf 5).run prog W=.ok 1 W:=by kernel_rfl
def Ie(a:Option Addr)(n cap j:Nat)(h:j<=n)(W:ω):(Instr.slice 112 (σ a n cap) (μ (ι δ j)) ν ν).run prog W=.ok (σ (if cap=j then a else a.map (·.add j)) (n-j) (cap-j)) W:=by
 rw[run_slice_l W 112 a n cap (by rw[sY];exact underlying112) δ (j:Int) (by omega) (by omega),sY,zp];simp only[jh,sliced,oE,Nat.mul_one]
def Ig(h:bN w a n k L)(d:∀z,a=μ z->z.block≠j)(so:Nat)(v:υ):bN (ζ w ⟨j,so,ν⟩ v) a n k L:=by
 obtain⟨e,f,g,l,c⟩:=h;refine⟨e,f,g,l,?_⟩
 obtain c|⟨b,o,rfl,c⟩:=c
 exact φ c;exact ψ ⟨b,o,rfl,λi hi=>(mn (w:=w) (a:=⟨b,o+i,ν⟩) (dK _ _ _ _ (d _ rfl))).trans (c.1 i hi),c.2⟩
def zq(h:bN w a n k L)(j:Nat)(m:j<=n)(d:k-j=0/\O=a\/∃b o,a=μ ⟨b,o,ν⟩/\O=μ ⟨b,o+j,ν⟩):(k-j=0->O=ν\/∃b o,O=μ ⟨b,o,ν⟩)->bN w O (n-j) (k-j) (L.drop j):=by
 intro g;obtain⟨l,p,q,r,c⟩:=h;refine⟨λx f=>l x (iH f),by rw[dO];omega,by omega,by omega,?_⟩
 obtain⟨d,rfl⟩|⟨b,o,rfl,rfl⟩:=d
 obtain rfl|⟨b,o,rfl⟩:=g d
 exact φ ⟨rfl,d⟩;refine ψ ⟨b,o,rfl,?_⟩;have:L.drop j=[]:=kJ (by rw[dO];omega);rw[this];exact⟨λi hi=>by simp at hi,λx f=>by simp at f⟩
 obtain⟨c,-⟩|⟨s,t,e,c⟩:=c
 cases c;cases e;exact ψ ⟨_,_,rfl,Ce c j⟩
def Cf(w:ω)(sb ho:Nat)(cs:Array υ)(t:TypeId)(ab:Option Addr)(nb cb:Nat)(ac:Option Addr)(nc cc:Nat)(h:Hd)(K:w.heap[sb]?=μ (ο cs t (0,0)))(H:gZ w sb ho ab nb cb ac nc cc h)(k:Nat)(hk:h.fr+k<=4611686018427387903)(ax:∀y,ab=μ y->y.block≠sb):
 Calls prog 221 #[π (μ ⟨sb,ho,ν⟩),ι δ k] w λe O=>e=ξ (τ #[])/\∃P E,γ w O (μ sb)/\O.heap[sb]?=μ (ο ((cs.setIfInBounds ho (ι η (h.fr+k))).setIfInBounds (ho+1) (σ P (h.bytes.drop k).length E)) t (0,0))/\bn O w.heap.size (σ P (h.bytes.drop k).length E) (h.bytes.drop k)/\(∀y,P=μ y->w.heap.size<=y.block):=by
 obtain⟨c0,c1,c2,r,-,⟨k0,k1,-,k3,-⟩⟩:=H;obtain⟨fr,bytes,af⟩:=h;simp only at *;have F:nb=bytes.length:=r.2.1;have f0:χ w ⟨sb,ho,ν⟩=θ:=fZ_ K;have hw:IntKind.u64.wrap (fr+(k:Int))=fr+(k:Int):=by rw[fW];omega
 have a8:IntKind.u64.wrap (k:Int)=(k:Int):=by rw[fW];omega
 obtain⟨a,s⟩:=exq (ζ w ⟨sb,ho,ν⟩ (ι η (fr+(k:Int))));have L:γ w a (μ sb):=by rw[s];exact aM (aD _ _) _ _ (ψ rfl)
 have p:a.heap[sb]?=μ (ο (cs.setIfInBounds ho (ι η (fr+(k:Int)))) t (0,0)):=by rw[s];exact heap_set K _
 have M:κ a ⟨sb,ho+1,ν⟩=μ (σ ab nb cb):=by
  simp only[World.cell?,K]at c1;simp only[World.cell?,p]
  rw[aN_];exact c1
 have u:bN a ab nb cb bytes:=by rw[s];exact Ig r ax ho _
 obtain⟨j,V⟩:=exq (min k nb);have N:j<=nb:=by omega
 obtain⟨v,d⟩:=exq ((if cb=j then ab else ab.map (·.add j)));have jq:∀W,(Instr.slice 112 (σ ab nb cb) (μ (ι δ j)) ν ν).run prog W=.ok (σ v (nb-j) (cb-j)) W:=λW=>by rw[d];exact Ie _ nb cb j N W
 have Q:bN a v (nb-j) (cb-j) (bytes.drop j):=by
  have aC:=u.2.2.1;obtain⟨-,-,-,-,⟨rfl,h0⟩|⟨b,o,rfl,-⟩⟩:=id u;refine zq u j N (φ ⟨by omega,by rw[d];split<;>rfl⟩) (λ_=>φ (by rw[d];split<;>rfl));by_cases R:cb=j;refine zq u j N (φ ⟨by omega,by rw[d,aG R]⟩) (λ_=>ψ ⟨b,o,by rw[d,aG R]⟩);refine zq u j N (ψ ⟨b,o,rfl,by rw[d,aB R];simp only[sN,Addr.add_mid]⟩) (λh=>by omega)
 have S:bytes.drop j=bytes.drop k:=by
  by_cases a0:k<=nb;rw[show j=k by omega];rw[wA (by omega),wA (by omega)]
 have D:nb-j=(bytes.drop k).length:=by rw[<-S,dO,F]
 have G:=J (λW(g:γ a W ν)(X E:Nat)(e1:X=nb-j)(e2:E=cb-j)=>Ic v X E (bytes.drop j) W (by rw[e1,e2];exact Q.au g) (by rw[dO];omega));have a9:sb<w.heap.size:=(bg.1 K).1;have i:a.heap.size=w.heap.size:=by rw[s];simp[World.setCell]
 replace⟨S,D,r,u,Q,F,d⟩:=iU S D r u Q F d;have Y:min (k:Int) (nb:Int)=(j:Int):=by omega
 have bb:γ a a.drew (μ sb):=aY (aD _ _);go_enter func221,ntmps221;go_wp2_with fail;rw[<-s];replace s:=J s;have i1:(j:Int)<=nb:=by omega
 have aC:=(Z r).2.2.1;clear jq;replace i:=J i;by_cases a0:k<=nb
 ·have d1:decide ((k:Int)<=nb)=ρ:=dT_;have d2:decide ((nb:Int)<k)=θ:=dF_;obtain rfl:j=k:=by omega
  clear V Y;by_cases I:cb=j
  ·have x:v=ab:=by rw[Z d,aG I]
   subst x;clear d;go_region_with (first|(go_at_call 259;apply(Z G _ (aY (aD _ _)) _ _ (by omega) (by omega)).mono;rintro e l⟨⟨a5,c5,rfl,f⟩,z⟩;have c:γ a l ν:=(aq (aY (aD _ _)) z);have T:=gC_ c M;have f5:χ l ⟨sb,ho+1,ν⟩=θ:=(by simp[World.frozen?,bE p c])));all_goals
    have A:∀y,a5=μ y->w.heap.size<=y.block:=λy B=>by
     have U:a.drew.heap.size<=y.block:=(f.lt y.block (by rw[B];rfl)).1;have m:=Z i;have n:a.drew.heap.size=a.heap.size:=rfl;omega
    refine gD (fe rfl _ _ _) rfl ⟨rfl,a5,c5,aq L (aM (dy c _) _ _ (ψ rfl)),?_,?_,A⟩
    rw[<-Z D];exact heap_set (bE p c) _
    have C:=(f.low (b2:=w.heap.size) (by have m:=Z i;have n:a.drew.heap.size=a.heap.size:=rfl;omega)).ah (sb:=sb) (λe=>by have:=(f.lt _ e).1;have m:=Z i;have n:a.drew.heap.size=a.heap.size:=rfl;omega) (ho+1) (σ a5 (nb-j) c5)
    rw[<-Z D]
    exact C
  obtain⟨b,o,rfl⟩:∃b o,ab=μ ⟨b,o,ν⟩:=by
   obtain⟨-,-,-,-,⟨-,h0⟩|⟨b,o,rfl,-⟩⟩:=Z r;omega;exact⟨b,o,rfl⟩
  have x:v=μ ⟨b,o+j,ν⟩:=by rw[Z d,aB I];simp only[sN,Addr.add_mid]
  subst x;clear d;go_region_with (first|(go_at_call 259;apply(Z G _ (aY (aD _ _)) _ _ (by omega) (by omega)).mono;rintro e l⟨⟨a5,c5,rfl,f⟩,z⟩;have c:γ a l ν:=(aq (aY (aD _ _)) z);have T:=gC_ c M;have f5:χ l ⟨sb,ho+1,ν⟩=θ:=(by simp[World.frozen?,bE p c])));all_goals
   have A:∀y,a5=μ y->w.heap.size<=y.block:=λy B=>by
    have U:a.drew.heap.size<=y.block:=(f.lt y.block (by rw[B];rfl)).1;have m:=Z i;have n:a.drew.heap.size=a.heap.size:=rfl;omega
   refine gD (fe rfl _ _ _) rfl ⟨rfl,a5,c5,aq L (aM (dy c _) _ _ (ψ rfl)),?_,?_,A⟩
   rw[<-Z D];exact heap_set (bE p c) _
   have C:=(f.low (b2:=w.heap.size) (by have m:=Z i;have n:a.drew.heap.size=a.heap.size:=rfl;omega)).ah (sb:=sb) (λe=>by have:=(f.lt _ e).1;have m:=Z i;have n:a.drew.heap.size=a.heap.size:=rfl;omega) (ho+1) (σ a5 (nb-j) c5)
   rw[<-Z D]
   exact C
 have d1:decide ((k:Int)<=nb)=θ:=dF_;have d2:decide ((nb:Int)<k)=ρ:=dT_;obtain rfl:j=nb:=by omega
 clear V Y;have q:bytes.drop k=[]/\(bytes.drop k).length=0:=by
  have hd:bytes.drop k=[]:=wA (by have:=Z F;omega);exact⟨hd,by rw[hd];rfl⟩
 have al:bytes.drop j=[]:=wA (by have:=Z F;omega);rw[al]at G;clear al;replace q:=J q;by_cases I:cb=j
 ·have x:v=ab:=by rw[Z d,aG I]
  subst x;clear d;go_region_with (first|(go_at_call 259;apply(Z G _ (aY (aD _ _)) _ _ (by omega) (by omega)).mono;rintro e l⟨⟨a5,c5,rfl,f⟩,z⟩;have c:γ a l ν:=(aq (aY (aD _ _)) z);have T:=gC_ c M;have f5:χ l ⟨sb,ho+1,ν⟩=θ:=(by simp[World.frozen?,bE p c])));all_goals
   have A:∀y,a5=μ y->w.heap.size<=y.block:=λy B=>by
    have U:a.drew.heap.size<=y.block:=(f.lt y.block (by rw[B];rfl)).1;have m:=Z i;have n:a.drew.heap.size=a.heap.size:=rfl;omega
   refine gD (fe rfl _ _ _) rfl ⟨rfl,a5,c5,aq L (aM (dy c _) _ _ (ψ rfl)),?_,?_,A⟩
   rw[(Z q).2];exact heap_set (bE p c) _
   have C:=(f.low (b2:=w.heap.size) (by have m:=Z i;have n:a.drew.heap.size=a.heap.size:=rfl;omega)).ah (sb:=sb) (λe=>by have:=(f.lt _ e).1;have m:=Z i;have n:a.drew.heap.size=a.heap.size:=rfl;omega) (ho+1) (σ a5 0 c5)
   rw[(Z q).2,(Z q).1]
   exact C
 obtain⟨b,o,rfl⟩:∃b o,ab=μ ⟨b,o,ν⟩:=by
  obtain⟨-,-,-,-,⟨-,h0⟩|⟨b,o,rfl,-⟩⟩:=Z r;omega;exact⟨b,o,rfl⟩
 have x:v=μ ⟨b,o+j,ν⟩:=by rw[Z d,aB I];simp only[sN,Addr.add_mid]
 subst x;clear d;go_region_with (first|(go_at_call 259;apply(Z G _ (aY (aD _ _)) _ _ (by omega) (by omega)).mono;rintro e l⟨⟨a5,c5,rfl,f⟩,z⟩;have c:γ a l ν:=(aq (aY (aD _ _)) z);have T:=gC_ c M;have f5:χ l ⟨sb,ho+1,ν⟩=θ:=(by simp[World.frozen?,bE p c])));all_goals
  have A:∀y,a5=μ y->w.heap.size<=y.block:=λy B=>by
   have U:a.drew.heap.size<=y.block:=(f.lt y.block (by rw[B];rfl)).1;have m:=Z i;have n:a.drew.heap.size=a.heap.size:=rfl;omega
  refine gD (fe rfl _ _ _) rfl ⟨rfl,a5,c5,aq L (aM (dy c _) _ _ (ψ rfl)),?_,?_,A⟩
  rw[(Z q).2];exact heap_set (bE p c) _
  have C:=(f.low (b2:=w.heap.size) (by have m:=Z i;have n:a.drew.heap.size=a.heap.size:=rfl;omega)).ah (sb:=sb) (λe=>by have:=(f.lt _ e).1;have m:=Z i;have n:a.drew.heap.size=a.heap.size:=rfl;omega) (ho+1) (σ a5 0 c5)
  rw[(Z q).2,(Z q).1]
  exact C
structure Ot where
 h:Hd
 av:Int
 sE:Bool
 sG:Bool
 tE:Bool
 tG:Bool
 code:Int
def kn(w:ω)(sb oo:Nat)(o:Ot):Prop:=
 κ w ⟨sb,oo+3,ν⟩=μ (ι η o.av)/\κ w ⟨sb,oo+4,ν⟩=μ (β o.sE)/\κ w ⟨sb,oo+5,ν⟩=μ (β o.sG)/\κ w ⟨sb,oo+6,ν⟩=μ (β o.tE)/\κ w ⟨sb,oo+7,ν⟩=μ (β o.tG)/\κ w ⟨sb,oo+8,ν⟩=μ (ι η o.code)/\aW o.av/\aW o.code
def zr(e g x y:Bool)(w:ω):Calls prog 282 #[ε #[β e,β g],ε #[β x,β y]] w λr a=>r=ξ (ε #[β (e&& !x),β (g&& !y)])/\γ w a ν:=by
 cases e<;>cases g;all_goals
  go_enter func282,ntmps282
  go_wp2_with fail
  refine df (v:=ε #[β (_&& !x),β (_&& !y)]) ?_ rfl ⟨rfl,?_⟩
  ·simp[results,results282,go_sem]
  exact bk (bk (bk (aD _ _) _) _) _
def zt(w:ω)(sb oo:Nat)(o:Ot)(H:kn w sb oo o):Calls prog 153 #[π (μ ⟨sb,oo,ν⟩)] w λr a=>r=ξ (β o.sG)/\γ w a ν:=by
 obtain⟨c3,c4,c5,c6,c7,c8,-,-⟩:=H;go_enter func153,ntmps153;go_wp2_with fail;first
  |go_quiet (fail)
  |skip
 go_wp2;go_ret;exact⟨rfl,by repeat(first|exact aD _ _|apply dv|apply aY|apply bk)⟩
def Ih(w:ω)(sb oo:Nat)(o:Ot)(H:kn w sb oo o):Calls prog 195 #[π (μ ⟨sb,oo,ν⟩)] w λr a=>r=ξ (β (o.sE||o.sG))/\γ w a ν:=by
 obtain⟨c3,c4,c5,c6,c7,c8,-,-⟩:=H;generalize o.sE=e at *;generalize o.sG=g at *;cases e<;>cases g<;>
 (go_enter func195,ntmps195
  go_wp2_with fail
  first
   |go_quiet (fail)
   |skip
  go_wp2
  go_ret
  exact⟨rfl,by repeat(first|exact aD _ _|apply dv|apply aY|apply bk)⟩)
def Ik(w:ω)(sb oo:Nat)(fr:Int)(h0:κ w ⟨sb,oo,ν⟩=μ (ι η fr))(b:0<=fr/\fr<=4611686018427387903):Calls prog 169 #[π (μ ⟨sb,oo,ν⟩)] w λr a=>r=ξ (ι δ fr)/\γ w a ν:=by
 have c:IntKind.i64.wrap fr=fr:=wI_;go_enter func169,ntmps169;go_wp2_with fail;first
  |go_quiet (fail)
  |skip
 go_wp2;go_ret;exact⟨rfl,by repeat(first|exact aD _ _|apply dv|apply aY|apply bk)⟩
def Il(w:ω)(sb oo:Nat)(cs:Array υ)(t:TypeId)(o:Ot)(a:w.heap[sb]?=μ (ο cs t (0,0)))(H:kn w sb oo o):Calls prog 151 #[π (μ ⟨sb,oo,ν⟩)] w λr b=>r=ξ (τ #[])/\γ w b (μ sb)/\b.heap[sb]?=μ (ο (cs.setIfInBounds (oo+4) (β ρ)) t (0,0)):=by
 obtain⟨c3,c4,c5,c6,c7,c8,-,-⟩:=H;have f4:χ w ⟨sb,oo+4,ν⟩=θ:=fZ_ a;go_enter func151,ntmps151;go_wp2_with fail;exact gD (fe rfl _ _ _) rfl ⟨rfl,aM (aD _ _) _ _ (ψ rfl),heap_set a _⟩
variable{G:Ot}
def kn.au(H:kn w n k G)(g:γ w W ν):kn W n k G:=
 ⟨gC_ g H.1,gC_ g H.2.1,gC_ g H.2.2.1,gC_ g H.2.2.2.1,gC_ g H.2.2.2.2.1,gC_ g H.2.2.2.2.2.1,H.2.2.2.2.2.2⟩
def Ot.uE(o:Ot):Bool:=o.sE&& !o.tE
def Ot.uG(o:Ot):Bool:=o.sG&& !o.tG
def Cg(w:ω)(sb oo:Nat)(o:Ot)(H:kn w sb oo o):Calls prog 279 #[π (μ ⟨sb,oo,ν⟩)] w λr m=>r=ξ (ε #[β o.uE,β o.uG])/\γ w m ν:=by
 obtain⟨c3,c4,c5,c6,c7,c8,-,-⟩:=H;have i:=J (λW=>zr o.sE o.sG o.tE o.tG W);obtain⟨uE,f⟩:=exq o.uE;obtain⟨uG,g⟩:=exq o.uG;have j:(o.sE&& !o.tE)=uE:=f.symm;have k:(o.sG&& !o.tG)=uG:=g.symm;rw[j,k]at i;rw[<-f,<-g];clear f g j k;obtain⟨h,c⟩:=exq (w.alloc (ο #[β θ,β θ] 231));have a:γ w h ν:=by rw[c];exact aJ _ _ _
 have n:h.heap[w.heap.size]?=μ (ο #[β θ,β θ] 231 (0,0)):=by rw[c];exact aO _ _
 replace c4:=gC_ a c4;replace c5:=gC_ a c5;replace c6:=gC_ a c6;replace c7:=gC_ a c7;clear c3 c8;generalize o.sE=e1 at *;generalize o.sG=e2 at *;generalize o.tE=q at *;generalize o.tG=s at *;go_enter func279,ntmps279;go_wp2_with fail;rw[<-c];clear c;go_region_with (first|(go_at_call 282;apply(Z i _).mono;rintro e b⟨rfl,p⟩;have l:γ h b ν:=(aq (aY (aD _ _)) p);have d:=bE n l;have t:κ b ⟨w.heap.size,0,ν⟩=μ (β θ):=(by simp[World.cell?,d]);have b1:κ b ⟨w.heap.size,1,ν⟩=μ (β θ):=(by simp[World.cell?,d]);have u:χ b ⟨w.heap.size,0,ν⟩=θ:=(by simp[World.frozen?,d]);have x:χ b ⟨w.heap.size,1,ν⟩=θ:=(by simp[World.frozen?,d])));all_goals go_wp2_with fail
 all_goals
  refine df (v:=ε #[β uE,β uG]) ?_ rfl ⟨rfl,aM (aM (aq a l) _ _ (φ (aP _))) _ _ (φ (aP _))⟩
  simp[results,results279,go_sem, *]
def Im(w:ω)(sb oo:Nat)(cs:Array υ)(t:TypeId)(ab:Option Addr)(nb cb:Nat)(o:Ot)(code:Int)(a:w.heap[sb]?=μ (ο cs t (0,0)))(c:κ w ⟨sb,oo+1,ν⟩=μ (σ ab nb cb))(H:kn w sb oo o):
 Calls prog 154 #[π (μ ⟨sb,oo,ν⟩),ι η code] w λr b=>r=ξ (τ #[])/\γ w b (μ sb)/\b.heap[sb]?=μ (ο ((((cs.setIfInBounds (oo+4) (β θ)).setIfInBounds (oo+5) (β ρ)).setIfInBounds (oo+8) (ι η code)).setIfInBounds (oo+1) (σ ν 0 0)) t (0,0)):=by
 obtain⟨c3,c4,c5,c6,c7,c8,-,-⟩:=H;have f1:χ w ⟨sb,oo+1,ν⟩=θ:=fZ_ a;have f4:χ w ⟨sb,oo+4,ν⟩=θ:=fZ_ a;have f5:χ w ⟨sb,oo+5,ν⟩=θ:=fZ_ a;have f8:χ w ⟨sb,oo+8,ν⟩=θ:=fZ_ a;have G:γ w ((((ζ w ⟨sb,oo+4,ν⟩ (β θ)).setCell ⟨sb,oo+4+1,ν⟩ (β ρ)).setCell ⟨sb,oo+8,ν⟩ (ι η code)).setCell ⟨sb,oo+1,ν⟩ (σ ν 0 0)) (μ sb):=
  aM (aM (aM (aM (aD w (μ sb)) ⟨sb,oo+4,ν⟩ (β θ) (ψ rfl)) ⟨sb,oo+4+1,ν⟩ (β ρ) (ψ rfl)) ⟨sb,oo+8,ν⟩ (ι η code) (ψ rfl)) ⟨sb,oo+1,ν⟩ (σ ν 0 0) (ψ rfl)
 have B:((((ζ w ⟨sb,oo+4,ν⟩ (β θ)).setCell ⟨sb,oo+4+1,ν⟩ (β ρ)).setCell ⟨sb,oo+8,ν⟩ (ι η code)).setCell ⟨sb,oo+1,ν⟩ (σ ν 0 0)).heap[sb]?=μ (ο ((((cs.setIfInBounds (oo+4) (β θ)).setIfInBounds (oo+4+1) (β ρ)).setIfInBounds (oo+8) (ι η code)).setIfInBounds (oo+1) (σ ν 0 0)) t (0,0)):=
  heap_set (heap_set (heap_set (heap_set a _) _) _) _
 replace⟨G,B⟩:=bD G B;rw[show oo+5=oo+4+1 from rfl];go_enter func154,ntmps154;go_wp2_with fail;exact gD (fe rfl _ _ _) rfl ⟨rfl,Z G,Z B⟩
structure ay(w a:ω)(S:Nat->Prop):Prop where
 os:a.os=w.os
 tape:a.tape=w.tape
 output:a.output=w.output
 size:w.heap.size<=a.heap.size
 block:∀k,k<w.heap.size->¬S k->a.heap[k]?=w.heap[k]?
def ay.of(g:γ w W N):ay w W (λk=>N=μ k):=
 ⟨g.os,g.tape,g.output,g.size,λk a h=>g.block k a (λe=>h e.symm)⟩
def ay.trans(h:ay w W S)(k:ay W v P):ay w v (λi=>S i\/P i):=
 ⟨k.os.trans h.os,k.tape.trans h.tape,k.output.trans h.output,bK h.size k.size,λi hi a=>(k.block i (cu hi h.size) (λe=>a (ψ e))).trans (h.block i hi (λe=>a (φ e)))⟩
def ay.mono(h:ay w W S)(b:∀k,k<w.heap.size->S k->P k):ay w W P:=
 ⟨h.os,h.tape,h.output,h.size,λk a c=>h.block k a (λe=>c (b k a e))⟩
def ay.rfl'(w:ω)(S:Nat->Prop):ay w w S:=⟨rfl,rfl,rfl,aP _,λ_ _ _=>rfl⟩
def Ch(w:ω)(sb ho:Nat)(ab:Option Addr)(nb cb:Nat)(ac:Option Addr)(nc cc:Nat)(h:Hd)(H:gZ w sb ho ab nb cb ac nc cc h):
 Calls prog 196 #[π (μ ⟨sb,ho,ν⟩)] w λe c=>e=ξ (ι η (h.fr+h.bytes.length))/\∃k,c=w.drewN k:=by
 obtain⟨c0,c1,c2,a,-,⟨f,d,-,k3,-⟩⟩:=H;obtain⟨fr,bytes,af⟩:=h;simp only at *;have b:nb=bytes.length:=a.2.1;rw[<-b]at d k3⊢;clear b a;have g:IntKind.u64.wrap (fr+(nb:Int))=fr+(nb:Int):=by rw[fW];omega
 go_enter func196,ntmps196;go_wp2_with fail;go_quiet (fail);go_wp2;go_ret;exact⟨rfl,_,rfl⟩
def Io(a:Option Addr)(n cap i:Nat)(h:i<=cap)(W:ω):(Instr.slice 112 (σ a n cap) ν (μ (ι δ i)) ν).run prog W=.ok (σ a i cap) W:=by
 rw[run_slice_h W 112 a n cap (by rw[sY];exact underlying112) δ (i:Int) (by omega) (by omega),sY,zp];simp only[jh,sliced,oE,oH,Nat.sub_zero]
 congr 1;cases a with
 |none=>simp
 |some y=>simp[Addr.add]
def zu(h:BS w b o L)(n:Nat):BS w b o (L.take n):=by
 refine⟨λi hi=>?_,λx a=>h.2 x (jg a)⟩
 rw[ct]at hi;rw[h.1 i (by omega)];simp[jK,show i<n by omega]
def Ip(h:bN w a n k L)(m:Nat)(g:m<=n):bN w a m k (L.take m):=by
 obtain⟨d,i,j,e,c⟩:=h;refine⟨λx f=>d x (jg f),by rw[ct];omega,by omega,e,?_⟩
 obtain c|⟨b,o,rfl,c⟩:=c
 exact φ c;exact ψ ⟨b,o,rfl,zu c m⟩
def Iq(w:ω)(sb oo g:Nat)(cs:Array υ)(t:TypeId)(ab:Option Addr)(nb cb:Nat)(ac:Option Addr)(nc cc:Nat)(h:Hd)(i:w.heap[sb]?=μ (ο cs t (0,0)))(H:gZ w sb oo ab nb cb ac nc cc h)(ho:bn w g (σ ab nb cb) h.bytes)(K:g<=w.heap.size)(L:∀y,ab=μ y->y.block≠sb)
 (d:Option Addr) (nx c:Nat) (l:List Int) (hl:bN w d nx c l) (ag:Int) (M:(h.bytes.length:Int)<=ag/\ag<=1000000) (N:h.fr+h.bytes.length<=4096) (m:Nat) (b:(m:Int)=min (min (l.length:Int) (ag-h.bytes.length)) (4096-(h.fr+h.bytes.length))):
 Calls prog 150 #[π (μ ⟨sb,oo,ν⟩),σ d nx c,ι δ ag] w λr u=>r=ξ (ι δ m)/\∃j n p,bn u g (σ j n p) (h.bytes++l.take m)/\ay w u (λk=>k=sb\/(Value.slice ab nb cb).ownBlock=μ k)/\u.heap[sb]?=μ (ο (cs.setIfInBounds (oo+1) (σ j n p)) t (0,0))/\((Value.slice j n p).ownBlock=(Value.slice ab nb cb).ownBlock\/∀k,(Value.slice j n p).ownBlock=μ k->w.heap.size<=k):=by
 have C:=J (λk=>Ch (w.drewN k) sb oo ab nb cb ac nc cc h (H.au (dv (aD _ _) k)));obtain⟨c0,c1,c2,v,-,⟨k0,O,-,k3,-⟩⟩:=H;obtain⟨fr,bytes,af⟩:=h;simp only at *;have q:nb=bytes.length:=v.2.1;have x:nx=l.length:=hl.2.1;rw[<-q]at C b M N O k3;rw[<-x]at b;go_enter func150,ntmps150;replace⟨q,x,v,hl,ho⟩:=fF q x v hl ho;have P:IntKind.i64.wrap (ag-(nb:Int))=ag-(nb:Int):=wI_;have Q:IntKind.i64.wrap (fr+(nb:Int))=fr+(nb:Int):=wI_;have R:IntKind.i64.wrap (4096-(fr+(nb:Int)))=4096-(fr+(nb:Int)):=wI_;replace b:=J b;go_wp2_with fail;go_quiet (first|(go_at_call 196;exact Calls.quiet_of (Z C _)));have D:(if 4096-(fr+(nb:Int))<(if ag-(nb:Int)<(nx:Int)then ag-(nb:Int)else(nx:Int))then 4096-(fr+(nb:Int))else(if ag-(nb:Int)<(nx:Int)then ag-(nb:Int)else(nx:Int)))=(m:Int):=by
  have:=Z b;split<;>split at * <;>omega
 rw[D];clear D P Q R;have S:m<=nx:=by have:=Z b;omega
 have a0:nx<=c:=(Z hl).2.2.1;have a1:∀W,(Instr.slice 112 (σ d nx c) ν (μ (ι δ m)) ν).run prog W=.ok (σ d m c) W:=λW=>Io d nx c m (by omega) W
 have T:=J (Ip (Z hl) m S);have U:Hid (bytes.length+(l.take m).length<=100000000):=J (by have:=Z q;have:=Z b;rw[ct];omega);have f1:χ w ⟨sb,oo+1,ν⟩=θ:=fZ_ i;have V:sb<w.heap.size:=(bg.1 i).1;have E:Hid ((Value.slice ab nb cb).ownBlock≠μ sb):=J (by
  cases ab with
  |none=>simp[Value.ownBlock]
  |some y=>simp only[Value.ownBlock];exact λe=>L y rfl (aQ e))
 go_wp2_with fail;go_region_law ((refine wQ (by rfl) _ _ (by rfl) g _ bytes (by rfl) ((Z ho).au (aY (dv (aD _ _) _))) _ _ _ (l.take m) (by rfl) ((Z T).au (aY (dv (aD _ _) _))) (Z U) K ?_;intro a7 c7 f z F s;replace z:=J z;replace s:=J s;have A:f.heap[sb]?=μ (ο cs t (0,0)):=((F.block sb V (λe=>Z E e.symm)).trans i);have a2:κ f ⟨sb,oo+1,ν⟩=μ (σ ab nb cb):=((mn (w:=w) (a:=⟨sb,oo+1,ν⟩) (A.trans i.symm)).trans c1);have f7:χ f ⟨sb,oo+1,ν⟩=θ:=(by simp[World.frozen?,A])));all_goals go_wp2_with fail
 all_goals
  go_ret
  have X:(Value.slice a7 (bytes.length+(l.take m).length) c7).ownBlock≠μ sb:=by
   obtain e|e:=Z s
   rw[e];exact Z E;rw[e];intro e2;have h8:w.heap.size=sb:=aQ e2;omega
  have G:=(Z z).gb (aM (aD f (μ sb)) ⟨sb,oo+1,ν⟩ (σ a7 (bytes.length+(l.take m).length) c7) (ψ rfl)) (ψ X)
  rw[ct]at G
  have Y:(Value.slice a7 (bytes.length+min m l.length) c7).ownBlock=(Value.slice ab nb cb).ownBlock\/∀k,(Value.slice a7 (bytes.length+min m l.length) c7).ownBlock=μ k->w.heap.size<=k:=by
   have I:=Z s;rw[ct]at I;refine I.imp id (λe k B=>?_);rw[e]at B;have a4:w.heap.size=k:=aQ B;omega
  refine⟨rfl,a7,_,c7,G,?_,heap_set A _,Y⟩
  have C1:ay w (w.drewN nq).drew (λ_=>False):=⟨rfl,rfl,rfl,aP _,λ_ _ _=>rfl⟩
  have C3:=ay.of (aM (aD f (μ sb)) ⟨sb,oo+1,ν⟩ (σ a7 (bytes.length+min m l.length) c7) (ψ rfl))
  refine((C1.trans (ay.of F)).trans C3).mono (λk B h=>?_)
  obtain(h|h)|h:=h
  exact h.elim
  exact ψ h
  exact φ (aQ h).symm
def zv(h:κ W ⟨n,k,ν⟩=μ x/\γ w W ν)(g:γ W V ν):κ V ⟨n,k,ν⟩=μ x/\γ w V ν:=⟨gC_ g h.1,aq h.2 g⟩
def rP(h:w.heap[b]?=μ (ο #[x,y,z] T (0,0))):(κ w ⟨b,0,ν⟩=μ x/\κ w ⟨b,1,ν⟩=μ y/\κ w ⟨b,2,ν⟩=μ z)/\χ w ⟨b,0,ν⟩=θ/\χ w ⟨b,1,ν⟩=θ/\χ w ⟨b,2,ν⟩=θ:=by
 simp[World.cell?,World.frozen?,h]
def Ir(w:ω)(sb oo:Nat)(ab:Option Addr)(nb cb:Nat)(ac:Option Addr)(nc cc:Nat)(o:Ot)(H:gZ w sb oo ab nb cb ac nc cc o.h)(T:kn w sb oo o):
 Calls prog 239 #[π (μ ⟨sb,oo,ν⟩)] w λr b=>(∃a n c l,r=ξ (ε #[σ a n c,β o.uE,β o.uG])/\bq b a n c l/\aU l/\(∀y,a=μ y->w.heap.size<=y.block)/\l.length<=o.h.af.length+1/\∀m,Sm l m↔(o.h.fr<=m/\m<o.h.fr+o.h.bytes.length)/\¬Sm o.h.af m)/\γ w b ν:=by
 obtain⟨R,p⟩:∃R:Ending->ω->Prop,R=λr b=>(∃a n c l,r=ξ (ε #[σ a n c,β o.uE,β o.uG])/\bq b a n c l/\aU l/\(∀y,a=μ y->w.heap.size<=y.block)/\l.length<=o.h.af.length+1/\∀m,Sm l m↔(o.h.fr<=m/\m<o.h.fr+o.h.bytes.length)/\¬Sm o.h.af m)/\γ w b ν:=⟨_,rfl⟩
 rw[<-p];replace p:=J p;have L:=H.2.2.2.2.2;have M:(⟨o.h.fr,o.h.fr+o.h.bytes.length⟩:Rg).ok:=by
  obtain⟨k0,k1,-⟩:=L;constructor<;>simp only[aW]<;>omega
 have t:=J (λW(g:γ w W ν)=>Cd W sb oo ab nb cb ac nc cc o.h (H.au g) ⟨o.h.fr,o.h.fr+o.h.bytes.length⟩ M);have N:=J (λW(g:γ w W ν)=>B1 W sb oo ab nb cb ac nc cc o.h (H.au g));have X:=J (λW(g:γ w W ν)=>Cg W sb oo o (T.au g));obtain⟨c0,-⟩:=H;obtain⟨fr,d⟩:=exq o.h.fr;obtain⟨en,q⟩:∃en:Int,en=o.h.fr+o.h.bytes.length:=⟨_,rfl⟩
 simp only[<-d]at c0;rw[<-q]at t N;simp only[<-d]at t;replace⟨d,q⟩:=bD d q;clear T L M;go_enter func239,ntmps239;go_wp2_with fail;have u:=aJ w (ο #[σ ν 0 0,β θ,β θ] 332) ν;have f:(w.alloc (ο #[σ ν 0 0,β θ,β θ] 332)).heap[w.heap.size]?=μ (ο #[σ ν 0 0,β θ,β θ] 332 (0,0)):=aO _ _;obtain⟨i,O⟩:=exq (w.alloc (ο #[σ ν 0 0,β θ,β θ] 332));rw[<-O]at u f⊢;clear O;have a2:=eZ w _ c0;have x:i.drew.cell? ⟨sb,oo,ν⟩=μ (ι η fr)/\γ w i.drew ν:=⟨gC_ u c0,aY u⟩
 replace f:=J f;have Y:=c0;clear c0;go_region_held3 (λb=>κ b ⟨sb,oo,ν⟩=μ (ι η fr)/\γ w b ν)
  (with_reducible first|exact P|exact Q|exact A|exact B|exact x)
  (first
    |(go_at_call 196;apply(Z N _ x.2).mono;rintro e w5⟨rfl,C⟩;have B:=zv x C)
    |(go_at_call 278;apply(Z t _ B.2).mono;rintro e w6⟨⟨a6,j,c6,l6,rfl,m1,D,E,F,G⟩,S⟩;have A:=zv B S;replace m1:=J m1;replace D:=J D;replace E:=J E;replace F:=J F;replace G:=J G)
    |(go_at_call 279;apply(Z X _ A.2).mono;rintro e s⟨rfl,I⟩;have Q:=zv A I;have aC:s.heap[w.heap.size]?=μ (ο #[σ ν 0 0,β θ,β θ] 332 (0,0)):=(bE (Z f) (aq (aY (aD i ν)) (aq C (aq S I))));obtain⟨⟨q0,q1,q2⟩,z0,z1,z2⟩:=rP aC;have P:(((ζ s ⟨w.heap.size,0,ν⟩ (σ a6 j c6)).setCell ⟨w.heap.size,1,ν⟩ (β o.uE)).setCell ⟨w.heap.size,2,ν⟩ (β o.uG)).cell? ⟨sb,oo,ν⟩=μ (ι η fr)/\γ w (((ζ s ⟨w.heap.size,0,ν⟩ (σ a6 j c6)).setCell ⟨w.heap.size,1,ν⟩ (β o.uE)).setCell ⟨w.heap.size,2,ν⟩ (β o.uG)) ν:=(by have U:γ w (((ζ s ⟨w.heap.size,0,ν⟩ (σ a6 j c6)).setCell ⟨w.heap.size,1,ν⟩ (β o.uE)).setCell ⟨w.heap.size,2,ν⟩ (β o.uG)) ν:=aM (aM (aM Q.2 _ _ (φ (aP _))) _ _ (φ (aP _))) _ _ (φ (aP _));exact⟨gC_ U Y,U⟩)))
 go_wp2_with fail;refine df (v:=ε #[σ a6 j c6,β o.uE,β o.uG]) ?_ rfl ?_
 ·simp[results,results239,go_sem, *]
 have br:w.heap.size<i.heap.size:=(bg.1 (Z f)).1;have bt:i.heap.size<=w5.heap.size:=C.size;have V:∀z,a6=μ z->w.heap.size<z.block:=λz k=>by have:=Z E z k;omega
 have K:∀z,a6=μ z->z.block≠w.heap.size:=λz k=>by have:=V z k;omega
 rw[Z p];refine⟨⟨a6,j,c6,l6,rfl,?_,Z D,λz k=>Nat.le_of_lt (V z k),Z F,λm=>?_⟩,P.2⟩
 exact((((Z m1).au I).ah K _ _).ah K _ _).ah K _ _;have:=Z G m;simp only[Z d,Z q]at this;exact this
def Ck(w:ω)(sb oo b c:Nat)(v:υ)(d e:Int)(f g uE uG:Bool)(a:ω):Prop:=
 κ a ⟨sb,oo+2,ν⟩=μ v/\κ a ⟨b,0,ν⟩=μ (ι η d)/\κ a ⟨b,1,ν⟩=μ (ι η e)/\κ a ⟨b,2,ν⟩=μ (β f)/\κ a ⟨b,3,ν⟩=μ (β g)/\κ a ⟨c,0,ν⟩=μ (β uE)/\κ a ⟨c,1,ν⟩=μ (β uG)/\γ w a ν
def zw{a uE uG:Bool}(h:κ W ⟨n,k+2,ν⟩=μ x/\κ W ⟨i,0,ν⟩=μ (ι η p)/\κ W ⟨i,1,ν⟩=μ (ι η q)/\κ W ⟨i,2,ν⟩=μ (β B)/\κ W ⟨i,3,ν⟩=μ (β a)/\κ W ⟨j,0,ν⟩=μ (β uE)/\κ W ⟨j,1,ν⟩=μ (β uG)/\γ w W ν)(g:γ W V ν):
 κ V ⟨n,k+2,ν⟩=μ x/\κ V ⟨i,0,ν⟩=μ (ι η p)/\κ V ⟨i,1,ν⟩=μ (ι η q)/\κ V ⟨i,2,ν⟩=μ (β B)/\κ V ⟨i,3,ν⟩=μ (β a)/\κ V ⟨j,0,ν⟩=μ (β uE)/\κ V ⟨j,1,ν⟩=μ (β uG)/\γ w V ν:=
 ⟨gC_ g h.1,gC_ g h.2.1,gC_ g h.2.2.1,gC_ g h.2.2.2.1,gC_ g h.2.2.2.2.1,gC_ g h.2.2.2.2.2.1,gC_ g h.2.2.2.2.2.2.1,aq h.2.2.2.2.2.2.2 g⟩
def Is(a b c d:Bool)(W:ω):(binOp .eql 231 (ε #[β a,β b]) (ε #[β c,β d])).run prog W=.ok (β ((a==c)&&(b==d))) W:=by
 cases a<;>cases b<;>cases c<;>cases d<;>kernel_rfl
def dU.t{p:Prop}{e:Ending}(h:dU p e)(hp:p):e=ξ (β ρ):=by
 obtain⟨b,a,c⟩:=h;rw[a,c.2 hp]
def dU.f{p:Prop}{e:Ending}(h:dU p e)(hp:¬p):e=ξ (β θ):=by
 obtain⟨b,a,c⟩:=h;cases b;exact a;exact absurd (c.1 rfl) hp
def ko{P:Program}{b:Region.Mode}{a:Array Oper}(i d:Nat){v:υ}{e:Array Bool}(hi:a[i]?=μ U)
 (hd:U.dst=μ d) (hs:Region.noSelect a=ρ) (f:Region.free b a e i=ρ) (g:(Region.ready b a e).contains i=ρ)
 (j:∀c H w,u (.panic c) (H.put (μ d) v) w->u (.panic c) H w) (k:YieldsIf P a R U v H) (l:R w)
 (h:wpAnyH P b a u R n (e.setIfInBounds i ρ) (H.put (μ d) v) w):wpAnyH P b a u R (n+1) e H w:=
 wpAnyH_take hi hs f g (by rw[hd];exact j) k l (by rw[hd];exact h)
def uO(o:Ot)(x:Rg)(a b:Bool):Prop:=(x.hi<=x.lo\/∃r∈o.h.af,r.lo<=x.lo/\x.hi<=r.hi)/\(o.uE&& !a)=o.uE/\(o.uG&& !b)=o.uG
def Iu(w:ω)(sb oo:Nat)(ab:Option Addr)(nb cb:Nat)(ac:Option Addr)(nc cc:Nat)(o:Ot)(H:gZ w sb oo ab nb cb ac nc cc o.h)(T:kn w sb oo o)(x:Rg)(i j:Bool):
 Calls prog 256 #[π (μ ⟨sb,oo,ν⟩),ε #[ι η x.lo,ι η x.hi,β i,β j]] w λr a=>dU (uO o x i j) r/\γ w a ν:=by
 obtain⟨R,p⟩:∃R:Prop,R=uO o x i j:=⟨_,rfl⟩
 rw[<-p];replace p:=J p;have hU:=J (λW(g:γ w W ν)=>Cg W sb oo o (T.au g));have M:=J (λW(g:γ w W ν)=>BZ ac nc cc o.h.af x W (H.2.2.2.2.1.au g));have N:=J (λW=>zr o.uE o.uG i j W);have c2:=H.2.2.1;clear H T;obtain⟨c,d⟩:=x;simp only at *;generalize C:o.uE=uE at *;generalize D:o.uG=uG at *;replace⟨C,D⟩:=bD C D;have a4:=eZ w _ c2;obtain⟨E,y⟩:=exq ((uE&& !i));obtain⟨z2,z⟩:=exq ((uG&& !j));rw[<-y,<-z]at N;have O:Hid ((d<=c\/∃r∈o.h.af,r.lo<=c/\d<=r.hi)->(((E==uE)&&(z2==uG))=ρ↔R)):=J (λhP=>by
  rw[Z p,uO,Z C,Z D,<-y,<-z];simp[hP])
 have a0:Hid (¬(d<=c\/∃r∈o.h.af,r.lo<=c/\d<=r.hi)->¬R):=J (λhP h=>by rw[Z p]at h;exact hP h.1);replace⟨y,z⟩:=bD y z;obtain⟨P,A⟩:=exq (((E==uE)&&(z2==uG)));have a8:∀W,(binOp .eql 231 (ε #[β E,β z2]) (ε #[β uE,β uG])).run prog W=.ok (β P) W:=λW=>by rw[A];exact Is _ _ _ _ W
 rw[<-A]at O;replace A:=J A;go_enter func256,ntmps256;have Q:=aJ w (ο #[ι η c,ι η d,β i,β j] 377) ν;have F:(w.alloc (ο #[ι η c,ι η d,β i,β j] 377)).heap[w.heap.size]?=μ (ο #[ι η c,ι η d,β i,β j] 377 (0,0)):=aO _ _;replace F:=J F;go_wp2_with fail;apply(Z hU _ Q).mono;rintro e k⟨rfl,G⟩;have U:=aq Q G;have q:=bE (Z F) G;have p0:κ k ⟨w.heap.size,0,ν⟩=μ (ι η c):=by simp[World.cell?,q]
 have V:κ k ⟨w.heap.size,1,ν⟩=μ (ι η d):=by simp[World.cell?,q]
 have p2:κ k ⟨w.heap.size,2,ν⟩=μ (β i):=by simp[World.cell?,q]
 have p3:κ k ⟨w.heap.size,3,ν⟩=μ (β j):=by simp[World.cell?,q]
 have d2:=gC_ U c2;clear c2 G;go_wp2_with fail;obtain⟨s,B⟩:=exq (k.alloc (ο #[β uE,β uG] 231));rw[<-B];have l:γ k s ν:=by rw[B];exact aJ _ _ _
 have I:s.heap[k.heap.size]?=μ (ο #[β uE,β uG] 231 (0,0)):=by rw[B];exact aO _ _
 have m:Ck w sb oo w.heap.size k.heap.size (σ ac nc cc) c d i j uE uG s.drew:=⟨gC_ l d2,gC_ l p0,gC_ l V,gC_ l p2,gC_ l p3,(show κ s _=_ by simp[World.cell?,I]),(show κ s _=_ by simp[World.cell?,I]),aY (aq U l)⟩
 clear B p0 V p2 p3 d2 q I;have X:=m.2.2.2.2.2.2.2;unfold Ck at m;by_cases hP:d<=c\/∃r∈o.h.af,r.lo<=c/\d<=r.hi
 ·replace hP:=J hP;go_region_held3 (λa=>κ a ⟨sb,oo+2,ν⟩=μ (σ ac nc cc)/\κ a ⟨w.heap.size,0,ν⟩=μ (ι η c)/\κ a ⟨w.heap.size,1,ν⟩=μ (ι η d)/\κ a ⟨w.heap.size,2,ν⟩=μ (β i)/\κ a ⟨w.heap.size,3,ν⟩=μ (β j)/\κ a ⟨k.heap.size,0,ν⟩=μ (β uE)/\κ a ⟨k.heap.size,1,ν⟩=μ (β uG)/\γ w a ν)
   (with_reducible first|exact Y|exact n|exact m)
   (first
     |(go_at_call 211;apply(Z M _ X).mono;rintro e w5⟨u,L⟩;obtain rfl:=u.t (Z hP);clear u;have n:=zw m L;have al:=n.2.2.2.2.2.2.2)
     |(go_at_call 282;apply(Z N _).mono;rintro e w6⟨rfl,g6⟩;have Y:=zw n g6))
  go_wp2;go_ret;exact⟨⟨P,rfl,Z O (Z hP)⟩,Y.2.2.2.2.2.2.2⟩
 replace hP:=J hP;refine wp_region_held_drew (S:=(λa=>κ a ⟨sb,oo+2,ν⟩=μ (σ ac nc cc)/\κ a ⟨w.heap.size,0,ν⟩=μ (ι η c)/\κ a ⟨w.heap.size,1,ν⟩=μ (ι η d)/\κ a ⟨w.heap.size,2,ν⟩=μ (β i)/\κ a ⟨w.heap.size,3,ν⟩=μ (β j)/\κ a ⟨k.heap.size,0,ν⟩=μ (β uE)/\κ a ⟨k.heap.size,1,ν⟩=μ (β uG)/\γ w a ν)) (by kernel_rfl) m (λa3=>?_);refine ko 0 8 (v:=?_) rfl rfl (by kernel_rfl) (by kernel_rfl) (by kernel_rfl) (λ_ _ _ h=>h) (Or.inl ⟨by rfl,?_⟩) (by assumption) ?_;rotate_left
 ·(intro w b;(try dsimp only at b);go_simp;try with_reducible rfl)
 simp only[Act.put,lT,mq,mr]
 refine ko 1 9 (v:=?_) rfl rfl (by kernel_rfl) (by kernel_rfl) (by kernel_rfl) (λ_ _ _ h=>h) (Or.inl ⟨by rfl,?_⟩) (by assumption) ?_;rotate_left
 ·(intro w b;(try dsimp only at b);go_simp;try with_reducible rfl)
 simp only[Act.put,lT,mq,mr]
 refine ko 2 10 (v:=?_) rfl rfl (by kernel_rfl) (by kernel_rfl) (by kernel_rfl) (λ_ _ _ h=>h) (Or.inl ⟨by rfl,?_⟩) (by assumption) ?_;rotate_left
 ·(intro w b;(try dsimp only at b);go_simp;try with_reducible rfl)
 simp only[Act.put,lT,mq,mr]
 refine ko 3 11 (v:=?_) rfl rfl (by kernel_rfl) (by kernel_rfl) (by kernel_rfl) (λ_ _ _ h=>h) (Or.inl ⟨by rfl,?_⟩) (by assumption) ?_;rotate_left
 ·(intro w b;(try dsimp only at b);go_simp;try with_reducible rfl)
 simp only[Act.put,lT,mq,mr]
 refine ko 4 12 (v:=?_) rfl rfl (by kernel_rfl) (by kernel_rfl) (by kernel_rfl) (λ_ _ _ h=>h) (Or.inl ⟨by rfl,?_⟩) (by assumption) ?_;rotate_left
 ·(intro w b;(try dsimp only at b);go_simp;try with_reducible rfl)
 simp only[Act.put,lT,mq,mr]
 refine ko 5 13 (v:=?_) rfl rfl (by kernel_rfl) (by kernel_rfl) (by kernel_rfl) (λ_ _ _ h=>h) (Or.inl ⟨by rfl,?_⟩) (by assumption) ?_;rotate_left
 ·(intro w b;(try dsimp only at b);go_simp;try with_reducible rfl)
 simp only[Act.put,lT,mq,mr]
 refine ko 6 14 (v:=?_) rfl rfl (by kernel_rfl) (by kernel_rfl) (by kernel_rfl) (λ_ _ _ h=>h) (Or.inl ⟨by rfl,?_⟩) (by assumption) ?_;rotate_left
 ·(intro w b;(try dsimp only at b);go_simp;try with_reducible rfl)
 simp only[Act.put,lT,mq,mr]
 refine wpAnyH_ready (rs:=[7]) (by kernel_rfl) (by simp) ?_;refine AllReadyH.cons (o:=_) rfl (λK hK=>?_) AllReadyH.nil;go_simp;apply(Z M _ X).mono;rintro e w5⟨u,L⟩;obtain rfl:=u.f (Z hP);clear u;have n:=zw m L;have al:=n.2.2.2.2.2.2.2;go_wp2_with fail;refine hK.out _ _ n (λa3=>?_);clear hK K;refine ko 8 16 (v:=?_) rfl rfl (by kernel_rfl) (by kernel_rfl) (by kernel_rfl) (λ_ _ _ h=>h) (Or.inl ⟨by rfl,?_⟩) (by assumption) ?_;rotate_left
 ·(intro w b;(try dsimp only at b);go_simp;try with_reducible rfl)
 simp only[Act.put,lT,mq,mr]
 refine ko 9 17 (v:=_) rfl rfl (by kernel_rfl) (by kernel_rfl) (by kernel_rfl) (λ_ _ _ h=>h) (Or.inr ⟨by rfl,rfl⟩) (by assumption) ?_;simp only[Act.put,lT,mq,mr]
 refine ko 10 18 (v:=_) rfl rfl (by kernel_rfl) (by kernel_rfl) (by kernel_rfl) (λ_ _ _ h=>h) (Or.inr ⟨by rfl,rfl⟩) (by assumption) ?_;simp only[Act.put,lT,mq,mr]
 refine ko 11 19 (v:=_) rfl rfl (by kernel_rfl) (by kernel_rfl) (by kernel_rfl) (λ_ _ _ h=>h) (Or.inr ⟨by rfl,rfl⟩) (by assumption) ?_;simp only[Act.put,lT,mq,mr]
 refine ko 12 20 (v:=_) rfl rfl (by kernel_rfl) (by kernel_rfl) (by kernel_rfl) (λ_ _ _ h=>h) (Or.inr ⟨by rfl,rfl⟩) (by assumption) ?_;simp only[Act.put,lT,mq,mr]
 refine ko 13 21 (v:=_) rfl rfl (by kernel_rfl) (by kernel_rfl) (by kernel_rfl) (λ_ _ _ h=>h) (Or.inr ⟨by rfl,rfl⟩) (by assumption) ?_;simp only[Act.put,lT,mq,mr]
 refine ko 14 22 (v:=_) rfl rfl (by kernel_rfl) (by kernel_rfl) (by kernel_rfl) (λ_ _ _ h=>h) (Or.inr ⟨by rfl,rfl⟩) (by assumption) ?_;simp only[Act.put,lT,mq,mr]
 refine ko 15 23 (v:=?_) rfl rfl (by kernel_rfl) (by kernel_rfl) (by kernel_rfl) (λ_ _ _ h=>h) (Or.inl ⟨by rfl,?_⟩) (by assumption) ?_;rotate_left
 ·(intro w b;(try dsimp only at b);go_simp;try with_reducible rfl)
 simp only[Act.put,lT,mq,mr]
 refine ko 16 4 (v:=?_) rfl rfl (by kernel_rfl) (by kernel_rfl) (by kernel_rfl) (λ_ _ _ h=>h) (Or.inl ⟨by rfl,?_⟩) (by assumption) ?_;rotate_left
 ·(intro w b;(try dsimp only at b);go_simp;try with_reducible rfl)
 simp only[Act.put,lT,mq,mr]
 refine wpAnyH_done (by kernel_rfl) ?_ _;go_wp2;go_ret;exact⟨mC (Z a0 (Z hP)),al⟩
def zx(h:Hd)(x:Rg):Prop:=∀a,aU a->a.length<=h.af.length+1->(∀m,Sm a m↔Sm h.af m\/(x.lo<=m/\m<x.hi))->0<=cL ⟨h.fr,h.bytes,a⟩/\h.fr+cL ⟨h.fr,h.bytes,a⟩<=4611686018427387903
def bq.gb(h:bq w a n k Y)(g:γ w W N)(d:∀y,a=μ y->N≠μ y.block:=by simp):bq W a n k Y:=by
 obtain⟨e,f,i,j,c⟩:=h;refine⟨e,f,i,j,?_⟩
 obtain c|⟨b,o,rfl,c⟩:=c
 exact φ c;exact ψ ⟨b,o,rfl,jn c g (d _ rfl)⟩
def aZ(h:w.heap[b]?=μ (ο c T (0,0)))(i:Nat):κ w ⟨b,i,ν⟩=c[i]? :=by simp[World.cell?,h]
def Iv(w:ω)(sb oo:Nat)(cs:Array υ)(t:TypeId)(ab:Option Addr)(nb cb:Nat)(ac:Option Addr)(nc cc:Nat)(o:Ot)(K:w.heap[sb]?=μ (ο cs t (0,0)))(H:gZ w sb oo ab nb cb ac nc cc o.h)(T:kn w sb oo o)(x:Rg)(v s:Bool)(hx:x.ok)(a1:∀y,ab=μ y->y.block≠sb)(a2:∀y,ac=μ y->y.block≠sb)(bx:zx o.h x)(b4:o.h.af.length<100000):
 Calls prog 252 #[π (μ ⟨sb,oo,ν⟩),ε #[ι η x.lo,ι η x.hi,β v,β s]] w λr O=>r=ξ (τ #[])/\
  ∃(b:Option Addr)(c d:Nat)(f:List Rg)(u:Option Addr)(z k:Nat),(k:Int)=cL ⟨o.h.fr,o.h.bytes,f⟩/\aU f/\f.length<=o.h.af.length+1/\(∀m,Sm f m↔Sm o.h.af m\/(x.lo<=m/\m<x.hi))/\γ w O (μ sb)/\
   O.heap[sb]?=μ (ο (((((cs.setIfInBounds (oo+2) (σ b c d)).setIfInBounds oo (ι η (o.h.fr+k))).setIfInBounds (oo+1) (σ u (o.h.bytes.drop k).length z)).setIfInBounds (oo+6) (β (o.tE||v))).setIfInBounds (oo+7) (β (o.tG||s))) t (0,0))/\
   bn O w.heap.size (σ u (o.h.bytes.drop k).length z) (o.h.bytes.drop k)/\bq O b c d f/\((b=ac/\c=nc/\d=cc)\/∀y,b=μ y->w.heap.size<=y.block/\y.block<O.heap.size/\(Value.slice u (o.h.bytes.drop k).length z).ownBlock≠μ y.block):=by
 obtain⟨i,B⟩:=exq ((o.tE||v));obtain⟨l,C⟩:=exq ((o.tG||s));rw[<-B,<-C];replace⟨B,C⟩:=bD B C;have b7:sb<w.heap.size:=(bg.1 K).1;obtain⟨c0,c1,c2,aa,hr,⟨k0,k1,k2,k3,k4⟩⟩:=H;obtain⟨c3,c4,c5,c6,c7,c8,-,-⟩:=T;rw[aZ K]at c0 c1 c2 c3 c4 c5 c6 c7 c8;have hn:nc=o.h.af.length:=hr.2.1;obtain⟨D,E⟩:=x;obtain⟨p,P⟩:=exq (w.alloc (ο #[ι η D,ι η E,β v,β s] 377));have Y:γ w p ν:=by rw[P];exact aJ _ _ _
 have L:p.heap[w.heap.size]?=μ (ο #[ι η D,ι η E,β v,β s] 377 (0,0)):=by rw[P];exact aO _ _
 have b8:p.heap.size=w.heap.size+1:=by rw[P];simp
 have p0:κ p ⟨w.heap.size,0,ν⟩=μ (ι η D):=by simp[World.cell?,L]
 have p1:κ p ⟨w.heap.size,1,ν⟩=μ (ι η E):=by simp[World.cell?,L]
 have Q:=bE K Y;have hA:=J (zl p.drew sb (oo+2) cs t ac nc cc o.h.af ⟨D,E⟩ Q c2 (hr.au (aY Y)) a2 k2 hx (by omega));go_enter func252,ntmps252;go_wp2_with fail;rw[<-P];clear P;go_region_with (first|(go_at_call 215;apply(Z hA).mono;rintro e n⟨rfl,b,c,d,f,⟨gU,hU⟩,a3,F,al,a4,a8⟩));go_wp2_with fail;have ax:γ w n (μ sb):=aq (dy (aY Y) _) gU;have A:=hU cs t Q;have ca:p.heap.size<=n.heap.size:=gU.size;have R:n.heap[w.heap.size]?=μ (ο #[ι η D,ι η E,β v,β s] 377 (0,0)):=(gU.block _ (by show w.heap.size<p.heap.size;omega) (λe=>by cases e;omega)).trans L;have aC:∀y,b=μ y->y.block≠sb:=λy e=>by
  obtain F|F:=F
  exact a2 y (F.1▸e);have:p.heap.size<=y.block:=(F y e).1;omega
 have b5:oo+2<cs.size:=(bg.1 c2).1;obtain⟨G,q⟩:=exq (cs.setIfInBounds (oo+2) (σ b c d));rw[<-q]at A;have d0:G[oo]?=μ (ι η o.h.fr):=by rw[q];simpa [lz]using c0
 have d1:G[oo+1]?=μ (σ ab nb cb):=by rw[q];simpa [lz]using c1
 have d2:G[oo+2]?=μ (σ b c d):=by rw[q];simp[lz,b5]
 have d6:G[oo+6]?=μ (β o.tE):=by rw[q];simpa [lz]using c6
 have d7:G[oo+7]?=μ (β o.tG):=by rw[q];simpa [lz]using c7
 have H2:gZ n sb oo ab nb cb b c d ⟨o.h.fr,o.h.bytes,f⟩:=⟨(aZ A _).trans d0,(aZ A _).trans d1,(aZ A _).trans d2,aa.gb ax (λj e=>ψ (ψ (λy ey=>by cases e;exact a1 y ey))),a3,⟨k0,k1,al,k3,(show f.length<=100000 by omega)⟩⟩
 obtain⟨q0,q1⟩:=bx f al a4 a8;obtain⟨k,S⟩:=qE q0;have a9:=J (B6 n.drew sb oo ab nb cb b c d _ (H2.au (aY (aD _ _))) ⟨q0,by omega⟩);have hD:=J (λW(g:γ n W ν)=>Cf W sb oo G t ab nb cb b c d _ (bE A g) (H2.au g) k (by show o.h.fr+k<=_;omega) a1);rw[S]at a9;replace⟨A,R,L,Q,K,q,S⟩:=iU A R L Q K q S;clear hU H2 q0 q1 hA;go_region_with (first
  |(go_at_call 220;apply(Z a9).mono;rintro e w3⟨rfl,g3⟩;have M:γ n w3 ν:=aq (aY (aD _ _)) g3)
  |(go_at_call 221;apply(Z hD _ M).mono;rintro e a⟨rfl,u,z,g4,I,a0,bz⟩))
 go_wp2_with fail;have U:γ n a (μ sb):=aq (dy M _) g4;have bb:=aq ax U;have bM:=a3.gb U (λy e e'=>aC y e (by cases e';rfl));have bj:a.heap[w.heap.size]?=μ (ο #[ι η D,ι η E,β v,β s] 377 (0,0)):=(U.block _ (bg.1 (Z R)).1 (λe=>by cases e;omega)).trans (Z R);obtain⟨br,V⟩:=exq ((G.setIfInBounds oo (ι η (o.h.fr+k))).setIfInBounds (oo+1) (σ u (o.h.bytes.drop k).length z));rw[<-V]at I;have e6:br[oo+6]?=μ (β o.tE):=by rw[V];simpa [lz]using d6
 have e7:br[oo+6+1]?=μ (β o.tG):=by rw[V,show oo+6+1=oo+7 from rfl];simpa [lz]using d7
 have m6:κ a ⟨sb,oo+6,ν⟩=μ (β o.tE):=(aZ I _).trans e6;have m7:κ a ⟨sb,oo+6+1,ν⟩=μ (β o.tG):=(aZ I _).trans e7;have f6:χ a ⟨sb,oo+6,ν⟩=θ:=fZ_ I;have f7:χ a ⟨sb,oo+6+1,ν⟩=θ:=fZ_ I;have n2:κ a ⟨w.heap.size,2,ν⟩=μ (β v):=by simp[World.cell?,bj]
 have n3:κ a ⟨w.heap.size,2+1,ν⟩=μ (β s):=by simp[World.cell?,bj]
 have ch:κ a ⟨w.heap.size,3,ν⟩=μ (β s):=n3;have cj:w.heap.size<=a.heap.size:=bb.size;have b0:Hid (γ w ((a.drew.setCell ⟨sb,oo+6,ν⟩ (β i)).setCell ⟨sb,oo+6+1,ν⟩ (β l)) (μ sb)/\
  ((a.drew.setCell ⟨sb,oo+6,ν⟩ (β i)).setCell ⟨sb,oo+6+1,ν⟩ (β l)).heap[sb]?=μ (ο ((br.setIfInBounds (oo+6) (β i)).setIfInBounds (oo+6+1) (β l)) t (0,0))/\
  bn ((a.drew.setCell ⟨sb,oo+6,ν⟩ (β i)).setCell ⟨sb,oo+6+1,ν⟩ (β l)) w.heap.size (σ u (o.h.bytes.drop k).length z) (o.h.bytes.drop k)/\
  bq ((a.drew.setCell ⟨sb,oo+6,ν⟩ (β i)).setCell ⟨sb,oo+6+1,ν⟩ (β l)) b c d f):=by
  have cp:∀y,u=μ y->y.block≠sb:=λy e=>by
   have h3:=bz y e;have h4:n.heap.size<=w3.heap.size:=M.size;omega
  have bt:γ a a.drew ν:=aY (aD _ _);have b6:w.heap.size<=w3.heap.size:=bK ax.size M.size;have b3:(Value.slice u (o.h.bytes.drop k).length z).ownBlock≠μ sb:=λe=>by have:=(a0.lt _ e).1;omega
  exact J ⟨aM (aM (aY bb) _ _ (ψ rfl)) _ _ (ψ rfl),heap_set (heap_set (bE I bt) _) _,(((a0.low b6).au bt).ah b3 _ _).ah b3 _ _,((bM.au bt).ah aC _ _).ah aC _ _⟩
 replace B:=Z B;replace C:=Z C;have HV:Hid (∃(a₁:Option Addr)(n₁ c₁:Nat)(X:List Rg)(b₁:Option Addr)(d₁ N:Nat),(N:Int)=cL ⟨o.h.fr,o.h.bytes,X⟩/\aU X/\X.length<=o.h.af.length+1/\(∀m,Sm X m↔Sm o.h.af m\/(D<=m/\m<E))/\γ w ((a.drew.setCell ⟨sb,oo+6,ν⟩ (β i)).setCell ⟨sb,oo+6+1,ν⟩ (β l)) (μ sb)/\
  ((a.drew.setCell ⟨sb,oo+6,ν⟩ (β i)).setCell ⟨sb,oo+6+1,ν⟩ (β l)).heap[sb]?=μ (ο (((((cs.setIfInBounds (oo+2) (σ a₁ n₁ c₁)).setIfInBounds oo (ι η (o.h.fr+N))).setIfInBounds (oo+1) (σ b₁ (o.h.bytes.drop N).length d₁)).setIfInBounds (oo+6) (β i)).setIfInBounds (oo+7) (β l)) t (0,0))/\
  bn ((a.drew.setCell ⟨sb,oo+6,ν⟩ (β i)).setCell ⟨sb,oo+6+1,ν⟩ (β l)) w.heap.size (σ b₁ (o.h.bytes.drop N).length d₁) (o.h.bytes.drop N)/\bq ((a.drew.setCell ⟨sb,oo+6,ν⟩ (β i)).setCell ⟨sb,oo+6+1,ν⟩ (β l)) a₁ n₁ c₁ X/\((a₁=ac/\n₁=nc/\c₁=cc)\/∀y,a₁=μ y->w.heap.size<=y.block/\y.block<((a.drew.setCell ⟨sb,oo+6,ν⟩ (β i)).setCell ⟨sb,oo+6+1,ν⟩ (β l)).heap.size/\(Value.slice b₁ (o.h.bytes.drop N).length d₁).ownBlock≠μ y.block)):=by
  obtain⟨F1,F2,F3,F4⟩:=Z b0;rw[V,Z q]at F2;refine J ⟨b,c,d,f,u,z,k,(Z S).symm,al,a4,a8,F1,F2,F3,F4,F.imp (λh=>⟨h.1,h.2.1,h.2.2.1⟩) (λh y e=>?_)⟩;have h1:p.heap.size<=y.block:=(h y e).1;have h2:=(h y e).2;have h4:n.heap.size<=w3.heap.size:=M.size;have h5:n.heap.size<=a.heap.size:=U.size;refine⟨by omega,by simp;omega,λe2=>?_⟩
  have:=(a0.lt _ e2).1;omega
 clear b0 I a0 bM bj bz a3 F al a4 a8 V q S A R Q L K bb U ax M g4 g3 Y gU a9 hD e6 e7 d0 d1 d2 d6 d7 c0 c1 c2 c3 c4 c5 c6 c7 c8 aa hr p0 p1 bx a2 aC a1 k0 k1 k2 k3 k4 b4;generalize o.tE=tE at *;generalize o.tG=tG at *;have cv:w.heap.size≠sb:=by omega
 cases tE<;>cases tG<;>simp only[ux,Bool.true_or]at B C<;>subst B<;>subst C;all_goals
  go_big_region
  go_wp2_with fail
  exact gD (fe rfl _ _ _) rfl ⟨rfl,Z HV⟩
def Cl(h:bN w a n k L)(i j:Nat)(hi:i<=j)(l:j<=n:=by omega):bN w (if j=i then a else a.map (·.add i)) (j-i) (j-i) ((L.drop i).take (j-i)):=by
 obtain⟨e,m,p,q,c⟩:=h;refine⟨λx f=>e x (iH (jg f)),by rw[ct,dO];omega,by omega,by omega,?_⟩
 by_cases d:j=i;rw[aG d,d,sP,List.take_zero];obtain⟨c,g⟩|⟨b,o,rfl,c⟩:=c
 exact φ ⟨c,rfl⟩;exact ψ ⟨b,o,rfl,BS.nil _ _ _⟩;rw[aB d];obtain⟨c,g⟩|⟨b,o,rfl,c⟩:=c
 omega;exact ψ ⟨b,o+i,by simp[Addr.add],zu (Ce c i) _⟩
def Cm(w:ω)(sb ho:Nat)(ab:Option Addr)(nb cb:Nat)(ac:Option Addr)(nc cc:Nat)(h:Hd)(H:gZ w sb ho ab nb cb ac nc cc h)(i j:Nat)(hi:i<=j)(s:j<=h.bytes.length)(lo a:Int)(l:lo=h.fr+i)(m:a=h.fr+j):
 Calls prog 285 #[π (μ ⟨sb,ho,ν⟩),ε #[ι η lo,ι η a]] w λe n=>∃c,e=ξ (σ c (j-i) (j-i))/\bN w c (j-i) (j-i) ((h.bytes.drop i).take (j-i))/\((∀y,c=μ y->∃z,ab=μ z/\z.block=y.block)/\(i<j->c=ab.map (·.add i)))/\γ w n ν:=by
 obtain⟨c0,c1,c2,b,-,⟨t,u,-,k3,-⟩⟩:=H;obtain⟨fr,bytes,af⟩:=h;simp only at *;have v:nb=bytes.length:=b.2.1;have x:nb<=cb:=b.2.2.1;have e1:IntKind.u64.wrap (lo-fr)=(i:Int):=by rw[l,show fr+(i:Int)-fr=i by omega];rw[fW];omega
 have e2:IntKind.u64.wrap (a-fr)=(j:Int):=by rw[m,show fr+(j:Int)-fr=j by omega];rw[fW];omega
 have p:Hid (bN w ab 0 0 []):=J (by have:=Cl b i i (aP _);simpa using this);have q:Hid (j≠i->bN w (ab.map (·.add i)) (j-i) (j-i) ((bytes.drop i).take (j-i))):=J (λh=>by have:=Cl b i j hi;rwa[aB h]at this);have r:Hid (∀y,ab.map (·.add i)=μ y->∃z,ab=μ z/\z.block=y.block):=J (λy e=>by
  cases ab with
  |none=>cases e
  |some z=>cases e;exact⟨z,rfl,by simp only[Addr.add];split<;>rfl⟩)
 clear l m b;have A:(j:Int)<=cb:=by omega
 have B:(i:Int)<=j:=by omega
 obtain⟨d,f⟩:=exq (w.alloc (ο #[ι η lo,ι η a] 341));have g:γ w d ν:=by rw[f];exact aJ _ _ _
 have k:d.heap[w.heap.size]?=μ (ο #[ι η lo,ι η a] 341 (0,0)):=by rw[f];exact aO _ _
 have p0:κ d ⟨w.heap.size,0,ν⟩=μ (ι η lo):=by simp[World.cell?,k]
 have C:κ d ⟨w.heap.size,1,ν⟩=μ (ι η a):=by simp[World.cell?,k]
 have d0:=gC_ g c0;have d1:=gC_ g c1;clear c0 c1 c2;replace k:=J k;go_enter func285,ntmps285;go_wp2_with fail;rw[<-f];clear f;go_quiet (fail);go_wp2_with fail;case inl=>
  go_ret;exact⟨ab,rfl,Z p,λy e=>⟨y,e,rfl⟩,dv g _⟩
 case inr=>
  go_ret;exact⟨_,rfl,Z q (by omega),⟨Z r,λ_=>rfl⟩,dv g _⟩
