import Derived.Test.YtjnmokmchdfchaaGreatDoorZLo
set_option maxRecDepth 1000000
set_option maxHeartbeats 0
set_option linter.all false
namespace Go.Proofs.YtjnmokmchdfchaaGreatDoor
open Go.RowKit Tryz
open Go.Value renaming int→ι,slice→σ,bool→β,pointer→π,agg→ε,string→ς,tuple→τ
open Go.IntKind renaming i64→δ,u64→η,u8→Δ
open Go.Ending renaming returned→ξ
open Go.Obj renaming cells→ο
open Or renaming inl→φ,inr→ψ
open Option renaming some→μ,none→ν
open Bool renaming true→ρ,false→θ
open Go renaming World→ω,Value→υ
open Go.World renaming grownBy→γ,cell?→κ,frozen?→χ,setCell→ζ
attribute[local go_sem↓]Go.wp_at_zero Go.wp_at_succ
variable{B:Bool}{p q r t:Int}{L:List Int}{i j k l m n o:Nat}{S:Nat->Prop}{F:Nat->an}{D:Nw}{a:Option Addr}{T:TypeId}{x y z:υ}{W v w:ω}
def So(W:ω)(z:Int)(b:W8 z):(convert 112 9 (σ (μ ⟨W.heap.size,0,ν⟩) 1 1)).run prog (W.alloc (ο #[ι Δ z] 5)).drew=.ok (ς (strOfNums [z])) (W.alloc (ο #[ι Δ z] 5)).drew:=by
 have a:∀x∈[z],W8 x:=λx c=>by rw[cA.1 c];exact b
 have d:(W.alloc (ο #[ι Δ z] 5)).drew.heap[W.heap.size]?=μ (ο #[ι Δ z] 5 (0,0)):=aO _ _;refine uF ⟨a,rfl,aP _,by simp[maxLen],ψ ⟨_,_,rfl,λi hi=>?_,a⟩⟩;obtain rfl:i=0:=by simpa using hi
 rw[ep,aZ d];rfl
def Sp(x y:Int):W8 (bits .xor Δ x y):=by
 unfold W8 bits;simp[IntKind.wrap,IntKind.bits,IntKind.signed];omega
def Sq(w:ω)(nb:Nat)(V:Nw)(m:Nat->an)(n:Nat)(H:bV w nb V)(r:Laid w)(K:bl V m n)(hn:n<=90000)(s:cY)(hs:s.ok)(hk:s.kind=8)(h0:V.aN.length≠0):
 Calls prog 85 #[π (μ ⟨nb,0,ν⟩),ε (dj s)] w (eM w nb V n):=by
 obtain⟨f,S⟩:=iG.mk' H r s;obtain⟨d0,d1,d2,d3,d4⟩:=S.cells S.T;have a4:=K.lb;obtain⟨L,O⟩:=exq V.aN.length;obtain⟨q,Q⟩:=exq (bh s.a L);have hq:q<L:=by have:=fk s.a (p:=L) (by omega);omega
 have R:=J (λW=>fJ s.a L W hs.a.1 hs.a.2);rw[<-Q]at R;have t:=vX (l:=V.aN) (n:=q) (by omega);obtain⟨g,vc,hv,F,u,G⟩:=S.T.at_.ua (k:=q) (by omega);rw[<-O]at F;have q0:(0:Int)<=q:=by omega
 have q1:(q:Int)<L:=by omega
 have l0:((L:Int)==0)=θ:=by simp;omega
 obtain⟨x,U⟩:=exq (jf V.aN q);rw[<-U]at t u G;have X:=S.e;obtain⟨i,-,-,-,hi,a8,bj,br,-⟩:=K.yM hn t;have a9:=J (λ(W:ω)(g:γ f W ν)=>S.cells (S.T.gb g));have v:=λ(W:ω)(g:γ f W ν)(b:ByteArray)(aa:b.size<=1000000)=>AY W nb V (S.T.gb g).at_ (S.T.gb g).laid i hi n (K.ok hi) (by omega) b aa (K.A7 hi b)
 have I:=J (λ(W Y:ω)(g:γ f W ν)(h:∃A',bS W nb V {V with A:=ah V.A i A'} Y)=>(show eM w nb V n (ξ (β ρ)) Y from h.elim (λA' T=>S.fin H r ((S.T.gb g).trans T) (by omega) (K.A _))));obtain⟨at_,al⟩:=exq (bh s.b x.2.size);have bb:at_<x.2.size:=by have:=fk s.b (p:=x.2.size) (by omega);omega
 have ax:=J (λW=>fJ s.b x.2.size W hs.b.1 hs.b.2);rw[<-al]at ax;clear al;obtain⟨P,hP⟩:=exq (eM w nb V n);rw[<-hP]at I⊢;replace hP:=J hP;rw[a8]at u;replace⟨v,S,H,r,K,hs,t⟩:=iU v S H r K hs t;clear O Q U hv a4;obtain⟨kind,side,sa,bt,str⟩:=s;obtain⟨xt,c⟩:=x;simp only at *;subst hk;unfold dj at *;simp only at *;go_enter func85,ntmps85;go_upto_region 1 with fail;rw[<-X];clear X;go_upto_region 3 with fail;go_quiet (first|(go_at_call 23;refine Calls.quiet_of_same (Z R _)));obtain⟨d,B⟩:=exq (f.drewN nq);have g2:γ f d ν:=by rw[B];exact dv (aD _ ν) _
 have aC:∀a,κ d a=κ f a:=λa=>by rw[B];rfl
 rw[<-aC]at d0 d1 d2 d3 d4 F u G;rw[<-B];clear B aC;go_upto_region 5 with fail;obtain⟨j,C⟩:=exq (d.alloc (ο #[ι δ i,ς c] 83));have k:γ f j ν:=by rw[C];exact aq g2 (aJ _ _ _)
 have z5:f.heap.size<=d.heap.size:=g2.size;have D:j.heap[d.heap.size]?=μ (ο #[ι δ i,ς c] 83 (0,0)):=by rw[C];exact aO _ _
 obtain⟨f0,f1⟩:κ j ⟨d.heap.size,0,ν⟩=μ (ι δ i)/\κ j ⟨d.heap.size,1,ν⟩=μ (ς c):=by simp[World.cell?,D]
 rw[<-C];clear C F u G;replace D:=J D;obtain⟨d0,d1,d2,d3,d4⟩:=Z a9 j k;go_upto_region 13 with(go_at_call 23;apply(Z ax _).mono;rintro e w2⟨rfl,ew⟩;rw[ew];clear ew)
 have z6:d.heap.size<j.heap.size:=(bg.1 (Z D)).1;have z7:d.heap.size≠j.heap.size:=by omega
 have a0:(0:Int)<=at_:=by omega
 have a1:(at_:Int)<c.size:=by omega
 have a2:(at_:Int)<=c.size:=by omega
 have a3:(at_:Int)+1<=(c.size:Int):=by omega
 have bx:=λ(y:Int)=>So j (bits .xor Δ ((c[at_]'bb).toNat:Int) y) (Sp _ _)
 have bz:=λ(z:Int)=>A5 (c.extract 0 at_) (strOfNums [z]) (by rw[sI];have:(strOfNums [z]).size=1:=rfl;omega)
 have bM:=λ(z:Int)=>A5 (c.extract 0 at_++strOfNums [z]) (c.extract (at_+1) c.size) (by rw[tX,sI,sI];have:(strOfNums [z]).size=1:=rfl;omega)
 have E:∀z:Int,(c.extract 0 at_++strOfNums [z]++c.extract (at_+1) c.size).size<=1000000:=λz=>by rw[tX,tX,sI,sI];have:(strOfNums [z]).size=1:=rfl;omega
 replace E:=J E;by_cases hz:0<str.size
 ·have z1:decide (0<(str.size:Int))=ρ:=dT_;have z2:(0:Int)<str.size:=by omega
  go_upto_region 14 with fail;all_goals first|go_upto_region 15 with fail|skip
  all_goals go_region
  all_goals
   go_wp2_with (go_at_call 84;apply(Z v _ (aq k (aY (aJ _ _ _))) _ (Z E _)).mono;rintro e M⟨rfl,N⟩;have p:=J (Z I _ M (aq k (aY (aJ _ _ _))) N))
   first|exact Z p|(go_ret;exact Z p)
 have z1:decide (0<(str.size:Int))=θ:=dF_;go_upto_region 15 with fail;go_region;go_wp2_with (go_at_call 84;apply(Z v _ (aq k (aY (aJ _ _ _))) _ (Z E _)).mono;rintro e M⟨rfl,N⟩;have p:=J (Z I _ M (aq k (aY (aJ _ _ _))) N));first|exact Z p|(go_ret;exact Z p)
def Sr(w:ω)(nb:Nat)(V:Nw)(m:Nat->an)(n:Nat)(H:bV w nb V)(a:Laid w)(K:bl V m n)(b:n<=90000)(s:cY)(hs:s.ok):
 Calls prog 85 #[π (μ ⟨nb,0,ν⟩),ε (dj s)] w (eM w nb V n):=by
 have d:∀e c,e=ξ (β ρ)/\bS w nb V V c->eM w nb V n e c:=λe c h=>⟨h.1,V,m,n,by omega,h.2,K⟩
 by_cases h0:V.aN.length=0;exact(Gf w nb V m n H a K b s hs h0).mono d;by_cases f:s.kind=6;exact Sl w nb V m n H a K b s hs f h0;by_cases g:s.kind=9;exact Sn w nb V m n H a K b s hs g h0;by_cases i:s.kind=8;exact Sq w nb V m n H a K b s hs i h0;exact(Gc w nb V m n H a K b s hs ⟨f,g,i⟩ h0).mono d
def Ss(w:ω)(nb:Nat)(V:Nw)(m:Nat->an)(n:Nat)(H:bV w nb V)(h:Laid w)(K:bl V m n)(L:n<=90000)(s:cY)(hs:s.ok)(M:s.kind=2)(b:((V.e (bh s.side 2) (bh s.a 4)).finished||(V.e (bh s.side 2) (bh s.a 4)).given)=ρ):
 Calls prog 50 #[π (μ ⟨nb,0,ν⟩),ε (dj s)] w (eM w nb V n):=by
 obtain⟨p,S⟩:=iG.mk' H h s;obtain⟨i,C⟩:=exq (bh s.side 2);obtain⟨k,D⟩:=exq (bh s.a 4);have hi:i<2:=by have:=fk s.side (p:=2) (by decide);omega
 have q:k<4:=by have:=fk s.a (p:=4) (by decide);omega
 have r:=J (fJ s.side 2 p hs.side.1 hs.side.2 (by decide) (by decide));have t:=J (fJ s.a 4 p hs.a.1 hs.a.2 (by decide) (by decide));rw[<-C]at r b;rw[<-D]at t b;clear C D;have Y:(0:Int)<=i:=by omega
 have i1:(i:Int)<2:=by omega
 have k0:(0:Int)<=k:=by omega
 have k1:(k:Int)<4:=by omega
 have N:1-i<2:=by omega
 have O:i≠1-i:=by omega
 have hw:=K.lu;obtain⟨c0,c1,Q,ce,cl⟩:=S.T.at_.mT hi q;obtain⟨d0,d1,d2,d3,d4⟩:=S.cells S.T;obtain⟨R,⟨-,u,v⟩|⟨E,-,-⟩⟩:=K.xD hi N O L q;rotate_left
 rw[b]at E;cases E;have c:=oq S.T hi (K.ok hi) (by omega) ⟨2,(k:Int),0,0,⟨#[]⟩⟩ (by simp[aW]) (jm _) u ⟨by simp,⟨by simp,by simp;omega⟩,λe=>by simp at e⟩;have x:=J (λ(W:ω)(y:Nat->Prop)(T:bS p nb V {V with st:=ah V.st i (.ai R),A:=ah V.A i y} W)=>S.fin H h T (n:=n) (cf (n+1)) (v _));unfold dB mS mh at c;simp only[qu]at c;replace c:=J c;obtain⟨P,hP⟩:=exq (eM w nb V n);rw[<-hP]at x⊢;replace hP:=J hP;have F:=S.e;replace⟨S,H,h,K,hs,v,u⟩:=iU S H h K hs v u;obtain⟨kind,side,sa,a2,str⟩:=s;simp only at *;subst M;unfold dj at *;simp only at *;go_enter func50,ntmps50;go_upto_region 1 with fail;rw[<-F];clear F;go_upto_region 2 with(go_at_call 23;apply(Z r).mono;rintro e U⟨rfl,rfl⟩)
 go_upto_region 4 with(go_at_call 23;apply(Z t).mono;rintro e U⟨rfl,rfl⟩)
 go_upto_region 18 with(go_at_call 28;apply(Z c).mono;rintro e d⟨a,m1,G,y,rfl,-,z,-⟩)
 obtain⟨f,g⟩:=exq (d.alloc (ο #[ι δ 3,ι δ (-1),ι δ 0,ι η 0,ς ⟨#[]⟩,σ a m1 G] 46));have X:γ d f ν:=by rw[g];exact aJ _ _ _
 have z5:d.heap.size<f.heap.size:=by rw[g,eh];omega
 have B:f.heap[d.heap.size]?=μ (ο #[ι δ 3,ι δ (-1),ι δ 0,ι η 0,ς ⟨#[]⟩,σ a m1 G] 46 (0,0)):=by rw[g];exact aO _ _
 rw[<-g];clear g;have j:=z.gb X;have y0:κ f ⟨d.heap.size,0,ν⟩=μ (ι δ 3):=by simp[World.cell?,B]
 obtain⟨⟨-,e1,e2,-,-,-,-⟩,-⟩:=j.at_.ce hi q;simp only at e1 e2;have l:=J (Z x f y j);replace⟨B,z,j⟩:=cz B z j;clear x c r t c0 c1 Q ce cl d0 d1 d2 d3 d4;cases I:(V.e i k).finished
 ·rw[I]at e1 b;rw[ux]at b;rw[b]at e2;go_wp2_with fail;first|exact Z l|(go_ret;exact Z l)
 rw[I]at e1;go_wp2_with fail;first|exact Z l|(go_ret;exact Z l)
def Gg(w:ω)(nb:Nat)(V:Nw)(m:Nat->an)(n:Nat)(H:bV w nb V)(p:Laid w)(K:bl V m n)(R:n<=90000)(s:cY)(hs:s.ok)(Q:Nw->Prop)(U:s.kind=2)(b:((V.e (bh s.side 2) (bh s.a 4)).finished||(V.e (bh s.side 2) (bh s.a 4)).given)=θ)(h:∀(c:Sd)(E:Nat->Nat->Prop),(V.st (bh s.side 2)).do ⟨2,((bh s.a 4):Int),0,0,⟨#[]⟩⟩=(⟨0,-1,0,0,[],[]⟩,.ai c)->bl {V with st:=ah V.st (bh s.side 2) (.ai c),A:=E,e:=dZ V.e (bh s.side 2) (bh s.a 4) {V.e (bh s.side 2) (bh s.a 4)with finished:=ρ}} (ah m (bh s.side 2) {m (bh s.side 2)with outs:=ah (m (bh s.side 2)).outs (bh s.a 4) {(m (bh s.side 2)).outs (bh s.a 4)with finished:=ρ}}) (n+1)->Q {V with st:=ah V.st (bh s.side 2) (.ai c),A:=E,e:=dZ V.e (bh s.side 2) (bh s.a 4) {V.e (bh s.side 2) (bh s.a 4)with finished:=ρ}}):
 Calls prog 50 #[π (μ ⟨nb,0,ν⟩),ε (dj s)] w (ot w nb V Q):=by
 obtain⟨v,S⟩:=iG.mk' H p s;obtain⟨i,F⟩:=exq (bh s.side 2);obtain⟨k,G⟩:=exq (bh s.a 4);have hi:i<2:=by have:=fk s.side (p:=2) (by decide);omega
 have d:k<4:=by have:=fk s.a (p:=4) (by decide);omega
 have y:=J (fJ s.side 2 v hs.side.1 hs.side.2 (by decide) (by decide));have z:=J (fJ s.a 4 v hs.a.1 hs.a.2 (by decide) (by decide));rw[<-F]at y b h;rw[<-G]at z b h;clear F G;have i0:(0:Int)<=i:=by omega
 have i1:(i:Int)<2:=by omega
 have k0:(0:Int)<=k:=by omega
 have k1:(k:Int)<4:=by omega
 have X:1-i<2:=by omega
 have Y:i≠1-i:=by omega
 have hw:=K.lu;obtain⟨c0,c1,cx,ce,cl⟩:=S.T.at_.mT hi d;obtain⟨d0,d1,d2,d3,d4⟩:=S.cells S.T;obtain⟨c,⟨I,-,-⟩|⟨-,q,B⟩⟩:=K.xD hi X Y R d;rw[b]at I;cases I;have f:=oq S.T hi (K.ok hi) (by omega) ⟨2,(k:Int),0,0,⟨#[]⟩⟩ (by simp[aW]) (jm _) q ⟨by simp,⟨by simp,by simp;omega⟩,λe=>by simp at e⟩;have C:=J (λ(W:ω)(r:Nat->Prop)(T:bS v nb V {V with st:=ah V.st i (.ai c),A:=ah V.A i r} W)=>(show ot w nb V Q (ξ (β ρ)) (ζ W ⟨V.eb i k,1,ν⟩ (β ρ)) by
  have L:=T.at_.en i hi k d;simp only at L;have T7:=T.trans (T.at_.vU T.laid hi d (x:={V.e i k with finished:=ρ}) (oY W (V.eb i k) 1 (β ρ)) (heap_set L _));obtain⟨m',aC,a0⟩:=B (ah V.A i r);exact S.AZ H p T7 (h c _ q (a0▸aC))))
 unfold dB mS mh at f;simp only[qu]at f;replace f:=J f;obtain⟨P,hP⟩:=exq (ot w nb V Q);rw[<-hP]at C⊢;replace hP:=J hP;have M:=S.e;replace⟨S,H,p,K,hs,B,q,h⟩:=qT S H p K hs B q h;obtain⟨kind,side,sa,bx,str⟩:=s;simp only at *;subst U;unfold dj at *;simp only at *;go_enter func50,ntmps50;go_upto_region 1 with fail;rw[<-M];clear M;go_upto_region 2 with(go_at_call 23;apply(Z y).mono;rintro e w2⟨rfl,rfl⟩)
 go_upto_region 4 with(go_at_call 23;apply(Z z).mono;rintro e w2⟨rfl,rfl⟩)
 go_upto_region 18 with(go_at_call 28;apply(Z f).mono;rintro e g⟨a,m1,N,r,rfl,-,t,-⟩)
 obtain⟨j,l⟩:=exq (g.alloc (ο #[ι δ 0,ι δ (-1),ι δ 0,ι η 0,ς ⟨#[]⟩,σ a m1 N] 46));have g5:γ g j ν:=by rw[l];exact aJ _ _ _
 have z5:g.heap.size<j.heap.size:=by rw[l,eh];omega
 have D:j.heap[g.heap.size]?=μ (ο #[ι δ 0,ι δ (-1),ι δ 0,ι η 0,ς ⟨#[]⟩,σ a m1 N] 46 (0,0)):=by rw[l];exact aO _ _
 rw[<-l];clear l;have u:=t.gb g5;have y0:κ j ⟨g.heap.size,0,ν⟩=μ (ι δ 0):=by simp[World.cell?,D]
 obtain⟨⟨-,e1,e2,e3,-,-,-⟩,ef⟩:=u.at_.ce hi d;simp only at e1 e2 e3 ef;have b0:g.heap.size≠V.eb i k:=λe=>by
  have:=t.at_.fV (V.eb i k) (ψ (ψ (ψ (ψ (ψ (φ ⟨i,k,hi,d,rfl⟩))))));omega
 have O:=J (Z C j r u);replace⟨D,t,u⟩:=cz D t u;clear C f y z c0 c1 cx ce cl d0 d1 d2 d3 d4;rw[oD]at b;rw[b.1]at e1;rw[b.2]at e2;go_wp2_with fail;first|exact Z O|(go_ret;exact Z O)
def Su(w:ω)(nb:Nat)(V:Nw)(m:Nat->an)(n:Nat)(H:bV w nb V)(j:Laid w)(K:bl V m n)(Q:n<=90000)(s:cY)(hs:s.ok)(R:s.kind=3)(l:(V.e (bh s.side 2) (bh s.a 4)).given=ρ):
 Calls prog 50 #[π (μ ⟨nb,0,ν⟩),ε (dj s)] w (eM w nb V n):=by
 obtain⟨p,S⟩:=iG.mk' H j s;obtain⟨i,E⟩:=exq (bh s.side 2);obtain⟨k,F⟩:=exq (bh s.a 4);have hi:i<2:=by have:=fk s.side (p:=2) (by decide);omega
 have r:k<4:=by have:=fk s.a (p:=4) (by decide);omega
 have t:=J (fJ s.side 2 p hs.side.1 hs.side.2 (by decide) (by decide));have u:=J (fJ s.a 4 p hs.a.1 hs.a.2 (by decide) (by decide));rw[<-E]at t l;rw[<-F]at u l;clear E F;have i0:(0:Int)<=i:=by omega
 have i1:(i:Int)<2:=by omega
 have k0:(0:Int)<=k:=by omega
 have k1:(k:Int)<4:=by omega
 have U:1-i<2:=by omega
 have X:i≠1-i:=by omega
 have hw:=K.lu;obtain⟨c0,c1,Y,ce,cl⟩:=S.T.at_.mT hi r;obtain⟨d0,d1,d2,d3,d4⟩:=S.cells S.T;obtain⟨c,v⟩:=exq (bh s.b 1000);have a4:(c:Int)<1000:=by rw[v];exact fk s.b (by decide)
 have G:=J (fJ s.b 1000 p hs.b.1 hs.b.2 (by decide) (by decide));rw[<-v]at G;clear v;have a8:IntKind.u64.wrap (c:Int)=(c:Int):=by simp[IntKind.wrap,IntKind.bits,IntKind.signed];omega
 obtain⟨s',⟨-,x,y⟩|⟨I,-,-⟩⟩:=K.F7 hi U X Q r (p:=(c:Int)) (by omega);rotate_left
 rw[l]at I;cases I;have d:=oq S.T hi (K.ok hi) (by omega) ⟨3,(k:Int),0,(c:Int),⟨#[]⟩⟩ (by unfold aW;simp only;omega) (jm _) x ⟨by simp,⟨by simp,by simp;omega⟩,λe=>by simp at e⟩;have z:=J (λ(W:ω)(B:Nat->Prop)(T:bS p nb V {V with st:=ah V.st i (.ai s'),A:=ah V.A i B} W)=>S.fin H j T (n:=n) (cf (n+1)) (y _));unfold dB mS mh at d;simp only[qu]at d;replace d:=J d;obtain⟨P,hP⟩:=exq (eM w nb V n);rw[<-hP]at z⊢;replace hP:=J hP;have L:=S.e;replace⟨S,H,j,K,hs,y,x⟩:=iU S H j K hs y x;obtain⟨kind,side,sa,bb,str⟩:=s;simp only at *;subst R;unfold dj at *;simp only at *;go_enter func50,ntmps50;go_upto_region 1 with fail;rw[<-L];clear L;go_upto_region 2 with(go_at_call 23;apply(Z t).mono;rintro e M⟨rfl,rfl⟩)
 go_upto_region 4 with(go_at_call 23;apply(Z u).mono;rintro e M⟨rfl,rfl⟩)
 go_upto_region 26 with(first|(go_at_call 23;apply(Z G).mono;rintro e M⟨rfl,rfl⟩)|(go_at_call 28;apply(Z d).mono;rintro e f⟨a,m1,N,B,rfl,-,C,-⟩))
 obtain⟨g,h⟩:=exq (f.alloc (ο #[ι δ 3,ι δ (-1),ι δ 0,ι η 0,ς ⟨#[]⟩,σ a m1 N] 46));have g5:γ f g ν:=by rw[h];exact aJ _ _ _
 have z5:f.heap.size<g.heap.size:=by rw[h,eh];omega
 have D:g.heap[f.heap.size]?=μ (ο #[ι δ 3,ι δ (-1),ι δ 0,ι η 0,ς ⟨#[]⟩,σ a m1 N] 46 (0,0)):=by rw[h];exact aO _ _
 rw[<-h];clear h;have q:=C.gb g5;have y0:κ g ⟨f.heap.size,0,ν⟩=μ (ι δ 3):=by simp[World.cell?,D]
 obtain⟨⟨-,e1,e2,-,-,-,-⟩,-⟩:=q.at_.ce hi r;simp only at e1 e2;have O:=J (Z z g B q);replace⟨D,C,q⟩:=cz D C q;clear z d t u c0 c1 Y ce cl d0 d1 d2 d3 d4;rw[l]at e2;go_wp2_with fail;first|exact Z O|(go_ret;exact Z O)
def Sv(w:ω)(nb:Nat)(V:Nw)(m:Nat->an)(n:Nat)(H:bV w nb V)(l:Laid w)(K:bl V m n)(U:n<=90000)(s:cY)(hs:s.ok)(X:s.kind=3)(p:(V.e (bh s.side 2) (bh s.a 4)).given=θ):
 Calls prog 50 #[π (μ ⟨nb,0,ν⟩),ε (dj s)] w (eM w nb V n):=by
 obtain⟨q,S⟩:=iG.mk' H l s;obtain⟨i,F⟩:=exq (bh s.side 2);obtain⟨k,G⟩:=exq (bh s.a 4);have hi:i<2:=by have:=fk s.side (p:=2) (by decide);omega
 have d:k<4:=by have:=fk s.a (p:=4) (by decide);omega
 have v:=J (fJ s.side 2 q hs.side.1 hs.side.2 (by decide) (by decide));have y:=J (fJ s.a 4 q hs.a.1 hs.a.2 (by decide) (by decide));rw[<-F]at v p;rw[<-G]at y p;clear F G;have i0:(0:Int)<=i:=by omega
 have i1:(i:Int)<2:=by omega
 have k0:(0:Int)<=k:=by omega
 have k1:(k:Int)<4:=by omega
 have Y:1-i<2:=by omega
 have al:i≠1-i:=by omega
 have hw:=K.lu;obtain⟨c0,c1,cx,ce,cl⟩:=S.T.at_.mT hi d;obtain⟨d0,d1,d2,d3,d4⟩:=S.cells S.T;obtain⟨c,z⟩:=exq (bh s.b 1000);have br:(c:Int)<1000:=by rw[z];exact fk s.b (by decide)
 have I:=J (fJ s.b 1000 q hs.b.1 hs.b.2 (by decide) (by decide));rw[<-z]at I;clear z;have bt:IntKind.u64.wrap (c:Int)=(c:Int):=by simp[IntKind.wrap,IntKind.bits,IntKind.signed];omega
 obtain⟨s',⟨L,-,-⟩|⟨-,B,C⟩⟩:=K.F7 hi Y al U d (p:=(c:Int)) (by omega);rw[p]at L;cases L;have f:=oq S.T hi (K.ok hi) (by omega) ⟨3,(k:Int),0,(c:Int),⟨#[]⟩⟩ (by unfold aW;simp only;omega) (jm _) B ⟨by simp,⟨by simp,by simp;omega⟩,λe=>by simp at e⟩;have D:=J (λ(W:ω)(r:Nat->Prop)(T:bS q nb V {V with st:=ah V.st i (.ai s'),A:=ah V.A i r} W)=>(show eM w nb V n (ξ (β ρ)) ((ζ W ⟨V.eb i k,2,ν⟩ (β ρ)).setCell ⟨V.eb i k,3,ν⟩ (ι η c)) by
  have M:=T.at_.en i hi k d;simp only at M;have T7:=T.trans (T.at_.vU T.laid hi d (x:={V.e i k with given:=ρ,code:=(c:Int)}) (((oY W (V.eb i k) 2 (β ρ)).trans (oY _ (V.eb i k) 3 (ι η c))).mono (λk _ e=>e.elim id id)) (heap_set (heap_set M _) _));obtain⟨m',a1⟩:=C (ah V.A i r);exact S.fin H l T7 (n:=n) (cf (n+1)) a1))
 unfold dB mS mh at f;simp only[qu]at f;replace f:=J f;obtain⟨P,hP⟩:=exq (eM w nb V n);rw[<-hP]at D⊢;replace hP:=J hP;have N:=S.e;replace⟨S,H,l,K,hs,C,B⟩:=iU S H l K hs C B;obtain⟨kind,side,sa,bM,str⟩:=s;simp only at *;subst X;unfold dj at *;simp only at *;go_enter func50,ntmps50;go_upto_region 1 with fail;rw[<-N];clear N;go_upto_region 2 with(go_at_call 23;apply(Z v).mono;rintro e O⟨rfl,rfl⟩)
 go_upto_region 4 with(go_at_call 23;apply(Z y).mono;rintro e O⟨rfl,rfl⟩)
 go_upto_region 26 with(first|(go_at_call 23;apply(Z I).mono;rintro e O⟨rfl,rfl⟩)|(go_at_call 28;apply(Z f).mono;rintro e g⟨a,m1,Q,r,rfl,-,t,-⟩))
 obtain⟨h,j⟩:=exq (g.alloc (ο #[ι δ 0,ι δ (-1),ι δ 0,ι η 0,ς ⟨#[]⟩,σ a m1 Q] 46));have g5:γ g h ν:=by rw[j];exact aJ _ _ _
 have z5:g.heap.size<h.heap.size:=by rw[j,eh];omega
 have E:h.heap[g.heap.size]?=μ (ο #[ι δ 0,ι δ (-1),ι δ 0,ι η 0,ς ⟨#[]⟩,σ a m1 Q] 46 (0,0)):=by rw[j];exact aO _ _
 rw[<-j];clear j;have u:=t.gb g5;have y0:κ h ⟨g.heap.size,0,ν⟩=μ (ι δ 0):=by simp[World.cell?,E]
 obtain⟨⟨-,e1,e2,e3,-,-,-⟩,ef⟩:=u.at_.ce hi d;simp only at e1 e2 e3 ef;have b4:g.heap.size≠V.eb i k:=λe=>by
  have:=t.at_.fV (V.eb i k) (ψ (ψ (ψ (ψ (ψ (φ ⟨i,k,hi,d,rfl⟩))))));omega
 have R:=J (Z D h r u);replace⟨E,t,u⟩:=cz E t u;clear D f v y c0 c1 cx ce cl d0 d1 d2 d3 d4;rw[p]at e2;go_wp2_with fail;first|exact Z R|(go_ret;exact Z R)
def Sw(w:ω)(nb:Nat)(V:Nw)(m:Nat->an)(n:Nat)(H:bV w nb V)(b:Laid w)(K:bl V m n)(c:n<=90000)(s:cY)(hs:s.ok)(d:s.kind=2)(f:((V.e (bh s.side 2) (bh s.a 4)).finished||(V.e (bh s.side 2) (bh s.a 4)).given)=θ):
 Calls prog 50 #[π (μ ⟨nb,0,ν⟩),ε (dj s)] w (eM w nb V n):=
 (Gg w nb V m n H b K c s hs _ d f (λ_ _ _ h=>⟨_,_,cf (n+1),h⟩)).mono (λ_ _ h=>h.post)
def Sx(w:ω)(nb:Nat)(V:Nw)(m:Nat->an)(n:Nat)(H:bV w nb V)(a:Laid w)(K:bl V m n)(b:n<=90000)(s:cY)(hs:s.ok)(c:s.kind≠6/\s.kind≠9/\s.kind≠8):
 Calls prog 85 #[π (μ ⟨nb,0,ν⟩),ε (dj s)] w λe d=>e=ξ (β ρ)/\bS w nb V V d:=by
 by_cases h0:V.aN.length=0;exact Gf w nb V m n H a K b s hs h0;exact Gc w nb V m n H a K b s hs c h0
def Sy(w:ω)(nb:Nat)(V:Nw)(m:Nat->an)(n:Nat)(H:bV w nb V)(b:Laid w)(K:bl V m n)(A:n<=90000)(s:cY)(hs:s.ok)(B:s.kind=5):
 Calls prog 50 #[π (μ ⟨nb,0,ν⟩),ε (dj s)] w (eM w nb V n):=by
 obtain⟨c,S⟩:=iG.mk' H b s;obtain⟨i,l⟩:=exq (bh s.side 2);obtain⟨k,p⟩:=exq (bh s.a 4);have hi:i<2:=by have:=fk s.side (p:=2) (by decide);omega
 have C:k<4:=by have:=fk s.a (p:=4) (by decide);omega
 have q:=J (fJ s.side 2 c hs.side.1 hs.side.2 (by decide) (by decide));have r:=J (fJ s.a 4 c hs.a.1 hs.a.2 (by decide) (by decide));rw[<-l]at q;rw[<-p]at r;clear l p;have N:(0:Int)<=i:=by omega
 have O:(i:Int)<2:=by omega
 have Q:(0:Int)<=k:=by omega
 have R:(k:Int)<4:=by omega
 have D:1-i<2:=by omega
 have E:i≠1-i:=by omega
 have U:=K.lu;obtain⟨c0,c1,W,ce,cl⟩:=S.T.at_.mT hi C;obtain⟨d0,d1,d2,d3,d4⟩:=S.cells S.T;obtain⟨t,ps,d,X,F,f,Y,-,g⟩:=K.Gb hi D E A;have G:=J (FV c nb V S.T.at_ S.T.laid i ((1-i:Nat):Int) hi (by omega) n (K.ok hi) (by omega) ps (by omega) (by have:=K.lb;omega) F (.ai t) d f);have u:=J (λ(x:ω)(h:∃j v,bS c nb V (jZ V i ((1-i:Nat):Int) (.ai t) (ps.map strOfNums) ps.length j v) x)=>(show eM w nb V n (ξ (β ρ)) x from h.elim (λj h=>h.elim (λv T=>S.fin H b T (n:=n) (cf (n+1)) (g j v)))));obtain⟨P,hP⟩:=exq (eM w nb V n);rw[<-hP]at u⊢;replace hP:=J hP;have y:=S.e;replace⟨S,H,b,K,hs,g,d,f⟩:=qT S H b K hs g d f;obtain⟨kind,side,sa,ax,str⟩:=s;simp only at *;subst B;unfold dj at *;simp only at *;go_enter func50,ntmps50;go_upto_region 1 with fail;rw[<-y];clear y;go_upto_region 2 with(go_at_call 23;apply(Z q).mono;rintro e I⟨rfl,rfl⟩)
 go_upto_region 4 with(go_at_call 23;apply(Z r).mono;rintro e I⟨rfl,rfl⟩)
 go_wp2_with (go_at_call 29;apply(Z G).mono;rintro e L⟨rfl,M⟩;have z:=J (Z u L M));first|exact Z z|(go_ret;exact Z z)
def Sz(w:ω)(nb:Nat)(V:Nw)(m:Nat->an)(n:Nat)(H:bV w nb V)(b:Laid w)(K:bl V m n)(C:n<=90000)(s:cY)(hs:s.ok)(u:s.kind=7):
 Calls prog 50 #[π (μ ⟨nb,0,ν⟩),ε (dj s)] w (eM w nb V n):=by
 obtain⟨c,S⟩:=iG.mk' H b s;obtain⟨i,d⟩:=exq (bh s.side 2);obtain⟨k,f⟩:=exq (bh s.a 4);have hi:i<2:=by have:=fk s.side (p:=2) (by decide);omega
 have v:k<4:=by have:=fk s.a (p:=4) (by decide);omega
 have g:=J (fJ s.side 2 c hs.side.1 hs.side.2 (by decide) (by decide));have j:=J (fJ s.a 4 c hs.a.1 hs.a.2 (by decide) (by decide));rw[<-d]at g;rw[<-f]at j;clear d f;have D:(0:Int)<=i:=by omega
 have E:(i:Int)<2:=by omega
 have F:(0:Int)<=k:=by omega
 have G:(k:Int)<4:=by omega
 have I:1-i<2:=by omega
 have L:i≠1-i:=by omega
 have M:=K.lu;obtain⟨c0,c1,N,ce,cl⟩:=S.T.at_.mT hi v;obtain⟨d0,d1,d2,d3,d4⟩:=S.cells S.T;have x:=J (AY c nb V S.T.at_ S.T.laid i hi n (K.ok hi) (by omega) s.s (by have:=hs.len;omega) (K.A7 hi s.s));have l:=J (λ(p:ω)(h:∃q,bS c nb V {V with A:=ah V.A i q} p)=>(show eM w nb V n (ξ (β ρ)) p from h.elim (λq T=>S.fin H b T (n:=n) (by omega) (K.A _))));obtain⟨P,hP⟩:=exq (eM w nb V n);rw[<-hP]at l⊢;replace hP:=J hP;have r:=S.e;replace⟨S,H,b,K,hs⟩:=fF S H b K hs;obtain⟨kind,side,O,Q,str⟩:=s;simp only at *;subst u;unfold dj at *;simp only at *;go_enter func50,ntmps50;go_upto_region 1 with fail;rw[<-r];clear r;go_upto_region 2 with(go_at_call 23;apply(Z g).mono;rintro e y⟨rfl,rfl⟩)
 go_upto_region 4 with(go_at_call 23;apply(Z j).mono;rintro e y⟨rfl,rfl⟩)
 go_wp2_with (go_at_call 84;apply(Z x).mono;rintro e z⟨rfl,B⟩;have t:=J (Z l z B));first|exact Z t|(go_ret;exact Z t)
def SA(w:ω)(nb:Nat)(V:Nw)(m:Nat->an)(n:Nat)(H:bV w nb V)(c:Laid w)(K:bl V m n)(x:n<=90000)(s:cY)(hs:s.ok)(b:s.kind≠1/\s.kind≠2/\s.kind≠3/\s.kind≠4/\s.kind≠5/\s.kind≠7/\s.kind≠10):
 Calls prog 50 #[π (μ ⟨nb,0,ν⟩),ε (dj s)] w (eM w nb V n):=by
 obtain⟨d,S⟩:=iG.mk' H c s;obtain⟨i,l⟩:=exq (bh s.side 2);obtain⟨k,p⟩:=exq (bh s.a 4);have hi:i<2:=by have:=fk s.side (p:=2) (by decide);omega
 have y:k<4:=by have:=fk s.a (p:=4) (by decide);omega
 have q:=J (fJ s.side 2 d hs.side.1 hs.side.2 (by decide) (by decide));have r:=J (fJ s.a 4 d hs.a.1 hs.a.2 (by decide) (by decide));rw[<-l]at q;rw[<-p]at r;clear l p;have F:(0:Int)<=i:=by omega
 have G:(i:Int)<2:=by omega
 have I:(0:Int)<=k:=by omega
 have L:(k:Int)<4:=by omega
 have M:1-i<2:=by omega
 have N:i≠1-i:=by omega
 have O:=K.lu;obtain⟨c0,c1,Q,ce,cl⟩:=S.T.at_.mT hi y;obtain⟨d0,d1,d2,d3,d4⟩:=S.cells S.T;have e1:(s.kind==1)=θ:=by simpa using b.1
 have e2:(s.kind==2)=θ:=by simpa using b.2.1
 have R:(s.kind==3)=θ:=by simpa using b.2.2.1
 have U:(s.kind==4)=θ:=by simpa using b.2.2.2.1
 have W:(s.kind==5)=θ:=by simpa using b.2.2.2.2.1
 have X:(s.kind==7)=θ:=by simpa using b.2.2.2.2.2.1
 have Y:(s.kind==10)=θ:=by simpa using b.2.2.2.2.2.2
 have f:=Sr d nb V m n S.T.at_ S.T.laid K x s hs;unfold dj at f;replace f:=J f;have t:=J (λ(e:Ending)(u:ω)(h:eM d nb V n e u)=>(show e=ξ (β ρ)/\eM w nb V n (ξ (β ρ)) u from⟨h.1,rfl,h.2.elim (λz h=>h.elim (λA h=>h.elim (λB h=>⟨z,A,B,h.1,bS.pre H c S.g h.2.1,h.2.2⟩)))⟩));obtain⟨P,hP⟩:=exq (eM w nb V n);rw[<-hP]at t⊢;replace hP:=J hP;have v:=S.e;replace⟨S,H,c,K,hs⟩:=fF S H c K hs;obtain⟨kind,side,sa,ax,str⟩:=s;simp only at *;clear b;unfold dj at *;simp only at *;go_enter func50,ntmps50;go_upto_region 1 with fail;rw[<-v];clear v;go_upto_region 2 with(go_at_call 23;apply(Z q).mono;rintro e C⟨rfl,rfl⟩)
 go_upto_region 4 with(go_at_call 23;apply(Z r).mono;rintro e C⟨rfl,rfl⟩)
 go_wp2_with (go_at_call 85;apply(Z f).mono;intro e D E;obtain⟨rfl,j⟩:=Z t e D E;replace j:=J j);first|exact Z j|(go_ret;exact Z j)
def Gh(w:ω)(nb:Nat)(V:Nw)(m:Nat->an)(n:Nat)(H:bV w nb V)(p:Laid w)(K:bl V m n)(hn:n<=89990)(s:cY)(hs:s.ok)(Q:Nw->Prop)(X:s.kind=4)(v:∀(s0 s1:Sd)(d:Nat->Nat->Prop),(V.st 0).do ⟨4,0,0,0,⟨#[]⟩⟩=(⟨0,-1,0,0,[],[]⟩,.ai s0)->(V.st 1).do ⟨4,0,0,0,⟨#[]⟩⟩=(⟨0,-1,0,0,[],[]⟩,.ai s1)->bl {V with st:=ah (ah V.st 0 (.ai s0)) 1 (.ai s1),A:=d} m (n+1+1)->Q {V with st:=ah (ah V.st 0 (.ai s0)) 1 (.ai s1),A:=d}):
 Calls prog 50 #[π (μ ⟨nb,0,ν⟩),ε (dj s)] w (ot w nb V Q):=by
 obtain⟨g,S⟩:=iG.mk' H p s;obtain⟨i,D⟩:=exq (bh s.side 2);obtain⟨k,E⟩:=exq (bh s.a 4);have hi:i<2:=by have:=fk s.side (p:=2) (by decide);omega
 have Y:k<4:=by have:=fk s.a (p:=4) (by decide);omega
 have F:=J (fJ s.side 2 g hs.side.1 hs.side.2 (by decide) (by decide));have G:=J (fJ s.a 4 g hs.a.1 hs.a.2 (by decide) (by decide));rw[<-D]at F;rw[<-E]at G;clear D E;have i0:(0:Int)<=i:=by omega
 have i1:(i:Int)<2:=by omega
 have k0:(0:Int)<=k:=by omega
 have k1:(k:Int)<4:=by omega
 have hj:1-i<2:=by omega
 have br:i≠1-i:=by omega
 have hw:=K.lu;obtain⟨c0,c1,cx,ce,cl⟩:=S.T.at_.mT hi Y;obtain⟨d0,d1,d2,d3,d4⟩:=S.cells S.T;obtain⟨s0,q,y⟩:=K.F6 (i:=0) (j:=1) (by decide) (by decide) (by decide) (by omega);have h:=oq S.T (i:=0) (by decide) (K.ok (by decide)) (by omega) ⟨4,0,0,0,⟨#[]⟩⟩ (by simp[aW]) (jm _) q ⟨by simp,by simp,λe=>by simp at e⟩;have ax:=S.T.at_.x 0 (by decide);have I:=J (λ(W:ω)(l:Nat->Prop)(T:bS g nb V {V with st:=ah V.st 0 (.ai s0),A:=ah V.A 0 l} W)=>(show(κ W ⟨nb,0,ν⟩=μ (σ (μ ⟨V.xr,0,ν⟩) 2 V.xc)/\κ W ⟨V.xr,1,ν⟩=μ (π (μ ⟨V.xb 1,0,ν⟩)))/\∃s1,Calls prog 28 #[π (μ ⟨V.xb 1,0,ν⟩),ε (dB ⟨4,0,0,0,⟨#[]⟩⟩)] W (mS g W nb V {V with st:=ah V.st 0 (.ai s0),A:=ah V.A 0 l} 1 ⟨0,-1,0,0,[],[]⟩ (.ai s1))/\∀d,bl {V with st:=ah (ah V.st 0 (.ai s0)) 1 (.ai s1),A:=d} m (n+1+1)/\Q {V with st:=ah (ah V.st 0 (.ai s0)) 1 (.ai s1),A:=d} by
  have L:=y (ah V.A 0 l);obtain⟨s1,M,f⟩:=L.F6 (i:=1) (j:=0) (by decide) (by decide) (by decide) (by omega);exact⟨⟨T.at_.c.1.1,T.at_.x 1 (by decide)⟩,s1,oq T (i:=1) (by decide) (L.ok (by decide)) (by omega) ⟨4,0,0,0,⟨#[]⟩⟩ (by simp[aW]) (jm _) M ⟨by simp,by simp,λe=>by simp at e⟩,λd=>⟨f d,v s0 s1 d q (by rw[<-M];rfl) (f d)⟩⟩))
 have N:=J (λ(W:ω)(r:Nw)(T:bS g nb V r W)(O:bl r m (n+1+1)/\Q r)=>(show(κ W ⟨w.heap.size,0,ν⟩=μ (ι δ s.kind)/\κ W ⟨w.heap.size,1,ν⟩=μ (ι δ s.side)/\κ W ⟨w.heap.size,2,ν⟩=μ (ι δ s.a)/\κ W ⟨w.heap.size,3,ν⟩=μ (ι δ s.b)/\κ W ⟨w.heap.size,4,ν⟩=μ (ς s.s))/\Calls prog 85 #[π (μ ⟨nb,0,ν⟩),ε (dj s)] W (λe R=>e=ξ (β ρ)/\ot w nb V Q (ξ (β ρ)) R) by
  refine⟨S.cells T,(Sx W nb r m (n+1+1) T.at_ T.laid O.1 (by omega) s hs (by omega)).mono ?_⟩
  rintro e R⟨rfl,T'⟩;exact⟨rfl,S.AZ H p (T.trans T') O.2⟩))
 unfold mS dB at h;replace h:=J h;obtain⟨P,hP⟩:=exq (ot w nb V Q);rw[<-hP]at N⊢;replace hP:=J hP;have U:=S.e;replace⟨S,H,p,K,hs,v,y,q⟩:=qT S H p K hs v y q;obtain⟨kind,side,sa,bz,str⟩:=s;simp only at *;subst X;unfold dj at *;simp only at *;go_enter func50,ntmps50;go_upto_region 1 with fail;rw[<-U];clear U;go_upto_region 2 with(go_at_call 23;apply(Z F).mono;rintro e w2⟨rfl,rfl⟩)
 go_upto_region 4 with(go_at_call 23;apply(Z G).mono;rintro e w2⟨rfl,rfl⟩)
 go_upto_region 33 with(go_at_call 28;apply(Z h).mono;rintro e w3⟨a,m1,m2,l,rfl,-,z,-⟩)
 obtain⟨⟨y0,y1⟩,s1,t,f⟩:=Z I w3 l z;unfold mS dB at t;replace⟨t,z,f⟩:=cz t z f;clear h I c0 c1 cx ce cl d0 d1 d2 d3 d4 ax;go_upto_region 40 with(go_at_call 28;apply(Z t).mono;rintro e w4⟨a4,m3,m4,A4,rfl,-,B,-⟩)
 obtain⟨⟨d0,d1,d2,d3,d4⟩,C⟩:=Z N w4 _ B (Z f _);replace⟨C,B⟩:=bD C B;go_wp2_with (go_at_call 85;apply(Z C).mono;rintro e w6⟨rfl,u⟩;replace u:=J u);first|exact Z u|(go_ret;exact Z u)
def SB(w:ω)(nb:Nat)(V:Nw)(m:Nat->an)(n:Nat)(H:bV w nb V)(a:Laid w)(K:bl V m n)(b:n<=89990)(s:cY)(hs:s.ok)(c:s.kind=4):
 Calls prog 50 #[π (μ ⟨nb,0,ν⟩),ε (dj s)] w (eM w nb V n):=
 (Gh w nb V m n H a K b s hs _ c (λ_ _ _ _ _ h=>⟨_,_,aP _,h⟩)).mono (λ_ _ h=>h.post)
def SC(w:ω)(nb:Nat)(V:Nw)(m:Nat->an)(n:Nat)(H:bV w nb V)(f:Laid w)(K:bl V m n)(Q:n<=90000)(s:cY)(hs:s.ok)(R:s.kind=10):
 Calls prog 50 #[π (μ ⟨nb,0,ν⟩),ε (dj s)] w (eM w nb V n):=by
 obtain⟨j,S⟩:=iG.mk' H f s;obtain⟨i,y⟩:=exq (bh s.side 2);obtain⟨k,z⟩:=exq (bh s.a 4);have hi:i<2:=by have:=fk s.side (p:=2) (by decide);omega
 have U:k<4:=by have:=fk s.a (p:=4) (by decide);omega
 have B:=J (fJ s.side 2 j hs.side.1 hs.side.2 (by decide) (by decide));have C:=J (fJ s.a 4 j hs.a.1 hs.a.2 (by decide) (by decide));rw[<-y]at B;rw[<-z]at C;clear y z;have i0:(0:Int)<=i:=by omega
 have i1:(i:Int)<2:=by omega
 have k0:(0:Int)<=k:=by omega
 have k1:(k:Int)<4:=by omega
 have D:1-i<2:=by omega
 have X:i≠1-i:=by omega
 have hw:=K.lu;obtain⟨c0,c1,cx,ce,cl⟩:=S.T.at_.mT hi U;obtain⟨d0,d1,d2,d3,d4⟩:=S.cells S.T;obtain⟨c,E⟩:=exq (bh s.b 4);obtain⟨mo,q⟩:=exq (bh s.a 200);have F:c<4:=by have:=fk s.b (p:=4) (by decide);omega
 have a9:(mo:Int)<200:=by rw[q];exact fk s.a (by decide)
 have l:=λ(W:ω)=>fJ s.b 4 W hs.b.1 hs.b.2 (by decide) (by decide)
 have p:=λ(W:ω)=>fJ s.a 200 W hs.a.1 hs.a.2 (by decide) (by decide)
 rw[<-E]at l;rw[<-q]at p;replace⟨l,p⟩:=bD l p;clear E q;obtain⟨G,N,code,data,r,t,bb,-,u⟩:=K.F8 hi D X Q F (p:=(mo:Int)) (by omega);have Y:=J (λ(W:ω)(g:γ j W ν)=>FW W nb V (S.T.gb g).at_ (S.T.gb g).laid i (1-i) hi D (by omega) n (K.ok hi) (by omega) c F (mo:Int) (by omega) N code data (.ai G) r t (by omega));have I:=J (λ(W L:ω)(g:γ j W ν)(h:∃v,bS W nb V {V with st:=ah V.st i (.ai G),A:=ah V.A i v,e:=dZ V.e (1-i) c {V.e (1-i) c with read:=(V.e (1-i) c).read+data.length,state:=N}} L)=>(show eM w nb V n (ξ (β ρ)) L from h.elim (λv T=>(u (ah V.A i v)).elim (λm' al=>S.fin H f ((S.T.gb g).trans T) (n:=n) (cf (n+1)) al.1))));obtain⟨P,hP⟩:=exq (eM w nb V n);rw[<-hP]at I⊢;replace hP:=J hP;have M:=S.e;replace⟨S,H,f,K,hs,u,r,t⟩:=qT S H f K hs u r t;obtain⟨kind,side,sa,bt,str⟩:=s;simp only at *;subst R;unfold dj at *;simp only at *;go_enter func50,ntmps50;go_upto_region 1 with fail;rw[<-M];clear M;go_upto_region 2 with(go_at_call 23;apply(Z B).mono;rintro e x⟨rfl,rfl⟩)
 go_upto_region 4 with(go_at_call 23;apply(Z C).mono;rintro e x⟨rfl,rfl⟩)
 go_upto_region 37 with fail;go_region_with (first
  |(go_at_call 23;with_reducible apply(Z l _).mono;rintro e x⟨rfl,d⟩;rw[d];clear d)
  |(go_at_call 23;with_reducible apply(Z p _).mono;rintro e x⟨rfl,d⟩;rw[d];clear d)
  |(go_at_call 83;apply(Z Y _ (aY (aD _ ν))).mono;rintro e w6⟨rfl,h6⟩;have O:=J (Z I _ w6 (aY (aD _ ν)) h6)))
 all_goals
  go_wp2_with fail
  first|exact Z O|(go_ret;exact Z O)
def SD(w:ω)(nb:Nat)(V:Nw)(m:Nat->an)(n:Nat)(H:bV w nb V)(b:Laid w)(K:bl V m n)(j:n<=89990)(s:cY)(hs:s.ok):
 Calls prog 50 #[π (μ ⟨nb,0,ν⟩),ε (dj s)] w (eM w nb V n):=by
 have c:n<=90000:=by omega
 by_cases f:s.kind=1;cases d:((V.e (bh s.side 2) (bh s.a 4)).finished||(V.e (bh s.side 2) (bh s.a 4)).given);exact Se w nb V m n H b K c s hs f d;exact Sb w nb V m n H b K c s hs f d;by_cases g:s.kind=2;cases d:((V.e (bh s.side 2) (bh s.a 4)).finished||(V.e (bh s.side 2) (bh s.a 4)).given);exact Sw w nb V m n H b K c s hs g d;exact Ss w nb V m n H b K c s hs g d;by_cases k3:s.kind=3;cases d:(V.e (bh s.side 2) (bh s.a 4)).given;exact Sv w nb V m n H b K c s hs k3 d;exact Su w nb V m n H b K c s hs k3 d;by_cases k4:s.kind=4;exact SB w nb V m n H b K j s hs k4;by_cases k5:s.kind=5;exact Sy w nb V m n H b K c s hs k5;by_cases h:s.kind=7;exact Sz w nb V m n H b K c s hs h;by_cases i:s.kind=10;exact SC w nb V m n H b K c s hs i;exact SA w nb V m n H b K c s hs ⟨f,g,k3,k4,k5,h,i⟩
def End.zero:End:=⟨⟨#[]⟩,θ,θ,0,0,0,0⟩
def cN.start:cN (an.new p q L B) (an.new p q L (!B)):=by
 refine⟨rfl,?_,rfl,λx a=>(by cases a),λx a=>(by cases a),λx a=>(by cases a),λx a=>(by cases a),λk c=>?_,λn d=>?_,λx a=>(by cases a),λk c m b=>?_,λx a=>(by cases a)⟩
 cases B<;>rfl;refine⟨λm b=>?_,cE _,λe=>(by cases e),λe=>(by cases e),λe=>?_,λe=>?_,φ rfl⟩
 simp[an.new,aL.new]at b;simp[an.new,aL.new]at e;simp[an.new,aL.new]at e;exact absurd d (fP n);exact absurd b (fP m)
def bl.start(l:64<=p/\p<=300/\16<=r/\r<=1024)(b:eP D.key)(a:D.aj=p/\D.ag=r)(d:∀i,i<2->D.st i=.ai (Sd.new p r D.key (decide (i=0))))(m:∀i k,i<2->k<4->D.e i k=End.zero)(f:D.aN=[])(n:∀i,i<2->D.ba i=0):bl D (λi=>an.new p r D.key (decide (i=0))) 0:=by
 have g:jT p r:=by unfold jT;omega
 refine⟨λi hi=>⟨_,d i hi,QJ g,Pp g b 0⟩,λi j hi s t=>?_,λi j hi s t k b=>?_,λx h=>(by rw[f]at h;cases h),by rw[f];exact jm _,λi hi=>⟨n i hi,a.1.symm,a.2.symm,rfl,?_⟩,by rw[a.1,a.2];exact l,λi j hi _ _=>⟨_,d i hi,by show(4:Int)<=4;decide,λk _=>⟨λe=>(by cases e),λe=>(by cases e)⟩⟩⟩
 have e:decide (j=0)= !decide (i=0):=by
  have c:i=0\/i=1:=by omega
  obtain q|q:=c<;>subst q<;>simp<;>omega
 simp only[e]
 exact cN.start;rw[m i k hi b];exact⟨rfl,rfl,rfl,λe=>(by cases e),rfl,rfl,cE _,by simp[End.zero,an.new,da.new,cW.yB,cW.eR]⟩
 have c:i=0\/i=1:=by omega
 obtain q|q:=c<;>subst q<;>rfl
def ou(V:Nw)(a ve vc:υ):Array υ:=(([a,ve,ι δ V.aj,ι δ V.ag]:List υ)++bv V.key++[σ ν 0 0,vc]).toArray
def nF(nb c:Nat)(V:Nw)(d ve vc:υ)(k:Nat):Prop:=k=nb\/d.ownBlock=μ k\/ve.ownBlock=μ k\/vc.ownBlock=μ k\/(∃a,a<c/\k=V.el a)\/∃a b,a<c/\b<4/\k=V.eb a b
def uc(V:Nw)(n:Nat):List υ:=(List.range n).map (λa=>σ (μ ⟨V.el a,0,ν⟩) 4 (V.lc a))
structure Bd(w:ω)(nb f d ic:Nat)(V:Nw)(g ve vc:υ):Prop where
 aV:w.heap[nb]?=μ (ο (ou V g ve vc) 80 (0,0))
 key:eP V.key
 x:w.ownsRow 0 33 1 g f (oT V.xb f)
 e:w.ownsRow 0 141 1 ve d (uc V d)
 c:w.ownsRow 0 30 1 vc ic (List.replicate ic (ι η 0))
 lc:∀a,a<d->4<=V.lc a/\V.lc a<=maxLen
 tl:∀a,a<d->Ty w (V.el a) 140
 el:∀a,a<d->∀b,b<4->κ w ⟨V.el a,b,ν⟩=μ (π (μ ⟨V.eb a b,0,ν⟩))
 en:∀a,a<d->∀b,b<4->w.heap[V.eb a b]?=μ (ο (pN End.zero) 143 (0,0))
 ed:∀a b k l,a<d->b<d->k<4->l<4->V.eb a k=V.eb b l->a=b/\k=l
 side:∀a,a<f->cI w (V.xb a) (V.sb a) (V.st a) (V.A a)
 apart:∀a b,a<f->b<f->a≠b->∀k,V.A a k->¬V.A b k
 own:∀k,nF nb d V g ve vc k->k≠0/\∀a,a<f->¬V.A a k
def Bd.fV{vc:υ}(h:Bd w n i j l D y z vc)(k:Nat)(f:nF n j D y z vc k):k<w.heap.size:=by
 obtain rfl|e|e|e|⟨a,d,rfl⟩|⟨a,b,d,aa,rfl⟩:=f
 exact(bg.1 h.aV).1;exact(jc h.x k e).lt;exact(jc h.e k e).lt;exact(jc h.c k e).lt;exact(h.tl a d).lt;exact(bg.1 (h.en a d b aa)).1
def Bd.au{vc:υ}(h:Bd w i j l m D y z vc)(g:γ w W ν):Bd W i j l m D y z vc:=by
 have C:=ay.of g;have n:∀k:Nat,¬((ν:Option Nat)=μ k):=λk e=>by cases e
 exact⟨(C.block _ (h.fV i (φ rfl)) (n _)).trans h.aV,h.key,lg h.x C (λk _=>n k),lg h.e C (λk _=>n k),lg h.c C (λk _=>n k),h.lc,λa d=>(h.tl a d).aA C (n _),λa d b f=>C.cell (h.el a d b f) (n _),λa d b f=>(C.block _ (h.fV _ (ψ (ψ (ψ (ψ (ψ ⟨a,b,d,f,rfl⟩)))))) (n _)).trans (h.en a d b f),h.ed,λa d=>(h.side a d).au g,h.apart,h.own⟩
def kF(b:∀k,x.ownBlock=μ k->Ty w k T)(c:Ty w n 80){t:TypeId}(d:t≠T)(f:t≠80)(a:Ty w k t):¬(x.ownBlock=μ k\/k=n):=λe=>e.elim (λe=>a.ne (b k e) d rfl) (λe=>a.ne c f e)
def A9(V:Nw)(b:eP V.key)(a ve vc v:υ):(ou V a ve vc).setIfInBounds 0 v=ou V v ve vc/\(ou V a ve vc).setIfInBounds 1 v=ou V a v vc/\(ou V a ve vc).setIfInBounds 21 v=ou V a ve v:=by
 obtain⟨_,_,_,_,_,_,_,_,_,_,_,_,_,_,_,_,e⟩:=yi (bv V.key) (by rw[fX,b.1]);unfold ou;rw[e];exact⟨rfl,rfl,rfl⟩
structure qz(w b:ω)(nb:Nat)(v a:υ):Prop where
 g:γ w b v.ownBlock
 ho:a.ownBlock=v.ownBlock\/a.ownBlock=μ w.heap.size
 nn:v.ownBlock≠μ nb
 nb:nb<w.heap.size
def qz.aA(h:qz w W n x y)(o:Nat):ay w (ζ W ⟨n,o,ν⟩ y) (λk=>x.ownBlock=μ k\/k=n):=(ay.of h.g).trans (oY W n o y)
def qz.own(h:qz w W i x y)(o:Nat){l:List υ}(a:W.ownsRow 0 T 1 y n l):(ζ W ⟨i,o,ν⟩ y).ownsRow 0 T 1 y n l:=by
 refine lg a (oY W i o y) (λk e e2=>?_);subst e2;obtain q|q:=h.ho
 exact h.nn (q▸e);rw[e]at q;have:=aQ q;have:=h.nb;omega
def Bd.SE{ve vc f:υ}(h:Bd w n i i i D y ve vc){v:aE}(E:cI w j l v S)(m:∀k,S k->¬nF n i D y ve vc k/\∀a,a<i->¬D.A a k)(B:qz w W n y f)(H:W.ownsRow 0 33 1 f (i+1) (oT D.xb i++[π (μ ⟨j,0,ν⟩)])):
 Bd (ζ W ⟨n,0,ν⟩ f) n (i+1) i i {D with xb:=ah D.xb i j,sb:=ah D.sb i l,st:=ah D.st i v,A:=ah D.A i S} f ve vc:=by
 have C:=B.aA 0;have s:∀k,y.ownBlock=μ k->Ty w k 33:=jc h.x;have t:Ty w n 80:=⟨_,_,h.aV⟩
 have F:∀k,(y.ownBlock=μ k\/k=n)->nF n i D y ve vc k:=λk e=>e.elim (λe=>ψ (φ e)) φ
 have b1:=(B.g.block n B.nb (λe=>B.nn e.symm)).trans h.aV;have I:∀k,nF n i D f ve vc k->¬S k:=λk p e=>by
  obtain q|q|q|q|q|q:=p
  exact(m k e).1 (φ q);obtain z|z:=B.ho
  exact(m k e).1 (ψ (φ (z▸q)));rw[q]at z;have:=aQ z;have:=E.lt k e;omega;exact(m k e).1 (ψ (ψ (φ q)));exact(m k e).1 (ψ (ψ (ψ (φ q))));exact(m k e).1 (ψ (ψ (ψ (ψ (φ q)))));exact(m k e).1 (ψ (ψ (ψ (ψ (ψ q)))))
 refine⟨?_,h.key,?_,lg h.e C (λk e=>kF s t (by decide) (by decide) (jc h.e k e)),lg h.c C (λk e=>kF s t (by decide) (by decide) (jc h.c k e)),h.lc,λa d=>(h.tl a d).aA C (kF s t (by decide) (by decide) (h.tl a d)),λa d b r=>C.cell (h.el a d b r) (kF s t (by decide) (by decide) (h.tl a d)),λa d b r=>(C.block _ (h.fV _ (ψ (ψ (ψ (ψ (ψ ⟨a,b,d,r,rfl⟩)))))) (kF s t (by decide) (by decide) ⟨_,_,h.en a d b r⟩)).trans (h.en a d b r),h.ed,λa d=>?_,λa b d r G k p=>?_,λk p=>⟨?_,λa d=>?_⟩⟩
 have:=heap_set (o:=0) b1 f;rw[(A9 D h.key y ve vc f).1]at this;exact this;show(ζ W ⟨n,0,ν⟩ f).ownsRow 0 _ 1 f (i+1) (oT (ah D.xb i j) (i+1));rw[Ff];exact B.own 0 H;show cI _ (ah D.xb i j a) (ah D.sb i l a) (ah D.st i v a) (ah D.A i S a);by_cases e:a=i;subst e;simp only[aR]
 exact E.other C (λk _ e d=>(m k d).1 (F k e));simp only[aX _ _ e]
 exact(h.side a (by omega)).other C (λk _ e K=>(h.own k (F k e)).2 a (by omega) K);have u:ah D.A i S a k:=p;show¬ah D.A i S b k;by_cases e:a=i;subst e;rw[aR]at u;rw[aX _ _ (λq=>G q.symm)];exact(m k u).2 b (by omega);rw[aX _ _ e]at u;by_cases e2:b=i;subst e2;rw[aR];exact λq=>(m k q).2 a (by omega) u
 rw[aX _ _ e2];exact h.apart a b (by omega) (by omega) G k u;obtain q|q|q|q|q|q:=p
 exact(h.own k (φ q)).1;obtain z|z:=B.ho
 exact(h.own k (ψ (φ (z▸q)))).1;rw[q]at z;have:=aQ z;have:=B.nb;omega;exact(h.own k (ψ (ψ (φ q)))).1;exact(h.own k (ψ (ψ (ψ (φ q))))).1;exact(h.own k (ψ (ψ (ψ (ψ (φ q)))))).1;exact(h.own k (ψ (ψ (ψ (ψ (ψ q)))))).1;show¬ah D.A i S a k;by_cases e:a=i;subst e;rw[aR];exact I k p;rw[aX _ _ e];obtain q|q|q|q|q|q:=p
 exact(h.own k (φ q)).2 a (by omega);obtain z|z:=B.ho
 exact(h.own k (ψ (φ (z▸q)))).2 a (by omega);rw[q]at z;have:=aQ z;intro L;have:=(h.side a (by omega)).lt k L;omega;exact(h.own k (ψ (ψ (φ q)))).2 a (by omega);exact(h.own k (ψ (ψ (ψ (φ q))))).2 a (by omega);exact(h.own k (ψ (ψ (ψ (ψ (φ q)))))).2 a (by omega);exact(h.own k (ψ (ψ (ψ (ψ (ψ q)))))).2 a (by omega)
def SF(V:Nw)(j g c:Nat)(b:Nat->Nat):uc {V with el:=ah V.el j g,lc:=ah V.lc j c,eb:=ah V.eb j b} (j+1)=uc V j++[σ (μ ⟨g,0,ν⟩) 4 c]:=by
 unfold uc;rw[wI,mV];congr 1;refine wD (λa d=>?_);have:=List.mem_range.1 d;simp only[aX _ _ (show a≠j by omega)]
 simp[aR]
structure rD(N:Nat)(w:ω)(k:Nat)(d:υ)(c:Nat->Nat):Prop where
 row:w.ownsRow 0 140 1 d k (oT c k)
 en:∀b,b<k->w.heap[c b]?=μ (ο (pN End.zero) 143 (0,0))
 inj:∀a b,a<k->b<k->c a=c b->a=b
 new:(∀b,b<k->N<=c b)/\∀q,d.ownBlock=μ q->N<=q
def Bd.SG{vc r:υ}{p:Nat->Nat}(h:Bd w n (i+1) i i D y z vc)(L:rD k w 4 (σ (μ ⟨j,0,ν⟩) 4 m) p)(K:∀d,k<=d->¬nF n i D y z vc d/\∀a,a<i+1->¬D.A a d)(al:0<k)(B:qz w W n z r)(O:W.ownsRow 0 141 1 r (i+1) (uc D i++[σ (μ ⟨j,0,ν⟩) 4 m])):
 Bd (ζ W ⟨n,1,ν⟩ r) n (i+1) (i+1) i {D with el:=ah D.el i j,lc:=ah D.lc i m,eb:=ah D.eb i p} y r vc:=by
 have C:=B.aA 1;have s:∀d,z.ownBlock=μ d->Ty w d 141:=jc h.e;have t:Ty w n 80:=⟨_,_,h.aV⟩
 have P:∀d,(z.ownBlock=μ d\/d=n)->nF n i D y z vc d:=λd e=>e.elim (λe=>ψ (ψ (φ e))) φ
 have b1:=(B.g.block n B.nb (λe=>B.nn e.symm)).trans h.aV;have H:Ty w j 140:=jc L.row j rfl;obtain⟨a0,c0,e0,Q,z2,-,R⟩:=sh L.row;obtain⟨S,-,ec⟩:=jy e0;have T:=(R _ S.symm).2;subst ec;refine⟨?_,h.key,lg h.x C (λd e=>kF s t (by decide) (by decide) (jc h.x d e)),?_,lg h.c C (λd e=>kF s t (by decide) (by decide) (jc h.c d e)),λa g=>?_,λa g=>?_,λa g b f=>?_,λa g b f=>?_,λa b d l g f u hl e=>?_,λa g=>(h.side a g).other C (λd _ e I=>(h.own d (P d e)).2 a g I),h.apart,λd u=>?_⟩
 have:=heap_set (o:=1) b1 r;rw[(A9 D h.key y z vc r).2.1]at this;exact this;rw[SF];exact B.own 1 O;show 4<=ah D.lc i m a/\ah D.lc i m a<=maxLen;by_cases e:a=i;subst e;rw[aR];exact⟨Q,z2⟩
 rw[aX _ _ e];exact h.lc a (by omega);show Ty _ (ah D.el i j a) _;by_cases e:a=i;subst e;rw[aR];exact H.aA C (kF s t (by decide) (by decide) H);rw[aX _ _ e];exact(h.tl a (by omega)).aA C (kF s t (by decide) (by decide) (h.tl a (by omega)));show(ζ W ⟨n,1,ν⟩ r).cell? ⟨ah D.el i j a,b,ν⟩=μ (π (μ ⟨ah D.eb i p a b,0,ν⟩));by_cases e:a=i;subst e;rw[aR,aR];refine C.cell ?_ (kF s t (by decide) (by decide) H);have:(oT p 4)[b]?=μ (π (μ ⟨p b,0,ν⟩)):=by unfold oT;simp[f]
 have q:=T b _ this;rw[ep]at q;exact q;rw[aX _ _ e,aX _ _ e];exact C.cell (h.el a (by omega) b f) (kF s t (by decide) (by decide) (h.tl a (by omega)));show(ζ W ⟨n,1,ν⟩ r).heap[ah D.eb i p a b]?=_;by_cases e:a=i;subst e;rw[aR];exact(C.block _ (bg.1 (L.en b f)).1 (kF s t (by decide) (by decide) ⟨_,_,L.en b f⟩)).trans (L.en b f);rw[aX _ _ e];exact(C.block _ (bg.1 (h.en a (by omega) b f)).1 (kF s t (by decide) (by decide) ⟨_,_,h.en a (by omega) b f⟩)).trans (h.en a (by omega) b f);have e:ah D.eb i p a d=ah D.eb i p b l:=e;have M:∀E F,E<i->F<4->∀G,G<4->p G≠D.eb E F:=λE F I U G V q=>(K _ (L.new.1 G V)).1 (ψ (ψ (ψ (ψ (ψ ⟨E,F,I,U,q⟩)))))
 by_cases e1:a=i;by_cases e2:b=i;subst e1;subst e2;rw[aR]at e;exact⟨rfl,L.inj d l u hl e⟩
 subst e1;rw[aR,aX _ _ e2]at e;exact absurd e (M b l (by omega) hl d u);by_cases e2:b=i;subst e2;rw[aR,aX _ _ e1]at e;exact absurd e.symm (M a d (by omega) u l hl);rw[aX _ _ e1,aX _ _ e2]at e;exact h.ed a b d l (by omega) (by omega) u hl e;have N:∀q,k<=q->q≠0/\∀a,a<i+1->¬D.A a q:=λq X=>⟨by omega,(K q X).2⟩
 obtain q|q|q|q|⟨a,g,q⟩|⟨a,b,g,f,q⟩:=u
 exact h.own d (φ q);exact h.own d (ψ (φ q));obtain v|v:=B.ho
 exact h.own d (ψ (ψ (φ (v▸q))));rw[q]at v;have v:=aQ v;refine⟨by have:=B.nb;omega,λa g Y=>?_⟩
 have:=(h.side a g).lt d Y;omega;exact h.own d (ψ (ψ (ψ (φ q))));have q:d=ah D.el i j a:=q;by_cases e:a=i;subst e;rw[aR]at q;exact N d (by rw[q];exact L.new.2 j rfl);rw[aX _ _ e]at q;exact h.own d (ψ (ψ (ψ (ψ (φ ⟨a,by omega,q⟩)))));have q:d=ah D.eb i p a b:=q;by_cases e:a=i;subst e;rw[aR]at q;exact N d (by rw[q];exact L.new.1 b f);rw[aX _ _ e]at q;exact h.own d (ψ (ψ (ψ (ψ (ψ ⟨a,b,by omega,f,q⟩)))))
def Bd.SH{vc f:υ}(h:Bd w n (i+1) (i+1) i D y z vc)(B:qz w W n vc f)(r:W.ownsRow 0 30 1 f (i+1) (List.replicate i (ι η 0)++[ι η 0])):
 Bd (ζ W ⟨n,21,ν⟩ f) n (i+1) (i+1) (i+1) D y z f:=by
 have C:=B.aA 21;have j:∀k,vc.ownBlock=μ k->Ty w k 30:=jc h.c;have l:Ty w n 80:=⟨_,_,h.aV⟩
 have s:∀k,(vc.ownBlock=μ k\/k=n)->nF n (i+1) D y z vc k:=λk e=>e.elim (λe=>ψ (ψ (ψ (φ e)))) φ
 have b1:=(B.g.block n B.nb (λe=>B.nn e.symm)).trans h.aV;refine⟨?_,h.key,lg h.x C (λk e=>kF j l (by decide) (by decide) (jc h.x k e)),lg h.e C (λk e=>kF j l (by decide) (by decide) (jc h.e k e)),?_,h.lc,λa d=>(h.tl a d).aA C (kF j l (by decide) (by decide) (h.tl a d)),λa d b m=>C.cell (h.el a d b m) (kF j l (by decide) (by decide) (h.tl a d)),λa d b m=>(C.block _ (h.fV _ (ψ (ψ (ψ (ψ (ψ ⟨a,b,d,m,rfl⟩)))))) (kF j l (by decide) (by decide) ⟨_,_,h.en a d b m⟩)).trans (h.en a d b m),h.ed,λa d=>(h.side a d).other C (λk _ e t=>(h.own k (s k e)).2 a d t),h.apart,λk u=>?_⟩
 have:=heap_set (o:=21) b1 f;rw[(A9 D h.key y z vc f).2.2]at this;exact this;have e:List.replicate (i+1) (Value.int η 0)=List.replicate i (ι η 0)++[ι η 0]:=List.replicate_succ';rw[e];exact B.own 21 r;obtain q|q|q|q|q|q:=u
 exact h.own k (φ q);exact h.own k (ψ (φ q));exact h.own k (ψ (ψ (φ q)));obtain p|p:=B.ho
 exact h.own k (ψ (ψ (ψ (φ (p▸q)))));rw[q]at p;have p:=aQ p;refine⟨by have:=B.nb;omega,λa d v=>?_⟩
 have:=(h.side a d).lt k v;omega;exact h.own k (ψ (ψ (ψ (ψ (φ q)))));exact h.own k (ψ (ψ (ψ (ψ (ψ q)))))
def Bd.done{vc:υ}(h:Bd w n 2 2 2 D y z vc):∃xr xc er ec cr cc,bV w n {D with xr:=xr,xc:=xc,er:=er,ec:=ec,cr:=cr,cc:=cc,e:=λ_ _=>End.zero,ba:=λ_=>0,aN:=[],vb:=σ ν 0 0}:=by
 obtain⟨r,xc,f,s,t,u,v⟩:=sh h.x;obtain⟨ae,ec,g,e1,e2,A,B⟩:=sh h.e;obtain⟨-,⟨-,C⟩|⟨cr,cc,j,eq,-,E,c1,c2,c3,c4⟩⟩:=h.c;cases C;cases r with
 |none=>have:=(u rfl).1;omega
 |some m=>
  cases ae with
  |none=>have:=(A rfl).1;omega
  |some p=>
   obtain⟨gx,F⟩:=v m rfl;obtain⟨ge,re⟩:=B p rfl;have I:=h.own n (φ rfl);refine⟨m.block,xc,p.block,ec,cr,cc,?_,h.key,⟨⟨s,t⟩,⟨e1,e2⟩,⟨c1,c2⟩,h.lc⟩,jc h.x _ (by rw[f];rfl),λi hi=>?_,jc h.e _ (by rw[g];rfl),λi hi=>?_,h.tl,h.el,λi hi k l=>h.en i hi k l,h.ed,⟨j,E,λi hi=>?_⟩,pr _ _ _ _,h.side,h.apart,λk l=>?_⟩
   have d:=h.aV;rw[f,g,eq,gx,ge]at d;exact d;have:=F i (π (μ ⟨D.xb i,0,ν⟩)) (by unfold oT;simp[hi]);rw[ep]at this;exact this;have:=re i (σ (μ ⟨D.el i,0,ν⟩) 4 (D.lc i)) (by unfold uc;simp[hi]);rw[ep]at this;exact this;have G:(j.toList.take (2*1))[i]?=j.toList[i]? :=by rw[jK,iP_]
   rw[<-qF,<-G,c4,yR,aG hi];obtain q|q|q|q|q|⟨a,b,H,d,q⟩|q:=l
   exact h.own k (φ q);exact h.own k (ψ (φ (by rw[f,q];rfl)));exact h.own k (ψ (ψ (φ (by rw[g,q];rfl))));exact h.own k (ψ (ψ (ψ (φ (by rw[eq,q];rfl)))));exact h.own k (ψ (ψ (ψ (ψ (φ q)))));exact h.own k (ψ (ψ (ψ (ψ (ψ ⟨a,b,H,d,q⟩)))));cases q
def yN{e:TypeId}(ty:TypeId)(t:prog.underlying T=μ (.slice e))(y:(prog.info? e).map (λi=>(i.zero,i.size,i.bytes))=μ (μ z,1,k))(A:z.cells.size=1)(B:k<=24)(v:υ)(n:Nat)(l:List υ)(C:w.ownsRow 0 e 1 v n l)(b c:Nat)(u:υ)(h0:κ w ⟨b,0,ν⟩=μ u)(D:u.oneCell'=ρ)(K:n<=1000):
 ∃d f h a,(Builtin.append_ #[T,T] ty #[v,σ (μ ⟨b,0,ν⟩) 1 c]).run prog w=.ok (σ d f h) a/\a.ownsRow 0 e 1 (σ d f h) (n+1) (l++[u])/\γ w a v.ownBlock/\((Value.slice d f h).ownBlock=v.ownBlock\/(Value.slice d f h).ownBlock=μ w.heap.size):=by
 obtain⟨E,hi,F,G,H⟩:=lU y;obtain⟨L,a,p,m,q,_,r⟩:=run_append_own_at (P:=prog) w 0 T ty e E _ 1 k t hi F G H A (by omega) v n l C ⟨b,0,ν⟩ 1 c [u] (by simp) (λj x s=>by
  cases j with
  |zero=>rw[Addr.add_mid,ep];rw[h0];exact s
  |succ j=>simp at s) (λx I=>by rw[cA.1 I];exact D) (by simp[maxLen];omega) (by
  have:(n+1)*k<=1001*24:=Nat.mul_le_mul (by omega) B;omega) (jm _)
 obtain⟨-,⟨rfl,e2⟩|⟨g,cap,M,rfl,_⟩⟩:=id m;exact⟨_,_,_,a,p,m,q,r⟩
 exact⟨_,_,_,a,p,m,q,r⟩
def SI:(prog.info? 33).map (λi=>(i.zero,i.size,i.bytes))=μ (μ (π ν),1,8):=by kernel_rfl
def SJ:(prog.info? 140).map (λi=>(i.zero,i.size,i.bytes))=μ (μ (π ν),1,8):=by kernel_rfl
def SK:(prog.info? 141).map (λi=>(i.zero,i.size,i.bytes))=μ (μ (σ ν 0 0),1,24):=by kernel_rfl
def SL:(prog.info? 30).map (λi=>(i.zero,i.size,i.bytes))=μ (μ (ι η 0),1,8):=by kernel_rfl
def rD.step{wr:ω}{d:Nat->Nat}(h:rD w.heap.size wr k x d)(g:γ w wr ν)(f:γ wr W ν)(c:W.heap[wr.heap.size]?=μ (ο (pN End.zero) 143 (0,0)))(l:γ W v x.ownBlock)(r:v.ownsRow 0 140 1 y (k+1) (oT d k++[π (μ ⟨wr.heap.size,0,ν⟩)]))(ho:y.ownBlock=x.ownBlock\/y.ownBlock=μ W.heap.size):
 rD w.heap.size v (k+1) y (ah d k wr.heap.size)/\γ w v ν:=by
 have C:=ay.of l;have s:=g.size;have A:=f.size;have t:∀q,x.ownBlock=μ q->Ty W q 140:=λq e=>(jc h.row q e).aA (ay.of f) (λe=>by cases e)
 have m:∀{q:Nat},Ty W q 143->¬(x.ownBlock=μ q):=λu e=>u.ne (t _ e) (by decide) rfl
 refine⟨⟨by rw[Ff];exact r,λb n=>?_,λa b B n e=>?_,λb n=>?_,λq e=>?_⟩,cT (aq g f) l (λq e=>φ (by have:=h.new.2 q e;exact this))⟩
 by_cases e:b=k;subst e;rw[aR];exact(C.block _ (bg.1 c).1 (m ⟨_,_,c⟩)).trans c;rw[aX _ _ e];have q:=h.en b (by omega);have z:=(ay.of f).block _ (bg.1 q).1 (λe=>by cases e);have j:=z.trans q;exact(C.block _ (bg.1 j).1 (m ⟨_,_,j⟩)).trans j;have p:∀b,b<k->d b<wr.heap.size:=λb c=>(bg.1 (h.en b c)).1
 by_cases e1:a=k;by_cases e2:b=k;omega;subst e1;rw[aR,aX _ _ e2]at e;have:=p b (by omega);omega;by_cases e2:b=k;subst e2;rw[aR,aX _ _ e1]at e;have:=p a (by omega);omega;rw[aX _ _ e1,aX _ _ e2]at e;exact h.inj a b (by omega) (by omega) e;by_cases e:b=k;subst e;rw[aR];exact s;rw[aX _ _ e];exact h.new.1 b (by omega);obtain i|i:=ho
 exact h.new.2 q (i▸e);rw[e]at i;have:=aQ i;omega
def gM:List Int:=[3,1,4,1,5,0,0,0,0,0,0,0,0,0,0,0]
def Ba:eP gM:=⟨rfl,λx a=>by simp[gM]at a;unfold W8;omega⟩
structure SM(V:Nw)(aj ag:Int)(i:Nat):Prop where
 m:V.aj=aj/\V.ag=ag/\V.key=gM
 st:∀a,a<i->V.st a=.ai (Sd.new aj ag gM (decide (a=0)))
structure j6(b wr:ω)(nb c d ic:Nat)(V:Nw)(e ve vc:υ)(aj ag:Int):Prop where
 bd:Bd wr nb c d ic V e ve vc
 p:SM V aj ag c
 g:γ b wr ν
 lo:∀k,nF nb d V e ve vc k->b.heap.size<=k
 laid:Laid wr
 la:∀a,a<c->∀k,V.A a k->b.heap.size<=k
def j6.au{wr:ω}(h:j6 w wr n k i j D x y z q r)(g:γ wr W ν):j6 w W n k i j D x y z q r:=⟨h.bd.au g,h.p,aq h.g g,h.lo,h.laid.gb g,h.la⟩
def Bd.oZ(h:Bd w n k i l D x y z):(κ w ⟨n,0,ν⟩=μ x/\κ w ⟨n,1,ν⟩=μ y/\κ w ⟨n,21,ν⟩=μ z)/\(∀o,χ w ⟨n,o,ν⟩=θ)/\w.rangeAt n 4 (bv D.key):=by
 obtain⟨_,_,_,_,_,_,_,_,_,_,_,_,_,_,_,_,e⟩:=yi (bv D.key) (by rw[fX,h.key.1]);have a:=h.aV;unfold ou at a;refine⟨⟨?_,?_,?_⟩,λo=>by simp[World.frozen?,a],λj u b=>?_⟩
 rw[aZ a];rfl;rw[aZ a];rfl;rw[aZ a,e];rfl;have c:j<16:=by have:=(lA.1 b).1;rw[fX,h.key.1]at this;exact this
 rw[aZ a,ui,mm (by rw[bF,fX,h.key.1];simp;omega),mU (by simp)];simpa using b
def Bd.Bb{v a:υ}(h:Bd w k i j m D x y z)(b:T≠80){l:List υ}(c:w.ownsRow 0 T 1 v n l)(g:γ w W v.ownBlock)(ho:a.ownBlock=v.ownBlock\/a.ownBlock=μ w.heap.size):qz w W k v a:=
 ⟨g,ho,λe=>(jc c k e).ne ⟨_,_,h.aV⟩ b rfl,h.fV k (φ rfl)⟩
def j6.app{b:ω}{v a:υ}(h:j6 W w n i j l D x y z p r)(c:∀k,v.ownBlock=μ k->nF n j D x y z k)(B:qz w b n v a)(o:Nat):γ W (ζ b ⟨n,o,ν⟩ a) ν/\Laid (ζ b ⟨n,o,ν⟩ a)/\∀k,a.ownBlock=μ k->W.heap.size<=k:=by
 have C:=B.aA o;have d:∀k,(v.ownBlock=μ k\/k=n)->nF n j D x y z k:=λk e=>e.elim (c k) φ
 refine⟨?_,h.laid.aA C (λe=>(h.bd.own 0 (d 0 e)).1 rfl),λk e=>?_⟩
 refine⟨C.os.trans h.g.os,C.tape.trans h.g.tape,C.output.trans h.g.output,bK h.g.size C.size,λk f _=>?_⟩
 rw[C.block k (by have:=h.g.size;omega) (λe=>by have:=h.lo k (d k e);omega)];exact h.g.block k f (by simp);obtain q|q:=B.ho
 exact h.lo k (c k (q▸e));rw[e]at q;have:=aQ q;have:=h.g.size;omega
def j6.SN{vc:υ}(h:j6 W w j i i i D y z vc r t)(hi:i<2)(v:cI w l o (.ai (Sd.new r t gM (decide (i=0)))) S)(C:∀k,S k->¬nF j i D y z vc k/\∀a,a<i->¬D.A a k)(E:∀k,S k->W.heap.size<=k):
 (w.alloc (ο #[π (μ ⟨l,0,ν⟩)] 33)).cell? ⟨j,0,ν⟩=μ y/\∃a n c s,(Builtin.append_ #[75,75] 75 #[y,σ (μ ⟨w.heap.size,0,ν⟩) 1 1]).run prog (w.alloc (ο #[π (μ ⟨l,0,ν⟩)] 33))=.ok (σ a n c) s/\κ s ⟨j,0,ν⟩=μ y/\χ s ⟨j,0,ν⟩=θ/\
   j6 W (ζ s ⟨j,0,ν⟩ (σ a n c)) j (i+1) i i {D with xb:=ah D.xb i l,sb:=ah D.sb i o,st:=ah D.st i (.ai (Sd.new r t gM (decide (i=0)))),A:=ah D.A i S} (σ a n c) z vc r t:=by
 have g:=aJ w (ο #[π (μ ⟨l,0,ν⟩)] 33) ν;have d:=h.au g;obtain⟨a,n,c,s,F,G,H,ho⟩:=yN 75 underlying75 SI rfl (by decide) y i _ d.bd.x w.heap.size 1 (π (μ ⟨l,0,ν⟩)) (by rw[aZ (aO w _)];rfl) rfl (by omega);have B:=d.bd.Bb (a:=σ a n c) (by decide) d.bd.x H ho;have u:=(B.g.block j B.nb (λe=>B.nn e.symm)).trans d.bd.aV;obtain⟨I,K,L⟩:=d.app (λk e=>ψ (φ e)) B 0;refine⟨d.bd.oZ.1.1,a,n,c,s,F,?_,by simp[World.frozen?,u],d.bd.SE (v.au g) C B G,⟨h.p.m,λb M=>?_⟩,I,λk f=>?_,K,λb M k f=>?_⟩
 rw[aZ u,<-aZ d.bd.aV];exact d.bd.oZ.1.1;show ah D.st i _ b=_;by_cases e:b=i;subst e;rw[aR];rw[aX _ _ e];exact h.p.st b (by omega);obtain q|q|q|q|q|q:=f
 exact h.lo k (φ q);exact L k q;exact h.lo k (ψ (ψ (φ q)));exact h.lo k (ψ (ψ (ψ (φ q))));exact h.lo k (ψ (ψ (ψ (ψ (φ q)))));exact h.lo k (ψ (ψ (ψ (ψ (ψ q)))));have f:ah D.A i S b k:=f;by_cases e:b=i;subst e;rw[aR]at f;exact E k f;rw[aX _ _ e]at f;exact h.la b (by omega) k f
def j6.SO{s:Nat->Nat}(d:j6 W v j (i+1) i i D x y z r t)(H:γ v w ν)(hi:i<2)(L:rD v.heap.size w 4 (σ (μ ⟨o,0,ν⟩) 4 n) s):
 (w.alloc (ο #[σ (μ ⟨o,0,ν⟩) 4 n] 141)).cell? ⟨j,1,ν⟩=μ y/\∃a g c h,(Builtin.append_ #[76,76] 76 #[y,σ (μ ⟨w.heap.size,0,ν⟩) 1 1]).run prog (w.alloc (ο #[σ (μ ⟨o,0,ν⟩) 4 n] 141))=.ok (σ a g c) h/\κ h ⟨j,1,ν⟩=μ y/\χ h ⟨j,1,ν⟩=θ/\
   j6 W (ζ h ⟨j,1,ν⟩ (σ a g c)) j (i+1) (i+1) i {D with el:=ah D.el i o,lc:=ah D.lc i n,eb:=ah D.eb i s} x (σ a g c) z r t:=by
 have C:=aJ w (ο #[σ (μ ⟨o,0,ν⟩) 4 n] 141) ν;have f:=d.au (aq H C);have I:rD v.heap.size (w.alloc (ο #[σ (μ ⟨o,0,ν⟩) 4 n] 141)) 4 (σ (μ ⟨o,0,ν⟩) 4 n) s:=⟨lg L.row (ay.of C) (λk _ e=>by cases e),λb u=>((ay.of C).block _ (bg.1 (L.en b u)).1 (λe=>by cases e)).trans (L.en b u),L.inj,L.new⟩
 obtain⟨a,g,c,h,K,M,N,ho⟩:=yN 76 underlying76 SK rfl (by decide) y i _ f.bd.e w.heap.size 1 (σ (μ ⟨o,0,ν⟩) 4 n) (by rw[aZ (aO w _)];rfl) rfl (by omega);have B:=f.bd.Bb (a:=σ a g c) (by decide) f.bd.e N ho;have E:=(B.g.block j B.nb (λe=>B.nn e.symm)).trans f.bd.aV;obtain⟨O,P,Q⟩:=f.app (λk e=>ψ (ψ (φ e))) B 1;have R:∀k,v.heap.size<=k->¬nF j i D x y z k/\∀a,a<i+1->¬D.A a k:=λk F=>⟨λe=>by have:=d.bd.fV k e;omega,λa S e=>by have:=(d.bd.side a S).lt k e;omega⟩
 refine⟨f.bd.oZ.1.2.1,a,g,c,h,K,?_,by simp[World.frozen?,E],f.bd.SG I R d.laid.lt B M,⟨d.p.m,d.p.st⟩,O,λk F=>?_,P,d.la⟩
 rw[aZ E,<-aZ f.bd.aV];exact f.bd.oZ.1.2.1;have G:=d.g.size;obtain q|q|q|q|⟨b,u,q⟩|⟨b,l,u,hl,q⟩:=F
 exact d.lo k (φ q);exact d.lo k (ψ (φ q));exact Q k q;exact d.lo k (ψ (ψ (ψ (φ q))));have q:k=ah D.el i o b:=q;by_cases e:b=i;subst e;rw[aR]at q;rw[q];exact bK G (L.new.2 o rfl);rw[aX _ _ e]at q;exact d.lo k (ψ (ψ (ψ (ψ (φ ⟨b,by omega,q⟩)))));have q:k=ah D.eb i s b l:=q;by_cases e:b=i;subst e;rw[aR]at q;rw[q];exact bK G (L.new.1 l hl);rw[aX _ _ e]at q;exact d.lo k (ψ (ψ (ψ (ψ (ψ ⟨b,l,by omega,hl,q⟩)))))
def j6.SP(h:j6 W w j (i+1) (i+1) i D x y z r t)(hi:i<2):
 (w.alloc (ο #[ι η 0] 30)).cell? ⟨j,21,ν⟩=μ z/\∃a n c d,(Builtin.append_ #[78,78] 78 #[z,σ (μ ⟨w.heap.size,0,ν⟩) 1 1]).run prog (w.alloc (ο #[ι η 0] 30))=.ok (σ a n c) d/\κ d ⟨j,21,ν⟩=μ z/\χ d ⟨j,21,ν⟩=θ/\
   j6 W (ζ d ⟨j,21,ν⟩ (σ a n c)) j (i+1) (i+1) (i+1) D x y (σ a n c) r t:=by
 have g:=aJ w (ο #[ι η 0] 30) ν;have b:=h.au g;obtain⟨a,n,c,d,l,m,s,ho⟩:=yN 78 underlying78 SL rfl (by decide) z i _ b.bd.c w.heap.size 1 (ι η 0) (by rw[aZ (aO w _)];rfl) rfl (by omega);have B:=b.bd.Bb (a:=σ a n c) (by decide) b.bd.c s ho;have f:=(B.g.block j B.nb (λe=>B.nn e.symm)).trans b.bd.aV;obtain⟨u,v,A⟩:=b.app (λk e=>ψ (ψ (ψ (φ e)))) B 21;refine⟨b.bd.oZ.1.2.2,a,n,c,d,l,?_,by simp[World.frozen?,f],b.bd.SH B m,h.p,u,λk C=>?_,v,h.la⟩
 rw[aZ f,<-aZ b.bd.aV];exact b.bd.oZ.1.2.2;obtain q|q|q|q|q|q:=C
 exact h.lo k (φ q);exact h.lo k (ψ (φ q));exact h.lo k (ψ (ψ (φ q)));exact A k q;exact h.lo k (ψ (ψ (ψ (ψ (φ q)))));exact h.lo k (ψ (ψ (ψ (ψ (ψ q)))))
def Nw.zero(aj ag:Int):Nw:=⟨aj,ag,gM,λ_=>0,λ_=>0,λ_=>.shut 0 [],λ_ _=>False,0,0,0,0,λ_=>0,λ_=>0,λ_ _=>0,λ_ _=>End.zero,0,0,λ_=>0,[],σ ν 0 0⟩
structure vY(w:ω)(aj ag:Int)(nb:Nat)(V:Nw)(a:ω):Prop where
 g:γ w a ν
 at_:bV a nb V
 laid:Laid a
 all:∀k,V.jY nb k->w.heap.size<=k
 cfg:V.aj=aj/\V.ag=ag/\V.key=gM
 st:∀i,i<2->V.st i=.ai (Sd.new aj ag gM (decide (i=0)))
 e:∀i k,V.e i k=End.zero
 aN:V.aN=[]
 ba:∀i,V.ba i=0
def j6.fin(g:γ w W ν)(h:j6 W v j 2 2 2 D x y z r t):∃s,vY w r t j s v:=by
 obtain⟨xr,xc,er,ec,cr,cc,H⟩:=h.bd.done;have d:=g.size;refine⟨_,aq g h.g,H,h.laid,λk u=>?_,h.p.m,h.p.st,λ_ _=>rfl,rfl,λ_=>rfl⟩
 have f:∀{l:υ}{a:Nat}{n c:Nat},l=σ (μ ⟨a,0,ν⟩) n c->l.ownBlock=μ a:=λe=>by rw[e];rfl
 have c0:=h.bd.oZ.1;have n0:=H.c.1;have e0:=aQ (c0.1.symm.trans n0.1);have e1:=aQ (c0.2.1.symm.trans n0.2.1);have e2:=aQ (c0.2.2.symm.trans n0.2.2.2.2.2);obtain(q|q|q|q|q|⟨a,b,A,aa,q⟩|q)|⟨i,hi,q⟩:=u
 exact bK d (h.lo k (φ q));exact bK d (h.lo k (ψ (φ (by rw[q];exact f e0))));exact bK d (h.lo k (ψ (ψ (φ (by rw[q];exact f e1)))));exact bK d (h.lo k (ψ (ψ (ψ (φ (by rw[q];exact f e2))))));exact bK d (h.lo k (ψ (ψ (ψ (ψ (φ q))))));exact bK d (h.lo k (ψ (ψ (ψ (ψ (ψ ⟨a,b,A,aa,q⟩))))));cases q;exact bK d (h.la i hi k q)
def Gi(w:ω)(hL:Laid w)(mt s:Int)(hm:dD mt)(hw:dD s):
 Calls prog 49 #[ι δ mt,ι δ s] w λe t=>∃nb V,e=ξ (π (μ ⟨nb,0,ν⟩))/\vY w (64+bh mt 237) (16+bh s 300) nb V t:=by
 obtain⟨aj,D⟩:∃x:Int,x=64+bh mt 237:=⟨_,rfl⟩
 obtain⟨ag,E⟩:∃x:Int,x=16+bh s 300:=⟨_,rfl⟩
 have c9:=fk mt (p:=237) (by decide);have db:=fk s (p:=300) (by decide);have b5:jT aj ag:=by unfold jT;omega
 have b6:=J (fJ mt 237 w hm.1 hm.2 (by decide) (by decide));have b7:=J (fJ s 300 w hw.1 hw.2 (by decide) (by decide));have b8:IntKind.i64.wrap (64+(bh mt 237:Int))=64+(bh mt 237:Int):=wI_;have ca:IntKind.i64.wrap (16+(bh s 300:Int))=16+(bh s 300:Int):=wI_;obtain⟨r,O⟩:=exq (w.alloc (ο #[ι δ aj,ι δ ag] 28));have gc:γ w r ν:=by rw[O];exact aJ _ _ _
 have bc:r.heap[w.heap.size]?=μ (ο #[ι δ aj,ι δ ag] 28 (0,0)):=by rw[O];exact aO _ _
 obtain⟨W1,F⟩:=exq (r.alloc (ο (ou (Nw.zero aj ag) (σ ν 0 0) (σ ν 0 0) (σ ν 0 0)) 80));have g1:γ r W1 ν:=by rw[F];exact aJ _ _ _
 obtain⟨nb,G⟩:=exq r.heap.size;have b1:W1.heap[nb]?=μ (ο (ou (Nw.zero aj ag) (σ ν 0 0) (σ ν 0 0) (σ ν 0 0)) 80 (0,0)):=by rw[F,G];exact aO _ _
 have Q:=hL.gb gc;have R:j6 r W1 nb 0 0 0 (Nw.zero aj ag) (σ ν 0 0) (σ ν 0 0) (σ ν 0 0) aj ag:=by
  refine⟨⟨b1,Ba,pr _ _ _ _,pr _ _ _ _,pr _ _ _ _,λa d=>by omega,λa d=>by omega,λa d=>by omega,λa d=>by omega,λa b k l d=>by omega,λa d=>by omega,λa b d=>by omega,λk u=>⟨?_,λa d=>by omega⟩⟩,⟨⟨rfl,rfl,rfl⟩,λa d=>by omega⟩,g1,λk u=>?_,Q.gb g1,λa d=>by omega⟩
  ·obtain q|q|q|q|⟨a,d,q⟩|⟨a,b,d,aa,q⟩:=u
   rw[q,G];have:=Q.lt;omega;all_goals first|omega|cases q
  obtain q|q|q|q|⟨a,d,q⟩|⟨a,b,d,aa,q⟩:=u
  rw[q,G];exact aP _;all_goals first|omega|cases q
 obtain⟨P,hP⟩:∃P:Ending->ω->Prop,P=λe t=>∃nb V,e=ξ (π (μ ⟨nb,0,ν⟩))/\vY w (64+bh mt 237) (16+bh s 300) nb V t:=⟨_,rfl⟩
 rw[<-hP];have ch:=J (λ(t:ω)(V:Nw)(H ve vc:υ)(h:j6 r t nb 2 2 2 V H ve vc aj ag)=>(show P (ξ (π (μ ⟨nb,0,ν⟩))) t by rw[hP,<-D,<-E];obtain⟨V',h'⟩:=h.fin gc;exact⟨nb,V',rfl,h'⟩));rw[<-D]at b8;rw[<-E]at ca;replace⟨hP,R,hL,Q⟩:=fE hP R hL Q;have bb:ou (Nw.zero aj ag) (σ ν 0 0) (σ ν 0 0) (σ ν 0 0)= #[σ ν 0 0,σ ν 0 0,ι δ aj,ι δ ag,ι Δ 3,ι Δ 1,ι Δ 4,ι Δ 1,ι Δ 5,ι Δ 0,ι Δ 0,ι Δ 0,ι Δ 0,ι Δ 0,ι Δ 0,ι Δ 0,ι Δ 0,ι Δ 0,ι Δ 0,ι Δ 0,σ ν 0 0,σ ν 0 0]:=rfl;rw[bb]at F;clear bb b1;obtain⟨y0,y1⟩:κ r ⟨w.heap.size,0,ν⟩=μ (ι δ aj)/\κ r ⟨w.heap.size,1,ν⟩=μ (ι δ ag):=by simp[World.cell?,bc]
 go_enter func49,ntmps49;go_upto_region 2 with(first|(go_at_call 23;with_reducible apply(Z b6).mono;rintro e w2⟨rfl,I⟩;rw[I];clear I)|(go_at_call 23;with_reducible apply(Z b7).mono;rintro e w2⟨rfl,I⟩;rw[I];clear I))
 rw[<-D,<-E,<-O];clear O;replace⟨D,E⟩:=bD D E;go_upto_region 3 with fail;rw[<-F,<-G];clear F G;have a1:=λ(W:ω)(g:γ r W ν)=>(show κ W ⟨w.heap.size,0,ν⟩=μ (ι δ aj)/\κ W ⟨w.heap.size,1,ν⟩=μ (ι δ ag)from⟨gC_ g y0,gC_ g y1⟩)
 replace a1:=J a1;clear y0 y1;have de:(prog.info? 24).map (·.size)=μ (bv gM).length:=by rw[fX,Ba.1];exact nJ
 have dg:=underlying24;go_wp2;go_loopw [7] (λiv wr=>∃(i:Nat)(V:Nw)(H ve vc:υ),i<=2/\iv=ι δ i/\j6 r wr nb i i i V H ve vc aj ag) (λiv _=>2-(intOf iv).toNat);case atStart=>exact⟨0,_,_,_,_,by omega,rfl,Z R⟩
 case round=>
  clear R;obtain⟨i,V,H,ve,vc,hi,rfl,B⟩:=hrel;by_cases dk:i<2
  ·have d1:decide ((i:Int)<2)=ρ:=dT_;obtain⟨f,y⟩:=exq (decide (i=0));have dn:((i:Int)==0)=f:=by
    rw[y];have S:i=0\/i=1:=by omega
    obtain S|S:=S<;>subst S<;>decide
   obtain⟨c0,c1⟩:=Z a1 wr B.g;have k0:=kc c0;have k1:=kc c1;have a2:=B.bd.oZ.2.2;rw[B.p.m.2.2]at a2;have T:wr.rangeAt nb 4 (bv gM)/\γ wr wr ν:=⟨a2,aD _ _⟩
   have K:=OL wr.drew aj ag gM Ba f (B.laid.gb (aY (aD wr ν)) (by simp));have hX:=J (λ(U:ω)(g:γ wr U ν)(X Y:Nat)(M:Nat->Prop)(hc:cI U X Y (.ai (Sd.new aj ag gM f)) M)(z:∀k,M k->wr.heap.size<=k)=>And.intro (B.au g).bd.oZ.1.1 ((B.au g).SN (by omega) (by rw[<-y];exact hc) (λk u=>⟨λe=>by have:=B.bd.fV k e;have:=z k u;omega,λa d e=>by have:=(B.bd.side a d).lt k e;have:=z k u;omega⟩) (λk u=>bK B.g.size (z k u))));unfold cV at K;replace⟨K,B⟩:=bD K B;clear c0 c1 a2;replace y:=J y;go_upto_region 6 with fail;go_region_held3 (λt=>t.rangeAt nb 4 (bv gM)/\γ wr t ν)
    (with_reducible first|exact bj|exact T|exact jF T (aY (aD _ ν)))
    (first|(go_at_call 12;apply(Z K).mono;rintro e U⟨g3,⟨cj,-⟩|⟨-,X,Y,M,rfl,z,br⟩⟩;(exact absurd b5 cj);have bj:=jF (jF T (aY (aD _ ν))) g3))
   obtain⟨cp,x0,ax,nx,cx,w5,v,z0,zf,C⟩:=Z hX U (aq (aY (aD wr ν)) g3) X Y M br z;obtain⟨w6,a3⟩:=exq (ζ w5 ⟨nb,0,ν⟩ (σ ax nx cx));rw[<-a3]at C;obtain⟨V6,bt⟩:∃V6,V6={V with xb:=ah V.xb i X,sb:=ah V.sb i Y,st:=ah V.st i (.ai (Sd.new aj ag gM (decide (i=0)))),A:=ah V.A i M}:=⟨_,rfl⟩
   rw[<-bt]at C;clear bt br z hX bj T K k0 k1 g3;replace⟨v,C⟩:=bD v C;go_upto_region 10 with(at_builtin;refine ql (by rfl) 75 75 (by rfl) _ _ (by rfl) _ _ _ (by rfl) (by rfl) (Z v) ?_)
   rw[<-a3];clear a3 z0 zf x0 cp v;have L0:Hid (rD w6.heap.size w6 0 (σ ν 0 0) (λ_=>0)):=J ⟨pr _ _ _ _,λb aa=>by omega,λa b d=>by omega,λb aa=>by omega,λq e=>by cases e⟩;go_wp2;go_loopw [10,11] (λlv kv j=>∃(k:Nat)(bx:Nat->Nat),k<=4/\kv=ι δ k/\(∃a n c,lv=σ a n c)/\rD w6.heap.size j k lv bx/\γ w6 j ν) (λ_ kv _=>4-(intOf kv).toNat);case atStart=>exact⟨0,λ_=>0,by omega,rfl,⟨_,_,_,rfl⟩,Z L0,aD _ _⟩
   case round=>
    clear L0;obtain⟨k,bx,u,rfl,⟨la,ln,bz,rfl⟩,L,g6⟩:=hrel;rename ω=>j
    by_cases ds:k<4
    ·have d2:decide ((k:Int)<4)=ρ:=dT_;have ge:=aJ j (ο #[ς ⟨#[]⟩,β θ,β θ,ι η 0,ι δ 0,ι δ 0,ι δ 0] 143) ν;have bM:=aJ (j.alloc (ο #[ς ⟨#[]⟩,β θ,β θ,ι η 0,ι δ 0,ι δ 0,ι δ 0] 143)) (ο #[π (μ ⟨j.heap.size,0,ν⟩)] 140) ν;have g7:=aq ge bM;obtain⟨W7,al⟩:=exq ((j.alloc (ο #[ς ⟨#[]⟩,β θ,β θ,ι η 0,ι δ 0,ι δ 0,ι δ 0] 143)).alloc (ο #[π (μ ⟨j.heap.size,0,ν⟩)] 140));have b0:W7.heap[j.heap.size]?=μ (ο (pN End.zero) 143 (0,0)):=by rw[al];exact(heap_alloc_old _ _ (by rw[eh];omega)).trans (aO _ _)
     have b3:κ W7 ⟨j.heap.size+1,0,ν⟩=μ (π (μ ⟨j.heap.size,0,ν⟩)):=by
      have q:=aO (j.alloc (ο #[ς ⟨#[]⟩,β θ,β θ,ι η 0,ι δ 0,ι δ 0,ι δ 0] 143)) (ο #[π (μ ⟨j.heap.size,0,ν⟩)] 140);rw[eh]at q;rw[al,aZ q];rfl
     rw[<-al]at g7;obtain⟨a8,n8,c8,w8,v,hO,g8,ho⟩:=yN 141 underlying141 SJ rfl (by decide) (σ la ln bz) k _ (lg L.row (ay.of g7) (λq _ e=>by cases e)) (j.heap.size+1) 1 (π (μ ⟨j.heap.size,0,ν⟩)) b3 rfl (by omega);obtain⟨L8,cv⟩:=L.step g6 g7 b0 g8 hO ho;replace⟨L8,v,L⟩:=cz L8 v L;clear hO b0 b3 ge bM;go_wp2_with (at_builtin;rw[<-al];refine ql (by rfl) 141 141 (by rfl) _ _ (by rfl) _ _ _ (by rfl) (by rfl) (Z v) ?_);exact⟨⟨k+1,_,by omega,rfl,⟨_,_,_,rfl⟩,Z L8,cv⟩,by simp[intOf];omega⟩
    have d2:decide ((k:Int)<4)=θ:=dF_;obtain rfl:k=4:=by omega
    obtain⟨g,cap,b4⟩:∃g cap,(Value.slice la ln bz)=σ (μ ⟨g,0,ν⟩) 4 cap:=by
     obtain⟨-,⟨-,dx⟩|⟨g,cap,dE,e,-⟩⟩:=L.row;omega;exact⟨g,cap,e⟩
    obtain⟨rfl,rfl,rfl⟩:=jy b4;clear b4;have cw:=((Z C).au g6).bd.oZ.1.2.1;obtain⟨e0,ae,ne,ce,we,a0,ze,cy,N⟩:=(Z C).SO g6 (by omega) L;obtain⟨wE,a4⟩:=exq (ζ we ⟨nb,1,ν⟩ (σ ae ne ce));rw[<-a4]at N;have dG:=N.bd.oZ.1.2.2;obtain⟨e1,aC,nC,cC,wc,a9,zc,ea,BC⟩:=N.SP (by omega);replace⟨BC,N,a0,a9,L⟩:=fF BC N a0 a9 L;go_upto_region 16 with(at_builtin;refine ql (by rfl) 76 76 (by rfl) _ _ (by rfl) _ _ _ (by rfl) (by rfl) (Z a0) ?_)
    rw[<-a4];clear a4 ze cy e0 cw a0;go_wp2_with (at_builtin;refine ql (by rfl) 78 78 (by rfl) _ _ (by rfl) _ _ _ (by rfl) (by rfl) (Z a9) ?_);exact⟨⟨i+1,_,_,_,_,by omega,rfl,Z BC⟩,by simp[intOf];omega⟩
  have d1:decide ((i:Int)<2)=θ:=dF_;obtain rfl:i=2:=by omega
  have y:=J (Z ch wr V H ve vc B);replace B:=J B;go_wp2_with fail;first|exact Z y|(go_ret;exact Z y)
def j7(l:List cY)(i:Nat):cY:=l.getD i ⟨0,0,0,0,⟨#[]⟩⟩
def Be{l:List cY}(h:i<l.length):j7 l i∈l:=by
 unfold j7;rw[oy,dT h];exact uu h
structure vZ(s:cY):Prop where
 kind:dD s.kind
 side:dD s.side
 a:dD s.a
 b:dD s.b
 len:s.s.size<=140737488351232
def pP(w:ω)(a:Option Addr)(n cap:Nat)(c:List cY):Prop:=
 n=c.length/\n<=cap/\cap<=maxLen/\(∀s∈c,vZ s)/\(c=[]\/∃b o,a=μ ⟨b,o,ν⟩/\∀i,i<c.length->w.rangeAt b (o+i*5) (dj (j7 c i)).toList)
def pP.au{c:List cY}(h:pP w a n k c)(g:γ w W ν):pP W a n k c:=by
 obtain⟨d,f,j,l,m⟩:=h;refine⟨d,f,j,l,m.imp id ?_⟩
 rintro⟨b,o,e,p⟩;exact⟨b,o,e,λi hi=>jn (p i hi) g (by simp)⟩
def pP.at'{c:List cY}(h:pP w a n k c)(hi:i<c.length):∃b o,a=μ ⟨b,o,ν⟩/\w.rangeAt b (o+i*5) (dj (j7 c i)).toList/\(κ w ⟨b,o+i*5,ν⟩=μ (ι δ (j7 c i).kind)/\κ w ⟨b,o+i*5+1,ν⟩=μ (ι δ (j7 c i).side)/\κ w ⟨b,o+i*5+2,ν⟩=μ (ι δ (j7 c i).a)/\κ w ⟨b,o+i*5+3,ν⟩=μ (ι δ (j7 c i).b)/\κ w ⟨b,o+i*5+4,ν⟩=μ (ς (j7 c i).s)):=by
 obtain⟨-,-,-,-,d⟩:=h;obtain rfl|⟨b,o,e,f⟩:=d
 simp at hi;have q:=f i hi;exact⟨b,o,e,q,q 0 _ rfl,q 1 _ rfl,q 2 _ rfl,q 3 _ rfl,q 4 _ rfl⟩
def kG(a:List cY):Nat->Nat
 |0=>0
 |i+1=>kG a i+(j7 a i).s.size
def SQ(a:List cY):∀i j,j<i->(j7 a j).s.size<=kG a i:=by
 intro i;induction i with
 |zero=>intro j h;omega
 |succ i b=>
  intro j h;unfold kG;by_cases e:j=i;subst e;omega;have:=b j (by omega);omega
def SR{a:List cY}{s:cY}(h:s∈a):s.s.size<=kG a a.length:=by
 obtain⟨i,hi,rfl⟩:=j8.1 h;have:=SQ a a.length i hi;unfold j7 at this;rw[oy,dT hi]at this;exact this
def Bf(w:ω)(a:List cY)(e:Ending)(c:ω):Prop:=γ w c ν/\∃b,e=ξ (β b)/\(b=ρ->a.length<=8192/\∀s∈a,s.s.size<=8192)
def Gk(w:ω)(a:Option Addr)(n cap:Nat)(c:List cY)(H:pP w a n cap c):
 Calls prog 19 #[σ a n cap] w (Bf w c):=by
 obtain⟨d,x,r,k,-⟩:=id H;unfold maxLen at r;replace⟨H,k,d⟩:=cz H k d;go_enter func19,ntmps19;go_wp2;go_loopw [3,4] (λt m wr=>∃(i:Nat),i<=n/\m=ι δ i/\t=ι δ ((n:Int)+(kG c i:Int))/\((kG c i:Int)<=140737488400000)/\γ w wr ν) (λ_ m _=>n-(intOf m).toNat);case atStart=>exact⟨0,by omega,rfl,by simp[kG],by simp[kG],aD _ _⟩
 case round=>
  obtain⟨i,hi,rfl,rfl,hs,g⟩:=hrel;by_cases y:i<n
  ·have A:IntKind.i64.wrap ((i:Int)+1)=(i:Int)+1:=wI_;have d1:decide ((i:Int)<n)=ρ:=dT_;by_cases f:(n:Int)+(kG c i:Int)<=8192
   ·have d2:decide ((n:Int)+(kG c i:Int)<=8192)=ρ:=eT f;have B:(0:Int)<=i:=by omega
    have C:(i:Int)<n:=by omega
    obtain⟨b,o,rfl,-,-,-,-,-,c4⟩:=((Z H).au g).at' (i:=i) (by have:=Z d;omega);have u:=(Z k _ (Be (l:=c) (i:=i) (by have:=Z d;omega))).len;have q:IntKind.i64.wrap ((n:Int)+(kG c i:Int)+((j7 c i).s.size:Int))=(n:Int)+(kG c i:Int)+((j7 c i).s.size:Int):=wI_;obtain⟨S,h⟩:=exq (kG c i);obtain⟨z,p⟩:=exq ((j7 c i).s);have j:kG c (i+1)=S+z.size:=by rw[h,p];rfl
    rw[<-h]at hs f d2 q;rw[<-p]at c4 u q;replace j:=J j;rw[<-h];clear h p;go_wp2_with fail;refine⟨⟨i+1,by omega,by simp,?_,by rw[Z j];push_cast;omega,g⟩,by simp[intOf];omega⟩
    rw[Z j];push_cast;rw[Int.add_assoc]
   have d2:decide ((n:Int)+(kG c i:Int)<=8192)=θ:=fc f;go_wp2;go_ret;exact⟨g,θ,rfl,λe=>by cases e⟩
  have d1:decide ((i:Int)<n)=θ:=dF_;obtain rfl:i=n:=by omega
  by_cases f:(i:Int)+(kG c i:Int)<=8192
  ·have d2:decide ((i:Int)+(kG c i:Int)<=8192)=ρ:=eT f;go_wp2;go_ret;refine⟨g,ρ,rfl,λ_=>⟨by have:=Z d;omega,λs v=>?_⟩⟩
   have:=SR v;rw[<-Z d]at this;omega
  have d2:decide ((i:Int)+(kG c i:Int)<=8192)=θ:=fc f;go_wp2;go_ret;exact⟨g,θ,rfl,λe=>by cases e⟩
structure lR(a wr:ω)(nb:Nat)(V:Nw)(m:Nat->an)(n:Nat):Prop where
 at_:bV wr nb V
 ok:bl V m n
 laid:Laid wr
 g:γ a wr ν
 lo:∀k,V.jY nb k->a.heap.size<=k
def lR.go{wr:ω}{a:Nw}{c:Nat->an}(h:lR w wr i D F n)(T:bS wr i D a W)(K:bl a c j):lR w W i a c j:=by
 have z:=h.g.size;refine⟨T.at_,K,T.laid,⟨T.aA.os.trans h.g.os,T.aA.tape.trans h.g.tape,T.aA.output.trans h.g.output,bK z T.aA.size,λk b _=>?_⟩,λk b=>?_⟩
 rw[T.aA.block k (by omega) (λe=>by have:=h.lo k e;omega)];exact h.g.block k b (by simp);obtain q|q:=T.all k b
 exact h.lo k q;omega
def lR.gb{wr:ω}(h:lR w wr k D F n)(g:γ wr W ν):lR w W k D F n:=h.go (bS.refl h.at_ g h.laid) h.ok
def vY.Gl(h:vY w p q n D W)(a:64<=p/\p<=300/\16<=q/\q<=1024):lR w W n D (λi=>an.new p q D.key (decide (i=0))) 0:=
 ⟨h.at_,bl.start a h.at_.key ⟨h.cfg.1,h.cfg.2.1⟩ (λi hi=>by rw[h.cfg.2.2];exact h.st i hi) (λi k _ _=>h.e i k) h.aN (λi _=>h.ba i),h.laid,h.g,h.all⟩
def vZ.ok{s:cY}(h:vZ s)(hl:s.s.size<=8192):s.ok:=⟨h.kind,h.side,h.a,h.b,by omega⟩
def yO(w:ω)(e:Ending)(a:ω):Prop:=∃nb V m n,e=ξ (τ #[π (μ ⟨nb,0,ν⟩),β ρ])/\n<=16384/\lR w a nb V m n
def Gm(w:ω)(F:Laid w)(a:Option Addr)(n cap:Nat)(d:List cY)(H:pP w a n cap d)(hl:d.length<=8192)(hs:∀s∈d,s.s.size<=8192)(l mt f:Int)(G:dD mt)(I:dD f):
 Calls prog 21 #[σ a n cap,ι δ l,ι δ mt,ι δ f] w (yO w):=by
 have j:=H.1;have L:64<=64+(bh mt 237:Int)/\64+(bh mt 237:Int)<=300/\16<=16+(bh f 300:Int)/\16+(bh f 300:Int)<=1024:=by
  have:=fk mt (p:=237) (by decide);have:=fk f (p:=300) (by decide);omega
 have v:=J (Gi w F mt f G I);replace⟨H,hs,j⟩:=cz H hs j;obtain⟨P,hP⟩:=exq (yO w);rw[<-hP];have M:=J (λ(nb:Nat)(V:Nw)(m:Nat->an)(c:Nat)(p:ω)(q:c<=16384)(x:lR w p nb V m c)=>(show P (ξ (τ #[π (μ ⟨nb,0,ν⟩),β ρ])) p by rw[hP];exact⟨nb,V,m,c,rfl,q,x⟩));replace hP:=J hP;go_enter func21,ntmps21;go_upto_region 2 with(go_at_call 49;apply(Z v).mono;rintro e U⟨nb,N,rfl,q⟩)
 have y:=J (q.Gl L);clear q v;go_wp2;go_loopw [11] (λt wr=>∃(i:Nat)(V:Nw)(m:Nat->an)(c:Nat),i<=n/\t=ι δ i/\c<=2*i/\lR w wr nb V m c) (λt _=>n-(intOf t).toNat);case atStart=>exact⟨0,N,_,0,by omega,rfl,by omega,Z y⟩
 case round=>
  clear y;obtain⟨i,V,m,c,hi,rfl,W,B⟩:=hrel;by_cases X:i<n
  ·have d1:decide ((i:Int)<n)=ρ:=dT_;have Y:(0:Int)<=i:=by omega
   have j1:(i:Int)<n:=by omega
   have u:i<d.length:=by have:=Z j;omega
   obtain⟨b,o,rfl,z,c0,c1,c2,c3,c4⟩:=((Z H).au B.g).at' u;have A:=((Z H).2.2.2.1 _ (Be u)).ok (Z hs _ (Be u));have h:=SD wr nb V m c B.at_ B.laid B.ok (by have:=Z j;omega) (j7 d i) A;have O:=J (λ(p:ω)(k:Nw)(r:Nat->an)(n2:Nat)(T:bS wr nb V k p)(K:bl k r n2)=>B.go T K);obtain⟨s,C⟩:=exq (j7 d i);rw[<-C]at c0 c1 c2 c3 c4 h;unfold dj eM at h;obtain⟨kind,side,sa,aC,str⟩:=s;simp only at c0 c1 c2 c3 c4 h;replace⟨h,B,z⟩:=cz h B z;clear C A;by_cases D:kind=l
   ·have Q:(kind==l)=ρ:=by simpa using D
    go_wp2;exact⟨⟨i+1,V,m,c,by omega,rfl,by omega,Z B⟩,by simp[intOf];omega⟩
   have Q:(kind==l)=θ:=by simpa using D
   go_wp2_with (go_at_call 50;apply(Z h).mono;rintro e R⟨rfl,k,r,n2,x,T,K⟩;have S:=J (Z O R k r n2 T K);clear T K);exact⟨⟨i+1,k,r,n2,by omega,rfl,by omega,Z S⟩,by simp[intOf];omega⟩
  have d1:decide ((i:Int)<n)=θ:=dF_;have E:=J (Z M nb V m c wr (by have:=Z j;omega) B);replace B:=J B;go_wp2_with fail;first|exact Z E|(go_ret2;exact Z E)
structure Ns where
 V:Nw
 m:Nat->an
 n:Nat
def Ns.ok(a:Ns):Prop:=bl a.V a.m a.n
def sC(a b:Ns):Prop:=b.ok/\b.m=a.m/\b.n=a.n+2/\∃s0 s1 c,(a.V.st 0).do ⟨4,0,0,0,⟨#[]⟩⟩=(⟨0,-1,0,0,[],[]⟩,.ai s0)/\(a.V.st 1).do ⟨4,0,0,0,⟨#[]⟩⟩=(⟨0,-1,0,0,[],[]⟩,.ai s1)/\b.V={a.V with st:=ah (ah a.V.st 0 (.ai s0)) 1 (.ai s1),A:=c}
def ly(i:Nat)(a b:Ns):Prop:=b.ok/\b.n=a.n+1/\∃c ps e v,(a.V.st i).do ⟨5,0,0,0,⟨#[]⟩⟩=(⟨0,-1,0,0,[],ps⟩,.ai c)/\ps.length<=50/\b.V=jZ a.V i ((1-i:Nat):Int) (.ai c) (ps.map strOfNums) ps.length e v/\∃d,yA (a.m i) (ps.map strOfNums) d/\b.m=ah a.m i {(a.m i).dX d with due:=[]}
def lS(q:Nat)(a b:Ns):Prop:=b.ok/\b.n=a.n+1/\∃i r c p d,i<2/\(jf a.V.aN q).1=((i:Nat):Int)/\(a.V.st i).do ⟨6,0,0,0,(jf a.V.aN q).2⟩=(r,.ai c)/\b.V=gV {a.V with st:=ah a.V.st i (.ai c)} i p 4 d/\b.m=ah a.m i ((a.m i).fx (aI (jf a.V.aN q).2)).2.2
def ml(i k:Nat)(a b:Ns):Prop:=b.ok/\b.n=a.n+1/\∃c N code data d,(a.V.st i).do ⟨7,(k:Int),5000,0,⟨#[]⟩⟩=(⟨0,-1,N,code,data,[]⟩,.ai c)/\vV (a.V.e (1-i) k) 5000 N code data/\(data=((a.m i).read k 5000).1/\N=((a.m i).read k 5000).2.1)/\b.V={a.V with st:=ah a.V.st i (.ai c),A:=ah a.V.A i d,e:=dZ a.V.e (1-i) k {a.V.e (1-i) k with read:=(a.V.e (1-i) k).read+data.length,state:=N}}/\b.m=ah a.m i ((a.m i).read k 5000).2.2.2.2
def Steps(R:Nat->Ns->Ns->Prop):Nat->Ns->Ns->Prop
 |0,a,b=>a=b
 |c+1,a,b=>∃d,Steps R c a d/\R c d b
def Round(a b:Ns):Prop:=∃g f h c,sC a g/\Steps ly 2 g f/\a.V.aN.length+c=f.V.aN.length/\Steps (λq=>lS (a.V.aN.length+q)) c f h/\Steps (λi d e=>Steps (ml i) 4 d e) 2 h b
def fB(b wr:ω)(nb:Nat)(a:Ns):Prop:=lR b wr nb a.V a.m a.n
def SS{wr:ω}{a:Ns}(h:fB w wr k a)(g:a.n<=89990):
 Calls prog 50 #[π (μ ⟨k,0,ν⟩),ε #[ι δ 4,ι δ 0,ι δ 0,ι δ 0,ς ⟨#[]⟩]] wr λe c=>e=ξ (β ρ)/\∃b,sC a b/\fB w c k b:=by
 have hs:cY.ok ⟨4,0,0,0,⟨#[]⟩⟩:=⟨by simp[dD],by simp[dD],by simp[dD],by simp[dD],jm _⟩
 apply(Gh wr k a.V a.m a.n h.at_ h.laid h.ok g ⟨4,0,0,0,⟨#[]⟩⟩ hs (λd=>sC a ⟨d,a.m,a.n+1+1⟩) rfl (λs0 s1 i j l p=>⟨p,rfl,rfl,s0,s1,i,j,l,rfl⟩)).mono;rintro e c⟨rfl,d,T,f⟩;exact⟨rfl,_,f,h.go T f.1⟩
def Bg{wr:ω}{a:Ns}(h:fB w wr k a)(x:a.n<=89990)(hi:i<2):
 Calls prog 29 #[π (μ ⟨k,0,ν⟩),ι δ i] wr λe d=>e=ξ (β ρ)/\∃b,ly i a b/\fB w d k b:=by
 have K:bl a.V a.m a.n:=h.ok;obtain⟨f,ps,g,l,p,q,r,⟨s,t,u⟩,j⟩:=K.Gb hi (show 1-i<2 by omega) (show i≠1-i by omega) (by omega);refine(FV wr k a.V h.at_ h.laid i ((1-i:Nat):Int) hi (by omega) a.n (K.ok hi) (by omega) ps (by omega) (by have:=K.lb;omega) p (.ai f) g q).mono ?_;rintro e d⟨rfl,c,v,T⟩;exact⟨rfl,⟨_,r,a.n+1⟩,⟨j c v,rfl,f,ps,c,v,g,l,rfl,s,t,u⟩,h.go T (j c v)⟩
def SU{wr:ω}{a:Ns}(h:fB w wr k a)(A:a.n<=89990)(s:j<a.V.aN.length):
 Calls prog 86 #[π (μ ⟨k,0,ν⟩),ι δ (jf a.V.aN j).1,ς (jf a.V.aN j).2] wr λe d=>e=ξ (β ρ)/\∃b,lS j a b/\fB w d k b:=by
 have K:bl a.V a.m a.n:=h.ok;obtain⟨i,r,f,p,hi,g,B,-,l,t,u,v,x,y,z,q⟩:=K.yM (by omega) (vX s);have C:=K.lu;rw[g];apply(FR wr k a.V h.at_ h.laid i hi (a.n+1) (K.Ge hi) (by omega) (by omega) _ (by omega) r (.ai f) l t u p v x).mono;rintro e d⟨rfl,c,T⟩;exact⟨rfl,⟨_,y,a.n+1⟩,⟨q c,rfl,i,r,f,p,c,hi,g,l,rfl,z⟩,h.go T (q c)⟩
def SV{wr:ω}{a:Ns}(h:fB w wr j a)(v:a.n<=89990)(hi:i<2)(c:k<4):
 Calls prog 83 #[π (μ ⟨j,0,ν⟩),ι δ i,ι δ k,ι δ 5000] wr λe d=>e=ξ (β ρ)/\∃b,ml i k a b/\fB w d j b:=by
 have K:bl a.V a.m a.n:=h.ok;obtain⟨f,N,code,data,g,l,x,r,s⟩:=K.F8 hi (show 1-i<2 by omega) (show i≠1-i by omega) (by omega) c (p:=5000) (by decide);apply(FW wr j a.V h.at_ h.laid i (1-i) hi (by omega) (by omega) a.n (K.ok hi) (by omega) k c 5000 (by decide) N code data (.ai f) g l (by omega)).mono;rintro e d⟨rfl,p,T⟩;obtain⟨t,q,u⟩:=s (ah a.V.A i p);exact⟨rfl,⟨_,t,a.n+1⟩,⟨q,rfl,f,N,code,data,p,g,l,r,rfl,u⟩,h.go T q⟩
variable{f:Ns}
def ly.aN{b:Ns}(h:ly i f b):f.V.aN.length<=b.V.aN.length/\b.V.aN.length<=f.V.aN.length+50:=by
 obtain⟨-,-,a,ps,c,v,-,hp,d,-⟩:=h;rw[d];show _<=(f.V.aN++((ps.map strOfNums).take ps.length).map (λb=>(((1-i:Nat):Int),b))).length/\_;rw[show(jZ f.V i ((1-i:Nat):Int) (.ai a) (ps.map strOfNums) ps.length c v).aN=f.V.aN++((ps.map strOfNums).take ps.length).map (λb=>(((1-i:Nat):Int),b))from rfl,bF,dd,ct,dd];omega
def lS.aN{b:Ns}(h:lS n f b):b.V.aN=f.V.aN/\b.V.vb=f.V.vb:=by
 obtain⟨-,-,i,r,c,p,d,-,-,-,a,-⟩:=h;rw[a];exact⟨rfl,rfl⟩
def sC.aN{b:Ns}(h:sC f b):b.V.aN=f.V.aN:=by
 obtain⟨-,-,-,s0,s1,c,-,-,a⟩:=h;rw[a]
def fB.len{wr:ω}(h:fB w wr n f):∃a vc,κ wr ⟨n,20,ν⟩=μ (σ a f.V.aN.length vc):=by
 obtain⟨a,vc,e,-⟩:=sh h.at_.aN;exact⟨a,vc,by rw[h.at_.c.1.2.2.2.2.1,e]⟩
def fB.re{wr:ω}{b:Ns}(h:fB w wr k f)(e1:b.V=f.V)(e2:b.m=f.m)(a:b.ok):fB w wr k b:=by
 obtain⟨V,m,n⟩:=b;simp only at e1 e2;subst e1;subst e2;exact⟨h.at_,a,h.laid,h.g,h.lo⟩
def Bh(u w:ω)(nb:Nat)(a:Ns)(h:fB u w nb a)(t:Nat)(ht:t<=100000)(I:Nat->Ns->Prop)(h0:I 0 a)(a0:∀j b c,j<t->I j b->Round b c->∃N:Ns,N.V=c.V/\N.m=c.m/\N.ok/\I (j+1) N)(a1:∀j b,j<t->I j b->b.n<=88000):
 Calls prog 51 #[π (μ ⟨nb,0,ν⟩),ι δ t] w λe s=>e=ξ (β ρ)/\∃b,I t b/\fB u s nb b:=by
 obtain⟨P,hP⟩:∃P:Ending->ω->Prop,P=λe s=>e=ξ (β ρ)/\∃b,I t b/\fB u s nb b:=⟨_,rfl⟩
 rw[<-hP];have b4:=J (λ(s:ω)(b:Ns)(h1:I t b)(h2:fB u s nb b)=>(show P (ξ (β ρ)) s by rw[hP];exact⟨rfl,b,h1,h2⟩));replace⟨hP,h,h0,a0,a1⟩:=fF hP h h0 a0 a1;go_enter func51,ntmps51;go_wp2;go_loopw [5] (λtv wr=>∃(j:Nat)(b:Ns),j<=t/\tv=ι δ j/\I j b/\fB u wr nb b) (λtv _=>t-(intOf tv).toNat);case atStart=>exact⟨0,a,by omega,rfl,Z h0,Z h⟩
 case round=>
  obtain⟨j,b,hj,rfl,G,O⟩:=hrel;by_cases bb:j<t
  ·have dt:decide ((j:Int)<t)=ρ:=dT_;have cp:=Z a1 j b bb G;have hT:=J (SS O (by omega));replace⟨O,G⟩:=bD O G;go_upto_region 5 with(go_at_call 50;apply(Z hT).mono;rintro e w1⟨rfl,b1,W,Q⟩)
   obtain⟨va,vc,X⟩:=Q.len;have cv:b1.n=b.n+2:=W.2.2.1;have a2:b1.V.aN.length=b.V.aN.length:=by rw[W.aN]
   rw[a2]at X;obtain⟨l,ax⟩:=exq b.V.aN.length;rw[<-ax]at X a2;have cw:l<=b.V.aN.length:=by omega
   have cx:b.V.aN.length<=l:=by omega
   replace ax:=J ax;replace a2:b1.V.aN.length<=l/\l<=b1.V.aN.length:=by omega
   replace⟨Q,W⟩:=bD Q W;clear hT;go_upto_block 2 with fail;clear X;go_cut [6,8,9]from 15 to 88 (λY _ _ wx=>Y=β ρ/\∃d:Ns,Steps ly 2 b1 d/\fB u wx nb d/\d.n=b1.n+2/\l<=d.V.aN.length/\d.V.aN.length<=l+100);case first=>
    go_wp2;go_loopw [6,8] (λH K wr=>∃(c:Nat)(d:Ns),c<=2/\K=ι δ c/\H=β ρ/\Steps ly c b1 d/\fB u wr nb d/\d.n=b1.n+c/\l<=d.V.aN.length/\d.V.aN.length<=l+50*c) (λ_ K _=>2-(intOf K).toNat);case atStart=>exact⟨0,b1,by omega,rfl,rfl,rfl,Z Q,by omega,by omega,by omega⟩
    case round=>
     clear Q;obtain⟨c,d,hc,rfl,rfl,hF,y,b5,bj,br⟩:=hrel;by_cases b6:c<2
     ·have d2:decide ((c:Int)<2)=ρ:=dT_;have B:=J (Bg y (by omega) b6);replace y:=J y;go_wp2_with (go_at_call 29;apply(Z B).mono;rintro e w2⟨rfl,d',z,D⟩;have bt:=z.aN;have b7:=z.2.1;replace D:=J D;replace z:=J z);exact⟨⟨c+1,d',by omega,rfl,rfl,⟨d,hF,Z z⟩,Z D,by omega,by omega,by omega⟩,by simp[intOf];omega⟩
     have d2:decide ((c:Int)<2)=θ:=dF_;obtain rfl:c=2:=by omega
     replace⟨hF,y⟩:=bD hF y;go_wp2;go_meet;exact⟨rfl,d,Z hF,Z y,by omega,by omega,by omega⟩
   case rest=>
    clear Q;obtain⟨rfl,d,hF,y,b5,bj,br⟩:=hcut;replace hF:=J hF;obtain⟨p,al⟩:=exq d.V.aN.length;have bx:d.V.aN.length<=100*d.n:=y.ok.lb;rw[<-al]at bj br bx;have cy:p<=9000000:=by omega
    clear bx;have cC:p<=d.V.aN.length:=by omega
    replace⟨al,y⟩:=bD al y;go_upto_block 4 with fail;go_cut [6,10,11]from 15 to 88 (λY _ _ wx=>Y=β ρ/\∃(c:Nat)(f:Ns),l+c=p/\Steps (λq=>lS (l+q)) c d f/\fB u wx nb f/\f.n=d.n+c);case first=>
     go_wp2;go_loopw [6,10] (λH L wr=>∃(c:Nat)(f:Ns),l+c<=p/\L=ι δ ((l+c:Nat):Int)/\H=β ρ/\Steps (λq=>lS (l+q)) c d f/\fB u wr nb f/\f.n=d.n+c/\f.V.aN.length=p) (λ_ L _=>p-(intOf L).toNat);case atStart=>exact⟨0,d,by omega,rfl,rfl,rfl,Z y,by omega,(Z al).symm⟩
     case round=>
      clear y;obtain⟨c,f,hc,rfl,rfl,E,v,b8,R⟩:=hrel;obtain⟨va,vc,X⟩:=v.len;rw[R]at X;replace E:=J E;obtain⟨k,M⟩:=exq (l+c);rw[<-M];replace M:=J M;have c9:k<=l+c:=by rw[Z M];omega
      have db:l+c<=k:=by rw[Z M];omega
      have de:f.V.aN.length<=p:=by omega
      have dg:p<=f.V.aN.length:=by omega
      replace R:=J R;by_cases dk:l+c<p
      ·have d3:decide ((k:Int)<p)=ρ:=dT_;have q0:(0:Int)<=k:=by omega
       have q1:(k:Int)<p:=by omega
       obtain⟨g,a3,hv,a4,x1,x2⟩:=v.at_.ua (k:=k) (by omega);rw[Z R]at a4;have B:=SU (lR.gb v (aY (aD _ ν)):fB u wr.drew nb f) (by omega) (j:=k) (by omega);have a8:=J (λ(s:ω)(F:Ns)(h1:lS k f F)(h2:fB u s nb F)=>(show κ s ⟨nb,20,ν⟩=μ (σ (μ ⟨g,0,ν⟩) p a3)/\κ s ⟨g,k*2,ν⟩=μ (ι δ (jf f.V.aN k).1)/\κ s ⟨g,k*2+1,ν⟩=μ (ς (jf f.V.aN k).2) by
        obtain⟨e1,e2⟩:=h1.aN;obtain⟨g',dn,bz,a9,y1,y2⟩:=h2.at_.ua (k:=k) (by rw[e1];omega);rw[e2,hv,e1]at bz;obtain⟨eg,-,ec⟩:=jy bz;have eg:=fD Addr.block (aQ eg);simp only at eg;subst eg;subst ec;rw[e1]at a9 y1 y2;rw[Z R]at a9;exact⟨a9,y1,y2⟩))
       obtain⟨x,hx⟩:=exq (jf f.V.aN k);rw[<-hx]at x1 x2 B a8;obtain⟨xt,xs⟩:=x;simp only at x1 x2 B a8;have bM:wr.drew.cell? ⟨nb,20,ν⟩=μ (σ (μ ⟨g,0,ν⟩) p a3)/\wr.drew.cell? ⟨g,k*2,ν⟩=μ (ι δ xt)/\wr.drew.cell? ⟨g,k*2+1,ν⟩=μ (ς xs):=⟨a4,x1,x2⟩
       replace⟨B,hx,v⟩:=cz B hx v;clear x1 x2 a4 hv;go_upto_region 14 with fail;go_region_held3 (λs=>κ s ⟨nb,20,ν⟩=μ (σ (μ ⟨g,0,ν⟩) p a3)/\κ s ⟨g,k*2,ν⟩=μ (ι δ xt)/\κ s ⟨g,k*2+1,ν⟩=μ (ς xs))
        (with_reducible first|exact bM|exact b0)
        (first|(go_at_call 86;apply(Z B).mono;rintro e w2⟨rfl,F,z,D⟩;have b0:=Z a8 w2 F z D;replace D:=J D;replace z:=J z))
       have b7:F.n=f.n+1:=(Z z).2.1;have bt:F.V.aN.length=p:=by rw[(Z z).aN.1];exact Z R
       clear bM b0;go_wp2_with fail;refine⟨⟨c+1,F,by omega,?_,rfl,⟨f,Z E,?_⟩,Z D,by omega,bt⟩,by simp[intOf];omega⟩
       rw[Z M];rfl;show lS (l+c) f F;rw[<-Z M];exact Z z
      have d3:decide ((k:Int)<p)=θ:=dF_;replace v:=J v;go_wp2;go_meet;exact⟨rfl,c,f,by omega,Z E,Z v,by omega⟩
    case rest=>
     clear y;obtain⟨rfl,c,f,hc,E,v,b8⟩:=hcut;replace hc:=(show l+c<=p/\p<=l+c by omega)
     replace⟨E,v⟩:=bD E v;go_upto_block 6 with fail;go_cut [6,12,13,14]from 15 to 88 (λY _ _ _ wx=>Y=β ρ/\∃r:Ns,Steps (λi d e=>Steps (ml i) 4 d e) 2 f r/\fB u wx nb r/\r.n=f.n+8);case first=>
      go_wp2;go_loopw [6,12] (λH K wr=>∃(i:Nat)(r:Ns),i<=2/\K=ι δ i/\H=β ρ/\Steps (λi d e=>Steps (ml i) 4 d e) i f r/\fB u wr nb r/\r.n=f.n+4*i) (λ_ K _=>2-(intOf K).toNat);case atStart=>exact⟨0,f,by omega,rfl,rfl,rfl,Z v,by omega⟩
      case round=>
       clear v;obtain⟨i,r,hi,rfl,rfl,C,A,ca⟩:=hrel;by_cases ch:i<2
       ·have d4:decide ((i:Int)<2)=ρ:=dT_;replace⟨A,C⟩:=bD A C;go_wp2;go_loopw [6,13] (λH L wr=>∃(q:Nat)(S:Ns),q<=4/\L=ι δ q/\H=β ρ/\Steps (ml i) q r S/\fB u wr nb S/\S.n=r.n+q) (λ_ L _=>4-(intOf L).toNat);case atStart=>exact⟨0,r,by omega,rfl,rfl,rfl,Z A,by omega⟩
        case round=>
         clear A;obtain⟨q,S,hq,rfl,rfl,T,U,ds⟩:=hrel;by_cases cj:q<4
         ·have d5:decide ((q:Int)<4)=ρ:=dT_;have B:=J (SV U (by omega) ch cj);replace⟨U,T⟩:=bD U T;go_wp2_with (go_at_call 83;apply(Z B).mono;rintro e w2⟨rfl,r2,aC,D2⟩;have dx:=aC.2.1;replace D2:=J D2;replace aC:=J aC);exact⟨⟨q+1,r2,by omega,rfl,rfl,⟨S,Z T,Z aC⟩,Z D2,by omega⟩,by simp[intOf];omega⟩
         have d5:decide ((q:Int)<4)=θ:=dF_;obtain rfl:q=4:=by omega
         replace⟨U,T⟩:=bD U T;go_wp2;exact⟨⟨i+1,S,by omega,rfl,rfl,⟨r,Z C,Z T⟩,Z U,by omega⟩,by simp[intOf];omega⟩
       have d4:decide ((i:Int)<2)=θ:=dF_;obtain rfl:i=2:=by omega
       replace⟨A,C⟩:=bD A C;go_wp2;go_meet;exact⟨rfl,r,Z C,Z A,by omega⟩
     case rest=>
      clear v;obtain⟨rfl,r,C,A,ca⟩:=hcut;have b3:Hid (Round b r):=J (by
       have e1:=Z ax;have e2:=Z al;have e3:=Z E;subst e1;exact⟨b1,d,f,c,Z W,Z hF,by omega,e3,C⟩)
      obtain⟨N,q1,q2,q3,q4⟩:=Z a0 j b r bb (Z G) (Z b3);replace A:=J (A.re q1 q2 q3);replace q4:=J q4;clear q1 q2 q3 C b3;go_wp2;exact⟨⟨j+1,N,by omega,rfl,Z q4,Z A⟩,by simp[intOf];omega⟩
  have dt:decide ((j:Int)<t)=θ:=dF_;obtain rfl:j=t:=by omega
  have hf:=J (Z b4 wr b G O);replace⟨O,G⟩:=bD O G;go_wp2_with fail;first|exact Z hf|(go_ret;exact Z hf)
