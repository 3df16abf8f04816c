import Derived.Test.YtjnmokmchdfchaaGreatDoorZL8
import Derived.Test.YtjnmokmchdfchaaGreatDoorZL9
import Derived.Test.YtjnmokmchdfchaaGreatDoorZLe
set_option maxRecDepth 1000000
set_option maxHeartbeats 0
set_option linter.all false
namespace Go.Proofs.YtjnmokmchdfchaaGreatDoor
open Go.RowKit Tryz
open Go.Value renaming int→ι,slice→σ,bool→β,pointer→π,agg→ε,string→ς,tuple→τ
open Go.IntKind renaming i64→δ,u64→η,u8→Δ
open Go.Ending renaming returned→ξ
open Go.Obj renaming cells→ο
open Or renaming inl→φ,inr→ψ
open Option renaming some→μ,none→ν
open Bool renaming true→ρ,false→θ
open Go renaming World→ω,Value→υ
open Go.World renaming grownBy→γ,cell?→κ,frozen?→χ,setCell→ζ
attribute[local go_sem↓]Go.wp_at_zero Go.wp_at_succ
variable{H:Act}{C c:Array υ}{u:Exit->Act->ω->Prop}{I:Fr}{b k l m n o:Nat}{S:Nat->Prop}{U:Oper}{G:Ot}{s:Sd}{T:TypeId}{x z:υ}{V W w:ω}{d:bf}
def cH(e:Int):υ:=if e=0 then .nilIface else .iface 34 (ι δ e)
def xG:cH 0=.nilIface:=rfl
def uT(w:ω)(sb:Nat)(cQ:Int)(mH:κ w ⟨sb,99,ν⟩=μ (ι δ cQ)):Calls prog 155 #[π (μ ⟨sb,0,ν⟩)] w λr a=>r=ξ (β (decide (cQ≠0)))/\γ w a ν:=by
 by_cases h:cQ=0
 ·subst h;go_enter func155,ntmps155;go_wp2;go_ret;exact⟨rfl,aD _ _⟩
 have e:(cQ !=0)=ρ:=by simpa using h
 have d:decide (cQ≠0)=ρ:=by simpa using h
 rw[d];clear d;go_enter func155,ntmps155;go_wp2;go_ret;exact⟨rfl,aD _ _⟩
def kS(cQ k:Int):Int:=if cQ≠0 then 9 else if k<0\/4<=k then 2 else 0
def xH(w:ω)(sb:Nat)(cQ k:Int)(mH:κ w ⟨sb,99,ν⟩=μ (ι δ cQ)):Calls prog 152 #[π (μ ⟨sb,0,ν⟩),ι δ k] w λr i=>r=ξ (cH (kS cQ k))/\γ w i ν:=by
 have b:=J (uT w sb cQ mH);by_cases h:cQ=0
 ·have d:decide (cQ≠0)=θ:=by simpa using h
  rw[d]at b;by_cases c:k<0
  ·have e1:decide (k<0)=ρ:=eT c;have e:kS cQ k=2:=by unfold kS;simp[h,c]
   rw[e];replace h:=J h;go_enter func152,ntmps152;go_wp2_with fail;apply(Z b).mono;rintro e g⟨rfl,a⟩;go_wp2;go_ret;exact⟨rfl,a⟩
  have e1:decide (k<0)=θ:=fc c;by_cases f:4<=k
  ·have e2:decide (k≥4)=ρ:=eT f;have e:kS cQ k=2:=by unfold kS;simp[h,f]
   rw[e];replace h:=J h;go_enter func152,ntmps152;go_wp2_with fail;apply(Z b).mono;rintro e g⟨rfl,a⟩;go_wp2;go_ret;exact⟨rfl,a⟩
  have e2:decide (k≥4)=θ:=fc f;have e:kS cQ k=0:=by unfold kS;simp[h,c,f]
  rw[e];replace h:=J h;go_enter func152,ntmps152;go_wp2_with fail;apply(Z b).mono;rintro e g⟨rfl,a⟩;go_wp2;go_ret;exact⟨rfl,a⟩
 have d:decide (cQ≠0)=ρ:=by simpa using h
 rw[d]at b;have e:kS cQ k=9:=by unfold kS;simp[h]
 rw[e];replace h:=J h;go_enter func152,ntmps152;go_wp2_with fail;apply(Z b).mono;rintro e g⟨rfl,a⟩;go_wp2;go_ret;exact⟨rfl,a⟩
def qe(k:Nat):19+k*9=19+9*k:=by omega
def uU(k:Nat):55+k*9=55+9*k:=by omega
def CE(w:ω)(sb:Nat)(k:Nat)(l:k<4)(o:Ot)(mH:κ w ⟨sb,99,ν⟩=μ (ι δ 0))(T:kn w sb (19+9*k) o):Calls prog 149 #[π (μ ⟨sb,0,ν⟩),ι δ k] w λr f=>r=ξ (if o.sE||o.sG then τ #[π ν,cH 3]else τ #[π (μ ⟨sb,19+9*k,ν⟩),.nilIface])/\γ w f ν:=by
 have c:=J (xH w sb 0 k mH);have e:kS 0 (k:Int)=0:=by unfold kS;simp;omega
 rw[e,xG]at c;have a:=J (λW(g:γ w W ν)=>Ih W sb (19+9*k) o (T.au g));rw[<-qe]at a⊢;have h:(k:Int)<4:=by omega
 have d1:decide ((k:Int)<4)=ρ:=eT h;clear e;cases hd:(o.sE||o.sG)
 ·rw[hd]at a;go_enter func149,ntmps149;go_wp2_with fail;apply(Z c).mono;rintro e i⟨rfl,b⟩;go_wp2_with fail;apply(Z a _ b).mono;rintro e j⟨rfl,d⟩;go_wp2_with fail;exact df (v:=τ #[π (μ ⟨sb,19+k*9,ν⟩),.nilIface]) (by simp[results,results149,go_sem,cH]) rfl ⟨rfl,aq b d⟩
 rw[hd]at a;go_enter func149,ntmps149;go_wp2_with fail;apply(Z c).mono;rintro e i⟨rfl,b⟩;go_wp2_with fail;apply(Z a _ b).mono;rintro e j⟨rfl,d⟩;go_wp2_with fail;exact df (v:=τ #[π ν,cH 3]) (by simp[results,results149,go_sem,cH]) rfl ⟨rfl,aq b d⟩
def bI.qg(H:bI w n k c d s):κ w ⟨k,99,ν⟩=μ (ι δ 0):=(aZ H.aV _).trans H.mH
def Ot.wrote(o:Ot)(l:List Int)(ag:Int):Ot:={o with h:={o.h with bytes:=o.h.bytes++l.take (o.fT l.length ag)}}
def Sd.write(s:Sd)(k:Nat)(l:List Int):Int×Int×Sd:=
 if(s.out k).sE||(s.out k).sG then(0,3,s)else((s.out k).fT l.length s.ag,0,{s with out:=ah s.out k ((s.out k).wrote l s.ag)})
def Jv(w:ω)(i sb:Nat)(cs:Array υ)(v:bf)(s:Sd)(H:bI w i sb cs v s)(k:Nat)(c:k<4)(d:Option Addr)(nx f:Nat)(l:List Int)(hl:bN w d nx f l)(p:(s.out k).h.nice)(q:((s.out k).h.bytes.length:Int)<=s.ag/\s.ag<=1000000)(t:(s.out k).h.fr+(s.out k).h.bytes.length<=4096):
 Calls prog 126 #[π (μ ⟨sb,0,ν⟩),ι δ k,σ d nx f] w λr j=>r=ξ (τ #[ι δ (s.write k l).1,cH (s.write k l).2.1])/\eF w.heap.size w i sb v (s.write k l).2.2 j:=by
 have m:=H.out k c;have a:=J (CE w sb k c (s.out k) H.qg (m.tail H.aV));have u:=J (λW(g:γ w W ν)=>Js (bE H.aV g) (m.au g) p (bK H.aI g.size) ((H.au g).xE k c) d nx f l (hl.au g) s.ag q t);have x:=J (λW y(g:γ w W ν) o h=>eF.pre (N:=w.heap.size) (dz.au g) (((H.au g).xF (W:=y) k c o h).mono g.size));have c1:=(aZ H.aV _).trans H.c1;have z:=J (λW(g:γ w W ν)=>H.to (N:=w.heap.size) g);unfold Sd.write;cases hd:((s.out k).sE||(s.out k).sG)
 ·rw[hd]at a;simp only[eN,eA]at a⊢;replace H:=J H;go_enter func126,ntmps126;go_wp2_with fail;apply(Z a).mono;rintro e A⟨rfl,b⟩;have C:=gC_ b c1;go_wp2_with fail;apply(Z u _ b).mono;rintro e D⟨rfl,n⟩;have B:=J (Z x _ _ b _ n);clear n;go_wp2_with fail;exact df (v:=τ #[ι δ ((s.out k).fT l.length s.ag),.nilIface]) (by simp[results,results126,go_sem,cH]) rfl ⟨rfl,Z B⟩
 rw[hd]at a;simp only[dC]at a⊢;rw[show cH 3=.iface 34 (ι δ 3)from rfl]at a;replace H:=J H;go_enter func126,ntmps126;go_wp2_with fail;apply(Z a).mono;rintro e A⟨rfl,b⟩;go_wp2_with fail;exact df (v:=τ #[ι δ 0,cH 3]) (by simp[results,results126,go_sem,cH]) rfl ⟨rfl,Z z _ b⟩
def Sd.finish(s:Sd)(k:Nat):Int×Sd:=
 if(s.out k).sE||(s.out k).sG then(3,s)else(0,{s with out:=ah s.out k {s.out k with sE:=ρ}})
def Jw(w:ω)(d sb:Nat)(cs:Array υ)(v:bf)(s:Sd)(H:bI w d sb cs v s)(k:Nat)(b:k<4):
 Calls prog 127 #[π (μ ⟨sb,0,ν⟩),ι δ k] w λr f=>r=ξ (cH (s.finish k).1)/\eF w.heap.size w d sb v (s.finish k).2 f:=by
 have i:=H.out k b;have a:=J (CE w sb k b (s.out k) H.qg (i.tail H.aV));have l:=J (λW(g:γ w W ν)=>xD (bE H.aV g) (i.au g) ((H.au g).xE k b));have m:=J (λW n(g:γ w W ν) o h=>eF.pre (N:=w.heap.size) (dz.au g) (((H.au g).xF (W:=n) k b o h).mono g.size));have p:=J (λW(g:γ w W ν)=>H.to (N:=w.heap.size) g);unfold Sd.finish;cases hd:((s.out k).sE||(s.out k).sG)
 ·rw[hd]at a;simp only[eN,eA]at a⊢;replace H:=J H;go_enter func127,ntmps127;go_wp2_with fail;apply(Z a).mono;rintro e q⟨rfl,c⟩;go_wp2_with fail;apply(Z l _ c).mono;rintro e u⟨rfl,j⟩;have t:=J (Z m _ _ c _ j);clear j;go_wp2;go_ret;exact⟨rfl,Z t⟩
 rw[hd]at a;simp only[dC]at a⊢;rw[show cH 3=.iface 34 (ι δ 3)from rfl]at a;replace H:=J H;go_enter func127,ntmps127;go_wp2_with fail;apply(Z a).mono;rintro e q⟨rfl,c⟩;go_wp2;go_ret;exact⟨rfl,Z p _ c⟩
def Ot.giveUp(o:Ot)(code:Int):Ot:={o with sE:=θ,sG:=ρ,code:=code,h:={o.h with bytes:=[]}}
def Sd.giveUp(s:Sd)(k:Nat)(code:Int):Int×Sd:=
 if(s.out k).sG=ρ\/4611686018427387903<code then(3,s)else(0,{s with out:=ah s.out k ((s.out k).giveUp code)})
def Jy(w:ω)(l sb:Nat)(cs:Array υ)(v:bf)(s:Sd)(H:bI w l sb cs v s)(k:Nat)(f:k<4)(code:Int)(x:aW code):
 Calls prog 128 #[π (μ ⟨sb,0,ν⟩),ι δ k,ι η code] w λr m=>r=ξ (cH (s.giveUp k code).1)/\eF w.heap.size w l sb v (s.giveUp k code).2 m:=by
 have n:=H.out k f;have d:=J (xH w sb 0 (k:Int) H.qg);have e:kS 0 (k:Int)=0:=by unfold kS;simp;omega
 rw[e,xG]at d;clear e;have b:=J (λW(g:γ w W ν)=>zt W sb (19+9*k) (s.out k) ((n.tail H.aV).au g));have p:=J (λW(g:γ w W ν)=>Jr (bE H.aV g) (n.au g) ((H.au g).xE k f) code x);have y:=J (λW z(g:γ w W ν) o h=>eF.pre (N:=w.heap.size) (dz.au g) (((H.au g).xF (W:=z) k f o h).mono g.size));have q:=J (λW(g:γ w W ν)=>H.to (N:=w.heap.size) g);have A:(k:Int)<4:=by omega
 have d1:decide ((k:Int)<4)=ρ:=eT A;rw[<-qe]at b p;unfold Sd.giveUp;cases hd:(s.out k).sG
 ·rw[hd]at b;by_cases i:4611686018427387903<code
  ·have d2:decide (code>4611686018427387903)=ρ:=eT i;rw[aG (ψ i)];replace H:=J H;go_enter func128,ntmps128;go_wp2_with fail;apply(Z d).mono;rintro e t⟨rfl,a⟩;go_wp2_with fail;apply(Z b _ a).mono;rintro e u⟨rfl,c⟩;go_wp2;go_ret;exact⟨rfl,Z q _ (aq a c)⟩
  have d2:decide (code>4611686018427387903)=θ:=fc i;rw[aB (by simp;omega)];replace H:=J H;go_enter func128,ntmps128;go_wp2_with fail;apply(Z d).mono;rintro e t⟨rfl,a⟩;go_wp2_with fail;apply(Z b _ a).mono;rintro e u⟨rfl,c⟩;go_wp2_with fail;apply(Z p _ (aq a c)).mono;rintro e C⟨rfl,j⟩;rw[qe]at j;have B:=J (Z y _ _ (aq a c) _ j);clear j;go_wp2;go_ret;exact⟨rfl,Z B⟩
 rw[hd]at b;rw[aG (φ rfl)];replace H:=J H;go_enter func128,ntmps128;go_wp2_with fail;apply(Z d).mono;rintro e t⟨rfl,a⟩;go_wp2_with fail;apply(Z b _ a).mono;rintro e u⟨rfl,c⟩;go_wp2;go_ret;exact⟨rfl,Z q _ (aq a c)⟩
def Jz(w:ω)(d sb:Nat)(cs:Array υ)(v:bf)(s:Sd)(H:bI w d sb cs v s)(k:Nat)(f:k<4)(i:0<=(s.out k).h.fr/\(s.out k).h.fr<=4611686018427387903):
 Calls prog 134 #[π (μ ⟨sb,0,ν⟩),ι δ k] w λr j=>r=ξ (τ #[ι δ (s.out k).h.fr,.nilIface])/\γ w j ν:=by
 have l:=H.out k f;have a:=J (xH w sb 0 (k:Int) H.qg);have e:kS 0 (k:Int)=0:=by unfold kS;simp;omega
 rw[e,xG]at a;clear e;have b:=J (λW(g:γ w W ν)=>Ik W sb (19+9*k) (s.out k).h.fr (g.cell ((aZ H.aV _).trans l.c0) (by simp)) i);have m:(k:Int)<4:=by omega
 have d1:decide ((k:Int)<4)=ρ:=eT m;rw[<-qe]at b;replace H:=J H;go_enter func134,ntmps134;go_wp2_with fail;apply(Z a).mono;rintro e p⟨rfl,c⟩;go_wp2_with fail;apply(Z b _ c).mono;rintro e q⟨rfl,n⟩;go_wp2_with fail;exact df (v:=τ #[ι δ (s.out k).h.fr,.nilIface]) (by simp[results,results134,go_sem,cH]) rfl ⟨rfl,aq c n⟩
def JA(w:ω)(f sb:Nat)(cs:Array υ)(v:bf)(s:Sd)(H:bI w f sb cs v s)(k:Nat)(m:k<4)(aH:Int)(z:(s.aF k).h.nice)(A:0<=cL (s.aF k).h/\cL (s.aF k).h<=(s.aF k).h.bytes.length):
 Calls prog 132 #[π (μ ⟨sb,0,ν⟩),ι δ k,ι δ aH] w λr d=>∃a n c,r=ξ (τ #[σ a n c,ι δ ((s.aF k).state aH),ι η (s.aF k).jB,.nilIface])/\bn d w.heap.size (σ a n c) ((s.aF k).out aH)/\∃b,γ w b ν/\(∀j,(Value.slice a n c).ownBlock=μ j->j<b.heap.size)/\eF b.heap.size b f sb v {s with aF:=ah s.aF k ((s.aF k).read aH)} d:=by
 obtain⟨R,i⟩:∃R:Ending->ω->Prop,R=λr d=>∃a n c,r=ξ (τ #[σ a n c,ι δ ((s.aF k).state aH),ι η (s.aF k).jB,.nilIface])/\bn d w.heap.size (σ a n c) ((s.aF k).out aH)/\∃b,γ w b ν/\(∀j,(Value.slice a n c).ownBlock=μ j->j<b.heap.size)/\eF b.heap.size b f sb v {s with aF:=ah s.aF k ((s.aF k).read aH)} d:=⟨_,rfl⟩
 rw[<-i];replace i:=J i;have B:=H.aF k m;have t:=J (xH w sb 0 (k:Int) H.qg);have e:kS 0 (k:Int)=0:=by unfold kS;simp;omega
 rw[e,xG]at t;clear e;have u:=J (λW(g:γ w W ν)=>IJ W sb (55+9*k) f cs 241 _ _ (s.aF k) (bE H.aV g) (B.au g) z (bK H.aI g.size) ((H.au g).zK k m) aH A);have C:=J (λW D(g:γ w W ν) o h=>(H.au g).zL (W:=D) k m o h);have E:(k:Int)<4:=by omega
 have d1:decide ((k:Int)<4)=ρ:=eT E;rw[<-uU]at u;replace H:=J H;go_enter func132,ntmps132;go_wp2_with fail;apply(Z t).mono;rintro e I⟨rfl,l⟩;go_wp2_with fail;apply(Z u _ l).mono;rintro e F⟨a,n,c,b,rfl,x,p,y,q⟩;rw[uU]at q;have G:Hid (R (ξ (τ #[σ a n c,ι δ ((s.aF k).state aH),ι η (s.aF k).jB,.nilIface])) F):=J (by
  rw[Z i];exact⟨a,n,c,rfl,x.low l.size,b,aq l p,y,Z C _ _ (aq l p) _ q⟩)
 clear q x p y;go_wp2_with fail;exact df (v:=τ #[σ a n c,ι δ ((s.aF k).state aH),ι η (s.aF k).jB,.nilIface]) (by simp[results,results132,go_sem,cH]) rfl (Z G)
def JE(f:w.heap[l]?=μ (ο C T (0,0)))(H:gP w n C b z x G)(v:G.h.nice)(A:n<=w.heap.size)(u:kO w l z x)(a:Rg)(p q:Bool)(B:a.ok)(D:zx G.h a)(E:G.h.af.length<100000):
 Calls prog 252 #[π (μ ⟨l,b,ν⟩),ε #[ι η a.lo,ι η a.hi,β p,β q]] w λr s=>r=ξ (τ #[])/\
  ∃(d:List Rg)(k:Nat),(k:Int)=cL ⟨G.h.fr,G.h.bytes,d⟩/\aU d/\d.length<=G.h.af.length+1/\(∀m,Sm d m↔Sm G.h.af m\/(a.lo<=m/\m<a.hi))/\oM w s l T C b n z x {G with tE:=G.tE||p,tG:=G.tG||q,h:=⟨G.h.fr+k,G.h.bytes.drop k,d⟩}/\γ w s (μ l):=by
 obtain⟨ab,nb,cb,ac,nc,cc,rfl,rfl⟩:=H.nT;refine(Iv w l b C T ab nb cb ac nc cc G f (H.hd f v) (H.tail f) a p q B (λy e e2=>u.1 (by rw[e,<-e2];rfl)) (λy e=>(u.2 y nc cc (by rw[e])).1) D E).mono ?_;rintro r s⟨rfl,F,I,K,d,L,M,k,N,O,P,Q,g,R,ho,S,t⟩;have U:=ia H.c8;refine⟨rfl,d,k,N,O,P,Q,⟨_,σ L (G.h.bytes.drop k).length M,σ F I K,⟨R,by simp,λi hi=>?_,(ay.of g).mono (λk _ e=>φ (aQ e).symm),ψ (λj e=>?_)⟩,⟨?_,?_,?_,?_,?_,?_,?_,?_,?_,ho.low A,⟨_,_,_,rfl,S⟩,H.qc⟩,?_⟩,g⟩
 rw[bH,bH,bH,bH,bH];exact(ho.lt j e).1;rw[bH,bH,bH];exact cJ (by simp;omega);rw[bH,bH];exact cJ (by simp;omega);rw[bH,bH,bH,bH];exact cJ;rw[bH,bH,bH,bH,bH];exact H.c3;rw[bH,bH,bH,bH,bH];exact H.c4;rw[bH,bH,bH,bH,bH];exact H.c5;rw[bH];exact cJ (by simp;omega);exact cJ (by simp;omega);rw[bH,bH,bH,bH,bH];exact H.c8;obtain⟨rfl,rfl,rfl⟩|t:=t
 exact φ rfl;refine ψ (λy V c e=>?_);have e2:=(jy e).1;exact t y e2
def JF(d:w.heap[n]?=μ (ο c T (0,0)))(H:gP w m c l z x G)(q:G.h.nice)(b:kO w n z x)(k:Int)(a:Rg)(f:Bool)(i j:Nat)(hi:i<=j)(s:j<=G.h.bytes.length)(t:a.lo=G.h.fr+i)(u:a.hi=G.h.fr+j)(v:aW a.hi):
 Calls prog 243 #[π (μ ⟨n,l,ν⟩),ι δ k,ε #[ι η a.lo,ι η a.hi,β f,β θ]] w λe p=>e=ξ (ε #[ι δ 5,ι δ k,ι η a.lo,ι η 0,β f,ς (strOfNums ((G.h.bytes.drop i).take (j-i))),σ ν 0 0])/\oM w p n T c l m z x {G with av:=max G.av a.hi}:=by
 obtain⟨ab,nb,cb,ac,nc,cc,rfl,rfl⟩:=H.nT;refine(JD w n l c T ab nb cb ac nc cc G d (H.hd d q) (H.tail d) k a f i j hi s t u (λy e e2=>b.1 (by rw[e,<-e2];rfl)) (λy e=>(b.2 y nc cc (by rw[e])).1)).mono ?_;rintro r p⟨rfl,g,A⟩;have B:aW (max G.av a.hi):=by
  obtain h|h:=Int.le_total G.av a.hi
  rw[Int.max_eq_right h];exact v;rw[Int.max_eq_left h];exact H.qc.1
 refine⟨rfl,_,_,_,⟨A,by simp,λi hi=>bH,(ay.of g).mono (λk _ e=>φ (aQ e).symm),φ rfl⟩,⟨?_,?_,?_,cJ (ia H.c3),?_,?_,?_,?_,?_,H.own.gb g (ψ b.1),⟨ac,nc,cc,rfl,(xC H.set).gb g (λy e e2=>(b.2 y nc cc (by rw[e])).1 (aQ e2).symm)⟩,⟨B,H.qc.2⟩⟩,φ rfl⟩
 rw[bH];exact H.c0;rw[bH];exact H.c1;rw[bH];exact H.c2;rw[bH];exact H.c4;rw[bH];exact H.c5;rw[bH];exact H.c6;rw[bH];exact H.c7;rw[bH];exact H.c8
def ql{a:Array Oper}{rest:List Oper}(d:U.guard=ν)(T ty:TypeId)(e:U.type=ty)(s x:Operand)
 (ho:U.op=.call {callee:=.builtin .append,args:= #[s,x],argTypes:= #[T,T]}) (v b c:υ) (hs:H.eval s=v) (f:H.eval x=b)
 (g:(Builtin.append_ #[T,T] ty #[v,b]).run prog w=.ok c W) (h:wpList prog a u rest (H.put U.dst c) W):wpList prog a u (U::rest) H w:=
 uy d λ_ i=>by
  unfold Oper.wp execOp;simp only[ho,resolve,invoke,builtin,ka,mX,jh,oF,kM,nI,hs,f,e,g]
  exact i _ _ h
def Dk{a:Array Oper}{K:Act->ω->Prop}{E:Prop}(d:U.guard=ν)(T ty:TypeId)(e:U.type=ty)(s x:Operand)
 (ho:U.op=.call {callee:=.builtin .append,args:= #[s,x],argTypes:= #[T,T]}) (v b c:υ) (hs:H.eval s=v) (f:H.eval x=b)
 (g:(Builtin.append_ #[T,T] ty #[v,b]).run prog w=.ok c W) (h:K (H.put U.dst c) W):if Region.wanted U (yielded a H.tmps)=ρ then Oper.wp prog U H w K u else E:=by
 have i:Region.wanted U (yielded a H.tmps)=ρ:=by simp[Region.wanted,d]
 rw[aG i];unfold Oper.wp execOp;simp only[ho,resolve,invoke,builtin,ka,mX,jh,oF,kM,nI,hs,f,e,g]
 exact h
def iD(w:ω)(a:Nat)(v:υ)(l:List Pc):Prop:=(∀p∈l,p.x.ok)/\w.ownsRow a 377 4 v l.length (gF l)
def KK:(prog.info? 377).map (λi=>(i.zero,i.size,i.bytes))=μ (μ (ε #[ι η 0,ι η 0,β θ,β θ]),4,24):=by kernel_rfl
def iD.nil(w:ω)(a:Nat):iD w a (σ ν 0 0) []:=⟨λp hp=>(by cases hp),rfl,φ ⟨rfl,rfl⟩⟩
def iD.lt{l:List Pc}(h:iD w n x l):∀k,x.ownBlock=μ k->n<=k/\k<w.heap.size:=h.2.lt
def iD.aA{l:List Pc}(h:iD w n x l)(C:ay w W S)(c:∀k,x.ownBlock=μ k->¬S k):iD W n x l:=by
 obtain⟨h0,d,a⟩:=h;refine⟨h0,d,?_⟩
 obtain a|⟨g,cap,cur,e1,e2,b,e⟩:=a
 exact φ a;exact ψ ⟨g,cap,cur,e1,e2,(C.block g (bg.1 b).1 (c g (by rw[e1];rfl))).trans b,e⟩
def iD.au{l:List Pc}(h:iD w n x l)(g:γ w W ν):iD W n x l:=h.aA (ay.of g) (λk _ e=>by cases e)
def iD.Dl{l:List Pc}(h:iD w n x l):∃a cap,x=σ a l.length cap/\kP w a l.length cap l/\∀y,a=μ y->x.ownBlock=μ y.block:=by
 obtain⟨h0,r,⟨e,d⟩|⟨g,cap,f,e1,e2,i,k,m,s,p⟩⟩:=h;exact⟨ν,0,by rw[d];exact e,⟨h0,rfl,by omega,by simp[maxLen],φ rfl⟩,λy b=>by cases b⟩
 refine⟨μ ⟨g,0,ν⟩,cap,e1,⟨h0,rfl,k,m,ψ ⟨g,0,rfl,λj u c=>?_⟩⟩,λy b=>by cases b;rw[e1];rfl⟩
 rw[ep,aZ i];have q:j<l.length*4:=by rw[<-IX];exact(lA.1 c).1
 have:f.toList[j]?=(gF l)[j]? :=by rw[<-p,jK,aG q]
 rw[qF]at this;rw[this];exact c
def KL(l:List Pc):∀u∈gF l,u.oneCell'=ρ:=by
 intro u a;unfold gF at a;obtain⟨p,-,hp⟩:=sM.1 a;simp[rQ]at hp;obtain rfl|rfl|rfl|rfl:=hp<;>rfl
def KM(ty:TypeId)(d:Nat)(v:υ)(l:List Pc)(k:iD w d v l)(b c:Nat)(x:Pc)(r:x.x.ok)(h0:w.rangeAt b 0 (rQ x))(E:l.length<=100000000)(s:d<=w.heap.size):
 ∃e f h a,(Builtin.append_ #[323,323] ty #[v,σ (μ ⟨b,0,ν⟩) 1 c]).run prog w=.ok (σ e f h) a/\iD a d (σ e f h) (l++[x])/\γ w a v.ownBlock/\((Value.slice e f h).ownBlock=v.ownBlock\/(Value.slice e f h).ownBlock=μ w.heap.size):=by
 obtain⟨t,hi,y,z,A⟩:=lU KK;obtain⟨B,a,m,C,n,_,q⟩:=run_append_own_at (P:=prog) w d 323 ty 377 t _ 4 24 underlying323 hi y z A rfl (by decide) v l.length (gF l) k.2 ⟨b,0,ν⟩ 1 c (gF [x]) (by simp[gF,rQ]) (by
  intro j u D;rw[Addr.add_mid];exact h0 j u (by simpa [gF]using D)) (KL _) (by simp[maxLen];omega) (by omega) s
 have i:iD a d B (l++[x]):=⟨λp hp=>by
  obtain hp|hp:=bL.1 hp
  exact k.1 p hp
  ·rw[cA.1 hp];exact r,by rw[bF,show gF (l++[x])=gF l++gF [x] by simp[gF]];exact C⟩
 obtain⟨-,-,⟨rfl,e2⟩|⟨g,cap,F,rfl,_⟩⟩:=id i;exact⟨_,_,_,a,m,i,n,q⟩
 exact⟨_,_,_,a,m,i,n,q⟩
abbrev El:=Nat×List Int
def ks(e:El):υ:=σ (μ ⟨e.1,0,ν⟩) e.2.length e.2.length
def gK(w:ω)(a:Nat)(v:υ)(l:List El):Prop:=w.ownsRow a 112 1 v l.length (l.map ks)
structure jS(w:ω)(N:Nat)(l:List El):Prop where
 at_:∀e∈l,N<=e.1/\(∀x∈e.2,W8 x)/\w.heap[e.1]?=μ (ο (bv e.2).toArray 5 (0,0))
 sep:l.Pairwise (λa b=>a.1≠b.1)
def jS.nil(w:ω)(N:Nat):jS w N []:=⟨λe a=>(by cases a),.nil⟩
def jS.aA{l:List El}(h:jS w n l)(C:ay w W S)(b:∀e∈l,¬S e.1):jS W n l:=
 ⟨λe a=>⟨(h.at_ e a).1,(h.at_ e a).2.1,(C.block e.1 (bg.1 (h.at_ e a).2.2).1 (b e a)).trans (h.at_ e a).2.2⟩,h.sep⟩
def jS.lt{l:List El}(h:jS w n l){e:El}(a:e∈l):e.1<w.heap.size:=(bg.1 (h.at_ e a).2.2).1
def jS.app{l m:List El}(h:jS w n l)(k:jS w n m)(hd:∀a∈l,∀b∈m,a.1≠b.1):jS w n (l++m):=
 ⟨λe c=>(bL.1 c).elim (h.at_ e) (k.at_ e),uj.2 ⟨h.sep,k.sep,hd⟩⟩
def Dm:(prog.info? 112).map (λi=>(i.zero,i.size,i.bytes))=μ (μ (σ ν 0 0),1,24):=by kernel_rfl
def gK.nil(w:ω)(a:Nat):gK w a (σ ν 0 0) []:=⟨rfl,φ ⟨rfl,rfl⟩⟩
def gK.lt{l:List El}(h:gK w n x l):∀k,x.ownBlock=μ k->n<=k/\k<w.heap.size:=World.ownsRow.lt h
def gK.aA{l:List El}(h:gK w n x l)(C:ay w W S)(c:∀k,x.ownBlock=μ k->¬S k):gK W n x l:=by
 obtain⟨d,a⟩:=h;refine⟨d,?_⟩
 obtain a|⟨g,cap,cur,e1,e2,b,e⟩:=a
 exact φ a;exact ψ ⟨g,cap,cur,e1,e2,(C.block g (bg.1 b).1 (c g (by rw[e1];rfl))).trans b,e⟩
def gK.low{b2:Nat}{l:List El}(h:gK w n x l)(d:b2<=n):gK w b2 x l:=by
 obtain⟨b,a⟩:=h;refine⟨b,?_⟩
 obtain a|⟨g,cap,cur,e1,e2,c⟩:=a
 exact φ a;exact ψ ⟨g,cap,cur,e1,by omega,c⟩
def gK.gR{l:List El}(h:gK w n x l):∃a cap,x=σ a l.length cap/\l.length<=cap/\cap<=maxLen/\(a=ν->l=[]/\cap=0)/\(∀y,a=μ y->x.ownBlock=μ y.block/\y=⟨y.block,0,ν⟩/\w.rangeAt y.block 0 (l.map ks)):=by
 obtain⟨s,⟨d,h0⟩|⟨g,f,i,e1,e2,k,m,p,t,q⟩⟩:=h;exact⟨ν,0,by rw[h0];exact d,by omega,by simp[maxLen],λ_=>⟨kJ h0,rfl⟩,λy b=>by cases b⟩
 refine⟨_,f,e1,m,p,λe=>(by cases e),λy b=>?_⟩
 cases b;refine⟨by rw[e1];rfl,rfl,λj u c=>?_⟩
 rw[ep,aZ k];have r:j<l.length*1:=by have:=(lA.1 c).1;simpa using this
 have:i.toList[j]?=(l.map ks)[j]? :=by rw[<-q,jK,aG r]
 rw[qF]at this;rw[this];exact c
def zY(ty:TypeId)(b:Nat)(v:υ)(l:List El)(q:gK w b v l)(y:Addr)(c:Nat)(m:List El)(h0:∀j u,(m.map ks)[j]?=μ u->κ w (y.add j)=μ u)(D:l.length+m.length<=100000000)(r:b<=w.heap.size):
 ∃d f h a,(Builtin.append_ #[206,206] ty #[v,σ (μ y) m.length c]).run prog w=.ok (σ d f h) a/\gK a b (σ d f h) (l++m)/\γ w a v.ownBlock/\((Value.slice d f h).ownBlock=v.ownBlock\/(Value.slice d f h).ownBlock=μ w.heap.size):=by
 obtain⟨s,hi,t,x,z⟩:=lU Dm;obtain⟨A,a,k,B,n,_,p⟩:=run_append_own_at (P:=prog) w b 206 ty 112 s _ 1 24 underlying206 hi t x z rfl (by decide) v l.length (l.map ks) q y m.length c (m.map ks) (by simp) h0 (λu C=>by
  obtain⟨e,-,rfl⟩:=eU.1 C;rfl) (by simp[maxLen];omega) (by omega) r
 have i:gK a b A (l++m):=by
  unfold gK;rw[bF,mV];exact B
 obtain⟨-,⟨rfl,e2⟩|⟨g,cap,E,rfl,_⟩⟩:=id i;exact⟨_,_,_,a,k,i,n,p⟩
 exact⟨_,_,_,a,k,i,n,p⟩
def KN(ty:TypeId)(b:Nat)(v:υ)(l:List El)(c:gK w b v l)(n:Nat)(x:υ)(m:List El)(p:gK w n x m)(q:l.length+m.length<=100000000)(r:b<=w.heap.size):
 ∃d f h k,(Builtin.append_ #[206,206] ty #[v,x]).run prog w=.ok (σ d f h) k/\gK k b (σ d f h) (l++m)/\γ w k v.ownBlock/\((Value.slice d f h).ownBlock=v.ownBlock\/(Value.slice d f h).ownBlock=μ w.heap.size):=by
 obtain⟨a,cap,rfl,D,E,s,t⟩:=p.gR;cases a with
 |some y=>
  obtain⟨-,e,i⟩:=t y rfl;refine zY ty b v l c y cap m (λj u z=>?_) q r;rw[e,Addr.add_mid];exact i j u z
 |none=>
  obtain⟨A,B⟩:=s rfl;subst A B;obtain⟨C,hi,F,G,H⟩:=lU Dm;have i:=run_append_owned_none (P:=prog) (w:=w) b 206 ty 112 C 1 underlying206 hi v _ _ c;rw[mW];obtain⟨-,⟨rfl,e2⟩|⟨g,cap,I,rfl,_⟩⟩:=id c;exact⟨_,_,_,w,i,c,aD _ _,φ rfl⟩
  exact⟨_,_,_,w,i,c,aD _ _,φ rfl⟩
def KO(c:w.heap[b]?=μ (ο (bU I x) T (0,0)))(d:dL w I x)(f:1<=n)(g:n<=maxLen):qW w (μ ⟨b,0,ν⟩) 1 n [I]:=by
 refine⟨rfl,f,g,ψ ⟨b,0,rfl,λi hi=>?_⟩⟩
 have:i=0:=by simp at hi;omega
 subst this;refine⟨x,d,λj u a=>?_⟩
 have e:nd [I] 0=I:=rfl;rw[e]at a;rw[oH,ep,aZ c];have:bU I x=(kj I x).toArray:=rfl;rw[this];simpa using a
def Dp(w:ω)(f:Fr)(d:υ)(v:dL w f d)(hs:cO f)(x:gN [f]<=30000000):
 Calls prog 206 #[ε (bU f d)] w λe j=>(∃a n c,e=ξ (σ a n c)/\bn j w.heap.size (σ a n c) (bA [f]))/\γ w j ν:=by
 have y:=J (λW a n cap(g:γ w W ν)(h:qW W a n cap [f])=>Kb W a n cap [f] h x);have F:uV [f]:=⟨by simp,λi hi=>by
  have:i=0:=by simp at hi;omega
  subst this;exact hs⟩
 have z:=J (λ(W:ω)(b:Nat)(g:γ w W ν)(h:W.heap[b]?=μ (ο (bU f d) 158 (0,0)))=>KO (n:=1) h (v.au g) (by omega) (by simp[maxLen]));obtain⟨R,l⟩:∃R:Ending->ω->Prop,R=λe j=>(∃a n c,e=ξ (σ a n c)/\bn j w.heap.size (σ a n c) (bA [f]))/\γ w j ν:=⟨_,rfl⟩
 rw[<-l];replace l:=J l;obtain⟨k,m⟩:=exq (w.alloc (ο (bU f d) 158));have s:γ w k ν:=by rw[m];exact aJ _ _ _
 have t:k.heap[w.heap.size]?=μ (ο (bU f d) 158 (0,0)):=by rw[m];exact aO _ _
 obtain⟨p,q⟩:=exq (k.alloc (ο (bU f d) 158));have u:γ k p ν:=by rw[q];exact aJ _ _ _
 have r:p.heap[k.heap.size]?=μ (ο (bU f d) 158 (0,0)):=by rw[q];exact aO _ _
 have G:=J (Z y p _ _ _ (aq s u) (Z z p _ (aq s u) r));have A:=aq s u;replace r:=J r;clear y z v hs x;obtain⟨kind,stream,offset,code,fin,data,ranges⟩:=f;unfold bU at *;simp only at *;have H:=dI t;obtain⟨N,O,P,Q,S,T,U⟩:=H;replace t:=J t;go_enter func206,ntmps206;go_upto_region 1 with fail;rw[<-m];clear m;go_wp2_with fail;rw[<-q];apply(Z G).mono;rintro e I⟨⟨-,B,C,D,rfl,E⟩|⟨K,-⟩,L⟩
 ·have M:Hid (R (ξ (σ B C D)) I):=J (by
   rw[Z l];exact⟨⟨B,C,D,rfl,E.CX A.size⟩,aq A L⟩)
  clear q r E;go_wp2_with fail;exact Z M
 exact absurd F K
def Dq(w:ω)(sb:Nat)(aj:Int)(c0:κ w ⟨sb,0,ν⟩=μ (ι δ aj))(b:16<=aj/\aj<=1000000):Calls prog 203 #[π (μ ⟨sb,0,ν⟩)] w λe a=>e=ξ (ι δ (aj-16))/\γ w a ν:=by
 have c:IntKind.i64.wrap (aj-16)=aj-16:=wI_;go_enter func203,ntmps203;go_wp2;go_ret;exact⟨rfl,aD _ _⟩
def jF{l:List υ}(h:W.rangeAt n o l/\γ w W ν)(g:γ W V ν):V.rangeAt n o l/\γ w V ν:=⟨λj v a=>gC_ g (h.1 j v a),aq h.2 g⟩
def DV(w:ω)(sb:Nat)(key:List Int)(f:Bool)(h:eP key)(i:w.rangeAt sb 2 (bv key))(iN:κ w ⟨sb,18,ν⟩=μ (β f))(n:Int)(r:aW n)(a:Option Addr)(m cap:Nat)(l:List Int)(j:bN w a m cap l)(hl:l.length<=50000000:=by omega):
 Calls prog 204 #[π (μ ⟨sb,0,ν⟩),ι η n,σ a m cap] w λe b=>
  ∃g,e=ξ (σ (μ ⟨g,0,ν⟩) (l.length+16) (l.length+16))/\w.heap.size<=g/\b.heap[g]?=μ (ο (bv (dq key (aK f) n l)).toArray 5 (0,0))/\γ w b ν:=by
 obtain⟨R,c⟩:∃R:Ending->ω->Prop,R=λe b=>∃g,e=ξ (σ (μ ⟨g,0,ν⟩) (l.length+16) (l.length+16))/\w.heap.size<=g/\b.heap[g]?=μ (ο (bv (dq key (aK f) n l)).toArray 5 (0,0))/\γ w b ν:=⟨_,rfl⟩
 rw[<-c];replace c:=J c;have s:=J (λW(g:γ w W ν)=>LS key f n a m cap l W h r (j.au g) hl);have x:(prog.info? 24).map (·.size)=μ (bv key).length:=by rw[fX,h.1];exact nJ
 have y:=underlying24;have z:=kc iN;have d:w.rangeAt sb 2 (bv key)/\γ w w ν:=⟨i,aD _ _⟩
 clear iN i j;go_enter func204,ntmps204;go_wp2_with fail;go_region_held3 (λb=>b.rangeAt sb 2 (bv key)/\γ w b ν)
  (with_reducible first|exact k|exact d|exact jF d (aY (aD _ ν)))
  (first|(go_at_call 148;apply(Z s _ (aY (aD _ ν))).mono;rintro e t⟨g,rfl,p,q,u⟩;have k:=jF (jF d (aY (aD _ ν))) u;have v:Hid (R (ξ (σ (μ ⟨g,0,ν⟩) (l.length+16) (l.length+16))) t):=J (by rw[Z c];exact⟨g,rfl,p,q,k.2⟩);clear p q))
 go_wp2_with fail;exact Z v
