import Derived.Deep.CutBlock
import Derived.Recover
import Derived.RegionDies
import Derived.Test.YtjnmokmchdfchaaGreatDoorZL2
set_option maxRecDepth 1000000
set_option maxHeartbeats 0
set_option linter.all false
namespace Go.Proofs.YtjnmokmchdfchaaGreatDoor
open Go.RowKit Tryz
open Go.Value renaming int→ι,slice→σ,bool→β,pointer→π,agg→ε,string→ς,tuple→τ
open Go.IntKind renaming i64→δ,u64→η,u8→Δ
open Go.Ending renaming returned→ξ
open Go.Obj renaming cells→ο
open Or renaming inl→φ,inr→ψ
open Option renaming some→μ,none→ν
open Bool renaming true→ρ,false→θ
open Go renaming World→ω,Value→υ
open Go.World renaming grownBy→γ,cell?→κ,frozen?→χ,setCell→ζ
attribute[local go_sem↓]Go.wp_at_zero Go.wp_at_succ
variable{H:Act}{A:Addr}{u:Exit->Act->ω->Prop}{I:Fr}{t:Int}{L:List Int}{Y:List Rg}{b i j k l m n o:Nat}{U:Oper}{a:Option Addr}{N:Option Nat}{T:TypeId}{x y z:υ}{W v w:ω}
abbrev PN:Ending:=.panicked [{v:=.iface 34 (ι δ 5),recovered:=θ}]
def cU(w:ω)(X:Nat)(sl:υ)(p st:Nat):Prop:=w.heap[X]?=μ (ο #[sl,ι δ p,ι δ st] 311 (0,0))
def uW(h:w.heap[b]?=μ (ο #[x,y,z] T (0,0))):κ w ⟨b,0,ν⟩=μ x/\κ w ⟨b,1,ν⟩=μ y/\κ w ⟨b,2,ν⟩=μ z/\∀o,χ w ⟨b,o,ν⟩=θ:=by
 simp[World.cell?,World.frozen?,h]
def cU.set{w:ω}(h:cU w n x k i)(q:Nat):cU (ζ w ⟨n,1,ν⟩ (ι δ q)) n x q i:=by
 unfold cU at *;rw[heap_set h];rfl
def BS.ko(h:BS w b o L)(n:Nat):BS w b o (L.take n):=by
 refine⟨λi hi=>?_,λx a=>h.2 x (jg a)⟩
 rw[ct]at hi;rw[h.1 i (by omega)];simp[show i<n by omega]
def BS.Kc(h:BS w b o L)(n:Nat):BS w b (o+n) (L.drop n):=by
 refine⟨λi hi=>?_,λx a=>h.2 x (iH a)⟩
 rw[dO]at hi;have:=h.1 (n+i) (by omega);rw[show o+n+i=o+(n+i) by omega,this];simp[lC]
def Kd(n x:Int)(h0:0<=n)(d:n<72057594037927936)(a:W8 x):bits .or η (n*256) x=n*256+x:=by
 obtain⟨c,f⟩:=a;obtain⟨m,rfl⟩:=qE h0;obtain⟨y,rfl⟩:=qE c;have e:((m:Int)*256)=((m*256:Nat):Int):=by omega
 rw[e,u64_or_nat _ _ (by omega) (by omega)];have:=yQ (i:=8) (b:=y) (by omega) m;rw[Nat.shiftLeft_eq]at this;rw[show m*256=m*2^8 from rfl,<-this];omega
def ts(X:Nat)(w:ω):Calls prog 188 #[π (μ ⟨X,0,ν⟩)] w λe a=>e=PN/\a=w:=by
 go_enter func188,ntmps188;go_wp2;exact⟨rfl,rfl,rfl⟩
def xL(X a o n cap:Nat)(l:List Int)(p st:Nat)(k:Nat)(r:Int)(u:r=(k:Int))(w:ω)(f:cU w X (σ (μ ⟨a,o,ν⟩) n cap) p st)(h:bN w (μ ⟨a,o,ν⟩) n cap l)(v:a≠X)(hp:p<=l.length)(hl:l.length<=100000000)(C:k<4611686018427387904:=by omega):
 Calls prog 233 #[π (μ ⟨X,0,ν⟩),ι η r] w λe d=>
  γ w d (μ X)/\((l.length-p<k/\e=PN/\cU d X (σ (μ ⟨a,o,ν⟩) n cap) p st)\/(k<=l.length-p/\∃s t,e=ξ (σ s k t)/\bN d s k t ((l.drop p).take k)/\cU d X (σ (μ ⟨a,o,ν⟩) n cap) (p+k) st)):=by
 subst u;obtain⟨D,E,F,G⟩:=uW f;have c:n=l.length:=h.2.1;have H:=h.2.2.1;have y:=h.2.2.2.1;unfold maxLen at y;have I:IntKind.i64.wrap ((n:Int)-p)=(n:Int)-(p:Int):=wI_;have K:IntKind.u64.wrap ((n:Int)-p)=(n:Int)-(p:Int):=by rw[fW];omega
 have L:IntKind.i64.wrap (k:Int)=(k:Int):=by simp[IntKind.wrap,IntKind.bits,IntKind.signed];omega
 replace c:=J c;by_cases b:l.length-p<k
 ·have e1:decide ((n:Int)-p<k)=ρ:=eT (by have:=Z c;omega);replace b:=J b;go_enter func233,ntmps233;go_wp2_with fail;go_quiet (fail);go_wp2_with (go_at_call 188;apply(ts X _).mono;rintro e d⟨rfl,rfl⟩);exact⟨rfl,dy (dv (aD _ _) _) _,φ ⟨Z b,rfl,f⟩⟩
 have e1:decide ((n:Int)-p<k)=θ:=fc (by have:=Z c;omega);have M:(0:Int)<=p:=by omega
 have N:(p:Int)<=p+(k:Int):=by omega
 have O:(p:Int)+k<=cap:=by have:=Z c;omega
 have P:IntKind.i64.wrap ((p:Int)+k)=(p:Int)+(k:Int):=wI_;replace b:=J b;by_cases i:cap=p
 ·subst i;go_enter func233,ntmps233;go_wp2_with fail;go_quiet (fail);go_wp2_with fail;go_quiet (fail);go_wp2;go_ret;obtain rfl:k=0:=by have:=Z b;have:=Z c;omega
  refine⟨dv (aM (dy (dv (aD _ _) _) _) _ _ (ψ rfl)) _,ψ ⟨by omega,μ ⟨a,o,ν⟩,0,rfl,?_,?_⟩⟩
  exact⟨λx j=>by simp at j,by simp,aP _,by simp[maxLen],ψ ⟨_,_,rfl,by simpa using BS.nil _ _ _⟩⟩
  exact cU.set (w:=w.drewN _) f (cap+0)
 have Q:(cap=p)=False:=by simp[i]
 clear i;have key:Hid (∀m:ω,γ w m (μ X)->bN m (μ ⟨a,o+p,ν⟩) k (cap-p) ((l.drop p).take k)):=J (λm g=>by
  obtain⟨z,-,-,-,⟨q,-⟩|⟨R,S,q,A⟩⟩:=h;cases q
  ·cases q;have B:=(A.gb g (λe=>v (aQ e).symm)).Kc p;exact⟨λx j=>z x (iH (jg j)),by have:=Z b;simp;omega,by have:=Z c;have:=Z b;omega,by simp[maxLen];omega,ψ ⟨_,_,rfl,B.ko k⟩⟩)
 go_enter func233,ntmps233;go_wp2_with fail;go_quiet (fail);go_wp2_with fail;go_quiet (fail);go_wp2;go_ret;refine⟨dv (aM (dy (dv (aD _ _) _) _) _ _ (ψ rfl)) _,ψ ⟨by have:=Z b;omega,μ ⟨a,o+p,ν⟩,cap-p,(by show Ending.returned (σ (μ ⟨a,o+p,ν⟩) (p+k-p) (cap-p))=_;rw[uh]),?_,?_⟩⟩
 exact Z key _ (dv (aM (dy (dv (aD _ _) _) _) _ _ (ψ rfl)) _);exact cU.set (w:=w.drewN _) f (p+k)
def Ke(h:W8 t):(fO t=1/\t/64=0)\/(fO t=2/\t/64=1)\/(fO t=4/\t/64=2)\/(fO t=8/\t/64=3):=by
 unfold W8 at h;unfold fO;by_cases a:t<64;left;simp[a];omega;by_cases b:t<128;right;left;simp[a,b];omega;by_cases c:t<192;right;right;left;simp[a,b,c];omega;right;right;right;simp[a,b,c];omega
def Kf(h:W8 t):bits .and Δ t 63=t %64:=by
 obtain⟨h0,a⟩:=h;obtain⟨m,rfl⟩:=qE h0;have e:(63:Int)=((63:Nat):Int):=rfl;rw[e,u8_and_nat _ _ (by omega) (by omega)];have:=Nat.and_two_pow_sub_one_eq_mod m 6;simp only[Nat.reducePow,Nat.reduceSub]at this;rw[this];rfl
def CZ(w:ω)(X:Nat)(sl:υ)(st:Nat)(r:Option (Int×Nat))(e:Ending)(a:ω):Prop:=
 γ w a (μ X)/\((∃v q,r=μ (v,q)/\e=ξ (ι η v)/\cU a X sl q st)\/(r=ν/\e=PN/\∃b,cU a X sl b st))
def uX(h:bN w a n k L)(d:0<n:=by omega):∃b o,a=μ ⟨b,o,ν⟩/\∀i,i<n->κ w ⟨b,o+i,ν⟩=μ (ι Δ (L.getD i 0)):=by
 obtain⟨-,e,f,-,⟨rfl,c⟩|⟨b,o,rfl,c⟩⟩:=h;omega;exact⟨b,o,rfl,λi hi=>c.1 i (by omega)⟩
def zU(l:List Int)(p k i:Nat)(h:i<k):((l.drop p).take k).getD i 0=l.getD (p+i) 0:=by
 simp[List.getD,lC,h]
def C0(h:L.length<n+fO (L.getD n 0)):cZ L n=ν:=by unfold cZ;rw[iN_]
def Kg(h:n+fO (L.getD n 0)<=L.length):cZ L n=μ (jo L n (fO (L.getD n 0)-1),n+fO (L.getD n 0)):=by unfold cZ;rw[aG h]
def uY(X b o n cap:Nat)(l:List Int)(p st:Nat)(w:ω)(S:cU w X (σ (μ ⟨b,o,ν⟩) n cap) p st)(s:bN w (μ ⟨b,o,ν⟩) n cap l)(u:b≠X)(hp:p<=l.length)(hl:l.length<=100000000):
 Calls prog 274 #[π (μ ⟨X,0,ν⟩)] w (CZ w X (σ (μ ⟨b,o,ν⟩) n cap) st (cZ l p)):=by
 have y:=s.1;have T:Hid (∀W,γ w W (μ X)->bN W (μ ⟨b,o,ν⟩) n cap l):=J (λW g=>s.gb g (λj e=>ψ (ψ (λx U=>by cases U;cases e;exact u))));go_enter func274,ntmps274;go_wp2_with fail;apply(xL X b o n cap l p st 1 1 rfl w S s u hp hl).mono;rintro e I⟨m,⟨hs,rfl,z⟩|⟨hs,a1,c1,rfl,A,z⟩⟩;exact⟨rfl,m,ψ ⟨C0 (by have:=uI (l.getD p 0);omega),rfl,p,z⟩⟩
 obtain⟨b1,o1,rfl,B⟩:=uX A;have C:=B 0 (by omega);rw[zU _ _ _ _ (by omega),px,px]at C;have q:=qL y p;have a:=Ke q;have L:=Kf q;obtain⟨t,c⟩:=exq (l.getD p 0);rw[<-c]at C q a L;have D:jo l p 0=t %64:=by rw[c];rfl
 have M:Hid (l.length<p+fO t->cZ l p=ν):=J (λh=>C0 (by rw[<-c];exact h));have N:Hid (p+fO t<=l.length->cZ l p=μ (jo l p (fO t-1),p+fO t)):=J (λh=>by rw[c]at h⊢;exact Kg h);obtain⟨t0,t1⟩:=q;replace⟨c,B,A,D⟩:=fE c B A D;obtain⟨K,r⟩:=exq (fO t-1);have a3:K<=7:=by have:=uI t;omega
 have O:Hid (fO t=K+1):=J (by have:=uI t;omega);rw[Z O,sK]at N;rw[Z O]at M;have E:=zd y p;replace E:=J E;obtain⟨a,hd⟩|⟨a,hd⟩|⟨a,hd⟩|⟨a,hd⟩:=a
 all_goals
  rw[a]at r
  replace⟨r,a⟩:=bD r a
  go_wp2_with fail
  refine(xL X b o n cap l (p+1) st K _ (by have:=Z r;omega) I z (Z T I m) u (by omega) hl).mono ?_
  rintro e V⟨P,⟨Y,rfl,F⟩|⟨Y,a2,c2,rfl,d,F⟩⟩
  exact⟨rfl,aq m P,ψ ⟨Z M (by omega),rfl,p+1,F⟩⟩
  have al:Hid (∀j,j<K->∃b2 f,a2=μ ⟨b2,f,ν⟩/\κ V ⟨b2,f+j,ν⟩=μ (ι Δ (l.getD (p+1+j) 0))):=J (λj G=>by
   obtain⟨b2,f,h1,h2⟩:=uX d;exact⟨b2,f,h1,by rw[h2 j G,zU _ _ _ _ G]⟩)
  have a4:K<=c2:=d.2.2.1
  have ax:=d.2.2.2.1
  unfold maxLen at ax
  have aC:=J (Z N (by omega))
  replace d:=J d
  clear C L hd
  go_wp2
  go_loop [4,21] (λv i=>∃j:Nat,j<=K/\i=ι δ j/\v=ι η (jo l p j)) (λ_ i=>K-(intOf i).toNat)
  case atStart=>exact⟨0,by omega,rfl,by rw[Z D]⟩
  case round=>
   obtain⟨j,G,rfl,rfl⟩:=hrel
   by_cases a0:j<K
   ·obtain⟨b2,f,rfl,x2⟩:=Z al j a0;have Q:=qL y (p+1+j);have H:jo l p (j+1)=jo l p j*256+l.getD (p+1+j) 0:=by
     show jo l p j*256+l.getD (p+j+1) 0=_;rw[show p+j+1=p+1+j by omega]
    have R:=Z E j;have a8:(256:Int)^j<=256^6:=by
     have:(256:Nat)^j<=256^6:=yT (by decide) (by omega);have e:∀k:Nat,(256:Int)^k=((256^k:Nat):Int):=λk=>by simp
     rw[e,e];omega
    have ho:=Kd (jo l p j) (l.getD (p+1+j) 0) R.1 (by omega) Q;have a9:jo l p j<72057594037927936:=by omega
    obtain⟨bb,-⟩:=R;replace H:=J H;generalize jo l p j=v at *;generalize l.getD (p+1+j) 0=x at *;obtain⟨x0,x9⟩:=Q;have bj:IntKind.u64.wrap (v*256)=v*256:=by rw[fW];omega
    have i1:(0:Int)<=j:=by omega
    have i2:(j:Int)<K:=by omega
    go_wp2;go_round;case rel=>exact⟨j+1,by omega,by simp,by rw[Z H]⟩
    case measure=>simp[intOf];omega
   obtain rfl:j=K:=by omega
   go_wp2
   go_ret
   exact⟨aq m P,φ ⟨jo l p j,p+(j+1),Z aC,rfl,by rw[show p+(j+1)=p+1+j by omega];exact F⟩⟩
def iO(w:ω)(a:Nat)(v:υ)(l:List Rg):Prop:=(∀r∈l,r.ok)/\w.ownsRow a 200 2 v l.length (cF l)
def iO.lt(h:iO w n x Y):∀k,x.ownBlock=μ k->n<=k/\k<w.heap.size:=h.2.lt
def iO.gb(h:iO w n x Y)(g:γ w W N)(a:x.ownBlock=ν\/x.ownBlock≠N:=by simp):iO W n x Y:=⟨h.1,h.2.kept g a⟩
def iO.au(h:iO w n x Y)(g:γ w W ν):iO W n x Y:=h.gb g (by cases x.ownBlock<;>simp)
def iO.nN(h:iO w k (σ a n i) Y):bq w a n i Y/\∀x,a=μ x->k<=x.block:=by
 obtain⟨d,l,m⟩:=h;obtain⟨e,p⟩|⟨g,cap,cur,e,aa,q,r,hm,hs,s⟩:=m
 cases e;exact⟨⟨d,p.symm,by simp,by simp[maxLen],φ rfl⟩,λx b=>by cases b⟩
 cases e;refine⟨⟨d,rfl,r,hm,ψ ⟨g,0,rfl,λj v c=>?_⟩⟩,λx b=>by cases b;exact aa⟩
 have f:j<(cF Y).length:=(lA.1 c).1;rw[<-s,jK,aG (by rw[l]at f;exact f)]at c;simp only[World.cell?,q,ep]
 simpa using c
def Kh:(prog.info? 200).map (λi=>(i.zero,i.size,i.bytes))=μ (μ (ε #[ι η 0,ι η 0]),2,16):=by kernel_rfl
def Ki(l m:List Rg):cF (l++m)=cF l++cF m:=by simp[cF]
def Kj(w:ω)(r:Rg)(b:r.ok)(a:Nat)(c:a<=w.heap.size):iO (w.alloc (ο #[ι η r.lo,ι η r.hi] 200)) a (σ (μ ⟨w.heap.size,0,ν⟩) 1 1) [r]:=
 ⟨λx d=>by rw[cA.1 d];exact b,by simp[cF],ψ ⟨w.heap.size,1,#[ι η r.lo,ι η r.hi],rfl,c,aO w _,aP _,by simp[maxLen],by simp,by simp[cF]⟩⟩
def C4(ty:TypeId)(e:Nat)(v:υ)(l:List Rg)(n:iO w e v l)(b o c:Nat)(r:Rg)(x:r.ok)(h0:κ w ⟨b,o,ν⟩=μ (ι η r.lo))(z:κ w ⟨b,o+1,ν⟩=μ (ι η r.hi))(I:l.length<=100000000)(A:e<=w.heap.size):
 ∃f i k a,(Builtin.append_ #[133,133] ty #[v,σ (μ ⟨b,o,ν⟩) 1 c]).run prog w=.ok (σ f i k) a/\iO a e (σ f i k) (l++[r])/\γ w a v.ownBlock/\((Value.slice f i k).ownBlock=v.ownBlock\/(Value.slice f i k).ownBlock=μ w.heap.size):=by
 obtain⟨B,hi,C,D,E⟩:=lU Kh;obtain⟨F,a,p,G,q,_,s⟩:=run_append_own_at (P:=prog) w e 133 ty 200 B (ε #[ι η 0,ι η 0]) 2 16 underlying133 hi C D E rfl (by decide) v l.length (cF l) n.2 ⟨b,o,ν⟩ 1 c (cF [r]) rfl (by
  intro j u d;rw[Addr.add_mid];match j,d with
  |0,d=>simp[cF]at d;rw[<-d];exact h0
  |1,d=>simp[cF]at d;rw[<-d];exact z) (by
  intro u t;simp[cF]at t;obtain rfl|rfl:=t<;>rfl) (by simp[maxLen];omega) (by omega) A
 have m:iO a e F (l++[r]):=⟨λy H=>(bL.1 H).elim (n.1 y) (λh=>by rw[cA.1 h];exact x),by rw[bF,Ki];exact G⟩
 obtain⟨-,-,⟨rfl,e2⟩|⟨g,cap,K,rfl,_⟩⟩:=id m;exact⟨_,_,_,a,p,m,q,s⟩
 exact⟨_,_,_,a,p,m,q,s⟩
def Kk{j:Array Oper}{rest:List Oper}(k:U.guard=ν)(s x:Operand)
 (ho:U.op=.call {callee:=.builtin .append,args:= #[s,x],argTypes:= #[133,133]})
 (i:Nat) (v:υ) (l:List Rg) (hs:H.eval s=v) (m:iO w i v l) (b f c:Nat) (r:Rg) (n:r.ok) (p:H.eval x=σ (μ ⟨b,f,ν⟩) 1 c) (h0:κ w ⟨b,f,ν⟩=μ (ι η r.lo)) (q:κ w ⟨b,f+1,ν⟩=μ (ι η r.hi)) (t:l.length<=100000000) (y:i<=w.heap.size)
 (h:∀a d e g,iO g i (σ a d e) (l++[r])->γ w g v.ownBlock->((Value.slice a d e).ownBlock=v.ownBlock\/(Value.slice a d e).ownBlock=μ w.heap.size)->
   wpList prog j u rest (H.put U.dst (σ a d e)) g):wpList prog j u (U::rest) H w:=
 uy k λ_ z=>by
  obtain⟨a,d,e,g,A,B,C,D⟩:=C4 (w:=w) U.type i v l m b f c r n h0 q t y;unfold Oper.wp execOp;simp only[ho,resolve,invoke,builtin,ka,mX,jh,oF,kM,nI,hs,p,A]
  exact z _ _ (h a d e g B C D)
def Kl(w:ω)(X:Nat)(sl:υ)(st:Nat)(r:Option (Int×Nat))(e:Ending)(a:ω):Prop:=
 γ w a (μ X)/\((∃v q,r=μ (v,q)/\e=ξ (ι δ v)/\cU a X sl q st)\/(r=ν/\e=PN/\∃b,cU a X sl b st))
def Km(X b o n cap:Nat)(l:List Int)(p st:Nat)(w:ω)(i:cU w X (σ (μ ⟨b,o,ν⟩) n cap) p st)(h:bN w (μ ⟨b,o,ν⟩) n cap l)(j:b≠X)(hp:p<=l.length)(hl:l.length<=100000000):
 Calls prog 268 #[π (μ ⟨X,0,ν⟩)] w (Kl w X (σ (μ ⟨b,o,ν⟩) n cap) st (ke l p)):=by
 have k:=h.1;go_enter func268,ntmps268;go_wp2_with fail;apply(uY X b o n cap l p st w i h j hp hl).mono;rintro e r⟨f,⟨v,q,a,rfl,d⟩|⟨a,rfl,d⟩⟩
 ·have m:=lE k a;obtain⟨⟨s,t⟩,-⟩:=m;replace a:=J a;by_cases u:4<=v
  ·have c:ke l p=ν:=by unfold ke;rw[Z a];simp;omega
   replace c:=J c;go_wp2_with (go_at_call 188;apply(ts X _).mono;rintro e x⟨rfl,rfl⟩);exact⟨rfl,f,ψ ⟨Z c,rfl,q,d⟩⟩
  have g:ke l p=μ (v,q):=by unfold ke;rw[Z a];simp;omega
  replace g:=J g;have y:IntKind.i64.wrap v=v:=wI_;go_wp2;go_ret;exact⟨f,φ ⟨v,q,Z g,rfl,d⟩⟩
 have c:ke l p=ν:=by unfold ke;rw[a];rfl
 exact⟨rfl,f,ψ ⟨c,rfl,d⟩⟩
def Kn(x y:Int)(w:ω)(e:Ending)(a:ω):Prop:=a=w/\((y<=x/\e=ξ (ι η (x-y)))\/(x<y/\e=PN))
def zV(X:Nat)(x y:Int)(w:ω)(a:aW x)(b:aW y):Calls prog 296 #[π (μ ⟨X,0,ν⟩),ι η x,ι η y] w (Kn x y w):=by
 unfold aW at a b;by_cases h:x<y
 ·go_enter func296,ntmps296;go_wp2_with (go_at_call 188;apply(ts X _).mono;rintro e c⟨rfl,rfl⟩);exact⟨rfl,rfl,ψ ⟨h,rfl⟩⟩
 have d:=tq (p:=x) (q:=y) (by omega) (by omega);go_enter func296,ntmps296;go_wp2;go_ret;exact⟨rfl,φ ⟨by omega,rfl⟩⟩
def MR(w:ω)(X:Nat)(sl:υ)(st:Nat)(r:Option (List Rg×Nat))(e:Ending)(a:ω):Prop:=
 γ w a (μ X)/\((∃rs q b c d,r=μ (rs,q)/\e=ξ (σ b c d)/\bq a b c d rs/\(∀x,b=μ x->w.heap.size<=x.block)/\cU a X sl q st)\/(r=ν/\e=PN/\∃f,cU a X sl f st))
def cU.gb(h:cU w n x k i)(g:γ w W N)(a:N≠μ n:=by simp):cU W n x k i:=
 (g.block n (bg.1 h).1 (λe=>a e.symm)).trans h
def cU.lt(h:cU w n x k i):n<w.heap.size:=(bg.1 h).1
def MS(X d o n cap:Nat)(l:List Int)(p st:Nat)(w:ω)(hX:cU w X (σ (μ ⟨d,o,ν⟩) n cap) p st)(U:bN w (μ ⟨d,o,ν⟩) n cap l)(a9:d≠X)(hp:p<=l.length)(hl:l.length<=100000000):
 Calls prog 271 #[π (μ ⟨X,0,ν⟩)] w (MR w X (σ (μ ⟨d,o,ν⟩) n cap) st (jO l p)):=by
 have C:=U.1;have ca:=hX.lt;have bb:∀W,γ w W (μ X)->bN W (μ ⟨d,o,ν⟩) n cap l:=λW g=>U.gb g (λj e=>ψ (ψ (λx V=>by cases V;cases e;exact a9)))
 have D:Hid (∀(W:ω)(q:Nat),γ w W (μ X)->cU W X (σ (μ ⟨d,o,ν⟩) n cap) q st->q<=l.length->Calls prog 274 #[π (μ ⟨X,0,ν⟩)] W (CZ W X (σ (μ ⟨d,o,ν⟩) n cap) st (cZ l q))):=J (λW q g V Y=>uY X d o n cap l q st W V (bb W g) a9 Y hl);clear bb U;go_enter func271,ntmps271;go_wp2_with fail;apply(Z D w p (aD _ _) hX hp).mono;rintro e w1⟨P,⟨hi,q1,f,rfl,al⟩|⟨f,rfl,al⟩⟩;rotate_left
 exact⟨rfl,P,ψ ⟨by unfold jO;rw[f];rfl,rfl,al⟩⟩
 obtain⟨⟨a0,a1⟩,a2,a3⟩:=lE C f;replace f:=J f;go_wp2_with fail;apply(Z D w1 q1 P al a3).mono;rintro e w2⟨A,⟨bj,q2,r,rfl,ax⟩|⟨r,rfl,ax⟩⟩;rotate_left
 exact⟨rfl,aq P A,ψ ⟨by unfold jO;rw[Z f];simp[r],rfl,ax⟩⟩
 obtain⟨⟨b0,b1⟩,b2,b3⟩:=lE C r;replace r:=J r;replace A:=aq P A;go_wp2_with fail;apply(Z D w2 q2 A ax b3).mono;rintro e E⟨t,⟨sz,q3,u,rfl,Q⟩|⟨u,rfl,Q⟩⟩;rotate_left
 exact⟨rfl,aq A t,ψ ⟨by unfold jO;rw[Z f];simp[Z r,u],rfl,Q⟩⟩
 obtain⟨⟨c0,c1⟩,c2,c3⟩:=lE C u;replace u:=J u;replace t:=aq A t;go_wp2_with fail;apply(zV X hi sz E ⟨by omega,by omega⟩ ⟨by omega,by omega⟩).mono;rintro e F⟨rfl,⟨b4,rfl⟩|⟨ch,rfl⟩⟩;rotate_left
 exact⟨rfl,t,ψ ⟨by unfold jO;rw[Z f];simp[Z r,Z u];omega,rfl,q3,Q⟩⟩
 obtain⟨E,rfl⟩:=exq F;obtain⟨M,G⟩:∃M:Nat,(M:Int)=bj:=⟨bj.toNat,by omega⟩
 have R:jO l p=jN l M q3 (hi-sz) [⟨hi-sz,hi⟩]:=by
  unfold jO;rw[Z f];simp only[fL,Z r,Z u,b4,dC]
  rw[<-G,oE]
 have S:=Kj E ⟨hi-sz,hi⟩ ⟨⟨by simp;omega,by simp;omega⟩,by simp;omega,by simp;omega⟩ w.heap.size t.size;have cj:=t.size;rw[<-G];replace⟨G,R,S⟩:=cz G R S;have br:=J (Q.gb (aJ E (ο #[ι η (hi-sz),ι η hi] 200) ν) (by simp));have bt:=J (cT t (aJ E (ο #[ι η (hi-sz),ι η hi] 200) ν) (λj e=>by cases e));go_wp2;go_loopw [5,6,21] (λlv v cv wr=>∃(j q:Nat)(lo:Int)(s:List Rg)(H:Option Addr)(I K:Nat),j<=M/\cv=ι η j/\lv=ι η lo/\v=σ H I K/\iO wr w.heap.size v s/\cU wr X (σ (μ ⟨d,o,ν⟩) n cap) q st/\γ w wr (μ X)/\s.length<=q/\q<=l.length/\0<=lo/\lo<=4611686018427387903/\jO l p=jN l (M-j) q lo s) (λ_ _ cv _=>M-(intOf cv).toNat);case atStart=>exact⟨0,q3,hi-sz,_,_,_,_,by omega,rfl,rfl,rfl,Z S,Z br,Z bt,by simp;omega,c3,by omega,by omega,Z R⟩
 case round=>
  obtain⟨j,q,lo,s,H,I,K,hj,rfl,rfl,rfl,L,bx,a,cp,Y,cw,cx,h⟩:=hrel;clear S br bt R;by_cases cy:j<M
  ·obtain⟨m,hm⟩:∃m,M-j=m+1:=⟨M-j-1,by omega⟩
   rw[hm]at h;have b5:m=M-(j+1):=by omega
   replace⟨h,hm,L⟩:=cz h hm L;have cC:(M:Int)<=4611686018427387903:=by have:=Z G;omega
   go_wp2_with fail;apply(Z D wr q a bx Y).mono;rintro e w4⟨g4,⟨rh,q4,i,rfl,T⟩|⟨i,rfl,T⟩⟩;rotate_left
   exact⟨rfl,aq a g4,ψ ⟨by rw[Z h];simp[jN,i],rfl,T⟩⟩
   obtain⟨⟨d0,d1⟩,d2,d3⟩:=lE C i;replace i:=J i;replace a:=aq a g4;have bz:=J ((Z L).gb g4 (by
    by_cases hv:(Value.slice H I K).ownBlock=ν;exact φ hv
    ·exact ψ (λe=>by have:=((Z L).lt X e).1;omega)))
   have c9:IntKind.u64.wrap (rh+2)=rh+2:=by rw[fW];omega
   go_wp2_with fail;apply(zV X lo (rh+2) w4 ⟨by omega,by omega⟩ ⟨by omega,by omega⟩).mono;rintro e F⟨rfl,⟨db,rfl⟩|⟨de,rfl⟩⟩;rotate_left
   refine⟨rfl,a,ψ ⟨?_,rfl,q4,T⟩⟩
   rw[Z h];simp only[jN,Z i,fL]
   cases cZ l q4 with
   |none=>rfl
   |some y=>simp only[fL];rw[iN_]
   obtain⟨w4,rfl⟩:=exq F;go_wp2_with fail;apply(Z D w4 q4 a T d3).mono;rintro e B⟨g5,⟨size,q5,z,rfl,N⟩|⟨z,rfl,N⟩⟩;rotate_left
   exact⟨rfl,aq a g5,ψ ⟨by rw[Z h];simp[jN,Z i,z],rfl,N⟩⟩
   obtain⟨⟨e0,e1⟩,e2,e3⟩:=lE C z;replace z:=J z;replace a:=aq a g5;have b6:=J ((Z bz).gb g5 (by
    by_cases hv:(Value.slice H I K).ownBlock=ν;exact φ hv
    ·exact ψ (λe=>by have:=((Z bz).lt X e).1;omega)))
   obtain⟨b,O⟩:=exq (lo-(rh+2));rw[<-O];have dg:0<=b/\b<=4611686018427387903:=by omega
   replace O:=J O;go_wp2_with fail;apply(zV X b size B ⟨by omega,by omega⟩ ⟨by omega,by omega⟩).mono;rintro e F⟨rfl,⟨dk,rfl⟩|⟨dn,rfl⟩⟩;rotate_left
   refine⟨rfl,a,ψ ⟨?_,rfl,q5,N⟩⟩
   rw[Z h];simp only[jN,Z i,Z z,fL]
   rw[aB (by have:=Z O;omega)];obtain⟨B,rfl⟩:=exq F;obtain⟨c,aC⟩:=exq (b-size);rw[<-aC];have ds:0<=c/\c<=4611686018427387903:=by omega
   have a4:jO l p=jN l (M-(j+1)) q5 c (s++[⟨c,b⟩]):=by
    rw[Z h];simp only[jN,Z i,Z z,fL]
    have q1:=Z O;rw[iP_,<-b5];have z1:lo-2-rh-size=c:=by omega
    have z2:lo-2-rh=b:=by omega
    rw[z1,z2]
   replace⟨aC,a4⟩:=bD aC a4;have a8:=J ((Z b6).au (aJ B (ο #[ι η c,ι η b] 200) ν));have b8:=J (N.gb (aJ B (ο #[ι η c,ι η b] 200) ν) (by simp));have g6:=J (cT a (aJ B (ο #[ι η c,ι η b] 200) ν) (λj e=>by cases e));have dx:=a.size;have dE:=N.lt;go_wp2_with (at_builtin;refine Kk (by rfl) _ _ (by rfl) w.heap.size _ s (by rfl) (Z a8) B.heap.size 0 1 ⟨c,b⟩ ⟨⟨by simp;omega,by simp;omega⟩,by simp;omega,by simp;omega⟩ (by rfl) (by simp) (by simp) (by omega) (by simp;omega) ?_;intro a7 n7 c7 w7 o7 g7 b7);go_roundw;case rel=>
    refine⟨j+1,q5,c,s++[⟨c,b⟩],a7,n7,c7,by omega,by simp,rfl,rfl,o7,?_,?_,by simp;omega,e3,by omega,by omega,Z a4⟩
    exact(Z b8).gb g7 (λe=>by have:=((Z a8).lt X e).1;omega);exact cT (Z g6) g7 (λk e=>φ ((Z a8).lt k e).1)
   case measure=>simp[intOf];omega
  obtain rfl:j=M:=by omega
  go_wp2;go_ret;have bM:=L.nN;exact⟨a,φ ⟨s,q,H,I,K,by rw[h,sP];rfl,rfl,bM.1,bM.2,bx⟩⟩
structure Gx(w a:ω)(X Y:Nat):Prop where
 os:a.os=w.os
 tape:a.tape=w.tape
 output:a.output=w.output
 size:w.heap.size<=a.heap.size
 block:∀k,k<w.heap.size->k≠X->k≠Y->a.heap[k]?=w.heap[k]?
def Gx.refl(w:ω)(X Y:Nat):Gx w w X Y:=⟨rfl,rfl,rfl,aP _,λ_ _ _ _=>rfl⟩
def Gx.trans(h:Gx w W n j)(k:Gx W v n j):Gx w v n j:=
 ⟨k.os.trans h.os,k.tape.trans h.tape,k.output.trans h.output,bK h.size k.size,λi hi a b=>(k.block i (cu hi h.size) a b).trans (h.block i hi a b)⟩
def Gx.of{X Y:Nat}(g:γ w W N)(a:∀k,N=μ k->k=X\/k=Y\/w.heap.size<=k):Gx w W X Y:=
 ⟨g.os,g.tape,g.output,g.size,λk b c d=>g.block k b (λe=>by obtain h|h|h:=a k e.symm;exact c h;exact d h;omega)⟩
def Gx.set{w:ω}(h:Gx w W n i)(p:Addr)(v:υ)(e:p.block=n\/p.block=i\/w.heap.size<=p.block):Gx w (ζ W p v) n i:=
 ⟨h.os,h.tape,h.output,by simpa [World.setCell]using h.size,λk c a b=>by
  rw[dK _ _ _ _ (by rintro rfl;obtain e|e|e:=e<;>first|exact a e|exact b e|omega)];exact h.block k c a b⟩
def Gx.gb(h:Gx w W n i)(hY:w.heap.size<=i):γ w W (μ n):=
 ⟨h.os,h.tape,h.output,h.size,λk a b=>h.block k a (λe=>b (by rw[e])) (by omega)⟩
def Gx.cell(h:Gx w W n k)(a:κ w ⟨b,i,ν⟩=μ x)(c:b≠n)(d:b≠k):κ W ⟨b,i,ν⟩=μ x:=
 (xK (h.block b (eZ w ⟨b,i,ν⟩ a) c d) i).trans a
def mN(l:List Int)(f:Fr)(p:Nat):Option (Fr×Nat):=(cZ l p).bind λx=>μ ({f with offset:=x.1},x.2)
def od(l:List Int)(f:Fr)(p:Nat):Option (Fr×Nat):=(cZ l p).bind λx=>μ ({f with code:=x.1},x.2)
def mO(l:List Int)(f:Fr)(p:Nat):Option (Fr×Nat):=(ke l p).bind λx=>μ ({f with stream:=x.1},x.2)
def oe(l:List Int)(f:Fr)(p:Nat):Option (Fr×Nat):=(oI l p).bind λx=>μ ({f with data:=x.1},x.2)
def qp(l:List Int)(f:Fr)(p:Nat):Option (Fr×Nat):=(jO l p).bind λx=>μ ({f with ranges:=x.1},x.2)
structure RC(w:ω)(X Y a o n cap:Nat)(l:List Int)(p st:Nat)(f:Fr):Prop where
 x:cU w X (σ (μ ⟨a,o,ν⟩) n cap) p st
 y:w.heap[Y]?=μ (ο (bU f (σ ν 0 0)) 158 (0,0))
 b:bN w (μ ⟨a,o,ν⟩) n cap l
 xb:a≠X
 yb:a≠Y
 xy:X≠Y
 hp:p<=l.length
 hl:l.length<=100000000
 ok:f.ok
 rg:f.ranges=[]
 dt:f.data.size<=9223372036854775807
def MT(b:Bool)(w d:ω)(f:Fr)(a:υ):Prop:=dL d f a/\((f.ranges=[]/\a=σ ν 0 0)\/(b=ρ/\∃x n c,a=σ (μ x) n c/\w.heap.size<=x.block))
def tL(d:Bool)(w:ω)(X Y:Nat)(sl:υ)(st len:Nat)(r:Option (Fr×Nat))(e:Ending)(a:ω):Prop:=
 Gx w a X Y/\((∃b q c,r=μ (b,q)/\e=ξ (τ #[])/\cU a X sl q st/\a.heap[Y]?=μ (ο (bU b c) 158 (0,0))/\MT d w a b c/\q<=len)\/(r=ν/\e=PN/\∃f,cU a X sl f st))
def dL.nil(w:ω)(f:Fr)(h:f.ok)(a:f.ranges=[])(hd:f.data.size<=9223372036854775807):dL w f (σ ν 0 0):=
 ⟨h,hd,ν,0,by rw[a];rfl,by rw[a];exact⟨λr a=>by simp at a,rfl,by simp,by simp[maxLen],φ rfl⟩⟩
def cU.nh(h:cU w n x j l)(a:n≠k):cU (ζ w ⟨k,i,ν⟩ y) n x j l:=
 (dK _ _ _ _ a).trans h
def tM{a c d e:υ}(h:w.heap[b]?=μ (ο #[x,y,z,a,c,d,e] T (0,0))):∀o,χ w ⟨b,o,ν⟩=θ:=by
 simp[World.frozen?,h]
def MU(w:ω)(X Y g o n cap:Nat)(l:List Int)(p st:Nat)(f:Fr)(h:RC w X Y g o n cap l p st f)(B:Nat)(D:κ w ⟨B,0,ν⟩=μ (.func (.func 230) #[] #[])):
 Calls prog 276 #[π (μ ⟨X,0,ν⟩),π (μ ⟨Y,0,ν⟩),π (μ ⟨B,0,ν⟩)] w (tL θ w X Y (σ (μ ⟨g,o,ν⟩) n cap) st l.length (mN l f p)):=by
 obtain⟨i,t,d,xb,yb,xy,hp,hl,j,u,x⟩:=h;have y:=d.1;replace⟨i,d,j⟩:=cz i d j;go_enter func276,ntmps276;go_wp2_with fail;apply(CM Y w).mono;rintro e z⟨rfl,rfl⟩;obtain⟨w,rfl⟩:=exq z;go_wp2_with fail;apply(uY X g o n cap l p st w (Z i) (Z d) xb hp hl).mono;rintro e E⟨m,⟨v,q,a,rfl,b⟩|⟨a,rfl,b⟩⟩
 ·obtain⟨⟨A,F⟩,G,C⟩:=lE y a;have c:=(m.block Y (bg.1 t).1 (λe=>xy (aQ e).symm)).trans t;have H:=(dI c).2.2.1;have I:=tM c;have r:mN l f p=μ ({f with offset:=v},q):=by unfold mN;rw[a];rfl
  replace⟨r,a,c,b⟩:=fE r a c b;go_wp2_with fail;refine gD (fe rfl _ _ _) rfl ?_;refine⟨(Gx.of m (λk e=>φ (aQ e).symm)).set _ _ (ψ (φ rfl)),φ ⟨_,_,_,Z r,rfl,(Z b).nh xy,(heap_set (Z c) _).trans rfl,⟨dL.nil _ _ ?_ u x,φ ⟨u,rfl⟩⟩,C⟩⟩
  have s:=Z j;exact⟨s.1,s.2.1,⟨A,by simp;omega⟩,s.2.2.2⟩
 exact⟨rfl,Gx.of m (λk e=>φ (aQ e).symm),ψ ⟨by unfold mN;rw[a];rfl,rfl,b⟩⟩
def MV(w:ω)(X Y i o n cap:Nat)(l:List Int)(p st:Nat)(f:Fr)(h:RC w X Y i o n cap l p st f)(B:Nat)(D:κ w ⟨B,0,ν⟩=μ (.func (.func 231) #[] #[])):
 Calls prog 276 #[π (μ ⟨X,0,ν⟩),π (μ ⟨Y,0,ν⟩),π (μ ⟨B,0,ν⟩)] w (tL θ w X Y (σ (μ ⟨i,o,ν⟩) n cap) st l.length (od l f p)):=by
 obtain⟨j,t,d,xb,yb,xy,hp,hl,m,u,x⟩:=h;have y:=d.1;replace⟨j,d,m⟩:=cz j d m;go_enter func276,ntmps276;go_wp2_with fail;apply(CN Y w).mono;rintro e z⟨rfl,rfl⟩;obtain⟨w,rfl⟩:=exq z;go_wp2_with fail;apply(uY X i o n cap l p st w (Z j) (Z d) xb hp hl).mono;rintro e E⟨r,⟨v,q,a,rfl,b⟩|⟨a,rfl,b⟩⟩
 ·obtain⟨⟨A,F⟩,G,C⟩:=lE y a;have c:=(r.block Y (bg.1 t).1 (λe=>xy (aQ e).symm)).trans t;have H:=(dI c).2.2.2.1;have I:=tM c;have s:od l f p=μ ({f with code:=v},q):=by unfold od;rw[a];rfl
  replace⟨s,a,c,b⟩:=fE s a c b;go_wp2_with fail;refine gD (fe rfl _ _ _) rfl ?_;refine⟨(Gx.of r (λk e=>φ (aQ e).symm)).set _ _ (ψ (φ rfl)),φ ⟨_,_,_,Z s,rfl,(Z b).nh xy,(heap_set (Z c) _).trans rfl,⟨dL.nil _ _ ?_ u x,φ ⟨u,rfl⟩⟩,C⟩⟩
  have g:=Z m;exact⟨g.1,g.2.1,g.2.2.1,⟨A,by simp;omega⟩,g.2.2.2.2⟩
 exact⟨rfl,Gx.of r (λk e=>φ (aQ e).symm),ψ ⟨by unfold od;rw[a];rfl,rfl,b⟩⟩
def MW(w:ω)(X Y g o n cap:Nat)(l:List Int)(p st:Nat)(f:Fr)(h:RC w X Y g o n cap l p st f):
 Calls prog 267 #[π (μ ⟨X,0,ν⟩),π (μ ⟨Y,0,ν⟩)] w (tL θ w X Y (σ (μ ⟨g,o,ν⟩) n cap) st l.length (mO l f p)):=by
 obtain⟨i,t,d,xb,yb,xy,hp,hl,j,u,z⟩:=h;have A:=d.1;replace⟨i,d,j⟩:=cz i d j;go_enter func267,ntmps267;go_wp2_with fail;apply(Km X g o n cap l p st w (Z i) (Z d) xb hp hl).mono;rintro e D⟨m,⟨v,q,a,rfl,b⟩|⟨a,rfl,b⟩⟩
 ·have B:0<=v/\v<4/\q<=l.length:=by
   unfold ke at a;cases r:cZ l p with
   |none=>rw[r]at a;cases a
   |some x=>
    rw[r]at a;simp only[fL]at a;split at a;cases a;have:=lE (q:=q) (n:=v) A r;unfold eB at this;omega;cases a
  obtain⟨E,F,C⟩:=B;have c:=(m.block Y (bg.1 t).1 (λe=>xy (aQ e).symm)).trans t;have G:=(dI c).2.1;have H:=tM c;have s:mO l f p=μ ({f with stream:=v},q):=by unfold mO;rw[a];rfl
  replace⟨s,a,c,b⟩:=fE s a c b;go_wp2_with fail;refine gD (fe rfl _ _ _) rfl ?_;refine⟨(Gx.of m (λk e=>φ (aQ e).symm)).set _ _ (ψ (φ rfl)),φ ⟨_,_,_,Z s,rfl,(Z b).nh xy,(heap_set (Z c) _).trans rfl,⟨dL.nil _ _ ?_ u z,φ ⟨u,rfl⟩⟩,C⟩⟩
  have y:=Z j;exact⟨y.1,⟨by simp;omega,by simp;omega⟩,y.2.2⟩
 exact⟨rfl,Gx.of m (λk e=>φ (aQ e).symm),ψ ⟨by unfold mO;rw[a];rfl,rfl,b⟩⟩
def strOfNums_size(l:List Int):(strOfNums l).size=l.length:=by
 have h:=fD List.length (strOfNums_data l);rw[dd,qG]at h;exact h
def Eb{l:List Int}(c:∀x∈l,W8 x):∀(k p:Nat)(lo:Int)(a rs:List Rg)(q:Nat),p<=l.length->jN l k p lo a=μ (rs,q)->q<=l.length
 |0,p,lo,a,rs,q,hp,h=>by
  simp only[jN,nH,rJ]at h;omega
 |k+1,p,lo,a,rs,q,hp,h=>by
  simp only[jN]at h;cases d:cZ l p with
  |none=>rw[d]at h;cases h
  |some x=>
   rw[d]at h;simp only[fL]at h;cases b:cZ l x.2 with
   |none=>rw[b]at h;cases h
   |some y=>
    rw[b]at h;simp only[fL]at h;split at h;exact Eb c k _ _ _ _ _ (lE (n:=y.1) (q:=y.2) c b).2.2 h;cases h
def MX(b:∀x∈L,W8 x)(h:jO L k=μ (Y,i)):i<=L.length:=by
 unfold jO at h;cases c:cZ L k with
 |none=>rw[c]at h;cases h
 |some x=>
  rw[c]at h;simp only[fL]at h;cases d:cZ L x.2 with
  |none=>rw[d]at h;cases h
  |some y=>
   rw[d]at h;simp only[fL]at h;cases a:cZ L y.2 with
   |none=>rw[a]at h;cases h
   |some z=>
    rw[a]at h;simp only[fL]at h;split at h;exact Eb b _ _ _ _ _ _ (lE (n:=z.1) (q:=z.2) b a).2.2 h;cases h
def MY(w:ω)(X Y b o n cap:Nat)(l:List Int)(p st:Nat)(f:Fr)(h:RC w X Y b o n cap l p st f):
 Calls prog 273 #[π (μ ⟨X,0,ν⟩),π (μ ⟨Y,0,ν⟩)] w (tL θ w X Y (σ (μ ⟨b,o,ν⟩) n cap) st l.length (oe l f p)):=by
 obtain⟨c,A,d,xb,yb,xy,hp,hl,s,B,K⟩:=h;have F:=d.1;have G:Hid (∀W,γ w W (μ X)->bN W (μ ⟨b,o,ν⟩) n cap l):=J (λW g=>d.gb g (λj e=>ψ (ψ (λx c=>by cases c;cases e;exact xb))));replace⟨c,d,s⟩:=cz c d s;go_enter func273,ntmps273;go_wp2_with fail;apply(uY X b o n cap l p st w (Z c) (Z d) xb hp hl).mono;rintro e C⟨r,⟨v,q,a,rfl,t⟩|⟨a,rfl,t⟩⟩;rotate_left
 exact⟨rfl,Gx.of r (λk e=>φ (aQ e).symm),ψ ⟨by unfold oe oI;rw[a];rfl,rfl,t⟩⟩
 obtain⟨⟨L,M⟩,N,H⟩:=lE F a;obtain⟨k,I⟩:∃k:Nat,v=(k:Int):=⟨v.toNat,by omega⟩
 subst I;replace a:=J a;go_wp2_with fail;apply(xL X b o n cap l q st k _ rfl C t (Z G C r) xb H hl).mono;rintro e O⟨D,⟨hs,rfl,i⟩|⟨hs,P,c2,rfl,u,i⟩⟩;refine⟨rfl,(Gx.of r (λk e=>φ (aQ e).symm)).trans (Gx.of D (λk e=>φ (aQ e).symm)),ψ ⟨?_,rfl,q,i⟩⟩
 unfold oe oI;rw[Z a];simp only[fL]
 rw[iN_];rfl;have y:oe l f p=μ ({f with data:=strOfNums ((l.drop q).take k)},q+k):=by
  unfold oe oI;rw[Z a];simp only[fL]
  rw[iP_];simp
 have E:=aq r D;have m:=(E.block Y (bg.1 A).1 (λe=>xy (aQ e).symm)).trans A;have Q:=(dI m).2.2.2.2.2.1;have R:=tM m;have S:=uF u;have z:(strOfNums ((l.drop q).take k)).size<=9223372036854775807:=by rw[strOfNums_size];simp;omega
 replace⟨y,m,i,u,z⟩:=fF y m i u z;go_wp2_with fail;refine gD (fe rfl _ _ _) rfl ?_;exact⟨(Gx.of E (λk e=>φ (aQ e).symm)).set _ _ (ψ (φ rfl)),φ ⟨_,_,_,Z y,rfl,(Z i).nh xy,(heap_set (Z m) _).trans rfl,⟨dL.nil _ _ (Z s) B (Z z),φ ⟨B,rfl⟩⟩,by omega⟩⟩
def MZ(w:ω)(X Y j o n cap:Nat)(l:List Int)(p st:Nat)(f:Fr)(h:RC w X Y j o n cap l p st f)(K:Y<w.heap.size):
 Calls prog 270 #[π (μ ⟨X,0,ν⟩),π (μ ⟨Y,0,ν⟩)] w (tL ρ w X Y (σ (μ ⟨j,o,ν⟩) n cap) st l.length (qp l f p)):=by
 obtain⟨m,z,d,xb,yb,xy,hp,hl,r,L,F⟩:=h;have G:=d.1;replace⟨m,d,r⟩:=cz m d r;go_enter func270,ntmps270;go_wp2_with fail;apply(MS X j o n cap l p st w (Z m) (Z d) xb hp hl).mono;rintro e M⟨s,⟨rs,q,A,H,c1,a,rfl,t,u,b⟩|⟨a,rfl,b⟩⟩
 ·have I:q<=l.length:=MX G a;have c:=(s.block Y (bg.1 z).1 (λe=>xy (aQ e).symm)).trans z;have N:=(dI c).2.2.2.2.2.2;have O:=tM c;have v:qp l f p=μ ({f with ranges:=rs},q):=by unfold qp;rw[a];rfl
  replace⟨v,a,c,b,t⟩:=fF v a c b t;go_wp2_with fail;refine gD (fe rfl _ _ _) rfl ?_;have g:=Z r;have i:=Z t;have y:H=rs.length:=i.2.1;refine⟨(Gx.of s (λk e=>φ (aQ e).symm)).set _ _ (ψ (φ rfl)),φ ⟨_,_,_,Z v,rfl,(Z b).nh xy,(heap_set (Z c) _).trans rfl,⟨⟨⟨g.1,g.2.1,g.2.2.1,g.2.2.2.1,i.1⟩,F,A,c1,by rw[y],?_⟩,?_⟩,I⟩⟩
  rw[<-y];obtain⟨B,C,k3,k4,k5⟩:=i;refine⟨B,C,k3,k4,?_⟩
  obtain k5|⟨D,E,rfl,k5⟩:=k5
  exact φ k5;exact ψ ⟨D,E,rfl,wV k5 _ _ (by have:=u _ rfl;simp at this⊢;omega)⟩;obtain⟨B,C,k3,k4,k5|⟨D,E,rfl,k5⟩⟩:=i;obtain _|x:=A
  left;have:rs=[]:=eN_;subst this;refine⟨rfl,?_⟩
  rw[y,k5];rfl;exact ψ ⟨rfl,_,_,_,rfl,u _ rfl⟩;exact ψ ⟨rfl,_,_,_,rfl,u _ rfl⟩
 exact⟨rfl,Gx.of s (λk e=>φ (aQ e).symm),ψ ⟨by unfold qp;rw[a];rfl,rfl,b⟩⟩
abbrev Am:=Fr->Nat->Option (Fr×Nat)
def rm:List Am->Fr->Nat->Option (Fr×Nat)
 |[],f,p=>μ (f,p)
 |s::r,f,p=>(s f p).bind λx=>rm r x.1 x.2
def eI(l:List Int)(j:Nat):List Am:=
 if j=2 then[qp l]else if j=3 then[mO l,od l,mN l]else if j=4\/j=5 then[mO l,mN l,oe l]else if j=6 then[od l]else[]
def M3(l:List Int)(a b c d e:Nat)(p:Nat)(f:j<7):fY l (bJ (b9 a b c d e) j).t p=rm (eI l j) (cB (bJ (b9 a b c d e) j).k (bJ (b9 a b c d e) j).fin) p:=by
 obtain rfl|rfl|rfl|rfl|rfl|rfl|rfl:=qV f
 simp[fY,bJ,b9,eI,rm];simp[fY,bJ,b9,eI,rm];show fY l 2 p=(qp l (cB 3 θ) p).bind λx=>μ (x.1,x.2)
 unfold fY qp;rw[aB (by decide),aB (by decide),aG rfl];cases jO l p<;>rfl;show fY l 4 p=(mO l (cB 4 θ) p).bind λx=>(od l x.1 x.2).bind λx=>(mN l x.1 x.2).bind λx=>μ (x.1,x.2)
 unfold fY mO od mN;rw[aB (by decide),aB (by decide),aB (by decide),aG rfl];cases ke l p with
 |none=>rfl
 |some x=>
  simp only[fL]
  cases cZ l x.2 with
  |none=>rfl
  |some y=>
   simp only[fL]
   cases cZ l y.2<;>rfl
 show fY l 8 p=(mO l (cB 5 θ) p).bind λx=>(mN l x.1 x.2).bind λx=>(oe l x.1 x.2).bind λx=>μ (x.1,x.2)
 unfold fY mO mN oe;rw[aB (by decide),aB (by decide),aB (by decide),aB (by decide),aG (by decide)];cases ke l p with
 |none=>rfl
 |some x=>
  simp only[fL]
  cases cZ l x.2 with
  |none=>rfl
  |some y=>
   simp only[fL]
   cases oI l y.2<;>rfl
 show fY l 9 p=(mO l (cB 5 ρ) p).bind λx=>(mN l x.1 x.2).bind λx=>(oe l x.1 x.2).bind λx=>μ (x.1,x.2)
 unfold fY mO mN oe;rw[aB (by decide),aB (by decide),aB (by decide),aB (by decide),aG (by decide)];cases ke l p with
 |none=>rfl
 |some x=>
  simp only[fL]
  cases cZ l x.2 with
  |none=>rfl
  |some y=>
   simp only[fL]
   cases oI l y.2<;>rfl
 show fY l 28 p=(od l (cB 6 θ) p).bind λx=>μ (x.1,x.2)
 unfold fY od;rw[aB (by decide),aB (by decide),aB (by decide),aB (by decide),aB (by decide),aG rfl];cases cZ l p<;>rfl
def M4(l:List Int)(p:Nat)(h:∀j,j<7->¬(bJ (b9 n k i m o) j).t=t):fY l t p=ν:=by
 have h0:=h 0 (by omega);have a:=h 1 (by omega);have b:=h 2 (by omega);have c:=h 3 (by omega);have d:=h 4 (by omega);have f:=h 5 (by omega);have g:=h 6 (by omega);simp only[bJ,b9,yV,List.getD_cons_succ]at h0 a b c d f g;unfold fY;rw[aB (λe=>h0 e.symm),aB (λe=>a e.symm),aB (λe=>b e.symm),aB (λe=>c e.symm),aB (λe=>e.elim (λe=>d e.symm) (λe=>f e.symm)),aB (λe=>g e.symm)]
def M5{b:Fr}(c:j<7)(hi:i<(eI L j).length)(h:(eI L j)[i] I n=μ (b,k)):b.kind=I.kind:=by
 have a:∀{α:Type}(o:Option (α×Nat))(g:α×Nat->Fr×Nat),(∀x,(g x).1.kind=I.kind)->(o.bind λx=>μ (g x))=μ (b,k)->b.kind=I.kind:=by
  intro α o g d e;cases o with
  |none=>cases e
  |some x=>simp only[fL,nH]at e;have:=d x;rw[e]at this;exact this
 obtain rfl|rfl|rfl|rfl|rfl|rfl|rfl:=qV c
 simp[eI]at hi;simp[eI]at hi;have e:i=0:=by simp[eI]at hi;omega
 subst e;exact a _ _ (λ_=>rfl) h;have e:i=0\/i=1\/i=2:=by simp[eI]at hi;omega
 obtain rfl|rfl|rfl:=e<;>exact a _ _ (λ_=>rfl) h
 have e:i=0\/i=1\/i=2:=by simp[eI]at hi;omega
 obtain rfl|rfl|rfl:=e<;>exact a _ _ (λ_=>rfl) h
 have e:i=0\/i=1\/i=2:=by simp[eI]at hi;omega
 obtain rfl|rfl|rfl:=e<;>exact a _ _ (λ_=>rfl) h
 have e:i=0:=by simp[eI]at hi;omega
 subst e;exact a _ _ (λ_=>rfl) h
def jR.ne{s:Nat}(h:jR W k i j l m o b s){X:Nat}{c:Nat}(d:κ W ⟨X,0,ν⟩=μ (σ a n c)):k≠X/\i≠X/\j≠X/\l≠X/\m≠X/\o≠X/\b≠X/\s≠X:=by
 have e:=h.tab 0 _ rfl;have f:=h.p2 0 _ rfl;have g:=h.p3 0 _ rfl;have p:=h.p4 0 _ rfl;have q:=h.p5 0 _ rfl;have r:=h.p6 0 _ rfl;have t:=h.bo;have u:=h.bc;rw[ep]at e f g p q r;refine⟨?_,?_,?_,?_,?_,?_,?_,?_⟩
 rintro rfl;rw[d]at e;cases e;rintro rfl;rw[d]at f;cases f;rintro rfl;rw[d]at g;cases g;rintro rfl;rw[d]at p;cases p;rintro rfl;rw[d]at q;cases q;rintro rfl;rw[d]at r;cases r;rintro rfl;rw[d]at t;cases t;rintro rfl;rw[d]at u;cases u
def tN{cs:List υ}(h:w.rangeAt b o cs)(g:Gx w W n k)(a:b≠n)(c:b≠k):W.rangeAt b o cs:=λj v d=>g.cell (h j v d) a c
def jR.gx{a c:Nat}(h:jR w i j l m o b a c)(g:Gx w W n k)(d:i≠n/\j≠n/\l≠n/\m≠n/\o≠n/\b≠n/\a≠n/\c≠n)(hY:i≠k/\j≠k/\l≠k/\m≠k/\o≠k/\b≠k/\a≠k/\c≠k):jR W i j l m o b a c:=by
 obtain⟨e,f,p,q,r,s,t,x8⟩:=d;obtain⟨u,v,x,y,z,A,B,C⟩:=hY;exact⟨tN h.tab g e u,tN h.p2 g f v,tN h.p3 g p x,tN h.p4 g q y,tN h.p5 g r z,tN h.p6 g s A,g.cell h.bo t B,g.cell h.bc x8 C⟩
def jR.lt(h:jR W n k i j l m o b){Y:Nat}(hY:W.heap.size<=Y):n≠Y/\k≠Y/\i≠Y/\j≠Y/\l≠Y/\m≠Y/\o≠Y/\b≠Y:=by
 have a:=eZ W _ (h.tab 0 _ rfl);have c:=eZ W _ (h.p2 0 _ rfl);have d:=eZ W _ (h.p3 0 _ rfl);have e:=eZ W _ (h.p4 0 _ rfl);have f:=eZ W _ (h.p5 0 _ rfl);have g:=eZ W _ (h.p6 0 _ rfl);have p:=eZ W _ h.bo;have q:=eZ W _ h.bc;simp only at a c d e f g p q;omega
def Rd(c:ω)(X Y a o n cap:Nat)(l:List Int)(st:Nat)(d:Bool)(e:υ)(s:Am):Prop:=
 ∃R b,e=.func (.func R) #[] b/\(∀args w,(callFunc R args).run prog w=.ok (.enter R args) w)/\∀(w:ω)(p:Nat)(f:Fr),Gx c w X Y->RC w X Y a o n cap l p st f->
  Calls prog R (#[π (μ ⟨X,0,ν⟩),π (μ ⟨Y,0,ν⟩)]++b) w (tL d w X Y (σ (μ ⟨a,o,ν⟩) n cap) st l.length (s f p))
def Ec(args:Array υ)(w:ω):(callFunc 276 args).run prog w=.ok (.enter 276 args) w:=by kernel_rfl
def M6(args:Array υ)(w:ω):(callFunc 267 args).run prog w=.ok (.enter 267 args) w:=by kernel_rfl
def M7(args:Array υ)(w:ω):(callFunc 273 args).run prog w=.ok (.enter 273 args) w:=by kernel_rfl
def M8(args:Array υ)(w:ω):(callFunc 270 args).run prog w=.ok (.enter 270 args) w:=by kernel_rfl
def M9{t:Nat}(h:jR W k m b n i l o t)(X Y d q s cap:Nat)(a:List Int)(st:Nat)(z:k≠X/\m≠X/\b≠X/\n≠X/\i≠X/\l≠X/\o≠X/\t≠X)(hY:k≠Y/\m≠Y/\b≠Y/\n≠Y/\i≠Y/\l≠Y/\o≠Y/\t≠Y)(A:Y<W.heap.size)(B:j<7):
 (bJ (b9 m b n i l) j).n=(eI a j).length/\(eI a j).length<=3/\((eI a j).length=0\/∃P,(bJ (b9 m b n i l) j).pa=μ ⟨P,0,ν⟩/\P≠X/\P≠Y/\∀c(hi:c<(eI a j).length),∃C wc rd,κ W ⟨P,c*2,ν⟩=μ (.func (.func C) #[] wc)/\κ W ⟨P,c*2+1,ν⟩=μ rd/\Rd W X Y d q s cap a st (decide (j=2)) rd (eI a j)[c]):=by
 obtain⟨-,D,E,F,G,H,I,x8⟩:=z;obtain⟨-,K,L,M,N,O,Q,R⟩:=hY;have u:Rd W X Y d q s cap a st θ (nR o) (mN a):=⟨_,_,rfl,Ec,λw p f g r=>MU w X Y d q s cap a p st f r o (g.cell h.bo I Q)⟩
 have x:Rd W X Y d q s cap a st θ (nR t) (od a):=⟨_,_,rfl,Ec,λw p f g r=>MV w X Y d q s cap a p st f r t (g.cell h.bc x8 R)⟩
 have v:Rd W X Y d q s cap a st θ sR (mO a):=⟨_,_,rfl,M6,λw p f _ r=>MW w X Y d q s cap a p st f r⟩
 have y:Rd W X Y d q s cap a st θ bR (oe a):=⟨_,_,rfl,M7,λw p f _ r=>MY w X Y d q s cap a p st f r⟩
 have S:Rd W X Y d q s cap a st ρ rR (qp a):=⟨_,_,rfl,M8,λw p f g r=>MZ w X Y d q s cap a p st f r (cu A g.size)⟩
 obtain rfl|rfl|rfl|rfl|rfl|rfl|rfl:=qV B
 exact⟨rfl,by simp[eI],φ rfl⟩
 exact⟨rfl,by simp[eI],φ rfl⟩
 refine⟨rfl,by simp[eI],ψ ⟨m,rfl,D,K,λc hi=>?_⟩⟩
 have e:c=0:=by simp[eI]at hi;omega
 subst e;exact⟨_,_,rR,h.p2 0 _ rfl,h.p2 1 _ rfl,S⟩
 refine⟨rfl,by simp[eI],ψ ⟨b,rfl,E,L,λc hi=>?_⟩⟩
 have e:c=0\/c=1\/c=2:=by simp[eI]at hi;omega
 obtain rfl|rfl|rfl:=e
 exact⟨_,_,sR,h.p3 0 _ rfl,h.p3 1 _ rfl,v⟩
 exact⟨_,_,nR t,h.p3 2 _ rfl,h.p3 3 _ rfl,x⟩
 exact⟨_,_,nR o,h.p3 4 _ rfl,h.p3 5 _ rfl,u⟩
 refine⟨rfl,by simp[eI],ψ ⟨n,rfl,F,M,λc hi=>?_⟩⟩
 have e:c=0\/c=1\/c=2:=by simp[eI]at hi;omega
 obtain rfl|rfl|rfl:=e
 exact⟨_,_,sR,h.p4 0 _ rfl,h.p4 1 _ rfl,v⟩
 exact⟨_,_,nR o,h.p4 2 _ rfl,h.p4 3 _ rfl,u⟩
 exact⟨_,_,bR,h.p4 4 _ rfl,h.p4 5 _ rfl,y⟩
 refine⟨rfl,by simp[eI],ψ ⟨i,rfl,G,N,λc hi=>?_⟩⟩
 have e:c=0\/c=1\/c=2:=by simp[eI]at hi;omega
 obtain rfl|rfl|rfl:=e
 exact⟨_,_,sR,h.p5 0 _ rfl,h.p5 1 _ rfl,v⟩
 exact⟨_,_,nR o,h.p5 2 _ rfl,h.p5 3 _ rfl,u⟩
 exact⟨_,_,bR,h.p5 4 _ rfl,h.p5 5 _ rfl,y⟩
 refine⟨rfl,by simp[eI],ψ ⟨l,rfl,H,O,λc hi=>?_⟩⟩
 have e:c=0:=by simp[eI]at hi;omega
 subst e;exact⟨_,_,nR t,h.p6 0 _ rfl,h.p6 1 _ rfl,x⟩
def qq{x:Int×Nat}(h:cZ L n=μ x):n<x.2:=by
 unfold cZ at h;split at h;cases h;have:=uI (L.getD n 0);simp only;omega;cases h
def Ed{l:List Int}:∀(k p:Nat)(lo:Int)(a rs:List Rg)(q:Nat),jN l k p lo a=μ (rs,q)->p<=q
 |0,p,lo,a,rs,q,h=>by
  simp only[jN,nH,rJ]at h;omega
 |k+1,p,lo,a,rs,q,h=>by
  simp only[jN]at h;cases b:cZ l p with
  |none=>rw[b]at h;cases h
  |some x=>
   rw[b]at h;simp only[fL]at h;have m1:=qq b;cases c:cZ l x.2 with
   |none=>rw[c]at h;cases h
   |some y=>
    rw[c]at h;simp only[fL]at h;have d:=qq c;split at h;have:=Ed k _ _ _ _ _ h;omega;cases h
def Na{x:List Rg×Nat}(h:jO L n=μ x):n<=x.2:=by
 unfold jO at h;cases a:cZ L n with
 |none=>rw[a]at h;cases h
 |some d=>
  rw[a]at h;simp only[fL]at h;have m1:=qq a;cases b:cZ L d.2 with
  |none=>rw[b]at h;cases h
  |some y=>
   rw[b]at h;simp only[fL]at h;have e:=qq b;cases c:cZ L y.2 with
   |none=>rw[c]at h;cases h
   |some z=>
    rw[c]at h;simp only[fL]at h;have f:=qq c;split at h;have:=Ed _ _ _ _ x.1 x.2 h;omega;cases h
def Nb{x:Int×Nat}(h:ke L n=μ x):n<=x.2:=by
 unfold ke at h;cases a:cZ L n with
 |none=>rw[a]at h;cases h
 |some y=>
  rw[a]at h;simp only[fL]at h;have:=qq a;split at h;cases h;omega;cases h
def Nc{x:ByteArray×Nat}(h:oI L n=μ x):n<=x.2:=by
 unfold oI at h;cases a:cZ L n with
 |none=>rw[a]at h;cases h
 |some y=>
  rw[a]at h;simp only[fL]at h;have:=qq a;split at h;cases h;simp only;omega;cases h
def bind_mono{α:Type}{o:Option (α×Nat)}{g:α×Nat->Fr}(ho:∀x,o=μ x->n<=x.2)(h:(o.bind λx=>μ (g x,x.2))=μ (I,k)):n<=k:=by
 cases o with
 |none=>cases h
 |some x=>simp only[fL,nH,rJ]at h;have:=ho x rfl;omega
def Nd(i:j<7):∀s∈eI L j,∀(f:Fr)(p:Nat)(a:Fr)(q:Nat),s f p=μ (a,q)->p<=q:=by
 have c:∀(f:Fr)(p:Nat)(a:Fr)(q:Nat),mN L f p=μ (a,q)->p<=q:=λf p a q h=>bind_mono (λx b=>Nat.le_of_lt (qq b)) h
 have e:∀(f:Fr)(p:Nat)(a:Fr)(q:Nat),od L f p=μ (a,q)->p<=q:=λf p a q h=>bind_mono (λx b=>Nat.le_of_lt (qq b)) h
 have d:∀(f:Fr)(p:Nat)(a:Fr)(q:Nat),mO L f p=μ (a,q)->p<=q:=λf p a q h=>bind_mono (λx b=>Nb b) h
 have g:∀(f:Fr)(p:Nat)(a:Fr)(q:Nat),oe L f p=μ (a,q)->p<=q:=λf p a q h=>bind_mono (λx b=>Nc b) h
 have k:∀(f:Fr)(p:Nat)(a:Fr)(q:Nat),qp L f p=μ (a,q)->p<=q:=λf p a q h=>bind_mono (λx b=>Na b) h
 intro s hs;obtain rfl|rfl|rfl|rfl|rfl|rfl|rfl:=qV i<;>simp[eI]at hs
 subst hs;exact k;obtain rfl|rfl|rfl:=hs
 exact d;exact e;exact c;obtain rfl|rfl|rfl:=hs
 exact d;exact c;exact g;obtain rfl|rfl|rfl:=hs
 exact d;exact c;exact g;subst hs;exact e
def FA(w:ω)(X:Nat)(sl:υ)(p len:Nat)(r:Option (Fr×Nat))(e:Ending)(a:ω):Prop:=
 γ w a (μ X)/\((∃f q b,r=μ (f,q)/\e=ξ (ε (bU f b))/\dL a f b/\(b=σ ν 0 0\/∃x n c,b=σ (μ x) n c/\w.heap.size<=x.block)/\cU a X sl q p/\p<q/\q<=len)\/(r=ν/\e=PN/\∃d,cU a X sl d p))
def dL.set{w:ω}(h:dL w I (σ a n k))(i:Nat)(v:υ)(c:∀x,a=μ x->x.block≠j):dL (ζ w ⟨j,i,ν⟩ v) I (σ a n k):=by
 obtain⟨d,f,ra,cap,b,g⟩:=h;refine⟨d,f,ra,cap,b,?_⟩
 cases b;obtain⟨l,m,k3,k4,k5⟩:=g;refine⟨l,m,k3,k4,?_⟩
 obtain k5|⟨p,q,rfl,k5⟩:=k5
 exact φ k5;exact ψ ⟨p,q,rfl,wV k5 _ _ (λe=>c _ rfl e.symm)⟩
def Ee(w:ω)(X T B D E F G Bo Bc a o n cap:Nat)(l:List Int)(p st:Nat)(hT:jR w T B D E F G Bo Bc)(hX:cU w X (σ (μ ⟨a,o,ν⟩) n cap) p st)(aa:bN w (μ ⟨a,o,ν⟩) n cap l)(xb:a≠X)(hp:p<l.length)(hl:l.length<=100000000):
 Calls prog 190 #[π (μ ⟨X,0,ν⟩),σ (μ ⟨T,0,ν⟩) 7 7] w (FA w X (σ (μ ⟨a,o,ν⟩) n cap) p l.length (nM l p)):=by
 have e3:=hX.lt;have h8:=aa.1;obtain⟨x0,V,x2,xf⟩:=uW hX;have bM:=hT.ne x0;have gf:a<w.heap.size:=by
  obtain⟨b1,o1,e1,h1⟩:=uX aa (by have:=aa.2.1;omega);cases e1;exact eZ w _ (h1 0 (by have:=aa.2.1;omega))
 go_enter func190,ntmps190;go_wp2_with fail;obtain⟨W1,M⟩:∃W,W=(ζ w ⟨X,2,ν⟩ (ι δ p)).alloc (ο #[ι δ 0,ι δ 0,ι η 0,ι η 0,β θ,ς {data:= #[]},σ ν 0 0] 158):=⟨_,rfl⟩
 have ds:cU W1 X (σ (μ ⟨a,o,ν⟩) n cap) p p:=by
  rw[M];unfold cU at hX⊢;rw[fS _ _ _ (by simpa [World.setCell]using e3),heap_set hX];rfl
 have g1:γ w W1 (μ X):=by rw[M];exact bk (aM (aD _ _) _ _ (ψ rfl)) _
 have dx:W1.heap[w.heap.size]?=μ (ο #[ι δ 0,ι δ 0,ι η 0,ι η 0,β θ,ς {data:= #[]},σ ν 0 0] 158 (0,0)):=by
  have:=aO (ζ w ⟨X,2,ν⟩ (ι δ p)) (ο #[ι δ 0,ι δ 0,ι η 0,ι η 0,β θ,ς {data:= #[]},σ ν 0 0] 158);rw[M];simpa [World.setCell]using this
 have gg:W1.heap.size=w.heap.size+1:=by rw[M];simp[World.setCell]
 have a9:∀W,γ w W (μ X)->bN W (μ ⟨a,o,ν⟩) n cap l:=λW g=>aa.gb g (λj e=>ψ (ψ (λx H=>by cases H;cases e;exact xb)))
 rw[<-M];replace M:=J M;clear x0 V x2 xf hX;apply(xL X a o n cap l p p 1 1 rfl W1 ds (a9 W1 g1) xb (by omega) hl).mono;rintro e w2⟨g2,⟨hs,rfl,b0⟩|⟨hs,a2,c2,rfl,b3,b0⟩⟩;omega;obtain⟨b2,o2,rfl,dE⟩:=uX b3;have V:=dE 0 (by omega);rw[zU _ _ _ _ (by omega),px,px]at V;obtain⟨t,ht⟩:=exq (l.getD p 0);rw[<-ht]at V;have a3:nM l p=(fY l t (p+1)).bind λx=>by classical exact if cO x.1 then μ x else ν:=by rw[ht];rfl
 replace⟨ht,a3,b3⟩:=cz ht a3 b3;have b4:=aq g1 g2;have dG:=hT.gx (Gx.of (Y:=X) b4 (λk e=>φ (aQ e).symm)) bM bM;clear dE;go_wp2_with fail;apply(M1 w2 T B D E F G Bo Bc dG t).mono;rintro e w3⟨⟨j,hj,bb,rfl⟩|⟨ea,rfl⟩,N⟩;rotate_left
 ·have O:nM l p=ν:=by rw[Z a3,M4 l (p+1) ea];rfl
  replace O:=J O;have e4:=J (b0.gb N);clear ea V;go_wp2_with (go_at_call 188;apply(ts X _).mono;rintro e w'⟨rfl,rfl⟩);exact⟨rfl,cT b4 (bk N _) (λk e=>by cases e),ψ ⟨Z O,rfl,_,(Z e4).gb (aJ _ _ ν)⟩⟩
 have a4:=M3 l B D E F G (p+1) hj;rw[bb]at a4;have bj:=λ(W:ω)(e5:jR W T B D E F G Bo Bc)(Y:Nat)(hY:T≠Y/\B≠Y/\D≠Y/\E≠Y/\F≠Y/\G≠Y/\Bo≠Y/\Bc≠Y)(e6:Y<W.heap.size)=>M9 e5 X Y a o n cap l p bM hY e6 hj
 have ee:1<=(bJ (b9 B D E F G) j).k/\(bJ (b9 B D E F G) j).k<=6:=by
  obtain rfl|rfl|rfl|rfl|rfl|rfl|rfl:=qV hj<;>simp[bJ,b9]
 have ei:=dG.au N;have b5:=Nd (L:=l) hj;have b6:=λ(i:Nat)(hi:i<(eI l j).length)(f f':Fr)(p q:Nat)=>M5 (L:=l) (I:=f) (b:=f') (n:=p) (k:=q) hj hi
 have b7:j=2->(eI l j).length=1:=λe=>by rw[e];rfl
 generalize bJ (b9 B D E F G) j=S at *;obtain⟨K,FN,TT,PA,b⟩:=S;simp only at a4 bj ee bb;obtain⟨Y,al⟩:=exq (w3.heap.size+1);have e7:=ei.lt (Y:=Y) (by omega);obtain⟨Q,ax⟩:∃W,W=(w3.alloc (ο #[ι δ K,β FN,ι Δ TT,σ PA b b] 317)).alloc (ο #[ι δ K,ι δ 0,ι η 0,ι η 0,β FN,ς {data:= #[]},σ ν 0 0] 158):=⟨_,rfl⟩
 have g5:γ w3 Q ν:=by rw[ax];exact bk (aJ _ _ _) _
 have gh:Q.heap.size=w3.heap.size+2:=by rw[ax];simp
 have b8:Q.heap[Y]?=μ (ο (bU (cB K FN) (σ ν 0 0)) 158 (0,0)):=by
  rw[ax,al,<-eh w3 (ο #[ι δ K,β FN,ι Δ TT,σ PA b b] 317)];exact aO _ _
 have e8:=ei.au g5;obtain⟨m,gi,ca⟩:=bj Q e8 Y e7 (by omega);have ej:γ w Q (μ X):=cT b4 (aq N g5) (λk e=>by cases e);have ch:=b0.gb (aq N g5);have cj:Q.heap[w.heap.size]?=μ (ο #[ι δ 0,ι δ 0,ι η 0,ι η 0,β θ,ς {data:= #[]},σ ν 0 0] 158 (0,0)):=by
  have e1:=(cT g2 (aq N g5) (λk e=>by cases e)).block w.heap.size (by omega) (λe=>by have:=aQ e;omega);exact e1.trans dx
 have gj:=N.size;have gn:=g2.size;replace⟨bj,b8,cj,a4,ca,b5,b6,b7,ch⟩:=qU bj b8 cj a4 ca b5 b6 b7 ch;replace a9:=J a9;clear V dx ds;have gq:b<=3:=by omega
 replace⟨bb,m,al⟩:=cz bb m al;go_wp2_with fail;rw[<-ax];simp only[<-Z al]
 replace ax:=J ax;have ek:=J CY;have eo:w.heap.size<=Y:=by have:=Z al;omega
 go_loopw [38] (λi wr=>∃(k q:Nat)(f:Fr)(I:υ),k<=b/\i=ι δ k/\fY l t (p+1)=rm ((eI l j).drop k) f q/\cU wr X (σ (μ ⟨a,o,ν⟩) n cap) q p/\wr.heap[Y]?=μ (ο (bU f I) 158 (0,0))/\dL wr f I/\(I=σ ν 0 0\/∃x n c,I=σ (μ x) n c/\w.heap.size<x.block)/\(k<b->f.ranges=[]/\I=σ ν 0 0)/\Gx Q wr X Y/\p+1<=q/\q<=l.length/\f.kind=K) (λi _=>b-(intOf i).toNat);case atStart=>exact⟨0,p+1,cB K FN,_,by omega,rfl,Z a4,Z ch,Z b8,dL.nil _ _ ⟨⟨by simp[cB];omega,by simp[cB];omega⟩,⟨by simp[cB],by simp[cB]⟩,⟨by simp[cB],by simp[cB]⟩,⟨by simp[cB],by simp[cB]⟩,λr hr=>by simp[cB]at hr⟩ rfl (by simp[cB]),φ rfl,λ_=>⟨rfl,rfl⟩,Gx.refl _ _ _,by omega,by omega,rfl⟩
 case round=>
  obtain⟨k,q,f,I,hk,rfl,z,et,u,L,cp,cv,gk,gr,eu,aC⟩:=hrel;have cw:γ w wr (μ X):=((Gx.of (Y:=Y) ej (λk e=>φ (aQ e).symm)).trans gk).gb eo;by_cases e9:k<b
  ·obtain⟨cx,rfl⟩:=cv e9;obtain h0|⟨P,fa,ew,ey,ez⟩:=Z ca
   have:=Z m;omega;obtain⟨wf,wc,rd,y1,y2,R,eC,rfl,hE,eD⟩:=ez k (by have:=Z m;omega);subst fa;replace y1:=gk.cell y1 ew ey;replace y2:=gk.cell y2 ew ey;have a8:=aJ wr (ο #[.func (.func wf) #[] wc,.func (.func R) #[] eC] 356) ν;have fb:Y<wr.heap.size:=(bg.1 u).1;have cy:RC (wr.alloc (ο #[.func (.func wf) #[] wc,.func (.func R) #[] eC] 356)) X Y a o n cap l q p f:=
    ⟨et.gb a8,(fS _ _ _ fb).trans u,Z a9 _ (cT cw a8 (λk e=>by cases e)),xb,by omega,by omega,eu,hl,L.1,cx,L.2.1⟩
   have hC:=eD _ q f (gk.trans (Gx.of a8 (λk e=>by cases e))) cy;have ff:(eI l j)[k]'(by have:=Z m;omega)∈eI l j:=uu _;have cC:(eI l j).drop k=(eI l j)[k]'(by have:=Z m;omega)::(eI l j).drop (k+1):=Bt _;rw[cC]at z;have c9:=Z b5 _ ff f q;have db:=Z b6 k (by have:=Z m;omega) f;generalize (eI l j)[k]'(by have:=Z m;omega)=s at *;have i1:(0:Int)<=k:=by omega
   have i2:(k:Int)<b:=by omega
   have gu:=J gk.size;replace⟨z,u,L,hC,cy,c9,db,aC,cx⟩:=qU z u L hC cy c9 db aC cx;replace cC:=J cC;clear ez cv eD;go_wp2_with fail;apply(Z hC).mono;rintro e w6⟨g6,⟨f',q',fo,hs,rfl,de,fq,⟨fs,eK⟩,fy⟩|⟨hs,rfl,de⟩⟩
   ·replace hs:=J hs;go_wp2;go_roundw;case rel=>
     refine⟨k+1,q',f',fo,by omega,by simp,?_,de,fq,fs,?_,?_,(gk.trans (Gx.of a8 (λk e=>by cases e))).trans g6,?_,fy,?_⟩
     rw[Z z];simp only[rm,Z hs,fL]
     obtain⟨-,h⟩|⟨-,x,n,c,h,H⟩:=eK
     exact φ h;exact ψ ⟨x,n,c,h,by have:=cw.size;simp at H;omega⟩;intro gw;obtain h|⟨h,-⟩:=eK
     exact h;have:=Z b7 (by simpa using h);have:=Z m;omega;have:=Z c9 f' q' (Z hs);omega;rw[Z db f' q q' (Z hs)];exact Z aC
    case measure=>simp[intOf];omega
   refine⟨rfl,?_,ψ ⟨?_,rfl,de⟩⟩
   exact(((Gx.of (Y:=Y) ej (λk e=>φ (aQ e).symm)).trans (gk.trans (Gx.of a8 (λk e=>by cases e)))).trans g6).gb eo;rw[Z a3,Z z];simp only[rm,hs];rfl
  obtain rfl:k=b:=by omega
  rw[List.drop_of_length_le (by have:=Z m;omega)]at z;have a0:=Z a3;rw[z]at a0;simp only[rm,fL]at a0;have br:=B7 f I wr L;obtain⟨A,NN,C,rfl⟩:∃A NN C,I=σ A NN C:=by
   obtain h|⟨x,n,c,h,-⟩:=cp
   exact⟨_,_,_,h⟩
   exact⟨_,_,_,h⟩
  have bt:wr.heap[w.heap.size]?=μ (ο #[ι δ 0,ι δ 0,ι η 0,ι η 0,β θ,ς {data:= #[]},σ ν 0 0] 158 (0,0)):=(gk.block w.heap.size (by omega) (by omega) (by have:=Z al;omega)).trans (Z cj);have bx:cO f↔pY f/\qN f:=⟨λh=>⟨h.1,h.2.1⟩,λh=>⟨h.1,h.2,by rw[aC];exact ee⟩⟩
  have fA:Y<wr.heap.size:=(bg.1 u).1;have ga:w.heap.size<wr.heap.size:=(bg.1 bt).1;obtain⟨kd,sm,of,cd,fin,d,rg⟩:=f;simp only[bU]at u br;replace⟨z,a0,br,bt,bx,u,L,aC⟩:=qT z a0 br bt bx u L aC;clear cv;go_wp2_with (refine pU (by rfl) 158 _ (by rfl) Y (by rfl) 158 _ (0,0) _ (Z u) underlying158 (by rfl) (Z ek) ?_);apply(Z br).mono;rintro e w7⟨⟨bo,rfl,a1⟩,g7⟩;have eL:=et.gb g7;have eS:γ w w7 (μ X):=cT cw g7 (λk e=>by cases e);cases bo
  ·have O:nM l p=ν:=by
    rw[Z a0];exact aB (λh=>by have:=a1.2 ((Z bx).1 h);cases this)
   replace⟨O,a1⟩:=bD O a1;go_wp2_with (go_at_call 188;apply(ts X _).mono;rintro e w'⟨rfl,rfl⟩);exact⟨rfl,eS,ψ ⟨Z O,rfl,q,eL⟩⟩
  have dg:nM l p=μ (⟨kd,sm,of,cd,fin,d,rg⟩,q):=by
   rw[Z a0];exact aG ((Z bx).2 (a1.1 rfl))
  have dk:=(g7.block Y fA (by simp)).trans (Z u);have bz:=(g7.block w.heap.size ga (by simp)).trans (Z bt);obtain⟨r0,r1,r2,r3,r4,r5,r6⟩:=dI bz;have rf:=tM bz;have dn:=(Z L).au g7;replace⟨dg,a1,dk,bz,dn⟩:=fF dg a1 dk bz dn;go_wp2_with (refine pU (by rfl) 158 _ (by rfl) Y (by rfl) 158 _ (0,0) _ (Z dk) underlying158 (by rfl) (Z ek) ?_);refine df (v:=ε #[ι δ kd,ι δ sm,ι η of,ι η cd,β fin,ς d,σ A NN C]) ?_ rfl ?_
  ·simp[results,results190,go_sem,r0,r1,r2,r3,r4,r5,r6]
  have U:∀x,A=μ x->x.block≠w.heap.size:=λx H=>by
   obtain h|⟨y,n,c,h,hy⟩:=cp
   cases h;cases H;cases h;cases H;omega
  exact⟨aM (aM (aM (aM (aM (aM (aM eS _ _ (φ (aP _))) _ _ (φ (aP _))) _ _ (φ (aP _))) _ _ (φ (aP _))) _ _ (φ (aP _))) _ _ (φ (aP _))) _ _ (φ (aP _)),φ ⟨_,q,_,Z dg,rfl,dL.set (dL.set (dL.set (dL.set (dL.set (dL.set (dL.set (Z dn) _ _ U) _ _ U) _ _ U) _ _ U) _ _ U) _ _ U) _ _ U,cp.imp id (λ⟨x,n,c,h,H⟩=>⟨x,n,c,h,Nat.le_of_lt H⟩),cU.nh (cU.nh (cU.nh (cU.nh (cU.nh (cU.nh (cU.nh eL (by omega)) (by omega)) (by omega)) (by omega)) (by omega)) (by omega)) (by omega),by omega,eu⟩⟩
abbrev eQ:=Fr×υ
def mb(l:List eQ):List υ:=l.flatMap λx=>kj x.1 x.2
def Nf(l m:List eQ):mb (l++m)=mb l++mb m:=by simp[mb]
def Ng(l:List eQ):(mb l).length=l.length*7:=by
 induction l with
 |nil=>rfl
 |cons r l a=>simp only[mb,rI,bF,cS,kj,fM]at *;omega
def Nh(l:List eQ)(i:Nat)(h:i<l.length)(j:Nat)(v:υ)(a:(kj l[i].1 l[i].2)[j]?=μ v):(mb l)[i*7+j]?=μ v:=by
 induction l generalizing i with
 |nil=>simp at h
 |cons r l b=>
  have c:j<7:=by
   have:=(lA.1 a).1;simpa [kj]using this
  cases i with
  |zero=>
   simp only[mb,rI,oH,ep]
   rw[mm (by simp[kj];omega)];exact a
  |succ i=>
   simp only[mb,rI]
   rw[mU (by simp[kj];omega)];have e:(i+1)*7+j-(kj r.1 r.2).length=i*7+j:=by simp[kj];omega
   rw[e];exact b i (by simpa using h) (by simpa using a)
def il(w:ω)(a:Nat)(v:υ)(l:List eQ):Prop:=
 w.ownsRow a 158 7 v l.length (mb l)/\∀x∈l,dL w x.1 x.2/\(x.1.ranges≠[]->∀y n c,x.2=σ (μ y) n c->a<=y.block/\v.ownBlock≠μ y.block)
def dL.cM(h:dL w I z)(b:I.ranges≠[]->∀y n c,z=σ (μ y) n c->y.block<w.heap.size->W.heap[y.block]?=w.heap[y.block]?):dL W I z:=by
 obtain⟨d,e,ra,cap,rfl,a⟩:=h;refine⟨d,e,ra,cap,rfl,a.cM (λhl x f=>?_)⟩
 subst f;exact b hl x _ _ rfl (a.lt hl)
def dL.Ni(h:dL w I (σ (μ A) n k))(hl:I.ranges≠[]):A.block<w.heap.size:=by
 obtain⟨b,c,ra,cap,e,a⟩:=h;cases e;exact a.lt hl
def il.lt{l:List eQ}(h:il w n x l):∀k,x.ownBlock=μ k->n<=k/\k<w.heap.size:=h.1.lt
def il.gb{l:List eQ}(h:il w i z l)(g:γ w W N)(b:∀k,N=μ k->k<i:=by simp):il W i z l:=by
 refine⟨h.1.kept g ?_,λx d=>?_⟩
 cases f:z.ownBlock with
 |none=>exact φ rfl
 |some k=>exact ψ (λe=>by have:=b k e.symm;have:=(h.lt k f).1;omega)
 have a:=h.2 x d;refine⟨a.1.cM (λhl y n c e j=>?_),a.2⟩
 exact g.block y.block j (λe2=>by have:=b _ e2.symm;have:=(a.2 hl y n c e).1;omega)
def il.nil(w:ω)(a:Nat):il w a (σ ν 0 0) []:=⟨pr _ _ _ _,λx b=>by simp at b⟩
def Nj:(prog.info? 158).map (λi=>(i.zero,i.size,i.bytes))=μ (μ (ε #[ι δ 0,ι δ 0,ι η 0,ι η 0,β θ,ς ByteArray.empty,σ ν 0 0]),7,80):=by kernel_rfl
def Nk(ty:TypeId)(a:Nat)(v:υ)(l:List eQ)(t:il w a v l)(b c:Nat)(x:eQ)(D:dL w x.1 x.2)(E:x.1.ranges≠[]->∀y n c,x.2=σ (μ y) n c->a<=y.block/\v.ownBlock≠μ y.block)(F:x.2.oneCell'=ρ)(h0:w.rangeAt b 0 (kj x.1 x.2))(S:l.length<=100000000)(G:a<=w.heap.size):
 ∃i k m d,(Builtin.append_ #[92,92] ty #[v,σ (μ ⟨b,0,ν⟩) 1 c]).run prog w=.ok (σ i k m) d/\il d a (σ i k m) (l++[x])/\γ w d v.ownBlock/\((Value.slice i k m).ownBlock=v.ownBlock\/(Value.slice i k m).ownBlock=μ w.heap.size):=by
 obtain⟨H,hi,I,K,f⟩:=lU Nj;obtain⟨L,d,A,M,p,_,q⟩:=run_append_own_at (P:=prog) w a 92 ty 158 H _ 7 80 underlying92 hi I K f rfl (by decide) v l.length (mb l) t.1 ⟨b,0,ν⟩ 1 c (mb [x]) (by simp[mb,kj]) (by
  intro j u N;rw[Addr.add_mid];exact h0 j u (by simpa [mb]using N)) (by
  intro u B;simp[mb,kj]at B;obtain rfl|rfl|rfl|rfl|rfl|rfl|rfl:=B<;>first|rfl|exact F) (by simp[maxLen];omega) (by omega) G
 have r:il d a L (l++[x]):=by
  refine⟨by rw[bF,Nf];exact M,λz O=>?_⟩
  have f:dL w z.1 z.2/\(z.1.ranges≠[]->∀y n c,z.2=σ (μ y) n c->a<=y.block/\v.ownBlock≠μ y.block):=by
   obtain h|h:=bL.1 O
   exact t.2 z h;rw[cA.1 h];exact⟨D,E⟩
  refine⟨f.1.cM (λhl y n c e Q=>p.block y.block Q (λe2=>(f.2 hl y n c e).2 e2.symm)),λhl y n c e=>⟨(f.2 hl y n c e).1,?_⟩⟩
  obtain s|s:=q
  rw[s];exact(f.2 hl y n c e).2;rw[s];have C:=f.1;rw[e]at C;have:=C.Ni hl;exact λR=>by have:=aQ R;omega
 obtain⟨⟨-,⟨rfl,e2⟩|⟨g,cap,T,rfl,_⟩⟩,-⟩:=id r;exact⟨_,_,_,d,A,r,p,q⟩
 exact⟨_,_,_,d,A,r,p,q⟩
def ya{j:Array Oper}{K:Act->ω->Prop}{E:Prop}(k:U.guard=ν)(s x:Operand)
 (ho:U.op=.call {callee:=.builtin .append,args:= #[s,x],argTypes:= #[92,92]})
 (g:Nat) (v:υ) (l:List eQ) (hs:H.eval s=v) (m:il w g v l) (b c:Nat) (a:eQ) (p:dL w a.1 a.2) (q:a.1.ranges≠[]->∀y n c,a.2=σ (μ y) n c->g<=y.block/\v.ownBlock≠μ y.block) (r:a.2.oneCell'=ρ) (t:H.eval x=σ (μ ⟨b,0,ν⟩) 1 c) (h0:w.rangeAt b 0 (kj a.1 a.2)) (z:l.length<=100000000) (A:g<=w.heap.size)
 (h:∀d e f i,il i g (σ d e f) (l++[a])->γ w i v.ownBlock->((Value.slice d e f).ownBlock=v.ownBlock\/(Value.slice d e f).ownBlock=μ w.heap.size)->
   K (H.put U.dst (σ d e f)) i):if Region.wanted U (yielded j H.tmps)=ρ then Oper.wp prog U H w K u else E:=by
 have B:Region.wanted U (yielded j H.tmps)=ρ:=by simp[Region.wanted,k]
 rw[aG B];obtain⟨d,e,f,i,C,D,F,G⟩:=Nk (w:=w) U.type g v l m b c a p q r h0 z A;unfold Oper.wp execOp;simp only[ho,resolve,invoke,builtin,ka,mX,jh,oF,kM,nI,hs,t,C]
 exact h d e f i D F G
def kV(h:w.heap[b]?=μ (ο #[x] T (0,0))):κ w ⟨b,0,ν⟩=μ x/\χ w ⟨b,0,ν⟩=θ:=by
 simp[World.cell?,World.frozen?,h]
def Nl(X a b:Nat)(st:Int)(i ev:υ)(c:List PanicEntry)(w:ω)(j:κ w ⟨X,2,ν⟩=μ (ι δ st))(d:w.heap[a]?=μ (ο #[i] 92 (0,0)))(f:w.heap[b]?=μ (ο #[ev] 97 (0,0)))(n:a≠b):
 CallsD prog 187 #[π (μ ⟨X,0,ν⟩),π (μ ⟨a,0,ν⟩),π (μ ⟨b,0,ν⟩)] (.panicking ({v:=.iface 34 (ι δ 5),recovered:=θ}::c)) w λe k l=>
  e=ξ (τ #[])/\k=.panicking ({v:=.iface 34 (ι δ 5),recovered:=ρ}::c)/\l=((w.alloc (ο #[ι δ 5,ι δ st] 182)).setCell ⟨a,0,ν⟩ (σ ν 0 0)).setCell ⟨b,0,ν⟩ (.iface 177 (π (μ ⟨w.heap.size,0,ν⟩))):=by
 refine callsD_of_wpS func187 rfl λp cs m=>?_
 apply wpS_seq;apply wpS_region;simp[wpOpsS,go_sem,recoverD,m,ntmps187,Exit.thenS];refine wpS_cond (t:=ρ) (by simp[Act.eval,Array.replicate]) ?_;simp only[dC]
 have g:=kV ((fS w (ο #[ι δ 5,ι δ st] 182) a (bg.1 d).1).trans d);have h:=kV ((fS w (ο #[ι δ 5,ι δ st] 182) b (bg.1 f).1).trans f);apply wpS_region;simp[wpOpsS,go_sem,j,g.1,g.2,h.1,h.2,bodyPostS,results,results187]
def Nm(X a b:Nat)(w:ω):
 CallsD prog 187 #[π (μ ⟨X,0,ν⟩),π (μ ⟨a,0,ν⟩),π (μ ⟨b,0,ν⟩)] .returning w λe c d=>e=ξ (τ #[])/\c=.returning/\d=w:=by
 refine callsD_of_wpS func187 rfl λf cs g=>?_
 apply wpS_seq;apply wpS_region;simp[wpOpsS,go_sem,recoverD,g,ntmps187,Exit.thenS];refine wpS_cond (t:=θ) (by simp[Act.eval,Array.replicate]) ?_;simp only[eN,eA]
 refine wpS_of_wp (wp_skip ?_);cases f;simp_all[bodyPostS,results,results187]
def vC(w:ω)(l:List Int)(e:Ending)(b:ω):Prop:=
 γ w b ν/\((∃az a n c,fu l=(μ (az.map (·.1)),-1)/\e=ξ (τ #[σ a n c,.nilIface])/\il b w.heap.size (σ a n c) az)\/
  (∃(p F:Nat),fu l=(ν,(p:Int))/\e=ξ (τ #[σ ν 0 0,.iface 177 (π (μ ⟨F,0,ν⟩))])/\b.heap[F]?=μ (ο #[ι δ 5,ι δ p] 182 (0,0))/\w.heap.size<=F))
def FA.isNone{e:Ending}(h:FA w n x k i ν e W):γ w W (μ n)/\e=PN/\∃a,cU W n x a k:=by
 obtain⟨g,⟨f,q,j,b,-⟩|⟨-,c,d⟩⟩:=h;cases b;exact⟨g,c,d⟩
def FA.isSome{e:Ending}(h:FA w k y i j (μ (I,l)) e W):γ w W (μ k)/\∃A n c,e=ξ (ε (bU I (σ A n c)))/\dL W I (σ A n c)/\((Value.slice A n c)=σ ν 0 0\/∃x d f,(Value.slice A n c)=σ (μ x) d f/\w.heap.size<=x.block)/\cU W k y l i/\i<l/\l<=j:=by
 obtain⟨g,⟨u,v,m,a,p,q,b,r,s,t⟩|⟨a,-,-⟩⟩:=h;cases a;obtain⟨A,n,c,rfl⟩:∃A n c,m=σ A n c:=by
  obtain h|⟨x,n,c,h,-⟩:=b
  exact⟨_,_,_,h⟩
  exact⟨_,_,_,h⟩
 exact⟨g,A,n,c,p,q,b,r,s,t⟩
 cases a
def il.lower{l:List eQ}(h:il w k z l)(f:i<=k):il w i z l:=by
 obtain⟨⟨j,a⟩,b⟩:=h;refine⟨⟨j,?_⟩,λx d=>⟨(b x d).1,λhl y n c e=>⟨bK f ((b x d).2 hl y n c e).1,((b x d).2 hl y n c e).2⟩⟩⟩
 obtain a|⟨g,cap,cur,e1,e2,m⟩:=a
 exact φ a;exact ψ ⟨g,cap,cur,e1,by omega,m⟩
def Gx.Nn(h:Gx w W n i)(b:w.heap.size<=n)(hY:w.heap.size<=i):γ w W ν:=
 ⟨h.os,h.tape,h.output,h.size,λk a _=>h.block k a (by omega) (by omega)⟩
def Ef(w:ω)(o0 o1 a:Obj)(W:ω)(h:W=((w.alloc o0).alloc o1).alloc a):
 W.heap[w.heap.size]?=μ o0/\W.heap[w.heap.size+1]?=μ o1/\W.heap[w.heap.size+1+1]?=μ a/\γ w W ν:=by
 subst h;refine⟨?_,?_,?_,bk (bk (aJ _ _ _) _) _⟩
 all_goals
  simp only[World.alloc,Array.getElem?_push,Array.size_push]
  repeat(first|rw[aG trivial]|rw[iP_]|rw[iN_])
def Eg(a:Array υ)(W:ω)(b c:Nat)(d ev:υ)(e:a.getD 2 undef=π (μ ⟨b,0,ν⟩))(f:a.getD 3 undef=π (μ ⟨c,0,ν⟩))(g:κ W ⟨b,0,ν⟩=μ d)(h:κ W ⟨c,0,ν⟩=μ ev):
 (results f146 a).run prog W=.ok (τ #[d,ev]) W:=by
 rw[Array.getD_eq_getD_getElem?]at e f;simp[results,results146,go_sem,e,f,g,h]
def Eh(c W:ω)(l:List Int)(d:Array υ)(X a b:Nat)(sl j ev:υ)(q st:Nat)(m:cU W X sl q st)(g:W.heap[a]?=μ (ο #[j] 92 (0,0)))(h:W.heap[b]?=μ (ο #[ev] 97 (0,0)))(i:a≠b)(k:γ c W ν)(n:c.heap.size<=a)(p:c.heap.size<=b)(hd:fu l=(ν,(st:Int)))
 (r:d.getD 2 undef=π (μ ⟨a,0,ν⟩)) (s:d.getD 3 undef=π (μ ⟨b,0,ν⟩)):
 Leaves prog f146 d (vC c l) [{target:=.fn (.func 187) #[π (μ ⟨X,0,ν⟩),π (μ ⟨a,0,ν⟩),π (μ ⟨b,0,ν⟩)],args:= #[]}] (.panicking [{v:=.iface 34 (ι δ 5),recovered:=θ}]) W:=by
 refine leaves_cons (f:=187) (args:= #[π (μ ⟨X,0,ν⟩),π (μ ⟨a,0,ν⟩),π (μ ⟨b,0,ν⟩)]) (by simp) (by simp[go_sem]) ?_;apply(Nl X a b st j ev [] W (uW m).2.2.1 g h i).mono;rintro e D E⟨rfl,rfl,rfl⟩;have t:=(bg.1 g).1;have u:=(bg.1 h).1;have w:=(fS W (ο #[ι δ 5,ι δ st] 182) a t).trans g;have x:=(fS W (ο #[ι δ 5,ι δ st] 182) b u).trans h;have y:=heap_set (o:=0) w (σ ν 0 0);have z:=(dK (W.alloc (ο #[ι δ 5,ι δ st] 182)) ⟨a,0,ν⟩ (σ ν 0 0) b (Ne.symm i)).trans x;have A:=heap_set (o:=0) z (.iface 177 (π (μ ⟨W.heap.size,0,ν⟩)));have B:=(dK ((W.alloc (ο #[ι δ 5,ι δ st] 182)).setCell ⟨a,0,ν⟩ (σ ν 0 0)) ⟨b,0,ν⟩ (.iface 177 (π (μ ⟨W.heap.size,0,ν⟩))) a i).trans y;have C:=Eg d _ a b _ _ r s (kV B).1 (kV A).1;refine⟨_,C,aM (aM (bk k _) _ _ (φ n)) _ _ (φ p),ψ ⟨st,W.heap.size,hd,rfl,?_,k.size⟩⟩
 rw[dK _ _ _ _ (by simp;omega),dK _ _ _ _ (by simp;omega)];exact aO _ _
def decode_nil(w:ω)(a:Option Addr)(n cap:Nat)(c:bN w a n cap []):
 Calls prog 146 #[σ a n cap] w (vC w []):=by
 have f:=tr;have d:n=0:=c.2.1;subst d;clear c;go_enter_defers func146,ntmps146;go_wp2_with (go_at_call 188;apply(ts _ _).mono;rintro e g⟨rfl,rfl⟩);have b:=Ef w (ο #[σ ν 0 0] 92) (ο #[.nilIface] 97) (ο #[σ a 0 cap,ι δ 0,ι δ 0] 311) _ rfl;exact Eh w _ [] _ (w.heap.size+1+1) w.heap.size (w.heap.size+1) _ _ _ 0 0 b.2.2.1 b.1 b.2.1 (by omega) b.2.2.2 (aP _) (by omega) (by simp[fu]) rfl rfl
def No(w:ω)(R o n cap:Nat)(l:List Int)(aa:bN w (μ ⟨R,o,ν⟩) n cap l)(h0:0<l.length)(hl:l.length<=100000000):
 Calls prog 146 #[σ (μ ⟨R,o,ν⟩) n cap] w (vC w l):=by
 have ej:=tr;have hn:n=l.length:=aa.2.1;have e0:((n:Int)==0)=θ:=by simp;omega
 have ek:R<w.heap.size:=by
  obtain⟨b1,o1,e1,h1⟩:=uX aa;cases e1;exact eZ w _ (h1 0 (by omega))
 replace hn:=J hn;go_enter_defers func146,ntmps146;go_wp2_with fail;obtain⟨W3,bb⟩:=exq ((((w.alloc (ο #[σ ν 0 0] 92)).alloc (ο #[.nilIface] 97)).alloc (ο #[σ (μ ⟨R,o,ν⟩) n cap,ι δ 0,ι δ 0] 311)));obtain⟨br,bt,a4,g3⟩:=Ef w _ _ _ _ bb;have eo:W3.heap.size=w.heap.size+3:=by rw[bb];simp
 rw[<-bb];replace bb:=J bb;obtain⟨i,cp⟩:=exq w.heap.size;obtain⟨s,cv⟩:=exq (w.heap.size+1);obtain⟨X,cw⟩:=exq (w.heap.size+1+1);simp only[<-cw]at a4⊢;simp only[<-cv]at bt⊢;simp only[<-cp]at br⊢;have z:Hid (w.heap.size=i/\s=i+1/\X=i+2):=J (by omega);replace a4:cU W3 X (σ (μ ⟨R,o,ν⟩) n cap) 0 0:=a4;clear cp cv cw;apply(CU W3).mono;rintro e E⟨T,P2,P3,P4,P5,P6,Bo,Bc,rfl,hT,g1⟩;have bx:=(g1.block i (by have:=Z z;omega) (by simp)).trans br;have b6:=(g1.block s (by have:=Z z;omega) (by simp)).trans bt;have bz:=a4.gb g1;have cx:=aq g3 g1;have et:=g1.size;have b8:fu l=iJ l (l.length+1) 0 ([]:List eQ).unzip.1:=by unfold fu;rw[iN_];rfl
 have dn:=hT.ne (uW bz).1;have ds:=hT.ne (kV bx).1;replace⟨br,bt,a4,bx,b6,bz,b8⟩:=iU br bt a4 bx b6 bz b8;go_wp2;go_loopg [15] l.length (λgh _ wr=>∃(q st k:Nat)(az:List eQ)(a:Option Addr)(m c:Nat),gh=l.length-q/\q<=l.length/\az.length<=q/\cU wr X (σ (μ ⟨R,o,ν⟩) n cap) q st/\wr.heap[i]?=μ (ο #[σ a m c] 92 (0,0))/\wr.heap[s]?=μ (ο #[.nilIface] 97 (0,0))/\il wr E.heap.size (σ a m c) az/\Gx E wr X i/\fu l=iJ l k q (az.map (·.1))/\l.length-q<k);case atStart=>exact⟨0,0,l.length+1,[],ν,0,0,by omega,by omega,by simp,Z bz,Z bx,Z b6,il.nil _ _,Gx.refl _ _ _,Z b8,by omega⟩
 case round=>
  obtain⟨q,st,k,az,a,m,c,rfl,hq,eu,a0,N,S,a1,gr,a2,hk⟩:=hrel;obtain⟨y0,y1,y2,yf⟩:=uW a0;have ca:γ w wr ν:=((Gx.of (X:=X) (Y:=i) cx (λk e=>by cases e)).trans gr).Nn (by have:=Z z;omega) (by have:=Z z;omega);by_cases bM:q<l.length
  ·have dx:(q:Int)<n:=by have:=Z hn;omega
   have cy:=hT.gx gr dn ds;have cC:=aa.au ca;have hF:=Ee wr X T P2 P3 P4 P5 P6 Bo Bc R o n cap l q st cy a0 cC (by have:=Z z;omega) bM hl;have a8:=Ee wr.drew X T P2 P3 P4 P5 P6 Bo Bc R o n cap l q st (cy.au (aY (aD _ _))) a0 (cC.au (aY (aD _ _))) (by have:=Z z;omega) bM hl;obtain⟨z0,zf⟩:=kV N;obtain⟨k',rfl⟩:∃k',k=k'+1:=⟨k-1,by omega⟩
   have b0:Hid (∀(W:ω)(p':Nat)(bj:Array υ),γ wr W (μ X)->cU W X (σ (μ ⟨R,o,ν⟩) n cap) p' q->nM l q=ν->bj.getD 2 undef=π (μ ⟨i,0,ν⟩)->bj.getD 3 undef=π (μ ⟨s,0,ν⟩)->Leaves prog f146 bj (vC w l) [{target:=.fn (.func 187) #[π (μ ⟨X,0,ν⟩),π (μ ⟨i,0,ν⟩),π (μ ⟨s,0,ν⟩)],args:= #[]}] (.panicking [{v:=.iface 34 (ι δ 5),recovered:=θ}]) W):=J (λW p' bj g hX hf h2 h3=>by
    refine Eh w W l bj X i s _ _ _ p' q hX ((g.block i (bg.1 N).1 (λe=>by have:=aQ e;have:=Z z;omega)).trans N) ((g.block s (bg.1 S).1 (λe=>by have:=aQ e;have:=Z z;omega)).trans S) (by have:=Z z;omega) (cT ca g (λj e=>φ (by cases e;have:=Z z;omega))) (by have:=Z z;omega) (by have:=Z z;omega) ?_ h2 h3;rw[a2];simp only[iJ]
    rw[aG bM,hf])
   have b3:Hid (∀(W p:ω)(f:Fr)(t:Nat)(A:Option Addr)(u C:Nat),γ wr W ν->W.heap.size=wr.heap.size->γ W p (μ X)->dL p f (σ A u C)->((Value.slice A u C)=σ ν 0 0\/∃x n c,(Value.slice A u C)=σ (μ x) n c/\W.heap.size<=x.block)->il p E.heap.size (σ a m c) az/\(f.ranges≠[]->∀y n' c',Value.slice A u C=σ (μ y) n' c'->E.heap.size<=y.block/\(Value.slice a m c).ownBlock≠μ y.block)/\p.heap[i]?=μ (ο #[σ a m c] 92 (0,0))/\p.heap[s]?=μ (ο #[.nilIface] 97 (0,0))/\E.heap.size<=p.heap.size/\Gx E p X i):=J (λW p f t A u C gW ew O hv hn=>by
    have gA:γ wr p (μ X):=cT (dy gW (μ X)) O (λj e=>ψ rfl);have hz:=gr.size;refine⟨a1.gb gA (λj e=>by cases e;have:=Z z;omega),λey y n' c' e=>?_,(gA.block i (bg.1 N).1 (λe=>by have:=aQ e;have:=Z z;omega)).trans N,(gA.block s (bg.1 S).1 (λe=>by have:=aQ e;have:=Z z;omega)).trans S,bK hz gA.size,gr.trans (Gx.of gA (λj e=>φ (aQ e).symm))⟩
    obtain h|⟨x,n2,c2,h,hx⟩:=hn
    rw[h]at e;cases e
    ·rw[h]at e;cases e;exact⟨by omega,λe2=>by have:=(a1.lt _ e2).2;omega⟩)
   cases ax:nM l q with
   |none=>
    rw[ax]at a8;have U:=a8.mono (λe W(h:FA _ _ _ _ _ ν e W)=>h.isNone);replace⟨ax,U,a0,N,S,a1,a2⟩:=iU ax U a0 N S a1 a2;clear hF a8 b3;go_wp2_with fail;refine wp_region_any (by kernel_rfl) ?_;try(change wpAny _ _ _ _ _ _ _ (World.drew _))
    refine jk (rs:=[0,1]) (by kernel_rfl) (by simp) ?_;refine gQ rfl (λK b=>?_) (gQ rfl (λK b=>?_) ji)
    ·go_simp;refine b _ _ ?_;clear b K;refine jk (rs:=[1]) (by kernel_rfl) (by simp) ?_;refine gQ rfl (λK b=>?_) ji;go_simp;refine b _ _ ?_;clear b K;refine jk (rs:=[2]) (by kernel_rfl) (by simp) ?_;refine gQ rfl (λK b=>?_) ji;go_simp;apply(Z U).mono;rintro e p⟨O,rfl,p',G⟩;exact Z b0 _ _ _ (cT (dy (aY (aD _ _)) _) O (λj e=>ψ rfl)) G (Z ax) rfl rfl
    go_simp;refine b _ _ ?_;clear b K;refine jk (rs:=[0,2]) (by kernel_rfl) (by simp) ?_;refine gQ rfl (λK b=>?_) (gQ rfl (λK b=>?_) ji)
    ·go_simp;refine b _ _ ?_;clear b K;refine jk (rs:=[2]) (by kernel_rfl) (by simp) ?_;refine gQ rfl (λK b=>?_) ji;go_simp;apply(Z U).mono;rintro e p⟨O,rfl,p',G⟩;exact Z b0 _ _ _ (cT (dy (aY (aD _ _)) _) O (λj e=>ψ rfl)) G (Z ax) rfl rfl
    go_simp;apply(Z U).mono;rintro e p⟨O,rfl,p',G⟩;exact Z b0 _ _ _ (cT (dy (aY (aD _ _)) _) O (λj e=>ψ rfl)) G (Z ax) rfl rfl
   |some fq=>
    obtain⟨⟨P,sm,of,cd,fin,d,rg⟩,t⟩:=fq;rw[ax]at a8;have U:=a8.mono (λe W(h:FA _ _ _ _ _ (μ _) e W)=>h.isSome);simp only[bU]at U;have aC:fu l=iJ l k' t (az.map (·.1)++[⟨P,sm,of,cd,fin,d,rg⟩]):=by
     rw[a2];simp only[iJ]
     rw[aG bM,ax]
    have b4:Hid (∀(p F:ω)(ob:Obj)(it:eQ)(a7:Option Addr)(D c7 t:Nat),cU p X (σ (μ ⟨R,o,ν⟩) n cap) t q->p.heap[i]?=μ (ο #[σ a m c] 92 (0,0))->p.heap[s]?=μ (ο #[.nilIface] 97 (0,0))->Gx E p X i->il (p.alloc ob) E.heap.size (σ a m c) az->(p.alloc ob).grownBy F (Value.slice a m c).ownBlock->il F E.heap.size (σ a7 D c7) (az++[it])->
     F.heap[i]?=μ (ο #[σ a m c] 92 (0,0))/\cU (ζ F ⟨i,0,ν⟩ (σ a7 D c7)) X (σ (μ ⟨R,o,ν⟩) n cap) t q/\(ζ F ⟨i,0,ν⟩ (σ a7 D c7)).heap[i]?=μ (ο #[σ a7 D c7] 92 (0,0))/\(ζ F ⟨i,0,ν⟩ (σ a7 D c7)).heap[s]?=μ (ο #[.nilIface] 97 (0,0))/\il (ζ F ⟨i,0,ν⟩ (σ a7 D c7)) E.heap.size (σ a7 D c7) (az++[it])/\Gx E (ζ F ⟨i,0,ν⟩ (σ a7 D c7)) X i):=J (λp F ob it a7 D c7 t hx hl he gx hA Q I=>by
     have h1:=Z z;have b5:∀B,B<E.heap.size->B<p.heap.size->F.heap[B]?=p.heap[B]? :=λB hB dE=>(Q.block B (by simp;omega) (λe=>by have:=(hA.lt B e.symm).1;omega)).trans (fS _ _ _ dE)
     have dG:=gx.size;have c9:=(b5 i (by omega) (by omega)).trans hl;have ea:=(b5 s (by omega) (by omega)).trans he;have ee:cU F X (σ (μ ⟨R,o,ν⟩) n cap) t q:=(b5 X (by omega) (by omega)).trans hx;have ei:Gx E F X i:=⟨Q.os.trans gx.os,Q.tape.trans gx.tape,Q.output.trans gx.output,bK dG (bK (by simp) Q.size),λk hk h2 h3=>(b5 k hk (by omega)).trans (gx.block k hk h2 h3)⟩
     refine⟨c9,ee.nh (by omega),heap_set c9 _,(dK _ _ _ _ (by show s≠i;omega)).trans ea,I.gb (aM (aD _ _) _ _ (ψ rfl)) (λk e=>by cases e;show i<E.heap.size;omega),ei.set _ _ (ψ (φ rfl))⟩)
    replace⟨ax,U,a0,N,S,a1,a2,aC⟩:=qT ax U a0 N S a1 a2 aC;clear hF a8 b0;go_wp2_with fail;refine wp_region_any (by kernel_rfl) ?_;try(change wpAny _ _ _ _ _ _ _ (World.drew _))
    refine jk (rs:=[0,1]) (by kernel_rfl) (by simp) ?_;refine gQ rfl (λK b=>?_) (gQ rfl (λK b=>?_) ji)
    ·go_simp;refine b _ _ ?_;clear b K;refine jk (rs:=[1]) (by kernel_rfl) (by simp) ?_;refine gQ rfl (λK b=>?_) ji;go_simp;refine b _ _ ?_;clear b K;refine jk (rs:=[2]) (by kernel_rfl) (by simp) ?_;refine gQ rfl (λK b=>?_) ji;go_simp;apply(Z U).mono;rintro e p⟨O,A,u,C,rfl,M,al,G,db,a9⟩;obtain⟨L,V,H,e5,s5,x5⟩:=Z b3 _ p _ t A u C (aY (aD _ _)) rfl O M al;obtain⟨de,dg⟩:=kV H;have dk:=(bg.1 H).1;replace⟨H,e5,L,V,M,G,al⟩:=iU H e5 L V M G al;refine b _ _ ?_;clear b K;refine jk (rs:=[3]) (by kernel_rfl) (by simp) ?_;refine gQ rfl (λK b=>?_) ji;go_simp;refine b _ _ ?_;clear b K;refine jk (rs:=[4]) (by kernel_rfl) (by simp) ?_;refine gQ rfl (λK b=>?_) ji;refine ya (by rfl) _ _ (by rfl) E.heap.size _ az (by rfl) ((Z L).gb (aJ _ _ ν) (λk e=>by cases e)) p.heap.size 1 (⟨P,sm,of,cd,fin,d,rg⟩,σ A u C) ((Z M).au (aJ _ _ ν)) (Z V) (by rfl) (by rfl) (kN (aO _ _)) (by omega) (by simp;omega) ?_;intro a7 D c7 F I Q b7;have a3:=(Z L).gb (aJ p (ο #[ι δ P,ι δ sm,ι η of,ι η cd,β fin,ς d,σ A u C] 158) ν) (λk e=>by cases e);have r:=Z b4 p F _ _ a7 D c7 t (Z G) (Z H) (Z e5) x5 a3 Q I;obtain⟨ch,cj⟩:=kV r.1;replace⟨r,I⟩:=bD r I;refine b _ _ ?_;clear b K;refine jk (rs:=[5]) (by kernel_rfl) (by simp) ?_;refine gQ rfl (λK b=>?_) ji;go_simp;refine b _ _ ?_;clear b K;refine wpAny_done (by kernel_rfl) ?_ _;go_wp2;go_roundg (l.length-t);case measure=>omega
     case rel=>exact⟨t,q,k',az++[(⟨P,sm,of,cd,fin,d,rg⟩,σ A u C)],a7,D,c7,rfl,a9,by simp;omega,(Z r).2.1,(Z r).2.2.1,(Z r).2.2.2.1,(Z r).2.2.2.2.1,(Z r).2.2.2.2.2,by rw[Z aC];simp,by omega⟩
    go_simp;refine b _ _ ?_;clear b K;refine jk (rs:=[0,2]) (by kernel_rfl) (by simp) ?_;refine gQ rfl (λK b=>?_) (gQ rfl (λK b=>?_) ji)
    ·go_simp;refine b _ _ ?_;clear b K;refine jk (rs:=[2]) (by kernel_rfl) (by simp) ?_;refine gQ rfl (λK b=>?_) ji;go_simp;apply(Z U).mono;rintro e p⟨O,A,u,C,rfl,M,al,G,db,a9⟩;obtain⟨L,V,H,e5,s5,x5⟩:=Z b3 _ p _ t A u C (aY (aD _ _)) rfl O M al;obtain⟨de,dg⟩:=kV H;have dk:=(bg.1 H).1;replace⟨H,e5,L,V,M,G,al⟩:=iU H e5 L V M G al;refine b _ _ ?_;clear b K;refine jk (rs:=[3]) (by kernel_rfl) (by simp) ?_;refine gQ rfl (λK b=>?_) ji;go_simp;refine b _ _ ?_;clear b K;refine jk (rs:=[4]) (by kernel_rfl) (by simp) ?_;refine gQ rfl (λK b=>?_) ji;refine ya (by rfl) _ _ (by rfl) E.heap.size _ az (by rfl) ((Z L).gb (aJ _ _ ν) (λk e=>by cases e)) p.heap.size 1 (⟨P,sm,of,cd,fin,d,rg⟩,σ A u C) ((Z M).au (aJ _ _ ν)) (Z V) (by rfl) (by rfl) (kN (aO _ _)) (by omega) (by simp;omega) ?_;intro a7 D c7 F I Q b7;have a3:=(Z L).gb (aJ p (ο #[ι δ P,ι δ sm,ι η of,ι η cd,β fin,ς d,σ A u C] 158) ν) (λk e=>by cases e);have r:=Z b4 p F _ _ a7 D c7 t (Z G) (Z H) (Z e5) x5 a3 Q I;obtain⟨ch,cj⟩:=kV r.1;replace⟨r,I⟩:=bD r I;refine b _ _ ?_;clear b K;refine jk (rs:=[5]) (by kernel_rfl) (by simp) ?_;refine gQ rfl (λK b=>?_) ji;go_simp;refine b _ _ ?_;clear b K;refine wpAny_done (by kernel_rfl) ?_ _;go_wp2;go_roundg (l.length-t);case measure=>omega
     case rel=>exact⟨t,q,k',az++[(⟨P,sm,of,cd,fin,d,rg⟩,σ A u C)],a7,D,c7,rfl,a9,by simp;omega,(Z r).2.1,(Z r).2.2.1,(Z r).2.2.2.1,(Z r).2.2.2.2.1,(Z r).2.2.2.2.2,by rw[Z aC];simp,by omega⟩
    go_simp;apply(Z U).mono;rintro e p⟨O,A,u,C,rfl,M,al,G,db,a9⟩;obtain⟨L,V,H,e5,s5,x5⟩:=Z b3 _ p _ t A u C (aY (aD _ _)) rfl O M al;obtain⟨de,dg⟩:=kV H;have dk:=(bg.1 H).1;replace⟨H,e5,L,V,M,G,al⟩:=iU H e5 L V M G al;refine b _ _ ?_;clear b K;refine jk (rs:=[0,3]) (by kernel_rfl) (by simp) ?_;refine gQ rfl (λK b=>?_) (gQ rfl (λK b=>?_) ji)
    ·go_simp;refine b _ _ ?_;clear b K;refine jk (rs:=[3]) (by kernel_rfl) (by simp) ?_;refine gQ rfl (λK b=>?_) ji;go_simp;refine b _ _ ?_;clear b K;refine jk (rs:=[4]) (by kernel_rfl) (by simp) ?_;refine gQ rfl (λK b=>?_) ji;refine ya (by rfl) _ _ (by rfl) E.heap.size _ az (by rfl) ((Z L).gb (aJ _ _ ν) (λk e=>by cases e)) p.heap.size 1 (⟨P,sm,of,cd,fin,d,rg⟩,σ A u C) ((Z M).au (aJ _ _ ν)) (Z V) (by rfl) (by rfl) (kN (aO _ _)) (by omega) (by simp;omega) ?_;intro a7 D c7 F I Q b7;have a3:=(Z L).gb (aJ p (ο #[ι δ P,ι δ sm,ι η of,ι η cd,β fin,ς d,σ A u C] 158) ν) (λk e=>by cases e);have r:=Z b4 p F _ _ a7 D c7 t (Z G) (Z H) (Z e5) x5 a3 Q I;obtain⟨ch,cj⟩:=kV r.1;replace⟨r,I⟩:=bD r I;refine b _ _ ?_;clear b K;refine jk (rs:=[5]) (by kernel_rfl) (by simp) ?_;refine gQ rfl (λK b=>?_) ji;go_simp;refine b _ _ ?_;clear b K;refine wpAny_done (by kernel_rfl) ?_ _;go_wp2;go_roundg (l.length-t);case measure=>omega
     case rel=>exact⟨t,q,k',az++[(⟨P,sm,of,cd,fin,d,rg⟩,σ A u C)],a7,D,c7,rfl,a9,by simp;omega,(Z r).2.1,(Z r).2.2.1,(Z r).2.2.2.1,(Z r).2.2.2.2.1,(Z r).2.2.2.2.2,by rw[Z aC];simp,by omega⟩
    go_simp;refine b _ _ ?_;clear b K;refine jk (rs:=[0]) (by kernel_rfl) (by simp) ?_;refine gQ rfl (λK b=>?_) ji;go_simp;refine b _ _ ?_;clear b K;refine jk (rs:=[4]) (by kernel_rfl) (by simp) ?_;refine gQ rfl (λK b=>?_) ji;refine ya (by rfl) _ _ (by rfl) E.heap.size _ az (by rfl) ((Z L).gb (aJ _ _ ν) (λk e=>by cases e)) p.heap.size 1 (⟨P,sm,of,cd,fin,d,rg⟩,σ A u C) ((Z M).au (aJ _ _ ν)) (Z V) (by rfl) (by rfl) (kN (aO _ _)) (by omega) (by simp;omega) ?_;intro a7 D c7 F I Q b7;have a3:=(Z L).gb (aJ p (ο #[ι δ P,ι δ sm,ι η of,ι η cd,β fin,ς d,σ A u C] 158) ν) (λk e=>by cases e);have r:=Z b4 p F _ _ a7 D c7 t (Z G) (Z H) (Z e5) x5 a3 Q I;obtain⟨ch,cj⟩:=kV r.1;replace⟨r,I⟩:=bD r I;refine b _ _ ?_;clear b K;refine jk (rs:=[5]) (by kernel_rfl) (by simp) ?_;refine gQ rfl (λK b=>?_) ji;go_simp;refine b _ _ ?_;clear b K;refine wpAny_done (by kernel_rfl) ?_ _;go_wp2;go_roundg (l.length-t);case measure=>omega
    case rel=>exact⟨t,q,k',az++[(⟨P,sm,of,cd,fin,d,rg⟩,σ A u C)],a7,D,c7,rfl,a9,by simp;omega,(Z r).2.1,(Z r).2.2.1,(Z r).2.2.2.1,(Z r).2.2.2.2.1,(Z r).2.2.2.2.2,by rw[Z aC];simp,by omega⟩
  obtain rfl:q=l.length:=by omega
  have dx:¬(l.length:Int)<(n:Int):=by have:=Z hn;omega
  obtain⟨z0,zf⟩:=kV N;obtain⟨z1,zg⟩:=kV S;obtain⟨k',rfl⟩:∃k',k=k'+1:=⟨k-1,by omega⟩
  have aC:fu l=(μ (az.map (·.1)),-1):=by
   rw[a2];simp only[iJ]
   rw[iN_]
  have ez:i≠s:=by have:=Z z;omega
  have eC:=J (Z z);replace⟨aC,a2,a0,N,S,a1⟩:=pH aC a2 a0 N S a1;go_wp2_with fail;have l1:=heap_set (o:=0) (Z N) (σ a m c);have l2:=(dK wr ⟨i,0,ν⟩ (σ a m c) s (by show s≠i;omega)).trans (Z S);have l3:=heap_set (o:=0) l2 .nilIface;have l4:=(dK (ζ wr ⟨i,0,ν⟩ (σ a m c)) ⟨s,0,ν⟩ .nilIface i (by show i≠s;omega)).trans l1;refine leaves_cons (f:=187) (args:= #[π (μ ⟨X,0,ν⟩),π (μ ⟨i,0,ν⟩),π (μ ⟨s,0,ν⟩)]) (by simp) (by simp[go_sem]) ?_;apply(Nm X i s _).mono;rintro e u' eD⟨rfl,rfl,rfl⟩;have hO:=((Z a1).gb (aM (aD wr _) ⟨i,0,ν⟩ (σ a m c) (ψ rfl)) (λk e=>by cases e;show i<E.heap.size;have:=Z z;omega)).gb (aM (aD _ _) ⟨s,0,ν⟩ .nilIface (ψ rfl)) (λk e=>by cases e;show s<E.heap.size;have:=Z z;omega);refine⟨_,Eg _ _ i s (σ a m c) .nilIface rfl rfl (kV l4).1 (kV l3).1,aM (aM ca _ _ (φ (by show w.heap.size<=i;have:=Z z;omega))) _ _ (φ (by show w.heap.size<=s;have:=Z z;omega)),φ ⟨az,a,m,c,Z aC,rfl,hO.lower cx.size⟩⟩
def PW(w:ω)(X:Nat)(sl:υ)(p:Nat)(bad:Bool):Prop:=w.heap[X]?=μ (ο #[sl,ι δ p,β bad] 218 (0,0))
structure PX(w:ω)(X a o n cap:Nat)(l:List Int)(p:Nat)(bad:Bool):Prop where
 x:PW w X (σ (μ ⟨a,o,ν⟩) n cap) p bad
 b:bN w (μ ⟨a,o,ν⟩) n cap l
 xb:a≠X
 hp:p<=l.length
 hl:l.length<=100000000
structure ST(w:ω)(X Y bb o n cap:Nat)(l:List Int)(W:ω)(q:Nat)(bad:Bool)(v0 v1 v2 v3 v4 v5 v6:υ):Prop where
 rc:PX W X bb o n cap l q bad
 y:W.heap[Y]?=μ (ο #[v0,v1,v2,v3,v4,v5,v6] 158 (0,0))
 g:γ w W (μ X)
 r:W.heap[w.heap.size]?=μ (ο #[ι δ 0,ι δ 0,ι η 0,ι η 0,β θ,ς {data:= #[]},σ ν 0 0] 158 (0,0))
 xy:X<w.heap.size
 wy:w.heap.size<Y
 T2:bb<w.heap.size
section
variable {w:ω} {X Y bb o n cap:Nat} {l:List Int} {W W':ω} {q q':Nat} {bad bad':Bool} {v0 v1 v2 v3 v4 v5 v6:υ}
end
def Cut(w:ω)(X Y b o n cap:Nat)(l:List Int)(t:Int)(p:Nat)(W:ω):Prop:=
 (∃(f:Fr)(q:Nat)(A:Option Addr)(a C:Nat),fY l t (p+1)=μ (f,q)/\ST w X Y b o n cap l W q θ (ι δ f.kind) (ι δ f.stream) (ι η f.offset) (ι η f.code) (β f.fin) (ς f.data) (σ A a C)/\dL W f (σ A a C)/\(∀x,A=μ x->Y<x.block))\/
 (fY l t (p+1)=ν/\∃(q:Nat)(c d e k3:Int)(k4:Bool)(k5:ByteArray)(A:Option Addr)(a C:Nat),ST w X Y b o n cap l W q ρ (ι δ c) (ι δ d) (ι η e) (ι η k3) (β k4) (ς k5) (σ A a C))
