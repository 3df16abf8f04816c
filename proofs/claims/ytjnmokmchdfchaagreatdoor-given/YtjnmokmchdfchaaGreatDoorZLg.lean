import Derived.Test.YtjnmokmchdfchaaGreatDoorZLd
import Derived.Test.YtjnmokmchdfchaaGreatDoorZLf
set_option maxRecDepth 1000000
set_option maxHeartbeats 0
set_option linter.all false
namespace Go.Proofs.YtjnmokmchdfchaaGreatDoor
open Go.RowKit Tryz
open Go.Value renaming int→ι,slice→σ,bool→β,pointer→π,agg→ε,string→ς,tuple→τ
open Go.IntKind renaming i64→δ,u64→η,u8→Δ
open Go.Ending renaming returned→ξ
open Go.Obj renaming cells→ο
open Or renaming inl→φ,inr→ψ
open Option renaming some→μ,none→ν
open Bool renaming true→ρ,false→θ
open Go renaming World→ω,Value→υ
open Go.World renaming grownBy→γ,cell?→κ,frozen?→χ,setCell→ζ
attribute[local go_sem↓]Go.wp_at_zero Go.wp_at_succ
section
variable{C c:Array υ}{p r:Int}{L:List Int}{b i j k l n:Nat}{P S:Nat->Prop}{a:Option Addr}{G:Ot}{s:Sd}{T:TypeId}{x y z:υ}{V W w:ω}{d:bf}
def Ot.next(o:Ot)(d:Du)(a:Int):Pc×Bool:=
 if o.sG then(⟨⟨0,0⟩,d.e,d.g⟩,d.g&&decide (2+bZ o.code+bZ o.av<=a))else o.dQ d.l d.e a
def Ot.cK(o:Ot)(k:Nat)(p:Pc):Fr:=
 if p.g then⟨4,k,o.av,o.code,θ,⟨#[]⟩,[]⟩
 else⟨5,k,p.x.lo,0,p.e,strOfNums ((o.h.bytes.drop (p.x.lo-o.h.fr).toNat).take (p.x.hi-p.x.lo).toNat),[]⟩
def Ot.iP(o:Ot)(p:Pc):Ot:=if p.g then o else{o with av:=max o.av p.x.hi}
structure Ld where
 o:Ot
 d:Du
 fr:List Int
 ps:List Pc
def Ld.step(x:Ld)(k:Nat)(p:Pc):Ld:=⟨x.o.iP p,x.d.leave p,x.fr++bA [x.o.cK k p],x.ps++[p]⟩
def fg(k:Nat)(a:Int):Nat->Ld->Ld
 |0,x=>x
 |n+1,x=>if(x.o.next x.d (a-x.fr.length)).2 then fg k a n (x.step k (x.o.next x.d (a-x.fr.length)).1)else x
def fv(o:Ot)(d:Du):Prop:=aU d.l/\∀m,Sm d.l m->o.h.fr<=m/\m<o.en
def fv.mem{d:Du}(h:fv G d){r:Rg}(a:r∈d.l):G.h.fr<=r.lo/\r.lo<r.hi/\r.hi<=G.en:=by
 have b:=h.1.2 r a;have c:=h.2 r.lo ⟨r,a,cE _,b⟩;have e:=h.2 (r.hi-1) ⟨r,a,by omega,by omega⟩;omega
def fv.leave{d:Du}(h:fv G d)(p:Pc):fv G (d.leave p):=⟨qO _ h.1,λm a=>h.2 m ((rO _ m).1 a).1⟩
def KP(h0:0<=p)(h:p<=iY r)(a:r<=1000):bZ p+p<=r:=by
 unfold iY at h;unfold bZ;split at h;rw[iP_];omega;split at h;rw[iP_];omega;split;omega;rw[iP_];omega
def tA{d:Du}(h:fv G d)(c:p<=1000)(a:(G.dQ d.l d.e p).2=ρ)(f:0<=G.h.fr):
 G.h.fr<=(G.dQ d.l d.e p).1.x.lo/\(G.dQ d.l d.e p).1.x.lo<=(G.dQ d.l d.e p).1.x.hi/\(G.dQ d.l d.e p).1.x.hi<=G.en/\(G.dQ d.l d.e p).1.g=θ/\
  2+bZ (G.dQ d.l d.e p).1.x.lo+bZ ((G.dQ d.l d.e p).1.x.hi-(G.dQ d.l d.e p).1.x.lo)+((G.dQ d.l d.e p).1.x.hi-(G.dQ d.l d.e p).1.x.lo)<=p:=by
 have j:G.h.fr<=(G.eE d.l).lo/\(G.eE d.l).lo<=(G.eE d.l).hi/\(G.eE d.l).hi<=G.en:=by
  unfold Ot.eE;split;simp only;unfold Ot.en;omega;rename_i h0;have:=h.mem (kh (Y:=d.l) (i:=0) (by omega));omega
 unfold Ot.dQ at a⊢;generalize G.eE d.l=x at *;have hs:0<bZ x.lo:=by unfold bZ;split<;>(try split)<;>(try split)<;>omega
 by_cases b:iY (p-(2+bZ x.lo))<0;rw[aG b]at a;cases a;rw[aB b]at a⊢;simp only
 have:=KP (r:=p-(2+bZ x.lo)) (p:=min x.hi (x.lo+iY (p-(2+bZ x.lo)))-x.lo) (by omega) (by omega) (by omega);refine⟨by omega,by omega,by omega,trivial,by omega⟩
def KQ(w:ω)(sb oo:Nat)(ab:Option Addr)(nb cb:Nat)(ac:Option Addr)(nc cc:Nat)(o:Ot)(H:gZ w sb oo ab nb cb ac nc cc o.h)(T:kn w sb oo o)(a:Option Addr)(n cap:Nat)(d:Du)(hs:bq w a n cap d.l)(b:Int)(f: -1000<=b/\b<=1000)(hd:fv o d)(k:0<=o.h.fr/\o.en<=4611686018427387903):
 Calls prog 242 #[π (μ ⟨sb,oo,ν⟩),ε #[σ a n cap,β d.e,β d.g],ι δ b] w λr i=>r=ξ (τ #[ε (pA (o.next d b).1),β (o.next d b).2])/\γ w i ν:=by
 unfold Ot.next;cases c:o.sG;simp only[eN,eA]
 exact Jq w sb oo ab nb cb ac nc cc o H T c a n cap d.l hs d.e d.g b f (λr j=>by have:=hd.mem j;omega);simp only[dC]
 exact IP w sb oo o T c (σ a n cap) d.e d.g b
structure Wx(N:Nat)(w b:ω)(sb:Nat)(v a:bf)(X:Nat->Prop):Prop where
 aA:ay w b (λk=>cG sb v k\/X k)
 ft:∀k,cG sb a k->cG sb v k\/w.heap.size<=k
 ar:∀k,eV sb a k->eV sb v k\/N<=k
def Wx.of{a:bf}(h:dz n w W k d a)(X:Nat->Prop):Wx n w W k d a X:=⟨h.aA.mono (λ_ _ h=>φ h),h.ft,h.ar⟩
def Wx.rfl'(N:Nat)(w:ω)(sb:Nat)(v:bf)(X:Nat->Prop):Wx N w w sb v v X:=⟨ay.rfl' _ _,λ_ h=>φ h,λ_ h=>φ h⟩
def Wx.trans{v x:bf}(h:Wx n w W j d v S)(k:Wx n W V j v x S):Wx n w V j d x S:=by
 refine⟨⟨k.aA.os.trans h.aA.os,k.aA.tape.trans h.aA.tape,k.aA.output.trans h.aA.output,bK h.aA.size k.aA.size,λi hi b=>?_⟩,λi hi=>?_,λi hi=>?_⟩
 rw[k.aA.block i (cu hi h.aA.size) (λc=>c.elim (λc=>(h.ft i c).elim (λe=>b (φ e)) (by omega)) (λe=>b (ψ e)))];exact h.aA.block i hi b;obtain a|a:=k.ft i hi
 exact h.ft i a;exact ψ (bK h.aA.size a);obtain a|a:=k.ar i hi
 exact h.ar i a;exact ψ a
def Wx.own{v:bf}(h:Wx n w W j d v S){r:Option Nat}(g:γ W V r)(b:∀k,k<w.heap.size->r=μ k->S k):Wx n w V j d v S:=by
 refine⟨⟨g.os.trans h.aA.os,g.tape.trans h.aA.tape,g.output.trans h.aA.output,bK h.aA.size g.size,λi hi a=>?_⟩,h.ft,h.ar⟩
 rw[g.block i (cu hi h.aA.size) (λe=>a (ψ (b i hi e.symm)))];exact h.aA.block i hi a
def Wx.fQ{v c:bf}(h:dz n W w l d v)(k:Wx n w V l v c S)(g:∀j,S j->W.heap.size<=j):dz n W V l d c:=by
 refine⟨⟨k.aA.os.trans h.aA.os,k.aA.tape.trans h.aA.tape,k.aA.output.trans h.aA.output,bK h.aA.size k.aA.size,λi hi f=>?_⟩,λi hi=>?_,λi hi=>?_⟩
 rw[k.aA.block i (cu hi h.aA.size) (λb=>b.elim (λb=>(h.ft i b).elim f (by omega)) (λe=>by have:=g i e;omega))];exact h.aA.block i hi f;obtain a|a:=k.ft i hi
 exact h.ft i a;exact ψ (bK h.aA.size a);obtain a|a:=k.ar i hi
 exact h.ar i a;exact ψ a
def gG.Dr{d:Du}(h:gG W i j S d)(g:∀k,k<W.heap.size->P k->S k):gG W i j P d:=by
 obtain⟨a,n,c,l,e,f⟩:=h;exact⟨a,n,c,l,e,λhl y b=>⟨(f hl y b).1,λm=>(f hl y b).2 (g _ (by subst b;exact e.lt hl) m)⟩⟩
def vp(o:Ot)(p:Pc):Prop:=p.g=ρ\/(p.g=θ/\o.h.fr<=p.x.lo/\p.x.lo<=p.x.hi/\p.x.hi<=o.en)
def xO{d:Du}(h:fv G d)(c:p<=1000)(a:(G.next d p).2=ρ)(e:0<=G.h.fr):vp G (G.next d p).1:=by
 unfold Ot.next at a⊢;cases b:G.sG;rw[b]at a;simp only[eN,eA]at a⊢;obtain⟨f,g,i,j,-⟩:=tA h c a e;exact ψ ⟨j,f,g,i⟩;rw[b]at a;simp only[dC,iu]at a⊢;exact φ a.1
def KR(l:List Int):(strOfNums l).size=l.length:=by
 have:=fD List.length (strOfNums_data l);simpa using this
def xP{p:Pc}(k:Nat)(hp:vp G p)(a:p.g=θ):((G.cK k p).data.size:Int)=p.x.hi-p.x.lo:=by
 unfold Ot.cK;rw[a];simp only[eN,eA,KR,ct,dO]
 obtain h|⟨-,c,d,b⟩:=hp
 rw[a]at h;cases h;unfold Ot.en at b;omega
def Ds{p:Pc}(k:Nat)(b:k<4)(hp:vp G p)(c:0<=G.h.fr/\G.en<=4096)(hs:0<=G.av/\G.av<=4096)(d:0<=G.code/\G.code<=4611686018427387903):cO (G.cK k p):=by
 cases a:p.g;have f:=xP k hp a;obtain h|⟨-,i,j,l⟩:=hp
 rw[a]at h;cases h;unfold cO pY qN;have e:(G.cK k p).offset=p.x.lo/\(G.cK k p).code=0/\(G.cK k p).stream=k/\(G.cK k p).kind=5:=by unfold Ot.cK;rw[a];simp
 rw[e.1,e.2.1,e.2.2.1,e.2.2.2];refine⟨⟨by omega,by omega,by omega,by omega⟩,⟨λh=>by omega,λ_=>by omega⟩,by omega,by omega⟩
 have e:(G.cK k p).offset=G.av/\(G.cK k p).code=G.code/\(G.cK k p).stream=k/\(G.cK k p).kind=4:=by unfold Ot.cK;rw[a];simp
 unfold cO pY qN;rw[e.1,e.2.1,e.2.2.1,e.2.2.2];refine⟨⟨by omega,by omega,by omega,by omega⟩,⟨λh=>by omega,λh=>by omega⟩,by omega,by omega⟩
def KS(w:ω){p:Pc}(k:Nat)(f:k<4)(hp:vp G p)(i:0<=G.h.fr/\G.en<=4096)(hs:0<=G.av/\G.av<=4096)(j:0<=G.code/\G.code<=4611686018427387903):dL w (G.cK k p) (σ ν 0 0)/\gN [G.cK k p]<=30000000:=by
 have b:(G.cK k p).ranges=[]:=by unfold Ot.cK;split<;>rfl
 have l:(G.cK k p).data.size<=4096:=by
  cases a:p.g;have l:=xP k hp a;obtain h|⟨-,c,d,e⟩:=hp
  rw[a]at h;cases h;omega;unfold Ot.cK;rw[a];simp only[dC];decide
 have m:=Ds k f hp i hs j;refine⟨⟨?_,by omega,ν,0,by rw[b];rfl,by rw[b];exact⟨λr h=>(by cases h),rfl,aP _,by simp[maxLen],φ rfl⟩⟩,?_⟩
 obtain⟨⟨c,d,e,n⟩,-,q,s⟩:=m;have t:0<=(G.cK k p).offset/\0<=(G.cK k p).code:=by
  unfold Ot.cK;cases a:p.g;obtain h|⟨-,c,d,e⟩:=hp
  rw[a]at h;cases h;simp;omega;simp;omega
 exact⟨by unfold dD;omega,by unfold dD;omega,by unfold aW;omega,by unfold aW;omega,λr h=>by rw[b]at h;cases h⟩
 simp only[gN,mZ,b,fM];omega
def KT{d:Du}(k:Nat)(z:k<4)(h:fv G d)(i:p<=1000)(a:(G.next d p).2=ρ)(j:0<=G.h.fr):1<=(bA [G.cK k (G.next d p).1]).length/\((bA [G.cK k (G.next d p).1]).length:Int)<=p:=by
 have t:=xO h i a j;have A:bZ (k:Int)=1:=by unfold bZ;rw[iP_]
 have el:∀f,bA [f]=dm f:=λf=>by simp[bA]
 rw[el];have c:=λn=>xw n
 have s1:=c (k:Int);cases b:(G.next d p).1.g;have r:=xP k t b;have m:G.sG=θ:=by
  unfold Ot.next at a b;cases h:G.sG;rfl;rw[h]at a b;simp only[dC,iu]at a b;rw[b]at a;cases a.1
 have e:(G.next d p)=G.dQ d.l d.e p:=by unfold Ot.next;rw[m];simp
 rw[e]at a;obtain⟨u,v,w,q,s⟩:=tA h i a j;rw[<-e]at u v w q s;have ef:(G.cK k (G.next d p).1).kind=5/\(G.cK k (G.next d p).1).stream=k/\(G.cK k (G.next d p).1).offset=(G.next d p).1.x.lo:=by unfold Ot.cK;rw[b];simp
 unfold dm;rw[iN_,iN_,iN_,iN_,aG ef.1,ef.2.1,ef.2.2];have s2:=c (G.next d p).1.x.lo;have s3:=c ((G.cK k (G.next d p).1).data.size:Int);rw[r]at s3;have y:(aI (G.cK k (G.next d p).1).data).length=(G.cK k (G.next d p).1).data.size:=fN _;simp only[cS,bF,y,r]
 omega;have m:G.sG=ρ:=by
  unfold Ot.next at a b;cases h:G.sG;rw[h]at a b;simp only[eN,eA]at a b;obtain⟨-,-,-,q,-⟩:=tA (by assumption) i a j;rw[q]at b;cases b;rfl
 have s:2+bZ G.code+bZ G.av<=p:=by
  unfold Ot.next at a;rw[m]at a;simp only[dC,iu,mu]at a;exact a.2
 have ef:(G.cK k (G.next d p).1).kind=4/\(G.cK k (G.next d p).1).stream=k/\(G.cK k (G.next d p).1).offset=G.av/\(G.cK k (G.next d p).1).code=G.code:=by unfold Ot.cK;rw[b];simp
 unfold dm;rw[iN_,iN_,iN_,aG ef.1,ef.2.1,ef.2.2.1,ef.2.2.2];have s2:=c G.code;have s3:=c G.av;simp only[cS,bF]
 omega
def KU(a:w.heap[n]?=μ (ο c T (0,0)))(H:gP w j c i y z G)(d:G.h.nice)(m:kO w n y z)(k:Nat)(p:Pc)(hp:vp G p):
 Calls prog 243 #[π (μ ⟨n,i,ν⟩),ι δ k,ε (pA p)] w λe b=>e=ξ (ε (bU (G.cK k p) (σ ν 0 0)))/\oM w b n T c i j y z (G.iP p):=by
 obtain⟨x,f,q⟩:=p;cases q;obtain h|⟨-,s,t,l⟩:=hp
 cases h;simp only at s t l;unfold Ot.en at l;have u:=d;unfold Hd.nice at u;refine(JF a H d m (k:Int) x f (x.lo-G.h.fr).toNat ((x.lo-G.h.fr).toNat+(x.hi-x.lo).toNat) (by omega) (by omega) (by omega) (by omega) (by unfold aW;omega)).mono ?_;rintro r b⟨rfl,h⟩;refine⟨?_,h⟩
 unfold Ot.cK bU;simp[uh];apply(JC w n i G (H.tail a) (k:Int) x f).mono;rintro r b⟨rfl,g⟩;exact⟨rfl,c,y,z,sZ.Cn a g _ _ _,H.au g,φ rfl⟩
def rV{α:Type}(f:Nat->α)(k:Nat)(x y:α):ah (ah f k x) k y=ah f k y:=by
 funext i;unfold ah;split<;>rfl
structure iE(w:ω)(base sb D k:Nat)(v:bf)(s:Sd)(o:Ot)(fr:List Int)(ps:List Pc)(v6 v7:υ)(W:ω)(cs':Array υ)(v':bf):Prop where
 side:bI W base sb cs' v' {s with out:=ah s.out k o}
 wx:Wx w.heap.size w W sb v v' (λj=>j=D)
 a6:∀j,v6.ownBlock=μ j->¬eV sb v' j
 a7:∀j,v7.ownBlock=μ j->¬eV sb v' j
 sep:∀j,v6.ownBlock=μ j->v7.ownBlock≠μ j
 fr:bn W w.heap.size v6 fr
 ps:iD W w.heap.size v7 ps
def LX(Y:Nat->Prop)(D:Nat)(v6 v7:υ)(sb:Nat)(v':bf)(j:Nat):Prop:=j=D\/v6.ownBlock=μ j\/v7.ownBlock=μ j\/cG sb v' j\/Y j
def gG.step{W W':ω}{D N:Nat}{X i S:Nat->Prop}{d:Du}(h:gG W D N X d)(C:ay W W' S)(l:¬S D)(m:∀k,k<W.heap.size->S k->X k)(p:∀k,i k->X k\/W.heap.size<=k):gG W' D N i d:=by
 obtain⟨a,n,c,j,f,g⟩:=h;refine⟨a,n,c,(C.block D (bg.1 j).1 l).trans j,f.cM (λhl y b=>C.block _ (by subst b;exact f.lt hl) (λe=>(g hl y b).2 (m _ (by subst b;exact f.lt hl) e))),λhl y b=>⟨(g hl y b).1,λq=>?_⟩⟩
 have r:y.block<W.heap.size:=by subst b;exact f.lt hl
 obtain h|h:=p _ q
 exact(g hl y b).2 h;omega
section
variable {w:ω} {base sb D k:Nat} {v:bf} {s:Sd} {o:Ot} {fr:List Int} {ps:List Pc} {v6 v7:υ} {W W':ω} {cs':Array υ} {v':bf} {Y:Nat->Prop}
def iE.lx(h:iE w base sb D k v s o fr ps v6 v7 W cs' v')(b:D<w.heap.size)(hY:∀j,Y j->j<w.heap.size):∀j,LX Y D v6 v7 sb v' j->j<W.heap.size:=λj a=>by
 have:=h.wx.aA.size;obtain rfl|e|e|e|e:=a
 omega;exact(h.fr.lt j e).2;exact(h.ps.lt j e).2;exact qQ h.side.bu e;have:=hY j e;omega
def iE.zZ(h:iE w base sb D k v s o fr ps v6 v7 W cs' v')(b:D<w.heap.size)(a:¬eV sb v D):¬eV sb v' D:=λe=>(h.wx.ar D e).elim a (by omega)
def iE.gb(h:iE w base sb D k v s o fr ps v6 v7 W cs' v')(g:γ W W' ν):iE w base sb D k v s o fr ps v6 v7 W' cs' v':=
 ⟨h.side.au g,h.wx.own g (λ_ _ e=>by cases e),h.a6,h.a7,h.sep,h.fr.au g,h.ps.au g⟩
def iE.left(h:iE w base sb D k v s o fr ps v6 v7 W cs' v')(a:D<w.heap.size)(b:¬eV sb v D)(g:γ W W' (μ D)):iE w base sb D k v s o fr ps v6 v7 W' cs' v':=
 ⟨h.side.other (ay.of g) (λj _ e=>by cases e;exact h.zZ a b),h.wx.own g (λj _ e=>(aQ e).symm),h.a6,h.a7,h.sep,h.fr.gb g (ψ (λe=>by have:=(h.fr.lt D e).1;omega)),h.ps.aA (ay.of g) (λj e e2=>by have:=(h.ps.lt j e).1;have:D=j:=aQ e2;omega)⟩
def iE.av(h:iE w base sb D k v s o fr ps v6 v7 W cs' v')(g:Ot)(n:k<4)(p:oM W W' sb 241 cs' (19+9*k) base (v'.own k) (v'.set k) g){N:Nat}{d:Du}(q:D<w.heap.size)(r:¬eV sb v D)(hd:gG W D N (LX Y D v6 v7 sb v') d):∃i f,iE w base sb D k v s g fr ps v6 v7 W' i f/\gG W' D N (LX Y D v6 v7 sb f) d/\ay W W' (cG sb v'):=by
 obtain⟨i,f,m,b⟩:=h.side.xF k n g p;simp only[rV]at m;have t:=h.wx.aA.size;refine⟨i,f,⟨m,h.wx.trans (Wx.of (b.mono t) _),λj e l=>?_,λj e l=>?_,h.sep,h.fr.aA b.aA (λj e c=>h.a6 j e (φ c)),h.ps.aA b.aA (λj e c=>h.a7 j e (φ c))⟩,hd.step b.aA (λc=>h.zZ q r (φ c)) (λj _ c=>ψ (ψ (ψ (φ c)))) (λj u=>?_),b.aA⟩
 obtain a|a:=b.ar j l
 exact h.a6 j e a;have:=(h.fr.lt j e).2;omega;obtain a|a:=b.ar j l
 exact h.a7 j e a;have:=(h.ps.lt j e).2;omega;obtain e|e|e|e|e:=u
 exact φ (φ e);exact φ (ψ (φ e));exact φ (ψ (ψ (φ e)));obtain a|a:=b.ft j e
 exact φ (ψ (ψ (ψ (φ a))));exact ψ a;exact φ (ψ (ψ (ψ (ψ e))))
def iE.KV(h:iE w base sb D k v s o fr ps v6 v7 W cs' v'){c:List Int}{b:υ}(g:γ W W' v6.ownBlock)(m:bn W' w.heap.size b c)(a:b.ownBlock=v6.ownBlock\/b.ownBlock=μ W.heap.size)(n:D<w.heap.size){N:Nat}{d:Du}(hd:gG W D N (LX Y D v6 v7 sb v') d):iE w base sb D k v s o c ps b v7 W' cs' v'/\gG W' D N (LX Y D b v7 sb v') d:=by
 have p:=h.wx.aA.size;refine⟨⟨h.side.other (ay.of g) (λj _ e=>h.a6 j e),h.wx.own g (λj f e=>by have:=(h.fr.lt j e).1;omega),λj e i=>?_,h.a7,λj e l=>?_,m,h.ps.aA (ay.of g) (λj e e2=>h.sep j e2 e)⟩,hd.step (ay.of g) (λe=>by have:=(h.fr.lt D e).1;omega) (λj _ e=>ψ (φ e)) (λj f=>?_)⟩
 obtain a|a:=a
 rw[a]at e;exact h.a6 j e i;rw[a]at e;have:=aQ e;have:=oN h.side.bu i;omega;obtain a|a:=a
 rw[a]at e;exact h.sep j e l;rw[a]at e;have:=aQ e;have:=(h.ps.lt j l).2;omega;obtain e|e|e|e|e:=f
 exact φ (φ e);obtain a|a:=a
 rw[a]at e;exact φ (ψ (φ e));rw[a]at e;have:=aQ e;exact ψ (by omega);exact φ (ψ (ψ (φ e)));exact φ (ψ (ψ (ψ (φ e))));exact φ (ψ (ψ (ψ (ψ e))))
def iE.KW(h:iE w base sb D k v s o fr ps v6 v7 W cs' v'){f:List Pc}{b:υ}(g:γ W W' v7.ownBlock)(m:iD W' w.heap.size b f)(a:b.ownBlock=v7.ownBlock\/b.ownBlock=μ W.heap.size)(n:D<w.heap.size){N:Nat}{d:Du}(hd:gG W D N (LX Y D v6 v7 sb v') d):iE w base sb D k v s o fr f v6 b W' cs' v'/\gG W' D N (LX Y D v6 b sb v') d:=by
 have p:=h.wx.aA.size;refine⟨⟨h.side.other (ay.of g) (λj _ e=>h.a7 j e),h.wx.own g (λj i e=>by have:=(h.ps.lt j e).1;omega),h.a6,λj e l=>?_,λj e c=>?_,h.fr.aA (ay.of g) (λj e e2=>h.sep j e e2),m⟩,hd.step (ay.of g) (λe=>by have:=(h.ps.lt D e).1;omega) (λj _ e=>ψ (ψ (φ e))) (λj i=>?_)⟩
 obtain a|a:=a
 rw[a]at e;exact h.a7 j e l;rw[a]at e;have:=aQ e;have:=oN h.side.bu l;omega;obtain a|a:=a
 rw[a]at c;exact h.sep j e c;rw[a]at c;have:=aQ c;have:=(h.fr.lt j e).2;omega;obtain e|e|e|e|e:=i
 exact φ (φ e);exact φ (ψ (φ e));obtain a|a:=a
 rw[a]at e;exact φ (ψ (ψ (φ e)));rw[a]at e;have:=aQ e;exact ψ (by omega);exact φ (ψ (ψ (ψ (φ e))));exact φ (ψ (ψ (ψ (ψ e))))
end
structure nY(o0:Ot)(d0:Du)(a:Int)(x:Ld):Prop where
 h:x.o.h=o0.h
 sG:x.o.sG=o0.sG
 code:x.o.code=o0.code
 av:0<=x.o.av/\x.o.av<=4096
 ku:fv x.o x.d
 dl:x.d.l.length<=d0.l.length+x.fr.length
 fl:(x.fr.length:Int)<=a
 pl:x.ps.length<=x.fr.length
def nY.step{o0:Ot}{d0:Du}{a:Int}{x:Ld}(H:nY o0 d0 a x)(k:Nat)(g:k<4)(l:a<=1000)(i:0<=o0.h.fr)(m:o0.en<=4096)(c:(x.o.next x.d (a-x.fr.length)).2=ρ):nY o0 d0 a (x.step k (x.o.next x.d (a-x.fr.length)).1)/\x.fr.length<(x.step k (x.o.next x.d (a-x.fr.length)).1).fr.length:=by
 have e:0<=x.o.h.fr:=by rw[H.h];exact i
 obtain⟨n,q⟩:=KT k g H.ku (p:=a-x.fr.length) (by omega) c e;have j:=xO H.ku (p:=a-x.fr.length) (by omega) c e;generalize (x.o.next x.d (a-x.fr.length)).1=p at *;have b:(x.o.iP p).h=x.o.h/\(x.o.iP p).sG=x.o.sG/\(x.o.iP p).code=x.o.code/\0<=(x.o.iP p).av/\(x.o.iP p).av<=4096:=by
  have f:=H.av;unfold Ot.iP;split;exact⟨rfl,rfl,rfl,f.1,f.2⟩
  refine⟨rfl,rfl,rfl,?_⟩
  obtain h|⟨-,r,s,t⟩:=j
  contradiction;have:x.o.en=o0.en:=by unfold Ot.en;rw[H.h]
  simp only;omega
 have u:=zW p.x H.ku.1;have v:=H.dl;have w:=H.fl;have y:=H.pl;refine⟨⟨b.1.trans H.h,b.2.1.trans H.sG,b.2.2.1.trans H.code,b.2.2.2,?_,?_,?_,?_⟩,?_⟩
 have:=H.ku.leave p;unfold fv Ot.en at this⊢;unfold Ld.step;simp only
 rw[b.1];exact this;unfold Ld.step Du.leave;simp only[bF]
 omega;unfold Ld.step;simp only[bF]
 omega;unfold Ld.step;simp only[bF,cS,fM]
 omega;unfold Ld.step;simp only[bF]
 omega
def Dt(w:ω)(Y:Nat->Prop)(g sb D N k:Nat)(v:bf)(s:Sd)(r:Ld)(e:Ending)(c:ω):Prop:=
 ∃a6 a c6 a7 b c7 h f,e=ξ (τ #[σ a6 a c6,σ a7 b c7])/\iE w g sb D k v s r.o r.fr r.ps (σ a6 a c6) (σ a7 b c7) c h f/\gG c D N (LX Y D (σ a6 a c6) (σ a7 b c7) sb f) r.d
def KX{d:Du}(h:fv G d)(b:p<=1000)(a:(G.next d p).2=ρ)(c:0<=G.h.fr)(f:G.en<=4096):(G.next d p).1.x.ok:=by
 unfold Ot.next at a⊢;cases e:G.sG;rw[e]at a;simp only[eN,eA]at a⊢;obtain⟨g,i,j,k,-⟩:=tA h b a c;constructor<;>(unfold aW;omega);simp only[dC]
 exact⟨⟨cE 0,by decide⟩,⟨cE 0,by decide⟩⟩
def Dv(g:γ w W ν)(h:w.heap.size<=b)(a c d f:υ):γ w ((((ζ W ⟨b,0,ν⟩ a).setCell ⟨b,1,ν⟩ c).setCell ⟨b,2,ν⟩ d).setCell ⟨b,3,ν⟩ f) ν:=
 cT g (aM (aM (aM (aM (aD W (μ b)) ⟨b,0,ν⟩ a (ψ rfl)) ⟨b,1,ν⟩ c (ψ rfl)) ⟨b,2,ν⟩ d (ψ rfl)) ⟨b,3,ν⟩ f (ψ rfl)) (λj e=>φ (by cases e;exact h))
def KY{u3:υ}(h:W.heap[b]?=μ (ο #[x,y,z,u3] T (0,0)))(a c d e:υ):((((ζ W ⟨b,0,ν⟩ a).setCell ⟨b,1,ν⟩ c).setCell ⟨b,2,ν⟩ d).setCell ⟨b,3,ν⟩ e).heap[b]?=μ (ο #[a,c,d,e] T (0,0)):=
 heap_set (o:=3) (heap_set (o:=2) (heap_set (o:=1) (heap_set (o:=0) h a) c) d) e
def Dw{a:υ}(h:W.heap[i]?=μ (ο #[x,y,z,a] T (0,0))):χ W ⟨i,0,ν⟩=θ/\χ W ⟨i,0+1,ν⟩=θ/\χ W ⟨i,0+1+1,ν⟩=θ/\χ W ⟨i,0+1+1+1,ν⟩=θ:=by simp[World.frozen?,h]
def bn.slice(h:bn w n x L):∃a c,x=σ a L.length c:=by
 obtain⟨a,c,e,-⟩:=h.bs;exact⟨a,c,e⟩
def iD.slice{l:List Pc}(h:iD w n x l):∃a c,x=σ a l.length c:=by
 obtain⟨a,c,e,-⟩:=h.Dl;exact⟨a,c,e⟩
def KZ(w:ω)(Y:Nat->Prop)(hY:∀j,Y j->j<w.heap.size)(E sb D N k:Nat)(cs:Array υ)(v:bf)(s:Sd)(d:Du)(H:bI w E sb cs v s)(O:k<4)(hD:D<w.heap.size)(dE:¬eV sb v D)(gu:N<=w.heap.size)(ca:gG w D N (λj=>j=D\/cG sb v j\/Y j) d)(ch:fv (s.out k) d)(gw:d.l.length<=900000)
 (hn:(s.out k).h.nice) (e8:(s.out k).en<=4096) (e9:0<=(s.out k).av/\(s.out k).av<=4096) (cj:0<=(s.out k).code/\(s.out k).code<=4611686018427387903) (gB:16<=s.aj/\s.aj<=1000) (r:Ld) (hr:r=fg k (s.aj-16) ((s.aj-16).toNat+1) ⟨s.out k,d,[],[]⟩):
 Calls prog 209 #[π (μ ⟨sb,0,ν⟩),ι δ k,π (μ ⟨D,0,ν⟩)] w (Dt w Y E sb D N k v s r):=by
 obtain⟨R,hR⟩:=exq (Dt w Y E sb D N k v s r);rw[<-hR];replace hR:=J hR;have i1:(k:Int)<4:=by omega
 have d1:decide ((k:Int)<4)=ρ:=eT i1;have fa:Hid (iE w E sb D k v s (s.out k) [] [] (σ ν 0 0) (σ ν 0 0) w cs v):=J ⟨by rw[m8];exact H,Wx.rfl' _ _ _ _ _,λj e=>(by cases e),λj e=>(by cases e),λj e=>(by cases e),bn.nil _ _,iD.nil _ _⟩;have fb:Hid (gG w D N (LX Y D (σ ν 0 0) (σ ν 0 0) sb v) d):=J (ca.Dr (λj _ hj=>by
  obtain e|e|e|e:=hj
  exact φ e;cases e;cases e
  ·exact ψ e))
 have dG:Hid (nY (s.out k) d (s.aj-16) ⟨s.out k,d,[],[]⟩):=J ⟨rfl,rfl,rfl,e9,ch,by simp,by simp;omega,by simp⟩;obtain⟨i,aC⟩:=exq (s.aj-16);rw[<-aC]at dG hr;have a0:0<=i/\i<=1000:=by omega
 have ea:0<=(s.out k).h.fr:=hn.1;replace⟨hr,aC,H,ca,ch,hn,cj⟩:=iU hr aC H ca ch hn cj;go_enter func209,ntmps209;go_upto_region 2 with fail;go_loopg [6,7] (i.toNat+1) (λg v6 v7 wr=>∃(x:Ld)(m:Nat)(a1:Array υ)(A:bf),nY (s.out k) d i x/\iE w E sb D k v s x.o x.fr x.ps v6 v7 wr a1 A/\gG wr D N (LX Y D v6 v7 sb A) x.d/\g=(i-x.fr.length).toNat+1/\(i-x.fr.length).toNat+1<=m/\fg k i m x=r);case atStart=>exact⟨_,_,cs,v,Z dG,Z fa,Z fb,by simp,aP _,by simpa using (Z hr).symm⟩
 case round=>
  obtain⟨x,m,a1,A,hP,p,bj,rfl,hm,hl⟩:=hrel;obtain⟨a6,c6,rfl⟩:=p.fr.slice;obtain⟨a7,c7,rfl⟩:=p.ps.slice;have hO:gP wr E a1 (19+9*k) (A.own k) (A.set k) x.o:=by have:=p.side.out k O;simpa only[aR]using this
  obtain⟨ab,nb,cb,ac,nc,cc,ff,fo⟩:=hO.nT;have a2:=hO;rw[ff,fo]at a2;have ee:x.o.h.nice:=by rw[hP.h];exact Z hn
  have gE:x.o.en=(s.out k).en:=by unfold Ot.en;rw[hP.h]
  have ei:0<=x.o.h.fr:=by rw[hP.h];exact ea
  have cp:=hP.fl;obtain⟨a,n,c,q1,q2,q3⟩:=id bj;obtain⟨⟨p0,p1,p2⟩,-⟩:=rP q1;have br:=J (λW(g:γ wr W ν)=>Dq W sb s.aj (g.cell ((aZ p.side.aV _).trans p.side.c0) (by simp)) (by have:=Z aC;omega));rw[<-Z aC]at br;have F:=J (λW(g:γ wr W ν)=>KQ W sb (19+9*k) ab nb cb ac nc cc x.o ((a2.au g).hd (bE p.side.aV g) ee) ((a2.au g).tail (bE p.side.aV g)) a n c x.d (q2.au g) (i-x.fr.length) (by omega) hP.ku (by omega));rw[<-qe]at F;have cv:=J (λh=>hP.step k O a0.2 ea e8 h);have cw:=J (λh=>xO hP.ku (p:=i-x.fr.length) (by omega) h ei);have cx:=J (λh=>KX hP.ku (p:=i-x.fr.length) (by omega) h ei (by omega));obtain⟨pm,cy⟩:=exq (x.o.next x.d (i-x.fr.length));rw[<-cy]at F cv cw cx;have ej:Hid (∀G,m=G+1->fg k i m x=if pm.2 then fg k i G (x.step k pm.1)else x):=J (λG e=>by rw[e,cy];rfl);clear cy;obtain⟨⟨⟨q,t⟩,u,y⟩,ek⟩:=pm;unfold pA at F;simp only at F cv cw ej cx;have hw:IntKind.i64.wrap (i-(x.fr.length:Int))=i-(x.fr.length:Int):=wI_;have gr:γ wr wr.drew ν:=aY (aD _ ν);have gA:γ wr (wr.alloc (ο #[ι η 0,ι η 0,β θ,β θ] 377)).drew ν:=aY (aJ _ _ ν);have hA:Hid ((wr.alloc (ο #[ι η 0,ι η 0,β θ,β θ] 377)).drew.heap[wr.heap.size]?=μ (ο #[ι η 0,ι η 0,β θ,β θ] 377 (0,0))):=J (aO wr _);have fq:Hid (x.ps.length<=100000000):=J (by have:=hP.pl;omega);replace p0:=kc p0;replace p1:=kc p1;replace p2:=kc p2;replace⟨hP,p,bj,hO,a2,q1,q2,q3,hl⟩:=qU hP p bj hO a2 q1 q2 q3 hl;replace⟨hm,cp,a0⟩:=cz hm cp a0;go_upto_region 2 with fail;go_cut [9,10] (λv9 fs wx=>(∃b,v9=π (μ ⟨b,0,ν⟩)/\wr.heap.size<=b/\wx.heap[b]?=μ (ο #[ι η q,ι η t,β u,β y] 377 (0,0)))/\fs=β ek/\γ wr wx ν);case first=>
   go_region_held3 (λw'=>γ wr w' ν)
    (with_reducible first|exact Dv I bt _ _ _ _|exact I|exact bk I _|exact B|exact bk B _|exact gr|exact gA)
    (first
      |(go_at_call 203;apply(Z br _ gA).mono;rintro e P⟨rfl,K⟩;have B:=aq gA K;have a3:=bE (Z hA) K)
      |(go_at_call 203;apply(Z br _ gr).mono;rintro e P⟨rfl,K⟩;have B:=aq gr K)
      |(go_at_call 242;apply(Z F _ B).mono;rintro e w6⟨rfl,z⟩;have I:=aq B z;have C:=bE a3 z;have bt:wr.heap.size<=wr.heap.size:=aP _;obtain⟨T,U,V,X⟩:=qk C;obtain⟨z0,z1,z2,z3⟩:=Dw C;have eo:=C)
      |(go_at_call 242;apply(Z F _ (bk B _)).mono;rintro e w6⟨rfl,z⟩;have I:=aq (bk B _) z;have C:=bE (aO _ _) z;have bt:=B.size;obtain⟨T,U,V,X⟩:=qk C;obtain⟨z0,z1,z2,z3⟩:=Dw C;have eo:=C)
      |(go_at_call 242;apply(Z F _ B).mono;rintro e w6⟨rfl,z⟩;have I:=aq B z))
   all_goals go_wp2_with fail
   all_goals go_meet
   all_goals first|exact⟨⟨_,rfl,bt,KY eo _ _ _ _⟩,rfl,Dv I bt _ _ _ _⟩|exact⟨⟨_,rfl,I.size,aO _ _⟩,rfl,bk I _⟩
  case rest=>
   obtain⟨⟨b,rfl,gU,al⟩,rfl,gx⟩:=hcut;clear gA hA p0 p1 p2 br F hw gr;obtain⟨G,fy⟩:∃G,m=G+1:=⟨m-1,by have:=Z hm;omega⟩
   have Q:=(Z ej G fy).symm.trans (Z hl);have bx:=J ((Z p).gb gx);have et:=J ((Z bj).au gx);cases ek
   ·simp only[eN,eA]at Q;have ga:Hid (R (ξ (τ #[σ a6 x.fr.length c6,σ a7 x.ps.length c7])) wc):=J (by
     rw[Z hR,<-Q];exact⟨a6,_,c6,a7,_,c7,a1,A,rfl,Z bx,Z et⟩)
    clear Q al;go_wp2_with fail;exact Z ga
   simp only[dC]at Q;have a8:=Z cw rfl;have L:=Z cv rfl;have bz:(⟨q,t⟩:Rg).ok:=Z cx rfl;have gW:w.heap.size<=wc.heap.size:=(Z bx).wx.aA.size;have bM:=J (Dh wc D N (LX Y D (σ a6 x.fr.length c6) (σ a7 x.ps.length c7) sb A) x.d ⟨⟨q,t⟩,u,y⟩ (Z et) (φ rfl) ((Z bx).lx hD hY) (by omega) (Z hP).ku.1 bz (by have:=(Z hP).dl;have:=Z cp;have:=Z a0;omega));obtain⟨T,U,V,X⟩:=qk al;unfold pA at bM;simp only at bM;replace⟨a8,L,bz,Q,al⟩:=fF a8 L bz Q al;go_upto_region 5 with fail;go_wp2_with fail;apply(Z bM).mono;rintro e w2⟨rfl,cC,g2⟩;have ax:=(Z bx).left hD dE g2;have gf:b≠D:=by have:=(Z p).wx.aA.size;omega
   have a9:w2.heap[b]?=μ (ο #[ι η q,ι η t,β u,β y] 377 (0,0)):=(g2.block b (bg.1 (Z al)).1 (λe=>gf (aQ e))).trans (Z al);have c9:gP w2 E a1 (19+9*k) (A.own k) (A.set k) x.o:=by have:=ax.side.out k O;simpa only[aR]using this
   have bb:=J (KU ax.side.aV c9 ee (ax.side.xE k O) k ⟨⟨q,t⟩,u,y⟩ (Z a8));rw[<-qe]at bb;unfold pA at bb;simp only at bb;clear T U V X bM;obtain⟨T,U,V,X⟩:=qk a9;have gg:Hid (¬cG sb A b):=J (λe=>by have:=qQ (Z p).side.bu e;omega);have gh:Hid ((Value.slice a6 x.fr.length c6).ownBlock≠μ b/\(Value.slice a7 x.ps.length c7).ownBlock≠μ b):=J ⟨λe=>by have:=((Z p).fr.lt b e).2;omega,λe=>by have:=((Z p).ps.lt b e).2;omega⟩;replace⟨ax,cC,a9,c9⟩:=fE ax cC a9 c9;go_wp2_with fail;apply(Z bb).mono;rintro e w3⟨rfl,hT⟩;rw[qe]at hT;obtain⟨gi,v3,db,de,C3⟩:=(Z ax).av _ O hT hD dE (Z cC);have dg:w3.heap[b]?=μ (ο #[ι η q,ι η t,β u,β y] 377 (0,0)):=(C3.block b (bg.1 (Z a9)).1 (Z gg)).trans (Z a9);have eu:0<=x.o.code/\x.o.code<=4611686018427387903:=by rw[(Z hP).code];exact Z cj
   have dk:=KS w3 k O (Z a8) (by omega) (Z hP).av eu;have ew:=Ds k O (Z a8) (by omega) (Z hP).av eu;have b0:=J (Dp w3 _ _ dk.1 ew dk.2);clear T U V X bb hT C3 dk ew;obtain⟨f,S⟩:=exq (x.o.cK k ⟨⟨q,t⟩,u,y⟩);rw[<-S]at b0;rw[<-S];obtain⟨fA,b3⟩:=exq (bU f (σ ν 0 0));rw[<-b3]at b0;rw[<-b3];replace⟨S,b3,db,de,dg⟩:=fF S b3 db de dg;go_wp2_with fail;apply(Z b0).mono;rintro e w4⟨⟨a4,n4,c4,rfl,o4⟩,g4⟩;have b4:=(Z db).gb g4;have ey:=(Z de).au g4;have dn:=bE (Z dg) g4;have ez:=b4.wx.aA.size;have ds:x.fr.length+(bA [f]).length<=100000000:=by
    have h1:=(Z L).1.fl;unfold Ld.step at h1;simp only[bF,<-Z S]at h1;have:=Z a0;omega
   obtain⟨a5,c5,P,dx,o5,K,eC⟩:=Bz (w:=w4) 112 w.heap.size _ x.fr b4.fr a4 n4 c4 (bA [f]) o4.iy ds ez;obtain⟨eD,eK⟩:=b4.KV K o5 eC hD ey;have a3:P.heap[b]?=μ (ο #[ι η q,ι η t,β u,β y] 377 (0,0)):=(K.block b (bg.1 dn).1 (λe=>(Z gh).1 e.symm)).trans dn;obtain⟨T,U,V,X⟩:=qk a3;obtain⟨W6,b5⟩:=exq (P.alloc (ο #[ι η q,ι η t,β u,β y] 377));have z:γ P W6 ν:=by rw[b5];exact aJ _ _ _
   have C:W6.heap[P.heap.size]?=μ (ο #[ι η q,ι η t,β u,β y] 377 (0,0)):=by rw[b5];exact aO _ _
   have b6:=eD.gb z;have eL:=eK.au z;have eS:x.ps.length<=100000000:=Z fq;obtain⟨b7,n7,e3,w7,b8,o7,g7,e4⟩:=KM (w:=W6) 323 w.heap.size _ x.ps b6.ps P.heap.size 1 ⟨⟨q,t⟩,u,y⟩ (Z bz) (kN (cs:=rQ ⟨⟨q,t⟩,u,y⟩) C) eS b6.wx.aA.size;obtain⟨e5,e6⟩:=b6.KW g7 o7 e4 hD eL;have hrel:Hid (∃(M:Ld)(m2:Nat)(gj:Array υ)(e7:bf),nY (s.out k) d i M/\iE w E sb D k v s M.o M.fr M.ps (σ a5 (x.fr.length+(bA [f]).length) c5) (σ b7 n7 e3) w7 gj e7/\gG w7 D N (LX Y D (σ a5 (x.fr.length+(bA [f]).length) c5) (σ b7 n7 e3) sb e7) M.d/\(i-(x.fr.length+(bA [f]).length:Nat)).toNat+1=(i-M.fr.length).toNat+1/\(i-M.fr.length).toNat+1<=m2/\fg k i m2 M=r):=J (by
    have gn:=Z S;subst gn;refine⟨x.step k ⟨⟨q,t⟩,u,y⟩,G,gi,v3,(Z L).1,e5,e6,?_,?_,Z Q⟩
    unfold Ld.step;simp only[bF]
    ·have h1:=Z hm;have h2:=(Z L).2;have h3:=(Z L).1.fl;omega)
   have gq:Hid ((i-(x.fr.length+(bA [f]).length:Nat)).toNat+1<(i-x.fr.length).toNat+1):=J (by
    have h2:=(Z L).2;have h3:=(Z L).1.fl;unfold Ld.step at h2 h3;simp only[bF,<-Z S]at h2 h3;omega)
   rw[b5]at b8;replace⟨dx,b8⟩:=bD dx b8;clear b4 ey eD eK b6 eL e5 e6 dn b5 C o4 o5 o7 eC e4 g7 z K g4 b0 ez eS;replace⟨a3,ds⟩:=bD a3 ds;go_wp2_with (at_builtin;first|(refine ql (by rfl) 112 112 (by rfl) _ _ (by rfl) _ _ _ (by rfl) (by rfl) (Z dx) ?_)|(refine ql (by rfl) 323 323 (by rfl) _ _ (by rfl) _ _ _ (by rfl) (by rfl) (Z b8) ?_));go_roundg ((i-(x.fr.length+(bA [f]).length:Nat)).toNat+1);case measure=>exact Z gq
   case rel=>exact Z hrel
def LU(w:ω)(q sb N k:Nat)(cs:Array υ)(v:bf)(s:Sd)(H:bI w q sb cs v s)(I:N<=w.heap.size)(pa:Option Addr)(b f:Nat)(ps:List Pc)(hp:iD w N (σ pa b f) ps)(F:∀j,(Value.slice pa b f).ownBlock=μ j->¬eV sb v j)(K:0<=s.count/\s.count<=4611686018427387903)(hl:s.aw.length<=1000000):
 Calls prog 210 #[π (μ ⟨sb,91,ν⟩),ι δ k,σ pa b f] w λr m=>r=ξ (ι η s.count)/\∃L A,bI m q sb L A {s with aw:=s.aw++[⟨s.count,s.tick,k,ps⟩],count:=s.count+1}/\dz N w m sb v A/\∀j,eV sb A j->eV sb v j\/w.heap.size<=j\/(Value.slice pa b f).ownBlock=μ j:=by
 have M:v.lf.length<=1000000:=by have:=fD List.length H.aw;rw[dd]at this;omega
 have t:=H.s9;apply(I8 w sb 91 q cs _ _ _ v.lf v.ll s.count s.tick s.wait H.aV H.fl H.aI t.1 K M (k:Int) pa b f ps).mono;rintro r m⟨rfl,d,O,P,C,B⟩;refine⟨rfl,?_⟩
 have T:(95:Nat)<cs.size:=by rw[H.sz];omega
 have u:∀i,i≠91->i≠94->((cs.setIfInBounds 91 (ι η (s.count+1))).setIfInBounds (91+3) d)[i]?=cs[i]? :=λi g l=>by rw[bH,bH]
 have U:d.ownBlock≠ν->True:=λ_=>trivial
 obtain⟨V,cap,e1,e2,z⟩:=hp.Dl;have W:∀j,(v.own 8).ownBlock=μ j->j<w.heap.size:=H.bu.lt 8 (by omega);have Q:∀j,d.ownBlock=μ j->(v.own 9).ownBlock≠μ j:=λj g l=>by
  obtain e|e:=B
  rw[e]at g;exact t.2.2 j g l;have:=e j g;have:=H.bu.lt 9 (by omega) j l;omega
 have R:rT w m sb 241 cs ((cs.setIfInBounds 91 (ι η (s.count+1))).setIfInBounds (91+3) d) 91 (v.own 8) (v.own 9) d (v.own 9):=
  ⟨O,by simp,λi hi=>u i (by omega) (by omega),C.mono (λj _ h=>h.elim φ (λh=>ψ (φ h))),B,φ rfl⟩
 have hF:iL m q ((cs.setIfInBounds 91 (ι η (s.count+1))).setIfInBounds (91+3) d) 91 d (v.own 9) (v.lf++[(⟨s.count,s.tick,(k:Int),ps⟩,σ pa b f)]) v.ll (s.count+1) s.tick s.wait:=
  ⟨by rw[bH];exact cJ,(u _ (by omega) (by omega)).trans H.fl.c1,(u _ (by omega) (by omega)).trans H.fl.c2,cJ (by simp;omega),(u _ (by omega) (by omega)).trans H.fl.c4,P,H.fl.ol.aA C (λj e h=>by
   obtain rfl|h:=h
   exact t.2.1 e
   ·exact t.2.2 j h e)⟩
 have:=H.zM I d (v.own 9) _ v.ll _ _ _ R hF Q (λx a=>by
  obtain a|a:=bL.1 a
  obtain a|a:=bL.1 a
  exact φ (fC _ a);right;rw[cA.1 a];obtain⟨rfl,-,rfl⟩:=jy e1;refine⟨pa,b,f,rfl,?_,λy p=>?_⟩
  have S:b=ps.length:=(jy e1).2.1;rw[S];exact e2.cM (λ_ y p=>C.block _ (hp.lt y.block (z y p)).2 (λh=>F y.block (z y p) (φ (h.elim φ (λh=>ψ ⟨8,by omega,h⟩)))));have G:=hp.lt y.block (z y p);have D:¬cG sb v y.block:=λh=>F y.block (z y p) (φ h)
  refine⟨G.1,cu G.2 C.size,D,λe=>?_,λe=>D (ψ ⟨9,by omega,e⟩)⟩
  obtain h|h:=B
  rw[h]at e;exact D (ψ ⟨8,by omega,e⟩);have:=h _ e;omega
  ·exact φ (ir _ a))
 obtain⟨g,l⟩:=this;refine⟨(cs.setIfInBounds 91 (ι η (s.count+1))).setIfInBounds (91+3) d,_,?_,l,λj E=>?_⟩
 have e:({s with aw:=(v.lf++[((⟨s.count,s.tick,(k:Int),ps⟩:Pk),Value.slice pa b f)]).map (·.1),lost:=v.ll.map (·.1),count:=s.count+1,tick:=s.tick,wait:=s.wait}:Sd)={s with aw:=s.aw++[⟨s.count,s.tick,k,ps⟩],count:=s.count+1}:=by
  rw[mV,<-H.aw,<-H.lost];rfl
 rw[<-e];exact g;obtain E|⟨i,y,n,c,hi,e,rfl⟩|⟨x,a,y,n,c,e,rfl⟩:=E
 exact(l.ft j E).elim (λh=>φ (φ h)) (λh=>ψ (φ h));exact φ (ψ (φ ⟨i,y,n,c,hi,e,rfl⟩));simp only at a;obtain a|a:=bL.1 a
 obtain a|a:=bL.1 a
 exact φ (ψ (ψ ⟨x,fC _ a,y,n,c,e,rfl⟩));rw[cA.1 a]at e;simp only at e;right;right;rw[e];rfl;exact φ (ψ (ψ ⟨x,ir _ a,y,n,c,e,rfl⟩))
structure gm(W:ω)(N sb:Nat)(v:bf)(a:List El)(b:υ):Prop where
 own:gK W N b a
 at_:jS W N a
 a5:∀j,b.ownBlock=μ j->¬eV sb v j
 ae:∀e∈a,¬eV sb v e.1
 s5:∀e∈a,b.ownBlock≠μ e.1
def gm.nil(W:ω)(N sb:Nat)(v:bf):gm W N sb v [] (σ ν 0 0):=⟨gK.nil _ _,jS.nil _ _,λj e=>(by cases e),λe a=>(by cases a),λe a=>(by cases a)⟩
def gm.next{g:bf}{c:List El}{X:Nat->Prop}(h:gm W n k d c x)(C:ay W w (λj=>cG k d j\/X j))(i:∀j,x.ownBlock=μ j->¬X j)(l:∀e∈c,¬X e.1)(ar:∀j,eV k g j->eV k d j\/W.heap.size<=j):gm w n k g c x:=
 ⟨h.own.aA C (λj e a=>a.elim (λa=>h.a5 j e (φ a)) (i j e)),h.at_.aA C (λe b a=>a.elim (λa=>h.ae e b (φ a)) (l e b)),λj e f=>(ar j f).elim (h.a5 j e) (λa=>by have:=(h.own.lt j e).2;omega),λe b f=>(ar _ f).elim (h.ae e b) (λa=>by have:=h.at_.lt b;omega),h.s5⟩
def gm.gb{a:List El}(h:gm W n k d a x)(g:γ W w ν):gm w n k d a x:=
 h.next (X:=λ_=>False) ((ay.of g).mono (λ_ _ e=>by cases e)) (λ_ _=>id) (λ_ _=>id) (λ_ h=>φ h)
def gm.app{i:List El}{e:El}(h:gm W n k d i y)(r:jS W n [e])(s:¬eV k d e.1)(t:y.ownBlock≠μ e.1)(u:∀a∈i,a.1≠e.1)(l:∀j,eV k d j->j<W.heap.size)(v:gK w n z (i++[e]))(g:γ W w y.ownBlock)(f:z.ownBlock=y.ownBlock\/z.ownBlock=μ W.heap.size):gm w n k d (i++[e]) z:=by
 have m:=(h.at_.app r (λa l b A=>by rw[cA.1 A];exact u a l))
 have p:∀x∈i++[e],y.ownBlock≠μ x.1:=λx c=>by
  obtain c|c:=bL.1 c
  exact h.s5 x c;rw[cA.1 c];exact t
 refine⟨v,m.aA (ay.of g) (λx c e2=>p x c e2),λj e1 q=>?_,λx c=>?_,λx c e1=>?_⟩
 obtain f|f:=f
 rw[f]at e1;exact h.a5 j e1 q;rw[f]at e1;have:=aQ e1;have:=l j q;omega;obtain c|c:=bL.1 c
 exact h.ae x c;rw[cA.1 c];exact s;obtain f|f:=f
 rw[f]at e1;exact p x c e1;rw[f]at e1;have:=aQ e1;have:=m.lt c;omega
def bI.rZ(H:bI w n k c d s)(b:eP s.key):w.rangeAt k 2 (bv s.key):=λj u a=>by
 have e:j<16:=by have:=(lA.1 a).1;rw[fX,b.1]at this;exact this
 rw[aZ H.aV,H.key j e];exact a
def tJ{key:List Int}{s n:Int}{l:List Int}(hl:∀x∈l,W8 x):∀x∈dq key s n l,W8 x:=by
 intro x a;simp only[dq,bL]at a;obtain(a|a)|a:=a
 exact qo _ x a;exact vB hl x a;exact qo _ x a
structure Pz where
 s:Sd
 d:Du
 l:List (List Int)
def Pz.load(x:Pz)(k:Nat):Ld:=fg k (x.s.aj-16) ((x.s.aj-16).toNat+1) ⟨x.s.out k,x.d,[],[]⟩
def Pz.stay(x:Pz)(k:Nat):Pz:=⟨{x.s with out:=ah x.s.out k (x.load k).o},(x.load k).d,x.l⟩
def Pz.gp(x:Pz)(k:Nat):Pz:=
 ⟨{x.s with out:=ah x.s.out k (x.load k).o,aw:=x.s.aw++[⟨x.s.count,x.s.tick,k,(x.load k).ps⟩],count:=x.s.count+1},(x.load k).d,x.l++[dq x.s.key (aK x.s.first) x.s.count (x.load k).fr]⟩
def ik(k:Nat):Nat->Pz->Pz
 |0,x=>x
 |n+1,x=>if 10<=x.s.aw.length then x else if(x.load k).ps.length=0 then x.stay k else ik k n (x.gp k)
def Sd.pieces(s:Sd)(k:Nat):Pz:=ik k 11 ⟨s,s.due k,[]⟩
def LV{o0:Ot}{d0:Du}{a:Int}{k:Nat}(b:k<4)(c:a<=1000)(e:0<=o0.h.fr)(f:o0.en<=4096):∀(m:Nat)(x:Ld),nY o0 d0 a x->nY o0 d0 a (fg k a m x):=by
 intro m;induction m with
 |zero=>exact λx h=>h
 |succ m g=>
  intro x h;unfold fg;cases i:(x.o.next x.d (a-x.fr.length)).2;simp only[eN,eA];exact h;simp only[dC];exact g _ (h.step k b c e f i).1
structure ma(s0:Sd)(k:Nat)(x:Pz):Prop where
 aj:x.s.aj=s0.aj
 key:x.s.key=s0.key
 h:(x.s.out k).h=(s0.out k).h
 sG:(x.s.out k).sG=(s0.out k).sG
 code:(x.s.out k).code=(s0.out k).code
 av:0<=(x.s.out k).av/\(x.s.out k).av<=4096
 ku:fv (x.s.out k) x.d
 dl:x.d.l.length+1000*(10-x.s.aw.length)<=900000
 fl:x.s.aw.length<=10
 ba:0<=x.s.count/\x.s.count+10-x.s.aw.length<=4611686018427387000
 lf:x.l.length<=x.s.aw.length
def ma.ll{s0:Sd}{k:Nat}{x:Pz}(H:ma s0 k x):x.l.length<=1000:=by have:=H.lf;have:=H.fl;omega
def ma.ld{s0:Sd}{k:Nat}{x:Pz}(H:ma s0 k x)(a:k<4)(f:16<=s0.aj/\s0.aj<=1000)(b:0<=(s0.out k).h.fr)(c:(s0.out k).en<=4096):nY (x.s.out k) x.d (x.s.aj-16) (x.load k):=by
 have e:(x.s.out k).en=(s0.out k).en:=by unfold Ot.en;rw[H.h]
 refine LV a (by rw[H.aj];omega) (by rw[H.h];exact b) (by rw[e];exact c) _ _ ⟨rfl,rfl,rfl,H.av,H.ku,by simp,by rw[H.aj];simp;omega,by simp⟩
def ma.gp{s0:Sd}{k:Nat}{x:Pz}(H:ma s0 k x)(a:k<4)(b:16<=s0.aj/\s0.aj<=1000)(c:0<=(s0.out k).h.fr)(d:(s0.out k).en<=4096)(e:x.s.aw.length<10):ma s0 k (x.gp k):=by
 have L:=H.ld a b c d;unfold Pz.gp;have f:=L.dl;have g:=L.fl;have i:=H.dl;have j:=H.ba;have l:=H.aj;have m:=H.lf;refine⟨H.aj,H.key,?_,?_,?_,?_,?_,?_,?_,?_,?_⟩
 simp only[aR];exact L.h.trans H.h;simp only[aR];exact L.sG.trans H.sG;simp only[aR];exact L.code.trans H.code;simp only[aR];exact L.av;simp only[aR];exact L.ku;simp only[bF,cS,fM];omega;simp only[bF,cS,fM];omega;simp only[bF,cS,fM];omega;simp only[bF,cS,fM];omega
structure kU(w0:ω)(base sb D:Nat)(v0:bf)(x:Pz)(v5:υ)(W:ω)(cs:Array υ)(v:bf)(els:List El):Prop where
 side:bI W base sb cs v x.s
 fQ:dz w0.heap.size w0 W sb v0 v
 due:gG W D w0.heap.size (λj=>j=D\/cG sb v j\/v5.ownBlock=μ j) x.d
 nD:¬eV sb v D
 dl:D<W.heap.size
 ls:gm W w0.heap.size sb v els v5
 n5:v5.ownBlock≠μ D
 ne:∀e∈els,e.1≠D
 el:els.map (·.2)=x.l
section
variable {w0:ω} {base sb D k:Nat} {v0:bf} {x:Pz} {v5:υ} {W W':ω} {cs:Array υ} {v:bf} {els:List El}
def kU.gb(h:kU w0 base sb D v0 x v5 W cs v els)(g:γ W W' ν):kU w0 base sb D v0 x v5 W' cs v els:=
 ⟨h.side.au g,h.fQ.trans (dz.au g),h.due.au g,h.nD,cu h.dl g.size,h.ls.gb g,h.n5,h.ne,h.el⟩
def kU.LW(h:kU w0 base sb D v0 x v5 W cs v els)(q:w0.heap.size<=D){r:Ld}{f g:υ}{i:Array υ}{b:bf}{c:ω}(a:iE W base sb D k v x.s r.o r.fr r.ps f g c i b)(hd:gG c D w0.heap.size (LX (λj=>v5.ownBlock=μ j) D f g sb b) r.d):kU w0 base sb D v0 ⟨{x.s with out:=ah x.s.out k r.o},r.d,x.l⟩ v5 c i b els:=by
 have t:=h.fQ.aA.size;have m:Wx w0.heap.size W c sb v b (λj=>j=D):=⟨a.wx.aA,a.wx.ft,λj e=>(a.wx.ar j e).imp id (λe=>by omega)⟩
 refine⟨a.side,m.fQ h.fQ (λj e=>by omega),hd.Dr (λj _ n=>n.elim φ (λe=>ψ (ψ (ψ e)))),a.zZ h.dl h.nD,cu h.dl a.wx.aA.size,h.ls.next a.wx.aA (λj e e2=>h.n5 (by rw[<-e2];exact e)) (λe p e2=>h.ne e p e2) a.wx.ar,h.n5,h.ne,h.el⟩
def kU.LY(h:kU w0 base sb D v0 x v5 W cs v els){k:Sd}{l:Array υ}{b:bf}{g:ω}(m:bI g base sb l b k)(c:dz w0.heap.size W g sb v b)(i:∀j,eV sb b j->eV sb v j\/W.heap.size<=j\/(v5.ownBlock≠μ j/\j≠D/\∀e∈els,e.1≠j)):kU w0 base sb D v0 {x with s:=k} v5 g l b els:=by
 have n:∀j,eV sb b j->v5.ownBlock=μ j->False:=λj d e=>by
  obtain a|a|a:=i j d
  exact h.ls.a5 j e a;have:=(h.ls.own.lt j e).2;omega;exact a.1 e
 have p:∀e∈els,¬eV sb b e.1:=λe f d=>by
  obtain a|a|a:=i _ d
  exact h.ls.ae e f a;have:=h.ls.at_.lt f;omega;exact a.2.2 e f rfl
 refine⟨m,h.fQ.trans c,h.due.step c.aA (λe=>h.nD (φ e)) (λj _ e=>ψ (φ e)) (λj q=>?_),λe=>?_,cu h.dl c.aA.size,⟨h.ls.own.aA c.aA (λj e e2=>h.ls.a5 j e (φ e2)),h.ls.at_.aA c.aA (λe f e2=>h.ls.ae e f (φ e2)),λj e d=>n j d e,p,h.ls.s5⟩,h.n5,h.ne,h.el⟩
 obtain e|e|e:=q
 exact φ (φ e);obtain e|e:=c.ft j e
 exact φ (ψ (φ e));exact ψ e;exact φ (ψ (ψ e));obtain a|a|a:=i D e
 exact h.nD a;have:=h.dl;omega;exact a.2.1 rfl
def kU.app(h:kU w0 base sb D v0 x v5 W cs v els){f m:ω}(p:γ W f ν){e:El}(w:W.heap.size<=e.1)(q:f.heap[e.1]?=μ (ο (bv e.2).toArray 5 (0,0)))(r:∀y∈e.2,W8 y){k:υ}(s:gK m w0.heap.size k (els++[e]))(g:γ f m v5.ownBlock)(c:k.ownBlock=v5.ownBlock\/k.ownBlock=μ f.heap.size):kU w0 base sb D v0 {x with l:=x.l++[e.2]} k m cs v (els++[e]):=by
 have b:=h.gb p;have z:=h.fQ.aA.size;have A:=h.dl;have t:jS f w0.heap.size [e]:=⟨λy d=>by rw[cA.1 d];exact⟨by omega,r,q⟩,wu _ _⟩
 have u:=b.ls.app t (λi=>by have:=oN h.side.bu i;omega) (λe1=>by have:=(h.ls.own.lt _ e1).2;omega) (λa i e1=>by have:=h.ls.at_.lt i;omega) (λj i=>oN b.side.bu i) s g c;refine⟨b.side.other (ay.of g) (λj _ e1=>b.ls.a5 j e1),⟨?_,b.fQ.ft,b.fQ.ar⟩,b.due.step (ay.of g) (λe1=>b.n5 e1) (λj n e1=>ψ (ψ e1)) (λj n=>?_),b.nD,cu b.dl g.size,u,λe1=>?_,λy d=>?_,by rw[mV,h.el];rfl⟩
 exact(b.fQ.aA.trans (ay.of g)).mono (λj n e1=>e1.elim id (λe1=>by have:=(b.ls.own.lt j e1).1;omega));obtain e1|e1|e1:=n
 exact φ (φ e1);exact φ (ψ (φ e1));obtain c|c:=c
 rw[c]at e1;exact φ (ψ (ψ e1));rw[c]at e1;have:=aQ e1;exact ψ (by omega);obtain c|c:=c
 rw[c]at e1;exact h.n5 e1;rw[c]at e1;have:=aQ e1;have:=b.dl;omega;obtain d|d:=bL.1 d
 exact h.ne y d;rw[cA.1 d];omega
end
def iD.low{b2:Nat}{l:List Pc}(h:iD w n x l)(d:b2<=n):iD w b2 x l:=by
 obtain⟨h0,b,a⟩:=h;refine⟨h0,b,?_⟩
 obtain a|⟨g,cap,cur,e1,e2,c⟩:=a
 exact φ a;exact ψ ⟨g,cap,cur,e1,by omega,c⟩
def xX(w:ω)(g sb:Nat)(v:bf)(r:Pz)(e:Ending)(b:ω):Prop:=
 ∃a n c h d f,e=ξ (σ a n c)/\bI b g sb h d r.s/\dz w.heap.size w b sb v d/\gm b w.heap.size sb d f (σ a n c)/\f.map (·.2)=r.l
def gm.slice{b:List El}(h:gm W n k d b x):∃a c,x=σ a b.length c:=by
 obtain⟨a,c,e,-⟩:=h.own.gR;exact⟨a,c,e⟩
def kU.post{x:Pz}{v:bf}{b:List El}(h:kU w k i j d x (σ a n l) W C v b):xX w k i d x (ξ (σ a n l)) W:=⟨a,n,l,C,v,b,rfl,h.side,h.fQ,h.ls,h.el⟩
def LZ(w:ω)(i sb k:Nat)(cs:Array υ)(v:bf)(s:Sd)(H:bI w i sb cs v s)(T:k<4)(cC:eP s.key)
 (M:(s.out k).h.nice) (b7:(s.out k).en<=4096) (c9:0<=(s.out k).av/\(s.out k).av<=4096) (db:0<=(s.out k).code/\(s.out k).code<=4611686018427387903) (a3:16<=s.aj/\s.aj<=1000) (dk:s.aw.length<=10) (ez:0<=s.count/\s.count<=4611686018427386000) (eC:(s.out k).h.af.length+(dW v.lf k).length<=100000) (a4:fv (s.out k) (s.due k)) (b8:(s.due k).l.length<=800000):
 Calls prog 159 #[π (μ ⟨sb,0,ν⟩),ι δ k] w (xX w i sb v (s.pieces k)):=by
 obtain⟨r,U⟩:=exq (s.pieces k);rw[<-U];obtain⟨R,N⟩:=exq (xX w i sb v r);rw[<-N];replace⟨N,U⟩:=bD N U;have V:=J (KJ w i sb cs v s H k T M (by omega));have ca:0<=(s.out k).h.fr:=M.1;have dn:Hid (ma s k ⟨s,s.due k,[]⟩):=J ⟨rfl,rfl,rfl,rfl,rfl,c9,a4,by simp only;omega,dk,by simp only;omega,by simp⟩;obtain⟨du,C⟩:=exq (s.due k);rw[<-C]at V;obtain⟨de,W⟩:=exq du.e;obtain⟨dg,X⟩:=exq du.g;rw[<-W,<-X]at V;replace⟨C,W,X,a4,b8,M,H⟩:=iU C W X a4 b8 M H;go_enter func159,ntmps159;go_wp2_with fail;apply(Z V).mono;rintro e B⟨⟨a,n,c,rfl,q1,q2⟩,Y⟩;obtain⟨W2,al⟩:=exq (B.alloc (ο #[σ a n c,β de,β dg] 332));have g2:γ B W2 ν:=by rw[al];exact aJ _ _ _
 have a8:W2.heap[B.heap.size]?=μ (ο #[σ a n c,β de,β dg] 332 (0,0)):=by rw[al];exact aO _ _
 have a9:=aq Y g2;have ds:Hid (kU w i sb B.heap.size v ⟨s,s.due k,[]⟩ (σ ν 0 0) W2 cs v []):=J (by
  have hz:=Y.size;have dx:=(bg.1 a8).1;refine⟨(Z H).au a9,dz.au a9,⟨a,n,c,by rw[<-Z C,<-Z W,<-Z X];exact a8,by rw[<-Z C];exact q1.au g2,λhl y ey=>?_⟩,λha=>by have:=oN (Z H).bu ha;omega,dx,gm.nil _ _ _ _,λe=>(by cases e),λe he=>(by cases he),rfl⟩
  rw[<-Z C]at hl;have h1:=q2 hl y ey;have h2:y.block<B.heap.size:=by subst ey;exact q1.lt hl
  refine⟨h1,λE=>?_⟩
  obtain E|E|E:=E
  omega;have:=qQ (Z H).bu E;omega
  ·cases E)
 have dE:w.heap.size<=B.heap.size:=Y.size;clear q1 q2 a8 V;go_upto_region 3 with fail;rw[<-al];clear al g2 a9 Y;generalize B.heap.size=D at *;go_loopg [5] (11-s.aw.length) (λg v5 wr=>∃(x:Pz)(m:Nat)(O:Array υ)(q:bf)(p:List El),ma s k x/\kU w i sb D v x v5 wr O q p/\g=11-x.s.aw.length/\11-x.s.aw.length<=m/\ik k m x=r);case atStart=>exact⟨_,11,cs,v,[],Z dn,Z ds,rfl,by omega,(Z U).symm⟩
 case round=>
  obtain⟨x,m,O,q,p,hP,b,rfl,hm,hl⟩:=hrel;obtain⟨a5,c5,rfl⟩:=b.ls.slice;have P:q.lf.length=x.s.aw.length:=by have:=fD List.length b.side.aw;rw[dd]at this;exact this.symm
  have F:=J (I5 wr sb 91 i (q.own 8) q.lf ((aZ b.side.aV _).trans b.side.fl.c3) b.side.fl.of);rw[P]at F;obtain⟨m',dG⟩:∃m',m=m'+1:=⟨m-1,by have:=hP.fl;omega⟩
  have t:(if 10<=x.s.aw.length then x else if(x.load k).ps.length=0 then x.stay k else ik k m' (x.gp k))=r:=by rw[<-hl,dG];rfl
  clear hl;have ea:Hid (x.l.length<=1000):=J hP.ll;by_cases ch:10<=x.s.aw.length
  ·have d1:decide (10<=(x.s.aw.length:Int))=ρ:=dT_;rw[aG ch]at t;rw[d1]at F;have bb:Hid (R (ξ (σ a5 p.length c5)) wr):=J (by rw[Z N,<-t];exact b.post);clear t d1;replace⟨hP,b,P⟩:=cz hP b P;go_wp2_with fail;apply(Z F).mono;rintro e w2⟨rfl,rfl⟩;go_wp2_with fail;exact Z bb
  have d1:decide (10<=(x.s.aw.length:Int))=θ:=dF_;rw[aB ch]at t;rw[d1]at F;have eD:(x.s.out k).en=(s.out k).en:=by unfold Ot.en;rw[hP.h]
  have bj:=J (KZ wr (λj=>(Value.slice a5 p.length c5).ownBlock=μ j) (λj e=>(b.ls.own.lt j e).2) i sb D w.heap.size k O q x.s x.d b.side T b.dl b.nD b.fQ.aA.size b.due hP.ku (by have:=hP.dl;omega) (by rw[hP.h];exact Z M) (by omega) hP.av (by rw[hP.code];exact db) (by rw[hP.aj];exact a3) (x.load k) rfl);clear d1;replace⟨hP,b,P,t,hm⟩:=fF hP b P t hm;go_wp2_with fail;apply(Z F).mono;rintro e w2⟨rfl,rfl⟩;go_wp2_with fail;apply(Z bj).mono;rintro e w3⟨a6,n6,c6,a7,n7,c7,ee,v3,rfl,f,ax⟩;have z:=(Z b).LW dE f ax;have G:n7=(x.load k).ps.length:=by
   obtain⟨a',c',e'⟩:=f.ps.slice;exact(jy e').2.1
  by_cases h0:(x.load k).ps.length=0
  ·have A:=Z t;rw[aG h0]at A;have e0:((n7:Int)==0)=ρ:=by rw[G,h0];rfl
   have bb:Hid (R (ξ (σ a5 p.length c5)) w3):=J (by rw[Z N,<-A];exact z.post);clear A ax bj;replace⟨f,z,G,h0⟩:=fE f z G h0;go_wp2_with fail;exact Z bb
  have A:=Z t;rw[aB h0]at A;have e0:((n7:Int)==0)=θ:=by rw[G];simpa using h0
  have br:=(Z hP).ba;have ei:=J ((Z hP).gp T a3 ca b7 (by omega));have bt:=J (LU w3 i sb w.heap.size k ee v3 _ z.side z.fQ.aA.size a7 n7 c7 (x.load k).ps (f.ps.low (Z b).fQ.aA.size) f.a7 (by simp only;omega) (by have:=(Z hP).fl;simp only;omega));simp only at bt;replace⟨A,f,ax,z,G,h0,br⟩:=iU A f ax z G h0 br;clear bj F;go_wp2_with fail;apply(Z bt).mono;rintro e w4⟨rfl,ej,v4,I,aC,bx⟩;have Q:=(Z z).LY I aC (λj ha=>by
   obtain h|h|h:=bx j ha
   exact φ h;exact ψ (φ h)
   ·have h1:=((Z f).ps.lt j h).1;refine ψ (ψ ⟨λe=>by have:=((Z b).ls.own.lt j e).2;omega,by have:=(Z b).dl;omega,λe he e2=>by have:=(Z b).ls.at_.lt he;omega⟩))
  have bz:bN w4 a6 n6 c6 (x.load k).fr:=((Z f).fr.aA aC.aA (λj e h=>(Z f).a6 j e (φ h))).iy;have bM:∀y∈(x.load k).fr,W8 y:=(Z f).fr.1;have b0:=(Z hP).ld T a3 ca b7;have eK:(x.load k).fr.length<=1000:=by have:=b0.fl;have:=(Z hP).aj;omega
  have a0:eP x.s.key:=by rw[(Z hP).key];exact cC
  have cj:=J (DV w4 sb x.s.key x.s.first a0 (I.rZ a0) ((aZ I.aV _).trans I.iN) x.s.count (by have:=Z br;unfold aW;omega) a6 n6 c6 (x.load k).fr bz);clear bt;replace⟨I,aC,bx,Q,bz,b0,bM,a0⟩:=qT I aC bx Q bz b0 bM a0;go_wp2_with fail;apply(Z cj).mono;rintro e w5⟨g,rfl,hg,b3,g5⟩;clear cj;obtain⟨L,hL⟩:=exq ((x.load k).fr.length+16);rw[<-hL];obtain⟨bs,K⟩:=exq (dq x.s.key (aK x.s.first) x.s.count (x.load k).fr);rw[<-K]at b3;have b4:bs.length=L:=by rw[K,qX,hL]
  have cp:∀y∈bs,W8 y:=by rw[K];exact tJ (Z bM)
  obtain⟨W6,a1⟩:=exq (w5.alloc (ο #[σ (μ ⟨g,0,ν⟩) L L] 112));have g6:γ w5 W6 ν:=by rw[a1];exact aJ _ _ _
  have cv:W6.heap[w5.heap.size]?=μ (ο #[σ (μ ⟨g,0,ν⟩) L L] 112 (0,0)):=by rw[a1];exact aO _ _
  have b5:=aq g5 g6;have b6:=(Z Q).gb b5;have cw:p.length+[(g,bs)].length<=100000000:=by
   have h1:p.length=x.l.length:=by have:=fD List.length (Z Q).el;rw[dd]at this;exact this
   have h2:=Z ea;simp only[cS,fM]
   omega
  obtain⟨ek,eo,et,w7,a2,o7,g7,cx⟩:=zY (w:=W6) 206 w.heap.size _ p b6.ls.own ⟨w5.heap.size,0,ν⟩ 1 [(g,bs)] (λj u hj=>by
   have eu:j=0:=by have:=(lA.1 hj).1;simpa using this
   subst eu;have hu:u=ks (g,bs):=by simpa using hj.symm
   subst hu;rw[Addr.add_mid];unfold ks;simp only[b4]
   simp[World.cell?,cv]) cw b6.fQ.aA.size
  have cy:=(Z Q).app (e:=(g,bs)) b5 hg (bE b3 g6) cp o7 g7 cx;have hrel:Hid (∃(S:Pz)(m2:Nat)(O:Array υ)(q:bf)(ew:List El),ma s k S/\kU w i sb D v S (σ ek eo et) w7 O q ew/\11-(x.s.aw.length+1)=11-S.s.aw.length/\11-S.s.aw.length<=m2/\ik k m2 S=r):=J (by
   refine⟨x.gp k,m',ej,v4,p++[(g,bs)],Z ei,?_,?_,?_,Z A⟩
   unfold Pz.gp;rw[<-K];exact cy;unfold Pz.gp;simp
   ·have:=Z hm;unfold Pz.gp;simp;omega)
  rw[a1]at a2;replace a2:=J a2;clear b6 cy cv a1 b3 o7 g7 cx cw cp b5 g6 g5 hg;replace⟨b4,K,hL⟩:=cz b4 K hL;go_wp2_with (at_builtin;refine ql (by rfl) 206 206 (by rfl) _ _ (by rfl) _ _ _ (by rfl) (by rfl) (Z a2) ?_);go_roundg (11-(x.s.aw.length+1));case measure=>omega
  case rel=>exact Z hrel
end
section
variable{A:Addr}{Y:List Rg}{i k m:Nat}{a:Option Addr}{w:ω}
def L7(a:Option Addr)(n cap i:Nat)(h:i<=cap)(W:ω):(Instr.slice 133 (σ a n cap) ν (μ (ι δ i)) (μ (ι δ i))).run prog W=.ok (σ a i i) W:=by
 rw[run_slice_hm W 133 a n cap (by rw[xY];exact underlying133) δ δ (i:Int) (i:Int) (by omega) (cE _) (by omega),xY,DW];simp only[jh,sliced,oE,oH,Nat.sub_zero]
 congr 1;cases a with
 |none=>simp
 |some y=>simp[Addr.add]
def L9(a:Option Addr)(n cap j:Nat)(h:j<=n)(W:ω):(Instr.slice 133 (σ a n cap) (μ (ι δ j)) ν ν).run prog W=.ok (σ (if cap=j then a else a.map (·.add (j*2))) (n-j) (cap-j)) W:=by
 rw[run_slice_l W 133 a n cap (by rw[xY];exact underlying133) δ (j:Int) (by omega) (by omega),xY,DW];simp only[jh,sliced,oE]
def bq.Ma(h:bq w a k i Y)(m:Nat)(c:m<=k):bq w a m m (Y.take m):=by
 obtain⟨d,e,f,g,b⟩:=h.head m c;refine⟨d,e,aP _,by omega,?_⟩
 obtain b|b:=b
 exact φ (by omega);exact ψ b
def bq.rest(h:bq w a k i Y)(m:Nat)(c:m<=k):bq w (if i=m then a else a.map (·.add (m*2))) (k-m) (i-m) (Y.drop m):=by
 refine h.back m c ?_;by_cases d:i=m;left;omega;right;obtain⟨-,-,e,-,f|⟨b,o,rfl,-⟩⟩:=h;omega;exact⟨b,o,rfl,by rw[aB d];simp[Addr.add_mid]⟩
def Mb(h:(if k=m then a else a.map (·.add (m*2)))=μ A):∃z,a=μ z/\z.block=A.block:=by
 split at h;exact⟨A,h,rfl⟩
 cases a with
 |none=>cases h
 |some z=>
  refine⟨z,rfl,?_⟩
  simp only[sN,nH]at h;rw[<-h];unfold Addr.add;split<;>rfl
def DY(h:iT Y)(m:Nat)(b:m<Y.length):iT (Y.drop m):=by
 have e:∀i,ao (Y.drop m) i=ao Y (m+i):=λi=>by simp[ao,List.getD,lC]
 refine⟨by rw[dO];omega,λi hi=>?_⟩
 rw[dO]at hi;have a:=h.2 (m+i) (by omega);unfold nL at a⊢;rw[e,e];refine⟨a.1,a.2.1,λh0=>?_⟩
 have:=a.2.2 (by omega);rw[show m+(i-1)=m+i-1 by omega];exact this
def DZ(L:List Rg)(k i:Nat)(b:k<=L.length)(hi:i<k):ao (eX L k) i=⟨(ao L (L.length-1-i)).lo,(ao L (L.length-1-i)).hi-1⟩:=by
 induction k with
 |zero=>omega
 |succ k a=>
  unfold eX;by_cases h:i<k;rw[<-a (by omega) h];simp only[ao,List.getD]
  rw[mm (by rw[lZ];exact h)];obtain rfl:i=k:=by omega
  simp only[ao,List.getD]
  rw[mU (by rw[lZ];omega),lZ,sP];rfl
def D0(L:List Rg)(h:aU L)(h0:0<L.length)(b:∀r∈L,0<=r.lo/\r.hi<=4611686018427387904):iT (eX L L.length):=by
 refine⟨by rw[lZ];exact h0,λi hi=>?_⟩
 rw[lZ]at hi;have a:=kh (Y:=L) (i:=L.length-1-i) (by omega);have c:=h.2 _ a;have d:=b _ a;unfold nL;rw[DZ L _ i (aP _) hi];simp only
 refine⟨by omega,by omega,λe=>?_⟩
 rw[DZ L _ (i-1) (aP _) (by omega)];simp only
 have f:=h.lt (i:=L.length-1-i) (k:=L.length-1-(i-1)) (by omega) (by omega);omega
def Mc(w:ω)(l sb:Nat)(cs:Array υ)(v:bf)(s:Sd)(H:bI w l sb cs v s)(m:0<=s.count/\s.count<=4611686018427387903):
 Calls prog 205 #[π (μ ⟨sb,91,ν⟩)] w λr b=>r=ξ (ι η s.count)/\γ w b (μ sb)/\bI b l sb (cs.setIfInBounds 91 (ι η (s.count+1))) v {s with count:=s.count+1}:=by
 apply(Cw w sb 91 cs _ s.count H.aV H.fl.c0 m).mono;rintro r b⟨rfl,g,p⟩;refine⟨rfl,g,?_⟩
 have z:(95:Nat)<cs.size:=by rw[H.sz];omega
 have a:∀i,i≠91->(cs.setIfInBounds 91 (ι η (s.count+1)))[i]?=cs[i]? :=λi h=>bH
 have C:ay w b (λk=>k=sb):=(ay.of g).mono (λk _ e=>(aQ e).symm);have d:∀j,j=sb->cG sb v j:=λj h=>φ h
 refine⟨p,by simp[H.sz],(a 0 (by omega)).trans H.c0,(a 1 (by omega)).trans H.c1,λi hi=>(a _ (by omega)).trans (H.key i hi),(a 18 (by omega)).trans H.iN,λj f=>?_,λj f=>?_,?_,H.aw,H.lost,(a 96 (by omega)).trans H.oO,?_,(a 97 (by omega)).trans H.pJ,(a 98 (by omega)).trans H.lJ,(a 99 (by omega)).trans H.mH,(a 100 (by omega)).trans H.qR,?_,bK H.aI g.size⟩
 exact H.uR C d j f (λi q t=>a i (by omega)) (λk e h=>H.bu.ij j (by omega) (h▸e));exact H.uS C d j f (λi q t=>a i (by omega)) (λk e h=>H.bu.ij (4+j) (by omega) (h▸e));exact⟨cJ,(a _ (by omega)).trans H.fl.c1,(a _ (by omega)).trans H.fl.c2,(a _ (by omega)).trans H.fl.c3,(a _ (by omega)).trans H.fl.c4,H.fl.of.aA C (λk e h=>H.bu.ij 8 (by omega) (h▸e)),H.fl.ol.aA C (λk e h=>H.bu.ij 9 (by omega) (h▸e))⟩
 exact qd H.oP C (λy n c e=>⟨λh=>(H.bu.dV 8 (by omega) y n c e).1 (d _ h),(H.bu.dV 8 (by omega) y n c e).2⟩);have G:=H.bu;refine⟨cu G.iM C.size,λi hi k e=>cu (G.lt i hi k e) C.size,G.ij,G.sep,λi hi y n c e=>⟨(G.dV i hi y n c e).1,cu (G.dV i hi y n c e).2 C.size⟩,G.gF.aA C (λk _ e=>φ e)⟩
structure Ak where
 s:Sd
 rest:List Rg
 l:List (List Int)
def bw(l:List Rg):Fr:=⟨3,0,0,0,θ,⟨#[]⟩,l⟩
def Ak.n(x:Ak):Nat:=ky x.rest (x.s.aj-16) x.rest.length
def Ak.step(x:Ak):Ak:=⟨{x.s with count:=x.s.count+1},x.rest.drop x.n,x.l++[dq x.s.key (aK x.s.first) x.s.count (bA [bw (x.rest.take x.n)])]⟩
def ng:Nat->Ak->Ak
 |0,x=>x
 |m+1,x=>if x.rest.length=0 then x else ng m x.step
def Sd.eY(s:Sd):Ak:=if s.bQ then ng 10 ⟨{s with bQ:=θ},eX s.af s.af.length,[]⟩else⟨s,[],[]⟩
structure jG(w0:ω)(base sb:Nat)(v0 v:bf)(x:Ak)(v3:υ)(a:Option Addr)(n c:Nat)(W:ω)(cs:Array υ)(els:List El):Prop where
 side:bI W base sb cs v x.s
 fQ:dz w0.heap.size w0 W sb v0 v
 ls:gm W w0.heap.size sb v els v3
 el:els.map (·.2)=x.l
 rs:bq W a n c x.rest
 ra:x.rest≠[]->∀y,a=μ y->w0.heap.size<=y.block/\v3.ownBlock≠μ y.block
section
variable {w0:ω} {base sb:Nat} {v0 v:bf} {x:Ak} {v3:υ} {a:Option Addr} {n c:Nat} {W W':ω} {cs:Array υ} {els:List El}
def jG.gb(h:jG w0 base sb v0 v x v3 a n c W cs els)(g:γ W W' ν):jG w0 base sb v0 v x v3 a n c W' cs els:=
 ⟨h.side.au g,h.fQ.trans (dz.au g),h.ls.gb g,h.el,h.rs.au g,h.ra⟩
def jG.num(h:jG w0 base sb v0 v x v3 a n c W cs els)(j:sb<w0.heap.size){b:Sd}{d:Array υ}(i:bI W' base sb d v b)(g:γ W W' (μ sb)):jG w0 base sb v0 v {x with s:=b} v3 a n c W' d els:=by
 have C:ay W W' (cG sb v):=(ay.of g).mono (λk _ e=>φ (aQ e).symm);refine⟨i,h.fQ.trans ⟨C,λ_ h=>φ h,λ_ h=>φ h⟩,h.ls.next (X:=λ_=>False) (C.mono (λ_ _ h=>φ h)) (λ_ _=>id) (λ_ _=>id) (λ_ h=>φ h),h.el,h.rs.cM (λhl y f=>g.block _ (by subst f;exact h.rs.lt hl) (λe=>by have:=(h.ra hl y f).1;have:=aQ e;omega)),h.ra⟩
def jG.app(h:jG w0 base sb v0 v x v3 a n c W cs els){d p:ω}(q:γ W d ν){e:El}(A:W.heap.size<=e.1)(r:d.heap[e.1]?=μ (ο (bv e.2).toArray 5 (0,0)))(s:∀y∈e.2,W8 y){m:υ}(t:gK p w0.heap.size m (els++[e]))(g:γ d p v3.ownBlock)(f:m.ownBlock=v3.ownBlock\/m.ownBlock=μ d.heap.size):jG w0 base sb v0 v {x with l:=x.l++[e.2]} m a n c p cs (els++[e]):=by
 have b:=h.gb q;have B:=h.fQ.aA.size;have u:jS d w0.heap.size [e]:=⟨λy w=>by rw[cA.1 w];exact⟨by omega,s,r⟩,wu _ _⟩
 have z:=b.ls.app u (λk=>by have:=oN h.side.bu k;omega) (λe1=>by have:=(h.ls.own.lt _ e1).2;omega) (λa k e1=>by have:=h.ls.at_.lt k;omega) (λj k=>oN b.side.bu k) t g f;refine⟨b.side.other (ay.of g) (λj _ e1=>b.ls.a5 j e1),⟨?_,b.fQ.ft,b.fQ.ar⟩,z,by rw[mV,h.el];rfl,b.rs.cM (λhl y i=>g.block _ (by subst i;exact b.rs.lt hl) (λe1=>(b.ra hl y i).2 e1.symm)),λhl y i=>⟨(b.ra hl y i).1,λe1=>?_⟩⟩
 exact(b.fQ.aA.trans (ay.of g)).mono (λj C e1=>e1.elim id (λe1=>by have:=(b.ls.own.lt j e1).1;omega));obtain f|f:=f
 rw[f]at e1;exact(b.ra hl y i).2 e1;rw[f]at e1;have:=aQ e1;have:y.block<d.heap.size:=by subst i;exact b.rs.lt hl
 omega
def jG.cut(h:jG w0 base sb v0 v x v3 a n c W cs els)(m:Nat)(b:m<=n):jG w0 base sb v0 v {x with rest:=x.rest.drop m} v3 (if c=m then a else a.map (·.add (m*2))) (n-m) (c-m) W cs els:=
 ⟨h.side,h.fQ,h.ls,h.el,h.rs.rest m b,λhl y d=>by
  obtain⟨z,f,e⟩:=Mb d;rw[<-e];exact h.ra (λe0=>hl (by simp only;rw[e0,List.drop_nil])) z f⟩
end
def D1(w0:ω)(base sb:Nat)(v0 v:bf)(x:Ak)(a:Option Addr)(n c:Nat)(v3:υ)(W:ω):Prop:=∃cs els,jG w0 base sb v0 v x v3 a n c W cs els
def Md{w0:ω}{base sb:Nat}{v0 v:bf}{x:Ak}{v3:υ}{a:Option Addr}{n c:Nat}{p m b:ω}{cs:Array υ}{els:List El}(q:jG w0 base sb v0 v x v3 a n c p cs els){l:List Int}{num:Int}{key:List Int}{f:Bool}(r:γ p m ν)(C:γ m b ν){g:Nat}(D:m.heap.size<=g)(E:b.heap[g]?=μ (ο (bv (dq key (aK f) num l)).toArray 5 (0,0)))(F:∀y∈l,W8 y)(hl:els.length<=1000):
 ∃h i k d,(Builtin.append_ #[206,206] 206 #[v3,σ (μ ⟨b.heap.size,0,ν⟩) 1 1]).run prog (b.alloc (ο #[σ (μ ⟨g,0,ν⟩) (l.length+16) (l.length+16)] 112))=.ok (σ h i k) d/\D1 w0 base sb v0 v {x with l:=x.l++[dq key (aK f) num l]} a n c (σ h i k) d/\(b.alloc (ο #[σ (μ ⟨g,0,ν⟩) (l.length+16) (l.length+16)] 112)).grownBy d v3.ownBlock:=by
 have G:(b.alloc (ο #[σ (μ ⟨g,0,ν⟩) (l.length+16) (l.length+16)] 112)).heap[b.heap.size]?=μ (ο #[σ (μ ⟨g,0,ν⟩) (l.length+16) (l.length+16)] 112 (0,0)):=aO _ _;have s:γ b (b.alloc (ο #[σ (μ ⟨g,0,ν⟩) (l.length+16) (l.length+16)] 112)) ν:=aJ _ _ _;generalize b.alloc (ο #[σ (μ ⟨g,0,ν⟩) (l.length+16) (l.length+16)] 112)=H at *;have t:=aq r (aq C s);have z:=q.gb t;obtain⟨h,i,k,d,I,o,A,K⟩:=zY (w:=H) 206 w0.heap.size v3 els z.ls.own ⟨b.heap.size,0,ν⟩ 1 [(g,dq key (aK f) num l)] (λj u B=>by
  have L:j=0:=by have:=(lA.1 B).1;simpa using this
  subst L;have M:u=ks (g,dq key (aK f) num l):=by simpa using B.symm
  subst M;rw[Addr.add_mid];unfold ks;simp only[qX]
  simp[World.cell?,G]) (by simp only[cS,fM];omega) z.fQ.aA.size
 exact⟨h,i,k,d,I,⟨_,_,q.app (e:=(g,dq key (aK f) num l)) t (bK r.size D) (bE E s) (tJ F) o A K⟩,A⟩
structure xZ(s0:Sd)(x:Ak):Prop where
 aj:x.s.aj=s0.aj
 key:x.s.key=s0.key
 tK:x.rest≠[]->iT x.rest
 rl:x.rest.length<=8
 ba:0<=x.s.count/\x.s.count+x.rest.length<=4611686018427387000
 ll:x.l.length+x.rest.length<=8
def Me(l:List Rg)(a:Int)(m:Nat):ky l a m<=m:=by
 induction m with
 |zero=>exact aP _
 |succ m b=>unfold ky;split<;>omega
def D3(w:ω)(base sb:Nat)(v:bf)(r:Ak)(e:Ending)(b:ω):Prop:=
 ∃a n c f d els,e=ξ (σ a n c)/\bI b base sb f d r.s/\dz w.heap.size w b sb v d/\gm b w.heap.size sb d els (σ a n c)/\els.map (·.2)=r.l
def Mf{w:ω}{a:Option Addr}{n c:Nat}{l:List Rg}(h:bq w a n c l)(b:iT l)(hl:l.length<=8):dL w (bw l) (σ a n c)/\cO (bw l)/\gN [bw l]<=30000000:=by
 have d:=h.2.1;subst d;refine⟨⟨⟨by simp[dD,bw],by simp[dD,bw],by simp[aW,bw],by simp[aW,bw],h.1⟩,by simp[bw,ByteArray.size],a,c,rfl,h⟩,⟨⟨by simp[bw],by simp[bw],by simp[bw],by simp[bw]⟩,⟨λ_=>b,λe=>by simp[bw]at e⟩,by simp[bw],by simp[bw]⟩,?_⟩
 simp[gN,mZ,bw,ByteArray.size];omega
def Mg(w:ω)(base sb:Nat)(cs:Array υ)(v:bf)(s:Sd)(H:bI w base sb cs v s)(ez:eP s.key)(fo:56<=s.aj/\s.aj<=1000)(fq:0<=s.count/\s.count<=4611686018427386000)(eC:s.af.length<=8)(Q:aU s.af)(S:∀r∈s.af,0<=r.lo/\r.hi<=4611686018427387904):
 Calls prog 158 #[π (μ ⟨sb,0,ν⟩)] w (D3 w base sb v s.eY):=by
 obtain⟨r,d⟩:=exq s.eY;rw[<-d];obtain⟨R,L⟩:=exq (D3 w base sb v r);rw[<-L];replace L:=J L;have d98:=(aZ H.aV _).trans H.lJ;unfold Sd.eY at d;cases ho:s.bQ
 ·rw[ho]at d98 d;simp only[eN,eA]at d;have br:Hid (R (ξ (σ ν 0 0)) w):=J (by
   rw[Z L,d];exact⟨ν,0,0,cs,v,[],rfl,H,dz.rfl' _ _ _ _,gm.nil _ _ _ _,rfl⟩)
  clear d;replace H:=J H;go_enter func158,ntmps158;go_wp2_with fail;exact Z br
 rw[ho]at d98 d;simp only[dC]at d;have f98:χ w ⟨sb,98,ν⟩=θ:=by simp[World.frozen?,H.aV]
 obtain⟨T,U⟩:=exq (ζ w ⟨sb,98,ν⟩ (β θ));have g1:γ w T (μ sb):=by rw[U];exact aM (aD _ _) _ _ (ψ rfl)
 have bt:T.heap[sb]?=μ (ο (cs.setIfInBounds 98 (β θ)) 241 (0,0)):=by rw[U];exact heap_set H.aV _
 have eD:(98:Nat)<cs.size:=by rw[H.sz];omega
 have H1:eF w.heap.size w base sb v {s with af:=s.af,floor:=s.floor,bQ:=θ} T:=H.CD (v.set 8) s.af s.floor θ bt (by simp) (λi hi=>bH) (by rw[bH];exact H.oO) (by rw[bH];exact H.pJ) (cJ eD) ((ay.of g1).mono (λk _ e=>(aQ e).symm)) (qd H.oP ((ay.of g1).mono (λk _ e=>(aQ e).symm)) (λy n c e=>⟨λh=>(H.bu.dV 8 (by omega) y n c e).1 (φ h),(H.bu.dV 8 (by omega) y n c e).2⟩)) (φ rfl);obtain⟨cC,p,E,db⟩:=H1;have eK:=H.bu.iM;obtain⟨ca,cn,cc,bx,V⟩:=E.oP;have d96:=(aZ E.aV _).trans E.oO;rw[bx]at d96;have bz:∀r∈s.af,1<=r.hi:=λr d=>by have:=Q.2 r d;have:=S r d;omega
 have de:=J (Kq T sb 96 ca cn cc s.af d96 V bz (by have fs:cn=s.af.length:=V.2.1;omega));have dg:Hid (xZ s ⟨{s with bQ:=θ},eX s.af s.af.length,[]⟩):=J ⟨rfl,rfl,λz=>D0 _ Q (by
  obtain h|h:=Nat.eq_zero_or_pos s.af.length
  exact absurd (kJ (by rw[lZ];exact h)) z
  ·exact h) S,by simp only[lZ];exact eC,by simp only[lZ];omega,by simp only[lZ,fM];omega⟩
 replace⟨Q,S,bz,d,H,E,bt,V,bx⟩:=qU Q S bz d H E bt V bx;clear g1;go_enter func158,ntmps158;go_upto_region 4 with fail;rw[<-U];clear U d98 f98;go_wp2_with fail;apply(Z de).mono;rintro e w2⟨rv,rfl,X,g2⟩;obtain⟨ra,rc,rfl⟩:∃ra rc,rv=σ ra (eX s.af s.af.length).length rc:=by
  obtain⟨-,-,⟨rfl,e2⟩|⟨g,cap,fy,rfl,_⟩⟩:=id X;exact⟨ν,0,by rw[e2]⟩
  exact⟨_,_,rfl⟩
 have dk:Hid (jG w base sb v p ⟨{s with bQ:=θ},eX s.af s.af.length,[]⟩ (σ ν 0 0) ra (eX s.af s.af.length).length rc w2 cC []):=J ⟨(Z E).au g2,db.trans (dz.au g2),gm.nil _ _ _ _,rfl,X.nN.1,λ_ y ey=>⟨by have:=X.nN.2 y ey;have:=db.aA.size;omega,λe=>by cases e⟩⟩;clear de X g2;have Y:=lZ s.af s.af.length;obtain⟨rl,bM⟩:=exq (eX s.af s.af.length);rw[<-bM]at dk dg d Y;rw[<-bM];clear bM;replace Y:=J Y;go_upto_region 6 with fail;go_loopg [3,4] rl.length (λg v3 v4 wr=>∃(x:Ak)(m:Nat)(al:Array υ)(els:List El)(a:Option Addr)(c:Nat),v4=σ a x.rest.length c/\xZ s x/\jG w base sb v p x v3 a x.rest.length c wr al els/\g=x.rest.length/\x.rest.length+1<=m/\ng m x=r);case atStart=>exact⟨_,10,cC,[],ra,rc,rfl,Z dg,Z dk,rfl,by have:=Z Y;simp only;omega,(Z d).symm⟩
 case round=>
  obtain⟨x,m,al,els,a,c,rfl,hP,b,rfl,b0,hl⟩:=hrel;obtain⟨m',eL⟩:∃m',m=m'+1:=⟨m-1,by omega⟩
  have A:(if x.rest.length=0 then x else ng m' x.step)=r:=by rw[<-hl,eL];rfl
  obtain⟨G,c3,rfl⟩:=b.ls.slice;by_cases h0:x.rest.length=0
  ·rw[aG h0]at A;have br:Hid (R (ξ (σ G els.length c3)) wr):=J (by rw[Z L,<-A];exact⟨G,_,c3,al,p,els,rfl,b.side,b.fQ,b.ls,b.el⟩);have d0:decide (0<x.rest.length)=θ:=dF_;clear A hl;replace⟨hP,b,h0⟩:=cz hP b h0;go_wp2_with fail;exact Z br
  rw[aB h0]at A;have d0:decide (0<x.rest.length)=ρ:=dT_;have z:x.rest≠[]:=λe=>h0 (by rw[e];rfl)
  have fA:=hP.rl;have b3:x.s.aj=s.aj:=hP.aj;have dn:=J (Dq wr sb x.s.aj ((aZ b.side.aV _).trans b.side.c0) (by omega));have ds:=J (λW(g:γ wr W ν)=>L6 W a x.rest.length c x.rest (b.rs.au g) (hP.tK z) (by omega) (x.s.aj-16) (by omega));have ga:x.rest.length<=c:=b.rs.2.2.1;replace⟨b3,hP,b,A,hl,z,b0⟩:=iU b3 hP b A hl z b0;go_wp2_with fail;apply(Z dn).mono;rintro e w3⟨rfl,g3⟩;go_wp2_with fail;apply(Z ds _ g3).mono;rintro e M⟨⟨q,rfl,hq,gf,ax,b4⟩,g4⟩;have aC:q=x.n:=hq;have gg:∀W,(Instr.slice 133 (σ a x.rest.length c) ν (μ (ι δ q)) (μ (ι δ q))).run prog W=.ok (σ a q q) W:=λW=>L7 a _ c q (by omega) W
  obtain⟨N,a0⟩:=exq (M.alloc (ο #[ι δ 3,ι δ 0,ι η 0,ι η 0,β θ,ς ⟨#[]⟩,σ a q q] 158));have g5:γ M N ν:=by rw[a0];exact aJ _ _ _
  have a1:N.heap[M.heap.size]?=μ (ο #[ι δ 3,ι δ 0,ι η 0,ι η 0,β θ,ς ⟨#[]⟩,σ a q q] 158 (0,0)):=by rw[a0];exact aO _ _
  have eS:=aq g3 (aq g4 g5);have O:=(Z b).gb eS;clear dn ds hq eK;replace⟨b4,aC,a1,O⟩:=fE b4 aC a1 O;go_upto_region 9 with fail;rw[<-a0];clear a0;have b5:sb<w.heap.size:=(Z H).bu.iM;have dx:M.heap.size≠sb:=by have:=(Z O).fQ.aA.size;have:=(Z b).fQ.aA.size;have:=g3.size;have:=g4.size;omega
  obtain⟨F,hF⟩:=exq M.heap.size;rw[<-hF]at a1 dx;rw[<-hF];have e3:Hid ((Value.slice G els.length c3).ownBlock≠μ F):=J (λe=>by have:=((Z b).ls.own.lt F e).2;have:=g3.size;have:=g4.size;omega);clear hF;have k0:∀W:ω,W.heap[F]?=μ (ο #[ι δ 3,ι δ 0,ι η 0,ι η 0,β θ,ς ⟨#[]⟩,σ a q q] 158 (0,0))->κ W ⟨F,0,ν⟩=μ (ι δ 3):=λW h=>(dI h).1
  have k1:∀W:ω,W.heap[F]?=μ (ο #[ι δ 3,ι δ 0,ι η 0,ι η 0,β θ,ς ⟨#[]⟩,σ a q q] 158 (0,0))->κ W ⟨F,1,ν⟩=μ (ι δ 0):=λW h=>(dI h).2.1
  have k2:∀W:ω,W.heap[F]?=μ (ο #[ι δ 3,ι δ 0,ι η 0,ι η 0,β θ,ς ⟨#[]⟩,σ a q q] 158 (0,0))->κ W ⟨F,2,ν⟩=μ (ι η 0):=λW h=>(dI h).2.2.1
  have k3:∀W:ω,W.heap[F]?=μ (ο #[ι δ 3,ι δ 0,ι η 0,ι η 0,β θ,ς ⟨#[]⟩,σ a q q] 158 (0,0))->κ W ⟨F,3,ν⟩=μ (ι η 0):=λW h=>(dI h).2.2.2.1
  have k4:∀W:ω,W.heap[F]?=μ (ο #[ι δ 3,ι δ 0,ι η 0,ι η 0,β θ,ς ⟨#[]⟩,σ a q q] 158 (0,0))->κ W ⟨F,4,ν⟩=μ (β θ):=λW h=>(dI h).2.2.2.2.1
  have k5:∀W:ω,W.heap[F]?=μ (ο #[ι δ 3,ι δ 0,ι η 0,ι η 0,β θ,ς ⟨#[]⟩,σ a q q] 158 (0,0))->κ W ⟨F,5,ν⟩=μ (ς ⟨#[]⟩):=λW h=>(dI h).2.2.2.2.2.1
  have k6:∀W:ω,W.heap[F]?=μ (ο #[ι δ 3,ι δ 0,ι η 0,ι η 0,β θ,ς ⟨#[]⟩,σ a q q] 158 (0,0))->κ W ⟨F,6,ν⟩=μ (σ a q q):=λW h=>(dI h).2.2.2.2.2.2
  have dE:=(Z hP).ba;have dG:=J (Mc N.drew base sb al p x.s ((Z O).side.au (aY (aD _ ν))) (by omega));have ea:=J (λf C(S6:bI f base sb C p {x.s with count:=x.s.count+1})(g:N.drew.grownBy f (μ sb))=>((Z O).gb (aY (aD _ ν))).num b5 S6 g);have a2:=J (λf C(j:jG w base sb v p ⟨{x.s with count:=x.s.count+1},x.rest,x.l⟩ (σ G els.length c3) a x.rest.length c f C els)=>by
   have b6:=Mf (j.rs.Ma q ax) (Af ((Z hP).tK (Z z)) q (by omega) ax) (by rw[ct];have:=(Z hP).rl;omega);exact Dp f (bw (x.rest.take q)) (σ a q q) b6.1 b6.2.1 b6.2.2)
  have a3:eP x.s.key:=by rw[(Z hP).key];exact ez
  have b7:els.length<=1000:=by
   have h1:els.length=x.l.length:=by have:=fD List.length (Z b).el;rw[dd]at this;exact this
   have:=(Z hP).ll;omega
  have e4:(bA [bw (x.rest.take q)]).length<=1000:=by
   have e:bA [bw (x.rest.take q)]=2::gJ (x.rest.take q):=by simp[bA,dm,bw]
   rw[e,cS];have:=Z b3;have:=Z b4;omega
  have b8:=J (λf u C(j:jG w base sb v p ⟨{x.s with count:=x.s.count+1},x.rest,x.l⟩ (σ G els.length c3) a x.rest.length c f C els)(t:γ f u ν)(a7:Option Addr)(n7 c7:Nat)(I:bn u f.heap.size (σ a7 n7 c7) (bA [bw (x.rest.take q)]))=>DV u sb x.s.key x.s.first a3 ((j.side.au t).rZ a3) ((aZ (j.side.au t).aV _).trans (j.side.au t).iN) x.s.count (by unfold aW;omega) a7 n7 c7 _ I.iy);have ch:=J (λf u w8 C(j:jG w base sb v p ⟨{x.s with count:=x.s.count+1},x.rest,x.l⟩ (σ G els.length c3) a x.rest.length c f C els)(t:γ f u ν)(g8:γ u w8 ν)(g:Nat)(hg:u.heap.size<=g)(a4:w8.heap[g]?=μ (ο (bv (dq x.s.key (aK x.s.first) x.s.count (bA [bw (x.rest.take q)]))).toArray 5 (0,0)))(hw:∀y∈bA [bw (x.rest.take q)],W8 y)=>Md j t g8 hg a4 hw b7);obtain⟨B,hB⟩:=exq (bA [bw (x.rest.take q)]);rw[<-hB]at a2 b8 ch e4;have ee:bU (bw (x.rest.take q)) (σ a q q)= #[ι δ 3,ι δ 0,ι η 0,ι η 0,β θ,ς ⟨#[]⟩,σ a q q]:=rfl;rw[ee]at a2;clear ee;obtain⟨a8,hZ⟩:∃a8:υ->ω->Prop,a8=λbb W=>∃a' n' c',bb=σ a' n' c'/\D1 w base sb v p ⟨{x.s with count:=x.s.count+1},x.rest,x.l++[dq x.s.key (aK x.s.first) x.s.count B]⟩ a x.rest.length c bb W:=⟨_,rfl⟩
  replace⟨hZ,hB,b5,dE,a3,b7⟩:=pH hZ hB b5 dE a3 b7;have bj:N.drew.heap[F]?=μ (ο #[ι δ 3,ι δ 0,ι η 0,ι η 0,β θ,ς ⟨#[]⟩,σ a q q] 158 (0,0)):=Z a1;go_cut [3] (λbb wx=>a8 bb wx);case first=>
   go_region_held3 (λw'=>w'.heap[F]?=μ (ο #[ι δ 3,ι δ 0,ι η 0,ι η 0,β θ,ς ⟨#[]⟩,σ a q q] 158 (0,0)))
    (with_reducible first|exact e5|exact cj|exact ei|exact ej|exact ek|exact bj)
    (first
      |(go_at_call 205;apply(Z dG).mono;rintro e f⟨rfl,g6,S6⟩;have j:=J (Z ea _ _ S6 g6);have ek:=(g6.block F (bg.1 bj).1 (λe=>dx (aQ e))).trans bj;clear S6)
      |(go_at_call 206;apply(Z a2 _ _ (Z j)).mono;rintro e u⟨⟨a7,n7,c7,rfl,I⟩,t⟩;have ej:=bE ek t;have cp:=I.1;replace I:=J I;replace cp:=J cp)
      |(go_at_call 204;apply(Z b8 _ _ _ (Z j) t _ _ _ (Z I)).mono;rintro e w8⟨g,rfl,hg,a4,g8⟩;have ei:=bE ej g8;obtain⟨a9,n9,c9,w9,cv,eo,g9⟩:=Z ch _ _ _ _ (Z j) t g8 g hg a4 (Z cp);have cj:=bE ei (aJ w8 (ο #[σ (μ ⟨g,0,ν⟩) (B.length+16) (B.length+16)] 112) ν);have e5:=(g9.block F (bg.1 cj).1 (λe=>Z e3 e.symm)).trans cj;have e6:Hid (a8 (σ a9 n9 c9) w9):=J (by rw[Z hZ];exact⟨a9,n9,c9,rfl,eo⟩);clear a4 hg eo;replace cv:=J cv)
      |(refine Dk (by rfl) 206 206 (by rfl) _ _ (by rfl) _ _ _ (by rfl) (by rfl) (Z cv) ?_))
   all_goals go_wp2_with fail
   all_goals go_meet
   all_goals exact Z e6
  case rest=>
   rw[Z hZ]at hcut;obtain⟨a9,n9,c9,rfl,e7,e8,et⟩:=hcut;have e9:∀W,(Instr.slice 133 (σ a x.rest.length c) (μ (ι δ q)) ν ν).run prog W=.ok (σ (if c=q then a else a.map (·.add (q*2))) (x.rest.length-q) (c-q)) W:=λW=>L9 a _ c q ax W
   have cw:=et.cut q ax;have fa:Hid (xZ s x.step):=J (by
    have P:=Z hP;have gh:=P.ba;have gi:=P.ll;have K:=Z aC;refine⟨P.aj,P.key,λh=>?_,?_,?_,?_⟩
    unfold Ak.step at h⊢;simp only at h⊢;rw[<-K]at h⊢;exact DY (P.tK (Z z)) q (by
     obtain h1|h1:=Nat.lt_or_ge q x.rest.length
     exact h1
     ·exact absurd (wA h1) h)
    unfold Ak.step;simp only[dO,<-K];omega;unfold Ak.step;simp only[dO,<-K];omega
    ·unfold Ak.step;simp only[dO,<-K,bF,cS,fM];omega)
   obtain⟨eu,cx⟩:=exq ((if c=q then a else a.map (·.add (q*2))));rw[<-cx]at e9 cw;have hrel:Hid (∃(D:Ak)(m2:Nat)(fb:Array υ)(ff:List El)(a':Option Addr)(c':Nat),(Value.slice eu (x.rest.length-q) (c-q))=σ a' D.rest.length c'/\xZ s D/\jG w base sb v p D (σ a9 n9 c9) a' D.rest.length c' wc fb ff/\x.rest.length-q=D.rest.length/\D.rest.length+1<=m2/\ng m2 D=r):=J (by
    have K:=Z aC;have ew:x.step=⟨{x.s with count:=x.s.count+1},x.rest.drop q,x.l++[dq x.s.key (aK x.s.first) x.s.count B]⟩:=by
     unfold Ak.step;rw[<-K,Z hB]
    have cy:x.step.rest.length=x.rest.length-q:=by rw[ew];simp
    refine⟨x.step,m',e7,e8,eu,c-q,by rw[cy],Z fa,?_,cy.symm,?_,Z A⟩
    rw[cy,ew];exact cw
    ·have:=Z b0;omega)
   clear et cw dG ea a2 b8 ch k0 k1 k2 k3 k4 k5 k6 bj;replace cx:=J cx;go_wp2;go_roundg (x.rest.length-q);case measure=>omega
   case rel=>exact Z hrel
end
