import Derived.Test.YtjnmokmchdfchaaGreatDoorZLg
import Derived.Test.YtjnmokmchdfchaaGreatDoorZLh
import Derived.Test.YtjnmokmchdfchaaGreatDoorZLi
set_option maxRecDepth 1000000
set_option maxHeartbeats 0
set_option linter.all false
namespace Go.Proofs.YtjnmokmchdfchaaGreatDoor
open Go.RowKit Tryz
open Go.Value renaming int→ι,slice→σ,bool→β,pointer→π,agg→ε,string→ς,tuple→τ
open Go.IntKind renaming i64→δ,u64→η,u8→Δ
open Go.Ending renaming returned→ξ
open Go.Obj renaming cells→ο
open Or renaming inl→φ,inr→ψ
open Option renaming some→μ,none→ν
open Bool renaming true→ρ,false→θ
open Go renaming World→ω,Value→υ
open Go.World renaming grownBy→γ,cell?→κ,frozen?→χ,setCell→ζ
attribute[local go_sem↓]Go.wp_at_zero Go.wp_at_succ
variable{C c:Array υ}{B:Bool}{I:Fr}{p q r:Int}{E:It}{K L:List Int}{Y:List Rg}{b i j k l m n o:Nat}{P S:Nat->Prop}{O a:Option Addr}{s:Sd}{T:TypeId}{x y z:υ}{V W v w:ω}{d:bf}
def zO:List υ:=[ι η 0,σ ν 0 0,σ ν 0 0,ι η 0,β θ,β θ,β θ,β θ,ι η 0]
def zI:List υ:=[ι η 0,σ ν 0 0,σ ν 0 0,ι η 0,ι η 0,ι η 0,β θ,β θ,β θ]
def mM(aj ag:Int)(key:List υ)(first:Bool)(wait cQ:Int)(last:υ):List υ:=
 [ι δ aj,ι δ ag]++key++[β first]++zO++zO++zO++zO++zI++zI++zI++zI++[ι η 0,ι δ 0,ι δ wait,σ ν 0 0,σ ν 0 0,σ ν 0 0,ι η 0,β θ,ι δ cQ,last]
def Mh(code:Int):Fr:=⟨6,0,0,code,θ,⟨#[]⟩,[]⟩
def Sd.Ag(s:Sd)(cQ code:Int):List (List Int):=if cQ=10 then[]else[dq s.key (aK s.first) s.count (bA [Mh code])]
def Mi(aj ag:Int)(key:List υ)(first:Bool)(wait cQ:Int)(last:υ)(a:key.length=16):(mM aj ag key first wait cQ last).length=101:=by simp[mM,zO,zI,a]
def NG(b:List Int):∀(k p:Nat)(c d:List Fr),iJ b k p c=(μ d,-1)->(∀f∈c,cO f)->∀f∈d,cO f:=by
 intro k;induction k with
 |zero=>intro p c d h;simp[iJ]at h
 |succ k l=>
  intro p c d h i;unfold iJ at h;split at h;split at h;simp at h;rename_i f q a;refine l q (c++[f]) d h (λg e=>?_);obtain e|e:=bL.1 e
  exact i g e;rw[cA.1 e];unfold nM at a;cases j:fY b (b.getD p 0) (p+1)with
  |none=>rw[j]at a;cases a
  |some x=>
   rw[j]at a;simp only[fL]at a;split at a;rename_i hs;simp only[nH]at a;rw[a]at hs;exact hs;cases a
  simp only[rJ,nH]at h;rw[<-h.1];exact i
def yd{a:List Fr}(h:fu L=(μ a,-1)):∀f∈a,cO f:=by
 unfold fu at h;split at h;simp at h;exact NG L _ _ _ _ h (λf b=>(by cases b))
structure iq(ag:Int)(i:It):Prop where
 ok:aU i.h.af
 fr:0<=i.h.fr
 lK:∀m,Sm i.h.af m->0<=m/\m<i.h.fr+ag
 mc:∀m,Sm i.h.af m->m<i.h.fr+i.h.bytes.length
 low:i.given=θ->∀m,0<=m->m<i.h.fr->Sm i.h.af m
 len:(i.h.bytes.length:Int)<=ag
 en:i.h.fr+i.h.bytes.length<=4611686018427387903
 tO:i.given=ρ->i.h.af=[]/\i.h.bytes=[]
def iq.cl(h:iq p E)(k:p<=1024):E.h.af.length<=1026:=by
 cases a:E.h.af with
 |nil=>simp
 |cons r l=>
  have b:=h.ok;rw[a]at b;by_cases d:E.given=θ;have c:=b.tail.CF E.h.fr (E.h.fr+p) (λm e=>by
   have i:=h.lK m (by rw[a];exact(dH r l m).2 (ψ e));refine⟨?_,i.2⟩
   by_cases n:m<E.h.fr;exfalso;have q:=b.behind e;have j:=b.2 r (by simp);have h0:=(h.lK r.lo (by rw[a];exact(dH r l r.lo).2 (φ ⟨cE _,j⟩))).1;have f:=h.low d r.hi (by omega) (by omega);rw[a]at f;obtain g|g:=(dH r l r.hi).1 f
   omega;have:=b.behind g;omega
   ·omega)
  simp only[cS]
  omega;have c:=(h.tO (by simpa using d)).1;rw[a]at c;cases c
def iq.nice(h:iq p E)(a:p<=1024):E.h.nice:=by
 have b:=h.len;have c:=h.cl a;exact⟨h.fr,h.en,h.ok,by omega,by omega⟩
def NH(M:List Rg):∀b:List Int,(∀x∈M,p<=x.lo/\q<=x.lo/\x.lo<=x.hi/\x.hi<=q+L.length)->b.length<=(hb p q L M b).length/\(∀x∈M,(x.hi-p).toNat<=(hb p q L M b).length)/\∀N:Nat,b.length<=N->(∀x∈M,(x.hi-p).toNat<=N)->(hb p q L M b).length<=N:=by
 induction M with
 |nil=>exact λb _=>⟨aP _,λx c=>(by cases c),λN h _=>h⟩
 |cons x M f=>
  intro b h;have c:=h x (by simp);have hl:=Cc (L:=L) (K:=b) c.1 c.2.1 c.2.2.1 c.2.2.2;obtain⟨j,g,i⟩:=f (mE p q L b x) (λy a=>h y (by simp[a]));have e:hb p q L (x::M) b=hb p q L M (mE p q L b x):=rfl;rw[e];refine⟨by omega,λy a=>?_,λN k d=>?_⟩
  obtain rfl|a:=dY.1 a
  omega;exact g y a;have l:=d x (by simp);exact i N (by omega) (λy a=>d y (by simp[a]))
def NI(h:iq p E)(c:E.given=θ)(ho:0<=q){x:Rg}(a:x∈iA E.h.af ⟨q,r⟩):E.h.fr<=x.lo/\q<=x.lo/\x.lo<=x.hi/\x.hi<=r:=by
 have d:=uN E.h.af ⟨q,r⟩;have e:=d.2 x a;have b:=(nP E.h.af ⟨q,r⟩ x.lo).1 ⟨x,a,cE _,e⟩;have f:=(nP E.h.af ⟨q,r⟩ (x.hi-1)).1 ⟨x,a,by omega,by omega⟩;simp only at b f;refine⟨?_,by omega,by omega,by omega⟩
 by_cases hl:x.lo<E.h.fr;exact absurd (h.low c x.lo (by omega) hl) b.2;omega
def iq.data(h:iq p E)(f:Fr)(ho:0<=f.offset)(r:aT f<=4611686018427387903)(j:E.given=θ->aT f<=E.h.fr+p):iq p (E.data f):=by
 have s:((aI f.data).length:Int)=f.data.size:=by rw[fN]
 cases b:E.given;have g:∀x∈iA E.h.af ⟨f.offset,aT f⟩,E.h.fr<=x.lo/\f.offset<=x.lo/\x.lo<=x.hi/\x.hi<=f.offset+(aI f.data).length:=λx c=>by
  have:=NI h b ho c;unfold aT at this;omega
 obtain⟨t,l,n⟩:=NH (p:=E.h.fr) (q:=f.offset) (L:=aI f.data) (iA E.h.af ⟨f.offset,aT f⟩) E.h.bytes g;have e:E.data f={E with high:=max E.high (aT f),ended:=E.ended||f.fin,last:=if f.fin then aT f else E.last,h:=⟨E.h.fr,hb E.h.fr f.offset (aI f.data) (iA E.h.af ⟨f.offset,aT f⟩) E.h.bytes,cD E.h.af ⟨f.offset,aT f⟩⟩}:=by
  unfold It.data;rw[b];rfl
 rw[e];have q:=h.fr;have j:=j b;have u:(hb E.h.fr f.offset (aI f.data) (iA E.h.af ⟨f.offset,aT f⟩) E.h.bytes).length<=max E.h.bytes.length (aT f-E.h.fr).toNat:=n _ (by omega) (λx c=>by have:=g x c;unfold aT;omega);have v:=h.len;have w:=h.en;refine⟨lV _ h.ok,q,λm i=>?_,λm i=>?_,λ_ m h0 a=>(iK _ h.ok m).2 (φ (h.low b m h0 a)),by simp only;omega,by simp only;omega,λe=>by simp only at e;rw[b]at e;cases e⟩
 obtain a|a:=(iK _ h.ok m).1 i
 exact h.lK m a;simp only at a⊢;omega;simp only
 obtain a|a:=(iK _ h.ok m).1 i
 have:=h.mc m a;omega;by_cases k:Sm E.h.af m;have:=h.mc m k;omega;obtain⟨x,c,y,z⟩:=(nP E.h.af ⟨f.offset,aT f⟩ m).2 ⟨a,k⟩;have:=l x c;have:=g x c;omega;have e:(E.data f).h=E.h/\(E.data f).given=E.given:=by unfold It.data;rw[b];exact⟨rfl,rfl⟩
 refine⟨by rw[e.1];exact h.ok,by rw[e.1];exact h.fr,by rw[e.1];exact h.lK,by rw[e.1];exact h.mc,λe2=>(by rw[e.2,b]at e2;cases e2),by rw[e.1];exact h.len,by rw[e.1];exact h.en,λ_=>by rw[e.1];exact h.tO b⟩
def iq.reset(h:iq p E)(f:Fr):iq p (E.reset f):=by
 have c:=h.len;have d:=h.en;cases b:E.given;have e:(E.reset f).h=⟨E.h.fr,[],[]⟩/\(E.reset f).given=ρ:=by unfold It.reset;rw[b];exact⟨rfl,rfl⟩
 refine⟨by rw[e.1];exact aU.nil,by rw[e.1];exact h.fr,λm a=>by rw[e.1]at a;exact absurd a (fP m),λm a=>by rw[e.1]at a;exact absurd a (fP m),λe2=>(by rw[e.2]at e2;cases e2),by rw[e.1];simp only[fM];omega,by rw[e.1];simp only[fM];omega,λ_=>by rw[e.1];exact⟨rfl,rfl⟩⟩
 have e:(E.reset f).h=E.h/\(E.reset f).given=ρ:=by unfold It.reset;rw[b];exact⟨rfl,rfl⟩
 refine⟨by rw[e.1];exact h.ok,by rw[e.1];exact h.fr,by rw[e.1];exact h.lK,by rw[e.1];exact h.mc,λe2=>(by rw[e.2]at e2;cases e2),by rw[e.1];exact h.len,by rw[e.1];exact h.en,λ_=>by rw[e.1];exact h.tO b⟩
structure nk(s:Sd):Prop where
 ag:0<=s.ag/\s.ag<=1024
 aF:∀k,k<4->iq s.ag (s.aF k)
 pre:mJ s
 fl:s.aw.length<=10
 ll:s.lost.length<=39000000
def nr(s:Sd)(f:Fr):Prop:=f.kind=5->(s.aF f.stream.toNat).given=θ->aT f<=(s.aF f.stream.toNat).h.fr+s.ag
def cO.st(h:cO I):0<=I.stream/\I.stream<4:=⟨h.1.2.2.1,h.1.2.2.2⟩
def cO.en(h:cO I)(a:I.kind=5):aT I<=4611686018427387903:=by
 have:=h.2.1.2 a;unfold aT;omega
def nk.tk(h:nk s)(hs:cO I)(ho:0<=I.offset)(b:nr s I):Dd s I:=by
 have d:=hs.st;have e:I.stream.toNat<4:=by omega
 have hi:=h.aF _ e;have f:=h.ag;refine⟨d,λg=>(hs.2.1.1 g).1,ho,λa=>hs.en a,hi.nice f.2,λa c m j k i=>?_⟩
 have b:=b a c;refine⟨?_,by omega⟩
 by_cases hl:m<(s.aF I.stream.toNat).h.fr;exact absurd (hi.low c m (by omega) hl) i;omega
def Er(s:Sd)(l:List Rg):(s.bT l).aw.length<=s.aw.length/\(s.bT l).lost.length<=s.lost.length+s.aw.length:=by
 have a:=oC (λx:Pk=> !decide (x.num+3<=(ao l 0).hi)) (s.aw.filter (λx=> !bp l x.num));have b:=oC (λx:Pk=> !bp l x.num) s.aw;have c:=oC (λx:Pk=> !bp l x.num) s.lost;have d:=oC (λx:Pk=>decide (x.num+3<=(ao l 0).hi)) (s.aw.filter (λx=> !bp l x.num));have a5:=oC (λx:Pk=> !x.ps.all (kq ((s.cg l).out x.st.toNat))) (s.cg l).lost;have e1:(s.bT l).aw=(s.aw.filter (λx=> !bp l x.num)).filter (λx=> !decide (x.num+3<=(ao l 0).hi)):=rfl;have e2:(s.bT l).lost=(s.cg l).lost.filter (λx=> !x.ps.all (kq ((s.cg l).out x.st.toNat))):=rfl;have e:(s.cg l).lost.length=(s.lost.filter (λx=> !bp l x.num)).length+((s.aw.filter (λx=> !bp l x.num)).filter (λx=>decide (x.num+3<=(ao l 0).hi))).length:=by unfold Sd.cg;simp only[bF]
 rw[e1,e2];exact⟨by omega,by omega⟩
def mJ.bT(h:mJ s)(l:List Rg):mJ (s.bT l):=by
 have a:=h.cg l;refine⟨a.out,λx c=>a.pk x ?_,a.num⟩
 have d:x∈(s.cg l).aw++(s.cg l).lost.filter (λx=> !x.ps.all (kq ((s.cg l).out x.st.toNat))):=c;obtain b|b:=bL.1 d
 exact fC _ b;exact ir _ (eO.1 b).1
def di(s:Sd):List Fr->Int×Sd
 |[]=>(0,s)
 |f::r=>if(s.take f).1=0 then di (s.take f).2 r else s.take f
structure kW(s a:Sd):Prop where
 ag:a.ag=s.ag
 key:a.key=s.key
 first:a.first=s.first
 count:a.count=s.count
 aj:a.aj=s.aj
 aF:∀k,(a.aF k).h.fr=(s.aF k).h.fr/\((a.aF k).given=θ->(s.aF k).given=θ)
def kW.rfl'(s:Sd):kW s s:=⟨rfl,rfl,rfl,rfl,rfl,λ_=>⟨rfl,id⟩⟩
def kW.trans{b c:Sd}(h:kW s b)(k:kW b c):kW s c:=⟨k.ag.trans h.ag,k.key.trans h.key,k.first.trans h.first,k.count.trans h.count,k.aj.trans h.aj,λi=>⟨(k.aF i).1.trans (h.aF i).1,λe=>(h.aF i).2 ((k.aF i).2 e)⟩⟩
def Es(i:It)(f:Fr):(i.data f).h.fr=i.h.fr/\(i.data f).given=i.given:=by
 unfold It.data;refine⟨?_,rfl⟩
 simp only
 split<;>rfl
def Et(i:It)(f:Fr):(i.reset f).h.fr=i.h.fr/\(i.reset f).given=ρ:=by
 unfold It.reset;refine⟨?_,rfl⟩
 simp only
 split<;>rfl
def take_same(s:Sd)(f:Fr):kW s (s.take f).2:=by
 have b:∀(k:Nat)(a:It),a.h.fr=(s.aF k).h.fr->(a.given=θ->(s.aF k).given=θ)->kW s {s with aF:=ah s.aF k a}:=λk a c d=>⟨rfl,rfl,rfl,rfl,rfl,λj=>by
  by_cases e:j=k;subst e;simp only[aR];exact⟨c,d⟩
  ·show(ah s.aF k a j).h.fr=_/\((ah s.aF k a j).given=θ->_)
   rw[aX _ _ e];exact⟨rfl,id⟩⟩
 unfold Sd.take;split;split;exact kW.rfl' s;exact⟨rfl,rfl,rfl,rfl,rfl,λ_=>⟨rfl,id⟩⟩
 split;split;exact kW.rfl' s;exact b _ _ (Et _ f).1 (λe=>by rw[(Et _ f).2]at e;cases e);split;split;exact kW.rfl' s;exact b _ _ (Es _ f).1 (λe=>by rw[(Es _ f).2]at e;exact e);split<;>exact kW.rfl' s
def nk.take(h:nk s){B:Nat}(hs:cO I)(ho:0<=I.offset)(f:nr s I)(i:s.lost.length+10<=B)(k:B<=39000000):nk (s.take I).2/\(s.take I).2.lost.length<=B:=by
 have l:=hs.st;have b:I.stream.toNat<4:=by omega
 have m:=h.fl;have c:∀(a:It),iq s.ag a->nk {s with aF:=ah s.aF I.stream.toNat a}:=λa hi=>⟨h.ag,λj g=>by
  by_cases e:j=I.stream.toNat;subst e;simp only[aR];exact hi
  ·simp only[aX _ _ e];exact h.aF j g,⟨h.pre.out,h.pre.pk,h.pre.num⟩,h.fl,h.ll⟩
 unfold Sd.take;split;split;exact⟨h,by show s.lost.length<=B;omega⟩
 have hl:=Er s I.ranges;exact⟨⟨h.ag,h.aF,h.pre.bT _,by show(s.bT I.ranges).aw.length<=10;omega,by show(s.bT I.ranges).lost.length<=39000000;omega⟩,by show(s.bT I.ranges).lost.length<=B;omega⟩
 split;split;exact⟨h,by show s.lost.length<=B;omega⟩
 exact⟨c _ ((h.aF _ b).reset I),by show s.lost.length<=B;omega⟩
 split;split;exact⟨h,by show s.lost.length<=B;omega⟩
 rename_i d _;exact⟨c _ ((h.aF _ b).data I ho (hs.en d) (f d)),by show s.lost.length<=B;omega⟩
 split;exact⟨h,by show s.lost.length<=B;omega⟩
 exact⟨h,by show s.lost.length<=B;omega⟩
def nr.same{a:Sd}(T:kW s a)(h:nr s I):nr a I:=λb c=>by
 rw[(T.aF _).1,T.ag];exact h b ((T.aF _).2 c)
def Sd.fH(s:Sd)(f:Fr):Bool:=decide (f.kind=5)&&(s.aF f.stream.toNat).busy f s.ag
def kz(f:Fr):Bool:=decide (f.kind≠3)&&decide (f.kind≠1)
def An(h:s.fH I=θ):nr s I:=λa b=>by
 unfold Sd.fH It.busy at h;rw[eT a,b]at h;simp only[sO,Bool.not_false,qD]at h;omega
def NJ(w:ω)(f:Fr)(h:υ):Calls prog 165 #[ε (bU f h)] w λe l=>e=ξ (β (kz f))/\γ w l ν:=by
 obtain⟨k,a⟩:=exq (w.alloc (ο (bU f h) 158));have i:γ w k ν:=by rw[a];exact aJ _ _ _
 have j:k.heap[w.heap.size]?=μ (ο (bU f h) 158 (0,0)):=by rw[a];exact aO _ _
 obtain⟨q,b⟩:=exq (kz f);rw[<-b];unfold kz at b;obtain⟨kind,stream,offset,code,fin,data,ranges⟩:=f;unfold bU at *;simp only at *;obtain⟨m,-⟩:=dI j;replace j:=J j;by_cases d:kind=3
 ·subst d;have c:q=θ:=by rw[b];rfl
  subst c;clear b;go_enter func165,ntmps165;go_upto_region 1 with fail;rw[<-a];clear a;go_wp2;go_ret;exact⟨rfl,i⟩
 have n:(kind !=3)=ρ:=by simpa using d
 by_cases g:kind=1
 ·subst g;have c:q=θ:=by rw[b];rfl
  subst c;clear b;go_enter func165,ntmps165;go_upto_region 1 with fail;rw[<-a];clear a;go_wp2;go_ret;exact⟨rfl,i⟩
 have e1:(kind !=1)=ρ:=by simpa using g
 have c:q=ρ:=by rw[b];simp[d,g]
 subst c;clear b d g;go_enter func165,ntmps165;go_upto_region 1 with fail;rw[<-a];clear a;go_wp2;go_ret;exact⟨rfl,i⟩
def NK(w:ω)(L sb:Nat)(cs:Array υ)(v:bf)(s:Sd)(H:bI w L sb cs v s)(Q:0<=s.ag/\s.ag<=1024)(f:Fr)(l:υ)(M:0<=f.stream/\f.stream<4)(m:(s.aF f.stream.toNat).h.nice)(ho:0<=f.offset)(r:f.kind=5->aT f<=4611686018427387903):
 Calls prog 163 #[π (μ ⟨sb,0,ν⟩),ε (bU f l)] w λe t=>e=ξ (β (s.fH f))/\γ w t ν:=by
 obtain⟨k,N,u⟩:∃k:Nat,k<4/\f.stream=(k:Int):=⟨f.stream.toNat,by omega,by omega⟩
 have x:f.stream.toNat=k:=by omega
 have y:=H.aF k N;obtain⟨b,c⟩:=exq (w.alloc (ο (bU f l) 158));have i:γ w b ν:=by rw[c];exact aJ _ _ _
 have d:b.heap[w.heap.size]?=μ (ο (bU f l) 158 (0,0)):=by rw[c];exact aO _ _
 rw[x]at m;have n:=J (λW(g:γ w W ν)(a:f.kind=5)=>HI W sb (55+9*k) (s.aF k) (g.cell ((aZ H.aV _).trans y.c0) (by simp)) ((y.tail H.aV).au g) ⟨m.1,by have:=m.2.1;omega⟩ f l ho (by have:=r a;omega) s.ag (by omega));rw[<-uU]at n;have F:s.fH f=(decide (f.kind=5)&&(s.aF k).busy f s.ag):=by unfold Sd.fH;rw[x]
 rw[F];have R:=kc (i.cell ((aZ H.aV _).trans H.c1) (by simp));have O:(k:Int)<4:=by omega
 have d1:decide ((k:Int)<4)=ρ:=eT O;have p:γ b b.drew ν:=aY (aD _ ν);clear F m M x y;replace H:=J H;by_cases a:f.kind=5
 ·have G:=J (Z n b.drew (aq i p) a);rw[eT a,sO];obtain⟨q,I⟩:=exq ((s.aF k).busy f s.ag);rw[<-I]at G⊢;clear I n r;obtain⟨kind,stream,offset,code,fin,data,ranges⟩:=f;unfold bU at *;simp only at *;subst a;subst u;obtain⟨j,z,A,B,C,D,E⟩:=dI d;replace j:=kc j;replace z:=kc z;replace A:=kc A;replace B:=kc B;replace C:=kc C;replace D:=kc D;replace E:=kc E;replace d:=J d;go_enter func163,ntmps163;go_upto_region 1 with fail;rw[<-c];clear c;go_region_held3 (λt=>γ b t ν)
   (with_reducible first|exact K|exact p)
   (first|(go_at_call 214;apply(Z G).mono;rintro e S⟨rfl,P⟩;have K:=aq p P))
  go_wp2;go_ret;exact⟨rfl,aq i K⟩
 rw[fc a,Bool.false_and];clear n r;obtain⟨kind,stream,offset,code,fin,data,ranges⟩:=f;unfold bU at *;simp only at *;have T:(kind==5)=θ:=by simpa using a
 obtain⟨j,z,A,B,C,D,E⟩:=dI d;replace j:=kc j;replace⟨d,u⟩:=bD d u;clear a;go_enter func163,ntmps163;go_upto_region 1 with fail;rw[<-c];clear c;go_big_region;go_wp2;go_ret;exact⟨rfl,by first|exact aq i p|exact aq i (by assumption)⟩
def NL(b:List Int):∀(k p:Nat)(a c:List Fr),iJ b k p a=(μ c,-1)->c.length<=a.length+k:=by
 intro k;induction k with
 |zero=>intro p a c h;simp[iJ]at h
 |succ k d=>
  intro p a c h;unfold iJ at h;split at h;split at h;simp at h;have:=d _ _ _ h;simp only[bF,cS,fM]at this;omega;simp only[rJ,nH]at h;rw[<-h.1];omega
def NO{a:List Fr}(h:fu L=(μ a,-1)):a.length<=L.length+1:=by
 unfold fu at h;split at h;simp at h;simpa using NL L _ _ _ _ h
def NP(w:ω)(a:Option Addr)(n cap:Nat)(l:List Int)(c:bN w a n cap l)(hl:l.length<=100000000):Calls prog 146 #[σ a n cap] w (vC w l):=by
 by_cases h0:l=[]
 subst h0;exact decode_nil w a n cap c;have e:=pq.2 h0;obtain⟨-,f,g,-,d⟩:=id c;obtain⟨d,h⟩|⟨b,o,rfl,-⟩:=d
 omega;exact No w b o n cap l c e hl
def Eu(w:ω)(key:List Int)(f:Bool)(a:Option Addr)(m cap:Nat)(l:List Int)(k:eP key)(j:bN w a m cap l):
 Calls prog 135 #[ε (cV key),β f,σ a m cap] w λe b=>
  ((eH key (aK f) l/\∃c d,e=ξ (τ #[ι η (bm l),σ c (l.length-16) d,.nilIface])/\bN b c (l.length-16) d (dJ key (aK f) (bm l) (bX l)))\/
    (¬eH key (aK f) l/\e=ξ (τ #[ι η 0,σ ν 0 0,.iface 34 (ι δ 4)])))/\γ w b ν:=by
 by_cases hl:l.length<16\/300<l.length;apply(Ei key f a m cap l w j hl).mono;rintro e b⟨rfl,g⟩;exact⟨ψ ⟨λh=>by have:=h.1;have:=h.2.1;omega,rfl⟩,g⟩
 apply(Eo key f a m cap l w k j).mono;rintro e b⟨h,g⟩;refine⟨?_,g⟩
 obtain⟨i,c,d,rfl,n,-,-⟩|⟨i,rfl⟩:=h
 exact φ ⟨i,c,d,rfl,n⟩;exact ψ ⟨i,rfl⟩
def Ev(h:im Y p q=θ):¬Sm Y q/\p<=q:=by
 unfold im at h;simp only[oD,qD,List.any_eq_false,iu,mu]at h;exact⟨λ⟨r,a,b⟩=>h.2 r a b,by omega⟩
structure kB(a b:Nat)(W:ω)(v:υ)(az:List eQ):Prop where
 own:il W a v az
 row:∀k,v.ownBlock=μ k->a<=k/\k<b
 rg:∀x∈az,x.1.ranges≠[]->∀y n c,x.2=σ (μ y) n c->a<=y.block/\y.block<b
def il.NQ{az:List eQ}(h:il w i z az):kB i w.heap.size w z az:=by
 refine⟨h,λk e=>h.lt k e,λx a b y n c e=>⟨((h.2 x a).2 b y n c e).1,?_⟩⟩
 obtain⟨-,-,ra,cap,e2,d⟩:=(h.2 x a).1;rw[e]at e2;obtain⟨rfl,rfl,rfl⟩:=jy e2;exact d.lt b
def kB.aA{az:List eQ}(h:kB k i W z az)(C:ay W w S)(d:∀j,k<=j->j<i->¬S j):kB k i w z az:=by
 obtain⟨⟨q,b⟩,f⟩:=id h.own;refine⟨⟨⟨q,?_⟩,λx a=>⟨(f x a).1.cM (λl y n c e r=>C.block _ r (d _ (h.rg x a l y n c e).1 (h.rg x a l y n c e).2)),(f x a).2⟩⟩,h.row,h.rg⟩
 obtain b|⟨g,cap,cur,e1,e2,m,s⟩:=b
 exact φ b;have p:=h.row g (by rw[e1];rfl);exact ψ ⟨g,cap,cur,e1,e2,(C.block g (bg.1 m).1 (d g p.1 p.2)).trans m,s⟩
def kB.au{az:List eQ}(h:kB n k W x az)(g:γ W w ν):kB n k w x az:=h.aA (ay.of g) (λj _ _ e=>by cases e)
def dA(l:List eQ)(i:Nat):eQ:=l.getD i (cB 0 θ,σ ν 0 0)
def yg{l:List eQ}(h:i<l.length):l[i]?=μ (dA l i):=by simp[dA,List.getD,h]
def tP{l:List eQ}(h:i<l.length):dA l i∈l:=yU (yg h)
def kB.gR{az:List eQ}(h:kB k i W (σ a n j) az):n=az.length/\n<=j/\j<=maxLen:=by
 obtain⟨⟨-,b⟩,-⟩:=h.own;obtain⟨e,c⟩|⟨g,cap,cur,e,aa,f,d,hm,hs,l⟩:=b
 cases e;exact⟨c.symm,aP _,by simp[maxLen]⟩
 cases e;exact⟨rfl,d,hm⟩
def kB.cells{az:List eQ}(h:kB k l W (σ a n m) az)(h0:0<n):∃g,a=μ ⟨g,0,ν⟩/\∀j,j<az.length->W.rangeAt g (0+j*7) (kj (dA az j).1 (dA az j).2):=by
 obtain⟨⟨-,d⟩,-⟩:=h.own;obtain⟨e,s⟩|⟨g,cap,cur,e,aa,f,t,hm,hs,p⟩:=d
 cases e;omega;cases e;refine⟨g,rfl,λi hi j v c=>?_⟩
 have q:az[i]=dA az i:=by have:=yg hi;rw[dT hi]at this;exact aQ this
 rw[<-q]at c;have b:=Nh az i hi j v c;have r:i*7+j<az.length*7:=by
  have:=(lA.1 b).1;rwa[Ng]at this
 rw[<-p,jK,aG r]at b;simp only[World.cell?,f,ep]
 simpa using b
def Ew(h:W.rangeAt n o (kj I x)):κ W ⟨n,o,ν⟩=μ (ι δ I.kind)/\κ W ⟨n,o+1,ν⟩=μ (ι δ I.stream)/\κ W ⟨n,o+2,ν⟩=μ (ι η I.offset)/\κ W ⟨n,o+3,ν⟩=μ (ι η I.code)/\κ W ⟨n,o+4,ν⟩=μ (β I.fin)/\κ W ⟨n,o+5,ν⟩=μ (ς I.data)/\κ W ⟨n,o+6,ν⟩=μ x:=
 ⟨h 0 _ rfl,h 1 _ rfl,h 2 _ rfl,h 3 _ rfl,h 4 _ rfl,h 5 _ rfl,h 6 _ rfl⟩
def kB.Ao{az:List eQ}(h:kB n k W x az)(j:Nat)(a:j<az.length):dL W (dA az j).1 (dA az j).2:=(h.own.2 _ (tP a)).1
def Ex(w:ω)(u v:Nat)(a:Option Addr)(n c d:Nat)(la lb:Array υ)(az:List eQ)(q:Fr->Bool)(h:kB u v w (σ a n c) az)(eg:∀args w,(callFunc d args).run prog w=.ok (.enter d args) w)
 (k:∀(W:ω)(x:eQ),γ w W ν->x∈az->Calls prog d (la++ #[ε (bU x.1 x.2)]++lb) W (λe r=>e=ξ (β (q x.1))/\γ W r ν)):
 Calls prog 162 #[σ a n c,.func (.func d) la lb] w λe s=>e=ξ (β ((az.map (·.1)).any q))/\γ w s ν:=by
 obtain⟨D,y,z⟩:=h.gR;obtain⟨b,t⟩:∃b,(0<n->a=μ ⟨b,0,ν⟩)/\∀j,j<az.length->w.rangeAt b (0+j*7) (kj (dA az j).1 (dA az j).2):=by
  by_cases h0:0<n;obtain⟨g,e,l⟩:=h.cells h0;exact⟨g,λ_=>e,l⟩
  exact⟨0,λl=>absurd l h0,λj E=>by omega⟩
 refine(IU a b 0 n c d la lb w (λi=>q (dA az i).1=ρ) (λi=>ι δ (dA az i).1.kind) (λi=>ι δ (dA az i).1.stream) (λi=>ι η (dA az i).1.offset) (λi=>ι η (dA az i).1.code) (λi=>β (dA az i).1.fin) (λi=>ς (dA az i).1.data) (λi=>(dA az i).2) t.1 ⟨y,z⟩ eg (λW i g hi=>?_) (λW i g hi=>?_)).mono ?_;have:=Ew (t.2 i (by omega));exact⟨gC_ g this.1,gC_ g this.2.1,gC_ g this.2.2.1,gC_ g this.2.2.2.1,gC_ g this.2.2.2.2.1,gC_ g this.2.2.2.2.2.1,gC_ g this.2.2.2.2.2.2⟩
 apply(k W (dA az i) g (tP (by omega))).mono;rintro e r⟨rfl,A⟩;refine⟨?_,A⟩
 have:=oJ (p:=q (dA az i).1=ρ) (q:=q (dA az i).1=ρ) Iff.rfl;simpa using this;rintro e s⟨hs,g⟩;refine⟨s8 hs ?_,g⟩
 rw[oG];constructor;rintro⟨f,k,m⟩;obtain⟨x,B,rfl⟩:=eU.1 k;obtain⟨i,hi,rfl⟩:=j8.1 B;have C:az[i]=dA az i:=by have:=yg hi;rw[dT hi]at this;exact aQ this
 exact⟨i,by omega,by rw[<-C];exact m⟩
 rintro⟨i,hi,m⟩;exact⟨_,pf (tP (by omega)),m⟩
def Sd.dM(s:Sd)(n:Int)(a:List Fr):Sd:={s with af:=(eJ s.af s.floor n).1,floor:=(eJ s.af s.floor n).2,bQ:=s.bQ||a.any kz}
def tQ(w:ω)(b sb:Nat)(v:bf)(s:Sd)(p:List Int)(e:Ending)(c:ω):Prop:=
 (¬eH s.key (aK (!s.first)) p/\e=ξ (cH 4)/\eF w.heap.size w b sb v s c)\/
 (eH s.key (aK (!s.first)) p/\im s.af s.floor (bm p)=ρ/\e=ξ .nilIface/\eF w.heap.size w b sb v s c)\/
 (eH s.key (aK (!s.first)) p/\im s.af s.floor (bm p)=θ/\∃a,fu (dJ s.key (aK (!s.first)) (bm p) (bX p))=(μ a,-1)/\
   ((a.any s.fH=ρ/\e=ξ (cH 6)/\eF w.heap.size w b sb v s c)\/
    (a.any s.fH=θ/\(di (s.dM (bm p) a) a).1=0/\e=ξ .nilIface/\eF w.heap.size w b sb v (di (s.dM (bm p) a) a).2 c)))
def Laid.aA(h:Laid w)(C:ay w W S)(h0:¬S 0):Laid W:=(mn (C.block 0 h.lt h0)).trans h
def r9(s:Sd)(f:Fr)(r:List Fr):di s (f::r)=if(s.take f).1=0 then di (s.take f).2 r else s.take f:=rfl
structure kX(w:ω)(g sb:Nat)(v:bf)(s1:Sd)(az:List eQ)(a:Option Addr)(n c f d h:Nat)(j:Nat)(b:Sd)(W:ω)(k:Array υ)(e:bf):Prop where
 side:bI W g sb k e b
 fQ:dz w.heap.size w W sb v e
 fr:kB f d W (σ a n c) az
 n2:d<=W.heap.size
 na:∀i,f<=i->i<d->¬eV sb e i
 ri:nk b
 ll:b.lost.length<=h+10*j
 same:kW s1 b
 all:di b ((az.map (·.1)).drop j)=di s1 (az.map (·.1))
def kX.gb{az:List eQ}{c:Sd}{e:bf}(h:kX w k i d s az a n l m o b j c W C e)(g:γ W V ν):kX w k i d s az a n l m o b j c V C e:=
 ⟨h.side.au g,h.fQ.trans (dz.au g),h.fr.au g,bK h.n2 g.size,h.na,h.ri,h.ll,h.same,h.all⟩
def Ey{az:List eQ}(a:j<az.length):(az.map (·.1)).drop j=(dA az j).1::(az.map (·.1)).drop (j+1):=by
 rw[Bt (by simpa using a)];congr 1;have b:az[j]=dA az j:=by have:=yg a;rw[dT a]at this;exact aQ this
 simp[b]
def kX.step{az:List eQ}{c:Sd}{W':ω}{u:bf}(h:kX w k l d s az a n m o b i j c W C u)(x:j<az.length)(hs:cO (dA az j).1)(ho:0<=(dA az j).1.offset)(y:nr s (dA az j).1)(z:i+10*(j+1)<=39000000)(A:eF W.heap.size W k l u (c.take (dA az j).1).2 W')(h0:(c.take (dA az j).1).1=0):∃p q,kX w k l d s az a n m o b i (j+1) (c.take (dA az j).1).2 W' p q:=by
 obtain⟨p,q,S,f⟩:=A;obtain⟨D,E⟩:=h.ri.take hs ho (y.same h.same) (B:=i+10*(j+1)) (by have:=h.ll;omega) z;have F:=h.fQ.aA.size;refine⟨p,q,S,h.fQ.trans (f.mono F),h.fr.aA f.aA (λg r t e=>h.na g r t (φ e)),bK h.n2 f.aA.size,λg r t e=>?_,D,E,h.same.trans (take_same _ _),?_⟩
 obtain v|v:=f.ar g e
 exact h.na g r t v;have:=h.n2;omega;rw[<-h.all,Ey x];rw[r9,aG h0]
def kX.stop{az:List eQ}{c:Sd}{e:bf}(h:kX w k i d s az a n l m o b j c W C e)(f:j<az.length)(h0:(c.take (dA az j).1).1≠0):di s (az.map (·.1))=c.take (dA az j).1:=by
 rw[<-h.all,Ey f];rw[r9,aB h0]
def kX.NR{az:List eQ}{c:Sd}{f:bf}(h:kX w k i d s az a n l m o b j c W C f)(g:j<az.length)(hs:cO (dA az j).1)(p:nr s (dA az j).1):
 Calls prog 166 #[π (μ ⟨i,0,ν⟩),ε (bU (dA az j).1 (dA az j).2)] W (kT W k i f (c.take (dA az j).1)):=by
 obtain⟨q,-,ra,cap,e,r⟩:=h.fr.Ao j g;rw[e];refine KD W k i C f c h.side h.ri.pre ⟨by have:=h.ri.fl;omega,by have:=h.ri.ll;omega⟩ _ ra _ cap r (λt y u=>?_) (h.ri.tk hs q.2.2.1.1 (p.same h.same));have:=h.fr.rg _ (tP g) t y _ cap (by rw[e,u]);exact⟨λv=>h.na _ this.1 this.2 (φ v),cu this.2 h.n2⟩
def NS(h:nk s)(n:Int)(a:List Fr):nk (s.dM n a):=⟨h.ag,h.aF,⟨h.pre.out,h.pre.pk,h.pre.num⟩,h.fl,h.ll⟩
def Ez{a:List Fr}(h:a.any s.fH=θ)(n:Int):∀f∈a,nr (s.dM n a) f:=λf b=>by
 have c:=List.any_eq_false.1 h f b;have d:=An (s:=s) (I:=f) (by simpa using c);exact λe g=>d e g
def kX.start{f:ω}{az:List eQ}{h:Nat}{num:Int}(H:bI w l m C d s)(p:γ w W ν)(X:w.heap.size<=j)(I:h<=W.heap.size)(hF:kB j h W (σ a n b) az)(K:nk s)
 (L:V.heap[m]?=μ (ο ((C.setIfInBounds 96 (σ O k i)).setIfInBounds 97 (ι η (eJ s.af s.floor num).2)) 241 (0,0))) (q:dp V W.heap.size (σ O k i) (eJ s.af s.floor num).1) (B:γ W V (μ m)) (g:γ V f ν) (c:Bool) (ho:c=(s.bQ||(az.map (·.1)).any kz)):
 ∃r t,kX w l m d (s.dM num (az.map (·.1))) az a n b j h s.lost.length 0 (s.dM num (az.map (·.1))) (ζ f ⟨m,98,ν⟩ (β c)) r t:=by
 have Y:=H.bu.iM;have M:=p.size;have al:=B.size;have ax:=g.size;have N:=bE L g;have P:=heap_set N (o:=98) (β c);have u:=aM (aD f (μ m)) ⟨m,98,ν⟩ (β c) (ψ rfl);have v:ay W (ζ f ⟨m,98,ν⟩ (β c)) (λD=>D=m):=(ay.of (aq (aq B (dy g _)) u)).mono (λD _ e=>(aQ e).symm);have aC:=u.size;obtain⟨Q,R⟩:=q.nN;have U:bq (ζ f ⟨m,98,ν⟩ (β c)) O k i (eJ s.af s.floor num).1:=(Q.au g).cM (λ_ x e=>u.block _ (by
  obtain⟨z,A⟩:=q.lt x.block (by rw[e];rfl);omega) (by have:=R x e;simp only[ne_eq,nH];omega))
 have T:=(H.au p).CD (σ O k i) (eJ s.af s.floor num).1 (eJ s.af s.floor num).2 c P (by simp) (λE hi=>?_) (by simp[H.sz]) (by simp[H.sz]) (by simp[H.sz]) v ⟨O,k,i,rfl,U⟩ (ψ (λy n b e=>?_));obtain⟨r,t,S,F⟩:=T;refine⟨r,t,?_,(dz.au p).trans (F.mono M),hF.aA v (λa0 z A e=>by omega),bK I v.size,λE z A e=>?_,NS K _ _,by simp[Sd.dM],kW.rfl' _,rfl⟩
 subst ho;exact S;obtain G|G:=F.ar E e
 have:=oN H.bu G;omega;omega;obtain hi|hi:=hi
 rw[aN_,aN_,aN_];rw[aN_,aN_,aN_];obtain⟨rfl,rfl,rfl⟩:=jy e;obtain⟨z,A⟩:=q.lt y.block rfl;omega
def NT(w:ω)(i sb:Nat)(cs:Array υ)(v:bf)(s:Sd)(H:bI w i sb cs v s)(j:eP s.key)(a:Option Addr)(m cap:Nat)(p:List Int)(u:bN w a m cap p)(k:¬eH s.key (aK (!s.first)) p):
 Calls prog 131 #[π (μ ⟨sb,0,ν⟩),σ a m cap] w (tQ w i sb v s p):=by
 obtain⟨R,b⟩:=exq (tQ w i sb v s p);rw[<-b];replace b:=J b;have x:=J (uT w sb 0 H.qg);have l:=H.rZ j;have iN:κ w ⟨sb,18,ν⟩=μ (β s.first):=(aZ H.aV _).trans H.iN;have n:=J (λW(g:γ w W ν)=>(Eu W s.key (!s.first) a m cap p j (u.au g)).mono (λe c h=>show e=ξ (τ #[ι η 0,σ ν 0 0,.iface 34 (ι δ 4)])/\γ W c ν from⟨by
  obtain q|q:=h.1
  exact absurd q.1 k
  ·exact q.2,h.2⟩))
 have z:=J (λW(g:γ w W ν)=>(show R (ξ (.iface 34 (ι δ 4))) W by rw[Z b];exact φ ⟨k,rfl,H.to g⟩));have A:(prog.info? 24).map (·.size)=μ (bv s.key).length:=by rw[fX,j.1];exact nJ
 have F:=underlying24;clear u k;replace H:=J H;obtain⟨key,r⟩:=exq s.key;obtain⟨f,t⟩:=exq s.first;rw[<-r]at A n l;rw[<-t]at n iN;replace⟨r,t⟩:=bD r t;simp only[ne_eq,not_true_eq_false,decide_false]at x;go_enter func131,ntmps131;go_wp2_with fail;apply(Z x).mono;rintro e G⟨rfl,B⟩;have I:=kc iN;have d:=jF ⟨l,aD w ν⟩ B;clear iN l;go_upto_region 3 with fail;go_region_held3 (λc=>c.rangeAt sb 2 (bv key)/\γ w c ν)
  (with_reducible first|exact y|exact d|exact jF d (aY (aD _ ν)))
  (first|(go_at_call 135;apply(Z n _ (jF d (aY (aD _ ν))).2).mono;rintro e C⟨rfl,D⟩;have y:=jF (jF d (aY (aD _ ν))) D;have E:Hid (R (ξ (.iface 34 (ι δ 4))) C):=J (Z z _ y.2)))
 go_wp2_with fail;exact Z E
def NU(b:bN w a m n L):0<=bm L:=by
 have h:=vu L b.1;unfold bm;by_cases hl:8<=L.length;exact(h 8 hl).1;rw[tL_];have:=(h L.length (aP _)).1;rwa[pt]at this
structure sc(w:ω)(b sb:Nat)(cs:Array υ)(v:bf)(s:Sd)(p:List Int):Prop where
 at_:bI w b sb cs v s
 key:eP s.key
 recv:nk s
 lost:s.lost.length<=30000000
 ba:0<=s.count/\s.count<=4611686018427387000
 kY:aU s.af
 c8:s.af.length<=8
 laid:Laid w
 n0:¬cG sb v 0
 ok:eH s.key (aK (!s.first)) p
 num:0<=bm p
 dec:im s.af s.floor (bm p)=θ->∃a,fu (dJ s.key (aK (!s.first)) (bm p) (bX p))=(μ a,-1)/\(a.any s.fH=θ->(di (s.dM (bm p) a) a).1=0)
def sc.NV(h:sc w k i C d s L)(W:ω)(g:γ w W ν):
 Calls prog 160 #[π (μ ⟨i,96,ν⟩),ι η (bm L)] W λe b=>e=ξ (β (im s.af s.floor (bm L)))/\γ W b ν:=by
 obtain⟨a,n,c,e,f⟩:=h.at_.oP;exact Nv W i 96 a n c s.af s.floor (bm L) (g.cell ((aZ h.at_.aV _).trans (e▸h.at_.oO)) (by simp)) (g.cell ((aZ h.at_.aV _).trans h.at_.pJ) (by simp)) (f.au g) ⟨h.num,h.ok.2.2.2⟩
def sc.eJ(h:sc w k i C d s L)(hp:im s.af s.floor (bm L)=θ)(W:ω)(g:γ w W ν):
 Calls prog 164 #[π (μ ⟨i,96,ν⟩),ι η (bm L)] W λe b=>e=ξ (τ #[])/\∃f j l,b.heap[i]?=μ (ο ((C.setIfInBounds 96 (σ f j l)).setIfInBounds 97 (ι η (eJ s.af s.floor (bm L)).2)) 241 (0,0))/\dp b W.heap.size (σ f j l) (eJ s.af s.floor (bm L)).1/\γ W b (μ i):=by
 obtain⟨a,n,c,e,m⟩:=h.at_.oP;refine NF W i 96 C _ a n c s.af s.floor (bm L) (bE h.at_.aV g) (e▸h.at_.oO) h.at_.pJ (m.au g) (λy p e2=>?_) h.kY h.c8 (Ev hp).1 ⟨h.num,h.ok.2.2.2⟩;exact(h.at_.bu.dV 8 (by omega) y n c (by rw[e,p])).1 (φ e2)
def sc.busy(h:sc w k i C d s L)(g:γ w W ν){az:List eQ}(hF:kB j l W (σ a n m) az)(hs:∀f∈az.map (·.1),cO f):
 Calls prog 162 #[σ a n m,.func (.func 163) #[π (μ ⟨i,0,ν⟩)] #[]] W λe p=>e=ξ (β ((az.map (·.1)).any s.fH))/\γ W p ν:=by
 refine Ex W j l a n m _ #[π (μ ⟨i,0,ν⟩)] #[] az s.fH hF (λargs w=>by kernel_rfl) (λq x r b=>?_);have c:=hs x.1 (pf b);have t:=c.st;exact NK q k i C d s (h.at_.au (aq g r)) h.recv.ag x.1 x.2 t ((h.recv.aF _ (by omega)).nice h.recv.ag.2) (hF.own.2 x b).1.1.2.2.1.1 (λu=>c.en u)
def NW{az:List eQ}(hF:kB k i W (σ a n j) az):
 Calls prog 162 #[σ a n j,.func (.func 165) #[] #[]] W λe b=>e=ξ (β ((az.map (·.1)).any kz))/\γ W b ν:=
 Ex W k i a n j _ #[] #[] az kz hF (λargs w=>by kernel_rfl) (λc x d f=>NJ c x.1 x.2)
def kX.ended{az:List eQ}{b:Sd}{c:bf}(h:kX w k i d s az a n j l m o az.length b W C c):di s (az.map (·.1))=(0,b):=by
 rw[<-h.all,wA (by simp)];rfl
def NX(w:ω)(G sb:Nat)(cs:Array υ)(v:bf)(s:Sd)(p:List Int)(h:sc w G sb cs v s p)(a:Option Addr)(m cap:Nat)(aa:bN w a m cap p):
 Calls prog 131 #[π (μ ⟨sb,0,ν⟩),σ a m cap] w (tQ w G sb v s p):=by
 obtain⟨R,u⟩:=exq (tQ w G sb v s p);rw[<-u];replace u:=J u;have hC:=J (uT w sb 0 h.at_.qg);have a1:=h.at_.rZ h.key;have iN:κ w ⟨sb,18,ν⟩=μ (β s.first):=(aZ h.at_.aV _).trans h.at_.iN;have lJ:=kc ((aZ h.at_.aV _).trans h.at_.lJ);have n:=J (λW(g:γ w W ν)=>(Eu W s.key (!s.first) a m cap p h.key (aa.au g)).mono (λe H U=>show∃V X,e=ξ (τ #[ι η (bm p),σ V (p.length-16) X,.nilIface])/\bN H V (p.length-16) X (dJ s.key (aK (!s.first)) (bm p) (bX p))/\γ W H ν from by
  obtain⟨-,V,X,Y,h2⟩|Y:=U.1
  exact⟨V,X,Y,h2,U.2⟩
  ·exact absurd h.ok Y.1))
 have a2:=J h.NV;have cj:(prog.info? 24).map (·.size)=μ (bv s.key).length:=by rw[fX,h.key.1];exact nJ
 have ds:=underlying24;have a3:Hid ((dJ s.key (aK (!s.first)) (bm p) (bX p)).length<=300):=J (by
  rw[oa];have:=h.ok.2.1;unfold bX;rw[ct];omega)
 obtain⟨M,r⟩:=exq (dJ s.key (aK (!s.first)) (bm p) (bX p));rw[<-r]at n a3;have eD:=h.at_.bu.iM;clear aa;replace h:=J h;obtain⟨key,hK⟩:=exq s.key;obtain⟨f,hf⟩:=exq s.first;obtain⟨num,b⟩:=exq (bm p);obtain⟨pl,a4⟩:=exq (p.length-16);rw[<-hK]at cj n a1;rw[<-hf]at n iN;rw[<-b]at n a2;rw[<-a4]at n;replace⟨hK,hf,b,r,a4⟩:=fF hK hf b r a4;simp only[ne_eq,not_true_eq_false,decide_false]at hC;go_enter func131,ntmps131;go_wp2_with fail;apply(Z hC).mono;rintro e w1⟨rfl,g1⟩;have dx:=kc iN;have I:=jF ⟨a1,aD w ν⟩ g1;clear iN a1;go_upto_region 3 with fail;go_region_held3 (λH=>H.rangeAt sb 2 (bv key)/\γ w H ν)
  (with_reducible first|exact a8|exact I|exact jF I (aY (aD _ ν)))
  (first|(go_at_call 135;apply(Z n _ (jF I (aY (aD _ ν))).2).mono;rintro e w5⟨a5,c5,rfl,al,g5⟩;have a8:=jF (jF I (aY (aD _ ν))) g5;replace al:=J al))
 clear n dx cj ds;have cp:=a8.2;clear a8 I;go_wp2_with fail;apply(Z a2 _ cp).mono;rintro e w6⟨rfl,g6⟩;have bb:=aq cp g6;have cv:=J ((Z al).au g6);clear al a2;cases hp:im s.af s.floor num;rotate_left
 ·have K:Hid (R (ξ .nilIface) w6):=J (by
   rw[Z u];exact ψ (φ ⟨(Z h).ok,by rw[<-Z b];exact hp,rfl,(Z h).at_.to bb⟩))
  go_wp2_with fail;exact Z K
 have cw:=J (NP w6 a5 pl c5 M (Z cv) (by have:=Z a3;omega));replace hp:=J hp;go_wp2_with fail;apply(Z cw).mono;rintro e w7⟨g7,⟨az,a7,l,c7,hd,rfl,hO⟩|⟨q,F,hd,rfl,hF,eK⟩⟩;rotate_left
 exfalso;obtain⟨x,e,-⟩:=(Z h).dec (by rw[<-Z b];exact Z hp);rw[<-Z r,hd]at e;exact absurd (fD Prod.fst e) (by simp);have bj:=aq bb g7;have y:=hO.NQ;have dE:=bb.size;have ax:=yd hd;have dG:=NO hd;rw[dd]at dG;have ea:=J y.gR;have br:=J ((Z h).busy bj y ax);have bt:=J (λW(C:ay w7 W (λk=>k=sb))=>NW (y.aA C (λj Y _ e=>by omega)));have bx:=J (λW(g:γ w7 W ν)=>(Z h).eJ (by rw[<-Z b];exact Z hp) W (aq bj g));rw[<-Z b]at bx;replace⟨hO,y,ax,hd⟩:=fE hO y ax hd;obtain⟨x,c⟩:=exq (az.map (·.1));rw[<-c]at br bt;replace c:=J c;clear cw cv;go_wp2_with fail;apply(Z br).mono;rintro e w8⟨rfl,L⟩;have cx:=aq bj L;cases z:x.any s.fH;rotate_left
 ·have K:Hid (R (ξ (.iface 34 (ι δ 6))) w8):=J (by
   rw[Z u];refine ψ (ψ ⟨(Z h).ok,by rw[<-Z b];exact Z hp,x,?_,φ ⟨z,rfl,(Z h).at_.to cx⟩⟩);rw[<-Z r,Z c];exact Z hd)
  go_wp2_with fail;exact Z K
 replace z:=J z;clear br;go_wp2_with fail;apply(Z bx _ L).mono;rintro e A⟨rfl,a9,k9,c9,t,cy,g9⟩;have lJ:κ A ⟨sb,98,ν⟩=μ (β s.bQ):=by rw[aZ t,aN_,aN_];exact(Z h).at_.lJ
 have f98:χ A ⟨sb,98,ν⟩=θ:=fZ_ t;have N:=J (λB(O:γ A B ν) ow ho=>kX.start (Z h).at_ cx dE L.size ((Z y).au L) (Z h).recv t cy g9 O ow ho);have cC:=J (Z bt A (((ay.of L).trans (ay.of g9)).mono (λk _ e=>e.elim (λe=>by cases e) (λe=>(aQ e).symm))));replace t:=J t;clear cy bt bx;rw[<-Z c]at N;have db:=J (λj(D:j<az.length)=>Z ax (dA az j).1 (pf (tP D)));have bz:=J (λj(D:j<az.length)=>Ez (Z z) num (dA az j).1 (by rw[Z c];exact pf (tP D)));obtain⟨s1,P⟩:=exq (s.dM num x);rw[<-P]at N bz;have ee:Hid ((di s1 (az.map (·.1))).1=0):=J (by
  obtain⟨ei,e,ht⟩:=(Z h).dec (by rw[<-Z b];exact Z hp);rw[<-Z r,Z hd]at e;have e1:az.map (·.1)=ei:=aQ (fD Prod.fst e);have h9:=ht (by rw[<-e1,<-Z c];exact Z z);rw[P,Z b,Z c,e1];exact h9)
 obtain⟨bM,E⟩:=exq (λW:ω=>∃Q S,kX w G sb v s1 az a7 l c7 w6.heap.size w7.heap.size s.lost.length 0 s1 W Q S);replace⟨E,P⟩:=bD E P;go_upto_region 14 with fail;go_cut [] (λwx=>bM wx);case first=>
  cases aC:s.bQ
  ·rw[aC]at lJ;go_wp2_with fail;apply(Z cC).mono;rintro e B⟨rfl,O⟩;have eL:χ B ⟨sb,98,ν⟩=θ:=by simp[World.frozen?,bE (Z t) O]
   have eS:=gC_ O lJ;have b0:Hid (bM (ζ B ⟨sb,98,ν⟩ (β (x.any kz)))):=J (by rw[Z E];exact Z N B O _ (by rw[aC,ux]));go_wp2;go_meet;exact Z b0
  rw[aC]at lJ;have b0:Hid (bM (ζ A ⟨sb,98,ν⟩ (β ρ))):=J (by rw[Z E];exact Z N A (aD _ _) _ (by rw[aC,Bool.true_or]));go_wp2;go_meet;exact Z b0
 case rest=>
  rw[Z E]at hcut;rename ω=>B
  obtain⟨ej,ek,b3⟩:=hcut;clear cC N lJ f98 t E;replace b3:=J b3;have de:=J (λ(e:Ending)(W:ω) U=>(show R e W by
   rw[Z u];refine ψ (ψ ⟨(Z h).ok,by rw[<-Z b];exact Z hp,x,?_,ψ U⟩);rw[<-Z r,Z c];exact Z hd))
  rw[<-Z b,<-Z P]at de;obtain⟨b4,e3,eo⟩:=Z ea;unfold maxLen at eo;replace b4:=J b4;have et:Hid (s.lost.length<=30000000):=J (Z h).lost;have e4:=Z a3;go_upto_region 16 with fail;go_loopg [71] (az.length+1) (λg eu wr=>∃(j:Nat)(sj:Sd)(Q:Array υ)(S:bf),j<=az.length/\eu=ι δ j/\g=az.length+1-j/\kX w G sb v s1 az a7 l c7 w6.heap.size w7.heap.size s.lost.length j sj wr Q S);case atStart=>exact⟨0,s1,ej,ek,by omega,rfl,by omega,Z b3⟩
  case round=>
   obtain⟨j,sj,Q,S,ew,rfl,rfl,i⟩:=hrel;have dg:=Z b4;by_cases d:j<az.length
   ·have d1:decide ((j:Int)<l)=ρ:=dT_;obtain⟨g,rfl,dk⟩:=i.fr.cells (by omega);obtain⟨y0,y1,y2,y3,y4,y5,y6⟩:=Ew (I:=(dA az j).1) (by have:=dk j d;rwa[ep]at this);obtain⟨WB,a0⟩:=exq (wr.alloc (ο (bU (dA az j).1 (dA az j).2) 158));have ey:γ wr WB ν:=by rw[a0];exact aJ _ _ _
    have b5:WB.heap[wr.heap.size]?=μ (ο (bU (dA az j).1 (dA az j).2) 158 (0,0)):=by rw[a0];exact aO _ _
    have T:=i.gb ey;have b6:=J (T.NR d (Z db j d) (Z bz j d));have b7:=J (λW' hT h0=>T.step (W':=W') d (Z db j d) (i.fr.Ao j d).1.2.2.1.1 (Z bz j d) (by have:=Z et;omega) hT h0);have b8:=J (T.stop d);obtain⟨q,hq⟩:=exq (sj.take (dA az j).1);rw[<-hq]at b6 b7 b8;replace hq:=J hq;obtain⟨-,-,ra,e5,dn,-⟩:=i.fr.Ao j d;generalize (dA az j).1.ranges.length=rl at dn;generalize (dA az j).2=rv at *;subst dn;generalize (dA az j).1=ff at *;replace⟨i,T⟩:=bD i T;clear dk;obtain⟨kind,stream,offset,code,fin,data,ranges⟩:=ff;unfold bU at *;simp only at *;have i1:(0:Int)<=j:=by omega
    have i2:(j:Int)<l:=by omega
    clear dg;obtain⟨x0,x1,x2,x3,x4,x5,x6⟩:=dI b5;replace b5:=J b5;go_upto_region 18 with fail;rw[<-a0];clear y0 y1 y2 y3 y4 y5 y6 a0;go_wp2_with fail;apply(Z b6).mono;rintro e ez⟨rfl,hT⟩;by_cases h0:q.1=0
    ·have ev:cH q.1=.nilIface:=by rw[h0];rfl
     rw[ev];obtain⟨eC,v2,ca⟩:=Z b7 ez hT h0;clear hT b7 b8 b6;replace⟨ca,h0⟩:=bD ca h0;go_wp2;go_roundg (az.length+1-(j+1));case measure=>omega
     case rel=>exact⟨j+1,q.2,eC,v2,by omega,by push_cast;rfl,rfl,Z ca⟩
    exact absurd (by have h9:=Z ee;rw[Z b8 h0]at h9;exact h9) h0
   have D:j=az.length:=by omega
   have i3:¬((j:Int)<l):=by omega
   have i4:¬(j<l):=by omega
   have d1:decide ((j:Int)<l)=θ:=dF_;have d2:decide (j<l)=θ:=dF_;have ch:di s1 (az.map (·.1))=(0,sj):=by subst D;exact i.ended
   have K:Hid (R (ξ .nilIface) wr):=J (by
    refine Z de _ _ ⟨Z z,?_,rfl,?_⟩;rw[Z c,ch]
    ·rw[Z c,ch];exact⟨Q,S,i.side,i.fQ⟩)
   clear i dg D d ew ch;go_wp2_with fail;exact Z K
def NY(w:ω)(b sb:Nat)(cs:Array υ)(v:bf)(s:Sd)(p:List Int)(H:bI w b sb cs v s)(f:eP s.key)(g:nk s)(hl:s.lost.length<=30000000)(h:0<=s.count/\s.count<=4611686018427387000)(i:aU s.af)(j:s.af.length<=8)(k:Laid w)(h0:¬cG sb v 0)(a:Option Addr)(m cap:Nat)(d:bN w a m cap p)(l:eH s.key (aK (!s.first)) p->im s.af s.floor (bm p)=θ->∃c,fu (dJ s.key (aK (!s.first)) (bm p) (bX p))=(μ c,-1)/\(c.any s.fH=θ->(di (s.dM (bm p) c) c).1=0)):
 Calls prog 131 #[π (μ ⟨sb,0,ν⟩),σ a m cap] w (tQ w b sb v s p):=by
 by_cases e:eH s.key (aK (!s.first)) p;exact NX w b sb cs v s p ⟨H,f,g,hl,h,i,j,k,h0,e,NU d,l e⟩ a m cap d;exact NT w b sb cs v s H f a m cap p d e
def jT(aj ag:Int):Prop:=64<=aj/\aj<=300/\16<=ag/\ag<=1024
def NZ(w:ω)(aj ag:Int)(K:Array υ)(m:K.size=16)(f:Bool)(h:¬jT aj ag):
 Calls prog 70 #[ε #[ι δ aj,ι δ ag],ε K,β f] w λe j=>e=ξ (τ #[π ν,cH 1])/\γ w j ν:=by
 have k:aj<64\/(¬aj<64/\300<aj)\/(¬aj<64/\¬300<aj/\ag<16)\/(¬aj<64/\¬300<aj/\¬ag<16/\1024<ag):=by unfold jT at h;omega
 have n:prog.cellsOf 24=16:=by kernel_rfl
 clear h;have g:∀(a b:Obj),γ w ((w.alloc a).alloc b) ν:=λa b=>aq (aJ _ _ _) (aJ _ _ _)
 obtain c|⟨c,d⟩|⟨c,d,i⟩|⟨c,d,i,l⟩:=k
 ·have d1:decide (aj<64)=ρ:=eT c;go_enter func70,ntmps70;go_wp2;go_ret2;exact⟨rfl,g _ _⟩
 ·have d1:decide (aj<64)=θ:=fc c;have d2:decide (aj>300)=ρ:=eT d;go_enter func70,ntmps70;go_wp2;go_ret2;exact⟨rfl,g _ _⟩
 ·have d1:decide (aj<64)=θ:=fc c;have d2:decide (aj>300)=θ:=fc d;have d3:decide (ag<16)=ρ:=eT i;go_enter func70,ntmps70;go_wp2;go_ret2;exact⟨rfl,g _ _⟩
 have d1:decide (aj<64)=θ:=fc c;have d2:decide (aj>300)=θ:=fc d;have d3:decide (ag<16)=θ:=fc i;have d4:decide (ag>1024)=ρ:=eT l;go_enter func70,ntmps70;go_wp2;go_ret2;exact⟨rfl,g _ _⟩
def yi(l:List υ)(h:l.length=16):∃a b c k3 k4 k5 d e f g i j k m n p,l=[a,b,c,k3,k4,k5,d,e,f,g,i,j,k,m,n,p]:=by
 iterate 16 (obtain _|⟨_,l⟩:=l;·simp at h)
 obtain _|⟨_,l⟩:=l
 exact⟨_,_,_,_,_,_,_,_,_,_,_,_,_,_,_,_,rfl⟩
 simp at h
def N3(aj ag:Int)(a b c k3 k4 k5 d e g h i j k l m n:υ)(f:Bool):(((((((((((((((((((((((zeroCells241.setIfInBounds 0 (ι δ aj)).setIfInBounds 1 (ι δ ag)).setIfInBounds 2 a).setIfInBounds 3 b).setIfInBounds 4 c).setIfInBounds 5 k3).setIfInBounds 6 k4).setIfInBounds 7 k5).setIfInBounds 8 d).setIfInBounds 9 e).setIfInBounds 10 g).setIfInBounds 11 h).setIfInBounds 12 i).setIfInBounds 13 j).setIfInBounds 14 k).setIfInBounds 15 l).setIfInBounds 16 m).setIfInBounds 17 n).setIfInBounds 18 (β f)).setIfInBounds 91 (ι η 0)).setIfInBounds 92 (ι δ 0)).setIfInBounds 93 (ι δ 4)).setIfInBounds 94 (σ ν 0 0)).setIfInBounds 95 (σ ν 0 0)=(mM aj ag [a,b,c,k3,k4,k5,d,e,g,h,i,j,k,l,m,n] f 4 0 (σ ν 0 0)).toArray:=by kernel_rfl
def N4(w:ω)(aj ag:Int)(key:List Int)(k:eP key)(f:Bool)(h:jT aj ag):
 Calls prog 70 #[ε #[ι δ aj,ι δ ag],ε (cV key),β f] w λe d=>∃sb,e=ξ (τ #[π (μ ⟨sb,0,ν⟩),.nilIface])/\w.heap.size<=sb/\d.heap[sb]?=μ (ο (mM aj ag (bv key) f 4 0 (σ ν 0 0)).toArray 241 (0,0))/\γ w d ν:=by
 have d1:decide (aj<64)=θ:=fc (by unfold jT at h;omega);have d2:decide (aj>300)=θ:=fc (by unfold jT at h;omega);have d3:decide (ag<16)=θ:=fc (by unfold jT at h;omega);have d4:decide (ag>1024)=θ:=fc (by unfold jT at h;omega);have N:prog.cellsOf 24=16:=by kernel_rfl
 have O:=qm k;have r:∀(a b:Obj),γ w ((w.alloc a).alloc b) ν:=λa b=>aq (aJ _ _ _) (aJ _ _ _)
 have s:=J Nu;have P:(prog.info? 24).map (·.size)=μ (bv key).length:=by rw[fX,k.1];exact nJ
 have Q:=underlying24;obtain⟨c,g⟩:=exq ((w.alloc (ο #[ι δ aj,ι δ ag] 28)).alloc (ο (bv key).toArray 24));have p:γ w c ν:=by rw[g];exact r _ _
 have i:c.heap[w.heap.size]?=μ (ο #[ι δ aj,ι δ ag] 28 (0,0)):=by rw[g];exact bE (aO _ _) (aJ _ _ _)
 have l:c.heap[w.heap.size+1]?=μ (ο (bv key).toArray 24 (0,0)):=by
  have:=aO (w.alloc (ο #[ι δ aj,ι δ ag] 28)) (ο (bv key).toArray 24);rw[eh]at this;rw[g];exact this
 have c0:κ c ⟨w.heap.size,0,ν⟩=μ (ι δ aj):=by simp[World.cell?,i]
 have c1:κ c ⟨w.heap.size,1,ν⟩=μ (ι δ ag):=by simp[World.cell?,i]
 have m:c.rangeAt (w.heap.size+1) 0 (bv key)/\γ c c ν:=⟨λj u t=>by simpa [World.cell?,l]using t,aD _ _⟩
 replace c0:=kc c0;replace c1:=kc c1;unfold cV at *;have v:(bv key).length=16:=by rw[fX,k.1]
 generalize bv key=K at *;replace⟨i,l⟩:=bD i l;clear h;go_enter func70,ntmps70;go_upto_region 3 with fail;rw[<-g];obtain⟨x,y,z,k3,k4,k5,A,B,C,D,E,F,G,H,I,L,rfl⟩:=yi K v;clear g;go_region_held3 (λd=>d.rangeAt (w.heap.size+1) 0 [x,y,z,k3,k4,k5,A,B,C,D,E,F,G,H,I,L]/\γ c d ν)
  (with_reducible first|exact n|exact m|exact jF m (aY (aD _ ν))|exact jF n (aJ _ _ _))
  (first|(go_at_call 110;apply(Z s _).mono;rintro e M⟨rfl,q⟩;have n:=jF (jF m (aY (aD _ ν))) q))
 go_wp2;go_ret2;refine⟨M.heap.size,rfl,by have:=q.size;have:=p.size;simp at *;omega,?_,?_⟩
 rw[N3];exact aO _ _;exact aq (aq p n.2) (aJ _ _ _)
def Ot.new:Ot:=⟨⟨0,[],[]⟩,0,θ,θ,θ,θ,0⟩
def It.new:It:=⟨⟨0,[],[]⟩,0,0,0,θ,θ,θ⟩
def Sd.new(aj ag:Int)(key:List Int)(f:Bool):Sd:=⟨aj,ag,key,f,λ_=>Ot.new,λ_=>It.new,[],[],0,0,4,[],0,θ⟩
def bf.new:bf:=⟨λ_=>σ ν 0 0,λ_=>σ ν 0 0,[],[]⟩
def qt(w:ω):bq w ν 0 0 []:=⟨λr h=>(by cases h),rfl,aP _,by simp[maxLen],φ rfl⟩
def Ap(aj ag:Int)(key:List υ)(f:Bool)(a:key.length=16):∃L:List υ,(mM aj ag key f 4 0 (σ ν 0 0))=[ι δ aj,ι δ ag]++key++(β f::L)/\L=zO++zO++zO++zO++zI++zI++zI++zI++[ι η 0,ι δ 0,ι δ 4,σ ν 0 0,σ ν 0 0,σ ν 0 0,ι η 0,β θ,ι δ 0,σ ν 0 0]:=⟨_,by simp[mM],rfl⟩
def N7(f:eP K)(g:w.heap[m]?=μ (ο (mM p q (bv K) B 4 0 (σ ν 0 0)).toArray 241 (0,0)))(r:l<=w.heap.size):bI w l m (mM p q (bv K) B 4 0 (σ ν 0 0)).toArray bf.new (Sd.new p q K B):=by
 have d:(bv K).length=16:=by rw[fX,f.1]
 have s:(mM p q (bv K) B 4 0 (σ ν 0 0)).length=101:=Mi _ _ _ _ _ _ _ d;have t:=(bg.1 g).1;have u:∀i,i<16->(mM p q (bv K) B 4 0 (σ ν 0 0)).toArray[2+i]?=(bv K)[i]? :=by
  intro i hi;obtain⟨L,e,-⟩:=Ap p q (bv K) B d;rw[e,ui,fm,mU (by simp),mm (by simp;omega)];congr 1;simp
 have a:∀i v,i<83->(zO++zO++zO++zO++zI++zI++zI++zI++[ι η 0,ι δ 0,ι δ 4,σ ν 0 0,σ ν 0 0,σ ν 0 0,ι η 0,β θ,ι δ 0,σ ν 0 0])[i]?=μ v->(mM p q (bv K) B 4 0 (σ ν 0 0)).toArray[19+i]?=μ v:=by
  intro i v _ h;obtain⟨L,e,z⟩:=Ap p q (bv K) B d;rw[e,ui,mU (by simp;omega)];have:19+i-([Value.int δ p,ι δ q]++bv K).length=i+1:=by simp[d];omega
  rw[this,List.getElem?_cons_succ,z];exact h
 have b:bn w l (σ ν 0 0) []:=bn.nil _ _;refine⟨g,by simp[s],by simp[mM,Sd.new],by simp[mM,Sd.new],u,?_,λk f=>?_,λk f=>?_,?_,rfl,rfl,a 77 _ (by omega) rfl,⟨ν,0,0,rfl,qt w⟩,a 78 _ (by omega) rfl,a 79 _ (by omega) rfl,a 80 _ (by omega) rfl,a 81 _ (by omega) rfl,⟨t,λi _ k e=>(by cases e),λi _ e=>(by cases e),λi j _ _ _ k e=>(by cases e),λi _ y n c e=>(by cases e),λx A=>(by cases A)⟩,r⟩
 obtain⟨L,e,-⟩:=Ap p q (bv K) B d;rw[e,ui,mU (by simp;omega)];simp[d,Sd.new];have:k=0\/k=1\/k=2\/k=3:=by omega
 obtain rfl|rfl|rfl|rfl:=this
 exact⟨a 0 _ (by omega) rfl,a 1 _ (by omega) rfl,a 2 _ (by omega) rfl,a 3 _ (by omega) rfl,a 4 _ (by omega) rfl,a 5 _ (by omega) rfl,a 6 _ (by omega) rfl,a 7 _ (by omega) rfl,a 8 _ (by omega) rfl,b,⟨ν,0,0,rfl,qt w⟩,by simp[aW,Sd.new,Ot.new]⟩
 exact⟨a 9 _ (by omega) rfl,a 10 _ (by omega) rfl,a 11 _ (by omega) rfl,a 12 _ (by omega) rfl,a 13 _ (by omega) rfl,a 14 _ (by omega) rfl,a 15 _ (by omega) rfl,a 16 _ (by omega) rfl,a 17 _ (by omega) rfl,b,⟨ν,0,0,rfl,qt w⟩,by simp[aW,Sd.new,Ot.new]⟩
 exact⟨a 18 _ (by omega) rfl,a 19 _ (by omega) rfl,a 20 _ (by omega) rfl,a 21 _ (by omega) rfl,a 22 _ (by omega) rfl,a 23 _ (by omega) rfl,a 24 _ (by omega) rfl,a 25 _ (by omega) rfl,a 26 _ (by omega) rfl,b,⟨ν,0,0,rfl,qt w⟩,by simp[aW,Sd.new,Ot.new]⟩
 exact⟨a 27 _ (by omega) rfl,a 28 _ (by omega) rfl,a 29 _ (by omega) rfl,a 30 _ (by omega) rfl,a 31 _ (by omega) rfl,a 32 _ (by omega) rfl,a 33 _ (by omega) rfl,a 34 _ (by omega) rfl,a 35 _ (by omega) rfl,b,⟨ν,0,0,rfl,qt w⟩,by simp[aW,Sd.new,Ot.new]⟩
 have:k=0\/k=1\/k=2\/k=3:=by omega
 obtain rfl|rfl|rfl|rfl:=this
 exact⟨a 36 _ (by omega) rfl,a 37 _ (by omega) rfl,a 38 _ (by omega) rfl,a 39 _ (by omega) rfl,a 40 _ (by omega) rfl,a 41 _ (by omega) rfl,a 42 _ (by omega) rfl,a 43 _ (by omega) rfl,a 44 _ (by omega) rfl,b,⟨ν,0,0,rfl,qt w⟩⟩
 exact⟨a 45 _ (by omega) rfl,a 46 _ (by omega) rfl,a 47 _ (by omega) rfl,a 48 _ (by omega) rfl,a 49 _ (by omega) rfl,a 50 _ (by omega) rfl,a 51 _ (by omega) rfl,a 52 _ (by omega) rfl,a 53 _ (by omega) rfl,b,⟨ν,0,0,rfl,qt w⟩⟩
 exact⟨a 54 _ (by omega) rfl,a 55 _ (by omega) rfl,a 56 _ (by omega) rfl,a 57 _ (by omega) rfl,a 58 _ (by omega) rfl,a 59 _ (by omega) rfl,a 60 _ (by omega) rfl,a 61 _ (by omega) rfl,a 62 _ (by omega) rfl,b,⟨ν,0,0,rfl,qt w⟩⟩
 exact⟨a 63 _ (by omega) rfl,a 64 _ (by omega) rfl,a 65 _ (by omega) rfl,a 66 _ (by omega) rfl,a 67 _ (by omega) rfl,a 68 _ (by omega) rfl,a 69 _ (by omega) rfl,a 70 _ (by omega) rfl,a 71 _ (by omega) rfl,b,⟨ν,0,0,rfl,qt w⟩⟩
 exact⟨a 72 _ (by omega) rfl,a 73 _ (by omega) rfl,a 74 _ (by omega) rfl,a 75 _ (by omega) rfl,a 76 _ (by omega) rfl,pr _ _ _ _,pr _ _ _ _⟩
def rq(w:ω)(xb sb:Nat)(c:κ w ⟨xb,0,ν⟩=μ (π (μ ⟨sb,0,ν⟩))):
 Calls prog 72 #[π (μ ⟨xb,0,ν⟩)] w λe a=>e=ξ (π (μ ⟨sb,0,ν⟩))/\a=w:=by
 go_enter func72,ntmps72;go_wp2;go_ret;exact⟨rfl,rfl⟩
def N8(w:ω)(xb sb:Nat)(c:κ w ⟨xb,0,ν⟩=μ (π (μ ⟨sb,0,ν⟩)))(k:Int)(f:υ)(Q:Ending->ω->Prop)(hs:∀e g,Q e g->∃a b,e=ξ (τ #[a,b]))(d:Calls prog 126 #[π (μ ⟨sb,0,ν⟩),ι δ k,f] w Q):
 Calls prog 92 #[π (μ ⟨xb,0,ν⟩),ι δ k,f] w Q:=by
 have i:=J (rq w xb sb c);replace d:=J d;go_enter func92,ntmps92;go_wp2_with fail;apply(Z i).mono;rintro e j⟨rfl,rfl⟩;go_wp2_with fail;apply(Z d).mono;rintro e l h;obtain⟨a,b,rfl⟩:=hs _ _ h;replace h:=J h;go_wp2_with fail;first|exact Z h|exact df (v:=τ #[a,b]) (by simp[results,results92,go_sem]) rfl (Z h)
def N9(w:ω)(xb sb:Nat)(c:κ w ⟨xb,0,ν⟩=μ (π (μ ⟨sb,0,ν⟩)))(k:Int)(Q:Ending->ω->Prop)(hs:∀e b,Q e b->∃v,e=ξ v)(a:Calls prog 127 #[π (μ ⟨sb,0,ν⟩),ι δ k] w Q):
 Calls prog 93 #[π (μ ⟨xb,0,ν⟩),ι δ k] w Q:=by
 have d:=J (rq w xb sb c);replace a:=J a;go_enter func93,ntmps93;go_wp2_with fail;apply(Z d).mono;rintro e f⟨rfl,rfl⟩;go_wp2_with fail;apply(Z a).mono;rintro e g h;obtain⟨v,rfl⟩:=hs _ _ h;replace h:=J h;go_wp2_with fail;exact Z h
def Oa(w:ω)(xb sb:Nat)(c:κ w ⟨xb,0,ν⟩=μ (π (μ ⟨sb,0,ν⟩)))(k:Int)(code:Int)(Q:Ending->ω->Prop)(hs:∀e b,Q e b->∃v,e=ξ v)(a:Calls prog 128 #[π (μ ⟨sb,0,ν⟩),ι δ k,ι η code] w Q):
 Calls prog 94 #[π (μ ⟨xb,0,ν⟩),ι δ k,ι η code] w Q:=by
 have d:=J (rq w xb sb c);replace a:=J a;go_enter func94,ntmps94;go_wp2_with fail;apply(Z d).mono;rintro e f⟨rfl,rfl⟩;go_wp2_with fail;apply(Z a).mono;rintro e g h;obtain⟨v,rfl⟩:=hs _ _ h;replace h:=J h;go_wp2_with fail;exact Z h
def Ob(w:ω)(xb sb:Nat)(c:κ w ⟨xb,0,ν⟩=μ (π (μ ⟨sb,0,ν⟩)))(k:Int)(Q:Ending->ω->Prop)(hs:∀e f,Q e f->∃a b,e=ξ (τ #[a,b]))(d:Calls prog 134 #[π (μ ⟨sb,0,ν⟩),ι δ k] w Q):
 Calls prog 101 #[π (μ ⟨xb,0,ν⟩),ι δ k] w Q:=by
 have g:=J (rq w xb sb c);replace d:=J d;go_enter func101,ntmps101;go_wp2_with fail;apply(Z g).mono;rintro e i⟨rfl,rfl⟩;go_wp2_with fail;apply(Z d).mono;rintro e j h;obtain⟨a,b,rfl⟩:=hs _ _ h;replace h:=J h;go_wp2_with fail;first|exact Z h|exact df (v:=τ #[a,b]) (by simp[results,results101,go_sem]) rfl (Z h)
def Oc(w:ω)(xb sb:Nat)(c:κ w ⟨xb,0,ν⟩=μ (π (μ ⟨sb,0,ν⟩)))(Q:Ending->ω->Prop)(hs:∀e b,Q e b->e=ξ (τ #[]))(a:Calls prog 129 #[π (μ ⟨sb,0,ν⟩)] w Q):
 Calls prog 95 #[π (μ ⟨xb,0,ν⟩)] w Q:=by
 have d:=J (rq w xb sb c);replace a:=J a;go_enter func95,ntmps95;go_wp2_with fail;apply(Z d).mono;rintro e f⟨rfl,rfl⟩;go_wp2_with fail;apply(Z a).mono;rintro e g h;obtain rfl:=hs _ _ h;replace h:=J h;go_wp2_with fail;first|exact Z h|exact gD (fe rfl _ _ _) rfl (Z h)
def Od(w:ω)(xb sb:Nat)(c:κ w ⟨xb,0,ν⟩=μ (π (μ ⟨sb,0,ν⟩)))(Q:Ending->ω->Prop)(hs:∀e b,Q e b->∃v,e=ξ v)(a:Calls prog 130 #[π (μ ⟨sb,0,ν⟩)] w Q):
 Calls prog 96 #[π (μ ⟨xb,0,ν⟩)] w Q:=by
 have d:=J (rq w xb sb c);replace a:=J a;go_enter func96,ntmps96;go_wp2_with fail;apply(Z d).mono;rintro e f⟨rfl,rfl⟩;go_wp2_with fail;apply(Z a).mono;rintro e g h;obtain⟨v,rfl⟩:=hs _ _ h;replace h:=J h;go_wp2_with fail;exact Z h
def Oe(w:ω)(xb sb:Nat)(c:κ w ⟨xb,0,ν⟩=μ (π (μ ⟨sb,0,ν⟩)))(b:υ)(Q:Ending->ω->Prop)(hs:∀e d,Q e d->∃v,e=ξ v)(a:Calls prog 131 #[π (μ ⟨sb,0,ν⟩),b] w Q):
 Calls prog 98 #[π (μ ⟨xb,0,ν⟩),b] w Q:=by
 have f:=J (rq w xb sb c);replace a:=J a;go_enter func98,ntmps98;go_wp2_with fail;apply(Z f).mono;rintro e g⟨rfl,rfl⟩;go_wp2_with fail;apply(Z a).mono;rintro e i h;obtain⟨v,rfl⟩:=hs _ _ h;replace h:=J h;go_wp2_with fail;exact Z h
def Of(w:ω)(xb sb:Nat)(c:κ w ⟨xb,0,ν⟩=μ (π (μ ⟨sb,0,ν⟩)))(k:Int)(aH:Int)(Q:Ending->ω->Prop)(hs:∀e i,Q e i->∃a n c b d f,e=ξ (τ #[σ a n c,b,d,f]))(g:Calls prog 132 #[π (μ ⟨sb,0,ν⟩),ι δ k,ι δ aH] w Q):
 Calls prog 99 #[π (μ ⟨xb,0,ν⟩),ι δ k,ι δ aH] w Q:=by
 have j:=J (rq w xb sb c);replace g:=J g;go_enter func99,ntmps99;go_wp2_with fail;apply(Z j).mono;rintro e l⟨rfl,rfl⟩;go_wp2_with fail;apply(Z g).mono;rintro e m h;obtain⟨a,n,c,b,d,f,rfl⟩:=hs _ _ h;replace h:=J h;go_wp2_with fail;first|exact Z h|exact df (v:=τ #[σ a n c,b,d,f]) (by simp[results,results99,go_sem]) rfl (Z h)
def Og{fr:Nat×Nat}(h:w.heap[n]?=μ (ο c T fr))(v:υ):(ζ w ⟨n,o,ν⟩ v).heap[n]?=μ (ο (c.setIfInBounds o v) T fr):=by
 simp[World.setCell,Array.getElem?_modify,h]
def Oh(g n c:Nat)(cs:Array υ)(fr:Nat×Nat)(w:ω)(f:w.heap[g]?=μ (ο cs 5 fr))(hs:n<=cs.size)(h:n<=fr.1)(p:n<=100000000):
 Calls prog 97 #[σ (μ ⟨g,0,ν⟩) n c] w λe k=>e=ξ (τ #[])/\γ w k (μ g):=by
 go_enter func97,ntmps97;go_wp2;go_loopg [5] n (λl i wr=>∃j:Nat,j<=n/\l=n-j/\i=ι δ j/\γ w wr (μ g)/\∃a,wr.heap[g]?=μ (ο a 5 fr)/\n<=a.size);case atStart=>exact⟨0,by omega,by omega,rfl,aD _ _,cs,f,hs⟩
 case round=>
  obtain⟨j,q,rfl,rfl,d,a,b,m⟩:=hrel;by_cases r:j<n
  ·have s:κ wr ⟨g,j,ν⟩=μ (a.getD j undef):=by simp[World.cell?,b,Array.getD,show j<a.size by omega]
   have h:χ wr ⟨g,j,ν⟩=θ:=by simp[World.frozen?,b];omega
   replace b:=J b;go_wp2;go_roundg (n-(j+1));case measure=>omega
   case rel=>exact⟨j+1,by omega,rfl,by go_num,aM d _ _ (ψ rfl),_,Og (Z b) _,by simpa using m⟩
  go_wp2;refine gD (fe rfl _ _ _) rfl ?_;exact⟨rfl,d⟩
def Oi(w W:ω)(s:ByteArray)(hs:s.size<=100000000)(a:W.heap[w.heap.size]?=(Lib.bytesWorld w 5 s).heap[w.heap.size]?)(c:Nat):
 Calls prog 97 #[σ (μ ⟨w.heap.size,0,ν⟩) s.size c] W λe d=>e=ξ (τ #[])/\γ W d (μ w.heap.size):=by
 rw[Lib.bytesWorld_at_new]at a;have b:s.size<=(Lib.bytesCells w 5 s).size:=by unfold Lib.bytesCells;rw[Array.size_append,Array.size_map];exact Nat.le_add_right _ _
 exact Oh w.heap.size s.size c _ _ W a b b hs
def vD(ev:υ)(n p:Int):Prop:=ev=cH n/\p= -1
def Oj(w:ω)(ev:υ)(n p:Int)(a:Laid w)(h:vD ev n p):Calls prog 39 #[ev] w λe b=>e=ξ (τ #[ι δ n,ι δ p])/\γ w b ν:=by
 obtain⟨rfl,rfl⟩:=h;unfold cH;split;rename_i h;subst h;exact Aj w;exact D9 n w a
def Ok(n:Int)(w:ω)(a:Laid w):Calls prog 35 #[cH n] w λe b=>e=ξ (ι δ n)/\γ w b ν:=by
 unfold cH;split;rename_i h;subst h;exact Al w;exact Ea n w a
inductive aE where
 |ai (s:Sd)
 |shut (cQ:Int) (l:List (List Int))
def yj(w:ω)(sb:Nat)(A:Nat->Prop):aE->Prop
 |.ai s=>∃cs v,bI w 0 sb cs v s/\∀k,eV sb v k->A k
 |.shut _ _=>False
structure cI(w:ω)(xb sb:Nat)(st:aE)(A:Nat->Prop):Prop where
 aV:w.heap[xb]?=μ (ο #[π (μ ⟨sb,0,ν⟩)] 173 (0,0))
 side:yj w sb (λk=>A k/\k≠xb) st
 oR:A xb
 lt:∀k,A k->k<w.heap.size
 n0:¬A 0
def yj.other{st:aE}(h:yj w n S st)(C:ay w W P)(b:∀k,k<w.heap.size->P k->¬S k):yj W n S st:=by
 cases st with
 |ai s=>
  obtain⟨cs,v,H,a⟩:=h;exact⟨cs,v,H.other C (λk c e d=>b k c e (a k d)),a⟩
 |shut cQ l=>
  exact False.elim h
def cI.other{st:aE}(h:cI w n i st S)(C:ay w W P)(b:∀k,k<w.heap.size->P k->¬S k):cI W n i st S:=
 ⟨(C.block n (bg.1 h.aV).1 (λe=>b n (h.lt n h.oR) e h.oR)).trans h.aV,h.side.other C (λk a e c=>b k a e c.1),h.oR,λk a=>cu (h.lt k a) C.size,h.n0⟩
def cI.au{st:aE}(h:cI w n i st S)(g:γ w W ν):cI W n i st S:=h.other (ay.of g) (λk _ e=>by cases e)
def cI.cell{st:aE}(h:cI w n k st S):κ w ⟨n,0,ν⟩=μ (π (μ ⟨k,0,ν⟩)):=by simp[World.cell?,h.aV]
def dF(N:Nat)(w:ω)(xb sb:Nat)(A:Nat->Prop)(st:aE)(a:ω):Prop:=∃b,cI a xb sb st b/\(∀k,b k->A k\/N<=k)/\ay w a A
def cI.to{st:aE}(h:cI w n i st S)(g:γ w W ν){N:Nat}:dF N w n i S st W:=⟨S,h.au g,λk a=>φ a,(ay.of g).mono (λk _ e=>by cases e)⟩
def cI.jH{j:Sd}(h:cI w n i (.ai s) P)(H:bI w 0 i c d s)(g:∀k,eV i d k->P k/\k≠n)(T:eF w.heap.size w 0 i d j W):dF w.heap.size w n i P (.ai j) W:=by
 obtain⟨p,l,S,f⟩:=T;have m:=h.lt n h.oR;refine⟨λk=>k=n\/eV i l k,⟨(f.aA.block n m (λe=>(g n (φ e)).2 rfl)).trans h.aV,⟨p,l,S,λk a=>⟨ψ a,λe=>?_⟩⟩,φ rfl,λk a=>?_,λe=>?_⟩,λk a=>?_,f.aA.mono (λk _ e=>(g k (φ e)).1)⟩
 subst e;obtain b|b:=f.ar k a
 exact(g k b).2 rfl;omega;obtain rfl|a:=a
 exact cu m f.aA.size;exact oN S.bu a;obtain e|e:=e
 exact h.n0 (e▸h.oR);obtain b|b:=f.ar 0 e
 exact h.n0 (g 0 b).1;omega;obtain rfl|a:=a
 exact φ h.oR;obtain b|b:=f.ar k a
 exact φ (g k b).1;exact ψ b
def dF.other{st:aE}(h:dF n w i j S st W)(C:ay W v P)(c:∀k,k<W.heap.size->P k->¬S k/\k<n/\w.heap.size<=k):dF n w i j S st v:=by
 obtain⟨g,l,d,a⟩:=h;refine⟨g,l.other C (λk b e m=>?_),d,?_⟩
 have:=c k b e;obtain f|f:=d k m
 exact this.1 f;omega;refine⟨C.os.trans a.os,C.tape.trans a.tape,C.output.trans a.output,bK a.size C.size,λk b p=>?_⟩
 rw[C.block k (cu b a.size) (λe=>by have:=c k (cu b a.size) e;omega)];exact a.block k b p
def dF.au{st:aE}(h:dF n w i j S st W)(g:γ W v ν):dF n w i j S st v:=h.other (ay.of g) (λk _ e=>by cases e)
def dF.pre{N:Nat}{st:aE}(g:γ W w ν)(h:dF N w n i S st v):dF N W n i S st v:=by
 obtain⟨a,b,c,d⟩:=h;exact⟨a,b,c,((ay.of g).trans d).mono (λk _ e=>e.elim (λe=>by cases e) id)⟩
def dF.mono{st:aE}(h:dF n w j l S st W)(a:i<=n):dF i w j l S st W:=by
 obtain⟨b,c,d,e⟩:=h;exact⟨b,c,λk f=>(d k f).imp id (λh=>bK a h),e⟩
def EA(o:Ot)(p:Pc):o.iP p={o with av:=(o.iP p).av}:=by unfold Ot.iP;split<;>rfl
def yk(k:Nat)(a:Int):∀(m:Nat)(x:Ld),(fg k a m x).o={x.o with av:=(fg k a m x).o.av}:=by
 intro m;induction m with
 |zero=>exact λx=>rfl
 |succ m b=>
  intro x;unfold fg;split;have c:=b (x.step k (x.o.next x.d (a-x.fr.length)).1);rw[c];have e:=EA x.o (x.o.next x.d (a-x.fr.length)).1;show({(x.o.iP _)with av:=_}:Ot)=_;rw[e];rfl
def Ol(o:Ot)(ps:List Pc)(m:Nat)(h:m<=ps.length):fv o (pK o ps m):=by
 induction m with
 |zero=>exact⟨uN _ _,λm a=>by have:=(nP _ _ m).1 a;exact this.1⟩
 |succ m b=>
  rw[xN o ps m];exact(b (by omega)).leave _
def Om(s:Sd)(lf:List Kt)(k:Nat)(h:s.aw=lf.map (·.1)):fv (s.out k) (s.due k):=by
 rw[zX s lf k h];exact Ol _ _ _ (aP _)
def On(l:List Kt)(k:Int)(h:∀x∈l,x.1.ps.length<=1000):(dW l k).length<=l.length*1000:=by
 induction l with
 |nil=>simp[dW]
 |cons x l a=>
  have c:=a (λy b=>h y (by simp[b]));have d:=h x (by simp);have e:dW (x::l) k=(if x.1.st=k then x.1.ps else[])++dW l k:=rfl;rw[e,bF,cS];split;omega;simp only[fM];omega
structure vE(s:Sd)(k:Nat)(a:Sd):Prop where
 eq:a={s with out:=ah s.out k {s.out k with av:=(a.out k).av},aw:=a.aw,count:=a.count}
 av:0<=(a.out k).av/\(a.out k).av<=4096
 fl:a.aw.length<=10
 fp:∀x∈a.aw,x.ps.length<=1000
 ba:s.count<=a.count/\a.count<=s.count+10
structure EC(o:Ot):Prop where
 nice:o.h.nice
 en:o.en<=4096
 av:0<=o.av/\o.av<=4096
 code:0<=o.code/\o.code<=4611686018427387903
 cl:o.h.af.length<=5000
def Oo(i:k<4)(j:16<=s.aj/\s.aj<=1000)(n:0<=(s.out k).h.fr)(p:(s.out k).en<=4096):∀(m:Nat)(x:Pz),ma s k x->vE s k x.s->x.s.count<=s.count+x.s.aw.length->vE s k (ik k m x).s/\(ik k m x).l.length<=10:=by
 intro m;induction m with
 |zero=>exact λx g u D=>⟨u,by have:=g.lf;have:=g.fl;unfold ik;omega⟩
 |succ m v=>
  intro x hP a E;have F:=hP.lf;have w:=hP.fl;have L:=hP.ld i j n p;have z:=yk k (x.s.aj-16) ((x.s.aj-16).toNat+1) ⟨x.s.out k,x.d,[],[]⟩;have A:(x.load k).o={x.s.out k with av:=(x.load k).o.av}:=z;have B:x.s.out k={s.out k with av:=(x.s.out k).av}:=by
   have:=fD (λt=>t.out k) a.eq;simpa only[aR]using this
  have C:(x.load k).o={s.out k with av:=(x.load k).o.av}:=by
   rw[A];rw[B]
  have q:ah x.s.out k (x.load k).o=ah s.out k {s.out k with av:=(x.load k).o.av}:=by
   have e:x.s.out=ah s.out k {s.out k with av:=(x.s.out k).av}:=fD (·.out) a.eq;rw[e,rV,<-C]
  have r:∀(o:Nat->Ot)(f:List Pk)(c:Int),({x.s with out:=o,aw:=f,count:=c}:Sd)={s with out:=o,aw:=f,count:=c}:=λo f c=>by rw[a.eq]
  unfold ik;split;exact⟨a,by omega⟩
  split;refine⟨⟨?_,?_,w,a.fp,a.ba⟩,by show x.l.length<=10;omega⟩
  show({x.s with out:=ah x.s.out k (x.load k).o}:Sd)=_;have:=r (ah x.s.out k (x.load k).o) x.s.aw x.s.count;rw[show({x.s with out:=ah x.s.out k (x.load k).o}:Sd)={x.s with out:=ah x.s.out k (x.load k).o,aw:=x.s.aw,count:=x.s.count}from rfl,this,q];simp only[Pz.stay,aR]
  show 0<=(ah x.s.out k (x.load k).o k).av/\(ah x.s.out k (x.load k).o k).av<=4096;rw[aR];exact L.av;rename_i G h0;refine v (x.gp k) (hP.gp i j n p (by omega)) ⟨?_,?_,?_,?_,?_⟩ ?_;have:=r (ah x.s.out k (x.load k).o) (x.s.aw++[⟨x.s.count,x.s.tick,k,(x.load k).ps⟩]) (x.s.count+1);show({x.s with out:=ah x.s.out k (x.load k).o,aw:=x.s.aw++[⟨x.s.count,x.s.tick,k,(x.load k).ps⟩],count:=x.s.count+1}:Sd)=_;rw[this,q];simp only[Pz.gp,aR]
  show 0<=(ah x.s.out k (x.load k).o k).av/\(ah x.s.out k (x.load k).o k).av<=4096;rw[aR];exact L.av;unfold Pz.gp;simp only[bF,cS,fM];omega;intro y b;unfold Pz.gp at b;simp only at b;obtain b|b:=bL.1 b
  exact a.fp y b;rw[cA.1 b];have:=L.pl;have:=L.fl;have:=hP.aj;simp only;omega;have g:=a.ba;unfold Pz.gp;simp only
  have:(x.s.aw.length:Int)<=9:=by omega
  omega;unfold Pz.gp;simp only[bF,cS,fM];omega
structure mP(s:Sd):Prop where
 key:eP s.key
 aj:56<=s.aj/\s.aj<=1000
 out:∀k,k<4->EC (s.out k)
 fl:s.aw.length<=10
 fp:∀x∈s.aw,x.ps.length<=1000
def mP.pz{a:Sd}(h:mP s)(R:vE s k a):mP a:=by
 rw[R.eq];refine⟨h.key,h.aj,λj b=>?_,R.fl,R.fp⟩
 by_cases e:j=k;subst e;simp only[aR]
 have:=h.out j b;exact⟨this.nice,this.en,R.av,this.code,this.cl⟩
 simp only[aX _ _ e]
 exact h.out j b
def mP.p0(h:mP s)(k:Nat)(b:k<4)(e:0<=s.count/\s.count<=4611686018427386000)(lf:List Kt)(a:s.aw=lf.map (·.1)):(s.out k).h.af.length+(dW lf k).length<=100000/\(s.due k).l.length<=800000/\fv (s.out k) (s.due k):=by
 have f:=On lf k (λx c=>h.fp x.1 (by rw[a];exact pf c));have g:lf.length<=10:=by have:=fD List.length a;rw[dd]at this;have:=h.fl;omega
 have i:=(h.out k b).cl;have d:=Dg (s.out k) (dW lf k) _ (aP _);rw[<-zX s lf k a]at d;exact⟨by omega,by omega,Om s lf k a⟩
def Aq(h:mP s)(k:Nat)(a:k<4)(c:0<=s.count/\s.count<=4611686018427386000)(lf:List Kt)(d:s.aw=lf.map (·.1)):vE s k (s.pieces k).s/\(s.pieces k).l.length<=10:=by
 obtain⟨f,g,e⟩:=h.p0 k a c lf d;have ho:=h.out k a;have b:=h.fl;refine Oo a (by have:=h.aj;omega) ho.nice.1 ho.en 11 ⟨s,s.due k,[]⟩ ⟨rfl,rfl,rfl,rfl,rfl,ho.av,e,by simp only;omega,b,by simp only;omega,by simp⟩ ⟨?_,ho.av,b,h.fp,by simp only;omega⟩ (by simp only;omega);show s={s with out:=ah s.out k (s.out k),aw:=s.aw,count:=s.count}
 rw[m8]
def Oq(w:ω)(a sb k:Nat)(cs:Array υ)(v:bf)(s:Sd)(H:bI w a sb cs v s)(h:mP s)(b:k<4)(c:0<=s.count/\s.count<=4611686018427386000):
 Calls prog 159 #[π (μ ⟨sb,0,ν⟩),ι δ k] w (xX w a sb v (s.pieces k)):=by
 obtain⟨d,e,f⟩:=h.p0 k b c v.lf H.aw;have ho:=h.out k b;exact LZ w a sb k cs v s H b h.key ho.nice ho.en ho.av ho.code (by have:=h.aj;omega) h.fl c d f e
def bY(s:Sd):Nat->Sd×List (List Int)
 |0=>(s.eY.s,s.eY.l)
 |k+1=>(((bY s k).1.pieces k).s,(bY s k).2++((bY s k).1.pieces k).l)
def Sd.bB(s:Sd):Sd×List (List Int):=bY s 4
def Ou(m:Nat):∀x:Ak,∃c,(ng m x).s={x.s with count:=c}/\x.s.count<=c/\c<=x.s.count+m/\(ng m x).l.length<=x.l.length+m:=by
 induction m with
 |zero=>exact λx=>⟨x.s.count,rfl,cE _,by simp,aP _⟩
 |succ m d=>
  intro x;unfold ng;split;exact⟨x.s.count,rfl,cE _,by omega,by omega⟩
  obtain⟨c,f,a,b,g⟩:=d x.step;refine⟨c,by rw[f];rfl,?_,?_,?_⟩
  unfold Ak.step at a;simp only at a;omega;unfold Ak.step at b;simp only at b;omega;have e:x.step.l.length=x.l.length+1:=by unfold Ak.step;simp
  omega
def vF(s:Sd):∃c,s.eY.s={s with bQ:=θ,count:=c}/\s.count<=c/\c<=s.count+10/\s.eY.l.length<=10:=by
 unfold Sd.eY;cases h:s.bQ;simp only[eN,eA]
 exact⟨s.count,by rw[<-h],cE _,by omega,by simp⟩
 simp only[dC]
 obtain⟨c,a,b,d,e⟩:=Ou 10 ⟨{s with bQ:=θ},eX s.af s.af.length,[]⟩;exact⟨c,a,b,d,by simpa using e⟩
def mP.eY(h:mP s):mP s.eY.s:=by
 obtain⟨c,e,-⟩:=vF s;rw[e];exact⟨h.key,h.aj,h.out,h.fl,h.fp⟩
def gm.join{i:bf}{l p:List El}(h:gm w n k d l y)(v:n<=w.heap.size)(s:dz w.heap.size w W k d i)(m:gm W w.heap.size k i p x)(A:jC W k i)(B:gK V n z (l++p))(g:γ W V y.ownBlock)(f:z.ownBlock=y.ownBlock\/z.ownBlock=μ W.heap.size):gm V n k i (l++p) z/\∀j,y.ownBlock=μ j->¬eV k i j:=by
 have q:gm W n k i l y:=h.next (X:=λ_=>False) (s.aA.mono (λ_ _ h=>φ h)) (λ_ _=>id) (λ_ _=>id) s.ar;have t:jS W n (l++p):=q.at_.app ⟨λe c=>⟨bK v (m.at_.at_ e c).1,(m.at_.at_ e c).2⟩,m.at_.sep⟩ (λa r b C e=>by have:=h.at_.lt r;have:=(m.at_.at_ b C).1;omega);have u:∀e∈l++p,y.ownBlock≠μ e.1:=λe c e1=>by
  obtain c|c:=bL.1 c
  exact h.s5 e c e1;have:=(h.own.lt _ e1).2;have:=(m.at_.at_ e c).1;omega
 refine⟨⟨B,t.aA (ay.of g) (λe c e1=>u e c e1),λj e1 r=>?_,λe c=>?_,λe c e1=>?_⟩,q.a5⟩
 obtain f|f:=f
 rw[f]at e1;exact q.a5 j e1 r;rw[f]at e1;have:=aQ e1;have:=oN A r;omega;obtain c|c:=bL.1 c
 exact q.ae e c;exact m.ae e c;obtain f|f:=f
 rw[f]at e1;exact u e c e1;rw[f]at e1;have:=aQ e1;have:=t.lt c;omega
def Ov(h:mP s)(g:0<=s.count/\s.count<=4611686018427385000)(k:Nat)(i:k<=4):mP (bY s k).1/\0<=(bY s k).1.count/\(bY s k).1.count<=s.count+10+10*k/\(bY s k).2.length<=10+10*k:=by
 induction k with
 |zero=>
  obtain⟨c,e,a,b,d⟩:=vF s;have j:(bY s 0).1.count=c:=by show s.eY.s.count=c;rw[e]
  exact⟨h.eY,by omega,by omega,by show s.eY.l.length<=_;omega⟩
 |succ k f=>
  obtain⟨a,b,d,m⟩:=f (by omega);obtain⟨R,hl⟩:=Aq a k (by omega) (by omega) ((bY s k).1.aw.map (λx=>(x,Value.slice ν 0 0))) (by rw[pV];show _=List.map id _;rw[rK]);have n:=R.ba;refine⟨a.pz R,?_,?_,?_⟩
  show 0<=((bY s k).1.pieces k).s.count;omega;show((bY s k).1.pieces k).s.count<=_;omega;show((bY s k).2++((bY s k).1.pieces k).l).length<=_;rw[bF];omega
def ED(w:ω)(g sb:Nat)(v:bf)(r:Sd×List (List Int))(e:Ending)(b:ω):Prop:=
 ∃a n c h d f,e=ξ (σ a n c)/\bI b g sb h d r.1/\dz w.heap.size w b sb v d/\gm b w.heap.size sb d f (σ a n c)/\f.map (·.2)=r.2
def Ow(w:ω)(c sb:Nat)(cs:Array υ)(v:bf)(s:Sd)(H:bI w c sb cs v s)(h:mP s)(hc:0<=s.count/\s.count<=4611686018427385000)(a9:s.af.length<=8)(z:aU s.af)(A:∀r∈s.af,0<=r.lo/\r.hi<=4611686018427387904):
 Calls prog 130 #[π (μ ⟨sb,0,ν⟩)] w (ED w c sb v s.bB):=by
 obtain⟨R,q⟩:=exq (ED w c sb v s.bB);rw[<-q];replace q:=J q;have B:=J (uT w sb 0 H.qg);have V:=J (λW(g:γ w W ν)=>Mg W c sb cs v s (H.au g) h.key h.aj (by omega) a9 z A);have bz:=H.bu.iM;replace⟨z,A,H,h⟩:=fE z A H h;simp only[ne_eq,not_true_eq_false,decide_false]at B;go_enter func130,ntmps130;go_wp2_with fail;apply(Z B).mono;rintro e w1⟨rfl,C⟩;go_wp2_with fail;apply(Z V _ C).mono;rintro e D⟨a2,n2,c2,Y,t,E,rfl,S2,al,d,e2⟩;have F:=C.size;have bb:Hid (bI D c sb Y t (bY s 0).1/\dz w.heap.size w D sb v t/\gm D w.heap.size sb t E (σ a2 n2 c2)/\E.map (·.2)=(bY s 0).2):=J ⟨S2,(dz.au C).trans (al.mono F),⟨d.own.low F,⟨λe he=>⟨bK F (d.at_.at_ e he).1,(d.at_.at_ e he).2⟩,d.at_.sep⟩,d.a5,d.ae,d.s5⟩,e2⟩;clear S2 al d e2 V B;go_upto_region 5 with fail;go_loopg [3,11] 5 (λg v3 bj wr=>∃(k:Nat)(m:Array υ)(b:bf)(a:List El),k<=4/\bj=ι δ k/\g=5-k/\bI wr c sb m b (bY s k).1/\dz w.heap.size w wr sb v b/\gm wr w.heap.size sb b a v3/\a.map (·.2)=(bY s k).2);case atStart=>exact⟨0,Y,t,E,by omega,rfl,by omega,Z bb⟩
 case round=>
  obtain⟨k,m,b,a,br,rfl,rfl,S,f,L,i⟩:=hrel;obtain⟨G,c3,rfl⟩:=L.slice;by_cases ax:k<4
  ·have d1:decide ((k:Int)<4)=ρ:=dT_;obtain⟨u,p2,p3,p4⟩:=Ov (Z h) hc k br;have I:=J (Oq wr c sb k m b _ S u ax (by omega));have bM:a.length<=100:=by have:=fD List.length i;rw[dd]at this;omega
   have x:=(Aq u k ax (by omega) b.lf S.aw).2;have K:Hid (bY s (k+1)=(((bY s k).1.pieces k).s,(bY s k).2++((bY s k).1.pieces k).l)):=J rfl;obtain⟨pz,aC⟩:=exq ((bY s k).1.pieces k);rw[<-aC]at I x K;clear aC;replace⟨S,L,f,u,i,x⟩:=pH S L f u i x;go_wp2_with fail;apply(Z I).mono;rintro e w4⟨a4,n4,c4,bt,v4,M,rfl,S4,n,N,O⟩;have P:=(Z f).aA.size;have a0:gm w4 w.heap.size sb v4 a (σ G a.length c3):=(Z L).next (X:=λ_=>False) (n.aA.mono (λ_ _ h=>φ h)) (λ_ _=>id) (λ_ _=>id) n.ar;have b0:M.length<=10:=by have:=fD List.length O;rw[dd]at this;have:=Z x;omega
   obtain⟨a5,n5,c5,Q,T,o5,y,a1⟩:=KN (w:=w4) 206 w.heap.size _ a a0.own wr.heap.size _ M N.own (by omega) (bK P n.aA.size);obtain⟨a3,a8⟩:=(Z L).join P n N S4.bu o5 y a1;have hrel:Hid (∃(p:Nat)(m:Array υ)(b:bf)(a:List El),p<=4/\(Value.int δ ((k:Int)+1))=ι δ p/\5-(k+1)=5-p/\bI Q c sb m b (bY s p).1/\dz w.heap.size w Q sb v b/\gm Q w.heap.size sb b a (σ a5 n5 c5)/\a.map (·.2)=(bY s p).2):=J (by
    refine⟨k+1,bt,v4,a++M,by omega,by push_cast;rfl,rfl,?_,?_,a3,?_⟩
    rw[Z K];exact S4.other (ay.of y) (λj _ e=>a8 j e);have U:=(Z f).trans (n.mono P);refine⟨(U.aA.trans (ay.of y)).mono (λj hj e=>e.elim id (λe=>by have:=((Z L).own.lt j e).1;omega)),U.ft,U.ar⟩
    ·rw[Z K,mV,Z i,O])
   clear a0 a3 a8 S4 n N O o5 y a1 I;replace T:=J T;go_wp2_with (at_builtin;refine ql (by rfl) 206 206 (by rfl) _ _ (by rfl) _ _ _ (by rfl) (by rfl) (Z T) ?_);go_roundg (5-(k+1));case measure=>omega
   case rel=>exact Z hrel
  obtain rfl:k=4:=by omega
  have bx:Hid (R (ξ (σ G a.length c3)) wr):=J (by rw[Z q];exact⟨G,_,c3,m,b,a,rfl,S,f,L,i⟩);replace⟨S,L,f,i⟩:=fE S L f i;go_wp2_with fail;exact Z bx
structure bO(s:Sd)(n:Nat):Prop where
 key:eP s.key
 aj:64<=s.aj/\s.aj<=300
 ag:16<=s.ag/\s.ag<=1024
 out:∀k,k<4->fG (s.out k)
 og:∀k,k<4->((s.out k).h.bytes.length:Int)<=s.ag
 av:∀k,k<4->0<=(s.out k).av/\(s.out k).av<=4096
 code:∀k,k<4->0<=(s.out k).code/\(s.out k).code<=4611686018427387903
 aF:∀k,k<4->iq s.ag (s.aF k)
 pk:∀x∈s.aw++s.lost,0<=x.st/\x.st<4/\∀p∈x.ps,jQ p
 num:∀x∈s.aw,0<=x.num/\x.num<=100*n
 fl:s.aw.length<=10
 fp:∀x∈s.aw,x.ps.length<=1000
 ft:∀x∈s.aw,0<=x.tick/\x.tick<=s.tick
 tick:0<=s.tick/\s.tick<=n
 wait:0<=s.wait/\s.wait<=32
 ba:0<=s.count/\s.count<=100*n
 ll:s.lost.length+s.aw.length<=100*n
 kY:aU s.af
 c8:s.af.length<=8
 cr:∀r∈s.af,0<=r.lo/\r.hi<=4611686018427387904
def fh(n:Nat):aE->Prop
 |.ai s=>bO s n
 |.shut _ _=>False
def bO.yn(h:bO s n)(a:k<4):EC (s.out k):=⟨(h.out k a).nice,(h.out k a).en,h.av k a,h.code k a,by have:=(h.out k a).cl;omega⟩
def bO.tR(h:bO s n):mP s:=⟨h.key,by have:=h.aj;omega,λk a=>h.yn a,h.fl,h.fp⟩
def bO.EE(h:bO s n)(b:n<=100000):mJ s:=⟨h.out,h.pk,λx a=>by have:=h.num x a;omega⟩
def bO.Ox(h:bO s n)(a:n<=100000):nk s:=⟨by have:=h.ag;omega,h.aF,h.EE a,h.fl,by have:=h.ll;omega⟩
def aU.rh{r:Rg}(h:aU (r::Y)):¬Sm (r::Y) r.hi:=by
 intro a;obtain c|⟨x,b,d,e⟩:=(dH r Y r.hi).1 a
 omega;have f:=(kK.1 h.1).1 x b;omega
def aU.run{r:Rg}(h:aU (r::Y))(h0:0<=p)(b:r.lo=0)(hl:∀m,0<=m->m<p->Sm (r::Y) m):p<=r.hi:=by
 by_cases a:p<=r.hi;exact a;have:=h.2 r (by simp);exact absurd (hl r.hi (by omega) (by omega)) h.rh
def iq.whole(h:iq p E):0<=cL E.h/\cL E.h<=E.h.bytes.length:=by
 unfold cL;split;omega;rename_i b;cases a:E.h.af with
 |nil=>rw[a]at b;simp at b
 |cons r t=>
  rw[a]at b;have e0:ao (r::t) 0=r:=rfl;rw[e0]at b⊢;have c:=h.ok;rw[a]at c;have f:=c.2 r (by simp);have g:=h.lK r.lo (by rw[a];exact⟨r,by simp,cE _,f⟩);have i:=h.mc (r.hi-1) (by rw[a];exact⟨r,by simp,by omega,by omega⟩);have d:E.given=θ:=by
   cases d:E.given;rfl;have:=(h.tO d).1;rw[a]at this;cases this
  have e:=h.low d;rw[a]at e;have:=c.run h.fr (by omega) e;omega
def aE.write(st:aE)(k:Int)(l:List Int):Int×Int×aE:=
 match st with
 |.ai s=>if k<0\/4<=k then(0,2,st)else((s.write k.toNat l).1,(s.write k.toNat l).2.1,.ai (s.write k.toNat l).2.2)
 |.shut _ _=>(0,9,st)
def aE.finish(st:aE)(k:Int):Int×aE:=
 match st with
 |.ai s=>if k<0\/4<=k then(2,st)else((s.finish k.toNat).1,.ai (s.finish k.toNat).2)
 |.shut _ _=>(9,st)
def aE.giveUp(st:aE)(k code:Int):Int×aE:=
 match st with
 |.ai s=>if k<0\/4<=k then(2,st)else((s.giveUp k.toNat code).1,.ai (s.giveUp k.toNat code).2)
 |.shut _ _=>(9,st)
def aE.af(st:aE)(k:Int):Int×Int:=
 match st with
 |.ai s=>if k<0\/4<=k then(0,2)else((s.out k.toNat).h.fr,0)
 |.shut _ _=>(0,9)
def aE.tick(st:aE):aE:=
 match st with
 |.ai s=>.ai s.bC
 |.shut _ _=>st
def aE.bB(st:aE):aE×List (List Int):=
 match st with
 |.ai s=>(.ai s.bB.1,s.bB.2)
 |.shut cQ l=>(.shut cQ [],l)
def aE.read(st:aE)(k aH:Int):List Int×Int×Int×Int×aE:=
 match st with
 |.ai s=>if k<0\/4<=k then([],0,0,2,st)else((s.aF k.toNat).out aH,(s.aF k.toNat).state aH,(s.aF k.toNat).jB,0,.ai {s with aF:=ah s.aF k.toNat ((s.aF k.toNat).read aH)})
 |.shut _ _=>([],0,0,9,st)
def aE.close(st:aE)(code:Int):Int×aE:=
 match st with
 |.ai s=>if 4611686018427387903<code then(3,st)else(0,.shut 9 (s.Ag 9 code))
 |.shut _ _=>(9,st)
instance TZ(key:List Int)(s:Int)(p:List Int):Decidable (eH key s p):=by unfold eH;infer_instance
noncomputable def Sd.recv(s:Sd)(p:List Int):Int×Int×aE:=
 if¬eH s.key (aK (!s.first)) p then(4,-1,.ai s)
 else if im s.af s.floor (bm p)then(0,-1,.ai s)
 else match fu (dJ s.key (aK (!s.first)) (bm p) (bX p))with
  |(ν,q)=>(5,q,.shut 5 (s.Ag 5 5))
  |(μ a,_)=>
   if a.any s.fH then(6,-1,.ai s)
   else if(di (s.dM (bm p) a) a).1=0 then(0,-1,.ai (di (s.dM (bm p) a) a).2)
   else((di (s.dM (bm p) a) a).1,-1,.shut (di (s.dM (bm p) a) a).1 ((di (s.dM (bm p) a) a).2.Ag (di (s.dM (bm p) a) a).1 (di (s.dM (bm p) a) a).1))
noncomputable def aE.recv(st:aE)(p:List Int):Int×Int×aE:=
 match st with
 |.ai s=>s.recv p
 |.shut _ _=>(9,-1,st)
def Oy(w:ω)(xb sb:Nat)(st:aE)(A:Nat->Prop)(n:Nat)(h:cI w xb sb st A)(b:fh n st)(k:Int)(j:¬(k<0\/4<=k))(a:Option Addr)(m c:Nat)(l:List Int)(p:bN w a m c l):
 Calls prog 92 #[π (μ ⟨xb,0,ν⟩),ι δ k,σ a m c] w λe d=>e=ξ (τ #[ι δ (st.write k l).1,cH (st.write k l).2.1])/\dF w.heap.size w xb sb A (st.write k l).2.2 d:=by
 refine N8 w xb sb h.cell k _ _ (λe d q=>⟨_,_,q.1⟩) ?_;cases st with
 |ai s=>
  obtain⟨cs,v,H,r⟩:=h.side;unfold aE.write;simp only[aB j]
  have f:k.toNat<4:=by omega
  have t:((k.toNat:Nat):Int)=k:=by omega
  have g:=b.out _ f;have u:=b.og _ f;have x:=b.ag;have i:=g.en;unfold Ot.en at i;apply(t▸Jv w 0 sb cs v s H k.toNat f a m c l p g.nice ⟨u,by omega⟩ i).mono;rintro e d⟨rfl,T⟩;exact⟨rfl,h.jH H r T⟩
 |shut cQ y=>exact h.side.elim
def Oz(w:ω)(xb sb:Nat)(st:aE)(A:Nat->Prop)(h:cI w xb sb st A)(k:Int)(b:¬(k<0\/4<=k)):
 Calls prog 93 #[π (μ ⟨xb,0,ν⟩),ι δ k] w λe a=>e=ξ (cH (st.finish k).1)/\dF w.heap.size w xb sb A (st.finish k).2 a:=by
 refine N9 w xb sb h.cell k _ (λe a c=>⟨_,c.1⟩) ?_;cases st with
 |ai s=>
  obtain⟨cs,v,H,d⟩:=h.side;unfold aE.finish;simp only[aB b]
  have f:k.toNat<4:=by omega
  have g:((k.toNat:Nat):Int)=k:=by omega
  apply(g▸Jw w 0 sb cs v s H k.toNat f).mono;rintro e a⟨rfl,T⟩;exact⟨rfl,h.jH H d T⟩
 |shut cQ i=>exact h.side.elim
def OA(w:ω)(xb sb:Nat)(st:aE)(A:Nat->Prop)(h:cI w xb sb st A)(k code:Int)(b:¬(k<0\/4<=k))(c:aW code):
 Calls prog 94 #[π (μ ⟨xb,0,ν⟩),ι δ k,ι η code] w λe a=>e=ξ (cH (st.giveUp k code).1)/\dF w.heap.size w xb sb A (st.giveUp k code).2 a:=by
 refine Oa w xb sb h.cell k code _ (λe a d=>⟨_,d.1⟩) ?_;cases st with
 |ai s=>
  obtain⟨cs,v,H,f⟩:=h.side;unfold aE.giveUp;simp only[aB b]
  have g:k.toNat<4:=by omega
  have i:((k.toNat:Nat):Int)=k:=by omega
  apply(i▸Jy w 0 sb cs v s H k.toNat g code c).mono;rintro e a⟨rfl,T⟩;exact⟨rfl,h.jH H f T⟩
 |shut cQ j=>exact h.side.elim
def OB(w:ω)(xb sb:Nat)(st:aE)(A:Nat->Prop)(n:Nat)(h:cI w xb sb st A)(d:fh n st)(k:Int)(f:¬(k<0\/4<=k)):
 Calls prog 101 #[π (μ ⟨xb,0,ν⟩),ι δ k] w λe a=>e=ξ (τ #[ι δ (st.af k).1,cH (st.af k).2])/\γ w a ν:=by
 refine Ob w xb sb h.cell k _ (λe a g=>⟨_,_,g.1⟩) ?_;cases st with
 |ai s=>
  obtain⟨cs,v,H,l⟩:=h.side;unfold aE.af;simp only[aB f]
  have b:k.toNat<4:=by omega
  have i:((k.toNat:Nat):Int)=k:=by omega
  have c:=d.out _ b;have j:=c.en;unfold Ot.en at j;apply(i▸Jz w 0 sb cs v s H k.toNat b ⟨c.fr,by omega⟩).mono;rintro e a⟨rfl,T⟩;exact⟨rfl,T⟩
 |shut cQ m=>exact h.side.elim
def OC(w:ω)(xb sb:Nat)(st:aE)(A:Nat->Prop)(n:Nat)(h:cI w xb sb st A)(a:fh n st)(g:n<=100000):
 Calls prog 95 #[π (μ ⟨xb,0,ν⟩)] w λe b=>e=ξ (τ #[])/\dF w.heap.size w xb sb A st.tick b:=by
 refine Oc w xb sb h.cell _ (λe b c=>c.1) ?_;cases st with
 |ai s=>
  obtain⟨cs,v,H,d⟩:=h.side;have i:=a.fl;have j:=a.ll;have k:=a.tick;refine(JB w 0 sb cs v s H ⟨by omega,by omega⟩ (by omega) (λx f=>by have:=a.ft x f;omega) (by have:=a.wait;omega)).mono ?_;rintro e b⟨rfl,T⟩;exact⟨rfl,h.jH H d T⟩
 |shut cQ l=>exact h.side.elim
def OD(w:ω)(xb sb:Nat)(st:aE)(A:Nat->Prop)(n:Nat)(h:cI w xb sb st A)(l:fh n st)(k aH:Int)(g:¬(k<0\/4<=k)):
 Calls prog 99 #[π (μ ⟨xb,0,ν⟩),ι δ k,ι δ aH] w λe b=>∃a m c,e=ξ (τ #[σ a m c,ι δ (st.read k aH).2.1,ι η (st.read k aH).2.2.1,cH (st.read k aH).2.2.2.1])/\bn b w.heap.size (σ a m c) (st.read k aH).1/\∃d,cI b xb sb (st.read k aH).2.2.2.2 d/\(∀k,d k->A k\/w.heap.size<=k)/\ay w b A/\∀j,(Value.slice a m c).ownBlock=μ j->¬d j:=by
 refine Of w xb sb h.cell k aH _ (λe b i=>?_) ?_;obtain⟨a,m,c,i,-⟩:=i;exact⟨a,m,c,_,_,_,i⟩
 cases st with
 |ai s=>
  obtain⟨cs,v,H,x⟩:=h.side;unfold aE.read;simp only[aB g]
  have p:k.toNat<4:=by omega
  have y:((k.toNat:Nat):Int)=k:=by omega
  have q:=l.aF _ p;apply(y▸JA w 0 sb cs v s H k.toNat p aH (q.nice l.ag.2) q.whole).mono;rintro e b⟨a,m,c,rfl,r,E,f,z,T⟩;obtain⟨d,B,t,C⟩:=(h.au f).jH (H.au f) x T;have F:=f.size;refine⟨a,m,c,rfl,r,d,B,λk g=>(t k g).imp id (λh=>by omega),((ay.of f).trans C).mono (λk _ e=>e.elim (λe=>by cases e) id),λj e D=>?_⟩
  have G:=z j e;have I:=(r.lt j e).1;obtain u|u:=t j D
  have:=h.lt j u;omega;omega
 |shut cQ K=>exact h.side.elim
def OE(w:ω)(xb sb:Nat)(st:aE)(A:Nat->Prop)(e:Ending)(b:ω):Prop:=
 ∃a n c d f,e=ξ (σ a n c)/\gK b 0 (σ a n c) d/\jS b 0 d/\d.map (·.2)=st.bB.2/\cI b xb sb st.bB.1 f/\(∀k,f k->A k\/w.heap.size<=k)/\ay w b A/\∀e∈d,¬f e.1/\(Value.slice a n c).ownBlock≠μ e.1/\(A e.1\/w.heap.size<=e.1)
def cI.OF{l:Sd}{g:bf}(h:cI w n i (.ai s) P)(j:∀k,eV i d k->P k/\k≠n)(S:bI W 0 i c g l)(f:dz w.heap.size w W i d g):cI W n i (.ai l) (λk=>k=n\/eV i g k)/\(∀k,(k=n\/eV i g k)->P k\/w.heap.size<=k)/\ay w W P:=by
 have m:=h.lt n h.oR;refine⟨⟨(f.aA.block n m (λe=>(j n (φ e)).2 rfl)).trans h.aV,⟨c,g,S,λk a=>⟨ψ a,λe=>?_⟩⟩,φ rfl,λk a=>?_,λe=>?_⟩,λk a=>?_,f.aA.mono (λk _ e=>(j k (φ e)).1)⟩
 subst e;obtain b|b:=f.ar k a
 exact(j k b).2 rfl;omega;obtain rfl|a:=a
 exact cu m f.aA.size;exact oN S.bu a;obtain e|e:=e
 exact h.n0 (e▸h.oR);obtain b|b:=f.ar 0 e
 exact h.n0 (j 0 b).1;omega;obtain rfl|a:=a
 exact φ h.oR;obtain b|b:=f.ar k a
 exact φ (j k b).1;exact ψ b
def OG(w:ω)(xb sb:Nat)(st:aE)(A:Nat->Prop)(n:Nat)(h:cI w xb sb st A)(d:fh n st)(u:n<=100000):
 Calls prog 96 #[π (μ ⟨xb,0,ν⟩)] w (OE w xb sb st A):=by
 refine Od w xb sb h.cell _ (λe i g=>?_) ?_;obtain⟨a,n,c,-,-,g,-⟩:=g;exact⟨_,g⟩
 cases st with
 |ai s=>
  obtain⟨cs,v,H,j⟩:=h.side;have k:=d.ba;apply(Ow w 0 sb cs v s H d.tR ⟨k.1,by omega⟩ d.c8 d.kY d.cr).mono;rintro e i⟨a,n,c,x,y,l,rfl,S,m,L,p⟩;obtain⟨q,r,t⟩:=h.OF j S m;refine⟨a,n,c,l,_,rfl,L.own.low (jm _),⟨λe b=>⟨jm _,(L.at_.at_ e b).2⟩,L.at_.sep⟩,p,q,r,t,λe b=>⟨λf=>?_,L.s5 e b,ψ (L.at_.at_ e b).1⟩⟩
  obtain f|f:=f
  have z:=(L.at_.at_ e b).1;have B:=h.lt xb h.oR;omega;exact L.ae e b f
 |shut cQ C=>exact h.side.elim
def OH(b:List Int):∀(k p:Nat)(a c:List Fr)(q:Int),iJ b k p a=(μ c,q)->q= -1:=by
 intro k;induction k with
 |zero=>intro p a c q h;simp[iJ]at h
 |succ k d=>
  intro p a c q h;unfold iJ at h;split at h;split at h;simp at h;exact d _ _ _ _ h;simp only[rJ]at h;exact h.2.symm
def Ar{a:List Fr}(h:fu L=(μ a,q)):q= -1:=by
 unfold fu at h;split at h;simp at h;exact OH _ _ _ _ _ _ h
def OJ(w:ω)(xb sb:Nat)(st:aE)(A:Nat->Prop)(n:Nat)(h:cI w xb sb st A)(f:fh n st)(x:n<=100000)(y:Laid w)(a:Option Addr)(m c:Nat)(p:List Int)(k:bN w a m c p)(ho:∀cQ l,(st.recv p).2.2≠.shut cQ l):
 Calls prog 98 #[π (μ ⟨xb,0,ν⟩),σ a m c] w λe g=>∃ev,e=ξ ev/\vD ev (st.recv p).1 (st.recv p).2.1/\dF w.heap.size w xb sb A (st.recv p).2.2 g:=by
 refine Oe w xb sb h.cell _ _ (λe g r=>?_) ?_;obtain⟨ev,r,-⟩:=r;exact⟨_,r⟩
 cases st with
 |ai s=>
  obtain⟨cs,v,H,j⟩:=h.side;have z:=f.ba;have D:=f.ll;have B:eH s.key (aK (!s.first)) p->im s.af s.floor (bm p)=θ->∃b,fu (dJ s.key (aK (!s.first)) (bm p) (bX p))=(μ b,-1)/\(b.any s.fH=θ->(di (s.dM (bm p) b) b).1=0):=λd i=>by
   have ho:∀cQ l,(s.recv p).2.2≠.shut cQ l:=ho;unfold Sd.recv at ho;rw[aB (λe=>e d),aB (by rw[i];decide)]at ho;cases hd:fu (dJ s.key (aK (!s.first)) (bm p) (bX p))with
   |mk o q=>
    rw[hd]at ho;cases o with
    |none=>exact absurd rfl (ho _ _)
    |some b=>
     refine⟨b,by rw[Ar hd],λk=>?_⟩
     simp only[k,eN,eA]at ho;by_cases c:(di (s.dM (bm p) b) b).1=0;exact c;rw[aB c]at ho;exact absurd rfl (ho _ _)
  apply(NY w 0 sb cs v s p H f.key (f.Ox x) (by omega) ⟨z.1,by omega⟩ f.kY f.c8 y (λe=>h.n0 (j 0 (φ e)).1) a m c k B).mono;show∀e g,tQ w 0 sb v s p e g->∃ev,e=ξ ev/\vD ev (s.recv p).1 (s.recv p).2.1/\dF w.heap.size w xb sb A (s.recv p).2.2 g;rintro e g(⟨d,rfl,T⟩|⟨d,i,rfl,T⟩|⟨d,i,b,u,⟨t,rfl,T⟩|⟨t,C,rfl,T⟩⟩);unfold Sd.recv;rw[aG d];exact⟨_,rfl,⟨rfl,rfl⟩,h.jH H j T⟩
  unfold Sd.recv;rw[aB (by simpa using d),aG i];exact⟨_,rfl,⟨rfl,rfl⟩,h.jH H j T⟩
  unfold Sd.recv;rw[aB (by simpa using d),aB (by rw[i];decide),u];simp only[aG t]
  exact⟨_,rfl,⟨rfl,rfl⟩,h.jH H j T⟩
  unfold Sd.recv;rw[aB (by simpa using d),aB (by rw[i];decide),u];simp only[t,eN,eA,aG C]
  exact⟨_,rfl,⟨rfl,rfl⟩,h.jH H j T⟩
 |shut cQ E=>exact h.side.elim
def yo(w:ω)(aj ag:Int)(key:List Int)(f:Bool)(bad:υ)(b:υ->υ)(e:Ending)(a:ω):Prop:=
 γ w a ν/\((¬jT aj ag/\e=ξ bad)\/(jT aj ag/\∃xb sb A,e=ξ (b (π (μ ⟨xb,0,ν⟩)))/\(∀k,A k->w.heap.size<=k)/\cI a xb sb (.ai (Sd.new aj ag key f)) A))
def OK(w:ω)(aj ag:Int)(key:List Int)(d:eP key)(f:Bool)(F:0<w.heap.size):
 Calls prog 34 #[ε #[ι δ aj,ι δ ag],ε (cV key),β f] w (yo w aj ag key f (τ #[π ν,cH 1]) (λv=>τ #[v,.nilIface])):=by
 obtain⟨R,p⟩:=exq (yo w aj ag key f (τ #[π ν,cH 1]) (λv=>τ #[v,.nilIface]));rw[<-p];replace p:=J p;have t:=qm d;obtain⟨b,j⟩:=exq ((w.alloc (ο #[ι δ aj,ι δ ag] 28)).alloc (ο (cV key) 24));have u:γ w b ν:=by rw[j];exact aq (aJ _ _ _) (aJ _ _ _)
 have l:b.heap[w.heap.size]?=μ (ο #[ι δ aj,ι δ ag] 28 (0,0)):=by rw[j];exact bE (aO _ _) (aJ _ _ _)
 have m:b.heap[w.heap.size+1]?=μ (ο (cV key) 24 (0,0)):=by
  have:=aO (w.alloc (ο #[ι δ aj,ι δ ag] 28)) (ο (cV key) 24);rw[eh]at this;rw[j];exact this
 have c0:κ b ⟨w.heap.size,0,ν⟩=μ (ι δ aj):=by simp[World.cell?,l]
 have c1:κ b ⟨w.heap.size,1,ν⟩=μ (ι δ ag):=by simp[World.cell?,l]
 have G:prog.cellsOf 24=16:=by kernel_rfl
 by_cases h:jT aj ag
 ·have r:=J (N4 b aj ag key d f h);have s:=J (λ(a:ω)(sb:Nat)(g:γ b a ν)(hs:b.heap.size<=sb)(q:a.heap[sb]?=μ (ο (mM aj ag (bv key) f 4 0 (σ ν 0 0)).toArray 241 (0,0)))=>(show R (ξ (τ #[π (μ ⟨a.heap.size,0,ν⟩),.nilIface])) (a.alloc (ο #[π (μ ⟨sb,0,ν⟩)] 173)) by
   rw[Z p];have B:=aJ a (ο #[π (μ ⟨sb,0,ν⟩)] 173) ν;have H:=u.size;have I:=g.size;have jq:=(bg.1 q).1;have L:(a.alloc (ο #[π (μ ⟨sb,0,ν⟩)] 173)).heap.size=a.heap.size+1:=eh _ _;have C:∀k,eV sb bf.new k->k=sb:=λk d=>by
    obtain(D|⟨i,-,e⟩)|⟨i,y,n,c,-,e,-⟩|⟨x,E,-⟩:=d
    exact D;cases e;cases e;cases E
   refine⟨aq u (aq g B),ψ ⟨h,a.heap.size,sb,λk=>k=a.heap.size\/k=sb,rfl,λk d=>(by omega),⟨aO _ _,⟨_,bf.new,N7 d (bE q B) (jm _),λk d=>?_⟩,φ rfl,λk d=>(by omega),λe=>(by omega)⟩⟩⟩
   rw[C k d];exact⟨ψ rfl,by omega⟩))
  generalize cV key=K at *;replace⟨l,m⟩:=bD l m;clear h;go_enter func34,ntmps34;go_upto_region 1 with fail;rw[<-j];clear j;go_wp2_with (refine rM _ (by rfl) (by rfl) _ (by rfl) K ?_ t ?_;exact Z m);apply(Z r).mono;rintro e a⟨sb,rfl,hs,q,z⟩;have A:=J (Z s a sb z hs q);clear q hs;go_wp2_with fail;exact Z A
 have r:=J (NZ b aj ag _ t f h);have s:=J (λ(a:ω)(g:γ b a ν)=>(show R (ξ (τ #[π ν,cH 1])) a by
  rw[Z p];exact⟨aq u g,φ ⟨h,rfl⟩⟩))
 rw[show cH 1=.iface 34 (ι δ 1)from rfl]at r s;generalize cV key=K at *;replace⟨l,m⟩:=bD l m;clear h;go_enter func34,ntmps34;go_upto_region 1 with fail;rw[<-j];clear j;go_wp2_with (refine rM _ (by rfl) (by rfl) _ (by rfl) K ?_ t ?_;exact Z m);apply(Z r).mono;rintro e a⟨rfl,z⟩;have A:=J (Z s a z);go_wp2_with fail;exact Z A
def OL(w:ω)(aj ag:Int)(key:List Int)(i:eP key)(f:Bool)(j:Laid w):
 Calls prog 12 #[ε #[ι δ aj,ι δ ag],ε (cV key),β f] w (yo w aj ag key f (τ #[π ν,ι δ 1]) (λv=>τ #[v,ι δ 0])):=by
 obtain⟨R,b⟩:=exq (yo w aj ag key f (τ #[π ν,ι δ 1]) (λv=>τ #[v,ι δ 0]));rw[<-b];replace b:=J b;have y:=qm i;obtain⟨a,c⟩:=exq ((w.alloc (ο #[ι δ aj,ι δ ag] 28)).alloc (ο (cV key) 24));have d:γ w a ν:=by rw[c];exact aq (aJ _ _ _) (aJ _ _ _)
 have l:a.heap[w.heap.size]?=μ (ο #[ι δ aj,ι δ ag] 28 (0,0)):=by rw[c];exact bE (aO _ _) (aJ _ _ _)
 have n:a.heap[w.heap.size+1]?=μ (ο (cV key) 24 (0,0)):=by
  have:=aO (w.alloc (ο #[ι δ aj,ι δ ag] 28)) (ο (cV key) 24);rw[eh]at this;rw[c];exact this
 have c0:κ a ⟨w.heap.size,0,ν⟩=μ (ι δ aj):=by simp[World.cell?,l]
 have c1:κ a ⟨w.heap.size,1,ν⟩=μ (ι δ ag):=by simp[World.cell?,l]
 have D:prog.cellsOf 24=16:=by kernel_rfl
 have s:=J (OK a aj ag key i f (cu j.lt d.size));have t:=J (λ(h:ω)(g:γ w h ν)=>Ok 1 h (j.gb g));have z:=J (λ(h:ω)=>Al h);rw[show cH 1=.iface 34 (ι δ 1)from rfl]at s t;generalize cV key=K at *;replace⟨l,n,j⟩:=cz l n j;go_enter func12,ntmps12;go_upto_region 1 with fail;rw[<-c];clear c;go_wp2_with (refine rM _ (by rfl) (by rfl) _ (by rfl) K ?_ y ?_;exact Z n);apply(Z s).mono;rintro e h⟨p,⟨B,rfl⟩|⟨C,xb,sb,A,rfl,u,x⟩⟩
 ·go_wp2_with fail;apply(Z t _ (aq d p)).mono;rintro e q⟨rfl,m⟩;have r:Hid (R (ξ (τ #[π ν,ι δ 1])) q):=J (by rw[Z b];exact⟨aq d (aq p m),φ ⟨B,rfl⟩⟩);go_wp2_with fail;exact Z r
 go_wp2_with fail;apply(Z z _).mono;rintro e q⟨rfl,m⟩;have r:Hid (R (ξ (τ #[π (μ ⟨xb,0,ν⟩),ι δ 0])) q):=J (by rw[Z b];exact⟨aq d (aq p m),ψ ⟨C,xb,sb,A,rfl,λk i=>bK d.size (u k i),x.au m⟩⟩);clear x u;go_wp2_with fail;exact Z r
