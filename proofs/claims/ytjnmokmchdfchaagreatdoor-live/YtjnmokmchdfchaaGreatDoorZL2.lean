import Derived.Laws.EntriesVeiled
import Derived.Test.YtjnmokmchdfchaaGreatDoorZL1
set_option maxRecDepth 1000000
set_option maxHeartbeats 0
set_option linter.all false
namespace Go.Proofs.YtjnmokmchdfchaaGreatDoor
open Go.RowKit Tryz
open Go.Value renaming int→ι,slice→σ,bool→β,pointer→π,agg→ε,string→ς,tuple→τ
open Go.IntKind renaming i64→δ,u64→η,u8→Δ
open Go.Ending renaming returned→ξ
open Go.Obj renaming cells→ο
open Or renaming inl→φ,inr→ψ
open Option renaming some→μ,none→ν
open Bool renaming true→ρ,false→θ
open Go renaming World→ω,Value→υ
open Go.World renaming grownBy→γ,cell?→κ,frozen?→χ,setCell→ζ
attribute[local go_sem↓]Go.wp_at_zero Go.wp_at_succ
variable{A:Addr}{I:Fr}{p q:Int}{K L:List Int}{Y:List Rg}{b i j k l m n o:Nat}{a:Option Addr}{N:Option Nat}{T:TypeId}{x y z:υ}{V W w:ω}
def kj(f:Fr)(a:υ):List υ:=[ι δ f.kind,ι δ f.stream,ι η f.offset,ι η f.code,β f.fin,ς f.data,a]
def bU(f:Fr)(a:υ):Array υ:= #[ι δ f.kind,ι δ f.stream,ι η f.offset,ι η f.code,β f.fin,ς f.data,a]
def dL(w:ω)(f:Fr)(a:υ):Prop:=f.ok/\f.data.size<=9223372036854775807/\∃ra cap,a=σ ra f.ranges.length cap/\bq w ra f.ranges.length cap f.ranges
def dI{a c d e:υ}(h:w.heap[b]?=μ (ο #[x,y,z,a,c,d,e] T (0,0))):κ w ⟨b,0,ν⟩=μ x/\κ w ⟨b,1,ν⟩=μ y/\κ w ⟨b,2,ν⟩=μ z/\κ w ⟨b,3,ν⟩=μ a/\κ w ⟨b,4,ν⟩=μ c/\κ w ⟨b,5,ν⟩=μ d/\κ w ⟨b,6,ν⟩=μ e:=by
 simp[World.cell?,h]
def dL.au(h:dL w I x)(g:γ w W ν):dL W I x:=by
 obtain⟨a,h0,ra,cap,b,c⟩:=h;exact⟨a,h0,ra,cap,b,c.au g⟩
def B7(f:Fr)(l:υ)(w:ω)(h:dL w f l):
 Calls prog 192 #[ε (bU f l)] w λe n=>dU (pY f/\qN f) e/\γ w n ν:=by
 obtain⟨⟨⟨t,u⟩,⟨s0,s1⟩,⟨o0,o1⟩,⟨c0,c1⟩,v⟩,x,ra,cap,rfl,p⟩:=h;obtain⟨k,s,o,c,fin,d,rg⟩:=f;obtain⟨R,a⟩:∃R:Prop,R=((o<=4611686018427387903/\c<=4611686018427387903/\0<=s/\s<4)/\(k=3->iT rg)/\(k=5->(d.size:Int)<=4611686018427387903-o)):=⟨_,rfl⟩
 have m:(pY ⟨k,s,o,c,fin,d,rg⟩/\qN ⟨k,s,o,c,fin,d,rg⟩)=R:=a.symm;rw[m];clear m;simp only[bU]at *;replace a:=J a;by_cases y:4611686018427387903<o
 ·go_enter func192,ntmps192;go_wp2;go_ret;exact⟨mC (λhp=>by rw[Z a]at hp;have:=hp.1.1;omega),aJ _ _ _⟩
 by_cases z:4611686018427387903<c
 ·go_enter func192,ntmps192;go_wp2;go_ret;exact⟨mC (λhp=>by rw[Z a]at hp;have:=hp.1.2.1;omega),aJ _ _ _⟩
 by_cases A:s<0
 ·go_enter func192,ntmps192;go_wp2;go_ret;exact⟨mC (λhp=>by rw[Z a]at hp;have:=hp.1.2.2.1;omega),aJ _ _ _⟩
 by_cases B:4<=s
 ·go_enter func192,ntmps192;go_wp2;go_ret;exact⟨mC (λhp=>by rw[Z a]at hp;have:=hp.1.2.2.2;omega),aJ _ _ _⟩
 have g:o<=4611686018427387903/\c<=4611686018427387903/\0<=s/\s<4:=by omega
 replace g:=J g;by_cases k3:k=3
 ·subst k3;have q:=J (λob=>p.au (aJ w ob ν));go_enter func192,ntmps192;go_wp2_with (go_at_call 234;apply(Hh _ _ _ _ _ (Z q _)).mono;rintro e C⟨⟨b,rfl,i⟩,r⟩;replace i:=J i);go_ret;refine⟨⟨b,rfl,(Z i).trans (by have j:=Z g;rw[Z a];simp[j])⟩,aq (aJ _ _ _) r⟩
 by_cases k5:k=5
 ·subst k5;have D:IntKind.u64.wrap (4611686018427387903-o)=4611686018427387903-o:=by rw[fW];omega
  have E:IntKind.u64.wrap (d.size:Int)=(d.size:Int):=by rw[fW];omega
  go_enter func192,ntmps192;go_wp2;go_ret;refine⟨oJ (by have j:=Z g;rw[Z a];simp[j]),aJ _ _ _⟩
 go_enter func192,ntmps192;go_wp2;go_ret;exact⟨sV (by rw[Z a];exact⟨Z g,λh=>absurd h k3,λh=>absurd h k5⟩),aJ _ _ _⟩
structure It where
 h:Hd
 high:Int
 last:Int
 code:Int
 ended:Bool
 given:Bool
 over:Bool
def sX(w:ω)(sb a:Nat)(s:It):Prop:=
 κ w ⟨sb,a+3,ν⟩=μ (ι η s.high)/\κ w ⟨sb,a+4,ν⟩=μ (ι η s.last)/\κ w ⟨sb,a+5,ν⟩=μ (ι η s.code)/\κ w ⟨sb,a+6,ν⟩=μ (β s.ended)/\κ w ⟨sb,a+7,ν⟩=μ (β s.given)/\κ w ⟨sb,a+8,ν⟩=μ (β s.over)
def sX.au{s:It}(H:sX w n k s)(g:γ w W ν):sX W n k s:=
 ⟨gC_ g H.1,gC_ g H.2.1,gC_ g H.2.2.1,gC_ g H.2.2.2.1,gC_ g H.2.2.2.2.1,gC_ g H.2.2.2.2.2⟩
def aT(f:Fr):Int:=f.offset+f.data.size
def It.gO(s:It)(e:Int):Bool:=(s.ended&&(e !=s.last))||decide (e<s.high)
def It.busy(s:It)(f:Fr)(ag:Int):Bool:= !s.given&&decide (s.h.fr+ag<aT f)
def zo(w:ω)(f:Fr)(a:υ)(h0:0<=f.offset)(hs:aT f<=9223372036854775807):Calls prog 247 #[ε (bU f a)] w λe b=>e=ξ (ι η (aT f))/\γ w b ν:=by
 obtain⟨kind,stream,offset,code,fin,data,ranges⟩:=f;unfold aT bU at *;simp only at *;have c:IntKind.u64.wrap (offset+(data.size:Int))=offset+(data.size:Int):=by rw[fW];omega
 have d:IntKind.u64.wrap (data.size:Int)=(data.size:Int):=by rw[fW];omega
 go_enter func247,ntmps247;go_wp2;go_ret;exact⟨rfl,by repeat(first|exact aD _ _|apply dv|apply aY|apply bk)⟩
def B8(w:ω)(sb a:Nat)(s:It)(H:sX w sb a s)(e:Int):Calls prog 257 #[π (μ ⟨sb,a,ν⟩),ι η e] w λr b=>r=ξ (β (s.gO e))/\b=w:=by
 obtain⟨c3,c4,c5,c6,c7,c8⟩:=H;unfold It.gO;generalize s.high=hi at *;generalize s.last=la at *;generalize s.ended=en at *;cases en<;>by_cases hd:e=la<;>by_cases c:e<hi;all_goals
  go_enter func257,ntmps257
  go_wp2_with fail
  all_goals
   first
    |(go_ret;exact⟨by simp_all[bne],rfl⟩)
    |(exfalso;omega)
def kc(h:κ w A=μ x):∀W,γ w W ν->κ W A=μ x:=λ_ g=>gC_ g h
def HI(w:ω)(sb g:Nat)(s:It)(h0:κ w ⟨sb,g,ν⟩=μ (ι η s.h.fr))(H:sX w sb g s)(A:0<=s.h.fr/\s.h.fr<=4611686018427387903)(f:Fr)(c:υ)(x:0<=f.offset)(hs:aT f<=9223372036854775807)(ag:Int)(B:0<=ag/\ag<=1000000):
 Calls prog 214 #[π (μ ⟨sb,g,ν⟩),ε (bU f c),ι δ ag] w λr i=>r=ξ (β (s.busy f ag))/\γ w i ν:=by
 obtain⟨-,-,-,-,c7,-⟩:=H;unfold It.busy;have y:=J (λW=>zo W f c x hs);generalize s.h.fr=fr at *;generalize s.given=gv at *;generalize aT f=en at *;obtain⟨kind,stream,offset,code,fin,data,ranges⟩:=f;unfold bU at *;simp only at *;obtain⟨b,a⟩:=exq (w.alloc (ο #[ι δ kind,ι δ stream,ι η offset,ι η code,β fin,ς data,c] 158));have d:γ w b ν:=by rw[a];exact aJ _ _ _
 have j:b.heap[w.heap.size]?=μ (ο #[ι δ kind,ι δ stream,ι η offset,ι η code,β fin,ς data,c] 158 (0,0)):=by rw[a];exact aO _ _
 obtain⟨l,m,n,p,q,t,u⟩:=dI j;replace l:=kc l;replace m:=kc m;replace n:=kc n;replace p:=kc p;replace q:=kc q;replace t:=kc t;replace u:=kc u;have d0:=kc (gC_ d h0);have d7:=kc (gC_ d c7);clear h0 c7;have C:IntKind.u64.wrap ag=ag:=by rw[fW];omega
 have D:IntKind.u64.wrap (fr+ag)=fr+ag:=by rw[fW];omega
 have k:γ b b.drew ν:=aY (aD _ _);replace j:=J j;cases gv
 ·go_enter func214,ntmps214;go_wp2_with fail;rw[<-a];clear a;go_region_held3 (λi=>γ b i ν)
   (with_reducible first|exact v|exact k)
   (first|(go_at_call 247;apply(Z y _).mono;rintro e E⟨rfl,z⟩;have v:=aq k z))
  go_wp2;go_ret;exact⟨rfl,aq d v⟩
 go_enter func214,ntmps214;go_wp2_with fail;rw[<-a];clear a;go_big_region;go_wp2;go_ret;exact⟨rfl,aq d k⟩
def bq.cM(h:bq w a n k Y)(e:Y≠[]->∀x,a=μ x->W.heap[x.block]?=w.heap[x.block]?):bq W a n k Y:=by
 obtain⟨f,g,i,l,c⟩:=h;refine⟨f,g,i,l,?_⟩
 obtain c|⟨b,o,rfl,c⟩:=c
 exact φ c;refine ψ ⟨b,o,rfl,?_⟩;by_cases hl:Y=[]
 subst hl;intro j v d;simp[cF]at d;intro j v d;exact(mn (w:=w) (a:=⟨b,o+j,ν⟩) (e hl ⟨b,o,ν⟩ rfl)).trans (c j v d)
def bq.lt(h:bq w (μ A) n k Y)(hl:Y≠[]):A.block<w.heap.size:=by
 obtain⟨c,d,f,g,a|⟨b,o,e,a⟩⟩:=h;have:=pq.2 hl;omega;cases e;exact eZ w _ (a 0 _ (by have:=(BM Y 0 (pq.2 hl)).1;simpa using this))
def zE(a:Option Addr)(b o n cap l:Nat)(la lb:Array υ)(w:ω)(p:Nat->Prop)(y z A B:Nat->υ)(Inv:Nat->ω->Prop)(C:0<n->a=μ ⟨b,o,ν⟩)(D:n<=cap/\cap<=maxLen)
 (eg:∀args w,(callFunc l args).run prog w=.ok (.enter l args) w) (h0:Inv 0 w)
 (r:∀(W:ω)(h:Nat),Inv h W->h<n->κ W ⟨b,o+h*4,ν⟩=μ (y h)/\κ W ⟨b,o+h*4+1,ν⟩=μ (z h)/\κ W ⟨b,o+h*4+2,ν⟩=μ (A h)/\κ W ⟨b,o+h*4+3,ν⟩=μ (B h))
 (s:∀(W:ω)(h:Nat),Inv h W->h<n->Calls prog l (la++ #[ε #[y h,z h,A h,B h]]++lb) W (λe E=>dU (p h) e/\Inv (h+1) E)):
 Calls prog 235 #[σ a n cap,.func (.func l) la lb] w λe c=>(∃k:Nat,k<n/\e=ξ (ι δ k)/\p k/\(∀i,i<k->¬p i)/\Inv (k+1) c)\/(e=ξ (ι δ (-1))/\(∀i,i<n->¬p i)/\Inv n c):=by
 obtain⟨R,d⟩:∃R:Ending->ω->Prop,R=λe c=>(∃k:Nat,k<n/\e=ξ (ι δ k)/\p k/\(∀i,i<k->¬p i)/\Inv (k+1) c)\/(e=ξ (ι δ (-1))/\(∀i,i<n->¬p i)/\Inv n c):=⟨_,rfl⟩
 rw[<-d];obtain⟨M,F⟩:=D;unfold maxLen at F;replace⟨d,s,r,h0⟩:=fE d s r h0;go_enter func235,ntmps235;go_wp2;go_loopw [8] (λu wr=>∃j:Nat,j<=n/\u=ι δ j/\(∀i,i<j->¬p i)/\Inv j wr) (λu _=>n-(intOf u).toNat);case atStart=>exact⟨0,by omega,rfl,λi hi=>by omega,Z h0⟩
 case round=>
  obtain⟨j,N,rfl,f,g⟩:=hrel;replace f:=J f;by_cases v:j<n
  ·have d1:decide ((j:Int)<n)=ρ:=dT_;obtain⟨O,P,Q,S⟩:=Z r wr j g v;have hF:=J (Z s wr j g v);have G:=C (by omega);subst G;have T:(j:Int)<n:=by omega
   replace g:=J g;clear C;go_wp2_with fail;apply(Z hF).mono;rintro e H⟨⟨t,rfl,m⟩,q⟩;replace q:=J q;cases t
   ·have I:Hid (¬p j):=J (λhp=>by cases m.2 hp);clear m;go_wp2;go_roundw;case rel=>
     refine⟨j+1,by omega,by simp,λi K=>?_,Z q⟩
     obtain h|rfl:=qC.1 K
     exact Z f i h;exact Z I
    case measure=>simp[intOf];omega
   have L:Hid (p j):=J (m.1 rfl);clear m;have x:Hid (R (ξ (ι δ j)) H):=J (by rw[Z d];exact φ ⟨j,v,rfl,Z L,Z f,Z q⟩);go_wp2_with fail;exact Z x
  have d1:decide ((j:Int)<n)=θ:=dF_;obtain rfl:j=n:=by omega
  have x:Hid (R (ξ (ι δ (-1))) wr):=J (by rw[Z d];exact ψ ⟨rfl,Z f,g⟩);go_wp2_with fail;exact Z x
def Cp(a:Option Addr)(b o n cap c:Nat)(la lb:Array υ)(w:ω)(p:Nat->Prop)(j l m q:Nat->υ)(v:0<n->a=μ ⟨b,o,ν⟩)(x:n<=cap/\cap<=maxLen)
 (eg:∀args w,(callFunc c args).run prog w=.ok (.enter c args) w)
 (t:∀(W:ω)(h:Nat),γ w W ν->h<n->κ W ⟨b,o+h*4,ν⟩=μ (j h)/\κ W ⟨b,o+h*4+1,ν⟩=μ (l h)/\κ W ⟨b,o+h*4+2,ν⟩=μ (m h)/\κ W ⟨b,o+h*4+3,ν⟩=μ (q h))
 (u:∀(W:ω)(h:Nat),γ w W ν->h<n->Calls prog c (la++ #[ε #[j h,l h,m h,q h]]++lb) W (λe y=>dU (p h) e/\γ W y ν)):
 Calls prog 197 #[σ a n cap,.func (.func c) la lb] w λe z=>dU (∃i,i<n/\p i) e/\γ w z ν:=by
 have A:=J (zE a b o n cap c la lb w p j l m q (λ_ W=>γ w W ν) v x eg (aD _ _) t (λW h g B=>(u W h g B).mono (λ_ _ f=>⟨f.1,aq g f.2⟩)));obtain⟨R,d⟩:∃R:Prop,R=(∃i,i<n/\p i):=⟨_,rfl⟩
 rw[<-d];replace d:=J d;clear u t;go_enter func197,ntmps197;go_wp2_with fail;apply(Z A).mono;rintro e E(⟨k,C,rfl,hp,-,r⟩|⟨rfl,hp,r⟩)
 ·have hd:decide (0<=(k:Int))=ρ:=dT_;have s:Hid (dU R (ξ (β ρ))):=J (sV (by rw[Z d];exact⟨k,C,hp⟩));go_wp2;go_ret;exact⟨Z s,r⟩
 have s:Hid (dU R (ξ (β θ))):=J (mC (by rw[Z d];rintro⟨i,D,f⟩;exact hp i D f));replace hp:=J hp;go_wp2;go_ret;exact⟨Z s,r⟩
def IQ(a:Option Addr)(b o n cap l:Nat)(la lb:Array υ)(w:ω)(p:Nat->Prop)(y z A B:Nat->υ)(Inv:Nat->ω->Prop)(C:0<n->a=μ ⟨b,o,ν⟩)(D:n<=cap/\cap<=maxLen)
 (eg:∀args w,(callFunc l args).run prog w=.ok (.enter l args) w) (h0:Inv 0 w)
 (r:∀(W:ω)(h:Nat),Inv h W->h<n->κ W ⟨b,o+h*4,ν⟩=μ (y h)/\κ W ⟨b,o+h*4+1,ν⟩=μ (z h)/\κ W ⟨b,o+h*4+2,ν⟩=μ (A h)/\κ W ⟨b,o+h*4+3,ν⟩=μ (B h))
 (s:∀(W:ω)(h:Nat),Inv h W->h<n->Calls prog l (la++ #[ε #[y h,z h,A h,B h]]++lb) W (λe E=>dU (p h) e/\Inv (h+1) E)):
 Calls prog 303 #[σ a n cap,.func (.func l) la lb] w λe c=>(∃k:Nat,k<n/\e=ξ (ι δ k)/\p k/\(∀i,i<k->¬p i)/\Inv (k+1) c)\/(e=ξ (ι δ (-1))/\(∀i,i<n->¬p i)/\Inv n c):=by
 obtain⟨R,d⟩:∃R:Ending->ω->Prop,R=λe c=>(∃k:Nat,k<n/\e=ξ (ι δ k)/\p k/\(∀i,i<k->¬p i)/\Inv (k+1) c)\/(e=ξ (ι δ (-1))/\(∀i,i<n->¬p i)/\Inv n c):=⟨_,rfl⟩
 rw[<-d];obtain⟨M,F⟩:=D;unfold maxLen at F;replace⟨d,s,r,h0⟩:=fE d s r h0;go_enter func303,ntmps303;go_wp2;go_loopw [8] (λu wr=>∃j:Nat,j<=n/\u=ι δ j/\(∀i,i<j->¬p i)/\Inv j wr) (λu _=>n-(intOf u).toNat);case atStart=>exact⟨0,by omega,rfl,λi hi=>by omega,Z h0⟩
 case round=>
  obtain⟨j,N,rfl,f,g⟩:=hrel;replace f:=J f;by_cases v:j<n
  ·have d1:decide ((j:Int)<n)=ρ:=dT_;obtain⟨O,P,Q,S⟩:=Z r wr j g v;have hF:=J (Z s wr j g v);have G:=C (by omega);subst G;have T:(j:Int)<n:=by omega
   replace g:=J g;clear C;go_wp2_with fail;apply(Z hF).mono;rintro e H⟨⟨t,rfl,m⟩,q⟩;replace q:=J q;cases t
   ·have I:Hid (¬p j):=J (λhp=>by cases m.2 hp);clear m;go_wp2;go_roundw;case rel=>
     refine⟨j+1,by omega,by simp,λi K=>?_,Z q⟩
     obtain h|rfl:=qC.1 K
     exact Z f i h;exact Z I
    case measure=>simp[intOf];omega
   have L:Hid (p j):=J (m.1 rfl);clear m;have x:Hid (R (ξ (ι δ j)) H):=J (by rw[Z d];exact φ ⟨j,v,rfl,Z L,Z f,Z q⟩);go_wp2_with fail;exact Z x
  have d1:decide ((j:Int)<n)=θ:=dF_;obtain rfl:j=n:=by omega
  have x:Hid (R (ξ (ι δ (-1))) wr):=J (by rw[Z d];exact ψ ⟨rfl,Z f,g⟩);go_wp2_with fail;exact Z x
def IS(a:Option Addr)(b o n cap c:Nat)(la lb:Array υ)(w:ω)(p:Nat->Prop)(j l m q:Nat->υ)(v:0<n->a=μ ⟨b,o,ν⟩)(x:n<=cap/\cap<=maxLen)
 (eg:∀args w,(callFunc c args).run prog w=.ok (.enter c args) w)
 (t:∀(W:ω)(h:Nat),γ w W ν->h<n->κ W ⟨b,o+h*4,ν⟩=μ (j h)/\κ W ⟨b,o+h*4+1,ν⟩=μ (l h)/\κ W ⟨b,o+h*4+2,ν⟩=μ (m h)/\κ W ⟨b,o+h*4+3,ν⟩=μ (q h))
 (u:∀(W:ω)(h:Nat),γ w W ν->h<n->Calls prog c (la++ #[ε #[j h,l h,m h,q h]]++lb) W (λe y=>dU (p h) e/\γ W y ν)):
 Calls prog 292 #[σ a n cap,.func (.func c) la lb] w λe z=>dU (∃i,i<n/\p i) e/\γ w z ν:=by
 have A:=J (IQ a b o n cap c la lb w p j l m q (λ_ W=>γ w W ν) v x eg (aD _ _) t (λW h g B=>(u W h g B).mono (λ_ _ f=>⟨f.1,aq g f.2⟩)));obtain⟨R,d⟩:∃R:Prop,R=(∃i,i<n/\p i):=⟨_,rfl⟩
 rw[<-d];replace d:=J d;clear u t;go_enter func292,ntmps292;go_wp2_with fail;apply(Z A).mono;rintro e E(⟨k,C,rfl,hp,-,r⟩|⟨rfl,hp,r⟩)
 ·have hd:decide (0<=(k:Int))=ρ:=dT_;have s:Hid (dU R (ξ (β ρ))):=J (sV (by rw[Z d];exact⟨k,C,hp⟩));go_wp2;go_ret;exact⟨Z s,r⟩
 have s:Hid (dU R (ξ (β θ))):=J (mC (by rw[Z d];rintro⟨i,D,f⟩;exact hp i D f));replace hp:=J hp;go_wp2;go_ret;exact⟨Z s,r⟩
def IT(a:Option Addr)(b o n cap l:Nat)(la lb:Array υ)(w:ω)(p:Nat->Prop)(y z A B C D E:Nat->υ)(Inv:Nat->ω->Prop)(F:0<n->a=μ ⟨b,o,ν⟩)(G:n<=cap/\cap<=maxLen)
 (eg:∀args w,(callFunc l args).run prog w=.ok (.enter l args) w) (h0:Inv 0 w)
 (r:∀(W:ω)(h:Nat),Inv h W->h<n->κ W ⟨b,o+h*7,ν⟩=μ (y h)/\κ W ⟨b,o+h*7+1,ν⟩=μ (z h)/\κ W ⟨b,o+h*7+2,ν⟩=μ (A h)/\κ W ⟨b,o+h*7+3,ν⟩=μ (B h)/\κ W ⟨b,o+h*7+4,ν⟩=μ (C h)/\κ W ⟨b,o+h*7+5,ν⟩=μ (D h)/\κ W ⟨b,o+h*7+6,ν⟩=μ (E h))
 (s:∀(W:ω)(h:Nat),Inv h W->h<n->Calls prog l (la++ #[ε #[y h,z h,A h,B h,C h,D h,E h]]++lb) W (λe H=>dU (p h) e/\Inv (h+1) H)):
 Calls prog 213 #[σ a n cap,.func (.func l) la lb] w λe c=>(∃k:Nat,k<n/\e=ξ (ι δ k)/\p k/\(∀i,i<k->¬p i)/\Inv (k+1) c)\/(e=ξ (ι δ (-1))/\(∀i,i<n->¬p i)/\Inv n c):=by
 obtain⟨R,d⟩:∃R:Ending->ω->Prop,R=λe c=>(∃k:Nat,k<n/\e=ξ (ι δ k)/\p k/\(∀i,i<k->¬p i)/\Inv (k+1) c)\/(e=ξ (ι δ (-1))/\(∀i,i<n->¬p i)/\Inv n c):=⟨_,rfl⟩
 rw[<-d];obtain⟨P,I⟩:=G;unfold maxLen at I;replace⟨d,s,r,h0⟩:=fE d s r h0;go_enter func213,ntmps213;go_wp2;go_loopw [8] (λu wr=>∃j:Nat,j<=n/\u=ι δ j/\(∀i,i<j->¬p i)/\Inv j wr) (λu _=>n-(intOf u).toNat);case atStart=>exact⟨0,by omega,rfl,λi hi=>by omega,Z h0⟩
 case round=>
  obtain⟨j,Q,rfl,f,g⟩:=hrel;replace f:=J f;by_cases v:j<n
  ·have d1:decide ((j:Int)<n)=ρ:=dT_;obtain⟨S,T,U,V,X,Y,y6⟩:=Z r wr j g v;have hF:=J (Z s wr j g v);have K:=F (by omega);subst K;have i1:(j:Int)<n:=by omega
   replace g:=J g;clear F;go_wp2_with fail;apply(Z hF).mono;rintro e L⟨⟨t,rfl,m⟩,q⟩;replace q:=J q;cases t
   ·have M:Hid (¬p j):=J (λhp=>by cases m.2 hp);clear m;go_wp2;go_roundw;case rel=>
     refine⟨j+1,by omega,by simp,λi N=>?_,Z q⟩
     obtain h|rfl:=qC.1 N
     exact Z f i h;exact Z M
    case measure=>simp[intOf];omega
   have O:Hid (p j):=J (m.1 rfl);clear m;have x:Hid (R (ξ (ι δ j)) L):=J (by rw[Z d];exact φ ⟨j,v,rfl,Z O,Z f,Z q⟩);go_wp2_with fail;exact Z x
  have d1:decide ((j:Int)<n)=θ:=dF_;obtain rfl:j=n:=by omega
  have x:Hid (R (ξ (ι δ (-1))) wr):=J (by rw[Z d];exact ψ ⟨rfl,Z f,g⟩);go_wp2_with fail;exact Z x
def IU(a:Option Addr)(b o n cap c:Nat)(la lb:Array υ)(w:ω)(p:Nat->Prop)(j l m q r s t:Nat->υ)(z:0<n->a=μ ⟨b,o,ν⟩)(A:n<=cap/\cap<=maxLen)
 (eg:∀args w,(callFunc c args).run prog w=.ok (.enter c args) w)
 (x:∀(W:ω)(h:Nat),γ w W ν->h<n->κ W ⟨b,o+h*7,ν⟩=μ (j h)/\κ W ⟨b,o+h*7+1,ν⟩=μ (l h)/\κ W ⟨b,o+h*7+2,ν⟩=μ (m h)/\κ W ⟨b,o+h*7+3,ν⟩=μ (q h)/\κ W ⟨b,o+h*7+4,ν⟩=μ (r h)/\κ W ⟨b,o+h*7+5,ν⟩=μ (s h)/\κ W ⟨b,o+h*7+6,ν⟩=μ (t h))
 (y:∀(W:ω)(h:Nat),γ w W ν->h<n->Calls prog c (la++ #[ε #[j h,l h,m h,q h,r h,s h,t h]]++lb) W (λe B=>dU (p h) e/\γ W B ν)):
 Calls prog 162 #[σ a n cap,.func (.func c) la lb] w λe C=>dU (∃i,i<n/\p i) e/\γ w C ν:=by
 have D:=J (IT a b o n cap c la lb w p j l m q r s t (λ_ W=>γ w W ν) z A eg (aD _ _) x (λW h g E=>(y W h g E).mono (λ_ _ f=>⟨f.1,aq g f.2⟩)));obtain⟨R,d⟩:∃R:Prop,R=(∃i,i<n/\p i):=⟨_,rfl⟩
 rw[<-d];replace d:=J d;clear y x;go_enter func162,ntmps162;go_wp2_with fail;apply(Z D).mono;rintro e H(⟨k,F,rfl,hp,-,u⟩|⟨rfl,hp,u⟩)
 ·have hd:decide (0<=(k:Int))=ρ:=dT_;have v:Hid (dU R (ξ (β ρ))):=J (sV (by rw[Z d];exact⟨k,F,hp⟩));go_wp2;go_ret;exact⟨Z v,u⟩
 have v:Hid (dU R (ξ (β θ))):=J (mC (by rw[Z d];rintro⟨i,G,f⟩;exact hp i G f));replace hp:=J hp;go_wp2;go_ret;exact⟨Z v,u⟩
def IV(a:Option Addr)(b o n cap l:Nat)(la lb:Array υ)(w:ω)(p:Nat->Prop)(y z:Nat->υ)(Inv:Nat->ω->Prop)(A:0<n->a=μ ⟨b,o,ν⟩)(B:n<=cap/\cap<=maxLen)
 (eg:∀args w,(callFunc l args).run prog w=.ok (.enter l args) w) (h0:Inv 0 w)
 (r:∀(W:ω)(h:Nat),Inv h W->h<n->κ W ⟨b,o+h*2,ν⟩=μ (y h)/\κ W ⟨b,o+h*2+1,ν⟩=μ (z h))
 (s:∀(W:ω)(h:Nat),Inv h W->h<n->Calls prog l (la++ #[ε #[y h,z h]]++lb) W (λe C=>dU (p h) e/\Inv (h+1) C)):
 Calls prog 305 #[σ a n cap,.func (.func l) la lb] w λe c=>(∃k:Nat,k<n/\e=ξ (ι δ k)/\p k/\(∀i,i<k->¬p i)/\Inv (k+1) c)\/(e=ξ (ι δ (-1))/\(∀i,i<n->¬p i)/\Inv n c):=by
 obtain⟨R,d⟩:∃R:Ending->ω->Prop,R=λe c=>(∃k:Nat,k<n/\e=ξ (ι δ k)/\p k/\(∀i,i<k->¬p i)/\Inv (k+1) c)\/(e=ξ (ι δ (-1))/\(∀i,i<n->¬p i)/\Inv n c):=⟨_,rfl⟩
 rw[<-d];obtain⟨K,D⟩:=B;unfold maxLen at D;replace⟨d,s,r,h0⟩:=fE d s r h0;go_enter func305,ntmps305;go_wp2;go_loopw [8] (λu wr=>∃j:Nat,j<=n/\u=ι δ j/\(∀i,i<j->¬p i)/\Inv j wr) (λu _=>n-(intOf u).toNat);case atStart=>exact⟨0,by omega,rfl,λi hi=>by omega,Z h0⟩
 case round=>
  obtain⟨j,L,rfl,f,g⟩:=hrel;replace f:=J f;by_cases v:j<n
  ·have d1:decide ((j:Int)<n)=ρ:=dT_;obtain⟨M,N⟩:=Z r wr j g v;have hF:=J (Z s wr j g v);have E:=A (by omega);subst E;have O:(j:Int)<n:=by omega
   replace g:=J g;clear A;go_wp2_with fail;apply(Z hF).mono;rintro e F⟨⟨t,rfl,m⟩,q⟩;replace q:=J q;cases t
   ·have G:Hid (¬p j):=J (λhp=>by cases m.2 hp);clear m;go_wp2;go_roundw;case rel=>
     refine⟨j+1,by omega,by simp,λi H=>?_,Z q⟩
     obtain h|rfl:=qC.1 H
     exact Z f i h;exact Z G
    case measure=>simp[intOf];omega
   have I:Hid (p j):=J (m.1 rfl);clear m;have x:Hid (R (ξ (ι δ j)) F):=J (by rw[Z d];exact φ ⟨j,v,rfl,Z I,Z f,Z q⟩);go_wp2_with fail;exact Z x
  have d1:decide ((j:Int)<n)=θ:=dF_;obtain rfl:j=n:=by omega
  have x:Hid (R (ξ (ι δ (-1))) wr):=J (by rw[Z d];exact ψ ⟨rfl,Z f,g⟩);go_wp2_with fail;exact Z x
def IW(a:Option Addr)(b o n cap c:Nat)(la lb:Array υ)(w:ω)(p:Nat->Prop)(j l:Nat->υ)(t:0<n->a=μ ⟨b,o,ν⟩)(u:n<=cap/\cap<=maxLen)
 (eg:∀args w,(callFunc c args).run prog w=.ok (.enter c args) w)
 (r:∀(W:ω)(h:Nat),γ w W ν->h<n->κ W ⟨b,o+h*2,ν⟩=μ (j h)/\κ W ⟨b,o+h*2+1,ν⟩=μ (l h))
 (s:∀(W:ω)(h:Nat),γ w W ν->h<n->Calls prog c (la++ #[ε #[j h,l h]]++lb) W (λe v=>dU (p h) e/\γ W v ν)):
 Calls prog 300 #[σ a n cap,.func (.func c) la lb] w λe x=>dU (∃i,i<n/\p i) e/\γ w x ν:=by
 have y:=J (IV a b o n cap c la lb w p j l (λ_ W=>γ w W ν) t u eg (aD _ _) r (λW h g z=>(s W h g z).mono (λ_ _ f=>⟨f.1,aq g f.2⟩)));obtain⟨R,d⟩:∃R:Prop,R=(∃i,i<n/\p i):=⟨_,rfl⟩
 rw[<-d];replace d:=J d;clear s r;go_enter func300,ntmps300;go_wp2_with fail;apply(Z y).mono;rintro e C(⟨k,A,rfl,hp,-,m⟩|⟨rfl,hp,m⟩)
 ·have hd:decide (0<=(k:Int))=ρ:=dT_;have q:Hid (dU R (ξ (β ρ))):=J (sV (by rw[Z d];exact⟨k,A,hp⟩));go_wp2;go_ret;exact⟨Z q,m⟩
 have q:Hid (dU R (ξ (β θ))):=J (mC (by rw[Z d];rintro⟨i,B,f⟩;exact hp i B f));replace hp:=J hp;go_wp2;go_ret;exact⟨Z q,m⟩
def dP.nX(h:dP w n x V y K)(a:γ W w ν)(ho:bn w n x L)(b:W.heap.size<=n):γ W V ν:=
 cT a h.gb (λj e=>φ (bK b (ho.lt j e).1))
def qh(h:dP w k x W (σ a i j) L)(l:eB p)(m:k<=w.heap.size)(hl:L.length<=90000000:=by omega):
 Calls prog 266 #[σ a i j,ι η p] W λe f=>∃b c d,e=ξ (σ b c d)/\dP w k x f (σ b c d) (L++aS p)/\dP W k (σ a i j) f (σ b c d) (L++aS p):=by
 have e1:i=L.length:=h.own.iy.2.1;subst e1;apply(JN k a j L p W h.own l (bK m h.size) hl).mono;rintro e q⟨n,c2,rfl,g⟩;exact⟨n,_,c2,rfl,h.trans g,g⟩
def dP.box{wr:ω}(h:dP w n x W y K)(ho:bn wr n x L)(a:wr.heap.size<w.heap.size):W.heap[wr.heap.size]?=w.heap[wr.heap.size]? /\y.ownBlock≠μ wr.heap.size:=
 h.apart a (λe=>by have:=(ho.lt _ e).2;omega)
def xK(h:W.heap[n]?=w.heap[n]?)(i:Nat):κ W ⟨n,i,ν⟩=κ w ⟨n,i,ν⟩:=mn (w:=w) h
def tq(h0:0<=p-q)(a:p-q<18446744073709551616):IntKind.u64.wrap (p-q)=p-q:=by rw[fW];omega
def CK(E w:ω)(t:Nat)(a:Option Addr)(c:Nat)(l:List Int)(ra:Option Addr)(n cap:Nat)(rg:List Rg)(ho:bn w t (σ a l.length c) l)(F:γ E w ν)(M:E.heap.size<=t)(f:bq E ra n cap rg)(q:iT rg)(G:t<=w.heap.size)(hl:l.length+16*rg.length<=80000000):
 Calls prog 238 #[σ a l.length c,σ ra n cap] w λe r=>∃u z A,e=ξ (σ u z A)/\dP w t (σ a l.length c) r (σ u z A) (l++gJ rg):=by
 have d:n=rg.length:=f.2.1;have b5:=f.2.2.1;have b0:=f.2.2.2.1;unfold maxLen at b0;have H:=q.1;obtain⟨-,-,-,-,h0|⟨b,o,rfl,-⟩⟩:=id f;omega;have B:∀W,γ E W ν->κ W ⟨b,o,ν⟩=μ (ι η (ao rg 0).lo)/\κ W ⟨b,o+1,ν⟩=μ (ι η (ao rg 0).hi):=λW g=>by
  have:=(f.au g).cell 0 H;rwa[oH,px]at this
 have br:=pZ f.1 q 0 H;have b3:=(q.2 0 H).1;obtain⟨O,P⟩:=exq ((ao rg 0).lo);obtain⟨s,Q⟩:=exq ((ao rg 0).hi);have ax:my rg=aS s++aS ((n:Int)-1)++aS (s-O):=by rw[P,Q,d];rfl
 simp only[<-P,<-Q]at B br b3;obtain⟨⟨v1,v2⟩,v3,v4⟩:=br;have b6:=tq (p:=s) (q:=O) (by omega) (by omega);have i0:(0:Int)<n:=by omega
 have b7:0<n:=by omega
 have b8:l.length+16*n<=80000000:=by omega
 replace⟨hl,d,P,Q,ax,B,H⟩:=iU hl d P Q ax B H;have G0:=dP.refl ho;obtain⟨z1,z2⟩:=Z B w F;go_enter func238,ntmps238;go_wp2_with fail;apply(qh G0 ⟨v3,v4⟩ G).mono;rintro e w1⟨a1,n1,c1,rfl,G1,-⟩;clear z1 z2;have ca:IntKind.u64.wrap ((n:Int)-1)=(n:Int)-1:=tq (by omega) (by omega);go_wp2_with fail;refine(qh G1 ⟨by omega,by omega⟩ G (by have:=iI s;simp;omega)).mono ?_;rintro e w2⟨a2,n2,c2,rfl,R,-⟩;have bt:w2.drew.cell? ⟨b,o,ν⟩=μ (ι η O)/\w2.drew.cell? ⟨b,o+1,ν⟩=μ (ι η s):=Z B w2 (R.nX F ho M);replace⟨R,G0,G1⟩:=cz R G0 G1;go_wp2_with fail;go_region_held3 (λr=>κ r ⟨b,o,ν⟩=μ (ι η O)/\κ r ⟨b,o+1,ν⟩=μ (ι η s)) (with_reducible first|exact bx|exact bt)
  (first|(go_at_call 266;refine(qh ((Z R).still (aY (aD _ _))) ⟨by omega,by omega⟩ G (by have:=iI s;have:=iI ((n:Int)-1);simp;omega)).mono ?_;rintro e w3⟨S,T,c3,rfl,I,-⟩;have bx:=Z B w3 (I.nX F ho M);replace I:=J I))
 clear bt;have aC:Hid (dP w t (σ a l.length c) w3 (σ S T c3) (l++my rg)):=J (by rw[Z ax,<-fm,<-fm];exact Z I);clear I;by_cases b4:cap=1
 ·obtain rfl:n=1:=by omega
  subst b4;go_wp2;go_loopw [0,33] (λv i wr=>v=σ S T c3/\i=ι δ 0/\wr=w3) (λ_ _ _=>0);case atStart=>exact⟨rfl,rfl,rfl⟩
  case round=>
   obtain⟨rfl,rfl,rfl⟩:=hrel;go_wp2;go_ret;refine⟨S,T,c3,rfl,?_⟩
   have:gJ rg=my rg:=by unfold gJ;rw[<-Z d];simp[jM]
   rw[this];exact Z aC
 go_wp2_with fail;clear bx;obtain⟨N,U⟩:=exq (n-1);rw[<-U];go_loopw [0,33] (λv i wr=>∃(j:Nat)(u:Option Addr)(z A:Nat),j<=N/\i=ι δ j/\v=σ u z A/\dP w t (σ a l.length c) wr v (l++my rg++jM rg j)) (λ_ i _=>N-(intOf i).toNat);case atStart=>exact⟨0,S,T,c3,by omega,rfl,rfl,by simpa [jM]using Z aC⟩
 case round=>
  obtain⟨j,u,z,A,hj,rfl,rfl,C⟩:=hrel;have gj:=C.nX F ho M;by_cases ch:j<N
  ·obtain⟨p1,-⟩:=(f.au gj).cell j (by have:=Z d;omega);obtain⟨p2,p3⟩:=(f.au gj).cell (j+1) (by have:=Z d;omega);have eo:o+(j+1)*2=o+2+j*2:=by omega
   rw[eo]at p2 p3;clear eo;have f1:=pZ f.1 q j (by have:=Z d;omega);have f2:=pZ f.1 q (j+1) (by have:=Z d;omega);have f3:=q.2 (j+1) (by have:=Z d;omega);unfold nL at f3;rw[sK]at f3;replace f3:=f3.2.2 (by omega);have f4:=(q.2 (j+1) (by have:=Z d;omega)).1;have a0:jM rg (j+1)=jM rg j++(aS ((ao rg j).lo-(ao rg (j+1)).hi-2)++aS ((ao rg (j+1)).hi-(ao rg (j+1)).lo)):=rfl;have a3:=λW(g:γ E W ν)=>((f.au g).cell j (by have:=Z d;omega)).1
   generalize (ao rg j).lo=x at *;generalize (ao rg (j+1)).lo=V at *;generalize (ao rg (j+1)).hi=m at *;obtain⟨⟨f10,f11⟩,-⟩:=f1;obtain⟨⟨f20,f21⟩,f22,f23⟩:=f2;have cj:=tq (p:=x) (q:=m) (by omega) (by omega);have cp:=tq (p:=x-m) (q:=2) (by omega) (by omega);have cv:=tq (p:=m) (q:=V) (by omega) (by omega);have i1:(0:Int)<=j:=by omega
   have i2:(j:Int)<n:=by omega
   obtain⟨p,D⟩:=exq (wr.alloc (ο #[ι η V,ι η m] 200));have a4:p.heap.size=wr.heap.size+1:=by rw[D];simp
   have X:γ wr p ν:=by rw[D];exact aJ _ _ _
   have bb:p.heap[wr.heap.size]?=μ (ο #[ι η V,ι η m] 200 (0,0)):=by rw[D];exact aO _ _
   have K:∀W:ω,W.heap[wr.heap.size]?=p.heap[wr.heap.size]? ->κ W ⟨wr.heap.size,0,ν⟩=μ (ι η V)/\κ W ⟨wr.heap.size,1,ν⟩=μ (ι η m):=λW h=>by
    rw[xK h,xK h];simp[World.cell?,bb]
   have p4:p.drew.cell? ⟨b,o+j*2,ν⟩=μ (ι η x):=gC_ X p1;have bz:p.drew.cell? ⟨b,o+j*2,ν⟩=μ (ι η x)/\p.drew.cell? ⟨wr.heap.size,1,ν⟩=μ (ι η m):=⟨p4,(K p.drew rfl).2⟩
   clear p4;have bj:=C.own;have Y:∀k,k<=N->(l++my rg++jM rg k).length<=85000000:=λk hk=>by
    have q1:=y9 rg k;have q2:(my rg).length<=24:=by
     have a7:=iI (ao rg 0).hi;have a8:=iI ((rg.length:Int)-1);have a9:=iI ((ao rg 0).hi-(ao rg 0).lo);simp only[my,bF];omega
    simp only[bF];omega
   replace⟨C,bj,K,bb,a0,a3,Y,U,X⟩:=qU C bj K bb a0 a3 Y U X;replace a4:=J a4;clear aC;go_wp2_with fail;rw[<-D];replace D:=J D;go_region_held3 (λr=>κ r ⟨b,o+j*2,ν⟩=μ (ι η x)/\κ r ⟨wr.heap.size,1,ν⟩=μ (ι η m)) (with_reducible first|exact bM|exact bz)
    (first|(go_at_call 266;refine(qh ((Z C).still (aY (Z X))) ⟨by omega,by omega⟩ G (by have:=Z Y j (by omega);omega)).mono ?_;rintro e L⟨a5,n5,c5,rfl,G5,L5⟩;have al:=L5.box (Z bj) (by have:=Z a4;show _<p.heap.size;omega);have bM:κ L ⟨b,o+j*2,ν⟩=μ (ι η x)/\κ L ⟨wr.heap.size,1,ν⟩=μ (ι η m):=⟨Z a3 L (G5.nX F ho M),(Z K L al.1).2⟩;replace al:=J al;replace L5:=J L5;replace G5:=J G5))
   obtain⟨-,y2⟩:=bM;have y1:=(Z K L (Z al).1).1;clear bz p1 p2 p3;go_wp2_with fail;refine(qh (Z G5) ⟨by omega,by omega⟩ G (by have:=Z Y j (by omega);have:=iI (x-m-2);rw[bF];omega)).mono ?_;rintro e w6⟨a6,n6,c6,rfl,G6,-⟩;go_wp2;go_roundw;case rel=>
    refine⟨j+1,a6,n6,c6,by omega,by simp,rfl,?_⟩
    rw[Z a0,<-fm,<-fm];exact G6
   case measure=>simp[intOf];omega
  obtain rfl:j=N:=by omega
  go_wp2;go_ret;refine⟨u,z,A,rfl,?_⟩
  unfold gJ;rw[<-fm,<-Z d,<-U];exact C
def Wr(d:ω)(f:Fr)(j wv:υ)(k:List Int):Prop:=
 ∃F cap,wv=.func (.func F) #[] cap/\(∀args w,(callFunc F args).run prog w=.ok (.enter F args) w)/\∀(w:ω)(b:Nat)(a:Option Addr)(n c:Nat)(m:List Int),γ d w ν->d.heap.size<=b->b<=w.heap.size->bn w b (σ a n c) m->m.length+16*f.ranges.length+f.data.size<=79000000->
  Calls prog F (#[σ a n c,ε (bU f j)]++cap) w λe l=>∃g h i,e=ξ (σ g h i)/\dP w b (σ a n c) l (σ g h i) (m++k)
def JS(args:Array υ)(w:ω):(callFunc 272 args).run prog w=.ok (.enter 272 args) w:=by kernel_rfl
def CL(args:Array υ)(w:ω):(callFunc 275 args).run prog w=.ok (.enter 275 args) w:=by kernel_rfl
def JT(args:Array υ)(w:ω):(callFunc 269 args).run prog w=.ok (.enter 269 args) w:=by kernel_rfl
def JU(args:Array υ)(w:ω):(callFunc 265 args).run prog w=.ok (.enter 265 args) w:=by kernel_rfl
def CM(X:Nat)(w:ω):Calls prog 230 #[π (μ ⟨X,0,ν⟩)] w λe a=>e=ξ (π (μ ⟨X,2,ν⟩))/\a=w:=by
 go_enter func230,ntmps230;go_wp2;go_ret;exact⟨rfl,rfl⟩
def CN(X:Nat)(w:ω):Calls prog 231 #[π (μ ⟨X,0,ν⟩)] w λe a=>e=ξ (π (μ ⟨X,3,ν⟩))/\a=w:=by
 go_enter func231,ntmps231;go_wp2;go_ret;exact⟨rfl,rfl⟩
def zS(b:ω)(f:Fr)(g:υ)(B:Nat)(h:κ b ⟨B,0,ν⟩=μ (.func (.func 230) #[] #[]))(i:eB f.offset):
 Wr b f g (.func (.func 275) #[] #[π (μ ⟨B,0,ν⟩)]) (aS f.offset):=by
 refine⟨_,_,rfl,CL,λw r a n c m j t l ho hl=>?_⟩
 obtain⟨k,s,o,cd,fin,d,rg⟩:=f;have u:(w.alloc (ο #[ι δ k,ι δ s,ι η o,ι η cd,β fin,ς d,g] 158)).cell? ⟨B,0,ν⟩=μ (.func (.func 230) #[] #[]):=(aJ w _ ν).cell (gC_ j h) (by simp);have G:=λob=>(dP.refl ho).still (aJ w ob ν)
 simp only[bU]at *;replace G:=J G;clear h;go_enter func275,ntmps275;go_wp2_with fail;apply(CM _ _).mono;rintro e v⟨rfl,rfl⟩;go_wp2_with fail;apply(qh (Z G _) i l).mono;rintro e x⟨p,n2,c2,rfl,q,-⟩;go_wp2;go_ret;exact⟨p,n2,c2,rfl,q⟩
def CO(b:ω)(f:Fr)(g:υ)(B:Nat)(h:κ b ⟨B,0,ν⟩=μ (.func (.func 231) #[] #[]))(i:eB f.code):
 Wr b f g (.func (.func 275) #[] #[π (μ ⟨B,0,ν⟩)]) (aS f.code):=by
 refine⟨_,_,rfl,CL,λw r a n c m j t l ho hl=>?_⟩
 obtain⟨k,s,o,cd,fin,d,rg⟩:=f;have u:(w.alloc (ο #[ι δ k,ι δ s,ι η o,ι η cd,β fin,ς d,g] 158)).cell? ⟨B,0,ν⟩=μ (.func (.func 231) #[] #[]):=(aJ w _ ν).cell (gC_ j h) (by simp);have G:=λob=>(dP.refl ho).still (aJ w ob ν)
 simp only[bU]at *;replace G:=J G;clear h;go_enter func275,ntmps275;go_wp2_with fail;apply(CN _ _).mono;rintro e v⟨rfl,rfl⟩;go_wp2_with fail;apply(qh (Z G _) i l).mono;rintro e x⟨p,n2,c2,rfl,q,-⟩;go_wp2;go_ret;exact⟨p,n2,c2,rfl,q⟩
def zT(b:ω)(f:Fr)(g:υ)(l:0<=f.stream)(p:f.stream<4):
 Wr b f g (.func (.func 265) #[] #[]) (aS f.stream):=by
 refine⟨_,_,rfl,JU,λw q a n c m r t h ho hl=>?_⟩
 obtain⟨k,s,o,cd,fin,d,rg⟩:=f;have G:=λob=>(dP.refl ho).still (aJ w ob ν)
 simp only[bU]at *;replace G:=J G;have u:IntKind.u64.wrap s=s:=by rw[fW];omega
 go_enter func265,ntmps265;go_wp2_with fail;apply(qh (Z G _) ⟨by omega,by omega⟩ h).mono;rintro e v⟨i,n2,c2,rfl,j,-⟩;go_wp2;go_ret;exact⟨i,n2,c2,rfl,j⟩
def JV(b:ω)(f:Fr)(g:υ)(h:dL b f g)(i:iT f.ranges):
 Wr b f g (.func (.func 269) #[] #[]) (gJ f.ranges):=by
 obtain⟨-,-,ra,cap,rfl,j⟩:=h;refine⟨_,_,rfl,JT,λw l a n c m p q x ho hl=>?_⟩
 obtain⟨k,s,o,cd,fin,d,rg⟩:=f;have r:n=m.length:=ho.iy.2.1;subst r;have y:m.length+16*rg.length+d.size<=79000000:=hl;have t:=J (λob=>CK b (w.alloc ob) l a c m ra rg.length cap rg (ho.au (aJ w ob ν)) (bk p ob) q j i (by simp;omega) (by omega));have G:=J (λob=>(dP.refl ho).still (aJ w ob ν));simp only[bU]at *;go_enter func269,ntmps269;go_wp2_with fail;apply(Z t _).mono;rintro e z⟨u,n2,c2,rfl,v⟩;go_wp2;go_ret;exact⟨u,n2,c2,rfl,(Z G _).trans v⟩
def CP(y:ω)(f:Fr)(p:υ):
 Wr y f p (.func (.func 272) #[] #[]) (aS f.data.size++aI f.data):=by
 refine⟨_,_,rfl,JS,λw z a n c m L M x ho hl=>?_⟩
 obtain⟨k,s,o,cd,fin,d,rg⟩:=f;have G:=λob=>(dP.refl ho).still (aJ w ob ν)
 simp only[bU]at *;have N:IntKind.u64.wrap (d.size:Int)=(d.size:Int):=by rw[fW];omega
 obtain⟨b,g⟩:=exq (w.alloc (ο #[ι δ k,ι δ s,ι η o,ι η cd,β fin,ς d,p] 158));have u:b.heap[w.heap.size]?=μ (ο #[ι δ k,ι δ s,ι η o,ι η cd,β fin,ς d,p] 158 (0,0)):=by rw[g];exact aO _ _
 have q:b.heap.size=w.heap.size+1:=by rw[g];simp
 have i:∀W:ω,W.heap[w.heap.size]?=b.heap[w.heap.size]? ->κ W ⟨w.heap.size,5,ν⟩=μ (ς d):=λW h=>by
  rw[xK h];simp[World.cell?,u]
 have A:b.drew.cell? ⟨w.heap.size,5,ν⟩=μ (ς d):=i b.drew rfl;have O:=iI (d.size:Int);replace G:=G (ο #[ι δ k,ι δ s,ι η o,ι η cd,β fin,ς d,p] 158);rw[<-g]at G;replace⟨G,i,u,q,ho⟩:=fF G i u q ho;go_enter func272,ntmps272;go_wp2_with fail;rw[<-g];replace g:=J g;go_region_held3 (λB=>κ B ⟨w.heap.size,5,ν⟩=μ (ς d)) (with_reducible first|exact C|exact D|exact A)
  (first
    |(go_at_call 266;apply(qh ((Z G).still (aY (aD _ _))) ⟨by omega,by omega⟩ x).mono;rintro e E⟨P,n2,c2,rfl,j,r⟩;have l:=r.box (Z ho) (by have:=Z q;show _<b.heap.size;omega);have D:=Z i E l.1;replace l:=J l;replace r:=J r;replace j:=J j)
    |(refine JR (by rfl) _ _ (by rfl) z _ (m++aS (d.size:Int)) (by rfl) (Z j).own d (by rfl) (by rw[bF];omega) (bK x (Z j).size) ?_;intro F H c3 I v t K;have C:=Z i I ((t.block w.heap.size (by have:=(Z r).size;have:=Z q;have:b.drew.heap.size=b.heap.size:=rfl;omega) (λe=>(Z l).2 e.symm)).trans (Z l).1);replace t:=J t;replace v:=J v))
 go_wp2;go_ret;exact⟨F,H,c3,rfl,by rw[<-fm];exact(Z j).app (aD _ _) (Z v) (Z t) K⟩
def iC:List (List Int)->List Int
 |[]=>[]
 |x::r=>x++iC r
def CQ(l r:List (List Int)):iC (l++r)=iC l++iC r:=by
 induction l with
 |nil=>rfl
 |cons x l a=>simp[iC,a]
def JW(l:List (List Int))(j:Nat)(h:j<l.length):iC (l.take (j+1))=iC (l.take j)++l.getD j []:=by
 rw[sH h,CQ,List.getD,dT h];simp[iC]
def JX(l:List (List Int))(j:Nat):(iC (l.take j)).length<=(iC l).length:=by
 have h:=fD List.length (fD iC (pR j l));rw[CQ,bF]at h;omega
def CR(b:ω)(f:Fr)(d e:υ)(a:List (List Int)):Prop:=
 ∃pa c,e=σ pa a.length c/\a.length<=3/\a.length<=c/\(a=[]\/∃P,pa=μ ⟨P,0,ν⟩/\∀i,i<a.length->∃wv R g,κ b ⟨P,i*2,ν⟩=μ wv/\κ b ⟨P,i*2+1,ν⟩=μ (.func (.func R) #[] g)/\Wr b f d wv (a.getD i []))
def JY{o1 a d:Obj}(b:(((w.alloc o1).alloc a).alloc d).grownBy W N)(c:∀j,N=μ j->j<w.heap.size):W.heap[w.heap.size]?=μ o1/\W.heap[w.heap.size+1]?=μ a:=by
 constructor;rw[b.block w.heap.size (by simp;omega) (λe=>by have:=c _ e.symm;omega),fS _ _ _ (by simp;omega),fS _ _ _ (by simp)];exact aO _ _;rw[b.block (w.heap.size+1) (by simp) (λe=>by have:=c _ e.symm;omega),fS _ _ _ (by simp),<-eh w o1];exact aO _ _
def JZ(M:ω)(f:Fr)(u W:υ)(g:List (List Int))(O:Int)(Q:Bool)(t:Int)(ht:W8 t)(hp:CR M f u W g)
 (w:ω) (p:Nat) (a:Option Addr) (n c:Nat) (m:List Int) (g0:γ M w ν) (X:M.heap.size<=p) (bz:p<=w.heap.size) (ho:bn w p (σ a n c) m) (hl:m.length+1+(iC g).length+16*f.ranges.length+f.data.size<=79000000):
 Calls prog 193 #[ε #[ι δ O,β Q,ι Δ t,W],σ a n c,ε (bU f u)] w λe w'=>∃x y z,e=ξ (σ x y z)/\dP w p (σ a n c) w' (σ x y z) (m++(t::iC g)):=by
 obtain⟨pa,S,rfl,a8,a9,K⟩:=hp;obtain⟨k,s,o,cd,fin,d,rg⟩:=f;have bM:m.length+1+(iC g).length+16*rg.length+d.size<=79000000:=hl;have hn:n=m.length:=ho.iy.2.1;subst hn;simp only[bU]at *;have gW:γ w ((w.alloc (ο #[ι δ O,β Q,ι Δ t,σ pa g.length S] 317)).alloc (ο #[ι δ k,ι δ s,ι η o,ι η cd,β fin,ς d,u] 158)) ν:=bk (bk (aD _ _) _) _;have A:=wO ((w.alloc (ο #[ι δ O,β Q,ι Δ t,σ pa g.length S] 317)).alloc (ο #[ι δ k,ι δ s,ι η o,ι η cd,β fin,ς d,u] 158)) t ht;have C:=((dP.refl ho).still gW).still (aJ _ (ο #[ι Δ t] 5) ν);rw[eh,eh]at A;have o1:=J C.own;replace⟨C,A⟩:=bD C A;have Y:=J (λj(e:(Value.slice a m.length c).ownBlock=μ j)=>(ho.lt j e).2);go_enter func193,ntmps193;go_wp2_with (at_builtin;refine sS (by rfl) _ _ (by rfl) p _ m (by rfl) (Z o1) _ _ _ [t] (by rfl) (Z A) ?_ ?_ ?_;(simp;omega);(simp;omega);intro D c3 w3 L E G;obtain⟨T,U⟩:=JY E (Z Y);replace T:κ w3 ⟨w.heap.size,3,ν⟩=μ (σ pa g.length S):=(by simp[World.cell?,T]);replace L:=J L;replace E:=J E;replace G:=J G;replace U:=J U);clear T A o1;have br:Hid (dP w p (σ a m.length c) w3 (σ D (m.length+1) c3) (m++[t])):=J ((Z C).app (aD _ _) (Z L) (Z E) (Z G));have bt:Hid ((Value.slice D (m.length+1) c3).ownBlock≠μ (w.heap.size+1)):=J (by
  have g5:(Value.slice D (m.length+1) c3).ownBlock=(Value.slice a m.length c).ownBlock\/(Value.slice D (m.length+1) c3).ownBlock=μ (((w.alloc _).alloc _).alloc _).heap.size:=Z G;obtain e|e:=g5
  rw[e];exact λh=>by have:=Z Y _ h;omega
  ·rw[e];simp;omega)
 clear L E G C;obtain⟨N,q⟩:=exq g.length;rw[<-q];rw[<-q]at a8 a9;replace q:=J q;go_loopw [1,17] (λv i wr=>∃(j:Nat)(x:Option Addr)(y z:Nat),j<=N/\i=ι δ j/\v=σ x y z/\dP w p (σ a m.length c) wr v (m++t::iC (g.take j))/\v.ownBlock≠μ (w.heap.size+1)/\wr.heap[w.heap.size+1]?=μ (ο #[ι δ k,ι δ s,ι η o,ι η cd,β fin,ς d,u] 158 (0,0))) (λ_ i _=>N-(intOf i).toNat);case atStart=>exact⟨0,D,_,c3,by omega,rfl,rfl,by simpa [iC]using Z br,Z bt,Z U⟩
 case round=>
  obtain⟨j,x,y,z,hj,rfl,rfl,r,V,H⟩:=hrel;by_cases b3:j<N
  ·obtain rfl|⟨P,rfl,K⟩:=K
   have:=Z q;simp at this;omega;obtain⟨wv,R,l,q1,q2,F,cap,rfl,hE,hF⟩:=K j (by have:=Z q;omega);have I:=r.nX g0 ho X;replace q1:=gC_ I q1;replace q2:=gC_ I q2;have b:∀ob,(wr.alloc ob).heap[w.heap.size+1]?=μ (ο #[ι δ k,ι δ s,ι η o,ι η cd,β fin,ς d,u] 158 (0,0)):=λob=>by
    rw[fS _ _ _ (bg.1 H).1];exact H
   replace b:=b (ο #[.func (.func F) #[] cap,.func (.func R) #[] l] 356);have r0:(wr.alloc (ο #[.func (.func F) #[] cap,.func (.func R) #[] l] 356)).cell? ⟨w.heap.size+1,0,ν⟩=μ (ι δ k):=by simp only[World.cell?,b];rfl
   have r1:(wr.alloc (ο #[.func (.func F) #[] cap,.func (.func R) #[] l] 356)).cell? ⟨w.heap.size+1,1,ν⟩=μ (ι δ s):=by simp only[World.cell?,b];rfl
   have r2:(wr.alloc (ο #[.func (.func F) #[] cap,.func (.func R) #[] l] 356)).cell? ⟨w.heap.size+1,2,ν⟩=μ (ι η o):=by simp only[World.cell?,b];rfl
   have r3:(wr.alloc (ο #[.func (.func F) #[] cap,.func (.func R) #[] l] 356)).cell? ⟨w.heap.size+1,3,ν⟩=μ (ι η cd):=by simp only[World.cell?,b];rfl
   have r4:(wr.alloc (ο #[.func (.func F) #[] cap,.func (.func R) #[] l] 356)).cell? ⟨w.heap.size+1,4,ν⟩=μ (β fin):=by simp only[World.cell?,b];rfl
   have r5:(wr.alloc (ο #[.func (.func F) #[] cap,.func (.func R) #[] l] 356)).cell? ⟨w.heap.size+1,5,ν⟩=μ (ς d):=by simp only[World.cell?,b];rfl
   have r6:(wr.alloc (ο #[.func (.func F) #[] cap,.func (.func R) #[] l] 356)).cell? ⟨w.heap.size+1,6,ν⟩=μ u:=by simp only[World.cell?,b];rfl
   have i1:(0:Int)<=j:=by omega
   have i2:(j:Int)<N:=by omega
   replace⟨H,b,hF,r,I,V⟩:=pH H b hF r I V;clear K;go_wp2_with fail;refine(Z hF (wr.alloc (ο #[.func (.func F) #[] cap,.func (.func R) #[] l] 356)) p x y z _ (bk (Z I) _) X ?_ ((Z r).still (aJ _ _ _)).own ?_).mono ?_;have:=(Z r).size;simp;omega;have:=JX g j;simp only[bF,cS];omega;rintro e w5⟨a5,n5,c5,rfl,G5⟩;have a1:=G5.apart (B:=w.heap.size+1) (by have:=(bg.1 (Z H)).1;simp;omega) (Z V);go_wp2;go_roundw;case rel=>
    refine⟨j+1,a5,n5,c5,by omega,by simp,rfl,?_,a1.2,a1.1.trans (Z b)⟩
    rw[JW g j (by have:=Z q;omega)];have:=((Z r).still (aJ _ _ _)).trans G5;simpa [fm]using this
   case measure=>simp[intOf];omega
  obtain rfl:j=N:=by omega
  go_wp2;go_ret;refine⟨x,y,z,rfl,?_⟩
  rw[jx (by rw[<-Z q];exact aP _)]at r;exact r
def sW:υ:=.func (.func 265) #[] #[]
def sR:υ:=.func (.func 267) #[] #[]
def rW:υ:=.func (.func 269) #[] #[]
def rR:υ:=.func (.func 270) #[] #[]
def bW:υ:=.func (.func 272) #[] #[]
def bR:υ:=.func (.func 273) #[] #[]
def nW(B:Nat):υ:=.func (.func 275) #[] #[π (μ ⟨B,0,ν⟩)]
def nR(B:Nat):υ:=.func (.func 276) #[] #[π (μ ⟨B,0,ν⟩)]
def tr(a:Fn)(first cap:Array υ)(w:ω):(Instr.makeFunc a first cap).run prog w=.ok (.func a first cap) w:=rfl
def J0(w:ω):Calls prog 226 #[] w λe a=>e=ξ (ε #[.func (.func 265) #[] #[],.func (.func 267) #[] #[]])/\γ w a ν:=by
 have b:=tr;go_enter func226,ntmps226;go_wp2_with fail;refine df (v:=ε #[.func (.func 265) #[] #[],.func (.func 267) #[] #[]]) ?_ rfl ⟨rfl,?_⟩
 ·simp[results,results226,go_sem]
 exact aJ _ _ _
def J1(w:ω):Calls prog 227 #[] w λe a=>e=ξ (ε #[.func (.func 269) #[] #[],.func (.func 270) #[] #[]])/\γ w a ν:=by
 have b:=tr;go_enter func227,ntmps227;go_wp2_with fail;refine df (v:=ε #[.func (.func 269) #[] #[],.func (.func 270) #[] #[]]) ?_ rfl ⟨rfl,?_⟩
 ·simp[results,results227,go_sem]
 exact aJ _ _ _
def J2(w:ω):Calls prog 228 #[] w λe a=>e=ξ (ε #[.func (.func 272) #[] #[],.func (.func 273) #[] #[]])/\γ w a ν:=by
 have b:=tr;go_enter func228,ntmps228;go_wp2_with fail;refine df (v:=ε #[.func (.func 272) #[] #[],.func (.func 273) #[] #[]]) ?_ rfl ⟨rfl,?_⟩
 ·simp[results,results228,go_sem]
 exact aJ _ _ _
def CS(F B:Nat)(w:ω)(b:B=w.heap.size):Calls prog 229 #[.func (.func F) #[] #[]] w λe a=>e=ξ (ε #[.func (.func 275) #[] #[π (μ ⟨B,0,ν⟩)],.func (.func 276) #[] #[π (μ ⟨B,0,ν⟩)]])/\κ a ⟨B,0,ν⟩=μ (.func (.func F) #[] #[])/\γ w a ν:=by
 subst b;have c:=tr;go_enter func229,ntmps229;go_wp2_with fail;refine df (v:=ε #[.func (.func 275) #[] #[π (μ ⟨w.heap.size,0,ν⟩)],.func (.func 276) #[] #[π (μ ⟨w.heap.size,0,ν⟩)]]) ?_ rfl ⟨rfl,?_,?_⟩
 ·simp[results,results229,go_sem]
 simp;exact bk (aJ _ _ _) _
def CT(a b c d e:Nat):List υ:=
 [ι δ 1,β θ,ι Δ 0,σ ν 0 0,ι δ 2,β θ,ι Δ 1,σ ν 0 0,ι δ 3,β θ,ι Δ 2,σ (μ ⟨a,0,ν⟩) 1 1,ι δ 4,β θ,ι Δ 4,σ (μ ⟨b,0,ν⟩) 3 3,ι δ 5,β θ,ι Δ 8,σ (μ ⟨c,0,ν⟩) 3 3,ι δ 5,β ρ,ι Δ 9,σ (μ ⟨d,0,ν⟩) 3 3,ι δ 6,β θ,ι Δ 28,σ (μ ⟨e,0,ν⟩) 1 1]
structure jR(W:ω)(T c d e f g a b:Nat):Prop where
 tab:W.rangeAt T 0 (CT c d e f g)
 p2:W.rangeAt c 0 [rW,rR]
 p3:W.rangeAt d 0 [sW,sR,nW b,nR b,nW a,nR a]
 p4:W.rangeAt e 0 [sW,sR,nW a,nR a,bW,bR]
 p5:W.rangeAt f 0 [sW,sR,nW a,nR a,bW,bR]
 p6:W.rangeAt g 0 [nW b,nR b]
 bo:κ W ⟨a,0,ν⟩=μ (.func (.func 230) #[] #[])
 bc:κ W ⟨b,0,ν⟩=μ (.func (.func 231) #[] #[])
def jR.au(h:jR w n k i j l m o b)(g:γ w W ν):jR W n k i j l m o b:=
 ⟨jn h.tab g (by simp),jn h.p2 g (by simp),jn h.p3 g (by simp),jn h.p4 g (by simp),jn h.p5 g (by simp),jn h.p6 g (by simp),gC_ g h.bo,gC_ g h.bc⟩
def J3(w:ω)(o0 o1 a b c d e:Obj)(W:ω)(h:W=((((((w.alloc o0).alloc o1).alloc a).alloc b).alloc c).alloc d).alloc e):
 W.heap[w.heap.size+1]?=μ o1/\W.heap[w.heap.size+1+1]?=μ a/\W.heap[w.heap.size+1+1+1]?=μ b/\W.heap[w.heap.size+1+1+1+1]?=μ c/\W.heap[w.heap.size+1+1+1+1+1]?=μ d/\W.heap[w.heap.size+1+1+1+1+1+1]?=μ e/\γ w W ν:=by
 subst h;refine⟨?_,?_,?_,?_,?_,?_,bk (bk (bk (bk (bk (bk (aJ _ _ _) _) _) _) _) _) _⟩
 all_goals
  simp only[World.alloc,Array.getElem?_push,Array.size_push]
  repeat(first|rw[aG trivial]|rw[iP_]|rw[iN_])
def CU(w:ω):Calls prog 189 #[] w λe u=>∃T C E F G H I K,e=ξ (σ (μ ⟨T,0,ν⟩) 7 7)/\jR u T C E F G H I K/\γ w u ν:=by
 go_enter func189,ntmps189;go_wp2_with fail;apply(J0 _).mono;rintro e w1⟨rfl,v⟩;go_wp2_with fail;apply(J1 _).mono;rintro e w2⟨rfl,x⟩;go_wp2_with fail;apply(J2 _).mono;rintro e l⟨rfl,y⟩;go_wp2_with fail;obtain⟨A,i⟩:=exq l.heap.size;obtain⟨b,c⟩:=exq ((((l.alloc (ο #[.func (.func 265) #[] #[],.func (.func 267) #[] #[]] 356)).alloc (ο #[.func (.func 269) #[] #[],.func (.func 270) #[] #[]] 356)).alloc (ο #[.func (.func 272) #[] #[],.func (.func 273) #[] #[]] 356)));have m:b.heap[A]?=μ (ο #[.func (.func 265) #[] #[],.func (.func 267) #[] #[]] 356 (0,0))/\b.heap[A+1]?=μ (ο #[.func (.func 269) #[] #[],.func (.func 270) #[] #[]] 356 (0,0))/\b.heap[A+1+1]?=μ (ο #[.func (.func 272) #[] #[],.func (.func 273) #[] #[]] 356 (0,0)):=by
  rw[c,i];refine⟨?_,?_,?_⟩
  rw[fS _ _ _ (by simp;omega),fS _ _ _ (by simp)];exact aO _ _;rw[fS _ _ _ (by simp),<-eh l (ο #[.func (.func 265) #[] #[],.func (.func 267) #[] #[]] 356)];exact aO _ _;have:=aO ((l.alloc (ο #[.func (.func 265) #[] #[],.func (.func 267) #[] #[]] 356)).alloc (ο #[.func (.func 269) #[] #[],.func (.func 270) #[] #[]] 356)) (ο #[.func (.func 272) #[] #[],.func (.func 273) #[] #[]] 356);rwa[eh,eh]at this
 have L:b.heap.size=A+3:=by rw[c,i];simp
 have z:γ w b ν:=by rw[c];exact bk (bk (bk (aq (aq v x) y) _) _) _
 rw[<-c];simp only[<-i]
 replace⟨c,i,m⟩:=cz c i m;clear v x y;apply(CS 230 (A+3) b L.symm).mono;rintro e d⟨rfl,c4,n⟩;have a3:=n.size;replace c4:=J c4;go_wp2_with fail;obtain⟨p,f⟩:=exq (d.alloc (ο #[.func (.func 275) #[] #[π (μ ⟨A+3,0,ν⟩)],.func (.func 276) #[] #[π (μ ⟨A+3,0,ν⟩)]] 356));have r:p.heap[d.heap.size]?=μ (ο #[.func (.func 275) #[] #[π (μ ⟨A+3,0,ν⟩)],.func (.func 276) #[] #[π (μ ⟨A+3,0,ν⟩)]] 356 (0,0)):=by rw[f];exact aO _ _
 have s:γ d p ν:=by rw[f];exact aJ _ _ _
 have M:p.heap.size=d.heap.size+1:=by rw[f];simp
 rw[<-f];replace⟨f,r⟩:=bD f r;apply(CS 231 (d.heap.size+1) p M.symm).mono;rintro e a⟨rfl,c5,h⟩;have a4:=h.size;replace c5:=J c5;obtain⟨D,N⟩:=exq d.heap.size;simp only[<-N]at *;have j:Hid (∀W,γ a W ν->W.heap[A]?=μ (ο #[.func (.func 265) #[] #[],.func (.func 267) #[] #[]] 356 (0,0))/\W.heap[A+1]?=μ (ο #[.func (.func 269) #[] #[],.func (.func 270) #[] #[]] 356 (0,0))/\W.heap[A+1+1]?=μ (ο #[.func (.func 272) #[] #[],.func (.func 273) #[] #[]] 356 (0,0))/\W.heap[D]?=μ (ο #[.func (.func 275) #[] #[π (μ ⟨A+3,0,ν⟩)],.func (.func 276) #[] #[π (μ ⟨A+3,0,ν⟩)]] 356 (0,0))/\κ W ⟨A+3,0,ν⟩=μ (.func (.func 230) #[] #[])/\κ W ⟨D+1,0,ν⟩=μ (.func (.func 231) #[] #[])):=J (λW g=>by
  have q:=aq (aq (aq n s) h) g;have O:=aq h g;obtain⟨P,Q,R⟩:=Z m;exact⟨(q.block A (by omega) (by simp)).trans P,(q.block (A+1) (by omega) (by simp)).trans Q,(q.block (A+1+1) (by omega) (by simp)).trans R,(O.block D (by omega) (by simp)).trans (Z r),(aq (aq s h) g).cell (Z c4) (by simp),gC_ g (Z c5)⟩)
 have t:γ w a ν:=aq (aq (aq z n) s) h;clear m r c4 c5 n s h z;replace t:=J t;have S:Hid (∀W,(a.alloc (ο #[.func (.func 275) #[] #[π (μ ⟨D+1,0,ν⟩)],.func (.func 276) #[] #[π (μ ⟨D+1,0,ν⟩)]] 356)).grownBy W ν->W.heap[a.heap.size]?=μ (ο #[.func (.func 275) #[] #[π (μ ⟨D+1,0,ν⟩)],.func (.func 276) #[] #[π (μ ⟨D+1,0,ν⟩)]] 356 (0,0))):=J (λW g=>(g.block a.heap.size (by simp) (by simp)).trans (aO _ _));have k:Hid ((prog.info? 356).map (·.size)=μ 2):=J (by kernel_rfl);go_wp2_with (first
  |(refine pU (by rfl) 356 _ (by rfl) A (by rfl) 356 _ (0,0) _ ((Z j _ ?_).1) underlying356 (by rfl) (Z k) ?_;(repeat(first|exact aD _ _|refine bk ?_ _)))
  |(refine pU (by rfl) 356 _ (by rfl) (A+1) (by rfl) 356 _ (0,0) _ ((Z j _ ?_).2.1) underlying356 (by rfl) (Z k) ?_;(repeat(first|exact aD _ _|refine bk ?_ _)))
  |(refine pU (by rfl) 356 _ (by rfl) (A+1+1) (by rfl) 356 _ (0,0) _ ((Z j _ ?_).2.2.1) underlying356 (by rfl) (Z k) ?_;(repeat(first|exact aD _ _|refine bk ?_ _)))
  |(refine pU (by rfl) 356 _ (by rfl) D (by rfl) 356 _ (0,0) _ ((Z j _ ?_).2.2.2.1) underlying356 (by rfl) (Z k) ?_;(repeat(first|exact aD _ _|refine bk ?_ _)))
  |(refine pU (by rfl) 356 _ (by rfl) a.heap.size (by rfl) 356 _ (0,0) _ (Z S _ ?_) underlying356 (by rfl) (Z k) ?_;(repeat(first|exact aD _ _|refine bk ?_ _))))
 go_ret;obtain⟨U,V,X,Y,h5,h6,B⟩:=J3 a _ _ _ _ _ _ _ _ rfl;obtain⟨-,-,-,-,aC,a0⟩:=Z j _ B;exact⟨_,a.heap.size+1,a.heap.size+1+1,a.heap.size+1+1+1,a.heap.size+1+1+1+1,a.heap.size+1+1+1+1+1,A+3,D+1,rfl,⟨kN h6,kN U,kN V,kN X,kN Y,kN h5,aC,a0⟩,aq (Z t) B⟩
structure Sh where
 k:Int
 fin:Bool
 t:Int
 pa:Option Addr
 n:Nat
def b9(a b c d e:Nat):List Sh:=
 [⟨1,θ,0,ν,0⟩,⟨2,θ,1,ν,0⟩,⟨3,θ,2,μ ⟨a,0,ν⟩,1⟩,⟨4,θ,4,μ ⟨b,0,ν⟩,3⟩,⟨5,θ,8,μ ⟨c,0,ν⟩,3⟩,⟨5,ρ,9,μ ⟨d,0,ν⟩,3⟩,⟨6,θ,28,μ ⟨e,0,ν⟩,1⟩]
def bJ(l:List Sh)(j:Nat):Sh:=l.getD j ⟨0,θ,0,ν,0⟩
def qV(h:j<7):j=0\/j=1\/j=2\/j=3\/j=4\/j=5\/j=6:=by omega
def jR.at{f g:Nat}(h:jR W l m o b i j f g)(a:Nat)(p:a<7):
 κ W ⟨l,a*4,ν⟩=μ (ι δ (bJ (b9 m o b i j) a).k)/\κ W ⟨l,a*4+1,ν⟩=μ (β (bJ (b9 m o b i j) a).fin)/\κ W ⟨l,a*4+2,ν⟩=μ (ι Δ (bJ (b9 m o b i j) a).t)/\κ W ⟨l,a*4+3,ν⟩=μ (σ (bJ (b9 m o b i j) a).pa (bJ (b9 m o b i j) a).n (bJ (b9 m o b i j) a).n):=by
 have c:=λ(d:Nat)(v:υ)(e:(CT m o b i j)[d]?=μ v)=>h.tab d v e
 simp only[ep]at c;obtain rfl|rfl|rfl|rfl|rfl|rfl|rfl:=qV p<;>exact⟨c _ _ rfl,c _ _ rfl,c _ _ rfl,c _ _ rfl⟩
def jD{a:υ}(h:w.heap[b]?=μ (ο #[x,y,z,a] T (0,0))):κ w ⟨b,0,ν⟩=μ x/\κ w ⟨b,1,ν⟩=μ y/\κ w ⟨b,2,ν⟩=μ z/\κ w ⟨b,3,ν⟩=μ a/\∀o,χ w ⟨b,o,ν⟩=θ:=by
 simp[World.cell?,World.frozen?,h]
def J4(w:ω)(T a b c l m Bo Bc:Nat)(X:jR w T a b c l m Bo Bc)(f:Fr)(y:υ):
 Calls prog 191 #[σ (μ ⟨T,0,ν⟩) 7 7,ε (bU f y)] w λe A=>
  ((∃j,j<7/\(bJ (b9 a b c l m) j).k=f.kind/\(bJ (b9 a b c l m) j).fin=(f.fin&&decide (f.kind=5))/\e=ξ (τ #[ε #[ι δ (bJ (b9 a b c l m) j).k,β (bJ (b9 a b c l m) j).fin,ι Δ (bJ (b9 a b c l m) j).t,σ (bJ (b9 a b c l m) j).pa (bJ (b9 a b c l m) j).n (bJ (b9 a b c l m) j).n],β ρ]))\/
    ((∀j,j<7->¬((bJ (b9 a b c l m) j).k=f.kind/\(bJ (b9 a b c l m) j).fin=(f.fin&&decide (f.kind=5))))/\e=ξ (τ #[ε #[ι δ 0,β θ,ι Δ 0,σ ν 0 0],β θ])))/\γ w A ν:=by
 have P:=λ(W:ω)(g:γ w W ν)=>(X.au g).at
 generalize b9 a b c l m=L at *;clear X;obtain⟨k,s,o,cd,fin,d,rg⟩:=f;obtain⟨R,r⟩:∃R:Ending->ω->Prop,R=λe A=>((∃j,j<7/\(bJ L j).k=k/\(bJ L j).fin=(fin&&decide (k=5))/\e=ξ (τ #[ε #[ι δ (bJ L j).k,β (bJ L j).fin,ι Δ (bJ L j).t,σ (bJ L j).pa (bJ L j).n (bJ L j).n],β ρ]))\/
  ((∀j,j<7->¬((bJ L j).k=k/\(bJ L j).fin=(fin&&decide (k=5))))/\e=ξ (τ #[ε #[ι δ 0,β θ,ι Δ 0,σ ν 0 0],β θ])))/\γ w A ν:=⟨_,rfl⟩
 show Calls prog 191 #[σ (μ ⟨T,0,ν⟩) 7 7,ε #[ι δ k,ι δ s,ι η o,ι η cd,β fin,ς d,y]] w (λe A=>((∃j,j<7/\(bJ L j).k=k/\(bJ L j).fin=(fin&&decide (k=5))/\e=ξ (τ #[ε #[ι δ (bJ L j).k,β (bJ L j).fin,ι Δ (bJ L j).t,σ (bJ L j).pa (bJ L j).n (bJ L j).n],β ρ]))\/
  ((∀j,j<7->¬((bJ L j).k=k/\(bJ L j).fin=(fin&&decide (k=5))))/\e=ξ (τ #[ε #[ι δ 0,β θ,ι Δ 0,σ ν 0 0],β θ])))/\γ w A ν)
 rw[<-r];obtain⟨q,Q⟩:∃q:Bool,q=(fin&&decide (k=5)):=⟨_,rfl⟩
 rw[<-Q]at r;replace⟨r,P⟩:=bD r P;have B:∀W:ω,(((w.alloc (ο #[ι δ k,ι δ s,ι η o,ι η cd,β fin,ς d,y] 158)).alloc (ο #[ι δ 0,β θ,ι Δ 0,σ ν 0 0] 317))).grownBy W ν->W.heap[w.heap.size]?=μ (ο #[ι δ k,ι δ s,ι η o,ι η cd,β fin,ς d,y] 158 (0,0))/\W.heap[w.heap.size+1]?=μ (ο #[ι δ 0,β θ,ι Δ 0,σ ν 0 0] 317 (0,0))/\γ w W ν:=λW g=>
  ⟨(g.block _ (by simp;omega) (by simp)).trans (by rw[fS _ _ _ (by simp)];exact aO _ _),(g.block _ (by simp) (by simp)).trans (by rw[<-eh w (ο #[ι δ k,ι δ s,ι η o,ι η cd,β fin,ς d,y] 158)];exact aO _ _),aq (bk (aJ _ _ _) _) g⟩
 replace B:=J B;obtain⟨W0,C⟩:=exq ((w.alloc (ο #[ι δ k,ι δ s,ι η o,ι η cd,β fin,ς d,y] 158)).alloc (ο #[ι δ 0,β θ,ι Δ 0,σ ν 0 0] 317));rw[<-C]at B;obtain⟨D,E⟩:∃D:Nat->Prop,D=λj=>¬((bJ L j).k=k/\(bJ L j).fin=q):=⟨_,rfl⟩
 have a1:(fin=θ/\q=θ)\/(fin=ρ/\(k==5)=ρ/\q=ρ)\/(fin=ρ/\(k==5)=θ/\q=θ):=by
  rw[Q];cases fin;simp;by_cases h5:k=5<;>simp[h5]
 clear Q;replace E:=J E;obtain⟨rfl,rfl⟩|⟨rfl,Y,rfl⟩|⟨rfl,Y,rfl⟩:=a1
 all_goals
  go_enter func191,ntmps191
  go_wp2_with fail
  try clear Y
  rw[<-C]
  replace C:=J C
  go_loopw [18] (λi wr=>∃j:Nat,j<=7/\i=ι δ j/\(∀i,i<j->D i)/\γ W0 wr ν) (λi _=>7-(intOf i).toNat)
  case atStart=>exact⟨0,by omega,rfl,λi hi=>by omega,aD _ _⟩
  case round=>
   obtain⟨j,hj,rfl,z,U⟩:=hrel
   obtain⟨b1,b2,F⟩:=Z B wr U
   by_cases V:j<7
   ·obtain⟨c1,c2,c3,c4⟩:=Z P wr F j V;obtain⟨S,p⟩:=exq (bJ L j);rw[<-p]at c1 c2 c3 c4;obtain⟨K,G,H,I,PN⟩:=S;simp only at c1 c2 c3 c4;have al:Hid (¬(K=k/\G=_)->∀i,i<j+1->D i):=J (λhn i hi=>by
     obtain h1|rfl:=qC.1 hi
     exact z i h1
     ·rw[Z E];simp only[<-p];exact hn)
    replace⟨z,p⟩:=bD z p;have i1:(0:Int)<=j:=by omega
    have i2:(j:Int)<7:=by omega
    have d0:(wr.alloc (ο #[ι δ K,β G,ι Δ H,σ I PN PN] 317)).cell? ⟨w.heap.size,0,ν⟩=μ (ι δ k):=by
     rw[World.cell?_alloc_past _ _ _ (bg.1 b1).1];simp[World.cell?,b1]
    replace b1:=J b1;by_cases u:K=k
    ·have eK:(K==k)=ρ:=by simp[u]
     replace u:=J u;have x:(wr.alloc (ο #[ι δ K,β G,ι Δ H,σ I PN PN] 317)).heap[w.heap.size+1]?=μ (ο #[ι δ 0,β θ,ι Δ 0,σ ν 0 0] 317 (0,0)):=(fS _ _ _ (bg.1 b2).1).trans b2;have M:=(jD x).1;have N:=(jD x).2.1;have z2:=(jD x).2.2.1;have O:=(jD x).2.2.2.1;have zf:=(jD x).2.2.2.2;replace⟨x,b2⟩:=bD x b2;cases G;all_goals
      first
      |(go_wp2_with fail
        go_roundw
        case rel=>exact⟨j+1,by omega,by simp,Z al (λh=>by have:=h.2;revert this;decide),bk U _⟩
        case measure=>simp[intOf];omega)
      |(go_wp2_with fail
        first
         |(refine df (v:=τ #[ε #[ι δ K,β θ,ι Δ H,σ I PN PN],β ρ]) ?_ rfl ?_
           ·simp[results,results191,go_sem,M,N,z2,O]
           ·rw[Z r];exact⟨φ ⟨j,V,by rw[<-Z p];exact Z u,by rw[<-Z p],by rw[<-Z p]⟩,aM (aM (aM (aM (bk F _) _ _ (φ (cf _))) _ _ (φ (cf _))) _ _ (φ (cf _))) _ _ (φ (cf _))⟩)
         |(refine df (v:=τ #[ε #[ι δ K,β ρ,ι Δ H,σ I PN PN],β ρ]) ?_ rfl ?_
           ·simp[results,results191,go_sem,M,N,z2,O]
           ·rw[Z r];exact⟨φ ⟨j,V,by rw[<-Z p];exact Z u,by rw[<-Z p],by rw[<-Z p]⟩,aM (aM (aM (aM (bk F _) _ _ (φ (cf _))) _ _ (φ (cf _))) _ _ (φ (cf _))) _ _ (φ (cf _))⟩))
    have eK:(K==k)=θ:=by simp[u]
    replace b2:=J b2;go_wp2;go_roundw;case rel=>exact⟨j+1,by omega,by simp,Z al (λh=>u h.1),bk U _⟩
    case measure=>simp[intOf];omega
   obtain rfl:j=7:=by omega
   have M:=(jD b2).1
   have N:=(jD b2).2.1
   have z2:=(jD b2).2.2.1
   have O:=(jD b2).2.2.2.1
   have zf:=(jD b2).2.2.2.2
   replace⟨b1,b2,z⟩:=cz b1 b2 z
   go_wp2_with fail
   refine df (v:=τ #[ε #[ι δ 0,β θ,ι Δ 0,σ ν 0 0],β θ]) ?_ rfl ?_
   ·simp[results,results191,go_sem,M,N,z2,O]
   rw[Z r]
   refine⟨ψ ⟨λi hi=>?_,rfl⟩,aM (aM (aM (aM F _ _ (φ (cf _))) _ _ (φ (cf _))) _ _ (φ (cf _))) _ _ (φ (cf _))⟩
   have:=Z z i hi
   rw[Z E]at this
   exact this
def nd(l:List Fr)(i:Nat):Fr:=l.getD i (cB 0 θ)
def qW(w:ω)(a:Option Addr)(n cap:Nat)(c:List Fr):Prop:=
 n=c.length/\n<=cap/\cap<=maxLen/\((a=ν/\cap=0)\/∃b o,a=μ ⟨b,o,ν⟩/\∀i,i<c.length->∃d,dL w (nd c i) d/\w.rangeAt b (o+i*7) (kj (nd c i) d))
def qW.au{d:List Fr}(h:qW w a n k d)(g:γ w W ν):qW W a n k d:=by
 obtain⟨e,f,j,c⟩:=h;refine⟨e,f,j,?_⟩
 obtain c|⟨b,o,rfl,c⟩:=c
 exact φ c;refine ψ ⟨b,o,rfl,λi hi=>?_⟩;obtain⟨l,m,p⟩:=c i hi;exact⟨l,m.au g,jn p g (by simp)⟩
def qW.at{a:List Fr}(h:qW w (μ ⟨b,o,ν⟩) n k a)(i:Nat)(hi:i<a.length):∃c,dL w (nd a i) c/\w.rangeAt b (o+i*7) (kj (nd a i) c):=by
 obtain⟨-,-,-,⟨h,-⟩|⟨d,f,e,h⟩⟩:=h;cases h;cases e;exact h i hi
def CV{l:List Fr}(h:j<l.length):nd l j=l[j]:=by unfold nd;rw[List.getD,dT h];rfl
def CW(l r:List Fr):gN (l++r)=gN l+gN r:=by
 induction l with
 |nil=>simp[gN]
 |cons f l a=>simp only[pT,gN,a];omega
def J5{l:List Fr}(h:j<l.length):gN (l.take j)+mZ (nd l j)<=gN l:=by
 have a:=fD gN (pR (j+1) l);rw[CW,sH h,CW]at a;simp only[gN]at a;rw[CV h];omega
def J6(h:∀j,j<7->¬((bJ (b9 n i l m o) j).k=I.kind/\(bJ (b9 n i l m o) j).fin=(I.fin&&decide (I.kind=5)))):¬(1<=I.kind/\I.kind<=6):=by
 intro b;have e:I.kind=1\/I.kind=2\/I.kind=3\/I.kind=4\/I.kind=5\/I.kind=6:=by omega
 obtain e|e|e|e|e|e:=e
 exact h 0 (by omega) (by rw[e];simp[bJ,b9]);exact h 1 (by omega) (by rw[e];simp[bJ,b9]);exact h 2 (by omega) (by rw[e];simp[bJ,b9]);exact h 3 (by omega) (by rw[e];simp[bJ,b9]);cases a:I.fin;exact h 4 (by omega) (by rw[e,a];simp[bJ,b9]);exact h 5 (by omega) (by rw[e,a];simp[bJ,b9]);exact h 6 (by omega) (by rw[e];simp[bJ,b9])
def J7(a:j<7)(b:(bJ (b9 n i l m o) j).k=I.kind):1<=I.kind/\I.kind<=6:=by
 rw[<-b];obtain rfl|rfl|rfl|rfl|rfl|rfl|rfl:=qV a<;>simp[bJ,b9]
def J8{d g:Nat}(h:jR W l m o b k i d g)(r:dL W I x)(hs:cO I)(y:j<7)(f:(bJ (b9 m o b k i) j).k=I.kind)(p:(bJ (b9 m o b k i) j).fin=(I.fin&&decide (I.kind=5))):
 ∃w,CR W I x (σ (bJ (b9 m o b k i) j).pa (bJ (b9 m o b k i) j).n (bJ (b9 m o b k i) j).n) w/\dm I=(bJ (b9 m o b k i) j).t::iC w/\W8 (bJ (b9 m o b k i) j).t:=by
 obtain⟨⟨b1,b2,s,u⟩,⟨z,A⟩,-,-⟩:=hs;have v:eB I.offset:=⟨r.1.2.2.1.1,b1⟩
 have vc:eB I.code:=⟨r.1.2.2.2.1.1,b2⟩
 obtain rfl|rfl|rfl|rfl|rfl|rfl|rfl:=qV y
 have a:I.kind=1:=f.symm;exact⟨[],⟨ν,0,rfl,by simp,by simp,φ rfl⟩,by simp[dm,a,iC,bJ,b9],by simp[W8,bJ,b9]⟩
 have a:I.kind=2:=f.symm;exact⟨[],⟨ν,0,rfl,by simp,by simp,φ rfl⟩,by simp[dm,a,iC,bJ,b9],by simp[W8,bJ,b9]⟩
 have a:I.kind=3:=f.symm;refine⟨[gJ I.ranges],⟨μ ⟨m,0,ν⟩,1,rfl,by simp,by simp,ψ ⟨m,rfl,λc hi=>?_⟩⟩,by simp[dm,a,iC,bJ,b9],by simp[W8,bJ,b9]⟩
 obtain rfl:c=0:=by simpa using hi
 exact⟨rW,_,_,h.p2 0 _ rfl,h.p2 1 _ rfl,JV W I x r (z a)⟩
 have a:I.kind=4:=f.symm;refine⟨[aS I.stream,aS I.code,aS I.offset],⟨μ ⟨o,0,ν⟩,3,rfl,by simp,by simp,ψ ⟨o,rfl,λc hi=>?_⟩⟩,by simp[dm,a,iC,bJ,b9],by simp[W8,bJ,b9]⟩
 have e:c=0\/c=1\/c=2:=by simp at hi;omega
 obtain rfl|rfl|rfl:=e
 exact⟨sW,_,_,h.p3 0 _ rfl,h.p3 1 _ rfl,zT W I x s u⟩
 exact⟨nW g,_,_,h.p3 2 _ rfl,h.p3 3 _ rfl,CO W I x g h.bc vc⟩
 exact⟨nW d,_,_,h.p3 4 _ rfl,h.p3 5 _ rfl,zS W I x d h.bo v⟩
 have a:I.kind=5:=f.symm;have q:I.fin=θ:=by rw[a]at p;simpa [bJ,b9]using p.symm
 refine⟨[aS I.stream,aS I.offset,aS I.data.size++aI I.data],⟨μ ⟨b,0,ν⟩,3,rfl,by simp,by simp,ψ ⟨b,rfl,λc hi=>?_⟩⟩,by simp[dm,a,q,iC,bJ,b9],by simp[W8,bJ,b9]⟩
 have e:c=0\/c=1\/c=2:=by simp at hi;omega
 obtain rfl|rfl|rfl:=e
 exact⟨sW,_,_,h.p4 0 _ rfl,h.p4 1 _ rfl,zT W I x s u⟩
 exact⟨nW d,_,_,h.p4 2 _ rfl,h.p4 3 _ rfl,zS W I x d h.bo v⟩
 exact⟨bW,_,_,h.p4 4 _ rfl,h.p4 5 _ rfl,CP W I x⟩
 have a:I.kind=5:=f.symm;have q:I.fin=ρ:=by rw[a]at p;simpa [bJ,b9]using p.symm
 refine⟨[aS I.stream,aS I.offset,aS I.data.size++aI I.data],⟨μ ⟨k,0,ν⟩,3,rfl,by simp,by simp,ψ ⟨k,rfl,λc hi=>?_⟩⟩,by simp[dm,a,q,iC,bJ,b9],by simp[W8,bJ,b9]⟩
 have e:c=0\/c=1\/c=2:=by simp at hi;omega
 obtain rfl|rfl|rfl:=e
 exact⟨sW,_,_,h.p5 0 _ rfl,h.p5 1 _ rfl,zT W I x s u⟩
 exact⟨nW d,_,_,h.p5 2 _ rfl,h.p5 3 _ rfl,zS W I x d h.bo v⟩
 exact⟨bW,_,_,h.p5 4 _ rfl,h.p5 5 _ rfl,CP W I x⟩
 have a:I.kind=6:=f.symm;refine⟨[aS I.code],⟨μ ⟨i,0,ν⟩,1,rfl,by simp,by simp,ψ ⟨i,rfl,λc hi=>?_⟩⟩,by simp[dm,a,iC,bJ,b9],by simp[W8,bJ,b9]⟩
 obtain rfl:c=0:=by simpa using hi
 exact⟨nW g,_,_,h.p6 0 _ rfl,h.p6 1 _ rfl,CO W I x g h.bc vc⟩
def uV(a:List Fr):Prop:=0<a.length/\∀i,i<a.length->cO (nd a i)
def J9(w:ω)(a:List Fr)(bad:υ)(g:υ->υ)(e:Ending)(b:ω):Prop:=
 ((uV a/\∃c d f,e=ξ (g (σ c d f))/\bn b w.heap.size (σ c d f) (bA a))\/(¬uV a/\e=ξ bad))/\γ w b ν
def bn.CX(h:bn w n x L)(e:k<=n):bn w k x L:=by
 obtain⟨b,c,a⟩:=h;refine⟨b,c,?_⟩
 obtain a|⟨g,cap,cur,e1,e2,d⟩:=a
 exact φ a;exact ψ ⟨g,cap,cur,e1,by omega,d⟩
def CY:(prog.info? 158).map (·.size)=μ 7:=by kernel_rfl
def Ka:(prog.info? 317).map (·.size)=μ 4:=by kernel_rfl
def Kb(w:ω)(a:Option Addr)(n cap:Nat)(c:List Fr)(h:qW w a n cap c)(c9:gN c<=30000000):
 Calls prog 147 #[σ a n cap] w (J9 w c (τ #[σ ν 0 0,.iface 34 (ι δ 5)]) (λv=>τ #[v,.nilIface])):=by
 have l:=h.1;have eD:=h.2.1;have db:=h.2.2.1;unfold maxLen at db;by_cases h0:n=0
 ·have e0:((n:Int)==0)=ρ:=by simp[h0]
  have bb:¬uV c:=λm=>by have:=m.1;omega
  replace bb:=J bb;clear h h0;go_enter func147,ntmps147;go_wp2;go_ret2;exact⟨ψ ⟨Z bb,rfl⟩,aD _ _⟩
 have e0:((n:Int)==0)=θ:=by simp[h0]
 obtain⟨b,o,rfl⟩:∃b o,a=μ ⟨b,o,ν⟩:=by
  obtain⟨-,-,-,⟨rfl,hc⟩|⟨b,o,rfl,-⟩⟩:=h;omega;exact⟨b,o,rfl⟩
 replace l:=J l;go_enter func147,ntmps147;go_wp2_with fail;apply(CU w).mono;rintro e A⟨T,B,C,D,E,F,Bo,Bc,rfl,hT,M⟩;have h1:=h.au M;go_wp2;go_loopw [4,17] (λv i wr=>∃(j:Nat)(R:Option Addr)(U V:Nat),j<=n/\i=ι δ j/\v=σ R U V/\dP A A.heap.size (σ ν 0 0) wr v (bA (c.take j))/\∀i,i<j->cO (nd c i)) (λ_ i _=>n-(intOf i).toNat);case atStart=>exact⟨0,ν,0,0,by omega,rfl,rfl,dP.refl (bn.nil _ _),λi hi=>by omega⟩
 case round=>
  obtain⟨j,R,U,V,hj,rfl,rfl,r,X⟩:=hrel;have u:=r.nX (aD _ _) (bn.nil _ _) (aP _);by_cases eS:j<n
  ·obtain⟨rv,N,cw⟩:=h1.at j (by have:=Z l;omega);have p:=jn cw u (by simp);obtain⟨f,q⟩:=exq (nd c j);rw[<-q]at N p;clear cw;obtain⟨-,-,ra,x,cx,-⟩:=id N;generalize dk:f.ranges.length=rl at cx;subst cx;have Y:=λW(g:γ A W ν)=>J4 W T B C D E F Bo Bc (hT.au g) f (σ ra rl x)
   have al:=λW(g:γ A W ν)=>B7 f (σ ra rl x) W (N.au g)
   have ax:=λ(bt:List (List Int))(k0:Int)(ds:Bool)(t:Int)(pv:υ)=>JZ A f (σ ra rl x) pv bt k0 ds t
   have bx:=λ(hs:cO f)(i:Nat)(hi:i<7)=>J8 hT N hs hi
   have bz:=λ(i:Nat)(hi:i<7)=>J7 (I:=f) (n:=B) (i:=C) (l:=D) (m:=E) (o:=F) hi
   have bM:=J6 (I:=f) (n:=B) (i:=C) (l:=D) (m:=E) (o:=F);have b0:gN (c.take j)+mZ f<=gN c:=by rw[q];exact J5 (by have:=Z l;omega)
   have b3:=wW f;have b4:=GV (c.take j);have b5:mZ f=25+16*f.ranges.length+f.data.size:=rfl;have b6:bA (c.take (j+1))=bA (c.take j)++dm f:=by rw[GU c j (by have:=Z l;omega),q,CV (by have:=Z l;omega)]
   generalize b9 B C D E F=L at *;clear hT N dk;obtain⟨k,s,O,cd,fin,d,rg⟩:=f;have c0:κ wr ⟨b,o+j*7,ν⟩=μ (ι δ k):=p 0 _ rfl;have c1:κ wr ⟨b,o+j*7+1,ν⟩=μ (ι δ s):=p 1 _ rfl;have c2:κ wr ⟨b,o+j*7+2,ν⟩=μ (ι η O):=p 2 _ rfl;have c3:κ wr ⟨b,o+j*7+3,ν⟩=μ (ι η cd):=p 3 _ rfl;have c4:κ wr ⟨b,o+j*7+4,ν⟩=μ (β fin):=p 4 _ rfl;have c5:κ wr ⟨b,o+j*7+5,ν⟩=μ (ς d):=p 5 _ rfl;have c6:κ wr ⟨b,o+j*7+6,ν⟩=μ (σ ra rl x):=p 6 _ rfl;clear p;simp only[bU]at Y al ax;have i1:(0:Int)<=j:=by omega
   have i2:(j:Int)<n:=by omega
   have cy:Hid ((wr.alloc (ο #[ι δ k,ι δ s,ι η O,ι η cd,β fin,ς d,σ ra rl x] 158)).heap[wr.heap.size]?=μ (ο #[ι δ k,ι δ s,ι η O,ι η cd,β fin,ς d,σ ra rl x] 158 (0,0))):=J (aO _ _);have dE:=J c9;replace⟨Y,al,ax,bx,bz,bM,X,r,u⟩:=qU Y al ax bx bz bM X r u;replace⟨q,b0,b3,b4,b5,b6,h1,h⟩:=qT q b0 b3 b4 b5 b6 h1 h;have dG:=J CY;have ea:=J Ka;obtain⟨WB,G⟩:=exq (wr.alloc (ο #[ι δ k,ι δ s,ι η O,ι η cd,β fin,ς d,σ ra rl x] 158));have P:Hid (γ wr WB ν):=J (by rw[G];exact aJ _ _ _);have e6:WB.heap.size=wr.heap.size+1:=by rw[G];simp
   rw[<-G]at cy;go_wp2_with fail;rw[<-G];replace G:=J G;clear c0 c1 c2 c3 c4 c5 c6;apply(Z Y WB (aq (Z u) (Z P))).mono;rintro e H⟨⟨i,hi,m,hq,rfl⟩|⟨cC,rfl⟩,g3⟩
   ·have hp:=λhs=>Z bx hs i hi m hq
    have a0:=Z bz i hi m;generalize bJ L i=S at *;obtain⟨K,FN,TT,PA,PN⟩:=S;simp only at m hq hp a0;obtain⟨W4,y⟩:=exq (H.alloc (ο #[ι δ K,β FN,ι Δ TT,σ PA PN PN] 317));have g4:γ H W4 ν:=by rw[y];exact aJ _ _ _
    have cp:W4.heap[H.heap.size]?=μ (ο #[ι δ K,β FN,ι Δ TT,σ PA PN PN] 317 (0,0)):=by rw[y];exact aO _ _
    have e7:W4.heap.size=H.heap.size+1:=by rw[y];simp
    have a2:=aq g3 g4;have a3:=(a2.block wr.heap.size (by omega) (by simp)).trans (Z cy);have a4:=aq (aq (Z u) (Z P)) a2;obtain⟨d0,d1,d2,d3,d4,d5,d6⟩:=dI a3;rw[y]at d0 d1 d2 d3 d4 d5 d6;have e8:=g3.size;replace⟨hp,a0,m,hq,cp,a3⟩:=pH hp a0 m hq cp a3;go_wp2_with fail;rw[<-y];replace y:=J y;clear d0 d1 d2 d3 d4 d5 d6;apply(Z al W4 a4).mono;rintro e w5⟨⟨bo,rfl,Q⟩,z⟩;have ej:=J ((z.block H.heap.size (by omega) (by simp)).trans (Z cp));have ek:=J ((z.block wr.heap.size (by omega) (by simp)).trans (Z a3));replace Q:=J Q;cases bo
    ·go_wp2_with fail;go_ret2;refine⟨ψ ⟨λm=>?_,rfl⟩,aq M (aq a4 z)⟩
     have I:=m.2 j (by have:=Z l;omega);rw[<-Z q]at I;have:=(Z Q).2 ⟨I.1,I.2.1⟩;cases this
    have a8:cO ⟨k,s,O,cd,fin,d,rg⟩:=⟨((Z Q).1 rfl).1,((Z Q).1 rfl).2,Z a0⟩
    obtain⟨bt,hP,a9,eo⟩:=Z hp a8;have hC:=Z ax bt K FN TT (σ PA PN PN) eo hP w5 A.heap.size R U V (bA (c.take j)) (aq a4 z) (aP _) (aq a4 z).size ((Z r).still (aq (Z P) (aq a2 z))).own (by
     have q1:=Z b0;have q2:=Z b3;have q3:=Z b4;have q4:=Z b5;rw[a9,cS]at q2;try dsimp only at q4
     try dsimp only
     have q5:=Z dE;omega)
    replace⟨hC,a9,a8,hP⟩:=fE hC a9 a8 hP;go_wp2_with (first
     |(refine pU (by rfl) 317 _ (by rfl) H.heap.size (by rfl) 317 _ (0,0) _ (Z ej) underlying317 (by rfl) (Z ea) ?_)
     |(refine pU (by rfl) 158 _ (by rfl) wr.heap.size (by rfl) 158 _ (0,0) _ (Z ek) underlying158 (by rfl) (Z dG) ?_))
    apply(Z hC).mono;rintro e w6⟨a6,n6,c6,rfl,G6⟩;go_wp2;go_roundw;case rel=>
     refine⟨j+1,a6,n6,c6,by omega,by simp,rfl,?_,λi hi=>?_⟩
     rw[Z b6,Z a9];exact((Z r).still (aq (Z P) (aq a2 z))).trans G6;obtain h9|rfl:=qC.1 hi
     exact Z X i h9;rw[<-Z q];exact Z a8
    case measure=>simp[intOf];omega
   have eC:=J (Z bM cC);clear cC;go_wp2;go_ret2;refine⟨ψ ⟨λm=>?_,rfl⟩,aq M (aq (aq (Z u) (Z P)) (bk g3 _))⟩
   have I:=m.2 j (by have:=Z l;omega);rw[<-Z q]at I;exact Z eC I.2.2
  obtain rfl:j=n:=by omega
  go_wp2;go_ret2;refine⟨φ ⟨⟨by have:=Z l;omega,λi hi=>X i (by have:=Z l;omega)⟩,R,U,V,rfl,?_⟩,aq M u⟩
  rw[jx (by have:=Z l;omega)]at r;exact r.own.CX M.size
def xY:prog.elem 133=200:=by kernel_rfl
def DW(W:ω):(sizeOf 200).run prog W=.ok 2 W:=by kernel_rfl
def bq.head(h:bq w a n k Y)(i:Nat)(hi:i<=n):bq w a i k (Y.take i):=by
 have d:=h.front i hi;obtain⟨p,q,r,f,c⟩:=h;obtain⟨f1,f2,f3,f4,f5⟩:=d;refine⟨f1,f2,by omega,f,?_⟩
 obtain c|⟨b,o,rfl,c⟩:=c
 exact φ c;obtain f5|⟨g,l,e,f5⟩:=f5
 refine ψ ⟨b,o,rfl,?_⟩;have:Y.take i=[]:=eN_;rw[this];intro j v m;simp[cF]at m;exact ψ ⟨g,l,e,f5⟩
def Af(h:iT Y)(i:Nat)(hi:0<i)(hl:i<=Y.length):iT (Y.take i):=by
 have e:∀k,k<i->ao (Y.take i) k=ao Y k:=λk a=>by simp[ao,List.getD,jK,a]
 refine⟨by rw[ct];omega,λk a=>?_⟩
 rw[ct]at a;have:=h.2 k (by omega);unfold nL at *;rw[e k (by omega)];refine⟨this.1,this.2.1,λh0=>?_⟩
 rw[e (k-1) (by omega)];exact this.2.2 h0
def DX(l:List Rg)(h:0<l.length):(gJ (l.take 1)).length<=24:=by
 unfold gJ my;have e:(l.take 1).length=1:=by rw[ct];omega
 rw[e];simp only[sP,jM,mW,bF]
 have:=(iI (ao (l.take 1) 0).hi).2;have:=(iI (((1:Nat):Int)-1)).2;have:=(iI ((ao (l.take 1) 0).hi-(ao (l.take 1) 0).lo)).2;omega
def ky(l:List Rg)(a:Int):Nat->Nat
 |0=>0
 |m+1=>if a<1+((gJ (l.take (m+1))).length:Int)then ky l a m else m+1
def L6(w:ω)(a:Option Addr)(n cap:Nat)(l:List Rg)(hs:bq w a n cap l)(p:iT l)(C:n<=1000)(b:Int)(D:40<=b/\b<=1000):
 Calls prog 202 #[σ a n cap,ι δ b] w λe d=>(∃m:Nat,e=ξ (ι δ m)/\m=ky l b n/\1<=m/\m<=n/\1+((gJ (l.take m)).length:Int)<=b)/\γ w d ν:=by
 obtain⟨R,h⟩:∃R:Ending->Prop,R=λe=>∃m:Nat,e=ξ (ι δ m)/\m=ky l b n/\1<=m/\m<=n/\1+((gJ (l.take m)).length:Int)<=b:=⟨_,rfl⟩
 have r:(λ(e:Ending)(d:ω)=>(∃m:Nat,e=ξ (ι δ m)/\m=ky l b n/\1<=m/\m<=n/\1+((gJ (l.take m)).length:Int)<=b)/\γ w d ν)=λe d=>R e/\γ w d ν:=by rw[h]
 rw[r];clear r;have f:n=l.length:=hs.2.1;have E:=hs.2.2.1;have F:=p.1;have x:=hs.2.2.2.1;unfold maxLen at x;replace⟨f,h⟩:=bD f h;go_enter func202,ntmps202;go_wp2;go_loopw [5] (λk wr=>∃m:Nat,1<=m/\m<=n/\k=ι δ m/\ky l b m=ky l b n/\γ w wr ν) (λk _=>(intOf k).toNat);case atStart=>exact⟨n,by have:=Z f;omega,aP _,rfl,rfl,aD _ _⟩
 case round=>
  obtain⟨m,s,t,rfl,i,g⟩:=hrel;replace i:=J i;have d0:decide ((0:Int)<m)=ρ:=dT_;have y:=hs.head m t;have G:(m:Int)<=cap:=by omega
  have u:=J (CK w wr wr.heap.size ν 0 [] a m cap (l.take m) (bn.nil _ _) g g.size y (Af p m s (by have:=Z f;omega)) (aP _) (by rw[ct];simp;omega));simp only[fM,jL]at u;obtain⟨L,c⟩:=exq ((gJ (l.take m)).length);have z:Hid (m=1->L<=24):=J (λe=>by rw[c,e];exact DX l (by have:=Z f;omega));have H:L<=1000000:=by
   rw[c];unfold gJ my;have:=y9 (l.take m) ((l.take m).length-1);have:=(iI (ao (l.take m) 0).hi).2;have:=(iI (((l.take m).length:Int)-1)).2;have:=(iI ((ao (l.take m) 0).hi-(ao (l.take m) 0).lo)).2;simp only[bF]
   rw[ct]at *;omega
  have I:IntKind.i64.wrap (1+(L:Int))=1+(L:Int):=wI_;replace c:=J c;go_wp2_with (first|(go_at_call 238;apply(Z u).mono;rintro e A⟨K,n2,c2,rfl,j⟩;have v:γ wr A ν:=j.gb;obtain rfl:n2=L:=(j.iy.2.1).trans (Z c).symm;replace j:=J j));have M:m≠1:=λe=>by have:=Z z e;omega
  have B:ky l b (m-1)=ky l b n:=by
   rw[<-Z i];obtain⟨q,rfl⟩:∃q,m=q+1:=⟨m-1,by omega⟩
   show ky l b q=if b<1+((gJ (l.take (q+1))).length:Int)then ky l b q else q+1
   rw[<-Z c,iP_]
  exact⟨⟨m-1,by omega,by omega,by congr 1;omega,B,aq g v⟩,by simp[intOf];omega⟩
  go_ret;refine⟨?_,aq g v⟩
  rw[Z h];refine⟨m,rfl,?_,s,t,by rw[<-Z c];omega⟩
  rw[<-Z i];obtain⟨q,rfl⟩:∃q,m=q+1:=⟨m-1,by omega⟩
  show q+1=if b<1+((gJ (l.take (q+1))).length:Int)then ky l b q else q+1
  rw[<-Z c,iN_]
def M0(w:ω)(L:List Sh)(t:Int)(e:Ending)(a:ω):Prop:=
 ((∃j,j<7/\(bJ L j).t=t/\e=ξ (τ #[ε #[ι δ (bJ L j).k,β (bJ L j).fin,ι Δ (bJ L j).t,σ (bJ L j).pa (bJ L j).n (bJ L j).n],β ρ]))\/
   ((∀j,j<7->¬(bJ L j).t=t)/\e=ξ (τ #[ε #[ι δ 0,β θ,ι Δ 0,σ ν 0 0],β θ])))/\γ w a ν
def M1(w:ω)(T h k l m n E F:Nat)(y:jR w T h k l m n E F)(t:Int):
 Calls prog 232 #[σ (μ ⟨T,0,ν⟩) 7 7,ι Δ t] w (M0 w (b9 h k l m n) t):=by
 have p:=λ(W:ω)(g:γ w W ν)=>(y.au g).at
 generalize b9 h k l m n=L at *;clear y;obtain⟨z,b⟩:=exq (w.alloc (ο #[ι δ 0,β θ,ι Δ 0,σ ν 0 0] 317));have q:∀W:ω,γ z W ν->W.heap[w.heap.size]?=μ (ο #[ι δ 0,β θ,ι Δ 0,σ ν 0 0] 317 (0,0))/\γ w W ν:=λW g=>
  ⟨(g.block _ (by rw[b];simp) (by simp)).trans (by rw[b];exact aO _ _),aq (by rw[b];exact aJ _ _ _) g⟩
 replace⟨q,p⟩:=bD q p;go_enter func232,ntmps232;go_wp2_with fail;rw[<-b];replace b:=J b;go_loopw [10] (λi wr=>∃j:Nat,j<=7/\i=ι δ j/\(∀i,i<j->¬(bJ L i).t=t)/\γ z wr ν) (λi _=>7-(intOf i).toNat);case atStart=>exact⟨0,by omega,rfl,λi hi=>by omega,aD _ _⟩
 case round=>
  obtain⟨j,O,rfl,c,A⟩:=hrel;obtain⟨b2,r⟩:=Z q wr A;by_cases B:j<7
  ·obtain⟨c1,c2,c3,c4⟩:=Z p wr r j B;obtain⟨S,d⟩:=exq (bJ L j);rw[<-d]at c1 c2 c3 c4;obtain⟨K,C,e,D,PN⟩:=S;simp only at c1 c2 c3 c4;have G:Hid (¬e=t->∀i,i<j+1->¬(bJ L i).t=t):=J (λH i hi=>by
    obtain I|rfl:=qC.1 hi
    exact c i I
    ·rw[<-d];exact H)
   replace⟨c,d⟩:=bD c d;have P:(0:Int)<=j:=by omega
   have Q:(j:Int)<7:=by omega
   by_cases f:e=t
   ·have M:(e==t)=ρ:=by simp[f]
    replace f:=J f;have a:(wr.alloc (ο #[ι δ K,β C,ι Δ e,σ D PN PN] 317)).heap[w.heap.size]?=μ (ο #[ι δ 0,β θ,ι Δ 0,σ ν 0 0] 317 (0,0)):=(fS _ _ _ (bg.1 b2).1).trans b2;have s:=(jD a).1;have u:=(jD a).2.1;have z2:=(jD a).2.2.1;have x:=(jD a).2.2.2.1;have N:=(jD a).2.2.2.2;replace⟨a,b2⟩:=bD a b2;go_wp2_with fail;refine df (v:=τ #[ε #[ι δ K,β C,ι Δ e,σ D PN PN],β ρ]) ?_ rfl ?_
    ·simp[results,results232,go_sem,s,u,z2,x]
    exact⟨φ ⟨j,B,by rw[<-Z d];exact Z f,by rw[<-Z d]⟩,aM (aM (aM (aM (bk r _) _ _ (φ (aP _))) _ _ (φ (aP _))) _ _ (φ (aP _))) _ _ (φ (aP _))⟩
   have M:(e==t)=θ:=by simp[f]
   replace b2:=J b2;go_wp2;go_roundw;case rel=>exact⟨j+1,by omega,by simp,Z G f,bk A _⟩
   case measure=>simp[intOf];omega
  obtain rfl:j=7:=by omega
  have s:=(jD b2).1;have u:=(jD b2).2.1;have z2:=(jD b2).2.2.1;have x:=(jD b2).2.2.2.1;have N:=(jD b2).2.2.2.2;replace⟨b2,c⟩:=bD b2 c;go_wp2_with fail;refine df (v:=τ #[ε #[ι δ 0,β θ,ι Δ 0,σ ν 0 0],β θ]) ?_ rfl ?_
  ·simp[results,results232,go_sem,s,u,z2,x]
  exact⟨ψ ⟨Z c,rfl⟩,aM (aM (aM (aM r _ _ (φ (aP _))) _ _ (φ (aP _))) _ _ (φ (aP _))) _ _ (φ (aP _))⟩
