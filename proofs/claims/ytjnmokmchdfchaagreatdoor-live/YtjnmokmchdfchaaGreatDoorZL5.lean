import Derived.Test.YtjnmokmchdfchaaGreatDoorZL4
set_option maxRecDepth 1000000
set_option maxHeartbeats 0
set_option linter.all false
namespace Go.Proofs.YtjnmokmchdfchaaGreatDoor
open Go.RowKit Tryz
open Go.Value renaming int→ι,slice→σ,bool→β,pointer→π,agg→ε,string→ς,tuple→τ
open Go.IntKind renaming i64→δ,u64→η,u8→Δ
open Go.Ending renaming returned→ξ
open Go.Obj renaming cells→ο
open Or renaming inl→φ,inr→ψ
open Option renaming some→μ,none→ν
open Bool renaming true→ρ,false→θ
open Go renaming World→ω,Value→υ
open Go.World renaming grownBy→γ,cell?→κ,frozen?→χ,setCell→ζ
attribute[local go_sem↓]Go.wp_at_zero Go.wp_at_succ
variable{C c:Array υ}{p:Int}{E:It}{L:List Int}{i j k l m n o:Nat}{a:Option Addr}{T:TypeId}{x y z:υ}{W w:ω}
def nU(w a:ω)(sb:Nat)(t:TypeId)(cs:Array υ)(c f:Nat)(vb vc:υ)(s:It):Prop:=
 ∃d b e,sZ w a sb t cs d c 9 vb b/\iB a f d c b e s/\zA w a b vc e
def iV(cs:Array υ)(a:Nat)(s:It)(f:Fr):Array υ:=
 ((cs.setIfInBounds (a+3) (ι η (max s.high (aT f)))).setIfInBounds (a+6) (β (s.ended||f.fin))).setIfInBounds (a+4) (ι η (if f.fin then aT f else s.last))
def lG(cs:Array υ)(a:Nat)(s:It)(f:Fr)(i:Nat)(h:i≠a+3/\i≠a+6/\i≠a+4:=by omega):(iV cs a s f)[i]?=cs[i]? :=by
 unfold iV;rw[aN_,aN_,aN_]
def Co(s:It)(f:Fr)(h:n+8<c.size):(iV c n s f)[n+3]?=μ (ι η (max s.high (aT f)))/\(iV c n s f)[n+6]?=μ (β (s.ended||f.fin))/\(iV c n s f)[n+4]?=μ (ι η (if f.fin then aT f else s.last)):=by
 unfold iV;refine⟨?_,?_,?_⟩
 rw[aN_,aN_];exact cJ;rw[aN_];exact cJ (by simp;omega);exact cJ (by simp;omega)
def Iy(f:Fr)(a:c[n+4]?=μ (ι η E.last))(b:c[n+6]?=μ (β E.ended))(d:f.fin=θ):iV c n E f=c.setIfInBounds (n+3) (ι η (max E.high (aT f))):=by
 unfold iV;rw[d];simp only[uw,eA,eN]
 rw[uP (x:=β E.ended) (by rw[aN_];exact b),uP (x:=ι η E.last) (by rw[aN_];exact a)]
def Iz(H:iB w m C l x z E)(d:kO w j x z)(f:Fr)(p:W.heap[j]?=μ (ο (iV C l E f) T (0,0)))(g:γ w W (μ j))(q:E.given=ρ):nU w W j T C l m x z (E.data f):=by
 obtain⟨k3,r,k4⟩:=Co E f (ia H.c8);refine⟨_,x,z,⟨p,by simp[iV],λi hi=>lG _ _ _ _ _,(ay.of g).mono (λk _ e=>φ (aQ e).symm),φ rfl⟩,?_,φ rfl⟩
 have b:(E.data f).h=E.h:=by simp[It.data,q]
 refine⟨?_,?_,?_,k3,k4,?_,r,?_,?_,?_,?_⟩
 rw[lG _ _ _ _ _,b];exact H.c0;rw[lG _ _ _ _ _];exact H.c1;rw[lG _ _ _ _ _];exact H.c2;rw[lG _ _ _ _ _];exact H.c5;rw[lG _ _ _ _ _];exact H.c7;rw[lG _ _ _ _ _];exact H.c8;rw[b];exact H.own.gb g (ψ d.1);obtain⟨a,n,c,e,s⟩:=H.set;rw[b];exact⟨a,n,c,e,s.gb g (λy t e2=>by subst t;exact(d.2 y n c e).1 (aQ e2).symm)⟩
def IA(H:iB w o c l x z E)(B:E.h.nice)(D:o<=w.heap.size)(d:kO w j x z)(S:j<w.heap.size)(f:Fr)(v:υ)(F:0<=f.offset)(hs:aT f<=4611686018427387903)(G:∀m,f.offset<=m->m<aT f->¬Sm E.h.af m->E.h.fr<=m/\m<E.h.fr+900000)
 (q:W.heap[j]?=μ (ο (iV c l E f) T (0,0))) (g:γ w W (μ j)) (I:E.given=θ):
 Calls prog 258 #[π (μ ⟨j,l,ν⟩),ε (bU f v)] W λr A=>r=ξ (τ #[])/\nU w A j T c l o x z (E.data f):=by
 obtain⟨ab,nb,cb,ac,nc,cc,rfl,rfl⟩:=H.nT;have s:bq w ac nc cc E.h.af:=by obtain⟨a,n,t,e,s⟩:=H.set;cases e;exact s
 have K:bq W ac nc cc E.h.af:=s.gb g (λy L e2=>by subst L;exact(d.2 y nc cc rfl).1 (aQ e2).symm);have ho:bn W o (σ ab nb cb) E.h.bytes:=H.own.gb g (ψ d.1);obtain⟨k3,M,k4⟩:=Co E f (ia H.c8);have N:gZ W j l ab nb cb ac nc cc E.h:=by
  refine⟨?_,?_,?_,ho.iy,K,B⟩
  rw[aZ q,lG _ _ _ _ _];exact H.c0;rw[aZ q,lG _ _ _ _ _];exact H.c1;rw[aZ q,lG _ _ _ _ _];exact H.c2
 apply(Ix W j l o _ T ab nb cb ac nc cc E.h q N ho (bK D g.size) d.1 (λy e=>⟨(d.2 y nc cc (by rw[e])).1,(d.2 y nc cc (by rw[e])).2.1⟩) f v F hs G).mono;rintro r A⟨rfl,a,n,t,u,n2,c2,O,P,Q,C,new,fr⟩;refine⟨rfl,_,σ a n t,σ u n2 c2,⟨O,by simp[iV],λi hi=>?_,((ay.of g).trans C).mono (λk _ p=>?_),new.imp id (λe k R=>bK g.size (e k R))⟩,?_,?_⟩
 rw[aN_,aN_,lG _ _ _ _ _];obtain p|p:=p
 exact φ (aQ p).symm;exact p;have U:=ia H.c8;have hd:(E.data f).h=⟨E.h.fr,hb E.h.fr f.offset (aI f.data) (iA E.h.af ⟨f.offset,aT f⟩) E.h.bytes,cD E.h.af ⟨f.offset,aT f⟩⟩:=by simp[It.data,I]
 have b:∀i,i≠l+1->i≠l+2->(((iV c l E f).setIfInBounds (l+1) (σ a n t)).setIfInBounds (l+2) (σ u n2 c2))[i]?=(iV c l E f)[i]? :=λi V X=>by
  rw[aN_,aN_]
 refine⟨?_,?_,?_,?_,?_,?_,?_,?_,?_,?_,?_⟩
 rw[b _ (by omega) (by omega),lG _ _ _ _ _,hd];exact H.c0;rw[aN_];exact cJ (by simp[iV];omega);exact cJ (by simp[iV];omega);rw[b _ (by omega) (by omega)];exact k3;rw[b _ (by omega) (by omega)];exact k4;rw[b _ (by omega) (by omega),lG _ _ _ _ _];exact H.c5;rw[b _ (by omega) (by omega)];exact M;rw[b _ (by omega) (by omega),lG _ _ _ _ _];exact H.c7;rw[b _ (by omega) (by omega),lG _ _ _ _ _];exact H.c8;rw[hd];exact P;rw[hd];exact⟨u,n2,c2,rfl,Q⟩
 obtain⟨rfl,rfl,rfl⟩|fr:=fr
 exact φ rfl;exact ψ (λy Y c3 e=>by cases e;exact⟨bK g.size (fr y rfl).1,(fr y rfl).2.1,(fr y rfl).2.2⟩)
def IB(w:ω)(sb a D:Nat)(cs:Array υ)(t:TypeId)(vb vc:υ)(s:It)(P:w.heap[sb]?=μ (ο cs t (0,0)))(H:iB w D cs a vb vc s)(hn:s.h.nice)(bz:D<=w.heap.size)(aC:kO w sb vb vc)
 (f:Fr) (p:υ) (hf:0<=f.offset) (hs:aT f<=4611686018427387903) (bM:s.given=θ->∀m,f.offset<=m->m<aT f->¬Sm s.h.af m->s.h.fr<=m/\m<s.h.fr+900000):
 Calls prog 219 #[π (μ ⟨sb,a,ν⟩),ε (bU f p)] w λr i=>(s.bad f=ρ/\r=ξ (.iface 34 (ι δ 7))/\γ w i ν)\/(s.bad f=θ/\r=ξ .nilIface/\nU w i sb t cs a D vb vc (s.data f)):=by
 obtain⟨ab,nb,cb,ac,nc,cc,rfl,rfl⟩:=H.nT;obtain⟨R,q⟩:∃R:Ending->ω->Prop,R=λr i=>(s.bad f=ρ/\r=ξ (.iface 34 (ι δ 7))/\γ w i ν)\/(s.bad f=θ/\r=ξ .nilIface/\nU w i sb t cs a D (σ ab nb cb) (σ ac nc cc) (s.data f)):=⟨_,rfl⟩
 rw[<-q];replace q:=J q;have y:=J (λW=>zo W f p hf (by omega));have hT:=H.tail P;have Q:=J (λW(g:γ w W ν)=>B8 W sb a s (hT.au g) (aT f));have b0:sb<w.heap.size:=(bg.1 P).1;obtain⟨c3,c4,c5,c6,c7,c8⟩:=hT;obtain⟨W1,u⟩:=exq (w.alloc (ο (bU f p) 158));have g1:γ w W1 ν:=by rw[u];exact aJ _ _ _
 have E:W1.heap[w.heap.size]?=μ (ο (bU f p) 158 (0,0)):=by rw[u];exact aO _ _
 obtain⟨q0,q1,q2,q3,S,q5,q6⟩:=dI E;have j:Hid (s.bad f=((s.ended&&decide (s.last<aT f))||(f.fin&&s.gO (aT f)))):=J rfl;obtain⟨bad,x⟩:=exq (s.bad f);obtain⟨en,n⟩:=exq (aT f);obtain⟨mv,F⟩:=exq (s.gO (aT f));rw[<-x,<-F,<-n]at j;rw[<-F,<-n]at Q;rw[<-n]at y;replace⟨x,F,n⟩:=cz x F n;unfold bU at u y;unfold bU;obtain⟨fin,k⟩:=exq f.fin;rw[<-k]at S u y j;simp only[<-k]
 replace⟨k,E⟩:=bD k E;go_enter func219,ntmps219;go_wp2_with fail;rw[<-u];clear u;apply(Z y _).mono;rintro e G⟨rfl,T⟩;have b:=aq g1 T;have d3:=gC_ b c3;have d4:=gC_ b c4;have d6:=gC_ b c6;have d7:=gC_ b c7;have p4:=gC_ T S;have I:=bE (Z E) T;have c:=bE P b;have f3:χ G ⟨sb,a+3,ν⟩=θ:=fZ_ c;have f4:χ G ⟨sb,a+4,ν⟩=θ:=fZ_ c;have f6:χ G ⟨sb,a+6,ν⟩=θ:=fZ_ c;have l:w.heap.size≠sb:=by omega
 have cy:sb≠w.heap.size:=by omega
 clear c3 c4 c5 c6 c7 c8 q0 q1 q2 q3 S q5 q6 y;obtain⟨ended,K⟩:=exq s.ended;obtain⟨given,z⟩:=exq s.given;obtain⟨last,L⟩:=exq s.last;obtain⟨high,A⟩:=exq s.high;rw[<-K]at d6 j;rw[<-L]at d4 j;rw[<-z]at d7;rw[<-A]at d3;replace⟨K,z,L,A,I,c⟩:=pH K z L A I c;go_upto_region 2 with fail;go_cut [28] (λv wx=>v=β bad/\wx=G);case first=>
  by_cases a3:last<en
  ·cases ended
   ·cases fin
    ·go_wp2_with fail;go_meet;exact⟨by rw[Z j];simp,rfl⟩
    go_wp2_with (first|(go_at_call 257;apply(Z Q _ b).mono;rintro e w5⟨rfl,rfl⟩));go_meet;exact⟨by rw[Z j];simp,rfl⟩
   have cC:decide (last<en)=ρ:=eT a3;go_wp2;go_meet;exact⟨by rw[Z j];simp_all,rfl⟩
  have ch:decide (last<en)=θ:=fc a3;cases ended<;>cases fin;all_goals
   go_wp2_with (first|(go_at_call 257;apply(Z Q _ b).mono;rintro e w5⟨rfl,rfl⟩))
   go_meet
   exact⟨by rw[Z j];simp[ch],rfl⟩
 case rest=>
  obtain⟨rfl,rfl⟩:=hcut;rename ω=>B
  cases bad
  ·have a8:Hid (∀W,W.heap[sb]?=μ (ο (iV cs a s f) t (0,0))->γ w W (μ sb)->s.given=ρ->R (ξ .nilIface) W):=J (λW U V M=>by rw[Z q];exact ψ ⟨(Z x).symm,rfl,Iz H aC f U V M⟩);have N:Hid (∀W,W.heap[sb]?=μ (ο (iV cs a s f) t (0,0))->γ w W (μ sb)->s.given=θ->Calls prog 258 #[π (μ ⟨sb,a,ν⟩),ε (bU f p)] W λr i=>r=ξ (τ #[])/\R (ξ .nilIface) i):=J (λW U V M=>(IA H hn bz aC b0 f p hf hs (bM M) U V M).mono (λr i h=>⟨h.1,by rw[Z q];exact ψ ⟨(Z x).symm,rfl,h.2⟩⟩));unfold bU at N;rw[<-Z k]at N;rw[<-Z z]at a8 N;have X:Hid (iV cs a s f=((cs.setIfInBounds (a+3) (ι η (max high en))).setIfInBounds (a+6) (β (ended||fin))).setIfInBounds (a+4) (ι η (if fin then en else last))):=J (by unfold iV;rw[Z K,Z L,Z A,Z n,Z k]);have a9:Hid (fin=θ->iV cs a s f=cs.setIfInBounds (a+3) (ι η (max high en))):=J (λe=>by rw[Iy f H.c4 H.c6 (by rw[<-Z k];exact e),Z A,Z n]);obtain⟨p0,p1,p2,p3,-,p5,p6⟩:=dI (Z I);replace p0:=kg (n:=sb) p0 l;replace p1:=kg (n:=sb) p1 l;replace p2:=kg (n:=sb) p2 l;replace p3:=kg (n:=sb) p3 l;replace p4:=kg (n:=sb) p4 l;replace p5:=kg (n:=sb) p5 l;replace p6:=kg (n:=sb) p6 l;obtain⟨Y,O⟩:=exq (max high en);rw[<-O]at X a9;replace O:=J O;go_upto_region 4 with fail;go_cut [] (λwx=>wx=ζ B ⟨sb,a+3,ν⟩ (ι η Y));case first=>
    have e5:Hid (Y=if high<en then en else high):=J (by rw[Z O];split<;>omega);by_cases hh:high<en
    ·go_wp2_with fail;go_meet;rw[Z e5,aG hh]
    go_wp2_with fail;go_meet;rw[Z e5,iN_]
   case rest=>
    rename ω=>wd
    have gw:γ B wd (μ sb):=by rw[hcut];exact aM (aD _ _) _ _ (ψ rfl)
    have d:wd.heap[sb]?=μ (ο (cs.setIfInBounds (a+3) (ι η Y)) t (0,0)):=by rw[hcut];exact heap_set (Z c) _
    clear hcut;have k4:κ wd ⟨sb,a+4,ν⟩=μ (ι η last):=by
     rw[aZ d,aN_];exact(aZ (Z c) _).symm.trans d4
    have k6:κ wd ⟨sb,a+6,ν⟩=μ (β ended):=by
     rw[aZ d,aN_];exact(aZ (Z c) _).symm.trans d6
    have k7:κ wd ⟨sb,a+7,ν⟩=μ (β given):=by
     rw[aZ d,aN_];exact(aZ (Z c) _).symm.trans d7
    have f4:χ wd ⟨sb,a+4,ν⟩=θ:=fZ_ d;have f6:χ wd ⟨sb,a+6,ν⟩=θ:=fZ_ d;replace d:=J d;clear d3 d4 d6 d7 f3;go_upto_if 40 with fail;go_cut [] (λwx=>wx.heap[sb]?=μ (ο (iV cs a s f) t (0,0))/\γ B wx (μ sb));case first=>
     cases fin
     ·go_wp2_with fail;go_meet;exact⟨by rw[Z a9 (by trivial)];exact Z d,gw⟩
     go_wp2_with fail;go_meet;simp only[Bool.or_true,dC]at X;exact⟨by rw[Z X];exact heap_set (heap_set (Z d) _) _,aM (aM gw _ _ (ψ rfl)) _ _ (ψ rfl)⟩
    case rest=>
     obtain⟨C,g7⟩:=hcut;have k9:κ wc ⟨sb,a+7,ν⟩=μ (β given):=by
      rw[aZ C,lG _ _ _ _ _,Z z];exact H.c7
     have bt:=aq (dy b (μ sb)) g7;replace C:=J C;clear k4 k6 k7 f4 f6 p4;have p4:∀W,γ B W (μ sb)->κ W ⟨w.heap.size,4,ν⟩=μ (β fin):=by
      have:=(dI (Z I)).2.2.2.2.1;rw[<-Z k]at this;exact kg this l
     cases given
     ·go_wp2_with fail;apply(Z N wc (Z C) bt (by trivial)).mono;rintro e w5⟨rfl,al⟩;replace al:=J al;go_wp2_with fail;exact Z al
     go_wp2_with fail;exact Z a8 wc (Z C) bt (by trivial)
  have ax:R (ξ (.iface 34 (ι δ 7))) B:=by rw[Z q];exact φ ⟨(Z x).symm,rfl,b⟩
  replace ax:=J ax;go_wp2_with fail;exact Z ax
def It.reset(s:It)(f:Fr):It:=
 {s with ended:=ρ,last:=f.offset,given:=ρ,code:=if s.given then s.code else f.code,h:=if s.given then s.h else⟨s.h.fr,[],[]⟩}
def ig(cs:Array υ)(a:Nat)(f:Fr):Array υ:=(cs.setIfInBounds (a+6) (β ρ)).setIfInBounds (a+4) (ι η f.offset)
def mF(cs:Array υ)(a:Nat)(s:It)(f:Fr):Array υ:=(((((ig cs a f).setIfInBounds (a+7) (β ρ)).setIfInBounds (a+5) (ι η f.code)).setIfInBounds a (ι η s.h.fr)).setIfInBounds (a+1) (σ ν 0 0)).setIfInBounds (a+2) (σ ν 0 0)
def IC(H:iB w m C l x z E)(q:kO w j x z)(f:Fr)(r:W.heap[j]?=μ (ο (ig C l f) T (0,0)))(g:γ w W (μ j))(d:E.given=ρ):nU w W j T C l m x z (E.reset f):=by
 have A:=ia H.c8;have b:∀i,i≠l+6->i≠l+4->(ig C l f)[i]?=C[i]? :=λi B D=>by
  unfold ig;rw[aN_,aN_]
 refine⟨_,x,z,⟨r,by simp[ig],λi hi=>b i (by omega) (by omega),(ay.of g).mono (λk _ e=>φ (aQ e).symm),φ rfl⟩,?_,φ rfl⟩
 have p:(E.reset f).h=E.h:=by simp[It.reset,d]
 have s:(E.reset f).code=E.code:=by simp[It.reset,d]
 have t:(E.reset f).given=E.given:=by simp[It.reset,d]
 refine⟨?_,?_,?_,?_,?_,?_,?_,?_,?_,?_,?_⟩
 rw[b _ (by omega) (by omega),p];exact H.c0;rw[b _ (by omega) (by omega)];exact H.c1;rw[b _ (by omega) (by omega)];exact H.c2;rw[b _ (by omega) (by omega)];exact H.c3;unfold ig;exact cJ (by simp;omega);rw[b _ (by omega) (by omega),s];exact H.c5;unfold ig;rw[aN_];exact cJ;rw[b _ (by omega) (by omega),t];exact H.c7;rw[b _ (by omega) (by omega)];exact H.c8;rw[p];exact H.own.gb g (ψ q.1);obtain⟨a,n,c,e,u⟩:=H.set;rw[p];exact⟨a,n,c,e,u.gb g (λy v e2=>by subst v;exact(q.2 y n c e).1 (aQ e2).symm)⟩
def ID(H:iB w m C l x z E)(f:Fr)(p:W.heap[j]?=μ (ο (mF C l E f) T (0,0)))(g:γ w W (μ j))(d:E.given=θ):nU w W j T C l m x z (E.reset f):=by
 have t:=ia H.c8;have a:∀i,i≠l+6->i≠l+4->i≠l+7->i≠l+5->i≠l->i≠l+1->i≠l+2->(mF C l E f)[i]?=C[i]? :=λi u v A B D F G=>by
  unfold mF ig;rw[aN_,aN_,aN_,aN_,aN_,aN_,aN_]
 refine⟨_,σ ν 0 0,σ ν 0 0,⟨p,by simp[mF,ig],λi hi=>a i (by omega) (by omega) (by omega) (by omega) (by omega) (by omega) (by omega),(ay.of g).mono (λk _ e=>φ (aQ e).symm),ψ (λk e=>by cases e)⟩,?_,ψ (λy n c e=>by cases e)⟩
 have b:(E.reset f).h=⟨E.h.fr,[],[]⟩:=by simp[It.reset,d]
 have q:(E.reset f).code=f.code:=by simp[It.reset,d]
 refine⟨?_,?_,?_,?_,?_,?_,?_,?_,?_,?_,?_⟩
 unfold mF;rw[aN_,aN_,b];exact cJ (by simp[ig];omega);unfold mF;rw[aN_];exact cJ (by simp[ig];omega);unfold mF;exact cJ (by simp[ig];omega);rw[a _ (by omega) (by omega) (by omega) (by omega) (by omega) (by omega) (by omega)];exact H.c3;unfold mF ig;rw[aN_,aN_,aN_,aN_,aN_];exact cJ (by simp;omega);unfold mF;rw[aN_,aN_,aN_,q];exact cJ (by simp[ig];omega);unfold mF ig;rw[aN_,aN_,aN_,aN_,aN_,aN_];exact cJ;unfold mF;rw[aN_,aN_,aN_,aN_];exact cJ (by simp[ig];omega);rw[a _ (by omega) (by omega) (by omega) (by omega) (by omega) (by omega) (by omega)];exact H.c8;rw[b];exact bn.nil _ _;rw[b];exact⟨ν,0,0,rfl,λr s=>by simp at s,rfl,aP _,by simp[maxLen],φ rfl⟩
def IE(w:ω)(sb a C:Nat)(cs:Array υ)(t:TypeId)(vb vc:υ)(s:It)(q:w.heap[sb]?=μ (ο cs t (0,0)))(H:iB w C cs a vb vc s)(T:kO w sb vb vc)(f:Fr)(D:υ):
 Calls prog 218 #[π (μ ⟨sb,a,ν⟩),ε (bU f D)] w λr u=>(s.gO f.offset=ρ/\r=ξ (.iface 34 (ι δ 7))/\γ w u ν)\/(s.gO f.offset=θ/\r=ξ .nilIface/\nU w u sb t cs a C vb vc (s.reset f)):=by
 obtain⟨R,v⟩:∃R:Ending->ω->Prop,R=λr u=>(s.gO f.offset=ρ/\r=ξ (.iface 34 (ι δ 7))/\γ w u ν)\/(s.gO f.offset=θ/\r=ξ .nilIface/\nU w u sb t cs a C vb vc (s.reset f)):=⟨_,rfl⟩
 rw[<-v];have K:=H.tail q;have E:=J (λW(g:γ w W ν)=>B8 W sb a s (K.au g) f.offset);have b0:sb<w.heap.size:=(bg.1 q).1;have L:Hid (s.gO f.offset=ρ->∀W,γ w W ν->R (ξ (.iface 34 (ι δ 7))) W):=J (λh W g=>by rw[v];exact φ ⟨h,rfl,g⟩);have F:Hid (s.gO f.offset=θ->∀W,W.heap[sb]?=μ (ο (ig cs a f) t (0,0))->γ w W (μ sb)->s.given=ρ->R (ξ .nilIface) W):=J (λh W x y A=>by rw[v];exact ψ ⟨h,rfl,IC H T f x y A⟩);have G:Hid (s.gO f.offset=θ->∀W,W.heap[sb]?=μ (ο (mF cs a s f) t (0,0))->γ w W (μ sb)->s.given=θ->R (ξ .nilIface) W):=J (λh W x y A=>by rw[v];exact ψ ⟨h,rfl,ID H f x y A⟩);clear v;obtain⟨U,M⟩:=exq (s.gO f.offset);rw[<-M]at E L F G;clear M;obtain⟨c3,c4,c5,c6,c7,c8⟩:=K;have c0:=(aZ q _).trans H.c0;have c1:=(aZ q _).trans H.c1;have c2:=(aZ q _).trans H.c2;obtain⟨l,p⟩:=exq (w.alloc (ο (bU f D) 158));have c:γ w l ν:=by rw[p];exact aJ _ _ _
 have I:l.heap[w.heap.size]?=μ (ο (bU f D) 158 (0,0)):=by rw[p];exact aO _ _
 obtain⟨V,X,Y,N,q4,q5,q6⟩:=dI I;have k:=bE q c;have d0:=gC_ c c0;have d1:=gC_ c c1;have d2:=gC_ c c2;have d4:=gC_ c c4;have d5:=gC_ c c5;have d6:=gC_ c c6;have d7:=gC_ c c7;have f0:χ l ⟨sb,a,ν⟩=θ:=fZ_ k;have f1:χ l ⟨sb,a+1,ν⟩=θ:=fZ_ k;have f2:χ l ⟨sb,a+2,ν⟩=θ:=fZ_ k;have f4:χ l ⟨sb,a+4,ν⟩=θ:=fZ_ k;have f5:χ l ⟨sb,a+5,ν⟩=θ:=fZ_ k;have f6:χ l ⟨sb,a+6,ν⟩=θ:=fZ_ k;have f7:χ l ⟨sb,a+7,ν⟩=θ:=fZ_ k;clear c0 c1 c2 c3 c4 c5 c6 c7 c8 V X q4 q5 q6;unfold bU at p;unfold bU;replace⟨I,k⟩:=bD I k;have nS:w.heap.size≠sb:=by omega
 obtain⟨given,B⟩:=exq s.given;rw[<-B]at d7 F G;replace B:=J B;have hA:Hid (ig cs a f=(cs.setIfInBounds (a+6) (β ρ)).setIfInBounds (a+4) (ι η f.offset)):=J rfl;have hB:Hid (mF cs a s f=(((((ig cs a f).setIfInBounds (a+7) (β ρ)).setIfInBounds (a+5) (ι η f.code)).setIfInBounds a (ι η s.h.fr)).setIfInBounds (a+1) (σ ν 0 0)).setIfInBounds (a+2) (σ ν 0 0)):=J rfl;cases U
 ·go_enter func218,ntmps218;go_wp2_with fail;rw[<-p];clear p;apply(Z E _ c).mono;rintro e O⟨rfl,rfl⟩;go_upto_region 3 with fail;go_cut [] (λwx=>wx.heap[sb]?=μ (ο (ig cs a f) t (0,0))/\γ O wx (μ sb));case first=>
   go_region;go_wp2;go_meet;exact⟨by rw[Z hA];exact heap_set (heap_set (Z k) _) _,aY (aM (aM (aD _ _) _ _ (ψ rfl)) _ _ (ψ rfl))⟩
  case rest=>
   obtain⟨b,P⟩:=hcut;rename ω=>d
   have j:∀i,i≠a+6->i≠a+4->(ig cs a f)[i]?=cs[i]? :=λi x y=>by
    unfold ig;rw[aN_,aN_]
   have e0:κ d ⟨sb,a,ν⟩=μ (ι η s.h.fr):=by rw[aZ b,j _ (by omega) (by omega)];exact H.c0
   have e1:κ d ⟨sb,a+1,ν⟩=μ vb:=by rw[aZ b,j _ (by omega) (by omega)];exact H.c1
   have e2:κ d ⟨sb,a+2,ν⟩=μ vc:=by rw[aZ b,j _ (by omega) (by omega)];exact H.c2
   have e5:κ d ⟨sb,a+5,ν⟩=μ (ι η s.code):=by rw[aZ b,j _ (by omega) (by omega)];exact H.c5
   have e7:κ d ⟨sb,a+7,ν⟩=μ (β given):=by rw[aZ b,j _ (by omega) (by omega),Z B];exact H.c7
   have r0:χ d ⟨sb,a,ν⟩=θ:=fZ_ b;have r1:χ d ⟨sb,a+1,ν⟩=θ:=fZ_ b;have r2:χ d ⟨sb,a+2,ν⟩=θ:=fZ_ b;have r5:χ d ⟨sb,a+5,ν⟩=θ:=fZ_ b;have r7:χ d ⟨sb,a+7,ν⟩=θ:=fZ_ b;have bt:=P.cell N (λe=>nS (aQ e));have Q:=aq (dy c (μ sb)) P;clear j d0 d1 d2 d4 d5 d6 d7 f0 f1 f2 f4 f5 f6 f7 Y N;replace b:=J b;cases given
   ·go_upto_region 5 with fail;go_cut [] (λwx=>wx=((ζ d ⟨sb,a+7,ν⟩ (β ρ)).setCell ⟨sb,a+5,ν⟩ (ι η f.code)).drew);case first=>
     go_region;go_wp2;go_meet;rfl
    case rest=>
     rename ω=>m
     have n:m.heap[sb]?=μ (ο (((ig cs a f).setIfInBounds (a+7) (β ρ)).setIfInBounds (a+5) (ι η f.code)) t (0,0)):=by rw[hcut];exact heap_set (heap_set (Z b) _) _
     have g4:γ w m (μ sb):=by rw[hcut];exact aY (aM (aM Q _ _ (ψ rfl)) _ _ (ψ rfl))
     clear hcut;have j:∀i,i≠a+6->i≠a+4->i≠a+7->i≠a+5->(((ig cs a f).setIfInBounds (a+7) (β ρ)).setIfInBounds (a+5) (ι η f.code))[i]?=cs[i]? :=λi x y A h4=>by
      unfold ig;rw[aN_,aN_,aN_,aN_]
     have e0:κ m ⟨sb,a,ν⟩=μ (ι η s.h.fr):=by rw[aZ n,j _ (by omega) (by omega) (by omega) (by omega)];exact H.c0
     have e1:κ m ⟨sb,a+1,ν⟩=μ vb:=by rw[aZ n,j _ (by omega) (by omega) (by omega) (by omega)];exact H.c1
     have e2:κ m ⟨sb,a+2,ν⟩=μ vc:=by rw[aZ n,j _ (by omega) (by omega) (by omega) (by omega)];exact H.c2
     have r0:χ m ⟨sb,a,ν⟩=θ:=fZ_ n;have r1:χ m ⟨sb,a+1,ν⟩=θ:=fZ_ n;have r2:χ m ⟨sb,a+2,ν⟩=θ:=fZ_ n;clear j e5 e7 r5 r7 bt;replace n:=J n;obtain⟨S,z⟩:=exq (((ζ m ⟨sb,a,ν⟩ (ι η s.h.fr)).setCell ⟨sb,a+1,ν⟩ (σ ν 0 0)).setCell ⟨sb,a+2,ν⟩ (σ ν 0 0));have bz:Hid (S.heap[sb]?=μ (ο (mF cs a s f) t (0,0))):=J (by rw[z,Z hB];exact heap_set (heap_set (heap_set (Z n) _) _) _);have g5:γ w S (μ sb):=by rw[z];exact aM (aM (aM g4 _ _ (ψ rfl)) _ _ (ψ rfl)) _ _ (ψ rfl)
     replace z:=J z;go_wp2_with fail;rw[<-Z z];exact Z G (by trivial) _ (Z bz) g5 (by trivial)
   go_wp2_with fail;exact Z F (by trivial) _ (Z b) Q (by trivial)
 go_enter func218,ntmps218;go_wp2_with fail;rw[<-p];clear p;apply(Z E _ c).mono;rintro e O⟨rfl,rfl⟩;go_wp2_with fail;exact Z L (by trivial) _ c
def It.iW(s:It)(aH:Int):Nat:=(max 0 (min aH (cL s.h))).toNat
def It.read(s:It)(aH:Int):It:=
 if s.given&& !s.over then s else
  {s with h:=⟨s.h.fr+s.iW aH,s.h.bytes.drop (s.iW aH),s.h.af⟩,over:=s.ended&&(s.h.fr+s.iW aH==s.last)}
def It.out(s:It)(aH:Int):List Int:=if s.given&& !s.over then[]else s.h.bytes.take (s.iW aH)
def It.state(s:It)(aH:Int):Int:=if s.given&& !s.over then 2 else if(s.read aH).over then 1 else 0
def It.jB(s:It):Int:=if s.given&& !s.over then s.code else 0
def zB(w:ω)(sb:Nat)(t:TypeId)(cs:Array υ)(f g:Nat)(vb vc:υ)(s:It)(aH:Int)(e:Ending)(d:ω):Prop:=
 ∃a n c b,e=ξ (τ #[σ a n c,ι δ (s.state aH),ι η s.jB])/\bn d w.heap.size (σ a n c) (s.out aH)/\γ w b ν/\(∀j,(Value.slice a n c).ownBlock=μ j->j<b.heap.size)/\nU b d sb t cs f g vb vc (s.read aH)
def IF(a:w.heap[n]?=μ (ο c T (0,0)))(H:iB w i c k x y E)(g:γ w W ν):nU w W n T c k i x y E:=
 ⟨c,x,y,sZ.Cn a g _ _ _,H.au g,φ rfl⟩
def IG(a:Option Addr)(n cap i:Nat)(h:i<=cap)(W:ω):(Instr.slice 112 (σ a n cap) ν (μ (ι δ i)) (μ (ι δ i))).run prog W=.ok (σ a i i) W:=by
 rw[run_slice_hm W 112 a n cap (by rw[sY];exact underlying112) δ δ (i:Int) (i:Int) (by omega) (cE _) (by omega),sY,zp];simp only[jh,sliced,oE,oH,Nat.sub_zero]
 congr 1;cases a with
 |none=>simp
 |some y=>simp[Addr.add]
def IH(h:bN w a n k L)(m:Nat)(f:m<=n):bN w a m m (L.take m):=by
 obtain⟨d,g,i,j,c⟩:=h;refine⟨λx e=>d x (jg e),by rw[ct];omega,aP _,by omega,?_⟩
 obtain⟨c,l⟩|⟨b,o,rfl,c⟩:=c
 exact φ ⟨c,by omega⟩;exact ψ ⟨b,o,rfl,zu c m⟩
def vcs(cs:Array υ)(a:Nat)(fr:Int)(vb:υ)(ov:Bool):Array υ:=((cs.setIfInBounds a (ι η fr)).setIfInBounds (a+1) vb).setIfInBounds (a+8) (β ov)
def II(H:iB w m C l x z E)(f:kO w j x z)(q:m<=w.heap.size)(r:(E.given&& !E.over)=θ)
 (s:W.heap[j]?=μ (ο (vcs C l (E.h.fr+E.iW p) y (E.ended&&(E.h.fr+E.iW p==E.last))) T (0,0))) (g:γ w W (μ j)) (ho:bn W w.heap.size y (E.h.bytes.drop (E.iW p))):nU w W j T C l m x z (E.read p):=by
 have A:=ia H.c8;have d:E.read p={E with h:=⟨E.h.fr+E.iW p,E.h.bytes.drop (E.iW p),E.h.af⟩,over:=E.ended&&(E.h.fr+E.iW p==E.last)}:=by simp[It.read,r]
 have b:∀i,i≠l->i≠l+1->i≠l+8->(vcs C l (E.h.fr+E.iW p) y (E.ended&&(E.h.fr+E.iW p==E.last)))[i]?=C[i]? :=λi B D F=>by
  unfold vcs;rw[aN_,aN_,aN_]
 have t:∀k,y.ownBlock=μ k->w.heap.size<=k:=λk e=>(ho.lt k e).1
 rw[d];refine⟨_,y,z,⟨s,by simp[vcs],λi hi=>b i (by omega) (by omega) (by omega),(ay.of g).mono (λk _ e=>φ (aQ e).symm),ψ t⟩,⟨?_,?_,?_,?_,?_,?_,?_,?_,?_,?_,?_⟩,φ rfl⟩
 unfold vcs;rw[aN_,aN_];exact cJ;unfold vcs;rw[aN_];exact cJ (by simp;omega);rw[b _ (by omega) (by omega) (by omega)];exact H.c2;rw[b _ (by omega) (by omega) (by omega)];exact H.c3;rw[b _ (by omega) (by omega) (by omega)];exact H.c4;rw[b _ (by omega) (by omega) (by omega)];exact H.c5;rw[b _ (by omega) (by omega) (by omega)];exact H.c6;rw[b _ (by omega) (by omega) (by omega)];exact H.c7;unfold vcs;exact cJ (by simp;omega);exact ho.low q;obtain⟨a,n,c,e,d⟩:=H.set;exact⟨a,n,c,e,d.gb g (λu v e2=>by subst v;exact(f.2 u n c e).1 (aQ e2).symm)⟩
def IJ(w:ω)(sb d B:Nat)(cs:Array υ)(t:TypeId)(vb vc:υ)(s:It)(q:w.heap[sb]?=μ (ο cs t (0,0)))(H:iB w B cs d vb vc s)(C:s.h.nice)(bj:B<=w.heap.size)(D:kO w sb vb vc)(aH:Int)(hw:0<=cL s.h/\cL s.h<=s.h.bytes.length):
 Calls prog 167 #[π (μ ⟨sb,d,ν⟩),ι δ aH] w (zB w sb t cs d B vb vc s aH):=by
 obtain⟨ab,nb,cb,ac,nc,cc,rfl,rfl⟩:=H.nT;have hT:=H.tail q;have cC:sb<w.heap.size:=(bg.1 q).1;obtain⟨c3,c4,c5,c6,c7,c8⟩:=hT;by_cases k:(s.given&& !s.over)=ρ
 ·have bx:s.given=ρ:=by simp at k;exact k.1
  have m:s.over=θ:=by simp at k;exact k.2
  rw[bx]at c7;rw[m]at c8;have hF:Hid (∀W,γ w W ν->zB w sb t cs d B (σ ab nb cb) (σ ac nc cc) s aH (ξ (τ #[σ ν 0 0,ι δ 2,ι η s.code])) W):=J (λW g=>⟨ν,0,0,w,by simp[It.state,It.jB,k],by simp only[It.out,k,dC];exact bn.nil _ _,aD _ _,λj e=>(by cases e),by simp only[It.read,k,dC];exact IF q H g⟩);go_enter func167,ntmps167;go_wp2_with fail;go_region;go_wp2_with fail;exact df (v:=τ #[σ ν 0 0,ι δ 2,ι η s.code]) (by simp[results,results167,go_sem]) rfl (Z hF _ (aY (aD _ _)))
 have u:(s.given&& !s.over)=θ:=by simpa using k
 have E:=H.own.iy.2.1;have c9:=H.own.iy.2.2.1;obtain⟨N,I⟩:=exq (s.iW aH);have bz:N<=nb:=by
  rw[I,E];unfold It.iW;omega
 have HD:=H.hd q C;have aC:=J (B6 w sb d ab nb cb ac nc cc s.h HD ⟨hw.1,by have:=C.2.1;have:=C.1;omega⟩);have a0:=J (λW(g:γ w W ν)=>Cf W sb d cs t ab nb cb ac nc cc s.h (bE q g) (HD.au g) N (by have:=C.2.1;omega) (λy e=>by subst e;exact λe2=>D.1 (by rw[<-e2];rfl)));have hF:Hid (∀(W x:ω)(a:Option Addr)(n c:Nat)(U:υ)(r:Int),γ w x ν->bn x w.heap.size (σ a n c) (s.h.bytes.take N)->γ x W (μ sb)->(Value.slice a n c).ownBlock≠μ sb->W.heap[sb]?=μ (ο (vcs cs d (s.h.fr+N) U (s.ended&&(s.h.fr+N==s.last))) t (0,0))->bn W x.heap.size U (s.h.bytes.drop N)->r=(if(s.ended&&(s.h.fr+N==s.last))then 1 else 0)->zB w sb t cs d B (σ ab nb cb) (σ ac nc cc) s aH (ξ (τ #[σ a n c,ι δ r,ι η 0])) W):=J (λW x a n c U r h0 K L h3 h4 h6 h7=>by
  subst I;refine⟨a,n,c,x,?_,?_,h0,λj e=>(K.lt j e).2,II (H.au h0) ⟨D.1,λy n c e=>⟨(D.2 y n c e).1,(D.2 y n c e).2.1,cu (D.2 y n c e).2.2 h0.size⟩⟩ (bK bj h0.size) u h4 L h6⟩
  simp only[It.state,It.jB,u,eN,eA,It.read,h7]
  ·simp only[It.out,u,eN,eA];exact K.gb L (ψ h3))
 have V:bN w ab N N (s.h.bytes.take N):=IH H.own.iy N bz;have jq:∀W,(Instr.slice 112 (σ ab nb cb) ν (μ (ι δ N)) (μ (ι δ N))).run prog W=.ok (σ ab N N) W:=λW=>IG ab nb cb N (by omega) W
 have b5:Hid ((N:Int)=max 0 (min aH (cL s.h))):=J (by rw[I];unfold It.iW;omega);have b6:Hid (s.h.bytes.length<=1000000):=J C.2.2.2.1;replace⟨V,E⟩:=bD V E;have c1:=(aZ q _).trans H.c1;clear I k;obtain⟨given,a1⟩:=exq s.given;obtain⟨over,a2⟩:=exq s.over;rw[<-a1]at c7 u;rw[<-a2]at c8 u;clear a1 a2;generalize cL s.h=wh at *;go_enter func167,ntmps167;go_upto_region 1 with fail;go_cut [19] (λv wx=>v=β θ/\wx=w);case first=>
  cases given<;>cases over<;>simp at u;all_goals
   go_wp2
   go_meet
   exact⟨rfl,rfl⟩
 case rest=>
  obtain⟨rfl,rfl⟩:=hcut;go_upto_region 3 with fail;go_cut [7] (λv wx=>v=ι δ N/\γ wc wx ν);case first=>
   go_wp2_with fail;apply(Z aC).mono;rintro e M⟨rfl,z⟩;by_cases K:wh<aH<;>by_cases L:0<min aH wh;all_goals
    go_wp2_with fail
    all_goals
     go_meet
     refine⟨?_,z⟩
     have:=Z b5
     congr 1
     omega
  case rest=>
   rename ω=>M
   obtain⟨rfl,z⟩:=hcut;have d1:=gC_ z c1;have b7:=J ((Z V).au z);have b8:Hid ((s.h.bytes.take N).length=N):=J (by rw[ct];have:=Z E;omega);have db:N<=1000000:=by have:=Z E;have:=Z b6;omega
   go_upto_region 4 with fail;go_cut [8] (λv wx=>∃a n c,v=σ a n c/\bn wx M.heap.size (σ a n c) (s.h.bytes.take N)/\γ M wx ν);case first=>
    go_wp2_with (at_builtin;refine BH (by rfl) _ (by rfl) _ _ _ (s.h.bytes.take N) (by rfl) (Z b7) (by have:=Z b8;omega) ?_;intro A c4 F l X;replace l:=J l);all_goals
     go_meet
     refine⟨A,_,c4,rfl,?_,X⟩
     have:=Z l
     simpa [ct]using this
   case rest=>
   rename ω=>F
   obtain⟨A,n4,O,rfl,l,X⟩:=hcut;have P:=aq z X;replace l:=J l;go_wp2_with (first|(go_at_call 221;apply(Z a0 F P).mono;rintro e p⟨rfl,a5,Q,g5,f,R,de⟩));have ca:γ wc p (μ sb):=aq (dy P _) g5;obtain⟨a8,G⟩:=exq ((cs.setIfInBounds d (ι η (s.h.fr+N))).setIfInBounds (d+1) (σ a5 (s.h.bytes.drop N).length Q));rw[<-G]at f;have hz:=ia H.c8;have S:∀i,i≠d->i≠d+1->a8[i]?=cs[i]? :=λi K L=>by
    rw[G,aN_,aN_]
   have e0:κ p ⟨sb,d,ν⟩=μ (ι η (s.h.fr+N)):=by
    rw[aZ f,G,aN_];exact cJ
   have e4:κ p ⟨sb,d+4,ν⟩=μ (ι η s.last):=by rw[aZ f,S _ (by omega) (by omega)];exact H.c4
   have e6:κ p ⟨sb,d+6,ν⟩=μ (β s.ended):=by rw[aZ f,S _ (by omega) (by omega)];exact H.c6
   have e8:κ p ⟨sb,d+8,ν⟩=μ (β s.over):=by rw[aZ f,S _ (by omega) (by omega)];exact H.c8
   have f8:χ p ⟨sb,d+8,ν⟩=θ:=fZ_ f;have a9:Hid (∀b,a8.setIfInBounds (d+8) (β b)=vcs cs d (s.h.fr+N) (σ a5 (s.h.bytes.drop N).length Q) b):=J (λb=>by rw[G];rfl);clear c3 c4 c5 c6 c7 c8 c1 d1 S;replace⟨f,R⟩:=bD f R;clear G a0 aC;obtain⟨ov,m⟩:=exq ((s.ended&&(s.h.fr+N==s.last)));rw[<-m]at hF;replace m:=J m;go_upto_region 6 with fail;go_cut [] (λwx=>wx.heap[sb]?=μ (ο (vcs cs d (s.h.fr+N) (σ a5 (s.h.bytes.drop N).length Q) ov) t (0,0))/\γ p wx (μ sb));case first=>
    generalize ch:s.ended=ended at *;generalize cj:s.last=last at *;generalize cp:s.h.fr+(N:Int)=fn at *;clear ch cj cp;cases ended
    ·go_big_region;go_wp2;go_meet;refine⟨?_,?_⟩
     rw[Z m,<-Z a9];exact heap_set (Z f) _;exact aY (aM (aD _ _) _ _ (ψ rfl))
    go_region;go_wp2;go_meet;refine⟨?_,?_⟩
    rw[Z m,<-Z a9];exact heap_set (Z f) _;exact aY (aM (aD _ _) _ _ (ψ rfl))
   case rest=>
    rename ω=>Y
    obtain⟨T,g6⟩:=hcut;have k8:κ Y ⟨sb,d+8,ν⟩=μ (β ov):=by
     rw[aZ T];unfold vcs;exact cJ (by simp;omega)
    have dE:=aq ca g6;have dG:wc.heap.size<=F.heap.size:=P.size;have cv:wc.heap.size<=M.heap.size:=z.size;have cw:Hid (bn Y F.heap.size (σ a5 (s.h.bytes.drop N).length Q) (s.h.bytes.drop N)):=J ((Z R).gb g6 (ψ (λe=>by have:=((Z R).lt _ e).1;omega)));have cx:(Value.slice A n4 O).ownBlock≠μ sb:=λe=>by have:=((Z l).lt _ e).1;omega
    have bb:=J (λr hr=>Z hF Y F A n4 O _ r P ((Z l).low cv) (aq g5 g6) cx T (Z cw) hr);replace T:=J T;clear hF;cases ov
    ·go_wp2_with fail;exact df (v:=τ #[σ A n4 O,ι δ 0,ι η 0]) (by simp[results,results167,go_sem]) rfl (Z bb 0 rfl)
    go_wp2_with fail;exact df (v:=τ #[σ A n4 O,ι δ 1,ι η 0]) (by simp[results,results167,go_sem]) rfl (Z bb 1 rfl)
