import Derived.Test.YtjnmokmchdfchaaGreatDoorZS6
import Derived.Test.YtjnmokmchdfchaaGreatDoorZS7
import Derived.Test.YtjnmokmchdfchaaGreatDoorZS9
set_option maxRecDepth 1000000
set_option maxHeartbeats 0
set_option linter.all false
namespace Go.Proofs.YtjnmokmchdfchaaGreatDoor
open Go.RowKit Tryz
open Go.Value renaming int→I,slice→Y,bool→β,pointer→π,agg→ε,string→ς,tuple→τ
open Go.IntKind renaming i64→X,u64→U,u8→Δ
open Go.Ending renaming returned→ξ
open Go.Obj renaming cells→ο
open Or renaming inl→φ,inr→ψ
open Option renaming some→E,none→N
open Bool renaming true→ρ,false→θ
open Go renaming World→D,Value→υ
open Go.World renaming grownBy→G,cell?→κ,frozen?→χ,setCell→ζ
attribute[local go_sem↓]Go.wp_at_zero Go.wp_at_succ
variable{C c:Array υ}{p q r:Int}{L:List Int}{s:List Rg}{i j k l m n o:Nat}{S:Nat->Prop}{a:Option Addr}{H:Ot}{T:TypeId}{x y z:υ}{V W v w:D}
def pW(w a:D)(sb:Nat)(t:TypeId)(f:Array υ)(c g:Nat)(h vc:υ)(s:It):Prop:=
 ∃d b e,tI w a sb t f d c 9 h b/\iY a g d c b e s/\zH w a b vc e
def jF(b:Array υ)(a:Nat)(s:It)(f:Fr):Array υ:=
 ((b.setIfInBounds (a+3) (I U (max s.high (bm f)))).setIfInBounds (a+6) (β (s.ended||f.fin))).setIfInBounds (a+4) (I U (if f.fin then bm f else s.last))
def lN(b:Array υ)(a:Nat)(s:It)(f:Fr)(i:Nat)(h:i≠a+3/\i≠a+6/\i≠a+4:=by omega):(jF b a s f)[i]?=b[i]? :=by
 unfold jF;grind
def CA(s:It)(f:Fr)(h:n+8<c.size):(jF c n s f)[n+3]?=E (I U (max s.high (bm f)))/\(jF c n s f)[n+6]?=E (β (s.ended||f.fin))/\(jF c n s f)[n+4]?=E (I U (if f.fin then bm f else s.last)):=by
 unfold jF;refine⟨?_,?_,?_⟩
 rw[ë,ë];exact cU;grind;grind
def Jk{s:It}(f:Fr)(b:c[n+4]?=E (I U s.last))(d:c[n+6]?=E (β s.ended))(a:f.fin=θ):jF c n s f=c.setIfInBounds (n+3) (I U (max s.high (bm f))):=by
 unfold jF;rw[a];simp only[Bool.or_false,iJ,iV]
 rw[vu (x:=β s.ended) (by grind),vu (x:=I U s.last) (by grind)]
def Jl{s:It}(H:iY w m C l x z s)(d:kY w j x z)(f:Fr)(p:W.heap[j]?=E (ο (jF C l s f) T (0,0)))(g:G w W (E j))(q:s.given=ρ):pW w W j T C l m x z (s.data f):=by
 let⟨k3,r,k4⟩:=CA s f (jw H.c8)
 refine⟨_,x,z,⟨p,by simp[jF],λi hi=>lN _ _ _ _ _,(aj.of g).mono (λk _ e=>φ (aR e).symm),φ Q⟩,?_,φ Q⟩
 have b:(s.data f).h=s.h:=by simp[It.data,q]
 refine⟨?_,?_,?_,k3,k4,?_,r,?_,?_,?_,?_⟩
 rw[lN _ _ _ _ _,b];exact H.c0;rw[lN _ _ _ _ _];exact H.c1;rw[lN _ _ _ _ _];exact H.c2;rw[lN _ _ _ _ _];exact H.c5;rw[lN _ _ _ _ _];exact H.c7;rw[lN _ _ _ _ _];exact H.c8;rw[b];exact H.own.gb g (ψ d.1);let⟨a,n,c,e,t⟩:=H.set
 rw[b];exact⟨a,n,c,e,t.gb g (λy u e2=>by subst u;exact(d.2 y n c e).1 (aR e2).symm)⟩
def Jm{s:It}(H:iY w o c l x z s)(M:s.h.nice)(P:o<=w.heap.size)(p:kY w j x z)(a3:j<w.heap.size)(f:Fr)(B:υ)(R:0<=f.offset)(hs:bm f<=4611686018427387903)(S:∀m,f.offset<=m->m<bm f->¬Sm s.h.af m->s.h.fr<=m/\m<s.h.fr+900000)
 (t:W.heap[j]?=E (ο (jF c l s f) T (0,0))) (g:G w W (E j)) (V:s.given=θ):
 Calls prog 258 #[π (E ⟨j,l,N⟩),ε (bC f B)] W λr F=>r=ξ (τ #[])/\pW w F j T c l o x z (s.data f):=by
 obtain⟨ab,K,cb,ac,nc,d,rfl,rfl⟩:=H.oE;have u:bq w ac nc d s.h.af:=by let⟨a,n,v,e,u⟩:=H.set;cases e;exact u
 have ai:=u.gb g (λy hy e2=>by subst hy;exact(p.2 y nc d Q).1 (aR e2).symm);have L:=H.own.gb g (ψ p.1);let⟨k3,k6,k4⟩:=CA s f (jw H.c8)
 have HD:iM W j l ab K cb ac nc d s.h:=by
  refine⟨?_,?_,?_,L.eV,ai,M⟩
  rw[ba t,lN _ _ _ _ _];exact H.c0;rw[ba t,lN _ _ _ _ _];exact H.c1;rw[ba t,lN _ _ _ _ _];exact H.c2
 apply(Jj W j l o _ T ab K cb ac nc d s.h t HD L (bG P g.size) p.1 (λy e=>⟨(p.2 y nc d (by rw[e])).1,(p.2 y nc d (by rw[e])).2.1⟩) f B R hs S).mono;rintro r F⟨rfl,a,n,v,A,n2,c2,hb,o',r',C,new,fr⟩;refine⟨Q,_,Y a n v,Y A n2 c2,⟨hb,by simp[jF],λi hi=>?_,((aj.of g).trans C).mono (λk _ q=>?_),new.imp id (λe k hk=>bG g.size (e k hk))⟩,?_,?_⟩
 rw[ë,ë,lN _ _ _ _ _];obtain q|q:=q
 exact φ (aR q).symm;exact q;have hz:=jw H.c8;have hd:(s.data f).h=⟨s.h.fr,iP s.h.fr f.offset (bl f.data) (kK s.h.af ⟨f.offset,bm f⟩) s.h.bytes,eu s.h.af ⟨f.offset,bm f⟩⟩:=by simp[It.data,V]
 have b:∀i,i≠l+1->i≠l+2->(((jF c l s f).setIfInBounds (l+1) (Y a n v)).setIfInBounds (l+2) (Y A n2 c2))[i]?=(jF c l s f)[i]? :=λi h1 h2=>by
  grind
 refine⟨?_,?_,?_,?_,?_,?_,?_,?_,?_,?_,?_⟩
 rw[b _ O O,lN _ _ _ _ _,hd];exact H.c0;rw[ë];exact cU (by simp[jF];omega);exact cU (by simp[jF];omega);rw[b _ O O];exact k3;rw[b _ O O];exact k4;rw[b _ O O,lN _ _ _ _ _];exact H.c5;rw[b _ O O];exact k6;rw[b _ O O,lN _ _ _ _ _];exact H.c7;rw[b _ O O,lN _ _ _ _ _];exact H.c8;rw[hd];exact o';rw[hd];exact⟨A,n2,c2,Q,r'⟩
 obtain⟨rfl,rfl,rfl⟩|fr:=fr
 exact φ Q;exact ψ (λy n3 c3 e=>by cases e;exact⟨bG g.size (fr y Q).1,(fr y Q).2.1,(fr y Q).2.2⟩)
def Jn(w:D)(sb a al:Nat)(b:Array υ)(t:TypeId)(vb vc:υ)(s:It)(ao:w.heap[sb]?=E (ο b t (0,0)))(H:iY w al b a vb vc s)(hn:s.h.nice)(bb:al<=w.heap.size)(a2:kY w sb vb vc)
 (f:Fr) (p:υ) (hf:0<=f.offset) (hs:bm f<=4611686018427387903) (bj:s.given=θ->∀m,f.offset<=m->m<bm f->¬Sm s.h.af m->s.h.fr<=m/\m<s.h.fr+900000):
 Calls prog 219 #[π (E ⟨sb,a,N⟩),ε (bC f p)] w λr u=>(s.bad f=ρ/\r=ξ (.iface 34 (I X 7))/\G w u N)\/(s.bad f=θ/\r=ξ .nilIface/\pW w u sb t b a al vb vc (s.data f)):=by
 obtain⟨ab,nb,cb,ac,nc,cc,rfl,rfl⟩:=H.oE;refine fL λR x=>?_
 replace x:=J x;have F:=J (λW=>zt W f p hf O);have hT:=H.tail ao;have ax:=J (λW(g:G w W N)=>Ck W sb a s (hT.ag g) (bm f));have br:=(aV.1 ao).1;let⟨c3,c4,c5,c6,c7,c8⟩:=hT
 obtain⟨W1,y⟩:=í (w.alloc (ο (bC f p) 158));have g1:G w W1 N:=by rw[y];exact aC _ _ _
 have K:W1.heap[w.heap.size]?=E (ο (bC f p) 158 (0,0)):=by rw[y];exact aM _ _
 let⟨q0,q1,q2,q3,q4,q5,q6⟩:=bQ K
 have j:Hid (s.bad f=((s.ended&&decide (s.last<bm f))||(f.fin&&s.iO (bm f)))):=J Q;obtain⟨bad,q⟩:=í (s.bad f);obtain⟨en,n⟩:=í (bm f);obtain⟨mv,L⟩:=í (s.iO (bm f));rw[<-q,<-L,<-n]at j;rw[<-L,<-n]at ax;rw[<-n]at F;replace⟨q,L,n⟩:=cA q L n;unfold bC at y F;unfold bC;obtain⟨fin,k⟩:=í f.fin;rw[<-k]at q4 y F j;simp only[<-k]
 replace⟨k,K⟩:=aT k K;go_enter func219,ntmps219;go_wp2_with fail;rw[<-y];apply(Z F _).mono;rintro e M⟨rfl,g2⟩;have c:=aq g1 g2;have d3:=ì c c3;have d4:=ì c c4;have d6:=ì c c6;have d7:=ì c c7;have p4:=ì g2 q4;have P:=bp (Z K) g2;have d:=bp ao c;have f3:χ M ⟨sb,a+3,N⟩=θ:=ç d;have f4:χ M ⟨sb,a+4,N⟩=θ:=ç d;have f6:χ M ⟨sb,a+6,N⟩=θ:=ç d;have l:w.heap.size≠sb:=O;have bw:sb≠w.heap.size:=O;obtain⟨ended,S⟩:=í s.ended;obtain⟨given,z⟩:=í s.given;obtain⟨last,T⟩:=í s.last;obtain⟨high,A⟩:=í s.high;rw[<-S]at d6 j;rw[<-T]at d4 j;rw[<-z]at d7;rw[<-A]at d3;replace⟨S,z,T,A,P,d⟩:=mY S z T A P d;go_upto_region 2 with fail;go_cut [28] (λv wx=>v=β bad/\wx=M);case first=>
  by_cases a3:last<en
  .cases ended
   .cases fin
    .go_wp2_with fail;go_meet;exact⟨by rw[Z j];simp,Q⟩
    go_wp2_with (first|(go_at_call 257;apply(Z ax _ c).mono;rintro e w5⟨rfl,rfl⟩));go_meet;exact⟨by rw[Z j];simp,Q⟩
   have bx:decide (last<en)=ρ:=bU a3;go_wp2;go_meet;exact⟨by rw[Z j];simp_all,Q⟩
  have bt:decide (last<en)=θ:=bT a3;cases ended<;>cases fin;all_goals
   go_wp2_with (first|(go_at_call 257;apply(Z ax _ c).mono;rintro e w5⟨rfl,rfl⟩))
   go_meet
   exact⟨by rw[Z j];simp[bt],Q⟩
 case rest=>
  obtain⟨rfl,rfl⟩:=hcut;rename D=>B
  cases bad
  .have a4:Hid (∀W,W.heap[sb]?=E (ο (jF b a s f) t (0,0))->G w W (E sb)->s.given=ρ->R (ξ .nilIface) W):=J (λW h1 h2 V=>by rw[Z x];exact ψ ⟨(Z q).symm,Q,Jl H a2 f h1 h2 V⟩);have ai:Hid (∀W,W.heap[sb]?=E (ο (jF b a s f) t (0,0))->G w W (E sb)->s.given=θ->Calls prog 258 #[π (E ⟨sb,a,N⟩),ε (bC f p)] W λr u=>r=ξ (τ #[])/\R (ξ .nilIface) u):=J (λW h1 h2 V=>(Jm H hn bb a2 br f p hf hs (bj V) h1 h2 V).mono (λr u h=>⟨h.1,by rw[Z x];exact ψ ⟨(Z q).symm,Q,h.2⟩⟩));unfold bC at ai;rw[<-Z k]at ai;rw[<-Z z]at a4 ai;have hD:Hid (jF b a s f=((b.setIfInBounds (a+3) (I U (max high en))).setIfInBounds (a+6) (β (ended||fin))).setIfInBounds (a+4) (I U (if fin then en else last))):=J (by unfold jF;rw[Z S,Z T,Z A,Z n,Z k]);have a8:Hid (fin=θ->jF b a s f=b.setIfInBounds (a+3) (I U (max high en))):=J (λe=>by rw[Jk f H.c4 H.c6 (by rw[<-Z k];exact e),Z A,Z n]);obtain⟨p0,p1,p2,p3,-,p5,p6⟩:=bQ (Z P);replace p0:=kg (n:=sb) p0 l;replace p1:=kg (n:=sb) p1 l;replace p2:=kg (n:=sb) p2 l;replace p3:=kg (n:=sb) p3 l;replace p4:=kg (n:=sb) p4 l;replace p5:=kg (n:=sb) p5 l;replace p6:=kg (n:=sb) p6 l;obtain⟨mx,ak⟩:=í (max high en);rw[<-ak]at hD a8;replace ak:=J ak;go_upto_region 4 with fail;go_cut [] (λwx=>wx=ζ B ⟨sb,a+3,N⟩ (I U mx));case first=>
    have e5:Hid (mx=if high<en then en else high):=J (by rw[Z ak];split<;>omega);by_cases hh:high<en
    .go_wp2_with fail;go_meet;rw[Z e5,aH hh]
    go_wp2_with fail;go_meet;rw[Z e5,ê]
   case rest=>
    rename D=>wd
    have gw:G B wd (E sb):=by rw[hcut];exact aD (au _ _) _ _ (ψ Q)
    have i:wd.heap[sb]?=E (ο (b.setIfInBounds (a+3) (I U mx)) t (0,0)):=by rw[hcut];exact heap_set (Z d) _
    clear hcut;have k4:κ wd ⟨sb,a+4,N⟩=E (I U last):=by
     rw[ba i,ë];exact(ba (Z d) _).symm.trans d4
    have k6:κ wd ⟨sb,a+6,N⟩=E (β ended):=by
     rw[ba i,ë];exact(ba (Z d) _).symm.trans d6
    have k7:κ wd ⟨sb,a+7,N⟩=E (β given):=by
     rw[ba i,ë];exact(ba (Z d) _).symm.trans d7
    have f4:χ wd ⟨sb,a+4,N⟩=θ:=ç i;have f6:χ wd ⟨sb,a+6,N⟩=θ:=ç i;replace i:=J i;go_upto_if 40 with fail;go_cut [] (λwx=>wx.heap[sb]?=E (ο (jF b a s f) t (0,0))/\G B wx (E sb));case first=>
     cases fin
     .go_wp2_with fail;go_meet;exact⟨by rw[Z a8 (by trivial)];exact Z i,gw⟩
     go_wp2_with fail;go_meet;simp only[Bool.or_true,fw]at hD;exact⟨by rw[Z hD];exact heap_set (heap_set (Z i) _) _,aD (aD gw _ _ (ψ Q)) _ _ (ψ Q)⟩
    case rest=>
     let⟨C,g7⟩:=hcut
     have k9:κ wc ⟨sb,a+7,N⟩=E (β given):=by
      rw[ba C,lN _ _ _ _ _,Z z];exact H.c7
     have a9:=aq (cK c (E sb)) g7;replace C:=J C;have p4:∀W,G B W (E sb)->κ W ⟨w.heap.size,4,N⟩=E (β fin):=by
      have:=(bQ (Z P)).2.2.2.2.1;rw[<-Z k]at this;exact kg this l
     cases given
     .go_wp2_with fail;apply(Z ai wc (Z C) a9 (by trivial)).mono;rintro e w5⟨rfl,a0⟩;replace a0:=J a0;go_wp2_with fail;exact Z a0
     go_wp2_with fail;exact Z a4 wc (Z C) a9 (by trivial)
  have a1:R (ξ (.iface 34 (I X 7))) B:=by rw[Z x];exact φ ⟨(Z q).symm,Q,c⟩
  replace a1:=J a1;go_wp2_with fail;exact Z a1
def It.reset(s:It)(f:Fr):It:=
 {s with ended:=ρ,last:=f.offset,given:=ρ,code:=if s.given then s.code else f.code,h:=if s.given then s.h else⟨s.h.fr,[],[]⟩}
def iQ(b:Array υ)(a:Nat)(f:Fr):Array υ:=(b.setIfInBounds (a+6) (β ρ)).setIfInBounds (a+4) (I U f.offset)
def mZ(b:Array υ)(a:Nat)(s:It)(f:Fr):Array υ:=(((((iQ b a f).setIfInBounds (a+7) (β ρ)).setIfInBounds (a+5) (I U f.code)).setIfInBounds a (I U s.h.fr)).setIfInBounds (a+1) (Y N 0 0)).setIfInBounds (a+2) (Y N 0 0)
def Jo{s:It}(H:iY w m C l x z s)(q:kY w j x z)(f:Fr)(r:W.heap[j]?=E (ο (iQ C l f) T (0,0)))(g:G w W (E j))(d:s.given=ρ):pW w W j T C l m x z (s.reset f):=by
 have B:=jw H.c8;have b:∀i,i≠l+6->i≠l+4->(iQ C l f)[i]?=C[i]? :=λi F K=>by
  unfold iQ;rw[ë,ë]
 refine⟨_,x,z,⟨r,by simp[iQ],λi hi=>b i O O,(aj.of g).mono (λk _ e=>φ (aR e).symm),φ Q⟩,?_,φ Q⟩
 have p:(s.reset f).h=s.h:=by simp[It.reset,d]
 have t:(s.reset f).code=s.code:=by simp[It.reset,d]
 have u:(s.reset f).given=s.given:=by simp[It.reset,d]
 refine⟨?_,?_,?_,?_,?_,?_,?_,?_,?_,?_,?_⟩
 rw[b _ O O,p];exact H.c0;rw[b _ O O];exact H.c1;rw[b _ O O];exact H.c2;rw[b _ O O];exact H.c3;unfold iQ;exact cU (by grind);rw[b _ O O,t];exact H.c5;unfold iQ;rw[ë];exact cU;rw[b _ O O,u];exact H.c7;rw[b _ O O];exact H.c8;rw[p];exact H.own.gb g (ψ q.1);let⟨a,n,c,e,v⟩:=H.set
 rw[p];exact⟨a,n,c,e,v.gb g (λy A e2=>by subst A;exact(q.2 y n c e).1 (aR e2).symm)⟩
def Jp{s:It}(H:iY w m C l x z s)(f:Fr)(p:W.heap[j]?=E (ο (mZ C l s f) T (0,0)))(g:G w W (E j))(d:s.given=θ):pW w W j T C l m x z (s.reset f):=by
 have u:=jw H.c8;have a:∀i,i≠l+6->i≠l+4->i≠l+7->i≠l+5->i≠l->i≠l+1->i≠l+2->(mZ C l s f)[i]?=C[i]? :=λi v A B F K L M=>by
  unfold mZ iQ;rw[ë,ë,ë,ë,ë,ë,ë]
 refine⟨_,Y N 0 0,Y N 0 0,⟨p,by simp[mZ,iQ],λi hi=>a i O O O O O O O,(aj.of g).mono (λk _ e=>φ (aR e).symm),ψ (nofun)⟩,?_,ψ (λy n c e=>by cases e)⟩
 have b:(s.reset f).h=⟨s.h.fr,[],[]⟩:=by simp[It.reset,d]
 have q:(s.reset f).code=f.code:=by simp[It.reset,d]
 refine⟨?_,?_,?_,?_,?_,?_,?_,?_,?_,?_,?_⟩
 unfold mZ;rw[ë,ë,b];exact cU (by simp[iQ];omega);unfold mZ;rw[ë];exact cU (by simp[iQ];omega);unfold mZ;exact cU (by simp[iQ];omega);rw[a _ O O O O O O O];exact H.c3;unfold mZ iQ;rw[ë,ë,ë,ë,ë];exact cU Ψ;unfold mZ;rw[ë,ë,ë,q];exact cU (by simp[iQ];omega);unfold mZ iQ;rw[ë,ë,ë,ë,ë,ë];exact cU;unfold mZ;rw[ë,ë,ë,ë];exact cU (by simp[iQ];omega);rw[a _ O O O O O O O];exact H.c8;rw[b];exact aS.nil _ _;rw[b];exact⟨N,0,0,Q,λr t=>by simp at t,Q,aP _,by simp[maxLen],φ Q⟩
def Jq(w:D)(sb a S:Nat)(b:Array υ)(t:TypeId)(v vc:υ)(s:It)(u:w.heap[sb]?=E (ο b t (0,0)))(H:iY w S b a v vc s)(a2:kY w sb v vc)(f:Fr)(F:υ):
 Calls prog 218 #[π (E ⟨sb,a,N⟩),ε (bC f F)] w λr T=>(s.iO f.offset=ρ/\r=ξ (.iface 34 (I X 7))/\G w T N)\/(s.iO f.offset=θ/\r=ξ .nilIface/\pW w T sb t b a S v vc (s.reset f)):=by
 refine fL λR A=>?_
 have V:=H.tail u;have K:=J (λW(g:G w W N)=>Ck W sb a s (V.ag g) f.offset);have cf:=(aV.1 u).1;have ai:Hid (s.iO f.offset=ρ->∀W,G w W N->R (ξ (.iface 34 (I X 7))) W):=J (λh W g=>by rw[A];exact φ ⟨h,Q,g⟩);have L:Hid (s.iO f.offset=θ->∀W,W.heap[sb]?=E (ο (iQ b a f) t (0,0))->G w W (E sb)->s.given=ρ->R (ξ .nilIface) W):=J (λh W x y B=>by rw[A];exact ψ ⟨h,Q,Jo H a2 f x y B⟩);have M:Hid (s.iO f.offset=θ->∀W,W.heap[sb]?=E (ο (mZ b a s f) t (0,0))->G w W (E sb)->s.given=θ->R (ξ .nilIface) W):=J (λh W x y B=>by rw[A];exact ψ ⟨h,Q,Jp H f x y B⟩);clear A;obtain⟨mv,ak⟩:=í (s.iO f.offset);rw[<-ak]at K ai L M;clear ak;let⟨c3,c4,c5,c6,c7,c8⟩:=V
 have c0:=(ba u _).trans H.c0;have c1:=(ba u _).trans H.c1;have c2:=(ba u _).trans H.c2;obtain⟨m,q⟩:=í (w.alloc (ο (bC f F) 158));have d:G w m N:=by rw[q];exact aC _ _ _
 have P:m.heap[w.heap.size]?=E (ο (bC f F) 158 (0,0)):=by rw[q];exact aM _ _
 let⟨q0,q1,q2,q3,q4,q5,q6⟩:=bQ P
 have l:=bp u d;have d0:=ì d c0;have d1:=ì d c1;have d2:=ì d c2;have d4:=ì d c4;have d5:=ì d c5;have d6:=ì d c6;have d7:=ì d c7;have f0:χ m ⟨sb,a,N⟩=θ:=ç l;have f1:χ m ⟨sb,a+1,N⟩=θ:=ç l;have f2:χ m ⟨sb,a+2,N⟩=θ:=ç l;have f4:χ m ⟨sb,a+4,N⟩=θ:=ç l;have f5:χ m ⟨sb,a+5,N⟩=θ:=ç l;have f6:χ m ⟨sb,a+6,N⟩=θ:=ç l;have f7:χ m ⟨sb,a+7,N⟩=θ:=ç l;clear c0 c1 c2 c3 c4 c5 c6 c7 c8 q0 q1 q4 q5 q6;unfold bC at q;unfold bC;replace⟨P,l⟩:=aT P l;have nS:w.heap.size≠sb:=O;obtain⟨given,C⟩:=í s.given;rw[<-C]at d7 L M;replace C:=J C;have hA:Hid (iQ b a f=(b.setIfInBounds (a+6) (β ρ)).setIfInBounds (a+4) (I U f.offset)):=J Q;have hB:Hid (mZ b a s f=(((((iQ b a f).setIfInBounds (a+7) (β ρ)).setIfInBounds (a+5) (I U f.code)).setIfInBounds a (I U s.h.fr)).setIfInBounds (a+1) (Y N 0 0)).setIfInBounds (a+2) (Y N 0 0)):=J Q;cases mv
 .go_enter func218,ntmps218;go_wp2_with fail;rw[<-q];clear q;apply(Z K _ d).mono;rintro e w2⟨rfl,rfl⟩;go_upto_region 3 with fail;go_cut [] (λwx=>wx.heap[sb]?=E (ο (iQ b a f) t (0,0))/\G w2 wx (E sb));case first=>
   go_region;go_wp2;go_meet;exact⟨by rw[Z hA];exact heap_set (heap_set (Z l) _) _,aK (aD (aD (au _ _) _ _ (ψ Q)) _ _ (ψ Q))⟩
  case rest=>
   let⟨c,g3⟩:=hcut
   rename D=>j
   have k:∀i,i≠a+6->i≠a+4->(iQ b a f)[i]?=b[i]? :=λi x y=>by
    unfold iQ;rw[ë,ë]
   have e0:κ j ⟨sb,a,N⟩=E (I U s.h.fr):=by rw[ba c,k _ O O];exact H.c0
   have e1:κ j ⟨sb,a+1,N⟩=E v:=by rw[ba c,k _ O O];exact H.c1
   have e2:κ j ⟨sb,a+2,N⟩=E vc:=by rw[ba c,k _ O O];exact H.c2
   have e5:κ j ⟨sb,a+5,N⟩=E (I U s.code):=by rw[ba c,k _ O O];exact H.c5
   have e7:κ j ⟨sb,a+7,N⟩=E (β given):=by rw[ba c,k _ O O,Z C];exact H.c7
   have r0:χ j ⟨sb,a,N⟩=θ:=ç c;have r1:χ j ⟨sb,a+1,N⟩=θ:=ç c;have r2:χ j ⟨sb,a+2,N⟩=θ:=ç c;have r5:χ j ⟨sb,a+5,N⟩=θ:=ç c;have r7:χ j ⟨sb,a+7,N⟩=θ:=ç c;have b7:=g3.cell q3 (λe=>nS (aR e));have a0:=aq (cK d (E sb)) g3;clear k d0 d1 d2 d4 d5 d6 d7 f0 f1 f2 f4 f5 f6 f7 q2 q3;replace c:=J c;cases given
   .go_upto_region 5 with fail;go_cut [] (λwx=>wx=((ζ j ⟨sb,a+7,N⟩ (β ρ)).setCell ⟨sb,a+5,N⟩ (I U f.code)).drew);case first=>
     go_region;go_wp2;go_meet;rfl
    case rest=>
     rename D=>n
     have p:n.heap[sb]?=E (ο (((iQ b a f).setIfInBounds (a+7) (β ρ)).setIfInBounds (a+5) (I U f.code)) t (0,0)):=by rw[hcut];exact heap_set (heap_set (Z c) _) _
     have g4:G w n (E sb):=by rw[hcut];exact aK (aD (aD a0 _ _ (ψ Q)) _ _ (ψ Q))
     clear hcut;have k:∀i,i≠a+6->i≠a+4->i≠a+7->i≠a+5->(((iQ b a f).setIfInBounds (a+7) (β ρ)).setIfInBounds (a+5) (I U f.code))[i]?=b[i]? :=λi x y B h4=>by
      unfold iQ;rw[ë,ë,ë,ë]
     have e0:κ n ⟨sb,a,N⟩=E (I U s.h.fr):=by rw[ba p,k _ O O O O];exact H.c0
     have e1:κ n ⟨sb,a+1,N⟩=E v:=by rw[ba p,k _ O O O O];exact H.c1
     have e2:κ n ⟨sb,a+2,N⟩=E vc:=by rw[ba p,k _ O O O O];exact H.c2
     have r0:χ n ⟨sb,a,N⟩=θ:=ç p;have r1:χ n ⟨sb,a+1,N⟩=θ:=ç p;have r2:χ n ⟨sb,a+2,N⟩=θ:=ç p;clear k e5 e7 r5 r7 b7;replace p:=J p;obtain⟨W5,z⟩:=í (((ζ n ⟨sb,a,N⟩ (I U s.h.fr)).setCell ⟨sb,a+1,N⟩ (Y N 0 0)).setCell ⟨sb,a+2,N⟩ (Y N 0 0));have ca:Hid (W5.heap[sb]?=E (ο (mZ b a s f) t (0,0))):=J (by rw[z,Z hB];exact heap_set (heap_set (heap_set (Z p) _) _) _);have g5:G w W5 (E sb):=by rw[z];exact aD (aD (aD g4 _ _ (ψ Q)) _ _ (ψ Q)) _ _ (ψ Q)
     replace z:=J z;go_wp2_with fail;rw[<-Z z];exact Z M (by trivial) _ (Z ca) g5 (by trivial)
   go_wp2_with fail;exact Z L (by trivial) _ (Z c) a0 (by trivial)
 go_enter func218,ntmps218;go_wp2_with fail;rw[<-q];clear q;apply(Z K _ d).mono;rintro e w2⟨rfl,rfl⟩;go_wp2_with fail;exact Z ai (by trivial) _ d
def It.jG(s:It)(aJ:Int):Nat:=(max 0 (min aJ (dL s.h))).toNat
def It.read(s:It)(aJ:Int):It:=
 if s.given&& !s.over then s else
  {s with h:=⟨s.h.fr+s.jG aJ,s.h.bytes.drop (s.jG aJ),s.h.af⟩,over:=s.ended&&(s.h.fr+s.jG aJ==s.last)}
def It.out(s:It)(aJ:Int):List Int:=if s.given&& !s.over then[]else s.h.bytes.take (s.jG aJ)
def It.state(s:It)(aJ:Int):Int:=if s.given&& !s.over then 2 else if(s.read aJ).over then 1 else 0
def It.ik(s:It):Int:=if s.given&& !s.over then s.code else 0
def zJ(w:D)(sb:Nat)(t:TypeId)(f:Array υ)(g h:Nat)(i vc:υ)(s:It)(aJ:Int)(e:Ending)(d:D):Prop:=
 ∃a n c b,e=ξ (τ #[Y a n c,I X (s.state aJ),I U s.ik])/\aS d w.heap.size (Y a n c) (s.out aJ)/\G w b N/\(∀j,(Y a n c).ownBlock=E j->j<b.heap.size)/\pW b d sb t f g h i vc (s.read aJ)
def Jr{s:It}(a:w.heap[n]?=E (ο c T (0,0)))(H:iY w i c k x y s)(g:G w W N):pW w W n T c k i x y s:=
 ⟨c,x,y,tI.tJ a g _ _ _,H.ag g,φ Q⟩
def Js(a:Option Addr)(n b i:Nat)(h:i<=b)(W:D):(Instr.slice 112 (Y a n b) N (E (I X i)) (E (I X i))).run prog W=.ok (Y a i i) W:=by
 rw[run_slice_hm W 112 a n b (by rw[rz];exact underlying112) X X (i:Int) (i:Int) O (fv _) O,rz,xH];simp only[jC,sliced,mf,nz,Nat.sub_zero]
 congr 1;cases a with
 |none=>simp
 |some y=>simp[Addr.add]
def Jt(h:bD w a n k L)(m:Nat)(f:m<=n):bD w a m m (L.take m):=by
 let⟨d,g,i,j,c⟩:=h
 refine⟨λx e=>d x (jr e),by rw[dK];omega,aP _,O,?_⟩
 obtain⟨c,l⟩|⟨b,o,rfl,c⟩:=c
 simp_all;exact ψ ⟨b,o,Q,zy c m⟩
def vcs(b:Array υ)(a:Nat)(fr:Int)(c:υ)(ov:Bool):Array υ:=((b.setIfInBounds a (I U fr)).setIfInBounds (a+1) c).setIfInBounds (a+8) (β ov)
def Ju{s:It}(H:iY w m C l x z s)(q:kY w j x z)(r:m<=w.heap.size)(t:(s.given&& !s.over)=θ)
 (u:W.heap[j]?=E (ο (vcs C l (s.h.fr+s.jG p) y (s.ended&&(s.h.fr+s.jG p==s.last))) T (0,0))) (g:G w W (E j)) (f:aS W w.heap.size y (s.h.bytes.drop (s.jG p))):pW w W j T C l m x z (s.read p):=by
 have F:=jw H.c8;have d:s.read p={s with h:=⟨s.h.fr+s.jG p,s.h.bytes.drop (s.jG p),s.h.af⟩,over:=s.ended&&(s.h.fr+s.jG p==s.last)}:=by simp[It.read,t]
 have b:∀i,i≠l->i≠l+1->i≠l+8->(vcs C l (s.h.fr+s.jG p) y (s.ended&&(s.h.fr+s.jG p==s.last)))[i]?=C[i]? :=λi K L M=>by
  unfold vcs;rw[ë,ë,ë]
 have v:∀k,y.ownBlock=E k->w.heap.size<=k:=λk e=>(f.lt k e).1
 rw[d];refine⟨_,y,z,⟨u,by simp[vcs],λi hi=>b i O O O,(aj.of g).mono (λk _ e=>φ (aR e).symm),ψ v⟩,⟨?_,?_,?_,?_,?_,?_,?_,?_,?_,?_,?_⟩,φ Q⟩
 unfold vcs;rw[ë,ë];exact cU;unfold vcs;rw[ë];exact cU Ψ;rw[b _ O O O];exact H.c2;rw[b _ O O O];exact H.c3;rw[b _ O O O];exact H.c4;rw[b _ O O O];exact H.c5;rw[b _ O O O];exact H.c6;rw[b _ O O O];exact H.c7;unfold vcs;exact cU Ψ;exact f.low r;let⟨a,n,c,e,d⟩:=H.set
 exact⟨a,n,c,e,d.gb g (λA B e2=>by subst B;exact(q.2 A n c e).1 (aR e2).symm)⟩
def Jv(w:D)(sb f K:Nat)(k:Array υ)(t:TypeId)(vb vc:υ)(s:It)(x:w.heap[sb]?=E (ο k t (0,0)))(H:iY w K k f vb vc s)(L:s.h.nice)(b8:K<=w.heap.size)(M:kY w sb vb vc)(aJ:Int)(hw:0<=dL s.h/\dL s.h<=s.h.bytes.length):
 Calls prog 167 #[π (E ⟨sb,f,N⟩),I X aJ] w (zJ w sb t k f K vb vc s aJ):=by
 obtain⟨ab,q,cb,ac,nc,S,rfl,rfl⟩:=H.oE;have hT:=H.tail x;have du:=(aV.1 x).1;let⟨c3,c4,c5,c6,c7,c8⟩:=hT
 by_cases m:(s.given&& !s.over)=ρ
 .have cf:s.given=ρ:=by simp at m;exact m.1
  have u:s.over=θ:=by simp at m;exact m.2
  rw[cf]at c7;rw[u]at c8;have hF:Hid (∀W,G w W N->zJ w sb t k f K (Y ab q cb) (Y ac nc S) s aJ (ξ (τ #[Y N 0 0,I X 2,I U s.code])) W):=J (λW g=>⟨N,0,0,w,by simp[It.state,It.ik,m],by simp only[It.out,m,fw];exact aS.nil _ _,au _ _,λj e=>(by cases e),by simp only[It.read,m,fw];exact Jr x H g⟩);go_enter func167,ntmps167;go_wp2_with fail;go_region;go_wp2_with fail;exact cC (v:=τ #[Y N 0 0,I X 2,I U s.code]) (by simp[results,results167,go_sem]) Q (Z hF _ (aK (au _ _)))
 have z:(s.given&& !s.over)=θ:=by simpa using m
 have P:=H.own.eV.2.1;have dv:=H.own.eV.2.2.1;obtain⟨d,T⟩:=í (s.jG aJ);have ch:d<=q:=by
  rw[T,P];unfold It.jG;omega
 have HD:=H.hd x L;have bw:=J (Ch w sb f ab q cb ac nc S s.h HD ⟨hw.1,by have:=L.2.1;have:=L.1;omega⟩);have bx:=J (λW(g:G w W N)=>Cu W sb f k t ab q cb ac nc S s.h (bp x g) (HD.ag g) d (by have:=L.2.1;omega) (λy e=>by subst e;exact λe2=>M.1 (by rw[<-e2];rfl)));have hF:Hid (∀(W A:D)(a:Option Addr)(n c:Nat)(a3:υ)(r:Int),G w A N->aS A w.heap.size (Y a n c) (s.h.bytes.take d)->G A W (E sb)->(Y a n c).ownBlock≠E sb->W.heap[sb]?=E (ο (vcs k f (s.h.fr+d) a3 (s.ended&&(s.h.fr+d==s.last))) t (0,0))->aS W A.heap.size a3 (s.h.bytes.drop d)->r=(if(s.ended&&(s.h.fr+d==s.last))then 1 else 0)->zJ w sb t k f K (Y ab q cb) (Y ac nc S) s aJ (ξ (τ #[Y a n c,I X r,I U 0])) W):=J (λW A a n c a3 r h0 V h2 h3 h4 h6 h7=>by
  subst T;refine⟨a,n,c,A,?_,?_,h0,λj e=>(V.lt j e).2,Ju (H.ag h0) ⟨M.1,λy n c e=>⟨(M.2 y n c e).1,(M.2 y n c e).2.1,bX (M.2 y n c e).2.2 h0.size⟩⟩ (bG b8 h0.size) z h4 h2 h6⟩
  simp only[It.state,It.ik,z,iV,iJ,It.read,h7]
  .simp only[It.out,z,iV,iJ];exact V.gb h2 (ψ h3))
 have a4:=Jt H.own.eV d ch;have fj:∀W,(Instr.slice 112 (Y ab q cb) N (E (I X d)) (E (I X d))).run prog W=.ok (Y ab d d) W:=λW=>Js ab q cb d O W
 have cw:Hid ((d:Int)=max 0 (min aJ (dL s.h))):=J (by rw[T];unfold It.jG;omega);have cx:=J L.2.2.2.1;replace⟨a4,P⟩:=aT a4 P;have c1:=(ba x _).trans H.c1;clear T m;obtain⟨given,bz⟩:=í s.given;obtain⟨over,bA⟩:=í s.over;rw[<-bz]at c7 z;rw[<-bA]at c8 z;clear bz bA;generalize dL s.h=wh at *;go_enter func167,ntmps167;go_upto_region 1 with fail;go_cut [19] (λv wx=>v=β θ/\wx=w);case first=>
  cases given<;>cases over<;>simp at z;all_goals
   go_wp2
   go_meet
   exact⟨Q,Q⟩
 case rest=>
  obtain⟨rfl,rfl⟩:=hcut;go_upto_region 3 with fail;go_cut [7] (λv wx=>v=I X d/\G wc wx N);case first=>
   go_wp2_with fail;apply(Z bw).mono;rintro e w3⟨rfl,B⟩;by_cases V:wh<aJ<;>by_cases h2:0<min aJ wh;all_goals
    go_wp2_with fail
    all_goals
     go_meet
     refine⟨?_,B⟩
     have:=Z cw
     congr 1
     omega
  case rest=>
   rename D=>w3
   obtain⟨rfl,B⟩:=hcut;have d1:=ì B c1;have cy:=J ((Z a4).ag B);have c9:Hid ((s.h.bytes.take d).length=d):=J (by rw[dK];have:=Z P;omega);have dx:d<=1000000:=by have:=Z P;have:=Z cx;omega
   go_upto_region 4 with fail;go_cut [8] (λv wx=>∃a n c,v=Y a n c/\aS wx w3.heap.size (Y a n c) (s.h.bytes.take d)/\G w3 wx N);case first=>
    go_wp2_with (at_builtin;refine HM Ξ _ Ξ _ _ _ (s.h.bytes.take d) Ξ (Z cy) (by have:=Z c9;omega) ?_;intro C c4 w4 p g4;replace p:=J p);all_goals
     go_meet
     refine⟨C,_,c4,Q,?_,g4⟩
     have:=Z p
     simpa [dK]using this
   case rest=>
   rename D=>w4
   obtain⟨C,n4,m4,rfl,p,g4⟩:=hcut;have ao:=aq B g4;replace p:=J p;go_wp2_with (first|(go_at_call 221;apply(Z bx w4 ao).mono;rintro e F⟨rfl,a5,bj,g5,l,o5,ea⟩));have da:=aq (cK ao _) g5;obtain⟨b4,R⟩:=í ((k.setIfInBounds f (I U (s.h.fr+d))).setIfInBounds (f+1) (Y a5 (s.h.bytes.drop d).length bj));rw[<-R]at l;have hz:=jw H.c8;have a0:∀i,i≠f->i≠f+1->b4[i]?=k[i]? :=λi V h2=>by
    rw[R,ë,ë]
   have e0:κ F ⟨sb,f,N⟩=E (I U (s.h.fr+d)):=by
    rw[ba l,R,ë];exact cU
   have e4:κ F ⟨sb,f+4,N⟩=E (I U s.last):=by rw[ba l,a0 _ O O];exact H.c4
   have e6:κ F ⟨sb,f+6,N⟩=E (β s.ended):=by rw[ba l,a0 _ O O];exact H.c6
   have e8:κ F ⟨sb,f+8,N⟩=E (β s.over):=by rw[ba l,a0 _ O O];exact H.c8
   have f8:χ F ⟨sb,f+8,N⟩=θ:=ç l;have b5:Hid (∀b,b4.setIfInBounds (f+8) (β b)=vcs k f (s.h.fr+d) (Y a5 (s.h.bytes.drop d).length bj) b):=J (λb=>by rw[R];rfl);clear c3 c4 c5 c6 c7 c8 c1 d1 a0;replace⟨l,o5⟩:=aT l o5;clear R bx bw;obtain⟨ov,u⟩:=í ((s.ended&&(s.h.fr+d==s.last)));rw[<-u]at hF;replace u:=J u;go_upto_region 6 with fail;go_cut [] (λwx=>wx.heap[sb]?=E (ο (vcs k f (s.h.fr+d) (Y a5 (s.h.bytes.drop d).length bj) ov) t (0,0))/\G F wx (E sb));case first=>
    generalize db:s.ended=ended at *;generalize dc:s.last=last at *;generalize de:s.h.fr+(d:Int)=fn at *;clear db dc de;cases ended
    .go_big_region;go_wp2;go_meet;refine⟨?_,?_⟩
     rw[Z u,<-Z b5];exact heap_set (Z l) _;exact aK (aD (au _ _) _ _ (ψ Q))
    go_region;go_wp2;go_meet;refine⟨?_,?_⟩
    rw[Z u,<-Z b5];exact heap_set (Z l) _;exact aK (aD (au _ _) _ _ (ψ Q))
   case rest=>
    rename D=>w6
    let⟨a1,g6⟩:=hcut
    have k8:κ w6 ⟨sb,f+8,N⟩=E (β ov):=by
     rw[ba a1];unfold vcs;exact cU Ψ
    have ej:=aq da g6;have ek:=ao.size;have dg:=B.size;have dk:=J ((Z o5).gb g6 (ψ (λe=>by have:=((Z o5).lt _ e).1;omega)));have dm:(Y C n4 m4).ownBlock≠E sb:=λe=>by have:=((Z p).lt _ e).1;omega
    have b7:=J (λr hr=>Z hF w6 w4 C n4 m4 _ r ao ((Z p).low dg) (aq g5 g6) dm a1 (Z dk) hr);replace a1:=J a1;clear hF;cases ov
    .go_wp2_with fail;exact cC (v:=τ #[Y C n4 m4,I X 0,I U 0]) (by simp[results,results167,go_sem]) Q (Z b7 0 Q)
    go_wp2_with fail;exact cC (v:=τ #[Y C n4 m4,I X 1,I U 0]) (by simp[results,results167,go_sem]) Q (Z b7 1 Q)
def zP(a:Option Addr)(b c:Nat)(d:Array υ)(w:D)(f:b<=maxLen)(eg:∀args w,(callFunc c args).run prog w=.ok (.enter c args) w):
 Calls prog 236 #[Y a 0 b,.func (.func c) #[] d] w λe g=>e=ξ (Y a 0 b)/\g=w:=by
 go_enter func236,ntmps236;go_wp2_with fail;apply(Z (J ((zL.1 (λ_=>undef) (λ_=>undef) (λ_=>undef) (λ_=>undef)).1 a 0 0 0 b c #[] d w (λ_=>False) (λ_ W=>W=w) (λh=>O) ⟨O,f⟩ eg Q (λW h _ i=>O) (λW h _ i=>O)))).mono;rintro e j(⟨k,l,-⟩|⟨rfl,-,rfl⟩);omega;go_wp2_with fail;go_ret;exact⟨Q,Q⟩
def FT(sb:Nat)(a b:υ)(k:Nat):Prop:=k=sb\/a.ownBlock=E k\/b.ownBlock=E k
def df.mid{l:List Kt}(h:df w k (Y (E ⟨i,0,N⟩) n j) l):k<=i/\∃a,jX w i j l [] 0 a:=by
 obtain⟨f,⟨c,h0⟩|⟨g,m,a,e1,e2,d,p,q,e,r⟩⟩:=h;cases c;cases e1;refine⟨e2,a,d,e,aP _,λx b=>by simp at b,λx _ b=>?_⟩
 grind
def JN(l:List Kt)(a:Kt->Bool)(j:Nat)(b:j<l.length):(l.take (j+1)).filter a=(l.take j).filter a++(if a (bZ l j)then[bZ l j]else[]):=by
 rw[tq,pq b,Option.toList_some,List.filter_append];grind
structure pr(w:D)(sb e b:Nat)(f:Array υ)(t:TypeId)(c d:υ)(lf g:List Kt)(a:υ)(W:D):Prop where
 aG:W.heap[sb]?=E (ο (f.setIfInBounds (e+4) a) t (0,0))
 of:df W b c lf
 ol:df W b a g
 aA:aj w W (FT sb c d)
 new:a.ownBlock=d.ownBlock\/∀k,a.ownBlock=E k->w.heap.size<=k
def pr.gb{w:D}{lf a:List Kt}(h:pr w n k i c T x y lf a z W)(g:G W v N):pr w n k i c T x y lf a z v:=
 ⟨bp h.aG g,h.of.ag g,h.ol.ag g,h.aA.grow g,h.new⟩
def pr.apart{lf a:List Kt}(h:pr w n i j c T x y lf a z W)(b:n<w.heap.size)(d:y.ownBlock≠E n)(f:∀k,x.ownBlock=E k->y.ownBlock≠E k)(g:∀k,x.ownBlock=E k->k<w.heap.size):z.ownBlock≠E n/\∀k,x.ownBlock=E k->z.ownBlock≠E k:=by
 obtain e|e:=h.new
 simp_all;grind
def pr.app{lf r p:List Kt}{a:υ}(h:pr w n i j c T x y lf r z W)(g:G W v N)(s:df V j a p)(f:G v V z.ownBlock)(t:a.ownBlock=z.ownBlock\/a.ownBlock=E v.heap.size)(q:n<w.heap.size)(u:y.ownBlock≠E n)(A:x.ownBlock≠E n)(B:∀k,x.ownBlock=E k->y.ownBlock≠E k)(C:∀k,x.ownBlock=E k->k<w.heap.size):pr w n i j c T x y lf p a (ζ V ⟨n,i+4,N⟩ a):=by
 have d:=h.gb g;let⟨F,H⟩:=h.apart q u B C
 have K:=bX q d.aA.size;have L:=(f.block n K (λe=>F e.symm)).trans d.aG;have l:=aD (au V (E n)) ⟨n,i+4,N⟩ a (ψ Q);have M:a.ownBlock≠E n:=by
  grind
 refine⟨by rw[heap_set L];simp,?_,s.gb l (ψ M),?_,?_⟩
 have P:=d.of.gb f (by
  cases R:x.ownBlock with
  |none=>exact φ Q
  |some k=>exact ψ (λe=>H k R e.symm))
 exact P.gb l (ψ A);refine((d.aA.trans (aj.of f)).trans (aj.of l)).mono (λk m b=>?_);obtain(b|b)|b:=b
 exact b;obtain e|e:=h.new
 exact ψ (ψ (e▸b));grind;exact φ (aR b).symm;obtain e|e:=t
 rw[e];exact h.new;exact ψ (λk m=>by rw[e]at m;have:=aR m;have:=d.aA.size;omega)
def CH(w:D)(sb f p gf:Nat)(lb:Array υ)(F:Array υ)(t:TypeId)(K q:υ)(lf ll:List Kt)(count tick wait:Int)(d:Kt->Bool)(ak:w.heap[sb]?=E (ο F t (0,0)))(H:jx w p F f K q lf ll count tick wait)(ea:p<=w.heap.size)(al:K.ownBlock≠E sb)(bj:q.ownBlock≠E sb)(a0:∀k,K.ownBlock=E k->q.ownBlock≠E k)(eb:lf.length<=1000000/\ll.length<=50000000)(fj:∀x∈lf,∃a n c,x.2=Y a n c)
 (eg:∀args w,(callFunc gf args).run prog w=.ok (.enter gf args) w)
 (hf:∀(W:D)(h:Nat),aj w W (FT sb K q)->h<lf.length->Calls prog gf (#[ε (kA (bZ lf h))]++lb) W (λe W'=>e=ξ (β (d (bZ lf h)))/\G W W' N)):
 Calls prog 199 #[π (E ⟨sb,f,N⟩),.func (.func gf) #[] lb] w λr w'=>r=ξ (τ #[])/\∃br m,w'.heap[sb]?=E (ο ((F.setIfInBounds (f+4) m).setIfInBounds (f+3) br) t (0,0))/\df w' p br (lf.filter (λx=> !d x))/\df w' p m (ll++lf.filter d)/\aj w w' (FT sb K q)/\br.ownBlock=K.ownBlock/\(m.ownBlock=q.ownBlock\/∀k,m.ownBlock=E k->w.heap.size<=k):=by
 refine js λR hR=>?_
 replace hR:=J hR;let⟨c0,c1,c2,c3,c4,of,ol⟩:=H
 have bt:=(aV.1 ak).1;have d3:=(ba ak _).trans c3;have a1:pr w sb f p F t K q lf (ll++(lf.take 0).filter d) q w:=⟨by rw[vu c4];exact ak,of,by simpa using ol,aj.rfl' _ _,φ Q⟩
 obtain⟨L,l,rfl,c9,da⟩:=of.fU;unfold maxLen at da;replace⟨a1,hf,ak⟩:=cA a1 hf ak;have ec:=jw c3;have bM:=jw c4;obtain⟨n,z⟩:=í lf.length;rw[<-z]at d3 a1 hf c9 a0 al of hR;replace z:=J z;go_enter func199,ntmps199;go_wp2;go_loopw [11] (λjv wr=>∃(j:Nat)(m:υ),j<=n/\jv=I X j/\pr w sb f p F t (Y L n l) q lf (ll++(lf.take j).filter d) m wr) (λjv _=>n-(intOf jv).toNat);case atStart=>exact⟨0,q,O,Q,Z a1⟩
 case round=>
  obtain⟨j,m,hj,rfl,b⟩:=hrel;by_cases db:j<n
  .have d1:decide ((j:Int)<n)=ρ:=α;have i1:(j:Int)<n:=O;have bw:j<lf.length:=by have:=Z z;omega
   obtain⟨g,rfl,dc⟩:=b.of.cell O;let⟨y0,y1,y2,y3⟩:=dc j bw
   rw[eM]at y0 y1 y2 y3;let⟨pa,A,B,bx⟩:=fj _ (pX bw)
   have ao:Hid (ll++(lf.take (j+1)).filter d=(ll++(lf.take j).filter d)++(if d (bZ lf j)then[bZ lf j]else[])):=J (by rw[JN lf d j bw,eF]);have hF:=J (λW(g1:G wr W N)=>Z hf W j (b.aA.grow g1) db);have b4:Hid ((ll++(lf.take j).filter d).length<=60000000):=J (by
    have C:=wL d (lf.take j);rw[dK]at C;rw[bS];omega)
   obtain⟨kt,b5⟩:=í (bZ lf j);obtain⟨qj,b6⟩:=í (d (bZ lf j));rw[<-b6]at hF ao;rw[<-b5]at y0 y1 y2 y3 hF bx ao;clear b5 b6;obtain⟨lj,b7⟩:=í (ll++(lf.take j).filter d);rw[<-b7]at b b4 ao;clear b7;let⟨⟨num,tk,st,ps⟩,sv⟩:=kt
   simp only at y0 y1 y2 y3 bx;subst bx;unfold kA at hF;simp only at hF;obtain⟨W3,a2⟩:=í (wr.alloc (ο #[I U num,I X tk,I X st,Y pa A B] 325));have g3:G wr W3 N:=by rw[a2];exact aC _ _ _
   have a3:W3.heap[wr.heap.size]?=E (ο #[I U num,I X tk,I X st,Y pa A B] 325 (0,0)):=by rw[a2];exact aM _ _
   let⟨b0,b1,b2,b3⟩:=m8 a3
   have b8:=J (Z hF W3 g3);replace a3:=J a3;go_wp2_with fail;rw[<-a2];clear a2;go_wp2_with fail;apply(Z b8).mono;rintro e M⟨rfl,g4⟩;have de:=aq g3 g4;have s:=b.gb de;have a4:=bp (Z a3) g4;clear y0 y1 y2 y3 b0 b1 b2 b3 b8;cases qj
   .have P:=Z ao;simp only[iV,iJ,qY]at P;replace⟨P,s,b⟩:=cA P s b;go_wp2;go_roundw;case measure=>simp[intOf];omega
    case rel=>exact⟨j+1,m,O,Γ,by rw[Z P];exact Z s⟩
   let⟨b0,b1,b2,b3⟩:=m8 a4
   have a8:∀k,(Y (E ⟨g,0,N⟩) n l).ownBlock=E k->k<w.heap.size:=λk hk=>(of.lt k hk).2
   obtain⟨la,ed,dg,-⟩:=s.ol.fU;have ee:=s.aA.size;have ei:sb<M.heap.size:=O;have ej:=(aV.1 a4).1;obtain⟨S,a9⟩:=í ((M.alloc (ο #[I U num,I X tk,I X st,Y pa A B] 325)).drew);have g5:G M S N:=by rw[a9];exact aK (aC _ _ _)
   have ai:S.heap[M.heap.size]?=E (ο #[I U num,I X tk,I X st,Y pa A B] 325 (0,0)):=by rw[a9];exact aM M _
   have ca:=J (mj (a:=lP (⟨num,tk,st,ps⟩,Y pa A B)) ai);have o5:=J (s.ol.ag g5);have cc:p<=S.heap.size:=by have:=g5.size;omega
   have cf:sb<S.heap.size:=by have:=g5.size;omega
   have e4:κ M ⟨sb,f+4,N⟩=E m:=by rw[ba s.aG];exact cU bM
   have f4:χ M ⟨sb,f+4,N⟩=θ:=by simp[χ,s.aG]
   have ch:=J (bp s.aG g5);have ax:=s.apart bt bj a0 a8;have cm:Hid (∀(u:D)(v7:υ),df u p v7 (lj++[(⟨num,tk,st,ps⟩,Y pa A B)])->G S u m.ownBlock->(v7.ownBlock=m.ownBlock\/v7.ownBlock=E S.heap.size)->pr w sb f p F t (Y (E ⟨g,0,N⟩) n l) q lf (lj++[(⟨num,tk,st,ps⟩,Y pa A B)]) v7 (ζ u ⟨sb,f+4,N⟩ v7)):=J (λu v7 C y h3=>s.app g5 C y h3 bt bj al a0 a8);have cp:Hid (∀u,G S u m.ownBlock->κ u ⟨sb,f+4,N⟩=E m/\χ u ⟨sb,f+4,N⟩=θ):=J (λu g7=>by
    have ct:=(g7.block sb cf (λe=>ax.1 e.symm)).trans (Z ch);exact⟨by rw[ba ct];exact cU bM,by simp[χ,ct]⟩)
   subst dg;rw[a9]at ca o5 cc cm cp;clear a9 g5 ai cf ch;replace⟨s,b,a4⟩:=cA s b a4;go_upto_region 4 with fail;go_region_law ((refine CF Ξ _ _ Ξ p _ lj Ξ (Z o5) _ _ (⟨num,tk,st,ps⟩,Y pa A B) ⟨_,_,_,Q⟩ Ξ (Z ca) (by have:=Z b4;omega) cc ?_;intro a7 n7 c7 u o7 g7 h7;have dk:=J (Z cm u _ o7 g7 h7);let⟨z7,y7⟩:=Z cp u g7;clear o7 g7 h7));all_goals
    go_wp2_with fail
    have P:=Z ao
    simp only[fw]at P
    exact⟨⟨j+1,_,O,Γ,by rw[P];exact Z dk⟩,by simp[intOf];omega⟩
  have d1:decide ((j:Int)<n)=θ:=é;obtain rfl:j=n:=O;have cv:lf.take j=lf:=by rw[Z z,kC]
  rw[cv]at b;have a8:∀k,(Y L j l).ownBlock=E k->k<w.heap.size:=λk hk=>(of.lt k hk).2
  have ax:=b.apart bt bj a0 a8;have e3:κ wr ⟨sb,f+3,N⟩=E (Y L j l):=by
   rw[ba b.aG,ë,Z z];exact c3
  have f3:χ wr ⟨sb,f+3,N⟩=θ:=by simp[χ,b.aG]
  have ek:=b.aA.size;by_cases hz:j=0
  .subst hz;have dm:=oV (Z z).symm;have hD:=J (zP L l gf lb wr (by unfold maxLen;omega) eg);have bb:Hid (R (ζ wr ⟨sb,f+3,N⟩ (Y L 0 l))):=J (by
    rw[Z hR];have T:=aD (au wr (E sb)) ⟨sb,f+3,N⟩ (Y L 0 l) (ψ Q);refine⟨Y L 0 l,m,heap_set b.aG _,?_,b.ol.gb T (ψ ax.1),(b.aA.trans (aj.of T)).mono (λk _ V=>V.elim id (λe=>φ (aR e).symm)),Q,b.new⟩
    have C:=b.of.gb T (ψ al);rw[dm]at C⊢;exact C)
   replace b:=J b;go_wp2_with fail;apply(Z hD).mono;rintro e v⟨rfl,rfl⟩;go_wp2_with fail;exact eP (dV Q _ _ _) Q ⟨Q,Z bb⟩
  obtain⟨g,rfl,-⟩:=b.of.cell O;let⟨dn,du,bz⟩:=b.of.mid
  have cw:sb≠g:=λe=>al (by rw[e];rfl)
  have dv:=ax.2 g Q;have dx:j<=l/\l<=maxLen:=⟨O,by unfold maxLen;omega⟩
  have hD:=J (zN g j l p gf sb lb lf wr (λh=>d (bZ lf h)) (λ_ W=>W.heap[sb]?=wr.heap[sb]? /\df W p m (ll++lf.filter d)/\aj w W (FT sb (Y (E ⟨g,0,N⟩) j l) q)/\wr.heap.size<=W.heap.size) du dn (Z z) dx fj bz O cw eg ⟨Q,b.ol,b.aA,aP _⟩
   (λW W' h hi gg=>⟨(gg.block sb O (λe=>cw (aR e))).trans hi.1,hi.2.1.gb gg (ψ dv),(hi.2.2.1.trans (aj.of gg)).mono (λk _ V=>V.elim id (λe=>ψ (φ e))),bG hi.2.2.2 gg.size⟩)
   (λW h hi V=>(Z hf W h hi.2.2.1 V).mono (λe W' y=>⟨y.1,⟨(y.2.block sb O Γ).trans hi.1,hi.2.1.ag y.2,hi.2.2.1.grow y.2,bG hi.2.2.2 y.2.size⟩,cK y.2 _⟩)))
  have cx:kp lf (λh=>d (bZ lf h)) j=lf.filter (λx=> !d x):=by
   rw[zM lf _ d (λi _=>rfl) j (by have:=Z z;omega),cv]
  rw[cx]at hD;have bb:Hid (∀v,df v p (Y (E ⟨g,0,N⟩) (lf.filter (λx=> !d x)).length l) (lf.filter (λx=> !d x))->v.heap[sb]?=wr.heap[sb]? ->df v p m (ll++lf.filter d)->aj w v (FT sb (Y (E ⟨g,0,N⟩) j l) q)->R (ζ v ⟨sb,f+3,N⟩ (Y (E ⟨g,0,N⟩) (lf.filter (λx=> !d x)).length l))/\κ v ⟨sb,f+3,N⟩=E (Y (E ⟨g,0,N⟩) j l)/\χ v ⟨sb,f+3,N⟩=θ):=J (λv C y h3 h4=>by
   have ai:=y.trans b.aG;have T:=aD (au v (E sb)) ⟨sb,f+3,N⟩ (Y (E ⟨g,0,N⟩) (lf.filter (λx=> !d x)).length l) (ψ Q);refine⟨?_,by rw[ba ai,<-ba b.aG];exact e3,by simp[χ,ai]⟩
   rw[Z hR];exact⟨Y (E ⟨g,0,N⟩) (lf.filter (λx=> !d x)).length l,m,heap_set ai _,C.gb T (ψ al),h3.gb T (ψ ax.1),(h4.trans (aj.of T)).mono (λk _ V=>V.elim id (λe=>φ (aR e).symm)),Q,b.new⟩)
  replace⟨b,bz⟩:=aT b bz;obtain⟨lk,cy⟩:=í (lf.filter (λx=> !d x));rw[<-cy]at hD bb;clear cx cy;go_wp2_with fail;apply(Z hD).mono;rintro e v⟨rfl,o5,h5,l5,C5,-⟩;let⟨bA,e5,f5⟩:=Z bb v o5 h5 l5 C5
  replace bA:=J bA;clear o5 h5 l5 C5;go_wp2_with fail;exact eP (dV Q _ _ _) Q ⟨Q,Z bA⟩
structure sn(w b:D)(sb:Nat)(t:TypeId)(c a:Array υ)(d:Nat)(e f g h:υ):Prop where
 aG:b.heap[sb]?=E (ο a t (0,0))
 sz:a.size=c.size
 out:∀i,i<d\/d+5<=i->a[i]?=c[i]?
 aA:aj w b (FT sb e f)
 JO:g.ownBlock=e.ownBlock\/∀k,g.ownBlock=E k->w.heap.size<=k
 CI:h.ownBlock=f.ownBlock\/∀k,h.ownBlock=E k->w.heap.size<=k
def xL(w b:D)(sb:Nat)(t:TypeId)(g:Array υ)(c h:Nat)(d i:υ)(lf ll:List Kt)(count tick wait:Int):Prop:=
 ∃e a f,sn w b sb t g e c d i a f/\jx b h e c a f lf ll count tick wait/\a.ownBlock=d.ownBlock
def qB(sb:Nat)(a b:υ):Prop:=a.ownBlock≠E sb/\b.ownBlock≠E sb/\∀k,a.ownBlock=E k->b.ownBlock≠E k
def JP(w:D)(sb f u:Nat)(m:Array υ)(t:TypeId)(C p:υ)(lf ll:List Kt)(count tick wait:Int)(v:w.heap[sb]?=E (ο m t (0,0)))(H:jx w u m f C p lf ll count tick wait)(dm:u<=w.heap.size)(b6:qB sb C p)(b7:lf.length<=1000000/\ll.length<=50000000)(fj:∀x∈lf,∃a n c,x.2=Y a n c)(ht:0<=tick/\tick<1000000000000)(hx:∀x∈lf,0<=x.1.tick/\x.1.tick<=1000000000000)(hw:0<=wait/\wait<=1000):
 Calls prog 156 #[π (E ⟨sb,f,N⟩)] w λr w'=>r=ξ (τ #[])/\(((∃x∈lf,wait<=tick+1-x.1.tick)/\xL w w' sb t m f u C p [] (ll++lf) count (tick+1) (min (2*wait) 32))\/((¬∃x∈lf,wait<=tick+1-x.1.tick)/\xL w w' sb t m f u C p lf ll count (tick+1) wait)):=by
 refine js λR hR=>?_
 let⟨c0,c1,c2,c3,c4,of,ol⟩:=H
 let⟨ao,ax,b8⟩:=b6
 have dv:=(aV.1 v).1;obtain⟨j,F⟩:=í (ζ w ⟨sb,f+1,N⟩ (I X (tick+1)));have K:G w j (E sb):=by rw[F];exact aD (au _ _) _ _ (ψ Q)
 have q:j.heap[sb]?=E (ο (m.setIfInBounds (f+1) (I X (tick+1))) t (0,0)):=by rw[F];exact heap_set v _
 obtain⟨s,T⟩:=í (m.setIfInBounds (f+1) (I X (tick+1)));rw[<-T]at q;have y:∀i,i≠f+1->s[i]?=m[i]? :=λi h=>by rw[T,ë]
 have d:jx j u s f C p lf ll count (tick+1) wait:=⟨by rw[y _ O];exact c0,by rw[T];exact cU (jw c1),by rw[y _ O];exact c2,by rw[y _ O];exact c3,by rw[y _ O];exact c4,of.gb K (ψ ao),ol.gb K (ψ ax)⟩
 have bw:s.size=m.size:=by rw[T];simp
 have dx:=K.size;have e1:=(ba q _).trans d.c1;have e2:=(ba q _).trans d.c2;have e3:=(ba q _).trans d.c3;obtain⟨z,V,rfl,ca,cc⟩:=of.fU;have hC:=J (λb(ha:0<lf.length->z=E ⟨b,0,N⟩)(cm:∀i,i<lf.length->κ j ⟨b,0+i*4,N⟩=E (I U (bZ lf i).1.num)/\κ j ⟨b,0+i*4+1,N⟩=E (I X (bZ lf i).1.tick)/\κ j ⟨b,0+i*4+2,N⟩=E (I X (bZ lf i).1.st)/\κ j ⟨b,0+i*4+3,N⟩=E (bZ lf i).2)=>(vz.1 (λi=>I U (bZ lf i).1.num) (λi=>I X (bZ lf i).1.tick) (λi=>I X (bZ lf i).1.st) (λi=>(bZ lf i).2)).1 z b 0 lf.length V 198 #[π (E ⟨sb,f,N⟩)] #[] j (λi=>wait<=tick+1-(bZ lf i).1.tick) ha ⟨ca,cc⟩ (λ_ _=>Φ)
  (λW i g hi=>by let⟨p0,p1,p2,p3⟩:=cm i hi;exact⟨ì g p0,ì g p1,ì g p2,ì g p3⟩)
  (λW i g hi=>by
    apply(JK W sb f (tick+1) wait (ì g e1) (ì g e2) (bZ lf i) O (hx _ (pX hi))).mono;rintro e W'⟨rfl,g'⟩;exact⟨oy Iff.rfl,g'⟩))
 obtain⟨cb,cv,cw⟩:∃b,(0<lf.length->z=E ⟨b,0,N⟩)/\(∀i,i<lf.length->κ j ⟨b,0+i*4,N⟩=E (I U (bZ lf i).1.num)/\κ j ⟨b,0+i*4+1,N⟩=E (I X (bZ lf i).1.tick)/\κ j ⟨b,0+i*4+2,N⟩=E (I X (bZ lf i).1.st)/\κ j ⟨b,0+i*4+3,N⟩=E (bZ lf i).2):=by
  by_cases hz:0<lf.length;let⟨b,e,h⟩:=d.of.cell hz
  exact⟨b,λ_=>e,h⟩
  exact⟨0,λh=>absurd h hz,λi hi=>O⟩
 have cx:=J (Z hC cb cv cw);have bz:Hid ((∃i,i<lf.length/\wait<=tick+1-(bZ lf i).1.tick)↔∃x∈lf,wait<=tick+1-x.1.tick):=J (by
  constructor;rintro⟨i,hi,h⟩;exact⟨_,pX hi,h⟩
  .rintro⟨x,hx,h⟩;obtain⟨i,hi,rfl⟩:=ko.1 hx;exact⟨i,hi,by simpa [bZ,List.getD,hi]using h⟩)
 have cy:=J (λW(g:G j W N)=>CH W sb f u 200 #[] s t (Y z lf.length V) p lf ll count (tick+1) wait (λ_=>ρ) (bp q g) ⟨d.c0,d.c1,d.c2,d.c3,d.c4,d.of.ag g,d.ol.ag g⟩ (by have:=g.size;omega) ao ax b8 b7 fj (λ_ _=>Φ) (λW h _ _=>by rw[Array.append_empty];exact JL W _));have ec:X.wrap (tick+1)=tick+1:=ä;have d1:=(ba v _).trans c1;have f1:χ w ⟨sb,f+1,N⟩=θ:=ç v;have c9:Hid (∀W,G j W N->(¬∃x∈lf,wait<=tick+1-x.1.tick)->R W):=J (λW g a0=>by
  rw[hR];refine ψ ⟨a0,s,Y z lf.length V,p,⟨bp q g,bw,λi hi=>y i O,((aj.of K).trans (aj.of g)).mono (λk _ l=>l.elim (λe=>φ (aR e).symm) (nofun)),φ Q,φ Q⟩,⟨d.c0,d.c1,d.c2,d.c3,d.c4,d.of.ag g,d.ol.ag g⟩,Q⟩)
 replace⟨q,v,F⟩:=cA q v F;go_enter func156,ntmps156;go_upto_region 1 with fail;rw[<-Z F];go_wp2_with fail;apply(Z cx).mono;rintro e w2⟨⟨b,rfl,hb⟩,L⟩;cases b
 .have a0:¬∃x∈lf,wait<=tick+1-x.1.tick:=λh=>by have:=hb.2 ((Z bz).2 h);cases this
  have M:=J (Z c9 w2 L a0);go_wp2_with fail;exact cC (dV Q _ _ _) Q ⟨Q,Z M⟩
 have da:=J ((Z bz).1 (hb.1 Q));clear hb;go_wp2_with fail;apply(Z cy w2 L).mono;rintro e w3⟨rfl,bA,a3,A,a4,a8,C3,ak,a9⟩;have b3:lf.filter (λ_=> !ρ)=[]:=Γ;have b4:lf.filter (λ_=>ρ)=lf:=Γ;rw[b3]at a4;rw[b4]at a8;obtain⟨bb,B⟩:=í ((s.setIfInBounds (f+4) a3).setIfInBounds (f+3) bA);rw[<-B]at A;have P:∀i,i≠f+3->i≠f+4->bb[i]?=s[i]? :=λi h1 h2=>by rw[B,ë,ë]
 have k2:κ w3 ⟨sb,f+2,N⟩=E (I X wait):=by rw[ba A,P _ O O];exact d.c2
 have f2:χ w3 ⟨sb,f+2,N⟩=θ:=ç A;have ej:X.wrap (2*wait)=2*wait:=ä;have db:s.size=bb.size:=by rw[B];simp
 have dc:=jw d.c4;have ek:=jw d.c3;have M:Hid (R (ζ w3 ⟨sb,f+2,N⟩ (I X (min (2*wait) 32)))):=J (by
  rw[hR];have gs:=aD (au w3 (E sb)) ⟨sb,f+2,N⟩ (I X (min (2*wait) 32)) (ψ Q);have de:aj w w2 (FT sb (Y z lf.length V) p):=((aj.of K).trans (aj.of L)).mono (λk _ l=>l.elim (λe=>φ (aR e).symm) (nofun));have dg:a3.ownBlock≠E sb:=by
   obtain e|e:=a9
   rw[e];exact ax;intro e2;have:=e _ e2;have:=L.size;omega
  refine φ ⟨Z da,bb.setIfInBounds (f+2) (I X (min (2*wait) 32)),bA,a3,⟨heap_set A _,by simp[<-db,bw],λi hi=>?_,?_,φ ak,?_⟩,⟨?_,?_,?_,?_,?_,a4.gb gs (ψ (by rw[ak];exact ao)),a8.gb gs (ψ dg)⟩,ak⟩;rw[ë,P _ O O,y _ O];refine((de.trans C3).trans (aj.of gs)).mono (λk _ l=>?_);obtain(l|l)|l:=l
  exact l;exact l;exact φ (aR l).symm;exact a9.imp id (λe k hk=>by have:=e k hk;have:=L.size;omega);rw[ë,P _ O O];exact d.c0;rw[ë,P _ O O];exact d.c1;exact cU;rw[ë,B];exact cU Ψ
  .rw[ë,B,ë];exact cU dc)
 obtain⟨mw,S⟩:=í (min (2*wait) 32);rw[<-S]at M;replace S:=J S;clear P B a4 a8 C3 ak a9 b3 b4;replace A:=J A;by_cases eo:32<2*wait
 .obtain rfl:mw=32:=by rw[Z S];omega
  go_wp2_with fail;exact eP (dV Q _ _ _) Q ⟨Q,Z M⟩
 obtain rfl:mw=2*wait:=by rw[Z S];omega
 go_wp2_with fail;exact eP (dV Q _ _ _) Q ⟨Q,Z M⟩
def mn(a:Kt->Bool)(l:List Kt):List (Int×Pc):=l.flatMap (λx=>if a x then x.1.ps.map (λp=>(x.1.st,p))else[])
def JV(a:Kt->Bool)(l:List Kt)(j:Nat)(b:j<l.length):mn a (l.take (j+1))=mn a (l.take j)++(if a (bZ l j)then(bZ l j).1.ps.map (λp=>((bZ l j).1.st,p))else[]):=by
 unfold mn;rw[tq,pq b,Option.toList_some,List.flatMap_append];simp
def LT(sb:Nat)(v:υ)(k:Nat):Prop:=k=sb\/v.ownBlock=E k
def JW(w:D)(sb T j q:Nat)(ln lc:Array υ)(aw:List Kt)(d:Kt->Bool)(St:List (Int×Pc)->D->Prop)(C:List (Int×Pc))(v:υ)(t:df w T v aw)(de:sb<w.heap.size)(bj:v.ownBlock≠E sb)(S:Nat->Prop)(hS:∀k,LT sb v k->S k)(ao:oF w S aw)
 (en:∀args w,(callFunc j args).run prog w=.ok (.enter j args) w) (ec:∀args w,(callFunc q args).run prog w=.ok (.enter q args) w)
 (hN:∀(W:D)(x:Kt),aj w W (LT sb v)->x∈aw->Calls prog j (#[ε (kA x)]++ln) W (λe b=>e=ξ (β (d x))/\G W b N))
 (F:∀(W b:D)(a:List (Int×Pc))(r:Option Nat),St a W->G W b r->(r=N\/r=v.ownBlock)->St a b) (h0:St C w)
 (hC:∀(W:D)(a:List (Int×Pc))(x:Kt)(p:Pc),St a W->x∈aw->p∈x.1.ps->d x=ρ->Calls prog q (#[I X x.1.st,ε (pA p)]++lc) W (λe b=>e=ξ (τ #[])/\St (a++[(x.1.st,p)]) b/\G W b (E sb))):
 Calls prog 289 #[v,.func (.func j) #[] ln,.func (.func q) #[] lc] w λe u=>∃l,e=ξ l/\df u T l (aw.filter (λx=> !d x))/\St (C++mn d aw) u/\l.ownBlock=v.ownBlock/\aj w u (LT sb v):=by
 refine fL λR z=>?_
 obtain⟨m,H⟩:=í ((w.alloc (ο #[.func (.func j) #[] ln] 326)).alloc (ο #[.func (.func q) #[] lc] 386));have s:G w m N:=by rw[H];exact aW (aC _ _ _) _
 have bx:(w.alloc (ο #[.func (.func j) #[] ln] 326)).heap.size=w.heap.size+1:=Γ;have bz:m.heap[w.heap.size]?=E (ο #[.func (.func j) #[] ln] 326 (0,0)):=by
  rw[H];exact bp (aM _ _) (aC _ _ N)
 have ax:m.heap[w.heap.size+1]?=E (ο #[.func (.func q) #[] lc] 386 (0,0)):=by
  rw[H,<-bx];exact aM _ _
 have a0:=(aV.1 ax).1;have bA:∀k,v.ownBlock=E k->k<w.heap.size:=λk e=>(t.lt k e).2
 have a1:∀k,w.heap.size<=k->¬LT sb v k:=λk hk h=>by
  obtain h|h:=h
  omega;have:=bA k h;omega
 let⟨va,K,a2,b3,a3⟩:=t.fU
 have V:Hid (Calls prog 236 #[v,.func (.func 302) #[] #[π (E ⟨w.heap.size,0,N⟩),π (E ⟨w.heap.size+1,0,N⟩)]] m R):=by
  subst a2;by_cases hz:aw=[]
  subst hz;refine J ((zP va K _ _ m a3 (λ_ _=>Φ)).mono ?_);rintro e u⟨rfl,rfl⟩;rw[z];exact⟨_,Q,t.ag s,by simpa [mn]using F _ _ _ N h0 s (φ Q),Q,(aj.of s).mono (nofun)⟩
  have b4:=qt.2 hz;obtain⟨g,rfl,-⟩:=t.cell b4;let⟨b5,b6,b7⟩:=(t.ag s).mid
  have b8:sb≠g:=λe=>bj (by rw[e];rfl)
  have V:=zN g aw.length K T 302 sb #[π (E ⟨w.heap.size,0,N⟩),π (E ⟨w.heap.size+1,0,N⟩)] aw m (λh=>d (bZ aw h)) (λh W=>St (C++mn d (aw.take h)) W/\aj m W (LT sb (Y (E ⟨g,0,N⟩) aw.length K))) b6 b5 Q ⟨b3,a3⟩ (λx hx=>by obtain⟨a,n,c,e,-⟩:=ao x hx;exact⟨a,n,c,e⟩) b7 O b8 (λ_ _=>Φ) ⟨by simpa [mn]using F _ _ _ N h0 s (φ Q),aj.rfl' _ _⟩
   (λW b h hi L=>⟨F _ _ _ _ hi.1 L (ψ Q),(hi.2.trans (aj.of L)).mono (λk _ f=>f.elim id (λe=>ψ e))⟩)
   (λW h hi f=>by
     have ai:=pX f;let⟨pa,pn,pp,ch,cm,ak⟩:=ao _ ai
     have a8:=((aj.of s).trans hi.2).mono (λk _ f=>f.elim (nofun) id);have dk:=bX a0 hi.2.size;have cp:=(hi.2.block w.heap.size O (a1 _ (aP _))).trans bz;have ct:=(hi.2.block (w.heap.size+1) a0 (a1 _ O)).trans ax;refine(JU W sb w.heap.size (w.heap.size+1) j q ln lc (bZ aw h) (d (bZ aw h)) (λa b=>St a b/\aj m b (LT sb (Y (E ⟨g,0,N⟩) aw.length K))) (C++mn d (aw.take h)) pa pn pp ch (cm.dR (λ_ y M=>a8.block _ (ak y M).2 (λht=>(ak y M).1 (hS _ ht)))) (λy M=>λe=>(ak y M).1 (hS _ (φ e))) O (by simp[κ,cp]) (by simp[κ,ct]) O O en ec
      (λb g'=>hN b _ (a8.grow g') ai) (λWa Wb a A bb=>⟨F _ _ _ N A.1 bb (φ Q),A.2.grow bb⟩) hi
      (λWa a p A cy hq=>(hC Wa a _ p A.1 ai cy hq).mono (λe Wb P=>⟨P.1,⟨P.2.1,(A.2.trans (aj.of P.2.2)).mono (λk _ f=>f.elim id (λe=>φ (aR e).symm))⟩,P.2.2⟩))).mono ?_
     rintro e b⟨rfl,hs,L⟩;exact⟨Q,⟨by rw[JV d aw h f,<-eF];exact hs.1,hs.2⟩,L⟩)
  refine J (V.mono ?_);have da:kp aw (λh=>d (bZ aw h)) aw.length=aw.filter (λx=> !d x):=by
   rw[zM aw _ d (λi _=>rfl) _ (aP _),kC]
  rw[da];rintro e u⟨rfl,ho,hs,dc⟩;rw[kC]at hs;rw[z];exact⟨_,Q,ho,hs,Q,((aj.of s).trans dc).mono (λk _ f=>f.elim (nofun) id)⟩
 replace z:=J z;subst a2;go_enter func289,ntmps289;go_wp2_with fail;rw[<-H];apply(Z V).mono;rintro e w2 B;obtain⟨l,rfl⟩:∃l,e=ξ l:=by rw[Z z]at B;obtain⟨l,h,-⟩:=B;exact⟨l,h⟩
 replace B:=J B;go_wp2_with fail;exact Z B
def mq(W d:D)(sb c:Nat):Prop:=∀a t,W.heap[sb]?=E (ο a t (0,0))->∃b,d.heap[sb]?=E (ο b t (0,0))/\b.size=a.size/\∀i,i<c\/c+5<=i->b[i]?=a[i]?
def nH(W d:D)(sb c:Nat):Prop:=∀a t,W.heap[sb]?=E (ο a t (0,0))->∃b,d.heap[sb]?=E (ο b t (0,0))/\b.size=a.size/\∀i,c<=i->i<c+5->b[i]?=a[i]?
def mq.of(h:w.heap[n]?=W.heap[n]?):mq W w n k:=λa t b=>⟨a,h.trans b,Q,λ_ _=>rfl⟩
structure kZ(w W:D)(sb f g:Nat)(t:TypeId)(a b c d:υ)(lf ll:List Kt)(count tick wait:Int)(St:List (Int×Pc)->D->Prop)(h:List (Int×Pc)):Prop where
 fl:∃e,W.heap[sb]?=E (ο e t (0,0))/\jx W g e f c d lf ll count tick wait
 st:St h W
 aA:aj w W (FT sb a b)
 ef:c.ownBlock=a.ownBlock
 el:d.ownBlock=b.ownBlock
def jx.ag{lf ll:List Kt}(h:jx w n c k x y lf ll p q r)(g:G w W N):jx W n c k x y lf ll p q r:=
 ⟨h.c0,h.c1,h.c2,h.c3,h.c4,h.of.ag g,h.ol.ag g⟩
def kZ.set{w:D}{t:TypeId}{g:υ}{lf ll:List Kt}{St:List (Int×Pc)->D->Prop}{m:List (Int×Pc)}(h:kZ w W n j l t x y z g lf ll p q r St m)(s:qB n x y)
 (v:∀(W c:D)(a:List (Int×Pc)),St a W->aj W c (FT n x y)->mq W c n j->St a c) (b:Int):kZ w (ζ W ⟨n,j+2,N⟩ (I X b)) n j l t x y z g lf ll p q b St m:=by
 let⟨B,d,H⟩:=h.fl
 have f:=aD (au W (E n)) ⟨n,j+2,N⟩ (I X b) (ψ Q);have C:aj W (ζ W ⟨n,j+2,N⟩ (I X b)) (FT n x y):=(aj.of f).mono (λk _ e=>φ (aR e).symm);refine⟨⟨_,heap_set d _,?_⟩,v _ _ _ h.st C ?_,(h.aA.trans C).mono (λk _ A=>A.elim id id),h.ef,h.el⟩
 refine⟨?_,?_,cU (jw H.c2),?_,?_,H.of.gb f (ψ (by rw[h.ef];exact s.1)),H.ol.gb f (ψ (by rw[h.el];exact s.2.1))⟩
 rw[ë];exact H.c0;rw[ë];exact H.c1;rw[ë];exact H.c3;rw[ë];exact H.c4;intro F t2 u;rw[d]at u;cases u;exact⟨_,heap_set d _,Γ,λi hi=>by rw[ë]⟩
def CK{ao:υ}{lf ll:List Kt}{St:List (Int×Pc)->D->Prop}{ax:List (Int×Pc)}(h:kZ w W j m o T z x y ao lf ll q p r St ax)(a0:qB j z x)(cy:j<w.heap.size)
 (bx:∀(W b:D)(a:List (Int×Pc)),St a W->aj W b (FT j z x)->mq W b j m->St a b)
 (S:Nat->Prop) (hS:∀k,FT j z x k->S k) (aw:List Kt) (v:υ) (a1:(aw=lf/\v=y)\/(aw=ll/\v=ao)) (bA:oF W S aw)
 (B:Nat) (a:Option Addr) (n a2:Nat) (l:List Rg) (bM:κ W ⟨B,0,N⟩=E (Y a n a2)) (hB:¬FT j z x B) (hs:bq W a n a2 l) (a3:l≠[]->∀f,a=E f->¬FT j z x f.block/\f.block<W.heap.size)
 (g:Nat) (lc:Array υ) (ec:∀args w,(callFunc g args).run prog w=.ok (.enter g args) w)
 (hC:∀(W:D)(a:List (Int×Pc))(c:Kt)(s:Pc),St a W->c∈aw->s∈c.1.ps->bK l c.1.num=ρ->Calls prog g (#[I X c.1.st,ε (pA s)]++lc) W (λe b=>e=ξ (τ #[])/\St (a++[(c.1.st,s)]) b/\G W b (E j)/\nH W b j m)):
 Calls prog 289 #[v,.func (.func 287) #[] #[π (E ⟨B,0,N⟩)],.func (.func g) #[] lc] W λe b=>∃t,e=ξ t/\df b o t (aw.filter (λc=> !bK l c.1.num))/\t.ownBlock=v.ownBlock/\St (ax++mn (λc=>bK l c.1.num) aw) b/\aj W b (LT j v)/\nH W b j m:=by
 let⟨c9,b6,H⟩:=h.fl
 have da:=h.aA.size;have a4:v.ownBlock=z.ownBlock\/v.ownBlock=x.ownBlock:=by
  obtain⟨-,rfl⟩|⟨-,rfl⟩:=a1
  exact φ h.ef;exact ψ h.el
 have C:∀k,LT j v k->FT j z x k:=λk d=>by
  obtain d|d:=d
  exact φ d;obtain e|e:=a4
  exact ψ (φ (e▸d));exact ψ (ψ (e▸d))
 have b7:df W o v aw:=by
  obtain⟨rfl,rfl⟩|⟨rfl,rfl⟩:=a1
  exact H.of;exact H.ol
 have a8:v.ownBlock≠E j:=by
  obtain e|e:=a4
  rw[e];exact a0.1;rw[e];exact a0.2.1
 refine(JW W j _ 287 g _ lc _ (λc=>bK l c.1.num) (λF b=>St F b/\nH W b j m) _ v b7 O a8 S (λk d=>hS k (C k d)) bA (λ_ _=>Φ) ec ?_ ?_ ⟨h.st,λu T A=>⟨u,A,Q,λ_ _ _=>rfl⟩⟩ ?_).mono ?_;intro b c K hx;exact CJ b B a n _ l c (K.cell bM (λP=>hB (C _ P))) (hs.dR (λhl f ey=>K.block _ (a3 hl f ey).2 (λP=>(a3 hl f ey).1 (C _ P))));rintro Wa Wb F ca⟨R,L⟩ M hr;have cc:∀k,ca=E k->k≠j:=λk e=>by
  obtain rfl|rfl:=hr
  cases e;rintro rfl;exact a8 e
 obtain⟨db,cf,-,-⟩:=L _ _ b6;have bt:=M.block j (aV.1 cf).1 (λe=>cc j e.symm Q);refine⟨bx _ _ _ R ((aj.of M).mono (λk _ e=>?_)) (mq.of bt),λu T A=>?_⟩
 obtain rfl|rfl:=hr
 cases e;exact C k (ψ e);let⟨dc,V,h2,h3⟩:=L u T A
 exact⟨_,bt.trans V,h2,h3⟩
 rintro Wa F c s⟨R,L⟩ hx hp hq;apply(hC Wa F c s R hx hp hq).mono;rintro e Wb⟨he,cm,M,d⟩;refine⟨he,⟨cm,λu T A=>?_⟩,M⟩
 let⟨de,V,h2,h3⟩:=L u T A
 let⟨dg,k1,k2,k3⟩:=d _ T V
 exact⟨_,k1,k2.trans h2,λi hi hj=>(k3 i hi hj).trans (h3 i hi hj)⟩
 rintro e b⟨t,he,ho,⟨cw,d⟩,cx,K⟩;exact⟨t,he,ho,cx,cw,K,d⟩
def kZ.aO{u c:υ}{lf ll A:List Kt}{St:List (Int×Pc)->D->Prop}{P B:List (Int×Pc)}(h:kZ w W n j l T x y z u lf ll p q r St P)(g:qB n x y)
 (R:∀(W v:D)(a:List (Int×Pc)),St a W->aj W v (FT n x y)->mq W v n j->St a v)
 (S:df v l c A) (F:c.ownBlock=z.ownBlock) (hs:St B v) (C:aj W v (LT n z)) (K:nH W v n j):
 kZ w (ζ v ⟨n,j+3,N⟩ c) n j l T x y c u A ll p q r St B/\κ v ⟨n,j+3,N⟩=E z/\χ v ⟨n,j+3,N⟩=θ:=by
 let⟨V,hb,H⟩:=h.fl
 let⟨ak,d,al,f⟩:=K V T hb
 have s:=aD (au v (E n)) ⟨n,j+3,N⟩ c (ψ Q);have m:=h.ef;have t:=h.el;have L:aj v (ζ v ⟨n,j+3,N⟩ c) (FT n x y):=(aj.of s).mono (λk _ e=>φ (aR e).symm);have a0:j+4<ak.size:=by rw[al];exact jw H.c4
 have ao:=H.ol.aA C (λk hk b=>by
  obtain b|b:=b
  exact g.2.1 (by grind)
  .exact g.2.2 k (m▸b) (t▸hk))
 refine⟨⟨⟨_,heap_set d _,?_⟩,R _ _ _ hs L ?_,((h.aA.trans C).trans L).mono (λk _ b=>?_),F.trans m,t⟩,?_,by simp[χ,d]⟩
 refine⟨?_,?_,?_,cU,?_,S.gb s (ψ (by rw[F,m];exact g.1)),ao.gb s (ψ (by rw[t];exact g.2.1))⟩
 rw[ë,f _ O O];exact H.c0;rw[ë,f _ O O];exact H.c1;rw[ë,f _ O O];exact H.c2;rw[ë,f _ O O];exact H.c4;intro a1 t2 M;rw[d]at M;cases M;exact⟨_,heap_set d _,Γ,λi hi=>by rw[ë]⟩
 obtain(b|b|b)|b:=b
 exact b;exact φ b;exact ψ (φ (m▸b));exact b;rw[ba d,f _ O O];exact H.c3
def kZ.JX{g c:υ}{lf ll A:List Kt}{St:List (Int×Pc)->D->Prop}{P B:List (Int×Pc)}(h:kZ w W n j l T x y z g lf ll p q r St P)(m:qB n x y)
 (R:∀(W v:D)(a:List (Int×Pc)),St a W->aj W v (FT n x y)->mq W v n j->St a v)
 (S:df v l c A) (F:c.ownBlock=g.ownBlock) (hs:St B v) (C:aj W v (LT n g)) (K:nH W v n j):
 kZ w (ζ v ⟨n,j+4,N⟩ c) n j l T x y z c lf A p q r St B/\κ v ⟨n,j+4,N⟩=E g/\χ v ⟨n,j+4,N⟩=θ:=by
 let⟨V,hb,H⟩:=h.fl
 let⟨ak,d,al,f⟩:=K V T hb
 have t:=aD (au v (E n)) ⟨n,j+4,N⟩ c (ψ Q);have u:=h.ef;have s:=h.el;have L:aj v (ζ v ⟨n,j+4,N⟩ c) (FT n x y):=(aj.of t).mono (λk _ e=>φ (aR e).symm);have a0:j+4<ak.size:=by rw[al];exact jw H.c4
 have ao:=H.of.aA C (λk hk b=>by
  obtain b|b:=b
  exact m.1 (by grind)
  .exact m.2.2 k (u▸hk) (s▸b))
 refine⟨⟨⟨_,heap_set d _,?_⟩,R _ _ _ hs L ?_,((h.aA.trans C).trans L).mono (λk _ b=>?_),u,F.trans s⟩,?_,by simp[χ,d]⟩
 refine⟨?_,?_,?_,?_,cU,ao.gb t (ψ (by rw[u];exact m.1)),S.gb t (ψ (by rw[F,s];exact m.2.1))⟩
 rw[ë,f _ O O];exact H.c0;rw[ë,f _ O O];exact H.c1;rw[ë,f _ O O];exact H.c2;rw[ë,f _ O O];exact H.c3;intro a1 t2 M;rw[d]at M;cases M;exact⟨_,heap_set d _,Γ,λi hi=>by rw[ë]⟩
 obtain(b|b|b)|b:=b
 exact b;exact φ b;exact ψ (ψ (s▸b));exact b;rw[ba d,f _ O O];exact H.c4
def kZ.gb{w:D}{c:υ}{lf ll:List Kt}{St:List (Int×Pc)->D->Prop}{d:List (Int×Pc)}(h:kZ w W n i j T x y z c lf ll p q r St d)
 (f:∀(W v:D)(a:List (Int×Pc)),St a W->aj W v (FT n x y)->mq W v n i->St a v) (g:G W v N):kZ w v n i j T x y z c lf ll p q r St d:=by
 let⟨l,b,H⟩:=h.fl
 exact⟨⟨l,bp b g,H.ag g⟩,f _ _ _ h.st ((aj.of g).mono (nofun)) (mq.of ((bp b g).trans b.symm)),h.aA.grow g,h.ef,h.el⟩
def CL(w a:D)(sb f i:Nat)(t:TypeId)(e c:υ)(lf ll:List Kt)(count tick wait:Int)(St:List (Int×Pc)->D->Prop)(l:List Rg):Prop:=
 ∃g h b,a.heap[sb]?=E (ο g t (0,0))/\
  jx a i g f h b ((lf.filter (λx=> !bK l x.1.num)).filter (λx=> !decide (x.1.num+3<=(an l 0).hi))) (ll.filter (λx=> !bK l x.1.num)++(lf.filter (λx=> !bK l x.1.num)).filter (λx=>decide (x.1.num+3<=(an l 0).hi))) count tick (if lf.any (λx=>bK l x.1.num)then 4 else wait)/\
  (∃d,St (mn (λx=>bK l x.1.num) lf++mn (λx=>bK l x.1.num) ll) d/\aj d a (FT sb e c)/\mq d a sb f/\(b.ownBlock=c.ownBlock\/∀k,b.ownBlock=E k->d.heap.size<=k))/\aj w a (FT sb e c)/\h.ownBlock=e.ownBlock/\(b.ownBlock=c.ownBlock\/∀k,b.ownBlock=E k->w.heap.size<=k)
def kZ.JY{g:υ}{lf ll:List Kt}{St:List (Int×Pc)->D->Prop}{t:List (Int×Pc)}(h:kZ w W n i j T x y z g lf ll p q r St t)
 (R:∀(W s:D)(a:List (Int×Pc)),St a W->aj W s (FT n x y)->mq W s n i->St a s) (S:W.heap[n]?=E (ο c T (0,0))) (H:jx W j c i z g lf ll p q r) {l f:υ} {u A:List Kt}
 (K:v.heap[n]?=E (ο ((c.setIfInBounds (i+4) f).setIfInBounds (i+3) l) T (0,0))) (L:df v j l u) (M:df v j f A) (C:aj W v (FT n z g)) (nf:l.ownBlock=z.ownBlock) (nl:f.ownBlock=g.ownBlock\/∀k,f.ownBlock=E k->W.heap.size<=k):
 ∃B a b,v.heap[n]?=E (ο B T (0,0))/\jx v j B i a b u A p q r/\(∃m,St t m/\aj m v (FT n x y)/\mq m v n i/\(b.ownBlock=y.ownBlock\/∀k,b.ownBlock=E k->m.heap.size<=k))/\aj w v (FT n x y)/\a.ownBlock=x.ownBlock/\(b.ownBlock=y.ownBlock\/∀k,b.ownBlock=E k->w.heap.size<=k):=by
 have F:aj W v (FT n x y):=C.mono (λk _ d=>by
  obtain d|d|d:=d
  exact φ d;exact ψ (φ (h.ef▸d))
  .exact ψ (ψ (h.el▸d)))
 have V:=jw H.c4;refine⟨_,l,f,K,⟨?_,?_,?_,cU Ψ,?_,L,M⟩,⟨W,h.st,F,?_,nl.imp (λe=>e.trans h.el) id⟩,(h.aA.trans F).mono (λk _ d=>d.elim id id),nf.trans h.ef,?_⟩
 rw[ë,ë];exact H.c0;rw[ë,ë];exact H.c1;rw[ë,ë];exact H.c2;simp_all;intro ai t2 ak;grind;obtain e|e:=nl
 exact φ (e.trans h.el);exact ψ (λk P=>bG h.aA.size (e k P))
def J1(w:D)(b c a:Nat)(ls:Array υ)(st:Int)(p:Pc)(q:Bool)(h0:κ w ⟨b,0,N⟩=E (.func (.func a) #[] ls))(h:κ w ⟨c,2,N⟩=E (I X st))(t:∀args w,(callFunc a args).run prog w=.ok (.enter a args) w)
 (i:∀W,G w W N->Calls prog a (#[I X st,ε (pA p)]++ls) W (λe j=>e=ξ (β q)/\G W j N)):
 Calls prog 293 #[ε (pA p),π (E ⟨b,0,N⟩),π (E ⟨c,0,N⟩)] w λe k=>e=ξ (β !q)/\G w k N:=by
 let⟨⟨l,m⟩,n,r⟩:=p
 unfold pA at *;simp only at *;have u:b<w.heap.size:=eI w _ h0;have v:c<w.heap.size:=eI w _ h;obtain⟨d,f⟩:=í (w.alloc (ο #[I U l,I U m,β n,β r] 377));have g:G w d N:=by rw[f];exact aC _ _ _
 go_enter func293,ntmps293;go_wp2_with fail;rw[<-f];apply(Z (J (i d g))).mono;rintro e x⟨rfl,s⟩;go_wp2;go_ret;exact⟨Q,aq g s⟩
def J2(w:D)(f c:Nat)(ls:Array υ)(x:Kt)(T:Int->Pc->Bool)(pa:Option Addr)(a d:Nat)(z:x.2=Y pa a d)(hp:ml w pa a d x.1.ps)(h0:κ w ⟨f,0,N⟩=E (.func (.func c) #[] ls))(A:∀args w,(callFunc c args).run prog w=.ok (.enter c args) w)
 (r:∀W p,G w W N->p∈x.1.ps->Calls prog c (#[I X x.1.st,ε (pA p)]++ls) W (λe j=>e=ξ (β (T x.1.st p))/\G W j N)):
 Calls prog 291 #[ε (kA x),π (E ⟨f,0,N⟩)] w λe B=>e=ξ (β (x.1.ps.all (T x.1.st)))/\G w B N:=by
 let⟨⟨num,tk,st,ps⟩,sv⟩:=x
 simp only at *;subst z;unfold kA;obtain⟨l,m⟩:=í (w.alloc (ο #[I U num,I X tk,I X st,Y pa a d] 325));have k:G w l N:=by rw[m];exact aC _ _ _
 have C:l.heap[w.heap.size]?=E (ο #[I U num,I X tk,I X st,Y pa a d] 325 (0,0)):=by rw[m];exact aM _ _
 obtain⟨-,-,b2,-⟩:=m8 C;have s:=hp.ag k;obtain⟨b,o,n⟩:∃b o,0<a->pa=E ⟨b,o,N⟩:=by
  by_cases F:0<a;obtain⟨-,h2,h3,-,h5|⟨b,o,rfl,-⟩⟩:=id hp;omega;exact⟨b,o,λ_=>rfl⟩
  exact⟨0,0,λh=>absurd h F⟩
 have t:=hp.2.1;have H:=J ((vz.1 (λi=>I U (fT ps i).x.lo) (λi=>I U (fT ps i).x.hi) (λi=>β (fT ps i).e) (λi=>β (fT ps i).g)).2 pa b o a d 293 #[] #[π (E ⟨f,0,N⟩),π (E ⟨w.heap.size,0,N⟩)] l (λi=>(!T st (fT ps i))=ρ) n ⟨hp.2.2.1,hp.2.2.2.1⟩ (λ_ _=>Φ)
  (λW i g hi=>by
    have u:=s.ag g;rw[n O]at u;exact u.cell i O)
  (λW i g hi=>by
    apply(J1 W f w.heap.size c ls st (fT ps i) (T st (fT ps i)) (g.cell (ì k h0) Γ) (ì g b2) A (λj q=>r j _ (aq k (aq g q)) (xK O))).mono;rintro e j⟨rfl,q⟩;exact⟨⟨_,Q,Iff.rfl⟩,q⟩))
 have v:Hid ((!ps.all (T st))=ρ↔∃i,i<a/\(!T st (fT ps i))=ρ):=J (by
  rw[t,Bool.not_eq_true',<-Bool.not_eq_true,List.all_eq_true];constructor;intro h;apply BE;intro K;apply h;intro p L;obtain⟨i,hi,rfl⟩:=ko.1 L;have M:fT ps i=ps[i]:=by simp[fT,List.getD,hi]
  cases P:T st ps[i];exact absurd ⟨i,hi,by rw[M,P];rfl⟩ K;rfl
  .rintro⟨i,hi,h⟩ R;have:=R _ (xK hi);rw[this]at h;cases h)
 obtain⟨al,y⟩:=í (ps.all (T st));rw[<-y]at v⊢;clear y t hp s n r;go_enter func291,ntmps291;go_wp2_with fail;rw[<-m];apply(Z H).mono;rintro e w2⟨S,V⟩;obtain rfl:=tM S (Z v);go_wp2;go_ret;exact⟨Γ,aq k V⟩
def J3(w:D)(sb q s:Nat)(B:Array υ)(t:TypeId)(C b:υ)(lf ll:List Kt)(count tick wait:Int)(F:w.heap[sb]?=E (ο B t (0,0)))(H:jx w s B q C b lf ll count tick wait)(K:qB sb C b)(S:Nat->Prop)(bj:∀k,FT sb C b k->S k)(al:oF w S ll)(f:Nat)(ls:Array υ)(T:Int->Pc->Bool)(es:∀args w,(callFunc f args).run prog w=.ok (.enter f args) w)
 (hS:∀(W:D)(x:Kt)(p:Pc),aj w W (λk=>b.ownBlock=E k)->x∈ll->p∈x.1.ps->Calls prog f (#[I X x.1.st,ε (pA p)]++ls) W (λe u=>e=ξ (β (T x.1.st p))/\G W u N)):
 Calls prog 254 #[π (E ⟨sb,q,N⟩),.func (.func f) #[] ls] w λe l=>e=ξ (τ #[])/\∃L,l.heap[sb]?=E (ο (B.setIfInBounds (q+4) L) t (0,0))/\df l s L (ll.filter (λx=> !x.1.ps.all (T x.1.st)))/\L.ownBlock=b.ownBlock/\aj w l (λk=>k=sb\/b.ownBlock=E k):=by
 refine js λR M=>?_
 replace M:=J M;have dg:=(aV.1 F).1;obtain⟨m,z⟩:=í (w.alloc (ο #[.func (.func f) #[] ls] 390));have r:G w m N:=by rw[z];exact aC _ _ _
 have ao:m.heap[w.heap.size]?=E (ο #[.func (.func f) #[] ls] 390 (0,0)):=by rw[z];exact aM _ _
 have bw:=(aV.1 ao).1;have bx:=bp F r;let⟨va,P,ax,bA,a0⟩:=H.ol.fU
 have bM:∀k,b.ownBlock=E k->k<w.heap.size:=λk e=>(H.ol.lt k e).2
 have V:Hid (Calls prog 236 #[b,.func (.func 291) #[] #[π (E ⟨w.heap.size,0,N⟩)]] m (λe l=>∃a n c,e=ξ (Y a n c)/\df l s (Y a n c) (ll.filter (λx=> !x.1.ps.all (T x.1.st)))/\(Y a n c).ownBlock=b.ownBlock/\aj m l (λk=>b.ownBlock=E k))):=by
  subst ax;by_cases hz:ll=[]
  subst hz;refine J ((zP va P _ _ m a0 (λ_ _=>Φ)).mono ?_);rintro e l⟨rfl,rfl⟩;exact⟨_,_,_,Q,H.ol.ag r,Q,aj.rfl' _ _⟩
  have b3:=qt.2 hz;obtain⟨g,rfl,-⟩:=H.ol.cell b3;let⟨b4,b5,b6⟩:=(H.ol.ag r).mid
  have b7:sb≠g:=λe=>K.2.1 (by rw[e];rfl)
  have V:=zN g ll.length P s 291 sb #[π (E ⟨w.heap.size,0,N⟩)] ll m (λh=>(bZ ll h).1.ps.all (T (bZ ll h).1.st)) (λ_ W=>aj m W (λk=>(Y (E ⟨g,0,N⟩) ll.length P).ownBlock=E k)) b5 b4 Q ⟨bA,a0⟩ (λx hx=>by obtain⟨a,n,c,e,-⟩:=al x hx;exact⟨a,n,c,e⟩) b6 O b7 (λ_ _=>Φ) (aj.rfl' _ _)
   (λW u h hi gg=>(hi.trans (aj.of gg)).mono (λk _ d=>d.elim id id))
   (λW h hi d=>by
     have a2:=pX d;let⟨pa,pn,pp,ch,cm,a3⟩:=al _ a2
     have a4:=((aj.of r).trans hi).mono (λk _ d=>d.elim (nofun) id);have cp:=(hi.block w.heap.size bw (λe=>by have:=bM _ e;omega)).trans ao;apply(J2 W w.heap.size f ls (bZ ll h) T pa pn pp ch (cm.dR (λ_ y ey=>a4.block _ (a3 y ey).2 (λht=>(a3 y ey).1 (bj _ (ψ (ψ ht)))))) (by simp[κ,cp]) es (λu p A cv=>hS u _ p (a4.grow A) a2 cv)).mono;rintro e u⟨rfl,A⟩;exact⟨Q,hi.grow A,cK A _⟩)
  refine J (V.mono ?_);have cw:kp ll (λh=>(bZ ll h).1.ps.all (T (bZ ll h).1.st)) ll.length=ll.filter (λx=> !x.1.ps.all (T x.1.st)):=by
   rw[zM ll _ (λx=>x.1.ps.all (T x.1.st)) (λi _=>rfl) _ (aP _),kC]
  rw[cw];rintro e l⟨rfl,ho,cy⟩;exact⟨_,_,_,Q,ho,Q,cy⟩
 have c9:Hid (∀(j:D)(v:υ),df j s v (ll.filter (λx=> !x.1.ps.all (T x.1.st)))->v.ownBlock=b.ownBlock->aj m j (λk=>b.ownBlock=E k)->R (ζ j ⟨sb,q+4,N⟩ v)/\κ j ⟨sb,q+4,N⟩=E b/\χ j ⟨sb,q+4,N⟩=θ):=J (λj v h1 h2 h3=>by
  have ai:=(h3.block sb O (λe=>K.2.1 e)).trans bx;have f:=aD (au j (E sb)) ⟨sb,q+4,N⟩ v (ψ Q);refine⟨?_,by rw[ba ai];exact H.c4,by simp[χ,ai]⟩
  rw[Z M];refine⟨v,heap_set ai _,h1.gb f (ψ (by rw[h2];exact K.2.1)),h2,(((aj.of r).trans h3).trans (aj.of f)).mono (λk _ d=>?_)⟩
  obtain(d|d)|d:=d
  cases d;exact ψ d
  .exact φ (aR d).symm)
 have d4:=r.cell ((ba F _).trans H.c4) Γ;subst ax;go_enter func254,ntmps254;go_upto_region 1 with fail;rw[<-z];clear z;go_wp2_with fail;apply(Z V).mono;rintro e j⟨a5,n5,c5,rfl,o5,e5,C5⟩;let⟨ak,z5,f5⟩:=Z c9 j _ o5 e5 C5
 replace ak:=J ak;go_wp2_with fail;exact eP (dV Q _ _ _) Q ⟨Q,Z ak⟩
def aB{α:Type}(f:Nat->α)(k:Nat)(x:α):Nat->α:=λi=>if i=k then x else f i
def bN{α:Type}(f:Nat->α)(k:Nat)(x:α):aB f k x k=x:=by simp[aB]
def bI{α:Type}(f:Nat->α)(x:α)(h:i≠k):aB f k x i=f i:=by simp[aB,h]
def sq{α:Type}(f:Nat->α)(k:Nat):aB f k (f k)=f:=by
 funext i;unfold aB;split;simp_all;rfl
def aS.aA(h:aS w n x L)(C:aj w W S)(c:∀k,x.ownBlock=E k->¬S k):aS W n x L:=by
 let⟨h0,d,a⟩:=h
 refine⟨h0,d,?_⟩
 obtain a|⟨g,cap,cur,e1,e2,b,e⟩:=a
 simp_all;exact ψ ⟨g,_,_,e1,e2,(C.block g (aV.1 b).1 (c g (by rw[e1];rfl))).trans b,e⟩
def qD(h:∃a n c,x=Y a n c/\bq w a n c s)(C:aj w W S)(hs:∀y n c,x=Y (E y) n c->¬S y.block/\y.block<w.heap.size):∃a n c,x=Y a n c/\bq W a n c s:=by
 let⟨a,n,c,e,b⟩:=h
 refine⟨a,n,c,e,b.dR (λ_ y d=>?_)⟩
 have:=hs y n c (by grind);exact C.block _ this.2 this.1
def il.frame{cs':Array υ}(h:il w j c l x z H)(C:aj w W S)(a:∀i,l<=i->i<l+9->cs'[i]?=c[i]?)(b:∀k,x.ownBlock=E k->¬S k)(hs:∀y n d,z=Y (E y) n d->¬S y.block/\y.block<w.heap.size):il W j cs' l x z H:=
 ⟨(a _ O O).trans h.c0,(a _ O O).trans h.c1,(a _ O O).trans h.c2,(a _ O O).trans h.c3,(a _ O O).trans h.c4,(a _ O O).trans h.c5,(a _ O O).trans h.c6,(a _ O O).trans h.c7,(a _ O O).trans h.c8,h.own.aA C b,qD h.set C hs,h.qC⟩
def iY.frame{cs':Array υ}{s:It}(h:iY w j c l x z s)(C:aj w W S)(a:∀i,l<=i->i<l+9->cs'[i]?=c[i]?)(b:∀k,x.ownBlock=E k->¬S k)(hs:∀y n d,z=Y (E y) n d->¬S y.block/\y.block<w.heap.size):iY W j cs' l x z s:=
 ⟨(a _ O O).trans h.c0,(a _ O O).trans h.c1,(a _ O O).trans h.c2,(a _ O O).trans h.c3,(a _ O O).trans h.c4,(a _ O O).trans h.c5,(a _ O O).trans h.c6,(a _ O O).trans h.c7,(a _ O O).trans h.c8,h.own.aA C b,qD h.set C hs⟩
def jx.frame{cs':Array υ}{lf ll:List Kt}(h:jx w n c j x y lf ll p q r)(C:aj w W S)(a:∀i,j<=i->i<j+5->cs'[i]?=c[i]?)(b:∀k,x.ownBlock=E k->¬S k)(hl:∀k,y.ownBlock=E k->¬S k):jx W n cs' j x y lf ll p q r:=
 ⟨(a _ O O).trans h.c0,(a _ O O).trans h.c1,(a _ O O).trans h.c2,(a _ O O).trans h.c3,(a _ O O).trans h.c4,h.of.aA C b,h.ol.aA C hl⟩
structure aY where
 own:Nat->υ
 set:Nat->υ
 lf:List Kt
 ll:List Kt
def cM(sb:Nat)(v:aY)(k:Nat):Prop:=k=sb\/∃i,i<10/\(v.own i).ownBlock=E k
def bn(sb:Nat)(v:aY)(k:Nat):Prop:=cM sb v k\/(∃i y n c,i<9/\v.set i=Y (E y) n c/\y.block=k)\/∃x∈v.lf++v.ll,∃y n c,x.2=Y (E y) n c/\y.block=k
structure jY(w:D)(sb:Nat)(v:aY):Prop where
 jy:sb<w.heap.size
 lt:∀i,i<10->∀k,(v.own i).ownBlock=E k->k<w.heap.size
 iR:∀i,i<10->(v.own i).ownBlock≠E sb
 sep:∀i j,i<10->j<10->i≠j->∀k,(v.own i).ownBlock=E k->(v.own j).ownBlock≠E k
 cq:∀i,i<9->∀y n c,v.set i=Y (E y) n c->¬cM sb v y.block/\y.block<w.heap.size
 iG:oF w (cM sb v) (v.lf++v.ll)
structure dz(b:Nat)(w c:D)(sb:Nat)(v a:aY):Prop where
 aA:aj w c (cM sb v)
 ft:∀k,cM sb a k->cM sb v k\/w.heap.size<=k
 ar:∀k,bn sb a k->bn sb v k\/b<=k
def qE{v:aY}(a:jY w n v)(h:cM n v k):k<w.heap.size:=by
 obtain rfl|⟨i,hi,h⟩:=h
 exact a.jy;exact a.lt i hi k h
def px{v:aY}(b:jY w j v)(h:bn j v k):k<w.heap.size:=by
 obtain h|⟨i,y,n,c,hi,e,rfl⟩|⟨x,f,y,n,c,e,rfl⟩:=h
 exact qE b h;exact(b.cq i hi y n c e).2;obtain⟨a,l,m,d,-,g⟩:=b.iG x f;rw[e]at d;exact(g y (lJ d).1.symm).2
def dz.mono{v a:aY}(h:dz n w W j v a)(b:i<=n):dz i w W j v a:=⟨h.aA,h.ft,λk c=>(h.ar k c).imp id (λe=>bG b e)⟩
def dz.rfl'(a:Nat)(w:D)(sb:Nat)(v:aY):dz a w w sb v v:=⟨aj.rfl' _ _,λ_ h=>φ h,λ_ h=>φ h⟩
def dz.trans{u v x:aY}(h:dz n w W j u v)(k:dz n W V j v x):dz n w V j u x:=by
 refine⟨⟨k.aA.os.trans h.aA.os,k.aA.tape.trans h.aA.tape,k.aA.output.trans h.aA.output,bG h.aA.size k.aA.size,λi hi b=>?_⟩,λi hi=>?_,λi hi=>?_⟩
 rw[k.aA.block i (bX hi h.aA.size) (λc=>(h.ft i c).elim b O)];exact h.aA.block i hi b;obtain a|a:=k.ft i hi
 exact h.ft i a;exact ψ (bG h.aA.size a);obtain a|a:=k.ar i hi
 exact h.ar i a;omega
def jY.ag{v:aY}(a:jY w j v)(g:G w W N):jY W j v:=
 ⟨bX a.jy g.size,λi hi k e=>bX (a.lt i hi k e) g.size,a.iR,a.sep,λi hi y n c e=>⟨(a.cq i hi y n c e).1,bX (a.cq i hi y n c e).2 g.size⟩,a.iG.aA (aj.of g) (nofun)⟩
def dz.ag{v:aY}(g:G w W N):dz n w W i v v:=⟨(aj.of g).mono (nofun),λ_ h=>φ h,λ_ h=>φ h⟩
def jY.other{v:aY}(b:jY w j v)(C:aj w W S)(h:∀k,k<w.heap.size->S k->¬bn j v k):jY W j v:=by
 refine⟨bX b.jy C.size,λi hi k e=>bX (b.lt i hi k e) C.size,b.iR,b.sep,λi hi y n c e=>⟨(b.cq i hi y n c e).1,bX (b.cq i hi y n c e).2 C.size⟩,λx g=>?_⟩
 let⟨a,n,c,e,hp,f⟩:=b.iG x g
 refine⟨a,n,c,e,hp.dR (λ_ y d=>C.block _ (f y d).2 (λl=>h _ (f y d).2 l (ψ (ψ ⟨x,g,y,n,c,by rw[e,d],Q⟩)))),λy d=>⟨(f y d).1,bX (f y d).2 C.size⟩⟩
def jY.pf{v:aY}(d:jY w l v)(i:Nat)(hi:i<8)(r s:υ)(C:aj w W (λk=>k=l\/(v.own i).ownBlock=E k))(A:r.ownBlock=(v.own i).ownBlock\/∀k,r.ownBlock=E k->w.heap.size<=k)(R:∀k,r.ownBlock=E k->k<W.heap.size)(F:zH w W r (v.set i) s):
 jY W l {v with own:=aB v.own i r,set:=aB v.set i s}/\dz w.heap.size w W l v {v with own:=aB v.own i r,set:=aB v.set i s}:=by
 have B:∀k,cM l {v with own:=aB v.own i r,set:=aB v.set i s} k->cM l v k\/w.heap.size<=k:=λk h=>by
  obtain rfl|⟨j,f,h⟩:=h
  exact φ (φ Q);simp only at h;by_cases e:j=i;subst e;rw[bN]at h;obtain b|b:=A
  exact φ (ψ ⟨j,f,by rw[<-b];exact h⟩);exact ψ (b k h);rw[bI _ _ e]at h;exact φ (ψ ⟨j,f,h⟩)
 have L:∀j,j<9->∀y n c,(aB v.set i s) j=Y (E y) n c->(¬cM l {v with own:=aB v.own i r,set:=aB v.set i s} y.block/\y.block<W.heap.size)/\(v.set j=Y (E y) n c\/w.heap.size<=y.block):=λj f y n c e=>by
  have M:v.set j=Y (E y) n c->(¬cM l {v with own:=aB v.own i r,set:=aB v.set i s} y.block/\y.block<W.heap.size)/\(v.set j=Y (E y) n c\/w.heap.size<=y.block):=λe=>by
   let⟨m,g⟩:=d.cq j f y n c e
   exact⟨⟨λh=>(B _ h).elim m O,bX g C.size⟩,φ e⟩
  by_cases P:j=i;subst P;rw[bN]at e;obtain rfl|F:=F
  exact M e;let⟨m,g,S⟩:=F y n c e
  refine⟨⟨λh=>?_,g⟩,ψ m⟩
  obtain h|⟨q,t,h⟩:=h
  have:=d.jy;omega;simp only at h;by_cases eq:q=j;subst eq;rw[bN]at h;exact S h;rw[bI _ _ eq]at h;have:=d.lt q t _ h;omega;rw[bI _ _ P]at e;exact M e
 refine⟨⟨bX d.jy C.size,λj f k h=>?_,λj f h=>?_,λp q hp t H k m g=>?_,λj f y n c e=>(L j f y n c e).1,λx K=>?_⟩,⟨C.mono (λk _ h=>h.elim φ (λh=>ψ ⟨i,O,h⟩)),B,λk h=>?_⟩⟩
 simp only at h;by_cases e:j=i;subst e;rw[bN]at h;exact R k h;rw[bI _ _ e]at h;exact bX (d.lt j f k h) C.size;simp only at h;by_cases e:j=i;subst e;rw[bN]at h;obtain b|b:=A
 rw[b]at h;exact d.iR j f h;have:=b _ h;have:=d.jy;omega;rw[bI _ _ e]at h;exact d.iR j f h;simp only at m g;by_cases e1:p=i;have e2:q≠i:=O;subst e1;rw[bN]at m;rw[bI _ _ e2]at g;obtain b|b:=A
 rw[b]at m;exact d.sep p q hp t H k m g;have:=b _ m;have:=d.lt q t k g;omega;rw[bI _ _ e1]at m;by_cases e2:q=i;subst e2;rw[bN]at g;obtain b|b:=A
 rw[b]at g;exact d.sep p q hp t H k m g;have:=b _ g;have:=d.lt p hp k m;omega;rw[bI _ _ e2]at g;exact d.sep p q hp t H k m g;let⟨a,n,c,e,hp,z⟩:=d.iG x K
 exact⟨a,n,c,e,hp.dR (λ_ y u=>C.block _ (z y u).2 (λT=>(z y u).1 (T.elim φ (λh=>ψ ⟨i,O,h⟩)))),λy u=>⟨λh=>(B _ h).elim (z y u).1 (by have:=(z y u).2;omega),bX (z y u).2 C.size⟩⟩
 obtain h|⟨j,y,n,c,f,e,rfl⟩|⟨x,K,y,n,c,e,rfl⟩:=h
 exact(B k h).imp φ id;simp only at e;obtain e2|e2:=(L j f y n c e).2
 exact φ (ψ (φ ⟨j,y,n,c,f,e2,Q⟩));omega;exact φ (ψ (ψ ⟨x,K,y,n,c,e,Q⟩))
def jY.J9{v:aY}(hN:i<=w.heap.size)(m:jY w l v)(r s:υ)(K L:List Kt)(C:aj w W (FT l (v.own 8) (v.own 9)))(P:r.ownBlock=(v.own 8).ownBlock\/∀k,r.ownBlock=E k->w.heap.size<=k)(R:s.ownBlock=(v.own 9).ownBlock\/∀k,s.ownBlock=E k->w.heap.size<=k)(T:∀k,r.ownBlock=E k->s.ownBlock≠E k)(a1:∀k,r.ownBlock=E k->k<W.heap.size)(a2:∀k,s.ownBlock=E k->k<W.heap.size)
 (V:∀x∈K++L,x∈v.lf++v.ll\/∃a n c,x.2=Y a n c/\ml W a n c x.1.ps/\∀y,a=E y->(i<=y.block/\y.block<W.heap.size/\¬cM l v y.block/\r.ownBlock≠E y.block/\s.ownBlock≠E y.block)):
 jY W l ⟨aB (aB v.own 8 r) 9 s,v.set,K,L⟩/\dz i w W l v ⟨aB (aB v.own 8 r) 9 s,v.set,K,L⟩:=by
 have A:aB (aB v.own 8 r) 9 s 8=r:=by rw[bI _ _ O,bN]
 have B:aB (aB v.own 8 r) 9 s 9=s:=bN _ _ _;have t:∀j,j<8->aB (aB v.own 8 r) 9 s j=v.own j:=λj d=>by rw[bI _ _ O,bI _ _ O]
 have H:∀j,j<10->j<8\/j=8\/j=9:=λj d=>by omega
 have M:∀k,cM l ⟨aB (aB v.own 8 r) 9 s,v.set,K,L⟩ k->cM l v k\/w.heap.size<=k:=λk h=>by
  obtain rfl|⟨j,d,h⟩:=h
  exact φ (φ Q);simp only at h;obtain e|rfl|rfl:=H j d
  rw[t j e]at h;exact φ (ψ ⟨j,d,h⟩);rw[A]at h;obtain f|f:=P
  exact φ (ψ ⟨8,d,by rw[<-f];exact h⟩);exact ψ (f k h);rw[B]at h;obtain f|f:=R
  exact φ (ψ ⟨9,d,by rw[<-f];exact h⟩);exact ψ (f k h)
 have ai:∀k,FT l (v.own 8) (v.own 9) k->cM l v k:=λk h=>by
  obtain rfl|h|h:=h
  exact φ Q;exact ψ ⟨8,O,h⟩;exact ψ ⟨9,O,h⟩
 have n8:∀j,j<8->∀k,(v.own j).ownBlock=E k->r.ownBlock≠E k:=λj d k g b=>by
  obtain f|f:=P
  rw[f]at b;exact m.sep j 8 O O O k g b;have:=f _ b;have:=m.lt j O k g;omega
 have n9:∀j,j<8->∀k,(v.own j).ownBlock=E k->s.ownBlock≠E k:=λj d k g b=>by
  obtain f|f:=R
  rw[f]at b;exact m.sep j 9 O O O k g b;have:=f _ b;have:=m.lt j O k g;omega
 refine⟨⟨bX m.jy C.size,λj d k h=>?_,λj d h=>?_,λp q hp hq S k g b=>?_,λj d y n c e=>?_,λx F=>?_⟩,⟨C.mono (λk _ h=>ai k h),M,λk h=>?_⟩⟩
 simp only at h;obtain e|rfl|rfl:=H j d
 rw[t j e]at h;exact bX (m.lt j d k h) C.size;rw[A]at h;exact a1 k h;rw[B]at h;exact a2 k h;simp only at h;obtain e|rfl|rfl:=H j d
 rw[t j e]at h;exact m.iR j d h;rw[A]at h;obtain f|f:=P
 rw[f]at h;exact m.iR 8 d h;have:=f _ h;have:=m.jy;omega;rw[B]at h;obtain f|f:=R
 rw[f]at h;exact m.iR 9 d h;have:=f _ h;have:=m.jy;omega;simp only at g b;obtain e1|rfl|rfl:=H p hp<;>rcases H q hq with e2|rfl|rfl
 rw[t p e1]at g;rw[t q e2]at b;exact m.sep p q hp hq S k g b;rw[t p e1]at g;rw[A]at b;exact n8 p e1 k g b;rw[t p e1]at g;rw[B]at b;exact n9 p e1 k g b;rw[A]at g;rw[t q e2]at b;exact n8 q e2 k b g;exact S Q;rw[A]at g;rw[B]at b;exact T k g b;rw[B]at g;rw[t q e2]at b;exact n9 q e2 k b g;rw[B]at g;rw[A]at b;exact T k b g;exact S Q;let⟨g,b⟩:=m.cq j d y n c e
 exact⟨λh=>(M _ h).elim g O,bX b C.size⟩
 obtain F|⟨a,n,c,e,hp,u⟩:=V x F
 let⟨a,n,c,e,hp,u⟩:=m.iG x F
 exact⟨a,n,c,e,hp.dR (λ_ y z=>C.block _ (u y z).2 (λht=>(u y z).1 (ai _ ht))),λy z=>⟨λh=>(M _ h).elim (u y z).1 (by have:=(u y z).2;omega),bX (u y z).2 C.size⟩⟩
 refine⟨a,n,c,e,hp,λy z=>⟨λh=>?_,(u y z).2.1⟩⟩
 let⟨y1,y2,y0,y3,y4⟩:=u y z
 obtain h|⟨j,d,h⟩:=h
 exact y0 (φ h);simp only at h;obtain e|rfl|rfl:=H j d
 rw[t j e]at h;exact y0 (ψ ⟨j,d,h⟩);rw[A]at h;exact y3 h;grind;obtain h|⟨j,y,n,c,d,e,rfl⟩|⟨x,F,y,n,c,e,rfl⟩:=h
 exact(M k h).imp φ (λe=>bG hN e);exact φ (ψ (φ ⟨j,y,n,c,d,e,Q⟩));obtain F|⟨a,n',c',e',hp,u⟩:=V x F
 exact φ (ψ (ψ ⟨x,F,y,n,c,e,Q⟩));simp_all
def jY.Ka{v:aY}(d:jY w l v)(i:Nat)(hi:i<9)(f:υ)(C:aj w W (λk=>k=l))(F:f=v.set i\/∀y n c,f=Y (E y) n c->w.heap.size<=y.block/\y.block<W.heap.size):
 jY W l {v with set:=aB v.set i f}/\dz w.heap.size w W l v {v with set:=aB v.set i f}:=by
 have s:∀j,j<9->∀y n c,(aB v.set i f) j=Y (E y) n c->(¬cM l {v with set:=aB v.set i f} y.block/\y.block<W.heap.size)/\(v.set j=Y (E y) n c\/w.heap.size<=y.block):=λj b y n c e=>by
  have t:v.set j=Y (E y) n c->(¬cM l {v with set:=aB v.set i f} y.block/\y.block<W.heap.size)/\(v.set j=Y (E y) n c\/w.heap.size<=y.block):=λe=>by
   let⟨p,q⟩:=d.cq j b y n c e
   exact⟨⟨p,bX q C.size⟩,φ e⟩
  by_cases u:j=i;subst u;rw[bN]at e;obtain rfl|F:=F
  exact t e;let⟨p,q⟩:=F y n c e
  exact⟨⟨λh=>by have:=qE d h;omega,q⟩,ψ p⟩
  rw[bI _ _ u]at e;exact t e
 refine⟨⟨bX d.jy C.size,λj b k h=>bX (d.lt j b k h) C.size,d.iR,d.sep,λj b y n c e=>(s j b y n c e).1,λx r=>?_⟩,⟨C.mono (λk _ h=>φ h),λk h=>φ h,λk h=>?_⟩⟩
 let⟨a,n,c,e,hp,m⟩:=d.iG x r
 exact⟨a,n,c,e,hp.dR (λ_ y g=>C.block _ (m y g).2 (λz=>(m y g).1 (φ z))),λy g=>⟨(m y g).1,bX (m y g).2 C.size⟩⟩
 obtain h|⟨j,y,n,c,b,e,rfl⟩|⟨x,r,y,n,c,e,rfl⟩:=h
 exact φ (φ h);simp only at e;obtain e2|e2:=(s j b y n c e).2
 exact φ (ψ (φ ⟨j,y,n,c,b,e2,Q⟩));omega;exact φ (ψ (ψ ⟨x,r,y,n,c,e,Q⟩))
variable{F:aY}
structure Sd where
 az:Int
 av:Int
 key:List Int
 first:Bool
 out:Nat->Ot
 aF:Nat->It
 aO:List Pk
 lost:List Pk
 count:Int
 tick:Int
 wait:Int
 af:List Rg
 floor:Int
 eY:Bool
structure bF(w:D)(d sb:Nat)(b:Array υ)(v:aY)(s:Sd):Prop where
 aG:w.heap[sb]?=E (ο b 241 (0,0))
 sz:b.size=101
 c0:b[0]?=E (I X s.az)
 c1:b[1]?=E (I X s.av)
 key:∀i,i<16->b[2+i]?=(bv s.key)[i]?
 fI:b[18]?=E (β s.first)
 out:∀k,k<4->il w d b (19+9*k) (v.own k) (v.set k) (s.out k)
 aF:∀k,k<4->iY w d b (55+9*k) (v.own (4+k)) (v.set (4+k)) (s.aF k)
 fl:jx w d b 91 (v.own 8) (v.own 9) v.lf v.ll s.count s.tick s.wait
 aO:s.aO=v.lf.map (·.1)
 lost:s.lost=v.ll.map (·.1)
 py:b[96]?=E (v.set 8)
 pB:∃a n c,v.set 8=Y a n c/\bq w a n c s.af
 pY:b[97]?=E (I U s.floor)
 lQ:b[98]?=E (β s.eY)
 dS:b[99]?=E (I X 0)
 qF:b[100]?=E (Y N 0 0)
 bB:jY w sb v
 bl:d<=w.heap.size
def eH(c:Nat)(w:D)(d sb:Nat)(v:aY)(e:Sd)(a:D):Prop:=∃f b,bF a d sb f b e/\dz c w a sb v b
def bF.ag{s:Sd}(H:bF w i j C F s)(g:G w W N):bF W i j C F s:=
 ⟨bp H.aG g,H.sz,H.c0,H.c1,H.key,H.fI,λk b=>(H.out k b).ag g,λk b=>(H.aF k b).ag g,H.fl.ag g,H.aO,H.lost,H.py,by let⟨a,n,c,e,h⟩:=H.pB;exact⟨a,n,c,e,h.ag g⟩,H.pY,H.lQ,H.dS,H.qF,H.bB.ag g,bG H.bl g.size⟩
def bF.to{s:Sd}(H:bF w n k c F s)(g:G w W none){N:Nat}:eH N w n k F s W:=⟨c,F,H.ag g,dz.ag g⟩
def eH.mono{s:Sd}(H:eH n w j l F s W)(h:i<=n):eH i w j l F s W:=by
 let⟨a,b,c,k⟩:=H
 exact⟨a,b,c,k.mono h⟩
def eH.pre{N:Nat}{a:aY}{s:Sd}(b:dz N w V i F a)(H:eH N V n i a s W):eH N w n i F s W:=by
 let⟨c,d,h,k⟩:=H
 exact⟨c,d,h,b.trans k⟩
def bF.xN{s:Sd}(H:bF w i j C F s)(k:Nat)(a:k<4):kY w j (F.own k) (F.set k):=
 ⟨H.bB.iR k O,λy n c e=>⟨λh=>(H.bB.cq k O y n c e).1 (φ h),λh=>(H.bB.cq k O y n c e).1 (ψ ⟨k,O,h⟩),(H.bB.cq k O y n c e).2⟩⟩
def bF.zQ{s:Sd}(H:bF w i j C F s)(k:Nat)(a:k<4):kY w j (F.own (4+k)) (F.set (4+k)):=
 ⟨H.bB.iR _ O,λy n c e=>⟨λh=>(H.bB.cq _ O y n c e).1 (φ h),λh=>(H.bB.cq _ O y n c e).1 (ψ ⟨4+k,O,h⟩),(H.bB.cq _ O y n c e).2⟩⟩
def bF.tN{s:Sd}(H:bF w n k c F s):qB k (F.own 8) (F.own 9):=
 ⟨H.bB.iR 8 O,H.bB.iR 9 O,H.bB.sep 8 9 O O O⟩
def bF.vA{s:Sd}(H:bF w l m c F s)(b:aj w W S)(d:∀k,S k->cM m F k)(j:Nat)(f:j<4)(g:∀i,19+9*j<=i->i<19+9*j+9->C[i]?=c[i]?)(p:∀k,(F.own j).ownBlock=E k->¬S k):il W l C (19+9*j) (F.own j) (F.set j) (s.out j):=
 (H.out j f).frame b g p (λy n a e=>⟨λh=>(H.bB.cq j O y n a e).1 (d _ h),(H.bB.cq j O y n a e).2⟩)
def bF.vB{s:Sd}(H:bF w l m c F s)(b:aj w W S)(d:∀k,S k->cM m F k)(j:Nat)(f:j<4)(g:∀i,55+9*j<=i->i<55+9*j+9->C[i]?=c[i]?)(p:∀k,(F.own (4+j)).ownBlock=E k->¬S k):iY W l C (55+9*j) (F.own (4+j)) (F.set (4+j)) (s.aF j):=
 (H.aF j f).frame b g p (λy n a e=>⟨λh=>(H.bB.cq (4+j) O y n a e).1 (d _ h),(H.bB.cq (4+j) O y n a e).2⟩)
def bF.rA{s:Sd}(H:bF w n l c F s)(i j:Nat)(hi:i<10)(b:j<10)(d:j≠i):∀k,(F.own j).ownBlock=E k->¬(k=l\/(F.own i).ownBlock=E k):=λk h a=>by
 obtain rfl|a:=a
 exact H.bB.iR j b h;exact H.bB.sep j i b hi d k h a
def bF.xO{s:Sd}(H:bF w l m C F s)(k:Nat)(x:k<4)(o:Ot)(h:pt w W m 241 C (19+9*k) l (F.own k) (F.set k) o):eH w.heap.size w l m F {s with out:=aB s.out k o} W:=by
 let⟨p,q,r,T,d,t⟩:=h
 let⟨u,v⟩:=H.bB.pf k O _ _ T.aA T.new (λj e=>(d.own.lt j e).2) t
 have a:∀j,(j=m\/(F.own k).ownBlock=E j)->cM m F j:=λj h=>h.elim φ (λh=>ψ ⟨k,O,h⟩)
 refine⟨p,{F with own:=aB F.own k q,set:=aB F.set k r},⟨T.aG,T.sz.trans H.sz,(T.out 0 O).trans H.c0,(T.out 1 O).trans H.c1,λi hi=>(T.out _ O).trans (H.key i hi),(T.out 18 O).trans H.fI,λj b=>?_,λj b=>?_,?_,H.aO,H.lost,?_,?_,(T.out 97 O).trans H.pY,(T.out 98 O).trans H.lQ,(T.out 99 O).trans H.dS,(T.out 100 O).trans H.qF,u,bG H.bl T.aA.size⟩,v⟩
 by_cases e:j=k;subst e;simp only[bN];exact d;simp only[bI _ _ e]
 exact H.vA T.aA a j b (λi f g=>T.out i O) (H.rA k j O O e);simp only[bI _ _ (O:4+j≠k)]
 exact H.vB T.aA a j b (λi f g=>T.out i O) (H.rA k _ O O O);simp only[bI _ _ (O:8≠k),bI _ _ (O:9≠k)]
 exact H.fl.frame T.aA (λi f g=>T.out i O) (H.rA k 8 O O O) (H.rA k 9 O O O);simp only[bI _ _ (O:8≠k)];exact(T.out 96 O).trans H.py;simp only[bI _ _ (O:8≠k)]
 exact qD H.pB T.aA (λy n c e=>⟨λh=>(H.bB.cq 8 O y n c e).1 (a _ h),(H.bB.cq 8 O y n c e).2⟩)
def bF.zR{s:Sd}(H:bF w l m C F s)(k:Nat)(x:k<4)(o:It)(h:pW w W m 241 C (55+9*k) l (F.own (4+k)) (F.set (4+k)) o):eH w.heap.size w l m F {s with aF:=aB s.aF k o} W:=by
 let⟨p,q,r,T,d,t⟩:=h
 let⟨u,v⟩:=H.bB.pf _ O _ _ T.aA T.new (λj e=>(d.own.lt j e).2) t
 have a:∀j,(j=m\/(F.own (4+k)).ownBlock=E j)->cM m F j:=λj h=>h.elim φ (λh=>ψ ⟨4+k,O,h⟩)
 refine⟨p,{F with own:=aB F.own (4+k) q,set:=aB F.set (4+k) r},⟨T.aG,T.sz.trans H.sz,(T.out 0 O).trans H.c0,(T.out 1 O).trans H.c1,λi hi=>(T.out _ O).trans (H.key i hi),(T.out 18 O).trans H.fI,λj b=>?_,λj b=>?_,?_,H.aO,H.lost,?_,?_,(T.out 97 O).trans H.pY,(T.out 98 O).trans H.lQ,(T.out 99 O).trans H.dS,(T.out 100 O).trans H.qF,u,bG H.bl T.aA.size⟩,v⟩
 simp only[bI _ _ (O:j≠4+k)]
 exact H.vA T.aA a j b (λi f g=>T.out i O) (H.rA _ j O O O);by_cases e:j=k;subst e;simp only[bN];exact d;simp only[bI _ _ (O:4+j≠4+k),bI _ _ e]
 exact H.vB T.aA a j b (λi f g=>T.out i O) (H.rA _ _ O O O);simp only[bI _ _ (O:8≠4+k),bI _ _ (O:9≠4+k)]
 exact H.fl.frame T.aA (λi f g=>T.out i O) (H.rA _ 8 O O O) (H.rA _ 9 O O O);simp only[bI _ _ (O:8≠4+k)];exact(T.out 96 O).trans H.py;simp only[bI _ _ (O:8≠4+k)]
 exact qD H.pB T.aA (λy n c e=>⟨λh=>(H.bB.cq 8 O y n c e).1 (a _ h),(H.bB.cq 8 O y n c e).2⟩)
def bF.zS{s:Sd}(H:bF w m o C F s)(v:l<=w.heap.size)(b d:υ)(f g:List Kt)(count tick wait:Int)(T:sn w W o 241 C c 91 (F.own 8) (F.own 9) b d)(q:jx W m c 91 b d f g count tick wait)(z:∀k,b.ownBlock=E k->d.ownBlock≠E k)
 (A:∀x∈f++g,x∈F.lf++F.ll\/∃a n p,x.2=Y a n p/\ml W a n p x.1.ps/\∀y,a=E y->(l<=y.block/\y.block<W.heap.size/\¬cM o F y.block/\b.ownBlock≠E y.block/\d.ownBlock≠E y.block)):
 bF W m o c ⟨aB (aB F.own 8 b) 9 d,F.set,f,g⟩ {s with aO:=f.map (·.1),lost:=g.map (·.1),count:=count,tick:=tick,wait:=wait}/\dz l w W o F ⟨aB (aB F.own 8 b) 9 d,F.set,f,g⟩:=by
 let⟨B,K⟩:=H.bB.J9 v _ _ _ _ T.aA T.JO T.CI z (λk e=>(q.of.lt k e).2) (λk e=>(q.ol.lt k e).2) A
 have r:∀j,FT o (F.own 8) (F.own 9) j->cM o F j:=λj h=>by
  obtain h|h|h:=h
  exact φ h;exact ψ ⟨8,O,h⟩;exact ψ ⟨9,O,h⟩
 have u:∀i,i<8->∀k,(F.own i).ownBlock=E k->¬FT o (F.own 8) (F.own 9) k:=λi hi k e h=>by
  obtain rfl|h|h:=h
  exact H.bB.iR i O e;exact H.bB.sep i 8 O O O k e h;exact H.bB.sep i 9 O O O k e h
 refine⟨⟨T.aG,T.sz.trans H.sz,(T.out 0 O).trans H.c0,(T.out 1 O).trans H.c1,λi hi=>(T.out _ O).trans (H.key i hi),(T.out 18 O).trans H.fI,λj t=>?_,λj t=>?_,?_,Q,Q,(T.out 96 O).trans H.py,?_,(T.out 97 O).trans H.pY,(T.out 98 O).trans H.lQ,(T.out 99 O).trans H.dS,(T.out 100 O).trans H.qF,B,bG H.bl T.aA.size⟩,K⟩
 simp only[bI _ _ (O:j≠8),bI _ _ (O:j≠9)]
 exact H.vA T.aA r j t (λi L M=>T.out i O) (u j O);simp only[bI _ _ (O:4+j≠8),bI _ _ (O:4+j≠9)]
 exact H.vB T.aA r j t (λi L M=>T.out i O) (u _ O);simp only[bI _ _ (O:8≠9),bN];exact q;exact qD H.pB T.aA (λy n p e=>⟨λh=>(H.bB.cq 8 O y n p e).1 (r _ h),(H.bB.cq 8 O y n p e).2⟩)
def bF.zT{s:Sd}(H:bF w j l C F s)(g:i<=w.heap.size)(b d:υ)(e f:List Kt)(count tick wait:Int)(T:sn w W l 241 C c 91 (F.own 8) (F.own 9) b d)(h:jx W j c 91 b d e f count tick wait)(m:∀k,b.ownBlock=E k->d.ownBlock≠E k)
 (p:∀x∈e++f,x∈F.lf++F.ll\/∃a n q,x.2=Y a n q/\ml W a n q x.1.ps/\∀y,a=E y->(i<=y.block/\y.block<W.heap.size/\¬cM l F y.block/\b.ownBlock≠E y.block/\d.ownBlock≠E y.block)):
 eH i w j l F {s with aO:=e.map (·.1),lost:=f.map (·.1),count:=count,tick:=tick,wait:=wait} W:=⟨c,_,(H.zS g b d e f count tick wait T h m p).1,(H.zS g b d e f count tick wait T h m p).2⟩
def bF.CM{s:Sd}(H:bF w l m c F s)(vc:υ)(af:List Rg)(floor:Int)(eY:Bool)(t:W.heap[m]?=E (ο C 241 (0,0)))(u:C.size=c.size)(b:∀i,i<96\/99<=i->C[i]?=c[i]?)(v:C[96]?=E vc)(x:C[97]?=E (I U floor))(z:C[98]?=E (β eY))(d:aj w W (λk=>k=m))(hs:∃a n f,vc=Y a n f/\bq W a n f af)(A:vc=F.set 8\/∀y n f,vc=Y (E y) n f->w.heap.size<=y.block/\y.block<W.heap.size):
 eH w.heap.size w l m F {s with af:=af,floor:=floor,eY:=eY} W:=by
 let⟨B,K⟩:=H.bB.Ka 8 O vc d A
 have p:∀j,j=m->cM m F j:=λj h=>φ h
 refine⟨C,{F with set:=aB F.set 8 vc},⟨t,u.trans H.sz,(b 0 O).trans H.c0,(b 1 O).trans H.c1,λi hi=>(b _ O).trans (H.key i hi),(b 18 O).trans H.fI,λj g=>?_,λj g=>?_,?_,H.aO,H.lost,?_,?_,x,z,(b 99 O).trans H.dS,(b 100 O).trans H.qF,B,bG H.bl d.size⟩,K⟩
 simp only[bI _ _ (O:j≠8)]
 exact H.vA d p j g (λi q r=>b i O) (λk e h=>H.bB.iR j O (h▸e));simp only[bI _ _ (O:4+j≠8)]
 exact H.vB d p j g (λi q r=>b i O) (λk e h=>H.bB.iR _ O (h▸e));exact H.fl.frame d (λi q r=>b i O) (λk e h=>H.bB.iR 8 O (h▸e)) (λk e h=>H.bB.iR 9 O (h▸e));simp only[bN];exact v;simp only[bN];exact hs
def bF.other{s:Sd}(H:bF w j l c F s)(C:aj w W S)(b:∀k,k<w.heap.size->S k->¬bn l F k):bF W j l c F s:=by
 have d:∀i,i<10->∀k,(F.own i).ownBlock=E k->¬S k:=λi hi k e h=>b k (H.bB.lt i hi k e) h (φ (ψ ⟨i,hi,e⟩))
 have hs:∀i,i<9->∀y n a,F.set i=Y (E y) n a->¬S y.block/\y.block<w.heap.size:=λi hi y n a e=>⟨λh=>b _ (H.bB.cq i hi y n a e).2 h (ψ (φ ⟨i,y,n,a,hi,e,Q⟩)),(H.bB.cq i hi y n a e).2⟩
 exact⟨(C.block l H.bB.jy (λh=>b l H.bB.jy h (φ (φ Q)))).trans H.aG,H.sz,H.c0,H.c1,H.key,H.fI,λk f=>(H.out k f).frame C (λ_ _ _=>rfl) (d k O) (hs k O),λk f=>(H.aF k f).frame C (λ_ _ _=>rfl) (d _ O) (hs _ O),H.fl.frame C (λ_ _ _=>rfl) (d 8 O) (d 9 O),H.aO,H.lost,H.py,qD H.pB C (hs 8 O),H.pY,H.lQ,H.dS,H.qF,H.bB.other C b,bG H.bl C.size⟩
variable{d:Sd}
def My(w:D)(t sb B k:Nat)(b:Array υ)(v:aY)(s:Sd)(H:bF w t sb b v s)(S:B<=w.heap.size)(pa:Option Addr)(d g:Nat)(ps:List Pc)(hp:je w B (Y pa d g) ps)(P:∀j,(Y pa d g).ownBlock=E j->¬bn sb v j)(T:0<=s.count/\s.count<=4611686018427387903)(hl:s.aO.length<=1000000):
 Calls prog 210 #[π (E ⟨sb,91,N⟩),I X k,Y pa d g] w λr p=>r=ξ (I U s.count)/\∃V F,bF p t sb V F {s with aO:=s.aO++[⟨s.count,s.tick,k,ps⟩],count:=s.count+1}/\dz B w p sb v F/\∀j,bn sb F j->bn sb v j\/w.heap.size<=j\/(Y pa d g).ownBlock=E j:=by
 have W:v.lf.length<=1000000:=by have:=fR List.length H.aO;rw[fF]at this;omega
 have u:=H.tN;apply(JM w sb 91 t b _ _ _ v.lf v.ll s.count s.tick s.wait H.aG H.fl H.bl u.1 T W (k:Int) pa d g ps).mono;rintro r p⟨rfl,f,hb,hO,C,K⟩;refine⟨Q,?_⟩
 have z4:(95:Nat)<b.size:=by rw[H.sz];omega
 have z:∀i,i≠91->i≠94->((b.setIfInBounds 91 (I U (s.count+1))).setIfInBounds (91+3) f)[i]?=b[i]? :=λi l m=>by rw[bH,bH]
 have a1:f.ownBlock≠N->True:=λ_=>trivial
 obtain⟨a2,a3,e1,e2,A⟩:=hp.DH;have a4:∀j,(v.own 8).ownBlock=E j->j<w.heap.size:=H.bB.lt 8 O;have al:∀j,f.ownBlock=E j->(v.own 9).ownBlock≠E j:=λj l m=>by
  obtain e|e:=K
  rw[e]at l;exact u.2.2 j l m;have:=e j l;have:=H.bB.lt 9 O j m;omega
 have hT:sn w p sb 241 b ((b.setIfInBounds 91 (I U (s.count+1))).setIfInBounds (91+3) f) 91 (v.own 8) (v.own 9) f (v.own 9):=
  ⟨hb,Γ,λi hi=>z i O O,C.mono (λj _ h=>h.elim φ (λh=>ψ (φ h))),K,φ Q⟩
 have hF:jx p t ((b.setIfInBounds 91 (I U (s.count+1))).setIfInBounds (91+3) f) 91 f (v.own 9) (v.lf++[(⟨s.count,s.tick,(k:Int),ps⟩,Y pa d g)]) v.ll (s.count+1) s.tick s.wait:=
  ⟨by rw[bH];exact cU,(z _ O O).trans H.fl.c1,(z _ O O).trans H.fl.c2,cU Ψ,(z _ O O).trans H.fl.c4,hO,H.fl.ol.aA C (λj e h=>by
   obtain rfl|h:=h
   exact u.2.1 e
   .exact u.2.2 j h e)⟩
 have:=H.zS S f (v.own 9) _ v.ll _ _ _ hT hF al (λx a=>by
  obtain a|a:=b9.1 a
  obtain a|a:=b9.1 a
  exact φ (jK _ a);right;rw[eE.1 a];obtain⟨rfl,-,rfl⟩:=lJ e1;refine⟨pa,d,g,Q,?_,λy q=>?_⟩
  have ax:d=ps.length:=(lJ e1).2.1;rw[ax];exact e2.dR (λ_ y q=>C.block _ (hp.lt y.block (A y q)).2 (λh=>P y.block (A y q) (φ (h.elim φ (λh=>ψ ⟨8,O,h⟩)))));have R:=hp.lt y.block (A y q);have L:¬cM sb v y.block:=λh=>P y.block (A y q) (φ h)
  refine⟨R.1,bX R.2 C.size,L,λe=>?_,λe=>L (ψ ⟨9,O,e⟩)⟩
  obtain h|h:=K
  rw[h]at e;exact L (ψ ⟨8,O,e⟩);have:=h _ e;omega
  .exact φ (kB _ a))
 obtain⟨l,m⟩:=this;refine⟨(b.setIfInBounds 91 (I U (s.count+1))).setIfInBounds (91+3) f,_,?_,m,λj M=>?_⟩
 have e:({s with aO:=(v.lf++[((⟨s.count,s.tick,(k:Int),ps⟩:Pk),Y pa d g)]).map (·.1),lost:=v.ll.map (·.1),count:=s.count+1,tick:=s.tick,wait:=s.wait}:Sd)={s with aO:=s.aO++[⟨s.count,s.tick,k,ps⟩],count:=s.count+1}:=by
  rw[oj,<-H.aO,<-H.lost];rfl
 rw[<-e];exact l;obtain M|⟨i,y,n,c,hi,e,rfl⟩|⟨x,a,y,n,c,e,rfl⟩:=M
 exact(m.ft j M).elim (λh=>φ (φ h)) (λh=>ψ (φ h));exact φ (ψ (φ ⟨i,y,n,c,hi,e,Q⟩));simp only at a;obtain a|a:=b9.1 a
 obtain a|a:=b9.1 a
 exact φ (ψ (ψ ⟨x,jK _ a,y,n,c,e,Q⟩));rw[eE.1 a]at e;simp only at e;right;right;rw[e];rfl;exact φ (ψ (ψ ⟨x,kB _ a,y,n,c,e,Q⟩))
structure gG(W:D)(c sb:Nat)(v:aY)(a:List El)(b:υ):Prop where
 own:fC W c b a
 at_:jg W c a
 a5:∀j,b.ownBlock=E j->¬bn sb v j
 ae:∀e∈a,¬bn sb v e.1
 s5:∀e∈a,b.ownBlock≠E e.1
def gG.nil(W:D)(b sb:Nat)(v:aY):gG W b sb v [] (Y N 0 0):=⟨fC.nil _ _,jg.nil _ _,λj e=>(by cases e),λe a=>(by cases a),λe a=>(by cases a)⟩
def gG.next{f:aY}{c:List El}{X:Nat->Prop}(h:gG W n k F c x)(C:aj W w (λj=>cM k F j\/X j))(g:∀j,x.ownBlock=E j->¬X j)(i:∀e∈c,¬X e.1)(ar:∀j,bn k f j->bn k F j\/W.heap.size<=j):gG w n k f c x:=
 ⟨h.own.aA C (λj e a=>a.elim (λa=>h.a5 j e (φ a)) (g j e)),h.at_.aA C (λe b a=>a.elim (λa=>h.ae e b (φ a)) (i e b)),λj e d=>(ar j d).elim (h.a5 j e) (λa=>by have:=(h.own.lt j e).2;omega),λe b d=>(ar _ d).elim (h.ae e b) (λa=>by have:=h.at_.lt b;omega),h.s5⟩
def gG.gb{a:List El}(h:gG W n k F a x)(g:G W w N):gG w n k F a x:=
 h.next (X:=λ_=>False) ((aj.of g).mono (nofun)) (λ_ _=>id) (λ_ _=>id) (λ_ h=>φ h)
def gG.app{f:List El}{e:El}(h:gG W n k F f y)(m:jg W n [e])(u:¬bn k F e.1)(v:y.ownBlock≠E e.1)(p:∀a∈f,a.1≠e.1)(i:∀j,bn k F j->j<W.heap.size)(q:fC w n z (f++[e]))(g:G W w y.ownBlock)(d:z.ownBlock=y.ownBlock\/z.ownBlock=E W.heap.size):gG w n k F (f++[e]) z:=by
 have l:=(h.at_.app m (λa i b r=>by rw[eE.1 r];exact p a i))
 have s:∀x∈f++[e],y.ownBlock≠E x.1:=λx c=>by
  obtain c|c:=b9.1 c
  exact h.s5 x c;grind
 refine⟨q,l.aA (aj.of g) (λx c e2=>s x c e2),λj e1 t=>?_,λx c=>?_,λx c e1=>?_⟩
 obtain d|d:=d
 rw[d]at e1;exact h.a5 j e1 t;grind;obtain c|c:=b9.1 c
 exact h.ae x c;grind;obtain d|d:=d
 grind;rw[d]at e1;have:=aR e1;have:=l.lt c;omega
def bF.rH(H:bF w n k c F d)(b:cI d.key):w.rangeAt k 2 (bv d.key):=λj u a=>by
 have e:j<16:=by have:=(rS.1 a).1;rw[gy,b.1]at this;exact this
 rw[ba H.aG,H.key j e];exact a
def Fi(w:D)(n:Int)(b:0<=n/\n<=4611686018427387903):Calls prog 212 #[I U n] w λe a=>e=ξ (ε #[I U n,I U (n+1)])/\G w a N:=by
 have c:U.wrap (n+1)=n+1:=by rw[cZ];omega
 go_enter func212,ntmps212;go_wp2_with fail;exact cC (v:=ε #[I U n,I U (n+1)]) (by simp[results,results212,go_sem]) Q ⟨Q,by repeat(first|exact au _ _|apply cu|apply aK|apply aW)⟩
def N5(w:D):Calls prog 110 #[] w λe a=>e=ξ (ε #[I U 0,I X 0,I X 4,Y N 0 0,Y N 0 0])/\G w a N:=by
 go_enter func110,ntmps110;go_wp2_with fail;exact cC (v:=ε #[I U 0,I X 0,I X 4,Y N 0 0,Y N 0 0]) (by simp[results,results110,go_sem]) Q ⟨Q,by repeat(first|exact au _ _|apply cu|apply aK|apply aW)⟩
def kh(l:List Rg)(floor n:Int):Bool:=decide (n<floor)||l.any (λr=>decide (r.lo<=n)&&decide (n<r.hi))
def N6(w:D)(sb no:Nat)(a:Option Addr)(k b:Nat)(l:List Rg)(floor n:Int)(c0:κ w ⟨sb,no,N⟩=E (Y a k b))(c1:κ w ⟨sb,no+1,N⟩=E (I U floor))(hs:bq w a k b l)(x:0<=n/\n<=4611686018427387903):
 Calls prog 160 #[π (E ⟨sb,no,N⟩),I U n] w λe c=>e=ξ (β (kh l floor n))/\G w c N:=by
 have y:=J (λW=>Fi W n x);have m:=J (λW(g:G w W N)=>Cf a k b l ⟨n,n+1⟩ W (hs.ag g));simp only at m;by_cases d:n<floor
 .have dl:decide (n<floor)=ρ:=bU d;have hp:kh l floor n=ρ:=by simp[kh,d]
  rw[hp];go_enter func160,ntmps160;go_wp2_with fail;go_big_region;go_wp2;go_ret;exact⟨Q,aK (au _ _)⟩
 have dl:decide (n<floor)=θ:=bT d;have p:Hid (kh l floor n=ρ↔(n+1<=n\/∃r∈l,r.lo<=n/\n+1<=r.hi)):=J (by
  simp only[kh,dl,Bool.false_or,tu,uP,wP]
  constructor;rintro⟨r,f,i,z⟩;exact ψ ⟨r,f,i,O⟩
  .rintro(h|⟨r,f,i,z⟩);omega
   .exact⟨r,f,i,O⟩)
 obtain⟨F,q⟩:=í (kh l floor n);rw[<-q]at p⊢;clear q;have u0:=kc c0;have u1:=kc c1;have s:G w w.drew N:=aK (au _ _);clear c0 c1;go_enter func160,ntmps160;go_wp2_with fail;go_region_held3 (λc=>G w c N)
  (with_reducible first|exact t|exact j|exact s)
  (first
    |(go_at_call 212;apply(Z y w.drew).mono;rintro e u⟨rfl,A⟩;have j:G w u N:=aq s A)
    |(go_at_call 211;apply(Z m u j).mono;rintro e B⟨v,C⟩;have t:G w B N:=aq j C;obtain rfl:=tM v (Z p);clear v))
 go_wp2;go_ret;exact⟨Q,t⟩
def gH(l:List Rg)(floor n:Int):List Rg×Int:=
 if 8<(eu l ⟨n,n+1⟩).length then((eu l ⟨n,n+1⟩).drop 1,(an (eu l ⟨n,n+1⟩) 0).hi)else(eu l ⟨n,n+1⟩,floor)
def Oe(w:D)(sb no:Nat)(s:Array υ)(t:TypeId)(a:Option Addr)(k L:Nat)(l:List Rg)(floor n:Int)(q:w.heap[sb]?=E (ο s t (0,0)))(c0:s[no]?=E (Y a k L))(c1:s[no+1]?=E (I U floor))(hs:bq w a k L l)(bA:∀y,a=E y->y.block≠sb)(a0:bk l)(cv:l.length<=8)(bM:¬Sm l n)(hn:0<=n/\n<=4611686018427387903):
 Calls prog 164 #[π (E ⟨sb,no,N⟩),I U n] w λe M=>e=ξ (τ #[])/\∃a' k' c',M.heap[sb]?=E (ο ((s.setIfInBounds no (Y a' k' c')).setIfInBounds (no+1) (I U (gH l floor n).2)) t (0,0))/\dN M w.heap.size (Y a' k' c') (gH l floor n).1/\G w M (E sb):=by
 refine js λR hR=>?_
 have cw:=(aV.1 q).1;have hk:=hs.2.1;have b4:(⟨n,n+1⟩:Rg).ok:=by constructor<;>simp only[aZ]<;>omega
 have gr:G w w.drew N:=aK (au _ _);have P:=jw c0;have cy:=jw c1;go_enter func164,ntmps164;go_upto_region 0 with fail;go_region_held3 (λ_=>True) (trivial)
  (first
    |(go_at_call 212;apply(Z (J (λW=>Fi W n hn)) w.drew).mono;rintro e w5⟨rfl,g5⟩;have A:G w w5 N:=aq gr g5)
    |(go_at_call 215;apply(Z (J (λW(g:G w W N)=>Cc W sb no s t a k L l ⟨n,n+1⟩ (bp q g) c0 (hs.ag g) bA a0 b4 O)) w5 A).mono;rintro e r⟨rfl,a6,p,c6,b,B,u,S,T,C⟩;replace B:=J B;replace u:=J u;replace S:=J S;replace T:=J T;replace C:=J C))
 have b7:b=eu l ⟨n,n+1⟩:=xE a0 (Z T) (Z C).2;have b8:b≠l:=λe=>bM ((e▸((Z C).2 n)).2 (ψ O))
 have F:dN r w.heap.size (Y a6 p c6) b:=by
  obtain h|h:=Z S
  exact absurd h.2.2.2 b8;let⟨V,H,h3⟩:=h
  refine⟨V,H,?_⟩
  obtain h3|⟨g,cp,bb,e1,e2,e3⟩:=h3
  exact φ h3;exact ψ ⟨g,cp,bb,e1,bG A.size e2,e3⟩
 have d:=(Z B).2 _ _ (bp q A);have g6:=aq (cK A _) (Z B).1;have K:=(Z u).2.1;have c9:=(Z u).2.2.1;have br:=(Z u).2.2.2.1;have k0:κ r ⟨sb,no,N⟩=E (Y a6 p c6):=by rw[ba d];exact cU P
 have bt:Hid (gH l floor n=if 8<b.length then(b.drop 1,(an b 0).hi)else(b,floor)):=J (by unfold gH;rw[<-b7]);by_cases h8:8<p
 .have d8:decide ((8:Int)<p)=ρ:=α;have c:=Z bt;rw[è]at c;obtain⟨g,rfl⟩:∃g,a6=E ⟨g,0,N⟩:=by
   obtain⟨-,-,⟨h0,-⟩|⟨g,cp,bb,e1,-⟩⟩:=F;cases h0;omega;cases e1;exact⟨g,Q⟩
  have dc:=(F.lt g Q).1;obtain⟨-,y1⟩:=(Z u).cell 0 O;rw[nz,nA]at y1;obtain⟨fl,ak⟩:=í ((an b 0).hi);rw[<-ak]at y1 c;obtain⟨m,rfl⟩:∃m,p=m+1:=⟨p-1,O⟩
  obtain⟨x,z⟩:=í (ζ r ⟨sb,no+1,N⟩ (I U fl));have v:x.heap[sb]?=E (ο ((s.setIfInBounds no (Y (E ⟨g,0,N⟩) (m+1) c6)).setIfInBounds (no+1) (I U fl)) t (0,0)):=by rw[z];exact heap_set d _
  have g7:G r x (E sb):=by rw[z];exact aD (au _ _) _ _ (ψ Q)
  have cc:(Y (E ⟨g,0,N⟩) (m+1) c6).ownBlock≠E sb:=λe=>by have h:g=sb:=aR e;omega
  have hD:=J (Oc x w.heap.size g m c6 b (F.gb g7 (ψ cc)) O br);have q0:κ x ⟨sb,no,N⟩=E (Y (E ⟨g,0,N⟩) (m+1) c6):=by rw[ba v,ë];exact cU P
  have k1:κ r ⟨sb,no+1,N⟩=E (I U floor):=by rw[ba d,ë];exact c1
  have f1:χ r ⟨sb,no+1,N⟩=θ:=ç d;have al:Hid (∀f,dN f w.heap.size (Y (E ⟨g,0,N⟩) m c6) (b.drop 1)->G x f (E g)->R (ζ f ⟨sb,no,N⟩ (Y (E ⟨g,0,N⟩) m c6))/\κ f ⟨sb,no,N⟩=E (Y (E ⟨g,0,N⟩) (m+1) c6)/\χ f ⟨sb,no,N⟩=θ):=J (λf V H=>by
   have ao:=(H.block sb ((aV.1 v).1) (λe=>by have:=aR e;omega)).trans v;have gs:=aD (au f (E sb)) ⟨sb,no,N⟩ (Y (E ⟨g,0,N⟩) m c6) (ψ Q);refine⟨?_,by rw[ba ao,<-ba v];exact q0,by simp[χ,ao]⟩
   rw[hR,c];refine⟨E ⟨g,0,N⟩,m,c6,?_,V.gb gs (ψ (λe=>by have h:g=sb:=aR e;omega)),?_⟩
   rw[heap_set ao];congr 2;apply Array.ext_getElem?;intro i;by_cases hi:i=no;subst hi;rw[cU Ψ,ë,cU P];by_cases cm:i=no+1;subst cm;rw[ë,cU Ψ,cU Ψ];rw[ë,ë,ë,ë,ë]
   .exact aq (cO (aq g6 g7) H (λj e=>φ (by have:=aR e;omega))) gs)
  have i0:(0:Int)<((m+1:Nat):Int):=O;unfold maxLen at br;replace⟨d,v,K,ak,c,z,q⟩:=mX d v K ak c z q;go_upto_region 3 with fail;rw[<-Z z];go_wp2_with fail;apply(Z hD).mono;rintro e f⟨rfl,o8,g8⟩;let⟨ax,z8,f8⟩:=Z al f o8 g8
  replace ax:=J ax;go_wp2_with fail;exact eP (dV Q _ _ _) Q ⟨Q,Z ax⟩
 have d8:decide ((8:Int)<p)=θ:=é;have c:=Z bt;rw[ê]at c;have al:Hid (R r):=J (by
  rw[hR,c];refine⟨a6,p,c6,?_,F,g6⟩
  rw[d];congr 2;exact(vu (by rw[ë];exact c1)).symm)
 replace⟨K,c,d,q⟩:=fB K c d q;go_wp2_with fail;exact eP (dV Q _ _ _) Q ⟨Q,Z al⟩
