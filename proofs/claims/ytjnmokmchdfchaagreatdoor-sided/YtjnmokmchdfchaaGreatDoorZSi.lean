import Derived.Test.YtjnmokmchdfchaaGreatDoorZSf
import Derived.Test.YtjnmokmchdfchaaGreatDoorZSg
import Derived.Test.YtjnmokmchdfchaaGreatDoorZSh
set_option maxRecDepth 1000000
set_option maxHeartbeats 0
set_option linter.all false
namespace Go.Proofs.YtjnmokmchdfchaaGreatDoor
open Go.RowKit Tryz
open Go.Value renaming int→I,slice→Y,bool→β,pointer→π,agg→ε,string→ς,tuple→τ
open Go.IntKind renaming i64→X,u64→U,u8→Δ
open Go.Ending renaming returned→ξ
open Go.Obj renaming cells→ο
open Or renaming inl→φ,inr→ψ
open Option renaming some→E,none→N
open Bool renaming true→ρ,false→θ
open Go renaming World→D,Value→υ
open Go.World renaming grownBy→G,cell?→κ,frozen?→χ,setCell→ζ
attribute[local go_sem↓]Go.wp_at_zero Go.wp_at_succ
variable{C c:Array υ}{u:Fr}{p q t:Int}{L:List Int}{s:List Rg}{b i j k l m n o:Nat}{P S:Nat->Prop}{a:Option Addr}{d:Sd}{T:TypeId}{x y z:υ}{V W v w:D}{F:aY}{f:ah}
def jQ(w:D)(sb:Nat)(v:aY)(aI:Int)(l:List (List Int))(a:D):Prop:=∃last b,jP a w.heap.size sb aI last b/\b.map (·.2)=l/\aj w a (cM sb v)
def jP.low{b2:Nat}{a:List El}(h:jP w n k p x a)(b:b2<=n):jP w b2 k p x a:=
 ⟨h.aG,h.own.low b,⟨λe c=>⟨bG b (h.at_.at_ e c).1,(h.at_.at_ e c).2⟩,h.at_.sep⟩,h.nl,h.ne,h.s5⟩
def jQ.pre{l:List (List Int)}(g:G w W N)(h:jQ W n F p l V):jQ w n F p l V:=by
 let⟨last,d,a,b,c⟩:=h
 refine⟨_,_,a.low g.size,b,?_⟩
 exact((aj.of g).trans c).mono (λk _ e=>e.elim (nofun) id)
def EY(w:D)(k sb:Nat)(l:Array υ)(v:aY)(s:Sd)(H:bF w k sb l v s)(q:cI s.key)(r:0<=s.count/\s.count<=4611686018427387000)(u:Laid w)(i:υ)(n:Int)(F:0<=n/\n<=1000)
 (x:∀(W:D)(t:Addr),G w W N->Laid W->κ W t=E (I X 0)->χ W t=θ->Calls prog 73 #[i,.iface 183 (π (E t))] W (λy b=>y=ξ (β ρ)/\κ b t=E (I X n)/\G W b (E t.block))):
 Calls prog 161 #[π (E ⟨sb,0,N⟩),i] w λe b=>e=ξ i/\jQ w sb v n (s.iS n n) b:=by
 obtain⟨R,d⟩:=í (jQ w sb v n (s.iS n n));rw[<-d];replace d:=J d;obtain⟨c,f⟩:=í (w.alloc (ο #[I X 0] 34));have j:G w c N:=by rw[f];exact aC _ _ _
 have z:c.heap[w.heap.size]?=E (ο #[I X 0] 34 (0,0)):=by rw[f];exact aM _ _
 have c1:κ c ⟨w.heap.size,0,N⟩=E (I X 0)/\χ c ⟨w.heap.size,0,N⟩=θ:=by simp[κ,χ,z]
 have A:∀a,G c a (E w.heap.size)->G w a N:=λa g=>nB (aq (cK j _) g) (aP _)
 have B:=J (λa b(g:G w a N)(h:yt a sb v n (s.iS n n) (ξ (τ #[])) b)=>(show R b by rw[Z d];exact jQ.pre g h.2));replace H:=J H;go_enter func161,ntmps161;go_upto_region 2 with fail;rw[<-f];clear f;go_wp2_with fail;apply(Z (J (x c ⟨w.heap.size,0,N⟩ j (u.gb j) c1.1 c1.2))).mono;rintro e a⟨rfl,c2,C⟩;have m:=A a C;go_wp2_with fail;apply(Z (J (λa(g:G w a N)=>Es a k sb l v s (H.ag g) q r n n O)) _ m).mono;rintro e K p;obtain rfl:=p.1;go_wp2;go_ret;exact⟨Q,Z (J (Z B _ _ m p))⟩
def Nk(w:D)(a sb:Nat)(b:Array υ)(v:aY)(s:Sd)(H:bF w a sb b v s)(c:cI s.key)(d:0<=s.count/\s.count<=4611686018427387000)(f:Laid w)(n:Int)(g:0<=n/\n<=1000):
 Calls prog 161 #[π (E ⟨sb,0,N⟩),.iface 34 (I X n)] w λe h=>e=ξ (.iface 34 (I X n))/\jQ w sb v n (s.iS n n) h:=
 EY w a sb b v s H c d f _ n g (λW t _ hl h0 i=>ER n t _ W hl h0 i)
def Nl(w:D)(a sb F:Nat)(b:Array υ)(v:aY)(s:Sd)(H:bF w a sb b v s)(c:cI s.key)(d:0<=s.count/\s.count<=4611686018427387000)(f:Laid w)(n:Int)(h:0<=n/\n<=1000)(hF:κ w ⟨F,0,N⟩=E (I X n)):
 Calls prog 161 #[π (E ⟨sb,0,N⟩),.iface 177 (π (E ⟨F,0,N⟩))] w λe i=>e=ξ (.iface 177 (π (E ⟨F,0,N⟩)))/\jQ w sb v n (s.iS n n) i:=
 EY w a sb b v s H c d f _ n h (λW t g hl h0 j=>Nj F n t _ W hl (ì g hF) h0 j)
def Nm(w:D)(sb:Nat)(aI code:Int)(dS:κ w ⟨sb,99,N⟩=E (I X aI))(h:aI≠0):Calls prog 133 #[π (E ⟨sb,0,N⟩),I U code] w λr b=>r=ξ (cF 9)/\G w b N:=by
 have a:=J (pC w sb _ dS);rw[bU h]at a;go_enter func133,ntmps133;go_wp2_with fail;apply(Z a).mono;rintro e d⟨rfl,c⟩;go_wp2;go_ret;exact⟨Q,c⟩
def Nn(w:D)(sb:Nat)(code:Int)(dS:κ w ⟨sb,99,N⟩=E (I X 0))(h:4611686018427387903<code):Calls prog 133 #[π (E ⟨sb,0,N⟩),I U code] w λr b=>r=ξ (cF 3)/\G w b N:=by
 have a:=J (pC w sb 0 dS);simp only[ne_eq,wO,uT]at a;go_enter func133,ntmps133;go_wp2_with fail;apply(Z a).mono;rintro e d⟨rfl,c⟩;go_wp2;go_ret;exact⟨Q,c⟩
def No(w:D)(d sb:Nat)(f:Array υ)(v:aY)(s:Sd)(H:bF w d sb f v s)(l:cI s.key)(m:0<=s.count/\s.count<=4611686018427387000)(code:Int)(n:0<=code/\code<=4611686018427387903):Calls prog 133 #[π (E ⟨sb,0,N⟩),I U code] w λr b=>r=ξ .nilIface/\jQ w sb v 9 (s.iS 9 code) b:=by
 obtain⟨R,c⟩:=í (jQ w sb v 9 (s.iS 9 code));rw[<-c];replace c:=J c;have i:=J (pC w sb 0 H.lg);simp only[ne_eq,wO,uT]at i;have p:=J (λa b(g:G w a N)(h:yt a sb v 9 (s.iS 9 code) (ξ (τ #[])) b)=>(show R b by rw[Z c];exact jQ.pre g h.2));replace H:=J H;go_enter func133,ntmps133;go_wp2_with fail;apply(Z i).mono;rintro e q⟨rfl,j⟩;go_wp2_with fail;apply(Z (J (λa(g:G w a N)=>Es a d sb f v s (H.ag g) l m 9 code n)) _ j).mono;rintro e t k;obtain rfl:=k.1;go_wp2;go_ret;exact⟨Q,Z (J (Z p _ _ j k))⟩
def EZ(w:D)(sb:Nat)(aI:Int)(dS:κ w ⟨sb,99,N⟩=E (I X aI)):Calls prog 103 #[π (E ⟨sb,0,N⟩)] w λr a=>r=ξ (cF aI)/\G w a N:=by
 by_cases h:aI=0
 .subst h;go_enter func103,ntmps103;go_wp2;go_ret;exact⟨Q,au _ _⟩
 have e1:(aI==0)=θ:=by simpa using h
 have e2:cF aI=.iface 34 (I X aI):=by unfold cF;rw[aE h]
 rw[e2];go_enter func103,ntmps103;go_wp2;go_ret;exact⟨Q,au _ _⟩
def E0(aI:Int)(last:υ):(iw 0 0 mC θ 0 aI last).toArray[99]?=E (I X aI)/\(iw 0 0 mC θ 0 aI last).toArray[100]?=E last:=⟨Q,Q⟩
def Np(aI:Int)(last a:υ):((iw 0 0 mC θ 0 aI last).toArray).setIfInBounds 100 a=(iw 0 0 mC θ 0 aI a).toArray:=Φ
def jP.dS{a:List El}(h:jP w n k p x a):κ w ⟨k,99,N⟩=E (I X p):=(ba h.aG _).trans (E0 p x).1
def jP.ag{a:List El}(h:jP w n k p x a)(g:G w W N):jP W n k p x a:=
 ⟨bp h.aG g,h.own.ag g,h.at_.ag g,h.nl,h.ne,h.s5⟩
def uf(sb:Nat)(last:υ)(a:List El)(k:Nat):Prop:=k=sb\/last.ownBlock=E k\/∃e∈a,e.1=k
def jP.other{a:List El}(h:jP w n i p x a)(C:aj w W S)(b:∀k,k<w.heap.size->S k->¬uf i x a k):jP W n i p x a:=by
 have c:=(aV.1 h.aG).1;exact⟨(C.block i c (λe=>b i c e (φ Q))).trans h.aG,h.own.aA C (λj e e2=>b j (h.own.lt j e).2 e2 (ψ (φ e))),h.at_.aA C (λe d e2=>b _ (h.at_.lt d) e2 (ψ (ψ ⟨e,d,Q⟩))),h.nl,h.ne,h.s5⟩
def ug(w:D)(d sb:Nat)(aI:Int)(f:List El)(e:Ending)(b:D):Prop:=
 ∃a n c,e=ξ (Y a n c)/\jP b d sb aI (Y N 0 0) []/\fC b d (Y a n c) f/\jg b d f/\(Y a n c).ownBlock≠E sb/\(∀e∈f,e.1≠sb/\(Y a n c).ownBlock≠E e.1)/\G w b (E sb)
def Nq(w:D)(i sb:Nat)(aI:Int)(last:υ)(d:List El)(h:jP w i sb aI last d):Calls prog 157 #[π (E ⟨sb,0,N⟩)] w (ug w i sb aI d):=by
 refine fL λR f=>?_
 replace f:=J f;obtain⟨a,c,rfl,-⟩:=h.own.fU;have qF:=(ba h.aG _).trans (E0 _ _).2;have f100:χ w ⟨sb,100,N⟩=θ:=by simp[χ,h.aG]
 have g:=aD (au w (E sb)) ⟨sb,100,N⟩ (Y N 0 0) (ψ Q);have k:Hid (R (ξ (Y a d.length c)) (ζ w ⟨sb,100,N⟩ (Y N 0 0))):=J (by
  rw[Z f];refine⟨a,_,c,Q,⟨?_,fC.nil _ _,jg.nil _ _,λe=>(by cases e),λe b=>(by cases b),λe b=>(by cases b)⟩,h.own.aA (aj.of g) (λj e e2=>h.nl (by rw[e];exact e2.symm)),h.at_.aA (aj.of g) (λe b e2=>h.ne e b (aR e2).symm),h.nl,λe b=>⟨h.ne e b,h.s5 e b⟩,g⟩
  rw[<-Np aI (Y a d.length c)];exact heap_set h.aG _)
 go_enter func157,ntmps157;go_wp2_with fail;exact Z k
def ug.pre{b:List El}{e:Ending}(g:G w W N)(h:ug W k i p b e v):ug w k i p b e v:=by
 let⟨a,n,c,d,f,j,l,m,q,r⟩:=h
 exact⟨a,n,c,d,f,j,l,m,q,aq (cK g _) r⟩
def Nr(w:D)(d sb:Nat)(aI:Int)(last:υ)(f:List El)(h:jP w d sb aI last f)(j:aI≠0):Calls prog 130 #[π (E ⟨sb,0,N⟩)] w (ug w d sb aI f):=by
 refine fL λR k=>?_
 have i:=J (pC w sb _ h.dS);rw[bU j]at i;have l:=J (λW(g:G w W N)=>(Nq W d sb aI last f (h.ag g)).mono (λe m p=>(show∃a n c,e=ξ (Y a n c)/\R e m by
  have b:=ug.pre g p;obtain⟨a,n,c,q,-⟩:=id b;exact⟨a,n,c,q,by rw[k];exact b⟩)))
 go_enter func130,ntmps130;go_wp2_with fail;apply(Z i).mono;rintro e s⟨rfl,r⟩;go_wp2_with fail;apply(Z l _ r).mono;rintro e t⟨a,n,c,rfl,b⟩;replace b:=J b;go_wp2_with fail;exact Z b
def Ok(b:List Int):∀(k p:Nat)(a fs:List Fr),gz b k p a=(E fs,-1)->fs.length<=a.length+k:=by
 intro k;induction k with
 |zero=>intro p a fs h;simp[gz]at h
 |succ k c=>
  intro p a fs h;unfold gz at h;grind
def Ol{fs:List Fr}(h:eX L=(E fs,-1)):fs.length<=L.length+1:=by
 unfold eX at h;split at h;simp_all;simpa using Ok L _ _ _ _ h
def Om(w:D)(a:Option Addr)(n d:Nat)(l:List Int)(c:bD w a n d l)(hl:l.length<=100000000):Calls prog 146 #[Y a n d] w (vQ w l):=by
 by_cases h0:l=[]
 subst h0;exact decode_nil w a n _ c;have f:=qt.2 h0;obtain⟨-,g,h,-,e⟩:=id c;obtain⟨e,i⟩|⟨b,o,rfl,-⟩:=e
 omega;exact NU w b o n _ l c f hl
def Fm(w:D)(key:List Int)(f:Bool)(a:Option Addr)(m c:Nat)(l:List Int)(k:cI key)(d:bD w a m c l):
 Calls prog 135 #[ε (bY key),β f,Y a m c] w λe b=>
  ((dZ key (bf f) l/\∃i j,e=ξ (τ #[I U (bu l),Y i (l.length-16) j,.nilIface])/\bD b i (l.length-16) j (cV key (bf f) (bu l) (bO l)))\/
    (¬dZ key (bf f) l/\e=ξ (τ #[I U 0,Y N 0 0,.iface 34 (I X 4)])))/\G w b N:=by
 by_cases hl:l.length<16\/300<l.length;apply(NW _ f a m _ l w d hl).mono;rintro e b⟨rfl,g⟩;exact⟨ψ ⟨λh=>by have:=h.1;have:=h.2.1;omega,Q⟩,g⟩
 apply(N4 _ f a m _ l w k d O O).mono;grind
def Fo(h:kh s p q=θ):¬Sm s q/\p<=q:=by
 unfold kh at h;simp only[uL,uI,List.any_eq_false,uP,wP]at h;exact⟨λ⟨r,a,b⟩=>h.2 r a b,O⟩
structure iH(a b:Nat)(W:D)(v:υ)(aw:List cX):Prop where
 own:fe W a v aw
 row:∀k,v.ownBlock=E k->a<=k/\k<b
 rg:∀x∈aw,x.1.ranges≠[]->∀y n c,x.2=Y (E y) n c->a<=y.block/\y.block<b
def fe.AG{aw:List cX}(h:fe w i z aw):iH i w.heap.size w z aw:=by
 refine⟨h,λk e=>h.lt k e,λx a b y n c e=>⟨((h.2 x a).2 b y n c e).1,?_⟩⟩
 obtain⟨-,-,ra,f,e2,d⟩:=(h.2 x a).1;rw[e]at e2;obtain⟨rfl,rfl,rfl⟩:=lJ e2;exact d.lt b
def iH.aA{aw:List cX}(h:iH k i W z aw)(C:aj W w S)(b:∀j,k<=j->j<i->¬S j):iH k i w z aw:=by
 let⟨⟨q,d⟩,f⟩:=id h.own
 refine⟨⟨⟨q,?_⟩,λx a=>⟨(f x a).1.dR (λl y n c e r=>C.block _ r (b _ (h.rg x a l y n c e).1 (h.rg x a l y n c e).2)),(f x a).2⟩⟩,h.row,h.rg⟩
 obtain d|⟨g,cap,cur,e1,e2,m,s⟩:=d
 simp_all;have p:=h.row g (by rw[e1];rfl);exact ψ ⟨g,_,_,e1,e2,(C.block g (aV.1 m).1 (b g p.1 p.2)).trans m,s⟩
def iH.ag{aw:List cX}(h:iH n k W x aw)(g:G W w N):iH n k w x aw:=h.aA (aj.of g) (λj _ _ e=>by cases e)
def cS(l:List cX)(i:Nat):cX:=l.getD i (bL 0 θ,Y N 0 0)
def sy{l:List cX}(h:i<l.length):l[i]?=E (cS l i):=by simp[cS,List.getD,h]
def sA{l:List cX}(h:i<l.length):cS l i∈l:=uK (sy h)
def iH.fU{aw:List cX}(h:iH k i W (Y a n j) aw):n=aw.length/\n<=j/\j<=maxLen:=by
 obtain⟨⟨-,b⟩,-⟩:=h.own;grind
def iH.cells{aw:List cX}(h:iH k l W (Y a n m) aw)(h0:0<n):∃g,a=E ⟨g,0,N⟩/\∀j,j<aw.length->W.rangeAt g (0+j*7) (iN (cS aw j).1 (cS aw j).2):=by
 obtain⟨⟨-,c⟩,-⟩:=h.own;obtain⟨e,s⟩|⟨g,cap,cur,e,aa,d,t,hm,hs,f⟩:=c
 simp_all;cases e;refine⟨g,Q,λi hi j v b=>?_⟩
 have p:aw[i]=cS aw i:=by have:=sy hi;rw[dB hi]at this;exact aR this
 rw[<-p]at b;have q:=AF _ i hi j v b;have r:i*7+j<aw.length*7:=by
  grind
 rw[<-f,tn,aH r]at q;simp only[κ,d,eM]
 grind
def yB(h:W.rangeAt n o (iN u x)):κ W ⟨n,o,N⟩=E (I X u.kind)/\κ W ⟨n,o+1,N⟩=E (I X u.stream)/\κ W ⟨n,o+2,N⟩=E (I U u.offset)/\κ W ⟨n,o+3,N⟩=E (I U u.code)/\κ W ⟨n,o+4,N⟩=E (β u.fin)/\κ W ⟨n,o+5,N⟩=E (ς u.data)/\κ W ⟨n,o+6,N⟩=E x:=
 ⟨h 0 _ Q,h 1 _ Q,h 2 _ Q,h 3 _ Q,h 4 _ Q,h 5 _ Q,h 6 _ Q⟩
def iH.yC{aw:List cX}(h:iH n k W x aw)(j:Nat)(a:j<aw.length):cD W (cS aw j).1 (cS aw j).2:=(h.own.2 _ (sA a)).1
def Fp(w:D)(u v:Nat)(a:Option Addr)(n c d:Nat)(la k:Array υ)(aw:List cX)(q:Fr->Bool)(h:iH u v w (Y a n c) aw)(eg:∀args w,(callFunc d args).run prog w=.ok (.enter d args) w)
 (l:∀(W:D)(x:cX),G w W N->x∈aw->Calls prog d (la++ #[ε (bC x.1 x.2)]++k) W (λe m=>e=ξ (β (q x.1))/\G W m N)):
 Calls prog 162 #[Y a n c,.func (.func d) la k] w λe r=>e=ξ (β ((aw.map (·.1)).any q))/\G w r N:=by
 let⟨C,y,z⟩:=h.fU
 obtain⟨b,s⟩:∃b,(0<n->a=E ⟨b,0,N⟩)/\∀j,j<aw.length->w.rangeAt b (0+j*7) (iN (cS aw j).1 (cS aw j).2):=by
  by_cases h0:0<n;let⟨g,e,F⟩:=h.cells h0
  grind;simp_all
 refine(vz.2.1 (λi=>I X (cS aw i).1.kind) (λi=>I X (cS aw i).1.stream) (λi=>I U (cS aw i).1.offset) (λi=>I U (cS aw i).1.code) (λi=>β (cS aw i).1.fin) (λi=>ς (cS aw i).1.data) (λi=>(cS aw i).2) a b 0 n c d la k w (λi=>q (cS aw i).1=ρ) s.1 ⟨y,z⟩ eg (λW i g hi=>?_) (λW i g hi=>?_)).mono ?_;have:=yB (s.2 i O);exact⟨ì g this.1,ì g this.2.1,ì g this.2.2.1,ì g this.2.2.2.1,ì g this.2.2.2.2.1,ì g this.2.2.2.2.2.1,ì g this.2.2.2.2.2.2⟩
 apply(l W _ g (sA O)).mono;rintro e m⟨rfl,A⟩;refine⟨?_,A⟩
 have:=oy (p:=q (cS aw i).1=ρ) (q:=q (cS aw i).1=ρ) Iff.rfl;simp_all;rintro e r⟨hs,g⟩;refine⟨tM hs ?_,g⟩
 rw[tu];constructor;rintro⟨f,l,t⟩;obtain⟨x,B,rfl⟩:=fu.1 l;obtain⟨i,hi,rfl⟩:=ko.1 B;have H:aw[i]=cS aw i:=by have:=sy hi;rw[dB hi]at this;exact aR this
 grind;rintro⟨i,hi,t⟩;exact⟨_,qq (sA O),t⟩
def Sd.gI(s:Sd)(n:Int)(fs:List Fr):Sd:={s with af:=(gH s.af s.floor n).1,floor:=(gH s.af s.floor n).2,eY:=s.eY||fs.any kP}
def yD(w:D)(b sb:Nat)(v:aY)(s:Sd)(p:List Int)(e:Ending)(a:D):Prop:=
 (¬dZ s.key (bf (!s.first)) p/\e=ξ (cF 4)/\eH w.heap.size w b sb v s a)\/
 (dZ s.key (bf (!s.first)) p/\kh s.af s.floor (bu p)=ρ/\e=ξ .nilIface/\eH w.heap.size w b sb v s a)\/
 (dZ s.key (bf (!s.first)) p/\kh s.af s.floor (bu p)=θ/\∃(q:Int)(F:Nat),eX (cV s.key (bf (!s.first)) (bu p) (bO p))=(N,q)/\e=ξ (.iface 177 (π (E ⟨F,0,N⟩)))/\w.heap.size<=F/\a.heap[F]?=E (ο #[I X 5,I X q] 182 (0,0))/\jQ w sb v 5 (s.iS 5 5) a)\/
 (dZ s.key (bf (!s.first)) p/\kh s.af s.floor (bu p)=θ/\∃fs,eX (cV s.key (bf (!s.first)) (bu p) (bO p))=(E fs,-1)/\
   ((fs.any s.fk=ρ/\e=ξ (cF 6)/\eH w.heap.size w b sb v s a)\/
    (fs.any s.fk=θ/\(dP (s.gI (bu p) fs) fs).1=0/\e=ξ .nilIface/\eH w.heap.size w b sb v (dP (s.gI (bu p) fs) fs).2 a)\/
    (fs.any s.fk=θ/\(dP (s.gI (bu p) fs) fs).1≠0/\e=ξ (cF (dP (s.gI (bu p) fs) fs).1)/\jQ w sb v (dP (s.gI (bu p) fs) fs).1 ((dP (s.gI (bu p) fs) fs).2.iS (dP (s.gI (bu p) fs) fs).1 (dP (s.gI (bu p) fs) fs).1) a)))
def jQ.ew{b:aY}{l:List (List Int)}(a:dz n w W i F b)(h:jQ W i b p l V):jQ w i F p l V:=by
 let⟨last,f,g,j,C⟩:=h
 refine⟨last,f,g.low a.aA.size,j,⟨C.os.trans a.aA.os,C.tape.trans a.aA.tape,C.output.trans a.aA.output,bG a.aA.size C.size,λk c d=>?_⟩⟩
 rw[C.block k (bX c a.aA.size) (λe=>(a.ft k e).elim d O)];exact a.aA.block k c d
def Laid.aA(h:Laid w)(C:aj w W S)(h0:¬S 0):Laid W:=(iB (C.block 0 h.lt h0)).trans h
def On(s:Sd)(f:Fr):(s.take f).1=0\/(s.take f).1=7\/(s.take f).1=8\/(s.take f).1=10:=by
 unfold Sd.take;grind
def AH(s:Sd)(f:Fr)(r:List Fr):dP s (f::r)=if(s.take f).1=0 then dP (s.take f).2 r else s.take f:=rfl
structure kj(w:D)(g sb:Nat)(v:aY)(s1:Sd)(aw:List cX)(a:Option Addr)(n c f d h:Nat)(j:Nat)(b:Sd)(W:D)(k:Array υ)(e:aY):Prop where
 side:bF W g sb k e b
 ew:dz w.heap.size w W sb v e
 fr:iH f d W (Y a n c) aw
 n2:d<=W.heap.size
 na:∀i,f<=i->i<d->¬bn sb e i
 ri:nM b
 ll:b.lost.length<=h+10*j
 same:mE s1 b
 all:dP b ((aw.map (·.1)).drop j)=dP s1 (aw.map (·.1))
def kj.gb{w:D}{aw:List cX}{c:Sd}{e:aY}(h:kj w k i F d aw a n l m o b j c W C e)(g:G W V N):kj w k i F d aw a n l m o b j c V C e:=
 ⟨h.side.ag g,h.ew.trans (dz.ag g),h.fr.ag g,bG h.n2 g.size,h.na,h.ri,h.ll,h.same,h.all⟩
def Fq{aw:List cX}(a:j<aw.length):(aw.map (·.1)).drop j=(cS aw j).1::(aw.map (·.1)).drop (j+1):=by
 rw[wH (by grind)];congr 1;have b:aw[j]=cS aw j:=by have:=sy a;rw[dB a]at this;exact aR this
 simp[b]
def kj.step{aw:List cX}{c:Sd}{W':D}{r:aY}(h:kj w k l F d aw a n m o b i j c W C r)(v:j<aw.length)(hs:cT (cS aw j).1)(x:0<=(cS aw j).1.offset)(y:nN d (cS aw j).1)(z:i+10*(j+1)<=39000000)(A:eH W.heap.size W k l r (c.take (cS aw j).1).2 W')(h0:(c.take (cS aw j).1).1=0):∃s t,kj w k l F d aw a n m o b i (j+1) (c.take (cS aw j).1).2 W' s t:=by
 let⟨s,t,S,f⟩:=A
 let⟨H,K⟩:=h.ri.take hs x (y.same h.same) (B:=i+10*(j+1)) (by have:=h.ll;omega) z
 have L:=h.ew.aA.size;refine⟨_,_,S,h.ew.trans (f.mono L),h.fr.aA f.aA (λg p q e=>h.na g p q (φ e)),bG h.n2 f.aA.size,λg p q e=>?_,H,K,h.same.trans (take_same _ _),?_⟩
 obtain u|u:=f.ar g e
 exact h.na g p q u;have:=h.n2;omega;rw[<-h.all,Fq v];rw[AH,aH h0]
def kj.stop{aw:List cX}{c:Sd}{e:aY}(h:kj w k i F d aw a n l m o b j c W C e)(f:j<aw.length)(h0:(c.take (cS aw j).1).1≠0):dP d (aw.map (·.1))=c.take (cS aw j).1:=by
 rw[<-h.all,Fq f];rw[AH,aE h0]
def kj.Oo{aw:List cX}{c:Sd}{f:aY}(h:kj w k i F d aw a n l m o b j c W C f)(g:j<aw.length)(hs:cT (cS aw j).1)(q:nN d (cS aw j).1):
 Calls prog 166 #[π (E ⟨i,0,N⟩),ε (bC (cS aw j).1 (cS aw j).2)] W (lT W k i f (c.take (cS aw j).1)):=by
 obtain⟨r,-,ra,p,e,s⟩:=h.fr.yC j g;rw[e];refine Lg W k i C f c h.side h.ri.pre ⟨by have:=h.ri.fl;omega,by have:=h.ri.ll;omega⟩ _ ra _ p s (λt y u=>?_) (h.ri.tk hs r.2.2.1.1 (q.same h.same));have:=h.fr.rg _ (sA g) t y _ p (by rw[e,u]);exact⟨λv=>h.na _ this.1 this.2 (φ v),bX this.2 h.n2⟩
def Oq(h:nM d)(n:Int)(fs:List Fr):nM (d.gI n fs):=⟨h.av,h.aF,⟨h.pre.out,h.pre.pk,h.pre.num⟩,h.fl,h.ll⟩
def Fs{fs:List Fr}(h:fs.any d.fk=θ)(n:Int):∀f∈fs,nN (d.gI n fs) f:=λf a=>by
 have b:=List.any_eq_false.1 h f a;have c:=yA (d:=d) (u:=f) (by simpa using b);exact λe g=>c e g
def kj.start{f:D}{aw:List cX}{g:Option Addr}{p:Nat}{num:Int}(H:bF w l m C F d)(q:G w W N)(hN:w.heap.size<=j)(R:p<=W.heap.size)(hF:iH j p W (Y a n b) aw)(ai:nM d)
 (ak:V.heap[m]?=E (ο ((C.setIfInBounds 96 (Y g k i)).setIfInBounds 97 (I U (gH d.af d.floor num).2)) 241 (0,0))) (r:dN V W.heap.size (Y g k i) (gH d.af d.floor num).1) (B:G W V (E m)) (h:G V f N) (c:Bool) (ho:c=(d.eY||(aw.map (·.1)).any kP)):
 ∃s t,kj w l m F (d.gI num (aw.map (·.1))) aw a n b j p d.lost.length 0 (d.gI num (aw.map (·.1))) (ζ f ⟨m,98,N⟩ (β c)) s t:=by
 have a8:=H.bB.jy;have ao:=q.size;have a9:=B.size;have bb:=h.size;have ax:=bp ak h;have a0:=heap_set ax (o:=98) (β c);have u:=aD (au f (E m)) ⟨m,98,N⟩ (β c) (ψ Q);have v:aj W (ζ f ⟨m,98,N⟩ (β c)) (λK=>K=m):=(aj.of (aq (aq B (cK h _)) u)).mono (λK _ e=>(aR e).symm);have bj:=u.size;obtain⟨a1,a2⟩:=r.iL;have a3:bq (ζ f ⟨m,98,N⟩ (β c)) g k i (gH d.af d.floor num).1:=(a1.ag h).dR (λ_ x e=>u.block _ (by
  obtain⟨z,A⟩:=r.lt x.block (by rw[e];rfl);omega) (by have:=a2 x e;simp only[ne_eq,qu];omega))
 have T:=(H.ag q).CM (Y g k i) (gH d.af d.floor num).1 (gH d.af d.floor num).2 c a0 Γ (λL hi=>?_) (by simp[H.sz]) (by simp[H.sz]) (by simp[H.sz]) v ⟨g,k,i,Q,a3⟩ (ψ (λy n b e=>?_));obtain⟨s,t,S,M⟩:=T;refine⟨s,t,?_,(dz.ag q).trans (M.mono ao),hF.aA v (λbr z A e=>O),bG R v.size,λL z A e=>?_,Oq ai _ _,by simp[Sd.gI],mE.rfl' _,Q⟩
 subst ho;exact S;obtain P|P:=M.ar L e
 have:=px H.bB P;omega;omega;obtain hi|hi:=hi
 rw[ë,ë,ë];grind;obtain⟨rfl,rfl,rfl⟩:=lJ e;obtain⟨z,A⟩:=r.lt y.block Q;omega
def Ou(w:D)(r sb:Nat)(z:Array υ)(v:aY)(s:Sd)(H:bF w r sb z v s)(d:cI s.key)(a:Option Addr)(m i:Nat)(p:List Int)(A:bD w a m i p)(t:¬dZ s.key (bf (!s.first)) p):
 Calls prog 131 #[π (E ⟨sb,0,N⟩),Y a m i] w (yD w r sb v s p):=by
 refine fL λR j=>?_
 replace j:=J j;have u:=J (pC w sb 0 H.lg);have x:=H.rH d;have fI:κ w ⟨sb,18,N⟩=E (β s.first):=(ba H.aG _).trans H.fI;have k:=J (λW(g:G w W N)=>(Fm W s.key (!s.first) a m i p d (A.ag g)).mono (λe b h=>show e=ξ (τ #[I U 0,Y N 0 0,.iface 34 (I X 4)])/\G W b N from⟨by
  obtain l|l:=h.1
  exact absurd l.1 t
  .exact l.2,h.2⟩))
 have B:=J (λW(g:G w W N)=>(show R (ξ (.iface 34 (I X 4))) W by rw[Z j];exact φ ⟨t,Q,H.to g⟩));have C:(prog.info? 24).map (·.size)=E (bv s.key).length:=by rw[gy,d.1];exact mh
 have P:=underlying24;obtain⟨key,n⟩:=í s.key;obtain⟨f,q⟩:=í s.first;rw[<-n]at C k x;rw[<-q]at k fI;replace⟨n,q⟩:=aT n q;simp only[ne_eq,wO,uT]at u;go_enter func131,ntmps131;go_wp2_with fail;apply(Z u).mono;rintro e S⟨rfl,F⟩;have T:=kc fI;have c:=dT ⟨x,au w N⟩ F;go_upto_region 3 with fail;go_region_held3 (λb=>b.rangeAt sb 2 (bv key)/\G w b N)
  (with_reducible first|exact y|exact c|exact dT c (aK (au _ N)))
  (first|(go_at_call 135;apply(Z k _ (dT c (aK (au _ N))).2).mono;rintro e K⟨rfl,L⟩;have y:=dT (dT c (aK (au _ N))) L;have M:Hid (R (ξ (.iface 34 (I X 4))) K):=J (Z B _ y.2)))
 go_wp2_with fail;exact Z M
def Fu(b:bD w a m n L):0<=bu L:=by
 have h:=sx L b.1;unfold bu;by_cases hl:8<=L.length;simp_all;rw[à];have:=(h L.length (aP _)).1;grind
structure sB(w:D)(a sb:Nat)(b:Array υ)(v:aY)(s:Sd)(p:List Int):Prop where
 at_:bF w a sb b v s
 key:cI s.key
 recv:nM s
 lost:s.lost.length<=30000000
 aQ:0<=s.count/\s.count<=4611686018427387000
 np:bk s.af
 c8:s.af.length<=8
 laid:Laid w
 n0:¬cM sb v 0
 ok:dZ s.key (bf (!s.first)) p
 num:0<=bu p
def sB.Ov(h:sB w k i C F d L)(W:D)(g:G w W N):
 Calls prog 160 #[π (E ⟨i,96,N⟩),I U (bu L)] W λe b=>e=ξ (β (kh d.af d.floor (bu L)))/\G W b N:=by
 let⟨a,n,c,e,f⟩:=h.at_.pB
 exact N6 W i 96 a n c d.af d.floor (bu L) (g.cell ((ba h.at_.aG _).trans (e▸h.at_.py)) Γ) (g.cell ((ba h.at_.aG _).trans h.at_.pY) Γ) (f.ag g) ⟨h.num,h.ok.2.2.2⟩
def sB.gH(h:sB w k i C F d L)(hp:kh d.af d.floor (bu L)=θ)(W:D)(g:G w W N):
 Calls prog 164 #[π (E ⟨i,96,N⟩),I U (bu L)] W λe b=>e=ξ (τ #[])/\∃f j l,b.heap[i]?=E (ο ((C.setIfInBounds 96 (Y f j l)).setIfInBounds 97 (I U (gH d.af d.floor (bu L)).2)) 241 (0,0))/\dN b W.heap.size (Y f j l) (gH d.af d.floor (bu L)).1/\G W b (E i):=by
 let⟨a,n,c,e,m⟩:=h.at_.pB
 refine Oe W i 96 C _ a n c d.af d.floor (bu L) (bp h.at_.aG g) (e▸h.at_.py) h.at_.pY (m.ag g) (λy p e2=>?_) h.np h.c8 (Fo hp).1 ⟨h.num,h.ok.2.2.2⟩;exact(h.at_.bB.cq 8 O y n c (by grind)).1 (φ e2)
def sB.busy(h:sB w k i C F d L)(g:G w W N){aw:List cX}(hF:iH j l W (Y a n m) aw)(hs:∀f∈aw.map (·.1),cT f):
 Calls prog 162 #[Y a n m,.func (.func 163) #[π (E ⟨i,0,N⟩)] #[]] W λe p=>e=ξ (β ((aw.map (·.1)).any d.fk))/\G W p N:=by
 refine Fp W j l a n m _ #[π (E ⟨i,0,N⟩)] #[] aw d.fk hF (λargs w=>Φ) (λq x r b=>?_);have c:=hs x.1 (qq b);have s:=c.st;exact Oj q k i C F d (h.at_.ag (aq g r)) h.recv.av x.1 x.2 s ((h.recv.aF _ O).nice h.recv.av.2) (hF.own.2 x b).1.1.2.2.1.1 (λt=>c.en t)
def Ow{aw:List cX}(hF:iH k i W (Y a n j) aw):
 Calls prog 162 #[Y a n j,.func (.func 165) #[] #[]] W λe b=>e=ξ (β ((aw.map (·.1)).any kP))/\G W b N:=
 Fp W k i a n j _ #[] #[] aw kP hF (λargs w=>Φ) (λc x d f=>Oi c x.1 x.2)
def kj.ended{aw:List cX}{b:Sd}{c:aY}(h:kj w k i F d aw a n j l m o aw.length b W C c):dP d (aw.map (·.1))=(0,b):=by
 rw[<-h.all,wJ Γ];rfl
def kj.fail{aw:List cX}{c:Sd}{W':D}{f:aY}(h:kj w k i F d aw a n l m o b j c W C f)(q:Laid w)(h0:¬cM i F 0)(s:cI d.key)(t:0<=d.count/\d.count<=4611686018427387000)(u:eH W.heap.size W k i f (c.take (cS aw j).1).2 W')(e:Int)(v:0<=e/\e<=1000):
 Calls prog 161 #[π (E ⟨i,0,N⟩),.iface 34 (I X e)] W' λr g=>r=ξ (.iface 34 (I X e))/\jQ w i F e ((c.take (cS aw j).1).2.iS e e) g:=by
 let⟨x,y,S,z⟩:=u
 have T:=h.same.trans (take_same c (cS aw j).1);have p:=h.ew.trans (z.mono h.ew.aA.size);refine(Nk W' k i x y _ S (by rw[T.key];exact s) (by rw[T.count];exact t) (q.aA p.aA h0) e v).mono ?_;rintro r g⟨rfl,A⟩;exact⟨Q,jQ.ew p A⟩
def Ox(w:D)(H sb:Nat)(cs:Array υ)(v:aY)(s:Sd)(p:List Int)(h:sB w H sb cs v s p)(a:Option Addr)(m br:Nat)(aa:bD w a m br p):
 Calls prog 131 #[π (E ⟨sb,0,N⟩),Y a m br] w (yD w H sb v s p):=by
 refine fL λR K=>?_
 replace K:=J K;have hC:=J (pC w sb 0 h.at_.lg);have bt:=h.at_.rH h.key;have fI:=(ba h.at_.aG _).trans h.at_.fI;have lQ:=kc ((ba h.at_.aG _).trans h.at_.lQ);have y:=J (λW(g:G w W N)=>(Fm W s.key (!s.first) a m br p h.key (aa.ag g)).mono (λe w' L=>show∃a' c',e=ξ (τ #[I U (bu p),Y a' (p.length-16) c',.nilIface])/\bD w' a' (p.length-16) c' (cV s.key (bf (!s.first)) (bu p) (bO p))/\G W w' N from by
  obtain⟨-,a',c',h1,h2⟩|h1:=L.1
  exact⟨a',c',h1,h2,L.2⟩
  .exact absurd h.ok h1.1))
 have bw:=J h.Ov;have cx:(prog.info? 24).map (·.size)=E (bv s.key).length:=by rw[gy,h.key.1];exact mh
 have ea:=underlying24;have bx:Hid ((cV s.key (bf (!s.first)) (bu p) (bO p)).length<=300):=J (by
  rw[nI];have:=h.ok.2.1;unfold bO;rw[dK];omega)
 obtain⟨M,P⟩:=í (cV s.key (bf (!s.first)) (bu p) (bO p));rw[<-P]at y bx;have eS:=h.at_.bB.jy;clear aa;replace h:=J h;obtain⟨key,hK⟩:=í s.key;obtain⟨f,hf⟩:=í s.first;obtain⟨num,d⟩:=í (bu p);obtain⟨pl,bz⟩:=í (p.length-16);rw[<-hK]at cx y bt;rw[<-hf]at y fI;rw[<-d]at y bw;rw[<-bz]at y;replace⟨hK,hf,d,P,bz⟩:=gT hK hf d P bz;simp only[ne_eq,wO,uT]at hC;go_enter func131,ntmps131;go_wp2_with fail;apply(Z hC).mono;rintro e w1⟨rfl,g1⟩;have eb:=kc fI;have ao:=dT ⟨bt,au w N⟩ g1;clear fI bt;go_upto_region 3 with fail;go_region_held3 (λw'=>w'.rangeAt sb 2 (bv key)/\G w w' N)
  (with_reducible first|exact bA|exact ao|exact dT ao (aK (au _ N)))
  (first|(go_at_call 135;apply(Z y _ (dT ao (aK (au _ N))).2).mono;rintro e w5⟨a5,c5,rfl,a3,g5⟩;have bA:=dT (dT ao (aK (au _ N))) g5;replace a3:=J a3))
 clear y eb cx ea;have cy:=bA.2;clear bA ao;go_wp2_with fail;apply(Z bw _ cy).mono;rintro e w6⟨rfl,g6⟩;have ax:=aq cy g6;have da:=J ((Z a3).ag g6);clear a3 bw;cases hp:kh s.af s.floor num;rotate_left
 .have l:Hid (R (ξ .nilIface) w6):=J (by
   rw[Z K];exact ψ (φ ⟨(Z h).ok,by rw[<-Z d];exact hp,Q,(Z h).at_.to ax⟩))
  go_wp2_with fail;exact Z l
 have db:=J (Om w6 a5 pl c5 M (Z da) (by have:=Z bx;omega));replace hp:=J hp;go_wp2_with fail;apply(Z db).mono;rintro e S⟨g7,⟨aw,a7,n,c7,hd,rfl,hO⟩|⟨q,F,hd,rfl,hF,dc⟩⟩;rotate_left
 .have z:=aq ax g7;have ec:=J (Nl S H sb F cs v s ((Z h).at_.ag z) (Z h).key (Z h).aQ ((Z h).laid.gb z) 5 O (by simp[κ,hF]));go_wp2_with fail;apply(Z ec).mono;rintro e w8⟨rfl,bM⟩;have l:Hid (R (ξ (.iface 177 (π (E ⟨F,0,N⟩)))) w8):=J (by
   rw[Z K];have hz:=ax.size;refine ψ (ψ (φ ⟨(Z h).ok,by rw[<-Z d];exact Z hp,(q:Int),F,?_,Q,O,?_,jQ.pre z bM⟩));rw[<-Z P];exact hd
   .obtain⟨last,e3,-,-,C⟩:=bM;rw[C.block F (aV.1 hF).1 (λe=>by have:=qE (Z h).at_.bB e;omega)];exact hF)
  clear bM hF;go_wp2_with fail;exact Z l
 have z:=aq ax g7;have T:=hO.AG;have ed:=ax.size;have a4:=yz hd;have ee:=Ol hd;rw[fF]at ee;have ei:=J T.fU;have b3:=J ((Z h).busy z T a4);have b4:=J (λW(C:aj S W (λk=>k=sb))=>Ow (T.aA C (λj h1 _ e=>O)));have b5:=J (λW(g:G S W N)=>(Z h).gH (by rw[<-Z d];exact Z hp) W (aq z g));rw[<-Z d]at b5;replace⟨hO,T,a4,hd⟩:=fB hO T a4 hd;obtain⟨fs,b⟩:=í (aw.map (·.1));rw[<-b]at b3 b4;replace b:=J b;clear db da;go_wp2_with fail;apply(Z b3).mono;rintro e w8⟨rfl,g8⟩;have de:=aq z g8;cases V:fs.any s.fk;rotate_left
 .have l:Hid (R (ξ (.iface 34 (I X 6))) w8):=J (by
   rw[Z K];refine ψ (ψ (ψ ⟨(Z h).ok,by rw[<-Z d];exact Z hp,fs,?_,φ ⟨V,Q,(Z h).at_.to de⟩⟩));rw[<-Z P,Z b];exact Z hd)
  go_wp2_with fail;exact Z l
 replace V:=J V;clear b3;go_wp2_with fail;apply(Z b5 _ g8).mono;rintro e w9⟨rfl,a9,k9,c9,A,dg,g9⟩;have lQ:κ w9 ⟨sb,98,N⟩=E (β s.eY):=by rw[ba A,ë,ë];exact(Z h).at_.lQ
 have f98:χ w9 ⟨sb,98,N⟩=θ:=ç A;have a0:=J (λai(a1:G w9 ai N) ow ho=>kj.start (Z h).at_ de ed g8.size ((Z T).ag g8) (Z h).recv A dg g9 a1 ow ho);have dk:=J (Z b4 w9 (((aj.of g8).trans (aj.of g9)).mono (λk _ e=>e.elim (nofun) (λe=>(aR e).symm))));replace A:=J A;clear dg b4 b5;rw[<-Z b]at a0;have dm:=J (λj(hj:j<aw.length)=>Z a4 (cS aw j).1 (qq (sA hj)));have b6:=J (λj(hj:j<aw.length)=>Fs (Z V) num (cS aw j).1 (by rw[Z b];exact qq (sA hj)));obtain⟨s1,ak⟩:=í (s.gI num fs);rw[<-ak]at a0 b6;obtain⟨b7,hZ⟩:=í (λW:D=>∃r t,kj w H sb v s1 aw a7 n c7 w6.heap.size S.heap.size s.lost.length 0 s1 W r t);replace⟨hZ,ak⟩:=aT hZ ak;go_upto_region 14 with fail;go_cut [] (λwx=>b7 wx);case first=>
  cases a8:s.eY
  .rw[a8]at lQ;go_wp2_with fail;apply(Z dk).mono;rintro e ai⟨rfl,a1⟩;have e4:χ ai ⟨sb,98,N⟩=θ:=by simp[χ,bp (Z A) a1]
   have e5:=ì a1 lQ;have b8:Hid (b7 (ζ ai ⟨sb,98,N⟩ (β (fs.any kP)))):=J (by rw[Z hZ];exact Z a0 ai a1 _ (by rw[a8,Bool.false_or]));go_wp2;go_meet;exact Z b8
  rw[a8]at lQ;have b8:Hid (b7 (ζ w9 ⟨sb,98,N⟩ (β ρ))):=J (by rw[Z hZ];exact Z a0 w9 (au _ _) _ (by rw[a8,Bool.true_or]));go_wp2;go_meet;exact Z b8
 case rest=>
  rw[Z hZ]at hcut;rename D=>ai
  let⟨ej,ek,ca⟩:=hcut
  clear dk a0 lQ f98 A hZ;replace ca:=J ca;have eo:=J (λj u W B r t(L:kj w H sb v s1 aw a7 n c7 w6.heap.size S.heap.size s.lost.length j u W r t) x e he=>L.fail (Z h).laid (Z h).n0 (by rw[Z ak];exact(Z h).key) (by rw[Z ak];exact(Z h).aQ) x e he (W':=B));have cc:=J (λ(e:Ending)(W:D) L=>(show R e W by
   rw[Z K];refine ψ (ψ (ψ ⟨(Z h).ok,by rw[<-Z d];exact Z hp,fs,?_,ψ L⟩));rw[<-Z P,Z b];exact Z hd))
  rw[<-Z d,<-Z ak]at cc;let⟨cf,e6,er⟩:=Z ei
  unfold maxLen at er;replace cf:=J cf;have et:=J (Z h).lost;have e7:=Z bx;go_upto_region 16 with fail;go_loopg [71] (aw.length+1) (λg ey wr=>∃(j:Nat)(u:Sd)(r:Array υ)(t:aY),j<=aw.length/\ey=I X j/\g=aw.length+1-j/\kj w H sb v s1 aw a7 n c7 w6.heap.size S.heap.size s.lost.length j u wr r t);case atStart=>exact⟨0,s1,ej,ek,O,Q,O,Z ca⟩
  case round=>
   obtain⟨j,u,r,t,ez,rfl,rfl,i⟩:=hrel;have dn:=Z cf;by_cases c:j<aw.length
   .have d1:decide ((j:Int)<n)=ρ:=α;obtain⟨g,rfl,du⟩:=i.fr.cells O;obtain⟨y0,y1,y2,y3,y4,y5,y6⟩:=yB (u:=(cS aw j).1) (by have:=du j c;rwa[eM]at this);obtain⟨WB,bb⟩:=í (wr.alloc (ο (bC (cS aw j).1 (cS aw j).2) 158));have eK:G wr WB N:=by rw[bb];exact aC _ _ _
    have ch:WB.heap[wr.heap.size]?=E (ο (bC (cS aw j).1 (cS aw j).2) 158 (0,0)):=by rw[bb];exact aM _ _
    have al:=i.gb eK;have cm:=J (al.Oo c (Z dm j c) (Z b6 j c));have cp:=J (λB x h0=>al.step (W':=B) c (Z dm j c) (i.fr.yC j c).1.2.2.1.1 (Z b6 j c) (by have:=Z et;omega) x h0);have a2:=J (al.stop c);have ct:=J (λB=>Z eo j u WB B r t al);have bj:=On u (cS aw j).1;obtain⟨q,hq⟩:=í (u.take (cS aw j).1);rw[<-hq]at cm cp a2 ct bj;replace hq:=J hq;obtain⟨-,-,ra,e8,dv,-⟩:=i.fr.yC j c;generalize (cS aw j).1.ranges.length=rl at dv;generalize (cS aw j).2=rv at *;subst dv;generalize (cS aw j).1=ff at *;replace⟨i,al⟩:=aT i al;clear du;obtain⟨kind,stream,offset,code,fin,data,ranges⟩:=ff;unfold bC at *;simp only at *;have i1:(0:Int)<=j:=O;have i2:(j:Int)<n:=O;clear dn;let⟨x0,x1,x2,x3,x4,x5,x6⟩:=bQ ch
    replace ch:=J ch;go_upto_region 18 with fail;rw[<-bb];clear y0 y1 y2 y3 y4 y5 y6 bb;go_wp2_with fail;apply(Z cm).mono;rintro e dx⟨rfl,x⟩;by_cases h0:q.1=0
    .have ev:cF q.1=.nilIface:=by rw[h0];rfl
     rw[ev];let⟨eL,v2,cv⟩:=Z cp dx x h0
     clear x cp a2 ct cm bj;replace⟨cv,h0⟩:=aT cv h0;go_wp2;go_roundg (aw.length+1-(j+1));case measure=>omega
     case rel=>exact⟨j+1,q.2,eL,v2,O,by push_cast;rfl,Q,Z cv⟩
    have ev:cF q.1=.iface 34 (I X q.1):=by unfold cF;rw[aE h0]
    rw[ev];have dc:=J (Z ct dx x q.1 O);have l:=J (λW(hS:jQ w sb v q.1 (q.2.iS q.1 q.1) W)=>Z cc (ξ (.iface 34 (I X q.1))) W (ψ ⟨Z V,by rw[Z b,Z a2 h0];exact h0,by rw[Z b,Z a2 h0,ev],by rw[Z b,Z a2 h0];exact hS⟩));replace⟨h0,ev,bj⟩:=cA h0 ev bj;clear x;go_wp2_with fail;apply(Z dc).mono;rintro e e9⟨rfl,hS⟩;replace hS:=J hS;go_wp2_with fail;exact Z l _ (Z hS)
   have hj:j=aw.length:=O;have i3:¬((j:Int)<n):=O;have i4:¬(j<n):=O;have d1:decide ((j:Int)<n)=θ:=é;have d2:decide (j<n)=θ:=é;have cw:dP s1 (aw.map (·.1))=(0,u):=by subst hj;exact i.ended
   have l:Hid (R (ξ .nilIface) wr):=J (by
    refine Z cc _ _ (φ ⟨Z V,?_,Q,?_⟩);rw[Z b,cw]
    .rw[Z b,cw];exact⟨r,t,i.side,i.ew⟩)
   clear i dn hj c ez cw;go_wp2_with fail;exact Z l
def Oy(w:D)(b sb:Nat)(d:Array υ)(v:aY)(s:Sd)(p:List Int)(H:bF w b sb d v s)(f:cI s.key)(h:nM s)(hl:s.lost.length<=30000000)(i:0<=s.count/\s.count<=4611686018427387000)(j:bk s.af)(k:s.af.length<=8)(l:Laid w)(h0:¬cM sb v 0)(a:Option Addr)(m c:Nat)(e:bD w a m c p):
 Calls prog 131 #[π (E ⟨sb,0,N⟩),Y a m c] w (yD w b sb v s p):=by
 by_cases g:dZ s.key (bf (!s.first)) p;exact Ox w b sb d v s p ⟨H,f,h,hl,i,j,k,l,h0,g,Fu e⟩ a m c e;exact Ou w b sb d v s H f a m c p e g
def Oz(w:D)(sb:Nat)(aI:Int)(dS:κ w ⟨sb,99,N⟩=E (I X aI))(h:aI≠0)(b:υ):Calls prog 131 #[π (E ⟨sb,0,N⟩),b] w λr c=>r=ξ (cF 9)/\G w c N:=by
 have a:=J (pC w sb aI dS);rw[bU h]at a;go_enter func131,ntmps131;go_wp2_with fail;apply(Z a).mono;rintro e f⟨rfl,d⟩;go_wp2;go_ret;exact⟨Q,d⟩
def OP{fr:Nat×Nat}(h:w.heap[n]?=E (ο c T fr))(v:υ):(ζ w ⟨n,o,N⟩ v).heap[n]?=E (ο (c.setIfInBounds o v) T fr):=by
 simp[ζ,Array.getElem?_modify,h]
def OQ(g n c:Nat)(b:Array υ)(fr:Nat×Nat)(w:D)(h:w.heap[g]?=E (ο b 5 fr))(hs:n<=b.size)(k:n<=fr.1)(q:n<=100000000):
 Calls prog 97 #[Y (E ⟨g,0,N⟩) n c] w λe l=>e=ξ (τ #[])/\G w l (E g):=by
 go_enter func97,ntmps97;go_wp2;go_loopg [5] n (λm i wr=>∃j:Nat,j<=n/\m=n-j/\i=I X j/\G w wr (E g)/\∃a,wr.heap[g]?=E (ο a 5 fr)/\n<=a.size);case atStart=>exact⟨0,O,O,Q,au _ _,b,h,hs⟩
 case round=>
  obtain⟨j,r,rfl,rfl,f,a,d,p⟩:=hrel;by_cases s:j<n
  .have t:κ wr ⟨g,j,N⟩=E (a.getD j undef):=by simp[κ,d,Array.getD,show j<a.size by omega]
   have k:χ wr ⟨g,j,N⟩=θ:=by simp[χ,d];omega
   go_wp2;go_roundg (n-(j+1));case measure=>omega
   case rel=>exact⟨j+1,O,Q,by go_num,aD f _ _ (ψ Q),_,OP (Z d) _,by simpa using p⟩
  go_wp2;apply eP (dV Q _ _ _) Q;exact⟨Q,f⟩
def OR(w W:D)(s:ByteArray)(hs:s.size<=100000000)(a:W.heap[w.heap.size]?=(Lib.bytesWorld w 5 s).heap[w.heap.size]?)(c:Nat):
 Calls prog 97 #[Y (E ⟨w.heap.size,0,N⟩) s.size c] W λe d=>e=ξ (τ #[])/\G W d (E w.heap.size):=by
 rw[Lib.bytesWorld_at_new]at a;have b:s.size<=(Lib.bytesCells w 5 s).size:=by unfold Lib.bytesCells;rw[Array.size_append,Array.size_map];exact Nat.le_add_right _ _
 exact OQ _ _ c _ _ W a b b hs
def vR(w:D)(a:υ)(n p:Int):Prop:=(a=cF n/\p= -1)\/∃F,a=.iface 177 (π (E ⟨F,0,N⟩))/\w.heap[F]?=E (ο #[I X n,I X p] 182 (0,0))
def OS(w:D)(a:υ)(n p:Int)(b:Laid w)(h:vR w a n p):Calls prog 39 #[a] w λe c=>e=ξ (τ #[I X n,I X p])/\G w c N:=by
 obtain⟨rfl,rfl⟩|⟨F,rfl,hF⟩:=h
 unfold cF;split;rename_i h;subst h;exact AB w;exact EU n w b;exact Nh F n p w b hF
def Fv(n:Int)(w:D)(a:Laid w):Calls prog 35 #[cF n] w λe b=>e=ξ (I X n)/\G w b N:=by
 unfold cF;split;rename_i h;subst h;exact EV w;exact M6 n w a
inductive bg where
 |bh (s:Sd)
 |shut (aI:Int) (l:List (List Int))
def yE(w:D)(sb:Nat)(A:Nat->Prop):bg->Prop
 |.bh s=>∃b v,bF w 0 sb b v s/\∀k,bn sb v k->A k
 |.shut aI l=>aI≠0/\∃last a,jP w 0 sb aI last a/\a.map (·.2)=l/\∀k,uf sb last a k->A k
structure dp(w:D)(xb sb:Nat)(st:bg)(A:Nat->Prop):Prop where
 aG:w.heap[xb]?=E (ο #[π (E ⟨sb,0,N⟩)] 173 (0,0))
 side:yE w sb (λk=>A k/\k≠xb) st
 lD:A xb
 lt:∀k,A k->k<w.heap.size
 n0:¬A 0
def yE.other{st:bg}(h:yE w n S st)(C:aj w W P)(d:∀k,k<w.heap.size->P k->¬S k):yE W n S st:=by
 cases st with
 |bh s=>
  let⟨f,v,H,a⟩:=h
  exact⟨f,v,H.other C (λk b e c=>d k b e (a k c)),a⟩
 |shut aI l=>
  let⟨g,last,i,H,e,a⟩:=h
  exact⟨g,_,_,H.other C (λk b e c=>d k b e (a k c)),e,a⟩
def dp.other{st:bg}(h:dp w n i st S)(C:aj w W P)(b:∀k,k<w.heap.size->P k->¬S k):dp W n i st S:=
 ⟨(C.block n (aV.1 h.aG).1 (λe=>b n (h.lt n h.lD) e h.lD)).trans h.aG,h.side.other C (λk a e c=>b k a e c.1),h.lD,λk a=>bX (h.lt k a) C.size,h.n0⟩
def dp.ag{st:bg}(h:dp w n i st S)(g:G w W N):dp W n i st S:=h.other (aj.of g) (λk _ e=>by cases e)
def dp.cell{st:bg}(h:dp w n k st S):κ w ⟨n,0,N⟩=E (π (E ⟨k,0,N⟩)):=by simp[κ,h.aG]
def fm(c:Nat)(w:D)(xb sb:Nat)(A:Nat->Prop)(st:bg)(a:D):Prop:=∃b,dp a xb sb st b/\(∀k,b k->A k\/c<=k)/\aj w a A
def dp.to{st:bg}(h:dp w n i st S)(g:G w W none){N:Nat}:fm N w n i S st W:=⟨S,h.ag g,λk a=>φ a,(aj.of g).mono (λk _ e=>by cases e)⟩
def dp.pJ{j:Sd}(h:dp w n i (.bh d) P)(H:bF w 0 i c F d)(g:∀k,bn i F k->P k/\k≠n)(T:eH w.heap.size w 0 i F j W):fm w.heap.size w n i P (.bh j) W:=by
 let⟨p,l,S,b⟩:=T
 have m:=h.lt n h.lD;refine⟨λk=>k=n\/bn i l k,⟨(b.aA.block n m (λe=>(g n (φ e)).2 Q)).trans h.aG,⟨p,l,S,λk a=>⟨ψ a,λe=>?_⟩⟩,φ Q,λk a=>?_,λe=>?_⟩,λk a=>?_,b.aA.mono (λk _ e=>(g k (φ e)).1)⟩
 subst e;obtain f|f:=b.ar k a
 grind;omega;obtain rfl|a:=a
 exact bX m b.aA.size;exact px S.bB a;obtain e|e:=e
 exact h.n0 (e▸h.lD);obtain f|f:=b.ar 0 e
 exact h.n0 (g 0 f).1;omega;obtain rfl|a:=a
 exact φ h.lD;obtain f|f:=b.ar k a
 simp_all;grind
def OT{b:List El}(h:jP w n i p x b)(a:uf i x b k):k<w.heap.size:=by
 obtain rfl|a|⟨e,he,rfl⟩:=a
 exact(aV.1 h.aG).1;exact(h.own.lt k a).2;exact h.at_.lt he
def OU{b:List El}(h:jP w n i p x b)(a:uf i x b k):k=i\/n<=k:=by
 obtain rfl|a|⟨e,he,rfl⟩:=a
 omega;exact ψ (h.own.lt k a).1;exact ψ (h.at_.at_ e he).1
def dp.close{l:List (List Int)}(h:dp w n i (.bh d) P)(H:bF w 0 i c F d)(b:∀k,bn i F k->P k/\k≠n)(m:p≠0)(T:jQ w i F p l W):fm w.heap.size w n i P (.shut p l) W:=by
 let⟨last,f,S,e,C⟩:=T
 have j:=h.lt n h.lD;have r:=b i (φ (φ Q));have q:∀k,uf i last f k->P k/\k≠n\/w.heap.size<=k:=λk a=>by
  obtain rfl|g:=OU S a
  simp_all;grind
 refine⟨λk=>k=n\/uf i last f k,⟨(C.block n j (λe=>(b n (φ e)).2 Q)).trans h.aG,⟨m,last,f,S.low (mP _),e,λk a=>⟨ψ a,λe=>?_⟩⟩,φ Q,λk a=>?_,λe=>?_⟩,λk a=>?_,C.mono (λk _ e=>(b k (φ e)).1)⟩
 grind;obtain rfl|a:=a
 exact bX j C.size;exact OT S a;obtain e|e:=e
 exact h.n0 (e▸h.lD);obtain g|g:=q 0 e
 exact h.n0 g.1;omega;obtain rfl|a:=a
 exact φ h.lD;grind
def fm.other{st:bg}(h:fm n w i j S st W)(C:aj W v P)(c:∀k,k<W.heap.size->P k->¬S k/\k<n/\w.heap.size<=k):fm n w i j S st v:=by
 let⟨d,f,g,a⟩:=h
 refine⟨d,f.other C (λk b e m=>?_),g,?_⟩
 grind;refine⟨C.os.trans a.os,C.tape.trans a.tape,C.output.trans a.output,bG a.size C.size,λk b l=>?_⟩
 rw[C.block k (bX b a.size) (λe=>by have:=c k (bX b a.size) e;omega)];exact a.block k b l
def fm.ag{st:bg}(h:fm n w i j S st W)(g:G W v N):fm n w i j S st v:=h.other (aj.of g) (λk _ e=>by cases e)
def fm.pre{N:Nat}{st:bg}(g:G W w none)(h:fm N w n i S st v):fm N W n i S st v:=by
 let⟨a,b,c,d⟩:=h
 exact⟨a,b,c,((aj.of g).trans d).mono (λk _ e=>e.elim (nofun) id)⟩
def fm.mono{st:bg}(h:fm n w j l S st W)(a:i<=n):fm i w j l S st W:=by
 let⟨b,c,d,e⟩:=h
 exact⟨b,c,λk f=>(d k f).imp id (λh=>bG a h),e⟩
structure nr(s:Sd):Prop where
 key:cI s.key
 az:56<=s.az/\s.az<=1000
 out:∀k,k<4->Fy (s.out k)
 fl:s.aO.length<=10
 fp:∀x∈s.aO,x.ps.length<=1000
def nr.pz{a:Sd}(h:nr d)(R:vS d k a):nr a:=by
 rw[R.eq];refine⟨h.key,h.az,λj b=>?_,R.fl,R.fp⟩
 by_cases e:j=k;subst e;simp only[bN]
 have:=h.out j b;exact⟨this.nice,this.en,R.ay,this.code,this.cl⟩
 simp only[bI _ _ e]
 exact h.out j b
def nr.p0(h:nr d)(k:Nat)(b:k<4)(e:0<=d.count/\d.count<=4611686018427386000)(lf:List Kt)(a:d.aO=lf.map (·.1)):(d.out k).h.af.length+(eB lf k).length<=100000/\(d.due k).l.length<=800000/\ks (d.out k) (d.due k):=by
 have f:=OX lf k (λx g=>h.fp x.1 (by grind));have i:lf.length<=10:=by have:=fR List.length a;rw[fF]at this;have:=h.fl;omega
 have j:=(h.out k b).cl;have c:=DF (d.out k) (eB lf k) _ (aP _);rw[<-Ad d lf k a]at c;exact⟨O,O,OW d lf k a⟩
def AJ(h:nr d)(k:Nat)(b:k<4)(e:0<=d.count/\d.count<=4611686018427386000)(lf:List Kt)(f:d.aO=lf.map (·.1)):vS d k (d.pieces k).s/\(d.pieces k).l.length<=10:=by
 let⟨i,j,g⟩:=h.p0 k b e lf f
 have a:=h.out k b;have c:=h.fl;refine OY b (by have:=h.az;omega) a.nice.1 a.en 11 ⟨d,d.due k,[]⟩ ⟨Q,Q,Q,Q,Q,a.ay,g,by simp only;omega,c,by simp only;omega,Γ⟩ ⟨?_,a.ay,c,h.fp,by simp only;omega⟩ (by grind);rw[sq]
def OZ(w:D)(b sb k:Nat)(d:Array υ)(v:aY)(s:Sd)(H:bF w b sb d v s)(h:nr s)(c:k<4)(e:0<=s.count/\s.count<=4611686018427386000):
 Calls prog 159 #[π (E ⟨sb,0,N⟩),I X k] w (Ax w b sb v (s.pieces k)):=by
 let⟨f,g,i⟩:=h.p0 k c e v.lf H.aO
 have a:=h.out k c;exact MD w b sb k d v s H c h.key a.nice a.en a.ay a.code (by have:=h.az;omega) h.fl e f i g
def di(s:Sd):Nat->Sd×List (List Int)
 |0=>(s.gZ.s,s.gZ.l)
 |k+1=>(((di s k).1.pieces k).s,(di s k).2++((di s k).1.pieces k).l)
def Sd.fW(s:Sd):Sd×List (List Int):=di s 4
def O0(m:Nat):∀x:Ak,∃c,(nJ m x).s={x.s with count:=c}/\x.s.count<=c/\c<=x.s.count+m/\(nJ m x).l.length<=x.l.length+m:=by
 induction m with
 |zero=>exact λx=>⟨x.s.count,Q,fv _,Γ,aP _⟩
 |succ m d=>
  intro x;unfold nJ;split;grind;let⟨c,f,a,b,g⟩:=d x.step
  refine⟨c,by rw[f];rfl,?_,?_,?_⟩
  unfold Ak.step at a;simp only at a;omega;unfold Ak.step at b;simp only at b;omega;have e:x.step.l.length=x.l.length+1:=by unfold Ak.step;simp
  omega
def AK(s:Sd):∃c,s.gZ.s={s with eY:=θ,count:=c}/\s.count<=c/\c<=s.count+10/\s.gZ.l.length<=10:=by
 unfold Sd.gZ;cases h:s.eY;simp only[iV,iJ]
 exact⟨s.count,by rw[<-h],fv _,O,Γ⟩
 simp only[fw]
 let⟨c,a,b,d,e⟩:=O0 10 ⟨{s with eY:=θ},ir s.af s.af.length,[]⟩
 grind
def nr.gZ(h:nr d):nr d.gZ.s:=by
 obtain⟨c,e,-⟩:=AK d;rw[e];exact⟨h.key,h.az,h.out,h.fl,h.fp⟩
def gG.join{i:aY}{l m:List El}(h:gG w n k F l y)(t:n<=w.heap.size)(r:dz w.heap.size w W k F i)(f:gG W w.heap.size k i m x)(u:jY W k i)(v:fC V n z (l++m))(g:G W V y.ownBlock)(d:z.ownBlock=y.ownBlock\/z.ownBlock=E W.heap.size):gG V n k i (l++m) z/\∀j,y.ownBlock=E j->¬bn k i j:=by
 have p:=h.next (X:=λ_=>False) (r.aA.mono (λ_ _ h=>φ h)) (λ_ _=>id) (λ_ _=>id) r.ar;have s:=p.at_.app ⟨λe c=>⟨bG t (f.at_.at_ e c).1,(f.at_.at_ e c).2⟩,f.at_.sep⟩ (λa q b A e=>by have:=h.at_.lt q;have:=(f.at_.at_ b A).1;omega);have B:∀e∈l++m,y.ownBlock≠E e.1:=λe c e1=>by
  obtain c|c:=b9.1 c
  exact h.s5 e c e1;have:=(h.own.lt _ e1).2;have:=(f.at_.at_ e c).1;omega
 refine⟨⟨v,s.aA (aj.of g) (λe c e1=>B e c e1),λj e1 q=>?_,λe c=>?_,λe c e1=>?_⟩,p.a5⟩
 obtain d|d:=d
 rw[d]at e1;exact p.a5 j e1 q;rw[d]at e1;have:=aR e1;have:=px u q;omega;obtain c|c:=b9.1 c
 exact p.ae e c;exact f.ae e c;obtain d|d:=d
 grind;rw[d]at e1;have:=aR e1;have:=s.lt c;omega
def O3(h:nr d)(i:0<=d.count/\d.count<=4611686018427385000)(k:Nat)(j:k<=4):nr (di d k).1/\0<=(di d k).1.count/\(di d k).1.count<=d.count+10+10*k/\(di d k).2.length<=10+10*k:=by
 induction k with
 |zero=>
  let⟨c,e,a,b,f⟩:=AK d
  have m:(di d 0).1.count=c:=by show d.gZ.s.count=c;rw[e]
  exact⟨h.gZ,O,O,by show d.gZ.l.length<=_;omega⟩
 |succ k g=>
  let⟨a,b,f,n⟩:=g O
  let⟨R,hl⟩:=AJ a k O O ((di d k).1.aO.map (λx=>(x,Y N 0 0))) (by rw[rZ];show _=List.map id _;rw[List.map_id])
  have p:=R.aQ;refine⟨a.pz R,?_,?_,?_⟩
  show 0<=((di d k).1.pieces k).s.count;omega;show((di d k).1.pieces k).s.count<=_;omega;show((di d k).2++((di d k).1.pieces k).l).length<=_;grind
def O4(w:D)(g sb:Nat)(v:aY)(r:Sd×List (List Int))(e:Ending)(b:D):Prop:=
 ∃a n c h d f,e=ξ (Y a n c)/\bF b g sb h d r.1/\dz w.heap.size w b sb v d/\gG b w.heap.size sb d f (Y a n c)/\f.map (·.2)=r.2
def O5(w:D)(c sb:Nat)(cs:Array υ)(v:aY)(s:Sd)(H:bF w c sb cs v s)(h:nr s)(hc:0<=s.count/\s.count<=4611686018427385000)(ax:s.af.length<=8)(u:bk s.af)(x:∀r∈s.af,0<=r.lo/\r.hi<=4611686018427387904):
 Calls prog 130 #[π (E ⟨sb,0,N⟩)] w (O4 w c sb v s.fW):=by
 refine fL λR y=>?_
 replace y:=J y;have hC:=J (pC w sb 0 H.lg);replace⟨u,x,H,h⟩:=fB u x H h;simp only[ne_eq,wO,uT]at hC;go_enter func130,ntmps130;go_wp2_with fail;apply(Z hC).mono;rintro e w1⟨rfl,z⟩;go_wp2_with fail;apply(Z (J (λW(g:G w W N)=>MK W c sb cs v s (H.ag g) h.key h.az O ax u x)) _ z).mono;rintro e A⟨a2,n2,c2,ak,q,B,rfl,S2,a0,d,e2⟩;have C:=z.size;have a1:Hid (bF A c sb ak q (di s 0).1/\dz w.heap.size w A sb v q/\gG A w.heap.size sb q B (Y a2 n2 c2)/\B.map (·.2)=(di s 0).2):=J ⟨S2,(dz.ag z).trans (a0.mono C),⟨d.own.low C,⟨λe he=>⟨bG C (d.at_.at_ e he).1,(d.at_.at_ e he).2⟩,d.at_.sep⟩,d.a5,d.ae,d.s5⟩,e2⟩;go_upto_region 5 with fail;go_loopg [3,11] 5 (λg v3 a8 wr=>∃(k:Nat)(f:Array υ)(a:aY)(b:List El),k<=4/\a8=I .i64 k/\g=5-k/\bF wr c sb f a (di s k).1/\dz w.heap.size w wr sb v a/\gG wr w.heap.size sb a b v3/\b.map (·.2)=(di s k).2);case atStart=>exact⟨0,ak,q,B,O,Q,O,Z a1⟩
 case round=>
  obtain⟨k,f,a,b,a9,rfl,rfl,S,i,L,m⟩:=hrel;obtain⟨a3,c3,rfl⟩:=L.slice;by_cases al:k<4
  .have d1:decide ((k:Int)<4)=ρ:=α;let⟨p1,p2,p3,p4⟩:=O3 (Z h) hc k a9
   have ao:=J (OZ wr c sb k f a _ S p1 al O);have bz:b.length<=100:=by have:=fR List.length m;rw[fF]at this;omega
   have t:=(AJ p1 k al O a.lf S.aO).2;have F:Hid (di s (k+1)=(((di s k).1.pieces k).s,(di s k).2++((di s k).1.pieces k).l)):=J Q;obtain⟨pz,bb⟩:=í ((di s k).1.pieces k);rw[<-bb]at ao t F;replace⟨S,L,i,m,t⟩:=gT S L i m t;go_wp2_with fail;apply(Z ao).mono;rintro e w4⟨a4,n4,c4,bj,v4,K,rfl,S4,n,L4,e4⟩;have M:=(Z i).aA.size;have bA:K.length<=10:=by have:=fR List.length e4;rw[fF]at this;have:=Z t;omega
   let⟨a5,n5,c5,P,T,o5,V,br⟩:=Lq (w:=w4) 206 w.heap.size _ b ((Z L).next (X:=λ_=>False) (n.aA.mono (λ_ _ h=>φ h)) (λ_ _=>id) (λ_ _=>id) n.ar).own wr.heap.size _ K L4.own O (bG M n.aA.size)
   let⟨bt,bw⟩:=(Z L).join M n L4 S4.bB o5 V br
   have hrel:Hid (∃(p:Nat)(f:Array υ)(a:aY)(b:List El),p<=4/\(I .i64 ((k:Int)+1))=I .i64 p/\5-(k+1)=5-p/\bF P c sb f a (di s p).1/\dz w.heap.size w P sb v a/\gG P w.heap.size sb a b (Y a5 n5 c5)/\b.map (·.2)=(di s p).2):=J (by
    refine⟨k+1,bj,v4,b++K,O,by push_cast;rfl,Q,?_,?_,bt,?_⟩
    rw[Z F];exact S4.other (aj.of V) (λj _ e=>bw j e);have ai:=(Z i).trans (n.mono M);refine⟨(ai.aA.trans (aj.of V)).mono (λj hj e=>e.elim id (λe=>by have:=((Z L).own.lt j e).1;omega)),ai.ft,ai.ar⟩
    .rw[Z F,oj,Z m,e4])
   replace T:=J T;go_wp2_with (at_builtin;refine jN Ξ 206 206 Ξ _ _ Ξ _ _ _ Ξ Ξ (Z T) ?_);go_roundg (5-(k+1));case measure=>omega
   case rel=>exact Z hrel
  obtain rfl:k=4:=O;have bx:Hid (R (ξ (Y a3 b.length c3)) wr):=J (by rw[Z y];exact⟨a3,_,c3,f,a,b,Q,S,i,L,m⟩);go_wp2_with fail;exact Z bx
structure cJ(s:Sd)(n:Nat):Prop where
 key:cI s.key
 az:64<=s.az/\s.az<=300
 av:16<=s.av/\s.av<=1024
 out:∀k,k<4->im (s.out k)
 qg:∀k,k<4->((s.out k).h.bytes.length:Int)<=s.av
 ay:∀k,k<4->0<=(s.out k).ay/\(s.out k).ay<=4096
 code:∀k,k<4->0<=(s.out k).code/\(s.out k).code<=4611686018427387903
 aF:∀k,k<4->iT s.av (s.aF k)
 pk:∀x∈s.aO++s.lost,0<=x.st/\x.st<4/\∀p∈x.ps,mr p
 num:∀x∈s.aO,0<=x.num/\x.num<=100*n
 fl:s.aO.length<=10
 fp:∀x∈s.aO,x.ps.length<=1000
 ft:∀x∈s.aO,0<=x.tick/\x.tick<=s.tick
 tick:0<=s.tick/\s.tick<=n
 wait:0<=s.wait/\s.wait<=32
 aQ:0<=s.count/\s.count<=100*n
 ll:s.lost.length+s.aO.length<=100*n
 np:bk s.af
 c8:s.af.length<=8
 cr:∀r∈s.af,0<=r.lo/\r.hi<=4611686018427387904
def ix(n:Nat):bg->Prop
 |.bh s=>cJ s n
 |.shut _ l=>l.length<=1/\∀p∈l,(p.length:Int)<=300
def cJ.Fz(h:cJ d n)(a:k<4):Fy (d.out k):=⟨(h.out k a).nice,(h.out k a).en,h.ay k a,h.code k a,by have:=(h.out k a).cl;omega⟩
def cJ.AL(h:cJ d n):nr d:=⟨h.key,by have:=h.az;omega,λk a=>h.Fz a,h.fl,h.fp⟩
def cJ.FB(h:cJ d n)(b:n<=100000):ni d:=⟨h.out,h.pk,λx a=>by have:=h.num x a;omega⟩
def cJ.O6(h:cJ d n)(a:n<=100000):nM d:=⟨by have:=h.av;omega,h.aF,h.FB a,h.fl,by have:=h.ll;omega⟩
def bk.hb{r:Rg}(h:bk (r::s)):¬Sm (r::s) r.hi:=by
 intro a;obtain c|⟨x,b,d,e⟩:=(eG r s _).1 a
 omega;have f:=(qW.1 h.1).1 x b;omega
def bk.run{r:Rg}(h:bk (r::s))(h0:0<=p)(b:r.lo=0)(hl:∀m,0<=m->m<p->Sm (r::s) m):p<=r.hi:=by
 by_cases a:p<=r.hi;exact a;have:=h.2 r Γ;exact absurd (hl _ O O) h.hb
def iT.whole{i:It}(h:iT p i):0<=dL i.h/\dL i.h<=i.h.bytes.length:=by
 unfold dL;split;omega;rename_i b;cases a:i.h.af with
 |nil=>rw[a]at b;simp at b
 |cons r t=>
  rw[a]at b;have e0:an (r::t) 0=r:=rfl;rw[e0]at b⊢;have c:=h.ok;rw[a]at c;have f:=c.2 r Γ;have g:=h.lR _ (by rw[a];exact⟨r,Γ,fv _,f⟩);have j:=h.mD (r.hi-1) (by rw[a];exact⟨r,Γ,O,O⟩);have d:i.given=θ:=by
   cases d:i.given;rfl;have:=(h.uj d).1;rw[a]at this;cases this
  have e:=h.low d;rw[a]at e;have:=c.run h.fr O e;omega
def bg.aI:bg->Int
 |.bh _=>0
 |.shut aI _=>aI
def bg.write(st:bg)(k:Int)(l:List Int):Int×Int×bg:=
 match st with
 |.bh s=>if k<0\/4<=k then(0,2,st)else((s.write k.toNat l).1,(s.write k.toNat l).2.1,.bh (s.write k.toNat l).2.2)
 |.shut _ _=>(0,9,st)
def bg.finish(st:bg)(k:Int):Int×bg:=
 match st with
 |.bh s=>if k<0\/4<=k then(2,st)else((s.finish k.toNat).1,.bh (s.finish k.toNat).2)
 |.shut _ _=>(9,st)
def bg.giveUp(st:bg)(k code:Int):Int×bg:=
 match st with
 |.bh s=>if k<0\/4<=k then(2,st)else((s.giveUp k.toNat code).1,.bh (s.giveUp k.toNat code).2)
 |.shut _ _=>(9,st)
def bg.af(st:bg)(k:Int):Int×Int:=
 match st with
 |.bh s=>if k<0\/4<=k then(0,2)else((s.out k.toNat).h.fr,0)
 |.shut _ _=>(0,9)
def bg.tick(st:bg):bg:=
 match st with
 |.bh s=>.bh s.jb
 |.shut _ _=>st
def bg.fW(st:bg):bg×List (List Int):=
 match st with
 |.bh s=>(.bh s.fW.1,s.fW.2)
 |.shut aI l=>(.shut aI [],l)
def bg.read(st:bg)(k aJ:Int):List Int×Int×Int×Int×bg:=
 match st with
 |.bh s=>if k<0\/4<=k then([],0,0,2,st)else((s.aF k.toNat).out aJ,(s.aF k.toNat).state aJ,(s.aF k.toNat).ik,0,.bh {s with aF:=aB s.aF k.toNat ((s.aF k.toNat).read aJ)})
 |.shut _ _=>([],0,0,9,st)
def bg.close(st:bg)(code:Int):Int×bg:=
 match st with
 |.bh s=>if 4611686018427387903<code then(3,st)else(0,.shut 9 (s.iS 9 code))
 |.shut _ _=>(9,st)
instance Us(key:List Int)(s:Int)(p:List Int):Decidable (dZ key s p):=by unfold dZ;infer_instance
noncomputable def Sd.recv(s:Sd)(p:List Int):Int×Int×bg:=
 if¬dZ s.key (bf (!s.first)) p then(4,-1,.bh s)
 else if kh s.af s.floor (bu p)then(0,-1,.bh s)
 else match eX (cV s.key (bf (!s.first)) (bu p) (bO p))with
  |(N,q)=>(5,q,.shut 5 (s.iS 5 5))
  |(E fs,_)=>
   if fs.any s.fk then(6,-1,.bh s)
   else if(dP (s.gI (bu p) fs) fs).1=0 then(0,-1,.bh (dP (s.gI (bu p) fs) fs).2)
   else((dP (s.gI (bu p) fs) fs).1,-1,.shut (dP (s.gI (bu p) fs) fs).1 ((dP (s.gI (bu p) fs) fs).2.iS (dP (s.gI (bu p) fs) fs).1 (dP (s.gI (bu p) fs) fs).1))
noncomputable def bg.recv(st:bg)(p:List Int):Int×Int×bg:=
 match st with
 |.bh s=>s.recv p
 |.shut _ _=>(9,-1,st)
def qh(h:p<0\/4<=p):eZ 0 p=2:=by unfold eZ;rw[aE Γ,aH h]
def qi(h:p≠0):eZ p q=9:=by unfold eZ;rw[aH h]
def O7(w:D)(xb sb:Nat)(st:bg)(A:Nat->Prop)(n:Nat)(h:dp w xb sb st A)(i:ix n st)(k:Int)(a:Option Addr)(m c:Nat)(l:List Int)(q:bD w a m c l):
 Calls prog 92 #[π (E ⟨xb,0,N⟩),I X k,Y a m c] w λe b=>e=ξ (τ #[I X (st.write k l).1,cF (st.write k l).2.1])/\fm w.heap.size w xb sb A (st.write k l).2.2 b:=by
 refine OF w xb sb h.cell k _ _ (λe b r=>⟨_,_,r.1⟩) ?_;cases st with
 |bh s=>
  let⟨t,v,H,u⟩:=h.side
  unfold bg.write;by_cases d:k<0\/4<=k;simp only[aH d]
  refine(CP w sb 0 k _ H.lg (by rw[qh d];decide)).mono ?_;rintro e b⟨rfl,g⟩;rw[qh d];exact⟨Q,h.to g⟩
  simp only[aE d]
  have j:k.toNat<4:=O;have x:((k.toNat:Nat):Int)=k:=O;have p:=i.out _ j;have f:=i.qg _ j;have y:=i.av;apply(x▸Kb w 0 sb t v s H _ j a m c l q p.nice ⟨f,O⟩ p.en).mono;rintro e b⟨rfl,T⟩;exact⟨Q,h.pJ H u T⟩
 |shut aI z=>
  obtain⟨f,last,B,H,-,-⟩:=h.side;refine(CP w sb _ k _ H.dS (by rw[qi f];decide)).mono ?_;rintro e b⟨rfl,g⟩;rw[qi f];exact⟨Q,h.to g⟩
def O8(w:D)(xb sb:Nat)(st:bg)(A:Nat->Prop)(h:dp w xb sb st A)(k:Int):
 Calls prog 93 #[π (E ⟨xb,0,N⟩),I X k] w λe a=>e=ξ (cF (st.finish k).1)/\fm w.heap.size w xb sb A (st.finish k).2 a:=by
 refine OG w xb sb h.cell k _ (λe a d=>⟨_,d.1⟩) ?_;cases st with
 |bh s=>
  let⟨f,v,H,i⟩:=h.side
  unfold bg.finish;by_cases b:k<0\/4<=k;simp only[aH b]
  refine(CQ w sb 0 k H.lg (by rw[qh b];decide)).mono ?_;rintro e a⟨rfl,g⟩;rw[qh b];exact⟨Q,h.to g⟩
  simp only[aE b]
  have j:((k.toNat:Nat):Int)=k:=O;apply(j▸Kc w 0 sb f v s H k.toNat O).mono;rintro e a⟨rfl,T⟩;exact⟨Q,h.pJ H i T⟩
 |shut aI l=>
  obtain⟨c,last,m,H,-,-⟩:=h.side;refine(CQ w sb _ k H.dS (by rw[qi c];decide)).mono ?_;rintro e a⟨rfl,g⟩;rw[qi c];exact⟨Q,h.to g⟩
def O9(w:D)(xb sb:Nat)(st:bg)(A:Nat->Prop)(h:dp w xb sb st A)(k code:Int)(d:aZ code):
 Calls prog 94 #[π (E ⟨xb,0,N⟩),I X k,I U code] w λe a=>e=ξ (cF (st.giveUp k code).1)/\fm w.heap.size w xb sb A (st.giveUp k code).2 a:=by
 refine OH w xb sb h.cell k _ _ (λe a f=>⟨_,f.1⟩) ?_;cases st with
 |bh s=>
  let⟨i,v,H,j⟩:=h.side
  unfold bg.giveUp;by_cases b:k<0\/4<=k;simp only[aH b]
  refine(CR w sb 0 k _ H.lg (by rw[qh b];decide)).mono ?_;rintro e a⟨rfl,g⟩;rw[qh b];exact⟨Q,h.to g⟩
  simp only[aE b]
  have l:((k.toNat:Nat):Int)=k:=O;apply(l▸Kd w 0 sb i v s H k.toNat O code d).mono;rintro e a⟨rfl,T⟩;exact⟨Q,h.pJ H j T⟩
 |shut aI m=>
  obtain⟨c,last,n,H,-,-⟩:=h.side;refine(CR w sb _ k _ H.dS (by rw[qi c];decide)).mono ?_;rintro e a⟨rfl,g⟩;rw[qi c];exact⟨Q,h.to g⟩
def Pb(w:D)(xb sb:Nat)(st:bg)(A:Nat->Prop)(n:Nat)(h:dp w xb sb st A)(i:ix n st)(k:Int):
 Calls prog 101 #[π (E ⟨xb,0,N⟩),I X k] w λe a=>e=ξ (τ #[I X (st.af k).1,cF (st.af k).2])/\G w a N:=by
 refine OI w xb sb h.cell k _ (λe a j=>⟨_,_,j.1⟩) ?_;cases st with
 |bh s=>
  let⟨l,v,H,q⟩:=h.side
  unfold bg.af;by_cases b:k<0\/4<=k;simp only[aH b]
  refine(CS w sb 0 k H.lg (by rw[qh b];decide)).mono ?_;rintro e a⟨rfl,g⟩;rw[qh b];grind;simp only[aE b]
  have c:k.toNat<4:=O;have m:((k.toNat:Nat):Int)=k:=O;have d:=i.out _ c;have p:=d.en;unfold Ot.en at p;apply(m▸Ke w 0 sb l v s H _ c ⟨d.fr,O⟩).mono;rintro e a⟨rfl,T⟩;exact⟨Q,T⟩
 |shut aI r=>
  obtain⟨f,last,t,H,-,-⟩:=h.side;refine(CS w sb _ k H.dS (by rw[qi f];decide)).mono ?_;rintro e a⟨rfl,g⟩;rw[qi f];exact⟨Q,g⟩
def Pd(w:D)(xb sb:Nat)(st:bg)(A:Nat->Prop)(n:Nat)(h:dp w xb sb st A)(a:ix n st)(k:n<=100000):
 Calls prog 95 #[π (E ⟨xb,0,N⟩)] w λe b=>e=ξ (τ #[])/\fm w.heap.size w xb sb A st.tick b:=by
 apply OJ w xb sb h.cell _ (λe b c=>c.1);cases st with
 |bh s=>
  let⟨d,v,H,f⟩:=h.side
  have l:=a.fl;have m:=a.ll;have p:=a.tick;refine(Kg w 0 sb d v s H ⟨O,O⟩ O (λx i=>by have:=a.ft x i;omega) (by have:=a.wait;omega)).mono ?_;rintro e b⟨rfl,T⟩;exact⟨Q,h.pJ H f T⟩
 |shut aI q=>
  obtain⟨j,last,r,H,-,-⟩:=h.side;apply(Kh w sb aI H.dS j).mono;rintro e b⟨rfl,g⟩;exact⟨Q,h.to g⟩
def Pe(w:D)(xb sb:Nat)(st:bg)(A:Nat->Prop)(n:Nat)(h:dp w xb sb st A)(c:ix n st)(m:n<=100000)(code:Int)(d:aZ code):
 Calls prog 100 #[π (E ⟨xb,0,N⟩),I U code] w λe a=>e=ξ (cF (st.close code).1)/\fm w.heap.size w xb sb A (st.close code).2 a:=by
 refine ON w xb sb h.cell _ _ (λe a f=>⟨_,f.1⟩) ?_;cases st with
 |bh s=>
  let⟨i,v,H,j⟩:=h.side
  unfold bg.close;by_cases b:4611686018427387903<code;simp only[aH b]
  apply(Nn w sb code H.lg b).mono;rintro e a⟨rfl,g⟩;exact⟨Q,h.to g⟩
  simp only[aE b]
  have k:=c.aQ;apply(No w 0 sb i v s H c.key ⟨k.1,O⟩ _ ⟨d.1,O⟩).mono;rintro e a⟨rfl,T⟩;exact⟨Q,h.close H j Θ T⟩
 |shut aI p=>
  obtain⟨l,last,q,H,-,-⟩:=h.side;apply(Nm w sb aI code H.dS l).mono;rintro e a⟨rfl,g⟩;exact⟨Q,h.to g⟩
def Pf(w:D)(xb sb:Nat)(st:bg)(A:Nat->Prop)(h:dp w xb sb st A):
 Calls prog 62 #[π (E ⟨xb,0,N⟩)] w λe a=>e=ξ (cF st.aI)/\G w a N:=by
 refine OO w xb sb h.cell _ (λe a b=>⟨_,b.1⟩) ?_;cases st with
 |bh s=>
  let⟨c,v,H,d⟩:=h.side
  exact EZ w sb 0 H.lg
 |shut aI f=>
  obtain⟨g,last,i,H,-,-⟩:=h.side;exact EZ w sb aI H.dS
def AN(w:D)(az av:Int)(key:List Int)(f:Bool)(bad:υ)(b:υ->υ)(e:Ending)(a:D):Prop:=
 G w a N/\((¬iI az av/\e=ξ bad)\/(iI az av/\∃xb sb A,e=ξ (b (π (E ⟨xb,0,N⟩)))/\(∀k,A k->w.heap.size<=k)/\dp a xb sb (.bh (Sd.new az av key f)) A))
def Po(w:D)(az av:Int)(key:List Int)(d:cI key)(f:Bool)(L:0<w.heap.size):
 Calls prog 34 #[ε #[I X az,I X av],ε (bY key),β f] w (AN w az av key f (τ #[π N,cF 1]) (λv=>τ #[v,.nilIface])):=by
 refine fL λR p=>?_
 replace p:=J p;have t:=ly d;obtain⟨b,j⟩:=í ((w.alloc (ο #[I X az,I X av] 28)).alloc (ο (bY key) 24));have u:G w b N:=by rw[j];exact aq (aC _ _ _) (aC _ _ _)
 have l:b.heap[w.heap.size]?=E (ο #[I X az,I X av] 28 (0,0)):=by rw[j];exact bp (aM _ _) (aC _ _ _)
 have m:b.heap[w.heap.size+1]?=E (ο (bY key) 24 (0,0)):=by
  have:=aM (w.alloc (ο #[I X az,I X av] 28)) (ο (bY key) 24);rw[dJ]at this;rw[j];exact this
 have c0:κ b ⟨w.heap.size,0,N⟩=E (I X az):=by simp[κ,l]
 have c1:κ b ⟨w.heap.size,1,N⟩=E (I X av):=by simp[κ,l]
 have M:prog.cellsOf 24=16:=Φ;by_cases h:iI az av
 .have q:=J (OD b _ _ _ d f h);have r:=J (λ(a:D)(sb:Nat)(g:G b a N)(hs:b.heap.size<=sb)(s:a.heap[sb]?=E (ο (iw az av (bv key) f 4 0 (Y N 0 0)).toArray 241 (0,0)))=>(show R (ξ (τ #[π (E ⟨a.heap.size,0,N⟩),.nilIface])) (a.alloc (ο #[π (E ⟨sb,0,N⟩)] 173)) by
   rw[Z p];have A:=aC a (ο #[π (E ⟨sb,0,N⟩)] 173) N;have P:=u.size;have S:=g.size;have fj:=(aV.1 s).1;have T:(a.alloc (ο #[π (E ⟨sb,0,N⟩)] 173)).heap.size=a.heap.size+1:=dJ _ _;have B:∀k,bn sb aY.new k->k=sb:=λk d=>by
    obtain(C|⟨i,-,e⟩)|⟨i,y,n,c,-,e,-⟩|⟨x,F,-⟩:=d
    exact C;cases e;cases e;cases F
   refine⟨aq u (aq g A),ψ ⟨h,a.heap.size,sb,λk=>k=a.heap.size\/k=sb,Q,λk d=>O,⟨aM _ _,⟨_,aY.new,OE d (bp s A) (mP _),λk d=>?_⟩,φ Q,λk d=>O,λe=>O⟩⟩⟩
   rw[B k d];exact⟨ψ Q,O⟩))
  generalize bY key=K at *;replace⟨l,m⟩:=aT l m;go_enter func34,ntmps34;go_upto_region 1 with fail;rw[<-j];clear j;go_wp2_with (refine lK _ Ξ Ξ _ Ξ K ?_ t ?_;exact Z m);apply(Z q).mono;rintro e a⟨sb,rfl,hs,s,z⟩;have H:=J (Z r a sb z hs s);go_wp2_with fail;exact Z H
 have q:=J (OA b _ _ _ t f h);have r:=J (λ(a:D)(g:G b a N)=>(show R (ξ (τ #[π N,cF 1])) a by
  rw[Z p];exact⟨aq u g,φ ⟨h,Q⟩⟩))
 rw[show cF 1=.iface 34 (I X 1)from rfl]at q r;generalize bY key=K at *;replace⟨l,m⟩:=aT l m;go_enter func34,ntmps34;go_upto_region 1 with fail;rw[<-j];clear j;go_wp2_with (refine lK _ Ξ Ξ _ Ξ K ?_ t ?_;exact Z m);apply(Z q).mono;rintro e a⟨rfl,z⟩;go_wp2_with fail;exact Z (J (Z r a z))
def Pp(w:D)(az av:Int)(key:List Int)(h:cI key)(f:Bool)(q:Laid w):
 Calls prog 12 #[ε #[I X az,I X av],ε (bY key),β f] w (AN w az av key f (τ #[π N,I X 1]) (λv=>τ #[v,I X 0])):=by
 refine fL λR i=>?_
 replace i:=J i;have u:=ly h;obtain⟨a,b⟩:=í ((w.alloc (ο #[I X az,I X av] 28)).alloc (ο (bY key) 24));have c:G w a N:=by rw[b];exact aq (aC _ _ _) (aC _ _ _)
 have r:a.heap[w.heap.size]?=E (ο #[I X az,I X av] 28 (0,0)):=by rw[b];exact bp (aM _ _) (aC _ _ _)
 have l:a.heap[w.heap.size+1]?=E (ο (bY key) 24 (0,0)):=by
  have:=aM (w.alloc (ο #[I X az,I X av] 28)) (ο (bY key) 24);rw[dJ]at this;rw[b];exact this
 have c0:κ a ⟨w.heap.size,0,N⟩=E (I X az):=by simp[κ,r]
 have c1:κ a ⟨w.heap.size,1,N⟩=E (I X av):=by simp[κ,r]
 have s:=J (Po a az av _ h f (bX q.lt c.size));have t:=J (λ(d:D)(g:G w d N)=>Fv 1 d (q.gb g));rw[show cF 1=.iface 34 (I X 1)from rfl]at s t;generalize bY key=K at *;replace l:=J l;go_enter func12,ntmps12;go_upto_region 1 with fail;rw[<-b];clear b;go_wp2_with (refine lK _ Ξ Ξ _ Ξ K ?_ u ?_;exact Z l);apply(Z s).mono;rintro e d⟨m,⟨x,rfl⟩|⟨y,xb,sb,A,rfl,z,B⟩⟩
 .go_wp2_with fail;apply(Z t _ (aq c m)).mono;rintro e n⟨rfl,j⟩;have p:Hid (R (ξ (τ #[π N,I X 1])) n):=J (by rw[Z i];exact⟨aq c (aq m j),φ ⟨x,Q⟩⟩);go_wp2_with fail;exact Z p
 go_wp2_with fail;apply(Z (J (λ(d:D)=>EV d)) _).mono;rintro e n⟨rfl,j⟩;have p:Hid (R (ξ (τ #[π (E ⟨xb,0,N⟩),I X 0])) n):=J (by rw[Z i];exact⟨aq c (aq m j),ψ ⟨y,xb,sb,A,Q,λk h=>bG c.size (z k h),B.ag j⟩⟩);go_wp2_with fail;exact Z p
def Pq(w:D)(xb sb:Nat)(st:bg)(A:Nat->Prop)(h:dp w xb sb st A)(a:Laid w):
 Calls prog 30 #[π (E ⟨xb,0,N⟩)] w λe d=>e=ξ (I X st.aI)/\G w d N:=by
 generalize cF st.aI=i at *;replace⟨a,h⟩:=aT a h;go_enter func30,ntmps30;go_wp2_with fail;apply(Z (J (Pf w xb sb st A h))).mono;rintro e j⟨rfl,b⟩;go_wp2_with fail;apply(Z (J (λ(c:D)(g:G w c N)=>Fv st.aI c (a.gb g))) _ b).mono;rintro e k⟨rfl,f⟩;go_wp2;go_ret;exact⟨Q,aq b f⟩
def QM(h:bk s)(b:∀r∈s,p<=r.lo/\r.hi<=t):s=[]\/(s.length:Int)<=t-p:=by
 induction s generalizing p with
 |nil=>exact φ Q
 |cons r s c=>
  right;have d:=h.2 r Γ;obtain e|e:=c (p:=r.hi) h.tail (λq a=>⟨by have:=(qW.1 h.1).1 q a;omega,(b q (by simp[a])).2⟩)
  grind;grind
structure fZ(z:cg):Prop where
 ok:bk z.sp
 bd:∀r∈z.l,0<=r.lo/\r.hi<4096
 fl:z.floor=0
 mo:z.aJ=1073741824
def fZ.len{z:cg}(h:fZ z):z.l.length<=4096:=by
 have:=QM (p:=0) (t:=4096) h.ok (λr c=>by
  obtain⟨q,d,rfl⟩:=fu.1 c;have:=h.bd q d;simp only[dj]
  omega)
 have e:z.sp.length=z.l.length:=by unfold cg.sp;rw[fF]
 grind
def fZ.yL{z:cg}(h:fZ z):z.ok:=by
 refine⟨λr a=>?_,by rw[h.fl];unfold dQ;omega,by have:=h.len;omega,by rw[h.mo];omega⟩
 have c:=h.bd r a;have b:=h.ok.2 _ (fu.2 ⟨r,a,Q⟩);simp only[dj]at b;unfold dQ;omega
def fZ.new:fZ ⟨[],0,1073741824⟩:=⟨bk.nil,λr a=>(by cases a),Q,Q⟩
def fZ.F9{z:cg}(h:fZ z)(c:0<=p)(b:p<=q)(d:q<4096):z.add p q={z with l:=(nT p q z.l).end_}/\(z.add p q).sp=eu z.sp ⟨p,q+1⟩:=by
 have e1:max p z.floor=p:=by rw[h.fl];omega
 have e2:=Bb (s:=z.l) b h.ok;have e:(nT p q z.l).end_.length<=z.l.length+1:=by
  have:=xF (z.l.map dj) ⟨p,q+1⟩;grind
 have a:z.add p q={z with l:=(nT p q z.l).end_}:=by
  unfold cg.add cg.put;rw[e1,ê,aE (by rw[h.mo];have:=h.len;omega)]
 exact⟨a,by rw[a];exact e2⟩
def fZ.add{z:cg}(h:fZ z)(f:0<=p)(g:p<=t)(i:t<4096):fZ (z.add p t):=by
 let⟨e1,e2⟩:=h.F9 f g i
 refine⟨by rw[e2];exact oD _ h.ok,λr j=>?_,by rw[e1];exact h.fl,by rw[e1];exact h.mo⟩
 have a:dj r∈(z.add p t).sp:=fu.2 ⟨r,j,Q⟩;have k:bk (z.add p t).sp:=by rw[e2];exact oD _ h.ok
 have hp:=k.2 _ a;have b:∀n,Sm (z.add p t).sp n->0<=n/\n<4096:=λn c=>by
  rw[e2,kJ _ h.ok]at c;obtain⟨q,l,d,e⟩|⟨d,e⟩:=c
  obtain⟨m,s,rfl⟩:=fu.1 l;have:=h.bd m s;simp only[dj]at d e;omega;grind
 simp only[dj]at hp;have u:=b r.lo ⟨_,a,by simp only[dj];omega,by simp only[dj];omega⟩;have v:=b r.hi ⟨_,a,by simp only[dj];omega,by simp only[dj];omega⟩;omega
def jl(o:Nat->dH)(f:Fr):Nat->dH:=if f.kind=5/\0<f.data.size then aB o f.stream.toNat {o f.stream.toNat with af:=(o f.stream.toNat).af.add f.offset (f.offset+f.data.size-1)}else o
def jm(l:List Rg)(o:Nat->dH)(x:Int×List Fr):Nat->dH:=if bK l x.1 then x.2.foldl jl o else o
def ah.lE(s:ah)(l:List Rg):ah:={s with outs:=s.ay.foldl (jm l) s.outs}
def pL(f:Fr):Prop:=f.kind=5->0<f.data.size->0<=f.stream/\f.stream<4/\0<=f.offset/\f.offset+f.data.size<=4096
def yM(s:ah):Prop:=∀x∈s.ay,∀f∈x.2,pL f
def Bd{o:Nat->dH}(h:∀k,k<4->fZ (o k).af)(b:pL u):∀k,k<4->fZ (jl o u k).af:=by
 intro k d;unfold jl;split;rename_i a;let⟨e,f,c,g⟩:=b a.1 a.2
 unfold aB;split;exact(h _ O).add c O O;grind;grind
def QN{q:List Fr}(a:∀f∈q,pL f){o:Nat->dH}(h:∀k,k<4->fZ (o k).af):∀k,k<4->fZ (q.foldl jl o k).af:=by
 induction q generalizing o with
 |nil=>exact h
 |cons f q b=>
  rw[pd];exact b (λg c=>a g (by simp[c])) (Bd h (a f Γ))
def Ga{x:Int×List Fr}(a:∀f∈x.2,pL f){o:Nat->dH}(h:∀k,k<4->fZ (o k).af):∀k,k<4->fZ (jm s o x k).af:=by
 unfold jm;split;exact QN a h;exact h
def bV.QO{l:cz}(h:bV w i l f S)(u:k<4){z:cg}(T:rK w W (l.cb k) (l.vc k) z):
 ∃M H,bV W i M {f with outs:=aB f.outs k {f.outs k with af:=z}} H/\(∀j,H j->S j\/w.heap.size<=j)/\aj w W (λj=>j=l.cb k):=by
 let⟨x,K,g,L⟩:=T
 have C:=(aj.of g).mono (λj _ e=>(aR e).symm);have tk:=(h.outs.af k u).ty;have s:∀q:List TypeId,135∉q->fO w (λj=>j=l.cb k) q:=λq P=>fO.one tk P
 have B:∀b v y,fg w b v y->b≠l.cb k->fg W b v y:=λb v y R V=>R.aA C V (λj e=>s [200] Θ j e _ Γ)
 have p:=h.ins.frame C (s _ Θ);have ai:=h.due.frame C (s _ Θ);have F:=h.ay.frame C (s _ Θ);refine⟨{l with vc:=aB l.vc k x},λj=>S j\/(∃y n c,x=Y (E y) n c/\y.block=j),⟨?_,h.key,⟨?_,?_,h.outs.co,?_,?_,h.outs.od,h.outs.cd⟩,⟨?_,?_,h.cq.ne,h.cq.nc⟩,⟨p.row,p.kz,p.ci,p.aF,p.data,p.there,p.id,p.dd,p.td⟩,ai,⟨F.row,F.len,F.fr⟩,?_,?_,?_⟩,?_,C⟩
 exact(C.block i (h.lt _ h.bn.m) (λe=>by
  have:Ty w i 107:=⟨_,_,h.aG⟩
  exact s [107] Θ i e _ Γ this)).trans h.aG
 exact λj d=>(iB (C.block _ h.outs.gK.lt (λe=>s [108] Θ _ e _ Γ h.outs.gK))).trans (h.outs.row j d)
 exact h.outs.gK.aA C (λe=>s [108] Θ _ e _ Γ h.outs.gK);intro j d;have e:=(C.block _ (aV.1 (h.outs.out j d)).1 (λe=>s [110] Θ _ e _ Γ ⟨_,_,h.outs.out j d⟩)).trans (h.outs.out j d);by_cases r:j=k;subst r;simp only[bN]
 exact e;simp only[bI _ _ r]
 exact e;intro j d;by_cases r:j=k;subst r;simp only[bN]
 exact K;simp only[bI _ _ r]
 exact B _ _ _ (h.outs.af j d) (h.outs.cd j k d u r);exact B _ _ _ h.cq.aX (λe=>(h.cq.nc k u).1 e.symm);exact B _ _ _ h.cq.aU (λe=>(h.cq.nc k u).2 e.symm);have t:∀v,gL S v->gL (λj=>S j\/(∃y n c,x=Y (E y) n c/\y.block=j)) v:=λv hv y n c e=>φ (hv y n c e)
 have A:=h.bn;refine⟨φ A.m,⟨φ A.aX.1,t _ A.aX.2⟩,⟨φ A.aU.1,t _ A.aU.2⟩,φ A.ro,φ A.ri,λj d=>⟨φ (A.out j d).1,φ (A.out j d).2.1,?_⟩,λj d=>⟨φ (A.aF j d).1,t _ (A.aF j d).2.1,t _ (A.aF j d).2.2⟩,t _ A.due,t _ A.ay.1,λy hy=>t _ (A.ay.2 y hy)⟩
 by_cases r:j=k;subst r;simp only[bN]
 exact λy n c e=>ψ ⟨y,n,c,e,Q⟩
 simp only[bI _ _ r]
 exact t _ (A.out j d).2.2;rintro j(d|⟨y,n,c,e,rfl⟩);exact bX (h.lt j d) C.size;obtain⟨a,n',c',e',-,h5⟩:=K.row;rw[e']at e;cases e;exact(h5 y Q).lt;rintro(h0|⟨y,n,c,e,h0⟩);exact h.n0 h0;obtain e2|e2:=L
 exact h.n0 (h0▸(h.bn.out k u).2.2 y n c (by rw[<-e2,e]));have:=e2 y n c e;have:=h.lt _ h.bn.m;omega;rintro j(d|⟨y,n,c,e,rfl⟩);exact φ d;obtain e2|e2:=L
 exact φ ((h.bn.out k u).2.2 y n c (by rw[<-e2,e]));exact ψ (e2 y n c e)
def mH(s:ah)(j:Nat):Int×List Fr:=s.ay.getD j (0,[])
def Gb(h:j<f.ay.length):f.ay[j]?=E (mH f j):=by unfold mH;simp[List.getD,dB h]
def QP(h:j<f.ay.length):mH f j∈f.ay:=uK (Gb h)
def jn(l:List Fr)(j:Nat):Fr:=l.getD j ⟨0,0,0,0,θ,⟨#[]⟩,[]⟩
def sF{l:List Fr}(h:j<l.length):l[j]?=E (jn l j):=by unfold jn;simp[List.getD,dB h]
def yN{l:List Fr}(h:j<l.length):jn l j∈l:=uK (sF h)
def QQ{aw:List (υ×List cX)}{n:List (Int×List Fr)}(hl:aw.length=n.length){x:Int×List Fr}{y:υ×List cX}(c:n[j]?=E x)(d:aw[j]?=E y):(ql aw n)[j*2]?=E (I U x.1)/\(ql aw n)[j*2+1]?=E y.1:=by
 induction n generalizing aw j with
 |nil=>simp at c
 |cons a n f=>
  cases aw with
  |nil=>simp at d
  |cons b aw=>
   have e:ql (b::aw) (a::n)=[I U a.1,b.1]++ql aw n:=by simp[ql]
   rw[e];cases j with
   |zero=>simp at c d;subst c;subst d;exact⟨Q,Q⟩
   |succ j=>
    grind
def um.at{s:ah}{l:cz}(h:um w s l)(k:j<s.ay.length):
 ∃g c d e b,l.oM=Y (E ⟨g,0,N⟩) s.ay.length c/\s.ay.length<=c/\c<=maxLen/\κ w ⟨g,j*2,N⟩=E (I U (mH s j).1)/\κ w ⟨g,j*2+1,N⟩=E (Y d (mH s j).2.length e)/\(mH s j).2.length<=e/\e<=maxLen/\(0<(mH s j).2.length->d=E ⟨b,0,N⟩)/\∀q,q<(mH s j).2.length->∃ra f rc,w.rangeAt b (0+q*7) (iN (jn (mH s j).2 q) (Y ra f rc)):=by
 have m:=Gb k;have z:j<l.aw.length:=by rw[h.len];exact k
 obtain⟨y,n⟩:∃y,l.aw[j]?=E y:=⟨_,dB z⟩
 let⟨e1,e2,A⟩:=h.fr j _ y m n
 let⟨c1,c2⟩:=QQ h.len m n
 let⟨a,c,d1,d2,d3,d4,d5⟩:=ns h.row
 cases a with
 |none=>have:=(d4 Q).1;omega
 |some ad=>
  let⟨d6,d7⟩:=d5 ad Q
  let⟨d,e,f1,f2,f3,f4,f5⟩:=ns e2
  have el:(mH s j).2.length=y.2.length:=by grind
  have p:=d7 _ _ c1;have r:=d7 _ _ c2;rw[eM]at p r;have C:∀b,d=E ⟨b,0,N⟩->∀q,q<(mH s j).2.length->∃ra f rc,w.rangeAt b (0+q*7) (iN (jn (mH s j).2 q) (Y ra f rc)):=λb ef q t=>by
   subst ef;obtain⟨-,f7⟩:=f5 _ Q;have u:q<y.2.length:=O;let⟨ra,f,rc,B⟩:=A _ (tt u)
   refine⟨ra,f,rc,λi v x=>?_⟩
   have eq:jn (mH s j).2 q=(y.2[q]).1:=by
    have:=sF t;grind
   rw[eq,<-B]at x;have:=f7 _ _ (AF y.2 q u i v x);grind
  rw[d6]at d1;cases d with
  |none=>exact⟨_,c,_,e,0,d1,d2,d3,p,by rw[r,f1,el],by rw[el];exact f2,f3,λhp=>by have:=(f4 Q).1;omega,λq t=>by have:=(f4 Q).1;omega⟩
  |some fd=>
   grind
structure jA(w:D)(mb:Nat)(B:Nat->Prop)(s:ah)(o:Nat->dH)(wr:D):Prop where
 at_:∃b a,bV wr mb b {s with outs:=o} a/\(∀k,a k->B k\/w.heap.size<=k)
 aA:aj w wr (λk=>B k/\Ty w k 135)
 ok:∀k,k<4->fZ (o k).af
def jA.gb{w:D}{o:Nat->dH}(h:jA w n S f o W)(g:G W v N):jA w n S f o v:=by
 let⟨a,b,H,c⟩:=h.at_
 exact⟨⟨a,b,H.ag g,c⟩,(h.aA.trans (aj.of g)).mono (λk _ e=>e.elim id (nofun)),h.ok⟩
def jA.add{s:ah}{a:cz}{o:Nat->dH}(h:jA w n S s o W)(H:bV W n a {s with outs:=o} P)(l:∀k,P k->S k\/w.heap.size<=k)(b:u.kind=5/\0<u.data.size)(f:pL u)(A:u.stream=(k:Int))(T:rK W v (a.cb k) (a.vc k) ((o k).af.add u.offset (u.offset+u.data.size-1))):jA w n S s (jl o u) v:=by
 let⟨B,C,F,K⟩:=f b.1 b.2
 have c:k<4:=O;let⟨m,p,q,r,t⟩:=H.QO c T
 have x:u.stream.toNat=k:=O;have e:jl o u=aB o k {o k with af:=(o k).af.add u.offset (u.offset+u.data.size-1)}:=by unfold jl;rw[aH b,x]
 refine⟨⟨m,p,by rw[e];exact q,λj d=>?_⟩,(h.aA.trans t).mono (λj d e2=>?_),Bd h.ok f⟩
 obtain e2|e2:=r j d
 simp_all;exact ψ (bG h.aA.size e2);obtain e2|e2:=e2
 exact e2;subst e2;have y:=(l _ (H.bn.out k c).2.1).elim id (λe=>O);refine⟨y,?_⟩
 have t1:=(H.outs.af k c).ty;by_cases g:Ty w (a.cb k) 135;exact g;let⟨z,fr,i⟩:=t1
 rw[h.aA.block _ d (λe=>g e.2)]at i;exact⟨z,fr,i⟩
def Gc(h:k<s.length):bK (s.take (k+1)) p=(bK (s.take k) p||(decide ((an s k).lo<=p)&&decide (p<=(an s k).hi))):=by
 unfold bK;rw[oa h,List.any_append];simp[an,List.getD,h]
def yO{α β:Type}(f:β->α->β)(b:β)(l:List α)(j:Nat)(d:α)(h:j<l.length):(l.take (j+1)).foldl f b=f ((l.take j).foldl f b) (l.getD j d):=by
 rw[oa h,wU];grind
def QR(w:D)(mb:Nat)(l:cz)(s:ah)(B:Nat->Prop)(H:bV w mb l s B)(a:Option Addr)(n c:Nat)(rl:List Rg)(hr:bq w a n c rl)(bb:rl≠[]->∀y,a=E y->¬B y.block/\y.block<w.heap.size)(hs:yM s)(hc:∀k,k<4->fZ (s.outs k).af)(fj:s.ay.length<=100000000):
 Calls prog 119 #[π (E ⟨mb,0,N⟩),Y a n c] w λe w'=>e=ξ (τ #[])/\jA w mb B s (s.ay.foldl (jm rl) s.outs) w':=by
 refine js λR hR=>?_
 replace hR:=J hR;have b8:Hid (jA w mb B s s.outs w):=J ⟨⟨l,B,H,λk hk=>φ hk⟩,(aj.of (au w N)).mono (λk _ e=>by cases e),hc⟩;clear H hc;have da:=J (λwr o(u:jA w mb B s o wr)=>(show bq wr a n c rl from hr.dR (λca y ey=>u.aA.block _ (bb ca y ey).2 (λe=>(bb ca y ey).1 e.1))));have hn:=hr.2.1;have dn:=hr.2.2.1;have db:=hr.2.2.2.1;unfold maxLen at db;obtain⟨S,A⟩:=í s.ay.length;replace⟨hn,hr⟩:=aT hn hr;clear bb;have du:S<=100000000:=by rw[A];exact fj
 replace⟨A,hs⟩:=aT A hs;clear fj;go_enter func119,ntmps119;go_upto_region 1 with fail;go_loopg [4] (S+1) (λg v4 wr=>∃j:Nat,j<=S/\v4=I X j/\g=S+1-j/\jA w mb B s ((s.ay.take j).foldl (jm rl) s.outs) wr);case atStart=>exact⟨0,O,Q,O,Z b8⟩
 case round=>
  clear b8;obtain⟨j,hj,rfl,rfl,u⟩:=hrel;obtain⟨o,ho⟩:=í ((s.ay.take j).foldl (jm rl) s.outs);rw[<-ho]at u;obtain⟨d,B1,h,ax⟩:=u.at_;have a1:=h.mc.ay;by_cases dc:j<S
  .have a2:j<s.ay.length:=by rw[<-Z A];exact dc
   have bj:Hid ((s.ay.take (j+1)).foldl (jm rl) s.outs=jm rl o (mH s j)):=J (by rw[ho];exact yO _ _ _ _ _ a2);replace ho:=J ho;obtain⟨g,V,fa,C,i,d1,d2,d3,d4,d5,d6,d7,d8,d9⟩:=h.ay.at (s:={s with outs:=o}) a2;simp only at d1 d2;rw[<-Z A]at d1 d2;rw[d1]at a1;unfold maxLen at d3;have j0:(0:Int)<=j:=O;have j1:(j:Int)<S:=O;clear h ax d1 d4 d5 d6 d7 d8 d9 d B1 fa C i;obtain⟨x,hx⟩:=í (mH s j);have de:Hid (∀f∈x.2,pL f):=J (by rw[hx];exact Z hs _ (QP a2));have a3:=J (λ(o:Nat->dH)(wr:D)(u:jA w mb B s o wr)=>(show∃(g V:Nat)(fa:Option Addr)(C i:Nat),κ wr ⟨mb,28,N⟩=E (Y (E ⟨g,0,N⟩) S V)/\S<=V/\V<=9223372036854775807/\κ wr ⟨g,j*2,N⟩=E (I U x.1)/\κ wr ⟨g,j*2+1,N⟩=E (Y fa x.2.length C)/\x.2.length<=C/\C<=9223372036854775807/\(0<x.2.length->fa=E ⟨i,0,N⟩)/\∀q,q<x.2.length->∃ra rn rc,wr.rangeAt i (0+q*7) (iN (jn x.2 q) (Y ra rn rc)) by
    obtain⟨d,B1,h,ax⟩:=u.at_;obtain⟨g,V,fa,C,i,d1,d2,d3,d4,d5,d6,d7,d8,d9⟩:=h.ay.at (s:={s with outs:=o}) a2;have m:=h.mc.ay;simp only at d1 d2;rw[d1,<-Z A]at m;rw[<-Z A]at d2;rw[hx];exact⟨g,V,fa,C,i,m,d2,by simpa [maxLen]using d3,d4,d5,d6,by simpa [maxLen]using d7,d8,d9⟩))
   rw[<-hx]at bj;clear hx a2;replace u:=J u;go_upto_region 5 with fail;go_loopg [5,6] (n+1) (λg v5 v6 wr=>∃q:Nat,q<=n/\v6=I X q/\v5=β (bK (rl.take q) x.1)/\g=n+1-q/\jA w mb B s o wr);case atStart=>exact⟨0,O,Q,Q,O,Z u⟩
   case round=>
    clear u a1 d2 d3;obtain⟨q,hq,rfl,rfl,rfl,v⟩:=hrel;rename D=>a4
    by_cases dv:q<n
    .obtain⟨g,V,fa,C,i,a1,d2,d3,d4,-,-,-,-,-⟩:=Z a3 _ _ v;have br:=Z da _ _ v;have bt:q<rl.length:=by have:=Z hn;omega
     obtain⟨b1,o1,rfl,y0,y1⟩:∃b1 o1,a=E ⟨b1,o1,N⟩/\κ a4 ⟨b1,o1+q*2,N⟩=E (I U (an rl q).lo)/\κ a4 ⟨b1,o1+q*2+1,N⟩=E (I U (an rl q).hi):=by
      obtain h0|⟨b1,o1,rfl,-⟩:=br.2.2.2.2
      omega;exact⟨b1,o1,Q,br.cell q bt⟩
     have q0:(0:Int)<=q:=O;have q1:(q:Int)<n:=O;have K:Hid (bK (rl.take (q+1)) x.1=(bK (rl.take q) x.1||(decide ((an rl q).lo<=x.1)&&decide (x.1<=(an rl q).hi)))):=J (Gc bt);have dg:Hid (jA w mb B s o a4.drew):=J (v.gb (aK (au _ _)));obtain⟨b,aa⟩:=í (bK (rl.take q) x.1);obtain⟨jH,bw⟩:=í ((an rl q).lo);obtain⟨bx,bz⟩:=í ((an rl q).hi);obtain⟨num,a8⟩:=í x.1;rw[<-aa,<-bw,<-bz,<-a8]at K;rw[<-aa];rw[<-bw]at y0;rw[<-bz]at y1;rw[<-a8]at d4;clear aa bw bz br bt;replace⟨a8,v⟩:=aT a8 v;have ai:Hid (∀t,bK (rl.take (q+1)) num=t->∃k:Nat,k<=n/\I X ((q:Int)+1)=I X k/\β t=β (bK (rl.take k) x.1)/\n+1-(q+1)=n+1-k/\jA w mb B s o a4.drew):=J (λt ht=>⟨q+1,O,by push_cast;rfl,by rw[<-ht,Z a8],Q,Z dg⟩);cases b with
     |true=>
      have L:=J (Z ai ρ (by rw[Z K];rfl));clear ai K;go_upto_region 7 with fail;go_region;go_wp2;go_roundg (n+1-(q+1));case measure=>omega
      case rel=>exact Z L
     |false=>
      by_cases c1:jH<=num
      .have e1:decide (jH<=num)=ρ:=bU c1;by_cases c2:num<=bx
       .have e2:decide (num<=bx)=ρ:=bU c2;have L:=J (Z ai ρ (by rw[Z K,e1,e2];rfl));clear ai K;go_upto_region 7 with fail;go_region;go_wp2;go_roundg (n+1-(q+1));case measure=>omega
        case rel=>exact Z L
       have e2:decide (num<=bx)=θ:=bT c2;have L:=J (Z ai θ (by rw[Z K,e1,e2];rfl));clear ai K;go_upto_region 7 with fail;go_region;go_wp2;go_roundg (n+1-(q+1));case measure=>omega
       case rel=>exact Z L
      have e1:decide (jH<=num)=θ:=bT c1;have L:=J (Z ai θ (by rw[Z K,e1];rfl));clear ai K;go_upto_region 7 with fail;go_region;go_wp2;go_roundg (n+1-(q+1));case measure=>omega
      case rel=>exact Z L
    obtain rfl:q=n:=O;have bA:bK (rl.take q) x.1=bK rl x.1:=by rw[Z hn,kC]
    rw[bA];obtain M|M:=(oX (bK rl x.1)).symm
    .rw[M];have L:Hid (jA w mb B s ((s.ay.take (j+1)).foldl (jm rl) s.outs) a4):=J (by
      rw[Z bj];unfold jm;rw[M];exact v)
     clear bA;replace⟨M,v⟩:=aT M v;go_wp2;go_roundg (S+1-(j+1));case measure=>omega
     case rel=>exact⟨j+1,O,by go_num,Q,Z L⟩
    rw[M];have dk:Hid ((s.ay.take (j+1)).foldl (jm rl) s.outs=x.2.foldl jl o):=J (by
     rw[Z bj];unfold jm;rw[M];rfl)
    clear bA;replace⟨M,v⟩:=aT M v;obtain⟨F,hF⟩:=í x.2.length;rw[<-hF]at a3;replace hF:=J hF;go_upto_region 10 with fail;go_loopg [7] (F+1) (λg v7 wr=>∃q:Nat,q<=F/\v7=I X q/\g=F+1-q/\jA w mb B s ((x.2.take q).foldl jl o) wr);case atStart=>exact⟨0,O,Q,O,Z v⟩
    case round=>
     clear v;obtain⟨p,hp,rfl,rfl,P⟩:=hrel;rename D=>z
     obtain⟨g,V,fa,C,i,a1,d2,d3,d4,d5,d6,d7,d8,d9⟩:=Z a3 _ _ P;by_cases cc:p<F
     .have bM:p<x.2.length:=by rw[<-Z hF];exact cc
      obtain rfl:=d8 O;obtain⟨ra,rn,rc,b3⟩:=d9 p cc;obtain⟨f,hf⟩:=í (jn x.2 p);have ak:pL f:=by rw[hf];exact Z de _ (yN bM)
      have a9:Hid ((x.2.take (p+1)).foldl jl o=jl ((x.2.take p).foldl jl o) f):=J (by rw[hf];exact yO _ _ _ _ _ bM);obtain⟨op,cf⟩:=í ((x.2.take p).foldl jl o);rw[<-cf]at P a9;rw[<-hf]at b3;clear cf hf d9 d8 bM;have hy:=yB b3;obtain⟨y0,y1,y2,y3,y4,y5,y6⟩:κ z ⟨i,p*7,N⟩=E (I X f.kind)/\κ z ⟨i,p*7+1,N⟩=E (I X f.stream)/\κ z ⟨i,p*7+2,N⟩=E (I U f.offset)/\κ z ⟨i,p*7+3,N⟩=E (I U f.code)/\κ z ⟨i,p*7+4,N⟩=E (β f.fin)/\κ z ⟨i,p*7+5,N⟩=E (ς f.data)/\κ z ⟨i,p*7+6,N⟩=E (Y ra rn rc):=by simpa using hy
      clear hy b3;obtain⟨r,al⟩:=í (z.alloc (ο #[I X f.kind,I X f.stream,I U f.offset,I U f.code,β f.fin,ς f.data,Y ra rn rc] 158));have g1:G z r N:=by rw[al];exact aC _ _ _
      have b4:r.heap[z.heap.size]?=E (ο #[I X f.kind,I X f.stream,I U f.offset,I U f.code,β f.fin,ς f.data,Y ra rn rc] 158 (0,0)):=by rw[al];exact aM _ _
      obtain⟨z0,z1,z2,z3,z4,z5,z6⟩:=bQ b4;have ao:=P.gb g1;have tb:Ty r z.heap.size 158:=⟨_,_,b4⟩
      have p0:(0:Int)<=p:=O;have p1:(p:Int)<F:=O;replace P:=J P;clear b4 a3;by_cases ck:f.kind=5
      .rw[ck]at y0 al z0;by_cases cs:0<f.data.size
       .obtain⟨f1,f2,f3,f4⟩:=ak ck cs;obtain⟨k,hk⟩:∃k:Nat,f.stream=(k:Int):=⟨f.stream.toNat,O⟩
        have a0:k<4:=O;obtain⟨d,B1,h,ax⟩:=ao.at_;have tc:Ty r (d.cb k) 135:=(h.outs.af k a0).ty;have tm:Ty r mb 107:=⟨_,_,h.aG⟩
        have ch:Ty r (d.ob k) 110:=⟨_,_,h.outs.out k a0⟩
        have b5:=pH (sb:=d.cb k) h.mc.outs (tm.ne tc Θ);have r0:=pH (sb:=d.cb k) (h.outs.row k a0) (h.outs.gK.ne tc Θ);have cm:=pH (sb:=d.cb k) (h.oc a0).c1 (ch.ne tc Θ);have cp:=h.outs.co;unfold maxLen at cp;have b6:=J (λW(g:G r W N)=>AZ W (d.cb k) (d.vc k) (op k).af ((h.outs.af k a0).ag g) (ao.ok k a0).yL f.offset (f.offset+f.data.size-1) (by unfold dQ;omega) (by unfold dQ;omega));have b7:=J (λW W2(g:G r W N)(T:rK W W2 (d.cb k) (d.vc k) ((op k).af.add f.offset (f.offset+f.data.size-1)))=>(show jA w mb B s ((x.2.take (p+1)).foldl jl o) W2 by rw[Z a9];exact(ao.gb g).add (h.ag g) ax ⟨ck,cs⟩ ak hk T));replace z1:=pH (sb:=d.cb k) z1 (tb.ne tc Θ);replace z2:=pH (sb:=d.cb k) z2 (tb.ne tc Θ);replace z5:=pH (sb:=d.cb k) z5 (tb.ne tc Θ);obtain⟨cb,ct⟩:=í (d.cb k);obtain⟨vc,cv⟩:=í (d.vc k);obtain⟨ob,cw⟩:=í (d.ob k);obtain⟨ro,cx⟩:=í d.ro;obtain⟨co,cy⟩:=í d.co;rw[<-ct]at z1 z2 z5 b5 r0 cm b6 b7;rw[<-cv]at b6 b7;rw[<-cw]at r0 cm;rw[<-cx]at b5 r0;rw[<-cy]at b5 cp;rw[hk]at z1 y1 al;have i0:(0:Int)<=k:=O;have i1:(k:Int)<4:=O;have w1:U.wrap (f.data.size:Int)=(f.data.size:Int):=by rw[cZ];omega
        have w2:U.wrap (f.offset+(f.data.size:Int))=f.offset+f.data.size:=by rw[cZ];omega
        have w3:U.wrap (f.offset+(f.data.size:Int)-1)=f.offset+f.data.size-1:=by rw[cZ];omega
        have gr:G r r.drew N:=aK (au _ N);clear h ax tc tm ch tb ct cv cw cx cy ao;replace⟨ak,hk⟩:=aT ak hk;have c9:(0:Int)<f.data.size:=O;go_upto_region 14 with fail;rw[<-al];clear al;go_region_held3 (λw'=>G r w' (E cb))
         (with_reducible first|exact dm|exact cK gr _)
         (first|(go_at_call 78;apply(Z b6 _ gr).mono;rintro e w5⟨rfl,hT⟩;have dm:=aq (cK gr (E cb)) hT.choose_spec.2.1;have hE:=J (Z b7 _ _ gr hT);clear hT))
        go_wp2;go_roundg (F+1-(p+1));case measure=>omega
        case rel=>exact⟨p+1,O,by go_num,Q,Z hE⟩
       have c9:¬(0:Int)<(f.data.size:Int):=O;have e1:decide ((f.data.size:Int)>0)=θ:=bT c9;have hE:Hid (jA w mb B s ((x.2.take (p+1)).foldl jl o) r):=J (by rw[Z a9];unfold jl;rw[aE (λe=>cs e.2)];exact ao);clear ao tb;replace ak:=J ak;go_wp2;go_roundg (F+1-(p+1));case measure=>omega
       case rel=>exact⟨p+1,O,by go_num,Q,by rw[<-al];exact Z hE⟩
      have e1:(f.kind==5)=θ:=by simpa using ck
      have hE:Hid (jA w mb B s ((x.2.take (p+1)).foldl jl o) r):=J (by rw[Z a9];unfold jl;rw[aE (λe=>ck e.1)];exact ao);clear ao tb;replace ak:=J ak;go_wp2;go_roundg (F+1-(p+1));case measure=>omega
      case rel=>exact⟨p+1,O,by go_num,Q,by rw[<-al];exact Z hE⟩
     obtain rfl:p=F:=O;have hE:Hid (jA w mb B s ((s.ay.take (j+1)).foldl (jm rl) s.outs) z):=J (by
      have e:x.2.take p=x.2:=by rw[Z hF,kC]
      rw[Z dk];rw[e]at P;exact P)
     clear d8 d9 a3;replace P:=J P;go_wp2;go_roundg (S+1-(j+1));case measure=>omega
     case rel=>exact⟨j+1,O,by go_num,Q,Z hE⟩
  obtain rfl:j=S:=O;have hf:Hid (R wr):=J (by
   have e:(s.ay.take j).foldl (jm rl) s.outs=s.ay.foldl (jm rl) s.outs:=by rw[Z A,kC]
   rw[Z hR,<-e,<-ho];exact u)
  obtain⟨va,vc,d1,d2,d3,d4,d5⟩:=ns h.ay.row;simp only at d1 d2;rw[d1,<-Z A]at a1;rw[<-Z A]at d2;unfold maxLen at d3;clear h ax u ho d4 d5 d1;go_wp2_with fail;exact eP (dV Q _ _ _) Q ⟨Q,Z hf⟩
