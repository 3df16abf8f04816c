import Derived.Test.YtjnmokmchdfchaaGreatDoorZW3
import Derived.Test.YtjnmokmchdfchaaGreatDoorZW4
set_option maxRecDepth 1000000
set_option maxHeartbeats 0
set_option linter.all false
namespace Go.Proofs.YtjnmokmchdfchaaGreatDoor
open Go.RowKit Tryz
attribute[local go_sem↓]Go.wp_at_zero Go.wp_at_succ
variable{A:Addr}{C c:Array Value}{E:It}{K L:List Int}{Y:List Rg}{b i j k l m n o:Nat}{P S:Nat->Prop}{O a:Option Addr}{N:Option Nat}{T:TypeId}{x y z:Value}{V W v w:World}
def wJ(h:Hd)(x:Rg):Prop:=∀a,aZ a->a.length<=h.ag.length+1->(∀m,Sm a m↔Sm h.ag m\/(x.lo<=m/\m<x.hi))->0<=dK ⟨h.fr,h.bytes,a⟩/\h.fr+dK ⟨h.fr,h.bytes,a⟩<=4611686018427387903
theorem ba.gb(h:ba w a n k Y)(g:w.grownBy W N)(d:∀y,a=some y->N≠some y.block):ba W a n k Y:=by
 obtain⟨e,f,i,j,c⟩:=h;refine⟨e,f,i,j,?_⟩
 obtain c|⟨b,o,rfl,c⟩:=c
 exact .inl c;exact .inr ⟨b,o,rfl,iK c g (d _ rfl)⟩
theorem aU(h:w.heap[b]?=some (.cells c T (0,0)))(i:Nat):w.cell? ⟨b,i,none⟩=c[i]? :=by simp[World.cell?,h]
theorem E7(w:World)(sb a:Nat)(cs:Array Value)(t:TypeId)(ab:Option Addr)(nb cb:Nat)(ac:Option Addr)(nc cc:Nat)(o:Ot)(L:w.heap[sb]?=some (.cells cs t (0,0)))(H:gE w sb a ab nb cb ac nc cc o.h)(T:jA w sb a o)(x:Rg)(z u:Bool)(hx:x.ok)(a2:∀y,ab=some y->y.block≠sb)(a3:∀y,ac=some y->y.block≠sb)(bz:wJ o.h x)(b0:o.h.ag.length<100000):
 Calls prog 252 #[.pointer (some ⟨sb,a,none⟩),.agg #[.int .u64 x.lo,.int .u64 x.hi,.bool z,.bool u]] w λr P=>r=.returned (.tuple #[])/\
  ∃(c:Option Addr)(d f:Nat)(i:List Rg)(v:Option Addr)(A k:Nat),(k:Int)=dK ⟨o.h.fr,o.h.bytes,i⟩/\aZ i/\i.length<=o.h.ag.length+1/\(∀m,Sm i m↔Sm o.h.ag m\/(x.lo<=m/\m<x.hi))/\w.grownBy P (some sb)/\
   P.heap[sb]?=some (.cells (((((cs.setIfInBounds (a+2) (.slice c d f)).setIfInBounds a (.int .u64 (o.h.fr+k))).setIfInBounds (a+1) (.slice v (o.h.bytes.drop k).length A)).setIfInBounds (a+6) (.bool (o.tE||z))).setIfInBounds (a+7) (.bool (o.tG||u))) t (0,0))/\
   aX P w.heap.size (.slice v (o.h.bytes.drop k).length A) (o.h.bytes.drop k)/\ba P c d f i/\((c=ac/\d=nc/\f=cc)\/∀y,c=some y->w.heap.size<=y.block/\y.block<P.heap.size/\(Value.slice v (o.h.bytes.drop k).length A).ownBlock≠some y.block):=by
 obtain⟨l,C⟩:=exq ((o.tE||z));obtain⟨n,D⟩:=exq ((o.tG||u));rw[<-C,<-D];replace C:=J C;replace D:=J D;have b5:sb<w.heap.size:=(aO.1 L).1;obtain⟨c0,c1,c2,aa,hr,⟨k0,k1,k2,k3,k4⟩⟩:=H;obtain⟨c3,c4,c5,c6,c7,c8,-,-⟩:=T;rw[aU L]at c0 c1 c2 c3 c4 c5 c6 c7 c8;have hn:nc=o.h.ag.length:=hr.2.1;obtain⟨E,F⟩:=x;obtain⟨q,Q⟩:=exq (w.alloc (.cells #[.int .u64 E,.int .u64 F,.bool z,.bool u] 377));have g1:w.grownBy q none:=by rw[Q];exact aC _ _ _
 have M:q.heap[w.heap.size]?=some (.cells #[.int .u64 E,.int .u64 F,.bool z,.bool u] 377 (0,0)):=by rw[Q];exact aH _ _
 have b6:q.heap.size=w.heap.size+1:=by rw[Q];simp
 have p0:q.cell? ⟨w.heap.size,0,none⟩=some (.int .u64 E):=by simp[World.cell?,M]
 have p1:q.cell? ⟨w.heap.size,1,none⟩=some (.int .u64 F):=by simp[World.cell?,M]
 have R:=bf L g1;have hA:=J (wo q.drew sb (a+2) cs t ac nc cc o.h.ag ⟨E,F⟩ R c2 (hr.ah (aP g1)) a3 k2 hx (by omega));go_enter func252,ntmps252;go_wp2_with fail;rw[<-Q];clear Q;go_region_with (first|(go_at_call 215;refine(Z hA).mono ?_;rintro e p⟨rfl,c,d,f,i,⟨gU,hU⟩,a4,G,al,a8,a9⟩));go_wp2_with fail;have ax:w.grownBy p (some sb):=aj (cO (aP g1) _) gU;have B:=hU cs t R;have b7:q.heap.size<=p.heap.size:=gU.size;have S:p.heap[w.heap.size]?=some (.cells #[.int .u64 E,.int .u64 F,.bool z,.bool u] 377 (0,0)):=(gU.block _ (by show w.heap.size<q.heap.size;omega) (λe=>by cases e;omega)).trans M;have a0:∀y,c=some y->y.block≠sb:=λy e=>by
  obtain G|G:=G
  exact a3 y (G.1▸e);have:q.heap.size<=y.block:=(G y e).1;omega
 have b3:a+2<cs.size:=(aO.1 c2).1;obtain⟨I,s⟩:=exq (cs.setIfInBounds (a+2) (.slice c d f));rw[<-s]at B;have d0:I[a]?=some (.int .u64 o.h.fr):=by rw[s];simpa [kH]using c0
 have d1:I[a+1]?=some (.slice ab nb cb):=by rw[s];simpa [kH]using c1
 have d2:I[a+2]?=some (.slice c d f):=by rw[s];simp[kH,b3]
 have d6:I[a+6]?=some (.bool o.tE):=by rw[s];simpa [kH]using c6
 have d7:I[a+7]?=some (.bool o.tG):=by rw[s];simpa [kH]using c7
 have H2:gE p sb a ab nb cb c d f ⟨o.h.fr,o.h.bytes,i⟩:=⟨(aU B _).trans d0,(aU B _).trans d1,(aU B _).trans d2,aa.gb ax (λj e=>.inr (.inr (λy ey=>by cases e;exact a2 y ey))),a4,⟨k0,k1,al,k3,(show i.length<=100000 by omega)⟩⟩
 obtain⟨q0,q1⟩:=bz i al a8 a9;obtain⟨k,U⟩:=pr q0;have bb:=J (zl p.drew sb a ab nb cb c d f _ (H2.ah (aP (av _ _))) ⟨q0,by omega⟩);have hD:=J (λW(g:p.grownBy W none)=>zx W sb a I t ab nb cb c d f _ (bf B g) (H2.ah g) k (by show o.h.fr+k<=_;omega) a2);rw[U]at bb;replace B:=J B;replace S:=J S;replace M:=J M;replace R:=J R;replace L:=J L;replace s:=J s;replace U:=J U;clear hU H2 q0 q1 hA;go_region_with (first
  |(go_at_call 220;refine(Z bb).mono ?_;rintro e w3⟨rfl,g3⟩;have N:p.grownBy w3 none:=aj (aP (av _ _)) g3)
  |(go_at_call 221;refine(Z hD _ N).mono ?_;rintro e b⟨rfl,v,A,g4,K,a1,bL⟩))
 go_wp2_with fail;have V:p.grownBy b (some sb):=aj (cO N _) g4;have bj:=aj ax V;have bM:=a4.gb V (λy e e'=>a0 y e (by cases e';rfl));have br:b.heap[w.heap.size]?=some (.cells #[.int .u64 E,.int .u64 F,.bool z,.bool u] 377 (0,0)):=(V.block _ (aO.1 (Z S)).1 (λe=>by cases e;omega)).trans (Z S);obtain⟨bt,X⟩:=exq ((I.setIfInBounds a (.int .u64 (o.h.fr+k))).setIfInBounds (a+1) (.slice v (o.h.bytes.drop k).length A));rw[<-X]at K;have e6:bt[a+6]?=some (.bool o.tE):=by rw[X];simpa [kH]using d6
 have e7:bt[a+6+1]?=some (.bool o.tG):=by rw[X,show a+6+1=a+7 from rfl];simpa [kH]using d7
 have m6:b.cell? ⟨sb,a+6,none⟩=some (.bool o.tE):=(aU K _).trans e6;have m7:b.cell? ⟨sb,a+6+1,none⟩=some (.bool o.tG):=(aU K _).trans e7;have f6:b.frozen? ⟨sb,a+6,none⟩=false:=by simp[World.frozen?,K]
 have f7:b.frozen? ⟨sb,a+6+1,none⟩=false:=by simp[World.frozen?,K]
 have n2:b.cell? ⟨w.heap.size,2,none⟩=some (.bool z):=by simp[World.cell?,br]
 have n3:b.cell? ⟨w.heap.size,2+1,none⟩=some (.bool u):=by simp[World.cell?,br]
 have b8:b.cell? ⟨w.heap.size,3,none⟩=some (.bool u):=n3;have ca:w.heap.size<=b.heap.size:=bj.size;have bP:Hid (w.grownBy ((b.drew.setCell ⟨sb,a+6,none⟩ (.bool l)).setCell ⟨sb,a+6+1,none⟩ (.bool n)) (some sb)/\
  ((b.drew.setCell ⟨sb,a+6,none⟩ (.bool l)).setCell ⟨sb,a+6+1,none⟩ (.bool n)).heap[sb]?=some (.cells ((bt.setIfInBounds (a+6) (.bool l)).setIfInBounds (a+6+1) (.bool n)) t (0,0))/\
  aX ((b.drew.setCell ⟨sb,a+6,none⟩ (.bool l)).setCell ⟨sb,a+6+1,none⟩ (.bool n)) w.heap.size (.slice v (o.h.bytes.drop k).length A) (o.h.bytes.drop k)/\
  ba ((b.drew.setCell ⟨sb,a+6,none⟩ (.bool l)).setCell ⟨sb,a+6+1,none⟩ (.bool n)) c d f i):=by
  have cf:∀y,v=some y->y.block≠sb:=λy e=>by
   have h3:=bL y e;have h4:p.heap.size<=w3.heap.size:=N.size;omega
  have bx:b.grownBy b.drew none:=aP (av _ _);have b4:w.heap.size<=w3.heap.size:=bC ax.size N.size;have bS:(Value.slice v (o.h.bytes.drop k).length A).ownBlock≠some sb:=λe=>by have:=(a1.lt _ e).1;omega
  exact J ⟨aD (aD (aP bj) _ _ (.inr rfl)) _ _ (.inr rfl),heap_set (heap_set (bf K bx) _) _,(((a1.low b4).ah bx).aw bS _ _).aw bS _ _,((bM.ah bx).aw a0 _ _).aw a0 _ _⟩
 replace C:=Z C;replace D:=Z D;have HV:Hid (∃(a₁:Option Addr)(n₁ c₁:Nat)(Y:List Rg)(b₁:Option Addr)(d₁ O:Nat),(O:Int)=dK ⟨o.h.fr,o.h.bytes,Y⟩/\aZ Y/\Y.length<=o.h.ag.length+1/\(∀m,Sm Y m↔Sm o.h.ag m\/(E<=m/\m<F))/\w.grownBy ((b.drew.setCell ⟨sb,a+6,none⟩ (.bool l)).setCell ⟨sb,a+6+1,none⟩ (.bool n)) (some sb)/\
  ((b.drew.setCell ⟨sb,a+6,none⟩ (.bool l)).setCell ⟨sb,a+6+1,none⟩ (.bool n)).heap[sb]?=some (.cells (((((cs.setIfInBounds (a+2) (.slice a₁ n₁ c₁)).setIfInBounds a (.int .u64 (o.h.fr+O))).setIfInBounds (a+1) (.slice b₁ (o.h.bytes.drop O).length d₁)).setIfInBounds (a+6) (.bool l)).setIfInBounds (a+7) (.bool n)) t (0,0))/\
  aX ((b.drew.setCell ⟨sb,a+6,none⟩ (.bool l)).setCell ⟨sb,a+6+1,none⟩ (.bool n)) w.heap.size (.slice b₁ (o.h.bytes.drop O).length d₁) (o.h.bytes.drop O)/\ba ((b.drew.setCell ⟨sb,a+6,none⟩ (.bool l)).setCell ⟨sb,a+6+1,none⟩ (.bool n)) a₁ n₁ c₁ Y/\((a₁=ac/\n₁=nc/\c₁=cc)\/∀y,a₁=some y->w.heap.size<=y.block/\y.block<((b.drew.setCell ⟨sb,a+6,none⟩ (.bool l)).setCell ⟨sb,a+6+1,none⟩ (.bool n)).heap.size/\(Value.slice b₁ (o.h.bytes.drop O).length d₁).ownBlock≠some y.block)):=by
  obtain⟨F1,F2,F3,F4⟩:=Z bP;rw[X,Z s]at F2;refine J ⟨c,d,f,i,v,A,k,(Z U).symm,al,a8,a9,F1,F2,F3,F4,G.imp (λh=>⟨h.1,h.2.1,h.2.2.1⟩) (λh y e=>?_)⟩;have h1:q.heap.size<=y.block:=(h y e).1;have h2:=(h y e).2;have h4:p.heap.size<=w3.heap.size:=N.size;have h5:p.heap.size<=b.heap.size:=V.size;refine⟨by omega,by simp;omega,λe2=>?_⟩
  have:=(a1.lt _ e2).1;omega
 clear bP K a1 bM br bL a4 G al a8 a9 X s U B S R M L bj V ax N g4 g3 g1 gU bb hD e6 e7 d0 d1 d2 d6 d7 c0 c1 c2 c3 c4 c5 c6 c7 c8 aa hr p0 p1 bz a3 a0 a2 k0 k1 k2 k3 k4 b0;generalize o.tE=tE at *;generalize o.tG=tG at *;have cg:w.heap.size≠sb:=by omega
 cases tE<;>cases tG<;>simp only[Bool.false_or,Bool.true_or]at C D<;>subst C<;>subst D;all_goals
  go_big_region
  go_wp2_with fail
  exact dP (dj rfl _ _ _) rfl ⟨rfl,Z HV⟩
theorem zE(h:bh w a n k L)(i j:Nat)(hi:i<=j)(l:j<=n):bh w (if j=i then a else a.map (·.add i)) (j-i) (j-i) ((L.drop i).take (j-i)):=by
 obtain⟨e,m,p,q,c⟩:=h;refine⟨λx f=>e x (iZ (iY f)),by rw[cC,dO];omega,by omega,by omega,?_⟩
 by_cases d:j=i;rw[aM d,d,qO,tN];obtain⟨c,g⟩|⟨b,o,rfl,c⟩:=c
 exact .inl ⟨c,rfl⟩;exact .inr ⟨b,o,rfl,BS.nil _ _ _⟩;rw[ay d];obtain⟨c,g⟩|⟨b,o,rfl,c⟩:=c
 omega;exact .inr ⟨b,o+i,by simp[Addr.add],wG (zw c i) _⟩
theorem zF(w:World)(sb ho:Nat)(ab:Option Addr)(nb cb:Nat)(ac:Option Addr)(nc cc:Nat)(h:Hd)(H:gE w sb ho ab nb cb ac nc cc h)(i j:Nat)(hi:i<=j)(s:j<=h.bytes.length)(lo a:Int)(l:lo=h.fr+i)(m:a=h.fr+j):
 Calls prog 285 #[.pointer (some ⟨sb,ho,none⟩),.agg #[.int .u64 lo,.int .u64 a]] w λe n=>∃c,e=.returned (.slice c (j-i) (j-i))/\bh w c (j-i) (j-i) ((h.bytes.drop i).take (j-i))/\((∀y,c=some y->∃z,ab=some z/\z.block=y.block)/\(i<j->c=ab.map (·.add i)))/\w.grownBy n none:=by
 obtain⟨c0,c1,c2,b,-,⟨t,u,-,k3,-⟩⟩:=H;obtain⟨fr,bytes,ag⟩:=h;simp only at *;have v:nb=bytes.length:=b.2.1;have x:nb<=cb:=b.2.2.1;have e1:IntKind.u64.wrap (lo-fr)=(i:Int):=by rw[l,show fr+(i:Int)-fr=i by omega];rw[eH];omega
 have e2:IntKind.u64.wrap (a-fr)=(j:Int):=by rw[m,show fr+(j:Int)-fr=j by omega];rw[eH];omega
 have p:Hid (bh w ab 0 0 []):=J (by have:=zE b i i (aI _) (by omega);simpa using this);have q:Hid (j≠i->bh w (ab.map (·.add i)) (j-i) (j-i) ((bytes.drop i).take (j-i))):=J (λh=>by have:=zE b i j hi (by omega);rwa[ay h]at this);have r:Hid (∀y,ab.map (·.add i)=some y->∃z,ab=some z/\z.block=y.block):=J (λy e=>by
  cases ab with
  |none=>cases e
  |some z=>cases e;exact⟨z,rfl,by simp only[Addr.add];split<;>rfl⟩)
 clear l m b;have A:(j:Int)<=(cb:Int):=by omega
 have B:(i:Int)<=(j:Int):=by omega
 obtain⟨d,f⟩:=exq (w.alloc (.cells #[.int .u64 lo,.int .u64 a] 341));have g:w.grownBy d none:=by rw[f];exact aC _ _ _
 have k:d.heap[w.heap.size]?=some (.cells #[.int .u64 lo,.int .u64 a] 341 (0,0)):=by rw[f];exact aH _ _
 have p0:d.cell? ⟨w.heap.size,0,none⟩=some (.int .u64 lo):=by simp[World.cell?,k]
 have C:d.cell? ⟨w.heap.size,1,none⟩=some (.int .u64 a):=by simp[World.cell?,k]
 have d0:=g.cell c0 (by simp);have d1:=g.cell c1 (by simp);clear c0 c1 c2;replace k:=J k;go_enter func285,ntmps285;go_wp2_with fail;rw[<-f];clear f;go_quiet (fail);go_wp2_with fail;case inl=>
  go_ret;exact⟨ab,rfl,Z p,λy e=>⟨y,e,rfl⟩,dh g _⟩
 case inr=>
  go_ret;exact⟨_,rfl,Z q (by omega),⟨Z r,λ_=>rfl⟩,dh g _⟩
theorem ak.cell(h:ak w W S)(a:w.cell? A=some x)(b:¬S A.block):W.cell? A=some x:=
 (lg (w:=w) (h.block _ (dN w _ a) b)).trans a
theorem kg(h:w.cell? A=some x)(a:A.block≠n):∀W,w.grownBy W (some n)->W.cell? A=some x:=λ_ k=>k.cell h (λe=>a (aJ e))
theorem oH(h:w.heap[b]?=some (.cells #[x,y] T (0,0))):(w.cell? ⟨b,0,none⟩=some x/\w.cell? ⟨b,1,none⟩=some y)/\w.frozen? ⟨b,0,none⟩=false/\w.frozen? ⟨b,1,none⟩=false:=by
 simp[World.cell?,World.frozen?,h]
theorem wK{ob:Obj}(g:(w.alloc ob).drew.grownBy v none):v.heap[w.heap.size]?=some ob:=bf (W:=(w.alloc ob).drew) (aH w ob) g
structure jd(w:World)(sb a c:Nat)(cs:Array Value)(t:TypeId)(vb:Value)(b:List Int)(v:Value)(W:World):Prop where
 aG:W.heap[sb]?=some (.cells (cs.setIfInBounds (a+1) v) t (0,0))
 own:aX W c v b
 aq:ak w W (λk=>k=sb\/vb.ownBlock=some k)
 new:v.ownBlock=vb.ownBlock\/∀k,v.ownBlock=some k->w.heap.size<=k
theorem ak.grow(h:ak w W S)(g:W.grownBy v none):ak w v S:=(h.trans (ak.of g)).mono (λk _ h=>h.elim id (λe=>by cases e))
theorem jd.gb(h:jd w n k i c T x L y W)(g:W.grownBy V none):jd w n k i c T x L y V:=
 ⟨bf h.aG g,h.own.ah g,h.aq.grow g,h.new⟩
theorem jd.trans(h:jd w n j l c T x L y W)(k:jd W n j l (c.setIfInBounds (j+1) y) T y K z V):jd w n j l c T x K z V:=by
 refine⟨?_,k.own,(h.aq.trans k.aq).mono (λi hi a=>?_),?_⟩
 rw[k.aG];simp;obtain a|a|a:=a
 exact a;exact .inl a;obtain e|e:=h.new
 exact .inr (e▸a);have:=e i a;omega;obtain e|e:=k.new
 rw[e];exact h.new;exact .inr (λi hi=>bC h.aq.size (e i hi))
theorem jd.hd{ac:Option Addr}{cc:Nat}{h:Hd}(f:w.heap[k]?=some (.cells C T (0,0)))(H:gE w k i O l m ac o cc h)(b:∀y,ac=some y->y.block≠k/\(Value.slice O l m).ownBlock≠some y.block){c:Nat}(p:jd w k i j C T (.slice O l m) L (.slice a n c) W)(hl:h.fr+L.length<=4611686018427387903/\L.length<=1000000):gE W k i a n c ac o cc ⟨h.fr,L,h.ag⟩:=by
 obtain⟨c0,c1,c2,-,d,g,-,q,-,k4⟩:=H;rw[aU f]at c0 c1 c2;have r:i+1<C.size:=(aO.1 c1).1;refine⟨?_,?_,?_,p.own.fB,d.cW (λs y t=>?_),g,hl.1,q,hl.2,k4⟩
 rw[aU p.aG];simpa [kH]using c0;rw[aU p.aG];simp[kH,r];rw[aU p.aG];simpa [kH]using c2;subst t;exact p.aq.block _ (d.lt s) (λe=>e.elim (b y rfl).1 (b y rfl).2)
theorem jd.apart(h:jd w n k i c T x L y W)(b:n<w.heap.size)(a:x.ownBlock≠some n):y.ownBlock≠some n:=by
 obtain e|e:=h.new
 rw[e];exact a;intro e2;have:=e _ e2;omega
theorem jd.app{b:World}(h:jd w n i j c T x L y W)(g:W.grownBy V none)(r:aX b j z K)(l:V.grownBy b y.ownBlock)(m:z.ownBlock=y.ownBlock\/z.ownBlock=some V.heap.size)(p:n<w.heap.size)(s:x.ownBlock≠some n):jd w n i j c T x K z (b.setCell ⟨n,i+1,none⟩ z):=by
 have d:=h.gb g;have q:=h.apart p s;have t:n<V.heap.size:=bK p d.aq.size;have u:b.heap[n]?=some (.cells (c.setIfInBounds (i+1) y) T (0,0)):=(l.block n t (λe=>q e.symm)).trans d.aG;have v:z.ownBlock≠some n:=by
  obtain e|e:=m
  rw[e];exact q;rw[e];intro e2;have:=aJ e2;omega
 refine⟨by rw[heap_set u];simp,r.gb (aD (av b (some n)) _ _ (.inr rfl)) (.inr v),?_,?_⟩
 refine((d.aq.trans (ak.of l)).trans (ak.of (aD (av b (some n)) ⟨n,i+1,none⟩ z (.inr rfl)))).mono (λk f a=>?_);obtain(a|a)|a:=a
 exact a;obtain e|e:=h.new
 exact .inr (e▸a);have:=e k a;omega;exact .inl (aJ a).symm;obtain e|e:=m
 rw[e];exact h.new;exact .inr (λk f=>by rw[e]at f;have:=aJ f;have:=d.aq.size;omega)
theorem sC(h:c[i]?=some x):c.setIfInBounds i x=c:=by
 apply Array.ext_getElem?;intro j;rw[kH];split;rename_i e;subst e;rw[h,aM (aO.1 h).1];rfl
theorem E8(b:List Int)(i:Nat):b++List.replicate i (0:Int)++[0]=b++List.replicate (i+1) 0:=by rw[eA,<-List.replicate_succ']
theorem E9(w:World)(sb d D:Nat)(cs:Array Value)(t:TypeId)(ab:Option Addr)(nb cb:Nat)(ac:Option Addr)(nc cc:Nat)(h:Hd)(dk:w.heap[sb]?=some (.cells cs t (0,0)))(H:gE w sb d ab nb cb ac nc cc h)(ho:aX w D (.slice ab nb cb) h.bytes)(gn:D<=w.heap.size)(dn:(Value.slice ab nb cb).ownBlock≠some sb)(b4:∀y,ac=some y->y.block≠sb/\(Value.slice ab nb cb).ownBlock≠some y.block)
 (f:Fr) (rv:Value) (hf:0<=f.offset) (hs:cq f<=4611686018427387903) (ds:∀m,f.offset<=m->m<cq f->¬Sm h.ag m->h.fr<=m/\m<h.fr+900000):
 Calls prog 258 #[.pointer (some ⟨sb,d,none⟩),.agg (bF f rv)] w λr p=>r=.returned (.tuple #[])/\∃a n c L n2 c2,p.heap[sb]?=some (.cells ((cs.setIfInBounds (d+1) (.slice a n c)).setIfInBounds (d+2) (.slice L n2 c2)) t (0,0))/\aX p D (.slice a n c) (jc h.fr f.offset (bl f.data) (jz h.ag ⟨f.offset,cq f⟩) h.bytes)/\ba p L n2 c2 (dT h.ag ⟨f.offset,cq f⟩)/\ak w p (λk=>k=sb\/(Value.slice ab nb cb).ownBlock=some k)/\((Value.slice a n c).ownBlock=(Value.slice ab nb cb).ownBlock\/∀k,(Value.slice a n c).ownBlock=some k->w.heap.size<=k)/\((L=ac/\n2=nc/\c2=cc)\/∀y,L=some y->w.heap.size<=y.block/\y.block<p.heap.size/\(Value.slice a n c).ownBlock≠some y.block):=by
 have hE:=J (λW=>wu W f rv hf (by omega));have gw:sb<w.heap.size:=(aO.1 dk).1;have b5:(⟨f.offset,cq f⟩:Rg).ok:=by
  have:0<=cq f:=by unfold cq;omega
  have:f.offset<=cq f:=by unfold cq;omega
  constructor<;>simp only[aR]<;>omega
 obtain⟨en,a4⟩:=exq (cq f);rw[<-a4]at hE ds hs b5⊢;have hM:=J (λW(g:w.grownBy W none)=>zv W sb d ab nb cb ac nc cc h (H.ah g) ⟨f.offset,en⟩ b5);have du:Hid (en=f.offset+(bl f.data).length):=J (by rw[iJ];exact a4);replace a4:=J a4;obtain⟨kind,stream,offset,code,fin,data,ranges⟩:=f;unfold bF at *;simp only at *;obtain⟨F,a1⟩:=exq (w.alloc (.cells #[.int .i64 kind,.int .i64 stream,.int .u64 offset,.int .u64 code,.bool fin,.string data,rv] 158));have g1:w.grownBy F none:=by rw[a1];exact aC _ _ _
 have a8:F.heap[w.heap.size]?=some (.cells #[.int .i64 kind,.int .i64 stream,.int .u64 offset,.int .u64 code,.bool fin,.string data,rv] 158 (0,0)):=by rw[a1];exact aH _ _
 obtain⟨q0,q1,q2,q3,q4,q5,q6⟩:=cH a8;have bb:F.heap.size=w.heap.size+1:=by rw[a1];simp
 replace q0:=kc q0;replace q1:=kc q1;replace q2:=kc q2;replace q3:=kc q3;replace q4:=kc q4;replace q5:=kc q5;replace q6:=kc q6;have gr:F.grownBy F.drew none:=aP (av _ _);replace a8:=J a8;replace bb:=J bb;go_enter func258,ntmps258;go_upto_region 1 with fail;rw[<-a1];clear a1;go_cut [4] (λv wx=>∃B:Nat,v=.pointer (some ⟨B,0,none⟩)/\F.heap.size<=B/\wx.heap[B]?=some (.cells #[.int .u64 offset,.int .u64 en] 341 (0,0))/\F.grownBy wx none);case first=>
  go_region_held3 (λp=>F.grownBy p none)
   (first|with_reducible exact V|with_reducible exact gr|with_reducible exact aP (aS (av _ _) _)|with_reducible exact aS gr _|with_reducible exact aS V _|with_reducible exact aD (aD V _ _ (.inl (aI _))) _ _ (.inl (aI _)))
   (first
     |(go_at_call 247;refine(Z hE F.drew).mono ?_;rintro e w5⟨rfl,g5⟩;have V:F.grownBy w5 none:=aj gr g5;have gz:=g5.size)
     |(go_at_call 247;refine(Z hE (F.alloc (.cells #[.int .u64 0,.int .u64 0] 341)).drew).mono ?_;rintro e w5⟨rfl,g5⟩;have V:F.grownBy w5 none:=aj (aP (aS (av _ _) _)) g5;have bj:=wK g5;obtain⟨⟨k0,k1⟩,z0,z1⟩:=oH bj;replace bj:=J bj))
  ·go_wp2_with fail;go_meet;exact⟨_,rfl,V.size,aH _ _,aS V _⟩
  go_wp2_with fail;go_meet;exact⟨_,rfl,aI _,heap_set (heap_set (Z bj) _) _,aD (aD V _ _ (.inl (aI _))) _ _ (.inl (aI _))⟩
 case rest=>
  obtain⟨B,rfl,hB,br,gB⟩:=hcut;have b7:=aj g1 gB;have b8:wc.grownBy wc.drew none:=aP (av _ _);obtain⟨⟨k0,k1⟩,z0,z1⟩:=oH br;have dx:Hid (wc.heap[w.heap.size]?=some (.cells #[.int .i64 kind,.int .i64 stream,.int .u64 offset,.int .u64 code,.bool fin,.string data,rv] 158 (0,0))):=J (bf (Z a8) gB);replace k0:=kc k0;replace k1:=kc k1;clear q0 q1 q2 q3 q4 q5 q6 gr hE;replace br:=J br;replace hB:=J hB;go_upto_region 2 with fail;go_region_held3 (λp=>wc.grownBy p none)
   (first|with_reducible exact a2|with_reducible exact b8)
   (first
     |(go_at_call 278;refine(Z hM wc.drew (aj b7 b8)).mono ?_;rintro e S⟨⟨a6,N,c6,M,rfl,m1,m2,m3,m4,m5⟩,g6⟩;have a2:wc.grownBy S none:=aj b8 g6;replace m1:=J m1;replace m2:=J m2;replace m3:=J m3;replace m4:=J m4;replace m5:=J m5))
  have e4:Hid (M=jz h.ag ⟨offset,en⟩):=J (zt (Z m2) (Z m5));have E:=aj b7 a2;have al:=bf dk E;have H6:=H.ah E;have P0:jd S sb d D cs t (.slice ab nb cb) (jc h.fr offset (bl data) (M.take 0) h.bytes) (.slice ab nb cb) S:=by
   obtain⟨-,c1,-⟩:=H6;rw[aU al]at c1;exact⟨by rw[sC c1];exact al,ho.ah E,ak.rfl' _ _,.inl rfl⟩
  have dE:Hid (N=M.length):=J (Z m1).2.1;have gA:=(Z m1).2.2.1;have e5:=(Z m1).2.2.2.1;unfold maxLen at e5;have X:ba S a6 N c6 M:=Z m1;replace P0:=J P0;replace H6:=J H6;replace al:=J al;replace X:=J X;go_wp2_with fail;go_loopw [18] (λcv wr=>∃(j:Nat)(v:Value),j<=N/\cv=.int .i64 (j:Int)/\jd S sb d D cs t (.slice ab nb cb) (jc h.fr offset (bl data) (M.take j) h.bytes) v wr/\h.fr+(jc h.fr offset (bl data) (M.take j) h.bytes).length<=4611686018427387903/\(jc h.fr offset (bl data) (M.take j) h.bytes).length<=1000000) (λcv _=>N-(intOf cv).toNat);case atStart=>exact⟨0,_,by omega,rfl,Z P0,H.2.2.2.2.2.2.1,H.2.2.2.2.2.2.2.2.1⟩
  case round=>
   rename World=>u
   obtain⟨j,v,hj,rfl,q,dG,ee⟩:=hrel;obtain⟨b,ax⟩:=exq (jc h.fr offset (bl data) (M.take j) h.bytes);rw[<-ax]at q dG ee;replace ax:=J ax;by_cases gU:j<N
   ·have d1:decide ((j:Int)<(N:Int))=true:=bp (by omega);have i1:(j:Int)<(N:Int):=by omega
    have bt:j<M.length:=by have:=Z dE;omega
    obtain⟨-,-,-,-,h0|⟨b6,o6,rfl,-⟩⟩:=id (Z X);omega;have eg:¬(b6=sb\/(Value.slice ab nb cb).ownBlock=some b6):=by
     have G:=Z m3 ⟨b6,o6,none⟩ rfl;have h2:w.heap.size<=wc.heap.size:=b7.size;have h3:wc.heap.size=wc.drew.heap.size:=rfl;simp only at G;rintro(z|z);omega;have:=(ho.lt _ z).2;omega
    obtain⟨y0,y1⟩:=(Z X).cell j bt;replace y0:=q.aq.cell y0 eg;replace y1:=q.aq.cell y1 eg;have ei:=nB (Z X).1 j;have ca:=(Z m2).pos bt;have cf:∀m,(au M j).lo<=m->m<(au M j).hi->(offset<=m/\m<en)/\h.fr<=m/\m<h.fr+900000:=λm X e6=>by
     have G:=(Z m5 m).1 ⟨_,mm bt,X,e6⟩;exact⟨G.1,ds m G.1.1 G.1.2 G.2⟩
    have x1:=cf (au M j).lo (fI _) ca;have x2:=cf ((au M j).hi-1) (by omega) (by omega);have a3:Hid (jc h.fr offset (bl data) (M.take (j+1)) h.bytes=nE h.fr offset (bl data) b (au M j)):=J (by rw[EP _ _ _ _ _ _ bt,Z ax]);obtain⟨x,hx⟩:=exq (au M j);rw[<-hx]at y0 y1 ei ca x1 x2 a3;clear hx cf ax;obtain⟨s,l⟩:=x;simp only at y0 y1 ca x1 x2 ei;have gX:=aC u (.cells #[.int .u64 s,.int .u64 l] 341) none;have O:=q.gb gX;have hX:(u.alloc (.cells #[.int .u64 s,.int .u64 l] 341)).heap[u.heap.size]?=some (.cells #[.int .u64 s,.int .u64 l] 341 (0,0)):=aH _ _;obtain⟨WX,bx⟩:=exq (u.alloc (.cells #[.int .u64 s,.int .u64 l] 341));rw[<-bx]at gX O hX;obtain⟨ob,on,oc,rfl⟩:∃a n c,v=.slice a n c:=by
     obtain⟨a,c,e,-⟩:=O.own.bs;exact⟨_,_,_,e⟩
    have cg:(Value.slice ob on oc).ownBlock≠some sb:=by
     obtain e|e:=O.new
     rw[e];exact dn;intro e2;have:=e _ e2;have:w.heap.size<=S.heap.size:=E.size;omega
    have ej:(Value.slice ob on oc).ownBlock≠some u.heap.size:=λe=>by have:=(q.own.lt _ e).2;omega
    have P1:jd WX sb d D (cs.setIfInBounds (d+1) (.slice ob on oc)) t (.slice ob on oc) (b++List.replicate 0 0) (.slice ob on oc) WX:=⟨by rw[O.aG];simp,by simpa using O.own,ak.rfl' _ _,.inl rfl⟩
    replace P1:=J P1;replace O:=J O;replace q:=J q;replace hX:=J hX;have Y:Hid (u.heap.size<WX.heap.size):=J (by rw[bx];simp);have e8:Hid (∀y,ac=some y->y.block≠sb/\(Value.slice ab nb cb).ownBlock≠some y.block):=J b4;have e9:Hid (∀(W:World)(i:Nat)(a:Option Addr)(n c:Nat),jd WX sb d D (cs.setIfInBounds (d+1) (.slice ob on oc)) t (.slice ob on oc) (b++List.replicate i 0) (.slice a n c) W->i<=(l-h.fr).toNat-b.length->gE W sb d a n c ac nc cc ⟨h.fr,b++List.replicate i 0,h.ag⟩):=J (λW i a n c hp hi=>((Z O).trans hp).hd (Z al) (Z H6) (Z e8) (by rw[bG,List.length_replicate];omega));go_wp2_with fail;rw[<-bx];clear bx;go_loopg [] ((l-h.fr).toNat-b.length) (λgh wz=>∃(i:Nat)(v:Value),gh=(l-h.fr).toNat-b.length-i/\i<=(l-h.fr).toNat-b.length/\jd WX sb d D (cs.setIfInBounds (d+1) (.slice ob on oc)) t (.slice ob on oc) (b++List.replicate i 0) v wz);case atStart=>exact⟨0,_,by omega,by omega,Z P1⟩
    case round=>
     obtain⟨i,v,gW,hi,A⟩:=hrel;obtain⟨za,I,T,rfl⟩:∃a n c,v=.slice a n c:=by
      obtain⟨a,c,e,-⟩:=A.own.bs;exact⟨_,_,_,e⟩
     have a0:=Z e9 wr i za I T A hi;have ch:=J (λk=>zA (wr.drewN k) sb d za I T ac nc cc ⟨h.fr,b++List.replicate i 0,h.ag⟩ (a0.ah (dh (av _ _) k)));have ek:(h.fr:Int)+((b++List.replicate i (0:Int)).length:Int)=h.fr+b.length+i:=by rw[bG,List.length_replicate];omega
     simp only[ek]at ch;clear ek;have cj:wr.heap[u.heap.size]?=some (.cells #[.int .u64 s,.int .u64 l] 341 (0,0)):=(A.aq.block _ (Z Y) (by
      have G:w.heap.size<=u.heap.size:=bC E.size (Z q).aq.size;rintro(z|z);omega
      ·exact ej z)).trans (Z hX)
     obtain⟨⟨u0,u1⟩,-,-⟩:=oH cj;obtain⟨c0,c1,c2,-⟩:=id a0;have g0:sb<wr.heap.size:=dN wr _ c0;have fz:wr.frozen? ⟨sb,d+1,none⟩=false:=by simp[World.frozen?,A.aG]
     replace A:=J A;replace a0:=J a0;replace cj:=J cj;by_cases hc:b.length+i<(l-h.fr).toNat
     ·have d5:decide (h.fr+(b.length:Int)+(i:Int)<l)=true:=bp (by omega);go_wp2_with fail;go_quiet (first|(go_at_call 196;exact Calls.quiet_of (Z ch _)));have gq:wr.grownBy ((wr.drewN nq).alloc (.cells #[.int .u8 0] 5)) none:=aS (dh (av _ _) nq) _;have oz:=J ((Z A).own.ah gq);have bz:=J (tT (wr.drewN nq) 0 (by simp[W8]));have g2:D<=wr.heap.size:=by have:=Z Y;have:=(Z A).aq.size;have:=(Z q).aq.size;have:=E.size;omega
      have fa:Hid ((Value.slice za I T).ownBlock≠some sb):=J ((Z A).apart (by have:=Z Y;have:=(Z q).aq.size;have:=E.size;omega) cg);have fb:Hid (((wr.drewN nq).alloc (.cells #[.int .u8 0] 5)).heap[sb]?=some (.cells ((cs.setIfInBounds (d+1) (.slice ob on oc)).setIfInBounds (d+1) (.slice za I T)) t (0,0))):=J (bf (Z A).aG gq);go_wp2_with (at_builtin;go_loud (refine qQ (by rfl) _ _ (by rfl) D _ (b++List.replicate i 0) (by rfl) (Z oz) _ _ _ [0] (by rfl) (Z bz) (by simp;omega) (by simp;omega) ?_;intro a7 c7 w7 o7 g7 h7;replace o7:=J o7;replace h7:=J h7;have bL:=(g7.block sb (by simp;omega) (λe=>Z fa e.symm)).trans (Z fb);have g3:w7.cell? ⟨sb,d+1,none⟩=some (.slice za I T):=((lg (w:=wr) (a:=⟨sb,d+1,none⟩) (bL.trans (Z A).aG.symm)).trans c1);have f7:w7.frozen? ⟨sb,d+1,none⟩=false:=(by simp[World.frozen?,bL]);replace bL:=J bL;replace g7:=J g7));go_roundg ((l-h.fr).toNat-b.length-(i+1));case measure=>omega
      case rel=>
       have e7:b.length+i+1=(b++List.replicate i (0:Int)).length+[(0:Int)].length:=by simp
       refine⟨i+1,.slice a7 (b.length+i+1) c7,rfl,by omega,?_⟩
       rw[e7,<-E8];exact(Z A).app gq (Z o7) (Z g7) (Z h7) (by have:=Z Y;have:=(Z q).aq.size;have:=E.size;omega) cg
     have d5:decide (h.fr+(b.length:Int)+(i:Int)<l)=false:=bB (by omega);have eo:Hid (b++List.replicate i 0=nC h.fr b ⟨s,l⟩):=J (by
      unfold nC;congr 2;simp only
      omega)
     have ep:¬(w.heap.size=sb\/(Value.slice ab nb cb).ownBlock=some w.heap.size):=by
      rintro(z|z);omega;have:=(ho.lt _ z).2;omega
     have ew:¬(w.heap.size=sb\/(Value.slice ob on oc).ownBlock=some w.heap.size):=by
      rintro(z|z);omega;obtain e|e:=(Z q).new
      exact ep (.inr (e▸z));have h5:=e _ z;have h6:w.heap.size<wc.heap.size:=(aO.1 (Z dx)).1;have h7:=a2.size;omega
     have cp:wr.heap[w.heap.size]?=some (.cells #[.int .i64 kind,.int .i64 stream,.int .u64 offset,.int .u64 code,.bool fin,.string data,rv] 158 (0,0)):=by
      have h6:=bf (Z dx) a2;have l6:w.heap.size<S.heap.size:=(aO.1 h6).1;have h7:=((Z q).aq.block _ l6 ep).trans h6;have h8:=bf h7 gX;exact((Z A).aq.block _ (aO.1 h8).1 ew).trans h8
     obtain⟨-,-,q2,-,-,q5,-⟩:=cH cp;replace cp:=J cp;go_wp2_with fail;go_quiet (first|(go_at_call 196;exact Calls.quiet_of (Z ch _)));obtain⟨W8,cw⟩:=exq (wr.drewN nq);have g8:wr.grownBy W8 none:=by rw[cw];exact dh (av _ _) nq
     have P:=(Z A).gb g8;rw[Z eo]at P;have H8:=(Z a0).ah g8;rw[Z eo]at H8;have bM:(nC h.fr b ⟨s,l⟩).length=max b.length (l-h.fr).toNat:=wA _ _ _;have ey:=J (λW(g:W8.grownBy W none)=>zF W sb d za I T ac nc cc ⟨h.fr,nC h.fr b ⟨s,l⟩,h.ag⟩ (H8.ah g) (s-h.fr).toNat (l-h.fr).toNat (by omega) (by rw[bM];omega) s l (by simp only;omega) (by simp only;omega));obtain⟨k9,bP⟩:∃k:Nat,(k:Int)=s-offset:=⟨(s-offset).toNat,by omega⟩
     have g4:IntKind.u64.wrap (s-offset)=(k9:Int):=by rw[<-bP,eH];omega
     have ha:(k9:Int)<=(data.size:Int):=by have:=Z du;rw[iJ]at this;omega
     have hg:k9<=data.size:=by omega
     replace bP:=J bP;obtain⟨K,rfl⟩:∃g,za=some ⟨g,0,none⟩:=by
      obtain⟨-,e⟩|⟨g,-,e,-⟩:=yO P.own
      have:=P.own.fB.2.1;omega;exact⟨g,e⟩
     have fc:Hid (I=(nC h.fr b ⟨s,l⟩).length):=J P.own.fB.2.1;obtain⟨U,bS⟩:=exq ((s-h.fr).toNat);obtain⟨q9,b0⟩:=exq ((l-h.fr).toNat);have ff:U<q9:=by omega
     rw[<-bS,<-b0]at ey;have fo:Hid (U+((bl (data.extract k9 data.size)).take (q9-U)).length<=I):=J (by rw[Z fc,bM,cC];omega);replace bS:=J bS;replace b0:=J b0;have n0:K≠u.heap.size:=by
      obtain e|e:=(Z A).new
      exact λe2=>ej (by rw[<-e,<-e2];rfl)
      have G:=e K rfl;have h2:=Z Y;omega
     have n1:K≠w.heap.size:=by
      obtain e|e:=(Z A).new
      exact λe2=>ew (.inr (by rw[<-e,<-e2];rfl))
      have G:=e K rfl;have h2:=Z Y;have h3:=(Z q).aq.size;have z:=E.size;omega
     have r0:=kg (g8.cell u0 (by simp)) n0.symm;have r1:=kg (g8.cell u1 (by simp)) n0.symm;have r2:=kg (g8.cell q2 (by simp)) n1.symm;have r5:=kg (g8.cell q5 (by simp)) n1.symm;have ez:W8.grownBy W8.drew none:=aP (av _ _);have fq:W8.grownBy W8.drew (some K):=aP (av _ _);clear u0 u1 q2 q5 c0 c1 c2 fz;replace P:=J P;replace bM:=J bM;go_upto_region 7 with fail;rw[<-cw];clear cw;go_region_held3 (λp=>W8.grownBy p (some K))
      (first|with_reducible exact fs|with_reducible exact b3|with_reducible exact fq)
      (first
        |(go_at_call 285;refine(Z ey W8.drew ez).mono ?_;rintro e w9⟨a9,rfl,fv,eK,g9⟩;have cx:W8.grownBy w9 none:=aj ez g9;have b3:W8.grownBy w9 (some K):=cO cx _;clear fv;obtain rfl:a9=some ⟨K,U,none⟩:=(eK.2 ff).trans (by simp only[qN,Addr.add_lit,dv]);clear eK)
        |(refine EI _ _ (by rfl) (by rfl) D K U I T _ _ (by rfl) _ (by rfl) (nC h.fr b ⟨s,l⟩) ((Z P).own.ah cx) (Z fo) ?_;intro fy cy cR;replace cy:=J cy;have fs:=aj b3 cR))
     have c9:jd WX sb d D (cs.setIfInBounds (d+1) (.slice ob on oc)) t (.slice ob on oc) (nE h.fr offset (bl data) b ⟨s,l⟩) (.slice (some ⟨K,0,none⟩) I T) fy:=by
      have e1:nE h.fr offset (bl data) b ⟨s,l⟩=splice (nC h.fr b ⟨s,l⟩) U ((bl (data.extract k9 data.size)).take (q9-U)):=by
       have G:=Z bP;have h2:=Z bS;have h3:=Z b0;unfold nE;rw[EF];simp only
       rw[show(s-offset).toNat=k9 by omega,show(l-s).toNat=q9-U by omega,<-h2]
      rw[e1];have P9:=(Z P).gb cx;refine⟨?_,Z cy,?_,P9.new⟩
      rw[cR.block sb (dN _ _ (by rw[aU P9.aG];exact(by have:=(Z a0).2.1;rw[aU (Z A).aG]at this;exact this))) (λe=>(Z P).apart (by have:=Z Y;have:=(Z q).aq.size;have:=E.size;omega) cg e.symm)];exact P9.aG;refine(P9.aq.trans (ak.of cR)).mono (λk hk C=>?_);obtain C|C:=C
      exact C;obtain e|e:=P9.new
      exact .inr (by rw[<-e];exact C);have:=e k C;omega
     have db:=(Z O).trans c9;replace db:=J db;replace c9:=J c9;go_wp2_with fail;go_roundw;case measure=>simp[intOf];omega
     case rel=>
      refine⟨j+1,_,by omega,by simp,by rw[Z a3];exact Z db,?_⟩
      have hh:=Z du;rw[Z a3,zu (U:=⟨s,l⟩) (by simp only;omega) (by simp only;omega) (by simp only;omega) (by simp only;omega)];simp only
      omega
   have d1:decide ((j:Int)<(N:Int))=false:=bB (by omega);obtain rfl:j=N:=by omega
   obtain⟨ob,on,oc,rfl⟩:∃a n c,v=.slice a n c:=by
    obtain⟨a,c,e,-⟩:=q.own.bs;exact⟨_,_,_,e⟩
   have fA:Hid (b=jc h.fr offset (bl data) (jz h.ag ⟨offset,en⟩) h.bytes):=J (by rw[Z ax,<-Z e4,Z dE,lh]);have Hq:=q.hd (Z al) (Z H6) b4 ⟨dG,ee⟩;have de:B≠sb:=by have:=Z hB;have:=Z bb;omega
   have eL:u.heap[B]?=some (.cells #[.int .u64 offset,.int .u64 en] 341 (0,0)):=by
    have h6:=bf (Z br) a2;refine(q.aq.block B (aO.1 h6).1 ?_).trans h6;rintro(z|z);exact de z;have:=(ho.lt _ z).2;have:=Z hB;have:=Z bb;omega
   obtain⟨⟨s0,s1⟩,-,-⟩:=oH eL;replace s0:=kg (n:=sb) s0 de;replace s1:=kg (n:=sb) s1 de;have Q:=q.gb (aP (av u none));have hA:=J (wo u.drew sb (d+2) (cs.setIfInBounds (d+1) (.slice ob on oc)) t ac nc cc h.ag ⟨offset,en⟩ Q.aG (by have:=Hq.2.2.1;rwa[aU q.aG]at this) (Hq.2.2.2.2.1.ah (aP (av u none))) (λy e=>(b4 y e).1) Hq.2.2.2.2.2.2.2.1 b5 (by have G:=Hq.2.2.2.2.1.2.1;have h2:=Hq.2.2.2.2.2.2.2.2.2;simp only at G h2;omega));have eV:u.grownBy u.drew (some sb):=aP (av _ _);obtain⟨R,hR⟩:=exq (λp:World=>∃a n c L n2 c2,p.heap[sb]?=some (.cells ((cs.setIfInBounds (d+1) (.slice a n c)).setIfInBounds (d+2) (.slice L n2 c2)) t (0,0))/\aX p D (.slice a n c) b/\ba p L n2 c2 (dT h.ag ⟨offset,en⟩)/\ak w p (λk=>k=sb\/(Value.slice ab nb cb).ownBlock=some k)/\((Value.slice a n c).ownBlock=(Value.slice ab nb cb).ownBlock\/∀k,(Value.slice a n c).ownBlock=some k->w.heap.size<=k)/\((L=ac/\n2=nc/\c2=cc)\/∀y,L=some y->w.heap.size<=y.block/\y.block<p.heap.size/\(Value.slice a n c).ownBlock≠some y.block));have a3:Hid (∀p,sy u.drew p sb (d+2) ac nc cc h.ag (λl'=>l'.length<=h.ag.length+1/\∀m,Sm l' m↔Sm h.ag m\/(offset<=m/\m<en))->R p):=J (by
    rintro p⟨a',n',c',l',⟨gu,hu⟩,hr,ga,gd,-,hq⟩;have e1:l'=dT h.ag ⟨offset,en⟩:=ur Hq.2.2.2.2.2.2.2.1 gd hq;have gf:(Value.slice ob on oc).ownBlock≠some sb:=Q.apart (by have:=E.size;omega) dn;have gg:ak w S (λ_=>False):=(ak.of E).mono (λk _ e=>by cases e);have gi:=E.size;rw[hR];refine⟨ob,on,oc,a',n',c',hu _ _ Q.aG,Q.own.gb gu (.inr gf),e1▸hr,((gg.trans Q.aq).trans (ak.of gu)).mono (λk _ C=>?_),?_,?_⟩
    obtain(C|C)|C:=C
    exact C.elim;exact C;exact .inl (aJ C).symm;exact Q.new.imp id (λe k hk=>bC gi (e k hk))
    ·refine ga.imp (λh=>⟨h.1,h.2.1,h.2.2.1⟩) (λe y hy=>⟨?_,(e y hy).2,λe2=>?_⟩);have:=(e y hy).1;have:=Q.aq.size;omega
     ·have:=(e y hy).1;have:=(Q.own.lt _ e2).2;omega)
   replace hR:=J hR;clear Hq eL Q;replace q:=J q;go_wp2_with fail;go_region_held3 (λp=>u.grownBy p (some sb))
    (first|with_reducible exact b3|with_reducible exact eV)
    (first|(go_at_call 215;refine(Z hA).mono ?_;rintro e w9⟨rfl,dg⟩;have b3:u.grownBy w9 (some sb):=(by obtain⟨a',n',c',l',⟨gu,-⟩,-⟩:=dg;exact aj eV gu);have gj:=J (Z a3 _ dg);clear dg))
   go_wp2_with fail;have e3:=Z gj;rw[Z hR,Z fA]at e3;exact dP (dj rfl _ _ _) rfl ⟨rfl,e3⟩
structure qY(w b:World)(sb:Nat)(t:TypeId)(cs a:Array Value)(lo n:Nat)(vb c:Value):Prop where
 aG:b.heap[sb]?=some (.cells a t (0,0))
 sz:a.size=cs.size
 out:∀i,i<lo\/lo+n<=i->a[i]?=cs[i]?
 aq:ak w b (λk=>k=sb\/vb.ownBlock=some k)
 new:c.ownBlock=vb.ownBlock\/∀k,c.ownBlock=some k->w.heap.size<=k
def wL(w b:World)(d vc a:Value):Prop:=a=vc\/∀y n c,a=.slice (some y) n c->w.heap.size<=y.block/\y.block<b.heap.size/\d.ownBlock≠some y.block
structure gP(w:World)(d:Nat)(cs:Array Value)(b:Nat)(vb vc:Value)(s:It):Prop where
 c0:cs[b]?=some (.int .u64 s.h.fr)
 c1:cs[b+1]?=some vb
 c2:cs[b+2]?=some vc
 c3:cs[b+3]?=some (.int .u64 s.high)
 c4:cs[b+4]?=some (.int .u64 s.last)
 c5:cs[b+5]?=some (.int .u64 s.code)
 c6:cs[b+6]?=some (.bool s.ended)
 c7:cs[b+7]?=some (.bool s.given)
 c8:cs[b+8]?=some (.bool s.over)
 own:aX w d vb s.h.bytes
 set:∃a n c,vc=.slice a n c/\ba w a n c s.h.ag
def jT(w:World)(sb:Nat)(vb vc:Value):Prop:=vb.ownBlock≠some sb/\∀y n c,vc=.slice (some y) n c->y.block≠sb/\vb.ownBlock≠some y.block/\y.block<w.heap.size
theorem gP.tail(h:gP w k c i x y E)(a:w.heap[n]?=some (.cells c T (0,0))):qV w n i E:=
 ⟨(aU a _).trans h.c3,(aU a _).trans h.c4,(aU a _).trans h.c5,(aU a _).trans h.c6,(aU a _).trans h.c7,(aU a _).trans h.c8⟩
theorem gP.mn(h:gP w k C i x y E):∃ab nb cb ac nc cc,x=.slice ab nb cb/\y=.slice ac nc cc:=by
 obtain⟨a,n,c,e,-⟩:=h.set;obtain⟨d,f,b,-⟩:=h.own.bs;exact⟨_,_,_,_,_,_,b,e⟩
theorem gP.hd{ac:Option Addr}(h:gP w i C j (.slice O l m) (.slice ac o b) E)(d:w.heap[k]?=some (.cells C T (0,0)))(f:E.h.nice):gE w k j O l m ac o b E.h:=by
 refine⟨(aU d _).trans h.c0,(aU d _).trans h.c1,(aU d _).trans h.c2,h.own.fB,?_,f⟩
 obtain⟨a,n,c,e,g⟩:=h.set;cases e;exact g
theorem gP.ah(h:gP w k C i x y E)(g:w.grownBy W none):gP W k C i x y E:=
 ⟨h.c0,h.c1,h.c2,h.c3,h.c4,h.c5,h.c6,h.c7,h.c8,h.own.ah g,by obtain⟨a,n,c,e,b⟩:=h.set;exact⟨a,n,c,e,b.ah g⟩⟩
def It.bad(s:It)(f:Fr):Bool:=(s.ended&&decide (s.last<cq f))||(f.fin&&s.jS (cq f))
def It.data(s:It)(f:Fr):It:=
 {s with high:=max s.high (cq f),ended:=s.ended||f.fin,last:=if f.fin then cq f else s.last,h:=if s.given then s.h else⟨s.h.fr,jc s.h.fr f.offset (bl f.data) (jz s.h.ag ⟨f.offset,cq f⟩) s.h.bytes,dT s.h.ag ⟨f.offset,cq f⟩⟩}
theorem gF(h:c[i]?=some x):i<c.size:=(aO.1 h).1
theorem cB(h:i<c.size):(c.setIfInBounds i x)[i]?=some x:=by
 rw[kH,aM rfl,aM h]
theorem qY.zG(a:w.heap[i]?=some (.cells c T (0,0)))(g:w.grownBy W none)(lo n:Nat)(vb:Value):qY w W i T c c lo n vb vb:=
 ⟨bf a g,rfl,λ_ _=>rfl,(ak.of g).mono (λk _ e=>by cases e),.inl rfl⟩
structure Pc where
 x:Rg
 e:Bool
 g:Bool
structure Pk where
 num:Int
 tick:Int
 st:Int
 ps:List Pc
def qp(p:Pc):List Value:=[.int .u64 p.x.lo,.int .u64 p.x.hi,.bool p.e,.bool p.g]
def fm(l:List Pc):List Value:=l.flatMap qp
def eT(l:List Pc)(i:Nat):Pc:=l.getD i ⟨⟨0,0⟩,false,false⟩
def jV(w:World)(a:Option Addr)(n cap:Nat)(l:List Pc):Prop:=
 (∀p∈l,p.x.ok)/\n=l.length/\n<=cap/\cap<=maxLen/\(cap=0\/∃b o,a=some ⟨b,o,none⟩/\w.rangeAt b o (fm l))
theorem zK{α:Type}(f:α->List Value)(a:∀x,(f x).length=4)(l:List α):(l.flatMap f).length=l.length*4:=by
 induction l with
 |nil=>rfl
 |cons x l b=>rw[pC,bG,b,a,dJ];omega
theorem qZ{α:Type}(f:α->List Value)(a:∀x,(f x).length=4)(l:List α)(i j:Nat)(x:α)(b:l[i]?=some x)(c:j<4):(l.flatMap f)[i*4+j]?=(f x)[j]? :=by
 induction l generalizing i with
 |nil=>cases b
 |cons y l d=>
  rw[pC];cases i with
  |zero=>
   cases b;rw[mK,dv,nk (by rw[a];exact c)]
  |succ i=>
   rw[kZ (by rw[a];omega),a,show(i+1)*4+j-4=i*4+j by omega];exact d i (by simpa using b)
theorem FC(l:List Pc):(fm l).length=l.length*4:=zK qp (λ_=>rfl) l
theorem jV.cW{l:List Pc}(h:jV w a n k l)(e:l≠[]->∀x,a=some x->W.heap[x.block]?=w.heap[x.block]?):jV W a n k l:=by
 obtain⟨f,g,i,m,c⟩:=h;refine⟨f,g,i,m,?_⟩
 obtain c|⟨b,o,rfl,c⟩:=c
 exact .inl c;refine .inr ⟨b,o,rfl,?_⟩;by_cases hl:l=[]
 subst hl;intro j v d;simp[fm]at d;intro j v d;exact(lg (w:=w) (a:=⟨b,o+j,none⟩) (e hl ⟨b,o,none⟩ rfl)).trans (c j v d)
theorem uz{l:List Pc}(h:i<l.length):l[i]?=some (eT l i):=by simp[eT,List.getD,h]
theorem uA{l:List Pc}(h:i<l.length):eT l i∈l:=vQ (uz h)
theorem jV.cell{l:List Pc}(h:jV w (some ⟨b,o,none⟩) n k l)(i:Nat)(hi:i<l.length):w.cell? ⟨b,o+i*4,none⟩=some (.int .u64 (eT l i).x.lo)/\w.cell? ⟨b,o+i*4+1,none⟩=some (.int .u64 (eT l i).x.hi)/\w.cell? ⟨b,o+i*4+2,none⟩=some (.bool (eT l i).e)/\w.cell? ⟨b,o+i*4+3,none⟩=some (.bool (eT l i).g):=by
 obtain⟨-,f,m,-,a|⟨p,q,e,a⟩⟩:=h;omega;cases e;have c:=λj d=>qZ qp (λ_=>rfl) l i j _ (uz hi) d
 refine⟨a (i*4) _ (c 0 (by omega)),?_,?_,?_⟩
 rw[oq];exact a (i*4+1) _ (c 1 (by omega));rw[oq];exact a (i*4+2) _ (c 2 (by omega));rw[oq];exact a (i*4+3) _ (c 3 (by omega))
theorem jV.ah{l:List Pc}(h:jV w a n k l)(g:w.grownBy W none):jV W a n k l:=by
 by_cases hl:l=[]
 exact h.cW (λh=>absurd hl h);refine h.cW (λ_ x b=>?_);subst b;obtain⟨-,i,j,-,c|⟨d,f,e,c⟩⟩:=id h;have:=np.2 hl;omega;cases e;exact g.block _ (dN w ⟨d,f,none⟩ (h.cell 0 (np.2 hl)).1) (by simp)
abbrev Kt:=Pk×Value
def jW(x:Kt):List Value:=[.int .u64 x.1.num,.int .i64 x.1.tick,.int .i64 x.1.st,x.2]
def iA(l:List Kt):List Value:=l.flatMap jW
theorem qq(l:List Kt):(iA l).length=l.length*4:=zK jW (λ_=>rfl) l
def bD(l:List Kt)(i:Nat):Kt:=l.getD i (⟨0,0,0,[]⟩,.slice none 0 0)
theorem mQ{l:List Kt}(h:i<l.length):l[i]?=some (bD l i):=by simp[bD,List.getD,h]
theorem nF{l:List Kt}(h:i<l.length):bD l i∈l:=vQ (mQ h)
def mq(w:World)(S:Nat->Prop)(l:List Kt):Prop:=∀x∈l,∃a n c,x.2=.slice a n c/\jV w a n c x.1.ps/\∀y,a=some y->¬S y.block/\y.block<w.heap.size
theorem mq.aq{l:List Kt}(h:mq w S l)(C:ak w W P)(f:∀k,k<w.heap.size->P k->S k):mq W S l:=λx g=>by
 obtain⟨a,n,c,e,hp,d⟩:=h x g;exact⟨a,n,c,e,hp.cW (λ_ y b=>C.block _ (d y b).2 (λi=>(d y b).1 (f _ (d y b).2 i))),λy b=>⟨(d y b).1,bK (d y b).2 C.size⟩⟩
theorem mq.sub{l m:List Kt}(h:mq w S l)(a:∀x∈m,x∈l):mq w S m:=λx b=>h x (a x b)
def bU(w:World)(a:Nat)(v:Value)(l:List Kt):Prop:=w.ownsRow a 325 4 v l.length (iA l)
theorem bU.lt{l:List Kt}(h:bU w n x l):∀k,x.ownBlock=some k->n<=k/\k<w.heap.size:=World.ownsRow.lt h
theorem bU.aq{l:List Kt}(h:bU w n x l)(C:ak w W S)(c:∀k,x.ownBlock=some k->¬S k):bU W n x l:=by
 obtain⟨d,a⟩:=h;refine⟨d,?_⟩
 obtain a|⟨g,cap,cur,e1,e2,b,e⟩:=a
 exact .inl a;exact .inr ⟨g,cap,cur,e1,e2,(C.block g (aO.1 b).1 (c g (by rw[e1];rfl))).trans b,e⟩
theorem bU.cell{l:List Kt}(h:bU w k (.slice a n m) l)(hl:0<n):∃g,a=some ⟨g,0,none⟩/\∀i,i<l.length->w.cell? ⟨g,0+i*4,none⟩=some (.int .u64 (bD l i).1.num)/\w.cell? ⟨g,0+i*4+1,none⟩=some (.int .i64 (bD l i).1.tick)/\w.cell? ⟨g,0+i*4+2,none⟩=some (.int .i64 (bD l i).1.st)/\w.cell? ⟨g,0+i*4+3,none⟩=some (bD l i).2:=by
 obtain⟨r,⟨c,h0⟩|⟨g,s,d,e1,e2,e,t,u,v,f⟩⟩:=h;cases c;omega;cases e1;refine⟨g,rfl,λi hi=>?_⟩
 have b:∀j,j<4->w.cell? ⟨g,i*4+j,none⟩=(jW (bD l i))[j]? :=λj p=>by
  rw[aU e,<-qZ jW (λ_=>rfl) l i j _ (mQ hi) p];have q:i*4+j<l.length*4:=by omega
  have:d.toList[i*4+j]?=(iA l)[i*4+j]? :=by rw[<-f,jO,aM q]
  rw[py]at this;exact this
 refine⟨?_,?_,?_,?_⟩
 rw[dv];exact b 0 (by omega);rw[dv];exact b 1 (by omega);rw[dv];exact b 2 (by omega);rw[dv];exact b 3 (by omega)
theorem bU.fL{l:List Kt}(h:bU w n x l):∃a cap,x=.slice a l.length cap/\l.length<=cap/\cap<=maxLen:=by
 obtain⟨f,⟨b,h0⟩|⟨g,c,i,e1,e2,j,d,e,k,m⟩⟩:=h;exact⟨none,0,by rw[h0];exact b,by omega,by simp[maxLen]⟩
 exact⟨_,c,e1,d,e⟩
theorem zL(ty t e:TypeId)(z:Value)(k:Nat)(p:0<k)(q:prog.underlying t=some (.slice e))(r:∀w,(zeroValue e).run prog w=.ok z w)(b:z.cells.size=k)(s:∀v∈z.cells.toList,v.oneCell'=true)(g i m c:Nat)(a:Array Value)(te:TypeId)(x:w.heap[g]?=some (.cells a te (0,0)))(y:0<m)(A:i+m*k<=a.size):
 ∃d:List Value,d.length=m*k/\(Builtin.clear_ #[t] ty #[.slice (some ⟨g,i,none⟩) m c]).run prog w=.ok (.tuple #[]) (w.setRow g (a.toList.take i++d++a.toList.drop (i+m*k)).toArray):=by
 have hl:(Builtin.zeroCells z.cells m).toList.length=m*k:=by simp[Builtin.zeroCells,b]
 refine⟨(Builtin.zeroCells z.cells m).toList,hl,?_⟩
 have f:=run_storeCells_at prog g i te (Builtin.zeroCells z.cells m).toList 0 a w x (by rw[hl];omega) (by
  intro u h;simp only[Builtin.zeroCells,b,Array.toList_map,fh]at h;obtain⟨j,-,rfl⟩:=h;have l:j %k<z.cells.size:=by rw[b];exact Nat.mod_lt _ p
  refine s _ ?_;rw[getElem!_pos z.cells (j %k) l];exact Array.getElem_mem_toList l)
 obtain⟨n,rfl⟩:∃n,m=n+1:=⟨m-1,by omega⟩
 rw[hl]at f;simp[Builtin.clear_,tM q,r,f]
theorem FD(w:World):(zeroValue 325).run prog w=.ok (.agg #[.int .u64 0,.int .i64 0,.int .i64 0,.slice none 0 0]) w:=by kernel_rfl
structure iN(W:World)(g cap:Nat)(af b:List Kt)(j:Nat)(a:Array Value):Prop where
 aG:W.heap[g]?=some (.cells a 325 (0,0))
 sz:a.size=cap*4
 le:b.length<=j
 ahead:∀x,x<b.length*4->a[x]?=(iA b)[x]?
 rest:∀x,j*4<=x->x<af.length*4->a[x]?=(iA af)[x]?
theorem iN.at{af b:List Kt}(h:iN W n k af b j c)(d:j<af.length):W.cell? ⟨n,j*4,none⟩=some (.int .u64 (bD af j).1.num)/\W.cell? ⟨n,j*4+1,none⟩=some (.int .i64 (bD af j).1.tick)/\W.cell? ⟨n,j*4+2,none⟩=some (.int .i64 (bD af j).1.st)/\W.cell? ⟨n,j*4+3,none⟩=some (bD af j).2:=by
 have a:∀i,i<4->W.cell? ⟨n,j*4+i,none⟩=(jW (bD af j))[i]? :=λi hi=>by
  rw[aU h.aG,h.rest _ (by omega) (by omega)];exact qZ jW (λ_=>rfl) af j i _ (mQ d) hi
 exact⟨a 0 (by omega),a 1 (by omega),a 2 (by omega),a 3 (by omega)⟩
def kp(af:List Kt)(q:Nat->Bool):Nat->List Kt
 |0=>[]
 |j+1=>if q j then kp af q j else kp af q j++[bD af j]
theorem zM(af:List Kt)(q:Nat->Bool)(j:Nat)(b:j<=af.length)(h:∀i,i<j->q i=false):kp af q j=af.take j:=by
 induction j with
 |zero=>simp[kp]
 |succ j a=>
  unfold kp;rw[h j (by omega),ay (by simp),a (by omega) (λi hi=>h i (by omega)),nr,mQ (by omega)];rfl
theorem wP(af:List Kt)(q:Nat->Bool)(Q:Kt->Bool)(h:∀i,i<af.length->q i=Q (bD af i))(j:Nat)(c:j<=af.length):kp af q j=(af.take j).filter (λx=> !Q x):=by
 induction j with
 |zero=>simp[kp]
 |succ j a=>
  unfold kp;rw[h j (by omega),a (by omega),nr,mQ (by omega),Option.toList_some,List.filter_append];cases b:Q (bD af j)<;>simp[b]
theorem FE(l:List Kt)(k:Nat)(x:Nat)(b:x<k*4):(iA (l.take k))[x]?=(iA l)[x]? :=by
 by_cases hl:x<l.length*4;have e:x=x/4*4+x %4:=by omega
 have a:x/4<l.length:=by omega
 have c:x/4<(l.take k).length:=by rw[cC];omega
 rw[e];unfold iA;rw[qZ jW (λ_=>rfl) l _ _ _ (mQ a) (by omega),qZ jW (λ_=>rfl) (l.take k) _ _ (bD l (x/4)) (by rw[jO,aM (by omega)];exact mQ a) (by omega)];rw[r8 (l:=iA l) (by rw[qq];omega),r8 (l:=iA (l.take k)) (by rw[qq,cC];omega)]
theorem FF(l:List Kt)(x:Kt):iA (l++[x])=iA l++jW x:=by simp[iA]
theorem iN.skip{af a:List Kt}(h:iN W n k af a j c)(b:w.heap[n]?=W.heap[n]?):iN w n k af a (j+1) c:=
 ⟨b.trans h.aG,h.sz,by have:=h.le;omega,h.ahead,λx e d=>h.rest x (by omega) d⟩
theorem iN.same{af a:List Kt}(h:iN W n k af a j c)(b:w.heap[n]?=W.heap[n]?):iN w n k af a j c:=
 ⟨b.trans h.aG,h.sz,h.le,h.ahead,h.rest⟩
theorem iN.put{W':World}{af a:List Kt}(h:iN W n k af a j c)(i:a.length<j)(l:j<af.length)(m:af.length<=k)(x:Kt)
 (d:W'.heap[n]?=some (.cells ((((c.setIfInBounds (a.length*4) (.int .u64 x.1.num)).setIfInBounds (a.length*4+1) (.int .i64 x.1.tick)).setIfInBounds (a.length*4+2) (.int .i64 x.1.st)).setIfInBounds (a.length*4+3) x.2) 325 (0,0))):
 ∃e,iN W' n k af (a++[x]) (j+1) e:=by
 have p:=h.sz;refine⟨_,d,by simp[h.sz],by simp;omega,λy f=>?_,λy q g=>?_⟩
 rw[bG,List.length_singleton]at f;rw[FF];by_cases b:y<a.length*4;rw[aW (by omega),aW (by omega),aW (by omega),aW (by omega),h.ahead y b,nk (by rw[qq];exact b)];rw[kZ (by rw[qq];omega),qq];have:y=a.length*4\/y=a.length*4+1\/y=a.length*4+2\/y=a.length*4+3:=by omega
 obtain rfl|rfl|rfl|rfl:=this
 rw[aW (by omega),aW (by omega),aW (by omega),cB (by omega),qO];rfl;rw[aW (by omega),aW (by omega),cB (by simp;omega),rZ];rfl;rw[aW (by omega),cB (by simp;omega),rZ];rfl;rw[cB (by simp;omega),rZ];rfl;rw[aW (by omega),aW (by omega),aW (by omega),aW (by omega),h.rest y (by omega) g]
theorem iN.own{af a:List Kt}(h:iN W n k af a j c)(d:i<=n)(b:a.length<=k/\k<=maxLen):bU W i (.slice (some ⟨n,0,none⟩) a.length k) a:=by
 refine⟨qq a,.inr ⟨n,k,c,rfl,d,h.aG,b.1,b.2,h.sz,?_⟩⟩
 apply List.ext_getElem?;intro x;rw[jO];split;rename_i e;rw[py];exact h.ahead x e;rw[r8 (by rw[qq];omega)]
theorem lA{a:Value}(h:w.heap[b]?=some (.cells #[x,y,z,a] T (0,0))):w.cell? ⟨b,0,none⟩=some x/\w.cell? ⟨b,1,none⟩=some y/\w.cell? ⟨b,2,none⟩=some z/\w.cell? ⟨b,3,none⟩=some a:=by
 simp[World.cell?,h]
theorem zN(h:w.heap[n]?=some (.cells c T (0,0)))(a b d e:Value):w.grownBy ((((w.setCell ⟨n,o,none⟩ a).setCell ⟨n,o+1,none⟩ b).setCell ⟨n,o+2,none⟩ d).setCell ⟨n,o+3,none⟩ e) (some n)/\((((w.setCell ⟨n,o,none⟩ a).setCell ⟨n,o+1,none⟩ b).setCell ⟨n,o+2,none⟩ d).setCell ⟨n,o+3,none⟩ e).heap[n]?=some (.cells ((((c.setIfInBounds o a).setIfInBounds (o+1) b).setIfInBounds (o+2) d).setIfInBounds (o+3) e) T (0,0)):=
 ⟨aD (aD (aD (aD (av w (some n)) ⟨n,o,none⟩ a (.inr rfl)) ⟨n,o+1,none⟩ b (.inr rfl)) ⟨n,o+2,none⟩ d (.inr rfl)) ⟨n,o+3,none⟩ e (.inr rfl),heap_set (heap_set (heap_set (heap_set h a) b) d) e⟩
def kA(x:Kt):Array Value:= #[.int .u64 x.1.num,.int .i64 x.1.tick,.int .i64 x.1.st,x.2]
theorem wQ(g n cap al y sb:Nat)(lb:Array Value)(af:List Kt)(w:World)(q:Nat->Bool)(Inv:Nat->World->Prop)(F:Array Value)
 (a8:al<=g) (b:n=af.length) (a9:n<=cap/\cap<=maxLen) (eS:∀x∈af,∃a n c,x.2=.slice a n c) (h0:iN w g cap af [] 0 F) (cv:sb<w.heap.size) (bb:sb≠g)
 (eg:∀args w,(callFunc y args).run prog w=.ok (.enter y args) w) (hI:Inv 0 w)
 (G:∀(W m:World)(h:Nat),Inv h W->W.grownBy m (some g)->Inv h m)
 (P:∀(W:World)(h:Nat),Inv h W->h<n->Calls prog y (#[.agg (kA (bD af h))]++lb) W (λe m=>e=.returned (.bool (q h))/\Inv (h+1) m/\W.grownBy m (some sb))):
 Calls prog 236 #[.slice (some ⟨g,0,none⟩) n cap,.func (.func y) #[] lb] w λe H=>e=.returned (.slice (some ⟨g,0,none⟩) (kp af q n).length cap)/\bU H al (.slice (some ⟨g,0,none⟩) (kp af q n).length cap) (kp af q n)/\Inv n H:=by
 obtain⟨R,I⟩:∃R:Ending->World->Prop,R=λe H=>e=.returned (.slice (some ⟨g,0,none⟩) (kp af q n).length cap)/\bU H al (.slice (some ⟨g,0,none⟩) (kp af q n).length cap) (kp af q n)/\Inv n H:=⟨_,rfl⟩
 rw[<-I];replace I:=J I;have bM:g<w.heap.size:=(aO.1 h0.aG).1;have hX:=J (wO (some ⟨g,0,none⟩) g 0 n cap y #[] lb w (λh=>q h=true) (λh=>.int .u64 (bD af h).1.num) (λh=>.int .i64 (bD af h).1.tick) (λh=>.int .i64 (bD af h).1.st) (λh=>(bD af h).2) (λh W=>Inv h W/\iN W g cap af [] 0 F/\w.heap.size<=W.heap.size) (λ_=>rfl) a9 eg ⟨hI,h0,aI _⟩
  (λW h z hh=>by
    have hm:=z.2.1;have K:∀i,i<4->W.cell? ⟨g,h*4+i,none⟩=(jW (bD af h))[i]? :=λi hi=>by
     rw[aU hm.aG,hm.rest _ (by omega) (by omega)];exact qZ jW (λ_=>rfl) af h i _ (mQ (by omega)) hi
    refine⟨?_,?_,?_,?_⟩
    rw[dv];exact K 0 (by omega);rw[dv];exact K 1 (by omega);rw[dv];exact K 2 (by omega)
    ·rw[dv];exact K 3 (by omega))
  (λW h z hh=>(by rw[Array.empty_append];exact P W h z.1 hh:Calls prog y (#[]++ #[.agg (kA (bD af h))]++lb) W (λe m=>e=.returned (.bool (q h))/\Inv (h+1) m/\W.grownBy m (some sb))).mono (λe m ⟨he,hi,hg⟩=>⟨⟨q h,he,Iff.rfl⟩,hi,z.2.1.same (hg.block g (bK bM z.2.2) (λe=>bb (aJ e).symm)),bC z.2.2 hg.size⟩)))
 replace hI:=J hI;replace h0:=J h0;replace P:=J P;replace G:=J G;replace b:=J b;obtain⟨cw,bP⟩:=a9;unfold maxLen at bP;go_enter func236,ntmps236;go_wp2_with fail;refine(Z hX).mono ?_;rintro e w1(⟨k,hk,rfl,bj,L,t,p,br⟩|⟨rfl,L,t,p,br⟩)
 ·have bS:((k:Int)== -1)=false:=by rw[beq_eq_false_iff_ne];omega
  have b4:k<=af.length:=by have:=Z b;omega
  have l:kp af q (k+1)=af.take k:=by
   unfold kp;rw[aM bj,zM af q k b4 (λi hi=>by have:=L i hi;simpa using this)]
  have A:iN w1 g cap af (kp af q (k+1)) (k+1) F:=by
   rw[l];refine⟨p.aG,p.sz,by rw[cC];omega,λx B=>?_,λx h1 h2=>p.rest x (by omega) h2⟩
   rw[cC]at B;rw[FE _ _ _ (by omega)];exact p.rest x (by omega) (by omega)
  have Q:(kp af q (k+1)).length=k:=by rw[l,cC];omega
  replace A:=J A;replace t:=J t;clear p L bj l;go_wp2_with fail;go_loopw [5,6] (λiv jv wr=>∃(j:Nat)(d:Array Value),k+1<=j/\j<=n/\iv=.int .i64 ((kp af q j).length:Int)/\jv=.int .i64 (j:Int)/\(kp af q j).length<j/\Inv j wr/\iN wr g cap af (kp af q j) j d/\w.heap.size<=wr.heap.size) (λ_ jv _=>n-(intOf jv).toNat);case atStart=>exact⟨k+1,F,aI _,by omega,by rw[Q],by simp,by rw[Q];omega,Z t,Z A,br⟩
  case round=>
   obtain⟨j,d,cx,cy,rfl,rfl,bt,C,f,cR⟩:=hrel;obtain⟨M,N⟩:=exq (kp af q j);rw[<-N]at bt f⊢;obtain⟨i,hi⟩:=exq M.length;rw[<-hi]at bt⊢;replace N:=J N;replace hi:=J hi;by_cases b5:j<n
   ·have d1:decide ((j:Int)<(n:Int))=true:=bp (by omega);have i1:(j:Int)<(n:Int):=by omega
    have i2:(i:Int)<(n:Int):=by omega
    have i3:i<n:=by omega
    obtain⟨y0,y1,y2,y3⟩:=f.at (by have:=Z b;omega);have hF:=J (λW(g1:wr.grownBy W none)=>Z P W j (Z G _ _ _ C (cO g1 _)) b5);obtain⟨pa,D,E,ax⟩:=eS _ (nF (i:=j) (by have:=Z b;omega));obtain⟨kt,l⟩:=exq (bD af j);rw[<-l]at y0 y1 y2 y3 hF ax;obtain⟨⟨num,tick,st,ps⟩,sv⟩:=kt;simp only at y0 y1 y2 y3 ax;subst ax;unfold kA at hF;simp only at hF;obtain⟨qj,a0⟩:=exq (q j);rw[<-a0]at hF;have bx:Hid (kp af q (j+1)=if qj then M else M++[(⟨num,tick,st,ps⟩,.slice pa D E)]):=J (by rw[kp,<-a0,l,Z N]);clear a0;replace l:=J l;obtain⟨S,T⟩:=exq (wr.alloc (.cells #[.int .u64 num,.int .i64 tick,.int .i64 st,.slice pa D E] 325));have g3:wr.grownBy S none:=by rw[T];exact aC _ _ _
    have O:S.heap[wr.heap.size]?=some (.cells #[.int .u64 num,.int .i64 tick,.int .i64 st,.slice pa D E] 325 (0,0)):=by rw[T];exact aH _ _
    have b6:wr.heap.size<S.heap.size:=(aO.1 O).1;obtain⟨b0,b1,b2,b3⟩:=lA O;have bz:=J (Z hF S g3);replace C:=J C;replace O:=J O;clear hF;go_wp2_with fail;rw[<-T];clear T;go_wp2_with fail;refine(Z bz).mono ?_;rintro e s⟨rfl,U,g4⟩;have r:iN s g cap af M j d:=f.same ((g4.block g (by omega) (λe=>bb (aJ e).symm)).trans (g3.block g (by omega) (by simp)));have a1:=(g4.block wr.heap.size b6 (λe=>by have:=aJ e;omega)).trans (Z O);have b7:w.heap.size<=s.heap.size:=by have:=g4.size;omega
    replace U:=J U;clear y0 y1 y2 y3 b0 b1 b2 b3 f bz;cases qj
    ·obtain⟨b0,b1,b2,b3⟩:=lA a1;have c9:d.size=cap*4:=r.sz;have ex:∀c,c<4->∃u,s.cell? ⟨g,i*4+c,none⟩=some u:=λc K=>by
      rw[aU r.aG];exact⟨d[i*4+c]'(by omega),Array.getElem?_eq_getElem (by omega)⟩
     obtain⟨u0,z0⟩:=ex 0 (by omega);obtain⟨u1,z1⟩:=ex 1 (by omega);obtain⟨u2,z2⟩:=ex 2 (by omega);obtain⟨u3,z3⟩:=ex 3 (by omega);rw[lO]at z0;have f0:s.frozen? ⟨g,i*4,none⟩=false:=by simp[World.frozen?,r.aG]
     have f1:s.frozen? ⟨g,i*4+1,none⟩=false:=by simp[World.frozen?,r.aG]
     have f2:s.frozen? ⟨g,i*4+2,none⟩=false:=by simp[World.frozen?,r.aG]
     have f3:s.frozen? ⟨g,i*4+3,none⟩=false:=by simp[World.frozen?,r.aG]
     obtain⟨W5,V⟩:=exq ((((s.setCell ⟨g,i*4,none⟩ (.int .u64 num)).setCell ⟨g,i*4+1,none⟩ (.int .i64 tick)).setCell ⟨g,i*4+2,none⟩ (.int .i64 st)).setCell ⟨g,i*4+3,none⟩ (.slice pa D E));have bL:=zN (o:=i*4) r.aG (.int .u64 num) (.int .i64 tick) (.int .i64 st) (.slice pa D E);rw[<-V]at bL;obtain⟨g5,a2⟩:=bL;rw[Z hi]at a2;have b8:=J (r.put (W':=W5) (by have:=Z hi;omega) (by have:=Z b;omega) (by have:=Z b;omega) (⟨num,tick,st,ps⟩,.slice pa D E) a2);clear a2;replace V:=J V;have ca:=J (Z G _ _ _ (Z U) g5);have db:=g5.size;clear ex r;replace a1:=J a1;go_wp2_with fail;rw[<-Z V];obtain⟨cf,X⟩:=Z b8;have v:=Z bx;simp only[gM,gp]at v;have a3:(kp af q (j+1)).length=i+1:=by rw[v,bG,List.length_singleton,<-Z hi]
     exact⟨⟨j+1,cf,by omega,by omega,by rw[a3];simp,by simp,by omega,Z ca,by rw[v];exact X,by omega⟩,by simp[intOf];omega⟩
    go_wp2_with fail;go_roundw;case measure=>simp[intOf];omega
    case rel=>
     have v:=Z bx;simp only[fJ]at v;have a3:(kp af q (j+1)).length=i:=by rw[v,<-Z hi]
     exact⟨j+1,d,by omega,by omega,by rw[a3],by simp,by omega,Z U,by rw[v];exact r.skip rfl,b7⟩
   have d1:decide ((j:Int)<(n:Int))=false:=bB (by omega);obtain rfl:j=n:=by omega
   have de:¬cap=i:=by omega
   have i2:(i:Int)<=(j:Int):=by omega
   have i3:(i:Int)<=(cap:Int):=by omega
   have i4:i<=j:=by omega
   have cg:i*4+(j-i)*4<=d.size:=by rw[f.sz];omega
   have ch:=J f.aG;have dg:g<wr.heap.size:=by omega
   replace C:=J C;obtain⟨zs,dk,cj⟩:=zL (w:=wr) 0 222 325 _ 4 (by omega) underlying222 FD (by rfl) (by simp[Value.cells];exact⟨rfl,rfl,rfl⟩) g (i*4) (j-i) (cap-i) d _ (Z ch) (by omega) cg;obtain⟨W6,Y⟩:=exq (wr.setRow g (d.toList.take (i*4)++zs++d.toList.drop (i*4+(j-i)*4)).toArray);rw[<-Y]at cj;have g6:wr.grownBy W6 (some g):=by rw[Y];exact tX _ _ _
   have X:iN W6 g cap af M j (d.toList.take (i*4)++zs++d.toList.drop (i*4+(j-i)*4)).toArray:=by
    have hs:=f.sz;refine⟨by rw[Y];exact setRow_heap wr g _ _ _ _ f.aG,?_,f.le,λx B=>?_,λx h1 h2=>?_⟩
    simp only[sa,bG,cC,dO,pB];omega;have cp:x<i*4:=by rw[Z hi];exact B
    rw[<-f.ahead x B,od,eA,nk (by rw[cC,pB];omega),jO,aM cp,py];have:=Z b;omega
   have a4:Hid (R (.returned (.slice (some ⟨g,0,none⟩) i cap)) W6):=J (by
    have Q:=Z N;rw[Z I,<-Q];refine⟨by rw[Z hi],?_,Z G _ _ _ (Z C) g6⟩
    exact X.own a8 ⟨by have:=Z hi;omega,by unfold maxLen;omega⟩)
   clear Y X;replace f:=J f;go_wp2_with fail;exact Z a4
 have bS:((-1:Int)== -1)=true:=rfl;have l:kp af q n=af:=by
  rw[Z b,zM af q af.length (aI _) (λi hi=>by have:=L i (by have:=Z b;omega);simpa using this),lh]
 have A:iN w1 g cap af af n F:=⟨p.aG,p.sz,by rw[Z b];exact aI _,λx B=>p.rest x (by omega) B,λx h1 h2=>by have:=Z b;omega⟩
 have a4:Hid (R (.returned (.slice (some ⟨g,0,none⟩) n cap)) w1):=J (by
  rw[Z I,l];refine⟨by rw[Z b],?_,t⟩
  exact A.own a8 ⟨by have:=Z b;omega,by unfold maxLen;omega⟩)
 clear p A L l;replace t:=J t;go_wp2_with fail;exact Z a4
