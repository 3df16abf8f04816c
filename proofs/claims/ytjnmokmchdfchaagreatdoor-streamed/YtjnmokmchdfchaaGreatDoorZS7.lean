import Derived.Test.YtjnmokmchdfchaaGreatDoorZS2
import Derived.Test.YtjnmokmchdfchaaGreatDoorZS4
import Derived.Test.YtjnmokmchdfchaaGreatDoorZS5
set_option maxRecDepth 1000000
set_option maxHeartbeats 0
set_option linter.all false
namespace Go.Proofs.YtjnmokmchdfchaaGreatDoor
open Go.RowKit Tryz
open Go.Value renaming int→I,slice→Y,bool→β,pointer→π,agg→ε,string→ς,tuple→τ
open Go.IntKind renaming i64→X,u64→U,u8→Δ
open Go.Ending renaming returned→ξ
open Go.Obj renaming cells→ο
open Or renaming inl→φ,inr→ψ
open Option renaming some→E,none→N
open Bool renaming true→ρ,false→θ
open Go renaming World→D,Value→υ
open Go.World renaming grownBy→G,cell?→κ,frozen?→χ,setCell→ζ
attribute[local go_sem↓]Go.wp_at_zero Go.wp_at_succ
variable{C c:Array υ}{B:Bool}{s:List Rg}{b i j k l m n o:Nat}{P S:Nat->Prop}{a:Option Addr}{H:Ot}{T:TypeId}{x y z:υ}{W w:D}
structure tI(w b:D)(sb:Nat)(t:TypeId)(c a:Array υ)(lo n:Nat)(d e:υ):Prop where
 aG:b.heap[sb]?=E (ο a t (0,0))
 sz:a.size=c.size
 out:∀i,i<lo\/lo+n<=i->a[i]?=c[i]?
 aA:aj w b (λk=>k=sb\/d.ownBlock=E k)
 new:e.ownBlock=d.ownBlock\/∀k,e.ownBlock=E k->w.heap.size<=k
def zH(w b:D)(d vc a:υ):Prop:=a=vc\/∀y n c,a=Y (E y) n c->w.heap.size<=y.block/\y.block<b.heap.size/\d.ownBlock≠E y.block
structure iY(w:D)(f:Nat)(b:Array υ)(d:Nat)(e vc:υ)(s:It):Prop where
 c0:b[d]?=E (I U s.h.fr)
 c1:b[d+1]?=E e
 c2:b[d+2]?=E vc
 c3:b[d+3]?=E (I U s.high)
 c4:b[d+4]?=E (I U s.last)
 c5:b[d+5]?=E (I U s.code)
 c6:b[d+6]?=E (β s.ended)
 c7:b[d+7]?=E (β s.given)
 c8:b[d+8]?=E (β s.over)
 own:aS w f e s.h.bytes
 set:∃a n c,vc=Y a n c/\bq w a n c s.h.af
def kY(w:D)(sb:Nat)(a vc:υ):Prop:=a.ownBlock≠E sb/\∀y n c,vc=Y (E y) n c->y.block≠sb/\a.ownBlock≠E y.block/\y.block<w.heap.size
def iY.tail{s:It}(h:iY w k c i x y s)(a:w.heap[n]?=E (ο c T (0,0))):tH w n i s:=
 ⟨(ba a _).trans h.c3,(ba a _).trans h.c4,(ba a _).trans h.c5,(ba a _).trans h.c6,(ba a _).trans h.c7,(ba a _).trans h.c8⟩
def iY.oE{s:It}(h:iY w k C i x y s):∃ab b cb ac nc d,x=Y ab b cb/\y=Y ac nc d:=by
 obtain⟨a,n,c,e,-⟩:=h.set;obtain⟨f,g,j,-⟩:=h.own.bs;grind
def iY.hd{ac:Option Addr}{s:It}(h:iY w i C j (Y a l m) (Y ac o b) s)(d:w.heap[k]?=E (ο C T (0,0)))(f:s.h.nice):iM w k j a l m ac o b s.h:=by
 refine⟨(ba d _).trans h.c0,(ba d _).trans h.c1,(ba d _).trans h.c2,h.own.eV,?_,f⟩
 let⟨g,n,c,e,p⟩:=h.set
 grind
def iY.ag{s:It}(h:iY w k C i x y s)(g:G w W N):iY W k C i x y s:=
 ⟨h.c0,h.c1,h.c2,h.c3,h.c4,h.c5,h.c6,h.c7,h.c8,h.own.ag g,by let⟨a,n,c,e,b⟩:=h.set;exact⟨a,n,c,e,b.ag g⟩⟩
def It.bad(s:It)(f:Fr):Bool:=(s.ended&&decide (s.last<bm f))||(f.fin&&s.iO (bm f))
def It.data(s:It)(f:Fr):It:=
 {s with high:=max s.high (bm f),ended:=s.ended||f.fin,last:=if f.fin then bm f else s.last,h:=if s.given then s.h else⟨s.h.fr,iP s.h.fr f.offset (bl f.data) (kK s.h.af ⟨f.offset,bm f⟩) s.h.bytes,eu s.h.af ⟨f.offset,bm f⟩⟩}
def jw(h:c[i]?=E x):i<c.size:=(aV.1 h).1
def cU(h:i<c.size:=by omega):(c.setIfInBounds i x)[i]?=E x:=by grind
def tI.tJ(b:w.heap[i]?=E (ο c T (0,0)))(g:G w W N)(lo n:Nat)(a:υ):tI w W i T c c lo n a a:=
 ⟨bp b g,Q,λ_ _=>rfl,(aj.of g).mono (nofun),φ Q⟩
structure Pc where
 x:Rg
 e:Bool
 g:Bool
structure Pk where
 num:Int
 tick:Int
 st:Int
 ps:List Pc
def tK(p:Pc):List υ:=[I U p.x.lo,I U p.x.hi,β p.e,β p.g]
def iG(l:List Pc):List υ:=l.flatMap tK
def fT(l:List Pc)(i:Nat):Pc:=l.getD i ⟨⟨0,0⟩,θ,θ⟩
def ml(w:D)(a:Option Addr)(n c:Nat)(l:List Pc):Prop:=
 (∀p∈l,p.x.ok)/\n=l.length/\n<=c/\c<=maxLen/\(c=0\/∃b o,a=E ⟨b,o,N⟩/\w.rangeAt b o (iG l))
def JD{α:Type}(f:α->List υ)(a:∀x,(f x).length=4)(l:List α):(l.flatMap f).length=l.length*4:=by
 induction l with
 |nil=>rfl
 |cons x l b=>rw[List.flatMap_cons,bS,b,a,dY];omega
def tL{α:Type}(f:α->List υ)(b:∀x,(f x).length=4)(l:List α)(i j:Nat)(x:α)(a:l[i]?=E x)(c:j<4):(l.flatMap f)[i*4+j]?=(f x)[j]? :=by
 induction l generalizing i with
 |nil=>cases a
 |cons y l d=>
  grind
def ml.dR{l:List Pc}(h:ml w a n k l)(e:l≠[]->∀x,a=E x->W.heap[x.block]?=w.heap[x.block]?):ml W a n k l:=by
 let⟨f,g,i,m,c⟩:=h
 refine⟨f,g,i,m,?_⟩
 obtain c|⟨b,o,rfl,c⟩:=c
 omega;refine ψ ⟨b,o,Q,?_⟩;by_cases hl:l=[]
 subst hl;intro j v d;simp[iG]at d;intro j v d;exact(iB (w:=w) (a:=⟨b,o+j,_⟩) (e hl ⟨b,o,_⟩ Q)).trans (c j v d)
def xJ{l:List Pc}(h:i<l.length):l[i]?=E (fT l i):=by simp[fT,List.getD,h]
def xK{l:List Pc}(h:i<l.length):fT l i∈l:=uK (xJ h)
def ml.cell{l:List Pc}(h:ml w (E ⟨b,o,N⟩) n k l)(i:Nat)(hi:i<l.length):κ w ⟨b,o+i*4,N⟩=E (I U (fT l i).x.lo)/\κ w ⟨b,o+i*4+1,N⟩=E (I U (fT l i).x.hi)/\κ w ⟨b,o+i*4+2,N⟩=E (β (fT l i).e)/\κ w ⟨b,o+i*4+3,N⟩=E (β (fT l i).g):=by
 obtain⟨-,f,m,-,a|⟨p,q,e,a⟩⟩:=h;omega;cases e;have c:=λj d=>tL tK (λ_=>rfl) l i j _ (xJ hi) d
 refine⟨a _ _ (c 0 O),?_,?_,?_⟩
 rw[pS];exact a _ _ (c 1 O);rw[pS];exact a _ _ (c 2 O);rw[pS];exact a _ _ (c 3 O)
def ml.ag{l:List Pc}(h:ml w a n k l)(g:G w W N):ml W a n k l:=by
 by_cases hl:l=[]
 exact h.dR (λh=>absurd hl h);refine h.dR (λ_ x b=>?_);subst b;obtain⟨-,d,f,-,c|⟨i,j,e,c⟩⟩:=id h;simp_all;cases e;exact g.block _ (eI w _ (h.cell 0 (qt.2 hl)).1) Γ
abbrev Kt:=Pk×υ
def lP(x:Kt):List υ:=[I U x.1.num,I X x.1.tick,I X x.1.st,x.2]
def iZ(l:List Kt):List υ:=l.flatMap lP
def si(l:List Kt):(iZ l).length=l.length*4:=JD lP (λ_=>rfl) l
def bZ(l:List Kt)(i:Nat):Kt:=l.getD i (⟨0,0,0,[]⟩,Y N 0 0)
def pq{l:List Kt}(h:i<l.length):l[i]?=E (bZ l i):=by simp[bZ,List.getD,h]
def pX{l:List Kt}(h:i<l.length):bZ l i∈l:=uK (pq h)
def oF(w:D)(S:Nat->Prop)(l:List Kt):Prop:=∀x∈l,∃a n c,x.2=Y a n c/\ml w a n c x.1.ps/\∀y,a=E y->¬S y.block/\y.block<w.heap.size
def oF.aA{l:List Kt}(h:oF w S l)(C:aj w W P)(f:∀k,k<w.heap.size->P k->S k):oF W S l:=λx g=>by
 obtain⟨a,n,c,e,hp,d⟩:=h x g;exact⟨a,n,c,e,hp.dR (λ_ y b=>C.block _ (d y b).2 (λi=>(d y b).1 (f _ (d y b).2 i))),λy b=>⟨(d y b).1,bX (d y b).2 C.size⟩⟩
def oF.sub{l m:List Kt}(h:oF w S l)(a:∀x∈m,x∈l):oF w S m:=λx b=>h x (a x b)
def df(w:D)(a:Nat)(v:υ)(l:List Kt):Prop:=w.ownsRow a 325 4 v l.length (iZ l)
def df.lt{l:List Kt}(h:df w n x l):∀k,x.ownBlock=E k->n<=k/\k<w.heap.size:=World.ownsRow.lt h
def df.aA{l:List Kt}(h:df w n x l)(C:aj w W S)(c:∀k,x.ownBlock=E k->¬S k):df W n x l:=by
 let⟨d,a⟩:=h
 refine⟨d,?_⟩
 obtain a|⟨g,cap,cur,e1,e2,b,e⟩:=a
 simp_all;exact ψ ⟨g,_,_,e1,e2,(C.block g (aV.1 b).1 (c g (by rw[e1];rfl))).trans b,e⟩
def df.cell{l:List Kt}(h:df w k (Y a n m) l)(hl:0<n):∃g,a=E ⟨g,0,N⟩/\∀i,i<l.length->κ w ⟨g,0+i*4,N⟩=E (I U (bZ l i).1.num)/\κ w ⟨g,0+i*4+1,N⟩=E (I X (bZ l i).1.tick)/\κ w ⟨g,0+i*4+2,N⟩=E (I X (bZ l i).1.st)/\κ w ⟨g,0+i*4+3,N⟩=E (bZ l i).2:=by
 obtain⟨f,⟨p,h0⟩|⟨g,q,c,e1,e2,d,r,s,t,u⟩⟩:=h;simp_all;cases e1;refine⟨g,Q,λi hi=>?_⟩
 have b:∀j,j<4->κ w ⟨g,i*4+j,N⟩=(lP (bZ l i))[j]? :=λj e=>by
  rw[ba d,<-tL lP (λ_=>rfl) l i j _ (pq hi) e];have:c.toList[i*4+j]?=(iZ l)[i*4+j]? :=by grind
  rw[Array.getElem?_toList]at this;exact this
 refine⟨?_,?_,?_,?_⟩
 rw[eM];exact b 0 O;rw[eM];exact b 1 O;rw[eM];exact b 2 O;rw[eM];exact b 3 O
def df.fU{l:List Kt}(h:df w n x l):∃a b,x=Y a l.length b/\l.length<=b/\b<=maxLen:=by
 obtain⟨c,⟨d,h0⟩|⟨g,e,f,e1,e2,i,j,k,m,p⟩⟩:=h;grind;grind
def CC(ty t e:TypeId)(z:υ)(k:Nat)(q:0<k)(r:prog.underlying t=E (.slice e))(s:∀w,(zeroValue e).run prog w=.ok z w)(b:z.cells.size=k)(x:∀v∈z.cells.toList,v.oneCell'=ρ)(g i m c:Nat)(a:Array υ)(d:TypeId)(y:w.heap[g]?=E (ο a d (0,0)))(A:0<m)(B:i+m*k<=a.size):
 ∃f:List υ,f.length=m*k/\(Builtin.clear_ #[t] ty #[Y (E ⟨g,i,N⟩) m c]).run prog w=.ok (τ #[]) (w.setRow g (a.toList.take i++f++a.toList.drop (i+m*k)).toArray):=by
 have hl:(Builtin.zeroCells z.cells m).toList.length=m*k:=by simp[Builtin.zeroCells,b]
 refine⟨_,hl,?_⟩
 have h:=run_storeCells_at prog g i d (Builtin.zeroCells z.cells m).toList 0 a w y O (by
  intro u l;simp only[Builtin.zeroCells,b,Array.toList_map,fu]at l;obtain⟨j,-,rfl⟩:=l;have n:j %k<z.cells.size:=by rw[b];exact Nat.mod_lt _ q
  apply x _;rw[getElem!_pos z.cells (j %k) n];exact Array.getElem_mem_toList n)
 obtain⟨p,rfl⟩:∃p,m=p+1:=⟨m-1,O⟩
 rw[hl]at h;simp[Builtin.clear_,run_underlying r,s,h]
def JE(w:D):(zeroValue 325).run prog w=.ok (ε #[I U 0,I X 0,I X 0,Y N 0 0]) w:=Φ
structure jX(W:D)(g b:Nat)(aw kept:List Kt)(j:Nat)(a:Array υ):Prop where
 aG:W.heap[g]?=E (ο a 325 (0,0))
 sz:a.size=b*4
 le:kept.length<=j
 ahead:∀x,x<kept.length*4->a[x]?=(iZ kept)[x]?
 rest:∀x,j*4<=x->x<aw.length*4->a[x]?=(iZ aw)[x]?
def jX.at{aw kept:List Kt}(h:jX W n k aw kept j c)(b:j<aw.length):κ W ⟨n,j*4,N⟩=E (I U (bZ aw j).1.num)/\κ W ⟨n,j*4+1,N⟩=E (I X (bZ aw j).1.tick)/\κ W ⟨n,j*4+2,N⟩=E (I X (bZ aw j).1.st)/\κ W ⟨n,j*4+3,N⟩=E (bZ aw j).2:=by
 have a:∀i,i<4->κ W ⟨n,j*4+i,N⟩=(lP (bZ aw j))[i]? :=λi hi=>by
  rw[ba h.aG,h.rest _ O O];exact tL _ (λ_=>rfl) _ j i _ (pq b) hi
 exact⟨a 0 O,a 1 O,a 2 O,a 3 O⟩
def kp(aw:List Kt)(q:Nat->Bool):Nat->List Kt
 |0=>[]
 |j+1=>if q j then kp aw q j else kp aw q j++[bZ aw j]
def CD(aw:List Kt)(q:Nat->Bool)(j:Nat)(b:j<=aw.length)(h:∀i,i<j->q i=θ):kp aw q j=aw.take j:=by
 induction j with
 |zero=>simp[kp]
 |succ j a=>
  unfold kp;rw[h j O,aE Γ,a O (λi hi=>h i O),tq,pq O];rfl
def zM(aw:List Kt)(q:Nat->Bool)(a:Kt->Bool)(h:∀i,i<aw.length->q i=a (bZ aw i))(j:Nat)(c:j<=aw.length):kp aw q j=(aw.take j).filter (λx=> !a x):=by
 induction j with
 |zero=>simp[kp]
 |succ j b=>
  unfold kp;rw[h j O,b O,tq,pq O,Option.toList_some,List.filter_append];grind
def JF(l:List Kt)(k:Nat)(x:Nat)(b:x<k*4):(iZ (l.take k))[x]?=(iZ l)[x]? :=by
 by_cases hl:x<l.length*4;have e:x=x/4*4+x %4:=O;have a:x/4<l.length:=O;rw[e];unfold iZ;rw[tL lP (λ_=>rfl) l _ _ _ (pq a) O,tL lP (λ_=>rfl) (l.take k) _ _ (bZ l (x/4)) (by rw[tn,è];exact pq a) O];rw[rT (l:=iZ l) (by rw[si];omega),rT (l:=iZ (l.take k)) (by rw[si,dK];omega)]
def JG(l:List Kt)(x:Kt):iZ (l++[x])=iZ l++lP x:=by simp[iZ]
def jX.skip{aw kept:List Kt}(h:jX W n k aw kept j c)(a:w.heap[n]?=W.heap[n]?):jX w n k aw kept (j+1) c:=
 ⟨a.trans h.aG,h.sz,by have:=h.le;omega,h.ahead,λx d b=>h.rest x O b⟩
def jX.same{aw kept:List Kt}(h:jX W n k aw kept j c)(a:w.heap[n]?=W.heap[n]?):jX w n k aw kept j c:=
 ⟨a.trans h.aG,h.sz,h.le,h.ahead,h.rest⟩
def jX.put{W':D}{aw kept:List Kt}{j:Nat}(h:jX W n k aw kept j c)(g:kept.length<j)(i:j<aw.length)(l:aw.length<=k)(x:Kt)
 (b:W'.heap[n]?=E (ο ((((c.setIfInBounds (kept.length*4) (I U x.1.num)).setIfInBounds (kept.length*4+1) (I X x.1.tick)).setIfInBounds (kept.length*4+2) (I X x.1.st)).setIfInBounds (kept.length*4+3) x.2) 325 (0,0))):
 ∃d,jX W' n k aw (kept++[x]) (j+1) d:=by
 have m:=h.sz;refine⟨_,b,by simp[h.sz],Ψ,λy e=>?_,λy p f=>?_⟩
 rw[bS,wK]at e;rw[JG];by_cases a:y<kept.length*4;rw[ë,ë,ë,ë,h.ahead y a,qo (by rw[si];exact a)];rw[pQ (by rw[si];omega),si];have:y=kept.length*4\/y=kept.length*4+1\/y=kept.length*4+2\/y=kept.length*4+3:=O;obtain rfl|rfl|rfl|rfl:=this
 rw[ë,ë,ë,cU,tw];rfl;rw[ë,ë,cU Ψ,sZ];rfl;rw[ë,cU Ψ,sZ];rfl;rw[cU Ψ,sZ];rfl;rw[ë,ë,ë,ë,h.rest y O f]
def jX.own{aw kept:List Kt}(h:jX W n k aw kept j c)(b:i<=n)(a:kept.length<=k/\k<=maxLen):df W i (Y (E ⟨n,0,N⟩) kept.length k) kept:=by
 refine⟨si _,ψ ⟨n,_,_,Q,b,h.aG,a.1,a.2,h.sz,?_⟩⟩
 apply List.ext_getElem?;intro x;rw[tn];split;rename_i d;rw[Array.getElem?_toList];exact h.ahead x d;rw[rT (by rw[si];omega)]
def m8{a:υ}(h:w.heap[b]?=E (ο #[x,y,z,a] T (0,0))):κ w ⟨b,0,N⟩=E x/\κ w ⟨b,1,N⟩=E y/\κ w ⟨b,2,N⟩=E z/\κ w ⟨b,3,N⟩=E a:=by
 simp[κ,h]
def CE(h:w.heap[n]?=E (ο c T (0,0)))(a b d e:υ):G w ((((ζ w ⟨n,o,N⟩ a).setCell ⟨n,o+1,N⟩ b).setCell ⟨n,o+2,N⟩ d).setCell ⟨n,o+3,N⟩ e) (E n)/\((((ζ w ⟨n,o,N⟩ a).setCell ⟨n,o+1,N⟩ b).setCell ⟨n,o+2,N⟩ d).setCell ⟨n,o+3,N⟩ e).heap[n]?=E (ο ((((c.setIfInBounds o a).setIfInBounds (o+1) b).setIfInBounds (o+2) d).setIfInBounds (o+3) e) T (0,0)):=
 ⟨aD (aD (aD (aD (au w (E n)) ⟨n,o,N⟩ a (ψ Q)) ⟨n,o+1,N⟩ b (ψ Q)) ⟨n,o+2,N⟩ d (ψ Q)) ⟨n,o+3,N⟩ e (ψ Q),heap_set (heap_set (heap_set (heap_set h a) b) d) e⟩
def kA(x:Kt):Array υ:= #[I U x.1.num,I X x.1.tick,I X x.1.st,x.2]
def zN(g n b cc z sb:Nat)(lb:Array υ)(aw:List Kt)(w:D)(q:Nat->Bool)(Inv:Nat->D->Prop)(L:Array υ)
 (cf:cc<=g) (d:n=aw.length) (ch:n<=b/\b<=maxLen) (fj:∀x∈aw,∃a n c,x.2=Y a n c) (h0:jX w g b aw [] 0 L) (e7:sb<w.heap.size) (cm:sb≠g)
 (eg:∀args w,(callFunc z args).run prog w=.ok (.enter z args) w) (hI:Inv 0 w)
 (M:∀(W l:D)(h:Nat),Inv h W->G W l (E g)->Inv h l)
 (hf:∀(W:D)(h:Nat),Inv h W->h<n->Calls prog z (#[ε (kA (bZ aw h))]++lb) W (λe l=>e=ξ (β (q h))/\Inv (h+1) l/\G W l (E sb))):
 Calls prog 236 #[Y (E ⟨g,0,N⟩) n b,.func (.func z) #[] lb] w λe w'=>e=ξ (Y (E ⟨g,0,N⟩) (kp aw q n).length b)/\df w' cc (Y (E ⟨g,0,N⟩) (kp aw q n).length b) (kp aw q n)/\Inv n w':=by
 refine fL λR hR=>?_
 replace hR:=J hR;have du:=(aV.1 h0.aG).1;have hX:=J ((zL.1 (λh=>I U (bZ aw h).1.num) (λh=>I X (bZ aw h).1.tick) (λh=>I X (bZ aw h).1.st) (λh=>(bZ aw h).2)).1 (E ⟨g,0,N⟩) g 0 n b z #[] lb w (λh=>q h=ρ) (λh W=>Inv h W/\jX W g b aw [] 0 L/\w.heap.size<=W.heap.size) (λ_=>rfl) ch eg ⟨hI,h0,aP _⟩
  (λW h A hh=>by
    have hm:=A.2.1;have P:∀i,i<4->κ W ⟨g,h*4+i,N⟩=(lP (bZ aw h))[i]? :=λi hi=>by
     rw[ba hm.aG,hm.rest _ O O];exact tL lP (λ_=>rfl) aw h i _ (pq O) hi
    refine⟨?_,?_,?_,?_⟩
    rw[eM];exact P 0 O;rw[eM];exact P 1 O;rw[eM];exact P 2 O
    .rw[eM];exact P 3 O)
  (λW h A hh=>(by rw[Array.empty_append];exact hf W h A.1 hh:Calls prog z (#[]++ #[ε (kA (bZ aw h))]++lb) W (λe l=>e=ξ (β (q h))/\Inv (h+1) l/\G W l (E sb))).mono (λe l ⟨he,hi,hg⟩=>⟨⟨q h,he,Iff.rfl⟩,hi,A.2.1.same (hg.block g (bX du A.2.2) (λe=>cm (aR e).symm)),bG A.2.2 hg.size⟩)))
 replace⟨hI,h0,hf,M,d⟩:=gT hI h0 hf M d;let⟨e8,ea⟩:=ch
 unfold maxLen at ea;go_enter func236,ntmps236;go_wp2_with fail;apply(Z hX).mono;rintro e w1(⟨k,hk,rfl,eb,ao,t,s,cx⟩|⟨rfl,ao,t,s,cx⟩)
 .have ec:((k:Int)== -1)=θ:=by rw[ze];omega
  have ed:k<=aw.length:=by have:=Z d;omega
  have m:kp aw q (k+1)=aw.take k:=by
   unfold kp;rw[aH eb,CD aw q k ed (λi hi=>by have:=ao i hi;simpa using this)]
  have B:jX w1 g b aw (kp aw q (k+1)) (k+1) L:=by
   rw[m];refine⟨s.aG,s.sz,by rw[dK];omega,λx C=>?_,λx h1 h2=>s.rest x O h2⟩
   rw[dK]at C;rw[JF _ _ _ O];exact s.rest x O O
  have ax:(kp aw q (k+1)).length=k:=by rw[m,dK];omega
  replace⟨B,t⟩:=aT B t;go_wp2;go_loopw [5,6] (λiv jv wr=>∃(j:Nat)(p:Array υ),k+1<=j/\j<=n/\iv=I X ((kp aw q j).length:Int)/\jv=I X j/\(kp aw q j).length<j/\Inv j wr/\jX wr g b aw (kp aw q j) j p/\w.heap.size<=wr.heap.size) (λ_ jv _=>n-(intOf jv).toNat);case atStart=>exact⟨k+1,L,aP _,O,by rw[ax],Γ,by rw[ax];omega,Z t,Z B,cx⟩
  case round=>
   obtain⟨j,p,fa,fb,rfl,rfl,c9,F,f,fc⟩:=hrel;obtain⟨kl,S⟩:=í (kp aw q j);rw[<-S]at c9 f⊢;obtain⟨i,hi⟩:=í kl.length;rw[<-hi]at c9⊢;replace⟨S,hi⟩:=aT S hi;by_cases ei:j<n
   .have d1:decide ((j:Int)<n)=ρ:=α;have i1:(j:Int)<n:=O;have i2:(i:Int)<n:=O;have i3:i<n:=O;let⟨y0,y1,y2,y3⟩:=f.at (by have:=Z d;omega)
    have hF:=J (λW(g1:G wr W N)=>Z hf W j (Z M _ _ _ F (cK g1 _)) ei);let⟨pa,H,K,bA⟩:=fj _ (pX (i:=j) (by have:=Z d;omega))
    obtain⟨kt,m⟩:=í (bZ aw j);rw[<-m]at y0 y1 y2 y3 hF bA;let⟨⟨num,tick,st,ps⟩,sv⟩:=kt
    simp only at y0 y1 y2 y3 bA;subst bA;unfold kA at hF;simp only at hF;obtain⟨qj,bM⟩:=í (q j);rw[<-bM]at hF;have db:Hid (kp aw q (j+1)=if qj then kl else kl++[(⟨num,tick,st,ps⟩,Y pa H K)]):=J (by rw[kp,<-bM,m,Z S]);clear bM;replace m:=J m;obtain⟨W3,a1⟩:=í (wr.alloc (ο #[I U num,I X tick,I X st,Y pa H K] 325));have g3:G wr W3 N:=by rw[a1];exact aC _ _ _
    have T:W3.heap[wr.heap.size]?=E (ο #[I U num,I X tick,I X st,Y pa H K] 325 (0,0)):=by rw[a1];exact aM _ _
    have er:=(aV.1 T).1;let⟨b0,b1,b2,b3⟩:=m8 T
    have dg:=J (Z hF W3 g3);replace⟨F,T⟩:=aT F T;clear hF;go_wp2_with fail;rw[<-a1];clear a1;go_wp2_with fail;apply(Z dg).mono;rintro e v⟨rfl,a2,g4⟩;have r:=f.same ((g4.block g O (λe=>cm (aR e).symm)).trans (g3.block g O Γ));have b5:=(g4.block wr.heap.size er (λe=>by have:=aR e;omega)).trans (Z T);have et:w.heap.size<=v.heap.size:=by have:=g4.size;omega
    replace a2:=J a2;clear y0 y1 y2 y3 b0 b1 b2 b3 f dg;cases qj
    .let⟨b0,b1,b2,b3⟩:=m8 b5
     have fo:=r.sz;have V:∀c,c<4->∃u,κ v ⟨g,i*4+c,N⟩=E u:=λc P=>by
      rw[ba r.aG];exact⟨p[i*4+c]'(by omega),Array.getElem?_eq_getElem O⟩
     let⟨u0,z0⟩:=V 0 O
     let⟨u1,z1⟩:=V 1 O
     let⟨u2,z2⟩:=V 2 O
     let⟨u3,z3⟩:=V 3 O
     rw[nA]at z0;have f0:χ v ⟨g,i*4,N⟩=θ:=by simp[χ,r.aG]
     have f1:χ v ⟨g,i*4+1,N⟩=θ:=by simp[χ,r.aG]
     have f2:χ v ⟨g,i*4+2,N⟩=θ:=by simp[χ,r.aG]
     have f3:χ v ⟨g,i*4+3,N⟩=θ:=by simp[χ,r.aG]
     obtain⟨W5,a3⟩:=í ((((ζ v ⟨g,i*4,N⟩ (I U num)).setCell ⟨g,i*4+1,N⟩ (I X tick)).setCell ⟨g,i*4+2,N⟩ (I X st)).setCell ⟨g,i*4+3,N⟩ (Y pa H K));have dk:=CE (o:=i*4) r.aG (I U num) (I X tick) (I X st) (Y pa H K);rw[<-a3]at dk;let⟨g5,b6⟩:=dk
     rw[Z hi]at b6;have ez:=J (r.put (W':=W5) (by have:=Z hi;omega) (by have:=Z d;omega) (by have:=Z d;omega) (⟨num,tick,st,ps⟩,Y pa H K) b6);clear b6;replace a3:=J a3;have eK:=J (Z M _ _ _ (Z a2) g5);have ga:=g5.size;clear V r;replace b5:=J b5;go_wp2_with fail;rw[<-Z a3];let⟨eL,a4⟩:=Z ez
     have y:=Z db;simp only[iV,iJ]at y;have b7:(kp aw q (j+1)).length=i+1:=by rw[y,bS,wK,<-Z hi]
     exact⟨⟨j+1,eL,O,O,by rw[b7];simp,Γ,O,Z eK,by rw[y];exact a4,O⟩,by simp[intOf];omega⟩
    go_wp2_with fail;go_roundw;case measure=>simp[intOf];omega
    case rel=>
     have y:=Z db;simp only[fw]at y;have b7:(kp aw q (j+1)).length=i:=by rw[y,<-Z hi]
     exact⟨j+1,p,O,O,by rw[b7],Γ,O,Z a2,by rw[y];exact r.skip rfl,et⟩
   have d1:decide ((j:Int)<n)=θ:=é;obtain rfl:j=n:=O;have gd:¬b=i:=O;have i2:(i:Int)<=j:=O;have i3:(i:Int)<=b:=O;have i4:i<=j:=O;have eS:i*4+(j-i)*4<=p.size:=by rw[f.sz];omega
   have e3:=J f.aG;have gg:g<wr.heap.size:=O;replace F:=J F;let⟨zs,gh,e4⟩:=CC (w:=wr) 0 222 325 _ 4 O underlying222 JE Ξ (by simp[Value.cells];exact⟨Q,Q,Q⟩) g (i*4) (j-i) (b-i) p _ (Z e3) O eS
   obtain⟨W6,a8⟩:=í (wr.setRow g (p.toList.take (i*4)++zs++p.toList.drop (i*4+(j-i)*4)).toArray);rw[<-a8]at e4;have g6:G wr W6 (E g):=by rw[a8];exact xj _ _ _
   have a4:jX W6 g b aw kl j (p.toList.take (i*4)++zs++p.toList.drop (i*4+(j-i)*4)).toArray:=by
    have hs:=f.sz;refine⟨by rw[a8];exact setRow_heap wr g _ _ _ _ f.aG,?_,f.le,λx C=>?_,λx h1 h2=>?_⟩
    simp only[wR,bS,dK,fD,uM];omega;have e6:x<i*4:=by rw[Z hi];exact C
    rw[<-f.ahead x C,tf,eF,qo (by rw[dK,uM];omega),tn,aH e6,Array.getElem?_toList];have:=Z d;omega
   have ca:Hid (R (ξ (Y (E ⟨g,0,N⟩) i b)) W6):=J (by
    have ax:=Z S;rw[Z hR,<-ax];refine⟨by rw[Z hi],?_,Z M _ _ _ (Z F) g6⟩
    exact a4.own cf ⟨by have:=Z hi;omega,by unfold maxLen;omega⟩)
   clear a8 a4;replace f:=J f;go_wp2_with fail;exact Z ca
 have ec:((-1:Int)== -1)=ρ:=rfl;have m:kp aw q n=aw:=by
  rw[Z d,CD aw q aw.length (aP _) (λi hi=>by have:=ao i (by have:=Z d;omega);simpa using this),kC]
 have B:jX w1 g b aw aw n L:=⟨s.aG,s.sz,by rw[Z d];exact aP _,λx C=>s.rest x O C,λx h1 h2=>by have:=Z d;omega⟩
 have ca:Hid (R (ξ (Y (E ⟨g,0,N⟩) n b)) w1):=J (by
  rw[Z hR,m];refine⟨by rw[Z d],?_,t⟩
  exact B.own cf ⟨by have:=Z d;omega,by unfold maxLen;omega⟩)
 clear s B ao m;replace t:=J t;go_wp2_with fail;exact Z ca
def JH:(prog.info? 325).map (λi=>(i.zero,i.size,i.bytes))=E (E (ε #[I U 0,I X 0,I X 0,Y N 0 0]),4,48):=Φ
def JI(ty:TypeId)(d:Nat)(v:υ)(l:List Kt)(m:df w d v l)(b c:Nat)(x:Kt)(p:∃a n c,x.2=Y a n c)(h0:w.rangeAt b 0 (lP x))(H:l.length<=100000000)(q:d<=w.heap.size):
 ∃f h i e,(Builtin.append_ #[222,222] ty #[v,Y (E ⟨b,0,N⟩) 1 c]).run prog w=.ok (Y f h i) e/\df e d (Y f h i) (l++[x])/\G w e v.ownBlock/\((Y f h i).ownBlock=v.ownBlock\/(Y f h i).ownBlock=E w.heap.size):=by
 let⟨r,hi,s,t,y⟩:=kV JH
 let⟨K,L,M,z⟩:=p
 let⟨A,e,R,B,S,_,T⟩:=run_append_own_at (P:=prog) w d 222 ty 325 r _ 4 48 underlying222 hi s t y Q Θ v l.length (iZ l) m ⟨b,0,N⟩ 1 c (iZ [x]) (by simp[iZ,lP]) (by
  intro j u C;rw[Addr.add_mid];exact h0 j u (by simpa [iZ]using C)) (by
  intro u k;simp[iZ,lP,z]at k;obtain rfl|rfl|rfl|rfl:=k<;>rfl) (by simp[maxLen];omega) O q
 have F:df e d A (l++[x]):=by
  unfold df;rw[bS,show iZ (l++[x])=iZ l++iZ [x] by simp[iZ]];exact B
 obtain⟨-,⟨rfl,e2⟩|⟨g,V,W,rfl,_⟩⟩:=id F;simp_all;grind
def CF{k:Array Oper}{o:Oper}{a:Act}{K:Act->D->Prop}{m:Exit->Act->D->Prop}{p:Prop}(q:o.guard=N)(s x:Operand)
 (r:o.op=.call {callee:=.builtin .append,args:= #[s,x],argTypes:= #[222,222]})
 (i:Nat) (v:υ) (l:List Kt) (hs:a.eval s=v) (t:df w i v l) (b c:Nat) (j:Kt) (u:∃a n c,j.2=Y a n c) (y:a.eval x=Y (E ⟨b,0,N⟩) 1 c) (h0:w.rangeAt b 0 (lP j)) (z:l.length<=100000000) (A:i<=w.heap.size)
 (h:∀d e f g,df g i (Y d e f) (l++[j])->G w g v.ownBlock->((Y d e f).ownBlock=v.ownBlock\/(Y d e f).ownBlock=E w.heap.size)->
   K (a.put o.dst (Y d e f)) g):if Region.wanted o (yielded k a.tmps)=ρ then Oper.wp prog o a w K m else p:=by
 have B:Region.wanted o (yielded k a.tmps)=ρ:=by simp[Region.wanted,q]
 rw[aH B];let⟨d,e,f,g,C,F,H,L⟩:=JI (w:=w) o.type i v l t b c j u h0 z A
 unfold Oper.wp execOp;simp only[r,resolve,invoke,builtin,jL,ny,jC,oh,kD,oq,hs,y,C]
 exact h d e f g F H L
structure jx(w:D)(c:Nat)(a:Array υ)(b:Nat)(d e:υ)(lf ll:List Kt)(count tick wait:Int):Prop where
 c0:a[b]?=E (I U count)
 c1:a[b+1]?=E (I X tick)
 c2:a[b+2]?=E (I X wait)
 c3:a[b+3]?=E d
 c4:a[b+4]?=E e
 of:df w c d lf
 ol:df w c e ll
def JJ(w:D)(sb b c:Nat)(v:υ)(lf:List Kt)(c3:κ w ⟨sb,b+3,N⟩=E v)(of:df w c v lf):Calls prog 208 #[π (E ⟨sb,b,N⟩)] w λr d=>r=ξ (β (decide (10<=(lf.length:Int))))/\d=w:=by
 obtain⟨a,e,rfl,-⟩:=of.fU;go_enter func208,ntmps208;go_wp2;go_ret;exact⟨Q,Q⟩
def CG(w:D)(sb a:Nat)(b:Array υ)(t:TypeId)(count:Int)(c:w.heap[sb]?=E (ο b t (0,0)))(c0:b[a]?=E (I U count))(e:0<=count/\count<=4611686018427387903):Calls prog 205 #[π (E ⟨sb,a,N⟩)] w λr d=>r=ξ (I U count)/\G w d (E sb)/\d.heap[sb]?=E (ο (b.setIfInBounds a (I U (count+1))) t (0,0)):=by
 have d0:=(ba c a).trans c0;have f0:χ w ⟨sb,a,N⟩=θ:=ç c;go_enter func205,ntmps205;go_wp2;go_ret;refine⟨?_,aD (au _ _) _ _ (ψ Q),heap_set c _⟩
 congr 2
def JK(w:D)(sb b:Nat)(tick wait:Int)(c1:κ w ⟨sb,b+1,N⟩=E (I X tick))(c2:κ w ⟨sb,b+2,N⟩=E (I X wait))(x:Kt)(h:0<=tick/\tick<=1000000000000)(i:0<=x.1.tick/\x.1.tick<=1000000000000):
 Calls prog 198 #[π (E ⟨sb,b,N⟩),ε (kA x)] w λr f=>r=ξ (β (decide (wait<=tick-x.1.tick)))/\G w f N:=by
 let⟨⟨num,tk,st,ps⟩,d⟩:=x
 unfold kA at *;simp only at *;obtain⟨e,a⟩:=í (w.alloc (ο #[I U num,I X tk,I X st,d] 325));have c:G w e N:=by rw[a];exact aC _ _ _
 have g:e.heap[w.heap.size]?=E (ο #[I U num,I X tk,I X st,d] 325 (0,0)):=by rw[a];exact aM _ _
 obtain⟨-,j,-,-⟩:=m8 g;have d1:=ì c c1;have d2:=ì c c2;go_enter func198,ntmps198;go_wp2_with fail;rw[<-a];clear a;go_quiet (fail);go_wp2;go_ret;exact⟨Q,cu c _⟩
def JL(w:D)(x:Kt):Calls prog 200 #[ε (kA x)] w λr a=>r=ξ (β ρ)/\G w a N:=by
 unfold kA;go_enter func200,ntmps200;go_wp2;go_ret;exact⟨Q,by repeat(first|exact au _ _|apply cu|apply aK|apply aW)⟩
def df.gb{w:D}{l:List Kt}{r:Option Nat}(h:df w n x l)(g:G w W r)(a:x.ownBlock=N\/x.ownBlock≠r:=by simp):df W n x l:=World.ownsRow.kept h g a
def df.ag{l:List Kt}(h:df w n x l)(g:G w W N):df W n x l:=h.gb g (by cases x.ownBlock<;>simp)
def JM(w:D)(sb c l:Nat)(m:Array υ)(t:TypeId)(p W:υ)(lf ll:List Kt)(count tick wait:Int)(L:w.heap[sb]?=E (ο m t (0,0)))(H:jx w l m c p W lf ll count tick wait)(a1:l<=w.heap.size)(z:p.ownBlock≠E sb)(hc:0<=count/\count<=4611686018427387903)(a2:lf.length<=1000000)(k:Int)(pa:Option Addr)(d f:Nat)(ps:List Pc):
 Calls prog 210 #[π (E ⟨sb,c,N⟩),I X k,Y pa d f] w λr A=>r=ξ (I U count)/\∃q,A.heap[sb]?=E (ο ((m.setIfInBounds c (I U (count+1))).setIfInBounds (c+3) q) t (0,0))/\df A l q (lf++[(⟨count,tick,k,ps⟩,Y pa d f)])/\aj w A (λi=>i=sb\/p.ownBlock=E i)/\(q.ownBlock=p.ownBlock\/∀i,q.ownBlock=E i->w.heap.size<=i):=by
 let⟨c0,c1,c2,c3,c4,of,ol⟩:=H
 have a3:=(aV.1 L).1;obtain⟨M,P,rfl,a4,a8⟩:=of.fU;go_enter func210,ntmps210;go_wp2_with fail;apply(Z (J (CG w sb c m t count L c0 hc))).mono;rintro e b⟨rfl,B,h⟩;have d1:κ b ⟨sb,c+1,N⟩=E (I X tick):=by rw[ba h,ë];exact c1
 have d3:κ b ⟨sb,c+3,N⟩=E (Y M lf.length P):=by rw[ba h,ë];exact c3
 have a9:=B.size;obtain⟨R,j⟩:=í ((b.alloc (ο #[I U count,I X tick,I X k,Y pa d f] 325)).drew);have C:G b R N:=by rw[j];exact aK (aC _ _ _)
 have F:R.heap[b.heap.size]?=E (ο #[I U count,I X tick,I X k,Y pa d f] 325 (0,0)):=by rw[j];exact aM b _
 have S:=J (mj (a:=lP (⟨count,tick,k,ps⟩,Y pa d f)) F);have T:=J ((of.gb B (ψ z)).ag C);have s:=bp h C;have bb:=C.size;rw[j]at S T s;have ak:l<=(b.alloc (ο #[I U count,I X tick,I X k,Y pa d f] 325)).drew.heap.size:=by rw[<-j];omega
 have al:sb<(b.alloc (ο #[I U count,I X tick,I X k,Y pa d f] 325)).drew.heap.size:=by rw[<-j];omega
 replace⟨F,h,s⟩:=cA F h s;have V:Hid (b.heap.size<=(b.alloc (ο #[I U count,I X tick,I X k,Y pa d f] 325)).drew.heap.size):=J (by rw[<-j];omega);have bj:sb<b.heap.size:=O;go_wp2_with fail;go_region_law ((refine CF Ξ _ _ Ξ l _ lf Ξ (Z T) _ _ (⟨count,tick,k,ps⟩,Y pa d f) ⟨_,_,_,Q⟩ Ξ (Z S) O ak ?_;intro a7 u c7 v K x y;replace K:=J K;replace y:=J y;have n:=(x.block sb al (λe=>z e.symm)).trans (Z s);have br:κ v ⟨sb,c+3,N⟩=E (Y M lf.length P):=((iB (w:=b) (a:=⟨sb,c+3,N⟩) (n.trans (Z h).symm)).trans (Z (J d3)));have f7:χ v ⟨sb,c+3,N⟩=θ:=(by simp[χ,n]);replace n:=J n;replace x:=J x));all_goals go_wp2_with fail
 all_goals
  go_ret
  have ao:(Y a7 u c7).ownBlock≠E sb:=by
   obtain e|e:=Z y
   rw[e];exact z;rw[e];intro e2;have h8:=aR e2;have:=Z V;omega
  refine⟨Q,Y a7 u c7,heap_set (Z n) _,(Z K).gb (aD (au v (E sb)) ⟨sb,c+3,N⟩ (Y a7 u c7) (ψ Q)) (ψ ao),?_,?_⟩
  have C2:aj b (b.alloc (ο #[I U count,I X tick,I X k,Y pa d f] 325)).drew (λ_=>False):=(aj.of (aK (aC b _ N))).mono (nofun)
  refine((((aj.of B).trans C2).trans (aj.of (Z x))).trans (aj.of (aD (au v (E sb)) ⟨sb,c+3,N⟩ (Y a7 u c7) (ψ Q)))).mono (λi _ g=>?_)
  obtain((g|g)|g)|g:=g
  exact φ (aR g).symm
  exact g.elim
  exact ψ g
  exact φ (aR g).symm
  obtain e|e:=Z y
  exact φ e
  refine ψ (λi hi=>?_)
  rw[e]at hi
  have h8:=aR hi
  have:=Z V
  omega
def bK(l:List Rg)(n:Int):Bool:=l.any (λr=>decide (r.lo<=n)&&decide (n<=r.hi))
def JQ(l:List Rg)(n:Int):bK l n=ρ↔∃i,i<l.length/\(an l i).lo<=n/\n<=(an l i).hi:=by
 unfold bK;rw[tu];constructor;rintro⟨r,a,h⟩;obtain⟨i,hi,rfl⟩:=ko.1 a;refine⟨i,hi,?_⟩
 simpa [an,List.getD,hi]using h;rintro⟨i,hi,h⟩;exact⟨_,lL hi,by simpa using h⟩
def tM{p:Prop}{e:Ending}(h:gR p e)(a:B=ρ↔p):e=ξ (β B):=by
 obtain⟨c,rfl,b⟩:=h;grind
def JR(W:D)(c:Nat)(y:Rg)(n:Int)(h0:κ W ⟨c,0,N⟩=E (I U n)):
 Calls prog 301 #[ε #[I U y.lo,I U y.hi],π (E ⟨c,0,N⟩)] W λe g=>gR (y.lo<=n/\n<=y.hi) e/\G W g N:=by
 let⟨a,d⟩:=y
 have j:c<W.heap.size:=eI W _ h0;obtain⟨R,b⟩:∃R:Prop,R=(a<=n/\n<=d):=⟨_,Q⟩
 have i:((⟨a,d⟩:Rg).lo<=n/\n<=(⟨a,d⟩:Rg).hi)=R:=b.symm;rw[i];replace b:=J b;go_enter func301,ntmps301;by_cases f:a<=n
 .have d1:decide (a<=n)=ρ:=bU f;go_wp2;go_ret;exact⟨oy (by rw[Z b];exact⟨λh=>⟨f,h⟩,λh=>h.2⟩),aC _ _ _⟩
 have d1:decide (a<=n)=θ:=bT f;go_wp2;go_ret;exact⟨jM (by rw[Z b];exact λh=>by have:=h.1;omega),aC _ _ _⟩
def JS(a:Option Addr)(n d:Nat)(l:List Rg)(num:Int)(w:D)(hs:bq w a n d l):
 Calls prog 288 #[Y a n d,I U num] w λe t=>e=ξ (β (bK l num))/\G w t N:=by
 obtain⟨c,f⟩:=í (w.alloc (ο #[I U num] 30));have k:G w c N:=by rw[f];exact aC _ _ _
 have u:c.heap[w.heap.size]?=E (ο #[I U num] 30 (0,0)):=by rw[f];exact aM _ _
 have v:κ c ⟨w.heap.size,0,N⟩=E (I U num):=by simp[κ,u]
 have m:=hs.ag k;obtain⟨b,o,j⟩:∃b o,0<n->a=E ⟨b,o,N⟩:=by
  by_cases x:0<n;obtain⟨-,B,C,-,F|⟨b,o,rfl,-⟩⟩:=id hs;omega;exact⟨b,o,λ_=>rfl⟩
  exact⟨0,0,λh=>absurd h x⟩
 have p:=hs.2.1;have y:=J (vz.2.2 (λi=>I U (an l i).lo) (λi=>I U (an l i).hi) a b o n d 301 #[] #[π (E ⟨w.heap.size,0,N⟩)] c (λi=>(an l i).lo<=num/\num<=(an l i).hi) j ⟨hs.2.2.1,hs.2.2.2.1⟩ (λ_ _=>Φ)
  (λW i g hi=>by
    have q:=m.ag g;rw[j O]at q;exact q.cell i O)
  (λW i g hi=>JR W w.heap.size (an l i) num (ì g v)))
 have r:Hid (bK l num=ρ↔∃i,i<n/\(an l i).lo<=num/\num<=(an l i).hi):=J (by rw[p];exact JQ l num);obtain⟨H,s⟩:=í (bK l num);rw[<-s]at r⊢;clear s p hs m j;go_enter func288,ntmps288;go_wp2_with fail;rw[<-f];apply(Z y).mono;rintro e K⟨z,A⟩;obtain rfl:=tM z (Z r);go_wp2;go_ret;exact⟨Q,aq k A⟩
def CJ(w:D)(B:Nat)(a:Option Addr)(n b:Nat)(l:List Rg)(x:Kt)(h0:κ w ⟨B,0,N⟩=E (Y a n b))(hs:bq w a n b l):
 Calls prog 287 #[ε (kA x),π (E ⟨B,0,N⟩)] w λe i=>e=ξ (β (bK l x.1.num))/\G w i N:=by
 let⟨⟨num,tk,st,ps⟩,j⟩:=x
 unfold kA;have m:B<w.heap.size:=eI w _ h0;obtain⟨c,d⟩:=í (w.alloc (ο #[I U num,I X tk,I X st,j] 325));have f:G w c N:=by rw[d];exact aC _ _ _
 have g:=J (JS a n b l num c (hs.ag f));obtain⟨p,h⟩:=í (bK l num);rw[<-h]at g⊢;clear h;go_enter func287,ntmps287;go_wp2_with fail;rw[<-d];apply(Z g).mono;rintro e q⟨rfl,k⟩;go_wp2;go_ret;exact⟨Q,aq f k⟩
def JT(w:D)(B:Nat)(high:Int)(x:Kt)(h0:κ w ⟨B,0,N⟩=E (I U high))(b:0<=x.1.num/\x.1.num<=4611686018427387903):
 Calls prog 290 #[ε (kA x),π (E ⟨B,0,N⟩)] w λe a=>e=ξ (β (decide (x.1.num+3<=high)))/\G w a N:=by
 let⟨⟨num,tk,st,ps⟩,c⟩:=x
 unfold kA;simp only at *;have d:B<w.heap.size:=eI w _ h0;go_enter func290,ntmps290;go_wp2;go_ret;exact⟨Q,by repeat(first|exact au _ _|apply cu|apply aK|apply aW)⟩
def pA(p:Pc):Array υ:= #[I U p.x.lo,I U p.x.hi,β p.e,β p.g]
def JU(w:D)(sb l h m n:Nat)(ln lc:Array υ)(x:Kt)(q:Bool)(St:List (Int×Pc)->D->Prop)(r:List (Int×Pc))(pa:Option Addr)(c s:Nat)(a2:x.2=Y pa c s)(hp:ml w pa c s x.1.ps)(a3:∀y,pa=E y->y.block≠sb)(cp:sb<w.heap.size)
 (al:κ w ⟨l,0,N⟩=E (.func (.func m) #[] ln)) (ao:κ w ⟨h,0,N⟩=E (.func (.func n) #[] lc)) (ct:l≠sb) (a4:h≠sb)
 (en:∀args w,(callFunc m args).run prog w=.ok (.enter m args) w) (ec:∀args w,(callFunc n args).run prog w=.ok (.enter n args) w)
 (hN:∀W,G w W N->Calls prog m (#[ε (kA x)]++ln) W (λe f=>e=ξ (β q)/\G W f N))
 (t:∀(W f:D)(a:List (Int×Pc)),St a W->G W f N->St a f) (h0:St r w)
 (M:∀(W:D)(a:List (Int×Pc))(p:Pc),St a W->p∈x.1.ps->q=ρ->Calls prog n (#[I X x.1.st,ε (pA p)]++lc) W (λe f=>e=ξ (τ #[])/\St (a++[(x.1.st,p)]) f/\G W f (E sb))):
 Calls prog 302 #[ε (kA x),π (E ⟨l,0,N⟩),π (E ⟨h,0,N⟩)] w λe j=>e=ξ (β q)/\St (r++if q then x.1.ps.map (λp=>(x.1.st,p))else[]) j/\G w j (E sb):=by
 refine r8 (λ(b:Bool) j=>St (r++if b then x.1.ps.map (λp=>(x.1.st,p))else[]) j/\G w j (E sb)) q λR u=>?_
 replace u:=J u;let⟨⟨num,tk,st,ps⟩,sv⟩:=x
 subst a2;unfold kA at *;simp only at *;have cx:l<w.heap.size:=eI w _ al;have cy:h<w.heap.size:=eI w _ ao;obtain⟨P,v⟩:=í (w.alloc (ο #[I U num,I X tk,I X st,Y pa c s] 325));have z:G w P N:=by rw[v];exact aC _ _ _
 have A:P.heap[w.heap.size]?=E (ο #[I U num,I X tk,I X st,Y pa c s] 325 (0,0)):=by rw[v];exact aM _ _
 let⟨b0,b1,b2,b3⟩:=m8 A
 have m0:=ì z al;have m1:=ì z ao;have bj:=J (hN P z);replace⟨A,t,h0,M⟩:=fB A t h0 M;go_enter func302,ntmps302;go_upto_region 1 with fail;rw[<-v];clear v;go_wp2_with fail;apply(Z bj).mono;rintro e w2⟨rfl,B⟩;have C:=aq z B;have a0:=J (Z t _ _ _ (Z h0) C);cases q
 .have S:Hid (R θ w2):=J (by rw[Z u];exact⟨by simpa using Z a0,cK C _⟩);go_wp2;go_ret;exact⟨Q,Z S⟩
 have F:=bp (Z A) B;have da:=(aV.1 F).1;let⟨d0,d1,d2,d3⟩:=m8 F
 have H:=hp.ag C;have n0:=ì B m0;have n1:=ì B m1;have K:=hp.2.1;have db:=hp.2.2.1;have bt:=hp.2.2.2.1;unfold maxLen at bt;have bw:w.heap.size≠sb:=O;replace⟨F,K,H⟩:=cA F K H;go_wp2;go_loopw [14] (λT wr=>∃i:Nat,i<=c/\T=I X i/\St (r++(ps.take i).map (λp=>(st,p))) wr/\G w2 wr (E sb)) (λT _=>c-(intOf T).toNat);case atStart=>exact⟨0,O,Q,by simpa using Z a0,au _ _⟩
 case round=>
  obtain⟨i,hi,rfl,k,d⟩:=hrel;by_cases dc:i<c
  .have dl:decide ((i:Int)<c)=ρ:=α;have i1:(i:Int)<c:=O;have V:i<ps.length:=by have:=Z K;omega
   obtain⟨-,-,-,-,hz|⟨b,o,rfl,-⟩⟩:=id (Z H);omega;have L:b≠sb:=a3 ⟨b,o,N⟩ Q;let⟨y0,y1,y2,y3⟩:=(Z H).cell i V
   have k0:=d.cell y0 (λe=>L (aR e));have k1:=d.cell y1 (λe=>L (aR e));have k2:=d.cell y2 (λe=>L (aR e));have k3:=d.cell y3 (λe=>L (aR e));have e2:=d.cell d2 (λe=>bw (aR e));have e1:=d.cell n1 (λe=>a4 (aR e));have dk:=d.size;have dm:h<wr.heap.size:=O;have dn:w.heap.size<wr.heap.size:=O;have a1:Hid ((ps.take (i+1)).map (λp=>(st,p))=(ps.take i).map (λp=>(st,p))++[(st,fT ps i)]):=J (by rw[tq,xJ V];simp);have ai:=J (λW(g:G wr W N)=>Z M W _ (fT ps i) (Z t _ _ _ k g) (xK V) (by trivial));obtain⟨p,b6⟩:=í (fT ps i);rw[<-b6]at k0 k1 k2 k3 ai a1;let⟨⟨xl,xh⟩,pe,pg⟩:=p
   unfold pA at ai;replace k:=J k;have gx:=aC wr (ο #[I U xl,I U xh,β pe,β pg] 377) N;have cf:=J (Z ai _ gx);go_wp2_with fail;apply(Z cf).mono;rintro e w4⟨rfl,ak,g4⟩;replace ak:=J ak;have cm:=aq d (aq (cK gx _) g4);go_wp2;go_roundw;case measure=>simp[intOf];omega
   case rel=>exact⟨i+1,O,Γ,by rw[Z a1,<-eF];exact Z ak,cm⟩
  have dl:decide ((i:Int)<c)=θ:=é;obtain rfl:i=c:=O;have S:Hid (R ρ wr):=J (by
   rw[Z u];rw[Z K,kC]at k;exact⟨by simpa using k,aq (cK C _) d⟩)
  go_wp2;go_ret;exact⟨Q,Z S⟩
structure il(w:D)(f:Nat)(b:Array υ)(d:Nat)(e vc:υ)(o:Ot):Prop where
 c0:b[d]?=E (I U o.h.fr)
 c1:b[d+1]?=E e
 c2:b[d+2]?=E vc
 c3:b[d+3]?=E (I U o.ay)
 c4:b[d+4]?=E (β o.sE)
 c5:b[d+5]?=E (β o.sG)
 c6:b[d+6]?=E (β o.tE)
 c7:b[d+7]?=E (β o.tG)
 c8:b[d+8]?=E (I U o.code)
 own:aS w f e o.h.bytes
 set:∃a n c,vc=Y a n c/\bq w a n c o.h.af
 qC:aZ o.ay/\aZ o.code
def pt(w a:D)(sb:Nat)(t:TypeId)(f:Array υ)(c g:Nat)(h vc:υ)(o:Ot):Prop:=
 ∃d b e,tI w a sb t f d c 9 h b/\il a g d c b e o/\zH w a b vc e
def il.tail(h:il w k c i x y H)(a:w.heap[n]?=E (ο c T (0,0))):kM w n i H:=
 ⟨(ba a _).trans h.c3,(ba a _).trans h.c4,(ba a _).trans h.c5,(ba a _).trans h.c6,(ba a _).trans h.c7,(ba a _).trans h.c8,h.qC⟩
def il.oE(h:il w k C i x y H):∃ab b cb ac nc d,x=Y ab b cb/\y=Y ac nc d:=by
 obtain⟨a,n,c,e,-⟩:=h.set;obtain⟨f,g,j,-⟩:=h.own.bs;grind
def il.hd{ac:Option Addr}(h:il w i C j (Y a l m) (Y ac b n) H)(d:w.heap[k]?=E (ο C T (0,0)))(f:H.h.nice):iM w k j a l m ac b n H.h:=by
 refine⟨(ba d _).trans h.c0,(ba d _).trans h.c1,(ba d _).trans h.c2,h.own.eV,?_,f⟩
 let⟨g,p,c,e,q⟩:=h.set
 grind
def il.ag(h:il w k C i x y H)(g:G w W N):il W k C i x y H:=
 ⟨h.c0,h.c1,h.c2,h.c3,h.c4,h.c5,h.c6,h.c7,h.c8,h.own.ag g,by let⟨a,n,c,e,b⟩:=h.set;exact⟨a,n,c,e,b.ag g⟩,h.qC⟩
def bH(h:i≠j:=by omega):(c.setIfInBounds i x)[j]?=c[j]? :=Array.getElem?_setIfInBounds_ne h
def xM{ac:Option Addr}(h:∃a n c,Y ac k i=Y a n c/\bq w a n c s):bq w ac k i s:=by grind
def J6(b:w.heap[n]?=E (ο c T (0,0)))(a:il w l c j x z H)(d:kY w n x z):
 Calls prog 151 #[π (E ⟨n,j,N⟩)] w λr f=>r=ξ (τ #[])/\pt w f n T c j l x z {H with sE:=ρ}:=by
 apply(I9 w n j c T H b (a.tail b)).mono;rintro r f⟨rfl,g,m⟩;obtain⟨ab,p,cb,ac,nc,h,rfl,rfl⟩:=a.oE;refine⟨Q,_,_,_,⟨m,Γ,λi hi=>bH,(aj.of g).mono (λk _ e=>φ (aR e).symm),φ Q⟩,⟨?_,?_,?_,?_,cU (jw a.c4),?_,?_,?_,?_,a.own.gb g (ψ d.1),⟨ac,nc,h,Q,(xM a.set).gb g (λy e e2=>(d.2 y nc h (by rw[e])).1 (aR e2).symm)⟩,a.qC⟩,φ Q⟩
 rw[bH];exact a.c0;rw[bH];exact a.c1;rw[bH];exact a.c2;rw[bH];exact a.c3;rw[bH];exact a.c5;rw[bH];exact a.c6;rw[bH];exact a.c7;rw[bH];exact a.c8
def J7(b:w.heap[n]?=E (ο c T (0,0)))(a:il w l c j x z H)(m:kY w n x z)(code:Int)(p:aZ code):
 Calls prog 154 #[π (E ⟨n,j,N⟩),I U code] w λr f=>r=ξ (τ #[])/\pt w f n T c j l x z {H with sE:=θ,sG:=ρ,code:=code,h:={H.h with bytes:=[]}}:=by
 obtain⟨ab,q,cb,ac,nc,d,rfl,rfl⟩:=a.oE;apply(Ja w n j c T ab q cb H code b ((ba b _).trans a.c1) (a.tail b)).mono;rintro r f⟨rfl,g,s⟩;have t:=jw a.c8;refine⟨Q,_,Y N 0 0,Y ac nc d,⟨s,Γ,λi hi=>?_,(aj.of g).mono (λk _ e=>φ (aR e).symm),ψ (nofun)⟩,⟨?_,cU Ψ,?_,?_,?_,?_,?_,?_,?_,aS.nil _ _,⟨ac,nc,d,Q,(xM a.set).gb g (λy e e2=>(m.2 y nc d (by rw[e])).1 (aR e2).symm)⟩,⟨a.qC.1,p⟩⟩,φ Q⟩
 rw[bH,bH,bH,bH];rw[bH,bH,bH,bH];exact a.c0;rw[bH,bH,bH,bH];exact a.c2;rw[bH,bH,bH,bH];exact a.c3;rw[bH,bH,bH];exact cU;rw[bH,bH];exact cU Ψ;rw[bH,bH,bH,bH];exact a.c6;rw[bH,bH,bH,bH];exact a.c7;rw[bH];exact cU Ψ
def Ot.gC(o:Ot)(n:Nat)(av:Int):Nat:=(min (min (n:Int) (av-o.h.bytes.length)) (4096-(o.h.fr+o.h.bytes.length))).toNat
def J8(p:w.heap[n]?=E (ο c T (0,0)))(a:il w j c k x z H)(s:H.h.nice)(t:j<=w.heap.size)(d:kY w n x z)(f:Option Addr)(nx g:Nat)(l:List Int)(hl:bD w f nx g l)(av:Int)(u:(H.h.bytes.length:Int)<=av/\av<=1000000)(v:H.h.fr+H.h.bytes.length<=4096):
 Calls prog 150 #[π (E ⟨n,k,N⟩),Y f nx g,I X av] w λr q=>r=ξ (I X (H.gC l.length av))/\pt w q n T c k j x z {H with h:={H.h with bytes:=H.h.bytes++l.take (H.gC l.length av)}}:=by
 obtain⟨ab,A,cb,ac,nc,b,rfl,rfl⟩:=a.oE;refine(Jd w n k _ c T ab A cb ac nc b _ p (a.hd p s) a.own t (λy e e2=>d.1 (by rw[e,<-e2];rfl)) f nx g l hl _ u v (H.gC l.length av) (by unfold Ot.gC;omega)).mono ?_;rintro r q⟨rfl,M,P,R,B,C,F,K⟩;refine⟨Q,_,_,_,⟨F,Γ,λi hi=>bH,C,K⟩,⟨?_,cU (jw a.c1),?_,?_,?_,?_,?_,?_,?_,B,⟨ac,nc,b,Q,(xM a.set).dR (λhl y m=>C.block _ (d.2 y nc b (by rw[m])).2.2 (λL=>L.elim (d.2 y nc b (by rw[m])).1 (d.2 y nc b (by rw[m])).2.1))⟩,a.qC⟩,φ Q⟩
 rw[bH];exact a.c0;rw[bH];exact a.c2;rw[bH];exact a.c3;rw[bH];exact a.c4;rw[bH];exact a.c5;rw[bH];exact a.c6;rw[bH];exact a.c7;rw[bH];exact a.c8
def jN{b:Array Oper}{rest:List Oper}{o:Oper}{a:Act}{c:Exit->Act->D->Prop}(d:o.guard=N)(T ty:TypeId)(e:o.type=ty)(s x:Operand)
 (f:o.op=.call {callee:=.builtin .append,args:= #[s,x],argTypes:= #[T,T]}) (v vx u:υ) (hs:a.eval s=v) (g:a.eval x=vx)
 (i:(Builtin.append_ #[T,T] ty #[v,vx]).run prog w=.ok u W) (h:wpList prog b c rest (a.put o.dst u) W):wpList prog b c (o::rest) a w:=
 rY d λ_ j=>by
  unfold Oper.wp execOp;simp only[f,resolve,invoke,builtin,jL,ny,jC,oh,kD,oq,hs,g,e,i]
  exact j _ _ h
def Ae{b:Array Oper}{o:Oper}{a:Act}{K:Act->D->Prop}{c:Exit->Act->D->Prop}{d:Prop}(e:o.guard=N)(T ty:TypeId)(f:o.type=ty)(s x:Operand)
 (g:o.op=.call {callee:=.builtin .append,args:= #[s,x],argTypes:= #[T,T]}) (v vx u:υ) (hs:a.eval s=v) (i:a.eval x=vx)
 (j:(Builtin.append_ #[T,T] ty #[v,vx]).run prog w=.ok u W) (h:K (a.put o.dst u) W):if Region.wanted o (yielded b a.tmps)=ρ then Oper.wp prog o a w K c else d:=by
 have k:Region.wanted o (yielded b a.tmps)=ρ:=by simp[Region.wanted,e]
 rw[aH k];unfold Oper.wp execOp;simp only[g,resolve,invoke,builtin,jL,ny,jC,oh,kD,oq,hs,i,f,j]
 exact h
def je(w:D)(a:Nat)(v:υ)(l:List Pc):Prop:=(∀p∈l,p.x.ok)/\w.ownsRow a 377 4 v l.length (iG l)
def Ln:(prog.info? 377).map (λi=>(i.zero,i.size,i.bytes))=E (E (ε #[I U 0,I U 0,β θ,β θ]),4,24):=Φ
def je.nil(w:D)(a:Nat):je w a (Y N 0 0) []:=⟨λp hp=>(by cases hp),Q,φ ⟨Q,Q⟩⟩
def je.lt{l:List Pc}(h:je w n x l):∀k,x.ownBlock=E k->n<=k/\k<w.heap.size:=h.2.lt
def je.aA{l:List Pc}(h:je w n x l)(C:aj w W S)(c:∀k,x.ownBlock=E k->¬S k):je W n x l:=by
 let⟨h0,d,a⟩:=h
 refine⟨h0,d,?_⟩
 obtain a|⟨g,cap,cur,e1,e2,b,e⟩:=a
 simp_all;exact ψ ⟨g,_,_,e1,e2,(C.block g (aV.1 b).1 (c g (by rw[e1];rfl))).trans b,e⟩
def je.ag{l:List Pc}(h:je w n x l)(g:G w W N):je W n x l:=h.aA (aj.of g) (nofun)
def je.DH{l:List Pc}(h:je w n x l):∃a b,x=Y a l.length b/\ml w a l.length b l/\∀y,a=E y->x.ownBlock=E y.block:=by
 obtain⟨h0,m,⟨e,d⟩|⟨g,b,p,e1,e2,f,i,k,q,r⟩⟩:=h;exact⟨_,0,by rw[d];exact e,⟨h0,Q,O,by simp[maxLen],φ Q⟩,λy c=>by cases c⟩
 refine⟨E ⟨g,0,N⟩,b,e1,⟨h0,Q,i,k,ψ ⟨g,0,Q,λj u s=>?_⟩⟩,λy c=>by cases c;rw[e1];rfl⟩
 rw[eM,ba f];grind
def Lo(l:List Pc):∀u∈iG l,u.oneCell'=ρ:=by
 intro u a;obtain⟨p,-,hp⟩:=List.mem_flatMap.1 a;simp[tK]at hp;obtain rfl|rfl|rfl|rfl:=hp<;>rfl
def Lp(ty:TypeId)(a:Nat)(v:υ)(l:List Pc)(i:je w a v l)(b c:Nat)(x:Pc)(k:x.x.ok)(h0:w.rangeAt b 0 (tK x))(B:l.length<=100000000)(m:a<=w.heap.size):
 ∃e f h d,(Builtin.append_ #[323,323] ty #[v,Y (E ⟨b,0,N⟩) 1 c]).run prog w=.ok (Y e f h) d/\je d a (Y e f h) (l++[x])/\G w d v.ownBlock/\((Y e f h).ownBlock=v.ownBlock\/(Y e f h).ownBlock=E w.heap.size):=by
 let⟨n,hi,q,r,s⟩:=kV Ln
 let⟨t,d,C,y,F,_,H⟩:=run_append_own_at (P:=prog) w a 323 ty 377 n _ 4 24 underlying323 hi q r s Q Θ v l.length (iG l) i.2 ⟨b,0,N⟩ 1 c (iG [x]) (by simp[iG,tK]) (by
  intro j u z;rw[Addr.add_mid];exact h0 j u (by simpa [iG]using z)) (Lo _) (by simp[maxLen];omega) O m
 have A:je d a t (l++[x]):=⟨λp hp=>by
  obtain hp|hp:=b9.1 hp
  exact i.1 p hp
  .rw[eE.1 hp];exact k,by rw[bS,show iG (l++[x])=iG l++iG [x] by simp[iG]];exact y⟩
 obtain⟨-,-,⟨rfl,e2⟩|⟨g,K,L,rfl,_⟩⟩:=id A;simp_all;grind
abbrev El:=Nat×List Int
def lr(e:El):υ:=Y (E ⟨e.1,0,N⟩) e.2.length e.2.length
def fC(w:D)(a:Nat)(v:υ)(l:List El):Prop:=w.ownsRow a 112 1 v l.length (l.map lr)
structure jg(w:D)(c:Nat)(l:List El):Prop where
 at_:∀e∈l,c<=e.1/\(∀x∈e.2,W8 x)/\w.heap[e.1]?=E (ο (bv e.2).toArray 5 (0,0))
 sep:l.Pairwise (λa b=>a.1≠b.1)
def jg.nil(w:D)(a:Nat):jg w a []:=⟨λe b=>(by cases b),.nil⟩
def jg.aA{l:List El}(h:jg w n l)(C:aj w W S)(b:∀e∈l,¬S e.1):jg W n l:=
 ⟨λe a=>⟨(h.at_ e a).1,(h.at_ e a).2.1,(C.block e.1 (aV.1 (h.at_ e a).2.2).1 (b e a)).trans (h.at_ e a).2.2⟩,h.sep⟩
def jg.ag{l:List El}(h:jg w n l)(g:G w W N):jg W n l:=h.aA (aj.of g) (nofun)
def jg.lt{l:List El}(h:jg w n l){e:El}(a:e∈l):e.1<w.heap.size:=(aV.1 (h.at_ e a).2.2).1
def jg.app{l m:List El}(h:jg w n l)(k:jg w n m)(hd:∀a∈l,∀b∈m,a.1≠b.1):jg w n (l++m):=
 ⟨λe c=>(b9.1 c).elim (h.at_ e) (k.at_ e),List.pairwise_append.2 ⟨h.sep,k.sep,hd⟩⟩
def DI:(prog.info? 112).map (λi=>(i.zero,i.size,i.bytes))=E (E (Y N 0 0),1,24):=Φ
def fC.nil(w:D)(a:Nat):fC w a (Y N 0 0) []:=⟨Q,φ ⟨Q,Q⟩⟩
def fC.lt{l:List El}(h:fC w n x l):∀k,x.ownBlock=E k->n<=k/\k<w.heap.size:=World.ownsRow.lt h
def fC.aA{l:List El}(h:fC w n x l)(C:aj w W S)(c:∀k,x.ownBlock=E k->¬S k):fC W n x l:=by
 let⟨d,a⟩:=h
 refine⟨d,?_⟩
 obtain a|⟨g,cap,cur,e1,e2,b,e⟩:=a
 simp_all;exact ψ ⟨g,_,_,e1,e2,(C.block g (aV.1 b).1 (c g (by rw[e1];rfl))).trans b,e⟩
def fC.ag{l:List El}(h:fC w n x l)(g:G w W N):fC W n x l:=h.aA (aj.of g) (nofun)
def fC.low{b2:Nat}{l:List El}(h:fC w n x l)(d:b2<=n):fC w b2 x l:=by
 let⟨b,a⟩:=h
 refine⟨b,?_⟩
 obtain a|⟨g,cap,cur,e1,e2,c⟩:=a
 simp_all;exact ψ ⟨g,_,_,e1,O,c⟩
def fC.fU{l:List El}(h:fC w n x l):∃a b,x=Y a l.length b/\l.length<=b/\b<=maxLen/\(a=N->l=[]/\b=0)/\(∀y,a=E y->x.ownBlock=E y.block/\y=⟨y.block,0,N⟩/\w.rangeAt y.block 0 (l.map lr)):=by
 obtain⟨m,⟨p,h0⟩|⟨g,c,q,e1,e2,d,f,i,r,s⟩⟩:=h;grind;refine⟨_,c,e1,f,i,λe=>(by cases e),λy k=>?_⟩
 cases k;refine⟨by rw[e1];rfl,Q,λj u t=>?_⟩
 rw[eM,ba d];grind
def Af(ty:TypeId)(a:Nat)(v:υ)(l:List El)(i:fC w a v l)(y:Addr)(c:Nat)(m:List El)(h0:∀j u,(m.map lr)[j]?=E u->κ w (y.add j)=E u)(z:l.length+m.length<=100000000)(k:a<=w.heap.size):
 ∃d f h b,(Builtin.append_ #[206,206] ty #[v,Y (E y) m.length c]).run prog w=.ok (Y d f h) b/\fC b a (Y d f h) (l++m)/\G w b v.ownBlock/\((Y d f h).ownBlock=v.ownBlock\/(Y d f h).ownBlock=E w.heap.size):=by
 let⟨n,hi,p,q,r⟩:=kV DI
 let⟨s,b,A,B,C,_,F⟩:=run_append_own_at (P:=prog) w a 206 ty 112 n _ 1 24 underlying206 hi p q r Q Θ v l.length (l.map lr) i y m.length c (m.map lr) Γ h0 (λu t=>by
  obtain⟨e,-,rfl⟩:=fu.1 t;rfl) (by simp[maxLen];omega) O k
 have x:fC b a s (l++m):=by
  unfold fC;grind
 obtain⟨-,⟨rfl,e2⟩|⟨g,H,K,rfl,_⟩⟩:=id x;grind;grind
def Lq(ty:TypeId)(c:Nat)(v:υ)(l:List El)(b:fC w c v l)(p:Nat)(x:υ)(m:List El)(q:fC w p x m)(r:l.length+m.length<=100000000)(s:c<=w.heap.size):
 ∃d f h k,(Builtin.append_ #[206,206] ty #[v,x]).run prog w=.ok (Y d f h) k/\fC k c (Y d f h) (l++m)/\G w k v.ownBlock/\((Y d f h).ownBlock=v.ownBlock\/(Y d f h).ownBlock=E w.heap.size):=by
 obtain⟨a,n,rfl,H,K,t,z⟩:=q.fU;cases a with
 |some y=>
  obtain⟨-,e,i⟩:=z y Q;refine Af ty c v l b y n m (λj u A=>?_) r s;rw[e,Addr.add_mid];exact i j u A
 |none=>
  let⟨B,C⟩:=t Q
  subst B C;let⟨F,hi,L,M,R⟩:=kV DI
  have i:=run_append_owned_none (P:=prog) _ _ 206 ty _ F 1 underlying206 hi v _ _ b;rw[qY];obtain⟨-,⟨rfl,e2⟩|⟨g,n,S,rfl,_⟩⟩:=id b;exact⟨_,_,_,w,i,b,au _ _,φ Q⟩
  exact⟨_,_,_,w,i,b,au _ _,φ Q⟩
def N7(w:D):(zeroValue 341).run prog w=.ok (ε #[I U 0,I U 0]) w:=Φ
def N8(l:List Rg)(h:0<l.length):cY (l.drop 1)=(cY l).drop 2:=by
 cases l with
 |nil=>simp at h
 |cons r l=>simp[cY]
def N9(ty:TypeId)(c g k a:Nat)(l:List Rg)(i:dN w c (Y (E ⟨g,0,N⟩) (k+1) a) l):
 ∃b,(Builtin.append_ #[227,227] ty #[Y (E ⟨g,0,N⟩) 0 a,Y (E ⟨g,2,N⟩) k (a-1)]).run prog w=.ok (Y (E ⟨g,0,N⟩) k a) b/\dN b c (Y (E ⟨g,0,N⟩) k a) (l.drop 1)/\G w b (E g)/\k+1<=a/\l.length=k+1:=by
 obtain⟨m,H,⟨h0,-⟩|⟨n,p,q,e1,e2,f,K,s,t,L⟩⟩:=i;cases h0;have hl:l.length=k+1:=by simp_all
 obtain⟨v,-,x⟩:=lJ e1;obtain rfl:g=n:=by cases v;rfl
 obtain rfl:a=p:=x;obtain⟨y,hi,M,z,R⟩:=kV vh;have A:∀j u,(cY l)[j]?=E u->κ w ⟨g,j,N⟩=E u:=λj u e=>by
  rw[ba f];grind
 have B:w.ownsRow c 341 2 (Y (E ⟨g,0,N⟩) 0 a) 0 []:=⟨Γ,ψ ⟨g,a,q,Q,e2,f,O,s,t,Γ⟩⟩
 obtain⟨b,d,h,C⟩:=run_append_fits (P:=prog) w c 227 ty 341 y 2 underlying227 hi z g 0 a [] B ⟨g,2,N⟩ k (a-1) (cY (l.drop 1)) (by rw[sd,fD];omega) (by
  intro j u e;rw[Addr.add_mid];rw[N8 l O,tp]at e;exact A (2+j) u e) (λu F=>xx _ u F) O
 rw[eM]at d h;rw[mg]at h;refine⟨b,d,⟨λr d=>m r (iC d),?_⟩,C,O,hl⟩
 grind
def Oa{e:Array Oper}{o:Oper}{a:Act}{K:Act->D->Prop}{f:Exit->Act->D->Prop}{i:Prop}(j:o.guard=N)(s x:Operand)
 (m:o.op=.call {callee:=.builtin .append,args:= #[s,x],argTypes:= #[227,227]}) (d g k b:Nat) (l:List Rg) (hs:a.eval s=Y (E ⟨g,0,N⟩) 0 b) (n:a.eval x=Y (E ⟨g,2,N⟩) k (b-1)) (p:dN w d (Y (E ⟨g,0,N⟩) (k+1) b) l)
 (h:∀c,dN c d (Y (E ⟨g,0,N⟩) k b) (l.drop 1)->G w c (E g)->K (a.put o.dst (Y (E ⟨g,0,N⟩) k b)) c):if Region.wanted o (yielded e a.tmps)=ρ then Oper.wp prog o a w K f else i:=by
 have q:Region.wanted o (yielded e a.tmps)=ρ:=by simp[Region.wanted,j]
 rw[aH q];obtain⟨c,r,t,u,-⟩:=N9 (w:=w) o.type d g k b l p;unfold Oper.wp execOp;simp only[m,resolve,invoke,builtin,jL,ny,jC,oh,kD,oq,hs,n,r]
 exact h c t u
def Ob(c:dN W n (Y (E ⟨i,0,N⟩) k j) s)(t:k+1<=j):∃a,(Builtin.clear_ #[227] 0 #[Y (E ⟨i,k*2,N⟩) 1 (j-k)]).run prog W=.ok (τ #[]) a/\dN a n (Y (E ⟨i,0,N⟩) k j) s/\G W a (E i):=by
 obtain⟨d,e,⟨h0,-⟩|⟨f,g,h,e1,e2,b,l,m,u,v⟩⟩:=c;cases h0;obtain⟨p,x,q⟩:=lJ e1;obtain rfl:i=f:=by cases p;rfl
 obtain rfl:j=g:=q;obtain⟨y,z,r⟩:=CC (w:=W) 0 227 341 _ 2 O underlying227 N7 Ξ (by simp[Value.cells];rfl) i (k*2) 1 (j-k) h _ b O O;refine⟨_,r,⟨d,e,ψ ⟨i,j,_,e1,e2,setRow_heap W i _ _ _ _ b,l,m,?_,?_⟩⟩,xj _ _ _⟩
 grind;grind
def Oc(w:D)(b g k a:Nat)(l:List Rg)(f:dN w b (Y (E ⟨g,0,N⟩) (k+1) a) l)(s:0<k)(j:a<=maxLen):
 Calls prog 216 #[Y (E ⟨g,0,N⟩) (k+1) a,I X 0,I X 1] w λe h=>e=ξ (Y (E ⟨g,0,N⟩) k a)/\dN h b (Y (E ⟨g,0,N⟩) k a) (l.drop 1)/\G w h (E g):=by
 unfold maxLen at j;have m:=J (f.ag (aK (au w N)));have n:k+1<=a:=(f.iL.1).2.2.1;have t:¬a=1:=O;have u:¬a=k:=O;have v:(1:Int)<=a:=O;have x:(k:Int)<=a:=O;have y:(k:Int)+1<=(a:Int):=O;have z:(1:Int)<=k+1:=O;go_enter func216,ntmps216;go_wp2_with fail;go_region_law ((refine Oa Ξ _ _ Ξ b g k a l Ξ Ξ (Z m) ?_;intro A c d;replace c:=J c;replace d:=J d));obtain⟨i,B,p,q⟩:=Ob (Z c) n;have r:Hid (dN i b (Y (E ⟨g,0,N⟩) k a) (l.drop 1)/\G w i (E g)):=J ⟨p,aq (aq (aK (au _ _)) (Z d)) q⟩;go_wp2;go_ret;exact⟨Q,Z r⟩
