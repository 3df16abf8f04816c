import Derived.Test.YtjnmokmchdfchaaGreatDoorZWq
import Derived.Test.YtjnmokmchdfchaaGreatDoorZWr
set_option maxRecDepth 1000000
set_option maxHeartbeats 0
set_option linter.all false
namespace Go.Proofs.YtjnmokmchdfchaaGreatDoor
open Go.RowKit Tryz
attribute[local go_sem↓]Go.wp_at_zero Go.wp_at_succ
variable{p q:Int}{i j k l m n:Nat}{S:Nat->Prop}{a:Option Addr}{X:Sd}{x:Value}{W v w:World}
theorem jl(w:World)(b o:Nat)(v:Value):ak w (w.setCell ⟨b,o,none⟩ v) (λk=>k=b):=(ak.of (aD (av w (some b)) ⟨b,o,none⟩ v (.inr rfl))).mono (λk _ e=>(aJ e).symm)
structure Pt where
 st:Nat
 fr:Nat
 en:Nat
 fin:Bool
structure ct where
 tick:Int
 parts:List Pt
 quiet:Bool
 named:Bool
 lost:Bool
def ct.on(p:ct):Bool:= !p.quiet&& !p.named&& !p.lost
structure Src where
 wrote:ByteArray
 n:Nat
 ag:Nat->Bool
 fl:Nat->Int
 finished:Bool
 eP:Bool
 dX:Int
structure aB where
 ao:Int
 ai:Int
 key:List Int
 xb:Nat
 xs:Nat
 st:aK
 A:Nat->Prop
 ob:Nat
 oc:Nat
 sl:Nat->Nat×Value×Value
 o:Nat->Src
 pl:Nat->Nat×Value
 p:Nat->ct
 n:Nat
 vs:Value
 now:Int
 wait:Int
 aV:Int
 tag:Nat->Option Nat
def iy(q:Pt):List Value:=[.int .i64 q.st,.int .i64 q.fr,.int .i64 q.en,.bool q.fin]
def aB.cells(V:aB):Array Value:=(([.pointer (some ⟨V.xb,0,none⟩),.int .i64 V.ao,.int .i64 V.ai]:List Value)++bv V.key++[.slice (some ⟨V.ob,0,none⟩) 4 V.oc,V.vs,.int .i64 V.now,.int .i64 V.wait,.int .u64 V.aV]).toArray
def mF(l:Nat×Value×Value)(o:Src):Array Value:= #[.string o.wrote,l.2.1,l.2.2,.bool o.finished,.bool o.eP,.int .i64 o.dX]
def qB(l:Nat×Value)(p:ct):Array Value:= #[.int .i64 p.tick,l.2,.bool p.quiet,.bool p.named,.bool p.lost]
def oZ(n:Nat)(f:Nat->Bool):List Value:=(List.range n).map (λj=>.bool (f j))
def nM(n:Nat)(f:Nat->Int):List Value:=(List.range n).map (λj=>.int .i64 (f j))
def rowP(n:Nat)(f:Nat->Nat×Value):List Value:=(List.range n).map (λj=>.pointer (some ⟨(f j).1,0,none⟩))
structure fZ(w:World)(l:Nat×Value×Value)(o:Src):Prop where
 aG:w.heap[l.1]?=some (.cells (mF l o) 68 (0,0))
 cm:w.ownsRow 0 4 1 l.2.1 o.n (oZ o.n o.ag)
 fl:w.ownsRow 0 3 1 l.2.2 o.n (nM o.n o.fl)
def nN(l:Nat×Value×Value)(k:Nat):Prop:=k=l.1\/l.2.1.ownBlock=some k\/l.2.2.ownBlock=some k
structure jM(w:World)(l:Nat×Value)(p:ct):Prop where
 aG:w.heap[l.1]?=some (.cells (qB l p) 196 (0,0))
 parts:w.ownsRow 0 150 4 l.2 p.parts.length (p.parts.flatMap iy)
def tn(l:Nat×Value)(k:Nat):Prop:=k=l.1\/l.2.ownBlock=some k
structure bH(w:World)(sb:Nat)(V:aB):Prop where
 aG:w.heap[sb]?=some (.cells V.cells 63 (0,0))
 key:di V.key
 oc:4<=V.oc/\V.oc<=maxLen
 ty:Ty w V.ob 64
 outs:∀k,k<4->w.cell? ⟨V.ob,k,none⟩=some (.pointer (some ⟨(V.sl k).1,0,none⟩))
 src:∀k,k<4->fZ w (V.sl k) (V.o k)
 pk:∀i,i<V.n->jM w (V.pl i) (V.p i)
 aE:w.ownsRow 0 147 1 V.vs V.n (rowP V.n V.pl)
 cn:cE w V.xb V.xs V.st V.A
 tl:∀k t,V.tag k=some t->k<w.heap.size/\k≠0
 tA:∀k,V.A k->V.tag k=some 0
 tS:V.tag sb=some 1
 tO:V.tag V.ob=some 2
 tV:∀k,V.vs.ownBlock=some k->V.tag k=some 3
 kW:∀k,k<4->∀j,nN (V.sl k) j->V.tag j=some (4+k)
 nO:∀i,i<V.n->∀j,tn (V.pl i) j->V.tag j=some (8+i)
theorem fZ.frame{l:Nat×Value×Value}{o:Src}(h:fZ w l o)(C:ak w W S)(a:∀k,nN l k->¬S k):fZ W l o:=
 ⟨(C.block _ (aO.1 h.aG).1 (a _ (.inl rfl))).trans h.aG,fY h.cm C (λk e=>a k (.inr (.inl e))),fY h.fl C (λk e=>a k (.inr (.inr e)))⟩
theorem jM.frame{l:Nat×Value}{p:ct}(h:jM w l p)(C:ak w W S)(a:∀k,tn l k->¬S k):jM W l p:=
 ⟨(C.block _ (aO.1 h.aG).1 (a _ (.inl rfl))).trans h.aG,fY h.parts C (λk e=>a k (.inr e))⟩
structure No(a:World)(sb:Nat)(V:aB)(T:Nat->Prop):Prop where
 aG:¬T 1->a.heap[sb]?=some (.cells V.cells 63 (0,0))
 ty:¬T 2->Ty a V.ob 64/\∀k,k<4->a.cell? ⟨V.ob,k,none⟩=some (.pointer (some ⟨(V.sl k).1,0,none⟩))
 src:∀k,k<4->¬T (4+k)->fZ a (V.sl k) (V.o k)
 pk:∀i,i<V.n->¬T (8+i)->jM a (V.pl i) (V.p i)
 aE:¬T 3->a.ownsRow 0 147 1 V.vs V.n (rowP V.n V.pl)
 cn:¬T 0->cE a V.xb V.xs V.st V.A
theorem bH.cW{V:aB}(h:bH w l V)(C:ak w W S)(T:Nat->Prop)(b:∀k t,S k->V.tag k=some t->T t):No W l V T:=by
 have lt:∀{k t},V.tag k=some t->k<w.heap.size:=λe=>(h.tl _ _ e).1
 refine⟨λn=>(C.block l (lt h.tS) (λe=>n (b _ _ e h.tS))).trans h.aG,λn=>?_,λk c n=>(h.src k c).frame C (λj d e=>n (b _ _ e (h.kW k c j d))),λi hi n=>(h.pk i hi).frame C (λj d e=>n (b _ _ e (h.nO i hi j d))),λn=>fY h.aE C (λk e e2=>n (b _ _ e2 (h.tV k e))),λn=>h.cn.other C (λk _ e a=>n (b _ _ e (h.tA k a)))⟩
 have q:¬S V.ob:=λe=>n (b _ _ e h.tO)
 exact⟨h.ty.aq C q,λk c=>C.cell (h.outs k c) q⟩
structure aY(w:World)(sb:Nat)(V b:aB)(a:World):Prop where
 at_:bH a sb b
 aq:ak w a (λk=>V.tag k≠none)
 all:∀k,k<w.heap.size->b.tag k=V.tag k
 laid:Laid a
theorem bH.t0{V:aB}(h:bH w n V):V.tag 0=none:=by
 cases e:V.tag 0 with
 |none=>rfl
 |some t=>exact absurd rfl (h.tl 0 t e).2
theorem aY.trans{V b c:aB}(h:aY w n V b W)(g:aY W n b c v):aY w n V c v:=
 ⟨g.at_,(h.aq.trans g.aq).mono (λk a e=>e.elim id (λe=>by rw[h.all k a]at e;exact e)),λk a=>(g.all k (bK a h.aq.size)).trans (h.all k a),g.laid⟩
theorem bH.other{V:aB}(h:bH w n V)(C:ak w W S)(a:∀k,S k->V.tag k=none):bH W n V:=by
 have K:=h.cW C (λ_=>False) (λk t e e2=>by rw[a k e]at e2;cases e2);exact⟨K.aG id,h.key,h.oc,(K.ty id).1,(K.ty id).2,λk b=>K.src k b id,λi hi=>K.pk i hi id,K.aE id,K.cn id,λk t e=>⟨bK (h.tl k t e).1 C.size,(h.tl k t e).2⟩,h.tA,h.tS,h.tO,h.tV,h.kW,h.nO⟩
theorem bH.ah{V:aB}(h:bH w n V)(g:w.grownBy W none):bH W n V:=h.other (ak.of g) (λk e=>by cases e)
theorem aY.refl{V:aB}(h:bH w n V)(g:w.grownBy W none)(a:Laid w):aY w n V V W:=⟨h.ah g,(ak.of g).mono (λk _ e=>by cases e),λk _=>rfl,a.gb g (by simp)⟩
theorem aY.gb{V a:aB}(h:aY w n V a W)(g:W.grownBy v none):aY w n V a v:=h.trans (aY.refl h.at_ g h.laid)
theorem aY.other{V a:aB}(h:aY w n V a W)(C:ak W v S)(h0:0<w.heap.size)(b:∀k,S k->a.tag k=none/\w.heap.size<=k):aY w n V a v:=by
 refine⟨h.at_.other C (λk e=>(b k e).1),?_,h.all,h.laid.aq C (λe=>by have:=(b 0 e).2;omega)⟩
 refine(h.aq.trans C).mono (λk c e=>e.elim id (λe=>by have:=(b k e).2;omega))
theorem bH.ng{V:aB}(h:bH w n V)(f:Laid w){g:aK}(C:ak w W V.A)(l:cE W V.xb V.xs g S)(m:∀k,S k->V.A k\/w.heap.size<=k):∃a,aY w n V {V with st:=g,A:=S,tag:=a} W/\∀k,a k≠none->V.tag k≠none\/S k:=by
 classical
 obtain⟨a,c⟩:∃a:Nat->Option Nat,a=λk=>if w.heap.size<=k/\S k then some 0 else V.tag k:=⟨_,rfl⟩
 have K:=h.cW C (λt=>t=0) (λk t e e2=>by rw[h.tA k e]at e2;exact(aJ e2).symm);have old:∀k,k<w.heap.size->a k=V.tag k:=λk b=>by rw[c];simp only;rw[ay (by omega)]
 have ob:∀k t,V.tag k=some t->a k=some t:=λk t e=>(old k (h.tl k t e).1).trans e
 refine⟨a,⟨⟨K.aG (by omega),h.key,h.oc,(K.ty (by omega)).1,(K.ty (by omega)).2,λk b=>K.src k b (by omega),λi hi=>K.pk i hi (by omega),K.aE (by omega),l,λk t e=>?_,λk b=>?_,ob _ _ h.tS,ob _ _ h.tO,λk e=>ob _ _ (h.tV k e),λk b j d=>ob _ _ (h.kW k b j d),λi hi j d=>ob _ _ (h.nO i hi j d)⟩,C.mono (λk _ e=>by rw[h.tA k e];simp),old,f.aq C h.cn.n0⟩,λk e=>?_⟩
 have e:a k=some t:=e;rw[c]at e;simp only at e;split at e;rename_i q;exact⟨l.lt k q.2,by have:=f.lt;omega⟩
 exact⟨bK (h.tl k t e).1 C.size,(h.tl k t e).2⟩
 show a k=some 0;obtain q|q:=m k b
 exact ob _ _ (h.tA k q);rw[c];simp only;rw[aM ⟨q,b⟩];rw[c]at e;simp only at e;split at e;rename_i q;exact .inr q.2;exact .inl e
theorem bH.yn{V:aB}(h:bH w n V)(a:Laid w)(now wait aV:Int)(C:ak w W (λk=>k=n))(b:W.heap[n]?=some (.cells {V with now:=now,wait:=wait,aV:=aV}.cells 63 (0,0))):aY w n V {V with now:=now,wait:=wait,aV:=aV} W:=by
 have K:=h.cW C (λt=>t=1) (λk t e e2=>by subst e;rw[h.tS]at e2;exact(aJ e2).symm);exact⟨⟨b,h.key,h.oc,(K.ty (by omega)).1,(K.ty (by omega)).2,λk c=>K.src k c (by omega),λi hi=>K.pk i hi (by omega),K.aE (by omega),K.cn (by omega),λk t e=>⟨bK (h.tl k t e).1 C.size,(h.tl k t e).2⟩,h.tA,h.tS,h.tO,h.tV,h.kW,h.nO⟩,C.mono (λk _ e=>by subst e;rw[h.tS];simp),λk _=>rfl,a.aq C (λe=>(h.tl _ _ h.tS).2 e.symm)⟩
theorem bH.yo{V:aB}(h:bH w n V)(c:Laid w)(a:k<4){b:Src}(C:ak w W (nN (V.sl k)))(d:fZ W (V.sl k) b):aY w n V {V with o:=aw V.o k b} W:=by
 have K:=h.cW C (λt=>t=4+k) (λj t e e2=>by rw[h.kW k a j e]at e2;exact(aJ e2).symm);refine⟨⟨K.aG (by omega),h.key,h.oc,(K.ty (by omega)).1,(K.ty (by omega)).2,λj f=>?_,λi hi=>K.pk i hi (by omega),K.aE (by omega),K.cn (by omega),λk t e=>⟨bK (h.tl k t e).1 C.size,(h.tl k t e).2⟩,h.tA,h.tS,h.tO,h.tV,h.kW,h.nO⟩,C.mono (λj _ e=>by rw[h.kW k a j e];simp),λk _=>rfl,c.aq C (λe=>(h.tl _ _ (h.kW k a 0 e)).2 rfl)⟩
 show fZ W (V.sl j) (aw V.o k b j);by_cases e:j=k;subst e;rw[bm];exact d;rw[bq _ _ e];exact K.src j f (by omega)
theorem bH.Nq{V:aB}(h:bH w n V)(m:Laid w)(f:k<4){b:Nat×Value×Value}{g:Src}(C:ak w W (nN (V.sl k)))(d:fZ W b g)(p:b.1=(V.sl k).1)(hF:∀j,nN b j->nN (V.sl k) j\/w.heap.size<=j):∃c,aY w n V {V with sl:=aw V.sl k b,o:=aw V.o k g,tag:=c} W:=by
 classical
 obtain⟨c,l⟩:∃c:Nat->Option Nat,c=λj=>if w.heap.size<=j/\nN b j then some (4+k)else V.tag j:=⟨_,rfl⟩
 have K:=h.cW C (λt=>t=4+k) (λj t e e2=>by rw[h.kW k f j e]at e2;exact(aJ e2).symm);have old:∀j,j<w.heap.size->c j=V.tag j:=λj a=>by rw[l];simp only;rw[ay (by omega)]
 have ob:∀j t,V.tag j=some t->c j=some t:=λj t e=>(old j (h.tl j t e).1).trans e
 have lt:∀j,nN b j->j<W.heap.size:=λj e=>by
  obtain rfl|e|e:=e
  exact(aO.1 d.aG).1;exact(dM d.cm j e).lt;exact(dM d.fl j e).lt
 refine⟨c,⟨K.aG (by omega),h.key,h.oc,(K.ty (by omega)).1,λj a=>?_,λj a=>?_,λi hi=>K.pk i hi (by omega),K.aE (by omega),K.cn (by omega),λj t e=>?_,λj a=>ob _ _ (h.tA j a),ob _ _ h.tS,ob _ _ h.tO,λj e=>ob _ _ (h.tV j e),λj a i hi=>?_,λi hi j a=>ob _ _ (h.nO i hi j a)⟩,C.mono (λj _ e=>by rw[h.kW k f j e];simp),old,m.aq C (λe=>(h.tl _ _ (h.kW k f 0 e)).2 rfl)⟩
 show W.cell? ⟨V.ob,j,none⟩=some (.pointer (some ⟨(aw V.sl k b j).1,0,none⟩));by_cases e:j=k;subst e;rw[bm,p];exact(K.ty (by omega)).2 j a;rw[bq _ _ e];exact(K.ty (by omega)).2 j a;show fZ W (aw V.sl k b j) (aw V.o k g j);by_cases e:j=k;subst e;rw[bm,bm];exact d;rw[bq _ _ e,bq _ _ e];exact K.src j a (by omega);have e:c j=some t:=e;rw[l]at e;simp only at e;split at e;rename_i q;exact⟨lt j q.2,by have:=m.lt;omega⟩
 exact⟨bK (h.tl j t e).1 C.size,(h.tl j t e).2⟩
 have hi:nN (aw V.sl k b j) i:=hi;show c i=some (4+j);by_cases e:j=k;subst e;rw[bm]at hi;obtain q|q:=hF i hi
 exact ob _ _ (h.kW j a i q);rw[l];simp only;rw[aM ⟨q,hi⟩];rw[bq _ _ e]at hi;exact ob _ _ (h.kW j a i hi)
theorem bH.Nr{V:aB}(h:bH w l V)(c:Laid w)(hi:i<V.n){a:ct}(C:ak w W (λk=>k=(V.pl i).1))(d:jM W (V.pl i) a):aY w l V {V with p:=aw V.p i a} W:=by
 have q:V.tag (V.pl i).1=some (8+i):=h.nO i hi _ (.inl rfl);have K:=h.cW C (λt=>t=8+i) (λj t e e2=>by subst e;rw[q]at e2;exact(aJ e2).symm);refine⟨⟨K.aG (by omega),h.key,h.oc,(K.ty (by omega)).1,(K.ty (by omega)).2,λj b=>K.src j b (by omega),λj b=>?_,K.aE (by omega),K.cn (by omega),λk t e=>⟨bK (h.tl k t e).1 C.size,(h.tl k t e).2⟩,h.tA,h.tS,h.tO,h.tV,h.kW,h.nO⟩,C.mono (λj _ e=>by subst e;rw[q];simp),λk _=>rfl,c.aq C (λe=>(h.tl _ _ q).2 e.symm)⟩
 show jM W (V.pl j) (aw V.p i a j);by_cases e:j=i;subst e;rw[bm];exact d;rw[bq _ _ e];exact K.pk j b (by omega)
variable{s:aB}
theorem Ns(V:aB)(a:di V.key):V.cells[0]?=some (.pointer (some ⟨V.xb,0,none⟩))/\V.cells[1]?=some (.int .i64 V.ao)/\V.cells[2]?=some (.int .i64 V.ai)/\V.cells[19]?=some (.slice (some ⟨V.ob,0,none⟩) 4 V.oc)/\V.cells[20]?=some V.vs/\V.cells[21]?=some (.int .i64 V.now)/\V.cells[22]?=some (.int .i64 V.wait)/\V.cells[23]?=some (.int .u64 V.aV):=by
 have hl:(bv V.key).length=16:=by rw[fK];exact a.1
 unfold aB.cells;simp[List.getElem?_append,hl]
theorem bH.c(h:bH w n s):(w.cell? ⟨n,0,none⟩=some (.pointer (some ⟨s.xb,0,none⟩))/\w.cell? ⟨n,1,none⟩=some (.int .i64 s.ao)/\w.cell? ⟨n,2,none⟩=some (.int .i64 s.ai)/\w.cell? ⟨n,19,none⟩=some (.slice (some ⟨s.ob,0,none⟩) 4 s.oc)/\w.cell? ⟨n,20,none⟩=some s.vs/\w.cell? ⟨n,21,none⟩=some (.int .i64 s.now)/\w.cell? ⟨n,22,none⟩=some (.int .i64 s.wait)/\w.cell? ⟨n,23,none⟩=some (.int .u64 s.aV))/\∀o,w.frozen? ⟨n,o,none⟩=false:=by
 obtain⟨a,b,d,e,f,a5,a6,a7⟩:=Ns s h.key;refine⟨⟨?_,?_,?_,?_,?_,?_,?_,?_⟩,λo=>by simp[World.frozen?,h.aG]⟩<;>rw[aU h.aG]<;>assumption
theorem jM.c{l:Nat×Value}{p:ct}(h:jM w l p):(w.cell? ⟨l.1,0,none⟩=some (.int .i64 p.tick)/\w.cell? ⟨l.1,1,none⟩=some l.2/\w.cell? ⟨l.1,2,none⟩=some (.bool p.quiet)/\w.cell? ⟨l.1,3,none⟩=some (.bool p.named)/\w.cell? ⟨l.1,4,none⟩=some (.bool p.lost))/\∀o,w.frozen? ⟨l.1,o,none⟩=false:=by
 have a:=h.aG;simp[World.cell?,World.frozen?,a,qB]
theorem fZ.c{l:Nat×Value×Value}{o:Src}(h:fZ w l o):(w.cell? ⟨l.1,0,none⟩=some (.string o.wrote)/\w.cell? ⟨l.1,1,none⟩=some l.2.1/\w.cell? ⟨l.1,2,none⟩=some l.2.2/\w.cell? ⟨l.1,3,none⟩=some (.bool o.finished)/\w.cell? ⟨l.1,4,none⟩=some (.bool o.eP)/\w.cell? ⟨l.1,5,none⟩=some (.int .i64 o.dX))/\∀j,w.frozen? ⟨l.1,j,none⟩=false:=by
 have a:=h.aG;simp[World.cell?,World.frozen?,a,mF]
theorem Nt{f:Nat->Bool}(h:j<n):(oZ n f)[j]?=some (.bool (f j)):=by simp[oZ,h]
theorem Nu{f:Nat->Int}(h:j<n):(nM n f)[j]?=some (.int .i64 (f j)):=by simp[nM,h]
theorem Nv{f:Nat->Nat×Value}(h:j<n):(rowP n f)[j]?=some (.pointer (some ⟨(f j).1,0,none⟩)):=by simp[rowP,h]
theorem Df{α:Type}(n:Nat)(f:Nat->α)(g:α->Value)(j:Nat)(x:α):((List.range n).map (λi=>g (f i))).set j (g x)=(List.range n).map (λi=>g (aw f j x i)):=by
 apply List.ext_getElem?;intro i;rw[List.getElem?_set];by_cases e:j=i;subst e;by_cases h:j<n;simp[h,aw];simp[h];have a:¬i=j:=λq=>e q.symm
 by_cases h:i<n;simp[e,h,aw,a];simp[e,h]
theorem fZ.ag{l:Nat×Value×Value}{o:Src}(h:fZ w l o){j:Nat}(a:j<o.n):∃g cap,l.2.1=.slice (some ⟨g,0,none⟩) o.n cap/\w.cell? ⟨g,j,none⟩=some (.bool (o.ag j))/\∀p,w.frozen? ⟨g,p,none⟩=false:=by
 obtain⟨g,cap,e,-,-,b,c,-⟩:=yi h.cm j a;exact⟨g,cap,e,b.trans (Nt a),c⟩
theorem fZ.az{l:Nat×Value×Value}{o:Src}(h:fZ w l o){j:Nat}(a:j<o.n):∃g cap,l.2.2=.slice (some ⟨g,0,none⟩) o.n cap/\w.cell? ⟨g,j,none⟩=some (.int .i64 (o.fl j))/\∀p,w.frozen? ⟨g,p,none⟩=false:=by
 obtain⟨g,cap,e,-,-,b,c,-⟩:=yi h.fl j a;exact⟨g,cap,e,b.trans (Nu a),c⟩
theorem fZ.ty{l:Nat×Value×Value}{o:Src}(h:fZ w l o):Ty w l.1 68:=⟨_,_,h.aG⟩
theorem fZ.Nw{l:Nat×Value×Value}{o:Src}(h:fZ w l o)(a:l.2.1.ownBlock=some n)(j:Nat)(x:Bool):fZ (w.setCell ⟨n,j,none⟩ (.bool x)) l {o with ag:=aw o.ag j x}:=by
 have C:=jl w n j (.bool x);have b:=dM h.cm n a;refine⟨(C.block _ h.ty.lt (h.ty.ne b (by decide))).trans h.aG,?_,fY h.fl C (λk e=>(dM h.fl k e).ne b (by decide))⟩
 have:=CW h.cm a j (.bool x);unfold oZ at this⊢;rw[Df (g:=Value.bool)]at this;exact this
theorem fZ.Nx{l:Nat×Value×Value}{o:Src}(h:fZ w l o)(a:l.2.2.ownBlock=some n)(j:Nat)(x:Int):fZ (w.setCell ⟨n,j,none⟩ (.int .i64 x)) l {o with fl:=aw o.fl j x}:=by
 have C:=jl w n j (.int .i64 x);have b:=dM h.fl n a;refine⟨(C.block _ h.ty.lt (h.ty.ne b (by decide))).trans h.aG,fY h.cm C (λk e=>(dM h.cm k e).ne b (by decide)),?_⟩
 have:=CW h.fl a j (.int .i64 x);unfold nM at this⊢;rw[Df (g:=Value.int .i64)]at this;exact this
theorem fZ.Ny{l:Nat×Value×Value}{o:Src}(h:fZ w l o)(i:Nat)(x:Value)(a:Src)(b:a.n=o.n)(c:a.ag=o.ag)(d:a.fl=o.fl)(f:(mF l o).setIfInBounds i x=mF l a):fZ (w.setCell ⟨l.1,i,none⟩ x) l a:=by
 have C:=jl w l.1 i x;refine⟨?_,?_,?_⟩
 have:=heap_set (o:=i) h.aG x;rw[f]at this;exact this;rw[b,c];exact fY h.cm C (λk e=>(dM h.cm k e).ne h.ty (by decide));rw[b,d];exact fY h.fl C (λk e=>(dM h.fl k e).ne h.ty (by decide))
theorem bH.Nz(h:bH w n s)(c:Laid w)(a:k<4)(b:(s.sl k).2.1.ownBlock=some l)(j:Nat)(x:Bool):aY w n s {s with o:=aw s.o k {s.o k with ag:=aw (s.o k).ag j x}} (w.setCell ⟨l,j,none⟩ (.bool x)):=
 h.yo c a ((jl w l j _).mono (λi _ e=>.inr (.inl (e▸b)))) ((h.src k a).Nw b j x)
theorem bH.NA(h:bH w n s)(c:Laid w)(a:k<4)(b:(s.sl k).2.2.ownBlock=some l)(j:Nat)(x:Int):aY w n s {s with o:=aw s.o k {s.o k with fl:=aw (s.o k).fl j x}} (w.setCell ⟨l,j,none⟩ (.int .i64 x)):=
 h.yo c a ((jl w l j _).mono (λi _ e=>.inr (.inr (e▸b)))) ((h.src k a).Nx b j x)
theorem bH.vG(h:bH w l s)(c:Laid w)(b:k<4)(i:Nat)(x:Value)(a:Src)(d:a.n=(s.o k).n)(f:a.ag=(s.o k).ag)(g:a.fl=(s.o k).fl)(m:(mF (s.sl k) (s.o k)).setIfInBounds i x=mF (s.sl k) a):aY w l s {s with o:=aw s.o k a} (w.setCell ⟨(s.sl k).1,i,none⟩ x):=
 h.yo c b ((jl w _ i x).mono (λj _ e=>.inl e)) ((h.src k b).Ny i x a d f g m)
theorem jM.ty{l:Nat×Value}{p:ct}(h:jM w l p):Ty w l.1 196:=⟨_,_,h.aG⟩
theorem bH.Dg(h:bH w l s)(c:Laid w)(hi:i<s.n)(j:Nat)(x:Value)(b:ct)(hp:b.parts=(s.p i).parts)(d:(qB (s.pl i) (s.p i)).setIfInBounds j x=qB (s.pl i) b):aY w l s {s with p:=aw s.p i b} (w.setCell ⟨(s.pl i).1,j,none⟩ x):=by
 have a:=h.pk i hi;have C:=jl w (s.pl i).1 j x;refine h.Nr c hi C ⟨?_,?_⟩;have:=heap_set (o:=j) a.aG x;rw[d]at this;exact this;rw[hp];exact fY a.parts C (λk e=>(dM a.parts k e).ne a.ty (by decide))
theorem yp(V:aB)(a:di V.key)(x:Int):V.cells.setIfInBounds 21 (.int .i64 x)={V with now:=x}.cells/\V.cells.setIfInBounds 22 (.int .i64 x)={V with wait:=x}.cells/\V.cells.setIfInBounds 23 (.int .u64 x)={V with aV:=x}.cells:=by
 obtain⟨_,_,_,_,_,_,_,_,_,_,_,_,_,_,_,_,e⟩:=xQ (bv V.key) (by rw[fK,a.1]);unfold aB.cells;simp only
 rw[e];exact⟨rfl,rfl,rfl⟩
theorem bH.NB(h:bH w n s)(a:Laid w)(x:Int):aY w n s {s with now:=x} (w.setCell ⟨n,21,none⟩ (.int .i64 x)):=
 h.yn a x s.wait s.aV (jl w n 21 _) (by have:=heap_set (o:=21) h.aG (.int .i64 x);rw[(yp s h.key x).1]at this;exact this)
theorem bH.yq(h:bH w n s)(a:Laid w)(x:Int):aY w n s {s with wait:=x} (w.setCell ⟨n,22,none⟩ (.int .i64 x)):=
 h.yn a s.now x s.aV (jl w n 22 _) (by have:=heap_set (o:=22) h.aG (.int .i64 x);rw[(yp s h.key x).2.1]at this;exact this)
theorem bH.NC(h:bH w n s)(a:Laid w)(x:Int):aY w n s {s with aV:=x} (w.setCell ⟨n,23,none⟩ (.int .u64 x)):=
 h.yn a s.now s.wait x (jl w n 23 _) (by have:=heap_set (o:=23) h.aG (.int .u64 x);rw[(yp s h.key x).2.2]at this;exact this)
theorem vH(w:World)(a:Value)(l:Nat×Value)(p:ct)(h:jM w l p):Calls prog 56 #[a,.pointer (some ⟨l.1,0,none⟩)] w λe b=>e=.returned (.bool p.on)/\b=w:=by
 obtain⟨⟨-,-,c2,c3,c4⟩,-⟩:=h.c;clear h;obtain⟨tick,parts,q,n,lo⟩:=p;obtain⟨lb,lv⟩:=l;simp only at c2 c3 c4;unfold ct.on;simp only
 cases q<;>cases n<;>cases lo<;>(go_enter func56,ntmps56;go_wp2_with fail;go_ret;exact⟨rfl,rfl⟩)
theorem Dh(w:World)(sb:Nat)(V:aB)(H:bH w sb V)(k:Nat)(q:k<4)(c:Nat)(i:c<=(V.o k).n)(d:∀j,j<c->(V.o k).ag j=true)(b:c<(V.o k).n->(V.o k).ag c=false)(x:(V.o k).n<=1000000):
 Calls prog 54 #[.pointer (some ⟨sb,0,none⟩),.int .i64 k] w λe y=>e=.returned (.int .i64 c)/\y=w:=by
 obtain⟨⟨-,-,-,gl,-,-,-,-⟩,-⟩:=H.c;have co:=H.outs k q;have h:=H.src k q;obtain⟨⟨-,s1,-,-,-,-⟩,-⟩:=h.c;obtain⟨z,vc,l,-⟩:=ix h.cm;have C:(0:Int)<=(k:Int):=by omega
 have D:(k:Int)<4:=by omega
 have a:∀j,j<(V.o k).n->∃g,z=some ⟨g,0,none⟩/\w.cell? ⟨g,j,none⟩=some (.bool ((V.o k).ag j)):=λj r=>by
  obtain⟨g,cap,e,i,-⟩:=h.ag r;rw[l]at e;exact⟨g,(fS e).1,i⟩
 rw[l]at s1;obtain⟨lb,s⟩:=exq ((V.sl k).1);rw[<-s]at co s1;obtain⟨n,t⟩:=exq ((V.o k).n);rw[<-t]at s1 a i b x;obtain⟨f,u⟩:=exq ((V.o k).ag);rw[<-u]at a d b;clear s t u l h H;replace a:=J a;replace d:=J d;replace b:=J b;go_enter func54,ntmps54;go_wp2_with fail;go_loopw [6] (λm wr=>∃(j:Nat),j<=c/\m=.int .i64 (j:Int)/\wr=w) (λm _=>c-(intOf m).toNat);case atStart=>exact⟨0,by omega,rfl,rfl⟩
 case round=>
  obtain⟨j,r,rfl,rfl⟩:=hrel;have E:(0:Int)<=(j:Int):=by omega
  by_cases A:j<c
  ·obtain⟨g,rfl,p⟩:=Z a j (by omega);rw[Z d j A]at p;have d1:decide ((j:Int)<(n:Int))=true:=bp (by omega);have B:(j:Int)<(n:Int):=by omega
   go_wp2_with fail;exact⟨⟨j+1,by omega,rfl,trivial⟩,by simp[intOf];omega⟩
  obtain rfl:j=c:=by omega
  by_cases v:j<n
  ·obtain⟨g,rfl,p⟩:=Z a j v;rw[Z b v]at p;have d1:decide ((j:Int)<(n:Int))=true:=bp (by omega);have B:(j:Int)<(n:Int):=by omega
   go_wp2_with fail;go_ret;exact⟨rfl,rfl⟩
  have d1:decide ((j:Int)<(n:Int))=false:=bB (by omega);go_wp2_with fail;go_ret;exact⟨rfl,rfl⟩
def Src.wb(o:Src)(j:Nat):Bool:= !o.ag j&&(o.fl j==0)
def Src.pY(o:Src)(q:Pt):Prop:=(∃j,q.fr<=j/\j<q.en/\o.wb j=true)\/(q.fin&&o.finished&& !o.eP&&(o.dX==0))=true
def kX(q:Pt):Array Value:= #[.int .i64 q.st,.int .i64 q.fr,.int .i64 q.en,.bool q.fin]
def yr(w:World)(o:Src)(q:Pt)(e:Ending)(a:World):Prop:=∃b,e=.returned (.bool b)/\(b=true↔o.pY q)/\w.grownBy a none
theorem Di(w:World)(sb:Nat)(V:aB)(H:bH w sb V)(q:Pt)(L:q.st<4)(X:q.en<=(V.o q.st).n)(Y:(V.o q.st).n<=1000000)(al:q.fr<=1000000):
 Calls prog 57 #[.pointer (some ⟨sb,0,none⟩),.agg (kX q)] w (yr w (V.o q.st) q):=by
 obtain⟨a,u⟩:=exq (w.alloc (.cells (kX q) 150));have C:w.grownBy a none:=by rw[u];exact aC _ _ _
 have b1:a.heap[w.heap.size]?=some (.cells (kX q) 150 (0,0)):=by rw[u];exact aH _ _
 have v:=H.ah C;obtain⟨⟨-,-,-,gl,-,-,-,-⟩,-⟩:=v.c;have co:=v.outs q.st L;have p:=v.src q.st L;obtain⟨⟨-,s1,s2,s3,D,s5⟩,-⟩:=p.c;obtain⟨S,vc,E,-⟩:=ix p.cm;obtain⟨T,uc,F,-⟩:=ix p.fl;have x:∀j,j<(V.o q.st).n->∃g,S=some ⟨g,0,none⟩/\a.cell? ⟨g,j,none⟩=some (.bool ((V.o q.st).ag j)):=λj t=>by
  obtain⟨g,cap,e,l,-⟩:=p.ag t;rw[E]at e;exact⟨g,(fS e).1,l⟩
 have y:∀j,j<(V.o q.st).n->∃g,T=some ⟨g,0,none⟩/\a.cell? ⟨g,j,none⟩=some (.int .i64 ((V.o q.st).fl j)):=λj t=>by
  obtain⟨g,cap,e,l,-⟩:=p.az t;rw[F]at e;exact⟨g,(fS e).1,l⟩
 rw[E]at s1;rw[F]at s2;obtain⟨lb,M⟩:=exq ((V.sl q.st).1);rw[<-M]at co s1 s2 s3 D s5;clear M E F p v H;generalize V.o q.st=o at *;obtain⟨st,fr,d,fin⟩:=q;simp only at *;unfold kX at *;simp only at *;have k0:(0:Int)<=(st:Int):=by omega
 have k1:(st:Int)<4:=by omega
 obtain⟨y0,y1,y2,y3⟩:a.cell? ⟨w.heap.size,0,none⟩=some (.int .i64 st)/\a.cell? ⟨w.heap.size,1,none⟩=some (.int .i64 fr)/\a.cell? ⟨w.heap.size,2,none⟩=some (.int .i64 d)/\a.cell? ⟨w.heap.size,3,none⟩=some (.bool fin):=by simp[World.cell?,b1]
 replace b1:=J b1;replace x:=J x;replace y:=J y;obtain⟨R,A⟩:=exq (yr w o ⟨st,fr,d,fin⟩);have N:Hid (∀j,fr<=j->j<d->o.wb j=true->R (.returned (.bool true)) a.drew):=J (λj h r k=>by rw[A];exact⟨true,rfl,⟨λ_=>.inl ⟨j,h,r,k⟩,λ_=>rfl⟩,aP C⟩);have O:Hid ((∀j,fr<=j->j<d->o.wb j=false)->R (.returned (.bool (fin&&o.finished&& !o.eP&&(o.dX==0)))) a.drew):=J (λm=>by
  rw[A];refine⟨_,rfl,⟨λe=>.inr e,λe=>?_⟩,aP C⟩
  obtain⟨j,h,r,k⟩|e:=e
  rw[m j h r]at k;cases k
  ·exact e)
 rw[<-A];clear A;replace gl:=kc gl;go_enter func57,ntmps57;go_upto_region 1 with fail;rw[<-u];clear u;replace gl:=gl a (av _ _);go_region;go_wp2_with fail;go_loopw [6] (λG wr=>∃(j:Nat),fr<=j/\(j<=d\/j=fr)/\G=.int .i64 (j:Int)/\wr=a.drew/\∀i,fr<=i->i<j->o.wb i=false) (λG _=>d-(intOf G).toNat);case atStart=>exact⟨fr,by omega,.inr rfl,rfl,rfl,λi h r=>by omega⟩
 case round=>
  obtain⟨j,t,a9,rfl,rfl,m⟩:=hrel;have j0:(0:Int)<=(j:Int):=by omega
  replace m:=J m;by_cases U:j<d
  ·obtain⟨g,rfl,I⟩:=Z x j (by omega);obtain⟨f,rfl,W⟩:=Z y j (by omega);have d1:decide ((j:Int)<(d:Int))=true:=bp (by omega);have j1:(j:Int)<(o.n:Int):=by omega
   have B:=J (Z N j t U);have s:Hid (o.wb j=false->∀i,fr<=i->i<j+1->o.wb i=false):=J (λe i h r=>by
    by_cases q:i=j;rw[q];exact e
    ·exact Z m i h (by omega))
   unfold Src.wb at B s;cases l:o.ag j
   ·by_cases P:o.fl j=0
    ·rw[l]at I B;rw[P]at W B;go_wp2_with fail;exact Z B rfl
    have d2:(o.fl j==0)=false:=by simpa using P
    rw[l]at I s;rw[d2]at s;go_wp2_with fail;exact⟨⟨j+1,by omega,.inl (by omega),rfl,trivial,Z s rfl⟩,by simp[intOf];omega⟩
   rw[l]at I s;go_wp2_with fail;exact⟨⟨j+1,by omega,.inl (by omega),rfl,trivial,Z s rfl⟩,by simp[intOf];omega⟩
  have d1:decide ((j:Int)<(d:Int))=false:=bB (by omega);have b:=J (Z O (λi h r=>Z m i h (by omega)));clear O N m x y;obtain⟨z,K⟩:=exq ((o.dX==0));rw[<-K]at b;replace K:=K.symm;cases fin
  ·go_wp2_with fail;exact Z b
  cases k:o.finished
  ·rw[k]at s3 b;go_wp2_with fail;exact Z b
  cases Q:o.eP
  ·rw[k]at s3 b;rw[Q]at D b;go_wp2_with fail;exact Z b
  rw[k]at s3 b;rw[Q]at D b;go_wp2_with fail;exact Z b
def nP(q:Pt)(k j:Nat):Int:=if q.st=k/\q.fr<=j/\j<q.en then 1 else 0
def mG(q:Pt)(k:Nat):Int:=if q.st=k/\q.fin=true then 1 else 0
def gZ:List Pt->Nat->Nat->Int
 |[],_,_=>0
 |q::r,k,j=>nP q k j+gZ r k j
def hb:List Pt->Nat->Int
 |[],_=>0
 |q::r,k=>mG q k+hb r k
theorem ND(a b:List Pt)(k j:Nat):gZ (a++b) k j=gZ a k j+gZ b k j:=by
 induction a with
 |nil=>simp[gZ]
 |cons q a c=>simp only[nu,gZ,c];omega
theorem NF(a b:List Pt)(k:Nat):hb (a++b) k=hb a k+hb b k:=by
 induction a with
 |nil=>simp[hb]
 |cons q a c=>simp only[nu,hb,c];omega
theorem qC(a:List Pt)(k j:Nat):0<=gZ a k j/\gZ a k j<=a.length:=by
 induction a with
 |nil=>simp[gZ]
 |cons q a b=>
  have:0<=nP q k j/\nP q k j<=1:=by unfold nP;split<;>omega
  simp only[gZ,dJ];omega
theorem qD(a:List Pt)(k:Nat):0<=hb a k/\hb a k<=a.length:=by
 induction a with
 |nil=>simp[hb]
 |cons q a b=>
  have:0<=mG q k/\mG q k<=1:=by unfold mG;split<;>omega
  simp only[hb,dJ];omega
def gL(o:Nat->Src)(ps:List Pt)(cD:Int):Nat->Src:=λk=>{o k with fl:=λj=>(o k).fl j+cD*gZ ps k j,dX:=(o k).dX+cD*hb ps k}
def js(o:Nat->Src)(q:Pt)(cD:Int)(m:Nat):Nat->Src:=λk=>{o k with fl:=λj=>(o k).fl j+(if q.st=k/\q.fr<=j/\j<m then cD else 0)}
theorem NG(o:Nat->Src)(cD:Int):gL o [] cD=o:=by
 funext k;simp[gL,gZ,hb]
theorem NH(o:Nat->Src)(a b:List Pt)(cD:Int):gL (gL o a cD) b cD=gL o (a++b) cD:=by
 funext k;unfold gL;simp only[ND,NF,Int.mul_add,Int.add_assoc]
theorem NI(o:Nat->Src)(q:Pt)(cD:Int):js o q cD q.fr=o:=by
 funext k;unfold js;have:(λj=>(o k).fl j+(if q.st=k/\q.fr<=j/\j<q.fr then cD else 0))=(o k).fl:=by
  funext j;rw[ay (by omega)];omega
 rw[this]
theorem NJ(o:Nat->Src)(q:Pt)(cD:Int)(m:Nat)(k:Nat):(js o q cD m k).fl m=(o k).fl m:=by
 unfold js;simp only
 rw[ay (by omega)];omega
theorem NK(o:Nat->Src)(q:Pt)(cD:Int)(m:Nat)(b:q.fr<=m):aw (js o q cD m) q.st {js o q cD m q.st with fl:=aw (js o q cD m q.st).fl m ((o q.st).fl m+cD)}=js o q cD (m+1):=by
 funext k;by_cases e:k=q.st;subst e;rw[bm];unfold js;simp only[true_and]
 congr 1;funext j;unfold aw;by_cases e2:j=m;subst e2;simp[b];have a:j<m+1↔j<m:=by omega
 simp[e2,a];rw[bq _ _ e];unfold js;have c:¬q.st=k:=λx=>e x.symm
 simp[c]
theorem NL(o:Nat->Src)(q:Pt)(cD:Int):(q.fin=false->js o q cD q.en=gL o [q] cD)/\(q.fin=true->aw (js o q cD q.en) q.st {js o q cD q.en q.st with dX:=(o q.st).dX+cD}=gL o [q] cD):=by
 have a:∀k,(λj=>(o k).fl j+(if q.st=k/\q.fr<=j/\j<q.en then cD else 0))=λj=>(o k).fl j+cD*gZ [q] k j:=λk=>by
  funext j;unfold gZ nP gZ;split<;>simp
 refine⟨λh=>?_,λh=>?_⟩
 funext k;unfold js gL;rw[a k];simp[hb,mG,h];funext k;by_cases e:k=q.st;subst e;rw[bm];unfold js gL;have b:=a q.st;simp only[true_and]at b⊢;rw[b];simp[hb,mG,h];rw[bq _ _ e];have c:¬q.st=k:=λx=>e x.symm
 unfold js gL;rw[a k];simp[hb,mG,c]
theorem bH.fresh(h:bH w n s)(a:w.heap.size<=k):s.tag k=none:=by
 cases e:s.tag k with
 |none=>rfl
 |some t=>have:=(h.tl k t e).1;omega
theorem Dj{l:List Pt}:∀{o j:Nat}{q:Pt},w.rangeAt n o (l.flatMap iy)->l[j]?=some q->w.rangeAt n (o+j*4) (iy q):=by
 intro o j q h c m u b;have e:m<4:=by have:=(iX.1 b).1;exact this
 have key:∀(l:List Pt)(j:Nat),l[j]?=some q->(l.flatMap iy)[j*4+m]?=some u:=by
  intro l;induction l with
  |nil=>intro j h;simp at h
  |cons x l d=>
   intro j a;rw[pC];cases j with
   |zero=>
    simp only[List.getElem?_cons_zero,kM]at a;subst a;rw[nk (by simp[iy];omega)];simpa using b
   |succ j=>
    rw[kZ (by simp[iy];omega)];have:(j+1)*4+m-(iy x).length=j*4+m:=by simp[iy];omega
    rw[this];exact d j (by simpa using a)
 have:=h (j*4+m) u (key l j c);rw[<-oq]at this;exact this
theorem Dk:(prog.info? 150).map (·.size)=some 4:=by kernel_rfl
structure Dl(V:aB):Prop where
 n:∀k,k<4->(V.o k).n<=1000000
 fl:∀k,k<4->∀j,-1000000000<=(V.o k).fl j/\(V.o k).fl j<=1000000000
 on:∀k,k<4-> -1000000000<=(V.o k).dX/\(V.o k).dX<=1000000000
def Dm(V:aB)(q:Pt):Prop:=q.st<4/\q.fr<=q.en/\q.en<=(V.o q.st).n
theorem Dn(a:p=1\/p= -1)(h:0<=q/\q<=n): -(n:Int)<=p*q/\p*q<=n:=by
 obtain rfl|rfl:=a<;>omega
theorem ys(w:World)(sb:Nat)(V:aB)(H:bH w sb V)(hL:Laid w)(i:Nat)(hi:i<V.n)(cD:Int)(aa:cD=1\/cD= -1)(hp:∀q∈(V.p i).parts,Dm V q)(s:Dl V)(a9:(V.p i).parts.length<=1000000):
 Calls prog 88 #[.pointer (some ⟨sb,0,none⟩),.pointer (some ⟨(V.pl i).1,0,none⟩),.int .i64 cD] w λe w'=>e=.returned (.tuple #[])/\aY w sb V {V with o:=gL V.o (V.p i).parts cD} w':=by
 obtain⟨ps,I⟩:=exq ((V.p i).parts);obtain⟨pb,K⟩:=exq ((V.pl i).1);obtain⟨pa,pc,hv,b3,b4,a0,bb⟩:=ix (H.pk i hi).parts;have bj:Hid (∀(W:World)(o':Nat->Src),bH W sb {V with o:=o'}->W.cell? ⟨pb,1,none⟩=some (.slice pa ps.length pc)/\∀j q,ps[j]?=some q->∃g,pa=some ⟨g,0,none⟩/\W.rangeAt g (j*4) (iy q)):=J (λW o' h=>by
  have A:=h.pk i hi;obtain⟨⟨-,c1,-⟩,-⟩:=A.c;obtain⟨br,bt,a1,-,-,b5,bx⟩:=ix A.parts;have e:Value.slice pa (V.p i).parts.length pc=.slice br (V.p i).parts.length bt:=hv.symm.trans a1;obtain⟨rfl,-,rfl⟩:=fS e;rw[K,I];refine⟨c1.trans (by rw[a1]),λj q L=>?_⟩
  cases pa with
  |none=>have:=(a0 rfl).1;rw[r8 (by omega)]at L;cases L
  |some y=>
   obtain⟨ey,hr⟩:=bx y rfl;exact⟨y.block,by rw[ey],by have:=Dj hr L;rw[dv]at this;exact this⟩)
 have T0:Hid (aY w sb V {V with o:=gL V.o (ps.take 0) cD} w):=J (by rw[tN,NG];exact aY.refl H (av _ _) hL);rw[<-I]at hp a9⊢;rw[<-K];clear I K bb a0 hv H hL;replace hp:=J hp;replace s:=J s;have bz:=J Dk;go_enter func88,ntmps88;go_wp2_with fail;go_loopw [6] (λM wr=>∃(j:Nat),j<=ps.length/\M=.int .i64 (j:Int)/\aY w sb V {V with o:=gL V.o (ps.take j) cD} wr) (λM _=>ps.length-(intOf M).toNat);case atStart=>exact⟨0,by omega,rfl,Z T0⟩
 case round=>
  obtain⟨j,hj,rfl,T⟩:=hrel;rename_i w1;have j0:(0:Int)<=(j:Int):=by omega
  obtain⟨c1,a2⟩:=Z bj wr _ T.at_;by_cases N:j<ps.length
  ·have d1:decide ((j:Int)<(ps.length:Int))=true:=bp (by omega);have j1:(j:Int)<(ps.length:Int):=by omega
   obtain⟨g,rfl,B⟩:=a2 j ps[j] (eF N);obtain⟨l,bL,b6⟩:=Z hp ps[j] (nt N);have a3:ps.take (j+1)=ps.take j++[ps[j]]:=by rw[nr,eF N];rfl
   generalize ps[j]=q at *;obtain⟨a,t⟩:=exq (gL V.o (ps.take j) cD);have bM:=J (NL a q cD);have C:gL a [q] cD=gL V.o (ps.take (j+1)) cD:=by rw[t,NH,a3]
   have D:(∀m,-1000000000-1000000<=(a q.st).fl m/\(a q.st).fl m<=1000000000+1000000)/\ -1000000000-1000000<=(a q.st).dX/\(a q.st).dX<=1000000000+1000000:=by
    have hl:(ps.take j).length<=1000000:=by rw[cC];omega
    rw[t];refine⟨λm=>?_,?_⟩
    have A:=(Z s).fl q.st l m;have h2:=Dn aa (qC (ps.take j) q.st m);unfold gL;simp only;omega;have A:=(Z s).on q.st l;have h2:=Dn aa (qD (ps.take j) q.st);unfold gL;simp only;omega
   have E:∀k,(a k).n=(V.o k).n:=λk=>by rw[t];rfl
   have b7:=(Z s).n q.st l;rw[<-t]at T;replace C:=J C;clear t a3;obtain⟨Q,F⟩:=exq wr.heap.size;obtain⟨r,u⟩:=exq (wr.alloc (.cells (kX q) 150));have g2:wr.grownBy r none:=by rw[u];exact aC _ _ _
   have b2:r.heap[Q]?=some (.cells (kX q) 150 (0,0)):=by rw[u,F];exact aH _ _
   have G:=T.gb g2;have tq:V.tag Q=none:=T.at_.fresh (by omega);obtain⟨⟨-,-,-,gl,-,-,-,-⟩,-⟩:=G.at_.c;have co:=G.at_.outs q.st l;have a4:Hid (aY w sb V {V with o:=js a q cD q.fr} r):=J (by rw[NI];exact G);clear G;simp only at gl co;obtain⟨st,fr,d,fin⟩:=q;unfold kX at u b2;simp only at *;obtain⟨lb,v⟩:=exq ((V.sl st).1);rw[<-v]at co;obtain⟨y0,y1,O⟩:r.cell? ⟨Q,0,none⟩=some (.int .i64 st)/\r.cell? ⟨Q,1,none⟩=some (.int .i64 fr)/\r.cell? ⟨Q,3,none⟩=some (.bool fin):=by simp[World.cell?,b2]
   have k0:(0:Int)<=(st:Int):=by omega
   have k1:(st:Int)<4:=by omega
   replace B:=J B;replace T:=J T;replace b2:=J b2;replace v:=J v;replace D:=J D;replace E:=J E;clear a2;go_upto_region 4 with(refine wpList_load_mid (by rfl) 150 _ (by rfl) g (j*4) (by rfl) (iy ⟨st,fr,d,fin⟩) _ (Z B) underlying150 (by rfl) (Z bz) ?_;simp only[iy])
   rw[<-u,<-F];clear u B c1;replace F:=J F;go_region;go_wp2_with fail;clear y0 y1 co gl O;go_loopw [9] (λP a8=>∃(m:Nat),fr<=m/\m<=d/\P=.int .i64 (m:Int)/\aY w sb V {V with o:=js a ⟨st,fr,d,fin⟩ cD m} a8/\a8.heap[Q]?=some (.cells #[.int .i64 st,.int .i64 fr,.int .i64 d,.bool fin] 150 (0,0))) (λP _=>d-(intOf P).toNat);case atStart=>exact⟨fr,by omega,bL,rfl,(Z a4).gb (aP (av _ none)),Z b2⟩
   case round=>
    clear a4 b2 g2 r;obtain⟨m,bP,b8,rfl,b,x⟩:=hrel;have m0:(0:Int)<=(m:Int):=by omega
    obtain⟨y2,O⟩:wr.cell? ⟨Q,2,none⟩=some (.int .i64 d)/\wr.cell? ⟨Q,3,none⟩=some (.bool fin):=by simp[World.cell?,x]
    have z:=b.at_.src st l;obtain⟨⟨-,-,s2,-,-,s5⟩,sf⟩:=z.c;simp only at s2 s5 sf;rw[<-Z v]at s2 s5 sf;by_cases ca:m<d
    ·have d3:decide ((m:Int)<(d:Int))=true:=bp (by omega);obtain⟨R,bS,e3,cf,fz⟩:=z.az (j:=m) (by have:=Z E st;show m<(a st).n;omega);have S:(V.sl st).2.2=.slice (some ⟨R,0,none⟩) (a st).n bS:=e3;have m1:(m:Int)<((a st).n:Int):=by have:=Z E st;omega
     simp only[NJ]at cf;have U:=b.at_.NA b.laid l (l:=R) (by show(V.sl st).2.2.ownBlock=_;rw[S];rfl) m ((a st).fl m+cD);have f:=b.trans U;have X:(wr.setCell ⟨R,m,none⟩ (.int .i64 ((a st).fl m+cD))).heap[Q]?=some (.cells #[.int .i64 st,.int .i64 fr,.int .i64 d,.bool fin] 150 (0,0)):=(U.aq.block Q (aO.1 x).1 (by show¬V.tag Q≠none;rw[tq];simp)).trans x;have Y:=NK a ⟨st,fr,d,fin⟩ cD m bP;simp only at f Y;rw[Y]at f;rw[S]at s2;clear Y U z e3 S;have kw:IntKind.i64.wrap ((a st).fl m+cD)=(a st).fl m+cD:=by
      have:=(Z D).1 m;simp[IntKind.wrap,IntKind.bits,IntKind.signed];omega
     replace b:=J b;replace f:=J f;replace x:=J x;replace X:=J X;clear O s5;go_upto_region 8 with fail;go_region;go_wp2_with fail;exact⟨⟨m+1,by omega,by omega,rfl,(Z f).gb (aP (av _ none)),Z X⟩,by simp[intOf];omega⟩
    have d3:decide ((m:Int)<(d:Int))=false:=bB (by omega);obtain rfl:m=d:=by omega
    obtain⟨al,ax⟩:=Z bM;cases fin
    ·rw[al rfl]at b;rw[Z C]at b;replace b:=J b;clear z al ax s2 s5;go_wp2_with fail;exact⟨⟨j+1,by omega,rfl,Z b⟩,by simp[intOf];omega⟩
    have f:=b.trans (b.at_.vG b.laid l 5 (.int .i64 ((a st).dX+cD)) {js a ⟨st,fr,m,true⟩ cD m st with dX:=(a st).dX+cD} rfl rfl rfl rfl);simp only at f;rw[ax rfl,Z C,<-Z v]at f;have kw:IntKind.i64.wrap ((a st).dX+cD)=(a st).dX+cD:=by
     have:=(Z D).2;simp[IntKind.wrap,IntKind.bits,IntKind.signed];omega
    have cg:wr.cell? ⟨lb,5,none⟩=some (.int .i64 (a st).dX):=s5;replace b:=J b;replace f:=J f;clear z al ax s2 s5;go_wp2_with fail;exact⟨⟨j+1,by omega,rfl,Z f⟩,by simp[intOf];omega⟩
  have d1:decide ((j:Int)<(ps.length:Int))=false:=bB (by omega);have b0:j=ps.length:=by omega
  rw[b0,lh]at T;replace T:=J T;go_wp2_with fail;exact dP (dj rfl _ _ _) rfl ⟨rfl,Z T⟩
def eQ(p:Nat->ct)(k j:Nat):Nat->Int
 |0=>0
 |n+1=>eQ p k j n+if(p n).on then gZ (p n).parts k j else 0
def eZ(p:Nat->ct)(k:Nat):Nat->Int
 |0=>0
 |n+1=>eZ p k n+if(p n).on then hb (p n).parts k else 0
def aB.re(V:aB)(a:Nat->ct):aB:={V with p:=a,o:=λk=>{V.o k with fl:=λj=>eQ a k j V.n,dX:=eZ a k V.n}}
def aB.fG(V:aB):Prop:=∀k,(∀j,(V.o k).fl j=eQ V.p k j V.n)/\(V.o k).dX=eZ V.p k V.n
theorem NO{a:aB}(h:a.o=s.o)(d:a.fG)(e:a.n=s.n):a.o=λk=>{s.o k with fl:=λj=>eQ a.p k j s.n,dX:=eZ a.p k s.n}:=by
 funext k;obtain⟨b,c⟩:=d k;rw[h]at b c⊢;rw[e]at b c;have:(s.o k).fl=λj=>eQ a.p k j s.n:=funext b
 rw[<-this,<-c]
theorem aB.fG.re(h:s.fG):s.re s.p=s:=by
 unfold aB.re;rw[<-NO (s:=s) rfl h rfl]
theorem tp(V:aB)(a:Nat->ct):(V.re a).fG:=λ_=>⟨λ_=>rfl,rfl⟩
theorem yt(p:Nat->ct)(k j:Nat)(x:ct):∀n,n<=i->eQ (aw p i x) k j n=eQ p k j n:=by
 intro n;induction n with
 |zero=>intro _;rfl
 |succ n a=>intro h;unfold eQ;rw[a (by omega),bq _ _ (by omega)]
theorem yu(p:Nat->ct)(k:Nat)(x:ct):∀n,n<=i->eZ (aw p i x) k n=eZ p k n:=by
 intro n;induction n with
 |zero=>intro _;rfl
 |succ n a=>intro h;unfold eZ;rw[a (by omega),bq _ _ (by omega)]
theorem Dp(p:Nat->ct)(k j:Nat)(x:ct):∀n,i<n->eQ (aw p i x) k j n=eQ p k j n-(if(p i).on then gZ (p i).parts k j else 0)+(if x.on then gZ x.parts k j else 0):=by
 intro n;induction n with
 |zero=>intro h;omega
 |succ n a=>
  intro h;unfold eQ;by_cases e:i=n;subst e;rw[yt p k j x i (aI _),bm];omega;rw[a (by omega),bq _ _ (by omega)];omega
theorem Dq(p:Nat->ct)(k:Nat)(x:ct):∀n,i<n->eZ (aw p i x) k n=eZ p k n-(if(p i).on then hb (p i).parts k else 0)+(if x.on then hb x.parts k else 0):=by
 intro n;induction n with
 |zero=>intro h;omega
 |succ n a=>
  intro h;unfold eZ;by_cases e:i=n;subst e;rw[yu p k x i (aI _),bm];omega;rw[a (by omega),bq _ _ (by omega)];omega
theorem Dr(h:s.fG)(hi:i<s.n)(x:ct)(a:(s.p i).on=true)(b:x.on=false):({s with p:=aw s.p i x,o:=gL s.o (s.p i).parts (-1)}:aB)=s.re (aw s.p i x):=by
 unfold aB.re;congr 1;funext k;obtain⟨c1,c2⟩:=h k;have e1:(λj=>(s.o k).fl j+(-1)*gZ (s.p i).parts k j)=λj=>eQ (aw s.p i x) k j s.n:=by
  funext j;rw[c1 j,Dp _ _ _ _ _ hi,a,b];simp;omega
 have e2:(s.o k).dX+(-1)*hb (s.p i).parts k=eZ (aw s.p i x) k s.n:=by
  rw[c2,Dq _ _ _ _ hi,a,b];simp;omega
 unfold gL;rw[e1,e2]
theorem NP(h:s.fG)(hi:i<s.n)(x:ct)(a:(s.p i).on=x.on)(b:x.parts=(s.p i).parts):({s with p:=aw s.p i x}:aB)=s.re (aw s.p i x):=by
 unfold aB.re;congr 1;funext k;obtain⟨c1,c2⟩:=h k;have e1:(s.o k).fl=λj=>eQ (aw s.p i x) k j s.n:=by
  funext j;rw[c1 j,Dp _ _ _ _ _ hi,a,b];omega
 have e2:(s.o k).dX=eZ (aw s.p i x) k s.n:=by
  rw[c2,Dq _ _ _ _ hi,a,b];omega
 rw[<-e1,<-e2]
structure fO(V:aB):Prop where
 n:V.n<=1000000
 pt:∀i,i<V.n->∀q∈(V.p i).parts,Dm V q
 pl:∀i,i<V.n->(V.p i).parts.length<=300
 sz:∀k,k<4->(V.o k).n<=1000000
theorem NQ(p:Nat->ct)(k j:Nat):∀n,(∀i,i<n->(p i).parts.length<=300)->0<=eQ p k j n/\eQ p k j n<=300*n:=by
 intro n;induction n with
 |zero=>intro _;simp[eQ]
 |succ n a=>
  intro h;have b:=a (λi hi=>h i (by omega));have c:=qC (p n).parts k j;have d:=h n (by omega);unfold eQ;split<;>omega
theorem NR(p:Nat->ct)(k:Nat):∀n,(∀i,i<n->(p i).parts.length<=300)->0<=eZ p k n/\eZ p k n<=300*n:=by
 intro n;induction n with
 |zero=>intro _;simp[eZ]
 |succ n a=>
  intro h;have b:=a (λi hi=>h i (by omega));have c:=qD (p n).parts k;have d:=h n (by omega);unfold eZ;split<;>omega
theorem fO.tr(h:fO s)(a:s.fG):Dl s:=by
 have c:=h.n;refine⟨h.sz,λk b j=>?_,λk b=>?_⟩
 rw[(a k).1 j];have:=NQ s.p k j s.n h.pl;omega;rw[(a k).2];have:=NR s.p k s.n h.pl;omega
theorem fO.re(h:fO s){a:Nat->ct}(hp:∀i,(a i).parts=(s.p i).parts):fO (s.re a):=
 ⟨h.n,λi hi q b=>h.pt i hi q (hp i▸b),λi hi=>by show(a i).parts.length<=300;rw[hp i];exact h.pl i hi,h.sz⟩
def bT(p:Nat->ct)(b:Nat):Nat->ct:=λi=>if i<b/\(p i).on=true then{p i with lost:=true}else p i
theorem qE(p:Nat->ct)(b i:Nat):(bT p b i).parts=(p i).parts:=by unfold bT;split<;>rfl
theorem rU(p:Nat->ct)(b:Nat):bT p b b=p b:=by unfold bT;rw[ay (by omega)]
theorem NS(p:Nat->ct)(b:Nat):((p b).on=true->bT p (b+1)=aw (bT p b) b {p b with lost:=true})/\((p b).on=false->bT p (b+1)=bT p b):=by
 refine⟨λh=>?_,λh=>?_⟩
 funext i;by_cases e:i=b;subst e;rw[bm];unfold bT;rw[aM ⟨by omega,h⟩];rw[bq _ _ e];unfold bT;have:i<b+1↔i<b:=by omega
 simp only[this]
 funext i;by_cases e:i=b;subst e;rw[rU];unfold bT;rw[ay (by rw[h];simp)];unfold bT;have:i<b+1↔i<b:=by omega
 simp only[this]
theorem bH.row(h:bH w k s)(b:s.vs=.slice a m j):m=s.n/\∀i,i<s.n->∃g,a=some ⟨g,0,none⟩/\w.cell? ⟨g,i,none⟩=some (.pointer (some ⟨(s.pl i).1,0,none⟩)):=by
 refine⟨?_,λi hi=>?_⟩
 obtain⟨d,f,e,-⟩:=ix h.aE;rw[b]at e;exact(fS e).2.1;obtain⟨g,cap,e,-,-,c,-,-⟩:=yi h.aE i hi;rw[b]at e;exact⟨g,(fS e).1,c.trans (Nv hi)⟩
theorem Ds(w:World)(sb:Nat)(V:aB)(H:bH w sb V)(E:Laid w)(x:V.fG)(j:fO V)(b:Int)(B:Nat)(R:B<=V.n)(m:∀i:Nat,i<V.n->((i:Int)<b↔i<B)):
 Calls prog 89 #[.pointer (some ⟨sb,0,none⟩),.int .i64 b] w λe k=>e=.returned (.tuple #[])/\aY w sb V (V.re (bT V.p B)) k:=by
 obtain⟨U,vc,r,-⟩:=ix H.aE;have F:Hid (aY w sb V (V.re (bT V.p 0)) w):=J (by
  have:bT V.p 0=V.p:=by funext i;unfold bT;rw[ay (by omega)]
  rw[this,x.re];exact aY.refl H (av _ _) E)
 have W:=j.n;replace m:=J m;replace j:=J j;replace x:=J x;replace r:=J r;clear H E;go_enter func89,ntmps89;go_wp2_with fail;go_loopw [4] (λy wr=>∃(i:Nat),i<=B/\y=.int .i64 (i:Int)/\aY w sb V (V.re (bT V.p i)) wr) (λy _=>B-(intOf y).toNat);case atStart=>exact⟨0,by omega,rfl,Z F⟩
 case round=>
  clear F;obtain⟨i,hi,rfl,T⟩:=hrel;have X:(0:Int)<=(i:Int):=by omega
  obtain⟨⟨-,-,-,-,fP,-,-,-⟩,-⟩:=T.at_.c;replace fP:wr.cell? ⟨sb,20,none⟩=some V.vs:=fP;rw[Z r]at fP;by_cases M:i<B
  ·have a:i<V.n:=by omega
   have d1:decide ((i:Int)<(V.n:Int))=true:=bp (by omega);have d2:decide ((i:Int)<b)=true:=bp ((Z m i a).2 M);have Y:(i:Int)<(V.n:Int):=by omega
   obtain⟨g,rfl,G⟩:=(T.at_.row (show(V.re (bT V.p i)).vs=_ from Z r)).2 i a;replace G:wr.cell? ⟨g,i,none⟩=some (.pointer (some ⟨(V.pl i).1,0,none⟩)):=G;have f:=T.at_.pk i a;replace f:jM wr (V.pl i) (bT V.p i i):=f;have d:=vH wr (.pointer (some ⟨sb,0,none⟩)) _ _ f;rw[rU]at d f;obtain⟨⟨-,-,-,-,p4⟩,pf⟩:=f.c;obtain⟨z,A⟩:=NS V.p i;cases h:(V.p i).on
   ·rw[h]at d;rw[<-A h]at T;replace T:=J T;replace d:=J d;clear z A f h;go_wp2_with (go_at_call 56;refine(Z d).mono ?_;rintro e N⟨rfl,rfl⟩);exact⟨⟨i+1,by omega,rfl,Z T⟩,by simp[intOf];omega⟩
   rw[h]at d;have I:=T.at_.Dg T.laid (i:=i) a 4 (.bool true) {V.p i with lost:=true} (by show(V.p i).parts=(bT V.p i i).parts;rw[rU]) (by show(qB (V.pl i) (bT V.p i i)).setIfInBounds 4 (.bool true)=_;rw[rU];rfl);have s:=T.trans I;have t:=(Z j).re (qE V.p i);have l:=tp V (bT V.p i);have e1:((V.re (bT V.p i)).p i).on=true:=by show(bT V.p i i).on=true;rw[rU];exact h
   have e0:(aw (bT V.p i) i {V.p i with lost:=true} i).parts=(V.p i).parts:=by rw[bm]
   have K:=ys _ sb _ s.at_ s.laid i a (-1) (.inr rfl) (λq u=>by
    have u:q∈(aw (bT V.p i) i {V.p i with lost:=true} i).parts:=u;rw[e0]at u;exact(Z j).pt i a q u) ⟨(t.tr l).n,(t.tr l).fl,(t.tr l).on⟩ (by
    show(aw (bT V.p i) i {V.p i with lost:=true} i).parts.length<=1000000;rw[e0];have:=(Z j).pl i a;omega)
   have eq:({({V.re (bT V.p i)with p:=aw (bT V.p i) i {V.p i with lost:=true}}:aB)with o:=gL (V.re (bT V.p i)).o ((aw (bT V.p i) i {V.p i with lost:=true} i).parts) (-1)}:aB)=V.re (bT V.p (i+1)):=by
    have:=Dr l (i:=i) a {V.p i with lost:=true} e1 (by simp[ct.on]);have e2:((V.re (bT V.p i)).p i).parts=(V.p i).parts:=by show(bT V.p i i).parts=_;rw[rU]
    rw[e2]at this;rw[e0,z h];exact this
   have L:Hid (∀v,aY (wr.setCell ⟨(V.pl i).1,4,none⟩ (.bool true)) sb _ _ v->aY w sb V (V.re (bT V.p (i+1))) v):=J (λv S=>by rw[<-eq];exact s.trans S);have C:Calls prog 88 #[.pointer (some ⟨sb,0,none⟩),.pointer (some ⟨(V.pl i).1,0,none⟩),.int .i64 (-1)] (wr.setCell ⟨(V.pl i).1,4,none⟩ (.bool true)) λe k=>e=.returned (.tuple #[])/\aY w sb V (V.re (bT V.p (i+1))) k:=K.mono (λe k ⟨O,P⟩=>⟨O,Z L k P⟩)
   replace C:=J C;replace d:=J d;replace T:=J T;clear K eq L s I t l e1 e0 z A f h;go_wp2_with (first|(go_at_call 56;refine(Z d).mono ?_;rintro e N⟨rfl,rfl⟩)|(go_at_call 88;refine(Z C).mono ?_;rintro e v⟨rfl,D⟩;replace D:=J D));exact⟨⟨i+1,by omega,rfl,Z D⟩,by simp[intOf];omega⟩
  have Q:i=B:=by omega
  subst Q;replace T:=J T;by_cases a:i<V.n
  ·have d1:decide ((i:Int)<(V.n:Int))=true:=bp (by omega);have d2:decide ((i:Int)<b)=false:=bB (λe=>by have:=(Z m i a).1 e;omega);go_wp2_with fail;exact dP (dj rfl _ _ _) rfl ⟨rfl,Z T⟩
  have d1:decide ((i:Int)<(V.n:Int))=false:=bB (by omega);go_wp2_with fail;exact dP (dj rfl _ _ _) rfl ⟨rfl,Z T⟩
def qF(w wr:World)(sb:Nat)(V f:aB)(r:Rs)(g:aK)(e:Ending)(b:World):Prop:=
 ∃a m c h d,e=.returned (.agg (mE r (.slice a m c)))/\fx b wr.heap.size (.slice a m c) r.eY/\aY w sb V {f with st:=g,A:=h,tag:=d} b/\∀j,(Value.slice a m c).ownBlock=some j->d j=none
theorem pZ{wr:World}{b:aB}(T:aY w k s b wr)(i:eh n b.st)(l:n<=100000)(q:gK)(p:aR q.code)(hd:q.data.size<=1000000){r:Rs}{d:aK}(u:b.st.do q=(r,d)):
 Calls prog 28 #[.pointer (some ⟨b.xb,0,none⟩),.agg (dc q)] wr (qF w wr k s b r d):=by
 have f:=M8 wr b.xb b.xs b.st b.A n T.at_.cn i l T.laid q p hd;rw[u]at f;refine f.mono ?_;rintro e F⟨a,m,c,rfl,g,v,x,y,C,z⟩;obtain⟨h,S,B⟩:=T.at_.ng T.laid C x y;refine⟨a,m,c,v,h,rfl,g,T.trans S,λj e=>?_⟩
 have D:=(g.lt j e).1;cases E:h j with
 |none=>rfl
 |some t=>
  obtain q|q:=B j (by rw[E];simp)
  exact absurd (T.at_.fresh D) q;exact absurd q (z j e)
def iU(p:Nat->ct)(now wait:Int):Nat->Bool
 |0=>false
 |i+1=>iU p now wait i||((p i).on&&decide (wait<=now-(p i).tick))
def iG(V:aB)(a:aK)(b:Nat->Prop)(c:Nat->Option Nat)(d:Bool):aB:=
 if d then{V.re (bT V.p V.n)with st:=a,A:=b,tag:=c,now:=V.now+1,wait:=min (2*V.wait) 32}else{V with st:=a,A:=b,tag:=c,now:=V.now+1}
theorem NT(w:World)(sb:Nat)(V:aB)(H:bH w sb V)(hL:Laid w)(R:V.fG)(k:fO V)(n:Nat)(bb:eh n V.st)(hn:n<=100000)(r:Rs)(l:aK)(S:V.st.do ⟨4,0,0,0,⟨#[]⟩⟩=(r,l))
 (bM:0<=V.now/\V.now<=1000000) (bP:1<=V.wait/\V.wait<=32) (U:∀i,i<V.n->0<=(V.p i).tick/\(V.p i).tick<=1000000):
 Calls prog 58 #[.pointer (some ⟨sb,0,none⟩)] w λe I=>e=.returned (.tuple #[])/\∃q s,aY w sb V (iG V l q s (iU V.p (V.now+1) V.wait V.n)) I:=by
 obtain⟨va,vc,K,-⟩:=ix H.aE;have y:=pZ (aY.refl H (av w none) hL) bb hn ⟨4,0,0,0,⟨#[]⟩⟩ (by simp[aR]) (mg _) S;obtain⟨⟨c0,-,-,-,-,-,-,-⟩,-⟩:=H.c;have b0:=k.n;unfold dc qF mE at y;replace y:=J y;replace k:=J k;replace R:=J R;replace K:=J K;replace U:=J U;replace S:=J S;clear H hL;go_enter func58,ntmps58;go_upto_region 1 with(go_at_call 28;refine(Z y).mono ?_;rintro e W⟨a,m,c,z,B,rfl,-,C,-⟩)
 clear c0 y;obtain⟨t,b⟩:∃t:aB,t={V with st:=l,A:=z,tag:=B,now:=V.now+1}:=⟨_,rfl⟩
 obtain⟨⟨-,-,-,-,-,j,-,-⟩,u⟩:=C.at_.c;replace j:W.cell? ⟨sb,21,none⟩=some (.int .i64 V.now):=j;have E:aY w sb V t (W.setCell ⟨sb,21,none⟩ (.int .i64 (V.now+1))):=by rw[b];exact C.trans (C.at_.NB C.laid (V.now+1))
 have kw:IntKind.i64.wrap (V.now+1)=V.now+1:=by simp[IntKind.wrap,IntKind.bits,IntKind.signed];omega
 replace E:=J E;replace b:=J b;clear C;go_wp2_with fail;obtain⟨w4,a3⟩:=exq (W.setCell ⟨sb,21,none⟩ (.int .i64 (V.now+1)));rw[<-a3]at E⊢;clear a3 j u;go_loopw [2,3] (λlv X wr=>∃(i:Nat),i<=V.n/\X=.int .i64 (i:Int)/\lv=.bool (iU V.p (V.now+1) V.wait i)/\aY w sb V t wr) (λ_ X _=>V.n-(intOf X).toNat);case atStart=>exact⟨0,by omega,rfl,rfl,Z E⟩
 case round=>
  clear E;obtain⟨i,hi,rfl,rfl,T⟩:=hrel;have i0:(0:Int)<=(i:Int):=by omega
  obtain⟨⟨-,-,-,-,fP,j,f,-⟩,u⟩:=T.at_.c;replace fP:wr.cell? ⟨sb,20,none⟩=some V.vs:=by rw[Z b]at fP;exact fP
  replace j:wr.cell? ⟨sb,21,none⟩=some (.int .i64 (V.now+1)):=by rw[Z b]at j;exact j
  replace f:wr.cell? ⟨sb,22,none⟩=some (.int .i64 V.wait):=by rw[Z b]at f;exact f
  rw[Z K]at fP;by_cases Y:i<V.n
  ·have d1:decide ((i:Int)<(V.n:Int))=true:=bp (by omega);have i1:(i:Int)<(V.n:Int):=by omega
   have br:=(T.at_.row (show t.vs=_ by rw[Z b];exact Z K)).2 i (by rw[Z b];exact Y);obtain⟨g,rfl,cg⟩:=br;replace cg:wr.cell? ⟨g,i,none⟩=some (.pointer (some ⟨(V.pl i).1,0,none⟩)):=by rw[Z b]at cg;exact cg
   have v:=T.at_.pk i (by rw[Z b];exact Y);replace v:jM wr (V.pl i) (V.p i):=by rw[Z b]at v;exact v
   have M:=vH wr (.pointer (some ⟨sb,0,none⟩)) _ _ v;obtain⟨⟨p0,-,-,-,-⟩,-⟩:=v.c;have ht:=Z U i Y;have b8:IntKind.i64.wrap (V.now+1-(V.p i).tick)=V.now+1-(V.p i).tick:=by simp[IntKind.wrap,IntKind.bits,IntKind.signed];omega
   have N:Hid (iU V.p (V.now+1) V.wait (i+1)=(iU V.p (V.now+1) V.wait i||((V.p i).on&&decide (V.wait<=V.now+1-(V.p i).tick)))):=J rfl;obtain⟨L,d⟩:=exq (iU V.p (V.now+1) V.wait i);obtain⟨O,ax⟩:=exq ((V.p i).on);obtain⟨D,a0⟩:=exq (decide (V.wait<=V.now+1-(V.p i).tick));rw[<-d,<-ax,<-a0]at N;rw[<-ax]at M;rw[<-d];replace a0:=a0.symm;replace M:=J M;replace T:=J T;clear d ax v;go_upto_region 7 with(go_at_call 56;refine(Z M).mono ?_;rintro e w5⟨rfl,rfl⟩)
   cases L
   ·cases O
    ·go_region;go_wp2_with fail;exact⟨⟨i+1,by omega,rfl,by rw[Z N];rfl,(Z T).gb (aP (av _ none))⟩,by simp[intOf];omega⟩
    go_region;go_wp2_with fail;exact⟨⟨i+1,by omega,rfl,by rw[Z N];rfl,(Z T).gb (aP (av _ none))⟩,by simp[intOf];omega⟩
   go_region;go_wp2_with fail;exact⟨⟨i+1,by omega,rfl,by rw[Z N];rfl,(Z T).gb (aP (av _ none))⟩,by simp[intOf];omega⟩
  have d1:decide ((i:Int)<(V.n:Int))=false:=bB (by omega);obtain rfl:i=V.n:=by omega
  obtain⟨L,d⟩:=exq (iU V.p (V.now+1) V.wait V.n);rw[<-d];replace d:=J d;cases L
  ·have F:Hid (∃q s,aY w sb V (iG V l q s (iU V.p (V.now+1) V.wait V.n)) wr):=J ⟨z,B,by rw[Z b]at T;rw[<-Z d];exact T⟩;clear T;go_wp2_with fail;exact dP (dj rfl _ _ _) rfl ⟨rfl,Z F⟩
  have a4:=Ds wr sb t T.at_ T.laid (by rw[Z b];exact Z R) (by rw[Z b];exact⟨(Z k).n,(Z k).pt,(Z k).pl,(Z k).sz⟩) (V.n:Int) V.n (by rw[Z b];exact aI _) (λi _=>by omega);have a1:Calls prog 89 #[.pointer (some ⟨sb,0,none⟩),.int .i64 (V.n:Int)] wr λe I=>e=.returned (.tuple #[])/\aY w sb V {V.re (bT V.p V.n)with st:=l,A:=z,tag:=B,now:=V.now+1} I:=a4.mono (λe I ⟨h1,h2⟩=>⟨h1,by
   have:=T.trans h2;rw[Z b]at this;exact this⟩)
  clear a4;replace a1:=J a1;replace T:=J T;go_upto_region 10 with(go_at_call 89;refine(Z a1).mono ?_;rintro e P⟨rfl,x⟩)
  clear fP j f u;obtain⟨⟨-,-,-,-,-,-,f,-⟩,u⟩:=x.at_.c;replace f:P.cell? ⟨sb,22,none⟩=some (.int .i64 V.wait):=f;have h:=x.trans (x.at_.yq x.laid (2*V.wait));have cf:IntKind.i64.wrap (2*V.wait)=2*V.wait:=by simp[IntKind.wrap,IntKind.bits,IntKind.signed];omega
  have bz:(P.setCell ⟨sb,22,none⟩ (.int .i64 (2*V.wait))).cell? ⟨sb,22,none⟩=some (.int .i64 (2*V.wait)):=by
   obtain⟨⟨-,-,-,-,-,-,c,-⟩,-⟩:=h.at_.c;exact c
  have bL:(P.setCell ⟨sb,22,none⟩ (.int .i64 (2*V.wait))).frozen? ⟨sb,22,none⟩=false:=h.at_.c.2 22;have Q:=h.trans (h.at_.yq h.laid 32);replace x:=J x;obtain⟨w7,G⟩:=exq (P.setCell ⟨sb,22,none⟩ (.int .i64 (2*V.wait)));rw[<-G]at h Q bz bL;by_cases a9:32<2*V.wait
  ·have d3:decide (32<2*V.wait)=true:=bp a9;have F:Hid (∃q s,aY w sb V (iG V l q s (iU V.p (V.now+1) V.wait V.n)) (w7.setCell ⟨sb,22,none⟩ (.int .i64 32))):=J ⟨z,B,by
    have e:min (2*V.wait) 32=32:=by omega
    rw[<-Z d];unfold iG;rw[aM rfl,e];exact Q⟩
   clear h Q;go_upto_region 11 with fail;rw[<-G];clear G f u;go_wp2_with fail;exact dP (dj rfl _ _ _) rfl ⟨rfl,Z F⟩
  have d3:decide (32<2*V.wait)=false:=bB a9;have F:Hid (∃q s,aY w sb V (iG V l q s (iU V.p (V.now+1) V.wait V.n)) w7):=J ⟨z,B,by
   have e:min (2*V.wait) 32=2*V.wait:=by omega
   rw[<-Z d];unfold iG;rw[aM rfl,e];exact h⟩
  clear h Q;go_upto_region 11 with fail;rw[<-G];clear G f u;go_wp2_with fail;exact dP (dj rfl _ _ _) rfl ⟨rfl,Z F⟩
structure vI(o:Src)(c:Nat):Prop where
 le:c<=o.n
 lo:∀j,j<c->o.ag j=true
 at_:c<o.n->o.ag c=false
theorem NU(w:World)(sb:Nat)(V:aB)(H:bH w sb V)(x:Laid w)(r:fO V)(n:Nat)(B:eh n V.st)(C:n<=100000)(p:Nat->Nat)(hp:∀k:Nat,k<4->V.st.ag (k:Int)=((p k:Int),0))(s:∀k,k<4->vI (V.o k) (p k)):
 Calls prog 27 #[.pointer (some ⟨sb,0,none⟩)] w λe D=>e=.returned (.bool true)/\∃d f,aY w sb V {V with A:=d,tag:=f} D:=by
 have y:Hid (aY w sb V {V with A:=V.A,tag:=V.tag} w):=J (aY.refl H (av _ _) x);replace hp:=J hp;replace s:=J s;replace r:=J r;clear H x;go_enter func27,ntmps27;go_wp2_with fail;go_loopw [3] (λt wr=>∃(k:Nat)(d:Nat->Prop)(f:Nat->Option Nat),k<=4/\t=.int .i64 (k:Int)/\aY w sb V {V with A:=d,tag:=f} wr) (λt _=>4-(intOf t).toNat);case atStart=>exact⟨0,V.A,V.tag,by omega,rfl,Z y⟩
 case round=>
  clear y;obtain⟨k,d,f,K,rfl,T⟩:=hrel;by_cases h:k<4
  ·have d1:decide ((k:Int)<4)=true:=bp (by omega);have L:(0:Int)<=(k:Int):=by omega
   have M:(k:Int)<4:=by omega
   have i:=Z s k h;have j:=Dh wr sb _ T.at_ k h (p k) i.le i.lo i.at_ ((Z r).sz k h);obtain⟨⟨c0,-,-,-,-,-,-,-⟩,-⟩:=T.at_.c;replace c0:wr.cell? ⟨sb,0,none⟩=some (.pointer (some ⟨V.xb,0,none⟩)):=c0;have u:aK.do V.st ⟨9,(k:Int),0,0,⟨#[]⟩⟩=(⟨0,-1,(p k:Int),0,[],[]⟩,V.st):=by
    unfold aK.do;simp[Z hp k h]
   have b:=pZ T (n:=n) B C ⟨9,(k:Int),0,0,⟨#[]⟩⟩ (by simp[aR]) (mg _) u;unfold dc qF mE at b;simp only[qy]at b;replace b:=J b;replace j:=J j;replace T:=J T;replace u:=J u;clear i;go_upto_region 6 with(first|(go_at_call 54;refine(Z j).mono ?_;rintro e N⟨rfl,rfl⟩)|(go_at_call 28;refine(Z b).mono ?_;rintro e g⟨a,m,c,E,F,rfl,-,z,-⟩))
   obtain⟨l,q⟩:=exq (g.alloc (.cells #[.int .i64 0,.int .i64 (-1),.int .i64 (p k:Int),.int .u64 0,.string ⟨#[]⟩,.slice a m c] 46));have G:g.grownBy l none:=by rw[q];exact aC _ _ _
   have v:l.heap[g.heap.size]?=some (.cells #[.int .i64 0,.int .i64 (-1),.int .i64 (p k:Int),.int .u64 0,.string ⟨#[]⟩,.slice a m c] 46 (0,0)):=by rw[q];exact aH _ _
   rw[<-q];clear q b j c0;have I:=J (z.gb G);obtain⟨O,P⟩:l.cell? ⟨g.heap.size,0,none⟩=some (.int .i64 0)/\l.cell? ⟨g.heap.size,2,none⟩=some (.int .i64 (p k:Int)):=by simp[World.cell?,v]
   replace v:=J v;clear z;go_wp2_with fail;exact⟨⟨k+1,E,F,by omega,rfl,Z I⟩,by simp[intOf];omega⟩
  have d1:decide ((k:Int)<4)=false:=bB (by omega);replace T:=J T;go_wp2_with fail;go_ret;exact⟨rfl,d,f,Z T⟩
theorem NV:(prog.info? 3).map (λi=>(i.zero,i.size,i.bytes))=some (some (.int .i64 0),1,8):=by kernel_rfl
theorem NW(n:Nat)(f:Nat->Bool):oZ (n+1) f=oZ n f++[.bool (f n)]:=by simp[oZ,pD]
theorem NX(n:Nat)(f:Nat->Int):nM (n+1) f=nM n f++[.int .i64 (f n)]:=by simp[nM,pD]
theorem bH.grow(h:bH w i s)(M:Laid w){k:Nat}(B:k<4)(hn:(s.o k).n<=1000000)(N:(s.o k).ag (s.o k).n=false)(O:(s.o k).fl (s.o k).n=0){wb:World}(D:wb=w.alloc (.cells #[.bool false] 4)):
 ∃d f c1 a,(Builtin.append_ #[65,65] 65 #[(s.sl k).2.1,.slice (some ⟨w.heap.size,0,none⟩) 1 1]).run prog wb=.ok (.slice d f c1) a/\a.cell? ⟨(s.sl k).1,1,none⟩=some (s.sl k).2.1/\a.frozen? ⟨(s.sl k).1,1,none⟩=false/\
  ∀c p,c=a.setCell ⟨(s.sl k).1,1,none⟩ (.slice d f c1)->p=c.alloc (.cells #[.int .i64 0] 3)->c.cell? ⟨(s.sl k).1,2,none⟩=some (s.sl k).2.2/\
   ∃g m c4 b,(Builtin.append_ #[66,66] 66 #[(s.sl k).2.2,.slice (some ⟨c.heap.size,0,none⟩) 1 1]).run prog p=.ok (.slice g m c4) b/\b.cell? ⟨(s.sl k).1,2,none⟩=some (s.sl k).2.2/\b.frozen? ⟨(s.sl k).1,2,none⟩=false/\
    ∃P,aY w i s {s with sl:=aw s.sl k ((s.sl k).1,.slice d f c1,.slice g m c4),o:=aw s.o k {s.o k with n:=(s.o k).n+1},tag:=P} (b.setCell ⟨(s.sl k).1,2,none⟩ (.slice g m c4)):=by
 have z:=h.src k B;obtain⟨⟨lb,vc,t⟩,eS⟩:∃l,s.sl k=l:=⟨_,rfl⟩
 rw[eS]at z⊢;simp only at z⊢;generalize ho:s.o k=o at *;have gb:w.grownBy wb none:=by rw[D];exact aC _ _ _
 have Q:wb.heap[w.heap.size]?=some (.cells #[.bool false] 4 (0,0)):=by rw[D];exact aH _ _
 have r:=z.frame (ak.of gb) (λk _ e=>by cases e);obtain⟨d,f,c1,a,R,S,v,T⟩:=vD (w:=wb) 65 4 (.bool false) 1 MK underlying65 rfl (by decide) vc o.n (oZ o.n o.ag) r.cm w.heap.size (.bool false) rfl (by simp[World.cell?,Q]) (by omega) 1;have U:=r.ty.lt;have b2:a.heap[lb]?=some (.cells (mF (lb,vc,t) o) 68 (0,0)):=(v.block lb U (λe=>r.ty.ne (dM r.cm lb e.symm) (by decide) rfl)).trans r.aG;have f2:a.ownsRow 0 3 1 t o.n (nM o.n o.fl):=fY r.fl (ak.of v) (λk e e2=>(dM r.fl k e).ne (dM r.cm k e2) (by decide) rfl);have E:a.ownsRow 0 4 1 (.slice d f c1) (o.n+1) (oZ (o.n+1) o.ag):=by rw[NW,N];exact S
 refine⟨d,f,c1,a,R,by simp[World.cell?,b2,mF],by simp[World.frozen?,b2],λc p F G=>?_⟩
 have x:ak a c (λk=>k=lb):=by rw[F];exact jl _ _ _ _
 have H:c.heap[lb]?=some (.cells (mF (lb,.slice d f c1,t) o) 68 (0,0)):=by rw[F];exact heap_set b2 _
 have t2:Ty a lb 68:=⟨_,_,b2⟩
 have f3:=fY f2 x (λk e e2=>by subst e2;exact(dM f2 _ e).ne t2 (by decide) rfl);have V:=fY E x (λk e e2=>by subst e2;exact(dM E _ e).ne t2 (by decide) rfl);have u:c.grownBy p none:=by rw[G];exact aC _ _ _
 have W:p.heap[c.heap.size]?=some (.cells #[.int .i64 0] 3 (0,0)):=by rw[G];exact aH _ _
 have I:=bf H u;have f4:=fY f3 (ak.of u) (λk _ e=>by cases e);have K:=fY V (ak.of u) (λk _ e=>by cases e);obtain⟨g,m,c4,b,X,s2,s3,Y⟩:=vD (w:=p) 66 3 (.int .i64 0) 8 NV underlying66 rfl (by decide) t o.n (nM o.n o.fl) f4 c.heap.size (.int .i64 0) rfl (by simp[World.cell?,W]) (by omega) 1;have t4:Ty p lb 68:=⟨_,_,I⟩
 have y:b.heap[lb]?=some (.cells (mF (lb,.slice d f c1,t) o) 68 (0,0)):=(s3.block lb t4.lt (λe=>t4.ne (dM f4 lb e.symm) (by decide) rfl)).trans I;have L:=fY K (ak.of s3) (λk e e2=>(dM K k e).ne (dM f4 k e2) (by decide) rfl);have f5:b.ownsRow 0 3 1 (.slice g m c4) (o.n+1) (nM (o.n+1) o.fl):=by rw[NX,O];exact s2
 have A:=jl b lb 2 (.slice g m c4);have t5:Ty b lb 68:=⟨_,_,y⟩
 refine⟨by simp[World.cell?,H,mF],g,m,c4,b,X,by simp[World.cell?,y,mF],by simp[World.frozen?,y],?_⟩
 have C:ak w (b.setCell ⟨lb,2,none⟩ (.slice g m c4)) (nN (s.sl k)):=by
  refine((((((ak.of gb).trans (ak.of v)).trans x).trans (ak.of u)).trans (ak.of s3)).trans A).mono (λj _ e=>?_);rw[eS];obtain((((e|e)|e)|e)|e)|e:=e
  cases e;exact .inr (.inl e);exact .inl e;cases e;exact .inr (.inr e);exact .inl e
 have z1:w.heap.size<=wb.heap.size:=gb.size;have z3:w.heap.size<=p.heap.size:=bC z1 (bC v.size (bC x.size u.size));refine h.Nq M B C ⟨heap_set y _,fY L A (λk e e2=>by subst e2;exact(dM L _ e).ne t5 (by decide) rfl),fY f5 A (λk e e2=>by subst e2;exact(dM f5 _ e).ne t5 (by decide) rfl)⟩ (by rw[eS]) (λj e=>?_);rw[eS];obtain e|e|e:=e
 exact .inl (.inl e);replace e:(Value.slice d f c1).ownBlock=some j:=e;obtain q|q:=T
 exact .inl (.inr (.inl (q▸e)));rw[e]at q;have:=aJ q;exact .inr (by omega);replace e:(Value.slice g m c4).ownBlock=some j:=e;obtain q|q:=Y
 exact .inl (.inr (.inr (q▸e)));rw[e]at q;have:=aJ q;exact .inr (by omega)
theorem NY(x y:ByteArray)(h:((x.size+y.size:Nat):Int)<=9223372036854775807)(W:World):(Op.stringOp .add x y).run prog W=.ok (.string (x++y)) W:=by
 unfold Op.stringOp;have:¬(((x.size+y.size:Nat):Int)>IntKind.i64.max):=by
  have:IntKind.i64.max=9223372036854775807:=by decide
  omega
 simp only[this,gp]
 rfl
theorem NZ(w:World)(sb:Nat)(V:aB)(H:bH w sb V)(l:Laid w)(k:Nat)(s:k<4)(b:ByteArray)(v:b.size<=1000000)(n:Nat)(x:eh n V.st)(y:n<=100000)(t:(V.o k).finished=true)(p:V.st.do ⟨1,(k:Int),0,0,b⟩=(⟨3,-1,0,0,[],[]⟩,V.st)):
 Calls prog 24 #[.pointer (some ⟨sb,0,none⟩),.int .i64 k,.string b] w λe z=>e=.returned (.bool true)/\∃B C,aY w sb V {V with A:=B,tag:=C} z:=by
 have G:(0:Int)<=(k:Int):=by omega
 have I:(k:Int)<4:=by omega
 have q:=aY.refl H (av w none) l;have d:=pZ q x y ⟨1,(k:Int),0,0,b⟩ (by simp[aR]) v p;obtain⟨⟨c0,-,-,gl,-,-,-,-⟩,-⟩:=H.c;have co:=H.outs k s;unfold dc qF mE at d;simp only[qy]at d;replace d:=J d;replace p:=J p;obtain⟨lb,h⟩:=exq ((V.sl k).1);rw[<-h]at co;replace h:=J h;replace q:=J q;replace H:=J H;replace l:=J l;go_enter func24,ntmps24;go_upto_region 3 with(go_at_call 28;refine(Z d).mono ?_;rintro e f⟨a,m,c,D,E,rfl,-,u,-⟩)
 obtain⟨g,i⟩:=exq (f.alloc (.cells #[.int .i64 3,.int .i64 (-1),.int .i64 0,.int .u64 0,.string ⟨#[]⟩,.slice a m c] 46));have F:f.grownBy g none:=by rw[i];exact aC _ _ _
 have r:g.heap[f.heap.size]?=some (.cells #[.int .i64 3,.int .i64 (-1),.int .i64 0,.int .u64 0,.string ⟨#[]⟩,.slice a m c] 46 (0,0)):=by rw[i];exact aH _ _
 rw[<-i];clear i d c0 gl co;have j:=u.gb F;obtain⟨K,L⟩:g.cell? ⟨f.heap.size,0,none⟩=some (.int .i64 3)/\g.cell? ⟨f.heap.size,2,none⟩=some (.int .i64 0):=by simp[World.cell?,r]
 obtain⟨⟨-,-,-,s3,-,-⟩,-⟩:=(j.at_.src k s).c;replace s3:g.cell? ⟨lb,3,none⟩=some (.bool true):=by rw[Z h,<-t];exact s3
 replace r:=J r;replace j:=J j;clear u t;go_wp2_with fail;go_ret;exact⟨rfl,D,E,Z j⟩
def iV(V:aB)(k:Nat)(a:aK)(b:Nat->Prop)(c:Nat->Option Nat)(d:Nat->Nat×Value×Value)(wr:ByteArray)(i:Nat):aB:={V with st:=a,A:=b,tag:=c,sl:=d,o:=aw V.o k {V.o k with wrote:=wr,n:=(V.o k).n+i}}
theorem N3(w:World)(sb:Nat)(V:aB)(H:bH w sb V)(hL:Laid w)(k:Nat)(u:k<4)(b:ByteArray)(bS:b.size<=100000)(n:Nat)(br:eh n V.st)(hn:n<=100000)(E:(V.o k).finished=false)(hw:0<=V.ai/\V.ai<=100000)(bt:(V.o k).wrote.size=(V.o k).n)(h4:(V.o k).n<=4096)(c:Nat)(F:vI (V.o k) c)(q:Nat)(B:(q:Int)=min (min (V.ai-(((V.o k).n:Int)-c)) (4096-((V.o k).n:Int))) b.size)(hz:∀j,(V.o k).n<=j->(V.o k).ag j=false/\(V.o k).fl j=0)(p:aK)(ax:V.st.do ⟨1,(k:Int),0,0,b⟩=(⟨0,-1,q,0,[],[]⟩,p)):
 Calls prog 24 #[.pointer (some ⟨sb,0,none⟩),.int .i64 k,.string b] w λe w'=>e=.returned (.bool true)/\∃f g l,aY w sb V (iV V k p f g l ((V.o k).wrote++b.extract 0 q) q) w':=by
 have k0:(0:Int)<=(k:Int):=by omega
 have k1:(k:Int)<4:=by omega
 have bx:=F.le;have T0:=aY.refl H (av w none) hL;have C:=pZ T0 br hn ⟨1,(k:Int),0,0,b⟩ (by simp[aR]) (by show b.size<=1000000;omega) ax;obtain⟨⟨c0,-,-,gl,-,-,-,-⟩,-⟩:=H.c;have co:=H.outs k u;unfold dc qF mE at C;simp only[qy]at C;replace C:=J C;replace ax:=J ax;obtain⟨lb,D⟩:=exq ((V.sl k).1);rw[<-D]at co;replace D:=J D;replace T0:=J T0;replace H:=J H;replace hL:=J hL;replace hz:=J hz;have a9:=J (λ(W:World)(f:Nat->Prop)(g:Nat->Option Nat)(T:aY w sb V {V with st:=p,A:=f,tag:=g} W)=>Dh W sb _ T.at_ k u c F.le F.lo F.at_ (by show(V.o k).n<=1000000;omega));clear F;obtain⟨d,x⟩:=exq ((V.o k).wrote);have P:d.size=(V.o k).n:=by rw[x,bt]
 rw[<-P]at B h4 bx;replace B:=J B;replace P:=J P;replace x:=J x;go_enter func24,ntmps24;go_upto_region 3 with(go_at_call 28;refine(Z C).mono ?_;rintro e z⟨a,m,cc,G,I,rfl,-,T3,-⟩)
 obtain⟨y,Q⟩:=exq (z.alloc (.cells #[.int .i64 0,.int .i64 (-1),.int .i64 (q:Int),.int .u64 0,.string ⟨#[]⟩,.slice a m cc] 46));have g5:z.grownBy y none:=by rw[Q];exact aC _ _ _
 have b5:y.heap[z.heap.size]?=some (.cells #[.int .i64 0,.int .i64 (-1),.int .i64 (q:Int),.int .u64 0,.string ⟨#[]⟩,.slice a m cc] 46 (0,0)):=by rw[Q];exact aH _ _
 rw[<-Q];clear Q C c0 gl co;have t:=T3.gb g5;obtain⟨y0,y2⟩:y.cell? ⟨z.heap.size,0,none⟩=some (.int .i64 0)/\y.cell? ⟨z.heap.size,2,none⟩=some (.int .i64 (q:Int)):=by simp[World.cell?,b5]
 obtain⟨⟨s0,-,-,s3,-,-⟩,-⟩:=(t.at_.src k u).c;replace s3:y.cell? ⟨lb,3,none⟩=some (.bool false):=by rw[Z D,<-E];exact s3
 replace s0:y.cell? ⟨lb,0,none⟩=some (.string d):=by rw[Z D,Z x];exact s0
 obtain⟨⟨-,-,c2,-,-,-,-,-⟩,-⟩:=t.at_.c;replace c2:y.cell? ⟨sb,2,none⟩=some (.int .i64 V.ai):=c2;have bb:=J (Z a9 y G I t);replace b5:=J b5;replace t:=J t;clear T3 E a9;have bz:IntKind.i64.wrap ((d.size:Int)-c)=(d.size:Int)-c:=by simp[IntKind.wrap,IntKind.bits,IntKind.signed];omega
 have bL:IntKind.i64.wrap (V.ai-((d.size:Int)-c))=V.ai-((d.size:Int)-c):=by simp[IntKind.wrap,IntKind.bits,IntKind.signed];omega
 have bM:IntKind.i64.wrap (4096-(d.size:Int))=4096-(d.size:Int):=by simp[IntKind.wrap,IntKind.bits,IntKind.signed];omega
 go_upto_region 6 with(go_at_call 54;refine(Z bb).mono ?_;rintro e R⟨rfl,rfl⟩)
 go_region;obtain⟨S,a0⟩:=exq R.drew;have U:R.grownBy S none:=by rw[a0];exact aP (av _ none)
 rw[<-a0];clear a0;have T6:=J ((Z t).gb U);replace s0:=U.cell s0 (by simp);replace y0:=U.cell y0 (by simp);replace y2:=U.cell y2 (by simp);clear t bb c2 s3 bz;go_upto_if 62 with fail;go_cut [10] (λv wx=>v=.int .i64 (min (V.ai-((d.size:Int)-c)) (4096-(d.size:Int)))/\wx=S);case first=>
  by_cases K:4096-(d.size:Int)<(V.ai-((d.size:Int)-c))
  ·have d1:decide (4096-(d.size:Int)<(V.ai-((d.size:Int)-c)))=true:=bp K;have r:min (V.ai-((d.size:Int)-c)) (4096-(d.size:Int))=4096-(d.size:Int):=by omega
   replace r:=J r;rw[d1];go_wp2_with fail;go_meet;exact⟨by rw[Z r],rfl⟩
  have d1:decide (4096-(d.size:Int)<(V.ai-((d.size:Int)-c)))=false:=bB K;have r:min (V.ai-((d.size:Int)-c)) (4096-(d.size:Int))=(V.ai-((d.size:Int)-c)):=by omega
  replace r:=J r;rw[d1];go_wp2_with fail;go_meet;exact⟨by rw[Z r],rfl⟩
 case rest=>
 obtain⟨rfl,L⟩:=hcut;rw[L];clear L;go_upto_if 72 with fail;go_cut [10] (λv wx=>v=.int .i64 (q:Int)/\wx=S);case first=>
  by_cases K:(b.size:Int)<min (V.ai-((d.size:Int)-c)) (4096-(d.size:Int))
  ·have d1:decide ((b.size:Int)<min (V.ai-((d.size:Int)-c)) (4096-(d.size:Int)))=true:=bp K;have r:(q:Int)=b.size:=by have:=Z B;omega
   replace r:=J r;rw[d1];go_wp2_with fail;go_meet;exact⟨by rw[Z r],rfl⟩
  have d1:decide ((b.size:Int)<min (V.ai-((d.size:Int)-c)) (4096-(d.size:Int)))=false:=bB K;have r:(q:Int)=min (V.ai-((d.size:Int)-c)) (4096-(d.size:Int)):=by have:=Z B;omega
  replace r:=J r;rw[d1];go_wp2_with fail;go_meet;exact⟨by rw[Z r],rfl⟩
 case rest=>
 obtain⟨rfl,L⟩:=hcut;rw[L];clear L;have bj:Hid (aY w sb V (iV V k p G I V.sl d 0) S):=J (by
  have:iV V k p G I V.sl d 0={V with st:=p,A:=G,tag:=I}:=by
   unfold iV;rw[Z x];have e:aw V.o k {V.o k with wrote:=(V.o k).wrote,n:=(V.o k).n+0}=V.o:=wT V.o k;rw[e]
  rw[this];exact Z T6)
 have bP:=NY d (b.extract 0 q) (by rw[ByteArray.size_extract];omega);have b0:(q:Int)<=b.size:=by have:=Z B;omega
 clear T6 s0 bL bM;go_upto_region 14 with fail;go_loopw [11] (λiv wr=>∃(i:Nat)(f:Nat->Prop)(g:Nat->Option Nat)(l:Nat->Nat×Value×Value),i<=q/\iv=.int .i64 (i:Int)/\(l k).1=lb/\aY w sb V (iV V k p f g l d i) wr) (λiv _=>q-(intOf iv).toNat);case atStart=>exact⟨0,G,I,V.sl,by omega,rfl,(Z D).symm,Z bj⟩
 case round=>
  clear bj y0 y2;obtain⟨i,f,g,l,hi,rfl,eS,T⟩:=hrel;have i0:(0:Int)<=(i:Int):=by omega
  by_cases b3:i<q
  ·have d1:decide ((i:Int)<(q:Int))=true:=bp (by omega);obtain⟨va,vc,hv,-⟩:=ix (T.at_.src k u).cm;obtain⟨ua,uc,hu,-⟩:=ix (T.at_.src k u).fl;obtain⟨⟨-,s1,s2,-,-,-⟩,-⟩:=(T.at_.src k u).c;have s:(iV V k p f g l d i).o k={V.o k with wrote:=d,n:=(V.o k).n+i}:=bm _ _ _;have a2:=Z hz ((V.o k).n+i) (by omega);obtain⟨a1,n1,c1,R,X,q1,q2,hG⟩:=T.at_.grow T.laid u (by rw[s];show(V.o k).n+i<=1000000;have:=Z P;omega) (by rw[s];exact a2.1) (by rw[s];exact a2.2) (wb:=wr.alloc (.cells #[.bool false] 4)) rfl;obtain⟨z,a3⟩:=exq (R.setCell ⟨lb,1,none⟩ (.slice a1 n1 c1));have M:((iV V k p f g l d i).sl k).1=lb:=eS;rw[M]at q1 q2 hG s1 s2;rw[hv]at X q1 s1;obtain⟨q3,a4,n4,c4,w5,Y,q4,q5,a8,t⟩:=hG z _ a3 rfl;rw[hu]at Y q3 q4 s2;have al:=T.trans t;have N:({iV V k p f g l d i with sl:=aw (iV V k p f g l d i).sl k (lb,.slice a1 n1 c1,.slice a4 n4 c4),o:=aw (iV V k p f g l d i).o k {(iV V k p f g l d i).o k with n:=((iV V k p f g l d i).o k).n+1},tag:=a8}:aB)=iV V k p f a8 (aw l k (lb,.slice a1 n1 c1,.slice a4 n4 c4)) d (i+1):=by
    rw[s];unfold iV;simp only[uN]
    rfl
   rw[N]at al;replace T:=J T;replace al:=J al;replace X:=J X;replace Y:=J Y;clear hG N s M a2 hv hu t bP;go_upto_region 17 with(at_builtin;refine oR (by rfl) 65 65 (by rfl) _ _ (by rfl) _ _ _ (by rfl) (by rfl) (Z X) ?_)
   rw[<-a3];clear a3 s1 s2 q1 q2;go_wp2_with (at_builtin;refine oR (by rfl) 66 66 (by rfl) _ _ (by rfl) _ _ _ (by rfl) (by rfl) (Z Y) ?_);exact⟨⟨i+1,f,a8,_,by omega,rfl,by rw[bm],Z al⟩,by simp[intOf];omega⟩
  have d1:decide ((i:Int)<(q:Int))=false:=bB (by omega);obtain rfl:i=q:=by omega
  obtain⟨⟨s0,-,-,-,-,-⟩,sf⟩:=(T.at_.src k u).c;have s:(iV V k p f g l d i).o k={V.o k with wrote:=d,n:=(V.o k).n+i}:=bm _ _ _;rw[s]at s0;replace s0:wr.cell? ⟨lb,0,none⟩=some (.string d):=by rw[<-eS];exact s0
  have O:=T.trans (T.at_.vG T.laid u 0 (.string (d++b.extract 0 i)) {V.o k with wrote:=d++b.extract 0 i,n:=(V.o k).n+i} (by rw[s]) (by rw[s]) (by rw[s]) (by rw[s];rfl));have N:({iV V k p f g l d i with o:=aw (iV V k p f g l d i).o k {V.o k with wrote:=d++b.extract 0 i,n:=(V.o k).n+i}}:aB)=iV V k p f g l (d++b.extract 0 i) i:=by
   unfold iV;simp only[uN]
  rw[N]at O;have M:((iV V k p f g l d i).sl k).1=lb:=eS;rw[M]at O sf;rw[Z x]at O;have E:Hid (∃f g l,aY w sb V (iV V k p f g l ((V.o k).wrote++b.extract 0 i) i) (wr.setCell ⟨lb,0,none⟩ (.string ((V.o k).wrote++b.extract 0 i)))):=J ⟨f,g,l,O⟩;rw[<-Z x]at E;replace T:=J T;clear O N s M;go_upto_region 18 with fail;go_region;go_wp2_with fail;go_ret;refine⟨rfl,?_⟩
  rw[<-Z x];obtain⟨f,g,l,h⟩:=Z E;exact⟨f,g,l,h.gb (aP (av _ none))⟩
theorem bH.pS(h:bH w n s):w.rangeAt n 3 (bv s.key):=λj u a=>by
 have b:(bv s.key).length=16:=by rw[fK,h.key.1]
 have c:j<16:=by have:=(iX.1 a).1;omega
 rw[aU h.aG];unfold aB.cells;rw[od,nk (by simp[b];omega),kZ (by simp)];simpa using a
def dS(f:Fr):Pt:=⟨f.stream.toNat,f.offset.toNat,f.offset.toNat+f.data.size,f.fin⟩
structure p7(V:aB)(b:ByteArray)(a:List Fr):Prop where
 ok:gV V.key (sd true) (bl b)
 num:bN (bl b)=V.n
 dec:fU (eu V.key (sd true) (bN (bl b)) (bQ (bl b)))=(some a,-1)
 fr:∀f∈a,f.kind=5/\(0<=f.stream/\f.stream<4)/\0<=f.offset/\f.offset+f.data.size<=(V.o f.stream.toNat).n
 ne:0<a.length
 len:a.length<=300
 want:∃f∈a,(V.o f.stream.toNat).pY (dS f)
 sz:∀k,k<4->(V.o k).wrote.size=(V.o k).n
def ts(V:aB)(pk:ct)(a:Nat->Nat×Value)(b:Value)(c:Nat->Option Nat):aB:=aB.re {V with n:=V.n+1,pl:=a,vs:=b,tag:=c} (aw V.p V.n pk)
theorem N8(h:s.fG)(pk:ct)(hp:pk.on=true)(a:Nat->Nat×Value)(b:Value)(c:Nat->Option Nat):({s with n:=s.n+1,p:=aw s.p s.n pk,pl:=a,vs:=b,tag:=c,o:=gL s.o pk.parts 1}:aB)=ts s pk a b c:=by
 unfold ts aB.re;congr 1;funext k;obtain⟨c1,c2⟩:=h k;have e1:(λj=>(s.o k).fl j+1*gZ pk.parts k j)=λj=>eQ (aw s.p s.n pk) k j (s.n+1):=by
  funext j;show _=eQ (aw s.p s.n pk) k j s.n+_;rw[yt _ _ _ _ _ (aI _),bm,hp,c1 j];simp
 have e2:(s.o k).dX+1*hb pk.parts k=eZ (aw s.p s.n pk) k (s.n+1):=by
  show _=eZ (aw s.p s.n pk) k s.n+_;rw[yu _ _ _ _ (aI _),bm,hp,c2];simp
 unfold gL;rw[e1,e2]
structure pd(wr:World)(V:aB)(w0 P:Nat)(v:Value)(pk:ct):Prop where
 at_:jM wr (P,v) pk
 tP:V.tag P=none
 tv:∀k,v.ownBlock=some k->V.tag k=none
 lP:w0<=P
 lv:∀k,v.ownBlock=some k->w0<=k
theorem pd.gb{pk:ct}(h:pd w s n i x pk)(g:w.grownBy W none):pd W s n i x pk:=
 ⟨h.at_.frame (ak.of g) (λk _ e=>by cases e),h.tP,h.tv,h.lP,h.lv⟩
theorem N9:(prog.info? 150).map (λi=>(i.zero,i.size,i.bytes))=some (some (.agg #[.int .i64 0,.int .i64 0,.int .i64 0,.bool false]),4,32):=by kernel_rfl
theorem Oa(l:List Pt):∀u∈l.flatMap iy,u.oneCell'=true:=by
 intro u b;obtain⟨x,-,a⟩:=og.1 b;simp only[iy,eJ,ns,lQ]at a;obtain rfl|rfl|rfl|rfl:=a<;>rfl
theorem Ob(v:Value)(l:List Pt)(n:w.ownsRow 0 150 4 v l.length (l.flatMap iy))(b c:Nat)(x:Pt)(h0:w.heap[b]?=some (.cells (kX x) 150 (0,0)))(B:l.length<=10000000):
 ∃d e f a,(Builtin.append_ #[194,194] 194 #[v,.slice (some ⟨b,0,none⟩) 1 c]).run prog w=.ok (.slice d e f) a/\a.ownsRow 0 150 4 (.slice d e f) (l++[x]).length ((l++[x]).flatMap iy)/\w.grownBy a v.ownBlock/\((Value.slice d e f).ownBlock=v.ownBlock\/(Value.slice d e f).ownBlock=some w.heap.size):=by
 obtain⟨p,hi,q,r,s⟩:=kj N9;obtain⟨t,a,i,y,k,_,m⟩:=run_append_own_at (P:=prog) w 0 194 194 150 p (.agg #[.int .i64 0,.int .i64 0,.int .i64 0,.bool false]) 4 32 underlying194 hi q r s rfl (by decide) v l.length (l.flatMap iy) n ⟨b,0,none⟩ 1 c (iy x) (by rfl) (λj u z=>by
  rw[Addr.add_mid,dv,aU h0];have:(kX x)[j]?=(iy x)[j]? :=by unfold kX iy;rw[<-od]
  rw[this];exact z) (λu A=>Oa [x] u (by simpa using A)) (by simp[maxLen];omega) (by omega) (mg _)
 have h:a.ownsRow 0 150 4 t (l++[x]).length ((l++[x]).flatMap iy):=by
  rw[bG,vS];have:[x].flatMap iy=iy x:=by simp
  rw[this];exact y
 obtain⟨-,⟨rfl,e2⟩|⟨g,cap,C,rfl,_⟩⟩:=id h;exact⟨_,_,_,a,i,h,k,m⟩
 exact⟨_,_,_,a,i,h,k,m⟩
theorem pd.app{pk:ct}(h:pd w s i j x pk)(t:bH w n s)(h0:i<=w.heap.size)(q:Pt)(hl:pk.parts.length<=1000000)(g:W=(w.alloc (.cells (kX q) 150)).drew):
 ∃a7 b c7 a,(Builtin.append_ #[194,194] 194 #[x,.slice (some ⟨w.heap.size,0,none⟩) 1 1]).run prog W=.ok (.slice a7 b c7) a/\a.cell? ⟨j,1,none⟩=some x/\a.frozen? ⟨j,1,none⟩=false/\pd (a.setCell ⟨j,1,none⟩ (.slice a7 b c7)) s i j (.slice a7 b c7) {pk with parts:=pk.parts++[q]}/\ak w (a.setCell ⟨j,1,none⟩ (.slice a7 b c7)) (λk=>k=j\/x.ownBlock=some k):=by
 have c:w.grownBy W none:=by rw[g];exact aP (aC _ _ _)
 have u:W.heap[w.heap.size]?=some (.cells (kX q) 150 (0,0)):=by rw[g];exact aH w _
 have d:=h.gb c;obtain⟨a7,b,c7,a,v,l,m,p⟩:=Ob x pk.parts d.at_.parts w.heap.size 1 q u (by omega);have tP:=d.at_.ty;have f:a.heap[j]?=some (.cells (qB (j,x) pk) 196 (0,0)):=(m.block j tP.lt (λe=>tP.ne (dM d.at_.parts j e.symm) (by decide) rfl)).trans d.at_.aG;have t7:Ty a j 196:=⟨_,_,f⟩
 have r:=jl a j 1 (.slice a7 b c7);refine⟨a7,b,c7,a,v,by simp[World.cell?,f,qB],by simp[World.frozen?,f],⟨⟨heap_set f _,fY l r (λk e e2=>by subst e2;exact(dM l _ e).ne t7 (by decide) rfl)⟩,h.tP,λk e=>?_,h.lP,λk e=>?_⟩,((((ak.of c).trans (ak.of m)).trans r).mono (λk _ e=>?_))⟩
 obtain e2|e2:=p
 exact h.tv k (e2▸e);rw[e]at e2;have:=aJ e2;exact t.fresh (by have:=c.size;omega);obtain e2|e2:=p
 exact h.lv k (e2▸e);rw[e]at e2;have:=aJ e2;have:=c.size;omega;obtain(e|e)|e:=e
 cases e;exact .inr e;exact .inl e
theorem Oc:(prog.info? 147).map (λi=>(i.zero,i.size,i.bytes))=some (some (.pointer none),1,8):=by kernel_rfl
theorem Od(n:Nat)(f:Nat->Nat×Value):rowP (n+1) f=rowP n f++[.pointer (some ⟨(f n).1,0,none⟩)]:=by simp[rowP,pD]
theorem Oe(n:Nat)(f:Nat->Nat×Value)(x:Nat×Value):rowP n (aw f n x)=rowP n f:=by
 unfold rowP;apply r9;intro j a;have:=mJ.1 a;rw[bq _ _ (by omega)]
theorem Of(V:aB)(a:di V.key)(x:Value):V.cells.setIfInBounds 20 x={V with vs:=x}.cells:=by
 obtain⟨_,_,_,_,_,_,_,_,_,_,_,_,_,_,_,_,e⟩:=xQ (bv V.key) (by rw[fK,a.1]);unfold aB.cells;simp only
 rw[e];rfl
theorem pd.join{g:World}{pk:ct}(T:aY w l s s W)(v:bH w l s)(h:pd W s w.heap.size m x pk)(U:s.n<=1000000)(I:g=W.alloc (.cells #[.pointer (some ⟨m,0,none⟩)] 147)):
 ∃a7 a c7 b,(Builtin.append_ #[61,61] 61 #[s.vs,.slice (some ⟨W.heap.size,0,none⟩) 1 1]).run prog g=.ok (.slice a7 a c7) b/\b.cell? ⟨l,20,none⟩=some s.vs/\b.frozen? ⟨l,20,none⟩=false/\∃d,aY w l s {s with n:=s.n+1,p:=aw s.p s.n pk,pl:=aw s.pl s.n (m,x),vs:=.slice a7 a c7,tag:=d} (b.setCell ⟨l,20,none⟩ (.slice a7 a c7)):=by
 classical
 have A:W.grownBy g none:=by rw[I];exact aC _ _ _
 have Q:g.heap[W.heap.size]?=some (.cells #[.pointer (some ⟨m,0,none⟩)] 147 (0,0)):=by rw[I];exact aH _ _
 have r:=T.at_.ah A;have V:=h.gb A;obtain⟨a7,a,c7,b,R,L,M,S⟩:=vD (w:=g) 61 147 (.pointer none) 8 Oc underlying61 rfl (by decide) s.vs s.n (rowP s.n s.pl) r.aE W.heap.size (.pointer (some ⟨m,0,none⟩)) rfl (by simp[World.cell?,Q]) (by omega) 1;have tS:Ty g l 63:=⟨_,_,r.aG⟩
 have B:b.heap[l]?=some (.cells s.cells 63 (0,0)):=(M.block l tS.lt (λe=>tS.ne (dM r.aE l e.symm) (by decide) rfl)).trans r.aG;have t7:Ty b l 63:=⟨_,_,B⟩
 have G:=jl b l 20 (.slice a7 a c7);refine⟨a7,a,c7,b,R,by rw[aU B,<-aU r.aG];exact r.c.1.2.2.2.2.1,by simp[World.frozen?,B],?_⟩
 obtain⟨u,N⟩:=exq (b.setCell ⟨l,20,none⟩ (.slice a7 a c7));rw[<-N]at G⊢;have C:ak W u (λk=>s.vs.ownBlock=some k\/k=l):=(((ak.of A).trans (ak.of M)).trans G).mono (λk _ e=>by
  obtain(e|e)|e:=e
  cases e;exact .inl e
  ·exact .inr e)
 have D:∀k,(s.vs.ownBlock=some k\/k=l)->s.tag k≠none:=λk e=>by
  obtain e|e:=e
  rw[T.at_.tV k e];simp;rw[e,T.at_.tS];simp
 have K:=T.at_.cW C (λt=>t=3\/t=1) (λk t e e2=>by
  obtain e|e:=e
  rw[T.at_.tV k e]at e2;exact .inl (aJ e2).symm
  ·rw[e,T.at_.tS]at e2;exact .inr (aJ e2).symm)
 have y:jM u (m,x) pk:=h.at_.frame C (λk e q=>by
  obtain rfl|e:=e
  exact D _ q h.tP
  ·exact D _ q (h.tv k e))
 have H:∀k,tn (m,x) k->w.heap.size<=k/\k<u.heap.size/\s.tag k=none:=λk e=>by
  obtain rfl|e:=e
  exact⟨h.lP,y.ty.lt,h.tP⟩
  exact⟨h.lv k e,(dM y.parts k e).lt,h.tv k e⟩
 have E:u.ownsRow 0 147 1 (.slice a7 a c7) (s.n+1) (rowP (s.n+1) (aw s.pl s.n (m,x))):=by
  rw[Od,bm,Oe];exact fY L G (λk e e2=>by subst e2;exact(dM L _ e).ne t7 (by decide) rfl)
 have O:∀k,(Value.slice a7 a c7).ownBlock=some k->s.tag k=some 3\/(W.heap.size<=k/\k<u.heap.size):=λk e=>by
  obtain e2|e2:=S
  exact .inl (T.at_.tV k (e2▸e));rw[e]at e2;have:=aJ e2;exact .inr ⟨by have:=A.size;omega,(dM E k e).lt⟩
 obtain⟨d,z⟩:∃d:Nat->Option Nat,d=λk=>if tn (m,x) k then some (8+s.n)else if W.heap.size<=k/\(Value.slice a7 a c7).ownBlock=some k then some 3 else s.tag k:=⟨_,rfl⟩
 have X:=T.aq.size;have ob:∀k t,s.tag k=some t->d k=some t:=λk t e=>by
  rw[z];simp only
  rw[ay (λq=>by have:=(H k q).2.2;rw[e]at this;cases this),ay (λq=>by have:=(T.at_.tl k t e).1;omega)];exact e
 refine⟨d,⟨?_,v.key,v.oc,(K.ty (by omega)).1,(K.ty (by omega)).2,λk F=>K.src k F (by omega),λi hi=>?_,E,K.cn (by omega),λk t e=>?_,λk e=>ob _ _ (T.at_.tA k e),ob _ _ T.at_.tS,ob _ _ T.at_.tO,λk e=>?_,λk F j e=>ob _ _ (T.at_.kW k F j e),λi hi j e=>?_⟩,(T.aq.trans C).mono (λk _ e=>e.elim id (D k)),λk F=>?_,T.laid.aq C (λe=>D 0 e T.at_.t0)⟩
 have:=heap_set (o:=20) B (.slice a7 a c7);rw[Of s v.key,<-N]at this;exact this;show jM u (aw s.pl s.n (m,x) i) (aw s.p s.n pk i);have hi:i<s.n+1:=hi;by_cases e:i=s.n;subst e;rw[bm,bm];exact y;rw[bq _ _ e,bq _ _ e];exact K.pk i (by omega) (by omega);have e:d k=some t:=e;rw[z]at e;simp only at e;split at e;rename_i q;have:=H k q;exact⟨this.2.1,by have:=T.laid.lt;have:=(v.tl _ _ v.tS).1;omega⟩
 split at e;rename_i q;obtain f|f:=O k q.2
 have:=(T.at_.tl k 3 f).1;omega;exact⟨f.2,by have:=T.laid.lt;omega⟩
 exact⟨bK (T.at_.tl k t e).1 C.size,(T.at_.tl k t e).2⟩
 show d k=some 3;have e:(Value.slice a7 a c7).ownBlock=some k:=e;obtain q|q:=O k e
 exact ob _ _ q;rw[z];simp only
 rw[ay (λf=>?_),aM ⟨q.1,e⟩];obtain rfl|f:=f
 exact(dM E _ e).ne y.ty (by decide) rfl;exact(dM E _ e).ne (dM y.parts _ f) (by decide) rfl;have hi:i<s.n+1:=hi;have e:tn (aw s.pl s.n (m,x) i) j:=e;show d j=some (8+i);by_cases P:i=s.n;subst P;rw[bm]at e;rw[z];simp only;rw[aM e];rw[bq _ _ P]at e;exact ob _ _ (T.at_.nO i (by omega) j e);show d k=s.tag k;rw[z];simp only
 rw[ay (λq=>by have:=(H k q).1;omega),ay (by omega)]
def nQ(ps:List Pt)(k j:Nat):Bool:=ps.any (λq=>decide (q.st=k/\q.fr<=j/\j<q.en))
def nT(ps:List Pt)(k:Nat):Bool:=ps.any (λq=>decide (q.st=k/\q.fin=true))
def nU(V:aB)(i:Nat):aB:=
 {V.re (aw V.p i {V.p i with named:=true})with
  o:=λk=>{(V.re (aw V.p i {V.p i with named:=true})).o k with ag:=λj=>(V.o k).ag j||nQ (V.p i).parts k j,eP:=(V.o k).eP||nT (V.p i).parts k},wait:=if(V.p i).on then 4 else V.wait}
def kE(V:aB)(lo:Nat):Nat->aB
 |0=>V
 |c+1=>nU (kE V lo c) (lo+c)
def j9(V:aB)(lo hi:Nat):aB:=(kE V lo (hi+1-lo)).re (bT (kE V lo (hi+1-lo)).p (hi-2))
structure vJ(V a:aB)(lo c:Nat):Prop where
 ao:a.ao=V.ao
 ai:a.ai=V.ai
 key:a.key=V.key
 n:a.n=V.n
 now:a.now=V.now
 aV:a.aV=V.aV
 mem:a.xb=V.xb/\a.xs=V.xs/\a.st=V.st/\a.A=V.A/\a.ob=V.ob/\a.oc=V.oc/\a.sl=V.sl/\a.pl=V.pl/\a.vs=V.vs/\a.tag=V.tag
 p:∀i,a.p i=if lo<=i/\i<lo+c then{V.p i with named:=true}else V.p i
 src:∀k,(a.o k).wrote=(V.o k).wrote/\(a.o k).n=(V.o k).n/\(a.o k).finished=(V.o k).finished
 ag:∀k j,(a.o k).ag j=true↔(V.o k).ag j=true\/∃i,lo<=i/\i<lo+c/\nQ (V.p i).parts k j=true
 fin:∀k,(a.o k).eP=true↔(V.o k).eP=true\/∃i,lo<=i/\i<lo+c/\nT (V.p i).parts k=true
 wait:(∃i,lo<=i/\i<lo+c/\(V.p i).on=true)/\a.wait=4\/(¬∃i,lo<=i/\i<lo+c/\(V.p i).on=true)/\a.wait=V.wait
 cU:a.fG
theorem rV(V:aB)(g:V.fG)(lo:Nat):∀c,vJ V (kE V lo c) lo c:=by
 intro c;induction c with
 |zero=>exact⟨rfl,rfl,rfl,rfl,rfl,rfl,⟨rfl,rfl,rfl,rfl,rfl,rfl,rfl,rfl,rfl,rfl⟩,λi=>by rw[ay (by omega)];rfl,λk=>⟨rfl,rfl,rfl⟩,λk j=>⟨.inl,λh=>h.elim id (λ⟨i,a,b,_⟩=>by omega)⟩,λk=>⟨.inl,λh=>h.elim id (λ⟨i,a,b,_⟩=>by omega)⟩,.inr ⟨λ⟨i,a,b,_⟩=>by omega,rfl⟩,g⟩
 |succ c d=>
  have e0:(kE V lo c).p (lo+c)=V.p (lo+c):=by rw[d.p,ay (by omega)]
  show vJ V (nU (kE V lo c) (lo+c)) lo (c+1);generalize kE V lo c=W at *;have f:∀{P:Nat->Prop},(∃i,lo<=i/\i<lo+(c+1)/\P i)↔(∃i,lo<=i/\i<lo+c/\P i)\/P (lo+c):=λ{P}=>by
   constructor;rintro⟨i,a,b,h⟩;by_cases e:i=lo+c;subst e;exact .inr h;exact .inl ⟨i,a,by omega,h⟩;rintro(⟨i,a,b,h⟩|h);exact⟨i,a,by omega,h⟩
   exact⟨lo+c,by omega,by omega,h⟩
  refine⟨d.ao,d.ai,d.key,d.n,d.now,d.aV,d.mem,λi=>?_,d.src,λk j=>?_,λk=>?_,?_,λk=>⟨λj=>rfl,rfl⟩⟩
  show aw W.p (lo+c) {W.p (lo+c)with named:=true} i=_;by_cases e:i=lo+c;subst e;rw[bm,e0,aM ⟨by omega,by omega⟩];rw[bq _ _ e,d.p];have:(lo<=i/\i<lo+(c+1))↔(lo<=i/\i<lo+c):=by omega
  simp only[this]
  show((W.o k).ag j||nQ (W.p (lo+c)).parts k j)=true↔_;rw[qh,d.ag,e0,f,or_assoc];show((W.o k).eP||nT (W.p (lo+c)).parts k)=true↔_;rw[qh,d.fin,e0,f,or_assoc];show _/\(if(W.p (lo+c)).on=true then(4:Int)else W.wait)=4\/_/\(if(W.p (lo+c)).on=true then(4:Int)else W.wait)=V.wait;rw[e0,f];cases e:(V.p (lo+c)).on;simp only[gM,gp,lQ]
  exact d.wait;exact .inl ⟨.inr rfl,by simp⟩
theorem OD(ps:List Pt)(k j:Nat):gZ ps k j=0↔∀q∈ps,¬(q.st=k/\q.fr<=j/\j<q.en):=by
 induction ps with
 |nil=>simp[gZ]
 |cons q r a=>
  have c:=qC r k j;have d:0<=nP q k j/\nP q k j<=1:=by unfold nP;split<;>omega
  have b:nP q k j=0↔¬(q.st=k/\q.fr<=j/\j<q.en):=by
   unfold nP;split;rename_i h;simp[h];rename_i h;simp[h]
  simp only[gZ,List.forall_mem_cons,<-a,<-b]
  omega
theorem OE(ps:List Pt)(k:Nat):hb ps k=0↔∀q∈ps,¬(q.st=k/\q.fin=true):=by
 induction ps with
 |nil=>simp[hb]
 |cons q r a=>
  have c:=qD r k;have d:0<=mG q k/\mG q k<=1:=by unfold mG;split<;>omega
  have b:mG q k=0↔¬(q.st=k/\q.fin=true):=by
   unfold mG;split;rename_i h;simp[h];rename_i h;simp[h]
  simp only[hb,List.forall_mem_cons,<-a,<-b]
  omega
theorem Dx(p:Nat->ct)(k j:Nat):∀n,eQ p k j n=0↔∀i,i<n->(p i).on=true->∀q∈(p i).parts,¬(q.st=k/\q.fr<=j/\j<q.en):=by
 intro n;have d:∀n,0<=eQ p k j n:=by
  intro n;induction n with
  |zero=>simp[eQ]
  |succ n b=>have:=qC (p n).parts k j;unfold eQ;split<;>omega
 induction n with
 |zero=>simp[eQ]
 |succ n b=>
  have f:=qC (p n).parts k j;have g:=d n;have c:=OD (p n).parts k j;constructor;intro h i hi ho;unfold eQ at h;by_cases e:i=n;subst e;rw[aM ho]at h;exact c.1 (by omega);exact b.1 (by split at h<;>omega) i (by omega) ho;intro h;have a:=b.2 (λi hi=>h i (by omega));unfold eQ;split;rename_i ho;have:=c.2 (h n (by omega) ho);omega;omega
theorem OF(p:Nat->ct)(k:Nat):∀n,eZ p k n=0↔∀i,i<n->(p i).on=true->∀q∈(p i).parts,¬(q.st=k/\q.fin=true):=by
 intro n;have d:∀n,0<=eZ p k n:=by
  intro n;induction n with
  |zero=>simp[eZ]
  |succ n b=>have:=qD (p n).parts k;unfold eZ;split<;>omega
 induction n with
 |zero=>simp[eZ]
 |succ n b=>
  have f:=qD (p n).parts k;have g:=d n;have c:=OE (p n).parts k;constructor;intro h i hi ho;unfold eZ at h;by_cases e:i=n;subst e;rw[aM ho]at h;exact c.1 (by omega);exact b.1 (by split at h<;>omega) i (by omega) ho;intro h;have a:=b.2 (λi hi=>h i (by omega));unfold eZ;split;rename_i ho;have:=c.2 (h n (by omega) ho);omega;omega
theorem OG(ps:List Pc):∀(d:Du)(m:Int),Sm (ps.foldl Du.leave d).l m↔Sm d.l m/\∀c∈ps,¬(c.x.lo<=m/\m<c.x.hi):=by
 induction ps with
 |nil=>simp
 |cons c r a=>
  intro d m;rw[List.foldl_cons,a];show Sm (kP d.l c.x) m/\_↔_;rw[uw,List.forall_mem_cons,and_assoc]
theorem Dy(ps:List Pc):∀(d:Du),(ps.foldl Du.leave d).e=true↔d.e=true/\∀c∈ps,c.e=false:=by
 induction ps with
 |nil=>simp
 |cons c r a=>
  intro d;rw[List.foldl_cons,a,List.forall_mem_cons];show(d.e&& !c.e)=true/\_↔_;rw[ja,Bool.not_eq_true',and_assoc]
def nV(k:Int)(c:Pc):Pt:=⟨k.toNat,c.x.lo.toNat,c.x.hi.toNat,c.e⟩
structure tu(v:Src)(o:Ot):Prop where
 sG:o.sG=false
 sE:o.sE=v.finished
 tE:o.tE=v.eP
 en:o.en=v.n
 sz:v.wrote.size=v.n
 cm:∀j:Nat,v.ag j=true↔Sm o.h.ag (j:Int)
 hi:∀m,Sm o.h.ag m->m<o.en
structure OH(V:aB)(i:Nat)(x:Pk):Prop where
 num:x.num=i
 tick:x.tick=(V.p i).tick
 st:0<=x.st/\x.st<4
 parts:(V.p i).parts=x.ps.map (nV x.st)
 ps:∀c∈x.ps,c.g=false/\0<=c.x.lo/\c.x.lo<=c.x.hi/\c.x.hi<=(V.o x.st.toNat).n
 quiet:(V.p i).quiet=false
 fe:∀c∈x.ps,c.e=true->(V.o x.st.toNat).finished=true
def lK(V:aB)(q:Pt):Prop:=(∀j,q.fr<=j->j<q.en->(V.o q.st).ag j=true)/\(q.fin=true->(V.o q.st).eP=true)
structure cM(V:aB)(s:Sd)(Q:Nat->Pk):Prop where
 key:s.key=V.key
 first:s.first=true
 ao:s.ao=V.ao
 ai:s.ai=V.ai
 dU:s.dU=false
 cU:s.count=V.n
 tick:s.tick=V.now
 wait:s.wait=V.wait
 wt:4<=V.wait/\V.wait<=32
 aV:0<=V.aV
 num:∀m:Int,V.aV<=m->iC s.ag s.floor m=false
 out:∀k,k<4->tu (V.o k) (s.out k)
 pk:∀i,i<V.n->OH V i (Q i)
 az:s.az=((List.range V.n).filter (λi=>(V.p i).on)).map Q
 lost:∀x∈s.lost,∃i,i<V.n/\x=Q i/\(V.p i).lost=true
 un:∀i,i<V.n->(V.p i).lost=true->(V.p i).named=false->Q i∈s.lost\/∀q∈(V.p i).parts,lK V q
 nm:∀i,i<V.n->(V.p i).named=true->∀q∈(V.p i).parts,lK V q
 c:V.fG
theorem cM.l9{V:aB}{Q:Nat->Pk}(h:cM V X Q){x:Pk}:x∈X.az↔∃i,i<V.n/\(V.p i).on=true/\x=Q i:=by
 rw[h.az,fh];constructor;rintro⟨i,hi,rfl⟩;obtain⟨a,b⟩:=jR.1 hi;exact⟨i,mJ.1 a,b,rfl⟩
 rintro⟨i,a,b,rfl⟩;exact⟨i,jR.2 ⟨mJ.2 a,b⟩,rfl⟩
theorem cM.wb{V:aB}{Q:Nat->Pk}(h:cM V X Q)(s:∀k,k<4->eD (X.out k))(f:k<4)(j:Nat):((V.o k).wb j=true/\j<(V.o k).n)↔Sm (X.due k).l (j:Int):=by
 have R:=h.out k f;have A:=s k f;unfold Sd.due;rw[OG];show _↔Sm (jz (X.out k).h.ag ⟨(X.out k).h.fr,(X.out k).h.fr+(X.out k).h.bytes.length⟩) (j:Int)/\_;rw[qW];have e1:(X.out k).h.fr+(X.out k).h.bytes.length=(V.o k).n:=R.en;have e2:(V.o k).ag j=false↔¬Sm (X.out k).h.ag (j:Int):=by
  rw[<-R.cm j];cases(V.o k).ag j<;>simp
 have t:(V.o k).fl j=0↔∀c∈X.az.flatMap (λ(x:Pk)=>if x.st=(k:Int)then x.ps else[]),¬(c.x.lo<=(j:Int)/\(j:Int)<c.x.hi):=by
  rw[(h.c k).1 j,Dx];constructor;intro e c d;obtain⟨x,u,d⟩:=og.1 d;split at d;rename_i v;obtain⟨i,hi,ho,rfl⟩:=h.l9.1 u;have P:=h.pk i hi;have:=e i hi ho (nV (Q i).st c) (by rw[P.parts];exact lM d);obtain⟨-,w,p2,-⟩:=P.ps c d;intro q;exact this ⟨by show(Q i).st.toNat=k;rw[v];rfl,by show c.x.lo.toNat<=j;omega,by show j<c.x.hi.toNat;omega⟩;cases d;intro e i hi ho q g y;have P:=h.pk i hi;rw[P.parts]at g;obtain⟨c,d,rfl⟩:=fh.1 g;obtain⟨-,w,p2,-⟩:=P.ps c d;obtain⟨m,p,r⟩:=y;have m:(Q i).st.toNat=k:=m;have p:c.x.lo.toNat<=j:=p;have r:j<c.x.hi.toNat:=r;have:=P.st;exact e c (og.2 ⟨Q i,h.l9.2 ⟨i,hi,ho,rfl⟩,by rw[aM (by omega)];exact d⟩) ⟨by omega,by omega⟩
 rw[<-t,<-e2];unfold Src.wb;rw[ja,Bool.not_eq_true',beq_iff_eq];constructor;rintro⟨⟨a,b⟩,c⟩;refine⟨⟨⟨?_,by rw[e1];exact Int.ofNat_lt.2 c⟩,a⟩,b⟩
 show(X.out k).h.fr<=(j:Int);have z:=e2.1 a;by_cases B:(j:Int)<(X.out k).h.fr;exact absurd (A.low j (by omega) B) z;omega;rintro⟨⟨⟨-,a⟩,b⟩,c⟩;exact⟨⟨b,c⟩,by rw[e1]at a;simp only at a;omega⟩
theorem cM.we{V:aB}{Q:Nat->Pk}(h:cM V X Q)(j:k<4):((V.o k).finished&& !(V.o k).eP&&((V.o k).dX==0))=true↔(X.due k).e=true:=by
 have R:=h.out k j;unfold Sd.due;rw[Dy];show _↔(X.out k).uE=true/\_;unfold Ot.uE;rw[R.sE,R.tE,ja,beq_iff_eq];have l:(V.o k).dX=0↔∀c∈X.az.flatMap (λ(x:Pk)=>if x.st=(k:Int)then x.ps else[]),c.e=false:=by
  rw[(h.c k).2,OF];constructor;intro d c a;obtain⟨x,m,a⟩:=og.1 a;split at a;rename_i n;obtain⟨i,hi,ho,rfl⟩:=h.l9.1 m;have P:=h.pk i hi;have:=d i hi ho (nV (Q i).st c) (by rw[P.parts];exact lM a);cases p:c.e with
  |false=>rfl
  |true=>exact absurd ⟨by show(Q i).st.toNat=k;rw[n];rfl,p⟩ this
  cases a;intro d i hi ho q f r;have P:=h.pk i hi;rw[P.parts]at f;obtain⟨c,a,rfl⟩:=fh.1 f;obtain⟨g,b⟩:=r;have g:(Q i).st.toNat=k:=g;have b:c.e=true:=b;have:=P.st;rw[d c (og.2 ⟨Q i,h.l9.2 ⟨i,hi,ho,rfl⟩,by rw[aM (by omega)];exact a⟩)]at b;cases b
 rw[l]
structure Mem(V a:aB):Prop where
 ao:a.ao=V.ao
 ai:a.ai=V.ai
 key:a.key=V.key
 o:a.o=V.o
 p:a.p=V.p
 n:a.n=V.n
 now:a.now=V.now
 wait:a.wait=V.wait
 aV:a.aV=V.aV
theorem Dz{a:aB}(h:a.o=s.o){q:Pt}(b:lK s q):lK a q:=by unfold lK at *;rw[h];exact b
theorem cM.mem{V d:aB}{Q:Nat->Pk}(h:cM V X Q)(M:Mem V d):cM d X Q:=by
 refine⟨by rw[M.key];exact h.key,h.first,by rw[M.ao];exact h.ao,by rw[M.ai];exact h.ai,h.dU,by rw[M.n];exact h.cU,by rw[M.now];exact h.tick,by rw[M.wait];exact h.wait,by rw[M.wait];exact h.wt,by rw[M.aV];exact h.aV,by rw[M.aV];exact h.num,λk e=>by rw[M.o];exact h.out k e,λi hi=>?_,by rw[M.n,M.p];exact h.az,λx f=>by rw[M.n,M.p];exact h.lost x f,λi hi=>?_,λi hi=>?_,λk=>by rw[M.o,M.p,M.n];exact h.c k⟩
 rw[M.n]at hi;have P:=h.pk i hi;exact⟨P.num,by rw[M.p];exact P.tick,P.st,by rw[M.p];exact P.parts,by rw[M.o];exact P.ps,by rw[M.p];exact P.quiet,by rw[M.o];exact P.fe⟩
 rw[M.n]at hi;rw[M.p];exact λa g=>(h.un i hi a g).imp id (λz q b=>Dz M.o (z q b))
 rw[M.n]at hi;rw[M.p];exact λa q b=>Dz M.o (h.nm i hi a q b)
theorem cM.pre{V:aB}{Q:Nat->Pk}(h:cM V X Q)(b:∀k,k<4->eD (X.out k))(a:k<4):vI (V.o k) (X.out k).h.fr.toNat/\(((X.out k).h.fr.toNat:Nat):Int)=(X.out k).h.fr:=by
 have R:=h.out k a;have A:=b k a;have c:=A.fr;have d:(X.out k).h.fr+(X.out k).h.bytes.length=(V.o k).n:=R.en;refine⟨⟨by omega,λj f=>(R.cm j).2 (A.low j (by omega) (by omega)),λ_=>?_⟩,by omega⟩
 cases e:(V.o k).ag (X.out k).h.fr.toNat with
 |false=>rfl
 |true=>
  have:=(R.cm _).1 e;rw[show(((X.out k).h.fr.toNat:Nat):Int)=(X.out k).h.fr by omega]at this;exact absurd this A.hole
theorem cM.beyond{V:aB}{Q:Nat->Pk}(h:cM V X Q)(f:k<4)(m:(V.o k).n<=j):(V.o k).ag j=false/\(V.o k).fl j=0:=by
 have R:=h.out k f;refine⟨?_,?_⟩
 cases e:(V.o k).ag j with
 |false=>rfl
 |true=>have:=R.hi _ ((R.cm j).1 e);rw[R.en]at this;omega
 rw[(h.c k).1 j,Dx];intro i hi _ q b g;have P:=h.pk i hi;rw[P.parts]at b;obtain⟨c,l,rfl⟩:=fh.1 b;obtain⟨-,p,p2,p3⟩:=P.ps c l;obtain⟨a,r,d⟩:=g;have a:(Q i).st.toNat=k:=a;have d:j<c.x.hi.toNat:=d;rw[a]at p3;omega
theorem cM.DA{V:aB}{Q:Nat->Pk}(h:cM V X Q)(f:Src)(r:Ot)(w:k<4->tu f r)(C:(V.o k).n<=f.n)(y:(V.o k).finished=true->f.finished=true)(l:f.ag=(V.o k).ag)(A:f.fl=(V.o k).fl)(s:f.eP=(V.o k).eP)(ho:f.dX=(V.o k).dX):cM {V with o:=aw V.o k f} {X with out:=aw X.out k r} Q:=by
 have u:∀q,lK V q->lK {V with o:=aw V.o k f} q:=λq g=>by
  unfold lK at *;show(∀j,_->_->(aw V.o k f q.st).ag j=true)/\(_->(aw V.o k f q.st).eP=true)
  by_cases e:q.st=k;rw[e,bm,l,s,<-e];exact g;rw[bq _ _ e];exact g
 refine⟨h.key,h.first,h.ao,h.ai,h.dU,h.cU,h.tick,h.wait,h.wt,h.aV,h.num,λj v=>?_,λi hi=>?_,h.az,h.lost,λi hi t B=>(h.un i hi t B).imp id (λz q g=>u q (z q g)),λi hi t q g=>u q (h.nm i hi t q g),λj=>?_⟩
 show tu (aw V.o k f j) (aw X.out k r j);by_cases e:j=k;subst e;rw[bm,bm];exact w v;rw[bq _ _ e,bq _ _ e];exact h.out j v;have P:=h.pk i hi;refine⟨P.num,P.tick,P.st,P.parts,λc l=>?_,P.quiet,λc l s=>?_⟩
 obtain⟨a,b,d,e⟩:=P.ps c l;refine⟨a,b,d,?_⟩
 show c.x.hi<=((aw V.o k f (Q i).st.toNat).n:Int);by_cases e2:(Q i).st.toNat=k;rw[e2,bm];rw[e2]at e;omega;rw[bq _ _ e2];exact e;have:=P.fe c l s;show(aw V.o k f (Q i).st.toNat).finished=true;by_cases e2:(Q i).st.toNat=k;rw[e2,bm];rw[e2]at this;exact y this;rw[bq _ _ e2];exact this;show(∀m,(aw V.o k f j).fl m=eQ V.p j m V.n)/\(aw V.o k f j).dX=eZ V.p j V.n;by_cases e:j=k;subst e;rw[bm,A,ho];exact h.c j;rw[bq _ _ e];exact h.c j
theorem OI(b:ByteArray)(n:Nat):((b.extract 0 n).size:Nat)=min n b.size:=by rw[ByteArray.size_extract];omega
theorem cM.write{V:aB}{Q:Nat->Pk}(h:cM V X Q)(g:∀k,k<4->eD (X.out k))(i:∀k,k<4->((X.out k).h.bytes.length:Int)<=X.ai)(c:k<4)(b:ByteArray):
 ((V.o k).finished=true->aK.do (.aL X) ⟨1,(k:Int),0,0,b⟩=(⟨3,-1,0,0,[],[]⟩,.aL X))/\
 ((V.o k).finished=false->∃(a:Nat)(e:Sd),(a:Int)=min (min (V.ai-(((V.o k).n:Int)-(X.out k).h.fr.toNat)) (4096-((V.o k).n:Int))) b.size/\aK.do (.aL X) ⟨1,(k:Int),0,0,b⟩=(⟨0,-1,(a:Int),0,[],[]⟩,.aL e)/\cM {V with o:=aw V.o k {V.o k with wrote:=(V.o k).wrote++b.extract 0 a,n:=(V.o k).n+a}} e Q/\(V.o k).n+a<=4096):=by
 have R:=h.out k c;have A:=g k c;have p:=A.fr;have q:(X.out k).h.fr+(X.out k).h.bytes.length=(V.o k).n:=R.en;have j:(X.out k).en<=4096:=A.en;rw[R.en]at j;have r:=i k c;have e0:¬((k:Int)<0\/4<=(k:Int)):=by omega
 refine⟨λd=>?_,λd=>?_⟩
 unfold aK.do aK.write Sd.write;simp only[ay e0,jP]
 rw[R.sE,R.sG,d];simp;refine⟨(X.out k).iP b.size X.ai,{X with out:=aw X.out k ((X.out k).wrote (bl b) X.ai)},?_,?_,?_,?_⟩
 unfold Ot.iP;rw[<-h.ai];omega;unfold aK.do aK.write Sd.write;simp only[ay e0,jP]
 rw[R.sE,R.sG,d];simp[iJ];have s:(X.out k).iP b.size X.ai<=b.size:=by unfold Ot.iP;omega
 have hl:((bl b).take ((X.out k).iP (bl b).length X.ai)).length=(X.out k).iP b.size X.ai:=by rw[cC,iJ];omega
 have f:((X.out k).wrote (bl b) X.ai).en=(V.o k).n+(X.out k).iP b.size X.ai:=by
  show(X.out k).h.fr+(((X.out k).h.bytes++(bl b).take ((X.out k).iP (bl b).length X.ai)).length:Nat)=_;rw[bG,hl];omega
 refine h.DA _ _ (λ_=>⟨R.sG,R.sE,R.tE,by rw[f];simp,?_,R.cm,λm l=>?_⟩) (by simp) id rfl rfl rfl rfl;show((V.o k).wrote++b.extract 0 ((X.out k).iP b.size X.ai)).size=(V.o k).n+(X.out k).iP b.size X.ai;rw[ByteArray.size_append,OI,R.sz];omega;rw[f];have:=R.hi m l;rw[R.en]at this;omega;unfold Ot.iP;omega
theorem cM.finish{V:aB}{Q:Nat->Pk}(h:cM V X Q)(c:k<4):
 ((V.o k).finished=true->aK.do (.aL X) ⟨2,(k:Int),0,0,⟨#[]⟩⟩=(⟨3,-1,0,0,[],[]⟩,.aL X))/\
 ((V.o k).finished=false->∃b,aK.do (.aL X) ⟨2,(k:Int),0,0,⟨#[]⟩⟩=(⟨0,-1,0,0,[],[]⟩,.aL b)/\cM {V with o:=aw V.o k {V.o k with finished:=true}} b Q):=by
 have R:=h.out k c;have e0:¬((k:Int)<0\/4<=(k:Int)):=by omega
 refine⟨λa=>?_,λa=>⟨{X with out:=aw X.out k {X.out k with sE:=true}},?_,?_⟩⟩
 unfold aK.do aK.finish Sd.finish;simp only[ay e0,jP]
 rw[R.sE,R.sG,a];simp;unfold aK.do aK.finish Sd.finish;simp only[ay e0,jP]
 rw[R.sE,R.sG,a];simp;exact h.DA _ _ (λ_=>⟨R.sG,rfl,R.tE,R.en,R.sz,R.cm,R.hi⟩) (aI _) (λ_=>rfl) rfl rfl rfl rfl
theorem OJ(p:Nat->ct)(now wait:Int):∀n,iU p now wait n=true↔∃i,i<n/\(p i).on=true/\wait<=now-(p i).tick:=by
 intro n;induction n with
 |zero=>simp[iU]
 |succ n b=>
  unfold iU;rw[qh,b,ja,kh];constructor;rintro(⟨i,c,a⟩|a);exact⟨i,by omega,a⟩
  exact⟨n,by omega,a⟩
  rintro⟨i,c,a⟩;by_cases e:i=n;subst e;exact .inr a;exact .inl ⟨i,by omega,a⟩
theorem DB(p:Nat->ct)(b i:Nat)(h:i<b):(bT p b i).on=false:=by
 unfold bT;split;simp[ct.on];rename_i a;cases e:(p i).on with
 |false=>rfl
 |true=>exact absurd ⟨h,e⟩ a
theorem tw(p:Nat->ct)(b i:Nat):(bT p b i).named=(p i).named/\(bT p b i).quiet=(p i).quiet/\(bT p b i).tick=(p i).tick:=by unfold bT;split<;>exact⟨rfl,rfl,rfl⟩
theorem cM.uB{V:aB}{Q:Nat->Pk}(h:cM V X Q)(B:Nat)(t:B<=V.n)(d:Sd)(hs:d={X with az:=((List.range V.n).filter (λi=>(bT V.p B i).on)).map Q,lost:=d.lost})(hl:∀x,x∈d.lost↔x∈X.lost\/∃i,i<B/\(V.p i).on=true/\x=Q i):cM (V.re (bT V.p B)) d Q:=by
 have u:∀q,lK V q->lK (V.re (bT V.p B)) q:=λq b=>b
 have e:∀i,(bT V.p B i).lost=true->(V.p i).lost=true\/(i<B/\(V.p i).on=true):=λi hi=>by
  unfold bT at hi;split at hi;rename_i q;exact .inr q;exact .inl hi
 have f:∀i,(V.p i).lost=true->(bT V.p B i).lost=true:=λi hi=>by
  unfold bT;split;rfl;exact hi
 rw[hs];refine⟨h.key,h.first,h.ao,h.ai,h.dU,h.cU,h.tick,h.wait,h.wt,h.aV,h.num,λk g=>?_,λi hi=>?_,rfl,λx j=>?_,λi hi a c=>?_,λi hi a q b=>?_,tp _ _⟩
 have R:=h.out k g;exact⟨R.sG,R.sE,R.tE,R.en,R.sz,R.cm,R.hi⟩
 have P:=h.pk i hi;obtain⟨e1,e2,l⟩:=tw V.p B i;exact⟨P.num,by show(Q i).tick=(bT V.p B i).tick;rw[l];exact P.tick,P.st,by show(bT V.p B i).parts=_;rw[qE];exact P.parts,P.ps,by show(bT V.p B i).quiet=false;rw[e2];exact P.quiet,P.fe⟩
 obtain q|⟨i,m,r,rfl⟩:=(hl x).1 j
 obtain⟨i,a,c,s⟩:=h.lost x q;exact⟨i,a,c,f i s⟩
 exact⟨i,by show i<V.n;omega,rfl,by show(bT V.p B i).lost=true;unfold bT;rw[aM ⟨m,r⟩]⟩
 have c:(bT V.p B i).named=false:=c;rw[(tw V.p B i).1]at c;show Q i∈d.lost\/∀q∈(bT V.p B i).parts,_;rw[qE];obtain q|q:=e i a
 exact(h.un i hi q c).imp (λz=>(hl _).2 (.inl z)) id;exact .inl ((hl _).2 (.inr ⟨i,q.1,q.2,rfl⟩));have a:(bT V.p B i).named=true:=a;rw[(tw V.p B i).1]at a;have b:q∈(bT V.p B i).parts:=b;rw[qE]at b;exact h.nm i hi a q b
theorem cM.OK{V:aB}{Q:Nat->Pk}(h:cM V X Q)(d:aK)(e:Nat->Prop)(f:Nat->Option Nat):cM (iG V d e f (iU V.p (V.now+1) V.wait V.n)) X.jf Q:=by
 have g:X.az.any (λx=>decide (X.wait<=X.tick+1-x.tick))=iU V.p (V.now+1) V.wait V.n:=by
  rw[Bool.eq_iff_iff,OJ,oh];constructor;rintro⟨x,j,hd⟩;obtain⟨i,a,b,rfl⟩:=h.l9.1 j;rw[kh,h.wait,h.tick,(h.pk i a).tick]at hd;exact⟨i,a,b,hd⟩
  rintro⟨i,a,b,hd⟩;exact⟨Q i,h.l9.2 ⟨i,a,b,rfl⟩,by rw[kh,h.wait,h.tick,(h.pk i a).tick];exact hd⟩
 unfold Sd.jf iG;rw[g];cases iU V.p (V.now+1) V.wait V.n;simp only[gM,gp]
 exact⟨h.key,h.first,h.ao,h.ai,h.dU,h.cU,by show X.tick+1=V.now+1;rw[h.tick],h.wait,h.wt,h.aV,h.num,h.out,λi hi=>⟨(h.pk i hi).num,(h.pk i hi).tick,(h.pk i hi).st,(h.pk i hi).parts,(h.pk i hi).ps,(h.pk i hi).quiet,(h.pk i hi).fe⟩,h.az,h.lost,h.un,h.nm,h.c⟩
 simp only[fJ]
 have k:((List.range V.n).filter (λi=>(bT V.p V.n i).on)).map Q=[]:=by
  rw[List.map_eq_nil_iff,List.filter_eq_nil_iff];intro i hi;rw[DB _ _ _ (mJ.1 hi)];simp
 have W:=h.uB V.n (aI _) {X with az:=[],lost:=X.lost++X.az} (by rw[k]) (λx=>by
  show x∈X.lost++X.az↔_;rw[ck,h.l9])
 have l:=h.wt;exact⟨W.key,W.first,W.ao,W.ai,W.dU,W.cU,by show X.tick+1=V.now+1;rw[h.tick],by show min (2*X.wait) 32=min (2*V.wait) 32;rw[h.wait],by show 4<=min (2*V.wait) 32/\min (2*V.wait) 32<=32;omega,W.aV,W.num,W.out,λi hi=>⟨(W.pk i hi).num,(W.pk i hi).tick,(W.pk i hi).st,(W.pk i hi).parts,(W.pk i hi).ps,(W.pk i hi).quiet,(W.pk i hi).fe⟩,W.az,W.lost,W.un,W.nm,W.c⟩
