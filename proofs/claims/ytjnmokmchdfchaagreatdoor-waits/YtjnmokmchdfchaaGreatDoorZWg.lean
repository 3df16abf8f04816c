import Derived.Test.YtjnmokmchdfchaaGreatDoorZW9
import Derived.Test.YtjnmokmchdfchaaGreatDoorZWd
set_option maxRecDepth 1000000
set_option maxHeartbeats 0
set_option linter.all false
namespace Go.Proofs.YtjnmokmchdfchaaGreatDoor
open Go.RowKit Tryz
attribute[local go_sem]Oper.semAt_some
variable{p:Int}{Y:List Rg}{i j k l m n:Nat}{S:Nat->Prop}{d:Ot}{W v w:World}
structure Du where
 l:List Rg
 e:Bool
 g:Bool
def Du.leave(d:Du)(p:Pc):Du:=⟨kP d.l p.x,d.e&& !p.e,d.g&& !p.g⟩
def Ot.sS(o:Ot):Du:=⟨jz o.h.ag ⟨o.h.fr,o.h.fr+o.h.bytes.length⟩,o.uE,o.uG⟩
def nH(o:Ot)(ps:List Pc)(m:Nat):Du:=(ps.take m).foldl Du.leave o.sS
theorem uM(o:Ot)(ps:List Pc)(m:Nat)(h:m<ps.length):nH o ps (m+1)=(nH o ps m).leave (eT ps m):=by
 unfold nH;rw[nr,uz h,List.foldl_append];rfl
theorem HG(l:List Rg)(x:Rg)(c:x.lo<x.hi)(h:∀r∈l,x.hi<=r.lo):(ly l x).length<=l.length:=by
 induction l with
 |nil=>exact aI _
 |cons r l b=>
  have e:ly (r::l) x=((if r.lo<min r.hi x.lo then[⟨r.lo,min r.hi x.lo⟩]else[])++(if max r.lo x.hi<r.hi then[⟨max r.lo x.hi,r.hi⟩]else[]))++ly l x:=rfl;have a:=h r (by simp);have:=b (λr a=>h r (by simp[a]));rw[e,ay (by omega),bG,bG,dJ];split<;>simp<;>omega
theorem HH(l:List Rg)(x:Rg)(h:aZ l)(c:x.lo<x.hi):(ly l x).length<=l.length+1:=by
 induction l with
 |nil=>simp[ly]
 |cons r l d=>
  have e:ly (r::l) x=((if r.lo<min r.hi x.lo then[⟨r.lo,min r.hi x.lo⟩]else[])++(if max r.lo x.hi<r.hi then[⟨max r.lo x.hi,r.hi⟩]else[]))++ly l x:=rfl;have g:=d h.tail;rw[e,bG,bG,dJ];by_cases a:r.lo<min r.hi x.lo;by_cases b:max r.lo x.hi<r.hi;have i:=HG l x c (λy f=>by
   have:=(qM.1 h.1).1 y f;omega)
  rw[aM a,aM b];simp;omega;rw[aM a,ay b];simp;omega;rw[ay a];split<;>simp<;>omega
theorem xq(x:Rg)(h:aZ Y):(kP Y x).length<=Y.length+1:=by
 unfold kP;split;exact HH Y x h (by assumption);omega
theorem HI(ag:List Rg)(x:Rg):(jz ag x).length<=ag.length+1:=by
 unfold jz;have key:∀(c l:List Rg),aZ l->(c.foldl kP l).length<=c.length+l.length:=by
  intro c;induction c with
  |nil=>intro l _;simp
  |cons r c b=>
   intro l hl;have:=b (kP l r) (sA r hl);have a:=xq r hl;simp only[List.foldl_cons,dJ]
   omega
 have:=key ag (dT [] x) (oG x aZ.nil);have a:=zq [] x;simp at a;omega
theorem AI(o:Ot)(ps:List Pc)(m:Nat)(h:m<=ps.length):aZ (nH o ps m).l:=by
 induction m with
 |zero=>exact ux _ _
 |succ m a=>
  rw[uM o ps m (by omega)];exact sA _ (a (by omega))
theorem AJ(o:Ot)(ps:List Pc)(m:Nat)(h:m<=ps.length):(nH o ps m).l.length<=o.h.ag.length+1+m:=by
 induction m with
 |zero=>exact HI _ _
 |succ m a=>
  rw[uM o ps m (by omega)];have:=a (by omega);have b:=xq (eT ps m).x (AI o ps m (by omega));unfold Du.leave;simp only
  omega
def fw(W:World)(D N:Nat)(X:Nat->Prop)(d:Du):Prop:=∃a n c,W.heap[D]?=some (.cells #[.slice a n c,.bool d.e,.bool d.g] 332 (0,0))/\ba W a n c d.l/\(d.l≠[]->∀y,a=some y->N<=y.block/\¬X y.block)
theorem fw.ah{d:Du}(h:fw W k i S d)(g:W.grownBy w none):fw w k i S d:=by
 obtain⟨a,n,c,b,e,f⟩:=h;exact⟨a,n,c,jh b g,e.ah g,f⟩
theorem fw.put{W':World}{d:Du}(h:fw W k i S d)(g:W.grownBy W' (some j))(p:j≠k)(q:S j):fw W' k i S d:=by
 obtain⟨a,n,c,b,f,l⟩:=h;exact⟨a,n,c,(g.block k (aO.1 b).1 (λe=>p (aJ e).symm)).trans b,f.cW (λhl y m=>g.block _ (by subst m;exact f.lt hl) (λe=>(l hl y m).2 ((aJ e)▸q))),l⟩
theorem AK(w:World)(D N:Nat)(X:Nat->Prop)(d:Du)(p:Pc)(s:fw w D N X d)(t:X D)(u:∀k,X k->k<w.heap.size)(H:N<=w.heap.size)(j:aZ d.l)(f:p.x.ok)(I:d.l.length<=1000000):
 Calls prog 241 #[.pointer (some ⟨D,0,none⟩),.agg (pA p)] w λr h=>r=.returned (.tuple #[])/\fw h D N X (d.leave p)/\w.grownBy h (some D):=by
 obtain⟨a,n,c,v,m,q⟩:=s;refine(HE w D 0 _ _ a n c d.l d.e d.g p.x p.e p.g v rfl rfl rfl m (λhl y b e=>(q hl y b).2 (e▸t)) j f (by have:=m.2.1;omega)).mono ?_;rintro r h⟨rfl,z,A,B,K,g,C,E,i,F,L,G⟩;have e:=EM j F G;subst e;refine⟨rfl,⟨z,A,B,by rw[C];rfl,E,λhl y b=>?_⟩,g⟩
 obtain rfl|i:=i
 refine q (λe0=>hl ?_) y b;unfold Du.leave;simp only[e0]
 unfold kP;split<;>rfl;have:=i y b;exact⟨by omega,λf=>by have:=u _ f;omega⟩
structure rF(w:World)(b sb a D:Nat)(o:Ot)(k:Int)(ps:List Pc)(r:Loop)(m:Nat)(W:World):Prop where
 mL:m<=ps.length
 box:fw W D a (λj=>(D<=j/\j<=D+4)\/j=a) (nH o ps m)
 b1:W.heap[D+1]?=some (.cells #[.pointer (some ⟨sb,91,none⟩)] 321 (0,0))
 b2:W.heap[D+2]?=some (.cells #[.int .i64 k] 3 (0,0))
 rD:W.heap[D+3]?=some (.deferred (some []))
 ku:W.heap[D+4]?=some (.loop r)
 res:W.heap[a]?=some (.cells #[.slice none 0 0,.bool false,.bool false] 332 (0,0))
 gb:w.grownBy W none
theorem rF.cW{ps:List Pc}{r:Loop}(h:rF w n i j l d p ps r m W)(g:W.grownBy v none):rF w n i j l d p ps r m v:=
 ⟨h.mL,h.box.ah g,jh h.b1 g,jh h.b2 g,jh h.rD g,jh h.ku g,jh h.res g,aj h.gb g⟩
def Sd.due(s:Sd)(k:Nat):Du:=(s.az.flatMap (λ(x:Pk)=>if x.st=(k:Int)then x.ps else[])).foldl Du.leave (s.out k).sS
theorem xr(s:Sd)(lf:List Kt)(k:Nat)(h:s.az=lf.map (·.1)):s.due k=nH (s.out k) (dz lf k) (dz lf k).length:=by
 unfold Sd.due nH dz;rw[lh,h,List.flatMap_map]
theorem HJ(w:World)(N sb:Nat)(cs:Array Value)(v:aQ)(s:Sd)(H:bg w N sb cs v s)(k:Nat)(hk:k<4)(hn:(s.out k).h.nice)(hl:(s.out k).h.ag.length+(dz v.lf k).length<=900000):
 CallsIn Fence.wide 3 prog 207 #[.pointer (some ⟨sb,0,none⟩),.int .i64 (k:Int)] w λe w'=>(∃a n c,e=.returned (.agg #[.slice a n c,.bool (s.due k).e,.bool (s.due k).g])/\ba w' a n c (s.due k).l/\((s.due k).l≠[]->∀y,a=some y->w.heap.size<=y.block))/\w.grownBy w' none:=by
 refine callsIn_of_wp_marks func207 rfl trivial ?_ rfl;simp only[ntmps207,sa,dJ,fH,Nat.reduceAdd,Nat.reduceSub,Array.replicate_succ,Array.replicate_zero,List.push_toArray,List.append_toArray,jQ,nu]
 refine wpIn_wide.2 ?_;obtain⟨ab,nb,cb,ac,nc,cc,ee,eg⟩:=(H.out k hk).mn;have O:=H.out k hk;rw[ee,eg]at O;have hM:=J (λW(g:w.grownBy W none)=>E4 W sb (19+9*k) ab nb cb ac nc cc (s.out k) ((O.ah g).hd (jh H.aG g) hn) ((O.ah g).tail (jh H.aG g)));have hF:=J (λW=>GC ⟨sb,91,none⟩ (k:Int) W);rw[<-show 19+k*9=19+9*k by omega]at hM;have i1:(k:Int)<4:=by omega
 have d1:decide ((k:Int)<4)=true:=bp i1;obtain⟨W1,a3⟩:=exq (w.alloc (.cells #[.slice none 0 0,.bool false,.bool false] 332));have g1:w.grownBy W1 none:=by rw[a3];exact aC _ _ _
 have r:W1.heap[w.heap.size]?=some (.cells #[.slice none 0 0,.bool false,.bool false] 332 (0,0)):=by rw[a3];exact aH _ _
 replace O:=J O;replace r:=J r;go_upto_region 1 with fail;rw[<-a3];clear a3;go_wp2_with fail;refine(Z hM W1 g1).mono ?_;rintro e f⟨⟨a2,n2,c2,l2,rfl,m1,m2,m3,m4,m5⟩,g2⟩;have ei:=zt (U:=⟨(s.out k).h.fr,(s.out k).h.fr+(s.out k).h.bytes.length⟩) m2 m5;subst ei;obtain⟨q,P⟩:=exq (f.alloc (.cells #[.slice a2 n2 c2,.bool (s.out k).uE,.bool (s.out k).uG] 332));have g3:f.grownBy q none:=by rw[P];exact aC _ _ _
 have a4:q.heap[f.heap.size]?=some (.cells #[.slice a2 n2 c2,.bool (s.out k).uE,.bool (s.out k).uG] 332 (0,0)):=by rw[P];exact aH _ _
 have Q:q.heap.size=f.heap.size+1:=by rw[P];simp
 have cR:=J (jh (Z r) (aj g2 g3));have c9:w.heap.size<f.heap.size:=(aO.1 (jh (Z r) g2)).1;have a8:fw q f.heap.size w.heap.size (λj=>(f.heap.size<=j/\j<=f.heap.size+4)\/j=w.heap.size) (s.out k).sS:=⟨a2,n2,c2,a4,m1.ah g3,λhl y E=>by
  have h1:=m3 y E;have S:y.block<f.heap.size:=by subst E;exact m1.lt hl
  have h3:=(aO.1 (Z r)).1;refine⟨by have:=g1.size;omega,λh=>?_⟩
  obtain h|h:=h<;>omega⟩
 replace a8:=J a8;replace a4:=J a4;clear m1 m2 m3 m4 m5 hM;go_upto_region 2 with fail;rw[<-P];clear P;go_wp2_with (go_at_call 240;refine(Z hF _).mono ?_;rintro e w'⟨rfl,rfl⟩);obtain⟨d,K⟩:=exq ((q.alloc (.cells #[.pointer (some ⟨sb,91,none⟩)] 321)).alloc (.cells #[.int .i64 (k:Int)] 3));rw[<-K];have g6:q.grownBy d none:=by rw[K];exact aS (aS (av _ none) _) _
 have z6:d.heap.size=f.heap.size+3:=by rw[K];simp[Q]
 have f1:d.heap[f.heap.size+1]?=some (.cells #[.pointer (some ⟨sb,91,none⟩)] 321 (0,0)):=by rw[K,eI _ _ _ (by simp[Q]),<-Q];exact aH _ _
 have f2:d.heap[f.heap.size+2]?=some (.cells #[.int .i64 (k:Int)] 3 (0,0)):=by
  have:=aH (q.alloc (.cells #[.pointer (some ⟨sb,91,none⟩)] 321)) (.cells #[.int .i64 (k:Int)] 3);rw[dC,Q]at this;rw[K];exact this
 have db:w.grownBy d none:=aj g1 (aj g2 (aj g3 g6));have de:=(Z a8).ah g6;have dg:=jh (Z cR) g6;clear K hF a8 cR r a4 g6 Q;generalize ej:f.heap.size=D at *;clear ej g2 g3 g1;have e9:w.heap.size<D:=c9;clear c9;refine(wpIn_wide (n:=3)).1 ?_;refine AB (n:=280) rfl (enters_of func280 (by kernel_rfl) rfl) ?_;intro fn;generalize u:Loop.mk _ _ _ _ _ _ _ _=b;have L:d.grownBy ((d.alloc (.deferred (some []))).alloc (.loop b)) none:=aS (aS (av d none) _) _;have b4:((d.alloc (.deferred (some []))).alloc (.loop b)).heap[d.heap.size+1]?=some (.loop b):=by
  have:=aH (d.alloc (.deferred (some []))) (.loop b);rwa[dC]at this
 have b5:((d.alloc (.deferred (some []))).alloc (.loop b)).heap[d.heap.size]?=some (.deferred (some [])):=by
  rw[eI _ _ _ (by simp)];exact aH _ _
 have z8:((d.alloc (.deferred (some []))).alloc (.loop b)).heap.size=d.heap.size+2:=by simp
 generalize (d.alloc (.deferred (some []))).alloc (.loop b)=W8 at *;rw[z6]at b4 b5 z8⊢;clear z6;obtain⟨fa,ek,dk,eo,ep⟩:=H.fl.of.fL;have b6:=H.fl.of;rw[dk]at b6;have b7:=(aU H.aG _).trans H.fl.c3;rw[dk]at b7;have b8:=H.bd.fm.sub (m:=v.lf) (λx hx=>oe _ hx);have dn:rF w N sb w.heap.size D (s.out k) (k:Int) (dz v.lf k) b 0 W8:=⟨by omega,de.ah L,jh f1 L,jh f2 L,b5,b4,jh dg L,aj db L⟩
 clear f1 f2 b4 b5 dg de L db;refine(Ho (D+4) (D+1) (D+2) sb 91 N (D+5) (k:Int) fa v.lf.length ek v.lf (bV sb v) (rF w N sb w.heap.size D (s.out k) (k:Int) (dz v.lf k) b) (λm W T h g=>h.cW g) (λm W h=>⟨(oP h.b1).1,(oP h.b2).1,h.gb.cell b7 (by simp),b6.ah h.gb,b8.aq (ak.of h.gb) (λk _ e=>by cases e)⟩) ?hY _ (by omega) dn).mono ?post;case post=>
  rintro e q⟨⟨v3,rfl⟩,h⟩;clear dn b8 b6 b7 eo ep;obtain⟨ew,U,a9,bb,hd,V,Y,hg⟩:=h;have ds:D+4<q.heap.size:=(aO.1 V).1;have ey:b.pending=none:=by rw[<-u]
  refine⟨b.pending,_,run_endLoop V (by rw[<-u];simp),?_⟩
  obtain⟨F,bj⟩:∃W,W=q.putObj (D+4) (.loop {b with state:=.exhausted}):=⟨_,rfl⟩
  rw[<-bj,ey];have t:∀i,i≠D+4->F.heap[i]?=q.heap[i]? :=λi hi=>by rw[bj];exact World.putObj_heap_other hi
  have g4:q.grownBy F (some (D+4)):=by rw[bj];exact grownBy_putObj' q _ _
  have ca:F.heap[D+3]?=some (.deferred (some [])):=by rw[t _ (by omega)];exact hd
  have br:=(t w.heap.size (by omega)).trans Y;obtain⟨z,B,c4,q1,q2,q3⟩:=U.put g4 (by omega) (.inl ⟨by omega,by omega⟩);obtain⟨⟨p0,p1,p2⟩,-⟩:=qo q1;obtain⟨⟨fb,fc,ff⟩,z0,z1,z2⟩:=qo br;rw[<-xr s v.lf k H.az]at p1 p2 q1 q2 q3;clear bj a9 bb hd V Y U;replace t:=J t;replace u:=J u;replace ca:=J ca;replace q1:=J q1;replace q3:=J q3;replace br:=J br;replace H:=J H;dsimp only
  gi_wp2;go_wp2;obtain⟨M,al⟩:=exq (((F.setCell ⟨w.heap.size,0,none⟩ (.slice z B c4)).setCell ⟨w.heap.size,1,none⟩ (.bool (s.due k).e)).setCell ⟨w.heap.size,2,none⟩ (.bool (s.due k).g));rw[<-al];have ez:M.heap[D+3]?=some (.deferred (some [])):=by
   rw[al,cY _ _ _ _ (by simp<;>omega),cY _ _ _ _ (by simp<;>omega),cY _ _ _ _ (by simp<;>omega)];exact Z ca
  have eK:M.heap[w.heap.size]?=some (.cells #[.slice z B c4,.bool (s.due k).e,.bool (s.due k).g] 332 (0,0)):=by
   rw[al];have h1:=heap_set (o:=0) (Z br) (.slice z B c4);have S:=heap_set (o:=1) h1 (.bool (s.due k).e);have h3:=heap_set (o:=2) S (.bool (s.due k).g);exact h3
  have g5:F.grownBy M (some w.heap.size):=by rw[al];exact aD (aD (aD (av F _) ⟨w.heap.size,0,none⟩ (.slice z B c4) (.inr rfl)) ⟨w.heap.size,1,none⟩ (.bool (s.due k).e) (.inr rfl)) ⟨w.heap.size,2,none⟩ (.bool (s.due k).g) (.inr rfl)
  clear al;refine⟨by simp,.inl ⟨_,_,rfl,run_takeDeferred ez,?_⟩⟩
  have g7:=grownBy_putObj' M (D+3) (.deferred none);have eL:(M.putObj (D+3) (.deferred none)).heap[w.heap.size]?=some (.cells #[.slice z B c4,.bool (s.due k).e,.bool (s.due k).g] 332 (0,0)):=by rw[World.putObj_heap_other (by omega)];exact eK
  generalize M.putObj (D+3) (.deferred none)=W7 at *;obtain⟨⟨s0,s1,s2⟩,-⟩:=qo eL;have eV:∀y,(s.due k).l≠[]->z=some y->y.block<F.heap.size:=λy hl hy=>by subst hy;exact q2.lt hl
  have e3:ba W7 z B c4 (s.due k).l:=q2.cW (λhl y E=>by
   have h1:=eV y hl E;have S:=(Z q3 hl y E).2;rw[g7.block _ (by have:=g5.size;omega) (λe=>S (.inl (by have:y.block=D+3:=aJ e;omega))),g5.block _ h1 (λe=>S (.inr (aJ e)))])
  refine⟨.agg #[.slice z B c4,.bool (s.due k).e,.bool (s.due k).g],?_,⟨z,B,c4,rfl,e3,λhl y E=>(Z q3 hl y E).1⟩,?_⟩
  ·simp[results,results207,go_sem, *]
  exact cA (cA (cA hg g4 (λj e=>by cases e;left;omega)) g5 (λj e=>by cases e;left;omega)) g7 (λj e=>by cases e;left;omega)
 case hY=>
  intro m W h hm;suffices e4:∀R:Ending->World->Prop,(∀T,rF w N sb w.heap.size D (s.out k) (k:Int) (dz v.lf k) b (m+1) T->ak W T (λi=>i<D+5)->R (.returned (.bool true)) T)->
   YieldAt Fence.wide 1 prog (D+4) #[.agg (pA (eT (dz v.lf k) m))] W R from e4 _ (λT h C=>⟨rfl,h,C⟩)
  intro R cf;replace cf:=J cf;have du:(eT (dz v.lf k) m).x.ok:=by
   have dx:=uA hm;unfold dz at dx;obtain⟨x,hx,cg⟩:=og.1 dx;split at cg;obtain⟨a,n,c,e,hp,-⟩:=b8 x hx;exact hp.1 _ cg;cases cg
  have bt:=uM (s.out k) (dz v.lf k) m hm;have e5:=AI (s.out k) (dz v.lf k) m (by omega);have fo:=AJ (s.out k) (dz v.lf k) m (by omega);refine⟨b.fn,_,b.assign,b.body,run_yield h.ku (by rw[<-u];rfl),roundIn_of_wpIn trivial ?_⟩
  obtain⟨r1,r⟩:=exq b;have e6:r1.state=.ready:=by rw[r,<-u]
  rw[<-r]at h;have e7:Hid (r1=b):=r;rw[<-u];dsimp only
  clear r;replace u:=J u;obtain⟨p,hp⟩:=exq (eT (dz v.lf k) m);rw[<-hp]at du bt⊢;clear hp;replace H:=J H;obtain⟨⟨xl,xh⟩,pe,pg⟩:=p;unfold pA;gi_wp2;obtain⟨G,bx⟩:=exq (W.alloc (.cells #[.int .u64 xl,.int .u64 xh,.bool pe,.bool pg] 377));have ga:W.grownBy G none:=by rw[bx];exact aC _ _ _
  have dE:G.heap[W.heap.size]?=some (.cells #[.int .u64 xl,.int .u64 xh,.bool pe,.bool pg] 377 (0,0)):=by rw[bx];exact aH _ _
  rw[<-bx];clear bx;have hX:D+4<W.heap.size:=(aO.1 h.ku).1;replace h:=h.cW ga;refine⟨_,run_beginRound h.ku e6,?_⟩
  have ds:D+4<G.heap.size:=(aO.1 h.ku).1;obtain⟨A,ax⟩:∃A,A=G.putObj (D+4) (.loop {r1 with state:=.busy}):=⟨_,rfl⟩
  rw[<-ax];have t:∀i,i≠D+4->A.heap[i]?=G.heap[i]? :=λi hi=>by rw[ax];exact World.putObj_heap_other hi
  have bz:A.heap[D+4]?=some (.loop {r1 with state:=.busy}):=by rw[ax];exact World.putObj_heap_same ds
  have a0:G.grownBy A (some (D+4)):=by rw[ax];exact grownBy_putObj' G _ _
  clear ax;obtain⟨ew,U,a9,bb,hd,V,Y,hg⟩:=h;have dG:=U.put a0 (by omega) (.inl ⟨by omega,by omega⟩);have bL:=(t (D+1) (by omega)).trans a9;have bM:=(t (D+2) (by omega)).trans bb;have bP:=(t (D+3) (by omega)).trans hd;have bS:=(t w.heap.size (by omega)).trans Y;have b0:=(t W.heap.size (by omega)).trans dE;have fq:D+5<=A.heap.size:=by have:=a0.size;omega
  have a1:=J (AK A D w.heap.size _ (nH (s.out k) (dz v.lf k) m) ⟨⟨xl,xh⟩,pe,pg⟩ dG (.inl ⟨by omega,by omega⟩) (λj hj=>by obtain h|h:=hj<;>omega) (by omega) e5 du (by omega));rw[<-bt]at a1;unfold pA at a1;simp only at a1;obtain⟨x0,x1,x2,x3⟩:=oQ b0;clear t U a9 bb hd V Y dE dG;replace bz:=J bz;replace bP:=J bP;replace bL:=J bL;replace bM:=J bM;replace bS:=J bS;replace b0:=J b0;replace bt:=J bt;generalize W.heap.size=X at *;gi_wp2;refine⟨trivial,(CallsIn.inRound (D+4) (sg.2 (Z a1))).mono ?_⟩
  rintro e Wc⟨rfl,ch,gc⟩;have I:∀i,i<A.heap.size->i≠D->Wc.heap[i]?=A.heap[i]? :=λi hi h=>gc.block i hi (λe=>h (aJ e))
  have b3:=(I (D+4) (by omega) (by omega)).trans (Z bz);have cj:=(I (D+3) (by omega) (by omega)).trans (Z bP);have cp:=(I (D+1) (by omega) (by omega)).trans (Z bL);have cv:=(I (D+2) (by omega) (by omega)).trans (Z bM);have cw:=(I w.heap.size (by omega) (by omega)).trans (Z bS);have cx:w.grownBy Wc none:=cA (cA hg a0 (λj e=>by cases e;left;omega)) gc (λj e=>by cases e;left;omega);have cy:ak W Wc (λi=>i<D+5):=(((ak.of ga).trans (ak.of a0)).trans (ak.of gc)).mono (λk _ e=>by
   obtain(e|e)|e:=e
   cases e;have:=aJ e;omega
   ·have:=aJ e;omega)
  clear a1 gc a0 ga hg bz bP bL bM bS b0 x0 x1 x2 x3;replace b3:=J b3;replace cj:=J cj;replace cp:=J cp;replace cv:=J cv;replace cw:=J cw;replace ch:=J ch;replace cx:=J cx;replace cy:=J cy;replace I:=J I;gi_wp2;refine⟨_,_,run_endRound none (Z b3),Z cf _ ?_ ?_⟩
  have e8:D+4<Wc.heap.size:=(aO.1 (Z b3)).1;refine⟨by omega,(Z ch).put (grownBy_putObj' _ _ _) (by omega) (.inl ⟨by omega,by omega⟩),?_,?_,?_,?_,?_,?_⟩
  rw[World.putObj_heap_other (by omega)];exact Z cp;rw[World.putObj_heap_other (by omega)];exact Z cv;rw[World.putObj_heap_other (by omega)];exact Z cj;rw[World.putObj_heap_same e8,Z e7,<-Z u];rfl;rw[World.putObj_heap_other (by omega)];exact Z cw;exact cA (Z cx) (grownBy_putObj' _ _ _) (λj e=>by cases e;left;omega);exact((Z cy).trans (ak.of (grownBy_putObj' _ (D+4) _))).mono (λk _ e=>e.elim id (λe=>by have:=aJ e;omega))
theorem HK(w:World)(b sb:Nat)(cs:Array Value)(v:aQ)(s:Sd)(H:bg w b sb cs v s)(k:Nat)(f:k<4)(i:(s.out k).h.nice)(hl:(s.out k).h.ag.length+(dz v.lf k).length<=900000):
 Calls prog 207 #[.pointer (some ⟨sb,0,none⟩),.int .i64 (k:Int)] w λe d=>(∃a n c,e=.returned (.agg #[.slice a n c,.bool (s.due k).e,.bool (s.due k).g])/\ba d a n c (s.due k).l/\((s.due k).l≠[]->∀y,a=some y->w.heap.size<=y.block))/\w.grownBy d none:=
 sg.1 (HJ w b sb cs v s H k f i hl)
