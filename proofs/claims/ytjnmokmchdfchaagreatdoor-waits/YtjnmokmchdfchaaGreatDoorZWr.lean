import Derived.Test.YtjnmokmchdfchaaGreatDoorZWp
set_option maxRecDepth 1000000
set_option maxHeartbeats 0
set_option linter.all false
namespace Go.Proofs.YtjnmokmchdfchaaGreatDoor
open Go.RowKit Tryz
attribute[local go_sem↓]Go.wp_at_zero Go.wp_at_succ
variable{p:Int}{b i l m n:Nat}{P S:Nat->Prop}{a:Option Addr}{T:TypeId}{x y z:Value}{V W w:World}
def mE(r:Rs)(v:Value):Array Value:= #[.int .i64 r.e,.int .i64 r.at_,.int .i64 r.n,.int .u64 r.code,.string (strOfNums r.data),v]
def vF(w:World)(xb sb:Nat)(A:Nat->Prop)(r:Rs×aK)(e:Ending)(b:World):Prop:=
 ∃a n c,e=.returned (.agg (mE r.1 (.slice a n c)))/\fx b w.heap.size (.slice a n c) r.1.eY/\∃d,cE b xb sb r.2 d/\(∀k,d k->A k\/w.heap.size<=k)/\ak w b A/\∀j,(Value.slice a n c).ownBlock=some j->¬d j
theorem M5(a c d f g a5:Value):ak w ((((((w.setCell ⟨b,0,none⟩ a).setCell ⟨b,1,none⟩ c).setCell ⟨b,2,none⟩ d).setCell ⟨b,3,none⟩ f).setCell ⟨b,4,none⟩ g).setCell ⟨b,5,none⟩ a5) (λj=>j=b):=
 (ak.of (aD (aD (aD (aD (aD (aD (av w (some b)) ⟨b,0,none⟩ a (.inr rfl)) ⟨b,1,none⟩ c (.inr rfl)) ⟨b,2,none⟩ d (.inr rfl)) ⟨b,3,none⟩ f (.inr rfl)) ⟨b,4,none⟩ g (.inr rfl)) ⟨b,5,none⟩ a5 (.inr rfl))).mono (λk _ e=>(aJ e).symm)
theorem M6{g i j:Value}(h:w.heap[b]?=some (.cells #[x,y,z,g,i,j] T (0,0)))(a c d e f a5:Value):((((((w.setCell ⟨b,0,none⟩ a).setCell ⟨b,1,none⟩ c).setCell ⟨b,2,none⟩ d).setCell ⟨b,3,none⟩ e).setCell ⟨b,4,none⟩ f).setCell ⟨b,5,none⟩ a5).heap[b]?=some (.cells #[a,c,d,e,f,a5] T (0,0)):=
 heap_set (heap_set (heap_set (heap_set (heap_set (heap_set h a) c) d) e) f) a5
theorem M7:(prog.info? 46).map (·.size)=some 6:=by kernel_rfl
theorem vF.of{d:World}{r:Rs×aK}(g:w.grownBy W none)(p:∀k,S k->k<w.heap.size)(f:fx V W.heap.size (.slice a n m) r.1.eY)(s:cE V i l r.2 P)(h:∀k,P k->S k\/W.heap.size<=k)(C:ak W V S)(t:∀j,(Value.slice a n m).ownBlock=some j->¬P j){R:Nat}(z:w.heap.size<=R)(A:R<W.heap.size)(b:ak V d (λk=>k=R))(u:x=.agg (mE r.1 (.slice a n m))):vF w i l S r (.returned x) d:=by
 refine⟨a,n,m,by rw[u],(f.aq b (λk e e2=>?_)).low g.size,P,s.other b (λk _ e v=>?_),λk c=>(h k c).imp id (λq=>bC g.size q),?_,t⟩
 have:=(f.lt k e).1;omega;obtain q|q:=h k v
 have:=p k q;omega;omega;refine⟨b.os.trans (C.os.trans g.os),b.tape.trans (C.tape.trans g.tape),b.output.trans (C.output.trans g.output),bC g.size (bC C.size b.size),λk c y=>?_⟩
 rw[b.block k (by have:=C.size;omega) (by omega),C.block k (by omega) y];exact g.block k c (by simp)
theorem M8(w:World)(xb sb:Nat)(st:aK)(A:Nat->Prop)(n:Nat)(h:cE w xb sb st A)(E:eh n st)(F:n<=100000)(G:Laid w)(q:gK)(H:aR q.code)(hd:q.data.size<=1000000):
 Calls prog 28 #[.pointer (some ⟨xb,0,none⟩),.agg (dc q)] w (vF w xb sb A (st.do q)):=by
 obtain⟨d,f⟩:=exq ((w.alloc (.cells (dc q) 32)).alloc (.cells #[.int .i64 0,.int .i64 0,.int .i64 0,.int .u64 0,.string ⟨#[]⟩,.slice none 0 0] 46));have t:w.grownBy d none:=by rw[f];exact aj (aC _ _ none) (aC _ _ none)
 have P:d.heap.size=w.heap.size+2:=by rw[f,dC,dC]
 have u:d.heap[w.heap.size]?=some (.cells (dc q) 32 (0,0)):=by rw[f];exact(heap_alloc_old _ _ (by rw[dC];omega)).trans (aH _ _)
 have b1:d.heap[w.heap.size+1]?=some (.cells #[.int .i64 0,.int .i64 0,.int .i64 0,.int .u64 0,.string ⟨#[]⟩,.slice none 0 0] 46 (0,0)):=by rw[f];have:=aH (w.alloc (.cells (dc q) 32)) (.cells #[.int .i64 0,.int .i64 0,.int .i64 0,.int .u64 0,.string ⟨#[]⟩,.slice none 0 0] 46);rw[dC]at this;exact this
 have s:=Mh d xb sb st A n (h.ah t) E F (G.gb t (by simp)) q H hd;have B:=h.lt;have x:∀b,ak d b A->b.heap[w.heap.size+1]?=some (.cells #[.int .i64 0,.int .i64 0,.int .i64 0,.int .u64 0,.string ⟨#[]⟩,.slice none 0 0] 46 (0,0)):=λb C=>(C.block _ (by omega) (λe=>by have:=B _ e;omega)).trans b1
 obtain⟨d0,d1,d2,d3,d4⟩:d.cell? ⟨w.heap.size,0,none⟩=some (.int .i64 q.op)/\d.cell? ⟨w.heap.size,1,none⟩=some (.int .i64 q.stream)/\d.cell? ⟨w.heap.size,2,none⟩=some (.int .i64 q.n)/\d.cell? ⟨w.heap.size,3,none⟩=some (.int .u64 q.code)/\d.cell? ⟨w.heap.size,4,none⟩=some (.string q.data):=by simp[World.cell?,u,dc]
 obtain⟨op,stream,I,code,data⟩:=q;simp only at *;unfold dc at *;obtain⟨r,D⟩:=exq (st.do ⟨op,stream,I,code,data⟩);rw[<-D]at s⊢;clear D;replace u:=J u;replace b1:=J b1;replace x:=J x;replace s:=J s;have K:=J (λ(b L:World)(g:Nat->Prop)(a:Option Addr)(m c:Nat)(i:fx b d.heap.size (.slice a m c) r.1.eY)(l:cE b xb sb r.2 g)(y:∀k,g k->A k\/d.heap.size<=k) (C:ak d b A) (z:∀j,(Value.slice a m c).ownBlock=some j->¬g j) (M:ak b L (λk=>k=w.heap.size+1)) (v:Value) (N:v=.agg (mE r.1 (.slice a m c)))=>vF.of (R:=w.heap.size+1) t B i l y C z (by omega) (by omega) M N);replace h:=J h;go_enter func28,ntmps28;go_upto_region 1 with fail;rw[<-f];clear f;go_wp2_with (go_at_call 60;refine(Z s).mono ?_;rintro e b⟨a,m,c,rfl,i,g,l,y,C,z⟩;have p:=Z x b C;obtain⟨Q,S,T,U,V,W⟩:b.cell? ⟨w.heap.size+1,0,none⟩=some (.int .i64 0)/\b.cell? ⟨w.heap.size+1,1,none⟩=some (.int .i64 0)/\b.cell? ⟨w.heap.size+1,2,none⟩=some (.int .i64 0)/\b.cell? ⟨w.heap.size+1,3,none⟩=some (.int .u64 0)/\b.cell? ⟨w.heap.size+1,4,none⟩=some (.string ⟨#[]⟩)/\b.cell? ⟨w.heap.size+1,5,none⟩=some (.slice none 0 0):=(by simp[World.cell?,p]);have fz:∀o,b.frozen? ⟨w.heap.size+1,o,none⟩=false:=(λo=>by simp[World.frozen?,p]);replace p:=J p;replace l:=J l;replace i:=J i);have O:=M6 (Z p) (.int .i64 r.1.e) (.int .i64 r.1.at_) (.int .i64 r.1.n) (.int .u64 r.1.code) (.string (strOfNums r.1.data)) (.slice a m c);exact cz (results_cell_row results28 _ _ (w.heap.size+1) 46 _ (0,0) _ (by rfl) O underlying46 (by rfl) M7) rfl (Z K _ _ g a m c (Z i) (Z l) y C z (M5 _ _ _ _ _ _) _ rfl)
def ym(key:List Int)(f:Bool)(l:List Int)(c:Nat)(bad d:Value)(e:Ending)(g:World):Prop:=
 (gV key (sd f) l/\∃a b,e=.returned (.tuple #[.int .u64 (bN l),.slice a (l.length-16) b,d])/\bh g a (l.length-16) b (eu key (sd f) (bN l) (bQ l))/\∀x,a=some x->c<=x.block)\/
   (¬gV key (sd f) l/\e=.returned (.tuple #[.int .u64 0,.slice none 0 0,bad]))
theorem M9(w:World)(key:List Int)(f:Bool)(a:Option Addr)(m cap:Nat)(l:List Int)(i:di key)(d:bh w a m cap l):
 Calls prog 135 #[.agg (b9 key),.bool f,.slice a m cap] w λe b=>ym key f l w.heap.size (.iface 34 (.int .i64 4)) .nilIface e b/\w.grownBy b none:=by
 by_cases hl:l.length<16\/300<l.length;refine(Cp key f a m cap l w d hl).mono ?_;rintro e b⟨rfl,g⟩;exact⟨.inr ⟨λh=>by have:=h.1;have:=h.2.1;omega,rfl⟩,g⟩
 refine(Cv key f a m cap l w i d (by omega) (by omega)).mono ?_;rintro e b⟨h,g⟩;refine⟨?_,g⟩
 obtain⟨c,j,k,rfl,n,p,-⟩|⟨c,rfl⟩:=h
 exact .inl ⟨c,j,k,rfl,n,p⟩;exact .inr ⟨c,rfl⟩
theorem Na(w:World)(key:List Int)(f:Bool)(a:Option Addr)(m cap:Nat)(l:List Int)(h:di key)(k:bh w a m cap l):
 Calls prog 102 #[.agg (b9 key),.bool f,.slice a m cap] w λe i=>ym key f l w.heap.size (.iface 34 (.int .i64 4)) .nilIface e i/\w.grownBy i none:=by
 have n:=mY h;have c:=aH w (.cells (b9 key) 24);have p:=J (M9 (w.alloc (.cells (b9 key) 24)) key f a m cap l h (k.ah (aC _ _ _)));generalize b9 key=K at *;replace c:=J c;go_enter func102,ntmps102;go_wp2_with (refine oy _ (by rfl) (by rfl) _ (by rfl) K ?_ n ?_;exact Z c);refine(Z p).mono ?_;rintro e u⟨⟨b,q,r,rfl,d,s⟩|⟨b,rfl⟩,j⟩
 ·have g:=J b;clear b;replace d:=J d;go_wp2_with fail;go_ret3;exact⟨.inl ⟨Z g,q,r,rfl,Z d,λx t=>(by have:=s x t;rw[dC]at this;omega)⟩,aj (aC _ _ _) j⟩
 have g:=J b;clear b;go_wp2_with fail;go_ret3;exact⟨.inr ⟨Z g,rfl⟩,aj (aC _ _ _) j⟩
theorem Nb(w:World)(key:List Int)(f:Bool)(a:Option Addr)(m cap:Nat)(l:List Int)(B:di key)(s:Laid w)(p:bh w a m cap l)(hl:l.length<=50000000):
 Calls prog 61 #[.agg (b9 key),.bool f,.slice a m cap] w λe C=>ym key f l w.heap.size (.int .i64 4) (.int .i64 0) e C/\w.grownBy C none:=by
 have G:=mY B;obtain⟨D,q⟩:=exq (w.alloc (.cells (b9 key) 24));have d:w.grownBy D none:=by rw[q];exact aC _ _ _
 have t:D.heap[w.heap.size]?=some (.cells (b9 key) 24 (0,0)):=by rw[q];exact aH _ _
 have H:=J (p.ah d);replace t:=J t;have I:=J (λ(a:Option Addr)(m cap:Nat)(W:World)(p:bh W a m cap l)=>Na W key f a m cap l B p);generalize b9 key=K at *;clear p;have E:=J (s.gb d (by simp));have R:=s.lt;clear s;go_enter func61,ntmps61;go_upto_region 1 with fail;rw[<-q];clear q;go_wp2_with (first|(refine tY (by rfl) _ (by rfl) _ _ _ l (by rfl) (Z H) (by omega) ?_;intro S c2 T b c;replace b:=J b)|(refine oy _ (by rfl) (by rfl) _ (by rfl) K ?_ G ?_;exact iq (Z t) c));refine(Z I _ _ _ _ (Z b).fB).mono ?_;rintro e U⟨⟨n,L,M,rfl,u,F⟩|⟨n,rfl⟩,g⟩
 ·have v:=J n;clear n;replace u:=J u;have y:=J ((Z b).ah g);go_wp2_with fail;refine(qm _ _ _ l _ _ (Z y) (by omega)).mono ?_;rintro e z⟨rfl,h⟩;have N:=d.size;have i:=J (Z b).lt;have k:Laid z:=(((Z E).gb c (by simp)).gb g (by simp)).gb h (λe=>by have:=Z i _ e;omega);replace k:=J k;go_wp2_with fail;refine(vq _).mono ?_;rintro e O⟨rfl,r⟩;go_wp2_with fail;go_ret3;have P:=(Z u).gb h (λj e=>.inr (.inr (λx A=>by have V:=F x A;have X:=Z i _ e;have Q:=c.size;omega)));exact⟨.inl ⟨Z v,L,M,rfl,P.ah r,λx A=>(by have:=F x A;have Q:=c.size;omega)⟩,aj (cA (aj (aj d c) g) h (λj e=>.inl (by have:=Z i _ e;omega))) r⟩
 have v:=J n;clear n;have y:=J ((Z b).ah g);go_wp2_with fail;refine(qm _ _ _ l _ _ (Z y) (by omega)).mono ?_;rintro e z⟨rfl,h⟩;have N:=d.size;have i:=J (Z b).lt;have k:Laid z:=(((Z E).gb c (by simp)).gb g (by simp)).gb h (λe=>by have:=Z i _ e;omega);replace k:=J k;go_wp2_with fail;refine(xL 4 _ (Z k)).mono ?_;rintro e O⟨rfl,r⟩;go_wp2_with fail;go_ret3;exact⟨.inr ⟨Z v,rfl⟩,aj (cA (aj (aj d c) g) h (λj e=>.inl (by have:=Z i _ e;omega))) r⟩
def jL(c n:Int):Nat:=((if c<0 then-(c+1)else c) %n).toNat
theorem l7(c:Int)(a:0<p):(jL c p:Int)<p:=by
 unfold jL;have b:=Int.emod_nonneg (if c<0 then-(c+1)else c) (show p≠0 by omega);have d:=Int.emod_lt_of_pos (if c<0 then-(c+1)else c) a;omega
theorem l8(c n:Int)(w:World)(d: -9223372036854775808<=c)(f:c<=9223372036854775807)(j:0<n)(k:n<=1000000000):
 Calls prog 23 #[.int .i64 c,.int .i64 n] w λe g=>e=.returned (.int .i64 (jL c n:Int))/\g=w:=by
 have a:∀x:Int,-9223372036854775808<=x->x<=9223372036854775807->IntKind.i64.wrap x=x:=λx d f=>by simp[IntKind.wrap,IntKind.bits,IntKind.signed];omega
 replace a:=J a;have l:(n==0)=false:=by simp;omega
 have hp:∀x:Int,(0<=x)->x.tmod n=((x %n).toNat:Int):=λx h=>by
  rw[Int.tmod_eq_emod_of_nonneg h];have:=Int.emod_nonneg x (show n≠0 by omega);omega
 replace hp:=J hp;by_cases b:c<0
 ·have i:decide (c<0)=true:=by simp[b]
  have e1:=Z a (c+1) (by omega) (by omega);have e2:=Z a (-(c+1)) (by omega) (by omega);have m:=Z a (-1+ -c) (by omega) (by omega);go_enter func23,ntmps23;go_wp2_with fail;go_ret;have hi:=Z hp (-(c+1)) (by omega);rw[Int.neg_tmod]at hi;refine⟨?_,rfl⟩
  rw[hi];unfold jL;rw[aM b];rfl
 have i:decide (c<0)=false:=by simp[b]
 go_enter func23,ntmps23;go_wp2_with fail;go_ret;have hi:=Z hp c (by omega);refine⟨?_,rfl⟩
 unfold jL;rw[ay (show¬c<0 by omega)];rw[<-hi,Int.tmod_eq_emod_of_nonneg (show(0:Int)<=c by omega)];rfl
