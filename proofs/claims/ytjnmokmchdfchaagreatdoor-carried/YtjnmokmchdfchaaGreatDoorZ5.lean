import Derived.Test.YtjnmokmchdfchaaGreatDoorZ1
import Derived.Test.YtjnmokmchdfchaaGreatDoorZ2
set_option maxRecDepth 1000000
set_option maxHeartbeats 8000000
set_option linter.all false
namespace Go.Proofs.YtjnmokmchdfchaaGreatDoor
open Go.RowKit Tryz
attribute[local go_sem↓]Go.wp_at_zero Go.wp_at_succ
variable{X:List Rg}{i k n:Nat}{a:Option Addr}{w:World}
theorem H7(w:World)(sb m:Nat)(o:Ot)(T:jU w sb m o)(k:Int)(x:Rg)(g:Bool):
 Calls prog 243 #[.pointer (some ⟨sb,m,none⟩),.int .i64 k,.agg #[.int .u64 x.lo,.int .u64 x.hi,.bool g,.bool true]] w λe q=>e=.returned (.agg #[.int .i64 4,.int .i64 k,.int .u64 o.aA,.int .u64 o.code,.bool false,.string ⟨#[]⟩,.slice none 0 0])/\w.grownBy q none:=by
 obtain⟨c3,c4,c5,c6,c7,c8,-,-⟩:=T;obtain⟨n,p⟩:=x;obtain⟨c,d⟩:=exq (w.alloc (.cells #[.int .u64 n,.int .u64 p,.bool g,.bool true] 377));have h:w.grownBy c none:=by rw[d];exact aH _ _ _
 have i:c.heap[w.heap.size]?=some (.cells #[.int .u64 n,.int .u64 p,.bool g,.bool true] 377 (0,0)):=by rw[d];exact aM _ _
 have p3:c.cell? ⟨w.heap.size,2+1,none⟩=some (.bool true):=by simp[World.cell?,i]
 have r:c.cell? ⟨w.heap.size,3,none⟩=some (.bool true):=p3;have d3:=h.cell c3 (by simp);have d8:=h.cell c8 (by simp);clear c3 c4 c5 c6 c7 c8;generalize o.aA=aA at *;generalize o.code=code at *;replace i:=J i;have j:c.heap.size=w.heap.size+1:=by rw[d];simp
 obtain⟨a,f⟩:=exq (c.alloc (.cells #[.int .i64 0,.int .i64 0,.int .u64 0,.int .u64 0,.bool false,.string ⟨#[]⟩,.slice none 0 0] 158));have l:c.grownBy a none:=by rw[f];exact aH _ _ _
 have b:a.heap[w.heap.size+1]?=some (.cells #[.int .i64 0,.int .i64 0,.int .u64 0,.int .u64 0,.bool false,.string ⟨#[]⟩,.slice none 0 0] 158 (0,0)):=by rw[f,<-j];exact aM _ _
 have s:=l.cell d3 (by simp);have t:=l.cell d8 (by simp);have u:a.cell? ⟨w.heap.size+1,0,none⟩=some (.int .i64 0):=by simp[World.cell?,b]
 have y:a.frozen? ⟨w.heap.size+1,0,none⟩=false:=by simp[World.frozen?,b]
 have z:a.cell? ⟨w.heap.size+1,1,none⟩=some (.int .i64 0):=by simp[World.cell?,b]
 have A:a.frozen? ⟨w.heap.size+1,1,none⟩=false:=by simp[World.frozen?,b]
 have B:a.cell? ⟨w.heap.size+1,2,none⟩=some (.int .u64 0):=by simp[World.cell?,b]
 have z2:a.frozen? ⟨w.heap.size+1,2,none⟩=false:=by simp[World.frozen?,b]
 have C:a.cell? ⟨w.heap.size+1,3,none⟩=some (.int .u64 0):=by simp[World.cell?,b]
 have D:a.frozen? ⟨w.heap.size+1,3,none⟩=false:=by simp[World.frozen?,b]
 have E:a.cell? ⟨w.heap.size+1,4,none⟩=some (.bool false):=by simp[World.cell?,b]
 have F:a.frozen? ⟨w.heap.size+1,4,none⟩=false:=by simp[World.frozen?,b]
 have G:a.cell? ⟨w.heap.size+1,5,none⟩=some (.string ⟨#[]⟩):=by simp[World.cell?,b]
 have H:a.frozen? ⟨w.heap.size+1,5,none⟩=false:=by simp[World.frozen?,b]
 have I:a.cell? ⟨w.heap.size+1,6,none⟩=some (.slice none 0 0):=by simp[World.cell?,b]
 have K:a.frozen? ⟨w.heap.size+1,6,none⟩=false:=by simp[World.frozen?,b]
 replace b:=J b;replace j:=J j;go_enter func243,ntmps243;go_wp2_with fail;rw[<-d];clear d;go_wp2_with fail;rw[<-f];clear f d3 d8 p3 r;go_region;go_wp2_with fail;refine cA (v:=.agg #[.int .i64 4,.int .i64 k,.int .u64 aA,.int .u64 code,.bool false,.string ⟨#[]⟩,.slice none 0 0]) ?_ rfl ⟨rfl,aW (aI (aI (aI (aI (aI (aI (aI (aq h l) _ _ (.inl (b9 _))) _ _ (.inl (b9 _))) _ _ (.inl (b9 _))) _ _ (.inl (b9 _))) _ _ (.inl (b9 _))) _ _ (.inl (b9 _))) _ _ (.inl (b9 _)))⟩;simp[results,results243,go_sem, *]
theorem H9(w:World)(sb d:Nat)(cs:Array Value)(t:TypeId)(ab:Option Addr)(nb cb:Nat)(ac:Option Addr)(nc cc:Nat)(o:Ot)(u:w.heap[sb]?=some (.cells cs t (0,0)))(H:gK w sb d ab nb cb ac nc cc o.h)(T:jU w sb d o)(k:Int)(x:Rg)(m:Bool)(i j:Nat)(hi:i<=j)(hj:j<=o.h.bytes.length)(C:x.lo=o.h.fr+i)(D:x.hi=o.h.fr+j)(aC:∀y,ab=some y->y.block≠sb)(a0:∀y,ac=some y->y.block≠sb):
 Calls prog 243 #[.pointer (some ⟨sb,d,none⟩),.int .i64 k,.agg #[.int .u64 x.lo,.int .u64 x.hi,.bool m,.bool false]] w λe X=>e=.returned (.agg #[.int .i64 5,.int .i64 k,.int .u64 x.lo,.int .u64 0,.bool m,.string (strOfNums ((o.h.bytes.drop i).take (j-i))),.slice none 0 0])/\w.grownBy X (some sb)/\X.heap[sb]?=some (.cells (cs.setIfInBounds (d+3) (.int .u64 (max o.aA x.hi))) t (0,0)):=by
 have a8:sb<w.heap.size:=(aY.1 u).1;obtain⟨c3,c4,c5,c6,c7,c8,-,-⟩:=T;obtain⟨n,f⟩:=x;simp only at C D⊢;obtain⟨p,z⟩:=exq (w.alloc (.cells #[.int .u64 n,.int .u64 f,.bool m,.bool false] 377));have M:w.grownBy p none:=by rw[z];exact aH _ _ _
 have E:p.heap[w.heap.size]?=some (.cells #[.int .u64 n,.int .u64 f,.bool m,.bool false] 377 (0,0)):=by rw[z];exact aM _ _
 have p3:p.cell? ⟨w.heap.size,3,none⟩=some (.bool false):=by simp[World.cell?,E]
 have N:p.heap.size=w.heap.size+1:=by rw[z];simp
 obtain⟨A,F⟩:=exq (p.alloc (.cells #[.int .i64 0,.int .i64 0,.int .u64 0,.int .u64 0,.bool false,.string ⟨#[]⟩,.slice none 0 0] 158));have G:p.grownBy A none:=by rw[F];exact aH _ _ _
 have O:A.heap[w.heap.size+1]?=some (.cells #[.int .i64 0,.int .i64 0,.int .u64 0,.int .u64 0,.bool false,.string ⟨#[]⟩,.slice none 0 0] 158 (0,0)):=by rw[F,<-N];exact aM _ _
 have I:=bA E G;have p1:A.cell? ⟨w.heap.size,1,none⟩=some (.int .u64 f):=by simp[World.cell?,I]
 have K:=bA (bA u M) G;have d3:=G.cell (M.cell c3 (by simp)) (by simp);have f3:A.frozen? ⟨sb,d+3,none⟩=false:=by simp[World.frozen?,K]
 clear c3 c4 c5 c6 c7 c8;replace C:=J C;replace D:=J D;replace E:=J E;replace O:=J O;replace I:=J I;replace K:=J K;replace u:=J u;replace N:=J N;go_enter func243,ntmps243;go_wp2_with fail;rw[<-z];clear z;go_wp2_with fail;rw[<-F];clear F;go_region;obtain⟨P,Q⟩:=exq (if o.aA<f then f else o.aA);rw[<-Q];have R:max o.aA f=P:=by rw[Q];split<;>omega
 replace R:=J R;obtain⟨c,q⟩:=exq ((A.setCell ⟨sb,d+3,none⟩ (.int .u64 P)).drew);rw[<-q];have S:w.grownBy c (some sb):=by rw[q];exact aW (aI (aq (cX M _) (cX G _)) _ _ (.inr rfl))
 have r:c.heap[sb]?=some (.cells (cs.setIfInBounds (d+3) (.int .u64 P)) t (0,0)):=by rw[q];exact heap_set (Z K) _
 have B:c.heap[w.heap.size]?=some (.cells #[.int .u64 n,.int .u64 f,.bool m,.bool false] 377 (0,0)):=by rw[q];exact(dy _ _ _ _ (by show w.heap.size≠sb;omega)).trans (Z I)
 have U:c.heap[w.heap.size+1]?=some (.cells #[.int .i64 0,.int .i64 0,.int .u64 0,.int .u64 0,.bool false,.string ⟨#[]⟩,.slice none 0 0] 158 (0,0)):=by rw[q];exact(dy _ _ _ _ (by show w.heap.size+1≠sb;omega)).trans (Z O)
 have H3:gK c sb d ab nb cb ac nc cc o.h:=by
  obtain⟨Y,a1,a2,a3,a4,a5⟩:=H;rw[aX (Z u)]at Y a1 a2;refine⟨?_,?_,?_,a3.gb S (λj e=>.inr (.inr (λy ey=>by cases e;exact aC y ey))),a4.gb S (λy e e'=>a0 y e (by cases e';rfl)),a5⟩
  rw[aX r];simpa [kE]using Y;rw[aX r];simpa [kE]using a1;rw[aX r];simpa [kE]using a2
 clear Q q H d3 f3 p1;have al:=J (λW(g:c.grownBy W none)=>AB W sb d ab nb cb ac nc cc o.h (H3.ao g) i j hi hj n f (Z C) (Z D));obtain⟨l,hl⟩:=exq ((o.h.bytes.drop i).take (j-i));rw[<-hl]at al;have q0:c.cell? ⟨w.heap.size,0,none⟩=some (.int .u64 n):=by simp[World.cell?,B]
 have q1:c.cell? ⟨w.heap.size,1,none⟩=some (.int .u64 f):=by simp[World.cell?,B]
 have q2:c.cell? ⟨w.heap.size,2,none⟩=some (.bool m):=by simp[World.cell?,B]
 replace B:=J B;replace U:=J U;replace r:=J r;replace hl:=J hl;go_wp2_with fail;go_region_with (first|(go_at_call 285;refine(Z al c.drew (aW (aB _ _))).mono ?_;rintro e b⟨a5,rfl,V,ax,L⟩;have s:c.grownBy b none:=aq (aW (aB _ _)) L;have a:=bA (Z U) s;have a9:=tj (V.ao L);have r0:=s.cell q0 (by simp);have r1:=s.cell q1 (by simp);have r2:=s.cell q2 (by simp);have m0:b.cell? ⟨w.heap.size+1,0,none⟩=some (.int .i64 0):=(by simp[World.cell?,a]);have z0:b.frozen? ⟨w.heap.size+1,0,none⟩=false:=(by simp[World.frozen?,a]);have m1:b.cell? ⟨w.heap.size+1,1,none⟩=some (.int .i64 0):=(by simp[World.cell?,a]);have z1:b.frozen? ⟨w.heap.size+1,1,none⟩=false:=(by simp[World.frozen?,a]);have m2:b.cell? ⟨w.heap.size+1,2,none⟩=some (.int .u64 0):=(by simp[World.cell?,a]);have z2:b.frozen? ⟨w.heap.size+1,2,none⟩=false:=(by simp[World.frozen?,a]);have m3:b.cell? ⟨w.heap.size+1,3,none⟩=some (.int .u64 0):=(by simp[World.cell?,a]);have z3:b.frozen? ⟨w.heap.size+1,3,none⟩=false:=(by simp[World.frozen?,a]);have m4:b.cell? ⟨w.heap.size+1,4,none⟩=some (.bool false):=(by simp[World.cell?,a]);have z4:b.frozen? ⟨w.heap.size+1,4,none⟩=false:=(by simp[World.frozen?,a]);have m5:b.cell? ⟨w.heap.size+1,5,none⟩=some (.string ⟨#[]⟩):=(by simp[World.cell?,a]);have z5:b.frozen? ⟨w.heap.size+1,5,none⟩=false:=(by simp[World.frozen?,a]);have m6:b.cell? ⟨w.heap.size+1,6,none⟩=some (.slice none 0 0):=(by simp[World.cell?,a]);have z6:b.frozen? ⟨w.heap.size+1,6,none⟩=false:=(by simp[World.frozen?,a]);replace a:=J a;replace L:=J L;replace ax:=J ax;replace V:=J V));all_goals go_wp2_with fail
 all_goals
  rw[Z R,<-Z hl]
  refine cA (v:=.agg #[.int .i64 5,.int .i64 k,.int .u64 n,.int .u64 0,.bool m,.string (strOfNums l),.slice none 0 0]) ?_ rfl ⟨rfl,(aI (aI (aI (aI (aI (aI (aI (aq S (cX s _)) _ _ (.inl (b9 _))) _ _ (.inl (b9 _))) _ _ (.inl (b9 _))) _ _ (.inl (b9 _))) _ _ (.inl (b9 _))) _ _ (.inl (b9 _))) _ _ (.inl (b9 _))),(dy _ _ _ _ (by show sb≠w.heap.size+1;omega)).trans ((dy _ _ _ _ (by show sb≠w.heap.size+1;omega)).trans ((dy _ _ _ _ (by show sb≠w.heap.size+1;omega)).trans ((dy _ _ _ _ (by show sb≠w.heap.size+1;omega)).trans ((dy _ _ _ _ (by show sb≠w.heap.size+1;omega)).trans ((dy _ _ _ _ (by show sb≠w.heap.size+1;omega)).trans ((dy _ _ _ _ (by show sb≠w.heap.size+1;omega)).trans (bA (Z r) s)))))))⟩
  simp[results,results243,go_sem, *]
theorem bu.BI(h:bu w a n k X)(b:X≠[]->∀z,a=some z->z.block≠i)(so:Nat)(v:Value):bu (w.setCell ⟨i,so,none⟩ v) a n k X:=
 h.df (λhl z c=>dy _ _ _ _ (b hl z c))
theorem Jf(w:World)(c b:Nat)(cs:Array Value)(t:TypeId)(a:Option Addr)(n cap:Nat)(l:List Rg)(e g:Bool)(x:Rg)(p j:Bool)(E:w.heap[c]?=some (.cells cs t (0,0)))(c0:cs[b]?=some (.slice a n cap))(c1:cs[b+1]?=some (.bool e))(c2:cs[b+2]?=some (.bool g))(hr:bu w a n cap l)(P:l≠[]->∀y,a=some y->y.block≠c)(aC:bh l)(hx:x.ok)(hn:n<=1000000):
 Calls prog 241 #[.pointer (some ⟨c,b,none⟩),.agg #[.int .u64 x.lo,.int .u64 x.hi,.bool p,.bool j]] w λr Q=>r=.returned (.tuple #[])/\
  ∃(f:Option Addr)(A B:Nat)(k:List Rg),w.grownBy Q (some c)/\Q.heap[c]?=some (.cells (((cs.setIfInBounds b (.slice f A B)).setIfInBounds (b+1) (.bool (e&& !p))).setIfInBounds (b+2) (.bool (g&& !j))) t (0,0))/\bu Q f A B k/\(f=a\/∀y,f=some y->w.heap.size<=y.block)/\bh k/\k.length<=l.length+1/\∀m,Sm k m↔Sm l m/\¬(x.lo<=m/\m<x.hi):=by
 have b6:c<w.heap.size:=(aY.1 E).1;obtain⟨u,v⟩:=x;obtain⟨F,R⟩:=exq ((e&& !p));obtain⟨G,S⟩:=exq ((g&& !j));rw[<-R,<-S];have a1:=J (λW=>xG e g p j W);rw[<-R,<-S]at a1;clear R S;obtain⟨d,C⟩:=exq (w.alloc (.cells #[.int .u64 u,.int .u64 v,.bool p,.bool j] 377));have T:w.grownBy d none:=by rw[C];exact aH _ _ _
 have D:d.heap[w.heap.size]?=some (.cells #[.int .u64 u,.int .u64 v,.bool p,.bool j] 377 (0,0)):=by rw[C];exact aM _ _
 have b7:d.heap.size=w.heap.size+1:=by rw[C];simp
 have p0:d.cell? ⟨w.heap.size,0,none⟩=some (.int .u64 u):=by simp[World.cell?,D]
 have p1:d.cell? ⟨w.heap.size,1,none⟩=some (.int .u64 v):=by simp[World.cell?,D]
 have H:=bA E T;have hA:=J (λW(g:d.grownBy W none)=>Aj W c b cs t a n cap l ⟨u,v⟩ (bA H g) c0 (hr.ao (aq T g)) P aC hx hn);replace D:=J D;go_enter func241,ntmps241;go_wp2_with fail;rw[<-C];clear C;go_region_with (first|(go_at_call 281;refine(Z hA d.drew (aW (aB _ _))).mono ?_;rintro e i⟨rfl,f,A,B,k,⟨I,hU⟩,a4,q,U,a8,V⟩));go_wp2_with fail;have a9:w.grownBy i (some c):=aq (cX (aW T) _) I;have s:=hU cs t H;have b8:d.heap.size<=i.heap.size:=I.size;have K:i.heap[w.heap.size]?=some (.cells #[.int .u64 u,.int .u64 v,.bool p,.bool j] 377 (0,0)):=(I.block _ (by show w.heap.size<d.heap.size;omega) (λe=>by cases e;omega)).trans (Z D);have X:k≠[]->∀y,f=some y->y.block≠c:=λhl y e=>by
  obtain q|q:=q
  refine P (λe0=>hl ?_) y (q▸e);cases k with
  |nil=>rfl
  |cons r k=>
   have h1:=(V r.lo).1 ⟨r,by simp,cW _,U.2 r (by simp)⟩;rw[e0]at h1;exact absurd h1.1 (fM _)
  have:d.heap.size<=y.block:=q y e;omega
 have bj:f=a\/∀y,f=some y->w.heap.size<=y.block:=q.imp id (λh y e=>by have:d.heap.size<=y.block:=h y e;omega);obtain⟨br,z⟩:=exq (cs.setIfInBounds b (.slice f A B));rw[<-z]at s;have d1:br[b+1]?=some (.bool e):=by rw[z];simpa [kE]using c1
 have d2:br[b+1+1]?=some (.bool g):=by rw[z,show b+1+1=b+2 from rfl];simpa [kE]using c2
 have m1:i.cell? ⟨c,b+1,none⟩=some (.bool e):=(aX s _).trans d1;have m2:i.cell? ⟨c,b+1+1,none⟩=some (.bool g):=(aX s _).trans d2;have q2:i.cell? ⟨w.heap.size,2,none⟩=some (.bool p):=by simp[World.cell?,K]
 have q3:i.cell? ⟨w.heap.size,2+1,none⟩=some (.bool j):=by simp[World.cell?,K]
 have ch:i.cell? ⟨w.heap.size,3,none⟩=some (.bool j):=q3;have b4:Hid (∀W,i.grownBy W none->∃(L:Option Addr)(n₁ c₁:Nat)(M:List Rg),w.grownBy ((W.setCell ⟨c,b+1,none⟩ (.bool F)).setCell ⟨c,b+1+1,none⟩ (.bool G)) (some c)/\((W.setCell ⟨c,b+1,none⟩ (.bool F)).setCell ⟨c,b+1+1,none⟩ (.bool G)).heap[c]?=some (.cells (((cs.setIfInBounds b (.slice L n₁ c₁)).setIfInBounds (b+1) (.bool F)).setIfInBounds (b+2) (.bool G)) t (0,0))/\bu ((W.setCell ⟨c,b+1,none⟩ (.bool F)).setCell ⟨c,b+1+1,none⟩ (.bool G)) L n₁ c₁ M/\(L=a\/∀y,L=some y->w.heap.size<=y.block)/\bh M/\M.length<=l.length+1/\∀m,Sm M m↔Sm l m/\¬(u<=m/\m<v)):=J (λW Y=>
  ⟨f,A,B,k,aI (aI (aq a9 (cX Y _)) _ _ (.inr rfl)) _ _ (.inr rfl),by rw[<-z];exact heap_set (heap_set (bA s Y) _) _,((a4.ao Y).BI X _ _).BI X _ _,bj,U,a8,V⟩)
 replace s:=J s;replace K:=J K;replace H:=J H;replace E:=J E;replace z:=J z;clear hU hA a4 q bj U a8 V hr aC P X c0 c1 c2 d1 d2 p0 p1 I a9 hx;go_region_with (first|(go_at_call 282;refine(Z a1 _).mono ?_;rintro e w5⟨rfl,g5⟩;have N:i.grownBy w5 none:=(aq (aW (aB _ _)) g5);have O:=bA (Z s) N;have b1:=N.cell m1 (by simp);have b2:=N.cell m2 (by simp);have z1:w5.frozen? ⟨c,b+1,none⟩=false:=(by simp[World.frozen?,O]);have z2:w5.frozen? ⟨c,b+1+1,none⟩=false:=(by simp[World.frozen?,O]);replace O:=J O));all_goals go_wp2_with fail
 all_goals exact eW (et rfl _ _ _) rfl ⟨rfl,Z b4 _ N⟩
