import Derived.Laws.StructEq
import Derived.Test.YtjnmokmchdfchaaGreatDoorX3
import Derived.Test.YtjnmokmchdfchaaGreatDoorX7
set_option maxRecDepth 1000000
set_option maxHeartbeats 0
set_option linter.all false
namespace Go.Proofs.YtjnmokmchdfchaaGreatDoor
open Go.RowKit Tryz
attribute[local go_sem↓]Go.wp_at_zero Go.wp_at_succ
variable{F:Act}{H:Exit->Act->World->Prop}{p q:Int}{K L M:List Int}{D:List Rg}{b i k n:Nat}{u:Oper}{a:Option Addr}{T:TypeId}{x y z:Value}{W v w:World}
def IM(w:World)(sb m:Nat)(o:Ot)(T:j9 w sb m o)(k:Int)(x:Rg)(g:Bool):
 Calls prog 243 #[.pointer (some ⟨sb,m,none⟩),.int .i64 k,.agg #[.int .u64 x.lo,.int .u64 x.hi,.bool g,.bool true]] w λe q=>e=.returned (.agg #[.int .i64 4,.int .i64 k,.int .u64 o.ay,.int .u64 o.code,.bool false,.string ⟨#[]⟩,.slice none 0 0])/\w.grownBy q none:=by
 obtain⟨c3,c4,c5,c6,c7,c8,-,-⟩:=T;obtain⟨n,p⟩:=x;obtain⟨c,d⟩:=exq (w.alloc (.cells #[.int .u64 n,.int .u64 p,.bool g,.bool true] 377));have h:w.grownBy c none:=by rw[d];exact aH _ _ _
 have i:c.heap[w.heap.size]?=some (.cells #[.int .u64 n,.int .u64 p,.bool g,.bool true] 377 (0,0)):=by rw[d];exact aO _ _
 have p3:c.cell? ⟨w.heap.size,2+1,none⟩=some (.bool true):=by simp[World.cell?,i]
 have r:c.cell? ⟨w.heap.size,3,none⟩=some (.bool true):=p3;have d3:=gC_ h c3;have d8:=gC_ h c8;clear c3 c4 c5 c6 c7 c8;generalize o.ay=ay at *;generalize o.code=code at *;replace i:=J i;have j:c.heap.size=w.heap.size+1:=by rw[d];simp
 obtain⟨a,f⟩:=exq (c.alloc (.cells #[.int .i64 0,.int .i64 0,.int .u64 0,.int .u64 0,.bool false,.string ⟨#[]⟩,.slice none 0 0] 158));have l:c.grownBy a none:=by rw[f];exact aH _ _ _
 have b:a.heap[w.heap.size+1]?=some (.cells #[.int .i64 0,.int .i64 0,.int .u64 0,.int .u64 0,.bool false,.string ⟨#[]⟩,.slice none 0 0] 158 (0,0)):=by rw[f,<-j];exact aO _ _
 have s:=gC_ l d3;have t:=gC_ l d8;have u:a.cell? ⟨w.heap.size+1,0,none⟩=some (.int .i64 0):=by simp[World.cell?,b]
 have y:a.frozen? ⟨w.heap.size+1,0,none⟩=false:=fZ_ b;have z:a.cell? ⟨w.heap.size+1,1,none⟩=some (.int .i64 0):=by simp[World.cell?,b]
 have A:a.frozen? ⟨w.heap.size+1,1,none⟩=false:=fZ_ b;have B:a.cell? ⟨w.heap.size+1,2,none⟩=some (.int .u64 0):=by simp[World.cell?,b]
 have z2:a.frozen? ⟨w.heap.size+1,2,none⟩=false:=fZ_ b;have C:a.cell? ⟨w.heap.size+1,3,none⟩=some (.int .u64 0):=by simp[World.cell?,b]
 have D:a.frozen? ⟨w.heap.size+1,3,none⟩=false:=fZ_ b;have E:a.cell? ⟨w.heap.size+1,4,none⟩=some (.bool false):=by simp[World.cell?,b]
 have F:a.frozen? ⟨w.heap.size+1,4,none⟩=false:=fZ_ b;have G:a.cell? ⟨w.heap.size+1,5,none⟩=some (.string ⟨#[]⟩):=by simp[World.cell?,b]
 have H:a.frozen? ⟨w.heap.size+1,5,none⟩=false:=fZ_ b;have I:a.cell? ⟨w.heap.size+1,6,none⟩=some (.slice none 0 0):=by simp[World.cell?,b]
 have K:a.frozen? ⟨w.heap.size+1,6,none⟩=false:=fZ_ b;replace⟨b,j⟩:=bA b j;go_enter func243,ntmps243;go_wp2_with fail;rw[<-d];clear d;go_wp2_with fail;rw[<-f];clear f d3 d8 p3 r;go_region;go_wp2_with fail;refine cF (v:=.agg #[.int .i64 4,.int .i64 k,.int .u64 ay,.int .u64 code,.bool false,.string ⟨#[]⟩,.slice none 0 0]) ?_ rfl ⟨rfl,aV (aK (aK (aK (aK (aK (aK (aK (aq h l) _ _ (.inl (bZ _))) _ _ (.inl (bZ _))) _ _ (.inl (bZ _))) _ _ (.inl (bZ _))) _ _ (.inl (bZ _))) _ _ (.inl (bZ _))) _ _ (.inl (bZ _)))⟩;simp[results,results243,go_sem, *]
def IN(w:World)(sb d:Nat)(cs:Array Value)(t:TypeId)(ab:Option Addr)(nb cb:Nat)(ac:Option Addr)(nc cc:Nat)(o:Ot)(u:w.heap[sb]?=some (.cells cs t (0,0)))(H:gV w sb d ab nb cb ac nc cc o.h)(T:j9 w sb d o)(k:Int)(x:Rg)(m:Bool)(i j:Nat)(hi:i<=j)(hj:j<=o.h.bytes.length)(C:x.lo=o.h.fr+i)(D:x.hi=o.h.fr+j)(aC:∀y,ab=some y->y.block≠sb)(a0:∀y,ac=some y->y.block≠sb):
 Calls prog 243 #[.pointer (some ⟨sb,d,none⟩),.int .i64 k,.agg #[.int .u64 x.lo,.int .u64 x.hi,.bool m,.bool false]] w λe X=>e=.returned (.agg #[.int .i64 5,.int .i64 k,.int .u64 x.lo,.int .u64 0,.bool m,.string (strOfNums ((o.h.bytes.drop i).take (j-i))),.slice none 0 0])/\w.grownBy X (some sb)/\X.heap[sb]?=some (.cells (cs.setIfInBounds (d+3) (.int .u64 (max o.ay x.hi))) t (0,0)):=by
 have a8:sb<w.heap.size:=(aZ.1 u).1;obtain⟨c3,c4,c5,c6,c7,c8,-,-⟩:=T;obtain⟨n,f⟩:=x;simp only at C D⊢;obtain⟨p,z⟩:=exq (w.alloc (.cells #[.int .u64 n,.int .u64 f,.bool m,.bool false] 377));have M:w.grownBy p none:=by rw[z];exact aH _ _ _
 have E:p.heap[w.heap.size]?=some (.cells #[.int .u64 n,.int .u64 f,.bool m,.bool false] 377 (0,0)):=by rw[z];exact aO _ _
 have p3:p.cell? ⟨w.heap.size,3,none⟩=some (.bool false):=by simp[World.cell?,E]
 have N:p.heap.size=w.heap.size+1:=by rw[z];simp
 obtain⟨A,F⟩:=exq (p.alloc (.cells #[.int .i64 0,.int .i64 0,.int .u64 0,.int .u64 0,.bool false,.string ⟨#[]⟩,.slice none 0 0] 158));have G:p.grownBy A none:=by rw[F];exact aH _ _ _
 have O:A.heap[w.heap.size+1]?=some (.cells #[.int .i64 0,.int .i64 0,.int .u64 0,.int .u64 0,.bool false,.string ⟨#[]⟩,.slice none 0 0] 158 (0,0)):=by rw[F,<-N];exact aO _ _
 have I:=bB E G;have p1:A.cell? ⟨w.heap.size,1,none⟩=some (.int .u64 f):=by simp[World.cell?,I]
 have K:=bB (bB u M) G;have d3:=G.cell (gC_ M c3) (by simp);have f3:A.frozen? ⟨sb,d+3,none⟩=false:=fZ_ K;clear c3 c4 c5 c6 c7 c8;replace⟨C,D,E,O,I,K,u,N⟩:=qG C D E O I K u N;go_enter func243,ntmps243;go_wp2_with fail;rw[<-z];clear z;go_wp2_with fail;rw[<-F];clear F;go_region;obtain⟨P,Q⟩:=exq (if o.ay<f then f else o.ay);rw[<-Q];have R:max o.ay f=P:=by rw[Q];split<;>omega
 replace R:=J R;obtain⟨c,q⟩:=exq ((A.setCell ⟨sb,d+3,none⟩ (.int .u64 P)).drew);rw[<-q];have S:w.grownBy c (some sb):=by rw[q];exact aV (aK (aq (dd M _) (dd G _)) _ _ (.inr rfl))
 have r:c.heap[sb]?=some (.cells (cs.setIfInBounds (d+3) (.int .u64 P)) t (0,0)):=by rw[q];exact heap_set (Z K) _
 have B:c.heap[w.heap.size]?=some (.cells #[.int .u64 n,.int .u64 f,.bool m,.bool false] 377 (0,0)):=by rw[q];exact(dF _ _ _ _ (by show w.heap.size≠sb;omega)).trans (Z I)
 have U:c.heap[w.heap.size+1]?=some (.cells #[.int .i64 0,.int .i64 0,.int .u64 0,.int .u64 0,.bool false,.string ⟨#[]⟩,.slice none 0 0] 158 (0,0)):=by rw[q];exact(dF _ _ _ _ (by show w.heap.size+1≠sb;omega)).trans (Z O)
 have H3:gV c sb d ab nb cb ac nc cc o.h:=by
  obtain⟨Y,a1,a2,a3,a4,a5⟩:=H;rw[ba (Z u)]at Y a1 a2;refine⟨?_,?_,?_,a3.gb S (λj e=>.inr (.inr (λy ey=>by cases e;exact aC y ey))),a4.gb S (λy e e'=>a0 y e (by cases e';rfl)),a5⟩
  rw[ba r];simpa [kP]using Y;rw[ba r];simpa [kP]using a1;rw[ba r];simpa [kP]using a2
 clear Q q H d3 f3 p1;have al:=J (λW(g:c.grownBy W none)=>Bk W sb d ab nb cb ac nc cc o.h (H3.an g) i j hi hj n f (Z C) (Z D));obtain⟨l,hl⟩:=exq ((o.h.bytes.drop i).take (j-i));rw[<-hl]at al;have q0:c.cell? ⟨w.heap.size,0,none⟩=some (.int .u64 n):=by simp[World.cell?,B]
 have q1:c.cell? ⟨w.heap.size,1,none⟩=some (.int .u64 f):=by simp[World.cell?,B]
 have q2:c.cell? ⟨w.heap.size,2,none⟩=some (.bool m):=by simp[World.cell?,B]
 replace⟨B,U,r,hl⟩:=eV B U r hl;go_wp2_with fail;go_region_with (first|(go_at_call 285;apply(Z al c.drew (aV (aB _ _))).mono;rintro e b⟨a5,rfl,V,ax,L⟩;have s:c.grownBy b none:=aq (aV (aB _ _)) L;have a:=bB (Z U) s;have a9:=tM (V.an L);have r0:=gC_ s q0;have r1:=gC_ s q1;have r2:=gC_ s q2;have m0:b.cell? ⟨w.heap.size+1,0,none⟩=some (.int .i64 0):=(by simp[World.cell?,a]);have z0:b.frozen? ⟨w.heap.size+1,0,none⟩=false:=(by simp[World.frozen?,a]);have m1:b.cell? ⟨w.heap.size+1,1,none⟩=some (.int .i64 0):=(by simp[World.cell?,a]);have z1:b.frozen? ⟨w.heap.size+1,1,none⟩=false:=(by simp[World.frozen?,a]);have m2:b.cell? ⟨w.heap.size+1,2,none⟩=some (.int .u64 0):=(by simp[World.cell?,a]);have z2:b.frozen? ⟨w.heap.size+1,2,none⟩=false:=(by simp[World.frozen?,a]);have m3:b.cell? ⟨w.heap.size+1,3,none⟩=some (.int .u64 0):=(by simp[World.cell?,a]);have z3:b.frozen? ⟨w.heap.size+1,3,none⟩=false:=(by simp[World.frozen?,a]);have m4:b.cell? ⟨w.heap.size+1,4,none⟩=some (.bool false):=(by simp[World.cell?,a]);have z4:b.frozen? ⟨w.heap.size+1,4,none⟩=false:=(by simp[World.frozen?,a]);have m5:b.cell? ⟨w.heap.size+1,5,none⟩=some (.string ⟨#[]⟩):=(by simp[World.cell?,a]);have z5:b.frozen? ⟨w.heap.size+1,5,none⟩=false:=(by simp[World.frozen?,a]);have m6:b.cell? ⟨w.heap.size+1,6,none⟩=some (.slice none 0 0):=(by simp[World.cell?,a]);have z6:b.frozen? ⟨w.heap.size+1,6,none⟩=false:=(by simp[World.frozen?,a]);replace a:=J a;replace L:=J L;replace ax:=J ax;replace V:=J V));all_goals go_wp2_with fail
 all_goals
  rw[Z R,<-Z hl]
  refine cF (v:=.agg #[.int .i64 5,.int .i64 k,.int .u64 n,.int .u64 0,.bool m,.string (strOfNums l),.slice none 0 0]) ?_ rfl ⟨rfl,(aK (aK (aK (aK (aK (aK (aK (aq S (dd s _)) _ _ (.inl (bZ _))) _ _ (.inl (bZ _))) _ _ (.inl (bZ _))) _ _ (.inl (bZ _))) _ _ (.inl (bZ _))) _ _ (.inl (bZ _))) _ _ (.inl (bZ _))),(dF _ _ _ _ (by show sb≠w.heap.size+1;omega)).trans ((dF _ _ _ _ (by show sb≠w.heap.size+1;omega)).trans ((dF _ _ _ _ (by show sb≠w.heap.size+1;omega)).trans ((dF _ _ _ _ (by show sb≠w.heap.size+1;omega)).trans ((dF _ _ _ _ (by show sb≠w.heap.size+1;omega)).trans ((dF _ _ _ _ (by show sb≠w.heap.size+1;omega)).trans ((dF _ _ _ _ (by show sb≠w.heap.size+1;omega)).trans (bB (Z r) s)))))))⟩
  simp[results,results243,go_sem, *]
def bw.Cn(h:bw w a n k D)(b:D≠[]->∀z,a=some z->z.block≠i)(so:Nat)(v:Value):bw (w.setCell ⟨i,so,none⟩ v) a n k D:=
 h.dr (λhl z c=>dF _ _ _ _ (b hl z c))
def JQ(w:World)(c b:Nat)(cs:Array Value)(t:TypeId)(a:Option Addr)(n cap:Nat)(l:List Rg)(e g:Bool)(x:Rg)(p j:Bool)(E:w.heap[c]?=some (.cells cs t (0,0)))(c0:cs[b]?=some (.slice a n cap))(c1:cs[b+1]?=some (.bool e))(c2:cs[b+2]?=some (.bool g))(hr:bw w a n cap l)(P:l≠[]->∀y,a=some y->y.block≠c)(aC:bl l)(hx:x.ok)(hn:n<=1000000):
 Calls prog 241 #[.pointer (some ⟨c,b,none⟩),.agg #[.int .u64 x.lo,.int .u64 x.hi,.bool p,.bool j]] w λr Q=>r=.returned (.tuple #[])/\
  ∃(f:Option Addr)(A B:Nat)(k:List Rg),w.grownBy Q (some c)/\Q.heap[c]?=some (.cells (((cs.setIfInBounds b (.slice f A B)).setIfInBounds (b+1) (.bool (e&& !p))).setIfInBounds (b+2) (.bool (g&& !j))) t (0,0))/\bw Q f A B k/\(f=a\/∀y,f=some y->w.heap.size<=y.block)/\bl k/\k.length<=l.length+1/\∀m,Sm k m↔Sm l m/\¬(x.lo<=m/\m<x.hi):=by
 have b6:c<w.heap.size:=(aZ.1 E).1;obtain⟨u,v⟩:=x;obtain⟨F,R⟩:=exq ((e&& !p));obtain⟨G,S⟩:=exq ((g&& !j));rw[<-R,<-S];have a1:=J (λW=>yp e g p j W);rw[<-R,<-S]at a1;clear R S;obtain⟨d,C⟩:=exq (w.alloc (.cells #[.int .u64 u,.int .u64 v,.bool p,.bool j] 377));have T:w.grownBy d none:=by rw[C];exact aH _ _ _
 have D:d.heap[w.heap.size]?=some (.cells #[.int .u64 u,.int .u64 v,.bool p,.bool j] 377 (0,0)):=by rw[C];exact aO _ _
 have b7:d.heap.size=w.heap.size+1:=by rw[C];simp
 have p0:d.cell? ⟨w.heap.size,0,none⟩=some (.int .u64 u):=by simp[World.cell?,D]
 have p1:d.cell? ⟨w.heap.size,1,none⟩=some (.int .u64 v):=by simp[World.cell?,D]
 have H:=bB E T;have hA:=J (λW(g:d.grownBy W none)=>AT W c b cs t a n cap l ⟨u,v⟩ (bB H g) c0 (hr.an (aq T g)) P aC hx hn);replace D:=J D;go_enter func241,ntmps241;go_wp2_with fail;rw[<-C];clear C;go_region_with (first|(go_at_call 281;apply(Z hA d.drew (aV (aB _ _))).mono;rintro e i⟨rfl,f,A,B,k,⟨I,hU⟩,a4,q,U,a8,V⟩));go_wp2_with fail;have a9:w.grownBy i (some c):=aq (dd (aV T) _) I;have s:=hU cs t H;have b8:d.heap.size<=i.heap.size:=I.size;have K:i.heap[w.heap.size]?=some (.cells #[.int .u64 u,.int .u64 v,.bool p,.bool j] 377 (0,0)):=(I.block _ (by show w.heap.size<d.heap.size;omega) (λe=>by cases e;omega)).trans (Z D);have X:k≠[]->∀y,f=some y->y.block≠c:=λhl y e=>by
  obtain q|q:=q
  refine P (λe0=>hl ?_) y (q▸e);cases k with
  |nil=>rfl
  |cons r k=>
   have h1:=(V r.lo).1 ⟨r,by simp,cS _,U.2 r (by simp)⟩;rw[e0]at h1;exact absurd h1.1 (fU _)
  have:d.heap.size<=y.block:=q y e;omega
 have bj:f=a\/∀y,f=some y->w.heap.size<=y.block:=q.imp id (λh y e=>by have:d.heap.size<=y.block:=h y e;omega);obtain⟨br,z⟩:=exq (cs.setIfInBounds b (.slice f A B));rw[<-z]at s;have d1:br[b+1]?=some (.bool e):=by rw[z];simpa [kP]using c1
 have d2:br[b+1+1]?=some (.bool g):=by rw[z,show b+1+1=b+2 from rfl];simpa [kP]using c2
 have m1:i.cell? ⟨c,b+1,none⟩=some (.bool e):=(ba s _).trans d1;have m2:i.cell? ⟨c,b+1+1,none⟩=some (.bool g):=(ba s _).trans d2;have q2:i.cell? ⟨w.heap.size,2,none⟩=some (.bool p):=by simp[World.cell?,K]
 have q3:i.cell? ⟨w.heap.size,2+1,none⟩=some (.bool j):=by simp[World.cell?,K]
 have ch:i.cell? ⟨w.heap.size,3,none⟩=some (.bool j):=q3;have b4:Hid (∀W,i.grownBy W none->∃(L:Option Addr)(n₁ c₁:Nat)(M:List Rg),w.grownBy ((W.setCell ⟨c,b+1,none⟩ (.bool F)).setCell ⟨c,b+1+1,none⟩ (.bool G)) (some c)/\((W.setCell ⟨c,b+1,none⟩ (.bool F)).setCell ⟨c,b+1+1,none⟩ (.bool G)).heap[c]?=some (.cells (((cs.setIfInBounds b (.slice L n₁ c₁)).setIfInBounds (b+1) (.bool F)).setIfInBounds (b+2) (.bool G)) t (0,0))/\bw ((W.setCell ⟨c,b+1,none⟩ (.bool F)).setCell ⟨c,b+1+1,none⟩ (.bool G)) L n₁ c₁ M/\(L=a\/∀y,L=some y->w.heap.size<=y.block)/\bl M/\M.length<=l.length+1/\∀m,Sm M m↔Sm l m/\¬(u<=m/\m<v)):=J (λW Y=>
  ⟨f,A,B,k,aK (aK (aq a9 (dd Y _)) _ _ (.inr rfl)) _ _ (.inr rfl),by rw[<-z];exact heap_set (heap_set (bB s Y) _) _,((a4.an Y).Cn X _ _).Cn X _ _,bj,U,a8,V⟩)
 replace⟨s,K,H,E,z⟩:=eR s K H E z;clear hU hA a4 q bj U a8 V hr aC P X c0 c1 c2 d1 d2 p0 p1 I a9 hx;go_region_with (first|(go_at_call 282;apply(Z a1 _).mono;rintro e w5⟨rfl,g5⟩;have N:i.grownBy w5 none:=(aq (aV (aB _ _)) g5);have O:=bB (Z s) N;have b1:=gC_ N m1;have b2:=gC_ N m2;have z1:w5.frozen? ⟨c,b+1,none⟩=false:=(by simp[World.frozen?,O]);have z2:w5.frozen? ⟨c,b+1+1,none⟩=false:=(by simp[World.frozen?,O]);replace O:=J O));all_goals go_wp2_with fail
 all_goals exact fm (eF rfl _ _ _) rfl ⟨rfl,Z b4 _ N⟩
def KQ(n:Nat):(madeCells (Value.cells (.int .u8 0)) (n*1)).toList=bv (List.replicate n 0):=by
 simp only[madeCells,bv,Value.cells,Array.toList_map,Array.toList_range,Nat.mul_one,List.map_replicate]
 rw[show(λx=> #[Value.int IntKind.u8 0][x % #[Value.int IntKind.u8 0].size]!)=λ_=>Value.int IntKind.u8 0 from funext λx=>by
  rw[show #[Value.int IntKind.u8 0].size=1 from rfl,Nat.mod_one];rfl]
 exact List.eq_replicate_iff.2 ⟨by simp,by simp⟩
def CT{d:Array Oper}{rest:List Oper}(l c:Operand)(i:u.op=Op.makeSlice 112 l c)(j:u.guard=none)
 (L:Int) (n:Nat) (hl:F.eval l=.int .i64 L) (k:F.eval c=.int .i64 L) (e:L=(n:Int)) (v:n<=100000000)
 (m:∀a,a.heap[w.heap.size]?=some (.cells (bv (List.replicate n 0)).toArray 5 (0,0))->w.grownBy a none->wpList prog d H rest (F.put u.dst (.slice (some ⟨w.heap.size,0,none⟩) n n)) a):wpList prog d H (u::rest) F w:=by
 obtain⟨p,hi,q,r,s⟩:=lD xV;refine wpList_make_full w j l c _ i w.heap.size 5 p (.int .u8 0) 1 underlying112 hi q r .i64 .i64 L L n hl k e e (by rw[s];omega) (by simp[maxLen];omega) (aR _) ?_;intro a ho g;refine m a ?_ g;obtain⟨x,b⟩:=ho;obtain⟨b,_⟩|⟨y,cap,cur,e1,e2,t,z,A,f,h⟩:=b
 cases b;simp only[Value.slice.injEq,mn,Addr.mk.injEq,and_true,true_and]at e1;obtain⟨rfl,rfl⟩:=e1;rw[t];rw[KQ,Nat.mul_one]at h;rw[Nat.mul_one]at f;have:cur.toList=bv (List.replicate n 0):=by rw[<-h,lC (by simp[f])]
 rw[<-this]
def aT(f:Bool):Int:=if f then 0 else 1
def wG(f:Bool):W8 (aT f):=by cases f<;>simp[aT,W8]
def ux(f:Bool)(w:World):Calls prog 173 #[.bool f] w λe a=>e=.returned (.int .u8 (aT f))/\a=w:=by
 cases f
 ·go_enter func173,ntmps173;go_wp2;go_ret;exact⟨rfl,rfl⟩
 go_enter func173,ntmps173;go_wp2;go_ret;exact⟨rfl,rfl⟩
def wH(key:List Int)(s n:Int)(l:List Int):(bv (iL key s n l)).toArray= #[.int .u8 (aa (cZ key (aE s 2 n++l)) 0),.int .u8 (aa (cZ key (aE s 2 n++l)) 1),.int .u8 (aa (cZ key (aE s 2 n++l)) 2),.int .u8 (aa (cZ key (aE s 2 n++l)) 3),.int .u8 (aa (cZ key (aE s 2 n++l)) 4),.int .u8 (aa (cZ key (aE s 2 n++l)) 5),.int .u8 (aa (cZ key (aE s 2 n++l)) 6),.int .u8 (aa (cZ key (aE s 2 n++l)) 7)]:=rfl
def wI(h:w.heap[b]?=some (.cells (bv L).toArray T (0,0)))(hl:∀x∈L,W8 x)(o n c:Nat)(f:o+n<=L.length)(a:n<=c)(d:c<=maxLen):bI w (some ⟨b,o,none⟩) n c ((L.drop o).take n):=
 ⟨λx e=>hl x (iN (jc e)),by simp;omega,a,d,.inr ⟨b,o,rfl,(uq h hl o).take n⟩⟩
def KR(H R l:List Int)(a:H.length=8):splice (splice R 0 H) 8 l=H++(l++R.drop (l.length+8)):=by
 have e:splice R 0 H=H++R.drop 8:=by simp[splice,a]
 have e2:8+(8+l.length-8)=l.length+8:=by omega
 rw[e];unfold splice;rw[uX (by omega),tL_,List.drop_append,a,dL_,jZ,tz,e2]
def KS(H l m a:List Int)(b:H.length=8)(c:m.length=l.length):splice (H++(l++a)) 8 m=H++(m++a):=by
 have e2:8+m.length-8=l.length:=by omega
 unfold splice;rw[uX (by omega),tL_,List.drop_append,b,dL_,jZ,e2,List.drop_append,dL_,jZ,rX,qw]
def KT(H m a T:List Int)(b:H.length=8)(c:T.length=a.length):splice (H++(m++a)) (8+m.length) T=H++(m++T):=by
 have e:(H++m).length=8+m.length:=by rw[bH,b]
 unfold splice;rw[<-fC H m a,uX (by omega),tL_,List.drop_append,dL_,jZ,dL_,oL,fC]
def CU(H l a:List Int)(b:H.length=8):((H++(l++a)).drop 8).take l.length=l:=by
 rw[List.drop_append,b,dL_,jZ,rX,qw,uX (aR _),lC (aR _)]
def uy(hl:∀x∈K,W8 x):∀x∈dT L p q K,W8 x:=by
 intro x a;obtain⟨i,_,rfl⟩:=fg.1 a;exact CL (qz hl i) (y9 _ _)
def KU(a:∀x∈M,W8 x):∀x∈fQ p++(M++List.replicate 8 0),W8 x:=by
 intro x b;obtain h|h:=bQ.1 b
 exact pY p x h;obtain h|h:=bQ.1 h
 exact a x h;rw[(List.mem_replicate.1 h).2];unfold W8;omega
def CV{f e d c a:Value}(u0 u1 u2 u3 u4 u5 u6 u7:Value)(h:w.heap[b]?=some (.cells #[x,y,z,f,e,d,c,a] T (0,0))):
 ((((((((w.setCell ⟨b,0,none⟩ u0).setCell ⟨b,1,none⟩ u1).setCell ⟨b,2,none⟩ u2).setCell ⟨b,3,none⟩ u3).setCell ⟨b,4,none⟩ u4).setCell ⟨b,5,none⟩ u5).setCell ⟨b,6,none⟩ u6).setCell ⟨b,7,none⟩ u7).heap[b]?=some (.cells #[u0,u1,u2,u3,u4,u5,u6,u7] T (0,0)):=by
 have h0:(w.setCell ⟨b,0,none⟩ u0).heap[b]?=some (.cells #[u0,y,z,f,e,d,c,a] T (0,0)):=heap_set h u0;have g:((w.setCell ⟨b,0,none⟩ u0).setCell ⟨b,1,none⟩ u1).heap[b]?=some (.cells #[u0,u1,z,f,e,d,c,a] T (0,0)):=heap_set h0 u1;have i:(((w.setCell ⟨b,0,none⟩ u0).setCell ⟨b,1,none⟩ u1).setCell ⟨b,2,none⟩ u2).heap[b]?=some (.cells #[u0,u1,u2,f,e,d,c,a] T (0,0)):=heap_set g u2;have j:((((w.setCell ⟨b,0,none⟩ u0).setCell ⟨b,1,none⟩ u1).setCell ⟨b,2,none⟩ u2).setCell ⟨b,3,none⟩ u3).heap[b]?=some (.cells #[u0,u1,u2,u3,e,d,c,a] T (0,0)):=heap_set i u3;have k:(((((w.setCell ⟨b,0,none⟩ u0).setCell ⟨b,1,none⟩ u1).setCell ⟨b,2,none⟩ u2).setCell ⟨b,3,none⟩ u3).setCell ⟨b,4,none⟩ u4).heap[b]?=some (.cells #[u0,u1,u2,u3,u4,d,c,a] T (0,0)):=heap_set j u4;have l:((((((w.setCell ⟨b,0,none⟩ u0).setCell ⟨b,1,none⟩ u1).setCell ⟨b,2,none⟩ u2).setCell ⟨b,3,none⟩ u3).setCell ⟨b,4,none⟩ u4).setCell ⟨b,5,none⟩ u5).heap[b]?=some (.cells #[u0,u1,u2,u3,u4,u5,c,a] T (0,0)):=heap_set k u5;have m:(((((((w.setCell ⟨b,0,none⟩ u0).setCell ⟨b,1,none⟩ u1).setCell ⟨b,2,none⟩ u2).setCell ⟨b,3,none⟩ u3).setCell ⟨b,4,none⟩ u4).setCell ⟨b,5,none⟩ u5).setCell ⟨b,6,none⟩ u6).heap[b]?=some (.cells #[u0,u1,u2,u3,u4,u5,u6,a] T (0,0)):=heap_set l u6;have n:((((((((w.setCell ⟨b,0,none⟩ u0).setCell ⟨b,1,none⟩ u1).setCell ⟨b,2,none⟩ u2).setCell ⟨b,3,none⟩ u3).setCell ⟨b,4,none⟩ u4).setCell ⟨b,5,none⟩ u5).setCell ⟨b,6,none⟩ u6).setCell ⟨b,7,none⟩ u7).heap[b]?=some (.cells #[u0,u1,u2,u3,u4,u5,u6,u7] T (0,0)):=heap_set m u7;exact n
def s7{cs:List Value}(h:W.rangeAt n 0 cs/\w.grownBy W none)(g:W.grownBy v none):v.rangeAt n 0 cs/\w.grownBy v none:=
 ⟨jh h.1 g (by simp),aq h.2 g⟩
def lq{cs:List Value}(h:W.rangeAt n 0 cs/\w.grownBy W none)(a:w.heap.size<=b)(c:n<w.heap.size)(o:Nat)(v:Value):(W.setCell ⟨b,o,none⟩ v).rangeAt n 0 cs/\w.grownBy (W.setCell ⟨b,o,none⟩ v) none:=
 ⟨vG h.1 _ _ (by dsimp only;omega),aK h.2 _ _ (.inl a)⟩
def sN{x:Obj}(h:w.heap[b]?=some x)(g:w.grownBy W none):W.heap[b]?=some x:=iV h g
def KV(key:List Int)(f:Bool)(n:Int)(a:Option Addr)(m cap:Nat)(l:List Int)(w:World)(T:dD key)(U:aS n)(p:bI w a m cap l)(hl:l.length<=50000000):
 Calls prog 148 #[.agg (cO key),.bool f,.int .u64 n,.slice a m cap] w λe i=>
  ∃g,e=.returned (.slice (some ⟨g,0,none⟩) (l.length+16) (l.length+16))/\w.heap.size<=g/\i.heap[g]?=some (.cells (bv (cK key (aT f) n l)).toArray 5 (0,0))/\w.grownBy i none:=by
 have ch:=p.2.1;subst ch;have cA:=p.2.2.1;have cj:=p.2.2.2.1;unfold maxLen at cj;have bb:=p.1;have cB:(prog.info? 24).map (·.size)=some (bv key).length:=by rw[fL,T.1];exact m8
 have cC:=underlying24;go_enter func148,ntmps148;go_wp2_with (at_make;refine CT _ _ (by rfl) (by rfl) _ (l.length+16) (by rfl) (by rfl) (by omega) (by omega) ?_;intro H I V);have bj:Below w.heap.size w H:=((Below.refl _ w).alloc (aR _) _).grown V (by simp) (λk e=>by cases e);have cp:=V.size;rw[dL]at cp I;have c9:w.heap.size+1<H.heap.size:=(aZ.1 I).1;have br:H.heap[w.heap.size]?=some (.cells (cO key) 24 (0,0)):=iV (aO _ _) V;apply(wD n _ U).mono;rintro e X⟨rfl,g2⟩;rw[sJ];obtain⟨z,s⟩:=exq (X.alloc (.cells #[.int .u8 (aa n 0),.int .u8 (aa n 1),.int .u8 (aa n 2),.int .u8 (aa n 3),.int .u8 (aa n 4),.int .u8 (aa n 5),.int .u8 (aa n 6),.int .u8 (aa n 7)] 300));have Y:H.grownBy z none:=by rw[s];exact aY g2 _
 have bt:z.heap[X.heap.size]?=some (.cells (bv (fQ n)).toArray 300 (0,0)):=by rw[s];exact aO _ _
 have al:=iV I Y;have ax:=iV br Y;have K:Below w.heap.size w z:=bj.grown Y bj.size (λk e=>by cases e);have db:=g2.size;have A:=wI bt (pY n) 0 8 8 (by simp[iK]) (by omega) (by simp[maxLen]);rw[qw,lC (by simp[iK])]at A;have bx:=p.an (tI K);have e1:(fQ n).take (l.length+16)=fQ n:=lC (by simp[iK]);have e2:l.take (8+l.length-8)=l:=tL_;have L:∀W':World,z.grownBy W' (some (w.heap.size+1))->bI W' a l.length cap l:=λW' g=>bx.gb g (λj e=>by
  cases e;by_cases bz:l=[]
  exact .inr (.inl bz)
  ·right;right;intro x N;obtain⟨h,_⟩|⟨b,o,h,cv⟩:=p.2.2.2.2
   rw[h]at N;cases N
   ·rw[h]at N;cases N;have:=cv.lt bz;dsimp only
    omega)
 replace⟨A,al,e1,e2,L⟩:=eR A al e1 e2 L;clear bx I bt br;replace p:=J p;go_wp2_with (first|(refine tL _ _ (by rfl) (by rfl) (w.heap.size+1) 0 (l.length+16) (l.length+16) (by rfl) (some ⟨X.heap.size,0,none⟩) 8 8 (by rfl) (fQ n) ?_ (List.replicate (l.length+16) 0) 5 ?_ ?_ ?_;(rw[<-s];exact Z A);(rw[<-s];exact Z al);(rw[Z e1];simp[iK]);(rw[Z e1,<-s];intro w4 b0 B))|(refine tL _ _ (by rfl) (by rfl) (w.heap.size+1) 8 (8+l.length-8) (l.length+8) (by rfl) _ _ _ (by rfl) l (Z L _ B) (splice (List.replicate (l.length+16) 0) 0 (fQ n)) 5 b0 ?_ ?_;(rw[Z e2,length_splice _ _ _ (by simp[iK])];simp;omega);(rw[Z e2];intro q O g5)));have P:q.heap[w.heap.size]?=some (.cells (cO key) 24 (0,0)):=by
  have de:=B.size;have h3:w.heap.size<z.heap.size:=(aZ.1 ax).1;exact(g5.block _ (by omega) (by simp)).trans ((B.block _ h3 (by simp)).trans ax)
 have b3:q.drew.rangeAt w.heap.size 0 (bv key):=kz (w:=q.drew) P;have Q:Below w.heap.size w q:=(K.grown B K.size (λk e=>by cases e;omega)).grown g5 (by have:=K.size;have:=B.size;omega) (λk e=>by cases e;omega);obtain⟨r,t⟩:=exq (fQ n++(l++List.replicate 8 0));rw[KR _ _ _ (iK n),List.drop_replicate,show l.length+16-(l.length+8)=8 by omega]at O;have b4:r.length=l.length+16:=by rw[t];simp[iK];omega
 have aC:∀x∈r,W8 x:=by
  rw[t];intro x hx;obtain h|h:=bQ.1 hx
  exact pY n x h;obtain h|h:=bQ.1 h
  exact bb x h;rw[(List.mem_replicate.1 h).2];unfold W8;omega
 have a0:splice r 8 (dT key (aT f) n ((r.drop 8).take l.length))=fQ n++(dT key (aT f) n l++List.replicate 8 0):=by
  rw[t,CU _ _ _ (iK n),KS _ _ _ _ (iK n) (nu _ _ _ _)]
 rw[<-t]at O;have a1:q.drew.heap[w.heap.size+1]?=some (.cells (bv r).toArray 5 (0,0)):=O;replace⟨a1,P⟩:=bA a1 P;clear O b0 ax;have dg:=Q.size;have a2:8+l.length<=r.length:=by omega
 replace⟨t,b4,aC,a2,a0⟩:=eR t b4 aC a2 a0;clear s L e1 e2 A;go_region_held3 (λi=>i.rangeAt w.heap.size 0 (bv key))
  (with_reducible first|exact b5|exact b3)
  (first
    |(go_at_call 173;apply(ux f _).mono;rintro e i⟨rfl,rfl⟩)
    |(go_at_call 174;refine(CS key (aT f) n (w.heap.size+1) 8 l.length (l.length+8) r 5 _ T (wG f) U (Z aC) (Z a2) (by omega) (by simp[maxLen];omega) (Z a1)).mono ?_;rintro e d⟨rfl,C,D⟩;rw[Z a0]at C;have b5:=jh b3 D (by simp);replace C:=J C;replace D:=J D))
 go_wp2_with fail;have E:=Z C;have a3:=Z D;clear C;replace D:=J a3;have dk:=a3.size;have c:w.heap.size<d.heap.size:=by
  have h5:q.drew.heap.size=q.heap.size:=rfl;have h6:=(aZ.1 (Z P)).1;omega
 obtain⟨M,u⟩:=exq (dT key (aT f) n l);rw[<-u]at E;have F:M.length=l.length:=by rw[u];exact nu _ _ _ _
 have a4:∀x∈M,W8 x:=by rw[u];exact uy bb
 have bM:=wI E (KU a4) 8 M.length (l.length+8) (by simp[iK]) (by omega) (by simp[maxLen];omega);rw[CU _ _ _ (iK n)]at bM;have hT:Hid (∀W:World,(W.rangeAt w.heap.size 0 (bv key)/\d.grownBy W none)->Calls prog 172 #[.agg (bv key).toArray,.int .u8 (aT f),.int .u64 n,.slice (some ⟨w.heap.size+1,8,none⟩) l.length (l.length+8)] W λe i=>e=.returned (.agg (bv (iL key (aT f) n M)).toArray)/\W.grownBy i none):=J (λW h=>by
  have:=CQ key (aT f) n _ _ _ M W T (wG f) U (bM.an h.2) (by omega);rw[F]at this;exact this)
 have b7:d.drew.rangeAt w.heap.size 0 (bv key)/\d.grownBy d.drew none:=⟨λj v h=>b5 j v h,aV (aB _ _)⟩
 replace⟨E,u,F,a4⟩:=eV E u F a4;clear bM;go_cut [12] (λv wx=>∃G:Nat,v=.pointer (some ⟨G,0,none⟩)/\d.heap.size<=G/\wx.heap[G]?=some (.cells (bv (iL key (aT f) n M)).toArray 300 (0,0))/\d.grownBy wx none);case first=>
  go_region_held3 (λi=>i.rangeAt w.heap.size 0 (bv key)/\d.grownBy i none)
   (first|with_reducible exact y|with_reducible exact b7|(with_reducible exact(lq (lq (lq (lq (lq (lq (lq (lq y (aR _) c _ _) (aR _) c _ _) (aR _) c _ _) (aR _) c _ _) (aR _) c _ _) (aR _) c _ _) (aR _) c _ _) (aR _) c _ _))|with_reducible exact s7 y (aH _ _ none)|with_reducible exact s7 b7 (aH _ _ none))
   (first
     |(go_at_call 173;apply(ux f _).mono;rintro e i⟨rfl,rfl⟩)
     |(go_at_call 172;apply(Z hT _ (by assumption)).mono;rintro e w7⟨rfl,g7⟩;rw[wH];have y:=s7 (w:=d) (by assumption) g7;first|(have R:w7.heap[d.heap.size]?=some (.cells #[.int .u8 0,.int .u8 0,.int .u8 0,.int .u8 0,.int .u8 0,.int .u8 0,.int .u8 0,.int .u8 0] 300 (0,0)):=sN (aO d.drew _) g7;have cw:=rC R;replace R:=J R;obtain⟨⟨z0,z1,z2,z3,z4,z5,z6,z7⟩,zf⟩:=cw)|skip))
  all_goals
   go_wp2
   go_meet
   refine⟨_,rfl,?_,?_,?_⟩
   first|with_reducible exact aR _|with_reducible exact y.2.size
   rw[wH]
   first|with_reducible exact CV _ _ _ _ _ _ _ _ (Z R)|with_reducible exact aO _ _
   first|with_reducible exact(lq (lq (lq (lq (lq (lq (lq (lq y (aR _) c _ _) (aR _) c _ _) (aR _) c _ _) (aR _) c _ _) (aR _) c _ _) (aR _) c _ _) (aR _) c _ _) (aR _) c _ _).2|with_reducible exact aY y.2 _
 case rest=>
  obtain⟨G,rfl,dn,a8,g8⟩:=hcut;rename_i wx;have cx:=J (iV (Z E) g8);have S:=wI a8 (pY _) 0 8 8 (by simp[iL,iK]) (by omega) (by simp[maxLen]);rw[qw,lC (by simp[iL,iK])]at S;replace⟨S,a8⟩:=bA S a8;go_wp2_with fail;have ds:IntKind.i64.wrap (8+(l.length:Int))=8+(l.length:Int):=wI_;have du:(0:Int)<=8+(l.length:Int):=by omega
  have dx:8+(l.length:Int)<=(l.length:Int)+16:=by omega
  have dE:(8+(l.length:Int)).toNat=8+l.length:=by omega
  have dG:(l.length+16=8+l.length)=False:=by simp;omega
  have ea:l.length+16-(8+l.length)=8:=by omega
  have ca:Hid ((iL key (aT f) n M).take 8=iL key (aT f) n M):=J (lC (by simp[iL,iK]));have cy:Hid (8+l.length+(iL key (aT f) n M).length<=(fQ n++(M++List.replicate 8 (0:Int))).length):=J (by
   have h1:(iL key (aT f) n M).length=8:=by simp[iL,iK]
   have h2:=Z F;have h3:=iK n;simp only[bH,vh]
   omega)
  go_region_held3 (λ_=>True) (trivial) ((refine FX _ _ (by rfl) (by rfl) (w.heap.size+1) (8+l.length) 8 8 (by rfl) (some ⟨G,0,none⟩) 8 8 (by rfl) (iL key (aT f) n M) (CP (Z S)) (fQ n++(M++List.replicate 8 0)) 5 (Z cx) ?_ ?_;(rw[Z ca];exact Z cy);(rw[Z ca];intro w9 a9 g9;replace a9:=J a9)));go_wp2;go_ret;refine⟨w.heap.size+1,rfl,by omega,?_,?_⟩
  have h9:=Z a9;rw[<-Z F,KT _ _ _ _ (iK n) (by simp[iL,iK]),Z u]at h9;unfold cK;rw[fC];exact h9;have b6:Below w.heap.size w d:=(Q.grown (aV (aB q none)) Q.size (λk e=>by cases e)).grown a3 Q.size (λk e=>by cases e;omega);have b8:Below w.heap.size w wc:=b6.grown g8 b6.size (λk e=>by cases e);exact tI ((b8.grown (aV (aB wc none)) b8.size (λk e=>by cases e)).grown g9 b8.size (λk e=>by cases e;omega))
def MC(a b c d e f g h i j k l m n p q:Int)(w:World):(Op.equalIn 10000 300 (.agg #[.int .u8 a,.int .u8 b,.int .u8 c,.int .u8 d,.int .u8 e,.int .u8 f,.int .u8 g,.int .u8 h]) (.agg #[.int .u8 i,.int .u8 j,.int .u8 k,.int .u8 l,.int .u8 m,.int .u8 n,.int .u8 p,.int .u8 q])).run prog w=.ok (decide ([a,b,c,d,e,f,g,h]=[i,j,k,l,m,n,p,q])) w:=by
 have u3:=underlying5;have z:=isAgg5;have A:=sizeOf5;rw[show(10000:Nat)=9999+1 from rfl,Op.equalIn];simp only[je,vz underlying300,jd]
 simp only[Std.Legacy.Range.forIn_eq_forIn_range',Std.Legacy.Range.size,Nat.sub_zero,rT,Nat.div_one,List.range'_succ,List.range'_zero,List.forIn_cons,List.forIn_nil]
 by_cases h0:a=i;case neg=>go_simp
 by_cases r:b=j;case neg=>go_simp
 by_cases s:c=k;case neg=>go_simp
 by_cases t:d=l;case neg=>go_simp
 by_cases u:e=m;case neg=>go_simp
 by_cases v:f=n;case neg=>go_simp
 by_cases x:g=p;case neg=>go_simp
 by_cases y:h=q;case neg=>go_simp
 subst h0 r s t u v x y;go_simp
def DT(key:List Int)(f:Bool)(a:Option Addr)(m cap:Nat)(l:List Int)(w:World)(c:bI w a m cap l)(hl:l.length<16\/300<l.length):
 Calls prog 135 #[.agg (cO key),.bool f,.slice a m cap] w λe d=>e=.returned (.tuple #[.int .u64 0,.slice none 0 0,.iface 34 (.int .i64 4)])/\w.grownBy d none:=by
 generalize cO key=K at *;have g:m=l.length:=c.2.1;subst g;clear c;have b:∀W,W=w.alloc (.cells K 24)->w.grownBy W none:=by rintro W rfl;exact aH _ _ _
 replace b:=J b;obtain hl|hl:=hl
 ·have h:decide ((l.length:Int)<16)=true:=by simp;omega
  go_enter func135,ntmps135;go_wp2;go_ret3;exact⟨rfl,Z b _ rfl⟩
 have h:decide ((l.length:Int)<16)=false:=by simp;omega
 have i:decide (300<(l.length:Int))=true:=by simp;omega
 go_enter func135,ntmps135;go_wp2;go_ret3;exact⟨rfl,Z b _ rfl⟩
def DU{ob:Obj}(g:(w.drew.alloc ob).grownBy W none):W.heap[w.heap.size]?=some ob:=sN (aO w.drew ob) g
def DV{ob:Obj}(g:(w.alloc ob).drew.grownBy W none):W.heap[w.heap.size]?=some ob:=sN (w:=(w.alloc ob).drew) (aO w ob) g
def MD(g:W.grownBy w.drew none)(ob:Obj):W.grownBy (w.alloc ob).drew none:=aq g (aH w.drew ob none)
def DW{ob:Obj}(g:(w.alloc ob).grownBy W none):W.heap[w.heap.size]?=some ob:=sN (aO w ob) g
def DX(g:W.grownBy w none)(a:W.heap.size<=b)(u0 u1 u2 u3 u4 u5 u6 u7:Value):W.grownBy ((((((((w.setCell ⟨b,0,none⟩ u0).setCell ⟨b,1,none⟩ u1).setCell ⟨b,2,none⟩ u2).setCell ⟨b,3,none⟩ u3).setCell ⟨b,4,none⟩ u4).setCell ⟨b,5,none⟩ u5).setCell ⟨b,6,none⟩ u6).setCell ⟨b,7,none⟩ u7) none:=
 aK (aK (aK (aK (aK (aK (aK (aK g _ _ (.inl a)) _ _ (.inl a)) _ _ (.inl a)) _ _ (.inl a)) _ _ (.inl a)) _ _ (.inl a)) _ _ (.inl a)) _ _ (.inl a)
def ME(n:Nat)(m:List Int)(h:m.length=n):splice (List.replicate n 0) 0 m=m:=by
 unfold splice;rw[List.take_zero,jZ,dY,List.drop_of_length_le (by simp;omega),oL]
def MF(m k:List Int)(h:m.length=k.length):splice m 0 k=k:=by
 unfold splice;rw[List.take_zero,jZ,dY,dL_,oL]
def s5{wc:World}{cs:List Value}{a b c d e:Value}(h:w.rangeAt n 0 cs/\(w.cell? ⟨k,0,none⟩=some x/\w.cell? ⟨k,1,none⟩=some y/\w.cell? ⟨k,2,none⟩=some z/\w.cell? ⟨k,3,none⟩=some a/\w.cell? ⟨k,4,none⟩=some b/\w.cell? ⟨k,5,none⟩=some c/\w.cell? ⟨k,6,none⟩=some d/\w.cell? ⟨k,7,none⟩=some e)/\wc.grownBy w none)(g:w.grownBy W none):
 W.rangeAt n 0 cs/\(W.cell? ⟨k,0,none⟩=some x/\W.cell? ⟨k,1,none⟩=some y/\W.cell? ⟨k,2,none⟩=some z/\W.cell? ⟨k,3,none⟩=some a/\W.cell? ⟨k,4,none⟩=some b/\W.cell? ⟨k,5,none⟩=some c/\W.cell? ⟨k,6,none⟩=some d/\W.cell? ⟨k,7,none⟩=some e)/\wc.grownBy W none:=by
 obtain⟨f,⟨c0,c1,c2,c3,c4,c5,c6,c7⟩,i⟩:=h;exact⟨jh f g (by simp),⟨gC_ g c0,gC_ g c1,gC_ g c2,gC_ g c3,gC_ g c4,gC_ g c5,gC_ g c6,gC_ g c7⟩,aq i g⟩
def DY(key:List Int)(f:Bool)(a:Option Addr)(m cap:Nat)(l:List Int)(w:World)(hk:dD key)(M:bI w a m cap l)(du:16<=l.length:=by omega)(dx:l.length<=300:=by omega):
 Calls prog 135 #[.agg (cO key),.bool f,.slice a m cap] w λe b=>
  ((eC key (aT f) l/\∃V c',e=.returned (.tuple #[.int .u64 (bq l),.slice V (l.length-16) c',.nilIface])/\bI b V (l.length-16) c' (dT key (aT f) (bq l) (bS l))/\(∀x,V=some x->w.heap.size<=x.block)/\(l.length=16->V=none))\/
    (¬eC key (aT f) l/\e=.returned (.tuple #[.int .u64 0,.slice none 0 0,.iface 34 (.int .i64 4)])))/\w.grownBy b none:=by
 have e6:(prog.info? 24).map (·.size)=some (bv key).length:=by rw[fL,hk.1];exact m8
 have e7:=underlying24;have dE:m=l.length:=M.2.1;subst dE;have dG:=M.2.2.1;have ea:=M.2.2.2.1;unfold maxLen at ea;have G:=M.1;obtain⟨-,-,-,-,h5⟩:=M;obtain⟨rfl,rfl⟩|⟨p,o,rfl,cv⟩:=h5
 omega;have h1:decide ((l.length:Int)<16)=false:=by simp;omega
 have h2:decide (300<(l.length:Int))=false:=by simp;omega
 obtain⟨d,O⟩:=exq (w.alloc (.cells (cO key) 24));have P:w.grownBy d none:=by rw[O];exact aH _ _ _
 have bz:d.heap[w.heap.size]?=some (.cells (cO key) 24 (0,0)):=by rw[O];exact aO _ _
 have Q:=cv.gb P;have hA:Hid (∀W:World,d.grownBy W none->Calls prog 170 #[.slice (some ⟨p,o,none⟩) l.length cap] W λe b=>e=.returned (.agg (bv (l.take 8)).toArray)/\W.grownBy b none):=J (λW g=>
  CI _ _ _ l W ⟨G,rfl,dG,by simp[maxLen];omega,.inr ⟨p,o,rfl,Q.gb g⟩⟩ (by omega))
 have hN:Hid (∀W:World,Calls prog 171 #[.agg (bv (l.take 8)).toArray] W λe b=>e=.returned (.int .u64 (bq l))/\W.grownBy b none):=J (λW=>
  Ky _ W (by simp;omega) (λx k=>G x (jc k)))
 have X:(qJ l).length=8:=by simp[qJ];omega
 obtain⟨s,t,u,v,y,z,A,B,k⟩:=zd X;have hB:Hid (∀W:World,d.grownBy W none->Calls prog 170 #[.slice (some ⟨p,o+(l.length-8),none⟩) (l.length-(l.length-8)) (cap-(l.length-8))] W λe b=>e=.returned (.agg #[.int .u8 s,.int .u8 t,.int .u8 u,.int .u8 v,.int .u8 y,.int .u8 z,.int .u8 A,.int .u8 B])/\W.grownBy b none):=J (λW g=>by
  have:=CI (some ⟨p,o+(l.length-8),none⟩) (l.length-(l.length-8)) (cap-(l.length-8)) (qJ l) W ⟨λx k=>G x (iN k),by rw[X];omega,by omega,by simp[maxLen];omega,.inr ⟨p,_,rfl,(Q.gb g).drop _⟩⟩ (by omega);rw[tL_,k]at this;exact this)
 have jk:∀W,(Instr.slice 112 (.slice (some ⟨p,o,none⟩) l.length cap) (some (.int .i64 ((l.length:Int)-8))) none none).run prog W=.ok (.slice (some ⟨p,o+(l.length-8),none⟩) (l.length-(l.length-8)) (cap-(l.length-8))) W:=λW=>by
  have:=KE p o l.length cap (l.length-8) (by omega) (by omega) W;rwa[show((l.length-8:Nat):Int)=(l.length:Int)-8 by omega]at this
 have fa:IntKind.i64.wrap ((l.length:Int)-8)=(l.length:Int)-8:=wI_;have fb:(0:Int)<=l.length-8:=by omega
 have ff:(8:Int)<=l.length-8:=by omega
 have fo:(l.length:Int)-8<=(cap:Int):=by omega
 have fq:(l.length:Int)-8<=(l.length:Int):=by omega
 have fs:((l.length:Int)-8).toNat=l.length-8:=by omega
 have fy:(cap=l.length-8)=False:=by simp;omega
 have fA:(cap=8)=False:=by simp;omega
 replace⟨k,G,X,Q,bz⟩:=eR k G X Q bz;clear cv;have Y:d.grownBy d.drew none:=aV (aB _ _);go_enter func135,ntmps135;go_upto_region 4 with fail;rw[<-O];replace O:=J O;go_cut [10,11,12] (λeg ei ej wx=>∃c:Nat,eg=.int .u64 (bq l)/\ei=.slice (some ⟨p,o+8,none⟩) (l.length-16) (cap-8)/\ej=.pointer (some ⟨c,0,none⟩)/\d.heap.size<=c/\wx.heap[c]?=some (.cells #[.int .u8 s,.int .u8 t,.int .u8 u,.int .u8 v,.int .u8 y,.int .u8 z,.int .u8 A,.int .u8 B] 300 (0,0))/\d.grownBy wx none);case first=>
  go_region_held3 (λb=>d.grownBy b none)
   (with_reducible first|exact K|exact bM|exact b0|exact Y|exact DX K D _ _ _ _ _ _ _ _|exact aY K _|exact aY bM _|exact aY b0 _|exact aY Y _|exact MD Y _)
   (first
     |(go_at_call 171;apply(Z hN _).mono;rintro e w3⟨rfl,R⟩;have bM:=aq (w:=d) (by assumption) R;first|(have i:=J (DV R);have D:d.heap.size<=d.heap.size:=aR _)|(have i:=J (DU R);have D:d.heap.size<=d.heap.size:=aR _)|(have i:=J (DW R);have D:=b0.size)|(have i:=J (sN (Z i) R))|skip)
     |(go_at_call 170;apply(Z hA _ (by assumption)).mono;rintro e w2⟨rfl,g2⟩;have b0:=aq (w:=d) (by assumption) g2;first|(have i:=J (DV g2);have D:d.heap.size<=d.heap.size:=aR _)|(have i:=J (DU g2);have D:d.heap.size<=d.heap.size:=aR _)|skip)
     |(go_at_call 170;apply(Z hB _ (by assumption)).mono;rintro e w4⟨rfl,g4⟩;have K:=aq (w:=d) (by assumption) g4;first|(have i:=DW g4;have D:=bM.size;obtain⟨⟨z0,z1,z2,z3,z4,z5,z6,z7⟩,zf⟩:=rC i;replace i:=J i)|(have i:=sN (Z i) g4;obtain⟨⟨z0,z1,z2,z3,z4,z5,z6,z7⟩,zf⟩:=rC i;replace i:=J i)|skip))
  all_goals
   go_wp2
   go_meet
   refine⟨_,rfl,by rw[Nat.sub_sub],rfl,?_,?_,?_⟩
   first|with_reducible exact D|with_reducible exact K.size
   first|with_reducible exact CV _ _ _ _ _ _ _ _ (Z i)|with_reducible exact aO _ _
   first|with_reducible exact DX K D _ _ _ _ _ _ _ _|with_reducible exact aY K _
 case rest=>
  obtain⟨c,rfl,rfl,rfl,D,i,L⟩:=hcut;have eo:=rC i;obtain⟨⟨z0,z1,z2,z3,z4,z5,z6,z7⟩,-⟩:=eo;have S:=iV (Z bz) L;have cA:wc.drew.rangeAt w.heap.size 0 (bv key)/\(wc.drew.cell? ⟨c,0,none⟩=some (.int .u8 s)/\wc.drew.cell? ⟨c,1,none⟩=some (.int .u8 t)/\wc.drew.cell? ⟨c,2,none⟩=some (.int .u8 u)/\wc.drew.cell? ⟨c,3,none⟩=some (.int .u8 v)/\wc.drew.cell? ⟨c,4,none⟩=some (.int .u8 y)/\wc.drew.cell? ⟨c,5,none⟩=some (.int .u8 z)/\wc.drew.cell? ⟨c,6,none⟩=some (.int .u8 A)/\wc.drew.cell? ⟨c,7,none⟩=some (.int .u8 B))/\wc.grownBy wc.drew none:=
   ⟨kz (w:=wc.drew) S,⟨z0,z1,z2,z3,z4,z5,z6,z7⟩,aV (aB _ _)⟩
  replace⟨S,i⟩:=bA S i;clear z0 z1 z2 z3 z4 z5 z6 z7 jk hA hN hB Y;have T:(bS l).length=l.length-16:=by simp[bS];omega
  have a4:Hid (bI wc (some ⟨p,o+8,none⟩) (l.length-16) (cap-8) (bS l)):=
   J ⟨λx k=>(Z G) x (iN (jc k)),T.symm,by omega,by simp only[maxLen];omega,.inr ⟨p,o+8,rfl,(((Z Q).gb L).drop 8).take _⟩⟩
  have cB:aS (bq l):=by
   have h8:=uv l (Z G) 8 (by omega);exact⟨h8.1,by have:=h8.2;unfold bq;omega⟩
  have hT:Hid (∀W:World,(W.rangeAt w.heap.size 0 (bv key)/\(W.cell? ⟨c,0,none⟩=some (.int .u8 s)/\W.cell? ⟨c,1,none⟩=some (.int .u8 t)/\W.cell? ⟨c,2,none⟩=some (.int .u8 u)/\W.cell? ⟨c,3,none⟩=some (.int .u8 v)/\W.cell? ⟨c,4,none⟩=some (.int .u8 y)/\W.cell? ⟨c,5,none⟩=some (.int .u8 z)/\W.cell? ⟨c,6,none⟩=some (.int .u8 A)/\W.cell? ⟨c,7,none⟩=some (.int .u8 B))/\wc.grownBy W none)->Calls prog 172 #[.agg (bv key).toArray,.int .u8 (aT f),.int .u64 (bq l),.slice (some ⟨p,o+8,none⟩) (l.length-16) (cap-8)] W λe b=>e=.returned (.agg (bv (iL key (aT f) (bq l) (bS l))).toArray)/\W.grownBy b none):=J (λW h=>
   CQ key (aT f) (bq l) _ _ _ (bS l) W hk (wG f) cB ((Z a4).an h.2.2) (by omega))
  replace T:=J T;by_cases hn:bq l<=4611686018427387903
  ·have cC:decide (4611686018427387903<bq l)=false:=by simp;omega
   obtain⟨N,F⟩:=exq (bq l);have bb:=MC s t u v y z A B (aa (cZ key (aE (aT f) 2 N++bS l)) 0) (aa (cZ key (aE (aT f) 2 N++bS l)) 1) (aa (cZ key (aE (aT f) 2 N++bS l)) 2) (aa (cZ key (aE (aT f) 2 N++bS l)) 3) (aa (cZ key (aE (aT f) 2 N++bS l)) 4) (aa (cZ key (aE (aT f) 2 N++bS l)) 5) (aa (cZ key (aE (aT f) 2 N++bS l)) 6) (aa (cZ key (aE (aT f) 2 N++bS l)) 7);have bj:([s,t,u,v,y,z,A,B]=[aa (cZ key (aE (aT f) 2 N++bS l)) 0,aa (cZ key (aE (aT f) 2 N++bS l)) 1,aa (cZ key (aE (aT f) 2 N++bS l)) 2,aa (cZ key (aE (aT f) 2 N++bS l)) 3,aa (cZ key (aE (aT f) 2 N++bS l)) 4,aa (cZ key (aE (aT f) 2 N++bS l)) 5,aa (cZ key (aE (aT f) 2 N++bS l)) 6,aa (cZ key (aE (aT f) 2 N++bS l)) 7])=(iL key (aT f) (bq l) (bS l)=qJ l):=by
    rw[Z k,<-F];exact propext ⟨λh=>h.symm,λh=>h.symm⟩
   have ew:aS N:=by rw[F];exact cB
   rw[<-F]at hT cC⊢;replace F:=J F;by_cases H:iL key (aT f) (bq l) (bS l)=qJ l
   ·have c9:∀W,(Op.equalIn 10000 300 (.agg #[.int .u8 s,.int .u8 t,.int .u8 u,.int .u8 v,.int .u8 y,.int .u8 z,.int .u8 A,.int .u8 B]) (.agg #[.int .u8 (aa (cZ key (aE (aT f) 2 N++bS l)) 0),.int .u8 (aa (cZ key (aE (aT f) 2 N++bS l)) 1),.int .u8 (aa (cZ key (aE (aT f) 2 N++bS l)) 2),.int .u8 (aa (cZ key (aE (aT f) 2 N++bS l)) 3),.int .u8 (aa (cZ key (aE (aT f) 2 N++bS l)) 4),.int .u8 (aa (cZ key (aE (aT f) 2 N++bS l)) 5),.int .u8 (aa (cZ key (aE (aT f) 2 N++bS l)) 6),.int .u8 (aa (cZ key (aE (aT f) 2 N++bS l)) 7)])).run prog W=.ok true W:=λW=>by
     rw[bb W];simp only[bj,H,decide_true]
    have q:eC key (aT f) l:=⟨du,dx,H,hn⟩
    clear bb bj;replace⟨H,q⟩:=bA H q;obtain⟨n,r⟩:=exq (l.length-16);rw[<-r];rw[<-r]at hT a4;replace r:=J r;go_wp2_with fail;go_region_held3 (λb=>b.rangeAt w.heap.size 0 (bv key)/\(b.cell? ⟨c,0,none⟩=some (.int .u8 s)/\b.cell? ⟨c,1,none⟩=some (.int .u8 t)/\b.cell? ⟨c,2,none⟩=some (.int .u8 u)/\b.cell? ⟨c,3,none⟩=some (.int .u8 v)/\b.cell? ⟨c,4,none⟩=some (.int .u8 y)/\b.cell? ⟨c,5,none⟩=some (.int .u8 z)/\b.cell? ⟨c,6,none⟩=some (.int .u8 A)/\b.cell? ⟨c,7,none⟩=some (.int .u8 B))/\wc.grownBy b none)
    (with_reducible first|exact C|exact cA)
    (first
      |(go_at_call 173;apply(ux f _).mono;rintro e b⟨rfl,rfl⟩)
      |(go_at_call 172;apply(Z hT _ (by assumption)).mono;rintro e I⟨rfl,g7⟩;rw[wH];have C:=s5 (wc:=wc) (by assumption) g7))
    clear c9;by_cases E:n=0
    ·have hz:((n:Int)==0)=true:=by simp[E]
     have ez:(n==0)=true:=by simp[E]
     go_wp2;go_ret3;refine⟨.inl ⟨Z q,none,0,?_,?_,λx k=>(by cases k),λ_=>rfl⟩,aq P (aq L C.2.2)⟩
     rw[Z F,<-Z r,E];rfl;have eK:bS l=[]:=by rw[<-List.length_eq_zero_iff,Z T,<-Z r,E]
     rw[<-Z r,E,eK];exact⟨λx k=>(by cases k),rfl,aR _,by simp[maxLen],.inl ⟨rfl,rfl⟩⟩
    have hz:((n:Int)==0)=false:=by simp[E]
    have ez:(n==0)=false:=by simp[E]
    have eL:=J E;clear E;have gg:n<=300:=by have:=Z r;omega
    have U:(bS l).length=n:=by rw[Z T,Z r]
    have b7:Hid ((bS l).take n=bS l):=J (tL_);have eS:Hid (0+(bS l).length<=(List.replicate n (0:Int)).length):=J (by simp;omega);have db:=J (Z a4).1;replace U:=J U;go_wp2_with (first|(at_make;refine CT _ _ (by rfl) (by rfl) _ n (by rfl) (by rfl) (by omega) (by omega) ?_;intro w8 b8 g8;replace b8:=J b8)|(refine tL _ _ (by rfl) (by rfl) I.heap.size 0 n n (by rfl) (some ⟨p,o+8,none⟩) n (cap-8) (by rfl) (bS l) ((Z a4).an (aq C.2.2 g8)) (List.replicate n 0) 5 (Z b8) ?_ ?_;(rw[Z b7];exact Z eS);(rw[Z b7];intro w9 br g9;rw[ME n _ (Z U)]at br;replace br:=J br)));have dk:w9.drew.rangeAt w.heap.size 0 (bv key):=by
     have h7:=C.2.2.size;have h8:=(aZ.1 (Z S)).1;exact jh (jh C.1 g8 (by simp)) (aV g9) (λe=>by have:=aQ e;omega)
    have e4:Hid (w9.drew.heap[I.heap.size]?=some (.cells (bv (bS l)).toArray 5 (0,0))):=J (Z br);go_region_held3 (λb=>b.rangeAt w.heap.size 0 (bv key))
     (with_reducible first|exact e5|exact dk)
     (first
       |(go_at_call 173;apply(ux f _).mono;rintro e b⟨rfl,rfl⟩)
       |(go_at_call 174;refine(CS key (aT f) N I.heap.size 0 n n (bS l) 5 _ hk (wG f) ew (Z db) (by have:=Z U;omega) (by omega) (by simp[maxLen];omega) (Z e4)).mono ?_;rintro e gi⟨rfl,ch,bt⟩;have e5:=jh dk bt (λe=>by have h6:=aQ e;have h7:=C.2.2.size;have h8:=(aZ.1 (Z S)).1;omega);replace ch:=J ch;replace bt:=J bt))
    go_wp2;go_ret3;have dn:=Z ch;rw[qw,Z b7,MF _ _ (by rw[nu])]at dn;have gn:(dT key (aT f) N (bS l)).length=n:=by rw[nu,Z U]
    have ds:=wI dn (uy (Z db)) 0 n n (by omega) (aR _) (by simp[maxLen];omega);rw[qw,tL_]at ds;have cj:w.grownBy I none:=aq P (aq L C.2.2);refine⟨.inl ⟨Z q,some ⟨I.heap.size,0,none⟩,n,?_,?_,λx k=>(by cases k;exact cj.size),λgq=>absurd (show n=0 by have:=Z r;omega) (Z eL)⟩,?_⟩
    rw[Z F,<-Z r];rfl;rw[<-Z r,<-Z F];exact ds;exact pB (cJ (dd (aq cj g8) (some I.heap.size)) (aq (aV g9) (Z bt)) (λj e=>.inr rfl)) cj.size
   have c9:∀W,(Op.equalIn 10000 300 (.agg #[.int .u8 s,.int .u8 t,.int .u8 u,.int .u8 v,.int .u8 y,.int .u8 z,.int .u8 A,.int .u8 B]) (.agg #[.int .u8 (aa (cZ key (aE (aT f) 2 N++bS l)) 0),.int .u8 (aa (cZ key (aE (aT f) 2 N++bS l)) 1),.int .u8 (aa (cZ key (aE (aT f) 2 N++bS l)) 2),.int .u8 (aa (cZ key (aE (aT f) 2 N++bS l)) 3),.int .u8 (aa (cZ key (aE (aT f) 2 N++bS l)) 4),.int .u8 (aa (cZ key (aE (aT f) 2 N++bS l)) 5),.int .u8 (aa (cZ key (aE (aT f) 2 N++bS l)) 6),.int .u8 (aa (cZ key (aE (aT f) 2 N++bS l)) 7)])).run prog W=.ok false W:=λW=>by
    rw[bb W];simp only[bj,H,tD]
   have q:¬eC key (aT f) l:=λh=>H h.2.2.1
   clear bb bj H;replace q:=J q;go_wp2_with fail;go_region_held3 (λb=>b.rangeAt w.heap.size 0 (bv key)/\(b.cell? ⟨c,0,none⟩=some (.int .u8 s)/\b.cell? ⟨c,1,none⟩=some (.int .u8 t)/\b.cell? ⟨c,2,none⟩=some (.int .u8 u)/\b.cell? ⟨c,3,none⟩=some (.int .u8 v)/\b.cell? ⟨c,4,none⟩=some (.int .u8 y)/\b.cell? ⟨c,5,none⟩=some (.int .u8 z)/\b.cell? ⟨c,6,none⟩=some (.int .u8 A)/\b.cell? ⟨c,7,none⟩=some (.int .u8 B))/\wc.grownBy b none)
   (with_reducible first|exact C|exact cA)
   (first
     |(go_at_call 173;apply(ux f _).mono;rintro e b⟨rfl,rfl⟩)
     |(go_at_call 172;apply(Z hT _ (by assumption)).mono;rintro e I⟨rfl,g7⟩;rw[wH];have C:=s5 (wc:=wc) (by assumption) g7))
   go_wp2;go_ret3;exact⟨.inr ⟨Z q,rfl⟩,aq P (aq L C.2.2)⟩
  have cC:decide (4611686018427387903<bq l)=true:=by simp;omega
  have q:¬eC key (aT f) l:=λh=>hn h.2.2.2
  replace q:=J q;clear hn;go_wp2_with fail;go_quiet (fail);go_wp2;go_ret3;exact⟨.inr ⟨Z q,rfl⟩,aq P (aq L (dy (aB _ _) _))⟩
