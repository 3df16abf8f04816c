import Derived.Test.YtjnmokmchdfchaaGreatDoorZW5
set_option maxRecDepth 1000000
set_option maxHeartbeats 0
set_option linter.all false
namespace Go.Proofs.YtjnmokmchdfchaaGreatDoor
open Go.RowKit Tryz
attribute[local go_sem↓]Go.wp_at_zero Go.wp_at_succ
variable{A:Addr}{Y:List Rg}{b i j k l m n o:Nat}{a:Option Addr}{x y z:Value}{W w:World}
theorem ko(h:W.cell? A=some y)(a:A.block≠n):(W.setCell ⟨n,o,none⟩ x).cell? A=some y:=
 (lg (w:=W) (cY _ _ _ _ a)).trans h
theorem Ft{d e f:Nat}{g p q u1 u2 u3 u4:Value}(h:W.cell? ⟨m,i,none⟩=some u1/\W.cell? ⟨m,j,none⟩=some u2/\W.cell? ⟨o,k,none⟩=some u3/\W.cell? ⟨o,l,none⟩=some u4)(a:m≠n)(c:o≠n):
 ((((W.setCell ⟨n,b,none⟩ z).setCell ⟨n,d,none⟩ g).setCell ⟨n,e,none⟩ p).setCell ⟨n,f,none⟩ q).cell? ⟨m,i,none⟩=some u1/\((((W.setCell ⟨n,b,none⟩ z).setCell ⟨n,d,none⟩ g).setCell ⟨n,e,none⟩ p).setCell ⟨n,f,none⟩ q).cell? ⟨m,j,none⟩=some u2/\((((W.setCell ⟨n,b,none⟩ z).setCell ⟨n,d,none⟩ g).setCell ⟨n,e,none⟩ p).setCell ⟨n,f,none⟩ q).cell? ⟨o,k,none⟩=some u3/\((((W.setCell ⟨n,b,none⟩ z).setCell ⟨n,d,none⟩ g).setCell ⟨n,e,none⟩ p).setCell ⟨n,f,none⟩ q).cell? ⟨o,l,none⟩=some u4:=
 ⟨ko (ko (ko (ko h.1 a) a) a) a,ko (ko (ko (ko h.2.1 a) a) a) a,ko (ko (ko (ko h.2.2.1 c) c) c) c,ko (ko (ko (ko h.2.2.2 c) c) c) c⟩
theorem Fu(w:World)(sb f:Nat)(o:Ot)(T:jA w sb f o)(H:o.sG=true)(n:Value)(c d:Bool)(p:Int):
 Calls prog 242 #[.pointer (some ⟨sb,f,none⟩),.agg #[n,.bool c,.bool d],.int .i64 p] w λr h=>r=.returned (.tuple #[.agg #[.int .u64 0,.int .u64 0,.bool c,.bool d],.bool (d&&decide (2+bZ o.code+bZ o.aE<=p))])/\w.grownBy h none:=by
 have y:=J (λW(g:w.grownBy W none)=>wF W sb f o (T.ah g));rw[H]at y;have A:=J (λW=>Fq o.aE o.code W);obtain⟨c3,c4,c5,c6,c7,c8,-,-⟩:=T;have I:Hid (sb<w.heap.size):=J (dN w _ c3);clear c4 c5 c6 c7;obtain⟨z,B⟩:=exq (2+bZ o.code+bZ o.aE);rw[<-B]at A⊢;clear B;generalize o.aE=aE at *;generalize o.code=code at *;obtain⟨i,j⟩:=exq (w.alloc (.cells #[n,.bool c,.bool d] 332));have K:w.grownBy i none:=by rw[j];exact aC _ _ _
 have q:i.heap[w.heap.size]?=some (.cells #[n,.bool c,.bool d] 332 (0,0)):=by rw[j];exact aH _ _
 have s:i.heap.size=w.heap.size+1:=by rw[j];simp
 obtain⟨C,k⟩:=exq (i.alloc (.cells #[.int .u64 0,.int .u64 0,.bool false,.bool false] 377));have D:i.grownBy C none:=by rw[k];exact aC _ _ _
 have t:C.heap[w.heap.size+1]?=some (.cells #[.int .u64 0,.int .u64 0,.bool false,.bool false] 377 (0,0)):=by rw[k,<-s];exact aH _ _
 have u:=bf q D;have E:=aj K D;replace q:=J q;replace t:=J t;replace u:=J u;replace s:=J s;go_enter func242,ntmps242;go_wp2_with fail;rw[<-j,<-k];clear j k;refine(Z y _ E).mono ?_;rintro e a⟨rfl,x⟩;have l:=aj E x;have b:=bf (Z t) x;have m:=bf (Z u) x;have d3:=l.cell c3 (by simp);have d8:=l.cell c8 (by simp);have L:a.cell? ⟨w.heap.size,1,none⟩=some (.bool c):=by simp[World.cell?,m]
 have F:a.cell? ⟨w.heap.size,2,none⟩=some (.bool d):=by simp[World.cell?,m]
 have O:a.cell? ⟨w.heap.size,1+1,none⟩=some (.bool d):=F;have P:a.cell? ⟨w.heap.size+1,0,none⟩=some (.int .u64 0):=by simp[World.cell?,b]
 have m1:a.cell? ⟨w.heap.size+1,1,none⟩=some (.int .u64 0):=by simp[World.cell?,b]
 have Q:a.cell? ⟨w.heap.size+1,2,none⟩=some (.bool false):=by simp[World.cell?,b]
 have R:a.cell? ⟨w.heap.size+1,3,none⟩=some (.bool false):=by simp[World.cell?,b]
 have z0:a.frozen? ⟨w.heap.size+1,0,none⟩=false:=by simp[World.frozen?,b]
 have S:a.frozen? ⟨w.heap.size+1,1,none⟩=false:=by simp[World.frozen?,b]
 have z2:a.frozen? ⟨w.heap.size+1,2,none⟩=false:=by simp[World.frozen?,b]
 have U:a.frozen? ⟨w.heap.size+1,3,none⟩=false:=by simp[World.frozen?,b]
 clear c3 c8;replace b:=J b;replace m:=J m;go_wp2_with fail;cases d
 ·go_big_region;go_wp2_with fail;refine cz (v:=.tuple #[.agg #[.int .u64 0,.int .u64 0,.bool c,.bool false],.bool false]) ?_ rfl ⟨rfl,aP (aD (aD (aD (aD (l) _ _ (.inl (df _))) _ _ (.inl (df _))) _ _ (.inl (df _))) _ _ (.inl (df _)))⟩;simp[results,results242,go_sem, *]
 have M:w.grownBy a.drew none:=aP l;have V:sb<w.heap.size:=Z I;have N:w.heap.size≠w.heap.size+1:=by omega
 have n2:sb≠w.heap.size+1:=by omega
 have G:a.drew.cell? ⟨w.heap.size,1,none⟩=some (.bool c)/\a.drew.cell? ⟨w.heap.size,2,none⟩=some (.bool true)/\a.drew.cell? ⟨sb,f+3,none⟩=some (.int .u64 aE)/\a.drew.cell? ⟨sb,f+8,none⟩=some (.int .u64 code):=⟨L,F,d3,d8⟩
 go_region_held3 (λh=>h.cell? ⟨w.heap.size,1,none⟩=some (.bool c)/\h.cell? ⟨w.heap.size,2,none⟩=some (.bool true)/\h.cell? ⟨sb,f+3,none⟩=some (.int .u64 aE)/\h.cell? ⟨sb,f+8,none⟩=some (.int .u64 code))
  (first|with_reducible exact G|exact Ft G N n2)
  (first|(go_at_call 283;refine(Z A _).mono ?_;rintro e X⟨rfl,rfl⟩))
 all_goals go_wp2_with fail
 all_goals
  refine cz (v:=.tuple #[.agg #[.int .u64 0,.int .u64 0,.bool c,.bool true],.bool (decide (z<=p))]) ?_ rfl ⟨by simp,aD (aD (aD (aD (M) _ _ (.inl (df _))) _ _ (.inl (df _))) _ _ (.inl (df _))) _ _ (.inl (df _))⟩
  simp[results,results242,go_sem, *]
theorem Gq(w:World)(sb m:Nat)(o:Ot)(T:jA w sb m o)(k:Int)(x:Rg)(g:Bool):
 Calls prog 243 #[.pointer (some ⟨sb,m,none⟩),.int .i64 k,.agg #[.int .u64 x.lo,.int .u64 x.hi,.bool g,.bool true]] w λe q=>e=.returned (.agg #[.int .i64 4,.int .i64 k,.int .u64 o.aE,.int .u64 o.code,.bool false,.string ⟨#[]⟩,.slice none 0 0])/\w.grownBy q none:=by
 obtain⟨c3,c4,c5,c6,c7,c8,-,-⟩:=T;obtain⟨n,p⟩:=x;obtain⟨c,d⟩:=exq (w.alloc (.cells #[.int .u64 n,.int .u64 p,.bool g,.bool true] 377));have h:w.grownBy c none:=by rw[d];exact aC _ _ _
 have i:c.heap[w.heap.size]?=some (.cells #[.int .u64 n,.int .u64 p,.bool g,.bool true] 377 (0,0)):=by rw[d];exact aH _ _
 have p3:c.cell? ⟨w.heap.size,2+1,none⟩=some (.bool true):=by simp[World.cell?,i]
 have r:c.cell? ⟨w.heap.size,3,none⟩=some (.bool true):=p3;have d3:=h.cell c3 (by simp);have d8:=h.cell c8 (by simp);clear c3 c4 c5 c6 c7 c8;generalize o.aE=aE at *;generalize o.code=code at *;replace i:=J i;have j:c.heap.size=w.heap.size+1:=by rw[d];simp
 obtain⟨a,f⟩:=exq (c.alloc (.cells #[.int .i64 0,.int .i64 0,.int .u64 0,.int .u64 0,.bool false,.string ⟨#[]⟩,.slice none 0 0] 158));have l:c.grownBy a none:=by rw[f];exact aC _ _ _
 have b:a.heap[w.heap.size+1]?=some (.cells #[.int .i64 0,.int .i64 0,.int .u64 0,.int .u64 0,.bool false,.string ⟨#[]⟩,.slice none 0 0] 158 (0,0)):=by rw[f,<-j];exact aH _ _
 have s:=l.cell d3 (by simp);have t:=l.cell d8 (by simp);have u:a.cell? ⟨w.heap.size+1,0,none⟩=some (.int .i64 0):=by simp[World.cell?,b]
 have z0:a.frozen? ⟨w.heap.size+1,0,none⟩=false:=by simp[World.frozen?,b]
 have y:a.cell? ⟨w.heap.size+1,1,none⟩=some (.int .i64 0):=by simp[World.cell?,b]
 have z:a.frozen? ⟨w.heap.size+1,1,none⟩=false:=by simp[World.frozen?,b]
 have A:a.cell? ⟨w.heap.size+1,2,none⟩=some (.int .u64 0):=by simp[World.cell?,b]
 have z2:a.frozen? ⟨w.heap.size+1,2,none⟩=false:=by simp[World.frozen?,b]
 have B:a.cell? ⟨w.heap.size+1,3,none⟩=some (.int .u64 0):=by simp[World.cell?,b]
 have C:a.frozen? ⟨w.heap.size+1,3,none⟩=false:=by simp[World.frozen?,b]
 have D:a.cell? ⟨w.heap.size+1,4,none⟩=some (.bool false):=by simp[World.cell?,b]
 have E:a.frozen? ⟨w.heap.size+1,4,none⟩=false:=by simp[World.frozen?,b]
 have F:a.cell? ⟨w.heap.size+1,5,none⟩=some (.string ⟨#[]⟩):=by simp[World.cell?,b]
 have G:a.frozen? ⟨w.heap.size+1,5,none⟩=false:=by simp[World.frozen?,b]
 have H:a.cell? ⟨w.heap.size+1,6,none⟩=some (.slice none 0 0):=by simp[World.cell?,b]
 have I:a.frozen? ⟨w.heap.size+1,6,none⟩=false:=by simp[World.frozen?,b]
 replace b:=J b;replace j:=J j;go_enter func243,ntmps243;go_wp2_with fail;rw[<-d];clear d;go_wp2_with fail;rw[<-f];clear f d3 d8 p3 r;go_region;go_wp2_with fail;refine cz (v:=.agg #[.int .i64 4,.int .i64 k,.int .u64 aE,.int .u64 code,.bool false,.string ⟨#[]⟩,.slice none 0 0]) ?_ rfl ⟨rfl,aP (aD (aD (aD (aD (aD (aD (aD (aj h l) _ _ (.inl (df _))) _ _ (.inl (df _))) _ _ (.inl (df _))) _ _ (.inl (df _))) _ _ (.inl (df _))) _ _ (.inl (df _))) _ _ (.inl (df _)))⟩;simp[results,results243,go_sem, *]
theorem Gr(w:World)(sb d:Nat)(cs:Array Value)(t:TypeId)(ab:Option Addr)(nb cb:Nat)(ac:Option Addr)(nc cc:Nat)(o:Ot)(u:w.heap[sb]?=some (.cells cs t (0,0)))(H:gE w sb d ab nb cb ac nc cc o.h)(T:jA w sb d o)(k:Int)(x:Rg)(m:Bool)(i j:Nat)(hi:i<=j)(hj:j<=o.h.bytes.length)(C:x.lo=o.h.fr+i)(D:x.hi=o.h.fr+j)(a0:∀y,ab=some y->y.block≠sb)(a8:∀y,ac=some y->y.block≠sb):
 Calls prog 243 #[.pointer (some ⟨sb,d,none⟩),.int .i64 k,.agg #[.int .u64 x.lo,.int .u64 x.hi,.bool m,.bool false]] w λe X=>e=.returned (.agg #[.int .i64 5,.int .i64 k,.int .u64 x.lo,.int .u64 0,.bool m,.string (strOfNums ((o.h.bytes.drop i).take (j-i))),.slice none 0 0])/\w.grownBy X (some sb)/\X.heap[sb]?=some (.cells (cs.setIfInBounds (d+3) (.int .u64 (max o.aE x.hi))) t (0,0)):=by
 have a9:sb<w.heap.size:=(aO.1 u).1;obtain⟨c3,c4,c5,c6,c7,c8,-,-⟩:=T;obtain⟨n,f⟩:=x;simp only at C D⊢;obtain⟨p,z⟩:=exq (w.alloc (.cells #[.int .u64 n,.int .u64 f,.bool m,.bool false] 377));have M:w.grownBy p none:=by rw[z];exact aC _ _ _
 have E:p.heap[w.heap.size]?=some (.cells #[.int .u64 n,.int .u64 f,.bool m,.bool false] 377 (0,0)):=by rw[z];exact aH _ _
 have p3:p.cell? ⟨w.heap.size,3,none⟩=some (.bool false):=by simp[World.cell?,E]
 have N:p.heap.size=w.heap.size+1:=by rw[z];simp
 obtain⟨A,F⟩:=exq (p.alloc (.cells #[.int .i64 0,.int .i64 0,.int .u64 0,.int .u64 0,.bool false,.string ⟨#[]⟩,.slice none 0 0] 158));have G:p.grownBy A none:=by rw[F];exact aC _ _ _
 have O:A.heap[w.heap.size+1]?=some (.cells #[.int .i64 0,.int .i64 0,.int .u64 0,.int .u64 0,.bool false,.string ⟨#[]⟩,.slice none 0 0] 158 (0,0)):=by rw[F,<-N];exact aH _ _
 have I:=bf E G;have p1:A.cell? ⟨w.heap.size,1,none⟩=some (.int .u64 f):=by simp[World.cell?,I]
 have K:=bf (bf u M) G;have d3:=G.cell (M.cell c3 (by simp)) (by simp);have f3:A.frozen? ⟨sb,d+3,none⟩=false:=by simp[World.frozen?,K]
 clear c3 c4 c5 c6 c7 c8;replace C:=J C;replace D:=J D;replace E:=J E;replace O:=J O;replace I:=J I;replace K:=J K;replace u:=J u;replace N:=J N;go_enter func243,ntmps243;go_wp2_with fail;rw[<-z];clear z;go_wp2_with fail;rw[<-F];clear F;go_region;obtain⟨P,Q⟩:=exq (if o.aE<f then f else o.aE);rw[<-Q];have R:max o.aE f=P:=by rw[Q];split<;>omega
 replace R:=J R;obtain⟨c,q⟩:=exq ((A.setCell ⟨sb,d+3,none⟩ (.int .u64 P)).drew);rw[<-q];have S:w.grownBy c (some sb):=by rw[q];exact aP (aD (aj (cO M _) (cO G _)) _ _ (.inr rfl))
 have r:c.heap[sb]?=some (.cells (cs.setIfInBounds (d+3) (.int .u64 P)) t (0,0)):=by rw[q];exact heap_set (Z K) _
 have B:c.heap[w.heap.size]?=some (.cells #[.int .u64 n,.int .u64 f,.bool m,.bool false] 377 (0,0)):=by rw[q];exact(cY _ _ _ _ (by show w.heap.size≠sb;omega)).trans (Z I)
 have U:c.heap[w.heap.size+1]?=some (.cells #[.int .i64 0,.int .i64 0,.int .u64 0,.int .u64 0,.bool false,.string ⟨#[]⟩,.slice none 0 0] 158 (0,0)):=by rw[q];exact(cY _ _ _ _ (by show w.heap.size+1≠sb;omega)).trans (Z O)
 have H3:gE c sb d ab nb cb ac nc cc o.h:=by
  obtain⟨Y,a1,a2,a3,a4,a5⟩:=H;rw[aU (Z u)]at Y a1 a2;refine⟨?_,?_,?_,a3.gb S (λj e=>.inr (.inr (λy ey=>by cases e;exact a0 y ey))),a4.gb S (λy e e'=>a8 y e (by cases e';rfl)),a5⟩
  rw[aU r];simpa [kH]using Y;rw[aU r];simpa [kH]using a1;rw[aU r];simpa [kH]using a2
 clear Q q H d3 f3 p1;have al:=J (λW(g:c.grownBy W none)=>zF W sb d ab nb cb ac nc cc o.h (H3.ah g) i j hi hj n f (Z C) (Z D));obtain⟨l,hl⟩:=exq ((o.h.bytes.drop i).take (j-i));rw[<-hl]at al;have q0:c.cell? ⟨w.heap.size,0,none⟩=some (.int .u64 n):=by simp[World.cell?,B]
 have q1:c.cell? ⟨w.heap.size,1,none⟩=some (.int .u64 f):=by simp[World.cell?,B]
 have q2:c.cell? ⟨w.heap.size,2,none⟩=some (.bool m):=by simp[World.cell?,B]
 replace B:=J B;replace U:=J U;replace r:=J r;replace hl:=J hl;go_wp2_with fail;go_region_with (first|(go_at_call 285;refine(Z al c.drew (aP (av _ _))).mono ?_;rintro e b⟨a5,rfl,V,ax,L⟩;have s:c.grownBy b none:=aj (aP (av _ _)) L;have a:=bf (Z U) s;have bb:=sq (V.ah L);have r0:=s.cell q0 (by simp);have r1:=s.cell q1 (by simp);have r2:=s.cell q2 (by simp);have m0:b.cell? ⟨w.heap.size+1,0,none⟩=some (.int .i64 0):=(by simp[World.cell?,a]);have z0:b.frozen? ⟨w.heap.size+1,0,none⟩=false:=(by simp[World.frozen?,a]);have m1:b.cell? ⟨w.heap.size+1,1,none⟩=some (.int .i64 0):=(by simp[World.cell?,a]);have z1:b.frozen? ⟨w.heap.size+1,1,none⟩=false:=(by simp[World.frozen?,a]);have m2:b.cell? ⟨w.heap.size+1,2,none⟩=some (.int .u64 0):=(by simp[World.cell?,a]);have z2:b.frozen? ⟨w.heap.size+1,2,none⟩=false:=(by simp[World.frozen?,a]);have m3:b.cell? ⟨w.heap.size+1,3,none⟩=some (.int .u64 0):=(by simp[World.cell?,a]);have z3:b.frozen? ⟨w.heap.size+1,3,none⟩=false:=(by simp[World.frozen?,a]);have m4:b.cell? ⟨w.heap.size+1,4,none⟩=some (.bool false):=(by simp[World.cell?,a]);have z4:b.frozen? ⟨w.heap.size+1,4,none⟩=false:=(by simp[World.frozen?,a]);have m5:b.cell? ⟨w.heap.size+1,5,none⟩=some (.string ⟨#[]⟩):=(by simp[World.cell?,a]);have z5:b.frozen? ⟨w.heap.size+1,5,none⟩=false:=(by simp[World.frozen?,a]);have m6:b.cell? ⟨w.heap.size+1,6,none⟩=some (.slice none 0 0):=(by simp[World.cell?,a]);have z6:b.frozen? ⟨w.heap.size+1,6,none⟩=false:=(by simp[World.frozen?,a]);replace a:=J a;replace L:=J L;replace ax:=J ax;replace V:=J V));all_goals go_wp2_with fail
 all_goals
  rw[Z R,<-Z hl]
  refine cz (v:=.agg #[.int .i64 5,.int .i64 k,.int .u64 n,.int .u64 0,.bool m,.string (strOfNums l),.slice none 0 0]) ?_ rfl ⟨rfl,(aD (aD (aD (aD (aD (aD (aD (aj S (cO s _)) _ _ (.inl (df _))) _ _ (.inl (df _))) _ _ (.inl (df _))) _ _ (.inl (df _))) _ _ (.inl (df _))) _ _ (.inl (df _))) _ _ (.inl (df _))),(cY _ _ _ _ (by show sb≠w.heap.size+1;omega)).trans ((cY _ _ _ _ (by show sb≠w.heap.size+1;omega)).trans ((cY _ _ _ _ (by show sb≠w.heap.size+1;omega)).trans ((cY _ _ _ _ (by show sb≠w.heap.size+1;omega)).trans ((cY _ _ _ _ (by show sb≠w.heap.size+1;omega)).trans ((cY _ _ _ _ (by show sb≠w.heap.size+1;omega)).trans ((cY _ _ _ _ (by show sb≠w.heap.size+1;omega)).trans (bf (Z r) s)))))))⟩
  simp[results,results243,go_sem, *]
theorem ba.AH(h:ba w a n k Y)(b:Y≠[]->∀z,a=some z->z.block≠i)(so:Nat)(v:Value):ba (w.setCell ⟨i,so,none⟩ v) a n k Y:=
 h.cW (λhl z c=>cY _ _ _ _ (b hl z c))
theorem HE(w:World)(c b:Nat)(cs:Array Value)(t:TypeId)(a:Option Addr)(n cap:Nat)(l:List Rg)(e g:Bool)(x:Rg)(p j:Bool)(E:w.heap[c]?=some (.cells cs t (0,0)))(c0:cs[b]?=some (.slice a n cap))(c1:cs[b+1]?=some (.bool e))(c2:cs[b+2]?=some (.bool g))(hr:ba w a n cap l)(P:l≠[]->∀y,a=some y->y.block≠c)(a0:aZ l)(hx:x.ok)(hn:n<=1000000):
 Calls prog 241 #[.pointer (some ⟨c,b,none⟩),.agg #[.int .u64 x.lo,.int .u64 x.hi,.bool p,.bool j]] w λr Q=>r=.returned (.tuple #[])/\
  ∃(f:Option Addr)(A B:Nat)(k:List Rg),w.grownBy Q (some c)/\Q.heap[c]?=some (.cells (((cs.setIfInBounds b (.slice f A B)).setIfInBounds (b+1) (.bool (e&& !p))).setIfInBounds (b+2) (.bool (g&& !j))) t (0,0))/\ba Q f A B k/\(f=a\/∀y,f=some y->w.heap.size<=y.block)/\aZ k/\k.length<=l.length+1/\∀m,Sm k m↔Sm l m/\¬(x.lo<=m/\m<x.hi):=by
 have b4:c<w.heap.size:=(aO.1 E).1;obtain⟨u,v⟩:=x;obtain⟨F,R⟩:=exq ((e&& !p));obtain⟨G,S⟩:=exq ((g&& !j));rw[<-R,<-S];have a2:=J (λW=>wE e g p j W);rw[<-R,<-S]at a2;clear R S;obtain⟨d,C⟩:=exq (w.alloc (.cells #[.int .u64 u,.int .u64 v,.bool p,.bool j] 377));have T:w.grownBy d none:=by rw[C];exact aC _ _ _
 have D:d.heap[w.heap.size]?=some (.cells #[.int .u64 u,.int .u64 v,.bool p,.bool j] 377 (0,0)):=by rw[C];exact aH _ _
 have b5:d.heap.size=w.heap.size+1:=by rw[C];simp
 have p0:d.cell? ⟨w.heap.size,0,none⟩=some (.int .u64 u):=by simp[World.cell?,D]
 have p1:d.cell? ⟨w.heap.size,1,none⟩=some (.int .u64 v):=by simp[World.cell?,D]
 have H:=bf E T;have hA:=J (λW(g:d.grownBy W none)=>zi W c b cs t a n cap l ⟨u,v⟩ (bf H g) c0 (hr.ah (aj T g)) P a0 hx hn);replace D:=J D;go_enter func241,ntmps241;go_wp2_with fail;rw[<-C];clear C;go_region_with (first|(go_at_call 281;refine(Z hA d.drew (aP (av _ _))).mono ?_;rintro e i⟨rfl,f,A,B,k,⟨I,hU⟩,a8,q,U,a9,V⟩));go_wp2_with fail;have bb:w.grownBy i (some c):=aj (cO (aP T) _) I;have s:=hU cs t H;have b6:d.heap.size<=i.heap.size:=I.size;have K:i.heap[w.heap.size]?=some (.cells #[.int .u64 u,.int .u64 v,.bool p,.bool j] 377 (0,0)):=(I.block _ (by show w.heap.size<d.heap.size;omega) (λe=>by cases e;omega)).trans (Z D);have X:k≠[]->∀y,f=some y->y.block≠c:=λhl y e=>by
  obtain q|q:=q
  refine P (λe0=>hl ?_) y (q▸e);cases k with
  |nil=>rfl
  |cons r k=>
   have h1:=(V r.lo).1 ⟨r,by simp,fI _,U.2 r (by simp)⟩;rw[e0]at h1;exact absurd h1.1 (ij _)
  have:d.heap.size<=y.block:=q y e;omega
 have br:f=a\/∀y,f=some y->w.heap.size<=y.block:=q.imp id (λh y e=>by have:d.heap.size<=y.block:=h y e;omega);obtain⟨bt,z⟩:=exq (cs.setIfInBounds b (.slice f A B));rw[<-z]at s;have d1:bt[b+1]?=some (.bool e):=by rw[z];simpa [kH]using c1
 have d2:bt[b+1+1]?=some (.bool g):=by rw[z,show b+1+1=b+2 from rfl];simpa [kH]using c2
 have m1:i.cell? ⟨c,b+1,none⟩=some (.bool e):=(aU s _).trans d1;have m2:i.cell? ⟨c,b+1+1,none⟩=some (.bool g):=(aU s _).trans d2;have q2:i.cell? ⟨w.heap.size,2,none⟩=some (.bool p):=by simp[World.cell?,K]
 have q3:i.cell? ⟨w.heap.size,2+1,none⟩=some (.bool j):=by simp[World.cell?,K]
 have b8:i.cell? ⟨w.heap.size,3,none⟩=some (.bool j):=q3;have b0:Hid (∀W,i.grownBy W none->∃(L:Option Addr)(n₁ c₁:Nat)(M:List Rg),w.grownBy ((W.setCell ⟨c,b+1,none⟩ (.bool F)).setCell ⟨c,b+1+1,none⟩ (.bool G)) (some c)/\((W.setCell ⟨c,b+1,none⟩ (.bool F)).setCell ⟨c,b+1+1,none⟩ (.bool G)).heap[c]?=some (.cells (((cs.setIfInBounds b (.slice L n₁ c₁)).setIfInBounds (b+1) (.bool F)).setIfInBounds (b+2) (.bool G)) t (0,0))/\ba ((W.setCell ⟨c,b+1,none⟩ (.bool F)).setCell ⟨c,b+1+1,none⟩ (.bool G)) L n₁ c₁ M/\(L=a\/∀y,L=some y->w.heap.size<=y.block)/\aZ M/\M.length<=l.length+1/\∀m,Sm M m↔Sm l m/\¬(u<=m/\m<v)):=J (λW Y=>
  ⟨f,A,B,k,aD (aD (aj bb (cO Y _)) _ _ (.inr rfl)) _ _ (.inr rfl),by rw[<-z];exact heap_set (heap_set (bf s Y) _) _,((a8.ah Y).AH X _ _).AH X _ _,br,U,a9,V⟩)
 replace s:=J s;replace K:=J K;replace H:=J H;replace E:=J E;replace z:=J z;clear hU hA a8 q br U a9 V hr a0 P X c0 c1 c2 d1 d2 p0 p1 I bb hx;go_region_with (first|(go_at_call 282;refine(Z a2 _).mono ?_;rintro e w5⟨rfl,g5⟩;have N:i.grownBy w5 none:=(aj (aP (av _ _)) g5);have O:=bf (Z s) N;have b1:=N.cell m1 (by simp);have b2:=N.cell m2 (by simp);have z1:w5.frozen? ⟨c,b+1,none⟩=false:=(by simp[World.frozen?,O]);have z2:w5.frozen? ⟨c,b+1+1,none⟩=false:=(by simp[World.frozen?,O]);replace O:=J O));all_goals go_wp2_with fail
 all_goals exact dP (dj rfl _ _ _) rfl ⟨rfl,Z b0 _ N⟩
