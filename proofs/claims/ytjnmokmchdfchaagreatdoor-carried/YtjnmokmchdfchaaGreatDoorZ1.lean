import Derived.Deep.RegionLaw
import Derived.Test.YtjnmokmchdfchaaGreatDoorZ0
set_option maxRecDepth 1000000
set_option maxHeartbeats 8000000
set_option linter.all false
namespace Go.Proofs.YtjnmokmchdfchaaGreatDoor
open Go.RowKit Tryz
attribute[local go_sem↓]Go.wp_at_zero Go.wp_at_succ
section
variable{L:List Int}{b j k n o:Nat}{P S:Nat->Prop}{O a:Option Addr}{N:Option Nat}{T:TypeId}{x y z:Value}{V W v w:World}
theorem Gi(w:World)(a:Nat)(b:a<=w.heap.size):bm (w.alloc (.cells #[] 5)) a (.slice (some ⟨w.heap.size,0,none⟩) 0 0) []:=
 ⟨(λx c=>by cases c),by simp[bv],.inr ⟨w.heap.size,0,#[],rfl,b,aM w _,aP _,by simp[maxLen],by simp,by simp[bv]⟩⟩
theorem Gk(w:World):(binOp .eql 112 (.slice none 0 0) (.slice none 0 0)).run prog w=.ok (.bool true) w:=by
 have h:∀d:Nat,(Op.equalIn (d+1) 112 (.slice none 0 0) (.slice none 0 0)).run prog w=.ok true w:=λd=>by
  simp[Op.equalIn,uK underlying112]
 simp only[binOp]
 simp[Op.equal,Op.maxDepth,h 9999]
theorem Gl(w:World)(y:Addr)(n c:Nat):(binOp .eql 112 (.slice (some y) n c) (.slice none 0 0)).run prog w=.ok (.bool false) w:=by
 have h:∀d:Nat,(Op.equalIn (d+1) 112 (.slice (some y) n c) (.slice none 0 0)).run prog w=.ok false w:=λd=>by
  simp[Op.equalIn,uK underlying112]
 simp only[binOp]
 simp[Op.equal,Op.maxDepth,h 9999]
theorem Gm(a:Option Addr)(n c:Nat)(l:List Int)(w:World)(f:bF w a n c l)(hl:l.length<=2000000):
 Calls prog 259 #[.slice a n c] w λe g=>(∃i j,e=.returned (.slice i n j)/\bm g w.heap.size (.slice i n j) l)/\w.grownBy g none:=by
 obtain⟨R,d⟩:∃R:Ending->World->Prop,R=λe g=>(∃i j,e=.returned (.slice i n j)/\bm g w.heap.size (.slice i n j) l)/\w.grownBy g none:=⟨_,rfl⟩
 rw[<-d];replace d:=J d;have m:n=l.length:=f.2.1;cases a with
 |none=>
  have t:n=0:=by
   obtain⟨-,-,u,-,⟨-,h⟩|⟨b,o,h,-⟩⟩:=f;omega;cases h
  have v:c=0:=by
   obtain⟨-,-,u,-,⟨-,h⟩|⟨b,o,h,-⟩⟩:=f;exact h;cases h
  subst t v;have x:l=[]:=iF (by omega);subst x;have p:Hid (R (.returned (.slice none 0 0)) w):=J (by rw[Z d];exact⟨⟨none,0,rfl,bm.nil _ _⟩,aB _ _⟩);have z:=Gk;clear f hl m d;go_enter func259,ntmps259;go_wp2_with fail;exact Z p
 |some y=>
  have q:=J (Gi w w.heap.size (aP _));have A:=J (f.ao (aH w (.cells #[] 5) none));replace m:=J m;have z:=λW=>Gl W y n c
  go_enter func259,ntmps259;go_wp2_with (at_builtin;refine rG (by rfl) _ _ (by rfl) w.heap.size _ [] (by rfl) (Z q) _ _ _ l (by rfl) (Z A) (by simp;omega) (by simp) ?_;intro r c3 B s C _;simp only[fB,dR,jQ]at s⊢);have p:R (.returned (.slice r l.length c3)) B:=by
   rw[Z d];refine⟨⟨r,c3,by rw[Z m],?_⟩,cF (aH w (.cells #[] 5) none) C (λk e=>.inl ((Z q).lt k e).1)⟩
   rw[Z m];simpa using s
  exact p
theorem bm.low{b2:Nat}(h:bm w n x L)(b:b2<=n):bm w b2 x L:=by
 obtain⟨c,d,a⟩:=h;refine⟨c,d,?_⟩
 obtain a|⟨g,cap,cur,e1,e2,e⟩:=a
 exact .inl a;exact .inr ⟨g,cap,cur,e1,bD b e2,e⟩
theorem bm.ai{sb:Nat}(h:bm w n x L)(a:x.ownBlock≠some sb)(so:Nat)(u:Value):bm (w.setCell ⟨sb,so,none⟩ u) n x L:=
 h.gb (aI (aB w (some sb)) ⟨sb,so,none⟩ u (.inr rfl)) (.inr a)
theorem Av(h:BS w b o L)(n:Nat):BS w b (o+n) (L.drop n):=by
 refine⟨λi hi=>?_,λx a=>h.2 x (iG a)⟩
 rw[dF]at hi;have:=h.1 (n+i) (by omega);rw[show o+n+i=o+(n+i) by omega,this];simp[kG]
theorem rL:prog.elem 112=5:=by kernel_rfl
theorem xE(W:World):(sizeOf 5).run prog W=.ok 1 W:=by kernel_rfl
theorem Gn(a:Option Addr)(n cap j:Nat)(h:j<=n)(W:World):(Instr.slice 112 (.slice a n cap) (some (.int .i64 (j:Int))) none none).run prog W=.ok (.slice (if cap=j then a else a.map (·.add j)) (n-j) (cap-j)) W:=by
 rw[run_slice_l W 112 a n cap (by rw[rL];exact underlying112) .i64 (j:Int) (by omega) (by omega),rL,xE];simp only[iT,sliced,nE,Nat.mul_one]
theorem Gp(h:bF w a n k L)(d:∀z,a=some z->z.block≠j)(so:Nat)(v:Value):bF (w.setCell ⟨j,so,none⟩ v) a n k L:=by
 obtain⟨e,f,g,l,c⟩:=h;refine⟨e,f,g,l,?_⟩
 obtain c|⟨b,o,rfl,c⟩:=c
 exact .inl c;exact .inr ⟨b,o,rfl,λi hi=>(lH (w:=w) (a:=⟨b,o+i,none⟩) (dy _ _ _ _ (d _ rfl))).trans (c.1 i hi),c.2⟩
theorem xF(h:bF w a n k L)(j:Nat)(m:j<=n)(d:k-j=0/\O=a\/∃b o,a=some ⟨b,o,none⟩/\O=some ⟨b,o+j,none⟩):(k-j=0->O=none\/∃b o,O=some ⟨b,o,none⟩)->bF w O (n-j) (k-j) (L.drop j):=by
 intro g;obtain⟨l,p,q,r,c⟩:=h;refine⟨λx f=>l x (iG f),by rw[dF];omega,by omega,by omega,?_⟩
 obtain⟨d,rfl⟩|⟨b,o,rfl,rfl⟩:=d
 obtain rfl|⟨b,o,rfl⟩:=g d
 exact .inl ⟨rfl,d⟩;refine .inr ⟨b,o,rfl,?_⟩;have:L.drop j=[]:=iF (by rw[dF];omega);rw[this];exact⟨λi hi=>by simp at hi,λx f=>by simp at f⟩
 obtain⟨c,-⟩|⟨s,t,e,c⟩:=c
 cases c;cases e;exact .inr ⟨_,_,rfl,Av c j⟩
theorem Aw(w:World)(sb ho:Nat)(cs:Array Value)(t:TypeId)(ab:Option Addr)(nb cb:Nat)(ac:Option Addr)(nc cc:Nat)(h:Hd)(K:w.heap[sb]?=some (.cells cs t (0,0)))(H:gK w sb ho ab nb cb ac nc cc h)(k:Nat)(hk:h.fr+k<=4611686018427387903)(ax:∀y,ab=some y->y.block≠sb):
 Calls prog 221 #[.pointer (some ⟨sb,ho,none⟩),.int .i64 (k:Int)] w λe O=>e=.returned (.tuple #[])/\∃P E,w.grownBy O (some sb)/\O.heap[sb]?=some (.cells ((cs.setIfInBounds ho (.int .u64 (h.fr+k))).setIfInBounds (ho+1) (.slice P (h.bytes.drop k).length E)) t (0,0))/\bm O w.heap.size (.slice P (h.bytes.drop k).length E) (h.bytes.drop k)/\(∀y,P=some y->w.heap.size<=y.block):=by
 obtain⟨c0,c1,c2,r,-,⟨k0,k1,-,k3,-⟩⟩:=H;obtain⟨fr,bytes,af⟩:=h;simp only at *;have F:nb=bytes.length:=r.2.1;have f0:w.frozen? ⟨sb,ho,none⟩=false:=by simp[World.frozen?,K]
 have hw:IntKind.u64.wrap (fr+(k:Int))=fr+(k:Int):=by rw[fh];omega
 have a8:IntKind.u64.wrap (k:Int)=(k:Int):=by rw[fh];omega
 obtain⟨a,s⟩:=exq (w.setCell ⟨sb,ho,none⟩ (.int .u64 (fr+(k:Int))));have L:w.grownBy a (some sb):=by rw[s];exact aI (aB _ _) _ _ (.inr rfl)
 have p:a.heap[sb]?=some (.cells (cs.setIfInBounds ho (.int .u64 (fr+(k:Int)))) t (0,0)):=by rw[s];exact heap_set K _
 have M:a.cell? ⟨sb,ho+1,none⟩=some (.slice ab nb cb):=by
  simp only[World.cell?,K]at c1;simp only[World.cell?,p]
  rw[bg (by omega)];exact c1
 have u:bF a ab nb cb bytes:=by rw[s];exact Gp r ax ho _
 obtain⟨j,V⟩:=exq (min k nb);have N:j<=nb:=by omega
 obtain⟨v,d⟩:=exq ((if cb=j then ab else ab.map (·.add j)));have iZ:∀W,(Instr.slice 112 (.slice ab nb cb) (some (.int .i64 (j:Int))) none none).run prog W=.ok (.slice v (nb-j) (cb-j)) W:=λW=>by rw[d];exact Gn _ nb cb j N W
 have Q:bF a v (nb-j) (cb-j) (bytes.drop j):=by
  have aC:=u.2.2.1;obtain⟨-,-,-,-,⟨rfl,h0⟩|⟨b,o,rfl,-⟩⟩:=id u;refine xF u j N (.inl ⟨by omega,by rw[d];split<;>rfl⟩) (λ_=>.inl (by rw[d];split<;>rfl));by_cases R:cb=j;refine xF u j N (.inl ⟨by omega,by rw[d,az R]⟩) (λ_=>.inr ⟨b,o,by rw[d,az R]⟩);refine xF u j N (.inr ⟨b,o,rfl,by rw[d,ah R];simp only[rD,Addr.add_mid]⟩) (λh=>by omega)
 have S:bytes.drop j=bytes.drop k:=by
  by_cases a0:k<=nb;rw[show j=k by omega];rw[uA (by omega),uA (by omega)]
 have D:nb-j=(bytes.drop k).length:=by rw[<-S,dF,F]
 have G:=J (λW(g:a.grownBy W none)(X E:Nat)(e1:X=nb-j)(e2:E=cb-j)=>Gm v X E (bytes.drop j) W (by rw[e1,e2];exact Q.ao g) (by rw[dF];omega));have a9:sb<w.heap.size:=(aY.1 K).1;have i:a.heap.size=w.heap.size:=by rw[s];simp[World.setCell]
 replace S:=J S;replace D:=J D;replace r:=J r;replace u:=J u;replace Q:=J Q;replace F:=J F;replace d:=J d;have Y:min (k:Int) (nb:Int)=(j:Int):=by omega
 have bb:a.grownBy a.drew (some sb):=aW (aB _ _);go_enter func221,ntmps221;go_wp2_with fail;rw[<-s];replace s:=J s;have i1:(j:Int)<=(nb:Int):=by omega
 have aC:=(Z r).2.2.1;clear iZ;replace i:=J i;by_cases a0:k<=nb
 ·have d1:decide ((k:Int)<=(nb:Int))=true:=bK (by omega);have d2:decide ((nb:Int)<(k:Int))=false:=bI (by omega);obtain rfl:j=k:=by omega
  clear V Y;by_cases I:cb=j
  ·have x:v=ab:=by rw[Z d,az I]
   subst x;clear d;go_region_with (first|(go_at_call 259;refine(Z G _ (aW (aB _ _)) _ _ (by omega) (by omega)).mono ?_;rintro e l⟨⟨a5,c5,rfl,f⟩,z⟩;have c:a.grownBy l none:=(aq (aW (aB _ _)) z);have T:=c.cell M (by simp);have f5:l.frozen? ⟨sb,ho+1,none⟩=false:=(by simp[World.frozen?,bA p c])));all_goals
    have A:∀y,a5=some y->w.heap.size<=y.block:=λy B=>by
     have U:a.drew.heap.size<=y.block:=(f.lt y.block (by rw[B];rfl)).1;have m:=Z i;have n:a.drew.heap.size=a.heap.size:=rfl;omega
    refine eW (et rfl _ _ _) rfl ⟨rfl,a5,c5,aq L (aI (cX c _) _ _ (.inr rfl)),?_,?_,A⟩
    rw[<-Z D];exact heap_set (bA p c) _
    have C:=(f.low (b2:=w.heap.size) (by have m:=Z i;have n:a.drew.heap.size=a.heap.size:=rfl;omega)).ai (sb:=sb) (λe=>by have:=(f.lt _ e).1;have m:=Z i;have n:a.drew.heap.size=a.heap.size:=rfl;omega) (ho+1) (.slice a5 (nb-j) c5)
    rw[<-Z D]
    exact C
  obtain⟨b,o,rfl⟩:∃b o,ab=some ⟨b,o,none⟩:=by
   obtain⟨-,-,-,-,⟨-,h0⟩|⟨b,o,rfl,-⟩⟩:=Z r;omega;exact⟨b,o,rfl⟩
  have x:v=some ⟨b,o+j,none⟩:=by rw[Z d,ah I];simp only[rD,Addr.add_mid]
  subst x;clear d;go_region_with (first|(go_at_call 259;refine(Z G _ (aW (aB _ _)) _ _ (by omega) (by omega)).mono ?_;rintro e l⟨⟨a5,c5,rfl,f⟩,z⟩;have c:a.grownBy l none:=(aq (aW (aB _ _)) z);have T:=c.cell M (by simp);have f5:l.frozen? ⟨sb,ho+1,none⟩=false:=(by simp[World.frozen?,bA p c])));all_goals
   have A:∀y,a5=some y->w.heap.size<=y.block:=λy B=>by
    have U:a.drew.heap.size<=y.block:=(f.lt y.block (by rw[B];rfl)).1;have m:=Z i;have n:a.drew.heap.size=a.heap.size:=rfl;omega
   refine eW (et rfl _ _ _) rfl ⟨rfl,a5,c5,aq L (aI (cX c _) _ _ (.inr rfl)),?_,?_,A⟩
   rw[<-Z D];exact heap_set (bA p c) _
   have C:=(f.low (b2:=w.heap.size) (by have m:=Z i;have n:a.drew.heap.size=a.heap.size:=rfl;omega)).ai (sb:=sb) (λe=>by have:=(f.lt _ e).1;have m:=Z i;have n:a.drew.heap.size=a.heap.size:=rfl;omega) (ho+1) (.slice a5 (nb-j) c5)
   rw[<-Z D]
   exact C
 have d1:decide ((k:Int)<=(nb:Int))=false:=bI (by omega);have d2:decide ((nb:Int)<(k:Int))=true:=bK (by omega);obtain rfl:j=nb:=by omega
 clear V Y;have q:bytes.drop k=[]/\(bytes.drop k).length=0:=by
  have hd:bytes.drop k=[]:=uA (by have:=Z F;omega);exact⟨hd,by rw[hd];rfl⟩
 have al:bytes.drop j=[]:=uA (by have:=Z F;omega);rw[al]at G;clear al;replace q:=J q;by_cases I:cb=j
 ·have x:v=ab:=by rw[Z d,az I]
  subst x;clear d;go_region_with (first|(go_at_call 259;refine(Z G _ (aW (aB _ _)) _ _ (by omega) (by omega)).mono ?_;rintro e l⟨⟨a5,c5,rfl,f⟩,z⟩;have c:a.grownBy l none:=(aq (aW (aB _ _)) z);have T:=c.cell M (by simp);have f5:l.frozen? ⟨sb,ho+1,none⟩=false:=(by simp[World.frozen?,bA p c])));all_goals
   have A:∀y,a5=some y->w.heap.size<=y.block:=λy B=>by
    have U:a.drew.heap.size<=y.block:=(f.lt y.block (by rw[B];rfl)).1;have m:=Z i;have n:a.drew.heap.size=a.heap.size:=rfl;omega
   refine eW (et rfl _ _ _) rfl ⟨rfl,a5,c5,aq L (aI (cX c _) _ _ (.inr rfl)),?_,?_,A⟩
   rw[(Z q).2];exact heap_set (bA p c) _
   have C:=(f.low (b2:=w.heap.size) (by have m:=Z i;have n:a.drew.heap.size=a.heap.size:=rfl;omega)).ai (sb:=sb) (λe=>by have:=(f.lt _ e).1;have m:=Z i;have n:a.drew.heap.size=a.heap.size:=rfl;omega) (ho+1) (.slice a5 0 c5)
   rw[(Z q).2,(Z q).1]
   exact C
 obtain⟨b,o,rfl⟩:∃b o,ab=some ⟨b,o,none⟩:=by
  obtain⟨-,-,-,-,⟨-,h0⟩|⟨b,o,rfl,-⟩⟩:=Z r;omega;exact⟨b,o,rfl⟩
 have x:v=some ⟨b,o+j,none⟩:=by rw[Z d,ah I];simp only[rD,Addr.add_mid]
 subst x;clear d;go_region_with (first|(go_at_call 259;refine(Z G _ (aW (aB _ _)) _ _ (by omega) (by omega)).mono ?_;rintro e l⟨⟨a5,c5,rfl,f⟩,z⟩;have c:a.grownBy l none:=(aq (aW (aB _ _)) z);have T:=c.cell M (by simp);have f5:l.frozen? ⟨sb,ho+1,none⟩=false:=(by simp[World.frozen?,bA p c])));all_goals
  have A:∀y,a5=some y->w.heap.size<=y.block:=λy B=>by
   have U:a.drew.heap.size<=y.block:=(f.lt y.block (by rw[B];rfl)).1;have m:=Z i;have n:a.drew.heap.size=a.heap.size:=rfl;omega
  refine eW (et rfl _ _ _) rfl ⟨rfl,a5,c5,aq L (aI (cX c _) _ _ (.inr rfl)),?_,?_,A⟩
  rw[(Z q).2];exact heap_set (bA p c) _
  have C:=(f.low (b2:=w.heap.size) (by have m:=Z i;have n:a.drew.heap.size=a.heap.size:=rfl;omega)).ai (sb:=sb) (λe=>by have:=(f.lt _ e).1;have m:=Z i;have n:a.drew.heap.size=a.heap.size:=rfl;omega) (ho+1) (.slice a5 0 c5)
  rw[(Z q).2,(Z q).1]
  exact C
structure Ot where
 h:Hd
 aA:Int
 sE:Bool
 sG:Bool
 tE:Bool
 tG:Bool
 code:Int
def jU(w:World)(sb a:Nat)(o:Ot):Prop:=
 w.cell? ⟨sb,a+3,none⟩=some (.int .u64 o.aA)/\w.cell? ⟨sb,a+4,none⟩=some (.bool o.sE)/\w.cell? ⟨sb,a+5,none⟩=some (.bool o.sG)/\w.cell? ⟨sb,a+6,none⟩=some (.bool o.tE)/\w.cell? ⟨sb,a+7,none⟩=some (.bool o.tG)/\w.cell? ⟨sb,a+8,none⟩=some (.int .u64 o.code)/\aV o.aA/\aV o.code
theorem xG(e g x y:Bool)(w:World):Calls prog 282 #[.agg #[.bool e,.bool g],.agg #[.bool x,.bool y]] w λr a=>r=.returned (.agg #[.bool (e&& !x),.bool (g&& !y)])/\w.grownBy a none:=by
 cases e<;>cases g;all_goals
  go_enter func282,ntmps282
  go_wp2_with fail
  refine cA (v:=.agg #[.bool (_&& !x),.bool (_&& !y)]) ?_ rfl ⟨rfl,?_⟩
  ·simp[results,results282,go_sem]
  exact ba (ba (ba (aB _ _) _) _) _
theorem xH(w:World)(sb a:Nat)(o:Ot)(H:jU w sb a o):Calls prog 153 #[.pointer (some ⟨sb,a,none⟩)] w λr b=>r=.returned (.bool o.sG)/\w.grownBy b none:=by
 obtain⟨c3,c4,c5,c6,c7,c8,-,-⟩:=H;go_enter func153,ntmps153;go_wp2_with fail;first
  |go_quiet (fail)
  |skip
 go_wp2_with fail;go_ret;exact⟨rfl,by repeat(first|exact aB _ _|apply di|apply aW|apply ba)⟩
theorem Gq(w:World)(sb a:Nat)(o:Ot)(H:jU w sb a o):Calls prog 195 #[.pointer (some ⟨sb,a,none⟩)] w λr b=>r=.returned (.bool (o.sE||o.sG))/\w.grownBy b none:=by
 obtain⟨c3,c4,c5,c6,c7,c8,-,-⟩:=H;generalize o.sE=e at *;generalize o.sG=g at *;cases e<;>cases g<;>
 (go_enter func195,ntmps195
  go_wp2_with fail
  first
   |go_quiet (fail)
   |skip
  go_wp2_with fail
  go_ret
  exact⟨rfl,by repeat(first|exact aB _ _|apply di|apply aW|apply ba)⟩)
theorem Gr(w:World)(sb a:Nat)(fr:Int)(h0:w.cell? ⟨sb,a,none⟩=some (.int .u64 fr))(c:0<=fr/\fr<=4611686018427387903):Calls prog 169 #[.pointer (some ⟨sb,a,none⟩)] w λr b=>r=.returned (.int .i64 fr)/\w.grownBy b none:=by
 have d:IntKind.i64.wrap fr=fr:=by simp[IntKind.wrap,IntKind.bits,IntKind.signed];omega
 go_enter func169,ntmps169;go_wp2_with fail;first
  |go_quiet (fail)
  |skip
 go_wp2_with fail;go_ret;exact⟨rfl,by repeat(first|exact aB _ _|apply di|apply aW|apply ba)⟩
theorem Gs(w:World)(sb a:Nat)(cs:Array Value)(t:TypeId)(o:Ot)(b:w.heap[sb]?=some (.cells cs t (0,0)))(H:jU w sb a o):Calls prog 151 #[.pointer (some ⟨sb,a,none⟩)] w λr c=>r=.returned (.tuple #[])/\w.grownBy c (some sb)/\c.heap[sb]?=some (.cells (cs.setIfInBounds (a+4) (.bool true)) t (0,0)):=by
 obtain⟨c3,c4,c5,c6,c7,c8,-,-⟩:=H;have f4:w.frozen? ⟨sb,a+4,none⟩=false:=by simp[World.frozen?,b]
 go_enter func151,ntmps151;go_wp2_with fail;exact eW (et rfl _ _ _) rfl ⟨rfl,aI (aB _ _) _ _ (.inr rfl),heap_set b _⟩
variable{f:Ot}
theorem jU.ao(H:jU w n k f)(g:w.grownBy W none):jU W n k f:=
 ⟨g.cell H.1 (by simp),g.cell H.2.1 (by simp),g.cell H.2.2.1 (by simp),g.cell H.2.2.2.1 (by simp),g.cell H.2.2.2.2.1 (by simp),g.cell H.2.2.2.2.2.1 (by simp),H.2.2.2.2.2.2⟩
def Ot.uE(o:Ot):Bool:=o.sE&& !o.tE
def Ot.uG(o:Ot):Bool:=o.sG&& !o.tG
theorem Ax(w:World)(sb i:Nat)(o:Ot)(H:jU w sb i o):Calls prog 279 #[.pointer (some ⟨sb,i,none⟩)] w λr n=>r=.returned (.agg #[.bool o.uE,.bool o.uG])/\w.grownBy n none:=by
 obtain⟨c3,c4,c5,c6,c7,c8,-,-⟩:=H;have j:=J (λW=>xG o.sE o.sG o.tE o.tG W);obtain⟨uE,f⟩:=exq o.uE;obtain⟨uG,g⟩:=exq o.uG;have k:(o.sE&& !o.tE)=uE:=f.symm;have l:(o.sG&& !o.tG)=uG:=g.symm;rw[k,l]at j;rw[<-f,<-g];clear f g k l;obtain⟨h,c⟩:=exq (w.alloc (.cells #[.bool false,.bool false] 231));have a:w.grownBy h none:=by rw[c];exact aH _ _ _
 have p:h.heap[w.heap.size]?=some (.cells #[.bool false,.bool false] 231 (0,0)):=by rw[c];exact aM _ _
 replace c4:=a.cell c4 (by simp);replace c5:=a.cell c5 (by simp);replace c6:=a.cell c6 (by simp);replace c7:=a.cell c7 (by simp);clear c3 c8;generalize o.sE=e1 at *;generalize o.sG=e2 at *;generalize o.tE=s at *;generalize o.tG=t at *;go_enter func279,ntmps279;go_wp2_with fail;rw[<-c];clear c;go_region_with (first|(go_at_call 282;refine(Z j _).mono ?_;rintro e b⟨rfl,q⟩;have m:h.grownBy b none:=(aq (aW (aB _ _)) q);have d:=bA p m;have u:b.cell? ⟨w.heap.size,0,none⟩=some (.bool false):=(by simp[World.cell?,d]);have b1:b.cell? ⟨w.heap.size,1,none⟩=some (.bool false):=(by simp[World.cell?,d]);have x:b.frozen? ⟨w.heap.size,0,none⟩=false:=(by simp[World.frozen?,d]);have y:b.frozen? ⟨w.heap.size,1,none⟩=false:=(by simp[World.frozen?,d])));all_goals go_wp2_with fail
 all_goals
  refine cA (v:=.agg #[.bool uE,.bool uG]) ?_ rfl ⟨rfl,aI (aI (aq a m) _ _ (.inl (aP _))) _ _ (.inl (aP _))⟩
  simp[results,results279,go_sem, *]
theorem Gt(w:World)(sb a:Nat)(cs:Array Value)(t:TypeId)(ab:Option Addr)(nb cb:Nat)(o:Ot)(code:Int)(b:w.heap[sb]?=some (.cells cs t (0,0)))(d:w.cell? ⟨sb,a+1,none⟩=some (.slice ab nb cb))(H:jU w sb a o):
 Calls prog 154 #[.pointer (some ⟨sb,a,none⟩),.int .u64 code] w λr c=>r=.returned (.tuple #[])/\w.grownBy c (some sb)/\c.heap[sb]?=some (.cells ((((cs.setIfInBounds (a+4) (.bool false)).setIfInBounds (a+5) (.bool true)).setIfInBounds (a+8) (.int .u64 code)).setIfInBounds (a+1) (.slice none 0 0)) t (0,0)):=by
 obtain⟨c3,c4,c5,c6,c7,c8,-,-⟩:=H;have f1:w.frozen? ⟨sb,a+1,none⟩=false:=by simp[World.frozen?,b]
 have f4:w.frozen? ⟨sb,a+4,none⟩=false:=by simp[World.frozen?,b]
 have f5:w.frozen? ⟨sb,a+5,none⟩=false:=by simp[World.frozen?,b]
 have f8:w.frozen? ⟨sb,a+8,none⟩=false:=by simp[World.frozen?,b]
 have G:w.grownBy ((((w.setCell ⟨sb,a+4,none⟩ (.bool false)).setCell ⟨sb,a+4+1,none⟩ (.bool true)).setCell ⟨sb,a+8,none⟩ (.int .u64 code)).setCell ⟨sb,a+1,none⟩ (.slice none 0 0)) (some sb):=
  aI (aI (aI (aI (aB w (some sb)) ⟨sb,a+4,none⟩ (.bool false) (.inr rfl)) ⟨sb,a+4+1,none⟩ (.bool true) (.inr rfl)) ⟨sb,a+8,none⟩ (.int .u64 code) (.inr rfl)) ⟨sb,a+1,none⟩ (.slice none 0 0) (.inr rfl)
 have B:((((w.setCell ⟨sb,a+4,none⟩ (.bool false)).setCell ⟨sb,a+4+1,none⟩ (.bool true)).setCell ⟨sb,a+8,none⟩ (.int .u64 code)).setCell ⟨sb,a+1,none⟩ (.slice none 0 0)).heap[sb]?=some (.cells ((((cs.setIfInBounds (a+4) (.bool false)).setIfInBounds (a+4+1) (.bool true)).setIfInBounds (a+8) (.int .u64 code)).setIfInBounds (a+1) (.slice none 0 0)) t (0,0)):=
  heap_set (heap_set (heap_set (heap_set b _) _) _) _
 replace G:=J G;replace B:=J B;rw[show a+5=a+4+1 from rfl];go_enter func154,ntmps154;go_wp2_with fail;exact eW (et rfl _ _ _) rfl ⟨rfl,Z G,Z B⟩
structure av(w a:World)(S:Nat->Prop):Prop where
 os:a.os=w.os
 tape:a.tape=w.tape
 output:a.output=w.output
 size:w.heap.size<=a.heap.size
 block:∀k,k<w.heap.size->¬S k->a.heap[k]?=w.heap[k]?
theorem av.of(g:w.grownBy W N):av w W (λk=>N=some k):=
 ⟨g.os,g.tape,g.output,g.size,λk a h=>g.block k a (λe=>h e.symm)⟩
theorem av.trans(h:av w W S)(k:av W v P):av w v (λi=>S i\/P i):=
 ⟨k.os.trans h.os,k.tape.trans h.tape,k.output.trans h.output,bD h.size k.size,λi hi a=>(k.block i (bY hi h.size) (λe=>a (.inr e))).trans (h.block i hi (λe=>a (.inl e)))⟩
theorem av.mono(h:av w W S)(b:∀k,k<w.heap.size->S k->P k):av w W P:=
 ⟨h.os,h.tape,h.output,h.size,λk a c=>h.block k a (λe=>c (b k a e))⟩
theorem av.gb(h:av w W S)(b:∀k,k<w.heap.size->S k->N=some k):w.grownBy W N:=
 ⟨h.os,h.tape,h.output,h.size,λk a c=>h.block k a (λe=>c (b k a e).symm)⟩
theorem av.rfl'(w:World)(S:Nat->Prop):av w w S:=⟨rfl,rfl,rfl,aP _,λ_ _ _=>rfl⟩
theorem Ay(w:World)(sb ho:Nat)(ab:Option Addr)(nb cb:Nat)(ac:Option Addr)(nc cc:Nat)(h:Hd)(H:gK w sb ho ab nb cb ac nc cc h):
 Calls prog 196 #[.pointer (some ⟨sb,ho,none⟩)] w λe c=>e=.returned (.int .u64 (h.fr+h.bytes.length))/\∃k,c=w.drewN k:=by
 obtain⟨c0,c1,c2,a,-,⟨f,d,-,k3,-⟩⟩:=H;obtain⟨fr,bytes,af⟩:=h;simp only at *;have b:nb=bytes.length:=a.2.1;rw[<-b]at d k3⊢;clear b a;have g:IntKind.u64.wrap (fr+(nb:Int))=fr+(nb:Int):=by rw[fh];omega
 go_enter func196,ntmps196;go_wp2_with fail;go_quiet (fail);go_wp2_with fail;go_ret;exact⟨rfl,_,rfl⟩
theorem Gu(a:Option Addr)(n cap i:Nat)(h:i<=cap)(W:World):(Instr.slice 112 (.slice a n cap) none (some (.int .i64 (i:Int))) none).run prog W=.ok (.slice a i cap) W:=by
 rw[run_slice_h W 112 a n cap (by rw[rL];exact underlying112) .i64 (i:Int) (by omega) (by omega),rL,xE];simp only[iT,sliced,nE,nG,Nat.sub_zero]
 congr 1;cases a with
 |none=>simp
 |some y=>simp[Addr.add]
theorem xI(h:BS w b o L)(n:Nat):BS w b o (L.take n):=by
 refine⟨λi hi=>?_,λx a=>h.2 x (iS a)⟩
 rw[ct]at hi;rw[h.1 i (by omega)];simp[jA,show i<n by omega]
theorem Gv(h:bF w a n k L)(m:Nat)(g:m<=n):bF w a m k (L.take m):=by
 obtain⟨d,i,j,e,c⟩:=h;refine⟨λx f=>d x (iS f),by rw[ct];omega,by omega,e,?_⟩
 obtain c|⟨b,o,rfl,c⟩:=c
 exact .inl c;exact .inr ⟨b,o,rfl,xI c m⟩
theorem Gw(w:World)(sb b i:Nat)(cs:Array Value)(t:TypeId)(ab:Option Addr)(nb cb:Nat)(ac:Option Addr)(nc cc:Nat)(h:Hd)(j:w.heap[sb]?=some (.cells cs t (0,0)))(H:gK w sb b ab nb cb ac nc cc h)(ho:bm w i (.slice ab nb cb) h.bytes)(L:i<=w.heap.size)(M:∀y,ab=some y->y.block≠sb)
 (f:Option Addr) (nx d:Nat) (l:List Int) (hl:bF w f nx d l) (ag:Int) (N:(h.bytes.length:Int)<=ag/\ag<=1000000) (O:h.fr+h.bytes.length<=4096) (m:Nat) (c:(m:Int)=min (min (l.length:Int) (ag-h.bytes.length)) (4096-(h.fr+h.bytes.length))):
 Calls prog 150 #[.pointer (some ⟨sb,b,none⟩),.slice f nx d,.int .i64 ag] w λr v=>r=.returned (.int .i64 (m:Int))/\∃n p q,bm v i (.slice n p q) (h.bytes++l.take m)/\av w v (λk=>k=sb\/(Value.slice ab nb cb).ownBlock=some k)/\v.heap[sb]?=some (.cells (cs.setIfInBounds (b+1) (.slice n p q)) t (0,0))/\((Value.slice n p q).ownBlock=(Value.slice ab nb cb).ownBlock\/∀k,(Value.slice n p q).ownBlock=some k->w.heap.size<=k):=by
 have D:=J (λk=>Ay (w.drewN k) sb b ab nb cb ac nc cc h (H.ao (di (aB _ _) k)));obtain⟨c0,c1,c2,x,-,⟨k0,P,-,k3,-⟩⟩:=H;obtain⟨fr,bytes,af⟩:=h;simp only at *;have s:nb=bytes.length:=x.2.1;have z:nx=l.length:=hl.2.1;rw[<-s]at D c N O P k3;rw[<-z]at c;go_enter func150,ntmps150;replace s:=J s;replace z:=J z;replace x:=J x;replace hl:=J hl;replace ho:=J ho;have Q:IntKind.i64.wrap (ag-(nb:Int))=ag-(nb:Int):=by simp[IntKind.wrap,IntKind.bits,IntKind.signed];omega
 have R:IntKind.i64.wrap (fr+(nb:Int))=fr+(nb:Int):=by simp[IntKind.wrap,IntKind.bits,IntKind.signed];omega
 have S:IntKind.i64.wrap (4096-(fr+(nb:Int)))=4096-(fr+(nb:Int)):=by simp[IntKind.wrap,IntKind.bits,IntKind.signed];omega
 replace c:=J c;go_wp2_with fail;go_quiet (first|(go_at_call 196;exact Calls.quiet_of (Z D _)));have E:(if 4096-(fr+(nb:Int))<(if ag-(nb:Int)<(nx:Int)then ag-(nb:Int)else(nx:Int))then 4096-(fr+(nb:Int))else(if ag-(nb:Int)<(nx:Int)then ag-(nb:Int)else(nx:Int)))=(m:Int):=by
  have:=Z c;split<;>split at * <;>omega
 rw[E];clear E Q R S;have T:m<=nx:=by have:=Z c;omega
 have a1:nx<=d:=(Z hl).2.2.1;have a2:∀W,(Instr.slice 112 (.slice f nx d) none (some (.int .i64 (m:Int))) none).run prog W=.ok (.slice f m d) W:=λW=>Gu f nx d m (by omega) W
 have U:=J (Gv (Z hl) m T);have V:Hid (bytes.length+(l.take m).length<=100000000):=J (by have:=Z s;have:=Z c;rw[ct];omega);have f1:w.frozen? ⟨sb,b+1,none⟩=false:=by simp[World.frozen?,j]
 have X:sb<w.heap.size:=(aY.1 j).1;have F:Hid ((Value.slice ab nb cb).ownBlock≠some sb):=J (by
  cases ab with
  |none=>simp[Value.ownBlock]
  |some y=>simp only[Value.ownBlock];exact λe=>M y rfl (aO e))
 go_wp2_with fail;go_region_law ((refine uN (by rfl) _ _ (by rfl) i _ bytes (by rfl) ((Z ho).ao (aW (di (aB _ _) _))) _ _ _ (l.take m) (by rfl) ((Z U).ao (aW (di (aB _ _) _))) (Z V) L ?_;intro a7 c7 g A G u;replace A:=J A;replace u:=J u;have B:g.heap[sb]?=some (.cells cs t (0,0)):=((G.block sb X (λe=>Z F e.symm)).trans j);have a3:g.cell? ⟨sb,b+1,none⟩=some (.slice ab nb cb):=((lH (w:=w) (a:=⟨sb,b+1,none⟩) (B.trans j.symm)).trans c1);have f7:g.frozen? ⟨sb,b+1,none⟩=false:=(by simp[World.frozen?,B])));all_goals go_wp2_with fail
 all_goals
  go_ret
  have Y:(Value.slice a7 (bytes.length+(l.take m).length) c7).ownBlock≠some sb:=by
   obtain e|e:=Z u
   rw[e];exact Z F;rw[e];intro e2;have h8:w.heap.size=sb:=aO e2;omega
  have I:=(Z A).gb (aI (aB g (some sb)) ⟨sb,b+1,none⟩ (.slice a7 (bytes.length+(l.take m).length) c7) (.inr rfl)) (.inr Y)
  rw[ct]at I
  have al:(Value.slice a7 (bytes.length+min m l.length) c7).ownBlock=(Value.slice ab nb cb).ownBlock\/∀k,(Value.slice a7 (bytes.length+min m l.length) c7).ownBlock=some k->w.heap.size<=k:=by
   have K:=Z u;rw[ct]at K;refine K.imp id (λe k C=>?_);rw[e]at C;have a8:w.heap.size=k:=aO C;omega
  refine⟨rfl,a7,_,c7,I,?_,heap_set B _,al⟩
  have C1:av w (w.drewN nq).drew (λ_=>False):=⟨rfl,rfl,rfl,aP _,λ_ _ _=>rfl⟩
  have C3:=av.of (aI (aB g (some sb)) ⟨sb,b+1,none⟩ (.slice a7 (bytes.length+min m l.length) c7) (.inr rfl))
  refine((C1.trans (av.of G)).trans C3).mono (λk C h=>?_)
  obtain(h|h)|h:=h
  exact h.elim
  exact .inr h
  exact .inl (aO h).symm
theorem xJ(h:W.cell? ⟨n,k,none⟩=some x/\w.grownBy W none)(g:W.grownBy V none):V.cell? ⟨n,k,none⟩=some x/\w.grownBy V none:=⟨g.cell h.1 (by simp),aq h.2 g⟩
theorem qM(h:w.heap[b]?=some (.cells #[x,y,z] T (0,0))):(w.cell? ⟨b,0,none⟩=some x/\w.cell? ⟨b,1,none⟩=some y/\w.cell? ⟨b,2,none⟩=some z)/\w.frozen? ⟨b,0,none⟩=false/\w.frozen? ⟨b,1,none⟩=false/\w.frozen? ⟨b,2,none⟩=false:=by
 simp[World.cell?,World.frozen?,h]
theorem Gy(w:World)(sb b:Nat)(ab:Option Addr)(nb cb:Nat)(ac:Option Addr)(nc cc:Nat)(o:Ot)(H:gK w sb b ab nb cb ac nc cc o.h)(T:jU w sb b o):
 Calls prog 239 #[.pointer (some ⟨sb,b,none⟩)] w λr d=>(∃a n c l,r=.returned (.agg #[.slice a n c,.bool o.uE,.bool o.uG])/\bu d a n c l/\bh l/\(∀y,a=some y->w.heap.size<=y.block)/\l.length<=o.h.af.length+1/\∀m,Sm l m↔(o.h.fr<=m/\m<o.h.fr+o.h.bytes.length)/\¬Sm o.h.af m)/\w.grownBy d none:=by
 obtain⟨R,q⟩:∃R:Ending->World->Prop,R=λr d=>(∃a n c l,r=.returned (.agg #[.slice a n c,.bool o.uE,.bool o.uG])/\bu d a n c l/\bh l/\(∀y,a=some y->w.heap.size<=y.block)/\l.length<=o.h.af.length+1/\∀m,Sm l m↔(o.h.fr<=m/\m<o.h.fr+o.h.bytes.length)/\¬Sm o.h.af m)/\w.grownBy d none:=⟨_,rfl⟩
 rw[<-q];replace q:=J q;have M:=H.2.2.2.2.2;have N:(⟨o.h.fr,o.h.fr+o.h.bytes.length⟩:Rg).ok:=by
  obtain⟨k0,k1,-⟩:=M;constructor<;>simp only[aV]<;>omega
 have u:=J (λW(g:w.grownBy W none)=>Au W sb b ab nb cb ac nc cc o.h (H.ao g) ⟨o.h.fr,o.h.fr+o.h.bytes.length⟩ N);have O:=J (λW(g:w.grownBy W none)=>Am W sb b ab nb cb ac nc cc o.h (H.ao g));have Y:=J (λW(g:w.grownBy W none)=>Ax W sb b o (T.ao g));obtain⟨c0,-⟩:=H;obtain⟨fr,f⟩:=exq o.h.fr;obtain⟨en,s⟩:∃en:Int,en=o.h.fr+o.h.bytes.length:=⟨_,rfl⟩
 simp only[<-f]at c0;rw[<-s]at u O;simp only[<-f]at u;replace f:=J f;replace s:=J s;clear T M N;go_enter func239,ntmps239;go_wp2_with fail;have x:=aH w (.cells #[.slice none 0 0,.bool false,.bool false] 332) none;have i:(w.alloc (.cells #[.slice none 0 0,.bool false,.bool false] 332)).heap[w.heap.size]?=some (.cells #[.slice none 0 0,.bool false,.bool false] 332 (0,0)):=aM _ _;obtain⟨j,P⟩:=exq (w.alloc (.cells #[.slice none 0 0,.bool false,.bool false] 332));rw[<-P]at x i⊢;clear P;have a3:=ep w _ c0;have A:j.drew.cell? ⟨sb,b,none⟩=some (.int .u64 fr)/\w.grownBy j.drew none:=⟨x.cell c0 (by simp),aW x⟩
 replace i:=J i;have al:=c0;clear c0;go_region_held3 (λd=>d.cell? ⟨sb,b,none⟩=some (.int .u64 fr)/\w.grownBy d none)
  (first|with_reducible exact Q|with_reducible exact S|with_reducible exact B|with_reducible exact C|with_reducible exact A)
  (first
    |(go_at_call 196;refine(Z O _ A.2).mono ?_;rintro e w5⟨rfl,D⟩;have C:=xJ A D)
    |(go_at_call 278;refine(Z u _ C.2).mono ?_;rintro e w6⟨⟨a6,k,c6,l6,rfl,m1,E,F,G,I⟩,U⟩;have B:=xJ C U;replace m1:=J m1;replace E:=J E;replace F:=J F;replace G:=J G;replace I:=J I)
    |(go_at_call 279;refine(Z Y _ B.2).mono ?_;rintro e t⟨rfl,K⟩;have S:=xJ B K;have a0:t.heap[w.heap.size]?=some (.cells #[.slice none 0 0,.bool false,.bool false] 332 (0,0)):=(bA (Z i) (aq (aW (aB j none)) (aq D (aq U K))));obtain⟨⟨q0,q1,q2⟩,z0,z1,z2⟩:=qM a0;have Q:(((t.setCell ⟨w.heap.size,0,none⟩ (.slice a6 k c6)).setCell ⟨w.heap.size,1,none⟩ (.bool o.uE)).setCell ⟨w.heap.size,2,none⟩ (.bool o.uG)).cell? ⟨sb,b,none⟩=some (.int .u64 fr)/\w.grownBy (((t.setCell ⟨w.heap.size,0,none⟩ (.slice a6 k c6)).setCell ⟨w.heap.size,1,none⟩ (.bool o.uE)).setCell ⟨w.heap.size,2,none⟩ (.bool o.uG)) none:=(by have V:w.grownBy (((t.setCell ⟨w.heap.size,0,none⟩ (.slice a6 k c6)).setCell ⟨w.heap.size,1,none⟩ (.bool o.uE)).setCell ⟨w.heap.size,2,none⟩ (.bool o.uG)) none:=aI (aI (aI S.2 _ _ (.inl (aP _))) _ _ (.inl (aP _))) _ _ (.inl (aP _));exact⟨V.cell al (by simp),V⟩)))
 go_wp2_with fail;refine cA (v:=.agg #[.slice a6 k c6,.bool o.uE,.bool o.uG]) ?_ rfl ?_
 ·simp[results,results239,go_sem, *]
 have bt:w.heap.size<j.heap.size:=(aY.1 (Z i)).1;have bx:j.heap.size<=w5.heap.size:=D.size;have X:∀z,a6=some z->w.heap.size<z.block:=λz p=>by have:=Z F z p;omega
 have L:∀z,a6=some z->z.block≠w.heap.size:=λz p=>by have:=X z p;omega
 rw[Z q];refine⟨⟨a6,k,c6,l6,rfl,?_,Z E,λz p=>Nat.le_of_lt (X z p),Z G,λm=>?_⟩,Q.2⟩
 exact((((Z m1).ao K).ai L _ _).ai L _ _).ai L _ _;have:=Z I m;simp only[Z f,Z s]at this;exact this
end
section
variable{I:Act}{c:Array Value}{B:Bool}{F:Exit->Act->World->Prop}{p q:Int}{L:List Int}{X:List Rg}{b i j k n:Nat}{H:Oper}{a:Option Addr}{N:Option Nat}{T:TypeId}{x:Value}{V W w:World}{R:World->Prop}
def Az(w:World)(sb d b c:Nat)(v:Value)(e f:Int)(g h uE uG:Bool)(a:World):Prop:=
 a.cell? ⟨sb,d+2,none⟩=some v/\a.cell? ⟨b,0,none⟩=some (.int .u64 e)/\a.cell? ⟨b,1,none⟩=some (.int .u64 f)/\a.cell? ⟨b,2,none⟩=some (.bool g)/\a.cell? ⟨b,3,none⟩=some (.bool h)/\a.cell? ⟨c,0,none⟩=some (.bool uE)/\a.cell? ⟨c,1,none⟩=some (.bool uG)/\w.grownBy a none
theorem xK{a uE uG:Bool}(h:W.cell? ⟨n,k+2,none⟩=some x/\W.cell? ⟨i,0,none⟩=some (.int .u64 p)/\W.cell? ⟨i,1,none⟩=some (.int .u64 q)/\W.cell? ⟨i,2,none⟩=some (.bool B)/\W.cell? ⟨i,3,none⟩=some (.bool a)/\W.cell? ⟨j,0,none⟩=some (.bool uE)/\W.cell? ⟨j,1,none⟩=some (.bool uG)/\w.grownBy W none)(g:W.grownBy V none):
 V.cell? ⟨n,k+2,none⟩=some x/\V.cell? ⟨i,0,none⟩=some (.int .u64 p)/\V.cell? ⟨i,1,none⟩=some (.int .u64 q)/\V.cell? ⟨i,2,none⟩=some (.bool B)/\V.cell? ⟨i,3,none⟩=some (.bool a)/\V.cell? ⟨j,0,none⟩=some (.bool uE)/\V.cell? ⟨j,1,none⟩=some (.bool uG)/\w.grownBy V none:=
 ⟨g.cell h.1 (by simp),g.cell h.2.1 (by simp),g.cell h.2.2.1 (by simp),g.cell h.2.2.2.1 (by simp),g.cell h.2.2.2.2.1 (by simp),g.cell h.2.2.2.2.2.1 (by simp),g.cell h.2.2.2.2.2.2.1 (by simp),aq h.2.2.2.2.2.2.2 g⟩
theorem Gz(a b c d:Bool)(W:World):(binOp .eql 231 (.agg #[.bool a,.bool b]) (.agg #[.bool c,.bool d])).run prog W=.ok (.bool ((a==c)&&(b==d))) W:=by
 cases a<;>cases b<;>cases c<;>cases d<;>kernel_rfl
theorem dJ.t{p:Prop}{e:Ending}(h:dJ p e)(hp:p):e=.returned (.bool true):=by
 obtain⟨b,a,c⟩:=h;rw[a,c.2 hp]
theorem dJ.f{p:Prop}{e:Ending}(h:dJ p e)(hp:¬p):e=.returned (.bool false):=by
 obtain⟨b,a,c⟩:=h;cases b;exact a;exact absurd (c.1 rfl) hp
theorem jV{P:Program}{b:Region.Mode}{a:Array Oper}(i d:Nat){v:Value}{e:Array Bool}(hi:a[i]?=some H)
 (hd:H.dst=some d) (hs:Region.noSelect a=true) (f:Region.free b a e i=true) (g:(Region.ready b a e).contains i=true)
 (j:∀c I w,F (.panic c) (I.put (some d) v) w->F (.panic c) I w) (k:YieldsIf P a R H v I) (l:R w)
 (h:wpAnyH P b a F R n (e.setIfInBounds i true) (I.put (some d) v) w):wpAnyH P b a F R (n+1) e I w:=
 wpAnyH_take hi hs f g (by rw[hd];exact j) k l (by rw[hd];exact h)
def tz(o:Ot)(x:Rg)(a b:Bool):Prop:=(x.hi<=x.lo\/∃r∈o.h.af,r.lo<=x.lo/\x.hi<=r.hi)/\(o.uE&& !a)=o.uE/\(o.uG&& !b)=o.uG
theorem GA(w:World)(sb m:Nat)(ab:Option Addr)(nb cb:Nat)(ac:Option Addr)(nc cc:Nat)(o:Ot)(H:gK w sb m ab nb cb ac nc cc o.h)(T:jU w sb m o)(x:Rg)(i j:Bool):
 Calls prog 256 #[.pointer (some ⟨sb,m,none⟩),.agg #[.int .u64 x.lo,.int .u64 x.hi,.bool i,.bool j]] w λr a=>dJ (tz o x i j) r/\w.grownBy a none:=by
 obtain⟨R,s⟩:∃R:Prop,R=tz o x i j:=⟨_,rfl⟩
 rw[<-s];replace s:=J s;have hU:=J (λW(g:w.grownBy W none)=>Ax W sb m o (T.ao g));have O:=J (λW(g:w.grownBy W none)=>Al ac nc cc o.h.af x W (H.2.2.2.2.1.ao g));have P:=J (λW=>xG o.uE o.uG i j W);have c2:=H.2.2.1;clear H T;obtain⟨c,d⟩:=x;simp only at *;generalize E:o.uE=uE at *;generalize F:o.uG=uG at *;replace E:=J E;replace F:=J F;have a9:=ep w _ c2;obtain⟨G,A⟩:=exq ((uE&& !i));obtain⟨z2,B⟩:=exq ((uG&& !j));rw[<-A,<-B]at P;have Q:Hid ((d<=c\/∃r∈o.h.af,r.lo<=c/\d<=r.hi)->(((G==uE)&&(z2==uG))=true↔R)):=J (λk=>by
  rw[Z s,tz,Z E,Z F,<-A,<-B];simp[k])
 have a2:Hid (¬(d<=c\/∃r∈o.h.af,r.lo<=c/\d<=r.hi)->¬R):=J (λk h=>by rw[Z s]at h;exact k h.1);replace A:=J A;replace B:=J B;obtain⟨U,C⟩:=exq (((G==uE)&&(z2==uG)));have bb:∀W,(binOp .eql 231 (.agg #[.bool G,.bool z2]) (.agg #[.bool uE,.bool uG])).run prog W=.ok (.bool U) W:=λW=>by rw[C];exact Gz _ _ _ _ W
 rw[<-C]at Q;replace C:=J C;go_enter func256,ntmps256;have V:=aH w (.cells #[.int .u64 c,.int .u64 d,.bool i,.bool j] 377) none;have I:(w.alloc (.cells #[.int .u64 c,.int .u64 d,.bool i,.bool j] 377)).heap[w.heap.size]?=some (.cells #[.int .u64 c,.int .u64 d,.bool i,.bool j] 377 (0,0)):=aM _ _;replace I:=J I;go_wp2_with fail;refine(Z hU _ V).mono ?_;rintro e l⟨rfl,L⟩;have X:=aq V L;have u:=bA (Z I) L;have p0:l.cell? ⟨w.heap.size,0,none⟩=some (.int .u64 c):=by simp[World.cell?,u]
 have Y:l.cell? ⟨w.heap.size,1,none⟩=some (.int .u64 d):=by simp[World.cell?,u]
 have p2:l.cell? ⟨w.heap.size,2,none⟩=some (.bool i):=by simp[World.cell?,u]
 have p3:l.cell? ⟨w.heap.size,3,none⟩=some (.bool j):=by simp[World.cell?,u]
 have d2:=X.cell c2 (by simp);clear c2 L;go_wp2_with fail;obtain⟨y,D⟩:=exq (l.alloc (.cells #[.bool uE,.bool uG] 231));rw[<-D];have n:l.grownBy y none:=by rw[D];exact aH _ _ _
 have M:y.heap[l.heap.size]?=some (.cells #[.bool uE,.bool uG] 231 (0,0)):=by rw[D];exact aM _ _
 have p:Az w sb m w.heap.size l.heap.size (.slice ac nc cc) c d i j uE uG y.drew:=⟨n.cell d2 (by simp),n.cell p0 (by simp),n.cell Y (by simp),n.cell p2 (by simp),n.cell p3 (by simp),(show y.cell? _=_ by simp[World.cell?,M]),(show y.cell? _=_ by simp[World.cell?,M]),aW (aq X n)⟩
 clear D p0 Y p2 p3 d2 u M;have al:=p.2.2.2.2.2.2.2;unfold Az at p;by_cases k:d<=c\/∃r∈o.h.af,r.lo<=c/\d<=r.hi
 ·replace k:=J k;go_region_held3 (λa=>a.cell? ⟨sb,m+2,none⟩=some (.slice ac nc cc)/\a.cell? ⟨w.heap.size,0,none⟩=some (.int .u64 c)/\a.cell? ⟨w.heap.size,1,none⟩=some (.int .u64 d)/\a.cell? ⟨w.heap.size,2,none⟩=some (.bool i)/\a.cell? ⟨w.heap.size,3,none⟩=some (.bool j)/\a.cell? ⟨l.heap.size,0,none⟩=some (.bool uE)/\a.cell? ⟨l.heap.size,1,none⟩=some (.bool uG)/\w.grownBy a none)
   (first|with_reducible exact ax|with_reducible exact q|with_reducible exact p)
   (first
     |(go_at_call 211;refine(Z O _ al).mono ?_;rintro e w5⟨z,N⟩;obtain rfl:=z.t (Z k);clear z;have q:=xK p N;have aC:=q.2.2.2.2.2.2.2)
     |(go_at_call 282;refine(Z P _).mono ?_;rintro e w6⟨rfl,g6⟩;have ax:=xK q g6))
  go_wp2_with fail;go_ret;exact⟨⟨U,rfl,Z Q (Z k)⟩,ax.2.2.2.2.2.2.2⟩
 replace k:=J k;refine wp_region_held_drew (S:=(λa=>a.cell? ⟨sb,m+2,none⟩=some (.slice ac nc cc)/\a.cell? ⟨w.heap.size,0,none⟩=some (.int .u64 c)/\a.cell? ⟨w.heap.size,1,none⟩=some (.int .u64 d)/\a.cell? ⟨w.heap.size,2,none⟩=some (.bool i)/\a.cell? ⟨w.heap.size,3,none⟩=some (.bool j)/\a.cell? ⟨l.heap.size,0,none⟩=some (.bool uE)/\a.cell? ⟨l.heap.size,1,none⟩=some (.bool uG)/\w.grownBy a none)) (by kernel_rfl) p (λa8=>?_);refine jV 0 8 (v:=?_) rfl rfl (by kernel_rfl) (by kernel_rfl) (by kernel_rfl) (λ_ _ _ h=>h) (Or.inl ⟨by rfl,?_⟩) (by assumption) ?_;rotate_left
 ·(intro w b;(try dsimp only at b);go_simp;try with_reducible rfl)
 simp only[Act.put,kZ,lI,lJ]
 refine jV 1 9 (v:=?_) rfl rfl (by kernel_rfl) (by kernel_rfl) (by kernel_rfl) (λ_ _ _ h=>h) (Or.inl ⟨by rfl,?_⟩) (by assumption) ?_;rotate_left
 ·(intro w b;(try dsimp only at b);go_simp;try with_reducible rfl)
 simp only[Act.put,kZ,lI,lJ]
 refine jV 2 10 (v:=?_) rfl rfl (by kernel_rfl) (by kernel_rfl) (by kernel_rfl) (λ_ _ _ h=>h) (Or.inl ⟨by rfl,?_⟩) (by assumption) ?_;rotate_left
 ·(intro w b;(try dsimp only at b);go_simp;try with_reducible rfl)
 simp only[Act.put,kZ,lI,lJ]
 refine jV 3 11 (v:=?_) rfl rfl (by kernel_rfl) (by kernel_rfl) (by kernel_rfl) (λ_ _ _ h=>h) (Or.inl ⟨by rfl,?_⟩) (by assumption) ?_;rotate_left
 ·(intro w b;(try dsimp only at b);go_simp;try with_reducible rfl)
 simp only[Act.put,kZ,lI,lJ]
 refine jV 4 12 (v:=?_) rfl rfl (by kernel_rfl) (by kernel_rfl) (by kernel_rfl) (λ_ _ _ h=>h) (Or.inl ⟨by rfl,?_⟩) (by assumption) ?_;rotate_left
 ·(intro w b;(try dsimp only at b);go_simp;try with_reducible rfl)
 simp only[Act.put,kZ,lI,lJ]
 refine jV 5 13 (v:=?_) rfl rfl (by kernel_rfl) (by kernel_rfl) (by kernel_rfl) (λ_ _ _ h=>h) (Or.inl ⟨by rfl,?_⟩) (by assumption) ?_;rotate_left
 ·(intro w b;(try dsimp only at b);go_simp;try with_reducible rfl)
 simp only[Act.put,kZ,lI,lJ]
 refine jV 6 14 (v:=?_) rfl rfl (by kernel_rfl) (by kernel_rfl) (by kernel_rfl) (λ_ _ _ h=>h) (Or.inl ⟨by rfl,?_⟩) (by assumption) ?_;rotate_left
 ·(intro w b;(try dsimp only at b);go_simp;try with_reducible rfl)
 simp only[Act.put,kZ,lI,lJ]
 refine wpAnyH_ready (rs:=[7]) (by kernel_rfl) (by simp) ?_;refine AllReadyH.cons (o:=_) rfl (λK hK=>?_) AllReadyH.nil;go_simp;refine(Z O _ al).mono ?_;rintro e w5⟨z,N⟩;obtain rfl:=z.f (Z k);clear z;have q:=xK p N;have aC:=q.2.2.2.2.2.2.2;go_wp2_with fail;refine hK.out _ _ q (λa8=>?_);clear hK K;refine jV 8 16 (v:=?_) rfl rfl (by kernel_rfl) (by kernel_rfl) (by kernel_rfl) (λ_ _ _ h=>h) (Or.inl ⟨by rfl,?_⟩) (by assumption) ?_;rotate_left
 ·(intro w b;(try dsimp only at b);go_simp;try with_reducible rfl)
 simp only[Act.put,kZ,lI,lJ]
 refine jV 9 17 (v:=_) rfl rfl (by kernel_rfl) (by kernel_rfl) (by kernel_rfl) (λ_ _ _ h=>h) (Or.inr ⟨by rfl,rfl⟩) (by assumption) ?_;simp only[Act.put,kZ,lI,lJ]
 refine jV 10 18 (v:=_) rfl rfl (by kernel_rfl) (by kernel_rfl) (by kernel_rfl) (λ_ _ _ h=>h) (Or.inr ⟨by rfl,rfl⟩) (by assumption) ?_;simp only[Act.put,kZ,lI,lJ]
 refine jV 11 19 (v:=_) rfl rfl (by kernel_rfl) (by kernel_rfl) (by kernel_rfl) (λ_ _ _ h=>h) (Or.inr ⟨by rfl,rfl⟩) (by assumption) ?_;simp only[Act.put,kZ,lI,lJ]
 refine jV 12 20 (v:=_) rfl rfl (by kernel_rfl) (by kernel_rfl) (by kernel_rfl) (λ_ _ _ h=>h) (Or.inr ⟨by rfl,rfl⟩) (by assumption) ?_;simp only[Act.put,kZ,lI,lJ]
 refine jV 13 21 (v:=_) rfl rfl (by kernel_rfl) (by kernel_rfl) (by kernel_rfl) (λ_ _ _ h=>h) (Or.inr ⟨by rfl,rfl⟩) (by assumption) ?_;simp only[Act.put,kZ,lI,lJ]
 refine jV 14 22 (v:=_) rfl rfl (by kernel_rfl) (by kernel_rfl) (by kernel_rfl) (λ_ _ _ h=>h) (Or.inr ⟨by rfl,rfl⟩) (by assumption) ?_;simp only[Act.put,kZ,lI,lJ]
 refine jV 15 23 (v:=?_) rfl rfl (by kernel_rfl) (by kernel_rfl) (by kernel_rfl) (λ_ _ _ h=>h) (Or.inl ⟨by rfl,?_⟩) (by assumption) ?_;rotate_left
 ·(intro w b;(try dsimp only at b);go_simp;try with_reducible rfl)
 simp only[Act.put,kZ,lI,lJ]
 refine jV 16 4 (v:=?_) rfl rfl (by kernel_rfl) (by kernel_rfl) (by kernel_rfl) (λ_ _ _ h=>h) (Or.inl ⟨by rfl,?_⟩) (by assumption) ?_;rotate_left
 ·(intro w b;(try dsimp only at b);go_simp;try with_reducible rfl)
 simp only[Act.put,kZ,lI,lJ]
 refine wpAnyH_done (by kernel_rfl) ?_ _;go_wp2_with fail;go_ret;exact⟨lN (Z a2 (Z k)),aC⟩
def xL(h:Hd)(x:Rg):Prop:=∀a,bh a->a.length<=h.af.length+1->(∀m,Sm a m↔Sm h.af m\/(x.lo<=m/\m<x.hi))->0<=cO ⟨h.fr,h.bytes,a⟩/\h.fr+cO ⟨h.fr,h.bytes,a⟩<=4611686018427387903
theorem bu.gb(h:bu w a n k X)(g:w.grownBy W N)(d:∀y,a=some y->N≠some y.block):bu W a n k X:=by
 obtain⟨e,f,i,j,c⟩:=h;refine⟨e,f,i,j,?_⟩
 obtain c|⟨b,o,rfl,c⟩:=c
 exact .inl c;exact .inr ⟨b,o,rfl,iX c g (d _ rfl)⟩
theorem aX(h:w.heap[b]?=some (.cells c T (0,0)))(i:Nat):w.cell? ⟨b,i,none⟩=c[i]? :=by simp[World.cell?,h]
theorem GB(w:World)(sb a:Nat)(cs:Array Value)(t:TypeId)(ab:Option Addr)(nb cb:Nat)(ac:Option Addr)(nc cc:Nat)(o:Ot)(L:w.heap[sb]?=some (.cells cs t (0,0)))(H:gK w sb a ab nb cb ac nc cc o.h)(T:jU w sb a o)(x:Rg)(z u:Bool)(hx:x.ok)(a8:∀y,ab=some y->y.block≠sb)(a9:∀y,ac=some y->y.block≠sb)(ch:xL o.h x)(dG:o.h.af.length<100000):
 Calls prog 252 #[.pointer (some ⟨sb,a,none⟩),.agg #[.int .u64 x.lo,.int .u64 x.hi,.bool z,.bool u]] w λr P=>r=.returned (.tuple #[])/\
  ∃(c:Option Addr)(d f:Nat)(i:List Rg)(v:Option Addr)(A k:Nat),(k:Int)=cO ⟨o.h.fr,o.h.bytes,i⟩/\bh i/\i.length<=o.h.af.length+1/\(∀m,Sm i m↔Sm o.h.af m\/(x.lo<=m/\m<x.hi))/\w.grownBy P (some sb)/\
   P.heap[sb]?=some (.cells (((((cs.setIfInBounds (a+2) (.slice c d f)).setIfInBounds a (.int .u64 (o.h.fr+k))).setIfInBounds (a+1) (.slice v (o.h.bytes.drop k).length A)).setIfInBounds (a+6) (.bool (o.tE||z))).setIfInBounds (a+7) (.bool (o.tG||u))) t (0,0))/\
   bm P w.heap.size (.slice v (o.h.bytes.drop k).length A) (o.h.bytes.drop k)/\bu P c d f i/\((c=ac/\d=nc/\f=cc)\/∀y,c=some y->w.heap.size<=y.block/\y.block<P.heap.size/\(Value.slice v (o.h.bytes.drop k).length A).ownBlock≠some y.block):=by
 obtain⟨l,C⟩:=exq ((o.tE||z));obtain⟨n,D⟩:=exq ((o.tG||u));rw[<-C,<-D];replace C:=J C;replace D:=J D;have eS:sb<w.heap.size:=(aY.1 L).1;obtain⟨c0,c1,c2,hb,hr,⟨k0,k1,k2,k3,k4⟩⟩:=H;obtain⟨c3,c4,c5,c6,c7,c8,-,-⟩:=T;rw[aX L]at c0 c1 c2 c3 c4 c5 c6 c7 c8;have hn:nc=o.h.af.length:=hr.2.1;obtain⟨E,F⟩:=x;obtain⟨q,Q⟩:=exq (w.alloc (.cells #[.int .u64 E,.int .u64 F,.bool z,.bool u] 377));have g1:w.grownBy q none:=by rw[Q];exact aH _ _ _
 have M:q.heap[w.heap.size]?=some (.cells #[.int .u64 E,.int .u64 F,.bool z,.bool u] 377 (0,0)):=by rw[Q];exact aM _ _
 have e4:q.heap.size=w.heap.size+1:=by rw[Q];simp
 have p0:q.cell? ⟨w.heap.size,0,none⟩=some (.int .u64 E):=by simp[World.cell?,M]
 have p1:q.cell? ⟨w.heap.size,1,none⟩=some (.int .u64 F):=by simp[World.cell?,M]
 have R:=bA L g1;have hA:=J (xB q.drew sb (a+2) cs t ac nc cc o.h.af ⟨E,F⟩ R c2 (hr.ao (aW g1)) a9 k2 hx (by omega));go_enter func252,ntmps252;go_wp2_with fail;rw[<-Q];clear Q;go_region_with (first|(go_at_call 215;refine(Z hA).mono ?_;rintro e p⟨rfl,c,d,f,i,⟨gU,hU⟩,bj,G,aC,br,bt⟩));go_wp2_with fail;have a0:w.grownBy p (some sb):=aq (cX (aW g1) _) gU;have B:=hU cs t R;have e5:q.heap.size<=p.heap.size:=gU.size;have S:p.heap[w.heap.size]?=some (.cells #[.int .u64 E,.int .u64 F,.bool z,.bool u] 377 (0,0)):=(gU.block _ (by show w.heap.size<q.heap.size;omega) (λe=>by cases e;omega)).trans M;have a1:∀y,c=some y->y.block≠sb:=λy e=>by
  obtain G|G:=G
  exact a9 y (G.1▸e);have:q.heap.size<=y.block:=(G y e).1;omega
 have ee:a+2<cs.size:=(aY.1 c2).1;obtain⟨I,s⟩:=exq (cs.setIfInBounds (a+2) (.slice c d f));rw[<-s]at B;have d0:I[a]?=some (.int .u64 o.h.fr):=by rw[s];simpa [kE]using c0
 have d1:I[a+1]?=some (.slice ab nb cb):=by rw[s];simpa [kE]using c1
 have d2:I[a+2]?=some (.slice c d f):=by rw[s];simp[kE,ee]
 have d6:I[a+6]?=some (.bool o.tE):=by rw[s];simpa [kE]using c6
 have d7:I[a+7]?=some (.bool o.tG):=by rw[s];simpa [kE]using c7
 have H2:gK p sb a ab nb cb c d f ⟨o.h.fr,o.h.bytes,i⟩:=⟨(aX B _).trans d0,(aX B _).trans d1,(aX B _).trans d2,hb.gb a0 (λj e=>.inr (.inr (λy ey=>by cases e;exact a8 y ey))),bj,⟨k0,k1,aC,k3,(show i.length<=100000 by omega)⟩⟩
 obtain⟨q0,q1⟩:=ch i aC br bt;obtain⟨k,U⟩:=pY q0;have bM:=J (An p.drew sb a ab nb cb c d f _ (H2.ao (aW (aB _ _))) ⟨q0,by omega⟩);have hD:=J (λW(g:p.grownBy W none)=>Aw W sb a I t ab nb cb c d f _ (bA B g) (H2.ao g) k (by show o.h.fr+k<=_;omega) a8);rw[U]at bM;replace B:=J B;replace S:=J S;replace M:=J M;replace R:=J R;replace L:=J L;replace s:=J s;replace U:=J U;clear hU H2 q0 q1 hA;go_region_with (first
  |(go_at_call 220;refine(Z bM).mono ?_;rintro e w3⟨rfl,g3⟩;have N:p.grownBy w3 none:=aq (aW (aB _ _)) g3)
  |(go_at_call 221;refine(Z hD _ N).mono ?_;rintro e b⟨rfl,v,A,g4,K,a3,de⟩))
 go_wp2_with fail;have V:p.grownBy b (some sb):=aq (cX N _) g4;have b0:=aq a0 V;have dg:=bj.gb V (λy e e'=>a1 y e (by cases e';rfl));have b3:b.heap[w.heap.size]?=some (.cells #[.int .u64 E,.int .u64 F,.bool z,.bool u] 377 (0,0)):=(V.block _ (aY.1 (Z S)).1 (λe=>by cases e;omega)).trans (Z S);obtain⟨b4,X⟩:=exq ((I.setIfInBounds a (.int .u64 (o.h.fr+k))).setIfInBounds (a+1) (.slice v (o.h.bytes.drop k).length A));rw[<-X]at K;have e6:b4[a+6]?=some (.bool o.tE):=by rw[X];simpa [kE]using d6
 have e7:b4[a+6+1]?=some (.bool o.tG):=by rw[X,show a+6+1=a+7 from rfl];simpa [kE]using d7
 have m6:b.cell? ⟨sb,a+6,none⟩=some (.bool o.tE):=(aX K _).trans e6;have m7:b.cell? ⟨sb,a+6+1,none⟩=some (.bool o.tG):=(aX K _).trans e7;have f6:b.frozen? ⟨sb,a+6,none⟩=false:=by simp[World.frozen?,K]
 have f7:b.frozen? ⟨sb,a+6+1,none⟩=false:=by simp[World.frozen?,K]
 have n2:b.cell? ⟨w.heap.size,2,none⟩=some (.bool z):=by simp[World.cell?,b3]
 have n3:b.cell? ⟨w.heap.size,2+1,none⟩=some (.bool u):=by simp[World.cell?,b3]
 have e8:b.cell? ⟨w.heap.size,3,none⟩=some (.bool u):=n3;have e9:w.heap.size<=b.heap.size:=b0.size;have ds:Hid (w.grownBy ((b.drew.setCell ⟨sb,a+6,none⟩ (.bool l)).setCell ⟨sb,a+6+1,none⟩ (.bool n)) (some sb)/\
  ((b.drew.setCell ⟨sb,a+6,none⟩ (.bool l)).setCell ⟨sb,a+6+1,none⟩ (.bool n)).heap[sb]?=some (.cells ((b4.setIfInBounds (a+6) (.bool l)).setIfInBounds (a+6+1) (.bool n)) t (0,0))/\
  bm ((b.drew.setCell ⟨sb,a+6,none⟩ (.bool l)).setCell ⟨sb,a+6+1,none⟩ (.bool n)) w.heap.size (.slice v (o.h.bytes.drop k).length A) (o.h.bytes.drop k)/\
  bu ((b.drew.setCell ⟨sb,a+6,none⟩ (.bool l)).setCell ⟨sb,a+6+1,none⟩ (.bool n)) c d f i):=by
  have fa:∀y,v=some y->y.block≠sb:=λy e=>by
   have h3:=de y e;have h4:p.heap.size<=w3.heap.size:=N.size;omega
  have b5:b.grownBy b.drew none:=aW (aB _ _);have ew:w.heap.size<=w3.heap.size:=bD a0.size N.size;have du:(Value.slice v (o.h.bytes.drop k).length A).ownBlock≠some sb:=λe=>by have:=(a3.lt _ e).1;omega
  exact J ⟨aI (aI (aW b0) _ _ (.inr rfl)) _ _ (.inr rfl),heap_set (heap_set (bA K b5) _) _,(((a3.low ew).ao b5).ai du _ _).ai du _ _,((dg.ao b5).ai a1 _ _).ai a1 _ _⟩
 replace C:=Z C;replace D:=Z D;have HV:Hid (∃(a₁:Option Addr)(n₁ c₁:Nat)(Y:List Rg)(b₁:Option Addr)(d₁ O:Nat),(O:Int)=cO ⟨o.h.fr,o.h.bytes,Y⟩/\bh Y/\Y.length<=o.h.af.length+1/\(∀m,Sm Y m↔Sm o.h.af m\/(E<=m/\m<F))/\w.grownBy ((b.drew.setCell ⟨sb,a+6,none⟩ (.bool l)).setCell ⟨sb,a+6+1,none⟩ (.bool n)) (some sb)/\
  ((b.drew.setCell ⟨sb,a+6,none⟩ (.bool l)).setCell ⟨sb,a+6+1,none⟩ (.bool n)).heap[sb]?=some (.cells (((((cs.setIfInBounds (a+2) (.slice a₁ n₁ c₁)).setIfInBounds a (.int .u64 (o.h.fr+O))).setIfInBounds (a+1) (.slice b₁ (o.h.bytes.drop O).length d₁)).setIfInBounds (a+6) (.bool l)).setIfInBounds (a+7) (.bool n)) t (0,0))/\
  bm ((b.drew.setCell ⟨sb,a+6,none⟩ (.bool l)).setCell ⟨sb,a+6+1,none⟩ (.bool n)) w.heap.size (.slice b₁ (o.h.bytes.drop O).length d₁) (o.h.bytes.drop O)/\bu ((b.drew.setCell ⟨sb,a+6,none⟩ (.bool l)).setCell ⟨sb,a+6+1,none⟩ (.bool n)) a₁ n₁ c₁ Y/\((a₁=ac/\n₁=nc/\c₁=cc)\/∀y,a₁=some y->w.heap.size<=y.block/\y.block<((b.drew.setCell ⟨sb,a+6,none⟩ (.bool l)).setCell ⟨sb,a+6+1,none⟩ (.bool n)).heap.size/\(Value.slice b₁ (o.h.bytes.drop O).length d₁).ownBlock≠some y.block)):=by
  obtain⟨F1,F2,F3,F4⟩:=Z ds;rw[X,Z s]at F2;refine J ⟨c,d,f,i,v,A,k,(Z U).symm,aC,br,bt,F1,F2,F3,F4,G.imp (λh=>⟨h.1,h.2.1,h.2.2.1⟩) (λh y e=>?_)⟩;have h1:q.heap.size<=y.block:=(h y e).1;have h2:=(h y e).2;have h4:p.heap.size<=w3.heap.size:=N.size;have h5:p.heap.size<=b.heap.size:=V.size;refine⟨by omega,by simp;omega,λe2=>?_⟩
  have:=(a3.lt _ e2).1;omega
 clear ds K a3 dg b3 de bj G aC br bt X s U B S R M L b0 V a0 N g4 g3 g1 gU bM hD e6 e7 d0 d1 d2 d6 d7 c0 c1 c2 c3 c4 c5 c6 c7 c8 hb hr p0 p1 ch a9 a1 a8 k0 k1 k2 k3 k4 dG;generalize o.tE=tE at *;generalize o.tG=tG at *;have fs:w.heap.size≠sb:=by omega
 cases tE<;>cases tG<;>simp only[Bool.false_or,Bool.true_or]at C D<;>subst C<;>subst D;all_goals
  go_big_region
  go_wp2_with fail
  exact eW (et rfl _ _ _) rfl ⟨rfl,Z HV⟩
theorem AA(h:bF w a n k L)(i j:Nat)(hi:i<=j)(l:j<=n):bF w (if j=i then a else a.map (·.add i)) (j-i) (j-i) ((L.drop i).take (j-i)):=by
 obtain⟨e,m,p,q,c⟩:=h;refine⟨λx f=>e x (iG (iS f)),by rw[ct,dF];omega,by omega,by omega,?_⟩
 by_cases d:j=i;rw[az d,d,rE,List.take_zero];obtain⟨c,g⟩|⟨b,o,rfl,c⟩:=c
 exact .inl ⟨c,rfl⟩;exact .inr ⟨b,o,rfl,BS.nil _ _ _⟩;rw[ah d];obtain⟨c,g⟩|⟨b,o,rfl,c⟩:=c
 omega;exact .inr ⟨b,o+i,by simp[Addr.add],xI (Av c i) _⟩
theorem AB(w:World)(sb ho:Nat)(ab:Option Addr)(nb cb:Nat)(ac:Option Addr)(nc cc:Nat)(h:Hd)(H:gK w sb ho ab nb cb ac nc cc h)(i j:Nat)(hi:i<=j)(s:j<=h.bytes.length)(lo a:Int)(l:lo=h.fr+i)(m:a=h.fr+j):
 Calls prog 285 #[.pointer (some ⟨sb,ho,none⟩),.agg #[.int .u64 lo,.int .u64 a]] w λe n=>∃c,e=.returned (.slice c (j-i) (j-i))/\bF w c (j-i) (j-i) ((h.bytes.drop i).take (j-i))/\((∀y,c=some y->∃z,ab=some z/\z.block=y.block)/\(i<j->c=ab.map (·.add i)))/\w.grownBy n none:=by
 obtain⟨c0,c1,c2,b,-,⟨t,u,-,k3,-⟩⟩:=H;obtain⟨fr,bytes,af⟩:=h;simp only at *;have v:nb=bytes.length:=b.2.1;have x:nb<=cb:=b.2.2.1;have e1:IntKind.u64.wrap (lo-fr)=(i:Int):=by rw[l,show fr+(i:Int)-fr=i by omega];rw[fh];omega
 have e2:IntKind.u64.wrap (a-fr)=(j:Int):=by rw[m,show fr+(j:Int)-fr=j by omega];rw[fh];omega
 have p:Hid (bF w ab 0 0 []):=J (by have:=AA b i i (aP _) (by omega);simpa using this);have q:Hid (j≠i->bF w (ab.map (·.add i)) (j-i) (j-i) ((bytes.drop i).take (j-i))):=J (λh=>by have:=AA b i j hi (by omega);rwa[ah h]at this);have r:Hid (∀y,ab.map (·.add i)=some y->∃z,ab=some z/\z.block=y.block):=J (λy e=>by
  cases ab with
  |none=>cases e
  |some z=>cases e;exact⟨z,rfl,by simp only[Addr.add];split<;>rfl⟩)
 clear l m b;have A:(j:Int)<=(cb:Int):=by omega
 have B:(i:Int)<=(j:Int):=by omega
 obtain⟨d,f⟩:=exq (w.alloc (.cells #[.int .u64 lo,.int .u64 a] 341));have g:w.grownBy d none:=by rw[f];exact aH _ _ _
 have k:d.heap[w.heap.size]?=some (.cells #[.int .u64 lo,.int .u64 a] 341 (0,0)):=by rw[f];exact aM _ _
 have p0:d.cell? ⟨w.heap.size,0,none⟩=some (.int .u64 lo):=by simp[World.cell?,k]
 have C:d.cell? ⟨w.heap.size,1,none⟩=some (.int .u64 a):=by simp[World.cell?,k]
 have d0:=g.cell c0 (by simp);have d1:=g.cell c1 (by simp);clear c0 c1 c2;replace k:=J k;go_enter func285,ntmps285;go_wp2_with fail;rw[<-f];clear f;go_quiet (fail);go_wp2_with fail;case inl=>
  go_ret;exact⟨ab,rfl,Z p,λy e=>⟨y,e,rfl⟩,di g _⟩
 case inr=>
  go_ret;exact⟨_,rfl,Z q (by omega),⟨Z r,λ_=>rfl⟩,di g _⟩
end
