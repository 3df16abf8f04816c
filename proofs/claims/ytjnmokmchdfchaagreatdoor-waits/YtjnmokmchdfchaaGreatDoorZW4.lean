import Derived.Deep.RegionLaw
import Derived.Test.YtjnmokmchdfchaaGreatDoorZW1
set_option maxRecDepth 1000000
set_option maxHeartbeats 0
set_option linter.all false
namespace Go.Proofs.YtjnmokmchdfchaaGreatDoor
open Go.RowKit Tryz
attribute[local go_sem↓]Go.wp_at_zero Go.wp_at_succ
variable{F:Array Oper}{B:Bool}{G:Exit->Act->World->Prop}{p q:Int}{L:List Int}{b i j k n o:Nat}{P S:Nat->Prop}{I:Oper}{a:Option Addr}{N:Option Nat}{u:Prop}{T:TypeId}{x y z:Value}{V W v w:World}{R:World->Prop}
structure ak(w a:World)(S:Nat->Prop):Prop where
 os:a.os=w.os
 tape:a.tape=w.tape
 output:a.output=w.output
 size:w.heap.size<=a.heap.size
 block:∀k,k<w.heap.size->¬S k->a.heap[k]?=w.heap[k]?
theorem ak.of(g:w.grownBy W N):ak w W (λk=>N=some k):=
 ⟨g.os,g.tape,g.output,g.size,λk a h=>g.block k a (λe=>h e.symm)⟩
theorem ak.trans(h:ak w W S)(k:ak W v P):ak w v (λi=>S i\/P i):=
 ⟨k.os.trans h.os,k.tape.trans h.tape,k.output.trans h.output,bC h.size k.size,λi hi a=>(k.block i (bK hi h.size) (λe=>a (.inr e))).trans (h.block i hi (λe=>a (.inl e)))⟩
theorem ak.mono(h:ak w W S)(b:∀k,k<w.heap.size->S k->P k):ak w W P:=
 ⟨h.os,h.tape,h.output,h.size,λk a c=>h.block k a (λe=>c (b k a e))⟩
theorem ak.gb(h:ak w W S)(b:∀k,k<w.heap.size->S k->N=some k):w.grownBy W N:=
 ⟨h.os,h.tape,h.output,h.size,λk a c=>h.block k a (λe=>c (b k a e).symm)⟩
theorem ak.rfl'(w:World)(S:Nat->Prop):ak w w S:=⟨rfl,rfl,rfl,aI _,λ_ _ _=>rfl⟩
theorem zA(w:World)(sb ho:Nat)(ab:Option Addr)(nb cb:Nat)(ac:Option Addr)(nc cc:Nat)(h:Hd)(H:gE w sb ho ab nb cb ac nc cc h):
 Calls prog 196 #[.pointer (some ⟨sb,ho,none⟩)] w λe c=>e=.returned (.int .u64 (h.fr+h.bytes.length))/\∃k,c=w.drewN k:=by
 obtain⟨c0,c1,c2,a,-,⟨f,d,-,k3,-⟩⟩:=H;obtain⟨fr,bytes,ag⟩:=h;simp only at *;have b:nb=bytes.length:=a.2.1;rw[<-b]at d k3⊢;clear b a;have g:IntKind.u64.wrap (fr+(nb:Int))=fr+(nb:Int):=by rw[eH];omega
 go_enter func196,ntmps196;go_wp2_with fail;go_quiet (fail);go_wp2_with fail;go_ret;exact⟨rfl,_,rfl⟩
theorem E1(a:Option Addr)(n cap i:Nat)(h:i<=cap)(W:World):(Instr.slice 112 (.slice a n cap) none (some (.int .i64 (i:Int))) none).run prog W=.ok (.slice a i cap) W:=by
 rw[run_slice_h W 112 a n cap (by rw[qX];exact underlying112) .i64 (i:Int) (by omega) (by omega),qX,wC];simp only[ic,sliced,jP,mK,Nat.sub_zero]
 congr 1;cases a with
 |none=>simp
 |some y=>simp[Addr.add]
theorem wG(h:BS w b o L)(n:Nat):BS w b o (L.take n):=by
 refine⟨λi hi=>?_,λx a=>h.2 x (iY a)⟩
 rw[cC]at hi;rw[h.1 i (by omega)];simp[jO,show i<n by omega]
theorem E2(h:bh w a n k L)(m:Nat)(g:m<=n):bh w a m k (L.take m):=by
 obtain⟨d,i,j,e,c⟩:=h;refine⟨λx f=>d x (iY f),by rw[cC];omega,by omega,e,?_⟩
 obtain c|⟨b,o,rfl,c⟩:=c
 exact .inl c;exact .inr ⟨b,o,rfl,wG c m⟩
theorem E3(w:World)(sb b i:Nat)(cs:Array Value)(t:TypeId)(ab:Option Addr)(nb cb:Nat)(ac:Option Addr)(nc cc:Nat)(h:Hd)(j:w.heap[sb]?=some (.cells cs t (0,0)))(H:gE w sb b ab nb cb ac nc cc h)(ho:aX w i (.slice ab nb cb) h.bytes)(L:i<=w.heap.size)(M:∀y,ab=some y->y.block≠sb)
 (f:Option Addr) (nx d:Nat) (l:List Int) (hl:bh w f nx d l) (ai:Int) (N:(h.bytes.length:Int)<=ai/\ai<=1000000) (O:h.fr+h.bytes.length<=4096) (m:Nat) (c:(m:Int)=min (min (l.length:Int) (ai-h.bytes.length)) (4096-(h.fr+h.bytes.length))):
 Calls prog 150 #[.pointer (some ⟨sb,b,none⟩),.slice f nx d,.int .i64 ai] w λr v=>r=.returned (.int .i64 (m:Int))/\∃n p q,aX v i (.slice n p q) (h.bytes++l.take m)/\ak w v (λk=>k=sb\/(Value.slice ab nb cb).ownBlock=some k)/\v.heap[sb]?=some (.cells (cs.setIfInBounds (b+1) (.slice n p q)) t (0,0))/\((Value.slice n p q).ownBlock=(Value.slice ab nb cb).ownBlock\/∀k,(Value.slice n p q).ownBlock=some k->w.heap.size<=k):=by
 have D:=J (λk=>zA (w.drewN k) sb b ab nb cb ac nc cc h (H.ah (dh (av _ _) k)));obtain⟨c0,c1,c2,x,-,⟨k0,P,-,k3,-⟩⟩:=H;obtain⟨fr,bytes,ag⟩:=h;simp only at *;have s:nb=bytes.length:=x.2.1;have z:nx=l.length:=hl.2.1;rw[<-s]at D c N O P k3;rw[<-z]at c;go_enter func150,ntmps150;replace s:=J s;replace z:=J z;replace x:=J x;replace hl:=J hl;replace ho:=J ho;have Q:IntKind.i64.wrap (ai-(nb:Int))=ai-(nb:Int):=by simp[IntKind.wrap,IntKind.bits,IntKind.signed];omega
 have R:IntKind.i64.wrap (fr+(nb:Int))=fr+(nb:Int):=by simp[IntKind.wrap,IntKind.bits,IntKind.signed];omega
 have S:IntKind.i64.wrap (4096-(fr+(nb:Int)))=4096-(fr+(nb:Int)):=by simp[IntKind.wrap,IntKind.bits,IntKind.signed];omega
 replace c:=J c;go_wp2_with fail;go_quiet (first|(go_at_call 196;exact Calls.quiet_of (Z D _)));have E:(if 4096-(fr+(nb:Int))<(if ai-(nb:Int)<(nx:Int)then ai-(nb:Int)else(nx:Int))then 4096-(fr+(nb:Int))else(if ai-(nb:Int)<(nx:Int)then ai-(nb:Int)else(nx:Int)))=(m:Int):=by
  have:=Z c;split<;>split at * <;>omega
 rw[E];clear E Q R S;have T:m<=nx:=by have:=Z c;omega
 have a2:nx<=d:=(Z hl).2.2.1;have a3:∀W,(Instr.slice 112 (.slice f nx d) none (some (.int .i64 (m:Int))) none).run prog W=.ok (.slice f m d) W:=λW=>E1 f nx d m (by omega) W
 have U:=J (E2 (Z hl) m T);have V:Hid (bytes.length+(l.take m).length<=100000000):=J (by have:=Z s;have:=Z c;rw[cC];omega);have f1:w.frozen? ⟨sb,b+1,none⟩=false:=by simp[World.frozen?,j]
 have X:sb<w.heap.size:=(aO.1 j).1;have F:Hid ((Value.slice ab nb cb).ownBlock≠some sb):=J (by
  cases ab with
  |none=>simp[Value.ownBlock]
  |some y=>simp only[Value.ownBlock];exact λe=>M y rfl (aJ e))
 go_wp2_with fail;go_region_law ((refine tW (by rfl) _ _ (by rfl) i _ bytes (by rfl) ((Z ho).ah (aP (dh (av _ _) _))) _ _ _ (l.take m) (by rfl) ((Z U).ah (aP (dh (av _ _) _))) (Z V) L ?_;intro a7 c7 g A G u;replace A:=J A;replace u:=J u;have B:g.heap[sb]?=some (.cells cs t (0,0)):=((G.block sb X (λe=>Z F e.symm)).trans j);have a4:g.cell? ⟨sb,b+1,none⟩=some (.slice ab nb cb):=((lg (w:=w) (a:=⟨sb,b+1,none⟩) (B.trans j.symm)).trans c1);have f7:g.frozen? ⟨sb,b+1,none⟩=false:=(by simp[World.frozen?,B])));all_goals go_wp2_with fail
 all_goals
  go_ret
  have Y:(Value.slice a7 (bytes.length+(l.take m).length) c7).ownBlock≠some sb:=by
   obtain e|e:=Z u
   rw[e];exact Z F;rw[e];intro e2;have h8:w.heap.size=sb:=aJ e2;omega
  have I:=(Z A).gb (aD (av g (some sb)) ⟨sb,b+1,none⟩ (.slice a7 (bytes.length+(l.take m).length) c7) (.inr rfl)) (.inr Y)
  rw[cC]at I
  have al:(Value.slice a7 (bytes.length+min m l.length) c7).ownBlock=(Value.slice ab nb cb).ownBlock\/∀k,(Value.slice a7 (bytes.length+min m l.length) c7).ownBlock=some k->w.heap.size<=k:=by
   have K:=Z u;rw[cC]at K;refine K.imp id (λe k C=>?_);rw[e]at C;have a9:w.heap.size=k:=aJ C;omega
  refine⟨rfl,a7,_,c7,I,?_,heap_set B _,al⟩
  have C1:ak w (w.drewN nq).drew (λ_=>False):=⟨rfl,rfl,rfl,aI _,λ_ _ _=>rfl⟩
  have C3:=ak.of (aD (av g (some sb)) ⟨sb,b+1,none⟩ (.slice a7 (bytes.length+min m l.length) c7) (.inr rfl))
  refine((C1.trans (ak.of G)).trans C3).mono (λk C h=>?_)
  obtain(h|h)|h:=h
  exact h.elim
  exact .inr h
  exact .inl (aJ h).symm
theorem wH(h:W.cell? ⟨n,k,none⟩=some x/\w.grownBy W none)(g:W.grownBy V none):V.cell? ⟨n,k,none⟩=some x/\w.grownBy V none:=⟨g.cell h.1 (by simp),aj h.2 g⟩
theorem qo(h:w.heap[b]?=some (.cells #[x,y,z] T (0,0))):(w.cell? ⟨b,0,none⟩=some x/\w.cell? ⟨b,1,none⟩=some y/\w.cell? ⟨b,2,none⟩=some z)/\w.frozen? ⟨b,0,none⟩=false/\w.frozen? ⟨b,1,none⟩=false/\w.frozen? ⟨b,2,none⟩=false:=by
 simp[World.cell?,World.frozen?,h]
theorem E4(w:World)(sb b:Nat)(ab:Option Addr)(nb cb:Nat)(ac:Option Addr)(nc cc:Nat)(o:Ot)(H:gE w sb b ab nb cb ac nc cc o.h)(T:jA w sb b o):
 Calls prog 239 #[.pointer (some ⟨sb,b,none⟩)] w λr d=>(∃a n c l,r=.returned (.agg #[.slice a n c,.bool o.uE,.bool o.uG])/\ba d a n c l/\aZ l/\(∀y,a=some y->w.heap.size<=y.block)/\l.length<=o.h.ag.length+1/\∀m,Sm l m↔(o.h.fr<=m/\m<o.h.fr+o.h.bytes.length)/\¬Sm o.h.ag m)/\w.grownBy d none:=by
 obtain⟨R,q⟩:∃R:Ending->World->Prop,R=λr d=>(∃a n c l,r=.returned (.agg #[.slice a n c,.bool o.uE,.bool o.uG])/\ba d a n c l/\aZ l/\(∀y,a=some y->w.heap.size<=y.block)/\l.length<=o.h.ag.length+1/\∀m,Sm l m↔(o.h.fr<=m/\m<o.h.fr+o.h.bytes.length)/\¬Sm o.h.ag m)/\w.grownBy d none:=⟨_,rfl⟩
 rw[<-q];replace q:=J q;have M:=H.2.2.2.2.2;have N:(⟨o.h.fr,o.h.fr+o.h.bytes.length⟩:Rg).ok:=by
  obtain⟨k0,k1,-⟩:=M;constructor<;>simp only[aR]<;>omega
 have u:=J (λW(g:w.grownBy W none)=>zv W sb b ab nb cb ac nc cc o.h (H.ah g) ⟨o.h.fr,o.h.fr+o.h.bytes.length⟩ N);have O:=J (λW(g:w.grownBy W none)=>zk W sb b ab nb cb ac nc cc o.h (H.ah g));have Y:=J (λW(g:w.grownBy W none)=>zy W sb b o (T.ah g));obtain⟨c0,-⟩:=H;obtain⟨fr,f⟩:=exq o.h.fr;obtain⟨en,s⟩:∃en:Int,en=o.h.fr+o.h.bytes.length:=⟨_,rfl⟩
 simp only[<-f]at c0;rw[<-s]at u O;simp only[<-f]at u;replace f:=J f;replace s:=J s;clear T M N;go_enter func239,ntmps239;go_wp2_with fail;have x:=aC w (.cells #[.slice none 0 0,.bool false,.bool false] 332) none;have i:(w.alloc (.cells #[.slice none 0 0,.bool false,.bool false] 332)).heap[w.heap.size]?=some (.cells #[.slice none 0 0,.bool false,.bool false] 332 (0,0)):=aH _ _;obtain⟨j,P⟩:=exq (w.alloc (.cells #[.slice none 0 0,.bool false,.bool false] 332));rw[<-P]at x i⊢;clear P;have a4:=dN w _ c0;have A:j.drew.cell? ⟨sb,b,none⟩=some (.int .u64 fr)/\w.grownBy j.drew none:=⟨x.cell c0 (by simp),aP x⟩
 replace i:=J i;have al:=c0;clear c0;go_region_held3 (λd=>d.cell? ⟨sb,b,none⟩=some (.int .u64 fr)/\w.grownBy d none)
  (first|with_reducible exact Q|with_reducible exact S|with_reducible exact B|with_reducible exact C|with_reducible exact A)
  (first
    |(go_at_call 196;refine(Z O _ A.2).mono ?_;rintro e w5⟨rfl,D⟩;have C:=wH A D)
    |(go_at_call 278;refine(Z u _ C.2).mono ?_;rintro e w6⟨⟨a6,k,c6,l6,rfl,m1,E,F,G,I⟩,U⟩;have B:=wH C U;replace m1:=J m1;replace E:=J E;replace F:=J F;replace G:=J G;replace I:=J I)
    |(go_at_call 279;refine(Z Y _ B.2).mono ?_;rintro e t⟨rfl,K⟩;have S:=wH B K;have a1:t.heap[w.heap.size]?=some (.cells #[.slice none 0 0,.bool false,.bool false] 332 (0,0)):=(bf (Z i) (aj (aP (av j none)) (aj D (aj U K))));obtain⟨⟨q0,q1,q2⟩,z0,z1,z2⟩:=qo a1;have Q:(((t.setCell ⟨w.heap.size,0,none⟩ (.slice a6 k c6)).setCell ⟨w.heap.size,1,none⟩ (.bool o.uE)).setCell ⟨w.heap.size,2,none⟩ (.bool o.uG)).cell? ⟨sb,b,none⟩=some (.int .u64 fr)/\w.grownBy (((t.setCell ⟨w.heap.size,0,none⟩ (.slice a6 k c6)).setCell ⟨w.heap.size,1,none⟩ (.bool o.uE)).setCell ⟨w.heap.size,2,none⟩ (.bool o.uG)) none:=(by have V:w.grownBy (((t.setCell ⟨w.heap.size,0,none⟩ (.slice a6 k c6)).setCell ⟨w.heap.size,1,none⟩ (.bool o.uE)).setCell ⟨w.heap.size,2,none⟩ (.bool o.uG)) none:=aD (aD (aD S.2 _ _ (.inl (aI _))) _ _ (.inl (aI _))) _ _ (.inl (aI _));exact⟨V.cell al (by simp),V⟩)))
 go_wp2_with fail;refine cz (v:=.agg #[.slice a6 k c6,.bool o.uE,.bool o.uG]) ?_ rfl ?_
 ·simp[results,results239,go_sem, *]
 have bt:w.heap.size<j.heap.size:=(aO.1 (Z i)).1;have bx:j.heap.size<=w5.heap.size:=D.size;have X:∀z,a6=some z->w.heap.size<z.block:=λz p=>by have:=Z F z p;omega
 have L:∀z,a6=some z->z.block≠w.heap.size:=λz p=>by have:=X z p;omega
 rw[Z q];refine⟨⟨a6,k,c6,l6,rfl,?_,Z E,λz p=>Nat.le_of_lt (X z p),Z G,λm=>?_⟩,Q.2⟩
 exact((((Z m1).ah K).aw L _ _).aw L _ _).aw L _ _;have:=Z I m;simp only[Z f,Z s]at this;exact this
def zC(w:World)(sb d b c:Nat)(v:Value)(e f:Int)(g h uE uG:Bool)(a:World):Prop:=
 a.cell? ⟨sb,d+2,none⟩=some v/\a.cell? ⟨b,0,none⟩=some (.int .u64 e)/\a.cell? ⟨b,1,none⟩=some (.int .u64 f)/\a.cell? ⟨b,2,none⟩=some (.bool g)/\a.cell? ⟨b,3,none⟩=some (.bool h)/\a.cell? ⟨c,0,none⟩=some (.bool uE)/\a.cell? ⟨c,1,none⟩=some (.bool uG)/\w.grownBy a none
theorem wI{a uE uG:Bool}(h:W.cell? ⟨n,k+2,none⟩=some x/\W.cell? ⟨i,0,none⟩=some (.int .u64 p)/\W.cell? ⟨i,1,none⟩=some (.int .u64 q)/\W.cell? ⟨i,2,none⟩=some (.bool B)/\W.cell? ⟨i,3,none⟩=some (.bool a)/\W.cell? ⟨j,0,none⟩=some (.bool uE)/\W.cell? ⟨j,1,none⟩=some (.bool uG)/\w.grownBy W none)(g:W.grownBy V none):
 V.cell? ⟨n,k+2,none⟩=some x/\V.cell? ⟨i,0,none⟩=some (.int .u64 p)/\V.cell? ⟨i,1,none⟩=some (.int .u64 q)/\V.cell? ⟨i,2,none⟩=some (.bool B)/\V.cell? ⟨i,3,none⟩=some (.bool a)/\V.cell? ⟨j,0,none⟩=some (.bool uE)/\V.cell? ⟨j,1,none⟩=some (.bool uG)/\w.grownBy V none:=
 ⟨g.cell h.1 (by simp),g.cell h.2.1 (by simp),g.cell h.2.2.1 (by simp),g.cell h.2.2.2.1 (by simp),g.cell h.2.2.2.2.1 (by simp),g.cell h.2.2.2.2.2.1 (by simp),g.cell h.2.2.2.2.2.2.1 (by simp),aj h.2.2.2.2.2.2.2 g⟩
theorem E5(a b c d:Bool)(W:World):(binOp .eql 231 (.agg #[.bool a,.bool b]) (.agg #[.bool c,.bool d])).run prog W=.ok (.bool ((a==c)&&(b==d))) W:=by
 cases a<;>cases b<;>cases c<;>cases d<;>kernel_rfl
theorem dw.t{e:Ending}(h:dw u e)(hp:u):e=.returned (.bool true):=by
 obtain⟨b,a,c⟩:=h;rw[a,c.2 hp]
theorem dw.f{e:Ending}(h:dw u e)(hp:¬u):e=.returned (.bool false):=by
 obtain⟨b,a,c⟩:=h;cases b;exact a;exact absurd (c.1 rfl) hp
theorem jB{P:Program}{b:Region.Mode}(i d:Nat){v:Value}{e:Array Bool}{a:Act}(hi:F[i]?=some I)
 (hd:I.dst=some d) (hs:Region.noSelect F=true) (f:Region.free b F e i=true) (g:(Region.ready b F e).contains i=true)
 (j:∀c a w,G (.panic c) (a.put (some d) v) w->G (.panic c) a w) (k:YieldsIf P F R I v a) (l:R w)
 (h:wpAnyH P b F G R n (e.setIfInBounds i true) (a.put (some d) v) w):wpAnyH P b F G R (n+1) e a w:=
 wpAnyH_take hi hs f g (by rw[hd];exact j) k l (by rw[hd];exact h)
def sB(o:Ot)(x:Rg)(a b:Bool):Prop:=(x.hi<=x.lo\/∃r∈o.h.ag,r.lo<=x.lo/\x.hi<=r.hi)/\(o.uE&& !a)=o.uE/\(o.uG&& !b)=o.uG
theorem E6(w:World)(sb m:Nat)(ab:Option Addr)(nb cb:Nat)(ac:Option Addr)(nc cc:Nat)(o:Ot)(H:gE w sb m ab nb cb ac nc cc o.h)(T:jA w sb m o)(x:Rg)(i j:Bool):
 Calls prog 256 #[.pointer (some ⟨sb,m,none⟩),.agg #[.int .u64 x.lo,.int .u64 x.hi,.bool i,.bool j]] w λr a=>dw (sB o x i j) r/\w.grownBy a none:=by
 obtain⟨R,s⟩:∃R:Prop,R=sB o x i j:=⟨_,rfl⟩
 rw[<-s];replace s:=J s;have hU:=J (λW(g:w.grownBy W none)=>zy W sb m o (T.ah g));have O:=J (λW(g:w.grownBy W none)=>zj ac nc cc o.h.ag x W (H.2.2.2.2.1.ah g));have P:=J (λW=>wE o.uE o.uG i j W);have c2:=H.2.2.1;clear H T;obtain⟨c,d⟩:=x;simp only at *;generalize E:o.uE=uE at *;generalize F:o.uG=uG at *;replace E:=J E;replace F:=J F;have bb:=dN w _ c2;obtain⟨G,A⟩:=exq ((uE&& !i));obtain⟨z2,B⟩:=exq ((uG&& !j));rw[<-A,<-B]at P;have Q:Hid ((d<=c\/∃r∈o.h.ag,r.lo<=c/\d<=r.hi)->(((G==uE)&&(z2==uG))=true↔R)):=J (λk=>by
  rw[Z s,sB,Z E,Z F,<-A,<-B];simp[k])
 have a3:Hid (¬(d<=c\/∃r∈o.h.ag,r.lo<=c/\d<=r.hi)->¬R):=J (λk h=>by rw[Z s]at h;exact k h.1);replace A:=J A;replace B:=J B;obtain⟨U,C⟩:=exq (((G==uE)&&(z2==uG)));have bj:∀W,(binOp .eql 231 (.agg #[.bool G,.bool z2]) (.agg #[.bool uE,.bool uG])).run prog W=.ok (.bool U) W:=λW=>by rw[C];exact E5 _ _ _ _ W
 rw[<-C]at Q;replace C:=J C;go_enter func256,ntmps256;have V:=aC w (.cells #[.int .u64 c,.int .u64 d,.bool i,.bool j] 377) none;have I:(w.alloc (.cells #[.int .u64 c,.int .u64 d,.bool i,.bool j] 377)).heap[w.heap.size]?=some (.cells #[.int .u64 c,.int .u64 d,.bool i,.bool j] 377 (0,0)):=aH _ _;replace I:=J I;go_wp2_with fail;refine(Z hU _ V).mono ?_;rintro e l⟨rfl,L⟩;have X:=aj V L;have u:=bf (Z I) L;have p0:l.cell? ⟨w.heap.size,0,none⟩=some (.int .u64 c):=by simp[World.cell?,u]
 have Y:l.cell? ⟨w.heap.size,1,none⟩=some (.int .u64 d):=by simp[World.cell?,u]
 have p2:l.cell? ⟨w.heap.size,2,none⟩=some (.bool i):=by simp[World.cell?,u]
 have p3:l.cell? ⟨w.heap.size,3,none⟩=some (.bool j):=by simp[World.cell?,u]
 have d2:=X.cell c2 (by simp);clear c2 L;go_wp2_with fail;obtain⟨y,D⟩:=exq (l.alloc (.cells #[.bool uE,.bool uG] 231));rw[<-D];have n:l.grownBy y none:=by rw[D];exact aC _ _ _
 have M:y.heap[l.heap.size]?=some (.cells #[.bool uE,.bool uG] 231 (0,0)):=by rw[D];exact aH _ _
 have p:zC w sb m w.heap.size l.heap.size (.slice ac nc cc) c d i j uE uG y.drew:=⟨n.cell d2 (by simp),n.cell p0 (by simp),n.cell Y (by simp),n.cell p2 (by simp),n.cell p3 (by simp),(show y.cell? _=_ by simp[World.cell?,M]),(show y.cell? _=_ by simp[World.cell?,M]),aP (aj X n)⟩
 clear D p0 Y p2 p3 d2 u M;have al:=p.2.2.2.2.2.2.2;unfold zC at p;by_cases k:d<=c\/∃r∈o.h.ag,r.lo<=c/\d<=r.hi
 ·replace k:=J k;go_region_held3 (λa=>a.cell? ⟨sb,m+2,none⟩=some (.slice ac nc cc)/\a.cell? ⟨w.heap.size,0,none⟩=some (.int .u64 c)/\a.cell? ⟨w.heap.size,1,none⟩=some (.int .u64 d)/\a.cell? ⟨w.heap.size,2,none⟩=some (.bool i)/\a.cell? ⟨w.heap.size,3,none⟩=some (.bool j)/\a.cell? ⟨l.heap.size,0,none⟩=some (.bool uE)/\a.cell? ⟨l.heap.size,1,none⟩=some (.bool uG)/\w.grownBy a none)
   (first|with_reducible exact ax|with_reducible exact q|with_reducible exact p)
   (first
     |(go_at_call 211;refine(Z O _ al).mono ?_;rintro e w5⟨z,N⟩;obtain rfl:=z.t (Z k);clear z;have q:=wI p N;have a0:=q.2.2.2.2.2.2.2)
     |(go_at_call 282;refine(Z P _).mono ?_;rintro e w6⟨rfl,g6⟩;have ax:=wI q g6))
  go_wp2_with fail;go_ret;exact⟨⟨U,rfl,Z Q (Z k)⟩,ax.2.2.2.2.2.2.2⟩
 replace k:=J k;refine wp_region_held_drew (S:=(λa=>a.cell? ⟨sb,m+2,none⟩=some (.slice ac nc cc)/\a.cell? ⟨w.heap.size,0,none⟩=some (.int .u64 c)/\a.cell? ⟨w.heap.size,1,none⟩=some (.int .u64 d)/\a.cell? ⟨w.heap.size,2,none⟩=some (.bool i)/\a.cell? ⟨w.heap.size,3,none⟩=some (.bool j)/\a.cell? ⟨l.heap.size,0,none⟩=some (.bool uE)/\a.cell? ⟨l.heap.size,1,none⟩=some (.bool uG)/\w.grownBy a none)) (by kernel_rfl) p (λa9=>?_);refine jB 0 8 (v:=?_) rfl rfl (by kernel_rfl) (by kernel_rfl) (by kernel_rfl) (λ_ _ _ h=>h) (Or.inl ⟨by rfl,?_⟩) (by assumption) ?_;rotate_left
 ·(intro w b;(try dsimp only at b);go_simp;try with_reducible rfl)
 simp only[Act.put,ke,kJ,kK]
 refine jB 1 9 (v:=?_) rfl rfl (by kernel_rfl) (by kernel_rfl) (by kernel_rfl) (λ_ _ _ h=>h) (Or.inl ⟨by rfl,?_⟩) (by assumption) ?_;rotate_left
 ·(intro w b;(try dsimp only at b);go_simp;try with_reducible rfl)
 simp only[Act.put,ke,kJ,kK]
 refine jB 2 10 (v:=?_) rfl rfl (by kernel_rfl) (by kernel_rfl) (by kernel_rfl) (λ_ _ _ h=>h) (Or.inl ⟨by rfl,?_⟩) (by assumption) ?_;rotate_left
 ·(intro w b;(try dsimp only at b);go_simp;try with_reducible rfl)
 simp only[Act.put,ke,kJ,kK]
 refine jB 3 11 (v:=?_) rfl rfl (by kernel_rfl) (by kernel_rfl) (by kernel_rfl) (λ_ _ _ h=>h) (Or.inl ⟨by rfl,?_⟩) (by assumption) ?_;rotate_left
 ·(intro w b;(try dsimp only at b);go_simp;try with_reducible rfl)
 simp only[Act.put,ke,kJ,kK]
 refine jB 4 12 (v:=?_) rfl rfl (by kernel_rfl) (by kernel_rfl) (by kernel_rfl) (λ_ _ _ h=>h) (Or.inl ⟨by rfl,?_⟩) (by assumption) ?_;rotate_left
 ·(intro w b;(try dsimp only at b);go_simp;try with_reducible rfl)
 simp only[Act.put,ke,kJ,kK]
 refine jB 5 13 (v:=?_) rfl rfl (by kernel_rfl) (by kernel_rfl) (by kernel_rfl) (λ_ _ _ h=>h) (Or.inl ⟨by rfl,?_⟩) (by assumption) ?_;rotate_left
 ·(intro w b;(try dsimp only at b);go_simp;try with_reducible rfl)
 simp only[Act.put,ke,kJ,kK]
 refine jB 6 14 (v:=?_) rfl rfl (by kernel_rfl) (by kernel_rfl) (by kernel_rfl) (λ_ _ _ h=>h) (Or.inl ⟨by rfl,?_⟩) (by assumption) ?_;rotate_left
 ·(intro w b;(try dsimp only at b);go_simp;try with_reducible rfl)
 simp only[Act.put,ke,kJ,kK]
 refine wpAnyH_ready (rs:=[7]) (by kernel_rfl) (by simp) ?_;refine AllReadyH.cons (o:=_) rfl (λK hK=>?_) AllReadyH.nil;go_simp;refine(Z O _ al).mono ?_;rintro e w5⟨z,N⟩;obtain rfl:=z.f (Z k);clear z;have q:=wI p N;have a0:=q.2.2.2.2.2.2.2;go_wp2_with fail;refine hK.out _ _ q (λa9=>?_);clear hK K;refine jB 8 16 (v:=?_) rfl rfl (by kernel_rfl) (by kernel_rfl) (by kernel_rfl) (λ_ _ _ h=>h) (Or.inl ⟨by rfl,?_⟩) (by assumption) ?_;rotate_left
 ·(intro w b;(try dsimp only at b);go_simp;try with_reducible rfl)
 simp only[Act.put,ke,kJ,kK]
 refine jB 9 17 (v:=_) rfl rfl (by kernel_rfl) (by kernel_rfl) (by kernel_rfl) (λ_ _ _ h=>h) (Or.inr ⟨by rfl,rfl⟩) (by assumption) ?_;simp only[Act.put,ke,kJ,kK]
 refine jB 10 18 (v:=_) rfl rfl (by kernel_rfl) (by kernel_rfl) (by kernel_rfl) (λ_ _ _ h=>h) (Or.inr ⟨by rfl,rfl⟩) (by assumption) ?_;simp only[Act.put,ke,kJ,kK]
 refine jB 11 19 (v:=_) rfl rfl (by kernel_rfl) (by kernel_rfl) (by kernel_rfl) (λ_ _ _ h=>h) (Or.inr ⟨by rfl,rfl⟩) (by assumption) ?_;simp only[Act.put,ke,kJ,kK]
 refine jB 12 20 (v:=_) rfl rfl (by kernel_rfl) (by kernel_rfl) (by kernel_rfl) (λ_ _ _ h=>h) (Or.inr ⟨by rfl,rfl⟩) (by assumption) ?_;simp only[Act.put,ke,kJ,kK]
 refine jB 13 21 (v:=_) rfl rfl (by kernel_rfl) (by kernel_rfl) (by kernel_rfl) (λ_ _ _ h=>h) (Or.inr ⟨by rfl,rfl⟩) (by assumption) ?_;simp only[Act.put,ke,kJ,kK]
 refine jB 14 22 (v:=_) rfl rfl (by kernel_rfl) (by kernel_rfl) (by kernel_rfl) (λ_ _ _ h=>h) (Or.inr ⟨by rfl,rfl⟩) (by assumption) ?_;simp only[Act.put,ke,kJ,kK]
 refine jB 15 23 (v:=?_) rfl rfl (by kernel_rfl) (by kernel_rfl) (by kernel_rfl) (λ_ _ _ h=>h) (Or.inl ⟨by rfl,?_⟩) (by assumption) ?_;rotate_left
 ·(intro w b;(try dsimp only at b);go_simp;try with_reducible rfl)
 simp only[Act.put,ke,kJ,kK]
 refine jB 16 4 (v:=?_) rfl rfl (by kernel_rfl) (by kernel_rfl) (by kernel_rfl) (λ_ _ _ h=>h) (Or.inl ⟨by rfl,?_⟩) (by assumption) ?_;rotate_left
 ·(intro w b;(try dsimp only at b);go_simp;try with_reducible rfl)
 simp only[Act.put,ke,kJ,kK]
 refine wpAnyH_done (by kernel_rfl) ?_ _;go_wp2_with fail;go_ret;exact⟨lu (Z a3 (Z k)),a0⟩
