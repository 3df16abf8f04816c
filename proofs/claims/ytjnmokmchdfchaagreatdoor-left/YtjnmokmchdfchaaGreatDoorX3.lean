import Derived.Deep.RegionLaw
import Derived.Test.YtjnmokmchdfchaaGreatDoorX1
import Derived.Test.YtjnmokmchdfchaaGreatDoorX2
set_option maxRecDepth 1000000
set_option maxHeartbeats 0
set_option linter.all false
namespace Go.Proofs.YtjnmokmchdfchaaGreatDoor
open Go.RowKit Tryz
attribute[local go_sem↓]Go.wp_at_zero Go.wp_at_succ
variable{F:Act}{A:Addr}{C c:Array Value}{B:Bool}{H:Exit->Act->World->Prop}{p q:Int}{K L:List Int}{D:List Rg}{b i j k l m n o:Nat}{P S:Nat->Prop}{u:Oper}{O a:Option Addr}{N:Option Nat}{T:TypeId}{x y z:Value}{V W v w:World}{R:World->Prop}
structure It where
 h:Hd
 high:Int
 last:Int
 code:Int
 ended:Bool
 given:Bool
 over:Bool
def sf(w:World)(sb a:Nat)(s:It):Prop:=
 w.cell? ⟨sb,a+3,none⟩=some (.int .u64 s.high)/\w.cell? ⟨sb,a+4,none⟩=some (.int .u64 s.last)/\w.cell? ⟨sb,a+5,none⟩=some (.int .u64 s.code)/\w.cell? ⟨sb,a+6,none⟩=some (.bool s.ended)/\w.cell? ⟨sb,a+7,none⟩=some (.bool s.given)/\w.cell? ⟨sb,a+8,none⟩=some (.bool s.over)
def sf.an{s:It}(H:sf w n k s)(g:w.grownBy W none):sf W n k s:=
 ⟨gC_ g H.1,gC_ g H.2.1,gC_ g H.2.2.1,gC_ g H.2.2.2.1,gC_ g H.2.2.2.2.1,gC_ g H.2.2.2.2.2⟩
def aW(f:Fr):Int:=f.offset+f.data.size
def It.gJ(s:It)(e:Int):Bool:=(s.ended&&(e !=s.last))||decide (e<s.high)
def It.busy(s:It)(f:Fr)(ag:Int):Bool:= !s.given&&decide (s.h.fr+ag<aW f)
def yj(w:World)(f:Fr)(a:Value)(h0:0<=f.offset)(hs:aW f<=9223372036854775807):Calls prog 247 #[.agg (bO f a)] w λe b=>e=.returned (.int .u64 (aW f))/\w.grownBy b none:=by
 obtain⟨kind,stream,offset,code,fin,data,ranges⟩:=f;unfold aW bO at *;simp only at *;have c:IntKind.u64.wrap (offset+(data.size:Int))=offset+(data.size:Int):=by rw[fD];omega
 have d:IntKind.u64.wrap (data.size:Int)=(data.size:Int):=by rw[fD];omega
 go_enter func247,ntmps247;go_wp2;go_ret;exact⟨rfl,by repeat(first|exact aB _ _|apply dy|apply aV|apply aY)⟩
def AY(w:World)(sb a:Nat)(s:It)(H:sf w sb a s)(e:Int):Calls prog 257 #[.pointer (some ⟨sb,a,none⟩),.int .u64 e] w λr b=>r=.returned (.bool (s.gJ e))/\b=w:=by
 obtain⟨c3,c4,c5,c6,c7,c8⟩:=H;unfold It.gJ;generalize s.high=hi at *;generalize s.last=la at *;generalize s.ended=en at *;cases en<;>by_cases hd:e=la<;>by_cases c:e<hi;all_goals
  go_enter func257,ntmps257
  go_wp2_with fail
  all_goals
   first
    |(go_ret;exact⟨by simp_all[bne],rfl⟩)
    |(exfalso;omega)
variable{E:It}
def kc(h:w.cell? A=some x):∀W,w.grownBy W none->W.cell? A=some x:=λ_ g=>gC_ g h
def GJ(w:World)(sb g:Nat)(s:It)(h0:w.cell? ⟨sb,g,none⟩=some (.int .u64 s.h.fr))(H:sf w sb g s)(A:0<=s.h.fr/\s.h.fr<=4611686018427387903)(f:Fr)(c:Value)(x:0<=f.offset)(hs:aW f<=9223372036854775807)(ag:Int)(B:0<=ag/\ag<=1000000):
 Calls prog 214 #[.pointer (some ⟨sb,g,none⟩),.agg (bO f c),.int .i64 ag] w λr i=>r=.returned (.bool (s.busy f ag))/\w.grownBy i none:=by
 obtain⟨-,-,-,-,c7,-⟩:=H;unfold It.busy;have y:=J (λW=>yj W f c x hs);generalize s.h.fr=fr at *;generalize s.given=gv at *;generalize aW f=en at *;obtain⟨kind,stream,offset,code,fin,data,ranges⟩:=f;unfold bO at *;simp only at *;obtain⟨b,a⟩:=exq (w.alloc (.cells #[.int .i64 kind,.int .i64 stream,.int .u64 offset,.int .u64 code,.bool fin,.string data,c] 158));have d:w.grownBy b none:=by rw[a];exact aH _ _ _
 have j:b.heap[w.heap.size]?=some (.cells #[.int .i64 kind,.int .i64 stream,.int .u64 offset,.int .u64 code,.bool fin,.string data,c] 158 (0,0)):=by rw[a];exact aO _ _
 obtain⟨l,m,n,p,q,t,u⟩:=cM j;replace l:=kc l;replace m:=kc m;replace n:=kc n;replace p:=kc p;replace q:=kc q;replace t:=kc t;replace u:=kc u;have d0:=kc (gC_ d h0);have d7:=kc (gC_ d c7);clear h0 c7;have C:IntKind.u64.wrap ag=ag:=by rw[fD];omega
 have D:IntKind.u64.wrap (fr+ag)=fr+ag:=by rw[fD];omega
 have k:b.grownBy b.drew none:=aV (aB _ _);replace j:=J j;cases gv
 ·go_enter func214,ntmps214;go_wp2_with fail;rw[<-a];clear a;go_region_held3 (λi=>b.grownBy i none)
   (with_reducible first|exact v|exact k)
   (first|(go_at_call 247;apply(Z y _).mono;rintro e E⟨rfl,z⟩;have v:=aq k z))
  go_wp2;go_ret;exact⟨rfl,aq d v⟩
 go_enter func214,ntmps214;go_wp2_with fail;rw[<-a];clear a;go_big_region;go_wp2;go_ret;exact⟨rfl,aq d k⟩
structure ao(w a:World)(S:Nat->Prop):Prop where
 os:a.os=w.os
 tape:a.tape=w.tape
 output:a.output=w.output
 size:w.heap.size<=a.heap.size
 block:∀k,k<w.heap.size->¬S k->a.heap[k]?=w.heap[k]?
def ao.of(g:w.grownBy W N):ao w W (λk=>N=some k):=
 ⟨g.os,g.tape,g.output,g.size,λk a h=>g.block k a (λe=>h e.symm)⟩
def ao.trans(h:ao w W S)(k:ao W v P):ao w v (λi=>S i\/P i):=
 ⟨k.os.trans h.os,k.tape.trans h.tape,k.output.trans h.output,bD h.size k.size,λi hi a=>(k.block i (bX hi h.size) (λe=>a (.inr e))).trans (h.block i hi (λe=>a (.inl e)))⟩
def ao.mono(h:ao w W S)(b:∀k,k<w.heap.size->S k->P k):ao w W P:=
 ⟨h.os,h.tape,h.output,h.size,λk a c=>h.block k a (λe=>c (b k a e))⟩
def ao.gb(h:ao w W S)(b:∀k,k<w.heap.size->S k->N=some k):w.grownBy W N:=
 ⟨h.os,h.tape,h.output,h.size,λk a c=>h.block k a (λe=>c (b k a e).symm)⟩
def ao.rfl'(w:World)(S:Nat->Prop):ao w w S:=⟨rfl,rfl,rfl,aR _,λ_ _ _=>rfl⟩
def Bh(w:World)(sb ho:Nat)(ab:Option Addr)(nb cb:Nat)(ac:Option Addr)(nc cc:Nat)(h:Hd)(H:gV w sb ho ab nb cb ac nc cc h):
 Calls prog 196 #[.pointer (some ⟨sb,ho,none⟩)] w λe c=>e=.returned (.int .u64 (h.fr+h.bytes.length))/\∃k,c=w.drewN k:=by
 obtain⟨c0,c1,c2,a,-,⟨f,d,-,k3,-⟩⟩:=H;obtain⟨fr,bytes,af⟩:=h;simp only at *;have b:nb=bytes.length:=a.2.1;rw[<-b]at d k3⊢;clear b a;have g:IntKind.u64.wrap (fr+(nb:Int))=fr+(nb:Int):=by rw[fD];omega
 go_enter func196,ntmps196;go_wp2_with fail;go_quiet (fail);go_wp2;go_ret;exact⟨rfl,_,rfl⟩
def Hf(a:Option Addr)(n cap i:Nat)(h:i<=cap)(W:World):(Instr.slice 112 (.slice a n cap) none (some (.int .i64 i)) none).run prog W=.ok (.slice a i cap) W:=by
 rw[run_slice_h W 112 a n cap (by rw[sh];exact underlying112) .i64 (i:Int) (by omega) (by omega),sh,yn];simp only[jd,sliced,nT,nV,Nat.sub_zero]
 congr 1;cases a with
 |none=>simp
 |some y=>simp[Addr.add]
def yr(h:BS w b o L)(n:Nat):BS w b o (L.take n):=by
 refine⟨λi hi=>?_,λx a=>h.2 x (jc a)⟩
 rw[ct]at hi;rw[h.1 i (by omega)];simp[jI,show i<n by omega]
def Hg(h:bI w a n k L)(m:Nat)(g:m<=n):bI w a m k (L.take m):=by
 obtain⟨d,i,j,e,c⟩:=h;refine⟨λx f=>d x (jc f),by rw[ct];omega,by omega,e,?_⟩
 obtain c|⟨b,o,rfl,c⟩:=c
 exact .inl c;exact .inr ⟨b,o,rfl,yr c m⟩
def Hh(w:World)(sb b i:Nat)(cs:Array Value)(t:TypeId)(ab:Option Addr)(nb cb:Nat)(ac:Option Addr)(nc cc:Nat)(h:Hd)(j:w.heap[sb]?=some (.cells cs t (0,0)))(H:gV w sb b ab nb cb ac nc cc h)(ho:bn w i (.slice ab nb cb) h.bytes)(L:i<=w.heap.size)(M:∀y,ab=some y->y.block≠sb)
 (f:Option Addr) (nx d:Nat) (l:List Int) (hl:bI w f nx d l) (ag:Int) (N:(h.bytes.length:Int)<=ag/\ag<=1000000) (O:h.fr+h.bytes.length<=4096) (m:Nat) (c:(m:Int)=min (min (l.length:Int) (ag-h.bytes.length)) (4096-(h.fr+h.bytes.length))):
 Calls prog 150 #[.pointer (some ⟨sb,b,none⟩),.slice f nx d,.int .i64 ag] w λr v=>r=.returned (.int .i64 m)/\∃n p q,bn v i (.slice n p q) (h.bytes++l.take m)/\ao w v (λk=>k=sb\/(Value.slice ab nb cb).ownBlock=some k)/\v.heap[sb]?=some (.cells (cs.setIfInBounds (b+1) (.slice n p q)) t (0,0))/\((Value.slice n p q).ownBlock=(Value.slice ab nb cb).ownBlock\/∀k,(Value.slice n p q).ownBlock=some k->w.heap.size<=k):=by
 have D:=J (λk=>Bh (w.drewN k) sb b ab nb cb ac nc cc h (H.an (dy (aB _ _) k)));obtain⟨c0,c1,c2,x,-,⟨k0,P,-,k3,-⟩⟩:=H;obtain⟨fr,bytes,af⟩:=h;simp only at *;have s:nb=bytes.length:=x.2.1;have z:nx=l.length:=hl.2.1;rw[<-s]at D c N O P k3;rw[<-z]at c;go_enter func150,ntmps150;replace⟨s,z,x,hl,ho⟩:=eR s z x hl ho;have Q:IntKind.i64.wrap (ag-(nb:Int))=ag-(nb:Int):=wI_;have R:IntKind.i64.wrap (fr+(nb:Int))=fr+(nb:Int):=wI_;have S:IntKind.i64.wrap (4096-(fr+(nb:Int)))=4096-(fr+(nb:Int)):=wI_;replace c:=J c;go_wp2_with fail;go_quiet (first|(go_at_call 196;exact Calls.quiet_of (Z D _)));have E:(if 4096-(fr+(nb:Int))<(if ag-(nb:Int)<(nx:Int)then ag-(nb:Int)else(nx:Int))then 4096-(fr+(nb:Int))else(if ag-(nb:Int)<(nx:Int)then ag-(nb:Int)else(nx:Int)))=(m:Int):=by
  have:=Z c;split<;>split at * <;>omega
 rw[E];clear E Q R S;have T:m<=nx:=by have:=Z c;omega
 have a1:nx<=d:=(Z hl).2.2.1;have a2:∀W,(Instr.slice 112 (.slice f nx d) none (some (.int .i64 m)) none).run prog W=.ok (.slice f m d) W:=λW=>Hf f nx d m (by omega) W
 have U:=J (Hg (Z hl) m T);have V:Hid (bytes.length+(l.take m).length<=100000000):=J (by have:=Z s;have:=Z c;rw[ct];omega);have f1:w.frozen? ⟨sb,b+1,none⟩=false:=fZ_ j;have X:sb<w.heap.size:=(aZ.1 j).1;have F:Hid ((Value.slice ab nb cb).ownBlock≠some sb):=J (by
  cases ab with
  |none=>simp[Value.ownBlock]
  |some y=>simp only[Value.ownBlock];exact λe=>M y rfl (aQ e))
 go_wp2_with fail;go_region_law ((refine vC (by rfl) _ _ (by rfl) i _ bytes (by rfl) ((Z ho).an (aV (dy (aB _ _) _))) _ _ _ (l.take m) (by rfl) ((Z U).an (aV (dy (aB _ _) _))) (Z V) L ?_;intro a7 c7 g A G u;replace A:=J A;replace u:=J u;have B:g.heap[sb]?=some (.cells cs t (0,0)):=((G.block sb X (λe=>Z F e.symm)).trans j);have a3:g.cell? ⟨sb,b+1,none⟩=some (.slice ab nb cb):=((jX (w:=w) (a:=⟨sb,b+1,none⟩) (B.trans j.symm)).trans c1);have f7:g.frozen? ⟨sb,b+1,none⟩=false:=(by simp[World.frozen?,B])));all_goals go_wp2_with fail
 all_goals
  go_ret
  have Y:(Value.slice a7 (bytes.length+(l.take m).length) c7).ownBlock≠some sb:=by
   obtain e|e:=Z u
   rw[e];exact Z F;rw[e];intro e2;have h8:w.heap.size=sb:=aQ e2;omega
  have I:=(Z A).gb (aK (aB g (some sb)) ⟨sb,b+1,none⟩ (.slice a7 (bytes.length+(l.take m).length) c7) (.inr rfl)) (.inr Y)
  rw[ct]at I
  have al:(Value.slice a7 (bytes.length+min m l.length) c7).ownBlock=(Value.slice ab nb cb).ownBlock\/∀k,(Value.slice a7 (bytes.length+min m l.length) c7).ownBlock=some k->w.heap.size<=k:=by
   have K:=Z u;rw[ct]at K;refine K.imp id (λe k C=>?_);rw[e]at C;have a8:w.heap.size=k:=aQ C;omega
  refine⟨rfl,a7,_,c7,I,?_,heap_set B _,al⟩
  have C1:ao w (w.drewN nq).drew (λ_=>False):=⟨rfl,rfl,rfl,aR _,λ_ _ _=>rfl⟩
  have C3:=ao.of (aK (aB g (some sb)) ⟨sb,b+1,none⟩ (.slice a7 (bytes.length+min m l.length) c7) (.inr rfl))
  refine((C1.trans (ao.of G)).trans C3).mono (λk C h=>?_)
  obtain(h|h)|h:=h
  exact h.elim
  exact .inr h
  exact .inl (aQ h).symm
def ys(h:W.cell? ⟨n,k,none⟩=some x/\w.grownBy W none)(g:W.grownBy V none):V.cell? ⟨n,k,none⟩=some x/\w.grownBy V none:=⟨gC_ g h.1,aq h.2 g⟩
def rq(h:w.heap[b]?=some (.cells #[x,y,z] T (0,0))):(w.cell? ⟨b,0,none⟩=some x/\w.cell? ⟨b,1,none⟩=some y/\w.cell? ⟨b,2,none⟩=some z)/\w.frozen? ⟨b,0,none⟩=false/\w.frozen? ⟨b,1,none⟩=false/\w.frozen? ⟨b,2,none⟩=false:=by
 simp[World.cell?,World.frozen?,h]
def Hi(w:World)(sb b:Nat)(ab:Option Addr)(nb cb:Nat)(ac:Option Addr)(nc cc:Nat)(o:Ot)(H:gV w sb b ab nb cb ac nc cc o.h)(T:j9 w sb b o):
 Calls prog 239 #[.pointer (some ⟨sb,b,none⟩)] w λr d=>(∃a n c l,r=.returned (.agg #[.slice a n c,.bool o.uE,.bool o.uG])/\bw d a n c l/\bl l/\(∀y,a=some y->w.heap.size<=y.block)/\l.length<=o.h.af.length+1/\∀m,Sm l m↔(o.h.fr<=m/\m<o.h.fr+o.h.bytes.length)/\¬Sm o.h.af m)/\w.grownBy d none:=by
 obtain⟨R,q⟩:∃R:Ending->World->Prop,R=λr d=>(∃a n c l,r=.returned (.agg #[.slice a n c,.bool o.uE,.bool o.uG])/\bw d a n c l/\bl l/\(∀y,a=some y->w.heap.size<=y.block)/\l.length<=o.h.af.length+1/\∀m,Sm l m↔(o.h.fr<=m/\m<o.h.fr+o.h.bytes.length)/\¬Sm o.h.af m)/\w.grownBy d none:=⟨_,rfl⟩
 rw[<-q];replace q:=J q;have M:=H.2.2.2.2.2;have N:(⟨o.h.fr,o.h.fr+o.h.bytes.length⟩:Rg).ok:=by
  obtain⟨k0,k1,-⟩:=M;constructor<;>simp only[aS]<;>omega
 have u:=J (λW(g:w.grownBy W none)=>Bb W sb b ab nb cb ac nc cc o.h (H.an g) ⟨o.h.fr,o.h.fr+o.h.bytes.length⟩ N);have O:=J (λW(g:w.grownBy W none)=>AV W sb b ab nb cb ac nc cc o.h (H.an g));have Y:=J (λW(g:w.grownBy W none)=>Bg W sb b o (T.an g));obtain⟨c0,-⟩:=H;obtain⟨fr,f⟩:=exq o.h.fr;obtain⟨en,s⟩:∃en:Int,en=o.h.fr+o.h.bytes.length:=⟨_,rfl⟩
 simp only[<-f]at c0;rw[<-s]at u O;simp only[<-f]at u;replace⟨f,s⟩:=bA f s;clear T M N;go_enter func239,ntmps239;go_wp2_with fail;have x:=aH w (.cells #[.slice none 0 0,.bool false,.bool false] 332) none;have i:(w.alloc (.cells #[.slice none 0 0,.bool false,.bool false] 332)).heap[w.heap.size]?=some (.cells #[.slice none 0 0,.bool false,.bool false] 332 (0,0)):=aO _ _;obtain⟨j,P⟩:=exq (w.alloc (.cells #[.slice none 0 0,.bool false,.bool false] 332));rw[<-P]at x i⊢;clear P;have a3:=eE w _ c0;have A:j.drew.cell? ⟨sb,b,none⟩=some (.int .u64 fr)/\w.grownBy j.drew none:=⟨gC_ x c0,aV x⟩
 replace i:=J i;have al:=c0;clear c0;go_region_held3 (λd=>d.cell? ⟨sb,b,none⟩=some (.int .u64 fr)/\w.grownBy d none)
  (with_reducible first|exact Q|exact S|exact B|exact C|exact A)
  (first
    |(go_at_call 196;apply(Z O _ A.2).mono;rintro e w5⟨rfl,D⟩;have C:=ys A D)
    |(go_at_call 278;apply(Z u _ C.2).mono;rintro e w6⟨⟨a6,k,c6,l6,rfl,m1,E,F,G,I⟩,U⟩;have B:=ys C U;replace m1:=J m1;replace E:=J E;replace F:=J F;replace G:=J G;replace I:=J I)
    |(go_at_call 279;apply(Z Y _ B.2).mono;rintro e t⟨rfl,K⟩;have S:=ys B K;have a0:t.heap[w.heap.size]?=some (.cells #[.slice none 0 0,.bool false,.bool false] 332 (0,0)):=(bB (Z i) (aq (aV (aB j none)) (aq D (aq U K))));obtain⟨⟨q0,q1,q2⟩,z0,z1,z2⟩:=rq a0;have Q:(((t.setCell ⟨w.heap.size,0,none⟩ (.slice a6 k c6)).setCell ⟨w.heap.size,1,none⟩ (.bool o.uE)).setCell ⟨w.heap.size,2,none⟩ (.bool o.uG)).cell? ⟨sb,b,none⟩=some (.int .u64 fr)/\w.grownBy (((t.setCell ⟨w.heap.size,0,none⟩ (.slice a6 k c6)).setCell ⟨w.heap.size,1,none⟩ (.bool o.uE)).setCell ⟨w.heap.size,2,none⟩ (.bool o.uG)) none:=(by have V:w.grownBy (((t.setCell ⟨w.heap.size,0,none⟩ (.slice a6 k c6)).setCell ⟨w.heap.size,1,none⟩ (.bool o.uE)).setCell ⟨w.heap.size,2,none⟩ (.bool o.uG)) none:=aK (aK (aK S.2 _ _ (.inl (aR _))) _ _ (.inl (aR _))) _ _ (.inl (aR _));exact⟨gC_ V al,V⟩)))
 go_wp2_with fail;refine cF (v:=.agg #[.slice a6 k c6,.bool o.uE,.bool o.uG]) ?_ rfl ?_
 ·simp[results,results239,go_sem, *]
 have bt:w.heap.size<j.heap.size:=(aZ.1 (Z i)).1;have bx:j.heap.size<=w5.heap.size:=D.size;have X:∀z,a6=some z->w.heap.size<z.block:=λz p=>by have:=Z F z p;omega
 have L:∀z,a6=some z->z.block≠w.heap.size:=λz p=>by have:=X z p;omega
 rw[Z q];refine⟨⟨a6,k,c6,l6,rfl,?_,Z E,λz p=>Nat.le_of_lt (X z p),Z G,λm=>?_⟩,Q.2⟩
 exact((((Z m1).an K).ah L _ _).ah L _ _).ah L _ _;have:=Z I m;simp only[Z f,Z s]at this;exact this
def Bi(w:World)(sb d b c:Nat)(v:Value)(e f:Int)(g h uE uG:Bool)(a:World):Prop:=
 a.cell? ⟨sb,d+2,none⟩=some v/\a.cell? ⟨b,0,none⟩=some (.int .u64 e)/\a.cell? ⟨b,1,none⟩=some (.int .u64 f)/\a.cell? ⟨b,2,none⟩=some (.bool g)/\a.cell? ⟨b,3,none⟩=some (.bool h)/\a.cell? ⟨c,0,none⟩=some (.bool uE)/\a.cell? ⟨c,1,none⟩=some (.bool uG)/\w.grownBy a none
def yt{a uE uG:Bool}(h:W.cell? ⟨n,k+2,none⟩=some x/\W.cell? ⟨i,0,none⟩=some (.int .u64 p)/\W.cell? ⟨i,1,none⟩=some (.int .u64 q)/\W.cell? ⟨i,2,none⟩=some (.bool B)/\W.cell? ⟨i,3,none⟩=some (.bool a)/\W.cell? ⟨j,0,none⟩=some (.bool uE)/\W.cell? ⟨j,1,none⟩=some (.bool uG)/\w.grownBy W none)(g:W.grownBy V none):
 V.cell? ⟨n,k+2,none⟩=some x/\V.cell? ⟨i,0,none⟩=some (.int .u64 p)/\V.cell? ⟨i,1,none⟩=some (.int .u64 q)/\V.cell? ⟨i,2,none⟩=some (.bool B)/\V.cell? ⟨i,3,none⟩=some (.bool a)/\V.cell? ⟨j,0,none⟩=some (.bool uE)/\V.cell? ⟨j,1,none⟩=some (.bool uG)/\w.grownBy V none:=
 ⟨gC_ g h.1,gC_ g h.2.1,gC_ g h.2.2.1,gC_ g h.2.2.2.1,gC_ g h.2.2.2.2.1,gC_ g h.2.2.2.2.2.1,gC_ g h.2.2.2.2.2.2.1,aq h.2.2.2.2.2.2.2 g⟩
def Hj(a b c d:Bool)(W:World):(binOp .eql 231 (.agg #[.bool a,.bool b]) (.agg #[.bool c,.bool d])).run prog W=.ok (.bool ((a==c)&&(b==d))) W:=by
 cases a<;>cases b<;>cases c<;>cases d<;>kernel_rfl
def dP.t{p:Prop}{e:Ending}(h:dP p e)(hp:p):e=.returned (.bool true):=by
 obtain⟨b,a,c⟩:=h;rw[a,c.2 hp]
def dP.f{p:Prop}{e:Ending}(h:dP p e)(hp:¬p):e=.returned (.bool false):=by
 obtain⟨b,a,c⟩:=h;cases b;exact a;exact absurd (c.1 rfl) hp
def ka{P:Program}{b:Region.Mode}{a:Array Oper}(i d:Nat){v:Value}{e:Array Bool}(hi:a[i]?=some u)
 (hd:u.dst=some d) (hs:Region.noSelect a=true) (f:Region.free b a e i=true) (g:(Region.ready b a e).contains i=true)
 (j:∀c F w,H (.panic c) (F.put (some d) v) w->H (.panic c) F w) (k:YieldsIf P a R u v F) (l:R w)
 (h:wpAnyH P b a H R n (e.setIfInBounds i true) (F.put (some d) v) w):wpAnyH P b a H R (n+1) e F w:=
 wpAnyH_take hi hs f g (by rw[hd];exact j) k l (by rw[hd];exact h)
def tV(o:Ot)(x:Rg)(a b:Bool):Prop:=(x.hi<=x.lo\/∃r∈o.h.af,r.lo<=x.lo/\x.hi<=r.hi)/\(o.uE&& !a)=o.uE/\(o.uG&& !b)=o.uG
def Hk(w:World)(sb m:Nat)(ab:Option Addr)(nb cb:Nat)(ac:Option Addr)(nc cc:Nat)(o:Ot)(H:gV w sb m ab nb cb ac nc cc o.h)(T:j9 w sb m o)(x:Rg)(i j:Bool):
 Calls prog 256 #[.pointer (some ⟨sb,m,none⟩),.agg #[.int .u64 x.lo,.int .u64 x.hi,.bool i,.bool j]] w λr a=>dP (tV o x i j) r/\w.grownBy a none:=by
 obtain⟨R,s⟩:∃R:Prop,R=tV o x i j:=⟨_,rfl⟩
 rw[<-s];replace s:=J s;have hU:=J (λW(g:w.grownBy W none)=>Bg W sb m o (T.an g));have O:=J (λW(g:w.grownBy W none)=>AU ac nc cc o.h.af x W (H.2.2.2.2.1.an g));have P:=J (λW=>yp o.uE o.uG i j W);have c2:=H.2.2.1;clear H T;obtain⟨c,d⟩:=x;simp only at *;generalize E:o.uE=uE at *;generalize F:o.uG=uG at *;replace⟨E,F⟩:=bA E F;have a9:=eE w _ c2;obtain⟨G,A⟩:=exq ((uE&& !i));obtain⟨z2,B⟩:=exq ((uG&& !j));rw[<-A,<-B]at P;have Q:Hid ((d<=c\/∃r∈o.h.af,r.lo<=c/\d<=r.hi)->(((G==uE)&&(z2==uG))=true↔R)):=J (λk=>by
  rw[Z s,tV,Z E,Z F,<-A,<-B];simp[k])
 have a2:Hid (¬(d<=c\/∃r∈o.h.af,r.lo<=c/\d<=r.hi)->¬R):=J (λk h=>by rw[Z s]at h;exact k h.1);replace⟨A,B⟩:=bA A B;obtain⟨U,C⟩:=exq (((G==uE)&&(z2==uG)));have bb:∀W,(binOp .eql 231 (.agg #[.bool G,.bool z2]) (.agg #[.bool uE,.bool uG])).run prog W=.ok (.bool U) W:=λW=>by rw[C];exact Hj _ _ _ _ W
 rw[<-C]at Q;replace C:=J C;go_enter func256,ntmps256;have V:=aH w (.cells #[.int .u64 c,.int .u64 d,.bool i,.bool j] 377) none;have I:(w.alloc (.cells #[.int .u64 c,.int .u64 d,.bool i,.bool j] 377)).heap[w.heap.size]?=some (.cells #[.int .u64 c,.int .u64 d,.bool i,.bool j] 377 (0,0)):=aO _ _;replace I:=J I;go_wp2_with fail;apply(Z hU _ V).mono;rintro e l⟨rfl,L⟩;have X:=aq V L;have u:=bB (Z I) L;have p0:l.cell? ⟨w.heap.size,0,none⟩=some (.int .u64 c):=by simp[World.cell?,u]
 have Y:l.cell? ⟨w.heap.size,1,none⟩=some (.int .u64 d):=by simp[World.cell?,u]
 have p2:l.cell? ⟨w.heap.size,2,none⟩=some (.bool i):=by simp[World.cell?,u]
 have p3:l.cell? ⟨w.heap.size,3,none⟩=some (.bool j):=by simp[World.cell?,u]
 have d2:=gC_ X c2;clear c2 L;go_wp2_with fail;obtain⟨y,D⟩:=exq (l.alloc (.cells #[.bool uE,.bool uG] 231));rw[<-D];have n:l.grownBy y none:=by rw[D];exact aH _ _ _
 have M:y.heap[l.heap.size]?=some (.cells #[.bool uE,.bool uG] 231 (0,0)):=by rw[D];exact aO _ _
 have p:Bi w sb m w.heap.size l.heap.size (.slice ac nc cc) c d i j uE uG y.drew:=⟨gC_ n d2,gC_ n p0,gC_ n Y,gC_ n p2,gC_ n p3,(show y.cell? _=_ by simp[World.cell?,M]),(show y.cell? _=_ by simp[World.cell?,M]),aV (aq X n)⟩
 clear D p0 Y p2 p3 d2 u M;have al:=p.2.2.2.2.2.2.2;unfold Bi at p;by_cases k:d<=c\/∃r∈o.h.af,r.lo<=c/\d<=r.hi
 ·replace k:=J k;go_region_held3 (λa=>a.cell? ⟨sb,m+2,none⟩=some (.slice ac nc cc)/\a.cell? ⟨w.heap.size,0,none⟩=some (.int .u64 c)/\a.cell? ⟨w.heap.size,1,none⟩=some (.int .u64 d)/\a.cell? ⟨w.heap.size,2,none⟩=some (.bool i)/\a.cell? ⟨w.heap.size,3,none⟩=some (.bool j)/\a.cell? ⟨l.heap.size,0,none⟩=some (.bool uE)/\a.cell? ⟨l.heap.size,1,none⟩=some (.bool uG)/\w.grownBy a none)
   (with_reducible first|exact ax|exact q|exact p)
   (first
     |(go_at_call 211;apply(Z O _ al).mono;rintro e w5⟨z,N⟩;obtain rfl:=z.t (Z k);clear z;have q:=yt p N;have aC:=q.2.2.2.2.2.2.2)
     |(go_at_call 282;apply(Z P _).mono;rintro e w6⟨rfl,g6⟩;have ax:=yt q g6))
  go_wp2;go_ret;exact⟨⟨U,rfl,Z Q (Z k)⟩,ax.2.2.2.2.2.2.2⟩
 replace k:=J k;refine wp_region_held_drew (S:=(λa=>a.cell? ⟨sb,m+2,none⟩=some (.slice ac nc cc)/\a.cell? ⟨w.heap.size,0,none⟩=some (.int .u64 c)/\a.cell? ⟨w.heap.size,1,none⟩=some (.int .u64 d)/\a.cell? ⟨w.heap.size,2,none⟩=some (.bool i)/\a.cell? ⟨w.heap.size,3,none⟩=some (.bool j)/\a.cell? ⟨l.heap.size,0,none⟩=some (.bool uE)/\a.cell? ⟨l.heap.size,1,none⟩=some (.bool uG)/\w.grownBy a none)) (by kernel_rfl) p (λa8=>?_);refine ka 0 8 (v:=?_) rfl rfl (by kernel_rfl) (by kernel_rfl) (by kernel_rfl) (λ_ _ _ h=>h) (Or.inl ⟨by rfl,?_⟩) (by assumption) ?_;rotate_left
 ·(intro w b;(try dsimp only at b);go_simp;try with_reducible rfl)
 simp only[Act.put,lA,lO,lP]
 refine ka 1 9 (v:=?_) rfl rfl (by kernel_rfl) (by kernel_rfl) (by kernel_rfl) (λ_ _ _ h=>h) (Or.inl ⟨by rfl,?_⟩) (by assumption) ?_;rotate_left
 ·(intro w b;(try dsimp only at b);go_simp;try with_reducible rfl)
 simp only[Act.put,lA,lO,lP]
 refine ka 2 10 (v:=?_) rfl rfl (by kernel_rfl) (by kernel_rfl) (by kernel_rfl) (λ_ _ _ h=>h) (Or.inl ⟨by rfl,?_⟩) (by assumption) ?_;rotate_left
 ·(intro w b;(try dsimp only at b);go_simp;try with_reducible rfl)
 simp only[Act.put,lA,lO,lP]
 refine ka 3 11 (v:=?_) rfl rfl (by kernel_rfl) (by kernel_rfl) (by kernel_rfl) (λ_ _ _ h=>h) (Or.inl ⟨by rfl,?_⟩) (by assumption) ?_;rotate_left
 ·(intro w b;(try dsimp only at b);go_simp;try with_reducible rfl)
 simp only[Act.put,lA,lO,lP]
 refine ka 4 12 (v:=?_) rfl rfl (by kernel_rfl) (by kernel_rfl) (by kernel_rfl) (λ_ _ _ h=>h) (Or.inl ⟨by rfl,?_⟩) (by assumption) ?_;rotate_left
 ·(intro w b;(try dsimp only at b);go_simp;try with_reducible rfl)
 simp only[Act.put,lA,lO,lP]
 refine ka 5 13 (v:=?_) rfl rfl (by kernel_rfl) (by kernel_rfl) (by kernel_rfl) (λ_ _ _ h=>h) (Or.inl ⟨by rfl,?_⟩) (by assumption) ?_;rotate_left
 ·(intro w b;(try dsimp only at b);go_simp;try with_reducible rfl)
 simp only[Act.put,lA,lO,lP]
 refine ka 6 14 (v:=?_) rfl rfl (by kernel_rfl) (by kernel_rfl) (by kernel_rfl) (λ_ _ _ h=>h) (Or.inl ⟨by rfl,?_⟩) (by assumption) ?_;rotate_left
 ·(intro w b;(try dsimp only at b);go_simp;try with_reducible rfl)
 simp only[Act.put,lA,lO,lP]
 refine wpAnyH_ready (rs:=[7]) (by kernel_rfl) (by simp) ?_;refine AllReadyH.cons (o:=_) rfl (λK hK=>?_) AllReadyH.nil;go_simp;apply(Z O _ al).mono;rintro e w5⟨z,N⟩;obtain rfl:=z.f (Z k);clear z;have q:=yt p N;have aC:=q.2.2.2.2.2.2.2;go_wp2_with fail;refine hK.out _ _ q (λa8=>?_);clear hK K;refine ka 8 16 (v:=?_) rfl rfl (by kernel_rfl) (by kernel_rfl) (by kernel_rfl) (λ_ _ _ h=>h) (Or.inl ⟨by rfl,?_⟩) (by assumption) ?_;rotate_left
 ·(intro w b;(try dsimp only at b);go_simp;try with_reducible rfl)
 simp only[Act.put,lA,lO,lP]
 refine ka 9 17 (v:=_) rfl rfl (by kernel_rfl) (by kernel_rfl) (by kernel_rfl) (λ_ _ _ h=>h) (Or.inr ⟨by rfl,rfl⟩) (by assumption) ?_;simp only[Act.put,lA,lO,lP]
 refine ka 10 18 (v:=_) rfl rfl (by kernel_rfl) (by kernel_rfl) (by kernel_rfl) (λ_ _ _ h=>h) (Or.inr ⟨by rfl,rfl⟩) (by assumption) ?_;simp only[Act.put,lA,lO,lP]
 refine ka 11 19 (v:=_) rfl rfl (by kernel_rfl) (by kernel_rfl) (by kernel_rfl) (λ_ _ _ h=>h) (Or.inr ⟨by rfl,rfl⟩) (by assumption) ?_;simp only[Act.put,lA,lO,lP]
 refine ka 12 20 (v:=_) rfl rfl (by kernel_rfl) (by kernel_rfl) (by kernel_rfl) (λ_ _ _ h=>h) (Or.inr ⟨by rfl,rfl⟩) (by assumption) ?_;simp only[Act.put,lA,lO,lP]
 refine ka 13 21 (v:=_) rfl rfl (by kernel_rfl) (by kernel_rfl) (by kernel_rfl) (λ_ _ _ h=>h) (Or.inr ⟨by rfl,rfl⟩) (by assumption) ?_;simp only[Act.put,lA,lO,lP]
 refine ka 14 22 (v:=_) rfl rfl (by kernel_rfl) (by kernel_rfl) (by kernel_rfl) (λ_ _ _ h=>h) (Or.inr ⟨by rfl,rfl⟩) (by assumption) ?_;simp only[Act.put,lA,lO,lP]
 refine ka 15 23 (v:=?_) rfl rfl (by kernel_rfl) (by kernel_rfl) (by kernel_rfl) (λ_ _ _ h=>h) (Or.inl ⟨by rfl,?_⟩) (by assumption) ?_;rotate_left
 ·(intro w b;(try dsimp only at b);go_simp;try with_reducible rfl)
 simp only[Act.put,lA,lO,lP]
 refine ka 16 4 (v:=?_) rfl rfl (by kernel_rfl) (by kernel_rfl) (by kernel_rfl) (λ_ _ _ h=>h) (Or.inl ⟨by rfl,?_⟩) (by assumption) ?_;rotate_left
 ·(intro w b;(try dsimp only at b);go_simp;try with_reducible rfl)
 simp only[Act.put,lA,lO,lP]
 refine wpAnyH_done (by kernel_rfl) ?_ _;go_wp2;go_ret;exact⟨lU (Z a2 (Z k)),aC⟩
def yu(h:Hd)(x:Rg):Prop:=∀a,bl a->a.length<=h.af.length+1->(∀m,Sm a m↔Sm h.af m\/(x.lo<=m/\m<x.hi))->0<=cV ⟨h.fr,h.bytes,a⟩/\h.fr+cV ⟨h.fr,h.bytes,a⟩<=4611686018427387903
def bw.gb(h:bw w a n k D)(g:w.grownBy W N)(d:∀y,a=some y->N≠some y.block:=by simp):bw W a n k D:=by
 obtain⟨e,f,i,j,c⟩:=h;refine⟨e,f,i,j,?_⟩
 obtain c|⟨b,o,rfl,c⟩:=c
 exact .inl c;exact .inr ⟨b,o,rfl,jh c g (d _ rfl)⟩
def ba(h:w.heap[b]?=some (.cells c T (0,0)))(i:Nat):w.cell? ⟨b,i,none⟩=c[i]? :=by simp[World.cell?,h]
def Hl(w:World)(sb a:Nat)(cs:Array Value)(t:TypeId)(ab:Option Addr)(nb cb:Nat)(ac:Option Addr)(nc cc:Nat)(o:Ot)(L:w.heap[sb]?=some (.cells cs t (0,0)))(H:gV w sb a ab nb cb ac nc cc o.h)(T:j9 w sb a o)(x:Rg)(z u:Bool)(hx:x.ok)(a1:∀y,ab=some y->y.block≠sb)(a2:∀y,ac=some y->y.block≠sb)(bx:yu o.h x)(b4:o.h.af.length<100000):
 Calls prog 252 #[.pointer (some ⟨sb,a,none⟩),.agg #[.int .u64 x.lo,.int .u64 x.hi,.bool z,.bool u]] w λr P=>r=.returned (.tuple #[])/\
  ∃(c:Option Addr)(d f:Nat)(i:List Rg)(v:Option Addr)(A k:Nat),(k:Int)=cV ⟨o.h.fr,o.h.bytes,i⟩/\bl i/\i.length<=o.h.af.length+1/\(∀m,Sm i m↔Sm o.h.af m\/(x.lo<=m/\m<x.hi))/\w.grownBy P (some sb)/\
   P.heap[sb]?=some (.cells (((((cs.setIfInBounds (a+2) (.slice c d f)).setIfInBounds a (.int .u64 (o.h.fr+k))).setIfInBounds (a+1) (.slice v (o.h.bytes.drop k).length A)).setIfInBounds (a+6) (.bool (o.tE||z))).setIfInBounds (a+7) (.bool (o.tG||u))) t (0,0))/\
   bn P w.heap.size (.slice v (o.h.bytes.drop k).length A) (o.h.bytes.drop k)/\bw P c d f i/\((c=ac/\d=nc/\f=cc)\/∀y,c=some y->w.heap.size<=y.block/\y.block<P.heap.size/\(Value.slice v (o.h.bytes.drop k).length A).ownBlock≠some y.block):=by
 obtain⟨l,C⟩:=exq ((o.tE||z));obtain⟨n,D⟩:=exq ((o.tG||u));rw[<-C,<-D];replace⟨C,D⟩:=bA C D;have b7:sb<w.heap.size:=(aZ.1 L).1;obtain⟨c0,c1,c2,aa,hr,⟨k0,k1,k2,k3,k4⟩⟩:=H;obtain⟨c3,c4,c5,c6,c7,c8,-,-⟩:=T;rw[ba L]at c0 c1 c2 c3 c4 c5 c6 c7 c8;have hn:nc=o.h.af.length:=hr.2.1;obtain⟨E,F⟩:=x;obtain⟨q,Q⟩:=exq (w.alloc (.cells #[.int .u64 E,.int .u64 F,.bool z,.bool u] 377));have g1:w.grownBy q none:=by rw[Q];exact aH _ _ _
 have M:q.heap[w.heap.size]?=some (.cells #[.int .u64 E,.int .u64 F,.bool z,.bool u] 377 (0,0)):=by rw[Q];exact aO _ _
 have b8:q.heap.size=w.heap.size+1:=by rw[Q];simp
 have p0:q.cell? ⟨w.heap.size,0,none⟩=some (.int .u64 E):=by simp[World.cell?,M]
 have p1:q.cell? ⟨w.heap.size,1,none⟩=some (.int .u64 F):=by simp[World.cell?,M]
 have R:=bB L g1;have hA:=J (yi q.drew sb (a+2) cs t ac nc cc o.h.af ⟨E,F⟩ R c2 (hr.an (aV g1)) a2 k2 hx (by omega));go_enter func252,ntmps252;go_wp2_with fail;rw[<-Q];clear Q;go_region_with (first|(go_at_call 215;apply(Z hA).mono;rintro e p⟨rfl,c,d,f,i,⟨gU,hU⟩,a3,G,al,a4,a8⟩));go_wp2_with fail;have ax:w.grownBy p (some sb):=aq (dd (aV g1) _) gU;have B:=hU cs t R;have ca:q.heap.size<=p.heap.size:=gU.size;have S:p.heap[w.heap.size]?=some (.cells #[.int .u64 E,.int .u64 F,.bool z,.bool u] 377 (0,0)):=(gU.block _ (by show w.heap.size<q.heap.size;omega) (λe=>by cases e;omega)).trans M;have aC:∀y,c=some y->y.block≠sb:=λy e=>by
  obtain G|G:=G
  exact a2 y (G.1▸e);have:q.heap.size<=y.block:=(G y e).1;omega
 have b5:a+2<cs.size:=(aZ.1 c2).1;obtain⟨I,s⟩:=exq (cs.setIfInBounds (a+2) (.slice c d f));rw[<-s]at B;have d0:I[a]?=some (.int .u64 o.h.fr):=by rw[s];simpa [kP]using c0
 have d1:I[a+1]?=some (.slice ab nb cb):=by rw[s];simpa [kP]using c1
 have d2:I[a+2]?=some (.slice c d f):=by rw[s];simp[kP,b5]
 have d6:I[a+6]?=some (.bool o.tE):=by rw[s];simpa [kP]using c6
 have d7:I[a+7]?=some (.bool o.tG):=by rw[s];simpa [kP]using c7
 have H2:gV p sb a ab nb cb c d f ⟨o.h.fr,o.h.bytes,i⟩:=⟨(ba B _).trans d0,(ba B _).trans d1,(ba B _).trans d2,aa.gb ax (λj e=>.inr (.inr (λy ey=>by cases e;exact a1 y ey))),a3,⟨k0,k1,al,k3,(show i.length<=100000 by omega)⟩⟩
 obtain⟨q0,q1⟩:=bx i al a4 a8;obtain⟨k,U⟩:=qp q0;have a9:=J (AW p.drew sb a ab nb cb c d f _ (H2.an (aV (aB _ _))) ⟨q0,by omega⟩);have hD:=J (λW(g:p.grownBy W none)=>Bf W sb a I t ab nb cb c d f _ (bB B g) (H2.an g) k (by show o.h.fr+k<=_;omega) a1);rw[U]at a9;replace⟨B,S,M,R,L,s,U⟩:=iR B S M R L s U;clear hU H2 q0 q1 hA;go_region_with (first
  |(go_at_call 220;apply(Z a9).mono;rintro e w3⟨rfl,g3⟩;have N:p.grownBy w3 none:=aq (aV (aB _ _)) g3)
  |(go_at_call 221;apply(Z hD _ N).mono;rintro e b⟨rfl,v,A,g4,K,a0,bz⟩))
 go_wp2_with fail;have V:p.grownBy b (some sb):=aq (dd N _) g4;have bb:=aq ax V;have bM:=a3.gb V (λy e e'=>aC y e (by cases e';rfl));have bj:b.heap[w.heap.size]?=some (.cells #[.int .u64 E,.int .u64 F,.bool z,.bool u] 377 (0,0)):=(V.block _ (aZ.1 (Z S)).1 (λe=>by cases e;omega)).trans (Z S);obtain⟨br,X⟩:=exq ((I.setIfInBounds a (.int .u64 (o.h.fr+k))).setIfInBounds (a+1) (.slice v (o.h.bytes.drop k).length A));rw[<-X]at K;have e6:br[a+6]?=some (.bool o.tE):=by rw[X];simpa [kP]using d6
 have e7:br[a+6+1]?=some (.bool o.tG):=by rw[X,show a+6+1=a+7 from rfl];simpa [kP]using d7
 have m6:b.cell? ⟨sb,a+6,none⟩=some (.bool o.tE):=(ba K _).trans e6;have m7:b.cell? ⟨sb,a+6+1,none⟩=some (.bool o.tG):=(ba K _).trans e7;have f6:b.frozen? ⟨sb,a+6,none⟩=false:=fZ_ K;have f7:b.frozen? ⟨sb,a+6+1,none⟩=false:=fZ_ K;have n2:b.cell? ⟨w.heap.size,2,none⟩=some (.bool z):=by simp[World.cell?,bj]
 have n3:b.cell? ⟨w.heap.size,2+1,none⟩=some (.bool u):=by simp[World.cell?,bj]
 have ch:b.cell? ⟨w.heap.size,3,none⟩=some (.bool u):=n3;have cj:w.heap.size<=b.heap.size:=bb.size;have b0:Hid (w.grownBy ((b.drew.setCell ⟨sb,a+6,none⟩ (.bool l)).setCell ⟨sb,a+6+1,none⟩ (.bool n)) (some sb)/\
  ((b.drew.setCell ⟨sb,a+6,none⟩ (.bool l)).setCell ⟨sb,a+6+1,none⟩ (.bool n)).heap[sb]?=some (.cells ((br.setIfInBounds (a+6) (.bool l)).setIfInBounds (a+6+1) (.bool n)) t (0,0))/\
  bn ((b.drew.setCell ⟨sb,a+6,none⟩ (.bool l)).setCell ⟨sb,a+6+1,none⟩ (.bool n)) w.heap.size (.slice v (o.h.bytes.drop k).length A) (o.h.bytes.drop k)/\
  bw ((b.drew.setCell ⟨sb,a+6,none⟩ (.bool l)).setCell ⟨sb,a+6+1,none⟩ (.bool n)) c d f i):=by
  have cp:∀y,v=some y->y.block≠sb:=λy e=>by
   have h3:=bz y e;have h4:p.heap.size<=w3.heap.size:=N.size;omega
  have bt:b.grownBy b.drew none:=aV (aB _ _);have b6:w.heap.size<=w3.heap.size:=bD ax.size N.size;have b3:(Value.slice v (o.h.bytes.drop k).length A).ownBlock≠some sb:=λe=>by have:=(a0.lt _ e).1;omega
  exact J ⟨aK (aK (aV bb) _ _ (.inr rfl)) _ _ (.inr rfl),heap_set (heap_set (bB K bt) _) _,(((a0.low b6).an bt).ah b3 _ _).ah b3 _ _,((bM.an bt).ah aC _ _).ah aC _ _⟩
 replace C:=Z C;replace D:=Z D;have HV:Hid (∃(a₁:Option Addr)(n₁ c₁:Nat)(Y:List Rg)(b₁:Option Addr)(d₁ O:Nat),(O:Int)=cV ⟨o.h.fr,o.h.bytes,Y⟩/\bl Y/\Y.length<=o.h.af.length+1/\(∀m,Sm Y m↔Sm o.h.af m\/(E<=m/\m<F))/\w.grownBy ((b.drew.setCell ⟨sb,a+6,none⟩ (.bool l)).setCell ⟨sb,a+6+1,none⟩ (.bool n)) (some sb)/\
  ((b.drew.setCell ⟨sb,a+6,none⟩ (.bool l)).setCell ⟨sb,a+6+1,none⟩ (.bool n)).heap[sb]?=some (.cells (((((cs.setIfInBounds (a+2) (.slice a₁ n₁ c₁)).setIfInBounds a (.int .u64 (o.h.fr+O))).setIfInBounds (a+1) (.slice b₁ (o.h.bytes.drop O).length d₁)).setIfInBounds (a+6) (.bool l)).setIfInBounds (a+7) (.bool n)) t (0,0))/\
  bn ((b.drew.setCell ⟨sb,a+6,none⟩ (.bool l)).setCell ⟨sb,a+6+1,none⟩ (.bool n)) w.heap.size (.slice b₁ (o.h.bytes.drop O).length d₁) (o.h.bytes.drop O)/\bw ((b.drew.setCell ⟨sb,a+6,none⟩ (.bool l)).setCell ⟨sb,a+6+1,none⟩ (.bool n)) a₁ n₁ c₁ Y/\((a₁=ac/\n₁=nc/\c₁=cc)\/∀y,a₁=some y->w.heap.size<=y.block/\y.block<((b.drew.setCell ⟨sb,a+6,none⟩ (.bool l)).setCell ⟨sb,a+6+1,none⟩ (.bool n)).heap.size/\(Value.slice b₁ (o.h.bytes.drop O).length d₁).ownBlock≠some y.block)):=by
  obtain⟨F1,F2,F3,F4⟩:=Z b0;rw[X,Z s]at F2;refine J ⟨c,d,f,i,v,A,k,(Z U).symm,al,a4,a8,F1,F2,F3,F4,G.imp (λh=>⟨h.1,h.2.1,h.2.2.1⟩) (λh y e=>?_)⟩;have h1:q.heap.size<=y.block:=(h y e).1;have h2:=(h y e).2;have h4:p.heap.size<=w3.heap.size:=N.size;have h5:p.heap.size<=b.heap.size:=V.size;refine⟨by omega,by simp;omega,λe2=>?_⟩
  have:=(a0.lt _ e2).1;omega
 clear b0 K a0 bM bj bz a3 G al a4 a8 X s U B S R M L bb V ax N g4 g3 g1 gU a9 hD e6 e7 d0 d1 d2 d6 d7 c0 c1 c2 c3 c4 c5 c6 c7 c8 aa hr p0 p1 bx a2 aC a1 k0 k1 k2 k3 k4 b4;generalize o.tE=tE at *;generalize o.tG=tG at *;have cv:w.heap.size≠sb:=by omega
 cases tE<;>cases tG<;>simp only[tB,Bool.true_or]at C D<;>subst C<;>subst D;all_goals
  go_big_region
  go_wp2_with fail
  exact fm (eF rfl _ _ _) rfl ⟨rfl,Z HV⟩
def Bj(h:bI w a n k L)(i j:Nat)(hi:i<=j)(l:j<=n:=by omega):bI w (if j=i then a else a.map (·.add i)) (j-i) (j-i) ((L.drop i).take (j-i)):=by
 obtain⟨e,m,p,q,c⟩:=h;refine⟨λx f=>e x (iN (jc f)),by rw[ct,dM];omega,by omega,by omega,?_⟩
 by_cases d:j=i;rw[aD d,d,rX,List.take_zero];obtain⟨c,g⟩|⟨b,o,rfl,c⟩:=c
 exact .inl ⟨c,rfl⟩;exact .inr ⟨b,o,rfl,BS.nil _ _ _⟩;rw[az d];obtain⟨c,g⟩|⟨b,o,rfl,c⟩:=c
 omega;exact .inr ⟨b,o+i,by simp[Addr.add],yr (Be c i) _⟩
def Bk(w:World)(sb ho:Nat)(ab:Option Addr)(nb cb:Nat)(ac:Option Addr)(nc cc:Nat)(h:Hd)(H:gV w sb ho ab nb cb ac nc cc h)(i j:Nat)(hi:i<=j)(s:j<=h.bytes.length)(lo a:Int)(l:lo=h.fr+i)(m:a=h.fr+j):
 Calls prog 285 #[.pointer (some ⟨sb,ho,none⟩),.agg #[.int .u64 lo,.int .u64 a]] w λe n=>∃c,e=.returned (.slice c (j-i) (j-i))/\bI w c (j-i) (j-i) ((h.bytes.drop i).take (j-i))/\((∀y,c=some y->∃z,ab=some z/\z.block=y.block)/\(i<j->c=ab.map (·.add i)))/\w.grownBy n none:=by
 obtain⟨c0,c1,c2,b,-,⟨t,u,-,k3,-⟩⟩:=H;obtain⟨fr,bytes,af⟩:=h;simp only at *;have v:nb=bytes.length:=b.2.1;have x:nb<=cb:=b.2.2.1;have e1:IntKind.u64.wrap (lo-fr)=(i:Int):=by rw[l,show fr+(i:Int)-fr=i by omega];rw[fD];omega
 have e2:IntKind.u64.wrap (a-fr)=(j:Int):=by rw[m,show fr+(j:Int)-fr=j by omega];rw[fD];omega
 have p:Hid (bI w ab 0 0 []):=J (by have:=Bj b i i (aR _);simpa using this);have q:Hid (j≠i->bI w (ab.map (·.add i)) (j-i) (j-i) ((bytes.drop i).take (j-i))):=J (λh=>by have:=Bj b i j hi;rwa[az h]at this);have r:Hid (∀y,ab.map (·.add i)=some y->∃z,ab=some z/\z.block=y.block):=J (λy e=>by
  cases ab with
  |none=>cases e
  |some z=>cases e;exact⟨z,rfl,by simp only[Addr.add];split<;>rfl⟩)
 clear l m b;have A:(j:Int)<=cb:=by omega
 have B:(i:Int)<=j:=by omega
 obtain⟨d,f⟩:=exq (w.alloc (.cells #[.int .u64 lo,.int .u64 a] 341));have g:w.grownBy d none:=by rw[f];exact aH _ _ _
 have k:d.heap[w.heap.size]?=some (.cells #[.int .u64 lo,.int .u64 a] 341 (0,0)):=by rw[f];exact aO _ _
 have p0:d.cell? ⟨w.heap.size,0,none⟩=some (.int .u64 lo):=by simp[World.cell?,k]
 have C:d.cell? ⟨w.heap.size,1,none⟩=some (.int .u64 a):=by simp[World.cell?,k]
 have d0:=gC_ g c0;have d1:=gC_ g c1;clear c0 c1 c2;replace k:=J k;go_enter func285,ntmps285;go_wp2_with fail;rw[<-f];clear f;go_quiet (fail);go_wp2_with fail;case inl=>
  go_ret;exact⟨ab,rfl,Z p,λy e=>⟨y,e,rfl⟩,dy g _⟩
 case inr=>
  go_ret;exact⟨_,rfl,Z q (by omega),⟨Z r,λ_=>rfl⟩,dy g _⟩
def ao.cell(h:ao w W S)(a:w.cell? A=some x)(b:¬S A.block):W.cell? A=some x:=
 (jX (w:=w) (h.block _ (eE w _ a) b)).trans a
def kg(h:w.cell? A=some x)(a:A.block≠n):∀W,w.grownBy W (some n)->W.cell? A=some x:=λ_ k=>k.cell h (λe=>a (aQ e))
def pL(h:w.heap[b]?=some (.cells #[x,y] T (0,0))):(w.cell? ⟨b,0,none⟩=some x/\w.cell? ⟨b,1,none⟩=some y)/\w.frozen? ⟨b,0,none⟩=false/\w.frozen? ⟨b,1,none⟩=false:=by
 simp[World.cell?,World.frozen?,h]
def yv{ob:Obj}(g:(w.alloc ob).drew.grownBy v none):v.heap[w.heap.size]?=some ob:=bB (W:=(w.alloc ob).drew) (aO w ob) g
structure jw(w:World)(sb a c:Nat)(cs:Array Value)(t:TypeId)(vb:Value)(b:List Int)(v:Value)(W:World):Prop where
 aP:W.heap[sb]?=some (.cells (cs.setIfInBounds (a+1) v) t (0,0))
 own:bn W c v b
 av:ao w W (λk=>k=sb\/vb.ownBlock=some k)
 new:v.ownBlock=vb.ownBlock\/∀k,v.ownBlock=some k->w.heap.size<=k
def ao.grow(h:ao w W S)(g:W.grownBy v none):ao w v S:=(h.trans (ao.of g)).mono (λk _ h=>h.elim id (λe=>by cases e))
def jw.gb(h:jw w n k i c T x L y W)(g:W.grownBy V none):jw w n k i c T x L y V:=
 ⟨bB h.aP g,h.own.an g,h.av.grow g,h.new⟩
def jw.trans(h:jw w n j l c T x L y W)(k:jw W n j l (c.setIfInBounds (j+1) y) T y K z V):jw w n j l c T x K z V:=by
 refine⟨?_,k.own,(h.av.trans k.av).mono (λi hi a=>?_),?_⟩
 rw[k.aP];simp;obtain a|a|a:=a
 exact a;exact .inl a;obtain e|e:=h.new
 exact .inr (e▸a);have:=e i a;omega;obtain e|e:=k.new
 rw[e];exact h.new;exact .inr (λi hi=>bD h.av.size (e i hi))
def jw.hd{ac:Option Addr}{cc:Nat}{h:Hd}(f:w.heap[k]?=some (.cells C T (0,0)))(H:gV w k i O l m ac o cc h)(b:∀y,ac=some y->y.block≠k/\(Value.slice O l m).ownBlock≠some y.block){c:Nat}(p:jw w k i j C T (.slice O l m) L (.slice a n c) W)(hl:h.fr+L.length<=4611686018427387903/\L.length<=1000000):gV W k i a n c ac o cc ⟨h.fr,L,h.af⟩:=by
 obtain⟨c0,c1,c2,-,d,g,-,q,-,k4⟩:=H;rw[ba f]at c0 c1 c2;have r:i+1<C.size:=(aZ.1 c1).1;refine⟨?_,?_,?_,p.own.gT,d.dr (λs y t=>?_),g,hl.1,q,hl.2,k4⟩
 rw[ba p.aP];simpa [kP]using c0;rw[ba p.aP];simp[kP,r];rw[ba p.aP];simpa [kP]using c2;subst t;exact p.av.block _ (d.lt s) (λe=>e.elim (b y rfl).1 (b y rfl).2)
def jw.apart(h:jw w n k i c T x L y W)(b:n<w.heap.size)(a:x.ownBlock≠some n):y.ownBlock≠some n:=by
 obtain e|e:=h.new
 rw[e];exact a;intro e2;have:=e _ e2;omega
def jw.app{b:World}(h:jw w n i j c T x L y W)(g:W.grownBy V none)(r:bn b j z K)(l:V.grownBy b y.ownBlock)(m:z.ownBlock=y.ownBlock\/z.ownBlock=some V.heap.size)(p:n<w.heap.size)(s:x.ownBlock≠some n):jw w n i j c T x K z (b.setCell ⟨n,i+1,none⟩ z):=by
 have d:=h.gb g;have q:=h.apart p s;have t:n<V.heap.size:=bX p d.av.size;have u:b.heap[n]?=some (.cells (c.setIfInBounds (i+1) y) T (0,0)):=(l.block n t (λe=>q e.symm)).trans d.aP;have v:z.ownBlock≠some n:=by
  obtain e|e:=m
  rw[e];exact q;rw[e];intro e2;have:=aQ e2;omega
 refine⟨by rw[heap_set u];simp,r.gb (aK (aB b (some n)) _ _ (.inr rfl)) (.inr v),?_,?_⟩
 refine((d.av.trans (ao.of l)).trans (ao.of (aK (aB b (some n)) ⟨n,i+1,none⟩ z (.inr rfl)))).mono (λk f a=>?_);obtain(a|a)|a:=a
 exact a;obtain e|e:=h.new
 exact .inr (e▸a);have:=e k a;omega;exact .inl (aQ a).symm;obtain e|e:=m
 rw[e];exact h.new;exact .inr (λk f=>by rw[e]at f;have:=aQ f;have:=d.av.size;omega)
def tW(h:c[i]?=some x):c.setIfInBounds i x=c:=by
 apply Array.ext_getElem?;intro j;rw[kP];split;rename_i e;subst e;rw[h,aD (aZ.1 h).1];rfl
def Hm(b:List Int)(i:Nat):b++List.replicate i (0:Int)++[0]=b++List.replicate (i+1) 0:=by rw[fC,<-List.replicate_succ']
def Hn(w:World)(sb d E:Nat)(cs:Array Value)(t:TypeId)(ab:Option Addr)(nb cb:Nat)(ac:Option Addr)(nc cc:Nat)(h:Hd)(du:w.heap[sb]?=some (.cells cs t (0,0)))(H:gV w sb d ab nb cb ac nc cc h)(ho:bn w E (.slice ab nb cb) h.bytes)(gW:E<=w.heap.size)(dx:(Value.slice ab nb cb).ownBlock≠some sb)(b8:∀y,ac=some y->y.block≠sb/\(Value.slice ab nb cb).ownBlock≠some y.block)
 (f:Fr) (rv:Value) (hf:0<=f.offset) (hs:aW f<=4611686018427387903) (dE:∀m,f.offset<=m->m<aW f->¬Sm h.af m->h.fr<=m/\m<h.fr+900000):
 Calls prog 258 #[.pointer (some ⟨sb,d,none⟩),.agg (bO f rv)] w λr p=>r=.returned (.tuple #[])/\∃a n c N n2 c2,p.heap[sb]?=some (.cells ((cs.setIfInBounds (d+1) (.slice a n c)).setIfInBounds (d+2) (.slice N n2 c2)) t (0,0))/\bn p E (.slice a n c) (gY h.fr f.offset (aG f.data) (ju h.af ⟨f.offset,aW f⟩) h.bytes)/\bw p N n2 c2 (dB h.af ⟨f.offset,aW f⟩)/\ao w p (λk=>k=sb\/(Value.slice ab nb cb).ownBlock=some k)/\((Value.slice a n c).ownBlock=(Value.slice ab nb cb).ownBlock\/∀k,(Value.slice a n c).ownBlock=some k->w.heap.size<=k)/\((N=ac/\n2=nc/\c2=cc)\/∀y,N=some y->w.heap.size<=y.block/\y.block<p.heap.size/\(Value.slice a n c).ownBlock≠some y.block):=by
 have hE:=J (λW=>yj W f rv hf (by omega));have g0:sb<w.heap.size:=(aZ.1 du).1;have ca:(⟨f.offset,aW f⟩:Rg).ok:=by
  have:0<=aW f:=by unfold aW;omega
  have:f.offset<=aW f:=by unfold aW;omega
  constructor<;>simp only[aS]<;>omega
 obtain⟨en,a4⟩:=exq (aW f);rw[<-a4]at hE dE hs ca⊢;have hM:=J (λW(g:w.grownBy W none)=>Bb W sb d ab nb cb ac nc cc h (H.an g) ⟨f.offset,en⟩ ca);have dG:Hid (en=f.offset+(aG f.data).length):=J (by rw[fH];exact a4);replace a4:=J a4;obtain⟨kind,stream,offset,code,fin,data,ranges⟩:=f;unfold bO at *;simp only at *;obtain⟨G,a1⟩:=exq (w.alloc (.cells #[.int .i64 kind,.int .i64 stream,.int .u64 offset,.int .u64 code,.bool fin,.string data,rv] 158));have g1:w.grownBy G none:=by rw[a1];exact aH _ _ _
 have a8:G.heap[w.heap.size]?=some (.cells #[.int .i64 kind,.int .i64 stream,.int .u64 offset,.int .u64 code,.bool fin,.string data,rv] 158 (0,0)):=by rw[a1];exact aO _ _
 obtain⟨q0,q1,q2,q3,q4,q5,q6⟩:=cM a8;have bb:G.heap.size=w.heap.size+1:=by rw[a1];simp
 replace q0:=kc q0;replace q1:=kc q1;replace q2:=kc q2;replace q3:=kc q3;replace q4:=kc q4;replace q5:=kc q5;replace q6:=kc q6;have gr:G.grownBy G.drew none:=aV (aB _ _);replace⟨a8,bb⟩:=bA a8 bb;go_enter func258,ntmps258;go_upto_region 1 with fail;rw[<-a1];clear a1;go_cut [4] (λv wx=>∃B:Nat,v=.pointer (some ⟨B,0,none⟩)/\G.heap.size<=B/\wx.heap[B]?=some (.cells #[.int .u64 offset,.int .u64 en] 341 (0,0))/\G.grownBy wx none);case first=>
  go_region_held3 (λp=>G.grownBy p none)
   (with_reducible first|exact X|exact gr|exact aV (aY (aB _ _) _)|exact aY gr _|exact aY X _|exact aK (aK X _ _ (.inl (aR _))) _ _ (.inl (aR _)))
   (first
     |(go_at_call 247;apply(Z hE G.drew).mono;rintro e w5⟨rfl,g5⟩;have X:G.grownBy w5 none:=aq gr g5;have g2:=g5.size)
     |(go_at_call 247;apply(Z hE (G.alloc (.cells #[.int .u64 0,.int .u64 0] 341)).drew).mono;rintro e w5⟨rfl,g5⟩;have X:G.grownBy w5 none:=aq (aV (aY (aB _ _) _)) g5;have bj:=yv g5;obtain⟨⟨k0,k1⟩,z0,z1⟩:=pL bj;replace bj:=J bj))
  ·go_wp2_with fail;go_meet;exact⟨_,rfl,X.size,aO _ _,aY X _⟩
  go_wp2_with fail;go_meet;exact⟨_,rfl,aR _,heap_set (heap_set (Z bj) _) _,aK (aK X _ _ (.inl (aR _))) _ _ (.inl (aR _))⟩
 case rest=>
  obtain⟨B,rfl,hB,br,gB⟩:=hcut;have ch:=aq g1 gB;have cj:wc.grownBy wc.drew none:=aV (aB _ _);obtain⟨⟨k0,k1⟩,z0,z1⟩:=pL br;have ea:Hid (wc.heap[w.heap.size]?=some (.cells #[.int .i64 kind,.int .i64 stream,.int .u64 offset,.int .u64 code,.bool fin,.string data,rv] 158 (0,0))):=J (bB (Z a8) gB);replace k0:=kc k0;replace k1:=kc k1;clear q0 q1 q2 q3 q4 q5 q6 gr hE;replace⟨br,hB⟩:=bA br hB;go_upto_region 2 with fail;go_region_held3 (λp=>wc.grownBy p none)
   (with_reducible first|exact a2|exact cj)
   (first
     |(go_at_call 278;apply(Z hM wc.drew (aq ch cj)).mono;rintro e T⟨⟨a6,O,c6,M,rfl,m1,m2,m3,m4,m5⟩,g6⟩;have a2:wc.grownBy T none:=aq cj g6;replace m1:=J m1;replace m2:=J m2;replace m3:=J m3;replace m4:=J m4;replace m5:=J m5))
  have e8:Hid (M=ju h.af ⟨offset,en⟩):=J (A9 (Z m2) (Z m5));have F:=aq ch a2;have ax:=bB du F;have H6:=H.an F;have P0:jw T sb d E cs t (.slice ab nb cb) (gY h.fr offset (aG data) (M.take 0) h.bytes) (.slice ab nb cb) T:=by
   obtain⟨-,c1,-⟩:=H6;rw[ba ax]at c1;exact⟨by rw[tW c1];exact ax,ho.an F,ao.rfl' _ _,.inl rfl⟩
  have ee:Hid (O=M.length):=J (Z m1).2.1;have g3:=(Z m1).2.2.1;have e9:=(Z m1).2.2.2.1;unfold maxLen at e9;have Y:bw T a6 O c6 M:=Z m1;replace⟨P0,H6,ax,Y⟩:=eV P0 H6 ax Y;go_wp2;go_loopw [18] (λcv wr=>∃(j:Nat)(v:Value),j<=O/\cv=.int .i64 j/\jw T sb d E cs t (.slice ab nb cb) (gY h.fr offset (aG data) (M.take j) h.bytes) v wr/\h.fr+(gY h.fr offset (aG data) (M.take j) h.bytes).length<=4611686018427387903/\(gY h.fr offset (aG data) (M.take j) h.bytes).length<=1000000) (λcv _=>O-(intOf cv).toNat);case atStart=>exact⟨0,_,by omega,rfl,Z P0,H.2.2.2.2.2.2.1,H.2.2.2.2.2.2.2.2.1⟩
  case round=>
   rename World=>u
   obtain⟨j,v,hj,rfl,q,eg,ei⟩:=hrel;obtain⟨b,aC⟩:=exq (gY h.fr offset (aG data) (M.take j) h.bytes);rw[<-aC]at q eg ei;replace aC:=J aC;by_cases g4:j<O
   ·have d1:decide ((j:Int)<O)=true:=dT_;have i1:(j:Int)<O:=by omega
    have bt:j<M.length:=by have:=Z ee;omega
    obtain⟨-,-,-,-,h0|⟨b6,o6,rfl,-⟩⟩:=id (Z Y);omega;have ej:¬(b6=sb\/(Value.slice ab nb cb).ownBlock=some b6):=by
     have I:=Z m3 ⟨b6,o6,none⟩ rfl;have h2:w.heap.size<=wc.heap.size:=ch.size;have h3:wc.heap.size=wc.drew.heap.size:=rfl;simp only at I;rintro(z|z);omega;have:=(ho.lt _ z).2;omega
    obtain⟨y0,y1⟩:=(Z Y).cell j bt;replace y0:=q.av.cell y0 ej;replace y1:=q.av.cell y1 ej;have ek:=oQ (Z Y).1 j;have cp:=(Z m2).pos bt;have cw:∀m,(au M j).lo<=m->m<(au M j).hi->(offset<=m/\m<en)/\h.fr<=m/\m<h.fr+900000:=λm Y fa=>by
     have I:=(Z m5 m).1 ⟨_,pI bt,Y,fa⟩;exact⟨I.1,dE m I.1.1 I.1.2 I.2⟩
    have x1:=cw (au M j).lo (cS _) cp;have x2:=cw ((au M j).hi-1) (by omega) (by omega);have a3:Hid (gY h.fr offset (aG data) (M.take (j+1)) h.bytes=lY h.fr offset (aG data) b (au M j)):=J (by rw[GW _ _ _ _ _ _ bt,Z aC]);obtain⟨x,hx⟩:=exq (au M j);rw[<-hx]at y0 y1 ek cp x1 x2 a3;clear hx cw aC;obtain⟨s,l⟩:=x;simp only at y0 y1 cp x1 x2 ek;have gX:=aH u (.cells #[.int .u64 s,.int .u64 l] 341) none;have P:=q.gb gX;have hX:(u.alloc (.cells #[.int .u64 s,.int .u64 l] 341)).heap[u.heap.size]?=some (.cells #[.int .u64 s,.int .u64 l] 341 (0,0)):=aO _ _;obtain⟨WX,bx⟩:=exq (u.alloc (.cells #[.int .u64 s,.int .u64 l] 341));rw[<-bx]at gX P hX;obtain⟨ob,A,oc,rfl⟩:∃a n c,v=.slice a n c:=by
     obtain⟨a,c,e,-⟩:=P.own.bs;exact⟨_,_,_,e⟩
    have cx:(Value.slice ob A oc).ownBlock≠some sb:=by
     obtain e|e:=P.new
     rw[e];exact dx;intro e2;have:=e _ e2;have:w.heap.size<=T.heap.size:=F.size;omega
    have eo:(Value.slice ob A oc).ownBlock≠some u.heap.size:=λe=>by have:=(q.own.lt _ e).2;omega
    have P1:jw WX sb d E (cs.setIfInBounds (d+1) (.slice ob A oc)) t (.slice ob A oc) (b++List.replicate 0 0) (.slice ob A oc) WX:=⟨by rw[P.aP];simp,by simpa using P.own,ao.rfl' _ _,.inl rfl⟩
    replace⟨P1,P,q,hX⟩:=eV P1 P q hX;have al:Hid (u.heap.size<WX.heap.size):=J (by rw[bx];simp);have fb:Hid (∀y,ac=some y->y.block≠sb/\(Value.slice ab nb cb).ownBlock≠some y.block):=J b8;have ff:Hid (∀(W:World)(i:Nat)(a:Option Addr)(n c:Nat),jw WX sb d E (cs.setIfInBounds (d+1) (.slice ob A oc)) t (.slice ob A oc) (b++List.replicate i 0) (.slice a n c) W->i<=(l-h.fr).toNat-b.length->gV W sb d a n c ac nc cc ⟨h.fr,b++List.replicate i 0,h.af⟩):=J (λW i a n c hp hi=>((Z P).trans hp).hd (Z ax) (Z H6) (Z fb) (by rw[bH,vh];omega));go_wp2_with fail;rw[<-bx];clear bx;go_loopg [] ((l-h.fr).toNat-b.length) (λgh wz=>∃(i:Nat)(v:Value),gh=(l-h.fr).toNat-b.length-i/\i<=(l-h.fr).toNat-b.length/\jw WX sb d E (cs.setIfInBounds (d+1) (.slice ob A oc)) t (.slice ob A oc) (b++List.replicate i 0) v wz);case atStart=>exact⟨0,_,by omega,by omega,Z P1⟩
    case round=>
     obtain⟨i,v,ha,hi,C⟩:=hrel;obtain⟨za,K,U,rfl⟩:∃a n c,v=.slice a n c:=by
      obtain⟨a,c,e,-⟩:=C.own.bs;exact⟨_,_,_,e⟩
     have a0:=Z ff wr i za K U C hi;have cy:=J (λk=>Bh (wr.drewN k) sb d za K U ac nc cc ⟨h.fr,b++List.replicate i 0,h.af⟩ (a0.an (dy (aB _ _) k)));have ew:(h.fr:Int)+((b++List.replicate i (0:Int)).length:Int)=h.fr+b.length+i:=by rw[bH,vh];omega
     simp only[ew]at cy;clear ew;have cA:wr.heap[u.heap.size]?=some (.cells #[.int .u64 s,.int .u64 l] 341 (0,0)):=(C.av.block _ (Z al) (by
      have I:w.heap.size<=u.heap.size:=bD F.size (Z q).av.size;rintro(z|z);omega
      ·exact eo z)).trans (Z hX)
     obtain⟨⟨u0,u1⟩,-,-⟩:=pL cA;obtain⟨c0,c1,c2,-⟩:=id a0;have hg:sb<wr.heap.size:=eE wr _ c0;have fz:wr.frozen? ⟨sb,d+1,none⟩=false:=by simp[World.frozen?,C.aP]
     replace⟨C,a0,cA⟩:=cg C a0 cA;by_cases hc:b.length+i<(l-h.fr).toNat
     ·have d5:decide (h.fr+(b.length:Int)+(i:Int)<l)=true:=dT_;go_wp2_with fail;go_quiet (first|(go_at_call 196;exact Calls.quiet_of (Z cy _)));have gq:wr.grownBy ((wr.drewN nq).alloc (.cells #[.int .u8 0] 5)) none:=aY (dy (aB _ _) nq) _;have oz:=J ((Z C).own.an gq);have bz:=J (vB (wr.drewN nq) 0 (by simp[W8]));have hh:E<=wr.heap.size:=by have:=Z al;have:=(Z C).av.size;have:=(Z q).av.size;have:=F.size;omega
      have fo:Hid ((Value.slice za K U).ownBlock≠some sb):=J ((Z C).apart (by have:=Z al;have:=(Z q).av.size;have:=F.size;omega) cx);have fq:Hid (((wr.drewN nq).alloc (.cells #[.int .u8 0] 5)).heap[sb]?=some (.cells ((cs.setIfInBounds (d+1) (.slice ob A oc)).setIfInBounds (d+1) (.slice za K U)) t (0,0))):=J (bB (Z C).aP gq);go_wp2_with (at_builtin;go_loud (refine rZ (by rfl) _ _ (by rfl) E _ (b++List.replicate i 0) (by rfl) (Z oz) _ _ _ [0] (by rfl) (Z bz) (by simp;omega) (by simp;omega) ?_;intro a7 c7 w7 o7 g7 h7;replace o7:=J o7;replace h7:=J h7;have bM:=(g7.block sb (by simp;omega) (λe=>Z fo e.symm)).trans (Z fq);have hn:w7.cell? ⟨sb,d+1,none⟩=some (.slice za K U):=((jX (w:=wr) (a:=⟨sb,d+1,none⟩) (bM.trans (Z C).aP.symm)).trans c1);have f7:w7.frozen? ⟨sb,d+1,none⟩=false:=(by simp[World.frozen?,bM]);replace bM:=J bM;replace g7:=J g7));go_roundg ((l-h.fr).toNat-b.length-(i+1));case measure=>omega
      case rel=>
       have e7:b.length+i+1=(b++List.replicate i (0:Int)).length+[(0:Int)].length:=by simp
       refine⟨i+1,.slice a7 (b.length+i+1) c7,rfl,by omega,?_⟩
       rw[e7,<-Hm];exact(Z C).app gq (Z o7) (Z g7) (Z h7) (by have:=Z al;have:=(Z q).av.size;have:=F.size;omega) cx
     have d5:decide (h.fr+(b.length:Int)+(i:Int)<l)=false:=dF_;have ey:Hid (b++List.replicate i 0=nk h.fr b ⟨s,l⟩):=J (by
      unfold nk;congr 2;simp only
      omega)
     have ez:¬(w.heap.size=sb\/(Value.slice ab nb cb).ownBlock=some w.heap.size):=by
      rintro(z|z);omega;have:=(ho.lt _ z).2;omega
     have eK:¬(w.heap.size=sb\/(Value.slice ob A oc).ownBlock=some w.heap.size):=by
      rintro(z|z);omega;obtain e|e:=(Z q).new
      exact ez (.inr (e▸z));have h5:=e _ z;have h6:w.heap.size<wc.heap.size:=(aZ.1 (Z ea)).1;have h7:=a2.size;omega
     have cB:wr.heap[w.heap.size]?=some (.cells #[.int .i64 kind,.int .i64 stream,.int .u64 offset,.int .u64 code,.bool fin,.string data,rv] 158 (0,0)):=by
      have h6:=bB (Z ea) a2;have l6:w.heap.size<T.heap.size:=(aZ.1 h6).1;have h7:=((Z q).av.block _ l6 ez).trans h6;have h8:=bB h7 gX;exact((Z C).av.block _ (aZ.1 h8).1 eK).trans h8
     obtain⟨-,-,q2,-,-,q5,-⟩:=cM cB;replace cB:=J cB;go_wp2_with fail;go_quiet (first|(go_at_call 196;exact Calls.quiet_of (Z cy _)));obtain⟨W8,cC⟩:=exq (wr.drewN nq);have g8:wr.grownBy W8 none:=by rw[cC];exact dy (aB _ _) nq
     have Q:=(Z C).gb g8;rw[Z ey]at Q;have H8:=(Z a0).an g8;rw[Z ey]at H8;have b0:(nk h.fr b ⟨s,l⟩).length=max b.length (l-h.fr).toNat:=vT _ _ _;have eL:=J (λW(g:W8.grownBy W none)=>Bk W sb d za K U ac nc cc ⟨h.fr,nk h.fr b ⟨s,l⟩,h.af⟩ (H8.an g) (s-h.fr).toNat (l-h.fr).toNat (by omega) (by rw[b0];omega) s l (by simp only;omega) (by simp only;omega));obtain⟨k9,b3⟩:∃k:Nat,(k:Int)=s-offset:=⟨(s-offset).toNat,by omega⟩
     have ht:IntKind.u64.wrap (s-offset)=(k9:Int):=by rw[<-b3,fD];omega
     have hv:(k9:Int)<=data.size:=by have:=Z dG;rw[fH]at this;omega
     have hz:k9<=data.size:=by omega
     replace b3:=J b3;obtain⟨L,rfl⟩:∃g,za=some ⟨g,0,none⟩:=by
      obtain⟨-,e⟩|⟨g,-,e,-⟩:=AB Q.own
      have:=Q.own.gT.2.1;omega;exact⟨g,e⟩
     have fs:Hid (K=(nk h.fr b ⟨s,l⟩).length):=J Q.own.gT.2.1;obtain⟨V,b4⟩:=exq ((s-h.fr).toNat);obtain⟨q9,b5⟩:=exq ((l-h.fr).toNat);have fy:V<q9:=by omega
     rw[<-b4,<-b5]at eL;have fA:Hid (V+((aG (data.extract k9 data.size)).take (q9-V)).length<=K):=J (by rw[Z fs,b0,ct];omega);replace⟨b4,b5⟩:=bA b4 b5;have n0:L≠u.heap.size:=by
      obtain e|e:=(Z C).new
      exact λe2=>eo (by rw[<-e,<-e2];rfl)
      have I:=e L rfl;have h2:=Z al;omega
     have n1:L≠w.heap.size:=by
      obtain e|e:=(Z C).new
      exact λe2=>eK (.inr (by rw[<-e,<-e2];rfl))
      have I:=e L rfl;have h2:=Z al;have h3:=(Z q).av.size;have z:=F.size;omega
     have r0:=kg (gC_ g8 u0) n0.symm;have r1:=kg (gC_ g8 u1) n0.symm;have r2:=kg (gC_ g8 q2) n1.symm;have r5:=kg (gC_ g8 q5) n1.symm;have eS:W8.grownBy W8.drew none:=aV (aB _ _);have ga:W8.grownBy W8.drew (some L):=aV (aB _ _);clear u0 u1 q2 q5 c0 c1 c2 fz;replace⟨Q,b0⟩:=bA Q b0;go_upto_region 7 with fail;rw[<-cC];clear cC;go_region_held3 (λp=>W8.grownBy p (some L))
      (with_reducible first|exact gd|exact b7|exact ga)
      (first
        |(go_at_call 285;apply(Z eL W8.drew eS).mono;rintro e w9⟨a9,rfl,gf,e3,g9⟩;have c9:W8.grownBy w9 none:=aq eS g9;have b7:W8.grownBy w9 (some L):=dd c9 _;clear gf;obtain rfl:a9=some ⟨L,V,none⟩:=(e3.2 fy).trans (by simp only[rV,Addr.add_lit,dY]);clear e3)
        |(refine GO _ _ (by rfl) (by rfl) E L V K U _ _ (by rfl) _ (by rfl) (nk h.fr b ⟨s,l⟩) ((Z Q).own.an c9) (Z fA) ?_;intro gg db de;replace db:=J db;have gd:=aq b7 de))
     have dg:jw WX sb d E (cs.setIfInBounds (d+1) (.slice ob A oc)) t (.slice ob A oc) (lY h.fr offset (aG data) b ⟨s,l⟩) (.slice (some ⟨L,0,none⟩) K U) gg:=by
      have e1:lY h.fr offset (aG data) b ⟨s,l⟩=splice (nk h.fr b ⟨s,l⟩) V ((aG (data.extract k9 data.size)).take (q9-V)):=by
       have I:=Z b3;have h2:=Z b4;have h3:=Z b5;unfold lY;rw[GL];simp only
       rw[show(s-offset).toNat=k9 by omega,show(l-s).toNat=q9-V by omega,<-h2]
      rw[e1];have P9:=(Z Q).gb c9;refine⟨?_,Z db,?_,P9.new⟩
      rw[de.block sb (eE _ _ (by rw[ba P9.aP];exact(by have:=(Z a0).2.1;rw[ba (Z C).aP]at this;exact this))) (λe=>(Z Q).apart (by have:=Z al;have:=(Z q).av.size;have:=F.size;omega) cx e.symm)];exact P9.aP;refine(P9.av.trans (ao.of de)).mono (λk hk D=>?_);obtain D|D:=D
      exact D;obtain e|e:=P9.new
      exact .inr (by rw[<-e];exact D);have:=e k D;omega
     have dk:=(Z P).trans dg;replace⟨dk,dg⟩:=bA dk dg;go_wp2;go_roundw;case measure=>simp[intOf];omega
     case rel=>
      refine⟨j+1,_,by omega,by simp,by rw[Z a3];exact Z dk,?_⟩
      have hC:=Z dG;rw[Z a3,Ba (x:=⟨s,l⟩) (by simp only;omega) (by simp only;omega) (by simp only;omega) (by simp only;omega)];simp only
      omega
   have d1:decide ((j:Int)<O)=false:=dF_;obtain rfl:j=O:=by omega
   obtain⟨ob,A,oc,rfl⟩:∃a n c,v=.slice a n c:=by
    obtain⟨a,c,e,-⟩:=q.own.bs;exact⟨_,_,_,e⟩
   have gi:Hid (b=gY h.fr offset (aG data) (ju h.af ⟨offset,en⟩) h.bytes):=J (by rw[Z aC,<-Z e8,Z ee,oK]);have Hq:=q.hd (Z ax) (Z H6) b8 ⟨eg,ei⟩;have dn:B≠sb:=by have:=Z hB;have:=Z bb;omega
   have e4:u.heap[B]?=some (.cells #[.int .u64 offset,.int .u64 en] 341 (0,0)):=by
    have h6:=bB (Z br) a2;refine(q.av.block B (aZ.1 h6).1 ?_).trans h6;rintro(z|z);exact dn z;have:=(ho.lt _ z).2;have:=Z hB;have:=Z bb;omega
   obtain⟨⟨s0,s1⟩,-,-⟩:=pL e4;replace s0:=kg (n:=sb) s0 dn;replace s1:=kg (n:=sb) s1 dn;have S:=q.gb (aV (aB u none));have hA:=J (yi u.drew sb (d+2) (cs.setIfInBounds (d+1) (.slice ob A oc)) t ac nc cc h.af ⟨offset,en⟩ S.aP (by have:=Hq.2.2.1;rwa[ba q.aP]at this) (Hq.2.2.2.2.1.an (aV (aB u none))) (λy e=>(b8 y e).1) Hq.2.2.2.2.2.2.2.1 ca (by have I:=Hq.2.2.2.2.1.2.1;have h2:=Hq.2.2.2.2.2.2.2.2.2;simp only at I h2;omega));have e5:u.grownBy u.drew (some sb):=aV (aB _ _);obtain⟨R,hR⟩:=exq (λp:World=>∃a n c N n2 c2,p.heap[sb]?=some (.cells ((cs.setIfInBounds (d+1) (.slice a n c)).setIfInBounds (d+2) (.slice N n2 c2)) t (0,0))/\bn p E (.slice a n c) b/\bw p N n2 c2 (dB h.af ⟨offset,en⟩)/\ao w p (λk=>k=sb\/(Value.slice ab nb cb).ownBlock=some k)/\((Value.slice a n c).ownBlock=(Value.slice ab nb cb).ownBlock\/∀k,(Value.slice a n c).ownBlock=some k->w.heap.size<=k)/\((N=ac/\n2=nc/\c2=cc)\/∀y,N=some y->w.heap.size<=y.block/\y.block<p.heap.size/\(Value.slice a n c).ownBlock≠some y.block));have a3:Hid (∀p,tR u.drew p sb (d+2) ac nc cc h.af (λl'=>l'.length<=h.af.length+1/\∀m,Sm l' m↔Sm h.af m\/(offset<=m/\m<en))->R p):=J (by
    rintro p⟨a',n',c',l',⟨gu,hu⟩,hr,gj,gn,-,hq⟩;have e1:l'=dB h.af ⟨offset,en⟩:=vS Hq.2.2.2.2.2.2.2.1 gn hq;have gw:(Value.slice ob A oc).ownBlock≠some sb:=S.apart (by have:=F.size;omega) dx;have gA:ao w T (λ_=>False):=(ao.of F).mono (λk _ e=>by cases e);have gE:=F.size;rw[hR];refine⟨ob,A,oc,a',n',c',hu _ _ S.aP,S.own.gb gu (.inr gw),e1▸hr,((gA.trans S.av).trans (ao.of gu)).mono (λk _ D=>?_),?_,?_⟩
    obtain(D|D)|D:=D
    exact D.elim;exact D;exact .inl (aQ D).symm;exact S.new.imp id (λe k hk=>bD gE (e k hk))
    ·refine gj.imp (λh=>⟨h.1,h.2.1,h.2.2.1⟩) (λe y hy=>⟨?_,(e y hy).2,λe2=>?_⟩);have:=(e y hy).1;have:=S.av.size;omega
     ·have:=(e y hy).1;have:=(S.own.lt _ e2).2;omega)
   replace hR:=J hR;clear Hq e4 S;replace q:=J q;go_wp2_with fail;go_region_held3 (λp=>u.grownBy p (some sb))
    (with_reducible first|exact b7|exact e5)
    (first|(go_at_call 215;apply(Z hA).mono;rintro e w9⟨rfl,ds⟩;have b7:u.grownBy w9 (some sb):=(by obtain⟨a',n',c',l',⟨gu,-⟩,-⟩:=ds;exact aq e5 gu);have gU:=J (Z a3 _ ds);clear ds))
   go_wp2_with fail;have e6:=Z gU;rw[Z hR,Z gi]at e6;exact fm (eF rfl _ _ _) rfl ⟨rfl,e6⟩
structure si(w b:World)(sb:Nat)(t:TypeId)(cs a:Array Value)(lo n:Nat)(vb c:Value):Prop where
 aP:b.heap[sb]?=some (.cells a t (0,0))
 sz:a.size=cs.size
 out:∀i,i<lo\/lo+n<=i->a[i]?=cs[i]?
 av:ao w b (λk=>k=sb\/vb.ownBlock=some k)
 new:c.ownBlock=vb.ownBlock\/∀k,c.ownBlock=some k->w.heap.size<=k
def yw(w b:World)(d vc a:Value):Prop:=a=vc\/∀y n c,a=.slice (some y) n c->w.heap.size<=y.block/\y.block<b.heap.size/\d.ownBlock≠some y.block
structure ir(w:World)(d:Nat)(cs:Array Value)(b:Nat)(vb vc:Value)(s:It):Prop where
 c0:cs[b]?=some (.int .u64 s.h.fr)
 c1:cs[b+1]?=some vb
 c2:cs[b+2]?=some vc
 c3:cs[b+3]?=some (.int .u64 s.high)
 c4:cs[b+4]?=some (.int .u64 s.last)
 c5:cs[b+5]?=some (.int .u64 s.code)
 c6:cs[b+6]?=some (.bool s.ended)
 c7:cs[b+7]?=some (.bool s.given)
 c8:cs[b+8]?=some (.bool s.over)
 own:bn w d vb s.h.bytes
 set:∃a n c,vc=.slice a n c/\bw w a n c s.h.af
def kB(w:World)(sb:Nat)(vb vc:Value):Prop:=vb.ownBlock≠some sb/\∀y n c,vc=.slice (some y) n c->y.block≠sb/\vb.ownBlock≠some y.block/\y.block<w.heap.size
def ir.tail(h:ir w k c i x y E)(a:w.heap[n]?=some (.cells c T (0,0))):sf w n i E:=
 ⟨(ba a _).trans h.c3,(ba a _).trans h.c4,(ba a _).trans h.c5,(ba a _).trans h.c6,(ba a _).trans h.c7,(ba a _).trans h.c8⟩
def ir.nm(h:ir w k C i x y E):∃ab nb cb ac nc cc,x=.slice ab nb cb/\y=.slice ac nc cc:=by
 obtain⟨a,n,c,e,-⟩:=h.set;obtain⟨d,f,b,-⟩:=h.own.bs;exact⟨_,_,_,_,_,_,b,e⟩
def ir.hd{ac:Option Addr}(h:ir w i C j (.slice O l m) (.slice ac o b) E)(d:w.heap[k]?=some (.cells C T (0,0)))(f:E.h.nice):gV w k j O l m ac o b E.h:=by
 refine⟨(ba d _).trans h.c0,(ba d _).trans h.c1,(ba d _).trans h.c2,h.own.gT,?_,f⟩
 obtain⟨a,n,c,e,g⟩:=h.set;cases e;exact g
def ir.an(h:ir w k C i x y E)(g:w.grownBy W none):ir W k C i x y E:=
 ⟨h.c0,h.c1,h.c2,h.c3,h.c4,h.c5,h.c6,h.c7,h.c8,h.own.an g,by obtain⟨a,n,c,e,b⟩:=h.set;exact⟨a,n,c,e,b.an g⟩⟩
def It.bad(s:It)(f:Fr):Bool:=(s.ended&&decide (s.last<aW f))||(f.fin&&s.gJ (aW f))
def It.data(s:It)(f:Fr):It:=
 {s with high:=max s.high (aW f),ended:=s.ended||f.fin,last:=if f.fin then aW f else s.last,h:=if s.given then s.h else⟨s.h.fr,gY s.h.fr f.offset (aG f.data) (ju s.h.af ⟨f.offset,aW f⟩) s.h.bytes,dB s.h.af ⟨f.offset,aW f⟩⟩}
def gZ(h:c[i]?=some x):i<c.size:=(aZ.1 h).1
def cG(h:i<c.size:=by omega):(c.setIfInBounds i x)[i]?=some x:=by
 rw[kP,aD rfl,aD h]
def si.Bl(a:w.heap[i]?=some (.cells c T (0,0)))(g:w.grownBy W none)(lo n:Nat)(vb:Value):si w W i T c c lo n vb vb:=
 ⟨bB a g,rfl,λ_ _=>rfl,(ao.of g).mono (λk _ e=>by cases e),.inl rfl⟩
def np(w a:World)(sb:Nat)(t:TypeId)(cs:Array Value)(c f:Nat)(vb vc:Value)(s:It):Prop:=
 ∃d b e,si w a sb t cs d c 9 vb b/\ir a f d c b e s/\yw w a b vc e
def iS(cs:Array Value)(a:Nat)(s:It)(f:Fr):Array Value:=
 ((cs.setIfInBounds (a+3) (.int .u64 (max s.high (aW f)))).setIfInBounds (a+6) (.bool (s.ended||f.fin))).setIfInBounds (a+4) (.int .u64 (if f.fin then aW f else s.last))
def kU(cs:Array Value)(a:Nat)(s:It)(f:Fr)(i:Nat)(h:i≠a+3/\i≠a+6/\i≠a+4:=by omega):(iS cs a s f)[i]?=cs[i]? :=by
 unfold iS;rw[aN_,aN_,aN_]
def Bm(s:It)(f:Fr)(h:n+8<c.size):(iS c n s f)[n+3]?=some (.int .u64 (max s.high (aW f)))/\(iS c n s f)[n+6]?=some (.bool (s.ended||f.fin))/\(iS c n s f)[n+4]?=some (.int .u64 (if f.fin then aW f else s.last)):=by
 unfold iS;refine⟨?_,?_,?_⟩
 rw[aN_,aN_];exact cG;rw[aN_];exact cG (by simp;omega);exact cG (by simp;omega)
def Ho(f:Fr)(a:c[n+4]?=some (.int .u64 E.last))(b:c[n+6]?=some (.bool E.ended))(d:f.fin=false):iS c n E f=c.setIfInBounds (n+3) (.int .u64 (max E.high (aW f))):=by
 unfold iS;rw[d];simp only[tA,gm,gI]
 rw[tW (x:=.bool E.ended) (by rw[aN_];exact b),tW (x:=.int .u64 E.last) (by rw[aN_];exact a)]
def Hp(H:ir w m C l x z E)(d:kB w j x z)(f:Fr)(p:W.heap[j]?=some (.cells (iS C l E f) T (0,0)))(g:w.grownBy W (some j))(q:E.given=true):np w W j T C l m x z (E.data f):=by
 obtain⟨k3,r,k4⟩:=Bm E f (gZ H.c8);refine⟨_,x,z,⟨p,by simp[iS],λi hi=>kU _ _ _ _ _,(ao.of g).mono (λk _ e=>.inl (aQ e).symm),.inl rfl⟩,?_,.inl rfl⟩
 have b:(E.data f).h=E.h:=by simp[It.data,q]
 refine⟨?_,?_,?_,k3,k4,?_,r,?_,?_,?_,?_⟩
 rw[kU _ _ _ _ _,b];exact H.c0;rw[kU _ _ _ _ _];exact H.c1;rw[kU _ _ _ _ _];exact H.c2;rw[kU _ _ _ _ _];exact H.c5;rw[kU _ _ _ _ _];exact H.c7;rw[kU _ _ _ _ _];exact H.c8;rw[b];exact H.own.gb g (.inr d.1);obtain⟨a,n,c,e,s⟩:=H.set;rw[b];exact⟨a,n,c,e,s.gb g (λy t e2=>by subst t;exact(d.2 y n c e).1 (aQ e2).symm)⟩
def Hr(H:ir w o c l x z E)(B:E.h.nice)(D:o<=w.heap.size)(d:kB w j x z)(S:j<w.heap.size)(f:Fr)(v:Value)(F:0<=f.offset)(hs:aW f<=4611686018427387903)(G:∀m,f.offset<=m->m<aW f->¬Sm E.h.af m->E.h.fr<=m/\m<E.h.fr+900000)
 (q:W.heap[j]?=some (.cells (iS c l E f) T (0,0))) (g:w.grownBy W (some j)) (I:E.given=false):
 Calls prog 258 #[.pointer (some ⟨j,l,none⟩),.agg (bO f v)] W λr A=>r=.returned (.tuple #[])/\np w A j T c l o x z (E.data f):=by
 obtain⟨ab,nb,cb,ac,nc,cc,rfl,rfl⟩:=H.nm;have s:bw w ac nc cc E.h.af:=by obtain⟨a,n,t,e,s⟩:=H.set;cases e;exact s
 have K:bw W ac nc cc E.h.af:=s.gb g (λy L e2=>by subst L;exact(d.2 y nc cc rfl).1 (aQ e2).symm);have ho:bn W o (.slice ab nb cb) E.h.bytes:=H.own.gb g (.inr d.1);obtain⟨k3,M,k4⟩:=Bm E f (gZ H.c8);have N:gV W j l ab nb cb ac nc cc E.h:=by
  refine⟨?_,?_,?_,ho.gT,K,B⟩
  rw[ba q,kU _ _ _ _ _];exact H.c0;rw[ba q,kU _ _ _ _ _];exact H.c1;rw[ba q,kU _ _ _ _ _];exact H.c2
 apply(Hn W j l o _ T ab nb cb ac nc cc E.h q N ho (bD D g.size) d.1 (λy e=>⟨(d.2 y nc cc (by rw[e])).1,(d.2 y nc cc (by rw[e])).2.1⟩) f v F hs G).mono;rintro r A⟨rfl,a,n,t,u,n2,c2,O,P,Q,C,new,fr⟩;refine⟨rfl,_,.slice a n t,.slice u n2 c2,⟨O,by simp[iS],λi hi=>?_,((ao.of g).trans C).mono (λk _ p=>?_),new.imp id (λe k R=>bD g.size (e k R))⟩,?_,?_⟩
 rw[aN_,aN_,kU _ _ _ _ _];obtain p|p:=p
 exact .inl (aQ p).symm;exact p;have U:=gZ H.c8;have hd:(E.data f).h=⟨E.h.fr,gY E.h.fr f.offset (aG f.data) (ju E.h.af ⟨f.offset,aW f⟩) E.h.bytes,dB E.h.af ⟨f.offset,aW f⟩⟩:=by simp[It.data,I]
 have b:∀i,i≠l+1->i≠l+2->(((iS c l E f).setIfInBounds (l+1) (.slice a n t)).setIfInBounds (l+2) (.slice u n2 c2))[i]?=(iS c l E f)[i]? :=λi V X=>by
  rw[aN_,aN_]
 refine⟨?_,?_,?_,?_,?_,?_,?_,?_,?_,?_,?_⟩
 rw[b _ (by omega) (by omega),kU _ _ _ _ _,hd];exact H.c0;rw[aN_];exact cG (by simp[iS];omega);exact cG (by simp[iS];omega);rw[b _ (by omega) (by omega)];exact k3;rw[b _ (by omega) (by omega)];exact k4;rw[b _ (by omega) (by omega),kU _ _ _ _ _];exact H.c5;rw[b _ (by omega) (by omega)];exact M;rw[b _ (by omega) (by omega),kU _ _ _ _ _];exact H.c7;rw[b _ (by omega) (by omega),kU _ _ _ _ _];exact H.c8;rw[hd];exact P;rw[hd];exact⟨u,n2,c2,rfl,Q⟩
 obtain⟨rfl,rfl,rfl⟩|fr:=fr
 exact .inl rfl;exact .inr (λy Y c3 e=>by cases e;exact⟨bD g.size (fr y rfl).1,(fr y rfl).2.1,(fr y rfl).2.2⟩)
def Hs(w:World)(sb a D:Nat)(cs:Array Value)(t:TypeId)(vb vc:Value)(s:It)(P:w.heap[sb]?=some (.cells cs t (0,0)))(H:ir w D cs a vb vc s)(hn:s.h.nice)(bz:D<=w.heap.size)(aC:kB w sb vb vc)
 (f:Fr) (p:Value) (hf:0<=f.offset) (hs:aW f<=4611686018427387903) (bM:s.given=false->∀m,f.offset<=m->m<aW f->¬Sm s.h.af m->s.h.fr<=m/\m<s.h.fr+900000):
 Calls prog 219 #[.pointer (some ⟨sb,a,none⟩),.agg (bO f p)] w λr i=>(s.bad f=true/\r=.returned (.iface 34 (.int .i64 7))/\w.grownBy i none)\/(s.bad f=false/\r=.returned .nilIface/\np w i sb t cs a D vb vc (s.data f)):=by
 obtain⟨ab,nb,cb,ac,nc,cc,rfl,rfl⟩:=H.nm;obtain⟨R,q⟩:∃R:Ending->World->Prop,R=λr i=>(s.bad f=true/\r=.returned (.iface 34 (.int .i64 7))/\w.grownBy i none)\/(s.bad f=false/\r=.returned .nilIface/\np w i sb t cs a D (.slice ab nb cb) (.slice ac nc cc) (s.data f)):=⟨_,rfl⟩
 rw[<-q];replace q:=J q;have y:=J (λW=>yj W f p hf (by omega));have hT:=H.tail P;have Q:=J (λW(g:w.grownBy W none)=>AY W sb a s (hT.an g) (aW f));have b0:sb<w.heap.size:=(aZ.1 P).1;obtain⟨c3,c4,c5,c6,c7,c8⟩:=hT;obtain⟨W1,u⟩:=exq (w.alloc (.cells (bO f p) 158));have g1:w.grownBy W1 none:=by rw[u];exact aH _ _ _
 have E:W1.heap[w.heap.size]?=some (.cells (bO f p) 158 (0,0)):=by rw[u];exact aO _ _
 obtain⟨q0,q1,q2,q3,S,q5,q6⟩:=cM E;have j:Hid (s.bad f=((s.ended&&decide (s.last<aW f))||(f.fin&&s.gJ (aW f)))):=J rfl;obtain⟨bad,x⟩:=exq (s.bad f);obtain⟨en,n⟩:=exq (aW f);obtain⟨mv,F⟩:=exq (s.gJ (aW f));rw[<-x,<-F,<-n]at j;rw[<-F,<-n]at Q;rw[<-n]at y;replace⟨x,F,n⟩:=cg x F n;unfold bO at u y;unfold bO;obtain⟨fin,k⟩:=exq f.fin;rw[<-k]at S u y j;simp only[<-k]
 replace⟨k,E⟩:=bA k E;go_enter func219,ntmps219;go_wp2_with fail;rw[<-u];clear u;apply(Z y _).mono;rintro e G⟨rfl,T⟩;have b:=aq g1 T;have d3:=gC_ b c3;have d4:=gC_ b c4;have d6:=gC_ b c6;have d7:=gC_ b c7;have p4:=gC_ T S;have I:=bB (Z E) T;have c:=bB P b;have f3:G.frozen? ⟨sb,a+3,none⟩=false:=fZ_ c;have f4:G.frozen? ⟨sb,a+4,none⟩=false:=fZ_ c;have f6:G.frozen? ⟨sb,a+6,none⟩=false:=fZ_ c;have l:w.heap.size≠sb:=by omega
 have cy:sb≠w.heap.size:=by omega
 clear c3 c4 c5 c6 c7 c8 q0 q1 q2 q3 S q5 q6 y;obtain⟨ended,K⟩:=exq s.ended;obtain⟨given,z⟩:=exq s.given;obtain⟨last,L⟩:=exq s.last;obtain⟨high,A⟩:=exq s.high;rw[<-K]at d6 j;rw[<-L]at d4 j;rw[<-z]at d7;rw[<-A]at d3;replace⟨K,z,L,A,I,c⟩:=nZ K z L A I c;go_upto_region 2 with fail;go_cut [28] (λv wx=>v=.bool bad/\wx=G);case first=>
  by_cases a3:last<en
  ·cases ended
   ·cases fin
    ·go_wp2_with fail;go_meet;exact⟨by rw[Z j];simp,rfl⟩
    go_wp2_with (first|(go_at_call 257;apply(Z Q _ b).mono;rintro e w5⟨rfl,rfl⟩));go_meet;exact⟨by rw[Z j];simp,rfl⟩
   have cA:decide (last<en)=true:=dO a3;go_wp2;go_meet;exact⟨by rw[Z j];simp_all,rfl⟩
  have ch:decide (last<en)=false:=eQ a3;cases ended<;>cases fin;all_goals
   go_wp2_with (first|(go_at_call 257;apply(Z Q _ b).mono;rintro e w5⟨rfl,rfl⟩))
   go_meet
   exact⟨by rw[Z j];simp[ch],rfl⟩
 case rest=>
  obtain⟨rfl,rfl⟩:=hcut;rename World=>B
  cases bad
  ·have a8:Hid (∀W,W.heap[sb]?=some (.cells (iS cs a s f) t (0,0))->w.grownBy W (some sb)->s.given=true->R (.returned .nilIface) W):=J (λW U V M=>by rw[Z q];exact .inr ⟨(Z x).symm,rfl,Hp H aC f U V M⟩);have N:Hid (∀W,W.heap[sb]?=some (.cells (iS cs a s f) t (0,0))->w.grownBy W (some sb)->s.given=false->Calls prog 258 #[.pointer (some ⟨sb,a,none⟩),.agg (bO f p)] W λr i=>r=.returned (.tuple #[])/\R (.returned .nilIface) i):=J (λW U V M=>(Hr H hn bz aC b0 f p hf hs (bM M) U V M).mono (λr i h=>⟨h.1,by rw[Z q];exact .inr ⟨(Z x).symm,rfl,h.2⟩⟩));unfold bO at N;rw[<-Z k]at N;rw[<-Z z]at a8 N;have X:Hid (iS cs a s f=((cs.setIfInBounds (a+3) (.int .u64 (max high en))).setIfInBounds (a+6) (.bool (ended||fin))).setIfInBounds (a+4) (.int .u64 (if fin then en else last))):=J (by unfold iS;rw[Z K,Z L,Z A,Z n,Z k]);have a9:Hid (fin=false->iS cs a s f=cs.setIfInBounds (a+3) (.int .u64 (max high en))):=J (λe=>by rw[Ho f H.c4 H.c6 (by rw[<-Z k];exact e),Z A,Z n]);obtain⟨p0,p1,p2,p3,-,p5,p6⟩:=cM (Z I);replace p0:=kg (n:=sb) p0 l;replace p1:=kg (n:=sb) p1 l;replace p2:=kg (n:=sb) p2 l;replace p3:=kg (n:=sb) p3 l;replace p4:=kg (n:=sb) p4 l;replace p5:=kg (n:=sb) p5 l;replace p6:=kg (n:=sb) p6 l;obtain⟨Y,O⟩:=exq (max high en);rw[<-O]at X a9;replace O:=J O;go_upto_region 4 with fail;go_cut [] (λwx=>wx=B.setCell ⟨sb,a+3,none⟩ (.int .u64 Y));case first=>
    have e5:Hid (Y=if high<en then en else high):=J (by rw[Z O];split<;>omega);by_cases hh:high<en
    ·go_wp2_with fail;go_meet;rw[Z e5,aD hh]
    go_wp2_with fail;go_meet;rw[Z e5,iN_]
   case rest=>
    rename World=>wd
    have gw:B.grownBy wd (some sb):=by rw[hcut];exact aK (aB _ _) _ _ (.inr rfl)
    have d:wd.heap[sb]?=some (.cells (cs.setIfInBounds (a+3) (.int .u64 Y)) t (0,0)):=by rw[hcut];exact heap_set (Z c) _
    clear hcut;have k4:wd.cell? ⟨sb,a+4,none⟩=some (.int .u64 last):=by
     rw[ba d,aN_];exact(ba (Z c) _).symm.trans d4
    have k6:wd.cell? ⟨sb,a+6,none⟩=some (.bool ended):=by
     rw[ba d,aN_];exact(ba (Z c) _).symm.trans d6
    have k7:wd.cell? ⟨sb,a+7,none⟩=some (.bool given):=by
     rw[ba d,aN_];exact(ba (Z c) _).symm.trans d7
    have f4:wd.frozen? ⟨sb,a+4,none⟩=false:=fZ_ d;have f6:wd.frozen? ⟨sb,a+6,none⟩=false:=fZ_ d;replace d:=J d;clear d3 d4 d6 d7 f3;go_upto_if 40 with fail;go_cut [] (λwx=>wx.heap[sb]?=some (.cells (iS cs a s f) t (0,0))/\B.grownBy wx (some sb));case first=>
     cases fin
     ·go_wp2_with fail;go_meet;exact⟨by rw[Z a9 (by trivial)];exact Z d,gw⟩
     go_wp2_with fail;go_meet;simp only[Bool.or_true,fu]at X;exact⟨by rw[Z X];exact heap_set (heap_set (Z d) _) _,aK (aK gw _ _ (.inr rfl)) _ _ (.inr rfl)⟩
    case rest=>
     obtain⟨C,g7⟩:=hcut;have k9:wc.cell? ⟨sb,a+7,none⟩=some (.bool given):=by
      rw[ba C,kU _ _ _ _ _,Z z];exact H.c7
     have bt:=aq (dd b (some sb)) g7;replace C:=J C;clear k4 k6 k7 f4 f6 p4;have p4:∀W,B.grownBy W (some sb)->W.cell? ⟨w.heap.size,4,none⟩=some (.bool fin):=by
      have:=(cM (Z I)).2.2.2.2.1;rw[<-Z k]at this;exact kg this l
     cases given
     ·go_wp2_with fail;apply(Z N wc (Z C) bt (by trivial)).mono;rintro e w5⟨rfl,al⟩;replace al:=J al;go_wp2_with fail;exact Z al
     go_wp2_with fail;exact Z a8 wc (Z C) bt (by trivial)
  have ax:R (.returned (.iface 34 (.int .i64 7))) B:=by rw[Z q];exact .inl ⟨(Z x).symm,rfl,b⟩
  replace ax:=J ax;go_wp2_with fail;exact Z ax
def It.reset(s:It)(f:Fr):It:=
 {s with ended:=true,last:=f.offset,given:=true,code:=if s.given then s.code else f.code,h:=if s.given then s.h else⟨s.h.fr,[],[]⟩}
def hb(cs:Array Value)(a:Nat)(f:Fr):Array Value:=(cs.setIfInBounds (a+6) (.bool true)).setIfInBounds (a+4) (.int .u64 f.offset)
def lZ(cs:Array Value)(a:Nat)(s:It)(f:Fr):Array Value:=(((((hb cs a f).setIfInBounds (a+7) (.bool true)).setIfInBounds (a+5) (.int .u64 f.code)).setIfInBounds a (.int .u64 s.h.fr)).setIfInBounds (a+1) (.slice none 0 0)).setIfInBounds (a+2) (.slice none 0 0)
def Ht(H:ir w m C l x z E)(q:kB w j x z)(f:Fr)(r:W.heap[j]?=some (.cells (hb C l f) T (0,0)))(g:w.grownBy W (some j))(d:E.given=true):np w W j T C l m x z (E.reset f):=by
 have A:=gZ H.c8;have b:∀i,i≠l+6->i≠l+4->(hb C l f)[i]?=C[i]? :=λi B D=>by
  unfold hb;rw[aN_,aN_]
 refine⟨_,x,z,⟨r,by simp[hb],λi hi=>b i (by omega) (by omega),(ao.of g).mono (λk _ e=>.inl (aQ e).symm),.inl rfl⟩,?_,.inl rfl⟩
 have p:(E.reset f).h=E.h:=by simp[It.reset,d]
 have s:(E.reset f).code=E.code:=by simp[It.reset,d]
 have t:(E.reset f).given=E.given:=by simp[It.reset,d]
 refine⟨?_,?_,?_,?_,?_,?_,?_,?_,?_,?_,?_⟩
 rw[b _ (by omega) (by omega),p];exact H.c0;rw[b _ (by omega) (by omega)];exact H.c1;rw[b _ (by omega) (by omega)];exact H.c2;rw[b _ (by omega) (by omega)];exact H.c3;unfold hb;exact cG (by simp;omega);rw[b _ (by omega) (by omega),s];exact H.c5;unfold hb;rw[aN_];exact cG;rw[b _ (by omega) (by omega),t];exact H.c7;rw[b _ (by omega) (by omega)];exact H.c8;rw[p];exact H.own.gb g (.inr q.1);obtain⟨a,n,c,e,u⟩:=H.set;rw[p];exact⟨a,n,c,e,u.gb g (λy v e2=>by subst v;exact(q.2 y n c e).1 (aQ e2).symm)⟩
def Hu(H:ir w m C l x z E)(f:Fr)(p:W.heap[j]?=some (.cells (lZ C l E f) T (0,0)))(g:w.grownBy W (some j))(d:E.given=false):np w W j T C l m x z (E.reset f):=by
 have t:=gZ H.c8;have a:∀i,i≠l+6->i≠l+4->i≠l+7->i≠l+5->i≠l->i≠l+1->i≠l+2->(lZ C l E f)[i]?=C[i]? :=λi u v A B D F G=>by
  unfold lZ hb;rw[aN_,aN_,aN_,aN_,aN_,aN_,aN_]
 refine⟨_,.slice none 0 0,.slice none 0 0,⟨p,by simp[lZ,hb],λi hi=>a i (by omega) (by omega) (by omega) (by omega) (by omega) (by omega) (by omega),(ao.of g).mono (λk _ e=>.inl (aQ e).symm),.inr (λk e=>by cases e)⟩,?_,.inr (λy n c e=>by cases e)⟩
 have b:(E.reset f).h=⟨E.h.fr,[],[]⟩:=by simp[It.reset,d]
 have q:(E.reset f).code=f.code:=by simp[It.reset,d]
 refine⟨?_,?_,?_,?_,?_,?_,?_,?_,?_,?_,?_⟩
 unfold lZ;rw[aN_,aN_,b];exact cG (by simp[hb];omega);unfold lZ;rw[aN_];exact cG (by simp[hb];omega);unfold lZ;exact cG (by simp[hb];omega);rw[a _ (by omega) (by omega) (by omega) (by omega) (by omega) (by omega) (by omega)];exact H.c3;unfold lZ hb;rw[aN_,aN_,aN_,aN_,aN_];exact cG (by simp;omega);unfold lZ;rw[aN_,aN_,aN_,q];exact cG (by simp[hb];omega);unfold lZ hb;rw[aN_,aN_,aN_,aN_,aN_,aN_];exact cG;unfold lZ;rw[aN_,aN_,aN_,aN_];exact cG (by simp[hb];omega);rw[a _ (by omega) (by omega) (by omega) (by omega) (by omega) (by omega) (by omega)];exact H.c8;rw[b];exact bn.nil _ _;rw[b];exact⟨none,0,0,rfl,λr s=>by simp at s,rfl,aR _,by simp[maxLen],.inl rfl⟩
def Hv(w:World)(sb a C:Nat)(cs:Array Value)(t:TypeId)(vb vc:Value)(s:It)(q:w.heap[sb]?=some (.cells cs t (0,0)))(H:ir w C cs a vb vc s)(T:kB w sb vb vc)(f:Fr)(D:Value):
 Calls prog 218 #[.pointer (some ⟨sb,a,none⟩),.agg (bO f D)] w λr u=>(s.gJ f.offset=true/\r=.returned (.iface 34 (.int .i64 7))/\w.grownBy u none)\/(s.gJ f.offset=false/\r=.returned .nilIface/\np w u sb t cs a C vb vc (s.reset f)):=by
 obtain⟨R,v⟩:∃R:Ending->World->Prop,R=λr u=>(s.gJ f.offset=true/\r=.returned (.iface 34 (.int .i64 7))/\w.grownBy u none)\/(s.gJ f.offset=false/\r=.returned .nilIface/\np w u sb t cs a C vb vc (s.reset f)):=⟨_,rfl⟩
 rw[<-v];have K:=H.tail q;have E:=J (λW(g:w.grownBy W none)=>AY W sb a s (K.an g) f.offset);have b0:sb<w.heap.size:=(aZ.1 q).1;have L:Hid (s.gJ f.offset=true->∀W,w.grownBy W none->R (.returned (.iface 34 (.int .i64 7))) W):=J (λh W g=>by rw[v];exact .inl ⟨h,rfl,g⟩);have F:Hid (s.gJ f.offset=false->∀W,W.heap[sb]?=some (.cells (hb cs a f) t (0,0))->w.grownBy W (some sb)->s.given=true->R (.returned .nilIface) W):=J (λh W x y A=>by rw[v];exact .inr ⟨h,rfl,Ht H T f x y A⟩);have G:Hid (s.gJ f.offset=false->∀W,W.heap[sb]?=some (.cells (lZ cs a s f) t (0,0))->w.grownBy W (some sb)->s.given=false->R (.returned .nilIface) W):=J (λh W x y A=>by rw[v];exact .inr ⟨h,rfl,Hu H f x y A⟩);clear v;obtain⟨U,M⟩:=exq (s.gJ f.offset);rw[<-M]at E L F G;clear M;obtain⟨c3,c4,c5,c6,c7,c8⟩:=K;have c0:=(ba q _).trans H.c0;have c1:=(ba q _).trans H.c1;have c2:=(ba q _).trans H.c2;obtain⟨l,p⟩:=exq (w.alloc (.cells (bO f D) 158));have c:w.grownBy l none:=by rw[p];exact aH _ _ _
 have I:l.heap[w.heap.size]?=some (.cells (bO f D) 158 (0,0)):=by rw[p];exact aO _ _
 obtain⟨V,X,Y,N,q4,q5,q6⟩:=cM I;have k:=bB q c;have d0:=gC_ c c0;have d1:=gC_ c c1;have d2:=gC_ c c2;have d4:=gC_ c c4;have d5:=gC_ c c5;have d6:=gC_ c c6;have d7:=gC_ c c7;have f0:l.frozen? ⟨sb,a,none⟩=false:=fZ_ k;have f1:l.frozen? ⟨sb,a+1,none⟩=false:=fZ_ k;have f2:l.frozen? ⟨sb,a+2,none⟩=false:=fZ_ k;have f4:l.frozen? ⟨sb,a+4,none⟩=false:=fZ_ k;have f5:l.frozen? ⟨sb,a+5,none⟩=false:=fZ_ k;have f6:l.frozen? ⟨sb,a+6,none⟩=false:=fZ_ k;have f7:l.frozen? ⟨sb,a+7,none⟩=false:=fZ_ k;clear c0 c1 c2 c3 c4 c5 c6 c7 c8 V X q4 q5 q6;unfold bO at p;unfold bO;replace⟨I,k⟩:=bA I k;have nS:w.heap.size≠sb:=by omega
 obtain⟨given,B⟩:=exq s.given;rw[<-B]at d7 F G;replace B:=J B;have hA:Hid (hb cs a f=(cs.setIfInBounds (a+6) (.bool true)).setIfInBounds (a+4) (.int .u64 f.offset)):=J rfl;have hB:Hid (lZ cs a s f=(((((hb cs a f).setIfInBounds (a+7) (.bool true)).setIfInBounds (a+5) (.int .u64 f.code)).setIfInBounds a (.int .u64 s.h.fr)).setIfInBounds (a+1) (.slice none 0 0)).setIfInBounds (a+2) (.slice none 0 0)):=J rfl;cases U
 ·go_enter func218,ntmps218;go_wp2_with fail;rw[<-p];clear p;apply(Z E _ c).mono;rintro e O⟨rfl,rfl⟩;go_upto_region 3 with fail;go_cut [] (λwx=>wx.heap[sb]?=some (.cells (hb cs a f) t (0,0))/\O.grownBy wx (some sb));case first=>
   go_region;go_wp2;go_meet;exact⟨by rw[Z hA];exact heap_set (heap_set (Z k) _) _,aV (aK (aK (aB _ _) _ _ (.inr rfl)) _ _ (.inr rfl))⟩
  case rest=>
   obtain⟨b,P⟩:=hcut;rename World=>d
   have j:∀i,i≠a+6->i≠a+4->(hb cs a f)[i]?=cs[i]? :=λi x y=>by
    unfold hb;rw[aN_,aN_]
   have e0:d.cell? ⟨sb,a,none⟩=some (.int .u64 s.h.fr):=by rw[ba b,j _ (by omega) (by omega)];exact H.c0
   have e1:d.cell? ⟨sb,a+1,none⟩=some vb:=by rw[ba b,j _ (by omega) (by omega)];exact H.c1
   have e2:d.cell? ⟨sb,a+2,none⟩=some vc:=by rw[ba b,j _ (by omega) (by omega)];exact H.c2
   have e5:d.cell? ⟨sb,a+5,none⟩=some (.int .u64 s.code):=by rw[ba b,j _ (by omega) (by omega)];exact H.c5
   have e7:d.cell? ⟨sb,a+7,none⟩=some (.bool given):=by rw[ba b,j _ (by omega) (by omega),Z B];exact H.c7
   have r0:d.frozen? ⟨sb,a,none⟩=false:=fZ_ b;have r1:d.frozen? ⟨sb,a+1,none⟩=false:=fZ_ b;have r2:d.frozen? ⟨sb,a+2,none⟩=false:=fZ_ b;have r5:d.frozen? ⟨sb,a+5,none⟩=false:=fZ_ b;have r7:d.frozen? ⟨sb,a+7,none⟩=false:=fZ_ b;have bt:=P.cell N (λe=>nS (aQ e));have Q:=aq (dd c (some sb)) P;clear j d0 d1 d2 d4 d5 d6 d7 f0 f1 f2 f4 f5 f6 f7 Y N;replace b:=J b;cases given
   ·go_upto_region 5 with fail;go_cut [] (λwx=>wx=((d.setCell ⟨sb,a+7,none⟩ (.bool true)).setCell ⟨sb,a+5,none⟩ (.int .u64 f.code)).drew);case first=>
     go_region;go_wp2;go_meet;rfl
    case rest=>
     rename World=>m
     have n:m.heap[sb]?=some (.cells (((hb cs a f).setIfInBounds (a+7) (.bool true)).setIfInBounds (a+5) (.int .u64 f.code)) t (0,0)):=by rw[hcut];exact heap_set (heap_set (Z b) _) _
     have g4:w.grownBy m (some sb):=by rw[hcut];exact aV (aK (aK Q _ _ (.inr rfl)) _ _ (.inr rfl))
     clear hcut;have j:∀i,i≠a+6->i≠a+4->i≠a+7->i≠a+5->(((hb cs a f).setIfInBounds (a+7) (.bool true)).setIfInBounds (a+5) (.int .u64 f.code))[i]?=cs[i]? :=λi x y A h4=>by
      unfold hb;rw[aN_,aN_,aN_,aN_]
     have e0:m.cell? ⟨sb,a,none⟩=some (.int .u64 s.h.fr):=by rw[ba n,j _ (by omega) (by omega) (by omega) (by omega)];exact H.c0
     have e1:m.cell? ⟨sb,a+1,none⟩=some vb:=by rw[ba n,j _ (by omega) (by omega) (by omega) (by omega)];exact H.c1
     have e2:m.cell? ⟨sb,a+2,none⟩=some vc:=by rw[ba n,j _ (by omega) (by omega) (by omega) (by omega)];exact H.c2
     have r0:m.frozen? ⟨sb,a,none⟩=false:=fZ_ n;have r1:m.frozen? ⟨sb,a+1,none⟩=false:=fZ_ n;have r2:m.frozen? ⟨sb,a+2,none⟩=false:=fZ_ n;clear j e5 e7 r5 r7 bt;replace n:=J n;obtain⟨S,z⟩:=exq (((m.setCell ⟨sb,a,none⟩ (.int .u64 s.h.fr)).setCell ⟨sb,a+1,none⟩ (.slice none 0 0)).setCell ⟨sb,a+2,none⟩ (.slice none 0 0));have bz:Hid (S.heap[sb]?=some (.cells (lZ cs a s f) t (0,0))):=J (by rw[z,Z hB];exact heap_set (heap_set (heap_set (Z n) _) _) _);have g5:w.grownBy S (some sb):=by rw[z];exact aK (aK (aK g4 _ _ (.inr rfl)) _ _ (.inr rfl)) _ _ (.inr rfl)
     replace z:=J z;go_wp2_with fail;rw[<-Z z];exact Z G (by trivial) _ (Z bz) g5 (by trivial)
   go_wp2_with fail;exact Z F (by trivial) _ (Z b) Q (by trivial)
 go_enter func218,ntmps218;go_wp2_with fail;rw[<-p];clear p;apply(Z E _ c).mono;rintro e O⟨rfl,rfl⟩;go_wp2_with fail;exact Z L (by trivial) _ c
def It.iT(s:It)(aF:Int):Nat:=(max 0 (min aF (cV s.h))).toNat
def It.read(s:It)(aF:Int):It:=
 if s.given&& !s.over then s else
  {s with h:=⟨s.h.fr+s.iT aF,s.h.bytes.drop (s.iT aF),s.h.af⟩,over:=s.ended&&(s.h.fr+s.iT aF==s.last)}
def It.out(s:It)(aF:Int):List Int:=if s.given&& !s.over then[]else s.h.bytes.take (s.iT aF)
def It.state(s:It)(aF:Int):Int:=if s.given&& !s.over then 2 else if(s.read aF).over then 1 else 0
def It.jx(s:It):Int:=if s.given&& !s.over then s.code else 0
def yy(w:World)(sb:Nat)(t:TypeId)(cs:Array Value)(f g:Nat)(vb vc:Value)(s:It)(aF:Int)(e:Ending)(d:World):Prop:=
 ∃a n c b,e=.returned (.tuple #[.slice a n c,.int .i64 (s.state aF),.int .u64 s.jx])/\bn d w.heap.size (.slice a n c) (s.out aF)/\w.grownBy b none/\(∀j,(Value.slice a n c).ownBlock=some j->j<b.heap.size)/\np b d sb t cs f g vb vc (s.read aF)
def Hw(a:w.heap[n]?=some (.cells c T (0,0)))(H:ir w i c k x y E)(g:w.grownBy W none):np w W n T c k i x y E:=
 ⟨c,x,y,si.Bl a g _ _ _,H.an g,.inl rfl⟩
def Hy(a:Option Addr)(n cap i:Nat)(h:i<=cap)(W:World):(Instr.slice 112 (.slice a n cap) none (some (.int .i64 i)) (some (.int .i64 i))).run prog W=.ok (.slice a i i) W:=by
 rw[run_slice_hm W 112 a n cap (by rw[sh];exact underlying112) .i64 .i64 (i:Int) (i:Int) (by omega) (cS _) (by omega),sh,yn];simp only[jd,sliced,nT,nV,Nat.sub_zero]
 congr 1;cases a with
 |none=>simp
 |some y=>simp[Addr.add]
def Hz(h:bI w a n k L)(m:Nat)(f:m<=n):bI w a m m (L.take m):=by
 obtain⟨d,g,i,j,c⟩:=h;refine⟨λx e=>d x (jc e),by rw[ct];omega,aR _,by omega,?_⟩
 obtain⟨c,l⟩|⟨b,o,rfl,c⟩:=c
 exact .inl ⟨c,by omega⟩;exact .inr ⟨b,o,rfl,yr c m⟩
def vcs(cs:Array Value)(a:Nat)(fr:Int)(vb:Value)(ov:Bool):Array Value:=((cs.setIfInBounds a (.int .u64 fr)).setIfInBounds (a+1) vb).setIfInBounds (a+8) (.bool ov)
def HB(H:ir w m C l x z E)(f:kB w j x z)(q:m<=w.heap.size)(r:(E.given&& !E.over)=false)
 (s:W.heap[j]?=some (.cells (vcs C l (E.h.fr+E.iT p) y (E.ended&&(E.h.fr+E.iT p==E.last))) T (0,0))) (g:w.grownBy W (some j)) (ho:bn W w.heap.size y (E.h.bytes.drop (E.iT p))):np w W j T C l m x z (E.read p):=by
 have A:=gZ H.c8;have d:E.read p={E with h:=⟨E.h.fr+E.iT p,E.h.bytes.drop (E.iT p),E.h.af⟩,over:=E.ended&&(E.h.fr+E.iT p==E.last)}:=by simp[It.read,r]
 have b:∀i,i≠l->i≠l+1->i≠l+8->(vcs C l (E.h.fr+E.iT p) y (E.ended&&(E.h.fr+E.iT p==E.last)))[i]?=C[i]? :=λi B D F=>by
  unfold vcs;rw[aN_,aN_,aN_]
 have t:∀k,y.ownBlock=some k->w.heap.size<=k:=λk e=>(ho.lt k e).1
 rw[d];refine⟨_,y,z,⟨s,by simp[vcs],λi hi=>b i (by omega) (by omega) (by omega),(ao.of g).mono (λk _ e=>.inl (aQ e).symm),.inr t⟩,⟨?_,?_,?_,?_,?_,?_,?_,?_,?_,?_,?_⟩,.inl rfl⟩
 unfold vcs;rw[aN_,aN_];exact cG;unfold vcs;rw[aN_];exact cG (by simp;omega);rw[b _ (by omega) (by omega) (by omega)];exact H.c2;rw[b _ (by omega) (by omega) (by omega)];exact H.c3;rw[b _ (by omega) (by omega) (by omega)];exact H.c4;rw[b _ (by omega) (by omega) (by omega)];exact H.c5;rw[b _ (by omega) (by omega) (by omega)];exact H.c6;rw[b _ (by omega) (by omega) (by omega)];exact H.c7;unfold vcs;exact cG (by simp;omega);exact ho.low q;obtain⟨a,n,c,e,d⟩:=H.set;exact⟨a,n,c,e,d.gb g (λu v e2=>by subst v;exact(f.2 u n c e).1 (aQ e2).symm)⟩
def HC(w:World)(sb d B:Nat)(cs:Array Value)(t:TypeId)(vb vc:Value)(s:It)(q:w.heap[sb]?=some (.cells cs t (0,0)))(H:ir w B cs d vb vc s)(C:s.h.nice)(br:B<=w.heap.size)(D:kB w sb vb vc)(aF:Int)(hw:0<=cV s.h/\cV s.h<=s.h.bytes.length):
 Calls prog 167 #[.pointer (some ⟨sb,d,none⟩),.int .i64 aF] w (yy w sb t cs d B vb vc s aF):=by
 obtain⟨ab,nb,cb,ac,nc,cc,rfl,rfl⟩:=H.nm;have hT:=H.tail q;have cB:sb<w.heap.size:=(aZ.1 q).1;obtain⟨c3,c4,c5,c6,c7,c8⟩:=hT;by_cases k:(s.given&& !s.over)=true
 ·have bz:s.given=true:=by simp at k;exact k.1
  have m:s.over=false:=by simp at k;exact k.2
  rw[bz]at c7;rw[m]at c8;have hF:Hid (∀W,w.grownBy W none->yy w sb t cs d B (.slice ab nb cb) (.slice ac nc cc) s aF (.returned (.tuple #[.slice none 0 0,.int .i64 2,.int .u64 s.code])) W):=J (λW g=>⟨none,0,0,w,by simp[It.state,It.jx,k],by simp only[It.out,k,fu];exact bn.nil _ _,aB _ _,λj e=>(by cases e),by simp only[It.read,k,fu];exact Hw q H g⟩);go_enter func167,ntmps167;go_wp2_with fail;go_region;go_wp2_with fail;exact cF (v:=.tuple #[.slice none 0 0,.int .i64 2,.int .u64 s.code]) (by simp[results,results167,go_sem]) rfl (Z hF _ (aV (aB _ _)))
 have u:(s.given&& !s.over)=false:=by simpa using k
 have E:=H.own.gT.2.1;have cC:=H.own.gT.2.2.1;obtain⟨N,I⟩:=exq (s.iT aF);have bM:N<=nb:=by
  rw[I,E];unfold It.iT;omega
 have HD:=H.hd q C;have a0:=J (AW w sb d ab nb cb ac nc cc s.h HD ⟨hw.1,by have:=C.2.1;have:=C.1;omega⟩);have a1:=J (λW(g:w.grownBy W none)=>Bf W sb d cs t ab nb cb ac nc cc s.h (bB q g) (HD.an g) N (by have:=C.2.1;omega) (λy e=>by subst e;exact λe2=>D.1 (by rw[<-e2];rfl)));have hF:Hid (∀(W x:World)(a:Option Addr)(n c:Nat)(V:Value)(r:Int),w.grownBy x none->bn x w.heap.size (.slice a n c) (s.h.bytes.take N)->x.grownBy W (some sb)->(Value.slice a n c).ownBlock≠some sb->W.heap[sb]?=some (.cells (vcs cs d (s.h.fr+N) V (s.ended&&(s.h.fr+N==s.last))) t (0,0))->bn W x.heap.size V (s.h.bytes.drop N)->r=(if(s.ended&&(s.h.fr+N==s.last))then 1 else 0)->yy w sb t cs d B (.slice ab nb cb) (.slice ac nc cc) s aF (.returned (.tuple #[.slice a n c,.int .i64 r,.int .u64 0])) W):=J (λW x a n c V r h0 K L h3 h4 h6 h7=>by
  subst I;refine⟨a,n,c,x,?_,?_,h0,λj e=>(K.lt j e).2,HB (H.an h0) ⟨D.1,λy n c e=>⟨(D.2 y n c e).1,(D.2 y n c e).2.1,bX (D.2 y n c e).2.2 h0.size⟩⟩ (bD br h0.size) u h4 L h6⟩
  simp only[It.state,It.jx,u,gI,gm,It.read,h7]
  ·simp only[It.out,u,gI,gm];exact K.gb L (.inr h3))
 have X:bI w ab N N (s.h.bytes.take N):=Hz H.own.gT N bM;have jk:∀W,(Instr.slice 112 (.slice ab nb cb) none (some (.int .i64 N)) (some (.int .i64 N))).run prog W=.ok (.slice ab N N) W:=λW=>Hy ab nb cb N (by omega) W
 have b6:Hid ((N:Int)=max 0 (min aF (cV s.h))):=J (by rw[I];unfold It.iT;omega);have b7:Hid (s.h.bytes.length<=1000000):=J C.2.2.2.1;replace⟨X,E⟩:=bA X E;have c1:=(ba q _).trans H.c1;clear I k;obtain⟨given,a2⟩:=exq s.given;obtain⟨over,a3⟩:=exq s.over;rw[<-a2]at c7 u;rw[<-a3]at c8 u;clear a2 a3;generalize cV s.h=wh at *;go_enter func167,ntmps167;go_upto_region 1 with fail;go_cut [19] (λv wx=>v=.bool false/\wx=w);case first=>
  cases given<;>cases over<;>simp at u;all_goals
   go_wp2
   go_meet
   exact⟨rfl,rfl⟩
 case rest=>
  obtain⟨rfl,rfl⟩:=hcut;go_upto_region 3 with fail;go_cut [7] (λv wx=>v=.int .i64 N/\wc.grownBy wx none);case first=>
   go_wp2_with fail;apply(Z a0).mono;rintro e M⟨rfl,z⟩;by_cases K:wh<aF<;>by_cases L:0<min aF wh;all_goals
    go_wp2_with fail
    all_goals
     go_meet
     refine⟨?_,z⟩
     have:=Z b6
     congr 1
     omega
  case rest=>
   rename World=>M
   obtain⟨rfl,z⟩:=hcut;have d1:=gC_ z c1;have b8:=J ((Z X).an z);have ca:Hid ((s.h.bytes.take N).length=N):=J (by rw[ct];have:=Z E;omega);have c9:N<=1000000:=by have:=Z E;have:=Z b7;omega
   go_upto_region 4 with fail;go_cut [8] (λv wx=>∃a n c,v=.slice a n c/\bn wx M.heap.size (.slice a n c) (s.h.bytes.take N)/\M.grownBy wx none);case first=>
    go_wp2_with (at_builtin;refine AD (by rfl) _ (by rfl) _ _ _ (s.h.bytes.take N) (by rfl) (Z b8) (by have:=Z ca;omega) ?_;intro A c4 F l Y;replace l:=J l);all_goals
     go_meet
     refine⟨A,_,c4,rfl,?_,Y⟩
     have:=Z l
     simpa [ct]using this
   case rest=>
   rename World=>F
   obtain⟨A,O,P,rfl,l,Y⟩:=hcut;have Q:=aq z Y;replace l:=J l;go_wp2_with (first|(go_at_call 221;apply(Z a1 F Q).mono;rintro e p⟨rfl,a5,R,g5,f,S,db⟩));have ch:wc.grownBy p (some sb):=aq (dd Q _) g5;obtain⟨a9,G⟩:=exq ((cs.setIfInBounds d (.int .u64 (s.h.fr+N))).setIfInBounds (d+1) (.slice a5 (s.h.bytes.drop N).length R));rw[<-G]at f;have hz:=gZ H.c8;have T:∀i,i≠d->i≠d+1->a9[i]?=cs[i]? :=λi K L=>by
    rw[G,aN_,aN_]
   have e0:p.cell? ⟨sb,d,none⟩=some (.int .u64 (s.h.fr+N)):=by
    rw[ba f,G,aN_];exact cG
   have e4:p.cell? ⟨sb,d+4,none⟩=some (.int .u64 s.last):=by rw[ba f,T _ (by omega) (by omega)];exact H.c4
   have e6:p.cell? ⟨sb,d+6,none⟩=some (.bool s.ended):=by rw[ba f,T _ (by omega) (by omega)];exact H.c6
   have e8:p.cell? ⟨sb,d+8,none⟩=some (.bool s.over):=by rw[ba f,T _ (by omega) (by omega)];exact H.c8
   have f8:p.frozen? ⟨sb,d+8,none⟩=false:=fZ_ f;have bb:Hid (∀b,a9.setIfInBounds (d+8) (.bool b)=vcs cs d (s.h.fr+N) (.slice a5 (s.h.bytes.drop N).length R) b):=J (λb=>by rw[G];rfl);clear c3 c4 c5 c6 c7 c8 c1 d1 T;replace⟨f,S⟩:=bA f S;clear G a1 a0;obtain⟨ov,m⟩:=exq ((s.ended&&(s.h.fr+N==s.last)));rw[<-m]at hF;replace m:=J m;go_upto_region 6 with fail;go_cut [] (λwx=>wx.heap[sb]?=some (.cells (vcs cs d (s.h.fr+N) (.slice a5 (s.h.bytes.drop N).length R) ov) t (0,0))/\p.grownBy wx (some sb));case first=>
    generalize cj:s.ended=ended at *;generalize cp:s.last=last at *;generalize cv:s.h.fr+(N:Int)=fn at *;clear cj cp cv;cases ended
    ·go_big_region;go_wp2;go_meet;refine⟨?_,?_⟩
     rw[Z m,<-Z bb];exact heap_set (Z f) _;exact aV (aK (aB _ _) _ _ (.inr rfl))
    go_region;go_wp2;go_meet;refine⟨?_,?_⟩
    rw[Z m,<-Z bb];exact heap_set (Z f) _;exact aV (aK (aB _ _) _ _ (.inr rfl))
   case rest=>
    rename World=>w6
    obtain⟨U,g6⟩:=hcut;have k8:w6.cell? ⟨sb,d+8,none⟩=some (.bool ov):=by
     rw[ba U];unfold vcs;exact cG (by simp;omega)
    have du:=aq ch g6;have dx:wc.heap.size<=F.heap.size:=Q.size;have cw:wc.heap.size<=M.heap.size:=z.size;have cx:Hid (bn w6 F.heap.size (.slice a5 (s.h.bytes.drop N).length R) (s.h.bytes.drop N)):=J ((Z S).gb g6 (.inr (λe=>by have:=((Z S).lt _ e).1;omega)));have cy:(Value.slice A O P).ownBlock≠some sb:=λe=>by have:=((Z l).lt _ e).1;omega
    have bj:=J (λr hr=>Z hF w6 F A O P _ r Q ((Z l).low cw) (aq g5 g6) cy U (Z cx) hr);replace U:=J U;clear hF;cases ov
    ·go_wp2_with fail;exact cF (v:=.tuple #[.slice A O P,.int .i64 0,.int .u64 0]) (by simp[results,results167,go_sem]) rfl (Z bj 0 rfl)
    go_wp2_with fail;exact cF (v:=.tuple #[.slice A O P,.int .i64 1,.int .u64 0]) (by simp[results,results167,go_sem]) rfl (Z bj 1 rfl)
def kV(h:W.cell? A=some y)(a:A.block≠n):(W.setCell ⟨n,o,none⟩ x).cell? A=some y:=
 (jX (w:=W) (dF _ _ _ _ a)).trans h
def HJ{d e f:Nat}{g p q u1 u2 u3 u4:Value}(h:W.cell? ⟨m,i,none⟩=some u1/\W.cell? ⟨m,j,none⟩=some u2/\W.cell? ⟨o,k,none⟩=some u3/\W.cell? ⟨o,l,none⟩=some u4)(a:m≠n)(c:o≠n):
 ((((W.setCell ⟨n,b,none⟩ z).setCell ⟨n,d,none⟩ g).setCell ⟨n,e,none⟩ p).setCell ⟨n,f,none⟩ q).cell? ⟨m,i,none⟩=some u1/\((((W.setCell ⟨n,b,none⟩ z).setCell ⟨n,d,none⟩ g).setCell ⟨n,e,none⟩ p).setCell ⟨n,f,none⟩ q).cell? ⟨m,j,none⟩=some u2/\((((W.setCell ⟨n,b,none⟩ z).setCell ⟨n,d,none⟩ g).setCell ⟨n,e,none⟩ p).setCell ⟨n,f,none⟩ q).cell? ⟨o,k,none⟩=some u3/\((((W.setCell ⟨n,b,none⟩ z).setCell ⟨n,d,none⟩ g).setCell ⟨n,e,none⟩ p).setCell ⟨n,f,none⟩ q).cell? ⟨o,l,none⟩=some u4:=
 ⟨kV (kV (kV (kV h.1 a) a) a) a,kV (kV (kV (kV h.2.1 a) a) a) a,kV (kV (kV (kV h.2.2.1 c) c) c) c,kV (kV (kV (kV h.2.2.2 c) c) c) c⟩
def HK(w:World)(sb f:Nat)(o:Ot)(T:j9 w sb f o)(H:o.sG=true)(n:Value)(c d:Bool)(p:Int):
 Calls prog 242 #[.pointer (some ⟨sb,f,none⟩),.agg #[n,.bool c,.bool d],.int .i64 p] w λr h=>r=.returned (.tuple #[.agg #[.int .u64 0,.int .u64 0,.bool c,.bool d],.bool (d&&decide (2+cH o.code+cH o.ay<=p))])/\w.grownBy h none:=by
 have y:=J (λW(g:w.grownBy W none)=>yq W sb f o (T.an g));rw[H]at y;have A:=J (λW=>HH o.ay o.code W);obtain⟨c3,c4,c5,c6,c7,c8,-,-⟩:=T;have I:Hid (sb<w.heap.size):=J (eE w _ c3);clear c4 c5 c6 c7;obtain⟨z,B⟩:=exq (2+cH o.code+cH o.ay);rw[<-B]at A⊢;clear B;generalize o.ay=ay at *;generalize o.code=code at *;obtain⟨i,j⟩:=exq (w.alloc (.cells #[n,.bool c,.bool d] 332));have K:w.grownBy i none:=by rw[j];exact aH _ _ _
 have q:i.heap[w.heap.size]?=some (.cells #[n,.bool c,.bool d] 332 (0,0)):=by rw[j];exact aO _ _
 have s:i.heap.size=w.heap.size+1:=by rw[j];simp
 obtain⟨C,k⟩:=exq (i.alloc (.cells #[.int .u64 0,.int .u64 0,.bool false,.bool false] 377));have D:i.grownBy C none:=by rw[k];exact aH _ _ _
 have t:C.heap[w.heap.size+1]?=some (.cells #[.int .u64 0,.int .u64 0,.bool false,.bool false] 377 (0,0)):=by rw[k,<-s];exact aO _ _
 have u:=bB q D;have E:=aq K D;replace⟨q,t,u,s⟩:=eV q t u s;go_enter func242,ntmps242;go_wp2_with fail;rw[<-j,<-k];clear j k;apply(Z y _ E).mono;rintro e a⟨rfl,x⟩;have l:=aq E x;have b:=bB (Z t) x;have m:=bB (Z u) x;have d3:=gC_ l c3;have d8:=gC_ l c8;have L:a.cell? ⟨w.heap.size,1,none⟩=some (.bool c):=by simp[World.cell?,m]
 have F:a.cell? ⟨w.heap.size,2,none⟩=some (.bool d):=by simp[World.cell?,m]
 have O:a.cell? ⟨w.heap.size,1+1,none⟩=some (.bool d):=F;have P:a.cell? ⟨w.heap.size+1,0,none⟩=some (.int .u64 0):=by simp[World.cell?,b]
 have m1:a.cell? ⟨w.heap.size+1,1,none⟩=some (.int .u64 0):=by simp[World.cell?,b]
 have Q:a.cell? ⟨w.heap.size+1,2,none⟩=some (.bool false):=by simp[World.cell?,b]
 have R:a.cell? ⟨w.heap.size+1,3,none⟩=some (.bool false):=by simp[World.cell?,b]
 have S:a.frozen? ⟨w.heap.size+1,0,none⟩=false:=fZ_ b;have U:a.frozen? ⟨w.heap.size+1,1,none⟩=false:=fZ_ b;have z2:a.frozen? ⟨w.heap.size+1,2,none⟩=false:=fZ_ b;have V:a.frozen? ⟨w.heap.size+1,3,none⟩=false:=fZ_ b;clear c3 c8;replace⟨b,m⟩:=bA b m;go_wp2_with fail;cases d
 ·go_big_region;go_wp2_with fail;refine cF (v:=.tuple #[.agg #[.int .u64 0,.int .u64 0,.bool c,.bool false],.bool false]) ?_ rfl ⟨rfl,aV (aK (aK (aK (aK (l) _ _ (.inl (bZ _))) _ _ (.inl (bZ _))) _ _ (.inl (bZ _))) _ _ (.inl (bZ _)))⟩;simp[results,results242,go_sem, *]
 have M:w.grownBy a.drew none:=aV l;have X:sb<w.heap.size:=Z I;have N:w.heap.size≠w.heap.size+1:=by omega
 have n2:sb≠w.heap.size+1:=by omega
 have G:a.drew.cell? ⟨w.heap.size,1,none⟩=some (.bool c)/\a.drew.cell? ⟨w.heap.size,2,none⟩=some (.bool true)/\a.drew.cell? ⟨sb,f+3,none⟩=some (.int .u64 ay)/\a.drew.cell? ⟨sb,f+8,none⟩=some (.int .u64 code):=⟨L,F,d3,d8⟩
 go_region_held3 (λh=>h.cell? ⟨w.heap.size,1,none⟩=some (.bool c)/\h.cell? ⟨w.heap.size,2,none⟩=some (.bool true)/\h.cell? ⟨sb,f+3,none⟩=some (.int .u64 ay)/\h.cell? ⟨sb,f+8,none⟩=some (.int .u64 code))
  (first|with_reducible exact G|exact HJ G N n2)
  (first|(go_at_call 283;apply(Z A _).mono;rintro e Y⟨rfl,rfl⟩))
 all_goals go_wp2_with fail
 all_goals
  refine cF (v:=.tuple #[.agg #[.int .u64 0,.int .u64 0,.bool c,.bool true],.bool (decide (z<=p))]) ?_ rfl ⟨by simp,aK (aK (aK (aK (M) _ _ (.inl (bZ _))) _ _ (.inl (bZ _))) _ _ (.inl (bZ _))) _ _ (.inl (bZ _))⟩
  simp[results,results242,go_sem, *]
def yA(a:Option Addr)(b o n cap l:Nat)(la lb:Array Value)(w:World)(p:Nat->Prop)(y z A B:Nat->Value)(Inv:Nat->World->Prop)(C:0<n->a=some ⟨b,o,none⟩)(D:n<=cap/\cap<=maxLen)
 (M:∀args w,(callFunc l args).run prog w=.ok (.enter l args) w) (h0:Inv 0 w)
 (r:∀(W:World)(h:Nat),Inv h W->h<n->W.cell? ⟨b,o+h*4,none⟩=some (y h)/\W.cell? ⟨b,o+h*4+1,none⟩=some (z h)/\W.cell? ⟨b,o+h*4+2,none⟩=some (A h)/\W.cell? ⟨b,o+h*4+3,none⟩=some (B h))
 (s:∀(W:World)(h:Nat),Inv h W->h<n->Calls prog l (la++ #[.agg #[y h,z h,A h,B h]]++lb) W (λe E=>dP (p h) e/\Inv (h+1) E)):
 Calls prog 235 #[.slice a n cap,.func (.func l) la lb] w λe c=>(∃k:Nat,k<n/\e=.returned (.int .i64 k)/\p k/\(∀i,i<k->¬p i)/\Inv (k+1) c)\/(e=.returned (.int .i64 (-1))/\(∀i,i<n->¬p i)/\Inv n c):=by
 obtain⟨R,d⟩:∃R:Ending->World->Prop,R=λe c=>(∃k:Nat,k<n/\e=.returned (.int .i64 k)/\p k/\(∀i,i<k->¬p i)/\Inv (k+1) c)\/(e=.returned (.int .i64 (-1))/\(∀i,i<n->¬p i)/\Inv n c):=⟨_,rfl⟩
 rw[<-d];obtain⟨N,F⟩:=D;unfold maxLen at F;replace⟨d,s,r,h0⟩:=eV d s r h0;go_enter func235,ntmps235;go_wp2;go_loopw [8] (λu wr=>∃j:Nat,j<=n/\u=.int .i64 j/\(∀i,i<j->¬p i)/\Inv j wr) (λu _=>n-(intOf u).toNat);case atStart=>exact⟨0,by omega,rfl,λi hi=>by omega,Z h0⟩
 case round=>
  obtain⟨j,O,rfl,f,g⟩:=hrel;replace f:=J f;by_cases v:j<n
  ·have d1:decide ((j:Int)<n)=true:=dT_;obtain⟨P,Q,S,T⟩:=Z r wr j g v;have hF:=J (Z s wr j g v);have G:=C (by omega);subst G;have U:(j:Int)<n:=by omega
   replace g:=J g;clear C;go_wp2_with fail;apply(Z hF).mono;rintro e H⟨⟨t,rfl,m⟩,q⟩;replace q:=J q;cases t
   ·have I:Hid (¬p j):=J (λhp=>by cases m.2 hp);clear m;go_wp2;go_roundw;case rel=>
     refine⟨j+1,by omega,by simp,λi K=>?_,Z q⟩
     obtain h|rfl:=qm.1 K
     exact Z f i h;exact Z I
    case measure=>simp[intOf];omega
   have L:Hid (p j):=J (m.1 rfl);clear m;have x:Hid (R (.returned (.int .i64 j)) H):=J (by rw[Z d];exact .inl ⟨j,v,rfl,Z L,Z f,Z q⟩);go_wp2_with fail;exact Z x
  have d1:decide ((j:Int)<n)=false:=dF_;obtain rfl:j=n:=by omega
  have x:Hid (R (.returned (.int .i64 (-1))) wr):=J (by rw[Z d];exact .inr ⟨rfl,Z f,g⟩);go_wp2_with fail;exact Z x
def Bp(a:Option Addr)(b o n cap c:Nat)(la lb:Array Value)(w:World)(p:Nat->Prop)(j l m q:Nat->Value)(v:0<n->a=some ⟨b,o,none⟩)(x:n<=cap/\cap<=maxLen)
 (y:∀args w,(callFunc c args).run prog w=.ok (.enter c args) w)
 (t:∀(W:World)(h:Nat),w.grownBy W none->h<n->W.cell? ⟨b,o+h*4,none⟩=some (j h)/\W.cell? ⟨b,o+h*4+1,none⟩=some (l h)/\W.cell? ⟨b,o+h*4+2,none⟩=some (m h)/\W.cell? ⟨b,o+h*4+3,none⟩=some (q h))
 (u:∀(W:World)(h:Nat),w.grownBy W none->h<n->Calls prog c (la++ #[.agg #[j h,l h,m h,q h]]++lb) W (λe z=>dP (p h) e/\W.grownBy z none)):
 Calls prog 197 #[.slice a n cap,.func (.func c) la lb] w λe A=>dP (∃i,i<n/\p i) e/\w.grownBy A none:=by
 have B:=J (yA a b o n cap c la lb w p j l m q (λ_ W=>w.grownBy W none) v x y (aB _ _) t (λW h g C=>(u W h g C).mono (λ_ _ f=>⟨f.1,aq g f.2⟩)));obtain⟨R,d⟩:∃R:Prop,R=(∃i,i<n/\p i):=⟨_,rfl⟩
 rw[<-d];replace d:=J d;clear u t;go_enter func197,ntmps197;go_wp2_with fail;apply(Z B).mono;rintro e F(⟨k,D,rfl,hp,-,r⟩|⟨rfl,hp,r⟩)
 ·have hd:decide (0<=(k:Int))=true:=dT_;have s:Hid (dP R (.returned (.bool true))):=J (sd (by rw[Z d];exact⟨k,D,hp⟩));go_wp2;go_ret;exact⟨Z s,r⟩
 have s:Hid (dP R (.returned (.bool false))):=J (lU (by rw[Z d];rintro⟨i,E,f⟩;exact hp i E f));replace hp:=J hp;go_wp2;go_ret;exact⟨Z s,r⟩
def HM(a:Option Addr)(b o n cap l:Nat)(la lb:Array Value)(w:World)(p:Nat->Prop)(y z A B:Nat->Value)(Inv:Nat->World->Prop)(C:0<n->a=some ⟨b,o,none⟩)(D:n<=cap/\cap<=maxLen)
 (M:∀args w,(callFunc l args).run prog w=.ok (.enter l args) w) (h0:Inv 0 w)
 (r:∀(W:World)(h:Nat),Inv h W->h<n->W.cell? ⟨b,o+h*4,none⟩=some (y h)/\W.cell? ⟨b,o+h*4+1,none⟩=some (z h)/\W.cell? ⟨b,o+h*4+2,none⟩=some (A h)/\W.cell? ⟨b,o+h*4+3,none⟩=some (B h))
 (s:∀(W:World)(h:Nat),Inv h W->h<n->Calls prog l (la++ #[.agg #[y h,z h,A h,B h]]++lb) W (λe E=>dP (p h) e/\Inv (h+1) E)):
 Calls prog 303 #[.slice a n cap,.func (.func l) la lb] w λe c=>(∃k:Nat,k<n/\e=.returned (.int .i64 k)/\p k/\(∀i,i<k->¬p i)/\Inv (k+1) c)\/(e=.returned (.int .i64 (-1))/\(∀i,i<n->¬p i)/\Inv n c):=by
 obtain⟨R,d⟩:∃R:Ending->World->Prop,R=λe c=>(∃k:Nat,k<n/\e=.returned (.int .i64 k)/\p k/\(∀i,i<k->¬p i)/\Inv (k+1) c)\/(e=.returned (.int .i64 (-1))/\(∀i,i<n->¬p i)/\Inv n c):=⟨_,rfl⟩
 rw[<-d];obtain⟨N,F⟩:=D;unfold maxLen at F;replace⟨d,s,r,h0⟩:=eV d s r h0;go_enter func303,ntmps303;go_wp2;go_loopw [8] (λu wr=>∃j:Nat,j<=n/\u=.int .i64 j/\(∀i,i<j->¬p i)/\Inv j wr) (λu _=>n-(intOf u).toNat);case atStart=>exact⟨0,by omega,rfl,λi hi=>by omega,Z h0⟩
 case round=>
  obtain⟨j,O,rfl,f,g⟩:=hrel;replace f:=J f;by_cases v:j<n
  ·have d1:decide ((j:Int)<n)=true:=dT_;obtain⟨P,Q,S,T⟩:=Z r wr j g v;have hF:=J (Z s wr j g v);have G:=C (by omega);subst G;have U:(j:Int)<n:=by omega
   replace g:=J g;clear C;go_wp2_with fail;apply(Z hF).mono;rintro e H⟨⟨t,rfl,m⟩,q⟩;replace q:=J q;cases t
   ·have I:Hid (¬p j):=J (λhp=>by cases m.2 hp);clear m;go_wp2;go_roundw;case rel=>
     refine⟨j+1,by omega,by simp,λi K=>?_,Z q⟩
     obtain h|rfl:=qm.1 K
     exact Z f i h;exact Z I
    case measure=>simp[intOf];omega
   have L:Hid (p j):=J (m.1 rfl);clear m;have x:Hid (R (.returned (.int .i64 j)) H):=J (by rw[Z d];exact .inl ⟨j,v,rfl,Z L,Z f,Z q⟩);go_wp2_with fail;exact Z x
  have d1:decide ((j:Int)<n)=false:=dF_;obtain rfl:j=n:=by omega
  have x:Hid (R (.returned (.int .i64 (-1))) wr):=J (by rw[Z d];exact .inr ⟨rfl,Z f,g⟩);go_wp2_with fail;exact Z x
def HP(a:Option Addr)(b o n cap c:Nat)(la lb:Array Value)(w:World)(p:Nat->Prop)(j l m q:Nat->Value)(v:0<n->a=some ⟨b,o,none⟩)(x:n<=cap/\cap<=maxLen)
 (y:∀args w,(callFunc c args).run prog w=.ok (.enter c args) w)
 (t:∀(W:World)(h:Nat),w.grownBy W none->h<n->W.cell? ⟨b,o+h*4,none⟩=some (j h)/\W.cell? ⟨b,o+h*4+1,none⟩=some (l h)/\W.cell? ⟨b,o+h*4+2,none⟩=some (m h)/\W.cell? ⟨b,o+h*4+3,none⟩=some (q h))
 (u:∀(W:World)(h:Nat),w.grownBy W none->h<n->Calls prog c (la++ #[.agg #[j h,l h,m h,q h]]++lb) W (λe z=>dP (p h) e/\W.grownBy z none)):
 Calls prog 292 #[.slice a n cap,.func (.func c) la lb] w λe A=>dP (∃i,i<n/\p i) e/\w.grownBy A none:=by
 have B:=J (HM a b o n cap c la lb w p j l m q (λ_ W=>w.grownBy W none) v x y (aB _ _) t (λW h g C=>(u W h g C).mono (λ_ _ f=>⟨f.1,aq g f.2⟩)));obtain⟨R,d⟩:∃R:Prop,R=(∃i,i<n/\p i):=⟨_,rfl⟩
 rw[<-d];replace d:=J d;clear u t;go_enter func292,ntmps292;go_wp2_with fail;apply(Z B).mono;rintro e F(⟨k,D,rfl,hp,-,r⟩|⟨rfl,hp,r⟩)
 ·have hd:decide (0<=(k:Int))=true:=dT_;have s:Hid (dP R (.returned (.bool true))):=J (sd (by rw[Z d];exact⟨k,D,hp⟩));go_wp2;go_ret;exact⟨Z s,r⟩
 have s:Hid (dP R (.returned (.bool false))):=J (lU (by rw[Z d];rintro⟨i,E,f⟩;exact hp i E f));replace hp:=J hp;go_wp2;go_ret;exact⟨Z s,r⟩
def HQ(a:Option Addr)(b o n cap l:Nat)(la lb:Array Value)(w:World)(p:Nat->Prop)(y z A B C D E:Nat->Value)(Inv:Nat->World->Prop)(F:0<n->a=some ⟨b,o,none⟩)(G:n<=cap/\cap<=maxLen)
 (P:∀args w,(callFunc l args).run prog w=.ok (.enter l args) w) (h0:Inv 0 w)
 (r:∀(W:World)(h:Nat),Inv h W->h<n->W.cell? ⟨b,o+h*7,none⟩=some (y h)/\W.cell? ⟨b,o+h*7+1,none⟩=some (z h)/\W.cell? ⟨b,o+h*7+2,none⟩=some (A h)/\W.cell? ⟨b,o+h*7+3,none⟩=some (B h)/\W.cell? ⟨b,o+h*7+4,none⟩=some (C h)/\W.cell? ⟨b,o+h*7+5,none⟩=some (D h)/\W.cell? ⟨b,o+h*7+6,none⟩=some (E h))
 (s:∀(W:World)(h:Nat),Inv h W->h<n->Calls prog l (la++ #[.agg #[y h,z h,A h,B h,C h,D h,E h]]++lb) W (λe H=>dP (p h) e/\Inv (h+1) H)):
 Calls prog 213 #[.slice a n cap,.func (.func l) la lb] w λe c=>(∃k:Nat,k<n/\e=.returned (.int .i64 k)/\p k/\(∀i,i<k->¬p i)/\Inv (k+1) c)\/(e=.returned (.int .i64 (-1))/\(∀i,i<n->¬p i)/\Inv n c):=by
 obtain⟨R,d⟩:∃R:Ending->World->Prop,R=λe c=>(∃k:Nat,k<n/\e=.returned (.int .i64 k)/\p k/\(∀i,i<k->¬p i)/\Inv (k+1) c)\/(e=.returned (.int .i64 (-1))/\(∀i,i<n->¬p i)/\Inv n c):=⟨_,rfl⟩
 rw[<-d];obtain⟨Q,I⟩:=G;unfold maxLen at I;replace⟨d,s,r,h0⟩:=eV d s r h0;go_enter func213,ntmps213;go_wp2;go_loopw [8] (λu wr=>∃j:Nat,j<=n/\u=.int .i64 j/\(∀i,i<j->¬p i)/\Inv j wr) (λu _=>n-(intOf u).toNat);case atStart=>exact⟨0,by omega,rfl,λi hi=>by omega,Z h0⟩
 case round=>
  obtain⟨j,S,rfl,f,g⟩:=hrel;replace f:=J f;by_cases v:j<n
  ·have d1:decide ((j:Int)<n)=true:=dT_;obtain⟨T,U,V,X,Y,y5,y6⟩:=Z r wr j g v;have hF:=J (Z s wr j g v);have K:=F (by omega);subst K;have i1:(j:Int)<n:=by omega
   replace g:=J g;clear F;go_wp2_with fail;apply(Z hF).mono;rintro e L⟨⟨t,rfl,m⟩,q⟩;replace q:=J q;cases t
   ·have M:Hid (¬p j):=J (λhp=>by cases m.2 hp);clear m;go_wp2;go_roundw;case rel=>
     refine⟨j+1,by omega,by simp,λi N=>?_,Z q⟩
     obtain h|rfl:=qm.1 N
     exact Z f i h;exact Z M
    case measure=>simp[intOf];omega
   have O:Hid (p j):=J (m.1 rfl);clear m;have x:Hid (R (.returned (.int .i64 j)) L):=J (by rw[Z d];exact .inl ⟨j,v,rfl,Z O,Z f,Z q⟩);go_wp2_with fail;exact Z x
  have d1:decide ((j:Int)<n)=false:=dF_;obtain rfl:j=n:=by omega
  have x:Hid (R (.returned (.int .i64 (-1))) wr):=J (by rw[Z d];exact .inr ⟨rfl,Z f,g⟩);go_wp2_with fail;exact Z x
def HU(a:Option Addr)(b o n cap c:Nat)(la lb:Array Value)(w:World)(p:Nat->Prop)(j l m q r s t:Nat->Value)(z:0<n->a=some ⟨b,o,none⟩)(A:n<=cap/\cap<=maxLen)
 (B:∀args w,(callFunc c args).run prog w=.ok (.enter c args) w)
 (x:∀(W:World)(h:Nat),w.grownBy W none->h<n->W.cell? ⟨b,o+h*7,none⟩=some (j h)/\W.cell? ⟨b,o+h*7+1,none⟩=some (l h)/\W.cell? ⟨b,o+h*7+2,none⟩=some (m h)/\W.cell? ⟨b,o+h*7+3,none⟩=some (q h)/\W.cell? ⟨b,o+h*7+4,none⟩=some (r h)/\W.cell? ⟨b,o+h*7+5,none⟩=some (s h)/\W.cell? ⟨b,o+h*7+6,none⟩=some (t h))
 (y:∀(W:World)(h:Nat),w.grownBy W none->h<n->Calls prog c (la++ #[.agg #[j h,l h,m h,q h,r h,s h,t h]]++lb) W (λe C=>dP (p h) e/\W.grownBy C none)):
 Calls prog 162 #[.slice a n cap,.func (.func c) la lb] w λe D=>dP (∃i,i<n/\p i) e/\w.grownBy D none:=by
 have E:=J (HQ a b o n cap c la lb w p j l m q r s t (λ_ W=>w.grownBy W none) z A B (aB _ _) x (λW h g F=>(y W h g F).mono (λ_ _ f=>⟨f.1,aq g f.2⟩)));obtain⟨R,d⟩:∃R:Prop,R=(∃i,i<n/\p i):=⟨_,rfl⟩
 rw[<-d];replace d:=J d;clear y x;go_enter func162,ntmps162;go_wp2_with fail;apply(Z E).mono;rintro e I(⟨k,G,rfl,hp,-,u⟩|⟨rfl,hp,u⟩)
 ·have hd:decide (0<=(k:Int))=true:=dT_;have v:Hid (dP R (.returned (.bool true))):=J (sd (by rw[Z d];exact⟨k,G,hp⟩));go_wp2;go_ret;exact⟨Z v,u⟩
 have v:Hid (dP R (.returned (.bool false))):=J (lU (by rw[Z d];rintro⟨i,H,f⟩;exact hp i H f));replace hp:=J hp;go_wp2;go_ret;exact⟨Z v,u⟩
def HX(a:Option Addr)(b o n cap l:Nat)(la lb:Array Value)(w:World)(p:Nat->Prop)(y z:Nat->Value)(Inv:Nat->World->Prop)(A:0<n->a=some ⟨b,o,none⟩)(B:n<=cap/\cap<=maxLen)
 (K:∀args w,(callFunc l args).run prog w=.ok (.enter l args) w) (h0:Inv 0 w)
 (r:∀(W:World)(h:Nat),Inv h W->h<n->W.cell? ⟨b,o+h*2,none⟩=some (y h)/\W.cell? ⟨b,o+h*2+1,none⟩=some (z h))
 (s:∀(W:World)(h:Nat),Inv h W->h<n->Calls prog l (la++ #[.agg #[y h,z h]]++lb) W (λe C=>dP (p h) e/\Inv (h+1) C)):
 Calls prog 305 #[.slice a n cap,.func (.func l) la lb] w λe c=>(∃k:Nat,k<n/\e=.returned (.int .i64 k)/\p k/\(∀i,i<k->¬p i)/\Inv (k+1) c)\/(e=.returned (.int .i64 (-1))/\(∀i,i<n->¬p i)/\Inv n c):=by
 obtain⟨R,d⟩:∃R:Ending->World->Prop,R=λe c=>(∃k:Nat,k<n/\e=.returned (.int .i64 k)/\p k/\(∀i,i<k->¬p i)/\Inv (k+1) c)\/(e=.returned (.int .i64 (-1))/\(∀i,i<n->¬p i)/\Inv n c):=⟨_,rfl⟩
 rw[<-d];obtain⟨L,D⟩:=B;unfold maxLen at D;replace⟨d,s,r,h0⟩:=eV d s r h0;go_enter func305,ntmps305;go_wp2;go_loopw [8] (λu wr=>∃j:Nat,j<=n/\u=.int .i64 j/\(∀i,i<j->¬p i)/\Inv j wr) (λu _=>n-(intOf u).toNat);case atStart=>exact⟨0,by omega,rfl,λi hi=>by omega,Z h0⟩
 case round=>
  obtain⟨j,M,rfl,f,g⟩:=hrel;replace f:=J f;by_cases v:j<n
  ·have d1:decide ((j:Int)<n)=true:=dT_;obtain⟨N,O⟩:=Z r wr j g v;have hF:=J (Z s wr j g v);have E:=A (by omega);subst E;have P:(j:Int)<n:=by omega
   replace g:=J g;clear A;go_wp2_with fail;apply(Z hF).mono;rintro e F⟨⟨t,rfl,m⟩,q⟩;replace q:=J q;cases t
   ·have G:Hid (¬p j):=J (λhp=>by cases m.2 hp);clear m;go_wp2;go_roundw;case rel=>
     refine⟨j+1,by omega,by simp,λi H=>?_,Z q⟩
     obtain h|rfl:=qm.1 H
     exact Z f i h;exact Z G
    case measure=>simp[intOf];omega
   have I:Hid (p j):=J (m.1 rfl);clear m;have x:Hid (R (.returned (.int .i64 j)) F):=J (by rw[Z d];exact .inl ⟨j,v,rfl,Z I,Z f,Z q⟩);go_wp2_with fail;exact Z x
  have d1:decide ((j:Int)<n)=false:=dF_;obtain rfl:j=n:=by omega
  have x:Hid (R (.returned (.int .i64 (-1))) wr):=J (by rw[Z d];exact .inr ⟨rfl,Z f,g⟩);go_wp2_with fail;exact Z x
def HY(a:Option Addr)(b o n cap c:Nat)(la lb:Array Value)(w:World)(p:Nat->Prop)(j l:Nat->Value)(t:0<n->a=some ⟨b,o,none⟩)(u:n<=cap/\cap<=maxLen)
 (v:∀args w,(callFunc c args).run prog w=.ok (.enter c args) w)
 (r:∀(W:World)(h:Nat),w.grownBy W none->h<n->W.cell? ⟨b,o+h*2,none⟩=some (j h)/\W.cell? ⟨b,o+h*2+1,none⟩=some (l h))
 (s:∀(W:World)(h:Nat),w.grownBy W none->h<n->Calls prog c (la++ #[.agg #[j h,l h]]++lb) W (λe x=>dP (p h) e/\W.grownBy x none)):
 Calls prog 300 #[.slice a n cap,.func (.func c) la lb] w λe y=>dP (∃i,i<n/\p i) e/\w.grownBy y none:=by
 have z:=J (HX a b o n cap c la lb w p j l (λ_ W=>w.grownBy W none) t u v (aB _ _) r (λW h g A=>(s W h g A).mono (λ_ _ f=>⟨f.1,aq g f.2⟩)));obtain⟨R,d⟩:∃R:Prop,R=(∃i,i<n/\p i):=⟨_,rfl⟩
 rw[<-d];replace d:=J d;clear s r;go_enter func300,ntmps300;go_wp2_with fail;apply(Z z).mono;rintro e D(⟨k,B,rfl,hp,-,m⟩|⟨rfl,hp,m⟩)
 ·have hd:decide (0<=(k:Int))=true:=dT_;have q:Hid (dP R (.returned (.bool true))):=J (sd (by rw[Z d];exact⟨k,B,hp⟩));go_wp2;go_ret;exact⟨Z q,m⟩
 have q:Hid (dP R (.returned (.bool false))):=J (lU (by rw[Z d];rintro⟨i,C,f⟩;exact hp i C f));replace hp:=J hp;go_wp2;go_ret;exact⟨Z q,m⟩
structure Pc where
 x:Rg
 e:Bool
 g:Bool
structure Pk where
 num:Int
 tick:Int
 st:Int
 ps:List Pc
def ru(p:Pc):List Value:=[.int .u64 p.x.lo,.int .u64 p.x.hi,.bool p.e,.bool p.g]
def fV(l:List Pc):List Value:=l.flatMap ru
def fO(l:List Pc)(i:Nat):Pc:=l.getD i ⟨⟨0,0⟩,false,false⟩
def kC(w:World)(a:Option Addr)(n cap:Nat)(l:List Pc):Prop:=
 (∀p∈l,p.x.ok)/\n=l.length/\n<=cap/\cap<=maxLen/\(cap=0\/∃b o,a=some ⟨b,o,none⟩/\w.rangeAt b o (fV l))
def Bq{α:Type}(f:α->List Value)(a:∀x,(f x).length=4)(l:List α):(l.flatMap f).length=l.length*4:=by
 induction l with
 |nil=>rfl
 |cons x l b=>rw[rU,bH,b,a,dc];omega
def sk{α:Type}(f:α->List Value)(a:∀x,(f x).length=4)(l:List α)(i j:Nat)(x:α)(b:l[i]?=some x)(c:j<4):(l.flatMap f)[i*4+j]?=(f x)[j]? :=by
 induction l generalizing i with
 |nil=>cases b
 |cons y l d=>
  rw[rU];cases i with
  |zero=>
   cases b;rw[nV,dY,mm (by rw[a];exact c)]
  |succ i=>
   rw[mW (by rw[a];omega),a,show(i+1)*4+j-4=i*4+j by omega];exact d i (by simpa using b)
def HZ(l:List Pc):(fV l).length=l.length*4:=Bq ru (λ_=>rfl) l
def kC.dr{l:List Pc}(h:kC w a n k l)(e:l≠[]->∀x,a=some x->W.heap[x.block]?=w.heap[x.block]?):kC W a n k l:=by
 obtain⟨f,g,i,m,c⟩:=h;refine⟨f,g,i,m,?_⟩
 obtain c|⟨b,o,rfl,c⟩:=c
 exact .inl c;refine .inr ⟨b,o,rfl,?_⟩;by_cases hl:l=[]
 subst hl;intro j v d;simp[fV]at d;intro j v d;exact(jX (w:=w) (a:=⟨b,o+j,none⟩) (e hl ⟨b,o,none⟩ rfl)).trans (c j v d)
def vV{l:List Pc}(h:i<l.length):l[i]?=some (fO l i):=by simp[fO,List.getD,h]
def vW{l:List Pc}(h:i<l.length):fO l i∈l:=xP (vV h)
def kC.cell{l:List Pc}(h:kC w (some ⟨b,o,none⟩) n k l)(i:Nat)(hi:i<l.length):w.cell? ⟨b,o+i*4,none⟩=some (.int .u64 (fO l i).x.lo)/\w.cell? ⟨b,o+i*4+1,none⟩=some (.int .u64 (fO l i).x.hi)/\w.cell? ⟨b,o+i*4+2,none⟩=some (.bool (fO l i).e)/\w.cell? ⟨b,o+i*4+3,none⟩=some (.bool (fO l i).g):=by
 obtain⟨-,f,m,-,a|⟨p,q,e,a⟩⟩:=h;omega;cases e;have c:=λj d=>sk ru (λ_=>rfl) l i j _ (vV hi) d
 refine⟨a (i*4) _ (c 0 (by omega)),?_,?_,?_⟩
 rw[qx];exact a (i*4+1) _ (c 1 (by omega));rw[qx];exact a (i*4+2) _ (c 2 (by omega));rw[qx];exact a (i*4+3) _ (c 3 (by omega))
def kC.an{l:List Pc}(h:kC w a n k l)(g:w.grownBy W none):kC W a n k l:=by
 by_cases hl:l=[]
 exact h.dr (λh=>absurd hl h);refine h.dr (λ_ x b=>?_);subst b;obtain⟨-,i,j,-,c|⟨d,f,e,c⟩⟩:=id h;have:=oI.2 hl;omega;cases e;exact g.block _ (eE w ⟨d,f,none⟩ (h.cell 0 (oI.2 hl)).1) (by simp)
abbrev Kt:=Pk×Value
def kD(x:Kt):List Value:=[.int .u64 x.1.num,.int .i64 x.1.tick,.int .i64 x.1.st,x.2]
def iU(l:List Kt):List Value:=l.flatMap kD
def ry(l:List Kt):(iU l).length=l.length*4:=Bq kD (λ_=>rfl) l
def bK(l:List Kt)(i:Nat):Kt:=l.getD i (⟨0,0,0,[]⟩,.slice none 0 0)
def oa{l:List Kt}(h:i<l.length:=by omega):l[i]?=some (bK l i):=by simp[bK,List.getD,h]
def oR{l:List Kt}(h:i<l.length):bK l i∈l:=xP (oa h)
def nr(w:World)(S:Nat->Prop)(l:List Kt):Prop:=∀x∈l,∃a n c,x.2=.slice a n c/\kC w a n c x.1.ps/\∀y,a=some y->¬S y.block/\y.block<w.heap.size
def nr.av{l:List Kt}(h:nr w S l)(C:ao w W P)(f:∀k,k<w.heap.size->P k->S k):nr W S l:=λx g=>by
 obtain⟨a,n,c,e,hp,d⟩:=h x g;exact⟨a,n,c,e,hp.dr (λ_ y b=>C.block _ (d y b).2 (λi=>(d y b).1 (f _ (d y b).2 i))),λy b=>⟨(d y b).1,bX (d y b).2 C.size⟩⟩
def nr.sub{l m:List Kt}(h:nr w S l)(a:∀x∈m,x∈l):nr w S m:=λx b=>h x (a x b)
def cf(w:World)(a:Nat)(v:Value)(l:List Kt):Prop:=w.ownsRow a 325 4 v l.length (iU l)
def cf.lt{l:List Kt}(h:cf w n x l):∀k,x.ownBlock=some k->n<=k/\k<w.heap.size:=World.ownsRow.lt h
def cf.av{l:List Kt}(h:cf w n x l)(C:ao w W S)(c:∀k,x.ownBlock=some k->¬S k):cf W n x l:=by
 obtain⟨d,a⟩:=h;refine⟨d,?_⟩
 obtain a|⟨g,cap,cur,e1,e2,b,e⟩:=a
 exact .inl a;exact .inr ⟨g,cap,cur,e1,e2,(C.block g (aZ.1 b).1 (c g (by rw[e1];rfl))).trans b,e⟩
def cf.cell{l:List Kt}(h:cf w k (.slice a n m) l)(hl:0<n):∃g,a=some ⟨g,0,none⟩/\∀i,i<l.length->w.cell? ⟨g,0+i*4,none⟩=some (.int .u64 (bK l i).1.num)/\w.cell? ⟨g,0+i*4+1,none⟩=some (.int .i64 (bK l i).1.tick)/\w.cell? ⟨g,0+i*4+2,none⟩=some (.int .i64 (bK l i).1.st)/\w.cell? ⟨g,0+i*4+3,none⟩=some (bK l i).2:=by
 obtain⟨r,⟨c,h0⟩|⟨g,s,d,e1,e2,e,t,u,v,f⟩⟩:=h;cases c;omega;cases e1;refine⟨g,rfl,λi hi=>?_⟩
 have b:∀j,j<4->w.cell? ⟨g,i*4+j,none⟩=(kD (bK l i))[j]? :=λj p=>by
  rw[ba e,<-sk kD (λ_=>rfl) l i j _ (oa hi) p];have q:i*4+j<l.length*4:=by omega
  have:d.toList[i*4+j]?=(iU l)[i*4+j]? :=by rw[<-f,jI,aD q]
  rw[qq]at this;exact this
 refine⟨?_,?_,?_,?_⟩
 rw[dY];exact b 0 (by omega);rw[dY];exact b 1 (by omega);rw[dY];exact b 2 (by omega);rw[dY];exact b 3 (by omega)
def cf.gK{l:List Kt}(h:cf w n x l):∃a cap,x=.slice a l.length cap/\l.length<=cap/\cap<=maxLen:=by
 obtain⟨f,⟨b,h0⟩|⟨g,c,i,e1,e2,j,d,e,k,m⟩⟩:=h;exact⟨none,0,by rw[h0];exact b,by omega,by simp[maxLen]⟩
 exact⟨_,c,e1,d,e⟩
def Br(ty t e:TypeId)(z:Value)(k:Nat)(p:0<k)(q:prog.underlying t=some (.slice e))(r:∀w,(zeroValue e).run prog w=.ok z w)(b:z.cells.size=k)(s:∀v∈z.cells.toList,v.oneCell'=true)(g i m c:Nat)(a:Array Value)(te:TypeId)(x:w.heap[g]?=some (.cells a te (0,0)))(y:0<m)(A:i+m*k<=a.size):
 ∃d:List Value,d.length=m*k/\(Builtin.clear_ #[t] ty #[.slice (some ⟨g,i,none⟩) m c]).run prog w=.ok (.tuple #[]) (w.setRow g (a.toList.take i++d++a.toList.drop (i+m*k)).toArray):=by
 have hl:(Builtin.zeroCells z.cells m).toList.length=m*k:=by simp[Builtin.zeroCells,b]
 refine⟨(Builtin.zeroCells z.cells m).toList,hl,?_⟩
 have f:=run_storeCells_at prog g i te (Builtin.zeroCells z.cells m).toList 0 a w x (by rw[hl];omega) (by
  intro u h;simp only[Builtin.zeroCells,b,Array.toList_map,fg]at h;obtain⟨j,-,rfl⟩:=h;have l:j %k<z.cells.size:=by rw[b];exact Nat.mod_lt _ p
  refine s _ ?_;rw[getElem!_pos z.cells (j %k) l];exact Array.getElem_mem_toList l)
 obtain⟨n,rfl⟩:∃n,m=n+1:=⟨m-1,by omega⟩
 rw[hl]at f;simp[Builtin.clear_,vz q,r,f]
def H0(w:World):(zeroValue 325).run prog w=.ok (.agg #[.int .u64 0,.int .i64 0,.int .i64 0,.slice none 0 0]) w:=by kernel_rfl
structure jl(W:World)(g cap:Nat)(aw b:List Kt)(j:Nat)(a:Array Value):Prop where
 aP:W.heap[g]?=some (.cells a 325 (0,0))
 sz:a.size=cap*4
 le:b.length<=j
 ahead:∀x,x<b.length*4->a[x]?=(iU b)[x]?
 rest:∀x,j*4<=x->x<aw.length*4->a[x]?=(iU aw)[x]?
def jl.at{aw b:List Kt}(h:jl W n k aw b j c)(d:j<aw.length):W.cell? ⟨n,j*4,none⟩=some (.int .u64 (bK aw j).1.num)/\W.cell? ⟨n,j*4+1,none⟩=some (.int .i64 (bK aw j).1.tick)/\W.cell? ⟨n,j*4+2,none⟩=some (.int .i64 (bK aw j).1.st)/\W.cell? ⟨n,j*4+3,none⟩=some (bK aw j).2:=by
 have a:∀i,i<4->W.cell? ⟨n,j*4+i,none⟩=(kD (bK aw j))[i]? :=λi hi=>by
  rw[ba h.aP,h.rest _ (by omega) (by omega)];exact sk kD (λ_=>rfl) aw j i _ (oa d) hi
 exact⟨a 0 (by omega),a 1 (by omega),a 2 (by omega),a 3 (by omega)⟩
def kp(aw:List Kt)(q:Nat->Bool):Nat->List Kt
 |0=>[]
 |j+1=>if q j then kp aw q j else kp aw q j++[bK aw j]
def Bt(aw:List Kt)(q:Nat->Bool)(j:Nat)(b:j<=aw.length)(h:∀i,i<j->q i=false):kp aw q j=aw.take j:=by
 induction j with
 |zero=>simp[kp]
 |succ j a=>
  unfold kp;rw[h j (by omega),az (by simp),a (by omega) (λi hi=>h i (by omega)),qW,oa];rfl
def yB(aw:List Kt)(q:Nat->Bool)(Q:Kt->Bool)(h:∀i,i<aw.length->q i=Q (bK aw i))(j:Nat)(c:j<=aw.length):kp aw q j=(aw.take j).filter (λx=> !Q x):=by
 induction j with
 |zero=>simp[kp]
 |succ j a=>
  unfold kp;rw[h j (by omega),a (by omega),qW,oa,Option.toList_some,List.filter_append];cases b:Q (bK aw j)<;>simp[b]
def H5(l:List Kt)(k:Nat)(x:Nat)(b:x<k*4):(iU (l.take k))[x]?=(iU l)[x]? :=by
 by_cases hl:x<l.length*4;have e:x=x/4*4+x %4:=by omega
 have a:x/4<l.length:=by omega
 have c:x/4<(l.take k).length:=by rw[ct];omega
 rw[e];unfold iU;rw[sk kD (λ_=>rfl) l _ _ _ (oa a) (by omega),sk kD (λ_=>rfl) (l.take k) _ _ (bK l (x/4)) (by rw[jI,iP_];exact oa a) (by omega)];rw[nQ (l:=iU l) (by rw[ry];omega),nQ (l:=iU (l.take k)) (by rw[ry,ct];omega)]
def H7(l:List Kt)(x:Kt):iU (l++[x])=iU l++kD x:=by simp[iU]
def jl.skip{aw a:List Kt}(h:jl W n k aw a j c)(b:w.heap[n]?=W.heap[n]?):jl w n k aw a (j+1) c:=
 ⟨b.trans h.aP,h.sz,by have:=h.le;omega,h.ahead,λx e d=>h.rest x (by omega) d⟩
def jl.same{aw a:List Kt}(h:jl W n k aw a j c)(b:w.heap[n]?=W.heap[n]?):jl w n k aw a j c:=
 ⟨b.trans h.aP,h.sz,h.le,h.ahead,h.rest⟩
def jl.put{W':World}{aw a:List Kt}(h:jl W n k aw a j c)(i:a.length<j)(l:j<aw.length)(m:aw.length<=k)(x:Kt)
 (d:W'.heap[n]?=some (.cells ((((c.setIfInBounds (a.length*4) (.int .u64 x.1.num)).setIfInBounds (a.length*4+1) (.int .i64 x.1.tick)).setIfInBounds (a.length*4+2) (.int .i64 x.1.st)).setIfInBounds (a.length*4+3) x.2) 325 (0,0))):
 ∃e,jl W' n k aw (a++[x]) (j+1) e:=by
 have p:=h.sz;refine⟨_,d,by simp[h.sz],by simp;omega,λy f=>?_,λy q g=>?_⟩
 rw[bH,List.length_singleton]at f;rw[H7];by_cases b:y<a.length*4;rw[aN_,aN_,aN_,aN_,h.ahead y b,mm (by rw[ry];exact b)];rw[mW (by rw[ry];omega),ry];have:y=a.length*4\/y=a.length*4+1\/y=a.length*4+2\/y=a.length*4+3:=by omega
 obtain rfl|rfl|rfl|rfl:=this
 rw[aN_,aN_,aN_,cG,rX];rfl;rw[aN_,aN_,cG (by simp;omega),tr];rfl;rw[aN_,cG (by simp;omega),tr];rfl;rw[cG (by simp;omega),tr];rfl;rw[aN_,aN_,aN_,aN_,h.rest y (by omega) g]
def jl.own{aw a:List Kt}(h:jl W n k aw a j c)(d:i<=n)(b:a.length<=k/\k<=maxLen):cf W i (.slice (some ⟨n,0,none⟩) a.length k) a:=by
 refine⟨ry a,.inr ⟨n,k,c,rfl,d,h.aP,b.1,b.2,h.sz,?_⟩⟩
 apply List.ext_getElem?;intro x;rw[jI];split;rename_i e;rw[qq];exact h.ahead x e;rw[nQ (by rw[ry];omega)]
def l7{a:Value}(h:w.heap[b]?=some (.cells #[x,y,z,a] T (0,0))):w.cell? ⟨b,0,none⟩=some x/\w.cell? ⟨b,1,none⟩=some y/\w.cell? ⟨b,2,none⟩=some z/\w.cell? ⟨b,3,none⟩=some a:=by
 simp[World.cell?,h]
def Bu(h:w.heap[n]?=some (.cells c T (0,0)))(a b d e:Value):w.grownBy ((((w.setCell ⟨n,o,none⟩ a).setCell ⟨n,o+1,none⟩ b).setCell ⟨n,o+2,none⟩ d).setCell ⟨n,o+3,none⟩ e) (some n)/\((((w.setCell ⟨n,o,none⟩ a).setCell ⟨n,o+1,none⟩ b).setCell ⟨n,o+2,none⟩ d).setCell ⟨n,o+3,none⟩ e).heap[n]?=some (.cells ((((c.setIfInBounds o a).setIfInBounds (o+1) b).setIfInBounds (o+2) d).setIfInBounds (o+3) e) T (0,0)):=
 ⟨aK (aK (aK (aK (aB w (some n)) ⟨n,o,none⟩ a (.inr rfl)) ⟨n,o+1,none⟩ b (.inr rfl)) ⟨n,o+2,none⟩ d (.inr rfl)) ⟨n,o+3,none⟩ e (.inr rfl),heap_set (heap_set (heap_set (heap_set h a) b) d) e⟩
def kA(x:Kt):Array Value:= #[.int .u64 x.1.num,.int .i64 x.1.tick,.int .i64 x.1.st,x.2]
def yC(g n cap ax y sb:Nat)(lb:Array Value)(aw:List Kt)(w:World)(q:Nat->Bool)(Inv:Nat->World->Prop)(F:Array Value)
 (a8:ax<=g) (b:n=aw.length) (a9:n<=cap/\cap<=maxLen) (jk:∀x∈aw,∃a n c,x.2=.slice a n c) (h0:jl w g cap aw [] 0 F) (cB:sb<w.heap.size) (bb:sb≠g)
 (eg:∀args w,(callFunc y args).run prog w=.ok (.enter y args) w) (hI:Inv 0 w)
 (G:∀(W m:World)(h:Nat),Inv h W->W.grownBy m (some g)->Inv h m)
 (Q:∀(W:World)(h:Nat),Inv h W->h<n->Calls prog y (#[.agg (kA (bK aw h))]++lb) W (λe m=>e=.returned (.bool (q h))/\Inv (h+1) m/\W.grownBy m (some sb))):
 Calls prog 236 #[.slice (some ⟨g,0,none⟩) n cap,.func (.func y) #[] lb] w λe H=>e=.returned (.slice (some ⟨g,0,none⟩) (kp aw q n).length cap)/\cf H ax (.slice (some ⟨g,0,none⟩) (kp aw q n).length cap) (kp aw q n)/\Inv n H:=by
 obtain⟨R,I⟩:∃R:Ending->World->Prop,R=λe H=>e=.returned (.slice (some ⟨g,0,none⟩) (kp aw q n).length cap)/\cf H ax (.slice (some ⟨g,0,none⟩) (kp aw q n).length cap) (kp aw q n)/\Inv n H:=⟨_,rfl⟩
 rw[<-I];replace I:=J I;have b4:g<w.heap.size:=(aZ.1 h0.aP).1;have hX:=J (yA (some ⟨g,0,none⟩) g 0 n cap y #[] lb w (λh=>q h=true) (λh=>.int .u64 (bK aw h).1.num) (λh=>.int .i64 (bK aw h).1.tick) (λh=>.int .i64 (bK aw h).1.st) (λh=>(bK aw h).2) (λh W=>Inv h W/\jl W g cap aw [] 0 F/\w.heap.size<=W.heap.size) (λ_=>rfl) a9 eg ⟨hI,h0,aR _⟩
  (λW h z hh=>by
    have hm:=z.2.1;have K:∀i,i<4->W.cell? ⟨g,h*4+i,none⟩=(kD (bK aw h))[i]? :=λi hi=>by
     rw[ba hm.aP,hm.rest _ (by omega) (by omega)];exact sk kD (λ_=>rfl) aw h i _ (oa) hi
    refine⟨?_,?_,?_,?_⟩
    rw[dY];exact K 0 (by omega);rw[dY];exact K 1 (by omega);rw[dY];exact K 2 (by omega)
    ·rw[dY];exact K 3 (by omega))
  (λW h z hh=>(by rw[Array.empty_append];exact Q W h z.1 hh:Calls prog y (#[]++ #[.agg (kA (bK aw h))]++lb) W (λe m=>e=.returned (.bool (q h))/\Inv (h+1) m/\W.grownBy m (some sb))).mono (λe m ⟨he,hi,hg⟩=>⟨⟨q h,he,Iff.rfl⟩,hi,z.2.1.same (hg.block g (bX b4 z.2.2) (λe=>bb (aQ e).symm)),bD z.2.2 hg.size⟩)))
 replace⟨hI,h0,Q,G,b⟩:=eR hI h0 Q G b;obtain⟨cC,b5⟩:=a9;unfold maxLen at b5;go_enter func236,ntmps236;go_wp2_with fail;apply(Z hX).mono;rintro e w1(⟨k,hk,rfl,bj,L,t,p,br⟩|⟨rfl,L,t,p,br⟩)
 ·have b6:((k:Int)== -1)=false:=by rw[beq_eq_false_iff_ne];omega
  have b7:k<=aw.length:=by have:=Z b;omega
  have l:kp aw q (k+1)=aw.take k:=by
   unfold kp;rw[aD bj,Bt aw q k b7 (λi hi=>by have:=L i hi;simpa using this)]
  have A:jl w1 g cap aw (kp aw q (k+1)) (k+1) F:=by
   rw[l];refine⟨p.aP,p.sz,by rw[ct];omega,λx B=>?_,λx h1 h2=>p.rest x (by omega) h2⟩
   rw[ct]at B;rw[H5 _ _ _ (by omega)];exact p.rest x (by omega) (by omega)
  have S:(kp aw q (k+1)).length=k:=by rw[l,ct];omega
  replace⟨A,t⟩:=bA A t;clear p L bj l;go_wp2;go_loopw [5,6] (λiv jv wr=>∃(j:Nat)(d:Array Value),k+1<=j/\j<=n/\iv=.int .i64 ((kp aw q j).length:Int)/\jv=.int .i64 j/\(kp aw q j).length<j/\Inv j wr/\jl wr g cap aw (kp aw q j) j d/\w.heap.size<=wr.heap.size) (λ_ jv _=>n-(intOf jv).toNat);case atStart=>exact⟨k+1,F,aR _,by omega,by rw[S],by simp,by rw[S];omega,Z t,Z A,br⟩
  case round=>
   obtain⟨j,d,c9,db,rfl,rfl,bt,C,f,de⟩:=hrel;obtain⟨M,N⟩:=exq (kp aw q j);rw[<-N]at bt f⊢;obtain⟨i,hi⟩:=exq M.length;rw[<-hi]at bt⊢;replace⟨N,hi⟩:=bA N hi;by_cases b8:j<n
   ·have d1:decide ((j:Int)<n)=true:=dT_;have i1:(j:Int)<n:=by omega
    have i2:(i:Int)<n:=by omega
    have i3:i<n:=by omega
    obtain⟨y0,y1,y2,y3⟩:=f.at (by have:=Z b;omega);have hF:=J (λW(g1:wr.grownBy W none)=>Z Q W j (Z G _ _ _ C (dd g1 _)) b8);obtain⟨pa,D,E,aC⟩:=jk _ (oR (i:=j) (by have:=Z b;omega));obtain⟨kt,l⟩:=exq (bK aw j);rw[<-l]at y0 y1 y2 y3 hF aC;obtain⟨⟨num,tick,st,ps⟩,sv⟩:=kt;simp only at y0 y1 y2 y3 aC;subst aC;unfold kA at hF;simp only at hF;obtain⟨qj,a0⟩:=exq (q j);rw[<-a0]at hF;have bx:Hid (kp aw q (j+1)=if qj then M else M++[(⟨num,tick,st,ps⟩,.slice pa D E)]):=J (by rw[kp,<-a0,l,Z N]);clear a0;replace l:=J l;obtain⟨T,U⟩:=exq (wr.alloc (.cells #[.int .u64 num,.int .i64 tick,.int .i64 st,.slice pa D E] 325));have g3:wr.grownBy T none:=by rw[U];exact aH _ _ _
    have O:T.heap[wr.heap.size]?=some (.cells #[.int .u64 num,.int .i64 tick,.int .i64 st,.slice pa D E] 325 (0,0)):=by rw[U];exact aO _ _
    have ca:wr.heap.size<T.heap.size:=(aZ.1 O).1;obtain⟨b0,b1,b2,b3⟩:=l7 O;have bz:=J (Z hF T g3);replace⟨C,O⟩:=bA C O;clear hF;go_wp2_with fail;rw[<-U];clear U;go_wp2_with fail;apply(Z bz).mono;rintro e s⟨rfl,V,g4⟩;have r:jl s g cap aw M j d:=f.same ((g4.block g (by omega) (λe=>bb (aQ e).symm)).trans (g3.block g (by omega) (by simp)));have a1:=(g4.block wr.heap.size ca (λe=>by have:=aQ e;omega)).trans (Z O);have ch:w.heap.size<=s.heap.size:=by have:=g4.size;omega
    replace V:=J V;clear y0 y1 y2 y3 b0 b1 b2 b3 f bz;cases qj
    ·obtain⟨b0,b1,b2,b3⟩:=l7 a1;have dg:d.size=cap*4:=r.sz;have P:∀c,c<4->∃u,s.cell? ⟨g,i*4+c,none⟩=some u:=λc K=>by
      rw[ba r.aP];exact⟨d[i*4+c]'(by omega),Array.getElem?_eq_getElem (by omega)⟩
     obtain⟨u0,z0⟩:=P 0 (by omega);obtain⟨u1,z1⟩:=P 1 (by omega);obtain⟨u2,z2⟩:=P 2 (by omega);obtain⟨u3,z3⟩:=P 3 (by omega);rw[oM]at z0;have f0:s.frozen? ⟨g,i*4,none⟩=false:=by simp[World.frozen?,r.aP]
     have f1:s.frozen? ⟨g,i*4+1,none⟩=false:=by simp[World.frozen?,r.aP]
     have f2:s.frozen? ⟨g,i*4+2,none⟩=false:=by simp[World.frozen?,r.aP]
     have f3:s.frozen? ⟨g,i*4+3,none⟩=false:=by simp[World.frozen?,r.aP]
     obtain⟨W5,X⟩:=exq ((((s.setCell ⟨g,i*4,none⟩ (.int .u64 num)).setCell ⟨g,i*4+1,none⟩ (.int .i64 tick)).setCell ⟨g,i*4+2,none⟩ (.int .i64 st)).setCell ⟨g,i*4+3,none⟩ (.slice pa D E));have bM:=Bu (o:=i*4) r.aP (.int .u64 num) (.int .i64 tick) (.int .i64 st) (.slice pa D E);rw[<-X]at bM;obtain⟨g5,a2⟩:=bM;rw[Z hi]at a2;have cj:=J (r.put (W':=W5) (by have:=Z hi;omega) (by have:=Z b;omega) (by have:=Z b;omega) (⟨num,tick,st,ps⟩,.slice pa D E) a2);clear a2;replace X:=J X;have cp:=J (Z G _ _ _ (Z V) g5);have dk:=g5.size;clear P r;replace a1:=J a1;go_wp2_with fail;rw[<-Z X];obtain⟨cv,Y⟩:=Z cj;have v:=Z bx;simp only[gI,gm]at v;have a3:(kp aw q (j+1)).length=i+1:=by rw[v,bH,List.length_singleton,<-Z hi]
     exact⟨⟨j+1,cv,by omega,by omega,by rw[a3];simp,by simp,by omega,Z cp,by rw[v];exact Y,by omega⟩,by simp[intOf];omega⟩
    go_wp2_with fail;go_roundw;case measure=>simp[intOf];omega
    case rel=>
     have v:=Z bx;simp only[fu]at v;have a3:(kp aw q (j+1)).length=i:=by rw[v,<-Z hi]
     exact⟨j+1,d,by omega,by omega,by rw[a3],by simp,by omega,Z V,by rw[v];exact r.skip rfl,ch⟩
   have d1:decide ((j:Int)<n)=false:=dF_;obtain rfl:j=n:=by omega
   have dn:¬cap=i:=by omega
   have i2:(i:Int)<=j:=by omega
   have i3:(i:Int)<=cap:=by omega
   have i4:i<=j:=by omega
   have cw:i*4+(j-i)*4<=d.size:=by rw[f.sz];omega
   have cx:=J f.aP;have ds:g<wr.heap.size:=by omega
   replace C:=J C;obtain⟨zs,du,cy⟩:=Br (w:=wr) 0 222 325 _ 4 (by omega) underlying222 H0 (by rfl) (by simp[Value.cells];exact⟨rfl,rfl,rfl⟩) g (i*4) (j-i) (cap-i) d _ (Z cx) (by omega) cw;obtain⟨W6,al⟩:=exq (wr.setRow g (d.toList.take (i*4)++zs++d.toList.drop (i*4+(j-i)*4)).toArray);rw[<-al]at cy;have g6:wr.grownBy W6 (some g):=by rw[al];exact vD _ _ _
   have Y:jl W6 g cap aw M j (d.toList.take (i*4)++zs++d.toList.drop (i*4+(j-i)*4)).toArray:=by
    have hs:=f.sz;refine⟨by rw[al];exact setRow_heap wr g _ _ _ _ f.aP,?_,f.le,λx B=>?_,λx h1 h2=>?_⟩
    simp only[tt,bH,ct,dM,qt];omega;have cA:x<i*4:=by rw[Z hi];exact B
    rw[<-f.ahead x B,ts,fC,mm (by rw[ct,qt];omega),jI,aD cA,qq];have:=Z b;omega
   have a4:Hid (R (.returned (.slice (some ⟨g,0,none⟩) i cap)) W6):=J (by
    have S:=Z N;rw[Z I,<-S];refine⟨by rw[Z hi],?_,Z G _ _ _ (Z C) g6⟩
    exact Y.own a8 ⟨by have:=Z hi;omega,by unfold maxLen;omega⟩)
   clear al Y;replace f:=J f;go_wp2_with fail;exact Z a4
 have b6:((-1:Int)== -1)=true:=rfl;have l:kp aw q n=aw:=by
  rw[Z b,Bt aw q aw.length (aR _) (λi hi=>by have:=L i (by have:=Z b;omega);simpa using this),oK]
 have A:jl w1 g cap aw aw n F:=⟨p.aP,p.sz,by rw[Z b];exact aR _,λx B=>p.rest x (by omega) B,λx h1 h2=>by have:=Z b;omega⟩
 have a4:Hid (R (.returned (.slice (some ⟨g,0,none⟩) n cap)) w1):=J (by
  rw[Z I,l];refine⟨by rw[Z b],?_,t⟩
  exact A.own a8 ⟨by have:=Z b;omega,by unfold maxLen;omega⟩)
 clear p A L l;replace t:=J t;go_wp2_with fail;exact Z a4
