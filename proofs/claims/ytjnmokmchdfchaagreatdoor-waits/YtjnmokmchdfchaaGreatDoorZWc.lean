import Derived.Laws.EntriesVeiled
import Derived.Recover
import Derived.Test.YtjnmokmchdfchaaGreatDoorZW2
set_option maxRecDepth 1000000
set_option maxHeartbeats 0
set_option linter.all false
namespace Go.Proofs.YtjnmokmchdfchaaGreatDoor
open Go.RowKit Tryz
attribute[local go_sem↓]Go.wp_at_zero Go.wp_at_succ
variable{f:Act}{F:Array Oper}{G:Exit->Act->World->Prop}{H:Fr}{t:Int}{L:List Int}{Y:List Rg}{b i j k l m n o:Nat}{I:Oper}{a:Option Addr}{N:Option Nat}{T:TypeId}{x y z:Value}{W v w:World}
def Wr(d:World)(f:Fr)(j k:Value)(l:List Int):Prop:=
 ∃F cap,k=.func (.func F) #[] cap/\(∀args w,(callFunc F args).run prog w=.ok (.enter F args) w)/\∀(w:World)(b:Nat)(a:Option Addr)(n c:Nat)(m:List Int),d.grownBy w none->d.heap.size<=b->b<=w.heap.size->aX w b (.slice a n c) m->m.length+16*f.ranges.length+f.data.size<=79000000->
  Calls prog F (#[.slice a n c,.agg (bF f j)]++cap) w λe p=>∃g h i,e=.returned (.slice g h i)/\dp w b (.slice a n c) p (.slice g h i) (m++l)
theorem GJ(args:Array Value)(w:World):(callFunc 272 args).run prog w=.ok (.enter 272 args) w:=by kernel_rfl
theorem Ai(args:Array Value)(w:World):(callFunc 275 args).run prog w=.ok (.enter 275 args) w:=by kernel_rfl
theorem GK(args:Array Value)(w:World):(callFunc 269 args).run prog w=.ok (.enter 269 args) w:=by kernel_rfl
theorem GL(args:Array Value)(w:World):(callFunc 265 args).run prog w=.ok (.enter 265 args) w:=by kernel_rfl
theorem Al(X:Nat)(w:World):Calls prog 230 #[.pointer (some ⟨X,0,none⟩)] w λe a=>e=.returned (.pointer (some ⟨X,2,none⟩))/\a=w:=by
 go_enter func230,ntmps230;go_wp2_with fail;go_ret;exact⟨rfl,rfl⟩
theorem Am(X:Nat)(w:World):Calls prog 231 #[.pointer (some ⟨X,0,none⟩)] w λe a=>e=.returned (.pointer (some ⟨X,3,none⟩))/\a=w:=by
 go_enter func231,ntmps231;go_wp2_with fail;go_ret;exact⟨rfl,rfl⟩
theorem xd(b:World)(f:Fr)(g:Value)(B:Nat)(h:b.cell? ⟨B,0,none⟩=some (.func (.func 230) #[] #[]))(i:dH f.offset):
 Wr b f g (.func (.func 275) #[] #[.pointer (some ⟨B,0,none⟩)]) (aN f.offset):=by
 refine⟨_,_,rfl,Ai,λw r a n c m j t l ho hl=>?_⟩
 obtain⟨k,s,o,cd,fin,d,rg⟩:=f;have u:(w.alloc (.cells #[.int .i64 k,.int .i64 s,.int .u64 o,.int .u64 cd,.bool fin,.string d,g] 158)).cell? ⟨B,0,none⟩=some (.func (.func 230) #[] #[]):=(aC w _ none).cell (j.cell h (by simp)) (by simp);have G:=λob=>(dp.refl ho).still (aC w ob none)
 simp only[bF]at *;replace G:=J G;clear h;go_enter func275,ntmps275;go_wp2_with fail;refine(Al _ _).mono ?_;rintro e v⟨rfl,rfl⟩;go_wp2_with fail;refine(oO (Z G _) i l (by omega)).mono ?_;rintro e x⟨p,n2,c2,rfl,q,-⟩;go_wp2_with fail;go_ret;exact⟨p,n2,c2,rfl,q⟩
theorem An(b:World)(f:Fr)(g:Value)(B:Nat)(h:b.cell? ⟨B,0,none⟩=some (.func (.func 231) #[] #[]))(i:dH f.code):
 Wr b f g (.func (.func 275) #[] #[.pointer (some ⟨B,0,none⟩)]) (aN f.code):=by
 refine⟨_,_,rfl,Ai,λw r a n c m j t l ho hl=>?_⟩
 obtain⟨k,s,o,cd,fin,d,rg⟩:=f;have u:(w.alloc (.cells #[.int .i64 k,.int .i64 s,.int .u64 o,.int .u64 cd,.bool fin,.string d,g] 158)).cell? ⟨B,0,none⟩=some (.func (.func 231) #[] #[]):=(aC w _ none).cell (j.cell h (by simp)) (by simp);have G:=λob=>(dp.refl ho).still (aC w ob none)
 simp only[bF]at *;replace G:=J G;clear h;go_enter func275,ntmps275;go_wp2_with fail;refine(Am _ _).mono ?_;rintro e v⟨rfl,rfl⟩;go_wp2_with fail;refine(oO (Z G _) i l (by omega)).mono ?_;rintro e x⟨p,n2,c2,rfl,q,-⟩;go_wp2_with fail;go_ret;exact⟨p,n2,c2,rfl,q⟩
theorem xi(b:World)(f:Fr)(g:Value)(l:0<=f.stream)(p:f.stream<4):
 Wr b f g (.func (.func 265) #[] #[]) (aN f.stream):=by
 refine⟨_,_,rfl,GL,λw q a n c m r t h ho hl=>?_⟩
 obtain⟨k,s,o,cd,fin,d,rg⟩:=f;have G:=λob=>(dp.refl ho).still (aC w ob none)
 simp only[bF]at *;replace G:=J G;have u:IntKind.u64.wrap s=s:=by rw[eH];omega
 go_enter func265,ntmps265;go_wp2_with fail;refine(oO (Z G _) ⟨by omega,by omega⟩ h (by omega)).mono ?_;rintro e v⟨i,n2,c2,rfl,j,-⟩;go_wp2_with fail;go_ret;exact⟨i,n2,c2,rfl,j⟩
theorem GM(b:World)(f:Fr)(g:Value)(h:cV b f g)(i:iL f.ranges):
 Wr b f g (.func (.func 269) #[] #[]) (fC f.ranges):=by
 obtain⟨-,-,ra,cap,rfl,j⟩:=h;refine⟨_,_,rfl,GK,λw l a n c m p q x ho hl=>?_⟩
 obtain⟨k,s,o,cd,fin,d,rg⟩:=f;have r:n=m.length:=ho.fB.2.1;subst r;have y:m.length+16*rg.length+d.size<=79000000:=hl;have t:=J (λob=>Ah b (w.alloc ob) l a c m ra rg.length cap rg (ho.ah (aC w ob none)) (aS p ob) q j i (by simp;omega) (by omega));have G:=J (λob=>(dp.refl ho).still (aC w ob none));simp only[bF]at *;go_enter func269,ntmps269;go_wp2_with fail;refine(Z t _).mono ?_;rintro e z⟨u,n2,c2,rfl,v⟩;go_wp2_with fail;go_ret;exact⟨u,n2,c2,rfl,(Z G _).trans v⟩
theorem Ao(y:World)(f:Fr)(p:Value):
 Wr y f p (.func (.func 272) #[] #[]) (aN f.data.size++bl f.data):=by
 refine⟨_,_,rfl,GJ,λw z a n c m L M x ho hl=>?_⟩
 obtain⟨k,s,o,cd,fin,d,rg⟩:=f;have G:=λob=>(dp.refl ho).still (aC w ob none)
 simp only[bF]at *;have N:IntKind.u64.wrap (d.size:Int)=(d.size:Int):=by rw[eH];omega
 obtain⟨b,g⟩:=exq (w.alloc (.cells #[.int .i64 k,.int .i64 s,.int .u64 o,.int .u64 cd,.bool fin,.string d,p] 158));have u:b.heap[w.heap.size]?=some (.cells #[.int .i64 k,.int .i64 s,.int .u64 o,.int .u64 cd,.bool fin,.string d,p] 158 (0,0)):=by rw[g];exact aH _ _
 have q:b.heap.size=w.heap.size+1:=by rw[g];simp
 have i:∀W:World,W.heap[w.heap.size]?=b.heap[w.heap.size]? ->W.cell? ⟨w.heap.size,5,none⟩=some (.string d):=λW h=>by
  rw[uJ h];simp[World.cell?,u]
 have A:b.drew.cell? ⟨w.heap.size,5,none⟩=some (.string d):=i b.drew rfl;have O:=gD (d.size:Int);replace G:=G (.cells #[.int .i64 k,.int .i64 s,.int .u64 o,.int .u64 cd,.bool fin,.string d,p] 158);rw[<-g]at G;replace G:=J G;replace i:=J i;replace u:=J u;replace q:=J q;replace ho:=J ho;go_enter func272,ntmps272;go_wp2_with fail;rw[<-g];replace g:=J g;go_region_held3 (λB=>B.cell? ⟨w.heap.size,5,none⟩=some (.string d)) (first|with_reducible exact C|with_reducible exact D|with_reducible exact A)
  (first
    |(go_at_call 266;refine(oO ((Z G).still (aP (av _ _))) ⟨by omega,by omega⟩ x (by omega)).mono ?_;rintro e E⟨P,n2,c2,rfl,j,r⟩;have l:=r.box (Z ho) (by have:=Z q;show _<b.heap.size;omega);have D:=Z i E l.1;replace l:=J l;replace r:=J r;replace j:=J j)
    |(refine GI (by rfl) _ _ (by rfl) z _ (m++aN (d.size:Int)) (by rfl) (Z j).own d (by rfl) (by rw[bG];omega) (bC x (Z j).size) ?_;intro F H c3 I v t K;have C:=Z i I ((t.block w.heap.size (by have:=(Z r).size;have:=Z q;have:b.drew.heap.size=b.heap.size:=rfl;omega) (λe=>(Z l).2 e.symm)).trans (Z l).1);replace t:=J t;replace v:=J v))
 go_wp2_with fail;go_ret;exact⟨F,H,c3,rfl,by rw[<-eA];exact(Z j).app (av _ _) (Z v) (Z t) K⟩
def gR:List (List Int)->List Int
 |[]=>[]
 |x::r=>x++gR r
theorem Ap(l r:List (List Int)):gR (l++r)=gR l++gR r:=by
 induction l with
 |nil=>rfl
 |cons x l a=>simp[gR,a]
theorem GN(l:List (List Int))(j:Nat)(h:j<l.length):gR (l.take (j+1))=gR (l.take j)++l.getD j []:=by
 rw[qc h,Ap,List.getD,eF h];simp[gR]
theorem GO(l:List (List Int))(j:Nat):(gR (l.take j)).length<=(gR l).length:=by
 have h:=fj List.length (fj gR (nZ j l));rw[Ap,bG]at h;omega
def Aq(b:World)(f:Fr)(e g:Value)(a:List (List Int)):Prop:=
 ∃pa c,g=.slice pa a.length c/\a.length<=3/\a.length<=c/\(a=[]\/∃P,pa=some ⟨P,0,none⟩/\∀i,i<a.length->∃d R h,b.cell? ⟨P,i*2,none⟩=some d/\b.cell? ⟨P,i*2+1,none⟩=some (.func (.func R) #[] h)/\Wr b f e d (a.getD i []))
theorem GP{a b f:Obj}(c:(((w.alloc a).alloc b).alloc f).grownBy W N)(d:∀j,N=some j->j<w.heap.size):W.heap[w.heap.size]?=some a/\W.heap[w.heap.size+1]?=some b:=by
 constructor;rw[c.block w.heap.size (by simp;omega) (λe=>by have:=d _ e.symm;omega),eI _ _ _ (by simp;omega),eI _ _ _ (by simp)];exact aH _ _;rw[c.block (w.heap.size+1) (by simp) (λe=>by have:=d _ e.symm;omega),eI _ _ _ (by simp),<-dC w a];exact aH _ _
theorem GQ(M:World)(f:Fr)(u W:Value)(g:List (List Int))(O:Int)(Q:Bool)(t:Int)(ht:W8 t)(hp:Aq M f u W g)
 (w:World) (p:Nat) (a:Option Addr) (n c:Nat) (m:List Int) (g0:M.grownBy w none) (X:M.heap.size<=p) (bM:p<=w.heap.size) (ho:aX w p (.slice a n c) m) (hl:m.length+1+(gR g).length+16*f.ranges.length+f.data.size<=79000000):
 Calls prog 193 #[.agg #[.int .i64 O,.bool Q,.int .u8 t,W],.slice a n c,.agg (bF f u)] w λe w'=>∃x y z,e=.returned (.slice x y z)/\dp w p (.slice a n c) w' (.slice x y z) (m++(t::gR g)):=by
 obtain⟨pa,S,rfl,bb,bj,K⟩:=hp;obtain⟨k,s,o,cd,fin,d,rg⟩:=f;have bP:m.length+1+(gR g).length+16*rg.length+d.size<=79000000:=hl;have hn:n=m.length:=ho.fB.2.1;subst hn;simp only[bF]at *;have gW:w.grownBy ((w.alloc (.cells #[.int .i64 O,.bool Q,.int .u8 t,.slice pa g.length S] 317)).alloc (.cells #[.int .i64 k,.int .i64 s,.int .u64 o,.int .u64 cd,.bool fin,.string d,u] 158)) none:=aS (aS (av _ _) _) _;have A:=tT ((w.alloc (.cells #[.int .i64 O,.bool Q,.int .u8 t,.slice pa g.length S] 317)).alloc (.cells #[.int .i64 k,.int .i64 s,.int .u64 o,.int .u64 cd,.bool fin,.string d,u] 158)) t ht;have C:=((dp.refl ho).still gW).still (aC _ (.cells #[.int .u8 t] 5) none);rw[dC,dC]at A;have Y:=J C.own;replace C:=J C;replace A:=J A;have al:=J (λj(e:(Value.slice a m.length c).ownBlock=some j)=>(ho.lt j e).2);go_enter func193,ntmps193;go_wp2_with (at_builtin;refine qQ (by rfl) _ _ (by rfl) p _ m (by rfl) (Z Y) _ _ _ [t] (by rfl) (Z A) ?_ ?_ ?_;(simp;omega);(simp;omega);intro D c3 w3 L E G;obtain⟨T,U⟩:=GP E (Z al);replace T:w3.cell? ⟨w.heap.size,3,none⟩=some (.slice pa g.length S):=(by simp[World.cell?,T]);replace L:=J L;replace E:=J E;replace G:=J G;replace U:=J U);clear T A Y;have bx:Hid (dp w p (.slice a m.length c) w3 (.slice D (m.length+1) c3) (m++[t])):=J ((Z C).app (av _ _) (Z L) (Z E) (Z G));have bz:Hid ((Value.slice D (m.length+1) c3).ownBlock≠some (w.heap.size+1)):=J (by
  have g5:(Value.slice D (m.length+1) c3).ownBlock=(Value.slice a m.length c).ownBlock\/(Value.slice D (m.length+1) c3).ownBlock=some (((w.alloc _).alloc _).alloc _).heap.size:=Z G;obtain e|e:=g5
  rw[e];exact λh=>by have:=Z al _ h;omega
  ·rw[e];simp;omega)
 clear L E G C;obtain⟨N,q⟩:=exq g.length;rw[<-q];rw[<-q]at bb bj;replace q:=J q;go_loopw [1,17] (λv i wr=>∃(j:Nat)(x:Option Addr)(y z:Nat),j<=N/\i=.int .i64 (j:Int)/\v=.slice x y z/\dp w p (.slice a m.length c) wr v (m++t::gR (g.take j))/\v.ownBlock≠some (w.heap.size+1)/\wr.heap[w.heap.size+1]?=some (.cells #[.int .i64 k,.int .i64 s,.int .u64 o,.int .u64 cd,.bool fin,.string d,u] 158 (0,0))) (λ_ i _=>N-(intOf i).toNat);case atStart=>exact⟨0,D,_,c3,by omega,rfl,rfl,by simpa [gR]using Z bx,Z bz,Z U⟩
 case round=>
  obtain⟨j,x,y,z,hj,rfl,rfl,r,V,H⟩:=hrel;by_cases b0:j<N
  ·obtain rfl|⟨P,rfl,K⟩:=K
   have:=Z q;simp at this;omega;obtain⟨wv,R,l,q1,q2,F,cap,rfl,hE,hF⟩:=K j (by have:=Z q;omega);have I:=r.old g0 ho X;replace q1:=I.cell q1 (by simp);replace q2:=I.cell q2 (by simp);have b:∀ob,(wr.alloc ob).heap[w.heap.size+1]?=some (.cells #[.int .i64 k,.int .i64 s,.int .u64 o,.int .u64 cd,.bool fin,.string d,u] 158 (0,0)):=λob=>by
    rw[eI _ _ _ (aO.1 H).1];exact H
   replace b:=b (.cells #[.func (.func F) #[] cap,.func (.func R) #[] l] 356);have r0:(wr.alloc (.cells #[.func (.func F) #[] cap,.func (.func R) #[] l] 356)).cell? ⟨w.heap.size+1,0,none⟩=some (.int .i64 k):=by simp only[World.cell?,b];rfl
   have r1:(wr.alloc (.cells #[.func (.func F) #[] cap,.func (.func R) #[] l] 356)).cell? ⟨w.heap.size+1,1,none⟩=some (.int .i64 s):=by simp only[World.cell?,b];rfl
   have r2:(wr.alloc (.cells #[.func (.func F) #[] cap,.func (.func R) #[] l] 356)).cell? ⟨w.heap.size+1,2,none⟩=some (.int .u64 o):=by simp only[World.cell?,b];rfl
   have r3:(wr.alloc (.cells #[.func (.func F) #[] cap,.func (.func R) #[] l] 356)).cell? ⟨w.heap.size+1,3,none⟩=some (.int .u64 cd):=by simp only[World.cell?,b];rfl
   have r4:(wr.alloc (.cells #[.func (.func F) #[] cap,.func (.func R) #[] l] 356)).cell? ⟨w.heap.size+1,4,none⟩=some (.bool fin):=by simp only[World.cell?,b];rfl
   have r5:(wr.alloc (.cells #[.func (.func F) #[] cap,.func (.func R) #[] l] 356)).cell? ⟨w.heap.size+1,5,none⟩=some (.string d):=by simp only[World.cell?,b];rfl
   have r6:(wr.alloc (.cells #[.func (.func F) #[] cap,.func (.func R) #[] l] 356)).cell? ⟨w.heap.size+1,6,none⟩=some u:=by simp only[World.cell?,b];rfl
   have i1:(0:Int)<=(j:Int):=by omega
   have i2:(j:Int)<(N:Int):=by omega
   replace H:=J H;replace b:=J b;replace hF:=J hF;replace r:=J r;replace I:=J I;replace V:=J V;clear K;go_wp2_with fail;refine(Z hF (wr.alloc (.cells #[.func (.func F) #[] cap,.func (.func R) #[] l] 356)) p x y z _ (aS (Z I) _) X ?_ ((Z r).still (aC _ _ _)).own ?_).mono ?_;have:=(Z r).size;simp;omega;have:=GO g j;simp only[bG,dJ];omega;rintro e w5⟨a5,n5,c5,rfl,G5⟩;have a3:=G5.apart (B:=w.heap.size+1) (by have:=(aO.1 (Z H)).1;simp;omega) (Z V);go_wp2_with fail;go_roundw;case rel=>
    refine⟨j+1,a5,n5,c5,by omega,by simp,rfl,?_,a3.2,a3.1.trans (Z b)⟩
    rw[GN g j (by have:=Z q;omega)];have:=((Z r).still (aC _ _ _)).trans G5;simpa [eA]using this
   case measure=>simp[intOf];omega
  obtain rfl:j=N:=by omega
  go_wp2_with fail;go_ret;refine⟨x,y,z,rfl,?_⟩
  rw[eG (by rw[<-Z q];exact aI _)]at r;exact r
def sW:Value:=.func (.func 265) #[] #[]
def sR:Value:=.func (.func 267) #[] #[]
def rW:Value:=.func (.func 269) #[] #[]
def rR:Value:=.func (.func 270) #[] #[]
def bW:Value:=.func (.func 272) #[] #[]
def bR:Value:=.func (.func 273) #[] #[]
def nW(B:Nat):Value:=.func (.func 275) #[] #[.pointer (some ⟨B,0,none⟩)]
def nR(B:Nat):Value:=.func (.func 276) #[] #[.pointer (some ⟨B,0,none⟩)]
theorem rB(a:Fn)(first cap:Array Value)(w:World):(Instr.makeFunc a first cap).run prog w=.ok (.func a first cap) w:=rfl
theorem GR(w:World):Calls prog 226 #[] w λe a=>e=.returned (.agg #[.func (.func 265) #[] #[],.func (.func 267) #[] #[]])/\w.grownBy a none:=by
 have b:=rB;go_enter func226,ntmps226;go_wp2_with fail;refine cz (v:=.agg #[.func (.func 265) #[] #[],.func (.func 267) #[] #[]]) ?_ rfl ⟨rfl,?_⟩
 ·simp[results,results226,go_sem]
 exact aC _ _ _
theorem GS(w:World):Calls prog 227 #[] w λe a=>e=.returned (.agg #[.func (.func 269) #[] #[],.func (.func 270) #[] #[]])/\w.grownBy a none:=by
 have b:=rB;go_enter func227,ntmps227;go_wp2_with fail;refine cz (v:=.agg #[.func (.func 269) #[] #[],.func (.func 270) #[] #[]]) ?_ rfl ⟨rfl,?_⟩
 ·simp[results,results227,go_sem]
 exact aC _ _ _
theorem GU(w:World):Calls prog 228 #[] w λe a=>e=.returned (.agg #[.func (.func 272) #[] #[],.func (.func 273) #[] #[]])/\w.grownBy a none:=by
 have b:=rB;go_enter func228,ntmps228;go_wp2_with fail;refine cz (v:=.agg #[.func (.func 272) #[] #[],.func (.func 273) #[] #[]]) ?_ rfl ⟨rfl,?_⟩
 ·simp[results,results228,go_sem]
 exact aC _ _ _
theorem Ar(F B:Nat)(w:World)(b:B=w.heap.size):Calls prog 229 #[.func (.func F) #[] #[]] w λe a=>e=.returned (.agg #[.func (.func 275) #[] #[.pointer (some ⟨B,0,none⟩)],.func (.func 276) #[] #[.pointer (some ⟨B,0,none⟩)]])/\a.cell? ⟨B,0,none⟩=some (.func (.func F) #[] #[])/\w.grownBy a none:=by
 subst b;have c:=rB;go_enter func229,ntmps229;go_wp2_with fail;refine cz (v:=.agg #[.func (.func 275) #[] #[.pointer (some ⟨w.heap.size,0,none⟩)],.func (.func 276) #[] #[.pointer (some ⟨w.heap.size,0,none⟩)]]) ?_ rfl ⟨rfl,?_,?_⟩
 ·simp[results,results229,go_sem]
 simp;exact aS (aC _ _ _) _
def As(a b c d e:Nat):List Value:=
 [.int .i64 1,.bool false,.int .u8 0,.slice none 0 0,.int .i64 2,.bool false,.int .u8 1,.slice none 0 0,.int .i64 3,.bool false,.int .u8 2,.slice (some ⟨a,0,none⟩) 1 1,.int .i64 4,.bool false,.int .u8 4,.slice (some ⟨b,0,none⟩) 3 3,.int .i64 5,.bool false,.int .u8 8,.slice (some ⟨c,0,none⟩) 3 3,.int .i64 5,.bool true,.int .u8 9,.slice (some ⟨d,0,none⟩) 3 3,.int .i64 6,.bool false,.int .u8 28,.slice (some ⟨e,0,none⟩) 1 1]
structure jr(W:World)(T c d e f g a b:Nat):Prop where
 tab:W.rangeAt T 0 (As c d e f g)
 p2:W.rangeAt c 0 [rW,rR]
 p3:W.rangeAt d 0 [sW,sR,nW b,nR b,nW a,nR a]
 p4:W.rangeAt e 0 [sW,sR,nW a,nR a,bW,bR]
 p5:W.rangeAt f 0 [sW,sR,nW a,nR a,bW,bR]
 p6:W.rangeAt g 0 [nW b,nR b]
 bo:W.cell? ⟨a,0,none⟩=some (.func (.func 230) #[] #[])
 bc:W.cell? ⟨b,0,none⟩=some (.func (.func 231) #[] #[])
theorem jr.ah(h:jr w n k i j l m o b)(g:w.grownBy W none):jr W n k i j l m o b:=
 ⟨iK h.tab g (by simp),iK h.p2 g (by simp),iK h.p3 g (by simp),iK h.p4 g (by simp),iK h.p5 g (by simp),iK h.p6 g (by simp),g.cell h.bo (by simp),g.cell h.bc (by simp)⟩
theorem GV(w:World)(g a b c d e f:Obj)(W:World)(h:W=((((((w.alloc g).alloc a).alloc b).alloc c).alloc d).alloc e).alloc f):
 W.heap[w.heap.size+1]?=some a/\W.heap[w.heap.size+1+1]?=some b/\W.heap[w.heap.size+1+1+1]?=some c/\W.heap[w.heap.size+1+1+1+1]?=some d/\W.heap[w.heap.size+1+1+1+1+1]?=some e/\W.heap[w.heap.size+1+1+1+1+1+1]?=some f/\w.grownBy W none:=by
 subst h;refine⟨?_,?_,?_,?_,?_,?_,aS (aS (aS (aS (aS (aS (aC _ _ _) _) _) _) _) _) _⟩
 all_goals
  simp only[World.alloc,Array.getElem?_push,Array.size_push]
  repeat(first|rw[aM trivial]|rw[aM (by omega)]|rw[ay (by omega)])
theorem At(w:World):Calls prog 189 #[] w λe u=>∃T C E F G H I K,e=.returned (.slice (some ⟨T,0,none⟩) 7 7)/\jr u T C E F G H I K/\w.grownBy u none:=by
 go_enter func189,ntmps189;go_wp2_with fail;refine(GR _).mono ?_;rintro e w1⟨rfl,v⟩;go_wp2_with fail;refine(GS _).mono ?_;rintro e w2⟨rfl,x⟩;go_wp2_with fail;refine(GU _).mono ?_;rintro e l⟨rfl,y⟩;go_wp2_with fail;obtain⟨A,i⟩:=exq l.heap.size;obtain⟨b,c⟩:=exq ((((l.alloc (.cells #[.func (.func 265) #[] #[],.func (.func 267) #[] #[]] 356)).alloc (.cells #[.func (.func 269) #[] #[],.func (.func 270) #[] #[]] 356)).alloc (.cells #[.func (.func 272) #[] #[],.func (.func 273) #[] #[]] 356)));have m:b.heap[A]?=some (.cells #[.func (.func 265) #[] #[],.func (.func 267) #[] #[]] 356 (0,0))/\b.heap[A+1]?=some (.cells #[.func (.func 269) #[] #[],.func (.func 270) #[] #[]] 356 (0,0))/\b.heap[A+1+1]?=some (.cells #[.func (.func 272) #[] #[],.func (.func 273) #[] #[]] 356 (0,0)):=by
  rw[c,i];refine⟨?_,?_,?_⟩
  rw[eI _ _ _ (by simp;omega),eI _ _ _ (by simp)];exact aH _ _;rw[eI _ _ _ (by simp),<-dC l (.cells #[.func (.func 265) #[] #[],.func (.func 267) #[] #[]] 356)];exact aH _ _;have:=aH ((l.alloc (.cells #[.func (.func 265) #[] #[],.func (.func 267) #[] #[]] 356)).alloc (.cells #[.func (.func 269) #[] #[],.func (.func 270) #[] #[]] 356)) (.cells #[.func (.func 272) #[] #[],.func (.func 273) #[] #[]] 356);rwa[dC,dC]at this
 have L:b.heap.size=A+3:=by rw[c,i];simp
 have z:w.grownBy b none:=by rw[c];exact aS (aS (aS (aj (aj v x) y) _) _) _
 rw[<-c];simp only[<-i]
 replace c:=J c;replace i:=J i;replace m:=J m;clear v x y;refine(Ar 230 (A+3) b L.symm).mono ?_;rintro e d⟨rfl,c4,n⟩;have a4:=n.size;replace c4:=J c4;go_wp2_with fail;obtain⟨p,f⟩:=exq (d.alloc (.cells #[.func (.func 275) #[] #[.pointer (some ⟨A+3,0,none⟩)],.func (.func 276) #[] #[.pointer (some ⟨A+3,0,none⟩)]] 356));have r:p.heap[d.heap.size]?=some (.cells #[.func (.func 275) #[] #[.pointer (some ⟨A+3,0,none⟩)],.func (.func 276) #[] #[.pointer (some ⟨A+3,0,none⟩)]] 356 (0,0)):=by rw[f];exact aH _ _
 have s:d.grownBy p none:=by rw[f];exact aC _ _ _
 have M:p.heap.size=d.heap.size+1:=by rw[f];simp
 rw[<-f];replace f:=J f;replace r:=J r;refine(Ar 231 (d.heap.size+1) p M.symm).mono ?_;rintro e a⟨rfl,c5,h⟩;have a8:=h.size;replace c5:=J c5;obtain⟨D,N⟩:=exq d.heap.size;simp only[<-N]at *;have j:Hid (∀W,a.grownBy W none->W.heap[A]?=some (.cells #[.func (.func 265) #[] #[],.func (.func 267) #[] #[]] 356 (0,0))/\W.heap[A+1]?=some (.cells #[.func (.func 269) #[] #[],.func (.func 270) #[] #[]] 356 (0,0))/\W.heap[A+1+1]?=some (.cells #[.func (.func 272) #[] #[],.func (.func 273) #[] #[]] 356 (0,0))/\W.heap[D]?=some (.cells #[.func (.func 275) #[] #[.pointer (some ⟨A+3,0,none⟩)],.func (.func 276) #[] #[.pointer (some ⟨A+3,0,none⟩)]] 356 (0,0))/\W.cell? ⟨A+3,0,none⟩=some (.func (.func 230) #[] #[])/\W.cell? ⟨D+1,0,none⟩=some (.func (.func 231) #[] #[])):=J (λW g=>by
  have q:=aj (aj (aj n s) h) g;have O:=aj h g;obtain⟨P,Q,R⟩:=Z m;exact⟨(q.block A (by omega) (by simp)).trans P,(q.block (A+1) (by omega) (by simp)).trans Q,(q.block (A+1+1) (by omega) (by simp)).trans R,(O.block D (by omega) (by simp)).trans (Z r),(aj (aj s h) g).cell (Z c4) (by simp),g.cell (Z c5) (by simp)⟩)
 have t:w.grownBy a none:=aj (aj (aj z n) s) h;clear m r c4 c5 n s h z;replace t:=J t;have S:Hid (∀W,(a.alloc (.cells #[.func (.func 275) #[] #[.pointer (some ⟨D+1,0,none⟩)],.func (.func 276) #[] #[.pointer (some ⟨D+1,0,none⟩)]] 356)).grownBy W none->W.heap[a.heap.size]?=some (.cells #[.func (.func 275) #[] #[.pointer (some ⟨D+1,0,none⟩)],.func (.func 276) #[] #[.pointer (some ⟨D+1,0,none⟩)]] 356 (0,0))):=J (λW g=>(g.block a.heap.size (by simp) (by simp)).trans (aH _ _));have k:Hid ((prog.info? 356).map (·.size)=some 2):=J (by kernel_rfl);go_wp2_with (first
  |(refine oj (by rfl) 356 _ (by rfl) A (by rfl) 356 _ (0,0) _ ((Z j _ ?_).1) underlying356 (by rfl) (Z k) ?_;(repeat(first|exact av _ _|refine aS ?_ _)))
  |(refine oj (by rfl) 356 _ (by rfl) (A+1) (by rfl) 356 _ (0,0) _ ((Z j _ ?_).2.1) underlying356 (by rfl) (Z k) ?_;(repeat(first|exact av _ _|refine aS ?_ _)))
  |(refine oj (by rfl) 356 _ (by rfl) (A+1+1) (by rfl) 356 _ (0,0) _ ((Z j _ ?_).2.2.1) underlying356 (by rfl) (Z k) ?_;(repeat(first|exact av _ _|refine aS ?_ _)))
  |(refine oj (by rfl) 356 _ (by rfl) D (by rfl) 356 _ (0,0) _ ((Z j _ ?_).2.2.2.1) underlying356 (by rfl) (Z k) ?_;(repeat(first|exact av _ _|refine aS ?_ _)))
  |(refine oj (by rfl) 356 _ (by rfl) a.heap.size (by rfl) 356 _ (0,0) _ (Z S _ ?_) underlying356 (by rfl) (Z k) ?_;(repeat(first|exact av _ _|refine aS ?_ _))))
 go_ret;obtain⟨U,V,X,Y,h5,h6,B⟩:=GV a _ _ _ _ _ _ _ _ rfl;obtain⟨-,-,-,-,a0,a1⟩:=Z j _ B;exact⟨_,a.heap.size+1,a.heap.size+1+1,a.heap.size+1+1+1,a.heap.size+1+1+1+1,a.heap.size+1+1+1+1+1,A+3,D+1,rfl,⟨jm h6,jm U,jm V,jm X,jm Y,jm h5,a0,a1⟩,aj (Z t) B⟩
structure Sh where
 k:Int
 fin:Bool
 t:Int
 pa:Option Addr
 n:Nat
def bO(a b c d e:Nat):List Sh:=
 [⟨1,false,0,none,0⟩,⟨2,false,1,none,0⟩,⟨3,false,2,some ⟨a,0,none⟩,1⟩,⟨4,false,4,some ⟨b,0,none⟩,3⟩,⟨5,false,8,some ⟨c,0,none⟩,3⟩,⟨5,true,9,some ⟨d,0,none⟩,3⟩,⟨6,false,28,some ⟨e,0,none⟩,1⟩]
def bn(l:List Sh)(j:Nat):Sh:=l.getD j ⟨0,false,0,none,0⟩
theorem pP(h:j<7):j=0\/j=1\/j=2\/j=3\/j=4\/j=5\/j=6:=by omega
theorem jr.at{f g:Nat}(h:jr W l m o b i j f g)(a:Nat)(p:a<7):
 W.cell? ⟨l,a*4,none⟩=some (.int .i64 (bn (bO m o b i j) a).k)/\W.cell? ⟨l,a*4+1,none⟩=some (.bool (bn (bO m o b i j) a).fin)/\W.cell? ⟨l,a*4+2,none⟩=some (.int .u8 (bn (bO m o b i j) a).t)/\W.cell? ⟨l,a*4+3,none⟩=some (.slice (bn (bO m o b i j) a).pa (bn (bO m o b i j) a).n (bn (bO m o b i j) a).n):=by
 have c:=λ(d:Nat)(v:Value)(e:(As m o b i j)[d]?=some v)=>h.tab d v e
 simp only[dv]at c;obtain rfl|rfl|rfl|rfl|rfl|rfl|rfl:=pP p<;>exact⟨c _ _ rfl,c _ _ rfl,c _ _ rfl,c _ _ rfl⟩
theorem jg{a:Value}(h:w.heap[b]?=some (.cells #[x,y,z,a] T (0,0))):w.cell? ⟨b,0,none⟩=some x/\w.cell? ⟨b,1,none⟩=some y/\w.cell? ⟨b,2,none⟩=some z/\w.cell? ⟨b,3,none⟩=some a/\∀o,w.frozen? ⟨b,o,none⟩=false:=by
 simp[World.cell?,World.frozen?,h]
theorem GW(w:World)(T a b c l m Bo Bc:Nat)(V:jr w T a b c l m Bo Bc)(f:Fr)(y:Value):
 Calls prog 191 #[.slice (some ⟨T,0,none⟩) 7 7,.agg (bF f y)] w λe A=>
  ((∃j,j<7/\(bn (bO a b c l m) j).k=f.kind/\(bn (bO a b c l m) j).fin=(f.fin&&decide (f.kind=5))/\e=.returned (.tuple #[.agg #[.int .i64 (bn (bO a b c l m) j).k,.bool (bn (bO a b c l m) j).fin,.int .u8 (bn (bO a b c l m) j).t,.slice (bn (bO a b c l m) j).pa (bn (bO a b c l m) j).n (bn (bO a b c l m) j).n],.bool true]))\/
    ((∀j,j<7->¬((bn (bO a b c l m) j).k=f.kind/\(bn (bO a b c l m) j).fin=(f.fin&&decide (f.kind=5))))/\e=.returned (.tuple #[.agg #[.int .i64 0,.bool false,.int .u8 0,.slice none 0 0],.bool false])))/\w.grownBy A none:=by
 have O:=λ(W:World)(g:w.grownBy W none)=>(V.ah g).at
 generalize bO a b c l m=L at *;clear V;obtain⟨k,s,o,cd,fin,d,rg⟩:=f;obtain⟨R,r⟩:∃R:Ending->World->Prop,R=λe A=>((∃j,j<7/\(bn L j).k=k/\(bn L j).fin=(fin&&decide (k=5))/\e=.returned (.tuple #[.agg #[.int .i64 (bn L j).k,.bool (bn L j).fin,.int .u8 (bn L j).t,.slice (bn L j).pa (bn L j).n (bn L j).n],.bool true]))\/
  ((∀j,j<7->¬((bn L j).k=k/\(bn L j).fin=(fin&&decide (k=5))))/\e=.returned (.tuple #[.agg #[.int .i64 0,.bool false,.int .u8 0,.slice none 0 0],.bool false])))/\w.grownBy A none:=⟨_,rfl⟩
 show Calls prog 191 #[.slice (some ⟨T,0,none⟩) 7 7,.agg #[.int .i64 k,.int .i64 s,.int .u64 o,.int .u64 cd,.bool fin,.string d,y]] w (λe A=>((∃j,j<7/\(bn L j).k=k/\(bn L j).fin=(fin&&decide (k=5))/\e=.returned (.tuple #[.agg #[.int .i64 (bn L j).k,.bool (bn L j).fin,.int .u8 (bn L j).t,.slice (bn L j).pa (bn L j).n (bn L j).n],.bool true]))\/
  ((∀j,j<7->¬((bn L j).k=k/\(bn L j).fin=(fin&&decide (k=5))))/\e=.returned (.tuple #[.agg #[.int .i64 0,.bool false,.int .u8 0,.slice none 0 0],.bool false])))/\w.grownBy A none)
 rw[<-r];obtain⟨q,P⟩:∃q:Bool,q=(fin&&decide (k=5)):=⟨_,rfl⟩
 rw[<-P]at r;replace r:=J r;replace O:=J O;have B:∀W:World,(((w.alloc (.cells #[.int .i64 k,.int .i64 s,.int .u64 o,.int .u64 cd,.bool fin,.string d,y] 158)).alloc (.cells #[.int .i64 0,.bool false,.int .u8 0,.slice none 0 0] 317))).grownBy W none->W.heap[w.heap.size]?=some (.cells #[.int .i64 k,.int .i64 s,.int .u64 o,.int .u64 cd,.bool fin,.string d,y] 158 (0,0))/\W.heap[w.heap.size+1]?=some (.cells #[.int .i64 0,.bool false,.int .u8 0,.slice none 0 0] 317 (0,0))/\w.grownBy W none:=λW g=>
  ⟨(g.block _ (by simp;omega) (by simp)).trans (by rw[eI _ _ _ (by simp)];exact aH _ _),(g.block _ (by simp) (by simp)).trans (by rw[<-dC w (.cells #[.int .i64 k,.int .i64 s,.int .u64 o,.int .u64 cd,.bool fin,.string d,y] 158)];exact aH _ _),aj (aS (aC _ _ _) _) g⟩
 replace B:=J B;obtain⟨W0,C⟩:=exq ((w.alloc (.cells #[.int .i64 k,.int .i64 s,.int .u64 o,.int .u64 cd,.bool fin,.string d,y] 158)).alloc (.cells #[.int .i64 0,.bool false,.int .u8 0,.slice none 0 0] 317));rw[<-C]at B;obtain⟨D,E⟩:∃D:Nat->Prop,D=λj=>¬((bn L j).k=k/\(bn L j).fin=q):=⟨_,rfl⟩
 have a1:(fin=false/\q=false)\/(fin=true/\(k==5)=true/\q=true)\/(fin=true/\(k==5)=false/\q=false):=by
  rw[P];cases fin;simp;by_cases h5:k=5<;>simp[h5]
 clear P;replace E:=J E;obtain⟨rfl,rfl⟩|⟨rfl,X,rfl⟩|⟨rfl,X,rfl⟩:=a1
 all_goals
  go_enter func191,ntmps191
  go_wp2_with fail
  try clear X
  rw[<-C]
  replace C:=J C
  go_loopw [18] (λi wr=>∃j:Nat,j<=7/\i=.int .i64 (j:Int)/\(∀i,i<j->D i)/\W0.grownBy wr none) (λi _=>7-(intOf i).toNat)
  case atStart=>exact⟨0,by omega,rfl,λi hi=>by omega,av _ _⟩
  case round=>
   obtain⟨j,hj,rfl,z,Q⟩:=hrel
   obtain⟨b1,b2,F⟩:=Z B wr Q
   by_cases U:j<7
   ·obtain⟨c1,c2,c3,c4⟩:=Z O wr F j U;obtain⟨S,p⟩:=exq (bn L j);rw[<-p]at c1 c2 c3 c4;obtain⟨K,G,H,I,PN⟩:=S;simp only at c1 c2 c3 c4;have Y:Hid (¬(K=k/\G=_)->∀i,i<j+1->D i):=J (λhn i hi=>by
     obtain h1|rfl:=pq.1 hi
     exact z i h1
     ·rw[Z E];simp only[<-p];exact hn)
    replace z:=J z;replace p:=J p;have i1:(0:Int)<=(j:Int):=by omega
    have i2:(j:Int)<7:=by omega
    have d0:(wr.alloc (.cells #[.int .i64 K,.bool G,.int .u8 H,.slice I PN PN] 317)).cell? ⟨w.heap.size,0,none⟩=some (.int .i64 k):=by
     rw[World.cell?_alloc_past _ _ _ (aO.1 b1).1];simp[World.cell?,b1]
    replace b1:=J b1;by_cases u:K=k
    ·have eK:(K==k)=true:=by simp[u]
     replace u:=J u;have x:(wr.alloc (.cells #[.int .i64 K,.bool G,.int .u8 H,.slice I PN PN] 317)).heap[w.heap.size+1]?=some (.cells #[.int .i64 0,.bool false,.int .u8 0,.slice none 0 0] 317 (0,0)):=(eI _ _ _ (aO.1 b2).1).trans b2;have z0:=(jg x).1;have M:=(jg x).2.1;have z2:=(jg x).2.2.1;have N:=(jg x).2.2.2.1;have zf:=(jg x).2.2.2.2;replace x:=J x;replace b2:=J b2;cases G;all_goals
      first
      |(go_wp2_with fail
        go_roundw
        case rel=>exact⟨j+1,by omega,by simp,Z Y (λh=>by have:=h.2;revert this;decide),aS Q _⟩
        case measure=>simp[intOf];omega)
      |(go_wp2_with fail
        first
         |(refine cz (v:=.tuple #[.agg #[.int .i64 K,.bool false,.int .u8 H,.slice I PN PN],.bool true]) ?_ rfl ?_
           ·simp[results,results191,go_sem,z0,M,z2,N]
           ·rw[Z r];exact⟨.inl ⟨j,U,by rw[<-Z p];exact Z u,by rw[<-Z p],by rw[<-Z p]⟩,aD (aD (aD (aD (aS F _) _ _ (.inl (df _))) _ _ (.inl (df _))) _ _ (.inl (df _))) _ _ (.inl (df _))⟩)
         |(refine cz (v:=.tuple #[.agg #[.int .i64 K,.bool true,.int .u8 H,.slice I PN PN],.bool true]) ?_ rfl ?_
           ·simp[results,results191,go_sem,z0,M,z2,N]
           ·rw[Z r];exact⟨.inl ⟨j,U,by rw[<-Z p];exact Z u,by rw[<-Z p],by rw[<-Z p]⟩,aD (aD (aD (aD (aS F _) _ _ (.inl (df _))) _ _ (.inl (df _))) _ _ (.inl (df _))) _ _ (.inl (df _))⟩))
    have eK:(K==k)=false:=by simp[u]
    replace b2:=J b2;go_wp2_with fail;go_roundw;case rel=>exact⟨j+1,by omega,by simp,Z Y (λh=>u h.1),aS Q _⟩
    case measure=>simp[intOf];omega
   obtain rfl:j=7:=by omega
   have z0:=(jg b2).1
   have M:=(jg b2).2.1
   have z2:=(jg b2).2.2.1
   have N:=(jg b2).2.2.2.1
   have zf:=(jg b2).2.2.2.2
   replace b1:=J b1
   replace b2:=J b2
   replace z:=J z
   go_wp2_with fail
   refine cz (v:=.tuple #[.agg #[.int .i64 0,.bool false,.int .u8 0,.slice none 0 0],.bool false]) ?_ rfl ?_
   ·simp[results,results191,go_sem,z0,M,z2,N]
   rw[Z r]
   refine⟨.inr ⟨λi hi=>?_,rfl⟩,aD (aD (aD (aD F _ _ (.inl (df _))) _ _ (.inl (df _))) _ _ (.inl (df _))) _ _ (.inl (df _))⟩
   have:=Z z i hi
   rw[Z E]at this
   exact this
def lD(l:List Fr)(i:Nat):Fr:=l.getD i (bX 0 false)
def mr(w:World)(a:Option Addr)(n cap:Nat)(c:List Fr):Prop:=
 n=c.length/\n<=cap/\cap<=maxLen/\((a=none/\cap=0)\/∃b o,a=some ⟨b,o,none⟩/\∀i,i<c.length->∃d,cV w (lD c i) d/\w.rangeAt b (o+i*7) (eM (lD c i) d))
theorem mr.ah{d:List Fr}(h:mr w a n k d)(g:w.grownBy W none):mr W a n k d:=by
 obtain⟨e,f,j,c⟩:=h;refine⟨e,f,j,?_⟩
 obtain c|⟨b,o,rfl,c⟩:=c
 exact .inl c;refine .inr ⟨b,o,rfl,λi hi=>?_⟩;obtain⟨l,m,p⟩:=c i hi;exact⟨l,m.ah g,iK p g (by simp)⟩
theorem mr.at{a:List Fr}(h:mr w (some ⟨b,o,none⟩) n k a)(i:Nat)(hi:i<a.length):∃c,cV w (lD a i) c/\w.rangeAt b (o+i*7) (eM (lD a i) c):=by
 obtain⟨-,-,-,⟨h,-⟩|⟨d,f,e,h⟩⟩:=h;cases h;cases e;exact h i hi
theorem sJ{l:List Fr}(h:j<l.length):lD l j=l[j]:=by unfold lD;rw[List.getD,eF h];rfl
theorem Au(l r:List Fr):fk (l++r)=fk l+fk r:=by
 induction l with
 |nil=>simp[fk]
 |cons f l a=>simp only[nu,fk,a];omega
theorem xj{l:List Fr}(h:j<l.length):fk (l.take j)+lS (lD l j)<=fk l:=by
 have a:=fj fk (nZ (j+1) l);rw[Au,qc h,Au]at a;simp only[fk]at a;rw[sJ h];omega
theorem GX(h:∀j,j<7->¬((bn (bO n i l m o) j).k=H.kind/\(bn (bO n i l m o) j).fin=(H.fin&&decide (H.kind=5)))):¬(1<=H.kind/\H.kind<=6):=by
 intro b;have e:H.kind=1\/H.kind=2\/H.kind=3\/H.kind=4\/H.kind=5\/H.kind=6:=by omega
 obtain e|e|e|e|e|e:=e
 exact h 0 (by omega) (by rw[e];simp[bn,bO]);exact h 1 (by omega) (by rw[e];simp[bn,bO]);exact h 2 (by omega) (by rw[e];simp[bn,bO]);exact h 3 (by omega) (by rw[e];simp[bn,bO]);cases a:H.fin;exact h 4 (by omega) (by rw[e,a];simp[bn,bO]);exact h 5 (by omega) (by rw[e,a];simp[bn,bO]);exact h 6 (by omega) (by rw[e];simp[bn,bO])
theorem GY(a:j<7)(b:(bn (bO n i l m o) j).k=H.kind):1<=H.kind/\H.kind<=6:=by
 rw[<-b];obtain rfl|rfl|rfl|rfl|rfl|rfl|rfl:=pP a<;>simp[bn,bO]
theorem GZ{d g:Nat}(h:jr W l m o b k i d g)(r:cV W H x)(hs:dm H)(y:j<7)(f:(bn (bO m o b k i) j).k=H.kind)(p:(bn (bO m o b k i) j).fin=(H.fin&&decide (H.kind=5))):
 ∃w,Aq W H x (.slice (bn (bO m o b k i) j).pa (bn (bO m o b k i) j).n (bn (bO m o b k i) j).n) w/\cZ H=(bn (bO m o b k i) j).t::gR w/\W8 (bn (bO m o b k i) j).t:=by
 obtain⟨⟨b1,b2,s,u⟩,⟨z,A⟩,-,-⟩:=hs;have v:dH H.offset:=⟨r.1.2.2.1.1,b1⟩
 have vc:dH H.code:=⟨r.1.2.2.2.1.1,b2⟩
 obtain rfl|rfl|rfl|rfl|rfl|rfl|rfl:=pP y
 have a:H.kind=1:=f.symm;exact⟨[],⟨none,0,rfl,by simp,by simp,.inl rfl⟩,by simp[cZ,a,gR,bn,bO],by simp[W8,bn,bO]⟩
 have a:H.kind=2:=f.symm;exact⟨[],⟨none,0,rfl,by simp,by simp,.inl rfl⟩,by simp[cZ,a,gR,bn,bO],by simp[W8,bn,bO]⟩
 have a:H.kind=3:=f.symm;refine⟨[fC H.ranges],⟨some ⟨m,0,none⟩,1,rfl,by simp,by simp,.inr ⟨m,rfl,λc hi=>?_⟩⟩,by simp[cZ,a,gR,bn,bO],by simp[W8,bn,bO]⟩
 obtain rfl:c=0:=by simpa using hi
 exact⟨rW,_,_,h.p2 0 _ rfl,h.p2 1 _ rfl,GM W H x r (z a)⟩
 have a:H.kind=4:=f.symm;refine⟨[aN H.stream,aN H.code,aN H.offset],⟨some ⟨o,0,none⟩,3,rfl,by simp,by simp,.inr ⟨o,rfl,λc hi=>?_⟩⟩,by simp[cZ,a,gR,bn,bO],by simp[W8,bn,bO]⟩
 have e:c=0\/c=1\/c=2:=by simp at hi;omega
 obtain rfl|rfl|rfl:=e
 exact⟨sW,_,_,h.p3 0 _ rfl,h.p3 1 _ rfl,xi W H x s u⟩
 exact⟨nW g,_,_,h.p3 2 _ rfl,h.p3 3 _ rfl,An W H x g h.bc vc⟩
 exact⟨nW d,_,_,h.p3 4 _ rfl,h.p3 5 _ rfl,xd W H x d h.bo v⟩
 have a:H.kind=5:=f.symm;have q:H.fin=false:=by rw[a]at p;simpa [bn,bO]using p.symm
 refine⟨[aN H.stream,aN H.offset,aN H.data.size++bl H.data],⟨some ⟨b,0,none⟩,3,rfl,by simp,by simp,.inr ⟨b,rfl,λc hi=>?_⟩⟩,by simp[cZ,a,q,gR,bn,bO],by simp[W8,bn,bO]⟩
 have e:c=0\/c=1\/c=2:=by simp at hi;omega
 obtain rfl|rfl|rfl:=e
 exact⟨sW,_,_,h.p4 0 _ rfl,h.p4 1 _ rfl,xi W H x s u⟩
 exact⟨nW d,_,_,h.p4 2 _ rfl,h.p4 3 _ rfl,xd W H x d h.bo v⟩
 exact⟨bW,_,_,h.p4 4 _ rfl,h.p4 5 _ rfl,Ao W H x⟩
 have a:H.kind=5:=f.symm;have q:H.fin=true:=by rw[a]at p;simpa [bn,bO]using p.symm
 refine⟨[aN H.stream,aN H.offset,aN H.data.size++bl H.data],⟨some ⟨k,0,none⟩,3,rfl,by simp,by simp,.inr ⟨k,rfl,λc hi=>?_⟩⟩,by simp[cZ,a,q,gR,bn,bO],by simp[W8,bn,bO]⟩
 have e:c=0\/c=1\/c=2:=by simp at hi;omega
 obtain rfl|rfl|rfl:=e
 exact⟨sW,_,_,h.p5 0 _ rfl,h.p5 1 _ rfl,xi W H x s u⟩
 exact⟨nW d,_,_,h.p5 2 _ rfl,h.p5 3 _ rfl,xd W H x d h.bo v⟩
 exact⟨bW,_,_,h.p5 4 _ rfl,h.p5 5 _ rfl,Ao W H x⟩
 have a:H.kind=6:=f.symm;refine⟨[aN H.code],⟨some ⟨i,0,none⟩,1,rfl,by simp,by simp,.inr ⟨i,rfl,λc hi=>?_⟩⟩,by simp[cZ,a,gR,bn,bO],by simp[W8,bn,bO]⟩
 obtain rfl:c=0:=by simpa using hi
 exact⟨nW g,_,_,h.p6 0 _ rfl,h.p6 1 _ rfl,An W H x g h.bc vc⟩
def qv(a:List Fr):Prop:=0<a.length/\∀i,i<a.length->dm (lD a i)
def sK(w:World)(a:List Fr)(bad:Value)(g:Value->Value)(e:Ending)(b:World):Prop:=
 ((qv a/\∃c d f,e=.returned (g (.slice c d f))/\aX b w.heap.size (.slice c d f) (bu a))\/(¬qv a/\e=.returned bad))/\w.grownBy b none
theorem aX.xk(h:aX w n x L)(e:k<=n):aX w k x L:=by
 obtain⟨b,c,a⟩:=h;refine⟨b,c,?_⟩
 obtain a|⟨g,cap,cur,e1,e2,d⟩:=a
 exact .inl a;exact .inr ⟨g,cap,cur,e1,by omega,d⟩
theorem uK:(prog.info? 158).map (·.size)=some 7:=by kernel_rfl
theorem G4:(prog.info? 317).map (·.size)=some 4:=by kernel_rfl
theorem Av(w:World)(a:Option Addr)(n cap:Nat)(c:List Fr)(h:mr w a n cap c)(cx:fk c<=30000000):
 Calls prog 147 #[.slice a n cap] w (sK w c (.tuple #[.slice none 0 0,.iface 34 (.int .i64 5)]) (λv=>.tuple #[v,.nilIface])):=by
 have l:=h.1;have ey:=h.2.1;have cy:=h.2.2.1;unfold maxLen at cy;by_cases h0:n=0
 ·have e0:((n:Int)==0)=true:=by simp[h0]
  have bj:¬qv c:=λm=>by have:=m.1;omega
  replace bj:=J bj;clear h h0;go_enter func147,ntmps147;go_wp2_with fail;go_ret2;exact⟨.inr ⟨Z bj,rfl⟩,av _ _⟩
 have e0:((n:Int)==0)=false:=by simp[h0]
 obtain⟨b,o,rfl⟩:∃b o,a=some ⟨b,o,none⟩:=by
  obtain⟨-,-,-,⟨rfl,hc⟩|⟨b,o,rfl,-⟩⟩:=h;omega;exact⟨b,o,rfl⟩
 replace l:=J l;go_enter func147,ntmps147;go_wp2_with fail;refine(At w).mono ?_;rintro e A⟨T,B,C,D,E,F,Bo,Bc,rfl,hT,M⟩;have h1:=h.ah M;go_wp2_with fail;go_loopw [4,17] (λv i wr=>∃(j:Nat)(R:Option Addr)(U V:Nat),j<=n/\i=.int .i64 (j:Int)/\v=.slice R U V/\dp A A.heap.size (.slice none 0 0) wr v (bu (c.take j))/\∀i,i<j->dm (lD c i)) (λ_ i _=>n-(intOf i).toNat);case atStart=>exact⟨0,none,0,0,by omega,rfl,rfl,dp.refl (aX.nil _ _),λi hi=>by omega⟩
 case round=>
  obtain⟨j,R,U,V,hj,rfl,rfl,r,X⟩:=hrel;have u:=r.old (av _ _) (aX.nil _ _) (aI _);by_cases eL:j<n
  ·obtain⟨rv,N,cj⟩:=h1.at j (by have:=Z l;omega);have p:=iK cj u (by simp);obtain⟨f,q⟩:=exq (lD c j);rw[<-q]at N p;clear cj;obtain⟨-,-,ra,x,cp,-⟩:=id N;generalize db:f.ranges.length=rl at cp;subst cp;have Y:=λW(g:A.grownBy W none)=>GW W T B C D E F Bo Bc (hT.ah g) f (.slice ra rl x)
   have al:=λW(g:A.grownBy W none)=>zm f (.slice ra rl x) W (N.ah g)
   have ax:=λ(bx:List (List Int))(k0:Int)(dg:Bool)(t:Int)(pv:Value)=>GQ A f (.slice ra rl x) pv bx k0 dg t
   have bz:=λ(hs:dm f)(i:Nat)(hi:i<7)=>GZ hT N hs hi
   have bL:=λ(i:Nat)(hi:i<7)=>GY (H:=f) (n:=B) (i:=C) (l:=D) (m:=E) (o:=F) hi
   have bM:=GX (H:=f) (n:=B) (i:=C) (l:=D) (m:=E) (o:=F);have bP:fk (c.take j)+lS f<=fk c:=by rw[q];exact xj (by have:=Z l;omega)
   have bS:=ud f;have b0:=yP (c.take j);have b3:lS f=25+16*f.ranges.length+f.data.size:=rfl;have b4:bu (c.take (j+1))=bu (c.take j)++cZ f:=by rw[D2 c j (by have:=Z l;omega),q,sJ (by have:=Z l;omega)]
   generalize bO B C D E F=L at *;clear hT N db;obtain⟨k,s,O,cd,fin,d,rg⟩:=f;have c0:wr.cell? ⟨b,o+j*7,none⟩=some (.int .i64 k):=p 0 _ rfl;have c1:wr.cell? ⟨b,o+j*7+1,none⟩=some (.int .i64 s):=p 1 _ rfl;have c2:wr.cell? ⟨b,o+j*7+2,none⟩=some (.int .u64 O):=p 2 _ rfl;have c3:wr.cell? ⟨b,o+j*7+3,none⟩=some (.int .u64 cd):=p 3 _ rfl;have c4:wr.cell? ⟨b,o+j*7+4,none⟩=some (.bool fin):=p 4 _ rfl;have c5:wr.cell? ⟨b,o+j*7+5,none⟩=some (.string d):=p 5 _ rfl;have c6:wr.cell? ⟨b,o+j*7+6,none⟩=some (.slice ra rl x):=p 6 _ rfl;clear p;simp only[bF]at Y al ax;have i1:(0:Int)<=(j:Int):=by omega
   have i2:(j:Int)<(n:Int):=by omega
   have cv:Hid ((wr.alloc (.cells #[.int .i64 k,.int .i64 s,.int .u64 O,.int .u64 cd,.bool fin,.string d,.slice ra rl x] 158)).heap[wr.heap.size]?=some (.cells #[.int .i64 k,.int .i64 s,.int .u64 O,.int .u64 cd,.bool fin,.string d,.slice ra rl x] 158 (0,0))):=J (aH _ _);have dn:=J cx;replace Y:=J Y;replace al:=J al;replace ax:=J ax;replace bz:=J bz;replace bL:=J bL;replace bM:=J bM;replace X:=J X;replace r:=J r;replace u:=J u;replace q:=J q;replace bP:=J bP;replace bS:=J bS;replace b0:=J b0;replace b3:=J b3;replace b4:=J b4;replace h1:=J h1;replace h:=J h;have ds:=J uK;have du:=J G4;obtain⟨WB,G⟩:=exq (wr.alloc (.cells #[.int .i64 k,.int .i64 s,.int .u64 O,.int .u64 cd,.bool fin,.string d,.slice ra rl x] 158));have P:Hid (wr.grownBy WB none):=J (by rw[G];exact aC _ _ _);have e5:WB.heap.size=wr.heap.size+1:=by rw[G];simp
   rw[<-G]at cv;go_wp2_with fail;rw[<-G];replace G:=J G;clear c0 c1 c2 c3 c4 c5 c6;refine(Z Y WB (aj (Z u) (Z P))).mono ?_;rintro e H⟨⟨i,hi,m,hq,rfl⟩|⟨cw,rfl⟩,g3⟩
   ·have hp:=λhs=>Z bz hs i hi m hq
    have a1:=Z bL i hi m;generalize bn L i=S at *;obtain⟨K,FN,TT,PA,PN⟩:=S;simp only at m hq hp a1;obtain⟨W4,y⟩:=exq (H.alloc (.cells #[.int .i64 K,.bool FN,.int .u8 TT,.slice PA PN PN] 317));have g4:H.grownBy W4 none:=by rw[y];exact aC _ _ _
    have cf:W4.heap[H.heap.size]?=some (.cells #[.int .i64 K,.bool FN,.int .u8 TT,.slice PA PN PN] 317 (0,0)):=by rw[y];exact aH _ _
    have e6:W4.heap.size=H.heap.size+1:=by rw[y];simp
    have a3:=aj g3 g4;have a4:=(a3.block wr.heap.size (by omega) (by simp)).trans (Z cv);have a8:=aj (aj (Z u) (Z P)) a3;obtain⟨d0,d1,d2,d3,d4,d5,d6⟩:=cH a4;rw[y]at d0 d1 d2 d3 d4 d5 d6;have e7:=g3.size;replace hp:=J hp;replace a1:=J a1;replace m:=J m;replace hq:=J hq;replace cf:=J cf;replace a4:=J a4;go_wp2_with fail;rw[<-y];replace y:=J y;clear d0 d1 d2 d3 d4 d5 d6;refine(Z al W4 a8).mono ?_;rintro e w5⟨⟨bo,rfl,Q⟩,z⟩;have dG:=J ((z.block H.heap.size (by omega) (by simp)).trans (Z cf));have ee:=J ((z.block wr.heap.size (by omega) (by simp)).trans (Z a4));replace Q:=J Q;cases bo
    ·go_wp2_with fail;go_ret2;refine⟨.inr ⟨λm=>?_,rfl⟩,aj M (aj a8 z)⟩
     have I:=m.2 j (by have:=Z l;omega);rw[<-Z q]at I;have:=(Z Q).2 ⟨I.1,I.2.1⟩;cases this
    have a9:dm ⟨k,s,O,cd,fin,d,rg⟩:=⟨((Z Q).1 rfl).1,((Z Q).1 rfl).2,Z a1⟩
    obtain⟨bx,hP,bb,eg⟩:=Z hp a9;have hC:=Z ax bx K FN TT (.slice PA PN PN) eg hP w5 A.heap.size R U V (bu (c.take j)) (aj a8 z) (aI _) (aj a8 z).size ((Z r).still (aj (Z P) (aj a3 z))).own (by
     have q1:=Z bP;have q2:=Z bS;have q3:=Z b0;have q4:=Z b3;rw[bb,dJ]at q2;try dsimp only at q4
     try dsimp only
     have q5:=Z dn;omega)
    replace hC:=J hC;replace bb:=J bb;replace a9:=J a9;replace hP:=J hP;go_wp2_with (first
     |(refine oj (by rfl) 317 _ (by rfl) H.heap.size (by rfl) 317 _ (0,0) _ (Z dG) underlying317 (by rfl) (Z du) ?_)
     |(refine oj (by rfl) 158 _ (by rfl) wr.heap.size (by rfl) 158 _ (0,0) _ (Z ee) underlying158 (by rfl) (Z ds) ?_))
    refine(Z hC).mono ?_;rintro e w6⟨a6,n6,c6,rfl,G6⟩;go_wp2_with fail;go_roundw;case rel=>
     refine⟨j+1,a6,n6,c6,by omega,by simp,rfl,?_,λi hi=>?_⟩
     rw[Z b4,Z bb];exact((Z r).still (aj (Z P) (aj a3 z))).trans G6;obtain h9|rfl:=pq.1 hi
     exact Z X i h9;rw[<-Z q];exact Z a9
    case measure=>simp[intOf];omega
   have ew:=J (Z bM cw);clear cw;go_wp2_with fail;go_ret2;refine⟨.inr ⟨λm=>?_,rfl⟩,aj M (aj (aj (Z u) (Z P)) (aS g3 _))⟩
   have I:=m.2 j (by have:=Z l;omega);rw[<-Z q]at I;exact Z ew I.2.2
  obtain rfl:j=n:=by omega
  go_wp2_with fail;go_ret2;refine⟨.inl ⟨⟨by have:=Z l;omega,λi hi=>X i (by have:=Z l;omega)⟩,R,U,V,rfl,?_⟩,aj M u⟩
  rw[eG (by have:=Z l;omega)]at r;exact r.own.xk M.size
abbrev PN:Ending:=.panicked [{v:=.iface 34 (.int .i64 5),recovered:=false}]
def cI(w:World)(X:Nat)(sl:Value)(p st:Nat):Prop:=w.heap[X]?=some (.cells #[sl,.int .i64 (p:Int),.int .i64 (st:Int)] 311 (0,0))
theorem sL(h:w.heap[b]?=some (.cells #[x,y,z] T (0,0))):w.cell? ⟨b,0,none⟩=some x/\w.cell? ⟨b,1,none⟩=some y/\w.cell? ⟨b,2,none⟩=some z/\∀o,w.frozen? ⟨b,o,none⟩=false:=by
 simp[World.cell?,World.frozen?,h]
theorem cI.set{w:World}(h:cI w n x k i)(q:Nat):cI (w.setCell ⟨n,1,none⟩ (.int .i64 (q:Int))) n x q i:=by
 unfold cI at *;rw[heap_set h];rfl
theorem BS.jB(h:BS w b o L)(n:Nat):BS w b o (L.take n):=by
 refine⟨λi hi=>?_,λx a=>h.2 x (iY a)⟩
 rw[cC]at hi;rw[h.1 i (by omega)];simp[show i<n by omega]
theorem BS.G7(h:BS w b o L)(n:Nat):BS w b (o+n) (L.drop n):=by
 refine⟨λi hi=>?_,λx a=>h.2 x (iZ a)⟩
 rw[dO]at hi;have:=h.1 (n+i) (by omega);rw[show o+n+i=o+(n+i) by omega,this];simp[qg]
theorem G9(n x:Int)(h0:0<=n)(d:n<72057594037927936)(a:W8 x):bits .or .u64 (n*256) x=n*256+x:=by
 obtain⟨c,f⟩:=a;obtain⟨m,rfl⟩:=pr h0;obtain⟨y,rfl⟩:=pr c;have e:((m:Int)*256)=((m*256:Nat):Int):=by omega
 rw[e,u64_or_nat _ _ (by omega) (by omega)];have:=vN (i:=8) (b:=y) (by omega) m;rw[Nat.shiftLeft_eq]at this;rw[show m*256=m*2^8 from rfl,<-this];omega
theorem rC(X:Nat)(w:World):Calls prog 188 #[.pointer (some ⟨X,0,none⟩)] w λe a=>e=PN/\a=w:=by
 go_enter func188,ntmps188;go_wp2_with fail;exact⟨rfl,rfl,rfl⟩
theorem uL(X a o n cap:Nat)(l:List Int)(p st:Nat)(k:Nat)(r:Int)(u:r=(k:Int))(w:World)(f:cI w X (.slice (some ⟨a,o,none⟩) n cap) p st)(h:bh w (some ⟨a,o,none⟩) n cap l)(v:a≠X)(hp:p<=l.length)(hl:l.length<=100000000)(C:k<4611686018427387904):
 Calls prog 233 #[.pointer (some ⟨X,0,none⟩),.int .u64 r] w λe d=>
  w.grownBy d (some X)/\((l.length-p<k/\e=PN/\cI d X (.slice (some ⟨a,o,none⟩) n cap) p st)\/(k<=l.length-p/\∃s t,e=.returned (.slice s k t)/\bh d s k t ((l.drop p).take k)/\cI d X (.slice (some ⟨a,o,none⟩) n cap) (p+k) st)):=by
 subst u;obtain⟨D,E,F,G⟩:=sL f;have c:n=l.length:=h.2.1;have H:=h.2.2.1;have y:=h.2.2.2.1;unfold maxLen at y;have I:IntKind.i64.wrap ((n:Int)-(p:Int))=(n:Int)-(p:Int):=by simp[IntKind.wrap,IntKind.bits,IntKind.signed];omega
 have K:IntKind.u64.wrap ((n:Int)-(p:Int))=(n:Int)-(p:Int):=by rw[eH];omega
 have L:IntKind.i64.wrap (k:Int)=(k:Int):=by simp[IntKind.wrap,IntKind.bits,IntKind.signed];omega
 replace c:=J c;by_cases b:l.length-p<k
 ·have e1:decide ((n:Int)-(p:Int)<(k:Int))=true:=bp (by have:=Z c;omega);replace b:=J b;go_enter func233,ntmps233;go_wp2_with fail;go_quiet (fail);go_wp2_with (go_at_call 188;refine(rC X _).mono ?_;rintro e d⟨rfl,rfl⟩);exact⟨rfl,cO (dh (av _ _) _) _,.inl ⟨Z b,rfl,f⟩⟩
 have e1:decide ((n:Int)-(p:Int)<(k:Int))=false:=bB (by have:=Z c;omega);have M:(0:Int)<=(p:Int):=by omega
 have N:(p:Int)<=(p:Int)+(k:Int):=by omega
 have O:(p:Int)+(k:Int)<=(cap:Int):=by have:=Z c;omega
 have P:IntKind.i64.wrap ((p:Int)+(k:Int))=(p:Int)+(k:Int):=by simp[IntKind.wrap,IntKind.bits,IntKind.signed];omega
 replace b:=J b;by_cases i:cap=p
 ·subst i;go_enter func233,ntmps233;go_wp2_with fail;go_quiet (fail);go_wp2_with fail;go_quiet (fail);go_wp2_with fail;go_ret;obtain rfl:k=0:=by have:=Z b;have:=Z c;omega
  refine⟨dh (aD (cO (dh (av _ _) _) _) _ _ (.inr rfl)) _,.inr ⟨by omega,some ⟨a,o,none⟩,0,rfl,?_,?_⟩⟩
  exact⟨λx j=>by simp at j,by simp,aI _,by simp[maxLen],.inr ⟨_,_,rfl,by simpa using BS.nil _ _ _⟩⟩
  exact cI.set (w:=w.drewN _) f (cap+0)
 have Q:(cap=p)=False:=by simp[i]
 clear i;have key:Hid (∀m:World,w.grownBy m (some X)->bh m (some ⟨a,o+p,none⟩) k (cap-p) ((l.drop p).take k)):=J (λm g=>by
  obtain⟨z,-,-,-,⟨q,-⟩|⟨R,S,q,A⟩⟩:=h;cases q
  ·cases q;have B:=(A.gb g (λe=>v (aJ e).symm)).G7 p;exact⟨λx j=>z x (iZ (iY j)),by have:=Z b;simp;omega,by have:=Z c;have:=Z b;omega,by simp[maxLen];omega,.inr ⟨_,_,rfl,B.jB k⟩⟩)
 go_enter func233,ntmps233;go_wp2_with fail;go_quiet (fail);go_wp2_with fail;go_quiet (fail);go_wp2_with fail;go_ret;refine⟨dh (aD (cO (dh (av _ _) _) _) _ _ (.inr rfl)) _,.inr ⟨by have:=Z b;omega,some ⟨a,o+p,none⟩,cap-p,(by show Ending.returned (.slice (some ⟨a,o+p,none⟩) (p+k-p) (cap-p))=_;rw[rZ]),?_,?_⟩⟩
 exact Z key _ (dh (aD (cO (dh (av _ _) _) _) _ _ (.inr rfl)) _);exact cI.set (w:=w.drewN _) f (p+k)
theorem Ha(h:W8 t):(eC t=1/\t/64=0)\/(eC t=2/\t/64=1)\/(eC t=4/\t/64=2)\/(eC t=8/\t/64=3):=by
 unfold W8 at h;unfold eC;by_cases a:t<64;left;simp[a];omega;by_cases b:t<128;right;left;simp[a,b];omega;by_cases c:t<192;right;right;left;simp[a,b,c];omega;right;right;right;simp[a,b,c];omega
theorem Hb(h:W8 t):bits .and .u8 t 63=t %64:=by
 obtain⟨h0,a⟩:=h;obtain⟨m,rfl⟩:=pr h0;have e:(63:Int)=((63:Nat):Int):=rfl;rw[e,u8_and_nat _ _ (by omega) (by omega)];have:=Nat.and_two_pow_sub_one_eq_mod m 6;simp only[Nat.reducePow,Nat.reduceSub]at this;rw[this];rfl
def Ax(w:World)(X:Nat)(sl:Value)(st:Nat)(r:Option (Int×Nat))(e:Ending)(a:World):Prop:=
 w.grownBy a (some X)/\((∃v q,r=some (v,q)/\e=.returned (.int .u64 v)/\cI a X sl q st)\/(r=none/\e=PN/\∃b,cI a X sl b st))
theorem sM(h:bh w a n k L)(d:0<n):∃b o,a=some ⟨b,o,none⟩/\∀i,i<n->w.cell? ⟨b,o+i,none⟩=some (.int .u8 (L.getD i 0)):=by
 obtain⟨-,e,f,-,⟨rfl,c⟩|⟨b,o,rfl,c⟩⟩:=h;omega;exact⟨b,o,rfl,λi hi=>c.1 i (by omega)⟩
theorem xm(l:List Int)(p k i:Nat)(h:i<k):((l.drop p).take k).getD i 0=l.getD (p+i) 0:=by
 simp[List.getD,qg,h]
theorem Ay(h:L.length<n+eC (L.getD n 0)):cK L n=none:=by unfold cK;rw[ay (by omega)]
theorem Hc(h:n+eC (L.getD n 0)<=L.length):cK L n=some (iM L n (eC (L.getD n 0)-1),n+eC (L.getD n 0)):=by unfold cK;rw[aM h]
theorem sN(X b o n cap:Nat)(l:List Int)(p st:Nat)(w:World)(S:cI w X (.slice (some ⟨b,o,none⟩) n cap) p st)(s:bh w (some ⟨b,o,none⟩) n cap l)(u:b≠X)(hp:p<=l.length)(hl:l.length<=100000000):
 Calls prog 274 #[.pointer (some ⟨X,0,none⟩)] w (Ax w X (.slice (some ⟨b,o,none⟩) n cap) st (cK l p)):=by
 have y:=s.1;have T:Hid (∀W,w.grownBy W (some X)->bh W (some ⟨b,o,none⟩) n cap l):=J (λW g=>s.gb g (λj e=>.inr (.inr (λx U=>by cases U;cases e;exact u))));go_enter func274,ntmps274;go_wp2_with fail;refine(uL X b o n cap l p st 1 1 rfl w S s u hp hl (by omega)).mono ?_;rintro e I⟨m,⟨hs,rfl,z⟩|⟨hs,a1,c1,rfl,A,z⟩⟩;exact⟨rfl,m,.inr ⟨Ay (by have:=su (l.getD p 0);omega),rfl,p,z⟩⟩
 obtain⟨b1,o1,rfl,B⟩:=sM A (by omega);have C:=B 0 (by omega);rw[xm _ _ _ _ (by omega),lO,lO]at C;have q:=pI y p;have a:=Ha q;have L:=Hb q;obtain⟨t,c⟩:=exq (l.getD p 0);rw[<-c]at C q a L;have D:iM l p 0=t %64:=by rw[c];rfl
 have M:Hid (l.length<p+eC t->cK l p=none):=J (λh=>Ay (by rw[<-c];exact h));have N:Hid (p+eC t<=l.length->cK l p=some (iM l p (eC t-1),p+eC t)):=J (λh=>by rw[c]at h⊢;exact Hc h);obtain⟨t0,t1⟩:=q;replace c:=J c;replace B:=J B;replace A:=J A;replace D:=J D;obtain⟨K,r⟩:=exq (eC t-1);have a4:K<=7:=by have:=su t;omega
 have O:Hid (eC t=K+1):=J (by have:=su t;omega);rw[Z O,qL]at N;rw[Z O]at M;have E:=vY y p;replace E:=J E;obtain⟨a,hd⟩|⟨a,hd⟩|⟨a,hd⟩|⟨a,hd⟩:=a
 all_goals
  rw[a]at r
  replace r:=J r
  replace a:=J a
  go_wp2_with fail
  refine(uL X b o n cap l (p+1) st K _ (by have:=Z r;omega) I z (Z T I m) u (by omega) hl (by omega)).mono ?_
  rintro e V⟨P,⟨Y,rfl,F⟩|⟨Y,a2,c2,rfl,d,F⟩⟩
  exact⟨rfl,aj m P,.inr ⟨Z M (by omega),rfl,p+1,F⟩⟩
  have al:Hid (∀j,j<K->∃b2 f,a2=some ⟨b2,f,none⟩/\V.cell? ⟨b2,f+j,none⟩=some (.int .u8 (l.getD (p+1+j) 0))):=J (λj G=>by
   obtain⟨b2,f,h1,h2⟩:=sM d (by omega);exact⟨b2,f,h1,by rw[h2 j G,xm _ _ _ _ G]⟩)
  have a8:K<=c2:=d.2.2.1
  have ax:=d.2.2.2.1
  unfold maxLen at ax
  have a0:=J (Z N (by omega))
  replace d:=J d
  clear C L hd
  go_wp2_with fail
  go_loop [4,21] (λv i=>∃j:Nat,j<=K/\i=.int .i64 (j:Int)/\v=.int .u64 (iM l p j)) (λ_ i=>K-(intOf i).toNat)
  case atStart=>exact⟨0,by omega,rfl,by rw[Z D]⟩
  case round=>
   obtain⟨j,G,rfl,rfl⟩:=hrel
   by_cases a3:j<K
   ·obtain⟨b2,f,rfl,x2⟩:=Z al j a3;have Q:=pI y (p+1+j);have H:iM l p (j+1)=iM l p j*256+l.getD (p+1+j) 0:=by
     show iM l p j*256+l.getD (p+j+1) 0=_;rw[show p+j+1=p+1+j by omega]
    have R:=Z E j;have a9:(256:Int)^j<=256^6:=by
     have:(256:Nat)^j<=256^6:=vP (by decide) (by omega);have e:∀k:Nat,(256:Int)^k=((256^k:Nat):Int):=λk=>by simp
     rw[e,e];omega
    have ho:=G9 (iM l p j) (l.getD (p+1+j) 0) R.1 (by omega) Q;have bb:iM l p j<72057594037927936:=by omega
    obtain⟨bj,-⟩:=R;replace H:=J H;generalize iM l p j=v at *;generalize l.getD (p+1+j) 0=x at *;obtain⟨x0,x9⟩:=Q;have br:IntKind.u64.wrap (v*256)=v*256:=by rw[eH];omega
    have i1:(0:Int)<=(j:Int):=by omega
    have i2:(j:Int)<(K:Int):=by omega
    go_wp2_with fail;go_round;case rel=>exact⟨j+1,by omega,by simp,by rw[Z H]⟩
    case measure=>simp[intOf];omega
   obtain rfl:j=K:=by omega
   go_wp2_with fail
   go_ret
   exact⟨aj m P,.inl ⟨iM l p j,p+(j+1),Z a0,rfl,by rw[show p+(j+1)=p+1+j by omega];exact F⟩⟩
def dV(w:World)(a:Nat)(v:Value)(l:List Rg):Prop:=(∀r∈l,r.ok)/\w.ownsRow a 200 2 v l.length (bY l)
theorem dV.lt(h:dV w n x Y):∀k,x.ownBlock=some k->n<=k/\k<w.heap.size:=h.2.lt
theorem dV.gb(h:dV w n x Y)(g:w.grownBy W N)(a:x.ownBlock=none\/x.ownBlock≠N):dV W n x Y:=⟨h.1,h.2.kept g a⟩
theorem dV.ah(h:dV w n x Y)(g:w.grownBy W none):dV W n x Y:=h.gb g (by cases x.ownBlock<;>simp)
theorem dV.km(h:dV w k (.slice a n i) Y):ba w a n i Y/\∀x,a=some x->k<=x.block:=by
 obtain⟨d,l,m⟩:=h;obtain⟨e,p⟩|⟨g,cap,cur,e,aa,q,r,hm,hs,s⟩:=m
 cases e;exact⟨⟨d,p.symm,by simp,by simp[maxLen],.inl rfl⟩,λx b=>by cases b⟩
 cases e;refine⟨⟨d,rfl,r,hm,.inr ⟨g,0,rfl,λj v c=>?_⟩⟩,λx b=>by cases b;exact aa⟩
 have f:j<(bY Y).length:=(iX.1 c).1;rw[<-s,jO,aM (by rw[l]at f;exact f)]at c;simp only[World.cell?,q,dv]
 simpa using c
theorem Az:(prog.info? 200).map (λi=>(i.zero,i.size,i.bytes))=some (some (.agg #[.int .u64 0,.int .u64 0]),2,16):=by kernel_rfl
theorem He(l m:List Rg):bY (l++m)=bY l++bY m:=by simp[bY]
theorem Hf(w:World)(r:Rg)(b:r.ok)(a:Nat)(c:a<=w.heap.size):dV (w.alloc (.cells #[.int .u64 r.lo,.int .u64 r.hi] 200)) a (.slice (some ⟨w.heap.size,0,none⟩) 1 1) [r]:=
 ⟨λx d=>by rw[dB.1 d];exact b,by simp[bY],.inr ⟨w.heap.size,1,#[.int .u64 r.lo,.int .u64 r.hi],rfl,c,aH w _,aI _,by simp[maxLen],by simp,by simp[bY]⟩⟩
theorem AA(ty:TypeId)(e:Nat)(v:Value)(l:List Rg)(n:dV w e v l)(b o c:Nat)(r:Rg)(x:r.ok)(h0:w.cell? ⟨b,o,none⟩=some (.int .u64 r.lo))(z:w.cell? ⟨b,o+1,none⟩=some (.int .u64 r.hi))(I:l.length<=100000000)(A:e<=w.heap.size):
 ∃f i k a,(Builtin.append_ #[133,133] ty #[v,.slice (some ⟨b,o,none⟩) 1 c]).run prog w=.ok (.slice f i k) a/\dV a e (.slice f i k) (l++[r])/\w.grownBy a v.ownBlock/\((Value.slice f i k).ownBlock=v.ownBlock\/(Value.slice f i k).ownBlock=some w.heap.size):=by
 obtain⟨B,hi,C,D,E⟩:=kj Az;obtain⟨F,a,p,G,q,_,s⟩:=run_append_own_at (P:=prog) w e 133 ty 200 B (.agg #[.int .u64 0,.int .u64 0]) 2 16 underlying133 hi C D E rfl (by decide) v l.length (bY l) n.2 ⟨b,o,none⟩ 1 c (bY [r]) rfl (by
  intro j u d;rw[Addr.add_mid];match j,d with
  |0,d=>simp[bY]at d;rw[<-d];exact h0
  |1,d=>simp[bY]at d;rw[<-d];exact z) (by
  intro u t;simp[bY]at t;obtain rfl|rfl:=t<;>rfl) (by simp[maxLen];omega) (by omega) A
 have m:dV a e F (l++[r]):=⟨λy H=>(ck.1 H).elim (n.1 y) (λh=>by rw[dB.1 h];exact x),by rw[bG,He];exact G⟩
 obtain⟨-,-,⟨rfl,e2⟩|⟨g,cap,K,rfl,_⟩⟩:=id m;exact⟨_,_,_,a,p,m,q,s⟩
 exact⟨_,_,_,a,p,m,q,s⟩
theorem Hg{rest:List Oper}(k:I.guard=none)(s x:Operand)
 (ho:I.op=.call {callee:=.builtin .append,args:= #[s,x],argTypes:= #[133,133]})
 (i:Nat) (v:Value) (l:List Rg) (hs:f.eval s=v) (m:dV w i v l) (b j c:Nat) (r:Rg) (n:r.ok) (p:f.eval x=.slice (some ⟨b,j,none⟩) 1 c) (h0:w.cell? ⟨b,j,none⟩=some (.int .u64 r.lo)) (q:w.cell? ⟨b,j+1,none⟩=some (.int .u64 r.hi)) (t:l.length<=100000000) (u:i<=w.heap.size)
 (h:∀a d e g,dV g i (.slice a d e) (l++[r])->w.grownBy g v.ownBlock->((Value.slice a d e).ownBlock=v.ownBlock\/(Value.slice a d e).ownBlock=some w.heap.size)->
   wpList prog F G rest (f.put I.dst (.slice a d e)) g):wpList prog F G (I::rest) f w:=
 qk k λ_ y=>by
  obtain⟨a,d,e,g,z,A,B,C⟩:=AA (w:=w) I.type i v l m b j c r n h0 q t u;unfold Oper.wp execOp;simp only[ho,resolve,invoke,builtin,ie,kN,ic,lN,ki,kO,hs,p,z]
  exact y _ _ (h a d e g A B C)
def Hh(w:World)(X:Nat)(sl:Value)(st:Nat)(r:Option (Int×Nat))(e:Ending)(a:World):Prop:=
 w.grownBy a (some X)/\((∃v q,r=some (v,q)/\e=.returned (.int .i64 v)/\cI a X sl q st)\/(r=none/\e=PN/\∃b,cI a X sl b st))
theorem Hi(X b o n cap:Nat)(l:List Int)(p st:Nat)(w:World)(i:cI w X (.slice (some ⟨b,o,none⟩) n cap) p st)(h:bh w (some ⟨b,o,none⟩) n cap l)(j:b≠X)(hp:p<=l.length)(hl:l.length<=100000000):
 Calls prog 268 #[.pointer (some ⟨X,0,none⟩)] w (Hh w X (.slice (some ⟨b,o,none⟩) n cap) st (jx l p)):=by
 have k:=h.1;go_enter func268,ntmps268;go_wp2_with fail;refine(sN X b o n cap l p st w i h j hp hl).mono ?_;rintro e r⟨f,⟨v,q,a,rfl,d⟩|⟨a,rfl,d⟩⟩
 ·have m:=kk k a;obtain⟨⟨s,t⟩,-⟩:=m;replace a:=J a;by_cases u:4<=v
  ·have c:jx l p=none:=by unfold jx;rw[Z a];simp;omega
   replace c:=J c;go_wp2_with (go_at_call 188;refine(rC X _).mono ?_;rintro e x⟨rfl,rfl⟩);exact⟨rfl,f,.inr ⟨Z c,rfl,q,d⟩⟩
  have g:jx l p=some (v,q):=by unfold jx;rw[Z a];simp;omega
  replace g:=J g;have y:IntKind.i64.wrap v=v:=by simp[IntKind.wrap,IntKind.bits,IntKind.signed];omega
  go_wp2_with fail;go_ret;exact⟨f,.inl ⟨v,q,Z g,rfl,d⟩⟩
 have c:jx l p=none:=by unfold jx;rw[a];rfl
 exact⟨rfl,f,.inr ⟨c,rfl,d⟩⟩
def Hj(x y:Int)(w:World)(e:Ending)(a:World):Prop:=a=w/\((y<=x/\e=.returned (.int .u64 (x-y)))\/(x<y/\e=PN))
theorem xp(X:Nat)(x y:Int)(w:World)(a:aR x)(b:aR y):Calls prog 296 #[.pointer (some ⟨X,0,none⟩),.int .u64 x,.int .u64 y] w (Hj x y w):=by
 unfold aR at a b;by_cases h:x<y
 ·go_enter func296,ntmps296;go_wp2_with (go_at_call 188;refine(rC X _).mono ?_;rintro e c⟨rfl,rfl⟩);exact⟨rfl,rfl,.inr ⟨h,rfl⟩⟩
 have d:=rA (p:=x) (q:=y) (by omega) (by omega);go_enter func296,ntmps296;go_wp2_with fail;go_ret;exact⟨rfl,.inl ⟨by omega,rfl⟩⟩
def JR(w:World)(X:Nat)(sl:Value)(st:Nat)(r:Option (List Rg×Nat))(e:Ending)(a:World):Prop:=
 w.grownBy a (some X)/\((∃rs q b c d,r=some (rs,q)/\e=.returned (.slice b c d)/\ba a b c d rs/\(∀x,b=some x->w.heap.size<=x.block)/\cI a X sl q st)\/(r=none/\e=PN/\∃f,cI a X sl f st))
theorem cI.gb(h:cI w n x k i)(g:w.grownBy W N)(a:N≠some n):cI W n x k i:=
 (g.block n (aO.1 h).1 (λe=>a e.symm)).trans h
theorem cI.lt(h:cI w n x k i):n<w.heap.size:=(aO.1 h).1
theorem JS(X d o n cap:Nat)(l:List Int)(p st:Nat)(w:World)(hX:cI w X (.slice (some ⟨d,o,none⟩) n cap) p st)(U:bh w (some ⟨d,o,none⟩) n cap l)(bb:d≠X)(hp:p<=l.length)(hl:l.length<=100000000):
 Calls prog 271 #[.pointer (some ⟨X,0,none⟩)] w (JR w X (.slice (some ⟨d,o,none⟩) n cap) st (jq l p)):=by
 have C:=U.1;have b6:=hX.lt;have bj:∀W,w.grownBy W (some X)->bh W (some ⟨d,o,none⟩) n cap l:=λW g=>U.gb g (λj e=>.inr (.inr (λx V=>by cases V;cases e;exact bb)))
 have D:Hid (∀(W:World)(q:Nat),w.grownBy W (some X)->cI W X (.slice (some ⟨d,o,none⟩) n cap) q st->q<=l.length->Calls prog 274 #[.pointer (some ⟨X,0,none⟩)] W (Ax W X (.slice (some ⟨d,o,none⟩) n cap) st (cK l q))):=J (λW q g V Y=>sN X d o n cap l q st W V (bj W g) bb Y hl);clear bj U;go_enter func271,ntmps271;go_wp2_with fail;refine(Z D w p (av _ _) hX hp).mono ?_;rintro e w1⟨P,⟨hi,q1,f,rfl,al⟩|⟨f,rfl,al⟩⟩;rotate_left
 exact⟨rfl,P,.inr ⟨by unfold jq;rw[f];rfl,rfl,al⟩⟩
 obtain⟨⟨a0,a1⟩,a2,a3⟩:=kk C f;replace f:=J f;go_wp2_with fail;refine(Z D w1 q1 P al a3).mono ?_;rintro e w2⟨A,⟨br,q2,r,rfl,ax⟩|⟨r,rfl,ax⟩⟩;rotate_left
 exact⟨rfl,aj P A,.inr ⟨by unfold jq;rw[Z f];simp[r],rfl,ax⟩⟩
 obtain⟨⟨b0,b1⟩,b2,b3⟩:=kk C r;replace r:=J r;replace A:=aj P A;go_wp2_with fail;refine(Z D w2 q2 A ax b3).mono ?_;rintro e E⟨t,⟨sz,q3,u,rfl,Q⟩|⟨u,rfl,Q⟩⟩;rotate_left
 exact⟨rfl,aj A t,.inr ⟨by unfold jq;rw[Z f];simp[Z r,u],rfl,Q⟩⟩
 obtain⟨⟨c0,c1⟩,c2,c3⟩:=kk C u;replace u:=J u;replace t:=aj A t;go_wp2_with fail;refine(xp X hi sz E ⟨by omega,by omega⟩ ⟨by omega,by omega⟩).mono ?_;rintro e F⟨rfl,⟨bP,rfl⟩|⟨b8,rfl⟩⟩;rotate_left
 exact⟨rfl,t,.inr ⟨by unfold jq;rw[Z f];simp[Z r,Z u];omega,rfl,q3,Q⟩⟩
 obtain⟨E,rfl⟩:=exq F;obtain⟨M,G⟩:∃M:Nat,(M:Int)=br:=⟨br.toNat,by omega⟩
 have R:jq l p=jo l M q3 (hi-sz) [⟨hi-sz,hi⟩]:=by
  unfold jq;rw[Z f];simp only[eB,Z r,Z u,bP,fJ]
  rw[<-G,jP]
 have S:=Hf E ⟨hi-sz,hi⟩ ⟨⟨by simp;omega,by simp;omega⟩,by simp;omega,by simp;omega⟩ w.heap.size t.size;have ca:=t.size;rw[<-G];replace G:=J G;replace R:=J R;replace S:=J S;have bt:=J (Q.gb (aC E (.cells #[.int .u64 (hi-sz),.int .u64 hi] 200) none) (by simp));have bx:=J (cA t (aC E (.cells #[.int .u64 (hi-sz),.int .u64 hi] 200) none) (λj e=>by cases e));go_wp2_with fail;go_loopw [5,6,21] (λlv v cv wr=>∃(j q:Nat)(lo:Int)(s:List Rg)(H:Option Addr)(I K:Nat),j<=M/\cv=.int .u64 (j:Int)/\lv=.int .u64 lo/\v=.slice H I K/\dV wr w.heap.size v s/\cI wr X (.slice (some ⟨d,o,none⟩) n cap) q st/\w.grownBy wr (some X)/\s.length<=q/\q<=l.length/\0<=lo/\lo<=4611686018427387903/\jq l p=jo l (M-j) q lo s) (λ_ _ cv _=>M-(intOf cv).toNat);case atStart=>exact⟨0,q3,hi-sz,_,_,_,_,by omega,rfl,rfl,rfl,Z S,Z bt,Z bx,by simp;omega,c3,by omega,by omega,Z R⟩
 case round=>
  obtain⟨j,q,lo,s,H,I,K,hj,rfl,rfl,rfl,L,bz,a,cf,Y,cg,ch,h⟩:=hrel;clear S bt bx R;by_cases cj:j<M
  ·obtain⟨m,hm⟩:∃m,M-j=m+1:=⟨M-j-1,by omega⟩
   rw[hm]at h;have bS:m=M-(j+1):=by omega
   replace h:=J h;replace hm:=J hm;replace L:=J L;have cp:(M:Int)<=4611686018427387903:=by have:=Z G;omega
   go_wp2_with fail;refine(Z D wr q a bz Y).mono ?_;rintro e w4⟨g4,⟨pU,q4,i,rfl,T⟩|⟨i,rfl,T⟩⟩;rotate_left
   exact⟨rfl,aj a g4,.inr ⟨by rw[Z h];simp[jo,i],rfl,T⟩⟩
   obtain⟨⟨d0,d1⟩,d2,d3⟩:=kk C i;replace i:=J i;replace a:=aj a g4;have bL:=J ((Z L).gb g4 (by
    by_cases hv:(Value.slice H I K).ownBlock=none;exact .inl hv
    ·exact .inr (λe=>by have:=((Z L).lt X e).1;omega)))
   have cw:IntKind.u64.wrap (pU+2)=pU+2:=by rw[eH];omega
   go_wp2_with fail;refine(xp X lo (pU+2) w4 ⟨by omega,by omega⟩ ⟨by omega,by omega⟩).mono ?_;rintro e F⟨rfl,⟨cx,rfl⟩|⟨cy,rfl⟩⟩;rotate_left
   refine⟨rfl,a,.inr ⟨?_,rfl,q4,T⟩⟩
   rw[Z h];simp only[jo,Z i,eB]
   cases cK l q4 with
   |none=>rfl
   |some y=>simp only[eB];rw[ay (by omega)]
   obtain⟨w4,rfl⟩:=exq F;go_wp2_with fail;refine(Z D w4 q4 a T d3).mono ?_;rintro e B⟨g5,⟨size,q5,z,rfl,N⟩|⟨z,rfl,N⟩⟩;rotate_left
   exact⟨rfl,aj a g5,.inr ⟨by rw[Z h];simp[jo,Z i,z],rfl,N⟩⟩
   obtain⟨⟨e0,e1⟩,e2,e3⟩:=kk C z;replace z:=J z;replace a:=aj a g5;have b4:=J ((Z bL).gb g5 (by
    by_cases hv:(Value.slice H I K).ownBlock=none;exact .inl hv
    ·exact .inr (λe=>by have:=((Z bL).lt X e).1;omega)))
   obtain⟨b,O⟩:=exq (lo-(pU+2));rw[<-O];have cR:0<=b/\b<=4611686018427387903:=by omega
   replace O:=J O;go_wp2_with fail;refine(xp X b size B ⟨by omega,by omega⟩ ⟨by omega,by omega⟩).mono ?_;rintro e F⟨rfl,⟨c9,rfl⟩|⟨db,rfl⟩⟩;rotate_left
   refine⟨rfl,a,.inr ⟨?_,rfl,q5,N⟩⟩
   rw[Z h];simp only[jo,Z i,Z z,eB]
   rw[ay (by have:=Z O;omega)];obtain⟨B,rfl⟩:=exq F;obtain⟨c,a4⟩:=exq (b-size);rw[<-a4];have de:0<=c/\c<=4611686018427387903:=by omega
   have a8:jq l p=jo l (M-(j+1)) q5 c (s++[⟨c,b⟩]):=by
    rw[Z h];simp only[jo,Z i,Z z,eB]
    have q1:=Z O;rw[aM (by omega),<-bS];have z1:lo-2-pU-size=c:=by omega
    have z2:lo-2-pU=b:=by omega
    rw[z1,z2]
   replace a4:=J a4;replace a8:=J a8;have a9:=J ((Z b4).ah (aC B (.cells #[.int .u64 c,.int .u64 b] 200) none));have b5:=J (N.gb (aC B (.cells #[.int .u64 c,.int .u64 b] 200) none) (by simp));have g6:=J (cA a (aC B (.cells #[.int .u64 c,.int .u64 b] 200) none) (λj e=>by cases e));have dg:=a.size;have dk:=N.lt;go_wp2_with (at_builtin;refine Hg (by rfl) _ _ (by rfl) w.heap.size _ s (by rfl) (Z a9) B.heap.size 0 1 ⟨c,b⟩ ⟨⟨by simp;omega,by simp;omega⟩,by simp;omega,by simp;omega⟩ (by rfl) (by simp) (by simp) (by omega) (by simp;omega) ?_;intro a7 n7 c7 w7 o7 g7 b7);go_roundw;case rel=>
    refine⟨j+1,q5,c,s++[⟨c,b⟩],a7,n7,c7,by omega,by simp,rfl,rfl,o7,?_,?_,by simp;omega,e3,by omega,by omega,Z a8⟩
    exact(Z b5).gb g7 (λe=>by have:=((Z a9).lt X e).1;omega);exact cA (Z g6) g7 (λk e=>.inl ((Z a9).lt k e).1)
   case measure=>simp[intOf];omega
  obtain rfl:j=M:=by omega
  go_wp2_with fail;go_ret;have bM:=L.km;exact⟨a,.inl ⟨s,q,H,I,K,by rw[h,qO];rfl,rfl,bM.1,bM.2,bz⟩⟩
structure Gx(w a:World)(X Y:Nat):Prop where
 os:a.os=w.os
 tape:a.tape=w.tape
 output:a.output=w.output
 size:w.heap.size<=a.heap.size
 block:∀k,k<w.heap.size->k≠X->k≠Y->a.heap[k]?=w.heap[k]?
theorem Gx.refl(w:World)(X Y:Nat):Gx w w X Y:=⟨rfl,rfl,rfl,aI _,λ_ _ _ _=>rfl⟩
theorem Gx.trans(h:Gx w W n j)(k:Gx W v n j):Gx w v n j:=
 ⟨k.os.trans h.os,k.tape.trans h.tape,k.output.trans h.output,bC h.size k.size,λi hi a b=>(k.block i (bK hi h.size) a b).trans (h.block i hi a b)⟩
theorem Gx.of{X Y:Nat}(g:w.grownBy W N)(a:∀k,N=some k->k=X\/k=Y\/w.heap.size<=k):Gx w W X Y:=
 ⟨g.os,g.tape,g.output,g.size,λk b c d=>g.block k b (λe=>by obtain h|h|h:=a k e.symm;exact c h;exact d h;omega)⟩
theorem Gx.set{w:World}(h:Gx w W n i)(p:Addr)(v:Value)(e:p.block=n\/p.block=i\/w.heap.size<=p.block):Gx w (W.setCell p v) n i:=
 ⟨h.os,h.tape,h.output,by simpa [World.setCell]using h.size,λk c a b=>by
  rw[cY _ _ _ _ (by rintro rfl;obtain e|e|e:=e<;>first|exact a e|exact b e|omega)];exact h.block k c a b⟩
theorem Gx.gb(h:Gx w W n i)(hY:w.heap.size<=i):w.grownBy W (some n):=
 ⟨h.os,h.tape,h.output,h.size,λk a b=>h.block k a (λe=>b (by rw[e])) (by omega)⟩
theorem Gx.cell(h:Gx w W n k)(a:w.cell? ⟨b,i,none⟩=some x)(c:b≠n)(d:b≠k):W.cell? ⟨b,i,none⟩=some x:=
 (uJ (h.block b (dN w ⟨b,i,none⟩ a) c d) i).trans a
def lH(l:List Int)(f:Fr)(p:Nat):Option (Fr×Nat):=(cK l p).bind λx=>some ({f with offset:=x.1},x.2)
def mz(l:List Int)(f:Fr)(p:Nat):Option (Fr×Nat):=(cK l p).bind λx=>some ({f with code:=x.1},x.2)
def lI(l:List Int)(f:Fr)(p:Nat):Option (Fr×Nat):=(jx l p).bind λx=>some ({f with stream:=x.1},x.2)
def mC(l:List Int)(f:Fr)(p:Nat):Option (Fr×Nat):=(mN l p).bind λx=>some ({f with data:=x.1},x.2)
def oT(l:List Int)(f:Fr)(p:Nat):Option (Fr×Nat):=(jq l p).bind λx=>some ({f with ranges:=x.1},x.2)
structure RC(w:World)(X Y a o n cap:Nat)(l:List Int)(p st:Nat)(f:Fr):Prop where
 x:cI w X (.slice (some ⟨a,o,none⟩) n cap) p st
 y:w.heap[Y]?=some (.cells (bF f (.slice none 0 0)) 158 (0,0))
 b:bh w (some ⟨a,o,none⟩) n cap l
 xb:a≠X
 yb:a≠Y
 xy:X≠Y
 hp:p<=l.length
 hl:l.length<=100000000
 ok:f.ok
 rg:f.ranges=[]
 dt:f.data.size<=9223372036854775807
def JT(b:Bool)(w d:World)(f:Fr)(a:Value):Prop:=cV d f a/\((f.ranges=[]/\a=.slice none 0 0)\/(b=true/\∃x n c,a=.slice (some x) n c/\w.heap.size<=x.block))
def rN(d:Bool)(w:World)(X Y:Nat)(sl:Value)(st len:Nat)(r:Option (Fr×Nat))(e:Ending)(a:World):Prop:=
 Gx w a X Y/\((∃b q c,r=some (b,q)/\e=.returned (.tuple #[])/\cI a X sl q st/\a.heap[Y]?=some (.cells (bF b c) 158 (0,0))/\JT d w a b c/\q<=len)\/(r=none/\e=PN/\∃f,cI a X sl f st))
theorem cV.nil(w:World)(f:Fr)(h:f.ok)(a:f.ranges=[])(hd:f.data.size<=9223372036854775807):cV w f (.slice none 0 0):=
 ⟨h,hd,none,0,by rw[a];rfl,by rw[a];exact⟨λr a=>by simp at a,rfl,by simp,by simp[maxLen],.inl rfl⟩⟩
theorem cI.lY(h:cI w n x j l)(a:n≠k):cI (w.setCell ⟨k,i,none⟩ y) n x j l:=
 (cY _ _ _ _ a).trans h
theorem rO{a c d e:Value}(h:w.heap[b]?=some (.cells #[x,y,z,a,c,d,e] T (0,0))):∀o,w.frozen? ⟨b,o,none⟩=false:=by
 simp[World.frozen?,h]
theorem JU(w:World)(X Y g o n cap:Nat)(l:List Int)(p st:Nat)(f:Fr)(h:RC w X Y g o n cap l p st f)(B:Nat)(D:w.cell? ⟨B,0,none⟩=some (.func (.func 230) #[] #[])):
 Calls prog 276 #[.pointer (some ⟨X,0,none⟩),.pointer (some ⟨Y,0,none⟩),.pointer (some ⟨B,0,none⟩)] w (rN false w X Y (.slice (some ⟨g,o,none⟩) n cap) st l.length (lH l f p)):=by
 obtain⟨i,t,d,xb,yb,xy,hp,hl,j,u,x⟩:=h;have y:=d.1;replace i:=J i;replace d:=J d;replace j:=J j;go_enter func276,ntmps276;go_wp2_with fail;refine(Al Y w).mono ?_;rintro e z⟨rfl,rfl⟩;obtain⟨w,rfl⟩:=exq z;go_wp2_with fail;refine(sN X g o n cap l p st w (Z i) (Z d) xb hp hl).mono ?_;rintro e E⟨m,⟨v,q,a,rfl,b⟩|⟨a,rfl,b⟩⟩
 ·obtain⟨⟨A,F⟩,G,C⟩:=kk y a;have c:=(m.block Y (aO.1 t).1 (λe=>xy (aJ e).symm)).trans t;have H:=(cH c).2.2.1;have I:=rO c;have r:lH l f p=some ({f with offset:=v},q):=by unfold lH;rw[a];rfl
  replace r:=J r;replace a:=J a;replace c:=J c;replace b:=J b;go_wp2_with fail;refine dP (dj rfl _ _ _) rfl ?_;refine⟨(Gx.of m (λk e=>.inl (aJ e).symm)).set _ _ (.inr (.inl rfl)),.inl ⟨_,_,_,Z r,rfl,(Z b).lY xy,(heap_set (Z c) _).trans rfl,⟨cV.nil _ _ ?_ u x,.inl ⟨u,rfl⟩⟩,C⟩⟩
  have s:=Z j;exact⟨s.1,s.2.1,⟨A,by simp;omega⟩,s.2.2.2⟩
 exact⟨rfl,Gx.of m (λk e=>.inl (aJ e).symm),.inr ⟨by unfold lH;rw[a];rfl,rfl,b⟩⟩
theorem JV(w:World)(X Y i o n cap:Nat)(l:List Int)(p st:Nat)(f:Fr)(h:RC w X Y i o n cap l p st f)(B:Nat)(D:w.cell? ⟨B,0,none⟩=some (.func (.func 231) #[] #[])):
 Calls prog 276 #[.pointer (some ⟨X,0,none⟩),.pointer (some ⟨Y,0,none⟩),.pointer (some ⟨B,0,none⟩)] w (rN false w X Y (.slice (some ⟨i,o,none⟩) n cap) st l.length (mz l f p)):=by
 obtain⟨j,t,d,xb,yb,xy,hp,hl,m,u,x⟩:=h;have y:=d.1;replace j:=J j;replace d:=J d;replace m:=J m;go_enter func276,ntmps276;go_wp2_with fail;refine(Am Y w).mono ?_;rintro e z⟨rfl,rfl⟩;obtain⟨w,rfl⟩:=exq z;go_wp2_with fail;refine(sN X i o n cap l p st w (Z j) (Z d) xb hp hl).mono ?_;rintro e E⟨r,⟨v,q,a,rfl,b⟩|⟨a,rfl,b⟩⟩
 ·obtain⟨⟨A,F⟩,G,C⟩:=kk y a;have c:=(r.block Y (aO.1 t).1 (λe=>xy (aJ e).symm)).trans t;have H:=(cH c).2.2.2.1;have I:=rO c;have s:mz l f p=some ({f with code:=v},q):=by unfold mz;rw[a];rfl
  replace s:=J s;replace a:=J a;replace c:=J c;replace b:=J b;go_wp2_with fail;refine dP (dj rfl _ _ _) rfl ?_;refine⟨(Gx.of r (λk e=>.inl (aJ e).symm)).set _ _ (.inr (.inl rfl)),.inl ⟨_,_,_,Z s,rfl,(Z b).lY xy,(heap_set (Z c) _).trans rfl,⟨cV.nil _ _ ?_ u x,.inl ⟨u,rfl⟩⟩,C⟩⟩
  have g:=Z m;exact⟨g.1,g.2.1,g.2.2.1,⟨A,by simp;omega⟩,g.2.2.2.2⟩
 exact⟨rfl,Gx.of r (λk e=>.inl (aJ e).symm),.inr ⟨by unfold mz;rw[a];rfl,rfl,b⟩⟩
theorem JW(w:World)(X Y g o n cap:Nat)(l:List Int)(p st:Nat)(f:Fr)(h:RC w X Y g o n cap l p st f):
 Calls prog 267 #[.pointer (some ⟨X,0,none⟩),.pointer (some ⟨Y,0,none⟩)] w (rN false w X Y (.slice (some ⟨g,o,none⟩) n cap) st l.length (lI l f p)):=by
 obtain⟨i,t,d,xb,yb,xy,hp,hl,j,u,z⟩:=h;have A:=d.1;replace i:=J i;replace d:=J d;replace j:=J j;go_enter func267,ntmps267;go_wp2_with fail;refine(Hi X g o n cap l p st w (Z i) (Z d) xb hp hl).mono ?_;rintro e D⟨m,⟨v,q,a,rfl,b⟩|⟨a,rfl,b⟩⟩
 ·have B:0<=v/\v<4/\q<=l.length:=by
   unfold jx at a;cases r:cK l p with
   |none=>rw[r]at a;cases a
   |some x=>
    rw[r]at a;simp only[eB]at a;split at a;cases a;have:=kk (q:=q) (n:=v) A r;unfold dH at this;omega;cases a
  obtain⟨E,F,C⟩:=B;have c:=(m.block Y (aO.1 t).1 (λe=>xy (aJ e).symm)).trans t;have G:=(cH c).2.1;have H:=rO c;have s:lI l f p=some ({f with stream:=v},q):=by unfold lI;rw[a];rfl
  replace s:=J s;replace a:=J a;replace c:=J c;replace b:=J b;go_wp2_with fail;refine dP (dj rfl _ _ _) rfl ?_;refine⟨(Gx.of m (λk e=>.inl (aJ e).symm)).set _ _ (.inr (.inl rfl)),.inl ⟨_,_,_,Z s,rfl,(Z b).lY xy,(heap_set (Z c) _).trans rfl,⟨cV.nil _ _ ?_ u z,.inl ⟨u,rfl⟩⟩,C⟩⟩
  have y:=Z j;exact⟨y.1,⟨by simp;omega,by simp;omega⟩,y.2.2⟩
 exact⟨rfl,Gx.of m (λk e=>.inl (aJ e).symm),.inr ⟨by unfold lI;rw[a];rfl,rfl,b⟩⟩
theorem strOfNums_size(l:List Int):(strOfNums l).size=l.length:=by
 have h:=fj List.length (strOfNums_data l);rw[dY,pB]at h;exact h
theorem Ce{l:List Int}(c:∀x∈l,W8 x):∀(k p:Nat)(lo:Int)(a rs:List Rg)(q:Nat),p<=l.length->jo l k p lo a=some (rs,q)->q<=l.length
 |0,p,lo,a,rs,q,hp,h=>by
  simp only[jo,kM,qi]at h;omega
 |k+1,p,lo,a,rs,q,hp,h=>by
  simp only[jo]at h;cases d:cK l p with
  |none=>rw[d]at h;cases h
  |some x=>
   rw[d]at h;simp only[eB]at h;cases b:cK l x.2 with
   |none=>rw[b]at h;cases h
   |some y=>
    rw[b]at h;simp only[eB]at h;split at h;exact Ce c k _ _ _ _ _ (kk (n:=y.1) (q:=y.2) c b).2.2 h;cases h
theorem JX(b:∀x∈L,W8 x)(h:jq L k=some (Y,i)):i<=L.length:=by
 unfold jq at h;cases c:cK L k with
 |none=>rw[c]at h;cases h
 |some x=>
  rw[c]at h;simp only[eB]at h;cases d:cK L x.2 with
  |none=>rw[d]at h;cases h
  |some y=>
   rw[d]at h;simp only[eB]at h;cases a:cK L y.2 with
   |none=>rw[a]at h;cases h
   |some z=>
    rw[a]at h;simp only[eB]at h;split at h;exact Ce b _ _ _ _ _ _ (kk (n:=z.1) (q:=z.2) b a).2.2 h;cases h
theorem JY(w:World)(X Y b o n cap:Nat)(l:List Int)(p st:Nat)(f:Fr)(h:RC w X Y b o n cap l p st f):
 Calls prog 273 #[.pointer (some ⟨X,0,none⟩),.pointer (some ⟨Y,0,none⟩)] w (rN false w X Y (.slice (some ⟨b,o,none⟩) n cap) st l.length (mC l f p)):=by
 obtain⟨c,A,d,xb,yb,xy,hp,hl,s,B,K⟩:=h;have F:=d.1;have G:Hid (∀W,w.grownBy W (some X)->bh W (some ⟨b,o,none⟩) n cap l):=J (λW g=>d.gb g (λj e=>.inr (.inr (λx c=>by cases c;cases e;exact xb))));replace c:=J c;replace d:=J d;replace s:=J s;go_enter func273,ntmps273;go_wp2_with fail;refine(sN X b o n cap l p st w (Z c) (Z d) xb hp hl).mono ?_;rintro e C⟨r,⟨v,q,a,rfl,t⟩|⟨a,rfl,t⟩⟩;rotate_left
 exact⟨rfl,Gx.of r (λk e=>.inl (aJ e).symm),.inr ⟨by unfold mC mN;rw[a];rfl,rfl,t⟩⟩
 obtain⟨⟨L,M⟩,N,H⟩:=kk F a;obtain⟨k,I⟩:∃k:Nat,v=(k:Int):=⟨v.toNat,by omega⟩
 subst I;replace a:=J a;go_wp2_with fail;refine(uL X b o n cap l q st k _ rfl C t (Z G C r) xb H hl (by omega)).mono ?_;rintro e O⟨D,⟨hs,rfl,i⟩|⟨hs,P,c2,rfl,u,i⟩⟩;refine⟨rfl,(Gx.of r (λk e=>.inl (aJ e).symm)).trans (Gx.of D (λk e=>.inl (aJ e).symm)),.inr ⟨?_,rfl,q,i⟩⟩
 unfold mC mN;rw[Z a];simp only[eB]
 rw[ay (by omega)];rfl;have y:mC l f p=some ({f with data:=strOfNums ((l.drop q).take k)},q+k):=by
  unfold mC mN;rw[Z a];simp only[eB]
  rw[aM (by omega)];simp
 have E:=aj r D;have m:=(E.block Y (aO.1 A).1 (λe=>xy (aJ e).symm)).trans A;have Q:=(cH m).2.2.2.2.2.1;have R:=rO m;have S:=sq u;have z:(strOfNums ((l.drop q).take k)).size<=9223372036854775807:=by rw[strOfNums_size];simp;omega
 replace y:=J y;replace m:=J m;replace i:=J i;replace u:=J u;replace z:=J z;go_wp2_with fail;refine dP (dj rfl _ _ _) rfl ?_;exact⟨(Gx.of E (λk e=>.inl (aJ e).symm)).set _ _ (.inr (.inl rfl)),.inl ⟨_,_,_,Z y,rfl,(Z i).lY xy,(heap_set (Z m) _).trans rfl,⟨cV.nil _ _ (Z s) B (Z z),.inl ⟨B,rfl⟩⟩,by omega⟩⟩
theorem JZ(w:World)(X Y j o n cap:Nat)(l:List Int)(p st:Nat)(f:Fr)(h:RC w X Y j o n cap l p st f)(K:Y<w.heap.size):
 Calls prog 270 #[.pointer (some ⟨X,0,none⟩),.pointer (some ⟨Y,0,none⟩)] w (rN true w X Y (.slice (some ⟨j,o,none⟩) n cap) st l.length (oT l f p)):=by
 obtain⟨m,z,d,xb,yb,xy,hp,hl,r,L,F⟩:=h;have G:=d.1;replace m:=J m;replace d:=J d;replace r:=J r;go_enter func270,ntmps270;go_wp2_with fail;refine(JS X j o n cap l p st w (Z m) (Z d) xb hp hl).mono ?_;rintro e M⟨s,⟨rs,q,A,H,c1,a,rfl,t,u,b⟩|⟨a,rfl,b⟩⟩
 ·have I:q<=l.length:=JX G a;have c:=(s.block Y (aO.1 z).1 (λe=>xy (aJ e).symm)).trans z;have N:=(cH c).2.2.2.2.2.2;have O:=rO c;have v:oT l f p=some ({f with ranges:=rs},q):=by unfold oT;rw[a];rfl
  replace v:=J v;replace a:=J a;replace c:=J c;replace b:=J b;replace t:=J t;go_wp2_with fail;refine dP (dj rfl _ _ _) rfl ?_;have g:=Z r;have i:=Z t;have y:H=rs.length:=i.2.1;refine⟨(Gx.of s (λk e=>.inl (aJ e).symm)).set _ _ (.inr (.inl rfl)),.inl ⟨_,_,_,Z v,rfl,(Z b).lY xy,(heap_set (Z c) _).trans rfl,⟨⟨⟨g.1,g.2.1,g.2.2.1,g.2.2.2.1,i.1⟩,F,A,c1,by rw[y],?_⟩,?_⟩,I⟩⟩
  rw[<-y];obtain⟨B,C,k3,k4,k5⟩:=i;refine⟨B,C,k3,k4,?_⟩
  obtain k5|⟨D,E,rfl,k5⟩:=k5
  exact .inl k5;exact .inr ⟨D,E,rfl,tZ k5 _ _ (by have:=u _ rfl;simp at this⊢;omega)⟩;obtain⟨B,C,k3,k4,k5|⟨D,E,rfl,k5⟩⟩:=i;obtain _|x:=A
  left;have:rs=[]:=fR (by omega);subst this;refine⟨rfl,?_⟩
  rw[y,k5];rfl;exact .inr ⟨rfl,_,_,_,rfl,u _ rfl⟩;exact .inr ⟨rfl,_,_,_,rfl,u _ rfl⟩
 exact⟨rfl,Gx.of s (λk e=>.inl (aJ e).symm),.inr ⟨by unfold oT;rw[a];rfl,rfl,b⟩⟩
def J0(w:World)(L:List Sh)(t:Int)(e:Ending)(a:World):Prop:=
 ((∃j,j<7/\(bn L j).t=t/\e=.returned (.tuple #[.agg #[.int .i64 (bn L j).k,.bool (bn L j).fin,.int .u8 (bn L j).t,.slice (bn L j).pa (bn L j).n (bn L j).n],.bool true]))\/
   ((∀j,j<7->¬(bn L j).t=t)/\e=.returned (.tuple #[.agg #[.int .i64 0,.bool false,.int .u8 0,.slice none 0 0],.bool false])))/\w.grownBy a none
theorem J1(w:World)(T h k l m n D E:Nat)(x:jr w T h k l m n D E)(t:Int):
 Calls prog 232 #[.slice (some ⟨T,0,none⟩) 7 7,.int .u8 t] w (J0 w (bO h k l m n) t):=by
 have p:=λ(W:World)(g:w.grownBy W none)=>(x.ah g).at
 generalize bO h k l m n=L at *;clear x;obtain⟨y,b⟩:=exq (w.alloc (.cells #[.int .i64 0,.bool false,.int .u8 0,.slice none 0 0] 317));have q:∀W:World,y.grownBy W none->W.heap[w.heap.size]?=some (.cells #[.int .i64 0,.bool false,.int .u8 0,.slice none 0 0] 317 (0,0))/\w.grownBy W none:=λW g=>
  ⟨(g.block _ (by rw[b];simp) (by simp)).trans (by rw[b];exact aH _ _),aj (by rw[b];exact aC _ _ _) g⟩
 replace q:=J q;replace p:=J p;go_enter func232,ntmps232;go_wp2_with fail;rw[<-b];replace b:=J b;go_loopw [10] (λi wr=>∃j:Nat,j<=7/\i=.int .i64 (j:Int)/\(∀i,i<j->¬(bn L i).t=t)/\y.grownBy wr none) (λi _=>7-(intOf i).toNat);case atStart=>exact⟨0,by omega,rfl,λi hi=>by omega,av _ _⟩
 case round=>
  obtain⟨j,N,rfl,c,z⟩:=hrel;obtain⟨b2,r⟩:=Z q wr z;by_cases A:j<7
  ·obtain⟨c1,c2,c3,c4⟩:=Z p wr r j A;obtain⟨S,d⟩:=exq (bn L j);rw[<-d]at c1 c2 c3 c4;obtain⟨K,B,e,C,PN⟩:=S;simp only at c1 c2 c3 c4;have F:Hid (¬e=t->∀i,i<j+1->¬(bn L i).t=t):=J (λG i hi=>by
    obtain H|rfl:=pq.1 hi
    exact c i H
    ·rw[<-d];exact G)
   replace c:=J c;replace d:=J d;have O:(0:Int)<=(j:Int):=by omega
   have P:(j:Int)<7:=by omega
   by_cases f:e=t
   ·have I:(e==t)=true:=by simp[f]
    replace f:=J f;have a:(wr.alloc (.cells #[.int .i64 K,.bool B,.int .u8 e,.slice C PN PN] 317)).heap[w.heap.size]?=some (.cells #[.int .i64 0,.bool false,.int .u8 0,.slice none 0 0] 317 (0,0)):=(eI _ _ _ (aO.1 b2).1).trans b2;have z0:=(jg a).1;have s:=(jg a).2.1;have z2:=(jg a).2.2.1;have u:=(jg a).2.2.2.1;have M:=(jg a).2.2.2.2;replace a:=J a;replace b2:=J b2;go_wp2_with fail;refine cz (v:=.tuple #[.agg #[.int .i64 K,.bool B,.int .u8 e,.slice C PN PN],.bool true]) ?_ rfl ?_
    ·simp[results,results232,go_sem,z0,s,z2,u]
    exact⟨.inl ⟨j,A,by rw[<-Z d];exact Z f,by rw[<-Z d]⟩,aD (aD (aD (aD (aS r _) _ _ (.inl (aI _))) _ _ (.inl (aI _))) _ _ (.inl (aI _))) _ _ (.inl (aI _))⟩
   have I:(e==t)=false:=by simp[f]
   replace b2:=J b2;go_wp2_with fail;go_roundw;case rel=>exact⟨j+1,by omega,by simp,Z F f,aS z _⟩
   case measure=>simp[intOf];omega
  obtain rfl:j=7:=by omega
  have z0:=(jg b2).1;have s:=(jg b2).2.1;have z2:=(jg b2).2.2.1;have u:=(jg b2).2.2.2.1;have M:=(jg b2).2.2.2.2;replace b2:=J b2;replace c:=J c;go_wp2_with fail;refine cz (v:=.tuple #[.agg #[.int .i64 0,.bool false,.int .u8 0,.slice none 0 0],.bool false]) ?_ rfl ?_
  ·simp[results,results232,go_sem,z0,s,z2,u]
  exact⟨.inr ⟨Z c,rfl⟩,aD (aD (aD (aD r _ _ (.inl (aI _))) _ _ (.inl (aI _))) _ _ (.inl (aI _))) _ _ (.inl (aI _))⟩
abbrev xN:=Fr->Nat->Option (Fr×Nat)
def pV:List xN->Fr->Nat->Option (Fr×Nat)
 |[],f,p=>some (f,p)
 |s::r,f,p=>(s f p).bind λx=>pV r x.1 x.2
def dI(l:List Int)(j:Nat):List xN:=
 if j=2 then[oT l]else if j=3 then[lI l,mz l,lH l]else if j=4\/j=5 then[lI l,lH l,mC l]else if j=6 then[mz l]else[]
theorem J2(l:List Int)(a b c d e:Nat)(p:Nat)(f:j<7):eR l (bn (bO a b c d e) j).t p=pV (dI l j) (bX (bn (bO a b c d e) j).k (bn (bO a b c d e) j).fin) p:=by
 obtain rfl|rfl|rfl|rfl|rfl|rfl|rfl:=pP f
 simp[eR,bn,bO,dI,pV];simp[eR,bn,bO,dI,pV];show eR l 2 p=(oT l (bX 3 false) p).bind λx=>some (x.1,x.2)
 unfold eR oT;rw[ay (by decide),ay (by decide),aM rfl];cases jq l p<;>rfl;show eR l 4 p=(lI l (bX 4 false) p).bind λx=>(mz l x.1 x.2).bind λx=>(lH l x.1 x.2).bind λx=>some (x.1,x.2)
 unfold eR lI mz lH;rw[ay (by decide),ay (by decide),ay (by decide),aM rfl];cases jx l p with
 |none=>rfl
 |some x=>
  simp only[eB]
  cases cK l x.2 with
  |none=>rfl
  |some y=>
   simp only[eB]
   cases cK l y.2<;>rfl
 show eR l 8 p=(lI l (bX 5 false) p).bind λx=>(lH l x.1 x.2).bind λx=>(mC l x.1 x.2).bind λx=>some (x.1,x.2)
 unfold eR lI lH mC;rw[ay (by decide),ay (by decide),ay (by decide),ay (by decide),aM (by decide)];cases jx l p with
 |none=>rfl
 |some x=>
  simp only[eB]
  cases cK l x.2 with
  |none=>rfl
  |some y=>
   simp only[eB]
   cases mN l y.2<;>rfl
 show eR l 9 p=(lI l (bX 5 true) p).bind λx=>(lH l x.1 x.2).bind λx=>(mC l x.1 x.2).bind λx=>some (x.1,x.2)
 unfold eR lI lH mC;rw[ay (by decide),ay (by decide),ay (by decide),ay (by decide),aM (by decide)];cases jx l p with
 |none=>rfl
 |some x=>
  simp only[eB]
  cases cK l x.2 with
  |none=>rfl
  |some y=>
   simp only[eB]
   cases mN l y.2<;>rfl
 show eR l 28 p=(mz l (bX 6 false) p).bind λx=>some (x.1,x.2)
 unfold eR mz;rw[ay (by decide),ay (by decide),ay (by decide),ay (by decide),ay (by decide),aM rfl];cases cK l p<;>rfl
theorem J3(l:List Int)(p:Nat)(h:∀j,j<7->¬(bn (bO n k i m o) j).t=t):eR l t p=none:=by
 have h0:=h 0 (by omega);have a:=h 1 (by omega);have b:=h 2 (by omega);have c:=h 3 (by omega);have d:=h 4 (by omega);have f:=h 5 (by omega);have g:=h 6 (by omega);simp only[bn,bO,vR,List.getD_cons_succ]at h0 a b c d f g;unfold eR;rw[ay (λe=>h0 e.symm),ay (λe=>a e.symm),ay (λe=>b e.symm),ay (λe=>c e.symm),ay (λe=>e.elim (λe=>d e.symm) (λe=>f e.symm)),ay (λe=>g e.symm)]
theorem J4{b:Fr}(c:j<7)(hi:i<(dI L j).length)(h:(dI L j)[i] H n=some (b,k)):b.kind=H.kind:=by
 have a:∀{α:Type}(o:Option (α×Nat))(g:α×Nat->Fr×Nat),(∀x,(g x).1.kind=H.kind)->(o.bind λx=>some (g x))=some (b,k)->b.kind=H.kind:=by
  intro α o g d e;cases o with
  |none=>cases e
  |some x=>simp only[eB,kM]at e;have:=d x;rw[e]at this;exact this
 obtain rfl|rfl|rfl|rfl|rfl|rfl|rfl:=pP c
 simp[dI]at hi;simp[dI]at hi;have e:i=0:=by simp[dI]at hi;omega
 subst e;exact a _ _ (λ_=>rfl) h;have e:i=0\/i=1\/i=2:=by simp[dI]at hi;omega
 obtain rfl|rfl|rfl:=e<;>exact a _ _ (λ_=>rfl) h
 have e:i=0\/i=1\/i=2:=by simp[dI]at hi;omega
 obtain rfl|rfl|rfl:=e<;>exact a _ _ (λ_=>rfl) h
 have e:i=0\/i=1\/i=2:=by simp[dI]at hi;omega
 obtain rfl|rfl|rfl:=e<;>exact a _ _ (λ_=>rfl) h
 have e:i=0:=by simp[dI]at hi;omega
 subst e;exact a _ _ (λ_=>rfl) h
theorem jr.ne{s:Nat}(h:jr W k i j l m o b s){X:Nat}{c:Nat}(d:W.cell? ⟨X,0,none⟩=some (.slice a n c)):k≠X/\i≠X/\j≠X/\l≠X/\m≠X/\o≠X/\b≠X/\s≠X:=by
 have e:=h.tab 0 _ rfl;have f:=h.p2 0 _ rfl;have g:=h.p3 0 _ rfl;have p:=h.p4 0 _ rfl;have q:=h.p5 0 _ rfl;have r:=h.p6 0 _ rfl;have t:=h.bo;have u:=h.bc;rw[dv]at e f g p q r;refine⟨?_,?_,?_,?_,?_,?_,?_,?_⟩
 rintro rfl;rw[d]at e;cases e;rintro rfl;rw[d]at f;cases f;rintro rfl;rw[d]at g;cases g;rintro rfl;rw[d]at p;cases p;rintro rfl;rw[d]at q;cases q;rintro rfl;rw[d]at r;cases r;rintro rfl;rw[d]at t;cases t;rintro rfl;rw[d]at u;cases u
theorem rP{cs:List Value}(h:w.rangeAt b o cs)(g:Gx w W n k)(a:b≠n)(c:b≠k):W.rangeAt b o cs:=λj v d=>g.cell (h j v d) a c
theorem jr.gx{a c:Nat}(h:jr w i j l m o b a c)(g:Gx w W n k)(d:i≠n/\j≠n/\l≠n/\m≠n/\o≠n/\b≠n/\a≠n/\c≠n)(hY:i≠k/\j≠k/\l≠k/\m≠k/\o≠k/\b≠k/\a≠k/\c≠k):jr W i j l m o b a c:=by
 obtain⟨e,f,p,q,r,s,t,x8⟩:=d;obtain⟨u,v,x,y,z,A,B,C⟩:=hY;exact⟨rP h.tab g e u,rP h.p2 g f v,rP h.p3 g p x,rP h.p4 g q y,rP h.p5 g r z,rP h.p6 g s A,g.cell h.bo t B,g.cell h.bc x8 C⟩
theorem jr.lt(h:jr W n k i j l m o b){Y:Nat}(hY:W.heap.size<=Y):n≠Y/\k≠Y/\i≠Y/\j≠Y/\l≠Y/\m≠Y/\o≠Y/\b≠Y:=by
 have a:=dN W _ (h.tab 0 _ rfl);have c:=dN W _ (h.p2 0 _ rfl);have d:=dN W _ (h.p3 0 _ rfl);have e:=dN W _ (h.p4 0 _ rfl);have f:=dN W _ (h.p5 0 _ rfl);have g:=dN W _ (h.p6 0 _ rfl);have p:=dN W _ h.bo;have q:=dN W _ h.bc;simp only at a c d e f g p q;omega
def Rd(c:World)(X Y a o n cap:Nat)(l:List Int)(st:Nat)(d:Bool)(e:Value)(s:xN):Prop:=
 ∃R b,e=.func (.func R) #[] b/\(∀args w,(callFunc R args).run prog w=.ok (.enter R args) w)/\∀(w:World)(p:Nat)(f:Fr),Gx c w X Y->RC w X Y a o n cap l p st f->
  Calls prog R (#[.pointer (some ⟨X,0,none⟩),.pointer (some ⟨Y,0,none⟩)]++b) w (rN d w X Y (.slice (some ⟨a,o,none⟩) n cap) st l.length (s f p))
theorem Cf(args:Array Value)(w:World):(callFunc 276 args).run prog w=.ok (.enter 276 args) w:=by kernel_rfl
theorem J5(args:Array Value)(w:World):(callFunc 267 args).run prog w=.ok (.enter 267 args) w:=by kernel_rfl
theorem J6(args:Array Value)(w:World):(callFunc 273 args).run prog w=.ok (.enter 273 args) w:=by kernel_rfl
theorem J7(args:Array Value)(w:World):(callFunc 270 args).run prog w=.ok (.enter 270 args) w:=by kernel_rfl
theorem J8{t:Nat}(h:jr W k m b n i l o t)(X Y d q s cap:Nat)(a:List Int)(st:Nat)(z:k≠X/\m≠X/\b≠X/\n≠X/\i≠X/\l≠X/\o≠X/\t≠X)(hY:k≠Y/\m≠Y/\b≠Y/\n≠Y/\i≠Y/\l≠Y/\o≠Y/\t≠Y)(A:Y<W.heap.size)(B:j<7):
 (bn (bO m b n i l) j).n=(dI a j).length/\(dI a j).length<=3/\((dI a j).length=0\/∃P,(bn (bO m b n i l) j).pa=some ⟨P,0,none⟩/\P≠X/\P≠Y/\∀c(hi:c<(dI a j).length),∃C wc rd,W.cell? ⟨P,c*2,none⟩=some (.func (.func C) #[] wc)/\W.cell? ⟨P,c*2+1,none⟩=some rd/\Rd W X Y d q s cap a st (decide (j=2)) rd (dI a j)[c]):=by
 obtain⟨-,D,E,F,G,H,I,x8⟩:=z;obtain⟨-,K,L,M,N,O,Q,R⟩:=hY;have u:Rd W X Y d q s cap a st false (nR o) (lH a):=⟨_,_,rfl,Cf,λw p f g r=>JU w X Y d q s cap a p st f r o (g.cell h.bo I Q)⟩
 have x:Rd W X Y d q s cap a st false (nR t) (mz a):=⟨_,_,rfl,Cf,λw p f g r=>JV w X Y d q s cap a p st f r t (g.cell h.bc x8 R)⟩
 have v:Rd W X Y d q s cap a st false sR (lI a):=⟨_,_,rfl,J5,λw p f _ r=>JW w X Y d q s cap a p st f r⟩
 have y:Rd W X Y d q s cap a st false bR (mC a):=⟨_,_,rfl,J6,λw p f _ r=>JY w X Y d q s cap a p st f r⟩
 have S:Rd W X Y d q s cap a st true rR (oT a):=⟨_,_,rfl,J7,λw p f g r=>JZ w X Y d q s cap a p st f r (bK A g.size)⟩
 obtain rfl|rfl|rfl|rfl|rfl|rfl|rfl:=pP B
 exact⟨rfl,by simp[dI],.inl rfl⟩
 exact⟨rfl,by simp[dI],.inl rfl⟩
 refine⟨rfl,by simp[dI],.inr ⟨m,rfl,D,K,λc hi=>?_⟩⟩
 have e:c=0:=by simp[dI]at hi;omega
 subst e;exact⟨_,_,rR,h.p2 0 _ rfl,h.p2 1 _ rfl,S⟩
 refine⟨rfl,by simp[dI],.inr ⟨b,rfl,E,L,λc hi=>?_⟩⟩
 have e:c=0\/c=1\/c=2:=by simp[dI]at hi;omega
 obtain rfl|rfl|rfl:=e
 exact⟨_,_,sR,h.p3 0 _ rfl,h.p3 1 _ rfl,v⟩
 exact⟨_,_,nR t,h.p3 2 _ rfl,h.p3 3 _ rfl,x⟩
 exact⟨_,_,nR o,h.p3 4 _ rfl,h.p3 5 _ rfl,u⟩
 refine⟨rfl,by simp[dI],.inr ⟨n,rfl,F,M,λc hi=>?_⟩⟩
 have e:c=0\/c=1\/c=2:=by simp[dI]at hi;omega
 obtain rfl|rfl|rfl:=e
 exact⟨_,_,sR,h.p4 0 _ rfl,h.p4 1 _ rfl,v⟩
 exact⟨_,_,nR o,h.p4 2 _ rfl,h.p4 3 _ rfl,u⟩
 exact⟨_,_,bR,h.p4 4 _ rfl,h.p4 5 _ rfl,y⟩
 refine⟨rfl,by simp[dI],.inr ⟨i,rfl,G,N,λc hi=>?_⟩⟩
 have e:c=0\/c=1\/c=2:=by simp[dI]at hi;omega
 obtain rfl|rfl|rfl:=e
 exact⟨_,_,sR,h.p5 0 _ rfl,h.p5 1 _ rfl,v⟩
 exact⟨_,_,nR o,h.p5 2 _ rfl,h.p5 3 _ rfl,u⟩
 exact⟨_,_,bR,h.p5 4 _ rfl,h.p5 5 _ rfl,y⟩
 refine⟨rfl,by simp[dI],.inr ⟨l,rfl,H,O,λc hi=>?_⟩⟩
 have e:c=0:=by simp[dI]at hi;omega
 subst e;exact⟨_,_,nR t,h.p6 0 _ rfl,h.p6 1 _ rfl,x⟩
def ML(w:World)(X:Nat)(sl:Value)(p:Nat)(bad:Bool):Prop:=w.heap[X]?=some (.cells #[sl,.int .i64 (p:Int),.bool bad] 218 (0,0))
