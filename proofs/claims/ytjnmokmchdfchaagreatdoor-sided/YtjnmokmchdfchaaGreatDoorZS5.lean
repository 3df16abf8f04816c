import Derived.Test.YtjnmokmchdfchaaGreatDoorZS1
set_option maxRecDepth 1000000
set_option maxHeartbeats 0
set_option linter.all false
namespace Go.Proofs.YtjnmokmchdfchaaGreatDoor
open Go.RowKit Tryz
open Go.Value renaming int→I,slice→Y,bool→β,pointer→π,agg→ε,string→ς,tuple→τ
open Go.IntKind renaming i64→X,u64→U,u8→Δ
open Go.Ending renaming returned→ξ
open Go.Obj renaming cells→ο
open Or renaming inl→φ,inr→ψ
open Option renaming some→E,none→N
open Bool renaming true→ρ,false→θ
open Go renaming World→D,Value→υ
open Go.World renaming grownBy→G,cell?→κ,frozen?→χ,setCell→ζ
attribute[local go_sem↓]Go.wp_at_zero Go.wp_at_succ
variable{A:Addr}{c:Array υ}{B:Bool}{p q:Int}{s:List Rg}{b i j k l m n o:Nat}{a:Option Addr}{H:Ot}{T:TypeId}{x y z:υ}{V W v w:D}{R:D->Prop}
def xB{x:Rg}(h:x.hi<=x.lo)(w:D):Calls prog 244 #[ε #[I U x.lo,I U x.hi]] w λe a=>e=ξ (β ρ)/\G w a N:=
 (xz x w).mono λe a ⟨b,c⟩=>⟨by rw[b,bU h],c⟩
def xC{x:Rg}(h:¬x.hi<=x.lo)(w:D):Calls prog 244 #[ε #[I U x.lo,I U x.hi]] w λe a=>e=ξ (β θ)/\G w a N:=
 (xz x w).mono λe a ⟨b,c⟩=>⟨by rw[b,bT h],c⟩
def qz.same{q:List Rg->Prop}(e:w.heap[k]?=E (ο c T (0,0)))(f:c[i]?=E (Y a n j))(hs:bq w a n j s)(b:bk s)(g:G w W N)(d:q s):qz w W k i a q:=by
 refine⟨a,n,j,s,⟨cK g _,λl m h=>?_⟩,hs.ag g,φ Q,b,d⟩
 rw[bp h g];congr 2;grind
def dN.mono(h:dN w n x s)(e:k<=n):dN w k x s:=by
 let⟨b,c,a⟩:=h
 refine⟨b,c,?_⟩
 obtain a|⟨g,cap,cur,e1,e2,d⟩:=a
 simp_all;exact ψ ⟨g,cap,cur,e1,O,d⟩
def Kept.ag(h:Kept w k a x s)(g:G w W N):Kept W k a x s:=by
 obtain⟨n,rfl,h⟩|h:=h
 exact φ ⟨n,Q,h.ag g⟩;exact ψ (h.ag g)
def Cd{z:Array Oper}{rest:List Oper}{o:Oper}{a:Act}{A:Exit->Act->D->Prop}(B:o.guard=N)(s x:Operand)
 (C:o.op=.call {callee:=.builtin .append,args:= #[s,x],argTypes:= #[227,227]})
 (w0:D) (q:Option Addr) (v:υ) (l:List Rg) (hs:a.eval s=v) (M:Kept w w0.heap.size q v l) (p:G w0 w N) (b f c:Nat) (r:Rg) (F:r.ok) (H:a.eval x=Y (E ⟨b,f,N⟩) 1 c) (h0:κ w ⟨b,f,N⟩=E (I U r.lo)) (K:κ w ⟨b,f+1,N⟩=E (I U r.hi)) (T:l.length<=2000000) (P:1<=c) (V:c<=10)
 (h:∀i k m d,Kept d w0.heap.size q (Y i k m) (l++[r])->G w0 d N->wpList prog z A rest (a.put o.dst (Y i k m)) d):wpList prog z A (o::rest) a w:=by
 obtain⟨n,rfl,hl⟩|L:=M
 have W:=hl.2.1;exact Iu B s x C q n l hs hl b f c r F H h0 K O (λi k m d t g=>h i k m d (ψ (t.mono p.size)) (aq p g));have R:bq w (E ⟨b,f,N⟩) 1 c [r]:=by
  refine⟨λy S=>by rw[eE.1 S];exact F,Q,P,by simp only[maxLen];omega,ψ ⟨b,f,Q,λj u e=>?_⟩⟩
  match j,e with
  |0,e=>simp[cY]at e;rw[<-e];exact h0
  |1,e=>simp[cY]at e;rw[<-e];exact K
 exact Iv B s x C w0.heap.size v l hs L (E ⟨b,f,N⟩) 1 c [r] H R (by grind) p.size (λi k m d t g=>h i k m d (ψ t) (Cb p L (aP _) g))
def IB(p r s q:υ)(W:D):(Instr.index 410 (ε #[p,r,s,q]) (I X 0)).run prog W=.ok (ε #[p,r]) W:=Φ
def ID(p r s q:υ)(W:D):(Instr.index 410 (ε #[p,r,s,q]) (I X 1)).run prog W=.ok (ε #[s,q]) W:=Φ
def IE{n:Array Oper}{rest:List Oper}{o:Oper}{a:Act}{p:Exit->Act->D->Prop}(q:o.guard=N)(s x:Operand)
 (t:o.op=.call {callee:=.builtin .append,args:= #[s,x],argTypes:= #[227,227]})
 (c:Nat) (g:Option Addr) (v:υ) (l:List Rg) (hs:a.eval s=v) (u:Kept w c g v l) (i:Option Addr) (nx j:Nat) (m:List Rg) (z:a.eval x=Y i nx j) (A:bq w i nx j m) (B:l.length+m.length<=100000000) (C:c<=w.heap.size)
 (h:∀b e f d,bq d b e f (l++m)->(b=g\/∀y,b=E y->c<=y.block)->(∃r,G w d r/\∀k,r=E k->c<=k)->wpList prog n p rest (a.put o.dst (Y b e f)) d):wpList prog n p (o::rest) a w:=
 rY q λ_ F=>by
  let⟨b,e,f,d,H,K,L,M⟩:=Iw (w:=w) o.type c g v l u i nx j m A B C
  unfold Oper.wp execOp;simp only[t,resolve,invoke,builtin,jL,ny,jC,oh,kD,oq,hs,z,H]
  exact F _ _ (h b e f d K L M)
def iX(p a b q:Int):Nat->List Rg
 |0=>[]
 |1=>if p<a then[⟨p,a⟩]else[]
 |_=>(if p<a then[⟨p,a⟩]else[])++(if b<q then[⟨b,q⟩]else[])
def xD(p a b q:Int)(c:Nat):(iX p a b q c).length<=2:=by
 unfold iX;grind
def Ce(w:D)(sb so:Nat)(cs:Array υ)(t:TypeId)(a:Option Addr)(n u:Nat)(l:List Rg)(x:Rg)(hb:w.heap[sb]?=E (ο cs t (0,0)))(hc:cs[so]?=E (Y a n u))(hs:bq w a n u l)(b4:l≠[]->∀y,a=E y->y.block≠sb)(F:bk l)(hx:x.ok)(hn:n<=1000000):
 Calls prog 281 #[π (E ⟨sb,so,N⟩),ε #[I U x.lo,I U x.hi]] w λe w'=>e=ξ (τ #[])/\qz w w' sb so a (λl'=>l'.length<=l.length+1/\∀m,Sm l' m↔Sm l m/\¬(x.lo<=m/\m<x.hi)):=by
 let⟨d,f⟩:=x
 have ec:κ w ⟨sb,so,N⟩=E (Y a n u):=by simp[κ,hb,hc]
 obtain⟨H,bb⟩:=í (w.alloc (ο #[I U d,I U f] 341));have c9:G w H N:=by rw[bb];exact aC _ _ _
 have da:H.heap[w.heap.size]?=E (ο #[I U d,I U f] 341 (0,0)):=by rw[bb];exact aM _ _
 have ed:H.heap.size=w.heap.size+1:=by rw[bb];simp
 have x0:κ H ⟨w.heap.size,0,N⟩=E (I U d):=by simp[κ,da]
 have x1:κ H ⟨w.heap.size,1,N⟩=E (I U f):=by simp[κ,da]
 obtain⟨W2,bj⟩:=í (H.alloc (ο #[Y a n u] 227));have g2:G H W2 N:=by rw[bj];exact aC _ _ _
 have db:W2.heap[H.heap.size]?=E (ο #[Y a n u] 227 (0,0)):=by rw[bj];exact aM _ _
 have ai:qy W2 H.heap.size w.heap.size a n u l ⟨d,f⟩:=⟨by simp[κ,db],ì g2 x0,ì g2 x1,hs.ag (aq c9 g2),hx⟩
 rw[ed]at ai db;have L:=hs.2.1;have ej:=J (xw n 297 #[π (E ⟨w.heap.size+1,0,N⟩),π (E ⟨w.heap.size,0,N⟩)] W2 (λk=>d<(an l k).hi) O (λi j a0 hj hp=>by
  obtain h|rfl:=tg a0
  have:=F.lt h O;have:=F.pos (i:=j) O;show d<_;omega
  .exact hp) (λ_ _=>Φ) (λW h g hh=>Im W _ _ h n u a l ⟨d,f⟩ (ai.ag g) hh))
 have eo:=J (λW(gW:G W2 W N)=>xw n 298 #[π (E ⟨w.heap.size+1,0,N⟩),π (E ⟨w.heap.size,0,N⟩)] W (λk=>f<=(an l k).lo) O (λi j a0 hj hp=>by
  obtain h|rfl:=tg a0
  have:=F.lt h O;have:=F.pos (i:=i) O;show f<=_;omega
  .exact hp) (λ_ _=>Φ) (λW' h g hh=>Io W' _ _ h n u a l ⟨d,f⟩ (ai.ag (aq gW g)) hh))
 have fA:=(aV.1 hb).1;replace⟨L,ai,F,hs⟩:=fB L ai F hs;rw[bb]at bj;go_enter func281,ntmps281;go_wp2_with fail;rw[<-bj];apply(Z ej).mono;rintro e w3⟨⟨i,rfl,dc⟩,g3⟩;have de:=(Z ai).ag g3;have gd:=de.1;go_wp2_with fail;apply(Z eo _ g3).mono;rintro e w4⟨⟨j,rfl,dg⟩,g4⟩;have ak:=de.ag g4;obtain⟨k1,k2,k3,k4,-⟩:=id ak;have b8:=aq c9 (aq g2 (aq g3 g4));have ez:=dc.1;have eK:=dg.1;have ca:mT l.length i (λk=>d<(an l k).hi):=by rw[<-Z L];exact dc
 have cc:mT l.length j (λk=>f<=(an l k).lo):=by rw[<-Z L];exact dg
 have gg:=(Z hs).2.2.1;have eL:=(Z hs).2.2.2.1;unfold maxLen at eL;by_cases he:f<=d
 .have hE:=J (λW=>xB (x:=⟨d,f⟩) he W);go_wp2_with fail;apply(Z hE _).mono;rintro e R⟨rfl,M⟩;go_wp2_with fail;exact cC (dV Q _ _ _) Q ⟨Q,qz.same hb hc (Z hs) (Z F) (aq b8 M) ⟨O,λm=>⟨λh=>⟨h,O⟩,λh=>h.1⟩⟩⟩
 have hE:=J (λW=>xC (x:=⟨d,f⟩) he W);by_cases a0:i<j
 .replace b4:=b4 (λe=>by have:=Z L;rw[e]at this;simp at this;omega);have eS:decide ((j:Int)<=i)=θ:=é;have gh:decide (j<=i)=θ:=é;have hcut:=J (H0 (Z F) (x:=⟨d,f⟩) (O:d<f) a0 ca cc);have e3:Hid ((l.take i).length+(l.drop j).length+1<=l.length):=J (by rw[dK,fD];have:=ca.1;have:=cc.1;omega);obtain⟨b,o,rfl⟩:∃b o,a=E ⟨b,o,N⟩:=by
   obtain⟨-,-,-,-,h0|⟨b,o,rfl,-⟩⟩:=Z hs;omega;exact⟨b,o,Q⟩
  go_wp2_with fail;apply(Z hE _).mono;rintro e R⟨rfl,M⟩;have bw:=aq b8 M;obtain⟨k1,k2,k3,k4,-⟩:=ak.ag M;obtain⟨y0,-⟩:=k4.cell i (by have:=Z L;omega);obtain⟨-,y1⟩:=k4.cell (j-1) (by have:=Z L;omega);have o0:=oC (Z hs).1 i;have o1:=oC (Z hs).1 (j-1);unfold xt at hcut;obtain⟨p,hp⟩:=í ((an l i).lo);obtain⟨q,hq⟩:=í ((an l (j-1)).hi);rw[<-hp]at y0 hcut;rw[<-hq]at y1 hcut;replace o0:aZ p:=by rw[hp];exact o0.1
  replace o1:aZ q:=by rw[hq];exact o1.2
  clear hp hq;have e1:(j:Int)-1=((j-1:Nat):Int):=O;have e2:X.wrap ((j:Int)-1)=((j-1:Nat):Int):=by simp[IntKind.wrap,IntKind.bits,IntKind.signed];omega
  have i1:(i:Int)<n:=O;have i2:((j-1:Nat):Int)<(n:Int):=O;have gl:∀W,(Instr.slice 227 (Y (E ⟨b,o,N⟩) n u) N (E (I X i)) (E (I X i))).run prog W=.ok (Y (E ⟨b,o,N⟩) i i) W:=λW=>B6 _ n u i O W
  replace⟨o0,o1⟩:=aT o0 o1;go_wp2_with fail;go_quiet (fail);go_wp2_with fail;have e6:=(ak.ag M).2.2.2.1.front i ez;have gm:l.length<=1000000:=by have:=Z L;omega
  replace ak:=J ak;go_loopw [7,50] (λv cv wr=>∃c:Nat,c<=2/\cv=I X c/\Kept wr R.heap.size (E ⟨b,o,N⟩) v (l.take i++iX p d f q c)/\G R wr N) (λ_ cv _=>2-(intOf cv).toNat);case atStart=>exact⟨0,O,Q,φ ⟨i,Q,by rw[show iX p d f q 0=[]from Q,qY];exact e6.ag (cu (au _ _) _)⟩,cu (au _ _) _⟩
  case round=>
   obtain⟨c,e7,rfl,B,S⟩:=hrel;have gn:=IB (I U p) (I U d) (I U f) (I U q);have gq:=ID (I U p) (I U d) (I U f) (I U q);match c,e7 with
   |0,_=>
    by_cases hp:p<d
    .have T:=J (λW=>xC (x:=⟨p,d⟩) (O:¬d<=p) W);have A:iX p d f q 1=iX p d f q 0++[⟨p,d⟩]:=by simp[iX,hp]
     replace A:=J A;go_wp2_with fail;apply(Z T _).mono;rintro e s⟨rfl,K⟩;have C:=aq (aC _ _ _) K;have a3:s.heap[wr.heap.size]?=E (ο #[I U p,I U d] 341 (0,0)):=(K.block wr.heap.size Γ Γ).trans (aM _ _);have r0:κ s ⟨wr.heap.size,0,N⟩=E (I U p):=by simp[κ,a3]
     have r1:κ s ⟨wr.heap.size,1,N⟩=E (I U d):=by simp[κ,a3]
     have a4:=aC s (ο #[I U p,I U d] 341) N;have cm:=J (B.ag (aq C a4));have cp:=J (aq S (aq C a4));have a8:(s.alloc (ο #[I U p,I U d] 341)).heap[s.heap.size]?=E (ο #[I U p,I U d] 341 (0,0)):=aM s _;have s0:Hid ((s.alloc (ο #[I U p,I U d] 341)).cell? ⟨s.heap.size,0,N⟩=E (I U p)):=J (by simp only[κ,a8];rfl);have s1:Hid ((s.alloc (ο #[I U p,I U d] 341)).cell? ⟨s.heap.size,0+1,N⟩=E (I U d)):=J (by simp only[κ,a8];rfl);have ct:Hid ((⟨p,d⟩:Rg).ok):=J ⟨Z o0,hx.1⟩;have a9:Hid ((l.take i++iX p d f q 0).length<=2000000):=J (by have:=xD p d f q 0;simp;omega);go_wp2_with (at_builtin;refine Cd Ξ _ _ Ξ R (E ⟨b,o,N⟩) _ (l.take i++iX p d f q 0) Ξ (Z cm) (Z cp) s.heap.size 0 1 ⟨p,d⟩ (Z ct) Ξ (Z s0) (Z s1) (Z a9) Θ Θ ?_;intro a7 n7 c7 w7 V P);go_roundw;case rel=>exact⟨1,O,Q,by rw[Z A,<-eF];exact V,P⟩
     case measure=>simp[intOf]
    have T:=J (λW=>xB (x:=⟨p,d⟩) (O:d<=p) W);have A:iX p d f q 1=iX p d f q 0:=by simp[iX,hp]
    replace⟨A,B⟩:=aT A B;go_wp2_with fail;apply(Z T _).mono;rintro e s⟨rfl,K⟩;have C:=aq (aC _ _ _) K;go_wp2;go_roundw;case rel=>exact⟨1,O,Q,by rw[Z A];exact(Z B).ag C,aq S C⟩
    case measure=>simp[intOf]
   |1,_=>
    by_cases hp:f<q
    .have T:=J (λW=>xC (x:=⟨f,q⟩) (O:¬q<=f) W);have A:iX p d f q 2=iX p d f q 1++[⟨f,q⟩]:=by simp[iX,hp]
     replace A:=J A;go_wp2_with fail;apply(Z T _).mono;rintro e s⟨rfl,K⟩;have C:=aq (aC _ _ _) K;have a3:s.heap[wr.heap.size]?=E (ο #[I U f,I U q] 341 (0,0)):=(K.block wr.heap.size Γ Γ).trans (aM _ _);have r0:κ s ⟨wr.heap.size,0,N⟩=E (I U f):=by simp[κ,a3]
     have r1:κ s ⟨wr.heap.size,1,N⟩=E (I U q):=by simp[κ,a3]
     have a4:=aC s (ο #[I U f,I U q] 341) N;have cm:=J (B.ag (aq C a4));have cp:=J (aq S (aq C a4));have a8:(s.alloc (ο #[I U f,I U q] 341)).heap[s.heap.size]?=E (ο #[I U f,I U q] 341 (0,0)):=aM s _;have s0:Hid ((s.alloc (ο #[I U f,I U q] 341)).cell? ⟨s.heap.size,0,N⟩=E (I U f)):=J (by simp only[κ,a8];rfl);have s1:Hid ((s.alloc (ο #[I U f,I U q] 341)).cell? ⟨s.heap.size,0+1,N⟩=E (I U q)):=J (by simp only[κ,a8];rfl);have ct:Hid ((⟨f,q⟩:Rg).ok):=J ⟨hx.2,Z o1⟩;have a9:Hid ((l.take i++iX p d f q 1).length<=2000000):=J (by have:=xD p d f q 1;simp;omega);go_wp2_with (at_builtin;refine Cd Ξ _ _ Ξ R (E ⟨b,o,N⟩) _ (l.take i++iX p d f q 1) Ξ (Z cm) (Z cp) s.heap.size 0 1 ⟨f,q⟩ (Z ct) Ξ (Z s0) (Z s1) (Z a9) Θ Θ ?_;intro a7 n7 c7 w7 V P);go_roundw;case rel=>exact⟨2,O,Q,by rw[Z A,<-eF];exact V,P⟩
     case measure=>simp[intOf]
    have T:=J (λW=>xB (x:=⟨f,q⟩) (O:q<=f) W);have A:iX p d f q 2=iX p d f q 1:=by simp[iX,hp]
    replace⟨A,B⟩:=aT A B;go_wp2_with fail;apply(Z T _).mono;rintro e s⟨rfl,K⟩;have C:=aq (aC _ _ _) K;go_wp2;go_roundw;case rel=>exact⟨2,O,Q,by rw[Z A];exact(Z B).ag C,aq S C⟩
    case measure=>simp[intOf]
   |2,_=>
    have bz:=(Z ak).ag (aq M S);have c1:=bz.1;obtain⟨a2,bA⟩:=í ((if u=j then E (⟨b,o,N⟩:Addr)else(E (⟨b,o,N⟩:Addr)).map (·.add (j*2))));have gr:∀W,(Instr.slice 227 (Y (E ⟨b,o,N⟩) n u) (E (I X j)) N N).run prog W=.ok (Y a2 (n-j) (u-j)) W:=λW=>by rw[bA];exact Ca _ n u j O W
    have fa:=J (bz.2.2.2.1.back (d:=a2) j eK (by
     by_cases hc:u=j;left;omega
     .right;rw[bA,aE hc];exact⟨b,o,Q,by simp only[tv,Addr.add_mid]⟩))
    have a9:Hid ((l.take i++iX p d f q 2).length+(l.drop j).length<=100000000):=J (by have:=xD p d f q 2;simp;omega);have fb:=aq bw S;have fc:=S.size;replace⟨bA,B,bz⟩:=cA bA B bz;have du:Hid (l.take i++iX p d f q 2++l.drop j=l.take i++((if p<d then[⟨p,d⟩]else[])++((if f<q then[⟨f,q⟩]else[])++l.drop j))):=J (by simp[iX]);go_wp2_with (at_builtin;refine IE Ξ _ _ Ξ R.heap.size (E ⟨b,o,N⟩) _ (l.take i++iX p d f q 2) Ξ (Z B) _ _ _ (l.drop j) Ξ (Z fa) (Z a9) fc ?_;intro a7 n7 c7 w7 V f7 P;have bM:G w w7 N:=(by let⟨r7,P,h7⟩:=P;exact cO fb P (λk e=>φ (bG bw.size (h7 k e))));clear P;replace V:=J V;replace f7:=J f7;have gA:=ì bM ec;have gB:χ w7 ⟨sb,so,N⟩=θ:=(by simp[χ,bp hb bM]));refine eP (dV Q _ _ _) Q ⟨Q,a7,n7,c7,_,⟨aD (cK bM _) _ _ (ψ Q),λgM t' h=>heap_set (bp h bM) _⟩,?_,?_,(Z hcut).1,?_,(Z hcut).2⟩;have h5:=Z V;rw[Z du]at h5;refine h5.aB (λz hz=>?_) so _;obtain rfl|hf:=Z f7
    exact b4 z hz;have:=hf z hz;have:=bw.size;omega;obtain rfl|hf:=Z f7
    exact φ Q;exact ψ (λz hz=>bG bw.size (hf z hz));rw[<-Z du,bS,bS];have:=xD p d f q 2;have:=Z e3;omega
 have eS:decide ((j:Int)<=i)=ρ:=α;go_wp2_with fail;apply(Z hE _).mono;rintro e R⟨rfl,M⟩;go_wp2_with fail;refine cC (dV Q _ _ _) Q ⟨Q,qz.same hb hc (Z hs) (Z F) (aq b8 M) ⟨O,λm=>⟨λh=>⟨h,?_⟩,λh=>h.1⟩⟩⟩;let⟨r,hr,h1,h2⟩:=h
 obtain⟨k,hk,rfl⟩:=ko.1 hr;have er:an l k=l[k]:=by simp[an,List.getD,hk]
 by_cases fo:k<i;have:¬d<(an l k).hi:=ca.2.1 k fo;rw[er]at this;omega;have:f<=(an l k).lo:=cc.2.2 k O hk;rw[er]at this;omega
def IF(a:Option Addr)(n z f:Nat)(A:Array υ)(l:List Rg)(w:D)(p:Nat->Prop)(hs:bq w a n z l)
 (eg:∀args w,(callFunc f args).run prog w=.ok (.enter f args) w)
 (q:∀(W:D)(h:Nat),G w W N->h<n->Calls prog f (#[ε #[I U (an l h).lo,I U (an l h).hi]]++A) W (λe L=>gR (p h) e/\G W L N)):
 Calls prog 286 #[Y a n z,.func (.func f) #[] A] w λe d=>(∃k:Int,e=ξ (I X k)/\((0<=k/\k<n)↔∃i,i<n/\p i)/\(k= -1\/0<=k/\k<n))/\G w d N:=by
 obtain⟨R,r⟩:∃R:Ending->Prop,R=λe=>∃k:Int,e=ξ (I X k)/\((0<=k/\k<n)↔∃i,i<n/\p i)/\(k= -1\/0<=k/\k<n):=⟨_,Q⟩
 have s:∀k:Nat,k<n->p k->R (ξ (I X k)):=λk c u=>by rw[r];exact⟨k,Q,⟨λ_=>⟨k,c,u⟩,λ_=>O⟩,ψ O⟩
 have v:(∀i,i<n->¬p i)->R (ξ (I X (-1))):=λh=>by rw[r];exact⟨-1,Q,⟨λh=>by omega,λ⟨i,c,u⟩=>absurd u (h i c)⟩,φ Q⟩
 have M:(λe d=>(∃k:Int,e=ξ (I X k)/\((0<=k/\k<n)↔∃i,i<n/\p i)/\(k= -1\/0<=k/\k<n))/\G w d N)=λe d=>R e/\G w d N:=by rw[r]
 rw[M];have x:=hs.2.1;have ai:=hs.2.2.1;have P:=hs.2.2.2.1;unfold maxLen at P;replace⟨x,s,v,q⟩:=fB x s v q;go_enter func286,ntmps286;go_wp2;go_loopw [8] (λy wr=>∃j:Nat,j<=n/\y=I X j/\(∀i,i<j->¬p i)/\G w wr N) (λy _=>n-(intOf y).toNat);case atStart=>exact⟨0,O,Q,λi hi=>by omega,au _ _⟩
 case round=>
  obtain⟨j,hj,rfl,m,g⟩:=hrel;replace m:=J m;by_cases B:j<n
  .have d1:decide ((j:Int)<n)=ρ:=α;have c:=hs.ag g;obtain⟨-,-,-,-,h0|⟨b,o,rfl,-⟩⟩:=id c;omega;let⟨c1,c2⟩:=c.cell j (by have:=Z x;omega)
   have hF:=Z q wr j g B;obtain⟨lo,C⟩:=í ((an l j).lo);obtain⟨hi,F⟩:=í ((an l j).hi);rw[<-C]at c1 hF;rw[<-F]at c2 hF;replace hF:=J hF;clear C F;have i1:(j:Int)<n:=O;go_wp2_with fail;apply(Z hF).mono;rintro e w2⟨⟨t,rfl,H⟩,K⟩;cases t
   .have S:Hid (¬p j):=J (λhp=>by cases H.2 hp);go_wp2;go_roundw;case rel=>
     refine⟨j+1,O,Γ,λi T=>?_,aq g K⟩
     obtain h|rfl:=sY.1 T
     exact Z m i h;exact Z S
    case measure=>simp[intOf];omega
   have V:=J (H.1 Q);go_wp2;go_ret;exact⟨Z s j B (Z V),aq g K⟩
  have d1:decide ((j:Int)<n)=θ:=é;go_wp2;go_ret;exact⟨Z v (λi hi=>Z m i O),g⟩
def IG(W:D)(d:Nat)(y x:Rg)(h0:κ W ⟨d,0,N⟩=E (I U x.lo))(l:κ W ⟨d,1,N⟩=E (I U x.hi)):
 Calls prog 246 #[ε #[I U y.lo,I U y.hi],π (E ⟨d,0,N⟩)] W λe j=>gR (y.lo<=x.lo/\x.hi<=y.hi) e/\G W j N:=by
 let⟨a,f⟩:=y
 let⟨b,g⟩:=x
 have m:d<W.heap.size:=eI W _ h0;obtain⟨R,c⟩:∃R:Prop,R=(a<=b/\g<=f):=⟨_,Q⟩
 have k:((⟨a,f⟩:Rg).lo<=(⟨b,g⟩:Rg).lo/\(⟨b,g⟩:Rg).hi<=(⟨a,f⟩:Rg).hi)=R:=c.symm;rw[k];replace c:=J c;go_enter func246,ntmps246;by_cases i:a<=b
 .have d1:decide (a<=b)=ρ:=bU i;go_wp2;go_ret;exact⟨oy (by rw[Z c];exact⟨λh=>⟨i,h⟩,λh=>h.2⟩),aC _ _ _⟩
 have d1:decide (a<=b)=θ:=bT i;go_wp2;go_ret;exact⟨jM (by rw[Z c];exact λh=>by have:=h.1;omega),aC _ _ _⟩
def IH(a:Option Addr)(n d b:Nat)(f:Array υ)(l:List Rg)(w:D)(p:Nat->Prop)(hs:bq w a n d l)
 (eg:∀args w,(callFunc b args).run prog w=.ok (.enter b args) w)
 (j:∀(W:D)(h:Nat),G w W N->h<n->Calls prog b (#[ε #[I U (an l h).lo,I U (an l h).hi]]++f) W (λe m=>gR (p h) e/\G W m N)):
 Calls prog 245 #[Y a n d,.func (.func b) #[] f] w λe q=>gR (∃i,i<n/\p i) e/\G w q N:=by
 obtain⟨R,c⟩:∃R:Prop,R=(∃i,i<n/\p i):=⟨_,Q⟩
 rw[<-c];replace c:=J c;go_enter func245,ntmps245;go_wp2_with fail;apply(Z (J (IF a n d b f l w p hs eg j))).mono;rintro e t⟨⟨k,rfl,r,u⟩,s⟩;have g:R↔0<=k:=by rw[Z c,<-r];omega
 replace g:=J g;go_wp2;go_ret;exact⟨oy (Z g).symm,s⟩
def Cf(a:Option Addr)(n j:Nat)(l:List Rg)(x:Rg)(w:D)(hs:bq w a n j l):
 Calls prog 211 #[Y a n j,ε #[I U x.lo,I U x.hi]] w λe y=>gR (x.hi<=x.lo\/∃r∈l,r.lo<=x.lo/\x.hi<=r.hi) e/\G w y N:=by
 obtain⟨R,f⟩:∃R:Prop,R=(x.hi<=x.lo\/∃r∈l,r.lo<=x.lo/\x.hi<=r.hi):=⟨_,Q⟩
 rw[<-f];have k:(∃i,i<n/\((an l i).lo<=x.lo/\x.hi<=(an l i).hi))↔∃r∈l,r.lo<=x.lo/\x.hi<=r.hi:=by
  rw[hs.2.1];constructor;rintro⟨i,hi,h⟩;exact⟨_,lL hi,h⟩
  rintro⟨r,z,h⟩;obtain⟨i,hi,rfl⟩:=ko.1 z;exact⟨i,hi,by simpa [an,List.getD,hi]using h⟩
 replace⟨f,k⟩:=aT f k;let⟨b,c⟩:=x
 have m:G w (w.alloc (ο #[I U b,I U c] 341)) N:=aC _ _ _;have u:(w.alloc (ο #[I U b,I U c] 341)).heap[w.heap.size]?=E (ο #[I U b,I U c] 341 (0,0)):=aM _ _;have A:Hid ((w.alloc (ο #[I U b,I U c] 341)).cell? ⟨w.heap.size,0,N⟩=E (I U b)):=J (by simp only[κ,u];rfl);have B:Hid ((w.alloc (ο #[I U b,I U c] 341)).cell? ⟨w.heap.size,1,N⟩=E (I U c)):=J (by simp only[κ,u];rfl);replace hs:=J hs;by_cases p:c<=b
 .have q:=J (λW=>xB (x:=⟨b,c⟩) p W);go_enter func211,ntmps211;go_wp2_with fail;apply(Z q _).mono;rintro e v⟨rfl,d⟩;go_wp2;go_ret;exact⟨xv (by rw[Z f];exact φ p),aq m d⟩
 have q:=J (λW=>xC (x:=⟨b,c⟩) p W);go_enter func211,ntmps211;go_wp2_with fail;apply(Z q _).mono;rintro e v⟨rfl,d⟩;go_wp2_with fail;apply(Z (J (IH a n j 246 #[π (E ⟨w.heap.size,0,N⟩)] l v (λi=>(an l i).lo<=b/\c<=(an l i).hi) ((Z hs).ag (aq m d)) (λ_ _=>Φ) (λW h g _=>IG W w.heap.size (an l h) ⟨b,c⟩ ((aq d g).cell (Z A) Γ) ((aq d g).cell (Z B) Γ))))).mono;rintro e H⟨⟨t,rfl,C⟩,F⟩;have s:t=ρ↔R:=by
  rw[C,Z f,Z k];constructor;exact ψ;rintro(h|h);omega;exact h
 replace s:=J s;go_wp2;go_ret;exact⟨⟨t,Q,Z s⟩,aq m (aq d F)⟩
def OwnSet(w0 w:D)(b:Nat)(l:List Rg):Prop:=
 ∃a n c,w.heap[b]?=E (ο #[Y a n c] 227 (0,0))/\bq w a n c l/\bk l/\(∀y,a=E y->w0.heap.size<=y.block/\y.block≠b)
def OwnSet.ag(h:OwnSet W w k s)(g:G w v N):OwnSet W v k s:=by
 let⟨a,n,c,b,d,e,f⟩:=h
 exact⟨a,n,c,bp b g,d.ag g,e,f⟩
def OwnSet.of{w0:D}{q:List Rg->Prop}(c:w.heap[k]?=E (ο #[Y a n i] 227 (0,0)))(r:∀y,a=E y->w0.heap.size<=y.block/\y.block≠k)(s:w0.heap.size<=w.heap.size)(h:qz w W k 0 a q):∃b,OwnSet w0 W k b/\q b:=by
 let⟨d,e,f,b,⟨g,j⟩,l,t,m,p⟩:=h
 refine⟨b,⟨d,e,f,(j _ _ c).trans Q,l,m,λy u=>?_⟩,p⟩
 grind
def Cq(w:D)(sb ho:Nat)(ab:Option Addr)(nb cb:Nat)(ac:Option Addr)(nc cc:Nat)(h:Hd)(H:iM w sb ho ab nb cb ac nc cc h)(x:Rg)(hx:x.ok):
 Calls prog 278 #[π (E ⟨sb,ho,N⟩),ε #[I U x.lo,I U x.hi]] w λe z=>(∃a n c l,e=ξ (Y a n c)/\bq z a n c l/\bk l/\(∀y,a=E y->w.heap.size<=y.block)/\l.length<=h.af.length+1/\∀m,Sm l m↔(x.lo<=m/\m<x.hi)/\¬Sm h.af m)/\G w z N:=by
 obtain⟨c0,c1,c2,-,d,⟨-,-,cx,-,cy⟩⟩:=H;let⟨fr,bytes,af⟩:=h
 simp only at *;refine fL λR P=>?_
 replace P:=J P;let⟨A,B⟩:=x
 have p:=d.2.1;have c9:=d.2.2.1;have bx:=d.2.2.2.1;unfold maxLen at bx;replace⟨d,p⟩:=aT d p;go_enter func278,ntmps278;obtain⟨S,T⟩:=í ((w.alloc (ο #[I U A,I U B] 341)).alloc (ο #[Y N 0 0] 227));have g1:G w S N:=by rw[T];exact aW (aW (au _ _) _) _
 have C:S.heap[w.heap.size+1]?=E (ο #[Y N 0 0] 227 (0,0)):=by
  have:=aM (w.alloc (ο #[I U A,I U B] 341)) (ο #[Y N 0 0] 227);rw[dJ]at this;rw[T];exact this
 replace C:=J C;go_wp2_with fail;rw[<-T];apply(Z (J (IA S (w.heap.size+1) 0 #[Y N 0 0] 227 N 0 0 [] ⟨A,B⟩ C Q ⟨λr d=>by simp at d,Q,aP _,by simp[maxLen],φ Q⟩ (nofun) bk.nil hx O))).mono;rintro e w2⟨rfl,v⟩;have g2:G w w2 N:=by
  obtain⟨a',n',c',f,⟨g,-⟩,-⟩:=v;exact nB (cO (cK g1 (E (w.heap.size+1))) g (λk e=>ψ Q)) O
 let⟨l1,V,W,ai⟩:=OwnSet.of (w0:=w) (Z C) (nofun) g1.size v
 replace⟨V,ai,W⟩:=cA V ai W;have d2:=ì g2 c2;go_wp2;go_loopw [15] (λcv wr=>∃(j:Nat)(f:List Rg),j<=nc/\cv=I X j/\OwnSet w wr (w.heap.size+1) f/\f.length<=j+1/\(∀m,Sm f m↔(A<=m/\m<B)/\∀i,i<j->¬((an af i).lo<=m/\m<(an af i).hi))/\G w wr N) (λcv _=>nc-(intOf cv).toNat);case atStart=>exact⟨0,l1,O,Q,Z V,Z W,λm=>by rw[Z ai m];exact⟨λh=>h.elim (λh=>absurd h (ij m)) (λh=>⟨h,λi hi=>O⟩),λh=>ψ h.1⟩,g2⟩
 case round=>
  obtain⟨j,f,hj,rfl,hO,db,F,g⟩:=hrel;by_cases dc:j<nc
  .have d1:decide ((j:Int)<nc)=ρ:=α;have h1:=(Z d).ag g;obtain⟨-,-,-,-,h0|⟨b,o,rfl,-⟩⟩:=id h1;omega;let⟨y0,y1⟩:=h1.cell j (by have:=Z p;omega)
   have bj:=oC h1.1 j;obtain⟨r,K⟩:=í (an af j);rw[<-K]at y0 y1 bj;have g3:=aC wr (ο #[I U r.lo,I U r.hi] 341) N;let⟨t,u,c3,L,p2,p3,p4⟩:=hO.ag g3
   have hC:=J (Ce (wr.alloc (ο #[I U r.lo,I U r.hi] 341)) (w.heap.size+1) 0 #[Y t u c3] 227 t u c3 f r L Q p2 (λ_ y s=>(p4 y s).2) p3 bj (by have:=p2.2.1;have:=Z p;omega));replace⟨K,F⟩:=aT K F;go_wp2_with fail;apply(Z hC).mono;rintro e w4⟨rfl,v⟩;have g4:G w w4 N:=by
    obtain⟨a',n',c',f,⟨g5,-⟩,-⟩:=v;exact nB (cO (cK (aq g g3) (E (w.heap.size+1))) g5 (λk e=>ψ Q)) O
   let⟨l4,ax,de,a0⟩:=Z (J (λz(q:List Rg->Prop)(ch:qz (wr.alloc (ο #[I U r.lo,I U r.hi] 341)) z (w.heap.size+1) 0 t q)=>OwnSet.of (w0:=w) L p4 (bG g.size g3.size) ch)) _ _ v
   replace⟨a0,ax⟩:=aT a0 ax;go_wp2;go_roundw;case rel=>
    refine⟨j+1,l4,O,Γ,Z ax,O,λm=>?_,g4⟩
    rw[Z a0 m,Z F m,Z K];constructor;rintro⟨⟨h5,M⟩,h7⟩;refine⟨h5,λi hi=>?_⟩
    obtain h8|rfl:=sY.1 hi
    exact M i h8;exact h7;rintro⟨h5,M⟩;exact⟨⟨h5,λi hi=>M i O⟩,M j O⟩
   case measure=>simp[intOf];omega
  have d1:decide ((j:Int)<nc)=θ:=é;obtain rfl:j=nc:=O;let⟨t,u,c3,L,p2,p3,p4⟩:=hO
  have s0:κ wr ⟨w.heap.size+1,0,N⟩=E (Y t u c3):=by simp[κ,L]
  have a2:R (ξ (Y t u c3)) wr:=by
   rw[Z P];refine⟨⟨t,u,c3,f,Q,p2,p3,λy s=>(p4 y s).1,by have:=Z p;omega,λm=>?_⟩,g⟩
   rw[F m];refine and_congr_right λ_=>⟨λh ⟨r,ct,h3⟩=>?_,λh i hi h3=>h ⟨_,lL (by have:=Z p;omega),h3⟩⟩
   obtain⟨k,hk,rfl⟩:=ko.1 ct;have er:an af k=af[k]:=by simp[an,List.getD,hk]
   exact h k (by have:=Z p;omega) (by rw[er];exact h3)
  replace a2:=J a2;go_wp2_with fail;exact Z a2
def kM.ag(a:kM w n k H)(g:G w W N):kM W n k H:=
 ⟨ì g a.1,ì g a.2.1,ì g a.2.2.1,ì g a.2.2.2.1,ì g a.2.2.2.2.1,ì g a.2.2.2.2.2.1,a.2.2.2.2.2.2⟩
def Ot.uE(o:Ot):Bool:=o.sE&& !o.tE
def Ot.uG(o:Ot):Bool:=o.sG&& !o.tG
def Cv(w:D)(sb g:Nat)(o:Ot)(H:kM w sb g o):Calls prog 279 #[π (E ⟨sb,g,N⟩)] w λr l=>r=ξ (ε #[β o.uE,β o.uG])/\G w l N:=by
 obtain⟨c3,c4,c5,c6,c7,c8,-,-⟩:=H;have h:=J (λW=>zw o.sE o.sG o.tE o.tG W);obtain⟨uE,i⟩:=í o.uE;obtain⟨uG,j⟩:=í o.uG;have m:(o.sE&& !o.tE)=uE:=i.symm;have n:(o.sG&& !o.tG)=uG:=j.symm;rw[m,n]at h;rw[<-i,<-j];obtain⟨f,c⟩:=í (w.alloc (ο #[β θ,β θ] 231));have a:G w f N:=by rw[c];exact aC _ _ _
 have p:f.heap[w.heap.size]?=E (ο #[β θ,β θ] 231 (0,0)):=by rw[c];exact aM _ _
 replace c4:=ì a c4;replace c5:=ì a c5;replace c6:=ì a c6;replace c7:=ì a c7;generalize o.sE=e1 at *;generalize o.sG=e2 at *;generalize o.tE=s at *;generalize o.tG=t at *;go_enter func279,ntmps279;go_wp2_with fail;rw[<-c];clear c;go_region_with (first|(go_at_call 282;apply(Z h _).mono;rintro e b⟨rfl,q⟩;have k:G f b N:=(aq (aK (au _ _)) q);have d:=bp p k;have b0:κ b ⟨w.heap.size,0,N⟩=E (β θ):=(by simp[κ,d]);have b1:κ b ⟨w.heap.size,1,N⟩=E (β θ):=(by simp[κ,d]);have u:χ b ⟨w.heap.size,0,N⟩=θ:=(by simp[χ,d]);have x:χ b ⟨w.heap.size,1,N⟩=θ:=(by simp[χ,d])));all_goals go_wp2_with fail
 all_goals
  refine cC (v:=ε #[β uE,β uG]) ?_ Q ⟨Q,aD (aD (aq a k) _ _ (φ (aP _))) _ _ (φ (aP _))⟩
  simp[results,results279,go_sem, *]
def Ja(w:D)(sb a:Nat)(c:Array υ)(t:TypeId)(ab:Option Addr)(f cb:Nat)(o:Ot)(code:Int)(b:w.heap[sb]?=E (ο c t (0,0)))(g:κ w ⟨sb,a+1,N⟩=E (Y ab f cb))(H:kM w sb a o):
 Calls prog 154 #[π (E ⟨sb,a,N⟩),I U code] w λr e=>r=ξ (τ #[])/\G w e (E sb)/\e.heap[sb]?=E (ο ((((c.setIfInBounds (a+4) (β θ)).setIfInBounds (a+5) (β ρ)).setIfInBounds (a+8) (I U code)).setIfInBounds (a+1) (Y N 0 0)) t (0,0)):=by
 obtain⟨c3,c4,c5,c6,c7,c8,-,-⟩:=H;have f1:χ w ⟨sb,a+1,N⟩=θ:=ç b;have f4:χ w ⟨sb,a+4,N⟩=θ:=ç b;have f5:χ w ⟨sb,a+5,N⟩=θ:=ç b;have f8:χ w ⟨sb,a+8,N⟩=θ:=ç b;have d:G w ((((ζ w ⟨sb,a+4,N⟩ (β θ)).setCell ⟨sb,a+4+1,N⟩ (β ρ)).setCell ⟨sb,a+8,N⟩ (I U code)).setCell ⟨sb,a+1,N⟩ (Y N 0 0)) (E sb):=
  aD (aD (aD (aD (au w (E sb)) ⟨sb,a+4,N⟩ (β θ) (ψ Q)) ⟨sb,a+4+1,N⟩ (β ρ) (ψ Q)) ⟨sb,a+8,N⟩ (I U code) (ψ Q)) ⟨sb,a+1,N⟩ (Y N 0 0) (ψ Q)
 have B:((((ζ w ⟨sb,a+4,N⟩ (β θ)).setCell ⟨sb,a+4+1,N⟩ (β ρ)).setCell ⟨sb,a+8,N⟩ (I U code)).setCell ⟨sb,a+1,N⟩ (Y N 0 0)).heap[sb]?=E (ο ((((c.setIfInBounds (a+4) (β θ)).setIfInBounds (a+4+1) (β ρ)).setIfInBounds (a+8) (I U code)).setIfInBounds (a+1) (Y N 0 0)) t (0,0)):=
  heap_set (heap_set (heap_set (heap_set b _) _) _) _
 replace⟨d,B⟩:=aT d B;rw[show a+5=a+4+1 from rfl];go_enter func154,ntmps154;go_wp2_with fail;exact eP (dV Q _ _ _) Q ⟨Q,Z d,Z B⟩
def zB(h:κ W ⟨n,k,N⟩=E x/\G w W N)(g:G W V N):κ V ⟨n,k,N⟩=E x/\G w V N:=⟨ì g h.1,aq h.2 g⟩
def sh(h:w.heap[b]?=E (ο #[x,y,z] T (0,0))):(κ w ⟨b,0,N⟩=E x/\κ w ⟨b,1,N⟩=E y/\κ w ⟨b,2,N⟩=E z)/\χ w ⟨b,0,N⟩=θ/\χ w ⟨b,1,N⟩=θ/\χ w ⟨b,2,N⟩=θ:=by
 simp[κ,χ,h]
def Je(w:D)(sb b:Nat)(ab:Option Addr)(t cb:Nat)(ac:Option Addr)(nc u:Nat)(o:Ot)(H:iM w sb b ab t cb ac nc u o.h)(T:kM w sb b o):
 Calls prog 239 #[π (E ⟨sb,b,N⟩)] w λr d=>(∃a n c l,r=ξ (ε #[Y a n c,β o.uE,β o.uG])/\bq d a n c l/\bk l/\(∀y,a=E y->w.heap.size<=y.block)/\l.length<=o.h.af.length+1/\∀m,Sm l m↔(o.h.fr<=m/\m<o.h.fr+o.h.bytes.length)/\¬Sm o.h.af m)/\G w d N:=by
 refine fL λR x=>?_
 replace x:=J x;have a8:(⟨o.h.fr,o.h.fr+o.h.bytes.length⟩:Rg).ok:=by
  obtain⟨k0,k1,-⟩:=H.2.2.2.2.2;constructor<;>simp only[aZ]<;>omega
 have A:=J (λW(g:G w W N)=>Cq W sb b ab t cb ac nc u o.h (H.ag g) ⟨o.h.fr,o.h.fr+o.h.bytes.length⟩ a8);have hE:=J (λW(g:G w W N)=>Cg W sb b ab t cb ac nc u o.h (H.ag g));obtain⟨c0,-⟩:=H;obtain⟨fr,f⟩:=í o.h.fr;obtain⟨en,p⟩:∃en:Int,en=o.h.fr+o.h.bytes.length:=⟨_,Q⟩
 simp only[<-f]at c0;rw[<-p]at A hE;simp only[<-f]at A;replace⟨f,p⟩:=aT f p;go_enter func239,ntmps239;go_wp2_with fail;have B:=aC w (ο #[Y N 0 0,β θ,β θ] 332) N;have i:(w.alloc (ο #[Y N 0 0,β θ,β θ] 332)).heap[w.heap.size]?=E (ο #[Y N 0 0,β θ,β θ] 332 (0,0)):=aM _ _;obtain⟨q,ax⟩:=í (w.alloc (ο #[Y N 0 0,β θ,β θ] 332));rw[<-ax]at B i⊢;clear ax;have C:q.drew.cell? ⟨sb,b,N⟩=E (I U fr)/\G w q.drew N:=⟨ì B c0,aK B⟩
 replace i:=J i;go_region_held3 (λd=>κ d ⟨sb,b,N⟩=E (I U fr)/\G w d N)
  (with_reducible first|exact a0|exact a1|exact F|exact K|exact C)
  (first
    |(go_at_call 196;apply(Z hE _ C.2).mono;rintro e w5⟨rfl,L⟩;have K:=zB C L)
    |(go_at_call 278;apply(Z A _ K.2).mono;rintro e w6⟨⟨a6,j,c6,l6,rfl,M,P,S,V,m5⟩,g6⟩;have F:=zB K g6;replace M:=J M;replace P:=J P;replace S:=J S;replace V:=J V;replace m5:=J m5)
    |(go_at_call 279;apply(Z (J (λW(g:G w W N)=>Cv W sb b o (T.ag g))) _ F.2).mono;rintro e s⟨rfl,g7⟩;have a1:=zB F g7;have bj:s.heap[w.heap.size]?=E (ο #[Y N 0 0,β θ,β θ] 332 (0,0)):=(bp (Z i) (aq (aK (au q N)) (aq L (aq g6 g7))));let⟨⟨q0,q1,q2⟩,z0,z1,z2⟩:=sh bj;have a0:(((ζ s ⟨w.heap.size,0,N⟩ (Y a6 j c6)).setCell ⟨w.heap.size,1,N⟩ (β o.uE)).setCell ⟨w.heap.size,2,N⟩ (β o.uG)).cell? ⟨sb,b,N⟩=E (I U fr)/\G w (((ζ s ⟨w.heap.size,0,N⟩ (Y a6 j c6)).setCell ⟨w.heap.size,1,N⟩ (β o.uE)).setCell ⟨w.heap.size,2,N⟩ (β o.uG)) N:=(by have G8:G w (((ζ s ⟨w.heap.size,0,N⟩ (Y a6 j c6)).setCell ⟨w.heap.size,1,N⟩ (β o.uE)).setCell ⟨w.heap.size,2,N⟩ (β o.uG)) N:=aD (aD (aD a1.2 _ _ (φ (aP _))) _ _ (φ (aP _))) _ _ (φ (aP _));exact⟨ì G8 c0,G8⟩)))
 go_wp2_with fail;refine cC (v:=ε #[Y a6 j c6,β o.uE,β o.uG]) ?_ Q ?_
 .simp[results,results239,go_sem, *]
 have b4:=(aV.1 (Z i)).1;have b5:q.heap.size<=w5.heap.size:=L.size;have a4:∀z,a6=E z->w.heap.size<z.block:=λz k=>by have:=Z S z k;omega
 have al:∀z,a6=E z->z.block≠w.heap.size:=λz k=>by have:=a4 z k;omega
 rw[Z x];refine⟨⟨a6,j,c6,l6,Q,?_,Z P,λz k=>uV (a4 z k),Z V,λm=>?_⟩,a0.2⟩
 exact((((Z M).ag g7).aB al _ _).aB al _ _).aB al _ _;have:=Z m5 m;simp only[Z f,Z p]at this;exact this
def Cy(w:D)(sb d b c:Nat)(v:υ)(e f:Int)(g h uE uG:Bool)(a:D):Prop:=
 κ a ⟨sb,d+2,N⟩=E v/\κ a ⟨b,0,N⟩=E (I U e)/\κ a ⟨b,1,N⟩=E (I U f)/\κ a ⟨b,2,N⟩=E (β g)/\κ a ⟨b,3,N⟩=E (β h)/\κ a ⟨c,0,N⟩=E (β uE)/\κ a ⟨c,1,N⟩=E (β uG)/\G w a N
def zC{a uE uG:Bool}(h:κ W ⟨n,k+2,N⟩=E x/\κ W ⟨i,0,N⟩=E (I U p)/\κ W ⟨i,1,N⟩=E (I U q)/\κ W ⟨i,2,N⟩=E (β B)/\κ W ⟨i,3,N⟩=E (β a)/\κ W ⟨j,0,N⟩=E (β uE)/\κ W ⟨j,1,N⟩=E (β uG)/\G w W N)(g:G W V N):
 κ V ⟨n,k+2,N⟩=E x/\κ V ⟨i,0,N⟩=E (I U p)/\κ V ⟨i,1,N⟩=E (I U q)/\κ V ⟨i,2,N⟩=E (β B)/\κ V ⟨i,3,N⟩=E (β a)/\κ V ⟨j,0,N⟩=E (β uE)/\κ V ⟨j,1,N⟩=E (β uG)/\G w V N:=
 ⟨ì g h.1,ì g h.2.1,ì g h.2.2.1,ì g h.2.2.2.1,ì g h.2.2.2.2.1,ì g h.2.2.2.2.2.1,ì g h.2.2.2.2.2.2.1,aq h.2.2.2.2.2.2.2 g⟩
def Jf(a b c d:Bool)(W:D):(binOp .eql 231 (ε #[β a,β b]) (ε #[β c,β d])).run prog W=.ok (β ((a==c)&&(b==d))) W:=by
 cases a<;>cases b<;>cases c<;>cases d<;>kernel_rfl
def gR.t{p:Prop}{e:Ending}(h:gR p e)(hp:p):e=ξ (β ρ):=by
 let⟨b,a,c⟩:=h
 grind
def gR.f{p:Prop}{e:Ending}(h:gR p e)(hp:¬p):e=ξ (β θ):=by
 let⟨b,a,c⟩:=h
 grind
def kq{P:Program}{e:Region.Mode}{b:Array Oper}{f:Exit->Act->D->Prop}(i d:Nat){j:Oper}{v:υ}{g:Array Bool}{a:Act}(hi:b[i]?=E j)
 (hd:j.dst=E d) (hs:Region.noSelect b=ρ) (k:Region.free e b g i=ρ) (l:(Region.ready e b g).contains i=ρ)
 (m:∀c a w,f (.panic c) (a.put (E d) v) w->f (.panic c) a w) (p:YieldsIf P b R j v a) (q:R w)
 (h:wpAnyH P e b f R n (g.setIfInBounds i ρ) (a.put (E d) v) w):wpAnyH P e b f R (n+1) g a w:=
 wpAnyH_take hi hs k l (by rw[hd];exact m) p q (by rw[hd];exact h)
def vs(o:Ot)(x:Rg)(a b:Bool):Prop:=(x.hi<=x.lo\/∃r∈o.h.af,r.lo<=x.lo/\x.hi<=r.hi)/\(o.uE&& !a)=o.uE/\(o.uG&& !b)=o.uG
def Jg(w:D)(sb m:Nat)(ab:Option Addr)(nb cb:Nat)(ac:Option Addr)(nc s:Nat)(o:Ot)(H:iM w sb m ab nb cb ac nc s o.h)(T:kM w sb m o)(x:Rg)(i j:Bool):
 Calls prog 256 #[π (E ⟨sb,m,N⟩),ε #[I U x.lo,I U x.hi,β i,β j]] w λr a=>gR (vs o x i j) r/\G w a N:=by
 obtain⟨R,u⟩:∃R:Prop,R=vs o x i j:=⟨_,Q⟩
 rw[<-u];replace u:=J u;have hU:=J (λW(g:G w W N)=>Cv W sb m o (T.ag g));have hH:=J (λW(g:G w W N)=>Cf ac nc s o.h.af x W (H.2.2.2.2.1.ag g));have hB:=J (λW=>zw o.uE o.uG i j W);have c2:=H.2.2.1;let⟨c,d⟩:=x
 simp only at *;generalize M:o.uE=uE at *;generalize P:o.uG=uG at *;replace⟨M,P⟩:=aT M P;have bM:=eI w _ c2;obtain⟨V,A⟩:=í ((uE&& !i));obtain⟨z2,B⟩:=í ((uG&& !j));rw[<-A,<-B]at hB;have a0:Hid ((d<=c\/∃r∈o.h.af,r.lo<=c/\d<=r.hi)->(((V==uE)&&(z2==uG))=ρ↔R)):=J (λk=>by
  rw[Z u,vs,Z M,Z P,<-A,<-B];simp[k])
 have bt:Hid (¬(d<=c\/∃r∈o.h.af,r.lo<=c/\d<=r.hi)->¬R):=J (λk h=>by rw[Z u]at h;exact k h.1);replace⟨A,B⟩:=aT A B;obtain⟨zz,C⟩:=í (((V==uE)&&(z2==uG)));have b3:∀W,(binOp .eql 231 (ε #[β V,β z2]) (ε #[β uE,β uG])).run prog W=.ok (β zz) W:=λW=>by rw[C];exact Jf _ _ _ _ W
 rw[<-C]at a0;replace C:=J C;go_enter func256,ntmps256;have g1:=aC w (ο #[I U c,I U d,β i,β j] 377) N;have ai:(w.alloc (ο #[I U c,I U d,β i,β j] 377)).heap[w.heap.size]?=E (ο #[I U c,I U d,β i,β j] 377 (0,0)):=aM _ _;replace ai:=J ai;go_wp2_with fail;apply(Z hU _ g1).mono;rintro e l⟨rfl,g2⟩;have a4:=aq g1 g2;have y:=bp (Z ai) g2;have p0:κ l ⟨w.heap.size,0,N⟩=E (I U c):=by simp[κ,y]
 have p1:κ l ⟨w.heap.size,1,N⟩=E (I U d):=by simp[κ,y]
 have p2:κ l ⟨w.heap.size,2,N⟩=E (β i):=by simp[κ,y]
 have p3:κ l ⟨w.heap.size,3,N⟩=E (β j):=by simp[κ,y]
 have d2:=ì a4 c2;go_wp2_with fail;obtain⟨z,F⟩:=í (l.alloc (ο #[β uE,β uG] 231));rw[<-F];have n:G l z N:=by rw[F];exact aC _ _ _
 have ak:z.heap[l.heap.size]?=E (ο #[β uE,β uG] 231 (0,0)):=by rw[F];exact aM _ _
 have p:Cy w sb m w.heap.size l.heap.size (Y ac nc s) c d i j uE uG z.drew:=⟨ì n d2,ì n p0,ì n p1,ì n p2,ì n p3,(show κ z _=_ by simp[κ,ak]),(show κ z _=_ by simp[κ,ak]),aK (aq a4 n)⟩
 clear F p0 p1 p2 p3 d2 y ak;have a9:=p.2.2.2.2.2.2.2;unfold Cy at p;by_cases k:d<=c\/∃r∈o.h.af,r.lo<=c/\d<=r.hi
 .replace k:=J k;go_region_held3 (λa=>κ a ⟨sb,m+2,N⟩=E (Y ac nc s)/\κ a ⟨w.heap.size,0,N⟩=E (I U c)/\κ a ⟨w.heap.size,1,N⟩=E (I U d)/\κ a ⟨w.heap.size,2,N⟩=E (β i)/\κ a ⟨w.heap.size,3,N⟩=E (β j)/\κ a ⟨l.heap.size,0,N⟩=E (β uE)/\κ a ⟨l.heap.size,1,N⟩=E (β uG)/\G w a N)
   (with_reducible first|exact bb|exact q|exact p)
   (first
     |(go_at_call 211;apply(Z hH _ a9).mono;rintro e w5⟨L,g5⟩;obtain rfl:=L.t (Z k);clear L;have q:=zC p g5;have b4:=q.2.2.2.2.2.2.2)
     |(go_at_call 282;apply(Z hB _).mono;rintro e w6⟨rfl,g6⟩;have bb:=zC q g6))
  go_wp2;go_ret;exact⟨⟨zz,Q,Z a0 (Z k)⟩,bb.2.2.2.2.2.2.2⟩
 replace k:=J k;refine wp_region_held_drew (S:=(λa=>κ a ⟨sb,m+2,N⟩=E (Y ac nc s)/\κ a ⟨w.heap.size,0,N⟩=E (I U c)/\κ a ⟨w.heap.size,1,N⟩=E (I U d)/\κ a ⟨w.heap.size,2,N⟩=E (β i)/\κ a ⟨w.heap.size,3,N⟩=E (β j)/\κ a ⟨l.heap.size,0,N⟩=E (β uE)/\κ a ⟨l.heap.size,1,N⟩=E (β uG)/\G w a N)) Φ p (λbz=>?_);refine kq 0 8 (v:=?_) Q Q Φ Φ Φ (λ_ _ _ h=>h) (Or.inl ⟨Ξ,?_⟩) Ω ?_;rotate_left
 ·(intro w b;(try dsimp only at b);go_simp;try with_reducible rfl)
 simp only[Act.put,lH,mN,mO]
 refine kq 1 9 (v:=?_) Q Q Φ Φ Φ (λ_ _ _ h=>h) (Or.inl ⟨Ξ,?_⟩) Ω ?_;rotate_left
 ·(intro w b;(try dsimp only at b);go_simp;try with_reducible rfl)
 simp only[Act.put,lH,mN,mO]
 refine kq 2 10 (v:=?_) Q Q Φ Φ Φ (λ_ _ _ h=>h) (Or.inl ⟨Ξ,?_⟩) Ω ?_;rotate_left
 ·(intro w b;(try dsimp only at b);go_simp;try with_reducible rfl)
 simp only[Act.put,lH,mN,mO]
 refine kq 3 11 (v:=?_) Q Q Φ Φ Φ (λ_ _ _ h=>h) (Or.inl ⟨Ξ,?_⟩) Ω ?_;rotate_left
 ·(intro w b;(try dsimp only at b);go_simp;try with_reducible rfl)
 simp only[Act.put,lH,mN,mO]
 refine kq 4 12 (v:=?_) Q Q Φ Φ Φ (λ_ _ _ h=>h) (Or.inl ⟨Ξ,?_⟩) Ω ?_;rotate_left
 ·(intro w b;(try dsimp only at b);go_simp;try with_reducible rfl)
 simp only[Act.put,lH,mN,mO]
 refine kq 5 13 (v:=?_) Q Q Φ Φ Φ (λ_ _ _ h=>h) (Or.inl ⟨Ξ,?_⟩) Ω ?_;rotate_left
 ·(intro w b;(try dsimp only at b);go_simp;try with_reducible rfl)
 simp only[Act.put,lH,mN,mO]
 refine kq 6 14 (v:=?_) Q Q Φ Φ Φ (λ_ _ _ h=>h) (Or.inl ⟨Ξ,?_⟩) Ω ?_;rotate_left
 ·(intro w b;(try dsimp only at b);go_simp;try with_reducible rfl)
 simp only[Act.put,lH,mN,mO]
 apply wpAnyH_ready (rs:=[7]) Φ Γ;refine AllReadyH.cons (o:=_) Q (λK hK=>?_) AllReadyH.nil;go_simp;apply(Z hH _ a9).mono;rintro e w5⟨L,g5⟩;obtain rfl:=L.f (Z k);have q:=zC p g5;go_wp2_with fail;refine hK.out _ _ q (λbz=>?_);refine kq 8 16 (v:=?_) Q Q Φ Φ Φ (λ_ _ _ h=>h) (Or.inl ⟨Ξ,?_⟩) Ω ?_;rotate_left
 ·(intro w b;(try dsimp only at b);go_simp;try with_reducible rfl)
 simp only[Act.put,lH,mN,mO]
 refine kq 9 17 (v:=_) Q Q Φ Φ Φ (λ_ _ _ h=>h) (Or.inr ⟨Ξ,Q⟩) Ω ?_;simp only[Act.put,lH,mN,mO]
 refine kq 10 18 (v:=_) Q Q Φ Φ Φ (λ_ _ _ h=>h) (Or.inr ⟨Ξ,Q⟩) Ω ?_;simp only[Act.put,lH,mN,mO]
 refine kq 11 19 (v:=_) Q Q Φ Φ Φ (λ_ _ _ h=>h) (Or.inr ⟨Ξ,Q⟩) Ω ?_;simp only[Act.put,lH,mN,mO]
 refine kq 12 20 (v:=_) Q Q Φ Φ Φ (λ_ _ _ h=>h) (Or.inr ⟨Ξ,Q⟩) Ω ?_;simp only[Act.put,lH,mN,mO]
 refine kq 13 21 (v:=_) Q Q Φ Φ Φ (λ_ _ _ h=>h) (Or.inr ⟨Ξ,Q⟩) Ω ?_;simp only[Act.put,lH,mN,mO]
 refine kq 14 22 (v:=_) Q Q Φ Φ Φ (λ_ _ _ h=>h) (Or.inr ⟨Ξ,Q⟩) Ω ?_;simp only[Act.put,lH,mN,mO]
 refine kq 15 23 (v:=?_) Q Q Φ Φ Φ (λ_ _ _ h=>h) (Or.inl ⟨Ξ,?_⟩) Ω ?_;rotate_left
 ·(intro w b;(try dsimp only at b);go_simp;try with_reducible rfl)
 simp only[Act.put,lH,mN,mO]
 refine kq 16 4 (v:=?_) Q Q Φ Φ Φ (λ_ _ _ h=>h) (Or.inl ⟨Ξ,?_⟩) Ω ?_;rotate_left
 ·(intro w b;(try dsimp only at b);go_simp;try with_reducible rfl)
 simp only[Act.put,lH,mN,mO]
 refine wpAnyH_done Φ ?_ _;go_wp2;go_ret;exact⟨jM (Z bt (Z k)),q.2.2.2.2.2.2.2⟩
def lO(h:κ W A=E y)(a:A.block≠n):(ζ W ⟨n,o,N⟩ x).cell? A=E y:=
 (iB (w:=W) (dr _ _ _ _ a)).trans h
def JB{d e f:Nat}{g p q u1 u2 u3 u4:υ}(h:κ W ⟨m,i,N⟩=E u1/\κ W ⟨m,j,N⟩=E u2/\κ W ⟨o,k,N⟩=E u3/\κ W ⟨o,l,N⟩=E u4)(a:m≠n)(c:o≠n):
 ((((ζ W ⟨n,b,N⟩ z).setCell ⟨n,d,N⟩ g).setCell ⟨n,e,N⟩ p).setCell ⟨n,f,N⟩ q).cell? ⟨m,i,N⟩=E u1/\((((ζ W ⟨n,b,N⟩ z).setCell ⟨n,d,N⟩ g).setCell ⟨n,e,N⟩ p).setCell ⟨n,f,N⟩ q).cell? ⟨m,j,N⟩=E u2/\((((ζ W ⟨n,b,N⟩ z).setCell ⟨n,d,N⟩ g).setCell ⟨n,e,N⟩ p).setCell ⟨n,f,N⟩ q).cell? ⟨o,k,N⟩=E u3/\((((ζ W ⟨n,b,N⟩ z).setCell ⟨n,d,N⟩ g).setCell ⟨n,e,N⟩ p).setCell ⟨n,f,N⟩ q).cell? ⟨o,l,N⟩=E u4:=
 ⟨lO (lO (lO (lO h.1 a) a) a) a,lO (lO (lO (lO h.2.1 a) a) a) a,lO (lO (lO (lO h.2.2.1 c) c) c) c,lO (lO (lO (lO h.2.2.2 c) c) c) c⟩
def JC(w:D)(sb f:Nat)(o:Ot)(T:kM w sb f o)(H:o.sG=ρ)(m:υ)(c d:Bool)(n:Int):
 Calls prog 242 #[π (E ⟨sb,f,N⟩),ε #[m,β c,β d],I X n] w λr h=>r=ξ (τ #[ε #[I U 0,I U 0,β c,β d],β (d&&decide (2+cP o.code+cP o.ay<=n))])/\G w h N:=by
 have u:=J (λW(g:G w W N)=>zx W sb f o (T.ag g));rw[H]at u;have x:=J (λW=>Jz o.ay o.code W);obtain⟨c3,c4,c5,c6,c7,c8,-,-⟩:=T;have K:Hid (sb<w.heap.size):=J (eI w _ c3);obtain⟨z,L⟩:=í (2+cP o.code+cP o.ay);rw[<-L]at x⊢;generalize o.ay=ay at *;generalize o.code=code at *;obtain⟨i,j⟩:=í (w.alloc (ο #[m,β c,β d] 332));have M:G w i N:=by rw[j];exact aC _ _ _
 have P:i.heap[w.heap.size]?=E (ο #[m,β c,β d] 332 (0,0)):=by rw[j];exact aM _ _
 have R:i.heap.size=w.heap.size+1:=by rw[j];simp
 obtain⟨y,p⟩:=í (i.alloc (ο #[I U 0,I U 0,β θ,β θ] 377));have A:G i y N:=by rw[p];exact aC _ _ _
 have q:y.heap[w.heap.size+1]?=E (ο #[I U 0,I U 0,β θ,β θ] 377 (0,0)):=by rw[p,<-R];exact aM _ _
 have s:=bp P A;have B:=aq M A;replace⟨q,s⟩:=aT q s;go_enter func242,ntmps242;go_wp2_with fail;rw[<-j,<-p];apply(Z u _ B).mono;rintro e a⟨rfl,t⟩;have k:=aq B t;have b:=bp (Z q) t;have l:=bp (Z s) t;have S:κ a ⟨w.heap.size,1,N⟩=E (β c):=by simp[κ,l]
 have C:κ a ⟨w.heap.size,2,N⟩=E (β d):=by simp[κ,l]
 have ai:κ a ⟨w.heap.size,1+1,N⟩=E (β d):=C;have m0:κ a ⟨w.heap.size+1,0,N⟩=E (I U 0):=by simp[κ,b]
 have m1:κ a ⟨w.heap.size+1,1,N⟩=E (I U 0):=by simp[κ,b]
 have m2:κ a ⟨w.heap.size+1,2,N⟩=E (β θ):=by simp[κ,b]
 have m3:κ a ⟨w.heap.size+1,3,N⟩=E (β θ):=by simp[κ,b]
 have z0:χ a ⟨w.heap.size+1,0,N⟩=θ:=ç b;have z1:χ a ⟨w.heap.size+1,1,N⟩=θ:=ç b;have z2:χ a ⟨w.heap.size+1,2,N⟩=θ:=ç b;have z3:χ a ⟨w.heap.size+1,3,N⟩=θ:=ç b;replace⟨b,l⟩:=aT b l;go_wp2_with fail;cases d
 .go_big_region;go_wp2_with fail;refine cC (v:=τ #[ε #[I U 0,I U 0,β c,β θ],β θ]) ?_ Q ⟨Q,aK (aD (aD (aD (aD (k) _ _ (φ (dw _))) _ _ (φ (dw _))) _ _ (φ (dw _))) _ _ (φ (dw _)))⟩;simp[results,results242,go_sem, *]
 have V:=aK k;have a3:=Z K;have F:a.drew.cell? ⟨w.heap.size,1,N⟩=E (β c)/\a.drew.cell? ⟨w.heap.size,2,N⟩=E (β ρ)/\a.drew.cell? ⟨sb,f+3,N⟩=E (I U ay)/\a.drew.cell? ⟨sb,f+8,N⟩=E (I U code):=⟨S,C,(ì k c3),(ì k c8)⟩
 go_region_held3 (λh=>κ h ⟨w.heap.size,1,N⟩=E (β c)/\κ h ⟨w.heap.size,2,N⟩=E (β ρ)/\κ h ⟨sb,f+3,N⟩=E (I U ay)/\κ h ⟨sb,f+8,N⟩=E (I U code))
  (first|with_reducible exact F|exact JB F O O)
  (first|(go_at_call 283;apply(Z x _).mono;rintro e w5⟨rfl,rfl⟩))
 all_goals go_wp2_with fail
 all_goals
  refine cC (v:=τ #[ε #[I U 0,I U 0,β c,β ρ],β (decide (z<=n))]) ?_ Q ⟨Γ,aD (aD (aD (aD (V) _ _ (φ (dw _))) _ _ (φ (dw _))) _ _ (φ (dw _))) _ _ (φ (dw _))⟩
  simp[results,results242,go_sem, *]
def cF(e:Int):υ:=if e=0 then .nilIface else .iface 34 (I X e)
def xP:cF 0=.nilIface:=rfl
def pC(w:D)(sb:Nat)(aI:Int)(dS:κ w ⟨sb,99,N⟩=E (I X aI)):Calls prog 155 #[π (E ⟨sb,0,N⟩)] w λr a=>r=ξ (β (decide (aI≠0)))/\G w a N:=by
 by_cases h:aI=0
 .subst h;go_enter func155,ntmps155;go_wp2;go_ret;exact⟨Q,au _ _⟩
 have e:(aI !=0)=ρ:=by simpa using h
 have d:decide (aI≠0)=ρ:=by simpa using h
 rw[d];go_enter func155,ntmps155;go_wp2;go_ret;exact⟨Q,au _ _⟩
def eZ(aI k:Int):Int:=if aI≠0 then 9 else if k<0\/4<=k then 2 else 0
def rB(w:D)(sb:Nat)(aI k:Int)(dS:κ w ⟨sb,99,N⟩=E (I X aI)):Calls prog 152 #[π (E ⟨sb,0,N⟩),I X k] w λr i=>r=ξ (cF (eZ aI k))/\G w i N:=by
 have b:=J (pC w sb aI dS);by_cases h:aI=0
 .have d:decide (aI≠0)=θ:=by simpa using h
  rw[d]at b;by_cases c:k<0
  .have e1:decide (k<0)=ρ:=bU c;have e:eZ aI k=2:=by unfold eZ;simp[h,c]
   rw[e];replace h:=J h;go_enter func152,ntmps152;go_wp2_with fail;apply(Z b).mono;rintro e g⟨rfl,a⟩;go_wp2;go_ret;exact⟨Q,a⟩
  have e1:decide (k<0)=θ:=bT c;by_cases f:4<=k
  .have e2:decide (k≥4)=ρ:=bU f;have e:eZ aI k=2:=by unfold eZ;simp[h,f]
   rw[e];replace h:=J h;go_enter func152,ntmps152;go_wp2_with fail;apply(Z b).mono;rintro e g⟨rfl,a⟩;go_wp2;go_ret;exact⟨Q,a⟩
  have e2:decide (k≥4)=θ:=bT f;have e:eZ aI k=0:=by unfold eZ;simp[h,c,f]
  rw[e];replace h:=J h;go_enter func152,ntmps152;go_wp2_with fail;apply(Z b).mono;rintro e g⟨rfl,a⟩;go_wp2;go_ret;exact⟨Q,a⟩
 have d:decide (aI≠0)=ρ:=by simpa using h
 rw[d]at b;have e:eZ aI k=9:=by unfold eZ;simp[h]
 rw[e];go_enter func152,ntmps152;go_wp2_with fail;apply(Z b).mono;rintro e g⟨rfl,a⟩;go_wp2;go_ret;exact⟨Q,a⟩
def tO(h:eZ p q≠0):∃e:Int,cF (eZ p q)=.iface 34 (I X e):=⟨eZ p q,by unfold cF;rw[aE h]⟩
def CN(w:D)(sb:Nat)(aI k:Int)(dS:κ w ⟨sb,99,N⟩=E (I X aI))(h:eZ aI k≠0):Calls prog 149 #[π (E ⟨sb,0,N⟩),I X k] w λr b=>r=ξ (τ #[π N,cF (eZ aI k)])/\G w b N:=by
 have a:=J (rB w sb aI k dS);let⟨x,c⟩:=tO h
 rw[c]at a⊢;go_enter func149,ntmps149;go_wp2_with fail;apply(Z a).mono;rintro e f⟨rfl,d⟩;go_wp2_with fail;exact cC (v:=τ #[π N,.iface 34 (I X x)]) (by simp[results,results149,go_sem]) Q ⟨Q,d⟩
def qG(k:Nat):19+k*9=19+9*k:=O
def vC(k:Nat):55+k*9=55+9*k:=O
def CO(w:D)(sb:Nat)(k:Nat)(j:k<4)(o:Ot)(dS:κ w ⟨sb,99,N⟩=E (I X 0))(T:kM w sb (19+9*k) o):Calls prog 149 #[π (E ⟨sb,0,N⟩),I X k] w λr f=>r=ξ (if o.sE||o.sG then τ #[π N,cF 3]else τ #[π (E ⟨sb,19+9*k,N⟩),.nilIface])/\G w f N:=by
 have c:=J (rB w sb 0 k dS);have e:eZ 0 (k:Int)=0:=by unfold eZ;simp;omega
 rw[e,xP]at c;have a:=J (λW(g:G w W N)=>I7 W sb (19+9*k) o (T.ag g));rw[<-qG]at a⊢;cases hd:(o.sE||o.sG)
 .rw[hd]at a;go_enter func149,ntmps149;go_wp2_with fail;apply(Z c).mono;rintro e h⟨rfl,b⟩;go_wp2_with fail;apply(Z a _ b).mono;rintro e i⟨rfl,d⟩;go_wp2_with fail;exact cC (v:=τ #[π (E ⟨sb,19+k*9,N⟩),.nilIface]) (by simp[results,results149,go_sem]) Q ⟨Q,aq b d⟩
 rw[hd]at a;go_enter func149,ntmps149;go_wp2_with fail;apply(Z c).mono;rintro e h⟨rfl,b⟩;go_wp2_with fail;apply(Z a _ b).mono;rintro e i⟨rfl,d⟩;go_wp2_with fail;exact cC (v:=τ #[π N,cF 3]) (by simp[results,results149,go_sem,cF]) Q ⟨Q,aq b d⟩
