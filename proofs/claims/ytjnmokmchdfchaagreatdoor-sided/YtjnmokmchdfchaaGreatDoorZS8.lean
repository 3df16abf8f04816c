import Derived.Deep.CutBlock
import Derived.Test.YtjnmokmchdfchaaGreatDoorZS6
set_option maxRecDepth 1000000
set_option maxHeartbeats 0
set_option linter.all false
namespace Go.Proofs.YtjnmokmchdfchaaGreatDoor
open Go.RowKit Tryz
open Go.Value renaming int→I,slice→Y,bool→β,pointer→π,agg→ε,string→ς,tuple→τ
open Go.IntKind renaming i64→X,u64→U,u8→Δ
open Go.Ending renaming returned→ξ
open Go.Obj renaming cells→ο
open Or renaming inl→φ,inr→ψ
open Option renaming some→E,none→N
open Bool renaming true→ρ,false→θ
open Go renaming World→D,Value→υ
open Go.World renaming grownBy→G,cell?→κ,frozen?→χ,setCell→ζ
attribute[local go_sem↓]Go.wp_at_zero Go.wp_at_succ
variable{B:Bool}{u:Fr}{t:Int}{L:List Int}{s:List Rg}{b i j k l n:Nat}{a:Option Addr}{T:TypeId}{x y z:υ}{W w:D}
def pZ(fs:List Fr):Prop:=0<fs.length/\∀i,i<fs.length->cT (eR fs i)
def Dq(w:D)(fs:List Fr)(bad:υ)(f:υ->υ)(e:Ending)(a:D):Prop:=
 ((pZ fs/\∃b c d,e=ξ (f (Y b c d))/\aS a w.heap.size (Y b c d) (bE fs))\/(¬pZ fs/\e=ξ bad))/\G w a N
def aS.zX(h:aS w n x L)(e:k<=n):aS w k x L:=by
 let⟨b,c,a⟩:=h
 refine⟨b,c,?_⟩
 obtain a|⟨g,cap,cur,e1,e2,d⟩:=a
 simp_all;exact ψ ⟨g,cap,cur,e1,O,d⟩
def vE:(prog.info? 158).map (·.size)=E 7:=Φ
def KO:(prog.info? 317).map (·.size)=E 4:=Φ
def KP(w:D)(a:Option Addr)(n c9:Nat)(fs:List Fr)(h:lq w a n c9 fs)(de:fh fs<=30000000):
 Calls prog 147 #[Y a n c9] w (Dq w fs (τ #[Y N 0 0,.iface 34 (I X 5)]) (λv=>τ #[v,.nilIface])):=by
 have c:=h.1;have et:=h.2.1;have dg:=h.2.2.1;unfold maxLen at dg;by_cases h0:n=0
 .have e0:((n:Int)==0)=ρ:=by simp[h0]
  have bx:¬pZ fs:=λl=>by have:=l.1;omega
  replace bx:=J bx;go_enter func147,ntmps147;go_wp2;go_ret2;exact⟨ψ ⟨Z bx,Q⟩,au _ _⟩
 have e0:((n:Int)==0)=θ:=by simp[h0]
 obtain⟨b,o,rfl⟩:∃b o,a=E ⟨b,o,N⟩:=by
  obtain⟨-,-,-,hc|⟨b,o,rfl,-⟩⟩:=h;omega;exact⟨b,o,Q⟩
 replace c:=J c;go_enter func147,ntmps147;go_wp2_with fail;apply(Dm w).mono;rintro e y⟨T,z,A,B,C,F,Bo,Bc,rfl,hT,V⟩;have h1:=h.ag V;go_wp2;go_loopw [4,17] (λv i wr=>∃(j:Nat)(a':Option Addr)(n' c':Nat),j<=n/\i=I X j/\v=Y a' n' c'/\cL y y.heap.size (Y N 0 0) wr v (bE (fs.take j))/\∀i,i<j->cT (eR fs i)) (λ_ i _=>n-(intOf i).toNat);case atStart=>exact⟨0,N,0,0,O,Q,Q,cL.refl (aS.nil _ _),λi hi=>O⟩
 case round=>
  obtain⟨j,a',n',c',hj,rfl,rfl,q,a1⟩:=hrel;have r:=q.jc (au _ _) (aS.nil _ _) (aP _);by_cases ez:j<n
  .let⟨rv,a2,dn⟩:=h1.at j (by have:=Z c;omega)
   have m:=jE dn r Γ;obtain⟨f,p⟩:=í (eR fs j);rw[<-p]at a2 m;obtain⟨-,-,ra,H,db,-⟩:=id a2;generalize eL:f.ranges.length=rl at db;subst db;have a3:=λW(g:G y W N)=>KK W T z A B C F Bo Bc (hT.ag g) f (Y ra rl H)
   have a4:=λW(g:G y W N)=>Ci f (Y ra rl H) W (a2.ag g)
   have a8:=λ(bA:List (List Int))(k0:Int)(dv:Bool)(t:Int)(pv:υ)=>KF y f (Y ra rl H) pv bA k0 dv t
   have bM:=λ(hs:cT f)(i:Nat)(hi:i<7)=>KN hT a2 hs hi
   have b3:=λ(i:Nat)(hi:i<7)=>KM (u:=f) (n:=z) (i:=A) (l:=B) (m:=C) (o:=F) hi
   have b4:=KL (u:=f) (n:=z) (i:=A) (l:=B) (m:=C) (o:=F);have b5:fh (fs.take j)+kX f<=fh fs:=by rw[p];exact Dp (by have:=Z c;omega)
   have b6:=xp f;have b7:=zk (fs.take j);have b8:kX f=25+16*f.ranges.length+f.data.size:=rfl;have ca:bE (fs.take (j+1))=bE (fs.take j)++cH f:=by rw[BP fs j (by have:=Z c;omega),p,xU (by have:=Z c;omega)]
   generalize cG z A B C F=L at *;let⟨k,s,ai,cd,fin,d,rg⟩:=f
   have c0:κ wr ⟨b,o+j*7,N⟩=E (I X k):=m 0 _ Q;have c1:κ wr ⟨b,o+j*7+1,N⟩=E (I X s):=m 1 _ Q;have c2:κ wr ⟨b,o+j*7+2,N⟩=E (I U ai):=m 2 _ Q;have c3:κ wr ⟨b,o+j*7+3,N⟩=E (I U cd):=m 3 _ Q;have c4:κ wr ⟨b,o+j*7+4,N⟩=E (β fin):=m 4 _ Q;have c5:κ wr ⟨b,o+j*7+5,N⟩=E (ς d):=m 5 _ Q;have c6:=m 6 _ Q;simp only[bC]at a3 a4 a8;have i1:(0:Int)<=j:=O;have i2:(j:Int)<n:=O;have dc:Hid ((wr.alloc (ο #[I X k,I X s,I U ai,I U cd,β fin,ς d,Y ra rl H] 158)).heap[wr.heap.size]?=E (ο #[I X k,I X s,I U ai,I U cd,β fin,ς d,Y ra rl H] 158 (0,0))):=J (aM _ _);replace⟨a3,a4,a8,bM,b3,b4,a1,q,r⟩:=rC a3 a4 a8 bM b3 b4 a1 q r;replace⟨p,b5,b6,b7,b8,ca,h1,h⟩:=xQ p b5 b6 b7 b8 ca h1 h;obtain⟨WB,M⟩:=í (wr.alloc (ο #[I X k,I X s,I U ai,I U cd,β fin,ς d,Y ra rl H] 158));have ak:Hid (G wr WB N):=J (by rw[M];exact aC _ _ _);have e4:WB.heap.size=wr.heap.size+1:=by rw[M];simp
   rw[<-M]at dc;go_wp2_with fail;rw[<-M];replace M:=J M;apply(Z a3 WB (aq (Z r) (Z ak))).mono;rintro e P⟨⟨i,hi,l,hq,rfl⟩|⟨ea,rfl⟩,g3⟩
   .have hp:=λhs=>Z bM hs i hi l hq
    have cm:=Z b3 i hi l;generalize bJ L i=S at *;let⟨K,FN,TT,PA,PN⟩:=S
    obtain⟨W4,u⟩:=í (P.alloc (ο #[I X K,β FN,I Δ TT,Y PA PN PN] 317));have g4:G P W4 N:=by rw[u];exact aC _ _ _
    have cw:W4.heap[P.heap.size]?=E (ο #[I X K,β FN,I Δ TT,Y PA PN PN] 317 (0,0)):=by rw[u];exact aM _ _
    have e5:W4.heap.size=P.heap.size+1:=by rw[u];simp
    have bb:=aq g3 g4;have bj:=(bb.block wr.heap.size O Γ).trans (Z dc);have br:=aq (aq (Z r) (Z ak)) bb;let⟨d0,d1,d2,d3,d4,d5,d6⟩:=bQ bj
    rw[u]at d0 d1 d2 d3 d4 d5 d6;have e6:=g3.size;replace⟨hp,cm,l,hq,cw,bj⟩:=mY hp cm l hq cw bj;go_wp2_with fail;rw[<-u];replace u:=J u;apply(Z a4 W4 br).mono;rintro e w5⟨⟨bo,rfl,al⟩,x⟩;replace al:=J al;cases bo
    .go_wp2_with fail;go_ret2;refine⟨ψ ⟨λl=>?_,Q⟩,aq V (aq br x)⟩
     have R:=l.2 j (by have:=Z c;omega);rw[<-Z p]at R;have:=(Z al).2 ⟨R.1,R.2.1⟩;cases this
    have bt:cT ⟨k,s,ai,cd,fin,d,rg⟩:=⟨((Z al).1 Q).1,((Z al).1 Q).2,Z cm⟩
    let⟨bA,hP,bw,ed⟩:=Z hp bt
    have hC:=Z a8 bA K FN TT (Y PA PN PN) ed hP w5 y.heap.size a' n' c' (bE (fs.take j)) (aq br x) (aP _) (aq br x).size ((Z q).still (aq (Z ak) (aq bb x))).own (by
     have q1:=Z b5;have q2:=Z b6;have q3:=Z b7;have q4:=Z b8;rw[bw,dY]at q2;try dsimp only at q4
     try dsimp only
     have q5:=Z (J de);omega)
    replace⟨hC,bw,bt,hP⟩:=fB hC bw bt hP;go_wp2_with (first
     |(refine pR Ξ 317 _ Ξ P.heap.size Ξ 317 _ (0,0) _ (Z (J ((x.block P.heap.size O Γ).trans (Z cw)))) underlying317 Ξ (Z (J KO)) ?_)
     |(refine pR Ξ 158 _ Ξ wr.heap.size Ξ 158 _ (0,0) _ (Z (J ((x.block wr.heap.size O Γ).trans (Z bj)))) underlying158 Ξ (Z (J vE)) ?_))
    apply(Z hC).mono;rintro e w6⟨a6,n6,c6,rfl,G6⟩;go_wp2;go_roundw;case rel=>
     refine⟨j+1,a6,n6,c6,O,Γ,Q,?_,λi hi=>?_⟩
     rw[Z ca,Z bw];exact((Z q).still (aq (Z ak) (aq bb x))).trans G6;obtain h9|rfl:=sY.1 hi
     exact Z a1 i h9;rw[<-Z p];exact Z bt
    case measure=>simp[intOf];omega
   have er:=J (Z b4 ea);go_wp2;go_ret2;refine⟨ψ ⟨λl=>?_,Q⟩,aq V (aq (aq (Z r) (Z ak)) (aW g3 _))⟩
   have R:=l.2 j (by have:=Z c;omega);rw[<-Z p]at R;exact Z er R.2.2
  obtain rfl:j=n:=O;go_wp2;go_ret2;refine⟨φ ⟨⟨by have:=Z c;omega,λi hi=>a1 i (by have:=Z c;omega)⟩,a',n',c',Q,?_⟩,aq V r⟩
  rw[oe (by have:=Z c;omega)]at q;exact q.own.zX V.size
def bq.DD(h:bq w a n k s)(b:s≠[]->∀z,a=E z->z.block≠i)(so:Nat)(v:υ):bq (ζ w ⟨i,so,N⟩ v) a n k s:=
 h.dR (λhl z c=>dr _ _ _ _ (b hl z c))
def Lh(w:D)(c b:Nat)(i:Array υ)(t:TypeId)(a:Option Addr)(n T:Nat)(l:List Rg)(e g:Bool)(x:Rg)(k p:Bool)(a0:w.heap[c]?=E (ο i t (0,0)))(c0:i[b]?=E (Y a n T))(c1:i[b+1]?=E (β e))(c2:i[b+2]?=E (β g))(hr:bq w a n T l)(a1:l≠[]->∀y,a=E y->y.block≠c)(bA:bk l)(hx:x.ok)(hn:n<=1000000):
 Calls prog 241 #[π (E ⟨c,b,N⟩),ε #[I U x.lo,I U x.hi,β k,β p]] w λr V=>r=ξ (τ #[])/\
  ∃(d:Option Addr)(A B:Nat)(j:List Rg),G w V (E c)/\V.heap[c]?=E (ο (((i.setIfInBounds b (Y d A B)).setIfInBounds (b+1) (β (e&& !k))).setIfInBounds (b+2) (β (g&& !p))) t (0,0))/\bq V d A B j/\(d=a\/∀y,d=E y->w.heap.size<=y.block)/\bk j/\j.length<=l.length+1/\∀m,Sm j m↔Sm l m/\¬(x.lo<=m/\m<x.hi):=by
 have cp:c<w.heap.size:=(aV.1 a0).1;obtain⟨u,v⟩:=x;obtain⟨H,ai⟩:=í ((e&& !k));obtain⟨K,ak⟩:=í ((g&& !p));rw[<-ai,<-ak];have a2:=J (λW=>zw e g k p W);rw[<-ai,<-ak]at a2;clear ai ak;obtain⟨f,C⟩:=í (w.alloc (ο #[I U u,I U v,β k,β p] 377));have g1:G w f N:=by rw[C];exact aC _ _ _
 have F:f.heap[w.heap.size]?=E (ο #[I U u,I U v,β k,β p] 377 (0,0)):=by rw[C];exact aM _ _
 have ct:f.heap.size=w.heap.size+1:=by rw[C];simp
 have p0:κ f ⟨w.heap.size,0,N⟩=E (I U u):=by simp[κ,F]
 have p1:κ f ⟨w.heap.size,1,N⟩=E (I U v):=by simp[κ,F]
 have a3:=bp a0 g1;have hA:=J (λW(g:G f W N)=>Ce W c b i t a n T l ⟨u,v⟩ (bp a3 g) c0 (hr.ag (aq g1 g)) a1 bA hx hn);replace F:=J F;go_enter func241,ntmps241;go_wp2_with fail;rw[<-C];clear C;go_region_with (first|(go_at_call 281;apply(Z hA f.drew (aK (au _ _))).mono;rintro e q⟨rfl,d,A,B,j,⟨gU,hU⟩,b6,z,a8,b7,a9⟩));go_wp2_with fail;have b8:G w q (E c):=aq (cK (aK g1) _) gU;have s:=hU i t a3;have bb:q.heap[w.heap.size]?=E (ο #[I U u,I U v,β k,β p] 377 (0,0)):=(gU.block _ (by show w.heap.size<f.heap.size;omega) (λe=>by cases e;omega)).trans (Z F);have bj:j≠[]->∀y,d=E y->y.block≠c:=λhl y e=>by
  obtain z|z:=z
  refine a1 (λe0=>hl ?_) y (z▸e);cases j with
  |nil=>rfl
  |cons r j=>
   have h1:=(a9 r.lo).1 ⟨r,Γ,fv _,a8.2 r Γ⟩;rw[e0]at h1;exact absurd h1.1 (ij _)
  have:f.heap.size<=y.block:=z y e;omega
 have ca:d=a\/∀y,d=E y->w.heap.size<=y.block:=z.imp id (λh y e=>by have:f.heap.size<=y.block:=h y e;omega);obtain⟨bt,L⟩:=í (i.setIfInBounds b (Y d A B));rw[<-L]at s;have d1:bt[b+1]?=E (β e):=by rw[L];simpa [oW]using c1
 have d2:bt[b+1+1]?=E (β g):=by rw[L,show b+1+1=b+2 from rfl];simpa [oW]using c2
 have m1:κ q ⟨c,b+1,N⟩=E (β e):=(ba s _).trans d1;have m2:κ q ⟨c,b+1+1,N⟩=E (β g):=(ba s _).trans d2;have q2:κ q ⟨w.heap.size,2,N⟩=E (β k):=by simp[κ,bb]
 have q3:κ q ⟨w.heap.size,2+1,N⟩=E (β p):=by simp[κ,bb]
 have ch:Hid (∀W,G q W N->∃(M:Option Addr)(n₁ c₁:Nat)(P:List Rg),G w ((ζ W ⟨c,b+1,N⟩ (β H)).setCell ⟨c,b+1+1,N⟩ (β K)) (E c)/\((ζ W ⟨c,b+1,N⟩ (β H)).setCell ⟨c,b+1+1,N⟩ (β K)).heap[c]?=E (ο (((i.setIfInBounds b (Y M n₁ c₁)).setIfInBounds (b+1) (β H)).setIfInBounds (b+2) (β K)) t (0,0))/\bq ((ζ W ⟨c,b+1,N⟩ (β H)).setCell ⟨c,b+1+1,N⟩ (β K)) M n₁ c₁ P/\(M=a\/∀y,M=E y->w.heap.size<=y.block)/\bk P/\P.length<=l.length+1/\∀m,Sm P m↔Sm l m/\¬(u<=m/\m<v)):=J (λW gW=>
  ⟨d,A,B,j,aD (aD (aq b8 (cK gW _)) _ _ (ψ Q)) _ _ (ψ Q),by rw[<-L];exact heap_set (heap_set (bp s gW) _) _,((b6.ag gW).DD bj _ _).DD bj _ _,ca,a8,b7,a9⟩)
 replace s:=J s;go_region_with (first|(go_at_call 282;apply(Z a2 _).mono;rintro e w5⟨rfl,g5⟩;have R:G q w5 N:=(aq (aK (au _ _)) g5);have S:=bp (Z s) R;have b1:=ì R m1;have b2:=ì R m2;have z1:χ w5 ⟨c,b+1,N⟩=θ:=(by simp[χ,S]);have z2:χ w5 ⟨c,b+1+1,N⟩=θ:=(by simp[χ,S]);replace S:=J S));all_goals go_wp2_with fail
 all_goals exact eP (dV Q _ _ _) Q ⟨Q,Z ch _ R⟩
def Lr(a:w.heap[b]?=E (ο (bC u x) T (0,0)))(c:cD w u x)(d:1<=n)(f:n<=maxLen):lq w (E ⟨b,0,N⟩) 1 n [u]:=by
 refine⟨Q,d,f,ψ ⟨b,0,Q,λi hi=>?_⟩⟩
 have:i=0:=by simp_all
 subst this;refine⟨x,c,λj h g=>?_⟩
 have e:eR [u] 0=u:=rfl;rw[e]at g;rw[nz,eM,ba a];have:bC u x=(iN u x).toArray:=rfl;grind
def Ag(w:D)(f:Fr)(d:υ)(z:cD w f d)(hs:cT f)(A:fh [f]<=30000000):
 Calls prog 206 #[ε (bC f d)] w λe t=>(∃a n c,e=ξ (Y a n c)/\aS t w.heap.size (Y a n c) (bE [f]))/\G w t N:=by
 have B:=J (λW a n m(g:G w W N)(h:lq W a n m [f])=>KP W a n m [f] h A);have C:pZ [f]:=⟨Γ,λi hi=>by
  have:i=0:=by simp at hi;omega
  subst this;exact hs⟩
 have F:=J (λ(W:D)(b:Nat)(g:G w W N)(h:W.heap[b]?=E (ο (bC f d) 158 (0,0)))=>Lr (n:=1) h (z.ag g) O (by simp[maxLen]));refine fL λR p=>?_
 replace p:=J p;obtain⟨j,k⟩:=í (w.alloc (ο (bC f d) 158));have q:G w j N:=by rw[k];exact aC _ _ _
 have H:j.heap[w.heap.size]?=E (ο (bC f d) 158 (0,0)):=by rw[k];exact aM _ _
 obtain⟨l,r⟩:=í (j.alloc (ο (bC f d) 158));have s:G j l N:=by rw[r];exact aC _ _ _
 have K:l.heap[j.heap.size]?=E (ο (bC f d) 158 (0,0)):=by rw[r];exact aM _ _
 have L:=J (Z B l _ _ _ (aq q s) (Z F l _ (aq q s) K));have u:=aq q s;obtain⟨kind,stream,offset,code,fin,data,ranges⟩:=f;unfold bC at *;simp only at *;have ai:=bQ H;go_enter func206,ntmps206;go_upto_region 1 with fail;rw[<-k];clear k;go_wp2_with fail;rw[<-r];apply(Z L).mono;rintro e M⟨⟨-,v,x,y,rfl,P⟩|⟨S,-⟩,T⟩
 .have V:Hid (R (ξ (Y v x y)) M):=J (by
   rw[Z p];exact⟨⟨v,x,y,Q,P.zX u.size⟩,aq u T⟩)
  go_wp2_with fail;exact Z V
 exact absurd C S
def DJ(w:D)(sb:Nat)(az:Int)(c0:κ w ⟨sb,0,N⟩=E (I X az))(b:16<=az/\az<=1000000):Calls prog 203 #[π (E ⟨sb,0,N⟩)] w λe a=>e=ξ (I X (az-16))/\G w a N:=by
 go_enter func203,ntmps203;go_wp2;go_ret;exact⟨Q,au _ _⟩
def nK{x:Int×Nat}(h:cE L n=E x):n<x.2:=by
 unfold cE at h;split at h;cases h;have:=tC (L.getD n 0);simp only;omega;cases h
def E4{l:List Int}:∀(k p:Nat)(lo:Int)(a rs:List Rg)(q:Nat),iF l k p lo a=E (rs,q)->p<=q
 |0,p,lo,a,rs,q,h=>by
  simp only[iF,qu,uS]at h;omega
 |k+1,p,lo,a,rs,q,h=>by
  simp only[iF]at h;cases b:cE l p with
  |none=>rw[b]at h;cases h
  |some x=>
   rw[b]at h;simp only[dX]at h;have d:=nK b;cases c:cE l x.2 with
   |none=>rw[c]at h;cases h
   |some y=>
    rw[c]at h;simp only[dX]at h;have e:=nK c;split at h;have:=E4 k _ _ _ _ _ h;omega;cases h
def E5{x:List Rg×Nat}(h:eW L n=E x):n<=x.2:=by
 unfold eW at h;cases a:cE L n with
 |none=>rw[a]at h;cases h
 |some d=>
  rw[a]at h;simp only[dX]at h;have e:=nK a;cases b:cE L d.2 with
  |none=>rw[b]at h;cases h
  |some y=>
   rw[b]at h;simp only[dX]at h;have f:=nK b;cases c:cE L y.2 with
   |none=>rw[c]at h;cases h
   |some z=>
    rw[c]at h;simp only[dX]at h;have g:=nK c;split at h;have:=E4 _ _ _ _ x.1 x.2 h;omega;cases h
def AE{x:Int×Nat}(h:fH L n=E x):n<=x.2:=by
 unfold fH at h;cases a:cE L n with
 |none=>rw[a]at h;cases h
 |some y=>
  rw[a]at h;simp only[dX]at h;have:=nK a;split at h;cases h;omega;cases h
def E6{x:ByteArray×Nat}(h:ju L n=E x):n<=x.2:=by
 unfold ju at h;cases a:cE L n with
 |none=>rw[a]at h;cases h
 |some y=>
  rw[a]at h;simp only[dX]at h;have:=nK a;split at h;cases h;simp only;omega;cases h
def bind_mono{α:Type}{o:Option (α×Nat)}{g:α×Nat->Fr}(a:∀x,o=E x->n<=x.2)(h:(o.bind λx=>E (g x,x.2))=E (u,k)):n<=k:=by
 cases o with
 |none=>cases h
 |some x=>simp only[dX,qu,uS]at h;have:=a x Q;omega
def NK(i:j<7):∀s∈eC L j,∀(f:Fr)(p:Nat)(a:Fr)(q:Nat),s f p=E (a,q)->p<=q:=by
 have c:∀(f:Fr)(p:Nat)(a:Fr)(q:Nat),nk L f p=E (a,q)->p<=q:=λf p a q h=>bind_mono (λx b=>uV (nK b)) h
 have e:∀(f:Fr)(p:Nat)(a:Fr)(q:Nat),oJ L f p=E (a,q)->p<=q:=λf p a q h=>bind_mono (λx b=>uV (nK b)) h
 have d:∀(f:Fr)(p:Nat)(a:Fr)(q:Nat),nn L f p=E (a,q)->p<=q:=λf p a q h=>bind_mono (λx b=>AE b) h
 have g:∀(f:Fr)(p:Nat)(a:Fr)(q:Nat),oK L f p=E (a,q)->p<=q:=λf p a q h=>bind_mono (λx b=>E6 b) h
 have k:∀(f:Fr)(p:Nat)(a:Fr)(q:Nat),qK L f p=E (a,q)->p<=q:=λf p a q h=>bind_mono (λx b=>E5 b) h
 intro s hs;obtain rfl|rfl|rfl|rfl|rfl|rfl|rfl:=rD i<;>simp[eC]at hs
 subst hs;exact k;obtain rfl|rfl|rfl:=hs
 exact d;exact e;exact c;obtain rfl|rfl|rfl:=hs
 exact d;exact c;exact g;obtain rfl|rfl|rfl:=hs
 exact d;exact c;exact g;subst hs;exact e
def FA(w:D)(d:Nat)(sl:υ)(p len:Nat)(r:Option (Fr×Nat))(e:Ending)(a:D):Prop:=
 G w a (E d)/\((∃f q b,r=E (f,q)/\e=ξ (ε (bC f b))/\cD a f b/\(b=Y N 0 0\/∃x n c,b=Y (E x) n c/\w.heap.size<=x.block)/\dh a d sl q p/\p<q/\q<=len)\/(r=N/\e=PN/\∃g,dh a d sl g p))
def cD.set{w:D}(h:cD w u (Y a n k))(i:Nat)(v:υ)(c:∀x,a=E x->x.block≠j):cD (ζ w ⟨j,i,N⟩ v) u (Y a n k):=by
 obtain⟨d,f,ra,g,b,l⟩:=h;refine⟨d,f,ra,g,b,?_⟩
 cases b;obtain⟨m,p,k3,k4,k5⟩:=l;refine⟨m,p,k3,k4,?_⟩
 obtain k5|⟨q,r,rfl,k5⟩:=k5
 exact φ k5;exact ψ ⟨q,r,Q,xk k5 _ _ (λe=>c _ Q e.symm)⟩
def E7(w:D)(b T L M V P5 P6 Bo Bc m o n F:Nat)(l:List Int)(p st:Nat)(hT:kr w T L M V P5 P6 Bo Bc)(hX:dh w b (.slice (E ⟨m,o,N⟩) n F) p st)(aa:bD w (E ⟨m,o,N⟩) n F l)(xb:m≠b)(hp:p<l.length)(hl:l.length<=100000000):
 Calls prog 190 #[π (E ⟨b,0,N⟩),.slice (E ⟨T,0,N⟩) 7 7] w (FA w b (.slice (E ⟨m,o,N⟩) n F) p l.length (kG l p)):=by
 have ez:=hX.lt;have h8:=aa.1;obtain⟨x0,x1,x2,xf⟩:=iq hX;have bM:=hT.ne x0;have fo:m<w.heap.size:=by
  obtain⟨b1,o1,e1,h1⟩:=rE aa (by have:=aa.2.1;omega);cases e1;exact eI w _ (h1 0 (by have:=aa.2.1;omega))
 go_enter func190,ntmps190;go_wp2_with fail;obtain⟨W1,ak⟩:∃W,W=(ζ w ⟨b,2,N⟩ (I X p)).alloc (ο #[I X 0,I X 0,I U 0,I U 0,β θ,ς {data:= #[]},.slice N 0 0] 158):=⟨_,Q⟩
 have dg:dh W1 b (.slice (E ⟨m,o,N⟩) n F) p p:=by
  rw[ak];unfold dh at hX⊢;rw[fE _ _ _ (by simpa [ζ]using ez),heap_set hX];rfl
 have g1:G w W1 (E b):=by rw[ak];exact aW (aD (au _ _) _ _ (ψ Q)) _
 have dk:W1.heap[w.heap.size]?=E (ο #[I X 0,I X 0,I U 0,I U 0,β θ,ς {data:= #[]},.slice N 0 0] 158 (0,0)):=by
  have:=aM (ζ w ⟨b,2,N⟩ (I X p)) (ο #[I X 0,I X 0,I U 0,I U 0,β θ,ς {data:= #[]},.slice N 0 0] 158);rw[ak];simpa [ζ]using this
 have fy:W1.heap.size=w.heap.size+1:=by rw[ak];simp[ζ]
 have bj:∀W,G w W (E b)->bD W (E ⟨m,o,N⟩) n F l:=λW g=>aa.gb g (λj e=>ψ (ψ (λx hx=>by cases hx;cases e;exact xb)))
 rw[<-ak];replace ak:=J ak;clear x0 x1 x2 xf hX;apply(xV b m o n F l p p 1 1 Q W1 dg (bj W1 g1) xb O hl O).mono;rintro e w2⟨g2,⟨hs,rfl,b3⟩|⟨hs,a2,c2,rfl,b4,b3⟩⟩;omega;obtain⟨b2,o2,rfl,dm⟩:=rE b4;have x1:=dm 0 O;rw[zY _ _ _ _ O,nA,nA]at x1;obtain⟨t,ht⟩:=í (l.getD p 0);rw[<-ht]at x1;have a8:kG l p=(dy l t (p+1)).bind λx=>by classical exact if cT x.1 then E x else N:=by rw[ht];rfl
 replace⟨ht,a8,b4⟩:=cA ht a8 b4;have b5:=aq g1 g2;have dn:=hT.gx (Gx.of (Y:=b) b5 (λk e=>φ (aR e).symm)) bM bM;clear dm;go_wp2_with fail;apply(NB w2 T L M V P5 P6 Bo Bc dn t).mono;rintro e w3⟨⟨j,hj,br,rfl⟩|⟨du,rfl⟩,g3⟩;rotate_left
 .have al:kG l p=N:=by rw[Z a8,ND l (p+1) du];rfl
  replace al:=J al;have eK:=J (b3.gb g3);clear du x1;go_wp2_with (go_at_call 188;apply(tS b _).mono;rintro e w'⟨rfl,rfl⟩);exact⟨Q,cO b5 (aW g3 _) (nofun),ψ ⟨Z al,Q,_,(Z eK).gb (aC _ _ N)⟩⟩
 have a9:=NC l L M V P5 P6 (p+1) hj;rw[br]at a9;have bt:=λ(W:D)(eL:kr W T L M V P5 P6 Bo Bc)(a:Nat)(hY:T≠a/\L≠a/\M≠a/\V≠a/\P5≠a/\P6≠a/\Bo≠a/\Bc≠a)(eS:a<W.heap.size)=>NJ eL b a m o n F l p bM hY eS hj
 have dv:1<=(bJ (cG L M V P5 P6) j).k/\(bJ (cG L M V P5 P6) j).k<=6:=by
  obtain rfl|rfl|rfl|rfl|rfl|rfl|rfl:=rD hj<;>simp[bJ,cG]
 have dx:=dn.ag g3;have b6:=NK (L:=l) hj;have b7:=λ(i:Nat)(hi:i<(eC l j).length)(f f':Fr)(p q:Nat)=>NF (L:=l) (u:=f) (b:=f') (n:=p) (k:=q) hj hi
 have b8:j=2->(eC l j).length=1:=λe=>by rw[e];rfl
 generalize bJ (cG L M V P5 P6) j=S at *;obtain⟨K,FN,TT,PA,u⟩:=S;simp only at a9 bt dv br;obtain⟨a,ax⟩:=í (w3.heap.size+1);have e3:=dx.lt (Y:=a) O;obtain⟨W5,a0⟩:∃W,W=(w3.alloc (ο #[I X K,β FN,I Δ TT,.slice PA u u] 317)).alloc (ο #[I X K,I X 0,I U 0,I U 0,β FN,ς {data:= #[]},.slice N 0 0] 158):=⟨_,Q⟩
 have g5:G w3 W5 N:=by rw[a0];exact aW (aC _ _ _) _
 have fA:W5.heap.size=w3.heap.size+2:=by rw[a0];simp
 have ca:W5.heap[a]?=E (ο (bC (bL K FN) (.slice N 0 0)) 158 (0,0)):=by
  rw[a0,ax,<-dJ w3 (ο #[I X K,β FN,I Δ TT,.slice PA u u] 317)];exact aM _ _
 have e4:=dx.ag g5;obtain⟨z,ga,cc⟩:=bt W5 e4 a e3 O;have ea:G w W5 (E b):=cO b5 (aq g3 g5) (nofun);have cf:=b3.gb (aq g3 g5);have ch:W5.heap[w.heap.size]?=E (ο #[I X 0,I X 0,I U 0,I U 0,β θ,ς {data:= #[]},.slice N 0 0] 158 (0,0)):=by
  have e1:=(cO g2 (aq g3 g5) (nofun)).block w.heap.size O (λe=>by have:=aR e;omega);exact e1.trans dk
 have gd:=g3.size;have gf:=g2.size;replace⟨bt,ca,ch,a9,cc,b6,b7,b8,cf⟩:=rC bt ca ch a9 cc b6 b7 b8 cf;replace bj:=J bj;clear x1 dk dg;have gg:u<=3:=O;replace⟨br,z,ax⟩:=cA br z ax;go_wp2_with fail;rw[<-a0];simp only[<-Z ax]
 replace a0:=J a0;have eb:=J vE;have ec:w.heap.size<=a:=by have:=Z ax;omega
 go_loopw [38] (λi wr=>∃(k q:Nat)(f:Fr)(rv:υ),k<=u/\i=I X k/\dy l t (p+1)=rI ((eC l j).drop k) f q/\dh wr b (.slice (E ⟨m,o,N⟩) n F) q p/\wr.heap[a]?=E (ο (bC f rv) 158 (0,0))/\cD wr f rv/\(rv=.slice N 0 0\/∃x n c,rv=.slice (E x) n c/\w.heap.size<x.block)/\(k<u->f.ranges=[]/\rv=.slice N 0 0)/\Gx W5 wr b a/\p+1<=q/\q<=l.length/\f.kind=K) (λi _=>u-(intOf i).toNat);case atStart=>exact⟨0,p+1,bL K FN,_,O,Q,Z a9,Z cf,Z ca,cD.nil _ _ ⟨⟨by simp[bL];omega,by simp[bL];omega⟩,⟨by simp[bL],by simp[bL]⟩,⟨by simp[bL],by simp[bL]⟩,⟨by simp[bL],by simp[bL]⟩,λr hr=>by simp[bL]at hr⟩ Q (by simp[bL]),φ Q,λ_=>⟨Q,Q⟩,Gx.refl _ _ _,O,O,Q⟩
 case round=>
  obtain⟨k,q,f,rv,hk,rfl,H,ed,B,ai,cm,cp,gk,gh,ee,a1⟩:=hrel;have ct:G w wr (E b):=((Gx.of (Y:=a) ea (λk e=>φ (aR e).symm)).trans gk).gb ec;by_cases e5:k<u
  .obtain⟨cv,rfl⟩:=cp e5;obtain h0|⟨P,e6,ei,ej,ek⟩:=Z cc
   have:=Z z;omega;obtain⟨wf,wc,rd,y1,y2,R,eo,rfl,hE,er⟩:=ek k (by have:=Z z;omega);subst e6;replace y1:=gk.cell y1 ei ej;replace y2:=gk.cell y2 ei ej;have bb:=aC wr (ο #[.func (.func wf) #[] wc,.func (.func R) #[] eo] 356) N;have e7:a<wr.heap.size:=(aV.1 B).1;have cw:RC (wr.alloc (ο #[.func (.func wf) #[] wc,.func (.func R) #[] eo] 356)) b a m o n F l q p f:=
    ⟨ed.gb bb,(fE _ _ _ e7).trans B,Z bj _ (cO ct bb (nofun)),xb,O,O,ee,hl,ai.1,cv,ai.2.1⟩
   have hC:=er _ q f (gk.trans (Gx.of bb (nofun))) cw;have e8:(eC l j)[k]'(by have:=Z z;omega)∈eC l j:=tt _;have cx:(eC l j).drop k=(eC l j)[k]'(by have:=Z z;omega)::(eC l j).drop (k+1):=wH _;rw[cx]at H;have cy:=Z b6 _ e8 f q;have c9:=Z b7 k (by have:=Z z;omega) f;generalize (eC l j)[k]'(by have:=Z z;omega)=s at *;have i1:(0:Int)<=k:=O;have i2:(k:Int)<u:=O;have gi:=J gk.size;replace⟨H,B,ai,hC,cw,cy,c9,a1,cv⟩:=rC H B ai hC cw cy c9 a1 cv;replace cx:=J cx;clear ek cp er;go_wp2_with fail;apply(Z hC).mono;rintro e w6⟨g6,⟨f',q',e9,hs,rfl,da,fa,⟨fb,et⟩,fc⟩|⟨hs,rfl,da⟩⟩
   .replace hs:=J hs;go_wp2;go_roundw;case rel=>
     refine⟨k+1,q',f',e9,O,Γ,?_,da,fa,fb,?_,?_,(gk.trans (Gx.of bb (nofun))).trans g6,?_,fc,?_⟩
     rw[Z H];simp only[rI,Z hs,dX]
     obtain⟨-,h⟩|⟨-,x,n,c,h,hx⟩:=et
     exact φ h;exact ψ ⟨x,n,c,h,by have:=ct.size;simp at hx;omega⟩;intro gj;obtain h|⟨h,-⟩:=et
     exact h;have:=Z b8 (by simpa using h);have:=Z z;omega;have:=Z cy f' q' (Z hs);omega;rw[Z c9 f' q q' (Z hs)];exact Z a1
    case measure=>simp[intOf];omega
   refine⟨Q,?_,ψ ⟨?_,Q,da⟩⟩
   exact(((Gx.of (Y:=a) ea (λk e=>φ (aR e).symm)).trans (gk.trans (Gx.of bb (nofun)))).trans g6).gb ec;rw[Z a8,Z H];simp only[rI,hs];rfl
  obtain rfl:k=u:=O;rw[List.drop_of_length_le (by have:=Z z;omega)]at H;have a3:=Z a8;rw[H]at a3;simp only[rI,dX]at a3;have bw:=Ci f rv wr ai;obtain⟨A,NN,C,rfl⟩:∃A NN C,rv=.slice A NN C:=by
   obtain h|⟨x,n,c,h,-⟩:=cm
   exact⟨_,_,_,h⟩
   exact⟨_,_,_,h⟩
  have bx:wr.heap[w.heap.size]?=E (ο #[I X 0,I X 0,I U 0,I U 0,β θ,ς {data:= #[]},.slice N 0 0] 158 (0,0)):=(gk.block w.heap.size O O (by have:=Z ax;omega)).trans (Z ch);have bz:cT f↔qx f/\ru f:=⟨λh=>⟨h.1,h.2.1⟩,λh=>⟨h.1,h.2,by rw[a1];exact dv⟩⟩
  have ff:a<wr.heap.size:=(aV.1 B).1;have fi:w.heap.size<wr.heap.size:=(aV.1 bx).1;obtain⟨kd,sm,of,cd,fin,d,rg⟩:=f;simp only[bC]at B bw;replace⟨H,a3,bw,bx,bz,B,ai,a1⟩:=xQ H a3 bw bx bz B ai a1;clear cp;go_wp2_with (refine pR Ξ 158 _ Ξ a Ξ 158 _ (0,0) _ (Z B) underlying158 Ξ (Z eb) ?_);apply(Z bw).mono;rintro e w7⟨⟨bo,rfl,a4⟩,g7⟩;have ev:=ed.gb g7;have ey:G w w7 (E b):=cO ct g7 (nofun);cases bo
  .have al:kG l p=N:=by
    rw[Z a3];exact aE (λh=>by have:=a4.2 ((Z bz).1 h);cases this)
   replace⟨al,a4⟩:=aT al a4;go_wp2_with (go_at_call 188;apply(tS b _).mono;rintro e w'⟨rfl,rfl⟩);exact⟨Q,ey,ψ ⟨Z al,Q,q,ev⟩⟩
  have db:kG l p=E (⟨kd,sm,of,cd,fin,d,rg⟩,q):=by
   rw[Z a3];exact aH ((Z bz).2 (a4.1 Q))
  have dc:=(g7.block a ff Γ).trans (Z B);have bA:=(g7.block w.heap.size fi Γ).trans (Z bx);obtain⟨r0,r1,r2,r3,r4,r5,r6⟩:=bQ bA;have rf:=qL bA;have de:=(Z ai).ag g7;replace⟨db,a4,dc,bA,de⟩:=gT db a4 dc bA de;go_wp2_with (refine pR Ξ 158 _ Ξ a Ξ 158 _ (0,0) _ (Z dc) underlying158 Ξ (Z eb) ?_);refine cC (v:=ε #[I X kd,I X sm,I U of,I U cd,β fin,ς d,.slice A NN C]) ?_ Q ?_
  .simp[results,results190,go_sem,r0,r1,r2,r3,r4,r5,r6]
  have ao:∀x,A=E x->x.block≠w.heap.size:=λx hx=>by
   obtain h|⟨y,n,c,h,hy⟩:=cm
   cases h;cases hx;cases h;cases hx;omega
  exact⟨aD (aD (aD (aD (aD (aD (aD ey _ _ (φ (aP _))) _ _ (φ (aP _))) _ _ (φ (aP _))) _ _ (φ (aP _))) _ _ (φ (aP _))) _ _ (φ (aP _))) _ _ (φ (aP _)),φ ⟨_,q,_,Z db,Q,cD.set (cD.set (cD.set (cD.set (cD.set (cD.set (cD.set (Z de) _ _ ao) _ _ ao) _ _ ao) _ _ ao) _ _ ao) _ _ ao) _ _ ao,cm.imp id (λ⟨x,n,c,h,hx⟩=>⟨x,n,c,h,uV hx⟩),dh.cW (dh.cW (dh.cW (dh.cW (dh.cW (dh.cW (dh.cW ev O) O) O) O) O) O) O,O,ee⟩⟩
def vQ(w:D)(l:List Int)(e:Ending)(b:D):Prop:=
 G w b N/\((∃aw a n c,eX l=(E (aw.map (·.1)),-1)/\e=ξ (τ #[Y a n c,.nilIface])/\fe b w.heap.size (Y a n c) aw)\/
  (∃(p F:Nat),eX l=(N,(p:Int))/\e=ξ (τ #[Y N 0 0,.iface 177 (π (E ⟨F,0,N⟩))])/\b.heap[F]?=E (ο #[I X 5,I X p] 182 (0,0))/\w.heap.size<=F))
def FA.isNone{e:Ending}(h:FA w n x k i N e W):G w W (E n)/\e=PN/\∃a,dh W n x a k:=by
 obtain⟨g,⟨f,q,c,b,-⟩|⟨-,d,j⟩⟩:=h;cases b;grind
def FA.isSome{e:Ending}(h:FA w k y i j (E (u,l)) e W):G w W (E k)/\∃A n c,e=ξ (ε (bC u (Y A n c)))/\cD W u (Y A n c)/\((Y A n c)=Y N 0 0\/∃x b d,(Y A n c)=Y (E x) b d/\w.heap.size<=x.block)/\dh W k y l i/\i<l/\l<=j:=by
 obtain⟨g,⟨f,m,p,a,q,r,s,t,v,z⟩|⟨a,-,-⟩⟩:=h;grind;cases a
def fe.lower{l:List cX}(h:fe w k z l)(f:i<=k):fe w i z l:=by
 obtain⟨⟨j,d⟩,a⟩:=h;refine⟨⟨j,?_⟩,λx b=>⟨(a x b).1,λhl y n c e=>⟨bG f ((a x b).2 hl y n c e).1,((a x b).2 hl y n c e).2⟩⟩⟩
 obtain d|⟨g,cap,cur,e1,e2,m⟩:=d
 simp_all;exact ψ ⟨g,cap,cur,e1,O,m⟩
def Gx.NT(h:Gx w W n i)(b:w.heap.size<=n)(hY:w.heap.size<=i):G w W N:=
 ⟨h.os,h.tape,h.output,h.size,λk a _=>h.block k a O O⟩
def Fa(w:D)(a b c:Obj)(W:D)(h:W=((w.alloc a).alloc b).alloc c):
 W.heap[w.heap.size]?=E a/\W.heap[w.heap.size+1]?=E b/\W.heap[w.heap.size+1+1]?=E c/\G w W N:=by
 subst h;refine⟨?_,?_,?_,aW (aW (aC _ _ _) _) _⟩
 all_goals
  simp only[World.alloc,Array.getElem?_push,Array.size_push]
  grind
def Fb(a:Array υ)(W:D)(b c:Nat)(d e:υ)(f:a.getD 2 undef=π (E ⟨b,0,N⟩))(g:a.getD 3 undef=π (E ⟨c,0,N⟩))(h:κ W ⟨b,0,N⟩=E d)(i:κ W ⟨c,0,N⟩=E e):
 (results f146 a).run prog W=.ok (τ #[d,e]) W:=by
 rw[Array.getD_eq_getD_getElem?]at f g;simp[results,results146,go_sem,f,g,h,i]
def Fc(w0 W:D)(l:List Int)(c:Array υ)(d a b:Nat)(sl j k:υ)(q st:Nat)(n:dh W d sl q st)(g:W.heap[a]?=E (ο #[j] 92 (0,0)))(h:W.heap[b]?=E (ο #[k] 97 (0,0)))(i:a≠b)(m:G w0 W N)(p:w0.heap.size<=a)(r:w0.heap.size<=b)(hd:eX l=(N,(st:Int)))
 (s:c.getD 2 undef=π (E ⟨a,0,N⟩)) (t:c.getD 3 undef=π (E ⟨b,0,N⟩)):
 Leaves prog f146 c (vQ w0 l) [{target:=.fn (.func 187) #[π (E ⟨d,0,N⟩),π (E ⟨a,0,N⟩),π (E ⟨b,0,N⟩)],args:= #[]}] (.panicking [{v:=.iface 34 (I X 5),recovered:=θ}]) W:=by
 refine leaves_cons (f:=187) (args:= #[π (E ⟨d,0,N⟩),π (E ⟨a,0,N⟩),π (E ⟨b,0,N⟩)]) Γ (by simp[go_sem]) ?_;apply(NR d a b st j k [] W (iq n).2.2.1 g h i).mono;rintro e H K⟨rfl,rfl,rfl⟩;have u:=(aV.1 g).1;have w:=(aV.1 h).1;have x:=(fE W (ο #[I X 5,I X st] 182) a u).trans g;have y:=(fE W (ο #[I X 5,I X st] 182) b w).trans h;have z:=heap_set (o:=0) x (Y N 0 0);have A:=(dr (W.alloc (ο #[I X 5,I X st] 182)) ⟨a,0,N⟩ (Y N 0 0) b (Ne.symm i)).trans y;have B:=heap_set (o:=0) A (.iface 177 (π (E ⟨W.heap.size,0,N⟩)));have C:=(dr ((W.alloc (ο #[I X 5,I X st] 182)).setCell ⟨a,0,N⟩ (Y N 0 0)) ⟨b,0,N⟩ (.iface 177 (π (E ⟨W.heap.size,0,N⟩))) a i).trans z;have F:=Fb c _ a b _ _ s t (oL C).1 (oL B).1;refine⟨_,F,aD (aD (aW m _) _ _ (φ p)) _ _ (φ r),ψ ⟨st,W.heap.size,hd,Q,?_,m.size⟩⟩
 rw[dr _ _ _ _ (by grind),dr _ _ _ _ (by grind)];exact aM _ _
def decode_nil(w:D)(a:Option Addr)(n c:Nat)(d:bD w a n c []):
 Calls prog 146 #[Y a n c] w (vQ w []):=by
 have f:n=0:=d.2.1;subst f;go_enter_defers func146,ntmps146;go_wp2_with (go_at_call 188;apply(tS _ _).mono;rintro e g⟨rfl,rfl⟩);have b:=Fa w (ο #[Y N 0 0] 92) (ο #[.nilIface] 97) (ο #[Y a 0 c,I X 0,I X 0] 311) _ Q;exact Fc w _ [] _ (w.heap.size+1+1) w.heap.size (w.heap.size+1) _ _ _ 0 0 b.2.2.1 b.1 b.2.1 O b.2.2.2 (aP _) O (by simp[eX]) Q Q
def NU(w:D)(F o n M:Nat)(l:List Int)(aa:bD w (E ⟨F,o,N⟩) n M l)(h0:0<l.length)(hl:l.length<=100000000):
 Calls prog 146 #[.slice (E ⟨F,o,N⟩) n M] w (vQ w l):=by
 have dg:=vD;have hn:n=l.length:=aa.2.1;have e0:((n:Int)==0)=θ:=Ψ;have dk:F<w.heap.size:=by
  obtain⟨b1,o1,e1,h1⟩:=rE aa;cases e1;exact eI w _ (h1 0 O)
 replace hn:=J hn;go_enter_defers func146,ntmps146;go_wp2_with fail;obtain⟨W3,ax⟩:=í ((((w.alloc (ο #[.slice N 0 0] 92)).alloc (ο #[.nilIface] 97)).alloc (ο #[.slice (E ⟨F,o,N⟩) n M,I .i64 0,I .i64 0] 311)));obtain⟨a4,a8,ao,g3⟩:=Fa w _ _ _ _ ax;have dm:W3.heap.size=w.heap.size+3:=by rw[ax];simp
 rw[<-ax];replace ax:=J ax;obtain⟨b,b4⟩:=í w.heap.size;obtain⟨r,b5⟩:=í (w.heap.size+1);obtain⟨p,b6⟩:=í (w.heap.size+1+1);simp only[<-b6]at ao⊢;simp only[<-b5]at a8⊢;simp only[<-b4]at a4⊢;have t:Hid (w.heap.size=b/\r=b+1/\p=b+2):=J O;replace ao:dh W3 p (.slice (E ⟨F,o,N⟩) n M) 0 0:=ao;clear b4 b5 b6;apply(Dm W3).mono;rintro e u⟨T,P2,P3,P4,P5,P6,Bo,Bc,rfl,hT,g1⟩;have a9:=(g1.block b (by have:=Z t;omega) Γ).trans a4;have bw:=(g1.block r (by have:=Z t;omega) Γ).trans a8;have bb:=ao.gb g1;have b8:=aq g3 g1;have dn:=g1.size;have bx:eX l=gz l (l.length+1) 0 ([]:List cX).unzip.1:=by unfold eX;rw[ê];rfl
 have ch:=hT.ne (iq bb).1;have cm:=hT.ne (oL a9).1;replace⟨a4,a8,ao,a9,bw,bb,bx⟩:=mX a4 a8 ao a9 bw bb bx;go_wp2;go_loopg [15] l.length (λgh _ wr=>∃(q st k:Nat)(aw:List cX)(a:Option Addr)(m c:Nat),gh=l.length-q/\q<=l.length/\aw.length<=q/\dh wr p (.slice (E ⟨F,o,N⟩) n M) q st/\wr.heap[b]?=E (ο #[.slice a m c] 92 (0,0))/\wr.heap[r]?=E (ο #[.nilIface] 97 (0,0))/\fe wr u.heap.size (.slice a m c) aw/\Gx u wr p b/\eX l=gz l k q (aw.map (·.1))/\l.length-q<k);case atStart=>exact⟨0,0,l.length+1,[],N,0,0,O,O,Γ,Z bb,Z a9,Z bw,fe.nil _ _,Gx.refl _ _ _,Z bx,O⟩
 case round=>
  obtain⟨q,st,k,aw,a,m,c,rfl,hq,du,ai,P,R,ak,gr,al,hk⟩:=hrel;obtain⟨y0,y1,y2,yf⟩:=iq ai;have bz:G w wr N:=((Gx.of (X:=p) (Y:=b) b8 (nofun)).trans gr).NT (by have:=Z t;omega) (by have:=Z t;omega);by_cases bj:q<l.length
  .have cp:(q:Int)<n:=by have:=Z hn;omega
   have ca:=hT.gx gr ch cm;have cc:=aa.ag bz;have hF:=E7 wr p T P2 P3 P4 P5 P6 Bo Bc F o n M l q st ca ai cc (by have:=Z t;omega) bj hl;have bA:=E7 wr.drew p T P2 P3 P4 P5 P6 Bo Bc F o n M l q st (ca.ag (aK (au _ _))) ai (cc.ag (aK (au _ _))) (by have:=Z t;omega) bj hl;obtain⟨z0,zf⟩:=oL P;obtain⟨k',rfl⟩:∃k',k=k'+1:=⟨k-1,O⟩
   have ct:Hid (∀(W:D)(p':Nat)(a0:Array υ),G wr W (E p)->dh W p (.slice (E ⟨F,o,N⟩) n M) p' q->kG l q=N->a0.getD 2 undef=π (E ⟨b,0,N⟩)->a0.getD 3 undef=π (E ⟨r,0,N⟩)->Leaves prog f146 a0 (vQ w l) [{target:=.fn (.func 187) #[π (E ⟨p,0,N⟩),π (E ⟨b,0,N⟩),π (E ⟨r,0,N⟩)],args:= #[]}] (.panicking [{v:=.iface 34 (I .i64 5),recovered:=θ}]) W):=J (λW p' a0 g hX hf h2 h3=>by
    refine Fc w W l a0 p b r _ _ _ p' q hX ((g.block b (aV.1 P).1 (λe=>by have:=aR e;have:=Z t;omega)).trans P) ((g.block r (aV.1 R).1 (λe=>by have:=aR e;have:=Z t;omega)).trans R) (by have:=Z t;omega) (cO bz g (λj e=>φ (by cases e;have:=Z t;omega))) (by have:=Z t;omega) (by have:=Z t;omega) ?_ h2 h3;rw[al];simp only[gz]
    rw[aH bj,hf])
   have cv:Hid (∀(W s:D)(f:Fr)(H:Nat)(A:Option Addr)(S C:Nat),G wr W N->W.heap.size=wr.heap.size->G W s (E p)->cD s f (.slice A S C)->((Value.slice A S C)=.slice N 0 0\/∃x n c,(Value.slice A S C)=.slice (E x) n c/\W.heap.size<=x.block)->fe s u.heap.size (.slice a m c) aw/\(f.ranges≠[]->∀y n' c',Value.slice A S C=.slice (E y) n' c'->u.heap.size<=y.block/\(Value.slice a m c).ownBlock≠E y.block)/\s.heap[b]?=E (ο #[.slice a m c] 92 (0,0))/\s.heap[r]?=E (ο #[.nilIface] 97 (0,0))/\u.heap.size<=s.heap.size/\Gx u s p b):=J (λW s f H A S C gW dv g5 hv hn=>by
    have gA:G wr s (E p):=cO (cK gW (E p)) g5 (λj e=>ψ Q);have hz:=gr.size;refine⟨ak.gb gA (λj e=>by cases e;have:=Z t;omega),λdx y n' c' e=>?_,(gA.block b (aV.1 P).1 (λe=>by have:=aR e;have:=Z t;omega)).trans P,(gA.block r (aV.1 R).1 (λe=>by have:=aR e;have:=Z t;omega)).trans R,bG hz gA.size,gr.trans (Gx.of gA (λj e=>φ (aR e).symm))⟩
    obtain h|⟨x,n2,c2,h,hx⟩:=hn
    rw[h]at e;cases e
    .rw[h]at e;cases e;exact⟨O,λe2=>by have:=(ak.lt _ e2).2;omega⟩)
   have cw:Hid (∀(s z:D)(ob:Obj)(it:cX)(a7:Option Addr)(L c7 H:Nat),dh s p (.slice (E ⟨F,o,N⟩) n M) H q->s.heap[b]?=E (ο #[.slice a m c] 92 (0,0))->s.heap[r]?=E (ο #[.nilIface] 97 (0,0))->Gx u s p b->fe (s.alloc ob) u.heap.size (.slice a m c) aw->(s.alloc ob).grownBy z (Value.slice a m c).ownBlock->fe z u.heap.size (.slice a7 L c7) (aw++[it])->
    z.heap[b]?=E (ο #[.slice a m c] 92 (0,0))/\dh (ζ z ⟨b,0,N⟩ (.slice a7 L c7)) p (.slice (E ⟨F,o,N⟩) n M) H q/\(ζ z ⟨b,0,N⟩ (.slice a7 L c7)).heap[b]?=E (ο #[.slice a7 L c7] 92 (0,0))/\(ζ z ⟨b,0,N⟩ (.slice a7 L c7)).heap[r]?=E (ο #[.nilIface] 97 (0,0))/\fe (ζ z ⟨b,0,N⟩ (.slice a7 L c7)) u.heap.size (.slice a7 L c7) (aw++[it])/\Gx u (ζ z ⟨b,0,N⟩ (.slice a7 L c7)) p b):=J (λs z ob it a7 L c7 H hx hl he gx hA g7 o7=>by
    have h1:=Z t;have br:∀B,B<u.heap.size->B<s.heap.size->z.heap[B]?=s.heap[B]? :=λB hB cx=>(g7.block B Ψ (λe=>by have:=(hA.lt B e.symm).1;omega)).trans (fE _ _ _ cx)
    have cy:=gx.size;have cf:=(br b O O).trans hl;have c9:=(br r O O).trans he;have da:dh z p (.slice (E ⟨F,o,N⟩) n M) H q:=(br p O O).trans hx;have db:Gx u z p b:=⟨g7.os.trans gx.os,g7.tape.trans gx.tape,g7.output.trans gx.output,bG cy (bG Γ g7.size),λk hk h2 h3=>(br k hk O).trans (gx.block k hk h2 h3)⟩
    refine⟨cf,da.cW O,heap_set cf _,(dr _ _ _ _ (by show r≠b;omega)).trans c9,o7.gb (aD (au _ _) _ _ (ψ Q)) (λk e=>by cases e;show b<u.heap.size;omega),db.set _ _ (ψ (φ Q))⟩)
   replace⟨bA,ai,P,R,ak,al⟩:=mY bA ai P R ak al;clear hF;go_wp2_with fail;refine wp_region_any Φ ?_;try(change wpAny _ _ _ _ _ _ _ (World.drew _))
   refine pU (rs:=[0,1]) Φ Γ ?_;refine nw Q (λK i=>?_) (nw Q (λK i=>?_) pT);all_goals
    go_simp
    refine i _ _ ?_
    clear i K
   rotate_left
   refine pU (rs:=[0,2]) Φ Γ ?_;refine nw Q (λK i=>?_) (nw Q (λK i=>?_) pT);go_simp;refine i _ _ ?_;clear i K;rotate_left
   go_simp;rotate_left
   refine pU (rs:=[1]) Φ Γ ?_;refine nw Q (λK i=>?_) pT;go_simp;refine i _ _ ?_;clear i K;refine pU (rs:=[2]) Φ Γ ?_;refine nw Q (λK i=>?_) pT;go_simp;rotate_left
   refine pU (rs:=[2]) Φ Γ ?_;refine nw Q (λK i=>?_) pT;go_simp;rotate_left
   all_goals
    apply(Z bA).mono
    intro e s h5
    rcases a1:kG l q with _|⟨⟨kd,sm,of,cd,fin,d,rg⟩,H⟩
    rw[a1]at h5
    obtain⟨g5,rfl,p',a2⟩:=h5.isNone
    exact Z ct _ _ _ (cO (cK (aK (au _ _)) _) g5 (λj e=>ψ Q)) a2 a1 Q Q
    rw[a1]at h5
    have h6:=h5.isSome
    simp only[bC]at h6
    obtain⟨g5,A,S,C,rfl,bt,bM,a2,ea,dc⟩:=h6
    have a3:Hid (eX l=gz l k' H (aw.map (·.1)++[⟨kd,sm,of,cd,fin,d,rg⟩])):=J (by
     rw[Z al];simp only[gz]
     rw[aH bj,a1])
    clear h5 a1
    obtain⟨o5,b3,l5,e5,s5,x5⟩:=Z cv _ s _ H A S C (aK (au _ _)) Q g5 bt bM
    obtain⟨eb,ec⟩:=oL l5
    have ed:=(aV.1 l5).1
    replace⟨l5,e5,o5,b3,bt,a2,bM⟩:=mX l5 e5 o5 b3 bt a2 bM
    refine i _ _ ?_
    clear i K
   refine pU (rs:=[0,3]) Φ Γ ?_;refine nw Q (λK i=>?_) (nw Q (λK i=>?_) pT);rotate_left 2
   refine pU (rs:=[3]) Φ Γ ?_;refine nw Q (λK i=>?_) pT;rotate_left
   refine pU (rs:=[3]) Φ Γ ?_;refine nw Q (λK i=>?_) pT;rotate_left
   all_goals
    go_simp
    refine i _ _ ?_
    clear i K
   refine pU (rs:=[3]) Φ Γ ?_;refine nw Q (λK i=>?_) pT;go_simp;refine i _ _ ?_;clear i K;rotate_left
   refine pU (rs:=[0]) Φ Γ ?_;refine nw Q (λK i=>?_) pT;go_simp;refine i _ _ ?_;clear i K;all_goals
    refine pU (rs:=[4]) Φ Γ ?_
    refine nw Q (λK i=>?_) pT
    refine NQ Ξ _ _ Ξ u.heap.size _ aw Ξ ((Z o5).gb (aC _ _ N) (nofun)) s.heap.size 1 (⟨kd,sm,of,cd,fin,d,rg⟩,.slice A S C) ((Z bt).ag (aC _ _ N)) (Z b3) Ξ Ξ (mj (aM _ _)) O Ψ ?_
    intro a7 L c7 z o7 g7 b7
    have de:=(Z o5).gb (aC s (ο #[I .i64 kd,I .i64 sm,I U of,I U cd,β fin,ς d,.slice A S C] 158) N) (nofun)
    have V:=Z cw s z _ _ a7 L c7 H (Z a2) (Z l5) (Z e5) x5 de g7 o7
    obtain⟨ee,ei⟩:=oL V.1
    replace⟨V,o7⟩:=aT V o7
    refine i _ _ ?_
    clear i K
    refine pU (rs:=[5]) Φ Γ ?_
    refine nw Q (λK i=>?_) pT
    go_simp
    refine i _ _ ?_
    clear i K
    refine wpAny_done Φ ?_ _
    go_wp2
    go_roundg (l.length-H)
    case measure=>omega
    case rel=>exact⟨H,q,k',aw++[(⟨kd,sm,of,cd,fin,d,rg⟩,.slice A S C)],a7,L,c7,Q,dc,Ψ,(Z V).2.1,(Z V).2.2.1,(Z V).2.2.2.1,(Z V).2.2.2.2.1,(Z V).2.2.2.2.2,by rw[Z a3];simp,O⟩
  obtain rfl:q=l.length:=O;have cp:¬(l.length:Int)<(n:Int):=by have:=Z hn;omega
  obtain⟨z0,zf⟩:=oL P;obtain⟨z1,zg⟩:=oL R;obtain⟨k',rfl⟩:∃k',k=k'+1:=⟨k-1,O⟩
  have a3:eX l=(E (aw.map (·.1)),-1):=by
   rw[al];simp only[gz]
   rw[ê]
  have ej:b≠r:=by have:=Z t;omega
  have ek:=J (Z t);replace⟨a3,al,ai,P,R,ak⟩:=mY a3 al ai P R ak;go_wp2_with fail;have l1:=heap_set (o:=0) (Z P) (.slice a m c);have l2:=(dr wr ⟨b,0,N⟩ (.slice a m c) r (by show r≠b;omega)).trans (Z R);have l3:=heap_set (o:=0) l2 .nilIface;have l4:=(dr (ζ wr ⟨b,0,N⟩ (.slice a m c)) ⟨r,0,N⟩ .nilIface b (by show b≠r;omega)).trans l1;refine leaves_cons (f:=187) (args:= #[π (E ⟨p,0,N⟩),π (E ⟨b,0,N⟩),π (E ⟨r,0,N⟩)]) Γ (by simp[go_sem]) ?_;apply(NS p b r _).mono;rintro e u' eo⟨rfl,rfl,rfl⟩;have hO:=((Z ak).gb (aD (au wr _) ⟨b,0,N⟩ (.slice a m c) (ψ Q)) (λk e=>by cases e;show b<u.heap.size;have:=Z t;omega)).gb (aD (au _ _) ⟨r,0,N⟩ .nilIface (ψ Q)) (λk e=>by cases e;show r<u.heap.size;have:=Z t;omega);refine⟨_,Fb _ _ b r (.slice a m c) .nilIface Q Q (oL l4).1 (oL l3).1,aD (aD bz _ _ (φ (by show w.heap.size<=b;have:=Z t;omega))) _ _ (φ (by show w.heap.size<=r;have:=Z t;omega)),φ ⟨aw,a,m,c,Z a3,Q,hO.lower b8.size⟩⟩
def dq.nY{bad:Bool}(h:dq w n x j bad)(a:n≠k):dq (ζ w ⟨k,i,N⟩ y) n x j bad:=
 (dr _ _ _ _ a).trans h
def seven(g:G w W (E n))(j:dq W n x k B)(a:n≠w.heap.size)(b c d e f h i:υ):
 G w (((((((ζ W ⟨w.heap.size,0,N⟩ b).setCell ⟨w.heap.size,1,N⟩ c).setCell ⟨w.heap.size,2,N⟩ d).setCell ⟨w.heap.size,3,N⟩ e).setCell ⟨w.heap.size,4,N⟩ f).setCell ⟨w.heap.size,5,N⟩ h).setCell ⟨w.heap.size,6,N⟩ i) (E n)/\
 dq (((((((ζ W ⟨w.heap.size,0,N⟩ b).setCell ⟨w.heap.size,1,N⟩ c).setCell ⟨w.heap.size,2,N⟩ d).setCell ⟨w.heap.size,3,N⟩ e).setCell ⟨w.heap.size,4,N⟩ f).setCell ⟨w.heap.size,5,N⟩ h).setCell ⟨w.heap.size,6,N⟩ i) n x k B:=
 ⟨aD (aD (aD (aD (aD (aD (aD g _ _ (φ (aP _))) _ _ (φ (aP _))) _ _ (φ (aP _))) _ _ (φ (aP _))) _ _ (φ (aP _))) _ _ (φ (aP _))) _ _ (φ (aP _)),dq.nY (dq.nY (dq.nY (dq.nY (dq.nY (dq.nY (dq.nY j a) a) a) a) a) a) a⟩
def Cut(w:D)(c b d o n e:Nat)(l:List Int)(t:Int)(p:Nat)(W:D):Prop:=
 (∃(f:Fr)(q:Nat)(A:Option Addr)(a C:Nat),dy l t (p+1)=E (f,q)/\ST w c b d o n e l W q θ (I X f.kind) (I X f.stream) (I U f.offset) (I U f.code) (β f.fin) (ς f.data) (Y A a C)/\cD W f (Y A a C)/\(∀x,A=E x->b<x.block))\/
 (dy l t (p+1)=N/\∃(q:Nat)(g h i k3:Int)(k4:Bool)(k5:ByteArray)(A:Option Addr)(a C:Nat),ST w c b d o n e l W q ρ (I X g) (I X h) (I U i) (I U k3) (β k4) (ς k5) (Y A a C))
def Ra(w:D)(c:Nat)(sl:υ)(i len:Nat)(r:Option (Fr×Nat))(e:Ending)(a:D):Prop:=
 G w a (E c)/\((∃f q A b C,r=E (f,q)/\e=ξ (ε (bC f (Y A b C)))/\cD a f (Y A b C)/\(∀x,A=E x->w.heap.size<x.block)/\dq a c sl q θ/\q<=len)\/
  (r=N/\∃(q:Nat)(d g h k3:Int)(k4:Bool)(k5:ByteArray)(A:Option Addr)(b C:Nat),e=ξ (ε #[I X d,I X g,I U h,I U k3,β k4,ς k5,Y A b C])/\dq a c sl q ρ/\q<=len))
def Rb(K bb o n ak:Nat)(l:List Int)(p:Nat)(w:D)(h:pN w K bb o n ak l p θ)(hp:p<l.length):
 Calls prog 104 #[π (E ⟨K,0,N⟩)] w (Ra w K (Y (E ⟨bb,o,N⟩) n ak) p l.length (kG l p)):=by
 have h8:=h.b.1;have hn:n=l.length:=h.b.2.1;have hl:=h.hl;have cm:=h.x.lt;obtain⟨x0,x1,x2,xf⟩:=iq h.x;obtain⟨b1,o1,cp,hc⟩:=rE h.b;cases cp;have ct:bb<w.heap.size:=eI w _ (hc 0 O);have y1:=hc p O;obtain⟨t,ht⟩:=í (l.getD p 0);rw[<-ht]at y1;have a9:kG l p=(dy l t (p+1)).bind λx=>by classical exact if cT x.1 then E x else N:=by rw[ht];rfl
 have i1:(0:Int)<=p:=O;have i2:(p:Int)<n:=O;have dg:X.wrap ((p:Int)+1)=(p:Int)+1:=ä;replace⟨ht,a9,hc,hn⟩:=fB ht a9 hc hn;go_enter func104,ntmps104;go_wp2_with fail;go_quiet (fail);go_upto_block 0 with fail;go_cut [] (λwx=>Cut w K (w.heap.size+1) bb o n ak l t p wx);case first=>
  have bw:∀W0:D,G w W0 (E K)->dq W0 K (Y (E ⟨bb,o,N⟩) n ak) (p+1) θ->W0.heap[w.heap.size]?=E (ο #[I X 0,I X 0,I U 0,I U 0,β θ,ς {data:= #[]},Y N 0 0] 158 (0,0))->W0.heap[w.heap.size+1]?=E (ο #[I X 0,I X 0,I U 0,I U 0,β θ,ς {data:= #[]},Y N 0 0] 158 (0,0))->ST w K (w.heap.size+1) bb o n ak l W0 (p+1) θ (I X 0) (I X 0) (I U 0) (I U 0) (β θ) (ς {data:= #[]}) (Y N 0 0):=
   λW0 g H L hy=>⟨⟨H,h.b.gb g (λj e=>ψ (ψ (λx H=>by cases H;cases e;exact h.xb))),h.xb,O,hl⟩,hy,g,L,cm,O,ct⟩
  obtain⟨W0,ao⟩:∃W,W=(((w.alloc (ο #[I X 0,I X 0,I U 0,I U 0,β θ,ς {data:= #[]},Y N 0 0] 158)).drewN nq).setCell ⟨K,1,N⟩ (I X ((p:Int)+1))).alloc (ο #[I X 0,I X 0,I U 0,I U 0,β θ,ς {data:= #[]},Y N 0 0] 158):=⟨_,Q⟩
  have T:ST w K (w.heap.size+1) bb o n ak l W0 (p+1) θ (I X 0) (I X 0) (I U 0) (I U 0) (β θ) (ς {data:= #[]}) (Y N 0 0):=by
   have cw:dq ((w.alloc (ο #[I X 0,I X 0,I U 0,I U 0,β θ,ς {data:= #[]},Y N 0 0] 158)).drewN nq) K (Y (E ⟨bb,o,N⟩) n ak) p θ:=h.x.gb (cu (aC _ _ N) _) Γ;have b6:=cw.setAt (p+1);have b7:G w (((w.alloc (ο #[I X 0,I X 0,I U 0,I U 0,β θ,ς {data:= #[]},Y N 0 0] 158)).drewN nq).setCell ⟨K,1,N⟩ (I X ((p+1:Nat):Int))) (E K):=aD (cK (cu (aC _ _ N) _) _) _ _ (ψ Q);have cx:((w.alloc (ο #[I X 0,I X 0,I U 0,I U 0,β θ,ς {data:= #[]},Y N 0 0] 158)).drewN nq).heap[w.heap.size]?=E (ο #[I X 0,I X 0,I U 0,I U 0,β θ,ς {data:= #[]},Y N 0 0] 158 (0,0)):=aM w _;have b8:=(dr ((w.alloc (ο #[I X 0,I X 0,I U 0,I U 0,β θ,ς {data:= #[]},Y N 0 0] 158)).drewN nq) ⟨K,1,N⟩ (I X ((p+1:Nat):Int)) w.heap.size (by show w.heap.size≠K;omega)).trans cx;have bx:(((w.alloc (ο #[I X 0,I X 0,I U 0,I U 0,β θ,ς {data:= #[]},Y N 0 0] 158)).drewN nq).setCell ⟨K,1,N⟩ (I X ((p+1:Nat):Int))).heap.size=w.heap.size+1:=by simp[ζ,World.drewN]
   have e1:((p+1:Nat):Int)=(p:Int)+1:=O;rw[e1]at b6 b7 b8 bx;refine bw W0 (by rw[ao];exact aW b7 _) (by rw[ao];exact b6.gb (aC _ _ N)) ?_ ?_;rw[ao,fE _ _ _ (by rw[bx];omega)];exact b8;rw[ao];have:=aM (((w.alloc (ο #[I X 0,I X 0,I U 0,I U 0,β θ,ς {data:= #[]},Y N 0 0] 158)).drewN nq).setCell ⟨K,1,N⟩ (I X ((p:Int)+1))) (ο #[I X 0,I X 0,I U 0,I U 0,β θ,ς {data:= #[]},Y N 0 0] 158);rwa[bx]at this
  rw[<-ao];replace⟨ao,bw⟩:=aT ao bw;obtain⟨⟨c0,c1,c2,c3,c4,c5,c6⟩,u⟩:=T.fx;have al:∀(k s of cd:Int)(b:Bool)(d:ByteArray),(1<=k/\k<=6)->(0<=s/\s<4)->cR of->cR cd->Fr.ok ⟨k,s,of,cd,b,d,[]⟩:=λk s of cd b d hk hs ho hc=>⟨⟨Ψ,Ψ⟩,⟨Ψ,Ψ⟩,⟨ho.1,by have:=ho.2;simp;omega⟩,⟨hc.1,by have:=hc.2;simp;omega⟩,λr L=>by simp at L⟩
  have v0:cR 0:=by simp[cR]
  replace al:=J al;have cy:t=0\/t=1\/t=2\/t=4\/(t=8\/t=9)\/t=28\/(¬t=0/\¬t=1/\¬t=2/\¬t=4/\¬t=8/\¬t=9/\¬t=28):=O;obtain rfl|rfl|rfl|rfl|c9|rfl|⟨n0,n1,n2,n4,n8,n9,ca⟩:=cy
  .have L:dy l 0 (p+1)=E (bL 1 θ,p+1):=by simp[dy]
   replace L:=J L;go_wp2;go_meet;exact φ ⟨bL 1 θ,p+1,N,0,0,Z L,T.cW 0 _ Q,cD.nil _ _ (Z al _ _ _ _ _ _ O O v0 v0) Q (by simp[bL]),λx H=>by cases H⟩
  .have L:dy l 1 (p+1)=E (bL 2 θ,p+1):=by simp[dy]
   replace L:=J L;go_wp2;go_meet;exact φ ⟨bL 2 θ,p+1,N,0,0,Z L,T.cW 0 _ Q,cD.nil _ _ (Z al _ _ _ _ _ _ O O v0 v0) Q (by simp[bL]),λx H=>by cases H⟩
  .have a:dy l 2 (p+1)=(eW l (p+1)).bind λx=>E ({bL 3 θ with ranges:=x.1},x.2):=by
    unfold dy;rw[aE Θ,aE Θ,aH rfl]
   replace a:=J a;have V:=T.cW 0 (I X 3) (u0:=I X 3) Q;go_wp2_with fail;apply(Q9 K bb o n ak l (p+1) _ V.rc).mono;rintro e w5(⟨g5,rs,q,a5,n5,c5,L,rfl,a3,cc,bz⟩|⟨L,rfl,g5,q,hq,bz⟩)
   .have M:=V.call g5 bz (E2 h8 L);obtain⟨⟨c0,c1,c2,c3,c4,da,c6⟩,u⟩:=M.fx;replace⟨L,a3⟩:=aT L a3;go_wp2;go_meet;have cf:n5=rs.length:=(Z a3).2.1;have ch:w.heap.size+1<(ζ W0 ⟨w.heap.size+1,0,N⟩ (I X 3)).heap.size:=(aV.1 V.y).1;refine φ ⟨{bL 3 θ with ranges:=rs},q,a5,n5,c5,by rw[Z a,Z L];rfl,M.cW 6 _ Q,?_,λx H=>bX ch (cc x H)⟩;have db:cD w5 {bL 3 θ with ranges:=rs} (Y a5 n5 c5):=⟨⟨⟨by simp[bL],by simp[bL]⟩,⟨by simp[bL],by simp[bL]⟩,⟨by simp[bL],by simp[bL]⟩,⟨by simp[bL],by simp[bL]⟩,(Z a3).1⟩,by simp[bL],a5,c5,by rw[cf],by rw[<-cf];exact Z a3⟩
    exact db.set 6 _ (λx H=>by have:=bX ch (cc x H);omega)
   have M:=V.call g5 bz hq;obtain⟨⟨c0,c1,c2,c3,c4,da,c6⟩,u⟩:=M.fx;replace L:=J L;go_wp2;go_meet;exact ψ ⟨by rw[Z a,Z L];rfl,q,_,_,_,_,_,_,_,_,_,M.cW 6 _ Q⟩
  .have a:dy l 4 (p+1)=(fH l (p+1)).bind λx=>(cE l x.2).bind λy=>(cE l y.2).bind λz=>E ({bL 4 θ with stream:=x.1,code:=y.1,offset:=z.1},z.2):=by
    unfold dy;rw[aE Θ,aE Θ,aE Θ,aH rfl]
   replace a:=J a;have V:=T.cW 0 (I X 4) (u0:=I X 4) Q;go_wp2_with fail;apply V.Bg.mono;rintro e w5(⟨sv,q5,B,a4,rfl,M⟩|⟨B,q5,rfl,M⟩)
   .obtain⟨⟨c0,c1,c2,c3,c4,c5,c6⟩,u⟩:=M.fx;have ai:=M.cW 1 (I X sv) (u1:=I X sv) Q;replace B:=J B;go_wp2_with fail;apply ai.num.mono;rintro e w7(⟨cv,q7,i,bA,-,rfl,m⟩|⟨i,rfl,m⟩)
    .obtain⟨⟨c0,c1,c2,c3,c4,c5,c6⟩,u⟩:=m.fx;have F:=m.cW 3 (I U cv) (u3:=I U cv) Q;replace i:=J i;go_wp2_with fail;apply F.num.mono;rintro e w9(⟨ov,R,P,a8,-,rfl,c⟩|⟨P,rfl,c⟩)
     .obtain⟨⟨c0,c1,c2,c3,c4,c5,c6⟩,u⟩:=c.fx;replace P:=J P;go_wp2;go_meet;exact φ ⟨{bL 4 θ with stream:=sv,code:=cv,offset:=ov},R,N,0,0,by rw[Z a,Z B];simp[Z i,Z P],c.cW 2 _ Q,cD.nil _ _ (Z al _ _ _ _ _ _ (by simp[bL]) a4 a8 bA) Q (by simp[bL]),λx H=>by cases H⟩
     obtain⟨⟨c0,c1,c2,c3,c4,c5,c6⟩,u⟩:=c.fx;replace P:=J P;go_wp2;go_meet;exact ψ ⟨by rw[Z a,Z B];simp[Z i,Z P],_,_,_,_,_,_,_,_,_,_,c.cW 2 _ Q⟩
    obtain⟨⟨c0,c1,c2,c3,c4,c5,c6⟩,u⟩:=m.fx;have F:=m.cW 3 (I U 0) (u3:=I U 0) Q;replace i:=J i;go_wp2_with fail;apply F.vZ.mono;rintro e w9⟨ov,R,rfl,c⟩;obtain⟨⟨c0,c1,c2,c3,c4,c5,c6⟩,u⟩:=c.fx;go_wp2;go_meet;exact ψ ⟨by rw[Z a,Z B];simp[Z i],_,_,_,_,_,_,_,_,_,_,c.cW 2 _ Q⟩
   obtain⟨⟨c0,c1,c2,c3,c4,c5,c6⟩,u⟩:=M.fx;have ai:=M.cW 1 (I X 0) (u1:=I X 0) Q;replace B:=J B;go_wp2_with fail;apply ai.vZ.mono;rintro e w7⟨cv,q7,rfl,m⟩;obtain⟨⟨c0,c1,c2,c3,c4,c5,c6⟩,u⟩:=m.fx;have F:=m.cW 3 (I U cv) (u3:=I U cv) Q;go_wp2_with fail;apply F.vZ.mono;rintro e w9⟨ov,R,rfl,c⟩;obtain⟨⟨c0,c1,c2,c3,c4,c5,c6⟩,u⟩:=c.fx;go_wp2;go_meet;exact ψ ⟨by rw[Z a,Z B];rfl,_,_,_,_,_,_,_,_,_,_,c.cW 2 _ Q⟩
  .obtain rfl|rfl:=c9
   .have a:dy l 8 (p+1)=(fH l (p+1)).bind λx=>(cE l x.2).bind λy=>(ju l y.2).bind λz=>E ({bL 5 θ with stream:=x.1,offset:=y.1,data:=z.1},z.2):=by
     unfold dy;rw[aE Θ,aE Θ,aE Θ,aE Θ,aH Θ];rfl
    replace a:=J a;have V:=(T.cW 0 (I X 5) (u0:=I X 5) Q).cW 4 (β θ) (u4:=β θ) Q;go_wp2_with fail;apply V.Bg.mono;rintro e w5(⟨sv,q5,B,a4,rfl,M⟩|⟨B,q5,rfl,M⟩)
    .obtain⟨⟨c0,c1,c2,c3,c4,c5,c6⟩,u⟩:=M.fx;have ai:=M.cW 1 (I X sv) (u1:=I X sv) Q;replace B:=J B;go_wp2_with fail;apply ai.num.mono;rintro e w7(⟨ov,q7,i,a8,-,rfl,m⟩|⟨i,rfl,m⟩)
     .obtain⟨⟨c0,c1,c2,c3,c4,c5,c6⟩,u⟩:=m.fx;have F:=m.cW 2 (I U ov) (u2:=I U ov) Q;replace i:=J i;go_wp2_with fail;apply F.Gl.mono;rintro e w9(⟨dv,R,P,bM,rfl,c⟩|⟨P,dv,R,rfl,c⟩)
      .obtain⟨⟨c0,c1,c2,c3,c4,c5,c6⟩,u⟩:=c.fx;replace P:=J P;go_wp2;go_meet;exact φ ⟨{bL 5 θ with stream:=sv,offset:=ov,data:=dv},R,N,0,0,by rw[Z a,Z B];simp[Z i,Z P],c.cW 5 _ Q,cD.nil _ _ (Z al _ _ _ _ _ _ (by simp[bL]) a4 a8 v0) Q bM,λx H=>by cases H⟩
      obtain⟨⟨c0,c1,c2,c3,c4,c5,c6⟩,u⟩:=c.fx;replace P:=J P;go_wp2;go_meet;exact ψ ⟨by rw[Z a,Z B];simp[Z i,Z P],_,_,_,_,_,_,_,_,_,_,c.cW 5 _ Q⟩
     obtain⟨⟨c0,c1,c2,c3,c4,c5,c6⟩,u⟩:=m.fx;have F:=m.cW 2 (I U 0) (u2:=I U 0) Q;replace i:=J i;go_wp2_with fail;apply F.yQ.mono;rintro e w9⟨dv,R,rfl,c⟩;obtain⟨⟨c0,c1,c2,c3,c4,c5,c6⟩,u⟩:=c.fx;go_wp2;go_meet;exact ψ ⟨by rw[Z a,Z B];simp[Z i],_,_,_,_,_,_,_,_,_,_,c.cW 5 _ Q⟩
    obtain⟨⟨c0,c1,c2,c3,c4,c5,c6⟩,u⟩:=M.fx;have ai:=M.cW 1 (I X 0) (u1:=I X 0) Q;replace B:=J B;go_wp2_with fail;apply ai.vZ.mono;rintro e w7⟨ov,q7,rfl,m⟩;obtain⟨⟨c0,c1,c2,c3,c4,c5,c6⟩,u⟩:=m.fx;have F:=m.cW 2 (I U ov) (u2:=I U ov) Q;go_wp2_with fail;apply F.yQ.mono;rintro e w9⟨dv,R,rfl,c⟩;obtain⟨⟨c0,c1,c2,c3,c4,c5,c6⟩,u⟩:=c.fx;go_wp2;go_meet;exact ψ ⟨by rw[Z a,Z B];rfl,_,_,_,_,_,_,_,_,_,_,c.cW 5 _ Q⟩
   have a:dy l 9 (p+1)=(fH l (p+1)).bind λx=>(cE l x.2).bind λy=>(ju l y.2).bind λz=>E ({bL 5 ρ with stream:=x.1,offset:=y.1,data:=z.1},z.2):=by
    unfold dy;rw[aE Θ,aE Θ,aE Θ,aE Θ,aH Θ];rfl
   replace a:=J a;have V:=(T.cW 0 (I X 5) (u0:=I X 5) Q).cW 4 (β ρ) (u4:=β ρ) Q;go_wp2_with fail;apply V.Bg.mono;rintro e w5(⟨sv,q5,B,a4,rfl,M⟩|⟨B,q5,rfl,M⟩)
   .obtain⟨⟨c0,c1,c2,c3,c4,c5,c6⟩,u⟩:=M.fx;have ai:=M.cW 1 (I X sv) (u1:=I X sv) Q;replace B:=J B;go_wp2_with fail;apply ai.num.mono;rintro e w7(⟨ov,q7,i,a8,-,rfl,m⟩|⟨i,rfl,m⟩)
    .obtain⟨⟨c0,c1,c2,c3,c4,c5,c6⟩,u⟩:=m.fx;have F:=m.cW 2 (I U ov) (u2:=I U ov) Q;replace i:=J i;go_wp2_with fail;apply F.Gl.mono;rintro e w9(⟨dv,R,P,bM,rfl,c⟩|⟨P,dv,R,rfl,c⟩)
     .obtain⟨⟨c0,c1,c2,c3,c4,c5,c6⟩,u⟩:=c.fx;replace P:=J P;go_wp2;go_meet;exact φ ⟨{bL 5 ρ with stream:=sv,offset:=ov,data:=dv},R,N,0,0,by rw[Z a,Z B];simp[Z i,Z P],c.cW 5 _ Q,cD.nil _ _ (Z al _ _ _ _ _ _ (by simp[bL]) a4 a8 v0) Q bM,λx H=>by cases H⟩
     obtain⟨⟨c0,c1,c2,c3,c4,c5,c6⟩,u⟩:=c.fx;replace P:=J P;go_wp2;go_meet;exact ψ ⟨by rw[Z a,Z B];simp[Z i,Z P],_,_,_,_,_,_,_,_,_,_,c.cW 5 _ Q⟩
    obtain⟨⟨c0,c1,c2,c3,c4,c5,c6⟩,u⟩:=m.fx;have F:=m.cW 2 (I U 0) (u2:=I U 0) Q;replace i:=J i;go_wp2_with fail;apply F.yQ.mono;rintro e w9⟨dv,R,rfl,c⟩;obtain⟨⟨c0,c1,c2,c3,c4,c5,c6⟩,u⟩:=c.fx;go_wp2;go_meet;exact ψ ⟨by rw[Z a,Z B];simp[Z i],_,_,_,_,_,_,_,_,_,_,c.cW 5 _ Q⟩
   obtain⟨⟨c0,c1,c2,c3,c4,c5,c6⟩,u⟩:=M.fx;have ai:=M.cW 1 (I X 0) (u1:=I X 0) Q;replace B:=J B;go_wp2_with fail;apply ai.vZ.mono;rintro e w7⟨ov,q7,rfl,m⟩;obtain⟨⟨c0,c1,c2,c3,c4,c5,c6⟩,u⟩:=m.fx;have F:=m.cW 2 (I U ov) (u2:=I U ov) Q;go_wp2_with fail;apply F.yQ.mono;rintro e w9⟨dv,R,rfl,c⟩;obtain⟨⟨c0,c1,c2,c3,c4,c5,c6⟩,u⟩:=c.fx;go_wp2;go_meet;exact ψ ⟨by rw[Z a,Z B];rfl,_,_,_,_,_,_,_,_,_,_,c.cW 5 _ Q⟩
  .have a:dy l 28 (p+1)=(cE l (p+1)).bind λx=>E ({bL 6 θ with code:=x.1},x.2):=by
    unfold dy;rw[aE Θ,aE Θ,aE Θ,aE Θ,aE Θ,aH rfl]
   replace a:=J a;have V:=T.cW 0 (I X 6) (u0:=I X 6) Q;go_wp2_with fail;apply V.num.mono;rintro e w7(⟨cv,q7,i,bA,-,rfl,m⟩|⟨i,rfl,m⟩)
   .obtain⟨⟨c0,c1,c2,c3,c4,c5,c6⟩,u⟩:=m.fx;replace i:=J i;go_wp2;go_meet;exact φ ⟨{bL 6 θ with code:=cv},q7,N,0,0,by rw[Z a,Z i];rfl,m.cW 3 _ Q,cD.nil _ _ (Z al _ _ _ _ _ _ (by simp[bL]) (by simp[bL]) v0 bA) Q (by simp[bL]),λx H=>by cases H⟩
   obtain⟨⟨c0,c1,c2,c3,c4,c5,c6⟩,u⟩:=m.fx;replace i:=J i;go_wp2;go_meet;exact ψ ⟨by rw[Z a,Z i];rfl,_,_,_,_,_,_,_,_,_,_,m.cW 3 _ Q⟩
  have L:dy l t (p+1)=N:=by
   unfold dy;rw[aE n0,aE n1,aE n2,aE n4,aE (λe=>e.elim n8 n9),aE ca]
  replace L:=J L;obtain⟨x0,x1,x2,xf⟩:=iq T.rc.x;have f0:(t==0)=θ:=by simp[n0]
  have f1:(t==1)=θ:=by simp[n1]
  have f2:(t==2)=θ:=by simp[n2]
  have f4:(t==4)=θ:=by simp[n4]
  have f8:(t==8)=θ:=by simp[n8]
  have f9:(t==9)=θ:=by simp[n9]
  have f28:(t==28)=θ:=by simp[ca]
  go_wp2;go_meet;exact ψ ⟨Z L,p+1,_,_,_,_,_,_,_,_,_,T.call (aD (au _ _) ⟨K,2,N⟩ (β ρ) (ψ Q)) (T.rc.x.kR ρ) T.rc.hp⟩
 case rest=>
  have dc:=J vE;obtain⟨f,q,A,NN,C,a,S,bj,b3⟩|⟨a,q,k0,k1,k2,k3,k4,k5,A,NN,C,S⟩:=hcut
  .have a1:=Z a9;rw[a]at a1;simp only[dX]at a1;obtain⟨x0,x1,x2,xf⟩:=iq S.rc.x;have br:=Gh f (Y A NN C) wc bj;have hq:=S.rc.hp;obtain⟨kd,sm,of,cd,fin,d,rg⟩:=f;have hY:=S.y;simp only[bC]at br hY;replace⟨br,hY,a1,a,bj⟩:=gT br hY a1 a bj;go_wp2_with (refine pR Ξ 158 _ Ξ (w.heap.size+1) Ξ 158 _ (0,0) _ (Z hY) underlying158 Ξ (Z dc) ?_);apply(Z br).mono;rintro e w8⟨⟨bo,rfl,a2⟩,g8⟩;have F:=S.call (cK g8 _) (S.rc.x.gb g8) hq;obtain⟨z0,z1,z2,zf⟩:=iq F.rc.x;obtain⟨⟨r0,r1,r2,r3,r4,r5,r6⟩,rf⟩:=And.intro (bQ F.r) (qL F.r);obtain⟨⟨s0,s1,s2,s3,s4,s5,s6⟩,sf⟩:=F.fx;have b4:=(Z bj).ag g8;have dk:K≠w.heap.size+1:=O;have bt:K≠w.heap.size:=O;replace b4:=J b4;cases bo
   .have ax:kG l p=N:=by
     rw[Z a1];exact aE (λh=>by have:=a2.2 h;cases this)
    replace⟨ax,a2⟩:=aT ax a2;go_wp2_with fail;refine cC (v:=ε #[I X kd,I X sm,I U of,I U cd,β fin,ς d,Y A NN C]) ?_ Q ?_
    .simp[results,results104,go_sem,r0,r1,r2,r3,r4,r5,r6]
    have h7:=seven (aD F.g ⟨K,2,N⟩ (β ρ) (ψ Q)) (F.rc.x.kR ρ) bt (I X kd) (I X sm) (I U of) (I U cd) (β fin) (ς d) (Y A NN C);exact⟨h7.1,ψ ⟨Z ax,q,kd,sm,of,cd,fin,d,A,NN,C,Q,h7.2,hq⟩⟩
   have b5:kG l p=E (⟨kd,sm,of,cd,fin,d,rg⟩,q):=by
    rw[Z a1];exact aH (a2.1 Q)
   replace⟨b5,a2⟩:=aT b5 a2;go_wp2_with fail;refine cC (v:=ε #[I X kd,I X sm,I U of,I U cd,β fin,ς d,Y A NN C]) ?_ Q ?_
   .simp[results,results104,go_sem,r0,r1,r2,r3,r4,r5,r6]
   have h7:=seven (aD F.g ⟨K,2,N⟩ (β θ) (ψ Q)) (F.rc.x.kR θ) bt (I X kd) (I X sm) (I U of) (I U cd) (β fin) (ς d) (Y A NN C);have a0:∀x,A=E x->x.block≠w.heap.size:=λx H=>by have:=b3 x H;omega
   have de:∀x,A=E x->x.block≠K:=λx H=>by have:=b3 x H;omega
   exact⟨h7.1,φ ⟨_,q,A,NN,C,Z b5,Q,cD.set (cD.set (cD.set (cD.set (cD.set (cD.set (cD.set (cD.set (Z b4) _ _ de) _ _ a0) _ _ a0) _ _ a0) _ _ a0) _ _ a0) _ _ a0) _ _ a0,λx H=>by have:=b3 x H;omega,h7.2,hq⟩⟩
  have ax:kG l p=N:=by rw[Z a9,a];rfl
  replace⟨ax,a⟩:=aT ax a;obtain⟨z0,z1,z2,zf⟩:=iq S.rc.x;obtain⟨⟨r0,r1,r2,r3,r4,r5,r6⟩,rf⟩:=And.intro (bQ S.r) (qL S.r);obtain⟨⟨s0,s1,s2,s3,s4,s5,s6⟩,sf⟩:=S.fx;have bt:K≠w.heap.size:=O;go_wp2_with fail;refine cC (v:=ε #[I X k0,I X k1,I U k2,I U k3,β k4,ς k5,Y A NN C]) ?_ Q ?_
  .simp[results,results104,go_sem,r0,r1,r2,r3,r4,r5,r6]
  have h7:=seven S.g S.rc.x bt (I X k0) (I X k1) (I U k2) (I U k3) (β k4) (ς k5) (Y A NN C);exact⟨h7.1,ψ ⟨Z ax,q,k0,k1,k2,k3,k4,k5,A,NN,C,Q,h7.2,S.rc.hp⟩⟩
def yR(w:D)(l:List Int)(e:Ending)(b:D):Prop:=
 G w b N/\((∃aw a n c,eX l=(E (aw.map (·.1)),-1)/\e=ξ (τ #[Y a n c,I X 0,I X (-1)])/\fe b w.heap.size (Y a n c) aw)\/
  (∃p:Nat,eX l=(N,(p:Int))/\e=ξ (τ #[Y N 0 0,I X 5,I X p])))
def Rc{x:Fr×Nat}(h:dy L t (n+1)=E x):n<x.2:=by
 unfold dy at h;split at h;cases h;exact Nat.lt_succ_self _;split at h;cases h;exact Nat.lt_succ_self _;split at h;exact bind_mono (u:=x.1) (k:=x.2) (n:=n+1) (λy a=>E5 a) h;split at h;cases b:fH L (n+1)with
 |none=>rw[b]at h;cases h
 |some y=>
  rw[b]at h;simp only[dX]at h;have d:=AE b;cases c:cE L y.2 with
  |none=>rw[c]at h;cases h
  |some z=>
   rw[c]at h;simp only[dX]at h;have e:=nK c;have:=bind_mono (u:=x.1) (k:=x.2) (n:=z.2) (λy a=>uV (nK a)) h;omega
 split at h;cases b:fH L (n+1)with
 |none=>rw[b]at h;cases h
 |some y=>
  rw[b]at h;simp only[dX]at h;have d:=AE b;cases c:cE L y.2 with
  |none=>rw[c]at h;cases h
  |some z=>
   rw[c]at h;simp only[dX]at h;have e:=nK c;have:=bind_mono (u:=x.1) (k:=x.2) (n:=z.2) (λy a=>E6 a) h;omega
 split at h;exact bind_mono (u:=x.1) (k:=x.2) (n:=n+1) (λy a=>uV (nK a)) h;cases h
def Re{k:Array Oper}{rest:List Oper}{o:Oper}{a:Act}{m:Exit->Act->D->Prop}(p:o.guard=N)(s x:Operand)
 (q:o.op=.call {callee:=.builtin .append,args:= #[s,x],argTypes:= #[92,92]})
 (i:Nat) (v:υ) (l:List cX) (hs:a.eval s=v) (r:fe w i v l) (b c:Nat) (d:cX) (t:cD w d.1 d.2) (u:d.1.ranges≠[]->∀y n c,d.2=Y (E y) n c->i<=y.block/\v.ownBlock≠E y.block) (z:d.2.oneCell'=ρ) (A:a.eval x=Y (E ⟨b,0,N⟩) 1 c) (h0:w.rangeAt b 0 (iN d.1 d.2)) (B:l.length<=100000000) (C:i<=w.heap.size)
 (h:∀e f g j,fe j i (Y e f g) (l++[d])->G w j v.ownBlock->((Y e f g).ownBlock=v.ownBlock\/(Y e f g).ownBlock=E w.heap.size)->
   wpList prog k m rest (a.put o.dst (Y e f g)) j):wpList prog k m (o::rest) a w:=
 rY p λ_ F=>by
  let⟨e,f,g,j,H,K,L,M⟩:=E9 (w:=w) o.type i v l r b c d t u z h0 B C
  unfold Oper.wp execOp;simp only[q,resolve,invoke,builtin,jL,ny,jC,oh,kD,oq,hs,A,H]
  exact F _ _ (h e f g j K L M)
def Gm(w:D)(a:Option Addr)(n b:Nat)(c:bD w a n b []):
 Calls prog 63 #[Y a n b] w (yR w []):=by
 have d:n=0:=c.2.1;subst d;go_enter func63,ntmps63;go_wp2;go_ret3;exact⟨aC _ _ _,ψ ⟨0,by simp[eX],Q⟩⟩
def Gn(w:D)(p o n F:Nat)(l:List Int)(V:bD w (E ⟨p,o,N⟩) n F l)(h0:0<l.length)(hl:l.length<=100000000):
 Calls prog 63 #[Y (E ⟨p,o,N⟩) n F] w (yR w l):=by
 have L:=V.2.1;have e0:((n:Int)==0)=θ:=Ψ;have bw:p<w.heap.size:=by
  let⟨b1,o1,e1,h1⟩:=rE V
  cases e1;exact eI w _ (h1 0 O)
 obtain⟨t,H⟩:=í (w.alloc (ο #[Y (E ⟨p,o,N⟩) n F,I X 0,β θ] 218));have g1:G w t N:=by rw[H];exact aC _ _ _
 have a1:dq t w.heap.size (Y (E ⟨p,o,N⟩) n F) 0 θ:=by rw[H];exact aM _ _
 have bx:t.heap.size=w.heap.size+1:=by rw[H];simp
 have W:eX l=gz l (l.length+1) 0 []:=by unfold eX;rw[ê]
 obtain⟨u,h⟩:=í w.heap.size;rw[<-h]at a1;replace⟨L,W⟩:=aT L W;go_enter func63,ntmps63;go_wp2_with fail;rw[<-H];simp only[<-h]
 replace⟨h,H⟩:=aT h H;go_loopg [6] l.length (λgh v wr=>∃(q k:Nat)(aw:List cX)(a:Option Addr)(m c:Nat),gh=l.length-q/\v=Y a m c/\q<=l.length/\aw.length<=q/\dq wr u (Y (E ⟨p,o,N⟩) n F) q θ/\fe wr t.heap.size (Y a m c) aw/\G t wr (E u)/\eX l=gz l k q (aw.map (·.1))/\l.length-q<k);case atStart=>exact⟨0,l.length+1,[],N,0,0,O,Q,O,Γ,a1,fe.nil _ _,au _ _,Z W,O⟩
 case round=>
  obtain⟨q,k,aw,a,m,c,rfl,rfl,hq,bz,P,z,gr,B,hk⟩:=hrel;let⟨y0,y1,y2,yf⟩:=iq P
  have ai:=cO g1 gr (λj e=>φ (by cases e;have:=Z h;omega));have a3:p≠u:=by have:=Z h;omega
  obtain⟨R,rfl⟩:∃R,k=R+1:=⟨k-1,O⟩
  by_cases ak:q<l.length
  .have a4:(q:Int)<n:=by have:=Z L;omega
   have e1:decide ((q:Int)<n)=ρ:=bU a4;have a8:decide (q<n)=ρ:=α;have hF:=λm=>Rb u p o n F l q (wr.drewN m) ⟨P,(V.ag ai).ag (cu (au _ _) _),a3,hq,hl⟩ ak
   have bA:=gr.size;replace⟨P,z,B,hF⟩:=fB P z B hF;go_wp2_with fail;go_quiet (fail);go_wp2_with fail;apply(Z hF _).mono;rintro e K⟨g5,⟨⟨b,sm,of,cd,fin,d,rg⟩,M,A,f,C,r,rfl,a9,bb,s,a2⟩|⟨r,M,k0,k1,k2,k3,k4,k5,A,f,C,rfl,s,a2⟩⟩
   .have al:=cO (cK (cu (au wr N) _) (E u)) g5 (λj e=>ψ Q);have bj:=(Z z).gb al (λj e=>by cases e;have:=Z h;omega);have bM:q<M:=by
     have i:=r;unfold kG at i;cases ao:dy l (l.getD q 0) (q+1)with
     |none=>rw[ao]at i;cases i
     |some x=>
      rw[ao]at i;simp only[dX]at i;split at i;cases i;exact Rc ao;cases i
    have g:eX l=gz l R M (aw.map (·.1)++[⟨b,sm,of,cd,fin,d,rg⟩]):=by
     rw[Z B];simp only[gz]
     rw[aH ak,r]
    let⟨z0,z1,z2,zf⟩:=iq s
    have br:=s.lt;replace⟨r,g,s⟩:=cA r g s;have ax:(⟨b,sm,of,cd,fin,d,rg⟩:Fr).ranges≠[]->∀y n c',Y A f C=Y (E y) n c'->t.heap.size<=y.block/\(Y a m c).ownBlock≠E y.block:=λ_ y n' c' e=>by
     cases e;have h1:=bb y Q;have i:(wr.drewN nq).heap.size=wr.heap.size:=rfl;exact⟨O,λe2=>by have:=((Z z).lt _ e2).2;omega⟩
    have S:G K ((K.alloc (ο #[I X b,I X sm,I U of,I U cd,β fin,ς d,Y A f C] 158)).alloc (ο #[I X b,I X sm,I U of,I U cd,β fin,ς d,Y A f C] 158)) N:=aW (aC _ _ _) _;have a0:=J (bj.gb S (nofun));have T:=aM (K.alloc (ο #[I X b,I X sm,I U of,I U cd,β fin,ς d,Y A f C] 158)) (ο #[I X b,I X sm,I U of,I U cd,β fin,ς d,Y A f C] 158);rw[dJ]at T;have bt:Hid (((K.alloc (ο #[I X b,I X sm,I U of,I U cd,β fin,ς d,Y A f C] 158)).alloc (ο #[I X b,I X sm,I U of,I U cd,β fin,ς d,Y A f C] 158)).rangeAt (K.heap.size+1) 0 (iN ⟨b,sm,of,cd,fin,d,rg⟩ (Y A f C))):=J (mj T);have b3:=al.size;replace⟨ax,T⟩:=aT ax T;simp only[bC]
    go_wp2_with (at_builtin;refine Re Ξ _ _ Ξ t.heap.size _ aw Ξ (Z a0) (K.heap.size+1) 1 (⟨b,sm,of,cd,fin,d,rg⟩,Y A f C) (Z (J (a9.ag S))) (Z ax) Ξ Ξ (Z bt) O Ψ ?_;intro a7 n7 c7 w7 o7 g7 b7);go_roundg (l.length-M);case measure=>omega
    case rel=>
     refine⟨M,R,aw++[(⟨b,sm,of,cd,fin,d,rg⟩,Y A f C)],a7,n7,c7,Q,Q,a2,Ψ,?_,o7,?_,by rw[Z g];simp,O⟩
     exact((Z s).gb S).gb g7 (λe=>by have:=((Z a0).lt u e).1;have:=Z h;omega);exact cO (cO (aq gr al) S (nofun)) g7 (λj e=>φ ((Z a0).lt j e).1)
   have g:eX l=(N,(q:Int)):=by
    rw[Z B];simp only[gz]
    rw[aH ak,r]
   let⟨z0,z1,z2,zf⟩:=iq s
   have br:=s.lt;replace⟨g,r⟩:=aT g r;go_wp2;go_ret3;exact⟨aW (cO ai (cO (cK (cu (au wr N) _) (E u)) g5 (λj e=>ψ Q)) (λj e=>φ (by cases e;have:=Z h;omega))) _,ψ ⟨q,Z g,Q⟩⟩
  obtain rfl:q=l.length:=O;have e1:decide ((l.length:Int)<n)=θ:=bT (by have:=Z L;omega);have a8:decide (l.length<n)=θ:=bT (by have:=Z L;omega);have g:eX l=(E (aw.map (·.1)),-1):=by
   rw[B];simp only[gz]
   rw[ê]
  replace⟨g,B,z⟩:=cA g B z;go_wp2_with fail;go_quiet (fail);go_wp2;go_ret3;exact⟨cu ai _,φ ⟨aw,a,m,c,Z g,Q,((Z z).gb (cu (au _ N) _) (nofun)).lower g1.size⟩⟩
def Gu(w:D)(a:Option Addr)(n L:Nat)(fs:List Fr)(h:lq w a n L fs)(ak:fh fs<=30000000):
 Calls prog 67 #[Y a n L] w (Dq w fs (τ #[Y N 0 0,I X 5]) (λv=>τ #[v,I X 0])):=by
 have c:=h.1;have al:=h.2.1;have R:=h.2.2.1;unfold maxLen at R;replace c:=J c;go_enter func67,ntmps67;go_wp2;go_loopw [4,5] (λv i wr=>∃(j:Nat)(q:Bool),j<=n/\i=I X j/\v=β q/\(q=ρ↔0<n/\∀i,i<j->cT (eR fs i))/\G w wr N) (λ_ i _=>n-(intOf i).toNat);case atStart=>exact⟨0,decide (0<n),O,Q,Γ,Γ,au _ _⟩
 case round=>
  obtain⟨j,q,hj,rfl,rfl,d,g⟩:=hrel;cases q
  .have t:¬pZ fs:=λz=>by
    have:=d.2 ⟨by have:=z.1;have:=Z c;omega,λi hi=>z.2 i (by have:=Z c;omega)⟩;cases this
   replace⟨t,d⟩:=aT t d;by_cases M:j<n
   .go_wp2_with fail;go_ret2;exact⟨ψ ⟨Z t,Q⟩,g⟩
   go_wp2_with fail;go_ret2;exact⟨ψ ⟨Z t,Q⟩,g⟩
  by_cases M:j<n
  .have p:=h.ag g;obtain⟨b,o,rfl⟩:∃b o,a=E ⟨b,o,N⟩:=by
    obtain⟨-,-,-,S|⟨b,o,rfl,-⟩⟩:=h;omega;exact⟨b,o,Q⟩
   let⟨r,m,s⟩:=p.at j (by have:=Z c;omega)
   have T:=J (d.1 Q);have V:=J (Gh _ r wr m);replace⟨s,m,d⟩:=cA s m d;have A:=J vE;replace⟨h,p⟩:=aT h p;go_wp2_with (refine wpList_load_mid Ξ 158 _ Ξ b (o+j*7) Ξ (iN (eR fs j) r) _ (Z s) underlying158 Ξ (Z A) ?_);apply(Z V).mono;rintro e W⟨⟨q,rfl,B⟩,g2⟩;replace B:=J B;go_wp2;go_roundw;case rel=>
    refine⟨j+1,q,O,Γ,Q,?_,aq g g2⟩
    have P:=Z T;refine(Z B).trans ⟨λhs=>⟨P.1,λi hi=>?_⟩,λhs=>hs.2 j O⟩;obtain h9|rfl:=sY.1 hi
    exact P.2 i h9;exact hs
   case measure=>simp[intOf];omega
  obtain rfl:j=n:=O;have u:pZ fs:=⟨by have:=(d.1 Q).1;have:=Z c;omega,λi hi=>(d.1 Q).2 i (by have:=Z c;omega)⟩
  have ao:=(d.1 Q).1;have p:=h.ag g;obtain⟨b,o,rfl⟩:∃b o,a=E ⟨b,o,N⟩:=by
   obtain⟨-,-,-,S|⟨b,o,rfl,-⟩⟩:=h;omega;exact⟨b,o,Q⟩
  obtain⟨C,rfl⟩:=í wr;replace⟨u,d⟩:=aT u d;go_wp2;go_loopw [6,7] (λv i wz=>∃(k:Nat)(x:Option Addr)(F y:Nat),k<=j/\i=I X k/\v=Y x F y/\cL C C.heap.size (Y N 0 0) wz v (bE (fs.take k))) (λ_ i _=>j-(intOf i).toNat);case atStart=>exact⟨0,_,0,0,O,Q,Q,cL.refl (aS.nil _ _)⟩
  case round=>
   obtain⟨k,x,F,y,z,rfl,rfl,f⟩:=hrel;have gk:=f.jc (au _ _) (aS.nil _ _) (aP _);by_cases M:k<j
   .let⟨r,m,s⟩:=p.at k (by have:=Z c;omega)
    have H:=jE s gk Γ;have hs:=(Z u).2 k (by have:=Z c;omega);have ax:=Dp (l:=fs) (j:=k) (by have:=Z c;omega);have a0:=zk (fs.take k);have K:bE (fs.take (k+1))=bE (fs.take k)++cH (eR fs k):=by rw[BP fs k (by have:=Z c;omega),xU (by have:=Z c;omega)]
    have en:=f.own.eV.2.1;subst en;have ai:=J (Rv _ r wr (m.ag gk) hs _ x y _ f.own gk.size O C m gk (aP _));replace⟨H,f,K⟩:=cA H f K;have A:=J vE;go_wp2_with (refine wpList_load_mid Ξ 158 _ Ξ b (o+k*7) Ξ (iN (eR fs k) r) _ (Z H) underlying158 Ξ (Z A) ?_);apply(Z ai).mono;rintro e W⟨a2,n2,c2,rfl,G2⟩;go_wp2;go_roundw;case rel=>exact⟨k+1,a2,n2,c2,O,Γ,Q,by rw[Z K];exact(Z f).trans G2⟩
    case measure=>simp[intOf];omega
   obtain rfl:k=j:=O;go_wp2;go_ret2;refine⟨φ ⟨Z u,x,F,y,Q,?_⟩,aq g gk⟩
   rw[oe (by have:=Z c;omega)]at f;exact f.own.zX g.size
def Bz(w:D)(T ty e:TypeId)(v x:υ)(l m:List υ):Prop:=
 ∃a b c d,(Builtin.append_ #[T,T] ty #[v,x]).run prog w=.ok (Y a b c) d/\d.ownsRow 0 e 1 (Y a b c) (l++m).length (l++m)/\G w d v.ownBlock/\((Y a b c).ownBlock=v.ownBlock\/(Y a b c).ownBlock=E w.heap.size)
def GY{e:TypeId}(ty:TypeId)(k:prog.underlying T=E (.slice e))(p:(prog.info? e).map (λi=>(i.zero,i.size,i.bytes))=E (E z,1,n))(q:z.cells.size=1)(r:n<=24)(v:υ)(l:List υ)(s:w.ownsRow 0 e 1 v l.length l)(y:Addr)(c:Nat)(m:List υ)(h0:∀j u,m[j]?=E u->κ w (y.add j)=E u)(t:∀u∈m,u.oneCell'=ρ)(x:l.length+m.length<=100000000):
 Bz w T ty e v (Y (E y) m.length c) l m:=by
 obtain⟨A,hi,B,C,F⟩:=kV p;obtain⟨H,a,d,K,f,_,h⟩:=run_append_own_at (P:=prog) w 0 T ty e A _ 1 n k hi B C F q O v l.length l s y m.length c m Γ h0 t (by simp[maxLen];omega) (bG (Nat.mul_le_mul x r) O) (mP _);have b:a.ownsRow 0 e 1 H (l++m).length (l++m):=by
  grind
 obtain⟨-,⟨rfl,e2⟩|⟨g,L,M,rfl,_⟩⟩:=id b;exact⟨_,_,_,a,d,b,f,h⟩
 exact⟨_,_,_,a,d,b,f,h⟩
def Tm{e:TypeId}(ty:TypeId)(b:prog.underlying T=E (.slice e))(c:(prog.info? e).map (λi=>(i.zero,i.size,i.bytes))=E (E z,1,n))(h:z.cells.size=1)(k:n<=24)(v:υ)(l:List υ)(a:w.ownsRow 0 e 1 v l.length l)(p:Nat)(x:υ)(m:List υ)(q:w.ownsRow p e 1 x m.length m)(r:∀u∈m,u.oneCell'=ρ)(s:l.length+m.length<=100000000):
 Bz w T ty e v x l m:=by
 obtain⟨-,⟨rfl,t⟩|⟨g,d,y,rfl,-,A,-,-,C,F⟩⟩:=id q;obtain rfl:m=[]:=oV t;obtain⟨B,hi,H,K,L⟩:=kV c;have f:=run_append_owned_none (P:=prog) (w:=w) 0 T ty e B 1 b hi v _ _ a;unfold Bz;rw[qY];obtain⟨-,⟨rfl,e2⟩|⟨g,d,y,rfl,_⟩⟩:=id a;exact⟨_,_,_,w,f,a,au _ _,φ Q⟩
 exact⟨_,_,_,w,f,a,au _ _,φ Q⟩
 refine GY ty b c h k v l a ⟨g,0,N⟩ d m (λj u M=>?_) r s;rw[Addr.add_mid,eM,ba A];grind
