import Derived.Test.YtjnmokmchdfchaaGreatDoorZS1
set_option maxRecDepth 1000000
set_option maxHeartbeats 0
set_option linter.all false
namespace Go.Proofs.YtjnmokmchdfchaaGreatDoor
open Go.RowKit Tryz
open Go.Value renaming int→I,slice→Y,bool→β,pointer→π,agg→ε,string→ς,tuple→τ
open Go.IntKind renaming i64→X,u64→U,u8→Δ
open Go.Ending renaming returned→ξ
open Go.Obj renaming cells→ο
open Or renaming inl→φ,inr→ψ
open Option renaming some→E,none→N
open Bool renaming true→ρ,false→θ
open Go renaming World→D,Value→υ
open Go.World renaming grownBy→G,cell?→κ,frozen?→χ,setCell→ζ
attribute[local go_sem↓]Go.wp_at_zero Go.wp_at_succ
variable{p q:Int}{K L:List Int}{s:List Rg}{i j k n:Nat}{a:Option Addr}{x y:υ}{V W w:D}
def cL.jc(h:cL w n x V y K)(a:G W w N)(b:aS w n x L)(c:W.heap.size<=n):G W V N:=
 cO a h.gb (λj e=>φ (bG c (b.lt j e).1))
def qH(h:cL w k x W (Y a i j) L)(l:cR p)(m:k<=w.heap.size)(hl:L.length<=90000000):
 Calls prog 266 #[Y a i j,I U p] W λe f=>∃b c d,e=ξ (Y b c d)/\cL w k x f (Y b c d) (L++aN p)/\cL W k (Y a i j) f (Y b c d) (L++aN p):=by
 have e1:=h.own.eV.2.1;subst e1;apply(Ku k a j L p W h.own l (bG m h.size) hl).mono;rintro e q⟨n,c2,rfl,g⟩;exact⟨n,_,c2,Q,h.trans g,g⟩
def cL.box{wr:D}(h:cL w n x W y K)(a:aS wr n x L)(b:wr.heap.size<w.heap.size):W.heap[wr.heap.size]?=w.heap[wr.heap.size]? /\y.ownBlock≠E wr.heap.size:=
 h.apart b (λe=>by have:=(a.lt _ e).2;omega)
def xS(h:W.heap[n]?=w.heap[n]?)(i:Nat):κ W ⟨n,i,N⟩=κ w ⟨n,i,N⟩:=iB (w:=w) h
def lh(h0:0<=p-q)(a:p-q<18446744073709551616):U.wrap (p-q)=p-q:=by rw[cZ];omega
def Da(w0 w:D)(t:Nat)(a:Option Addr)(c:Nat)(l:List Int)(ra:Option Addr)(n a0:Nat)(rg:List Rg)(H:aS w t (Y a l.length c) l)(K:G w0 w N)(T:w0.heap.size<=t)(f:bq w0 ra n a0 rg)(q:gP rg)(L:t<=w.heap.size)(hl:l.length+16*rg.length<=80000000):
 Calls prog 238 #[Y a l.length c,Y ra n a0] w λe r=>∃u z A,e=ξ (Y u z A)/\cL w t (Y a l.length c) r (Y u z A) (l++fS rg):=by
 have d:=f.2.1;have b8:=f.2.2.1;have bM:=f.2.2.2.1;unfold maxLen at bM;have M:=q.1;obtain⟨-,-,-,-,h0|⟨b,o,rfl,-⟩⟩:=id f;omega;have B:∀W,G w0 W N->κ W ⟨b,o,N⟩=E (I U (an rg 0).lo)/\κ W ⟨b,o+1,N⟩=E (I U (an rg 0).hi):=λW g=>by
  have:=(f.ag g).cell 0 M;rwa[nz,nA]at this
 have bx:=ox f.1 q 0 M;have b3:=(q.2 0 M).1;obtain⟨V,ai⟩:=í ((an rg 0).lo);obtain⟨s,ak⟩:=í ((an rg 0).hi);have a4:kE rg=aN s++aN ((n:Int)-1)++aN (s-V):=by rw[ai,ak,d];rfl
 simp only[<-ai,<-ak]at B bx b3;let⟨⟨v1,v2⟩,v3,v4⟩:=bx
 have ca:=lh (p:=s) (q:=V) O O;have i0:(0:Int)<n:=O;have cc:0<n:=O;have cf:l.length+16*n<=80000000:=O;replace⟨hl,d,ai,ak,a4,B,M⟩:=mX hl d ai ak a4 B M;have G0:=cL.refl H;let⟨z1,z2⟩:=Z B w K
 go_enter func238,ntmps238;go_wp2_with fail;apply(qH G0 ⟨v3,v4⟩ L O).mono;rintro e w1⟨a1,n1,c1,rfl,G1,-⟩;have ch:U.wrap ((n:Int)-1)=(n:Int)-1:=lh O O;go_wp2_with fail;refine(qH G1 ⟨O,O⟩ L (by have:=eQ s;simp;omega)).mono ?_;rintro e w2⟨a2,n2,c2,rfl,G2,-⟩;have b4:w2.drew.cell? ⟨b,o,N⟩=E (I U V)/\w2.drew.cell? ⟨b,o+1,N⟩=E (I U s):=Z B w2 (G2.jc K H T);replace⟨G2,G0,G1⟩:=cA G2 G0 G1;go_wp2_with fail;go_region_held3 (λr=>κ r ⟨b,o,N⟩=E (I U V)/\κ r ⟨b,o+1,N⟩=E (I U s)) (with_reducible first|exact b5|exact b4)
  (first|(go_at_call 266;refine(qH ((Z G2).still (aK (au _ _))) ⟨O,O⟩ L (by have:=eQ s;have:=eQ ((n:Int)-1);simp;omega)).mono ?_;rintro e w3⟨a3,n3,c3,rfl,G3,-⟩;have b5:=Z B w3 (G3.jc K H T);replace G3:=J G3))
 have bz:Hid (cL w t (Y a l.length c) w3 (Y a3 n3 c3) (l++kE rg)):=J (by rw[Z a4,<-eF,<-eF];exact Z G3);by_cases b6:a0=1
 .obtain rfl:n=1:=O;subst b6;go_wp2;go_loopw [0,33] (λv i wr=>v=Y a3 n3 c3/\i=I X 0/\wr=w3) (λ_ _ _=>0);case atStart=>exact⟨Q,Q,Q⟩
  case round=>
   obtain⟨rfl,rfl,rfl⟩:=hrel;go_wp2;go_ret;refine⟨a3,n3,c3,Q,?_⟩
   have:fS rg=kE rg:=by unfold fS;rw[<-Z d];simp[iW]
   rw[this];exact Z bz
 go_wp2_with fail;obtain⟨P,hN⟩:=í (n-1);rw[<-hN];go_loopw [0,33] (λv i wr=>∃(j:Nat)(u:Option Addr)(z A:Nat),j<=P/\i=I X j/\v=Y u z A/\cL w t (Y a l.length c) wr v (l++kE rg++iW rg j)) (λ_ i _=>P-(intOf i).toNat);case atStart=>exact⟨0,a3,n3,c3,O,Q,Q,by simpa [iW]using Z bz⟩
 case round=>
  obtain⟨j,u,z,A,hj,rfl,rfl,C⟩:=hrel;have gj:=C.jc K H T;by_cases cm:j<P
  .obtain⟨p1,-⟩:=(f.ag gj).cell j (by have:=Z d;omega);let⟨p2,p3⟩:=(f.ag gj).cell (j+1) (by have:=Z d;omega)
   have eo:o+(j+1)*2=o+2+j*2:=O;rw[eo]at p2 p3;have f1:=ox f.1 q j (by have:=Z d;omega);have f2:=ox f.1 q (j+1) (by have:=Z d;omega);have f3:=q.2 (j+1) (by have:=Z d;omega);unfold mS at f3;rw[oZ]at f3;replace f3:=f3.2.2 O;have f4:=(q.2 (j+1) (by have:=Z d;omega)).1;have bb:iW rg (j+1)=iW rg j++(aN ((an rg j).lo-(an rg (j+1)).hi-2)++aN ((an rg (j+1)).hi-(an rg (j+1)).lo)):=rfl;have bj:=λW(g:G w0 W N)=>((f.ag g).cell j (by have:=Z d;omega)).1
   generalize (an rg j).lo=x at *;generalize (an rg (j+1)).lo=al at *;generalize (an rg (j+1)).hi=m at *;obtain⟨⟨f10,f11⟩,-⟩:=f1;let⟨⟨f20,f21⟩,f22,f23⟩:=f2
   have cp:=lh (p:=x) (q:=m) O O;have ct:=lh (p:=x-m) (q:=2) O O;have cv:=lh (p:=m) (q:=al) O O;have i1:(0:Int)<=j:=O;have i2:(j:Int)<n:=O;obtain⟨p,F⟩:=í (wr.alloc (ο #[I U al,I U m] 200));have br:p.heap.size=wr.heap.size+1:=by rw[F];simp
   have gW:G wr p N:=by rw[F];exact aC _ _ _
   have bt:p.heap[wr.heap.size]?=E (ο #[I U al,I U m] 200 (0,0)):=by rw[F];exact aM _ _
   have R:∀W:D,W.heap[wr.heap.size]?=p.heap[wr.heap.size]? ->κ W ⟨wr.heap.size,0,N⟩=E (I U al)/\κ W ⟨wr.heap.size,1,N⟩=E (I U m):=λW h=>by
    rw[xS h,xS h];simp[κ,bt]
   have p4:p.drew.cell? ⟨b,o+j*2,N⟩=E (I U x):=ì gW p1;have b7:p.drew.cell? ⟨b,o+j*2,N⟩=E (I U x)/\p.drew.cell? ⟨wr.heap.size,1,N⟩=E (I U m):=⟨p4,(R p.drew Q).2⟩
   have bw:=C.own;have ao:∀k,k<=P->(l++kE rg++iW rg k).length<=85000000:=λk hk=>by
    have q1:=xm rg k;have q2:(kE rg).length<=24:=by
     have a7:=eQ (an rg 0).hi;have a8:=eQ ((rg.length:Int)-1);have a9:=eQ ((an rg 0).hi-(an rg 0).lo);simp only[kE,bS];omega
    simp only[bS];omega
   replace⟨C,bw,R,bt,bb,bj,ao,hN,gW⟩:=rC C bw R bt bb bj ao hN gW;replace br:=J br;go_wp2_with fail;rw[<-F];replace F:=J F;go_region_held3 (λr=>κ r ⟨b,o+j*2,N⟩=E (I U x)/\κ r ⟨wr.heap.size,1,N⟩=E (I U m)) (with_reducible first|exact bA|exact b7)
    (first|(go_at_call 266;refine(qH ((Z C).still (aK (Z gW))) ⟨O,O⟩ L (by have:=Z ao j O;omega)).mono ?_;rintro e S⟨a5,n5,c5,rfl,G5,L5⟩;have ax:=L5.box (Z bw) (by have:=Z br;show _<p.heap.size;omega);have bA:κ S ⟨b,o+j*2,N⟩=E (I U x)/\κ S ⟨wr.heap.size,1,N⟩=E (I U m):=⟨Z bj S (G5.jc K H T),(Z R S ax.1).2⟩;replace ax:=J ax;replace L5:=J L5;replace G5:=J G5))
   obtain⟨-,y2⟩:=bA;have y1:=(Z R S (Z ax).1).1;go_wp2_with fail;refine(qH (Z G5) ⟨O,O⟩ L (by have:=Z ao j O;have:=eQ (x-m-2);rw[bS];omega)).mono ?_;rintro e w6⟨a6,n6,c6,rfl,G6,-⟩;go_wp2;go_roundw;case rel=>
    refine⟨j+1,a6,n6,c6,O,Γ,Q,?_⟩
    rw[Z bb,<-eF,<-eF];exact G6
   case measure=>simp[intOf];omega
  obtain rfl:j=P:=O;go_wp2;go_ret;refine⟨u,z,A,Q,?_⟩
  unfold fS;rw[<-eF,<-Z d,<-hN];exact C
def fJ(w:D)(a:Nat)(v:υ)(l:List Rg):Prop:=(∀r∈l,r.ok)/\w.ownsRow a 200 2 v l.length (cY l)
def fJ.lt(h:fJ w n x s):∀k,x.ownBlock=E k->n<=k/\k<w.heap.size:=h.2.lt
def fJ.gb{w:D}{r:Option Nat}(h:fJ w n x s)(g:G w W r)(a:x.ownBlock=N\/x.ownBlock≠r:=by simp):fJ W n x s:=⟨h.1,h.2.kept g a⟩
def fJ.ag(h:fJ w n x s)(g:G w W N):fJ W n x s:=h.gb g (by cases x.ownBlock<;>simp)
def fJ.iL(h:fJ w k (Y a n i) s):bq w a n i s/\∀x,a=E x->k<=x.block:=by
 let⟨c,r,f⟩:=h
 obtain⟨e,l⟩|⟨g,cap,cur,e,aa,m,p,hm,hs,q⟩:=f
 cases e;exact⟨⟨c,l.symm,Γ,by simp[maxLen],φ Q⟩,nofun⟩
 cases e;refine⟨⟨c,Q,p,hm,ψ ⟨g,0,Q,λj v d=>?_⟩⟩,λx b=>by cases b;exact aa⟩
 have t:=(rS.1 d).1;rw[<-q,tn,è]at d;simp only[κ,m,eM]
 grind
def KT:(prog.info? 200).map (λi=>(i.zero,i.size,i.bytes))=E (E (ε #[I U 0,I U 0]),2,16):=Φ
def KU(l m:List Rg):cY (l++m)=cY l++cY m:=by simp[cY]
def Dv(w:D)(r:Rg)(b:r.ok)(a:Nat)(c:a<=w.heap.size):fJ (w.alloc (ο #[I U r.lo,I U r.hi] 200)) a (Y (E ⟨w.heap.size,0,N⟩) 1 1) [r]:=
 ⟨λx d=>by rw[eE.1 d];exact b,by simp[cY],ψ ⟨w.heap.size,1,#[I U r.lo,I U r.hi],Q,c,aM w _,aP _,by simp[maxLen],Γ,by simp[cY]⟩⟩
def zZ(ty:TypeId)(d:Nat)(v:υ)(l:List Rg)(m:fJ w d v l)(b o c:Nat)(r:Rg)(p:r.ok)(h0:κ w ⟨b,o,N⟩=E (I U r.lo))(q:κ w ⟨b,o+1,N⟩=E (I U r.hi))(K:l.length<=100000000)(s:d<=w.heap.size):
 ∃f i k e,(Builtin.append_ #[133,133] ty #[v,Y (E ⟨b,o,N⟩) 1 c]).run prog w=.ok (Y f i k) e/\fJ e d (Y f i k) (l++[r])/\G w e v.ownBlock/\((Y f i k).ownBlock=v.ownBlock\/(Y f i k).ownBlock=E w.heap.size):=by
 let⟨t,hi,x,z,A⟩:=kV KT
 let⟨B,e,L,C,M,_,R⟩:=run_append_own_at (P:=prog) w d 133 ty 200 t (ε #[I U 0,I U 0]) 2 16 underlying133 hi x z A Q Θ v l.length (cY l) m.2 ⟨b,o,N⟩ 1 c (cY [r]) Q (by
  intro j u a;rw[Addr.add_mid];match j,a with
  |0,a=>simp[cY]at a;rw[<-a];exact h0
  |1,a=>simp[cY]at a;rw[<-a];exact q) (by
  intro u n;simp[cY]at n;obtain rfl|rfl:=n<;>rfl) (by simp[maxLen];omega) O s
 have F:fJ e d B (l++[r]):=⟨λy H=>(b9.1 H).elim (m.1 y) (λh=>by rw[eE.1 h];exact p),by rw[bS,KU];exact C⟩
 obtain⟨-,-,⟨rfl,e2⟩|⟨g,S,T,rfl,_⟩⟩:=id F;simp_all;grind
def Dw{k:Array Oper}{rest:List Oper}{o:Oper}{a:Act}{m:Exit->Act->D->Prop}(n:o.guard=N)(s x:Operand)
 (p:o.op=.call {callee:=.builtin .append,args:= #[s,x],argTypes:= #[133,133]})
 (j:Nat) (v:υ) (l:List Rg) (hs:a.eval s=v) (q:fJ w j v l) (b f c:Nat) (r:Rg) (t:r.ok) (u:a.eval x=Y (E ⟨b,f,N⟩) 1 c) (h0:κ w ⟨b,f,N⟩=E (I U r.lo)) (y:κ w ⟨b,f+1,N⟩=E (I U r.hi)) (z:l.length<=100000000) (A:j<=w.heap.size)
 (h:∀d e g i,fJ i j (Y d e g) (l++[r])->G w i v.ownBlock->((Y d e g).ownBlock=v.ownBlock\/(Y d e g).ownBlock=E w.heap.size)->
   wpList prog k m rest (a.put o.dst (Y d e g)) i):wpList prog k m (o::rest) a w:=
 rY n λ_ B=>by
  let⟨d,e,g,i,C,F,H,K⟩:=zZ (w:=w) o.type _ v l q b f c r t h0 y z A
  unfold Oper.wp execOp;simp only[p,resolve,invoke,builtin,jL,ny,jC,oh,kD,oq,hs,u,C]
  exact B _ _ (h d e _ i F H K)
def KV(w:D)(a:Nat)(sl:υ)(st:Nat)(r:Option (Int×Nat))(e:Ending)(b:D):Prop:=
 G w b (E a)/\((∃v q,r=E (v,q)/\e=ξ (I X v)/\dh b a sl q st)\/(r=N/\e=PN/\∃c,dh b a sl c st))
def KW(b c o n g:Nat)(l:List Int)(p st:Nat)(w:D)(k:dh w b (Y (E ⟨c,o,N⟩) n g) p st)(j:bD w (E ⟨c,o,N⟩) n g l)(m:c≠b)(hp:p<=l.length)(hl:l.length<=100000000):
 Calls prog 268 #[π (E ⟨b,0,N⟩)] w (KV w b (Y (E ⟨c,o,N⟩) n g) st (fH l p)):=by
 have r:=j.1;go_enter func268,ntmps268;go_wp2_with fail;apply(vF b c o n _ l p st w k j m hp hl).mono;rintro e t⟨h,⟨v,q,a,rfl,f⟩|⟨a,rfl,f⟩⟩
 .have s:=ig r a;obtain⟨⟨u,x⟩,-⟩:=s;replace a:=J a;by_cases y:4<=v
  .have d:fH l p=N:=by unfold fH;rw[Z a];simp;omega
   replace d:=J d;go_wp2_with (go_at_call 188;apply(tS b _).mono;rintro e z⟨rfl,rfl⟩);exact⟨Q,h,ψ ⟨Z d,Q,q,f⟩⟩
  have i:fH l p=E (v,q):=by unfold fH;rw[Z a];simp;omega
  replace i:=J i;go_wp2;go_ret;exact⟨h,φ ⟨v,q,Z i,Q,f⟩⟩
 have d:fH l p=N:=by unfold fH;rw[a];rfl
 exact⟨Q,h,ψ ⟨d,Q,f⟩⟩
def KX(x y:Int)(w:D)(e:Ending)(a:D):Prop:=a=w/\((y<=x/\e=ξ (I U (x-y)))\/(x<y/\e=PN))
def Aa(a:Nat)(x y:Int)(w:D)(b:aZ x)(c:aZ y):Calls prog 296 #[π (E ⟨a,0,N⟩),I U x,I U y] w (KX x y w):=by
 unfold aZ at b c;by_cases h:x<y
 .go_enter func296,ntmps296;go_wp2_with (go_at_call 188;apply(tS a _).mono;rintro e d⟨rfl,rfl⟩);exact⟨Q,Q,ψ ⟨h,Q⟩⟩
 have f:=lh (p:=x) (q:=y) O O;go_enter func296,ntmps296;go_wp2;go_ret;exact⟨Q,φ ⟨O,Q⟩⟩
def yn:prog.elem 133=200:=Φ
def Eg(W:D):(sizeOf 200).run prog W=.ok 2 W:=Φ
def bq.head(h:bq w a n k s)(i:Nat)(hi:i<=n):bq w a i k (s.take i):=by
 have d:=h.front i hi;let⟨l,m,p,f,c⟩:=h
 let⟨f1,f2,f3,f4,f5⟩:=d
 refine⟨f1,f2,O,f,?_⟩
 obtain c|⟨b,o,rfl,c⟩:=c
 omega;obtain f5|⟨q,r,e,f5⟩:=f5
 refine ψ ⟨b,o,Q,?_⟩;have:s.take i=[]:=â;rw[this];intro j v g;simp[cY]at g;grind
def Ay(h:gP s)(i:Nat)(hi:0<i)(hl:i<=s.length):gP (s.take i):=by
 have e:∀k,k<i->an (s.take i) k=an s k:=λk a=>by simp[an,List.getD,a]
 refine⟨by rw[dK];omega,λk a=>?_⟩
 rw[dK]at a;have:=h.2 k O;unfold mS at *;grind
def Eh(l:List Rg)(h:0<l.length):(fS (l.take 1)).length<=24:=by
 unfold fS kE;have e:(l.take 1).length=1:=by grind
 rw[e];simp only[tw,iW,qY,bS]
 have:=(eQ (an (l.take 1) 0).hi).2;have:=(eQ (((1:Nat):Int)-1)).2;have:=(eQ ((an (l.take 1) 0).hi-(an (l.take 1) 0).lo)).2;omega
def kO(l:List Rg)(a:Int):Nat->Nat
 |0=>0
 |m+1=>if a<1+((fS (l.take (m+1))).length:Int)then kO l a m else m+1
def ME(w:D)(a:Option Addr)(n p:Nat)(l:List Rg)(hs:bq w a n p l)(r:gP l)(F:n<=1000)(b:Int)(H:40<=b/\b<=1000):
 Calls prog 202 #[Y a n p,I X b] w λe d=>(∃m:Nat,e=ξ (I X m)/\m=kO l b n/\1<=m/\m<=n/\1+((fS (l.take m)).length:Int)<=b)/\G w d N:=by
 obtain⟨R,h⟩:∃R:Ending->Prop,R=λe=>∃m:Nat,e=ξ (I X m)/\m=kO l b n/\1<=m/\m<=n/\1+((fS (l.take m)).length:Int)<=b:=⟨_,Q⟩
 have x:(λ(e:Ending)(d:D)=>(∃m:Nat,e=ξ (I X m)/\m=kO l b n/\1<=m/\m<=n/\1+((fS (l.take m)).length:Int)<=b)/\G w d N)=λe d=>R e/\G w d N:=by rw[h]
 rw[x];have f:=hs.2.1;have K:=hs.2.2.1;have M:=r.1;have y:=hs.2.2.2.1;unfold maxLen at y;replace⟨f,h⟩:=aT f h;go_enter func202,ntmps202;go_wp2;go_loopw [5] (λk wr=>∃m:Nat,1<=m/\m<=n/\k=I X m/\kO l b m=kO l b n/\G w wr N) (λk _=>(intOf k).toNat);case atStart=>exact⟨n,by have:=Z f;omega,aP _,Q,Q,au _ _⟩
 case round=>
  obtain⟨m,s,t,rfl,i,g⟩:=hrel;replace i:=J i;have z:=hs.head m t;have u:=J (Da w wr _ _ 0 [] a m _ _ (aS.nil _ _) g g.size z (Ay r m s (by have:=Z f;omega)) (aP _) (by rw[dK];simp;omega));simp only[eJ,mg]at u;obtain⟨L,c⟩:=í ((fS (l.take m)).length);have A:Hid (m=1->L<=24):=J (λe=>by rw[c,e];exact Eh l (by have:=Z f;omega));have P:L<=1000000:=by
   rw[c];unfold fS kE;have:=xm (l.take m) ((l.take m).length-1);have:=(eQ (an (l.take m) 0).hi).2;have:=(eQ (((l.take m).length:Int)-1)).2;have:=(eQ ((an (l.take m) 0).hi-(an (l.take m) 0).lo)).2;simp only[bS]
   rw[dK]at *;omega
  replace c:=J c;go_wp2_with (first|(go_at_call 238;apply(Z u).mono;rintro e B⟨S,n2,c2,rfl,j⟩;have v:G wr B N:=j.gb;obtain rfl:n2=L:=(j.eV.2.1).trans (Z c).symm;replace j:=J j));have T:m≠1:=λe=>by have:=Z A e;omega
  have C:kO l b (m-1)=kO l b n:=by
   rw[<-Z i];obtain⟨q,rfl⟩:∃q,m=q+1:=⟨m-1,O⟩
   show kO l b q=if b<1+((fS (l.take (q+1))).length:Int)then kO l b q else q+1
   rw[<-Z c,è]
  exact⟨⟨_,O,O,by congr 1;omega,C,aq g v⟩,by simp[intOf];omega⟩
  go_ret;refine⟨?_,aq g v⟩
  rw[Z h];refine⟨m,Q,?_,s,t,by rw[<-Z c];omega⟩
  rw[<-Z i];obtain⟨q,rfl⟩:∃q,m=q+1:=⟨m-1,O⟩
  show q+1=if b<1+((fS (l.take (q+1))).length:Int)then kO l b q else q+1
  rw[<-Z c,ê]
def Ns(w:D)(b:Nat)(sl:υ)(st:Nat)(r:Option (List Rg×Nat))(e:Ending)(a:D):Prop:=
 G w a (E b)/\((∃rs q c d f,r=E (rs,q)/\e=ξ (Y c d f)/\bq a c d f rs/\(∀x,c=E x->w.heap.size<=x.block)/\dh a b sl q st)\/(r=N/\e=PN/\∃g,dh a b sl g st))
def dh.gb{w:D}{r:Option Nat}(h:dh w n x k i)(g:G w W r)(a:r≠E n:=by simp):dh W n x k i:=
 (g.block n (aV.1 h).1 (λe=>a e.symm)).trans h
def dh.lt(h:dh w n x k i):n<w.heap.size:=(aV.1 h).1
def Nt(a t o n B:Nat)(l:List Int)(p st:Nat)(w:D)(hX:dh w a (Y (E ⟨t,o,N⟩) n B) p st)(aa:bD w (E ⟨t,o,N⟩) n B l)(bt:t≠a)(hp:p<=l.length)(hl:l.length<=100000000):
 Calls prog 271 #[π (E ⟨a,0,N⟩)] w (Ns w a (Y (E ⟨t,o,N⟩) n B) st (eW l p)):=by
 have H:=aa.1;have b6:=hX.lt;have bA:∀W,G w W (E a)->bD W (E ⟨t,o,N⟩) n B l:=λW g=>aa.gb g (λj e=>ψ (ψ (λx hx=>by cases hx;cases e;exact bt)))
 have K:=J (λW q g hx hq=>vF a t o n B l q st W hx (bA W g) bt hq hl);go_enter func271,ntmps271;go_wp2_with fail;apply(Z K w p (au _ _) hX hp).mono;rintro e w1⟨g1,⟨hi,q1,f,rfl,a4⟩|⟨f,rfl,a4⟩⟩;rotate_left
 exact⟨Q,g1,ψ ⟨by unfold eW;rw[f];rfl,Q,a4⟩⟩
 let⟨⟨a0,a1⟩,a2,a3⟩:=ig H f
 replace f:=J f;go_wp2_with fail;apply(Z K w1 q1 g1 a4 a3).mono;rintro e w2⟨C,⟨more,q2,r,rfl,a8⟩|⟨r,rfl,a8⟩⟩;rotate_left
 exact⟨Q,aq g1 C,ψ ⟨by unfold eW;rw[Z f];simp[r],Q,a8⟩⟩
 let⟨⟨b0,b1⟩,b2,b3⟩:=ig H r
 replace r:=J r;replace C:=aq g1 C;go_wp2_with fail;apply(Z K w2 q2 C a8 b3).mono;rintro e L⟨u,⟨sz,q3,z,rfl,ao⟩|⟨z,rfl,ao⟩⟩;rotate_left
 exact⟨Q,aq C u,ψ ⟨by unfold eW;rw[Z f];simp[Z r,z],Q,ao⟩⟩
 let⟨⟨c0,c1⟩,c2,c3⟩:=ig H z
 replace z:=J z;replace u:=aq C u;go_wp2_with fail;apply(Aa a hi sz L ⟨O,O⟩ ⟨O,O⟩).mono;rintro e P⟨rfl,⟨bM,rfl⟩|⟨b8,rfl⟩⟩;rotate_left
 exact⟨Q,u,ψ ⟨by unfold eW;rw[Z f];simp[Z r,Z z];omega,Q,q3,ao⟩⟩
 obtain⟨L,rfl⟩:=í P;obtain⟨M,R⟩:∃M:Nat,(M:Int)=more:=⟨more.toNat,O⟩
 have a9:eW l p=iF l M q3 (hi-sz) [⟨hi-sz,hi⟩]:=by
  unfold eW;rw[Z f];simp only[dX,Z r,Z z,bM,fw]
  rw[<-R,mf]
 have hO:=Dv L ⟨hi-sz,hi⟩ ⟨⟨Ψ,Ψ⟩,Ψ,Ψ⟩ w.heap.size u.size;have ca:=u.size;rw[<-R];replace⟨R,a9,hO⟩:=cA R a9 hO;go_wp2;go_loopw [5,6,21] (λlv v cv wr=>∃(j q:Nat)(lo:Int)(s:List Rg)(S:Option Addr)(T V:Nat),j<=M/\cv=I U j/\lv=I U lo/\v=Y S T V/\fJ wr w.heap.size v s/\dh wr a (Y (E ⟨t,o,N⟩) n B) q st/\G w wr (E a)/\s.length<=q/\q<=l.length/\0<=lo/\lo<=4611686018427387903/\eW l p=iF l (M-j) q lo s) (λ_ _ cv _=>M-(intOf cv).toNat);case atStart=>exact⟨0,q3,hi-sz,_,_,_,_,O,Q,Q,Q,Z hO,Z (J (ao.gb (aC L (ο #[I U (hi-sz),I U hi] 200) N) Γ)),Z (J (cO u (aC L (ο #[I U (hi-sz),I U hi] 200) N) (nofun))),Ψ,c3,O,O,Z a9⟩
 case round=>
  obtain⟨j,q,lo,s,S,T,V,hj,rfl,rfl,rfl,ai,bw,b,cc,hq,cf,ch,h⟩:=hrel;by_cases cm:j<M
  .obtain⟨m,hm⟩:∃m,M-j=m+1:=⟨M-j-1,O⟩
   rw[hm]at h;have b4:m=M-(j+1):=O;replace⟨h,hm,ai⟩:=cA h hm ai;have cp:(M:Int)<=4611686018427387903:=by have:=Z R;omega
   go_wp2_with fail;apply(Z K wr q b bw hq).mono;rintro e w4⟨g4,⟨hb,q4,i,rfl,ax⟩|⟨i,rfl,ax⟩⟩;rotate_left
   exact⟨Q,aq b g4,ψ ⟨by rw[Z h];simp[iF,i],Q,ax⟩⟩
   let⟨⟨d0,d1⟩,d2,d3⟩:=ig H i
   replace i:=J i;replace b:=aq b g4;have bx:=J ((Z ai).gb g4 (by
    by_cases hv:(Y S T V).ownBlock=N;exact φ hv
    .exact ψ (λe=>by have:=((Z ai).lt a e).1;omega)))
   have ct:U.wrap (hb+2)=hb+2:=by rw[cZ];omega
   go_wp2_with fail;apply(Aa a lo (hb+2) w4 ⟨O,O⟩ ⟨O,O⟩).mono;rintro e P⟨rfl,⟨cw,rfl⟩|⟨cx,rfl⟩⟩;rotate_left
   refine⟨Q,b,ψ ⟨?_,Q,q4,ax⟩⟩
   rw[Z h];simp only[iF,Z i,dX]
   cases cE l q4 with
   |none=>rfl
   |some y=>simp only[dX];rw[ê]
   obtain⟨w4,rfl⟩:=í P;go_wp2_with fail;apply(Z K w4 q4 b ax d3).mono;rintro e F⟨g5,⟨size,q5,A,rfl,ak⟩|⟨A,rfl,ak⟩⟩;rotate_left
   exact⟨Q,aq b g5,ψ ⟨by rw[Z h];simp[iF,Z i,A],Q,ak⟩⟩
   let⟨⟨e0,e1⟩,e2,e3⟩:=ig H A
   replace A:=J A;replace b:=aq b g5;have b5:=J ((Z bx).gb g5 (by
    by_cases hv:(Y S T V).ownBlock=N;exact φ hv
    .exact ψ (λe=>by have:=((Z bx).lt a e).1;omega)))
   obtain⟨c,al⟩:=í (lo-(hb+2));rw[<-al];have cy:0<=c/\c<=4611686018427387903:=O;replace al:=J al;go_wp2_with fail;apply(Aa a c size F ⟨O,O⟩ ⟨O,O⟩).mono;rintro e P⟨rfl,⟨c9,rfl⟩|⟨da,rfl⟩⟩;rotate_left
   refine⟨Q,b,ψ ⟨?_,Q,q5,ak⟩⟩
   rw[Z h];simp only[iF,Z i,Z A,dX]
   rw[aE (by have:=Z al;omega)];obtain⟨F,rfl⟩:=í P;obtain⟨d,bb⟩:=í (c-size);rw[<-bb];have db:0<=d/\d<=4611686018427387903:=O;have bj:eW l p=iF l (M-(j+1)) q5 d (s++[⟨d,c⟩]):=by
    rw[Z h];simp only[iF,Z i,Z A,dX]
    have q1:=Z al;rw[è,<-b4];have z1:lo-2-hb-size=d:=O;have z2:lo-2-hb=c:=O;rw[z1,z2]
   replace⟨bb,bj⟩:=aT bb bj;have br:=J ((Z b5).ag (aC F (ο #[I U d,I U c] 200) N));have dc:=b.size;have de:=ak.lt;go_wp2_with (at_builtin;refine Dw Ξ _ _ Ξ w.heap.size _ s Ξ (Z br) F.heap.size 0 1 ⟨d,c⟩ ⟨⟨Ψ,Ψ⟩,Ψ,Ψ⟩ Ξ Γ Γ O Ψ ?_;intro a7 n7 c7 w7 o7 g7 b7);go_roundw;case rel=>
    refine⟨j+1,q5,d,s++[⟨d,c⟩],a7,n7,c7,O,Γ,Q,Q,o7,?_,?_,Ψ,e3,O,O,Z bj⟩
    exact(Z (J (ak.gb (aC F (ο #[I U d,I U c] 200) N) Γ))).gb g7 (λe=>by have:=((Z br).lt a e).1;omega);exact cO (Z (J (cO b (aC F (ο #[I U d,I U c] 200) N) (nofun)))) g7 (λk e=>φ ((Z br).lt k e).1)
   case measure=>simp[intOf];omega
  obtain rfl:j=M:=O;go_wp2;go_ret;have bz:=ai.iL;exact⟨b,φ ⟨s,q,S,T,V,by rw[h,tw];rfl,Q,bz.1,bz.2,bw⟩⟩
def Q8(w:D)(d:Nat)(sl:υ)(len:Nat)(r:Option (List Rg×Nat))(e:Ending)(b:D):Prop:=
 (G w b (E d)/\∃rs q a n c,r=E (rs,q)/\e=ξ (Y a n c)/\bq b a n c rs/\(∀x,a=E x->w.heap.size<=x.block)/\dq b d sl q θ)\/(r=N/\e=ξ (Y N 0 0)/\vY w d sl len b)
def Q9(F bb o n a8:Nat)(l:List Int)(p:Nat)(w:D)(h:pN w F bb o n a8 l p θ):
 Calls prog 136 #[π (E ⟨F,0,N⟩)] w (Q8 w F (Y (E ⟨bb,o,N⟩) n a8) l.length (eW l p)):=by
 have z:=h.b.1;have da:=h.x.lt;have hl:=h.hl;go_enter func136,ntmps136;go_wp2_with fail;apply h.num.mono;rintro e w1⟨g1,⟨hi,q1,i,rfl,a9⟩|⟨i,rfl,a9⟩⟩;rotate_left
 .have a:Hid (eW l p=N):=J (by unfold eW;rw[i];rfl);replace i:=J i;have H:=h.next g1 a9 h.hp;go_wp2_with fail;apply H.num.mono;intro e w2 K;obtain⟨⟨v2,rfl,-⟩,s,p2,cf,al⟩:=K.bad z H.hp;have P:=H.next s al cf;go_wp2_with fail;apply P.num.mono;intro e w3 K;obtain⟨⟨v3,rfl,-⟩,f,p3,bj,d⟩:=K.bad z P.hp;obtain⟨x0,x1,x2,xf⟩:=iq d;go_wp2;go_ret;exact ψ ⟨Z a,Q,aD (aq (aq g1 s) f) _ _ (ψ Q),p3,bj,d.kR ρ⟩
 obtain⟨⟨a0,a1⟩,a2,a3⟩:=ig z i;have H:=h.next g1 a9 a3;replace i:=J i;go_wp2_with fail;apply H.num.mono;rintro e w2⟨s,⟨more,q2,t,rfl,al⟩|⟨t,rfl,al⟩⟩;rotate_left
 .have a:Hid (eW l p=N):=J (by unfold eW;rw[Z i];simp[t]);replace t:=J t;have P:=H.next s al H.hp;go_wp2_with fail;apply P.num.mono;intro e w3 K;obtain⟨⟨v3,rfl,-⟩,f,p3,bj,d⟩:=K.bad z P.hp;obtain⟨x0,x1,x2,xf⟩:=iq d;go_wp2;go_ret;exact ψ ⟨Z a,Q,aD (aq (aq g1 s) f) _ _ (ψ Q),p3,bj,d.kR ρ⟩
 obtain⟨⟨b0,b1⟩,b2,b3⟩:=ig z t;have P:=H.next s al b3;replace t:=J t;replace s:=aq g1 s;go_wp2_with fail;apply P.num.mono;rintro e w3⟨f,⟨sz,q3,A,rfl,d⟩|⟨A,rfl,d⟩⟩;rotate_left
 .have a:Hid (eW l p=N):=J (by unfold eW;rw[Z i];simp[Z t,A]);replace A:=J A;obtain⟨x0,x1,x2,xf⟩:=iq d;go_wp2;go_ret;exact ψ ⟨Z a,Q,aD (aq s f) _ _ (ψ Q),q2,b3,d.kR ρ⟩
 obtain⟨⟨c0,c1⟩,c2,c3⟩:=ig z A;have h3:=P.next f d c3;replace A:=J A;replace f:=aq s f;obtain⟨x0,x1,x2,xf⟩:=iq d;by_cases b5:hi<sz
 .have a:Hid (eW l p=N):=J (by unfold eW;rw[Z i];simp[Z t,Z A];omega);have e1:decide (hi<sz)=ρ:=bU b5;go_wp2;go_ret;exact ψ ⟨Z a,Q,aD f _ _ (ψ Q),q3,c3,d.kR ρ⟩
 have e1:decide (hi<sz)=θ:=bT b5;obtain⟨M,hM⟩:∃M:Nat,(M:Int)=more:=⟨more.toNat,O⟩
 have a4:eW l p=iF l M q3 (hi-sz) [⟨hi-sz,hi⟩]:=by
  unfold eW;rw[Z i];simp only[dX,Z t,Z A,show sz<=hi by omega,fw]
  rw[<-hM,mf]
 have hO:=Dv w3 ⟨hi-sz,hi⟩ ⟨⟨Ψ,Ψ⟩,Ψ,Ψ⟩ w.heap.size f.size;have db:=f.size;have dc:=lh (p:=hi) (q:=sz) O O;have de:(M:Int)<=4611686018427387903:=O;rw[<-hM];replace⟨hM,a4,hO⟩:=cA hM a4 hO;have b6:=aC w3 (ο #[I U (hi-sz),I U hi] 200) N;have b8:=J (d.gb b6);have ca:=J (cO f b6 (nofun));go_wp2;go_loopw [5,6,7] (λ_ v cv wr=>∃(j q:Nat)(lo:Int)(c:List Rg)(a':Option Addr)(c' L:Nat),j<=M/\cv=I U j/\v=Y a' (L+1) c'/\fJ wr w.heap.size v c/\c.length=L+1/\(an c L).lo=lo/\dq wr F (Y (E ⟨bb,o,N⟩) n a8) q θ/\G w wr (E F)/\c.length<=q/\q<=l.length/\0<=lo/\lo<=4611686018427387903/\eW l p=iF l (M-j) q lo c) (λ_ _ cv _=>M-(intOf cv).toNat);case atStart=>exact⟨0,q3,hi-sz,_,_,_,0,O,Q,Q,Z hO,Q,Q,Z b8,Z ca,Ψ,c3,O,O,Z a4⟩
 case round=>
  obtain⟨j,q,lo,c,a',c',L,hj,rfl,rfl,B,hL,br,bt,gj,dg,K,dk,dm,R⟩:=hrel;clear hO b8 ca a4 x0 x1 x2 xf e1;obtain⟨x0,x1,x2,xf⟩:=iq bt;by_cases dn:j<M
  .obtain⟨m,hm⟩:∃m,M-j=m+1:=⟨M-j-1,O⟩
   rw[hm]at R;have bw:m=M-(j+1):=O;have bx:=h.next gj bt K;replace⟨R,hm,bw⟩:=cA R hm bw;obtain⟨bR,oR,rfl⟩:∃b o,a'=E ⟨b,o,N⟩:=by
    obtain⟨-,-,-,-,hc|⟨b,o,rfl,-⟩⟩:=B.iL.1;have:=B.iL.1.2.2.1;omega;exact⟨b,o,Q⟩
   have du:=B.iL.1.2.2.1;have ch:=B.iL.1.2.2.2.1;unfold maxLen at ch;have ao:∀W,fJ W w.heap.size (Y (E ⟨bR,oR,N⟩) (L+1) c') c->κ W ⟨bR,oR+L*2,N⟩=E (I U lo):=λW hW=>by
    have:=(hW.iL.1.cell L O).1;rwa[br]at this
   have S:∀W W',fJ W w.heap.size (Y (E ⟨bR,oR,N⟩) (L+1) c') c->G W W' (E F)->fJ W' w.heap.size (Y (E ⟨bR,oR,N⟩) (L+1) c') c:=λW W' hW g=>hW.gb g (ψ (λe=>by have:=(hW.lt F e).1;omega))
   have i1:(0:Int)<=L:=O;have i2:(L:Int)<L+1:=O;replace⟨B,ao,S,br,hL⟩:=gT B ao S br hL;go_wp2_with fail;apply bx.num.mono;rintro e w4⟨T,⟨hb,q4,u,rfl,bz⟩|⟨u,rfl,bz⟩⟩;rotate_left
   .have a:Hid (eW l p=N):=J (by rw[Z R];simp[iF,u]);replace u:=J u;have h4:=bx.next T bz K;have ai:=Z S _ _ (Z B) T;replace ai:=J ai;go_wp2_with fail;apply h4.num.mono;intro e w5 cm;obtain⟨⟨v5,rfl,-⟩,V,p5,cp,r⟩:=cm.bad z h4.hp;have y5:=Z ao _ (Z S _ _ (Z ai) V);obtain⟨z0,z1,z2,zf⟩:=iq r;go_wp2;go_ret;exact ψ ⟨Z a,Q,aD (aq (aq gj T) V) _ _ (ψ Q),p5,cp,r.kR ρ⟩
   obtain⟨⟨d0,d1⟩,d2,d3⟩:=ig z u;have h4:=bx.next T bz d3;have ai:=J (Z S _ _ (Z B) T);replace u:=J u;go_wp2_with fail;apply h4.num.mono;rintro e w5⟨V,⟨size,q5,C,rfl,r⟩|⟨C,rfl,r⟩⟩;rotate_left
   .have a:Hid (eW l p=N):=J (by rw[Z R];simp[iF,Z u,C]);replace C:=J C;have y5:=Z ao _ (Z S _ _ (Z ai) V);obtain⟨z0,z1,z2,zf⟩:=iq r;go_wp2;go_ret;exact ψ ⟨Z a,Q,aD (aq (aq gj T) V) _ _ (ψ Q),q4,d3,r.kR ρ⟩
   obtain⟨⟨e0,e1⟩,e2,e3⟩:=ig z C;have ak:=Z S _ _ (Z ai) V;have y5:=Z ao _ ak;obtain⟨z0,z1,z2,zf⟩:=iq r;have ax:=aq (aq gj T) V;replace C:=J C;by_cases ct:lo<2\/lo-2<hb\/lo-2-hb<size
   .have a:Hid (eW l p=N):=J (by
     rw[Z R];simp only[iF,Z u,Z C,dX]
     rw[ê])
    replace ak:=J ak;by_cases k1:lo<2
    .go_wp2_with fail;go_ret;exact ψ ⟨Z a,Q,aD ax _ _ (ψ Q),q5,e3,r.kR ρ⟩
    have cw:=lh (p:=lo) (q:=2) O O;by_cases k2:lo-2<hb
    .go_wp2_with fail;go_ret;exact ψ ⟨Z a,Q,aD ax _ _ (ψ Q),q5,e3,r.kR ρ⟩
    have cx:=lh (p:=lo-2) (q:=hb) O O;have k3:lo-2-hb<size:=O;go_wp2;go_ret;exact ψ ⟨Z a,Q,aD ax _ _ (ψ Q),q5,e3,r.kR ρ⟩
   have k1:¬lo<2:=O;have k2:¬lo-2<hb:=O;have k3:¬lo-2-hb<size:=O;have cw:=lh (p:=lo) (q:=2) O O;have cx:=lh (p:=lo-2) (q:=hb) O O;have dv:=lh (p:=lo-2-hb) (q:=size) O O;clear ct;have bA:eW l p=iF l (M-(j+1)) q5 (lo-2-hb-size) (c++[⟨lo-2-hb-size,lo-2-hb⟩]):=by
    rw[Z R];simp only[iF,Z u,Z C,dX]
    rw[è,<-Z bw]
   replace bA:=J bA;have bM:=aC w5 (ο #[I U (lo-2-hb-size),I U (lo-2-hb)] 200) N;have b4:=J (ak.ag bM);have cy:=J (r.gb bM);have g6:=J (cO ax bM (nofun));have dx:=ax.size;replace ak:=J ak;go_wp2_with (at_builtin;refine Dw Ξ _ _ Ξ w.heap.size _ c Ξ (Z b4) w5.heap.size 0 1 ⟨lo-2-hb-size,lo-2-hb⟩ ⟨⟨Ψ,Ψ⟩,Ψ,Ψ⟩ Ξ Γ Γ O Ψ ?_;intro a7 n7 c7 w7 o7 g7 b7);go_roundw;case rel=>
    have c9:n7=L+1+1:=by
     have:=o7.iL.1.2.1;have h9:=Z hL;simp at this;omega
    refine⟨j+1,q5,lo-2-hb-size,c++[⟨lo-2-hb-size,lo-2-hb⟩],a7,c7,L+1,O,Γ,by rw[c9],o7,by have:=Z hL;simp;omega,?_,?_,?_,Ψ,e3,O,O,Z bA⟩
    unfold an;rw[List.getD,pQ (by have:=Z hL;omega)];have:=Z hL;simp[show L+1-c.length=0 by omega];exact(Z cy).gb g7 (λe=>by have:=((Z b4).lt F e).1;omega);exact cO (Z g6) g7 (λk e=>φ ((Z b4).lt k e).1)
   case measure=>simp[intOf];omega
  obtain rfl:j=M:=O;go_wp2;go_ret;have cc:=B.iL;exact φ ⟨gj,c,q,a',_,c',by rw[R,tw];rfl,Q,cc.1,cc.2,bt⟩
def mJ(h:cL w k x W (Y a i j) L)(f:cR p)(g:k<=w.heap.size)(hl:L.length<=90000000):
 Calls prog 141 #[Y a i j,I U p] W λe l=>∃b c d,e=ξ (Y b c d)/\cL w k x l (Y b c d) (L++aN p):=by
 have e1:i=L.length:=h.own.eV.2.1;subst e1;apply(Ru k a j L p W h.own f (bG g h.size) hl).mono;rintro e q⟨m,c2,rfl,n⟩;exact⟨m,_,c2,Q,h.trans n⟩
def cL.dR{ob:Obj}(h:cL (w.alloc ob) n x W y K)(a:aS w n x L):W.heap[w.heap.size]?=E ob:=
 (h.apart (B:=w.heap.size) Γ (λe=>by have:=(a.lt _ e).2;omega)).1.trans (aM _ _)
def Rv(f:Fr)(rv:υ)(w:D)(cv:cD w f rv)(hs:cT f)(F:Nat)(a:Option Addr)(c:Nat)(l:List Int)(ho:aS w F (Y a l.length c) l)(cw:F<=w.heap.size)(hl:l.length+kX f<=70000000)(w0:D)(bj:cD w0 f rv)(g0:G w0 w N)(b5:w0.heap.size<=F):
 Calls prog 108 #[Y a l.length c,ε (bC f rv)] w λe L=>∃a' n' c',e=ξ (Y a' n' c')/\cL w F (Y a l.length c) L (Y a' n' c') (l++cH f):=by
 obtain⟨⟨⟨k0,k1⟩,⟨s0,s1⟩,⟨o0,o1⟩,⟨c0,c1⟩,hr⟩,cx,ra,S,rfl,ai⟩:=bj;obtain⟨⟨p1,p2,p3,p4⟩,⟨p5,p6⟩,p7,p8⟩:=hs;obtain⟨k,s,o,cd,fin,d,rg⟩:=f;simp only[bC,kX]at *;have G0:=λ(ob:Obj)=>cL.refl (ho.ag (aC w ob N))
 have GE:=λ(ob:Obj)(W:D)(v':υ)(m:List Int)(a9:cL (w.alloc ob) F (Y a l.length c) W v' m)=>((cL.refl ho).still (aC w ob N)).trans a9
 have bz:=λ(ob:Obj)(x:Int)(hx:W8 x)=>(by have:=ph (w.alloc ob) x hx;rwa[dJ]at this:bD ((w.alloc ob).alloc (ο #[I Δ x] 5)) (E ⟨w.heap.size+1,0,N⟩) 1 1 [x])
 have O1:=λ(ob:Obj)(x:Int)=>((G0 ob).still (aC (w.alloc ob) (ο #[I Δ x] 5) N)).own
 have z:=λ(ob:Obj)(W:D)(v':υ)(m:List Int)(a9:cL (w.alloc ob) F (Y a l.length c) W v' m)=>a9.dR ho
 have al:=λ(ob:Obj)(W:D)(v':υ)(m:List Int)(a9:cL (w.alloc ob) F (Y a l.length c) W v' m)=>a9.jc (aW g0 ob) (ho.ag (aC w ob N)) b5
 have H:∀ob,F<=(w.alloc ob).heap.size:=λob=>by simp;omega
 replace⟨G0,GE,bz,O1,z,al,H⟩:=mX G0 GE bz O1 z al H;have b6:k=1\/k=2\/k=3\/k=4\/k=5\/k=6:=O;obtain rfl|rfl|rfl|rfl|rfl|rfl:=b6
 .have p:cH ⟨1,s,o,cd,fin,d,rg⟩=[0]:=by simp[cH]
  rw[p];replace p:=J p;go_enter func108,ntmps108;go_wp2_with (at_builtin;refine jt Ξ _ _ Ξ F _ l Ξ (Z O1 _ _) _ _ _ [0] Ξ (Z bz _ _ (by simp[W8])) ?_ ?_ ?_;(simp;omega);(simp;omega);intro a1 c1 w1 r t M;have h:=(Z G0 _).app (aC _ _ _) r t M;have u:=Z z _ _ _ _ h;obtain⟨d0,d1,d2,d3,d4,d5,d6⟩:=bQ u;replace h:=J h;replace r:=J r;replace t:=J t;replace u:=J u);go_ret;exact⟨a1,_,c1,Q,Z GE _ _ _ _ (Z h)⟩
 .have p:cH ⟨2,s,o,cd,fin,d,rg⟩=[1]:=by simp[cH]
  rw[p];replace p:=J p;go_enter func108,ntmps108;go_wp2_with (at_builtin;refine jt Ξ _ _ Ξ F _ l Ξ (Z O1 _ _) _ _ _ [1] Ξ (Z bz _ _ (by simp[W8])) ?_ ?_ ?_;(simp;omega);(simp;omega);intro a1 c1 w1 r t M;have h:=(Z G0 _).app (aC _ _ _) r t M;have u:=Z z _ _ _ _ h;obtain⟨d0,d1,d2,d3,d4,d5,d6⟩:=bQ u;replace h:=J h;replace r:=J r;replace t:=J t;replace u:=J u);go_ret;exact⟨a1,_,c1,Q,Z GE _ _ _ _ (Z h)⟩
 .have hf:gP rg:=p5 Q;have p:cH ⟨3,s,o,cd,fin,d,rg⟩=2::fS rg:=by simp[cH]
  rw[p];replace p:=J p;obtain⟨n,R⟩:=í rg.length;rw[<-R]at ai hl;have bb:=hf.1;have cy:=ai.2.2.1;have b7:=ai.2.2.2.1;unfold maxLen at b7;obtain⟨-,-,-,-,⟨rfl,h0⟩|⟨b,q,rfl,-⟩⟩:=id ai;omega;have hz:∀W,G w0 W N->κ W ⟨b,q,N⟩=E (I U (an rg 0).lo)/\κ W ⟨b,q+1,N⟩=E (I U (an rg 0).hi):=λW g=>by
   have:=(ai.ag g).cell 0 bb;rwa[nz,nA]at this
  have bj:=ox ai.1 hf 0 bb;have b8:=(hf.2 0 bb).1;obtain⟨ax,br⟩:=í ((an rg 0).lo);obtain⟨ak,bt⟩:=í ((an rg 0).hi);have bw:kE rg=aN ak++aN ((n:Int)-1)++aN (ak-ax):=by rw[br,bt,R];rfl
  simp only[<-br,<-bt]at hz bj b8;obtain⟨⟨v1,v2⟩,v3,v4⟩:=bj;have c9:=lh (p:=ak) (q:=ax) O O;have da:U.wrap ((n:Int)-1)=(n:Int)-1:=lh O O;have i0:(0:Int)<n:=O;have db:0<n:=O;have x1:=eQ ak;have x2:=eQ ((n:Int)-1);have x3:=eQ (ak-ax);rw[<-R];replace⟨br,bt,bw,hz,bb,R⟩:=mY br bt bw hz bb R;go_enter func108,ntmps108;go_wp2_with (first|(at_builtin;refine jt Ξ _ _ Ξ F _ l Ξ (Z O1 _ _) _ _ _ [2] Ξ (Z bz _ _ (by simp[W8])) ?_ ?_ ?_;(simp;omega);(simp;omega);intro a1 c1 w1 r t M;have h:=(Z G0 _).app (aC _ _ _) r t M;have u:=Z z _ _ _ _ h;obtain⟨d0,d1,d2,d3,d4,d5,d6⟩:=bQ u;obtain⟨z1,z2⟩:=Z hz w1 (Z al _ _ _ _ h);replace h:=J h;replace r:=J r;replace t:=J t;replace u:=J u));refine(mJ (Z h) (p:=ak) ⟨O,O⟩ (Z H _) (by simp only[bS,dY,eJ];omega)).mono ?_;rintro e w2⟨a2,n2,c2,rfl,A⟩;have K:=Z z _ _ _ _ A;obtain⟨d0,d1,d2,d3,d4,d5,d6⟩:=bQ K;replace⟨A,K⟩:=aT A K;go_wp2_with fail;refine(mJ (Z A) (p:=(n:Int)-1) ⟨O,O⟩ (Z H _) (by simp only[bS,dY,eJ];omega)).mono ?_;rintro e w3⟨a3,n3,c3,rfl,C⟩;have ca:w3.drew.cell? ⟨w.heap.size,6,N⟩=E (Y (E ⟨b,q,N⟩) n S)/\w3.drew.cell? ⟨b,q,N⟩=E (I U ax)/\w3.drew.cell? ⟨b,q+1,N⟩=E (I U ak):=⟨(bQ (Z z _ _ _ _ C)).2.2.2.2.2.2,Z hz w3 (Z al _ _ _ _ C)⟩
  replace C:=J C;go_wp2_with fail;go_region_held3 (λL=>κ L ⟨w.heap.size,6,N⟩=E (Y (E ⟨b,q,N⟩) n S)/\κ L ⟨b,q,N⟩=E (I U ax)/\κ L ⟨b,q+1,N⟩=E (I U ak)) (with_reducible first|exact cc|exact ca)
   (first|(go_at_call 141;refine(mJ ((Z C).still (aK (au _ _))) (p:=ak-ax) ⟨O,O⟩ (Z H _) (by simp only[bS,dY,eJ];omega)).mono ?_;rintro e w4⟨a4,n4,c4,rfl,B⟩;have cc:κ w4 ⟨w.heap.size,6,N⟩=E (Y (E ⟨b,q,N⟩) n S)/\κ w4 ⟨b,q,N⟩=E (I U ax)/\κ w4 ⟨b,q+1,N⟩=E (I U ak):=⟨(bQ (Z z _ _ _ _ B)).2.2.2.2.2.2,Z hz w4 (Z al _ _ _ _ B)⟩;replace B:=J B))
  go_wp2_with fail;obtain⟨ob,bx⟩:∃ob:Obj,ob=ο #[I X 3,I X s,I U o,I U cd,β fin,ς d,Y (E ⟨b,q,N⟩) n S] 158:=⟨_,Q⟩
  have cf:Hid (cL (w.alloc ob) F (Y a l.length c) w4 (Y a4 n4 c4) (l++[2]++kE rg)):=J (by rw[bx,Z bw];simpa [eF]using Z B);have bM:Hid (∀W:D,W.heap[w.heap.size]?=E ob->κ W ⟨w.heap.size,6,N⟩=E (Y (E ⟨b,q,N⟩) n S)):=J (λW p=>by rw[bx]at p;exact(bQ p).2.2.2.2.2.2);replace bx:=J bx;go_loopw [0,5] (λv i wr=>∃(j:Nat)(a':Option Addr)(n' c':Nat),j+1<=n/\i=I X ((j:Int)+1)/\v=Y a' n' c'/\cL (w.alloc ob) F (Y a l.length c) wr v (l++[2]++kE rg++iW rg j)) (λ_ i _=>n-(intOf i).toNat);case atStart=>exact⟨0,a4,n4,c4,O,Q,Q,by simpa [iW]using Z cf⟩
  case round=>
   obtain⟨j,a',n',c',hj,rfl,rfl,Gj⟩:=hrel;have gj:=Z al _ _ _ _ Gj;have y6:=Z bM _ (Z z _ _ _ _ Gj);by_cases dc:j+1<n
   .obtain⟨f1,-⟩:=ox ai.1 hf j (by have:=Z R;omega);obtain⟨f2,f3⟩:=ox ai.1 hf (j+1) (by have:=Z R;omega);have f4:=hf.2 (j+1) (by have:=Z R;omega);unfold mS at f4;rw[oZ]at f4;replace f4:=f4.2.2 O;have f5:=(hf.2 (j+1) (by have:=Z R;omega)).1;have a0:=λW(g:G w0 W N)=>And.intro ((ai.ag g).cell j (by have:=Z R;omega)).1 ((ai.ag g).cell (j+1) (by have:=Z R;omega))
    have b3:iW rg (j+1)=iW rg j++(aN ((an rg j).lo-(an rg (j+1)).hi-2)++aN ((an rg (j+1)).hi-(an rg (j+1)).lo)):=rfl;generalize (an rg j).lo=x at *;generalize (an rg (j+1)).lo=ao at *;generalize (an rg (j+1)).hi=P at *;obtain⟨f10,f11⟩:=f1;obtain⟨f20,f21⟩:=f2;obtain⟨f22,f23⟩:=f3;have de:=lh (p:=x) (q:=P) O O;have dg:=lh (p:=x-P) (q:=2) O O;have dk:=lh (p:=P) (q:=ao) O O;have dm:X.wrap (j:Int)=(j:Int):=by simp[IntKind.wrap,IntKind.bits,IntKind.signed];omega
    have i1:(0:Int)<=j:=O;have i2:(j:Int)<n:=O;have i3:(0:Int)<=j+1:=O;have i4:(j:Int)+1<(n:Int):=O;have x4:=eQ (x-P-2);have x5:=eQ (P-ao);have bA:(l++[2]++kE rg++iW rg j).length<=85000000:=by
     have q1:=xm rg j;rw[Z bw];simp only[bS,dY,eJ];omega
    have ch:wr.drew.cell? ⟨w.heap.size,6,N⟩=E (Y (E ⟨b,q,N⟩) n S)/\wr.drew.cell? ⟨b,q+j*2,N⟩=E (I U x)/\wr.drew.cell? ⟨b,q+(j+1)*2,N⟩=E (I U ao)/\wr.drew.cell? ⟨b,q+(j+1)*2+1,N⟩=E (I U P):=⟨y6,(a0 wr gj).1,(a0 wr gj).2⟩
    replace⟨a0,b3,bA,Gj⟩:=fB a0 b3 bA Gj;go_wp2_with fail;go_region_held3 (λL=>κ L ⟨w.heap.size,6,N⟩=E (Y (E ⟨b,q,N⟩) n S)/\κ L ⟨b,q+j*2,N⟩=E (I U x)/\κ L ⟨b,q+(j+1)*2,N⟩=E (I U ao)/\κ L ⟨b,q+(j+1)*2+1,N⟩=E (I U P)) (with_reducible first|exact b4|exact ch)
     (first|(go_at_call 141;refine(mJ ((Z Gj).still (aK (au _ _))) (p:=x-P-2) ⟨O,O⟩ (Z H _) (by have:=Z bA;omega)).mono ?_;rintro e w6⟨a6,n6,c6,rfl,G6⟩;have b4:κ w6 ⟨w.heap.size,6,N⟩=E (Y (E ⟨b,q,N⟩) n S)/\κ w6 ⟨b,q+j*2,N⟩=E (I U x)/\κ w6 ⟨b,q+(j+1)*2,N⟩=E (I U ao)/\κ w6 ⟨b,q+(j+1)*2+1,N⟩=E (I U P):=⟨Z bM _ (Z z _ _ _ _ G6),(Z a0 w6 (Z al _ _ _ _ G6)).1,(Z a0 w6 (Z al _ _ _ _ G6)).2⟩;replace G6:=J G6))
    have cm:w6.drew.cell? ⟨w.heap.size,6,N⟩=E (Y (E ⟨b,q,N⟩) n S)/\w6.drew.cell? ⟨b,q+(j+1)*2,N⟩=E (I U ao)/\w6.drew.cell? ⟨b,q+(j+1)*2+1,N⟩=E (I U P):=⟨b4.1,b4.2.2⟩
    go_wp2_with fail;go_region_held3 (λL=>κ L ⟨w.heap.size,6,N⟩=E (Y (E ⟨b,q,N⟩) n S)/\κ L ⟨b,q+(j+1)*2,N⟩=E (I U ao)/\κ L ⟨b,q+(j+1)*2+1,N⟩=E (I U P)) (with_reducible first|exact cp|exact cm)
     (first|(go_at_call 141;refine(mJ ((Z G6).still (aK (au _ _))) (p:=P-ao) ⟨O,O⟩ (Z H _) (by have:=Z bA;rw[bS];omega)).mono ?_;rintro e w8⟨a8,n8,c8,rfl,G8⟩;have cp:κ w8 ⟨w.heap.size,6,N⟩=E (Y (E ⟨b,q,N⟩) n S)/\κ w8 ⟨b,q+(j+1)*2,N⟩=E (I U ao)/\κ w8 ⟨b,q+(j+1)*2+1,N⟩=E (I U P):=⟨Z bM _ (Z z _ _ _ _ G8),(Z a0 w8 (Z al _ _ _ _ G8)).2⟩;replace G8:=J G8))
    go_wp2_with fail;refine⟨⟨j+1,a8,n8,c8,O,Γ,Q,?_⟩,by simp[intOf];omega⟩
    rw[Z b3,<-eF,<-eF];exact Z G8
   go_wp2_with fail;go_ret;refine⟨a',n',c',Q,?_⟩
   have:=Z GE _ _ _ _ Gj;have e:j=rg.length-1:=by have:=Z R;omega
   rw[e]at this;simpa [fS,eF]using this
 .have p:cH ⟨4,s,o,cd,fin,d,rg⟩=4::(aN s++aN cd++aN o):=by simp[cH]
  rw[p];replace p:=J p;have ct:U.wrap s=s:=by rw[cZ];omega
  have v1:=eQ s;have v2:=eQ cd;have v3:=eQ o;go_enter func108,ntmps108;go_wp2_with (at_builtin;refine jt Ξ _ _ Ξ F _ l Ξ (Z O1 _ _) _ _ _ [4] Ξ (Z bz _ _ (by simp[W8])) ?_ ?_ ?_;(simp;omega);(simp;omega);intro a1 c1 w1 r t M;have h:=(Z G0 _).app (aC _ _ _) r t M;have u:=Z z _ _ _ _ h;obtain⟨d0,d1,d2,d3,d4,d5,d6⟩:=bQ u;replace h:=J h;replace r:=J r;replace t:=J t;replace u:=J u);refine(mJ (Z h) (p:=s) ⟨O,O⟩ (Z H _) (by simp only[bS,dY,eJ];omega)).mono ?_;rintro e w2⟨a2,n2,c2,rfl,A⟩;have K:=Z z _ _ _ _ A;obtain⟨d0,d1,d2,d3,d4,d5,d6⟩:=bQ K;replace⟨A,K⟩:=aT A K;go_wp2_with fail;refine(mJ (Z A) (p:=cd) ⟨O,O⟩ (Z H _) (by simp only[bS,dY,eJ];omega)).mono ?_;rintro e w3⟨a3,n3,c3,rfl,C⟩;have T:=Z z _ _ _ _ C;obtain⟨d0,d1,d2,d3,d4,d5,d6⟩:=bQ T;replace⟨C,T⟩:=aT C T;go_wp2_with fail;refine(mJ (Z C) (p:=o) ⟨O,O⟩ (Z H _) (by simp only[bS,dY,eJ];omega)).mono ?_;rintro e w4⟨a4,n4,c4,rfl,B⟩;have V:=Z z _ _ _ _ B;obtain⟨d0,d1,d2,d3,d4,d5,d6⟩:=bQ V;replace⟨B,V⟩:=aT B V;go_wp2;go_ret;exact⟨a4,n4,c4,Q,by have:=Z GE _ _ _ _ (Z B);simpa [eF]using this⟩
 .have ct:U.wrap s=s:=by rw[cZ];omega
  have dn:U.wrap (d.size:Int)=(d.size:Int):=by rw[cZ];omega
  have v1:=eQ s;have v2:=eQ o;have v3:=eQ (d.size:Int);cases fin
  .have p:cH ⟨5,s,o,cd,θ,d,rg⟩=8::(aN s++aN o++aN d.size++bl d):=by simp[cH]
   rw[p];replace p:=J p;go_enter func108,ntmps108;go_wp2_with (at_builtin;refine jt Ξ _ _ Ξ F _ l Ξ (Z O1 _ _) _ _ _ [8] Ξ (Z bz _ _ (by simp[W8])) ?_ ?_ ?_;(simp;omega);(simp;omega);intro a1 c1 w1 r t M;have h:=(Z G0 _).app (aC _ _ _) r t M;have u:=Z z _ _ _ _ h;obtain⟨d0,d1,d2,d3,d4,d5,d6⟩:=bQ u;replace h:=J h;replace r:=J r;replace t:=J t;replace u:=J u);refine(mJ (Z h) (p:=s) ⟨O,O⟩ (Z H _) (by simp only[bS,dY,eJ];omega)).mono ?_;rintro e w2⟨a2,n2,c2,rfl,A⟩;have K:=Z z _ _ _ _ A;obtain⟨d0,d1,d2,d3,d4,d5,d6⟩:=bQ K;replace⟨A,K⟩:=aT A K;go_wp2_with fail;refine(mJ (Z A) (p:=o) ⟨O,O⟩ (Z H _) (by simp only[bS,dY,eJ];omega)).mono ?_;rintro e w3⟨a3,n3,c3,rfl,C⟩;have T:=Z z _ _ _ _ C;obtain⟨d0,d1,d2,d3,d4,d5,d6⟩:=bQ T;replace⟨C,T⟩:=aT C T;go_wp2_with fail;refine(mJ (Z C) (p:=(d.size:Int)) ⟨O,O⟩ (Z H _) (by simp only[bS,dY,eJ];omega)).mono ?_;rintro e w4⟨a4,n4,c4,rfl,B⟩;have V:=Z z _ _ _ _ B;obtain⟨d0,d1,d2,d3,d4,d5,d6⟩:=bQ V;replace⟨B,V⟩:=aT B V;go_wp2_with (refine Dc Ξ _ _ Ξ F _ _ Ξ (Z B).own d Ξ (by simp only[bS,dY,eJ];omega) (bG (Z H _) (Z B).size) ?_;intro a5 n5 c5 w5 o5 g5 g6);go_ret;exact⟨a5,n5,c5,Q,by have:=Z GE _ _ _ _ ((Z B).app (au _ _) o5 g5 g6);simpa [eF]using this⟩
  have p:cH ⟨5,s,o,cd,ρ,d,rg⟩=9::(aN s++aN o++aN d.size++bl d):=by simp[cH]
  rw[p];replace p:=J p;go_enter func108,ntmps108;go_wp2_with (at_builtin;refine jt Ξ _ _ Ξ F _ l Ξ (Z O1 _ _) _ _ _ [9] Ξ (Z bz _ _ (by simp[W8])) ?_ ?_ ?_;(simp;omega);(simp;omega);intro a1 c1 w1 r t M;have h:=(Z G0 _).app (aC _ _ _) r t M;have u:=Z z _ _ _ _ h;obtain⟨d0,d1,d2,d3,d4,d5,d6⟩:=bQ u;replace h:=J h;replace r:=J r;replace t:=J t;replace u:=J u);refine(mJ (Z h) (p:=s) ⟨O,O⟩ (Z H _) (by simp only[bS,dY,eJ];omega)).mono ?_;rintro e w2⟨a2,n2,c2,rfl,A⟩;have K:=Z z _ _ _ _ A;obtain⟨d0,d1,d2,d3,d4,d5,d6⟩:=bQ K;replace⟨A,K⟩:=aT A K;go_wp2_with fail;refine(mJ (Z A) (p:=o) ⟨O,O⟩ (Z H _) (by simp only[bS,dY,eJ];omega)).mono ?_;rintro e w3⟨a3,n3,c3,rfl,C⟩;have T:=Z z _ _ _ _ C;obtain⟨d0,d1,d2,d3,d4,d5,d6⟩:=bQ T;replace⟨C,T⟩:=aT C T;go_wp2_with fail;refine(mJ (Z C) (p:=(d.size:Int)) ⟨O,O⟩ (Z H _) (by simp only[bS,dY,eJ];omega)).mono ?_;rintro e w4⟨a4,n4,c4,rfl,B⟩;have V:=Z z _ _ _ _ B;obtain⟨d0,d1,d2,d3,d4,d5,d6⟩:=bQ V;replace⟨B,V⟩:=aT B V;go_wp2_with (refine Dc Ξ _ _ Ξ F _ _ Ξ (Z B).own d Ξ (by simp only[bS,dY,eJ];omega) (bG (Z H _) (Z B).size) ?_;intro a5 n5 c5 w5 o5 g5 g6);go_ret;exact⟨a5,n5,c5,Q,by have:=Z GE _ _ _ _ ((Z B).app (au _ _) o5 g5 g6);simpa [eF]using this⟩
 have p:cH ⟨6,s,o,cd,fin,d,rg⟩=28::aN cd:=by simp[cH]
 rw[p];replace p:=J p;go_enter func108,ntmps108;go_wp2_with (at_builtin;refine jt Ξ _ _ Ξ F _ l Ξ (Z O1 _ _) _ _ _ [28] Ξ (Z bz _ _ (by simp[W8])) ?_ ?_ ?_;(simp;omega);(simp;omega);intro a1 c1 w1 r t M;have h:=(Z G0 _).app (aC _ _ _) r t M;have u:=Z z _ _ _ _ h;obtain⟨d0,d1,d2,d3,d4,d5,d6⟩:=bQ u;replace h:=J h;replace r:=J r;replace t:=J t;replace u:=J u);refine(mJ (Z h) (p:=cd) ⟨O,O⟩ (Z H _) (by simp only[bS,dY,eJ];omega)).mono ?_;rintro e w2⟨a2,n2,c2,rfl,A⟩;have K:=Z z _ _ _ _ A;obtain⟨d0,d1,d2,d3,d4,d5,d6⟩:=bQ K;replace⟨A,K⟩:=aT A K;go_wp2;go_ret;exact⟨a2,n2,c2,Q,by have:=Z GE _ _ _ _ (Z A);simpa [eF]using this⟩
