import Derived.Deep.RegionLaw
import Derived.Recover
import Derived.Test.YtjnmokmchdfchaaGreatDoorZS0
set_option maxRecDepth 1000000
set_option maxHeartbeats 0
set_option linter.all false
namespace Go.Proofs.YtjnmokmchdfchaaGreatDoor
open Go.RowKit Tryz
open Go.Value renaming int→I,slice→Y,bool→β,pointer→π,agg→ε,string→ς,tuple→τ
open Go.IntKind renaming i64→X,u64→U,u8→Δ
open Go.Ending renaming returned→ξ
open Go.Obj renaming cells→ο
open Or renaming inl→φ,inr→ψ
open Option renaming some→E,none→N
open Bool renaming true→ρ,false→θ
open Go renaming World→D,Value→υ
open Go.World renaming grownBy→G,cell?→κ,frozen?→χ,setCell→ζ
attribute[local go_sem↓]Go.wp_at_zero Go.wp_at_succ
variable{A:Addr}{B:Bool}{u:Fr}{p t:Int}{K L:List Int}{s:List Rg}{b i j k l m n o:Nat}{a:Option Addr}{T:TypeId}{x y z:υ}{V W w:D}
structure cL(w:D)(c:Nat)(v:υ)(b:D)(a:υ)(m:List Int):Prop where
 own:aS b c a m
 gb:G w b v.ownBlock
 aG:a.ownBlock=v.ownBlock\/∃k,a.ownBlock=E k/\w.heap.size<=k
def cL.refl(h:aS w n x L):cL w n x w x L:=⟨h,au _ _,φ Q⟩
def cL.still(h:cL w n x W y L)(g:G W V N):cL w n x V y L:=
 ⟨h.own.ag g,cO h.gb g (nofun),h.aG⟩
def cL.trans(h:cL w n x W y L)(k:cL W n y V z K):cL w n x V z K:=
 ⟨k.own,cO h.gb k.gb (λj e=>by
  obtain aa|⟨b,a,hle⟩:=h.aG
  exact ψ aa
  .rw[a]at e;cases e;exact φ hle),by
  have hs:=h.gb.size;obtain c|⟨b,a,hle⟩:=k.aG
  rw[c];exact h.aG
  .exact ψ ⟨b,a,O⟩⟩
def cL.app{a:D}(h:cL w n x W y L)(g:G W V N)(b:aS a n z K)(c:G V a y.ownBlock)(d:z.ownBlock=y.ownBlock\/z.ownBlock=E V.heap.size):cL w n x a z K:=
 (h.still g).trans ⟨b,c,by
   obtain e|e:=d
   exact φ e
   .exact ψ ⟨_,e,aP _⟩⟩
def cL.apart(h:cL w n x W y L){B:Nat}(a:B<w.heap.size)(b:x.ownBlock≠E B):W.heap[B]?=w.heap[B]? /\y.ownBlock≠E B:=by
 refine⟨h.gb.block B a (λe=>b e.symm),λe=>?_⟩
 obtain aa|⟨k,c,hle⟩:=h.aG
 simp_all;grind
def cL.size(h:cL w n x W y L):w.heap.size<=W.heap.size:=h.gb.size
def cL.eV(h:cL w k x W (Y a n i) L):bD W a n i L:=h.own.eV
def pw(n:Int):Int:=if n<64 then 0 else if n<16384 then 1 else if n<1073741824 then 2 else 3
def BT(n:Int)(w:D):Calls prog 295 #[I U n] w λe d=>e=ξ (I X (pw n))/\d=w:=by
 unfold pw;by_cases a:n<64
 .have e1:decide (n<64)=ρ:=by simp[a]
  go_enter func295,ntmps295;go_wp2;go_ret;exact⟨Γ,Q⟩
 have e1:decide (n<64)=θ:=by simp[a]
 by_cases b:n<16384
 .have e2:decide (n<16384)=ρ:=by simp[b]
  go_enter func295,ntmps295;go_wp2;go_ret;exact⟨Γ,Q⟩
 have e2:decide (n<16384)=θ:=by simp[b]
 by_cases c:n<1073741824
 .have f:decide (n<1073741824)=ρ:=by simp[c]
  go_enter func295,ntmps295;go_wp2;go_ret;exact⟨Γ,Q⟩
 have f:decide (n<1073741824)=θ:=by simp[c]
 go_enter func295,ntmps295;go_wp2;go_ret;exact⟨Γ,Q⟩
def kH(m:Int)(k:Nat):List Int:=(List.range k).map λi=>m/2^(8*(k-1)-8*i) %256
def BU(m:Int)(k:Nat):(kH m k).length=k:=by simp[kH]
def Ic(m:Int)(k j:Nat)(h:j<k):(kH m k).take (j+1)=(kH m k).take j++[m/2^(8*(k-1)-8*j) %256]:=by
 have hl:j<(kH m k).length:=by rw[BU];exact h
 rw[oa hl];simp[kH]
def xu(n:Int)(p k:Nat)(h0:0<=n)(b:n<(2^k:Nat))(c:p*2^k+2^k<=18446744073709551616):bits .or U n ((p*2^k:Nat):Int)=n+((p*2^k:Nat):Int):=by
 obtain⟨m,rfl⟩:=qV h0;have a:m<2^k:=O;rw[u64_or_nat _ _ O O];have:=zd a p;rw[Nat.shiftLeft_eq]at this;grind
def Ie(h:p<64)(h0:0<=p):aN p=kH p 1:=by
 simp[aN,kH,h];omega
def Ig(h:¬p<64)(a:p<16384):aN p=kH (p+16384) 2:=by
 simp[aN,kH,h,a,rV];omega
def Ih(h:¬p<64)(a:¬p<16384)(b:p<1073741824):aN p=kH (p+2147483648) 4:=by
 simp[aN,kH,h,a,b,rV];omega
def Ii(h:¬p<64)(a:¬p<16384)(b:¬p<1073741824)(c:cR p):aN p=kH (p+13835058055282163712) 8:=by
 unfold cR at c;simp[aN,kH,h,a,b,rV];omega
def xw(n f:Nat)(u:Array υ)(w:D)(p:Nat->Prop)(P:n<=4611686018427387903)(l:∀i j,i<=j->j<n->p i->p j)
 (eg:∀args w,(callFunc f args).run prog w=.ok (.enter f args) w)
 (q:∀(W:D)(h:Nat),G w W N->h<n->Calls prog f (#[I X h]++u) W (λe A=>gR (p h) e/\G W A N)):
 Calls prog 248 #[I X n,.func (.func f) #[] u] w λe a=>(∃k:Nat,e=ξ (I X k)/\mT n k p)/\G w a N:=by
 obtain⟨R,v⟩:∃R:Ending->Prop,R=λe=>∃k:Nat,e=ξ (I X k)/\mT n k p:=⟨_,Q⟩
 have r:∀k:Nat,mT n k p->R (ξ (I X k)):=λk h=>by rw[v];exact⟨k,Q,h⟩
 have B:(λe a=>(∃k:Nat,e=ξ (I X k)/\mT n k p)/\G w a N)=λe a=>R e/\G w a N:=by rw[v]
 rw[B];replace⟨r,q,l⟩:=cA r q l;go_enter func248,ntmps248;go_wp2;go_loopw [5,6] (λvi s wr=>∃i j:Nat,i<=j/\j<=n/\vi=I X i/\s=I X j/\(∀m,m<i->¬p m)/\(∀m,j<=m->m<n->p m)/\G w wr N) (λvi s _=>(intOf s-intOf vi).toNat);case atStart=>exact⟨0,n,O,aP _,Q,Q,λm C=>by omega,λm c d=>by omega,au _ _⟩
 case round=>
  obtain⟨i,j,S,F,rfl,rfl,c,d,g⟩:=hrel;replace⟨c,d⟩:=aT c d;by_cases T:i<j
  .have d1:decide ((i:Int)<j)=ρ:=α;obtain⟨h,H⟩:∃h:Nat,h=(i+j)/2:=⟨_,Q⟩
   have V:((i:Int)+j)/2=(h:Int):=O;have ai:h<j:=O;clear H;go_wp2_with fail;apply(Z q wr h g O).mono;rintro e w2⟨⟨b,rfl,x⟩,K⟩;have y:=aq g K;cases b
   .have L:Hid (¬p h):=J (λhp=>by cases x.2 hp);go_wp2;go_roundw;case rel=>
     refine⟨h+1,j,O,F,Γ,Q,λm C hp=>?_,Z d,y⟩
     exact Z L (Z l m h O O hp)
    case measure=>simp[intOf];omega
   have M:=J (x.1 Q);go_wp2;go_roundw;case rel=>
    refine⟨i,h,O,O,Q,Q,Z c,λm z t=>?_,y⟩
    exact Z l h m z t (Z M)
   case measure=>simp[intOf];omega
  have d1:decide ((i:Int)<j)=θ:=é;go_wp2;go_ret;exact⟨Z r i ⟨O,Z c,λm z t=>Z d m O t⟩,g⟩
def qy(W:D)(bs b:Nat)(a:Option Addr)(n c:Nat)(l:List Rg)(x:Rg):Prop:=
 κ W ⟨bs,0,N⟩=E (Y a n c)/\κ W ⟨b,0,N⟩=E (I U x.lo)/\κ W ⟨b,1,N⟩=E (I U x.hi)/\bq W a n c l/\x.ok
def qy.ag{x:Rg}(h:qy W k i a n j s x)(g:G W w N):qy w k i a n j s x:=
 ⟨ì g h.1,ì g h.2.1,ì g h.2.2.1,h.2.2.2.1.ag g,h.2.2.2.2⟩
def Ik(W:D)(bs g i n j:Nat)(a:Option Addr)(l:List Rg)(x:Rg)(h:qy W bs g a n j l x)(hi:i<n):
 Calls prog 249 #[I X i,π (E ⟨bs,0,N⟩),π (E ⟨g,0,N⟩)] W λe k=>gR (x.lo<=(an l i).hi) e/\G W k N:=by
 let⟨r,m,s,c,t⟩:=h
 have u:=c.2.1;have v:=c.2.2.1;have p:=c.2.2.2.1;unfold maxLen at p;obtain⟨-,-,-,-,h0|⟨b,o,rfl,-⟩⟩:=id c;omega;let⟨c1,c2⟩:=c.cell i O
 obtain⟨q,d⟩:=í ((an l i).hi);rw[<-d]at c2⊢;replace d:=J d;obtain⟨y,f⟩:=í x.lo;rw[<-f]at m⊢;replace f:=J f;go_enter func249,ntmps249;go_wp2_with fail;go_quiet (fail);go_wp2;go_ret;exact⟨oy Γ,cu (au _ _) _⟩
def Il(W:D)(bs g i n j:Nat)(a:Option Addr)(l:List Rg)(x:Rg)(h:qy W bs g a n j l x)(hi:i<n):
 Calls prog 250 #[I X i,π (E ⟨bs,0,N⟩),π (E ⟨g,0,N⟩)] W λe k=>gR (x.hi<(an l i).lo) e/\G W k N:=by
 let⟨r,s,m,c,t⟩:=h
 have u:=c.2.1;have v:=c.2.2.1;have p:=c.2.2.2.1;unfold maxLen at p;obtain⟨-,-,-,-,h0|⟨b,o,rfl,-⟩⟩:=id c;omega;let⟨c1,c2⟩:=c.cell i O
 obtain⟨q,d⟩:=í ((an l i).lo);rw[<-d]at c1⊢;replace d:=J d;obtain⟨y,f⟩:=í x.hi;rw[<-f]at m⊢;replace f:=J f;go_enter func250,ntmps250;go_wp2_with fail;go_quiet (fail);go_wp2;go_ret;exact⟨oy Γ,cu (au _ _) _⟩
def Im(W:D)(bs g i n j:Nat)(a:Option Addr)(l:List Rg)(x:Rg)(h:qy W bs g a n j l x)(hi:i<n):
 Calls prog 297 #[I X i,π (E ⟨bs,0,N⟩),π (E ⟨g,0,N⟩)] W λe k=>gR (x.lo<(an l i).hi) e/\G W k N:=by
 let⟨r,m,s,c,t⟩:=h
 have u:=c.2.1;have v:=c.2.2.1;have p:=c.2.2.2.1;unfold maxLen at p;obtain⟨-,-,-,-,h0|⟨b,o,rfl,-⟩⟩:=id c;omega;let⟨c1,c2⟩:=c.cell i O
 obtain⟨q,d⟩:=í ((an l i).hi);rw[<-d]at c2⊢;replace d:=J d;obtain⟨y,f⟩:=í x.lo;rw[<-f]at m⊢;replace f:=J f;go_enter func297,ntmps297;go_wp2_with fail;go_quiet (fail);go_wp2;go_ret;exact⟨oy Γ,cu (au _ _) _⟩
def Io(W:D)(bs g i n j:Nat)(a:Option Addr)(l:List Rg)(x:Rg)(h:qy W bs g a n j l x)(hi:i<n):
 Calls prog 298 #[I X i,π (E ⟨bs,0,N⟩),π (E ⟨g,0,N⟩)] W λe k=>gR (x.hi<=(an l i).lo) e/\G W k N:=by
 let⟨r,s,m,c,t⟩:=h
 have u:=c.2.1;have v:=c.2.2.1;have p:=c.2.2.2.1;unfold maxLen at p;obtain⟨-,-,-,-,h0|⟨b,o,rfl,-⟩⟩:=id c;omega;let⟨c1,c2⟩:=c.cell i O
 obtain⟨q,d⟩:=í ((an l i).lo);rw[<-d]at c1⊢;replace d:=J d;obtain⟨y,f⟩:=í x.hi;rw[<-f]at m⊢;replace f:=J f;go_enter func298,ntmps298;go_wp2_with fail;go_quiet (fail);go_wp2;go_ret;exact⟨oy Γ,cu (au _ _) _⟩
def xz(x:Rg)(w:D):Calls prog 244 #[ε #[I U x.lo,I U x.hi]] w λe a=>e=ξ (β (decide (x.hi<=x.lo)))/\G w a N:=by
 go_enter func244,ntmps244;go_wp2_with fail;first
  |go_quiet (fail)
  |skip
 go_wp2;go_ret;exact⟨Q,by repeat(first|exact au _ _|apply cu|apply aK|apply aW)⟩
def bp{o:Obj}(h:W.heap[i]?=E o)(g:G W w N):w.heap[i]?=E o:=(g.block i (aV.1 h).1 Γ).trans h
def xA:prog.elem 227=341:=Φ
def B5(W:D):(sizeOf 341).run prog W=.ok 2 W:=Φ
def B6(a:Option Addr)(n b i:Nat)(h:i<=b)(W:D):(Instr.slice 227 (Y a n b) N (E (I X i)) (E (I X i))).run prog W=.ok (Y a i i) W:=by
 rw[run_slice_hm W 227 a n b (by rw[xA];exact underlying227) X X (i:Int) (i:Int) O (fv _) O,xA,B5];simp only[jC,sliced,mf,nz,Nat.sub_zero]
 congr 1;cases a with
 |none=>simp
 |some y=>simp[Addr.add]
def Ca(a:Option Addr)(n b j:Nat)(h:j<=n)(W:D):(Instr.slice 227 (Y a n b) (E (I X j)) N N).run prog W=.ok (Y (if b=j then a else a.map (·.add (j*2))) (n-j) (b-j)) W:=by
 rw[run_slice_l W 227 a n b (by rw[xA];exact underlying227) X (j:Int) O O,xA,B5];simp only[jC,sliced,mf]
def zo{wc:D}{a b:υ}(h:κ w ⟨k,0,N⟩=E z/\κ w ⟨i,0,N⟩=E a/\κ w ⟨i,1,N⟩=E b/\G wc w (E n))(g:G w W N):κ W ⟨k,0,N⟩=E z/\κ W ⟨i,0,N⟩=E a/\κ W ⟨i,1,N⟩=E b/\G wc W (E n):=
 ⟨ì g h.1,ì g h.2.1,ì g h.2.2.1,aq h.2.2.2 (cK g _)⟩
def dN.lt(h:dN w n x s):∀k,x.ownBlock=E k->n<=k/\k<w.heap.size:=h.2.lt
def Cb{wc:D}(h:G wc w N)(o:dN w n x s)(a:wc.heap.size<=n)(g:G w W x.ownBlock):G wc W N:=cO h g (λj e=>φ (bG a (o.lt _ e).1))
def Iy{wc:D}{a b c:υ}(h:κ w ⟨k,0,N⟩=E z/\κ w ⟨i,0,N⟩=E a/\κ w ⟨i,1,N⟩=E b/\G wc w (E n))(o:dN w m c s)(d:wc.heap.size<=m)(f:k<m)(l:i<m)(g:G w W c.ownBlock):κ W ⟨k,0,N⟩=E z/\κ W ⟨i,0,N⟩=E a/\κ W ⟨i,1,N⟩=E b/\G wc W (E n):=
 ⟨g.cell h.1 (λe=>by have:m<=k:=(o.lt _ e.symm).1;omega),g.cell h.2.1 (λe=>by have:m<=i:=(o.lt _ e.symm).1;omega),g.cell h.2.2.1 (λe=>by have:m<=i:=(o.lt _ e.symm).1;omega),cO h.2.2.2 g (λj e=>φ (bG d (o.lt _ e).1))⟩
def Iz{wc:D}{a b u:υ}(h:κ W ⟨i,0,N⟩=E z/\κ W ⟨j,0,N⟩=E a/\κ W ⟨j,1,N⟩=E b/\G wc W (E n))(d:i≠n)(c:j≠n):(ζ W ⟨n,k,N⟩ u).cell? ⟨i,0,N⟩=E z/\(ζ W ⟨n,k,N⟩ u).cell? ⟨j,0,N⟩=E a/\(ζ W ⟨n,k,N⟩ u).cell? ⟨j,1,N⟩=E b/\G wc (ζ W ⟨n,k,N⟩ u) (E n):=
 ⟨(iB (w:=W) (dr _ _ _ _ d)).trans h.1,(iB (w:=W) (dr _ _ _ _ c)).trans h.2.1,(iB (w:=W) (dr _ _ _ _ c)).trans h.2.2.1,aD h.2.2.2 _ _ (ψ Q)⟩
def bq.aB{sb:Nat}(h:bq w a n k s)(d:∀z,a=E z->z.block≠sb)(so:Nat)(v:υ):bq (ζ w ⟨sb,so,N⟩ v) a n k s:=by
 let⟨e,f,g,i,c⟩:=h
 refine⟨e,f,g,i,?_⟩
 obtain c|⟨b,o,rfl,c⟩:=c
 omega;exact ψ ⟨b,o,Q,λj u l=>(iB (w:=w) (a:=⟨b,o+j,N⟩) (dr _ _ _ _ (d _ Q))).trans (c j u l)⟩
def zp(w a:D)(sb so:Nat)(v:υ):Prop:=
 G w a (E sb)/\∀b t,w.heap[sb]?=E (ο b t (0,0))->a.heap[sb]?=E (ο (b.setIfInBounds so v) t (0,0))
def qz(w d:D)(sb so:Nat)(a:Option Addr)(q:List Rg->Prop):Prop:=
 ∃b e f c,zp w d sb so (Y b e f)/\bq d b e f c/\(b=a\/∀y,b=E y->w.heap.size<=y.block)/\bk c/\q c
def vp(w d:D)(sb so:Nat)(a:Option Addr)(n g:Nat)(l:List Rg)(q:List Rg->Prop):Prop:=
 ∃b e f c,zp w d sb so (Y b e f)/\bq d b e f c/\((b=a/\e=n/\f=g/\c=l)\/∀y,b=E y->w.heap.size<=y.block/\y.block<d.heap.size)/\bk c/\q c
def vp.set{w:D}{q:List Rg->Prop}(h:vp w W k i a n j s q):qz w W k i a q:=by
 let⟨b,c,d,e,f,g,l,m⟩:=h
 exact⟨b,c,d,e,f,g,l.imp (λh=>h.1) (λh y p=>(h y p).1),m⟩
def zq(w f:D)(sb so:Nat)(a:Option Addr)(n g:Nat)(l:List Rg)(q:List Rg->Prop):Prop:=
 ∃c d e b,zp w f sb so (Y c d e)/\bq f c d e b/\((c=a/\d=n/\e=g/\b=l)\/dN f w.heap.size (Y c d e) b)/\bk b/\q b
def zq.to{q:List Rg->Prop}(h:zq w W k i a n j s q):vp w W k i a n j s q:=by
 let⟨b,c,d,e,f,g,l,m⟩:=h
 refine⟨b,c,d,e,f,g,l.imp id (λh y p=>?_),m⟩
 subst p;exact h.lt y.block Q
def Cc(w:D)(sb so:Nat)(cs:Array υ)(t:TypeId)(a:Option Addr)(n f:Nat)(l:List Rg)(x:Rg)(T:w.heap[sb]?=E (ο cs t (0,0)))(V:cs[so]?=E (Y a n f))(hs:bq w a n f l)(dk:∀y,a=E y->y.block≠sb)(s:bk l)(hx:x.ok)(hn:n<=1000000):
 Calls prog 215 #[π (E ⟨sb,so,N⟩),ε #[I U x.lo,I U x.hi]] w λe F=>e=ξ (τ #[])/\zq w F sb so a n f l (λl'=>l'.length<=l.length+1/\∀m,Sm l' m↔Sm l m\/(x.lo<=m/\m<x.hi)):=by
 let⟨c,d⟩:=x
 have ai:κ w ⟨sb,so,N⟩=E (Y a n f):=by simp[κ,T,V]
 by_cases he:d<=c
 .have hd:decide (d<=c)=ρ:=bU he;go_enter func215,ntmps215;go_wp2_with fail;apply(xz ⟨c,d⟩ _).mono;rintro e r⟨rfl,g1⟩;have a0:decide ((⟨c,d⟩:Rg).hi<=(⟨c,d⟩:Rg).lo)=ρ:=hd;rw[a0];have B:=aq (aC _ _ _) g1;replace⟨hs,s⟩:=aT hs s;go_wp2_with fail;refine cC (dV Q _ _ _) Q ⟨Q,a,n,f,l,⟨cK B _,λbx t' h=>?_⟩,(Z hs).ag B,φ ⟨Q,Q,Q,Q⟩,Z s,O,λm=>⟨λh=>φ h,λh=>h.elim id (λh=>O)⟩⟩;rw[bp h B];obtain⟨rfl,rfl⟩:bx=cs/\t'=t:=by rw[T]at h;cases h;exact⟨Q,Q⟩
  congr 2;let⟨h1,h2⟩:=aV.1 V
  rw[Array.setIfInBounds,dif_pos h1,<-h2,Array.set_getElem_self]
 have hd:decide (d<=c)=θ:=bT he;go_enter func215,ntmps215;go_wp2_with fail;apply(xz ⟨c,d⟩ _).mono;rintro e r⟨rfl,g1⟩;have a0:decide ((⟨c,d⟩:Rg).hi<=(⟨c,d⟩:Rg).lo)=θ:=hd;rw[a0];have B:=aq (aC _ _ _) g1;have dm:=ì B ai;have ak:r.heap[w.heap.size]?=E (ο #[I U c,I U d] 341 (0,0)):=(g1.block w.heap.size Γ Γ).trans (aM _ _);have x0:κ r ⟨w.heap.size,0,N⟩=E (I U c):=by simp[κ,ak]
 have x1:κ r ⟨w.heap.size,1,N⟩=E (I U d):=by simp[κ,ak]
 have dn:=(aV.1 ak).1;obtain⟨M,a8⟩:=í (r.alloc (ο #[Y a n f] 227));have P:G r M N:=by rw[a8];exact aC _ _ _
 have bz:M.heap[r.heap.size]?=E (ο #[Y a n f] 227 (0,0)):=by rw[a8];exact aM _ _
 have R:qy M r.heap.size w.heap.size a n f l ⟨c,d⟩:=⟨by simp[κ,bz],ì P x0,ì P x1,hs.ag (aq B P),hx⟩
 have C:=hs.2.1;have cm:=J (xw n 249 #[π (E ⟨r.heap.size,0,N⟩),π (E ⟨w.heap.size,0,N⟩)] M (λk=>c<=(an l k).hi) O (λi j H hj hp=>by
  obtain h|rfl:=tg H
  have:=s.lt h O;have:=s.pos (i:=j) O;show c<=_;omega
  .exact hp) (λ_ _=>Φ) (λW h g hh=>Ik W _ _ h n f a l ⟨c,d⟩ (R.ag g) hh))
 have ct:=J (λW(gW:G M W N)=>xw n 250 #[π (E ⟨r.heap.size,0,N⟩),π (E ⟨w.heap.size,0,N⟩)] W (λk=>d<(an l k).lo) O (λi j H hj hp=>by
  obtain h|rfl:=tg H
  have:=s.lt h O;have:=s.pos (i:=i) O;show d<_;omega
  .exact hp) (λ_ _=>Φ) (λW' h g hh=>Il W' _ _ h n f a l ⟨c,d⟩ (R.ag (aq gW g)) hh))
 replace⟨C,R,s,hs⟩:=fB C R s hs;go_wp2_with fail;rw[<-a8];apply(Z cm).mono;rintro e w3⟨⟨i,rfl,bA⟩,v⟩;have bM:=(Z R).ag v;have du:=bM.1;go_wp2_with fail;apply(Z ct _ v).mono;rintro e w4⟨⟨j,rfl,b3⟩,g4⟩;obtain⟨k1,k2,k3,k4,-⟩:=id (bM.ag g4);have b4:=aq B (aq P (aq v g4));have dv:=ì b4 ai;have cv:=b3.1;have a9:mT l.length i (λk=>c<=(an l k).hi):=by rw[<-Z C];exact bA
 have bb:mT l.length j (λk=>d<(an l k).lo):=by rw[<-Z C];exact b3
 have al:=bp ak (aq P (aq v g4));have b5:=bp bz (aq v g4);have bj:=J (HX (Z s) (x:=⟨c,d⟩) (O:c<d) a9 bb);have dx:=HU (Z s) (O:c<d) a9 bb;have cw:Hid ((l.take i).length+((l.drop j).length+1)<=l.length+1):=J (by rw[dK,fD];have:=a9.1;have:=bb.1;omega);have ea:=(Z hs).2.2.1;have cx:=(Z hs).2.2.2.1;unfold maxLen at cx;obtain⟨y,K⟩:∃y:Rg,y=(if i<j then⟨min c (an l i).lo,max d (an l (j-1)).hi⟩else⟨c,d⟩):=⟨_,Q⟩
 have cy:xr l ⟨c,d⟩ i j=l.take i++(y::l.drop j):=by rw[K];rfl
 rw[cy]at bj;replace K:=J K;go_upto_if 22 with fail;go_cut [] (λwx=>wx.heap[w.heap.size]?=E (ο #[I U y.lo,I U y.hi] 341 (0,0))/\G w4 wx (E w.heap.size));case first=>
  by_cases H:i<j
  .obtain⟨b,o,rfl⟩:∃b o,a=E ⟨b,o,N⟩:=by
    obtain⟨-,-,-,-,h0|⟨b,o,rfl,-⟩⟩:=Z hs;omega;exact⟨b,o,Q⟩
   obtain⟨y0,-⟩:=k4.cell i (by have:=Z C;omega);obtain⟨-,y1⟩:=k4.cell (j-1) (by have:=Z C;omega);obtain⟨p,hp⟩:=í ((an l i).lo);obtain⟨q,hq⟩:=í ((an l (j-1)).hi);rw[<-hp]at y0;rw[<-hq]at y1;have br:Hid (y=⟨min c p,max d q⟩):=J (by rw[Z K,aH H,<-hp,<-hq]);have d1:decide ((i:Int)<j)=ρ:=α;have e1:(j:Int)-1=((j-1:Nat):Int):=O;have e2:X.wrap ((j:Int)-1)=((j-1:Nat):Int):=by simp[IntKind.wrap,IntKind.bits,IntKind.signed];omega
   have i1:(i:Int)<n:=O;have i2:((j-1:Nat):Int)<(n:Int):=O;replace⟨hp,hq⟩:=aT hp hq;have f0:χ w4 ⟨w.heap.size,0,N⟩=θ:=ç al;have f1:χ w4 ⟨w.heap.size,1,N⟩=θ:=ç al;go_wp2_with fail;go_region;all_goals go_wp2_with fail
   all_goals go_meet
   all_goals
    refine⟨Eq.trans (heap_set (heap_set al _) _) ?_,aK (aD (aD (au _ _) _ _ (ψ Q)) _ _ (ψ Q))⟩
    rw[Z br]
    simp
    omega
  have d1:decide ((i:Int)<j)=θ:=é;have br:y=⟨c,d⟩:=by rw[Z K,aE H]
  go_wp2;go_meet;rw[br];exact⟨al,au _ _⟩
 case rest=>
  let⟨b6,gc⟩:=hcut
  have bt:=nB (cO (cK b4 (E w.heap.size)) gc (λj e=>ψ Q)) (aP _);have bw:=(Z hs).ag bt;have b7:=(gc.block _ (aV.1 b5).1 Ψ).trans b5;have c1:κ wc ⟨r.heap.size,0,N⟩=E (Y a n f):=by simp[κ,b7]
  have c2:κ wc ⟨w.heap.size,0,N⟩=E (I U y.lo):=by simp[κ,b6]
  have c3:κ wc ⟨w.heap.size,1,N⟩=E (I U y.hi):=by simp[κ,b6]
  have c4:=ì bt ai;have c9:y.ok:=by
   rw[Z K];split;have a1:=hx.1;have a2:=hx.2;have a3:=(oC (Z hs).1 i).1;have a4:=(oC (Z hs).1 (j-1)).2;simp only[Rg.ok,aZ]at a1 a2 a3 a4⊢;omega;exact hx
  obtain⟨a2,ao⟩:=í ((if f=j then a else a.map (·.add (j*2))));have eb:∀W,(Instr.slice 227 (Y a n f) N (E (I X i)) (E (I X i))).run prog W=.ok (Y a i i) W:=λW=>B6 a n f i O W
  have ec:∀W,(Instr.slice 227 (Y a n f) (E (I X j)) N N).run prog W=.ok (Y a2 (n-j) (f-j)) W:=λW=>by rw[ao];exact Ca a n f j O W
  have da:=J (bw.front i bA.1);have db:=J (bw.back (d:=a2) j cv (by
   obtain⟨-,-,-,-,h0|⟨b,o,rfl,-⟩⟩:=bw;left;omega
   .by_cases V:f=j;left;omega
    .right;rw[ao,aE V];exact⟨b,o,Q,by simp only[tv,Addr.add_mid]⟩))
  have dc:Hid ((l.take i++[y]).length+(l.drop j).length<=100000000):=J (by have:=Z C;simp;omega);have A:G wc (wc.alloc (ο #[I U y.lo,I U y.hi] 341)).drew N:=aK (aC _ _ _);have ed:=(aV.1 T).1;have ee:=(aV.1 b7).1;have ei:w.heap.size<wc.heap.size:=O;have b8:κ wc ⟨r.heap.size,0,N⟩=E (Y a n f)/\κ wc ⟨w.heap.size,0,N⟩=E (I U y.lo)/\κ wc ⟨w.heap.size,1,N⟩=E (I U y.hi)/\G wc wc (E sb):=⟨c1,c2,c3,au _ _⟩
  have de:=zo b8 (aK (au wc N));have ca:=zo b8 A;have cc:(wc.alloc (ο #[I U y.lo,I U y.hi] 341)).drew.heap[wc.heap.size]?=E (ο #[I U y.lo,I U y.hi] 341 (0,0)):=aM wc _;have q0:(wc.alloc (ο #[I U y.lo,I U y.hi] 341)).drew.cell? ⟨wc.heap.size,0,N⟩=E (I U y.lo):=by simp only[κ,cc];rfl
  have S:(wc.alloc (ο #[I U y.lo,I U y.hi] 341)).drew.cell? ⟨wc.heap.size,0+1,N⟩=E (I U y.hi):=by simp only[κ,cc];rfl
  replace⟨ao,q0,S⟩:=cA ao q0 S;go_wp2_with fail;go_region_held3 (λF=>κ F ⟨r.heap.size,0,N⟩=E (Y a n f)/\κ F ⟨w.heap.size,0,N⟩=E (I U y.lo)/\κ F ⟨w.heap.size,1,N⟩=E (I U y.hi)/\G wc F (E sb))
   (with_reducible first|exact dg|exact cf|exact ch|exact ca|exact de)
   (first
     |(refine Ir Ξ _ _ Ξ _ i (l.take i) Ξ ((Z da).ag A) wc.heap.size 0 1 y c9 Ξ (Z q0) (Z S) O ?_;intro a3 n3 c3 w3 o3 v;have ch:=zo ca v)
     |(refine Is Ξ _ _ Ξ (wc.alloc (ο #[I U y.lo,I U y.hi] 341)).drew.heap.size _ (l.take i++[y]) Ξ o3 _ _ _ (l.drop j) Ξ ((Z db).ag (aq A v)) (Z dc) v.size ?_;intro a5 n5 c5 w5 o5 g5;have cf:=Iy ch o3 A.size (by show r.heap.size<_;have:=A.size;omega) (by show w.heap.size<_;have:=A.size;omega) g5;have ax:G w w5 N:=(aq bt (Cb (aq A v) o3 A.size g5));have ej:=ì ax ai;have f5:χ w5 ⟨sb,so,N⟩=θ:=(by simp[χ,bp T ax]);have dg:=Iz (k:=so) (u:=Y a5 n5 c5) cf O O))
  refine eP (dV Q _ _ _) Q ⟨Q,a5,n5,c5,l.take i++y::l.drop j,⟨aD (cK ax _) _ _ (ψ Q),λbx t' h=>heap_set (bp h ax) _⟩,?_,ψ ?_,(Z bj).1,by rw[bS,dY];exact Z cw,(Z bj).2⟩;have L:=o5.iL.1;rw[eF,List.singleton_append]at L;refine L.aB (λz hz=>?_) so _;have:=o5.iL.2 z hz;have:=A.size;omega;have h2:=A.size;have L:=o5.gb (aD (au w5 (E sb)) ⟨sb,so,N⟩ (Y a5 n5 c5) (ψ Q)) (ψ (λe=>by have:=(o5.lt _ e).1;omega));rw[eF,List.singleton_append]at L;refine⟨L.1,?_⟩
  let⟨e1,e2⟩:=L.2
  refine⟨e1,?_⟩
  obtain e2|⟨g,cp,cur,S,q2,q3⟩:=e2
  exact φ e2;exact ψ ⟨g,cp,cur,S,O,q3⟩
def zr(w:D)(sb so:Nat)(c:Array υ)(t:TypeId)(a:Option Addr)(n b:Nat)(l:List Rg)(x:Rg)(f:w.heap[sb]?=E (ο c t (0,0)))(g:c[so]?=E (Y a n b))(hs:bq w a n b l)(i:∀y,a=E y->y.block≠sb)(j:bk l)(k:x.ok)(p:n<=1000000):
 Calls prog 215 #[π (E ⟨sb,so,N⟩),ε #[I U x.lo,I U x.hi]] w λe q=>e=ξ (τ #[])/\vp w q sb so a n b l (λd=>d.length<=l.length+1/\∀m,Sm d m↔Sm l m\/(x.lo<=m/\m<x.hi)):=
 (Cc w sb so c t a n b l x f g hs i j k p).mono (λ_ _ h=>⟨h.1,h.2.to⟩)
def IA(w:D)(sb so:Nat)(b:Array υ)(t:TypeId)(a:Option Addr)(n c:Nat)(l:List Rg)(x:Rg)(f:w.heap[sb]?=E (ο b t (0,0)))(g:b[so]?=E (Y a n c))(hs:bq w a n c l)(i:∀y,a=E y->y.block≠sb)(j:bk l)(k:x.ok)(p:n<=1000000):
 Calls prog 215 #[π (E ⟨sb,so,N⟩),ε #[I U x.lo,I U x.hi]] w λe q=>e=ξ (τ #[])/\qz w q sb so a (λd=>d.length<=l.length+1/\∀m,Sm d m↔Sm l m\/(x.lo<=m/\m<x.hi)):=
 (zr w sb so b t a n c l x f g hs i j k p).mono (λ_ _ h=>⟨h.1,h.2.set⟩)
structure Hd where
 fr:Int
 bytes:List Int
 af:List Rg
def Hd.nice(h:Hd):Prop:=0<=h.fr/\h.fr+h.bytes.length<=4611686018427387903/\bk h.af/\h.bytes.length<=1000000/\h.af.length<=100000
def iM(w:D)(sb a:Nat)(ab:Option Addr)(b cb:Nat)(ac:Option Addr)(nc c:Nat)(h:Hd):Prop:=
 κ w ⟨sb,a,N⟩=E (I U h.fr)/\κ w ⟨sb,a+1,N⟩=E (Y ab b cb)/\κ w ⟨sb,a+2,N⟩=E (Y ac nc c)/\bD w ab b cb h.bytes/\bq w ac nc c h.af/\h.nice
def iM.ag{ac:Option Addr}{h:Hd}(H:iM w n k a i j ac l m h)(g:G w W N):iM W n k a i j ac l m h:=
 ⟨ì g H.1,ì g H.2.1,ì g H.2.2.1,H.2.2.2.1.ag g,H.2.2.2.2.1.ag g,H.2.2.2.2.2⟩
def Cg(w:D)(sb a:Nat)(ab:Option Addr)(d cb:Nat)(ac:Option Addr)(nc f:Nat)(h:Hd)(H:iM w sb a ab d cb ac nc f h):
 Calls prog 196 #[π (E ⟨sb,a,N⟩)] w λe g=>e=ξ (I U (h.fr+h.bytes.length))/\G w g N:=by
 obtain⟨c0,c1,c2,b,-,⟨j,i,-,k3,-⟩⟩:=H;let⟨fr,bytes,af⟩:=h
 simp only at *;have c:=b.2.1;rw[<-c]at i k3⊢;clear c b;go_enter func196,ntmps196;go_wp2_with fail;first
  |go_quiet (fail)
  |skip
 go_wp2;go_ret;exact⟨Q,by repeat(first|exact au _ _|apply cu|apply aK|apply aW)⟩
def dL(h:Hd):Int:=if h.af.length=0\/0<(an h.af 0).lo then 0 else(an h.af 0).hi-h.fr
def Ch(w:D)(sb d:Nat)(ab:Option Addr)(j cb:Nat)(ac:Option Addr)(nc k:Nat)(h:Hd)(H:iM w sb d ab j cb ac nc k h)(c:0<=dL h/\dL h<=4611686018427387903):
 Calls prog 220 #[π (E ⟨sb,d,N⟩)] w λe l=>e=ξ (I X (dL h))/\G w l N:=by
 obtain⟨c0,c1,c2,-,a,⟨r,s,-,k3,-⟩⟩:=H;let⟨fr,bytes,af⟩:=h
 simp only at *;have f:=a.2.1;have t:=a.2.2.1;have m:=a.2.2.2.1;unfold maxLen at m;by_cases g:nc=0
 .have i:dL ⟨fr,bytes,af⟩=0:=by unfold dL;rw[aH];left;simp only;omega
  rw[i];subst g;clear i c f;go_enter func220,ntmps220;go_wp2_with fail;first
   |go_quiet (fail)
   |skip
  go_wp2;go_ret;exact⟨Q,by repeat(first|exact au _ _|apply cu|apply aK|apply aW)⟩
 obtain⟨b,o,rfl⟩:∃b o,ac=E ⟨b,o,N⟩:=by
  obtain⟨-,-,-,-,h0|⟨b,o,rfl,-⟩⟩:=a;omega;exact⟨b,o,Q⟩
 let⟨n,p⟩:=a.cell 0 O
 let⟨⟨u,v⟩,x,y⟩:=oC a.1 0
 have q:dL ⟨fr,bytes,af⟩=if 0<(an af 0).lo then 0 else(an af 0).hi-fr:=by
  unfold dL;by_cases h0:0<(an af 0).lo;rw[aH (ψ h0),aH h0];rw[aE (by simp only;omega),aE h0]
 rw[q]at c⊢;generalize (an af 0).lo=lo at *;generalize (an af 0).hi=hi at *;rw[nz,nA]at n p;clear a f;have z:((nc:Int)==0)=θ:=by simp[g]
 have A:(0:Int)<nc:=O;by_cases h0:0<lo
 .have d0:decide (0<lo)=ρ:=bU h0;rw[aH h0];go_enter func220,ntmps220;go_wp2_with fail;first
   |go_quiet (fail)
   |skip
  go_wp2;go_ret;exact⟨Q,by repeat(first|exact au _ _|apply cu|apply aK|apply aW)⟩
 have d0:decide (0<lo)=θ:=bT h0;rw[aE h0]at c⊢;have B:U.wrap (hi-fr)=hi-fr:=by rw[cZ];omega
 have C:X.wrap (hi-fr)=hi-fr:=ä;go_enter func220,ntmps220;go_wp2_with fail;first
  |go_quiet (fail)
  |skip
 go_wp2_with fail;first
  |go_quiet (fail)
  |skip
 go_wp2;go_ret;exact⟨Q,by repeat(first|exact au _ _|apply cu|apply aK|apply aW)⟩
def iN(f:Fr)(a:υ):List υ:=[I X f.kind,I X f.stream,I U f.offset,I U f.code,β f.fin,ς f.data,a]
def bC(f:Fr)(a:υ):Array υ:= #[I X f.kind,I X f.stream,I U f.offset,I U f.code,β f.fin,ς f.data,a]
def cD(w:D)(f:Fr)(b:υ):Prop:=f.ok/\f.data.size<=9223372036854775807/\∃ra a,b=Y ra f.ranges.length a/\bq w ra f.ranges.length a f.ranges
def bQ{a c d e:υ}(h:w.heap[b]?=E (ο #[x,y,z,a,c,d,e] T (0,0))):κ w ⟨b,0,N⟩=E x/\κ w ⟨b,1,N⟩=E y/\κ w ⟨b,2,N⟩=E z/\κ w ⟨b,3,N⟩=E a/\κ w ⟨b,4,N⟩=E c/\κ w ⟨b,5,N⟩=E d/\κ w ⟨b,6,N⟩=E e:=by
 simp[κ,h]
def cD.ag(h:cD w u x)(g:G w W N):cD W u x:=by
 let⟨a,h0,ra,b,c,d⟩:=h
 exact⟨a,h0,ra,b,c,d.ag g⟩
def Ci(f:Fr)(l:υ)(w:D)(h:cD w f l):
 Calls prog 192 #[ε (bC f l)] w λe m=>gR (qx f/\ru f) e/\G w m N:=by
 obtain⟨⟨⟨r,t⟩,⟨s0,s1⟩,⟨u,v⟩,⟨c0,c1⟩,x⟩,y,ra,z,rfl,n⟩:=h;let⟨k,s,o,c,fin,d,rg⟩:=f
 obtain⟨R,a⟩:∃R:Prop,R=((o<=4611686018427387903/\c<=4611686018427387903/\0<=s/\s<4)/\(k=3->gP rg)/\(k=5->(d.size:Int)<=4611686018427387903-o)):=⟨_,Q⟩
 have p:(qx ⟨k,s,o,c,fin,d,rg⟩/\ru ⟨k,s,o,c,fin,d,rg⟩)=R:=a.symm;rw[p];simp only[bC]at *;replace a:=J a;by_cases A:4611686018427387903<o
 .go_enter func192,ntmps192;go_wp2;go_ret;exact⟨jM (λhp=>by rw[Z a]at hp;have:=hp.1.1;omega),aC _ _ _⟩
 by_cases B:4611686018427387903<c
 .go_enter func192,ntmps192;go_wp2;go_ret;exact⟨jM (λhp=>by rw[Z a]at hp;have:=hp.1.2.1;omega),aC _ _ _⟩
 by_cases C:s<0
 .go_enter func192,ntmps192;go_wp2;go_ret;exact⟨jM (λhp=>by rw[Z a]at hp;have:=hp.1.2.2.1;omega),aC _ _ _⟩
 by_cases F:4<=s
 .go_enter func192,ntmps192;go_wp2;go_ret;exact⟨jM (λhp=>by rw[Z a]at hp;have:=hp.1.2.2.2;omega),aC _ _ _⟩
 have g:o<=4611686018427387903/\c<=4611686018427387903/\0<=s/\s<4:=O;replace g:=J g;by_cases k3:k=3
 .subst k3;go_enter func192,ntmps192;go_wp2_with (go_at_call 234;apply(Ij _ _ _ _ _ (Z (J (λob=>n.ag (aC w ob N))) _)).mono;rintro e H⟨⟨b,rfl,i⟩,q⟩;replace i:=J i);go_ret;refine⟨⟨b,Q,(Z i).trans (by have j:=Z g;rw[Z a];simp[j])⟩,aq (aC _ _ _) q⟩
 by_cases k5:k=5
 .subst k5;go_enter func192,ntmps192;go_wp2;go_ret;refine⟨oy (by have j:=Z g;rw[Z a];simp[j]),aC _ _ _⟩
 go_enter func192,ntmps192;go_wp2;go_ret;exact⟨xv (by rw[Z a];exact⟨Z g,λh=>absurd h k3,λh=>absurd h k5⟩),aC _ _ _⟩
structure It where
 h:Hd
 high:Int
 last:Int
 code:Int
 ended:Bool
 given:Bool
 over:Bool
def tH(w:D)(sb a:Nat)(s:It):Prop:=
 κ w ⟨sb,a+3,N⟩=E (I U s.high)/\κ w ⟨sb,a+4,N⟩=E (I U s.last)/\κ w ⟨sb,a+5,N⟩=E (I U s.code)/\κ w ⟨sb,a+6,N⟩=E (β s.ended)/\κ w ⟨sb,a+7,N⟩=E (β s.given)/\κ w ⟨sb,a+8,N⟩=E (β s.over)
def tH.ag{s:It}(H:tH w n k s)(g:G w W N):tH W n k s:=
 ⟨ì g H.1,ì g H.2.1,ì g H.2.2.1,ì g H.2.2.2.1,ì g H.2.2.2.2.1,ì g H.2.2.2.2.2⟩
def bm(f:Fr):Int:=f.offset+f.data.size
def It.iO(s:It)(e:Int):Bool:=(s.ended&&(e !=s.last))||decide (e<s.high)
def It.busy(s:It)(f:Fr)(av:Int):Bool:= !s.given&&decide (s.h.fr+av<bm f)
def zt(w:D)(f:Fr)(a:υ)(h0:0<=f.offset)(hs:bm f<=9223372036854775807):Calls prog 247 #[ε (bC f a)] w λe b=>e=ξ (I U (bm f))/\G w b N:=by
 let⟨kind,stream,offset,code,fin,data,ranges⟩:=f
 unfold bm bC at *;simp only at *;go_enter func247,ntmps247;go_wp2;go_ret;exact⟨Q,by repeat(first|exact au _ _|apply cu|apply aK|apply aW)⟩
def Ck(w:D)(sb a:Nat)(s:It)(H:tH w sb a s)(e:Int):Calls prog 257 #[π (E ⟨sb,a,N⟩),I U e] w λr b=>r=ξ (β (s.iO e))/\b=w:=by
 let⟨c3,c4,c5,c6,c7,c8⟩:=H
 unfold It.iO;generalize s.high=hi at *;generalize s.last=la at *;generalize s.ended=en at *;cases en<;>by_cases hd:e=la<;>by_cases c:e<hi;all_goals
  go_enter func257,ntmps257
  go_wp2_with fail
  all_goals
   first
    |(go_ret;exact⟨by simp_all[bne],Q⟩)
    |(exfalso;omega)
def kc(h:κ w A=E x):∀W,G w W N->κ W A=E x:=λ_ g=>ì g h
def II(w:D)(sb g:Nat)(s:It)(h0:κ w ⟨sb,g,N⟩=E (I U s.h.fr))(H:tH w sb g s)(A:0<=s.h.fr/\s.h.fr<=4611686018427387903)(f:Fr)(c:υ)(x:0<=f.offset)(hs:bm f<=9223372036854775807)(av:Int)(B:0<=av/\av<=1000000):
 Calls prog 214 #[π (E ⟨sb,g,N⟩),ε (bC f c),I X av] w λr i=>r=ξ (β (s.busy f av))/\G w i N:=by
 obtain⟨-,-,-,-,c7,-⟩:=H;unfold It.busy;have y:=J (λW=>zt W f c x hs);generalize s.h.fr=fr at *;generalize s.given=gv at *;generalize bm f=en at *;obtain⟨kind,stream,offset,code,fin,data,ranges⟩:=f;unfold bC at *;simp only at *;obtain⟨b,a⟩:=í (w.alloc (ο #[I X kind,I X stream,I U offset,I U code,β fin,ς data,c] 158));have d:G w b N:=by rw[a];exact aC _ _ _
 have j:b.heap[w.heap.size]?=E (ο #[I X kind,I X stream,I U offset,I U code,β fin,ς data,c] 158 (0,0)):=by rw[a];exact aM _ _
 let⟨l,m,n,p,q,t,u⟩:=bQ j
 replace l:=kc l;replace m:=kc m;replace n:=kc n;replace p:=kc p;replace q:=kc q;replace t:=kc t;replace u:=kc u;have d0:=kc (ì d h0);have d7:=kc (ì d c7);have C:U.wrap av=av:=by rw[cZ];omega
 have F:U.wrap (fr+av)=fr+av:=by rw[cZ];omega
 have k:G b b.drew N:=aK (au _ _);replace j:=J j;cases gv
 .go_enter func214,ntmps214;go_wp2_with fail;rw[<-a];clear a;go_region_held3 (λi=>G b i N)
   (with_reducible first|exact v|exact k)
   (first|(go_at_call 247;apply(Z y _).mono;rintro e K⟨rfl,z⟩;have v:=aq k z))
  go_wp2;go_ret;exact⟨Q,aq d v⟩
 go_enter func214,ntmps214;go_wp2_with fail;rw[<-a];clear a;go_big_region;go_wp2;go_ret;exact⟨Q,aq d k⟩
structure Ot where
 h:Hd
 ay:Int
 sE:Bool
 sG:Bool
 tE:Bool
 tG:Bool
 code:Int
def kM(w:D)(sb a:Nat)(o:Ot):Prop:=
 κ w ⟨sb,a+3,N⟩=E (I U o.ay)/\κ w ⟨sb,a+4,N⟩=E (β o.sE)/\κ w ⟨sb,a+5,N⟩=E (β o.sG)/\κ w ⟨sb,a+6,N⟩=E (β o.tE)/\κ w ⟨sb,a+7,N⟩=E (β o.tG)/\κ w ⟨sb,a+8,N⟩=E (I U o.code)/\aZ o.ay/\aZ o.code
def zw(e g x y:Bool)(w:D):Calls prog 282 #[ε #[β e,β g],ε #[β x,β y]] w λr a=>r=ξ (ε #[β (e&& !x),β (g&& !y)])/\G w a N:=by
 cases e<;>cases g;all_goals
  go_enter func282,ntmps282
  go_wp2_with fail
  refine cC (v:=ε #[β (_&& !x),β (_&& !y)]) ?_ Q ⟨Q,?_⟩
  .simp[results,results282,go_sem]
  exact aW (aW (aW (au _ _) _) _) _
def zx(w:D)(sb a:Nat)(o:Ot)(H:kM w sb a o):Calls prog 153 #[π (E ⟨sb,a,N⟩)] w λr b=>r=ξ (β o.sG)/\G w b N:=by
 obtain⟨c3,c4,c5,c6,c7,c8,-,-⟩:=H;go_enter func153,ntmps153;go_wp2_with fail;first
  |go_quiet (fail)
  |skip
 go_wp2;go_ret;exact⟨Q,by repeat(first|exact au _ _|apply cu|apply aK|apply aW)⟩
def I7(w:D)(sb a:Nat)(o:Ot)(H:kM w sb a o):Calls prog 195 #[π (E ⟨sb,a,N⟩)] w λr b=>r=ξ (β (o.sE||o.sG))/\G w b N:=by
 obtain⟨c3,c4,c5,c6,c7,c8,-,-⟩:=H;generalize o.sE=e at *;generalize o.sG=g at *;cases e<;>cases g<;>
 (go_enter func195,ntmps195
  go_wp2_with fail
  first
   |go_quiet (fail)
   |skip
  go_wp2
  go_ret
  exact⟨Q,by repeat(first|exact au _ _|apply cu|apply aK|apply aW)⟩)
def I8(w:D)(sb a:Nat)(fr:Int)(h0:κ w ⟨sb,a,N⟩=E (I U fr))(c:0<=fr/\fr<=4611686018427387903):Calls prog 169 #[π (E ⟨sb,a,N⟩)] w λr b=>r=ξ (I X fr)/\G w b N:=by
 go_enter func169,ntmps169;go_wp2_with fail;first
  |go_quiet (fail)
  |skip
 go_wp2;go_ret;exact⟨Q,by repeat(first|exact au _ _|apply cu|apply aK|apply aW)⟩
def I9(w:D)(sb a:Nat)(b:Array υ)(t:TypeId)(o:Ot)(c:w.heap[sb]?=E (ο b t (0,0)))(H:kM w sb a o):Calls prog 151 #[π (E ⟨sb,a,N⟩)] w λr d=>r=ξ (τ #[])/\G w d (E sb)/\d.heap[sb]?=E (ο (b.setIfInBounds (a+4) (β ρ)) t (0,0)):=by
 obtain⟨c3,c4,c5,c6,c7,c8,-,-⟩:=H;have f4:χ w ⟨sb,a+4,N⟩=θ:=ç c;go_enter func151,ntmps151;go_wp2_with fail;exact eP (dV Q _ _ _) Q ⟨Q,aD (au _ _) _ _ (ψ Q),heap_set c _⟩
def bq.dR(h:bq w a n k s)(e:s≠[]->∀x,a=E x->W.heap[x.block]?=w.heap[x.block]?):bq W a n k s:=by
 let⟨f,g,i,l,c⟩:=h
 refine⟨f,g,i,l,?_⟩
 obtain c|⟨b,o,rfl,c⟩:=c
 omega;refine ψ ⟨b,o,Q,?_⟩;by_cases hl:s=[]
 subst hl;intro j v d;simp[cY]at d;intro j v d;exact(iB (w:=w) (a:=⟨b,o+j,N⟩) (e hl ⟨b,o,N⟩ Q)).trans (c j v d)
def bq.lt(h:bq w (E A) n k s)(hl:s≠[]):A.block<w.heap.size:=by
 obtain⟨c,d,f,g,a|⟨b,o,e,a⟩⟩:=h;simp_all;cases e;exact eI w _ (a 0 _ (by have:=(zm s 0 (qt.2 hl)).1;simpa using this))
def cP(n:Int):Int:=if n<64 then 1 else if n<16384 then 2 else if n<1073741824 then 4 else 8
def Jw(n:Int):((aN n).length:Int)=cP n:=by
 unfold aN cP;split;simp;split;simp;split<;>simp
def vy(n:Int):1<=cP n/\cP n<=8:=by
 unfold cP;grind
def Jy(n:Int):pw n=0/\cP n=1\/pw n=1/\cP n=2\/pw n=2/\cP n=4\/pw n=3/\cP n=8:=by
 unfold pw cP;grind
def xI(n:Int)(w:D):Calls prog 299 #[I U n] w λe d=>e=ξ (I X (cP n))/\d=w:=by
 have c:=J (λW=>BT n W);obtain⟨a,b⟩|⟨a,b⟩|⟨a,b⟩|⟨a,b⟩:=Jy n
 all_goals
  rw[a]at c
  rw[b]
  go_enter func299,ntmps299
  go_wp2_with (first|(go_at_call 295;apply(Z c _).mono;rintro e f⟨rfl,rfl⟩))
  go_ret
  exact⟨Q,Q⟩
def Jz(a c:Int)(w:D):Calls prog 283 #[I U a,I U c] w λe b=>e=ξ (I X (2+cP c+cP a))/\b=w:=by
 have d:=J (λW=>xI a W);have f:=J (λW=>xI c W);have b1:=vy a;have b2:=vy c;generalize cP a=x at *;generalize cP c=y at *;go_enter func283,ntmps283;go_wp2_with fail;apply(Z f _).mono;rintro e g⟨rfl,rfl⟩;go_wp2_with fail;apply(Z d _).mono;rintro e h⟨rfl,rfl⟩;go_wp2;go_ret;exact⟨Q,Q⟩
def zK(r m:Int):Prop:=m<=r-1/\(r-1<=0->m=r-1)/\(0<=r-1->0<=m)/\(0<m->cP m+m<=r)/\∀n,m<n->n<=r-1->r<cP n+n
def JA(off b:Int)(w:D)(F: -1000000000000<=b/\b<=1000000000000):Calls prog 284 #[I U off,I X b] w λe p=>∃m,e=ξ (I X m)/\zK (b-(2+cP off)) m/\p=w:=by
 have b1:=vy off;generalize f:cP off=x at *;replace f:=J f;obtain⟨r,g⟩:=í (b-(2+x));rw[<-g];have e2:X.wrap (b-(2+x))=r:=by simp[IntKind.wrap,IntKind.bits,IntKind.signed];omega
 have H: -1000000000100<=r/\r<=1000000000000:=O;replace g:=J g;go_enter func284,ntmps284;go_wp2_with fail;apply(Z (J (λn W=>xI n W)) _ _).mono;rintro e q⟨rfl,rfl⟩;rw[Z f];go_wp2;go_loopw [5] (λi wr=>∃a:Int,i=I X a/\a<=r-1/\(r-1<=0->a=r-1)/\(0<=r-1->0<=a)/\(∀n,a<n->n<=r-1->r<cP n+n)/\wr=q) (λi _=>(intOf i).toNat);case atStart=>exact⟨r-1,Q,O,λ_=>rfl,λh=>h,λn s l=>by omega,Q⟩
 case round=>
  obtain⟨a,rfl,s,l,t,c,rfl⟩:=hrel;replace c:=J c;by_cases h0:0<a
  .have u:decide (0<a)=ρ:=bU h0;have v:=vy a;have j:=J (λW=>xI a W);obtain⟨y,d⟩:=í (cP a);rw[<-d]at j v;replace d:=J d;by_cases k:r<y+a
   .have z:decide (r<y+a)=ρ:=bU k;go_wp2_with (first|(go_at_call 299;apply(Z j _).mono;rintro e A⟨rfl,rfl⟩));go_roundw;case rel=>exact⟨a-1,Q,O,λh=>by omega,λh=>by omega,λn K B=>by
     by_cases C:n=a;subst C;rw[<-Z d];exact k
     .exact Z c n O B,trivial⟩
    case measure=>simp only[intOf];omega
   have z:decide (r<y+a)=θ:=bT k;go_wp2_with (first|(go_at_call 299;apply(Z j _).mono;rintro e A⟨rfl,rfl⟩));go_ret;exact⟨a,Q,⟨O,λh=>by omega,λh=>by omega,λ_=>by rw[<-Z d];omega,Z c⟩,Q⟩
  have u:decide (0<a)=θ:=bT h0;go_wp2;go_ret;exact⟨a,Q,⟨O,l,t,λh=>by omega,Z c⟩,Q⟩
def Ki(w:D)(sb l:Nat)(o:Ot)(T:kM w sb l o)(k:Int)(x:Rg)(g:Bool):
 Calls prog 243 #[π (E ⟨sb,l,N⟩),I X k,ε #[I U x.lo,I U x.hi,β g,β ρ]] w λe p=>e=ξ (ε #[I X 4,I X k,I U o.ay,I U o.code,β θ,ς ⟨#[]⟩,Y N 0 0])/\G w p N:=by
 obtain⟨c3,c4,c5,c6,c7,c8,-,-⟩:=T;let⟨m,n⟩:=x
 obtain⟨c,d⟩:=í (w.alloc (ο #[I U m,I U n,β g,β ρ] 377));have h:G w c N:=by rw[d];exact aC _ _ _
 have q:c.heap[w.heap.size]?=E (ο #[I U m,I U n,β g,β ρ] 377 (0,0)):=by rw[d];exact aM _ _
 have p3:κ c ⟨w.heap.size,2+1,N⟩=E (β ρ):=by simp[κ,q]
 have r:κ c ⟨w.heap.size,3,N⟩=E (β ρ):=p3;have d3:=ì h c3;have d8:=ì h c8;generalize o.ay=ay at *;generalize o.code=code at *;have i:c.heap.size=w.heap.size+1:=by rw[d];simp
 obtain⟨a,f⟩:=í (c.alloc (ο #[I X 0,I X 0,I U 0,I U 0,β θ,ς ⟨#[]⟩,Y N 0 0] 158));have j:G c a N:=by rw[f];exact aC _ _ _
 have b:a.heap[w.heap.size+1]?=E (ο #[I X 0,I X 0,I U 0,I U 0,β θ,ς ⟨#[]⟩,Y N 0 0] 158 (0,0)):=by rw[f,<-i];exact aM _ _
 have s:=ì j d3;have t:=ì j d8;have u:κ a ⟨w.heap.size+1,0,N⟩=E (I X 0):=by simp[κ,b]
 have y:χ a ⟨w.heap.size+1,0,N⟩=θ:=ç b;have z:κ a ⟨w.heap.size+1,1,N⟩=E (I X 0):=by simp[κ,b]
 have A:χ a ⟨w.heap.size+1,1,N⟩=θ:=ç b;have B:κ a ⟨w.heap.size+1,2,N⟩=E (I U 0):=by simp[κ,b]
 have z2:χ a ⟨w.heap.size+1,2,N⟩=θ:=ç b;have C:κ a ⟨w.heap.size+1,3,N⟩=E (I U 0):=by simp[κ,b]
 have F:χ a ⟨w.heap.size+1,3,N⟩=θ:=ç b;have H:κ a ⟨w.heap.size+1,4,N⟩=E (β θ):=by simp[κ,b]
 have K:χ a ⟨w.heap.size+1,4,N⟩=θ:=ç b;have L:κ a ⟨w.heap.size+1,5,N⟩=E (ς ⟨#[]⟩):=by simp[κ,b]
 have M:χ a ⟨w.heap.size+1,5,N⟩=θ:=ç b;have P:κ a ⟨w.heap.size+1,6,N⟩=E (Y N 0 0):=by simp[κ,b]
 have R:χ a ⟨w.heap.size+1,6,N⟩=θ:=ç b;replace⟨b,i⟩:=aT b i;go_enter func243,ntmps243;go_wp2_with fail;rw[<-d];go_wp2_with fail;rw[<-f];clear f d3 d8 p3 r;go_region;go_wp2_with fail;refine cC (v:=ε #[I X 4,I X k,I U ay,I U code,β θ,ς ⟨#[]⟩,Y N 0 0]) ?_ Q ⟨Q,aK (aD (aD (aD (aD (aD (aD (aD (aq h j) _ _ (φ (dw _))) _ _ (φ (dw _))) _ _ (φ (dw _))) _ _ (φ (dw _))) _ _ (φ (dw _))) _ _ (φ (dw _))) _ _ (φ (dw _)))⟩;simp[results,results243,go_sem, *]
def Ku(t:Nat)(a:Option Addr)(c:Nat)(l:List Int)(n:Int)(w:D)(L:aS w t (Y a l.length c) l)(C:cR n)(ao:t<=w.heap.size)(hl:l.length<=90000000):
 Calls prog 266 #[Y a l.length c,I U n] w λe A=>
  ∃h m,e=ξ (Y h (l.length+(aN n).length) m)/\cL w t (Y a l.length c) A (Y h (l.length+(aN n).length) m) (l++aN n):=by
 let⟨n0,n1⟩:=C
 obtain⟨k,p,H,P,d,hp,R,F⟩:∃(k p:Nat)(H:Int),aN n=kH (n+H) k/\((k=1/\p=0/\H=0)\/(k=2/\p=1/\H=16384)\/(k=4/\p=2/\H=2147483648)\/(k=8/\p=3/\H=13835058055282163712))/\pw n=(p:Int)/\bits .or U n H=n+H/\0<=n+H/\n+H<18446744073709551616:=by
  by_cases b:n<64;refine⟨1,0,0,by rw[Int.add_zero];exact Ie b n0,φ ⟨Q,Q,Q⟩,by simp[pw,b],?_,O⟩
  have:=xu n 0 6 n0 (by simpa using b) Θ;simpa using this;by_cases f:n<16384;exact⟨2,1,16384,Ig b f,ψ (φ ⟨Q,Q,Q⟩),by simp[pw,b,f],by simpa using xu n 1 14 n0 (by simpa using f) Θ,O⟩
  by_cases u:n<1073741824;exact⟨4,2,2147483648,Ih b f u,ψ (ψ (φ ⟨Q,Q,Q⟩)),by simp[pw,b,f,u],by simpa using xu n 2 30 n0 (by simpa using u) Θ,O⟩
  exact⟨8,3,13835058055282163712,Ii b f u C,ψ (ψ (ψ ⟨Q,Q,Q⟩)),by simp[pw,b,f,u],by simpa using xu n 3 62 n0 Ψ Θ,O⟩
 have q:=BU (n+H) k;have x:=Ic (n+H) k;rw[P];rw[q];replace⟨q,x⟩:=aT q x;have a0:1<=k/\k<=8:=O;obtain⟨S,r⟩:∃S:Int,S=8*(k:Int)-8:=⟨_,Q⟩
 replace r:=J r;obtain⟨M,B⟩:=í (n+H);rw[<-B]at R F x q⊢;replace B:=J B;obtain⟨d,rfl,rfl⟩|⟨d,rfl,rfl⟩|⟨d,rfl,rfl⟩|⟨d,rfl,rfl⟩:=d
 all_goals
  replace d:=J d
  go_enter func266,ntmps266
  go_wp2_with (go_at_call 295;apply(BT n _).mono;rintro e A⟨rfl,rfl⟩;rw[hp])
  go_loopw [0,7] (λv i wr=>∃(j:Nat)(h:Option Addr)(m:Nat),j<=k/\i=I X (S-8*(j:Int))/\v=Y h (l.length+j) m/\cL A t (Y a l.length c) wr v (l++(kH M k).take j)) (λ_ i _=>(intOf i+8).toNat)
  case atStart=>exact⟨0,a,c,O,fR (I X) (by have:=Z d;have:=Z r;omega),Q,by simpa using cL.refl L⟩
  case round=>
   obtain⟨j,h,m,hj,rfl,rfl,g⟩:=hrel
   by_cases T:j<k
   .obtain⟨s,hs⟩:∃s:Nat,(s:Int)=S-8*(j:Int):=⟨8*(k-1)-8*j,by have:=Z r;omega⟩
    have K:s=8*(k-1)-8*j:=by have:=Z r;omega
    have a2:s<64:=O;rw[<-hs];replace hs:=J hs;have y:=Z x j T;rw[<-K]at y;replace y:=J y;clear K;have a3:=g.size;have V:W8 (M/2^s %256):=by unfold W8;omega
    have z:(l++(kH M k).take j).length=l.length+j:=by simp[Z q];omega
    replace⟨z,g⟩:=aT z g;let⟨a4,a8⟩:=F
    go_wp2_with (at_builtin;refine jt Ξ _ _ Ξ t _ (l++(kH M k).take j) Ξ (Z (J (g.still (aC wr (ο #[I Δ (M/2^s %256)] 5) N)).own)) _ _ _ [M/2^s %256] Ξ (Z (J (ph wr _ V))) ?_ ?_ ?_;(rw[Z z];simp;omega);(simp;omega);rw[Z z];intro W c3 w3 o3 g3 g4);go_roundw;case rel=>
     refine⟨j+1,W,c3,O,by have:=Z hs;simp;omega,Q,?_⟩
     rw[Z y,<-eF];exact(Z g).app (aC _ _ _) o3 g3 g4
    case measure=>have:=Z hs;simp[intOf];omega
   obtain rfl:j=k:=O
   have bb:¬(0:Int)<=S-8*(j:Int):=by have:=Z r;omega
   go_wp2
   go_ret
   refine⟨h,m,Q,?_⟩
   rw[oe (by rw[Z q];exact aP _)]at g
   exact g
abbrev PN:Ending:=.panicked [{v:=.iface 34 (I X 5),recovered:=θ}]
def dh(w:D)(a:Nat)(sl:υ)(p st:Nat):Prop:=w.heap[a]?=E (ο #[sl,I X p,I X st] 311 (0,0))
def iq(h:w.heap[b]?=E (ο #[x,y,z] T (0,0))):κ w ⟨b,0,N⟩=E x/\κ w ⟨b,1,N⟩=E y/\κ w ⟨b,2,N⟩=E z/\∀o,χ w ⟨b,o,N⟩=θ:=by
 simp[κ,χ,h]
def dh.set{w:D}(h:dh w n x k i)(q:Nat):dh (ζ w ⟨n,1,N⟩ (I X q)) n x q i:=by
 unfold dh at *;rw[heap_set h];rfl
def BS.kq(h:BS w b o L)(n:Nat):BS w b o (L.take n):=by
 refine⟨λi hi=>?_,λx a=>h.2 x (jr a)⟩
 rw[dK]at hi;rw[h.1 i O];grind
def BS.Dr(h:BS w b o L)(n:Nat):BS w b (o+n) (L.drop n):=by
 refine⟨λi hi=>?_,λx a=>h.2 x (iC a)⟩
 rw[fD]at hi;have:=h.1 (n+i) O;grind
def KQ(n x:Int)(h0:0<=n)(d:n<72057594037927936)(a:W8 x):bits .or U (n*256) x=n*256+x:=by
 let⟨c,f⟩:=a
 obtain⟨m,rfl⟩:=qV h0;obtain⟨y,rfl⟩:=qV c;have e:((m:Int)*256)=((m*256:Nat):Int):=O;rw[e,u64_or_nat _ _ O O];have:=zd (i:=8) (b:=y) O m;rw[Nat.shiftLeft_eq]at this;grind
def tS(a:Nat)(w:D):Calls prog 188 #[π (E ⟨a,0,N⟩)] w λe b=>e=PN/\b=w:=by
 go_enter func188,ntmps188;go_wp2;exact⟨Q,Q,Q⟩
def xV(d b o n a:Nat)(l:List Int)(p st:Nat)(k:Nat)(s:Int)(y:s=(k:Int))(w:D)(i:dh w d (Y (E ⟨b,o,N⟩) n a) p st)(j:bD w (E ⟨b,o,N⟩) n a l)(z:b≠d)(hp:p<=l.length)(hl:l.length<=100000000)(F:k<4611686018427387904):
 Calls prog 233 #[π (E ⟨d,0,N⟩),I U s] w λe h=>
  G w h (E d)/\((l.length-p<k/\e=PN/\dh h d (Y (E ⟨b,o,N⟩) n a) p st)\/(k<=l.length-p/\∃t u,e=ξ (Y t k u)/\bD h t k u ((l.drop p).take k)/\dh h d (Y (E ⟨b,o,N⟩) n a) (p+k) st)):=by
 subst y;let⟨H,K,L,M⟩:=iq i
 have f:=j.2.1;have P:=j.2.2.1;have A:=j.2.2.2.1;unfold maxLen at A;have R:X.wrap ((n:Int)-p)=(n:Int)-(p:Int):=ä;have S:U.wrap ((n:Int)-p)=(n:Int)-(p:Int):=by rw[cZ];omega
 have T:X.wrap (k:Int)=(k:Int):=by simp[IntKind.wrap,IntKind.bits,IntKind.signed];omega
 replace f:=J f;by_cases c:l.length-p<k
 .have e1:decide ((n:Int)-p<k)=ρ:=bU (by have:=Z f;omega);replace c:=J c;go_enter func233,ntmps233;go_wp2_with fail;go_quiet (fail);go_wp2_with (go_at_call 188;apply(tS d _).mono;rintro e h⟨rfl,rfl⟩);exact⟨Q,cK (cu (au _ _) _) _,φ ⟨Z c,Q,i⟩⟩
 have e1:decide ((n:Int)-p<k)=θ:=bT (by have:=Z f;omega);have V:(0:Int)<=p:=O;have W:(p:Int)<=p+(k:Int):=O;have i3:(p:Int)+k<=a:=by have:=Z f;omega
 have ak:X.wrap ((p:Int)+k)=(p:Int)+(k:Int):=ä;replace c:=J c;by_cases v:a=p
 .subst v;go_enter func233,ntmps233;go_wp2_with fail;go_quiet (fail);go_wp2_with fail;go_quiet (fail);go_wp2;go_ret;obtain rfl:k=0:=by have:=Z c;have:=Z f;omega
  refine⟨cu (aD (cK (cu (au _ _) _) _) _ _ (ψ Q)) _,ψ ⟨O,E ⟨b,o,N⟩,0,Q,?_,?_⟩⟩
  exact⟨λx m=>by simp at m,Γ,aP _,by simp[maxLen],ψ ⟨_,_,Q,by simpa using BS.nil _ _ _⟩⟩
  exact dh.set (w:=w.drewN _) i (a+0)
 have al:(a=p)=False:=by simp[v]
 have key:Hid (∀q:D,G w q (E d)->bD q (E ⟨b,o+p,N⟩) k (a-p) ((l.drop p).take k)):=J (λq g=>by
  obtain⟨B,-,-,-,⟨r,-⟩|⟨b',o',r,C⟩⟩:=j;cases r
  .cases r;exact⟨λx m=>B x (iC (jr m)),by have:=Z c;simp;omega,by have:=Z f;have:=Z c;omega,by simp[maxLen];omega,ψ ⟨_,_,Q,((C.gb g (λe=>z (aR e).symm)).Dr p).kq k⟩⟩)
 go_enter func233,ntmps233;go_wp2_with fail;go_quiet (fail);go_wp2_with fail;go_quiet (fail);go_wp2;go_ret;refine⟨cu (aD (cK (cu (au _ _) _) _) _ _ (ψ Q)) _,ψ ⟨by have:=Z c;omega,E ⟨b,o+p,N⟩,a-p,(by show ξ (Y (E ⟨b,o+p,N⟩) (p+k-p) (a-p))=_;rw[sZ]),?_,?_⟩⟩
 exact Z key _ (cu (aD (cK (cu (au _ _) _) _) _ _ (ψ Q)) _);exact dh.set (w:=w.drewN _) i (p+k)
def Ds(h:W8 t):(fM t=1/\t/64=0)\/(fM t=2/\t/64=1)\/(fM t=4/\t/64=2)\/(fM t=8/\t/64=3):=by
 unfold W8 at h;unfold fM;grind
def KR(h:W8 t):bits .and Δ t 63=t %64:=by
 let⟨h0,a⟩:=h
 obtain⟨m,rfl⟩:=qV h0;have e:(63:Int)=((63:Nat):Int):=rfl;rw[e,u8_and_nat _ _ O O];have:=Nat.and_two_pow_sub_one_eq_mod m 6;grind
def KS(w:D)(a:Nat)(sl:υ)(st:Nat)(r:Option (Int×Nat))(e:Ending)(b:D):Prop:=
 G w b (E a)/\((∃v q,r=E (v,q)/\e=ξ (I U v)/\dh b a sl q st)\/(r=N/\e=PN/\∃c,dh b a sl c st))
def rE(h:bD w a n k L)(d:0<n:=by omega):∃b o,a=E ⟨b,o,N⟩/\∀i,i<n->κ w ⟨b,o+i,N⟩=E (I Δ (L.getD i 0)):=by
 obtain⟨-,e,f,-,⟨rfl,c⟩|⟨b,o,rfl,c⟩⟩:=h;omega;exact⟨b,o,Q,λi hi=>c.1 i O⟩
def zY(l:List Int)(p k i:Nat)(h:i<k):((l.drop p).take k).getD i 0=l.getD (p+i) 0:=by grind
def xW(h:L.length<n+fM (L.getD n 0)):cE L n=N:=by unfold cE;rw[ê]
def Dt(h:n+fM (L.getD n 0)<=L.length):cE L n=E (gQ L n (fM (L.getD n 0)-1),n+fM (L.getD n 0)):=by unfold cE;rw[aH h]
def vF(b c o n d:Nat)(l:List Int)(p st:Nat)(w:D)(hX:dh w b (Y (E ⟨c,o,N⟩) n d) p st)(y:bD w (E ⟨c,o,N⟩) n d l)(z:c≠b)(hp:p<=l.length)(hl:l.length<=100000000):
 Calls prog 274 #[π (E ⟨b,0,N⟩)] w (KS w b (Y (E ⟨c,o,N⟩) n d) st (cE l p)):=by
 have A:=y.1;have ao:Hid (∀W,G w W (E b)->bD W (E ⟨c,o,N⟩) n d l):=J (λW g=>y.gb g (λj e=>ψ (ψ (λx hx=>by cases hx;cases e;exact z))));go_enter func274,ntmps274;go_wp2_with fail;apply(xV b c o n d l p st 1 1 Q w hX y z hp hl O).mono;rintro e S⟨r,⟨hs,rfl,B⟩|⟨hs,a1,c1,rfl,C,B⟩⟩;exact⟨Q,r,ψ ⟨xW (by have:=tC (l.getD p 0);omega),Q,p,B⟩⟩
 obtain⟨b1,o1,rfl,F⟩:=rE C;have T:=F 0 O;rw[zY _ _ _ _ O,nA,nA]at T;have s:=mR A p;have a:=Ds s;have ha:=KR s;obtain⟨t,f⟩:=í (l.getD p 0);rw[<-f]at T s a ha;have H:gQ l p 0=t %64:=by rw[f];rfl
 have V:=J (λh=>xW (by rw[<-f];exact h));have ai:Hid (p+fM t<=l.length->cE l p=E (gQ l p (fM t-1),p+fM t)):=J (λh=>by rw[f]at h⊢;exact Dt h);let⟨t0,t1⟩:=s
 replace⟨f,F,C,H⟩:=fB f F C H;obtain⟨K,u⟩:=í (fM t-1);have a8:K<=7:=by have:=tC t;omega
 have ak:Hid (fM t=K+1):=J (by have:=tC t;omega);rw[Z ak,oZ]at ai;rw[Z ak]at V;have L:=xq A p;replace L:=J L;obtain⟨a,hd⟩|⟨a,hd⟩|⟨a,hd⟩|⟨a,hd⟩:=a
 all_goals
  rw[a]at u
  replace⟨u,a⟩:=aT u a
  go_wp2_with fail
  refine(xV b c o n d l (p+1) st K _ (by have:=Z u;omega) S B (Z ao S r) z O hl O).mono ?_
  rintro e w2⟨g2,⟨ax,rfl,M⟩|⟨ax,a2,c2,rfl,m,M⟩⟩
  exact⟨Q,aq r g2,ψ ⟨Z V O,Q,p+1,M⟩⟩
  have a0:Hid (∀j,j<K->∃b2 q,a2=E ⟨b2,q,N⟩/\κ w2 ⟨b2,q+j,N⟩=E (I Δ (l.getD (p+1+j) 0))):=J (λj P=>by
   let⟨b2,q,h1,h2⟩:=rE m
   exact⟨b2,q,h1,by rw[h2 j P,zY _ _ _ _ P]⟩)
  have a9:=m.2.2.1
  have a3:=m.2.2.2.1
  unfold maxLen at a3
  replace m:=J m
  go_wp2
  go_loop [4,21] (λv i=>∃j:Nat,j<=K/\i=I X j/\v=I U (gQ l p j)) (λ_ i=>K-(intOf i).toNat)
  case atStart=>exact⟨0,O,Q,by rw[Z H]⟩
  case round=>
   obtain⟨j,P,rfl,rfl⟩:=hrel
   by_cases a4:j<K
   .obtain⟨b2,q,rfl,x2⟩:=Z a0 j a4;have al:=mR A (p+1+j);have R:gQ l p (j+1)=gQ l p j*256+l.getD (p+1+j) 0:=by
     show gQ l p j*256+l.getD (p+j+1) 0=_;rw[show p+j+1=p+1+j by omega]
    have hv:=Z L j;have bb:(256:Int)^j<=256^6:=by
     have:(256:Nat)^j<=256^6:=uJ Θ O;have e:∀k:Nat,(256:Int)^k=((256^k:Nat):Int):=λk=>by simp
     rw[e,e];omega
    have ho:=KQ (gQ l p j) (l.getD (p+1+j) 0) hv.1 O al;have bj:gQ l p j<72057594037927936:=O;obtain⟨br,-⟩:=hv;replace R:=J R;generalize gQ l p j=v at *;generalize l.getD (p+1+j) 0=x at *;let⟨x0,x9⟩:=al
    have bt:U.wrap (v*256)=v*256:=by rw[cZ];omega
    have i1:(0:Int)<=j:=O;have i2:(j:Int)<K:=O;go_wp2;go_round;case rel=>exact⟨j+1,O,Γ,by rw[Z R]⟩
    case measure=>simp[intOf];omega
   obtain rfl:j=K:=O
   go_wp2
   go_ret
   exact⟨aq r g2,φ ⟨gQ l p j,p+(j+1),Z (J (Z ai O)),Q,by rw[show p+(j+1)=p+1+j by omega];exact M⟩⟩
def dq(w:D)(a:Nat)(sl:υ)(p:Nat)(bad:Bool):Prop:=w.heap[a]?=E (ο #[sl,I X p,β bad] 218 (0,0))
def dq.gb{w:D}{r:Option Nat}(h:dq w n x k B)(g:G w W r)(a:r≠E n:=by simp):dq W n x k B:=
 (g.block n (aV.1 h).1 (λe=>a e.symm)).trans h
def dq.lt(h:dq w n x k B):n<w.heap.size:=(aV.1 h).1
def dq.kR(h:dq w n x k B)(b:Bool):dq (ζ w ⟨n,2,N⟩ (β b)) n x k b:=by
 unfold dq at *;rw[heap_set h];rfl
def dq.setAt(h:dq w n x k B)(q:Nat):dq (ζ w ⟨n,1,N⟩ (I X q)) n x q B:=by
 unfold dq at *;rw[heap_set h];rfl
def yP(w:D)(a:Nat)(sl:υ)(p:Nat)(bad:Bool)(r:Option (Int×Nat))(e:Ending)(b:D):Prop:=
 G w b (E a)/\((∃v q,r=E (v,q)/\e=ξ (I U v)/\dq b a sl q bad)\/(r=N/\e=ξ (I U 0)/\dq b a sl p ρ))
def Q2(z A o n B:Nat)(l:List Int)(p:Nat)(bad:Bool)(w:D)(q:dq w z (Y (E ⟨A,o,N⟩) n B) p bad)(L:bD w (E ⟨A,o,N⟩) n B l)(hp:p<=l.length)(hl:l.length<=100000000):
 Calls prog 138 #[π (E ⟨z,0,N⟩)] w (yP w z (Y (E ⟨A,o,N⟩) n B) p bad (cE l p)):=by
 have M:=L.1;have b:=L.2.1;have bA:=q.lt;let⟨x0,x1,x2,xf⟩:=iq q
 by_cases b6:l.length<=p
 .have e1:decide ((n:Int)<=p)=ρ:=α;have e2:decide (n<=p)=ρ:=α;have c:cE l p=N:=xW (by have:=tC (l.getD p 0);omega);replace⟨b,c⟩:=aT b c;go_enter func138,ntmps138;go_wp2_with fail;go_quiet (fail);go_wp2;go_ret;exact⟨aD (cK (cu (au _ _) _) _) _ _ (ψ Q),ψ ⟨Z c,Q,dq.kR (w:=w.drewN _) q ρ⟩⟩
 have e1:decide ((n:Int)<=p)=θ:=é;have e2:decide (n<=p)=θ:=é;let⟨b1,o1,a3,C⟩:=rE L
 cases a3;have y1:=C p O;have P:=mR M p;obtain⟨t,d⟩:=í (l.getD p 0);rw[<-d]at y1 P;have hk:=Ds P;have R:gQ l p 0=t %64:=by rw[d];rfl
 obtain⟨a,T,u,b8⟩:∃a:Nat,t/64=(a:Int)/\fM t=2^a/\a<=3:=by
  obtain⟨f,g⟩|⟨f,g⟩|⟨f,g⟩|⟨f,g⟩:=hk
  exact⟨0,g,f,O⟩
  exact⟨1,g,f,O⟩
  exact⟨2,g,f,O⟩
  exact⟨3,g,f,O⟩
 obtain⟨K,m⟩:=í (2^a);have ca:1<=K/\K<=8:=by
  rw[m];have e:a=0\/a=1\/a=2\/a=3:=O;obtain rfl|rfl|rfl|rfl:=e<;>decide
 have V:p+K<=l.length->cE l p=E (gQ l p (K-1),p+K):=λh=>by
  have:=Dt (L:=l) (n:=p) (by rw[<-d,u,<-m];exact h);rwa[<-d,u,<-m]at this
 have c:l.length<p+K->cE l p=N:=λh=>xW (by rw[<-d,u,<-m];exact h)
 have W:=xq M p;obtain⟨F,ai,ak,al⟩:∃F:Nat->Nat,F 0=1/\F a=K/\∀j,j<a->F j<=4/\F (j+1)=2*F j:=⟨λj=>2^j,Q,m.symm,λj hj=>by
  have e:j=0\/j=1\/j=2:=O;obtain rfl|rfl|rfl:=e<;>decide⟩
 replace⟨ai,ak,al⟩:=cA ai ak al;let⟨t0,t1⟩:=P
 have i1:(0:Int)<=p:=O;have i2:(p:Int)<n:=O;replace⟨C,b,d,R,u,m,V,c,W⟩:=rC C b d R u m V c W;replace T:=J T;go_enter func138,ntmps138;go_wp2_with fail;go_quiet (fail);go_wp2_with fail;go_quiet (fail);go_wp2_with fail;go_quiet (fail);go_wp2;go_loop [4,5] (λs k=>∃j:Nat,j<=a/\k=I Δ ((a:Int)-j)/\s=I X ((F j:Nat):Int)) (λ_ k=>(intOf k).toNat);case atStart=>exact⟨0,O,by rw[Z T];simp,by rw[Z ai];rfl⟩
 case round=>
  obtain⟨j,hj,rfl,rfl⟩:=hrel;by_cases bb:j<a
  .let⟨q1,H⟩:=Z al j bb
   obtain⟨S,hS⟩:=í (F j);rw[<-hS]at q1 H⊢;replace⟨hS,H⟩:=aT hS H;obtain⟨r,y⟩:∃r:Nat,(r:Int)+1=(a:Int)-(j:Int):=⟨a-j-1,O⟩
   rw[<-y];replace y:=J y;have ch:r<=2:=by have:=Z y;omega
   go_wp2;go_round;case rel=>exact⟨j+1,O,by have:=Z y;simp;omega,by rw[Z H,show((2*S:Nat):Int)=(S:Int)*2 by omega]⟩
   case measure=>simp[intOf];omega
  obtain rfl:j=a:=O;rw[Z ak,Int.sub_self];have cm:X.wrap ((p:Int)+K)=(p:Int)+(K:Int):=ä;by_cases br:p+K<=l.length
  .have e5:decide ((n:Int)<p+(K:Int))=θ:=bT (by have:=Z b;omega);have a2:=J (Z V br);go_wp2_with fail;go_quiet (fail);go_wp2;go_loopw [3,6] (λv i wr=>∃j:Nat,j+1<=K/\i=I X ((j:Int)+1)/\v=I U (gQ l p j)/\G w wr N/\dq wr z (Y (E ⟨A,o,N⟩) n B) p bad) (λ_ i _=>K-(intOf i).toNat);case atStart=>exact⟨0,O,Q,by rw[Z R],(by repeat(first|exact au _ _|refine cu ?_ _)),q⟩
   case round=>
    obtain⟨i,hi,rfl,rfl,gi,a0⟩:=hrel;let⟨z0,z1,z2,zf⟩:=iq a0
    by_cases cw:i+1<K
    .have y3:=gi.cell (Z C (p+(i+1)) (by have:=Z b;omega)) Γ;have bw:=mR M (p+(i+1));have a1:gQ l p (i+1)=gQ l p i*256+l.getD (p+(i+1)) 0:=rfl;have hv:=Z W i;have cy:(256:Int)^i<=256^6:=by
      have:(256:Nat)^i<=256^6:=uJ Θ O;have e:∀k:Nat,(256:Int)^k=((256^k:Nat):Int):=λk=>by simp
      rw[e,e];omega
     have c9:gQ l p i<72057594037927936:=O;obtain⟨da,-⟩:=hv;replace a1:=J a1;generalize gQ l p i=v at *;generalize l.getD (p+(i+1)) 0=x at *;let⟨x3,x4⟩:=bw
     have de:U.wrap (v*256)=v*256:=by rw[cZ];omega
     have dg:U.wrap (v*256+x)=v*256+x:=by rw[cZ];omega
     have dk:X.wrap ((p:Int)+((i:Int)+1))=(p:Int)+((i:Int)+1):=ä;have i3:(0:Int)<=p+((i:Int)+1):=O;have i4:(p:Int)+((i:Int)+1)<(n:Int):=by have:=Z b;omega
     have du:((p:Int)+((i:Int)+1)).toNat=p+(i+1):=O;go_wp2_with fail;go_quiet (fail);go_wp2;go_roundw;case rel=>exact⟨i+1,O,Γ,by rw[Z a1],cu gi _,a0⟩
     case measure=>simp[intOf];omega
    obtain rfl:K=i+1:=O;rw[oZ]at a2;go_wp2;go_ret;exact⟨aD (cK gi _) _ _ (ψ Q),φ ⟨_,_,Z a2,Q,dq.setAt a0 (p+(i+1))⟩⟩
  have e5:decide ((n:Int)<p+(K:Int))=ρ:=bU (by have:=Z b;omega);have bz:=J (Z c O);go_wp2_with fail;go_quiet (fail);go_wp2;go_ret;exact⟨aD (cK (cu (au _ _) _) _) _ _ (ψ Q),ψ ⟨Z bz,Q,dq.kR (w:=w.drewN _) q ρ⟩⟩
def vY(w:D)(a:Nat)(sl:υ)(len:Nat)(b:D):Prop:=G w b (E a)/\∃q,q<=len/\dq b a sl q ρ
def yP.bad{e:Ending}(c:∀x∈L,W8 x)(hp:k<=L.length)(h:yP w n y k ρ (cE L k) e W):(∃v,e=ξ (I U v)/\cR v)/\vY w n y L.length W:=by
 obtain⟨g,⟨v,q,b,rfl,a⟩|⟨b,rfl,a⟩⟩:=h;have:=ig c b;exact⟨⟨v,Q,this.1⟩,g,q,this.2.2,a⟩
 exact⟨⟨0,Q,by simp[cR]⟩,g,k,hp,a⟩
structure pN(w:D)(c a o n d:Nat)(l:List Int)(p:Nat)(bad:Bool):Prop where
 x:dq w c (Y (E ⟨a,o,N⟩) n d) p bad
 b:bD w (E ⟨a,o,N⟩) n d l
 xb:a≠c
 hp:p<=l.length
 hl:l.length<=100000000
def pN.next{X:Nat}{c:Bool}(h:pN w X k o n i L m B)(g:G w W (E X))(a:dq W X (Y (E ⟨k,o,N⟩) n i) j c)(d:j<=L.length):pN W X k o n i L j c:=
 ⟨a,h.b.gb g (λf e=>ψ (ψ (λx a=>by cases a;cases e;exact h.xb))),h.xb,d,h.hl⟩
def pN.num(h:pN w k i o n j L m B):Calls prog 138 #[π (E ⟨k,0,N⟩)] w (yP w k (Y (E ⟨i,o,N⟩) n j) m B (cE L m)):=
 Q2 k i o n j L m B w h.x h.b h.hp h.hl
def Q3(w:D)(a:Nat)(sl:υ)(len:Nat)(bad:Bool)(r:Option (Int×Nat))(e:Ending)(b:D):Prop:=
 (G w b (E a)/\∃v q,r=E (v,q)/\e=ξ (I X v)/\dq b a sl q bad)\/(r=N/\e=ξ (I X 0)/\vY w a sl len b)
def Q4(f j o n k:Nat)(l:List Int)(p:Nat)(bad:Bool)(w:D)(h:pN w f j o n k l p bad):
 Calls prog 137 #[π (E ⟨f,0,N⟩)] w (Q3 w f (Y (E ⟨j,o,N⟩) n k) l.length bad (fH l p)):=by
 go_enter func137,ntmps137;go_wp2_with fail;apply h.num.mono;rintro e r⟨g,⟨v,q,a,rfl,d⟩|⟨a,rfl,d⟩⟩
 .let⟨⟨s,t⟩,u,m⟩:=ig h.b.1 a
  let⟨x,y,z,A⟩:=iq d
  replace a:=J a;by_cases B:4<=v
  .have c:fH l p=N:=by unfold fH;rw[Z a];simp;omega
   replace c:=J c;go_wp2;go_ret;exact ψ ⟨Z c,Q,aD g _ _ (ψ Q),q,m,d.kR ρ⟩
  have i:fH l p=E (v,q):=by unfold fH;rw[Z a];simp;omega
  replace i:=J i;go_wp2;go_ret;exact φ ⟨g,v,q,Z i,Q,d⟩
 have c:fH l p=N:=by unfold fH;rw[a];rfl
 replace c:=J c;go_wp2;go_ret;exact ψ ⟨Z c,Q,g,p,h.hp,d⟩
def Q5(w:D)(a:Nat)(sl:υ)(len:Nat)(r:Option (ByteArray×Nat))(e:Ending)(b:D):Prop:=
 (G w b (E a)/\∃v q,r=E (v,q)/\e=ξ (ς v)/\dq b a sl q θ)\/(r=N/\e=ξ (ς {data:= #[]})/\vY w a sl len b)
def Q6(a c o n d:Nat)(l:List Int)(p:Nat)(w:D)(h:pN w a c o n d l p ρ):
 Calls prog 139 #[π (E ⟨a,0,N⟩)] w λe g=>e=ξ (ς {data:= #[]})/\vY w a (Y (E ⟨c,o,N⟩) n d) l.length g:=by
 go_enter func139,ntmps139;go_wp2_with fail;apply h.num.mono;intro e i j;obtain⟨⟨v,rfl,r⟩,k,q,m,f⟩:=j.bad h.b.1 h.hp;let⟨s,t,u,x⟩:=iq f
 go_wp2_with fail;go_quiet (fail);go_wp2;go_ret;exact⟨Q,aD (cu k _) _ _ (ψ Q),q,m,dq.kR (w:=i.drewN _) f ρ⟩
def Q7(z r o n c:Nat)(l:List Int)(p:Nat)(w:D)(h:pN w z r o n c l p θ):
 Calls prog 139 #[π (E ⟨z,0,N⟩)] w (Q5 w z (Y (E ⟨r,o,N⟩) n c) l.length (ju l p)):=by
 have d:=h.b.2.1;have hl:=h.hl;have ao:=h.b.2.2.1;have H:=h.b.2.2.2.1;unfold maxLen at H;go_enter func139,ntmps139;go_wp2_with fail;apply h.num.mono;rintro e i⟨s,⟨v,q,a,rfl,f⟩|⟨a,rfl,f⟩⟩
 .let⟨⟨v0,v1⟩,v2,C⟩:=ig h.b.1 a
  obtain⟨k,K⟩:∃k:Nat,v=(k:Int):=⟨v.toNat,O⟩
  subst K;let⟨L,M,P,R⟩:=iq f
  have a2:X.wrap ((n:Int)-q)=(n:Int)-(q:Int):=ä;have a3:U.wrap ((n:Int)-q)=(n:Int)-(q:Int):=by rw[cZ];omega
  have a4:X.wrap (k:Int)=(k:Int):=by simp[IntKind.wrap,IntKind.bits,IntKind.signed];omega
  replace⟨d,a⟩:=aT d a;by_cases a8:l.length-q<k
  .have e1:decide ((n:Int)-q<k)=ρ:=bU (by have:=Z d;omega);have j:ju l p=N:=by
    unfold ju;rw[Z a];simp only[dX]
    rw[ê]
   replace j:=J j;go_wp2_with fail;go_quiet (fail);go_wp2;go_ret;exact ψ ⟨Z j,Q,aD (cu s _) _ _ (ψ Q),q,C,dq.kR (w:=i.drewN _) f ρ⟩
  have e1:decide ((n:Int)-q<k)=θ:=bT (by have:=Z d;omega);have u:ju l p=E (strOfNums ((l.drop q).take k),q+k):=by
   unfold ju;rw[Z a];simp only[dX]
   rw[è];simp
  have i1:(0:Int)<=q:=O;have i2:(q:Int)<=q+(k:Int):=O;have i3:(q:Int)+k<=c:=by have:=Z d;omega
  have br:X.wrap ((q:Int)+k)=(q:Int)+(k:Int):=ä;have F:∀W:D,G i W N->∀y t,(y=E ⟨r,o+q,N⟩/\k<=t/\t<=c\/(k=0/\y=E ⟨r,o,N⟩/\t=0))->bD W y k t ((l.drop q).take k):=λW g y t A=>by
   obtain⟨S,-,-,k4,⟨B,-⟩|⟨b',o',B,T⟩⟩:=(h.next s f C).b.ag g;cases B;cases B;refine⟨λx V=>S x (iC (jr V)),Ψ,?_,?_,?_⟩
   obtain⟨-,h,-⟩|⟨h,-,h'⟩:=A<;>omega
   obtain⟨-,-,h⟩|⟨-,-,h'⟩:=A<;>omega
   obtain⟨rfl,-,-⟩|⟨h,rfl,-⟩:=A
   exact ψ ⟨_,_,Q,(T.Dr q).kq k⟩;subst h;exact ψ ⟨_,_,Q,by simpa using BS.nil _ _ _⟩
  replace u:=J u;by_cases ak:c=q
  .obtain rfl:k=0:=by have:=Z d;omega
   have al:=λm=>nG (F (i.drewN m) (cu (au _ _) _) (E ⟨r,o,N⟩) 0 (ψ ⟨Q,Q,Q⟩))
   have bx:decide ((n:Int)-q<0)=θ:=bT (by have:=Z d;omega);have bz:X.wrap (q:Int)=(q:Int):=by simp[IntKind.wrap,IntKind.bits,IntKind.signed];omega
   have i5:(q:Int)<=c:=O;have i6:(q:Int)<=q:=O;go_wp2_with fail;go_quiet (fail);go_wp2_with fail;go_quiet (fail);go_wp2;go_ret;exact φ ⟨aD (cu s _) _ _ (ψ Q),_,q+0,Z u,Q,dq.setAt (w:=i.drewN _) f (q+0)⟩
  have b3:(c=q)=False:=by simp[ak]
  have al:=λm=>nG (F (i.drewN m) (cu (au _ _) _) (E ⟨r,o+q,N⟩) (c-q) (φ ⟨Q,by have:=Z d;omega,O⟩))
  go_wp2_with fail;go_quiet (fail);go_wp2_with fail;go_quiet (fail);go_wp2;go_ret;exact φ ⟨aD (cu s _) _ _ (ψ Q),_,q+k,Z u,Q,dq.setAt (w:=i.drewN _) f (q+k)⟩
 have j:ju l p=N:=by unfold ju;rw[a];rfl
 let⟨L,M,P,R⟩:=iq f
 replace⟨j,a⟩:=aT j a;go_wp2_with fail;go_quiet (fail);go_wp2;go_ret;exact ψ ⟨Z j,Q,aD (cu s _) _ _ (ψ Q),p,h.hp,dq.kR (w:=i.drewN _) f ρ⟩
def oO(n hd:Int)(k j:Nat):Int:=n/256^(k-1-j) %256+if j=0 then hd*64 else 0
def jR(n hd:Int)(k:Nat):List Int:=(List.range k).map (oO n hd k)
def Gt(n hd:Int)(k:Nat):(jR n hd k).length=k:=by simp[jR]
def Rm(n hd:Int)(k j:Nat)(h:j<k):(jR n hd k).take (j+1)=(jR n hd k).take j++[oO n hd k j]:=by
 have hl:j<(jR n hd k).length:=by rw[Gt];exact h
 rw[oa hl];simp[jR]
def Rn(h:p<64)(h0:0<=p):aN p=jR p 0 1:=by
 simp[aN,jR,oO,h];omega
def Ro(h:¬p<64)(a:p<16384):aN p=jR p 1 2:=by
 simp[aN,jR,oO,h,a,rV];omega
def Rp(h:¬p<64)(a:¬p<16384)(b:p<1073741824):aN p=jR p 2 4:=by
 simp[aN,jR,oO,h,a,b,rV];omega
def Rq(h:¬p<64)(a:¬p<16384)(b:¬p<1073741824)(c:cR p):aN p=jR p 3 8:=by
 unfold cR at c;simp[aN,jR,oO,h,a,b,rV];omega
def Rr(n:Int)(q:Nat):n/256^q/256=n/256^(q+1):=by
 rw[Int.ediv_ediv_of_nonneg (Int.le_of_lt (Int.pow_pos Θ)),Int.pow_succ]
def Rt(h:cR p)(q:Nat):0<=p/256^q/\p/256^q<=4611686018427387903:=by
 unfold cR at h;have hp:(0:Int)<256^q:=Int.pow_pos Θ;exact⟨Int.ediv_nonneg h.1 (Int.le_of_lt hp),Int.le_trans (Int.ediv_le_self _ h.1) h.2⟩
def Ru(m:Nat)(a:Option Addr)(c:Nat)(l:List Int)(n:Int)(w:D)(ho:aS w m (Y a l.length c) l)(hn:cR n)(cm:m<=w.heap.size)(hl:l.length<=90000000):
 Calls prog 141 #[Y a l.length c,I U n] w λe w'=>
  ∃u z,e=ξ (Y u (l.length+(aN n).length) z)/\cL w m (Y a l.length c) w' (Y u (l.length+(aN n).length) z) (l++aN n):=by
 have bb:=hn;obtain⟨n0,n1⟩:=hn;obtain⟨k,hd,hv,d⟩:∃(k:Nat)(hd:Int),aN n=jR n hd k/\((k=1/\hd=0/\n<64)\/(k=2/\hd=1/\¬n<64/\n<16384)\/(k=4/\hd=2/\¬n<16384/\n<1073741824)\/(k=8/\hd=3/\¬n<1073741824)):=by
  by_cases f:n<64;exact⟨1,0,Rn f n0,φ ⟨Q,Q,f⟩⟩
  by_cases t:n<16384;exact⟨2,1,Ro f t,ψ (φ ⟨Q,Q,f,t⟩)⟩
  by_cases M:n<1073741824;exact⟨4,2,Rp f t M,ψ (ψ (φ ⟨Q,Q,t,M⟩))⟩
  exact⟨8,3,Rq f t M bb,ψ (ψ (ψ ⟨Q,Q,M⟩))⟩
 have C:=Gt n hd k;have ai:=Rm n hd k;have ak:=Rt bb;have al:=Rr n;rw[hv,C];clear hv;have ct:1<=k/\k<=8:=O;obtain⟨S,g⟩:∃S:Int,S=(k:Int)-1:=⟨_,Q⟩
 have ao:∀j,j<k->W8 (oO n hd k j):=by
  intro j hj;unfold oO W8;by_cases h0:j=0;subst h0;simp only[fw,Nat.sub_zero]
  obtain⟨rfl,rfl,h⟩|⟨rfl,rfl,h,h'⟩|⟨rfl,rfl,h,h'⟩|⟨rfl,rfl,h⟩:=d<;>simp<;>omega
  simp only[h0,iJ];omega
 replace⟨C,ai,g,ak,al,ao⟩:=mY C ai g ak al ao;have b3:Hid ((k=1/\hd=0)\/(k=2/\hd=1)\/(k=4/\hd=2)\/(k=8/\hd=3)):=J O;obtain⟨d,A,f⟩|⟨d,A,f,t⟩|⟨d,A,f,t⟩|⟨d,A,f⟩:=d
 all_goals
  first|(have e1:decide (1073741824<=n)=ρ:=by simp;omega)|(have e1:decide (1073741824<=n)=θ:=by simp;omega)
  first|(have e2:decide (16384<=n)=ρ:=by simp;omega)|(have e2:decide (16384<=n)=θ:=by simp;omega)
  first|(have e3:decide (64<=n)=ρ:=by simp;omega)|(have e3:decide (64<=n)=θ:=by simp;omega)
  replace⟨d,A⟩:=aT d A
  go_enter func141,ntmps141
  go_wp2_with fail
  clear e1 e2 e3
  first|(have F:Hid ((0:Int)=S):=J (by have:=Z d;have:=Z g;omega))|(have F:Hid ((1:Int)=S):=J (by have:=Z d;have:=Z g;omega))|(have F:Hid ((3:Int)=S):=J (by have:=Z d;have:=Z g;omega))|(have F:Hid ((7:Int)=S):=J (by have:=Z d;have:=Z g;omega))
  go_loopw [0,7] (λv i wr=>∃(j:Nat)(u:Option Addr)(z:Nat),j<=k/\i=I X (S-(j:Int))/\v=Y u (l.length+j) z/\cL w m (Y a l.length c) wr v (l++(jR n hd k).take j)) (λ_ i _=>(intOf i+1).toNat)
  case atStart=>exact⟨0,a,c,O,fR (I X) (by have:=Z d;have:=Z g;omega),Q,by simpa using cL.refl ho⟩
  case round=>
   obtain⟨j,u,z,hj,rfl,rfl,p⟩:=hrel
   have hh:0<=hd/\hd<=3:=by have:=Z b3;omega
   obtain⟨cv,cw⟩:=hh
   by_cases bt:j<k
   .obtain⟨s,hs⟩:∃s:Nat,(s:Int)=S-(j:Int):=⟨k-1-j,by have:=Z g;omega⟩
    have ax:s=k-1-j:=by have:=Z g;omega
    have cx:s<8:=O;rw[<-hs];replace⟨hs,ax,p⟩:=cA hs ax p;go_wp2;go_loop [8,9] (λb q=>∃r:Nat,r<=s/\q=I X r/\b=I U (n/256^r)) (λ_ q=>s-(intOf q).toNat);case atStart=>exact⟨0,O,Q,Γ⟩
    case round=>
     obtain⟨r,hr,rfl,rfl⟩:=hrel;have b5:=Z ak r;have bw:=J (Z al r);obtain⟨d0,d1⟩:=b5;obtain⟨x,P⟩:=í (n/256^r);rw[<-P]at d0 d1 bw⊢;by_cases c9:r<s
     .go_wp2_with fail;go_round;case rel=>exact⟨r+1,O,by go_num,by rw[<-Z bw];go_num⟩
      case measure=>simp[intOf];omega
     obtain rfl:r=s:=O;have a0:=Z ao j bt;have R:oO n hd k j=x %256+if j=0 then hd*64 else 0:=by unfold oO;rw[<-Z ax,P]
     have T:=Z ai j bt;have B:(l++(jR n hd k).take j).length=l.length+j:=by simp[Z C];omega
     have V:=λy h=>ph wr y h
     have W:=λy=>((Z p).still (aC wr (ο #[I Δ y] 5) N)).own
     have da:=(Z p).size;replace⟨B,T,P,a0,V,W,R⟩:=mX B T P a0 V W R;by_cases a1:j=0
     .have H:∀L:Int,L=S->((r:Int)==L)=ρ:=λL hL=>by have:=Z hs;simp;omega
      replace H:=H _ (Z F);have b7:=J a1;clear a1;go_wp2_with (at_builtin;refine jt Ξ _ _ Ξ m _ (l++(jR n hd k).take j) Ξ (Z W _) _ _ _ [_] Ξ (Z V _ ?_) ?_ ?_ ?_;(unfold W8;omega);(rw[Z B];simp;omega);(simp;omega);rw[Z B];intro K c3 w3 o3 g3 g4);refine⟨⟨j+1,K,c3,O,by have:=Z hs;simp;omega,Q,?_⟩,by have:=Z hs;simp[intOf]<;>omega⟩
      rw[Z T,<-eF];have h9:=Z R;have ca:=Z a0;rw[aH (Z b7)]at h9;have db:=Z A;unfold W8 at ca;have cc:∀y,y=oO n hd k j->aS w3 m (Y K (l.length+j+1) c3) (l++(jR n hd k).take j++[y])->cL w m (Y a l.length c) w3 (Y K (l.length+j+1) c3) (l++(jR n hd k).take j++[oO n hd k j]):=by
       intro y hy hO;rw[<-hy];exact(Z p).app (aC _ _ _) hO g3 g4
      exact cc _ O o3
     have H:∀L:Int,L=S->((r:Int)==L)=θ:=λL hL=>by have:=Z hs;simp;omega
     replace H:=H _ (Z F);go_wp2_with (at_builtin;refine jt Ξ _ _ Ξ m _ (l++(jR n hd k).take j) Ξ (Z W _) _ _ _ [_] Ξ (Z V _ ?_) ?_ ?_ ?_;(unfold W8;omega);(rw[Z B];simp;omega);(simp;omega);rw[Z B];intro K c3 w3 o3 g3 g4);refine⟨⟨j+1,K,c3,O,by have:=Z hs;simp;omega,Q,?_⟩,by have:=Z hs;simp[intOf]<;>omega⟩
     rw[Z T,<-eF,Z R,aE a1,Int.add_zero];exact(Z p).app (aC _ _ _) o3 g3 g4
   obtain rfl:j=k:=O
   have dc:¬(0:Int)<=S-(j:Int):=by have:=Z g;omega
   go_wp2
   go_ret
   refine⟨u,z,Q,?_⟩
   rw[oe (by rw[Z C];exact aP _)]at p
   exact p
