import Derived.Deep.CutBlock
import Derived.Recover
import Derived.RegionDies
import Derived.Test.YtjnmokmchdfchaaGreatDoorX2
set_option maxRecDepth 1000000
set_option maxHeartbeats 0
set_option linter.all false
namespace Go.Proofs.YtjnmokmchdfchaaGreatDoor
open Go.RowKit Tryz
attribute[local go_sem↓]Go.wp_at_zero Go.wp_at_succ
variable{F:Act}{A:Addr}{H:Exit->Act->World->Prop}{G:Fr}{t:Int}{L:List Int}{D:List Rg}{b i j k l m n o:Nat}{u:Oper}{a:Option Addr}{N:Option Nat}{T:TypeId}{x y z:Value}{W v w:World}
structure Sh where
 k:Int
 fin:Bool
 t:Int
 pa:Option Addr
 n:Nat
def bV(a b c d e:Nat):List Sh:=
 [⟨1,false,0,none,0⟩,⟨2,false,1,none,0⟩,⟨3,false,2,some ⟨a,0,none⟩,1⟩,⟨4,false,4,some ⟨b,0,none⟩,3⟩,⟨5,false,8,some ⟨c,0,none⟩,3⟩,⟨5,true,9,some ⟨d,0,none⟩,3⟩,⟨6,false,28,some ⟨e,0,none⟩,1⟩]
def bF(l:List Sh)(j:Nat):Sh:=l.getD j ⟨0,false,0,none,0⟩
def qH(h:j<7):j=0\/j=1\/j=2\/j=3\/j=4\/j=5\/j=6:=by omega
def jN.at{f g:Nat}(h:jN W l m o b i j f g)(a:Nat)(p:a<7):
 W.cell? ⟨l,a*4,none⟩=some (.int .i64 (bF (bV m o b i j) a).k)/\W.cell? ⟨l,a*4+1,none⟩=some (.bool (bF (bV m o b i j) a).fin)/\W.cell? ⟨l,a*4+2,none⟩=some (.int .u8 (bF (bV m o b i j) a).t)/\W.cell? ⟨l,a*4+3,none⟩=some (.slice (bF (bV m o b i j) a).pa (bF (bV m o b i j) a).n (bF (bV m o b i j) a).n):=by
 have c:=λ(d:Nat)(v:Value)(e:(B8 m o b i j)[d]?=some v)=>h.tab d v e
 simp only[dY]at c;obtain rfl|rfl|rfl|rfl|rfl|rfl|rfl:=qH p<;>exact⟨c _ _ rfl,c _ _ rfl,c _ _ rfl,c _ _ rfl⟩
def jz{a:Value}(h:w.heap[b]?=some (.cells #[x,y,z,a] T (0,0))):w.cell? ⟨b,0,none⟩=some x/\w.cell? ⟨b,1,none⟩=some y/\w.cell? ⟨b,2,none⟩=some z/\w.cell? ⟨b,3,none⟩=some a/\∀o,w.frozen? ⟨b,o,none⟩=false:=by
 simp[World.cell?,World.frozen?,h]
def Jg(w:World)(T a b c l m Bo Bc:Nat)(X:jN w T a b c l m Bo Bc)(f:Fr)(y:Value):
 Calls prog 191 #[.slice (some ⟨T,0,none⟩) 7 7,.agg (bO f y)] w λe A=>
  ((∃j,j<7/\(bF (bV a b c l m) j).k=f.kind/\(bF (bV a b c l m) j).fin=(f.fin&&decide (f.kind=5))/\e=.returned (.tuple #[.agg #[.int .i64 (bF (bV a b c l m) j).k,.bool (bF (bV a b c l m) j).fin,.int .u8 (bF (bV a b c l m) j).t,.slice (bF (bV a b c l m) j).pa (bF (bV a b c l m) j).n (bF (bV a b c l m) j).n],.bool true]))\/
    ((∀j,j<7->¬((bF (bV a b c l m) j).k=f.kind/\(bF (bV a b c l m) j).fin=(f.fin&&decide (f.kind=5))))/\e=.returned (.tuple #[.agg #[.int .i64 0,.bool false,.int .u8 0,.slice none 0 0],.bool false])))/\w.grownBy A none:=by
 have P:=λ(W:World)(g:w.grownBy W none)=>(X.an g).at
 generalize bV a b c l m=L at *;clear X;obtain⟨k,s,o,cd,fin,d,rg⟩:=f;obtain⟨R,r⟩:∃R:Ending->World->Prop,R=λe A=>((∃j,j<7/\(bF L j).k=k/\(bF L j).fin=(fin&&decide (k=5))/\e=.returned (.tuple #[.agg #[.int .i64 (bF L j).k,.bool (bF L j).fin,.int .u8 (bF L j).t,.slice (bF L j).pa (bF L j).n (bF L j).n],.bool true]))\/
  ((∀j,j<7->¬((bF L j).k=k/\(bF L j).fin=(fin&&decide (k=5))))/\e=.returned (.tuple #[.agg #[.int .i64 0,.bool false,.int .u8 0,.slice none 0 0],.bool false])))/\w.grownBy A none:=⟨_,rfl⟩
 show Calls prog 191 #[.slice (some ⟨T,0,none⟩) 7 7,.agg #[.int .i64 k,.int .i64 s,.int .u64 o,.int .u64 cd,.bool fin,.string d,y]] w (λe A=>((∃j,j<7/\(bF L j).k=k/\(bF L j).fin=(fin&&decide (k=5))/\e=.returned (.tuple #[.agg #[.int .i64 (bF L j).k,.bool (bF L j).fin,.int .u8 (bF L j).t,.slice (bF L j).pa (bF L j).n (bF L j).n],.bool true]))\/
  ((∀j,j<7->¬((bF L j).k=k/\(bF L j).fin=(fin&&decide (k=5))))/\e=.returned (.tuple #[.agg #[.int .i64 0,.bool false,.int .u8 0,.slice none 0 0],.bool false])))/\w.grownBy A none)
 rw[<-r];obtain⟨q,Q⟩:∃q:Bool,q=(fin&&decide (k=5)):=⟨_,rfl⟩
 rw[<-Q]at r;replace⟨r,P⟩:=bA r P;have B:∀W:World,(((w.alloc (.cells #[.int .i64 k,.int .i64 s,.int .u64 o,.int .u64 cd,.bool fin,.string d,y] 158)).alloc (.cells #[.int .i64 0,.bool false,.int .u8 0,.slice none 0 0] 317))).grownBy W none->W.heap[w.heap.size]?=some (.cells #[.int .i64 k,.int .i64 s,.int .u64 o,.int .u64 cd,.bool fin,.string d,y] 158 (0,0))/\W.heap[w.heap.size+1]?=some (.cells #[.int .i64 0,.bool false,.int .u8 0,.slice none 0 0] 317 (0,0))/\w.grownBy W none:=λW g=>
  ⟨(g.block _ (by simp;omega) (by simp)).trans (by rw[fE _ _ _ (by simp)];exact aO _ _),(g.block _ (by simp) (by simp)).trans (by rw[<-dL w (.cells #[.int .i64 k,.int .i64 s,.int .u64 o,.int .u64 cd,.bool fin,.string d,y] 158)];exact aO _ _),aq (aY (aH _ _ _) _) g⟩
 replace B:=J B;obtain⟨W0,C⟩:=exq ((w.alloc (.cells #[.int .i64 k,.int .i64 s,.int .u64 o,.int .u64 cd,.bool fin,.string d,y] 158)).alloc (.cells #[.int .i64 0,.bool false,.int .u8 0,.slice none 0 0] 317));rw[<-C]at B;obtain⟨D,E⟩:∃D:Nat->Prop,D=λj=>¬((bF L j).k=k/\(bF L j).fin=q):=⟨_,rfl⟩
 have a1:(fin=false/\q=false)\/(fin=true/\(k==5)=true/\q=true)\/(fin=true/\(k==5)=false/\q=false):=by
  rw[Q];cases fin;simp;by_cases h5:k=5<;>simp[h5]
 clear Q;replace E:=J E;obtain⟨rfl,rfl⟩|⟨rfl,Y,rfl⟩|⟨rfl,Y,rfl⟩:=a1
 all_goals
  go_enter func191,ntmps191
  go_wp2_with fail
  try clear Y
  rw[<-C]
  replace C:=J C
  go_loopw [18] (λi wr=>∃j:Nat,j<=7/\i=.int .i64 j/\(∀i,i<j->D i)/\W0.grownBy wr none) (λi _=>7-(intOf i).toNat)
  case atStart=>exact⟨0,by omega,rfl,λi hi=>by omega,aB _ _⟩
  case round=>
   obtain⟨j,hj,rfl,z,U⟩:=hrel
   obtain⟨b1,b2,F⟩:=Z B wr U
   by_cases V:j<7
   ·obtain⟨c1,c2,c3,c4⟩:=Z P wr F j V;obtain⟨S,p⟩:=exq (bF L j);rw[<-p]at c1 c2 c3 c4;obtain⟨K,G,H,I,PN⟩:=S;simp only at c1 c2 c3 c4;have al:Hid (¬(K=k/\G=_)->∀i,i<j+1->D i):=J (λhn i hi=>by
     obtain h1|rfl:=qm.1 hi
     exact z i h1
     ·rw[Z E];simp only[<-p];exact hn)
    replace⟨z,p⟩:=bA z p;have i1:(0:Int)<=j:=by omega
    have i2:(j:Int)<7:=by omega
    have d0:(wr.alloc (.cells #[.int .i64 K,.bool G,.int .u8 H,.slice I PN PN] 317)).cell? ⟨w.heap.size,0,none⟩=some (.int .i64 k):=by
     rw[World.cell?_alloc_past _ _ _ (aZ.1 b1).1];simp[World.cell?,b1]
    replace b1:=J b1;by_cases u:K=k
    ·have eK:(K==k)=true:=by simp[u]
     replace u:=J u;have x:(wr.alloc (.cells #[.int .i64 K,.bool G,.int .u8 H,.slice I PN PN] 317)).heap[w.heap.size+1]?=some (.cells #[.int .i64 0,.bool false,.int .u8 0,.slice none 0 0] 317 (0,0)):=(fE _ _ _ (aZ.1 b2).1).trans b2;have M:=(jz x).1;have N:=(jz x).2.1;have z2:=(jz x).2.2.1;have O:=(jz x).2.2.2.1;have zf:=(jz x).2.2.2.2;replace⟨x,b2⟩:=bA x b2;cases G;all_goals
      first
      |(go_wp2_with fail
        go_roundw
        case rel=>exact⟨j+1,by omega,by simp,Z al (λh=>by have:=h.2;revert this;decide),aY U _⟩
        case measure=>simp[intOf];omega)
      |(go_wp2_with fail
        first
         |(refine cF (v:=.tuple #[.agg #[.int .i64 K,.bool false,.int .u8 H,.slice I PN PN],.bool true]) ?_ rfl ?_
           ·simp[results,results191,go_sem,M,N,z2,O]
           ·rw[Z r];exact⟨.inl ⟨j,V,by rw[<-Z p];exact Z u,by rw[<-Z p],by rw[<-Z p]⟩,aK (aK (aK (aK (aY F _) _ _ (.inl (bZ _))) _ _ (.inl (bZ _))) _ _ (.inl (bZ _))) _ _ (.inl (bZ _))⟩)
         |(refine cF (v:=.tuple #[.agg #[.int .i64 K,.bool true,.int .u8 H,.slice I PN PN],.bool true]) ?_ rfl ?_
           ·simp[results,results191,go_sem,M,N,z2,O]
           ·rw[Z r];exact⟨.inl ⟨j,V,by rw[<-Z p];exact Z u,by rw[<-Z p],by rw[<-Z p]⟩,aK (aK (aK (aK (aY F _) _ _ (.inl (bZ _))) _ _ (.inl (bZ _))) _ _ (.inl (bZ _))) _ _ (.inl (bZ _))⟩))
    have eK:(K==k)=false:=by simp[u]
    replace b2:=J b2;go_wp2;go_roundw;case rel=>exact⟨j+1,by omega,by simp,Z al (λh=>u h.1),aY U _⟩
    case measure=>simp[intOf];omega
   obtain rfl:j=7:=by omega
   have M:=(jz b2).1
   have N:=(jz b2).2.1
   have z2:=(jz b2).2.2.1
   have O:=(jz b2).2.2.2.1
   have zf:=(jz b2).2.2.2.2
   replace⟨b1,b2,z⟩:=cg b1 b2 z
   go_wp2_with fail
   refine cF (v:=.tuple #[.agg #[.int .i64 0,.bool false,.int .u8 0,.slice none 0 0],.bool false]) ?_ rfl ?_
   ·simp[results,results191,go_sem,M,N,z2,O]
   rw[Z r]
   refine⟨.inr ⟨λi hi=>?_,rfl⟩,aK (aK (aK (aK F _ _ (.inl (bZ _))) _ _ (.inl (bZ _))) _ _ (.inl (bZ _))) _ _ (.inl (bZ _))⟩
   have:=Z z i hi
   rw[Z E]at this
   exact this
def mC(l:List Fr)(i:Nat):Fr:=l.getD i (cu 0 false)
def qI(w:World)(a:Option Addr)(n cap:Nat)(c:List Fr):Prop:=
 n=c.length/\n<=cap/\cap<=maxLen/\((a=none/\cap=0)\/∃b o,a=some ⟨b,o,none⟩/\∀i,i<c.length->∃d,dA w (mC c i) d/\w.rangeAt b (o+i*7) (j8 (mC c i) d))
def qI.an{d:List Fr}(h:qI w a n k d)(g:w.grownBy W none):qI W a n k d:=by
 obtain⟨e,f,j,c⟩:=h;refine⟨e,f,j,?_⟩
 obtain c|⟨b,o,rfl,c⟩:=c
 exact .inl c;refine .inr ⟨b,o,rfl,λi hi=>?_⟩;obtain⟨l,m,p⟩:=c i hi;exact⟨l,m.an g,jh p g (by simp)⟩
def qI.at{a:List Fr}(h:qI w (some ⟨b,o,none⟩) n k a)(i:Nat)(hi:i<a.length):∃c,dA w (mC a i) c/\w.rangeAt b (o+i*7) (j8 (mC a i) c):=by
 obtain⟨-,-,-,⟨h,-⟩|⟨d,f,e,h⟩⟩:=h;cases h;cases e;exact h i hi
def Ca{l:List Fr}(h:j<l.length):mC l j=l[j]:=by unfold mC;rw[List.getD,eI h];rfl
def Cb(l r:List Fr):fT (l++r)=fT l+fT r:=by
 induction l with
 |nil=>simp[fT]
 |cons f l a=>simp only[qv,fT,a];omega
def Jh{l:List Fr}(h:j<l.length):fT (l.take j)+lS (mC l j)<=fT l:=by
 have a:=fG fT (pr (j+1) l);rw[Cb,rP h,Cb]at a;simp only[fT]at a;rw[Ca h];omega
def Ji(h:∀j,j<7->¬((bF (bV n i l m o) j).k=G.kind/\(bF (bV n i l m o) j).fin=(G.fin&&decide (G.kind=5)))):¬(1<=G.kind/\G.kind<=6):=by
 intro b;have e:G.kind=1\/G.kind=2\/G.kind=3\/G.kind=4\/G.kind=5\/G.kind=6:=by omega
 obtain e|e|e|e|e|e:=e
 exact h 0 (by omega) (by rw[e];simp[bF,bV]);exact h 1 (by omega) (by rw[e];simp[bF,bV]);exact h 2 (by omega) (by rw[e];simp[bF,bV]);exact h 3 (by omega) (by rw[e];simp[bF,bV]);cases a:G.fin;exact h 4 (by omega) (by rw[e,a];simp[bF,bV]);exact h 5 (by omega) (by rw[e,a];simp[bF,bV]);exact h 6 (by omega) (by rw[e];simp[bF,bV])
def Jj(a:j<7)(b:(bF (bV n i l m o) j).k=G.kind):1<=G.kind/\G.kind<=6:=by
 rw[<-b];obtain rfl|rfl|rfl|rfl|rfl|rfl|rfl:=qH a<;>simp[bF,bV]
def Jk{d g:Nat}(h:jN W l m o b k i d g)(r:dA W G x)(hs:cT G)(y:j<7)(f:(bF (bV m o b k i) j).k=G.kind)(p:(bF (bV m o b k i) j).fin=(G.fin&&decide (G.kind=5))):
 ∃w,B6 W G x (.slice (bF (bV m o b k i) j).pa (bF (bV m o b k i) j).n (bF (bV m o b k i) j).n) w/\df G=(bF (bV m o b k i) j).t::iz w/\W8 (bF (bV m o b k i) j).t:=by
 obtain⟨⟨b1,b2,s,u⟩,⟨z,A⟩,-,-⟩:=hs;have v:dZ G.offset:=⟨r.1.2.2.1.1,b1⟩
 have vc:dZ G.code:=⟨r.1.2.2.2.1.1,b2⟩
 obtain rfl|rfl|rfl|rfl|rfl|rfl|rfl:=qH y
 have a:G.kind=1:=f.symm;exact⟨[],⟨none,0,rfl,by simp,by simp,.inl rfl⟩,by simp[df,a,iz,bF,bV],by simp[W8,bF,bV]⟩
 have a:G.kind=2:=f.symm;exact⟨[],⟨none,0,rfl,by simp,by simp,.inl rfl⟩,by simp[df,a,iz,bF,bV],by simp[W8,bF,bV]⟩
 have a:G.kind=3:=f.symm;refine⟨[gp G.ranges],⟨some ⟨m,0,none⟩,1,rfl,by simp,by simp,.inr ⟨m,rfl,λc hi=>?_⟩⟩,by simp[df,a,iz,bF,bV],by simp[W8,bF,bV]⟩
 obtain rfl:c=0:=by simpa using hi
 exact⟨rW,_,_,h.p2 0 _ rfl,h.p2 1 _ rfl,I7 W G x r (z a)⟩
 have a:G.kind=4:=f.symm;refine⟨[aU G.stream,aU G.code,aU G.offset],⟨some ⟨o,0,none⟩,3,rfl,by simp,by simp,.inr ⟨o,rfl,λc hi=>?_⟩⟩,by simp[df,a,iz,bF,bV],by simp[W8,bF,bV]⟩
 have e:c=0\/c=1\/c=2:=by simp at hi;omega
 obtain rfl|rfl|rfl:=e
 exact⟨sW,_,_,h.p3 0 _ rfl,h.p3 1 _ rfl,yM W G x s u⟩
 exact⟨nW g,_,_,h.p3 2 _ rfl,h.p3 3 _ rfl,BY W G x g h.bc vc⟩
 exact⟨nW d,_,_,h.p3 4 _ rfl,h.p3 5 _ rfl,yL W G x d h.bo v⟩
 have a:G.kind=5:=f.symm;have q:G.fin=false:=by rw[a]at p;simpa [bF,bV]using p.symm
 refine⟨[aU G.stream,aU G.offset,aU G.data.size++aG G.data],⟨some ⟨b,0,none⟩,3,rfl,by simp,by simp,.inr ⟨b,rfl,λc hi=>?_⟩⟩,by simp[df,a,q,iz,bF,bV],by simp[W8,bF,bV]⟩
 have e:c=0\/c=1\/c=2:=by simp at hi;omega
 obtain rfl|rfl|rfl:=e
 exact⟨sW,_,_,h.p4 0 _ rfl,h.p4 1 _ rfl,yM W G x s u⟩
 exact⟨nW d,_,_,h.p4 2 _ rfl,h.p4 3 _ rfl,yL W G x d h.bo v⟩
 exact⟨bW,_,_,h.p4 4 _ rfl,h.p4 5 _ rfl,BZ W G x⟩
 have a:G.kind=5:=f.symm;have q:G.fin=true:=by rw[a]at p;simpa [bF,bV]using p.symm
 refine⟨[aU G.stream,aU G.offset,aU G.data.size++aG G.data],⟨some ⟨k,0,none⟩,3,rfl,by simp,by simp,.inr ⟨k,rfl,λc hi=>?_⟩⟩,by simp[df,a,q,iz,bF,bV],by simp[W8,bF,bV]⟩
 have e:c=0\/c=1\/c=2:=by simp at hi;omega
 obtain rfl|rfl|rfl:=e
 exact⟨sW,_,_,h.p5 0 _ rfl,h.p5 1 _ rfl,yM W G x s u⟩
 exact⟨nW d,_,_,h.p5 2 _ rfl,h.p5 3 _ rfl,yL W G x d h.bo v⟩
 exact⟨bW,_,_,h.p5 4 _ rfl,h.p5 5 _ rfl,BZ W G x⟩
 have a:G.kind=6:=f.symm;refine⟨[aU G.code],⟨some ⟨i,0,none⟩,1,rfl,by simp,by simp,.inr ⟨i,rfl,λc hi=>?_⟩⟩,by simp[df,a,iz,bF,bV],by simp[W8,bF,bV]⟩
 obtain rfl:c=0:=by simpa using hi
 exact⟨nW g,_,_,h.p6 0 _ rfl,h.p6 1 _ rfl,BY W G x g h.bc vc⟩
def uc(a:List Fr):Prop:=0<a.length/\∀i,i<a.length->cT (mC a i)
def Jl(w:World)(a:List Fr)(bad:Value)(g:Value->Value)(e:Ending)(b:World):Prop:=
 ((uc a/\∃c d f,e=.returned (g (.slice c d f))/\bn b w.heap.size (.slice c d f) (bp a))\/(¬uc a/\e=.returned bad))/\w.grownBy b none
def bn.Cc(h:bn w n x L)(e:k<=n):bn w k x L:=by
 obtain⟨b,c,a⟩:=h;refine⟨b,c,?_⟩
 obtain a|⟨g,cap,cur,e1,e2,d⟩:=a
 exact .inl a;exact .inr ⟨g,cap,cur,e1,by omega,d⟩
def Cd:(prog.info? 158).map (·.size)=some 7:=by kernel_rfl
def Jm:(prog.info? 317).map (·.size)=some 4:=by kernel_rfl
def Jn(w:World)(a:Option Addr)(n cap:Nat)(c:List Fr)(h:qI w a n cap c)(cC:fT c<=30000000):
 Calls prog 147 #[.slice a n cap] w (Jl w c (.tuple #[.slice none 0 0,.iface 34 (.int .i64 5)]) (λv=>.tuple #[v,.nilIface])):=by
 have l:=h.1;have eK:=h.2.1;have c9:=h.2.2.1;unfold maxLen at c9;by_cases h0:n=0
 ·have e0:((n:Int)==0)=true:=by simp[h0]
  have bb:¬uc c:=λm=>by have:=m.1;omega
  replace bb:=J bb;clear h h0;go_enter func147,ntmps147;go_wp2;go_ret2;exact⟨.inr ⟨Z bb,rfl⟩,aB _ _⟩
 have e0:((n:Int)==0)=false:=by simp[h0]
 obtain⟨b,o,rfl⟩:∃b o,a=some ⟨b,o,none⟩:=by
  obtain⟨-,-,-,⟨rfl,hc⟩|⟨b,o,rfl,-⟩⟩:=h;omega;exact⟨b,o,rfl⟩
 replace l:=J l;go_enter func147,ntmps147;go_wp2_with fail;apply(B9 w).mono;rintro e A⟨T,B,C,D,E,F,Bo,Bc,rfl,hT,M⟩;have h1:=h.an M;go_wp2;go_loopw [4,17] (λv i wr=>∃(j:Nat)(R:Option Addr)(U V:Nat),j<=n/\i=.int .i64 j/\v=.slice R U V/\dI A A.heap.size (.slice none 0 0) wr v (bp (c.take j))/\∀i,i<j->cT (mC c i)) (λ_ i _=>n-(intOf i).toNat);case atStart=>exact⟨0,none,0,0,by omega,rfl,rfl,dI.refl (bn.nil _ _),λi hi=>by omega⟩
 case round=>
  obtain⟨j,R,U,V,hj,rfl,rfl,r,X⟩:=hrel;have u:=r.gM (aB _ _) (bn.nil _ _) (aR _);by_cases e3:j<n
  ·obtain⟨rv,N,cx⟩:=h1.at j (by have:=Z l;omega);have p:=jh cx u (by simp);obtain⟨f,q⟩:=exq (mC c j);rw[<-q]at N p;clear cx;obtain⟨-,-,ra,x,cy,-⟩:=id N;generalize dg:f.ranges.length=rl at cy;subst cy;have Y:=λW(g:A.grownBy W none)=>Jg W T B C D E F Bo Bc (hT.an g) f (.slice ra rl x)
   have al:=λW(g:A.grownBy W none)=>AX f (.slice ra rl x) W (N.an g)
   have ax:=λ(bt:List (List Int))(k0:Int)(dn:Bool)(t:Int)(pv:Value)=>Jb A f (.slice ra rl x) pv bt k0 dn t
   have bx:=λ(hs:cT f)(i:Nat)(hi:i<7)=>Jk hT N hs hi
   have bz:=λ(i:Nat)(hi:i<7)=>Jj (G:=f) (n:=B) (i:=C) (l:=D) (m:=E) (o:=F) hi
   have bM:=Ji (G:=f) (n:=B) (i:=C) (l:=D) (m:=E) (o:=F);have b0:fT (c.take j)+lS f<=fT c:=by rw[q];exact Jh (by have:=Z l;omega)
   have b3:=vH f;have b4:=F5 (c.take j);have b5:lS f=25+16*f.ranges.length+f.data.size:=rfl;have b6:bp (c.take (j+1))=bp (c.take j)++df f:=by rw[FZ c j (by have:=Z l;omega),q,Ca (by have:=Z l;omega)]
   generalize bV B C D E F=L at *;clear hT N dg;obtain⟨k,s,O,cd,fin,d,rg⟩:=f;have c0:wr.cell? ⟨b,o+j*7,none⟩=some (.int .i64 k):=p 0 _ rfl;have c1:wr.cell? ⟨b,o+j*7+1,none⟩=some (.int .i64 s):=p 1 _ rfl;have c2:wr.cell? ⟨b,o+j*7+2,none⟩=some (.int .u64 O):=p 2 _ rfl;have c3:wr.cell? ⟨b,o+j*7+3,none⟩=some (.int .u64 cd):=p 3 _ rfl;have c4:wr.cell? ⟨b,o+j*7+4,none⟩=some (.bool fin):=p 4 _ rfl;have c5:wr.cell? ⟨b,o+j*7+5,none⟩=some (.string d):=p 5 _ rfl;have c6:wr.cell? ⟨b,o+j*7+6,none⟩=some (.slice ra rl x):=p 6 _ rfl;clear p;simp only[bO]at Y al ax;have i1:(0:Int)<=j:=by omega
   have i2:(j:Int)<n:=by omega
   have cA:Hid ((wr.alloc (.cells #[.int .i64 k,.int .i64 s,.int .u64 O,.int .u64 cd,.bool fin,.string d,.slice ra rl x] 158)).heap[wr.heap.size]?=some (.cells #[.int .i64 k,.int .i64 s,.int .u64 O,.int .u64 cd,.bool fin,.string d,.slice ra rl x] 158 (0,0))):=J (aO _ _);have du:=J cC;replace⟨Y,al,ax,bx,bz,bM,X,r,u⟩:=pT Y al ax bx bz bM X r u;replace⟨q,b0,b3,b4,b5,b6,h1,h⟩:=qG q b0 b3 b4 b5 b6 h1 h;have dx:=J Cd;have dE:=J Jm;obtain⟨WB,G⟩:=exq (wr.alloc (.cells #[.int .i64 k,.int .i64 s,.int .u64 O,.int .u64 cd,.bool fin,.string d,.slice ra rl x] 158));have P:Hid (wr.grownBy WB none):=J (by rw[G];exact aH _ _ _);have e7:WB.heap.size=wr.heap.size+1:=by rw[G];simp
   rw[<-G]at cA;go_wp2_with fail;rw[<-G];replace G:=J G;clear c0 c1 c2 c3 c4 c5 c6;apply(Z Y WB (aq (Z u) (Z P))).mono;rintro e H⟨⟨i,hi,m,hq,rfl⟩|⟨cB,rfl⟩,g3⟩
   ·have hp:=λhs=>Z bx hs i hi m hq
    have a0:=Z bz i hi m;generalize bF L i=S at *;obtain⟨K,FN,TT,PA,PN⟩:=S;simp only at m hq hp a0;obtain⟨W4,y⟩:=exq (H.alloc (.cells #[.int .i64 K,.bool FN,.int .u8 TT,.slice PA PN PN] 317));have g4:H.grownBy W4 none:=by rw[y];exact aH _ _ _
    have cp:W4.heap[H.heap.size]?=some (.cells #[.int .i64 K,.bool FN,.int .u8 TT,.slice PA PN PN] 317 (0,0)):=by rw[y];exact aO _ _
    have e8:W4.heap.size=H.heap.size+1:=by rw[y];simp
    have a2:=aq g3 g4;have a3:=(a2.block wr.heap.size (by omega) (by simp)).trans (Z cA);have a4:=aq (aq (Z u) (Z P)) a2;obtain⟨d0,d1,d2,d3,d4,d5,d6⟩:=cM a3;rw[y]at d0 d1 d2 d3 d4 d5 d6;have e9:=g3.size;replace⟨hp,a0,m,hq,cp,a3⟩:=nZ hp a0 m hq cp a3;go_wp2_with fail;rw[<-y];replace y:=J y;clear d0 d1 d2 d3 d4 d5 d6;apply(Z al W4 a4).mono;rintro e w5⟨⟨bo,rfl,Q⟩,z⟩;have ee:=J ((z.block H.heap.size (by omega) (by simp)).trans (Z cp));have eg:=J ((z.block wr.heap.size (by omega) (by simp)).trans (Z a3));replace Q:=J Q;cases bo
    ·go_wp2_with fail;go_ret2;refine⟨.inr ⟨λm=>?_,rfl⟩,aq M (aq a4 z)⟩
     have I:=m.2 j (by have:=Z l;omega);rw[<-Z q]at I;have:=(Z Q).2 ⟨I.1,I.2.1⟩;cases this
    have a8:cT ⟨k,s,O,cd,fin,d,rg⟩:=⟨((Z Q).1 rfl).1,((Z Q).1 rfl).2,Z a0⟩
    obtain⟨bt,hP,a9,ei⟩:=Z hp a8;have hC:=Z ax bt K FN TT (.slice PA PN PN) ei hP w5 A.heap.size R U V (bp (c.take j)) (aq a4 z) (aR _) (aq a4 z).size ((Z r).still (aq (Z P) (aq a2 z))).own (by
     have q1:=Z b0;have q2:=Z b3;have q3:=Z b4;have q4:=Z b5;rw[a9,dc]at q2;try dsimp only at q4
     try dsimp only
     have q5:=Z du;omega)
    replace⟨hC,a9,a8,hP⟩:=eV hC a9 a8 hP;go_wp2_with (first
     |(refine px (by rfl) 317 _ (by rfl) H.heap.size (by rfl) 317 _ (0,0) _ (Z ee) underlying317 (by rfl) (Z dE) ?_)
     |(refine px (by rfl) 158 _ (by rfl) wr.heap.size (by rfl) 158 _ (0,0) _ (Z eg) underlying158 (by rfl) (Z dx) ?_))
    apply(Z hC).mono;rintro e w6⟨a6,n6,c6,rfl,G6⟩;go_wp2;go_roundw;case rel=>
     refine⟨j+1,a6,n6,c6,by omega,by simp,rfl,?_,λi hi=>?_⟩
     rw[Z b6,Z a9];exact((Z r).still (aq (Z P) (aq a2 z))).trans G6;obtain h9|rfl:=qm.1 hi
     exact Z X i h9;rw[<-Z q];exact Z a8
    case measure=>simp[intOf];omega
   have ez:=J (Z bM cB);clear cB;go_wp2;go_ret2;refine⟨.inr ⟨λm=>?_,rfl⟩,aq M (aq (aq (Z u) (Z P)) (aY g3 _))⟩
   have I:=m.2 j (by have:=Z l;omega);rw[<-Z q]at I;exact Z ez I.2.2
  obtain rfl:j=n:=by omega
  go_wp2;go_ret2;refine⟨.inl ⟨⟨by have:=Z l;omega,λi hi=>X i (by have:=Z l;omega)⟩,R,U,V,rfl,?_⟩,aq M u⟩
  rw[lC (by have:=Z l;omega)]at r;exact r.own.Cc M.size
abbrev PN:Ending:=.panicked [{v:=.iface 34 (.int .i64 5),recovered:=false}]
def cN(w:World)(X:Nat)(sl:Value)(p st:Nat):Prop:=w.heap[X]?=some (.cells #[sl,.int .i64 p,.int .i64 st] 311 (0,0))
def ud(h:w.heap[b]?=some (.cells #[x,y,z] T (0,0))):w.cell? ⟨b,0,none⟩=some x/\w.cell? ⟨b,1,none⟩=some y/\w.cell? ⟨b,2,none⟩=some z/\∀o,w.frozen? ⟨b,o,none⟩=false:=by
 simp[World.cell?,World.frozen?,h]
def cN.set{w:World}(h:cN w n x k i)(q:Nat):cN (w.setCell ⟨n,1,none⟩ (.int .i64 q)) n x q i:=by
 unfold cN at *;rw[heap_set h];rfl
def BS.ka(h:BS w b o L)(n:Nat):BS w b o (L.take n):=by
 refine⟨λi hi=>?_,λx a=>h.2 x (jc a)⟩
 rw[ct]at hi;rw[h.1 i (by omega)];simp[show i<n by omega]
def BS.Jo(h:BS w b o L)(n:Nat):BS w b (o+n) (L.drop n):=by
 refine⟨λi hi=>?_,λx a=>h.2 x (iN a)⟩
 rw[dM]at hi;have:=h.1 (n+i) (by omega);rw[show o+n+i=o+(n+i) by omega,this];simp[kR]
def Jp(n x:Int)(h0:0<=n)(d:n<72057594037927936)(a:W8 x):bits .or .u64 (n*256) x=n*256+x:=by
 obtain⟨c,f⟩:=a;obtain⟨m,rfl⟩:=qp h0;obtain⟨y,rfl⟩:=qp c;have e:((m:Int)*256)=((m*256:Nat):Int):=by omega
 rw[e,u64_or_nat _ _ (by omega) (by omega)];have:=xL (i:=8) (b:=y) (by omega) m;rw[Nat.shiftLeft_eq]at this;rw[show m*256=m*2^8 from rfl,<-this];omega
def sC(X:Nat)(w:World):Calls prog 188 #[.pointer (some ⟨X,0,none⟩)] w λe a=>e=PN/\a=w:=by
 go_enter func188,ntmps188;go_wp2;exact⟨rfl,rfl,rfl⟩
def wA(X a o n cap:Nat)(l:List Int)(p st:Nat)(k:Nat)(r:Int)(u:r=(k:Int))(w:World)(f:cN w X (.slice (some ⟨a,o,none⟩) n cap) p st)(h:bI w (some ⟨a,o,none⟩) n cap l)(v:a≠X)(hp:p<=l.length)(hl:l.length<=100000000)(C:k<4611686018427387904:=by omega):
 Calls prog 233 #[.pointer (some ⟨X,0,none⟩),.int .u64 r] w λe d=>
  w.grownBy d (some X)/\((l.length-p<k/\e=PN/\cN d X (.slice (some ⟨a,o,none⟩) n cap) p st)\/(k<=l.length-p/\∃s t,e=.returned (.slice s k t)/\bI d s k t ((l.drop p).take k)/\cN d X (.slice (some ⟨a,o,none⟩) n cap) (p+k) st)):=by
 subst u;obtain⟨D,E,F,G⟩:=ud f;have c:n=l.length:=h.2.1;have H:=h.2.2.1;have y:=h.2.2.2.1;unfold maxLen at y;have I:IntKind.i64.wrap ((n:Int)-p)=(n:Int)-(p:Int):=wI_;have K:IntKind.u64.wrap ((n:Int)-p)=(n:Int)-(p:Int):=by rw[fD];omega
 have L:IntKind.i64.wrap (k:Int)=(k:Int):=by simp[IntKind.wrap,IntKind.bits,IntKind.signed];omega
 replace c:=J c;by_cases b:l.length-p<k
 ·have e1:decide ((n:Int)-p<k)=true:=dO (by have:=Z c;omega);replace b:=J b;go_enter func233,ntmps233;go_wp2_with fail;go_quiet (fail);go_wp2_with (go_at_call 188;apply(sC X _).mono;rintro e d⟨rfl,rfl⟩);exact⟨rfl,dd (dy (aB _ _) _) _,.inl ⟨Z b,rfl,f⟩⟩
 have e1:decide ((n:Int)-p<k)=false:=eQ (by have:=Z c;omega);have M:(0:Int)<=p:=by omega
 have N:(p:Int)<=p+(k:Int):=by omega
 have O:(p:Int)+k<=cap:=by have:=Z c;omega
 have P:IntKind.i64.wrap ((p:Int)+k)=(p:Int)+(k:Int):=wI_;replace b:=J b;by_cases i:cap=p
 ·subst i;go_enter func233,ntmps233;go_wp2_with fail;go_quiet (fail);go_wp2_with fail;go_quiet (fail);go_wp2;go_ret;obtain rfl:k=0:=by have:=Z b;have:=Z c;omega
  refine⟨dy (aK (dd (dy (aB _ _) _) _) _ _ (.inr rfl)) _,.inr ⟨by omega,some ⟨a,o,none⟩,0,rfl,?_,?_⟩⟩
  exact⟨λx j=>by simp at j,by simp,aR _,by simp[maxLen],.inr ⟨_,_,rfl,by simpa using BS.nil _ _ _⟩⟩
  exact cN.set (w:=w.drewN _) f (cap+0)
 have Q:(cap=p)=False:=by simp[i]
 clear i;have key:Hid (∀m:World,w.grownBy m (some X)->bI m (some ⟨a,o+p,none⟩) k (cap-p) ((l.drop p).take k)):=J (λm g=>by
  obtain⟨z,-,-,-,⟨q,-⟩|⟨R,S,q,A⟩⟩:=h;cases q
  ·cases q;have B:=(A.gb g (λe=>v (aQ e).symm)).Jo p;exact⟨λx j=>z x (iN (jc j)),by have:=Z b;simp;omega,by have:=Z c;have:=Z b;omega,by simp[maxLen];omega,.inr ⟨_,_,rfl,B.ka k⟩⟩)
 go_enter func233,ntmps233;go_wp2_with fail;go_quiet (fail);go_wp2_with fail;go_quiet (fail);go_wp2;go_ret;refine⟨dy (aK (dd (dy (aB _ _) _) _) _ _ (.inr rfl)) _,.inr ⟨by have:=Z b;omega,some ⟨a,o+p,none⟩,cap-p,(by show Ending.returned (.slice (some ⟨a,o+p,none⟩) (p+k-p) (cap-p))=_;rw[tr]),?_,?_⟩⟩
 exact Z key _ (dy (aK (dd (dy (aB _ _) _) _) _ _ (.inr rfl)) _);exact cN.set (w:=w.drewN _) f (p+k)
def Jq(h:W8 t):(fv t=1/\t/64=0)\/(fv t=2/\t/64=1)\/(fv t=4/\t/64=2)\/(fv t=8/\t/64=3):=by
 unfold W8 at h;unfold fv;by_cases a:t<64;left;simp[a];omega;by_cases b:t<128;right;left;simp[a,b];omega;by_cases c:t<192;right;right;left;simp[a,b,c];omega;right;right;right;simp[a,b,c];omega
def Jr(h:W8 t):bits .and .u8 t 63=t %64:=by
 obtain⟨h0,a⟩:=h;obtain⟨m,rfl⟩:=qp h0;have e:(63:Int)=((63:Nat):Int):=rfl;rw[e,u8_and_nat _ _ (by omega) (by omega)];have:=Nat.and_two_pow_sub_one_eq_mod m 6;simp only[Nat.reducePow,Nat.reduceSub]at this;rw[this];rfl
def Ce(w:World)(X:Nat)(sl:Value)(st:Nat)(r:Option (Int×Nat))(e:Ending)(a:World):Prop:=
 w.grownBy a (some X)/\((∃v q,r=some (v,q)/\e=.returned (.int .u64 v)/\cN a X sl q st)\/(r=none/\e=PN/\∃b,cN a X sl b st))
def ue(h:bI w a n k L)(d:0<n:=by omega):∃b o,a=some ⟨b,o,none⟩/\∀i,i<n->w.cell? ⟨b,o+i,none⟩=some (.int .u8 (L.getD i 0)):=by
 obtain⟨-,e,f,-,⟨rfl,c⟩|⟨b,o,rfl,c⟩⟩:=h;omega;exact⟨b,o,rfl,λi hi=>c.1 i (by omega)⟩
def yN(l:List Int)(p k i:Nat)(h:i<k):((l.drop p).take k).getD i 0=l.getD (p+i) 0:=by
 simp[List.getD,kR,h]
def Cf(h:L.length<n+fv (L.getD n 0)):cU L n=none:=by unfold cU;rw[iN_]
def Js(h:n+fv (L.getD n 0)<=L.length):cU L n=some (ji L n (fv (L.getD n 0)-1),n+fv (L.getD n 0)):=by unfold cU;rw[aD h]
def ug(X b o n cap:Nat)(l:List Int)(p st:Nat)(w:World)(S:cN w X (.slice (some ⟨b,o,none⟩) n cap) p st)(s:bI w (some ⟨b,o,none⟩) n cap l)(u:b≠X)(hp:p<=l.length)(hl:l.length<=100000000):
 Calls prog 274 #[.pointer (some ⟨X,0,none⟩)] w (Ce w X (.slice (some ⟨b,o,none⟩) n cap) st (cU l p)):=by
 have y:=s.1;have T:Hid (∀W,w.grownBy W (some X)->bI W (some ⟨b,o,none⟩) n cap l):=J (λW g=>s.gb g (λj e=>.inr (.inr (λx U=>by cases U;cases e;exact u))));go_enter func274,ntmps274;go_wp2_with fail;apply(wA X b o n cap l p st 1 1 rfl w S s u hp hl).mono;rintro e I⟨m,⟨hs,rfl,z⟩|⟨hs,a1,c1,rfl,A,z⟩⟩;exact⟨rfl,m,.inr ⟨Cf (by have:=tO (l.getD p 0);omega),rfl,p,z⟩⟩
 obtain⟨b1,o1,rfl,B⟩:=ue A;have C:=B 0 (by omega);rw[yN _ _ _ _ (by omega),oM,oM]at C;have q:=qz y p;have a:=Jq q;have L:=Jr q;obtain⟨t,c⟩:=exq (l.getD p 0);rw[<-c]at C q a L;have D:ji l p 0=t %64:=by rw[c];rfl
 have M:Hid (l.length<p+fv t->cU l p=none):=J (λh=>Cf (by rw[<-c];exact h));have N:Hid (p+fv t<=l.length->cU l p=some (ji l p (fv t-1),p+fv t)):=J (λh=>by rw[c]at h⊢;exact Js h);obtain⟨t0,t1⟩:=q;replace⟨c,B,A,D⟩:=eV c B A D;obtain⟨K,r⟩:=exq (fv t-1);have a3:K<=7:=by have:=tO t;omega
 have O:Hid (fv t=K+1):=J (by have:=tO t;omega);rw[Z O,rT]at N;rw[Z O]at M;have E:=xY y p;replace E:=J E;obtain⟨a,hd⟩|⟨a,hd⟩|⟨a,hd⟩|⟨a,hd⟩:=a
 all_goals
  rw[a]at r
  replace⟨r,a⟩:=bA r a
  go_wp2_with fail
  refine(wA X b o n cap l (p+1) st K _ (by have:=Z r;omega) I z (Z T I m) u (by omega) hl).mono ?_
  rintro e V⟨P,⟨Y,rfl,F⟩|⟨Y,a2,c2,rfl,d,F⟩⟩
  exact⟨rfl,aq m P,.inr ⟨Z M (by omega),rfl,p+1,F⟩⟩
  have al:Hid (∀j,j<K->∃b2 f,a2=some ⟨b2,f,none⟩/\V.cell? ⟨b2,f+j,none⟩=some (.int .u8 (l.getD (p+1+j) 0))):=J (λj G=>by
   obtain⟨b2,f,h1,h2⟩:=ue d;exact⟨b2,f,h1,by rw[h2 j G,yN _ _ _ _ G]⟩)
  have a4:K<=c2:=d.2.2.1
  have ax:=d.2.2.2.1
  unfold maxLen at ax
  have aC:=J (Z N (by omega))
  replace d:=J d
  clear C L hd
  go_wp2
  go_loop [4,21] (λv i=>∃j:Nat,j<=K/\i=.int .i64 j/\v=.int .u64 (ji l p j)) (λ_ i=>K-(intOf i).toNat)
  case atStart=>exact⟨0,by omega,rfl,by rw[Z D]⟩
  case round=>
   obtain⟨j,G,rfl,rfl⟩:=hrel
   by_cases a0:j<K
   ·obtain⟨b2,f,rfl,x2⟩:=Z al j a0;have Q:=qz y (p+1+j);have H:ji l p (j+1)=ji l p j*256+l.getD (p+1+j) 0:=by
     show ji l p j*256+l.getD (p+j+1) 0=_;rw[show p+j+1=p+1+j by omega]
    have R:=Z E j;have a8:(256:Int)^j<=256^6:=by
     have:(256:Nat)^j<=256^6:=xO (by decide) (by omega);have e:∀k:Nat,(256:Int)^k=((256^k:Nat):Int):=λk=>by simp
     rw[e,e];omega
    have ho:=Jp (ji l p j) (l.getD (p+1+j) 0) R.1 (by omega) Q;have a9:ji l p j<72057594037927936:=by omega
    obtain⟨bb,-⟩:=R;replace H:=J H;generalize ji l p j=v at *;generalize l.getD (p+1+j) 0=x at *;obtain⟨x0,x9⟩:=Q;have bj:IntKind.u64.wrap (v*256)=v*256:=by rw[fD];omega
    have i1:(0:Int)<=j:=by omega
    have i2:(j:Int)<K:=by omega
    go_wp2;go_round;case rel=>exact⟨j+1,by omega,by simp,by rw[Z H]⟩
    case measure=>simp[intOf];omega
   obtain rfl:j=K:=by omega
   go_wp2
   go_ret
   exact⟨aq m P,.inl ⟨ji l p j,p+(j+1),Z aC,rfl,by rw[show p+(j+1)=p+1+j by omega];exact F⟩⟩
def iJ(w:World)(a:Nat)(v:Value)(l:List Rg):Prop:=(∀r∈l,r.ok)/\w.ownsRow a 200 2 v l.length (cE l)
def iJ.lt(h:iJ w n x D):∀k,x.ownBlock=some k->n<=k/\k<w.heap.size:=h.2.lt
def iJ.gb(h:iJ w n x D)(g:w.grownBy W N)(a:x.ownBlock=none\/x.ownBlock≠N:=by simp):iJ W n x D:=⟨h.1,h.2.kept g a⟩
def iJ.an(h:iJ w n x D)(g:w.grownBy W none):iJ W n x D:=h.gb g (by cases x.ownBlock<;>simp)
def iJ.ni(h:iJ w k (.slice a n i) D):bw w a n i D/\∀x,a=some x->k<=x.block:=by
 obtain⟨d,l,m⟩:=h;obtain⟨e,p⟩|⟨g,cap,cur,e,aa,q,r,hm,hs,s⟩:=m
 cases e;exact⟨⟨d,p.symm,by simp,by simp[maxLen],.inl rfl⟩,λx b=>by cases b⟩
 cases e;refine⟨⟨d,rfl,r,hm,.inr ⟨g,0,rfl,λj v c=>?_⟩⟩,λx b=>by cases b;exact aa⟩
 have f:j<(cE D).length:=(kQ.1 c).1;rw[<-s,jI,aD (by rw[l]at f;exact f)]at c;simp only[World.cell?,q,dY]
 simpa using c
def Jt:(prog.info? 200).map (λi=>(i.zero,i.size,i.bytes))=some (some (.agg #[.int .u64 0,.int .u64 0]),2,16):=by kernel_rfl
def Ju(l m:List Rg):cE (l++m)=cE l++cE m:=by simp[cE]
def Jv(w:World)(r:Rg)(b:r.ok)(a:Nat)(c:a<=w.heap.size):iJ (w.alloc (.cells #[.int .u64 r.lo,.int .u64 r.hi] 200)) a (.slice (some ⟨w.heap.size,0,none⟩) 1 1) [r]:=
 ⟨λx d=>by rw[cL.1 d];exact b,by simp[cE],.inr ⟨w.heap.size,1,#[.int .u64 r.lo,.int .u64 r.hi],rfl,c,aO w _,aR _,by simp[maxLen],by simp,by simp[cE]⟩⟩
def Cg(ty:TypeId)(e:Nat)(v:Value)(l:List Rg)(n:iJ w e v l)(b o c:Nat)(r:Rg)(x:r.ok)(h0:w.cell? ⟨b,o,none⟩=some (.int .u64 r.lo))(z:w.cell? ⟨b,o+1,none⟩=some (.int .u64 r.hi))(I:l.length<=100000000)(A:e<=w.heap.size):
 ∃f i k a,(Builtin.append_ #[133,133] ty #[v,.slice (some ⟨b,o,none⟩) 1 c]).run prog w=.ok (.slice f i k) a/\iJ a e (.slice f i k) (l++[r])/\w.grownBy a v.ownBlock/\((Value.slice f i k).ownBlock=v.ownBlock\/(Value.slice f i k).ownBlock=some w.heap.size):=by
 obtain⟨B,hi,C,D,E⟩:=lD Jt;obtain⟨F,a,p,G,q,_,s⟩:=run_append_own_at (P:=prog) w e 133 ty 200 B (.agg #[.int .u64 0,.int .u64 0]) 2 16 underlying133 hi C D E rfl (by decide) v l.length (cE l) n.2 ⟨b,o,none⟩ 1 c (cE [r]) rfl (by
  intro j u d;rw[Addr.add_mid];match j,d with
  |0,d=>simp[cE]at d;rw[<-d];exact h0
  |1,d=>simp[cE]at d;rw[<-d];exact z) (by
  intro u t;simp[cE]at t;obtain rfl|rfl:=t<;>rfl) (by simp[maxLen];omega) (by omega) A
 have m:iJ a e F (l++[r]):=⟨λy H=>(bQ.1 H).elim (n.1 y) (λh=>by rw[cL.1 h];exact x),by rw[bH,Ju];exact G⟩
 obtain⟨-,-,⟨rfl,e2⟩|⟨g,cap,K,rfl,_⟩⟩:=id m;exact⟨_,_,_,a,p,m,q,s⟩
 exact⟨_,_,_,a,p,m,q,s⟩
def Jw{j:Array Oper}{rest:List Oper}(k:u.guard=none)(s x:Operand)
 (ho:u.op=.call {callee:=.builtin .append,args:= #[s,x],argTypes:= #[133,133]})
 (i:Nat) (v:Value) (l:List Rg) (hs:F.eval s=v) (m:iJ w i v l) (b f c:Nat) (r:Rg) (n:r.ok) (p:F.eval x=.slice (some ⟨b,f,none⟩) 1 c) (h0:w.cell? ⟨b,f,none⟩=some (.int .u64 r.lo)) (q:w.cell? ⟨b,f+1,none⟩=some (.int .u64 r.hi)) (t:l.length<=100000000) (y:i<=w.heap.size)
 (h:∀a d e g,iJ g i (.slice a d e) (l++[r])->w.grownBy g v.ownBlock->((Value.slice a d e).ownBlock=v.ownBlock\/(Value.slice a d e).ownBlock=some w.heap.size)->
   wpList prog j H rest (F.put u.dst (.slice a d e)) g):wpList prog j H (u::rest) F w:=
 tC k λ_ z=>by
  obtain⟨a,d,e,g,A,B,C,D⟩:=Cg (w:=w) u.type i v l m b f c r n h0 q t y;unfold Oper.wp execOp;simp only[ho,resolve,invoke,builtin,je,mr,jd,nU,ky,mZ,hs,p,A]
  exact z _ _ (h a d e g B C D)
def Jy(w:World)(X:Nat)(sl:Value)(st:Nat)(r:Option (Int×Nat))(e:Ending)(a:World):Prop:=
 w.grownBy a (some X)/\((∃v q,r=some (v,q)/\e=.returned (.int .i64 v)/\cN a X sl q st)\/(r=none/\e=PN/\∃b,cN a X sl b st))
def Jz(X b o n cap:Nat)(l:List Int)(p st:Nat)(w:World)(i:cN w X (.slice (some ⟨b,o,none⟩) n cap) p st)(h:bI w (some ⟨b,o,none⟩) n cap l)(j:b≠X)(hp:p<=l.length)(hl:l.length<=100000000):
 Calls prog 268 #[.pointer (some ⟨X,0,none⟩)] w (Jy w X (.slice (some ⟨b,o,none⟩) n cap) st (j6 l p)):=by
 have k:=h.1;go_enter func268,ntmps268;go_wp2_with fail;apply(ug X b o n cap l p st w i h j hp hl).mono;rintro e r⟨f,⟨v,q,a,rfl,d⟩|⟨a,rfl,d⟩⟩
 ·have m:=kS k a;obtain⟨⟨s,t⟩,-⟩:=m;replace a:=J a;by_cases u:4<=v
  ·have c:j6 l p=none:=by unfold j6;rw[Z a];simp;omega
   replace c:=J c;go_wp2_with (go_at_call 188;apply(sC X _).mono;rintro e x⟨rfl,rfl⟩);exact⟨rfl,f,.inr ⟨Z c,rfl,q,d⟩⟩
  have g:j6 l p=some (v,q):=by unfold j6;rw[Z a];simp;omega
  replace g:=J g;have y:IntKind.i64.wrap v=v:=wI_;go_wp2;go_ret;exact⟨f,.inl ⟨v,q,Z g,rfl,d⟩⟩
 have c:j6 l p=none:=by unfold j6;rw[a];rfl
 exact⟨rfl,f,.inr ⟨c,rfl,d⟩⟩
def JA(x y:Int)(w:World)(e:Ending)(a:World):Prop:=a=w/\((y<=x/\e=.returned (.int .u64 (x-y)))\/(x<y/\e=PN))
def yO(X:Nat)(x y:Int)(w:World)(a:aS x)(b:aS y):Calls prog 296 #[.pointer (some ⟨X,0,none⟩),.int .u64 x,.int .u64 y] w (JA x y w):=by
 unfold aS at a b;by_cases h:x<y
 ·go_enter func296,ntmps296;go_wp2_with (go_at_call 188;apply(sC X _).mono;rintro e c⟨rfl,rfl⟩);exact⟨rfl,rfl,.inr ⟨h,rfl⟩⟩
 have d:=sA (p:=x) (q:=y) (by omega) (by omega);go_enter func296,ntmps296;go_wp2;go_ret;exact⟨rfl,.inl ⟨by omega,rfl⟩⟩
def LY(w:World)(X:Nat)(sl:Value)(st:Nat)(r:Option (List Rg×Nat))(e:Ending)(a:World):Prop:=
 w.grownBy a (some X)/\((∃rs q b c d,r=some (rs,q)/\e=.returned (.slice b c d)/\bw a b c d rs/\(∀x,b=some x->w.heap.size<=x.block)/\cN a X sl q st)\/(r=none/\e=PN/\∃f,cN a X sl f st))
def cN.gb(h:cN w n x k i)(g:w.grownBy W N)(a:N≠some n:=by simp):cN W n x k i:=
 (g.block n (aZ.1 h).1 (λe=>a e.symm)).trans h
def cN.lt(h:cN w n x k i):n<w.heap.size:=(aZ.1 h).1
def LZ(X d o n cap:Nat)(l:List Int)(p st:Nat)(w:World)(hX:cN w X (.slice (some ⟨d,o,none⟩) n cap) p st)(U:bI w (some ⟨d,o,none⟩) n cap l)(a9:d≠X)(hp:p<=l.length)(hl:l.length<=100000000):
 Calls prog 271 #[.pointer (some ⟨X,0,none⟩)] w (LY w X (.slice (some ⟨d,o,none⟩) n cap) st (jL l p)):=by
 have C:=U.1;have ca:=hX.lt;have bb:∀W,w.grownBy W (some X)->bI W (some ⟨d,o,none⟩) n cap l:=λW g=>U.gb g (λj e=>.inr (.inr (λx V=>by cases V;cases e;exact a9)))
 have D:Hid (∀(W:World)(q:Nat),w.grownBy W (some X)->cN W X (.slice (some ⟨d,o,none⟩) n cap) q st->q<=l.length->Calls prog 274 #[.pointer (some ⟨X,0,none⟩)] W (Ce W X (.slice (some ⟨d,o,none⟩) n cap) st (cU l q))):=J (λW q g V Y=>ug X d o n cap l q st W V (bb W g) a9 Y hl);clear bb U;go_enter func271,ntmps271;go_wp2_with fail;apply(Z D w p (aB _ _) hX hp).mono;rintro e w1⟨P,⟨hi,q1,f,rfl,al⟩|⟨f,rfl,al⟩⟩;rotate_left
 exact⟨rfl,P,.inr ⟨by unfold jL;rw[f];rfl,rfl,al⟩⟩
 obtain⟨⟨a0,a1⟩,a2,a3⟩:=kS C f;replace f:=J f;go_wp2_with fail;apply(Z D w1 q1 P al a3).mono;rintro e w2⟨A,⟨bj,q2,r,rfl,ax⟩|⟨r,rfl,ax⟩⟩;rotate_left
 exact⟨rfl,aq P A,.inr ⟨by unfold jL;rw[Z f];simp[r],rfl,ax⟩⟩
 obtain⟨⟨b0,b1⟩,b2,b3⟩:=kS C r;replace r:=J r;replace A:=aq P A;go_wp2_with fail;apply(Z D w2 q2 A ax b3).mono;rintro e E⟨t,⟨sz,q3,u,rfl,Q⟩|⟨u,rfl,Q⟩⟩;rotate_left
 exact⟨rfl,aq A t,.inr ⟨by unfold jL;rw[Z f];simp[Z r,u],rfl,Q⟩⟩
 obtain⟨⟨c0,c1⟩,c2,c3⟩:=kS C u;replace u:=J u;replace t:=aq A t;go_wp2_with fail;apply(yO X hi sz E ⟨by omega,by omega⟩ ⟨by omega,by omega⟩).mono;rintro e F⟨rfl,⟨b4,rfl⟩|⟨ch,rfl⟩⟩;rotate_left
 exact⟨rfl,t,.inr ⟨by unfold jL;rw[Z f];simp[Z r,Z u];omega,rfl,q3,Q⟩⟩
 obtain⟨E,rfl⟩:=exq F;obtain⟨M,G⟩:∃M:Nat,(M:Int)=bj:=⟨bj.toNat,by omega⟩
 have R:jL l p=jK l M q3 (hi-sz) [⟨hi-sz,hi⟩]:=by
  unfold jL;rw[Z f];simp only[fk,Z r,Z u,b4,fu]
  rw[<-G,nT]
 have S:=Jv E ⟨hi-sz,hi⟩ ⟨⟨by simp;omega,by simp;omega⟩,by simp;omega,by simp;omega⟩ w.heap.size t.size;have cj:=t.size;rw[<-G];replace⟨G,R,S⟩:=cg G R S;have br:=J (Q.gb (aH E (.cells #[.int .u64 (hi-sz),.int .u64 hi] 200) none) (by simp));have bt:=J (cJ t (aH E (.cells #[.int .u64 (hi-sz),.int .u64 hi] 200) none) (λj e=>by cases e));go_wp2;go_loopw [5,6,21] (λlv v cv wr=>∃(j q:Nat)(lo:Int)(s:List Rg)(H:Option Addr)(I K:Nat),j<=M/\cv=.int .u64 j/\lv=.int .u64 lo/\v=.slice H I K/\iJ wr w.heap.size v s/\cN wr X (.slice (some ⟨d,o,none⟩) n cap) q st/\w.grownBy wr (some X)/\s.length<=q/\q<=l.length/\0<=lo/\lo<=4611686018427387903/\jL l p=jK l (M-j) q lo s) (λ_ _ cv _=>M-(intOf cv).toNat);case atStart=>exact⟨0,q3,hi-sz,_,_,_,_,by omega,rfl,rfl,rfl,Z S,Z br,Z bt,by simp;omega,c3,by omega,by omega,Z R⟩
 case round=>
  obtain⟨j,q,lo,s,H,I,K,hj,rfl,rfl,rfl,L,bx,a,cp,Y,cw,cx,h⟩:=hrel;clear S br bt R;by_cases cy:j<M
  ·obtain⟨m,hm⟩:∃m,M-j=m+1:=⟨M-j-1,by omega⟩
   rw[hm]at h;have b5:m=M-(j+1):=by omega
   replace⟨h,hm,L⟩:=cg h hm L;have cA:(M:Int)<=4611686018427387903:=by have:=Z G;omega
   go_wp2_with fail;apply(Z D wr q a bx Y).mono;rintro e w4⟨g4,⟨qN,q4,i,rfl,T⟩|⟨i,rfl,T⟩⟩;rotate_left
   exact⟨rfl,aq a g4,.inr ⟨by rw[Z h];simp[jK,i],rfl,T⟩⟩
   obtain⟨⟨d0,d1⟩,d2,d3⟩:=kS C i;replace i:=J i;replace a:=aq a g4;have bz:=J ((Z L).gb g4 (by
    by_cases hv:(Value.slice H I K).ownBlock=none;exact .inl hv
    ·exact .inr (λe=>by have:=((Z L).lt X e).1;omega)))
   have cB:IntKind.u64.wrap (qN+2)=qN+2:=by rw[fD];omega
   go_wp2_with fail;apply(yO X lo (qN+2) w4 ⟨by omega,by omega⟩ ⟨by omega,by omega⟩).mono;rintro e F⟨rfl,⟨cC,rfl⟩|⟨c9,rfl⟩⟩;rotate_left
   refine⟨rfl,a,.inr ⟨?_,rfl,q4,T⟩⟩
   rw[Z h];simp only[jK,Z i,fk]
   cases cU l q4 with
   |none=>rfl
   |some y=>simp only[fk];rw[iN_]
   obtain⟨w4,rfl⟩:=exq F;go_wp2_with fail;apply(Z D w4 q4 a T d3).mono;rintro e B⟨g5,⟨size,q5,z,rfl,N⟩|⟨z,rfl,N⟩⟩;rotate_left
   exact⟨rfl,aq a g5,.inr ⟨by rw[Z h];simp[jK,Z i,z],rfl,N⟩⟩
   obtain⟨⟨e0,e1⟩,e2,e3⟩:=kS C z;replace z:=J z;replace a:=aq a g5;have b6:=J ((Z bz).gb g5 (by
    by_cases hv:(Value.slice H I K).ownBlock=none;exact .inl hv
    ·exact .inr (λe=>by have:=((Z bz).lt X e).1;omega)))
   obtain⟨b,O⟩:=exq (lo-(qN+2));rw[<-O];have db:0<=b/\b<=4611686018427387903:=by omega
   replace O:=J O;go_wp2_with fail;apply(yO X b size B ⟨by omega,by omega⟩ ⟨by omega,by omega⟩).mono;rintro e F⟨rfl,⟨de,rfl⟩|⟨dg,rfl⟩⟩;rotate_left
   refine⟨rfl,a,.inr ⟨?_,rfl,q5,N⟩⟩
   rw[Z h];simp only[jK,Z i,Z z,fk]
   rw[az (by have:=Z O;omega)];obtain⟨B,rfl⟩:=exq F;obtain⟨c,aC⟩:=exq (b-size);rw[<-aC];have dk:0<=c/\c<=4611686018427387903:=by omega
   have a4:jL l p=jK l (M-(j+1)) q5 c (s++[⟨c,b⟩]):=by
    rw[Z h];simp only[jK,Z i,Z z,fk]
    have q1:=Z O;rw[iP_,<-b5];have z1:lo-2-qN-size=c:=by omega
    have z2:lo-2-qN=b:=by omega
    rw[z1,z2]
   replace⟨aC,a4⟩:=bA aC a4;have a8:=J ((Z b6).an (aH B (.cells #[.int .u64 c,.int .u64 b] 200) none));have b8:=J (N.gb (aH B (.cells #[.int .u64 c,.int .u64 b] 200) none) (by simp));have g6:=J (cJ a (aH B (.cells #[.int .u64 c,.int .u64 b] 200) none) (λj e=>by cases e));have dn:=a.size;have ds:=N.lt;go_wp2_with (at_builtin;refine Jw (by rfl) _ _ (by rfl) w.heap.size _ s (by rfl) (Z a8) B.heap.size 0 1 ⟨c,b⟩ ⟨⟨by simp;omega,by simp;omega⟩,by simp;omega,by simp;omega⟩ (by rfl) (by simp) (by simp) (by omega) (by simp;omega) ?_;intro a7 n7 c7 w7 o7 g7 b7);go_roundw;case rel=>
    refine⟨j+1,q5,c,s++[⟨c,b⟩],a7,n7,c7,by omega,by simp,rfl,rfl,o7,?_,?_,by simp;omega,e3,by omega,by omega,Z a4⟩
    exact(Z b8).gb g7 (λe=>by have:=((Z a8).lt X e).1;omega);exact cJ (Z g6) g7 (λk e=>.inl ((Z a8).lt k e).1)
   case measure=>simp[intOf];omega
  obtain rfl:j=M:=by omega
  go_wp2;go_ret;have bM:=L.ni;exact⟨a,.inl ⟨s,q,H,I,K,by rw[h,rX];rfl,rfl,bM.1,bM.2,bx⟩⟩
structure Gx(w a:World)(X Y:Nat):Prop where
 os:a.os=w.os
 tape:a.tape=w.tape
 output:a.output=w.output
 size:w.heap.size<=a.heap.size
 block:∀k,k<w.heap.size->k≠X->k≠Y->a.heap[k]?=w.heap[k]?
def Gx.refl(w:World)(X Y:Nat):Gx w w X Y:=⟨rfl,rfl,rfl,aR _,λ_ _ _ _=>rfl⟩
def Gx.trans(h:Gx w W n j)(k:Gx W v n j):Gx w v n j:=
 ⟨k.os.trans h.os,k.tape.trans h.tape,k.output.trans h.output,bD h.size k.size,λi hi a b=>(k.block i (bX hi h.size) a b).trans (h.block i hi a b)⟩
def Gx.of{X Y:Nat}(g:w.grownBy W N)(a:∀k,N=some k->k=X\/k=Y\/w.heap.size<=k):Gx w W X Y:=
 ⟨g.os,g.tape,g.output,g.size,λk b c d=>g.block k b (λe=>by obtain h|h|h:=a k e.symm;exact c h;exact d h;omega)⟩
def Gx.set{w:World}(h:Gx w W n i)(p:Addr)(v:Value)(e:p.block=n\/p.block=i\/w.heap.size<=p.block):Gx w (W.setCell p v) n i:=
 ⟨h.os,h.tape,h.output,by simpa [World.setCell]using h.size,λk c a b=>by
  rw[dF _ _ _ _ (by rintro rfl;obtain e|e|e:=e<;>first|exact a e|exact b e|omega)];exact h.block k c a b⟩
def Gx.gb(h:Gx w W n i)(hY:w.heap.size<=i):w.grownBy W (some n):=
 ⟨h.os,h.tape,h.output,h.size,λk a b=>h.block k a (λe=>b (by rw[e])) (by omega)⟩
def Gx.cell(h:Gx w W n k)(a:w.cell? ⟨b,i,none⟩=some x)(c:b≠n)(d:b≠k):W.cell? ⟨b,i,none⟩=some x:=
 (wu (h.block b (eE w ⟨b,i,none⟩ a) c d) i).trans a
def mg(l:List Int)(f:Fr)(p:Nat):Option (Fr×Nat):=(cU l p).bind λx=>some ({f with offset:=x.1},x.2)
def nz(l:List Int)(f:Fr)(p:Nat):Option (Fr×Nat):=(cU l p).bind λx=>some ({f with code:=x.1},x.2)
def mh(l:List Int)(f:Fr)(p:Nat):Option (Fr×Nat):=(j6 l p).bind λx=>some ({f with stream:=x.1},x.2)
def nA(l:List Int)(f:Fr)(p:Nat):Option (Fr×Nat):=(nX l p).bind λx=>some ({f with data:=x.1},x.2)
def pZ(l:List Int)(f:Fr)(p:Nat):Option (Fr×Nat):=(jL l p).bind λx=>some ({f with ranges:=x.1},x.2)
structure RC(w:World)(X Y a o n cap:Nat)(l:List Int)(p st:Nat)(f:Fr):Prop where
 x:cN w X (.slice (some ⟨a,o,none⟩) n cap) p st
 y:w.heap[Y]?=some (.cells (bO f (.slice none 0 0)) 158 (0,0))
 b:bI w (some ⟨a,o,none⟩) n cap l
 xb:a≠X
 yb:a≠Y
 xy:X≠Y
 hp:p<=l.length
 hl:l.length<=100000000
 ok:f.ok
 rg:f.ranges=[]
 dt:f.data.size<=9223372036854775807
def L1(b:Bool)(w d:World)(f:Fr)(a:Value):Prop:=dA d f a/\((f.ranges=[]/\a=.slice none 0 0)\/(b=true/\∃x n c,a=.slice (some x) n c/\w.heap.size<=x.block))
def sQ(d:Bool)(w:World)(X Y:Nat)(sl:Value)(st len:Nat)(r:Option (Fr×Nat))(e:Ending)(a:World):Prop:=
 Gx w a X Y/\((∃b q c,r=some (b,q)/\e=.returned (.tuple #[])/\cN a X sl q st/\a.heap[Y]?=some (.cells (bO b c) 158 (0,0))/\L1 d w a b c/\q<=len)\/(r=none/\e=PN/\∃f,cN a X sl f st))
def dA.nil(w:World)(f:Fr)(h:f.ok)(a:f.ranges=[])(hd:f.data.size<=9223372036854775807):dA w f (.slice none 0 0):=
 ⟨h,hd,none,0,by rw[a];rfl,by rw[a];exact⟨λr a=>by simp at a,rfl,by simp,by simp[maxLen],.inl rfl⟩⟩
def cN.mE(h:cN w n x j l)(a:n≠k):cN (w.setCell ⟨k,i,none⟩ y) n x j l:=
 (dF _ _ _ _ a).trans h
def sS{a c d e:Value}(h:w.heap[b]?=some (.cells #[x,y,z,a,c,d,e] T (0,0))):∀o,w.frozen? ⟨b,o,none⟩=false:=by
 simp[World.frozen?,h]
def L3(w:World)(X Y g o n cap:Nat)(l:List Int)(p st:Nat)(f:Fr)(h:RC w X Y g o n cap l p st f)(B:Nat)(D:w.cell? ⟨B,0,none⟩=some (.func (.func 230) #[] #[])):
 Calls prog 276 #[.pointer (some ⟨X,0,none⟩),.pointer (some ⟨Y,0,none⟩),.pointer (some ⟨B,0,none⟩)] w (sQ false w X Y (.slice (some ⟨g,o,none⟩) n cap) st l.length (mg l f p)):=by
 obtain⟨i,t,d,xb,yb,xy,hp,hl,j,u,x⟩:=h;have y:=d.1;replace⟨i,d,j⟩:=cg i d j;go_enter func276,ntmps276;go_wp2_with fail;apply(BW Y w).mono;rintro e z⟨rfl,rfl⟩;obtain⟨w,rfl⟩:=exq z;go_wp2_with fail;apply(ug X g o n cap l p st w (Z i) (Z d) xb hp hl).mono;rintro e E⟨m,⟨v,q,a,rfl,b⟩|⟨a,rfl,b⟩⟩
 ·obtain⟨⟨A,F⟩,G,C⟩:=kS y a;have c:=(m.block Y (aZ.1 t).1 (λe=>xy (aQ e).symm)).trans t;have H:=(cM c).2.2.1;have I:=sS c;have r:mg l f p=some ({f with offset:=v},q):=by unfold mg;rw[a];rfl
  replace⟨r,a,c,b⟩:=eV r a c b;go_wp2_with fail;refine fm (eF rfl _ _ _) rfl ?_;refine⟨(Gx.of m (λk e=>.inl (aQ e).symm)).set _ _ (.inr (.inl rfl)),.inl ⟨_,_,_,Z r,rfl,(Z b).mE xy,(heap_set (Z c) _).trans rfl,⟨dA.nil _ _ ?_ u x,.inl ⟨u,rfl⟩⟩,C⟩⟩
  have s:=Z j;exact⟨s.1,s.2.1,⟨A,by simp;omega⟩,s.2.2.2⟩
 exact⟨rfl,Gx.of m (λk e=>.inl (aQ e).symm),.inr ⟨by unfold mg;rw[a];rfl,rfl,b⟩⟩
def Ma(w:World)(X Y i o n cap:Nat)(l:List Int)(p st:Nat)(f:Fr)(h:RC w X Y i o n cap l p st f)(B:Nat)(D:w.cell? ⟨B,0,none⟩=some (.func (.func 231) #[] #[])):
 Calls prog 276 #[.pointer (some ⟨X,0,none⟩),.pointer (some ⟨Y,0,none⟩),.pointer (some ⟨B,0,none⟩)] w (sQ false w X Y (.slice (some ⟨i,o,none⟩) n cap) st l.length (nz l f p)):=by
 obtain⟨j,t,d,xb,yb,xy,hp,hl,m,u,x⟩:=h;have y:=d.1;replace⟨j,d,m⟩:=cg j d m;go_enter func276,ntmps276;go_wp2_with fail;apply(BX Y w).mono;rintro e z⟨rfl,rfl⟩;obtain⟨w,rfl⟩:=exq z;go_wp2_with fail;apply(ug X i o n cap l p st w (Z j) (Z d) xb hp hl).mono;rintro e E⟨r,⟨v,q,a,rfl,b⟩|⟨a,rfl,b⟩⟩
 ·obtain⟨⟨A,F⟩,G,C⟩:=kS y a;have c:=(r.block Y (aZ.1 t).1 (λe=>xy (aQ e).symm)).trans t;have H:=(cM c).2.2.2.1;have I:=sS c;have s:nz l f p=some ({f with code:=v},q):=by unfold nz;rw[a];rfl
  replace⟨s,a,c,b⟩:=eV s a c b;go_wp2_with fail;refine fm (eF rfl _ _ _) rfl ?_;refine⟨(Gx.of r (λk e=>.inl (aQ e).symm)).set _ _ (.inr (.inl rfl)),.inl ⟨_,_,_,Z s,rfl,(Z b).mE xy,(heap_set (Z c) _).trans rfl,⟨dA.nil _ _ ?_ u x,.inl ⟨u,rfl⟩⟩,C⟩⟩
  have g:=Z m;exact⟨g.1,g.2.1,g.2.2.1,⟨A,by simp;omega⟩,g.2.2.2.2⟩
 exact⟨rfl,Gx.of r (λk e=>.inl (aQ e).symm),.inr ⟨by unfold nz;rw[a];rfl,rfl,b⟩⟩
def Mb(w:World)(X Y g o n cap:Nat)(l:List Int)(p st:Nat)(f:Fr)(h:RC w X Y g o n cap l p st f):
 Calls prog 267 #[.pointer (some ⟨X,0,none⟩),.pointer (some ⟨Y,0,none⟩)] w (sQ false w X Y (.slice (some ⟨g,o,none⟩) n cap) st l.length (mh l f p)):=by
 obtain⟨i,t,d,xb,yb,xy,hp,hl,j,u,z⟩:=h;have A:=d.1;replace⟨i,d,j⟩:=cg i d j;go_enter func267,ntmps267;go_wp2_with fail;apply(Jz X g o n cap l p st w (Z i) (Z d) xb hp hl).mono;rintro e D⟨m,⟨v,q,a,rfl,b⟩|⟨a,rfl,b⟩⟩
 ·have B:0<=v/\v<4/\q<=l.length:=by
   unfold j6 at a;cases r:cU l p with
   |none=>rw[r]at a;cases a
   |some x=>
    rw[r]at a;simp only[fk]at a;split at a;cases a;have:=kS (q:=q) (n:=v) A r;unfold dZ at this;omega;cases a
  obtain⟨E,F,C⟩:=B;have c:=(m.block Y (aZ.1 t).1 (λe=>xy (aQ e).symm)).trans t;have G:=(cM c).2.1;have H:=sS c;have s:mh l f p=some ({f with stream:=v},q):=by unfold mh;rw[a];rfl
  replace⟨s,a,c,b⟩:=eV s a c b;go_wp2_with fail;refine fm (eF rfl _ _ _) rfl ?_;refine⟨(Gx.of m (λk e=>.inl (aQ e).symm)).set _ _ (.inr (.inl rfl)),.inl ⟨_,_,_,Z s,rfl,(Z b).mE xy,(heap_set (Z c) _).trans rfl,⟨dA.nil _ _ ?_ u z,.inl ⟨u,rfl⟩⟩,C⟩⟩
  have y:=Z j;exact⟨y.1,⟨by simp;omega,by simp;omega⟩,y.2.2⟩
 exact⟨rfl,Gx.of m (λk e=>.inl (aQ e).symm),.inr ⟨by unfold mh;rw[a];rfl,rfl,b⟩⟩
def strOfNums_size(l:List Int):(strOfNums l).size=l.length:=by
 have h:=fG List.length (strOfNums_data l);rw[dH,qt]at h;exact h
def DM{l:List Int}(c:∀x∈l,W8 x):∀(k p:Nat)(lo:Int)(a rs:List Rg)(q:Nat),p<=l.length->jK l k p lo a=some (rs,q)->q<=l.length
 |0,p,lo,a,rs,q,hp,h=>by
  simp only[jK,mn,qZ]at h;omega
 |k+1,p,lo,a,rs,q,hp,h=>by
  simp only[jK]at h;cases d:cU l p with
  |none=>rw[d]at h;cases h
  |some x=>
   rw[d]at h;simp only[fk]at h;cases b:cU l x.2 with
   |none=>rw[b]at h;cases h
   |some y=>
    rw[b]at h;simp only[fk]at h;split at h;exact DM c k _ _ _ _ _ (kS (n:=y.1) (q:=y.2) c b).2.2 h;cases h
def Mc(b:∀x∈L,W8 x)(h:jL L k=some (D,i)):i<=L.length:=by
 unfold jL at h;cases c:cU L k with
 |none=>rw[c]at h;cases h
 |some x=>
  rw[c]at h;simp only[fk]at h;cases d:cU L x.2 with
  |none=>rw[d]at h;cases h
  |some y=>
   rw[d]at h;simp only[fk]at h;cases a:cU L y.2 with
   |none=>rw[a]at h;cases h
   |some z=>
    rw[a]at h;simp only[fk]at h;split at h;exact DM b _ _ _ _ _ _ (kS (n:=z.1) (q:=z.2) b a).2.2 h;cases h
def Md(w:World)(X Y b o n cap:Nat)(l:List Int)(p st:Nat)(f:Fr)(h:RC w X Y b o n cap l p st f):
 Calls prog 273 #[.pointer (some ⟨X,0,none⟩),.pointer (some ⟨Y,0,none⟩)] w (sQ false w X Y (.slice (some ⟨b,o,none⟩) n cap) st l.length (nA l f p)):=by
 obtain⟨c,A,d,xb,yb,xy,hp,hl,s,B,K⟩:=h;have F:=d.1;have G:Hid (∀W,w.grownBy W (some X)->bI W (some ⟨b,o,none⟩) n cap l):=J (λW g=>d.gb g (λj e=>.inr (.inr (λx c=>by cases c;cases e;exact xb))));replace⟨c,d,s⟩:=cg c d s;go_enter func273,ntmps273;go_wp2_with fail;apply(ug X b o n cap l p st w (Z c) (Z d) xb hp hl).mono;rintro e C⟨r,⟨v,q,a,rfl,t⟩|⟨a,rfl,t⟩⟩;rotate_left
 exact⟨rfl,Gx.of r (λk e=>.inl (aQ e).symm),.inr ⟨by unfold nA nX;rw[a];rfl,rfl,t⟩⟩
 obtain⟨⟨L,M⟩,N,H⟩:=kS F a;obtain⟨k,I⟩:∃k:Nat,v=(k:Int):=⟨v.toNat,by omega⟩
 subst I;replace a:=J a;go_wp2_with fail;apply(wA X b o n cap l q st k _ rfl C t (Z G C r) xb H hl).mono;rintro e O⟨D,⟨hs,rfl,i⟩|⟨hs,P,c2,rfl,u,i⟩⟩;refine⟨rfl,(Gx.of r (λk e=>.inl (aQ e).symm)).trans (Gx.of D (λk e=>.inl (aQ e).symm)),.inr ⟨?_,rfl,q,i⟩⟩
 unfold nA nX;rw[Z a];simp only[fk]
 rw[iN_];rfl;have y:nA l f p=some ({f with data:=strOfNums ((l.drop q).take k)},q+k):=by
  unfold nA nX;rw[Z a];simp only[fk]
  rw[iP_];simp
 have E:=aq r D;have m:=(E.block Y (aZ.1 A).1 (λe=>xy (aQ e).symm)).trans A;have Q:=(cM m).2.2.2.2.2.1;have R:=sS m;have S:=tM u;have z:(strOfNums ((l.drop q).take k)).size<=9223372036854775807:=by rw[strOfNums_size];simp;omega
 replace⟨y,m,i,u,z⟩:=eR y m i u z;go_wp2_with fail;refine fm (eF rfl _ _ _) rfl ?_;exact⟨(Gx.of E (λk e=>.inl (aQ e).symm)).set _ _ (.inr (.inl rfl)),.inl ⟨_,_,_,Z y,rfl,(Z i).mE xy,(heap_set (Z m) _).trans rfl,⟨dA.nil _ _ (Z s) B (Z z),.inl ⟨B,rfl⟩⟩,by omega⟩⟩
def Me(w:World)(X Y j o n cap:Nat)(l:List Int)(p st:Nat)(f:Fr)(h:RC w X Y j o n cap l p st f)(K:Y<w.heap.size):
 Calls prog 270 #[.pointer (some ⟨X,0,none⟩),.pointer (some ⟨Y,0,none⟩)] w (sQ true w X Y (.slice (some ⟨j,o,none⟩) n cap) st l.length (pZ l f p)):=by
 obtain⟨m,z,d,xb,yb,xy,hp,hl,r,L,F⟩:=h;have G:=d.1;replace⟨m,d,r⟩:=cg m d r;go_enter func270,ntmps270;go_wp2_with fail;apply(LZ X j o n cap l p st w (Z m) (Z d) xb hp hl).mono;rintro e M⟨s,⟨rs,q,A,H,c1,a,rfl,t,u,b⟩|⟨a,rfl,b⟩⟩
 ·have I:q<=l.length:=Mc G a;have c:=(s.block Y (aZ.1 z).1 (λe=>xy (aQ e).symm)).trans z;have N:=(cM c).2.2.2.2.2.2;have O:=sS c;have v:pZ l f p=some ({f with ranges:=rs},q):=by unfold pZ;rw[a];rfl
  replace⟨v,a,c,b,t⟩:=eR v a c b t;go_wp2_with fail;refine fm (eF rfl _ _ _) rfl ?_;have g:=Z r;have i:=Z t;have y:H=rs.length:=i.2.1;refine⟨(Gx.of s (λk e=>.inl (aQ e).symm)).set _ _ (.inr (.inl rfl)),.inl ⟨_,_,_,Z v,rfl,(Z b).mE xy,(heap_set (Z c) _).trans rfl,⟨⟨⟨g.1,g.2.1,g.2.2.1,g.2.2.2.1,i.1⟩,F,A,c1,by rw[y],?_⟩,?_⟩,I⟩⟩
  rw[<-y];obtain⟨B,C,k3,k4,k5⟩:=i;refine⟨B,C,k3,k4,?_⟩
  obtain k5|⟨D,E,rfl,k5⟩:=k5
  exact .inl k5;exact .inr ⟨D,E,rfl,vG k5 _ _ (by have:=u _ rfl;simp at this⊢;omega)⟩;obtain⟨B,C,k3,k4,k5|⟨D,E,rfl,k5⟩⟩:=i;obtain _|x:=A
  left;have:rs=[]:=eN_;subst this;refine⟨rfl,?_⟩
  rw[y,k5];rfl;exact .inr ⟨rfl,_,_,_,rfl,u _ rfl⟩;exact .inr ⟨rfl,_,_,_,rfl,u _ rfl⟩
 exact⟨rfl,Gx.of s (λk e=>.inl (aQ e).symm),.inr ⟨by unfold pZ;rw[a];rfl,rfl,b⟩⟩
def Mf(w:World)(L:List Sh)(t:Int)(e:Ending)(a:World):Prop:=
 ((∃j,j<7/\(bF L j).t=t/\e=.returned (.tuple #[.agg #[.int .i64 (bF L j).k,.bool (bF L j).fin,.int .u8 (bF L j).t,.slice (bF L j).pa (bF L j).n (bF L j).n],.bool true]))\/
   ((∀j,j<7->¬(bF L j).t=t)/\e=.returned (.tuple #[.agg #[.int .i64 0,.bool false,.int .u8 0,.slice none 0 0],.bool false])))/\w.grownBy a none
def Mg(w:World)(T h k l m n E F:Nat)(y:jN w T h k l m n E F)(t:Int):
 Calls prog 232 #[.slice (some ⟨T,0,none⟩) 7 7,.int .u8 t] w (Mf w (bV h k l m n) t):=by
 have p:=λ(W:World)(g:w.grownBy W none)=>(y.an g).at
 generalize bV h k l m n=L at *;clear y;obtain⟨z,b⟩:=exq (w.alloc (.cells #[.int .i64 0,.bool false,.int .u8 0,.slice none 0 0] 317));have q:∀W:World,z.grownBy W none->W.heap[w.heap.size]?=some (.cells #[.int .i64 0,.bool false,.int .u8 0,.slice none 0 0] 317 (0,0))/\w.grownBy W none:=λW g=>
  ⟨(g.block _ (by rw[b];simp) (by simp)).trans (by rw[b];exact aO _ _),aq (by rw[b];exact aH _ _ _) g⟩
 replace⟨q,p⟩:=bA q p;go_enter func232,ntmps232;go_wp2_with fail;rw[<-b];replace b:=J b;go_loopw [10] (λi wr=>∃j:Nat,j<=7/\i=.int .i64 j/\(∀i,i<j->¬(bF L i).t=t)/\z.grownBy wr none) (λi _=>7-(intOf i).toNat);case atStart=>exact⟨0,by omega,rfl,λi hi=>by omega,aB _ _⟩
 case round=>
  obtain⟨j,O,rfl,c,A⟩:=hrel;obtain⟨b2,r⟩:=Z q wr A;by_cases B:j<7
  ·obtain⟨c1,c2,c3,c4⟩:=Z p wr r j B;obtain⟨S,d⟩:=exq (bF L j);rw[<-d]at c1 c2 c3 c4;obtain⟨K,C,e,D,PN⟩:=S;simp only at c1 c2 c3 c4;have G:Hid (¬e=t->∀i,i<j+1->¬(bF L i).t=t):=J (λH i hi=>by
    obtain I|rfl:=qm.1 hi
    exact c i I
    ·rw[<-d];exact H)
   replace⟨c,d⟩:=bA c d;have P:(0:Int)<=j:=by omega
   have Q:(j:Int)<7:=by omega
   by_cases f:e=t
   ·have M:(e==t)=true:=by simp[f]
    replace f:=J f;have a:(wr.alloc (.cells #[.int .i64 K,.bool C,.int .u8 e,.slice D PN PN] 317)).heap[w.heap.size]?=some (.cells #[.int .i64 0,.bool false,.int .u8 0,.slice none 0 0] 317 (0,0)):=(fE _ _ _ (aZ.1 b2).1).trans b2;have s:=(jz a).1;have u:=(jz a).2.1;have z2:=(jz a).2.2.1;have x:=(jz a).2.2.2.1;have N:=(jz a).2.2.2.2;replace⟨a,b2⟩:=bA a b2;go_wp2_with fail;refine cF (v:=.tuple #[.agg #[.int .i64 K,.bool C,.int .u8 e,.slice D PN PN],.bool true]) ?_ rfl ?_
    ·simp[results,results232,go_sem,s,u,z2,x]
    exact⟨.inl ⟨j,B,by rw[<-Z d];exact Z f,by rw[<-Z d]⟩,aK (aK (aK (aK (aY r _) _ _ (.inl (aR _))) _ _ (.inl (aR _))) _ _ (.inl (aR _))) _ _ (.inl (aR _))⟩
   have M:(e==t)=false:=by simp[f]
   replace b2:=J b2;go_wp2;go_roundw;case rel=>exact⟨j+1,by omega,by simp,Z G f,aY A _⟩
   case measure=>simp[intOf];omega
  obtain rfl:j=7:=by omega
  have s:=(jz b2).1;have u:=(jz b2).2.1;have z2:=(jz b2).2.2.1;have x:=(jz b2).2.2.2.1;have N:=(jz b2).2.2.2.2;replace⟨b2,c⟩:=bA b2 c;go_wp2_with fail;refine cF (v:=.tuple #[.agg #[.int .i64 0,.bool false,.int .u8 0,.slice none 0 0],.bool false]) ?_ rfl ?_
  ·simp[results,results232,go_sem,s,u,z2,x]
  exact⟨.inr ⟨Z c,rfl⟩,aK (aK (aK (aK r _ _ (.inl (aR _))) _ _ (.inl (aR _))) _ _ (.inl (aR _))) _ _ (.inl (aR _))⟩
abbrev zp:=Fr->Nat->Option (Fr×Nat)
def qO:List zp->Fr->Nat->Option (Fr×Nat)
 |[],f,p=>some (f,p)
 |s::r,f,p=>(s f p).bind λx=>qO r x.1 x.2
def ep(l:List Int)(j:Nat):List zp:=
 if j=2 then[pZ l]else if j=3 then[mh l,nz l,mg l]else if j=4\/j=5 then[mh l,mg l,nA l]else if j=6 then[nz l]else[]
def Mh(l:List Int)(a b c d e:Nat)(p:Nat)(f:j<7):fM l (bF (bV a b c d e) j).t p=qO (ep l j) (cu (bF (bV a b c d e) j).k (bF (bV a b c d e) j).fin) p:=by
 obtain rfl|rfl|rfl|rfl|rfl|rfl|rfl:=qH f
 simp[fM,bF,bV,ep,qO];simp[fM,bF,bV,ep,qO];show fM l 2 p=(pZ l (cu 3 false) p).bind λx=>some (x.1,x.2)
 unfold fM pZ;rw[az (by decide),az (by decide),aD rfl];cases jL l p<;>rfl;show fM l 4 p=(mh l (cu 4 false) p).bind λx=>(nz l x.1 x.2).bind λx=>(mg l x.1 x.2).bind λx=>some (x.1,x.2)
 unfold fM mh nz mg;rw[az (by decide),az (by decide),az (by decide),aD rfl];cases j6 l p with
 |none=>rfl
 |some x=>
  simp only[fk]
  cases cU l x.2 with
  |none=>rfl
  |some y=>
   simp only[fk]
   cases cU l y.2<;>rfl
 show fM l 8 p=(mh l (cu 5 false) p).bind λx=>(mg l x.1 x.2).bind λx=>(nA l x.1 x.2).bind λx=>some (x.1,x.2)
 unfold fM mh mg nA;rw[az (by decide),az (by decide),az (by decide),az (by decide),aD (by decide)];cases j6 l p with
 |none=>rfl
 |some x=>
  simp only[fk]
  cases cU l x.2 with
  |none=>rfl
  |some y=>
   simp only[fk]
   cases nX l y.2<;>rfl
 show fM l 9 p=(mh l (cu 5 true) p).bind λx=>(mg l x.1 x.2).bind λx=>(nA l x.1 x.2).bind λx=>some (x.1,x.2)
 unfold fM mh mg nA;rw[az (by decide),az (by decide),az (by decide),az (by decide),aD (by decide)];cases j6 l p with
 |none=>rfl
 |some x=>
  simp only[fk]
  cases cU l x.2 with
  |none=>rfl
  |some y=>
   simp only[fk]
   cases nX l y.2<;>rfl
 show fM l 28 p=(nz l (cu 6 false) p).bind λx=>some (x.1,x.2)
 unfold fM nz;rw[az (by decide),az (by decide),az (by decide),az (by decide),az (by decide),aD rfl];cases cU l p<;>rfl
def Mi(l:List Int)(p:Nat)(h:∀j,j<7->¬(bF (bV n k i m o) j).t=t):fM l t p=none:=by
 have h0:=h 0 (by omega);have a:=h 1 (by omega);have b:=h 2 (by omega);have c:=h 3 (by omega);have d:=h 4 (by omega);have f:=h 5 (by omega);have g:=h 6 (by omega);simp only[bF,bV,xR,List.getD_cons_succ]at h0 a b c d f g;unfold fM;rw[az (λe=>h0 e.symm),az (λe=>a e.symm),az (λe=>b e.symm),az (λe=>c e.symm),az (λe=>e.elim (λe=>d e.symm) (λe=>f e.symm)),az (λe=>g e.symm)]
def Mj{b:Fr}(c:j<7)(hi:i<(ep L j).length)(h:(ep L j)[i] G n=some (b,k)):b.kind=G.kind:=by
 have a:∀{α:Type}(o:Option (α×Nat))(g:α×Nat->Fr×Nat),(∀x,(g x).1.kind=G.kind)->(o.bind λx=>some (g x))=some (b,k)->b.kind=G.kind:=by
  intro α o g d e;cases o with
  |none=>cases e
  |some x=>simp only[fk,mn]at e;have:=d x;rw[e]at this;exact this
 obtain rfl|rfl|rfl|rfl|rfl|rfl|rfl:=qH c
 simp[ep]at hi;simp[ep]at hi;have e:i=0:=by simp[ep]at hi;omega
 subst e;exact a _ _ (λ_=>rfl) h;have e:i=0\/i=1\/i=2:=by simp[ep]at hi;omega
 obtain rfl|rfl|rfl:=e<;>exact a _ _ (λ_=>rfl) h
 have e:i=0\/i=1\/i=2:=by simp[ep]at hi;omega
 obtain rfl|rfl|rfl:=e<;>exact a _ _ (λ_=>rfl) h
 have e:i=0\/i=1\/i=2:=by simp[ep]at hi;omega
 obtain rfl|rfl|rfl:=e<;>exact a _ _ (λ_=>rfl) h
 have e:i=0:=by simp[ep]at hi;omega
 subst e;exact a _ _ (λ_=>rfl) h
def jN.ne{s:Nat}(h:jN W k i j l m o b s){X:Nat}{c:Nat}(d:W.cell? ⟨X,0,none⟩=some (.slice a n c)):k≠X/\i≠X/\j≠X/\l≠X/\m≠X/\o≠X/\b≠X/\s≠X:=by
 have e:=h.tab 0 _ rfl;have f:=h.p2 0 _ rfl;have g:=h.p3 0 _ rfl;have p:=h.p4 0 _ rfl;have q:=h.p5 0 _ rfl;have r:=h.p6 0 _ rfl;have t:=h.bo;have u:=h.bc;rw[dY]at e f g p q r;refine⟨?_,?_,?_,?_,?_,?_,?_,?_⟩
 rintro rfl;rw[d]at e;cases e;rintro rfl;rw[d]at f;cases f;rintro rfl;rw[d]at g;cases g;rintro rfl;rw[d]at p;cases p;rintro rfl;rw[d]at q;cases q;rintro rfl;rw[d]at r;cases r;rintro rfl;rw[d]at t;cases t;rintro rfl;rw[d]at u;cases u
def sT{cs:List Value}(h:w.rangeAt b o cs)(g:Gx w W n k)(a:b≠n)(c:b≠k):W.rangeAt b o cs:=λj v d=>g.cell (h j v d) a c
def jN.gx{a c:Nat}(h:jN w i j l m o b a c)(g:Gx w W n k)(d:i≠n/\j≠n/\l≠n/\m≠n/\o≠n/\b≠n/\a≠n/\c≠n)(hY:i≠k/\j≠k/\l≠k/\m≠k/\o≠k/\b≠k/\a≠k/\c≠k):jN W i j l m o b a c:=by
 obtain⟨e,f,p,q,r,s,t,x8⟩:=d;obtain⟨u,v,x,y,z,A,B,C⟩:=hY;exact⟨sT h.tab g e u,sT h.p2 g f v,sT h.p3 g p x,sT h.p4 g q y,sT h.p5 g r z,sT h.p6 g s A,g.cell h.bo t B,g.cell h.bc x8 C⟩
def jN.lt(h:jN W n k i j l m o b){Y:Nat}(hY:W.heap.size<=Y):n≠Y/\k≠Y/\i≠Y/\j≠Y/\l≠Y/\m≠Y/\o≠Y/\b≠Y:=by
 have a:=eE W _ (h.tab 0 _ rfl);have c:=eE W _ (h.p2 0 _ rfl);have d:=eE W _ (h.p3 0 _ rfl);have e:=eE W _ (h.p4 0 _ rfl);have f:=eE W _ (h.p5 0 _ rfl);have g:=eE W _ (h.p6 0 _ rfl);have p:=eE W _ h.bo;have q:=eE W _ h.bc;simp only at a c d e f g p q;omega
def Rd(c:World)(X Y a o n cap:Nat)(l:List Int)(st:Nat)(d:Bool)(e:Value)(s:zp):Prop:=
 ∃R b,e=.func (.func R) #[] b/\(∀args w,(callFunc R args).run prog w=.ok (.enter R args) w)/\∀(w:World)(p:Nat)(f:Fr),Gx c w X Y->RC w X Y a o n cap l p st f->
  Calls prog R (#[.pointer (some ⟨X,0,none⟩),.pointer (some ⟨Y,0,none⟩)]++b) w (sQ d w X Y (.slice (some ⟨a,o,none⟩) n cap) st l.length (s f p))
def DN(args:Array Value)(w:World):(callFunc 276 args).run prog w=.ok (.enter 276 args) w:=by kernel_rfl
def Mk(args:Array Value)(w:World):(callFunc 267 args).run prog w=.ok (.enter 267 args) w:=by kernel_rfl
def Ml(args:Array Value)(w:World):(callFunc 273 args).run prog w=.ok (.enter 273 args) w:=by kernel_rfl
def Mm(args:Array Value)(w:World):(callFunc 270 args).run prog w=.ok (.enter 270 args) w:=by kernel_rfl
def Mn{t:Nat}(h:jN W k m b n i l o t)(X Y d q s cap:Nat)(a:List Int)(st:Nat)(z:k≠X/\m≠X/\b≠X/\n≠X/\i≠X/\l≠X/\o≠X/\t≠X)(hY:k≠Y/\m≠Y/\b≠Y/\n≠Y/\i≠Y/\l≠Y/\o≠Y/\t≠Y)(A:Y<W.heap.size)(B:j<7):
 (bF (bV m b n i l) j).n=(ep a j).length/\(ep a j).length<=3/\((ep a j).length=0\/∃P,(bF (bV m b n i l) j).pa=some ⟨P,0,none⟩/\P≠X/\P≠Y/\∀c(hi:c<(ep a j).length),∃C wc rd,W.cell? ⟨P,c*2,none⟩=some (.func (.func C) #[] wc)/\W.cell? ⟨P,c*2+1,none⟩=some rd/\Rd W X Y d q s cap a st (decide (j=2)) rd (ep a j)[c]):=by
 obtain⟨-,D,E,F,G,H,I,x8⟩:=z;obtain⟨-,K,L,M,N,O,Q,R⟩:=hY;have u:Rd W X Y d q s cap a st false (nR o) (mg a):=⟨_,_,rfl,DN,λw p f g r=>L3 w X Y d q s cap a p st f r o (g.cell h.bo I Q)⟩
 have x:Rd W X Y d q s cap a st false (nR t) (nz a):=⟨_,_,rfl,DN,λw p f g r=>Ma w X Y d q s cap a p st f r t (g.cell h.bc x8 R)⟩
 have v:Rd W X Y d q s cap a st false sR (mh a):=⟨_,_,rfl,Mk,λw p f _ r=>Mb w X Y d q s cap a p st f r⟩
 have y:Rd W X Y d q s cap a st false bR (nA a):=⟨_,_,rfl,Ml,λw p f _ r=>Md w X Y d q s cap a p st f r⟩
 have S:Rd W X Y d q s cap a st true rR (pZ a):=⟨_,_,rfl,Mm,λw p f g r=>Me w X Y d q s cap a p st f r (bX A g.size)⟩
 obtain rfl|rfl|rfl|rfl|rfl|rfl|rfl:=qH B
 exact⟨rfl,by simp[ep],.inl rfl⟩
 exact⟨rfl,by simp[ep],.inl rfl⟩
 refine⟨rfl,by simp[ep],.inr ⟨m,rfl,D,K,λc hi=>?_⟩⟩
 have e:c=0:=by simp[ep]at hi;omega
 subst e;exact⟨_,_,rR,h.p2 0 _ rfl,h.p2 1 _ rfl,S⟩
 refine⟨rfl,by simp[ep],.inr ⟨b,rfl,E,L,λc hi=>?_⟩⟩
 have e:c=0\/c=1\/c=2:=by simp[ep]at hi;omega
 obtain rfl|rfl|rfl:=e
 exact⟨_,_,sR,h.p3 0 _ rfl,h.p3 1 _ rfl,v⟩
 exact⟨_,_,nR t,h.p3 2 _ rfl,h.p3 3 _ rfl,x⟩
 exact⟨_,_,nR o,h.p3 4 _ rfl,h.p3 5 _ rfl,u⟩
 refine⟨rfl,by simp[ep],.inr ⟨n,rfl,F,M,λc hi=>?_⟩⟩
 have e:c=0\/c=1\/c=2:=by simp[ep]at hi;omega
 obtain rfl|rfl|rfl:=e
 exact⟨_,_,sR,h.p4 0 _ rfl,h.p4 1 _ rfl,v⟩
 exact⟨_,_,nR o,h.p4 2 _ rfl,h.p4 3 _ rfl,u⟩
 exact⟨_,_,bR,h.p4 4 _ rfl,h.p4 5 _ rfl,y⟩
 refine⟨rfl,by simp[ep],.inr ⟨i,rfl,G,N,λc hi=>?_⟩⟩
 have e:c=0\/c=1\/c=2:=by simp[ep]at hi;omega
 obtain rfl|rfl|rfl:=e
 exact⟨_,_,sR,h.p5 0 _ rfl,h.p5 1 _ rfl,v⟩
 exact⟨_,_,nR o,h.p5 2 _ rfl,h.p5 3 _ rfl,u⟩
 exact⟨_,_,bR,h.p5 4 _ rfl,h.p5 5 _ rfl,y⟩
 refine⟨rfl,by simp[ep],.inr ⟨l,rfl,H,O,λc hi=>?_⟩⟩
 have e:c=0:=by simp[ep]at hi;omega
 subst e;exact⟨_,_,nR t,h.p6 0 _ rfl,h.p6 1 _ rfl,x⟩
def p7{x:Int×Nat}(h:cU L n=some x):n<x.2:=by
 unfold cU at h;split at h;cases h;have:=tO (L.getD n 0);simp only;omega;cases h
def DO{l:List Int}:∀(k p:Nat)(lo:Int)(a rs:List Rg)(q:Nat),jK l k p lo a=some (rs,q)->p<=q
 |0,p,lo,a,rs,q,h=>by
  simp only[jK,mn,qZ]at h;omega
 |k+1,p,lo,a,rs,q,h=>by
  simp only[jK]at h;cases b:cU l p with
  |none=>rw[b]at h;cases h
  |some x=>
   rw[b]at h;simp only[fk]at h;have m1:=p7 b;cases c:cU l x.2 with
   |none=>rw[c]at h;cases h
   |some y=>
    rw[c]at h;simp only[fk]at h;have d:=p7 c;split at h;have:=DO k _ _ _ _ _ h;omega;cases h
def Mo{x:List Rg×Nat}(h:jL L n=some x):n<=x.2:=by
 unfold jL at h;cases a:cU L n with
 |none=>rw[a]at h;cases h
 |some d=>
  rw[a]at h;simp only[fk]at h;have m1:=p7 a;cases b:cU L d.2 with
  |none=>rw[b]at h;cases h
  |some y=>
   rw[b]at h;simp only[fk]at h;have e:=p7 b;cases c:cU L y.2 with
   |none=>rw[c]at h;cases h
   |some z=>
    rw[c]at h;simp only[fk]at h;have f:=p7 c;split at h;have:=DO _ _ _ _ x.1 x.2 h;omega;cases h
def Mp{x:Int×Nat}(h:j6 L n=some x):n<=x.2:=by
 unfold j6 at h;cases a:cU L n with
 |none=>rw[a]at h;cases h
 |some y=>
  rw[a]at h;simp only[fk]at h;have:=p7 a;split at h;cases h;omega;cases h
def Mq{x:ByteArray×Nat}(h:nX L n=some x):n<=x.2:=by
 unfold nX at h;cases a:cU L n with
 |none=>rw[a]at h;cases h
 |some y=>
  rw[a]at h;simp only[fk]at h;have:=p7 a;split at h;cases h;simp only;omega;cases h
def bind_mono{α:Type}{o:Option (α×Nat)}{g:α×Nat->Fr}(ho:∀x,o=some x->n<=x.2)(h:(o.bind λx=>some (g x,x.2))=some (G,k)):n<=k:=by
 cases o with
 |none=>cases h
 |some x=>simp only[fk,mn,qZ]at h;have:=ho x rfl;omega
def Mr(i:j<7):∀s∈ep L j,∀(f:Fr)(p:Nat)(a:Fr)(q:Nat),s f p=some (a,q)->p<=q:=by
 have c:∀(f:Fr)(p:Nat)(a:Fr)(q:Nat),mg L f p=some (a,q)->p<=q:=λf p a q h=>bind_mono (λx b=>Nat.le_of_lt (p7 b)) h
 have e:∀(f:Fr)(p:Nat)(a:Fr)(q:Nat),nz L f p=some (a,q)->p<=q:=λf p a q h=>bind_mono (λx b=>Nat.le_of_lt (p7 b)) h
 have d:∀(f:Fr)(p:Nat)(a:Fr)(q:Nat),mh L f p=some (a,q)->p<=q:=λf p a q h=>bind_mono (λx b=>Mp b) h
 have g:∀(f:Fr)(p:Nat)(a:Fr)(q:Nat),nA L f p=some (a,q)->p<=q:=λf p a q h=>bind_mono (λx b=>Mq b) h
 have k:∀(f:Fr)(p:Nat)(a:Fr)(q:Nat),pZ L f p=some (a,q)->p<=q:=λf p a q h=>bind_mono (λx b=>Mo b) h
 intro s hs;obtain rfl|rfl|rfl|rfl|rfl|rfl|rfl:=qH i<;>simp[ep]at hs
 subst hs;exact k;obtain rfl|rfl|rfl:=hs
 exact d;exact e;exact c;obtain rfl|rfl|rfl:=hs
 exact d;exact c;exact g;obtain rfl|rfl|rfl:=hs
 exact d;exact c;exact g;subst hs;exact e
def FA(w:World)(X:Nat)(sl:Value)(p len:Nat)(r:Option (Fr×Nat))(e:Ending)(a:World):Prop:=
 w.grownBy a (some X)/\((∃f q b,r=some (f,q)/\e=.returned (.agg (bO f b))/\dA a f b/\(b=.slice none 0 0\/∃x n c,b=.slice (some x) n c/\w.heap.size<=x.block)/\cN a X sl q p/\p<q/\q<=len)\/(r=none/\e=PN/\∃d,cN a X sl d p))
def dA.set{w:World}(h:dA w G (.slice a n k))(i:Nat)(v:Value)(c:∀x,a=some x->x.block≠j):dA (w.setCell ⟨j,i,none⟩ v) G (.slice a n k):=by
 obtain⟨d,f,ra,cap,b,g⟩:=h;refine⟨d,f,ra,cap,b,?_⟩
 cases b;obtain⟨l,m,k3,k4,k5⟩:=g;refine⟨l,m,k3,k4,?_⟩
 obtain k5|⟨p,q,rfl,k5⟩:=k5
 exact .inl k5;exact .inr ⟨p,q,rfl,vG k5 _ _ (λe=>c _ rfl e.symm)⟩
def DP(w:World)(X T B D E F G Bo Bc a o n cap:Nat)(l:List Int)(p st:Nat)(hT:jN w T B D E F G Bo Bc)(hX:cN w X (.slice (some ⟨a,o,none⟩) n cap) p st)(aa:bI w (some ⟨a,o,none⟩) n cap l)(xb:a≠X)(hp:p<l.length)(hl:l.length<=100000000):
 Calls prog 190 #[.pointer (some ⟨X,0,none⟩),.slice (some ⟨T,0,none⟩) 7 7] w (FA w X (.slice (some ⟨a,o,none⟩) n cap) p l.length (nh l p)):=by
 have e3:=hX.lt;have h8:=aa.1;obtain⟨x0,V,x2,xf⟩:=ud hX;have bM:=hT.ne x0;have gd:a<w.heap.size:=by
  obtain⟨b1,o1,e1,h1⟩:=ue aa (by have:=aa.2.1;omega);cases e1;exact eE w _ (h1 0 (by have:=aa.2.1;omega))
 go_enter func190,ntmps190;go_wp2_with fail;obtain⟨W1,M⟩:∃W,W=(w.setCell ⟨X,2,none⟩ (.int .i64 p)).alloc (.cells #[.int .i64 0,.int .i64 0,.int .u64 0,.int .u64 0,.bool false,.string {data:= #[]},.slice none 0 0] 158):=⟨_,rfl⟩
 have dk:cN W1 X (.slice (some ⟨a,o,none⟩) n cap) p p:=by
  rw[M];unfold cN at hX⊢;rw[fE _ _ _ (by simpa [World.setCell]using e3),heap_set hX];rfl
 have g1:w.grownBy W1 (some X):=by rw[M];exact aY (aK (aB _ _) _ _ (.inr rfl)) _
 have dn:W1.heap[w.heap.size]?=some (.cells #[.int .i64 0,.int .i64 0,.int .u64 0,.int .u64 0,.bool false,.string {data:= #[]},.slice none 0 0] 158 (0,0)):=by
  have:=aO (w.setCell ⟨X,2,none⟩ (.int .i64 p)) (.cells #[.int .i64 0,.int .i64 0,.int .u64 0,.int .u64 0,.bool false,.string {data:= #[]},.slice none 0 0] 158);rw[M];simpa [World.setCell]using this
 have gf:W1.heap.size=w.heap.size+1:=by rw[M];simp[World.setCell]
 have a9:∀W,w.grownBy W (some X)->bI W (some ⟨a,o,none⟩) n cap l:=λW g=>aa.gb g (λj e=>.inr (.inr (λx H=>by cases H;cases e;exact xb)))
 rw[<-M];replace M:=J M;clear x0 V x2 xf hX;apply(wA X a o n cap l p p 1 1 rfl W1 dk (a9 W1 g1) xb (by omega) hl).mono;rintro e w2⟨g2,⟨hs,rfl,b0⟩|⟨hs,a2,c2,rfl,b3,b0⟩⟩;omega;obtain⟨b2,o2,rfl,ds⟩:=ue b3;have V:=ds 0 (by omega);rw[yN _ _ _ _ (by omega),oM,oM]at V;obtain⟨t,ht⟩:=exq (l.getD p 0);rw[<-ht]at V;have a3:nh l p=(fM l t (p+1)).bind λx=>by classical exact if cT x.1 then some x else none:=by rw[ht];rfl
 replace⟨ht,a3,b3⟩:=cg ht a3 b3;have b4:=aq g1 g2;have du:=hT.gx (Gx.of (Y:=X) b4 (λk e=>.inl (aQ e).symm)) bM bM;clear ds;go_wp2_with fail;apply(Mg w2 T B D E F G Bo Bc du t).mono;rintro e w3⟨⟨j,hj,bb,rfl⟩|⟨dx,rfl⟩,N⟩;rotate_left
 ·have O:nh l p=none:=by rw[Z a3,Mi l (p+1) dx];rfl
  replace O:=J O;have e4:=J (b0.gb N);clear dx V;go_wp2_with (go_at_call 188;apply(sC X _).mono;rintro e w'⟨rfl,rfl⟩);exact⟨rfl,cJ b4 (aY N _) (λk e=>by cases e),.inr ⟨Z O,rfl,_,(Z e4).gb (aH _ _ none)⟩⟩
 have a4:=Mh l B D E F G (p+1) hj;rw[bb]at a4;have bj:=λ(W:World)(e5:jN W T B D E F G Bo Bc)(Y:Nat)(hY:T≠Y/\B≠Y/\D≠Y/\E≠Y/\F≠Y/\G≠Y/\Bo≠Y/\Bc≠Y)(e6:Y<W.heap.size)=>Mn e5 X Y a o n cap l p bM hY e6 hj
 have dE:1<=(bF (bV B D E F G) j).k/\(bF (bV B D E F G) j).k<=6:=by
  obtain rfl|rfl|rfl|rfl|rfl|rfl|rfl:=qH hj<;>simp[bF,bV]
 have dG:=du.an N;have b5:=Mr (L:=l) hj;have b6:=λ(i:Nat)(hi:i<(ep l j).length)(f f':Fr)(p q:Nat)=>Mj (L:=l) (G:=f) (b:=f') (n:=p) (k:=q) hj hi
 have b7:j=2->(ep l j).length=1:=λe=>by rw[e];rfl
 generalize bF (bV B D E F G) j=S at *;obtain⟨K,FN,TT,PA,b⟩:=S;simp only at a4 bj dE bb;obtain⟨Y,al⟩:=exq (w3.heap.size+1);have e7:=dG.lt (Y:=Y) (by omega);obtain⟨Q,ax⟩:∃W,W=(w3.alloc (.cells #[.int .i64 K,.bool FN,.int .u8 TT,.slice PA b b] 317)).alloc (.cells #[.int .i64 K,.int .i64 0,.int .u64 0,.int .u64 0,.bool FN,.string {data:= #[]},.slice none 0 0] 158):=⟨_,rfl⟩
 have g5:w3.grownBy Q none:=by rw[ax];exact aY (aH _ _ _) _
 have gg:Q.heap.size=w3.heap.size+2:=by rw[ax];simp
 have b8:Q.heap[Y]?=some (.cells (bO (cu K FN) (.slice none 0 0)) 158 (0,0)):=by
  rw[ax,al,<-dL w3 (.cells #[.int .i64 K,.bool FN,.int .u8 TT,.slice PA b b] 317)];exact aO _ _
 have e8:=dG.an g5;obtain⟨m,gh,ca⟩:=bj Q e8 Y e7 (by omega);have ea:w.grownBy Q (some X):=cJ b4 (aq N g5) (λk e=>by cases e);have ch:=b0.gb (aq N g5);have cj:Q.heap[w.heap.size]?=some (.cells #[.int .i64 0,.int .i64 0,.int .u64 0,.int .u64 0,.bool false,.string {data:= #[]},.slice none 0 0] 158 (0,0)):=by
  have e1:=(cJ g2 (aq N g5) (λk e=>by cases e)).block w.heap.size (by omega) (λe=>by have:=aQ e;omega);exact e1.trans dn
 have gi:=N.size;have gj:=g2.size;replace⟨bj,b8,cj,a4,ca,b5,b6,b7,ch⟩:=pT bj b8 cj a4 ca b5 b6 b7 ch;replace a9:=J a9;clear V dn dk;have gn:b<=3:=by omega
 replace⟨bb,m,al⟩:=cg bb m al;go_wp2_with fail;rw[<-ax];simp only[<-Z al]
 replace ax:=J ax;have ee:=J Cd;have eg:w.heap.size<=Y:=by have:=Z al;omega
 go_loopw [38] (λi wr=>∃(k q:Nat)(f:Fr)(I:Value),k<=b/\i=.int .i64 k/\fM l t (p+1)=qO ((ep l j).drop k) f q/\cN wr X (.slice (some ⟨a,o,none⟩) n cap) q p/\wr.heap[Y]?=some (.cells (bO f I) 158 (0,0))/\dA wr f I/\(I=.slice none 0 0\/∃x n c,I=.slice (some x) n c/\w.heap.size<x.block)/\(k<b->f.ranges=[]/\I=.slice none 0 0)/\Gx Q wr X Y/\p+1<=q/\q<=l.length/\f.kind=K) (λi _=>b-(intOf i).toNat);case atStart=>exact⟨0,p+1,cu K FN,_,by omega,rfl,Z a4,Z ch,Z b8,dA.nil _ _ ⟨⟨by simp[cu];omega,by simp[cu];omega⟩,⟨by simp[cu],by simp[cu]⟩,⟨by simp[cu],by simp[cu]⟩,⟨by simp[cu],by simp[cu]⟩,λr hr=>by simp[cu]at hr⟩ rfl (by simp[cu]),.inl rfl,λ_=>⟨rfl,rfl⟩,Gx.refl _ _ _,by omega,by omega,rfl⟩
 case round=>
  obtain⟨k,q,f,I,hk,rfl,z,ei,u,L,cp,cv,gk,gq,ej,aC⟩:=hrel;have cw:w.grownBy wr (some X):=((Gx.of (Y:=Y) ea (λk e=>.inl (aQ e).symm)).trans gk).gb eg;by_cases e9:k<b
  ·obtain⟨cx,rfl⟩:=cv e9;obtain h0|⟨P,fa,ek,eo,ew⟩:=Z ca
   have:=Z m;omega;obtain⟨wf,wc,rd,y1,y2,R,ey,rfl,hE,ez⟩:=ew k (by have:=Z m;omega);subst fa;replace y1:=gk.cell y1 ek eo;replace y2:=gk.cell y2 ek eo;have a8:=aH wr (.cells #[.func (.func wf) #[] wc,.func (.func R) #[] ey] 356) none;have fb:Y<wr.heap.size:=(aZ.1 u).1;have cy:RC (wr.alloc (.cells #[.func (.func wf) #[] wc,.func (.func R) #[] ey] 356)) X Y a o n cap l q p f:=
    ⟨ei.gb a8,(fE _ _ _ fb).trans u,Z a9 _ (cJ cw a8 (λk e=>by cases e)),xb,by omega,by omega,ej,hl,L.1,cx,L.2.1⟩
   have hC:=ez _ q f (gk.trans (Gx.of a8 (λk e=>by cases e))) cy;have ff:(ep l j)[k]'(by have:=Z m;omega)∈ep l j:=tu _;have cA:(ep l j).drop k=(ep l j)[k]'(by have:=Z m;omega)::(ep l j).drop (k+1):=Ar _;rw[cA]at z;have cB:=Z b5 _ ff f q;have cC:=Z b6 k (by have:=Z m;omega) f;generalize (ep l j)[k]'(by have:=Z m;omega)=s at *;have i1:(0:Int)<=k:=by omega
   have i2:(k:Int)<b:=by omega
   have gr:=J gk.size;replace⟨z,u,L,hC,cy,cB,cC,aC,cx⟩:=pT z u L hC cy cB cC aC cx;replace cA:=J cA;clear ew cv ez;go_wp2_with fail;apply(Z hC).mono;rintro e w6⟨g6,⟨f',q',fo,hs,rfl,c9,fq,⟨fs,eK⟩,fy⟩|⟨hs,rfl,c9⟩⟩
   ·replace hs:=J hs;go_wp2;go_roundw;case rel=>
     refine⟨k+1,q',f',fo,by omega,by simp,?_,c9,fq,fs,?_,?_,(gk.trans (Gx.of a8 (λk e=>by cases e))).trans g6,?_,fy,?_⟩
     rw[Z z];simp only[qO,Z hs,fk]
     obtain⟨-,h⟩|⟨-,x,n,c,h,H⟩:=eK
     exact .inl h;exact .inr ⟨x,n,c,h,by have:=cw.size;simp at H;omega⟩;intro gu;obtain h|⟨h,-⟩:=eK
     exact h;have:=Z b7 (by simpa using h);have:=Z m;omega;have:=Z cB f' q' (Z hs);omega;rw[Z cC f' q q' (Z hs)];exact Z aC
    case measure=>simp[intOf];omega
   refine⟨rfl,?_,.inr ⟨?_,rfl,c9⟩⟩
   exact(((Gx.of (Y:=Y) ea (λk e=>.inl (aQ e).symm)).trans (gk.trans (Gx.of a8 (λk e=>by cases e)))).trans g6).gb eg;rw[Z a3,Z z];simp only[qO,hs];rfl
  obtain rfl:k=b:=by omega
  rw[List.drop_of_length_le (by have:=Z m;omega)]at z;have a0:=Z a3;rw[z]at a0;simp only[qO,fk]at a0;have br:=AX f I wr L;obtain⟨A,NN,C,rfl⟩:∃A NN C,I=.slice A NN C:=by
   obtain h|⟨x,n,c,h,-⟩:=cp
   exact⟨_,_,_,h⟩
   exact⟨_,_,_,h⟩
  have bt:wr.heap[w.heap.size]?=some (.cells #[.int .i64 0,.int .i64 0,.int .u64 0,.int .u64 0,.bool false,.string {data:= #[]},.slice none 0 0] 158 (0,0)):=(gk.block w.heap.size (by omega) (by omega) (by have:=Z al;omega)).trans (Z cj);have bx:cT f↔pF f/\qB f:=⟨λh=>⟨h.1,h.2.1⟩,λh=>⟨h.1,h.2,by rw[aC];exact dE⟩⟩
  have fA:Y<wr.heap.size:=(aZ.1 u).1;have ga:w.heap.size<wr.heap.size:=(aZ.1 bt).1;obtain⟨kd,sm,of,cd,fin,d,rg⟩:=f;simp only[bO]at u br;replace⟨z,a0,br,bt,bx,u,L,aC⟩:=qG z a0 br bt bx u L aC;clear cv;go_wp2_with (refine px (by rfl) 158 _ (by rfl) Y (by rfl) 158 _ (0,0) _ (Z u) underlying158 (by rfl) (Z ee) ?_);apply(Z br).mono;rintro e w7⟨⟨bo,rfl,a1⟩,g7⟩;have eL:=ei.gb g7;have eS:w.grownBy w7 (some X):=cJ cw g7 (λk e=>by cases e);cases bo
  ·have O:nh l p=none:=by
    rw[Z a0];exact az (λh=>by have:=a1.2 ((Z bx).1 h);cases this)
   replace⟨O,a1⟩:=bA O a1;go_wp2_with (go_at_call 188;apply(sC X _).mono;rintro e w'⟨rfl,rfl⟩);exact⟨rfl,eS,.inr ⟨Z O,rfl,q,eL⟩⟩
  have db:nh l p=some (⟨kd,sm,of,cd,fin,d,rg⟩,q):=by
   rw[Z a0];exact aD ((Z bx).2 (a1.1 rfl))
  have de:=(g7.block Y fA (by simp)).trans (Z u);have bz:=(g7.block w.heap.size ga (by simp)).trans (Z bt);obtain⟨r0,r1,r2,r3,r4,r5,r6⟩:=cM bz;have rf:=sS bz;have dg:=(Z L).an g7;replace⟨db,a1,de,bz,dg⟩:=eR db a1 de bz dg;go_wp2_with (refine px (by rfl) 158 _ (by rfl) Y (by rfl) 158 _ (0,0) _ (Z de) underlying158 (by rfl) (Z ee) ?_);refine cF (v:=.agg #[.int .i64 kd,.int .i64 sm,.int .u64 of,.int .u64 cd,.bool fin,.string d,.slice A NN C]) ?_ rfl ?_
  ·simp[results,results190,go_sem,r0,r1,r2,r3,r4,r5,r6]
  have U:∀x,A=some x->x.block≠w.heap.size:=λx H=>by
   obtain h|⟨y,n,c,h,hy⟩:=cp
   cases h;cases H;cases h;cases H;omega
  exact⟨aK (aK (aK (aK (aK (aK (aK eS _ _ (.inl (aR _))) _ _ (.inl (aR _))) _ _ (.inl (aR _))) _ _ (.inl (aR _))) _ _ (.inl (aR _))) _ _ (.inl (aR _))) _ _ (.inl (aR _)),.inl ⟨_,q,_,Z db,rfl,dA.set (dA.set (dA.set (dA.set (dA.set (dA.set (dA.set (Z dg) _ _ U) _ _ U) _ _ U) _ _ U) _ _ U) _ _ U) _ _ U,cp.imp id (λ⟨x,n,c,h,H⟩=>⟨x,n,c,h,Nat.le_of_lt H⟩),cN.mE (cN.mE (cN.mE (cN.mE (cN.mE (cN.mE (cN.mE eL (by omega)) (by omega)) (by omega)) (by omega)) (by omega)) (by omega)) (by omega),by omega,ej⟩⟩
abbrev et:=Fr×Value
def lJ(l:List et):List Value:=l.flatMap λx=>j8 x.1 x.2
def Ms(l m:List et):lJ (l++m)=lJ l++lJ m:=by simp[lJ]
def Mt(l:List et):(lJ l).length=l.length*7:=by
 induction l with
 |nil=>rfl
 |cons r l a=>simp only[lJ,rU,bH,dc,j8,fe]at *;omega
def Mu(l:List et)(i:Nat)(h:i<l.length)(j:Nat)(v:Value)(a:(j8 l[i].1 l[i].2)[j]?=some v):(lJ l)[i*7+j]?=some v:=by
 induction l generalizing i with
 |nil=>simp at h
 |cons r l b=>
  have c:j<7:=by
   have:=(kQ.1 a).1;simpa [j8]using this
  cases i with
  |zero=>
   simp only[lJ,rU,nV,dY]
   rw[mm (by simp[j8];omega)];exact a
  |succ i=>
   simp only[lJ,rU]
   rw[mW (by simp[j8];omega)];have e:(i+1)*7+j-(j8 r.1 r.2).length=i*7+j:=by simp[j8];omega
   rw[e];exact b i (by simpa using h) (by simpa using a)
def ij(w:World)(a:Nat)(v:Value)(l:List et):Prop:=
 w.ownsRow a 158 7 v l.length (lJ l)/\∀x∈l,dA w x.1 x.2/\(x.1.ranges≠[]->∀y n c,x.2=.slice (some y) n c->a<=y.block/\v.ownBlock≠some y.block)
def dA.dr(h:dA w G z)(b:G.ranges≠[]->∀y n c,z=.slice (some y) n c->y.block<w.heap.size->W.heap[y.block]?=w.heap[y.block]?):dA W G z:=by
 obtain⟨d,e,ra,cap,rfl,a⟩:=h;refine⟨d,e,ra,cap,rfl,a.dr (λhl x f=>?_)⟩
 subst f;exact b hl x _ _ rfl (a.lt hl)
def dA.Mv(h:dA w G (.slice (some A) n k))(hl:G.ranges≠[]):A.block<w.heap.size:=by
 obtain⟨b,c,ra,cap,e,a⟩:=h;cases e;exact a.lt hl
def ij.lt{l:List et}(h:ij w n x l):∀k,x.ownBlock=some k->n<=k/\k<w.heap.size:=h.1.lt
def ij.gb{l:List et}(h:ij w i z l)(g:w.grownBy W N)(b:∀k,N=some k->k<i:=by simp):ij W i z l:=by
 refine⟨h.1.kept g ?_,λx d=>?_⟩
 cases f:z.ownBlock with
 |none=>exact .inl rfl
 |some k=>exact .inr (λe=>by have:=b k e.symm;have:=(h.lt k f).1;omega)
 have a:=h.2 x d;refine⟨a.1.dr (λhl y n c e j=>?_),a.2⟩
 exact g.block y.block j (λe2=>by have:=b _ e2.symm;have:=(a.2 hl y n c e).1;omega)
def ij.nil(w:World)(a:Nat):ij w a (.slice none 0 0) []:=⟨oJ _ _ _ _,λx b=>by simp at b⟩
def Mw:(prog.info? 158).map (λi=>(i.zero,i.size,i.bytes))=some (some (.agg #[.int .i64 0,.int .i64 0,.int .u64 0,.int .u64 0,.bool false,.string ByteArray.empty,.slice none 0 0]),7,80):=by kernel_rfl
def Mx(ty:TypeId)(a:Nat)(v:Value)(l:List et)(t:ij w a v l)(b c:Nat)(x:et)(D:dA w x.1 x.2)(E:x.1.ranges≠[]->∀y n c,x.2=.slice (some y) n c->a<=y.block/\v.ownBlock≠some y.block)(F:x.2.oneCell'=true)(h0:w.rangeAt b 0 (j8 x.1 x.2))(S:l.length<=100000000)(G:a<=w.heap.size):
 ∃i k m d,(Builtin.append_ #[92,92] ty #[v,.slice (some ⟨b,0,none⟩) 1 c]).run prog w=.ok (.slice i k m) d/\ij d a (.slice i k m) (l++[x])/\w.grownBy d v.ownBlock/\((Value.slice i k m).ownBlock=v.ownBlock\/(Value.slice i k m).ownBlock=some w.heap.size):=by
 obtain⟨H,hi,I,K,f⟩:=lD Mw;obtain⟨L,d,A,M,p,_,q⟩:=run_append_own_at (P:=prog) w a 92 ty 158 H _ 7 80 underlying92 hi I K f rfl (by decide) v l.length (lJ l) t.1 ⟨b,0,none⟩ 1 c (lJ [x]) (by simp[lJ,j8]) (by
  intro j u N;rw[Addr.add_mid];exact h0 j u (by simpa [lJ]using N)) (by
  intro u B;simp[lJ,j8]at B;obtain rfl|rfl|rfl|rfl|rfl|rfl|rfl:=B<;>first|rfl|exact F) (by simp[maxLen];omega) (by omega) G
 have r:ij d a L (l++[x]):=by
  refine⟨by rw[bH,Ms];exact M,λz O=>?_⟩
  have f:dA w z.1 z.2/\(z.1.ranges≠[]->∀y n c,z.2=.slice (some y) n c->a<=y.block/\v.ownBlock≠some y.block):=by
   obtain h|h:=bQ.1 O
   exact t.2 z h;rw[cL.1 h];exact⟨D,E⟩
  refine⟨f.1.dr (λhl y n c e Q=>p.block y.block Q (λe2=>(f.2 hl y n c e).2 e2.symm)),λhl y n c e=>⟨(f.2 hl y n c e).1,?_⟩⟩
  obtain s|s:=q
  rw[s];exact(f.2 hl y n c e).2;rw[s];have C:=f.1;rw[e]at C;have:=C.Mv hl;exact λR=>by have:=aQ R;omega
 obtain⟨⟨-,⟨rfl,e2⟩|⟨g,cap,T,rfl,_⟩⟩,-⟩:=id r;exact⟨_,_,_,d,A,r,p,q⟩
 exact⟨_,_,_,d,A,r,p,q⟩
def wZ{j:Array Oper}{K:Act->World->Prop}{E:Prop}(k:u.guard=none)(s x:Operand)
 (ho:u.op=.call {callee:=.builtin .append,args:= #[s,x],argTypes:= #[92,92]})
 (g:Nat) (v:Value) (l:List et) (hs:F.eval s=v) (m:ij w g v l) (b c:Nat) (a:et) (p:dA w a.1 a.2) (q:a.1.ranges≠[]->∀y n c,a.2=.slice (some y) n c->g<=y.block/\v.ownBlock≠some y.block) (r:a.2.oneCell'=true) (t:F.eval x=.slice (some ⟨b,0,none⟩) 1 c) (h0:w.rangeAt b 0 (j8 a.1 a.2)) (z:l.length<=100000000) (A:g<=w.heap.size)
 (h:∀d e f i,ij i g (.slice d e f) (l++[a])->w.grownBy i v.ownBlock->((Value.slice d e f).ownBlock=v.ownBlock\/(Value.slice d e f).ownBlock=some w.heap.size)->
   K (F.put u.dst (.slice d e f)) i):if Region.wanted u (yielded j F.tmps)=true then Oper.wp prog u F w K H else E:=by
 have B:Region.wanted u (yielded j F.tmps)=true:=by simp[Region.wanted,k]
 rw[aD B];obtain⟨d,e,f,i,C,D,G,I⟩:=Mx (w:=w) u.type g v l m b c a p q r h0 z A;unfold Oper.wp execOp;simp only[ho,resolve,invoke,builtin,je,mr,jd,nU,ky,mZ,hs,t,C]
 exact h d e f i D G I
def kJ(h:w.heap[b]?=some (.cells #[x] T (0,0))):w.cell? ⟨b,0,none⟩=some x/\w.frozen? ⟨b,0,none⟩=false:=by
 simp[World.cell?,World.frozen?,h]
def My(X a b:Nat)(st:Int)(i ev:Value)(c:List PanicEntry)(w:World)(j:w.cell? ⟨X,2,none⟩=some (.int .i64 st))(d:w.heap[a]?=some (.cells #[i] 92 (0,0)))(f:w.heap[b]?=some (.cells #[ev] 97 (0,0)))(n:a≠b):
 CallsD prog 187 #[.pointer (some ⟨X,0,none⟩),.pointer (some ⟨a,0,none⟩),.pointer (some ⟨b,0,none⟩)] (.panicking ({v:=.iface 34 (.int .i64 5),recovered:=false}::c)) w λe k l=>
  e=.returned (.tuple #[])/\k=.panicking ({v:=.iface 34 (.int .i64 5),recovered:=true}::c)/\l=((w.alloc (.cells #[.int .i64 5,.int .i64 st] 182)).setCell ⟨a,0,none⟩ (.slice none 0 0)).setCell ⟨b,0,none⟩ (.iface 177 (.pointer (some ⟨w.heap.size,0,none⟩))):=by
 refine callsD_of_wpS func187 rfl λp cs m=>?_
 apply wpS_seq;apply wpS_region;simp[wpOpsS,go_sem,recoverD,m,ntmps187,Exit.thenS];refine wpS_cond (t:=true) (by simp[Act.eval,Array.replicate]) ?_;simp only[fu]
 have g:=kJ ((fE w (.cells #[.int .i64 5,.int .i64 st] 182) a (aZ.1 d).1).trans d);have h:=kJ ((fE w (.cells #[.int .i64 5,.int .i64 st] 182) b (aZ.1 f).1).trans f);apply wpS_region;simp[wpOpsS,go_sem,j,g.1,g.2,h.1,h.2,bodyPostS,results,results187]
def Mz(X a b:Nat)(w:World):
 CallsD prog 187 #[.pointer (some ⟨X,0,none⟩),.pointer (some ⟨a,0,none⟩),.pointer (some ⟨b,0,none⟩)] .returning w λe c d=>e=.returned (.tuple #[])/\c=.returning/\d=w:=by
 refine callsD_of_wpS func187 rfl λf cs g=>?_
 apply wpS_seq;apply wpS_region;simp[wpOpsS,go_sem,recoverD,g,ntmps187,Exit.thenS];refine wpS_cond (t:=false) (by simp[Act.eval,Array.replicate]) ?_;simp only[gI,gm]
 refine wpS_of_wp (wp_skip ?_);cases f;simp_all[bodyPostS,results,results187]
def uB(w:World)(l:List Int)(e:Ending)(b:World):Prop:=
 w.grownBy b none/\((∃aw a n c,fN l=(some (aw.map (·.1)),-1)/\e=.returned (.tuple #[.slice a n c,.nilIface])/\ij b w.heap.size (.slice a n c) aw)\/
  (∃(p F:Nat),fN l=(none,(p:Int))/\e=.returned (.tuple #[.slice none 0 0,.iface 177 (.pointer (some ⟨F,0,none⟩))])/\b.heap[F]?=some (.cells #[.int .i64 5,.int .i64 p] 182 (0,0))/\w.heap.size<=F))
def FA.isNone{e:Ending}(h:FA w n x k i none e W):w.grownBy W (some n)/\e=PN/\∃a,cN W n x a k:=by
 obtain⟨g,⟨f,q,j,b,-⟩|⟨-,c,d⟩⟩:=h;cases b;exact⟨g,c,d⟩
def FA.isSome{e:Ending}(h:FA w k y i j (some (G,l)) e W):w.grownBy W (some k)/\∃A n c,e=.returned (.agg (bO G (.slice A n c)))/\dA W G (.slice A n c)/\((Value.slice A n c)=.slice none 0 0\/∃x d f,(Value.slice A n c)=.slice (some x) d f/\w.heap.size<=x.block)/\cN W k y l i/\i<l/\l<=j:=by
 obtain⟨g,⟨u,v,m,a,p,q,b,r,s,t⟩|⟨a,-,-⟩⟩:=h;cases a;obtain⟨A,n,c,rfl⟩:∃A n c,m=.slice A n c:=by
  obtain h|⟨x,n,c,h,-⟩:=b
  exact⟨_,_,_,h⟩
  exact⟨_,_,_,h⟩
 exact⟨g,A,n,c,p,q,b,r,s,t⟩
 cases a
def ij.lower{l:List et}(h:ij w k z l)(f:i<=k):ij w i z l:=by
 obtain⟨⟨j,a⟩,b⟩:=h;refine⟨⟨j,?_⟩,λx d=>⟨(b x d).1,λhl y n c e=>⟨bD f ((b x d).2 hl y n c e).1,((b x d).2 hl y n c e).2⟩⟩⟩
 obtain a|⟨g,cap,cur,e1,e2,m⟩:=a
 exact .inl a;exact .inr ⟨g,cap,cur,e1,by omega,m⟩
def Gx.MA(h:Gx w W n i)(b:w.heap.size<=n)(hY:w.heap.size<=i):w.grownBy W none:=
 ⟨h.os,h.tape,h.output,h.size,λk a _=>h.block k a (by omega) (by omega)⟩
def DQ(w:World)(a b c:Obj)(W:World)(h:W=((w.alloc a).alloc b).alloc c):
 W.heap[w.heap.size]?=some a/\W.heap[w.heap.size+1]?=some b/\W.heap[w.heap.size+1+1]?=some c/\w.grownBy W none:=by
 subst h;refine⟨?_,?_,?_,aY (aY (aH _ _ _) _) _⟩
 all_goals
  simp only[World.alloc,Array.getElem?_push,Array.size_push]
  repeat(first|rw[aD trivial]|rw[iP_]|rw[iN_])
def DR(a:Array Value)(W:World)(b c:Nat)(d ev:Value)(e:a.getD 2 undef=.pointer (some ⟨b,0,none⟩))(f:a.getD 3 undef=.pointer (some ⟨c,0,none⟩))(g:W.cell? ⟨b,0,none⟩=some d)(h:W.cell? ⟨c,0,none⟩=some ev):
 (results f146 a).run prog W=.ok (.tuple #[d,ev]) W:=by
 rw[Array.getD_eq_getD_getElem?]at e f;simp[results,results146,go_sem,e,f,g,h]
def DS(w0 W:World)(l:List Int)(c:Array Value)(X a b:Nat)(sl i ev:Value)(q st:Nat)(k:cN W X sl q st)(d:W.heap[a]?=some (.cells #[i] 92 (0,0)))(g:W.heap[b]?=some (.cells #[ev] 97 (0,0)))(h:a≠b)(j:w0.grownBy W none)(m:w0.heap.size<=a)(n:w0.heap.size<=b)(hd:fN l=(none,(st:Int)))
 (p:c.getD 2 undef=.pointer (some ⟨a,0,none⟩)) (r:c.getD 3 undef=.pointer (some ⟨b,0,none⟩)):
 Leaves prog f146 c (uB w0 l) [{target:=.fn (.func 187) #[.pointer (some ⟨X,0,none⟩),.pointer (some ⟨a,0,none⟩),.pointer (some ⟨b,0,none⟩)],args:= #[]}] (.panicking [{v:=.iface 34 (.int .i64 5),recovered:=false}]) W:=by
 refine leaves_cons (f:=187) (args:= #[.pointer (some ⟨X,0,none⟩),.pointer (some ⟨a,0,none⟩),.pointer (some ⟨b,0,none⟩)]) (by simp) (by simp[go_sem]) ?_;apply(My X a b st i ev [] W (ud k).2.2.1 d g h).mono;rintro e C D⟨rfl,rfl,rfl⟩;have s:=(aZ.1 d).1;have t:=(aZ.1 g).1;have u:=(fE W (.cells #[.int .i64 5,.int .i64 st] 182) a s).trans d;have w:=(fE W (.cells #[.int .i64 5,.int .i64 st] 182) b t).trans g;have x:=heap_set (o:=0) u (.slice none 0 0);have y:=(dF (W.alloc (.cells #[.int .i64 5,.int .i64 st] 182)) ⟨a,0,none⟩ (.slice none 0 0) b (Ne.symm h)).trans w;have z:=heap_set (o:=0) y (.iface 177 (.pointer (some ⟨W.heap.size,0,none⟩)));have A:=(dF ((W.alloc (.cells #[.int .i64 5,.int .i64 st] 182)).setCell ⟨a,0,none⟩ (.slice none 0 0)) ⟨b,0,none⟩ (.iface 177 (.pointer (some ⟨W.heap.size,0,none⟩))) a h).trans x;have B:=DR c _ a b _ _ p r (kJ A).1 (kJ z).1;refine⟨_,B,aK (aK (aY j _) _ _ (.inl m)) _ _ (.inl n),.inr ⟨st,W.heap.size,hd,rfl,?_,j.size⟩⟩
 rw[dF _ _ _ _ (by simp;omega),dF _ _ _ _ (by simp;omega)];exact aO _ _
def decode_nil(w:World)(a:Option Addr)(n cap:Nat)(c:bI w a n cap []):
 Calls prog 146 #[.slice a n cap] w (uB w []):=by
 have f:=sB;have d:n=0:=c.2.1;subst d;clear c;go_enter_defers func146,ntmps146;go_wp2_with (go_at_call 188;apply(sC _ _).mono;rintro e g⟨rfl,rfl⟩);have b:=DQ w (.cells #[.slice none 0 0] 92) (.cells #[.nilIface] 97) (.cells #[.slice a 0 cap,.int .i64 0,.int .i64 0] 311) _ rfl;exact DS w _ [] _ (w.heap.size+1+1) w.heap.size (w.heap.size+1) _ _ _ 0 0 b.2.2.1 b.1 b.2.1 (by omega) b.2.2.2 (aR _) (by omega) (by simp[fN]) rfl rfl
def MB(w:World)(R o n cap:Nat)(l:List Int)(aa:bI w (some ⟨R,o,none⟩) n cap l)(h0:0<l.length)(hl:l.length<=100000000):
 Calls prog 146 #[.slice (some ⟨R,o,none⟩) n cap] w (uB w l):=by
 have ea:=sB;have hn:n=l.length:=aa.2.1;have e0:((n:Int)==0)=false:=by simp;omega
 have ee:R<w.heap.size:=by
  obtain⟨b1,o1,e1,h1⟩:=ue aa;cases e1;exact eE w _ (h1 0 (by omega))
 replace hn:=J hn;go_enter_defers func146,ntmps146;go_wp2_with fail;obtain⟨W3,bb⟩:=exq ((((w.alloc (.cells #[.slice none 0 0] 92)).alloc (.cells #[.nilIface] 97)).alloc (.cells #[.slice (some ⟨R,o,none⟩) n cap,.int .i64 0,.int .i64 0] 311)));obtain⟨br,bt,a4,g3⟩:=DQ w _ _ _ _ bb;have eg:W3.heap.size=w.heap.size+3:=by rw[bb];simp
 rw[<-bb];replace bb:=J bb;obtain⟨i,cp⟩:=exq w.heap.size;obtain⟨s,cv⟩:=exq (w.heap.size+1);obtain⟨X,cw⟩:=exq (w.heap.size+1+1);simp only[<-cw]at a4⊢;simp only[<-cv]at bt⊢;simp only[<-cp]at br⊢;have z:Hid (w.heap.size=i/\s=i+1/\X=i+2):=J (by omega);replace a4:cN W3 X (.slice (some ⟨R,o,none⟩) n cap) 0 0:=a4;clear cp cv cw;apply(B9 W3).mono;rintro e E⟨T,P2,P3,P4,P5,P6,Bo,Bc,rfl,hT,g1⟩;have bx:=(g1.block i (by have:=Z z;omega) (by simp)).trans br;have b6:=(g1.block s (by have:=Z z;omega) (by simp)).trans bt;have bz:=a4.gb g1;have cx:=aq g3 g1;have ei:=g1.size;have b8:fN l=iH l (l.length+1) 0 ([]:List et).unzip.1:=by unfold fN;rw[iN_];rfl
 have dg:=hT.ne (ud bz).1;have dk:=hT.ne (kJ bx).1;replace⟨br,bt,a4,bx,b6,bz,b8⟩:=iR br bt a4 bx b6 bz b8;go_wp2;go_loopg [15] l.length (λgh _ wr=>∃(q st k:Nat)(aw:List et)(a:Option Addr)(m c:Nat),gh=l.length-q/\q<=l.length/\aw.length<=q/\cN wr X (.slice (some ⟨R,o,none⟩) n cap) q st/\wr.heap[i]?=some (.cells #[.slice a m c] 92 (0,0))/\wr.heap[s]?=some (.cells #[.nilIface] 97 (0,0))/\ij wr E.heap.size (.slice a m c) aw/\Gx E wr X i/\fN l=iH l k q (aw.map (·.1))/\l.length-q<k);case atStart=>exact⟨0,0,l.length+1,[],none,0,0,by omega,by omega,by simp,Z bz,Z bx,Z b6,ij.nil _ _,Gx.refl _ _ _,Z b8,by omega⟩
 case round=>
  obtain⟨q,st,k,aw,a,m,c,rfl,hq,ej,a0,N,S,a1,gr,a2,hk⟩:=hrel;obtain⟨y0,y1,y2,yf⟩:=ud a0;have ca:w.grownBy wr none:=((Gx.of (X:=X) (Y:=i) cx (λk e=>by cases e)).trans gr).MA (by have:=Z z;omega) (by have:=Z z;omega);by_cases bM:q<l.length
  ·have dn:(q:Int)<n:=by have:=Z hn;omega
   have cy:=hT.gx gr dg dk;have cA:=aa.an ca;have hF:=DP wr X T P2 P3 P4 P5 P6 Bo Bc R o n cap l q st cy a0 cA (by have:=Z z;omega) bM hl;have a8:=DP wr.drew X T P2 P3 P4 P5 P6 Bo Bc R o n cap l q st (cy.an (aV (aB _ _))) a0 (cA.an (aV (aB _ _))) (by have:=Z z;omega) bM hl;obtain⟨z0,zf⟩:=kJ N;obtain⟨k',rfl⟩:∃k',k=k'+1:=⟨k-1,by omega⟩
   have b0:Hid (∀(W:World)(p':Nat)(bj:Array Value),wr.grownBy W (some X)->cN W X (.slice (some ⟨R,o,none⟩) n cap) p' q->nh l q=none->bj.getD 2 undef=.pointer (some ⟨i,0,none⟩)->bj.getD 3 undef=.pointer (some ⟨s,0,none⟩)->Leaves prog f146 bj (uB w l) [{target:=.fn (.func 187) #[.pointer (some ⟨X,0,none⟩),.pointer (some ⟨i,0,none⟩),.pointer (some ⟨s,0,none⟩)],args:= #[]}] (.panicking [{v:=.iface 34 (.int .i64 5),recovered:=false}]) W):=J (λW p' bj g hX hf h2 h3=>by
    refine DS w W l bj X i s _ _ _ p' q hX ((g.block i (aZ.1 N).1 (λe=>by have:=aQ e;have:=Z z;omega)).trans N) ((g.block s (aZ.1 S).1 (λe=>by have:=aQ e;have:=Z z;omega)).trans S) (by have:=Z z;omega) (cJ ca g (λj e=>.inl (by cases e;have:=Z z;omega))) (by have:=Z z;omega) (by have:=Z z;omega) ?_ h2 h3;rw[a2];simp only[iH]
    rw[aD bM,hf])
   have b3:Hid (∀(W p:World)(f:Fr)(t:Nat)(A:Option Addr)(u C:Nat),wr.grownBy W none->W.heap.size=wr.heap.size->W.grownBy p (some X)->dA p f (.slice A u C)->((Value.slice A u C)=.slice none 0 0\/∃x n c,(Value.slice A u C)=.slice (some x) n c/\W.heap.size<=x.block)->ij p E.heap.size (.slice a m c) aw/\(f.ranges≠[]->∀y n' c',Value.slice A u C=.slice (some y) n' c'->E.heap.size<=y.block/\(Value.slice a m c).ownBlock≠some y.block)/\p.heap[i]?=some (.cells #[.slice a m c] 92 (0,0))/\p.heap[s]?=some (.cells #[.nilIface] 97 (0,0))/\E.heap.size<=p.heap.size/\Gx E p X i):=J (λW p f t A u C gW ek O hv hn=>by
    have gA:wr.grownBy p (some X):=cJ (dd gW (some X)) O (λj e=>.inr rfl);have hz:=gr.size;refine⟨a1.gb gA (λj e=>by cases e;have:=Z z;omega),λeo y n' c' e=>?_,(gA.block i (aZ.1 N).1 (λe=>by have:=aQ e;have:=Z z;omega)).trans N,(gA.block s (aZ.1 S).1 (λe=>by have:=aQ e;have:=Z z;omega)).trans S,bD hz gA.size,gr.trans (Gx.of gA (λj e=>.inl (aQ e).symm))⟩
    obtain h|⟨x,n2,c2,h,hx⟩:=hn
    rw[h]at e;cases e
    ·rw[h]at e;cases e;exact⟨by omega,λe2=>by have:=(a1.lt _ e2).2;omega⟩)
   cases ax:nh l q with
   |none=>
    rw[ax]at a8;have U:=a8.mono (λe W(h:FA _ _ _ _ _ none e W)=>h.isNone);replace⟨ax,U,a0,N,S,a1,a2⟩:=iR ax U a0 N S a1 a2;clear hF a8 b3;go_wp2_with fail;refine wp_region_any (by kernel_rfl) ?_;try(change wpAny _ _ _ _ _ _ _ (World.drew _))
    refine jg (rs:=[0,1]) (by kernel_rfl) (by simp) ?_;refine gP rfl (λK b=>?_) (gP rfl (λK b=>?_) jf)
    ·go_simp;refine b _ _ ?_;clear b K;refine jg (rs:=[1]) (by kernel_rfl) (by simp) ?_;refine gP rfl (λK b=>?_) jf;go_simp;refine b _ _ ?_;clear b K;refine jg (rs:=[2]) (by kernel_rfl) (by simp) ?_;refine gP rfl (λK b=>?_) jf;go_simp;apply(Z U).mono;rintro e p⟨O,rfl,p',G⟩;exact Z b0 _ _ _ (cJ (dd (aV (aB _ _)) _) O (λj e=>.inr rfl)) G (Z ax) rfl rfl
    go_simp;refine b _ _ ?_;clear b K;refine jg (rs:=[0,2]) (by kernel_rfl) (by simp) ?_;refine gP rfl (λK b=>?_) (gP rfl (λK b=>?_) jf)
    ·go_simp;refine b _ _ ?_;clear b K;refine jg (rs:=[2]) (by kernel_rfl) (by simp) ?_;refine gP rfl (λK b=>?_) jf;go_simp;apply(Z U).mono;rintro e p⟨O,rfl,p',G⟩;exact Z b0 _ _ _ (cJ (dd (aV (aB _ _)) _) O (λj e=>.inr rfl)) G (Z ax) rfl rfl
    go_simp;apply(Z U).mono;rintro e p⟨O,rfl,p',G⟩;exact Z b0 _ _ _ (cJ (dd (aV (aB _ _)) _) O (λj e=>.inr rfl)) G (Z ax) rfl rfl
   |some fq=>
    obtain⟨⟨P,sm,of,cd,fin,d,rg⟩,t⟩:=fq;rw[ax]at a8;have U:=a8.mono (λe W(h:FA _ _ _ _ _ (some _) e W)=>h.isSome);simp only[bO]at U;have aC:fN l=iH l k' t (aw.map (·.1)++[⟨P,sm,of,cd,fin,d,rg⟩]):=by
     rw[a2];simp only[iH]
     rw[aD bM,ax]
    have b4:Hid (∀(p F:World)(ob:Obj)(it:et)(a7:Option Addr)(D c7 t:Nat),cN p X (.slice (some ⟨R,o,none⟩) n cap) t q->p.heap[i]?=some (.cells #[.slice a m c] 92 (0,0))->p.heap[s]?=some (.cells #[.nilIface] 97 (0,0))->Gx E p X i->ij (p.alloc ob) E.heap.size (.slice a m c) aw->(p.alloc ob).grownBy F (Value.slice a m c).ownBlock->ij F E.heap.size (.slice a7 D c7) (aw++[it])->
     F.heap[i]?=some (.cells #[.slice a m c] 92 (0,0))/\cN (F.setCell ⟨i,0,none⟩ (.slice a7 D c7)) X (.slice (some ⟨R,o,none⟩) n cap) t q/\(F.setCell ⟨i,0,none⟩ (.slice a7 D c7)).heap[i]?=some (.cells #[.slice a7 D c7] 92 (0,0))/\(F.setCell ⟨i,0,none⟩ (.slice a7 D c7)).heap[s]?=some (.cells #[.nilIface] 97 (0,0))/\ij (F.setCell ⟨i,0,none⟩ (.slice a7 D c7)) E.heap.size (.slice a7 D c7) (aw++[it])/\Gx E (F.setCell ⟨i,0,none⟩ (.slice a7 D c7)) X i):=J (λp F ob it a7 D c7 t hx hl he gx hA Q I=>by
     have h1:=Z z;have b5:∀B,B<E.heap.size->B<p.heap.size->F.heap[B]?=p.heap[B]? :=λB hB ds=>(Q.block B (by simp;omega) (λe=>by have:=(hA.lt B e.symm).1;omega)).trans (fE _ _ _ ds)
     have du:=gx.size;have cB:=(b5 i (by omega) (by omega)).trans hl;have dx:=(b5 s (by omega) (by omega)).trans he;have dE:cN F X (.slice (some ⟨R,o,none⟩) n cap) t q:=(b5 X (by omega) (by omega)).trans hx;have dG:Gx E F X i:=⟨Q.os.trans gx.os,Q.tape.trans gx.tape,Q.output.trans gx.output,bD du (bD (by simp) Q.size),λk hk h2 h3=>(b5 k hk (by omega)).trans (gx.block k hk h2 h3)⟩
     refine⟨cB,dE.mE (by omega),heap_set cB _,(dF _ _ _ _ (by show s≠i;omega)).trans dx,I.gb (aK (aB _ _) _ _ (.inr rfl)) (λk e=>by cases e;show i<E.heap.size;omega),dG.set _ _ (.inr (.inl rfl))⟩)
    replace⟨ax,U,a0,N,S,a1,a2,aC⟩:=qG ax U a0 N S a1 a2 aC;clear hF a8 b0;go_wp2_with fail;refine wp_region_any (by kernel_rfl) ?_;try(change wpAny _ _ _ _ _ _ _ (World.drew _))
    refine jg (rs:=[0,1]) (by kernel_rfl) (by simp) ?_;refine gP rfl (λK b=>?_) (gP rfl (λK b=>?_) jf)
    ·go_simp;refine b _ _ ?_;clear b K;refine jg (rs:=[1]) (by kernel_rfl) (by simp) ?_;refine gP rfl (λK b=>?_) jf;go_simp;refine b _ _ ?_;clear b K;refine jg (rs:=[2]) (by kernel_rfl) (by simp) ?_;refine gP rfl (λK b=>?_) jf;go_simp;apply(Z U).mono;rintro e p⟨O,A,u,C,rfl,M,al,G,cC,a9⟩;obtain⟨L,V,H,e5,s5,x5⟩:=Z b3 _ p _ t A u C (aV (aB _ _)) rfl O M al;obtain⟨c9,db⟩:=kJ H;have de:=(aZ.1 H).1;replace⟨H,e5,L,V,M,G,al⟩:=iR H e5 L V M G al;refine b _ _ ?_;clear b K;refine jg (rs:=[3]) (by kernel_rfl) (by simp) ?_;refine gP rfl (λK b=>?_) jf;go_simp;refine b _ _ ?_;clear b K;refine jg (rs:=[4]) (by kernel_rfl) (by simp) ?_;refine gP rfl (λK b=>?_) jf;refine wZ (by rfl) _ _ (by rfl) E.heap.size _ aw (by rfl) ((Z L).gb (aH _ _ none) (λk e=>by cases e)) p.heap.size 1 (⟨P,sm,of,cd,fin,d,rg⟩,.slice A u C) ((Z M).an (aH _ _ none)) (Z V) (by rfl) (by rfl) (kz (aO _ _)) (by omega) (by simp;omega) ?_;intro a7 D c7 F I Q b7;have a3:=(Z L).gb (aH p (.cells #[.int .i64 P,.int .i64 sm,.int .u64 of,.int .u64 cd,.bool fin,.string d,.slice A u C] 158) none) (λk e=>by cases e);have r:=Z b4 p F _ _ a7 D c7 t (Z G) (Z H) (Z e5) x5 a3 Q I;obtain⟨ch,cj⟩:=kJ r.1;replace⟨r,I⟩:=bA r I;refine b _ _ ?_;clear b K;refine jg (rs:=[5]) (by kernel_rfl) (by simp) ?_;refine gP rfl (λK b=>?_) jf;go_simp;refine b _ _ ?_;clear b K;refine wpAny_done (by kernel_rfl) ?_ _;go_wp2;go_roundg (l.length-t);case measure=>omega
     case rel=>exact⟨t,q,k',aw++[(⟨P,sm,of,cd,fin,d,rg⟩,.slice A u C)],a7,D,c7,rfl,a9,by simp;omega,(Z r).2.1,(Z r).2.2.1,(Z r).2.2.2.1,(Z r).2.2.2.2.1,(Z r).2.2.2.2.2,by rw[Z aC];simp,by omega⟩
    go_simp;refine b _ _ ?_;clear b K;refine jg (rs:=[0,2]) (by kernel_rfl) (by simp) ?_;refine gP rfl (λK b=>?_) (gP rfl (λK b=>?_) jf)
    ·go_simp;refine b _ _ ?_;clear b K;refine jg (rs:=[2]) (by kernel_rfl) (by simp) ?_;refine gP rfl (λK b=>?_) jf;go_simp;apply(Z U).mono;rintro e p⟨O,A,u,C,rfl,M,al,G,cC,a9⟩;obtain⟨L,V,H,e5,s5,x5⟩:=Z b3 _ p _ t A u C (aV (aB _ _)) rfl O M al;obtain⟨c9,db⟩:=kJ H;have de:=(aZ.1 H).1;replace⟨H,e5,L,V,M,G,al⟩:=iR H e5 L V M G al;refine b _ _ ?_;clear b K;refine jg (rs:=[3]) (by kernel_rfl) (by simp) ?_;refine gP rfl (λK b=>?_) jf;go_simp;refine b _ _ ?_;clear b K;refine jg (rs:=[4]) (by kernel_rfl) (by simp) ?_;refine gP rfl (λK b=>?_) jf;refine wZ (by rfl) _ _ (by rfl) E.heap.size _ aw (by rfl) ((Z L).gb (aH _ _ none) (λk e=>by cases e)) p.heap.size 1 (⟨P,sm,of,cd,fin,d,rg⟩,.slice A u C) ((Z M).an (aH _ _ none)) (Z V) (by rfl) (by rfl) (kz (aO _ _)) (by omega) (by simp;omega) ?_;intro a7 D c7 F I Q b7;have a3:=(Z L).gb (aH p (.cells #[.int .i64 P,.int .i64 sm,.int .u64 of,.int .u64 cd,.bool fin,.string d,.slice A u C] 158) none) (λk e=>by cases e);have r:=Z b4 p F _ _ a7 D c7 t (Z G) (Z H) (Z e5) x5 a3 Q I;obtain⟨ch,cj⟩:=kJ r.1;replace⟨r,I⟩:=bA r I;refine b _ _ ?_;clear b K;refine jg (rs:=[5]) (by kernel_rfl) (by simp) ?_;refine gP rfl (λK b=>?_) jf;go_simp;refine b _ _ ?_;clear b K;refine wpAny_done (by kernel_rfl) ?_ _;go_wp2;go_roundg (l.length-t);case measure=>omega
     case rel=>exact⟨t,q,k',aw++[(⟨P,sm,of,cd,fin,d,rg⟩,.slice A u C)],a7,D,c7,rfl,a9,by simp;omega,(Z r).2.1,(Z r).2.2.1,(Z r).2.2.2.1,(Z r).2.2.2.2.1,(Z r).2.2.2.2.2,by rw[Z aC];simp,by omega⟩
    go_simp;apply(Z U).mono;rintro e p⟨O,A,u,C,rfl,M,al,G,cC,a9⟩;obtain⟨L,V,H,e5,s5,x5⟩:=Z b3 _ p _ t A u C (aV (aB _ _)) rfl O M al;obtain⟨c9,db⟩:=kJ H;have de:=(aZ.1 H).1;replace⟨H,e5,L,V,M,G,al⟩:=iR H e5 L V M G al;refine b _ _ ?_;clear b K;refine jg (rs:=[0,3]) (by kernel_rfl) (by simp) ?_;refine gP rfl (λK b=>?_) (gP rfl (λK b=>?_) jf)
    ·go_simp;refine b _ _ ?_;clear b K;refine jg (rs:=[3]) (by kernel_rfl) (by simp) ?_;refine gP rfl (λK b=>?_) jf;go_simp;refine b _ _ ?_;clear b K;refine jg (rs:=[4]) (by kernel_rfl) (by simp) ?_;refine gP rfl (λK b=>?_) jf;refine wZ (by rfl) _ _ (by rfl) E.heap.size _ aw (by rfl) ((Z L).gb (aH _ _ none) (λk e=>by cases e)) p.heap.size 1 (⟨P,sm,of,cd,fin,d,rg⟩,.slice A u C) ((Z M).an (aH _ _ none)) (Z V) (by rfl) (by rfl) (kz (aO _ _)) (by omega) (by simp;omega) ?_;intro a7 D c7 F I Q b7;have a3:=(Z L).gb (aH p (.cells #[.int .i64 P,.int .i64 sm,.int .u64 of,.int .u64 cd,.bool fin,.string d,.slice A u C] 158) none) (λk e=>by cases e);have r:=Z b4 p F _ _ a7 D c7 t (Z G) (Z H) (Z e5) x5 a3 Q I;obtain⟨ch,cj⟩:=kJ r.1;replace⟨r,I⟩:=bA r I;refine b _ _ ?_;clear b K;refine jg (rs:=[5]) (by kernel_rfl) (by simp) ?_;refine gP rfl (λK b=>?_) jf;go_simp;refine b _ _ ?_;clear b K;refine wpAny_done (by kernel_rfl) ?_ _;go_wp2;go_roundg (l.length-t);case measure=>omega
     case rel=>exact⟨t,q,k',aw++[(⟨P,sm,of,cd,fin,d,rg⟩,.slice A u C)],a7,D,c7,rfl,a9,by simp;omega,(Z r).2.1,(Z r).2.2.1,(Z r).2.2.2.1,(Z r).2.2.2.2.1,(Z r).2.2.2.2.2,by rw[Z aC];simp,by omega⟩
    go_simp;refine b _ _ ?_;clear b K;refine jg (rs:=[0]) (by kernel_rfl) (by simp) ?_;refine gP rfl (λK b=>?_) jf;go_simp;refine b _ _ ?_;clear b K;refine jg (rs:=[4]) (by kernel_rfl) (by simp) ?_;refine gP rfl (λK b=>?_) jf;refine wZ (by rfl) _ _ (by rfl) E.heap.size _ aw (by rfl) ((Z L).gb (aH _ _ none) (λk e=>by cases e)) p.heap.size 1 (⟨P,sm,of,cd,fin,d,rg⟩,.slice A u C) ((Z M).an (aH _ _ none)) (Z V) (by rfl) (by rfl) (kz (aO _ _)) (by omega) (by simp;omega) ?_;intro a7 D c7 F I Q b7;have a3:=(Z L).gb (aH p (.cells #[.int .i64 P,.int .i64 sm,.int .u64 of,.int .u64 cd,.bool fin,.string d,.slice A u C] 158) none) (λk e=>by cases e);have r:=Z b4 p F _ _ a7 D c7 t (Z G) (Z H) (Z e5) x5 a3 Q I;obtain⟨ch,cj⟩:=kJ r.1;replace⟨r,I⟩:=bA r I;refine b _ _ ?_;clear b K;refine jg (rs:=[5]) (by kernel_rfl) (by simp) ?_;refine gP rfl (λK b=>?_) jf;go_simp;refine b _ _ ?_;clear b K;refine wpAny_done (by kernel_rfl) ?_ _;go_wp2;go_roundg (l.length-t);case measure=>omega
    case rel=>exact⟨t,q,k',aw++[(⟨P,sm,of,cd,fin,d,rg⟩,.slice A u C)],a7,D,c7,rfl,a9,by simp;omega,(Z r).2.1,(Z r).2.2.1,(Z r).2.2.2.1,(Z r).2.2.2.2.1,(Z r).2.2.2.2.2,by rw[Z aC];simp,by omega⟩
  obtain rfl:q=l.length:=by omega
  have dn:¬(l.length:Int)<(n:Int):=by have:=Z hn;omega
  obtain⟨z0,zf⟩:=kJ N;obtain⟨z1,zg⟩:=kJ S;obtain⟨k',rfl⟩:∃k',k=k'+1:=⟨k-1,by omega⟩
  have aC:fN l=(some (aw.map (·.1)),-1):=by
   rw[a2];simp only[iH]
   rw[iN_]
  have ew:i≠s:=by have:=Z z;omega
  have ey:=J (Z z);replace⟨aC,a2,a0,N,S,a1⟩:=nZ aC a2 a0 N S a1;go_wp2_with fail;have l1:=heap_set (o:=0) (Z N) (.slice a m c);have l2:=(dF wr ⟨i,0,none⟩ (.slice a m c) s (by show s≠i;omega)).trans (Z S);have l3:=heap_set (o:=0) l2 .nilIface;have l4:=(dF (wr.setCell ⟨i,0,none⟩ (.slice a m c)) ⟨s,0,none⟩ .nilIface i (by show i≠s;omega)).trans l1;refine leaves_cons (f:=187) (args:= #[.pointer (some ⟨X,0,none⟩),.pointer (some ⟨i,0,none⟩),.pointer (some ⟨s,0,none⟩)]) (by simp) (by simp[go_sem]) ?_;apply(Mz X i s _).mono;rintro e u' ez⟨rfl,rfl,rfl⟩;have hO:=((Z a1).gb (aK (aB wr _) ⟨i,0,none⟩ (.slice a m c) (.inr rfl)) (λk e=>by cases e;show i<E.heap.size;have:=Z z;omega)).gb (aK (aB _ _) ⟨s,0,none⟩ .nilIface (.inr rfl)) (λk e=>by cases e;show s<E.heap.size;have:=Z z;omega);refine⟨_,DR _ _ i s (.slice a m c) .nilIface rfl rfl (kJ l4).1 (kJ l3).1,aK (aK ca _ _ (.inl (by show w.heap.size<=i;have:=Z z;omega))) _ _ (.inl (by show w.heap.size<=s;have:=Z z;omega)),.inl ⟨aw,a,m,c,Z aC,rfl,hO.lower cx.size⟩⟩
def OQ(w:World)(X:Nat)(sl:Value)(p:Nat)(bad:Bool):Prop:=w.heap[X]?=some (.cells #[sl,.int .i64 p,.bool bad] 218 (0,0))
structure OR(w:World)(X a o n cap:Nat)(l:List Int)(p:Nat)(bad:Bool):Prop where
 x:OQ w X (.slice (some ⟨a,o,none⟩) n cap) p bad
 b:bI w (some ⟨a,o,none⟩) n cap l
 xb:a≠X
 hp:p<=l.length
 hl:l.length<=100000000
structure ST(w:World)(X Y bb o n cap:Nat)(l:List Int)(W:World)(q:Nat)(bad:Bool)(v0 v1 v2 v3 v4 v5 v6:Value):Prop where
 rc:OR W X bb o n cap l q bad
 y:W.heap[Y]?=some (.cells #[v0,v1,v2,v3,v4,v5,v6] 158 (0,0))
 g:w.grownBy W (some X)
 r:W.heap[w.heap.size]?=some (.cells #[.int .i64 0,.int .i64 0,.int .u64 0,.int .u64 0,.bool false,.string {data:= #[]},.slice none 0 0] 158 (0,0))
 xy:X<w.heap.size
 wy:w.heap.size<Y
 Sw:bb<w.heap.size
section
variable {w:World} {X Y bb o n cap:Nat} {l:List Int} {W W':World} {q q':Nat} {bad bad':Bool} {v0 v1 v2 v3 v4 v5 v6:Value}
end
def Cut(w:World)(X Y b o n cap:Nat)(l:List Int)(t:Int)(p:Nat)(W:World):Prop:=
 (∃(f:Fr)(q:Nat)(A:Option Addr)(a C:Nat),fM l t (p+1)=some (f,q)/\ST w X Y b o n cap l W q false (.int .i64 f.kind) (.int .i64 f.stream) (.int .u64 f.offset) (.int .u64 f.code) (.bool f.fin) (.string f.data) (.slice A a C)/\dA W f (.slice A a C)/\(∀x,A=some x->Y<x.block))\/
 (fM l t (p+1)=none/\∃(q:Nat)(c d e k3:Int)(k4:Bool)(k5:ByteArray)(A:Option Addr)(a C:Nat),ST w X Y b o n cap l W q true (.int .i64 c) (.int .i64 d) (.int .u64 e) (.int .u64 k3) (.bool k4) (.string k5) (.slice A a C))
