import Derived.Test.YtjnmokmchdfchaaGreatDoorZWv
import Derived.Test.YtjnmokmchdfchaaGreatDoorZWw
set_option maxRecDepth 1000000
set_option maxHeartbeats 0
set_option linter.all false
namespace Go.Proofs.YtjnmokmchdfchaaGreatDoor
open Go.RowKit Tryz
attribute[local go_sem↓]Go.wp_at_zero Go.wp_at_succ
variable{i j k m n:Nat}{X:Sd}{W v w:World}{s:aB}
structure cG(V:aB)(n:Nat):Prop where
 ex:∃s Q,V.st=.aL s/\cM V s Q/\cF s n
 B:fO V
 rX:V.n<=10*n
 tk:∀i,i<V.n->0<=(V.p i).tick/\(V.p i).tick<=n
 an:V.aV<=n
theorem qG{a:Sd}(h:cF X n)(b:n<=100000){q:gK}(c:aR q.code){r:Rs}(e:aK.do (.aL X) q=(r,.aL a)):cF a (n+1):=by
 have:=MB (st:=.aL X) h b q c;rw[e]at this;exact this
theorem fO.tk(h:fO s)(a:aK)(b:Nat->Prop)(c:Nat->Option Nat)(d:Bool):fO (iG s a b c d):=by
 unfold iG;split;have:=h.re (qE s.p s.n);exact⟨this.n,this.pt,this.pl,this.sz⟩
 exact⟨h.n,h.pt,h.pl,h.sz⟩
theorem cG.tick(h:cG s n)(j:n<=99999):∃d,s.st.do ⟨4,0,0,0,⟨#[]⟩⟩=(⟨0,-1,0,0,[],[]⟩,d)/\(0<=s.now/\s.now<=1000000)/\(1<=s.wait/\s.wait<=32)/\∀b c,cG (iG s d b c (iU s.p (s.now+1) s.wait s.n)) (n+1):=by
 obtain⟨a,Q,f,W,S⟩:=h.ex;have hd:aK.do (.aL a) ⟨4,0,0,0,⟨#[]⟩⟩=(⟨0,-1,0,0,[],[]⟩,.aL a.jf):=by unfold aK.do;simp[aK.tick]
 have g:=S.tick;rw[W.tick]at g;refine⟨.aL a.jf,by rw[f];exact hd,by omega,by have:=W.wt;omega,λb c=>⟨⟨a.jf,Q,?_,W.OK _ b c,qG S (by omega) (by simp[aR]) hd⟩,h.B.tk _ _ _ _,?_,λi hi=>?_,?_⟩⟩
 unfold iG;split<;>rfl;have:(iG s (.aL a.jf) b c (iU s.p (s.now+1) s.wait s.n)).n=s.n:=by unfold iG;split<;>rfl
 rw[this];have:=h.rX;omega;have hi:i<s.n:=by
  have:(iG s (.aL a.jf) b c (iU s.p (s.now+1) s.wait s.n)).n=s.n:=by unfold iG;split<;>rfl
  rw[this]at hi;exact hi
 have e:((iG s (.aL a.jf) b c (iU s.p (s.now+1) s.wait s.n)).p i).tick=(s.p i).tick:=by
  unfold iG;split;exact(tw s.p s.n i).2.2;rfl
 rw[e];have:=h.tk i hi;omega;have:(iG s (.aL a.jf) b c (iU s.p (s.now+1) s.wait s.n)).aV=s.aV:=by unfold iG;split<;>rfl
 rw[this];have:=h.an;omega
theorem cG.same(h:cG s n){st':aK}(b:st'=s.st)(hs:∀a,s.st=.aL a->cF a m)(f:n<=m)(c:Nat->Prop)(d:Nat->Option Nat):cG {s with st:=st',A:=c,tag:=d} m:=by
 obtain⟨a,Q,e,W,S⟩:=h.ex;have:=h.rX;have:=h.an;exact⟨⟨a,Q,by rw[b];exact e,W.mem ⟨rfl,rfl,rfl,rfl,rfl,rfl,rfl,rfl,rfl⟩,hs a e⟩,⟨h.B.n,h.B.pt,h.B.pl,h.B.sz⟩,by show s.n<=_;omega,λi hi=>by have:=h.tk i hi;show 0<=(s.p i).tick/\(s.p i).tick<=_;omega,by show s.aV<=_;omega⟩
theorem fO.grow(h:fO s){k:Nat}(d:Src)(l:(s.o k).n<=d.n)(hs:d.n<=1000000):fO {s with o:=aw s.o k d}:=by
 refine⟨h.n,λi hi q f=>?_,h.pl,λj g=>?_⟩
 obtain⟨a,b,c⟩:=h.pt i hi q f;refine⟨a,b,?_⟩
 show q.en<=(aw s.o k d q.st).n;by_cases e:q.st=k;rw[e,bm];rw[e]at c;omega;rw[bq _ _ e];exact c;show(aw s.o k d j).n<=_;by_cases e:j=k;rw[e,bm];exact hs;rw[bq _ _ e];exact h.sz j g
theorem cG.fin(h:cG s n)(r:n<=99999)(l:k<4):
 ((s.o k).finished=true->s.st.do ⟨2,(k:Int),0,0,⟨#[]⟩⟩=(⟨3,-1,0,0,[],[]⟩,s.st)/\∀a b,cG {s with A:=a,tag:=b} (n+1))/\
 ((s.o k).finished=false->∃f,s.st.do ⟨2,(k:Int),0,0,⟨#[]⟩⟩=(⟨0,-1,0,0,[],[]⟩,f)/\∀a b,cG {s with st:=f,A:=a,tag:=b,o:=aw s.o k {s.o k with finished:=true}} (n+1)):=by
 obtain⟨m,Q,g,W,S⟩:=h.ex;obtain⟨f1,f2⟩:=W.finish l;refine⟨λj=>?_,λj=>?_⟩
 have hd:=f1 j;refine⟨by rw[g];exact hd,λa b=>?_⟩
 exact h.same (st':=s.st) rfl (λc e=>by
  have:c=m:=by rw[g]at e;exact(aK.aL.inj e).symm
  rw[this];exact qG S (by omega) (by simp[aR]) hd) (by omega) a b
 obtain⟨c,hd,q⟩:=f2 j;have:=h.rX;have:=h.an;have d:=h.B.grow (k:=k) {s.o k with finished:=true} (aI _) (h.B.sz k l);exact⟨.aL c,by rw[g];exact hd,λa b=>⟨⟨c,Q,rfl,q.mem ⟨rfl,rfl,rfl,rfl,rfl,rfl,rfl,rfl,rfl⟩,qG S (by omega) (by simp[aR]) hd⟩,⟨d.n,d.pt,d.pl,d.sz⟩,by show s.n<=_;omega,λi hi=>by have:=h.tk i hi;show 0<=(s.p i).tick/\(s.p i).tick<=_;omega,by show s.aV<=_;omega⟩⟩
theorem cG.told{n:Nat}(h:cG s n)(d:n<=99990):∃p:Nat->Nat,(∀k:Nat,k<4->s.st.ag (k:Int)=((p k:Int),0))/\(∀k,k<4->vI (s.o k) (p k)):=by
 obtain⟨b,Q,c,W,S⟩:=h.ex;refine⟨λk=>(b.out k).h.fr.toNat,λk a=>?_,λk a=>(W.pre S.out a).1⟩
 rw[c];unfold aK.ag;simp only
 rw[ay (by omega),jP,(W.pre S.out a).2]
theorem cG.qH(h:cG s n):eh n s.st:=by
 obtain⟨b,Q,a,W,S⟩:=h.ex;rw[a];exact S
theorem cG.Pb(w:World)(sb:Nat)(h:cG s n)(p:n<=99990)(H:bH w sb s)(d:Laid w):
 Calls prog 58 #[.pointer (some ⟨sb,0,none⟩)] w λe b=>e=.returned (.tuple #[])/\∃a,aY w sb s a b/\cG a (n+1)/\a.n=s.n/\a.st=(s.st.do ⟨4,0,0,0,⟨#[]⟩⟩).2:=by
 obtain⟨f,hd,g,j,k⟩:=h.tick (by omega);obtain⟨q,Q,r,W,S⟩:=h.ex;refine(NT w sb s H d W.c h.B n h.qH (by omega) _ f hd g j (λi hi=>by have:=h.tk i hi;omega)).mono ?_;rintro e b⟨rfl,l,m,T⟩;exact⟨rfl,_,T,k l m,by unfold iG;split<;>rfl,by rw[hd];unfold iG;split<;>rfl⟩
theorem cG.Pd(w:World)(sb:Nat)(h:cG s n)(c:n<=99990)(H:bH w sb s)(d:Laid w):
 Calls prog 27 #[.pointer (some ⟨sb,0,none⟩)] w λe b=>e=.returned (.bool true)/\∃a,aY w sb s a b/\cG a n/\a.n=s.n:=by
 obtain⟨p,f,g⟩:=h.told c;refine(NU w sb s H d h.B n h.qH (by omega) p f g).mono ?_;rintro e b⟨rfl,i,j,T⟩;obtain⟨k,Q,l,W,S⟩:=h.ex;refine⟨rfl,_,T,h.same (st':=s.st) rfl (λm e=>?_) (aI _) i j,rfl⟩
 have:m=k:=by rw[l]at e;exact(aK.aL.inj e).symm
 rw[this];exact S
theorem cG.DG(w:World)(sb:Nat){n:Nat}(h:cG s n)(D:n<=99990)(H:bH w sb s)(r:Laid w)(a:k<4)(b:ByteArray)(v:b.size<=100000):
 Calls prog 24 #[.pointer (some ⟨sb,0,none⟩),.int .i64 k,.string b] w λe q=>e=.returned (.bool true)/\∃f,aY w sb s f q/\cG f (n+1)/\f.n=s.n/\f.st=(s.st.do ⟨1,(k:Int),0,0,b⟩).2:=by
 obtain⟨x,Q,c,W,S⟩:=h.ex;obtain⟨f1,f2⟩:=W.write S.out S.oX a b;have y:=S.ai;rw[W.ai]at y;cases g:(s.o k).finished with
 |true=>
  have hd:=f1 g;refine(NZ w sb s H r k a b (by omega) n h.qH (by omega) g (by rw[c];exact hd)).mono ?_;rintro e q⟨rfl,t,u,T⟩;refine⟨rfl,_,T,h.same (st':=s.st) rfl (λl e=>?_) (by omega) t u,rfl,by rw[c,hd]⟩
  have:l=x:=by rw[c]at e;exact(aK.aL.inj e).symm
  rw[this];exact qG S (by omega) (by simp[aR]) hd
 |false=>
  obtain⟨d,l,z,hd,A,F⟩:=f2 g;refine(N3 w sb s H r k a b v n h.qH (by omega) g (by omega) (W.out k a).sz (by omega) _ (W.pre S.out a).1 d z (λj C=>W.beyond a C) (.aL l) (by rw[c];exact hd)).mono ?_;rintro e q⟨rfl,t,u,G,T⟩;have:=h.rX;have:=h.an;have m:=h.B.grow (k:=k) {s.o k with wrote:=(s.o k).wrote++b.extract 0 d,n:=(s.o k).n+d} (by show(s.o k).n<=(s.o k).n+d;omega) (by show(s.o k).n+d<=_;omega);exact⟨rfl,_,T,⟨⟨l,Q,rfl,A.mem ⟨rfl,rfl,rfl,rfl,rfl,rfl,rfl,rfl,rfl⟩,qG S (by omega) (by simp[aR]) hd⟩,⟨m.n,m.pt,m.pl,m.sz⟩,by show s.n<=_;omega,λi hi=>by have:=h.tk i hi;show 0<=(s.p i).tick/\(s.p i).tick<=_;omega,by show s.aV<=_;omega⟩,rfl,by rw[c,hd];rfl⟩
theorem DH{lo hi:Nat}:(bu [bA [(⟨(lo:Int),(hi:Int)⟩:Rg)]]).length<=200:=by
 have h:=yP [bA [(⟨(lo:Int),(hi:Int)⟩:Rg)]];have e:fk [bA [(⟨(lo:Int),(hi:Int)⟩:Rg)]]<=200:=by simp[fk,lS,bA];exact(by decide:41+(⟨#[]⟩:ByteArray).size<=200)
 omega
theorem Pe(V:aB)(a:V.fG)(lo hi i:Nat):((j9 V lo hi).p i).tick=(V.p i).tick/\((j9 V lo hi).p i).parts=(V.p i).parts:=by
 have N:=rV V a lo (hi+1-lo);have e:(j9 V lo hi).p i=bT (kE V lo (hi+1-lo)).p (hi-2) i:=rfl;rw[e,qE,(tw _ _ _).2.2,N.p];split<;>exact⟨rfl,rfl⟩
theorem cG.Pf(h:cG s n)(U:n<=99990)(f:k<=j)(u:j<s.n):
 ∃g,s.st.do ⟨6,0,0,0,strOfNums (cT s.key (sd false) s.aV (bu [bA [⟨k,j⟩]]))⟩=(⟨0,-1,0,0,[],[]⟩,g)/\∀b d,cG (j9 {s with st:=g,A:=b,tag:=d,aV:=s.aV+1} k j) (n+1):=by
 obtain⟨a,Q,v,W,S⟩:=h.ex;have l:=Dw f (show j<=1000000 by have:=h.B.n;omega);have m:∀x∈bu [bA [(⟨(k:Int),(j:Int)⟩:Rg)]],W8 x:=De l;have V:=h.an;have X:=W.aV;have q:aR s.aV:=by unfold aR;omega
 obtain⟨p,hp⟩:=exq (cT s.key (sd false) s.aV (bu [bA [(⟨(k:Int),(j:Int)⟩:Rg)]]));have w:bl (strOfNums p)=p:=Dd (by rw[hp];exact s9 m);have Y:= @DH k j;have y:gV s.key (sd false) p:=by rw[hp];exact(Dc q).2 ⟨by omega,by omega⟩
 have r:bN p=s.aV:=by rw[hp];exact yj q
 have z:List.map iF [bA [(⟨(k:Int),(j:Int)⟩:Rg)]]=[bA [(⟨(k:Int),(j:Int)⟩:Rg)]]:=by simp[iF,bA,bX];rfl
 have C:[bA [(⟨(k:Int),(j:Int)⟩:Rg)]].any mD=false:=by simp[mD,bA]
 have D:fU (eu s.key (sd false) (bN p) (bQ p))=(some [bA [(⟨(k:Int),(j:Int)⟩:Rg)]],-1):=by
  rw[r,hp,yk,Db _ _ _ _ m,C9 l (by simp),z]
 have E:sd (!a.first)=sd false:=by rw[W.first];rfl
 have F:=W.answer S f u [bA [(⟨(k:Int),(j:Int)⟩:Rg)]] C;have G:a.count=s.n:=W.cU;have hd:aK.do (.aL a) ⟨6,0,0,0,strOfNums p⟩=(⟨0,-1,0,0,[],[]⟩,.aL ((a.dr s.aV [bA [⟨k,j⟩]]).dR [⟨k,j⟩])):=by
  have H:a.recv p=(0,-1,.aL ((a.dr s.aV [bA [⟨k,j⟩]]).dR [⟨k,j⟩])):=by
   unfold Sd.recv;rw[E,W.key,D,ay (λe=>e y),r,ay (by rw[W.num _ (fI _)];simp)];have I:[bA [(⟨(k:Int),(j:Int)⟩:Rg)]].any a.kC=false:=by simp[Sd.kC,bA]
   simp only
   rw[I];have K:gJ (a.dr s.aV [bA [(⟨(k:Int),(j:Int)⟩:Rg)]]) [bA [(⟨(k:Int),(j:Int)⟩:Rg)]]=(0,(a.dr s.aV [bA [⟨k,j⟩]]).dR [⟨k,j⟩]):=by
    have L:Sd.take (a.dr s.aV [bA [(⟨(k:Int),(j:Int)⟩:Rg)]]) (bA [(⟨(k:Int),(j:Int)⟩:Rg)])=(0,(a.dr s.aV [bA [⟨k,j⟩]]).dR [⟨k,j⟩]):=by
     unfold Sd.take;rw[aM (show(bA [(⟨(k:Int),(j:Int)⟩:Rg)]).kind=3 from rfl)];exact ay (show¬(a.count<=(j:Int)) by rw[G];omega)
    rw[vw,L];rfl
   rw[K];simp
  unfold aK.do;simp only[aK.recv,w,H]
  simp
 refine⟨_,by rw[v];rw[<-hp];exact hd,λb d=>?_⟩
 have O:({s with aV:=s.aV+1}:aB).fG:=W.c;have N:=rV {s with st:=.aL ((a.dr s.aV [bA [⟨k,j⟩]]).dR [⟨k,j⟩]),A:=b,tag:=d,aV:=s.aV+1} W.c k (j+1-k);have P:fO {s with st:=.aL ((a.dr s.aV [bA [⟨k,j⟩]]).dR [⟨k,j⟩]),A:=b,tag:=d,aV:=s.aV+1}:=⟨h.B.n,h.B.pt,h.B.pl,h.B.sz⟩
 have R:=(N.B P).re (qE _ (j-2));refine⟨⟨_,Q,?_,?_,qG S (by omega) (by simp[aR]) hd⟩,R,?_,λi t=>?_,?_⟩
 exact N.mem.2.2.1;have M:Mem (j9 {s with aV:=s.aV+1} k j) (j9 {s with st:=.aL ((a.dr s.aV [bA [⟨k,j⟩]]).dR [⟨k,j⟩]),A:=b,tag:=d,aV:=s.aV+1} k j):=by
  have N0:=rV {s with aV:=s.aV+1} O k (j+1-k);have key:∀c,(kE {s with st:=.aL ((a.dr s.aV [bA [⟨k,j⟩]]).dR [⟨k,j⟩]),A:=b,tag:=d,aV:=s.aV+1} k c)={kE {s with aV:=s.aV+1} k c with st:=.aL ((a.dr s.aV [bA [⟨k,j⟩]]).dR [⟨k,j⟩]),A:=b,tag:=d}:=by
   intro c;induction c with
   |zero=>rfl
   |succ c T=>show nU _ _=_;rw[T];rfl
  unfold j9;rw[key];exact⟨rfl,rfl,rfl,rfl,rfl,rfl,rfl,rfl,rfl⟩
 exact F.mem M;show(j9 _ k j).n<=_;have:(j9 {s with st:=.aL ((a.dr s.aV [bA [⟨k,j⟩]]).dR [⟨k,j⟩]),A:=b,tag:=d,aV:=s.aV+1} k j).n=s.n:=N.n;rw[this];have:=h.rX;omega;have e:(j9 {s with st:=.aL ((a.dr s.aV [bA [⟨k,j⟩]]).dR [⟨k,j⟩]),A:=b,tag:=d,aV:=s.aV+1} k j).n=s.n:=N.n;rw[e]at t;rw[(Pe {s with st:=.aL ((a.dr s.aV [bA [⟨k,j⟩]]).dR [⟨k,j⟩]),A:=b,tag:=d,aV:=s.aV+1} W.c k j i).1];have:=h.tk i t;show 0<=(s.p i).tick/\(s.p i).tick<=_;omega;have e:(j9 {s with st:=.aL ((a.dr s.aV [bA [⟨k,j⟩]]).dR [⟨k,j⟩]),A:=b,tag:=d,aV:=s.aV+1} k j).aV=s.aV+1:=N.aV;rw[e];omega
theorem cG.Pg(w:World)(sb:Nat)(h:cG s n)(m:n<=99990)(H:bH w sb s)(p:Laid w)(b:k<=i)(d:i<s.n):
 Calls prog 59 #[.pointer (some ⟨sb,0,none⟩),.int .i64 k,.int .i64 i] w λe f=>e=.returned (.bool true)/\∃a,aY w sb s a f/\cG a (n+1)/\a.n=s.n:=by
 obtain⟨g,hd,q⟩:=h.Pf m b d;obtain⟨r,Q,t,W,S⟩:=h.ex;have u:=h.an;have v:=W.aV;refine(O9 w sb s H p W.c h.B k i b d n h.qH (by omega) (by omega) g hd DH).mono ?_;rintro e f⟨rfl,j,l,T⟩;refine⟨rfl,_,T,q j l,?_⟩
 have N:=rV {s with st:=g,A:=j,tag:=l,aV:=s.aV+1} W.c k (i+1-k);exact N.n
structure Bt where
 kind:Int
 a:Int
 b:Int
 s:ByteArray
structure Bt.ok(x:Bt):Prop where
 kind:gC x.kind
 a:gC x.a
 b:gC x.b
 len:x.s.size<=100000
def fQ(x:Bt):Array Value:= #[.int .i64 x.kind,.int .i64 x.a,.int .i64 x.b,.string x.s]
def iW(w:World)(sb:Nat)(V:aB)(n:Nat)(e:Ending)(c:World):Prop:=e=.returned (.bool true)/\∃b a,aY w sb V b c/\cG b a/\n<=a/\a<=n+80
def tx:Prop:=∀(w:World)(sb:Nat)(V:aB)(n:Nat),cG V n->n<=99990->bH w sb V->Laid w->Calls prog 25 #[.pointer (some ⟨sb,0,none⟩)] w λe b=>e=.returned (.bool true)/\∃a,aY w sb V a b/\cG a (n+1)/\a.st=(V.st.do ⟨5,0,0,0,⟨#[]⟩⟩).2
structure mb(w:World)(sb:Nat)(V:aB)(x:Bt)(a:World):Prop where
 e:a=w.alloc (.cells (fQ x) 72)
 T:aY w sb V V a
 b:a.heap[w.heap.size]?=some (.cells (fQ x) 72 (0,0))
 t:V.tag w.heap.size=none
theorem mb.mk'(H:bH w n s)(a:Laid w)(x:Bt):∃b,mb w n s x b:=
 ⟨_,rfl,aY.refl H (aC _ _ none) a,aH _ _,H.fresh (aI _)⟩
theorem mb.cells{V:aB}{x:Bt}(S:mb w n V x W){d:aB}(T:aY W n V d v):v.cell? ⟨w.heap.size,0,none⟩=some (.int .i64 x.kind)/\v.cell? ⟨w.heap.size,1,none⟩=some (.int .i64 x.a)/\v.cell? ⟨w.heap.size,2,none⟩=some (.int .i64 x.b)/\v.cell? ⟨w.heap.size,3,none⟩=some (.string x.s):=by
 have c:=(T.aq.block w.heap.size (aO.1 S.b).1 (λh=>h S.t)).trans S.b;unfold fQ at c;simp[World.cell?,c]
theorem mb.refl{x:Bt}(S:mb w n s x W):aY W n s s W:=aY.refl S.T.at_ (av _ _) S.T.laid
theorem Ph(w:World)(sb:Nat){V:aB}(h:cG V n)(B:n<=99900)(H:bH w sb V)(d:Laid w)(x:Bt)(c:x.ok)(r:x.kind=1):
 Calls prog 26 #[.pointer (some ⟨sb,0,none⟩),.agg (fQ x)] w (iW w sb V n):=by
 obtain⟨f,S⟩:=mb.mk' H d x;obtain⟨d0,d1,d2,d3⟩:=S.cells S.refl;obtain⟨k,i⟩:=exq (jL x.a 4);have t:k<4:=by have:=l7 x.a (p:=4) (by decide);omega
 have C:(0:Int)<=(k:Int):=by omega
 have D:(k:Int)<4:=by omega
 have j:=J (l8 x.a 4 f c.a.1 c.a.2 (by decide) (by decide));rw[<-i]at j;clear i;have u:=J (h.DG f sb (by omega) S.T.at_ S.T.laid t x.s c.len);have l:=J (λ(m:World)(q:∃b,aY f sb V b m/\cG b (n+1))=>(show iW w sb V n (.returned (.bool true)) m from q.elim (λb q=>⟨rfl,b,n+1,S.T.trans q.1,q.2,by omega,by omega⟩)));obtain⟨P,g⟩:=exq (iW w sb V n);rw[<-g]at l⊢;replace g:=J g;have p:=S.e;replace S:=J S;replace H:=J H;replace d:=J d;replace h:=J h;replace c:=J c;obtain⟨kind,E,F,str⟩:=x;simp only at *;subst r;unfold fQ at *;simp only at *;go_enter func26,ntmps26;go_upto_region 1 with fail;rw[<-p];clear p;go_upto_region 2 with(go_at_call 23;refine(Z j).mono ?_;rintro e G⟨rfl,rfl⟩)
 go_wp2_with (go_at_call 24;refine(Z u).mono ?_;rintro e v⟨rfl,b,y,z,-⟩;have A:=J (Z l v ⟨b,y,z⟩));exact Z A
theorem Pj(w:World)(sb:Nat)(h:cG s n)(B:n<=99900)(H:bH w sb s)(d:Laid w)(x:Bt)(c:x.ok)(r:x.kind=4)(t:tx):
 Calls prog 26 #[.pointer (some ⟨sb,0,none⟩),.agg (fQ x)] w (iW w sb s n):=by
 obtain⟨f,S⟩:=mb.mk' H d x;obtain⟨d0,d1,d2,d3⟩:=S.cells S.refl;obtain⟨k,i⟩:=exq (jL x.a 4);have C:k<4:=by have:=l7 x.a (p:=4) (by decide);omega
 have D:(0:Int)<=(k:Int):=by omega
 have E:(k:Int)<4:=by omega
 have j:=J (l8 x.a 4 f c.a.1 c.a.2 (by decide) (by decide));rw[<-i]at j;clear i;have u:=J (t f sb s n h (by omega) S.T.at_ S.T.laid);have l:=J (λ(m:World)(q:∃b,aY f sb s b m/\cG b (n+1))=>(show iW w sb s n (.returned (.bool true)) m from q.elim (λb q=>⟨rfl,b,n+1,S.T.trans q.1,q.2,by omega,by omega⟩)));obtain⟨P,g⟩:=exq (iW w sb s n);rw[<-g]at l⊢;replace g:=J g;have p:=S.e;replace S:=J S;replace H:=J H;replace d:=J d;replace h:=J h;replace c:=J c;obtain⟨kind,F,G,str⟩:=x;simp only at *;subst r;unfold fQ at *;simp only at *;go_enter func26,ntmps26;go_upto_region 1 with fail;rw[<-p];clear p;go_upto_region 2 with(go_at_call 23;refine(Z j).mono ?_;rintro e I⟨rfl,rfl⟩)
 go_wp2_with (go_at_call 25;refine(Z u).mono ?_;rintro e v⟨rfl,b,y,z,-⟩;have A:=J (Z l v ⟨b,y,z⟩));exact Z A
theorem Pm(w:World)(sb:Nat)(h:cG s n)(p:n<=99900)(H:bH w sb s)(c:Laid w)(x:Bt)(b:x.ok)(m:x.kind≠1/\x.kind≠2/\x.kind≠3/\x.kind≠4/\x.kind≠5):
 Calls prog 26 #[.pointer (some ⟨sb,0,none⟩),.agg (fQ x)] w (iW w sb s n):=by
 obtain⟨f,S⟩:=mb.mk' H c x;obtain⟨d0,d1,d2,d3⟩:=S.cells S.refl;obtain⟨k,g⟩:=exq (jL x.a 4);have q:k<4:=by have:=l7 x.a (p:=4) (by decide);omega
 have r:(0:Int)<=(k:Int):=by omega
 have t:(k:Int)<4:=by omega
 have i:=J (l8 x.a 4 f b.a.1 b.a.2 (by decide) (by decide));rw[<-g]at i;clear g;have j:=J (show iW w sb s n (.returned (.bool true)) f from⟨rfl,s,n,S.T,h,by omega,by omega⟩);obtain⟨P,d⟩:=exq (iW w sb s n);rw[<-d]at j⊢;replace d:=J d;have l:=S.e;replace S:=J S;replace H:=J H;replace c:=J c;replace h:=J h;replace b:=J b;obtain⟨kind,u,v,str⟩:=x;simp only at *;obtain⟨y,z2,z,A,B⟩:=m;unfold fQ at *;simp only at *;go_enter func26,ntmps26;go_upto_region 1 with fail;rw[<-l];clear l;go_upto_region 2 with(go_at_call 23;refine(Z i).mono ?_;rintro e C⟨rfl,rfl⟩)
 go_wp2_with fail;exact Z j
